import PyProof.Rows.All
import Wide.All
import OpenK.AllK
import PyProof.ToksMono
import Wide.FinOn
import Lean
import PyProof.EqAt
import PyProof.EqKinds
import PyProof.TupleCall
import PyProof.Rows.SetFrom
import KE.KDictList
import KE.KMinKey
import PyProof.ListRange
import KE.KIntText
import PyProof.StrCalls6
import PyProof.ReprRoads
import PyProof.Rows.TupTab
import PyProof.TupleOfSeq
import PyProof.Rows.SortStr
import PyProof.Rows.SortWalk
import KE.KRevIter
import PyProof.TupleOfGen
import PyProof.StrBlockL
import PyProof.Rows.StrSplitCount
import PySem.Challenge.RW_leastasks_k15_texts_refused
set_option Elab.async false
set_option linter.all false
set_option maxRecDepth 100000
set_option maxHeartbeats 4000000
set_option genSizeOf false
set_option genInjectivity false
abbrev zo:=List Int
open Option renaming some→aa,none→ag,isSome_some→fm,bind→fS,map_some→g9,join_some→iX,getD_none→iY
open Bool renaming false→ae,true→af,and_false→dC,not_eq_true'→dP,eq_iff_iff→eN,true_and→hU,false_or→hZ,false_and→ky,or_false→kK,and_true→kL
open PySem renaming starEach→ah,wpAny_bind→ai,Value→aj,Addr→ak,Str→ao,Shared→aq,Expr→ar,sizeLine→au,mainGlobals→aw,wpAny→ay,wpAny_pure→az,Program→aA,model→aB,eval→aD,World→aH,Around→aI,reprText→aK,Heap→aL,FuncData→aN,swapsWith→aO,Pos→aR,backTo→aS,Stmt→aU,behindInMarks→aV,cellsFrom→aX,attributeBase→aY,wpAny_field→b0,foldedSetIterable→b8,wpAny_Call_Name_kw→b9,Keyword→bb,keywordEach→bg,assignEach→bp,wpAny_seqItems→bq,compareOp→bu,wpAny_mono→bB,wpAny_holding→bD,wpAny_callSpecial?_slot→bG,cLine→bH,Scope→bJ,IsPair→bK,sizeLine_eq→bN,binaryOp→bO,wpAny_setField_rec→bQ,NameKind→bR,wpAny_truthy_bool→bS,backToKw→bU,call_meets→bX,JoinOk→bZ,Builtin→c7,recursionLimit→c8,wpAny_passesOwn→cj,intText?→cq,mem_of_lookup→cz,typeIs_str→cE,wpAny_call_entry→cI,codeAny_mono→cJ,boot_len→cP,codeAny→cQ,Obj→cT,wpAny_pyIter_list→cX,newFunctionEnv→cY,bootBuiltins→cZ,Env→d8,swapsWithSole→dh,swappedStores→di,sliceBounds→dq,ZipApart→dr,noteFrame→dR,builtinsNs→dW,bindArgs→dX,IsZip→eB,wpAny_attempt→eF,pyNext→eG,assign→eJ,PassesOwn→eR,rawInt→fc,isTrue→fg,holding→fh,wpAny_execs_nil→fj,letOwnedTupleGo→fk,wpAny_updateSeq_pair→fC,Result→fE,GenState→fF,wpAny_standAt→fX,wpAny_onRaise→fY,field→fZ,wpAny_pyIter_tuple→gk,wpAny_call→gn,typeIs_int→gp,sysModules→gq,draw→gr,wpAny_newObj_type→gC,wpAny_loadPart_at→gD,standAt→gE,concat_meets→gG,callerA→gH,call→gI,Model→gJ,BindsTo→gN,wpAny_pyIter_zip→gX,noFill_tuple_add→gY,codeAny_builtin→i3,Within→i4,spliced→ia,wpAny_rule→ik,wpAny_newFunctionEnv_cells→il,CmpOp→ip,wpAny_binaryOp_repeat_ref→iC,Tok→iD,wpAny_comprehension_free→iJ,seq_tuple_add→iK,Sem→iL,storeName→iR,pushCells→iS,getMethod→iT,bindL→iU,bindC→iV,Arguments→iW,wpAny_pyNext_list_item→jC,wpAny_noteFrame_againW→jD,seqSlot_of→jE,wpAny_setFlight_noneW→jL,wpAny_pyNext_list_end→jM,wpAny_formatField_str→jN,codeAny_call_function→jO,builtinLookup_eq_fast→jP,wpAny_letGo→jU,rule→jV,lookup_relabel_local→jW,getAttr?→jX,codeAny_call_builtin→jY,Operator→jZ,wpAny_Name→kC,typeLookup→kD,truthy→kE,pyIter→kF,getattributeRaised→kH,IsPart→kI,wpAny_assign_Name→kT,relabel→kU,call_sum_walkAnyS→kW,again→kX,wpAny_isInstance→lS,wpAny_execs_cons→lT,setFlight→lU,lastMarks→lV,checkBuiltinCall→lW,DictEntry→lX,wpAny_with_toks→mK,typeLookup_type→mM,pushCells_keeps→mO,Fin→mP,wpAny_setField→mY,wpAny_newTuple→mZ,wpAny_loadPart→n6,isSubtype_stop→nh,firstArgMember→ni,compEnvC→nj,Params→nk,Meets→nr,plainId_quiet→nB,intBits_le_64→nC,evalPart_none→nD,call_list_seq→nE,assignInOrder→nF
open List renaming replicate→ax,range→aZ,getElem_mem→cw,getElem?_append_left→cB,filterMap_cons→cC,foldl_cons→cK,set_cons_zero→cL,mem_singleton_self→cO,take_length→cV,foldl→cW,all_cons→d7,lookup→d9,find?_cons→de,mem_map_of_mem→df,idxOf_lt_length_of_mem→dj,set_cons_succ→dw,getElem?_append_right→dy,forIn_nil→dz,drop_drop→dB,extract_eq_drop_take→dG,drop_eq_getElem_cons→dH,take_add_one→dN,getElem?_set→dO,getElem?_cons_succ→dZ,all_map→eD,of_mem_zip→eM,getElem?_set_ne→eX,zip_cons_cons→fv,map_replicate→fw,map→fJ,ext_getElem?→fK,any_eq_false→fM,map_id→gu,length_zip→gw,nodup_nil→gR,filter_cons_of_pos→i6,filter_cons_of_neg→i7,range_succ_eq_map→ic,getElem?_set_self→ie,take_append_drop→iu,singleton_append→iv,set_getElem_self→iw,length_singleton→iy,length_replicate→iz,length_filter_le→iA,length→iE,getElem?_mapIdx→iF,getElem?_range→iN,getD_cons_succ→iO,forIn_toArray→iZ,foldl_toArray→j3,filter_append→ja,take_sublist→jG,reverse_cons→jH,pairwise_map→jI,zipIdx_cons→jR,any_toArray→jS,zipIdx_nil→ke,map_take→kJ,Nodup→mS
open PySem.Txt renaming split→aC,replace→ba,slice→bj,mul→bP,join→c9
open PySem.Builtin.Str renaming strSliceIndices→aE,subAt→aT,occurrences→b7,tooLong→bh,strKind→cS,glued→dU,partsBetween→fb
open PySem.Str renaming ofString→aF,empty→dt,join→eY,length→gS,cps→lG
open PySem.Builtin.SmallTypes renaming nextOf→aG,ownedTupleIsFree→aM,ownedTupleHandOut→du
open Option.some renaming inj→aJ
open PySem.Value renaming ref→aQ,str→bC,none→cG,builtin→cU,bool→dm,int→eV,isStrOf→kg,float→kM,bytes→kN,type→lq
open False renaming elim→aW
open Or renaming inl→bc,inr→cg
open PySem.W renaming nsIn→bo,OpenLaw→dQ,findIn→ig,WalkO→iH,looks_findIn→jv,Frag→mW
open PySem.StrLaws renaming occBody→bE,occ_eq→gf,join_split→gy,glued_eq_join→hJ,strSub_toList→ly,split_free→lz,reprText_len→lB,replace_one→lD
open PySem.NameKind renaming free→bF,cell→bY
open PyProof.Rows renaming envOfC→bM,AllBare→eC,boot_isinstance→i5,IntsAre→ib,cnt_cons→iq,subscriptTail_builtinR→jF,FormattedValue_plain→k8,IsTup→kY,Call_→kZ,tail_any→nu,boot_zip→nv,subscriptTail→nG
open Sum renaming inr→bV,inl→fN
open PySem.PassesOwn renaming never→bW,leaving→eZ
open PySem.Builtin.List renaming listTooLong→cf
open PySem.Heap renaming SameBut→cu,ExtBut→dJ
open ForInStep renaming yield→cx
open PySem.F renaming slot_tuple_iterator_next→cy,plainAttrs_list→cF,slot_str_split→cH,slot_list_append→cM,plainAttrs_str→cN,type_list_append→dD,args_tuple_add_2→dE,entry_tuple_add→dM,slot_tuple_add→dS,args_zip_next_1→dY,entry_zip_next→eE,slot_int_rmul→eW,slot_str_replace→f9,args_str_split_2→fP,excBase_ValueError→gh,entry_str_split→gi,type_str_split→gU,args_tuple_iterator_next_1→gW,entry_tuple_iterator_next→hR,slot_list_extend→ij,typeOf_object_class→iP,slot_str_join→iQ,args_str_replace_3→jA,args_object_init_3→jB,entry_str_replace→jK,args_tuple_mul_2→jT,entry_tuple_mul→ki,args_int_rmul_2→ko,typeCall_zip_2→kz,slot_tuple_mul→kA,entry_int_rmul→kB,newCall_zip_2→kO,fills_int_mul→kP,entry_zip_new→kQ,called_zip→mX
open Classical renaming propDecidable→cD,byContradiction→gc
open Nat renaming zero_add→cR,lt_of_le_of_lt→dF,le_of_lt→eK,mul_comm→fU,lt_succ_of_lt→fV,mul_le_mul→gZ,pow_succ→ir,mul_le_mul_right→iM,le_of_succ_le→jQ,succ_ne_zero→k9,le_add_right→ka,not_lt_zero→kr,min_eq_left→ku,add_assoc→l9,succ_mul→lY,le_of_eq→lZ,log2_lt→mQ,le_succ→mR
open PySem.Calls renaming spliced_cons→dn,evalArgs_plain→eQ,spliced_nil→fB,Name_function_global→gB,callWith_builtin→i0
open Array renaming append_inj_right→e5,toList_extract→eU,length_toList→fi,toList→fG,eq_empty_of_size_eq_zero→fW
open Ne renaming symm→eO
open List.cons renaming inj→eP
open PySem.SeqAt renaming EqAt→fq,RcAt→iI
open PySem.Around renaming under→ft,under_plainId→i9
open Sum.inr renaming inj→fH
open PySem.W.Looks renaming ld→fO,here→lj
open PySem.Builtin.Dict renaming updateFrom→fQ,selfAndRest→mH,pairItems→mJ
open Pure renaming pure→g6
open PySem.Sem renaming wp_mono→gv,wp_bind'→lH
open PySem.Heap.SameBut renaming update→gz,refl→gT
open List.Pairwise renaming nil→gO,imp_of_mem→m6,imp→m7
open PySem.Code renaming isFrame→i8,isGuard→kR,frames→lR
open Int renaming ediv_eq_zero_of_lt→iB,add_mul_ediv_left→iG,natCast_nonneg→jJ,mul_assoc→lh,ne_of_gt→ma,pow_pos→mU,mul_one→mV
open PySem.EqMixed renaming ne_str_int→lI,ne_str_bool→lJ,ne_int_str→lK,ne_bool_str→lL,eq_str_int→lM,eq_str_bool→lN,eq_int_str→lO,eq_bool_str→lQ
open PySem.EqNone renaming ne_str_none→mf,ne_none_str→mh,ne_none_none→mi,ne_none_int→mn,ne_none_bool→mr,ne_int_none→mw,ne_bool_none→my,eq_str_none→mz,eq_none_str→mB,eq_none_none→mC,eq_none_int→mD,eq_none_bool→mE,eq_int_none→mF,eq_bool_none→mG
def kh:=@List.mem_cons_of_mem
def kj:=@PySem.Heap.get?_push_of_some
def km:=@List.mem_cons_self
def xf:=@List.getElem?_eq_getElem
def xj:=@List.mem_cons
def xm:=@List.length_map
def xn:=@List.length_cons
def xq:=@Bool.false_ne_true
def xu:=@List.mem_singleton
def xx:=@List.getD_eq_getElem?_getD
def X3:=@Bool.and_eq_true
def X4:=@PySem.Heap.lt_size
def X5:=@List.map_cons
def X6:=@List.length_append
def X7:=@PySem.Heap.get?_push_size
def X8:=@List.mem_append
def Xa:=@Nat.le_trans
def Xb:=@List.size_toArray
def Xc:=@Nat.le_refl
def Xd:=@List.cons_append
def Xe:=@List.map_map
def Xf:=@List.all_eq_true
def Xg:=@List.append_assoc
def Xh:=@Nat.lt_of_lt_of_le
def Xi:=@Nat.ne_of_lt
def Xj:=@List.mem_append_right
def Xk:=@List.length_take
def Xl:=@List.getElem?_eq_some_iff
def Xm:=@List.mem_map
def Xn:=@List.getElem?_map
def Xo:=@List.length_drop
def Xp:=@List.lookup_cons
def Xq:=@List.append_nil
def Xr:=@Option.isSome_iff_exists
def Xu:=@Nat.ne_of_gt
def Xv:=@PySem.Heap.size_push
def Xw:=@List.contains_iff_mem
def Xx:=@List.not_mem_nil
def Xy:=@List.nodup_cons
def Xz:=@Int.toNat_natCast
def ph:=@List.map_append
def Pa:=@List.map_congr_left
def Pb:=@Nat.succ_pos
def Pg:=@List.mem_of_getElem?
def Ph:=@List.mem_of_mem_take
def Pj:=@List.mem_of_mem_drop
def Pk:=@List.map_nil
def Pq:=@List.mem_range
def Pr:=@PySem.W.mg_of
def Pu:=@List.mem_append_left
def Py:=@Bool.false_eq_true
def Pz:=@Bool.or_eq_true
def tu:=@Nat.lt_trans
def T3:=@Option.getD_some
def T4:=@List.replicate_succ
def T5:=@List.length_nil
def T6:=@Nat.lt_irrefl
def T7:=@Option.map_eq_some_iff
def T8:=@List.drop_zero
def T9:=@List.nil_append
def Tc:=@List.mem_filterMap
def Td:=@List.forIn_cons
def Te:=@Int.emod_nonneg
def Tf:=@List.take_of_length_le
def Tg:=@PySem.W.hideAll_none
def Th:=@List.getElem?_eq_none
def Ti:=@List.mem_replicate
def Tj:=@Int.emod_lt_of_pos
def Tn:=@Nat.zero_le
def Tp:=@PySem.F.slot_zip_next
def Tq:=@Nat.pow_le_pow_right
def Tt:=@List.flatten_cons
def Tu:=@List.flatMap_cons
def Tv:=@List.nodup_append
def Tw:=@List.any_cons
def Tz:=@List.sum_cons
def sr:=@Array.toList_append
def su:=@List.drop_succ_cons
def S5:=@Nat.lt_succ_self
def S8:=@List.length_range
def S9:=@Nat.lt_of_succ_le
def k83:=@And.intro
abbrev k84:=mW
abbrev k85:=aj→aq→Prop
abbrev k86:=List (ak×cT)
abbrev k87:=ao→Option aj
abbrev k89:=("__debug__":ao)
abbrev k8a:=("__classdict__":ao)
local macro_rules | `(tactic| omega)=>`(tactic| first | with_reducible assumption | with_reducible exact Nat.le_of_lt (by assumption) | with_reducible exact Nat.le_refl _ | lia)
local macro_rules | `(nofun)=>`(by omega)
section
namespace L2
open PySem
def Tks{α:Type}(t:iL α):Prop:=∀(M:gJ)(Γ:Ctx)(Q:α->aR->aq->Prop)(E:aj->aR->aq->Prop)(p:aR)(s:aq),Sem.wp M Γ t Q E p s->Sem.wp M Γ t (λa p' s'=>0<s'.toks/\Q a p' s') E p s
def Tks.right{α β:Type}{t:iL α}{f:α->iL β}(h:∀a,Tks (f a)):Tks (t >>= f):=λM Γ Q E p s w=>by rw[lH]at w ⊢;exact gv M Γ t (λa p' s' q=>h a M Γ Q E p' s' q) (λ_ _ _ q=>q) p s w
def Tks.left{α β:Type}{t:iL α}{f:α->iL β}(h:Tks t):Tks (t >>= f):=λM Γ Q E p s w=>by rw[lH]at w ⊢;exact gv M Γ t (λa p' s' q=>gv M Γ (f a) (λ_ _ _ q=>q) (λ_ _ _ q=>q.2) p' s' (Sem.wp_toks M Γ 1 (f a) Q E p' s' q.1 q.2)) (λ_ _ _ q=>q) p s (h M Γ _ E p s w)
def Tks.text:Tks (mkText x):=λM Γ Q E p s w=>⟨Pb _,w⟩
theorem Tks.nsSet:Tks (nsSet a x v):=Tks.right λ_=>Tks.left Tks.text
def Tks.store{env:d8}(h:env.kindOf x=aa .local)(hk:env.scope.kind=.function):Tks (iR env x v):=by unfold iR;rw[h,hk];exact Tks.nsSet
def Jc{α:Type}{M:gJ}{A:aI}{t:iL α}{Q:α->aq->Prop}{E:k85}{s:aq}(h:0<s.toks\/Tks t)(w:ay M A t (λa s'=>0<s'.toks->Q a s') E s):ay M A t Q E s:=by
 rcases h with h|h
 .exact mK (n:=1) h (bB w (λ_ _ q=>q) λ_ _ q _=>q)
 .exact λΓ p hΓ=>gv M Γ t (λa _ s' q=>q.2 q.1) (λ_ _ _ q=>q) p s (h M Γ _ _ p s (w Γ p hΓ))
def Tks.env1{scope:bJ}{f:Option ak}(h:scope.names.lookup x=aa .local)(hk:scope.kind=.function):Tks (cY scope g [] [(x,v)] qual f cd ag b):=by unfold cY;refine Tks.right λl=>Tks.right λcs=>Tks.left ?_;simp only[Td,dz];exact Tks.left (Tks.left (Tks.store h hk))
end L2
end
section
namespace L2
open PySem PySem.Spec PyProof.Rows
abbrev Key:=Sum Int ao
noncomputable def j0i:Key->aj->Bool
 |.inl k,v=>Value.isInt k v
 |.inr x,v=>kg x v
noncomputable def jqh(w:aH):Key->Int
 |.inl k=>hashInt k
 |.inr x=>hashStr w x
def vq:∀{k:Key}{v:aj},j0i k v=af->(∃i t,k=fN i/\v=eV i t)\/(∃x t,k=bV x/\v=bC x t)
 |.inl i,v,h=>by obtain⟨t,e⟩:=Value.isInt_shape (k:=i) (v:=v) h;exact .inl ⟨i,t,rfl,e⟩
 |.inr x,v,h=>by obtain⟨t,e⟩:=Value.isStrOf_shape (x:=x) (v:=v) h;exact .inr ⟨x,t,rfl,e⟩
def j8g(x:ao)(t:iD):j0i (.inr x) (.str x t)=af:=by simp[j0i,kg]
def jj7(a b:Int):decide ((fN a:Key)=fN b)=(a==b):=by
 by_cases e:a=b
 .subst e;simp
 .have h:¬(fN a:Key)=fN b:=λq=>e (Sum.inl.inj q);rw[decide_eq_false h];exact(beq_eq_false_iff_ne.mpr e).symm
def jj4(a b:ao):decide ((bV a:Key)=bV b)=decide (a=b):=by
 by_cases e:a=b
 .subst e;simp
 .have h:¬(bV a:Key)=bV b:=λq=>e (fH q);rw[decide_eq_false h,decide_eq_false e]
def jj6(a:Int)(b:ao):decide ((fN a:Key)=bV b)=ae:=decide_eq_false (λq=>nomatch q)
def jj5(a:ao)(b:Int):decide ((bV a:Key)=fN b)=ae:=decide_eq_false (λq=>nomatch q)
noncomputable def Wf(prog:aA)(w:aH):PySem.KeyKind prog w Key where
 is:=j0i
 hash:=jqh w
 inj:=λv a b ha hb=>by
  rcases vq ha with ⟨i,t,rfl,rfl⟩|⟨x,t,rfl,rfl⟩
  .rcases vq hb with ⟨j,u,rfl,e⟩|⟨y,u,rfl,e⟩
   .injection e with e1 _;rw[e1]
   .exact nomatch e
  .rcases vq hb with ⟨j,u,rfl,e⟩|⟨y,u,rfl,e⟩
   .exact nomatch e
   .injection e with e1 _;rw[e1]
 byValue:=λk v h=>by rcases vq h with ⟨i,t,rfl,rfl⟩|⟨x,t,rfl,rfl⟩<;>rfl
 pyHash:=λhv h=>by
  rcases vq hv with ⟨i,t,rfl,rfl⟩|⟨x,t,rfl,rfl⟩
  .exact wpAny_pyHash_int h
  .exact wpAny_pyHash_str h
 eqBool:=λhu hv h=>by
  rcases vq hu with ⟨i,t,rfl,rfl⟩|⟨x,t,rfl,rfl⟩
  .rcases vq hv with ⟨j,u,rfl,rfl⟩|⟨y,u,rfl,rfl⟩
   .rw[jj7]at h;exact wpAny_eqBool_int h
   .rw[jj6]at h;exact SeqAt.EqAt.int_str i t y u _ _ _ _ h
  .rcases vq hv with ⟨j,u,rfl,rfl⟩|⟨y,u,rfl,rfl⟩
   .rw[jj5]at h;exact SeqAt.EqAt.str_int x t j u _ _ _ _ h
   .rw[jj4]at h;exact wpAny_eqBool_str h
 «strs»:=λk x t v h=>by
  rcases vq h with ⟨i,u,rfl,e⟩|⟨y,u,rfl,e⟩
  .exact nomatch e
  .injection e with e1 _;subst e1;cases v<;>rfl
def Bx(prog:aA)(w:aH)(x:ao)(t:iD):(Wf prog w).is (.inr x) (.str x t)=af:=j8g x t
set_option genInjectivity true in
inductive V where
 |non|bl (b:Bool)|int (i:Int)|str (x:ao)|byt (b:Array UInt8)|flt (b:UInt64)|ref (a:ak)|ty (n:String)
 deriving DecidableEq
def RelV:V->aj->Prop
 |.non,u=>u=cG
 |.bl b,u=>u=dm b
 |.int i,u=>∃t,u=eV i t
 |.str x,u=>∃t:{t:Nat // t≠0},u=bC x t.1
 |.byt b,u=>∃t,u=kN b t
 |.flt b,u=>∃t,u=kM b t
 |.ref a,u=>u=aQ a
 |.ty n,u=>u=lq n
abbrev Vals:List V->List aj->Prop:=Paired RelV
theorem Vals.length{xs:List V}(r:Vals xs us):xs.length=us.length:=Paired.length r
theorem Vals.get:∀{xs:List V}{us:List aj}{i:Nat}{x:V},Vals xs us->xs[i]?=aa x->∃u,us[i]?=aa u/\RelV x u
 |_,_,_,_,.nil,e=>by simp at e
 |_,_,0,_,.cons r _,e=>by simp at e;subst e;exact⟨_,rfl,r⟩
 |_,_,i+1,x,.cons _ t,e=>by obtain⟨u,h1,h2⟩:=Vals.get (i:=i) (x:=x) t (by simpa using e);exact⟨u,by simpa using h1,h2⟩
theorem Vals.append:∀{xs ys:List V}{us ws:List aj},Vals xs us->Vals ys ws->Vals (xs++ys) (us++ws)
 |_,_,_,_,.nil,s=>s
 |_,_,_,_,.cons r t,s=>.cons r (Vals.append t s)
theorem Vals.take:∀{xs:List V}{us:List aj}(n:Nat),Vals xs us->Vals (xs.take n) (us.take n)
 |_,_,0,_=>.nil
 |_,_,_+1,.nil=>.nil
 |_,_,n+1,.cons r t=>.cons r (Vals.take n t)
theorem Vals.drop:∀{xs:List V}{us:List aj}(n:Nat),Vals xs us->Vals (xs.drop n) (us.drop n)
 |_,_,0,r=>r
 |_,_,_+1,.nil=>.nil
 |_,_,n+1,.cons _ t=>Vals.drop n t
def W2:Option V->Option aj->Prop
 |some v,aa u=>RelV v u
 |none,ag=>True
 |_,_=>False
def KV{κ:Type}:List (κ×V)->List (κ×aj)->Prop:=Paired λ(p:κ×V) (q:κ×aj)=>p.1=q.1/\RelV p.2 q.2
noncomputable def kV:Key->V
 |.inl i=>.int i
 |.inr x=>.str x
inductive HO where
 |lst (xs:List V)
 |tup (xs:List V)
 |dK (kvs:List (Key×V))|dT (kvs:List (List Key×V))
 |dI (xs:List (zo×ak×aj)) (ep:Nat)
 |set (S:Int->Bool) (n:Nat)
 |ins (C dx:ak) (fs:List (ao×V))
 |own (x:ak)
 |xd (fs:List (ao×V))
 |met (f x:ak)
 |rng (lo hi:Int)
 |frz (o:cT) (u:HO)
 |tbl (ps:Array aj)
 |cod (q:ao)
 |ext (φ:aL->Prop)
abbrev Hp:=ak->Option HO
def upd(H:Hp)(a:ak)(o:HO):Hp:=λb=>if b=a then aa o else H b
def jz:upd H a o a=aa o:=by unfold upd;rw[if_pos rfl]
def jf(h:b≠a):upd H a o b=H b:=by unfold upd;rw[if_neg h]
def jdr:upd (upd H a o) a u=upd H a u:=by funext b;unfold upd;split<;>rfl
def zf{H:Hp}{a b:ak}{o:HO}(h:H a=aa o)(h':H b=ag):a≠b:=by intro e;subst e;rw[h]at h';cases h'
def Y7(h:aL)(a:ak):Prop:=∀o,h.get? a=aa o->o.dict=ag
def Y7.new(h:aL)(xs:Array aj):Y7 (h.push { cls:=.type "tuple",data:=.seq xs }) h.objs.size:=λo e=>by have z:(h.push { cls:=.type "tuple",data:=.seq xs }).get? h.objs.size=aa { cls:=.type "tuple",data:=.seq xs }:=X7 _ rfl;rw[z]at e;cases e;rfl
def Y7.of{h:aL}(e:h.get? a=aa { cls:=c,data:=d }):Y7 h a:=λo e'=>by rw[e]at e';cases e';rfl
def j6q(o:cT)(q:ao):Prop:=∃(vs:Array aj)(t:iD),o.data=.fields vs/\vs[1]?=aa (.str q t)
section
variable(P:aA)(w:aH)
def ql(H:Hp)(h:aL)(a:ak):HO->Prop
 |.lst xs=>xs.length<=au/\∃(its:List aj)(n:Nat),Vals xs its/\h.get? a=aa { cls:=.type "list",data:=.seq its.toArray n }
 |.tup xs=>xs.length<=au/\∃its:List aj,Vals xs its/\kY h a its.toArray/\Y7 h a
 |.dK kvs=>kvs.length<=au/\(a==gq)=ae/\∃vs,KV kvs vs/\h.DictOf (Wf P w) a vs
 |.dT kvs=>kvs.length<=au/\(a==gq)=ae/\∃xs:List (List Key×ak×aj),
   Paired (λ(p:List Key×V) (q:List Key×ak×aj)=>p.1=q.1/\H q.2.1=aa (.tup (p.1.map kV))/\RelV p.2 q.2.2) kvs xs /\
   ∃o es ep,h.get? a=aa o/\o.ExactDict/\o.data=.dict es ep/\es.toList=xs.map (entryOfKey (tupleKind (Wf P w)))/\(xs.map (·.1)).Nodup
 |.dI xs ep=>xs.length<=au/\(a==gq)=ae/\(xs.map λx=>x.1).Nodup/\∃(o:cT)(es:Array lX),h.get? a=aa o/\o.ExactDict/\o.data=.dict es ep/\es.toList=xs.map (entryOfKey (tupleKind (intKind P w)))
 |.set S n=>h.SetOf (intKind P w) a S n
 |.ins C dx fs=>H dx=aa (.own a)/\fs.length<=1000/\dx≠a/\h.get? a=aa (W.instObj C dx) /\
   ∃mA,h.Ns1 dx mA/\(∀f,W2 (fs.lookup f) (mA f))/\i4 mA (fs.map (·.1))
 |.own _=>∃o,h.get? a=aa o
 |.xd fs=>∃mA,h.Ns1 a mA/\∀f,W2 (fs.lookup f) (mA f)
 |.rng lo hi=>∃t u v,h.get? a=aa { cls:=.type "range",data:=.fields #[.int lo t,.int hi u,.int 1 v] }
 |.frz o u=>h.get? a=aa o/\ql H h a u
 |.tbl ps=>h.get? a=aa { cls:=.none,data:=.fields ps }
 |.cod q=>∃ps:Array aj,h.get? a=aa (W.tabObj ps)/\TriplesOk ps.toList/\∀pos cv,codeAmong pos ps.toList=aa cv->∃(c:ak)(oc:cT),cv=.ref c/\H c=aa (.frz oc (.own 0))/\j6q oc q
 |.met f x=>h.get? a=aa (W.methodObj (.ref f) (.ref x))
 |.ext φ=>φ h/\(∃o,h.get? a=aa o)/\∀h1 h2:aL,φ h1->(∀o,h1.get? a=aa o->h2.get? a=aa o)->φ h2
def HOk(H:Hp)(h:aL):Prop:=∀a o,H a=aa o->ql P w H h a o
end
section
variable{P:aA}{w:aH}{H H':Hp}{h h':aL}{a:ak}{o:HO}
theorem ql.lt(x:ql P w H h a o):a<h.objs.size:=by
 cases o with
 |lst xs=>obtain⟨_,_,_,_,e⟩:=x;exact X4 e
 |tup xs=>obtain⟨_,_,_,p,_⟩:=x;exact p.lt
 |dK kvs=>obtain⟨_,_,_,_,o,_,_,e,_⟩:=x;exact X4 e
 |dT kvs=>obtain⟨_,_,_,_,o,_,_,e,_⟩:=x;exact X4 e
 |dI xs ep=>obtain⟨_,_,_,o,_,e,_⟩:=x;exact X4 e
 |set S n=>obtain⟨o,_,_,_,e,_⟩:=x;exact X4 e
 |ins C dx fs=>obtain⟨_,_,_,e,_⟩:=x;exact X4 e
 |own y=>obtain⟨_,e⟩:=x;exact X4 e
 |xd fs=>obtain⟨_,⟨_,_,_,e,_⟩,_⟩:=x;exact X4 e
 |rng lo hi=>obtain⟨_,_,_,e⟩:=x;exact X4 e
 |frz ob u=>obtain⟨e,_⟩:=x;exact X4 e
 |tbl ps=>exact X4 (show h.get? a=aa _ from x)
 |cod q=>obtain⟨_,e,_⟩:=x;exact X4 e
 |met f y=>exact X4 (show h.get? a=aa _ from x)
 |ext φ=>obtain⟨_,⟨_,e⟩,_⟩:=x;exact X4 e
theorem Paired.mapP{α β:Type}{F G:α->β->Prop}:∀{l₁:List α}{l₂:List β},Paired F l₁ l₂->(∀a b,F a b->G a b)->Paired G l₁ l₂
 |_,_,.nil,_=>.nil
 |_,_,.cons r t,f=>.cons (f _ _ r) (Paired.mapP t f)
def ql.stay(x:ql P w H h a o)(k:∀b u,(b=a\/H b=aa (.own a))->h.get? b=aa u->h'.get? b=aa u)
  (ho:∀b,H b=aa (.own a)->H' b=aa (.own a)) (ht:∀b xs,H b=aa (.tup xs)->H' b=aa (.tup xs)) (hz:∀b o,(∃vs,o.data=.fields vs)->H b=aa (.frz o (.own 0))->H' b=aa (.frz o (.own 0))):ql P w H' h' a o:=by
 induction o with
 |lst xs=>obtain⟨z,its,n,r,e⟩:=x;exact⟨z,its,n,r,k _ _ (.inl rfl) e⟩
 |tup xs =>obtain⟨z,its,r,⟨ob,e,c⟩,nd⟩:=x;refine⟨z,its,r,⟨ob,k _ _ (.inl rfl) e,c⟩,λo q=>?_⟩;rw[k _ _ (.inl rfl) e]at q;cases q;exact nd _ e
 |dK kvs=>obtain⟨z,y,vs,r,ob,es,ep,e,c⟩:=x;exact⟨z,y,vs,r,ob,es,ep,k _ _ (.inl rfl) e,c⟩
 |dT kvs =>obtain⟨z,y,xs,r,ob,es,ep,e,c⟩:=x;exact⟨z,y,xs,Paired.mapP r λp q z=>⟨z.1,ht _ _ z.2.1,z.2.2⟩,ob,es,ep,k _ _ (.inl rfl) e,c⟩
 |dI xs ep=>obtain⟨z,y,nd,ob,es,e,c⟩:=x;exact⟨z,y,nd,ob,es,k _ _ (.inl rfl) e,c⟩
 |set S n=>obtain⟨ob,es,ep,t,e,c⟩:=x;exact⟨ob,es,ep,t,k _ _ (.inl rfl) e,c⟩
 |ins C dx fs =>obtain⟨d,z,ne,e,mA,⟨od,es,ep,e2,c⟩,r⟩:=x;exact⟨ho _ d,z,ne,k _ _ (.inl rfl) e,mA,⟨od,es,ep,k _ _ (.inr d) e2,c⟩,r⟩
 |own y=>obtain⟨ob,e⟩:=x;exact⟨ob,k _ _ (.inl rfl) e⟩
 |xd fs=>obtain⟨mA,⟨od,es,ep,e,c⟩,r⟩:=x;exact⟨mA,⟨od,es,ep,k _ _ (.inl rfl) e,c⟩,r⟩
 |rng lo hi=>obtain⟨t,u,v,e⟩:=x;exact⟨t,u,v,k _ _ (.inl rfl) e⟩
 |frz ob u ih=>obtain⟨e,q⟩:=x;exact⟨k _ _ (.inl rfl) e,ih q⟩
 |tbl ps =>have e:h.get? a=aa { cls:=.none,data:=.fields ps }:=x;show h'.get? a=aa { cls:=.none,data:=.fields ps };exact k a _ (.inl rfl) e
 |cod q=>obtain⟨ps,e,t,c⟩:=x;exact⟨ps,k _ _ (.inl rfl) e,t,λpos cv z=>let ⟨c,oc,e1,e2,e3⟩:=c pos cv z;⟨c,oc,e1,hz _ _ (let ⟨vs,_,z,_⟩:=e3;⟨vs,z⟩) e2,e3⟩⟩
 |met f y =>have e:h.get? a=aa (W.methodObj (.ref f) (.ref y)):=x;show h'.get? a=aa (W.methodObj (.ref f) (.ref y));exact k a _ (.inl rfl) e
 |ext φ=>obtain⟨p,⟨o,e⟩,st⟩:=x;exact⟨st _ _ p λo q=>k _ _ (.inl rfl) q,⟨o,k _ _ (.inl rfl) e⟩,st⟩
theorem HOk.lt(x:HOk P w H h)(e:H a=aa o):a<h.objs.size:=(x a o e).lt
def HOk.fresh(x:HOk P w H h)(e:h.objs.size<=a):H a=ag:=by
 cases q:H a with
 |none=>rfl
 |some u=>exact absurd (Xh (x.lt q) e) (T6 _)
def HOk.kept(x:HOk P w H h)(k:∀b u,h.get? b=aa u->h'.get? b=aa u):HOk P w H h':=λa o e =>(x a o e).stay (λb u _ q=>k b u q) (λ_ q=>q) (λ_ _ q=>q) λ_ _ _ q=>q
def HOk.laid(x:HOk P w H h)(k:∀b u,h.get? b=aa u->h'.get? b=aa u)(hp:h.objs.size<=a)(new:ql P w (upd H a o) h' a o):HOk P w (upd H a o) h':=λb u e=>by
 have hn:=x.fresh hp;by_cases hb:b=a
 .subst hb;rw[jz]at e;cases e;exact new
 .rw[jf hb]at e;exact(x b u e).stay (λc v _ q=>k c v q) (λc q=>by rw[jf (zf q hn)];exact q) (λc xs q=>by rw[jf (zf q hn)];exact q) λc _ _ q=>by rw[jf (zf q hn)];exact q
end
def Rd(H:Hp)(a:ak)(u:HO):Prop:=H a=aa u\/∃o,H a=aa (.frz o u)
def Rd.ok(r:Rd H a u)(x:HOk P w H h):ql P w H h a u:=by
 rcases r with r|⟨o,r⟩
 .exact x a u r
 .obtain⟨_,q⟩:=x a _ r;exact q
def Mut:Option HO->Prop
 |some (.lst _)=>True
 |some (.dK _)=>True
 |some (.dT _)=>True
 |some (.dI _ _)=>True
 |some (.set _ _)=>True
 |some (.ins _ _ _)=>True
 |some (.ext _)=>True
 |some (.cod _)=>True
 |_=>False
section
variable{P:aA}{w:aH}{H:Hp}{h h':aL}{x e:ak}{o':HO}
def HOk.write(ok:HOk P w H h)(mu:Mut (H x))(he:e=x\/H e=aa (.own x))(k:∀b u,b≠e->h.get? b=aa u->h'.get? b=aa u)(heo:∃u,h'.get? e=aa u)
  (new:ql P w (upd H x o') h' x o'):HOk P w (upd H x o') h':=λb u q=>by
 have nown:∀c y,H c=aa (.own y)->c≠x:=λc y r z=>by subst z;rw[r]at mu;exact mu
 have ntup:∀c xs,H c=aa (.tup xs)->c≠x:=λc xs r z=>by subst z;rw[r]at mu;exact mu
 have nfrz:∀c o u,H c=aa (.frz o u)->c≠x:=λc o u r z=>by subst z;rw[r]at mu;exact mu
 by_cases hb:b=x
 .subst hb;rw[jz]at q;cases q;exact new
 .rw[jf hb]at q;by_cases hbe:b=e
  .have q':H b=aa (.own x):=by
    rcases he with z|z
    .exact absurd (hbe.trans z) hb
    .rw[hbe];exact z
   rw[q]at q';cases q';obtain⟨v,hv⟩:=heo;exact⟨v,by rw[hbe];exact hv⟩
  .refine(ok b u q).stay (λc v hc r=>k c v ?_ r) (λc r=>by rw[jf (nown c b r)];exact r) (λc xs r=>by rw[jf (ntup c xs r)];exact r) λc o _ r=>by rw[jf (nfrz c o _ r)];exact r
   rcases hc with rfl|hc
   .exact hbe
   .rintro rfl;rcases he with z|z
    .exact nown c b hc z
    .rw[hc]at z;cases z;exact hb rfl
end
structure Un(fs ex:List ak)(H H':Hp)(h h':aL):Prop where
 keep:∀b o,h.get? b=aa o->H b=ag->b∉fs->b∉ex->h'.get? b=aa o
 slot:∀b o,h.get? b=aa o->H b=ag->b∈fs->b∉ex->∃sl,h'.get? b=aa { o with slots:=sl }
 free:∀b o,h.get? b=aa o->H b=ag->b∉ex->H' b=ag
 there:∀b o,h.get? b=aa o->b∉ex->∃o',h'.get? b=aa o'
 tups:∀b xs,H b=aa (.tup xs)->H' b=aa (.tup xs)
 frzs:∀b o u,H b=aa (.frz o u)->H' b=aa (.frz o u)
 tbls:∀b ps,H b=aa (.tbl ps)->∃more,H' b=aa (.tbl (ps++more))
section
variable{fs fs' ex ex':List ak}{H H1 H2:Hp}{h h1 h2 h':aL}{a x e:ak}{o:HO}
def Un.any(u:Un fs ex H H1 h h1)(q:h.get? b=aa ob)(n:H b=ag)(hx:b∉ex):∃sl,h1.get? b=aa { ob with slots:=sl }:=by
 by_cases hb:b∈fs
 .exact u.slot b ob q n hb hx
 .exact⟨ob.slots,u.keep b ob q n hb hx⟩
def Un.kept(k:∀b u,h.get? b=aa u->h'.get? b=aa u):Un fs ex H H h h' :=
 ⟨λb ob q _ _ _=>k b ob q,λb ob q _ _ _=>⟨ob.slots,k b ob q⟩,λ_ _ _ n _=>n,λb ob q _=>⟨ob,k b ob q⟩,λ_ _ q=>q,λ_ _ _ q=>q,λ_ ps q=>⟨#[],by rw[q];simp⟩⟩
def Un.refl:Un fs ex H H h h:=Un.kept λ_ _ q=>q
def Un.laid(k:∀b u,h.get? b=aa u->h'.get? b=aa u)(hp:h.objs.size<=a)(hn:H a=ag):Un fs ex H (upd H a o) h h' where
 keep:=λb u q _ _ _=>k b u q
 slot:=λb u q _ _ _=>⟨u.slots,k b u q⟩
 free:=λb u q n _=>by rw[jf (Xi (Xh (X4 q) hp))];exact n
 there:=λb u q _=>⟨u,k b u q⟩
 tups:=λb xs q=>by rw[jf (zf q hn)];exact q
 frzs:=λb u xs q=>by rw[jf (zf q hn)];exact q
 tbls:=λb ps q=>⟨#[],by rw[jf (zf q hn),q];simp⟩
def Un.write(mu:Mut (H x))(he:e=x\/H e=aa (.own x))(k:∀b u,b≠e->h.get? b=aa u->h'.get? b=aa u)(heo:∃u,h'.get? e=aa u):Un fs ex H (upd H x o) h h':=by
 have hx:∀b,H b=ag->b≠x:=λb n z=>by subst z;rw[n]at mu;exact mu
 have hb:∀b,H b=ag->b≠e:=λb n z=>by
  subst z;rcases he with r|r
  .exact hx b n r
  .rw[n]at r;cases r
 have hm:∀b u,H b=aa u->¬Mut (aa u)->b≠x:=λb u q nm z=>by subst z;rw[q]at mu;exact nm mu
 refine⟨λb u q n _ _=>k b u (hb b n) q,λb u q n _ _=>⟨u.slots,k b u (hb b n) q⟩,λb u q n _=>by rw[jf (hx b n)];exact n,λb u q _=>?_,
  λb xs q=>by rw[jf (hm b _ q λz=>z)];exact q,λb u xs q=>by rw[jf (hm b _ q λz=>z)];exact q,λb ps q=>⟨#[],by rw[jf (hm b _ q λz=>z),q];simp⟩⟩
 by_cases hbe:b=e
 .subst hbe;exact heo
 .exact⟨u,k b u hbe q⟩
end
def trk(h:aL)(H:Hp):List ak:=(aZ h.objs.size).filter λa=>(H a).isSome
noncomputable def Ro(h:aL)(H:Hp):aL:=W.hideAll h (trk h H)
def j8o(h:aL)(H:Hp):(Ro h H).objs.size=h.objs.size:=W.hideAll_size _ _
def jbm{h:aL}(e:h.get? b=aa o)(n:H b=ag):(Ro h H).get? b=aa o :=
 W.hideAll_get _ e λhm=>by have q:(H b).isSome=af:=(List.mem_filter.mp hm).2;rw[n]at q;simp at q
def jf3(e:(Ro h H).get? b=aa o):h.get? b=aa o/\H b=ag:=by
 have e':h.get? b=aa o:=W.of_hideAll (trk h H) e;refine⟨e',?_⟩;cases q:H b with
 |none=>rfl
 |some x =>have hm:b∈trk h H:=List.mem_filter.mpr ⟨Pq.mpr (X4 e'),by simp[q]⟩;have z:(Ro h H).get? b=ag:=Tg (trk h H) hm;rw[z]at e;cases e
def jge(g h:aL)(L:ak):List (ak×cT):=(aZ h.objs.size).filterMap λa=>if a=L\/(g.get? a).isSome=af then ag else(h.get? a).map λo=>(a,o)
noncomputable def rest(g h:aL)(L d:ak):List (ak×cT):=(jge g h L).filter λp=>decide (p.1≠d)
structure Mod(K:k84)(mg:k87)(base:aL):Prop where
 kin:K.In base
 glob:base.Ns aw mg
 blt:∃mb,base.Ns dW mb/\∀x:ao,x ≠ "__name__"->mb x=cZ x
 nolimit:base.NoLimit
 bm:∃bm ob,mg "__builtins__"=aa (.ref bm)/\bm≠dW/\base.get? bm=aa ob/\ob.cls=.type "module"/\ob.dict=aa dW/\ob.data=.plain
structure Cx where
 prog:aA
 w:aH
 K:k84
 mg:ao->Option aj
 base:aL
 A:aI
 N:List ao
 s₀:aq
 H₀:Hp
 env:d8
 outer:List d8
 stack:List d8
 ex:List ak
 fn:ao->Bool
 calm:Bool
 pn:List (ak×cT)
 xe:aj->aq->Prop
def frs(l:List d8):List ak:=l.filterMap (·.frame)
abbrev Cx.fs(X:Cx):List ak:=frs X.outer
def Vis(sc:bJ)(x:ao):Prop:=sc.names.lookup x=aa .local\/sc.names.lookup x=aa .cell\/sc.names.lookup x=aa .free
def Loc(sc:bJ)(x:ao):Prop:=sc.names.lookup x=aa .local\/sc.names.lookup x=aa .cell
def Look(env:d8)(h:aL)(m:k87)(x:ao)(u:aj):Prop :=
 (env.kindOf x=aa .local/\m x=aa u)\/((env.kindOf x=aa .cell\/env.kindOf x=aa .free)/\∃c,env.cells.lookup x=aa c/\h.IsCell c (aa u))
structure Cx.Ok(X:Cx):Prop where
 mod:Mod X.K X.mg X.base
 kind:X.env.scope.kind=.function
 glob:X.env.globals=aw
 blt:X.env.builtins=dW
 above:X.s₀.heap.objs.size<=X.env.locals
 inj:∀x y c,X.env.cells.lookup x=aa c->X.env.cells.lookup y=aa c->x=y
 has:∀x,(X.env.kindOf x=aa .cell\/X.env.kindOf x=aa .free)->∃c,X.env.cells.lookup x=aa c
 cab:∀x c,X.fn x=af->X.env.cells.lookup x=aa c->X.s₀.heap.objs.size<=c
 hd:X.calm=af->X.A.handled=ag
 frames:X.A.frames=aa X.stack
 stk:X.stack=X.outer\/(X.stack=X.env::X.outer/\X.env.frame=aa X.env.locals)
 exf:∀b∈X.ex,b≠X.env.locals/\∀x c,X.env.cells.lookup x=aa c->c≠b
 bs:∀b o,X.base.get? b=aa o->X.s₀.heap.get? b=aa o/\X.H₀ b=ag
 bsz:X.base.objs.size<=X.s₀.heap.objs.size
 noex:∀b o,X.base.get? b=aa o->b∉X.ex
 exfs:∀b∈X.ex,b∉X.fs
 funs:X.s₀.heap.FunFrames X.base X.outer
 frf:∀b∈X.fs,X.H₀ b=ag
structure Inv(X:Cx)(pins:k86)(I:List (Option V))(H:Hp)(s:aq):Prop where
 ok:X.Ok
 os:s.os=X.s₀.os/\0<s.toks
 bare:eC s.gens
 base:Un X.fs X.ex X.H₀ H X.s₀.heap s.heap
 loc:∃m,s.heap.Ns X.env.locals m/\∀(i:Nat)(x:ao)(v:V),X.N[i]?=aa x->I[i]?=aa (aa v)->Vis X.env.scope x->∃u,RelV v u/\Look X.env s.heap m x u
 cell:∀x c,X.env.cells.lookup x=aa c->∃v,s.heap.IsCell c v
 free:H X.env.locals=ag
 freeC:∀x c,X.env.cells.lookup x=aa c->H c=ag
 pin:∀p∈X.pn++pins,s.heap.get? p.1=aa p.2/\H p.1=ag/\p.1≠X.env.locals/\p.1∉X.fs/\∀v,p.2.data≠.cell v
 hok:HOk X.prog X.w H s.heap
 len:I.length=X.N.length
section
variable{X:Cx}{pins:k86}{I:List (Option V)}{H H':Hp}{s:aq}{h':aL}
def Inv.tk(nI:Inv X pins I H s):0<s.toks:=nI.os.2
def Cx.Ok.nofr(ok:X.Ok)(e:X.base.get? b=aa o):b∉X.fs:=λhb=>by have:=(ok.funs.mem hb).1;rw[e]at this;cases this
theorem Inv.bs(nI:Inv X pins I H s):∀b o,X.base.get? b=aa o->s.heap.get? b=aa o/\H b=ag:=λb o e =>⟨nI.base.keep b o (nI.ok.bs b o e).1 (nI.ok.bs b o e).2 (nI.ok.nofr e) (nI.ok.noex b o e),nI.base.free b o (nI.ok.bs b o e).1 (nI.ok.bs b o e).2 (nI.ok.noex b o e)⟩
def Inv.bk(nI:Inv X pins I H s):∀b o,X.base.get? b=aa o->s.heap.get? b=aa o:=λb o e=>(nI.bs b o e).1
theorem Inv.mod(nI:Inv X pins I H s):Mod X.K X.mg X.base:=nI.ok.mod
def Inv.kIn(nI:Inv X pins I H s):X.K.In s.heap:=nI.ok.mod.kin.keeps nI.bk
theorem Inv.lt(nI:Inv X pins I H s):X.env.locals<s.heap.objs.size:=let ⟨_,hn,_⟩:=nI.loc;hn.lt
def Inv.sz(nI:Inv X pins I H s):X.s₀.heap.objs.size<=s.heap.objs.size:=Xa nI.ok.above (eK nI.lt)
def Inv.nofs(nI:Inv X pins I H s)(h:s.heap.objs.size<=a):a∉X.fs:=λhb=>by obtain⟨_,o,ho,_⟩:=nI.ok.funs.mem hb;exact absurd (Xh (X4 ho) (Xa nI.sz h)) (T6 _)
def Inv.cne(nI:Inv X pins I H s):∀x c,X.env.cells.lookup x=aa c->c≠X.env.locals:=λx c e z=>by obtain⟨v,o,ho,hd⟩:=nI.cell x c e;obtain⟨m,⟨o',es,ep,ho',hd',_⟩,_⟩:=nI.loc;rw[z,ho']at ho;cases ho;rw[hd']at hd;cases hd
theorem Inv.funs(nI:Inv X pins I H s):s.heap.FunFrames X.base X.outer:=by
 have all:∀(l:List d8),(∀b∈frs l,b∈X.fs)->X.s₀.heap.FunFrames X.base l->s.heap.FunFrames X.base l:=by
  intro l;induction l with
  |nil=>intro _ _;trivial
  |cons env r ih =>intro hs hl;obtain⟨hk,⟨L,o,hf,hn,ho,hd⟩,hr⟩:=hl;have hL:L∈X.fs:=hs L (by unfold frs;rw[cC,hf];exact km);obtain⟨sl,e⟩:=nI.base.slot L o ho (nI.ok.frf L hL) hL λz=>nI.ok.exfs L z hL;exact⟨hk,⟨L,_,hf,hn,e,hd⟩,ih (λb hb=>hs b (by unfold frs;rw[cC,hf];exact kh _ hb)) hr⟩
 exact all X.outer (λ_ hb=>hb) nI.ok.funs
theorem Inv.stack(nI:Inv X pins I H s):s.heap.FunFrames X.base X.stack:=by
 rcases nI.ok.stk with e|⟨e,hf⟩
 .rw[e];exact nI.funs
 .rw[e];obtain⟨m,hn,_⟩:=nI.loc;refine .cons (by rw[nI.ok.kind];decide) hf hn ?_ nI.funs;exact Heap.get?_none_of_le (Xa nI.ok.bsz nI.ok.above)
def Inv.stkSub(nI:Inv X pins I H s):∀b∈frs X.stack,b∈X.env.locals::X.fs:=λb hb=>by
 rcases nI.ok.stk with e|⟨e,hf⟩
 .rw[e]at hb;exact kh _ hb
 .rw[e]at hb;unfold frs at hb;rw[cC,hf]at hb;exact hb
def Inv.stkFree(nI:Inv X pins I H s):∀b∈frs X.stack,H b=ag:=λb hb=>by
 rcases xj.mp (nI.stkSub b hb)with e|hb
 .rw[e];exact nI.free
 .obtain⟨_,o,ho,_⟩:=nI.ok.funs.mem hb;exact nI.base.free b o ho (nI.ok.frf b hb) λz=>nI.ok.exfs b z hb
def Inv.step{g':Array fF}{t':Nat}{d':Drawn}{ch:List ak}(nI:Inv X pins I H s)
  (hch:∀b∈ch,(b∈X.ex\/X.s₀.heap.objs.size<=b)/\b≠X.env.locals/\(∀x c,X.env.cells.lookup x=aa c->c≠b)/\∀p∈X.pn++pins,p.1≠b)
  (keep:∀b o,b≠X.env.locals->b∉X.fs->b∉ch->s.heap.get? b=aa o->H b=ag->h'.get? b=aa o)
  (slot:∀b o,b≠X.env.locals->b∈X.fs->b∉ch->s.heap.get? b=aa o->H b=ag->∃sl,h'.get? b=aa { o with slots:=sl }) (free:∀b o,b∉ch->s.heap.get? b=aa o->H b=ag->H' b=ag)
  (there:∀b o,b∉ch->s.heap.get? b=aa o->∃o',h'.get? b=aa o')
  (tups:∀b xs,H b=aa (.tup xs)->H' b=aa (.tup xs)) (frzs:∀b o u,H b=aa (.frz o u)->H' b=aa (.frz o u)) (tbls:∀b ps,H b=aa (.tbl ps)->∃more,H' b=aa (.tbl (ps++more)))
  (ns:∀m,s.heap.Ns X.env.locals m->h'.Ns X.env.locals m) (hok:HOk X.prog X.w H' h') (hg:eC g') (ht:0<t':=by first|assumption|exact Pb _|exact Inv.tk (by assumption)) :
  Inv X pins I H' { s with heap:=h',gens:=g',drawn:=d',toks:=t' }:=by
 have neL:∀b o,X.s₀.heap.get? b=aa o->b≠X.env.locals:=λb o e=>Xi (Xh (X4 e) nI.ok.above);have neC:∀b o,X.s₀.heap.get? b=aa o->b∉X.ex->b∉ch:=λb o e hx hb=>by
  rcases(hch b hb).1 with z|z
  .exact hx z
  .exact absurd (Xh (X4 e) z) (T6 _)
 have cellK:∀x c,X.env.cells.lookup x=aa c->∀v,s.heap.IsCell c v->h'.IsCell c v:=λx c e v ⟨o,ho,hd⟩=>by
  have nch:c∉ch:=λz=>(hch c z).2.2.1 x c e rfl;by_cases hc:c∈X.fs
  .obtain⟨sl,q⟩:=slot c o (nI.cne x c e) hc nch ho (nI.freeC x c e);exact⟨_,q,hd⟩
  .exact⟨o,keep c o (nI.cne x c e) hc nch ho (nI.freeC x c e),hd⟩
 refine⟨nI.ok,⟨nI.os.1,ht⟩,hg,⟨λb o e n hb hx=>?_,λb o e n hb hx=>?_,λb o e n hx=>?_,λb o e hx=>?_,λb xs e=>tups b xs (nI.base.tups b xs e),λb o xs e=>frzs b o xs (nI.base.frzs b o xs e),λb ps e=>?_⟩,?_,λx c e=>?_,?_,λx c e=>?_,λp hp=>?_,hok,nI.len⟩
 .exact keep b o (neL b o e) hb (neC b o e hx) (nI.base.keep b o e n hb hx) (nI.base.free b o e n hx)
 .obtain⟨sl,e1⟩:=nI.base.slot b o e n hb hx;obtain⟨sl',e2⟩:=slot b _ (neL b o e) hb (neC b o e hx) e1 (nI.base.free b o e n hx);exact⟨sl',e2⟩
 .obtain⟨o',e1⟩:=nI.base.there b o e hx;exact free b o' (neC b o e hx) e1 (nI.base.free b o e n hx)
 .obtain⟨o',e1⟩:=nI.base.there b o e hx;exact there b o' (neC b o e hx) e1
 .obtain⟨m1,e1⟩:=nI.base.tbls b ps e;obtain⟨m2,e2⟩:=tbls b _ e1;exact⟨m1++m2,by rw[e2,Array.append_assoc]⟩
 .obtain⟨m,hn,hl⟩:=nI.loc;refine⟨m,ns m hn,λi x v e1 e2 e3=>?_⟩;obtain⟨u,r,l⟩:=hl i x v e1 e2 e3;refine⟨u,r,?_⟩;rcases l with l|⟨k,c,e,z⟩
  .exact .inl l
  .exact .inr ⟨k,c,e,cellK x c e _ z⟩
 .obtain⟨v,z⟩:=nI.cell x c e;exact⟨v,cellK x c e v z⟩
 .obtain⟨m,⟨o,_,_,ho,_⟩,_⟩:=nI.loc;exact free _ o (λz=>(hch _ z).2.1 rfl) ho nI.free
 .obtain⟨v,o,ho,hd⟩:=nI.cell x c e;exact free c o (λz=>(hch c z).2.2.1 x c e rfl) ho (nI.freeC x c e)
 .obtain⟨e,n,ne,nf,d⟩:=nI.pin p hp;have nch:p.1∉ch:=λz=>(hch p.1 z).2.2.2 p hp rfl;exact⟨keep p.1 p.2 ne nf nch e n,free p.1 p.2 nch e n,ne,nf,d⟩
def Inv.un(nI:Inv X pins I H s)(u:Un X.fs [] H H' s.heap h')(hok:HOk X.prog X.w H' h')(ht:0<t':=by first|assumption|exact Pb _|exact Inv.tk (by assumption)):Inv X pins I H' { s with heap:=h',toks:=t' }:=by
 obtain⟨m,⟨o,es,ep,ho,r⟩,_⟩:=id nI.loc;obtain⟨sl,hL⟩:=u.any ho nI.free (by simp);exact nI.step (g':=s.gens) (d':=s.drawn) (ch:=[]) (λ_ z=>nomatch z) (λb o _ hb _ e n=>u.keep b o e n hb (by simp)) (λb o _ hb _ e n=>u.slot b o e n hb (by simp)) (λb o _ e n=>u.free b o e n (by simp)) (λb o _ e=>u.there b o e (by simp)) u.tups u.frzs u.tbls (λm' hm=>by
  obtain⟨o',es',ep',ho',r'⟩:=hm
  rw[ho]at ho';cases ho'
  exact⟨_,es',ep',hL,r'⟩) hok nI.bare
def Inv.call(nI:Inv X pins I H s)(u:Un (frs X.stack) ch H H' s.heap h')(hok:HOk X.prog X.w H' h')(hg:eC g')
  (hch:∀b∈ch,(b∈X.ex\/X.s₀.heap.objs.size<=b)/\b≠X.env.locals/\(∀x c,X.env.cells.lookup x=aa c->c≠b)/\∀p∈X.pn++pins,p.1≠b) (ht:0<t':=by first|assumption|exact Pb _|exact Inv.tk (by assumption)) :
  Inv X pins I H' { s with heap:=h',gens:=g',drawn:=d',toks:=t' }:=by
 obtain⟨m,⟨o,es,ep,ho,r⟩,_⟩:=id nI.loc;obtain⟨sl,hL⟩:=u.any ho nI.free λz=>(hch _ z).2.1 rfl;exact nI.step (ch:=ch) hch (λb o hL hb hc e n=>u.keep b o e n (λz=>(xj.mp (nI.stkSub b z)).elim hL hb) hc) (λb o _ _ hc e n=>u.any e n hc) (λb o hc e n=>u.free b o e n hc) (λb o hc e=>u.there b o e hc) u.tups u.frzs u.tbls (λm' hm=>by
  obtain⟨o',es',ep',ho',r'⟩:=hm
  rw[ho]at ho';cases ho'
  exact⟨_,es',ep',hL,r'⟩) hok hg
def Inv.turned(nI:Inv X pins I H s)(k:∀b o,b≠it->s.heap.get? b=aa o->h'.get? b=aa o)(hn:H it=ag)(hL:it≠X.env.locals)
  (h1:it∈X.ex\/X.s₀.heap.objs.size<=it) (h2:∀x c,X.env.cells.lookup x=aa c->c≠it) (h3:∀p∈X.pn++pins,p.1≠it) (ht:0<t':=by first|assumption|exact Pb _|exact Inv.tk (by assumption)):Inv X pins I H { s with heap:=h',toks:=t' }:=by
 have nit:∀b u,H b=aa u->b≠it:=λb u e z=>by rw[z,hn]at e;cases e
 refine nI.step (g':=s.gens) (d':=s.drawn) (ch:=[it]) (λb hb=>?_) (λb o _ _ hc e _=>k b o (λz=>hc (by simp[z])) e) (λb o _ _ hc e _=>⟨o.slots,k b o (λz=>hc (by simp[z])) e⟩) (λ_ _ _ _ n=>n)
  (λb o hc e=>⟨o,k b o (λz=>hc (by simp[z])) e⟩) (λ_ _ e=>e) (λ_ _ _ e=>e) (λb ps e=>⟨#[],by rw[e];simp⟩) (λm hm=>?_) (λb u e=>?_) nI.bare
 .have e:b=it:=by simpa using hb
  subst e;exact⟨h1,hL,h2,h3⟩
 .obtain⟨o,es,ep,ho,r⟩:=hm;exact⟨o,es,ep,k _ o (eO hL) ho,r⟩
 .refine(nI.hok b u e).stay (λc v hc q=>k c v ?_ q) (λ_ q=>q) (λ_ _ q=>q) λ_ _ _ q=>q;rcases hc with z|z
  .rw[z];exact nit b u e
  .exact nit c _ z
def Inv.tok(nI:Inv X pins I H s)(t':Nat)(ht:0<t':=by first|assumption|exact Pb _|exact Inv.tk (by assumption)):Inv X pins I H { s with toks:=t' }:=nI.un (h':=s.heap) (t':=t') Un.refl nI.hok
theorem Inv.kept(nI:Inv X pins I H s)(k:∀b u,s.heap.get? b=aa u->h'.get? b=aa u)(ht:0<t':=by first|assumption|exact Pb _|exact Inv.tk (by assumption)):Inv X pins I H { s with heap:=h',toks:=t' }:=nI.un (Un.kept k) (nI.hok.kept k)
theorem Inv.laid(nI:Inv X pins I H s)(k:∀b u,s.heap.get? b=aa u->h'.get? b=aa u)(hp:s.heap.objs.size<=a)(new:ql X.prog X.w (upd H a o) h' a o)(ht:0<t':=by first|assumption|exact Pb _|exact Inv.tk (by assumption)) :
  Inv X pins I (upd H a o) { s with heap:=h',toks:=t' }:=nI.un (Un.laid k hp (nI.hok.fresh hp)) (nI.hok.laid k hp new)
theorem Inv.write(nI:Inv X pins I H s)(mu:Mut (H x))(he:e=x\/H e=aa (.own x))(k:∀b u,b≠e->s.heap.get? b=aa u->h'.get? b=aa u)(heo:∃u,h'.get? e=aa u)
  (new:ql X.prog X.w (upd H x o) h' x o) (ht:0<t':=by first|assumption|exact Pb _|exact Inv.tk (by assumption)):Inv X pins I (upd H x o) { s with heap:=h',toks:=t' }:=nI.un (Un.write mu he k heo) (nI.hok.write mu he k heo new)
def Inv.pins_of(nI:Inv X pins I H s)(h:∀p∈pins',s.heap.get? p.1=aa p.2/\H p.1=ag/\p.1≠X.env.locals/\p.1∉X.fs/\∀v,p.2.data≠.cell v):Inv X pins' I H s :=
 ⟨nI.ok,nI.os,nI.bare,nI.base,nI.loc,nI.cell,nI.free,nI.freeC,λp hp=>(X8.mp hp).elim (λz=>nI.pin p (Pu _ z)) (h p),nI.hok,nI.len⟩
def Nq{N:List ao}(hN:N.Nodup){i j:Nat}{x:ao}(a:N[i]?=aa x)(b:N[j]?=aa x):i=j:=by obtain⟨h1,e1⟩:=Xl.mp a;obtain⟨h2,e2⟩:=Xl.mp b;exact(List.getElem_inj hN).mp (e1.trans e2.symm)
def Mi(nI:Inv X pins I H s)(hN:X.N.Nodup)(hi:X.N[i]?=aa x)(hx:Loc X.env.scope x)(r:RelV v u)
  (h:∀s',Inv X pins (I.set i (aa v)) H s'->(∃a,cu a s.heap s'.heap/\(a=X.env.locals\/X.env.cells.lookup x=aa a))->Q () s') (hf:X.fn x=af\/X.env.scope.names.lookup x=aa .local:=by first|exact .inl rfl|exact .inr rfl|assumption):ay M A (iR X.env x u) Q E s:=by
 obtain⟨m,hn,hl⟩:=id nI.loc;have hcls:(X.env.scope.kind==.class || (X.env.scope.kind==.module&&X.env.locals != X.env.globals))=ae:=by rw[nI.ok.kind];rfl
 have hiσ:i<I.length:=by rw[nI.len];exact(Xl.mp hi).1
 have cne:=nI.cne;have tracked:∀{a:ak}{h':aL},(∃o,s.heap.get? a=aa o/\H a=ag)->cu a s.heap h'->HOk X.prog X.w H h':=λ{a h'} ha hs b ob e=>by
  obtain⟨_,_,hfree⟩:=ha;refine(nI.hok b ob e).stay (λc w' hc q=>(hs.2 c ?_).trans q) (λ_ q=>q) (λ_ _ q=>q) λ_ _ _ q=>q;rintro rfl;rcases hc with rfl|hc
  .rw[hfree]at e;cases e
  .rw[hfree]at hc;cases hc
 rcases hx with hk|hk
 .refine Jc (.inl nI.tk) (wpAny_storeName_local hk hn (λh' hn' hs ht=>?_) hcls);obtain⟨oL,_,_,hoL,_⟩:=id hn;refine h _ ⟨nI.ok,⟨nI.os.1,ht⟩,nI.bare,⟨λb o e n hb hx=>?_,λb o e n hb hx=>?_,nI.base.free,λb o e hx=>?_,nI.base.tups,nI.base.frzs,nI.base.tbls⟩,⟨_,hn',λj y v' e1 e2 e3=>?_⟩,λy c e=>?_,nI.free,nI.freeC,λp hp=>?_,tracked ⟨oL,hoL,nI.free⟩ hs,by simpa using nI.len⟩ ⟨_,hs,.inl rfl⟩
  .exact(hs.2 b (Xi (Xh (X4 e) nI.ok.above))).trans (nI.base.keep b o e n hb hx)
  .obtain⟨sl,e1⟩:=nI.base.slot b o e n hb hx;exact⟨sl,(hs.2 b (Xi (Xh (X4 e) nI.ok.above))).trans e1⟩
  .obtain⟨o',e1⟩:=nI.base.there b o e hx;exact⟨o',(hs.2 b (Xi (Xh (X4 e) nI.ok.above))).trans e1⟩
  .by_cases hj:j=i
   .subst hj;rw[hi]at e1;cases e1;rw[ie hiσ]at e2;cases e2;exact⟨u,r,.inl ⟨hk,by simp⟩⟩
   .rw[eX (eO hj)]at e2;obtain⟨u',r',q⟩:=hl j y v' e1 e2 e3;refine⟨u',r',?_⟩;rcases q with ⟨k,e⟩|⟨k,c,e,z⟩
    .refine .inl ⟨k,?_⟩;have:y≠x:=λe=>hj (Nq hN e1 (e▸hi));simp[this,e]
    .exact .inr ⟨k,c,e,z.sameBut hs (cne y c e)⟩
  .obtain⟨w',z⟩:=nI.cell y c e;exact⟨w',z.sameBut hs (cne y c e)⟩
  .obtain⟨e,n,ne,nf,d⟩:=nI.pin p hp;exact⟨(hs.2 p.1 ne).trans e,n,ne,nf,d⟩
 .have hfn:X.fn x=af:=by
   rcases hf with z|z
   .exact z
   .rw[z]at hk;cases hk
  obtain⟨c,hc⟩:=nI.ok.has x (.inl hk);obtain⟨w',z⟩:=nI.cell x c hc;refine wpAny_storeName_cell nI.ok.kind hk hc z (λh' hc' hs=>?_);obtain⟨oc,hoc,hocd⟩:=id z;refine h { s with heap:=h' } ⟨nI.ok,nI.os,nI.bare,⟨λb o e n hb hx=>?_,λb o e n hb hx=>?_,nI.base.free,λb o e hx=>?_,nI.base.tups,nI.base.frzs,nI.base.tbls⟩,⟨m,hn.sameBut hs (eO (cne x c hc)),λj y v' e1 e2 e3=>?_⟩,λy c' e=>?_,nI.free,nI.freeC,λp hp=>?_,tracked ⟨oc,hoc,nI.freeC x c hc⟩ hs,by simpa using nI.len⟩ ⟨c,hs,.inr hc⟩
  .exact(hs.2 b (Xi (Xh (X4 e) (nI.ok.cab x c hfn hc)))).trans (nI.base.keep b o e n hb hx)
  .obtain⟨sl,e1⟩:=nI.base.slot b o e n hb hx;exact⟨sl,(hs.2 b (Xi (Xh (X4 e) (nI.ok.cab x c hfn hc)))).trans e1⟩
  .obtain⟨o',e1⟩:=nI.base.there b o e hx;exact⟨o',(hs.2 b (Xi (Xh (X4 e) (nI.ok.cab x c hfn hc)))).trans e1⟩
  .by_cases hj:j=i
   .subst hj;rw[hi]at e1;cases e1;rw[ie hiσ]at e2;cases e2;exact⟨u,r,.inr ⟨.inl hk,c,hc,hc'⟩⟩
   .rw[eX (eO hj)]at e2;obtain⟨u',r',q⟩:=hl j y v' e1 e2 e3;refine⟨u',r',?_⟩;rcases q with q|⟨k,c',e,z'⟩
    .exact .inl q
    .refine .inr ⟨k,c',e,z'.sameBut hs ?_⟩;rintro rfl;exact hj (Nq hN e1 (nI.ok.inj _ _ _ e hc▸hi))
  .by_cases hcc:c'=c
   .subst hcc;exact⟨_,hc'⟩
   .obtain⟨w2,z2⟩:=nI.cell y c' e;exact⟨w2,z2.sameBut hs hcc⟩
  .obtain⟨e,n,ne,nf,d⟩:=nI.pin p hp;refine⟨(hs.2 p.1 ?_).trans e,n,ne,nf,d⟩;intro q;rw[q,hoc]at e;have q':oc=p.2:=aJ e;exact d w' (by rw[<-q'];exact hocd)
def j14(nI:Inv X pins I H s)(hN:X.N.Nodup)(hi:X.N[i]?=aa x)(hx:Loc X.env.scope x)(r:RelV v u)
  (h:∀s',Inv X pins (I.set i (aa v)) H s'->Q () s') (hf:X.fn x=af\/X.env.scope.names.lookup x=aa .local:=by first|exact .inl rfl|exact .inr rfl|assumption):ay M A (iR X.env x u) Q E s :=
 Mi nI hN hi hx r (λs' I' _=>h s' I') hf
def Inv.call'{s':aq}(nI:Inv X pins I H s)(ho:s'.os=s.os/\0<s'.toks)(u:Un (frs X.stack) ch H H' s.heap s'.heap)(hok:HOk X.prog X.w H' s'.heap)(hg:eC s'.gens)
  (hch:∀b∈ch,(b∈X.ex\/X.s₀.heap.objs.size<=b)/\b≠X.env.locals/\(∀x c,X.env.cells.lookup x=aa c->c≠b)/\∀p∈X.pn++pins,p.1≠b):Inv X pins I H' s':=by
 obtain⟨h',g',d',t',o'⟩:=s';have e:o'=s.os:=ho.1;subst e;exact nI.call (g':=g') (t':=t') (d':=d') u hok hg hch ho.2
end
abbrev XK:=aj->Option ak->Hp->Prop
abbrev St:=List (Option V)
abbrev VK:=V->Hp->Prop
abbrev TE:=St->Hp->VK->Prop
abbrev TT:=St->Hp->(Bool->Hp->Prop)->Prop
abbrev TA:=St->Hp->(List V->Hp->Prop)->Prop
structure Ends where
 nx:St->Hp->Prop
 rt:VK
 bk:St->Hp->Prop:=λ_ _=>False
 ct:St->Hp->Prop:=λ_ _=>False
abbrev TS:=Ends->St->Hp->Prop
def EP(X:Cx)(pins:k86)(I:St)(Q:VK)(u:aj)(s':aq):Prop:=∃v H',Inv X pins I H' s'/\RelV v u/\Q v H'
def TP(X:Cx)(pins:k86)(I:St)(Q:Bool->Hp->Prop)(b:Bool)(s':aq):Prop:=∃H',Inv X pins I H' s'/\Q b H'
def AP(X:Cx)(pins:k86)(I:St)(Q:List V->Hp->Prop)(us:List aj)(s':aq):Prop:=∃vs H',Inv X pins I H' s'/\Vals vs us/\Q vs H'
def Ext(X:Cx)(H1 H2:Hp)(s':aq):Prop:=∀b,H2 b=H1 b\/∃x o v,X.env.cells.lookup x=aa b/\X.fn x=af/\H2 b=aa (.frz o (.own 0))/\s'.heap.get? b=aa o/\o.data=.cell v
def Ext.refl{s':aq}:Ext X H H s':=λ_=>.inl rfl
def SP(X:Cx)(pins:k86)(D:Ends)(f:Flow)(s':aq):Prop :=
 match f with
 |.next=>∃σ' H',Inv X pins σ' H' s'/\D.nx σ' H'
 |.brk=>∃σ' H',Inv X pins σ' H' s'/\D.bk σ' H'
 |.cont=>∃σ' H',Inv X pins σ' H' s'/\D.ct σ' H'
 |.ret u=>∃v σ' H' H2,Inv X pins σ' H' s'/\RelV v u/\Ext X H' H2 s'/\D.rt v H2
def PE(X:Cx)(e:ar)(t:TE):Prop :=
 ∀(pins:k86) (s:aq) (I:St) (H:Hp) (Q:VK),Inv X pins I H s->t I H Q->ay (aB X.prog X.w) X.A (aD e X.env) (EP X pins I Q) X.xe s
def PT(X:Cx)(e:ar)(t:TT):Prop :=
 ∀(pins:k86) (s:aq) (I:St) (H:Hp) (Q:Bool->Hp->Prop),Inv X pins I H s->t I H Q->ay (aB X.prog X.w) X.A (fg e X.env (aD e X.env)) (TP X pins I Q) X.xe s
def PW(X:Cx)(e:ar)(t:TT):Prop :=
 ∀(whole:iL aj)(pins:k86) (s:aq) (I:St) (H:Hp) (Q:Bool->Hp->Prop),Inv X pins I H s->t I H Q->ay (aB X.prog X.w) X.A (fg e X.env whole) (TP X pins I Q) X.xe s
def PA(X:Cx)(es:List ar)(t:TA):Prop :=
 ∀(pos:aR)(pins:k86) (s:aq) (I:St) (H:Hp) (Q:List V->Hp->Prop),Inv X pins I H s->t I H Q->ay (aB X.prog X.w) X.A (ia (aS pos (ah es X.env))) (AP X pins I Q) X.xe s
def PS(X:Cx)(st:aU)(t:TS):Prop :=
 ∀(pins:k86) (s:aq) (I:St) (H:Hp) (D:Ends),Inv X pins I H s->t D I H->ay (aB X.prog X.w) X.A (exec st X.env) (SP X pins D) X.xe s
def PSs(X:Cx)(st:List aU)(t:TS):Prop :=
 ∀(pins:k86) (s:aq) (I:St) (H:Hp) (D:Ends),Inv X pins I H s->t D I H->ay (aB X.prog X.w) X.A (execs st X.env) (SP X pins D) X.xe s
def thn{α:Type}{t:iL α}{Q Q':α->aq->Prop}{M:gJ}{A:aI}{E:k85}{s:aq}(h:ay M A t Q E s)(hQ:∀a s,Q a s->Q' a s):ay M A t Q' E s:=bB h hQ λ_ _ x=>x
section
variable{X:Cx}
def bin{a b:ar}{ta tb:TE}(ha:PE X a ta)(hb:PE X b tb){pins:k86}{s:aq}{I:St}{H:Hp}{R:V->V->Hp->Prop}(nI:Inv X pins I H s)(h:ta I H λx H1=>tb I H1 λy H2=>R x y H2)
  {α:Type} {Q:α->aq->Prop} {f:aj->aj->iL α}
  (hf:∀v u s2 x y H2,Inv X pins I H2 s2->RelV x v->RelV y u->R x y H2->ay (aB X.prog X.w) X.A (f v u) Q X.xe s2) :
  ay (aB X.prog X.w) X.A (aD a X.env) (λv s₁=>ay (aB X.prog X.w) X.A (aD b X.env) (λu s₂=>ay (aB X.prog X.w) X.A (f v u) Q X.xe s₂) X.xe s₁) X.xe s:=by
 refine thn (ha pins s I H _ nI h) λv s1 ⟨x,H1,I1,r1,q1⟩=>?_;refine thn (hb pins s1 I H1 _ I1 q1) λu s2 ⟨y,H2,I2,r2,q2⟩=>?_;exact hf v u s2 x y H2 I2 r1 r2 q2
def jpg(i:Nat):TE:=λI H Q=>∃v,I[i]?=aa (aa v)/\Q v H
def tC(v:V):TE:=λ_ H Q=>Q v H
def qp(hN:X.N[i]?=aa x)(hv:Vis X.env.scope x)(hd:(x==k89)=ae:=by decide)(hcd:(x==k8a)=ae:=by decide):PE X (.Name x pos) (jpg i):=by
 intro pins s I H Q nI h;obtain⟨v,e,h⟩:=h;obtain⟨m,hn,hl⟩:=nI.loc;obtain⟨u,r,l⟩:=hl i x v hN e hv;have fin:EP X pins I Q u s:=⟨v,H,nI,r,h⟩
 rcases l with ⟨hk,hm⟩|⟨hk,c,hc,hcell⟩
 .exact kC (wpAny_loadName_local nI.ok.kind hk hn hm fin) hd
 .rcases hk with hk|hk
  .exact kC (wpAny_loadName_cell nI.ok.kind hk hc hcell fin) hd
  .exact kC (wpAny_loadName_free nI.ok.kind hk hc hcell fin hcd) hd
def j1m{i j pos}:PE X (.Constant (.int i) j pos) (tC (.int i)):=λ_ _ _ H _ nI h=>wpAny_Constant_int ⟨.int i,H,nI.tok _,⟨_,rfl⟩,h⟩
def jmv{b j pos}:PE X (.Constant (.bool b) j pos) (tC (.bl b)):=λ_ _ _ H _ nI h=>Constant_bool ⟨.bl b,H,nI,rfl,h⟩
def Wd{x j pos}:PE X (.Constant (.str x) j pos) (tC (.str x)):=λ_ _ _ H _ nI h=>Calls.Constant_str ⟨.str x,H,nI.tok _,⟨⟨_,Xu nI.tk⟩,rfl⟩,h⟩
def Gl(X:Cx)(x:ao):Prop:=X.env.kindOf x=aa .globalImplicit
def Qn(nI:Inv X pins I H s)(hg:Gl X x)(hm:X.mg x=aa u)(h:Q u s)
  (hd:(x==k89)=ae:=by decide):ay (aB X.prog X.w) X.A (aD (.Name x pos) X.env) Q E s :=
 gB nI.ok.kind hg (Calls.loadGlobal_global (by rw[nI.ok.glob];exact nI.mod.glob.keeps nI.bk) hm h) hd
def Qf(nI:Inv X pins I H s)(hg:Gl X x)(hm:X.mg x=ag)(hv:cZ x=aa u)(h:Q u s)
  (hn:x ≠ "__name__":=by decide) (hd:(x==k89)=ae:=by decide):ay (aB X.prog X.w) X.A (aD (.Name x pos) X.env) Q E s:=by
 obtain⟨mb,h1,h2⟩:=nI.mod.blt;exact gB nI.ok.kind hg (Calls.loadGlobal_builtin (by rw[nI.ok.glob];exact nI.mod.glob.keeps nI.bk) hm (by rw[nI.ok.blt];exact h1.keeps nI.bk) ((h2 x hn).trans hv) h) hd
def Ka(hg:Gl X x)(hm:X.mg x=aa u)(r:RelV v u)(hd:(x==k89)=ae:=by decide):PE X (.Name x pos) (tC v) :=
 λ_ _ _ H _ nI h=>Qn nI hg hm ⟨v,H,nI,r,h⟩ hd
def jet(hg:Gl X x)(hm:X.mg x=ag)(hv:cZ x=aa u)(r:RelV v u)(hn:x ≠ "__name__":=by decide)(hd:(x==k89)=ae:=by decide):PE X (.Name x pos) (tC v) :=
 λ_ _ _ H _ nI h=>Qf nI hg hm hv ⟨v,H,nI,r,h⟩ hn hd
variable{a b:ar}{ta tb:TE}{pos:aR}
def PC(X:Cx)(op:ip)(a b:ar)(t:TE):Prop :=
 ∀(pins:k86) (s:aq) (I:St) (H:Hp) (Q:VK),Inv X pins I H s->t I H Q ->
  ay (aB X.prog X.w) X.A (aD a X.env) (λv s₁=>ay (aB X.prog X.w) X.A (aD b X.env) (λu s₂=>ay (aB X.prog X.w) X.A (bu op v u) (EP X pins I Q) X.xe s₂) X.xe s₁) X.xe s
def j1s(b:ar)(h:op≠.In)(h2:op≠.NotIn):aV op b=ae:=by
 have e1:(op==CmpOp.In)=ae:=by cases op<;>first|rfl|exact absurd rfl h
 have e2:(op==CmpOp.NotIn)=ae:=by cases op<;>first|rfl|exact absurd rfl h2
 cases b<;>simp[aV,e1,e2]
def tB(t:TE):TT:=λI H Q=>t I H λx H1=>∃c,x=.bl c/\Q c H1
def j7p(h:PE X e t)(he:∀whole,fg e X.env whole=(do let v <-whole;gE e.pos;fh [v] (kE v)):=by intro _;rfl):PT X e (tB t):=by intro pins s I H Q nI hw;refine isTrue_plain (thn (h pins s I H _ nI hw) λv s1 ⟨x,H1,I1,r1,q1⟩=>?_) (he _);obtain⟨d,rfl,q⟩:=q1;cases r1;exact bS ⟨H1,I1,q⟩
variable{tA tB':TT}{rest:List ar}
def jpq(t u:TT):TT:=λI H Q=>t I H λc H1=>if c=af then u I H1 Q else Q ae H1
def tOr(t u:TT):TT:=λI H Q=>t I H λc H1=>if c=af then Q af H1 else u I H1 Q
def jpl(t:TT):TT:=λI H Q=>t I H λc H1=>Q (!c) H1
def jen(ha:PT X a tA):PW X (.BoolOp .And [a] pos) tA:=by
 intro wh pins s I H Q nI h;refine isTrue_and (thn (ha pins s I H Q nI h) λc s1 e=>?_);cases c with
 |true=>exact isTrue_and_nil e
 |false=>exact e
def jhw(ha:PT X a tA):PW X (.BoolOp .Or [a] pos) tA:=by
 intro wh pins s I H Q nI h;refine isTrue_or (thn (ha pins s I H Q nI h) λc s1 e=>?_);cases c with
 |false=>exact isTrue_or_nil e
 |true=>exact e
def jhx(ha:PT X a tA)(hb:PW X (.BoolOp .And (b::rest) pos) tB'):PW X (.BoolOp .And (a::b::rest) pos) (jpq tA tB'):=by
 intro wh pins s I H Q nI h;refine isTrue_and (thn (ha pins s I H _ nI h) λc s1 ⟨H1,I1,q1⟩=>?_);cases c with
 |true=>exact hb wh pins s1 I H1 Q I1 q1
 |false=>exact⟨H1,I1,q1⟩
def jmr(ha:PT X a tA)(hb:PW X (.BoolOp .Or (b::rest) pos) tB'):PW X (.BoolOp .Or (a::b::rest) pos) (tOr tA tB'):=by
 intro wh pins s I H Q nI h;refine isTrue_or (thn (ha pins s I H _ nI h) λc s1 ⟨H1,I1,q1⟩=>?_);cases c with
 |true=>exact⟨H1,I1,q1⟩
 |false=>exact hb wh pins s1 I H1 Q I1 q1
def j7q(ha:PT X a tA):PT X (.UnaryOp .Not a pos) (jpl tA):=by intro pins s I H Q nI h;exact isTrue_not (ha pins s I H (λc H1=>Q (!c) H1) nI h)
def jm5(ta tb:TE):TE:=λI H Q=>ta I H λx H1=>∃c,x=.bl c/\if c=af then tb I H1 Q else Q (.bl ae) H1
def jpk(ta tb:TE):TE:=λI H Q=>ta I H λx H1=>∃c,x=.bl c/\if c=af then Q (.bl af) H1 else tb I H1 Q
def j7w{op}(h:PE X a t):PE X (.BoolOp op [a] pos) t:=λpins s I H Q nI hw=>BoolOp_one (h pins s I H Q nI hw)
def ji4(ha:PE X a ta)(hb:PE X (.BoolOp .And (b::rest) pos) tb):PE X (.BoolOp .And (a::b::rest) pos) (jm5 ta tb):=by
 intro pins s I H Q nI h;refine BoolOp_and (thn (ha pins s I H _ nI h) λv s1 ⟨x,H1,I1,r1,q1⟩=>?_);obtain⟨c,rfl,q1⟩:=q1;cases r1;refine bS ?_;cases c with
 |true=>exact hb pins s1 I H1 Q I1 q1
 |false=>exact⟨.bl ae,H1,I1,rfl,q1⟩
def jmu(ha:PE X a ta)(hb:PE X (.BoolOp .Or (b::rest) pos) tb):PE X (.BoolOp .Or (a::b::rest) pos) (jpk ta tb):=by
 intro pins s I H Q nI h;refine BoolOp_or (thn (ha pins s I H _ nI h) λv s1 ⟨x,H1,I1,r1,q1⟩=>?_);obtain⟨c,rfl,q1⟩:=q1;cases r1;refine bS ?_;cases c with
 |false=>exact hb pins s1 I H1 Q I1 q1
 |true=>exact⟨.bl af,H1,I1,rfl,q1⟩
def tIf(t:TT)(ta tb:TE):TE:=λI H Q=>t I H λc H1=>if c=af then ta I H1 Q else tb I H1 Q
def j1n(hc:PT X c tA)(ha:PE X a ta)(hb:PE X b tb):PE X (.IfExp c a b pos) (tIf tA ta tb):=by
 intro pins s I H Q nI h;refine wpAny_IfExp (thn (hc pins s I H _ nI h) λd s1 ⟨H1,I1,q1⟩=>?_);cases d with
 |true=>exact ha pins s1 I H1 Q I1 q1
 |false=>exact hb pins s1 I H1 Q I1 q1
end
def SqL(K:k84)(H:Hp)(a:ak)(xs:List V):Prop :=
 Rd H a (.lst xs) \/
  ∃(o:cT)(its:Array aj)(n:Nat),K.lookup a=aa o/\o.cls=.type "list"/\o.dict=ag/\o.data=.seq its n/\its.size<=au/\Vals xs its.toList
def SqT(K:k84)(H:Hp)(a:ak)(xs:List V):Prop :=
 Rd H a (.tup xs) \/
  ∃(o:cT)(its:Array aj)(n:Nat),K.lookup a=aa o/\o.cls=.type "tuple"/\o.dict=ag/\o.data=.seq its n/\its.size<=au/\Vals xs its.toList
noncomputable def jr0:aj->Option V
 |.none=>aa .non
 |.bool b=>aa (.bl b)
 |.int i _=>aa (.int i)
 |.str x _=>aa (.str x)
 |.bytes b _=>aa (.byt b)
 |.float b _=>aa (.flt b)
 |.ref a=>aa (.ref a)
 |.type n=>aa (.ty n)
 |_=>ag
def RelV.abs(r:RelV x u):jr0 u=aa x:=by
 cases x with
 |non=>cases r;rfl
 |bl _=>cases r;rfl
 |int _=>obtain⟨t,rfl⟩:=r;rfl
 |str _=>obtain⟨t,rfl⟩:=r;rfl
 |byt _=>obtain⟨t,rfl⟩:=r;rfl
 |flt _=>obtain⟨t,rfl⟩:=r;rfl
 |ref _=>cases r;rfl
 |ty _=>cases r;rfl
def RelV.inj(r:RelV x u)(q:RelV y u):x=y:=aJ (r.abs.symm.trans q.abs)
theorem Vals.inj:∀{xs ys:List V}{us:List aj},Vals xs us->Vals ys us->xs=ys
 |_,_,_,.nil,.nil=>rfl
 |_,_,_,.cons r t,.cons r' t'=>by rw[r.inj r',Vals.inj t t']
section
variable{X:Cx}{pins:k86}{I:St}{H:Hp}{s:aq}{a:ak}{xs ys:List V}
def SqL.of{K:k84}(h:H a=aa (.lst xs)):SqL K H a xs:=.inl (.inl h)
def Inv.list(nI:Inv X pins I H s)(h:SqL X.K H a xs):∃its:List aj,Vals xs its/\PlainL s.heap a its.toArray/\xs.length<=au:=by
 rcases h with h|⟨o,its,n,hk,hc,hd,hs,hz,r⟩
 .obtain⟨z,its,n,r,e⟩:=h.ok nI.hok;exact⟨its,r,⟨_,n,e,rfl,rfl,rfl⟩,z⟩
 .refine⟨its.toList,r,⟨o,n,nI.kIn a o hk,hc,hd,by simpa using hs⟩,?_⟩;have e:=r.length;simp only[fi]at e;omega
def Inv.tuple(nI:Inv X pins I H s)(h:SqT X.K H a xs):∃its:List aj,Vals xs its/\kY s.heap a its.toArray/\xs.length<=au:=by
 rcases h with h|⟨o,its,n,hk,hc,hnd,hs,hz,r⟩
 .obtain⟨z,its,r,p,_⟩:=h.ok nI.hok;exact⟨its,r,p,z⟩
 .refine⟨its.toList,r,⟨o,nI.kIn a o hk,hc,n,by simpa using hs⟩,?_⟩;have e:=r.length;simp only[fi]at e;omega
def Inv.tupD(nI:Inv X pins I H s)(h:SqT X.K H a xs):Y7 s.heap a:=by
 rcases h with h|⟨o,its,n,hk,hc,hnd,hs,hz,r⟩
 .obtain⟨z,its,r,p,q⟩:=h.ok nI.hok;exact q
 .intro o' e;rw[nI.kIn a o hk]at e;cases e;exact hnd
def Inv.list_inj(nI:Inv X pins I H s)(h:SqL X.K H a xs)(h':SqL X.K H a ys):xs=ys:=by
 obtain⟨its,r,⟨o,n,e,_,_,d⟩,_⟩:=nI.list h;obtain⟨its',r',⟨o',n',e',_,_,d'⟩,_⟩:=nI.list h';rw[e]at e';cases e';rw[d]at d';injection d' with d1 _;have:its=its':=by simpa using congrArg fG d1
 subst this;exact r.inj r'
def Inv.tuple_inj(nI:Inv X pins I H s)(h:SqT X.K H a xs)(h':SqT X.K H a ys):xs=ys:=by
 obtain⟨its,r,⟨o,e,_,n,d⟩,_⟩:=nI.tuple h;obtain⟨its',r',⟨o',e',_,n',d'⟩,_⟩:=nI.tuple h';rw[e]at e';cases e';rw[d]at d';injection d' with d1 _;have:its=its':=by simpa using congrArg fG d1
 subst this;exact r.inj r'
end
abbrev Cx.wish(X:Cx)(E:k85):Cx:={ X with xe:=E }
abbrev Cx.nox(X:Cx):Cx:=X.wish λ_ _=>False
theorem Cx.Ok.wish{X:Cx}(ok:X.Ok)(E:k85):(X.wish E).Ok :=
 ⟨ok.mod,ok.kind,ok.glob,ok.blt,ok.above,ok.inj,ok.has,ok.cab,ok.hd,ok.frames,ok.stk,ok.exf,ok.bs,ok.bsz,ok.noex,ok.exfs,ok.funs,ok.frf⟩
def Cx.Ok.unwish{X:Cx}(ok:(X.wish E).Ok):X.Ok :=
 ⟨ok.mod,ok.kind,ok.glob,ok.blt,ok.above,ok.inj,ok.has,ok.cab,ok.hd,ok.frames,ok.stk,ok.exf,ok.bs,ok.bsz,ok.noex,ok.exfs,ok.funs,ok.frf⟩
section
variable{X:Cx}{pins:k86}{I:St}{H:Hp}{s:aq}{E:k85}
theorem Inv.wish(nI:Inv X pins I H s)(E:k85):Inv (X.wish E) pins I H s:=⟨nI.ok.wish E,nI.os,nI.bare,nI.base,nI.loc,nI.cell,nI.free,nI.freeC,nI.pin,nI.hok,nI.len⟩
theorem Inv.unwish(nI:Inv (X.wish E) pins I H s):Inv X pins I H s:=⟨nI.ok.unwish,nI.os,nI.bare,nI.base,nI.loc,nI.cell,nI.free,nI.freeC,nI.pin,nI.hok,nI.len⟩
theorem SP.unwish{D:Ends}(h:SP (X.wish E) pins D f s'):SP X pins D f s':=by
 cases f with
 |next=>obtain⟨σ',H',nI,q⟩:=h;exact⟨σ',H',nI.unwish,q⟩
 |brk=>obtain⟨σ',H',nI,q⟩:=h;exact⟨σ',H',nI.unwish,q⟩
 |cont=>obtain⟨σ',H',nI,q⟩:=h;exact⟨σ',H',nI.unwish,q⟩
 |ret u=>obtain⟨v,σ',H',H2,nI,r,x,q⟩:=h;exact⟨v,σ',H',H2,nI.unwish,r,x,q⟩
theorem PSs.nox{st:List aU}(h:PSs X.nox st t):PSs X st t:=λpins s I H D nI hw =>bB (h pins s I H D (nI.wish _) hw) (λ_ _ q=>q.unwish) λ_ _ z=>aW z
end
section
variable{X:Cx}{st:aU}{rest:List aU}{t u:TS}{e:ar}{te:TE}{pos:aR}
def jlz:TS:=λD I H=>D.nx I H
def jpi(t u:TS):TS:=λD I H=>t { D with nx:=u D } I H
def Ym:PSs X [] jlz:=λ_ _ I H _ nI h=>fj ⟨I,H,nI,h⟩
def z7(h1:PS X st t)(h2:PSs X rest u):PSs X (st::rest) (jpi t u):=by
 intro pins s I H D nI h;refine lT (thn (h1 pins s I H { D with nx:=u D } nI h) λf s1 q=>?_);cases f with
 |next =>obtain⟨σ',H',I',q⟩:=q;exact h2 pins s1 σ' H' D I' q
 |ret v=>exact q
 |brk=>exact q
 |cont=>exact q
def Wb(h1:PS X st t):PSs X [st] t:=by
 intro pins s I H D nI h;refine lT (thn (h1 pins s I H D nI h) λf s1 q=>?_);cases f with
 |next=>exact fj q
 |ret v=>exact q
 |brk=>exact q
 |cont=>exact q
def Inv.quiet(nI:Inv X pins I H s):interactive X.env=ae:=by simp[interactive,nI.ok.kind]
def jm2(te:TE):TS:=λD I H=>te I H λ_ H1=>D.nx I H1
def Vb(he:PE X e te)(hs:aO e ag pos.line X.env=pure ae:=by rfl):PS X (.Expr e pos) (jm2 te):=by intro pins s I H D nI h;exact wpAny_Expr_any (thn (he pins s I H _ nI h) λv s1 ⟨x,H1,I1,r1,q1⟩=>⟨I,H1,I1,q1⟩) nI.quiet hs
def jpj(te:TE):TS:=λD I H=>te I H D.rt
def Qy(he:PE X e te):PS X (.Return (aa e) pos) (jpj te):=by intro pins s I H D nI h;exact wpAny_Return_some (thn (he pins s I H _ nI h) λv s1 ⟨x,H1,I1,r1,q1⟩=>⟨x,I,H1,H1,I1,r1,.refl,q1⟩)
def jpn(c:TT)(t u:TS):TS:=λD I H=>c I H λb H1=>if b=af then t D I H1 else u D I H1
def j0f(hc:PT X c tc)(ha:PSs X a t)(hb:PSs X b u):PS X (.If c a b pos) (jpn tc t u):=by
 intro pins s I H D nI h;refine wpAny_If (thn (hc pins s I H _ nI h) λd s1 ⟨H1,I1,q1⟩=>?_);cases d with
 |true=>exact ha pins s1 I H1 D I1 q1
 |false=>exact hb pins s1 I H1 D I1 q1
end
abbrev TG:=V->St->Hp->(St->Hp->Prop)->Prop
abbrev TGs:=List V->St->Hp->(St->Hp->Prop)->Prop
def PG(X:Cx)(target:ar)(t:TG):Prop :=
 ∀(pins:k86) (s:aq) (I:St) (H:Hp) (v:V) (u:aj) (Q:St->Hp->Prop),Inv X pins I H s->RelV v u->t v I H Q ->
  ay (aB X.prog X.w) X.A (eJ target X.env u) (λ_ s'=>∃σ' H',Inv X pins σ' H' s'/\Q σ' H') X.xe s
def PGs(X:Cx)(ts:List ar)(t:TGs):Prop :=
 ∀(pins:k86) (s:aq) (I:St) (H:Hp) (vs:List V) (us:List aj) (Q:St->Hp->Prop),Inv X pins I H s->Vals vs us->t vs I H Q ->
  ay (aB X.prog X.w) X.A (nF ((bp ts X.env).map (·.2)) us) (λ_ s'=>∃σ' H',Inv X pins σ' H' s'/\Q σ' H') X.xe s
section
variable{X:Cx}{pos:aR}
def jd9(i:Nat):TG:=λv I H Q=>Q (I.set i (aa v)) H
def Zf(hN:X.N.Nodup)(hi:X.N[i]?=aa x)(hx:Loc X.env.scope x)(hf:X.fn x=af\/X.env.scope.names.lookup x=aa .local:=by first|exact .inl rfl|exact .inr rfl|assumption):PG X (.Name x pos) (jd9 i):=by intro pins s I H v u Q nI r h;exact kT (j14 nI hN hi hx r (λs' I'=>⟨_,H,I',h⟩) hf)
def jqp:TGs:=λvs I H Q=>vs=[]/\Q I H
def jo4(t:TG)(u:TGs):TGs:=λvs I H Q=>∃v r,vs=v::r/\t v I H λσ' H'=>u r σ' H' Q
def K9:PGs X [] jqp:=by intro pins s I H vs us Q nI r h;obtain⟨e,h⟩:=h;subst e;cases r;exact assignInOrder_nil ⟨I,H,nI,h⟩
def Z9(h1:PG X e t)(h2:PGs X es u)
  (hs:(bp (e::es) X.env).map (·.2)=eJ e X.env::(bp es X.env).map (·.2):=by rfl):PGs X (e::es) (jo4 t u):=by
 intro pins s I H vs us Q nI r h;obtain⟨v,vr,e1,h⟩:=h;subst e1;cases r with
 |cons r rr =>rw[hs];refine assignInOrder_cons (thn (h1 pins s I H _ _ _ nI r h) λ_ s1 ⟨σ1,H1,I1,q1⟩=>?_);exact h2 pins s1 σ1 H1 _ _ Q I1 rr q1
def jqo(K:k84)(n:Nat)(t:TGs):TG:=λv I H Q=>∃a xs,v=.ref a/\SqT K H a xs/\xs.length=n/\t xs I H Q
def ji2(hc:X.calm=af)(h:PGs X es t)
  (hn:(bp es X.env).length=n:=by rfl) (hst:(bp es X.env).findIdx? (·.1)=ag:=by rfl):PG X (.Tuple es k pos) (jqo X.K n t):=by
 intro pins s I H v u Q nI r hw;obtain⟨a,xs,e1,hq,hl,hw⟩:=hw;subst e1;cases r;obtain⟨its,rv,ht,hz⟩:=nI.tuple hq;refine assign_Tuple_tuple (nI.ok.hd hc) ht (by simp[hn,<-hl,rv.length]) hst λh' hx=>?_;have I1:Inv X pins I H { s with heap:=h' }:=nI.kept (t':=s.toks) λb o e=>hx b o (Xi (X4 e)) e;exact h pins _ I H xs _ Q I1 (by simpa using rv) hw
def jh1(te:TE)(g:TG):TS:=λD I H=>te I H λx H1=>g x I H1 D.nx
def j1j(he:PE X e te)(hg:PG X tg g)(hs:dh [tg] e pos.line X.env=pure ae:=by rfl)(hw:di [tg] e X.env=pure ag:=by rfl)
  (h1:(bp [tg] X.env).map (·.2)=[eJ tg X.env]:=by rfl):PS X (.Assign [tg] e pos) (jh1 te g):=by
 intro pins s I H D nI h;refine wpAny_Assign_stores (thn (he pins s I H _ nI h) λv s1 ⟨x,H1,I1,r1,q1⟩=>?_) hs hw;rw[h1];exact thn (hg pins s1 I H1 x v _ I1 r1 q1) λ_ s2 q=>q
def Qx(hN:X.N.Nodup)(hi:X.N[i]?=aa x)(hx:Loc X.env.scope x)(he:PE X e te)(hs:aO e (aa (.Name x pos')) pos.line X.env=pure ae:=by rfl)(hf:X.fn x=af\/X.env.scope.names.lookup x=aa .local:=by first|exact .inl rfl|exact .inr rfl|assumption) :
  PS X (.Assign [.Name x pos'] e pos) (jh1 te (jd9 i)):=by
 intro pins s I H D nI h;refine wpAny_Assign_Name (thn (he pins s I H _ nI h) λv s1 ⟨y,H1,I1,r1,q1⟩=>?_) hs;exact j14 I1 hN hi hx r1 (λs2 I2=>⟨_,H1,I2,q1⟩) hf
end
section
variable{X:Cx}{pos:aR}
def jgy(c:TT)(tb:TS):TS:=λD I H=>∃W:Nat->St->Hp->Prop,(∃m,W m I H)/\∀m I H,W m I H ->
 c I H λb H1=>if b=af then ∃N:St->Hp->Prop,(∀σ' H',N σ' H'->∃m',m'<m/\W m' σ' H')/\tb { D with nx:=N,ct:=N,bk:=D.nx } I H1 else D.nx I H1
def jb2{tb:TS}(hp:eR (aB X.prog X.w) X.A X.env X.xe)(hc:PT X c tc)(hb:PSs X body tb):PS X (.While c body [] pos) (jgy tc tb):=by
 intro pins s I H D nI h;obtain⟨W,⟨m0,w0⟩,turn⟩:=h;refine wpAny_While (codeAny_whileLoop (λn s'=>∃σ' H',Inv X pins σ' H' s'/\W n σ' H') ?_ m0 ⟨I,H,nI,w0⟩);rintro n s1 ⟨σ1,H1,I1,w1⟩;refine cj hp (thn (hc pins s1 σ1 H1 _ I1 (turn n σ1 H1 w1)) λb s2 ⟨H2,I2,q2⟩=>?_);cases b with
 |true =>
  obtain⟨N,hN,q2⟩:=q2;rw[if_pos rfl];refine cj hp (thn (hb pins s2 σ1 H2 _ I2 q2) λf s3 q3=>?_);cases f with
  |next =>obtain⟨σ3,H3,I3,n3⟩:=q3;obtain⟨m',hm,w3⟩:=hN σ3 H3 n3;exact⟨m',hm,σ3,H3,I3,w3⟩
  |cont =>obtain⟨σ3,H3,I3,n3⟩:=q3;obtain⟨m',hm,w3⟩:=hN σ3 H3 n3;exact⟨m',hm,σ3,H3,I3,w3⟩
  |brk=>exact q3
  |ret v=>exact q3
 |false =>rw[if_neg xq];exact fj ⟨σ1,H2,I2,q2⟩
end
structure It where
 go:Nat->Hp->Prop
 yld:Nat->Hp->V->Hp->Prop
 stop:Nat->Hp->Prop
def Qk(X:Cx)(pins:k86)(H:Hp)(b:ak):Prop :=
 H b=ag/\b≠X.env.locals/\b∉X.fs/\(b∈X.ex\/X.s₀.heap.objs.size<=b)/\(∀x c,X.env.cells.lookup x=aa c->c≠b)/\∀p∈X.pn++pins,p.1≠b
def Inv.fpOk(nI:Inv X pins I H s)(hb:s.heap.objs.size<=b)(hn:H' b=ag):Qk X pins H' b:=by
 refine⟨hn,Xu (Xh nI.lt hb),nI.nofs hb,.inr (Xa nI.sz hb),λx c e z=>?_,λp hp z=>?_⟩
 .obtain⟨v,q⟩:=nI.cell x c e;exact absurd (Xh q.lt (by rw[z];exact hb)) (T6 _)
 .exact absurd (Xh (X4 (nI.pin p hp).1) (by rw[z];exact hb)) (T6 _)
structure Turn(P:aA)(w:aH)(K:k84)(tg:ar)(nH:It)(fp:List ak)(it:ak)(tn:Nat->aL->Prop):Prop where
 mem:it∈fp
 obj:∀i h,tn i h->∀b∈fp,∃o,h.get? b=aa o/\∀v,o.data≠.cell v
 keep:∀i h h',tn i h->(∀b∈fp,∀o,h.get? b=aa o->h'.get? b=aa o)->tn i h'
 item:∀(X:Cx),X.prog=P->X.w=w->X.K=K->X.calm=af->∀(i:Nat)(pins:k86) (s:aq) (I:St) (H:Hp) (E:k85),Inv X pins I H s->(∀b∈fp,Qk X pins H b)->tn i s.heap->nH.go i H ->
  ay (aB P w) X.A (eG (.ref it)) (λr s1=>∃u,r=aa u /\
   ay (aB P w) X.A (fk tg (.ref it) u) (λ_ s2=>∃x H',Inv X pins I H' s2/\RelV x u/\nH.yld i H x H'/\tn (i+1) s2.heap/\∀b∈fp,H' b=ag) E s1) E s
 done:∀(X:Cx),X.prog=P->X.w=w->X.K=K->X.calm=af->∀(i:Nat)(pins:k86) (s:aq) (I:St) (H:Hp) (E:k85),Inv X pins I H s->(∀b∈fp,Qk X pins H b)->tn i s.heap->nH.stop i H ->
  ay (aB P w) X.A (eG (.ref it)) (λr s1=>r=ag/\Inv X pins I H s1) E s
 self:∀(A:aI)(i:Nat)(s:aq)(Q:k85)(E:k85),tn i s.heap->Q (.ref it) s->ay (aB P w) A (kF (.ref it)) Q E s
abbrev TI:=St->Hp->(It->Hp->Prop)->Prop
def PIE(X:Cx)(pins:k86)(I:St)(tg:ar)(R:It->Hp->Prop)(itv:aj)(s2:aq):Prop :=
 ∃(it:ak)(fp:List ak)(tn:Nat->aL->Prop)(nH:It)(H':Hp),itv=.ref it/\Inv X pins I H' s2/\Turn X.prog X.w X.K tg nH fp it tn/\tn 0 s2.heap/\(∀b∈fp,Qk X pins H' b)/\R nH H'
def PI(X:Cx)(tg iter:ar)(wi:TI):Prop :=
 ∀(pins:k86) (s:aq) (I:St) (H:Hp) (R:It->Hp->Prop),Inv X pins I H s->wi I H R ->
  ay (aB X.prog X.w) X.A (aD iter X.env) (λv s1=>ay (aB X.prog X.w) X.A (kF v) (PIE X pins I tg R) X.xe s1) X.xe s
def j0k{s:aq}(ho:s.heap.get? it=aa o)(hc:o.cls=.type n)(hd:o.data=.fields vs)
  (hn:["enumerate","zip","dict_itemiterator","dict_reverseitemiterator","odict_iterator","itertools.zip_longest","itertools.pairwise"].contains n=ae) (hQ:Q () s):ay M A (fk tg (.ref it) u) Q E s:=by
 unfold fk;cases tg<;>first
  |exact az hQ
  |(cases u<;>first
    |exact az hQ
    |(refine ai (wpAny_load ho ?_);rw[hc,hd];show ay M A (if (["enumerate","zip","dict_itemiterator","dict_reverseitemiterator","odict_iterator","itertools.zip_longest","itertools.pairwise"].contains n&&vs[0]?==aa (fc _))=af then _ else _) Q E s;rw[if_neg (by intro h;rw[hn,ky]at h;cases h)];exact az hQ))
noncomputable def Itl(K:k84)(a:ak):It :=
 ⟨λi H=>∃xs x,SqL K H a xs/\xs[i]?=aa x,λi H x H'=>H'=H/\∀xs,SqL K H a xs->xs[i]?=aa x,λi H=>∃xs,SqL K H a xs/\xs.length<=i⟩
noncomputable def Itt(K:k84)(a:ak):It :=
 ⟨λi H=>∃xs x,SqT K H a xs/\xs[i]?=aa x,λi H x H'=>H'=H/\∀xs,SqT K H a xs->xs[i]?=aa x,λi H=>∃xs,SqT K H a xs/\xs.length<=i⟩
def Itr(lo:Int)(n:Nat):It:=⟨λi _=>i<n,λi H x H'=>H'=H/\x=.int (lo+i),λi _=>n<=i⟩
def j6z{K:k84}(a it:ak):Turn P w K tg (Itl K a) [it] it (λi h=>h.IsListIter it a i) where
 mem:=by simp
 obj:=λi h st b hb=>by
  have e:b=it:=by simpa using hb
  subst e;obtain⟨o,e,c,d⟩:=st;exact⟨o,e,λv z=>by rw[d]at z;cases z⟩
 keep:=λi h h' st k=>st.at λo e=>k it (by simp) o e
 item:=by intro X hP hw hK hc i pins s I H E nI hf st hg;subst hP hw hK;obtain⟨xs,x,hq,hx⟩:=hg;obtain⟨its,rv,p,hz⟩:=nI.list hq;obtain⟨u,hu,ru⟩:=rv.get hx;obtain⟨f0,f1,f2,f3,f4,f5⟩:=hf it (by simp);refine jC st p.isList (x:=u) (by simpa using hu) λh' st' sb=>?_;have I1:Inv X pins I H { s with heap:=h' }:=nI.turned (t':=s.toks) (λb o hb e=>(sb.2 b hb).trans e) f0 f1 f3 f4 f5;obtain⟨o,e,c,d⟩:=id st';exact⟨u,rfl,j0k (s:={ s with heap:=h' }) e c d (by decide) ⟨x,H,I1,ru,⟨rfl,λys hy=>by rw[nI.list_inj hy hq];exact hx⟩,st',λb hb=>(hf b hb).1⟩⟩
 done:=by intro X hP hw hK hc i pins s I H E nI hf st hg;subst hP hw hK;obtain⟨xs,hq,hx⟩:=hg;obtain⟨its,rv,p,hz⟩:=nI.list hq;obtain⟨f0,f1,f2,f3,f4,f5⟩:=hf it (by simp);have hl:=rv.length;exact jM (nI.ok.hd hc) st p.isList (by simp;omega) λh' eb=>⟨rfl,nI.turned (t':=s.toks) (λb o hb e=>eb b o hb e) f0 f1 f3 f4 f5⟩
 self:=λ_ _ _ _ _ st h=>wpAny_pyIter_listiter st h
def j53{K:k84}(a it:ak):Turn P w K tg (Itt K a) [it] it (λi h=>h.IsTupleIter it a i) where
 mem:=by simp
 obj:=λi h st b hb=>by
  have e:b=it:=by simpa using hb
  subst e;obtain⟨o,e,c,d⟩:=st;exact⟨o,e,λv z=>by rw[d]at z;cases z⟩
 keep:=λi h h' st k=>st.at λo e=>k it (by simp) o e
 item:=by intro X hP hw hK hc i pins s I H E nI hf st hg;subst hP hw hK;obtain⟨xs,x,hq,hx⟩:=hg;obtain⟨its,rv,p,hz⟩:=nI.tuple hq;obtain⟨u,hu,ru⟩:=rv.get hx;obtain⟨f0,f1,f2,f3,f4,f5⟩:=hf it (by simp);refine wpAny_pyNext_tuple_item st (show s.heap.IsTuple a its.toArray from p) (x:=u) (by simpa using hu) λh' st' sb=>?_;have I1:Inv X pins I H { s with heap:=h' }:=nI.turned (t':=s.toks) (λb o hb e=>(sb.2 b hb).trans e) f0 f1 f3 f4 f5;obtain⟨o,e,c,d⟩:=id st';exact⟨u,rfl,j0k (s:={ s with heap:=h' }) e c d (by decide) ⟨x,H,I1,ru,⟨rfl,λys hy=>by rw[nI.tuple_inj hy hq];exact hx⟩,st',λb hb=>(hf b hb).1⟩⟩
 done:=by intro X hP hw hK hc i pins s I H E nI hf st hg;subst hP hw hK;obtain⟨xs,hq,hx⟩:=hg;obtain⟨its,rv,p,hz⟩:=nI.tuple hq;obtain⟨f0,f1,f2,f3,f4,f5⟩:=hf it (by simp);have hl:=rv.length;exact wpAny_pyNext_tuple_end (nI.ok.hd hc) st (show s.heap.IsTuple a its.toArray from p) (by simp;omega) λh' eb=>⟨rfl,nI.turned (t':=s.toks) (λb o hb e=>eb b o hb e) f0 f1 f3 f4 f5⟩
 self:=λ_ _ _ _ _ st h=>wpAny_pyIter_tupleiter st h
def j54{K:k84}(it:ak)(lo:Int)(n:Nat):Turn P w K tg (Itr lo n) [it] it (λi h=>IsRangeIter h it (lo+(i:Nat)*1) ((n:Int)-(i:Nat)) 1) where
 mem:=by simp
 obj:=λi h st b hb=>by
  have e:b=it:=by simpa using hb
  subst e;exact⟨_,st,λv z=>by
   have z':Data.fields _=Data.cell v:=z
   cases z'⟩
 keep:=λi h h' st k=>k it (by simp) _ st
 item:=by intro X hP hw hK hc i pins s I H E nI hf st hg;subst hP hw hK;obtain⟨f0,f1,f2,f3,f4,f5⟩:=hf it (by simp);have W:=Walks.range (prog:=X.prog) (w:=X.w) (nI.ok.hd hc) it lo 1 n;refine Jc (.inl nI.tk) (W.item i s _ _ hg st λv h' tk hv st' kk (ht:0<tk)=>?_);obtain⟨t,rfl⟩:=hv;have I1:Inv X pins I H { s with heap:=h',toks:=tk }:=nI.turned (λb o hb e=>kk b o (by simpa using hb) e) f0 f1 f3 f4 f5;refine⟨_,rfl,j0k (s:={ s with heap:=h',toks:=tk }) (n:="range_iterator") st' rfl rfl (by decide) ⟨.int (lo+i),H,I1,⟨t,?_⟩,⟨rfl,rfl⟩,st',λb hb=>(hf b hb).1⟩⟩;rw[mV]
 done:=by intro X hP hw hK hc i pins s I H E nI hf st hg;subst hP hw hK;obtain⟨f0,f1,f2,f3,f4,f5⟩:=hf it (by simp);exact wpAny_pyNext_range_end (nI.ok.hd hc) st (by have:n<=i:=hg;omega) λh' eb=>⟨rfl,nI.turned (t':=s.toks) (λb o hb e=>eb b o hb e) f0 f1 f3 f4 f5⟩
 self:=λ_ _ _ _ _ st h=>wpAny_pyIter_rangeiter st h
section
variable{X:Cx}{tg:ar}
def jny(K:k84)(tl:TE):TI:=λI H R=>tl I H λx H1=>∃a,x=.ref a/\(∃xs,SqL K H1 a xs)/\R (Itl K a) H1
def jqm(K:k84)(tl:TE):TI:=λI H R=>tl I H λx H1=>∃a,x=.ref a/\(∃xs,SqT K H1 a xs)/\R (Itt K a) H1
def jer(hl:PE X l tl):PI X tg l (jny X.K tl):=by
 intro pins s I H R nI h;refine thn (hl pins s I H _ nI h) λv s1 ⟨x,H1,I1,r1,q1⟩=>?_;obtain⟨a,e,⟨xs,hq⟩,q⟩:=q1;subst e;cases r1;obtain⟨its,rv,p,hz⟩:=I1.list hq;refine cX p.isList ?_;refine⟨s1.heap.objs.size,[s1.heap.objs.size],_,_,H1,rfl,I1.kept (t':=s1.toks) λb o e=>kj _ e,j6z a _,⟨_,X7 _ rfl,rfl,rfl⟩,λb hb=>?_,q⟩;have e:b=s1.heap.objs.size:=by simpa using hb
 subst e;exact I1.fpOk (Xc _) (I1.hok.fresh (Xc _))
def ji1(hl:PE X l tl):PI X tg l (jqm X.K tl):=by
 intro pins s I H R nI h;refine thn (hl pins s I H _ nI h) λv s1 ⟨x,H1,I1,r1,q1⟩=>?_;obtain⟨a,e,⟨xs,hq⟩,q⟩:=q1;subst e;cases r1;obtain⟨its,rv,p,hz⟩:=I1.tuple hq;refine gk (show s1.heap.IsTuple a its.toArray from p) ?_;refine⟨s1.heap.objs.size,[s1.heap.objs.size],_,_,H1,rfl,I1.kept (t':=s1.toks) λb o e=>kj _ e,j53 a _,⟨_,X7 _ rfl,rfl,rfl⟩,λb hb=>?_,q⟩;have e:b=s1.heap.objs.size:=by simpa using hb
 subst e;exact I1.fpOk (Xc _) (I1.hok.fresh (Xc _))
def jaz{lo:Int}(ht:0<tk)(nI:Inv X pins I H s)(h1:-(2^62)<=lo)(h2:lo<2^62)(h3:-(2^62)<=hi)(h4:hi<2^62)
  (q:R (Itr lo (hi-lo).toNat) H):ay (aB X.prog X.w) X.A (kF (.ref s.heap.objs.size)) (PIE X pins I tg R) E { s with heap:=s.heap.push { cls:=.type "range",data:=.fields #[.int lo t,.int hi u,.int 1 v] },toks:=tk }:=by
 refine wpAny_pyIter_range (IsRange.new ..) (small_one h1 h2 h3 h4) ?_;have I1:Inv X pins I H { s with heap:=s.heap.push { cls:=.type "range",data:=.fields #[.int lo t,.int hi u,.int 1 v] },toks:=tk }:=nI.kept λb o e=>kj _ e;refine⟨(s.heap.push { cls:=.type "range",data:=.fields #[.int lo t,.int hi u,.int 1 v] }).objs.size,[(s.heap.push { cls:=.type "range",data:=.fields #[.int lo t,.int hi u,.int 1 v] }).objs.size],_,_,H,rfl,
  I1.kept (t':=tk) λb o e=>kj _ e,j54 _ lo (hi-lo).toNat,?_,λb hb=>?_,q⟩
 .have e1:lo+((0:Nat):Int)*1=lo:=by simp
  have e2:(((hi-lo).toNat:Nat):Int)-((0:Nat):Int)=Builtin.Range.rangeSize lo hi 1:=by rw[rangeSize_one];split<;>omega
  show IsRangeIter _ _ (lo+((0:Nat):Int)*1) ((((hi-lo).toNat:Nat):Int)-((0:Nat):Int)) 1;rw[e1,e2];exact X7 _ rfl
 .have e:b=(s.heap.push { cls:=.type "range",data:=.fields #[.int lo t,.int hi u,.int 1 v] }).objs.size:=by simpa using hb
  subst e;exact I1.fpOk (Xc _) (I1.hok.fresh (Xc _))
def jnx(ta:TA):TI:=λI H R=>ta I H λvs H1=>∃j:Int,vs=[.int j]/\-(2^62)<=j/\j<2^62/\R (Itr 0 j.toNat) H1
def j7t(hg:Gl X "range")(hm:X.mg "range"=ag)(ha:PA X [a] ta)(hs:ah [a] X.env=[(ae,aD a X.env)]:=by rfl):PI X tg (.Call (.Name "range" p) [a] [] pos) (jnx ta):=by
 intro pins s I H R nI h;refine kZ (Qf nI hg hm boot_range (callWith_type1 (thn (ha pos pins s I H _ nI h) λus s1 ⟨vs,H1,I1,r1,q1⟩=>?_) hs rfl));obtain⟨j,e,q1,q2,q⟩:=q1;subst e;cases r1 with
 |cons r rr =>cases rr;obtain⟨t,rfl⟩:=r;exact call_range_1 (jaz (Pb _) I1 nofun nofun q1 q2 (by simpa using q))
def jpo(wi:TI)(g:TG)(tb:TS):TS:=λD I H=>wi I H λnH H1=>∃W:Nat->Nat->St->Hp->Prop,(∃m,W 0 m I H1)/\∀i m I H,W i m I H ->
 (nH.stop i H/\D.nx I H)\/(nH.go i H/\∃N:St->Hp->Prop,(∀σ' H',N σ' H'->∃m',m'<m/\W (i+1) m' σ' H')/\∀x H',nH.yld i H x H'->g x I H' λσ2 H2=>tb { D with nx:=N,ct:=N,bk:=D.nx } σ2 H2)
def Zq(fp:List ak)(h:aL):List (ak×cT):=fp.filterMap λb=>(h.get? b).map λo=>(b,o)
def Zv{h:aL}(hb:b∈fp)(e:h.get? b=aa o):(b,o)∈Zq fp h:=Tc.mpr ⟨b,hb,by rw[e];rfl⟩
def Eb(hp:p∈Zq fp h):p.1∈fp/\h.get? p.1=aa p.2:=by
 obtain⟨b,hb,e⟩:=Tc.mp hp;cases q:h.get? b with
 |none=>rw[q]at e;cases e
 |some o =>rw[q]at e;have e':(b,o)=p:=aJ e;subst e';exact⟨hb,q⟩
def Inv.pinned(nI:Inv X pins I H s)(hf:∀b∈fp,Qk X pins H b)(ho:∀b∈fp,∃o,s.heap.get? b=aa o/\∀v,o.data≠.cell v):Inv X (pins++Zq fp s.heap) I H s :=
 nI.pins_of λp hp=>(X8.mp hp).elim (λz=>nI.pin p (Xj _ z)) λz=>by obtain⟨hb,e⟩:=Eb z;obtain⟨f0,f1,f2,_⟩:=hf p.1 hb;obtain⟨o,e',d⟩:=ho p.1 hb;rw[e]at e';cases e';exact⟨e,f0,f1,f2,d⟩
def Inv.unpinned(nI:Inv X (pins++pl) I H s):Inv X pins I H s:=nI.pins_of λp hp=>nI.pin p (Xj _ (Pu _ hp))
def jhy{iter:ar}{tb:TS}(hp:eR (aB X.prog X.w) X.A X.env X.xe)(hc:X.calm=af)(hi:PI X tg iter wi)(hg:PG X tg g)(hb:PSs X body tb)
  (hs:∀x,b8 iter X.env x=pure x:=by intro _;rfl):PS X (.For tg iter body [] pos) (jpo wi g tb):=by
 intro pins s I H D nI h;refine wpAny_For (thn (hi pins s I H _ nI h) λv s1 h1=>thn h1 λitv s2 h2=>?_) hs;obtain⟨it,fp,tn,nH,H2,e,I2,T,st2,f2,W,⟨m0,w0⟩,turn⟩:=h2;subst e;have stat:∀{H':Hp},(∀b∈fp,H' b=ag)->∀b∈fp,Qk X pins H' b:=λhn b hb=>⟨hn b hb,(f2 b hb).2⟩
 refine codeAny_forLoop_any (λn s'=>∃i σ' H',Inv X pins σ' H' s'/\tn i s'.heap/\(∀b∈fp,H' b=ag)/\W i n σ' H') ?_ m0 ⟨0,I,H2,I2,st2,λb hb=>(f2 b hb).1,w0⟩;rintro n s3 ⟨i,σ3,H3,I3,st3,fr3,w3⟩;rcases turn i n σ3 H3 w3 with ⟨stop,qn⟩|⟨go,N,hN,step⟩
 .refine cj hp (thn (T.done X rfl rfl rfl hc i pins s3 σ3 H3 X.xe I3 (stat fr3) st3 stop) λr s4 ⟨hr,I4⟩=>?_);subst hr;exact fj ⟨σ3,H3,I4,qn⟩
 .refine cj hp (thn (T.item X rfl rfl rfl hc i pins s3 σ3 H3 X.xe I3 (stat fr3) st3 go) λr s4 ⟨u,hr,h4⟩=>?_);subst hr;refine cj hp (thn h4 λ_ s5 ⟨x,H5,I5,r5,y5,st5,fr5⟩=>?_);have I5':=I5.pinned (stat fr5) (T.obj _ _ st5);refine cj hp (thn (hg _ s5 σ3 H5 x u _ I5' r5 (step x H5 y5)) λ_ s6 ⟨σ6,H6,I6,q6⟩=>?_);refine cj hp (thn (hb _ s6 σ6 H6 _ I6 q6) λf s7 q7=>?_);have kX:∀{σ7:St}{H7:Hp},Inv X (pins++Zq fp s5.heap) σ7 H7 s7->N σ7 H7->∃m,m<n/\∃i σ' H',Inv X pins σ' H' s7/\tn i s7.heap/\(∀b∈fp,H' b=ag)/\W i m σ' H':=λ{σ7 H7} I7 n7=>by obtain⟨m',hm,w7⟩:=hN σ7 H7 n7;refine⟨m',hm,i+1,σ7,H7,I7.unpinned,T.keep _ _ _ st5 λb hb o e=>(I7.pin (b,o) (Xj _ (Xj _ (Zv hb e)))).1,λb hb=>?_,w7⟩;obtain⟨o,e,d⟩:=T.obj _ _ st5 b hb;exact(I7.pin (b,o) (Xj _ (Xj _ (Zv hb e)))).2.1
  cases f with
  |next=>obtain⟨σ7,H7,I7,n7⟩:=q7;exact kX I7 n7
  |cont=>obtain⟨σ7,H7,I7,n7⟩:=q7;exact kX I7 n7
  |brk=>obtain⟨σ7,H7,I7,q7⟩:=q7;exact⟨σ7,H7,I7.unpinned,q7⟩
  |ret v=>obtain⟨x7,σ7,H7,H8,I7,r7,x8,q7⟩:=q7;exact⟨x7,σ7,H7,H8,I7.unpinned,r7,x8,q7⟩
end
abbrev R2:=V->V->Hp->VK->Prop
def OpR(X:Cx)(f:aj->aj->iL aj)(r:R2):Prop :=
 ∀(pins:k86) (s:aq) (I:St) (H:Hp) (x y:V) (v u:aj) (Q:VK),Inv X pins I H s->RelV x v->RelV y u->r x y H Q ->
  ay (aB X.prog X.w) X.A (f v u) (EP X pins I Q) X.xe s
def UnR(X:Cx)(f:aj->iL aj)(r:V->Hp->VK->Prop):Prop :=
 ∀(pins:k86) (s:aq) (I:St) (H:Hp) (x:V) (v:aj) (Q:VK),Inv X pins I H s->RelV x v->r x H Q ->
  ay (aB X.prog X.w) X.A (f v) (EP X pins I Q) X.xe s
def Qc(X:Cx)(f:aj)(r:List V->Hp->VK->Prop):Prop :=
 ∀(pins:k86) (s:aq) (I:St) (H:Hp) (xs:List V) (us:List aj) (Q:VK),Inv X pins I H s->Vals xs us->r xs H Q ->
  ay (aB X.prog X.w) X.A (call f us) (EP X pins I Q) X.xe s
def tOp(r:R2)(ta tb:TE):TE:=λI H Q=>ta I H λx H1=>tb I H1 λy H2=>r x y H2 Q
def tUn(r:V->Hp->VK->Prop)(ta:TE):TE:=λI H Q=>ta I H λx H1=>r x H1 Q
def rI(C:Int->Int->Prop)(g:Int->Int->V):R2:=λx y H Q=>∃i j,x=.int i/\y=.int j/\C i j/\Q (g i j) H
def rI0(g:Int->Int->V):R2:=λx y H Q=>∃i j,x=.int i/\y=.int j/\Q (g i j) H
def rU(g:Int->V):V->Hp->VK->Prop:=λx H Q=>∃i,x=.int i/\Q (g i) H
section
variable{X:Cx}{a b c:ar}{ta tb tc:TE}{pos:aR}
def jc8(ha:PE X a ta)(hb:PE X b tb){pins:k86}{s:aq}{I:St}{H:Hp}{R:V->V->Hp->Prop}(nI:Inv X pins I H s)
  (h:ta I H λx H1=>tb I H1 λy H2=>R x y H2) {Q:k85} {f:aj->aj->iL aj}
  (hf:∀v u s2 x y H2,Inv X pins I H2 s2->RelV x v->RelV y u->R x y H2->ay (aB X.prog X.w) X.A (f v u) Q X.xe s2) :
  ay (aB X.prog X.w) X.A (aD a X.env) (λv s₁=>ay (aB X.prog X.w) X.A (aD b X.env) (λu s₂=>ay (aB X.prog X.w) X.A (f v u) Q X.xe s₂) X.xe s₁) X.xe s:=by
 refine thn (ha pins s I H _ nI h) λv s1 ⟨x,H1,I1,r1,q1⟩=>?_;refine thn (hb pins s1 I H1 _ I1 q1) λu s2 ⟨y,H2,I2,r2,q2⟩=>?_;exact hf v u s2 x y H2 I2 r1 r2 q2
def Zr(ho:OpR X (bO op) r)(ha:PE X a ta)(hb:PE X b tb):PE X (.BinOp a op b pos) (tOp r ta tb):=by intro pins s I H Q nI h;exact wpAny_BinOp (jc8 ha hb nI h λv u s2 x y H2 I2 rx ry q=>ho pins s2 I H2 x y v u Q I2 rx ry q)
def jms(ho:UnR X (unaryOp op) r)(ha:PE X a ta):PE X (.UnaryOp op a pos) (tUn r ta):=by intro pins s I H Q nI h;exact UnaryOp_ (thn (ha pins s I H _ nI h) λv s1 ⟨x,H1,I1,r1,q1⟩=>ho pins s1 I H1 x v Q I1 r1 q1)
def opI{f:aj->aj->iL aj}{C:Int->Int->Prop}{g:Int->Int->Int}
  (jV:∀(i j:Int)(t u:iD)(s:aq)(Q:k85)(E:k85),C i j->Q (.int (g i j) s.toks) { s with toks:=s.toks+1 }->ay (aB X.prog X.w) X.A (f (.int i t) (.int j u)) Q E s) :
  OpR X f (rI C λi j=>.int (g i j)):=by
 intro pins s I H x y v u Q nI rx ry h;obtain⟨i,j,rfl,rfl,hc,q⟩:=h;obtain⟨t,rfl⟩:=rx;obtain⟨t',rfl⟩:=ry;exact jV i j t t' s _ _ hc ⟨.int (g i j),H,nI.tok _,⟨_,rfl⟩,q⟩
def jie{f:aj->aj->iL aj}{g:Int->Int->Int}
  (jV:∀(i j:Int)(t u:iD)(s:aq)(Q:k85)(E:k85),Q (.int (g i j) s.toks) { s with toks:=s.toks+1 }->ay (aB X.prog X.w) X.A (f (.int i t) (.int j u)) Q E s) :
  OpR X f (rI0 λi j=>.int (g i j)):=by
 intro pins s I H x y v u Q nI rx ry h;obtain⟨i,j,rfl,rfl,q⟩:=h;obtain⟨t,rfl⟩:=rx;obtain⟨t',rfl⟩:=ry;exact jV i j t t' s _ _ ⟨.int (g i j),H,nI.tok _,⟨_,rfl⟩,q⟩
def j5v{f:aj->aj->iL aj}{g:Int->Int->Bool}
  (jV:∀(i j:Int)(t u:iD)(s:aq)(Q:k85)(E:k85),Q (.bool (g i j)) s->ay (aB X.prog X.w) X.A (f (.int i t) (.int j u)) Q E s) :
  OpR X f (rI0 λi j=>.bl (g i j)):=by
 intro pins s I H x y v u Q nI rx ry h;obtain⟨i,j,rfl,rfl,q⟩:=h;obtain⟨t,rfl⟩:=rx;obtain⟨t',rfl⟩:=ry;exact jV i j t t' s _ _ ⟨.bl (g i j),H,nI,rfl,q⟩
def j6r(i j:Int):Prop:=0<=j/\j<=1000000/\i.natAbs<2^64
def j6s(i j:Int):Prop:=(-(2^64)<i/\i<2^64)\/(-(2^64)<j/\j<2^64)
def j6s.ok(h:j6s i j):IntMulOk i j:=by
 rcases h with ⟨h1,h2⟩|⟨h1,h2⟩
 .exact .of_left (nC h1 h2)
 .exact .of_right (nC h1 h2)
def j81:OpR X (bO .Add) (rI0 λi j=>.int (i+j)):=jie λ_ _ _ _ _ _ _ q=>add_int q
def ji8:OpR X (bO .Sub) (rI0 λi j=>.int (i-j)):=jie λ_ _ _ _ _ _ _ q=>sub_int q
def jic:OpR X (bO .Mult) (rI j6s λi j=>.int (i*j)):=opI λ_ _ _ _ _ _ _ hc q=>mul_int q hc.ok
def jid:OpR X (bO .Mod) (rI (λ_ j=>0<j) λi j=>.int (i%j)):=opI λi j _ _ _ _ _ hc q=>by have h1:(0:Int)<j:=hc;exact mod_int' nofun (by rw[Int.fmod_eq_emod_of_nonneg i nofun];exact q)
def jib:OpR X (bO .Pow) (rI j6r λi j=>.int (i^j.toNat)):=opI λ_ _ _ _ _ _ _ hc q=>pow_int_small hc.1 hc.2.1 hc.2.2 q
def ji9:OpR X (bO .LShift) (rI j6r λi j=>.int (i*2^j.toNat)):=opI λ_ _ _ _ _ _ _ hc q=>lshift_int_small hc.1 hc.2.1 hc.2.2 q
def unI{f:aj->iL aj}{g:Int->Int}
  (jV:∀(i:Int)(t:iD)(s:aq)(Q:k85)(E:k85),Q (.int (g i) s.toks) { s with toks:=s.toks+1 }->ay (aB X.prog X.w) X.A (f (.int i t)) Q E s) :
  UnR X f (rU λi=>.int (g i)):=by
 intro pins s I H x v Q nI rx h;obtain⟨i,rfl,q⟩:=h;obtain⟨t,rfl⟩:=rx;exact jV i t s _ _ ⟨.int (g i),H,nI.tok _,⟨_,rfl⟩,q⟩
def jgq:UnR X (unaryOp .USub) (rU λi=>.int (-i)):=unI λ_ _ _ _ _ q=>neg_int q
end
noncomputable def K4:V->V->Bool
 |.non,.non=>af|.non,.int _=>af|.int _,.non=>af|.non,.bl _=>af|.bl _,.non=>af|.non,.str _=>af|.str _,.non=>af
 |.int _,.int _=>af|.bl _,.bl _=>af|.str _,.str _=>af|.byt _,.byt _=>af
 |.int _,.str _=>af|.str _,.int _=>af|.bl _,.str _=>af|.str _,.bl _=>af
 |_,_=>ae
def rEq:R2:=λx y H Q=>K4 x y=af/\Q (.bl (decide (x=y))) H
def rNe:R2:=λx y H Q=>K4 x y=af/\Q (.bl (!decide (x=y))) H
def j4q:decide (V.int i=V.int j)=(i==j):=by rw[eN];simp
def j93:decide (V.bl i=V.bl j)=(i==j):=by rw[eN];simp
def j4p:decide (V.str i=V.str j)=(i==j):=by rw[eN];simp
def j4r:decide (V.byt i=V.byt j)=(i.toList==j.toList):=by rw[eN];cases i;cases j;simp
section
variable{X:Cx}{a b c:ar}{ta tb tc:TE}{pos:aR}
def qj(nI:Inv X pins I H s)(q:Q (.bl k) H)(e:k=k'):EP X pins I Q (.bool k') s:=by subst e;exact⟨.bl k,H,nI,rfl,q⟩
def jcs:OpR X (bu .Eq) rEq:=by
 intro pins s I H x y v u Q nI rx ry h;obtain⟨hs,q⟩:=h;cases x with
 |non =>
  cases rx;cases y with
  |non=>cases ry;exact mC (qj nI q (by simp))
  |bl j=>cases ry;exact mE (qj nI q (by simp))
  |int j=>obtain⟨t',rfl⟩:=ry;exact mD (qj nI q (by simp))
  |str j=>obtain⟨t',rfl⟩:=ry;exact mB (qj nI q (by simp))
  |_=>exact absurd (show ae=af from hs) xq
 |bl i =>
  cases rx;cases y with
  |non=>cases ry;exact mG (qj nI q (by simp))
  |bl j=>cases ry;exact eq_bool (qj nI q j93)
  |str j=>obtain⟨t',rfl⟩:=ry;exact lQ (qj nI q (by simp))
  |_=>exact absurd (show ae=af from hs) xq
 |int i =>
  obtain⟨t,rfl⟩:=rx;cases y with
  |non=>cases ry;exact mF (qj nI q (by simp))
  |int j=>obtain⟨t',rfl⟩:=ry;exact eq_int (qj nI q j4q)
  |str j=>obtain⟨t',rfl⟩:=ry;exact lO (qj nI q (by simp))
  |_=>exact absurd (show ae=af from hs) xq
 |str i =>
  obtain⟨t,rfl⟩:=rx;cases y with
  |non=>cases ry;exact mz (qj nI q (by simp))
  |bl j=>cases ry;exact lN (qj nI q (by simp))
  |int j=>obtain⟨t',rfl⟩:=ry;exact lM (qj nI q (by simp))
  |str j=>obtain⟨t',rfl⟩:=ry;exact eq_str (qj nI q j4p)
  |_=>exact absurd (show ae=af from hs) xq
 |byt i =>
  obtain⟨t,rfl⟩:=rx;cases y with
  |byt j=>obtain⟨t',rfl⟩:=ry;exact W.eq_bytes (qj nI q j4r)
  |_=>exact absurd (show ae=af from hs) xq
 |_=>cases y<;>exact absurd (show ae=af from hs) xq
def j5s:OpR X (bu .NotEq) rNe:=by
 intro pins s I H x y v u Q nI rx ry h;obtain⟨hs,q⟩:=h;cases x with
 |non =>
  cases rx;cases y with
  |non=>cases ry;exact mi (qj nI q (by simp))
  |bl j=>cases ry;exact mr (qj nI q (by simp))
  |int j=>obtain⟨t',rfl⟩:=ry;exact mn (qj nI q (by simp))
  |str j=>obtain⟨t',rfl⟩:=ry;exact mh (qj nI q (by simp))
  |_=>exact absurd (show ae=af from hs) xq
 |bl i =>
  cases rx;cases y with
  |non=>cases ry;exact my (qj nI q (by simp))
  |bl j=>cases ry;exact ne_bool (qj nI q (congrArg not j93))
  |str j=>obtain⟨t',rfl⟩:=ry;exact lL (qj nI q (by simp))
  |_=>exact absurd (show ae=af from hs) xq
 |int i =>
  obtain⟨t,rfl⟩:=rx;cases y with
  |non=>cases ry;exact mw (qj nI q (by simp))
  |int j=>obtain⟨t',rfl⟩:=ry;exact ne_int (qj nI q (congrArg not j4q))
  |str j=>obtain⟨t',rfl⟩:=ry;exact lK (qj nI q (by simp))
  |_=>exact absurd (show ae=af from hs) xq
 |str i =>
  obtain⟨t,rfl⟩:=rx;cases y with
  |non=>cases ry;exact mf (qj nI q (by simp))
  |bl j=>cases ry;exact lJ (qj nI q (by simp))
  |int j=>obtain⟨t',rfl⟩:=ry;exact lI (qj nI q (by simp))
  |str j=>obtain⟨t',rfl⟩:=ry;exact ne_str (qj nI q (congrArg not j4p))
  |_=>exact absurd (show ae=af from hs) xq
 |byt i =>
  obtain⟨t,rfl⟩:=rx;cases y with
  |byt j=>obtain⟨t',rfl⟩:=ry;exact W.ne_bytes (qj nI q (congrArg not j4r))
  |_=>exact absurd (show ae=af from hs) xq
 |_=>cases y<;>exact absurd (show ae=af from hs) xq
def Dr:OpR X (bu .Lt) (rI0 λi j=>.bl (decide (i<j))):=j5v λ_ _ _ _ _ _ _ q=>lt_int q
def jcq:OpR X (bu .LtE) (rI0 λi j=>.bl (decide (i<=j))):=j5v λ_ _ _ _ _ _ _ q=>le_int q
def jcr:OpR X (bu .Gt) (rI0 λi j=>.bl (decide (j<i))):=j5v λ_ _ _ _ _ _ _ q=>gt_int q
def j5u:OpR X (bu .GtE) (rI0 λi j=>.bl (decide (j<=i))):=j5v λ_ _ _ _ _ _ _ q=>ge_int q
def Ea:OpR X (bu .In) (λx y H Q=>∃i j,x=.str i/\y=.str j/\Q (.bl (!(b7 j i 0 j.length 1).isEmpty)) H):=by intro pins s I H x y v u Q nI rx ry h;obtain⟨i,j,rfl,rfl,q⟩:=h;obtain⟨t,rfl⟩:=rx;obtain⟨t',rfl⟩:=ry;exact in_str (qj nI q rfl)
def vo(b:ar)(h:op≠.In:=by decide)(h2:op≠.NotIn:=by decide):aV op b=ae:=by
 have e1:(op==CmpOp.In)=ae:=by cases op<;>first|rfl|exact absurd rfl h
 have e2:(op==CmpOp.NotIn)=ae:=by cases op<;>first|rfl|exact absurd rfl h2
 cases b<;>simp[aV,e1,e2]
def Qm(ho:OpR X (bu op) r)(ha:PE X a ta)(hb:PE X b tb)(hm:aV op b=ae):PE X (.Compare a [op] [b] pos) (tOp r ta tb):=by intro pins s I H Q nI h;exact wpAny_Compare1 (jc8 ha hb nI h λv u s2 x y H2 I2 rx ry q=>ho pins s2 I H2 x y v u Q I2 rx ry q) hm
def jcn(t:TE):TT:=λI H Q=>t I H λx H'=>∃k,x=.bl k/\Q k H'
def Q4(ho:OpR X (bu op) r)(ha:PE X a ta)(hb:PE X b tb)(hm:aV op b=ae):PT X (.Compare a [op] [b] pos) (jcn (tOp r ta tb)):=by
 intro pins s I H Q nI h;refine wpAny_isTrue_Compare1 (thn (ha pins s I H _ nI h) λv s1 ⟨x,H1,I1,r1,q1⟩=>thn (hb pins s1 I H1 _ I1 q1) λu s2 ⟨y,H2,I2,r2,q2⟩ =>
  thn (ho pins s2 I H2 x y v u _ I2 r1 r2 q2) λc s3 ⟨z,H3,I3,r3,k,e,q3⟩=>?_) hm
 subst e;cases r3;exact bS ⟨H3,I3,q3⟩
def jh0(r r':R2)(ta tb tc:TE):TE:=λI H Q=>ta I H λx H1=>tb I H1 λy H2=>r x y H2 λz H3=>∃k,z=.bl k /\
 (if k=af then tc I H3 λw' H4=>r' y w' H4 Q else Q (.bl ae) H3)
def jb1(ho:OpR X (bu op) r)(ho':OpR X (bu op') r')(ha:PE X a ta)(hb:PE X b tb)(hc:PE X c tc)
  (hm:lV [op,op'] [b,c]=ae:=by with_unfolding_all rfl):PT X (.Compare a [op,op'] [b,c] pos) (jcn (jh0 r r' ta tb tc)):=by
 intro pins s I H Q nI h;refine isTrue_chain (thn (ha pins s I H _ nI h) λv s1 ⟨x,H1,I1,r1,q1⟩=>test_link (thn (hb pins s1 I H1 _ I1 q1) λu s2 ⟨y,H2,I2,r2,q2⟩ =>
  thn (ho pins s2 I H2 x y v u _ I2 r1 r2 q2) λd s3 ⟨z,H3,I3,r3,k,e,q3⟩=>?_)) hm
 subst e;cases r3;refine bS ?_;cases k with
 |false =>obtain⟨k',e',q'⟩:=q3;cases e';exact ite_ff ⟨H3,I3,q'⟩
 |true =>refine ite_tt (test_last (thn (hc pins s3 I H3 _ I3 q3) λw' s4 ⟨z',H4,I4,r4,q4⟩=>thn (ho' pins s4 I H4 y z' u w' _ I4 r2 r4 q4) λd' s5 ⟨z2,H5,I5,r5,k2,e2,q5⟩=>?_));subst e2;cases r5;exact bS ⟨H5,I5,q5⟩
def Mv:(au:Nat)<2^63:=by rw[bN];decide
def jio{x y:ao}(ht:t≠0)(hu:u≠0)(hz:x.length+y.length<=au)(h0:0<s.toks)(q:∀k,0<k->∀t:iD,t≠0->Q (.str (x++y) t) { s with toks:=k }) :
  (if x.length==0 then Made.val (.str y u)else if y.length==0 then Made.val (.str x t)else Made.str (x++y)).post Q s:=by
 split
 .rename_i z;have e:x++y=y:=by have:x.cps = #[]:=fW (by simpa [gS]using z);show(⟨x.cps++y.cps⟩:ao)=y;rw[this];simp
  exact e▸q s.toks h0 u hu
 .split
  .rename_i z;have e:x++y=x:=by have:y.cps = #[]:=fW (by simpa [gS]using z);show(⟨x.cps++y.cps⟩:ao)=x;rw[this];simp
   exact e▸q s.toks h0 t ht
  .exact⟨by show(x.cps++y.cps).size<=_;rw[Array.size_append];exact hz,q _ (Pb _) _ (Xu h0)⟩
def Rg:OpR X (bO .Add) (λx y H Q=>∃i j,x=.str i/\y=.str j/\i.length+j.length<=au/\Q (.str (i++j)) H):=by intro pins s I H x y v u Q nI rx ry h;obtain⟨i,j,rfl,rfl,hz,q⟩:=h;obtain⟨t,rfl⟩:=rx;obtain⟨t',rfl⟩:=ry;exact PySem.P.add_str (jio t.2 t'.2 hz nI.tk λk hk t ht=>⟨.str (i++j),H,nI.tok _,⟨⟨t,ht⟩,rfl⟩,q⟩)
def vals1(r:Vals [x] us):∃u,us=[u]/\RelV x u:=by
 cases r with
 |cons r1 r2=>cases r2;exact⟨_,rfl,r1⟩
def vals2(r:Vals [x,y] us):∃u w',us=[u,w']/\RelV x u/\RelV y w':=by
 cases r with
 |cons r1 r2 =>
  cases r2 with
  |cons r3 r4=>cases r4;exact⟨_,_,rfl,r1,r3⟩
def j9k(hc:X.calm=af):Qc X (.builtin "min") (λxs H Q=>∃i j,xs=[.int i,.int j]/\Q (.int (if j<i then j else i)) H):=by
 intro pins s I H xs us Q nI r h;obtain⟨i,j,rfl,q⟩:=h;obtain⟨u,w',rfl,⟨t,rfl⟩,⟨t',rfl⟩⟩:=vals2 r;refine mK (n:=1) nI.tk <| min_two_ints (nI.ok.hd hc) λh' tk k (hk:0<tk)=>⟨_,H,nI.kept k,?_,q⟩
 by_cases hj:j<i
 .rw[if_pos hj,if_pos hj];exact⟨_,rfl⟩
 .rw[if_neg hj,if_neg hj];exact⟨_,rfl⟩
def j9m:Qc X (.type "int") (λxs H Q=>(∃i,xs=[.int i]/\Q (.int i) H)\/∃k,xs=[.bl k]/\Q (.int (if k then 1 else 0)) H):=by
 intro pins s I H xs us Q nI r h;rcases h with ⟨i,rfl,q⟩|⟨k,rfl,q⟩
 .obtain⟨u,rfl,t,rfl⟩:=vals1 r;exact call_int_int ⟨.int i,H,nI,⟨_,rfl⟩,q⟩
 .obtain⟨u,rfl,r1⟩:=vals1 r;cases r1;exact call_int_bool ⟨.int (if k then 1 else 0),H,nI.tok _,⟨_,rfl⟩,q⟩
def j2y:Qc X (.type "str") (λxs H Q=>∃i,xs=[.int i]/\i.natAbs.log2<1920/\Q (.str (toString i)) H):=by intro pins s I H xs us Q nI r h;obtain⟨i,rfl,hz,q⟩:=h;obtain⟨u,rfl,t,rfl⟩:=vals1 r;exact PySem.P.str_of_int hz ⟨.str _,H,nI.tok _,⟨⟨_,Xu nI.tk⟩,rfl⟩,q⟩
end
structure ObjM(h:aL)(x dx C:ak)(mA:k87):Prop where
 obj:h.get? x=aa (W.instObj C dx)
 ns:h.Ns1 dx mA
 ne:dx≠x
def j8c{h:aL}(n:h.Ns1 dx mA):∃od,h.get? dx=aa od/\∀name,W.lookIn name od=aa (mA name):=by
 obtain⟨o,es,ep,ho,hd,hk,_,hm⟩:=n;refine⟨o,ho,λname=>?_⟩;have e:=hm name;unfold nsFind findBy at e;rw[<-Array.find?_toList]at e;unfold W.lookIn;rw[hd];dsimp only;split
 .rename_i y q;rw[q]at e;exact congrArg aa e
 .rename_i q;rw[q]at e;have a:es.toList.any (·.refKey)=ae:=by rw[fM];intro y hy;obtain⟨z,t,hkey⟩:=hk y (Array.mem_toList_iff.mp hy);simp[DictEntry.refKey,hkey]
  have a':¬es.toList.any (·.refKey)=af:=by rw[a];exact xq
  rw[if_neg a'];exact congrArg aa e
def ObjM.look(nI:ObjM h x dx C mA):∃od,PySem.W.InstAt h x (W.instObj C dx) C (aa od)/\∀name,W.lookIn name od=aa (mA name) :=
 let ⟨od,ho,hl⟩:=j8c nI.ns
 ⟨od,⟨nI.obj,rfl,rfl,ho⟩,hl⟩
section
variable{prog:aA}{w:aH}{A:aI}{E:k85}{s:aq}{K:k84}{x dx C f:ak}{mA:k87}{name:ao}{v:aj}
def jfm(X:K.In s.heap)(nI:ObjM s.heap x dx C mA)(hg:W.plainGet K C name=af)(hh:W.hasDictIn K C=af)
  (ha:W.findIn K (.ref C) name=aa ag) (hv:mA name=aa v) (hv':W.handedIn v=af) (h:Q v { s with toks:=s.toks+1 }) :
  ay (aB prog w) A (getAttr (.ref x) name expr) Q E s:=by
 obtain⟨od,nH,hl⟩:=nI.look;exact W.get_value X nH (W.plainGet_of hg).1 (W.findObj_own hh ha rfl (by rw[hl,hv])) hv' h
def jbo(X:K.In s.heap)(nI:ObjM s.heap x dx C mA)(hg:W.plainGet K C name=af)
  (hf:W.findIn K (.ref C) name=aa (aa (.ref f))) (ht:W.isFn K (.ref f)=af) (hv:mA name=ag) (h:Q (.ref f,[.ref x]) s) :
  ay (aB prog w) A (iT (.ref x) name pl) Q E s:=by
 obtain⟨od,nH,hl⟩:=nI.look;exact W.method_fn X nH (W.plainGet_of hg).1 (W.plainGet_of hg).2 hf (beq_iff_eq.mp ht) (by show(W.lookIn name od).map (·.isSome)=aa ae;rw[hl,hv];rfl) h
def je2(X:K.In s.heap)(nI:ObjM s.heap x dx C mA)
  (hs:W.findIn K (.ref C) "__setattr__"=aa (aa (.builtin "object.__setattr__"))) (hp:W.plainOver K C=af) (ht:W.takerIn K C name=aa ag) (hh:W.hasDictIn K C=af)
  (hw:i4 mA ns) (hsz:ns.length<=au)
  (h:∀h',ObjM h' x dx C (λy=>if y=name then aa v else mA y)->cu dx s.heap h'->Q () { s with heap:=h',toks:=s.toks+2 }) :
  ay (aB prog w) A (setAttr (.ref x) name v) Q E s:=by
 obtain⟨od,nH,hl⟩:=nI.look;refine W.set_plain X nH hs (W.osa_open (s:={ s with toks:=s.toks+1 }) (r:=ag) X nH hp ht λb=>?_);obtain⟨cd,hc,hd'⟩:=W.any_some hh;have hx:s.heap.get? x=aa ⟨.ref C,aa dx,.plain,#[]⟩:=nI.obj;refine ai (az (ai (ai (n6 hx (ai (lj (s:={ s with toks:=s.toks+1 }) (W.looks_clsIn X hc) ?_))))));rw[hd'];refine az (a:=aa dx) (ai (az (ai ?_)));refine wpAny_nsSet1 (s:={ s with toks:=s.toks+1 }) nI.ns λh' hn2 hs2=>?_;obtain⟨oD,esD,epD,hoD,hdD,hcD⟩:=hn2.count (PySem.Within.cons name v hw);refine ai (wpAny_lookBehind hoD (by rw[hdD];exact pastItsLine_dict (Xa hcD (by rw[xn];omega))) ?_);exact az (h _ ⟨(hs2.2 _ (eO nI.ne)).trans nI.obj,hn2,nI.ne⟩ hs2)
def jbc(X:K.In s.heap)(hm:W.makesIn K C=af)
  (hi:W.findIn K (.ref C) "__init__"=aa (aa (.ref f))) (hf:W.typeIn K (.ref f)=aa (.type "function"))
  (h:cQ (aB prog w) (A.under (.builtin "type.__call__" ⟨.ref C::vs,kw⟩)) (.call (.ref f) ⟨.ref (s.heap.objs.size+1)::vs,kw⟩) (PySem.W.InitBack (s.heap.objs.size+1) R)
   { s with heap:=(s.heap.push W.emptyDict).push (W.instObj C s.heap.objs.size) }) :
  cQ (aB prog w) A (.call (.ref C) ⟨vs,kw⟩) R s:=by
 obtain⟨hh,g,d,t,os⟩:=s;exact W.make_core (W.makes_of X hm) (W.looks_findIn X hi) (λself=>W.bind_fn X self hf) (.inl rfl) h
end
noncomputable def Ji(f:ao)(v:V):List (ao×V)->List (ao×V)
 |[]=>[(f,v)]
 |(g,x)::r=>if g=f then(g,v)::r else(g,x)::Ji f v r
theorem N5(f g:ao)(v:V):∀fs:List (ao×V),(Ji f v fs).lookup g=if g=f then aa v else fs.lookup g
 |[]=>by
  show d9 g [(f,v)]=_;by_cases h:g=f
  .have hb:(g==f)=af:=beq_iff_eq.mpr h;simp only[d9,hb,if_pos h]
  .have hb:(g==f)=ae:=beq_eq_false_iff_ne.mpr h;simp only[d9,hb,if_neg h]
 |(k,x)::r=>by
  have ih:=N5 f g v r;rw[show Ji f v ((k,x)::r)=(if k=f then(k,v)::r else(k,x)::Ji f v r)from rfl];by_cases hk:k=f
  .rw[if_pos hk];by_cases h:g=k
   .have hb:(g==k)=af:=beq_iff_eq.mpr h;simp only[d9,hb,if_pos (h.trans hk)]
   .have hb:(g==k)=ae:=beq_eq_false_iff_ne.mpr h;simp only[d9,hb,if_neg (λe:g=f=>h (e.trans hk.symm))]
  .rw[if_neg hk];by_cases h:g=k
   .have hb:(g==k)=af:=beq_iff_eq.mpr h;simp only[d9,hb,if_neg (λe:g=f=>hk (h.symm.trans e))]
   .have hb:(g==k)=ae:=beq_eq_false_iff_ne.mpr h;simp only[d9,hb];exact ih
theorem Mx(f:ao)(v:V):∀fs:List (ao×V),f∈(Ji f v fs).map (·.1)/\∀g,g∈fs.map (·.1)->g∈(Ji f v fs).map (·.1)
 |[]=>⟨by simp[Ji],λg h=>by simp at h⟩
 |(k,x)::r=>by
  obtain⟨i1,i2⟩:=Mx f v r;rw[show Ji f v ((k,x)::r)=(if k=f then(k,v)::r else(k,x)::Ji f v r)from rfl];by_cases hk:k=f
  .rw[if_pos hk];subst hk;exact⟨by simp,λg h=>by simpa using h⟩
  .rw[if_neg hk];refine⟨?_,λg h=>?_⟩
   .rw[X5];exact kh _ i1
   .rw[X5]at h ⊢;rcases xj.mp h with e|e
    .exact xj.mpr (.inl e)
    .exact kh _ (i2 g e)
theorem N6(f:ao)(v:V):∀fs:List (ao×V),(Ji f v fs).length<=fs.length+1
 |[]=>by simp[Ji]
 |(k,x)::r=>by
  have ih:=N6 f v r;rw[show Ji f v ((k,x)::r)=(if k=f then(k,v)::r else(k,x)::Ji f v r)from rfl];by_cases hk:k=f
  .rw[if_pos hk,xn,xn];omega
  .rw[if_neg hk,xn,xn];omega
def W2.some_of{o:Option aj}(r:W2 (aa v) o):∃u,o=aa u/\RelV v u:=by
 cases o with
 |none=>exact(show False from r).elim
 |some u=>exact⟨u,rfl,r⟩
def W2.none_of{o:Option aj}(r:W2 ag o):o=ag:=by
 cases o with
 |none=>rfl
 |some u=>exact(show False from r).elim
def j8p(r:RelV v u):W.handedIn u=af:=by
 cases v with
 |non=>cases(show u=cG from r);rfl
 |bl b=>cases(show u=dm b from r);rfl
 |int i=>obtain⟨t,e⟩:=(show ∃t,u=eV i t from r);cases e;rfl
 |str x=>obtain⟨t,e⟩:=(show ∃t:{t:Nat // t≠0},u=bC x t.1 from r);cases e;rfl
 |byt b=>obtain⟨t,e⟩:=(show ∃t,u=kN b t from r);cases e;rfl
 |flt b=>obtain⟨t,e⟩:=(show ∃t,u=kM b t from r);cases e;rfl
 |ref a=>cases(show u=aQ a from r);rfl
 |ty n=>cases(show u=lq n from r);rfl
section
variable{P:aA}{w:aH}{H H':Hp}{h h':aL}{a C dx:ak}{fs fs':List (ao×V)}
def Km(hok:HOk P w H h)(e:H a=aa (.ins C dx fs)):∃mA,ObjM h a dx C mA/\(∀f,W2 (fs.lookup f) (mA f))/\i4 mA (fs.map (·.1))/\fs.length<=1000/\H dx=aa (.own a):=by
 obtain⟨d,z,ne,ob,mA,n,r,q⟩:=(show ql P w H h a (.ins C dx fs)from hok a _ e)
 exact⟨mA,⟨ob,n,ne⟩,r,q,z,d⟩
end
structure Cls(K:k84)(C:ak):Prop where
 pg:W.plainGet K C dt=af
 hd:W.hasDictIn K C=af
 po:W.plainOver K C=af
 sa:W.findIn K (.ref C) "__setattr__"=aa (aa (.builtin "object.__setattr__"))
def Cls.get{K:k84}(c:Cls K C)(f:ao):W.plainGet K C f=af:=c.pg
def V9(K:k84)(C:ak)(f:ao):Prop:=W.findIn K (.ref C) f=aa ag
def V9.taker{K:k84}(n:V9 K C f):W.takerIn K C f=aa ag:=by unfold W.takerIn;rw[show W.findIn K (.ref C) f=aa ag from n];rfl
structure Meth(K:k84)(C:ak)(m:ao)(f:ak):Prop where
 at_:W.findIn K (.ref C) m=aa (aa (.ref f))
 fn:W.isFn K (.ref f)=af
 kp:W.keepIn K (.ref f)=af
section
variable{X:Cx}{pins:k86}{I:St}{H:Hp}{s:aq}{a C dx:ak}{fs:List (ao×V)}{f:ao}{v:V}{A:aI}{E:k85}
def j66(nI:Inv X pins I H s)(e:H a=aa (.ins C dx fs))(c:Cls X.K C)(n:V9 X.K C f)(l:fs.lookup f=aa v)
  (h:∀u s',Inv X pins I H s'->RelV v u->Q u s'):ay (aB X.prog X.w) A (getAttr (.ref a) f b) Q E s:=by
 obtain⟨mA,O,r,_,_,_⟩:=Km nI.hok e;obtain⟨u,hu,ru⟩:=W2.some_of (v:=v) (o:=mA f) (by rw[<-l];exact r f);exact jfm nI.kIn O (c.get f) c.hd n hu (j8p ru) (h u _ (nI.tok _) ru)
def Ck(nI:Inv X pins I H s)(e:H a=aa (.ins C dx fs))(c:Cls X.K C)(k:Meth X.K C m g)(l:fs.lookup m=ag)
  (h:Q (.ref g,[.ref a]) s):ay (aB X.prog X.w) A (iT (.ref a) m pl) Q E s:=by
 obtain⟨mA,O,r,_,_,_⟩:=Km nI.hok e;have hn:mA m=ag:=W2.none_of (by rw[<-l];exact r m);exact jbo nI.kIn O (c.get m) k.at_ k.fn hn h
def j5d(nI:Inv X pins I H s)(e:H a=aa (.ins C dx fs))(c:Cls X.K C)(n:V9 X.K C f)(hl:fs.length<1000)(ry:RelV y u)
  (h:∀s',Inv X pins I (upd H a (.ins C dx (Ji f y fs))) s'->Q () s'):ay (aB X.prog X.w) A (setAttr (.ref a) f u) Q E s:=by
 obtain⟨mA,O,r,wi,_,ho⟩:=Km nI.hok e;have hz:(fs.map (·.1)).length<=au:=by rw[xm,bN];omega
 refine je2 nI.kIn O c.sa c.po n.taker c.hd wi hz λh' O' sb=>h _ ?_;have hd:∃o,h'.get? dx=aa o:=let ⟨o,_,_,e',_⟩:=O'.ns;⟨o,e'⟩;refine nI.write (x:=a) (e:=dx) (by rw[e];exact True.intro) (.inr ho) (λb q hb z=>(sb.2 b hb).trans z) hd ?_;refine⟨by rw[jf O.ne];exact ho,?_,O.ne,O'.obj,_,O'.ns,λg=>?_,λg hg=>?_⟩
 .have:=N6 f y fs;omega
 .show W2 ((Ji f y fs).lookup g) (if g=f then aa u else mA g);rw[N5];by_cases q:g=f
  .rw[if_pos q,if_pos q];exact ry
  .rw[if_neg q,if_neg q];exact r g
 .by_cases q:g=f
  .rw[q];exact(Mx f y fs).1
  .refine(Mx f y fs).2 g (wi g λz=>hg ?_);show(if g=f then aa u else mA g)=ag;rw[if_neg q];exact z
def Inv.made(nI:Inv X pins I H s):Inv X pins I (upd (upd H s.heap.objs.size (.own (s.heap.objs.size+1))) (s.heap.objs.size+1) (.ins C s.heap.objs.size []))
  { s with heap:=(s.heap.push W.emptyDict).push (W.instObj C s.heap.objs.size) }:=by
 have e1:(s.heap.push W.emptyDict).get? s.heap.objs.size=aa W.emptyDict:=X7 s.heap rfl;have e2:((s.heap.push W.emptyDict).push (W.instObj C s.heap.objs.size)).get? (s.heap.objs.size+1)=aa (W.instObj C s.heap.objs.size):=by
  have:=X7 (s.heap.push W.emptyDict) (o:=W.instObj C s.heap.objs.size) rfl
  rwa [Xv]at this
 have e3:(s.heap.push W.emptyDict).Ns s.heap.objs.size (λ_=>ag):=⟨W.emptyDict,#[],_,e1,rfl,(λe he=>absurd he (by simp)),λ_=>rfl⟩
 have I1:=nI.laid (a:=s.heap.objs.size) (o:=.own (s.heap.objs.size+1)) (h':=s.heap.push W.emptyDict) (t':=s.toks) (λb u q=>kj _ q) (Xc _) ⟨_,e1⟩;refine I1.laid (a:=s.heap.objs.size+1) (o:=.ins C s.heap.objs.size []) (t':=s.toks) (λb u q=>kj _ q) (lZ (Xv _ _)) ?_;have ne:s.heap.objs.size≠s.heap.objs.size+1:=Xi (S5 _);refine⟨by rw[jf ne,jz],Tn _,ne,e2,λ_=>ag,(Heap.Ns1.of_empty e3).at λo q=>kj _ q,λ_=>True.intro,λy hy=>absurd rfl hy⟩
def jgc(hb:aY e f env (aD e env)=aD e env)
  (h:ay (aB prog w) A (aD e env) (λo s₁=>ay (aB prog w) A (getAttr o f af) Q E s₁) E s):ay (aB prog w) A (aD (.Attribute e f pos) env) Q E s :=
 Attribute_any_ h (by rw[arm_eval_Attribute,hb])
end
def jpp(K:k84)(ta:TE)(f:ao):TE:=λI H Q=>ta I H λx H1=>∃a C dx fs v,x=.ref a/\H1 a=aa (.ins C dx fs)/\Cls K C/\V9 K C f/\fs.lookup f=aa v/\Q v H1
def jpw(K:k84)(ta tv:TE)(f:ao):TS:=λD I H=>tv I H λy H1=>ta I H1 λx H2=>∃a C dx fs,x=.ref a/\H2 a=aa (.ins C dx fs)/\Cls K C/\V9 K C f/\fs.length<1000 /\
 D.nx I (upd H2 a (.ins C dx (Ji f y fs)))
section
variable{X:Cx}{o e value:ar}{f:ao}{pos pos' tpos:aR}{ta tv:TE}
def Yy(he:PE X e ta)(hb:aY e f X.env (aD e X.env)=aD e X.env):PE X (.Attribute e f pos) (jpp X.K ta f):=by intro pins s I H Q nI h;refine jgc hb (thn (he pins s I H _ nI h) λu s1 ⟨x,H1,I1,rx,a,C,dx,fs,v,ex,ea,c,n,l,q⟩=>?_);subst ex;obtain rfl:u=aQ a:=rx;exact j66 I1 ea c n l λu' s2 I2 ru=>⟨v,H1,I2,ru,q⟩
def j1i(ha:PE X o ta)(hv:PE X value tv)(hs:aO value (aa (.Attribute o f pos')) pos.line X.env=pure ae):PS X (.Assign [.Attribute o f pos'] value pos) (jpw X.K ta tv f):=by intro pins s I H D nI h;refine plainObj_wpAny_Assign_Attribute (thn (hv pins s I H _ nI h) λu s1 ⟨y,H1,I1,ry,q⟩=>thn (ha pins s1 I H1 _ I1 q) λov s2 ⟨x,H2,I2,rx,a,C,dx,fs,ex,ea,c,n,l,q2⟩=>?_) hs;subst ex;obtain rfl:ov=aQ a:=rx;exact j5d I2 ea c n l ry λs3 I3=>⟨I,_,I3,q2⟩
end
structure Room(k:Nat)(A:aI):Prop where
 hd:A.handled=ag
 dp:A.depth+3*k+5<c8
 un:A.units+16*k+200<bH
 gd:A.guards=aa []
def Room.mono(r:Room k A)(h:j<=k):Room j A:=⟨r.hd,by have:=r.dp;omega,by have:=r.un;omega,r.gd⟩
theorem Room.deeper(r:Room (k+1) A)(env:d8):Room k (A.deeper env) :=
 ⟨r.hd,by have:=r.dp;show A.depth+1+3*k+5<_;omega,by have:=r.un;show A.units+3+16*k+200<_;omega,r.gd⟩
def j5z{A:aI}   :(A.under (.builtin "type.__call__" ⟨.ref C::us,kw⟩)).depth=A.depth+1:=by first|rfl|simp[ft,Code.weight,Code.isCreation,kR,Code.isCaller,lR,i8,guardIds]
def j5y{A:aI}   :(A.under (.builtin "type.__call__" ⟨.ref C::us,kw⟩)).units=A.units+1:=by first|rfl|simp[ft,Code.cUnits,lR,i8]
def Room.make(r:Room (k+1) A)(C:ak)(us:List aj)(kw:List (ao×aj)):Room k (A.under (.builtin "type.__call__" ⟨.ref C::us,kw⟩)) :=
 ⟨r.hd,by have:=r.dp;rw[j5z];omega,by have:=r.un;rw[j5y];omega,by first|exact r.gd|(simp[ft,Code.guards,kR,guardIds,pushGuards];exact r.gd)⟩
theorem Room.depth(r:Room k A):A.depth<c8:=by have:=r.dp;omega
def jgz:TA:=λ_ H Q=>Q [] H
def jm3(ta:TE)(tr:TA):TA:=λI H Q=>ta I H λx H1=>tr I H1 λxs H2=>Q (x::xs) H2
section
variable{X:Cx}{e:ar}{es:List ar}{te:TE}{t:TA}{pos:aR}
def qe:PA X [] jgz:=λ_ _ _ _ H Q nI h=>fB ⟨[],H,nI,.nil,h⟩
def ji(ha:PE X e te)(hr:PA X es t)(hs:ah (e::es) X.env=(ae,aD e X.env)::ah es X.env:=by rfl):PA X (e::es) (jm3 te t):=by intro pos pins s I H Q nI h;rw[hs];show ay _ _ (ia ((ae,aD e X.env)::aS pos (ah es X.env))) _ _ s;refine dn (thn (ha pins s I H _ nI h) λu s1 ⟨x,H1,I1,r1,q1⟩=>?_);exact thn (hr pos pins s1 I H1 _ I1 q1) λus s2 ⟨xs,H2,I2,r2,q2⟩=>⟨x::xs,H2,I2,.cons r1 r2,q2⟩
def jph(t:TA):TE:=λI H Q=>t I H λxs H1=>xs.length<=au/\∀p,H1 p=ag->Q (.ref p) (upd H1 p (.tup xs))
def jpm(t:TA):TE:=λI H Q=>t I H λxs H1=>xs.length<=au/\∀p,H1 p=ag->Q (.ref p) (upd H1 p (.lst xs))
def j7v{x1}(h:PA X es t):PE X (.Tuple es x1 pos) (jph t):=by intro pins s I H Q nI hq;refine wpAny_Tuple_spliced (thn (h pos pins s I H _ nI hq) λus s1 ⟨xs,H1,I1,r,z,q⟩=>⟨by rw[<-r.length];exact z,?_⟩);have hf:H1 s1.heap.objs.size=ag:=I1.hok.fresh (Xc _);refine⟨.ref s1.heap.objs.size,upd H1 s1.heap.objs.size (.tup xs),I1.laid (t':=s1.toks) (λb u e=>kj _ e) (Xc _) ?_,rfl,q _ hf⟩;exact⟨z,us,r,⟨_,X7 _ rfl,rfl,_,rfl⟩,Y7.new _ _⟩
def ji3(h:PA X es t):PE X (.List es pos) (jpm t):=by intro pins s I H Q nI hq;refine wpAny_List_spliced (thn (h pos pins s I H _ nI hq) λus s1 ⟨xs,H1,I1,r,z,q⟩=>⟨by rw[<-r.length];exact z,?_⟩);have hf:H1 s1.heap.objs.size=ag:=I1.hok.fresh (Xc _);refine⟨.ref s1.heap.objs.size,upd H1 s1.heap.objs.size (.lst xs),I1.laid (t':=s1.toks) (λb u e=>kj _ e) (Xc _) ?_,rfl,q _ hf⟩;exact⟨z,us,0,r,X7 _ rfl⟩
end
abbrev Sp:=List V->Hp->VK->XK->Prop
abbrev CXT:=List d8->Hp->aq->XK->aj->aq->Prop
structure EnvZ(z:Bool)(P:aA)(w:aH)(K:k84)(mg:k87)(base:aL)(A:aI)(outer:List d8)(s:aq)(H:Hp):Prop where
 frames:A.frames=aa outer
 mod:Mod K mg base
 bs:∀b o,base.get? b=aa o->s.heap.get? b=aa o/\H b=ag
 bsz:base.objs.size<=s.heap.objs.size
 funs:s.heap.FunFrames base outer
 frf:∀b∈frs outer,H b=ag
 hok:HOk P w H s.heap
 bare:eC s.gens
 tk:z=af->0<s.toks
abbrev Il:=EnvZ af
def CE(outer:List d8)(P:aA)(w:aH)(H:Hp)(s:aq)(Q:VK)(u:aj)(s':aq):Prop :=
 ∃v H',(s'.os=s.os/\0<s'.toks)/\eC s'.gens/\Un (frs outer) [] H H' s.heap s'.heap/\HOk P w H' s'.heap/\RelV v u/\Q v H'
def CR(CX:CXT)(outer:List d8)(P:aA)(w:aH)(H:Hp)(s:aq)(Q:VK)(E:XK)(r:fE)(s':aq):Prop :=
 match r with
 |.ok (.ret u)=>CE outer P w H s Q u s'
 |.ok _=>False
 |.error e=>CX outer H s E e s'
structure FnOkZ(z:Bool)(P:aA)(w:aH)(K:k84)(mg:k87)(base:aL)(CX:CXT)(k:Nat)(f:ak)(fd:aN)(ps:List ao)(sp:Sp):Prop where
 len:∀vs H Q E,sp vs H Q E->vs.length=ps.length
 run:∀(A:aI)(outer:List d8)(s:aq)(H:Hp)(args:Args)(us:List aj)(vs:List V) (Q:VK) (E:XK),Room k A->EnvZ z P w K mg base A outer s H->gN s fd args (ps.zip us)->Vals vs us->sp vs H Q E ->
  cQ (aB P w) A (.call (.ref f) args) (CR CX outer P w H s Q E) s
abbrev qw:=FnOkZ af
def FnOkZ.imp{K:k84}(F:FnOkZ z P w K mg base CX k f fd ps sp)
  (h:∀vs H Q E,sp' vs H Q E->sp vs H Q E):FnOkZ z P w K mg base CX k f fd ps sp' :=
 ⟨λvs H Q E q=>F.len vs H Q E (h _ _ _ _ q),λA outer s H args us vs Q E hr he hb hv hs=>F.run A outer s H args us vs Q E hr he hb hv (h _ _ _ _ hs)⟩
def Il.make{K:k84}(e:Il P w K mg base A outer s H)(C:ak)(us:List aj)(kw:List (ao×aj)) :
  Il P w K mg base (A.under (.builtin "type.__call__" ⟨.ref C::us,kw⟩)) outer s H:=⟨by first|exact e.frames|(simpa [ft,Code.envs,i8,pushEnvs]using e.frames),e.mod,e.bs,e.bsz,e.funs,e.frf,e.hok,e.bare,e.tk⟩
section
variable{X:Cx}{pins:k86}{I:St}{H:Hp}{s s':aq}
def Inv.env0(nI:Inv X pins I H s):Il X.prog X.w X.K X.mg X.base X.A X.stack s H :=
 ⟨nI.ok.frames,nI.ok.mod,nI.bs,Xa nI.ok.bsz nI.sz,nI.stack,nI.stkFree,nI.hok,nI.bare,λ_=>nI.tk⟩
def Inv.after(nI:Inv X pins I H s)(h:CE X.stack X.prog X.w H s Q u s'):EP X pins I Q u s':=by obtain⟨v,H',os,bare,un,hok,r,q⟩:=h;obtain⟨hh,g,d,t,os'⟩:=s';obtain rfl:os'=s.os:=os.1;exact⟨v,H',nI.call (h':=hh) (g':=g) (d':=d) (t':=t) (ch:=[]) un hok bare (λb z=>absurd z (by simp)) os.2,r,q⟩
end
def jm4(sp:Sp)(dvs:List V)(E:XK)(t:TA):TE:=λI H Q=>t I H λvs H1=>sp (vs++dvs) H1 Q E
def jm0(C:ak)(m:ao)(sp:Sp)(dvs:List V)(E:XK)(ta:TE)(t:TA):TE:=λI H Q=>ta I H λx H1=>∃a dx fs,x=.ref a/\H1 a=aa (.ins C dx fs)/\fs.lookup m=ag /\
 t I H1 λvs H2=>sp (x::(vs++dvs)) H2 Q E
def jm1(C:ak)(sp:Sp)(dvs:List V)(E:XK)(t:TA):TE:=λI H Q=>t I H λvs H1=>∀x dx,H1 x=ag->H1 dx=ag->dx≠x ->
 sp (.ref x::(vs++dvs)) (upd (upd H1 dx (.own x)) x (.ins C dx [])) (λv H2=>v=.non/\Q (.ref x) H2) E
def Binds(K:k84)(fd:aN)(ps:List ao)(ds:List aj):Prop :=
 ∀(s:aq)(us:List aj),K.In s.heap->(us++ds).length=ps.length->gN s fd ⟨us,[]⟩ (ps.zip (us++ds))
def Binds.all{K:k84}{ps:List ao}(h:∀us:List aj,us.length=ps.length->dX fd ⟨us,[]⟩=pure (ps.zip us)):Binds K fd ps []:=λs us _ hl=>by rw[Xq]at hl ⊢;exact .of_eq (h us hl)
def Wl(CX:CXT)(X:Cx)(E:XK):Prop:=∀(pins:k86) (I:St) (H:Hp) (s:aq) (e:aj) (s':aq),Inv X pins I H s->CX X.stack H s E e s'->X.xe e s'
section
variable{X:Cx}{CX:CXT}{k:Nat}{f C:ak}{fd:aN}{ps:List ao}{sp:Sp}{dvs:List V}{ds:List aj}{E:XK}{x m:ao}{p pos apos:aR}{e o:ar}{es:List ar}{ta:TE}{t:TA}
def j7h(F:qw X.prog X.w X.K X.mg X.base CX k f fd ps sp)(hr:Room k X.A)(hb:Binds X.K fd ps ds)(hd:Vals dvs ds)(hx:Wl CX X E)
  (nI:Inv X pins I H s) (r:Vals vs us) (h:sp (vs++dvs) H Q E):ay (aB X.prog X.w) X.A (call (.ref f) us) (EP X pins I Q) X.xe s:=by
 have r2:Vals (vs++dvs) (us++ds):=r.append hd;have hl:(us++ds).length=ps.length:=by rw[<-r2.length];exact F.len _ _ _ _ h
 refine gn (cJ (F.run X.A X.stack s H ⟨us,[]⟩ (us++ds) (vs++dvs) Q E hr nI.env0 (hb s us nI.kIn hl) r2 h) λr s' hq=>?_);cases r with
 |error e=>exact hx pins I H s e s' nI hq
 |ok fl =>
  cases fl with
  |ret u=>exact nI.after hq
  |next=>exact aW hq
  |brk=>exact aW hq
  |cont=>exact aW hq
def We(F:qw X.prog X.w X.K X.mg X.base CX k f fd ps sp)(hr:Room k X.A)(hg:Gl X x)(hm:X.mg x=aa (.ref f))(hk:W.keepIn X.K (.ref f)=af)(hb:Binds X.K fd ps ds)(hd:Vals dvs ds)(hx:Wl CX X E)
  (ha:PA X (e::es) t) (hdb:(x==k89)=ae:=by decide) (he:ah (e::es) X.env=(ae,aD e X.env)::ah es X.env:=by rfl) (hpl:(aS pos (ah es X.env)).any (·.1)=ae:=by rfl) :
  PE X (.Call (.Name x p) (e::es) [] pos) (jm4 sp dvs E t):=by
 intro pins s I H Q nI h;refine b9 (Qn nI hg hm ?_ hdb);refine W.callWith_K (h₀:=X.base) nI.ok.mod.kin hk (thn (ha pos pins s I H _ nI h) λus s1 ⟨vs,H1,I1,r,q⟩=>⟨I1.kIn,?_⟩) he hpl;exact j7h F hr hb hd hx I1 r q
def Ra(he:PE X o ta)(c:Cls X.K C)(hm:Meth X.K C m f)(F:qw X.prog X.w X.K X.mg X.base CX k f fd ps sp)(hr:Room k X.A)(hb:Binds X.K fd ps ds)(hd:Vals dvs ds)(hx:Wl CX X E)
  (ht:aD (.Call (.Attribute o m apos) [] [] pos) X.env=(do
   let ov <-aD o X.env
   gE apos.atName
   let (f,first) <-fh [ov] (iT ov m pl)
   callWith pos f first (aS pos (ah [] X.env)) (bU pos (bg [] X.env))):=by rfl) :
  PE X (.Call (.Attribute o m apos) [] [] pos) (jm0 C m sp dvs E ta jgz):=by
 intro pins s I H Q nI h;refine W.methodCall_KW (pl:=pl) (thn (he pins s I H _ nI h) λu s1 ⟨x,H1,I1,rx,a,dx,fs,ex,ea,l,q⟩=>?_) ht;subst ex;obtain rfl:u=aQ a:=rx;refine Ck I1 ea c hm l ?_;exact W.callWith_K0 (first:=[.ref a]) I1.kIn hm.kp (j7h (us:=[.ref a]) (vs:=[.ref a]) F hr hb hd hx I1 (.cons rfl .nil) q)
structure Mk(K:k84)(C f:ak):Prop where
 makes:W.makesIn K C=af
 init:W.findIn K (.ref C) "__init__"=aa (aa (.ref f))
 fn:W.isFn K (.ref f)=af
 kp:W.keepIn K (.ref C)=af
def jaq(M:Mk X.K C f)(F:qw X.prog X.w X.K X.mg X.base CX k f fd ps sp)(hr:Room (k+1) X.A)(hb:Binds X.K fd ps ds)(hd:Vals dvs ds)
  (hx:Wl CX X E) (nI:Inv X pins I H s) (r:Vals vs us)
  (h:∀x dx,H x=ag->H dx=ag->dx≠x->sp (.ref x::(vs++dvs)) (upd (upd H dx (.own x)) x (.ins C dx [])) (λv H2=>v=.non/\Q (.ref x) H2) E) :
  ay (aB X.prog X.w) X.A (call (.ref C) us) (EP X pins I Q) X.xe s:=by
 have hq:=h (s.heap.objs.size+1) s.heap.objs.size (nI.hok.fresh (mR _)) (nI.hok.fresh (Xc _)) (Xi (S5 _));have I2:=Inv.made (C:=C) nI;have r2:Vals (V.ref (s.heap.objs.size+1)::(vs++dvs)) (aQ (s.heap.objs.size+1)::(us++ds)):=.cons rfl (r.append hd);have hl:(aQ (s.heap.objs.size+1)::us++ds).length=ps.length:=by have e:=r2.length;rw[F.len _ _ _ _ hq]at e;exact e.symm
 refine gn (jbc (f:=f) nI.kIn M.makes M.init (beq_iff_eq.mp M.fn) (cJ (F.run _ X.stack _ _ ⟨aQ (s.heap.objs.size+1)::us,[]⟩ (aQ (s.heap.objs.size+1)::(us++ds)) _ _ E (hr.make C us [])
  (I2.env0.make C us []) (hb _ (aQ (s.heap.objs.size+1)::us) I2.kIn hl) r2 hq) λr s' hq'=>?_))
 cases r with
 |error e=>exact hx pins I _ _ e s' I2 hq'
 |ok fl =>
  cases fl with
  |ret u =>obtain⟨v,H',I3,rv,ev,q3⟩:=I2.after hq';subst ev;exact⟨rv,⟨V.ref (s.heap.objs.size+1),H',I3,rfl,q3⟩⟩
  |next=>exact aW hq'
  |brk=>exact aW hq'
  |cont=>exact aW hq'
def jes(M:Mk X.K C f)(F:qw X.prog X.w X.K X.mg X.base CX k f fd ps sp)(hr:Room (k+1) X.A)(hg:Gl X x)(hm:X.mg x=aa (.ref C))(hb:Binds X.K fd ps ds)(hd:Vals dvs ds)(hx:Wl CX X E)
  (ha:PA X (e::es) t) (hdb:(x==k89)=ae:=by decide) (he:ah (e::es) X.env=(ae,aD e X.env)::ah es X.env:=by rfl) (hpl:(aS pos (ah es X.env)).any (·.1)=ae:=by rfl) :
  PE X (.Call (.Name x p) (e::es) [] pos) (jm1 C sp dvs E t):=by
 intro pins s I H Q nI h;refine b9 (Qn nI hg hm ?_ hdb);refine W.callWith_K (h₀:=X.base) nI.ok.mod.kin M.kp (thn (ha pos pins s I H _ nI h) λus s1 ⟨vs,H1,I1,r,q⟩=>⟨I1.kIn,?_⟩) he hpl;exact jaq M F hr hb hd hx I1 r q
end
section
variable{X:Cx}{CX:CXT}{k:Nat}{f C:ak}{fd:aN}{ps ks:List ao}{sp:Sp}{E:XK}{x m:ao}{p pos apos kpos:aR}{e o:ar}{es:List ar}{kws:List bb}{te ta:TE}{t tk:TA}{nm:Option ao}
structure KBinds(K:k84)(fd:aN)(ps ks:List ao)(g:List aj->List aj->List aj)(gV:List V->List V->List V):Prop where
 to:∀(s:aq)(us ws:List aj),K.In s.heap->(g us ws).length=ps.length->gN s fd ⟨us,ks.zip ws⟩ (ps.zip (g us ws))
 rel:∀{vs:List V}{us:List aj}{zs:List V}{ws:List aj},Vals vs us->Vals zs ws->Vals (gV vs zs) (g us ws)
variable{g:List aj->List aj->List aj}{gV:List V->List V->List V}
end
structure FnScope(N P:List ao)(sc:bJ):Prop where
 kind:sc.kind=.function
 co:sc.isCoroutine=ae
 gen:sc.isGenerator=ae
 nd:N.Nodup
 pre:N.take P.length=P
 par:∀x∈P,sc.names.lookup x=aa .local\/sc.names.lookup x=aa .cell
 nofree:∀y∈sc.names,y.2≠.free
theorem Et{kindOf:ao->Option bR}:∀{binds:List (ao×aj)} {m:k87},(∀v,(x,v)∉binds)->iU kindOf binds m x=m x
 |[],_,_=>rfl
 |(n,v)::r,m,h=>by
  unfold iU;rw[Et λw hw=>h w (kh _ hw)];split
  .have:x≠n:=by rintro rfl;exact h v km
   simp[this]
  .rfl
theorem Ew{kindOf:ao->Option bR}:∀{binds:List (ao×aj)} {m:k87},(∀v,(x,v)∉binds)->iV kindOf binds m x=m x
 |[],_,_=>rfl
 |(n,v)::r,m,h=>by
  unfold iV;rw[Ew λw hw=>h w (kh _ hw)];split
  .rfl
  .have:x≠n:=by rintro rfl;exact h v km
   simp[this]
theorem Eu{kindOf:ao->Option bR}:∀{P:List ao}{vs:List aj}{i:Nat}{m:k87},P.Nodup->P[i]?=aa x->vs[i]?=aa v->kindOf x=aa .local ->
  iU kindOf (P.zip vs) m x=aa v
 |[],_,_,_,_,h,_,_=>by simp at h
 |_::_,[],_,_,_,_,h,_=>by simp at h
 |p::P,w::vs,0,m,nd,h1,h2,hk=>by simp at h1 h2;subst h1;subst h2;show iU kindOf ((p,w)::P.zip vs) m p=_;unfold iU;rw[Et λv hv=>(Xy.mp nd).1 (eM hv).1,if_pos hk];simp
 |p::P,w::vs,i+1,m,nd,h1,h2,hk=>by show iU kindOf ((p,w)::P.zip vs) m x=_;unfold iU;exact Eu (i:=i) (Xy.mp nd).2 (by simpa using h1) (by simpa using h2) hk
theorem Ey{kindOf:ao->Option bR}:∀{P:List ao}{vs:List aj}{i:Nat}{m:k87},P.Nodup->P[i]?=aa x->vs[i]?=aa v->kindOf x≠aa .local ->
  iV kindOf (P.zip vs) m x=aa v
 |[],_,_,_,_,h,_,_=>by simp at h
 |_::_,[],_,_,_,_,h,_=>by simp at h
 |p::P,w::vs,0,m,nd,h1,h2,hk=>by simp at h1 h2;subst h1;subst h2;show iV kindOf ((p,w)::P.zip vs) m p=_;unfold iV;rw[Ew λv hv=>(Xy.mp nd).1 (eM hv).1,if_neg hk];simp
 |p::P,w::vs,i+1,m,nd,h1,h2,hk=>by show iV kindOf ((p,w)::P.zip vs) m x=_;unfold iV;exact Ey (i:=i) (Xy.mp nd).2 (by simpa using h1) (by simpa using h2) hk
def start(N:List ao)(vs:List V):St:=vs.map aa++ax (N.length-vs.length) ag
noncomputable def qy(CX:CXT)(P:aA)(w:aH)(K:k84)(mg:k87)(base:aL)(N:List ao)(qual:ao)(scope:bJ)(f:ak)(cd:aj)(A:aI)(outer:List d8)(s:aq)(H:Hp)(E:XK):Cx where
 prog:=P
 w:=w
 K:=K
 mg:=mg
 base:=base
 A:=A.deeper (bM qual scope s.heap.objs.size f cd)
 N:=N
 s₀:=s
 H₀:=H
 env:=bM qual scope s.heap.objs.size f cd
 outer:=outer
 stack:=bM qual scope s.heap.objs.size f cd::outer
 ex:=[]
 calm:=af
 fn:=λ_=>af
 pn:=[]
 xe:=λe s'=>ay (aB P w) (A.deeper (bM qual scope s.heap.objs.size f cd)) (leaving (bM qual scope s.heap.objs.size f cd) e) (λ_ s''=>CX outer H s E e s'') (λe' s''=>CX outer H s E e' s'') s'
def j2v{sc:bJ}(h:sc.names.lookup x=aa .cell):∃c,(aX n sc.names []).lookup x=aa c:=by have q:=W.cellsFrom_some sc.names n [] (.inl h);exact Xr.mp q
def Eg{K:k84}{A:aI}{s1:aq}{vs:List V}
   (S:FnScope N ps scope) (cm:Bool) (hd:cm=af->A.handled=ag) (e0:EnvZ z P w K mg base A outer s H) (ht:0<s1.toks) (hl:vs.length=ps.length) (r:Vals vs us)
  (x:InCallC s s.heap.objs.size (iU (bM qual scope s.heap.objs.size f cd).kindOf (ps.zip us) λ_=>ag) (aX (s.heap.objs.size+1) scope.names []) (iV (bM qual scope s.heap.objs.size f cd).kindOf (ps.zip us) λ_=>ag) s1) :
  Inv { qy CX P w K mg base N qual scope f cd A outer s H E with calm:=cm } [] (start N vs) H s1:=by
 have hpl:ps.length<=N.length:=by have:=congrArg iE S.pre;rw[Xk]at this;omega
 obtain⟨h1,tk,rfl,hk⟩:=x.done;have noA:∀b:ak,b∉(qy CX P w K mg base N qual scope f cd A outer s H E).ex:=λb z=>absurd (show b∈([]:List ak)from z) (by simp);refine⟨⟨e0.mod,S.kind,rfl,rfl,Xc _,λy z c h1 h2=>?_,λy hy=>?_,λy c _ h=>?_,hd,Around.frames_deeper e0.frames,.inr ⟨rfl,rfl⟩,λb z=>absurd z (noA b),e0.bs,e0.bsz,λb _ _=>noA b,λb z=>absurd z (noA b),e0.funs,e0.frf⟩,
  ⟨rfl,ht⟩,e0.bare,Un.kept hk,⟨_,x.toInCall.ns,λi y v h1 h2 h3=>?_⟩,λy c h=>⟨_,x.cell y c h⟩,e0.hok.fresh (Xc _),λy c h=>?_,λp hp=>absurd (show p∈([]:k86)from hp) (by simp),e0.hok.kept hk,?_⟩
 .exact name_of_addr x.apart (cz h1) (cz h2)
 .have hy:scope.names.lookup y=aa .cell\/scope.names.lookup y=aa .free:=hy;rcases hy with hy|hy
  .exact j2v hy
  .exact absurd rfl (S.nofree _ (cz hy))
 .exact eK (x.above y c (cz h))
 .have hi:i<vs.length:=by
   unfold start at h2;by_cases hi:i<vs.length
   .exact hi
   .rw[dy (by simpa using hi)]at h2;rw[List.getElem?_replicate]at h2;split at h2<;>cases h2
  have ha:vs[i]?=aa v:=by
   unfold start at h2;rw[cB (by simpa using hi),Xn]at h2;cases e:vs[i]? with
   |none=>rw[e]at h2;cases h2
   |some a=>rw[e]at h2;cases h2;rfl
  obtain⟨u,hu,rv⟩:=r.get ha;have hp:ps[i]?=aa y:=by rw[<-S.pre,List.getElem?_take_of_lt nofun];exact h1
  have ndP:ps.Nodup:=by rw[<-S.pre];exact S.nd.sublist (jG _ _)
  refine⟨u,rv,?_⟩;rcases S.par y (Pg hp)with k|k
  .exact .inl ⟨k,Eu ndP hp hu k⟩
  .obtain⟨c,e⟩:=j2v (n:=s.heap.objs.size+1) k;refine .inr ⟨.inl k,c,e,?_⟩;have q:=x.cell y c e;rw[Ey ndP hp hu (by show scope.names.lookup y≠_;rw[k];decide)]at q;exact q
 .exact e0.hok.fresh (eK (x.above y c (cz h)))
 .unfold start;show _=N.length;rw[X6,xm,iz];omega
def Inv.extOut(nH:Inv X pins I H s)(x:Ext X H H2 s):HOk X.prog X.w H2 s.heap/\(X.ex=[]->Un X.fs [] X.H₀ H2 X.s₀.heap s.heap):=by
 have old:∀b o,X.s₀.heap.get? b=aa o->H2 b=H b:=λb o e=>(x b).elim id λ⟨y,ob,v,hc,hf,_⟩=>absurd (Xh (X4 e) (nH.ok.cab y b hf hc)) (T6 _);have trk:∀{b:ak}{u:HO},H b=aa u->H2 b=aa u:=λ{b u} e=>(x b).elim (λz=>z.trans e) λ⟨y,ob,v,hc,_⟩=>by rw[nH.freeC y b hc]at e;cases e
 refine⟨λa o e=>?_,λhx=>?_⟩
 .rcases x a with z|⟨y,ob,v,_,_,e2,e3,_⟩
  .exact(nH.hok a o (z▸e)).stay (λ_ _ _ q=>q) (λ_ q=>trk q) (λ_ _ q=>trk q) λ_ _ _ q=>trk q
  .rw[e2]at e;cases e;exact⟨e3,ob,e3⟩
 .have nx:∀b,b∉X.ex:=λb=>by rw[hx];simp
  exact⟨λb o e n hb _=>nH.base.keep b o e n hb (nx b),λb o e n hb _=>nH.base.slot b o e n hb (nx b),λb o e n _=>(old b o e).trans (nH.base.free b o e n (nx b)),λb o e _=>nH.base.there b o e (nx b),
   λb xs e=>trk (nH.base.tups b xs e),λb o u e=>trk (nH.base.frzs b o u e),λb ps e=>let ⟨m,z⟩:=nH.base.tbls b ps e;⟨m,trk z⟩⟩
def j0n{K:k84}{kV:aj}{an od:Option ak}
      (lk:K.lookup f=aa ⟨oc,od,.func (W.fnOf name qual params body scope dV kV doc pm an cdv ct),osl⟩) (hcd:W.codeIn K cdv qual=af) (S:FnScope N ps scope)
  (len:∀vs H Q E,sp vs H Q E->vs.length=ps.length)
  (hbody:∀(A:aI)(outer:List d8)(s:aq)(H:Hp)(vs:List V)(Q:VK)(E:XK),Room k (A.deeper (bM qual scope s.heap.objs.size f cdv))->sp vs H Q E ->
   ∃t,PSs (qy CX P w K mg base N qual scope f cdv A outer s H E) body t/\t { nx:=λ_ H'=>Q .non H',rt:=Q } (start N vs) H) (hz:z=af\/∃x,ps=[x]/\scope.names.lookup x=aa .local:=by exact .inl rfl) :
  FnOkZ z P w K mg base CX (k+1) f (W.fnOf name qual params body scope dV kV doc pm an cdv ct) ps sp:=by
 refine⟨len,λA outer s H args us vs Q E hr e0 hb r hsp=>?_⟩;have hl:=len _ _ _ _ hsp;have KX:K.In s.heap:=e0.mod.kin.keeps λb o e=>(e0.bs b o e).1;have lim:s.heap.NoLimit:=e0.mod.nolimit.keeps λb o e=>(e0.bs b o e).1;have hkind:∀y∈ps.zip us,scope.names.lookup y.1=aa .local\/(scope.names.lookup y.1=aa .cell/\((aX (s.heap.objs.size+1) scope.names []).lookup y.1).isSome=af):=λ⟨n,v⟩ hy=>by
  rcases S.par n (eM hy).1 with q|q
  .exact .inl q
  .exact .inr ⟨q,W.cellsFrom_some _ _ _ (.inl q)⟩
 refine jO hr.depth (KX _ _ lk) rfl S.co S.gen rfl (W.codeRec_of KX hcd) (hb _ _ _ _ ?_);refine Jc ?_ (il S.kind hkind λenv he s1 x htk=>?_)
 .rcases hz with e|⟨x,ex,hx⟩
  .exact .inl (e0.tk e)
  .subst ex;cases us with
   |nil=>exact absurd (r.length.symm.trans hl) (by simp)
   |cons u us=>exact .inr (Tks.env1 hx S.kind)
 subst he;refine⟨lim.keeps x.toInCall.keep,codeAny_func ?_⟩;obtain⟨t,ht,hq⟩:=hbody A outer s H vs Q E (hr.deeper _) hsp;have nI:Inv (qy CX P w K mg base N qual scope f cdv A outer s H E) [] (start N vs) H s1:=Eg S af (λ_=>hr.hd) e0 htk hl r x;refine bB (ht [] s1 (start N vs) H _ nI hq) (λfl s' hs=>?_) λe s' hs=>hs;have fin:∀{σ':St}{H':Hp}{v:V}{u:aj},Inv (qy CX P w K mg base N qual scope f cdv A outer s H E) [] σ' H' s'->RelV v u->Q v H'->CE outer P w H s Q u s' :=
  λ{σ' H' v u} nH rv q=>⟨v,H',nH.os,nH.bare,nH.base,nH.hok,rv,q⟩
 cases fl with
 |ret u =>obtain⟨v,σ',H',H2,nH,rv,x,q⟩:=hs;exact⟨v,H2,nH.os,nH.bare,(nH.extOut x).2 rfl,(nH.extOut x).1,rv,q⟩
 |next =>obtain⟨σ',H',nH,q⟩:=hs;exact fin (v:=V.non) (u:=cG) nH rfl q
 |brk =>obtain⟨_,_,_,q⟩:=hs;exact aW q
 |cont =>obtain⟨_,_,_,q⟩:=hs;exact aW q
section
variable{X:Cx}{x:ao}{p pos:aR}{e:ar}{es:List ar}{t:TA}{id T:String}{r:List V->Hp->VK->Prop}
def tCB(r:List V->Hp->VK->Prop)(t:TA):TE:=λI H Q=>t I H λvs H1=>r vs H1 Q
def J9(hc:Qc X (.builtin id) r)(hg:Gl X x)(hm:X.mg x=ag)(hv:cZ x=aa (.builtin id))(ha:PA X (e::es) t)(hn:x ≠ "__name__":=by decide)(hdb:(x==k89)=ae:=by decide)
  (he:ah (e::es) X.env=(ae,aD e X.env)::ah es X.env:=by rfl) (hpl:(aS pos (ah es X.env)).any (·.1)=ae:=by rfl):PE X (.Call (.Name x p) (e::es) [] pos) (tCB r t):=by
 intro pins s I H Q nI h;refine b9 (Qf nI hg hm hv ?_ hn hdb);exact callWith_builtin1 (thn (ha pos pins s I H _ nI h) λus s1 ⟨vs,H1,I1,r1,q1⟩=>hc pins s1 I H1 vs us Q I1 r1 q1) he hpl
def Vr(hc:Qc X (.type T) r)(hg:Gl X x)(hm:X.mg x=ag)(hv:cZ x=aa (.type T))(ha:PA X (e::es) t)(hn:x ≠ "__name__":=by decide)(hdb:(x==k89)=ae:=by decide)
  (he:ah (e::es) X.env=(ae,aD e X.env)::ah es X.env:=by rfl) (hpl:(aS pos (ah es X.env)).any (·.1)=ae:=by rfl):PE X (.Call (.Name x p) (e::es) [] pos) (tCB r t):=by
 intro pins s I H Q nI h;refine b9 (Qf nI hg hm hv ?_ hn hdb);exact callWith_type1 (thn (ha pos pins s I H _ nI h) λus s1 ⟨vs,H1,I1,r1,q1⟩=>hc pins s1 I H1 vs us Q I1 r1 q1) he hpl
end
end L2
namespace HT
open PySem PyProof.Rows
section
variable{prog:aA}{w:aH}{A:aI}{E:k85}{s:aq}
def cat_tup{vs ws:List aj}(ht:kY s.heap t vs.toArray)(hb:kY s.heap b ws.toArray)(hv:vs≠[])
  (h1:ws=[]->Q (.ref t) s) (h2:ws≠[]->Q (.ref s.heap.objs.size) { s with heap:=s.heap.push { cls:=.type "tuple",data:=.seq (vs++ws).toArray } })
  (hsz:vs.length+ws.length<=au):ay (aB prog w) A (bO .Add (.ref t) (.ref b)) Q E s:=by
 obtain⟨⟨cls,dd,data,sl⟩,ho,hc,n,hd⟩:=id ht;obtain⟨⟨cls2,dd2,data2,sl2⟩,ho2,hc2,n2,hd2⟩:=id hb;simp only at hc hd hc2 hd2;subst hc hd hc2 hd2;have e:vs.toArray++ws.toArray=(vs++ws).toArray:=by simp
 by_cases hw:ws=[]
 .exact gG ⟨_,ho,rfl⟩ ⟨_,ho2,rfl⟩ gY iK dS dM (dE _ _)
   (tuple_addW1 t b vs.toArray ws.toArray n n2 dd dd2 sl sl2 (by simpa using hv) (by simp[hw])) ⟨ho,ho2,h1 hw⟩
 .refine gG ⟨_,ho,rfl⟩ ⟨_,ho2,rfl⟩ gY iK dS dM (dE _ _)
   (tuple_addW2 t b vs.toArray ws.toArray n n2 dd dd2 sl sl2 (by simpa using hv) (by simpa using hw) (by rw[Xb,Xb];exact hsz)) ⟨ho,ho2,?_⟩
  rw[e];exact h2 hw
noncomputable def sIx(n d:Nat):Option Int->Nat
 |none=>d
 |some v=>if v<0 then(v+(n:Int)).toNat else min v.toNat n
def sIx_none(n d:Nat):sIx n d ag=d:=rfl
def sIx_nat(n d k:Nat):sIx n d (aa (k:Int))=min k n:=by show(if (k:Int)<0 then((k:Int)+(n:Int)).toNat else min (k:Int).toNat n)=min k n;rw[if_neg nofun,Xz]
end
end HT
namespace L2
open PySem PySem.Spec PyProof.Rows
abbrev TO:=St->Hp->(Option Int->Hp->Prop)->Prop
def PO(X:Cx)(e:Option ar)(t:TO):Prop :=
 ∀(pins:k86) (s:aq) (I:St) (H:Hp) (Q:Option Int->Hp->Prop),Inv X pins I H s->t I H Q ->
  ay (aB X.prog X.w) X.A (evalPart e X.env) (λu s'=>∃o H',Inv X pins I H' s'/\kI u o/\Q o H') X.xe s
def je0:TO:=λ_ H Q=>Q ag H
def jly(t:TE):TO:=λI H Q=>t I H λx H1=>∃i,x=.int i/\Q (aa i) H1
section
variable{X:Cx}{e:ar}{te:TE}{lo hi:Option ar}{tl th:TO}{pos p2:aR}
def jeq:PO X ag je0:=by intro pins s I H Q nI h;rw[nD];exact az ⟨ag,H,nI,.none,h⟩
def jep(h:PE X e te):PO X (aa e) (jly te):=by intro pins s I H Q nI hw;rw[evalPart_some];refine thn (h pins s I H _ nI hw) λu s1 ⟨x,H1,I1,r1,q1⟩=>?_;obtain⟨i,rfl,q⟩:=q1;obtain⟨t,rfl⟩:=r1;exact⟨aa i,H1,I1,.int i t,q⟩
def SlR(X:Cx)(r:V->Option Int->Option Int->Hp->VK->Prop):Prop :=
 ∀(pins:k86) (s:aq) (I:St) (H:Hp) (x:V) (v vl vu:aj) (lo hi:Option Int) (sl:ak) (Q:VK),Inv X pins I H s->RelV x v->s.heap.IsSliceOf sl vl vu .none->kI vl lo->kI vu hi->r x lo hi H Q ->
  ∃T id,kD (.type T) "__getitem__"=pure (aa (.builtin id))/\s.TypeIs v T/\ay (aB X.prog X.w) X.A (getItem v (.ref sl)) (EP X pins I Q) X.xe s
def tSl(r:V->Option Int->Option Int->Hp->VK->Prop)(te:TE)(tl th:TO):TE:=λI H Q=>te I H λx H1=>tl I H1 λl H2=>th I H2 λu H3=>r x l u H3 Q
def j1l(hr:SlR X r)(he:PE X e te)(hl:PO X lo tl)(hu:PO X hi th):PE X (.Subscript e (.Slice lo hi ag p2) pos) (tSl r te tl th):=by intro pins s I H Q nI h;refine Subscript_ (thn (he pins s I H _ nI h) λv s1 ⟨x,H1,I1,r1,q1⟩=>?_);refine wpAny_Slice (thn (hl pins s1 I H1 _ I1 q1) λvl s2 ⟨l,H2,I2,pl,q2⟩=>thn (hu pins s2 I H2 _ I2 q2) λvu s3 ⟨u,H3,I3,pu,q3⟩=>?_);rw[nD];refine az ?_;have I4:Inv X pins I H3 { s3 with heap:=s3.heap.push { cls:=.type "slice",data:=.fields #[vl,vu,.none] } }:=I3.kept (t':=s3.toks) λb ob q=>kj _ q;obtain⟨T,id,hT,ht,hg⟩:=hr pins { s3 with heap:=s3.heap.push { cls:=.type "slice",data:=.fields #[vl,vu,.none] } } I H3 x v vl vu l u s3.heap.objs.size Q I4 r1 (Heap.IsSliceOf.new ..) pl pu q3;show ay (aB X.prog X.w) X.A (nG e (.Slice lo hi ag p2) v (.ref s3.heap.objs.size)) (EP X pins I Q) X.xe { s3 with heap:=s3.heap.push { cls:=.type "slice",data:=.fields #[vl,vu,.none] } };exact nu (ops:=[.ref s3.heap.objs.size,v]) ht hT hg (by with_unfolding_all rfl)
noncomputable def Fd(xs:List V)(lo hi:Option Int):List V:=(xs.drop (HT.sIx xs.length 0 lo)).take (HT.sIx xs.length xs.length hi-HT.sIx xs.length 0 lo)
def j3k(xs:List V)(lo hi:Option Int):(Fd xs lo hi).length<=xs.length:=by unfold Fd;rw[Xk,Xo];omega
def jmm(K:k84):R2:=λx y H Q=>∃a b xs ys,x=.ref a/\y=.ref b/\SqT K H a xs/\SqT K H b ys/\xs≠[]/\xs.length+ys.length<=au /\
 (ys=[]->Q (.ref a) H)/\(ys≠[]->∀p,H p=ag->Q (.ref p) (upd H p (.tup (xs++ys))))
def Vals.nil_iff{xs:List V}(r:Vals xs us):us=[]↔xs=[]:=by
 cases r with
 |nil=>simp
 |cons _ _=>simp
def jf0:OpR X (bO .Add) (jmm X.K):=by intro pins s I H x y v u Q nI rx ry h;obtain⟨a,b,xs,ys,rfl,rfl,ha,hb,hx,hz,q1,q2⟩:=h;cases rx;cases ry;obtain⟨its,r1,p1,_⟩:=nI.tuple ha;obtain⟨its2,r2,p2,_⟩:=nI.tuple hb;refine HT.cat_tup p1 p2 (λz=>hx (r1.nil_iff.mp z)) (λz=>⟨.ref a,H,nI,rfl,q1 (r2.nil_iff.mp z)⟩) (λz=>?_) (by rw[<-r1.length,<-r2.length];exact hz);refine⟨.ref s.heap.objs.size,_,nI.laid (t':=s.toks) (o:=.tup (xs++ys)) (λb ob q=>kj _ q) (Xc _) ?_,rfl,q2 (λw=>z (r2.nil_iff.mpr w)) _ (nI.hok.fresh (Xc _))⟩;exact⟨by rw[X6];exact hz,_,r1.append r2,IsTup.new _ _,Y7.new _ _⟩
end
def ixN(n:Nat)(i:Int):Option Nat:=if 0<=i then(if i<n then aa i.toNat else ag)else if -(n:Int)<=i then aa (i+n).toNat else ag
noncomputable def atI{α:Type}(xs:List α)(i:Int):Option α:=(ixN xs.length i).bind λj=>xs[j]?
def jfi{n:Nat}(h:ixN n i=aa j):seqIndex? i n=aa j/\j<n/\-(n:Int)<=i/\i<n:=by
 unfold ixN at h;by_cases h0:0<=i
 .rw[if_pos h0]at h;by_cases h1:i<n
  .rw[if_pos h1]at h;have e:i.toNat=j:=aJ h;exact⟨by rw[seqIndex_of h0 h1,e],by omega,by omega,h1⟩
  .rw[if_neg h1]at h;cases h
 .rw[if_neg h0]at h;by_cases h1:-(n:Int)<=i
  .rw[if_pos h1]at h;have e:(i+n).toNat=j:=aJ h;exact⟨by rw[seqIndex_neg nofun h1,e],by omega,h1,by omega⟩
  .rw[if_neg h1]at h;cases h
def Ih{α:Type}{xs:List α}{v:α}(h:atI xs i=aa v):∃j,seqIndex? i xs.length=aa j/\xs[j]?=aa v/\j<xs.length/\-(xs.length:Int)<=i/\i<xs.length:=by
 unfold atI at h;cases e:ixN xs.length i with
 |none=>rw[e]at h;cases h
 |some j =>rw[e]at h;obtain⟨h1,h2,h3,h4⟩:=jfi e;exact⟨j,h1,h,h2,h3,h4⟩
def Bp{α:Type}{xs:List α}{j:Nat}{v:α}(h:xs[j]?=aa v):atI xs (j:Int)=aa v:=by
 have hj:j<xs.length:=(Xl.mp h).1;have e:ixN xs.length (j:Int)=aa j:=by unfold ixN;rw[if_pos nofun,if_pos nofun];simp
 unfold atI;rw[e];exact h
def jci{α:Type}(xs:List α)(v:α):atI (xs++[v]) (-1)=aa v:=by
 have hl:(xs++[v]).length=xs.length+1:=by simp
 have e:ixN (xs++[v]).length (-1)=aa xs.length:=by unfold ixN;rw[hl,if_neg (by decide),if_pos nofun];congr 1;omega
 unfold atI;rw[e];show(xs++[v])[xs.length]?=aa v;simp
def Ys(b:ar):Prop:=∀o i,subscripted b ae o i=operate [o,i] (getItem o i)
def IxR(X:Cx)(r:R2):Prop :=
 ∀(value slice:ar)(pins:k86) (s:aq) (I:St) (H:Hp) (x y:V) (v u:aj) (Q:VK),Inv X pins I H s->RelV x v->RelV y u->r x y H Q ->
  subscripted slice ae v u=operate [v,u] (getItem v u)->ay (aB X.prog X.w) X.A (nG value slice v u) (EP X pins I Q) X.xe s
def MtR(X:Cx)(id:String)(r:V->List V->Hp->VK->Prop):Prop :=
 ∀(pins:k86) (s:aq) (I:St) (H:Hp) (x:V) (xs:List V) (v:aj) (us:List aj) (Q:VK),Inv X pins I H s->RelV x v->Vals xs us->r x xs H Q ->
  ay (aB X.prog X.w) X.A (call (.builtin id) (v::us)) (EP X pins I Q) X.xe s
section
variable{X:Cx}{a b:ar}{ta tb:TE}{pos:aR}
def Ox(hr:IxR X r)(ha:PE X a ta)(hb:PE X b tb)(hs:Ys b):PE X (.Subscript a b pos) (tOp r ta tb):=by intro pins s I H Q nI h;exact Subscript_ (jc8 ha hb nI h λv u s2 x y H2 I2 rx ry q=>hr a b pins s2 I H2 x y v u Q I2 rx ry q (hs _ _))
def jht(K:k84):R2:=λx y H Q=>∃p xs i v,x=.ref p/\y=.int i/\SqL K H p xs/\atI xs i=aa v/\Q v H
def jhr(K:k84):R2:=λx y H Q=>∃p xs i v,x=.ref p/\y=.int i/\SqT K H p xs/\atI xs i=aa v/\Q v H
def jhs:R2:=λx y H Q=>∃z i c,x=.str z/\y=.int i/\z.length<=au/\atI z.cps.toList i=aa c/\Q (.str ⟨#[c]⟩) H
def j4j:IxR X (jht X.K):=by
 intro value slice pins s I H x y v u Q nI rx ry h hs;obtain⟨p,xs,i,z,rfl,rfl,hq,he,q⟩:=h;cases rx;obtain⟨t,rfl⟩:=ry;obtain⟨its,r,pl,hz⟩:=nI.list hq;obtain⟨j,h1,h2,h3,h4,h5⟩:=Ih he;obtain⟨w,ew,rw'⟩:=r.get h2;have hl:=r.length;have hn:=Mv;have fin:EP X pins I Q w s:=⟨z,H,nI,rw',q⟩
 by_cases h0:0<=i
 .have hj:i.toNat=j:=by rw[seqIndex_of h0 h5]at h1;exact aJ h1
  exact item_listR pl.isList h0 nofun (by rw[hj];simpa using ew) fin hs
 .have hj:(i+(its.toArray.size:Int)).toNat=j:=by rw[seqIndex_neg nofun h4]at h1;rw[Xb,<-hl];exact aJ h1
  exact jF (x:=w) pl.isList.typeIs slot_list_getitem.lookup
   (wpAny_getItem_list_neg (Q:=λr s'=>r=w/\EP X pins I Q r s') pl.isList nofun (by rw[Xb]<;>omega) nofun (by rw[hj];simpa using ew) ⟨rfl,fin⟩) hs
def j8l:IxR X (jhr X.K):=by
 intro value slice pins s I H x y v u Q nI rx ry h hs;obtain⟨p,xs,i,z,rfl,rfl,hq,he,q⟩:=h;cases rx;obtain⟨t,rfl⟩:=ry;obtain⟨its,r,pl,hz⟩:=nI.tuple hq;obtain⟨j,h1,h2,h3,h4,h5⟩:=Ih he;obtain⟨w,ew,rw'⟩:=r.get h2;have hl:=r.length;have hn:=Mv;have fin:EP X pins I Q w s:=⟨z,H,nI,rw',q⟩
 exact jF (x:=w) pl.typeIs slot_tuple_getitem.lookup
  (getItem_tuple (j:=j) (Q:=λr s'=>r=w/\EP X pins I Q r s') pl nofun nofun (by rw[Xb,<-hl];exact h1) (by simpa using ew) ⟨rfl,fin⟩) hs
def jja:IxR X jhs:=by
 intro value slice pins s I H x y v u Q nI rx ry h hs;obtain⟨z,i,c,rfl,rfl,hz,he,q⟩:=h;obtain⟨t,rfl⟩:=rx;obtain⟨t',rfl⟩:=ry;obtain⟨j,h1,h2,h3,h4,h5⟩:=Ih he;have hl:z.cps.toList.length=z.length:=by simp[gS]
 rw[hl]at h1 h4 h5;have hn:=Mv;exact nu (cE s z t) slot_str_getitem.lookup (getItem_str (c:=c) (by
  have e1:decide (i < -(2^63:Int))=ae:=decide_eq_false nofun
  have e2:decide (i>=2^63)=ae:=decide_eq_false nofun
  rw[e1,e2,kK]) (by rw[h1];simpa using h2) ⟨.str ⟨#[c]⟩,H,nI.tok _,⟨⟨_,Xu nI.tk⟩,rfl⟩,q⟩) hs
def j1a(lo hi:Option Int)(n:Nat):(dq lo hi ag n).1=((HT.sIx n 0 lo:Nat):Int)/\(dq lo hi ag n).2.1=((HT.sIx n n hi:Nat):Int)/\(dq lo hi ag n).2.2=1:=by
 refine⟨?_,?_,rfl⟩
 .cases lo with
  |none=>simp[dq,HT.sIx]
  |some i =>
   simp only[dq,HT.sIx,iY,show(1:Int)>0 by decide,if_true];by_cases h:i<0
   .simp only[h,if_true]<;>omega
   .simp only[h,if_false]<;>omega
 .cases hi with
  |none=>simp[dq,HT.sIx]
  |some i =>
   simp only[dq,HT.sIx,iY,show(1:Int)>0 by decide,if_true];by_cases h:i<0
   .simp only[h,if_true]<;>omega
   .simp only[h,if_false]<;>omega
def j06(its:List aj)(lo hi:Option Int):slicePick its.toArray lo hi ag=((its.drop (HT.sIx its.length 0 lo)).take (HT.sIx its.length its.length hi-HT.sIx its.length 0 lo)).toArray:=by obtain⟨h1,h2,h3⟩:=j1a lo hi its.toArray.size;unfold slicePick;rw[h1,h2,h3];simp only[sliceRange_one,pick_run,Xb]<;>rfl
def jpz(K:k84):V->Option Int->Option Int->Hp->VK->Prop:=λx lo hi H Q=>∃a xs,x=.ref a/\SqL K H a xs/\∀p,H p=ag->Q (.ref p) (upd H p (.lst (Fd xs lo hi)))
def je1:SlR X (jpz X.K):=by intro pins s I H x v vl vu lo hi sl Q nI rx hs pl pu h;obtain⟨a,xs,rfl,hx,q⟩:=h;cases rx;obtain⟨its,r,ht,hz⟩:=nI.list hx;have hlen:=r.length;refine⟨"list",_,slot_list_getitem.lookup,ht.isList.typeIs,?_⟩;refine wpAny_getItem_list_slice ht.isList hs pl pu .none (by simp) ?_ (by rw[Xb]<;>omega);rw[j06,<-hlen];refine⟨.ref s.heap.objs.size,_,nI.laid (t':=s.toks) (o:=.lst (Fd xs lo hi)) (λb ob q=>kj _ q) (Xc _) ?_,rfl,q _ (nI.hok.fresh (Xc _))⟩;exact⟨Xa (j3k xs lo hi) hz,_,0,(r.drop (HT.sIx xs.length 0 lo)).take (HT.sIx xs.length xs.length hi-HT.sIx xs.length 0 lo),X7 _ rfl⟩
def V2:Qc X (.builtin "len") (λxs H Q=>∃p ys,xs=[.ref p]/\(SqL X.K H p ys\/SqT X.K H p ys)/\Q (.int ys.length) H):=by
 intro pins s I H xs us Q nI r h;obtain⟨p,ys,rfl,hq,q⟩:=h;obtain⟨u,rfl,rx⟩:=vals1 r;cases rx;have hn:=Mv;rcases hq with hq|hq
 .obtain⟨its,r',pl,hz⟩:=nI.list hq;have hlen:=r'.length;exact Calls.call_len_list pl.isList (by simp only[Xb]<;>omega) ⟨.int ys.length,H,nI.tok _,⟨s.toks+1,by rw[Xb,hlen]⟩,q⟩
 .obtain⟨its,r',pl,hz⟩:=nI.tuple hq;have hlen:=r'.length;exact len_tuple pl (by simp only[Xb]<;>omega) ⟨.int ys.length,H,nI.tok _,⟨s.toks+1,by rw[Xb,hlen]⟩,q⟩
def j30:Qc X (.builtin "len") (λxs H Q=>∃z,xs=[.str z]/\z.length<=au/\Q (.int z.length) H):=by intro pins s I H xs us Q nI r h;obtain⟨z,rfl,hz,q⟩:=h;obtain⟨u,rfl,t,rfl⟩:=vals1 r;have hn:=Mv;exact len_str nofun ⟨.int z.length,H,nI.tok _,⟨_,rfl⟩,q⟩
def j2z:Qc X (.type "list") (λxs H Q=>∃p ys,xs=[.ref p]/\(SqL X.K H p ys\/SqT X.K H p ys)/\∀l,H l=ag->Q (.ref l) (upd H l (.lst ys))):=by
 intro pins s I H xs us Q nI r h;obtain⟨p,ys,rfl,hq,q⟩:=h;obtain⟨u,rfl,rx⟩:=vals1 r;cases rx;have fin:∀(its:List aj),Vals ys its->ys.length<=au->∀(h':aL)(c':Nat),(∀b o',s.heap.get? b=aa o'->h'.get? b=aa o') ->
   h'.get? s.heap.objs.size=aa { cls:=.type "list",dict:=ag,data:=.seq its.toArray c',slots:=#[] }->EP X pins I Q (.ref s.heap.objs.size) { s with heap:=h' }:=λits r' hz h' c' kp e =>
  ⟨.ref s.heap.objs.size,_,nI.laid (t':=s.toks) kp (Xc _) (show ql X.prog X.w _ h' _ (.lst ys) from⟨hz,its,c',r',e⟩),rfl,q _ (nI.hok.fresh (Xc _))⟩
 rcases hq with hq|hq
 .obtain⟨its,r',pl,hz⟩:=nI.list hq;have hlen:=r'.length;obtain⟨o,ho,hc,n,hd⟩:=pl.isList;exact nE p (.inl rfl) ho hc hd (λh' c' kp e=>fin its r' hz h' c' kp e) (by simp only[Xb]<;>omega)
 .obtain⟨its,r',pl,hz⟩:=nI.tuple hq;have hlen:=r'.length;obtain⟨o,ho,hc,n,hd⟩:=pl;exact nE p (.inr rfl) ho hc hd (λh' c' kp e=>fin its r' hz h' c' kp e) (by simp only[Xb]<;>omega)
def j0a:Qc X (.type "tuple") (λxs H Q=>∃p ys,xs=[.ref p]/\((SqL X.K H p ys/\∀l,H l=ag->Q (.ref l) (upd H l (.tup ys)))\/(SqT X.K H p ys/\Q (.ref p) H))):=by
 intro pins s I H xs us Q nI r h;obtain⟨p,ys,rfl,h⟩:=h;obtain⟨u,rfl,rx⟩:=vals1 r;cases rx;rcases h with ⟨hq,q⟩|⟨hq,q⟩
 .obtain⟨its,r',pl,hz⟩:=nI.list hq;have hlen:=r'.length;refine call_tuple_list pl.isList (λh' kp=>?_) (by simp only[Xb]<;>omega);have I1:Inv X pins I H { s with heap:=h' }:=nI.kept (t':=s.toks) kp;have I2:Inv X pins I (upd H h'.objs.size (.tup ys)) { s with heap:=h'.push { cls:=.type "tuple",data:=.seq its.toArray } } :=
   I1.laid (t':=s.toks) (λb o e=>kj _ e) (Xc _) (show ql X.prog X.w _ _ _ (.tup ys) from⟨hz,its,r',IsTup.new _ _,Y7.new _ _⟩)
  exact⟨.ref h'.objs.size,_,I2,rfl,q _ (I1.hok.fresh (Xc _))⟩
 .obtain⟨its,r',pl,hz⟩:=nI.tuple hq;exact call_tuple_same pl ⟨.ref p,H,nI,rfl,q⟩
def tyV(K:k84)(T:String)(x:V)(H:Hp):Prop:=match x with
 |.str _=>T = "str"
 |.int _=>T = "int"
 |.ref p=>(T = "list"/\∃xs,SqL K H p xs)\/(T = "tuple"/\∃xs,SqT K H p xs) \/
   (T = "dict"/\((∃kvs,H p=aa (.dK kvs))\/∃kvs,H p=aa (.dT kvs)))\/(T = "set"/\∃S n,H p=aa (.set S n))
 |_=>False
def jgr{T:String}(nI:Inv X pins I H s)(r:RelV x v)(ty:tyV X.K T x H) :
  s.TypeIs v T/\∀a,v=.ref a->∃ob,s.heap.get? a=aa ob/\ob.dict=ag:=by
 cases x with
 |str z =>obtain⟨t,rfl⟩:=r;cases(show T = "str" from ty);exact⟨cE s z t,λ_ e=>nomatch e⟩
 |int i =>obtain⟨t,rfl⟩:=r;cases(show T = "int" from ty);exact⟨gp s i t,λ_ e=>nomatch e⟩
 |ref p =>
  cases r;rcases ty with ⟨rfl,xs,hq⟩|⟨rfl,xs,hq⟩|⟨rfl,hk⟩|⟨rfl,S,n,hk⟩
  .obtain⟨its,_,pl,_⟩:=nI.list hq;refine⟨pl.isList.typeIs,λa e=>?_⟩;cases e;obtain⟨o,n,e,c,hd,_⟩:=pl;exact⟨o,e,hd⟩
  .obtain⟨its,_,⟨o,e1,e2,_⟩,_⟩:=nI.tuple hq;refine⟨⟨o,e1,e2⟩,λa e=>?_⟩;cases e;exact⟨o,e1,nI.tupD hq o e1⟩
  .have z:∃o,s.heap.get? p=aa o/\o.ExactDict:=by
    rcases hk with ⟨kvs,hk⟩|⟨kvs,hk⟩
    .obtain⟨_,_,_,_,o,_,_,e,ex,_⟩:=nI.hok p _ hk;exact⟨o,e,ex⟩
    .obtain⟨_,_,_,_,o,_,_,e,ex,_⟩:=nI.hok p _ hk;exact⟨o,e,ex⟩
   obtain⟨o,e,ex⟩:=z;refine⟨⟨o,e,ex.1⟩,λa e2=>?_⟩;cases e2;exact⟨o,e,ex.2.1⟩
  .obtain⟨o,_,_,_,e,ex,_⟩:=nI.hok p _ hk;refine⟨⟨o,e,ex.1⟩,λa e2=>?_⟩;cases e2;exact⟨o,e,ex.2.1⟩
 |_=>exact aW ty
def tBM(K:k84)(T:String)(r:V->List V->Hp->VK->Prop)(to:TE)(t:TA):TE:=λI H Q=>to I H λx H1=>tyV K T x H1/\t I H1 λxs H2=>r x xs H2 Q
variable{o e:ar}{es:List ar}{to:TE}{t:TA}{name:ao}{apos cpos:aR}{T id:String}{r:V->List V->Hp->VK->Prop}
def Uk(pa:PlainAttrs T)(slot:Slot T name id)(hty:typeOf (.builtin id)=pure (.type "method_descriptor"))(hm:MtR X id r)(ho:PE X o to)(ha:PA X (e::es) t)
  (hbase:aY o name X.env (aD o X.env)=aD o X.env:=by rfl)
  (hfew:((aS cpos (ah (e::es) X.env)).all (λx=>!x.1)&&(bU cpos (bg [] X.env)).all (λx=>x.1.isSome)
   && decide ((e::es).length+([]:List bb).length+(if ([]:List bb).isEmpty then 0 else 1)<30))=af:=by rfl)
  (hline:(apos.endLine==cpos.line)=af:=by rfl) (hs:ah (e::es) X.env=(ae,aD e X.env)::ah es X.env:=by rfl) (hplain:(aS cpos (ah es X.env)).any (·.1)=ae:=by rfl) :
  PE X (.Call (.Attribute o name apos) (e::es) [] cpos) (tBM X.K T r to t):=by
 intro pins s I H Q nI h;refine wpAny_Call_method_late hbase hfew hline rfl (thn (ho pins s I H _ nI h) λv s1 ⟨x,H1,I1,r1,ty,q1⟩=>?_);obtain⟨h1,h2⟩:=jgr I1 r1 ty;refine⟨T,id,pa,slot,hty,h1,h2,?_⟩;have hA:=ha cpos pins s1 I H1 _ I1 q1;rw[hs]at hA ⊢;refine i0 (by show(ae || (aS cpos (ah es X.env)).any (·.1))=ae;rw[hplain]<;>rfl) (eQ ?_);exact thn hA λus s2 ⟨vs,H2,I2,r2,q2⟩=>hm pins s2 I H2 x vs v us Q I2 r1 r2 q2
/- xs.append(e),list.index on a module's tuple .. are MtR facts of 06m -/
end
def MtM(X:Cx)(id:String)(r:V->List V->Hp->VK->Prop):Prop :=
 ∀(pins:k86) (s:aq) (I:St) (H:Hp) (x:V) (xs:List V) (v:aj) (us:List aj) (Q:VK),Inv X pins I H s->RelV x v->Vals xs us->r x xs H Q ->
  ay (aB X.prog X.w) X.A (call (.builtin id) (v::us)) (EP X pins I Q) X.xe s
def Vals.one(h:Vals [x] us):∃u,us=[u]/\RelV x u:=by cases h with|cons r t=>cases t;exact⟨_,rfl,r⟩
def Vals.two(h:Vals [x,y] us):∃u v,us=[u,v]/\RelV x u/\RelV y v:=by cases h with|cons r t=>cases t with|cons q t=>cases t;exact⟨_,_,rfl,r,q⟩
theorem Vals.dropLast{xs:List V}(h:Vals xs us):Vals xs.dropLast us.dropLast:=by
 induction h with
 |nil=>exact .nil
 |cons r t ih =>
  cases t with
  |nil=>exact .nil
  |cons q t'=>exact .cons r ih
theorem Vals.reverse{xs:List V}(h:Vals xs us):Vals xs.reverse us.reverse:=by
 induction h with
 |nil=>exact .nil
 |cons r t ih=>rw[jH,jH];exact Vals.append ih (.cons r .nil)
theorem Vals.rep{xs:List V}(h:Vals xs us):∀k:Nat,Vals (ax k xs).flatten (ax k us).flatten
 |0=>.nil
 |k+1=>by rw[T4,T4,Tt,Tt];exact Vals.append h (Vals.rep h k)
theorem foldl_rep(its:List aj):∀(k:Nat)(acc:List aj),
  cW (λx1 x2=>x1++x2) acc.toArray (ax k its.toArray)=(acc++(ax k its).flatten).toArray
 |0,acc=>by simp
 |k+1,acc=>by
  have e:acc.toArray++its.toArray=(acc++its).toArray:=by simp
  have e2:(acc++its)++(ax k its).flatten=acc++(ax (k+1) its).flatten:=by rw[T4,Tt,Xg]
  rw[<-e2,<-foldl_rep its k (acc++its),<-e,T4,cK]
section
variable{X:Cx}{pins:k86}{I:St}{H:Hp}{s:aq}{l b:ak}{xs ys zs:List V}
def Inv.lset{its its':List aj}(nI:Inv X pins I H s)(hH:H l=aa (.lst xs))
  (e:s.heap.get? l=aa { cls:=.type "list",data:=.seq its.toArray n }) (hf:f its.toArray=its'.toArray) (hv:Vals ys its') (hz:ys.length<=au) (ht:0<t':=by first|assumption|exact Pb _|exact Inv.tk (by assumption)) :
  Inv X pins I (upd H l (.lst ys)) { s with heap:=s.heap.update l (Obj.mapSeq f),toks:=t' }:=by
 have q:=PySem.IsL.update e f;rw[hf]at q;refine nI.write (x:=l) (e:=l) (by rw[hH];exact trivial) (.inl rfl) (λb' u hb hu=>(Heap.get?_update_other s.heap (Obj.mapSeq f) (eO hb)).trans hu) ⟨_,q⟩ ?_;exact⟨hz,its',_,hv,q⟩
def Inv.lnew(nI:Inv X pins I H s)(hv:Vals ys its)(hz:ys.length<=au)(ht:0<t':=by first|assumption|exact Pb _|exact Inv.tk (by assumption)) :
  Inv X pins I (upd H s.heap.objs.size (.lst ys)) { s with heap:=s.heap.push { cls:=.type "list",data:=.seq its.toArray },toks:=t' } :=
 nI.laid (λ_ _ q=>kj _ q) (Xc _) ⟨hz,its,0,hv,X7 _ rfl⟩
theorem Inv.fresh(nI:Inv X pins I H s):H s.heap.objs.size=ag:=nI.hok.fresh (Xc _)
def Inv.lstM(nI:Inv X pins I H s)(hH:H l=aa (.lst xs)):xs.length<=au/\∃(its:List aj)(n:Nat),Vals xs its/\xs.length=its.length/\s.heap.get? l=aa { cls:=.type "list",data:=.seq its.toArray n }:=by obtain⟨z,its,n,r,e⟩:=nI.hok l _ hH;exact⟨z,its,n,r,r.length,e⟩
def j1r(h:n<=au):cf n=ae:=by unfold cf;exact decide_eq_false nofun
end
section
variable{X:Cx}
def jem:V->List V->Hp->VK->Prop:=λx vs H Q=>∃l xs y,x=.ref l/\vs=[y]/\H l=aa (.lst xs)/\xs.length<au/\Q .non (upd H l (.lst (xs++[y])))
def Ul:MtM X "list.append" jem:=by intro pins s I H x vs v us Q nI rx rv h;obtain⟨l,xs,y,rfl,rfl,hH,hz,q⟩:=h;cases rx;obtain⟨u,rfl,ru⟩:=rv.one;obtain⟨z,its,n,r,hl,e⟩:=nI.lstM hH;refine bX cM ⟨_,e,rfl⟩ F.entry_list_append (F.args_list_append_2 _ _) (PySem.list_append l its.toArray n u (by rw[Xb];omega)) ⟨e,?_⟩;refine⟨.non,_,nI.lset (its':=its++[u]) hH e (by simp) (r.append (.cons ru .nil)) ?_,rfl,q⟩;rw[X6,iy];omega
def jel:V->List V->Hp->VK->Prop:=λx vs H Q=>∃l b xs zs,x=.ref l/\vs=[.ref b]/\H l=aa (.lst xs)/\H b=aa (.lst zs)/\xs.length+zs.length<=au/\Q .non (upd H l (.lst (xs++zs)))
def j89:MtM X "list.extend" jel:=by
 intro pins s I H x vs v us Q nI rx rv h;obtain⟨l,b,xs,zs,rfl,rfl,hH,hB,hz,q⟩:=h;cases rx;obtain⟨u,rfl,ru⟩:=rv.one;cases ru;obtain⟨z,its,n,r,hl,e⟩:=nI.lstM hH;obtain⟨z2,its2,n2,r2,hl2,e2⟩:=nI.lstM hB;have hsz:its.toArray.size+its2.toArray.size<=au:=by rw[Xb,Xb];omega
 have hlong:¬(!its.toArray.isEmpty&&cf (its.toArray.size+its2.toArray.size))=af:=by rw[j1r hsz,dC];exact xq
 refine bX ij ⟨_,e,rfl⟩ F.entry_list_extend (F.args_list_extend_2 _ _)
  (AutoSeq1.list_extend_list_list_0 l its.toArray n b its2.toArray n2 hlong (by rw[Xb];omega) nofun) ⟨e,e2,?_⟩
 refine⟨.non,_,nI.lset (its':=its++its2) hH e (by simp) (r.append r2) ?_,rfl,q⟩;rw[X6];omega
def jq1:R2:=λx y H Q=>∃l k xs,x=.ref l/\y=.int k/\H l=aa (.lst xs)/\-(2^63)<=k/\k<2^63/\xs.length*k.toNat<=au /\
 ∀p,H p=ag->Q (.ref p) (upd H p (.lst (ax k.toNat xs).flatten))
def len_rep{α:Type}(xs:List α)(k:Nat):(ax k xs).flatten.length=k*xs.length:=by
 induction k with
 |zero=>simp
 |succ k ih=>rw[T4,Tt,X6,ih,lY,Nat.add_comm]
def jia:OpR X (bO .Mult) jq1:=by
 intro pins s I H x y v u Q nI rx ry h;obtain⟨l,k,xs,rfl,rfl,hH,h1,h2,hz,q⟩:=h;cases rx;obtain⟨t,rfl⟩:=ry;obtain⟨z,its,n,r,hl,e⟩:=nI.lstM hH;have hlen:its.toArray.size*k.toNat<=au:=by rw[Xb,<-hl];exact hz
 have hcap:¬its.toArray.size*k.toNat>(2^63-1)/8:=by
  have:(au:Nat)<=(2^63-1)/8:=by decide
  omega
 have hfit:¬(!Builtin.List.listFitsIndex k)=af:=by rw[fitsIndex_both h1 h2];exact xq
 have hlong:¬cf (its.toArray.size*k.toNat)=af:=by rw[j1r hlen];exact xq
 have hnew:cW (λx1 x2=>x1++x2) #[] (ax (if its.toArray.isEmpty=af then 0 else k.toNat) its.toArray)=(ax k.toNat its).flatten.toArray:=by
  have f0:∀m:Nat,cW (λx1 x2=>x1++x2) #[] (ax m its.toArray)=(ax m its).flatten.toArray:=λm=>by have:=foldl_rep its m [];rw[T9]at this;exact this
  rw[f0];cases its with
  |nil=>simp
  |cons a r'=>rw[if_neg (by simp)]
 refine iC (T:="list") (U:="int") (by decide) ⟨_,e,rfl⟩ (λs'=>gp s' k t) noFill_list_mul kP eW repeat_list F.slot_int_index.lookup
  (bX eW (gp s k t) kB (ko _ _) (int___rmul___int_list k t l its.toArray n)
   ⟨e,rfl,⟨_,e,rfl⟩,bX F.slot_list_mul ⟨_,e,rfl⟩ F.entry_list_mul (F.args_list_mul_2 _ _) (AutoListH.list___mul___list_int_3 l its.toArray n k t hfit hcap hlong) ⟨e,?_⟩⟩)
 rw[hnew];exact⟨.ref _,_,nI.lnew (t':=s.toks) (r.rep k.toNat) (by rw[len_rep,fU];exact hz),rfl,q _ nI.fresh⟩
end
end L2
namespace Att
open PySem PySem.W PySem.Calls PyProof.Rows
def Ce:∀(ns:zo)(vs:List aj),WellAll P h vs (ns.map WData.int)->ib vs ns:=by
 intro ns;induction ns with
 |nil =>intro vs w;rw[Pk]at w;cases w;exact .nil
 |cons n ns ih =>
  intro vs w;rw[X5]at w;cases w with
  |cons a b =>cases a;exact .cons _ _ (ih _ b)
def j7f{l:dQ}(hn:l.most=aa n)
  (hpre:l.row.toRowW.claim.pre args=af) (hwl:WellAll P h vals args) :
  ∃a vs ns,vals=[aQ a]/\args=[WData.list (ns.map WData.int)]/\h.get? a=aa { cls:=.type "list",data:=.seq vs.toArray }/\ib vs ns/\ns.length<=n:=by
 have hsh:WShape.hasAll [] args [.list .int]=af:=(pre_splitW hpre).1;have hc:l.pre.holds [] { args:=args }=af:=(pre_splitW hpre).2;obtain⟨d,r,rfl,h1,h2⟩:=hasAllW_cons hsh;obtain rfl:=hasAllW_nil h2;obtain⟨xs,rfl,h3⟩:=hasW_list h1;obtain⟨ns,rfl⟩:=items_int h3;have hlen:ns.length<=n:=by
  unfold OpenLaw.pre at hc;have h4:(WTm.not (.lt (.lit (.int (n:Int))) (.len (.arg 0)))).holds [] { args:=[.list (ns.map .int)] }=af:=by have h4:=(holds_andW hc).1;rw[hn]at h4;exact h4
  have h5:=condW_of h4 (w_not (w_lt w_lit (w_len_list (w_arg rfl))));rw[xm]at h5;refine Nat.le_of_not_lt λq=>?_;have q':(n:Int)<((ns.length:Nat):Int):=by omega
  first
   |(rw[decide_eq_true q']at h5;exact absurd h5 (by decide))
   |(simp at h5;omega)
 cases hwl with
 |cons w1 w2 =>
  cases w2;cases w1 with
  |list ho hall=>exact⟨_,_,ns,rfl,rfl,ho,Ce ns _ hall,hlen⟩
def j7r(l:dQ)(args:List WData):l.row.toRowW.claim.post args (.bool af) args=af :=
 postW_of (r:=l.row.toRowW) (X:=(af==af))
  (show WShape.has [] (.bool af) .bool=af by first|rfl|decide|simp[WShape.has,WShape.arms,WShape.armsAll])
  (show(WTm.eq .res (.lit (.bool af))).value [] { args:=args,res:=aa (.bool af),after:=args }=aa (.bool (af==af))from w_eq_bool (w_res rfl) w_lit) rfl
def attach_call{l:dQ}{d:DefRec}
  (hn:l.most=aa n) (hdf:d.params.defaults=[])
  (call:∀(w:aH)(s₀ s₁:aq)(mg mb:k87)(fa:ak)(o:cT)(pm cd doc:aj)(a:ak) (vs:List aj) (ns:zo),
   Ground q loose [] XP w s₀ mg mb s₁.heap->YP w s₁.heap ->
   s₁.heap.get? fa=aa o->o.data=.func (docDef d.name d.params d.body d.scope pm cd doc)->s₁.heap.CodeRec cd d.name->mg d.name=aa (.ref fa) ->
   s₁.heap.get? a=aa { cls:=.type "list",data:=.seq vs.toArray }->ib vs ns->ns.length<=n->s₁.gens = #[] ->
   cQ (aB l.prog w) gH (.call (.ref fa) ⟨[.ref a],[]⟩) (λr s'=>r=.ok (.ret (.bool af))/\OldK s₁.heap s'.heap/\s'.os=s₁.os/\eC s'.gens) s₁) :
  iH q loose XP YP l.row.toRowW d [] (λf vs=>gI f vs):=by
 intro w s₀ s₁ mg mb G Y fa o pm cd doc dV kV ho hd hcd hD hmg hg args vals as hpre hlay hrd hwl hlo;obtain rfl:dV=.none:=Dflts.none hD hdf;obtain rfl:kV=.none:=Dflts.noKw hD;obtain⟨a,vs,ns,rfl,rfl,hobj,hints,hlen⟩:=j7f hn hpre hwl;refine enter_call (cJ (call w s₀ s₁ mg mb fa o pm cd doc a vs ns G Y ho (fd_plain hd) hcd hmg hobj hints hlen hg) λr s' hq=>?_);obtain⟨rfl,h2,h3,h4⟩:=hq;exact⟨.inl ⟨.bool af,.bool af,[],rfl,λ_=>rfl,.bool af,j7r l _,λ_=>⟨gO,λ_ hm=>(nomatch hm)⟩⟩,h2,h3,h4⟩
end Att
namespace L2
open PySem PySem.Spec PyProof.Rows
theorem Iu:∀{vs:List aj}{ns:zo},ib vs ns->Vals (ns.map V.int) vs
 |_,_,.nil=>.nil
 |_,_,.cons n t h=>.cons ⟨t,rfl⟩ (Iu h)
def Only(ts:List (ak×ao))(H:Hp):Prop:=(∀b,H b=ag\/(∃o xs,H b=aa (.frz o (.lst xs)))\/∃q,(b,q)∈ts/\H b=aa (.cod q))/\∀t∈ts,H t.1=aa (.cod t.2)
def jck(ts:List (ak×ao))(h:aL):Prop:=(ts.map (·.1)).Nodup/\∀t∈ts,(∃c,PySem.W.CodeHd h c t.1)/\h.get? t.1=aa (W.tabObj #[])
theorem j3v:∀{ts:List (ak×ao)} {b:ak} {q:ao},ts.lookup b=aa q->(b,q)∈ts
 |p::r,b,q,h=>by
  rw[Xp]at h;cases e:b==p.1 with
  |true=>rw[e]at h;cases h;rw[beq_iff_eq.mp e];exact km ..
  |false=>rw[e]at h;exact kh _ (j3v h)
theorem lookup_tab:∀{ts:List (ak×ao)},(ts.map (·.1)).Nodup->∀t∈ts,ts.lookup t.1=aa t.2
 |[],_,_,h=>by cases h
 |p::r,nd,t,ht=>by
  rw[X5]at nd;rcases xj.mp ht with e|ht
  .subst e;rw[Xp,beq_self_eq_true]
  .have ne:(t.1==p.1)=ae:=beq_eq_false_iff_ne.mpr λz=>(Xy.mp nd).1 (z▸df ht);rw[Xp,ne];exact lookup_tab (Xy.mp nd).2 t ht
def jbe{K:k84}{s₁:aq}{vs:List aj}
  (KX:K.In s₁.heap) (hns:s₁.heap.Ns aw mg) (hb:s₁.heap.Ns dW mb) (hbb:∀x:ao,x ≠ "__name__"->mb x=cZ x) (hlim:s₁.heap.NoLimit)
  (hbm:∃bm ob,mg "__builtins__"=aa (.ref bm)/\bm≠dW/\s₁.heap.get? bm=aa ob/\ob.cls=.type "module"/\ob.dict=aa dW/\ob.data=.plain) (hT:jck ts s₁.heap) (hK0:W.noTabs K=af) (hg:s₁.gens = #[])
  (ha:s₁.heap.get? a=aa { cls:=.type "list",data:=.seq vs.toArray }) (hi:ib vs ns) (hl:ns.length<=au) (hr:Room k gH)
  (F:∀base:aL,K.In base->base.Ns aw mg->FnOkZ ae P w K mg base CX k fa fd [x] sp) (hbind:∀(s:aq)(u:aj),gN s fd ⟨[u],[]⟩ [(x,u)])
  (hsp:∀H:Hp,Only ts H->SqL K H a (ns.map V.int)->sp [.ref a] H (λv H'=>v=.bl af/\∀b o,H b=aa o->H' b=aa o) λ_ _ _=>False)
  (hCX:∀H e s',CX [] H s₁ (λ_ _ _=>False) e s'->False) :
  cQ (aB P w) gH (.call (.ref fa) ⟨[.ref a],[]⟩) (λr s'=>r=.ok (.ret (.bool af))/\OldK s₁.heap s'.heap/\s'.os=s₁.os/\eC s'.gens) s₁:=by
 have rv:=Iu hi;have lenV:=hi.length;have at_:∀{q:ao}{b:ak},(b,q)∈ts->s₁.heap.get? b=aa (W.tabObj #[]):=λ{q b} h=>(hT.2 _ h).2;have core:∀H:Hp,Only ts H->SqL K H a (ns.map V.int)->HOk P w H s₁.heap->(∀b,H b≠ag->b=a\/∃q,(b,q)∈ts)->(H a≠ag->K.lookup a=ag) ->
   cQ (aB P w) gH (.call (.ref fa) ⟨[.ref a],[]⟩) (λr s'=>r=.ok (.ret (.bool af))/\OldK s₁.heap s'.heap/\s'.os=s₁.os/\eC s'.gens) s₁:=by
  intro H hO hS hok hA hK;have base_of:∀{b:ak}{o:cT},s₁.heap.get? b=aa o->H b=ag->(Ro s₁.heap H).get? b=aa o:=λe n=>jbm e n;have noA:∀{b:ak}{o:cT},s₁.heap.get? b=aa o->(∀vs n,o.data≠.seq vs n)->(∀vs,o.data≠.fields vs)->H b=ag:=λ{b o} e d d2=>by
   cases q:H b with
   |none=>rfl
   |some u =>
    rcases hA b (by rw[q];simp)with e'|⟨q',e'⟩
    .subst e';rw[ha]at e;cases e;exact absurd rfl (d _ _)
    .rw[at_ e']at e;cases e;exact absurd rfl (d2 _)
  have nsK:∀{b:ak}{m:k87},s₁.heap.Ns b m->(Ro s₁.heap H).Ns b m:=λ{b m} ⟨o,es,ep,e,d,r⟩=>⟨o,es,ep,base_of e (noA e (λ_ _ z=>by rw[d]at z;cases z) λ_ z=>by rw[d]at z;cases z),d,r⟩
  have hKb:K.In (Ro s₁.heap H):=λb o e=>base_of (KX b o e) (by
   cases q:H b with
   |none=>rfl
   |some u =>
    rcases hA b (by rw[q];simp)with e'|⟨q',e'⟩
    .subst e'
     rw[hK (by rw[q];simp)]at e;cases e
    .have e2:=KX b o e
     rw[at_ e']at e2
     have h2:=Xf.mp hK0 (b,o) (W.mem_of_lookupK e)
     cases e2
     exact absurd (show ae=af from h2) xq)
  have hM:Mod K mg (Ro s₁.heap H):=⟨hKb,nsK hns,⟨mb,nsK hb,hbb⟩,(let ⟨mc,h1,h2⟩:=hlim;⟨mc,nsK h1,h2⟩),
   let ⟨bm,ob,b1,b2,b3,b4,b5,b6⟩:=hbm;⟨bm,ob,b1,b2,base_of b3 (noA b3 (λ_ _ z=>by rw[b6]at z;cases z) λ_ z=>by rw[b6]at z;cases z),b4,b5,b6⟩⟩
  have e0:EnvZ ae P w K mg (Ro s₁.heap H) gH [] s₁ H:=⟨rfl,hM,λb o e=>jf3 e,lZ (j8o _ _),trivial,λb hb=>absurd (show b∈([]:List ak)from hb) (by simp),hok,.of_eq hg,λz=>nomatch z⟩
  refine cJ ((F _ hKb (nsK hns)).run gH [] s₁ H ⟨[.ref a],[]⟩ [.ref a] [.ref a] _ _ hr e0 (hbind s₁ (.ref a)) (.cons rfl .nil) (hsp H hO hS)) λr s' h=>?_;cases r with
  |error e=>exact(hCX H e s' h).elim
  |ok fl =>
   cases fl with
   |next=>exact aW h
   |brk=>exact aW h
   |cont=>exact aW h
   |ret u =>
    obtain⟨v,H',os,bare,un,hok',r',q,sm⟩:=h;have q':v=.bl af:=q;subst q';obtain rfl:u=dm af:=r';have main:∀b o,s₁.heap.get? b=aa o->s'.heap.get? b=aa o\/((∃q,(b,q)∈ts)/\o=W.tabObj #[]/\∃ps,s'.heap.get? b=aa (W.tabObj ps)):=λb o e=>by
     cases q:H b with
     |none=>exact .inl (un.keep b o e q (by intro z;exact absurd (show b∈([]:List ak)from z) (by simp)) (by simp))
     |some u =>
      rcases hO.1 b with z|⟨ob,xs,z⟩|⟨q',hq,z⟩
      .rw[q]at z;cases z
      .have z2:=un.frzs b ob _ z;obtain⟨e1,_⟩:=hok b _ z;obtain⟨e2,_⟩:=hok' b _ z2;rw[e]at e1;cases e1;exact .inl e2
      .obtain⟨ps,e2,_⟩:=(show ql P w H' s'.heap b (.cod q')from hok' b _ (sm b _ z))
       rw[at_ hq]at e;exact .inr ⟨⟨q',hq⟩,(aJ e).symm,ps,e2⟩
    refine⟨rfl,⟨λb o e=>?_,λb o e=>?_⟩,os.1,bare⟩
    .rcases main b o e with z|⟨⟨q,hq⟩,rfl,ps,z⟩
     .exact .inl z
     .obtain⟨c,hc⟩:=(hT.2 _ hq).1;exact .inr (.inl ⟨(hc.tab (at_ hq)).isCodeTable,rfl,#[],ps,rfl,by rw[z,Array.empty_append]⟩)
    .rcases main b o e with z|⟨_,_,ps,z⟩
     .exact⟨o,z⟩
     .exact⟨_,z⟩
 have lkT:∀b q,ts.lookup b=aa q->(b,q)∈ts:=λb q h=>j3v h;have ofT:∀t∈ts,ts.lookup t.1=aa t.2:=lookup_tab hT.1;have okT:∀(H:Hp) b q,(b,q)∈ts->ql P w H s₁.heap b (.cod q):=λH b q h=>⟨#[],at_ h,trivial,λpos cv z=>by cases z⟩
 cases hk:K.lookup a with
 |some o =>
  have e:=KX a o hk;rw[ha]at e;cases e;refine core (λb=>(ts.lookup b).map HO.cod) ⟨λb=>?_,λt ht=>by show(ts.lookup t.1).map HO.cod=_;rw[ofT t ht];rfl⟩ (.inr ⟨_,vs.toArray,_,hk,rfl,rfl,rfl,by rw[Xb,lenV];exact hl,by simpa using rv⟩) (λb u z=>?_) (λb z=>?_) λz=>?_
  .cases e:ts.lookup b with
   |none=>exact .inl (by show(ts.lookup b).map HO.cod=_;rw[e];rfl)
   |some q=>exact .inr (.inr ⟨q,lkT b q e,by show(ts.lookup b).map HO.cod=_;rw[e];rfl⟩)
  .obtain⟨q,e,rfl⟩:=T7.mp z;exact okT _ b q (lkT b q e)
  .cases e:ts.lookup b with
   |none=>exact absurd (by show(ts.lookup b).map HO.cod=_;rw[e];rfl) z
   |some q=>exact .inr ⟨q,lkT b q e⟩
  .cases e:ts.lookup a with
   |none=>exact absurd (by show(ts.lookup a).map HO.cod=_;rw[e];rfl) z
   |some q=>have:=at_ (lkT a q e);rw[ha]at this;cases this
 |none =>
  have na:∀q,(a,q)∉ts:=λq h=>by have:=at_ h;rw[ha]at this;cases this
  refine core (λb=>if b=a then aa (.frz { cls:=.type "list",data:=.seq vs.toArray } (.lst (ns.map V.int))) else(ts.lookup b).map HO.cod) ⟨λb=>?_,λt ht=>?_⟩ (.inl (.inr ⟨{ cls:=.type "list",data:=.seq vs.toArray },if_pos rfl⟩)) (λb u z=>?_) (λb z=>?_) λ_=>hk
  .by_cases hb:b=a
   .exact .inr (.inl ⟨_,_,if_pos hb⟩)
   .cases e:ts.lookup b with
    |none=>exact .inl (by show(if b=a then _ else _)=_;rw[if_neg hb,e];rfl)
    |some q=>exact .inr (.inr ⟨q,lkT b q e,by show(if b=a then _ else _)=_;rw[if_neg hb,e];rfl⟩)
  .have nb:t.1≠a:=λz=>na t.2 (z▸ht);show(if t.1=a then _ else _)=_;rw[if_neg nb,ofT t ht];rfl
  .by_cases hb:b=a
   .have z':=(if_pos hb).symm.trans z;cases z';subst hb;exact⟨ha,by rw[xm];exact hl,vs,_,rv,ha⟩
   .have z':=(if_neg hb).symm.trans z;obtain⟨q,e,rfl⟩:=T7.mp z';exact okT _ b q (lkT b q e)
  .by_cases hb:b=a
   .exact .inl hb
   .cases e:ts.lookup b with
    |none=>exact absurd (by show(if b=a then _ else _)=_;rw[if_neg hb,e];rfl) z
    |some q=>exact .inr ⟨q,lkT b q e⟩
def walk_of{l:dQ}{n k:Nat}{q:aA}{loose:List ao}{XP:(ao->Option aj)->aL->Prop}{YP:aH->aL->Prop}{d:DefRec}{K:nk->k84}{CX:aH->CXT}{sp:aH->Sp}{x:ao}{ts:aH->List (ak×ao)}
  (hn:l.most=aa n) (hn2:n<=au) (hdf:d.params.defaults=[]) (hr:Room k gH)
  (hY:∀(w:aH)(h:aL),YP w h->(K w.params).In h/\jck (ts w) h) (hK0:∀w:aH,W.noTabs (K w.params)=af)
  (F:∀(w:aH)(mg:k87)(fa:ak)(h:aL),(K w.params).In h->h.Ns aw mg->mg d.name=aa (.ref fa) ->
   ∃fd:aN,(∀(s:aq)(u:aj),gN s fd ⟨[u],[]⟩ [(x,u)]) /\
    ∀base:aL,(K w.params).In base->base.Ns aw mg->FnOkZ ae l.prog w (K w.params) mg base (CX w) k fa fd [x] (sp w))
  (hsp:∀(w:aH)(H:Hp)(a:ak)(ns:zo),ns.length<=n->Only (ts w) H->SqL (K w.params) H a (ns.map V.int)->sp w [.ref a] H (λv H'=>v=.bl af/\∀b o,H b=aa o->H' b=aa o) λ_ _ _=>False)
  (hCX:∀(w:aH)(H:Hp)(s:aq)(e:aj)(s':aq),CX w [] H s (λ_ _ _=>False) e s'->False) :
  iH q loose XP YP l.row.toRowW d [] (λf vs=>gI f vs):=by
 refine Att.attach_call hn hdf λw s₀ s₁ mg mb fa o pm cd doc a vs ns G Y ho hd hcd hmg hobj hints hlen hg=>?_;obtain⟨KX,hT⟩:=hY w _ Y;obtain⟨fd,hb,hF⟩:=F w mg fa _ KX G.T.g hmg;exact jbe KX G.T.g G.T.b G.T.builtins G.T.nolimit G.T.bmain hT (hK0 w) hg hobj hints (Xa hlen hn2) hr hF hb (λH hO hS=>hsp w H a ns hlen hO hS) λH e s'=>hCX w H s₁ e s'
end L2
/- THE LAST THEOREM (shape;LID,My.* are yours):
 My.Adr: a structure of the addresses that your layer names (classes,functions);My.Txt K t: a structure (Prop) of the equations over K;
 My.txt_mk:{K} {implicit addresses ..} (e1:bo K aw "law"=aa (aa (.ref f))) (e2:K.lookup f=aa ⟨oc,od,.func (fnOf "law" "law" params body scope dV kV doc pm an cdv ct),sl⟩) (e3:codeIn K cdv "law"=af) ..:∃t,My.Txt K t
(the tactic k_is has no namespace: write k_is) -/
namespace L2
open PySem PySem.Spec PyProof.Rows
noncomputable def inClass(s:aU)(j:Nat):aU:=match s with
 |.ClassDef _ _ _ body _ _ _ _ _ _ _=>body.getD j (.Pass ⟨0,0,0,0⟩)
 |_=>.Pass ⟨0,0,0,0⟩
noncomputable def zm(s:aU):iW:=match s with
 |.FunctionDef _ a _ _ _ _ _ _ _ _=>a
 |_=>{ posonlyargs:=[],args:=[],vararg:=ag,kwonlyargs:=[],kw_defaults:=[],kwarg:=ag,defaults:=[] }
noncomputable def jj(s:aU):List aU:=match s with
 |.FunctionDef _ _ b _ _ _ _ _ _ _=>b
 |_=>[]
noncomputable def j0(s:aU):bJ:=match s with
 |.FunctionDef _ _ _ _ _ _ sc _ _ _=>sc
 |_=>{ kind:=.function,names:=[],isGenerator:=ae,isCoroutine:=ae }
abbrev CX0:CXT:=λ_ _ _ _ _ _=>False
abbrev E0:XK:=λ_ _ _=>False
def Vi:Wl CX0 X E0:=λ_ _ _ _ _ _ _ h=>h.elim
structure Fun(K:k84)(x qual:ao)(st:aU)(f:ak)(fd:aN):Prop where
 ex:∃(oc:aj)(od:Option ak)(dV kV doc pm:aj)(an:Option ak)(cdv ct:aj)(osl:Array (Option aj)),
  fd=W.fnOf x qual (zm st) (jj st) (j0 st) dV kV doc pm an cdv ct/\K.lookup f=aa ⟨oc,od,.func fd,osl⟩/\W.codeIn K cdv qual=af
 kp:W.keepIn K (.ref f)=af
section
variable{P:aA}{w:aH}{K:k84}{mg:k87}{base:aL}
def Fun.ok{st:aU}(F:Fun K x qual st f fd)(S:FnScope N ps (j0 st))(len:∀vs H Q E,sp vs H Q E->vs.length=ps.length)
  (hbody:∀(cdv:aj)(A:aI)(outer:List d8)(s:aq)(H:Hp)(vs:List V)(Q:VK) (E:XK),Room k (A.deeper (bM qual (j0 st) s.heap.objs.size f cdv))->sp vs H Q E ->
   ∃t,PSs (qy CX0 P w K mg base N qual (j0 st) f cdv A outer s H E).nox (jj st) t/\t { nx:=λ_ H'=>Q .non H',rt:=Q } (start N vs) H):qw P w K mg base CX0 (k+1) f fd ps sp:=by
 obtain⟨oc,od,dV,kV,doc,pm,an,cdv,ct,osl,rfl,lk,hcd⟩:=F.ex;refine j0n lk hcd S len λA outer s H vs Q E hr hsp=>?_;obtain⟨t,h,q⟩:=hbody cdv A outer s H vs Q E hr hsp;exact⟨t,h.nox,q⟩
def Fun.binds{st:aU}{kV:aj}{an:Option ak}{ps:List ao}(F:Fun K x qual st f (W.fnOf x qual (zm st) (jj st) (j0 st) .none kV doc pm an cdv ct))
  (h:∀(kV doc pm:aj)(an:Option ak)(cdv ct:aj)(us:List aj),us.length=ps.length->dX (W.fnOf x qual (zm st) (jj st) (j0 st) .none kV doc pm an cdv ct) ⟨us,[]⟩=pure (ps.zip us)):Binds K (W.fnOf x qual (zm st) (jj st) (j0 st) .none kV doc pm an cdv ct) ps []:=.all (h kV doc pm an cdv ct)
def Qg{st:aU}{od an:Option ak}{kV:aj}(l:K.lookup f=aa ⟨oc,od,.func (W.fnOf x qual (zm st) (jj st) (j0 st) dV kV doc pm an cdv ct),osl⟩)
  (c:W.codeIn K cdv qual=af) (k:W.keepIn K (.ref f)=af):Fun K x qual st f (W.fnOf x qual (zm st) (jj st) (j0 st) dV kV doc pm an cdv ct):=⟨⟨oc,od,dV,kV,doc,pm,an,cdv,ct,osl,rfl,l,c⟩,k⟩
end
def Rm{A B:Prop}(h:B):if ae=af then A else B:=by rw[if_neg xq];exact h
def Rj{B:Prop}(h:A):if af=af then A else B:=by rw[if_pos rfl];exact h
def jjf{c A B:Prop}[Decidable c](h1:c->A)(h2:¬c->B):if c then A else B:=by
 by_cases h:c
 .rw[if_pos h];exact h1 h
 .rw[if_neg h];exact h2 h
def j5(H H':Hp):Prop:=∀b o,H b=aa o->H' b=aa o
def j5.refl(H:Hp):j5 H H:=λ_ _ h=>h
def j5.trans(a:j5 H H1)(b:j5 H1 H2):j5 H H2:=λc o h=>b c o (a c o h)
def j5.free(e:j5 H H')(h:H' l=ag):H l=ag:=by
 cases q:H l with
 |none=>rfl
 |some o =>rw[e l o q]at h;cases h
def j5.seq{K:k84}{xs:List V}(e:j5 H H')(h:SqL K H a xs):SqL K H' a xs:=by
 rcases h with (h|⟨o,h⟩)|h
 .exact .inl (.inl (e _ _ h))
 .exact .inl (.inr ⟨o,e _ _ h⟩)
 .exact .inr h
set_option genInjectivity true in
inductive D where
 |non
 |bl (b:Bool)
 |int (i:Int)
 |str (x:ao)
 |tup (ds:List D)
 |lst (ds:List D)
 |dct (ks:List zo) (ds:List D)
 |sct (kvs:List (ao×Int))
 |any (S:List ao)
 |fn (x:ao) (cs:List D)
def kvI(kvs:List (ao×Int)):List (Key×V):=kvs.map λp=>(.inr p.1,.int p.2)
def Nx(x:ao):ao:=x ++ ".<locals>." ++ "<lambda>"
abbrev Tx:=iW×ar×bJ
noncomputable def jqf:ar->Option Tx
 |.Lambda a b sc _=>aa (a,b,sc)
 |.Call _ es _ _=>match es.getLast? with
  |some (.Lambda a b sc _)=>aa (a,b,sc)
  |_=>ag
 |_=>ag
noncomputable def jqe(b:List aU):Option Tx:=match b.getLast? with
 |some (.Return (aa e) _)=>jqf e
 |_=>ag
noncomputable def jna(K:k84)(x:ao):Option Tx:=match W.nsIn K aw x with
 |some (aa (.ref f))=>match K.lookup f with
  |some ⟨_,_,.func fd,_⟩=>match fd.body with
   |.stmts b=>jqe b
   |_=>ag
  |_=>ag
 |_=>ag
noncomputable def j0m(sc:bJ):List ao:=((sc.names.filter λp=>p.2==.free).map (·.1)).reverse
def Zk(H:Hp):List ak->List V->Prop
 |[],vs=>vs=[]
 |c::cs,vs=>∃v r o u,vs=v::r/\H c=aa (.frz o (.own 0))/\o.data=.cell (aa u)/\RelV v u/\Zk H cs r
theorem Zk.mono(g:j5 H H'):∀{cs:List ak}{vs:List V},Zk H cs vs->Zk H' cs vs
 |[],_,h=>h
 |_::_,_,⟨v,r,o,u,e,h,d,rv,l⟩=>⟨v,r,o,u,e,g _ _ h,d,rv,l.mono g⟩
structure LamAt(K:k84)(H:Hp)(x:ao)(a c:ak)(t:Tx)(cl:List (ao×ak))(vs:List V):Prop where
 tx:jna K x=aa t
 fo:∃pm ctv,H a=aa (.frz (W.kla_obj "<lambda>" (Nx x) t.1 t.2.1 t.2.2 cl pm c ctv) (.own 0))
 co:∃oc,H c=aa (.frz oc (.own 0))/\j6q oc (Nx x)
 nm:cl.map (·.1)=j0m t.2.2
 nd:(cl.map (·.2)).Nodup
 cs:Zk H (cl.map (·.2)) vs
theorem LamAt.mono{K:k84}{tx:Tx}(g:j5 H H')(h:LamAt K H x a c tx cl vs):LamAt K H' x a c tx cl vs :=
 ⟨h.tx,let ⟨pm,ctv,e⟩:=h.fo;⟨pm,ctv,g _ _ e⟩,let ⟨oc,e,q⟩:=h.co;⟨oc,g _ _ e,q⟩,h.nm,h.nd,h.cs.mono g⟩
def del(H:Hp)(A:List ak):Hp:=λb=>if b∈A then ag else H b
section
variable{H H' F:Hp}{A A':List ak}{a b:ak}{o:HO}
def J0(h:b∈A):del H A b=ag:=if_pos h
def jd(h:b∉A):del H A b=H b:=if_neg h
def qb(h:del H A b=aa o):b∉A/\H b=aa o:=by
 by_cases e:b∈A
 .rw[J0 e]at h;cases h
 .rw[jd e]at h;exact⟨e,h⟩
def jq(g:j5 H H'):j5 (del H A) (del H' A):=λb o h=>by obtain⟨n,e⟩:=qb h;rw[jd n];exact g b o e
end
def j5.seqT{K:k84}{xs:List V}(e:j5 H H')(h:SqT K H a xs):SqT K H' a xs:=by
 rcases h with (h|⟨o,h⟩)|h
 .exact .inl (.inl (e _ _ h))
 .exact .inl (.inr ⟨o,e _ _ h⟩)
 .exact .inr h
mutual
def Enc(K:k84)(H:Hp):D->V->Prop
 |.non,v=>v=.non
 |.bl b,v=>v=.bl b
 |.int i,v=>v=.int i
 |.str x,v=>v=.str x
 |.tup ds,v=>∃a xs,v=.ref a/\SqT K H a xs/\j6 K H ds xs
 |.lst ds,v=>∃a xs,v=.ref a/\SqL K H a xs/\j6 K H ds xs
 |.dct ks ds,v=>∃(a:ak)(xs:List (zo×ak×aj)) (ep:Nat) (vs:List V),v=.ref a/\H a=aa (.dI xs ep)/\ks=(xs.map λx=>x.1)/\(∀x∈xs,SqT K H x.2.1 (x.1.map V.int))/\Vals vs (xs.map λx=>x.2.2)/\j6 K H ds vs
 |.sct kvs,v=>∃a:ak,v=.ref a/\H a=aa (.dK (kvI kvs))
 |.any S,v=>∃y∈S,v=.str y
 |.fn x ds,v=>∃(a c:ak)(tx:Tx)(cl:List (ao×ak)) (vs:List V),v=.ref a/\LamAt K H x a c tx cl vs/\j6 K (del H (cl.map (·.2))) ds vs
def j6(K:k84)(H:Hp):List D->List V->Prop
 |[],xs=>xs=[]
 |d::ds,xs=>∃x r,xs=x::r/\Enc K H d x/\j6 K H ds r
end
mutual
theorem Enc.mono{K:k84}{H H':Hp}(g:j5 H H'):∀{d:D}{v:V},Enc K H d v->Enc K H' d v
 |.non,_,h=>h
 |.bl _,_,h=>h
 |.int _,_,h=>h
 |.str _,_,h=>h
 |.tup _,_,⟨a,xs,e,q,l⟩=>⟨a,xs,e,g.seqT q,j6.mono g l⟩
 |.lst _,_,⟨a,xs,e,q,l⟩=>⟨a,xs,e,g.seq q,j6.mono g l⟩
 |.dct _ _,_,⟨a,xs,ep,vs,e,q,ek,kt,rv,l⟩=>⟨a,xs,ep,vs,e,g _ _ q,ek,λx hx=>g.seqT (kt x hx),rv,j6.mono g l⟩
 |.sct _,_,⟨a,e,q⟩=>⟨a,e,g _ _ q⟩
 |.any _,_,h=>h
 |.fn _ _,_,⟨a,c,tx,cl,vs,e,q,l⟩=>⟨a,c,tx,cl,vs,e,q.mono g,j6.mono (jq g) l⟩
theorem j6.mono{K:k84}{H H':Hp}(g:j5 H H'):∀{ds:List D}{xs:List V},j6 K H ds xs->j6 K H' ds xs
 |[],_,h=>h
 |_::_,_,⟨x,r,e,h,l⟩=>⟨x,r,e,Enc.mono g h,j6.mono g l⟩
end
section
variable{K:k84}{H H':Hp}{ds ds':List D}{xs ys:List V}
theorem j6.length:∀{ds:List D}{xs:List V},j6 K H ds xs->xs.length=ds.length
 |[],_,h=>by cases h;rfl
 |_::_,_,⟨x,r,e,_,l⟩=>by subst e;simp[j6.length l]
theorem j6.get:∀{ds:List D}{xs:List V}{i:Nat}{d:D},j6 K H ds xs->ds[i]?=aa d->∃x,xs[i]?=aa x/\Enc K H d x
 |[],_,i,d,_,e=>by simp at e
 |_::_,_,0,d,⟨x,r,e,h,_⟩,q=>by subst e;simp at q;subst q;exact⟨x,rfl,h⟩
 |_::_,_,i+1,d,⟨x,r,e,_,l⟩,q=>by subst e;simp at q;obtain⟨y,hy,hd⟩:=j6.get l q;exact⟨y,by simpa using hy,hd⟩
theorem j6.append:∀{ds ds':List D}{xs ys:List V},j6 K H ds xs->j6 K H ds' ys->j6 K H (ds++ds') (xs++ys)
 |[],_,_,_,h,h'=>by cases h;exact h'
 |_::_,_,_,_,⟨x,r,e,h,l⟩,h'=>by subst e;exact⟨x,_,rfl,h,j6.append l h'⟩
def j6.one(h:Enc K H d x):j6 K H [d] [x]:=⟨x,[],rfl,h,rfl⟩
theorem j6.take:∀{ds:List D}{xs:List V}(n:Nat),j6 K H ds xs->j6 K H (ds.take n) (xs.take n)
 |[],_,n,h=>by cases h;simp;exact rfl
 |_::_,_,0,⟨x,r,e,h,l⟩=>by simp;exact rfl
 |_::_,_,n+1,⟨x,r,e,h,l⟩=>by subst e;exact⟨x,_,rfl,h,j6.take n l⟩
theorem j6.drop:∀{ds:List D}{xs:List V}(n:Nat),j6 K H ds xs->j6 K H (ds.drop n) (xs.drop n)
 |[],_,n,h=>by cases h;simp;exact rfl
 |_::_,_,0,h=>h
 |_::_,_,n+1,⟨x,r,e,h,l⟩=>by subst e;exact j6.drop n l
theorem j6.rep{xs:List V}(h:j6 K H ds xs):∀k:Nat,j6 K H (ax k ds).flatten (ax k xs).flatten
 |0=>rfl
 |k+1=>by rw[T4,T4,Tt,Tt];exact h.append (j6.rep h k)
def j6.ints(ns:zo):j6 K H (ns.map D.int) (ns.map V.int):=by
 induction ns with
 |nil=>exact rfl
 |cons n ns ih=>exact⟨_,_,rfl,rfl,ih⟩
end
section
variable{H H' F:Hp}{A A':List ak}{a b:ak}{o:HO}
def J3:del H []=H:=funext λb=>if_neg (by simp)
def jr:j5 (del H A) H:=λ_ _ h=>(qb h).2
def zb(h:∀b,b∈A'->b∈A):j5 (del H A) (del H A'):=λb o e=>by obtain⟨n,e⟩:=qb e;rw[jd λz=>n (h b z)];exact e
def Yp(h:a∈A):del (upd H a o) A=del H A:=funext λb=>by
 by_cases e:b∈A
 .rw[J0 e,J0 e]
 .rw[jd e,jd e,jf];rintro rfl;exact e h
def mrg(A:List ak)(H F:Hp):Hp:=λb=>if b∈A then H b else F b
def Qe(h:b∈A):mrg A H F b=H b:=if_pos h
def qx(h:b∉A):mrg A H F b=F b:=if_neg h
def Zh(h:∀a∈A,F a=ag):del (mrg A H F) A=F:=funext λb=>by
 by_cases e:b∈A
 .rw[J0 e,h b e]
 .rw[jd e,qx e]
def j1e(g:j5 (del H A) F):j5 H (mrg A H F):=λb o e=>by
 by_cases z:b∈A
 .rw[Qe z];exact e
 .rw[qx z];exact g b o (by rw[jd z];exact e)
def je(h:H a=ag):j5 H (upd H a o):=λb u q=>by rw[jf (zf q h)];exact q
end
def Hd(o:Option HO):Prop:=(∃xs,o=aa (.lst xs))\/∃xs ep,o=aa (.dI xs ep)
def Hq(o:Option HO):Prop:=(∃xs,o=aa (.lst xs))\/(∃xs ep,o=aa (.dI xs ep))\/∃kvs,o=aa (.dK kvs)
def Hd.q{o:Option HO}(h:Hd o):Hq o:=h.elim .inl λh=>.inr (.inl h)
section
variable{X:Cx}{pins:k86}{I σ':St}{H F:Hp}{s s':aq}{A:List ak}
def Inv.noFs(nI:Inv X pins I H s)(hb:b∈X.fs):H b=ag:=by
 have q:b∈frs X.stack:=by
  rcases nI.ok.stk with e|⟨e,_⟩
  .rw[e];exact hb
  .rw[e];have hb:b∈frs X.outer:=hb;unfold frs at hb ⊢;rw[cC];split
   .exact hb
   .exact kh _ hb
 exact nI.stkFree b q
def Inv.hideQ(nI:Inv X pins I H s)(hA:∀a∈A,Hq (H a)):Inv X (pins++Zq A s.heap) I (del H A) s where
 ok:=nI.ok
 os:=nI.os
 bare:=nI.bare
 base:={
  keep:=nI.base.keep
  slot:=nI.base.slot
  free:=λb o e n hx=>by
   have q:=nI.base.free b o e n hx
   by_cases z:b∈A
   .exact J0 z
   .rw[jd z];exact q
  there:=nI.base.there
  tups:=λb xs e=>by
   have q:=nI.base.tups b xs e
   rw[jd];exact q
   intro z;rcases hA b z with ⟨ys,e'⟩|⟨ys,ep,e'⟩|⟨ys,e'⟩<;>(rw[q]at e';cases e')
  frzs:=λb o u e=>by
   have q:=nI.base.frzs b o u e
   rw[jd];exact q
   intro z;rcases hA b z with ⟨ys,e'⟩|⟨ys,ep,e'⟩|⟨ys,e'⟩<;>(rw[q]at e';cases e')
  tbls:=λb ps e=>by
   obtain⟨more,q⟩:=nI.base.tbls b ps e
   refine⟨more,?_⟩
   rw[jd];exact q
   intro z;rcases hA b z with ⟨ys,e'⟩|⟨ys,ep,e'⟩|⟨ys,e'⟩<;>(rw[q]at e';cases e') }
 loc:=nI.loc
 cell:=nI.cell
 free:=by
  by_cases z:X.env.locals∈A
  .exact J0 z
  .rw[jd z];exact nI.free
 freeC:=λx c e=>by
  by_cases z:c∈A
  .exact J0 z
  .rw[jd z];exact nI.freeC x c e
 pin:=λp hp=>by
  rw[<-Xg]at hp;rcases X8.mp hp with hp|hp
  .obtain⟨h1,h2,h3⟩:=nI.pin p hp;refine⟨h1,?_,h3⟩;by_cases z:p.1∈A
   .exact J0 z
   .rw[jd z];exact h2
  .obtain⟨h1,h2⟩:=Eb hp;rcases hA _ h1 with ⟨xs,e⟩|⟨xs,ep,e⟩|⟨xs,e⟩
   .refine⟨h2,J0 h1,λz=>?_,λz=>?_,λv z=>?_⟩
    .rw[z,nI.free]at e;cases e
    .rw[nI.noFs z]at e;cases e
    .obtain⟨_,its,n,_,q⟩:=(show ql X.prog X.w H s.heap p.1 (.lst xs)from nI.hok _ _ e)
     rw[h2]at q;rw[aJ q]at z;cases z
   .refine⟨h2,J0 h1,λz=>?_,λz=>?_,λv z=>?_⟩
    .rw[z,nI.free]at e;cases e
    .rw[nI.noFs z]at e;cases e
    .obtain⟨_,_,_,ob,es,q,_,qd,_⟩:=(show ql X.prog X.w H s.heap p.1 (.dI xs ep)from nI.hok _ _ e)
     rw[h2]at q;rw[aJ q,qd]at z;cases z
   .refine⟨h2,J0 h1,λz=>?_,λz=>?_,λv z=>?_⟩
    .rw[z,nI.free]at e;cases e
    .rw[nI.noFs z]at e;cases e
    .obtain⟨_,_,vs,_,ob,es,ep,q,_,qd,_⟩:=(show ql X.prog X.w H s.heap p.1 (.dK xs)from nI.hok _ _ e)
     rw[h2]at q;rw[aJ q,qd]at z;cases z
 hok:=λa o e=>by
  obtain⟨n,e⟩:=qb e;refine ql.stay (nI.hok a o e) (λb u _ q=>q) (λb q=>?_) (λb xs q=>?_) (λb _ _ q=>?_)
  .rw[jd];exact q;intro z;rcases hA b z with ⟨ys,e'⟩|⟨ys,ep,e'⟩|⟨ys,e'⟩<;>(rw[q]at e';cases e')
  .rw[jd];exact q;intro z;rcases hA b z with ⟨ys,e'⟩|⟨ys,ep,e'⟩|⟨ys,e'⟩<;>(rw[q]at e';cases e')
  .rw[jd];exact q;intro z;rcases hA b z with ⟨ys,e'⟩|⟨ys,ep,e'⟩|⟨ys,e'⟩<;>(rw[q]at e';cases e')
 len:=nI.len
def Inv.unhideQ(I0:Inv X pins I H s)(hA:∀a∈A,Hq (H a))(nI:Inv X (pins++Zq A s.heap) σ' F s') :
  (∀a∈A,F a=ag)/\Inv X pins σ' (mrg A H F) s':=by
 have pinned:∀a∈A,∃o,s.heap.get? a=aa o/\s'.heap.get? a=aa o/\F a=ag:=λa ha=>by
  have ob:∃o,s.heap.get? a=aa o:=by
   rcases hA a ha with ⟨xs,e⟩|⟨xs,ep,e⟩|⟨xs,e⟩
   .obtain⟨_,its,n,_,q⟩:=(show ql X.prog X.w H s.heap a (.lst xs)from I0.hok _ _ e)
    exact⟨_,q⟩
   .obtain⟨_,_,_,o,es,q,_⟩:=(show ql X.prog X.w H s.heap a (.dI xs ep)from I0.hok _ _ e)
    exact⟨_,q⟩
   .obtain⟨_,_,_,_,o,es,ep,q,_⟩:=(show ql X.prog X.w H s.heap a (.dK xs)from I0.hok _ _ e)
    exact⟨_,q⟩
  obtain⟨o,q⟩:=ob;obtain⟨h1,h2,_⟩:=nI.pin (a,_) (Xj _ (Xj _ (Zv ha q)));exact⟨_,q,h1,h2⟩
 have hF:∀a∈A,F a=ag:=λa ha=>let ⟨_,_,_,q⟩:=pinned a ha;q;have out:∀{b:ak}{o:HO},F b=aa o->b∉A:=λ{b o} e z=>by rw[hF b z]at e;cases e
 refine⟨hF,?_⟩;exact{
  ok:=nI.ok
  os:=nI.os
  bare:=nI.bare
  base:={
   keep:=nI.base.keep
   slot:=nI.base.slot
   free:=λb o e n hx=>by
    by_cases z:b∈A
    .rw[Qe z];exact I0.base.free b o e n hx
    .rw[qx z];exact nI.base.free b o e n hx
   there:=nI.base.there
   tups:=λb xs e=>by
    have q:=nI.base.tups b xs e
    rw[qx (out q)];exact q
   frzs:=λb o u e=>by
    have q:=nI.base.frzs b o u e
    rw[qx (out q)];exact q
   tbls:=λb ps e=>by
    obtain⟨more,q⟩:=nI.base.tbls b ps e
    exact⟨more,by rw[qx (out q)];exact q⟩ }
  loc:=nI.loc
  cell:=nI.cell
  free:=by
   by_cases z:X.env.locals∈A
   .rw[Qe z];exact I0.free
   .rw[qx z];exact nI.free
  freeC:=λx c e=>by
   by_cases z:c∈A
   .rw[Qe z];exact I0.freeC x c e
   .rw[qx z];exact nI.freeC x c e
  pin:=λp hp=>by
   obtain⟨h1,h2,h3⟩:=nI.pin p (by rw[<-Xg];exact Pu _ hp)
   refine⟨h1,?_,h3⟩
   by_cases z:p.1∈A
   .rw[Qe z];exact(I0.pin p hp).2.1
   .rw[qx z];exact h2
  hok:=λa o e=>by
   by_cases z:a∈A
   .rw[Qe z]at e
    obtain⟨o',q1,q2,_⟩:=pinned a z
    rcases hA a z with ⟨xs,e'⟩|⟨xs,ep,e'⟩|⟨xs,e'⟩
    .rw[e']at e;cases e
     obtain⟨hl,its,n,r,q⟩:=(show ql X.prog X.w H s.heap a (.lst xs)from I0.hok _ _ e')
     rw[q]at q1;cases q1
     exact⟨hl,its,n,r,q2⟩
    .rw[e']at e;cases e
     obtain⟨z1,z2,z3,ob,es,q,z4⟩:=(show ql X.prog X.w H s.heap a (.dI xs ep)from I0.hok _ _ e')
     rw[q]at q1;cases q1
     exact⟨z1,z2,z3,_,es,q2,z4⟩
    .rw[e']at e;cases e
     obtain⟨z1,z2,vs,z3,ob,es,ep,q,z4⟩:=(show ql X.prog X.w H s.heap a (.dK xs)from I0.hok _ _ e')
     rw[q]at q1;cases q1
     exact⟨z1,z2,vs,z3,_,es,ep,q2,z4⟩
   .rw[qx z]at e
    refine ql.stay (nI.hok a o e) (λb u _ q=>q) (λb q=>?_) (λb xs q=>?_) (λb _ _ q=>?_)
    .rw[qx (out q)];exact q
    .rw[qx (out q)];exact q
    .rw[qx (out q)];exact q
  len:=nI.len }
def Inv.hide(nI:Inv X pins I H s)(hA:∀a∈A,Hd (H a)):Inv X (pins++Zq A s.heap) I (del H A) s:=nI.hideQ λa h=>(hA a h).q
def Inv.unhide(I0:Inv X pins I H s)(hA:∀a∈A,Hd (H a))(nI:Inv X (pins++Zq A s.heap) σ' F s'):(∀a∈A,F a=ag)/\Inv X pins σ' (mrg A H F) s':=I0.unhideQ (λa h=>(hA a h).q) nI
end
def Jq(X:Cx)(e:ar):TE:=λI H Q=>∀pins s,Inv X pins I H s->ay (aB X.prog X.w) X.A (aD e X.env) (EP X pins I Q) X.xe s
def jag(X:Cx)(e:ar):TT:=λI H Q=>∀pins s,Inv X pins I H s->ay (aB X.prog X.w) X.A (fg e X.env (aD e X.env)) (TP X pins I Q) X.xe s
def Wy(X:Cx)(es:List ar):TA:=λI H Q=>∀pos pins s,Inv X pins I H s->ay (aB X.prog X.w) X.A (ia (aS pos (ah es X.env))) (AP X pins I Q) X.xe s
def jah(X:Cx)(st:aU):TS:=λD I H=>∀pins s,Inv X pins I H s->ay (aB X.prog X.w) X.A (exec st X.env) (SP X pins D) X.xe s
def Zo(X:Cx)(sts:List aU):TS:=λD I H=>∀pins s,Inv X pins I H s->ay (aB X.prog X.w) X.A (execs sts X.env) (SP X pins D) X.xe s
def jai(X:Cx)(tg iter:ar):TI:=λI H R=>∀pins s,Inv X pins I H s ->
 ay (aB X.prog X.w) X.A (aD iter X.env) (λv s1=>ay (aB X.prog X.w) X.A (kF v) (PIE X pins I tg R) X.xe s1) X.xe s
section
variable{X:Cx}{e tg:ar}{es:List ar}{st:aU}{sts:List aU}{I:St}{H:Hp}
def peS:PE X e (Jq X e):=λpins s _ _ _ nI h=>h pins s nI
def ptS:PT X e (jag X e):=λpins s _ _ _ nI h=>h pins s nI
def paS:PA X es (Wy X es):=λpos pins s _ _ _ nI h=>h pos pins s nI
def psS:PS X st (jah X st):=λpins s _ _ _ nI h=>h pins s nI
def vg:PSs X sts (Zo X sts):=λpins s _ _ _ nI h=>h pins s nI
def piS:PI X tg e (jai X tg e):=λpins s _ _ _ nI h=>h pins s nI
def PE.to(h:PE X e t)(q:t I H Q):Jq X e I H Q:=λpins s nI=>h pins s I H Q nI q
def PT.to(h:PT X e t)(q:t I H Q):jag X e I H Q:=λpins s nI=>h pins s I H Q nI q
def PA.to(h:PA X es t)(q:t I H Q):Wy X es I H Q:=λpos pins s nI=>h pos pins s I H Q nI q
def PS.to(h:PS X st t){D:Ends}(q:t D I H):jah X st D I H:=λpins s nI=>h pins s I H D nI q
def PSs.to(h:PSs X sts t){D:Ends}(q:t D I H):Zo X sts D I H:=λpins s nI=>h pins s I H D nI q
def PI.to(h:PI X tg e t)(q:t I H R):jai X tg e I H R:=λpins s nI=>h pins s I H R nI q
end
inductive Sl where
 |un
 |val (d:D)
 |own (a:ak) (ds:List D)
 |raw (a:ak) (o:cT) (x:ao)
abbrev Rho:=List Sl
noncomputable def Sl.addr:Sl->Option ak
 |.own a _=>aa a
 |_=>ag
noncomputable def owns(J:Rho):List ak:=J.filterMap Sl.addr
def Jr{J:Rho}{i:Nat}{a:ak}{ds:List D}(h:J[i]?=aa (.own a ds)):a∈owns J:=Tc.mpr ⟨_,Pg h,rfl⟩
def Vj(h:a∈owns J):∃(i:Nat)(ds:List D),J[i]?=aa (.own a ds):=by
 obtain⟨s,hs,e⟩:=Tc.mp h;obtain⟨i,hi⟩:=List.mem_iff_getElem?.mp hs;cases s with
 |own b ds=>cases e;exact⟨i,ds,hi⟩
 |un=>cases e
 |val d=>cases e
 |raw b o x=>cases e
def jy(s:Sl)(J:Rho):owns (s::J)=(match s.addr with|some a=>a::owns J|none=>owns J):=by unfold owns;rw[cC];cases s.addr<;>rfl
theorem j7{s:Sl}(hs:s.addr=ag):∀{J:Rho}{i:Nat},(owns (J.set i s)).Sublist (owns J)
 |[],_=>List.Sublist.refl _
 |x::r,0=>by
  rw[cL,jy,jy,hs];cases x.addr with
  |none=>exact List.Sublist.refl _
  |some a=>exact List.sublist_cons_self _ _
 |x::r,i+1=>by
  rw[dw,jy,jy];have ih:=j7 hs (J:=r) (i:=i);cases x.addr with
  |none=>exact ih
  |some a=>exact ih.cons_cons a
theorem Z4:∀{J:Rho}{i:Nat},J[i]?=aa (.own a ds)->owns (J.set i (.own a ds'))=owns J
 |[],_,h=>by simp at h
 |x::r,0,h=>by simp at h;subst h;rw[cL,jy,jy];rfl
 |x::r,i+1,h=>by simp at h;rw[dw,jy,jy,Z4 h]
theorem Bv{s:Sl}(hs:s.addr=ag):∀{J:Rho}{i:Nat},(∀a l,J[i]?≠aa (.own a l))->owns (J.set i s)=owns J
 |[],_,_=>rfl
 |x::r,0,h=>by
  rw[cL,jy,jy,hs];cases x with
  |own a l=>exact absurd rfl (h a l)
  |un=>rfl
  |val d=>rfl
  |raw a o x=>rfl
 |x::r,i+1,h=>by rw[dw,jy,jy,Bv hs (λa l=>by simpa using h a l)]
theorem Jm:∀{J:Rho}{i:Nat},(owns J).Nodup->a∉owns J->(owns (J.set i (.own a ds))).Nodup/\∀b∈owns (J.set i (.own a ds)),b=a\/b∈owns J
 |[],_,n,_=>⟨n,λb hb=>.inr hb⟩
 |x::r,0,n,h=>by
  rw[cL,jy];rw[jy]at n h;have e:(Sl.own a ds).addr=aa a:=rfl;rw[e];cases q:x.addr with
  |none =>rw[q]at n h;exact⟨Xy.mpr ⟨h,n⟩,λb hb=>(xj.mp hb).elim .inl λz=>.inr (by rw[jy,q];exact z)⟩
  |some c =>rw[q]at n h;exact⟨Xy.mpr ⟨λz=>h (kh _ z),(Xy.mp n).2⟩,λb hb=>(xj.mp hb).elim .inl λz=>.inr (by rw[jy,q];exact kh _ z)⟩
 |x::r,i+1,n,h=>by
  rw[dw,jy];rw[jy]at n h;cases q:x.addr with
  |none =>rw[q]at n h;obtain⟨i1,i2⟩:=Jm (ds:=ds) (i:=i) n h;exact⟨i1,λb hb=>(i2 b hb).elim .inl λz=>.inr (by rw[jy,q];exact z)⟩
  |some c =>
   rw[q]at n h;obtain⟨n1,n2⟩:=Xy.mp n;obtain⟨i1,i2⟩:=Jm (ds:=ds) (i:=i) n2 (λz=>h (kh _ z));refine⟨Xy.mpr ⟨λz=>?_,i1⟩,λb hb=>?_⟩
   .rcases i2 c z with e|z
    .subst e;exact h (km ..)
    .exact n1 z
   .rcases xj.mp hb with e|z
    .exact .inr (by rw[jy,q];exact e▸km ..)
    .exact(i2 b z).elim .inl λz=>.inr (by rw[jy,q];exact kh _ z)
theorem Yz:∀{J:Rho}{i j:Nat},(owns J).Nodup->J[i]?=aa (.own a l)->J[j]?=aa (.own a l')->i=j
 |[],i,_,_,h,_=>by simp at h
 |x::r,0,0,_,_,_=>rfl
 |x::r,0,j+1,n,h,h'=>by simp at h h';subst h;rw[jy]at n;exact absurd (Jr h') (Xy.mp n).1
 |x::r,i+1,0,n,h,h'=>by simp at h h';subst h';rw[jy]at n;exact absurd (Jr h) (Xy.mp n).1
 |x::r,i+1,j+1,n,h,h'=>by
  simp at h h';have n':(owns r).Nodup:=by
   rw[jy]at n;cases q:x.addr with
   |none=>rw[q]at n;exact n
   |some c=>rw[q]at n;exact(Xy.mp n).2
  rw[Yz n' h h']
def j62:List ao:=["worst_cost_of_ask","least_numbers","whole_cost_of_ask","round_numbers"]
def TabOk(K:k84)(H:Hp):Prop:=∀x∈j62,∀c P,W.tabIn K x=aa (c,P)->H P=aa (.cod (Nx x))
section
variable{K:k84}{H H':Hp}
def TabOk.mono(h:TabOk K H)(g:j5 H H'):TabOk K H':=λx hx c P e=>g _ _ (h x hx c P e)
theorem TabOk.upd(h:TabOk K H)(e:H a=aa u)(n:∀q,u≠.cod q):TabOk K (upd H a o):=λx hx c P z=>by have q:=h x hx c P z;rw[jf];exact q;intro y;subst y;rw[e]at q;exact n _ (aJ q)
theorem TabOk.del(h:TabOk K H)(hA:∀a∈A,∃xs,H a=aa (.lst xs)):TabOk K (del H A):=λx hx c P z=>by have q:=h x hx c P z;rw[jd];exact q;intro y;obtain⟨xs,e⟩:=hA _ y;rw[q]at e;cases e
end
def rfN:ao:="@"
def j0r(K:k84)(F:Hp)(a:ak)(o:cT)(x:ao):Prop:=x=rfN\/(F a=aa (.frz o (.own a))/\W.nsIn K aw x=aa (aa o.cls))
def j0r.mono{K:k84}(h:j0r K F a o x)(g:j5 F F'):j0r K F' a o x:=h.elim .inl λh=>.inr ⟨g _ _ h.1,h.2⟩
structure Rep(K:k84)(J:Rho)(I:St)(H:Hp):Prop where
 len:I.length=J.length
 val:∀(i:Nat)(d:D),J[i]?=aa (.val d)->∃v,I[i]?=aa (aa v)/\Enc K (del H (owns J)) d v
 own:∀(i:Nat)(a:ak)(ds:List D),J[i]?=aa (.own a ds)->I[i]?=aa (aa (.ref a))/\∃xs,H a=aa (.lst xs)/\j6 K (del H (owns J)) ds xs
 nd:(owns J).Nodup
 raw:∀(i:Nat)(a:ak)(o:cT)(x:ao),J[i]?=aa (.raw a o x)->I[i]?=aa (aa (.ref a))/\j0r K (del H (owns J)) a o x
 tb:TabOk K H
section
variable{K:k84}{J J':Rho}{I:St}{H H':Hp}{i:Nat}{d:D}{v:V}{a:ak}{ds ds':List D}{xs:List V}
def Rep.owned(R:Rep K J I H):∀a∈owns J,∃xs,H a=aa (.lst xs):=λa h=>by obtain⟨i,ds,e⟩:=Vj h;obtain⟨_,xs,q,_⟩:=R.own i a ds e;exact⟨xs,q⟩
def Rep.fresh(R:Rep K J I H)(h:H a=ag):a∉owns J:=λz=>by obtain⟨xs,e⟩:=R.owned a z;rw[h]at e;cases e
def Rep.grow(R:Rep K J I H)(g:j5 H H'):Rep K J I H' :=
 ⟨R.len,λi d e=>let ⟨v,q,h⟩:=R.val i d e;⟨v,q,h.mono (jq g)⟩,λi a ds e=>let ⟨q,xs,h,l⟩:=R.own i a ds e;⟨q,xs,g _ _ h,l.mono (jq g)⟩,R.nd,λi a o x e=>let ⟨q,h⟩:=R.raw i a o x e;⟨q,h.mono (jq g)⟩,R.tb.mono g⟩
def getElem?_set_of{α:Type}{l:List α}{x y:α}(h:(l.set i x)[j]?=aa y):(i=j/\y=x/\i<l.length)\/(i≠j/\l[j]?=aa y):=by
 rw[dO]at h;split at h
 .rename_i e;subst e;split at h
  .rename_i z;cases h;exact .inl ⟨rfl,rfl,z⟩
  .cases h
 .rename_i e;exact .inr ⟨e,h⟩
def Zn{α:Type}{l:List α}{x:α}(h:i<l.length):(l.set i x)[i]?=aa x:=by simp[h]
def zq{α:Type}{l:List α}{x:α}(h:i≠j):(l.set i x)[j]?=l[j]?:=by simp[h]
def Rep.set_val(R:Rep K J I H)(e:Enc K (del H (owns J)) d v):Rep K (J.set i (.val d)) (I.set i (aa v)) H:=by
 have sub:(owns (J.set i (.val d))).Sublist (owns J):=j7 rfl;have g:j5 (del H (owns J)) (del H (owns (J.set i (.val d)))):=zb λb hb=>sub.subset hb;refine⟨by simp[R.len],λj d' h=>?_,λj a ds h=>?_,sub.nodup R.nd,λj a o x h=>?_,R.tb⟩
 .rcases getElem?_set_of h with ⟨rfl,z,hl⟩|⟨n,h⟩
  .cases z;exact⟨v,Zn (by rw[R.len];exact hl),e.mono g⟩
  .obtain⟨u,q,h⟩:=R.val j d' h;exact⟨u,by rw[zq n];exact q,h.mono g⟩
 .rcases getElem?_set_of h with ⟨rfl,z,_⟩|⟨n,h⟩
  .cases z
  .obtain⟨q,xs,h,l⟩:=R.own j a ds h;exact⟨by rw[zq n];exact q,xs,h,l.mono g⟩
 .rcases getElem?_set_of h with ⟨rfl,z,_⟩|⟨n,h⟩
  .cases z
  .obtain⟨q,h⟩:=R.raw j a o x h;exact⟨by rw[zq n];exact q,h.mono g⟩
def Rep.set_un{v:Option V}(R:Rep K J I H):Rep K (J.set i .un) (I.set i v) H:=by
 have sub:(owns (J.set i .un)).Sublist (owns J):=j7 rfl;have g:j5 (del H (owns J)) (del H (owns (J.set i .un))):=zb λb hb=>sub.subset hb;refine⟨by simp[R.len],λj d' h=>?_,λj a ds h=>?_,sub.nodup R.nd,λj a o x h=>?_,R.tb⟩
 .rcases getElem?_set_of h with ⟨rfl,z,hl⟩|⟨n,h⟩
  .cases z
  .obtain⟨u,q,h⟩:=R.val j d' h;exact⟨u,by rw[zq n];exact q,h.mono g⟩
 .rcases getElem?_set_of h with ⟨rfl,z,_⟩|⟨n,h⟩
  .cases z
  .obtain⟨q,xs,h,l⟩:=R.own j a ds h;exact⟨by rw[zq n];exact q,xs,h,l.mono g⟩
 .rcases getElem?_set_of h with ⟨rfl,z,_⟩|⟨n,h⟩
  .cases z
  .obtain⟨q,h⟩:=R.raw j a o x h;exact⟨by rw[zq n];exact q,h.mono g⟩
def Rep.set_own(R:Rep K J I H)(g:j5 H H')(ha:H a=ag)(e:H' a=aa (.lst xs))(l:j6 K (del H' (a::owns J)) ds xs):Rep K (J.set i (.own a ds)) (I.set i (aa (.ref a))) H':=by
 have na:=R.fresh ha;obtain⟨nd,sub⟩:=Jm (ds:=ds) (i:=i) R.nd na;have g1:j5 (del H' (a::owns J)) (del H' (owns (J.set i (.own a ds)))):=zb λb hb=>by
  rcases sub b hb with e|z
  .exact e▸km ..
  .exact kh _ z
 have g2:j5 (del H (owns J)) (del H' (a::owns J)):=λb o q=>by
  obtain⟨n,q⟩:=qb q;rw[jd];exact g b o q;intro z;rcases xj.mp z with e|z
  .subst e;rw[ha]at q;cases q
  .exact n z
 refine⟨by simp[R.len],λj d' h=>?_,λj b ds' h=>?_,nd,λj b o x h=>?_,R.tb.mono g⟩
 .rcases getElem?_set_of h with ⟨rfl,z,hl⟩|⟨n,h⟩
  .cases z
  .obtain⟨u,q,h⟩:=R.val j d' h;exact⟨u,by rw[zq n];exact q,h.mono (g2.trans g1)⟩
 .rcases getElem?_set_of h with ⟨rfl,z,hl⟩|⟨n,h⟩
  .cases z;exact⟨Zn (by rw[R.len];exact hl),xs,e,l.mono g1⟩
  .obtain⟨q,ys,h,l⟩:=R.own j b ds' h;exact⟨by rw[zq n];exact q,ys,g _ _ h,l.mono (g2.trans g1)⟩
 .rcases getElem?_set_of h with ⟨rfl,z,hl⟩|⟨n,h⟩
  .cases z
  .obtain⟨q,h⟩:=R.raw j b o x h;exact⟨by rw[zq n];exact q,h.mono (g2.trans g1)⟩
def Rep.upd_own(R:Rep K J I H)(h:J[i]?=aa (.own a ds))(l:j6 K (del H (owns J)) ds' xs):Rep K (J.set i (.own a ds')) I (upd H a (.lst xs)):=by
 have eo:owns (J.set i (.own a ds'))=owns J:=Z4 h;have ed:del (upd H a (.lst xs)) (owns J)=del H (owns J):=Yp (Jr h);refine⟨by simp[R.len],λj d' q=>?_,λj b l' q=>?_,by rw[eo];exact R.nd,λj b o x q=>?_,let ⟨_,_,z,_⟩:=R.own i a ds h;R.tb.upd z λ_ y=>by cases y⟩
 .rw[eo,ed];rcases getElem?_set_of q with ⟨_,z,_⟩|⟨n,q⟩
  .cases z
  .exact R.val j d' q
 .rw[eo,ed];rcases getElem?_set_of q with ⟨rfl,z,_⟩|⟨n,q'⟩
  .cases z;exact⟨(R.own i a ds h).1,xs,jz,l⟩
  .obtain⟨z,ys,y,l''⟩:=R.own j b l' q';refine⟨z,ys,?_,l''⟩;have nb:b≠a:=λe=>n (Yz R.nd h (e▸q'));rw[jf nb];exact y
 .rw[eo,ed];rcases getElem?_set_of q with ⟨_,z,_⟩|⟨n,q⟩
  .cases z
  .exact R.raw j b o x q
def Rep.freeze(R:Rep K J I H)(h:J[i]?=aa (.own a ds)):Rep K (J.set i (.val (.lst ds))) I H:=by
 obtain⟨hs,xs,hx,l⟩:=R.own i a ds h;have sub:(owns (J.set i (.val (.lst ds)))).Sublist (owns J):=j7 rfl;have g:j5 (del H (owns J)) (del H (owns (J.set i (.val (.lst ds))))):=zb λb hb=>sub.subset hb;have na:a∉owns (J.set i (.val (.lst ds))):=λz=>by
  obtain⟨j,l',q⟩:=Vj z;rcases getElem?_set_of q with ⟨_,z,_⟩|⟨n,q⟩
  .cases z
  .exact n (Yz R.nd h q)
 refine⟨by simp[R.len],λj d' q=>?_,λj b l' q=>?_,sub.nodup R.nd,λj b o x q=>?_,R.tb⟩
 .rcases getElem?_set_of q with ⟨rfl,z,_⟩|⟨n,q⟩
  .cases z;exact⟨_,hs,a,xs,rfl,.inl (.inl (by rw[jd na];exact hx)),l.mono g⟩
  .obtain⟨u,q,h⟩:=R.val j d' q;exact⟨u,q,h.mono g⟩
 .rcases getElem?_set_of q with ⟨rfl,z,_⟩|⟨n,q⟩
  .cases z
  .obtain⟨q,ys,h,l⟩:=R.own j b l' q;exact⟨q,ys,h,l.mono g⟩
 .rcases getElem?_set_of q with ⟨_,z,_⟩|⟨n,q⟩
  .cases z
  .obtain⟨q,h⟩:=R.raw j b o x q;exact⟨q,h.mono g⟩
end
def DE(X:Cx)(J:Rho)(e:ar)(d:D):Prop:=∀I H Q,Rep X.K J I H->(∀v H',j5 H H'->Enc X.K (del H' (owns J)) d v->Q v H')->Jq X e I H Q
def DT(X:Cx)(J:Rho)(e:ar)(d:D):Prop:=∀I H Q,Rep X.K J I H->(∀v H',j5 H H'->Enc X.K H' d v->Q v H')->Jq X e I H Q
def DO(X:Cx)(J:Rho)(e:ar)(ds:List D):Prop:=∀I H Q,Rep X.K J I H->(∀a xs H',j5 H H'->H a=ag->H' a=aa (.lst xs)->j6 X.K (del H' (a::owns J)) ds xs->Q (.ref a) H')->Jq X e I H Q
def DL(X:Cx)(J:Rho)(e:ar)(ds:List D):Prop:=∀I H Q,Rep X.K J I H->(∀a xs H',j5 H H'->H' a=aa (.lst xs)->j6 X.K (del H' (owns J)) ds xs->Q (.ref a) H')->Jq X e I H Q
def DB(X:Cx)(J:Rho)(e:ar)(b:Bool):Prop:=∀I H Q,Rep X.K J I H->(∀H',j5 H H'->Q b H')->jag X e I H Q
def DA(X:Cx)(J:Rho)(es:List ar)(ds:List D):Prop:=∀I H Q,Rep X.K J I H->(∀vs H',j5 H H'->j6 X.K (del H' (owns J)) ds vs->Q vs H')->Wy X es I H Q
def DTA(X:Cx)(J:Rho)(es:List ar)(ds:List D):Prop:=∀I H Q,Rep X.K J I H->(∀vs H',j5 H H'->j6 X.K H' ds vs->Q vs H')->Wy X es I H Q
def jaf(X:Cx)(e:ar):TT:=λI H Q=>∀whole pins s,Inv X pins I H s->ay (aB X.prog X.w) X.A (fg e X.env whole) (TP X pins I Q) X.xe s
def pwS:PW X e (jaf X e):=λwhole pins s _ _ _ nI h=>h whole pins s nI
def PW.to(h:PW X e t)(q:t I H Q):jaf X e I H Q:=λwhole pins s nI=>h whole pins s I H Q nI q
def DW(X:Cx)(J:Rho)(e:ar)(b:Bool):Prop:=∀I H Q,Rep X.K J I H->(∀H',j5 H H'->Q b H')->jaf X e I H Q
mutual
noncomputable def Zu:D->Bool
 |.lst _=>ae
 |.dct _ _=>ae
 |.sct _=>ae
 |.any _=>af
 |.fn _ _=>ae
 |.tup ds=>zc ds
 |_=>af
noncomputable def zc:List D->Bool
 |[]=>af
 |d::ds=>Zu d&&zc ds
end
mutual
theorem Enc.hide{K:k84}{H:Hp}{A:List ak}(hA:∀a∈A,Hd (H a)):∀{d:D}{v:V},Zu d=af->Enc K H d v->Enc K (del H A) d v
 |.non,_,_,h=>h
 |.bl _,_,_,h=>h
 |.int _,_,_,h=>h
 |.str _,_,_,h=>h
 |.lst _,_,n,_=>by cases n
 |.dct _ _,_,n,_=>by cases n
 |.sct _,_,n,_=>by cases n
 |.any _,_,_,h=>h
 |.fn _ _,_,n,_=>by cases n
 |.tup ds,_,n,⟨a,xs,e,q,l⟩=>by
  refine⟨a,xs,e,?_,j6.hide hA (by simpa [Zu]using n) l⟩;have out:∀{o:HO},H a=aa o->(∀ys,o≠.lst ys)->(∀ys ep,o≠.dI ys ep)->del H A a=aa o:=λ{o} h z z2=>by
   rw[jd];exact h;intro y;rcases hA a y with ⟨ys,e'⟩|⟨ys,ep,e'⟩
   .rw[h]at e';cases e';exact z ys rfl
   .rw[h]at e';cases e';exact z2 ys ep rfl
  rcases q with (q|⟨o,q⟩)|q
  .exact .inl (.inl (out q (λ_ z=>by cases z) λ_ _ z=>by cases z))
  .exact .inl (.inr ⟨o,out q (λ_ z=>by cases z) λ_ _ z=>by cases z⟩)
  .exact .inr q
theorem j6.hide{K:k84}{H:Hp}{A:List ak}(hA:∀a∈A,Hd (H a)):∀{ds:List D}{xs:List V},zc ds=af->j6 K H ds xs->j6 K (del H A) ds xs
 |[],_,_,h=>h
 |d::ds,_,n,⟨x,r,e,h,l⟩=>by
  have n':Zu d=af/\zc ds=af:=by simpa [zc]using n
  exact⟨x,r,e,Enc.hide hA n'.1 h,j6.hide hA n'.2 l⟩
end
section
variable{X:Cx}{J:Rho}{e a b c:ar}{es:List ar}{d da db:D}{ds ds':List D}{i j:Int}{pos:aR}{k:Nat}{x:ao}
def DE.toT(h:DE X J e d):DT X J e d:=λI H Q R q=>h I H Q R λv H' g l=>q v H' g (l.mono jr)
def DT.toE(h:DT X J e d)(n:Zu d=af:=by rfl):DE X J e d:=λI H Q R q=>h I H Q R λv H' g l=>q v H' g (l.hide (λa ha=>.inl ((R.grow g).owned a ha)) n)
def DO.toL(h:DO X J e ds):DL X J e ds:=λI H Q R q=>h I H Q R λa xs H' g n m l=>q a xs H' g m (l.mono (zb λb hb=>kh _ hb))
def DO.toE(h:DO X J e ds):DE X J e (.lst ds):=λI H Q R q=>h I H Q R λa xs H' g n m l =>q _ H' g ⟨a,xs,rfl,.inl (.inl (by rw[jd (R.fresh n)];exact m)),l.mono (zb λb hb=>kh _ hb)⟩
def DL.toT(h:DL X J e ds):DT X J e (.lst ds):=λI H Q R q=>h I H Q R λa xs H' g m l=>q _ H' g ⟨a,xs,rfl,.inl (.inl m),l.mono jr⟩
def DW.toB{k:Bool}(h:DW X J e k):DB X J e k:=λI H Q R q pins s nI=>h I H Q R q _ pins s nI
def DA.toT(h:DA X J es ds):DTA X J es ds:=λI H Q R q=>h I H Q R λv H' g l=>q v H' g (l.mono jr)
def DE.eq(h:DE X J e d)(q:d=d'):DE X J e d':=q▸h
def DB.eq{b b':Bool}(h:DB X J e b)(q:b=b'):DB X J e b':=q▸h
end
section
variable{X:Cx}{J:Rho}{e a b c:ar}{es:List ar}{d da db:D}{ds ds':List D}{i j:Int}{pos p:aR}{k:Nat}{x:ao}
def DE.var(k:Nat)(h:J[k]?=aa (.val d))(hN:X.N[k]?=aa x:=by rfl)(hv:Vis X.env.scope x:=by first|exact bc rfl|exact cg (bc rfl)|exact cg (cg rfl))
  (hd:(x==k89)=ae:=by decide) (hcd:(x==k8a)=ae:=by decide):DE X J (.Name x pos) d:=λI H Q R q=>by
 obtain⟨v,hs,en⟩:=R.val k d h;exact(qp hN hv hd hcd).to ⟨v,hs,q v H (j5.refl H) en⟩
def DL.var(k:Nat)(h:J[k]?=aa (.own l ds))(hN:X.N[k]?=aa x:=by rfl)(hv:Vis X.env.scope x:=by first|exact bc rfl|exact cg (bc rfl)|exact cg (cg rfl))
  (hd:(x==k89)=ae:=by decide) (hcd:(x==k8a)=ae:=by decide):DL X J (.Name x pos) ds:=λI H Q R q=>by
 obtain⟨hs,xs,m,en⟩:=R.own k l ds h;exact(qp hN hv hd hcd).to ⟨_,hs,q l xs H (j5.refl H) m en⟩
def DE.glob(hg:Gl X x)(hm:X.mg x=aa u)(r:RelV v u)(h:∀H,Enc X.K H d v)(hd:(x==k89)=ae:=by decide):DE X J (.Name x pos) d :=
 λI H Q R q=>(Ka hg hm r hd).to (q v H (j5.refl H) (h _))
theorem DE.int:DE X J (.Constant (.int i) n pos) (.int i):=λI H Q R q=>j1m.to (q _ H (j5.refl H) rfl)
theorem DE.bl{b:Bool}{n:Nat}:DE X J (.Constant (.bool b) n pos) (.bl b):=λI H Q R q=>jmv.to (q _ H (j5.refl H) rfl)
theorem DE.str:DE X J (.Constant (.str y) n pos) (.str y):=λI H Q R q=>Wd.to (q _ H (j5.refl H) rfl)
def DE.arI0{op:jZ}{g:Int->Int->Int}(ho:OpR X (bO op) (rI0 λi j=>.int (g i j)))(ha:DT X J a (.int i))(hb:DT X J b (.int j)):DE X J (.BinOp a op b pos) (.int (g i j)):=λI H Q R q =>(Zr ho peS peS).to (ha I H _ R λv H1 g1 e1=>hb I H1 _ (R.grow g1) λu H2 g2 e2=>⟨i,j,e1,e2,q _ H2 (g1.trans g2) rfl⟩)
def DE.arI{op:jZ}{C:Int->Int->Prop}{g:Int->Int->Int}(ho:OpR X (bO op) (rI C λi j=>.int (g i j)))(ha:DT X J a (.int i))(hb:DT X J b (.int j))(hC:C i j):DE X J (.BinOp a op b pos) (.int (g i j)):=λI H Q R q =>(Zr ho peS peS).to (ha I H _ R λv H1 g1 e1=>hb I H1 _ (R.grow g1) λu H2 g2 e2=>⟨i,j,e1,e2,hC,q _ H2 (g1.trans g2) rfl⟩)
def DE.add(ha:DT X J a (.int i))(hb:DT X J b (.int j)):DE X J (.BinOp a .Add b pos) (.int (i+j)):=DE.arI0 j81 ha hb
def DE.sub(ha:DT X J a (.int i))(hb:DT X J b (.int j)):DE X J (.BinOp a .Sub b pos) (.int (i-j)):=DE.arI0 ji8 ha hb
def DE.mul(ha:DT X J a (.int i))(hb:DT X J b (.int j))(h:j6s i j):DE X J (.BinOp a .Mult b pos) (.int (i*j)):=DE.arI jic ha hb h
def DE.mod(ha:DT X J a (.int i))(hb:DT X J b (.int j))(h:0<j):DE X J (.BinOp a .Mod b pos) (.int (i%j)):=DE.arI jid ha hb h
def DE.pow(ha:DT X J a (.int i))(hb:DT X J b (.int j))(h:j6r i j):DE X J (.BinOp a .Pow b pos) (.int (i^j.toNat)):=DE.arI jib ha hb h
def DE.shl(ha:DT X J a (.int i))(hb:DT X J b (.int j))(h:j6r i j):DE X J (.BinOp a .LShift b pos) (.int (i*2^j.toNat)):=DE.arI (g:=λi j=>i*2^j.toNat) ji9 ha hb h
def DE.neg(ha:DT X J a (.int i)):DE X J (.UnaryOp .USub a pos) (.int (-i)):=λI H Q R q =>(jms jgq peS).to (ha I H _ R λv H1 g1 e1=>⟨i,e1,q _ H1 g1 rfl⟩)
def DE.cmpI{op:ip}{g:Int->Int->Bool}(ho:OpR X (bu op) (rI0 λi j=>.bl (g i j)))(hm:aV op b=ae)(ha:DT X J a (.int i))(hb:DT X J b (.int j)):DE X J (.Compare a [op] [b] pos) (.bl (g i j)):=λI H Q R q =>(Qm ho peS peS hm).to (ha I H _ R λv H1 g1 e1=>hb I H1 _ (R.grow g1) λu H2 g2 e2=>⟨i,j,e1,e2,q _ H2 (g1.trans g2) rfl⟩)
def DB.cmpI{op:ip}{g:Int->Int->Bool}(ho:OpR X (bu op) (rI0 λi j=>.bl (g i j)))(hm:aV op b=ae)(ha:DT X J a (.int i))(hb:DT X J b (.int j)):DB X J (.Compare a [op] [b] pos) (g i j):=λI H Q R q =>(Q4 ho peS peS hm).to (ha I H _ R λv H1 g1 e1=>hb I H1 _ (R.grow g1) λu H2 g2 e2=>⟨i,j,e1,e2,_,rfl,q H2 (g1.trans g2)⟩)
def DB.lt(ha:DT X J a (.int i))(hb:DT X J b (.int j)):DB X J (.Compare a [.Lt] [b] pos) (decide (i<j)):=DB.cmpI Dr (vo _) ha hb
def DB.le(ha:DT X J a (.int i))(hb:DT X J b (.int j)):DB X J (.Compare a [.LtE] [b] pos) (decide (i<=j)):=DB.cmpI jcq (vo _) ha hb
def DB.gt(ha:DT X J a (.int i))(hb:DT X J b (.int j)):DB X J (.Compare a [.Gt] [b] pos) (decide (j<i)):=DB.cmpI jcr (vo _) ha hb
def DB.ge(ha:DT X J a (.int i))(hb:DT X J b (.int j)):DB X J (.Compare a [.GtE] [b] pos) (decide (j<=i)):=DB.cmpI j5u (vo _) ha hb
def DE.lt(ha:DT X J a (.int i))(hb:DT X J b (.int j)):DE X J (.Compare a [.Lt] [b] pos) (.bl (decide (i<j))):=DE.cmpI Dr (vo _) ha hb
def DE.le(ha:DT X J a (.int i))(hb:DT X J b (.int j)):DE X J (.Compare a [.LtE] [b] pos) (.bl (decide (i<=j))):=DE.cmpI jcq (vo _) ha hb
def DE.gt(ha:DT X J a (.int i))(hb:DT X J b (.int j)):DE X J (.Compare a [.Gt] [b] pos) (.bl (decide (j<i))):=DE.cmpI jcr (vo _) ha hb
def DE.ge(ha:DT X J a (.int i))(hb:DT X J b (.int j)):DE X J (.Compare a [.GtE] [b] pos) (.bl (decide (j<=i))):=DE.cmpI j5u (vo _) ha hb
noncomputable def D.sc:D->Option V
 |.non=>aa .non
 |.bl b=>aa (.bl b)
 |.int i=>aa (.int i)
 |.str x=>aa (.str x)
 |_=>ag
def D.sc_enc{K:k84}{d:D}(h:d.sc=aa u)(q:Enc K H d v):v=u:=by cases d<;>simp[D.sc]at h<;>subst h<;>exact q
def DE.eqS(ha:DT X J a da)(hb:DT X J b db)(h1:da.sc=aa u:=by rfl)(h2:db.sc=aa v:=by rfl)(h:K4 u v=af:=by rfl):DE X J (.Compare a [.Eq] [b] pos) (.bl (decide (u=v))):=λI H Q R q =>
 (Qm jcs peS peS (vo _)).to (ha I H _ R λx H1 g1 e1=>hb I H1 _ (R.grow g1) λy H2 g2 e2=>by
  cases D.sc_enc h1 e1;cases D.sc_enc h2 e2;exact⟨h,q _ H2 (g1.trans g2) rfl⟩)
def DE.neS(ha:DT X J a da)(hb:DT X J b db)(h1:da.sc=aa u:=by rfl)(h2:db.sc=aa v:=by rfl)(h:K4 u v=af:=by rfl):DE X J (.Compare a [.NotEq] [b] pos) (.bl (!decide (u=v))):=λI H Q R q =>
 (Qm j5s peS peS (vo _)).to (ha I H _ R λx H1 g1 e1=>hb I H1 _ (R.grow g1) λy H2 g2 e2=>by
  cases D.sc_enc h1 e1;cases D.sc_enc h2 e2;exact⟨h,q _ H2 (g1.trans g2) rfl⟩)
def DB.eqS(ha:DT X J a da)(hb:DT X J b db)(h1:da.sc=aa u:=by rfl)(h2:db.sc=aa v:=by rfl)(h:K4 u v=af:=by rfl):DB X J (.Compare a [.Eq] [b] pos) (decide (u=v)):=λI H Q R q =>
 (Q4 jcs peS peS (vo _)).to (ha I H _ R λx H1 g1 e1=>hb I H1 _ (R.grow g1) λy H2 g2 e2=>by
  cases D.sc_enc h1 e1;cases D.sc_enc h2 e2;exact⟨h,_,rfl,q H2 (g1.trans g2)⟩)
def DB.neS(ha:DT X J a da)(hb:DT X J b db)(h1:da.sc=aa u:=by rfl)(h2:db.sc=aa v:=by rfl)(h:K4 u v=af:=by rfl):DB X J (.Compare a [.NotEq] [b] pos) (!decide (u=v)):=λI H Q R q =>
 (Q4 j5s peS peS (vo _)).to (ha I H _ R λx H1 g1 e1=>hb I H1 _ (R.grow g1) λy H2 g2 e2=>by
  cases D.sc_enc h1 e1;cases D.sc_enc h2 e2;exact⟨h,_,rfl,q H2 (g1.trans g2)⟩)
def Rz(i j:Int):decide (V.int i=V.int j)=decide (i=j):=by
 by_cases h:i=j
 .subst h;simp
 .rw[decide_eq_false h,decide_eq_false (λz=>h (V.int.inj z))]
def j2l(i j:ao):decide (V.str i=V.str j)=decide (i=j):=by
 by_cases h:i=j
 .subst h;simp
 .rw[decide_eq_false h,decide_eq_false (λz=>h (V.str.inj z))]
def DE.eqI(ha:DT X J a (.int i))(hb:DT X J b (.int j)):DE X J (.Compare a [.Eq] [b] pos) (.bl (decide (i=j))):=(DE.eqS ha hb).eq (by rw[Rz])
def DE.neI(ha:DT X J a (.int i))(hb:DT X J b (.int j)):DE X J (.Compare a [.NotEq] [b] pos) (.bl (!decide (i=j))):=(DE.neS ha hb).eq (by rw[Rz])
def DB.eqI(ha:DT X J a (.int i))(hb:DT X J b (.int j)):DB X J (.Compare a [.Eq] [b] pos) (decide (i=j)):=(DB.eqS ha hb).eq (by rw[Rz])
def DB.neI(ha:DT X J a (.int i))(hb:DT X J b (.int j)):DB X J (.Compare a [.NotEq] [b] pos) (!decide (i=j)):=(DB.neS ha hb).eq (by rw[Rz])
def DB.val{k:Bool}(ha:DT X J a (.bl k))(he:∀whole,fg a X.env whole=(do let v <-whole;gE a.pos;fh [v] (kE v)):=by intro _;rfl):DB X J a k:=λI H Q R q =>(j7p peS he).to (ha I H _ R λx H1 g1 e1=>⟨_,e1,q H1 g1⟩)
def DW.and1{k:Bool}(ha:DB X J a k):DW X J (.BoolOp .And [a] pos) k:=λI H Q R q=>(jen ptS).to (ha I H Q R q)
def DW.or1{k:Bool}(ha:DB X J a k):DW X J (.BoolOp .Or [a] pos) k:=λI H Q R q=>(jhw ptS).to (ha I H Q R q)
def DW.and{k m:Bool}{rest:List ar}(ha:DB X J a k)(hb:k=af->DW X J (.BoolOp .And (b::rest) pos) m):DW X J (.BoolOp .And (a::b::rest) pos) (k&&m):=λI H Q R q =>
 (jhx ptS pwS).to (ha I H _ R λH1 g1=>by
  cases k with
  |false=>exact Rm (q H1 g1)
  |true=>exact Rj (hb rfl I H1 Q (R.grow g1) λH2 g2=>q H2 (g1.trans g2)))
def DW.or{k m:Bool}{rest:List ar}(ha:DB X J a k)(hb:k=ae->DW X J (.BoolOp .Or (b::rest) pos) m):DW X J (.BoolOp .Or (a::b::rest) pos) (k || m):=λI H Q R q =>
 (jmr ptS pwS).to (ha I H _ R λH1 g1=>by
  cases k with
  |true=>exact Rj (q H1 g1)
  |false=>exact Rm (hb rfl I H1 Q (R.grow g1) λH2 g2=>q H2 (g1.trans g2)))
def DB.not{k:Bool}(ha:DB X J a k):DB X J (.UnaryOp .Not a pos) (!k):=λI H Q R q=>(j7q ptS).to (ha I H _ R λH1 g1=>q H1 g1)
def DE.and{k m:Bool}{rest:List ar}(ha:DT X J a (.bl k))(hb:k=af->DE X J (.BoolOp .And (b::rest) pos) (.bl m)):DE X J (.BoolOp .And (a::b::rest) pos) (.bl (k&&m)):=λI H Q R q =>
 (ji4 peS peS).to (ha I H _ R λx H1 g1 e1=>⟨k,e1,by
  cases k with
  |false=>exact Rm (q _ H1 g1 rfl)
  |true=>exact Rj (hb rfl I H1 Q (R.grow g1) λv H2 g2=>q v H2 (g1.trans g2))⟩)
def DE.or{k m:Bool}{rest:List ar}(ha:DT X J a (.bl k))(hb:k=ae->DE X J (.BoolOp .Or (b::rest) pos) (.bl m)):DE X J (.BoolOp .Or (a::b::rest) pos) (.bl (k || m)):=λI H Q R q =>
 (jmu peS peS).to (ha I H _ R λx H1 g1 e1=>⟨k,e1,by
  cases k with
  |true=>exact Rj (q _ H1 g1 rfl)
  |false=>exact Rm (hb rfl I H1 Q (R.grow g1) λv H2 g2=>q v H2 (g1.trans g2))⟩)
def DE.ite{k:Bool}{d':D}(hc:DB X J c k)(ha:k=af->DE X J a d)(hb:k=ae->DE X J b d'):DE X J (.IfExp c a b pos) (if k=af then d else d'):=λI H Q R q =>
 (j1n ptS peS peS).to (hc I H _ R λH1 g1=>by
  cases k with
  |true=>exact Rj (ha rfl I H1 Q (R.grow g1) λv H2 g2 z=>q v H2 (g1.trans g2) (by rw[if_pos rfl];exact z))
  |false=>exact Rm (hb rfl I H1 Q (R.grow g1) λv H2 g2 z=>q v H2 (g1.trans g2) (by rw[if_neg xq];exact z)))
def DA.nil:DA X J [] []:=λI H Q R q=>qe.to (q [] H (j5.refl H) rfl)
def DA.cons(ha:DE X J a d)(hr:DA X J es ds)(hs:ah (a::es) X.env=(ae,aD a X.env)::ah es X.env:=by rfl):DA X J (a::es) (d::ds):=λI H Q R q =>(ji peS paS hs).to (ha I H _ R λv H1 g1 e1=>hr I H1 _ (R.grow g1) λvs H2 g2 e2=>q _ H2 (g1.trans g2) ⟨v,vs,rfl,e1.mono (jq g2),e2⟩)
def DTA.nil:DTA X J [] []:=λI H Q R q=>qe.to (q [] H (j5.refl H) rfl)
def DTA.cons(ha:DT X J a d)(hr:DTA X J es ds)(hs:ah (a::es) X.env=(ae,aD a X.env)::ah es X.env:=by rfl):DTA X J (a::es) (d::ds):=λI H Q R q =>(ji peS paS hs).to (ha I H _ R λv H1 g1 e1=>hr I H1 _ (R.grow g1) λvs H2 g2 e2=>q _ H2 (g1.trans g2) ⟨v,vs,rfl,e1.mono g2,e2⟩)
theorem DE.tup{n:Nat}{x1}(h:DA X J es ds)(hl:ds.length<=au:=by simp only[xn,T5];decide):DE X J (.Tuple es x1 pos) (.tup ds):=λI H Q R q =>(j7v paS).to (h I H _ R λvs H1 g1 e1=>⟨by rw[e1.length];exact hl,λp hp=>q _ _ (g1.trans (je hp)) ⟨p,vs,rfl,.inl (.inl (by rw[jd ((R.grow g1).fresh hp)];exact jz)),e1.mono (jq (je hp))⟩⟩)
def DO.lst(h:DA X J es ds)(hl:ds.length<=au:=by simp only[xn,T5];decide):DO X J (.List es pos) ds:=λI H Q R q =>
 (ji3 paS).to (h I H _ R λvs H1 g1 e1=>⟨by rw[e1.length];exact hl,λp hp=>q p vs _ (g1.trans (je hp)) (g1.free hp) jz (e1.mono λb o z=>by
  obtain⟨n,z⟩:=qb z
  rw[jd];exact je hp b o z
  intro y
  rcases xj.mp y with y|y
  .subst y;rw[hp]at z;cases z
  .exact n y)⟩)
theorem j6.atI{K:k84}{xs:List V}(h:j6 K H ds xs)(q:atI ds i=aa d):∃x,L2.atI xs i=aa x/\Enc K H d x:=by
 unfold L2.atI at q ⊢;rw[h.length];cases z:ixN ds.length i with
 |none=>rw[z]at q;cases q
 |some k =>rw[z]at q;exact h.get q
noncomputable def cutD(ds:List D)(lo hi:Option Int):List D:=(ds.drop (HT.sIx ds.length 0 lo)).take (HT.sIx ds.length ds.length hi-HT.sIx ds.length 0 lo)
def j6.cut{K:k84}{xs:List V}(h:j6 K H ds xs)(lo hi:Option Int):j6 K H (cutD ds lo hi) (Fd xs lo hi):=by unfold cutD Fd;rw[h.length];exact(h.drop _).take _
def Rw{K:k84}{H1:Hp}{A:List ak}{ds:List D}{xs:List V}{p:ak}{o:HO}(hp:H1 p=ag)(e1:j6 K (del H1 A) ds xs):j6 K (del (upd H1 p o) (p::A)) ds xs:=e1.mono λb o z=>by
 obtain⟨n,z⟩:=qb z;rw[jd];exact je hp b o z;intro y;rcases xj.mp y with y|y
 .subst y;rw[hp]at z;cases z
 .exact n y
theorem DO.rep(ha:DL X J a ds)(hb:DT X J b (.int i))(h1:-(2^63)<=i)(h2:i<2^63)(hl:ds.length*i.toNat<=au):DO X J (.BinOp a .Mult b pos) (ax i.toNat ds).flatten:=λI H Q R q =>
 (Zr jia peS peS).to (ha I H _ R λl xs H1 g1 m1 e1=>hb I H1 _ (R.grow g1) λu H2 g2 e2 =>
  ⟨l,i,xs,rfl,e2,g2 _ _ m1,h1,h2,by rw[e1.length];exact hl,λp hp=>q p _ _ ((g1.trans g2).trans (je hp)) ((g1.trans g2).free hp) jz (Rw hp ((e1.mono (jq g2)).rep _))⟩)
def DE.lenT(ha:DT X J a (.tup ds))(hm:X.mg "len"=ag)(hg:Gl X "len":=by rfl)(hs:ah [a] X.env=[(ae,aD a X.env)]:=by rfl) :DE X J (.Call (.Name "len" p2) [a] [] pos) (.int ds.length):=λI H Q R q =>(J9 V2 hg hm cP (ji peS qe hs) (by decide) (by decide) hs).to (ha I H _ R λv H1 g1 ⟨l,xs,e,sq,en⟩=>⟨l,xs,by rw[e],.inr sq,q _ H1 g1 (by rw[en.length];rfl)⟩)
def DE.lenL(ha:DT X J a (.lst ds))(hm:X.mg "len"=ag)(hg:Gl X "len":=by rfl)(hs:ah [a] X.env=[(ae,aD a X.env)]:=by rfl) :DE X J (.Call (.Name "len" p2) [a] [] pos) (.int ds.length):=λI H Q R q =>(J9 V2 hg hm cP (ji peS qe hs) (by decide) (by decide) hs).to (ha I H _ R λv H1 g1 ⟨l,xs,e,sq,en⟩=>⟨l,xs,by rw[e],.inl sq,q _ H1 g1 (by rw[en.length];rfl)⟩)
end
def framed(sp:Sp):Sp:=λvs H Q E=>∃A:List ak,(∀a∈A,∃xs,H a=aa (.lst xs))/\sp vs (del H A) (λv F=>(∀a∈A,F a=ag)->Q v (mrg A H F)) E
theorem FnOkZ.framed{K:k84}(F:FnOkZ z P w K mg base CX0 k f fd ps sp) :
  FnOkZ z P w K mg base CX0 k f fd ps (framed sp) where
 len:=λvs H Q E ⟨A,_,h⟩=>F.len vs _ _ _ h
 run:=by
  rintro A0 outer s H args us vs Q E hr e0 hb rv ⟨A,hA,h⟩;have nd:∀{b:ak},H b=ag->del H A b=ag:=λ{b} q=>by
   by_cases z:b∈A
   .exact J0 z
   .rw[jd z];exact q
  have out:∀{b:ak}{o:HO},H b=aa o->(∀ys,o≠.lst ys)->del H A b=aa o:=λ{b o} q z=>by rw[jd];exact q;intro y;obtain⟨ys,e'⟩:=hA b y;rw[q]at e';cases e';exact z ys rfl
  have e1:EnvZ z P w K mg base A0 outer s (del H A):=⟨e0.frames,e0.mod,λb o q=>⟨(e0.bs b o q).1,nd (e0.bs b o q).2⟩,e0.bsz,e0.funs,λb hb=>nd (e0.frf b hb),
   λa o q=>by
    obtain⟨_,q⟩:=qb q
    exact ql.stay (e0.hok a o q) (λb u _ z=>z) (λb z=>out z λ_ y=>by cases y) (λb xs z=>out z λ_ y=>by cases y) (λb _ _ z=>out z λ_ y=>by cases y),e0.bare,e0.tk⟩
  refine cJ (F.run A0 outer s (del H A) args us vs _ E hr e1 hb rv h) λr s' hq=>?_;cases r with
  |error e=>exact(show False from hq).elim
  |ok fl =>
   cases fl with
   |next=>exact(show False from hq).elim
   |brk=>exact(show False from hq).elim
   |cont=>exact(show False from hq).elim
   |ret u =>
    obtain⟨v,H',os,bare,un,hok',rel,q⟩:=(show CE outer P w (del H A) s _ u s' from hq)
    have kept:∀a∈A,∃o,s.heap.get? a=aa o/\s'.heap.get? a=aa o/\H' a=ag:=λa ha=>by
     obtain⟨xs,e⟩:=hA a ha;obtain⟨_,its,n,_,z⟩:=(show ql P w H s.heap a (.lst xs)from e0.hok _ _ e)
     have nf:a∉frs outer:=λy=>by rw[e0.frf a y]at e;cases e
     exact⟨_,z,un.keep a _ z (J0 ha) nf (by simp),un.free a _ z (J0 ha) (by simp)⟩
    have hF:∀a∈A,H' a=ag:=λa ha=>let ⟨_,_,_,z⟩:=kept a ha;z;have outF:∀{b:ak}{o:HO},H' b=aa o->b∉A:=λ{b o} e z=>by rw[hF b z]at e;cases e
    refine⟨v,mrg A H H',os,bare,?_,λa o e=>?_,rel,q hF⟩
    .exact{
      keep:=λb o e n=>un.keep b o e (nd n)
      slot:=λb o e n=>un.slot b o e (nd n)
      free:=λb o e n hx=>by
       by_cases z:b∈A
       .rw[Qe z];exact n
       .rw[qx z];exact un.free b o e (nd n) hx
      there:=un.there
      tups:=λb xs e=>by
       have z:=un.tups b xs (out e λ_ y=>by cases y)
       rw[qx (outF z)];exact z
      frzs:=λb o u e=>by
       have z:=un.frzs b o u (out e λ_ y=>by cases y)
       rw[qx (outF z)];exact z
      tbls:=λb ps e=>by
       obtain⟨more,z⟩:=un.tbls b ps (out e λ_ y=>by cases y)
       exact⟨more,by rw[qx (outF z)];exact z⟩ }
    .by_cases z:a∈A
     .rw[Qe z]at e;obtain⟨xs,e'⟩:=hA a z;rw[e']at e;cases e;obtain⟨hl,its,n,r,y⟩:=(show ql P w H s.heap a (.lst xs)from e0.hok _ _ e')
      obtain⟨o',q1,q2,_⟩:=kept a z;rw[y]at q1;cases q1;exact⟨hl,its,n,r,q2⟩
     .rw[qx z]at e;refine ql.stay (hok' a o e) (λb u _ q=>q) (λb q=>?_) (λb xs q=>?_) (λb _ _ q=>?_)
      .rw[qx (outF q)];exact q
      .rw[qx (outF q)];exact q
      .rw[qx (outF q)];exact q
def spP(K:k84)(S:List D->D->Prop):Sp:=λvs H Q _=>∃A ds d,TabOk K H/\(∀a∈A,∃xs,H a=aa (.lst xs))/\j6 K (del H A) ds vs/\S ds d/\∀v H',j5 H H'->Enc K (del H' A) d v->Q v H'
def spF(K:k84)(S:List D->List D->Prop):Sp:=λvs H Q _=>∃A ds l,TabOk K H/\(∀a∈A,∃xs,H a=aa (.lst xs))/\j6 K (del H A) ds vs/\S ds l /\
 ∀a xs H',j5 H H'->H a=ag->H' a=aa (.lst xs)->j6 K (del H' (a::A)) l xs->Q (.ref a) H'
def jps(K:k84)(S:List D->D->Prop):Sp:=λvs H Q _=>∃ds d,TabOk K H/\j6 K H ds vs/\S ds d/\∀v H',j5 H H'->Enc K H' d v->Q v H'
def jpu(K:k84)(S:List D->List D->Prop):Sp:=λvs H Q _=>∃ds l,TabOk K H/\j6 K H ds vs/\S ds l/\∀a xs H',j5 H H'->H a=ag->H' a=aa (.lst xs)->j6 K (del H' [a]) l xs->Q (.ref a) H'
section
variable{P:aA}{w:aH}{K:k84}{mg:k87}{base:aL}{k:Nat}{f:ak}{fd:aN}{ps:List ao}
def qw.toP(F:FnOkZ z P w K mg base CX0 k f fd ps (jps K S)):FnOkZ z P w K mg base CX0 k f fd ps (spP K S) :=
 F.framed.imp λvs H Q E ⟨A,ds,d,tb,hA,en,hS,q⟩=>⟨A,hA,ds,d,tb.del hA,en,hS,λv F g e hF=>q v _ (j1e g) (by rw[Zh hF];exact e)⟩
def qw.toF(F:qw P w K mg base CX0 k f fd ps (jpu K S)):qw P w K mg base CX0 k f fd ps (spF K S) :=
 F.framed.imp λvs H Q E ⟨A,ds,l,tb,hA,en,hS,q⟩=>⟨A,hA,ds,l,tb.del hA,en,hS,λa xs F g n e l' hF=>by
  have na:a∉A:=λz=>by rw[hF a z]at e;cases e
  refine q a xs _ (j1e g) (by rw[jd na]at n;exact n) (by rw[qx na];exact e) (l'.mono λb o z=>?_)
  obtain⟨n1,z⟩:=qb z
  have nb:b∉A:=λy=>by rw[hF b y]at z;cases z
  rw[jd,qx nb];exact z
  intro y
  rcases xj.mp y with y|y
  .exact n1 (by rw[y];exact xu.mpr rfl)
  .exact nb y⟩
end
def jke:List ao:=["dearest_way","cost_on_whole","worst_table","worst_plan","foe_answer","whole_table","whole_plan","mean_price"]
noncomputable def kG(us ws:List aj):List aj:=match ws with
 |[w]=>us++[w]
 |_=>[]
noncomputable def kGV(vs zs:List V):List V:=match zs with
 |[z]=>vs++[z]
 |_=>[]
def Dfl(K:k84)(x:ao)(fd:aN)(ps:List ao):Prop:=x∈jke->Binds K fd ps [.none]/\KBinds K fd ps ["prices"] kG kGV
structure Cal(X:Cx)(x:ao)(sp:Sp):Prop where
 ex:∃(k:Nat)(f:ak)(fd:aN)(ps:List ao),qw X.prog X.w X.K X.mg X.base CX0 k f fd ps sp/\Room (k+3) X.A/\X.mg x=aa (.ref f)/\W.keepIn X.K (.ref f)=af/\Binds X.K fd ps []/\Dfl X.K x fd ps
section
variable{X:Cx}{J:Rho}{e a:ar}{es:List ar}{d:D}{ds l:List D}{pos p:aR}{x:ao}
def DE.call(c:Cal X x (spP X.K S))(ha:DA X J (e::es) ds)(hS:S ds d)(hg:Gl X x:=by rfl)(hdb:(x==k89)=ae:=by decide)
  (he:ah (e::es) X.env=(ae,aD e X.env)::ah es X.env:=by rfl) (hpl:(aS pos (ah es X.env)).any (·.1)=ae:=by rfl):DE X J (.Call (.Name x p) (e::es) [] pos) d:=λI H Q R q=>by
 obtain⟨k,f,fd,ps,F,hr,hm,hk,hb,_⟩:=c.ex;refine(We F (hr.mono nofun) hg hm hk hb .nil Vi paS hdb he hpl).to (ha I H _ R λvs H1 g1 e1=>?_);show spP X.K S (vs++[]) H1 Q E0;rw[Xq];exact⟨owns J,ds,d,R.tb.mono g1,(R.grow g1).owned,e1,hS,λv H2 g2 z=>q v H2 (g1.trans g2) z⟩
def DT.call(c:Cal X x (spP X.K S))(ha:DTA X J (e::es) ds)(hS:S ds d)(hg:Gl X x:=by rfl)(hdb:(x==k89)=ae:=by decide)
  (he:ah (e::es) X.env=(ae,aD e X.env)::ah es X.env:=by rfl) (hpl:(aS pos (ah es X.env)).any (·.1)=ae:=by rfl):DT X J (.Call (.Name x p) (e::es) [] pos) d:=λI H Q R q=>by
 obtain⟨k,f,fd,ps,F,hr,hm,hk,hb,_⟩:=c.ex;refine(We F (hr.mono nofun) hg hm hk hb .nil Vi paS hdb he hpl).to (ha I H _ R λvs H1 g1 e1=>?_);show spP X.K S (vs++[]) H1 Q E0;rw[Xq];exact⟨[],ds,d,R.tb.mono g1,(λa h=>nomatch h),by rw[J3];exact e1,hS,λv H2 g2 z=>q v H2 (g1.trans g2) (by rw[J3]at z;exact z)⟩
def DO.call(c:Cal X x (spF X.K S))(ha:DA X J (e::es) ds)(hS:S ds l)(hg:Gl X x:=by rfl)(hdb:(x==k89)=ae:=by decide)
  (he:ah (e::es) X.env=(ae,aD e X.env)::ah es X.env:=by rfl) (hpl:(aS pos (ah es X.env)).any (·.1)=ae:=by rfl):DO X J (.Call (.Name x p) (e::es) [] pos) l:=λI H Q R q=>by
 obtain⟨k,f,fd,ps,F,hr,hm,hk,hb,_⟩:=c.ex;refine(We F (hr.mono nofun) hg hm hk hb .nil Vi paS hdb he hpl).to (ha I H _ R λvs H1 g1 e1=>?_);show spF X.K S (vs++[]) H1 Q E0;rw[Xq];exact⟨owns J,ds,l,R.tb.mono g1,(R.grow g1).owned,e1,hS,λa xs H2 g2 n m z=>q a xs H2 (g1.trans g2) (g1.free n) m z⟩
end
inductive Rt where
 |val (d:D)
 |fresh (ds:List D)
noncomputable def Rt.d:Rt->D
 |.val d=>d
 |.fresh l=>.lst l
structure Po where
 nx:Rho->Prop
 rt:Rt->Prop
 bk:Rho->Prop:=λ_=>False
 ct:Rho->Prop:=λ_=>False
 ex:ao->Rho->Prop:=λ_ _=>False
structure FlQ(q:aj->Prop)(N:ak->Prop)(H:Hp)(h:aL)(e:ak)(C:aj):Prop where
 new:∀b,N b->b≠e
 free:H e=ag
 obj:∃(oe:cT)(vs:Array aj)(a0:aj),h.get? e=aa oe/\oe.cls=C/\oe.data=.fields vs/\vs[0]?=aa a0 /\
  (vs[1]?=aa .none\/∃(T:ak)(oT:cT)(ts:Array aj)(fl:aj),vs[1]?=aa (.ref T)/\T≠e/\h.get? T=aa oT/\oT.data=.fields ts/\(ts[3]?=aa fl/\q fl)/\H T=ag/\∀b,N b->b≠T)
def flN(v:aj):Prop:=v=.none
def flF(env:d8)(v:aj):Prop:=v=.none\/∃L,env.frame=aa L/\v=fc L
abbrev Fl(N:ak->Prop)(H:Hp)(h:aL)(e:ak)(C:aj):Prop:=FlQ flN N H h e C
def FlQ.up(F:FlQ q N H h e C)(hq:∀v,q v->q' v)(hN:∀b,N' b->N b):FlQ q' N' H h e C:=by refine⟨λb hb=>F.new b (hN b hb),F.free,?_⟩;obtain⟨oe,vs,a0,z1,z2,z3,z4,z5⟩:=F.obj;refine⟨oe,vs,a0,z1,z2,z3,z4,z5.imp id ?_⟩;rintro⟨T,oT,ts,fl,y1,y2,y3,y4,⟨y5,y6⟩,y7,y8⟩;exact⟨T,oT,ts,fl,y1,y2,y3,y4,⟨y5,hq _ y6⟩,y7,λb hb=>y8 b (hN b hb)⟩
def Old(X:Cx)(pins:k86)(b:ak):Prop:=(∃o,X.s₀.heap.get? b=aa o/\b∉X.ex)\/(∃p∈X.pn++pins,p.1=b)\/b=X.env.locals\/∃x,X.env.cells.lookup x=aa b
def Ol(X:Cx)(I:St)(H:Hp)(x:ao):Prop:=∀(pins:k86) (H':Hp) (s':aq) (e:ak) (C:aj),Inv X pins I H' s'->j5 H H'->X.mg x=aa C->FlQ (flF X.env) (Old X pins) H' s'.heap e C->X.xe (.ref e) s'
def Fr0(J J':Rho)(H H':Hp):Prop:=j5 (del H (owns J)) (del H' (owns J'))
def Ik(K:k84)(J:Rho)(H H':Hp)(v:V):Rt->Prop
 |.val d=>j5 (del H (owns J)) H'/\Enc K H' d v
 |.fresh ds=>∃a xs,v=.ref a/\j5 (del H (owns J)) (del H' [a])/\H' a=aa (.lst xs)/\j6 K (del H' [a]) ds xs
structure EndsOk(X:Cx)(J:Rho)(H:Hp)(P:Po)(E:Ends):Prop where
 nx:∀J' σ' H',P.nx J'->Rep X.K J' σ' H'->Fr0 J J' H H'->E.nx σ' H'
 bk:∀J' σ' H',P.bk J'->Rep X.K J' σ' H'->Fr0 J J' H H'->E.bk σ' H'
 ct:∀J' σ' H',P.ct J'->Rep X.K J' σ' H'->Fr0 J J' H H'->E.ct σ' H'
 rt:∀r v H',P.rt r->Ik X.K J H H' v r->E.rt v H'
 ex:∀x J' σ' H',P.ex x J'->Rep X.K J' σ' H'->Fr0 J J' H H'->Ol X σ' H' x
def Ik.step{K:k84}(f:Fr0 J ρ1 H H1)(h:Ik K ρ1 H1 H' v r):Ik K J H H' v r:=by
 cases r with
 |val d=>exact⟨f.trans h.1,h.2⟩
 |fresh ds=>obtain⟨a,xs,e,g,m,l⟩:=h;exact⟨a,xs,e,f.trans g,m,l⟩
theorem EndsOk.step(h:EndsOk X J H P E)(f:Fr0 J ρ1 H H1):EndsOk X ρ1 H1 P E :=
 ⟨λJ' σ' H' n R g=>h.nx J' σ' H' n R (f.trans g),λJ' σ' H' n R g=>h.bk J' σ' H' n R (f.trans g),λJ' σ' H' n R g=>h.ct J' σ' H' n R (f.trans g),λr v H' n g=>h.rt r v H' n (Ik.step f g),λx J' σ' H' n R g=>h.ex x J' σ' H' n R (f.trans g)⟩
def Fr0.grow(g:j5 H H'):Fr0 J J H H':=jq g
theorem Fr0.refl(J:Rho)(H:Hp):Fr0 J J H H:=j5.refl _
def Fr0.drop(h:∀b∈owns J',b∈owns J):Fr0 J J' H H:=zb h
def Fr0.new{K:k84}(R:Rep K J I H)(g:j5 H H')(n:H a=ag):Fr0 J (J.set i (.own a ds)) H H':=λb o q=>by
 obtain⟨nb,q⟩:=qb q;rw[jd];exact g b o q;intro z;rcases(Jm (ds:=ds) (i:=i) R.nd (R.fresh n)).2 b z with e|z
 .subst e;rw[n]at q;cases q
 .exact nb z
def DS(X:Cx)(J:Rho)(st:aU)(P:Po):Prop:=∀I H E,Rep X.K J I H->EndsOk X J H P E->jah X st E I H
def DSs(X:Cx)(J:Rho)(sts:List aU)(P:Po):Prop:=∀I H E,Rep X.K J I H->EndsOk X J H P E->Zo X sts E I H
section
variable{X:Cx}{J:Rho}{e a b c:ar}{es:List ar}{st:aU}{rest sa sb body:List aU}{P:Po}{d:D}{ds ds':List D}{pos p p1 p2 p3:aR}{x:ao}{i:Nat}
def DSs.nil(h:P.nx J):DSs X J [] P:=λI H E R q=>Ym.to (q.nx J I H h R (Fr0.refl J H))
def DSs.cons{N:Rho->Prop}(h1:DS X J st { P with nx:=N })(h2:∀ρ1,N ρ1->DSs X ρ1 rest P):DSs X J (st::rest) P:=λI H E R q =>(z7 psS vg).to (h1 I H { E with nx:=Zo X rest E } R ⟨λJ' σ' H' n R' f=>h2 J' n σ' H' E R' (q.step f),q.bk,q.ct,q.rt,q.ex⟩)
theorem DSs.freeze(i:Nat)(h:J[i]?=aa (.own l ds))(h2:DSs X (J.set i (.val (.lst ds))) body P):DSs X J body P:=λI H E R q =>h2 I H E (R.freeze h) (q.step (.drop λb hb=>(j7 rfl).subset hb))
def DSs.forget(i:Nat)(h2:DSs X (J.set i .un) body P):DSs X J body P:=λI H E R q=>by
 have z:=R.set_un (i:=i) (v:=ag);have R':Rep X.K (J.set i .un) I H:=by
  have q:=R.set_un (i:=i) (v:=(I[i]?).join);have e:I.set i ((I[i]?).join)=I:=by
   apply fK;intro j;rw[dO];split
   .rename_i h;subst h;split
    .rename_i h;rw[xf h];rfl
    .rename_i h;rw[Th nofun]
   .rfl
  rw[e]at q;exact q
 exact h2 I H E R' (q.step (.drop λb hb=>(j7 rfl).subset hb))
theorem DS.set(i:Nat)(he:DE X J e d)(h:P.nx (J.set i (.val d)))(hN:X.N.Nodup)(hi:X.N[i]?=aa x:=by rfl)(hx:Loc X.env.scope x:=by first|exact bc rfl|exact cg rfl)
  (hs:aO e (aa (.Name x p)) pos.line X.env=pure ae:=by rfl) (hf:X.fn x=af\/X.env.scope.names.lookup x=aa .local:=by first|exact .inl rfl|exact .inr rfl):DS X J (.Assign [.Name x p] e pos) P:=λI H E R q =>
 (Qx hN hi hx peS hs hf).to (he I H _ R λv H1 g1 e1=>q.nx _ _ H1 h ((R.grow g1).set_val e1) (j5.trans (Fr0.grow g1) (Fr0.drop λb hb=>(j7 rfl).subset hb)))
def DS.setO(i:Nat)(he:DO X J e ds)(h:∀l,P.nx (J.set i (.own l ds)))(hN:X.N.Nodup)(hi:X.N[i]?=aa x:=by rfl)(hx:Loc X.env.scope x:=by first|exact bc rfl|exact cg rfl)
  (hs:aO e (aa (.Name x p)) pos.line X.env=pure ae:=by rfl) (hf:X.fn x=af\/X.env.scope.names.lookup x=aa .local:=by first|exact .inl rfl|exact .inr rfl):DS X J (.Assign [.Name x p] e pos) P:=λI H E R q =>
 (Qx hN hi hx peS hs hf).to (he I H _ R λl xs H1 g1 n m e1=>q.nx _ _ H1 (h l) (R.set_own g1 n m e1) (.new R g1 n))
def DS.if(hc:DB X J c k)(ha:k=af->DSs X J sa P)(hb:k=ae->DSs X J sb P):DS X J (.If c sa sb pos) P:=λI H E R q =>
 (j0f ptS vg vg).to (hc I H _ R λH1 g1=>by
  cases k with
  |true=>exact Rj (ha rfl I H1 E (R.grow g1) (q.step (.grow g1)))
  |false=>exact Rm (hb rfl I H1 E (R.grow g1) (q.step (.grow g1))))
def DS.ret(he:DT X J e d)(h:P.rt (.val d)):DS X J (.Return (aa e) pos) P:=λI H E R q =>(Qy peS).to (he I H _ R λv H1 g1 e1=>q.rt _ v H1 h ⟨jr.trans g1,e1⟩)
def DS.retO(he:DO X J e ds)(h:P.rt (.fresh ds)):DS X J (.Return (aa e) pos) P:=λI H E R q =>
 (Qy peS).to (he I H _ R λl xs H1 g1 n m e1=>q.rt _ _ H1 h ⟨l,xs,rfl,(λb o z=>by
  obtain⟨nb,z⟩:=qb z
  rw[jd];exact g1 b o z
  intro y;rw[xu.mp y,n]at z;cases z),m,e1.mono (zb λb hb=>by rw[xu.mp hb];exact km ..)⟩)
def DS.retV(k:Nat)(hk:J[k]?=aa (.own l ds))(h:P.rt (.fresh ds))(hN:X.N[k]?=aa x:=by rfl)(hv:Vis X.env.scope x:=by first|exact bc rfl|exact cg (bc rfl)|exact cg (cg rfl))
  (hd:(x==k89)=ae:=by decide) (hcd:(x==k8a)=ae:=by decide):DS X J (.Return (aa (.Name x p)) pos) P:=λI H E R q=>by
 obtain⟨hs,xs,m,en⟩:=R.own k l ds hk;have g:j5 (del H (owns J)) (del H [l]):=zb λb hb=>by rw[xu.mp hb];exact Jr hk
 exact(Qy (qp hN hv hd hcd)).to ⟨_,hs,q.rt _ _ H h ⟨l,xs,rfl,g,m,en.mono g⟩⟩
def DS.expr(he:DT X J e d)(h:P.nx J)(hs:aO e ag pos.line X.env=pure ae:=by rfl):DS X J (.Expr e pos) P:=λI H E R q =>(Vb peS hs).to (he I H _ R λv H1 g1 e1=>q.nx J I H1 h (R.grow g1) (.grow g1))
def j27{I:St}(hk:J[i]?=aa (.own l ds))(g:j5 H H'):Fr0 J (J.set i (.own l ds')) H (upd H' l o):=by unfold Fr0;rw[Z4 hk,Yp (Jr hk)];exact jq g
theorem DS.append(i:Nat)(hk:J[i]?=aa (.own l ds))(he:DE X J e d)(hl:ds.length<au)(h:P.nx (J.set i (.own l (ds++[d]))))
  (hN:X.N[i]?=aa x:=by rfl) (hv:Vis X.env.scope x:=by first|exact bc rfl|exact cg (bc rfl)|exact cg (cg rfl)) (hd:(x==k89)=ae:=by decide) (hcd:(x==k8a)=ae:=by decide)
  (hst:ah [e] X.env=[(ae,aD e X.env)]:=by rfl) (hline:(p1.endLine==p2.line)=af:=by rfl)
  (hbase:aY (.Name x p) "append" X.env (aD (.Name x p) X.env)=aD (.Name x p) X.env:=by rfl) (hfew:((aS p2 (ah [e] X.env)).all (λx=>!x.1)&&(bU p2 (bg [] X.env)).all (λx=>x.1.isSome)
   && decide (([e]:List ar).length+([]:List bb).length+(if ([]:List bb).isEmpty then 0 else 1)<30))=af:=by rfl)
  (hs:aO (.Call (.Attribute (.Name x p) "append" p1) [e] [] p2) ag pos.line X.env=pure ae:=by rfl) :
  DS X J (.Expr (.Call (.Attribute (.Name x p) "append" p1) [e] [] p2) pos) P:=λI H E R q=>by
 obtain⟨hσ,xs,m,en⟩:=R.own i l ds hk;refine(Vb (Uk cF cM dD Ul (qp hN hv hd hcd) (ji peS qe hst) hbase hfew hline hst rfl) hs).to ?_;refine⟨_,hσ,.inl ⟨rfl,xs,.inl (.inl m)⟩,he I H _ R λv H1 g1 e1=>⟨l,xs,v,rfl,rfl,g1 _ _ m,by rw[en.length];exact hl,?_⟩⟩;exact q.nx _ I _ h ((R.grow g1).upd_own hk ((en.mono (jq g1)).append (.one e1))) (j27 (I:=I) hk g1)
theorem DS.extend(i:Nat)(hk:J[i]?=aa (.own l ds))(he:DO X J e ds')(hl:ds.length+ds'.length<=au)(h:P.nx (J.set i (.own l (ds++ds'))))
  (hN:X.N[i]?=aa x:=by rfl) (hv:Vis X.env.scope x:=by first|exact bc rfl|exact cg (bc rfl)|exact cg (cg rfl)) (hd:(x==k89)=ae:=by decide) (hcd:(x==k8a)=ae:=by decide)
  (hst:ah [e] X.env=[(ae,aD e X.env)]:=by rfl) (hline:(p1.endLine==p2.line)=af:=by rfl)
  (hbase:aY (.Name x p) "extend" X.env (aD (.Name x p) X.env)=aD (.Name x p) X.env:=by rfl) (hfew:((aS p2 (ah [e] X.env)).all (λx=>!x.1)&&(bU p2 (bg [] X.env)).all (λx=>x.1.isSome)
   && decide (([e]:List ar).length+([]:List bb).length+(if ([]:List bb).isEmpty then 0 else 1)<30))=af:=by rfl)
  (hs:aO (.Call (.Attribute (.Name x p) "extend" p1) [e] [] p2) ag pos.line X.env=pure ae:=by rfl) :
  DS X J (.Expr (.Call (.Attribute (.Name x p) "extend" p1) [e] [] p2) pos) P:=λI H E R q=>by
 obtain⟨hσ,xs,m,en⟩:=R.own i l ds hk;refine(Vb (Uk cF ij PySem.F.type_list_extend j89 (qp hN hv hd hcd) (ji peS qe hst) hbase hfew hline hst rfl) hs).to ?_;refine⟨_,hσ,.inl ⟨rfl,xs,.inl (.inl m)⟩,he I H _ R λb ys H1 g1 n1 m1 e1=>⟨l,b,xs,ys,rfl,rfl,g1 _ _ m,m1,by rw[en.length,e1.length];exact hl,?_⟩⟩;exact q.nx _ I _ h ((R.grow g1).upd_own hk ((en.mono (jq g1)).append (e1.mono (zb λc hc=>kh _ hc)))) (j27 (I:=I) hk g1)
def M8(K:k84)(F:Hp)(nH:It)(ds:List D):Prop:=∀(i:Nat)(H:Hp)(A:List ak),j5 F (del H A)->(∀a∈A,H a≠ag) ->
 (i<ds.length->nH.go i H)/\(ds.length<=i->nH.stop i H)/\∀x H',nH.yld i H x H'->j5 H H'/\∀d,ds[i]?=aa d->Enc K (del H' A) d x
def DI(X:Cx)(J:Rho)(tg it:ar)(ds:List D):Prop:=∀I H R,Rep X.K J I H->(∀nH H',j5 H H'->M8 X.K (del H' (owns J)) nH ds->R nH H')->jai X tg it I H R
variable{tg it:ar}
def j8m{K:k84}{xs:List V}(sq:SqL K F l xs)(en:j6 K F ds xs):M8 K F (Itl K l) ds:=λi H A g hA=>by
 have sq':SqL K H l xs:=jr.seq (g.seq sq);refine⟨λh=>?_,λh=>⟨xs,sq',by rw[en.length];exact h⟩,λx H' ⟨e,y⟩=>?_⟩
 .obtain⟨v,hv,_⟩:=en.get (xf h);exact⟨xs,v,sq',hv⟩
 .subst e;refine⟨j5.refl _,λd hd=>?_⟩;obtain⟨v,hv,ev⟩:=en.get hd;have e:=y xs sq';rw[hv]at e;cases e;exact ev.mono g
def jbg{K:k84}{xs:List V}(sq:SqT K F l xs)(en:j6 K F ds xs):M8 K F (Itt K l) ds:=λi H A g hA=>by
 have sq':SqT K H l xs:=jr.seqT (g.seqT sq);refine⟨λh=>?_,λh=>⟨xs,sq',by rw[en.length];exact h⟩,λx H' ⟨e,y⟩=>?_⟩
 .obtain⟨v,hv,_⟩:=en.get (xf h);exact⟨xs,v,sq',hv⟩
 .subst e;refine⟨j5.refl _,λd hd=>?_⟩;obtain⟨v,hv,ev⟩:=en.get hd;have e:=y xs sq';rw[hv]at e;cases e;exact ev.mono g
theorem DI.lst(h:DE X J it (.lst ds)):DI X J tg it ds:=λI H R r q=>(jer peS).to (h I H _ r λv H1 g1 ⟨l,xs,e,sq,en⟩=>⟨l,e,⟨xs,jr.seq sq⟩,q _ H1 g1 (j8m sq en)⟩)
theorem DI.tup(h:DE X J it (.tup ds)):DI X J tg it ds:=λI H R r q=>(ji1 peS).to (h I H _ r λv H1 g1 ⟨l,xs,e,sq,en⟩=>⟨l,e,⟨xs,jr.seqT sq⟩,q _ H1 g1 (jbg sq en)⟩)
def upto(lo:Int)(n:Nat):List D:=(aZ n).map λk=>D.int (lo+(k:Nat))
def j63{K:k84}(lo:Int)(n:Nat):M8 K F (Itr lo n) (upto lo n):=λi H A g hA=>by
 have hl:(upto lo n).length=n:=by unfold upto;rw[xm,S8]
 rw[hl];refine⟨λh=>h,λh=>h,λx H' ⟨e,y⟩=>?_⟩;subst e;refine⟨j5.refl _,λd hd=>?_⟩;unfold upto at hd;rw[Xn]at hd;cases z:(aZ n)[i]? with
 |none=>rw[z]at hd;cases hd
 |some k =>
  rw[z]at hd;have ek:k=i:=by have:=iN (n:=n) (i:=i) (by have:=(Xl.mp z).1;rwa [S8]at this);rw[this]at z;exact(aJ z).symm
  subst ek;cases hd;exact y
def DI.range1(h:DT X J a (.int n))(hm:X.mg "range"=ag)(h1:-(2^62)<=n)(h2:n<2^62)(hg:Gl X "range":=by rfl)(hs:ah [a] X.env=[(ae,aD a X.env)]:=by rfl):DI X J tg (.Call (.Name "range" p) [a] [] pos) (upto 0 n.toNat):=λI H R r q =>(j7t hg hm (ji peS qe hs) hs).to (h I H _ r λv H1 g1 e=>⟨n,by rw[show v=.int n from e],h1,h2,q _ H1 g1 (j63 0 _)⟩)
def jaj(X:Cx)(tg:ar):TG:=λv I H Q=>∀pins s u,Inv X pins I H s->RelV v u->ay (aB X.prog X.w) X.A (eJ tg X.env u) (λ_ s'=>∃σ' H',Inv X pins σ' H' s'/\Q σ' H') X.xe s
def pgS:PG X tg (jaj X tg):=λpins s I H v u Q nI r h=>h pins s u nI r
def PG.to(h:PG X tg t)(q:t v I H Q):jaj X tg v I H Q:=λpins s u nI r=>h pins s I H v u Q nI r q
def DG(X:Cx)(J:Rho)(tg:ar)(d:D)(J':Rho):Prop:=(∀b∈owns J',b∈owns J)/\∀I H v Q,Rep X.K J I H->Enc X.K (del H (owns J)) d v->(∀σ',Rep X.K J' σ' H->Q σ' H)->jaj X tg v I H Q
def DG.name(i:Nat)(hN:X.N.Nodup)(hi:X.N[i]?=aa x:=by rfl)(hx:Loc X.env.scope x:=by first|exact bc rfl|exact cg rfl)(hf:X.fn x=af\/X.env.scope.names.lookup x=aa .local:=by first|exact .inl rfl|exact .inr rfl):DG X J (.Name x p) d (J.set i (.val d)) :=
 ⟨λb hb=>(j7 rfl).subset hb,λI H v Q R en q=>(Zf hN hi hx hf).to (q _ (R.set_val en))⟩
def DS.for(W:Nat->Rho->Prop)(hi:DI X J tg it ds)(h0:W 0 J)(hs:∀i d J',ds[i]?=aa d->W i J'->∃ρ2,DG X J' tg d ρ2/\DSs X ρ2 body { nx:=W (i+1),rt:=P.rt,bk:=P.nx,ct:=W (i+1),ex:=P.ex })
  (hd:∀J',W ds.length J'->P.nx J') (hc:X.calm=af) (hp:eR (aB X.prog X.w) X.A X.env X.xe) (hf:∀x,b8 it X.env x=pure x:=by intro _;rfl):DS X J (.For tg it body [] pos) P:=λI H E R q=>by
 refine(jhy hp hc piS pgS vg hf).to (hi I H _ R λnH H1 g1 ok=>?_);refine⟨λi m σ' H'=>∃J',W i J'/\Rep X.K J' σ' H'/\Fr0 J J' H1 H'/\m=ds.length-i/\i<=ds.length,⟨ds.length,J,h0,R.grow g1,Fr0.refl _ _,rfl,Tn _⟩,?_⟩;rintro i m σ' H' ⟨J',w,R',f,rfl,hle⟩;obtain⟨go,stop,yld⟩:=ok i H' (owns J') f λa ha=>by obtain⟨xs,e⟩:=R'.owned a ha;rw[e];simp
 by_cases hlt:i<ds.length
 .refine .inr ⟨go hlt,λσ2 H2=>∃ρ2,W (i+1) ρ2/\Rep X.K ρ2 σ2 H2/\Fr0 J ρ2 H1 H2,λσ2 H2 ⟨ρ2,w2,R2,f2⟩=>⟨ds.length-(i+1),by omega,ρ2,w2,R2,f2,rfl,hlt⟩,λx H2 y=>?_⟩;obtain⟨g2,en⟩:=yld x H2 y;obtain⟨ρ2,⟨sub,hG⟩,hB⟩:=hs i ds[i] J' (xf hlt) w;refine hG σ' H2 x _ (R'.grow g2) (en _ (xf hlt)) λσ3 R3=>?_;have f2:Fr0 J ρ2 H1 H2:=j5.trans f (j5.trans (Fr0.grow g2) (Fr0.drop sub));refine hB σ3 H2 _ R3 ⟨λρ3 σ4 H4 n R4 f4=>⟨ρ3,n,R4,f2.trans f4⟩,λρ3 σ4 H4 n R4 f4=>q.nx ρ3 σ4 H4 n R4 ((Fr0.grow g1).trans (f2.trans f4)),λρ3 σ4 H4 n R4 f4=>⟨ρ3,n,R4,f2.trans f4⟩,λr v H4 n z=>q.rt r v H4 n (Ik.step ((Fr0.grow g1).trans f2) z),λx ρ3 σ4 H4 n R4 f4=>q.ex x ρ3 σ4 H4 n R4 ((Fr0.grow g1).trans (f2.trans f4))⟩
 .have e:i=ds.length:=by omega
  subst e;exact .inl ⟨stop (Xc _),q.nx J' σ' H' (hd J' w) R' ((Fr0.grow g1).trans f)⟩
end
def za(N:List ao)(ds:List D):Rho:=ds.map Sl.val++ax (N.length-ds.length) Sl.un
def Qz(N:List ao)(ds:List D):owns (za N ds)=[]:=by
 unfold owns za;rw[List.filterMap_append];have h1:(ds.map Sl.val).filterMap Sl.addr=[]:=List.filterMap_eq_nil_iff.mpr λs hs=>by obtain⟨d,_,rfl⟩:=Xm.mp hs;rfl
 have h2:(ax (N.length-ds.length) Sl.un).filterMap Sl.addr=[]:=List.filterMap_eq_nil_iff.mpr λs hs=>by rw[(Ti.mp hs).2];rfl
 rw[h1,h2];rfl
def Ui{K:k84}(tb:TabOk K H)(h:j6 K H ds vs):Rep K (za N ds) (start N vs) H:=by
 have ho:=Qz N ds;have hl:=h.length;refine⟨by unfold za start;simp[hl],λi d e=>?_,λi a l e=>?_,by rw[ho];exact gR,λi a o y e=>?_,tb⟩
 .rw[ho,J3];unfold za at e;by_cases z:i<ds.length
  .rw[cB (by simpa using z),Xn]at e;rw[xf z]at e;cases e;obtain⟨v,hv,en⟩:=h.get (xf z);refine⟨v,?_,en⟩;unfold start;rw[cB (by rw[xm,hl];exact z),Xn,hv];rfl
  .rw[dy (by simpa using z)]at e;have:=Pg e;cases(Ti.mp this).2
 .have:=Jr e;rw[ho]at this;cases this
 .unfold za at e;rcases X8.mp (Pg e)with z|z
  .obtain⟨d,_,q⟩:=Xm.mp z;cases q
  .cases(Ti.mp z).2
section
variable{P:aA}{w:aH}{K:k84}{mg:k87}{base:aL}{x qual:ao}{st:aU}{f:ak}{fd:aN}{N ps:List ao}{k:Nat}
def Im(K:k84)(f:ak)(cdv:aj):Prop:=∃(oc:aj)(od:Option ak)(fd:aN)(sl:Array (Option aj)),K.lookup f=aa ⟨oc,od,.func fd,sl⟩/\fd.code=cdv
def Fun.okC(F:Fun K x qual st f fd)(S:FnScope N ps (j0 st))(len:∀vs H Q E,sp vs H Q E->vs.length=ps.length)
  (hbody:∀(cdv:aj)(A:aI)(outer:List d8)(s:aq)(H:Hp)(vs:List V)(Q:VK) (E:XK),Im K f cdv->Room k (A.deeper (bM qual (j0 st) s.heap.objs.size f cdv))->sp vs H Q E ->
   ∃t,PSs (qy CX0 P w K mg base N qual (j0 st) f cdv A outer s H E).nox (jj st) t/\t { nx:=λ_ H'=>Q .non H',rt:=Q } (start N vs) H) (hz:z=af\/∃x,ps=[x]/\(j0 st).names.lookup x=aa .local:=by exact .inl rfl):FnOkZ z P w K mg base CX0 (k+1) f fd ps sp:=by
 obtain⟨oc,od,dV,kV,doc,pm,an,cdv,ct,osl,rfl,lk,hcd⟩:=F.ex;refine j0n lk hcd S len (λA outer s H vs Q E hr hsp=>?_) hz;obtain⟨t,h,q⟩:=hbody cdv A outer s H vs Q E ⟨oc,od,_,osl,lk,rfl⟩ hr hsp;exact⟨t,h.nox,q⟩
def Ks(F:Fun K x qual st f fd)(Sc:FnScope N ps (j0 st))(hl:∀ds d,S ds d->ds.length=ps.length)
  (hbody:∀(cdv:aj)(A:aI)(outer:List d8)(s:aq)(H:Hp)(E:XK),Im K f cdv->Room k (A.deeper (bM qual (j0 st) s.heap.objs.size f cdv))->∀ds d,S ds d ->
   DSs (qy CX0 P w K mg base N qual (j0 st) f cdv A outer s H E).nox (za N ds) (jj st) { nx:=λ_=>d=.non,rt:=λr=>r.d=d }) (hz:z=af\/∃x,ps=[x]/\(j0 st).names.lookup x=aa .local:=by exact .inl rfl):FnOkZ z P w K mg base CX0 (k+1) f fd ps (spP K S):=by
 refine qw.toP (F.okC Sc (λvs H Q E ⟨ds,d,tb,en,hS,_⟩=>by rw[en.length];exact hl ds d hS) (λcdv A outer s H vs Q E hcv hr ⟨ds,d,tb,en,hS,q⟩=>⟨_,vg,?_⟩) hz);have ho:=Qz N ds;refine hbody cdv A outer s H E hcv hr ds d hS (start N vs) H _ (Ui tb en) ⟨λJ' σ' H' n R f=>?_,λ_ _ _ z=>z.elim,λ_ _ _ z=>z.elim,λr v H' n z=>?_,λ_ _ _ _ z=>z.elim⟩
 .subst n;unfold Fr0 at f;rw[ho,J3]at f;exact q _ H' (f.trans jr) rfl
 .cases r with
  |val d' =>cases(show d'=d from n);obtain⟨g,en'⟩:=z;rw[ho,J3]at g;exact q v H' g en'
  |fresh l =>cases(show D.lst l=d from n);obtain⟨a,xs,e,g,m,en'⟩:=z;rw[ho,J3]at g;exact q v H' (g.trans jr) ⟨a,xs,e,.inl (.inl m),en'.mono jr⟩
def jbq(F:Fun K x qual st f fd)(Sc:FnScope N ps (j0 st))(hl:∀ds d,S ds d->ds.length=ps.length)
  (hbody:∀(cdv:aj)(A:aI)(outer:List d8)(s:aq)(H:Hp)(E:XK),Im K f cdv->Room k (A.deeper (bM qual (j0 st) s.heap.objs.size f cdv))->∀ds l,S ds l ->
   DSs (qy CX0 P w K mg base N qual (j0 st) f cdv A outer s H E).nox (za N ds) (jj st) { nx:=λ_=>False,rt:=λr=>r=.fresh l }):qw P w K mg base CX0 (k+1) f fd ps (spF K S):=by
 refine qw.toF (F.okC Sc (λvs H Q E ⟨ds,d,tb,en,hS,_⟩=>by rw[en.length];exact hl ds d hS) λcdv A outer s H vs Q E hcv hr ⟨ds,l,tb,en,hS,q⟩=>⟨_,vg,?_⟩);have ho:=Qz N ds;refine hbody cdv A outer s H E hcv hr ds l hS (start N vs) H _ (Ui tb en) ⟨λJ' σ' H' n R f=>n.elim,λ_ _ _ z=>z.elim,λ_ _ _ z=>z.elim,λr v H' n z=>?_,λ_ _ _ _ z=>z.elim⟩;cases(show r=.fresh l from n);obtain⟨a,xs,e,g,m,en'⟩:=z;rw[ho,J3]at g;subst e;refine q a xs H' (g.trans jr) ?_ m en';cases y:H a with
 |none=>rfl
 |some o=>have:=g a o y;rw[J0 (xu.mpr rfl)]at this;cases this
end
section
variable{prog:aA}{w:aH}{A:aI}{R:fE->aq->Prop}{s:aq}
def j2m{iter:ar}(nI:Nat->aq->Prop)
  (turn:∀n s,nI n s->ay (aB prog w) A (eG it) (λr s₁=>match r with
   |none=>R (.ok .next) s₁
   |some v=>ay (aB prog w) A (fk target it v) (λ_ s₁'=>ay (aB prog w) A (eJ target env v) (λ_ s₂ =>
     ay (aB prog w) A (forIn ifs af λc r=>if r=af then do let ok <-fg c env (aD c env);pure (cx ok)else pure (cx r)) (λok s₃ =>
      if ok=af then ay (aB prog w) A (aD elt env) (λx s₄ =>
       ay (aB prog w) A (call (.builtin "list.append") [acc,x]) (λ_ s₅=>∃m,m<n/\nI m s₅) (λ_ _=>False) s₄) (λ_ _=>False) s₃
      else ∃m,m<n/\nI m s₃) (λ_ _=>False) s₂) (λ_ _=>False) s₁') (λ_ _=>False) s₁) (λ_ _=>False) s)
  (n:Nat) (h:nI n s) :
  cQ (aB prog w) A (.compLoop (.ListComp elt [⟨target,iter,ifs,0⟩] scope pos) 0 it acc env) R s:=by
 refine codeAny_loop rfl nI (λn s hI=>?_) n h;show ay _ A ((compTurn (.ListComp elt [⟨target,iter,ifs,0⟩] scope pos) 0 it acc env).onRaise (λx=>do dR x env;theTreesLotGoes x)) _ _ s;refine wpAny_noted ?_;rw[compTurn_list];refine ai (fX (ai (bB (turn n s hI) (λr s₁ h₁=>?_) λ_ _ h'=>h'.elim)));cases r with
 |none=>exact az h₁
 |some v =>
  refine ai (bB h₁ (λ_ s₁' h₁'=>?_) λ_ _ h'=>h'.elim);refine ai (bB h₁' (λ_ s₂ h₂=>ai (bB h₂ (λok s₃ h₃=>?_) λ_ _ h'=>h'.elim)) λ_ _ h'=>h'.elim);cases ok with
  |false=>exact az ⟨rfl,h₃⟩
  |true =>exact ai (ai (bB h₃ (λx s₄ h₄=>ai (bB h₄ (λ_ s₅ h₅=>az (az ⟨rfl,h₅⟩)) λ_ _ h'=>h'.elim)) λ_ _ h'=>h'.elim))
end
noncomputable def v7(env:d8):List (ao×bR)->List (ao×ak)->List (ao×ak)
 |[],acc=>acc
 |(n,k)::r,acc=>v7 env r (if k==.free then(match env.cells.lookup n with|some a=>(n,a)::acc|none=>acc)else acc)
def Cz{scope:bJ}{env:d8}(h:∀y∈scope.names,y.2=.free->(env.cells.lookup y.1).isSome=af):closureFor scope env=pure (v7 env scope.names []):=by
 simp only[closureFor];have step:∀(names:List (ao×bR)) (acc:List (ao×ak)),(∀y∈names,y.2=.free->(env.cells.lookup y.1).isSome=af) ->
   (forIn names acc (λx r=>(do if (x.2==bF)=af then(do let a <-cellOf env x.1;pure (cx ((x.1,a)::r)))else pure (cx r):iL _)):iL _)=pure (v7 env names acc):=by
  intro names;induction names with
  |nil=>intro acc _;rfl
  |cons y r ih =>
   intro acc hy;obtain⟨n,k⟩:=y;rw[Td];by_cases e:(k==bF)=af
   .have hk:k=.free:=by simpa using e
    have hs:=hy (n,k) (km ..) hk;obtain⟨a,ha⟩:=Xr.mp hs;have hc:cellOf env n=pure a:=by unfold cellOf;rw[ha]
    simp only[e,if_true,hc,pure_bind];rw[ih _ λz hz=>hy z (kh _ hz)];simp only[v7,e,if_true,ha]
   .have e':(k==bF)=ae:=by simpa using e
    simp only[e',Py,if_false,pure_bind];rw[ih _ λz hz=>hy z (kh _ hz)];simp only[v7,e',Py,if_false]
 have:=step scope.names [] h;rw[show(forIn scope.names ([]:List (ao×ak)) λx r=>_)=_ from this];rfl
theorem Eo{env:d8}:∀{names:List (ao×bR)} {acc:List (ao×ak)},(∀y c,acc.lookup y=aa c->env.cells.lookup y=aa c)->(v7 env names acc).lookup y=aa c->env.cells.lookup y=aa c
 |[],acc,h,q=>h y c q
 |(n,k)::r,acc,h,q=>by
  unfold v7 at q;refine Eo (acc:=_) ?_ q;intro z d hz;split at hz
  .split at hz
   .rename_i a ha;rw[Xp]at hz;split at hz
    .rename_i e;have e':z=n:=by simpa using e
     subst e';cases hz;exact ha
    .exact h z d hz
   .exact h z d hz
  .exact h z d hz
theorem La:∀{names:List (ao×bR)} {acc:List (ao×ak)},(acc.lookup y).isSome=af->((v7 env names acc).lookup y).isSome=af
 |[],acc,h=>h
 |(n,k)::r,acc,h=>by
  unfold v7;refine La ?_;split
  .split
   .rw[Xp];split
    .rfl
    .exact h
   .exact h
  .exact h
theorem M3{env:d8}(hs:(env.cells.lookup y).isSome=af):∀{names:List (ao×bR)} {acc:List (ao×ak)},(y,bF)∈names->((v7 env names acc).lookup y).isSome=af
 |[],acc,h=>nomatch h
 |(n,k)::r,acc,h=>by
  unfold v7;rcases xj.mp h with e|h
  .cases e;refine La ?_;obtain⟨a,ha⟩:=Xr.mp hs;rw[if_pos (by rfl),ha];rw[Xp];simp
  .exact M3 hs h
noncomputable def Jo(scope:bJ)(env:d8)(N:List ao)(cs:List Nat):Bool :=
 scope.names.all (λy=>(y.2 != .cell || scope.names.lookup y.1==aa .cell)&&(y.2 != .local || scope.names.lookup y.1==aa .local)&&(y.2 != .free || ((env.cells.lookup y.1).isSome&&(env.kindOf y.1==aa .cell || env.kindOf y.1==aa .free)))) &&
 (aZ N.length).all (λj=>cs.contains j || (match N[j]? with|some y=>scope.names.lookup y != aa .local&&scope.names.lookup y != aa .cell|none=>af))
def lookup_mem{α β:Type}[BEq α][LawfulBEq α]{l:List (α×β)}{a:α}{b:β}(h:l.lookup a=aa b):(a,b)∈l:=by
 induction l with
 |nil=>cases h
 |cons x r ih =>
  obtain⟨c,d⟩:=x;rw[Xp]at h;split at h
  .rename_i e;cases h;have e':a=c:=by simpa using e
   subst e';exact km ..
  .exact kh _ (ih h)
theorem Jd{env:d8}:∀{names:List (ao×bR)},
  (names.map λ(n,k)=>if (k==bF&&env.scope.kind==.function&&env.kindOf n==aa .cell) then(n,bY) else(n,k)).lookup x=aa k' ->
  ∃k,names.lookup x=aa k/\(k'=k\/(k=.free/\k'=.cell))
 |[],h=>by cases h
 |(n,k)::r,h=>by
  rw[X5]at h;rw[Xp];by_cases hc:(k==bF&&env.scope.kind==.function&&env.kindOf n==aa .cell)=af
  .dsimp only at h;rw[if_pos hc,Xp]at h;cases e:x==n with
   |true =>
    rw[e]at h;cases h;have:(k==bF)=af:=by
     cases z:k==bF with
     |true=>rfl
     |false=>rw[z]at hc;simp at hc
    exact⟨k,rfl,.inr ⟨by simpa using this,rfl⟩⟩
   |false=>rw[e]at h;exact Jd h
  .dsimp only at h;rw[if_neg hc,Xp]at h;cases e:x==n with
   |true=>rw[e]at h;cases h;exact⟨_,rfl,.inl rfl⟩
   |false=>rw[e]at h;exact Jd h
theorem U8:∀(names:List (ao×bR)) (n:Nat) (acc:List (ao×ak)),aX n names acc=aX n names []++acc
 |[],_,_=>rfl
 |(x,k)::r,n,acc=>by
  unfold aX;split
  .rw[U8 r (n+1) ((x,n)::acc),U8 r (n+1) [(x,n)],Xg];rfl
  .exact U8 r n acc
theorem Lb:∀{names:List (ao×bR)} {n:Nat} {x:ao} {c:ak},(x,c)∈aX n names []->(x,bY)∈names/\n<=c
 |[],_,_,_,h=>nomatch h
 |(y,k)::r,n,x,c,h=>by
  unfold aX at h;split at h
  .rename_i hk;rw[U8]at h;rcases X8.mp h with h|h
   .have q:=Lb h;exact⟨kh _ q.1,jQ q.2⟩
   .cases xu.mp h;have hk:k=bY:=by simpa using hk
    subst hk;exact⟨km ..,Xc _⟩
  .have q:=Lb h;exact⟨kh _ q.1,q.2⟩
theorem Yc{β:Type}:∀{l m:List (ao×β)} {y:ao},(l++m).lookup y=(l.lookup y).or (m.lookup y)
 |[],m,y=>rfl
 |(x,b)::r,m,y=>by
  rw[Xd,Xp,Xp];split
  .rfl
  .exact Yc
def Ep(h:(aX n names acc).lookup y=aa c) :
  ((y,c)∈aX n names []/\(y,bY)∈names/\n<=c)\/((aX n names []).lookup y=ag/\acc.lookup y=aa c):=by
 rw[U8,Yc]at h;cases e:(aX n names []).lookup y with
 |some c'=>rw[e]at h;cases h;have q:=lookup_mem e;exact .inl ⟨q,Lb q⟩
 |none=>rw[e]at h;exact .inr ⟨rfl,h⟩
def jko(h:(y,bY)∉names):(aX n names acc).lookup y=acc.lookup y:=by
 rw[U8,Yc];cases e:(aX n names []).lookup y with
 |some c'=>exact absurd (Lb (lookup_mem e)).1 h
 |none=>rfl
def jg5{acc:List (ao×ak)}(h:(acc.lookup y).isSome=af):∃c,(aX n names acc).lookup y=aa c:=by
 rw[U8,Yc];cases e:(aX n names []).lookup y with
 |some c'=>exact⟨c',rfl⟩
 |none=>obtain⟨c,hc⟩:=Xr.mp h;exact⟨c,hc⟩
def j1t{s:aq}{globals:ak}{env:d8}
  (hQ:Q { scope:=scope,locals:=s.heap.objs.size,globals:=globals,cells:=aX (s.heap.objs.size+1) scope.names closure,qual:=qual,func:=ag,code:=env.code,frame:=env.frame,builtins:=env.builtins }
   { s with heap:=iS (s.heap.push { cls:=.type "dict",data:=.dict #[] }) scope.names }) :
  ay M A (cY scope globals closure [] qual ag .none (aa env)) Q E s:=by
 simp only[cY,fm,if_true];refine ai (wpAny_alloc ?_);refine ai (wpAny_layCells _ (λname kind cells=>by cases hkc:kind==bY<;>simp[hkc]) _ _ _ _ ?_);rw[show({ s with heap:=s.heap.push { cls:=.type "dict",data:=.dict #[] } }:aq).heap.objs.size=s.heap.objs.size+1 from Xv ..];exact ai (az (az hQ))
noncomputable abbrev cCx(X:Cx)(scope:bJ)(C:ak)(s:aq)(H:Hp)(fp:List ak)(pn:k86):Cx :=
 { X with env:=nj scope (aX (C+1) scope.names (v7 X.env scope.names [])) C X.env,s₀:=s,H₀:=H,outer:=X.stack,stack:=X.stack,ex:=fp,fn:=λx=>scope.names.lookup x==aa .cell,pn:=pn,xe:=λ_ _=>False }
def Oo(scope:bJ)(y:ao):Bool:=scope.names.lookup y==aa .local || scope.names.lookup y==aa .cell
theorem Va{env:d8}:∀{names:List (ao×bR)} {x:ao},names.lookup x=aa .cell ->
  (names.map λ(n,k)=>if (k==bF&&env.scope.kind==.function&&env.kindOf n==aa .cell) then(n,bY) else(n,k)).lookup x=aa .cell
 |[],_,h=>by simp at h
 |(n,k)::r,x,h=>by
  have ih:=@Va env r x;rw[X5];cases hx:x==n with
  |true =>simp only[Xp,hx]at h;cases h;simp[Xp,hx]
  |false =>
   simp only[Xp,hx]at h;dsimp only;by_cases hc:(k==bF&&env.scope.kind==.function&&env.kindOf n==aa .cell)=af
   .rw[if_pos hc];simp only[Xp,hx];exact ih h
   .rw[if_neg hc];simp only[Xp,hx];exact ih h
def j3u(h:Oo scope y=af):Loc (cCx X scope C s H fp pn).env.scope y:=by
 unfold Oo at h;rw[Pz]at h;rcases h with h|h
 .exact .inl (jW (by simpa using h))
 .exact .inr (Va (by simpa using h))
def j76(h:Oo scope y=af):(cCx X scope C s H fp pn).fn y=af\/(cCx X scope C s H fp pn).env.scope.names.lookup y=aa .local:=by
 unfold Oo at h;rw[Pz]at h;rcases h with h|h
 .exact .inr (jW (by simpa using h))
 .exact .inl h
def DTs(X:Cx)(J:Rho)(ifs:List ar)(b:Bool):Prop:=match ifs with
 |[]=>b=af
 |[c]=>DB X J c b
 |_=>False
def DTs.nil:DTs X J [] af:=rfl
def DTs.one(h:DB X J c b):DTs X J [c] b:=h
def DTs.run(h:DTs X J ifs b)(nI:Inv X pins I H s)(R:Rep X.K J I H) :
  ay (aB X.prog X.w) X.A (forIn ifs af λc r=>if r=af then do let ok <-fg c X.env (aD c X.env);pure (cx ok)else pure (cx r)) (λok s'=>ok=b/\∃H',Inv X pins I H' s'/\j5 H H') X.xe s:=by
 match ifs,h with
 |[],h=>exact wpAny_tests_nil ⟨h.symm,H,nI,j5.refl H⟩
 |[c],h=>exact wpAny_tests_one (thn (h I H (λk H'=>k=b/\j5 H H') R (λH' g=>⟨rfl,g⟩) pins s nI) λk s' ⟨H',I',e,g⟩=>⟨e,H',I',g⟩)
def Rep.weaken{K:k84}{σ':St}(R:Rep K J I H)(hl:σ'.length=I.length)(h:∀(i:Nat),J[i]?≠aa .un->σ'[i]?=I[i]?):Rep K J σ' H :=
 ⟨by rw[hl,R.len],λi d e=>let ⟨v,q,z⟩:=R.val i d e;⟨v,by rw[h i (by rw[e];simp)];exact q,z⟩,λi a ds e=>let ⟨q,z⟩:=R.own i a ds e;⟨by rw[h i (by rw[e];simp)];exact q,z⟩,R.nd,λi a o x e=>let ⟨q,z⟩:=R.raw i a o x e;⟨by rw[h i (by rw[e];simp)];exact q,z⟩,R.tb⟩
def mask(cs:List Nat)(I:St):St:=I.mapIdx λj v=>if cs.contains j then ag else v
def By(cs:List Nat)(I:St):(mask cs I).length=I.length:=by unfold mask;simp
def jbb(h:(mask cs I)[j]?=aa (aa v)):j∉cs/\I[j]?=aa (aa v):=by
 unfold mask at h;rw[iF]at h;cases e:I[j]? with
 |none=>rw[e]at h;cases h
 |some u =>
  rw[e]at h;have h':(if cs.contains j then ag else u)=aa v:=aJ h;by_cases z:cs.contains j=af
  .rw[if_pos z]at h';cases h'
  .rw[if_neg z]at h';subst h';exact⟨λy=>z (by simpa using y),rfl⟩
def jba(h:j∉cs):(mask cs I)[j]?=I[j]?:=by
 unfold mask;rw[iF];cases e:I[j]? with
 |none=>rfl
 |some u=>simp[h]
def Wk(ρ2 J:Rho):Prop:=∀K I H,Rep K ρ2 I H->Rep K J I H
def Wi(H:Hp)(A B:List ak):del (del H A) B=del H (A++B):=funext λb=>by unfold del;by_cases h1:b∈A<;>by_cases h2:b∈B<;>simp[h1,h2]
structure Loose(X:Cx)(pins:k86)(H:Hp)(C:ak):Prop where
 free:H C=ag
 loc:C≠X.env.locals
 new:X.s₀.heap.objs.size<=C
 cell:∀x c,X.env.cells.lookup x=aa c->c≠C
 pin:∀p∈X.pn++pins,p.1≠C
section
variable{X:Cx}{pins:k86}{I:St}{H2:Hp}{s2:aq}{J:Rho}{tg elt iter:ar}{ifs:List ar}{scope:bJ}{pos:aR}{ds:List D}{cs:List Nat}{p:D->Bool}{g:D->D}
def jby{nH:It}{fp:List ak}{it:ak}{tn:Nat->aL->Prop}(I2:Inv X pins I H2 s2)(T:Turn X.prog X.w X.K tg nH fp it tn)(st2:tn 0 s2.heap)(f2:∀b∈fp,Qk X pins H2 b)
  (hkind:scope.kind=.function) (hok:Jo scope X.env X.N cs=af) {E:k85} {RR:aj->ak->fE->aq->Prop}
  (hk:∀(C Dd:ak)(h₁:aL),(cCx X scope C s2 H2 fp (X.pn++pins)).Ok->Inv (cCx X scope C s2 H2 fp (X.pn++pins)) [] (mask cs I) (upd H2 Dd (.lst [])) { s2 with heap:=h₁ }->s2.heap.objs.size=Dd->Dd<C->H2 Dd=ag->(∀b o,s2.heap.get? b=aa o->h₁.get? b=aa o) ->
   cQ (aB X.prog X.w) X.A (.compLoop (.ListComp elt [⟨tg,iter,ifs,0⟩] scope pos) 0 (.ref it) (.ref Dd) (nj scope (aX (C+1) scope.names (v7 X.env scope.names [])) C X.env)) (RR (.ref Dd) C) { s2 with heap:=h₁ }) :
  ay (aB X.prog X.w) X.A (newList []) (λacc s₃=>ay (aB X.prog X.w) X.A (cY scope X.env.globals (v7 X.env scope.names []) [] X.env.qual ag .none (aa X.env)) (λcenv s₄=>cenv.frame=X.env.frame /\
   cQ (aB X.prog X.w) X.A (.compStart (.ListComp elt [⟨tg,iter,ifs,0⟩] scope pos) 0 (.ref it) acc { cenv with scope:=kU scope X.env }) (RR acc cenv.locals) s₄) E s₃) E s2:=by
 unfold Jo at hok;rw[X3]at hok;obtain⟨hn,hN⟩:=hok;have hn':∀y∈scope.names,(y.2=.cell->scope.names.lookup y.1=aa .cell)/\(y.2=.free->(X.env.cells.lookup y.1).isSome=af/\(X.env.kindOf y.1=aa .cell\/X.env.kindOf y.1=aa .free)):=λy hy=>by have:=Xf.mp hn y hy;simp only[X3,bne_iff_ne,ne_eq,Pz,beq_iff_eq]at this;obtain⟨⟨a,_⟩,c⟩:=this;exact⟨λe=>a.elim (λz=>absurd e z) id,λe=>c.elim (λz=>absurd e z) id⟩
 have nocell:∀{y:ao},scope.names.lookup y=aa .free->(y,bY)∉scope.names:=λ{y} h z=>by have q:=(hn' _ z).1 rfl;rw[h]at q;cases q
 have hloc:∀(j:Nat)(y:ao),X.N[j]?=aa y->j∉cs->scope.names.lookup y≠aa .local/\scope.names.lookup y≠aa .cell:=λj y hj hc=>by
  have hlt:j<X.N.length:=(Xl.mp hj).1;have:=Xf.mp hN j (Pq.mpr hlt);rw[hj]at this;simp only[Pz,X3,bne_iff_ne,ne_eq]at this;rcases this with z|z
  .exact absurd (by simpa using z) hc
  .exact z
 have cl_of:∀{y:ao}{c:ak},(v7 X.env scope.names []).lookup y=aa c->X.env.cells.lookup y=aa c:=λ{y c} h=>Eo (λ_ _ z=>by cases z) h;refine gC (j1t ?_);dsimp only;generalize hH2:s2.heap.push { cls:=.type "list",dict:=ag,data:=.seq ([]:List aj).toArray }=hp2;have keep1:∀b o,hp2.get? b=aa o->(iS (hp2.push { cls:=.type "dict",data:=.dict #[] }) scope.names).get? b=aa o:=λb o e=>mO _ _ b o (kj _ e);have hns₁:(iS (hp2.push { cls:=.type "dict",data:=.dict #[] }) scope.names).Ns hp2.objs.size (λ_=>ag):=(Heap.Ns.new hp2 (.type "dict")).keeps (mO _ _);have okl:=cellsFrom_ok scope.names (hp2.push { cls:=.type "dict",data:=.dict #[] }) (hp2.objs.size+1) [] ⟨λ_ _ hm=>(nomatch hm),gO⟩ (by rw[Xv];exact Xc _);rw[Xv]at okl;generalize iS (hp2.push { cls:=.type "dict",data:=.dict #[] }) scope.names=h₁ at keep1 hns₁ okl ⊢;have hC:hp2.objs.size=s2.heap.objs.size+1:=by rw[<-hH2,Xv]
 have hDC:s2.heap.objs.size≠hp2.objs.size:=by rw[hC];exact Xi (S5 _)
 have hCle:s2.heap.objs.size<=hp2.objs.size:=by rw[hC];exact mR _
 have below:∀b,b<s2.heap.objs.size->b≠hp2.objs.size/\b≠s2.heap.objs.size:=λb hb=>⟨by rw[hC];exact Xi (fV hb),Xi hb⟩
 have old:∀b o,s2.heap.get? b=aa o->h₁.get? b=aa o:=λb o e=>keep1 b o (hH2▸kj _ e);have hacc:h₁.get? s2.heap.objs.size=aa { cls:=.type "list",dict:=ag,data:=.seq ([]:List aj).toArray }:=keep1 _ _ (hH2▸X7 _ rfl);have none_of:∀b,s2.heap.objs.size<=b->s2.heap.get? b=ag:=λb hb=>by
  cases e:s2.heap.get? b with
  |none=>rfl
  |some o'=>exact absurd (X4 e) (Nat.not_lt.mpr hb)
 have hD0:H2 s2.heap.objs.size=ag:=I2.fresh;generalize hDd:s2.heap.objs.size=Dd at *;generalize hCc:hp2.objs.size=C at *;have hC0:H2 C=ag:=I2.hok.fresh (by rw[hDd];exact hCle);have pinlt:∀p∈X.pn++pins,p.1<Dd:=λp hp=>by rw[<-hDd];exact X4 (I2.pin p hp).1
 have celllt:∀y c,X.env.cells.lookup y=aa c->c<Dd:=λy c h=>by obtain⟨v,o,e,_⟩:=I2.cell y c h;rw[<-hDd];exact X4 e
 have loclt:X.env.locals<Dd:=by rw[<-hDd];exact I2.lt
 have fplt:∀b∈fp,b<Dd:=λb hb=>by obtain⟨o,e,_⟩:=T.obj _ _ st2 b hb;rw[<-hDd];exact X4 e
 have hDlt:Dd<C:=by omega
 have cellD:∀{y:ao}{c:ak},(aX (C+1) scope.names (v7 X.env scope.names [])).lookup y=aa c->((y,c)∈aX (C+1) scope.names []/\C+1<=c)\/X.env.cells.lookup y=aa c:=λ{y c} h=>by
  rcases Ep h with ⟨q,_,z⟩|⟨_,q⟩
  .exact .inl ⟨q,z⟩
  .exact .inr (cl_of q)
 have celln:∀{y:ao}{c b:ak},(aX (C+1) scope.names (v7 X.env scope.names [])).lookup y=aa c->b<Dd->(∀c,X.env.cells.lookup y=aa c->c≠b)->c≠b:=λ{y c b} h hb ho=>by
  rcases cellD h with ⟨_,z⟩|q
  .exact Xu (tu hb (tu hDlt (S9 z)))
  .exact ho c q
 have okc:(cCx X scope C s2 H2 fp (X.pn++pins)).Ok:={
  mod:=I2.ok.mod
  kind:=hkind
  glob:=I2.ok.glob
  blt:=I2.ok.blt
  above:=by show s2.heap.objs.size<=C;rw[hDd];exact hCle
  inj:=λx y c h1 h2=>by
   rcases cellD h1 with ⟨m1,z1⟩|q1<;>rcases cellD h2 with ⟨m2,z2⟩|q2
   .exact name_of_addr okl.apart m1 m2
   .exact absurd (tu (celllt y c q2) (tu hDlt (S9 z1))) (T6 _)
   .exact absurd (tu (celllt x c q1) (tu hDlt (S9 z2))) (T6 _)
   .exact I2.ok.inj x y c q1 q2
  has:=λx h=>by
   have key:∀k',(kU scope X.env).names.lookup x=aa k'->(k'=.cell\/k'=.free)->∃c,(aX (C+1) scope.names (v7 X.env scope.names [])).lookup x=aa c:=λk' hk hk'=>by
    obtain⟨k,hl,e⟩:=Jd hk
    have hm:=lookup_mem hl
    have hk0:k=.free\/k=.cell:=by
     rcases e with e|e
     .subst e
      exact hk'.symm
     .exact .inl e.1
    rcases hk0 with hk0|hk0
    .subst hk0
     exact jg5 (M3 ((hn' _ hm).2 rfl).1 hm)
    .subst hk0
     exact Xr.mp (W.cellsFrom_some _ _ _ (.inl hl))
   rcases h with h|h
   .exact key _ h (.inl rfl)
   .exact key _ h (.inr rfl)
  cab:=λx c h h2=>by
   have hx:scope.names.lookup x=aa .cell:=by simpa using h
   show s2.heap.objs.size<=c
   rw[hDd]
   rcases Ep h2 with ⟨_,_,z⟩|⟨z,_⟩
   .exact eK (tu hDlt (S9 z))
   .obtain⟨c',hc'⟩:=Xr.mp (W.cellsFrom_some scope.names (C+1) [] (.inl hx))
    rw[z]at hc';cases hc'
  hd:=I2.ok.hd
  frames:=I2.ok.frames
  stk:=.inl rfl
  exf:=λb hb=>⟨Xi (tu (fplt b hb) hDlt),λx c h=>celln h (fplt b hb) λc q=>(f2 b hb).2.2.2.2.1 x c q⟩
  bs:=I2.bs
  bsz:=Xa I2.ok.bsz I2.sz
  noex:=λb o e hb=>by
   rcases(f2 b hb).2.2.2.1 with z|z
   .exact I2.ok.noex b o e z
   .exact absurd (X4 e) (Nat.not_lt.mpr (Xa I2.ok.bsz z))
  exfs:=λb hb hf=>by
   rcases xj.mp (I2.stkSub b hf)with z|z
   .exact(f2 b hb).2.1 z
   .exact(f2 b hb).2.2.1 z
  funs:=I2.stack
  frf:=I2.stkFree }
 have hpush:HOk X.prog X.w (upd H2 Dd (.lst [])) h₁:=HOk.laid I2.hok old (by rw[hDd];exact Xc _) ⟨Tn _,[],_,.nil,hacc⟩;have I0:Inv (cCx X scope C s2 H2 fp (X.pn++pins)) [] (mask cs I) (upd H2 Dd (.lst [])) { s2 with heap:=h₁ }:={
  ok:=okc
  os:=⟨rfl,I2.tk⟩
  bare:=I2.bare
  base:=Un.laid old (by rw[hDd];exact Xc _) hD0
  loc:=by
   refine⟨_,hns₁,λj y v hj hv hvis=>?_⟩
   obtain⟨hjc,hσ⟩:=jbb hv
   obtain⟨m,hm,hlook⟩:=I2.loc
   have key:∀k',(kU scope X.env).names.lookup y=aa k'->scope.names.lookup y=aa .free:=λk' hk=>by
    obtain⟨k,hl,e⟩:=Jd hk
    have hmm:=lookup_mem hl
    have:k=.free:=by
     rcases e with e|e
     .subst e
      rcases hvis with z|z|z
      .have z:=hk.symm.trans z;cases z;exact absurd hl (hloc j y hj hjc).1
      .have z:=hk.symm.trans z;cases z;exact absurd hl (hloc j y hj hjc).2
      .have z:=hk.symm.trans z;cases z;rfl
     .exact e.1
    rw[hl,this]
   have hfree:scope.names.lookup y=aa .free:=by rcases hvis with z|z|z<;>exact key _ z
   have hmm:=lookup_mem hfree
   obtain⟨hs,hk⟩:=(hn' _ hmm).2 rfl
   have hvis':Vis X.env.scope y:=by rcases hk with z|z;exact .inr (.inl z);exact .inr (.inr z)
   obtain⟨u,ru,look⟩:=hlook j y v hj hσ hvis'
   refine⟨u,ru,?_⟩
   rcases look with ⟨z,_⟩|⟨_,c,hcl,hcv⟩
   .rcases hk with y'|y'<;>rw[y']at z<;>cases z
   .refine .inr ⟨?_,c,?_,?_⟩
    .rcases hvis with z|z|z
     .exfalso
      obtain⟨k,hl,e⟩:=Jd z
      rw[hfree]at hl;cases hl
      rcases e with e|e
      .cases e
      .cases e.2
     .exact .inl z
     .exact .inr z
    .obtain⟨c',hc'⟩:=Xr.mp (M3 (acc:=[]) hs hmm)
     have:=cl_of hc'
     rw[hcl]at this;cases this
     exact(jko (nocell hfree)).trans hc'
    .obtain⟨o,e,d⟩:=hcv
     exact⟨o,old _ _ e,d⟩
  cell:=λx c h=>by
   rcases cellD h with ⟨q,_⟩|q
   .exact⟨_,(okl.empty x c q).1⟩
   .obtain⟨v,o,e,d⟩:=I2.cell x c q
    exact⟨v,o,old _ _ e,d⟩
  free:=by show upd H2 Dd (.lst []) C=ag;rw[jf (Xu hDlt)];exact hC0
  freeC:=λx c h=>by
   rcases cellD h with ⟨_,z⟩|q
   .rw[jf (Xu (tu hDlt (S9 z)))];exact I2.hok.fresh (by rw[hDd];exact eK (tu hDlt (S9 z)))
   .rw[jf (Xi (celllt x c q))];exact I2.freeC x c q
  pin:=λp hp=>by
   rw[Xq]at hp
   obtain⟨h1,h2,h3,h4,h5⟩:=I2.pin p hp
   have hlt:=pinlt p hp
   refine⟨old _ _ h1,by rw[jf (Xi hlt)];exact h2,Xi (tu hlt hDlt),λz=>?_,h5⟩
   rcases xj.mp (I2.stkSub _ z)with y|y
   .exact h3 y
   .exact h4 y
  hok:=hpush
  len:=by rw[By];exact I2.len }
 have go:=hk C Dd h₁ okc I0 rfl hDlt hD0 old;exact⟨rfl,codeAny_compStart_list go (T.self _ 0 _ _ _ (T.keep _ _ _ st2 (λb _ o e=>old b o e)) go)⟩
def El{nH:It}{fp:List ak}{it:ak}{tn:Nat->aL->Prop}(I2:Inv X pins I H2 s2)(R2:Rep X.K J I H2)(T:Turn X.prog X.w X.K tg nH fp it tn)(st2:tn 0 s2.heap)(f2:∀b∈fp,Qk X pins H2 b)
  (ok:M8 X.K (del H2 (owns J)) nH ds) (hc:X.calm=af) (hkind:scope.kind=.function) (hok:Jo scope X.env X.N cs=af) (hcs:∀j∈cs,J[j]?=aa .un) (hsz:ds.length<=au)
  (hb:∀C s H fp pn,∀d∈ds,∃ρ2,DG (cCx X scope C s H fp pn) J tg d ρ2/\Wk ρ2 J/\owns ρ2=owns J/\DTs (cCx X scope C s H fp pn) ρ2 ifs (p d)/\(p d=af->DE (cCx X scope C s H fp pn) ρ2 elt (g d)))
  {E:k85} {RR:aj->ak->fE->aq->Prop}
  (hRR:∀D C xs H' s' m,Inv X pins I H' s'->j5 H2 H'->H2 D=ag->H' D=aa (.lst xs)->j6 X.K (del H' (D::owns J)) ((ds.filter p).map g) xs->s'.heap.Ns C m->Loose X pins H' C->RR (.ref D) C (.ok .next) s') :
  ay (aB X.prog X.w) X.A (newList []) (λacc s₃=>ay (aB X.prog X.w) X.A (cY scope X.env.globals (v7 X.env scope.names []) [] X.env.qual ag .none (aa X.env)) (λcenv s₄ =>
   cQ (aB X.prog X.w) X.A (.compStart (.ListComp elt [⟨tg,iter,ifs,0⟩] scope pos) 0 (.ref it) acc { cenv with scope:=kU scope X.env }) (RR acc cenv.locals) s₄) E s₃) E s2:=by
 refine thn (jby (RR:=RR) I2 T st2 f2 hkind hok λC Dd h₁ okc I0 hDd hDlt hD0 old=>?_) λacc s₃ h=>thn h λcenv s₄ h=>h.2;have hDlt:@LT.lt Nat _ Dd C:=hDlt;have pinlt:∀p∈X.pn++pins,p.1<Dd:=λp hp=>by rw[<-hDd];exact X4 (I2.pin p hp).1
 have celllt:∀y c,X.env.cells.lookup y=aa c->c<Dd:=λy c h=>by obtain⟨v,o,e,_⟩:=I2.cell y c h;rw[<-hDd];exact X4 e
 have loclt:X.env.locals<Dd:=by rw[<-hDd];exact I2.lt
 have fplt:∀b∈fp,b<Dd:=λb hb=>by obtain⟨o,e,_⟩:=T.obj _ _ st2 b hb;rw[<-hDd];exact X4 e
 have hDo:Dd∉owns J:=R2.fresh hD0;have fpok:∀{H':Hp},(∀b∈fp,H' b=ag)->∀b∈fp,Qk (cCx X scope C s2 H2 fp (X.pn++pins)) [] H' b:=λ{H'} hn b hb =>⟨hn b hb,(okc.exf b hb).1,okc.exfs b hb,.inl hb,(okc.exf b hb).2,λp hp=>by rw[Xq]at hp;exact(f2 b hb).2.2.2.2.2 p hp⟩
 have R0:Rep X.K J (mask cs I) H2:=R2.weaken (By _ _) λj hj=>jba λz=>hj (hcs j z);have e0:del (upd H2 Dd (.lst [])) [Dd]=H2:=by
  rw[Yp (xu.mpr rfl)]
  funext b
  by_cases z:b∈[Dd]
  .rw[J0 z,xu.mp z,hD0]
  .exact jd z
 have loop:∀s₃:aq,s₃={ s2 with heap:=h₁ } ->
   cQ (aB X.prog X.w) X.A (.compLoop (.ListComp elt [⟨tg,iter,ifs,0⟩] scope pos) 0 (.ref it) (.ref Dd) (nj scope (aX (C+1) scope.names (v7 X.env scope.names [])) C X.env)) (RR (.ref Dd) C) s₃:=by
  rintro s₃ rfl;refine j2m (λn s=>∃i σ' H' ys,Inv (cCx X scope C s2 H2 fp (X.pn++pins)) [] σ' H' s/\tn i s.heap/\(∀b∈fp,H' b=ag)/\i<=ds.length/\n=ds.length-i/\Rep X.K J σ' (del H' [Dd])/\j5 H2 (del H' [Dd])/\H' Dd=aa (.lst ys) /\
   j6 X.K (del H' (Dd::owns J)) (((ds.take i).filter p).map g) ys) ?_ ds.length
   ⟨0,mask cs I,upd H2 Dd (.lst []),[],I0,T.keep _ _ _ st2 (λb _ o e=>old b o e),λb hb=>by rw[jf (Xi (fplt b hb))];exact(f2 b hb).1,Tn _,rfl,by rw[e0];exact R0,by rw[e0];exact j5.refl _,jz,rfl⟩
  rintro n s3 ⟨i,σ3,H3,ys,I3,st3,fr3,hle,rfl,R3,g3,m3,en3⟩;have F3:j5 (del H2 (owns J)) (del H3 (Dd::owns J)):=by
   have:del H3 (Dd::owns J)=del (del H3 [Dd]) (owns J):=by rw[Wi];rfl
   rw[this];exact jq g3
  obtain⟨go,stop,yld⟩:=ok i H3 (Dd::owns J) F3 λa ha=>by
   rcases xj.mp ha with e|ha
   .rw[e,m3];simp
   .obtain⟨xs,e⟩:=R3.owned a ha;rw[(qb e).2];simp
  by_cases hlt:i<ds.length
  .refine thn (T.item (cCx X scope C s2 H2 fp (X.pn++pins)) rfl rfl rfl hc i [] s3 σ3 H3 (λ_ _=>False) I3 (fpok fr3) st3 (go hlt)) λr s4 ⟨u,hr,h4⟩=>?_;subst hr;refine thn h4 λ_ s5 ⟨x,H5,I5,r5,y5,st5,fr5⟩=>?_;obtain⟨g5,en5⟩:=yld x H5 y5;have hd:ds[i]?=aa ds[i]:=xf hlt;obtain⟨ρ2,⟨sub,hG⟩,wk,eo,hT,hE⟩:=hb C s2 H2 fp (X.pn++pins) ds[i] (cw hlt);have m5:H5 Dd=aa (.lst ys):=g5 _ _ m3;have hA:∀a∈[Dd],Hd (H5 a):=λa ha=>.inl ⟨ys,by rw[xu.mp ha];exact m5⟩;have I5p:=I5.pinned (fpok fr5) (T.obj _ _ st5);have I5h:=I5p.hide hA;have R5:Rep X.K J σ3 (del H5 [Dd]):=R3.grow (jq g5);have en5':Enc X.K (del (del H5 [Dd]) (owns J)) ds[i] x:=by rw[Wi];exact en5 _ hd
   refine thn (hG σ3 (del H5 [Dd]) x (λσ6 F6=>F6=del H5 [Dd]/\Rep X.K ρ2 σ6 F6) R5 en5' (λσ6 R6=>⟨rfl,R6⟩) _ s5 u I5h r5) λ_ s6 ⟨σ6,F6,I6,e6,R6⟩=>?_;subst e6;refine thn (hT.run I6 R6) λokv s7 ⟨e7,F7,I7,g7⟩=>?_;subst e7;have R7:Rep X.K J σ6 F7:=wk _ _ _ (R6.grow g7);have g27:j5 H2 F7:=g3.trans ((jq g5).trans g7);have en7:j6 X.K (del F7 (owns J)) (((ds.take i).filter p).map g) ys:=en3.mono (by
    have:del H3 (Dd::owns J)=del (del H3 [Dd]) (owns J):=by rw[Wi];rfl
    rw[this];exact jq ((jq g5).trans g7))
   have kX:∀{F:Hp}{s':aq},Inv (cCx X scope C s2 H2 fp (X.pn++pins)) ([]++Zq fp s5.heap) σ6 F s'->Inv (cCx X scope C s2 H2 fp (X.pn++pins)) [] σ6 F s'/\tn (i+1) s'.heap/\∀b∈fp,F b=ag:=λ{F s'} nI=>by refine⟨nI.unpinned,T.keep _ _ _ st5 λb hb o e=>(nI.pin (b,o) (Xj _ (Xj _ (Zv hb e)))).1,λb hb=>?_⟩;obtain⟨o,e,d⟩:=T.obj _ _ st5 b hb;exact(nI.pin (b,o) (Xj _ (Xj _ (Zv hb e)))).2.1
   have tk:ds.take (i+1)=ds.take i++[ds[i]]:=by rw[dN,hd];rfl
   cases hp:p ds[i] with
   |false =>
    rw[if_neg xq];obtain⟨hF,I8⟩:=I5p.unhide hA I7;obtain⟨I9,st9,fr9⟩:=kX I8;refine⟨ds.length-(i+1),by omega,i+1,σ6,_,ys,I9,st9,fr9,hlt,rfl,by rw[Zh hF];exact R7,by rw[Zh hF];exact g27,by rw[Qe (xu.mpr rfl)];exact m5,?_⟩;have:del (mrg [Dd] H5 F7) (Dd::owns J)=del F7 (owns J):=by
     have e:del (mrg [Dd] H5 F7) (Dd::owns J)=del (del (mrg [Dd] H5 F7) [Dd]) (owns J):=by rw[Wi];rfl
     rw[e,Zh hF]
    rw[this,tk,ja];have e:[ds[i]].filter p=[]:=by simp[hp]
    rw[e,Xq];exact en7
   |true =>
    rw[if_pos rfl];refine thn (hE hp σ6 F7 (λv F8=>j5 F7 F8/\Enc X.K (del F8 (owns ρ2)) (g ds[i]) v) (R6.grow g7) (λv F8 g8 e8=>⟨g8,e8⟩) _ s7 I7) λy s8 ⟨v,F8,I8,r8,g8,e8⟩=>?_;obtain⟨hF,I8'⟩:=I5p.unhide hA I8;rw[eo]at e8;have eH:del (mrg [Dd] H5 F8) (Dd::owns J)=del F8 (owns J):=by
     have e:del (mrg [Dd] H5 F8) (Dd::owns J)=del (del (mrg [Dd] H5 F8) [Dd]) (owns J):=by rw[Wi];rfl
     rw[e,Zh hF]
    have hlen:ys.length<au:=by have e1:=en7.length;have e2:((ds.take i).filter p).length<=(ds.take i).length:=iA _ _;rw[xm]at e1;rw[Xk]at e2;omega
    refine thn (Ul _ s8 σ6 (mrg [Dd] H5 F8) (.ref Dd) [v] (.ref Dd) [y] (λ_ H9=>H9=upd (mrg [Dd] H5 F8) Dd (.lst (ys++[v]))) I8' rfl (.cons r8 .nil)
     ⟨Dd,ys,v,rfl,rfl,by rw[Qe (xu.mpr rfl)];exact m5,hlen,rfl⟩) λ_ s9 ⟨_,H9,I9,_,e9⟩=>?_
    subst e9;obtain⟨I10,st10,fr10⟩:=kX I9;have ed:del (upd (mrg [Dd] H5 F8) Dd (.lst (ys++[v]))) [Dd]=F8:=by rw[Yp (xu.mpr rfl),Zh hF]
    refine⟨ds.length-(i+1),by omega,i+1,σ6,_,ys++[v],I10,st10,fr10,hlt,rfl,by rw[ed];exact R7.grow g8,by rw[ed];exact g27.trans g8,jz,?_⟩;rw[Yp (km ..),eH,tk,ja,ph];have e:[ds[i]].filter p=[ds[i]]:=by simp[hp]
    rw[e];exact(en7.mono (jq g8)).append (.one e8)
  .have hi:i=ds.length:=by omega
   subst hi;refine thn (T.done (cCx X scope C s2 H2 fp (X.pn++pins)) rfl rfl rfl hc ds.length [] s3 σ3 H3 (λ_ _=>False) I3 (fpok fr3) st3 (stop (Xc _))) λr s4 ⟨hr,I4⟩=>?_;subst hr;rw[cV]at en3;obtain⟨m,hm,_⟩:=I4.loc;refine hRR Dd C ys H3 s4 m ?_ (g3.trans jr) hD0 m3 en3 hm ⟨I4.free,Xu (tu loclt hDlt),?_,λx c h=>Xi (tu (celllt x c h) hDlt),λp hp=>Xi (tu (pinlt p hp) hDlt)⟩
   .exact I2.call' (ch:=fp) I4.os I4.base I4.hok I4.bare λb hb=>⟨(f2 b hb).2.2.2.1,(f2 b hb).2.1,(f2 b hb).2.2.2.2.1,(f2 b hb).2.2.2.2.2⟩
   .have:=I2.sz;omega
 exact loop _ rfl
end
section
variable{X:Cx}{J:Rho}{tg elt iter:ar}{ifs:List ar}{scope:bJ}{pos p1 spos:aR}{ds:List D}{cs:List Nat}{p:D->Bool}{g:D->D}{x:ao}{P:Po}
def Nb(h:Jo scope env N cs=af):∀y∈scope.names,y.2=.free->(env.cells.lookup y.1).isSome=af:=λy hy e=>by unfold Jo at h;rw[X3]at h;have:=Xf.mp h.1 y hy;simp only[X3,bne_iff_ne,ne_eq,Pz]at this;exact this.2.elim (λz=>absurd e z) λz=>z.1
def Oa(h:Jo scope env N cs=af):∀y∈scope.names,y.2=.local->scope.names.lookup y.1=aa .local:=λy hy e=>by unfold Jo at h;rw[X3]at h;have:=Xf.mp h.1 y hy;simp only[X3,bne_iff_ne,ne_eq,Pz,beq_iff_eq]at this;exact this.1.2.elim (λz=>absurd e z) λz=>z
def Inv.loose(nI:Inv X pins I H s)(L:Loose X pins H C)(sb:cu C s.heap h'):Inv X pins I H { s with heap:=h' } :=
 nI.turned (t':=s.toks) (λb o hb e=>sb.extBut b o hb e) L.free L.loc (.inr L.new) L.cell L.pin
def DO.comp(cs:List Nat)(p:D->Bool)(g:D->D)(hi:DI X J tg iter ds)
  (hb:∀C s H fp pn,∀d∈ds,∃ρ2,DG (cCx X scope C s H fp pn) J tg d ρ2/\Wk ρ2 J/\owns ρ2=owns J/\DTs (cCx X scope C s H fp pn) ρ2 ifs (p d)/\(p d=af->DE (cCx X scope C s H fp pn) ρ2 elt (g d)))
  (hcs:∀j∈cs,J[j]?=aa .un) (hsz:ds.length<=au) (hc:X.calm=af:=by rfl) (hkind:scope.kind=.function:=by rfl) (hok:Jo scope X.env X.N cs=af:=by rfl)
  (hs:∀x,b8 iter X.env x=pure x:=by intro _;rfl):DO X J (.ListComp elt [⟨tg,iter,ifs,0⟩] scope pos) ((ds.filter p).map g):=λI H Q R q pins s nI=>by
 rw[eval_ListComp];refine iJ (use:=ag) rfl hs (Cz (Nb hok)) hkind (Oa hok) (thn (hi I H (λnH H'=>j5 H H'/\M8 X.K (del H' (owns J)) nH ds) R (λnH H' g1 ok=>⟨g1,ok⟩) pins s nI) λv s1 h1=>thn h1 λitv s2 h2=>?_);obtain⟨it,fp,tn,nH,H2,e,I2,T,st2,f2,g2,ok⟩:=h2;subst e;refine El (RR:=λacc C=>compPost (aB X.prog X.w) X.A X.xe ag (EP X pins I Q) acc C) I2 (R.grow g2) T st2 f2 ok hc hkind hok hcs hsz hb ?_;intro D C xs H' s' m I' gg n m' en hm L;exact⟨m,hm,λh' sb=>⟨.ref D,H',I'.loose L sb,rfl,q D xs H' (g2.trans gg) (g2.free n) m' en⟩⟩
theorem Wk.set{i:Nat}{d:D}(h:J[i]?=aa .un):Wk (J.set i (.val d)) J:=λK I H R=>by
 have q:=R.set_un (i:=i) (v:=(I[i]?).join);have e:I.set i ((I[i]?).join)=I:=by
  apply fK;intro j;rw[dO];split
  .rename_i h;subst h;split
   .rename_i h;rw[xf h];rfl
   .rename_i h;rw[Th nofun]
  .rfl
 have e2:(J.set i (.val d)).set i .un=J:=by
  rw[List.set_set];apply fK;intro j;rw[dO];split
  .rename_i z;subst z;split
   .rw[h]
   .rename_i z;rw[Th nofun]at h;cases h
  .rfl
 rw[e,e2]at q;exact q
def Bu(h:J[i]?=aa .un):owns (J.set i (.val d))=owns J:=Bv rfl λa l z=>by rw[h]at z;cases z
end
section
variable{prog:aA}{w:aH}{A:aI}{E:k85}{s:aq}
def j6b(hj:s.heap.IsTupleIter j t k)(ht:s.heap.IsTuple t its)(hy:its[k]?=aa y)
  (q:∀h',h'.IsTupleIter j t (k+1)->cu j s.heap h'->Q y { s with heap:=h' }):ay (aB prog w) A (aG (.ref j)) Q E s:=by
 obtain⟨o,ho,hc,hd⟩:=id hj;obtain⟨ot,hot,_,m,hdt⟩:=ht;unfold aG;refine ai (bG (name:=aF "__next__") hj.typeIs cy (cI cy hj.typeIs hR ?_ (gW _)));show ay _ _ (fZ (.ref j) 0 >>= _) _ _ s;refine ai (b0 ho hd (x:=.ref t) rfl ?_);show ay _ _ (if (aQ t==cG)=af then _ else _) _ _ s;rw[if_neg (show ¬((aQ t==cG)=af)from xq)];show ay _ _ (fZ (.ref j) 1 >>= _) _ _ s;refine ai (b0 ho hd (x:=.int k 0) rfl ?_);show ay _ _ (seqItems? (.ref t) >>= _) _ _ s;refine ai (bq hot hdt ?_);simp only[Xz,hy];refine ai (mY ho hd (by simp) (az ⟨y,rfl,az (q _ ?_ (gz ..))⟩));exact⟨_,Heap.get?_update_self _ ho (Obj.isFreed_of_fields (Obj.data_mapFields hd _)),(Obj.cls_mapFields ..).trans hc,by rw[Obj.data_mapFields hd];simp[fc]⟩
def j90(hh:A.handled=ag)(hj:s.heap.IsTupleIter j t k)(ht:s.heap.IsTuple t its)(hy:its[k]?=ag)
  (q:∀h' x,dJ j s.heap h'->(∃o,h'.get? x=aa o/\o.cls=.type "StopIteration")->E (.ref x) { s with heap:=h' }):ay (aB prog w) A (aG (.ref j)) Q E s:=by
 obtain⟨o,ho,hc,hd⟩:=id hj;obtain⟨ot,hot,_,m,hdt⟩:=ht;unfold aG;refine ai (bG (name:=aF "__next__") hj.typeIs cy (cI cy hj.typeIs hR ?_ (gW _)));show ay _ _ (fZ (.ref j) 0 >>= _) _ _ s;refine ai (b0 ho hd (x:=.ref t) rfl ?_);show ay _ _ (if (aQ t==cG)=af then _ else _) _ _ s;rw[if_neg (show ¬((aQ t==cG)=af)from xq)];show ay _ _ (fZ (.ref j) 1 >>= _) _ _ s;refine ai (b0 ho hd (x:=.int k 0) rfl ?_);show ay _ _ (seqItems? (.ref t) >>= _) _ _ s;refine ai (bq hot hdt ?_);simp only[Xz,hy];refine ai (ik (ai (mY ho hd (by simp) ?_)));show ay _ _ (newExc (.type "StopIteration") [] >>= _) _ _ _;refine ai ?_;simp only[newExc,newTuple];refine ai (gC ?_ (by size_fits));refine ai (m:=ni _ _) (wpAny_of_eq (a:=cG) (by first|rfl|(simp only[ni];rfl)) ?_);refine gC ?_ (by size_fits);simp only[raiseNew];refine ai (wpAny_handled ?_)
 first|rw[show A.in1.handled=ag from hh]|rw[hh]
 refine ai (az (wpAny_throw ?_));exact q _ _ (((gz ..).extBut.push _).push _) ⟨_,X7 _ rfl,rfl⟩
end
def ju(lst:Bool)(h:aL)(j t:ak)(k:Nat):Prop:=if lst=af then h.IsListIter j t k else h.IsTupleIter j t k
def jx(lst:Bool)(h:aL)(t:ak)(its:Array aj):Prop:=if lst=af then h.IsList t its else h.IsTuple t its
section
variable{prog:aA}{w:aH}{A:aI}{E:k85}{s:aq}{lst:Bool}{h h':aL}{j t b:ak}{k:Nat}{its:Array aj}
def ju.ext(x:ju lst h j t k)(e:dJ b h h')(n:j≠b):ju lst h' j t k:=by
 unfold ju at x ⊢;cases lst with
 |true=>rw[if_pos rfl]at x ⊢;exact x.extBut e n
 |false=>rw[if_neg xq]at x ⊢;exact x.extBut e n
def ju.stay(x:ju lst h j t k)(e:∀o,h.get? j=aa o->h'.get? j=aa o):ju lst h' j t k:=by
 unfold ju at x ⊢;cases lst with
 |true=>rw[if_pos rfl]at x ⊢;exact x.at e
 |false=>rw[if_neg xq]at x ⊢;exact x.at e
def ju.obj(x:ju lst h j t k):∃o,h.get? j=aa o/\∀v,o.data≠.cell v:=by
 unfold ju at x;cases lst with
 |true=>rw[if_pos rfl]at x;obtain⟨o,e,c,d⟩:=x;exact⟨o,e,λv z=>by rw[d]at z;cases z⟩
 |false=>rw[if_neg xq]at x;obtain⟨o,e,c,d⟩:=x;exact⟨o,e,λv z=>by rw[d]at z;cases z⟩
def jx.ext(x:jx lst h t its)(e:dJ b h h')(n:t≠b):jx lst h' t its:=by
 unfold jx at x ⊢;cases lst with
 |true=>rw[if_pos rfl]at x ⊢;exact x.extBut e n
 |false=>rw[if_neg xq]at x ⊢;exact x.extBut e n
def Vq(hj:ju lst s.heap j t k)(ht:jx lst s.heap t its)(hy:its[k]?=aa y)
  (q:∀h',ju lst h' j t (k+1)->cu j s.heap h'->Q y { s with heap:=h' }):ay (aB prog w) A (aG (.ref j)) Q E s:=by
 unfold ju at hj q;unfold jx at ht;cases lst with
 |true=>rw[if_pos rfl]at hj ht;simp only[if_true]at q;exact wpAny_nextOf_list_item hj ht hy q
 |false=>rw[if_neg xq]at hj ht;simp only[Py,if_false]at q;exact j6b hj ht hy q
def Ni(hh:A.handled=ag)(hj:ju lst s.heap j t k)(ht:jx lst s.heap t its)(hy:its[k]?=ag)
  (q:∀h' x,dJ j s.heap h'->(∃o,h'.get? x=aa o/\o.cls=.type "StopIteration")->E (.ref x) { s with heap:=h' }):ay (aB prog w) A (aG (.ref j)) Q E s:=by
 unfold ju at hj;unfold jx at ht;cases lst with
 |true=>rw[if_pos rfl]at hj ht;exact wpAny_nextOf_list_end hh hj ht hy q
 |false=>rw[if_neg xq]at hj ht;exact j90 hh hj ht hy q
end
section
variable{prog:aA}{w:aH}{A:aI}{E:k85}{s:aq}{l1 l2:Bool}{z TI TO i1 i2 t1 t2:ak}{k:Nat}{us vs:Array aj}{x y a b:aj}
def j6t{Q:k85}(D:dr z TI TO i1 i2 t1 t2)(hz:eB s.heap z TI TO .none)(hTI:bK s.heap TI (.ref i1) (.ref i2))(hTO:bK s.heap TO a b)
  (h1:ju l1 s.heap i1 t1 k) (h2:ju l2 s.heap i2 t2 k) (q1:jx l1 s.heap t1 us) (q2:jx l2 s.heap t2 vs) (hx:us[k]?=aa x) (hy:vs[k]?=aa y)
  (q:∀h',eB h' z TI TO (fc s.heap.objs.size)->bK h' TO x y->ju l1 h' i1 t1 (k+1)->ju l2 h' i2 t2 (k+1)->bK h' s.heap.objs.size x y->h'.objs.size=s.heap.objs.size+1 ->
   (∀c o,c≠z->c≠TO->c≠i1->c≠i2->s.heap.get? c=aa o->h'.get? c=aa o)->Q (.ref s.heap.objs.size) { s with heap:=h' }) :
  ay (aB prog w) A (c7.«zip.__next__» ⟨[.ref z],[]⟩) (λfin s'=>∃v,fin=.done (.ret v)/\Q v s') E s:=by
 show ay _ _ (fZ (.ref z) 2 >>= _) _ _ _;refine ai (b0 hz rfl (x:=.bool ae) rfl ?_);show ay _ _ (fZ (.ref z) 3 >>= _) _ _ _;refine ai (b0 hz rfl (x:=.ref TI) rfl (ai (bq hTI rfl ?_)));show ay _ _ (aM (.ref z) >>= _) _ _ _;refine ai ?_;unfold aM;refine ai (b0 hz rfl (x:=.none) rfl (az ?_));simp only[if_true];refine ai (ik (ai (b0 hz rfl (x:=.ref TO) rfl (ai (bQ hz (by simp) λg₁ z₁ s₁=>?_)))));have z₁:eB g₁ z TI TO .ellipsis:=z₁;refine ai ?_;simp only[jR,ke,Td,dz];refine ai (ai (fY ?_));show ay _ _ (aG (.ref i1) >>= _) _ _ _;refine ai (Vq (h1.ext s₁.extBut D.i1z) (q1.ext s₁.extBut D.l1z) hx λg₂ h1₂ s₂=>az ?_);have o₂:bK g₂ TO a b:=s₂.extBut _ _ D.TOi1 (s₁.extBut _ _ D.TOz hTO);refine ai (bq o₂ rfl (ai (fC o₂ λg₃ o₃ s₃=>?_)));have o₃:bK g₃ TO x b:=o₃;refine ai (jU (az (ai (ai (fY ?_)))));show ay _ _ (aG (.ref i2) >>= _) _ _ _;refine ai (Vq (((h2.ext s₁.extBut D.i2z).ext s₂.extBut D.i12.symm).ext s₃.extBut D.TOi2.symm) (((q2.ext s₁.extBut D.l2z).ext s₂.extBut D.l2i1).ext s₃.extBut D.l2TO) hy λg₄ h2₄ s₄=>az ?_);have o₄:bK g₄ TO x b:=s₄.extBut _ _ D.TOi2 o₃;refine ai (bq o₄ rfl (ai (fC o₄ λg₅ o₅ s₅=>?_)));have o₅:bK g₅ TO x y:=o₅;refine ai (jU (az (az (ai (bq o₅ rfl (ai (mZ ?_)))))));have sz:g₅.objs.size=s.heap.objs.size:=by rw[s₅.1,s₄.1,s₃.1,s₂.1,s₁.1]
 have z₅:eB g₅ z TI TO .ellipsis:=s₅.extBut _ _ D.TOz.symm (s₄.extBut _ _ D.i2z.symm (s₃.extBut _ _ D.TOz.symm (s₂.extBut _ _ D.i1z.symm z₁)));have kp:∀c o,c≠z->c≠TO->c≠i1->c≠i2->s.heap.get? c=aa o->g₅.get? c=aa o:=λc o n1 n2 n3 n4 e=>s₅.extBut _ _ n2 (s₄.extBut _ _ n4 (s₃.extBut _ _ n2 (s₂.extBut _ _ n3 (s₁.extBut _ _ n1 e))));have h1₅:ju l1 g₅ i1 t1 (k+1):=((h1₂.ext s₃.extBut D.TOi1.symm).ext s₄.extBut D.i12).ext s₅.extBut D.TOi1.symm;have h2₅:ju l2 g₅ i2 t2 (k+1):=h2₄.ext s₅.extBut D.TOi2.symm;have zlt:z<g₅.objs.size:=X4 z₅;show ay _ _ (du (.ref z) (.ref g₅.objs.size) >>= _) _ _ _;refine ai ?_;unfold du;have z₆:eB (g₅.push { cls:=.type "tuple",data:=.seq #[x,y] }) z TI TO .ellipsis:=kj _ z₅;refine ai (bQ z₆ (by simp) λg₇ z₇ s₇=>?_);have z₇:eB g₇ z TI TO (fc g₅.objs.size):=z₇;refine bQ z₇ (by simp) λg₈ z₈ s₈=>?_;have z₈:eB g₈ z TI TO (fc g₅.objs.size):=z₈;have up:∀c o,c≠z->g₅.get? c=aa o->g₈.get? c=aa o:=λc o n e=>s₈.extBut _ _ n (s₇.extBut _ _ n (kj _ e));have p₈:bK g₈ g₅.objs.size x y:=s₈.extBut _ _ (Xu zlt) (s₇.extBut _ _ (Xu zlt) (X7 _ rfl));have e₈:g₈.objs.size=g₅.objs.size+1:=by rw[s₈.1,s₇.1,Xv]
 rw[sz]at z₈ p₈ e₈;refine az ⟨_,rfl,?_⟩;show Q (.ref g₅.objs.size) _;rw[sz];exact q g₈ z₈ (up _ _ D.TOz o₅) (h1₅.stay λo e=>up _ o D.i1z e) (h2₅.stay λo e=>up _ o D.i2z e) p₈ e₈ λc o n1 n2 n3 n4 e=>up c o n1 (kp c o n1 n2 n3 n4 e)
def j9s(hh:A.handled=ag)(D:dr z TI TO i1 i2 t1 t2)(hz:eB s.heap z TI TO .none)(hTI:bK s.heap TI (.ref i1) (.ref i2))(hTO:bK s.heap TO a b)
  (h1:ju l1 s.heap i1 t1 k) (h2:ju l2 s.heap i2 t2 k) (q1:jx l1 s.heap t1 us) (q2:jx l2 s.heap t2 vs) (hend:us[k]?=ag\/vs[k]?=ag)
  (q:∀h' e,(∀c o,c≠z->c≠TO->c≠i1->c≠i2->s.heap.get? c=aa o->h'.get? c=aa o)->(∃o,h'.get? e=aa o/\o.cls=.type "StopIteration")->E (.ref e) { s with heap:=h' }) :
  ay (aB prog w) A (c7.«zip.__next__» ⟨[.ref z],[]⟩) Q E s:=by
 show ay _ _ (fZ (.ref z) 2 >>= _) _ _ _;refine ai (b0 hz rfl (x:=.bool ae) rfl ?_);show ay _ _ (fZ (.ref z) 3 >>= _) _ _ _;refine ai (b0 hz rfl (x:=.ref TI) rfl (ai (bq hTI rfl ?_)));show ay _ _ (aM (.ref z) >>= _) _ _ _;refine ai ?_;unfold aM;refine ai (b0 hz rfl (x:=.none) rfl (az ?_));simp only[if_true];refine ai (ik (ai (b0 hz rfl (x:=.ref TO) rfl (ai (bQ hz (by simp) λg₁ z₁ s₁=>?_)))));have z₁:eB g₁ z TI TO .ellipsis:=z₁;refine ai ?_;simp only[jR,ke,Td,dz];refine ai (ai (fY ?_));show ay _ _ (aG (.ref i1) >>= _) _ _ _;cases hx:us[k]? with
 |none =>
  refine ai (Ni hh (h1.ext s₁.extBut D.i1z) (q1.ext s₁.extBut D.l1z) hx λg₂ e s₂ he=>?_);obtain⟨oe,hoe,hce⟩:=he;have z₂:eB g₂ z TI TO .ellipsis:=s₂ _ _ D.i1z.symm z₁;have ez:e≠z:=λx=>by subst x;rw[z₂]at hoe;cases hoe;simp at hce
  exact bQ z₂ (by simp) λg₃ _ s₃=>q g₃ e (λc o n1 _ n3 _ x=>s₃.extBut _ _ n1 (s₂ _ _ n3 (s₁.extBut _ _ n1 x))) ⟨oe,s₃.extBut _ _ ez hoe,hce⟩
 |some x =>
  have hy:vs[k]?=ag:=by rcases hend with h|h;rw[hx]at h;cases h;exact h
  refine ai (Vq (h1.ext s₁.extBut D.i1z) (q1.ext s₁.extBut D.l1z) hx λg₂ h1₂ s₂=>az ?_);have o₂:bK g₂ TO a b:=s₂.extBut _ _ D.TOi1 (s₁.extBut _ _ D.TOz hTO);refine ai (bq o₂ rfl (ai (fC o₂ λg₃ o₃ s₃=>?_)));refine ai (jU (az (ai (ai (fY ?_)))));show ay _ _ (aG (.ref i2) >>= _) _ _ _;refine ai (Ni hh (((h2.ext s₁.extBut D.i2z).ext s₂.extBut D.i12.symm).ext s₃.extBut D.TOi2.symm) (((q2.ext s₁.extBut D.l2z).ext s₂.extBut D.l2i1).ext s₃.extBut D.l2TO) hy λg₄ e s₄ he=>?_);obtain⟨oe,hoe,hce⟩:=he;have z₄:eB g₄ z TI TO .ellipsis:=s₄ _ _ D.i2z.symm (s₃.extBut _ _ D.TOz.symm (s₂.extBut _ _ D.i1z.symm z₁));have ez:e≠z:=λx=>by subst x;rw[z₄]at hoe;cases hoe;simp at hce
  exact bQ z₄ (by simp) λg₅ _ s₅=>q g₅ e (λc o n1 n2 n3 n4 x=>s₅.extBut _ _ n1 (s₄ _ _ n4 (s₃.extBut _ _ n2 (s₂.extBut _ _ n3 (s₁.extBut _ _ n1 x))))) ⟨oe,s₅.extBut _ _ ez hoe,hce⟩
def Mu{Q:Option aj->aq->Prop}(D:dr z TI TO i1 i2 t1 t2)(hz:eB s.heap z TI TO .none)(hTI:bK s.heap TI (.ref i1) (.ref i2))(hTO:bK s.heap TO a b)
  (h1:ju l1 s.heap i1 t1 k) (h2:ju l2 s.heap i2 t2 k) (q1:jx l1 s.heap t1 us) (q2:jx l2 s.heap t2 vs) (hx:us[k]?=aa x) (hy:vs[k]?=aa y)
  (q:∀h',eB h' z TI TO (fc s.heap.objs.size)->bK h' TO x y->ju l1 h' i1 t1 (k+1)->ju l2 h' i2 t2 (k+1)->bK h' s.heap.objs.size x y->h'.objs.size=s.heap.objs.size+1 ->
   (∀c o,c≠z->c≠TO->c≠i1->c≠i2->s.heap.get? c=aa o->h'.get? c=aa o)->Q (aa (.ref s.heap.objs.size)) { s with heap:=h' }):ay (aB prog w) A (eG (.ref z)) Q E s:=by
 have T:s.TypeIs (.ref z) "zip":=⟨_,hz,rfl⟩
 unfold eG;exact ai (eF (bG (name:=aF "__next__") T Tp (cI Tp T eE
  (j6t D hz hTI hTO h1 h2 q1 q2 hx hy λh' a1 a2 a3 a4 a5 a6 a7=>az (q h' a1 a2 a3 a4 a5 a6 a7)) (dY _))))
def Bw{Q:Option aj->aq->Prop}(hh:A.handled=ag)(D:dr z TI TO i1 i2 t1 t2)(hz:eB s.heap z TI TO .none)(hTI:bK s.heap TI (.ref i1) (.ref i2))(hTO:bK s.heap TO a b)
  (h1:ju l1 s.heap i1 t1 k) (h2:ju l2 s.heap i2 t2 k) (q1:jx l1 s.heap t1 us) (q2:jx l2 s.heap t2 vs) (hend:us[k]?=ag\/vs[k]?=ag)
  (q:∀h',(∀c o,c≠z->c≠TO->c≠i1->c≠i2->s.heap.get? c=aa o->h'.get? c=aa o)->Q ag { s with heap:=h' }):ay (aB prog w) A (eG (.ref z)) Q E s:=by
 have T:s.TypeIs (.ref z) "zip":=⟨_,hz,rfl⟩
 unfold eG;refine ai (eF (bG (name:=aF "__next__") T Tp (cI Tp T eE
  (j9s hh D hz hTI hTO h1 h2 q1 q2 hend λh' e kp he=>?_) (dY _))))
 obtain⟨o,ho,hc⟩:=he;exact ai (lS (T:="StopIteration") (b:=af) ⟨o,ho,hc⟩ nh (az (q _ kp)))
end
def Ws(lst:Bool):String:=if lst=af then "list_iterator" else "tuple_iterator"
abbrev zh1(h:aL)(l1:Bool)(t1:ak):aL:=h.push { cls:=.type (Ws l1),data:=.fields #[.ref t1,.int 0 0] }
abbrev zh2(h:aL)(l1 l2:Bool)(t1 t2:ak):aL:=(zh1 h l1 t1).push { cls:=.type (Ws l2),data:=.fields #[.ref t2,.int 0 0] }
abbrev zh3(h:aL)(l1 l2:Bool)(t1 t2:ak):aL:=(zh2 h l1 l2 t1 t2).push { cls:=.type "tuple",data:=.seq #[.ref h.objs.size,.ref (zh1 h l1 t1).objs.size] }
abbrev zh4(h:aL)(l1 l2:Bool)(t1 t2:ak):aL:=(zh3 h l1 l2 t1 t2).push { cls:=.type "tuple",data:=.seq #[.none,.none] }
noncomputable abbrev zh5(h:aL)(l1 l2:Bool)(t1 t2:ak):aL:=(zh4 h l1 l2 t1 t2).push { cls:=.type "zip",data:=.fields #[.none,.bool ae,.bool ae,.ref (zh2 h l1 l2 t1 t2).objs.size,.ref (zh3 h l1 l2 t1 t2).objs.size] }
section
variable{prog:aA}{w:aH}{A:aI}{E:k85}{s:aq}{l1 l2:Bool}{t1 t2:ak}{us vs:Array aj}
def Ef(h:jx lst s.heap t its)(q:Q (.ref s.heap.objs.size) { s with heap:=zh1 s.heap lst t }):ay (aB prog w) A (kF (.ref t)) Q E s:=by
 unfold jx at h;cases lst with
 |true=>rw[if_pos rfl]at h;exact cX h q
 |false=>rw[if_neg xq]at h;exact gk h q
theorem jx.push(x:jx lst h t its)(o:cT):jx lst (h.push o) t its:=by
 unfold jx at x ⊢;cases lst with
 |true=>rw[if_pos rfl]at x ⊢;exact x.push o
 |false=>rw[if_neg xq]at x ⊢;exact x.push o
def j3r(t1 t2:ak)(us vs:Array aj):nr (c7.«zip.__new__» ⟨[.type "zip",.ref t1,.ref t2],[]⟩) (λ_ R s=>jx l1 s.heap t1 us/\jx l2 s.heap t2 vs /\
   R (.ok (.ret (.ref (zh4 s.heap l1 l2 t1 t2).objs.size))) { s with heap:=zh5 s.heap l1 l2 t1 t2 }) :=
 .of_wp λprog w A R s h=>by
  obtain⟨hp,g,d,tk,os⟩:=s;obtain⟨h1,h2,h⟩:=h;have hsub:=sub_zip;have e1:jx l1 (Shared.heap ⟨hp,g,d,tk,os⟩) t1 us:=h1;have e2:jx l2 (Shared.heap ⟨zh1 hp l1 t1,g,d,tk,os⟩) t2 vs:=h2.push _
  wp_walk using Ef e1,Ef e2
  exact⟨_,rfl,h⟩
end
def SqB(K:k84)(lst:Bool)(H:Hp)(a:ak)(xs:List V):Prop:=if lst=af then SqL K H a xs else SqT K H a xs
section
variable{X:Cx}{pins:k86}{I:St}{H:Hp}{s:aq}{a p:ak}{xs ys:List V}{lst:Bool}{ch:List ak}{h':aL}
def j5.seqB{K:k84}(e:j5 H H')(h:SqB K lst H a xs):SqB K lst H' a xs:=by
 unfold SqB at h ⊢;cases lst with
 |true=>rw[if_pos rfl]at h ⊢;exact e.seq h
 |false=>rw[if_neg xq]at h ⊢;exact e.seqT h
def Inv.side(nI:Inv X pins I H s)(h:SqB X.K lst H a xs):∃us:List aj,Vals xs us/\jx lst s.heap a us.toArray/\xs.length<=au:=by
 unfold SqB at h;unfold jx;cases lst with
 |true=>rw[if_pos rfl]at h;obtain⟨its,r,q,l⟩:=nI.list h;exact⟨its,r,by rw[if_pos rfl];exact q.isList,l⟩
 |false=>rw[if_neg xq]at h;obtain⟨its,r,q,l⟩:=nI.tuple h;exact⟨its,r,by rw[if_neg xq];exact q,l⟩
def Inv.side_inj(nI:Inv X pins I H s)(h:SqB X.K lst H a xs)(h':SqB X.K lst H a ys):xs=ys:=by
 unfold SqB at h h';cases lst with
 |true=>rw[if_pos rfl]at h h';exact nI.list_inj h h'
 |false=>rw[if_neg xq]at h h';exact nI.tuple_inj h h'
def Inv.chg(nI:Inv X pins I H s)(hf:∀b∈ch,Qk X pins H b)(kp:∀c o,c∉ch->s.heap.get? c=aa o->h'.get? c=aa o):Inv X pins I H { s with heap:=h' }:=by
 refine nI.step (g':=s.gens) (t':=s.toks) (d':=s.drawn) (ch:=ch) (λb hb=>⟨(hf b hb).2.2.2.1,(hf b hb).2.1,(hf b hb).2.2.2.2.1,(hf b hb).2.2.2.2.2⟩) (λb o _ _ nc e _=>kp b o nc e) (λb o _ _ nc e _=>⟨o.slots,kp b o nc e⟩)
  (λb o _ _ n=>n) (λb o nc e=>⟨o,kp b o nc e⟩) (λb xs e=>e) (λb o u e=>e) (λb ps e=>⟨#[],by rw[e];simp⟩) (λm hm=>hm.at' λo e=>kp _ o (λz=>(hf _ z).2.1 rfl) e) (λc o e=>?_) nI.bare
 have out:∀{b:ak}{u:HO},H b=aa u->b∉ch:=λ{b u} q z=>by rw[(hf b z).1]at q;cases q
 refine ql.stay (nI.hok c o e) (λb u hb q=>kp b u ?_ q) (λb q=>q) (λb xs q=>q) (λb _ _ q=>q);rcases hb with hb|hb
 .subst hb;exact out e
 .exact out hb
def Inv.chgT(nI:Inv X pins I H s)(hf:∀b∈ch,Qk X pins H b)(kp:∀c o,c∉ch->s.heap.get? c=aa o->h'.get? c=aa o)(rv:Vals xs us)(hl:xs.length<=au)
  (hp:kY h' s.heap.objs.size us.toArray) (hq:Y7 h' s.heap.objs.size):Inv X pins I (upd H s.heap.objs.size (.tup xs)) { s with heap:=h' }:=by
 have hn:=nI.fresh;have nz:∀{b:ak}{o:cT},s.heap.get? b=aa o->b≠s.heap.objs.size:=λ{b o} e=>Xi (X4 e);have tr:∀{b:ak}{u:HO},H b=aa u->upd H s.heap.objs.size (.tup xs) b=aa u:=λ{b u} e=>by rw[jf (zf e hn)];exact e
 refine nI.step (g':=s.gens) (t':=s.toks) (d':=s.drawn) (ch:=ch) (λb hb=>⟨(hf b hb).2.2.2.1,(hf b hb).2.1,(hf b hb).2.2.2.2.1,(hf b hb).2.2.2.2.2⟩) (λb o _ _ nc e _=>kp b o nc e) (λb o _ _ nc e _=>⟨o.slots,kp b o nc e⟩)
  (λb o _ e n=>by rw[jf (nz e)];exact n) (λb o nc e=>⟨o,kp b o nc e⟩) (λb xs e=>tr e) (λb o u e=>tr e) (λb ps e=>⟨#[],by rw[tr e];simp⟩) (λm hm=>hm.at' λo e=>kp _ o (λz=>(hf _ z).2.1 rfl) e) (λc o e=>?_) nI.bare
 have out:∀{b:ak}{u:HO},H b=aa u->b∉ch:=λ{b u} q z=>by rw[(hf b z).1]at q;cases q
 by_cases z:c=s.heap.objs.size
 .subst z;rw[jz]at e;cases e;exact⟨hl,us,rv,hp,hq⟩
 .rw[jf z]at e;refine ql.stay (nI.hok c o e) (λb u hb q=>kp b u ?_ q) (λb q=>tr q) (λb xs q=>tr q) (λb _ _ q=>tr q);rcases hb with hb|hb
  .subst hb;exact out e
  .exact out hb
end
noncomputable def Itz(K:k84)(l1 l2:Bool)(t1 t2:ak):It :=
 ⟨λi H=>∃xs ys x y,SqB K l1 H t1 xs/\SqB K l2 H t2 ys/\xs[i]?=aa x/\ys[i]?=aa y,
 λi H v H'=>∃p x y,v=.ref p/\H p=ag/\H'=upd H p (.tup [x,y])/\(∀xs,SqB K l1 H t1 xs->xs[i]?=aa x)/\∀ys,SqB K l2 H t2 ys->ys[i]?=aa y,
 λi H=>∃xs ys,SqB K l1 H t1 xs/\SqB K l2 H t2 ys/\(xs.length<=i\/ys.length<=i)⟩
def j9y{K:k84}{TI TO:ak}(D:dr z TI TO i1 i2 t1 t2) :
  Turn P w K (.Tuple es n pos) (Itz K l1 l2 t1 t2) [z,TI,TO,i1,i2] z (λi h=>eB h z TI TO .none/\bK h TI (.ref i1) (.ref i2)/\(∃a b,bK h TO a b)/\ju l1 h i1 t1 i/\ju l2 h i2 t2 i) where
 mem:=by simp
 obj:=λi h ⟨hz,hTI,⟨a,b,hTO⟩,h1,h2⟩ c hc=>by
  simp at hc;rcases hc with rfl|rfl|rfl|rfl|rfl
  .exact⟨_,hz,λv e=>by cases e⟩
  .exact⟨_,hTI,λv e=>by cases e⟩
  .exact⟨_,hTO,λv e=>by cases e⟩
  .exact h1.obj
  .exact h2.obj
 keep:=λi h h' ⟨hz,hTI,⟨a,b,hTO⟩,h1,h2⟩ k=>⟨k z (by simp) _ hz,k TI (by simp) _ hTI,⟨a,b,k TO (by simp) _ hTO⟩,h1.stay λo e=>k i1 (by simp) o e,h2.stay λo e=>k i2 (by simp) o e⟩
 item:=by
  rintro X hP hw hK hc i pins s I H E nI hf ⟨hz,hTI,⟨a,b,hTO⟩,h1,h2⟩ ⟨xs,ys,x,y,sx,sy,hx,hy⟩;subst hP hw hK;obtain⟨us,ru,qu,_⟩:=nI.side sx;obtain⟨vs,rv,qv,_⟩:=nI.side sy;obtain⟨u,hu,rx⟩:=ru.get hx;obtain⟨v,hv,ry⟩:=rv.get hy;refine Mu D hz hTI hTO h1 h2 qu qv (by simpa using hu) (by simpa using hv) λh' z' o' j1 j2 p' sz kp=>⟨_,rfl,?_⟩
  refine wpAny_letOwnedTupleGo_zip (s:={ s with heap:=h' }) z' λh'' z'' sb=>?_;have zlt:z<s.heap.objs.size:=X4 hz;have kp':∀c o,c∉[z,TO,i1,i2]->s.heap.get? c=aa o->h''.get? c=aa o:=λc o nc e=>by simp at nc;exact sb.extBut _ _ nc.1 (kp c o nc.1 nc.2.1 nc.2.2.1 nc.2.2.2 e)
  have hf':∀c∈[z,TO,i1,i2],Qk X pins H c:=λc hc=>hf c (by simp at hc ⊢;rcases hc with h|h|h|h<;>simp[h]);have pt:kY h'' s.heap.objs.size [u,v].toArray:=⟨_,sb.extBut _ _ (Xu zlt) p',rfl,_,rfl⟩
  refine⟨.ref s.heap.objs.size,_,nI.chgT hf' kp' (xs:=[x,y]) (.cons rx (.cons ry .nil)) (by show 2<=au;decide) pt (Y7.of (sb.extBut _ _ (Xu zlt) p')),rfl,⟨_,x,y,rfl,nI.fresh,rfl,λws hw=>by rw[nI.side_inj hw sx];exact hx,λws hw=>by rw[nI.side_inj hw sy];exact hy⟩,?_,λc hc=>?_⟩
  .refine⟨z'',?_,⟨u,v,sb.extBut _ _ D.TOz o'⟩,j1.ext sb.extBut D.i1z,j2.ext sb.extBut D.i2z⟩;exact sb.extBut _ _ D.TIz (kp TI _ D.TIz D.TITO D.TIi1 D.TIi2 hTI)
  .obtain⟨o,e,_⟩:∃o,s.heap.get? c=aa o/\True:=by
    simp at hc;rcases hc with rfl|rfl|rfl|rfl|rfl
    .exact⟨_,hz,trivial⟩
    .exact⟨_,hTI,trivial⟩
    .exact⟨_,hTO,trivial⟩
    .obtain⟨o,e,_⟩:=h1.obj;exact⟨o,e,trivial⟩
    .obtain⟨o,e,_⟩:=h2.obj;exact⟨o,e,trivial⟩
   rw[jf (Xi (X4 e))];exact(hf c hc).1
 done:=by
  rintro X hP hw hK hc i pins s I H E nI hf ⟨hz,hTI,⟨a,b,hTO⟩,h1,h2⟩ ⟨xs,ys,sx,sy,hend⟩;subst hP hw hK;obtain⟨us,ru,qu,_⟩:=nI.side sx;obtain⟨vs,rv,qv,_⟩:=nI.side sy;have e1:=ru.length;have e2:=rv.length;have hf':∀c∈[z,TO,i1,i2],Qk X pins H c:=λc hc=>hf c (by simp at hc ⊢;rcases hc with h|h|h|h<;>simp[h]);refine Bw (nI.ok.hd hc) D hz hTI hTO h1 h2 qu qv ?_ λh' kp=>⟨rfl,nI.chg hf' λc o nc e=>?_⟩
  .rcases hend with h|h
   .left;simp;omega
   .right;simp;omega
  .simp at nc;exact kp c o nc.1 nc.2.1 nc.2.2.1 nc.2.2.2 e
 self:=λ_ _ _ _ _ st h=>gX st.1 h
section
variable{X:Cx}{J:Rho}{a b:ar}{es:List ar}{n:Nat}{pos p q1 q2:aR}{ds ds':List D}{l1 l2:Bool}
def D.seq(lst:Bool)(ds:List D):D:=if lst=af then .lst ds else .tup ds
def Q5{K:k84}(h:Enc K H (D.seq lst ds) v):∃t xs,v=.ref t/\SqB K lst H t xs/\j6 K H ds xs:=by
 unfold D.seq at h;unfold SqB;cases lst with
 |true=>rw[if_pos rfl]at h;obtain⟨t,xs,e,s,l⟩:=h;exact⟨t,xs,e,by rw[if_pos rfl];exact s,l⟩
 |false=>rw[if_neg xq]at h;obtain⟨t,xs,e,s,l⟩:=h;exact⟨t,xs,e,by rw[if_neg xq];exact s,l⟩
def Wm(ds ds':List D):List D:=(ds.zip ds').map λp=>D.tup [p.1,p.2]
def jbf{K:k84}{xs:List V}(s1:SqB K l1 F t1 xs)(s2:SqB K l2 F t2 ys)(e1:j6 K F ds xs)(e2:j6 K F ds' ys):M8 K F (Itz K l1 l2 t1 t2) (Wm ds ds'):=λi H A g hA=>by
 have s1':SqB K l1 H t1 xs:=jr.seqB (g.seqB s1);have s2':SqB K l2 H t2 ys:=jr.seqB (g.seqB s2);have hl:(Wm ds ds').length=min ds.length ds'.length:=by unfold Wm;rw[xm,gw]
 refine⟨λh=>?_,λh=>⟨xs,ys,s1',s2',?_⟩,λv H' ⟨p,x,y,ev,np,eH,hx,hy⟩=>?_⟩
 .rw[hl]at h;obtain⟨x,hx,_⟩:=e1.get (xf (show i<ds.length by omega));obtain⟨y,hy,_⟩:=e2.get (xf (show i<ds'.length by omega));exact⟨xs,ys,x,y,s1',s2',hx,hy⟩
 .rw[hl]at h;rw[e1.length,e2.length];omega
 .subst eH;refine⟨je np,λd hd=>?_⟩;unfold Wm at hd;rw[Xn]at hd;cases z:(ds.zip ds')[i]? with
  |none=>rw[z]at hd;cases hd
  |some pr =>rw[z]at hd;cases hd;obtain⟨h1,h2⟩:=List.getElem?_zip_eq_some.mp z;obtain⟨x',hx',ex⟩:=e1.get h1;obtain⟨y',hy',ey⟩:=e2.get h2;have q1:=hx xs s1';have q2:=hy ys s2';rw[hx']at q1;cases q1;rw[hy']at q2;cases q2;have pA:p∉A:=λz=>hA p z np;have gg:j5 F (del (upd H p (.tup [x,y])) A):=g.trans (jq (je np));exact⟨p,[x,y],ev,.inl (.inl (by rw[jd pA];exact jz)),x,[y],rfl,ex.mono gg,y,[],rfl,ey.mono gg,rfl⟩
theorem DI.zip(l1 l2:Bool)(ha:DE X J a (D.seq l1 ds))(hb:DE X J b (D.seq l2 ds'))(hm:X.mg "zip"=ag)(hg:Gl X "zip":=by rfl)(hs:ah [a,b] X.env=(ae,aD a X.env)::ah [b] X.env:=by rfl)
  (hs2:ah [b] X.env=(ae,aD b X.env)::ah [] X.env:=by rfl) (hpl:(aS pos (ah [b] X.env)).any (·.1)=ae:=by rfl):DI X J (.Tuple es n q1) (.Call (.Name "zip" p) [a,b] [] pos) (Wm ds ds'):=λI H R r q pins s nI=>by
 have args:Wy X [a,b] I H (λvs H'=>∃v u,vs=[v,u]/\j5 H H'/\Enc X.K (del H' (owns J)) (D.seq l1 ds) v/\Enc X.K (del H' (owns J)) (D.seq l2 ds') u) :=
  (ji peS (ji peS qe hs2) hs).to (ha I H _ r λv H1 g1 e1=>hb I H1 _ (r.grow g1) λu H2 g2 e2=>⟨v,u,rfl,g1.trans g2,e1.mono (jq g2),e2⟩)
 refine kZ (Qf nI hg hm nv (callWith_type1 (thn (args pos pins s nI) λus s1 h1=>?_) hs hpl));obtain⟨vs,H1,I1,r1,v,u,ev,g1,e1,e2⟩:=h1;subst ev;obtain⟨t1,xs,et1,sq1,en1⟩:=Q5 e1;obtain⟨t2,ys,et2,sq2,en2⟩:=Q5 e2;subst et1 et2;obtain⟨u1,u2,eu,ru1,ru2⟩:=r1.two;subst eu;cases ru1;cases ru2;obtain⟨w1,rw1,qw1,_⟩:=I1.side (jr.seqB sq1);obtain⟨w2,rw2,qw2,_⟩:=I1.side (jr.seqB sq2);refine callType_new mX (by decide) (kz _ _) (kO _ _) (λobj=>jB obj _ _) kQ (j3r (l1:=l1) (l2:=l2) t1 t2 w1.toArray w2.toArray) ⟨qw1,qw2,?_⟩;have z1:(zh1 s1.heap l1 t1).objs.size=s1.heap.objs.size+1:=Xv ..;have z2:(zh2 s1.heap l1 l2 t1 t2).objs.size=s1.heap.objs.size+2:=by rw[Xv,z1]
 have z3:(zh3 s1.heap l1 l2 t1 t2).objs.size=s1.heap.objs.size+3:=by rw[Xv,z2]
 have z4:(zh4 s1.heap l1 l2 t1 t2).objs.size=s1.heap.objs.size+4:=by rw[Xv,z3]
 have z5:(zh5 s1.heap l1 l2 t1 t2).objs.size=s1.heap.objs.size+5:=by rw[Xv,z4]
 have b5:(zh5 s1.heap l1 l2 t1 t2).get? (zh4 s1.heap l1 l2 t1 t2).objs.size=aa _:=X7 _ rfl;have b4:(zh5 s1.heap l1 l2 t1 t2).get? (zh3 s1.heap l1 l2 t1 t2).objs.size=aa _:=kj _ (X7 _ rfl);have b3:(zh5 s1.heap l1 l2 t1 t2).get? (zh2 s1.heap l1 l2 t1 t2).objs.size=aa _:=kj _ (kj _ (X7 _ rfl));have b2:(zh5 s1.heap l1 l2 t1 t2).get? (zh1 s1.heap l1 t1).objs.size=aa _:=kj _ (kj _ (kj _ (X7 _ rfl)));have b1:(zh5 s1.heap l1 l2 t1 t2).get? s1.heap.objs.size=aa _:=kj _ (kj _ (kj _ (kj _ (X7 _ rfl))));have kp:∀c o,s1.heap.get? c=aa o->(zh5 s1.heap l1 l2 t1 t2).get? c=aa o:=λc o e=>kj _ (kj _ (kj _ (kj _ (kj _ e))));show _/\_;rw[z2,z3,z4]at b5;rw[z1,z2]at b3;rw[z3]at b4;rw[z1]at b2;rw[z4];have I2:Inv X pins I H1 { s1 with heap:=zh5 s1.heap l1 l2 t1 t2 }:=I1.kept (t':=s1.toks) kp;have lt1:t1<s1.heap.objs.size:=by
  unfold jx at qw1;cases l1 with
  |true=>rw[if_pos rfl]at qw1;obtain⟨_,e,_⟩:=qw1;exact X4 e
  |false=>rw[if_neg xq]at qw1;obtain⟨_,e,_⟩:=qw1;exact X4 e
 have lt2:t2<s1.heap.objs.size:=by
  unfold jx at qw2;cases l2 with
  |true=>rw[if_pos rfl]at qw2;obtain⟨_,e,_⟩:=qw2;exact X4 e
  |false=>rw[if_neg xq]at qw2;obtain⟨_,e,_⟩:=qw2;exact X4 e
 have side:∀{l:Bool}{j t:ak},(zh5 s1.heap l1 l2 t1 t2).get? j=aa { cls:=.type (Ws l),data:=.fields #[.ref t,.int 0 0] }->ju l (zh5 s1.heap l1 l2 t1 t2) j t 0:=λ{l j t} e=>by
  unfold ju;cases l with
  |true=>rw[if_pos rfl];exact⟨_,e,rfl,rfl⟩
  |false=>rw[if_neg xq];exact⟨_,e,rfl,rfl⟩
 refine⟨⟨_,b5,rfl⟩,gX (s:={ s1 with heap:=zh5 s1.heap l1 l2 t1 t2 }) b5 ?_⟩;refine⟨_,_,_,Itz X.K l1 l2 t1 t2,H1,rfl,I2,j9y (zipApart_new lt1 lt2),⟨b5,b3,⟨_,_,b4⟩,side b1,side b2⟩,λc hc=>?_,q _ H1 g1 (jbf sq1 sq2 en1 en2)⟩;have hc':c=s1.heap.objs.size+4\/c=s1.heap.objs.size+2\/c=s1.heap.objs.size+3\/c=s1.heap.objs.size\/c=s1.heap.objs.size+1:=by simpa using hc
 have hge:s1.heap.objs.size<=c:=by rcases hc' with e|e|e|e|e<;>rw[e]<;>first|exact Xc _|exact ka _ _
 obtain⟨f0,f1,f2,f3,f4,f5⟩:=I1.fpOk hge (I1.hok.fresh hge);exact⟨f0,f1,f2,f3,f4,f5⟩
def DG.pair(i j:Nat)(hij:i≠j)(hN:X.N.Nodup)(hi:X.N[i]?=aa x:=by rfl)(hj:X.N[j]?=aa y:=by rfl)(hx:Loc X.env.scope x:=by first|exact bc rfl|exact cg rfl)(hy:Loc X.env.scope y:=by first|exact bc rfl|exact cg rfl)
  (fx:X.fn x=af\/X.env.scope.names.lookup x=aa .local:=by first|exact .inl rfl|exact .inr rfl) (fy:X.fn y=af\/X.env.scope.names.lookup y=aa .local:=by first|exact .inl rfl|exact .inr rfl) (hc:X.calm=af:=by rfl)
  (hn:(bp [.Name x q1,.Name y q2] X.env).length=2:=by rfl) (hst:(bp [.Name x q1,.Name y q2] X.env).findIdx? (·.1)=ag:=by rfl)
  (e1:(bp [.Name x q1,.Name y q2] X.env).map (·.2)=eJ (.Name x q1) X.env::(bp [.Name y q2] X.env).map (·.2):=by rfl) (e2:(bp [.Name y q2] X.env).map (·.2)=eJ (.Name y q2) X.env::(bp [] X.env).map (·.2):=by rfl) :
  DG X J (.Tuple [.Name x q1,.Name y q2] n pos) (.tup [d,d']) ((J.set i (.val d)).set j (.val d')):=by
 refine⟨λb hb=>(j7 rfl).subset ((j7 rfl).subset hb),λI H v Q R en q=>?_⟩;obtain⟨t,xs,ev,sq,u,r,e,eu,u',r',e',eu',er⟩:=en;subst e e' ev er;refine(ji2 hc (Z9 (Zf hN hi hx fx) (Z9 (Zf hN hj hy fy) K9 e2) e1) hn hst).to ⟨t,[u,u'],rfl,jr.seqT sq,rfl,u,[u'],rfl,u',[],rfl,rfl,?_⟩;refine q _ ?_;have R1:Rep X.K (J.set i (.val d)) (I.set i (aa u)) H:=R.set_val eu;exact R1.set_val (eu'.mono (zb λb hb=>(j7 rfl).subset hb))
end
noncomputable def D.ty:D->String
 |.non=>"NoneType"
 |.bl _=>"bool"
 |.int _=>"int"
 |.str _=>"str"
 |.tup _=>"tuple"
 |.lst _=>"list"
 |.dct _ _=>"dict"
 |.sct _=>"dict"
 |.any _=>"function"
 |.fn _ _=>"function"
section
variable{X:Cx}{J:Rho}{a b:ar}{d:D}{pos p p1 p2 p3:aR}{T T1 T2:ao}{c c1 c2:String}{k:Bool}{n:Nat}
def jmt(hg:Gl X T)(hm:X.mg T=ag)(hv:cZ T=aa (.type c))(hn:T ≠ "__name__":=by decide)(hd:(T==k89)=ae:=by decide):PE X (.Name T p) (tC (.ty c)):=jet hg hm hv rfl hn hd
end
mutual
noncomputable def deq:D->D->Bool
 |.str a,.str b=>a==b
 |.lst xs,.lst ys=>Jb xs ys
 |_,_=>ae
noncomputable def Jb:List D->List D->Bool
 |[],[]=>af
 |x::xs,y::ys=>deq x y&&Jb xs ys
 |_,_=>ae
end
def j2i:deq (.str a) (.str b)=(a==b):=(rfl)
def j2k:deq (.lst a) (.lst b)=Jb a b:=(rfl)
def U7:Jb [] []=af:=(rfl)
def Zg{xs:List D}:Jb (x::xs) (y::ys)=(deq x y&&Jb xs ys):=(rfl)
def Bj:Jb [] (y::ys)=ae:=(rfl)
def Bk{xs:List D}:Jb (x::xs) []=ae:=(rfl)
mutual
noncomputable def D.dep:D->Nat
 |.lst xs=>D.depL xs+1
 |.str _=>0
 |_=>20000
noncomputable def D.depL:List D->Nat
 |[]=>0
 |x::xs=>max x.dep (D.depL xs)
end
mutual
theorem j2j:∀d:D,d.dep<10000->deq d d=af
 |.str x,_=>by rw[j2i];simp
 |.lst xs,h=>by rw[j2k];exact Up xs (by simp only[D.dep]at h;omega)
 |.non,h|.bl _,h|.int _,h|.tup _,h|.dct _ _,h|.sct _,h|.any _,h|.fn _ _,h=>by simp[D.dep]at h
theorem Up:∀ds:List D,D.depL ds<10000->Jb ds ds=af
 |[],_=>rfl
 |d::ds,h=>by rw[D.depL]at h;rw[Zg,j2j d nofun,Up ds nofun];rfl
end
theorem Ry:∀{xs ys:List D},xs.length≠ys.length->Jb xs ys=ae
 |[],[],h=>absurd rfl h
 |[],_::_,_=>by simp[U7,Zg,Bj,Bk]
 |_::_,[],_=>by simp[U7,Zg,Bj,Bk]
 |x::xs,y::ys,h=>by have:=Ry (xs:=xs) (ys:=ys) (by simpa using h);simp[U7,Zg,Bj,Bk,this]
theorem Yg:∀{xs ys:List D},xs.length=ys.length->(∀(j:Nat) x y,xs[j]?=aa x->ys[j]?=aa y->f j=deq x y)->(aZ xs.length).all f=Jb xs ys
 |[],[],_,_=>by simp[U7,Zg,Bj,Bk]
 |[],_::_,h,_=>by simp at h
 |_::_,[],h,_=>by simp at h
 |x::xs,y::ys,h,hf=>by have ih:=Yg (f:=λj=>f (j+1)) (xs:=xs) (ys:=ys) (by simpa using h) (λj a b ha hb=>hf (j+1) a b (by simpa using ha) (by simpa using hb));rw[xn,ic,d7,hf 0 x y rfl rfl,eD];simp only[Zg];rw[<-ih];rfl
section
variable{X:Cx}{pins:k86}{I:St}{H:Hp}{s:aq}
def jjk(nI:Inv X pins I H s){d d':D}(hd:d.dep<10000)(hd':d'.dep<10000)(h:Enc X.K H d v)(h':Enc X.K H d' v) :
  d=d'\/∃ds ds' xs,d=.lst ds/\d'=.lst ds'/\j6 X.K H ds xs/\j6 X.K H ds' xs:=by
 cases d with
 |str x =>
  cases(show v=.str x from h);cases d' with
  |str y=>cases(show V.str x=.str y from h');exact .inl rfl
  |lst ds=>obtain⟨a,_,e,_⟩:=h';cases e
  |_=>simp[D.dep]at hd'
 |lst ds =>
  obtain⟨a,xs,ea,sq,l⟩:=h;subst ea;cases d' with
  |str y=>cases(show V.ref a=.str y from h')
  |lst ds' =>obtain⟨a',ys,eb,sq',l'⟩:=h';cases eb;rw[nI.list_inj sq' sq]at l';exact .inr ⟨ds,ds',xs,rfl,rfl,l,l'⟩
  |_=>simp[D.dep]at hd'
 |_=>simp[D.dep]at hd
theorem jjj(ih:∀{d d':D}{v:V},d.dep<=n->d.dep<10000->d'.dep<10000->Enc X.K H d v->Enc X.K H d' v->d=d'):∀{ds ds':List D}{xs:List V},D.depL ds<=n->D.depL ds<10000->D.depL ds'<10000->j6 X.K H ds xs->j6 X.K H ds' xs->ds=ds'
 |[],[],_,_,_,_,_,_=>rfl
 |[],_::_,_,_,_,_,h,⟨x,r,e,_⟩=>by cases h;cases e
 |_::_,[],_,_,_,_,⟨x,r,e,_⟩,h=>by cases h;cases e
 |d::ds,d'::ds',_,m,n1,n2,⟨x,r,e,h,l⟩,⟨x',r',e',h',l'⟩=>by subst e;cases e';rw[D.depL]at m n1 n2;rw[ih nofun nofun nofun h h',jjj ih nofun nofun nofun l l']
theorem jji(nI:Inv X pins I H s):∀(n:Nat){d d':D}{v:V},d.dep<=n->d.dep<10000->d'.dep<10000->Enc X.K H d v->Enc X.K H d' v->d=d'
 |0,d,d',v,hn,hd,hd',h,h'=>by
  rcases jjk nI hd hd' h h' with e|⟨ds,ds',xs,e,_⟩
  .exact e
  .subst e;simp[D.dep]at hn
 |n+1,d,d',v,hn,hd,hd',h,h'=>by
  rcases jjk nI hd hd' h h' with e|⟨ds,ds',xs,e,e',l,l'⟩
  .exact e
  .subst e e';simp only[D.dep]at hn hd hd';rw[jjj (λa b c=>jji nI n a b c) nofun nofun nofun l l']
def Enc.inj(nI:Inv X pins I H s){d d':D}(hd:d.dep<10000)(hd':d'.dep<10000)(h:Enc X.K H d v)(h':Enc X.K H d' v):d=d':=jji nI d.dep (Xc _) hd hd' h h'
end
section
variable{X:Cx}{pins:k86}{I:St}{H:Hp}{s:aq}
theorem D.depL_le:∀{ds:List D}{j:Nat}{d:D},ds[j]?=aa d->d.dep<=D.depL ds
 |[],_,_,h=>by simp at h
 |x::xs,0,d,h=>by simp at h;subst h;simp[D.depL];omega
 |x::xs,j+1,d,h=>by have:=D.depL_le (ds:=xs) (j:=j) (d:=d) (by simpa using h);simp[D.depL];omega
theorem Wa(nI:Inv X pins I H s):∀(n:Nat)(A:aI){d d':D}{v v':V}{u u':aj},d.dep<=n->A.units+n<bH->d'.dep<10000->Enc X.K H d v->RelV v u->Enc X.K H d' v'->RelV v' u' ->
  iI A s u u' (deq d d')/\fq A s u u' (deq d d')
 |0,A,d,d',v,v',u,u',hn,hu,nd,en,r,en',r'=>by
  have hu0:A.units<bH:=by omega
  cases d with
  |str b =>
   cases(show v=.str b from en);obtain⟨tk,q0⟩:=(show ∃t:{t:Nat // t≠0},u=bC b t.1 from r);subst q0;cases d' with
   |str k=>cases(show v'=.str k from en');obtain⟨t,q⟩:=(show ∃t:{t:Nat // t≠0},u'=bC k t.1 from r');subst q;exact⟨.str_str _ _ _ _,.str_str _ _ _ _⟩
   |lst l=>obtain⟨a,xs,e,sq,_⟩:=en';subst e;cases(show u'=aQ a from r');obtain⟨_,_,q,_⟩:=nI.list sq;exact⟨.str_list _ _ q.isList hu0,.str_list _ _ q.isList hu0⟩
   |_=>simp[D.dep]at nd
  |_=>simp[D.dep]at hn
 |n+1,A,d,d',v,v',u,u',hn,hu,nd,en,r,en',r'=>by
  have hu0:A.units<bH:=by omega
  have hu1:A.in1.units+n<bH:=by show A.units+1+n<bH;omega
  have low:d.dep<=n->iI A s u u' (deq d d')/\fq A s u u' (deq d d'):=λh=>Wa nI n A h nofun nd en r en' r';cases d with
  |str b=>exact low (by simp[D.dep])
  |lst ds =>
   have hd:D.depL ds<=n:=by simp[D.dep]at hn;omega
   obtain⟨a,xs,e,sq,l⟩:=id en;subst e;cases(show u=aQ a from r);obtain⟨us,rv,q0,_⟩:=nI.list sq;have q:=q0.isList;cases d' with
   |str k=>cases(show v'=.str k from en');obtain⟨t,q'⟩:=(show ∃t:{t:Nat // t≠0},u'=bC k t.1 from r');subst q';exact⟨.list_str _ _ q hu0,.list_str _ _ q hu0⟩
   |lst ds' =>
    obtain⟨a',ys,e,sq',l'⟩:=id en';subst e;cases(show u'=aQ a' from r');obtain⟨us',rv',q0',_⟩:=nI.list sq';have q':=q0'.isList;have e1:us.length=ds.length:=by rw[<-rv.length,l.length]
    have e2:us'.length=ds'.length:=by rw[<-rv'.length,l'.length]
    have main:iI A s (.ref a) (.ref a') (deq (.lst ds) (.lst ds')):=by
     have item:∀(j:Nat)(h1:j<us.toArray.size)(h2:j<us'.toArray.size),fq A.in1 s us.toArray[j] us'.toArray[j] (deq (ds.getD j .non) (ds'.getD j .non)):=λj h1 h2=>by
      have k1:j<ds.length:=by rw[<-e1];simpa using h1
      have k2:j<ds'.length:=by rw[<-e2];simpa using h2
      obtain⟨x,hx,ex⟩:=l.get (xf k1);obtain⟨y,hy,ey⟩:=l'.get (xf k2);obtain⟨w1,hw1,rw1⟩:=rv.get hx;obtain⟨w2,hw2,rw2⟩:=rv'.get hy;have g1:us.toArray[j]=w1:=by simp at h1 ⊢;rw[xf (by simpa using h1)]at hw1;exact aJ hw1
      have g2:us'.toArray[j]=w2:=by simp at h2 ⊢;rw[xf (by simpa using h2)]at hw2;exact aJ hw2
      rw[g1,g2,xx,xx,xf k1,xf k2];exact(Wa nI n A.in1 (Xa (D.depL_le (xf k1)) hd) hu1 (dF (D.depL_le (xf k2)) (by simp only[D.dep]at nd;omega)) ex rw1 ey rw2).2
     simp only[j2k];by_cases hl:ds.length=ds'.length
     .have z:=SeqAt.RcAt.lists (A:=A) (s:=s) q q' (by simp[e1,e2,hl]) hu0 (e:=λj=>deq (ds.getD j .non) (ds'.getD j .non)) item;have ev:(aZ us.toArray.size).all (λj=>deq (ds.getD j .non) (ds'.getD j .non))=Jb ds ds':=by rw[Xb,e1];exact Yg hl λj x y hx hy=>by rw[xx,xx,hx,hy];rfl
      rw[ev]at z;exact z
     .rw[Ry hl];exact .lists_lengths q q' (by simp[e1,e2,hl]) hu0
    refine⟨main,?_⟩;by_cases ea:a=a'
    .subst ea;have e9:(9900:Nat)=bH:=rfl;rw[Enc.inj nI nofun nd en en',j2j _ nd];exact .same _
    .exact .of_refs ea main
   |_=>simp[D.dep]at nd
  |_=>exfalso;have:(9900:Nat)=bH:=rfl;simp only[D.dep]at hn;omega
end
section
variable{X:Cx}{pins:k86}{I:St}{H:Hp}{s:aq}{A:aI}
def jbi(nI:Inv X pins I H s){xs:List V}(l:j6 X.K H ds xs)(rv:Vals xs us)(l':j6 X.K H ds' ys)(rv':Vals ys us')(hd:D.depL ds<=n)(hu:A.units+1+n<bH)(nd:D.depL ds'<10000) :
  ∀(j:Nat)(h1:j<us.toArray.size)(h2:j<us'.toArray.size),fq A.in1 s us.toArray[j] us'.toArray[j] (deq (ds.getD j .non) (ds'.getD j .non)):=λj h1 h2=>by
 have k1:j<ds.length:=by rw[<-l.length,rv.length];simpa using h1
 have k2:j<ds'.length:=by rw[<-l'.length,rv'.length];simpa using h2
 obtain⟨x,hx,ex⟩:=l.get (xf k1);obtain⟨y,hy,ey⟩:=l'.get (xf k2);obtain⟨w1,hw1,rw1⟩:=rv.get hx;obtain⟨w2,hw2,rw2⟩:=rv'.get hy;have g1:us.toArray[j]=w1:=by simp at h1 ⊢;rw[xf (by simpa using h1)]at hw1;exact aJ hw1
 have g2:us'.toArray[j]=w2:=by simp at h2 ⊢;rw[xf (by simpa using h2)]at hw2;exact aJ hw2
 rw[g1,g2,xx,xx,xf k1,xf k2];exact(Wa nI n A.in1 (Xa (D.depL_le (xf k1)) hd) hu (dF (D.depL_le (xf k2)) nd) ex rw1 ey rw2).2
def j80(hu:X.A.units+100<bH):OpR X (bu .Eq) (λx y H Q=>∃d d',Enc X.K H d x/\Enc X.K H d' y/\d.dep<=100/\d'.dep<10000/\Q (.bl (deq d d')) H):=by rintro pins s I H x y v u Q nI rx ry ⟨d,d',en,en',hd,nd,q⟩;exact(Wa nI 100 X.A hd hu nd en rx en' ry).1 X.prog X.w X.xe _ ⟨.bl (deq d d'),H,nI,rfl,q⟩
def j7y(hu:X.A.units+100<bH):OpR X (bu .NotEq) (λx y H Q=>∃ds ds' k,Enc X.K H (D.seq k ds) x/\Enc X.K H (D.seq k ds') y/\D.depL ds<=98/\D.depL ds'<10000/\Q (.bl (!Jb ds ds')) H):=by
 rintro pins s I H x y v u Q nI rx ry ⟨ds,ds',k,en,en',hd,nd,q⟩;have h0:X.A.units<bH:=by omega
 obtain⟨t,xs,e,sq,l⟩:=Q5 en;obtain⟨t',ys,e',sq',l'⟩:=Q5 en';subst e e';cases rx;cases ry;obtain⟨us,rv,qs,_⟩:=nI.side sq;obtain⟨us',rv',qs',_⟩:=nI.side sq';have e1:us.length=ds.length:=by rw[<-rv.length,l.length]
 have e2:us'.length=ds'.length:=by rw[<-rv'.length,l'.length]
 have item:=jbi (A:=X.A) nI l rv l' rv' hd nofun nd;unfold jx at qs qs';cases k with
 |true =>
  rw[if_pos rfl]at qs qs';by_cases hl:ds.length=ds'.length
  .have z:=SeqAt.RcNeAt.lists (A:=X.A) (s:=s) qs qs' (by simp[e1,e2,hl]) h0 (e:=λj=>deq (ds.getD j .non) (ds'.getD j .non)) item;have ev:(aZ us.toArray.size).all (λj=>deq (ds.getD j .non) (ds'.getD j .non))=Jb ds ds':=by rw[Xb,e1];exact Yg hl λj x y hx hy=>by rw[xx,xx,hx,hy];rfl
   rw[ev]at z;exact z X.prog X.w X.xe _ ⟨.bl (!Jb ds ds'),H,nI,rfl,q⟩
  .have z:=SeqAt.RcNeAt.lists_lengths (A:=X.A) (s:=s) qs qs' (by simp[e1,e2,hl]) h0;rw[Ry hl]at q;exact z X.prog X.w X.xe _ ⟨.bl af,H,nI,rfl,q⟩
 |false =>
  rw[if_neg xq]at qs qs';have z:=SeqAt.RcNeAt.tuples (A:=X.A) (s:=s) qs qs' h0 (e:=λj=>deq (ds.getD j .non) (ds'.getD j .non)) item;have ev:((aZ (min us.toArray.size us'.toArray.size)).all (λj=>deq (ds.getD j .non) (ds'.getD j .non))&&us.toArray.size==us'.toArray.size)=Jb ds ds':=by
   simp only[Xb,e1,e2];by_cases hl:ds.length=ds'.length
   .rw[hl,Nat.min_self,beq_self_eq_true,kL,<-hl];exact Yg hl λj x y hx hy=>by rw[xx,xx,hx,hy];rfl
   .rw[Ry hl,beq_false_of_ne hl,dC]
  rw[ev]at z;exact z X.prog X.w X.xe _ ⟨.bl (!Jb ds ds'),H,nI,rfl,q⟩
noncomputable def eqW(X:Cx)(H:Hp)(d:D)(y:aj):Bool:=@decide (∃e v,e.dep<10000/\Enc X.K H e v/\RelV v y/\deq e d=af) (cD _)
def j8z(nI:Inv X pins I H s){e:D}(he:e.dep<10000)(en:Enc X.K H e v)(r:RelV v y):eqW X H d y=deq e d:=by
 unfold eqW;cases h:deq e d with
 |true=>exact @decide_eq_true _ (cD _) ⟨e,v,he,en,r,h⟩
 |false =>refine @decide_eq_false _ (cD _) λ⟨e',v',he',en',r',h'⟩=>?_;rw[r'.inj r]at en';rw[Enc.inj nI he' he en' en,h]at h';cases h'
theorem Ij(nI:Inv X pins I H s):∀{ds:List D}{xs:List V}{us:List aj},D.depL ds<10000->j6 X.K H ds xs->Vals xs us->us.any (eqW X H d)=ds.any λe=>deq e d
 |[],_,_,_,h,r=>by cases h;cases r;rfl
 |e::ds,_,_,hd,⟨x,r,eq,h,l⟩,rv=>by
  subst eq;rw[D.depL]at hd;cases rv with
  |cons a b=>rw[Tw,Tw,Ij nI nofun l b,j8z nI nofun h a]
theorem Ke(nI:Inv X pins I H s)(en:Enc X.K H d v)(r:RelV v u)(nd:d.dep<10000)(hu:A.units+n<bH):∀{ds:List D}{xs:List V}{us:List aj},D.depL ds<=n->j6 X.K H ds xs->Vals xs us->∀y∈us,fq A s y u (eqW X H d y)
 |[],_,_,_,h,rv,y,hy=>by cases h;cases rv;cases hy
 |e::ds,_,_,hd,⟨x,r',eq,h,l⟩,rv,y,hy=>by
  subst eq;have hd':e.dep<=n/\D.depL ds<=n:=by simp[D.depL]at hd;omega
  cases rv with
  |cons a b =>
   rcases xj.mp hy with rfl|hy
   .have e9:(9900:Nat)=bH:=rfl;rw[j8z nI nofun h a];exact(Wa nI n A hd'.1 hu nd h a en r).2
   .exact Ke nI en r nd hu hd'.2 l b y hy
def j7z(hu:X.A.units+100<bH):OpR X (bu .In) (λx y H Q=>∃d ds k,Enc X.K H d x/\Enc X.K H (D.seq k ds) y/\D.depL ds<=98/\d.dep<10000/\Q (.bl (ds.any λe=>deq e d)) H):=by
 rintro pins s I H x y v u Q nI rx ry ⟨d,ds,k,en,en',hd,nd,q⟩;obtain⟨t,xs,e,sq,l⟩:=Q5 en';subst e;cases ry;obtain⟨us,rv,qs,_⟩:=nI.side sq;have me:=λy (hy:y∈us.toArray)=>Ke (A:=X.A.in1) nI en rx nd (n:=98) (by show X.A.units+1+98<bH;omega) hd l rv y (by simpa using hy);have ev:us.toArray.any (eqW X H d)=ds.any λe=>deq e d:=by rw[jS];exact Ij nI nofun l rv
 unfold jx at qs;cases k with
 |true=>rw[if_pos rfl]at qs;exact SeqAt.in_listAt (eqW X H d) qs me (by rw[ev];exact⟨.bl _,H,nI,rfl,q⟩)
 |false=>rw[if_neg xq]at qs;exact SeqAt.in_tupleAt (eqW X H d) qs me (by rw[ev];exact⟨.bl _,H,nI,rfl,q⟩)
def Iz(hu:X.A.units+100<bH):OpR X (bu .NotIn) (λx y H Q=>∃d ds k,Enc X.K H d x/\Enc X.K H (D.seq k ds) y/\D.depL ds<=98/\d.dep<10000/\Q (.bl (!ds.any λe=>deq e d)) H):=by
 rintro pins s I H x y v u Q nI rx ry ⟨d,ds,k,en,en',hd,nd,q⟩;obtain⟨t,xs,e,sq,l⟩:=Q5 en';subst e;cases ry;obtain⟨us,rv,qs,_⟩:=nI.side sq;have me:=λy (hy:y∈us.toArray)=>Ke (A:=X.A.in1) nI en rx nd (n:=98) (by show X.A.units+1+98<bH;omega) hd l rv y (by simpa using hy);have ev:us.toArray.any (eqW X H d)=ds.any λe=>deq e d:=by rw[jS];exact Ij nI nofun l rv
 unfold jx at qs;cases k with
 |true=>rw[if_pos rfl]at qs;exact SeqAt.notIn_listAt (eqW X H d) qs me (by rw[ev];exact⟨.bl _,H,nI,rfl,q⟩)
 |false=>rw[if_neg xq]at qs;exact SeqAt.notIn_tupleAt (eqW X H d) qs me (by rw[ev];exact⟨.bl _,H,nI,rfl,q⟩)
def jb6:OpR X (bO .Add) (λx y H Q=>∃a b xs ys,x=.ref a/\y=.ref b/\SqT X.K H a xs/\SqT X.K H b ys/\xs.length+ys.length<=au /\
  (xs=[]->Q (.ref b) H)/\(xs≠[]->ys=[]->Q (.ref a) H)/\(xs≠[]->ys≠[]->∀p,H p=ag->Q (.ref p) (upd H p (.tup (xs++ys))))):=by
 rintro pins s I H x y v u Q nI rx ry ⟨a,b,xs,ys,e,e',sa,sb,hz,q1,q2,q3⟩;by_cases hx:xs=[]
 .subst e e' hx;cases rx;cases ry;obtain⟨us,ru,⟨⟨c1,d1,f1,g1⟩,h1,k1,n1,m1⟩,_⟩:=nI.tuple sa;obtain⟨vs,rv,⟨⟨c2,d2,f2,g2⟩,h2,k2,n2,m2⟩,_⟩:=nI.tuple sb;cases ru;have k1:c1=.type "tuple":=k1;have m1:f1=.seq ([]:List aj).toArray n1:=m1;have k2:c2=.type "tuple":=k2;have m2:f2=.seq vs.toArray n2:=m2;subst k1 m1 k2 m2;exact gG ⟨_,h1,rfl⟩ ⟨_,h2,rfl⟩ gY iK dS dM (dE _ _)
   (tuple_addW0 a b ([]:List aj).toArray vs.toArray n1 n2 d1 d2 g1 g2 (by simp)) ⟨h1,h2,⟨.ref b,H,nI,rfl,q1 rfl⟩⟩
 .exact jf0 pins s I H x y v u Q nI rx ry ⟨a,b,xs,ys,e,e',sa,sb,hx,hz,q2 hx,q3 hx⟩
theorem all_range:∀bs:List Bool,(aZ bs.length).all (λi=>(bs[i]?).getD af)=bs.all id
 |[]=>rfl
 |b::bs=>by rw[xn,ic,d7,eD,d7,<-all_range bs];rfl
def j3m(hc:X.calm=af):Qc X (.builtin "all") (λxs H Q=>∃(l:ak)(bs:List Bool),xs=[.ref l]/\SqL X.K H l (bs.map V.bl)/\Q (.bl (bs.all id)) H):=by
 rintro pins s I H xs us Q nI r ⟨l,bs,e,sq,q⟩;subst e;obtain⟨u,eu,ru⟩:=vals1 r;subst eu;cases ru;obtain⟨its,rv,pl,_⟩:=nI.list sq;have hlt:l<s.heap.objs.size:=by obtain⟨_,_,e,_⟩:=pl;exact X4 e
 have hl:its.length=bs.length:=by rw[<-rv.length,xm]
 refine Jc (.inl nI.tk) <| call_all_walk (cX pl.isList ⟨s.heap.objs.size,[s.heap.objs.size,l],[s.heap.objs.size],its.toArray.size,_,_,λi=>(bs[i]?).getD af,rfl,Walks.list (A:=X.A.in1) (nI.ok.hd hc) _ _ (Xi hlt) its.toArray,⟨⟨_,X7 _ rfl,rfl,rfl⟩,pl.isList.push _⟩,?_,λh' tk kp=>?_⟩)
 .intro i v s' Q' E' hv hq;have hi:i<its.length:=by have:=Array.getElem?_eq_some_iff.mp hv;obtain⟨h,_⟩:=this;simpa using h
  have hb:i<bs.length:=by omega
  obtain⟨w1,hw,rw1⟩:=rv.get (x:=.bl bs[i]) (i:=i) (by rw[Xn,xf hb];rfl);have:its.toArray[i]?=aa w1:=by simpa using hw
  rw[this]at hv;cases hv;cases rw1;simp only[xf hb,T3]at hq;exact bS hq
 .have ev:(aZ its.toArray.size).all (λi=>(bs[i]?).getD af)=bs.all id:=by rw[Xb,hl];exact all_range bs
  rw[ev];refine λ(ht:0<tk)=>⟨.bl _,H,nI.kept (t':=tk) λb o e=>kp b o ?_ (kj _ e),rfl,q⟩
  intro z;rw[xu.mp z]at e;exact T6 _ (X4 e)
end
section
variable{X:Cx}{J:Rho}{a b e:ar}{d d':D}{ds ds':List D}{i j:Int}{pos p p1 p2:aR}{k:Nat}{x:ao}{P:Po}
def DE.eqD(hu:X.A.units+100<bH)(ha:DT X J a d)(hb:DT X J b d')(hd:d.dep<=100)(nd:d'.dep<10000):DE X J (.Compare a [.Eq] [b] pos) (.bl (deq d d')):=λI H Q R q =>(Qm (j80 hu) peS peS (vo _)).to (ha I H _ R λv H1 g1 e1=>hb I H1 _ (R.grow g1) λu H2 g2 e2=>⟨d,d',e1.mono g2,e2,hd,nd,q _ H2 (g1.trans g2) rfl⟩)
def DB.eqD(hu:X.A.units+100<bH)(ha:DT X J a d)(hb:DT X J b d')(hd:d.dep<=100)(nd:d'.dep<10000):DB X J (.Compare a [.Eq] [b] pos) (deq d d'):=λI H Q R q =>(Q4 (j80 hu) peS peS (vo _)).to (ha I H _ R λv H1 g1 e1=>hb I H1 _ (R.grow g1) λu H2 g2 e2=>⟨d,d',e1.mono g2,e2,hd,nd,_,rfl,q H2 (g1.trans g2)⟩)
def DB.neD(s:Bool)(hu:X.A.units+100<bH)(ha:DT X J a (D.seq s ds))(hb:DT X J b (D.seq s ds'))(hd:D.depL ds<=98)(nd:D.depL ds'<10000):DB X J (.Compare a [.NotEq] [b] pos) (!Jb ds ds'):=λI H Q R q =>(Q4 (j7y hu) peS peS (vo _)).to (ha I H _ R λv H1 g1 e1=>hb I H1 _ (R.grow g1) λu H2 g2 e2=>⟨ds,ds',s,e1.mono g2,e2,hd,nd,_,rfl,q H2 (g1.trans g2)⟩)
def DB.notIn(s:Bool)(hu:X.A.units+100<bH)(ha:DT X J a d)(hb:DT X J b (D.seq s ds))(hd:D.depL ds<=98)(nd:d.dep<10000)(hm:aV .NotIn b=ae:=by with_unfolding_all rfl):DB X J (.Compare a [.NotIn] [b] pos) (!ds.any λe=>deq e d):=λI H Q R q =>(Q4 (Iz hu) peS peS hm).to (ha I H _ R λv H1 g1 e1=>hb I H1 _ (R.grow g1) λu H2 g2 e2=>⟨d,ds,s,e1.mono g2,e2,hd,nd,_,rfl,q H2 (g1.trans g2)⟩)
def DB.in(s:Bool)(hu:X.A.units+100<bH)(ha:DT X J a d)(hb:DT X J b (D.seq s ds))(hd:D.depL ds<=98)(nd:d.dep<10000)(hm:aV .In b=ae:=by with_unfolding_all rfl):DB X J (.Compare a [.In] [b] pos) (ds.any λe=>deq e d):=λI H Q R q =>(Q4 (j7z hu) peS peS hm).to (ha I H _ R λv H1 g1 e1=>hb I H1 _ (R.grow g1) λu H2 g2 e2=>⟨d,ds,s,e1.mono g2,e2,hd,nd,_,rfl,q H2 (g1.trans g2)⟩)
theorem DE.min(ha:DT X J a (.int i))(hb:DT X J b (.int j))(hm:X.mg "min"=ag)(hc:X.calm=af:=by rfl)(hg:Gl X "min":=by rfl)(hs:ah [a,b] X.env=(ae,aD a X.env)::ah [b] X.env:=by rfl)(hs2:ah [b] X.env=(ae,aD b X.env)::ah [] X.env:=by rfl)
  (hpl:(aS pos (ah [b] X.env)).any (·.1)=ae:=by rfl):DE X J (.Call (.Name "min" p) [a,b] [] pos) (.int (if j<i then j else i)):=λI H Q R q =>
 (J9 (j9k hc) hg hm boot_min (ji peS (ji peS qe hs2) hs) (by decide) (by decide) hs hpl).to (ha I H _ R λv H1 g1 e1=>hb I H1 _ (R.grow g1) λu H2 g2 e2=>⟨i,j,by rw[show v=.int i from e1,show u=.int j from e2],q _ H2 (g1.trans g2) rfl⟩)
theorem j2f{K:k84}:∀{bs:List Bool}{xs:List V},j6 K H (bs.map D.bl) xs->xs=bs.map V.bl
 |[],_,h=>h
 |b::bs,_,⟨x,r,e,h,l⟩=>by subst e;cases(show x=.bl b from h);rw[j2f l];rfl
theorem DE.all{bs:List Bool}(ha:DT X J a (.lst (bs.map D.bl)))(hm:X.mg "all"=ag)(hc:X.calm=af:=by rfl)(hg:Gl X "all":=by rfl)(hs:ah [a] X.env=[(ae,aD a X.env)]:=by rfl):DE X J (.Call (.Name "all" p) [a] [] pos) (.bl (bs.all id)):=λI H Q R q =>(J9 (j3m hc) hg hm boot_all (ji peS qe hs) (by decide) (by decide) hs).to (ha I H _ R λv H1 g1 ⟨l,xs,e,sq,en⟩=>⟨l,bs,by rw[e],by rw[j2f en]at sq;exact sq,q _ H1 g1 rfl⟩)
def jhc(X:Cx)(e:Option ar):TO:=λI H Q=>∀pins s,Inv X pins I H s->ay (aB X.prog X.w) X.A (evalPart e X.env) (λu s'=>∃o H',Inv X pins I H' s'/\kI u o/\Q o H') X.xe s
def poS{e:Option ar}:PO X e (jhc X e):=λpins s I H Q nI h=>h pins s nI
def DP(X:Cx)(J:Rho)(e:Option ar)(o:Option Int):Prop:=∀I H Q,Rep X.K J I H->(∀H',j5 H H'->Q o H')->jhc X e I H Q
def DP.none:DP X J ag ag:=λI H Q R q pins s nI=>jeq pins s I H Q nI (q H (j5.refl H))
def DP.some(h:DT X J e (.int i)):DP X J (aa e) (aa i):=λI H Q R q pins s nI=>jep peS pins s I H Q nI (h I H _ R λv H1 g1 e1=>⟨i,e1,q H1 g1⟩)
variable{lo hi:Option ar}{l u:Option Int}
end
section
variable{X:Cx}{pins:k86}{I:St}{H:Hp}{s:aq}
def Own(X:Cx)(cs:List ak):Prop:=∀c∈cs,∃y,X.env.cells.lookup y=aa c/\X.fn y=af
end
section
variable{X:Cx}{J:Rho}{e a b c:ar}{es:List ar}{st:aU}{rest sa sb body:List aU}{P:Po}{d:D}{ds ds':List D}{pos p p1 p2 p3:aR}{x:ao}{i:Nat}
def DSs.last(h:DS X J st P):DSs X J [st] P:=.cons h λJ' n=>DSs.nil n
def Cal.comp(h:Cal X x sp):Cal (cCx X scope C s H fp pn) x sp:=⟨h.ex⟩
end
def Q3(lo:Int)(n:Nat):(upto lo n).length=n:=by unfold upto;rw[xm,S8]
theorem D.depL_of:∀{ds:List D},(∀d∈ds,d.dep<=n)->D.depL ds<=n
 |[],_=>by simp only[D.depL];omega
 |x::xs,h=>by simp only[D.depL];have h1:=h x (km ..);have h2:=D.depL_of (ds:=xs) λd m=>h d (kh _ m);omega
end L2
namespace L2
noncomputable def Jt(b:Int):Nat->Int->zo
 |0,_=>[]
 |i+1,n=>(n/b^i%b)::Jt b i n
theorem Uy(b:Int):∀(m:Nat)(n:Int),(Jt b m n).length=m
 |0,_=>rfl
 |m+1,n=>by rw[Jt,xn,Uy b m n]
theorem j2g(b:Int):∀{m k:Nat}{n:Int},k<m->(Jt b m n)[k]?=aa (n/b^(m-k-1)%b)
 |m+1,0,n,_=>by rw[Jt];rfl
 |m+1,k+1,n,h=>by
  rw[Jt,dZ,j2g b nofun];have:m-k-1=m+1-(k+1)-1:=by omega
  rw[this]
end L2
end
section
namespace L2
open PySem PySem.Spec PyProof.Rows
def CX1(P:aA)(w:aH):CXT:=λouter H s E ev s'=>∃(e:ak)(C:aj)(H':Hp),ev=.ref e/\(s'.os=s.os/\0<s'.toks)/\eC s'.gens/\Un (frs outer) [] H H' s.heap s'.heap/\HOk P w H' s'.heap /\
 Fl (λb=>∃o,s.heap.get? b=aa o) H' s'.heap e C/\E C ag H'
theorem ql.get(x:ql P w H h a o):∃u,h.get? a=aa u:=by
 cases o with
 |lst xs=>obtain⟨_,_,_,_,e⟩:=x;exact⟨_,e⟩
 |tup xs=>obtain⟨_,_,_,⟨_,e,_⟩,_⟩:=x;exact⟨_,e⟩
 |dK kvs=>obtain⟨_,_,_,_,o,_,_,e,_⟩:=x;exact⟨_,e⟩
 |dT kvs=>obtain⟨_,_,_,_,o,_,_,e,_⟩:=x;exact⟨_,e⟩
 |dI xs ep=>obtain⟨_,_,_,o,_,e,_⟩:=x;exact⟨_,e⟩
 |set S n=>obtain⟨o,_,_,_,e,_⟩:=x;exact⟨_,e⟩
 |ins C dx fs=>obtain⟨_,_,_,e,_⟩:=x;exact⟨_,e⟩
 |own y=>obtain⟨_,e⟩:=x;exact⟨_,e⟩
 |xd fs=>obtain⟨_,⟨_,_,_,e,_⟩,_⟩:=x;exact⟨_,e⟩
 |rng lo hi=>obtain⟨_,_,_,e⟩:=x;exact⟨_,e⟩
 |frz ob u=>obtain⟨e,_⟩:=x;exact⟨_,e⟩
 |tbl ps=>exact⟨_,(show h.get? a=aa _ from x)⟩
 |cod q=>obtain⟨_,e,_⟩:=x;exact⟨_,e⟩
 |met f y=>exact⟨_,(show h.get? a=aa _ from x)⟩
 |ext φ=>obtain⟨_,⟨_,e⟩,_⟩:=x;exact⟨_,e⟩
section
variable{X:Cx}{pins:k86}{I:St}{H:Hp}{s:aq}
def Inv.old(nI:Inv X pins I H s)(h:Old X pins b):∃o,s.heap.get? b=aa o:=by
 rcases h with ⟨o,q,n⟩|⟨p,hp,rfl⟩|rfl|⟨x,e⟩
 .exact nI.base.there b o q n
 .exact⟨_,(nI.pin p hp).1⟩
 .obtain⟨m,⟨o,_,_,e,_⟩,_⟩:=nI.loc;exact⟨o,e⟩
 .obtain⟨v,o,e,_⟩:=nI.cell x b e;exact⟨o,e⟩
end
section
variable{P:aA}{w:aH}{K:k84}{mg:k87}{base:aL}{N ps:List ao}{qual:ao}{scope:bJ}{f:ak}{cd:aj}{A:aI}{outer:List d8}{s s':aq}{H H':Hp}{E:XK}{I:St}{pins:k86}{e:ak}{C:aj}
def Kc(nI:Inv (qy (CX1 P w) P w K mg base N qual scope f cd A outer s H E) pins I H' s')(F:FlQ (flF (qy (CX1 P w) P w K mg base N qual scope f cd A outer s H E).env) (Old (qy (CX1 P w) P w K mg base N qual scope f cd A outer s H E) pins) H' s'.heap e C)
  (hE:E C ag H') (ha:∀b,b∈as↔b∈frs (bM qual scope s.heap.objs.size f cd::outer)\/(¬(∃o,s.heap.get? b=aa o)/\H' b=ag/\b∈as)) (hfa:∀b∈frs (bM qual scope s.heap.objs.size f cd::outer),b∈as)
  (hL:Heap.LeftW (W.hideAll s'.heap as) (bM qual scope s.heap.objs.size f cd::outer) e C a0 s'.heap h'):CX1 P w outer H s E (.ref e) { s' with heap:=h' }:=by
 obtain⟨k1,k2,k3,k4⟩:=hL;have fr:∀b∈frs outer,∃o,s'.heap.get? b=aa o/\∀vs,o.data≠.fields vs:=λb hb=>by obtain⟨o,ho,hd⟩:=(nI.stack.mem (show b∈frs (bM qual scope s.heap.objs.size f cd::outer)from kh _ hb)).2;exact⟨o,ho,hd⟩
 have sfree:∀b∈frs (bM qual scope s.heap.objs.size f cd::outer),H' b=ag:=nI.stkFree;have keep:∀b o,s'.heap.get? b=aa o->b∉as->h'.get? b=aa o:=λb o q n=>k1 b o (W.hideAll_get _ q n);have nold:∀b o,s.heap.get? b=aa o->b∉frs outer->b∉as:=λb o q n z=>by
  rcases(ha b).mp z with z|⟨z,_⟩
  .rcases xj.mp z with z|z
   .have:=X4 q;rw[show b=s.heap.objs.size from z]at this;exact absurd this (T6 _)
   .exact n z
  .exact z ⟨o,q⟩
 have ntrk:∀b u,H' b=aa u->b∉as:=λb u q z=>by
  rcases(ha b).mp z with z|⟨_,z,_⟩
  .rw[sfree b z]at q;cases q
  .rw[z]at q;cases q
 have slot:∀b∈frs outer,∀o,s'.heap.get? b=aa o->∃sl,h'.get? b=aa { o with slots:=sl }:=λb hb o q=>by obtain⟨o',ho,hd⟩:=fr b hb;rw[q]at ho;cases ho;exact k4 b o q hd
 have un:=nI.base;refine⟨e,C,H',rfl,nI.os,nI.bare,⟨λb o q n hb _=>keep b o (un.keep b o q n hb (λz=>nomatch z)) (nold b o q hb),λb o q n hb _=>?_,λb o q n _=>un.free b o q n (λz=>nomatch z),λb o q _=>?_,un.tups,un.frzs,un.tbls⟩,
  λa o q=>(nI.hok a o q).stay (λb u hb r=>keep b u r ?_) (λ_ z=>z) (λ_ _ z=>z) λ_ _ _ z=>z,?_,hE⟩
 .obtain⟨sl,q'⟩:=un.slot b o q n hb (λz=>nomatch z);obtain⟨sl',q2⟩:=slot b hb _ q';exact⟨sl',q2⟩
 .obtain⟨o',q'⟩:=un.there b o q (λz=>nomatch z);by_cases hb:b∈frs outer
  .obtain⟨sl,q2⟩:=slot b hb _ q';exact⟨_,q2⟩
  .exact⟨_,keep b o' q' (nold b o q hb)⟩
 .rcases hb with rfl|hb
  .exact ntrk _ _ q
  .exact ntrk _ _ hb
 .obtain⟨oe,vs,T,oT,ts,he,⟨hc,h0⟩,hd,h1,hnT,hTe,hT,hdT,h3⟩:=k3;refine⟨λb ⟨o,q⟩=>F.new b (.inl ⟨o,q,λz=>nomatch z⟩),F.free,oe,vs,a0,he,hc,hd,h0,.inr ⟨T,oT,ts,.none,h1,hTe,hT,hdT,⟨h3,rfl⟩,?_,λb ⟨o,q⟩ z=>?_⟩⟩
  .cases r:H' T with
   |none=>rfl
   |some u =>obtain⟨ob,q⟩:=(nI.hok T u r).get;rw[W.hideAll_get _ q (ntrk T u r)]at hnT;cases hnT
  .subst z;obtain⟨o',q'⟩:=un.there b o q (λz=>nomatch z);by_cases hb:b∈frs outer
   .obtain⟨o2,q2,nf⟩:=fr b hb;obtain⟨sl,q3⟩:=slot b hb o2 q2;rw[q3]at hT;cases hT;exact nf ts hdT
   .rw[W.hideAll_get _ q' (nold b o q hb)]at hnT;cases hnT
def Ed(nI:Inv (qy (CX1 P w) P w K mg base N qual scope f cd A outer s H E) pins I H' s')(F:FlQ (flF (qy (CX1 P w) P w K mg base N qual scope f cd A outer s H E).env) (Old (qy (CX1 P w) P w K mg base N qual scope f cd A outer s H E) pins) H' s'.heap e C)(hE:E C ag H') :
  (qy (CX1 P w) P w K mg base N qual scope f cd A outer s H E).xe (.ref e) s':=by
 obtain⟨oe,vs,a0,he,hc,hd,h0,hT⟩:=F.obj;have hsN:∀b,(∃o,s.heap.get? b=aa o)->Old (qy (CX1 P w) P w K mg base N qual scope f cd A outer s H E) pins b:=λb ⟨o,q⟩=>.inl ⟨o,q,λz=>nomatch z⟩;have hin:∀(as:List ak),(∀b∈frs (bM qual scope s.heap.objs.size f cd::outer),b∈as)->∀env∈bM qual scope s.heap.objs.size f cd::outer,∀a,env.frame=aa a->a∈as:=λas h env he a ha=>h a (Tc.mpr ⟨env,he,ha⟩);subst hc;rcases hT with h1|⟨T,oT,ts,fl,h1,hTe,hT,hdT,⟨h3,hfl⟩,hTf,hTn⟩
 .let as:=e::frs (bM qual scope s.heap.objs.size f cd::outer)
  have hfa:∀b∈frs (bM qual scope s.heap.objs.size f cd::outer),b∈as:=λb hb=>kh _ hb;refine wpAny_leaving_firstW (base:=W.hideAll s'.heap as) nI.ok.frames (W.funFrames_hide nI.stack (hin as hfa)) rfl he (λb o q=>W.of_hideAll _ q) (Tg _ (km ..)) hd h1 h0 λh' hL =>Kc nI F hE (λb=>⟨λz=>?_,λz=>z.elim (hfa b) λz=>z.2.2⟩) hfa hL
  rcases xj.mp z with e1|z'
  .subst e1;exact .inr ⟨λq=>F.new _ (hsN _ q) rfl,F.free,z⟩
  .exact .inl z'
 .let as:=e::T::frs (bM qual scope s.heap.objs.size f cd::outer)
  have hfa:∀b∈frs (bM qual scope s.heap.objs.size f cd::outer),b∈as:=λb hb=>kh _ (kh _ hb);have mem:∀b∈as,b∈frs (bM qual scope s.heap.objs.size f cd::outer)\/(¬(∃o,s.heap.get? b=aa o)/\H' b=ag/\b∈as):=λb z=>by
   rcases xj.mp z with e1|z'
   .subst e1;exact .inr ⟨λq=>F.new _ (hsN _ q) rfl,F.free,z⟩
   .rcases xj.mp z' with e1|z2
    .subst e1;exact .inr ⟨λq=>hTn _ (hsN _ q) rfl,hTf,z⟩
    .exact .inl z2
  have tr:s'.heap.TracedAtW (W.hideAll s'.heap as) e oe.cls a0 fl:=⟨oe,vs,T,oT,ts,he,⟨rfl,h0⟩,hd,h1,Tg _ (kh _ (km ..)),hTe,hT,hdT,h3⟩
  rcases hfl with hfl|⟨L,hfL,hfl⟩
  .subst hfl;exact wpAny_leaving_nextW (base:=W.hideAll s'.heap as) (a0:=a0) nI.ok.frames (W.funFrames_hide nI.stack (hin as hfa)) rfl tr
    (λb o q=>W.of_hideAll _ q) (Tg _ (km ..)) λh' hL =>
    Kc nI F hE (λb=>⟨mem b,λz=>z.elim (hfa b) λz=>z.2.2⟩) hfa hL
  .subst hfl;show ay _ _ (leaving _ (.ref e)) _ _ s';unfold leaving;refine ai (jD (base:=W.hideAll s'.heap as) (a0:=a0) hfL tr ?_);exact jL (base:=W.hideAll s'.heap as) (a0:=a0) (λb o q=>W.of_hideAll _ q) (W.funFrames_hide nI.stack (hin as hfa)) tr λh' k1 k2 k3 k4 =>Kc nI F hE (λb=>⟨mem b,λz=>z.elim (hfa b) λz=>z.2.2⟩) hfa ⟨k1,k2,k3,λb o hb hn=>⟨o.slots,k4 b o hb hn⟩⟩
end
def spX(K:k84)(mg:k87)(S:List D->ao->Prop):Sp:=λvs H _ E=>∃ds x C,TabOk K H/\j6 K H ds vs/\S ds x/\mg x=aa C/\∀H',j5 H H'->E C ag H'
section
variable{P:aA}{w:aH}{K:k84}{mg:k87}{base:aL}{x qual:ao}{st:aU}{f:ak}{fd:aN}{N ps:List ao}{k:Nat}
def j8v(F:Fun K x qual st f fd)(Sc:FnScope N ps (j0 st))(hl:∀ds y,S ds y->ds.length=ps.length)
  (hbody:∀(cdv:aj)(A:aI)(outer:List d8)(s:aq)(H:Hp)(E:XK),Im K f cdv->Room k (A.deeper (bM qual (j0 st) s.heap.objs.size f cdv))->∀ds y,S ds y ->
   DSs (qy (CX1 P w) P w K mg base N qual (j0 st) f cdv A outer s H E) (za N ds) (jj st) { nx:=λ_=>False,rt:=λ_=>False,ex:=λz _=>z=y }):qw P w K mg base (CX1 P w) (k+1) f fd ps (spX K mg S):=by
 obtain⟨oc,od,dV,kV,doc,pm,an,cdv,ct,osl,rfl,lk,hcd⟩:=F.ex;refine j0n lk hcd Sc (λvs H Q E ⟨ds,y,C,tb,en,hS,_⟩=>by rw[en.length];exact hl ds y hS) λA outer s H vs Q E hr ⟨ds,y,C,tb,en,hS,hC,hE⟩=>⟨_,vg,?_⟩
 have ho:=Qz N ds;refine hbody cdv A outer s H E ⟨oc,od,_,osl,lk,rfl⟩ hr ds y hS (start N vs) H _ (Ui tb en) ⟨λJ' σ' H' n R f=>n.elim,λ_ _ _ z=>z.elim,λ_ _ _ z=>z.elim,λr v H' n z=>n.elim,λz J' σ' H' n R g=>?_⟩;cases(show z=y from n);intro pins H2 s' e C' nI g2 hC' Fe;cases hC.symm.trans hC';unfold Fr0 at g;rw[ho,J3]at g;exact Ed nI Fe (hE H2 ((g.trans jr).trans g2))
end
def DX(X:Cx)(J:Rho)(e:ar)(x:ao):Prop:=∀I H Q,Rep X.K J I H->Ol X I H x->Jq X e I H Q
def DXA(X:Cx)(J:Rho)(es:List ar)(x:ao):Prop:=∀I H Q,Rep X.K J I H->Ol X I H x->Wy X es I H Q
structure CalX(X:Cx)(x:ao)(sp:Sp):Prop where
 ex:∃(k:Nat)(f:ak)(fd:aN)(ps:List ao),qw X.prog X.w X.K X.mg X.base (CX1 X.prog X.w) k f fd ps sp/\Room k X.A/\X.mg x=aa (.ref f)/\W.keepIn X.K (.ref f)=af/\Binds X.K fd ps []
section
variable{X:Cx}{J:Rho}{e:ar}{es:List ar}{f x:ao}{ds:List D}{p pos:aR}{C:aj}
def DX.call(c:CalX X f (spX X.K X.mg S))(ha:DTA X J (e::es) ds)(hS:S ds x)(hC:X.mg x=aa C)(hg:Gl X f)(hdb:(f==k89)=ae)
  (he:ah (e::es) X.env=(ae,aD e X.env)::ah es X.env) (hpl:(aS pos (ah es X.env)).any (·.1)=ae):DX X J (.Call (.Name f p) (e::es) [] pos) x:=λI H Q R k pins s nI=>by
 obtain⟨n,fa,fd,ps,F,hr,hm,hk,hb⟩:=c.ex;refine b9 (Qn nI hg hm ?_ hdb);refine W.callWith_K (h₀:=X.base) nI.ok.mod.kin hk (thn (ha I H (λvs H1=>j5 H H1/\j6 X.K H1 ds vs) R (λvs H1 g e=>⟨g,e⟩) pos pins s nI) λus s1 ⟨vs,H1,I1,r,g,en⟩=>⟨I1.kIn,?_⟩) he hpl;have sp:spX X.K X.mg S vs H1 (λ_ _=>False) (λC' _ H'=>C'=C/\j5 H1 H'):=⟨ds,x,C,R.tb.mono g,en,hS,hC,λH' g=>⟨rfl,g⟩⟩
 have hl:us.length=ps.length:=by rw[<-r.length];exact F.len _ _ _ _ sp
 have hb':=hb s1 us I1.kIn (by rw[Xq];exact hl);rw[Xq]at hb';refine gn (cJ (F.run X.A X.stack s1 H1 ⟨us,[]⟩ us vs _ _ hr I1.env0 hb' r sp) λr s' hq=>?_);cases r with
 |error ev =>obtain⟨e,C',H',rfl,os,bare,un,hok,fl,rfl,g'⟩:=hq;have I':Inv X pins I H' s':=I1.call' os un hok bare (λb z=>nomatch z);refine k pins H' s' e C' I' (g.trans g') hC (FlQ.up fl (λ_ z=>.inl z) λb hb=>I1.old hb)
 |ok fl =>
  cases fl with
  |ret u=>obtain⟨_,_,_,_,_,_,_,z⟩:=hq;exact z.elim
  |next=>exact aW hq
  |brk=>exact aW hq
  |cont=>exact aW hq
end
section
variable{X:Cx}{J:Rho}{e:ar}{es:List ar}{x:ao}{d:D}{p pos np cpos:aR}{P:Po}{i:Int}{y:ao}{ys:List ao}
def DE.fmtI(ha:DT X J e (.int i))(hi:i.natAbs.log2<1920):DE X J (.FormattedValue e (-1) ag pos) (.str (toString i)):=λI H Q R q pins s nI=>by
 refine k8 (thn (ha I H (λv H1=>v=.int i/\j5 H H1) R (λv H1 g e=>⟨e,g⟩) pins s nI) λu s1 ⟨v,H1,I1,r,ev,g⟩=>?_);subst ev;obtain⟨t,rfl⟩:=(show ∃t,u=eV i t from r)
 exact formatField_int_small hi ⟨.str (toString i),H1,I1.un (t':=s1.toks+1+1) Un.refl I1.hok,⟨⟨_,k9 _⟩,rfl⟩,q _ H1 g rfl⟩
def DE.fmtS(ha:DT X J e (.str y))(hy:y.length<=au):DE X J (.FormattedValue e (-1) ag pos) (.str y):=λI H Q R q pins s nI=>by
 refine k8 (thn (ha I H (λv H1=>v=.str y/\j5 H H1) R (λv H1 g e=>⟨e,g⟩) pins s nI) λu s1 ⟨v,H1,I1,r,ev,g⟩=>?_);subst ev;obtain⟨t,rfl⟩:=(show ∃t:{t:Nat // t≠0},u=bC y t.1 from r)
 exact jN ⟨.str y,H1,I1,⟨t,rfl⟩,q _ H1 g rfl⟩ ⟨.str y,H1,I1.tok _,⟨⟨_,Xu I1.tk⟩,rfl⟩,q _ H1 g rfl⟩ hy
noncomputable def Dz(out:ao):List ao->ao
 |[]=>out
 |y::ys=>Dz (out++y) ys
def DPs(X:Cx)(J:Rho):List ar->List ao->Prop
 |[],[]=>True
 |e::es,y::ys=>DE X J e (.str y)/\DPs X J es ys
 |_,_=>False
theorem j22:∀{es:List ar}{ys:List ao}{out:ao}{n:Nat}{pins:k86} {I:St} {H0 H:Hp} {s:aq} {Q:VK},DPs X J es ys->(∀y∈ys,y.length<=10000)->out.length+10000*ys.length<=au->Inv X pins I H s->Rep X.K J I H->j5 H0 H ->
  (∀H',j5 H0 H'->Q (.str (Dz out ys)) H')->ay (aB X.prog X.w) X.A (joinParts out (evalEach es X.env)) (EP X pins I Q) X.xe s
 |[],[],out,n,pins,I,H0,H,s,Q,_,_,hl,nI,R,g,q=>joinParts_nil ⟨.str out,H,nI.un (t':=s.toks+1) Un.refl nI.hok,⟨⟨_,Xu nI.tk⟩,rfl⟩,q H g⟩ (by have:=hl;omega)
 |e::es,y::ys,out,n,pins,I,H0,H,s,Q,hp,hy,hl,nI,R,g,q=>by
  have hy0:=hy y (km ..);rw[xn]at hl;refine joinParts_cons (thn (hp.1 I H (λv H1=>v=.str y/\j5 H H1) R (λv H1 g e=>⟨e,g⟩) pins s nI) λu s1 ⟨v,H1,I1,r,ev,g1⟩=>?_);subst ev;obtain⟨t,rfl⟩:=(show ∃t:{t:Nat // t≠0},u=bC y t.1 from r)
  have hz:(out++y).length<=out.length+10000:=by rw[strLen_append];omega
  exact⟨by omega,j22 (n:=n) hp.2 (λz hz=>hy z (kh _ hz)) nofun I1 (R.grow g1) (g.trans g1) q⟩
 |[],_::_,_,_,_,_,_,_,_,_,h,_,_,_,_,_,_=>h.elim
 |_::_,[],_,_,_,_,_,_,_,_,h,_,_,_,_,_,_=>h.elim
def DE.joined(h:DPs X J (a::b::es) ys)(hy:∀y∈ys,y.length<=10000)(hl:ys.length<=1000):DE X J (.JoinedStr (a::b::es) pos) (.str (Dz dt ys)):=λI H Q R q pins s nI =>
 JoinedStr_many (j22 (n:=0) (out:=dt) h hy (by
  have e:Str.empty.length=0:=rfl
  rw[e,bN];omega) nI R (j5.refl H) λH' g=>q _ H' g rfl)
def jfu(he:Jq X e I H Q)(hs:ah [e] X.env=[(ae,aD e X.env)]):Wy X [e] I H (λvs H'=>∃v,vs=[v]/\Q v H') :=
 (ji (es:=[]) peS qe hs).to λpins s nI=>thn (he pins s nI) λu s' ⟨v,H',I',r,q⟩=>⟨v,H',I',r,⟨v,rfl,q⟩⟩
def DS.raise(O:OwnCls x C bm newId X.mg X.base)(Fn:ExcBaseFacts Bn newId inN bmN)(hBn:bm.contains (.type Bn)=af)(FB:ExcBaseFacts B nid initId bm)(hc:X.calm=af)
  (ha:∀I H,Rep X.K J I H->Jq X e I H λ_ H'=>j5 H H') (hP:P.ex x J) (hg:Gl X x) (hdb:(x==k89)=ae) (he:ah [e] X.env=[(ae,aD e X.env)])
  : DS X J (.Raise (aa (.Call (.Name x np) [e] [] cpos)) ag pos) P:=λI H E R q pins s nI=>by
 obtain⟨tl,N,nm,qn,bs,hdct,sn,sub,ab,col,dd,k0,k1,k2,k3,k5,mN,hC,hN,hni,T⟩:=O.obj;refine wpAny_Raise_call_subU (C:=C) (nm:=nm) (q:=qn) (N:=N) (bs:=bs) (bm:=tl) (hdct:=hdct) (sn:=sn) (sub:=sub) (ab:=ab) (col:=col) (dd:=dd) (k0:=k0) (k1:=k1) (k2:=k2) (k3:=k3) (k5:=k5)
  Fn hBn FB (mN:=mN) (T.hasType FB.hasBase) (nI.ok.hd hc) (by rw[he];rfl) hni (Qn nI hg O.bound ⟨rfl,?_⟩ hdb)
 have hsp:=jfu (ha I H R) he cpos pins s nI;rw[he]at hsp ⊢;refine eQ (thn hsp λus s2 ⟨vs,H1,I1,r,v,ev,g⟩=>⟨rfl,?_,I1.bk _ _ hC,hN.keeps I1.bk,T.keeps I1.bk,λh' e' hm=>?_⟩)
 .show us.length<=au;rw[<-r.length,ev];show 1<=au;rw[bN];omega
 .have nold:∀b,(∃o,s2.heap.get? b=aa o)->b≠e':=λb ⟨o,q⟩ z=>by rw[z,hm.new]at q;cases q
  obtain⟨t,ht,_,_⟩:=hm.there;refine q.ex x J I H hP R (Fr0.refl _ _) pins H1 { s2 with heap:=h' } e' (.ref C) (I1.un (t':=s2.toks) (Un.kept hm.keeps) (I1.hok.kept hm.keeps)) g O.bound ⟨λb hb=>nold b (I1.old hb),?_,_,_,_,ht,rfl,rfl,rfl,.inl rfl⟩;cases z:H1 e' with
  |none=>rfl
  |some u=>exact absurd rfl (nold e' (I1.hok e' u z).get)
end
structure FlT(N:ak->Prop)(H:Hp)(h:aL)(e:ak)(C fl:aj):Prop where
 new:∀b,N b->b≠e
 free:H e=ag
 obj:∃(oe:cT)(vs:Array aj)(a0:aj)(T:ak)(oT:cT)(ts:Array aj),h.get? e=aa oe/\oe.cls=C/\oe.data=.fields vs/\vs[0]?=aa a0/\vs[1]?=aa (.ref T)/\T≠e/\h.get? T=aa oT/\oT.data=.fields ts/\ts[3]?=aa fl /\
  H T=ag/\∀b,N b->b≠T
section
variable{X:Cx}{pins:k86}{I:St}{H:Hp}{s:aq}{e:ak}{C fl:aj}{M:gJ}{A:aI}{E:k85}
def Inv.noted{as:List ak}{h':aL}(nI:Inv X pins I H s)(ha:∀b∈as,b∈frs X.stack\/(H b=ag/\∀c,Old X pins c->c≠b))
  (keep:∀b o,s.heap.get? b=aa o->b∉as->h'.get? b=aa o) (slot:∀b o,s.heap.get? b=aa o->(∀vs,o.data≠.fields vs)->∃sl,h'.get? b=aa { o with slots:=sl }):Inv X pins I H { s with heap:=h' }:=by
 have sf:=nI.stkFree;have ntrk:∀b u,H b=aa u->b∉as:=λb u q z=>by
  rcases ha b z with z|⟨z,_⟩
  .rw[sf b z]at q;cases q
  .rw[z]at q;cases q
 have nold:∀b,Old X pins b->b∉frs X.stack->b∉as:=λb ho nf z=>(ha b z).elim nf λq=>q.2 b ho rfl;have nst:∀b o,X.s₀.heap.get? b=aa o->b∉X.fs->b∉frs X.stack:=λb o q n z=>by
  rcases xj.mp (nI.stkSub b z)with z|z
  .have:=X4 q;rw[z]at this;exact absurd (Xh this nI.ok.above) (T6 _)
  .exact n z
 have nf:∀b∈frs X.stack,∀o,s.heap.get? b=aa o->∀vs,o.data≠.fields vs:=λb hb o q=>by obtain⟨o',ho,hd⟩:=(nI.stack.mem hb).2;rw[q]at ho;cases ho;exact hd
 have nff:∀b∈X.fs,∀o,s.heap.get? b=aa o->∀vs,o.data≠.fields vs:=λb hb o q=>by obtain⟨o',ho,hd⟩:=(nI.funs.mem hb).2;rw[q]at ho;cases ho;exact hd
 have cel:∀{c:ak}{v:Option aj},s.heap.IsCell c v->h'.IsCell c v:=λ{c v} ⟨o,q,hd⟩=>by
  obtain⟨sl,q'⟩:=slot c o q λvs z=>by rw[hd]at z;cases z
  exact⟨_,q',hd⟩
 obtain⟨m,hn,hl⟩:=id nI.loc;have up:s.heap.UpToSlots h':=slot;refine⟨nI.ok,nI.os,nI.bare,⟨λb o e n hb hx=>keep b o (nI.base.keep b o e n hb hx) (nold b (.inl ⟨o,e,hx⟩) (nst b o e hb)),λb o e n hb hx=>?_,nI.base.free,λb o e hx=>?_,nI.base.tups,nI.base.frzs,nI.base.tbls⟩,
  ⟨m,up.ns hn,λi x v h1 h2 h3=>?_⟩,λx c e=>?_,nI.free,nI.freeC,λp hp=>?_,λa o q=>(nI.hok a o q).stay (λb u hb r=>keep b u r ?_) (λ_ z=>z) (λ_ _ z=>z) λ_ _ _ z=>z,nI.len⟩
 .obtain⟨sl,e1⟩:=nI.base.slot b o e n hb hx;obtain⟨sl',e2⟩:=slot b _ e1 (nff b hb _ e1);exact⟨sl',e2⟩
 .obtain⟨o',e1⟩:=nI.base.there b o e hx;by_cases hb:b∈frs X.stack
  .obtain⟨sl,e2⟩:=slot b o' e1 (nf b hb o' e1);exact⟨_,e2⟩
  .exact⟨o',keep b o' e1 (nold b (.inl ⟨o,e,hx⟩) hb)⟩
 .obtain⟨u,r,q⟩:=hl i x v h1 h2 h3;exact⟨u,r,q.imp id λ⟨k,c,e,z⟩=>⟨k,c,e,cel z⟩⟩
 .obtain⟨v,z⟩:=nI.cell x c e;exact⟨v,cel z⟩
 .obtain⟨q,n,nl,nfs,d⟩:=nI.pin p hp;refine⟨keep p.1 p.2 q (nold p.1 (.inr (.inl ⟨p,hp,rfl⟩)) λz=>?_),n,nl,nfs,d⟩;rcases xj.mp (nI.stkSub p.1 z)with z|z
  .exact nl z
  .exact nfs z
 .rcases hb with rfl|hb
  .exact ntrk _ _ q
  .exact ntrk _ _ hb
def Np(nI:Inv X pins I H s)(hn:∀b,Old X pins b->b≠e)(hf:H e=ag)(ha:∀b∈as,b∈frs X.stack\/(H b=ag/\∀c,Old X pins c->c≠b))(hfa:∀b∈frs X.stack,b∈as)
  (k1:(W.hideAll s.heap as).StaysIn h') (k3:h'.TracedAtW (W.hideAll s.heap as) e C a0 fl) (k4:∀b o,s.heap.get? b=aa o->(∀vs,o.data≠.fields vs)->∃sl,h'.get? b=aa { o with slots:=sl }) :
  Inv X pins I H { s with heap:=h' }/\FlT (Old X pins) H h' e C fl:=by
 have keep:∀b o,s.heap.get? b=aa o->b∉as->h'.get? b=aa o:=λb o q n=>k1 b o (W.hideAll_get _ q n);refine⟨nI.noted ha keep k4,hn,hf,?_⟩;obtain⟨oe,vs,T,oT,ts,he,⟨hc,h0⟩,hd,h1,hnT,hTe,hT,hdT,h3⟩:=k3;refine⟨oe,vs,a0,T,oT,ts,he,hc,hd,h0,h1,hTe,hT,hdT,h3,?_,λb hb z=>?_⟩
 .cases r:H T with
  |none=>rfl
  |some u =>
   obtain⟨ob,q⟩:=(nI.hok T u r).get;have:T∉as:=λz=>by
    rcases ha T z with z|⟨z,_⟩
    .rw[nI.stkFree T z]at r;cases r
    .rw[z]at r;cases r
   rw[W.hideAll_get _ q this]at hnT;cases hnT
 .subst z;obtain⟨o,q⟩:=nI.old hb;by_cases hs:b∈as
  .rcases ha b hs with hs|⟨_,z⟩
   .obtain⟨o',ho,nf⟩:=(nI.stack.mem hs).2;obtain⟨sl,q3⟩:=k4 b o' ho nf;rw[q3]at hT;cases hT;exact nf ts hdT
   .exact z b hb rfl
  .rw[W.hideAll_get _ q hs]at hnT;cases hnT
def Ko(nI:Inv X pins I H s)(hfa:∀b∈frs X.stack,b∈as):s.heap.FunFrames (W.hideAll s.heap as) X.stack :=
 W.funFrames_hide nI.stack λenv he a ha=>hfa a (Tc.mpr ⟨env,he,ha⟩)
def Ds{e:aj}{env env':d8}(h:env.frame=env'.frame):dR e env=dR e env':=by unfold dR PySem.frameOf;rw[h]
def jf7(nI:Inv X pins I H s)(hst:X.stack=env0::out0)(hfm:env0.frame=aa L)(hfx:X.env.frame=aa L)(F:FlQ (flF X.env) (Old X pins) H s.heap e C)
  (h:∀h',Inv X pins I H { s with heap:=h' }->FlT (Old X pins) H h' e C (fc L)->Q () { s with heap:=h' }):ay (aB X.prog X.w) X.A (dR (.ref e) X.env) Q E s:=by
 rw[Ds (hfx.trans hfm.symm)];obtain⟨oe,vs,a0,he,hc,hd,h0,hT⟩:=F.obj;subst hc;have hfr:X.A.frames=aa (env0::out0):=by rw[<-hst];exact nI.ok.frames
 rcases hT with h1|⟨T,oT,ts,fl,h1,hTe,hT,hdT,⟨h3,hfl⟩,hTf,hTn⟩
 .have hfa:∀b∈frs X.stack,b∈e::frs X.stack:=λb hb=>kh _ hb;have hl:=Ko nI hfa;rw[hst]at hl;unfold dR;simp only[hfm];refine ai (b0 he hd h1 ?_);rw[if_neg (by decide)];refine wpAny_entryW (base:=W.hideAll s.heap (e::frs X.stack)) hfr (by rw[<-hst]at hl ⊢;exact hl) hfm he (λb o q=>W.of_hideAll _ q) (Tg _ (km ..)) hd (Array.getElem?_eq_some_iff.mp h1).1 h0 λh' ⟨k1,_,k3,k4⟩=>?_;obtain⟨I',F'⟩:=Np (as:=e::frs X.stack) nI F.new F.free (λb hb=>(xj.mp hb).elim (λz=>.inr ⟨z▸F.free,λc hc=>z▸F.new c hc⟩) .inl) hfa k1 k3 k4;exact h h' I' F'
 .rcases hfl with hfl|⟨L',hL',hfl⟩
  rotate_left
  .subst hfl;cases hfx.symm.trans hL';refine jD (base:=W.hideAll s.heap [T]) (a0:=a0) (cls:=oe.cls) hfm ⟨oe,vs,T,oT,ts,he,⟨rfl,h0⟩,hd,h1,Tg _ (km ..),hTe,hT,hdT,h3⟩ ?_;exact h s.heap nI ⟨F.new,F.free,oe,vs,a0,T,oT,ts,he,rfl,hd,h0,h1,hTe,hT,hdT,h3,hTf,hTn⟩
  subst hfl;have hfa:∀b∈frs X.stack,b∈e::T::frs X.stack:=λb hb=>kh _ (kh _ hb);have hl:=Ko nI hfa;refine wpAny_noteFrame_onW (base:=W.hideAll s.heap (e::T::frs X.stack)) (a0:=a0) hfr (by rw[<-hst];exact hl) hfm ⟨oe,vs,T,oT,ts,he,⟨rfl,h0⟩,hd,h1,Tg _ (kh _ (km ..)),hTe,hT,hdT,h3⟩
   (λb o q=>W.of_hideAll _ q) (Tg _ (km ..)) λh' ⟨k1,_,k3,k4⟩=>?_
  obtain⟨I',F'⟩:=Np (as:=e::T::frs X.stack) nI F.new F.free (λb hb=>(xj.mp hb).elim (λz=>.inr ⟨z▸F.free,λc hc=>z▸F.new c hc⟩) λhb=>(xj.mp hb).elim (λz=>.inr ⟨z▸hTf,λc hc=>z▸hTn c hc⟩) .inl) hfa k1 k3 k4;exact h h' I' F'
def j4e(nI:Inv X pins I H s)(F:FlT (Old X pins) H s.heap e C fl)
  (h:∀h',Inv X pins I H { s with heap:=h' }->FlT (Old X pins) H h' e C .none->Q () { s with heap:=h' }):ay M A (lU (.ref e) ag) Q E s:=by
 obtain⟨oe,vs,a0,T,oT,ts,he,hc,hd,h0,h1,hTe,hT,hdT,h3,hTf,hTn⟩:=F.obj;subst hc;have hfa:∀b∈frs X.stack,b∈e::T::frs X.stack:=λb hb=>kh _ (kh _ hb);refine jL (base:=W.hideAll s.heap (e::T::frs X.stack)) (a0:=a0) (fl:=fl) (l:=X.stack) (λb o q=>W.of_hideAll _ q) (Ko nI hfa)
  ⟨oe,vs,T,oT,ts,he,⟨rfl,h0⟩,hd,h1,Tg _ (kh _ (km ..)),hTe,hT,hdT,h3⟩ λh' k1 _ k3 k4=>?_
 obtain⟨I',F'⟩:=Np (as:=e::T::frs X.stack) nI F.new F.free (λb hb=>(xj.mp hb).elim (λz=>.inr ⟨z▸F.free,λc hc=>z▸F.new c hc⟩) λhb=>(xj.mp hb).elim (λz=>.inr ⟨z▸hTf,λc hc=>z▸hTn c hc⟩) .inl) hfa k1 k3
  (λb o q nf=>⟨o.slots,k4 b o q nf⟩)
 exact h h' I' F'
def Inv.track(nI:Inv X pins I H s)(he:s.heap.get? e=aa oe)(hn:∀b,Old X pins b->b≠e)(hf:H e=ag):Inv X pins I (upd H e (.frz oe (.own e))) s:=by
 have ne:∀{b:ak}{u:HO},H b=aa u->b≠e:=λ{b u} q z=>by rw[z,hf]at q;cases q
 refine⟨nI.ok,nI.os,nI.bare,⟨nI.base.keep,nI.base.slot,λb o q n hx=>?_,nI.base.there,λb xs q=>?_,λb o u q=>?_,λb ps q=>?_⟩,nI.loc,nI.cell,?_,λx c q=>?_,λp hp=>?_,λa o q=>?_,nI.len⟩
 .rw[jf (hn b (.inl ⟨o,q,hx⟩))];exact nI.base.free b o q n hx
 .have z:=nI.base.tups b xs q;rw[jf (ne z)];exact z
 .have z:=nI.base.frzs b o u q;rw[jf (ne z)];exact z
 .obtain⟨m,z⟩:=nI.base.tbls b ps q;exact⟨m,by rw[jf (ne z)];exact z⟩
 .rw[jf (hn _ (.inr (.inr (.inl rfl))))];exact nI.free
 .rw[jf (hn _ (.inr (.inr (.inr ⟨x,q⟩))))];exact nI.freeC x c q
 .obtain⟨q,n,r⟩:=nI.pin p hp;exact⟨q,by rw[jf (hn _ (.inr (.inl ⟨p,hp,rfl⟩)))];exact n,r⟩
 .by_cases z:a=e
  .subst z;rw[jz]at q;cases q;exact⟨he,oe,he⟩
  .rw[jf z]at q;exact(nI.hok a o q).stay (λ_ _ _ r=>r) (λb r=>by rw[jf (ne r)];exact r) (λb xs r=>by rw[jf (ne r)];exact r) λb _ _ r=>by rw[jf (ne r)];exact r
def jfl(nI:Inv X pins I H s)(hN:X.N.Nodup)(hj:X.N[j]?=aa n)(hk:X.env.kindOf n=aa .local)
  (h:∀s',Inv X pins (I.set j ag) H s'->Q () s'):ay M A (do bindName X.env n .none;unbindBehindTheSuite X.env n pos) Q E s:=by
 obtain⟨m,hn,hl⟩:=id nI.loc;have hcls:(X.env.scope.kind==.class || (X.env.scope.kind==.module&&X.env.locals != X.env.globals))=ae:=by rw[nI.ok.kind];rfl
 refine wpAny_nameGoes_keeps hk hn hcls λh' v hn' hs=>h _ ?_;have cne:=nI.cne;refine⟨nI.ok,⟨nI.os.1,Pb _⟩,nI.bare,⟨λb o e n hb hx=>?_,λb o e n hb hx=>?_,nI.base.free,λb o e hx=>?_,nI.base.tups,nI.base.frzs,nI.base.tbls⟩,⟨_,hn',λi y v' e1 e2 e3=>?_⟩,λy c e=>?_,nI.free,nI.freeC,λp hp=>?_,λb ob e=>?_,by simpa using nI.len⟩
 .exact(hs.2 b (Xi (Xh (X4 e) nI.ok.above))).trans (nI.base.keep b o e n hb hx)
 .obtain⟨sl,e1⟩:=nI.base.slot b o e n hb hx;exact⟨sl,(hs.2 b (Xi (Xh (X4 e) nI.ok.above))).trans e1⟩
 .obtain⟨o',e1⟩:=nI.base.there b o e hx;exact⟨o',(hs.2 b (Xi (Xh (X4 e) nI.ok.above))).trans e1⟩
 .by_cases hij:i=j
  .subst hij;rcases getElem?_set_of e2 with ⟨_,z,_⟩|⟨z,_⟩
   .cases z
   .exact absurd rfl z
  .rw[eX (eO hij)]at e2;obtain⟨u',r',q⟩:=hl i y v' e1 e2 e3;refine⟨u',r',?_⟩;rcases q with ⟨k,e⟩|⟨k,c,e,z⟩
   .refine .inl ⟨k,?_⟩;have:y≠n:=λe=>hij (Nq hN e1 (e▸hj));simp[this,e]
   .exact .inr ⟨k,c,e,z.sameBut hs (cne y c e)⟩
 .obtain⟨w',z⟩:=nI.cell y c e;exact⟨w',z.sameBut hs (cne y c e)⟩
 .obtain⟨e,n,ne,nf,d⟩:=nI.pin p hp;exact⟨(hs.2 p.1 ne).trans e,n,ne,nf,d⟩
 .refine(nI.hok b ob e).stay (λc w' hc q=>(hs.2 c ?_).trans q) (λ_ q=>q) (λ_ _ q=>q) λ_ _ _ q=>q;rintro rfl;rcases hc with rfl|hc
  .rw[nI.free]at e;cases e
  .rw[nI.free]at hc;cases hc
end
end L2
end
section
namespace PySem.W
open PySem PySem.Spec PySem.Calls PyProof.Rows Builtin Builtin.ObjectAttr Builtin.Getset_descriptor
section
variable{prog:aA}{w:aH}{A:aI}{E:k85}{h:aL}{g:Array fF}{d:Drawn}{t:Nat}{os:OsState}{K:mW}{e C:ak}
def j8y(X:K.In h)(LT:Looks (aB prog w) h (typeOf (.ref e)) (.ref C))(hm:mroIn K C (.type "object")=aa af)
  (hq:R (.ok (.ret (.ref C))) ⟨h,g,d,t,os⟩):cQ (aB prog w) A (.call (.builtin "getset_descriptor.__get__") ⟨[.builtin "object.__class__",.ref e,tp],[]⟩) R ⟨h,g,d,t,os⟩:=by
 have L1:=looks_mroIn (M:=aB prog w) X hm;refine jY KF.slot_gs.plain KF.entry_gs (KF.slot_gs.check _ _ _ _ _ _ _ _ KF.type_class (KF.args_gs _ _ _) ?_);unfold c7.«getset_descriptor.__get__» descrGet;rw[dga_obj];refine ai (az ?_);unfold descrGetter descrCheckInstance descrNameAndClass isInstance;simp only[KF.owner_class]
 repeat lk
 refine⟨Code.quiet_builtin _ (by decide +kernel),i3 KF.entry_class ?_⟩;unfold c7.«object.__class__» shownTypeOf
 repeat lk
 exact hq
def j3i(X:K.In h)(hx:h.get? e=aa o)(hc:o.cls=.ref C)(ha:ig K (.ref C) "__class__"=aa (aa (.builtin "object.__class__")))(hm:mroIn K C (.type "object")=aa af)
  (hq:Q (.done (.ret (.ref C))) ⟨h,g,d,t,os⟩):ay (aB prog w) A (c7.«object.__getattribute__» ⟨[.ref e,.str "__class__" tk],[]⟩) Q E ⟨h,g,d,t,os⟩:=by
 have hT5:(⟨h,g,d,t,os⟩:aq).TypeIs (.builtin "object.__class__") "getset_descriptor":=iP;have f5:=iP;have f6:=F.slot_gs_get.lookup;have f7:=F.slot_gs_set.lookup;have L1:=jv (M:=aB prog w) X ha;have LT:Looks (aB prog w) h (typeOf (.ref e)) (.ref C):=hc▸(fO hx).andThen .now
 repeat (any_goals (first|assumption|(with_reducible refine gD hx ?_;rw[hc])|with_reducible refine L1.at ?_|wp_step))
 refine j8y X LT hm ?_
 repeat (any_goals (first|assumption|wp_step))
def jc2(X:K.In h)(hx:h.get? e=aa o)(hc:o.cls=.ref C)(hs:subIn K (.ref C) (.type "BaseException")=aa af)(hq:Q () ⟨h,g,d,t,os⟩) :
  ay M A (lW "BaseException.__getattribute__" ⟨[.ref e,nameV],[]⟩) Q E ⟨h,g,d,t,os⟩:=by
 have hk:builtinKind "BaseException.__getattribute__"=aa .slot:=by decide +kernel
 have hsplit:splitId "BaseException.__getattribute__"=aa ("BaseException","__getattribute__"):=by decide +kernel
 have L2:=looks_subIn (M:=M) X hs;have ha:=F.args_bexc_ga (.ref e) nameV;simp only[lW,hk,hsplit];refine ai ?_
 .unfold isInstance
  repeat (first|(with_reducible refine gD hx ?_;rw[hc])|with_reducible refine L2.at ?_|wp_step)
  exact hq
def jbs{fill:Bool}(X:K.In h)(hx:h.get? e=aa o)(hc:o.cls=.ref C)(hga:ig K (.ref C) "__getattribute__"=aa (aa (.builtin "BaseException.__getattribute__")))
  (hgt:ig K (.ref C) "__getattr__"=aa ag) (hs:subIn K (.ref C) (.type "BaseException")=aa af) (ha:ig K (.ref C) "__class__"=aa (aa (.builtin "object.__class__"))) (hm:mroIn K C (.type "object")=aa af) (hpl:Slot "ValueError" "__getattribute__" "BaseException.__getattribute__")
  (hq:Q (.ref C) ⟨h,g,d,t,os⟩):ay (aB prog w) A (getAttrBy (.ref e) (.str "__class__" tk) fill expr) Q E ⟨h,g,d,t,os⟩:=by
 have f3:=hpl.bind (.ref e);have hx0:(expr&&onTheHeap (cU "BaseException.__getattribute__"))=ae:=by cases expr<;>rfl
 have hx2:(cU "BaseException.__getattribute__" == cU "object.__getattribute__")=ae:=by decide +kernel
 have hx1:(onTheHeap (aQ C)&&cU "BaseException.__getattribute__" == cU "object.__getattribute__")=ae:=by rw[hx2];rfl
 have L1:=jv (M:=aB prog w) X hga;have L2:=jv (M:=aB prog w) X hgt
 repeat (any_goals (first|assumption|(with_reducible refine gD hx ?_;rw[hc])|with_reducible refine L1.at ?_|with_reducible refine L2.at ?_|wp_step))
 refine jY hpl.plain F.entry_bexc_ga (jc2 X hx hc hs (j3i X hx hc ha hm ?_))
 repeat (any_goals (first|assumption|wp_step))
def excls_attr{Q:Option aj->aq->Prop}(X:K.In h)(hx:h.get? e=aa o)(hc:o.cls=.ref C)(hga:ig K (.ref C) "__getattribute__"=aa (aa (.builtin "BaseException.__getattribute__")))
  (hgt:ig K (.ref C) "__getattr__"=aa ag) (hs:subIn K (.ref C) (.type "BaseException")=aa af) (ha:ig K (.ref C) "__class__"=aa (aa (.builtin "object.__class__"))) (hm:mroIn K C (.type "object")=aa af) (hpl:Slot "ValueError" "__getattribute__" "BaseException.__getattribute__")
  (hq:Q (aa (.ref C)) ⟨h,g,d,t+1,os⟩):ay (aB prog w) A (jX (.ref e) "__class__") Q E ⟨h,g,d,t,os⟩:=by
 unfold jX getAttrBy?;refine ai (wpAny_mkText (ai (eF (jbs X hx hc hga hgt hs ha hm hpl (az hq)))))
end
end PySem.W
end
section
namespace L2
open PySem PySem.Spec PyProof.Rows
def qg:List ao:=["WrongSize","NoAsk","NoWord","Twice","WrongAnswers","Unlike","NoPlace","NoText","WrongPrices","WrongWeights","NoPlan"]
def bmV:List aj:=[.type "ValueError",.type "Exception",.type "BaseException",.type "object"]
noncomputable def j9u(K:k84)(C:ak):Bool:=W.findIn K (.ref C) "__getattribute__" == aa (aa (.builtin "BaseException.__getattribute__"))&&(W.findIn K (.ref C) "__getattr__" == aa ag&&(W.subIn K (.ref C) (.type "BaseException")==aa af &&
 (W.findIn K (.ref C) "__class__" == aa (aa (.builtin "object.__class__"))&&(W.mroIn K C (.type "object")==aa af&&((W.clsIn K C).isSome&&W.excIn K C bmV "ValueError.__new__")))))
noncomputable def Q8(K:k84):Bool:=qg.all λx=>match W.nsIn K aw x with
 |some (aa (.ref C))=>j9u K C&&(W.kitOne K (.ref C) (.type "ValueError")==aa af&&((match W.nsIn K aw "AskError" with
   |some (aa a)=>W.exmOne K (.ref C) a==aa af
   |_=>ae)&&qg.all λc=>match W.nsIn K aw c with
   |some (aa v)=>W.kitOne K (.ref C) v==aa (x==c)
   |_=>af))
 |some (aa _)=>ae
 |_=>af
structure XcOk(K:k84)(C:ak):Prop where
 ga:W.findIn K (.ref C) "__getattribute__"=aa (aa (.builtin "BaseException.__getattribute__"))
 gt:W.findIn K (.ref C) "__getattr__"=aa ag
 sub:W.subIn K (.ref C) (.type "BaseException")=aa af
 cls:W.findIn K (.ref C) "__class__"=aa (aa (.builtin "object.__class__"))
 mro:W.mroIn K C (.type "object")=aa af
 is:(W.clsIn K C).isSome=af
 exc:W.excIn K C bmV "ValueError.__new__"=af
def jdn{K:k84}(h:j9u K C=af):XcOk K C:=by unfold j9u at h;simp only[X3,beq_iff_eq]at h;exact⟨h.1,h.2.1,h.2.2.1,h.2.2.2.1,h.2.2.2.2.1,h.2.2.2.2.2.1,h.2.2.2.2.2.2⟩
structure ExOne(K:k84)(x:ao)(C:ak):Prop where
 ok:XcOk K C
 val:W.kitOne K (.ref C) (.type "ValueError")=aa af
 ask:∃a,W.nsIn K aw "AskError"=aa (aa a)/\W.exmOne K (.ref C) a=aa af
 one:∀c∈qg,∀v,W.nsIn K aw c=aa (aa v)->W.kitOne K (.ref C) v=aa (x==c)
def U6{K:k84}(h:Q8 K=af)(hx:x∈qg)(e:W.nsIn K aw x=aa (aa o)):∃C,o=.ref C/\ExOne K x C:=by
 have q:=Xf.mp h x hx;rw[e]at q;cases o with
 |ref C =>
  refine⟨C,rfl,?_⟩;dsimp only at q;simp only[X3,beq_iff_eq]at q;obtain⟨q1,q2,q3,q4⟩:=q;refine⟨jdn q1,q2,?_,λc hc v ev=>?_⟩
  .split at q3
   .rename_i a ea;exact⟨a,ea,beq_iff_eq.mp q3⟩
   .cases q3
  .have z:=Xf.mp q4 c hc;rw[ev]at z;exact beq_iff_eq.mp z
 |_=>cases q
def jew{K:k84}(X:K.In h₀)(hb:mg x=aa (.ref C))(q:W.excIn K C bmB newId=af):OwnCls x C bmB newId mg h₀:=by
 refine⟨hb,?_⟩;unfold W.excIn at q;split at q
 .rename_i dd cd sl ho;split at q
  .rename_i C' bm k0 k1 k2 k3 n k5 hm hs;simp only[X3,beq_iff_eq,dP]at q;obtain⟨⟨⟨⟨⟨rfl,rfl⟩,hdel⟩,ht⟩,hok⟩,hni⟩:=q;obtain⟨nm,bs,mro,ns,qn,hd,sn,sub,ab,col,del⟩:=cd;dsimp only at hm hdel hok hni;subst hm hdel;have hsl:sl = #[k0,k1,k2,k3,aa (.builtin n),k5]:=by obtain⟨l⟩:=sl;simp only at hs;rw[hs]
   subst hsl;exact⟨bm,ns,nm,qn,bs,hd,sn,sub,ab,col,dd,k0,k1,k2,k3,k5,_,X _ _ ho,.of_isNs (W.isNs_of_in X hok),W.nsMap_none_of_in X hok hni,W.tail_of_in X ht⟩
  .cases q
 .cases q
def DS.raiseE{X:Cx}{P:Po}(ha:Q8 X.K=af)(hx:x∈qg)(hn:W.nsIn X.K aw x=aa (aa o))(hb:X.mg x=aa o)(hK:X.K.In X.base)(hc:X.calm=af)
  (he:∀I H,Rep X.K J I H->Jq X e I H λ_ H'=>j5 H H') (hP:P.ex x J) (hg:Gl X x) (hdb:(x==k89)=ae) (hs:ah [e] X.env=[(ae,aD e X.env)]):DS X J (.Raise (aa (.Call (.Name x np) [e] [] cpos)) ag pos) P:=by
 obtain⟨C,rfl,F⟩:=U6 ha hx hn;exact DS.raise (jew hK hb F.ok.exc) gh (by decide +kernel) gh hc he hP hg hdb hs
def j21{K:k84}(k:XcOk K C):PySem.W.KitX K (.ref e) (.ref C) (λh=>h.get? e=aa o/\o.cls=.ref C) where
 ty:=λ_ _ _ p=>p.2▸(fO p.1).andThen .now
 it:=λ_ _ X _=>by
  obtain⟨cdD,hcD⟩:=Xr.mp k.is;unfold W.clsIn at hcD;split at hcD
  .rename_i c' d' cd' sl' ho;intro A' Q' E' s' k q;unfold isType loadHead;exact ai (n6 (k _ _ (X _ _ ho)) (az q))
  .cases hcD
 ne:=λh tp dd its n sl X htp=>by
  obtain⟨cdD,hcD⟩:=Xr.mp k.is;refine Bool.eq_false_iff.mpr λq=>?_;have e:C=tp:=Value.ref.inj (beq_iff_eq.mp q);subst e;unfold W.clsIn at hcD;split at hcD
  .rename_i c' d' cd' sl' ho;have z:=(X _ _ ho).symm.trans htp;cases z
  .cases hcD
 ca:=λ{prog w A E Q s} X p hq=>by obtain⟨h,g,d,t,os⟩:=s;exact W.excls_attr X p.1 p.2 k.ga k.gt k.sub k.cls k.mro PySem.F.attr_ValueError.ga hq
section
variable{X:Cx}{pins pins':k86}{I:St}{H:Hp}{s:aq}{xe:k85}{e:ak}
def Inv.toPn(nI:Inv X pins I H s):Inv { X with pn:=X.pn++pins,xe:=xe } [] I H s :=
 ⟨⟨nI.ok.mod,nI.ok.kind,nI.ok.glob,nI.ok.blt,nI.ok.above,nI.ok.inj,nI.ok.has,nI.ok.cab,nI.ok.hd,nI.ok.frames,nI.ok.stk,nI.ok.exf,nI.ok.bs,nI.ok.bsz,nI.ok.noex,nI.ok.exfs,nI.ok.funs,nI.ok.frf⟩,
  nI.os,nI.bare,nI.base,nI.loc,nI.cell,nI.free,nI.freeC,λp hp=>nI.pin p (by rw[Xq]at hp;exact hp),nI.hok,nI.len⟩
def Inv.ofPn(nI:Inv { X with pn:=X.pn++pins,xe:=xe } pins' I H s):Inv X pins I H s :=
 ⟨⟨nI.ok.mod,nI.ok.kind,nI.ok.glob,nI.ok.blt,nI.ok.above,nI.ok.inj,nI.ok.has,nI.ok.cab,nI.ok.hd,nI.ok.frames,nI.ok.stk,nI.ok.exf,nI.ok.bs,nI.ok.bsz,nI.ok.noex,nI.ok.exfs,nI.ok.funs,nI.ok.frf⟩,
  nI.os,nI.bare,nI.base,nI.loc,nI.cell,nI.free,nI.freeC,λp hp=>nI.pin p (Pu _ hp),nI.hok,nI.len⟩
def Old.toPn(h:Old X pins b):Old { X with pn:=X.pn++pins,xe:=xe } pins' b:=by
 rcases h with h|⟨p,hp,e⟩|h|h
 .exact .inl h
 .exact .inr (.inl ⟨p,Pu _ hp,e⟩)
 .exact .inr (.inr (.inl h))
 .exact .inr (.inr (.inr h))
abbrev Cx.hnd(X:Cx)(e:ak):Cx:={ X with A:=X.A.mark (aa (.ref e)),calm:=ae,xe:=λ_ _=>False }
def Inv.toH(nI:Inv X pins I H s):Inv (X.hnd e) pins I H s :=
 ⟨⟨nI.ok.mod,nI.ok.kind,nI.ok.glob,nI.ok.blt,nI.ok.above,nI.ok.inj,nI.ok.has,nI.ok.cab,(λz=>by cases z),nI.ok.frames,nI.ok.stk,nI.ok.exf,nI.ok.bs,nI.ok.bsz,nI.ok.noex,nI.ok.exfs,nI.ok.funs,nI.ok.frf⟩,
  nI.os,nI.bare,nI.base,nI.loc,nI.cell,nI.free,nI.freeC,nI.pin,nI.hok,nI.len⟩
def Inv.ofH(ok:X.Ok)(nI:Inv (X.hnd e) pins I H s):Inv X pins I H s:=⟨ok,nI.os,nI.bare,nI.base,nI.loc,nI.cell,nI.free,nI.freeC,nI.pin,nI.hok,nI.len⟩
end
def Rep.set_raw{K:k84}(R:Rep K J I H)(e:del H (owns J) a=aa (.frz o (.own a)))(hx:W.nsIn K aw x=aa (aa o.cls)):Rep K (J.set i (.raw a o x)) (I.set i (aa (.ref a))) H:=by
 have sub:(owns (J.set i (.raw a o x))).Sublist (owns J):=j7 rfl;have g:j5 (del H (owns J)) (del H (owns (J.set i (.raw a o x)))):=zb λb hb=>sub.subset hb;refine⟨by simp[R.len],λj d' h=>?_,λj a ds h=>?_,sub.nodup R.nd,λj a' o' x' h=>?_,R.tb⟩
 .rcases getElem?_set_of h with ⟨rfl,z,hl⟩|⟨n,h⟩
  .cases z
  .obtain⟨u,q,h⟩:=R.val j d' h;exact⟨u,by rw[zq n];exact q,h.mono g⟩
 .rcases getElem?_set_of h with ⟨rfl,z,_⟩|⟨n,h⟩
  .cases z
  .obtain⟨q,xs,h,l⟩:=R.own j a ds h;exact⟨by rw[zq n];exact q,xs,h,l.mono g⟩
 .rcases getElem?_set_of h with ⟨rfl,z,hl⟩|⟨n,h⟩
  .cases z;exact⟨Zn (by rw[R.len];exact hl),.inr ⟨g _ _ e,hx⟩⟩
  .obtain⟨q,h⟩:=R.raw j a' o' x' h;exact⟨by rw[zq n];exact q,h.mono g⟩
section
variable{X:Cx}{J:Rho}{i:Nat}{a:ak}{o:cT}{x y c c1 c2:ao}{p p1 p2 p3 p4 p5 pos:aR}{k:Bool}
def Es:Qc X (.builtin "isinstance") (λxs H Q=>∃(a:ak)(o:cT)(C:ak)(v:V)(u:aj)(b:Bool),xs=[.ref a,v]/\H a=aa (.frz o (.own a))/\o.cls=.ref C/\XcOk X.K C/\(∀u',RelV v u'->u'=u)/\W.kitOne X.K (.ref C) u=aa b/\Q (.bl b) H):=by rintro pins s I H xs us Q nI r ⟨a,o,C,v,u,b,e,ha,hc,hk,hv,kk,q⟩;subst e;obtain⟨u1,u2,eu,r1,r2⟩:=vals2 r;subst eu;cases(show u1=aQ a from r1);cases hv u2 r2;exact Jc (.inl nI.tk) <| W.kia_one (j21 hk) nI.kIn ⟨(nI.hok a _ ha).1,hc⟩ kk (λz=>nomatch z) λtk (ht:0<tk)=>⟨.bl b,H,nI.tok tk,rfl,q⟩
def j1h(ha:Q8 X.K=af)(hx:x∈qg)(R:Rep X.K J I H)(h:J[i]?=aa (.raw a o x)):I[i]?=aa (aa (.ref a))/\H a=aa (.frz o (.own a))/\∃C,o.cls=.ref C/\ExOne X.K x C:=by obtain⟨q,z⟩:=R.raw i a o x h;obtain⟨z,n⟩:=z.resolve_left λe=>absurd (e▸hx) (by decide);obtain⟨C,e,F⟩:=U6 ha hx n;exact⟨q,(qb z).2,C,e,F⟩
def DE.isxV(ha:Q8 X.K=af)(hx:x∈qg)(h:J[i]?=aa (.raw a o x))(hm:X.mg "isinstance"=ag)(hT:X.mg "ValueError"=ag)(hN:X.N[i]?=aa y)(hv:Vis X.env.scope y)(hd:(y==k89)=ae)(hcd:(y==k8a)=ae)
  (hg:Gl X "isinstance") (hg2:Gl X "ValueError") (hs:ah [.Name y p1,.Name "ValueError" p2] X.env=(ae,aD (.Name y p1) X.env)::ah [.Name "ValueError" p2] X.env) (hs2:ah [.Name "ValueError" p2] X.env=(ae,aD (.Name "ValueError" p2) X.env)::ah [] X.env)
  (hpl:(aS pos (ah [.Name "ValueError" p2] X.env)).any (·.1)=ae):DE X J (.Call (.Name "isinstance" p) [.Name y p1,.Name "ValueError" p2] [] pos) (.bl af):=λI H Q R q=>by
 obtain⟨q1,q2,C,e,F⟩:=j1h ha hx R h;exact(J9 Es hg hm i5 (ji (qp hN hv hd hcd) (ji (jmt hg2 hT (by decide +kernel)) qe hs2) hs) (by decide) (by decide) hs hpl).to ⟨.ref a,q1,a,o,C,.ty "ValueError",.type "ValueError",af,rfl,q2,e,F.ok,λu' r=>r,F.val,q _ H (j5.refl H) rfl⟩
def DE.isx1(ha:Q8 X.K=af)(hx:x∈qg)(h:J[i]?=aa (.raw a o x))(hm:X.mg "isinstance"=ag)(hc:c∈qg)(hn:W.nsIn X.K aw c=aa (aa v))(hT:X.mg c=aa v)(hN:X.N[i]?=aa y)(hv:Vis X.env.scope y)(hd:(y==k89)=ae)(hcd:(y==k8a)=ae)
  (hg:Gl X "isinstance") (hg2:Gl X c) (hdb:(c==k89)=ae) (hs:ah [.Name y p1,.Name c p2] X.env=(ae,aD (.Name y p1) X.env)::ah [.Name c p2] X.env) (hs2:ah [.Name c p2] X.env=(ae,aD (.Name c p2) X.env)::ah [] X.env)
  (hpl:(aS pos (ah [.Name c p2] X.env)).any (·.1)=ae):DE X J (.Call (.Name "isinstance" p) [.Name y p1,.Name c p2] [] pos) (.bl (x==c)):=λI H Q R q=>by
 obtain⟨q1,q2,C,e,F⟩:=j1h ha hx R h;obtain⟨C',rfl,_⟩:=U6 ha hc hn;exact(J9 Es hg hm i5 (ji (qp hN hv hd hcd) (ji (Ka (v:=.ref C') hg2 hT rfl hdb) qe hs2) hs) (by decide) (by decide) hs hpl).to ⟨.ref a,q1,a,o,C,.ref C',.ref C',x==c,rfl,q2,e,F.ok,λu' r=>r,F.one c hc _ hn,q _ H (j5.refl H) rfl⟩
end
structure KindsP(P:aA)(w:aH)(K:k84)(mg:k87)(base:aL)(f x:ao)(l:List D):Prop where
 ex:∃fa:ak,mg f=aa (.ref fa)/\W.keepIn K (.ref fa)=af/\∀(A:aI)(outer:List d8)(s:aq)(H:Hp)(e:ak)(o:cT),A.depth+4<c8->A.units+150<bH->Il P w K mg base A outer s H->TabOk K H ->
  H e=aa (.frz o (.own e))->W.nsIn K aw x=aa (aa o.cls) ->
  cQ (aB P w) A (.call (.ref fa) ⟨[.ref e],[]⟩) (CR CX0 outer P w H s (λv H'=>∃a xs,v=.ref a/\j5 H H'/\H a=ag/\H' a=aa (.lst xs)/\j6 K (del H' [a]) l xs) E0) s
 nl:zc l=af
abbrev Kinds(X:Cx)(f x:ao)(l:List D):Prop:=KindsP X.prog X.w X.K X.mg X.base f x l
section
variable{X:Cx}{J:Rho}{i j:Nat}{e:ak}{o:cT}{f x n k A:ao}{l:List D}{P:Po}{body:List aU}{p p1 p2 p3 p4 p5 pos hpos:aR}
def DO.kinds(c:Kinds X f x l)(hx:x∈qg)(h:J[j]?=aa (.raw e o x))(hdp:X.A.depth+4<c8)(hun:X.A.units+150<bH)(hg:Gl X f)(hdb:(f==k89)=ae)(hN:X.N[j]?=aa n)(hv:Vis X.env.scope n)(hd:(n==k89)=ae)(hcd:(n==k8a)=ae)
  (he:ah [.Name n p1] X.env=(ae,aD (.Name n p1) X.env)::ah [] X.env) (hpl:(aS p2 (ah [] X.env)).any (·.1)=ae):DO X J (.Call (.Name f p) [.Name n p1] [] p2) l:=λI H Q R q pins s nI=>by
 obtain⟨fa,hm,hk,run⟩:=c.ex;obtain⟨q1,q2⟩:=R.raw j e o x h;obtain⟨q2,q3⟩:=q2.resolve_left λe=>absurd (e▸hx) (by decide);refine b9 (Qn nI hg hm ?_ hdb);refine W.callWith_K (h₀:=X.base) nI.ok.mod.kin hk (thn ((ji (qp hN hv hd hcd) qe he).to (I:=I) (H:=H) (Q:=λvs H1=>vs=[.ref e]/\H1=H) ⟨.ref e,q1,rfl,rfl⟩ p2 pins s nI) λus s1 ⟨vs,H1,I1,r,e1,e2⟩=>⟨I1.kIn,?_⟩) he hpl;subst e1 e2;obtain⟨u,eu,r1⟩:=vals1 r;subst eu;cases(show u=aQ e from r1);refine gn (cJ (run X.A X.stack s1 H1 e o hdp hun I1.env0 R.tb (qb q2).2 q3) λr s' hq=>?_);cases r with
 |error e=>exact hq.elim
 |ok fl =>
  cases fl with
  |ret u =>
   obtain⟨v,H',I',rv,a,xs,ev,g,na,m,en⟩:=I1.after hq;refine⟨v,H',I',rv,?_⟩;subst ev;exact q a xs H' g na m ((en.mono jr).hide (λc hc=>by
    rcases xj.mp hc with z|z
    .rw[z];exact .inl ⟨xs,m⟩
    .exact .inl ((R.grow g).owned c z)) c.nl)
  |next=>exact aW hq
  |brk=>exact aW hq
  |cont=>exact aW hq
def caught{pins:k86}{I:St}{H H0:Hp}{s:aq}{C:aj}{E:Ends}{ρ0:Rho}(ha:Q8 X.K=af)(hx:x∈qg)(hns:W.nsIn X.K aw x=aa (aa C))(c:Kinds X f x l)(hst:X.stack=X.env::X.outer)(hfm:X.env.frame=aa X.env.locals)
  (hdp:X.A.depth+4<c8) (hun:X.A.units+150<bH) (nI:Inv X pins I H s) (R:Rep X.K J I H) (Fe:FlQ (flF X.env) (Old X pins) H s.heap e C) (q:EndsOk X ρ0 H0 P E) (f0:Fr0 ρ0 J H0 H)
  (hP:∀oe a,P.nx (((J.set j (.raw e oe x)).set i (.own a l)).set j .un)) (hND:X.N.Nodup) (hgA:Gl X "AskError")
  (hg:Gl X f) (hdb:(f==k89)=ae) (hN:X.N[j]?=aa n) (hlo:X.env.scope.names.lookup n=aa .local) (hd:(n==k89)=ae) (hcd:(n==k8a)=ae)
  (hi:X.N[i]?=aa k) (hxk:Loc X.env.scope k) (hfk:X.fn k=af\/X.env.scope.names.lookup k=aa .local) (hfn:X.fn n=af\/X.env.scope.names.lookup n=aa .local)
  (hs:aO (.Call (.Name f p) [.Name n p1] [] p2) (aa (.Name k p3)) p4.line X.env=pure ae)
  (he:ah [.Name n p1] X.env=(ae,aD (.Name n p1) X.env)::ah [] X.env) (hpl:(aS p2 (ah [] X.env)).any (·.1)=ae) :
  ay (aB X.prog X.w) X.A (dR (.ref e) X.env) (λ_ s₂=>ay (aB X.prog X.w) X.A (lU (.ref e) ag) (λ_ s₃ =>
   ay (aB X.prog X.w) X.A (handleBy (.ref e) X.env [.ExceptHandler (aa (.Name "AskError" p5)) (aa n) [.Assign [.Name k p3] (.Call (.Name f p) [.Name n p1] [] p2) p4] hpos]) (SP X pins E) X.xe s₃) X.xe s₂) X.xe s:=by
 obtain⟨Ca,rfl,F1⟩:=U6 ha hx hns;obtain⟨av,hav,hexm⟩:=F1.ask;have hma:X.mg "AskError"=aa av:=W.mg_of nI.mod.kin nI.mod.glob hav;refine jf7 nI hst hfm hfm Fe λh1 I1 F1'=>?_;refine j4e I1 F1' λh2 I2 F2=>?_;refine wpAny_handleBy_cons (codeAny_handlers_test (Qn (X:=X.hnd e) (Inv.toH I2) hgA hma ?_)) (by intro q;cases q);obtain⟨oe,vs,a0,T,oT,ts,hoe,hoc,_⟩:=F2.obj;refine(W.exm_one I2.kIn (hoc▸(fO hoe).andThen .now) hexm).here ?_;refine codeAny_handlers_suite_as (j4e (X:=X) I2 F2 λh3 I3 F3=>?_);obtain⟨oe,vs,a0,T,oT,ts,hoe,hoc,_⟩:=F3.obj;have I4:=I3.track hoe F3.new F3.free;have g4:j5 H (upd H e (.frz oe (.own e))):=je F3.free;have R4:=R.grow g4;have ho:del (upd H e (.frz oe (.own e))) (owns J) e=aa (.frz oe (.own e)):=by rw[jd (R.fresh F3.free)];exact jz
 have hcls:W.nsIn X.K aw x=aa (aa oe.cls):=by rw[hoc];exact hns
 refine Mi (v:=.ref e) I4 hND hN (.inl hlo) rfl (λs5 I5 _=>?_) hfn;have R5:Rep X.K (J.set j (.raw e oe x)) (I.set j (aa (.ref e))) (upd H e (.frz oe (.own e))):=R4.set_raw ho hcls;have hj:(J.set j (.raw e oe x))[j]?=aa (.raw e oe x):=Zn (by
  have z:=(Xl.mp hN).1
  rw[<-R.len,nI.len];exact z)
 have suite:DSs (X.hnd e) (J.set j (.raw e oe x)) [.Assign [.Name k p3] (.Call (.Name f p) [.Name n p1] [] p2) p4] { nx:=λρ3=>∃a,ρ3=(J.set j (.raw e oe x)).set i (.own a l),rt:=λ_=>False } :=
  DSs.last (DS.setO i (DO.kinds (X:=X.hnd e) ⟨c.ex,c.nl⟩ hx hj hdp hun hg hdb hN (.inl hlo) hd hcd he hpl) (λa=>⟨a,rfl⟩) hND hi hxk hs hfk)
 have run:=suite _ _ { nx:=λσ6 H6=>∃a,Rep X.K ((J.set j (.raw e oe x)).set i (.own a l)) σ6 H6/\Fr0 (J.set j (.raw e oe x)) ((J.set j (.raw e oe x)).set i (.own a l)) (upd H e (.frz oe (.own e))) H6,rt:=λ_ _=>False,bk:=λ_ _=>False,ct:=λ_ _=>False } R5
  ⟨λJ' σ' H' ⟨a,er⟩ R' f=>⟨a,er▸R',er▸f⟩,λ_ _ _ z=>z.elim,λ_ _ _ z=>z.elim,λ_ _ _ z=>z.elim,λ_ _ _ _ z=>z.elim⟩ pins s5 (Inv.toH I5)
 refine bB run (λfl s6 h6=>?_) λ_ _ z=>z.elim;cases fl with
 |next =>obtain⟨σ6,H6,I6,a,R6,f6⟩:=h6;refine jfl (X:=X) (Inv.ofH nI.ok I6) hND hN hlo λs7 I7=>?_;refine⟨_,H6,I7,q.nx _ _ H6 (hP oe a) R6.set_un ?_⟩;refine f0.trans (j5.trans (Fr0.grow g4) (j5.trans (Fr0.drop λb hb=>(j7 rfl).subset hb) (j5.trans f6 (Fr0.drop λb hb=>(j7 rfl).subset hb))))
 |ret u=>obtain⟨_,_,_,_,_,_,_,z⟩:=h6;exact z.elim
 |brk=>obtain⟨_,_,_,z⟩:=h6;exact z.elim
 |cont=>obtain⟨_,_,_,z⟩:=h6;exact z.elim
end
section
variable{X:Cx}{J:Rho}{i j:Nat}{f n k:ao}{P:Po}{body:List aU}{p p1 p2 p3 p4 p5 pos hpos:aR}
noncomputable def Po.caught(P:Po)(X:Cx)(f:ao)(i j:Nat):Po:={ P with ex:=λx J'=>x∈qg/\(∃o,W.nsIn X.K aw x=aa (aa o))/\∃l,Kinds X f x l/\∀e oe a,P.nx (((J'.set j (.raw e oe x)).set i (.own a l)).set j .un) }
def DS.tryK(hb:∀pn xe,eR (aB X.prog X.w) X.A X.env xe->DSs { X with pn:=pn,xe:=xe } J body (P.caught X f i j))(ha:Q8 X.K=af)(hst:X.stack=X.env::X.outer)(hfm:X.env.frame=aa X.env.locals)(hdp:X.A.depth+4<c8)(hun:X.A.units+150<bH)
  (hND:X.N.Nodup) (hgA:Gl X "AskError") (hg:Gl X f) (hdb:(f==k89)=ae) (hN:X.N[j]?=aa n) (hlo:X.env.scope.names.lookup n=aa .local) (hd:(n==k89)=ae) (hcd:(n==k8a)=ae)
  (hi:X.N[i]?=aa k) (hxk:Loc X.env.scope k) (hfk:X.fn k=af\/X.env.scope.names.lookup k=aa .local) (hfn:X.fn n=af\/X.env.scope.names.lookup n=aa .local)
  (hs:aO (.Call (.Name f p) [.Name n p1] [] p2) (aa (.Name k p3)) p4.line X.env=pure ae)
  (he:ah [.Name n p1] X.env=(ae,aD (.Name n p1) X.env)::ah [] X.env) (hpl:(aS p2 (ah [] X.env)).any (·.1)=ae) :
  DS X J (.Try body [.ExceptHandler (aa (.Name "AskError" p5)) (aa n) [.Assign [.Name k p3] (.Call (.Name f p) [.Name n p1] [] p2) p4] hpos] [] [] pos) P:=λI H E R q pins s nI=>by
 refine wpAny_Try_except ?_;refine bB (hb (X.pn++pins) (λe s₁=>ay (aB X.prog X.w) X.A (dR e X.env) (λ_ s₂=>ay (aB X.prog X.w) X.A (lU e ag) (λ_ s₃ =>
   ay (aB X.prog X.w) X.A (handleBy e X.env [.ExceptHandler (aa (.Name "AskError" p5)) (aa n) [.Assign [.Name k p3] (.Call (.Name f p) [.Name n p1] [] p2) p4] hpos]) (SP X pins E) X.xe s₃) X.xe s₂) X.xe s₁) PassesOwn.looking
  I H E R ⟨q.nx,q.bk,q.ct,q.rt,λx J' σ' H' hP R' f'=>?_⟩ [] s nI.toPn) (λfl s1 h1=>?_) λ_ _ z=>z
 .obtain⟨hx,⟨o,ho⟩,l,kd,hnx⟩:=hP;intro pins' H2 s' e C I' g hm Fe;have I2:Inv X pins σ' H2 s':=Inv.ofPn I';have hm2:X.mg x=aa o:=W.mg_of I2.mod.kin I2.mod.glob ho;cases(show aa C=aa o from(show X.mg x=aa C from hm).symm.trans hm2);exact caught ha hx ho kd hst hfm hdp hun I2 (R'.grow g) (FlQ.up Fe (λ_ z=>z) λb hb=>hb.toPn) q (f'.trans (Fr0.grow g)) (λoe a=>hnx e oe a) hND hgA hg hdb hN hlo hd hcd hi hxk hfk hfn hs he hpl
 .cases fl with
  |next =>obtain⟨σ',H',I',z⟩:=h1;exact(Ym (X:=X)).to z pins s1 (Inv.ofPn I')
  |ret u =>obtain⟨v,σ',H',H2,I',r,x2,z⟩:=h1;exact⟨v,σ',H',H2,Inv.ofPn I',r,x2,z⟩
  |brk=>obtain⟨σ',H',I',z⟩:=h1;exact⟨σ',H',Inv.ofPn I',z⟩
  |cont=>obtain⟨σ',H',I',z⟩:=h1;exact⟨σ',H',Inv.ofPn I',z⟩
end
section
variable{P:aA}{w:aH}{K:k84}{mg:k87}{base:aL}{f:ak}{g x pn:ao}{st:aU}{fd:aN}{N:List ao}{l:List D}
def jei(tb:TabOk K H)(hN:1<=N.length)(h:H e=aa (.frz o (.own e)))(hx:W.nsIn K aw x=aa (aa o.cls)):Rep K (.raw e o x::ax (N.length-1) .un) (start N [.ref e]) H:=by
 have ho:owns (.raw e o x::ax (N.length-1) .un)=[]:=by
  rw[jy];show owns _=[]
  exact List.filterMap_eq_nil_iff.mpr λs hs=>by rw[(Ti.mp hs).2];rfl
 have un:∀(i:Nat)(s:Sl),(.raw e o x::ax (N.length-1) .un:Rho)[i]?=aa s->(i=0/\s=.raw e o x)\/s=.un:=λi s q=>by
  cases i with
  |zero=>rw[List.getElem?_cons_zero]at q;cases q;exact .inl ⟨rfl,rfl⟩
  |succ i=>rw[dZ]at q;exact .inr (Ti.mp (Pg q)).2
 refine⟨by unfold start;simp,λi d q=>?_,λi a ds q=>?_,by rw[ho];exact gR,λi a o' x' q=>?_,tb⟩
 .rcases un i _ q with ⟨_,z⟩|z<;>cases z
 .rcases un i _ q with ⟨_,z⟩|z<;>cases z
 .rcases un i _ q with ⟨z,z2⟩|z
  .cases z2;subst z;exact⟨rfl,.inr ⟨by rw[ho,J3];exact h,hx⟩⟩
  .cases z
def kinds_of(F:Fun K g g st f fd)(Sc:FnScope N [pn] (j0 st))(hbd:Binds K fd [pn] [])(hm:mg g=aa (.ref f))(hN:1<=N.length)(hnl:zc l=af)
  (hbody:∀(cdv:aj)(A:aI)(outer:List d8)(s:aq)(H:Hp)(e:ak)(o:cT),A.depth+4<c8->A.units+150<bH ->
   DSs { (qy CX0 P w K mg base N g (j0 st) f cdv A outer s H E0).nox with calm:=ae } (.raw e o x::ax (N.length-1) .un) (jj st) { nx:=λ_=>False,rt:=λr=>r=.fresh l }):KindsP P w K mg base g x l:=by
 refine⟨⟨f,hm,F.kp,λA outer s H e o hdp hun e0 tb he hx=>?_⟩,hnl⟩;obtain⟨oc,od,dV,kV,doc,pm,an,cdv,ct,osl,rfl,lk,hcd⟩:=F.ex;have KX:K.In s.heap:=e0.mod.kin.keeps λb o e=>(e0.bs b o e).1;have lim:s.heap.NoLimit:=e0.mod.nolimit.keeps λb o e=>(e0.bs b o e).1;have hb:=hbd s [.ref e] KX rfl;have hkind:∀y∈[pn].zip [aQ e],(j0 st).names.lookup y.1=aa .local\/((j0 st).names.lookup y.1=aa .cell/\((aX (s.heap.objs.size+1) (j0 st).names []).lookup y.1).isSome=af):=λ⟨n,v⟩ hy=>by
  rcases Sc.par n (eM hy).1 with q|q
  .exact .inl q
  .exact .inr ⟨q,W.cellsFrom_some _ _ _ (.inl q)⟩
 refine jO nofun (KX _ _ lk) rfl Sc.co Sc.gen rfl (W.codeRec_of KX hcd) (hb _ _ _ _ ?_);refine Jc (.inl (e0.tk rfl)) <| il Sc.kind hkind λenv henv s1 x1 htk=>?_
 subst henv;refine⟨lim.keeps x1.toInCall.keep,codeAny_func ?_⟩;have nI:Inv { qy CX0 P w K mg base N g (j0 st) f cdv A outer s H E0 with calm:=ae } [] (start N [.ref e]) H s1:=Eg Sc ae (λz=>by cases z) e0 htk rfl (.cons rfl .nil) x1;have I':Inv { (qy CX0 P w K mg base N g (j0 st) f cdv A outer s H E0).nox with calm:=ae } [] (start N [.ref e]) H s1 :=
  ⟨⟨nI.ok.mod,nI.ok.kind,nI.ok.glob,nI.ok.blt,nI.ok.above,nI.ok.inj,nI.ok.has,nI.ok.cab,nI.ok.hd,nI.ok.frames,nI.ok.stk,nI.ok.exf,nI.ok.bs,nI.ok.bsz,nI.ok.noex,nI.ok.exfs,nI.ok.funs,nI.ok.frf⟩,
   nI.os,nI.bare,nI.base,nI.loc,nI.cell,nI.free,nI.freeC,nI.pin,nI.hok,nI.len⟩
 have ho:owns (.raw e o x::ax (N.length-1) .un)=[]:=by
  rw[jy];show owns _=[]
  exact List.filterMap_eq_nil_iff.mpr λs hs=>by rw[(Ti.mp hs).2];rfl
 have run:=hbody cdv A outer s H e o hdp hun (start N [.ref e]) H { nx:=λ_ _=>False,bk:=λ_ _=>False,ct:=λ_ _=>False,rt:=λv H'=>∃a xs,v=.ref a/\j5 H H'/\H a=ag/\H' a=aa (.lst xs)/\j6 K (del H' [a]) l xs } (jei tb hN he hx)
  ⟨λ_ _ _ z=>z.elim,λ_ _ _ z=>z.elim,λ_ _ _ z=>z.elim,(λr v H' n z=>by
   cases(show r=.fresh l from n)
   obtain⟨a,xs,e,g,m,en⟩:=z
   rw[ho,J3]at g
   refine⟨a,xs,e,g.trans jr,?_,m,en⟩
   cases y:H a with
   |none=>rfl
   |some o=>have:=g a o y;rw[J0 (xu.mpr rfl)]at this;cases this),λ_ _ _ _ z=>z.elim⟩ [] s1 I'
 refine bB run (λfl s' hs=>?_) λ_ _ z=>z.elim;cases fl with
 |ret u =>obtain⟨v,σ',H',H2,nH,rv,x,q⟩:=hs;exact⟨v,H2,nH.os,nH.bare,(nH.extOut x).2 rfl,(nH.extOut x).1,rv,q⟩
 |next=>obtain⟨_,_,_,q⟩:=hs;exact q.elim
 |brk=>obtain⟨_,_,_,q⟩:=hs;exact q.elim
 |cont=>obtain⟨_,_,_,q⟩:=hs;exact q.elim
end
section
variable{X:Cx}
def jpy:V->Option Int->Option Int->Hp->VK->Prop:=λx lo hi H Q=>∃z,x=.str z/\z.length<=au/\Q (.str (bj z lo hi)) H
def part_of{o:Option Int}(h:kI v o):∃l:Option (Int×iD),v=partValue l/\l.map (·.1)=o:=by
 cases h with
 |none=>exact⟨ag,rfl,rfl⟩
 |int i t=>exact⟨aa (i,t),rfl,rfl⟩
def jeo{s:aq}[Decidable c](ht:t≠0)(h0:0<s.toks)(h:(if c then y else z).length<=au/\∀(t':{t:Nat // t≠0}) k,0<k->Q (.str (if c then y else z) t'.1) { s with toks:=k }) :
  (if c then Made.val (.str y t)else Made.str z).post Q s:=by
 by_cases hc:c
 .rw[if_pos hc];have h':=h.2 ⟨t,ht⟩ s.toks h0;rw[if_pos hc]at h';exact h'
 .rw[if_neg hc];have h':=h.2 ⟨s.toks,Xu h0⟩ (s.toks+1) (Pb _);have h1:=h.1;rw[if_neg hc]at h' h1;exact⟨h1,h'⟩
def jh5:SlR X jpy:=by intro pins s I H x v vl vu lo hi sl Q nI rx hs pl pu h;obtain⟨z,ex,hz,q⟩:=h;subst ex;obtain⟨t,ev⟩:=rx;subst ev;obtain⟨l,el,ml⟩:=part_of pl;obtain⟨u,eu,mu⟩:=part_of pu;subst el eu ml mu;obtain⟨o,h1,h2,h3⟩:=hs;refine⟨"str",_,PySem.F.slot_str_getitem.lookup,cE s z t,wpAny_getItem_str_slice (l:=l) (u:=u) (st:=ag) ⟨o,h1,h2,h3⟩ rfl ?_⟩;exact jeo t.2 nI.tk ⟨Xa (Txt.slice_le z _ _) hz,λt' k hk=>⟨.str _,H,nI.tok k,⟨t',rfl⟩,q⟩⟩
theorem j3x:∀{ts:List ao}{us:List aj},Vals (ts.map V.str) us->∃l:List (ao×iD),us=strValues l/\l.map (·.1)=ts/\∀p∈l,p.2≠0
 |[],_,r=>by cases r;exact⟨[],rfl,rfl,λ_ h=>nomatch h⟩
 |t::ts,_,r=>by
  cases r with
  |cons a b =>obtain⟨k,e⟩:=a;obtain⟨l,e1,e2,e3⟩:=j3x b;subst e e1 e2;exact⟨(t,k.1)::l,rfl,rfl,λp hp=>(xj.mp hp).elim (λz=>z▸k.2) (e3 p)⟩
def j5p{s:aq}(h0:0<s.toks):∀(l:List (ao×iD)),(∀p∈l,p.2≠0)->((c9 sep (l.map (·.1))).length<=au/\∀(t':{t:Nat // t≠0}) k,0<k->Q (.str (c9 sep (l.map (·.1))) t'.1) { s with toks:=k })->(joinMade sep l).post Q s
 |[],_,h=>⟨h.1,h.2 ⟨_,Xu h0⟩ _ (Pb _)⟩
 |[p],hp,h=>h.2 ⟨p.2,hp p (km ..)⟩ s.toks h0
 |_::_::_,_,h=>⟨h.1,h.2 ⟨_,Xu h0⟩ _ (Pb _)⟩
def jf9:MtR X "str.join" (λx vs H Q=>∃(sep:ao)(l:ak)(ts:List ao),x=.str sep/\vs=[.ref l]/\SqL X.K H l (ts.map V.str)/\bZ sep ts=af/\Q (.str (c9 sep ts)) H):=by rintro pins s I H x vs v us Q nI rx rv ⟨sep,l,ts,e,e',sq,hok,q⟩;subst e e';obtain⟨t,ev⟩:=rx;subst ev;obtain⟨u,eu,ru⟩:=rv.one;subst eu;cases ru;obtain⟨its,ri,pl,_⟩:=nI.list sq;obtain⟨ps,e1,e2,e3⟩:=j3x ri;subst e1 e2;unfold bZ at hok;rw[dP]at hok;exact bX iQ (cE _ _ _) F.entry_str_join (F.args_str_join_2 _ _) (meets_str_join_list sep t l ps hok) ⟨pl.isList,j5p nI.tk ps e3 ⟨joinFit_length hok,λt' k hk=>⟨.str _,H,nI.tok k,⟨t',rfl⟩,q⟩⟩⟩
def j9j(hc:X.calm=af):Qc X (.builtin "sum") (λxs H Q=>∃(lst:Bool)(l:ak)(ns:zo),xs=[.ref l]/\SqB X.K lst H l (ns.map V.int)/\Q (.int ns.sum) H):=by
 rintro pins s I H xs us Q nI r ⟨lst,l,ns,e,sq,q⟩;subst e;obtain⟨u,eu,ru⟩:=vals1 r;subst eu;cases ru;obtain⟨its,rv,pl,_⟩:=nI.side sq;have hl:its.length=ns.length:=by rw[<-rv.length,xm]
 have val:∀i v,its.toArray[i]?=aa v->∃t,v=eV (ns.getD i 0) t:=by
  intro i v hv;have hi:i<its.length:=by obtain⟨h,_⟩:=Array.getElem?_eq_some_iff.mp hv;simpa using h
  have hi':i<ns.length:=by omega
  obtain⟨w1,hw,rw1⟩:=rv.get (x:=.int (ns.getD i 0)) (i:=i) (by rw[Xn,xf hi',xx,xf hi'];rfl);have:its.toArray[i]?=aa w1:=by simpa using hw
  rw[this]at hv;cases hv;exact rw1
 have tot:preSum (λi=>ns.getD i 0) its.toArray.size=ns.sum:=by rw[preSum_getD,Tf (by rw[Xb];omega)]
 have fin:∀(o:cT)(s':aq)(t':iD),Moved [s.heap.objs.size] (λa b=>b=a) { s with heap:=s.heap.push o } s'->EP X pins I Q (.int (preSum (λi=>ns.getD i 0) its.toArray.size) t') s':=λo s' t' mv=>by obtain⟨hh,gg,dd,tt,oo⟩:=s';obtain⟨m1,m2,m3,m4,m5⟩:=mv;cases m2;cases m3;cases m4;rw[tot];have ht:0<tt:=Xh nI.tk m5;refine⟨.int _,H,nI.kept (t':=tt) λb o e=>m1 b o ?_ (kj _ e),⟨_,rfl⟩,q⟩;intro z;rw[xu.mp z]at e;exact T6 _ (X4 e)
 unfold jx at pl;cases lst with
 |true =>
  rw[if_pos rfl]at pl;have hlt:l<s.heap.objs.size:=by obtain⟨_,e,_⟩:=pl;exact X4 e
  refine kW (cX pl ⟨s.heap.objs.size,[s.heap.objs.size,l],[s.heap.objs.size],_,its.toArray.size,_,_,λi=>ns.getD i 0,rfl,(Walks.list (A:=X.A.in1) (nI.ok.hd hc) _ _ (Xi hlt) its.toArray).toS,⟨⟨_,X7 _ rfl,rfl,rfl⟩,pl.push _⟩,?_,val,λs' t' mv=>fin _ s' t' mv⟩);intro b hb;show b<(s.heap.push _).objs.size;rw[Xv];rcases xj.mp hb with z|z
  .rw[z];exact S5 _
  .rw[xu.mp z];exact fV hlt
 |false =>
  rw[if_neg xq]at pl;have hlt:l<s.heap.objs.size:=by obtain⟨_,e,_⟩:=pl;exact X4 e
  refine kW (gk pl ⟨s.heap.objs.size,[s.heap.objs.size,l],[s.heap.objs.size],_,its.toArray.size,_,_,λi=>ns.getD i 0,rfl,(Walks.tuple (A:=X.A.in1) (nI.ok.hd hc) _ _ (Xi hlt) its.toArray).toS,⟨⟨_,X7 _ rfl,rfl,rfl⟩,pl.push _⟩,?_,val,λs' t' mv=>fin _ s' t' mv⟩);intro b hb;show b<(s.heap.push _).objs.size;rw[Xv];rcases xj.mp hb with z|z
  .rw[z];exact S5 _
  .rw[xu.mp z];exact fV hlt
end
section
variable{X:Cx}{J:Rho}{a b e:ar}{ds:List D}{i j:Int}{pos p p1 p2:aR}{y z:ao}{lo hi:Option ar}{l u:Option Int}
theorem Ej{K:k84}:∀{ts:List ao}{xs:List V},j6 K H (ts.map D.str) xs->xs=ts.map V.str
 |[],_,h=>h
 |t::ts,_,⟨x,r,e,h,l⟩=>by subst e;cases(show x=.str t from h);rw[Ej l];rfl
theorem Ye{K:k84}:∀{ts:zo}{xs:List V},j6 K H (ts.map D.int) xs->xs=ts.map V.int
 |[],_,h=>h
 |t::ts,_,⟨x,r,e,h,l⟩=>by subst e;cases(show x=.int t from h);rw[Ye l];rfl
def DE.lenS(ha:DT X J a (.str y))(hy:y.length<=au)(hm:X.mg "len"=ag)(hg:Gl X "len")(hs:ah [a] X.env=[(ae,aD a X.env)]):DE X J (.Call (.Name "len" p) [a] [] pos) (.int y.length):=λI H Q R q =>(J9 j30 hg hm cP (ji peS qe hs) (by decide) (by decide) hs).to (ha I H _ R λv H1 g1 e1=>⟨y,by rw[show v=.str y from e1],hy,q _ H1 g1 rfl⟩)
def DE.catS(ha:DT X J a (.str y))(hb:DT X J b (.str z))(hl:y.length+z.length<=au):DE X J (.BinOp a .Add b pos) (.str (y++z)):=λI H Q R q =>(Zr Rg peS peS).to (ha I H _ R λv H1 g1 e1=>hb I H1 _ (R.grow g1) λu H2 g2 e2=>⟨y,z,e1,e2,hl,q _ H2 (g1.trans g2) rfl⟩)
def DE.ixC(ha:DT X J a (.str y))(hb:DT X J b (.int i))(hy:y.length<=au)(h:L2.atI y.cps.toList i=aa c)(hs:Ys b):DE X J (.Subscript a b pos) (.str ⟨#[c]⟩):=λI H Q R q =>(Ox jja peS peS hs).to (ha I H _ R λv H1 g1 e1=>hb I H1 _ (R.grow g1) λu H2 g2 e2=>⟨y,i,c,e1,e2,hy,h,q _ H2 (g1.trans g2) rfl⟩)
def DE.sliceS(ha:DT X J a (.str y))(hl:DP X J lo l)(hu:DP X J hi u)(hy:y.length<=au):DE X J (.Subscript a (.Slice lo hi ag p2) pos) (.str (bj y l u)):=λI H Q R q =>(j1l jh5 peS poS poS).to (ha I H _ R λv H1 g1 e1=>hl I H1 _ (R.grow g1) λH2 g2=>hu I H2 _ (R.grow (g1.trans g2)) λH3 g3=>⟨y,e1,hy,q _ H3 (g1.trans (g2.trans g3)) rfl⟩)
def DE.int1(ha:DT X J a (.bl k))(hm:X.mg "int"=ag)(hg:Gl X "int")(hs:ah [a] X.env=[(ae,aD a X.env)]):DE X J (.Call (.Name "int" p) [a] [] pos) (.int (if k then 1 else 0)):=λI H Q R q =>(Vr j9m hg hm boot_int (ji peS qe hs) (by decide) (by decide) hs).to (ha I H _ R λv H1 g1 e1=>.inr ⟨k,by rw[show v=.bl k from e1],q _ H1 g1 rfl⟩)
theorem DE.sum(lst:Bool){ns:zo}(ha:DT X J a (D.seq lst (ns.map D.int)))(hm:X.mg "sum"=ag)(hc:X.calm=af)(hg:Gl X "sum")(hs:ah [a] X.env=[(ae,aD a X.env)]):DE X J (.Call (.Name "sum" p) [a] [] pos) (.int ns.sum):=λI H Q R q =>
 (J9 (j9j hc) hg hm boot_sum (ji peS qe hs) (by decide) (by decide) hs).to (ha I H _ R λv H1 g1 e1=>by
  obtain⟨t,xs,ev,sq,en⟩:=Q5 e1
  subst ev
  rw[Ye en]at sq
  exact⟨lst,t,ns,rfl,sq,q _ H1 g1 rfl⟩)
theorem DE.join{ts:List ao}(ha:DT X J a (.lst (ts.map D.str)))(hok:bZ sep ts=af)
  (hfew:((aS p2 (ah [a] X.env)).all (λx=>!x.1)&&(bU p2 (bg [] X.env)).all (λx=>x.1.isSome)&&decide (([a]:List ar).length+([]:List bb).length+(if ([]:List bb).isEmpty then 0 else 1)<30))=af)
  (hbase:aY (.Constant (.str sep) n p0) "join" X.env (aD (.Constant (.str sep) n p0) X.env)=aD (.Constant (.str sep) n p0) X.env)
  (hline:(p1.endLine==p2.line)=af) (hs:ah [a] X.env=(ae,aD a X.env)::ah [] X.env):DE X J (.Call (.Attribute (.Constant (.str sep) n p0) "join" p1) [a] [] p2) (.str (c9 sep ts)):=λI H Q R q =>
 (Uk cN iQ PySem.F.type_str_join jf9 Wd (ji peS qe hs) hbase hfew hline hs rfl).to ⟨rfl,ha I H _ R λv H1 g1 ⟨t,xs,e,sq,en⟩=>⟨sep,t,ts,rfl,by rw[e],by rw[Ej en]at sq;exact sq,hok,q _ H1 g1 rfl⟩⟩
end
section
variable{X:Cx}
def jb5:OpR X (bO .FloorDiv) (rI (λ_ j=>0<j/\j<18446744073709551616) λi j=>.int (i/j)):=opI λi j _ _ _ _ _ hc q=>by
 have e:i/j=i.fdiv j:=by rw[Int.fdiv_eq_ediv_of_nonneg _ nofun]
 refine floordiv_int nofun (by rw[<-e];exact q) (.inl (PyProof.noPylong_of_log2 ?_))
 have h2:(2:Nat)^64=18446744073709551616:=by decide
 have:=(mQ (n:=j.natAbs) (k:=64) nofun).mpr (by rw[h2];omega);omega
end
section
variable{X:Cx}{J:Rho}{a b e:ar}{d d':D}{ds:List D}{i j:Int}{pos p p1 p2:aR}{P:Po}
def DE.fdivB(ha:DT X J a (.int i))(hb:DT X J b (.int j))(h:0<j/\j<18446744073709551616):DE X J (.BinOp a .FloorDiv b pos) (.int (i/j)):=DE.arI (g:=λi j=>i/j) jb5 ha hb h
end
def ddS(acc:List ao)(v:ao):List ao:=if acc.any (· == v)=af then acc else acc++[v]
def dd(ts:List ao):List ao:=ts.foldl ddS []
section
variable{X:Cx}{J:Rho}{a b:ar}{es:List ar}{n:Nat}{pos p p1 p2 q1:aR}{ks:List zo}{ds:List D}{k:zo}
def DS.unp{P:Po}(hij:i≠j)(he:DE X J e (.tup [d,d']))(h:P.nx ((J.set i (.val d)).set j (.val d')))(hc:X.calm=af)(hN:X.N.Nodup)(hi:X.N[i]?=aa x)(hj:X.N[j]?=aa y)(hx:Loc X.env.scope x)(hy:Loc X.env.scope y)
  (fx:X.fn x=af\/X.env.scope.names.lookup x=aa .local) (fy:X.fn y=af\/X.env.scope.names.lookup y=aa .local)
  (hs:dh [.Tuple [.Name x p1,.Name y p2] n q1] e pos.line X.env=pure ae) (hw:di [.Tuple [.Name x p1,.Name y p2] n q1] e X.env=pure ag) :
  DS X J (.Assign [.Tuple [.Name x p1,.Name y p2] n q1] e pos) P:=λI H E R q=>by
 refine(j1j peS pgS hs hw).to (he I H _ R λv H1 g1 e1=>?_);obtain⟨sub,hG⟩:=DG.pair (J:=J) (q1:=p1) (q2:=p2) (n:=n) (pos:=q1) (d:=d) (d':=d') i j hij hN hi hj hx hy fx fy hc;exact hG I H1 v _ (R.grow g1) e1 λσ' R'=>q.nx _ σ' H1 h R' (j5.trans (Fr0.grow g1) (Fr0.drop sub))
end
section
variable{X:Cx}{pos pos':aR}{o i value:ar}{td ty tv:TE}
def Inv.bigD(nI:Inv X pins I H s):gq<s.heap.objs.size:=by have h:aw<s.heap.objs.size:=(nI.mod.glob.keeps nI.bk).lt;exact tu (by decide) h
end
noncomputable def Ux(kvs:List (ao×Int))(k:ao):Option Int:=(kvs.find? λp=>decide (p.1=k)).map λp=>p.2
noncomputable def Kz(kvs:List (ao×Int))(k:ao):Bool:=kvs.any λp=>decide (p.1=k)
noncomputable def dput(kvs:List (ao×Int))(k:ao)(n:Int):List (ao×Int):=if Kz kvs k=af then kvs.map λp=>if p.1=k then(p.1,n)else p else kvs++[(k,n)]
def Wh(r:KV (kvI (p::kvs)) vs):∃t qs,vs=(.inr p.1,.int p.2 t)::qs/\KV (kvI kvs) qs:=by
 have r':KV ((.inr p.1,.int p.2)::kvI kvs) vs:=r;unfold KV at r';cases r' with
 |@cons _ q _ qs h t =>
  obtain⟨h1,h2⟩:=h;obtain⟨q1,q2⟩:=q;obtain⟨tk,e⟩:=(show ∃t,q2=eV p.2 t from h2)
  have h1:bV p.1=q1:=h1;subst h1 e;exact⟨tk,qs,rfl,t⟩
theorem j20:∀{kvs:List (ao×Int)} {vs:List (Key×aj)},KV (kvI kvs) vs->vs.length=kvs.length
 |[],vs,r=>by have r':KV ([]:List (Key×V)) vs:=r;unfold KV at r';cases r';rfl
 |p::kvs,vs,r=>by obtain⟨t,qs,e,r'⟩:=Wh r;subst e;rw[xn,xn,j20 r']
def j1z(r:KV (kvI []) vs):vs=[]:=by have:=j20 r;exact List.length_eq_zero_iff.mp this
theorem j8e:∀{kvs:List (ao×Int)} {vs:List (Key×aj)},KV (kvI kvs) vs->Ux kvs k=aa n->∃t,valueAt vs (.inr k)=aa (.int n t)
 |[],_,_,h=>by cases h
 |p::kvs,vs,r,h=>by
  obtain⟨t,qs,e,r'⟩:=Wh r;subst e;unfold Ux at h;rw[de]at h;by_cases z:p.1=k
  .rw[decide_eq_true z]at h;cases h;exact⟨t,by simp[valueAt,de,z]⟩
  .rw[decide_eq_false z]at h;obtain⟨t',e'⟩:=j8e (kvs:=kvs) r' h;refine⟨t',?_⟩;rw[<-e'];have z':¬((bV p.1:Key)=bV k):=λy=>z (fH y);simp[valueAt,de,z']
theorem j8f:∀{kvs:List (ao×Int)} {vs:List (Key×aj)},KV (kvI kvs) vs->(vs.any λkv=>decide (kv.1=(bV k:Key)))=Kz kvs k
 |[],_,r=>by rw[j1z r];rfl
 |p::kvs,vs,r=>by
  obtain⟨t,qs,e,r'⟩:=Wh r;subst e;have ih:=j8f (k:=k) r';unfold Kz at ih ⊢;rw[Tw,Tw,ih];congr 1;by_cases z:p.1=k
  .simp[z]
  .have z':¬((bV p.1:Key)=bV k):=λy=>z (fH y);rw[decide_eq_false z,decide_eq_false z']
theorem j4g(ru:RelV (.int n) u):∀{kvs:List (ao×Int)} {vs:List (Key×aj)},KV (kvI kvs) vs ->
  KV (kvI (kvs.map λp=>if p.1=k then(p.1,n)else p)) (vs.map λkv=>if kv.1=(bV k:Key) then(kv.1,u)else kv)
 |[],_,r=>by rw[j1z r];exact Paired.nil
 |p::kvs,vs,r=>by
  obtain⟨t,qs,e,r'⟩:=Wh r;subst e;have ih:=j4g (k:=k) ru r';by_cases z:p.1=k
  .have z':(bV p.1:Key)=bV k:=congrArg _ z;rw[X5,X5,if_pos z,if_pos z'];exact Paired.cons ⟨rfl,ru⟩ ih
  .have z':¬((bV p.1:Key)=bV k):=λy=>z (fH y);rw[X5,X5,if_neg z,if_neg z'];exact Paired.cons ⟨rfl,t,rfl⟩ ih
theorem j4f{p:ao×Int}(ru:RelV (.int p.2) u):∀{kvs:List (ao×Int)} {vs:List (Key×aj)},KV (kvI kvs) vs->KV (kvI (kvs++[p])) (vs++[(.inr p.1,u)])
 |[],_,r=>by rw[j1z r];exact Paired.cons ⟨rfl,ru⟩ Paired.nil
 |q::kvs,vs,r=>by obtain⟨t,qs,e,r'⟩:=Wh r;subst e;exact Paired.cons ⟨rfl,t,rfl⟩ (j4f ru r')
def jj3(r:KV (kvI kvs) vs)(ru:RelV (.int n) u):KV (kvI (dput kvs k n)) (stored vs (.inr k) u):=by
 unfold dput stored;rw[j8f r];by_cases z:Kz kvs k=af
 .rw[if_pos z,if_pos z];exact j4g ru r
 .rw[if_neg z,if_neg z];exact j4f (p:=(k,n)) ru r
section
variable{X:Cx}{J:Rho}{a b e k:ar}{rest:List aU}{P:Po}{kvs:List (ao×Int)}{z:ao}{n:Int}{i j:Nat}{nx ny:ao}{pos pos' p p1 p2 p3 p4 p5 p6 p7 p8:aR}{td ty tv:TE}{o value:ar}
def jdd(nI:Inv X pins I H s)(hx:H d=aa (.dK (kvI kvs))):kvs.length<=au/\(d==gq)=ae/\∃vs,KV (kvI kvs) vs/\s.heap.DictOf (Wf X.prog X.w) d vs:=by
 obtain⟨z1,z2,z3⟩:=(show ql X.prog X.w H s.heap d (.dK (kvI kvs))from nI.hok _ _ hx)
 exact⟨by simpa [kvI]using z1,z2,z3⟩
def jnh:IxR X (λx y H Q=>∃(d:ak)(kvs:List (ao×Int)) (k:ao) (n:Int),x=.ref d/\y=.str k/\H d=aa (.dK (kvI kvs))/\Ux kvs k=aa n/\Q (.int n) H):=by intro value slice pins s I H x y v u Q nI rx ry h hs;obtain⟨d,kvs,k,n,rfl,rfl,hx,hv,q⟩:=h;cases rx;obtain⟨t,rfl⟩:=ry;obtain⟨hz,hd,vs,rel,dd⟩:=jdd nI hx;obtain⟨t',hw⟩:=j8e rel hv;exact nu dd.typeIs slot_dict_getitem.lookup (wpAny_getItem_of (Bx X.prog X.w k t) dd.mapOf hw ⟨.int n,H,nI.tok _,⟨_,rfl⟩,q⟩) hs
def DE.dix(ha:DT X J a (.sct kvs))(hb:DT X J b (.str z))(h:Ux kvs z=aa n)(hs:Ys b):DE X J (.Subscript a b pos) (.int n):=λI H Q R q =>(Ox jnh peS peS hs).to (ha I H _ R λv H1 g1 ⟨d,e,hx⟩=>hb I H1 _ (R.grow g1) λu H2 g2 e2=>⟨d,kvs,z,n,e,e2,g2 _ _ hx,h,q _ H2 (g1.trans g2) rfl⟩)
end
def j00:kD (.type "zip") "__getattr__"=pure ag:=by rw[mM,jP];kernel_rfl
def j52:kD (.type "zip") "keys"=pure ag:=by rw[mM,jP];kernel_rfl
def j37:entryFor table "zip.__getattribute__"=aa c7.«object.__getattribute__» :=
 entryFor_alias (id':="object.__getattribute__") (by kernel_rfl) (by decide +kernel) (by decide +kernel) (by kernel_rfl)
def jdt(a:ak)(fs:Array aj)(u:iD) :
  nr (c7.«object.__getattribute__» ⟨[.ref a,.str "keys" u],[]⟩) (λA R s=>s.heap.get? a=aa { cls:=.type "zip",dict:=ag,data:=.fields fs,slots:=#[] }/\raisesAttr (.ref a) "keys" A R s) :=
 Meets.of_wp λprog w A R s hs=>by
  obtain⟨hp,g,d,tk,os⟩:=s;obtain⟨hx,hs⟩:=hs;have hT:(⟨hp,g,d,tk,os⟩:aq).TypeIs (.ref a) "zip":=⟨_,hx,rfl⟩
  have hmiss:=j52;have hname:(["__module__","__name__","__qualname__","__doc__","__annotations__"]:List ao).contains ("keys":ao)=ae:=by decide
  unfold c7.«object.__getattribute__»
  repeat (any_goals (first|assumption|wp_step))
  try simp only[hname,Py,if_false]
  repeat (any_goals (first|assumption|wp_step))
  exact wpAny_raiseAttrError hs.1 hs.2 (attrMsg_fits (by decide +kernel) (by size_fits))
section
variable{prog:aA}{w:aH}{A:aI}{E:k85}{s:aq}
def jdu{Q:Option aj->aq->Prop}(hx:s.heap.get? a=aa { cls:=.type "zip",dict:=ag,data:=.fields fs,slots:=#[] })(hA:A.handled=ag)
  (h:∀h' tk,(∀b o,s.heap.get? b=aa o->h'.get? b=aa o)->Q ag { s with heap:=h',toks:=tk }):ay (aB prog w) A (jX (.ref a) "keys") Q E s:=by
 obtain⟨hp,g,d,tk,os⟩:=s;have hT:∀tk',(⟨hp,g,d,tk',os⟩:aq).TypeIs (.ref a) "zip":=λ_=>⟨_,hx,rfl⟩
 have f1:=sub_AttributeError;have f3:=F.slot_zip_getattribute.lookup;have f4:=F.slot_zip_getattribute.bind (.ref a);have f5:=j00;unfold jX getAttrBy? getAttrBy
 repeat (any_goals (first|assumption|exact hT _|((with_reducible show ay _ _ (call (cU "zip.__getattribute__") _ _) _ _ _);refine bX F.slot_zip_getattribute (hT _) j37 (F.args_zip_getattribute_2 _ _) (jdt a fs _) ⟨hx,hA,λh' tk' e hx'=>?_⟩)|wp_step))
 obtain⟨t',u',he⟩:=hx'.there;show ay _ _ (kH _ _ _ _ _ _ _) _ _ _;unfold kH
 repeat (any_goals (first|assumption|wp_step))
 all_goals exact h _ _ hx'.keeps
end
abbrev Ue(h:aL)(z TI TO p:ak)(f:Bool):Prop:=h.get? z=aa { cls:=.type "zip",dict:=ag,data:=.fields #[fc p,.bool f,.bool ae,.ref TI,.ref TO],slots:=#[] }
section
variable{prog:aA}{w:aH}{A:aI}{E:k85}{s:aq}{l1 l2:Bool}{z TI TO i1 i2 t1 t2 p:ak}{f:Bool}{op:cT}{k:Nat}{us vs:Array aj}{x y a b:aj}
def Io(hz:Ue s.heap z TI TO p f)(hp:s.heap.get? p=aa op)(q:∀h',Ue h' z TI TO p af->cu z s.heap h'->Q ae { s with heap:=h' }) :
  ay (aB prog w) A (aM (.ref z)) Q E s:=by
 unfold aM;refine ai (b0 hz rfl (x:=fc p) rfl ?_);show ay _ _ (loadIfAlive ((p:Int).toNat) >>= _) _ _ _;rw[Xz];refine ai (W.kdx_alive hp ?_);simp only[Option.isNone_some,Py,if_false];refine ai (b0 hz rfl (x:=.bool f) rfl ?_);cases f with
 |true =>rw[if_neg (show ¬((dm af != dm af)=af)from xq)];exact az (q _ hz (gT _ _))
 |false =>rw[if_pos (show(dm ae != dm af)=af from rfl)];exact ai (bQ hz (by simp) λg zg sg=>az (q g zg sg))
def j6u{Q:k85}(D:dr z TI TO i1 i2 t1 t2)(hz:Ue s.heap z TI TO p f)(hp:s.heap.get? p=aa op)(hTI:bK s.heap TI (.ref i1) (.ref i2))
  (h1:ju l1 s.heap i1 t1 k) (h2:ju l2 s.heap i2 t2 k) (q1:jx l1 s.heap t1 us) (q2:jx l2 s.heap t2 vs) (hx:us[k]?=aa x) (hy:vs[k]?=aa y)
  (q:∀h',Ue h' z TI TO p af->ju l1 h' i1 t1 (k+1)->ju l2 h' i2 t2 (k+1)->bK h' s.heap.objs.size x y->h'.objs.size=s.heap.objs.size+1 ->
   (∀c o,c≠z->c≠i1->c≠i2->s.heap.get? c=aa o->h'.get? c=aa o)->Q (.ref s.heap.objs.size) { s with heap:=h' }) :
  ay (aB prog w) A (c7.«zip.__next__» ⟨[.ref z],[]⟩) (λfin s'=>∃v,fin=.done (.ret v)/\Q v s') E s:=by
 show ay _ _ (fZ (.ref z) 2 >>= _) _ _ _;refine ai (b0 hz rfl (x:=.bool ae) rfl ?_);show ay _ _ (fZ (.ref z) 3 >>= _) _ _ _;refine ai (b0 hz rfl (x:=.ref TI) rfl (ai (bq hTI rfl ?_)));show ay _ _ (aM (.ref z) >>= _) _ _ _;refine ai (Io hz hp λg₁ z₁ s₁=>?_);simp only[Py,if_false];refine ai ?_;simp only[iZ,Td,dz];refine ai (ai (bD ?_));show ay _ _ (aG (.ref i1) >>= _) _ _ _;refine ai (Vq (h1.ext s₁.extBut D.i1z) (q1.ext s₁.extBut D.l1z) hx λg₂ h1₂ s₂=>az ?_);refine az (ai (ai (bD ?_)));show ay _ _ (aG (.ref i2) >>= _) _ _ _;refine ai (Vq ((h2.ext s₁.extBut D.i2z).ext s₂.extBut D.i12.symm) ((q2.ext s₁.extBut D.l2z).ext s₂.extBut D.l2i1) hy λg₃ h2₃ s₃=>az ?_);refine az (az ?_);refine ai (mZ (hsz:=by show(2:Nat)<=au;decide) (az ⟨_,rfl,?_⟩));have sz:g₃.objs.size=s.heap.objs.size:=by rw[s₃.1,s₂.1,s₁.1]
 have z₃:Ue g₃ z TI TO p af:=s₃.extBut _ _ D.i2z.symm (s₂.extBut _ _ D.i1z.symm z₁);have up:∀c o,g₃.get? c=aa o->(g₃.push { cls:=.type "tuple",data:=.seq #[x,y] }).get? c=aa o:=λc o e=>kj _ e;have h1₃:ju l1 g₃ i1 t1 (k+1):=h1₂.ext s₃.extBut D.i12;have pr:bK (g₃.push { cls:=.type "tuple",data:=.seq #[x,y] }) s.heap.objs.size x y:=by rw[<-sz];exact X7 _ rfl
 have szp:(g₃.push { cls:=.type "tuple",data:=.seq #[x,y] }).objs.size=s.heap.objs.size+1:=by rw[Xv,sz]
 show Q (.ref g₃.objs.size) _;rw[sz];exact q _ (up _ _ z₃) (h1₃.stay λo e=>up _ o e) (h2₃.stay λo e=>up _ o e) pr szp λc o n1 n2 n3 e=>up _ _ (s₃.extBut _ _ n3 (s₂.extBut _ _ n2 (s₁.extBut _ _ n1 e)))
def j9t(hh:A.handled=ag)(D:dr z TI TO i1 i2 t1 t2)(hz:Ue s.heap z TI TO p f)(hp:s.heap.get? p=aa op)(hTI:bK s.heap TI (.ref i1) (.ref i2))
  (h1:ju l1 s.heap i1 t1 k) (q1:jx l1 s.heap t1 us) (hx:us[k]?=ag)
  (q:∀h' e,(∀c o,c≠z->c≠i1->c≠i2->s.heap.get? c=aa o->h'.get? c=aa o)->(∃o,h'.get? e=aa o/\o.cls=.type "StopIteration")->E (.ref e) { s with heap:=h' }) :
  ay (aB prog w) A (c7.«zip.__next__» ⟨[.ref z],[]⟩) Q E s:=by
 show ay _ _ (fZ (.ref z) 2 >>= _) _ _ _;refine ai (b0 hz rfl (x:=.bool ae) rfl ?_);show ay _ _ (fZ (.ref z) 3 >>= _) _ _ _;refine ai (b0 hz rfl (x:=.ref TI) rfl (ai (bq hTI rfl ?_)));show ay _ _ (aM (.ref z) >>= _) _ _ _;refine ai (Io hz hp λg₁ z₁ s₁=>?_);simp only[Py,if_false];refine ai ?_;simp only[iZ,Td,dz];refine ai (ai (bD ?_));show ay _ _ (aG (.ref i1) >>= _) _ _ _;exact ai (Ni hh (h1.ext s₁.extBut D.i1z) (q1.ext s₁.extBut D.l1z) hx λg₂ e s₂ he=>q g₂ e (λc o n1 n2 _ z=>s₂ _ _ n2 (s₁.extBut _ _ n1 z)) he)
def ZS(z TI TO i1 i2 t1 t2:ak)(l1 l2:Bool)(k:Nat)(h:aL):Prop :=
 (eB h z TI TO .none/\(∃a b,bK h TO a b)\/∃(p:ak)(f:Bool)(op:cT),Ue h z TI TO p f/\h.get? p=aa op/\p≠z/\p≠TO/\p≠i1/\p≠i2)/\bK h TI (.ref i1) (.ref i2)/\ju l1 h i1 t1 k/\ju l2 h i2 t2 k
def jdm{Q:Option aj->aq->Prop}(D:dr z TI TO i1 i2 t1 t2)(S:ZS z TI TO i1 i2 t1 t2 l1 l2 k s.heap)(q1:jx l1 s.heap t1 us)(q2:jx l2 s.heap t2 vs)(hx:us[k]?=aa x)(hy:vs[k]?=aa y)
  (q:∀h',ZS z TI TO i1 i2 t1 t2 l1 l2 (k+1) h'->bK h' s.heap.objs.size x y->(∀c o,c∉[z,TO,i1,i2]->s.heap.get? c=aa o->h'.get? c=aa o)->Q (aa (.ref s.heap.objs.size)) { s with heap:=h' }):ay (aB prog w) A (eG (.ref z)) Q E s:=by
 obtain⟨S,S1,S2,S3⟩:=S;have nz:∀{c o},s.heap.get? c=aa o->s.heap.objs.size≠c:=λe=>Xu (X4 e);obtain⟨o1,g1,_⟩:=S2.obj;obtain⟨o2,g2,_⟩:=S3.obj;rcases S with ⟨hz,a,b,hTO⟩|⟨p,f,op,hz,hp,np1,np2,np3,np4⟩
 .refine Mu D hz S1 hTO S2 S3 q1 q2 hx hy λh' a1 a2 a3 a4 a5 a6 a7=>q h' ⟨.inr ⟨s.heap.objs.size,ae,_,a1,a5,nz hz,nz hTO,nz g1,nz g2⟩,a7 _ _ D.TIz D.TITO D.TIi1 D.TIi2 S1,a3,a4⟩ a5 λc o nc e=>?_;simp at nc;exact a7 c o nc.1 nc.2.1 nc.2.2.1 nc.2.2.2 e
 .have T:s.TypeIs (.ref z) "zip":=⟨_,hz,rfl⟩
  unfold eG;refine ai (eF (bG (name:=aF "__next__") T Tp (cI Tp T eE
   (j6u D hz hp S1 S2 S3 q1 q2 hx hy λh' a1 a3 a4 a5 a6 a7=>az (q h' ⟨.inr ⟨p,af,op,a1,a7 _ _ np1 np3 np4 hp,np1,np2,np3,np4⟩,a7 _ _ D.TIz D.TIi1 D.TIi2 S1,a3,a4⟩ a5 λc o nc e=>?_)) (dY _))))
  simp at nc;exact a7 c o nc.1 nc.2.2.1 nc.2.2.2 e
def jgj{Q:Option aj->aq->Prop}(hh:A.handled=ag)(D:dr z TI TO i1 i2 t1 t2)(S:ZS z TI TO i1 i2 t1 t2 l1 l2 k s.heap)(q1:jx l1 s.heap t1 us)(q2:jx l2 s.heap t2 vs)(hx:us[k]?=ag)
  (q:∀h',(∀c o,c∉[z,TO,i1,i2]->s.heap.get? c=aa o->h'.get? c=aa o)->Q ag { s with heap:=h' }):ay (aB prog w) A (eG (.ref z)) Q E s:=by
 obtain⟨S,S1,S2,S3⟩:=S;rcases S with ⟨hz,a,b,hTO⟩|⟨p,f,op,hz,hp,np1,np2,np3,np4⟩
 .refine Bw hh D hz S1 hTO S2 S3 q1 q2 (.inl hx) λh' kp=>q h' λc o nc e=>?_;simp at nc;exact kp c o nc.1 nc.2.1 nc.2.2.1 nc.2.2.2 e
 .have T:s.TypeIs (.ref z) "zip":=⟨_,hz,rfl⟩
  unfold eG;refine ai (eF (bG (name:=aF "__next__") T Tp (cI Tp T eE
   (j9t hh D hz hp S1 S2 q1 hx λh' e kp he=>?_) (dY _))))
  obtain⟨o,ho,hc⟩:=he;refine ai (lS (T:="StopIteration") (b:=af) ⟨o,ho,hc⟩ nh (az (q _ λc o nc e=>?_)));simp at nc;exact kp c o nc.1 nc.2.2.1 nc.2.2.2 e
end
def Jk:plainId "dict.update.loop"=af:=by decide +kernel
def Y8:entryFor table "dict.update.loop"=aa c7.«dict.update.loop»:=entryFor_of_tree (by kernel_rfl)
def jbv(h:Kz kvs k=ae):dput kvs k n=kvs++[(k,n)]:=by unfold dput;rw[if_neg (by rw[h];simp)]
def jaa{ks:List ao}{ns:zo}(hn:ks.Nodup)(hx:ks[k]?=aa x)(hy:ns[k]?=aa y):dput ((ks.zip ns).take k) x y=(ks.zip ns).take (k+1):=by
 have hz:(ks.zip ns)[k]?=aa (x,y):=by rw[List.getElem?_zip_eq_some];exact⟨hx,hy⟩
 rw[dN,hz,jbv]
 .rfl
 .unfold Kz;rw[fM];intro p hp hc;obtain⟨i,hi,e⟩:=List.mem_iff_getElem.mp hp;have hi':i<k:=by simp at hi;omega
  rw[List.getElem_take]at e;have hi2:i<(ks.zip ns).length:=by simp at hi ⊢;omega
  have hi3:i<ks.length:=by simp at hi2;omega
  have ek:ks[i]?=aa p.1:=by rw[<-e,List.getElem_zip];exact xf hi3
  have hc:p.1=x:=of_decide_eq_true hc;rw[hc]at ek;have hk3:=(Xl.mp hx).1;have:=(List.getElem?_inj hi3 hn).mp (ek.trans hx.symm);omega
section
variable{X:Cx}{pins:k86}{I:St}{z TI TO i1 i2 t1 t2 d:ak}{l1 l2:Bool}{ks:List ao}{ns:zo}{A:aI}{R:fE->aq->Prop}
def jlu(hh:A.handled=ag)(D:dr z TI TO i1 i2 t1 t2)(hn:ks.Nodup)(hkn:ks.length=ns.length)(hls:ks.length<=au)(hd:H d=ag)(s1:SqB X.K l1 H t1 (ks.map V.str))(s2:SqB X.K l2 H t2 (ns.map V.int)) :
  ∀(n k:Nat)(s:aq),ks.length-k=n->k<=ks.length->Inv X pins I (upd H d (.dK (kvI ((ks.zip ns).take k)))) s->(∀c∈[z,TO,i1,i2],Qk X pins (upd H d (.dK (kvI []))) c)->(∀c∈[z,TI,TO,i1,i2],c≠d)->ZS z TI TO i1 i2 t1 t2 l1 l2 k s.heap ->
   (∀s',Inv X pins I (upd H d (.dK (kvI (ks.zip ns)))) s'->R (.ok (.ret .none)) s')->cQ (aB X.prog X.w) A (.builtin "dict.update.loop" ⟨[.ref d,.ref z,fc (k:Int),.none],[]⟩) R s:=by
 intro n;induction n with
 |zero =>
  intro k s hk hle nI hf hne S fin;have ek:k=ks.length:=by omega
  have gs:j5 H (upd H d (.dK (kvI ((ks.zip ns).take k)))):=je hd;obtain⟨us,ru,qu,_⟩:=nI.side (gs.seqB s1);obtain⟨vs,rv,qv,_⟩:=nI.side (gs.seqB s2);have lu:=ru.length;rw[xm]at lu;have hf':∀c∈[z,TO,i1,i2],Qk X pins (upd H d (.dK (kvI ((ks.zip ns).take k)))) c:=λc hc=>by obtain⟨f0,f1⟩:=hf c hc;have nd:c≠d:=hne c (by simp at hc ⊢;rcases hc with h|h|h|h<;>simp[h]);rw[jf nd]at f0;exact⟨by rw[jf nd];exact f0,f1⟩
  refine i3 Y8 ?_;rw[i9 Jk _];unfold c7.«dict.update.loop»;refine ai (jgj (A:=A.in1) hh D S qu qv (by simp;omega) λh' kp=>?_);have I2:Inv X pins I (upd H d (.dK (kvI ((ks.zip ns).take k)))) { s with heap:=h' }:=nI.chg hf' kp;rw[Tf (by rw[gw];omega)]at I2;exact ai (az (az (fin _ I2)))
 |succ n ih =>
  intro k s hk hle nI hf hne S fin;have hlt:k<ks.length:=by omega
  have gs:j5 H (upd H d (.dK (kvI ((ks.zip ns).take k)))):=je hd;obtain⟨us,ru,qu,_⟩:=nI.side (gs.seqB s1);obtain⟨vs,rv,qv,_⟩:=nI.side (gs.seqB s2);have hf':∀c∈[z,TO,i1,i2],Qk X pins (upd H d (.dK (kvI ((ks.zip ns).take k)))) c:=λc hc=>by obtain⟨f0,f1⟩:=hf c hc;have nd:c≠d:=hne c (by simp at hc ⊢;rcases hc with h|h|h|h<;>simp[h]);rw[jf nd]at f0;exact⟨by rw[jf nd];exact f0,f1⟩
  have hkx:ks[k]?=aa ks[k]:=xf hlt;have hlt2:k<ns.length:=by omega
  have hky:ns[k]?=aa ns[k]:=xf hlt2;obtain⟨u,hu,rx⟩:=ru.get (i:=k) (x:=.str ks[k]) (by rw[Xn,hkx];rfl);obtain⟨v,hv,ry⟩:=rv.get (i:=k) (x:=.int ns[k]) (by rw[Xn,hky];rfl);obtain⟨t,rfl⟩:=(show ∃t:{t:Nat // t≠0},u=bC ks[k] t.1 from rx)
  refine i3 Y8 ?_;rw[i9 Jk _];unfold c7.«dict.update.loop»;refine ai (jdm (A:=A.in1) D S qu qv (by simpa using hu) (by simpa using hv) λh' S' pr kp=>?_);have I2:Inv X pins I (upd H d (.dK (kvI ((ks.zip ns).take k)))) { s with heap:=h' }:=nI.chg hf' kp;refine ai (bD ?_);refine ai (wpAny_tryCatch ?_);unfold mJ;refine ai (wpAny_typeOf (T:="tuple") ⟨_,pr,rfl⟩ ?_);rw[if_pos (by decide)];refine ai (bq pr rfl (az ?_));show ay _ _ (fh _ (dictSet d (.str ks[k] t) v)) _ _ _;refine bD ?_;obtain⟨hz,hdm,ws,rel,dd⟩:=jdd I2 (d:=d) jz;refine wpAny_dictSet_pairs (hsz:=by rw[j20 rel];exact hz) (Bx X.prog X.w ks[k] t) dd λh'' dd' sb=>?_;have he:∃q,h''.get? d=aa q:=let ⟨q,_,_,hq,_⟩:=dd';⟨q,hq⟩;have hl':((ks.zip ns).take (k+1)).length<=au:=by rw[Xk,gw];omega
  have kv':=jj3 (k:=ks[k]) rel ry;rw[jaa hn hkx hky]at kv';have I3:Inv X pins I (upd H d (.dK (kvI ((ks.zip ns).take (k+1))))) { s with heap:=h'',toks:=s.toks+1 }:=by
   have:=I2.write (h':=h'') (x:=d) (e:=d) (o:=.dK (kvI ((ks.zip ns).take (k+1)))) (t':=s.toks+1) (by rw[jz];exact True.intro) (.inl rfl) (λb q hb z=>(sb.2 b hb).trans z) he ⟨by simpa [kvI]using hl',hdm,_,kv',dd'⟩
   rwa [jdr]at this
  refine az ⟨nB Jk _,?_⟩;have ek:((k:Int)+1)=((k+1:Nat):Int):=by push_cast;rfl
  rw[ek];have ne_d:∀c o,h'.get? c=aa o->c≠d->h''.get? c=aa o:=λc o e nc=>(sb.2 c nc).trans e;refine ih (k+1) _ nofun nofun I3 hf hne ?_ fin;obtain⟨Sa,S1,S2,S3⟩:=S';refine⟨?_,ne_d _ _ S1 (hne _ (by simp)),S2.stay λo e=>ne_d _ o e (hne _ (by simp)),S3.stay λo e=>ne_d _ o e (hne _ (by simp))⟩;rcases Sa with ⟨a,b,c,e⟩|⟨p,f,op,a,b,r⟩
  .exact .inl ⟨ne_d _ _ a (hne _ (by simp)),b,c,ne_d _ _ e (hne _ (by simp))⟩
  .refine .inr ⟨p,f,?_⟩;by_cases zp:p=d
   .subst zp;obtain⟨q,hq⟩:=he;exact⟨q,ne_d _ _ a (hne _ (by simp)),hq,r⟩
   .exact⟨op,ne_d _ _ a (hne _ (by simp)),ne_d _ _ b zp,r⟩
end
section
variable{X:Cx}{J:Rho}{a b:ar}{ks:List ao}{ns:zo}{p p2 p3 p4:aR}
def ne5(n:Nat):n+4≠n+5/\n+2≠n+5/\n+3≠n+5/\n≠n+5/\n+1≠n+5:=by omega
theorem Cw{K:k84}:∀{ks:List ao}{xs:List V},j6 K H (ks.map D.str) xs->xs=ks.map V.str
 |[],_,h=>h
 |k::ks,_,⟨x,r,e,h,l⟩=>by have h:x=.str k:=h;subst e h;rw[Cw l];rfl
def DE.dzip(l1 l2:Bool)(ha:DE X J a (D.seq l1 (ks.map D.str)))(hb:DE X J b (D.seq l2 (ns.map D.int)))(hn:ks.Nodup)(hkn:ks.length=ns.length)(hls:ks.length<=au)(hc:X.calm=af)(hm:X.mg "dict"=ag)(hmz:X.mg "zip"=ag)(hg:Gl X "dict")(hgz:Gl X "zip")
  (hs0:ah [.Call (.Name "zip" p2) [a,b] [] p3] X.env=(ae,aD (.Call (.Name "zip" p2) [a,b] [] p3) X.env)::ah [] X.env) (hs:ah [a,b] X.env=(ae,aD a X.env)::ah [b] X.env) (hs2:ah [b] X.env=(ae,aD b X.env)::ah [] X.env) :
  DE X J (.Call (.Name "dict" p) [.Call (.Name "zip" p2) [a,b] [] p3] [] p4) (.sct (ks.zip ns)):=λI H Q r q pins s nI=>by
 have args:Wy X [a,b] I H (λvs H'=>∃v u,vs=[v,u]/\j5 H H'/\Enc X.K (del H' (owns J)) (D.seq l1 (ks.map D.str)) v/\Enc X.K (del H' (owns J)) (D.seq l2 (ns.map D.int)) u) :=
  (ji peS (ji peS qe hs2) hs).to (ha I H _ r λv H1 g1 e1=>hb I H1 _ (r.grow g1) λu H2 g2 e2=>⟨v,u,rfl,g1.trans g2,e1.mono (jq g2),e2⟩)
 have hpl:(aS p3 (ah [b] X.env)).any (·.1)=ae:=by rw[hs2];rfl
 refine kZ (Qf nI hg hm boot_dict (callWith_type1 ?_ hs0 (by rfl)));rw[hs0];show ay _ _ (ia ((ae,aD (.Call (.Name "zip" p2) [a,b] [] p3) X.env)::aS p4 (ah [] X.env))) _ _ s;refine dn ?_;refine kZ (Qf nI hgz hmz nv (callWith_type1 (thn (args p3 pins s nI) λus s1 h1=>?_) hs hpl));obtain⟨vs,H1,I1,r1,v,u,ev,g1,e1,e2⟩:=h1;subst ev;obtain⟨t1,xs,et1,sq1,en1⟩:=Q5 e1;obtain⟨t2,ys,et2,sq2,en2⟩:=Q5 e2;subst et1 et2;obtain⟨u1,u2,eu,ru1,ru2⟩:=r1.two;subst eu;cases ru1;cases ru2;obtain⟨w1,rw1,qw1,_⟩:=I1.side (jr.seqB sq1);obtain⟨w2,rw2,qw2,_⟩:=I1.side (jr.seqB sq2);refine callType_new mX (by decide) (kz _ _) (kO _ _) (λobj=>jB obj _ _) kQ (j3r (l1:=l1) (l2:=l2) t1 t2 w1.toArray w2.toArray) ⟨qw1,qw2,?_⟩;have z1:(zh1 s1.heap l1 t1).objs.size=s1.heap.objs.size+1:=Xv ..;have z2:(zh2 s1.heap l1 l2 t1 t2).objs.size=s1.heap.objs.size+2:=by rw[Xv,z1]
 have z3:(zh3 s1.heap l1 l2 t1 t2).objs.size=s1.heap.objs.size+3:=by rw[Xv,z2]
 have z4:(zh4 s1.heap l1 l2 t1 t2).objs.size=s1.heap.objs.size+4:=by rw[Xv,z3]
 have z5:(zh5 s1.heap l1 l2 t1 t2).objs.size=s1.heap.objs.size+5:=by rw[Xv,z4]
 have b5:(zh5 s1.heap l1 l2 t1 t2).get? (zh4 s1.heap l1 l2 t1 t2).objs.size=aa _:=X7 _ rfl;have b4:(zh5 s1.heap l1 l2 t1 t2).get? (zh3 s1.heap l1 l2 t1 t2).objs.size=aa _:=kj _ (X7 _ rfl);have b3:(zh5 s1.heap l1 l2 t1 t2).get? (zh2 s1.heap l1 l2 t1 t2).objs.size=aa _:=kj _ (kj _ (X7 _ rfl));have b2:(zh5 s1.heap l1 l2 t1 t2).get? (zh1 s1.heap l1 t1).objs.size=aa _:=kj _ (kj _ (kj _ (X7 _ rfl)));have b1:(zh5 s1.heap l1 l2 t1 t2).get? s1.heap.objs.size=aa _:=kj _ (kj _ (kj _ (kj _ (X7 _ rfl))));have kp:∀c o,s1.heap.get? c=aa o->(zh5 s1.heap l1 l2 t1 t2).get? c=aa o:=λc o e=>kj _ (kj _ (kj _ (kj _ (kj _ e))));show _/\_;rw[z2,z3,z4]at b5;rw[z1,z2]at b3;rw[z3]at b4;rw[z1]at b2;rw[z4];have I2:Inv X pins I H1 { s1 with heap:=zh5 s1.heap l1 l2 t1 t2 }:=I1.kept (t':=s1.toks) kp;have lt1:t1<s1.heap.objs.size:=by
  unfold jx at qw1;cases l1 with
  |true=>rw[if_pos rfl]at qw1;obtain⟨_,e,_⟩:=qw1;exact X4 e
  |false=>rw[if_neg xq]at qw1;obtain⟨_,e,_⟩:=qw1;exact X4 e
 have lt2:t2<s1.heap.objs.size:=by
  unfold jx at qw2;cases l2 with
  |true=>rw[if_pos rfl]at qw2;obtain⟨_,e,_⟩:=qw2;exact X4 e
  |false=>rw[if_neg xq]at qw2;obtain⟨_,e,_⟩:=qw2;exact X4 e
 have side:∀{l:Bool}{j t:ak},(zh5 s1.heap l1 l2 t1 t2).get? j=aa { cls:=.type (Ws l),data:=.fields #[.ref t,.int 0 0] }->ju l (zh5 s1.heap l1 l2 t1 t2) j t 0:=λ{l j t} e=>by
  unfold ju;cases l with
  |true=>rw[if_pos rfl];exact⟨_,e,rfl,rfl⟩
  |false=>rw[if_neg xq];exact⟨_,e,rfl,rfl⟩
 refine⟨⟨_,b5,rfl⟩,fB ?_⟩;have ex1:=Cw en1;have ex2:=Ye en2;subst ex1 ex2;have sq1':=(jr (A:=owns J)).seqB sq1;have sq2':=(jr (A:=owns J)).seqB sq2;have sd1:=side (l:=l1) b1;have sd2:=side (l:=l2) b2;have fpk:∀c,s1.heap.objs.size<=c->c<s1.heap.objs.size+5->Qk X pins (upd H1 (s1.heap.objs.size+5) (.dK (kvI []))) c:=λc h5 h6=>I1.fpOk h5 (by rw[jf (Xi h6)];exact I1.hok.fresh h5);clear side;generalize hgen:zh5 s1.heap l1 l2 t1 t2=hz at *;have hh:X.A.handled=ag:=nI.ok.hd hc;have bz:=b5;show ay (aB X.prog X.w) X.A (gI (.type "dict") [.ref (s1.heap.objs.size+4)]) _ _ { s1 with heap:=hz };refine callType_codes (Q₁:=λobj s₁=>obj=.ref hz.objs.size/\s₁={ s1 with heap:=hz.push { cls:=.type "dict",data:=.dict #[] } }) F.kt_called_dict (F.kt_typeCall_dict_1 _) F.entry_dict_init (kt_code_dict_new _ ⟨rfl,rfl⟩) ?_;rintro obj s₁ ⟨rfl,rfl⟩;have hnew:(hz.push { cls:=.type "dict",data:=.dict #[] }).DictOf (Wf X.prog X.w) hz.objs.size []:=Heap.DictOf.new hz;have up:∀c o,hz.get? c=aa o->(hz.push { cls:=.type "dict",data:=.dict #[] }).get? c=aa o:=λc o e=>kj _ e;refine⟨hnew.typeIs,F.args_dict_init_2 _ _,?_⟩;unfold c7.«dict.__init__»;refine ai ?_;unfold mH;refine ai (wpAny_notOrdered_dict hnew.typeIs ?_);show ay _ _ (pure (hz.objs.size,[aQ (s1.heap.objs.size+4)])) _ _ _;refine az ?_;show ay _ _ (fQ "dict.__init__" hz.objs.size (.ref (s1.heap.objs.size+4)) [] .none) _ _ _;unfold fQ;refine ai (wpAny_typeOf (T:="zip") ⟨_,up _ _ bz,rfl⟩ ?_);rw[if_pos (by decide)];refine ai (Jc (.inl I2.tk) <| jdu (up _ _ bz) hh λh' tk kp (ht:0<tk)=>?_);rw[if_pos (by rfl)];refine ai (ik ?_);refine ai (gX (TI:=s1.heap.objs.size+2) (TO:=s1.heap.objs.size+3) (f0:=.none) (kp _ _ (up _ _ bz)) ?_);refine az ⟨nB Jk _,?_⟩;have I3:Inv X pins I (upd H1 hz.objs.size (.dK (kvI []))) { s1 with heap:=h',toks:=tk } :=
  I2.laid (a:=hz.objs.size) (h':=h') (o:=.dK (kvI [])) (t':=tk) (λb o e=>kp _ _ (up _ _ e)) (Xc _) ⟨Tn _,beq_eq_false_iff_ne.mpr (eO (Xi I2.bigD)),[],Paired.nil,hnew.keep kp⟩
 have nd:H1 hz.objs.size=ag:=I2.hok.fresh (Xc _);rw[z5]at I3 nd ⊢;refine jlu (A:=X.A.in1) (R:=wants (λr s₂=>r=cG/\EP X pins I Q (aQ (s1.heap.objs.size+5)) s₂) X.xe) (H:=H1) (l1:=l1) (l2:=l2) (show X.A.in1.handled=ag from hh) (zipApart_new lt1 lt2) hn hkn hls nd sq1' sq2' ks.length 0 _ nofun (Tn _) (by rw[List.take_zero];exact I3) (λc hc=>?_) (λc hc=>?_) ⟨.inl ⟨kp _ _ (up _ _ bz),_,_,kp _ _ (up _ _ b4)⟩,kp _ _ (up _ _ b3),sd1.stay λo e=>kp _ _ (up _ _ e),sd2.stay λo e=>kp _ _ (up _ _ e)⟩ λs' I'=>?_
 .exact fpk c (by simp at hc;rcases hc with e|e|e|e<;>rw[e]<;>omega) (by simp at hc;rcases hc with e|e|e|e<;>rw[e]<;>omega)
 .simp at hc;have n5:=ne5 s1.heap.objs.size;rcases hc with e|e|e|e|e<;>rw[e]
  .exact n5.1
  .exact n5.2.1
  .exact n5.2.2.1
  .exact n5.2.2.2.1
  .exact n5.2.2.2.2
 .exact⟨rfl,.ref (s1.heap.objs.size+5),_,I',rfl,q _ _ (g1.trans (je nd)) ⟨_,rfl,by rw[jd ((r.grow g1).fresh nd)];exact jz⟩⟩
end
section
variable{X:Cx}{J:Rho}{a e:ar}{es:List ar}{x:ao}{d:D}{p p1 p2 pos:aR}{y:ao}{ds:List D}
def Fx
  (h:ay M A (aD value env) (λv s₁=>ay M A (pyReprObj v) (λr s₂=>ay M A (formatField r dt) Q E s₂) E s₁) E s) :
  ay M A (aD (.FormattedValue value 114 ag pos) env) Q E s:=by
 rw[arm_eval_FormattedValue];refine ai (bB h (λv s₁ h₁=>?_) λ_ _ x=>x);refine ai (fX ?_);show ay _ _ (do let v' <-fh [v] (pyReprObj v);formatField v' dt) Q E s₁;exact ai (bD h₁)
def DE.fmtR(ha:DT X J e (.str y))(hy:(aK y).length<=au):DE X J (.FormattedValue e 114 ag pos) (.str (aK y)):=λI H Q R q pins s nI=>by
 refine Fx (thn (ha I H (λv H1=>v=.str y/\j5 H H1) R (λv H1 g e=>⟨e,g⟩) pins s nI) λu s1 ⟨v,H1,I1,r,ev,g⟩=>?_);subst ev;obtain⟨t,rfl⟩:=(show ∃t:{t:Nat // t≠0},u=bC y t.1 from r)
 refine wpAny_pyReprObj_gives (cE s1 y t) F.slot_str_repr F.entry_str_repr (F.args_str_repr_1 _) (gives_str_repr y t) ?_ rfl hy;exact jN ⟨.str (aK y),H1,I1.tok _,⟨⟨_,Xu I1.tk⟩,rfl⟩,q _ H1 g rfl⟩ ⟨.str (aK y),H1,(I1.tok _).tok _,⟨⟨_,k9 _⟩,rfl⟩,q _ H1 g rfl⟩ hy
def Ol.grow(k:Ol X I H x)(g:j5 H H'):Ol X I H' x:=λpins H2 s' e C nI g2 hC Fe=>k pins H2 s' e C nI (g.trans g2) hC Fe
def DXA.head(ha:DX X J a x)(hs:ah (a::es) X.env=(ae,aD a X.env)::ah es X.env):DXA X J (a::es) x:=λI H Q R k =>(ji peS paS hs).to (ha I H _ R k)
def DXA.tail(ha:DT X J a d)(h:DXA X J es x)(hs:ah (a::es) X.env=(ae,aD a X.env)::ah es X.env):DXA X J (a::es) x:=λI H Q R k =>(ji peS paS hs).to (ha I H _ R λv H1 g _=>h I H1 _ (R.grow g) (k.grow g))
def DX.args(ha:DXA X J (e::es) x)(hg:Gl X f)(hdb:(f==k89)=ae)(hfa:X.mg f=aa (.ref fa))(hk:W.keepIn X.K (.ref fa)=af)
  (he:ah (e::es) X.env=(ae,aD e X.env)::ah es X.env) (hpl:(aS pos (ah es X.env)).any (·.1)=ae):DX X J (.Call (.Name f p) (e::es) [] pos) x:=λI H Q R k pins s nI=>by
 refine b9 (Qn nI hg hfa ?_ hdb);exact W.callWith_K (h₀:=X.base) nI.ok.mod.kin hk (thn (ha I H (λ_ _=>False) R k pos pins s nI) λus s1 ⟨vs,H1,I1,r,z⟩=>z.elim) he hpl
end
section
variable{X:Cx}{J:Rho}{a b e:ar}{es:List ar}{x y:ao}{d:D}{i j:Int}{p p1 p2 p3 p4 pk pos:aR}{ds:List D}
def DX.dzip(ha:DXA X J [a,b] y)(hm:X.mg "dict"=ag)(hmz:X.mg "zip"=ag)(hg:Gl X "dict")(hgz:Gl X "zip")
  (hs0:ah [.Call (.Name "zip" p2) [a,b] [] p3] X.env=(ae,aD (.Call (.Name "zip" p2) [a,b] [] p3) X.env)::ah [] X.env) (hs:ah [a,b] X.env=(ae,aD a X.env)::ah [b] X.env) (hs2:ah [b] X.env=(ae,aD b X.env)::ah [] X.env) :
  DX X J (.Call (.Name "dict" p) [.Call (.Name "zip" p2) [a,b] [] p3] [] p4) y:=λI H Q R k pins s nI=>by
 have hpl:(aS p3 (ah [b] X.env)).any (·.1)=ae:=by rw[hs2];rfl
 refine kZ (Qf nI hg hm boot_dict (callWith_type1 ?_ hs0 (by rfl)));rw[hs0];show ay _ _ (ia ((ae,aD (.Call (.Name "zip" p2) [a,b] [] p3) X.env)::aS p4 (ah [] X.env))) _ _ s;refine dn ?_;exact kZ (Qf nI hgz hmz nv (callWith_type1 (thn (ha I H (λ_ _=>False) R k p3 pins s nI) λus s1 ⟨vs,H1,I1,r,z⟩=>z.elim) hs hpl))
end
def ch1(c:Nat):ao:=⟨#[c]⟩
def chs(y:ao):List D:=y.cps.toList.map λc=>D.str (ch1 c)
noncomputable def ascii(y:ao):Bool:=y.cps.all (· < 128)
noncomputable def Its(y:ao):It:=⟨λi _=>i<y.cps.size,λi H x H'=>H'=H/\∃c,y.cps[i]?=aa c/\x=.str (ch1 c),λi _=>y.cps.size<=i⟩
def j9z{K:k84}(it:ak)(y:ao)(t:iD):Turn P w K tg (Its y) [it] it (λi h=>h.IsStrIter it "str_ascii_iterator" y t i) where
 mem:=by simp
 obj:=λi h st b hb=>by
  have e:b=it:=by simpa using hb
  subst e;obtain⟨o,e,c,d⟩:=st;exact⟨o,e,λv z=>by rw[d]at z;cases z⟩
 keep:=λi h h' st k=>let ⟨o,e,r⟩:=st;⟨o,k it (by simp) o e,r⟩
 item:=by intro X hP hw hK hc i pins s I H E nI hf st hg;subst hP hw hK;obtain⟨f0,f1,f2,f3,f4,f5⟩:=hf it (by simp);have hcu:y.cps[i]?=aa y.cps[i]:=Array.getElem?_eq_getElem hg;refine wpAny_pyNext_ascii_item st (c:=y.cps[i]) hcu λh' st' sb=>?_;have I1:Inv X pins I H { s with heap:=h',toks:=s.toks+1 }:=nI.turned (λb o hb e=>(sb.2 b hb).trans e) f0 f1 f3 f4 f5;obtain⟨o,e,oc,d⟩:=id st';exact⟨_,rfl,j0k (s:={ s with heap:=h',toks:=s.toks+1 }) e oc d (by decide) ⟨.str (ch1 y.cps[i]),H,I1,⟨⟨_,Xu nI.tk⟩,rfl⟩,⟨rfl,_,hcu,rfl⟩,st',λb hb=>(hf b hb).1⟩⟩
 done:=by intro X hP hw hK hc i pins s I H E nI hf st hg;subst hP hw hK;obtain⟨f0,f1,f2,f3,f4,f5⟩:=hf it (by simp);exact wpAny_pyNext_ascii_end (nI.ok.hd hc) st (by have:y.cps.size<=i:=hg;simp;omega) λh' eb=>⟨rfl,nI.turned (t':=s.toks) (λb o hb e=>eb b o hb e) f0 f1 f3 f4 f5⟩
 self:=λ_ _ _ _ _ st h=>wpAny_pyIter_striter_ascii st h
section
variable{X:Cx}{J:Rho}{a b c e tg it:ar}{y z:ao}{i j k:Int}{p p2 pos:aR}
def jbh{K:k84}(y:ao):M8 K F (Its y) (chs y):=λi H A g hA=>by
 have hl:(chs y).length=y.cps.size:=by unfold chs;rw[xm,fi]
 rw[hl];refine⟨λh=>h,λh=>h,λx H' ⟨e,c,hc,ex⟩=>?_⟩;subst e ex;refine⟨j5.refl _,λd hd=>?_⟩;unfold chs at hd;rw[Xn,Array.getElem?_toList,hc]at hd;cases hd;rfl
theorem DI.str(h:DT X J it (.str y))(ha:ascii y=af):DI X J tg it (chs y):=λI H R r q pins s nI=>by
 refine thn (h I H (λv H1=>v=.str y/\j5 H H1) r (λv H1 g e=>⟨e,g⟩) pins s nI) λv s1 ⟨x,H1,I1,r1,ex,g1⟩=>?_;subst ex;obtain⟨t,rfl⟩:=(show ∃t:{t:Nat // t≠0},v=bC y t.1 from r1)
 refine wpAny_pyIter_ascii ha ?_;refine⟨s1.heap.objs.size,[s1.heap.objs.size],_,_,H1,rfl,I1.kept (t':=s1.toks) λb o e=>kj _ e,j9z _ y t,⟨_,X7 _ rfl,rfl,rfl⟩,λb hb=>?_,q _ H1 g1 (jbh y)⟩;have e:b=s1.heap.objs.size:=by simpa using hb
 subst e;exact I1.fpOk (Xc _) (I1.hok.fresh (Xc _))
noncomputable def inS(y z:ao):Bool:=!(b7 z y 0 z.length 1).isEmpty
theorem DE.inS(ha:DT X J a (.str y))(hb:DT X J b (.str z))(hm:aV .In b=ae):DE X J (.Compare a [.In] [b] pos) (.bl (inS y z)):=λI H Q R q =>(Qm Ea peS peS hm).to (ha I H _ R λv H1 g1 e1=>hb I H1 _ (R.grow g1) λu H2 g2 e2=>⟨y,z,e1,e2,q _ H2 (g1.trans g2) rfl⟩)
theorem DB.inS(ha:DT X J a (.str y))(hb:DT X J b (.str z))(hm:aV .In b=ae):DB X J (.Compare a [.In] [b] pos) (inS y z):=λI H Q R q =>(Q4 Ea peS peS hm).to (ha I H _ R λv H1 g1 e1=>hb I H1 _ (R.grow g1) λu H2 g2 e2=>⟨y,z,e1,e2,_,rfl,q H2 (g1.trans g2)⟩)
def mulOk_of(h1:1<=k/\k<=1000)(h2:y.length<=1000):MulOk y k:=by
 refine⟨?_,λ_ _=>?_,λ_ _=>?_⟩
 .simp;omega
 .have:(1000:Int)<=(2^63-1)/k:=Int.le_ediv_of_mul_le nofun nofun
  omega
 .have hk:k.toNat<=1000:=by omega
  have:y.length*k.toNat<=1000000:=gZ h2 hk;unfold bh;rw[bN];simp;omega
def j5t:OpR X (bO .Mult) (λx y H Q=>∃i k,x=.str i/\y=.int k/\MulOk i k/\Q (.str (bP i k)) H):=by
 intro pins s I H x y v u Q nI rx ry h;obtain⟨i,k,rfl,rfl,hm,q⟩:=h;obtain⟨t,rfl⟩:=rx;obtain⟨t',rfl⟩:=ry;refine P.mul_str hm.1 hm.2.1 hm.2.2 ?_;have fin:∀(t':{t:Nat // t≠0}) (k':Nat),0<k'->EP X pins I Q (.str (bP i k) t'.1) { s with toks:=k' }:=λt' k' hk=>⟨.str _,H,nI.tok _,⟨t',rfl⟩,q⟩
 unfold bP at fin;by_cases h1:k<1
 .rw[if_pos h1];have h':=fin ⟨s.toks,Xu nI.tk⟩ (s.toks+1) (Pb _);rw[if_pos h1]at h';exact⟨by decide,h'⟩
 .rw[if_neg h1]at fin ⊢;by_cases h2:(k==1 || i.length==0)=af
  .rw[if_pos h2]at fin ⊢;exact fin t s.toks nI.tk
  .rw[if_neg h2]at fin ⊢;exact⟨fits_reps (hm.2.2 h1 (by simpa using h2)),fin ⟨s.toks,Xu nI.tk⟩ _ (Pb _)⟩
def DE.mulS(ha:DT X J a (.str y))(hb:DT X J b (.int k))(h1:1<=k/\k<=1000)(h2:y.length<=1000):DE X J (.BinOp a .Mult b pos) (.str (bP y k)):=λI H Q R q =>(Zr j5t peS peS).to (ha I H _ R λv H1 g1 e1=>hb I H1 _ (R.grow g1) λu H2 g2 e2=>⟨y,k,e1,e2,mulOk_of h1 h2,q _ H2 (g1.trans g2) rfl⟩)
def DB.chn(ha:DT X J a (.int i))(hb:DT X J b (.int j))(hc:DT X J c (.int k))(hm:lV [.Lt,.Lt] [b,c]=ae):DB X J (.Compare a [.Lt,.Lt] [b,c] pos) (decide (i<j)&&decide (j<k)):=λI H Q R q =>
 (jb1 Dr Dr peS peS peS hm).to (ha I H _ R λv H1 g1 e1=>hb I H1 _ (R.grow g1) λu H2 g2 e2=>⟨i,j,e1,e2,_,rfl,by
  by_cases h:i<j
  .rw[decide_eq_true h,if_pos rfl]
   exact hc I H2 _ (R.grow (g1.trans g2)) λw H3 g3 e3=>⟨j,k,e2,e3,_,rfl,by rw[decide_eq_true h,hU]at q;exact q H3 ((g1.trans g2).trans g3)⟩
  .rw[decide_eq_false h,if_neg xq]
   exact⟨_,rfl,by rw[decide_eq_false h,ky]at q;exact q H2 (g1.trans g2)⟩⟩)
end
noncomputable def jqj:HO->Bool
 |.ins _ _ _=>af
 |_=>ae
def Qa(H H':Hp):Prop:=∀b o,H b=aa o->jqj o=ae->H' b=aa o
theorem Qa.del(g:Qa H H'):Qa (del H A) (del H' A):=λb o h n=>by obtain⟨nb,e⟩:=qb h;rw[jd nb];exact g b o e n
def Qa.seq{K:k84}{xs:List V}(g:Qa H H')(h:SqL K H a xs):SqL K H' a xs:=by
 rcases h with (h|⟨o,h⟩)|h
 .exact .inl (.inl (g _ _ h rfl))
 .exact .inl (.inr ⟨o,g _ _ h rfl⟩)
 .exact .inr h
def Qa.seqT{K:k84}{xs:List V}(g:Qa H H')(h:SqT K H a xs):SqT K H' a xs:=by
 rcases h with (h|⟨o,h⟩)|h
 .exact .inl (.inl (g _ _ h rfl))
 .exact .inl (.inr ⟨o,g _ _ h rfl⟩)
 .exact .inr h
theorem Zk.monoN(g:Qa H H'):∀{cs:List ak}{vs:List V},Zk H cs vs->Zk H' cs vs
 |[],_,h=>h
 |_::_,_,⟨v,r,o,u,e,h,d,rv,l⟩=>⟨v,r,o,u,e,g _ _ h rfl,d,rv,l.monoN g⟩
theorem LamAt.monoN{K:k84}{tx:Tx}(g:Qa H H')(h:LamAt K H x a c tx cl vs):LamAt K H' x a c tx cl vs :=
 ⟨h.tx,let ⟨pm,ctv,e⟩:=h.fo;⟨pm,ctv,g _ _ e rfl⟩,let ⟨oc,e,q⟩:=h.co;⟨oc,g _ _ e rfl,q⟩,h.nm,h.nd,h.cs.monoN g⟩
mutual
theorem Enc.monoN{K:k84}{H H':Hp}(g:Qa H H'):∀{d:D}{v:V},Enc K H d v->Enc K H' d v
 |.non,_,h=>h
 |.bl _,_,h=>h
 |.int _,_,h=>h
 |.str _,_,h=>h
 |.tup _,_,⟨a,xs,e,q,l⟩=>⟨a,xs,e,g.seqT q,j6.monoN g l⟩
 |.lst _,_,⟨a,xs,e,q,l⟩=>⟨a,xs,e,g.seq q,j6.monoN g l⟩
 |.dct _ _,_,⟨a,xs,ep,vs,e,q,ek,kt,rv,l⟩=>⟨a,xs,ep,vs,e,g _ _ q rfl,ek,λx hx=>g.seqT (kt x hx),rv,j6.monoN g l⟩
 |.sct _,_,⟨a,e,q⟩=>⟨a,e,g _ _ q rfl⟩
 |.any _,_,h=>h
 |.fn _ _,_,⟨a,c,tx,cl,vs,e,q,l⟩=>⟨a,c,tx,cl,vs,e,q.monoN g,j6.monoN g.del l⟩
theorem j6.monoN{K:k84}{H H':Hp}(g:Qa H H'):∀{ds:List D}{xs:List V},j6 K H ds xs->j6 K H' ds xs
 |[],_,h=>h
 |_::_,_,⟨x,r,e,h,l⟩=>⟨x,r,e,Enc.monoN g h,j6.monoN g l⟩
end
theorem Rep.monoN{K:k84}(R:Rep K J I H)(g:Qa H H'):Rep K J I H' :=
 ⟨R.len,λi d e=>let ⟨v,q,h⟩:=R.val i d e;⟨v,q,h.monoN g.del⟩,λi a ds e=>let ⟨q,xs,h,l⟩:=R.own i a ds e;⟨q,xs,g _ _ h rfl,l.monoN g.del⟩,R.nd,λi a o x e=>let ⟨q,h⟩:=R.raw i a o x e;⟨q,h.elim .inl λh=>.inr ⟨g.del _ _ h.1 rfl,h.2⟩⟩,λx hx c P e=>g _ _ (R.tb x hx c P e) rfl⟩
noncomputable def pcF(b:ak)(k:Int):List (ao×V):=[("standing",.ref b),("spot",.int k)]
structure Ob where
 a:ak
 dx:ak
 b:ak
structure PcAt(C:ak)(H:Hp)(o:Ob)(ls:List ao)(k:Nat):Prop where
 ob:H o.a=aa (.ins C o.dx (pcF o.b (k:Int)))
 li:H o.b=aa (.lst (ls.map V.str))
def But(a:ak)(H H':Hp):Prop:=∀b o,b≠a->H b=aa o->H' b=aa o
def j1o(b:ak)(k:Int):(pcF b k).lookup ("standing":ao)=aa (.ref b):=by unfold pcF;rfl
def Dp(b:ak)(k:Int):(pcF b k).lookup ("spot":ao)=aa (.int k):=by
 unfold pcF;rw[Xp];have:(("spot":ao)==("standing":ao))=ae:=by decide +kernel
 rw[this];rfl
def Dq(b:ak)(k:Int)(h1:(m==("standing":ao))=ae)(h2:(m==("spot":ao))=ae):(pcF b k).lookup m=ag:=by unfold pcF;rw[Xp,h1,Xp,h2];rfl
def jeu(b:ak)(k j:Int):Ji "spot" (.int j) (pcF b k)=pcF b j:=by
 have z:¬(("standing":ao) = "spot"):=by decide +kernel
 show(if ("standing":ao) = "spot" then _ else(("standing":ao),V.ref b)::(if ("spot":ao) = "spot" then[(("spot":ao),V.int j)]else _))=pcF b j;rw[if_neg z,if_pos rfl];rfl
def jb3(b:ak):Ji "spot" (.int 0) (Ji "standing" (.ref b) [])=pcF b 0:=by
 have z:¬(("standing":ao) = "spot"):=by decide +kernel
 show(if ("standing":ao) = "spot" then _ else(("standing":ao),V.ref b)::Ji "spot" (.int 0) [])=pcF b 0;rw[if_neg z];rfl
def PcAt.stay(h:PcAt C H o ls k)(g:j5 H H'):PcAt C H' o ls k:=⟨g _ _ h.ob,g _ _ h.li⟩
structure PcT(K:k84)(mg:k87)(C fA fT fL fI:ak):Prop where
 cl:Cls K C
 nS:V9 K C "standing"
 nP:V9 K C "spot"
 mA:Meth K C "ahead" fA
 mT:Meth K C "taken" fT
 mL:Meth K C "all_taken" fL
 mkI:Mk K C fI
 mgC:mg "Pieces"=aa (.ref C)
 len:mg "len"=ag
def Ot(C:ak):Sp:=λvs H Q _=>∃(o:Ob)(ls:List ao)(k:Nat),vs=[.ref o.a]/\PcAt C H o ls k/\Q (.str (ls.getD k "")) H
def K1(C:ak):Sp:=λvs H Q _=>∃(o:Ob)(ls:List ao)(k:Nat),vs=[.ref o.a]/\PcAt C H o ls k/\∀H',PcAt C H' o ls (k+1)->But o.a H H'->Q (.str (ls.getD k "")) H'
def j5b(C:ak):Sp:=λvs H Q _=>∃(o:Ob)(ls:List ao)(k:Nat),vs=[.ref o.a]/\PcAt C H o ls k/\Q (.bl (decide (ls.length<=k))) H
section
variable{P:aA}{w:aH}{K:k84}{mg:k87}{base:aL}{C fA fT fL fI f:ak}{fd fdA:aN}{st:aU}
noncomputable def j9q(n:Nat)(p1 p2 p3 p4 p5 p6 p7 p8 p9 p10 p11 p12 p13 p14 p15 p16:aR):List aU :=
 [.If (.Compare (.Attribute (.Name "self" p1) "spot" p2) [.Lt] [.Call (.Name "len" p3) [.Attribute (.Name "self" p4) "standing" p5] [] p6] p7) [.Return (aa (.Subscript (.Attribute (.Name "self" p8) "standing" p9) (.Attribute (.Name "self" p10) "spot" p11) p12)) p13] [] p14,
 .Return (aa (.Constant (.str "") n p15)) p16]
def jfn{ls:List ao}(h:k<ls.length):(ls.map V.str)[k]?=aa (.str (ls.getD k "")):=by rw[Xn,xf h,xx,xf h];rfl
def jb8(F:Fun K "ahead" "Pieces.ahead" st f fd)(T:PcT K mg C fA fT fL fI)(S:FnScope ["self"] ["self"] (j0 st))(hb:jj st=j9q n p1 p2 p3 p4 p5 p6 p7 p8 p9 p10 p11 p12 p13 p14 p15 p16)
  (hv:Vis (j0 st) "self") (hg:(j0 st).names.lookup ("len":ao)=aa .globalImplicit):qw P w K mg base CX0 1 f fd ["self"] (Ot C):=by
 refine F.ok S (λvs H Q E h=>?_) (λcdv A outer s H vs Q E hr h=>?_)
 .obtain⟨a,ls,k,rfl,_⟩:=h;rfl
 .obtain⟨⟨a,dx,b⟩,ls,k,rfl,⟨h1,h2⟩,q⟩:=h;rw[hb];refine⟨_,z7 (j0f (Q4 Dr (Yy (qp (i:=0) rfl hv) rfl) (J9 V2 hg T.len cP (ji (Yy (qp (i:=0) rfl hv) rfl) qe)) (vo _)) (Wb (Qy (Ox j4j (Yy (qp (i:=0) rfl hv) rfl) (Yy (qp (i:=0) rfl hv) rfl) (λ_ _=>rfl)))) Ym) (Wb (Qy Wd)),?_⟩;refine⟨_,rfl,a,C,dx,_,_,rfl,h1,T.cl,T.nP,Dp _ _,_,rfl,a,C,dx,_,_,rfl,h1,T.cl,T.nS,j1o _ _,b,_,rfl,.inl (SqL.of h2),_,_,rfl,rfl,_,rfl,?_⟩;rw[xm];refine jjf (λhc=>?_) (λhc=>?_)
  .have hlt:k<ls.length:=by have:=of_decide_eq_true hc;omega
   exact⟨_,rfl,a,C,dx,_,_,rfl,h1,T.cl,T.nS,j1o _ _,_,rfl,a,C,dx,_,_,rfl,h1,T.cl,T.nP,Dp _ _,b,_,(k:Int),_,rfl,rfl,SqL.of h2,Bp (jfn hlt),q⟩
  .have hlt:¬k<ls.length:=λz=>hc (decide_eq_true nofun);have e:ls.getD k ""="":=by rw[xx,Th nofun];rfl
   rw[e]at q;exact q
def Qs(X:Cx)(o:ar)(m:ao)(apos pos:aR):Prop:=∃pl:iL Bool,aD (.Call (.Attribute o m apos) [] [] pos) X.env=(do
   let ov <-aD o X.env
   gE apos.atName
   let (f,first) <-fh [ov] (iT ov m pl)
   callWith pos f first (aS pos (ah [] X.env)) (bU pos (bg [] X.env)))
noncomputable def j77(n:Nat)(p1 p2 p3 p4 p5 p6 p7 p8 p9 p10 p11 p12 p13 p14:aR):List aU :=
 [.Assign [.Name "piece" p1] (.Call (.Attribute (.Name "self" p2) "ahead" p3) [] [] p4) p5,
 .Assign [.Attribute (.Name "self" p6) "spot" p7] (.BinOp (.Attribute (.Name "self" p8) "spot" p9) .Add (.Constant (.int 1) n p10) p11) p12,
 .Return (aa (.Name "piece" p13)) p14]
def jb7(F:Fun K "taken" "Pieces.taken" st f fd)(T:PcT K mg C fA fT fL fI)(S:FnScope ["self","piece"] ["self"] (j0 st))(hb:jj st=j77 n p1 p2 p3 p4 p5 p6 p7 p8 p9 p10 p11 p12 p13 p14)
  (hv:Vis (j0 st) "self") (hl:(j0 st).names.lookup ("piece":ao)=aa .local) (hm:∀cdv A outer s H E,Qs (qy CX0 P w K mg base ["self","piece"] "Pieces.taken" (j0 st) f cdv A outer s H E).nox (.Name "self" p2) "ahead" p3 p4)
  (GA:qw P w K mg base CX0 1 fA fdA ["self"] (Ot C)) (bA:Binds K fdA ["self"] []):qw P w K mg base CX0 2 f fd ["self"] (K1 C):=by
 refine F.ok S (λvs H Q E h=>?_) (λcdv A outer s H vs Q E hr h=>?_)
 .obtain⟨a,ls,k,rfl,_⟩:=h;rfl
 .obtain⟨⟨a,dx,b⟩,ls,k,rfl,⟨h1,h2⟩,q⟩:=h;rw[hb];obtain⟨pl,ht⟩:=hm cdv A outer s H E;refine⟨_,z7 (Qx (i:=1) S.nd rfl (bc hl) (Ra (qp (i:=0) rfl hv) T.cl T.mA GA hr bA .nil Vi ht)) (z7 (j1i (qp (i:=0) rfl hv) (Zr j81 (Yy (qp (i:=0) rfl hv) rfl) j1m) rfl) (Wb (Qy (qp (i:=1) rfl (bc hl))))),?_⟩;have h1:H a=aa (.ins C dx (pcF b (k:Int))):=h1;have h2:H b=aa (.lst (ls.map V.str)):=h2;refine⟨_,rfl,a,dx,_,rfl,h1,Dq _ _ (by decide +kernel) (by decide +kernel),⟨a,dx,b⟩,ls,k,rfl,⟨h1,h2⟩,?_⟩;refine⟨_,rfl,a,C,dx,_,_,rfl,h1,T.cl,T.nP,Dp _ _,_,_,rfl,rfl,_,rfl,a,C,dx,_,rfl,h1,T.cl,T.nP,(by show 2<1000;decide),_,rfl,?_⟩;have nb:b≠a:=λz=>by rw[z,h1]at h2;cases h2
  refine q _ ⟨?_,by show upd H a _ b=_;rw[jf nb];exact h2⟩ (λc o n hc=>by rw[jf n];exact hc);show upd H a _ a=_;rw[jz,jeu];rfl
noncomputable def allB(p1 p2 p3 p4 p5 p6 p7 p8:aR):List aU:=[.Return (aa (.Compare (.Attribute (.Name "self" p1) "spot" p2) [.GtE] [.Call (.Name "len" p3) [.Attribute (.Name "self" p4) "standing" p5] [] p6] p7)) p8]
def jif(F:Fun K "all_taken" "Pieces.all_taken" st f fd)(T:PcT K mg C fA fT fL fI)(S:FnScope ["self"] ["self"] (j0 st))(hb:jj st=allB p1 p2 p3 p4 p5 p6 p7 p8)
  (hv:Vis (j0 st) "self") (hg:(j0 st).names.lookup ("len":ao)=aa .globalImplicit):qw P w K mg base CX0 1 f fd ["self"] (j5b C):=by
 refine F.ok S (λvs H Q E h=>?_) (λcdv A outer s H vs Q E hr h=>?_)
 .obtain⟨a,ls,k,rfl,_⟩:=h;rfl
 .obtain⟨⟨a,dx,b⟩,ls,k,rfl,⟨h1,h2⟩,q⟩:=h;rw[hb];refine⟨_,Wb (Qy (Qm j5u (Yy (qp (i:=0) rfl hv) rfl) (J9 V2 hg T.len cP (ji (Yy (qp (i:=0) rfl hv) rfl) qe)) (j1s _ (by decide) (by decide)))),?_⟩;refine⟨_,rfl,a,C,dx,_,_,rfl,h1,T.cl,T.nP,Dp _ _,_,rfl,a,C,dx,_,_,rfl,h1,T.cl,T.nS,j1o _ _,b,_,rfl,.inl (SqL.of h2),_,_,rfl,rfl,?_⟩;rw[xm];have e:decide (((ls.length:Nat):Int)<=((k:Nat):Int))=decide (ls.length<=k):=by
   by_cases z:ls.length<=k
   .rw[decide_eq_true z,decide_eq_true nofun]
   .rw[decide_eq_false z,decide_eq_false nofun]
  rw[<-e]at q;exact q
end
theorem Ip:∀(tk:Nat)(xs:List ao),0<tk->Vals (xs.map V.str) (strsFrom tk xs)
 |_,[],_=>.nil
 |tk,x::r,h=>.cons ⟨⟨tk,Xu h⟩,rfl⟩ (Ip (tk+1) r (Pb _))
section
variable{X:Cx}{J:Rho}{a:ar}{p1 p2 p3:aR}{y:ao}
def j1v:MtR X "str.split" (λx vs H Q=>∃z,x=.str z/\vs=[.str " "]/\z.length<=100000/\(aC z " ").length<=au/\∀p,H p=ag->Q (.ref p) (upd H p (.lst ((aC z " ").map V.str)))):=by
 rintro pins s I H x vs v us Q nI rx rv ⟨z,e,e',hz,hl,q⟩;subst e e';obtain⟨t,rfl⟩:=(show ∃t:{t:Nat // t≠0},v=bC z t.1 from rx)
 obtain⟨u,eu,ru⟩:=rv.one;subst eu;obtain⟨t2,rfl⟩:=(show ∃t:{t:Nat // t≠0},u=bC " " t.1 from ru)
 have lay:∀(its:List aj)(tk:Nat),0<tk->Vals ((aC z " ").map V.str) its->Inv X pins I (upd H s.heap.objs.size (.lst ((aC z " ").map V.str))) { s with heap:=s.heap.push { cls:=.type "list",data:=.seq its.toArray },toks:=tk }:=λits tk ht hv =>nI.laid (t':=tk) (λb o e=>kj _ e) (Xc _) ⟨by rw[xm];exact hl,its,0,hv,X7 _ rfl⟩
 have fr:H s.heap.objs.size=ag:=nI.hok.fresh (Xc _);have hsz:z.length<=au:=by rw[bN];omega
 have hy:((" ":ao).length==0)=ae:=by decide
 by_cases h1:(decide (z.length<(" ":ao).length) || decide (cS z<cS (" ":ao)))=af
 .have es:aC z " " = [z]:=if_pos h1;refine bX cH (cE _ _ _) gi (fP _ _) (meets_str_split_cannot_occur z " " t t2 h1) ?_;exact⟨.ref s.heap.objs.size,_,lay _ _ nI.tk (by rw[es];exact .cons ⟨t,rfl⟩ .nil),rfl,q _ fr⟩
 .have h1:(decide (z.length<(" ":ao).length) || decide (cS z<cS (" ":ao)))=ae:=by simpa using h1
  by_cases h2:(b7 z " " 0 z.length (z.length+1)).isEmpty=af
  .have es:aC z " " = [z]:=by unfold aC;rw[if_neg (by rw[h1];decide),if_pos h2]
   refine bX cH (cE _ _ _) gi (fP _ _) (meets_str_split_not_found z " " t t2 h1 hy h2) ?_;exact⟨.ref s.heap.objs.size,_,lay _ _ nI.tk (by rw[es];exact .cons ⟨t,rfl⟩ .nil),rfl,q _ fr⟩
  .have h2:(b7 z " " 0 z.length (z.length+1)).isEmpty=ae:=by simpa using h2
   have es:aC z " " = fb z (b7 z " " 0 z.length (z.length+1)) (" ":ao).length:=by unfold aC;rw[if_neg (by rw[h1];decide),if_neg (by rw[h2];decide)]
   refine bX cH (cE _ _ _) gi (fP _ _) (meets_str_split_sep z " " t t2 h1 hy h2 hsz (by rw[<-es];exact hl)) ?_;exact⟨.ref s.heap.objs.size,_,lay _ _ (Xh nI.tk (ka _ _)) (by rw[es];exact Ip _ _ nI.tk),rfl,q _ fr⟩
end
section
variable{P:aA}{w:aH}{K:k84}{mg:k87}{base:aL}{C fA fT fL fI f:ak}{fd:aN}{st:aU}
noncomputable def jd6(n n2:Nat)(p1 p2 p3 p4 p5 p6 p7 p8 p9 p10 p11:aR):List aU :=
 [.Assign [.Attribute (.Name "self" p1) "standing" p2] (.Call (.Attribute (.Name "text" p3) "split" p4) [.Constant (.str " ") n p5] [] p6) p7,
 .Assign [.Attribute (.Name "self" p8) "spot" p9] (.Constant (.int 0) n2 p10) p11]
def K3(C:ak):Sp:=λvs H Q _=>∃(a dx:ak)(t:ao),vs=[.ref a,.str t]/\H a=aa (.ins C dx [])/\t.length<=100000/\(aC t " ").length<=au/\∀b H',H b=ag->PcAt C H' ⟨a,dx,b⟩ (aC t " ") 0->But a H H'->Q .non H'
def jf2(F:Fun K "__init__" "Pieces.__init__" st f fd)(T:PcT K mg C fA fT fL fI)(S:FnScope ["self","text"] ["self","text"] (j0 st))(hb:jj st=jd6 n n2 p1 p2 p3 p4 p5 p6 p7 p8 p9 p10 p11)
  (hv:Vis (j0 st) "self") (ht:Vis (j0 st) "text") (hl:(p4.endLine==p6.line)=af):qw P w K mg base CX0 1 f fd ["self","text"] (K3 C):=by
 refine F.ok S (λvs H Q E h=>?_) (λcdv A outer s H vs Q E hr h=>?_)
 .obtain⟨a,dx,t,rfl,_⟩:=h;rfl
 .obtain⟨a,dx,t,rfl,h1,hz,hn,q⟩:=h;rw[hb];refine⟨_,z7 (j1i (qp (i:=0) rfl hv) (Uk cN cH gU j1v (qp (i:=1) rfl ht) (ji Wd qe) rfl rfl hl) rfl) (Wb (j1i (qp (i:=0) rfl hv) j1m rfl)),?_⟩;refine⟨_,rfl,rfl,t,rfl,rfl,hz,hn,λb hb'=>?_⟩;have nab:a≠b:=zf h1 hb';refine⟨_,rfl,a,C,dx,[],rfl,(by rw[jf nab];exact h1),T.cl,T.nS,(by show 0<1000;decide),_,rfl,a,C,dx,_,rfl,jz,T.cl,T.nP,(by show 1<1000;decide),?_⟩;refine q b _ hb' ⟨by show upd _ a _ a=_;rw[jz,jb3];rfl,by show upd _ a _ b=_;rw[jf nab.symm,jf nab.symm,jz]⟩ λc o n hc=>?_;rw[jf n,jf n,jf (zf hc hb')];exact hc
end
structure Pm where
 nx:Rho->Nat->Prop
 rt:D->Nat->Prop
 ex:ao->Rho->Prop
def FrM(a:ak)(J J':Rho)(H H':Hp):Prop:=j5 (del H (a::owns J)) (del H' (a::owns J'))
structure EndsM(X:Cx)(C:ak)(o:Ob)(ls:List ao)(J:Rho)(H:Hp)(P:Pm)(E:Ends):Prop where
 nx:∀J' k' σ' H',P.nx J' k'->Rep X.K J' σ' H'->PcAt C (del H' (owns J')) o ls k'->FrM o.a J J' H H'->E.nx σ' H'
 rt:∀d k' v H',P.rt d k'->PcAt C H' o ls k'->j5 (del H (o.a::owns J)) (del H' [o.a])->Enc X.K H' d v->E.rt v H'
 ex:∀x J' σ' H',P.ex x J'->Rep X.K J' σ' H'->FrM o.a J J' H H'->Ol X σ' H' x
structure PcX(X:Cx)(C:ak):Prop where
 ex:∃(fA fT fL fI:ak)(dA dT dL dI:aN),PcT X.K X.mg C fA fT fL fI/\(qw X.prog X.w X.K X.mg X.base CX0 1 fA dA ["self"] (Ot C)/\Binds X.K dA ["self"] []) /\
  (qw X.prog X.w X.K X.mg X.base CX0 2 fT dT ["self"] (K1 C)/\Binds X.K dT ["self"] [])/\(qw X.prog X.w X.K X.mg X.base CX0 1 fL dL ["self"] (j5b C)/\Binds X.K dL ["self"] []) /\
  (qw X.prog X.w X.K X.mg X.base CX0 1 fI dI ["self","text"] (K3 C)/\Binds X.K dI ["self","text"] [])/\Room 3 X.A
def MSs(X:Cx)(C:ak)(o:Ob)(ls:List ao)(J:Rho)(k:Nat)(sts:List aU)(P:Pm):Prop :=
 ∀I H E,Rep X.K J I H->PcAt C (del H (owns J)) o ls k->EndsM X C o ls J H P E->Zo X sts E I H
section
variable{X:Cx}{C:ak}{o:Ob}{ls:List ao}{J ρ1:Rho}{H H1 H':Hp}{P:Pm}{E:Ends}{k k':Nat}{st:aU}{rest:List aU}{I:St}
theorem FrM.trans(f:FrM a J ρ1 H H1)(g:FrM a ρ1 ρ2 H1 H2):FrM a J ρ2 H H2:=j5.trans f g
def FrM.of0(f:Fr0 J ρ1 H H1):FrM a J ρ1 H H1:=λb u z=>by
 obtain⟨nb,z⟩:=qb z;have nb2:b∉owns J:=λy=>nb (kh _ y);obtain⟨n1,z1⟩:=qb (f b u (by rw[jd nb2];exact z));rw[jd];exact z1;intro y;rcases xj.mp y with e|y
 .exact nb (by rw[e];exact km)
 .exact n1 y
def FrM.but(h:But a H H'):FrM a J J H H':=λb u z=>by obtain⟨nb,z⟩:=qb z;rw[jd nb];exact h b u (λy=>nb (by rw[y];exact km)) z
def EndsM.step(h:EndsM X C o ls J H P E)(f:FrM o.a J ρ1 H H1):EndsM X C o ls ρ1 H1 P E :=
 ⟨λJ' k' σ' H' n R pc g=>h.nx J' k' σ' H' n R pc (f.trans g),λd k' v H' n pc g e=>h.rt d k' v H' n pc (j5.trans f g) e,λx J' σ' H' n R g=>h.ex x J' σ' H' n R (f.trans g)⟩
def PcAt.nin(h:PcAt C (del H (owns J)) o ls k):o.a∉owns J/\o.b∉owns J:=⟨(qb h.ob).1,(qb h.li).1⟩
def PcAt.all(h:PcAt C (del H (owns J)) o ls k):PcAt C H o ls k:=h.stay jr
def PcAt.in'(h:PcAt C H' o ls k')(h0:PcAt C (del H (owns J)) o ls k)(sub:∀b∈owns ρ1,b∈owns J):PcAt C (del H' (owns ρ1)) o ls k' :=
 ⟨by rw[jd λz=>h0.nin.1 (sub _ z)];exact h.ob,by rw[jd λz=>h0.nin.2 (sub _ z)];exact h.li⟩
def Qa.but(h:H a=aa (.ins C dx fs))(b:But a H H'):Qa H H':=λc u hc n=>b c u (λz=>by rw[z,h]at hc;cases hc;cases n) hc
def But.ofDel(g:j5 (del H [a]) (del H' [a])):But a H H':=λc u n hc=>(qb (g c u (by rw[jd (by simpa using n)];exact hc))).2
def MSs.plain(h1:DS X J st { nx:=N,rt:=λr=>∃d,r=.val d/\P.rt d k,ex:=P.ex })(h2:∀ρ1,N ρ1->MSs X C o ls ρ1 k rest P):MSs X C o ls J k (st::rest) P:=λI H E R pc q =>
 (z7 psS vg).to (h1 I H { E with nx:=Zo X rest E } R ⟨λJ' σ' H' n R' f=>h2 J' n σ' H' E R' (pc.stay f) (q.step (.of0 f)),λ_ _ _ n=>n.elim,λ_ _ _ n=>n.elim,
  λr v H' ⟨d,e,n⟩ z=>by
   subst e
   obtain⟨g,en⟩:=z
   refine q.rt d k v H' n (pc.stay g) (λb u y=>?_) en
   obtain⟨nb,y⟩:=qb y
   rw[jd (by intro z;exact nb (by rw[xu.mp z];exact km))]
   exact g b u (by rw[jd λz=>nb (kh _ z)];exact y),
  λx J' σ' H' n R' f=>q.ex x J' σ' H' n R' (.of0 f)⟩)
def MSs.nil(h:P.nx J k):MSs X C o ls J k [] P:=λI H E R pc q=>Ym.to (q.nx J k I H h R pc (.of0 (Fr0.refl J H)))
def MSs.ife(hc:DB X J c b)(ha:b=af->MSs X C o ls J k sa { P with nx:=λ_ _=>False })(hb:b=ae->MSs X C o ls J k rest P):MSs X C o ls J k (.If c sa [] pos::rest) P:=λI H E R pc q=>by
 refine(z7 (j0f ptS vg vg) vg).to (hc I H _ R λH1 g1=>?_);have pc1:PcAt C (del H1 (owns J)) o ls k:=pc.stay (jq g1);have q1:=q.step (.of0 (Fr0.grow g1));cases b with
 |true=>exact Rj (ha rfl I H1 _ (R.grow g1) pc1 ⟨λ_ _ _ _ n=>n.elim,q1.rt,q1.ex⟩)
 |false=>exact Rm (Ym.to (hb rfl I H1 E (R.grow g1) pc1 q1))
section
variable{pi i:Nat}{ob:cT}{x y:ao}{p py p1 p2 pos:aR}
def Ww(T:PcX X C)(hp:J[pi]?=aa (.raw o.a ob rfN))(hpN:X.N[pi]?=aa y)(hv:Vis X.env.scope y)(hd:(y==k89)=ae)(hcd:(y==k8a)=ae)(mc:Qs X (.Name y py) "taken" p1 p2)
  (R:Rep X.K J I H) (pc:PcAt C (del H (owns J)) o ls k) (q:∀H',Rep X.K J I H'->PcAt C (del H' (owns J)) o ls (k+1)->FrM o.a J J H H'->Q (.str (ls.getD k "")) H'):Jq X (.Call (.Attribute (.Name y py) "taken" p1) [] [] p2) I H Q:=by
 obtain⟨fA,fT,fL,fI,dA,dT,dL,dI,T,_,⟨GT,bT⟩,_,_,hr⟩:=T.ex;obtain⟨pl,ht⟩:=mc;refine(Ra (qp hpN hv hd hcd) T.cl T.mT GT (hr.mono (by decide)) bT .nil Vi ht).to ⟨_,(R.raw pi _ _ _ hp).1,o.a,o.dx,_,rfl,pc.all.ob,Dq _ _ (by decide +kernel) (by decide +kernel),o,ls,k,rfl,pc.all,λH' pc' bt=>?_⟩;exact q H' (R.monoN (.but pc.all.ob bt)) (pc'.in' pc λ_ h=>h) (.but bt)
def MSs.take(T:PcX X C)(hp:J[pi]?=aa (.raw o.a ob rfN))(hpN:X.N[pi]?=aa y)(hv:Vis X.env.scope y)(hd:(y==k89)=ae)(hcd:(y==k8a)=ae)(mc:Qs X (.Name y py) "taken" p1 p2)
  (hN:X.N.Nodup) (hi:X.N[i]?=aa x) (hx:Loc X.env.scope x) (hs:aO (.Call (.Attribute (.Name y py) "taken" p1) [] [] p2) (aa (.Name x p)) pos.line X.env=pure ae) (hf:X.fn x=af\/X.env.scope.names.lookup x=aa .local)
  (h2:MSs X C o ls (J.set i (.val (.str (ls.getD k "")))) (k+1) rest P):MSs X C o ls J k (.Assign [.Name x p] (.Call (.Attribute (.Name y py) "taken" p1) [] [] p2) pos::rest) P:=λI H E R pc q =>
 (z7 (Qx hN hi hx peS hs hf) vg).to (Ww T hp hpN hv hd hcd mc R pc λH' R' pc' f=>h2 _ H' E (R'.set_val rfl) (pc'.stay (zb λb hb=>(j7 rfl).subset hb)) (q.step (f.trans (.of0 (Fr0.drop λb hb=>(j7 rfl).subset hb)))))
def MSs.takeE(T:PcX X C)(hp:J[pi]?=aa (.raw o.a ob rfN))(hpN:X.N[pi]?=aa y)(hv:Vis X.env.scope y)(hd:(y==k89)=ae)(hcd:(y==k8a)=ae)(mc:Qs X (.Name y py) "taken" p1 p2)
  (hs:aO (.Call (.Attribute (.Name y py) "taken" p1) [] [] p2) ag pos.line X.env=pure ae)
  (h2:MSs X C o ls J (k+1) rest P):MSs X C o ls J k (.Expr (.Call (.Attribute (.Name y py) "taken" p1) [] [] p2) pos::rest) P:=λI H E R pc q =>
 (z7 (Vb peS hs) vg).to (Ww T hp hpN hv hd hcd mc R pc λH' R' pc' f=>h2 _ H' E R' pc' (q.step f))
def MSs.takeIf(T:PcX X C)(hp:J[pi]?=aa (.raw o.a ob rfN))(hpN:X.N[pi]?=aa y)(hv:Vis X.env.scope y)(hd:(y==k89)=ae)(hcd:(y==k8a)=ae)(mc:Qs X (.Name y py) "taken" p1 p2)
  (hN:X.N.Nodup) (hi:X.N[i]?=aa x) (hx:Loc X.env.scope x) (hs:aO (.IfExp c (.Call (.Attribute (.Name y py) "taken" p1) [] [] p2) e pi2) (aa (.Name x p)) pos.line X.env=pure ae) (hf:X.fn x=af\/X.env.scope.names.lookup x=aa .local)
  (hc:DB X J c b) (he:b=ae->DE X J e d) (h2:b=af->MSs X C o ls (J.set i (.val (.str (ls.getD k "")))) (k+1) rest P) (h3:b=ae->MSs X C o ls (J.set i (.val d)) k rest P) :
  MSs X C o ls J k (.Assign [.Name x p] (.IfExp c (.Call (.Attribute (.Name y py) "taken" p1) [] [] p2) e pi2) pos::rest) P:=λI H E R pc q=>by
 refine(z7 (Qx hN hi hx (j1n ptS peS peS) hs hf) vg).to (hc I H _ R λH1 g1=>?_);have pc1:PcAt C (del H1 (owns J)) o ls k:=pc.stay (jq g1);have q1:=q.step (.of0 (Fr0.grow g1));cases b with
 |true=>exact Rj (Ww T hp hpN hv hd hcd mc (R.grow g1) pc1 λH' R' pc' f=>h2 rfl _ H' E (R'.set_val rfl) (pc'.stay (zb λb hb=>(j7 rfl).subset hb)) (q1.step (f.trans (.of0 (Fr0.drop λb hb=>(j7 rfl).subset hb)))))
 |false=>exact Rm (he rfl I H1 _ (R.grow g1) λv H2 g2 en=>h3 rfl _ H2 E (((R.grow g1).grow g2).set_val en) ((pc1.stay (jq g2)).stay (zb λb hb=>(j7 rfl).subset hb)) (q1.step ((FrM.of0 (Fr0.grow g2)).trans (.of0 (Fr0.drop λb hb=>(j7 rfl).subset hb)))))
def MSs.whl(T:PcX X C)(W:Nat->Rho->Nat->Prop)(m:Nat)(h0:W m J k)(hpo:eR (aB X.prog X.w) X.A X.env X.xe)
  (hpN:X.N[pi]?=aa y) (hv:Vis X.env.scope y) (hd:(y==k89)=ae) (hcd:(y==k8a)=ae) (mc:Qs X (.Name y py) "ahead" p1 p2)
  (hs:∀m J' k',W m J' k'->(∃ob,J'[pi]?=aa (.raw o.a ob rfN))/\(ls.getD k' "" ≠ z->MSs X C o ls J' k' body { P with nx:=λρ2 k2=>∃m2,m2<m/\W m2 ρ2 k2 })/\(ls.getD k' ""=z->MSs X C o ls J' k' rest P)) :
  MSs X C o ls J k (.While (.Compare (.Call (.Attribute (.Name y py) "ahead" p1) [] [] p2) [.NotEq] [.Constant (.str z) n p3] p4) body [] pos::rest) P:=λI H E R pc q=>by
 obtain⟨fA,fT,fL,fI,dA,dT,dL,dI,T,⟨GA,bA⟩,_,_,_,hr⟩:=T.ex;obtain⟨pl,ht⟩:=mc;refine(z7 (jb2 hpo (Q4 j5s (Ra (qp hpN hv hd hcd) T.cl T.mA GA (hr.mono (by decide)) bA .nil Vi ht) Wd (vo _)) vg) vg).to ?_;refine⟨λm σ' H'=>∃J' k',W m J' k'/\Rep X.K J' σ' H'/\PcAt C (del H' (owns J')) o ls k'/\FrM o.a J J' H H',⟨m,J,k,h0,R,pc,.of0 (Fr0.refl _ _)⟩,?_⟩;rintro m σ' H' ⟨J',k',w,R',pc',f⟩;obtain⟨⟨ob,hp⟩,hb,he⟩:=hs m J' k' w;refine⟨_,(R'.raw pi _ _ _ hp).1,o.a,o.dx,_,rfl,pc'.all.ob,Dq _ _ (by decide +kernel) (by decide +kernel),o,ls,k',rfl,pc'.all,rfl,_,rfl,?_⟩;refine jjf (λhc=>?_) (λhc=>?_)
 .have hz:ls.getD k' "" ≠ z:=λe=>by rw[e]at hc;simp at hc
  refine⟨λσ2 H2=>∃ρ2 k2,(∃m2,m2<m/\W m2 ρ2 k2)/\Rep X.K ρ2 σ2 H2/\PcAt C (del H2 (owns ρ2)) o ls k2/\FrM o.a J ρ2 H H2,λσ2 H2 ⟨ρ2,k2,⟨m2,hlt,w2⟩,R2,pc2,f2⟩=>⟨m2,hlt,ρ2,k2,w2,R2,pc2,f2⟩,?_⟩;have q':=q.step f;exact hb hz σ' H' _ R' pc' ⟨λρ2 k2 σ2 H2 n R2 pc2 f2=>⟨ρ2,k2,n,R2,pc2,f.trans f2⟩,λd k2 v H2 n pc2 g e=>q'.rt d k2 v H2 n pc2 g e,λx ρ2 σ2 H2 n R2 g=>q'.ex x ρ2 σ2 H2 n R2 g⟩
 .have hz:ls.getD k' ""=z:=by
   have:decide (V.str (ls.getD k' "")=V.str z)=af:=by simpa using hc
   exact V.str.inj (of_decide_eq_true this)
  exact he hz σ' H' E R' pc' (q.step f)
end
end
def jpt(K:k84)(C:ak)(S:List ao->Nat->List D->D->Nat->Prop):Sp:=λvs H Q _=>∃(o:Ob)(ls:List ao)(k:Nat)(ds:List D)(d:D)(k':Nat)(ws:List V),vs=.ref o.a::ws/\TabOk K H/\PcAt C H o ls k/\j6 K H ds ws/\S ls k ds d k' /\
 ∀v H',PcAt C H' o ls k'->j5 (del H [o.a]) (del H' [o.a])->Enc K H' d v->Q v H'
def spM(K:k84)(C:ak)(S:List ao->Nat->List D->D->Nat->Prop):Sp:=λvs H Q _=>∃(A:List ak)(o:Ob)(ls:List ao)(k:Nat)(ds:List D)(d:D)(k':Nat) (ws:List V),vs=.ref o.a::ws/\TabOk K H/\(∀a∈A,∃xs,H a=aa (.lst xs))/\PcAt C (del H A) o ls k/\j6 K (del H A) ds ws/\S ls k ds d k' /\
 ∀v H',PcAt C (del H' A) o ls k'->j5 (del H [o.a]) (del H' [o.a])->Enc K (del H' A) d v->Q v H'
def j5a(K:k84)(mg:k87)(C:ak)(S:List ao->Nat->List D->ao->Prop):Sp:=λvs H _ E=>∃(o:Ob)(ls:List ao)(k:Nat)(ds:List D)(x:ao)(V:aj)(ws:List L2.V),vs=.ref o.a::ws/\TabOk K H/\PcAt C H o ls k/\j6 K H ds ws/\S ls k ds x/\mg x=aa V /\
 ∀H',j5 (del H [o.a]) (del H' [o.a])->E V ag H'
section
variable{P:aA}{w:aH}{K:k84}{mg:k87}{base:aL}{n:Nat}{f C:ak}{fd:aN}{ps:List ao}
def qw.toM(F:qw P w K mg base CX0 n f fd ps (jpt K C S)):qw P w K mg base CX0 n f fd ps (spM K C S) :=
 F.framed.imp λvs H Q E ⟨A,o,ls,k,ds,d,k',ws,e,tb,hA,pc,en,hS,q⟩=>⟨A,hA,o,ls,k,ds,d,k',ws,e,tb.del hA,pc,en,hS,λv F pc' g e' hF=>by
  refine q v _ (by rw[Zh hF];exact pc') (λb u z=>?_) (by rw[Zh hF];exact e')
  obtain⟨nb,z⟩:=qb z
  rw[jd nb]
  by_cases y:b∈A
  .rw[Qe y];exact z
  .rw[qx y]
   exact(qb (g b u (by rw[jd nb,jd y];exact z))).2⟩
end
structure CalM(X:Cx)(f:ao)(C:ak)(S:List ao->Nat->List D->D->Nat->Prop):Prop where
 ex:∃(n:Nat)(fa:ak)(fd:aN)(ps:List ao),qw X.prog X.w X.K X.mg X.base CX0 n fa fd ps (spM X.K C S)/\Room n X.A/\X.mg f=aa (.ref fa)/\W.keepIn X.K (.ref fa)=af/\Binds X.K fd ps []
structure CalMX(X:Cx)(f:ao)(C:ak)(S:List ao->Nat->List D->ao->Prop):Prop where
 ex:∃(n:Nat)(fa:ak)(fd:aN)(ps:List ao),qw X.prog X.w X.K X.mg X.base (CX1 X.prog X.w) n fa fd ps (j5a X.K X.mg C S)/\Room n X.A/\X.mg f=aa (.ref fa)/\W.keepIn X.K (.ref fa)=af/\Binds X.K fd ps []
section
variable{X:Cx}{C:ak}{o:Ob}{ls:List ao}{J ρ1:Rho}{H H1 H':Hp}{P:Pm}{E:Ends}{k k':Nat}{st:aU}{rest:List aU}{I:St}{pi i:Nat}{ob:cT}{x y f:ao}{p py pf p1 p2 pos:aR}{es:List ar}{ds:List D}{d:D}
structure MC(X:Cx)(pi:Nat)(f:ao)(es:List ar)(c:ar):Prop where
 ex:∃(y:ao)(pf py pos:aR),c=.Call (.Name f pf) (.Name y py::es) [] pos/\X.N[pi]?=aa y/\Vis X.env.scope y/\(y==k89)=ae/\(y==k8a)=ae/\Gl X f/\(f==k89)=ae /\
  ah (.Name y py::es) X.env=(ae,aD (.Name y py) X.env)::ah es X.env/\(aS pos (ah es X.env)).any (·.1)=ae
def Ml(cl:CalM X f C S)(m:MC X pi f es c)(hp:J[pi]?=aa (.raw o.a ob rfN))(ha:DA X J es ds)(hS:S ls k ds d k')
  (R:Rep X.K J I H) (pc:PcAt C (del H (owns J)) o ls k) (q:∀v H',Rep X.K J I H'->PcAt C (del H' (owns J)) o ls k'->FrM o.a J J H H'->Enc X.K (del H' (owns J)) d v->Q v H'):Jq X c I H Q:=by
 obtain⟨y,pf,py,pos,rfl,hpN,hv,hd,hcd,hg,hdb,he,hpl⟩:=m.ex;obtain⟨n,fa,fd,ps,F,hr,hm,hk,hb⟩:=cl.ex;refine(We F hr hg hm hk hb .nil Vi (ji (qp hpN hv hd hcd) paS he) hdb he hpl).to ⟨_,(R.raw pi _ _ _ hp).1,ha I H _ R λvs H1 g1 e1=>?_⟩;show spM X.K C S ((.ref o.a::vs)++[]) H1 Q E0;rw[Xq];have R1:=R.grow g1;have pc1:PcAt C (del H1 (owns J)) o ls k:=pc.stay (jq g1);refine⟨owns J,o,ls,k,ds,d,k',vs,rfl,R1.tb,R1.owned,pc1,e1,hS,λv H' pc' g en=>?_⟩;have bt:=But.ofDel g;exact q v H' (R1.monoN (.but pc1.all.ob bt)) pc' ((FrM.of0 (Fr0.grow g1)).trans (.but bt)) en
def MSs.callS(cl:CalM X f C S)(m:MC X pi f es c)(hp:J[pi]?=aa (.raw o.a ob rfN))(ha:DA X J es ds)(hS:S ls k ds d k')
  (hN:X.N.Nodup) (hi:X.N[i]?=aa x) (hx:Loc X.env.scope x) (hs:aO c (aa (.Name x p)) pos.line X.env=g6 ae) (hf:X.fn x=af\/X.env.scope.names.lookup x=aa .local)
  (h2:MSs X C o ls (J.set i (.val d)) k' rest P):MSs X C o ls J k (.Assign [.Name x p] c pos::rest) P:=λI H E R pc q =>
 (z7 (Qx hN hi hx peS hs hf) vg).to (Ml cl m hp ha hS R pc λv H' R' pc' f en=>h2 _ H' E (R'.set_val en) (pc'.stay (zb λb hb=>(j7 rfl).subset hb)) (q.step (f.trans (.of0 (Fr0.drop λb hb=>(j7 rfl).subset hb)))))
def MSs.retC(cl:CalM X f C S)(m:MC X pi f es c)(hp:J[pi]?=aa (.raw o.a ob rfN))(ha:DA X J es ds)(hS:S ls k ds d k')
  (h2:P.rt d k'):MSs X C o ls J k (.Return (aa c) pos::rest) P:=λI H E R pc q =>
 (z7 (Qy peS) vg).to (Ml cl m hp ha hS R pc λv H' R' pc' f en=>q.rt d k' v H' h2 pc'.all (λb u z=>by
  obtain⟨nb,z⟩:=qb z
  obtain⟨_,z1⟩:=qb (f b u (by rw[jd nb];exact z))
  rw[jd (by intro y;exact nb (by rw[xu.mp y];exact km))]
  exact z1) (en.mono jr))
def MSs.appC{p3:aR}(cl:CalM X f C S)(m:MC X pi f es c)(hp:J[pi]?=aa (.raw o.a ob rfN))(ha:DA X J es ds)(hS:S ls k ds d k')
  (hk:J[i]?=aa (.own l acc)) (hl:acc.length<au) (hN:X.N[i]?=aa x) (hv:Vis X.env.scope x) (hd:(x==k89)=ae) (hcd:(x==k8a)=ae)
  (hst:ah [c] X.env=[(ae,aD c X.env)]) (hline:(p1.endLine==p2.line)=af) (hbase:aY (.Name x p) "append" X.env (aD (.Name x p) X.env)=aD (.Name x p) X.env)
  (hfew:((aS p2 (ah [c] X.env)).all (λx=>!x.1)&&(bU p2 (bg [] X.env)).all (λx=>x.1.isSome)&&decide (([c]:List ar).length+([]:List bb).length+(if ([]:List bb).isEmpty then 0 else 1)<30))=af)
  (hs:aO (.Call (.Attribute (.Name x p) "append" p1) [c] [] p2) ag pos.line X.env=g6 ae)
  (h2:MSs X C o ls (J.set i (.own l (acc++[d]))) k' rest P):MSs X C o ls J k (.Expr (.Call (.Attribute (.Name x p) "append" p1) [c] [] p2) pos::rest) P:=λI H E R pc q=>by
 obtain⟨hσ,xs,mm,en⟩:=R.own i l acc hk;refine(z7 (Vb (Uk cF cM dD Ul (qp hN hv hd hcd) (ji peS qe hst) hbase hfew hline hst rfl) hs) vg).to ?_;refine⟨_,hσ,.inl ⟨rfl,xs,.inl (.inl mm)⟩,Ml cl m hp ha hS R pc λv H' R' pc' f en'=>?_⟩;obtain⟨hσ',xs',mm',enx⟩:=R'.own i l acc hk;refine⟨l,xs',v,rfl,rfl,mm',by rw[enx.length];exact hl,?_⟩;have R2:=R'.upd_own hk (enx.append (.one en'));refine h2 I _ E R2 ?_ (q.step (f.trans (.of0 ?_)))
 .rw[Z4 hk,Yp (Jr hk)];exact pc'
 .exact j27 (I:=I) hk (j5.refl _)
def Wx{Q:VK}{V:aj}(cl:CalMX X f C S)(m:MC X pi f es c)(hp:J[pi]?=aa (.raw o.a ob rfN))(ha:DTA X J es ds)(hS:S ls k ds z)(hC:X.mg z=aa V)
  (R:Rep X.K J I H) (pc:PcAt C (del H (owns J)) o ls k) (q:∀H',Rep X.K J I H'->FrM o.a J J H H'->Ol X I H' z):Jq X c I H Q:=λpins s nI=>by
 obtain⟨y,pf,py,pos,rfl,hpN,hv,hd,hcd,hg,hdb,he,hpl⟩:=m.ex;obtain⟨n,fa,fd,ps,F,hr,hm,hk,hb⟩:=cl.ex;refine b9 (Qn nI hg hm ?_ hdb);refine W.callWith_K (h₀:=X.base) nI.ok.mod.kin hk (thn ((ji (qp hpN hv hd hcd) paS he).to (I:=I) (H:=H) (Q:=λvs H1=>∃ws,vs=.ref o.a::ws/\j5 H H1/\j6 X.K H1 ds ws) ⟨_,(R.raw pi _ _ _ hp).1,ha I H _ R λvs H1 g e=>⟨vs,rfl,g,e⟩⟩ pos pins s nI) λus s1 ⟨vs,H1,I1,r,ws,evs,g,en⟩=>⟨I1.kIn,?_⟩) he hpl;subst evs;have R1:=R.grow g;have pc1:PcAt C (del H1 (owns J)) o ls k:=pc.stay (jq g);have sp:j5a X.K X.mg C S (.ref o.a::ws) H1 (λ_ _=>False) (λC' _ H'=>C'=V/\j5 (del H1 [o.a]) (del H' [o.a])):=⟨o,ls,k,ds,z,V,ws,rfl,R1.tb,pc1.all,en,hS,hC,λH' g=>⟨rfl,g⟩⟩
 have hl:us.length=ps.length:=by rw[<-r.length];exact F.len _ _ _ _ sp
 have hb':=hb s1 us I1.kIn (by rw[Xq];exact hl);rw[Xq]at hb';refine gn (cJ (F.run X.A X.stack s1 H1 ⟨us,[]⟩ us _ _ _ hr I1.env0 hb' r sp) λr s' hq=>?_);cases r with
 |error ev =>obtain⟨e,C',H',rfl,os,bare,un,hok,fl,rfl,g'⟩:=hq;have I':Inv X pins I H' s':=I1.call' os un hok bare (λb z=>nomatch z);have bt:=But.ofDel g';refine q H' (R1.monoN (.but pc1.all.ob bt)) ((FrM.of0 (Fr0.grow g)).trans (.but bt)) pins H' s' e C' I' (j5.refl _) hC (FlQ.up fl (λ_ z=>.inl z) λb hb=>I1.old hb)
 |ok fl =>
  cases fl with
  |ret u=>obtain⟨_,_,_,_,_,_,_,z⟩:=hq;exact z.elim
  |next=>exact aW hq
  |brk=>exact aW hq
  |cont=>exact aW hq
def MSs.callSX{V:aj}(cl:CalMX X f C S)(m:MC X pi f es c)(hp:J[pi]?=aa (.raw o.a ob rfN))(ha:DTA X J es ds)(hS:S ls k ds z)(hC:X.mg z=aa V)
  (hN:X.N.Nodup) (hi:X.N[i]?=aa x) (hx:Loc X.env.scope x) (hs:aO c (aa (.Name x p)) pos.line X.env=g6 ae) (hf:X.fn x=af\/X.env.scope.names.lookup x=aa .local)
  (h2:P.ex z J):MSs X C o ls J k (.Assign [.Name x p] c pos::rest) P:=λI H E R pc q =>
 (z7 (Qx hN hi hx peS hs hf) vg).to (Wx cl m hp ha hS hC R pc λH' R' f=>q.ex z J I H' h2 R' f)
def MSs.retCX{V:aj}(cl:CalMX X f C S)(m:MC X pi f es c)(hp:J[pi]?=aa (.raw o.a ob rfN))(ha:DTA X J es ds)(hS:S ls k ds z)(hC:X.mg z=aa V)
  (h2:P.ex z J):MSs X C o ls J k (.Return (aa c) pos::rest) P:=λI H E R pc q =>
 (z7 (Qy peS) vg).to (Wx cl m hp ha hS hC R pc λH' R' f=>q.ex z J I H' h2 R' f)
def MSs.appCX{V:aj}(cl:CalMX X f C S)(m:MC X pi f es c)(hp:J[pi]?=aa (.raw o.a ob rfN))(ha:DTA X J es ds)(hS:S ls k ds z)(hC:X.mg z=aa V)
  (hk:J[i]?=aa (.own l acc)) (hN:X.N[i]?=aa x) (hv:Vis X.env.scope x) (hd:(x==k89)=ae) (hcd:(x==k8a)=ae)
  (hst:ah [c] X.env=[(ae,aD c X.env)]) (hline:(p1.endLine==p2.line)=af) (hbase:aY (.Name x p) "append" X.env (aD (.Name x p) X.env)=aD (.Name x p) X.env)
  (hfew:((aS p2 (ah [c] X.env)).all (λx=>!x.1)&&(bU p2 (bg [] X.env)).all (λx=>x.1.isSome)&&decide (([c]:List ar).length+([]:List bb).length+(if ([]:List bb).isEmpty then 0 else 1)<30))=af)
  (hs:aO (.Call (.Attribute (.Name x p) "append" p1) [c] [] p2) ag pos.line X.env=g6 ae)
  (h2:P.ex z J):MSs X C o ls J k (.Expr (.Call (.Attribute (.Name x p) "append" p1) [c] [] p2) pos::rest) P:=λI H E R pc q=>by
 obtain⟨hσ,xs,mm,en⟩:=R.own i l acc hk;refine(z7 (Vb (Uk cF cM dD Ul (qp hN hv hd hcd) (ji peS qe hst) hbase hfew hline hst rfl) hs) vg).to ?_;exact⟨_,hσ,.inl ⟨rfl,xs,.inl (.inl mm)⟩,Wx cl m hp ha hS hC R pc λH' R' f=>q.ex z J I H' h2 R' f⟩
end
section
variable{X:Cx}{C:ak}{o:Ob}{ls:List ao}{J ρ1:Rho}{H H1 H':Hp}{P:Pm}{E:Ends}{k k':Nat}{st:aU}{sa rest:List aU}{I:St}{pi i:Nat}{ob:cT}{x y f:ao}{p py pf p1 p2 p3 p4 pos:aR}{es:List ar}{ds:List D}{d:D}
def MSs.ifAll(T:PcX X C)(hp:J[pi]?=aa (.raw o.a ob rfN))(hpN:X.N[pi]?=aa y)(hv:Vis X.env.scope y)(hd:(y==k89)=ae)(hcd:(y==k8a)=ae)(mc:Qs X (.Name y py) "all_taken" p1 p2)
  (he:∀whole,fg (.Call (.Attribute (.Name y py) "all_taken" p1) [] [] p2) X.env whole=(do let v <-whole;gE (Expr.Call (.Attribute (.Name y py) "all_taken" p1) [] [] p2).pos;fh [v] (kE v)))
  (ha:¬ls.length<=k->MSs X C o ls J k sa { P with nx:=λ_ _=>False }) (hb:ls.length<=k->MSs X C o ls J k rest P):MSs X C o ls J k (.If (.UnaryOp .Not (.Call (.Attribute (.Name y py) "all_taken" p1) [] [] p2) p3) sa [] pos::rest) P:=λI H E R pc q=>by
 obtain⟨fA,fT,fL,fI,dA,dT,dL,dI,T,_,_,⟨GL,bL⟩,_,hr⟩:=T.ex;obtain⟨pl,ht⟩:=mc;refine(z7 (j0f (j7q (j7p (Ra (qp hpN hv hd hcd) T.cl T.mL GL (hr.mono (by decide)) bL .nil Vi ht) he)) vg vg) vg).to ?_;refine⟨_,(R.raw pi _ _ _ hp).1,o.a,o.dx,_,rfl,pc.all.ob,Dq _ _ (by decide +kernel) (by decide +kernel),o,ls,k,rfl,pc.all,_,rfl,?_⟩;by_cases z:ls.length<=k
 .rw[decide_eq_true z];exact Rm (Ym.to (hb z I H E R pc q))
 .rw[decide_eq_false z];exact Rj (ha z I H _ R pc ⟨λ_ _ _ _ n=>n.elim,q.rt,q.ex⟩)
def Rep.set_rf{K:k84}{a:ak}{o:cT}(R:Rep K J I H):Rep K (J.set i (.raw a o rfN)) (I.set i (aa (.ref a))) H:=by
 have sub:(owns (J.set i (.raw a o rfN))).Sublist (owns J):=j7 rfl;have g:j5 (del H (owns J)) (del H (owns (J.set i (.raw a o rfN)))):=zb λb hb=>sub.subset hb;refine⟨by simp[R.len],λj d' h=>?_,λj a ds h=>?_,sub.nodup R.nd,λj a' o' x' h=>?_,R.tb⟩
 .rcases getElem?_set_of h with ⟨rfl,z,hl⟩|⟨n,h⟩
  .cases z
  .obtain⟨u,q,h⟩:=R.val j d' h;exact⟨u,by rw[zq n];exact q,h.mono g⟩
 .rcases getElem?_set_of h with ⟨rfl,z,_⟩|⟨n,h⟩
  .cases z
  .obtain⟨q,xs,h,l⟩:=R.own j a ds h;exact⟨by rw[zq n];exact q,xs,h,l.mono g⟩
 .rcases getElem?_set_of h with ⟨rfl,z,hl⟩|⟨n,h⟩
  .cases z;exact⟨Zn (by rw[R.len];exact hl),.inl rfl⟩
  .obtain⟨q,h⟩:=R.raw j a' o' x' h;exact⟨by rw[zq n];exact q,h.mono g⟩
noncomputable def dOb:cT:={ cls:=.none }
def DSs.make{Q:Po}(T:PcX X C)(ht:DT X J te (.str t))(h1:t.length<=100000)(h2:(aC t " ").length<=au)(hg:Gl X "Pieces")(hst:ah [te] X.env=(ae,aD te X.env)::ah [] X.env)(hpl:(aS p2 (ah [] X.env)).any (·.1)=ae)
  (hN:X.N.Nodup) (hi:X.N[pi]?=aa y) (hx:Loc X.env.scope y) (hs:aO (.Call (.Name "Pieces" p1) [te] [] p2) (aa (.Name y py)) pos.line X.env=g6 ae) (hf:X.fn y=af\/X.env.scope.names.lookup y=aa .local)
  (h:∀o:Ob,MSs X C o (aC t " ") (J.set pi (.raw o.a dOb rfN)) 0 rest { nx:=λJ' _=>Q.nx J',rt:=λd _=>Q.rt (.val d),ex:=Q.ex }) :
  DSs X J (.Assign [.Name y py] (.Call (.Name "Pieces" p1) [te] [] p2) pos::rest) Q:=λI H E R q=>by
 obtain⟨fA,fT,fL,fI,dA,dT,dL,dI,T,_,_,_,⟨GI,bI⟩,hr⟩:=T.ex;refine(z7 (Qx hN hi hx (jes T.mkI GI (hr.mono (by decide)) hg T.mgC bI .nil Vi (ji peS qe hst) (by decide) hst hpl) hs hf) vg).to (ht I H _ R λv H1 g1 e1=>?_);rw[show v=.str t from e1];intro x dx nx ndx nex;refine⟨x,dx,t,rfl,jz,h1,h2,λb H' nb pc bt=>⟨rfl,?_⟩⟩;have s0:j5 H1 (upd (upd H1 dx (.own x)) x (.ins C dx [])):=λb o e=>by rw[jf (zf e nx),jf (zf e ndx)];exact e
 have s1:j5 H1 H':=λb o e=>bt b o (zf e nx) (s0 b o e);have R1:=R.grow (g1.trans s1);have sub:(owns (J.set pi (.raw x dOb rfN))).Sublist (owns J):=j7 rfl;have nin:∀c,H1 c=ag->c∉owns (J.set pi (.raw x dOb rfN)):=λc hc z=>(R.grow g1).fresh hc (sub.subset z);have nb1:H1 b=ag:=s0.free nb;have fr:Fr0 J (J.set pi (.raw x dOb rfN)) H H':=j5.trans (Fr0.grow (g1.trans s1)) (Fr0.drop λb hb=>sub.subset hb);refine h ⟨x,dx,b⟩ _ H' E R1.set_rf ⟨?_,?_⟩ ⟨λJ' k' σ' H2 n R' pc' f=>?_,λd k' v H2 n pc' g en=>?_,λz J' σ' H2 n R' f=>?_⟩
 .rw[jd (nin x nx)];exact pc.ob
 .rw[jd (nin b nb1)];exact pc.li
 .refine q.nx J' σ' H2 n R' λc u z=>?_;obtain⟨n1,z1⟩:=qb (fr c u z);have ncx:c≠x:=λe=>by obtain⟨_,y⟩:=qb z;rw[e,g1.free nx]at y;cases y
  obtain⟨n2,z2⟩:=qb (f c u (by rw[jd (by intro y;rcases xj.mp y with e|e;exact ncx e;exact n1 e)];exact z1));rw[jd λy=>n2 (kh _ y)];exact z2
 .refine q.rt _ v H2 n ⟨λc u z=>?_,en⟩;obtain⟨n1,z1⟩:=qb (fr c u z);have ncx:c≠x:=λe=>by obtain⟨_,y⟩:=qb z;rw[e,g1.free nx]at y;cases y
  exact(qb (g c u (by rw[jd (by intro y;rcases xj.mp y with e|e;exact ncx e;exact n1 e)];exact z1))).2
 .refine q.ex z J' σ' H2 n R' λc u z=>?_;obtain⟨n1,z1⟩:=qb (fr c u z);have ncx:c≠x:=λe=>by obtain⟨_,y⟩:=qb z;rw[e,g1.free nx]at y;cases y
  obtain⟨n2,z2⟩:=qb (f c u (by rw[jd (by intro y;rcases xj.mp y with e|e;exact ncx e;exact n1 e)];exact z1));rw[jd λy=>n2 (kh _ y)];exact z2
end
noncomputable def startM(N:List ao)(a:ak)(ds:List D):Rho:=(za N (.int 0::ds)).set 0 (.raw a dOb rfN)
def Dm{K:k84}(tb:TabOk K H)(h:j6 K H ds ws):Rep K (startM N a ds) (start N (.ref a::ws)) H :=
 (Ui (N:=N) tb (show j6 K H (.int 0::ds) (.int 0::ws) from⟨.int 0,ws,rfl,rfl,h⟩)).set_rf (i:=0) (a:=a) (o:=dOb)
def Bt(N:List ao)(a:ak)(ds:List D):owns (startM N a ds)=[]:=by have h:(owns (startM N a ds)).Sublist (owns (za N (.int 0::ds))):=j7 rfl;rw[Qz]at h;exact List.sublist_nil.mp h
section
variable{P:aA}{w:aH}{K:k84}{mg:k87}{base:aL}{x qual:ao}{st:aU}{f C:ak}{fd:aN}{N ps:List ao}{n:Nat}
def jqr(F:Fun K x qual st f fd)(Sc:FnScope N ps (j0 st))(hl:∀ls k ds d k',S ls k ds d k'->ds.length+1=ps.length)
  (hbody:∀(cdv:aj)(A:aI)(outer:List d8)(s:aq)(H:Hp)(E:XK),Im K f cdv->Room n (A.deeper (bM qual (j0 st) s.heap.objs.size f cdv))->∀o ls k ds d k',S ls k ds d k' ->
   MSs (qy CX0 P w K mg base N qual (j0 st) f cdv A outer s H E).nox C o ls (startM N o.a ds) k (jj st) { nx:=λ_ _=>False,rt:=λd2 k2=>d2=d/\k2=k',ex:=λ_ _=>False }):qw P w K mg base CX0 (n+1) f fd ps (spM K C S):=by
 refine qw.toM (F.okC Sc ?_ ?_)
 .rintro vs H Q E ⟨o,ls,k,ds,d,k',ws,e,tb,pc,en,hS,_⟩;rw[e,xn,en.length];exact hl ls k ds d k' hS
 rintro cdv A outer s H vs Q E hcv hr ⟨o,ls,k,ds,d,k',ws,e,tb,pc,en,hS,q⟩;refine⟨_,vg,?_⟩;subst e;have ho:=Bt N o.a ds;refine hbody cdv A outer s H E hcv hr o ls k ds d k' hS _ H _ (Dm tb en) (by rw[ho,J3];exact pc) ⟨λ_ _ _ _ z=>z.elim,λd2 k2 v H' ⟨e1,e2⟩ pc' g en'=>?_,λ_ _ _ _ z=>z.elim⟩;subst e1 e2;rw[ho]at g;exact q v H' pc' g en'
def jo5(F:Fun K x qual st f fd)(Sc:FnScope N ps (j0 st))(hl:∀ls k ds y,S ls k ds y->ds.length+1=ps.length)
  (hbody:∀(cdv:aj)(A:aI)(outer:List d8)(s:aq)(H:Hp)(E:XK),Im K f cdv->Room n (A.deeper (bM qual (j0 st) s.heap.objs.size f cdv))->∀o ls k ds y,S ls k ds y ->
   MSs (qy (CX1 P w) P w K mg base N qual (j0 st) f cdv A outer s H E) C o ls (startM N o.a ds) k (jj st) { nx:=λ_ _=>False,rt:=λ_ _=>False,ex:=λz _=>z=y }):qw P w K mg base (CX1 P w) (n+1) f fd ps (j5a K mg C S):=by
 obtain⟨oc,od,dV,kV,doc,pm,an,cdv,ct,osl,rfl,lk,hcd⟩:=F.ex;refine j0n lk hcd Sc ?_ ?_
 .rintro vs H Q E ⟨o,ls,k,ds,y,V,ws,e,tb,pc,en,hS,_⟩;rw[e,xn,en.length];exact hl ls k ds y hS
 rintro A outer s H vs Q E hr ⟨o,ls,k,ds,y,V,ws,e,tb,pc,en,hS,hC,hE⟩;refine⟨_,vg,?_⟩;subst e;have ho:=Bt N o.a ds;refine hbody cdv A outer s H E ⟨oc,od,_,osl,lk,rfl⟩ hr o ls k ds y hS _ H _ (Dm tb en) (by rw[ho,J3];exact pc) ⟨λ_ _ _ _ z=>z.elim,λ_ _ _ _ z=>z.elim,λz J' σ' H' n R g=>?_⟩;cases(show z=y from n);intro pins H2 s' e C' nI g2 hC' Fe;cases hC.symm.trans hC';unfold FrM at g;rw[ho]at g;refine Ed nI Fe (hE H2 λb u z=>?_);obtain⟨nb,z⟩:=qb z;obtain⟨_,z1⟩:=qb (g b u (by rw[jd nb];exact z));rw[jd nb];exact g2 b u z1
end
section
variable{X:Cx}{J:Rho}{a:ar}{p p1 p2 pos:aR}
theorem ints_of:∀(ns:zo)(its:List aj),Vals (ns.map V.int) its->ib its ns
 |[],_,.nil=>.nil
 |_::ns,_,.cons ⟨_,e⟩ t=>by subst e;exact .cons _ _ (ints_of ns _ t)
noncomputable def ddI(ns:zo):zo:=firstMet (λi=>ns.getD i 0) ns.length
def DE.lenSetI{ns:zo}(ha:DT X J a (.lst (ns.map D.int)))(hc:X.calm=af)(room:ns.length+1<4096)(hm:X.mg "len"=ag)(hm2:X.mg "set"=ag)(hg:Gl X "len")(hg2:Gl X "set")(hs:ah [a] X.env=[(ae,aD a X.env)])
  (hs2:ah [.Call (.Name "set" p1) [a] [] p2] X.env=[(ae,aD (.Call (.Name "set" p1) [a] [] p2) X.env)]):DE X J (.Call (.Name "len" p) [.Call (.Name "set" p1) [a] [] p2] [] pos) (.int (ddI ns).length):=λI H Q R q pins s nI=>by
 have inner:ay (aB X.prog X.w) X.A (aD (.Call (.Name "set" p1) [a] [] p2) X.env) (λu s2=>∃(S:ak)(H1:Hp),u=.ref S/\Inv X pins I H1 s2/\j5 H H1/\s2.heap.SetOf (intKind X.prog X.w) S (λk'=>(ddI ns).any (· == k')) (ddI ns).length) X.xe s:=by
  refine b9 (Qf nI hg2 hm2 boot_set ?_);refine callWith_type1 (thn ((ji (es:=[]) peS qe hs).to (I:=I) (H:=H) (Q:=λvs H1=>∃(l:ak)(xs:List V),vs=[.ref l]/\j5 H H1/\SqL X.K H1 l xs/\j6 X.K H1 (ns.map D.int) xs) (ha I H _ R λv H1 g ⟨l,xs,e,sq,en⟩=>⟨l,xs,by rw[e],g,sq,en⟩) p2 pins s nI) λus s1 ⟨vs,H1,I1,r,l,xs,ev,g,sq,en⟩=>?_) hs rfl;subst ev;obtain⟨u,eu,r1⟩:=vals1 r;subst eu;cases(show u=aQ l from r1);obtain⟨its,rv,pl,_⟩:=I1.list sq;rw[Ye en]at rv;have hlen:its.toArray.size=ns.length:=by rw[Xb,<-rv.length,xm]
  refine Jc (.inl I1.tk) <| call_set_list (ns:=ns) (I1.ok.hd hc) pl.isList ?_ (by rw[hlen];show ns.length+1<4096;exact room) λh' tk full old (ht:0<tk)=>?_
  .exact ints_of ns its rv
  .rw[hlen]at full;exact⟨_,H1,rfl,I1.kept (t':=tk) λb o e=>old b o (X4 e) e,g,full⟩
 refine b9 (Qf nI hg hm cP ?_);refine i0 (by rw[hs2];rfl) (eQ ?_);show ay _ _ (ia ((ae,aD _ X.env)::aS pos [])) _ _ s;refine dn (thn inner λu s2 h2=>fB ?_);obtain⟨S,H1,rfl,I2,g,⟨o,es,ep,t,ho,hex,hd,hel,hmem,hb,hf,hn⟩⟩:=h2;refine call_len_set ho hex hd hf ?_ ?_
 .have:es.size<4096:=hb;omega
 .rw[hn];exact⟨.int _,H1,I2.tok _,⟨_,rfl⟩,q _ H1 g rfl⟩
def DO.callT(c:Cal X x (spF X.K S))(ha:DTA X J (e::es) ds)(hS:S ds l)(hn:zc l=af)(hg:Gl X x)(hdb:(x==k89)=ae)
  (he:ah (e::es) X.env=(ae,aD e X.env)::ah es X.env) (hpl:(aS pos (ah es X.env)).any (·.1)=ae):DO X J (.Call (.Name x p) (e::es) [] pos) l:=λI H Q R q=>by
 obtain⟨k,f,fd,ps,F,hr,hm,hk,hb,_⟩:=c.ex;refine(We F (hr.mono nofun) hg hm hk hb .nil Vi paS hdb he hpl).to (ha I H _ R λvs H1 g1 e1=>?_);show spF X.K S (vs++[]) H1 Q E0;rw[Xq];exact⟨[],ds,l,R.tb.mono g1,(λa h=>nomatch h),by rw[J3];exact e1,hS,λa xs H2 g2 n m z=>q a xs H2 (g1.trans g2) (g1.free n) m ((z.mono jr).hide (λc hc=>by
  rcases xj.mp hc with z|z
  .rw[z];exact .inl ⟨xs,m⟩
  .exact .inl ((R.grow (g1.trans g2)).owned c z)) hn)⟩
end
section
variable{X:Cx}{J:Rho}{a:ar}{p p1 p2 p3 pos:aR}{y:ao}{i n:Int}
def j0b:Qc X (.type "int") (λxs H Q=>∃y n,xs=[.str y]/\cq y=aa n/\y.length<=640/\Q (.int n) H):=by intro pins s I H xs us Q nI r h;obtain⟨y,n,rfl,hn,hl,q⟩:=h;obtain⟨u,rfl,t,rfl⟩:=vals1 r;exact PySem.W.KIN.call_text hn hl ⟨.int n,H,nI.tok _,⟨_,rfl⟩,q⟩
def DE.intS(ha:DT X J a (.str y))(hn:cq y=aa n)(hl:y.length<=640)(hm:X.mg "int"=ag)(hg:Gl X "int")(hs:ah [a] X.env=[(ae,aD a X.env)]):DE X J (.Call (.Name "int" p) [a] [] pos) (.int n):=λI H Q R q =>(Vr j0b hg hm boot_int (ji peS qe hs) (by decide) (by decide) hs).to (ha I H _ R λv H1 g1 e1=>⟨y,n,by rw[show v=.str y from e1],hn,hl,q _ H1 g1 rfl⟩)
def DE.strI(ha:DT X J a (.int i))(hi:i.natAbs.log2<1920)(hm:X.mg "str"=ag)(hg:Gl X "str")(hs:ah [a] X.env=[(ae,aD a X.env)]):DE X J (.Call (.Name "str" p) [a] [] pos) (.str (toString i)):=λI H Q R q =>(Vr j2y hg hm boot_str (ji peS qe hs) (by decide) (by decide) hs).to (ha I H _ R λv H1 g1 e1=>⟨i,by rw[show v=.int i from e1],hi,q _ H1 g1 rfl⟩)
theorem j6.strs{K:k84}:∀ns:List ao,j6 K H (ns.map D.str) (ns.map V.str)
 |[]=>rfl
 |_::ns=>⟨_,_,rfl,rfl,j6.strs ns⟩
theorem DO.split(ha:DT X J a (.str y))(h1:y.length<=100000)(h2:(aC y " ").length<=au)(hs:ah [.Constant (.str " ") k p3] X.env=(ae,aD (.Constant (.str " ") k p3) X.env)::ah [] X.env)(hbase:aY a "split" X.env (aD a X.env)=aD a X.env)(hfew:((aS p2 (ah [.Constant (.str " ") k p3] X.env)).all (λx=>!x.1)&&(bU p2 (bg [] X.env)).all (λx=>x.1.isSome)&&decide (([.Constant (.str " ") k p3]:List ar).length+([]:List bb).length+(if ([]:List bb).isEmpty then 0 else 1)<30))=af)(hline:(p1.endLine==p2.line)=af) :
  DO X J (.Call (.Attribute a "split" p1) [.Constant (.str " ") k p3] [] p2) ((aC y " ").map D.str):=λI H Q R q =>
 (Uk cN cH gU j1v peS (ji Wd qe hs) hbase hfew hline).to (ha I H _ R λv H1 g1 e1=>by
  subst e1
  refine⟨rfl,y,rfl,rfl,h1,h2,λb hb=>?_⟩
  refine q b _ _ (λc o z=>?_) (g1.free hb) jz (j6.strs _)
  rw[jf (zf (g1 c o z) hb)]
  exact g1 c o z)
end
section
variable{prog:aA}{w:aH}{A:aI}{E:k85}{s:aq}
theorem Ek(hne:t≠it):∀(n i:Nat)(s:aq)(Q:List aj->aq->Prop),s.heap.IsListIter it t i->s.heap.IsList t items->i+n<=items.size ->
  (∀h',h'.IsListIter it t (i+n)->cu it s.heap h'->Q ((items.toList.drop i).take n) { s with heap:=h' })->ay (aB prog w) A (gr (.ref it) n) Q E s
 |0,i,s,Q,hit,_,_,hQ=>by show ay _ _ (pure []) Q E s;exact az (by simpa using hQ s.heap hit (gT ..))
 |n+1,i,s,Q,hit,ht,hle,hQ=>by
  have hlt:i<items.size:=by omega
  show ay _ _ (eG (.ref it) >>= _) Q E s;refine ai (jC hit ht (x:=items[i]) (by simp[hlt]) λh₁ hit₁ hs₁=>?_);refine ai (bD (Ek hne n (i+1) _ _ hit₁ (ht.extBut hs₁.extBut hne) nofun λh₂ hit₂ hs₂=>az ?_));have hd:items.toList.drop i=items[i]::items.toList.drop (i+1):=by simp[dH,hlt]
  have:=hQ h₂ (by rw[show i+(n+1)=i+1+n by omega];exact hit₂) (hs₁.trans hs₂);rw[hd,List.take_succ_cons]at this;exact this
def Nf(hh:A.handled=ag)(ht:s.heap.IsList t items)
  (hQ:∀h',dJ s.heap.objs.size s.heap h'->Q items.toList { s with heap:=h' }):ay (aB prog w) A (unpackItems (.ref t) items.size ag) Q E s:=by
 have hlt:t≠s.heap.objs.size:=by obtain⟨o,ho,_⟩:=ht;exact Xi (X4 ho)
 unfold unpackItems;refine ai ?_;unfold notIterableAtAll;refine ai (wpAny_specialOf ht.typeIs slot_list_iter.lookup ?_);refine az ?_;simp only[Py,if_false];refine ai (bD (cX ht ?_));refine ai (bD (Ek hlt items.size 0 _ _ ⟨_,X7 _ rfl,rfl,rfl⟩ (ht.push _) nofun λh₁ hit₁ hs₁=>?_));have hall:List.take items.size (List.drop 0 items.toList)=items.toList:=by rw[T8];exact Tf (by simp)
 rw[hall];rw[if_neg (by simp)];have ht₁:h₁.IsList t items:=(ht.push _).extBut hs₁.extBut hlt;refine ai (bD (jM hh hit₁ ht₁ (by simp) λh₂ he₂=>?_));simp only[Option.isSome_none,Py,if_false];exact az (hQ h₂ λb o hb e=>he₂ b o hb (hs₁.extBut b o hb (kj _ e)))
def j3p(hh:A.handled=ag)(ht:s.heap.IsList t items)
  (hn:(bp elts env).length=items.size) (hstar:(bp elts env).findIdx? (·.1)=ag)
  (h:∀h',dJ s.heap.objs.size s.heap h'->ay (aB prog w) A (nF ((bp elts env).map (·.2)) items.toList) Q E { s with heap:=h' }) :
  ay (aB prog w) A (eJ (.Tuple elts x1 pos) env (.ref t)) Q E s:=by
 rw[arm_assign_Tuple];refine ai (fX ?_);unfold unpack;rw[hn,hstar];exact ai (bD (Nf hh ht h))
end
section
variable{X:Cx}{J:Rho}{p1 p2 p3 q1 pos:aR}{n:Nat}
def jqq(K:k84)(n:Nat)(t:TGs):TG:=λv I H Q=>∃a xs,v=.ref a/\SqL K H a xs/\xs.length=n/\t xs I H Q
def j7u(hc:X.calm=af)(h:PGs X es t)
  (hn:(bp es X.env).length=n:=by rfl) (hst:(bp es X.env).findIdx? (·.1)=ag:=by rfl):PG X (.Tuple es k pos) (jqq X.K n t):=by
 intro pins s I H v u Q nI r hw;obtain⟨a,xs,e1,hq,hl,hw⟩:=hw;subst e1;cases r;obtain⟨its,rv,⟨o,m,ho,hoc,_,hod⟩,hz⟩:=nI.list hq;refine j3p (nI.ok.hd hc) ⟨o,ho,hoc,m,hod⟩ (by simp[hn,<-hl,rv.length]) hst λh' hx=>?_;have I1:Inv X pins I H { s with heap:=h' }:=nI.kept (t':=s.toks) λb o e=>hx b o (Xi (X4 e)) e;exact h pins _ I H xs _ Q I1 (by simpa using rv) hw
def DS.unp3{P:Po}(he:DE X J e (.lst [d,d',d'']))(h:P.nx (((J.set i (.val d)).set j (.val d')).set k (.val d'')))(hc:X.calm=af)(hN:X.N.Nodup)(hi:X.N[i]?=aa x)(hj:X.N[j]?=aa y)(hk:X.N[k]?=aa z)
  (hx:Loc X.env.scope x) (hy:Loc X.env.scope y) (hz:Loc X.env.scope z)
  (fx:X.fn x=af\/X.env.scope.names.lookup x=aa .local) (fy:X.fn y=af\/X.env.scope.names.lookup y=aa .local) (fz:X.fn z=af\/X.env.scope.names.lookup z=aa .local)
  (hs:dh [.Tuple [.Name x p1,.Name y p2,.Name z p3] n q1] e pos.line X.env=pure ae) (hw:di [.Tuple [.Name x p1,.Name y p2,.Name z p3] n q1] e X.env=pure ag) :
  DS X J (.Assign [.Tuple [.Name x p1,.Name y p2,.Name z p3] n q1] e pos) P:=λI H E R q=>by
 refine(j1j peS pgS hs hw).to (he I H _ R λv H1 g1 e1=>?_);obtain⟨t,xs,ev,sq,u,r,e,eu,u',r',e',eu',u'',r'',e'',eu'',er⟩:=e1;subst e e' e'' ev er;have R0:=R.grow g1;refine(j7u hc (Z9 (Zf hN hi hx fx) (Z9 (Zf hN hj hy fy) (Z9 (Zf hN hk hz fz) K9 rfl) rfl) rfl) rfl rfl).to ⟨t,[u,u',u''],rfl,jr.seq sq,rfl,u,[u',u''],rfl,u',[u''],rfl,u'',[],rfl,rfl,?_⟩;have R1:Rep X.K (J.set i (.val d)) (I.set i (aa u)) H1:=R0.set_val eu;have R2:Rep X.K ((J.set i (.val d)).set j (.val d')) ((I.set i (aa u)).set j (aa u')) H1:=R1.set_val (eu'.mono (zb λb hb=>(j7 rfl).subset hb));have R3:=R2.set_val (i:=k) (eu''.mono (zb λb hb=>(j7 rfl).subset ((j7 rfl).subset hb)));exact q.nx _ _ H1 h R3 (j5.trans (Fr0.grow g1) (Fr0.drop λb hb=>(j7 rfl).subset ((j7 rfl).subset ((j7 rfl).subset hb))))
end
end L2
end
section
namespace L2
open PySem PySem.Spec PyProof.Rows Builtin Builtin.Str
def j64(y z:ao)(h:u≠0):isSame (.str y u) (.str z u)=pure af:=by show(if (u==0 || u==0)=af then _ else if (u==u)=af then pure af else _:iL Bool)=_;rw[if_neg (by simp[h]),if_pos (by simp)]
def j8t(x y z:ao)(t:iD)(h:u≠0):Gives («str.replace» ⟨[.str x t,.str y u,.str z u],[]⟩) (.val (.str x t)):=by
 show Gives (if ((occurrences x y 0 x.length (x.length+1)).isEmpty || (y.length==0&&z.length==0))=af then(do jV "str.replace.nothing";ret (.str x t)) else
     (do let same <-isSame (.str y u) (.str z u);if same=af then(do jV "str.replace.old-is-new";ret (.str x t))else if tooLong (x.length+(occurrences x y 0 x.length (x.length+1)).length*z.length)=af then unsupported "str.replace:memory" else retStr (glued z (partsBetween x (occurrences x y 0 x.length (x.length+1)) y.length)))) _
 cases hc:((occurrences x y 0 x.length (x.length+1)).isEmpty || (y.length==0&&z.length==0))
 .rw[j64 y z h];exact .rule (.of_eq rfl)
 .exact .rule (.of_eq rfl)
section
variable{X:Cx}{J:Rho}{a b c:ar}{p1 p2 p3 q1 pos:aR}{n:Nat}{y z:ao}{S:List ao}
def j5w:MtR X "str.replace" (λx vs H Q=>∃z a b,x=.str z/\vs=[.str a,.str b]/\(a==b)=ae/\z.length+(z.length+1)*b.length<=16777216/\Q (.str z) H/\Q (.str (ba z a b)) H):=by
 rintro pins s I H x vs v us Q nI rx rv ⟨z,a,b,e,e',hab,hb,q1,q2⟩;subst e e';obtain⟨t,rfl⟩:=(show ∃t:{t:Nat // t≠0},v=bC z t.1 from rx)
 obtain⟨u1,u2,eu,r1,r2⟩:=vals2 rv;subst eu;obtain⟨t1,rfl⟩:=(show ∃t:{t:Nat // t≠0},u1=bC a t.1 from r1)
 obtain⟨t2,rfl⟩:=(show ∃t:{t:Nat // t≠0},u2=bC b t.1 from r2)
 by_cases h:t1.1=t2.1
 .rw[h];exact call_gives f9 (cE _ _ _) jK (jA _ _ _) (j8t z a b t.1 t2.2) (show EP X pins I Q _ s from⟨.str z,H,nI,⟨t,rfl⟩,q1⟩)
 .have hl:tooLong (z.length+(occurrences z a 0 z.length (z.length+1)).length*b.length)=ae:=by have h1:=StrLaws.occ_length_le z a 0 z.length (z.length+1);have h2:(occurrences z a 0 z.length (z.length+1)).length*b.length<=(z.length+1)*b.length:=iM _ h1;unfold tooLong;rw[bN];exact decide_eq_false nofun
  refine call_gives f9 (cE _ _ _) jK (jA _ _ _) (gives_str_replace z a b t.1 t1.1 t2.1 λ_=>⟨by simp[t1.2,t2.2],by simpa using h,hab,hl⟩) ?_;unfold ba at q2;cases hc:((occurrences z a 0 z.length (z.length+1)).isEmpty || (a.length==0&&b.length==0))
  .rw[hc]at q2;simp only[Py,if_false]at q2 ⊢;exact⟨fits_replaced a hb,⟨.str _,H,nI.tok _,⟨⟨_,Xu nI.tk⟩,rfl⟩,q2⟩⟩
  .simp only[if_true];exact⟨.str z,H,nI,⟨t,rfl⟩,q1⟩
theorem DT.any(h:DT X J a (.str y)):DT X J a (.any [y]):=λI H Q R q=>h I H Q R λv H' g e=>q v H' g ⟨y,xu.mpr rfl,e⟩
noncomputable def Us(o n:ao)(S:List ao):List ao:=S++S.map λt=>ba t o n
def DE.repl{o n:ao}(ha:DT X J a (.any S))(hb:DT X J b (.str o))(hc:DT X J c (.str n))(hon:(o==n)=ae)(hS:∀t∈S,t.length+(t.length+1)*n.length<=16777216)(hs:ah [b,c] X.env=(ae,aD b X.env)::ah [c] X.env)(hs2:ah [c] X.env=(ae,aD c X.env)::ah [] X.env)(hbase:aY a "replace" X.env (aD a X.env)=aD a X.env)
  (hfew:((aS p2 (ah [b,c] X.env)).all (λx=>!x.1)&&(bU p2 (bg [] X.env)).all (λx=>x.1.isSome)&&decide (([b,c]:List ar).length+([]:List bb).length+(if ([]:List bb).isEmpty then 0 else 1)<30))=af) (hline:(p1.endLine==p2.line)=af)
  (hpl:(aS p2 (ah [c] X.env)).any (·.1)=ae):DE X J (.Call (.Attribute a "replace" p1) [b,c] [] p2) (.any (Us o n S)):=λI H Q R q =>
 (Uk cN f9 PySem.F.type_str_replace j5w peS (ji peS (ji peS qe hs2) hs) hbase hfew hline hs hpl).to (ha I H _ R λv H1 g1 e1=>by
  obtain⟨t,ht,e1⟩:=e1
  subst e1
  refine⟨rfl,hb I H1 _ (R.grow g1) λv2 H2 g2 e2=>hc I H2 _ ((R.grow g1).grow g2) λv3 H3 g3 e3=>?_⟩
  cases e2;cases e3
  exact⟨t,o,n,rfl,rfl,hon,hS t ht,q _ H3 ((g1.trans g2).trans g3) ⟨t,Pu _ ht,rfl⟩,q _ H3 ((g1.trans g2).trans g3) ⟨_,Xj _ (df ht),rfl⟩⟩)
def DE.addA(ha:DT X J a (.str y))(hb:DT X J b (.any S))(hl:∀t∈S,y.length+t.length<=au):DE X J (.BinOp a .Add b pos) (.any (S.map λt=>y++t)):=λI H Q R q =>
 (Zr Rg peS peS).to (ha I H _ R λv H1 g1 e1=>hb I H1 _ (R.grow g1) λu H2 g2 e2=>by
  obtain⟨t,ht,e2⟩:=e2
  exact⟨y,t,e1,e2,hl t ht,q _ H2 (g1.trans g2) ⟨_,df ht,rfl⟩⟩)
def DE.addB(ha:DT X J a (.any S))(hb:DT X J b (.str z))(hl:∀t∈S,t.length+z.length<=au):DE X J (.BinOp a .Add b pos) (.any (S.map λt=>t++z)):=λI H Q R q =>
 (Zr Rg peS peS).to (ha I H _ R λv H1 g1 e1=>hb I H1 _ (R.grow g1) λu H2 g2 e2=>by
  obtain⟨t,ht,e1⟩:=e1
  exact⟨t,z,e1,e2,hl t ht,q _ H2 (g1.trans g2) ⟨_,df ht,rfl⟩⟩)
def Rep.pick{K:k84}(R:Rep K J I H)(h:J[i]?=aa (.val (.any S))):∃t∈S,Rep K (J.set i (.val (.str t))) I H:=by
 obtain⟨v,hv,t,ht,e⟩:=R.val i _ h;refine⟨t,ht,?_⟩;have:=R.set_val (i:=i) (d:=.str t) (v:=v) e;have es:I.set i (aa v)=I:=by obtain⟨h1,h2⟩:=Xl.mp hv;rw[<-h2];exact iw h1
 rwa [es]at this
theorem DSs.pick(h:J[i]?=aa (.val (.any S)))(hb:∀t∈S,DSs X (J.set i (.val (.str t))) sts P):DSs X J sts P:=λI H E R q=>by obtain⟨t,ht,R'⟩:=R.pick h;refine hb t ht I H E R' (q.step ?_);exact Fr0.drop λb hb=>(j7 rfl).subset hb
def DS.unp2{P:Po}(he:DE X J e (.lst [d,d']))(h:P.nx ((J.set i (.val d)).set j (.val d')))(hc:X.calm=af)(hN:X.N.Nodup)(hi:X.N[i]?=aa x)(hj:X.N[j]?=aa y)
  (hx:Loc X.env.scope x) (hy:Loc X.env.scope y)
  (fx:X.fn x=af\/X.env.scope.names.lookup x=aa .local) (fy:X.fn y=af\/X.env.scope.names.lookup y=aa .local)
  (hs:dh [.Tuple [.Name x p1,.Name y p2] n q1] e pos.line X.env=pure ae) (hw:di [.Tuple [.Name x p1,.Name y p2] n q1] e X.env=pure ag) :
  DS X J (.Assign [.Tuple [.Name x p1,.Name y p2] n q1] e pos) P:=λI H E R q=>by
 refine(j1j peS pgS hs hw).to (he I H _ R λv H1 g1 e1=>?_);obtain⟨t,xs,ev,sq,u,r,e,eu,u',r',e',eu',er⟩:=e1;subst e e' ev er;have R0:=R.grow g1;refine(j7u hc (Z9 (Zf hN hi hx fx) (Z9 (Zf hN hj hy fy) K9 rfl) rfl) rfl rfl).to ⟨t,[u,u'],rfl,jr.seq sq,rfl,u,[u'],rfl,u',[],rfl,rfl,?_⟩;have R1:Rep X.K (J.set i (.val d)) (I.set i (aa u)) H1:=R0.set_val eu;have R2:=R1.set_val (i:=j) (eu'.mono (zb λb hb=>(j7 rfl).subset hb));exact q.nx _ _ H1 h R2 (j5.trans (Fr0.grow g1) (Fr0.drop λb hb=>(j7 rfl).subset ((j7 rfl).subset hb)))
end
end L2
end
section
namespace L2
open PySem PySem.Spec PyProof.Rows
mutual
noncomputable def flt:D->Bool
 |.non=>af
 |.bl _=>af
 |.int _=>af
 |.str _=>af
 |.tup l=>jjm l
 |_=>ae
noncomputable def jjm:List D->Bool
 |[]=>af
 |d::l=>flt d&&jjm l
end
def NmT(X:Cx):List ao->List ar->Prop
 |[],es=>es=[]
 |c::cs,es=>∃p r,es=.Name c p::r/\c∈qg/\(c==("ValueError":ao))=ae/\Gl X c/\(c==k89)=ae/\ah (.Name c p::r) X.env=(ae,aD (.Name c p) X.env)::ah r X.env/\NmT X cs r
def ClL(X:Cx)(C:ak)(x:ao):List ao->List ak->Prop
 |[],Cs=>Cs=[]
 |c::cs,Cs=>∃D r,Cs=D::r/\X.mg c=aa (.ref D)/\W.kitOne X.K (.ref C) (.ref D)=aa (x==c)/\ClL X C x cs r
section
variable{X:Cx}{J:Rho}{i:Nat}{a:ak}{o:cT}{x y:ao}{p p1 p4 pos:aR}{m:Nat}
theorem jij:∀{cs:List ao}{es:List ar}{Cs:List ak},NmT X cs es->ClL X C x cs Cs->∀{I:St}{H:Hp}{Q:List V->Hp->Prop},Q (Cs.map V.ref) H->Wy X es I H Q
 |[],_,_,e,e2,I,H,Q,q=>by cases e;cases e2;exact qe.to q
 |c::cs,_,_,⟨p,r,e,h1,h2,h3,h4,h5,h6⟩,⟨D,rs,e2,g1,g2,g3⟩,I,H,Q,q=>by subst e e2;exact(ji (Ka (v:=.ref D) h3 g1 rfl h4) paS h5).to (jij h6 g3 q)
theorem j86:∀{cs:List ao}{Cs:List ak},ClL X C x cs Cs->W.kitAny X.K (.ref C) (Cs.map aQ)=aa (cs.any λc=>x==c)
 |[],_,e=>by cases e;rfl
 |c::cs,_,⟨D,rs,e,g1,g2,g3⟩=>by
  subst e;rw[X5];unfold W.kitAny;rw[g2,Tw];cases(x==c)
  .exact j86 g3
  .rfl
theorem jcv(ha:Q8 X.K=af)(F:ExOne X.K x C)(hv:∀c∈qg,∃v,W.nsIn X.K aw c=aa (aa v)/\X.mg c=aa v):∀{cs:List ao}{es:List ar},NmT X cs es->∃Cs,ClL X C x cs Cs/\Cs.length=cs.length
 |[],_,_=>⟨[],rfl,rfl⟩
 |c::cs,_,⟨p,r,e,h1,h2,h3,h4,h5,h6⟩=>by obtain⟨Cs,g,hl⟩:=jcv ha F hv h6;obtain⟨v,n,mg⟩:=hv c h1;obtain⟨D,rfl,_⟩:=U6 ha h1 n;exact⟨D::Cs,⟨D,Cs,rfl,mg,F.one c h1 _ n,g⟩,by rw[xn,xn,hl]⟩
theorem j88:∀{cs:List ao}{es:List ar},NmT X cs es->(cs.any λc=>c == "ValueError" || x==c)=cs.any λc=>x==c
 |[],_,_=>rfl
 |c::cs,_,⟨p,r,e,h1,h2,h3,h4,h5,h6⟩=>by rw[Tw,Tw,h2,hZ,j88 h6]
theorem Ir:∀{Cs:List ak}{us:List aj},Vals (Cs.map V.ref) us->us=Cs.map aQ
 |[],_,h=>by cases h;rfl
 |C::Cs,_,h=>by
  cases h with
  |cons r h=>cases(show _=aQ C from r);rw[Ir h];rfl
def j9l:Qc X (.builtin "isinstance") (λxs H Q=>∃(a t:ak)(o:cT)(C:ak)(Cs:List ak)(b:Bool),xs=[.ref a,.ref t]/\H a=aa (.frz o (.own a))/\o.cls=.ref C/\XcOk X.K C/\SqT X.K H t (Cs.map V.ref)/\W.kitAny X.K (.ref C) (Cs.map aQ)=aa b/\Q (.bl b) H):=by rintro pins s I H xs us Q nI r ⟨a,t,o,C,Cs,b,e,ha,hc,hk,sq,kk,q⟩;subst e;obtain⟨u1,u2,eu,r1,r2⟩:=vals2 r;subst eu;cases(show u1=aQ a from r1);cases(show u2=aQ t from r2);obtain⟨its,rv,⟨⟨cl,dd,da,sl⟩,h1,h2,n,h3⟩,_⟩:=nI.tuple sq;have h2:cl=.type "tuple":=h2;have h3:da=.seq its.toArray n:=h3;subst h2 h3;have ei:=Ir rv;subst ei;exact Jc (.inl nI.tk) <| W.kia_tup (j21 hk) nI.kIn ⟨(nI.hok a _ ha).1,hc⟩ h1 kk (λz=>nomatch z) λtk (ht:0<tk)=>⟨.bl b,H,nI.tok tk,rfl,q⟩
def DE.isxN(ha:Q8 X.K=af)(hx:x∈qg)(h:J[i]?=aa (.raw a o x))(hm:X.mg "isinstance"=ag)(hv:∀c∈qg,∃v,W.nsIn X.K aw c=aa (aa v)/\X.mg c=aa v)(hcs:NmT X cs es)(hl:cs.length<=20)
  (hN:X.N[i]?=aa y) (hvi:Vis X.env.scope y) (hd:(y==k89)=ae) (hcd:(y==k8a)=ae) (hg:Gl X "isinstance") (hs:ah [.Name y p1,.Tuple es m p4] X.env=(ae,aD (.Name y p1) X.env)::ah [.Tuple es m p4] X.env)
  (hs2:ah [.Tuple es m p4] X.env=(ae,aD (.Tuple es m p4) X.env)::ah [] X.env) (hpl:(aS pos (ah [.Tuple es m p4] X.env)).any (·.1)=ae) :
  DE X J (.Call (.Name "isinstance" p) [.Name y p1,.Tuple es m p4] [] pos) (.bl (cs.any λc=>x==c)):=λI H Q R q=>by
 obtain⟨q1,q2,C,e,F⟩:=j1h ha hx R h;obtain⟨Cs,hC,hlen⟩:=jcv ha F hv hcs;refine(J9 j9l hg hm i5 (ji (qp hN hvi hd hcd) (ji (j7v paS) qe hs2) hs) (by decide) (by decide) hs hpl).to ⟨.ref a,q1,jij hcs hC ⟨?_,λt ht=>?_⟩⟩
 .rw[xm,hlen,bN];omega
 .exact⟨a,t,o,C,Cs,_,rfl,by rw[jf (λz=>by rw[z,ht]at q2;cases q2)];exact q2,e,F.ok,.inl (.inl jz),j86 hC,q _ _ (je ht) rfl⟩
end
end L2
end
section
namespace L2
noncomputable def step(acc:List zo)(f:zo):List zo:=acc.flatMap λa=>f.map λx=>a++[x]
noncomputable def v8(fs:List zo):List zo:=fs.foldl step [[]]
noncomputable def Wz:List zo->List zo
 |[]=>[[]]
 |f::fs=>f.flatMap λx=>(Wz fs).map (x :: ·)
theorem Cm:∀(fs:List zo) (acc:List zo),fs.foldl step acc=acc.flatMap λa=>(Wz fs).map (a ++ ·)
 |[],acc=>by simp[Wz]
 |f::fs,acc=>by
  rw[cK,Cm fs,step,List.flatMap_assoc];congr 1
  funext a
  rw[Wz,List.map_flatMap,List.flatMap_map];congr 1
  funext x
  rw[Xe];congr 1
  funext r
  simp
def j6f(fs:List zo):v8 fs=Wz fs:=by rw[v8,Cm];simp
noncomputable def Z3:Nat->List zo
 |0=>[[]]
 |m+1=>(Z3 m).map (0 :: ·)++(Z3 m).map (1 :: ·)
theorem Mq:∀m,(Z3 m).length=2^m
 |0=>rfl
 |m+1=>by rw[Z3,X6,xm,xm,Mq m,ir];omega
theorem j2h(hb:0<b)(n c:Int):∀{i m:Nat},i<=m->Jt b i (n+b^m*c)=Jt b i n
 |0,m,_=>rfl
 |i+1,m,h=>by
  rw[Jt,Jt,j2h hb n c nofun];congr 1;obtain⟨k,rfl⟩:∃k,m=i+(k+1):=⟨m-i-1,by omega⟩
  have hp:b^i≠0:=ma (mU hb);rw[Int.pow_add,lh,iG _ _ hp,Int.pow_succ,Int.mul_comm (b^k) b,lh,Int.add_mul_emod_self_left]
theorem j1g:∀m:Nat,(aZ (2^m)).map (λn=>Jt 2 m ((n:Nat):Int))=Z3 m
 |0=>rfl
 |m+1=>by
  have e:2^(m+1)=2^m+2^m:=by rw[ir];omega
  rw[e,List.range_add,ph,Z3,<-j1g m,Xe,Xe,Xe];have pc:((2^m:Nat):Int)=(2:Int)^m:=by simp
  congr 1
  .apply Pa;intro n hn;have hn':n<2^m:=Pq.mp hn;show Jt 2 (m+1) (n:Int)=0::Jt 2 m (n:Int);rw[Jt];congr 1;have h0:(n:Int)/2^m=0:=iB nofun (by rw[<-pc];omega)
   rw[h0];rfl
  .apply Pa;intro n hn;have hn':n<2^m:=Pq.mp hn;show Jt 2 (m+1) ((2^m+n:Nat):Int)=1::Jt 2 m (n:Int);have e1:((2^m+n:Nat):Int)=(n:Int)+2^m*1:=by rw[Int.natCast_add,pc,mV,Int.add_comm]
   rw[e1,Jt,j2h (by decide) _ _ (Xc m)];congr 1;have hp:(2:Int)^m≠0:=ma (mU (by decide));have h0:(n:Int)/2^m=0:=iB nofun (by rw[<-pc];omega)
   rw[iG _ _ hp,h0];rfl
end L2
end
section
namespace L2
open PySem
inductive Sv where
 |un
 |val (d:D)
 |own (l:List D)
 |exc (x:ao)
noncomputable abbrev En:=List Sv
set_option genInjectivity true in
inductive Rk where
 |e (d:D)
 |o (l:List D)
 |w (l:List D)
 |t (d:D)
noncomputable def Rk.d:Rk->D
 |.e d=>d
 |.o l=>.lst l
 |.w l=>.lst l
 |.t d=>d
noncomputable def Rk.st:Rk->Option D
 |.e d=>aa d
 |.o l=>aa (.lst l)
 |.w l=>ag
 |.t d=>if Zu d=af then aa d else ag
noncomputable def Rk.sq:Rk->Option (Bool×List D)
 |.e (.lst l)=>aa (af,l)
 |.e (.tup l)=>aa (ae,l)
 |.o l=>aa (af,l)
 |.w l=>aa (af,l)
 |_=>ag
noncomputable def Rk.lw:Rk->Option (List D)
 |.o l=>aa l
 |.w l=>aa l
 |_=>ag
inductive Rc where
 |val (d:D)
 |fresh (l:List D)
 |err (x:ao)
 |mval (d:D) (k:Nat)
 |merr (x:ao)
 |no
noncomputable def Rc.rk:Rc->Option Rk
 |.val d=>aa (.e d)
 |.fresh l=>aa (.o l)
 |_=>ag
inductive Bop where
 |add|sub|mul|fdiv|mod|pow|shl
inductive Cop where
 |lt|le|gt|ge|eq|ne|isin|notin
inductive Bf where
 |len|min|all|tuple|list|sum|int
inductive Ex where
 |lit (d:D)
 |var (i:Nat)
 |glob (x:ao)
 |bin (op:Bop) (a b:Ex)
 |neg (a:Ex)
 |cmp (op:Cop) (a b:Ex)
 |and (a b:Ex)
 |or (a b:Ex)
 |not (a:Ex)
 |ite (c a b:Ex)
 |nil
 |cons (a b:Ex)
 |tup (es:Ex)
 |lst (es:Ex)
 |ix (a b:Ex)
 |sl (a lo hi:Ex)
 |call (f:ao) (es:Ex)
 |blt (f:Bf) (es:Ex)
 |comp (is:List Nat) (elt it cond:Ex)
 |seq (a:Ex)
 |range (es:Ex)
 |zip (a b:Ex)
 |fst (es:Ex)
 |isx (i:Nat) (cs:List ao)
 |join (sep:ao) (a:Ex)
 |lset (a:Ex)
 |dzip (a b:Ex)
 |chn (a b c:Ex)
 |dix (a b:Ex)
 |rpr (a:Ex)
 |rep (a o n:Ex)
 |spl (a:Ex)
 |sti (a:Ex)
set_option genInjectivity true in
inductive W where
 |v (r:Rk)
 |a (rs:List Rk)
 |i (ds:List D)
noncomputable def jm(n:Nat):Bool:=decide (n<=au)
noncomputable def binI:Bop->Int->Int->Option Int
 |.add,i,j=>aa (i+j)
 |.sub,i,j=>aa (i-j)
 |.mul,i,j=>if (-(2^64)<i/\i<2^64)\/(-(2^64)<j/\j<2^64)then aa (i*j)else ag
 |.fdiv,i,j=>if 0<j/\j<18446744073709551616 then aa (i/j)else ag
 |.mod,i,j=>if 0<j then aa (i%j)else ag
 |.pow,i,j=>if 0<=j/\j<=1000000/\i.natAbs<2^64 then aa (i^j.toNat)else ag
 |.shl,i,j=>if 0<=j/\j<=1000000/\i.natAbs<2^64 then aa (i*2^j.toNat)else ag
noncomputable def V3(op:Bop)(a b:Rk):Option Rk :=
 match a.d,b.d with
 |.int i,.int j=>(binI op i j).map λk=>.e (.int k)
 |.str y,.str z=>match op with
  |.add=>if jm (y.length+z.length)=af then aa (.e (.str (y++z)))else ag
  |_=>ag
 |.str y,.any S=>match op with
  |.add=>if (∀t∈S,y.length+t.length<=au)then aa (.e (.any (S.map λt=>y++t)))else ag
  |_=>ag
 |.any S,.str z=>match op with
  |.add=>if (∀t∈S,t.length+z.length<=au)then aa (.e (.any (S.map λt=>t++z)))else ag
  |_=>ag
 |.str y,.int k=>match op with
  |.mul=>if (1<=k/\k<=1000)/\y.length<=1000 then aa (.e (.str (bP y k)))else ag
  |_=>ag
 |_,_=>match op,a.sq,b.sq,b.d with
  |.add,aa (af,l),aa (af,m),_=>if jm (l.length+m.length)=af then aa (.o (l++m))else ag
  |.add,aa (ae,l),aa (ae,m),_=>if jm (l.length+m.length)=af then aa (.e (.tup (l++m)))else ag
  |.mul,aa (ae,l),_,.int k=>if 1<=k/\k<2^63/\l.isEmpty=ae/\jm (l.length*k.toNat)=af then aa (.e (.tup (ax k.toNat l).flatten))else ag
  |.mul,_,_,.int k=>match a.lw with
   |some l=>if -(2^63)<=k/\k<2^63/\jm (l.length*k.toNat)=af then aa (.o (ax k.toNat l).flatten)else ag
   |none=>ag
  |_,_,_,_=>ag
noncomputable def cmpI:Cop->Int->Int->Option Bool
 |.lt,i,j=>aa (decide (i<j))
 |.le,i,j=>aa (decide (i<=j))
 |.gt,i,j=>aa (decide (j<i))
 |.ge,i,j=>aa (decide (j<=i))
 |.eq,i,j=>aa (decide (i=j))
 |.ne,i,j=>aa (!decide (i=j))
 |_,_,_=>ag
noncomputable def D.sqv:D->Option (Bool×List D)
 |.lst l=>aa (af,l)
 |.tup l=>aa (ae,l)
 |_=>ag
noncomputable def vd(op:Cop)(a b:D):Option Bool :=
 match op,a,b with
 |op,.int i,.int j=>cmpI op i j
 |.eq,a,b=>if a.dep<=90/\b.dep<=90 then aa (deq a b)else ag
 |.ne,.str a,.str b=>aa (!decide (a=b))
 |.ne,.lst l,.lst m=>if D.depL l<=90/\D.depL m<=90 then aa (!Jb l m)else ag
 |.isin,.str a,.str b=>aa (inS a b)
 |.isin,a,b=>match b.sqv with
  |some (_,l)=>if D.depL l<=90/\a.dep<=90 then aa (l.any λe=>deq e a)else ag
  |none=>ag
 |.notin,a,b=>match b.sqv with
  |some (_,l)=>if D.depL l<=90/\a.dep<=90 then aa (!l.any λe=>deq e a)else ag
  |none=>ag
 |_,_,_=>ag
noncomputable def boolsOf:List D->Option (List Bool)
 |[]=>aa []
 |.bl b::r=>(boolsOf r).map (b :: ·)
 |_::_=>ag
noncomputable def intsOf:List D->Option zo
 |[]=>aa []
 |.int b::r=>(intsOf r).map (b :: ·)
 |_::_=>ag
noncomputable def strsOf:List D->Option (List ao)
 |[]=>aa []
 |.str b::r=>(strsOf r).map (b :: ·)
 |_::_=>ag
noncomputable def Zb:Bf->List Rk->Option Rk
 |.len,[a]=>match a.d with
  |.lst l=>aa (.e (.int l.length))
  |.tup l=>aa (.e (.int l.length))
  |.str y=>if jm y.length=af then aa (.e (.int y.length))else ag
  |_=>ag
 |.min,[a,b]=>match a.d,b.d with
  |.int i,.int j=>aa (.e (.int (if j<i then j else i)))
  |_,_=>ag
 |.all,[a]=>match a.d with
  |.lst l=>(boolsOf l).map λbs=>.e (.bl (bs.all id))
  |_=>ag
 |.tuple,[a]=>match a.sq with
  |some (_,l)=>aa (.e (.tup l))
  |none=>ag
 |.list,[a]=>match a.sq with
  |some (_,l)=>aa (.o l)
  |none=>ag
 |.sum,[a]=>match a.d with
  |.lst l=>(intsOf l).map λns=>.e (.int ns.sum)
  |.tup l=>(intsOf l).map λns=>.e (.int ns.sum)
  |_=>ag
 |.int,[a]=>match a.d with
  |.bl k=>aa (.e (.int (if k then 1 else 0)))
  |.str y=>if y.length<=640 then(cq y).map λn=>.e (.int n)else ag
  |_=>ag
 |_,_=>ag
noncomputable def vf:List Nat->D->En->Option En
 |[i],d,J=>aa (J.set i (.val d))
 |[i,j],d,J=>match d with
  |.tup [a,b]=>aa ((J.set i (.val a)).set j (.val b))
  |_=>ag
 |_,_,_=>ag
noncomputable def j0l(is:List Nat)(J:En):Bool:=is.all λi=>match J[i]? with
 |some .un=>af
 |_=>ae
noncomputable def Qp(f:D->Option (Option D)):List D->Option (List D)
 |[]=>aa []
 |d::ds=>match f d,Qp f ds with
  |some (aa x),aa xs=>aa (x::xs)
  |some ag,aa xs=>aa xs
  |_,_=>ag
noncomputable def J6:List Rk->Option (List D)
 |[]=>aa []
 |r::rs=>match r.st,J6 rs with
  |some d,aa ds=>aa (d::ds)
  |_,_=>ag
noncomputable def W.one:W->Option Rk
 |.v r=>aa r
 |_=>ag
noncomputable def W.args:W->Option (List Rk)
 |.a rs=>aa rs
 |_=>ag
noncomputable def W.it:W->Option (List D)
 |.i ds=>aa ds
 |_=>ag
noncomputable def Qh:Option W->Option (Option Int)
 |some (.a [])=>aa ag
 |some (.a [r])=>match r.d with
  |.int i=>aa (aa i)
  |_=>ag
 |_=>ag
noncomputable def truth:Option W->Option Bool
 |some (.v r)=>match r.d with
  |.bl k=>aa k
  |_=>ag
 |_=>ag
noncomputable def jbp:Ex->Option Nat
 |.seq (.var i)=>aa i
 |_=>ag
noncomputable def frz(t:Ex)(J:En):En:=match jbp t with
 |some i=>match J[i]? with
  |some (.own l)=>J.set i (.val (.lst l))
  |_=>J
 |none=>J
noncomputable def Jf(t:Ex)(J:En):Bool:=match jbp t with
 |some i=>match J[i]? with
  |some (.own _)=>af
  |_=>ae
 |none=>ae
noncomputable def qz:D->Option ao
 |.int i=>if -18446744073709551616<i/\i<18446744073709551616 then aa (aF (toString i))else ag
 |.str y=>if y.length<=10000 then aa y else ag
 |_=>ag
noncomputable def J2:List Rk->Option (List ao)
 |[]=>aa []
 |r::rs=>match qz r.d,J2 rs with
  |some y,aa ys=>aa (y::ys)
  |_,_=>ag
noncomputable def bang(x:ao):ao:=("!":ao)++x
noncomputable def qm(f:ao):ao:=("??":ao)++f
noncomputable def mq(f:ao):ao:=("@":ao)++f
noncomputable def U3(w:Option W):Option W:=match w with
 |some (.a rs)=>if rs.length<=1000 then(J2 rs).map λys=>.v (.e (.str (Dz dt ys)))else ag
 |_=>ag
noncomputable def j18(w:Option W):Option W:=match w with
 |some (.v x)=>match x.d with
  |.str y=>if y.length<=100000/\jm (aC y " ").length=af then aa (.v (.o ((aC y " ").map D.str)))else ag
  |_=>ag
 |_=>ag
noncomputable def j15(w:Option W):Option W:=match w with
 |some (.v x)=>match x.d with
  |.int i=>if -18446744073709551616<i/\i<18446744073709551616 then aa (.v (.e (.str (aF (toString i)))))else ag
  |_=>ag
 |_=>ag
noncomputable def D.txs:D->Option (List ao)
 |.str y=>aa [y]
 |.any S=>aa S
 |_=>ag
noncomputable def Mr(a b c:Option W):Option W:=match a,b,c with
 |some (.v x),aa (.v y),aa (.v z)=>match x.d.txs,y.d,z.d with
  |some S,.str o,.str n=>if (o==n)=ae/\∀t∈S,t.length+(t.length+1)*n.length<=16777216 then aa (.v (.e (.any (Us o n S))))else ag
  |_,_,_=>ag
 |_,_,_=>ag
noncomputable def Ln(s:Option Sv):Option W:=match s with
 |some (.val d)=>aa (.v (.e d))
 |some (.own l)=>aa (.v (.w l))
 |_=>ag
noncomputable def blW(i:Option Bool):Option W:=i.map λk=>.v (.e (.bl k))
noncomputable def rkW(r:Option Rk):Option W:=r.map .v
noncomputable def vm(op:Bop)(a b:Option W):Option W:=match a,b with
 |some (.v x),aa (.v y)=>rkW (V3 op x y)
 |_,_=>ag
noncomputable def j1u(a:Option W):Option W:=match a with
 |some (.v x)=>match x.d with
  |.int i=>aa (.v (.e (.int (-i))))
  |_=>ag
 |_=>ag
noncomputable def Ia(op:Cop)(a b:Option W):Option W:=match a,b with
 |some (.v x),aa (.v y)=>blW (vd op x.d y.d)
 |_,_=>ag
noncomputable def consW(a b:Option W):Option W:=match a,b with
 |some (.v x),aa (.a xs)=>aa (.a (x::xs))
 |_,_=>ag
noncomputable def Yu(a:Option W):Option W:=match a with
 |some (.a rs)=>match J6 rs with
  |some ds=>if jm ds.length=af then aa (.v (.e (.tup ds)))else ag
  |none=>ag
 |_=>ag
noncomputable def Q6(a:Option W):Option W:=match a with
 |some (.a rs)=>match J6 rs with
  |some ds=>if jm ds.length=af then aa (.v (.o ds))else ag
  |none=>ag
 |_=>ag
noncomputable def ixW(a b:Option W):Option W:=match a,b with
 |some (.v x),aa (.v y)=>match x.sq,y.d with
  |some (_,l),.int i=>(atI l i).map λd=>.v (.e d)
  |none,.int i=>match x.d with
   |.str z=>if jm z.length=af then(atI z.cps.toList i).map λc=>.v (.e (.str ⟨#[c]⟩))else ag
   |_=>ag
  |_,_=>ag
 |_,_=>ag
noncomputable def Vl(sep:ao)(a:Option W):Option W:=match a with
 |some (.v x)=>match x.d with
  |.lst l=>match strsOf l with
   |some ts=>if bZ sep ts=af then aa (.v (.e (.str (c9 sep ts))))else ag
   |none=>ag
  |_=>ag
 |_=>ag
noncomputable def j61(a:Option W):Option W:=match a with
 |some (.v x)=>match x.d with
  |.lst l=>match intsOf l with
   |some ns=>if ns.length<4000 then aa (.v (.e (.int (ddI ns).length)))else ag
   |none=>ag
  |_=>ag
 |_=>ag
noncomputable def Ju(Γ:ao->List D->Rc)(f:ao)(a:Option W):Option W:=match a with
 |some (.a rs)=>match J6 rs with
  |some ds=>rkW (Γ f ds).rk
  |none=>match Γ f (rs.map Rk.d) with
   |.val d=>aa (.v (.t d))
   |.fresh l=>if zc l=af then aa (.v (.o l))else ag
   |_=>ag
 |_=>ag
noncomputable def vh(f:Bf)(a:Option W):Option W:=match a with
 |some (.a rs)=>rkW (Zb f rs)
 |_=>ag
noncomputable def Wt(a:Option W):Option W:=match a with
 |some (.v (.e (.lst l)))=>aa (.i l)
 |some (.v (.e (.tup l)))=>aa (.i l)
 |some (.v (.o l))=>aa (.i l)
 |some (.v (.e (.str y)))=>if ascii y=af then aa (.i (chs y))else ag
 |_=>ag
noncomputable def Ms(a:Option W):Option W:=match a with
 |some (.a [x])=>match x.d with
  |.int n=>if -(2^62)<=n/\n<2^62 then aa (.i (upto 0 n.toNat))else ag
  |_=>ag
 |_=>ag
noncomputable def j9r(a b:Option W):Option W:=match a,b with
 |some (.v x),aa (.v y)=>match x.st,y.st with
  |some (.lst l),aa (.lst m)=>aa (.i (Wm l m))
  |some (.lst l),aa (.tup m)=>aa (.i (Wm l m))
  |some (.tup l),aa (.lst m)=>aa (.i (Wm l m))
  |some (.tup l),aa (.tup m)=>aa (.i (Wm l m))
  |_,_=>ag
 |_,_=>ag
noncomputable def Rx(a b:Option W):Option W:=match a,b with
 |some (.v x),aa (.v y)=>match x.st.bind D.sqv,y.st.bind D.sqv with
  |some (_,l),aa (_,m)=>match strsOf l,intsOf m with
   |some ks,aa ns=>if ks.Nodup/\ks.length=ns.length/\jm ks.length=af then aa (.v (.e (.sct (ks.zip ns))))else ag
   |_,_=>ag
  |_,_=>ag
 |_,_=>ag
noncomputable def j2u(a b c:Option W):Option W:=match a,b,c with
 |some (.v x),aa (.v y),aa (.v z)=>match x.d,y.d,z.d with
  |.int i,.int j,.int k=>aa (.v (.e (.bl (decide (i<j)&&decide (j<k)))))
  |_,_,_=>ag
 |_,_,_=>ag
noncomputable def Ky(a b:Option W):Option W:=match a,b with
 |some (.v x),aa (.v y)=>match x.d,y.d with
  |.sct kvs,.str k=>(Ux kvs k).map λn=>.v (.e (.int n))
  |_,_=>ag
 |_,_=>ag
noncomputable def ev(Γ:ao->List D->Rc)(G:ao->Option D):Ex->En->Option W
 |.lit d,_=>aa (.v (.e d))
 |.var i,J=>Ln J[i]?
 |.glob x,_=>(G x).map λd=>.v (.e d)
 |.bin op a b,J=>vm op (ev Γ G a J) (ev Γ G b J)
 |.neg a,J=>j1u (ev Γ G a J)
 |.cmp op a b,J=>Ia op (ev Γ G a J) (ev Γ G b J)
 |.and a b,J=>match truth (ev Γ G a J) with
  |some ae=>aa (.v (.e (.bl ae)))
  |some af=>(truth (ev Γ G b J)).map λk=>.v (.e (.bl k))
  |none=>ag
 |.or a b,J=>match truth (ev Γ G a J) with
  |some af=>aa (.v (.e (.bl af)))
  |some ae=>(truth (ev Γ G b J)).map λk=>.v (.e (.bl k))
  |none=>ag
 |.not a,J=>(truth (ev Γ G a J)).map λk=>.v (.e (.bl (!k)))
 |.ite c a b,J=>match truth (ev Γ G c J) with
  |some af=>match ev Γ G a J with
   |some (.v x)=>x.st.map λd=>.v (.e d)
   |_=>ag
  |some ae=>match ev Γ G b J with
   |some (.v x)=>x.st.map λd=>.v (.e d)
   |_=>ag
  |none=>ag
 |.nil,_=>aa (.a [])
 |.cons a b,J=>consW (ev Γ G a J) (ev Γ G b J)
 |.tup es,J=>Yu (ev Γ G es J)
 |.lst es,J=>Q6 (ev Γ G es J)
 |.ix a b,J=>ixW (ev Γ G a J) (ev Γ G b J)
 |.sl a lo hi,J=>match ev Γ G a J,Qh (ev Γ G lo J),Qh (ev Γ G hi J) with
  |some (.v x),aa l,aa h=>match x.sq with
   |some (af,ds)=>aa (.v (.o (cutD ds l h)))
   |some (ae,_)=>ag
   |none=>match x.d with
    |.str z=>if jm z.length=af then aa (.v (.e (.str (bj z l h))))else ag
    |_=>ag
  |_,_,_=>ag
 |.call f es,J=>Ju Γ f (ev Γ G es J)
 |.blt f es,J=>vh f (ev Γ G es J)
 |.comp is elt it cond,J=>match ev Γ G it (frz it J) with
  |some (.i ds)=>if j0l is (frz it J)=af/\jm ds.length=af then
    (Qp (λd=>match vf is d (frz it J) with
     |none=>ag
     |some ρ2=>match ev Γ G cond ρ2 with
      |some (.a [])=>match ev Γ G elt ρ2 with
       |some (.v x)=>x.st.map aa
       |_=>ag
      |some (.a [y])=>match y.d with
       |.bl af=>match ev Γ G elt ρ2 with
        |some (.v x)=>x.st.map aa
        |_=>ag
       |.bl ae=>aa ag
       |_=>ag
      |_=>ag) ds).bind λl=>if (Jf it J && !zc l)=af then ag else aa (.v (.o l))
   else ag
  |_=>ag
 |.seq a,J=>Wt (ev Γ G a J)
 |.chn a b c,J=>j2u (ev Γ G a J) (ev Γ G b J) (ev Γ G c J)
 |.range es,J=>Ms (ev Γ G es J)
 |.zip a b,J=>j9r (ev Γ G a J) (ev Γ G b J)
 |.fst es,J=>U3 (ev Γ G es J)
 |.isx i cs,J=>match J[i]?,G "?" with
  |some (.exc x),aa (.bl af)=>if qg.contains x=af then aa (.v (.e (.bl (cs.any λc=>c == "ValueError" || x==c))))else ag
  |_,_=>ag
 |.join sep a,J=>Vl sep (ev Γ G a J)
 |.dzip a b,J=>Rx (ev Γ G a J) (ev Γ G b J)
 |.dix a b,J=>Ky (ev Γ G a J) (ev Γ G b J)
 |.rpr a,J=>match ev Γ G a J with
  |some (.v x)=>match x.d with
   |.str y=>if (aK y).length<=2000 then aa (.v (.e (.str (aK y))))else ag
   |_=>ag
  |_=>ag
 |.rep a o n,J=>Mr (ev Γ G a J) (ev Γ G o J) (ev Γ G n J)
 |.spl a,J=>j18 (ev Γ G a J)
 |.sti a,J=>j15 (ev Γ G a J)
 |.lset a,J=>j61 (ev Γ G a J)
section
variable{Γ:ao->List D->Rc}{G:ao->Option D}{J:En}
def j0s{d}:ev Γ G (.lit d) J=(aa (.v (.e d))):=(rfl)
def joo{i}:ev Γ G (.var i) J=(Ln J[i]?):=(rfl)
def jlb{x}:ev Γ G (.glob x) J=((G x).map λd=>.v (.e d)):=(rfl)
def jp4{op a b}:ev Γ G (.bin op a b) J=(vm op (ev Γ G a J) (ev Γ G b J)):=(rfl)
def jow{a}:ev Γ G (.neg a) J=(j1u (ev Γ G a J)):=(rfl)
def jdh{op a b}:ev Γ G (.cmp op a b) J=(Ia op (ev Γ G a J) (ev Γ G b J)):=(rfl)
def jdi{a b}:ev Γ G (.and a b) J=(match truth (ev Γ G a J) with
  |some ae=>aa (.v (.e (.bl ae)))
  |some af=>(truth (ev Γ G b J)).map λk=>.v (.e (.bl k))
  |none=>ag):=(rfl)
def jl8{a b}:ev Γ G (.or a b) J=(match truth (ev Γ G a J) with
  |some af=>aa (.v (.e (.bl af)))
  |some ae=>(truth (ev Γ G b J)).map λk=>.v (.e (.bl k))
  |none=>ag):=(rfl)
def jov{a}:ev Γ G (.not a) J=((truth (ev Γ G a J)).map λk=>.v (.e (.bl (!k)))):=(rfl)
def joy{c a b}:ev Γ G (.ite c a b) J=(match truth (ev Γ G c J) with
  |some af=>match ev Γ G a J with
   |some (.v x)=>x.st.map λd=>.v (.e d)
   |_=>ag
  |some ae=>match ev Γ G b J with
   |some (.v x)=>x.st.map λd=>.v (.e d)
   |_=>ag
  |none=>ag):=(rfl)
def M6:ev Γ G (.nil) J=(aa (.a [])):=(rfl)
def Ud{a b}:ev Γ G (.cons a b) J=(consW (ev Γ G a J) (ev Γ G b J)):=(rfl)
def jop{es}:ev Γ G (.tup es) J=(Yu (ev Γ G es J)):=(rfl)
def jox{es}:ev Γ G (.lst es) J=(Q6 (ev Γ G es J)):=(rfl)
def jr2{a b}:ev Γ G (.ix a b) J=(ixW (ev Γ G a J) (ev Γ G b J)):=(rfl)
def jr1{a lo hi}:ev Γ G (.sl a lo hi) J=(match ev Γ G a J,Qh (ev Γ G lo J),Qh (ev Γ G hi J) with
  |some (.v x),aa l,aa h=>match x.sq with
   |some (af,ds)=>aa (.v (.o (cutD ds l h)))
   |some (ae,_)=>ag
   |none=>match x.d with
    |.str z=>if jm z.length=af then aa (.v (.e (.str (bj z l h))))else ag
    |_=>ag
  |_,_,_=>ag):=(rfl)
def jle{f es}:ev Γ G (.call f es) J=(Ju Γ f (ev Γ G es J)):=(rfl)
def M7{f es}:ev Γ G (.blt f es) J=(vh f (ev Γ G es J)):=(rfl)
def jld{is elt it cond}:ev Γ G (.comp is elt it cond) J=(match ev Γ G it (frz it J) with
  |some (.i ds)=>if j0l is (frz it J)=af/\jm ds.length=af then
    (Qp (λd=>match vf is d (frz it J) with
     |none=>ag
     |some ρ2=>match ev Γ G cond ρ2 with
      |some (.a [])=>match ev Γ G elt ρ2 with
       |some (.v x)=>x.st.map aa
       |_=>ag
      |some (.a [y])=>match y.d with
       |.bl af=>match ev Γ G elt ρ2 with
        |some (.v x)=>x.st.map aa
        |_=>ag
       |.bl ae=>aa ag
       |_=>ag
      |_=>ag) ds).bind λl=>if (Jf it J && !zc l)=af then ag else aa (.v (.o l))
   else ag
  |_=>ag):=(rfl)
def jos{a}:ev Γ G (.seq a) J=(Wt (ev Γ G a J)):=(rfl)
def jp3{a b c}:ev Γ G (.chn a b c) J=(j2u (ev Γ G a J) (ev Γ G b J) (ev Γ G c J)):=(rfl)
def jgg{es}:ev Γ G (.range es) J=(Ms (ev Γ G es J)):=(rfl)
def jon{a b}:ev Γ G (.zip a b) J=(j9r (ev Γ G a J) (ev Γ G b J)):=(rfl)
def joz{es}:ev Γ G (.fst es) J=(U3 (ev Γ G es J)):=(rfl)
def j6o{i cs}:ev Γ G (.isx i cs) J=(match J[i]?,G "?" with
  |some (.exc x),aa (.bl af)=>if qg.contains x=af then aa (.v (.e (.bl (cs.any λc=>c == "ValueError" || x==c))))else ag
  |_,_=>ag):=(rfl)
def jla{sep a}:ev Γ G (.join sep a) J=(Vl sep (ev Γ G a J)):=(rfl)
def jlc{a b}:ev Γ G (.dzip a b) J=(Rx (ev Γ G a J) (ev Γ G b J)):=(rfl)
def jp0{a b}:ev Γ G (.dix a b) J=(Ky (ev Γ G a J) (ev Γ G b J)):=(rfl)
def jot{a}:ev Γ G (.rpr a) J=(match ev Γ G a J with
  |some (.v x)=>match x.d with
   |.str y=>if (aK y).length<=2000 then aa (.v (.e (.str (aK y))))else ag
   |_=>ag
  |_=>ag):=(rfl)
def jou{a o n}:ev Γ G (.rep a o n) J=(Mr (ev Γ G a J) (ev Γ G o J) (ev Γ G n J)):=(rfl)
def jor{a}:ev Γ G (.spl a) J=(j18 (ev Γ G a J)):=(rfl)
def joq{a}:ev Γ G (.sti a) J=(j15 (ev Γ G a J)):=(rfl)
def jl9{a}:ev Γ G (.lset a) J=(j61 (ev Γ G a J)):=(rfl)
end
noncomputable def er(Γ:ao->List D->Rc)(G:ao->Option D):Ex->En->Option ao
 |.call f es,J=>match er Γ G es J with
  |some x=>if (G (qm f)).isSome=af then aa x else ag
  |none=>match ev Γ G es J with
   |some (.a rs)=>match Γ f (rs.map Rk.d) with
    |.err x=>if (G (bang x)).isSome=af then aa x else ag
    |_=>ag
   |_=>ag
 |.cons a b,J=>match er Γ G a J with
  |some x=>aa x
  |none=>match ev Γ G a J with
   |some (.v _)=>er Γ G b J
   |_=>ag
 |.ix a _,J=>er Γ G a J
 |.dzip a b,J=>match er Γ G a J with
  |some x=>aa x
  |none=>match ev Γ G a J with
   |some (.v _)=>er Γ G b J
   |_=>ag
 |_,_=>ag
end L2
end
section
namespace L2
open PySem PySem.Spec PyProof.Rows
def DM(X:Cx)(J:Rho)(e:ar)(s:Bool)(ds:List D):Prop:=∀I H Q,Rep X.K J I H->(∀a xs H',j5 H H'->SqB X.K s H' a xs->j6 X.K (del H' (owns J)) ds xs->Q (.ref a) H')->Jq X e I H Q
section
variable{X:Cx}{J:Rho}{e a b c:ar}{es:List ar}{d:D}{ds ds':List D}{i j:Int}{pos p p2:aR}{k:Nat}{x:ao}{s:Bool}
def jm8{K:k84}{H:Hp}{a:ak}{xs:List V}(h:SqL K H a xs):SqB K af H a xs:=by unfold SqB;rw[if_pos rfl];exact h
def W8{K:k84}{H:Hp}{a:ak}{xs:List V}(h:SqB K af H a xs):SqL K H a xs:=by unfold SqB at h;rw[if_pos rfl]at h;exact h
def Qv{K:k84}{H:Hp}{a:ak}{xs:List V}(h:SqB K ae H a xs):SqT K H a xs:=by unfold SqB at h;rw[if_neg xq]at h;exact h
def DE.toM(h:DE X J e (D.seq s ds)):DM X J e s ds:=λI H Q R q=>h I H Q R λv H1 g1 e1=>by obtain⟨t,xs,ev,sq,en⟩:=Q5 e1;subst ev;exact q t xs H1 g1 (jr.seqB sq) en
def DL.toM(h:DL X J e ds):DM X J e af ds:=λI H Q R q=>h I H Q R λt xs H1 g1 m en=>q t xs H1 g1 (jm8 (.inl (.inl m))) en
theorem DO.toM(h:DO X J e ds):DM X J e af ds:=h.toL.toM
def Has(X:Cx)(J:Rho)(e:ar):Rk->Prop
 |.e d=>DE X J e d
 |.o l=>DO X J e l
 |.w l=>DL X J e l
 |.t d=>DT X J e d
theorem Has.toT:∀{r:Rk},Has X J e r->DT X J e r.d
 |.e _,h=>DE.toT h
 |.o _,h=>DL.toT (DO.toL h)
 |.w _,h=>DL.toT h
 |.t _,h=>h
theorem Has.toE:∀{r:Rk}{d:D},Has X J e r->r.st=aa d->DE X J e d
 |.e _,_,h,q=>by cases q;exact h
 |.o _,_,h,q=>by cases q;exact DO.toE h
 |.w _,_,h,q=>by cases q
 |.t d',d,h,q=>by
  have q:(if Zu d'=af then aa d' else ag)=aa d:=q;by_cases z:Zu d'=af
  .rw[if_pos z]at q;cases q;exact DT.toE h z
  .rw[if_neg z]at q;cases q
theorem Has.toM:∀{r:Rk}{s:Bool}{l:List D},Has X J e r->r.sq=aa (s,l)->DM X J e s l
 |.e (.lst l),_,_,h,q=>by cases q;exact DE.toM (s:=af) h
 |.e (.tup l),_,_,h,q=>by cases q;exact DE.toM (s:=ae) h
 |.e .non,_,_,_,q=>by cases q
 |.e (.bl _),_,_,_,q=>by cases q
 |.e (.int _),_,_,_,q=>by cases q
 |.e (.str _),_,_,_,q=>by cases q
 |.o l,_,_,h,q=>by cases q;exact DO.toM h
 |.w l,_,_,h,q=>by cases q;exact DL.toM h
 |.t _,_,_,_,q=>by cases q
def jf1:OpR X (bO .Add) (λx y H Q=>∃l b xs zs,x=.ref l/\y=.ref b/\SqL X.K H l xs/\SqL X.K H b zs/\xs.length+zs.length<=au/\∀p,H p=ag->Q (.ref p) (upd H p (.lst (xs++zs)))):=by
 intro pins s I H x y v u Q nI rx ry h;obtain⟨l,b,xs,zs,e1,e2,hH,hB,hz,q⟩:=h;subst e1 e2;cases rx;cases ry;obtain⟨us,ru,⟨⟨c1,d1,f1,g1⟩,n1,h1,k1,w1,m1⟩,_⟩:=nI.list hH;obtain⟨vs,rv,⟨⟨c2,d2,f2,g2⟩,n2,h2,k2,w2,m2⟩,_⟩:=nI.list hB;have k1:c1=.type "list":=k1;have m1:f1=.seq us.toArray n1:=m1;have k2:c2=.type "list":=k2;have m2:f2=.seq vs.toArray n2:=m2;subst k1 m1 k2 m2;have l1:=ru.length;have l2:=rv.length;have ea:us.toArray++vs.toArray=(us++vs).toArray:=by simp
 refine gG ⟨_,h1,rfl⟩ ⟨_,h2,rfl⟩ noFill_list_add seq_list_add PySem.F.slot_list_add PySem.F.entry_list_add (PySem.F.args_list_add_2 _ _)
  (list_addW l b us.toArray vs.toArray n1 n2 d1 d2 g1 g2 (by rw[Xb,Xb,<-l1,<-l2];exact hz)) ⟨h1,h2,?_⟩
 rw[ea];exact⟨.ref _,_,nI.lnew (t':=s.toks) (ru.append rv) (by rw[X6];exact hz),rfl,q _ nI.fresh⟩
def DO.catM(ha:DM X J a af ds)(hb:DM X J b af ds')(hl:ds.length+ds'.length<=au):DO X J (.BinOp a .Add b pos) (ds++ds'):=λI H Q R q =>
 (Zr jf1 peS peS).to (ha I H _ R λl xs H1 g1 s1 e1=>hb I H1 _ (R.grow g1) λl' ys H2 g2 s2 e2 =>
  ⟨l,l',xs,ys,rfl,rfl,g2.seq (W8 s1),W8 s2,by rw[e1.length,e2.length];exact hl,λp hp=>q p _ _ ((g1.trans g2).trans (je hp)) ((g1.trans g2).free hp) jz (Rw hp ((e1.mono (jq g2)).append e2))⟩)
def DE.catTM(ha:DM X J a ae ds)(hb:DM X J b ae ds')(hl:ds.length+ds'.length<=au):DE X J (.BinOp a .Add b pos) (.tup (ds++ds')):=λI H Q R q =>
 (Zr jb6 peS peS).to (ha I H _ R λt xs H1 g1 sq l=>hb I H1 _ (R.grow g1) λt' ys H2 g2 sq' l'=>by
  have l2:=l.mono (jq g2)
  have enT:∀{t:ak}{xs:List V}{ds:List D},SqT X.K H2 t xs->j6 X.K (del H2 (owns J)) ds xs->Enc X.K (del H2 (owns J)) (.tup ds) (.ref t):=λ{t xs ds} sq l=>by
   refine⟨t,xs,rfl,?_,l⟩
   have ow:=(R.grow (g1.trans g2)).owned
   have out:∀{o:HO},H2 t=aa o->(∀zs,o≠.lst zs)->del H2 (owns J) t=aa o:=λ{o} h z=>by
    rw[jd];exact h
    intro y;obtain⟨zs,e'⟩:=ow t y;rw[h]at e';cases e';exact z zs rfl
   rcases sq with (h|⟨o,h⟩)|h
   .exact .inl (.inl (out h λ_ z=>by cases z))
   .exact .inl (.inr ⟨o,out h λ_ z=>by cases z⟩)
   .exact .inr h
  refine⟨t,t',xs,ys,rfl,rfl,g2.seqT (Qv sq),Qv sq',by rw[l.length,l'.length];exact hl,λh=>?_,λh h'=>?_,λh h' p hp=>?_⟩
  .subst h
   cases ds with
   |nil=>exact q _ H2 (g1.trans g2) (enT (Qv sq') l')
   |cons _ _=>have:=l.length;cases this
  .subst h'
   cases ds' with
   |nil=>exact q _ H2 (g1.trans g2) (by rw[Xq];exact enT (g2.seqT (Qv sq)) l2)
   |cons _ _=>have:=l'.length;cases this
  .have np:p∉owns J:=(R.grow (g1.trans g2)).fresh hp
   exact q _ _ ((g1.trans g2).trans (je hp)) ⟨p,xs++ys,rfl,.inl (.inl (by rw[jd np];exact jz)),(l2.append l').mono (jq (je hp))⟩)
def DE.ixM(ha:DM X J a s ds)(hb:DT X J b (.int i))(h:L2.atI ds i=aa d)(hs:Ys b):DE X J (.Subscript a b pos) d:=by
 cases s with
 |true=>exact λI H Q R q=>(Ox j4j peS peS hs).to (ha I H _ R λl xs H1 g1 sq en=>hb I H1 _ (R.grow g1) λu H2 g2 e2=>by
   obtain⟨y,hy,ey⟩:=en.atI h
   exact⟨l,xs,i,y,rfl,e2,g2.seq (W8 sq),hy,q y H2 (g1.trans g2) (ey.mono (jq g2))⟩)
 |false=>exact λI H Q R q=>(Ox j8l peS peS hs).to (ha I H _ R λl xs H1 g1 sq en=>hb I H1 _ (R.grow g1) λu H2 g2 e2=>by
   obtain⟨y,hy,ey⟩:=en.atI h
   exact⟨l,xs,i,y,rfl,e2,g2.seqT (Qv sq),hy,q y H2 (g1.trans g2) (ey.mono (jq g2))⟩)
variable{lo hi:Option ar}{l u:Option Int}
def DO.sliceM(ha:DM X J a af ds)(hl:DP X J lo l)(hu:DP X J hi u):DO X J (.Subscript a (.Slice lo hi ag p2) pos) (cutD ds l u):=λI H Q R q =>
 (j1l je1 peS poS poS).to (ha I H _ R λt xs H1 g1 sq en=>hl I H1 _ (R.grow g1) λH2 g2=>hu I H2 _ (R.grow (g1.trans g2)) λH3 g3=>⟨t,xs,rfl,(g2.trans g3).seq (W8 sq),λp hp =>
  q p _ _ ((g1.trans (g2.trans g3)).trans (je hp)) ((g1.trans (g2.trans g3)).free hp) jz (Rw hp ((en.mono (jq (g2.trans g3))).cut l u))⟩)
def DE.tupM(ha:DM X J a s ds)(hm:X.mg "tuple"=ag)(hg:Gl X "tuple")(hs:ah [a] X.env=[(ae,aD a X.env)]):DE X J (.Call (.Name "tuple" p) [a] [] pos) (.tup ds):=λI H Q R q =>
 (Vr j0a hg hm boot_tuple (ji peS qe hs) (by decide) (by decide) hs).to (ha I H _ R λl xs H1 g1 sq en=>by
  cases s with
  |true =>
   refine⟨l,xs,rfl,.inl ⟨W8 sq,λt ht=>?_⟩⟩
   have nt:t∉owns J:=(R.grow g1).fresh ht
   exact q _ _ (g1.trans (je ht)) ⟨t,xs,rfl,.inl (.inl (by rw[jd nt];exact jz)),en.mono (jq (je ht))⟩
  |false =>
   refine⟨l,xs,rfl,.inr ⟨Qv sq,?_⟩⟩
   refine q _ _ g1 ⟨l,xs,rfl,?_,en⟩
   have ow:=(R.grow g1).owned
   have out:∀{o:HO},H1 l=aa o->(∀zs,o≠.lst zs)->del H1 (owns J) l=aa o:=λ{o} h z=>by
    rw[jd];exact h
    intro y;obtain⟨zs,e'⟩:=ow l y;rw[h]at e';cases e';exact z zs rfl
   rcases Qv sq with (h|⟨o,h⟩)|h
   .exact .inl (.inl (out h λ_ z=>by cases z))
   .exact .inl (.inr ⟨o,out h λ_ z=>by cases z⟩)
   .exact .inr h)
def DO.listM(ha:DM X J a s ds)(hm:X.mg "list"=ag)(hg:Gl X "list")(hs:ah [a] X.env=[(ae,aD a X.env)]):DO X J (.Call (.Name "list" p) [a] [] pos) ds:=λI H Q R q =>
 (Vr j2z hg hm boot_list (ji peS qe hs) (by decide) (by decide) hs).to (ha I H _ R λl xs H1 g1 sq en =>
  ⟨l,xs,rfl,(by cases s with|true=>exact .inl (W8 sq)|false=>exact .inr (Qv sq)),λp hp=>q p _ _ (g1.trans (je hp)) (g1.free hp) jz (Rw hp en)⟩)
end
def Kd:fillsNumberSlot (.type "tuple") "mul"=pure ae :=
 PySem.fillsNumberSlot_seq (id:="tuple.__mul__") (r:=aa (.builtin "tuple.__rmul__")) PySem.F.slot_tuple_mul.lookup (by decide +kernel) PySem.F.slot_tuple_rmul.lookup (by decide +kernel)
def jeh:seqRepeat? (.type "tuple")=pure (aa (.builtin "tuple.__mul__")):=by
 unfold seqRepeat?;rw[jE (T:="tuple") (name:="__mul__") (id:="tuple.__mul__") PySem.F.slot_tuple_mul.lookup (by decide +kernel),
  jE (T:="tuple") (name:="__rmul__") (id:="tuple.__rmul__") PySem.F.slot_tuple_rmul.lookup (by decide +kernel)]
 rfl
section
variable(a:Int)(t:iD)(l:ak)(its:Array aj)(n:Nat)(d1:Option ak)(sl:Array (Option aj))
def j23:nr (c7.«int.__rmul__» ⟨[.int a t,.ref l],[]⟩) (λ_ R s=>s.heap.get? l=aa ⟨.type "tuple",d1,.seq its n,sl⟩/\R (.ok (.ret Value.notImplemented)) s) :=
 .of_wp λ_ _ _ _ s h=>by
  obtain⟨_,_,_,_,_⟩:=s;obtain⟨hl,h⟩:=h
  wp_walk
  exact⟨_,rfl,h⟩
def ja3:nr (c7.«tuple.__mul__» ⟨[.ref l,.int 1 t],[]⟩) (λ_ R s=>s.heap.get? l=aa ⟨.type "tuple",d1,.seq its n,sl⟩/\R (.ok (.ret (.ref l))) s) :=
 .of_wp λ_ _ _ _ s h=>by
  obtain⟨_,_,_,_,_⟩:=s;obtain⟨hl,h⟩:=h
  wp_walk
  exact⟨_,rfl,h⟩
def ja2(h0:its.isEmpty=ae)(h1:1<a)(h2:a<2^63)(hz:its.size*a.toNat<=au) :
  nr (c7.«tuple.__mul__» ⟨[.ref l,.int a t],[]⟩) (λ_ R s=>s.heap.get? l=aa ⟨.type "tuple",d1,.seq its n,sl⟩ /\
   R (.ok (.ret (.ref s.heap.objs.size))) { s with heap:=s.heap.push { cls:=.type "tuple",data:=.seq (cW (λx y=>x++y) #[] (ax a.toNat its)) } }) :=
 .of_wp λ_ _ _ _ s h=>by
  obtain⟨_,_,_,_,_⟩:=s;obtain⟨hl,h⟩:=h;have c1:(decide (a < -2^63) || decide (a>=2^63))=ae:=by rw[decide_eq_false nofun,decide_eq_false nofun];rfl
  have c2:(its.isEmpty || a==1)=ae:=by rw[h0,beq_eq_false_iff_ne.mpr nofun];rfl
  have c3:(decide (a<=0) || its.isEmpty)=ae:=by rw[h0,decide_eq_false nofun];rfl
  have ea:((its.size*a.toNat:Nat):Int)=(its.size:Int)*a:=by rw[Int.natCast_mul,Int.toNat_of_nonneg nofun]
  have hz':(its.size:Int)*a<=(au:Int):=by rw[<-ea];exact Int.ofNat_le.mpr hz
  have c4:¬(its.size:Int)*a>(2^63-1)/8:=by
   have:(au:Int)<=(2^63-1)/8:=by decide
   omega
  have c5:Builtin.Tuple.tupleTooMany ((its.size:Int)*a)=ae:=by unfold Builtin.Tuple.tupleTooMany;exact decide_eq_false nofun
  have c6:(cW (λx y=>x++y) #[] (ax a.toNat its)).size<=au:=by rw[AutoListH.size_joined,Array.size_empty,cR,fU];exact hz
  wp_walk
  rw[c1]
  wp_walk
  rw[c2]
  wp_walk
  rw[c3]
  wp_walk
  rw[if_neg c4]
  wp_walk
  exact⟨_,rfl,h⟩
end
def jez:OpR X (bO .Mult) (λx y H Q=>∃a k xs,x=.ref a/\y=.int k/\SqT X.K H a xs/\xs≠[]/\1<=k/\k<2^63/\xs.length*k.toNat<=au /\
  (k=1->Q (.ref a) H)/\(1<k->∀p,H p=ag->Q (.ref p) (upd H p (.tup (ax k.toNat xs).flatten)))):=by
 intro pins s I H x y v u Q nI rx ry h;obtain⟨a,k,xs,e1,e2,sq,hne,h1,h2,hz,q1,q2⟩:=h;subst e1 e2;cases rx;obtain⟨t,e⟩:=ry;subst e;obtain⟨us,ru,⟨⟨c1,d1,f1,g1⟩,p1,k1,n1,m1⟩,_⟩:=nI.tuple sq;have k1:c1=.type "tuple":=k1;have m1:f1=.seq us.toArray n1:=m1;subst k1 m1;have lu:=ru.length;have hne':us.toArray.isEmpty=ae:=by
  cases us with
  |nil=>cases ru;exact absurd rfl hne
  |cons _ _=>simp
 refine iC (T:="tuple") (U:="int") (by decide) ⟨_,p1,rfl⟩ (λs'=>gp s' k t) Kd kP eW jeh F.slot_int_index.lookup
  (bX eW (gp s k t) kB (ko _ _) (j23 k t a us.toArray n1 d1 g1) ⟨p1,rfl,⟨_,p1,rfl⟩,?_⟩)
 by_cases hk:k=1
 .subst hk;exact bX kA ⟨_,p1,rfl⟩ ki (jT _ _) (ja3 t a us.toArray n1 d1 g1) ⟨p1,⟨.ref a,H,nI,rfl,q1 rfl⟩⟩
 .have hz':us.toArray.size*k.toNat<=au:=by rw[Xb,<-lu];exact hz
  refine bX kA ⟨_,p1,rfl⟩ ki (jT _ _) (ja2 k t a us.toArray n1 d1 g1 hne' nofun h2 hz') ⟨p1,?_⟩;have hnew:cW (λx1 x2=>x1++x2) #[] (ax k.toNat us.toArray)=(ax k.toNat us).flatten.toArray:=by have:=foldl_rep us k.toNat [];rw[T9]at this;exact this
  rw[hnew];refine⟨.ref _,_,nI.laid (t':=s.toks) (λb o e=>kj _ e) (Xc _) ?_,rfl,q2 nofun _ nI.fresh⟩;exact⟨by rw[len_rep,fU];exact hz,_,ru.rep k.toNat,IsTup.new _ _,Y7.new _ _⟩
def DE.repT(ha:DM X J a ae ds)(hb:DT X J b (.int k))(hne:ds≠[])(h1:1<=k)(h2:k<2^63)(hl:ds.length*k.toNat<=au) :
  DE X J (.BinOp a .Mult b pos) (.tup (ax k.toNat ds).flatten):=λI H Q R q =>
 (Zr jez peS peS).to (ha I H _ R λt xs H1 g1 sq l=>hb I H1 _ (R.grow g1) λu H2 g2 e2=>by
  have l2:=l.mono (jq g2)
  refine⟨t,k,xs,rfl,e2,g2.seqT (Qv sq),?_,h1,h2,by rw[l.length];exact hl,λh=>?_,λh p hp=>?_⟩
  .intro z;subst z
   cases ds with
   |nil=>exact hne rfl
   |cons _ _=>have:=l.length;cases this
  .subst h
   have e:(ax (1:Int).toNat ds).flatten=ds:=by simp
   rw[e]at q
   refine q _ H2 (g1.trans g2) ⟨t,xs,rfl,?_,l2⟩
   have ow:=(R.grow (g1.trans g2)).owned
   have out:∀{o:HO},H2 t=aa o->(∀zs,o≠.lst zs)->del H2 (owns J) t=aa o:=λ{o} h z=>by
    rw[jd];exact h
    intro y;obtain⟨zs,e'⟩:=ow t y;rw[h]at e';cases e';exact z zs rfl
   rcases g2.seqT (Qv sq)with (h|⟨o,h⟩)|h
   .exact .inl (.inl (out h λ_ z=>by cases z))
   .exact .inl (.inr ⟨o,out h λ_ z=>by cases z⟩)
   .exact .inr h
  .have np:p∉owns J:=(R.grow (g1.trans g2)).fresh hp
   exact q _ _ ((g1.trans g2).trans (je hp)) ⟨p,_,rfl,.inl (.inl (by rw[jd np];exact jz)),(l2.rep k.toNat).mono (jq (je hp))⟩)
end L2
end
section
namespace L2
open PySem PySem.Spec PyProof.Rows
noncomputable def Sl.abs:Sl->Sv
 |.un=>.un
 |.val d=>.val d
 |.own _ l=>.own l
 |.raw _ _ x=>.exc x
noncomputable def jc(J:Rho):En:=J.map Sl.abs
def M5{J:Rho}{i:Nat}:(jc J)[i]?=(J[i]?).map Sl.abs:=Xn ..
def Uc{J:Rho}{i:Nat}{d:D}(h:(jc J)[i]?=aa (.val d)):J[i]?=aa (.val d):=by
 rw[M5]at h;cases e:J[i]? with
 |none=>rw[e]at h;cases h
 |some s=>rw[e]at h;cases s<;>cases h;rfl
def jgf{J:Rho}{i:Nat}(h:(jc J)[i]?=aa .un):J[i]?=aa .un:=by
 rw[M5]at h;cases e:J[i]? with
 |none=>rw[e]at h;cases h
 |some s=>rw[e]at h;cases s<;>cases h;rfl
def Jw{J:Rho}{i:Nat}{l:List D}(h:(jc J)[i]?=aa (.own l)):∃a,J[i]?=aa (.own a l):=by
 rw[M5]at h;cases e:J[i]? with
 |none=>rw[e]at h;cases h
 |some s=>rw[e]at h;cases s<;>cases h;exact⟨_,rfl⟩
def Fv{J:Rho}{i:Nat}{x:ao}(h:(jc J)[i]?=aa (.exc x)):∃a o,J[i]?=aa (.raw a o x):=by
 rw[M5]at h;cases e:J[i]? with
 |none=>rw[e]at h;cases h
 |some s=>rw[e]at h;cases s<;>cases h;exact⟨_,_,rfl⟩
def jl{J:Rho}:jc (J.set i s)=(jc J).set i s.abs:=List.map_set ..
noncomputable def Bop.op:Bop->jZ
 |.add=>.Add
 |.sub=>.Sub
 |.mul=>.Mult
 |.fdiv=>.FloorDiv
 |.mod=>.Mod
 |.pow=>.Pow
 |.shl=>.LShift
noncomputable def Cop.op:Cop->ip
 |.lt=>.Lt
 |.le=>.LtE
 |.gt=>.Gt
 |.ge=>.GtE
 |.eq=>.Eq
 |.ne=>.NotEq
 |.isin=>.In
 |.notin=>.NotIn
noncomputable def Bf.name:Bf->ao
 |.len=>"len"
 |.min=>"min"
 |.all=>"all"
 |.tuple=>"tuple"
 |.list=>"list"
 |.sum=>"sum"
 |.int=>"int"
noncomputable def Wj:List ao:=["len","min","max","all","tuple","list","sum","int","any","sorted","isinstance","bool","str","range","zip","enumerate","reversed","ValueError","set","dict"]
noncomputable def Vx(x:ao):Bool:=x.cps.toList.head?==aa 33 || x.cps.toList.head?==aa 63
inductive Nd where
 |e (x:ar)
 |b (x:ar)
 |w (x:ar)
 |a (xs:List ar)
 |i (tg it:ar)
 |o (x:Option ar)
 |c (xs:List ar)
 |p (xs:List ar)
structure Cok(X:Cx)(G:ao->Option D):Prop where
 un':X.A.units+100<bH
 un:X.calm=af->X.A.units+150<bH
 dp:X.calm=af->X.A.depth+4<c8
 bt:∀x∈Wj,X.mg x=ag
 gl:∀x d,Vx x=ae->G x=aa d->∃u v,X.mg x=aa u/\RelV v u/\∀H,Enc X.K H d v
 nd:X.N.Nodup
 po:eR (aB X.prog X.w) X.A X.env X.xe
 ea:Q8 X.K=af
 ec:∀x d,G (bang x)=aa d->x∈qg/\∃o,W.nsIn X.K aw x=aa (aa o)
 el:G "?"=aa (.bl af)->∀c∈qg,∃v,W.nsIn X.K aw c=aa (aa v)
 kin:X.K.In X.base
 ns:X.base.Ns aw X.mg
 kd:∀x l,G (bang x)=aa (.lst l)->Kinds X "_law_kinds" x l
 fn:∀f d,G (qm f)=aa d->∃fa,X.mg f=aa (.ref fa)/\W.keepIn X.K (.ref fa)=af
 pc:∀d,G (qm "Pieces")=aa d->∃C,X.mg "Pieces"=aa (.ref C)/\PcX X C
 gd:X.calm=af->X.A.guards=aa []
 fr:∃(env0:d8)(out0:List d8)(L:ak),X.stack=env0::out0/\env0.frame=aa L/\X.env.frame=aa L
def Gok(X:Cx)(Γ:ao->List D->Rc):Prop:=∀f ds,match Γ f ds with
 |.val d=>Cal X f (spP X.K λds' d'=>ds'=ds/\d'=d)
 |.fresh l=>Cal X f (spF X.K λds' l'=>ds'=ds/\l'=l)
 |.err x=>CalX X f (spX X.K X.mg λds' y=>ds'=ds/\y=x)
 |.mval d k'=>∀g ls (k:Nat) ds',f=mq g->ds=.lst (ls.map D.str)::.int (k:Int)::ds'->∀C,X.mg "Pieces"=aa (.ref C)->CalM X g C λls2 k2 ds2 d2 k2'=>ls2=ls/\k2=k/\ds2=ds'/\d2=d/\k2'=k'
 |.merr x=>∀g ls (k:Nat) ds',f=mq g->ds=.lst (ls.map D.str)::.int (k:Int)::ds'->∀C,X.mg "Pieces"=aa (.ref C)->CalMX X g C λls2 k2 ds2 x2=>ls2=ls/\k2=k/\ds2=ds'/\x2=x
 |.no=>True
def Cok.comp{G:ao->Option D}(h:Cok X G):Cok (cCx X scope C s H fp pn) G:=⟨h.un',h.un,h.dp,h.bt,h.gl,h.nd,bW,h.ea,h.ec,h.el,h.kin,h.ns,h.kd,h.fn,λd e=>let ⟨C,h1,h2⟩:=h.pc d e;⟨C,h1,⟨h2.ex⟩⟩,h.gd,h.fr⟩
theorem Gok.comp(h:Gok X Γ):Gok (cCx X scope C s H fp pn) Γ:=λf ds=>by
 have q:=h f ds;cases e:Γ f ds with
 |val d=>rw[e]at q;exact Cal.comp q
 |fresh l=>rw[e]at q;exact Cal.comp q
 |err x=>rw[e]at q;exact⟨q.ex⟩
 |mval d k=>rw[e]at q;exact λg ls k ds' h1 h2 C h3=>⟨(q g ls k ds' h1 h2 C h3).ex⟩
 |merr x=>rw[e]at q;exact λg ls k ds' h1 h2 C h3=>⟨(q g ls k ds' h1 h2 C h3).ex⟩
 |no=>trivial
inductive HasA(X:Cx)(J:Rho):List ar->List Rk->Prop where
 |nil:HasA X J [] []
 |cons {a:ar} {es:List ar} {r:Rk} {rs:List Rk} (hs:ah (a::es) X.env=(ae,aD a X.env)::ah es X.env):Has X J a r->HasA X J es rs->HasA X J (a::es) (r::rs)
section
variable{X:Cx}{J:Rho}{es:List ar}{rs:List Rk}
theorem HasA.toA:∀{es:List ar}{rs:List Rk}{ds:List D},HasA X J es rs->J6 rs=aa ds->DA X J es ds
 |_,_,_,.nil,q=>by cases q;exact DA.nil
 |_,_,ds,.cons (r:=r) (rs:=rs) hs h t,q=>by
  unfold J6 at q;cases e1:r.st with
  |none=>rw[e1]at q;cases q
  |some d =>
   cases e2:J6 rs with
   |none=>rw[e1,e2]at q;cases q
   |some ds'=>rw[e1,e2]at q;cases q;exact DA.cons (h.toE e1) (t.toA e2) hs
theorem HasA.toT:∀{es:List ar}{rs:List Rk},HasA X J es rs->DTA X J es (rs.map Rk.d)
 |_,_,.nil=>DTA.nil
 |_,_,.cons hs h t=>DTA.cons h.toT t.toT hs
def DO.unfrz(hk:J[i]?=aa (.own a l))(h:DO X (J.set i (.val (.lst l))) e ds)(hn:zc ds=af):DO X J e ds:=λI H Q R q =>
 h I H Q (R.freeze hk) λb xs H' g n m en=>q b xs H' g n m ((en.mono jr).hide (λc hc=>by
  rcases xj.mp hc with z|z
  .rw[z];exact .inl ⟨xs,m⟩
  .exact .inl ((R.grow g).owned c z)) hn)
end
theorem Cy:∀{ds l:List D},Qp f ds=aa l ->
  l=(ds.filter (λd=>(f d).join.isSome)).map (λd=>(f d).join.getD .non)/\∀d∈ds,∃o,f d=aa o
 |[],l,h=>by cases h;exact⟨rfl,λd hd=>nomatch hd⟩
 |d::ds,l,h=>by
  unfold Qp at h;cases e1:f d with
  |none=>rw[e1]at h;cases h
  |some o =>
   cases e2:Qp f ds with
   |none=>rw[e1,e2]at h;cases o<;>cases h
   |some xs =>
    rw[e1,e2]at h;obtain⟨q1,q2⟩:=Cy e2;have mem:∀d'∈d::ds,∃o,f d'=aa o:=λd' hd=>by
     rcases xj.mp hd with z|z
     .subst z;exact⟨o,e1⟩
     .exact q2 d' z
    cases o with
    |none=>cases h;exact⟨by rw[i7 (by rw[e1];simp)];exact q1,mem⟩
    |some x=>cases h;exact⟨by rw[i6 (by rw[e1];rfl),X5,<-q1,e1];rfl,mem⟩
section
variable{X:Cx}{J:Rho}{a b:ar}{d da db:D}{ds ds':List D}{pos:aR}{k:Bool}
def DE.neD(s:Bool)(hu:X.A.units+100<bH)(ha:DT X J a (D.seq s ds))(hb:DT X J b (D.seq s ds'))(hd:D.depL ds<=98)(nd:D.depL ds'<10000):DE X J (.Compare a [.NotEq] [b] pos) (.bl (!Jb ds ds')):=λI H Q R q =>(Qm (j7y hu) peS peS (vo _)).to (ha I H _ R λv H1 g1 e1=>hb I H1 _ (R.grow g1) λu H2 g2 e2=>⟨ds,ds',s,e1.mono g2,e2,hd,nd,q _ H2 (g1.trans g2) rfl⟩)
def DE.notIn(s:Bool)(hu:X.A.units+100<bH)(ha:DT X J a d)(hb:DT X J b (D.seq s ds))(hd:D.depL ds<=98)(nd:d.dep<10000)(hm:aV .NotIn b=ae):DE X J (.Compare a [.NotIn] [b] pos) (.bl (!ds.any λe=>deq e d)):=λI H Q R q =>(Qm (Iz hu) peS peS hm).to (ha I H _ R λv H1 g1 e1=>hb I H1 _ (R.grow g1) λu H2 g2 e2=>⟨d,ds,s,e1.mono g2,e2,hd,nd,q _ H2 (g1.trans g2) rfl⟩)
def DE.in(s:Bool)(hu:X.A.units+100<bH)(ha:DT X J a d)(hb:DT X J b (D.seq s ds))(hd:D.depL ds<=98)(nd:d.dep<10000)(hm:aV .In b=ae):DE X J (.Compare a [.In] [b] pos) (.bl (ds.any λe=>deq e d)):=λI H Q R q =>(Qm (j7z hu) peS peS hm).to (ha I H _ R λv H1 g1 e1=>hb I H1 _ (R.grow g1) λu H2 g2 e2=>⟨d,ds,s,e1.mono g2,e2,hd,nd,q _ H2 (g1.trans g2) rfl⟩)
def W7:∀{b:D}{s:Bool}{l:List D},b.sqv=aa (s,l)->b=D.seq s l
 |.lst _,_,_,h=>by cases h;rfl
 |.dct _ _,_,_,h=>by cases h
 |.sct _,_,_,h=>by cases h
 |.any _,_,_,h=>by cases h
 |.fn _ _,_,_,h=>by cases h
 |.tup _,_,_,h=>by cases h;rfl
 |.non,_,_,h=>by cases h
 |.bl _,_,_,h=>by cases h
 |.int _,_,_,h=>by cases h
 |.str _,_,_,h=>by cases h
def j6e(h:cmpI op i j=aa k)(ha:DT X J a (.int i))(hb:DT X J b (.int j)):DE X J (.Compare a [op.op] [b] pos) (.bl k)/\DB X J (.Compare a [op.op] [b] pos) k:=by
 cases op<;>(first|(cases h;done)|skip)
 .cases h;exact⟨DE.lt ha hb,DB.lt ha hb⟩
 .cases h;exact⟨DE.le ha hb,DB.le ha hb⟩
 .cases h;exact⟨DE.gt ha hb,DB.gt ha hb⟩
 .cases h;exact⟨DE.ge ha hb,DB.ge ha hb⟩
 .cases h;exact⟨DE.eqI ha hb,DB.eqI ha hb⟩
 .cases h;exact⟨DE.neI ha hb,DB.neI ha hb⟩
def Em(hu:X.A.units+100<bH)(h:vd op da db=aa k)(ha:DT X J a da)(hb:DT X J b db)(hm:aV op.op b=ae) :
  DE X J (.Compare a [op.op] [b] pos) (.bl k)/\DB X J (.Compare a [op.op] [b] pos) k:=by
 have inn:∀{r:Bool->Bool},(match db.sqv with|some (_,l)=>if D.depL l<=90/\da.dep<=90 then aa (r (l.any λe=>deq e da))else ag|none=>ag)=aa k->∃s l,DT X J b (D.seq s l)/\D.depL l<=98/\da.dep<10000/\k=r (l.any λe=>deq e da):=λ{r} h=>by
  cases e:db.sqv with
  |none=>rw[e]at h;cases h
  |some p =>
   obtain⟨s,l⟩:=p;rw[e]at h;have h:(if D.depL l<=90/\da.dep<=90 then aa (r (l.any λe=>deq e da))else ag)=aa k:=h;by_cases z:D.depL l<=90/\da.dep<=90
   .rw[if_pos z]at h;cases h;exact⟨s,l,W7 e▸hb,by omega,by omega,rfl⟩
   .rw[if_neg z]at h;cases h
 unfold vd at h;split at h
 .exact j6e h ha hb
 .by_cases z:da.dep<=90/\db.dep<=90
  .rw[if_pos z]at h;cases h;exact⟨DE.eqD hu ha hb nofun nofun,DB.eqD hu ha hb nofun nofun⟩
  .rw[if_neg z]at h;cases h
 .cases h;exact⟨(DE.neS ha hb).eq (by rw[j2l]),(DB.neS ha hb).eq (by rw[j2l])⟩
 .rename_i l m;by_cases z:D.depL l<=90/\D.depL m<=90
  .rw[if_pos z]at h;cases h;exact⟨DE.neD af hu ha hb nofun nofun,DB.neD af hu ha hb nofun nofun⟩
  .rw[if_neg z]at h;cases h
 .cases h;exact⟨DE.inS ha hb hm,DB.inS ha hb hm⟩
 .obtain⟨s,l,hb,hd,nd,e⟩:=inn (r:=id) h;subst e;exact⟨DE.in s hu ha hb hd nd hm,DB.in s hu ha hb hd nd hm⟩
 .obtain⟨s,l,hb,hd,nd,e⟩:=inn (r:=(!·)) h;subst e;exact⟨DE.notIn s hu ha hb hd nd hm,DB.notIn s hu ha hb hd nd hm⟩
 .cases h
def qi{α:Type}[Decidable c]{x y:α}(h:(if c then aa x else ag)=aa y):c/\x=y:=by
 by_cases z:c
 .rw[if_pos z]at h;exact⟨z,aJ h⟩
 .rw[if_neg z]at h;cases h
def j6i(h:binI op i j=aa n)(ha:DT X J a (.int i))(hb:DT X J b (.int j)):DE X J (.BinOp a op.op b pos) (.int n):=by
 cases op
 .cases h;exact DE.add ha hb
 .cases h;exact DE.sub ha hb
 .obtain⟨z,e⟩:=qi h;subst e;exact DE.mul ha hb z
 .obtain⟨z,e⟩:=qi h;subst e;exact DE.fdivB ha hb z
 .obtain⟨z,e⟩:=qi h;subst e;exact DE.mod ha hb z
 .obtain⟨z,e⟩:=qi h;subst e;exact DE.pow ha hb z
 .obtain⟨z,e⟩:=qi h;subst e;exact DE.shl ha hb z
def z8(h:jm n=af):n<=au:=of_decide_eq_true h
end
section
variable{X:Cx}{J:Rho}{a b e:ar}{es:List ar}{d:D}{pos p:aR}
theorem Has.lw:∀{r:Rk}{l:List D},Has X J a r->r.lw=aa l->DL X J a l
 |.o l,_,h,q=>by cases q;exact DO.toL h
 |.w l,_,h,q=>by cases q;exact h
 |.e _,_,_,q=>by cases q
 |.t _,_,_,q=>by cases q
def j9n(h:V3 op x y=aa r)(ha:Has X J a x)(hb:Has X J b y):Has X J (.BinOp a op.op b pos) r:=by
 unfold V3 at h;split at h
 .rename_i i j e1 e2;cases z:binI op i j with
  |none=>rw[z]at h;cases h
  |some n=>rw[z]at h;cases h;exact j6i z (e1▸ha.toT) (e2▸hb.toT)
 .rename_i y z e1 e2;split at h
  .obtain⟨q,e⟩:=qi h;subst e;exact DE.catS (e1▸ha.toT) (e2▸hb.toT) (z8 q)
  .cases h
 .rename_i y S e1 e2;split at h
  .obtain⟨q,e⟩:=qi h;subst e;exact DE.addA (e1▸ha.toT) (e2▸hb.toT) q
  .cases h
 .rename_i S z e1 e2;split at h
  .obtain⟨q,e⟩:=qi h;subst e;exact DE.addB (e1▸ha.toT) (e2▸hb.toT) q
  .cases h
 .rename_i y k e1 e2;split at h
  .obtain⟨q,e⟩:=qi h;subst e;exact DE.mulS (e1▸ha.toT) (e2▸hb.toT) q.1 q.2
  .cases h
 .split at h
  .rename_i l m _ e1 e2;obtain⟨z,q⟩:=qi h;subst q;exact DO.catM (ha.toM e1) (hb.toM e2) (z8 z)
  .rename_i l m _ e1 e2;obtain⟨z,q⟩:=qi h;subst q;exact DE.catTM (ha.toM e1) (hb.toM e2) (z8 z)
  .rename_i l k _ _ e1 e3;obtain⟨z,q⟩:=qi h;subst q;exact DE.repT (ha.toM e1) (e3▸hb.toT) (λe=>by subst e;exact absurd z.2.2.1 (by simp)) z.1 z.2.1 (z8 z.2.2.2)
  .rename_i k _ _ _ e3 _;cases e:x.lw with
   |none=>rw[e]at h;cases h
   |some l =>rw[e]at h;obtain⟨z,q⟩:=qi h;subst q;exact DO.rep (ha.lw e) (e3▸hb.toT) z.1 z.2.1 (z8 z.2.2)
  .cases h
theorem Ld:∀{l:List D}{bs:List Bool},boolsOf l=aa bs->l=bs.map D.bl
 |[],_,h=>by cases h;rfl
 |.bl b::r,bs,h=>by
  unfold boolsOf at h;cases e:boolsOf r with
  |none=>rw[e]at h;cases h
  |some q=>rw[e]at h;cases h;rw[Ld e];rfl
 |.non::_,_,h=>by cases h
 |.int _::_,_,h=>by cases h
 |.str _::_,_,h=>by cases h
 |.tup _::_,_,h=>by cases h
 |.lst _::_,_,h=>by cases h
 |.dct _ _::_,_,h=>by cases h
 |.sct _::_,_,h=>by cases h
 |.any _::_,_,h=>by cases h
 |.fn _ _::_,_,h=>by cases h
theorem Vu:∀{l:List D}{bs:zo},intsOf l=aa bs->l=bs.map D.int
 |[],_,h=>by cases h;rfl
 |.int b::r,bs,h=>by
  unfold intsOf at h;cases e:intsOf r with
  |none=>rw[e]at h;cases h
  |some q=>rw[e]at h;cases h;rw[Vu e];rfl
 |.non::_,_,h=>by cases h
 |.bl _::_,_,h=>by cases h
 |.str _::_,_,h=>by cases h
 |.tup _::_,_,h=>by cases h
 |.lst _::_,_,h=>by cases h
 |.dct _ _::_,_,h=>by cases h
 |.sct _::_,_,h=>by cases h
 |.any _::_,_,h=>by cases h
 |.fn _ _::_,_,h=>by cases h
theorem Mh:∀{l:List D}{bs:List ao},strsOf l=aa bs->l=bs.map D.str
 |[],_,h=>by cases h;rfl
 |.str b::r,bs,h=>by
  unfold strsOf at h;cases e:strsOf r with
  |none=>rw[e]at h;cases h
  |some q=>rw[e]at h;cases h;rw[Mh e];rfl
 |.non::_,_,h=>by cases h
 |.bl _::_,_,h=>by cases h
 |.int _::_,_,h=>by cases h
 |.tup _::_,_,h=>by cases h
 |.lst _::_,_,h=>by cases h
 |.dct _ _::_,_,h=>by cases h
 |.sct _::_,_,h=>by cases h
 |.any _::_,_,h=>by cases h
 |.fn _ _::_,_,h=>by cases h
def J4{w:Option W}(h:truth w=aa k):∃r,w=aa (.v r)/\r.d=.bl k:=by
 unfold truth at h;split at h
 .rename_i r;split at h
  .rename_i q e;cases h;exact⟨r,rfl,e⟩
  .cases h
 .cases h
def j36(X:Cx)(J:Rho):List ar->List Rk->Prop
 |[],[]=>True
 |e::es,r::rs=>(∀y,qz r.d=aa y->DE X J e (.str y))/\j36 X J es rs
 |_,_=>False
theorem j36.all:∀{es:List ar}{rs:List Rk}{ys:List ao},j36 X J es rs->J2 rs=aa ys->DPs X J es ys/\ys.length=rs.length
 |[],[],ys,_,q=>by cases q;exact⟨trivial,rfl⟩
 |e::es,r::rs,ys,h,q=>by
  unfold J2 at q;cases e1:qz r.d with
  |none=>rw[e1]at q;cases q
  |some y =>
   cases e2:J2 rs with
   |none=>rw[e1,e2]at q;cases q
   |some ys' =>rw[e1,e2]at q;cases q;obtain⟨z1,z2⟩:=j36.all h.2 e2;exact⟨⟨h.1 y e1,z1⟩,by rw[xn,xn,z2]⟩
 |[],_::_,_,h,_=>h.elim
 |_::_,[],_,h,_=>h.elim
def log2_small(h:-18446744073709551616<i/\i<18446744073709551616):i.natAbs.log2<1920:=by
 by_cases z:i.natAbs=0
 .rw[z];decide
 .have e:(2:Nat)^64=18446744073709551616:=by decide
  have:i.natAbs.log2<64:=(mQ z).mpr (by rw[e];omega);omega
def j7d(h:qz d=aa y):y.length<=10000:=by
 cases d with
 |int i =>
  simp only[qz]at h;split at h
  .rename_i q;cases h;have:=int_text_length_le (k:=1920) (by decide) (log2_small q);rw[PySem.ofString_length];omega
  .cases h
 |str z =>
  simp only[qz]at h;split at h
  .rename_i q;cases h;exact q
  .cases h
 |_=>cases h
theorem Bs:∀{rs:List Rk}{ys:List ao},J2 rs=aa ys->∀y∈ys,y.length<=10000
 |[],_,q=>by cases q;exact λy hy=>nomatch hy
 |r::rs,ys,q=>by
  unfold J2 at q;cases e1:qz r.d with
  |none=>rw[e1]at q;cases q
  |some y =>
   cases e2:J2 rs with
   |none=>rw[e1,e2]at q;cases q
   |some ys' =>
    rw[e1,e2]at q;cases q;intro z hz;rcases xj.mp hz with rfl|hz
    .exact j7d e1
    .exact Bs e2 z hz
def DE.fmt{X:Cx}(hg:X.A.guards=aa [])(hu:X.A.units+100<bH)(ha:DT X J a d)(h:qz d=aa y):DE X J (.FormattedValue a (-1) ag pos) (.str y):=by
 cases d with
 |int i =>
  simp only[qz]at h;split at h
  .rename_i q;cases h;exact DE.fmtI ha (log2_small q)
  .cases h
 |str z =>
  simp only[qz]at h;split at h
  .rename_i q;cases h;exact DE.fmtS ha (by rw[bN];omega)
  .cases h
 |_=>cases h
def jlo(Γ:ao->List D->Rc)(G:ao->Option D)(X:Cx)(t:Ex):Nd->Prop
 |.e e=>∀J r,ev Γ G t (jc J)=aa (.v r)->Has X J e r
 |.b e=>∀J k,truth (ev Γ G t (jc J))=aa k->DB X J e k
 |.w e=>∀J k,truth (ev Γ G t (jc J))=aa k->DW X J e k
 |.a es=>∀J rs,ev Γ G t (jc J)=aa (.a rs)->HasA X J es rs
 |.i tg it=>∀J ds,ev Γ G t (jc J)=aa (.i ds)->DI X J tg it ds
 |.o e=>∀J o,Qh (ev Γ G t (jc J))=aa o->DP X J e o
 |.p es=>∀J rs,ev Γ G t (jc J)=aa (.a rs)->j36 X J es rs
 |.c ifs=>∀J,(ev Γ G t (jc J)=aa (.a [])->DTs X J ifs af)/\∀y k,ev Γ G t (jc J)=aa (.a [y])->y.d=.bl k->DTs X J ifs k
end
section
variable{Γ:ao->List D->Rc}{G:ao->Option D}{X:Cx}
def N8
  (hit:∀J ds,ev Γ G it' (jc J)=aa (.i ds)->DI X J tg it ds)
  (hb:∀J d ρ2,vf is d (jc J)=aa ρ2->(∀j∈is,J[j]?=aa .un)->∃J',jc J'=ρ2/\Wk J' J/\owns J'=owns J/\∀C s H fp pn,DG (cCx X scope C s H fp pn) J tg d J')
  (he:∀C s H fp pn J r,ev Γ G elt' (jc J)=aa (.v r)->Has (cCx X scope C s H fp pn) J elt r)
  (hc:∀C s H fp pn J,(ev Γ G c' (jc J)=aa (.a [])->DTs (cCx X scope C s H fp pn) J ifs af)/\∀y k,ev Γ G c' (jc J)=aa (.a [y])->y.d=.bl k->DTs (cCx X scope C s H fp pn) J ifs k)
  (h:ev Γ G (.comp is elt' it' c') (jc J)=aa (.v r)):∃(l:List D)(ρf:Rho)(ds:List D)(pr:D->Bool)(g:D->D),r=.o l/\l=(ds.filter pr).map g /\
   (ρf=J\/(zc l=af/\∃(i:Nat)(a:ak)(l':List D),J[i]?=aa (.own a l')/\ρf=J.set i (.val (.lst l'))))/\DI X ρf tg it ds/\(∀j∈is,ρf[j]?=aa .un)/\ds.length<=au /\
   (∀C s H fp pn,∀d∈ds,∃ρ2,DG (cCx X scope C s H fp pn) ρf tg d ρ2/\Wk ρ2 ρf/\owns ρ2=owns ρf/\DTs (cCx X scope C s H fp pn) ρ2 ifs (pr d)/\(pr d=af->DE (cCx X scope C s H fp pn) ρ2 elt (g d))):=by
 have fr:∃ρf,jc ρf=frz it' (jc J)/\((Jf it' (jc J)=ae/\ρf=J)\/(Jf it' (jc J)=af/\∃i a l,J[i]?=aa (.own a l)/\ρf=J.set i (.val (.lst l)))):=by
  by_cases z:Jf it' (jc J)=af
  .unfold Jf at z;split at z
   .rename_i i ei;split at z
    .rename_i l e;obtain⟨a,q⟩:=Jw e;refine⟨J.set i (.val (.lst l)),?_,.inr ⟨?_,i,a,l,q,rfl⟩⟩
     .rw[jl];simp only[frz,ei,e,Sl.abs]
     .simp only[Jf,ei,e]
    .cases z
   .cases z
  .have z':Jf it' (jc J)=ae:=by simpa using z
   refine⟨J,?_,.inl ⟨z',rfl⟩⟩;unfold frz;split
   .rename_i i ei;split
    .rename_i l e;simp only[Jf,ei,e]at z';cases z'
    .rfl
   .rfl
 obtain⟨ρf,ef,fr⟩:=fr;rw[jld]at h;rw[<-ef]at h;split at h
 .rename_i ds hds;split at h
  .rename_i hz;obtain⟨hfree,hlen⟩:=hz;generalize hf:(λd=>_:D->Option (Option D))=f at h;cases hl:Qp f ds with
   |none=>rw[hl]at h;cases h
   |some l =>
    rw[hl]at h;have h:(if (Jf it' (jc J) && !zc l)=af then ag else aa (W.v (.o l)))=aa (.v r):=h;by_cases zz:(Jf it' (jc J) && !zc l)=af
    .rw[if_pos zz]at h;cases h
    .rw[if_neg zz]at h;cases h;obtain⟨el,hmem⟩:=Cy hl;have hun:∀j∈is,ρf[j]?=aa .un:=λj hj=>by
      have:=Xf.mp hfree j hj;split at this
      .rename_i e;exact jgf e
      .cases this
     refine⟨l,ρf,ds,_,_,rfl,el,?_,hit ρf ds hds,hun,z8 hlen,λC s H fp pn d hd=>?_⟩
     .rcases fr with ⟨_,e⟩|⟨e1,i,a,l',hk,e⟩
      .exact .inl e
      .exact .inr ⟨by rw[e1]at zz;simpa using zz,i,a,l',hk,e⟩
     ·
      obtain⟨o,ho⟩:=hmem d hd;rw[<-hf]at ho ⊢;dsimp only at ho ⊢;cases hb2:vf is d (jc ρf) with
      |none=>rw[hb2]at ho;cases ho
      |some ρ2 =>
       obtain⟨J',e',wk,ow,dg⟩:=hb ρf d ρ2 hb2 hun;subst e';refine⟨J',dg C s H fp pn,wk,ow,?_⟩;rw[hb2]at ho;dsimp only at ho ⊢;cases hcv:ev Γ G c' (jc J') with
       |none=>rw[hcv]at ho;cases ho
       |some w =>
        rw[hcv]at ho;split at ho
        .rename_i hw;cases hw;cases hev:ev Γ G elt' (jc J') with
         |none=>rw[hev]at ho;cases ho
         |some w =>
          rw[hev]at ho;cases w with
          |i _=>cases ho
          |a _=>cases ho
          |v x =>
           dsimp only at ho ⊢;cases hst:x.st with
           |none=>rw[hst]at ho;cases ho
           |some y =>simp only[hst,g9,iX,fm,T3];exact⟨((hc C s H fp pn J').1 hcv),λ_=>(he C s H fp pn J' x hev).toE hst⟩
        .rename_i y hw;cases hw;split at ho
         .rename_i e1;cases hev:ev Γ G elt' (jc J') with
          |none=>rw[hev]at ho;cases ho
          |some w =>
           rw[hev]at ho;cases w with
           |i _=>cases ho
           |a _=>cases ho
           |v x =>
            dsimp only at ho ⊢;cases hst:x.st with
            |none=>rw[hst]at ho;cases ho
            |some z =>simp only[e1,hst,g9,iX,fm,T3];exact⟨(hc C s H fp pn J').2 y af hcv e1,λ_=>(he C s H fp pn J' x hev).toE hst⟩
         .rename_i e1;simp only[e1,Option.join,fS];exact⟨(hc C s H fp pn J').2 y ae hcv e1,λz=>by cases z⟩
         .cases ho
        .cases ho
  .cases h
 .cases h
def j6c{scope:bJ}(hq:X.calm=af)(hX:Cok X G)
  (hit:∀J ds,ev Γ G it' (jc J)=aa (.i ds)->DI X J tg it ds) (hkind:scope.kind=.function) (hok:Jo scope X.env X.N is=af) (hs:∀x,b8 it X.env x=pure x)
  (hb:∀J d ρ2,vf is d (jc J)=aa ρ2->(∀j∈is,J[j]?=aa .un)->∃J',jc J'=ρ2/\Wk J' J/\owns J'=owns J/\∀C s H fp pn,DG (cCx X scope C s H fp pn) J tg d J')
  (he:∀C s H fp pn J r,ev Γ G elt' (jc J)=aa (.v r)->Has (cCx X scope C s H fp pn) J elt r)
  (hc:∀C s H fp pn J,(ev Γ G c' (jc J)=aa (.a [])->DTs (cCx X scope C s H fp pn) J ifs af)/\∀y k,ev Γ G c' (jc J)=aa (.a [y])->y.d=.bl k->DTs (cCx X scope C s H fp pn) J ifs k)
  (h:ev Γ G (.comp is elt' it' c') (jc J)=aa (.v r)):∃l,r=.o l/\DO X J (.ListComp elt [⟨tg,it,ifs,0⟩] scope p) l:=by
 obtain⟨l,ρf,ds,pr,g,er,el,hf,hi,hun,hz,hb'⟩:=N8 hit hb he hc h;refine⟨l,er,?_⟩;have main:DO X ρf (.ListComp elt [⟨tg,it,ifs,0⟩] scope p) ((ds.filter pr).map g):=DO.comp is _ _ hi hb' hun hz hq hkind hok hs;rw[<-el]at main;rcases hf with e|⟨hn,i,a,l',hk,e⟩
 .subst e;exact main
 .subst e;exact DO.unfrz hk main hn
end
section
variable{X:Cx}{J:Rho}{a b e:ar}{es:List ar}{d:D}{pos p:aR}
def Has.map(h:∀I H Q,Jq X a I H Q->Jq X e I H Q):∀{r:Rk},Has X J a r->Has X J e r
 |.e _,q=>λI H Q R z=>h I H Q (q I H Q R z)
 |.o _,q=>λI H Q R z=>h I H Q (q I H Q R z)
 |.w _,q=>λI H Q R z=>h I H Q (q I H Q R z)
 |.t _,q=>λI H Q R z=>h I H Q (q I H Q R z)
theorem Has.bl(h:Has X J a r)(e:r.d=.bl k):DE X J a (.bl k):=DT.toE (e▸h.toT)
def Qi{G:ao->Option D}(c:Cok X G)(hq:f=.min\/f=.all\/f=.sum->X.calm=af)(hg:Gl X f.name)(h:Zb f rs=aa r)(ha:HasA X J es rs):Has X J (.Call (.Name f.name p) es [] p2) r:=by
 have one:∀{x:Rk},HasA X J es [x]->∃e,es=[e]/\Has X J e x/\ah [e] X.env=[(ae,aD e X.env)]:=λ{x} h=>by cases h with|cons hs h t=>cases t;exact⟨_,rfl,h,hs⟩
 have two:∀{x y:Rk},HasA X J es [x,y]->∃e f,es=[e,f]/\Has X J e x/\Has X J f y/\ah [e,f] X.env=(ae,aD e X.env)::ah [f] X.env/\ah [f] X.env=[(ae,aD f X.env)]:=λ{x y} h=>by cases h with|cons hs h t=>cases t with|cons hs2 h2 t2=>cases t2;exact⟨_,_,rfl,h,h2,hs,hs2⟩
 unfold Zb at h;split at h
 .rename_i x;obtain⟨e,ee,hx,hs⟩:=one ha;subst ee;split at h
  .rename_i l el;cases h;exact DE.lenL (el▸hx.toT) (c.bt _ (by decide)) hg hs
  .rename_i l el;cases h;exact DE.lenT (el▸hx.toT) (c.bt _ (by decide)) hg hs
  .rename_i y el;obtain⟨z,q⟩:=qi h;subst q;exact DE.lenS (el▸hx.toT) (z8 z) (c.bt _ (by decide)) hg hs
  .cases h
 .rename_i x y;obtain⟨e,f,ee,hx,hy,hs,hs2⟩:=two ha;subst ee;split at h
  .rename_i i j ei ej;cases h;exact DE.min (ei▸hx.toT) (ej▸hy.toT) (c.bt _ (by decide)) (hq (.inl rfl)) hg hs hs2 (by rw[hs2];rfl)
  .cases h
 .rename_i x;obtain⟨e,ee,hx,hs⟩:=one ha;subst ee;split at h
  .rename_i l el;cases q:boolsOf l with
   |none=>rw[q]at h;cases h
   |some bs =>rw[q]at h;cases h;have:=Ld q;subst this;exact DE.all (el▸hx.toT) (c.bt _ (by decide)) (hq (.inr (.inl rfl))) hg hs
  .cases h
 .rename_i x;obtain⟨e,ee,hx,hs⟩:=one ha;subst ee;split at h
  .rename_i s l el;cases h;exact DE.tupM (hx.toM el) (c.bt _ (by decide)) hg hs
  .cases h
 .rename_i x;obtain⟨e,ee,hx,hs⟩:=one ha;subst ee;split at h
  .rename_i s l el;cases h;exact DO.listM (hx.toM el) (c.bt _ (by decide)) hg hs
  .cases h
 .rename_i x;obtain⟨e,ee,hx,hs⟩:=one ha;subst ee;split at h
  .rename_i l el;cases q:intsOf l with
   |none=>rw[q]at h;cases h
   |some ns =>rw[q]at h;cases h;have:=Vu q;subst this;exact DE.sum af (show DT X J e (.lst (ns.map D.int))from el▸hx.toT) (c.bt _ (by decide)) (hq (.inr (.inr rfl))) hg hs
  .rename_i l el;cases q:intsOf l with
   |none=>rw[q]at h;cases h
   |some ns =>rw[q]at h;cases h;have:=Vu q;subst this;exact DE.sum ae (show DT X J e (.tup (ns.map D.int))from el▸hx.toT) (c.bt _ (by decide)) (hq (.inr (.inr rfl))) hg hs
  .cases h
 .rename_i x;obtain⟨e,ee,hx,hs⟩:=one ha;subst ee;split at h
  .rename_i k el;cases h;exact DE.int1 (el▸hx.toT) (c.bt _ (by decide)) hg hs
  .rename_i y el;split at h
   .rename_i hl;obtain⟨n,hn,rfl⟩:=T7.mp h;exact DE.intS (el▸hx.toT) hn hl (c.bt _ (by decide)) hg hs
   .cases h
  .cases h
 .cases h
end
section
variable{Γ:ao->List D->Rc}{G:ao->Option D}{X:Cx}
def j6g(g:Gok X Γ)(hg:Gl X f)(hdb:(f==k89)=ae)(he:ah (e::es) X.env=(ae,aD e X.env)::ah es X.env)
  (hpl:(aS p2 (ah es X.env)).any (·.1)=ae) (ha:HasA X J (e::es) rs)
  (h:(match J6 rs with|some ds=>(Γ f ds).rk.map W.v|none=>match Γ f (rs.map Rk.d)with|.val d=>aa (.v (.t d))|.fresh l=>if zc l=af then aa (.v (.o l))else ag|_=>ag)=aa (.v r)):Has X J (.Call (.Name f p) (e::es) [] p2) r:=by
 split at h
 .rename_i ds hds;have q:=g f ds;cases z:Γ f ds with
  |val d=>rw[z]at h q;cases h;exact DE.call q (ha.toA hds) ⟨rfl,rfl⟩ hg hdb he hpl
  |fresh l=>rw[z]at h q;cases h;exact DO.call q (ha.toA hds) ⟨rfl,rfl⟩ hg hdb he hpl
  |err x=>rw[z]at h;cases h
  |mval d k=>rw[z]at h;cases h
  |merr x=>rw[z]at h;cases h
  |no=>rw[z]at h;cases h
 .have q:=g f (rs.map Rk.d);split at h
  .rename_i d z;rw[z]at q;cases h;exact DT.call q ha.toT ⟨rfl,rfl⟩ hg hdb he hpl
  .rename_i l z;rw[z]at q;obtain⟨hn,e1⟩:=qi h;cases e1;exact DO.callT q ha.toT ⟨rfl,rfl⟩ hn hg hdb he hpl
  .cases h
def jhk(h:ev Γ G (.rpr a) J=aa (.v r)):∃x y,ev Γ G a J=aa (.v x)/\x.d=.str y/\(aK y).length<=2000/\r=.e (.str (aK y)):=by
 rw[jot]at h;split at h
 .rename_i x ex;split at h
  .rename_i y ey;split at h
   .rename_i hl;cases h;exact⟨x,y,ex,ey,hl,rfl⟩
   .cases h
  .cases h
 .cases h
end
def XM(X:Cx)(J:Rho)(y:ao):Nd->Prop
 |.e e=>DX X J e y
 |.a es=>DXA X J es y
 |_=>True
structure Tr(X:Cx)(t:Ex)(nd:Nd):Prop where
 m:∀(Γ:ao->List D->Rc)(G:ao->Option D),Cok X G->Gok X Γ->jlo Γ G X t nd
 x:∀(Γ:ao->List D->Rc)(G:ao->Option D),Cok X G->Gok X Γ->∀J y,er Γ G t (jc J)=aa y->XM X J y nd
theorem Tr.int:∀{X:Cx}{i:Int}{n:Nat}{p:aR},Tr X (.lit (.int i)) (.e (.Constant (.int i) n p)):=by intro _ _ _ _;refine⟨λΓ G=>?_,λ_ _ _ _ _ _ h=>nomatch h⟩;intro _ _ J r h;simp only[j0s]at h;cases h;exact DE.int
theorem Tr.bl:∀{X:Cx}{b:Bool}{n:Nat}{p:aR},Tr X (.lit (.bl b)) (.e (.Constant (.bool b) n p)):=by intro _ _ _ _;refine⟨λΓ G=>?_,λ_ _ _ _ _ _ h=>nomatch h⟩;intro _ _ J r h;simp only[j0s]at h;cases h;exact DE.bl
theorem Tr.str:∀{X:Cx}{y:ao}{n:Nat}{p:aR},Tr X (.lit (.str y)) (.e (.Constant (.str y) n p)):=by intro _ _ _ _;refine⟨λΓ G=>?_,λ_ _ _ _ _ _ h=>nomatch h⟩;intro _ _ J r h;simp only[j0s]at h;cases h;exact DE.str
theorem Tr.var:∀{X:Cx}{k:Nat}{x:ao}{p:aR}(hN:X.N[k]?=aa x) (hv:Vis X.env.scope x) (hd:(x==k89)=ae) (hcd:(x==k8a)=ae),Tr X (.var k) (.e (.Name x p)):=by
 intro _ _ _ _ hN hv hd hcd;refine⟨λΓ G=>?_,λ_ _ _ _ _ _ h=>nomatch h⟩;intro _ _ J r h;simp only[joo,Ln]at h;split at h
 .rename_i e;cases h;exact DE.var _ (Uc e) hN hv hd hcd
 .rename_i e;cases h;obtain⟨a,q⟩:=Jw e;exact DL.var _ q hN hv hd hcd
 .cases h
theorem Tr.glob:∀{X:Cx}{x:ao}{p:aR}(hg:Gl X x)(hd:(x==k89)=ae) (hb:Vx x=ae),Tr X (.glob x) (.e (.Name x p)):=by
 intro _ _ _ hg hd hb;refine⟨λΓ G=>?_,λ_ _ _ _ _ _ h=>nomatch h⟩;rename_i X x p;intro c _ J r h;simp only[jlb]at h;cases e:G x with
 |none=>rw[e]at h;cases h
 |some d=>rw[e]at h;cases h;obtain⟨u,v,hm,r,q⟩:=c.gl x d hb e;exact DE.glob hg hm r q hd
theorem Tr.bin:∀{X:Cx}{op:Bop}{a' b':Ex}{a b:ar}{p:aR},Tr X a' (.e a)->Tr X b' (.e b)->Tr X (.bin op a' b') (.e (.BinOp a op.op b p)):=by
 intro _ _ _ _ _ _ _ q0 q1;refine⟨λΓ G=>?_,λ_ _ _ _ _ _ h=>nomatch h⟩;have iha:=q0.m Γ G;have ihb:=q1.m Γ G;intro c g J r h;simp only[jp4,vm]at h;split at h
 .rename_i x y ex ey;cases e:V3 _ x y with
  |none=>rw[e]at h;cases h
  |some z=>rw[e]at h;cases h;exact j9n e (iha c g J x ex) (ihb c g J y ey)
 .cases h
theorem Tr.neg:∀{X:Cx}{a':Ex}{a:ar}{p:aR},Tr X a' (.e a)->Tr X (.neg a') (.e (.UnaryOp .USub a p)):=by
 intro _ _ _ _ q0;refine⟨λΓ G=>?_,λ_ _ _ _ _ _ h=>nomatch h⟩;have iha:=q0.m Γ G;intro c g J r h;simp only[jow,j1u]at h;split at h
 .rename_i x ex;split at h
  .rename_i i e;cases h;exact DE.neg (e▸(iha c g J x ex).toT)
  .cases h
 .cases h
theorem Tr.cmp:∀{X:Cx}{op:Cop}{a' b':Ex}{a b:ar}{p:aR}(hm:aV op.op b=ae),Tr X a' (.e a)->Tr X b' (.e b)->Tr X (.cmp op a' b') (.e (.Compare a [op.op] [b] p)):=by
 intro _ _ _ _ _ _ _ hm q0 q1;refine⟨λΓ G=>?_,λ_ _ _ _ _ _ h=>nomatch h⟩;have iha:=q0.m Γ G;have ihb:=q1.m Γ G;intro c g J r h;simp only[jdh,Ia]at h;split at h
 .rename_i x y ex ey;cases e:vd _ x.d y.d with
  |none=>rw[e]at h;cases h
  |some z=>rw[e]at h;cases h;exact(Em c.un' e (iha c g J x ex).toT (ihb c g J y ey).toT hm).1
 .cases h
def Tr.bcmp:∀{X:Cx}{op:Cop}{a' b':Ex}{a b:ar}{p:aR}(hm:aV op.op b=ae),Tr X a' (.e a)->Tr X b' (.e b)->Tr X (.cmp op a' b') (.b (.Compare a [op.op] [b] p)):=by
 intro _ _ _ _ _ _ _ hm q0 q1;refine⟨λΓ G=>?_,λ_ _ _ _ _ _ _=>trivial⟩;have iha:=q0.m Γ G;have ihb:=q1.m Γ G;intro c g J k h;obtain⟨r,h,hk⟩:=J4 h;simp only[jdh,Ia]at h;split at h
 .rename_i x y ex ey;cases e:vd _ x.d y.d with
  |none=>rw[e]at h;cases h
  |some z=>rw[e]at h;cases h;cases hk;exact(Em c.un' e (iha c g J x ex).toT (ihb c g J y ey).toT hm).2
 .cases h
def Tr.one:∀{X:Cx}{a':Ex}{a:ar}{op:BoolOp}{p:aR},Tr X a' (.e a)->Tr X a' (.e (.BoolOp op [a] p)):=by intro _ _ _ _ _ q0;refine⟨λΓ G=>?_,λΓ G c g J y h I H Q R k=>(j7w peS).to (q0.x Γ G c g J y h I H Q R k)⟩;have iha:=q0.m Γ G;intro c g J r h;exact Has.map (λI H Q q=>(j7w peS).to q) (iha c g J r h)
theorem Tr.and:∀{X:Cx}{a' t':Ex}{a b:ar}{rest:List ar}{p:aR},Tr X a' (.e a)->Tr X t' (.e (.BoolOp .And (b::rest) p))->Tr X (.and a' t') (.e (.BoolOp .And (a::b::rest) p)):=by
 intro _ _ _ _ _ _ _ q0 q1;refine⟨λΓ G=>?_,λ_ _ _ _ _ _ h=>nomatch h⟩;have iha:=q0.m Γ G;have ihb:=q1.m Γ G;intro c g J r h;simp only[jdi]at h;split at h
 .rename_i e;cases h;obtain⟨x,ex,ed⟩:=J4 e;exact(DE.and (m:=ae) ((iha c g J x ex).bl ed).toT λz=>by cases z)
 .rename_i e;obtain⟨x,ex,ed⟩:=J4 e;cases e2:truth (ev Γ G _ (jc J)) with
  |none=>rw[e2]at h;cases h
  |some k =>rw[e2]at h;cases h;obtain⟨y,ey,fd⟩:=J4 e2;exact(DE.and ((iha c g J x ex).bl ed).toT λ_=>(ihb c g J y ey).bl fd).eq (by simp)
 .cases h
theorem Tr.or:∀{X:Cx}{a' t':Ex}{a b:ar}{rest:List ar}{p:aR},Tr X a' (.e a)->Tr X t' (.e (.BoolOp .Or (b::rest) p))->Tr X (.or a' t') (.e (.BoolOp .Or (a::b::rest) p)):=by
 intro _ _ _ _ _ _ _ q0 q1;refine⟨λΓ G=>?_,λ_ _ _ _ _ _ h=>nomatch h⟩;have iha:=q0.m Γ G;have ihb:=q1.m Γ G;intro c g J r h;simp only[jl8]at h;split at h
 .rename_i e;cases h;obtain⟨x,ex,ed⟩:=J4 e;exact(DE.or (m:=ae) ((iha c g J x ex).bl ed).toT λz=>by cases z)
 .rename_i e;obtain⟨x,ex,ed⟩:=J4 e;cases e2:truth (ev Γ G _ (jc J)) with
  |none=>rw[e2]at h;cases h
  |some k =>rw[e2]at h;cases h;obtain⟨y,ey,fd⟩:=J4 e2;exact(DE.or ((iha c g J x ex).bl ed).toT λ_=>(ihb c g J y ey).bl fd).eq (by simp)
 .cases h
def Tr.wand1:∀{X:Cx}{a':Ex}{a:ar}{p:aR},Tr X a' (.b a)->Tr X a' (.w (.BoolOp .And [a] p)):=by intro _ _ _ _ q0;refine⟨λΓ G=>?_,λ_ _ _ _ _ _ _=>trivial⟩;have iha:=q0.m Γ G;intro c g J k h;exact DW.and1 (iha c g J k h)
def Tr.wor1:∀{X:Cx}{a':Ex}{a:ar}{p:aR},Tr X a' (.b a)->Tr X a' (.w (.BoolOp .Or [a] p)):=by intro _ _ _ _ q0;refine⟨λΓ G=>?_,λ_ _ _ _ _ _ _=>trivial⟩;have iha:=q0.m Γ G;intro c g J k h;exact DW.or1 (iha c g J k h)
def Tr.wand:∀{X:Cx}{a' t':Ex}{a b:ar}{rest:List ar}{p:aR},Tr X a' (.b a)->Tr X t' (.w (.BoolOp .And (b::rest) p))->Tr X (.and a' t') (.w (.BoolOp .And (a::b::rest) p)):=by
 intro _ _ _ _ _ _ _ q0 q1;refine⟨λΓ G=>?_,λ_ _ _ _ _ _ _=>trivial⟩;have iha:=q0.m Γ G;have ihb:=q1.m Γ G;intro c g J k h;obtain⟨r,h,hk⟩:=J4 h;simp only[jdi]at h;split at h
 .rename_i e;cases h;cases hk;exact DW.and (m:=ae) (iha c g J ae e) λz=>by cases z
 .rename_i e;cases e2:truth (ev Γ G _ (jc J)) with
  |none=>rw[e2]at h;cases h
  |some m =>rw[e2]at h;cases h;cases hk;have q:=DW.and (iha c g J af e) λ_=>ihb c g J _ e2;rw[hU]at q;exact q
 .cases h
def Tr.wor:∀{X:Cx}{a' t':Ex}{a b:ar}{rest:List ar}{p:aR},Tr X a' (.b a)->Tr X t' (.w (.BoolOp .Or (b::rest) p))->Tr X (.or a' t') (.w (.BoolOp .Or (a::b::rest) p)):=by
 intro _ _ _ _ _ _ _ q0 q1;refine⟨λΓ G=>?_,λ_ _ _ _ _ _ _=>trivial⟩;have iha:=q0.m Γ G;have ihb:=q1.m Γ G;intro c g J k h;obtain⟨r,h,hk⟩:=J4 h;simp only[jl8]at h;split at h
 .rename_i e;cases h;cases hk;exact DW.or (m:=ae) (iha c g J af e) λz=>by cases z
 .rename_i e;cases e2:truth (ev Γ G _ (jc J)) with
  |none=>rw[e2]at h;cases h
  |some m =>rw[e2]at h;cases h;cases hk;have q:=DW.or (iha c g J ae e) λ_=>ihb c g J _ e2;rw[hZ]at q;exact q
 .cases h
def Tr.bw:∀{X:Cx}{a':Ex}{op:BoolOp}{es:List ar}{p:aR},Tr X a' (.w (.BoolOp op es p))->Tr X a' (.b (.BoolOp op es p)):=by intro _ _ _ _ _ q0;refine⟨λΓ G=>?_,λ_ _ _ _ _ _ _=>trivial⟩;have iha:=q0.m Γ G;intro c g J k h;exact DW.toB (iha c g J k h)
def Tr.bnot:∀{X:Cx}{a':Ex}{a:ar}{p:aR},Tr X a' (.b a)->Tr X (.not a') (.b (.UnaryOp .Not a p)):=by
 intro _ _ _ _ q0;refine⟨λΓ G=>?_,λ_ _ _ _ _ _ _=>trivial⟩;have iha:=q0.m Γ G;intro c g J k h;obtain⟨r,h,hk⟩:=J4 h;simp only[jov]at h;cases e:truth (ev Γ G _ (jc J)) with
 |none=>rw[e]at h;cases h
 |some m=>rw[e]at h;cases h;cases hk;exact DB.not (iha c g J m e)
def Tr.bval:∀{X:Cx}{a':Ex}{a:ar}(he:∀whole,fg a X.env whole=(do let v <-whole;gE a.pos;fh [v] (kE v))),Tr X a' (.e a)->Tr X a' (.b a):=by intro _ _ _ he q0;refine⟨λΓ G=>?_,λ_ _ _ _ _ _ _=>trivial⟩;have iha:=q0.m Γ G;intro c g J k h;obtain⟨r,h,hk⟩:=J4 h;exact DB.val ((iha c g J r h).bl hk).toT he
theorem Tr.ite:∀{X:Cx}{c' a' b':Ex}{c a b:ar}{p:aR},Tr X c' (.b c)->Tr X a' (.e a)->Tr X b' (.e b)->Tr X (.ite c' a' b') (.e (.IfExp c a b p)):=by
 intro _ _ _ _ _ _ _ _ q0 q1 q2;refine⟨λΓ G=>?_,λ_ _ _ _ _ _ h=>nomatch h⟩;have ihc:=q0.m Γ G;have iha:=q1.m Γ G;have ihb:=q2.m Γ G;intro c g J r h;simp only[joy]at h;split at h
 .rename_i e;split at h
  .rename_i x ex;cases es:x.st with
   |none=>rw[es]at h;cases h
   |some d=>rw[es]at h;cases h;exact(DE.ite (d':=d) (ihc c g J af e) (λ_=>(iha c g J x ex).toE es) λz=>by cases z).eq (by simp)
  .cases h
 .rename_i e;split at h
  .rename_i x ex;cases es:x.st with
   |none=>rw[es]at h;cases h
   |some d=>rw[es]at h;cases h;exact(DE.ite (d:=d) (ihc c g J ae e) (λz=>by cases z) λ_=>(ihb c g J x ex).toE es).eq (by simp)
  .cases h
 .cases h
theorem Tr.nil:∀{X:Cx},Tr X .nil (.a []):=by intro _;refine⟨λΓ G=>?_,λ_ _ _ _ _ _ h=>nomatch h⟩;intro c g J rs h;simp only[M6]at h;cases h;exact .nil
theorem Tr.cons:∀{X:Cx}{a' b':Ex}{a:ar}{es:List ar}(hs:ah (a::es) X.env=(ae,aD a X.env)::ah es X.env),Tr X a' (.e a)->Tr X b' (.a es)->Tr X (.cons a' b') (.a (a::es)):=by
 intro _ _ _ _ _ hs q0 q1;refine⟨λΓ G=>?_,λΓ G=>?_⟩
 .have iha:=q0.m Γ G;have ihb:=q1.m Γ G;intro c g J rs h;simp only[Ud,consW]at h;split at h
  .rename_i x xs ex exs;cases h;exact .cons hs (iha c g J x ex) (ihb c g J xs exs)
  .cases h
 .skip
  intro c g J y h;rw[er]at h;split at h
  .rename_i x ex;cases h;exact DXA.head (q0.x Γ G c g J _ ex) hs
  split at h
  .rename_i r ez;exact DXA.tail (q0.m Γ G c g J r ez).toT (q1.x Γ G c g J y h) hs
  .cases h
theorem Tr.tup:∀{X:Cx}{es':Ex}{es:List ar}{n:Nat}{p:aR},Tr X es' (.a es)->Tr X (.tup es') (.e (.Tuple es n p)):=by
 intro _ _ _ _ _ q0;refine⟨λΓ G=>?_,λ_ _ _ _ _ _ h=>nomatch h⟩;have iha:=q0.m Γ G;intro c g J r h;simp only[jop,Yu]at h;split at h
 .rename_i rs ers;split at h
  .rename_i ds hds;obtain⟨z,q⟩:=qi h;cases q;exact DE.tup (n:=0) ((iha c g J rs ers).toA hds) (z8 z)
  .cases h
 .cases h
theorem Tr.lst:∀{X:Cx}{es':Ex}{es:List ar}{p:aR},Tr X es' (.a es)->Tr X (.lst es') (.e (.List es p)):=by
 intro _ _ _ _ q0;refine⟨λΓ G=>?_,λ_ _ _ _ _ _ h=>nomatch h⟩;have iha:=q0.m Γ G;intro c g J r h;simp only[jox,Q6]at h;split at h
 .rename_i rs ers;split at h
  .rename_i ds hds;obtain⟨z,q⟩:=qi h;cases q;exact DO.lst ((iha c g J rs ers).toA hds) (z8 z)
  .cases h
 .cases h
theorem Tr.ix:∀{X:Cx}{a' b':Ex}{a b:ar}{p:aR}(hs:Ys b),Tr X a' (.e a)->Tr X b' (.e b)->Tr X (.ix a' b') (.e (.Subscript a b p)):=by
 intro _ _ _ _ _ _ hs q0 q1;refine⟨λΓ G=>?_,λΓ G c g J y h I H Q R k=>(Ox j8l peS peS hs).to (q0.x Γ G c g J y (by rw[er]at h;exact h) I H _ R k)⟩;have iha:=q0.m Γ G;have ihb:=q1.m Γ G;intro c g J r h;simp only[jr2,ixW]at h;split at h
 .rename_i x y ex ey;split at h
  .rename_i s l i hx hy;cases z:atI l i with
   |none=>rw[z]at h;cases h
   |some d=>rw[z]at h;cases h;exact DE.ixM ((iha c g J x ex).toM hx) (hy▸(ihb c g J y ey).toT) z hs
  .rename_i i hx hy;split at h
   .rename_i y' ed;split at h
    .rename_i hl;cases z:atI y'.cps.toList i with
     |none=>rw[z]at h;cases h
     |some d=>rw[z]at h;cases h;exact DE.ixC (ed▸(iha c g J x ex).toT) (hy▸(ihb c g J y ey).toT) (z8 hl) z hs
    .cases h
   .cases h
  .cases h
 .cases h
def Tr.oN:∀{X:Cx},Tr X .nil (.o ag):=by intro _;refine⟨λΓ G=>?_,λ_ _ _ _ _ _ _=>trivial⟩;intro c g J o h;simp only[M6,Qh]at h;cases h;exact DP.none
def Tr.oS:∀{X:Cx}{a':Ex}{a:ar},Tr X a' (.e a)->Tr X (.cons a' .nil) (.o (aa a)):=by
 intro _ _ _ q0;refine⟨λΓ G=>?_,λ_ _ _ _ _ _ _=>trivial⟩;have iha:=q0.m Γ G;intro c g J o h;simp only[Ud,M6,consW]at h;split at h
 .rename_i x xs ex exs;cases exs;simp only[Qh]at h;split at h
  .rename_i i ei;cases h;exact DP.some (ei▸(iha c g J x ex).toT)
  .cases h
 .cases h
theorem Tr.sl:∀{X:Cx}{a' l' h':Ex}{a:ar}{lo hi:Option ar}{p p2:aR},Tr X a' (.e a)->Tr X l' (.o lo)->Tr X h' (.o hi)->Tr X (.sl a' l' h') (.e (.Subscript a (.Slice lo hi ag p2) p)):=by
 intro _ _ _ _ _ _ _ _ _ q0 q1 q2;refine⟨λΓ G=>?_,λ_ _ _ _ _ _ h=>nomatch h⟩;have iha:=q0.m Γ G;have ihl:=q1.m Γ G;have ihh:=q2.m Γ G;intro c g J r h;simp only[jr1]at h;split at h
 .rename_i x l hh ex el eh;split at h
  .rename_i ds e;cases h;exact DO.sliceM ((iha c g J x ex).toM e) (ihl c g J l el) (ihh c g J hh eh)
  .cases h
  .split at h
   .rename_i y' ed;obtain⟨z,q⟩:=qi h;cases q;exact DE.sliceS (ed▸(iha c g J x ex).toT) (ihl c g J l el) (ihh c g J hh eh) (z8 z)
   .cases h
 .cases h
theorem Tr.call:∀{X:Cx}{f:ao}{es':Ex}{e:ar}{es:List ar}{p p2:aR}(hg:Gl X f) (hdb:(f==k89)=ae) (he:ah (e::es) X.env=(ae,aD e X.env)::ah es X.env) (hpl:(aS p2 (ah es X.env)).any (·.1)=ae),Tr X es' (.a (e::es))->Tr X (.call f es') (.e (.Call (.Name f p) (e::es) [] p2)):=by
 intro _ f _ _ _ _ _ hg hdb he hpl q0;refine⟨λΓ G=>?_,λΓ G=>?_⟩
 .have iha:=q0.m Γ G;intro c g J r h;simp only[jle,Ju]at h;split at h
  .rename_i rs ers;exact j6g g hg hdb he hpl (iha c g J rs ers) h
  .cases h
 .skip
  intro c g J y h;rw[er]at h;split at h
  .rename_i x ex;split at h
   .rename_i hz;cases h;obtain⟨d,hd⟩:=Xr.mp hz;obtain⟨fa,hfa,hk⟩:=c.fn _ d hd;exact DX.args (q0.x Γ G c g J _ ex) hg hdb hfa hk he hpl
   .cases h
  split at h
  .rename_i rs ers;split at h
   .rename_i z ez;split at h
    .rename_i hz;cases h;have q:=g f (rs.map Rk.d);rw[ez]at q;obtain⟨d,hd⟩:=Xr.mp hz;obtain⟨_,o,ho⟩:=c.ec _ d hd;exact DX.call q (q0.m Γ G c g J rs ers).toT ⟨rfl,rfl⟩ (W.mg_of c.kin c.ns ho) hg hdb he hpl
    .cases h
   .cases h
  .cases h
def Tr.bchn:∀{X:Cx}{a' b' c':Ex}{a b c:ar}{p:aR}(hm:lV [.Lt,.Lt] [b,c]=ae),Tr X a' (.e a)->Tr X b' (.e b)->Tr X c' (.e c)->Tr X (.chn a' b' c') (.b (.Compare a [.Lt,.Lt] [b,c] p)):=by
 intro _ _ _ _ _ _ _ _ hm q0 q1 q2;refine⟨λΓ G=>?_,λ_ _ _ _ _ _ _=>trivial⟩;have iha:=q0.m Γ G;have ihb:=q1.m Γ G;have ihc:=q2.m Γ G;intro c g J k h;obtain⟨r,h,hk⟩:=J4 h;simp only[jp3,j2u]at h;split at h
 .rename_i x y z ex ey ez;split at h
  .rename_i i j k ei ej ek;cases h;cases hk;exact DB.chn (ei▸(iha c g J x ex).toT) (ej▸(ihb c g J y ey).toT) (ek▸(ihc c g J z ez).toT) hm
  .cases h
 .cases h
theorem Tr.len:∀{X:Cx}{es':Ex}{e:ar}{p p2:aR}(hg:Gl X "len"),Tr X es' (.a [e])->Tr X (.blt .len es') (.e (.Call (.Name "len" p) [e] [] p2)):=by
 intro _ _ _ _ _ hg q0;refine⟨λΓ G=>?_,λ_ _ _ _ _ _ h=>nomatch h⟩;have iha:=q0.m Γ G;intro c g J r h;simp only[M7,vh]at h;split at h
 .rename_i rs ers;cases e:Zb _ rs with
  |none=>rw[e]at h;cases h
  |some x=>rw[e]at h;cases h;exact Qi (f:=.len) c (λz=>by rcases z with z|z|z|z|z<;>cases z) hg e (iha c g J rs ers)
 .cases h
theorem Tr.all:∀{X:Cx}{es':Ex}{e:ar}{p p2:aR}(hq:X.calm=af)(hg:Gl X "all"),Tr X es' (.a [e])->Tr X (.blt .all es') (.e (.Call (.Name "all" p) [e] [] p2)):=by
 intro _ _ _ _ _ hq hg q0;refine⟨λΓ G=>?_,λ_ _ _ _ _ _ h=>nomatch h⟩;have iha:=q0.m Γ G;intro c g J r h;simp only[M7,vh]at h;split at h
 .rename_i rs ers;cases e:Zb _ rs with
  |none=>rw[e]at h;cases h
  |some x=>rw[e]at h;cases h;exact Qi (f:=.all) c (λ_=>hq) hg e (iha c g J rs ers)
 .cases h
theorem Tr.tuple:∀{X:Cx}{es':Ex}{e:ar}{p p2:aR}(hg:Gl X "tuple"),Tr X es' (.a [e])->Tr X (.blt .tuple es') (.e (.Call (.Name "tuple" p) [e] [] p2)):=by
 intro _ _ _ _ _ hg q0;refine⟨λΓ G=>?_,λ_ _ _ _ _ _ h=>nomatch h⟩;have iha:=q0.m Γ G;intro c g J r h;simp only[M7,vh]at h;split at h
 .rename_i rs ers;cases e:Zb _ rs with
  |none=>rw[e]at h;cases h
  |some x=>rw[e]at h;cases h;exact Qi (f:=.tuple) c (λz=>by rcases z with z|z|z|z|z<;>cases z) hg e (iha c g J rs ers)
 .cases h
theorem Tr.list:∀{X:Cx}{es':Ex}{e:ar}{p p2:aR}(hg:Gl X "list"),Tr X es' (.a [e])->Tr X (.blt .list es') (.e (.Call (.Name "list" p) [e] [] p2)):=by
 intro _ _ _ _ _ hg q0;refine⟨λΓ G=>?_,λ_ _ _ _ _ _ h=>nomatch h⟩;have iha:=q0.m Γ G;intro c g J r h;simp only[M7,vh]at h;split at h
 .rename_i rs ers;cases e:Zb _ rs with
  |none=>rw[e]at h;cases h
  |some x=>rw[e]at h;cases h;exact Qi (f:=.list) c (λz=>by rcases z with z|z|z|z|z<;>cases z) hg e (iha c g J rs ers)
 .cases h
theorem Tr.min:∀{X:Cx}{es':Ex}{e f:ar}{p p2:aR}(hq:X.calm=af)(hg:Gl X "min"),Tr X es' (.a [e,f])->Tr X (.blt .min es') (.e (.Call (.Name "min" p) [e,f] [] p2)):=by
 intro _ _ _ _ _ _ hq hg q0;refine⟨λΓ G=>?_,λ_ _ _ _ _ _ h=>nomatch h⟩;have iha:=q0.m Γ G;intro c g J r h;simp only[M7,vh]at h;split at h
 .rename_i rs ers;cases e:Zb _ rs with
  |none=>rw[e]at h;cases h
  |some x=>rw[e]at h;cases h;exact Qi (f:=.min) c (λ_=>hq) hg e (iha c g J rs ers)
 .cases h
theorem Tr.sum:∀{X:Cx}{es':Ex}{e:ar}{p p2:aR}(hq:X.calm=af)(hg:Gl X "sum"),Tr X es' (.a [e])->Tr X (.blt .sum es') (.e (.Call (.Name "sum" p) [e] [] p2)):=by
 intro _ _ _ _ _ hq hg q0;refine⟨λΓ G=>?_,λ_ _ _ _ _ _ h=>nomatch h⟩;have iha:=q0.m Γ G;intro c g J r h;simp only[M7,vh]at h;split at h
 .rename_i rs ers;cases e:Zb _ rs with
  |none=>rw[e]at h;cases h
  |some x=>rw[e]at h;cases h;exact Qi (f:=.sum) c (λ_=>hq) hg e (iha c g J rs ers)
 .cases h
def Tr.intc:∀{X:Cx}{es':Ex}{e:ar}{p p2:aR}(hg:Gl X "int"),Tr X es' (.a [e])->Tr X (.blt .int es') (.e (.Call (.Name "int" p) [e] [] p2)):=by
 intro _ _ _ _ _ hg q0;refine⟨λΓ G=>?_,λ_ _ _ _ _ _ h=>nomatch h⟩;have iha:=q0.m Γ G;intro c g J r h;simp only[M7,vh]at h;split at h
 .rename_i rs ers;cases e:Zb _ rs with
  |none=>rw[e]at h;cases h
  |some x=>rw[e]at h;cases h;exact Qi (f:=.int) c (λz=>by rcases z with z|z|z|z|z<;>cases z) hg e (iha c g J rs ers)
 .cases h
theorem Tr.join:∀{X:Cx}{a':Ex}{a:ar}{sep:ao}{n:Nat}{p0 p1 p2:aR}(hbase:aY (.Constant (.str sep) n p0) "join" X.env (aD (.Constant (.str sep) n p0) X.env)=aD (.Constant (.str sep) n p0) X.env) (hfew:((aS p2 (ah [a] X.env)).all (λx=>!x.1)&&(bU p2 (bg [] X.env)).all (λx=>x.1.isSome)&&decide (([a]:List ar).length+([]:List bb).length+(if ([]:List bb).isEmpty then 0 else 1)<30))=af) (hline:(p1.endLine==p2.line)=af) (hs:ah [a] X.env=(ae,aD a X.env)::ah [] X.env),Tr X a' (.e a)->Tr X (.join sep a') (.e (.Call (.Attribute (.Constant (.str sep) n p0) "join" p1) [a] [] p2)):=by
 intro _ _ _ _ _ _ _ _ hbase hfew hline hs q0;refine⟨λΓ G=>?_,λ_ _ _ _ _ _ h=>nomatch h⟩;have iha:=q0.m Γ G;intro c g J r h;simp only[jla,Vl]at h;split at h
 .rename_i x ex;split at h
  .rename_i l el;split at h
   .rename_i ts et;obtain⟨z,q⟩:=qi h;cases q;have:=Mh et;subst this;exact DE.join (el▸(iha c g J x ex).toT) z hfew hbase hline hs
   .cases h
  .cases h
 .cases h
theorem Tr.lset:∀{X:Cx}{a':Ex}{a:ar}{p p1 p2 pos:aR}(hq:X.calm=af)(hg:Gl X "len") (hg2:Gl X "set") (hs:ah [a] X.env=[(ae,aD a X.env)]) (hs2:ah [.Call (.Name "set" p1) [a] [] p2] X.env=[(ae,aD (.Call (.Name "set" p1) [a] [] p2) X.env)]),Tr X a' (.e a)->Tr X (.lset a') (.e (.Call (.Name "len" p) [.Call (.Name "set" p1) [a] [] p2] [] pos)):=by
 intro _ _ _ _ _ _ _ hq hg hg2 hs hs2 q0;refine⟨λΓ G=>?_,λ_ _ _ _ _ _ h=>nomatch h⟩;have iha:=q0.m Γ G;intro c g J r h;simp only[jl9,j61]at h;split at h
 .rename_i x ex;split at h
  .rename_i l el;split at h
   .rename_i ts et;obtain⟨z,q⟩:=qi h;cases q;have:=Vu et;subst this;exact DE.lenSetI (el▸(iha c g J x ex).toT) hq nofun (c.bt _ (by decide)) (c.bt _ (by decide)) hg hg2 hs hs2
   .cases h
  .cases h
 .cases h
theorem Tr.dzip:∀{X:Cx}{a' b':Ex}{a b:ar}{p p2 p3 p4:aR}(hq:X.calm=af)(hg:Gl X "dict") (hgz:Gl X "zip") (hs0:ah [.Call (.Name "zip" p2) [a,b] [] p3] X.env=(ae,aD (.Call (.Name "zip" p2) [a,b] [] p3) X.env)::ah [] X.env) (hs:ah [a,b] X.env=(ae,aD a X.env)::ah [b] X.env) (hs2:ah [b] X.env=(ae,aD b X.env)::ah [] X.env),Tr X a' (.e a)->Tr X b' (.e b)->Tr X (.dzip a' b') (.e (.Call (.Name "dict" p) [.Call (.Name "zip" p2) [a,b] [] p3] [] p4)):=by
 intro _ _ _ _ _ _ _ _ _ hq hg hgz hs0 hs hs2 q0 q1;refine⟨λΓ G=>?_,λΓ G=>?_⟩
 .have iha:=q0.m Γ G;have ihb:=q1.m Γ G;intro c g J r h;simp only[jlc,Rx]at h;split at h
  .rename_i x y ex ey;split at h
   .rename_i t1 l t2 m el em;split at h
    .rename_i ks ns ek en;obtain⟨z,q⟩:=qi h;cases q;have e1:=Mh ek;have e2:=Vu en;subst e1 e2;obtain⟨d1,f1,g1⟩:=Option.bind_eq_some_iff.mp el;obtain⟨d2,f2,g2⟩:=Option.bind_eq_some_iff.mp em;have s1:=W7 g1;have s2:=W7 g2;subst s1 s2;exact DE.dzip t1 t2 ((iha c g J x ex).toE f1) ((ihb c g J y ey).toE f2) z.1 z.2.1 (z8 z.2.2) hq (c.bt _ (by decide)) (c.bt _ (by decide)) hg hgz hs0 hs hs2
    .cases h
   .cases h
  .cases h
 .skip
  intro c g J y h;rw[er]at h;split at h
  .rename_i x ex;cases h;exact DX.dzip (DXA.head (q0.x Γ G c g J _ ex) hs) (c.bt _ (by decide)) (c.bt _ (by decide)) hg hgz hs0 hs hs2
  split at h
  .rename_i r ez;exact DX.dzip (DXA.tail (q0.m Γ G c g J r ez).toT (DXA.head (q1.x Γ G c g J y h) hs2) hs) (c.bt _ (by decide)) (c.bt _ (by decide)) hg hgz hs0 hs hs2
  .cases h
theorem Tr.dix:∀{X:Cx}{a' b':Ex}{a b:ar}{p:aR}(hs:Ys b),Tr X a' (.e a)->Tr X b' (.e b)->Tr X (.dix a' b') (.e (.Subscript a b p)):=by
 intro _ _ _ _ _ _ hs q0 q1;refine⟨λΓ G=>?_,λ_ _ _ _ _ _ h=>nomatch h⟩;have iha:=q0.m Γ G;have ihb:=q1.m Γ G;intro c g J r h;simp only[jp0,Ky]at h;split at h
 .rename_i x y ex ey;split at h
  .rename_i kvs k ek eky;cases e:Ux kvs k with
   |none=>rw[e]at h;cases h
   |some n=>rw[e]at h;cases h;exact DE.dix (ek▸(iha c g J x ex).toT) (eky▸(ihb c g J y ey).toT) e hs
  .cases h
 .cases h
def Tr.c0:∀{X:Cx},Tr X .nil (.c []):=by intro _;refine⟨λΓ G=>?_,λ_ _ _ _ _ _ _=>trivial⟩;intro c g J;exact⟨λ_=>DTs.nil,λy k h=>by simp only[M6]at h;cases h⟩
def Tr.c1:∀{X:Cx}{c':Ex}{c:ar},Tr X c' (.b c)->Tr X (.cons c' .nil) (.c [c]):=by
 intro _ _ _ q0;refine⟨λΓ G=>?_,λ_ _ _ _ _ _ _=>trivial⟩;have iha:=q0.m Γ G;intro c g J;refine⟨λh=>?_,λy k h hk=>DTs.one ?_⟩
 .simp only[Ud,M6,consW]at h;split at h<;>cases h
 .simp only[Ud,M6,consW]at h;split at h
  .rename_i x xs ex exs;cases exs;cases h;exact iha c g J k (by rw[ex];simp only[truth,hk])
  .cases h
def Tr.comp1:∀{X:Cx}{i:Nat}{y:ao}{py p:aR}{elt' it' c':Ex}{elt it:ar}{ifs:List ar} {scope:bJ} (hq:X.calm=af) (hi:X.N[i]?=aa y) (hl:Oo scope y=af) (hkind:scope.kind=.function) (hok:Jo scope X.env X.N [i]=af) (hs:∀x,b8 it X.env x=pure x),Tr X it' (.i (.Name y py) it)->(∀C s H fp pn,Tr (cCx X scope C s H fp pn) elt' (.e elt))->(∀C s H fp pn,Tr (cCx X scope C s H fp pn) c' (.c ifs))->Tr X (.comp [i] elt' it' c') (.e (.ListComp elt [⟨.Name y py,it,ifs,0⟩] scope p)):=by
 intro _ _ _ _ _ _ _ _ _ _ _ _ hq hi hl hkind hok hs q0 q1 q2;refine⟨λΓ G=>?_,λ_ _ _ _ _ _ h=>nomatch h⟩;have ihi:=q0.m Γ G;have ihe:=λC s H fp pn=>(q1 C s H fp pn).m Γ G;have ihc:=λC s H fp pn=>(q2 C s H fp pn).m Γ G;intro c g J r h;obtain⟨l,e,q⟩:=j6c hq c (λJ ds z=>ihi c g J ds z) hkind hok hs (λJ d ρ2 hb hun=>by
  simp only[vf]at hb
  cases hb
  have hu:=hun _ (xu.mpr rfl)
  exact⟨_,jl,Wk.set hu,Bu hu,λC s H fp pn=>DG.name _ c.nd hi (j3u hl) (j76 hl)⟩)
  (λC s H fp pn J r z=>ihe C s H fp pn c.comp g.comp J r z) (λC s H fp pn J=>ihc C s H fp pn c.comp g.comp J) h
 subst e;exact q
theorem Tr.seq:∀{X:Cx}{a':Ex}{tg a:ar},Tr X a' (.e a)->Tr X (.seq a') (.i tg a):=by
 intro _ _ _ _ q0;refine⟨λΓ G=>?_,λ_ _ _ _ _ _ _=>trivial⟩;have iha:=q0.m Γ G;intro c g J ds h;simp only[jos,Wt]at h;split at h
 .rename_i l e;cases h;exact DI.lst (iha c g J _ e)
 .rename_i l e;cases h;exact DI.tup (iha c g J _ e)
 .rename_i l e;cases h;exact DI.lst (DO.toE (iha c g J _ e))
 .rename_i y e;obtain⟨z,q⟩:=qi h;cases q;exact DI.str (iha c g J _ e).toT z
 .cases h
theorem Tr.range:∀{X:Cx}{es':Ex}{tg:ar}{es:List ar}{p p2:aR}(hg:Gl X "range"),Tr X es' (.a es)->Tr X (.range es') (.i tg (.Call (.Name "range" p) es [] p2)):=by
 intro _ _ _ _ _ _ hg q0;refine⟨λΓ G=>?_,λ_ _ _ _ _ _ _=>trivial⟩;have iha:=q0.m Γ G;intro c g J ds h;simp only[jgg,Ms]at h;split at h
 .rename_i x ex;have q:=iha c g J _ ex;cases q with|cons hs hx t =>
  cases t;split at h
  .rename_i n en;obtain⟨z,q⟩:=qi h;cases q;exact DI.range1 (en▸hx.toT) (c.bt _ (by decide)) z.1 z.2 hg hs
  .cases h
 .cases h
theorem Tr.zip:∀{X:Cx}{a' b':Ex}{a b:ar}{es:List ar}{n:Nat}{p p2 pt:aR}(hg:Gl X "zip") (hs:ah [a,b] X.env=(ae,aD a X.env)::ah [b] X.env) (hs2:ah [b] X.env=(ae,aD b X.env)::ah [] X.env),Tr X a' (.e a)->Tr X b' (.e b)->Tr X (.zip a' b') (.i (.Tuple es n pt) (.Call (.Name "zip" p) [a,b] [] p2)):=by
 intro _ _ _ _ _ _ _ _ _ _ hg hs hs2 q0 q1;refine⟨λΓ G=>?_,λ_ _ _ _ _ _ _=>trivial⟩;have iha:=q0.m Γ G;have ihb:=q1.m Γ G;intro c g J ds h;simp only[jon,j9r]at h;split at h
 .rename_i x y ex ey;have ha:=iha c g J x ex;have hb:=ihb c g J y ey;have pl:∀{p2:aR},(aS p2 (ah [_] _)).any (·.1)=ae:=λ{p2}=>by rw[hs2];rfl
  split at h
  .rename_i l m e1 e2;cases h;exact DI.zip af af (ha.toE e1) (hb.toE e2) (c.bt _ (by decide)) hg hs hs2 pl
  .rename_i l m e1 e2;cases h;exact DI.zip af ae (ha.toE e1) (hb.toE e2) (c.bt _ (by decide)) hg hs hs2 pl
  .rename_i l m e1 e2;cases h;exact DI.zip ae af (ha.toE e1) (hb.toE e2) (c.bt _ (by decide)) hg hs hs2 pl
  .rename_i l m e1 e2;cases h;exact DI.zip ae ae (ha.toE e1) (hb.toE e2) (c.bt _ (by decide)) hg hs hs2 pl
  .cases h
 .cases h
def Tr.p0:∀{X:Cx},Tr X .nil (.p []):=by intro _;refine⟨λΓ G=>?_,λ_ _ _ _ _ _ _=>trivial⟩;intro c g J rs h;simp only[M6]at h;cases h;trivial
def Tr.pC:∀{X:Cx}{y:ao}{n:Nat}{p:aR}{b':Ex}{es:List ar},Tr X b' (.p es)->Tr X (.cons (.lit (.str y)) b') (.p (.Constant (.str y) n p::es)):=by
 intro _ _ _ _ _ _ q0;refine⟨λΓ G=>?_,λ_ _ _ _ _ _ _=>trivial⟩;have ihb:=q0.m Γ G;intro c g J rs h;simp only[Ud,j0s,consW]at h;split at h
 .rename_i x xs ex exs;cases h;cases ex;refine⟨λz hz=>?_,ihb c g J xs exs⟩;have hz:(if _ then aa _ else ag)=aa z:=hz;split at hz
  .cases hz;exact DE.str
  .cases hz
 .cases h
def Tr.pR:∀{X:Cx}{a' b':Ex}{a:ar}{p:aR}{es:List ar},Tr X a' (.e a)->Tr X b' (.p es)->Tr X (.cons (.rpr a') b') (.p (.FormattedValue a 114 ag p::es)):=by
 intro _ a' b' _ _ _ q0 q1;refine⟨λΓ G=>?_,λ_ _ _ _ _ _ _=>trivial⟩;have iha:=q0.m Γ G;have ihb:=q1.m Γ G;intro c g J rs h;rw[Ud]at h;unfold consW at h;split at h
 .rename_i x xs ex exs;cases h;obtain⟨z,w,ez,ew,hl,rfl⟩:=jhk ex;refine⟨λy hy=>?_,ihb c g J xs exs⟩;have hy:(if (aK w).length<=10000 then aa (aK w)else ag)=aa y:=hy;rw[if_pos (Xa hl (by decide))]at hy;cases hy;exact DE.fmtR (ew▸(iha c g J z ez).toT) (Xa hl (by decide))
 .cases h
theorem Tr.spl:∀{X:Cx}{a':Ex}{a:ar}{k:Nat}{p1 p2 p3:aR}(hs:ah [.Constant (.str " ") k p3] X.env=(ae,aD (.Constant (.str " ") k p3) X.env)::ah [] X.env) (hbase:aY a "split" X.env (aD a X.env)=aD a X.env) (hfew:((aS p2 (ah [.Constant (.str " ") k p3] X.env)).all (λx=>!x.1)&&(bU p2 (bg [] X.env)).all (λx=>x.1.isSome)&&decide (([.Constant (.str " ") k p3]:List ar).length+([]:List bb).length+(if ([]:List bb).isEmpty then 0 else 1)<30))=af) (hline:(p1.endLine==p2.line)=af),Tr X a' (.e a)->Tr X (.spl a') (.e (.Call (.Attribute a "split" p1) [.Constant (.str " ") k p3] [] p2)):=by
 intro _ _ _ _ _ _ _ hs hbase hfew hline q0;refine⟨λΓ G=>?_,λ_ _ _ _ _ _ h=>nomatch h⟩;have iha:=q0.m Γ G;intro c g J r h;simp only[jor,j18]at h;split at h
 .rename_i x ex;split at h
  .rename_i y ey;obtain⟨z,q⟩:=qi h;cases q;exact DO.split (ey▸(iha c g J x ex).toT) z.1 (z8 z.2) hs hbase hfew hline
  .cases h
 .cases h
theorem Tr.sti:∀{X:Cx}{a':Ex}{a:ar}{p pos:aR}(hg:Gl X "str") (hs:ah [a] X.env=[(ae,aD a X.env)]),Tr X a' (.e a)->Tr X (.sti a') (.e (.Call (.Name "str" p) [a] [] pos)):=by
 intro _ _ _ _ _ hg hs q0;refine⟨λΓ G=>?_,λ_ _ _ _ _ _ h=>nomatch h⟩;have iha:=q0.m Γ G;intro c g J r h;simp only[joq,j15]at h;split at h
 .rename_i x ex;split at h
  .rename_i i ei;obtain⟨z,q⟩:=qi h;cases q;exact DE.strI (ei▸(iha c g J x ex).toT) (log2_small z) (c.bt _ (by decide)) hg hs
  .cases h
 .cases h
theorem Tr.rep:∀{X:Cx}{a' o' n':Ex}{a o n:ar}{p1 p2:aR}(hs:ah [o,n] X.env=(ae,aD o X.env)::ah [n] X.env) (hs2:ah [n] X.env=(ae,aD n X.env)::ah [] X.env) (hbase:aY a "replace" X.env (aD a X.env)=aD a X.env) (hfew:((aS p2 (ah [o,n] X.env)).all (λx=>!x.1)&&(bU p2 (bg [] X.env)).all (λx=>x.1.isSome)&&decide (([o,n]:List ar).length+([]:List bb).length+(if ([]:List bb).isEmpty then 0 else 1)<30))=af) (hline:(p1.endLine==p2.line)=af) (hpl:(aS p2 (ah [n] X.env)).any (·.1)=ae),Tr X a' (.e a)->Tr X o' (.e o)->Tr X n' (.e n)->Tr X (.rep a' o' n') (.e (.Call (.Attribute a "replace" p1) [o,n] [] p2)):=by
 intro _ _ _ _ _ _ _ _ _ hs hs2 hbase hfew hline hpl q0 q1 q2;refine⟨λΓ G=>?_,λ_ _ _ _ _ _ h=>nomatch h⟩;have iha:=q0.m Γ G;have ihb:=q1.m Γ G;have ihc:=q2.m Γ G;intro c g J r h;simp only[jou,Mr]at h;split at h
 .rename_i x y z ex ey ez;split at h
  .rename_i S o n eS eo en;split at h
   .rename_i q;cases h;refine DE.repl ?_ (eo▸(ihb c g J y ey).toT) (en▸(ihc c g J z ez).toT) q.1 q.2 hs hs2 hbase hfew hline hpl;have ht:=(iha c g J x ex).toT;cases ed:x.d with
    |str w=>rw[ed]at ht eS;cases eS;exact DT.any ht
    |any S'=>rw[ed]at ht eS;cases eS;exact ht
    |_=>rw[ed]at eS;cases eS
   .cases h
  .cases h
 .cases h
def Tr.pF:∀{X:Cx}{a' b':Ex}{a:ar}{p:aR}{es:List ar}(hq:X.calm=af),Tr X a' (.e a)->Tr X b' (.p es)->Tr X (.cons a' b') (.p (.FormattedValue a (-1) ag p::es)):=by
 intro _ _ _ _ _ _ hq q0 q1;refine⟨λΓ G=>?_,λ_ _ _ _ _ _ _=>trivial⟩;have iha:=q0.m Γ G;have ihb:=q1.m Γ G;intro c g J rs h;simp only[Ud,consW]at h;split at h
 .rename_i x xs ex exs;cases h;exact⟨λy hy=>DE.fmt (c.gd hq) c.un' (iha c g J x ex).toT hy,ihb c g J xs exs⟩
 .cases h
theorem Tr.fst:∀{X:Cx}{es':Ex}{a b:ar}{es:List ar}{p:aR},Tr X es' (.p (a::b::es))->Tr X (.fst es') (.e (.JoinedStr (a::b::es) p)):=by
 intro _ _ _ _ _ _ q0;refine⟨λΓ G=>?_,λ_ _ _ _ _ _ h=>nomatch h⟩;have ih:=q0.m Γ G;intro c g J r h;simp only[joz,U3]at h;split at h
 .rename_i rs ers;split at h
  .rename_i hl;cases e:J2 rs with
   |none=>rw[e]at h;cases h
   |some ys =>rw[e]at h;cases h;obtain⟨z1,z2⟩:=(ih c g J rs ers).all e;exact DE.joined z1 (Bs e) (by rw[z2];exact hl)
  .cases h
 .cases h
theorem Tr.isxV:∀{X:Cx}{i:Nat}{y:ao}{p p1 p2 pos:aR}(hN:X.N[i]?=aa y) (hv:Vis X.env.scope y) (hd:(y==k89)=ae) (hcd:(y==k8a)=ae) (hg:Gl X "isinstance") (hg2:Gl X "ValueError") (hs:ah [.Name y p1,.Name "ValueError" p2] X.env=(ae,aD (.Name y p1) X.env)::ah [.Name "ValueError" p2] X.env),Tr X (.isx i ["ValueError"]) (.e (.Call (.Name "isinstance" p) [.Name y p1,.Name "ValueError" p2] [] pos)):=by
 intro _ _ _ _ _ _ _ hN hv hd hcd hg hg2 hs;refine⟨λΓ G=>?_,λ_ _ _ _ _ _ h=>nomatch h⟩;intro c g J r h;simp only[j6o]at h;split at h
 .rename_i x e1 e2;split at h
  .rename_i hx;cases h;obtain⟨a,o,q⟩:=Fv e1;exact DE.isxV c.ea (Xw.mp hx) q (c.bt _ (by decide)) (c.bt _ (by decide)) hN hv hd hcd hg hg2 hs rfl rfl
  .cases h
 .cases h
theorem Tr.isx1:∀{X:Cx}{i:Nat}{y c:ao}{p p1 p2 pos:aR}(hc:c∈qg)(hcV:(c==("ValueError":ao))=ae) (hN:X.N[i]?=aa y) (hv:Vis X.env.scope y) (hd:(y==k89)=ae) (hcd:(y==k8a)=ae) (hg:Gl X "isinstance") (hg2:Gl X c) (hdb:(c==k89)=ae) (hs:ah [.Name y p1,.Name c p2] X.env=(ae,aD (.Name y p1) X.env)::ah [.Name c p2] X.env),Tr X (.isx i [c]) (.e (.Call (.Name "isinstance" p) [.Name y p1,.Name c p2] [] pos)):=by
 intro _ _ _ _ _ _ _ _ hc hcV hN hv hd hcd hg hg2 hdb hs;refine⟨λΓ G=>?_,λ_ _ _ _ _ _ h=>nomatch h⟩;intro c g J r h;simp only[j6o]at h;split at h
 .rename_i x e1 e2;split at h
  .rename_i hx;cases h;obtain⟨a,o,q⟩:=Fv e1;obtain⟨v,hv1⟩:=c.el e2 _ hc;simp only[Tw,List.any_nil,hcV,hZ,kK];exact DE.isx1 c.ea (Xw.mp hx) q (c.bt _ (by decide)) hc hv1 (W.mg_of c.kin c.ns hv1) hN hv hd hcd hg hg2 hdb hs rfl rfl
  .cases h
 .cases h
theorem Tr.isxN:∀{X:Cx}{i:Nat}{y:ao}{cs:List ao}{es:List ar}{m:Nat}{p p1 p4 pos:aR} (hcs:NmT X cs es) (hl:cs.length<=20) (hN:X.N[i]?=aa y) (hv:Vis X.env.scope y) (hd:(y==k89)=ae) (hcd:(y==k8a)=ae) (hg:Gl X "isinstance") (hs:ah [.Name y p1,.Tuple es m p4] X.env=(ae,aD (.Name y p1) X.env)::ah [.Tuple es m p4] X.env),Tr X (.isx i cs) (.e (.Call (.Name "isinstance" p) [.Name y p1,.Tuple es m p4] [] pos)):=by
 intro _ _ _ _ _ _ _ _ _ _ hcs hl hN hv hd hcd hg hs;refine⟨λΓ G=>?_,λ_ _ _ _ _ _ h=>nomatch h⟩;intro c g J r h;simp only[j6o]at h;split at h
 .rename_i x e1 e2;split at h
  .rename_i hx;cases h;obtain⟨a,o,q⟩:=Fv e1;rw[j88 hcs];exact DE.isxN c.ea (Xw.mp hx) q (c.bt _ (by decide)) (λz hz=>let ⟨v,hv1⟩:=c.el e2 z hz;⟨v,hv1,W.mg_of c.kin c.ns hv1⟩) hcs hl hN hv hd hcd hg hs rfl rfl
  .cases h
 .cases h
section
variable{Γ:ao->List D->Rc}{G:ao->Option D}{X:Cx}
def sound(h:Tr X t nd):Cok X G->Gok X Γ->jlo Γ G X t nd:=h.m Γ G
def j19(h:Tr X t nd):Cok X G->Gok X Γ->∀J y,er Γ G t (jc J)=aa y->XM X J y nd:=h.x Γ G
end
inductive Px where
 |nop
 |set (i:Nat) (e:Ex) (r:Px)
 |keep (i:Nat) (r:Px)
 |ifRet (c e:Ex) (r:Px)
 |ifRai (c:Ex) (x:ao) (m:Ex) (r:Px)
 |ifCal (c:Ex) (f:ao) (es:Ex) (r:Px)
 |ret (e:Ex)
 |take (i:Nat) (r:Px)
 |takeE (r:Px)
 |takeIf (i:Nat) (c e:Ex) (r:Px)
 |callS (i:Nat) (f:ao) (es:Ex) (r:Px)
 |appC (i:Nat) (f:ao) (es:Ex) (r:Px)
 |whlA (y:ao) (b r:Px)
 |ifAll (x:ao) (m:Ex) (r:Px)
inductive So where
 |next (J:En)
 |ret (r:Rc)
 |brk (J:En)
 |cnt (J:En)
 |err (x:ao) (J:En)
 |no
inductive Sx where
 |nop
 |seq (a b:Sx)
 |set (i:Nat) (e:Ex)
 |mov (i j:Nat)
 |expr (e:Ex)
 |ret (e:Ex)
 |retV (i:Nat)
 |ife (c:Ex) (a b:Sx)
 |loop (is:List Nat) (it:Ex) (body:Sx)
 |app (i:Nat) (e:Ex)
 |ext (i:Nat) (e:Ex)
 |fgt (i:Nat)
 |pick (i:Nat) (b:Sx)
 |keep (i:Nat)
 |unp (i j:Nat) (e:Ex)
 |unp3 (i j k:Nat) (e:Ex)
 |px (p:Px)
 |newP (pi:Nat) (te:Ex) (p:Px)
 |raise (x:ao) (e:Ex)
 |tryK (b:Sx) (i j:Nat)
 |fail
noncomputable def orE(o:So)(x:Option ao)(J:En):So:=match o with
 |.no=>match x with
  |some y=>.err y J
  |none=>.no
 |o=>o
noncomputable def v9(f:D->En->So):List D->En->So
 |[],J=>.next J
 |d::ds,J=>match f d J with
  |.next J'=>v9 f ds J'
  |.cnt J'=>v9 f ds J'
  |.brk J'=>.next J'
  |.ret r=>.ret r
  |.err x J'=>.err x J'
  |.no=>.no
noncomputable def stOf:Option W->Option D
 |some (.v x)=>x.st
 |_=>ag
noncomputable def Mj(i:Nat)(w:Option W)(J:En):So:=match w with
 |some (.v (.o l))=>.next (J.set i (.own l))
 |some (.v x)=>match x.st with
  |some d=>.next (J.set i (.val d))
  |none=>.no
 |_=>.no
noncomputable def retS(w:Option W):So:=match w with
 |some (.v (.o l))=>.ret (.fresh l)
 |some (.v x)=>.ret (.val x.d)
 |_=>.no
noncomputable def Ou(s:Option Sv):So:=match s with
 |some (.own l)=>.ret (.fresh l)
 |some (.val d)=>.ret (.val d)
 |_=>.no
noncomputable def j1w(i j:Nat)(s:Option Sv)(J:En):So:=match s with
 |some (.own l)=>if i=j then .no else .next ((J.set j .un).set i (.own l))
 |some (.val d)=>.next (J.set i (.val d))
 |_=>.no
noncomputable def Kw(w:Option W)(J:En):So:=match w with
 |some (.v _)=>.next J
 |_=>.no
noncomputable def Oj(i:Nat)(s:Option Sv)(w:Option W)(J:En):So:=match s,w with
 |some (.own l),aa (.v x)=>match x.st with
  |some d=>if l.length<au then .next (J.set i (.own (l++[d])))else .no
  |none=>.no
 |_,_=>.no
noncomputable def Kv(i:Nat)(s:Option Sv)(w:Option W)(J:En):So:=match s,w with
 |some (.own l),aa (.v (.o m))=>if jm (l.length+m.length)=af then .next (J.set i (.own (l++m)))else .no
 |_,_=>.no
noncomputable def Mt(x:ao)(w:Option W)(d:Option D)(J:En):So:=match w,d with
 |some (.v _),aa _=>.err x J
 |_,_=>.no
noncomputable def j0x(i j:Nat)(d:Option D)(J:En):So:=match d with
 |some (.tup [d,d'])=>if i=j then .no else .next ((J.set i (.val d)).set j (.val d'))
 |some (.lst [d,d'])=>.next ((J.set i (.val d)).set j (.val d'))
 |_=>.no
noncomputable def R9(s:Option Sv)(f:ao->So):So:=match s with
 |some (.val (.any (t::S)))=>@ite _ (∀u∈S,f u=f t) (cD _) (f t) .no
 |some (.val (.str t))=>f t
 |_=>.no
noncomputable def Dc(i j k:Nat)(d:Option D)(J:En):So:=match d with
 |some (.lst [a,b,c])=>.next (((J.set i (.val a)).set j (.val b)).set k (.val c))
 |_=>.no
noncomputable def Oz(i:Nat)(v:Option Sv)(J:En):So:=match v with
 |some (.own l)=>.next (J.set i (.val (.lst l)))
 |some (.val _)=>.next J
 |_=>.no
inductive Sm where
 |next (J:En) (k:Nat)
 |ret (d:D) (k:Nat)
 |err (x:ao) (J:En)
 |no
noncomputable def Jl(f g:En->Nat->Sm)(y:ao)(ls:List ao):Nat->En->Nat->Sm
 |0,_,_=>.no
 |n+1,J,k=>if ls.getD k ""=y then g J k else match f J k with
  |.next J' k'=>Jl f g y ls n J' k'
  |.ret d k'=>.ret d k'
  |.err x J'=>.err x J'
  |.no=>.no
noncomputable def Yh(Γ:ao->List D->Rc)(ls:List ao)(f:ao)(a:Option W)(k:Nat):Rc:=match a with
 |some (.a rs)=>match J6 rs with
  |some ds=>Γ (mq f) (.lst (ls.map D.str)::.int (k:Int)::ds)
  |none=>.no
 |_=>.no
noncomputable def j5e(i:Nat)(w:Option W)(J:En)(r:En->Sm):Sm:=match w with
 |some (.v (.o l))=>r (J.set i (.own l))
 |some (.v x)=>match x.st with
  |some d=>r (J.set i (.val d))
  |none=>.no
 |_=>.no
noncomputable def jnb(i:Nat)(s:Option Sv)(J:En)(r:En->Sm):Sm:=match s with
 |some (.own l)=>r (J.set i (.val (.lst l)))
 |some (.val _)=>r J
 |_=>.no
noncomputable def K6(w:Option W)(k:Nat):Sm:=match w with
 |some (.v (.o _))=>.no
 |some (.v x)=>.ret x.d k
 |_=>.no
noncomputable def Vz(x:ao)(w:Option W)(d:Option D)(J:En):Sm:=match w,d with
 |some (.v _),aa _=>.err x J
 |_,_=>.no
noncomputable def ifP(c:Option Bool)(a b:Sm):Sm:=match c with
 |some af=>a
 |some ae=>b
 |none=>.no
noncomputable def Uz(G:ao->Option D)(r:Rc)(J:En)(f:D->Nat->Sm):Sm:=match r with
 |.mval d k=>f d k
 |.merr x=>if (G (bang x)).isSome=af then .err x J else .no
 |_=>.no
noncomputable def j6n(i:Nat)(s:Option Sv)(J:En)(d:D)(r:En->Sm):Sm:=match s with
 |some (.own l)=>if l.length<au then r (J.set i (.own (l++[d])))else .no
 |_=>.no
noncomputable def j5r(s:Option Sv)(r:Sm):Sm:=match s with
 |some (.own _)=>r
 |_=>.no
noncomputable def j51(i:Nat)(d:Option D)(J:En)(r:En->Sm):Sm:=match d with
 |some d=>r (J.set i (.val d))
 |none=>.no
noncomputable def jh(fu:Nat)(Γ:ao->List D->Rc)(G:ao->Option D)(ls:List ao):Px->En->Nat->Sm
 |.nop,J,k=>.next J k
 |.set i e r,J,k=>j5e i (ev Γ G e J) J λJ=>jh fu Γ G ls r J k
 |.keep i r,J,k=>jnb i J[i]? J λJ=>jh fu Γ G ls r J k
 |.ifRet c e r,J,k=>ifP (truth (ev Γ G c J)) (K6 (ev Γ G e J) k) (jh fu Γ G ls r J k)
 |.ifRai c x m r,J,k=>ifP (truth (ev Γ G c J)) (Vz x (ev Γ G m J) (G (bang x)) J) (jh fu Γ G ls r J k)
 |.ifCal c f es r,J,k=>ifP (truth (ev Γ G c J)) (Uz G (Yh Γ ls f (ev Γ G es J) k) J Sm.ret) (jh fu Γ G ls r J k)
 |.ret e,J,k=>K6 (ev Γ G e J) k
 |.take i r,J,k=>jh fu Γ G ls r (J.set i (.val (.str (ls.getD k "")))) (k+1)
 |.takeE r,J,k=>jh fu Γ G ls r J (k+1)
 |.takeIf i c e r,J,k=>ifP (truth (ev Γ G c J)) (jh fu Γ G ls r (J.set i (.val (.str (ls.getD k "")))) (k+1)) (j51 i (stOf (ev Γ G e J)) J λJ=>jh fu Γ G ls r J k)
 |.callS i f es r,J,k=>Uz G (Yh Γ ls f (ev Γ G es J) k) J λd k'=>jh fu Γ G ls r (J.set i (.val d)) k'
 |.appC i f es r,J,k=>j5r J[i]? (Uz G (Yh Γ ls f (ev Γ G es J) k) J λd k'=>j6n i J[i]? J d λJ=>jh fu Γ G ls r J k')
 |.whlA y b r,J,k=>Jl (λJ k=>jh fu Γ G ls b J k) (λJ k=>jh fu Γ G ls r J k) y ls fu J k
 |.ifAll x m r,J,k=>if ls.length<=k then jh fu Γ G ls r J k else Vz x (ev Γ G m J) (G (bang x)) J
noncomputable def pxS(l k:Option Sv)(r:List ao->Nat->Sm):So:=match l,k with
 |some (.val (.lst l)),aa (.val (.int k))=>match strsOf l with
  |some ls=>if 0<=k then match r ls k.toNat with
    |.ret d k'=>.ret (.mval d k')
    |.err x _=>.ret (.merr x)
    |_=>.no
   else .no
  |none=>.no
 |_,_=>.no
noncomputable def newS(b:Bool)(w:Option W)(g:Option D)(r:List ao->Sm):So:=match b,w,g with
 |true,aa (.v x),aa _=>match x.d with
  |.str t=>if t.length<=100000/\jm (aC t " ").length=af then match r (aC t " ") with
    |.next J' _=>.next J'
    |.ret d _=>.ret (.val d)
    |.err x J'=>.err x J'
    |.no=>.no
   else .no
  |_=>.no
 |_,_,_=>.no
noncomputable def run(fu:Nat)(Γ:ao->List D->Rc)(G:ao->Option D):Sx->En->So
 |.nop,J=>.next J
 |.seq a b,J=>match run fu Γ G a J with
  |.next J'=>run fu Γ G b J'
  |o=>o
 |.set i e,J=>orE (Mj i (ev Γ G e J) J) (er Γ G e J) J
 |.mov i j,J=>j1w i j J[j]? J
 |.expr e,J=>orE (Kw (ev Γ G e J) J) (er Γ G e J) J
 |.ret e,J=>orE (retS (ev Γ G e J)) (er Γ G e J) J
 |.retV i,J=>Ou J[i]?
 |.ife c a b,J=>match truth (ev Γ G c J) with
  |some af=>run fu Γ G a J
  |some ae=>run fu Γ G b J
  |none=>.no
 |.loop is it body,J=>match ev Γ G it (frz it J) with
  |some (.i ds)=>v9 (λd J=>match vf is d J with
   |some ρ2=>run fu Γ G body ρ2
   |none=>.no) ds (frz it J)
  |_=>.no
 |.app i e,J=>Oj i J[i]? (ev Γ G e J) J
 |.ext i e,J=>Kv i J[i]? (ev Γ G e J) J
 |.fgt i,J=>.next (J.set i .un)
 |.pick i b,J=>R9 J[i]? λt=>run fu Γ G b (J.set i (.val (.str t)))
 |.keep i,J=>Oz i J[i]? J
 |.px p,J=>pxS J[0]? J[1]? λls k=>jh fu Γ G ls p (.exc rfN::J.drop 2) k
 |.newP pi te p,J=>newS (decide (pi<J.length)) (ev Γ G te J) (G (qm "Pieces")) λls=>jh fu Γ G ls p (J.set pi (.exc rfN)) 0
 |.unp i j e,J=>j0x i j (stOf (ev Γ G e J)) J
 |.unp3 i j k e,J=>Dc i j k (stOf (ev Γ G e J)) J
 |.raise x e,J=>Mt x (ev Γ G e J) (G (bang x)) J
 |.tryK b i j,J=>match run fu Γ G b J with
  |.err x J'=>match G (bang x) with
   |some (.lst l)=>.next (((J'.set j (.exc x)).set i (.own l)).set j .un)
   |_=>.no
  |o=>o
 |.fail,_=>.no
section
variable{Γ:ao->List D->Rc}{G:ao->Option D}{J:En}{fu:Nat}
def j6p{a b}:run fu Γ G (.seq a b) J=(match run fu Γ G a J with
  |.next J'=>run fu Γ G b J'
  |o=>o):=(rfl)
def jdj{i e}:run fu Γ G (.set i e) J=(orE (Mj i (ev Γ G e J) J) (er Γ G e J) J):=(rfl)
def jp7{i j}:run fu Γ G (.mov i j) J=(j1w i j J[j]? J):=(rfl)
def jlm{e}:run fu Γ G (.expr e) J=(orE (Kw (ev Γ G e J) J) (er Γ G e J) J):=(rfl)
def jp6{e}:run fu Γ G (.ret e) J=(orE (retS (ev Γ G e J)) (er Γ G e J) J):=(rfl)
def jlh{i}:run fu Γ G (.retV i) J=(Ou J[i]?):=(rfl)
def jp8{c a b}:run fu Γ G (.ife c a b) J=(match truth (ev Γ G c J) with
  |some af=>run fu Γ G a J
  |some ae=>run fu Γ G b J
  |none=>.no):=(rfl)
def jlk{is it body}:run fu Γ G (.loop is it body) J=(match ev Γ G it (frz it J) with
  |some (.i ds)=>v9 (λd J=>match vf is d J with
   |some ρ2=>run fu Γ G body ρ2
   |none=>.no) ds (frz it J)
  |_=>.no):=(rfl)
def jpb{i e}:run fu Γ G (.app i e) J=(Oj i J[i]? (ev Γ G e J) J):=(rfl)
def jpa{i e}:run fu Γ G (.ext i e) J=(Kv i J[i]? (ev Γ G e J) J):=(rfl)
def jp9{i}:run fu Γ G (.fgt i) J=(.next (J.set i .un)):=(rfl)
def jli{i b}:run fu Γ G (.pick i b) J=(R9 J[i]? λt=>run fu Γ G b (J.set i (.val (.str t)))):=(rfl)
def jll{i}:run fu Γ G (.keep i) J=(Oz i J[i]? J):=(rfl)
def jlj{pi te p}:run fu Γ G (.newP pi te p) J=(newS (decide (pi<J.length)) (ev Γ G te J) (G (qm "Pieces")) λls=>jh fu Γ G ls p (J.set pi (.exc rfN)) 0):=(rfl)
def jp5{i j e}:run fu Γ G (.unp i j e) J=(j0x i j (stOf (ev Γ G e J)) J):=(rfl)
def jlf{i j k e}:run fu Γ G (.unp3 i j k e) J=(Dc i j k (stOf (ev Γ G e J)) J):=(rfl)
def jgh{x e}:run fu Γ G (.raise x e) J=(Mt x (ev Γ G e J) (G (bang x)) J):=(rfl)
def jlg{b i j}:run fu Γ G (.tryK b i j) J=(match run fu Γ G b J with
  |.err x J'=>match G (bang x) with
   |some (.lst l)=>.next (((J'.set j (.exc x)).set i (.own l)).set j .un)
   |_=>.no
  |o=>o):=(rfl)
end
inductive Ns where
 |s (st:aU)
 |ss (sts:List aU)
def V8(pi:Nat)(o:Ob)(s:Sm)(P:Pm):Prop:=match s with
 |.next J' k=>∀ρ2,jc ρ2=J'->(∃ob,ρ2[pi]?=aa (.raw o.a ob rfN))->P.nx ρ2 k
 |.ret d k=>P.rt d k
 |.err x J'=>∀ρ2,jc ρ2=J'->P.ex x ρ2
 |.no=>False
def MP(X:Cx)(pi:Nat)(p:Px)(sts:List aU):Prop:=∀(fu:Nat)(Γ:ao->List D->Rc)(G:ao->Option D),Cok X G->Gok X Γ->∀C,X.mg "Pieces"=aa (.ref C)->PcX X C->∀(o:Ob)(ls:List ao)(J:Rho)(k:Nat)(P:Pm),
 (∃ob,J[pi]?=aa (.raw o.a ob rfN))->V8 pi o (jh fu Γ G ls p (jc J) k) P->MSs X C o ls J k sts P
noncomputable def Rt.rc:Rt->Rc
 |.val d=>.val d
 |.fresh l=>.fresh l
def Vo(o:So)(P:Po):Prop:=match o with
 |.next J'=>∀ρ2,jc ρ2=J'->P.nx ρ2
 |.ret r=>∀x:Rt,x.rc=r->P.rt x
 |.brk J'=>∀ρ2,jc ρ2=J'->P.bk ρ2
 |.cnt J'=>∀ρ2,jc ρ2=J'->P.ct ρ2
 |.err x J'=>∀ρ2,jc ρ2=J'->P.ex x ρ2
 |.no=>False
def Uh{x:Option ao}(h:Vo (orE o x J) P):Vo o P\/∃y,x=aa y/\∀ρ2,jc ρ2=J->P.ex y ρ2:=by
 cases o with
 |no =>
  cases x with
  |none=>exact h.elim
  |some y=>exact .inr ⟨y,rfl,h⟩
 |_=>exact .inl h
def jdk(fu:Nat)(Γ:ao->List D->Rc)(G:ao->Option D)(X:Cx)(t:Sx):Ns->Prop
 |.s st=>∀J P,Vo (run fu Γ G t (jc J)) P->DS X J st P
 |.ss sts=>∀J P,Vo (run fu Γ G t (jc J)) P->DSs X J sts P
section
variable{K:k84}{J:Rho}{I:St}{H:Hp}{i j:Nat}{a:ak}{l:List D}
def Rep.move(R:Rep K J I H)(hj:J[j]?=aa (.own a l))(hij:i≠j):Rep K ((J.set j .un).set i (.own a l)) (I.set i (aa (.ref a))) H:=by
 have s1:(owns (J.set j .un)).Sublist (owns J):=j7 rfl;have na:a∉owns (J.set j .un):=λz=>by
  obtain⟨k,l',q⟩:=Vj z;rcases getElem?_set_of q with ⟨_,z,_⟩|⟨n,q⟩
  .cases z
  .exact n (Yz R.nd hj q)
 obtain⟨nd,sub⟩:=Jm (ds:=l) (i:=i) (s1.nodup R.nd) na;have g:j5 (del H (owns J)) (del H (owns ((J.set j .un).set i (.own a l)))):=zb λb hb=>by
  rcases sub b hb with e|z
  .exact e▸Jr hj
  .exact s1.subset z
 refine⟨by simp[R.len],λk d' h=>?_,λk b ds' h=>?_,nd,λk b o x h=>?_,R.tb⟩
 .rcases getElem?_set_of h with ⟨rfl,z,_⟩|⟨n,h⟩
  .cases z
  .rcases getElem?_set_of h with ⟨rfl,z,_⟩|⟨n2,h⟩
   .cases z
   .obtain⟨u,q,e⟩:=R.val k d' h;exact⟨u,by rw[zq n];exact q,e.mono g⟩
 .rcases getElem?_set_of h with ⟨rfl,z,hl⟩|⟨n,h⟩
  .cases z;obtain⟨_,xs,hx,en⟩:=R.own j a l hj;exact⟨Zn (by rw[R.len];simpa using hl),xs,hx,en.mono g⟩
  .rcases getElem?_set_of h with ⟨rfl,z,_⟩|⟨n2,h⟩
   .cases z
   .obtain⟨q,xs,hx,en⟩:=R.own k b ds' h;exact⟨by rw[zq n];exact q,xs,hx,en.mono g⟩
 .rcases getElem?_set_of h with ⟨rfl,z,_⟩|⟨n,h⟩
  .cases z
  .rcases getElem?_set_of h with ⟨rfl,z,_⟩|⟨n2,h⟩
   .cases z
   .obtain⟨q,h⟩:=R.raw k b o x h;exact⟨by rw[zq n];exact q,h.mono g⟩
end
section
variable{X:Cx}{J:Rho}{e a b c:ar}{es:List ar}{st:aU}{rest sa sb body:List aU}{P:Po}{d:D}{ds ds':List D}{pos p p1 p2 p3:aR}{x y:ao}{i j:Nat}
theorem DS.freeze(i:Nat)(h:J[i]?=aa (.own l ds))(h2:DS X (J.set i (.val (.lst ds))) st P):DS X J st P:=λI H E R q =>h2 I H E (R.freeze h) (q.step (.drop λb hb=>(j7 rfl).subset hb))
def DS.mov(hk:J[j]?=aa (.own l ds))(hij:i≠j)(h:P.nx ((J.set j .un).set i (.own l ds)))(hN:X.N.Nodup)(hi:X.N[i]?=aa x)(hj:X.N[j]?=aa y)(hx:Loc X.env.scope x)
  (hf:X.fn x=af\/X.env.scope.names.lookup x=aa .local) (hv:Vis X.env.scope y) (hd:(y==k89)=ae) (hcd:(y==k8a)=ae):DS X J (.Assign [.Name x p] (.Name y p1) pos) P:=λI H E R q=>by
 obtain⟨hs,xs,m,en⟩:=R.own j l ds hk;refine(Qx hN hi hx (qp hj hv hd hcd) rfl hf).to ⟨_,hs,q.nx _ _ H h (R.move hk hij) (.drop λb hb=>?_)⟩;have s1:(owns (J.set j .un)).Sublist (owns J):=j7 rfl;have na:l∉owns (J.set j .un):=λz=>by
  obtain⟨k,l',q⟩:=Vj z;rcases getElem?_set_of q with ⟨_,z,_⟩|⟨n,q⟩
  .cases z
  .exact n (Yz R.nd hk q)
 rcases(Jm (ds:=ds) (i:=i) (s1.nodup R.nd) na).2 b hb with z|z
 .exact z▸Jr hk
 .exact s1.subset z
def DS.setCf{iter:ar}{spos:aR}(i:Nat)(cs:List Nat)(pr:D->Bool)(g:D->D)(hfr:∀K I H,Rep K J I H->Rep K ρf I H)(hno:ρf=J\/zc ((ds.filter pr).map g)=af)(hi:DI X ρf tg iter ds)
  (hb:∀C s H fp pn,∀d∈ds,∃ρ2,DG (cCx X scope C s H fp pn) ρf tg d ρ2/\Wk ρ2 ρf/\owns ρ2=owns ρf/\DTs (cCx X scope C s H fp pn) ρ2 ifs (pr d)/\(pr d=af->DE (cCx X scope C s H fp pn) ρ2 elt (g d)))
  (h:∀l,P.nx (J.set i (.own l ((ds.filter pr).map g)))) (hN:X.N.Nodup) (hcs:∀j∈cs,ρf[j]?=aa .un) (hsz:ds.length<=au) (hX:X.N[i]?=aa x) (hx:Loc X.env.scope x)
  (hf:X.fn x=af\/X.env.scope.names.lookup x=aa .local)
  (hsw:aO (.ListComp elt [⟨tg,iter,ifs,0⟩] scope pos) (aa (.Name x p1)) spos.line X.env=pure af)
  (hc:X.calm=af) (hkind:scope.kind=.function) (hok:Jo scope X.env X.N cs=af)
  (hs:∀x,b8 iter X.env x=pure x):DS X J (.Assign [.Name x p1] (.ListComp elt [⟨tg,iter,ifs,0⟩] scope pos) spos) P:=λI H E R q pins s nI=>by
 have Rf:=hfr _ _ _ R;rw[exec_Assign_Name_used _ _ _ _ hsw];refine ai (fX (ai ?_));show ay _ X.A (do let _ <-comprehension (.ListComp elt [⟨tg,iter,ifs,0⟩] scope pos) scope X.env _ (newList []) ae (aD iter X.env) (aa (eJ (.Name x p1) X.env))) _ _ s;refine ai (bB (iJ (use:=aa (eJ (.Name x p1) X.env)) (Q:=λ_ s'=>SP X pins E .next s') rfl hs (Cz (Nb hok)) hkind (Oa hok)
  (thn (hi I H (λnH H'=>j5 H H'/\M8 X.K (del H' (owns ρf)) nH ds) Rf (λnH H' g1 ok=>⟨g1,ok⟩) pins s nI) λv s1 h1=>thn h1 λitv s2 h2=>?_)) (λ_ s' hq=>az (az hq)) λ_ _ e=>e)
 obtain⟨it,fp,tn,nH,H2,e,I2,T,st2,f2,g2,ok⟩:=h2;subst e;refine El (RR:=λacc C=>compPost (aB X.prog X.w) X.A X.xe (aa (eJ (.Name x p1) X.env)) (λ_ s'=>SP X pins E .next s') acc C) I2 (Rf.grow g2) T st2 f2 ok hc hkind hok hcs hsz hb ?_;intro D C xs H' s' m I' gg n m' en hm L;show ay _ X.A (eJ (.Name x p1) X.env (.ref D)) _ _ _;refine kT (Mi I' hN hX hx (v:=.ref D) rfl (λs'' I'' ⟨a,sb,ha⟩=>?_) hf);have hCa:C≠a:=by
  rcases ha with e|e
  .rw[e];exact L.loc
  .exact eO (L.cell x a e)
 have en':j6 X.K (del H' (D::owns J)) ((ds.filter pr).map g) xs:=by
  rcases hno with e|e
  .rw[e]at en;exact en
  .exact(en.mono jr).hide (λc hc=>by
    rcases xj.mp hc with z|z
    .rw[z];exact .inl ⟨xs,m'⟩
    .exact .inl ((R.grow (g2.trans gg)).owned c z)) e
 refine⟨m,hm.sameBut sb hCa,λh' sb'=>⟨I.set i (aa (.ref D)),H',I''.loose L sb',?_⟩⟩;exact q.nx _ _ H' (h D) (R.set_own (g2.trans gg) (g2.free n) m' en') (Fr0.new R (g2.trans gg) (g2.free n))
end
section
variable{fu:Nat}{Γ:ao->List D->Rc}{G:ao->Option D}{X:Cx}{P:Po}
def bind1(nd:X.N.Nodup)(hi:X.N[i]?=aa y)(hx:Loc X.env.scope y)(hf:X.fn y=af\/X.env.scope.names.lookup y=aa .local) :
  ∀J d ρ2,vf [i] d (jc J)=aa ρ2->∃J',jc J'=ρ2/\DG X J (.Name y p) d J':=λJ d ρ2 h=>by
 simp only[vf]at h;cases h;exact⟨_,jl,DG.name _ nd hi hx hf⟩
def jol(hc:X.calm=af)(hij:i≠j)(nd:X.N.Nodup)(hi:X.N[i]?=aa x)(hj:X.N[j]?=aa y)(hx:Loc X.env.scope x)(hy:Loc X.env.scope y)
  (hf:X.fn x=af\/X.env.scope.names.lookup x=aa .local) (hg:X.fn y=af\/X.env.scope.names.lookup y=aa .local) :
  ∀J d ρ2,vf [i,j] d (jc J)=aa ρ2->∃J',jc J'=ρ2/\DG X J (.Tuple [.Name x p,.Name y q] n pt) d J':=λJ d ρ2 h=>by
 simp only[vf]at h;split at h
 .rename_i a b;cases h;exact⟨(J.set i (.val a)).set j (.val b),by rw[jl,jl];rfl,DG.pair _ _ hij nd hi hj hx hy hf hg hc⟩
 .cases h
def DS.setX{e:ar}{x y:ao}{i:Nat}{p pos:aR}{J:Rho}(he:DX X J e y)(h:P.ex y J)(hN:X.N.Nodup)(hi:X.N[i]?=aa x)(hx:Loc X.env.scope x)(hs:aO e (aa (.Name x p)) pos.line X.env=pure ae)(hf:X.fn x=af\/X.env.scope.names.lookup x=aa .local) :
  DS X J (.Assign [.Name x p] e pos) P:=λI H E R q=>(Qx hN hi hx peS hs hf).to (he I H _ R (q.ex y J I H h R (Fr0.refl _ _)))
def DS.exprX{pos:aR}(he:DX X J e y)(h:P.ex y J)(hs:aO e ag pos.line X.env=pure ae):DS X J (.Expr e pos) P:=λI H E R q =>(Vb peS hs).to (he I H _ R (q.ex y J I H h R (Fr0.refl _ _)))
def DS.retX(he:DX X J e y)(h:P.ex y J):DS X J (.Return (aa e) pos) P:=λI H E R q =>(Qy peS).to (he I H _ R (q.ex y J I H h R (Fr0.refl _ _)))
def Dw(hq:X.calm=af)(c:Cok X G)(hs:∀x,b8 it X.env x=pure x)
  (hb:∀J d ρ2,vf is d (jc J)=aa ρ2->∃J',jc J'=ρ2/\DG X J tg d J') (hi:∀J ds,ev Γ G it' (jc J)=aa (.i ds)->DI X J tg it ds)
  (ih:∀J P,Vo (run fu Γ G b (jc J)) P->DSs X J body P) (h:Vo (run fu Γ G (.loop is it' b) (jc J)) P):DS X J (.For tg it body [] pos) P:=by
 have main:∀ρf:Rho,jc ρf=frz it' (jc J)->DS X ρf (.For tg it body [] pos) P:=λρf ef=>by
  rw[jlk]at h;rw[<-ef]at h;split at h
  .rename_i ds hds;generalize hf:(λd J=>_:D->En->So)=f at h;refine DS.for (ds:=ds) (λi J'=>Vo (v9 f (ds.drop i) (jc J')) P) (hi ρf ds hds) (by rw[T8];exact h) (λi d J' hd w=>?_) (λJ' w=>?_) hq c.po hs
   .have hdr:ds.drop i=d::ds.drop (i+1):=by obtain⟨hlt,e⟩:=Xl.mp hd;rw[dH hlt,e]
    rw[hdr,v9]at w;have ef2:f d (jc J')=match vf is d (jc J')with|some ρ2=>run fu Γ G b ρ2|none=>.no:=by rw[<-hf]<;>rfl
    rw[ef2]at w;cases hb2:vf is d (jc J') with
    |none=>rw[hb2]at w;exact w.elim
    |some ρ2 =>
     rw[hb2]at w;obtain⟨ρ3,e3,dg⟩:=hb J' d ρ2 hb2;refine⟨ρ3,dg,ih ρ3 _ ?_⟩;rw[e3];dsimp only at w;cases ho:run fu Γ G b ρ2 with
     |next ρ4=>rw[ho]at w;exact λρ5 e=>by rw[<-e]at w;exact w
     |cnt ρ4=>rw[ho]at w;exact λρ5 e=>by rw[<-e]at w;exact w
     |brk ρ4=>rw[ho]at w;exact w
     |ret r=>rw[ho]at w;exact w
     |err x ρ4=>rw[ho]at w;exact w
     |no=>rw[ho]at w;exact w
   .rw[List.drop_length,v9]at w;exact w J' rfl
  .exact h.elim
 by_cases z:Jf it' (jc J)=af
 .unfold Jf at z;split at z
  .rename_i i ei;split at z
   .rename_i l e;obtain⟨a,q⟩:=Jw e;refine DS.freeze i q (main _ ?_);rw[jl];simp only[frz,ei,e,Sl.abs]
   .cases z
  .cases z
 .have z':Jf it' (jc J)=ae:=by simpa using z
  refine main J ?_;unfold frz;split
  .rename_i i ei;split
   .rename_i l e;simp only[Jf,ei,e]at z';cases z'
   .rfl
  .rfl
def j5f{pos:aR}(hq:X.calm=af)(hX:Cok X G)
  (hk:X.N[k]?=aa z) (hx:Loc X.env.scope z) (hf:X.fn z=af\/X.env.scope.names.lookup z=aa .local)
  (hsw:aO (.ListComp elt [⟨tg,it,ifs,0⟩] scope p) (aa (.Name z p1)) pos.line X.env=pure af)
  (hit:∀J ds,ev Γ G it' (jc J)=aa (.i ds)->DI X J tg it ds) (hkind:scope.kind=.function) (hok:Jo scope X.env X.N is=af) (hs:∀x,b8 it X.env x=pure x)
  (hb:∀J d ρ2,vf is d (jc J)=aa ρ2->(∀j∈is,J[j]?=aa .un)->∃J',jc J'=ρ2/\Wk J' J/\owns J'=owns J/\∀C s H fp pn,DG (cCx X scope C s H fp pn) J tg d J')
  (he:∀C s H fp pn J r,ev Γ G elt' (jc J)=aa (.v r)->Has (cCx X scope C s H fp pn) J elt r)
  (hc:∀C s H fp pn J,(ev Γ G c' (jc J)=aa (.a [])->DTs (cCx X scope C s H fp pn) J ifs af)/\∀y k,ev Γ G c' (jc J)=aa (.a [y])->y.d=.bl k->DTs (cCx X scope C s H fp pn) J ifs k)
  (h:Vo (run fu Γ G (.set k (.comp is elt' it' c')) (jc J)) P):DS X J (.Assign [.Name z p1] (.ListComp elt [⟨tg,it,ifs,0⟩] scope p) pos) P:=by
 rw[jdj]at h;unfold Mj at h;have h:=(Uh h).resolve_right λ⟨y,ey,_⟩=>by simp only[er]at ey;cases ey
 cases e:ev Γ G (.comp is elt' it' c') (jc J) with
 |none=>rw[e]at h;exact h.elim
 |some w =>
  rw[e]at h;cases w with
  |a _=>exact h.elim
  |i _=>exact h.elim
  |v r =>
   obtain⟨l,ρf,ds,pr,g,er,el,hfz,hi,hun,hz,hb'⟩:=N8 hit hb he hc e;subst er;refine DS.setCf (ρf:=ρf) k is pr g ?_ ?_ hi hb' (λa=>?_) hX.nd hun hz hk hx hf hsw hq hkind hok hs
   .rcases hfz with e|⟨_,i,a,l',q,e⟩
    .subst e;exact λ_ _ _ R=>R
    .subst e;exact λ_ _ _ R=>R.freeze q
   .rcases hfz with e|⟨n,_⟩
    .exact .inl e
    .exact .inr (el▸n)
   .rw[<-el];exact h _ jl
def Oq{w:Option W}(h:stOf w=aa d):∃z,w=aa (.v z)/\z.st=aa d:=by
 unfold stOf at h;split at h
 .exact⟨_,rfl,h⟩
 .cases h
end
structure Ts(X:Cx)(t:Sx)(nd:Ns):Prop where
 m:∀(fu:Nat)(Γ:ao->List D->Rc)(G:ao->Option D),Cok X G->Gok X Γ->jdk fu Γ G X t nd
theorem Ts.nil:∀{X:Cx},Ts X .nop (.ss []):=by intro _;refine⟨λfu Γ G=>?_⟩;intro c g J P h;exact DSs.nil (h J rfl)
theorem Ts.cons:∀{X:Cx}{a b:Sx}{st:aU}{rest:List aU},Ts X a (.s st)->Ts X b (.ss rest)->Ts X (.seq a b) (.ss (st::rest)):=by
 intro _ _ _ _ _ q0 q1;refine⟨λfu Γ G=>?_⟩;have iha:=q0.m fu Γ G;have ihb:=q1.m fu Γ G;intro c g J P h;rw[j6p]at h;split at h
 .rename_i J' e;exact DSs.cons (N:=λρ1=>jc ρ1=J') (iha c g J _ (by rw[e];exact λρ2 z=>z)) λρ1 z=>ihb c g ρ1 P (by rw[z];exact h)
 .rename_i o hn;refine DSs.cons (N:=λ_=>False) (iha c g J _ ?_) λ_ z=>z.elim;cases e:run fu Γ G _ (jc J) with
  |next J'=>exact absurd e (hn J')
  |ret r=>rw[e]at h;exact h
  |err x r=>rw[e]at h;exact h
  |brk r=>rw[e]at h;exact h
  |cnt r=>rw[e]at h;exact h
  |no=>rw[e]at h;exact h
theorem Ts.fgt:∀{X:Cx}{i:Nat}{b:Sx}{sts:List aU},Ts X b (.ss sts)->Ts X (.seq (.fgt i) b) (.ss sts):=by intro _ _ _ _ q0;refine⟨λfu Γ G=>?_⟩;have ih:=q0.m fu Γ G;intro c g J P h;simp only[j6p,jp9]at h;exact DSs.forget _ (ih c g _ P (by rw[jl];exact h))
theorem Ts.pick:∀{X:Cx}{i:Nat}{b:Sx}{sts:List aU},Ts X b (.ss sts)->Ts X (.pick i b) (.ss sts):=by
 intro _ i b sts q0;refine⟨λfu Γ G=>?_⟩;have ih:=q0.m fu Γ G;intro c g J P h;simp only[jli]at h;unfold R9 at h;split at h
 .rename_i t S e;have q:=Uc e;split at h
  .rename_i hz;refine DSs.pick q λu hu=>ih c g _ P ?_;rw[jl];rcases xj.mp hu with z|z
   .rw[z];exact h
   .have:=hz u z;show Vo (run _ _ _ _ (_)) P;exact(show run _ _ _ _ _=_ from this)▸h
  .exact h.elim
 .rename_i t e;have q:=Uc e;have h:Vo (run fu Γ G b ((jc J).set i (.val (.str t)))) P:=h;have es:(jc J).set i (.val (.str t))=jc J:=by obtain⟨h1,h2⟩:=Xl.mp e;rw[<-h2];exact iw h1
  rw[es]at h;exact ih c g J P h
 .exact h.elim
theorem Ts.newP:∀{X:Cx}{pi:Nat}{y:ao}{te':Ex}{p:Px}{te:ar}{rest:List aU} {py p1 p2 pos:aR} (hg:Gl X "Pieces") (hst:ah [te] X.env=(ae,aD te X.env)::ah [] X.env) (hpl:(aS p2 (ah [] X.env)).any (·.1)=ae) (hi:X.N[pi]?=aa y) (hx:Loc X.env.scope y) (hs:aO (.Call (.Name "Pieces" p1) [te] [] p2) (aa (.Name y py)) pos.line X.env=pure ae) (hf:X.fn y=af\/X.env.scope.names.lookup y=aa .local),Tr X te' (.e te)->MP X pi p rest->Ts X (.newP pi te' p) (.ss (.Assign [.Name y py] (.Call (.Name "Pieces" p1) [te] [] p2) pos::rest)):=by
 intro _ pi y te' p te rest py p1 p2 pos hg hst hpl hi hx hs hf hte hm;refine⟨λfu Γ G=>?_⟩;intro c g J P h;rw[jlj]at h;unfold newS at h;split at h
 .rename_i x d eb ex eg;have hl:pi<J.length:=by have:=of_decide_eq_true eb;unfold jc at this;rw[xm]at this;exact this
  split at h
  .rename_i t et;split at h
   .rename_i hc;obtain⟨C,hC,T⟩:=c.pc d eg;dsimp only at h;refine DSs.make T (et▸(sound hte c g J x ex).toT) hc.1 (z8 hc.2) hg hst hpl c.nd hi hx hs hf λo=>?_;refine hm fu Γ G c g C hC T o _ _ 0 _ ⟨dOb,Zn hl⟩ ?_;rw[jl];show V8 pi o (jh fu Γ G (aC t " ") p ((jc J).set pi (.exc rfN)) 0) _;cases z:jh fu Γ G (aC t " ") p ((jc J).set pi (.exc rfN)) 0 with
    |next J' k=>rw[z]at h;exact λρ2 e _=>h ρ2 e
    |ret d k=>rw[z]at h;exact h (.val d) rfl
    |err x J'=>rw[z]at h;exact h
    |no=>rw[z]at h;exact h
   .exact h.elim
  .exact h.elim
 .exact h.elim
theorem Ts.keep:∀{X:Cx}{i:Nat}{b:Sx}{sts:List aU},Ts X b (.ss sts)->Ts X (.seq (.keep i) b) (.ss sts):=by
 intro _ i _ _ q0;refine⟨λfu Γ G=>?_⟩;have ih:=q0.m fu Γ G;intro c g J P h;simp only[j6p,jll,Oz]at h;cases e:(jc J)[i]? with
 |none=>rw[e]at h;exact h.elim
 |some v =>
  rw[e]at h;cases v with
  |own l =>obtain⟨a,q⟩:=Jw e;exact DSs.freeze _ q (ih c g _ P (by rw[jl];exact h))
  |un=>exact h.elim
  |val d=>exact ih c g J P h
  |exc x=>exact h.elim
theorem Ts.set:∀{X:Cx}{i:Nat}{x:ao}{e':Ex}{e:ar}{p pos:aR}(hi:X.N[i]?=aa x) (hx:Loc X.env.scope x) (hs:aO e (aa (.Name x p)) pos.line X.env=pure ae) (hf:X.fn x=af\/X.env.scope.names.lookup x=aa .local),Tr X e' (.e e)->Ts X (.set i e') (.s (.Assign [.Name x p] e pos)):=by
 intro _ _ _ _ _ _ _ hi hx hs hf he;refine⟨λfu Γ G=>?_⟩;intro c g J P h;have S:=sound he c g;rw[jdj]at h;unfold Mj at h;rcases Uh h with h|⟨y,ey,hP⟩
 rotate_left
 .exact DS.setX (j19 he c g J y ey) (hP J rfl) c.nd hi hx hs hf
 split at h
 .rename_i l e;exact DS.setO _ (S J _ e) (λa=>h _ jl) c.nd hi hx hs hf
 .rename_i r hn e;split at h
  .rename_i d hd;exact DS.set _ ((S J _ e).toE hd) (h _ jl) c.nd hi hx hs hf
  .exact h.elim
 .exact h.elim
def Ts.setC1:∀{X:Cx}{k i:Nat}{z y:ao}{py p p1 pos:aR}{elt' it' c':Ex}{elt it:ar}{ifs:List ar} {scope:bJ} (hq:X.calm=af) (hk:X.N[k]?=aa z) (hx:Loc X.env.scope z) (hf:X.fn z=af\/X.env.scope.names.lookup z=aa .local) (hsw:aO (.ListComp elt [⟨.Name y py,it,ifs,0⟩] scope p) (aa (.Name z p1)) pos.line X.env=pure af) (hi:X.N[i]?=aa y) (hl:Oo scope y=af) (hkind:scope.kind=.function) (hok:Jo scope X.env X.N [i]=af) (hs:∀x,b8 it X.env x=pure x),Tr X it' (.i (.Name y py) it)->(∀C s H fp pn,Tr (cCx X scope C s H fp pn) elt' (.e elt))->(∀C s H fp pn,Tr (cCx X scope C s H fp pn) c' (.c ifs))->Ts X (.set k (.comp [i] elt' it' c')) (.s (.Assign [.Name z p1] (.ListComp elt [⟨.Name y py,it,ifs,0⟩] scope p) pos)):=by
 intro _ _ _ _ _ _ _ _ _ _ _ _ _ _ _ _ hq hk hx hf hsw hi hl hkind hok hs hit he hc;refine⟨λfu Γ G=>?_⟩;intro c g J P h;exact j5f hq c hk hx hf hsw (λJ ds z=>sound hit c g J ds z) hkind hok hs (λJ d ρ2 hb hun=>by
  simp only[vf]at hb
  cases hb
  have hu:=hun _ (xu.mpr rfl)
  exact⟨_,jl,Wk.set hu,Bu hu,λC s H fp pn=>DG.name _ c.nd hi (j3u hl) (j76 hl)⟩)
  (λC s H fp pn J r z=>sound (he C s H fp pn) c.comp g.comp J r z) (λC s H fp pn J=>sound (hc C s H fp pn) c.comp g.comp J) h
theorem Ts.mov:∀{X:Cx}{i j:Nat}{x y:ao}{p q pos:aR}(hi:X.N[i]?=aa x) (hj:X.N[j]?=aa y) (hx:Loc X.env.scope x) (hf:X.fn x=af\/X.env.scope.names.lookup x=aa .local) (hv:Vis X.env.scope y) (hd:(y==k89)=ae) (hcd:(y==k8a)=ae),Ts X (.mov i j) (.s (.Assign [.Name x p] (.Name y q) pos)):=by
 intro _ _ _ _ _ _ _ _ hi hj hx hf hv hd hcd;refine⟨λfu Γ G=>?_⟩;intro c g J P h;rw[jp7]at h;unfold j1w at h;split at h
 .rename_i l e;obtain⟨a,q⟩:=Jw e;split at h
  .exact h.elim
  .rename_i hij;exact DS.mov q hij (h _ (by rw[jl,jl];rfl)) c.nd hi hj hx hf hv hd hcd
 .rename_i d e;exact DS.set _ (DE.var _ (Uc e) hj hv hd hcd) (h _ jl) c.nd hi hx rfl hf
 .exact h.elim
theorem Ts.expr:∀{X:Cx}{e':Ex}{e:ar}{pos:aR}(hs:aO e ag pos.line X.env=pure ae),Tr X e' (.e e)->Ts X (.expr e') (.s (.Expr e pos)):=by
 intro _ _ _ _ hs he;refine⟨λfu Γ G=>?_⟩;intro c g J P h;rw[jlm]at h;unfold Kw at h;rcases Uh h with h|⟨y,ey,hP⟩
 rotate_left
 .exact DS.exprX (j19 he c g J y ey) (hP J rfl) hs
 split at h
 .rename_i r e;exact DS.expr (sound he c g J r e).toT (h J rfl) hs
 .exact h.elim
theorem Ts.ret:∀{X:Cx}{e':Ex}{e:ar}{pos:aR},Tr X e' (.e e)->Ts X (.ret e') (.s (.Return (aa e) pos)):=by
 intro _ _ _ _ he;refine⟨λfu Γ G=>?_⟩;intro c g J P h;rw[jp6]at h;unfold retS at h;rcases Uh h with h|⟨y,ey,hP⟩
 rotate_left
 .exact DS.retX (j19 he c g J y ey) (hP J rfl)
 split at h
 .rename_i l e;exact DS.retO (sound he c g J _ e) (h _ rfl)
 .rename_i r hn e;exact DS.ret (sound he c g J _ e).toT (h _ rfl)
 .exact h.elim
theorem Ts.retV:∀{X:Cx}{i:Nat}{x:ao}{p pos:aR}(hi:X.N[i]?=aa x) (hv:Vis X.env.scope x) (hd:(x==k89)=ae) (hcd:(x==k8a)=ae),Ts X (.retV i) (.s (.Return (aa (.Name x p)) pos)):=by
 intro _ _ _ _ _ hi hv hd hcd;refine⟨λfu Γ G=>?_⟩;intro c g J P h;rw[jlh]at h;unfold Ou at h;split at h
 .rename_i l e;obtain⟨a,q⟩:=Jw e;exact DS.retV _ q (h _ rfl) hi hv hd hcd
 .rename_i d e;exact DS.ret (DE.toT (DE.var _ (Uc e) hi hv hd hcd)) (h _ rfl)
 .exact h.elim
theorem Ts.ife:∀{X:Cx}{c':Ex}{a b:Sx}{c:ar}{sa sb:List aU}{pos:aR},Tr X c' (.b c)->Ts X a (.ss sa)->Ts X b (.ss sb)->Ts X (.ife c' a b) (.s (.If c sa sb pos)):=by
 intro _ _ _ _ _ _ _ _ hc q1 q2;refine⟨λfu Γ G=>?_⟩;have iha:=q1.m fu Γ G;have ihb:=q2.m fu Γ G;intro c g J P h;rw[jp8]at h;split at h
 .rename_i e;exact DS.if (sound hc c g J af e) (λ_=>iha c g J P h) λz=>by cases z
 .rename_i e;exact DS.if (sound hc c g J ae e) (λz=>by cases z) λ_=>ihb c g J P h
 .exact h.elim
def Ts.for1:∀{X:Cx}{i:Nat}{y:ao}{it':Ex}{b:Sx}{it:ar}{body:List aU} {p pos:aR} (hq:X.calm=af) (hi:X.N[i]?=aa y) (hx:Loc X.env.scope y) (hf:X.fn y=af\/X.env.scope.names.lookup y=aa .local) (hs:∀x,b8 it X.env x=pure x),Tr X it' (.i (.Name y p) it)->Ts X b (.ss body)->Ts X (.loop [i] it' b) (.s (.For (.Name y p) it body [] pos)):=by intro _ _ _ _ _ _ _ _ _ hq hi hx hf hs hit q1;refine⟨λfu Γ G=>?_⟩;have ih:=q1.m fu Γ G;intro c g J P h;exact Dw hq c hs (bind1 c.nd hi hx hf) (λJ ds z=>sound hit c g J ds z) (ih c g) h
def Ts.for2:∀{X:Cx}{i j:Nat}{x y:ao}{it':Ex}{b:Sx}{it:ar}{body:List aU} {n:Nat} {p q pt pos:aR} (hq:X.calm=af) (hij:i≠j) (hi:X.N[i]?=aa x) (hj:X.N[j]?=aa y) (hx:Loc X.env.scope x) (hy:Loc X.env.scope y) (hf:X.fn x=af\/X.env.scope.names.lookup x=aa .local) (hg:X.fn y=af\/X.env.scope.names.lookup y=aa .local) (hs:∀x,b8 it X.env x=pure x),Tr X it' (.i (.Tuple [.Name x p,.Name y q] n pt) it)->Ts X b (.ss body)->Ts X (.loop [i,j] it' b) (.s (.For (.Tuple [.Name x p,.Name y q] n pt) it body [] pos)):=by intro _ _ _ _ _ _ _ _ _ _ _ _ _ _ hq hij hi hj hx hy hf hg hs hit q1;refine⟨λfu Γ G=>?_⟩;have ih:=q1.m fu Γ G;intro c g J P h;exact Dw hq c hs (jol hq hij c.nd hi hj hx hy hf hg) (λJ ds z=>sound hit c g J ds z) (ih c g) h
theorem Ts.app:∀{X:Cx}{i:Nat}{x:ao}{e':Ex}{e:ar}{p p1 p2 pos:aR}(hN:X.N[i]?=aa x) (hv:Vis X.env.scope x) (hd:(x==k89)=ae) (hcd:(x==k8a)=ae) (hst:ah [e] X.env=[(ae,aD e X.env)]) (hline:(p1.endLine==p2.line)=af) (hbase:aY (.Name x p) "append" X.env (aD (.Name x p) X.env)=aD (.Name x p) X.env) (hfew:((aS p2 (ah [e] X.env)).all (λx=>!x.1)&&(bU p2 (bg [] X.env)).all (λx=>x.1.isSome)&&decide (([e]:List ar).length+([]:List bb).length+(if ([]:List bb).isEmpty then 0 else 1)<30))=af),Tr X e' (.e e)->Ts X (.app i e') (.s (.Expr (.Call (.Attribute (.Name x p) "append" p1) [e] [] p2) pos)):=by
 intro _ _ _ _ _ _ _ _ _ hN hv hd hcd hst hline hbase hfew he;refine⟨λfu Γ G=>?_⟩;intro c g J P h;rw[jpb]at h;unfold Oj at h;split at h
 .rename_i l x el ex;obtain⟨a,q⟩:=Jw el;split at h
  .rename_i d hd';split at h
   .rename_i hz;exact DS.append _ q ((sound he c g J x ex).toE hd') hz (h _ jl) hN hv hd hcd hst hline hbase hfew rfl
   .exact h.elim
  .exact h.elim
 .exact h.elim
theorem Ts.ext:∀{X:Cx}{i:Nat}{x:ao}{e':Ex}{e:ar}{p p1 p2 pos:aR}(hN:X.N[i]?=aa x) (hv:Vis X.env.scope x) (hd:(x==k89)=ae) (hcd:(x==k8a)=ae) (hst:ah [e] X.env=[(ae,aD e X.env)]) (hline:(p1.endLine==p2.line)=af) (hbase:aY (.Name x p) "extend" X.env (aD (.Name x p) X.env)=aD (.Name x p) X.env) (hfew:((aS p2 (ah [e] X.env)).all (λx=>!x.1)&&(bU p2 (bg [] X.env)).all (λx=>x.1.isSome)&&decide (([e]:List ar).length+([]:List bb).length+(if ([]:List bb).isEmpty then 0 else 1)<30))=af),Tr X e' (.e e)->Ts X (.ext i e') (.s (.Expr (.Call (.Attribute (.Name x p) "extend" p1) [e] [] p2) pos)):=by
 intro _ _ _ _ _ _ _ _ _ hN hv hd hcd hst hline hbase hfew he;refine⟨λfu Γ G=>?_⟩;intro c g J P h;rw[jpa]at h;unfold Kv at h;split at h
 .rename_i l m el ex;obtain⟨a,q⟩:=Jw el;split at h
  .rename_i hz;exact DS.extend _ q (sound he c g J _ ex) (z8 hz) (h _ jl) hN hv hd hcd hst hline hbase hfew rfl
  .exact h.elim
 .exact h.elim
theorem Ts.unp:∀{X:Cx}{i j:Nat}{x y:ao}{e':Ex}{e:ar}{px py pt pos:aR}{n:Nat} (hq:X.calm=af) (hi:X.N[i]?=aa x) (hj:X.N[j]?=aa y) (hx:Loc X.env.scope x) (hy:Loc X.env.scope y) (fx:X.fn x=af\/X.env.scope.names.lookup x=aa .local) (fy:X.fn y=af\/X.env.scope.names.lookup y=aa .local) (hs:dh [.Tuple [.Name x px,.Name y py] n pt] e pos.line X.env=pure ae) (hw:di [.Tuple [.Name x px,.Name y py] n pt] e X.env=pure ag),Tr X e' (.e e)->Ts X (.unp i j e') (.s (.Assign [.Tuple [.Name x px,.Name y py] n pt] e pos)):=by
 intro _ _ _ _ _ _ _ _ _ _ _ _ hq hi hj hx hy fx fy hs hw he;refine⟨λfu Γ G=>?_⟩;intro c g J P h;rw[jp5]at h;unfold j0x at h;split at h
 .rename_i d d' ed;split at h
  .exact h.elim
  .rename_i hij;obtain⟨z,ez,ed⟩:=Oq ed;exact DS.unp hij ((sound he c g J z ez).toE ed) (h _ (by rw[jl,jl];rfl)) hq c.nd hi hj hx hy fx fy hs hw
 .rename_i d d' ed;obtain⟨z,ez,ed⟩:=Oq ed;exact DS.unp2 ((sound he c g J z ez).toE ed) (h _ (by rw[jl,jl];rfl)) hq c.nd hi hj hx hy fx fy hs hw
 .exact h.elim
theorem Ts.unp3:∀{X:Cx}{i j k:Nat}{x y z:ao}{e':Ex}{e:ar}{p1 p2 p3 q1 pos:aR}{n:Nat} (hq:X.calm=af) (hi:X.N[i]?=aa x) (hj:X.N[j]?=aa y) (hk:X.N[k]?=aa z) (hx:Loc X.env.scope x) (hy:Loc X.env.scope y) (hz:Loc X.env.scope z) (fx:X.fn x=af\/X.env.scope.names.lookup x=aa .local) (fy:X.fn y=af\/X.env.scope.names.lookup y=aa .local) (fz:X.fn z=af\/X.env.scope.names.lookup z=aa .local) (hs:dh [.Tuple [.Name x p1,.Name y p2,.Name z p3] n q1] e pos.line X.env=pure ae) (hw:di [.Tuple [.Name x p1,.Name y p2,.Name z p3] n q1] e X.env=pure ag),Tr X e' (.e e)->Ts X (.unp3 i j k e') (.s (.Assign [.Tuple [.Name x p1,.Name y p2,.Name z p3] n q1] e pos)):=by
 intro _ _ _ _ _ _ _ _ _ _ _ _ _ _ _ hq hi hj hk hx hy hz fx fy fz hs hw he;refine⟨λfu Γ G=>?_⟩;intro c g J P h;rw[jlf]at h;unfold Dc at h;split at h
 .rename_i d d' d'' ed;obtain⟨z,ez,ed⟩:=Oq ed;exact DS.unp3 ((sound he c g J z ez).toE ed) (h _ (by rw[jl,jl,jl];rfl)) hq c.nd hi hj hk hx hy hz fx fy fz hs hw
 .exact h.elim
theorem Ts.raise:∀{X:Cx}{x:ao}{e':Ex}{e:ar}{np cpos pos:aR}(hq:X.calm=af)(hg:Gl X x) (hdb:(x==k89)=ae) (hs:ah [e] X.env=[(ae,aD e X.env)]),Tr X e' (.e e)->Ts X (.raise x e') (.s (.Raise (aa (.Call (.Name x np) [e] [] cpos)) ag pos)):=by
 intro _ _ _ _ _ _ _ hq hg hdb hs he;refine⟨λfu Γ G=>?_⟩;intro c g J P h;rw[jgh]at h;unfold Mt at h;split at h
 .rename_i r d er eg;obtain⟨hx,o,ho⟩:=c.ec _ _ eg;exact DS.raiseE c.ea hx ho (W.mg_of c.kin c.ns ho) c.kin hq (λI H R=>(sound he c g J r er).toT I H _ R λv H' g' _=>g') (h J rfl) hg hdb hs
 .exact h.elim
theorem Ts.tryK:∀{X:Cx}{b:Sx}{i j:Nat}{n k:ao}{body:List aU}{p p1 p2 p3 p4 p5 pos hpos:aR}(hq:X.calm=af) (hst:X.stack=X.env::X.outer) (hfm:X.env.frame=aa X.env.locals) (hgA:Gl X "AskError") (hg:Gl X "_law_kinds") (hN:X.N[j]?=aa n) (hlo:X.env.scope.names.lookup n=aa .local) (hd:(n==k89)=ae) (hcd:(n==k8a)=ae) (hi:X.N[i]?=aa k) (hxk:Loc X.env.scope k) (hfk:X.fn k=af\/X.env.scope.names.lookup k=aa .local) (hfn:X.fn n=af\/X.env.scope.names.lookup n=aa .local) (hs:aO (.Call (.Name "_law_kinds" p) [.Name n p1] [] p2) (aa (.Name k p3)) p4.line X.env=pure ae) (he:ah [.Name n p1] X.env=(ae,aD (.Name n p1) X.env)::ah [] X.env) (hpl:(aS p2 (ah [] X.env)).any (·.1)=ae),(∀pn xe,Ts { X with pn:=pn,xe:=xe } b (.ss body))->Ts X (.tryK b i j) (.s (.Try body [.ExceptHandler (aa (.Name "AskError" p5)) (aa n) [.Assign [.Name k p3] (.Call (.Name "_law_kinds" p) [.Name n p1] [] p2) p4] hpos] [] [] pos)):=by
 intro _ _ _ _ _ _ _ _ _ _ _ _ _ _ _ hq hst hfm hgA hg hN hlo hd hcd hi hxk hfk hfn hs he hpl q0;refine⟨λfu Γ G=>?_⟩;have ih:=λpn xe=>(q0 pn xe).m fu Γ G;intro c g J P h;refine DS.tryK (λpn xe hpo=>?_) c.ea hst hfm (c.dp hq) (c.un hq) c.nd hgA hg (by decide) hN hlo hd hcd hi hxk hfk hfn hs he hpl;refine ih pn xe ⟨c.un',c.un,c.dp,c.bt,c.gl,c.nd,hpo,c.ea,c.ec,c.el,c.kin,c.ns,c.kd,c.fn,λd e=>let ⟨C,h1,h2⟩:=c.pc d e;⟨C,h1,⟨h2.ex⟩⟩,c.gd,c.fr⟩ ?_ J _ ?_
 .intro f ds;have q:=g f ds;cases e:Γ f ds with
  |val d=>rw[e]at q;exact⟨q.ex⟩
  |fresh l=>rw[e]at q;exact⟨q.ex⟩
  |err x=>rw[e]at q;exact⟨q.ex⟩
  |mval d k=>rw[e]at q;exact λg ls k ds' h1 h2 C h3=>⟨(q g ls k ds' h1 h2 C h3).ex⟩
  |merr x=>rw[e]at q;exact λg ls k ds' h1 h2 C h3=>⟨(q g ls k ds' h1 h2 C h3).ex⟩
  |no=>trivial
 .rw[jlg]at h;split at h
  .rename_i x J' e;rw[e];split at h
   .rename_i l eg;obtain⟨hx,o,ho⟩:=c.ec _ _ eg;intro ρ2 e2;exact⟨hx,⟨o,ho⟩,l,c.kd x l eg,λe' oe a=>h _ (by rw[jl,jl,jl,e2];rfl)⟩
   .exact h.elim
  .rename_i o hn;cases e:run fu Γ G _ (jc J) with
   |err x J'=>exact absurd e (hn x J')
   |next J'=>rw[e]at h;exact h
   |ret r=>rw[e]at h;exact h
   |brk r=>rw[e]at h;exact h
   |cnt r=>rw[e]at h;exact h
   |no=>rw[e]at h;exact h
section
def Yv{G:ao->Option D}(h:Ts X t nd):Cok X G->Gok X Γ->jdk fu Γ G X t nd:=h.m fu Γ G
end
section
variable{fu:Nat}{Γ:ao->List D->Rc}{G:ao->Option D}{ls:List ao}{J:En}{k:Nat}
def jaw:jh fu Γ G ls .nop J k=.next J k:=(rfl)
def jau:jh fu Γ G ls (.set i e r) J k=j5e i (ev Γ G e J) J λJ=>jh fu Γ G ls r J k:=(rfl)
def j5j:jh fu Γ G ls (.ifRai c x m r) J k=ifP (truth (ev Γ G c J)) (Vz x (ev Γ G m J) (G (bang x)) J) (jh fu Γ G ls r J k):=(rfl)
def j5k:jh fu Γ G ls (.ifCal c f es r) J k=ifP (truth (ev Γ G c J)) (Uz G (Yh Γ ls f (ev Γ G es J) k) J Sm.ret) (jh fu Γ G ls r J k):=(rfl)
def jav:jh fu Γ G ls (.ret e) J k=K6 (ev Γ G e J) k:=(rfl)
def j7i:jh fu Γ G ls (.take i r) J k=jh fu Γ G ls r (J.set i (.val (.str (ls.getD k "")))) (k+1):=(rfl)
def j5i:jh fu Γ G ls (.takeE r) J k=jh fu Γ G ls r J (k+1):=(rfl)
def j3d:jh fu Γ G ls (.takeIf i c e r) J k=ifP (truth (ev Γ G c J)) (jh fu Γ G ls r (J.set i (.val (.str (ls.getD k "")))) (k+1)) (j51 i (stOf (ev Γ G e J)) J λJ=>jh fu Γ G ls r J k):=(rfl)
def j5m:jh fu Γ G ls (.callS i f es r) J k=Uz G (Yh Γ ls f (ev Γ G es J) k) J λd k'=>jh fu Γ G ls r (J.set i (.val d)) k':=(rfl)
def j7j:jh fu Γ G ls (.appC i f es r) J k=j5r J[i]? (Uz G (Yh Γ ls f (ev Γ G es J) k) J λd k'=>j6n i J[i]? J d λJ=>jh fu Γ G ls r J k'):=(rfl)
def Mp:jh fu Γ G ls (.whlA y b r) J k=Jl (λJ k=>jh fu Γ G ls b J k) (λJ k=>jh fu Γ G ls r J k) y ls fu J k:=(rfl)
def j5l:jh fu Γ G ls (.ifAll x m r) J k=if ls.length<=k then jh fu Γ G ls r J k else Vz x (ev Γ G m J) (G (bang x)) J:=(rfl)
end
section
variable{X:Cx}{pi i:Nat}{x y f:ao}{c' e' m' es':Ex}{c e m cl:ar}{es:List ar}{r b:Px}{st:aU}{sa rest:List aU}{p py p1 p2 p3 p4 p5 pos:aR}{J:Rho}{o:Ob}
def Yw(h:∃ob,J[pi]?=aa (.raw o.a ob rfN))(hip:i≠pi):∃ob,(J.set i s)[pi]?=aa (.raw o.a ob rfN):=let ⟨ob,h⟩:=h;⟨ob,by rw[zq hip];exact h⟩
theorem MP.nop:MP X pi .nop []:=λfu Γ G c g C hC T o ls J k P hp h=>MSs.nil (h J rfl hp)
theorem MP.set(hip:i≠pi)(hi:X.N[i]?=aa x)(hx:Loc X.env.scope x)(hs:aO e (aa (.Name x p)) pos.line X.env=pure ae)(hf:X.fn x=af\/X.env.scope.names.lookup x=aa .local)(he:Tr X e' (.e e))(hr:MP X pi r rest) :
  MP X pi (.set i e' r) (.Assign [.Name x p] e pos::rest):=λfu Γ G c g C hC T o ls J k P hp h=>by
 rw[jau]at h;unfold j5e at h;split at h
 .rename_i l el;refine MSs.plain (N:=λρ1=>∃a,ρ1=J.set i (.own a l)) (DS.setO i (sound he c g J (.o l) el) (λa=>⟨a,rfl⟩) c.nd hi hx hs hf) λρ1 ⟨a,e1⟩=>?_;subst e1;exact hr fu Γ G c g C hC T o ls _ k P (Yw hp hip) (by rw[jl];exact h)
 .rename_i w x' hn el;split at h
  .rename_i d ed;refine MSs.plain (N:=(· = J.set i (.val d))) (DS.set i ((sound he c g J x' el).toE ed) rfl c.nd hi hx hs hf) λρ1 e1=>?_;subst e1;exact hr fu Γ G c g C hC T o ls _ k P (Yw hp hip) (by rw[jl];exact h)
  .exact h.elim
 .exact h.elim
def MP.ret_ms{G:ao->Option D}(he:Tr X e' (.e e))(c:Cok X G)(g:Gok X Γ)(h:V8 pi o (K6 (ev Γ G e' (jc J)) k) P):MSs X C o ls J k (.Return (aa e) pos::rest) P:=by
 unfold K6 at h;split at h
 .exact h.elim
 .rename_i w x' hn el;exact MSs.plain (N:=λ_=>False) (DS.ret (sound he c g J x' el).toT ⟨_,rfl,h⟩) λ_ z=>z.elim
 .exact h.elim
theorem MP.ret(he:Tr X e' (.e e)):MP X pi (.ret e') (.Return (aa e) pos::rest):=λfu Γ G c g C hC T o ls J k P hp h=>by rw[jav]at h;exact MP.ret_ms (pi:=pi) he c g h
def MP.rai_ms{G:ao->Option D}(hq:X.calm=af)(hg:Gl X x)(hdb:(x==k89)=ae)(hs:ah [m] X.env=[(ae,aD m X.env)])(he:Tr X m' (.e m))(c:Cok X G)(g:Gok X Γ)
  (h:V8 pi o (Vz x (ev Γ G m' (jc J)) (G (bang x)) (jc J)) P):MSs X C o ls J k (.Raise (aa (.Call (.Name x np) [m] [] cpos)) ag pos::rest) P:=by
 unfold Vz at h;split at h
 .rename_i r d er eg;obtain⟨hx,o,ho⟩:=c.ec _ _ eg;exact MSs.plain (N:=λ_=>False) (DS.raiseE c.ea hx ho (W.mg_of c.kin c.ns ho) c.kin hq (λI H R=>(sound he c g J r er).toT I H _ R λv H' g' _=>g') (h J rfl) hg hdb hs) λ_ z=>z.elim
 .exact h.elim
def j7o{x:ao}{w:Option W}{d:Option D}{J:En}{P:Pm}(h:V8 pi o (Vz x w d J) P):V8 pi o (Vz x w d J) { P with nx:=λ_ _=>False }:=by
 unfold Vz at h ⊢;split at h
 .exact h
 .exact h
theorem MP.ifRai(hq:X.calm=af)(hg:Gl X x)(hdb:(x==k89)=ae)(hs:ah [m] X.env=[(ae,aD m X.env)])(hc:Tr X c' (.b c))(he:Tr X m' (.e m))(hr:MP X pi r rest) :
  MP X pi (.ifRai c' x m' r) (.If c [.Raise (aa (.Call (.Name x np) [m] [] cpos)) ag p] [] pos::rest):=λfu Γ G cc g C hC T o ls J k P hp h=>by
 rw[j5j]at h;unfold ifP at h;split at h
 .rename_i et;exact MSs.ife (sound hc cc g J af et) (λ_=>MP.rai_ms (pi:=pi) hq hg hdb hs he cc g (j7o h)) λz=>by cases z
 .rename_i et;exact MSs.ife (sound hc cc g J ae et) (λz=>by cases z) λ_=>hr fu Γ G cc g C hC T o ls J k P hp h
 .exact h.elim
theorem MP.ifAll(hq:X.calm=af)(hg:Gl X x)(hdb:(x==k89)=ae)(hs:ah [m] X.env=[(ae,aD m X.env)])(hpN:X.N[pi]?=aa y)(hv:Vis X.env.scope y)(hd:(y==k89)=ae)(hcd:(y==k8a)=ae)(mc:Qs X (.Name y py) "all_taken" p1 p2)
  (ht:∀whole,fg (.Call (.Attribute (.Name y py) "all_taken" p1) [] [] p2) X.env whole=(do let v <-whole;gE (Expr.Call (.Attribute (.Name y py) "all_taken" p1) [] [] p2).pos;fh [v] (kE v))) (he:Tr X m' (.e m)) (hr:MP X pi r rest) :
  MP X pi (.ifAll x m' r) (.If (.UnaryOp .Not (.Call (.Attribute (.Name y py) "all_taken" p1) [] [] p2) p3) [.Raise (aa (.Call (.Name x np) [m] [] cpos)) ag p] [] pos::rest):=λfu Γ G cc g C hC T o ls J k P hp h=>by
 rw[j5l]at h;obtain⟨ob,hp'⟩:=hp;refine MSs.ifAll T hp' hpN hv hd hcd mc ht (λz=>?_) λz=>?_
 .rw[if_neg z]at h;exact MP.rai_ms (pi:=pi) hq hg hdb hs he cc g (j7o h)
 .rw[if_pos z]at h;exact hr fu Γ G cc g C hC T o ls J k P ⟨ob,hp'⟩ h
theorem MP.take(hip:i≠pi)(hpN:X.N[pi]?=aa y)(hv:Vis X.env.scope y)(hd:(y==k89)=ae)(hcd:(y==k8a)=ae)(mc:Qs X (.Name y py) "taken" p1 p2)
  (hi:X.N[i]?=aa x) (hx:Loc X.env.scope x) (hs:aO (.Call (.Attribute (.Name y py) "taken" p1) [] [] p2) (aa (.Name x p)) pos.line X.env=pure ae) (hf:X.fn x=af\/X.env.scope.names.lookup x=aa .local) (hr:MP X pi r rest) :
  MP X pi (.take i r) (.Assign [.Name x p] (.Call (.Attribute (.Name y py) "taken" p1) [] [] p2) pos::rest):=λfu Γ G cc g C hC T o ls J k P hp h=>by
 rw[j7i]at h;obtain⟨ob,hp'⟩:=id hp;exact MSs.take T hp' hpN hv hd hcd mc cc.nd hi hx hs hf (hr fu Γ G cc g C hC T o ls _ (k+1) P (Yw hp hip) (by rw[jl];exact h))
theorem MP.takeE(hpN:X.N[pi]?=aa y)(hv:Vis X.env.scope y)(hd:(y==k89)=ae)(hcd:(y==k8a)=ae)(mc:Qs X (.Name y py) "taken" p1 p2)
  (hs:aO (.Call (.Attribute (.Name y py) "taken" p1) [] [] p2) ag pos.line X.env=pure ae) (hr:MP X pi r rest) :
  MP X pi (.takeE r) (.Expr (.Call (.Attribute (.Name y py) "taken" p1) [] [] p2) pos::rest):=λfu Γ G cc g C hC T o ls J k P hp h=>by
 rw[j5i]at h;obtain⟨ob,hp'⟩:=id hp;exact MSs.takeE T hp' hpN hv hd hcd mc hs (hr fu Γ G cc g C hC T o ls _ (k+1) P hp h)
theorem MP.takeIf(hip:i≠pi)(hpN:X.N[pi]?=aa y)(hv:Vis X.env.scope y)(hd:(y==k89)=ae)(hcd:(y==k8a)=ae)(mc:Qs X (.Name y py) "taken" p1 p2)
  (hi:X.N[i]?=aa x) (hx:Loc X.env.scope x) (hs:aO (.IfExp c (.Call (.Attribute (.Name y py) "taken" p1) [] [] p2) e p3) (aa (.Name x p)) pos.line X.env=pure ae) (hf:X.fn x=af\/X.env.scope.names.lookup x=aa .local)
  (hc:Tr X c' (.b c)) (he:Tr X e' (.e e)) (hr:MP X pi r rest) :
  MP X pi (.takeIf i c' e' r) (.Assign [.Name x p] (.IfExp c (.Call (.Attribute (.Name y py) "taken" p1) [] [] p2) e p3) pos::rest):=λfu Γ G cc g C hC T o ls J k P hp h=>by
 rw[j3d]at h;obtain⟨ob,hp'⟩:=id hp;unfold ifP at h;split at h
 .rename_i et;exact MSs.takeIf (d:=.non) T hp' hpN hv hd hcd mc cc.nd hi hx hs hf (sound hc cc g J af et) (λz=>by cases z) (λ_=>hr fu Γ G cc g C hC T o ls _ (k+1) P (Yw hp hip) (by rw[jl];exact h)) λz=>by cases z
 .rename_i et;unfold j51 at h;split at h
  .rename_i d ed;obtain⟨z,ez,ed⟩:=Oq ed;exact MSs.takeIf (d:=d) T hp' hpN hv hd hcd mc cc.nd hi hx hs hf (sound hc cc g J ae et) (λ_=>(sound he cc g J z ez).toE ed) (λz=>by cases z) λ_=>hr fu Γ G cc g C hC T o ls _ k P (Yw hp hip) (by rw[jl];exact h)
  .exact h.elim
 .exact h.elim
def Od{G:ao->Option D}(cc:Cok X G)(g:Gok X Γ)(hC:X.mg "Pieces"=aa (.ref C))(ha:Tr X es' (.a es))(h:V8 pi o (Uz G (Yh Γ ls f (ev Γ G es' (jc J)) k) (jc J) F) P) :
  (∃ds d k',DA X J es ds/\(CalM X f C λls2 k2 ds2 d2 k2'=>ls2=ls/\k2=k/\ds2=ds/\d2=d/\k2'=k')/\V8 pi o (F d k') P) \/
  (∃ds z V,DTA X J es ds/\(CalMX X f C λls2 k2 ds2 x2=>ls2=ls/\k2=k/\ds2=ds/\x2=z)/\X.mg z=aa V/\P.ex z J):=by
 unfold Yh at h;split at h
 .rename_i rs ers;split at h
  .rename_i ds eds;have A:=sound ha cc g J rs ers;have q:=g (mq f) (.lst (ls.map D.str)::.int (k:Int)::ds);unfold Uz at h;split at h
   .rename_i d k' z;rw[z]at q;exact .inl ⟨ds,d,k',A.toA eds,q f ls k ds rfl rfl C hC,h⟩
   .rename_i z ez;split at h
    .rename_i hz;rw[ez]at q;obtain⟨d,hd⟩:=Xr.mp hz;obtain⟨hx,V,hV⟩:=cc.ec _ _ hd;exact .inr ⟨ds,z,V,(A.toA eds).toT,q f ls k ds rfl rfl C hC,W.mg_of cc.kin cc.ns hV,h J rfl⟩
    .exact h.elim
   .exact h.elim
  .exact h.elim
 .exact h.elim
theorem MP.callS(hip:i≠pi)(mm:MC X pi f es cl)(hi:X.N[i]?=aa x)(hx:Loc X.env.scope x)(hs:aO cl (aa (.Name x p)) pos.line X.env=pure ae)(hf:X.fn x=af\/X.env.scope.names.lookup x=aa .local)(ha:Tr X es' (.a es))(hr:MP X pi r rest) :
  MP X pi (.callS i f es' r) (.Assign [.Name x p] cl pos::rest):=λfu Γ G cc g C hC T o ls J k P hp h=>by
 rw[j5m]at h;obtain⟨ob,hp'⟩:=id hp;rcases Od cc g hC ha h with ⟨ds,d,k',A,cm,h⟩|⟨ds,z,V,A,cm,hV,h⟩
 .exact MSs.callS cm mm hp' A ⟨rfl,rfl,rfl,rfl,rfl⟩ cc.nd hi hx hs hf (hr fu Γ G cc g C hC T o ls _ k' P (Yw hp hip) (by rw[jl];exact h))
 .exact MSs.callSX cm mm hp' A ⟨rfl,rfl,rfl,rfl⟩ hV cc.nd hi hx hs hf h
theorem MP.ifCal(mm:MC X pi f es cl)(hc:Tr X c' (.b c))(ha:Tr X es' (.a es))(hr:MP X pi r rest):MP X pi (.ifCal c' f es' r) (.If c [.Return (aa cl) p] [] pos::rest):=λfu Γ G cc g C hC T o ls J k P hp h=>by
 rw[j5k]at h;obtain⟨ob,hp'⟩:=id hp;unfold ifP at h;split at h
 .rename_i et;refine MSs.ife (sound hc cc g J af et) (λ_=>?_) λz=>by cases z
  rcases Od cc g hC ha h with ⟨ds,d,k',A,cm,h⟩|⟨ds,z,V,A,cm,hV,h⟩
  .exact MSs.retC cm mm hp' A ⟨rfl,rfl,rfl,rfl,rfl⟩ h
  .exact MSs.retCX cm mm hp' A ⟨rfl,rfl,rfl,rfl⟩ hV h
 .rename_i et;exact MSs.ife (sound hc cc g J ae et) (λz=>by cases z) λ_=>hr fu Γ G cc g C hC T o ls J k P hp h
 .exact h.elim
theorem MP.appC(hip:i≠pi)(mm:MC X pi f es cl)(hN:X.N[i]?=aa x)(hv:Vis X.env.scope x)(hd:(x==k89)=ae)(hcd:(x==k8a)=ae)
  (hst:ah [cl] X.env=[(ae,aD cl X.env)]) (hline:(p1.endLine==p2.line)=af) (hbase:aY (.Name x p) "append" X.env (aD (.Name x p) X.env)=aD (.Name x p) X.env)
  (hfew:((aS p2 (ah [cl] X.env)).all (λx=>!x.1)&&(bU p2 (bg [] X.env)).all (λx=>x.1.isSome)&&decide (([cl]:List ar).length+([]:List bb).length+(if ([]:List bb).isEmpty then 0 else 1)<30))=af)
  (hs:aO (.Call (.Attribute (.Name x p) "append" p1) [cl] [] p2) ag pos.line X.env=pure ae) (ha:Tr X es' (.a es)) (hr:MP X pi r rest) :
  MP X pi (.appC i f es' r) (.Expr (.Call (.Attribute (.Name x p) "append" p1) [cl] [] p2) pos::rest):=λfu Γ G cc g C hC T o ls J k P hp h=>by
 rw[j7j]at h;obtain⟨ob,hp'⟩:=id hp;unfold j5r at h;split at h
 .rename_i l el;obtain⟨a,q⟩:=Jw el;rcases Od cc g hC ha h with ⟨ds,d,k',A,cm,h⟩|⟨ds,z,V,A,cm,hV,h⟩
  .unfold j6n at h;rw[el]at h;dsimp only at h;split at h
   .rename_i hl;exact MSs.appC (p3:=p) cm mm hp' A ⟨rfl,rfl,rfl,rfl,rfl⟩ q hl hN hv hd hcd hst hline hbase hfew hs (hr fu Γ G cc g C hC T o ls _ k' P (Yw hp hip) (by rw[jl];exact h))
   .exact h.elim
  .exact MSs.appCX cm mm hp' A ⟨rfl,rfl,rfl,rfl⟩ hV q hN hv hd hcd hst hline hbase hfew hs h
 .exact h.elim
theorem MP.whlA(hpN:X.N[pi]?=aa y)(hv:Vis X.env.scope y)(hd:(y==k89)=ae)(hcd:(y==k8a)=ae)(mc:Qs X (.Name y py) "ahead" p1 p2)
  (hb:MP X pi b body) (hr:MP X pi r rest) :
  MP X pi (.whlA z b r) (.While (.Compare (.Call (.Attribute (.Name y py) "ahead" p1) [] [] p2) [.NotEq] [.Constant (.str z) n p3] p4) body [] pos::rest):=λfu Γ G cc g C hC T o ls J k P hp h=>by
 rw[Mp]at h;refine MSs.whl T (λm J' k'=>(∃ob,J'[pi]?=aa (.raw o.a ob rfN))/\V8 pi o (Jl (λJ k=>jh fu Γ G ls b J k) (λJ k=>jh fu Γ G ls r J k) z ls m (jc J') k') P) fu ⟨hp,h⟩ cc.po hpN hv hd hcd mc λm J' k' ⟨hp',w⟩=>⟨hp',λhz=>?_,λhz=>?_⟩
 .cases m with
  |zero=>exact w.elim
  |succ m =>
   unfold Jl at w;rw[if_neg hz]at w;refine hb fu Γ G cc g C hC T o ls J' k' _ hp' ?_;cases e:jh fu Γ G ls b (jc J') k' with
   |next ρ2 k2=>rw[e]at w;exact λρ3 e3 hp3=>⟨m,S5 m,hp3,by rw[e3];exact w⟩
   |ret d k2=>rw[e]at w;exact w
   |err x ρ2=>rw[e]at w;exact w
   |no=>rw[e]at w;exact w
 .cases m with
  |zero=>exact w.elim
  |succ m =>unfold Jl at w;rw[if_pos hz]at w;exact hr fu Γ G cc g C hC T o ls J' k' P hp' w
end
end L2
end
section
namespace L2
open PySem PySem.Spec PyProof.Rows
structure Fi where
 n:Nat
 nn:Nat
 body:Sx
 lam:Bool
noncomputable def fin:So->Rc
 |.ret r=>r
 |.next _=>.val .non
 |.err x _=>.err x
 |_=>.no
noncomputable def enter(F:Fi)(ds:List D):En:=ds.map Sv.val++ax (F.nn-F.n) Sv.un
noncomputable def evP(fu:Nat)(G:ao->Option D)(T:ao->Option Fi):Nat->ao->List D->Rc
 |0,_,_=>.no
 |n+1,f,ds=>match T f with
  |none=>.no
  |some F=>if ds.length=F.n then fin (run fu (evP fu G T n) G F.body (enter F ds))else .no
structure Lk(P:aA)(w:aH)(K:k84)(mg:k87)(base:aL)(x:ao)(F:Fi):Prop where
 ex:∃(st:aU)(f:ak)(fd:aN)(N ps:List ao),Fun K x x st f fd/\FnScope N ps (j0 st)/\ps.length=F.n/\N.length=F.nn/\Binds K fd ps []/\Dfl K x fd ps/\mg x=aa (.ref f) /\
  ∀(cdv:aj)(A:aI)(outer:List d8)(s:aq)(H:Hp)(E:XK)(xe:k85),Ts ((qy CX0 P w K mg base N x (j0 st) f cdv A outer s H E).wish xe) F.body (.ss (jj st))
def Fw(P:aA)(w:aH)(K:k84)(mg:k87)(base:aL)(C:ak):Prop:=∃(fA fT fL fI:ak)(dA dT dL dI:aN),PcT K mg C fA fT fL fI/\(qw P w K mg base CX0 1 fA dA ["self"] (Ot C)/\Binds K dA ["self"] []) /\
  (qw P w K mg base CX0 2 fT dT ["self"] (K1 C)/\Binds K dT ["self"] [])/\(qw P w K mg base CX0 1 fL dL ["self"] (j5b C)/\Binds K dL ["self"] [])/\(qw P w K mg base CX0 1 fI dI ["self","text"] (K3 C)/\Binds K dI ["self","text"] [])
structure LkP(P:aA)(w:aH)(K:k84)(mg:k87)(base:aL)(x:ao)(F:Fi):Prop where
 ex:∃(g:ao)(p:Px)(st:aU)(f:ak)(fd:aN)(N ps:List ao),x=mq g/\F.body=.px p/\Fun K g g st f fd/\FnScope N ps (j0 st)/\ps.length+1=F.n/\N.length+1=F.nn/\0<ps.length/\ps.length<=N.length/\Binds K fd ps []/\mg g=aa (.ref f)/\(∃C,mg "Pieces"=aa (.ref C)/\Fw P w K mg base C) /\
  ∀(cdv:aj)(A:aI)(outer:List d8)(s:aq)(H:Hp)(E:XK)(xe:k85),MP ((qy CX0 P w K mg base N g (j0 st) f cdv A outer s H E).wish xe) 0 p (jj st)
structure Tb(P:aA)(w:aH)(K:k84)(mg:k87)(base:aL)(G:ao->Option D):Prop where
 bt:∀x∈Wj,mg x=ag
 gl:∀x d,Vx x=ae->G x=aa d->∃u v,mg x=aa u/\RelV v u/\∀H,Enc K H d v
 ea:Q8 K=af
 ec:∀x d,G (bang x)=aa d->x∈qg/\∃o,W.nsIn K aw x=aa (aa o)
 el:G "?"=aa (.bl af)->∀c∈qg,∃v,W.nsIn K aw c=aa (aa v)
 kin:K.In base
 ns:base.Ns aw mg
 kd:∀x l,G (bang x)=aa (.lst l)->KindsP P w K mg base "_law_kinds" x l
 fn:∀f d,G (qm f)=aa d->∃fa,mg f=aa (.ref fa)/\W.keepIn K (.ref fa)=af
 pc:∀d,G (qm "Pieces")=aa d->∃C,mg "Pieces"=aa (.ref C)/\Fw P w K mg base C
def LkF(P:aA)(w:aH)(K:k84)(mg:k87)(base:aL)(f:ao)(F:Fi):Prop:=(Lk P w K mg base f F/\f.cps.toList.head?≠aa 64)\/LkP P w K mg base f F
structure LkH(P:aA)(w:aH)(K:k84)(mg:k87)(base:aL)(x:ao)(F:Fi):Prop where
 ex:∃(st:aU)(f:ak)(fd:aN)(N:List ao)(p:ao),Fun K x x st f fd/\FnScope N [p] (j0 st)/\1<=N.length/\N.length=F.nn/\Binds K fd [p] []/\mg x=aa (.ref f) /\
  ∀(cdv:aj)(A:aI)(outer:List d8)(s:aq)(H:Hp),Ts { (qy CX0 P w K mg base N x (j0 st) f cdv A outer s H E0).nox with calm:=ae } F.body (.ss (jj st))
section
variable{P:aA}{w:aH}{K:k84}{mg:k87}{base:aL}{fu:Nat}{G:ao->Option D}{T:ao->Option Fi}
def Lh{N:List ao}{ds:List D}{F:Fi}(h1:ds.length=F.n)(h2:N.length=F.nn):jc (za N ds)=enter F ds:=by unfold jc za enter;rw[ph,Xe,fw,h1,h2];rfl
def Og(y:ao):(bang y).cps.toList.head?=aa 33:=by unfold bang;show(("!":ao).cps++y.cps).toList.head?=aa 33;rw[sr];rfl
def j49(y:ao):(mq y).cps.toList.head?=aa 64:=by unfold mq;show(("@":ao).cps++y.cps).toList.head?=aa 64;rw[sr];rfl
def jim(h:mq x=mq y):x=y:=by unfold mq at h;have h:(⟨("@":ao).cps++x.cps⟩:ao)=⟨("@":ao).cps++y.cps⟩:=h;have h:=congrArg lG h;have e:x.cps=y.cps:=e5 h rfl;cases x;cases y;cases e;rfl
theorem j3y:∀ls:List ao,strsOf (ls.map D.str)=aa ls
 |[]=>rfl
 |_::l=>by rw[X5,strsOf,j3y l];rfl
def j3q{N:List ao}{ds:List D}{F:Fi}(h1:ds.length+2=F.n)(h2:N.length+1=F.nn):jc (startM N a ds)=.exc rfN::(enter F (.lst ls::.int k::ds)).drop 2:=by
 have e:N.length-(ds.length+1)=F.nn-F.n:=by omega
 unfold startM;rw[jl];unfold jc za enter;rw[ph,Xe,fw];simp only[X5,Xd,cL,su,T8,xn,e];rfl
def j4v(y:ao):bang y ≠ "?":=λh=>by have:=Og y;rw[h]at this;exact absurd this (by decide)
def j43(y:ao):(qm y).cps.toList.head?=aa 63:=by unfold qm;show(("??":ao).cps++y.cps).toList.head?=aa 63;rw[sr];rfl
def j5o(y:ao):qm y ≠ "?":=λh=>by
 have e:((qm y).cps.toList.drop 1).head?=aa 63:=by unfold qm;show((("??":ao).cps++y.cps).toList.drop 1).head?=aa 63;rw[sr];rfl
 rw[h]at e;exact absurd e (by decide)
def jhu(h:qm x=qm y):x=y:=by unfold qm at h;have h:(⟨("??":ao).cps++x.cps⟩:ao)=⟨("??":ao).cps++y.cps⟩:=h;have h:=congrArg lG h;have e:x.cps=y.cps:=e5 h rfl;cases x;cases y;cases e;rfl
def j4u(x y:ao):bang x≠qm y:=λh=>by have:=Og x;rw[h,j43]at this;exact absurd this (by decide)
noncomputable def G0(x:ao):Option D:=if x = "?" then aa (.bl af)else ag
def j3e(L:LkH P w K mg base "_law_kinds" F)(bt:∀x∈Wj,mg x=ag)(ea:Q8 K=af)(el:∀c∈qg,∃v,W.nsIn K aw c=aa (aa v))(kin:K.In base)(ns:base.Ns aw mg)(hnl:zc l=af)
  (hr:run fu (λ_ _=>.no) G0 F.body (.exc x::ax (F.nn-1) .un)=.ret (.fresh l)):KindsP P w K mg base "_law_kinds" x l:=by
 obtain⟨st,f,fd,N,p,hfun,hsc,h1,hN,hb,hm,hts⟩:=L.ex;refine kinds_of hfun hsc hb hm h1 hnl λcdv A outer s H e o hdp hun=>?_;have nob:∀y,G0 (bang y)=ag:=λy=>if_neg (j4v y);have c:Cok { (qy CX0 P w K mg base N "_law_kinds" (j0 st) f cdv A outer s H E0).nox with calm:=ae } G0:=by
  refine⟨?_,(λz=>by cases z),(λz=>by cases z),bt,λy d hb q=>?_,hsc.nd,bW,ea,λy d q=>?_,λ_=>el,kin,ns,λy l' q=>?_,λf d q=>?_,λd q=>?_,(λz=>by cases z),⟨_,_,_,rfl,rfl,rfl⟩⟩
  .show A.units+3+100<bH;omega
  .unfold G0 at q;split at q
   .rename_i z;subst z;cases hb
   .cases q
  .rw[nob]at q;cases q
  .rw[nob]at q;cases q
  .rw[show G0 (qm f)=ag from if_neg (j5o f)]at q;cases q
  .rw[show G0 (qm "Pieces")=ag from if_neg (j5o _)]at q;cases q
 refine Yv (fu:=fu) (Γ:=λ_ _=>.no) (G:=G0) (hts cdv A outer s H) c (λ_ _=>trivial) _ _ ?_;have ab:jc (.raw e o x::ax (N.length-1) .un)=.exc x::ax (F.nn-1) .un:=by unfold jc;rw[X5,fw,hN];rfl
 rw[ab,hr];intro y hy;cases y with
 |val d=>cases hy
 |fresh l=>cases hy;rfl
def j5q(h:Fw P w K mg base C){X:Cx}(h1:X.prog=P)(h2:X.w=w)(h3:X.K=K)(h4:X.mg=mg)(h5:X.base=base)(hn:14<=n)(hr:Room n X.A):PcX X C:=by subst h1 h2 h3 h4 h5;obtain⟨fA,fT,fL,fI,dA,dT,dL,dI,a,b,c,d,e⟩:=h;exact⟨fA,fT,fL,fI,dA,dT,dL,dI,a,b,c,d,e,hr.mono nofun⟩
def Vw(t:Tb P w K mg base G){X:Cx}(h1:X.prog=P)(h2:X.w=w)(h3:X.K=K)(h4:X.mg=mg)(h5:X.base=base)(hn:14<=n)(hr:Room n X.A)(nd:X.N.Nodup)(po:eR (aB X.prog X.w) X.A X.env X.xe)(hfr:∃(env0:d8)(out0:List d8)(L:ak),X.stack=env0::out0/\env0.frame=aa L/\X.env.frame=aa L:=by exact⟨_,_,_,rfl,rfl,rfl⟩):Cok X G:=by subst h1 h2 h3 h4 h5;exact⟨by have:=hr.un;omega,(λ_=>by have:=hr.un;omega),(λ_=>by have:=hr.dp;omega),t.bt,t.gl,nd,po,t.ea,t.ec,t.el,t.kin,t.ns,t.kd,t.fn,λd e=>let ⟨C,h1,h2⟩:=t.pc d e;⟨C,h1,j5q h2 rfl rfl rfl rfl rfl hn hr⟩,(λ_=>hr.gd),hfr⟩
noncomputable def lv:Nat->Nat
 |0=>12
 |n+1=>lv n+4
theorem Zw:∀n,14<=lv n+3
 |0=>by decide
 |n+1=>by have:=Zw n;unfold lv;omega
def jhj{Γ:ao->List D->Rc}{J:En}{p:Px}:run fu Γ G (.px p) J=pxS J[0]? J[1]? λls k=>jh fu Γ G ls p (.exc rfN::J.drop 2) k:=(rfl)
theorem Dn(hT:∀x F,T x=aa F->LkF P w K mg base x F)(t:Tb P w K mg base G):∀(n:Nat)(x:ao)(ds:List D),
  ∃(f:ak)(fd:aN)(ps:List ao),match evP fu G T n x ds with
   |.val d=>qw P w K mg base CX0 (lv n) f fd ps (spP K λds' d'=>ds'=ds/\d'=d)/\mg x=aa (.ref f)/\W.keepIn K (.ref f)=af/\Binds K fd ps []/\Dfl K x fd ps
   |.fresh l=>qw P w K mg base CX0 (lv n) f fd ps (spF K λds' l'=>ds'=ds/\l'=l)/\mg x=aa (.ref f)/\W.keepIn K (.ref f)=af/\Binds K fd ps []/\Dfl K x fd ps
   |.err y=>qw P w K mg base (CX1 P w) (lv n) f fd ps (spX K mg λds' z=>ds'=ds/\z=y)/\mg x=aa (.ref f)/\W.keepIn K (.ref f)=af/\Binds K fd ps []
   |.mval d k'=>∀g ls (k:Nat) ds',x=mq g->ds=.lst (ls.map D.str)::.int (k:Int)::ds'->∀C,mg "Pieces"=aa (.ref C)->qw P w K mg base CX0 (lv n) f fd ps (spM K C λls2 k2 ds2 d2 k2'=>ls2=ls/\k2=k/\ds2=ds'/\d2=d/\k2'=k')/\mg g=aa (.ref f)/\W.keepIn K (.ref f)=af/\Binds K fd ps []
   |.merr y=>∀g ls (k:Nat) ds',x=mq g->ds=.lst (ls.map D.str)::.int (k:Int)::ds'->∀C,mg "Pieces"=aa (.ref C)->qw P w K mg base (CX1 P w) (lv n) f fd ps (j5a K mg C λls2 k2 ds2 x2=>ls2=ls/\k2=k/\ds2=ds'/\x2=y)/\mg g=aa (.ref f)/\W.keepIn K (.ref f)=af/\Binds K fd ps []
   |.no=>True
 |0,x,ds=>⟨0,W.fnOf x x { posonlyargs:=[],args:=[],vararg:=ag,kwonlyargs:=[],kw_defaults:=[],kwarg:=ag,defaults:=[] } [] { kind:=.function,names:=[],isGenerator:=ae,isCoroutine:=ae } .none .none .none .none ag .none .none,[],trivial⟩
 |n+1,x,ds=>by
  have ih:=Dn hT t n;cases hF:T x with
  |none =>
   obtain⟨f,fd,ps,_⟩:=ih x ds;refine⟨f,fd,ps,?_⟩;have e:evP fu G T (n+1) x ds=.no:=by simp only[evP,hF]
   rw[e];trivial
  |some F =>
   have gok:∀{X:Cx},X.prog=P->X.w=w->X.K=K->X.mg=mg->X.base=base->Room (lv n+3) X.A->Gok X (evP fu G T n):=λ{X} h1 h2 h3 h4 h5 hr g ds'=>by
    subst h1 h2 h3 h4 h5;obtain⟨f',fd',ps',q⟩:=ih g ds';cases z:evP fu G T n g ds' with
    |val d=>rw[z]at q;exact⟨lv n,f',fd',ps',q.1,hr,q.2.1,q.2.2.1,q.2.2.2⟩
    |fresh l=>rw[z]at q;exact⟨lv n,f',fd',ps',q.1,hr,q.2.1,q.2.2.1,q.2.2.2⟩
    |err y=>rw[z]at q;exact⟨lv n,f',fd',ps',q.1,hr.mono nofun,q.2.1,q.2.2.1,q.2.2.2⟩
    |mval d k=>rw[z]at q;exact λg' ls k ds'' h1 h2 C h3=>let ⟨a,b⟩:=q g' ls k ds'' h1 h2 C h3;⟨⟨lv n,f',fd',ps',a,hr.mono nofun,b⟩⟩
    |merr y=>rw[z]at q;exact λg' ls k ds'' h1 h2 C h3=>let ⟨a,b⟩:=q g' ls k ds'' h1 h2 C h3;⟨⟨lv n,f',fd',ps',a,hr.mono nofun,b⟩⟩
    |no=>trivial
   rcases hT x F hF with ⟨L,hhead⟩|L
   rotate_left
   .obtain⟨g0,p,st,f,fd,N,ps,hxg,hbody,hfun,hsc,hps,hN,hp0,hpN,hb,hm,⟨C0,hC0,hPc⟩,hmp⟩:=L.ex;refine⟨f,fd,ps,?_⟩;by_cases hl:ds.length=F.n
    .have e:evP fu G T (n+1) x ds=fin (run fu (evP fu G T n) G F.body (enter F ds)):=by simp only[evP,hF,if_pos hl,if_true]
     rw[e,hbody,jhj];cases ho:pxS (enter F ds)[0]? (enter F ds)[1]? λls k=>jh fu (evP fu G T n) G ls p (.exc rfN::(enter F ds).drop 2) k with
     |next J' =>
      exfalso;unfold pxS at ho
      repeat' split at ho
      all_goals cases ho
     |brk _=>trivial
     |cnt _=>trivial
     |no=>trivial
     |err y J' =>
      exfalso;unfold pxS at ho
      repeat' split at ho
      all_goals cases ho
     |ret r =>
      have key:∀g ls (k:Nat) ds',x=mq g->ds=.lst (ls.map D.str)::.int (k:Int)::ds'->g0=g/\ds'.length+1=ps.length/\∀a:ak,
        (∀d k',r=.mval d k'->jh fu (evP fu G T n) G ls p (jc (startM N a ds')) k=.ret d k')/\(∀y,r=.merr y->∃J',jh fu (evP fu G T n) G ls p (jc (startM N a ds')) k=.err y J'):=λg ls k ds' h1 h2=>by
       refine⟨jim (hxg.symm.trans h1),?_,λa=>?_⟩
       .rw[h2]at hl;simp only[xn]at hl;omega
       rw[j3q (F:=F) (ls:=ls.map D.str) (k:=(k:Int)) (by rw[h2]at hl;simp only[xn]at hl;omega) hN,<-h2];have e0:(enter F ds)[0]?=aa (.val (.lst (ls.map D.str))):=by rw[h2];rfl
       have e1:(enter F ds)[1]?=aa (.val (.int (k:Int))):=by rw[h2];rfl
       rw[e0,e1]at ho;unfold pxS at ho;simp only[j3y,Xz,jJ,if_true]at ho;split at ho
       .rename_i d k' z;cases ho;exact⟨λd2 k2 q=>(by cases q;exact z),λy q=>(by cases q)⟩
       .rename_i y J' z;cases ho;exact⟨λd2 k2 q=>(by cases q),λy q=>(by cases q;exact⟨_,z⟩)⟩
       .cases ho
      have sh:(∃d k',r=.mval d k')\/∃y,r=.merr y:=by
       unfold pxS at ho
       repeat' split at ho
       all_goals (cases ho)
       .exact .inl ⟨_,_,rfl⟩
       .exact .inr ⟨_,rfl⟩
      rcases sh with ⟨d,k',er⟩|⟨y,er⟩
      .subst er;intro g ls k ds' h1 h2 C hC;obtain⟨eg,hl2,kk⟩:=key g ls k ds' h1 h2;subst eg;cases hC0.symm.trans hC;refine⟨jqr (n:=lv n+3) hfun hsc (λls2 k2 ds2 d2 k2' h=>by rw[h.2.2.1,hl2]) λcdv A outer s H E hcv hr o ls2 k2 ds2 d2 k2' h=>?_,hm,hfun.kp,hb⟩;obtain⟨rfl,rfl,rfl,rfl,rfl⟩:=h;have ck:=Vw t (X:=(qy CX0 P w K mg base N g0 (j0 st) f cdv A outer s H E).nox) rfl rfl rfl rfl rfl (Zw _) hr hsc.nd bW;refine hmp cdv A outer s H E _ fu (evP fu G T n) G ck (gok rfl rfl rfl rfl rfl hr) C0 hC0 (j5q hPc rfl rfl rfl rfl rfl (Zw _) hr) o _ _ _ _ ⟨dOb,?_⟩ ?_
       .unfold startM;exact Zn (by unfold za;rw[X6,xm,xn];omega)
       .rw[(kk o.a).1 _ _ rfl];exact⟨rfl,rfl⟩
      .subst er;intro g ls k ds' h1 h2 C hC;obtain⟨eg,hl2,kk⟩:=key g ls k ds' h1 h2;subst eg;cases hC0.symm.trans hC;refine⟨jo5 (n:=lv n+3) hfun hsc (λls2 k2 ds2 y2 h=>by rw[h.2.2.1,hl2]) λcdv A outer s H E hcv hr o ls2 k2 ds2 y2 h=>?_,hm,hfun.kp,hb⟩;obtain⟨rfl,rfl,rfl,rfl⟩:=h;have ck:=Vw t (X:=qy (CX1 P w) P w K mg base N g0 (j0 st) f cdv A outer s H E) rfl rfl rfl rfl rfl (Zw _) hr hsc.nd eZ;refine hmp cdv A outer s H E (qy (CX1 P w) P w K mg base N g0 (j0 st) f cdv A outer s H E).xe fu (evP fu G T n) G ck (gok rfl rfl rfl rfl rfl hr) C0 hC0 (j5q hPc rfl rfl rfl rfl rfl (Zw _) hr) o _ _ _ _ ⟨dOb,?_⟩ ?_
       .unfold startM;exact Zn (by unfold za;rw[X6,xm,xn];omega)
       .obtain⟨J',z⟩:=(kk o.a).2 _ rfl;rw[z];exact λ_ _=>rfl
    .have e:evP fu G T (n+1) x ds=.no:=by simp only[evP,hF,if_neg hl]
     rw[e];trivial
   obtain⟨st,f,fd,N,ps,hfun,hsc,hps,hN,hb,hdf,hm,hts⟩:=L.ex;refine⟨f,fd,ps,?_⟩;by_cases hl:ds.length=F.n
   .have e:evP fu G T (n+1) x ds=fin (run fu (evP fu G T n) G F.body (enter F ds)):=by simp only[evP,hF,if_pos hl,if_true]
    have ab:jc (za N ds)=enter F ds:=Lh hl hN;cases ho:run fu (evP fu G T n) G F.body (enter F ds) with
    |next J' =>rw[e,ho];refine⟨Ks (k:=lv n+3) hfun hsc (λds' d' h=>by rw[h.1,hl,hps]) λcdv A outer s H E hcv hr ds' d' ⟨e1,e2⟩=>?_,hm,hfun.kp,hb,hdf⟩;subst e1 e2;refine Yv (fu:=fu) (hts cdv A outer s H E _) (Vw t rfl rfl rfl rfl rfl (Zw _) hr hsc.nd bW) (gok rfl rfl rfl rfl rfl hr) (za N ds') _ ?_;rw[ab,ho];exact λ_ _=>rfl
    |ret r =>
     rw[e,ho];cases r with
     |no=>trivial
     |mval d k=>exact λg _ _ _ hy=>absurd (hy▸j49 g) hhead
     |merr d=>exact λg _ _ _ hy=>absurd (hy▸j49 g) hhead
     |err y =>refine⟨j8v (k:=lv n+3) hfun hsc (λds' d' h=>by rw[h.1,hl,hps]) λcdv A outer s H E hcv hr ds' y' ⟨e1,e2⟩=>?_,hm,hfun.kp,hb⟩;subst e1 e2;refine Yv (X:=qy (CX1 P w) P w K mg base N x (j0 st) f cdv A outer s H E) (fu:=fu) (hts cdv A outer s H E (qy (CX1 P w) P w K mg base N x (j0 st) f cdv A outer s H E).xe) (Vw t rfl rfl rfl rfl rfl (Zw _) hr hsc.nd eZ) (gok rfl rfl rfl rfl rfl hr) (za N ds') _ ?_;rw[ab,ho];intro z hz;cases z<;>cases hz
     |val d =>
      refine⟨Ks (k:=lv n+3) hfun hsc (λds' d' h=>by rw[h.1,hl,hps]) λcdv A outer s H E hcv hr ds' d' ⟨e1,e2⟩=>?_,hm,hfun.kp,hb,hdf⟩;subst e1 e2;refine Yv (fu:=fu) (hts cdv A outer s H E _) (Vw t rfl rfl rfl rfl rfl (Zw _) hr hsc.nd bW) (gok rfl rfl rfl rfl rfl hr) (za N ds') _ ?_;rw[ab,ho];intro y hy;cases y with
      |val d=>cases hy;rfl
      |fresh l=>cases hy
     |fresh l =>
      refine⟨jbq (k:=lv n+3) hfun hsc (λds' d' h=>by rw[h.1,hl,hps]) λcdv A outer s H E hcv hr ds' d' ⟨e1,e2⟩=>?_,hm,hfun.kp,hb,hdf⟩;subst e1 e2;refine Yv (fu:=fu) (hts cdv A outer s H E _) (Vw t rfl rfl rfl rfl rfl (Zw _) hr hsc.nd bW) (gok rfl rfl rfl rfl rfl hr) (za N ds') _ ?_;rw[ab,ho];intro y hy;cases y with
      |val d=>cases hy
      |fresh l=>cases hy;rfl
    |err y J' =>rw[e,ho];refine⟨j8v (k:=lv n+3) hfun hsc (λds' d' h=>by rw[h.1,hl,hps]) λcdv A outer s H E hcv hr ds' y' ⟨e1,e2⟩=>?_,hm,hfun.kp,hb⟩;subst e1 e2;refine Yv (X:=qy (CX1 P w) P w K mg base N x (j0 st) f cdv A outer s H E) (fu:=fu) (hts cdv A outer s H E (qy (CX1 P w) P w K mg base N x (j0 st) f cdv A outer s H E).xe) (Vw t rfl rfl rfl rfl rfl (Zw _) hr hsc.nd eZ) (gok rfl rfl rfl rfl rfl hr) (za N ds') _ ?_;rw[ab,ho];exact λ_ _=>rfl
    |brk _=>rw[e,ho];trivial
    |cnt _=>rw[e,ho];trivial
    |no=>rw[e,ho];trivial
   .have e:evP fu G T (n+1) x ds=.no:=by simp only[evP,hF,if_neg hl]
    rw[e];trivial
end
noncomputable def Gof(gs:List (ao×D))(q:Bool)(xs:List (ao×List D))(fs:List ao)(x:ao):Option D :=
 if Vx x=af then(if x = "?" then(if q=af then aa (.bl af)else ag) else((xs.find? λp=>bang p.1==x).map λp=>.lst p.2).or (if (fs.any λf=>qm f==x)=af then aa .non else ag))else gs.lookup x
def jcg(h:bang x=bang y):x=y:=by unfold bang at h;have h:(⟨("!":ao).cps++x.cps⟩:ao)=⟨("!":ao).cps++y.cps⟩:=h;have h:=congrArg lG h;have e:x.cps=y.cps:=e5 h rfl;cases x;cases y;cases e;rfl
def j3o(x:ao):Vx (bang x)=af:=by unfold Vx;rw[Og];rfl
def j9p(x:ao):Vx (qm x)=af:=by unfold Vx;rw[j43];rfl
def j25{gs:List (ao×D)}{xs:List (ao×List D)}(h:Gof gs q xs fs (bang x)=aa d):∃p∈xs,p.1=x/\d=.lst p.2:=by
 unfold Gof at h;rw[if_pos (j3o x),if_neg (j4v x)]at h;have hn:(fs.any λf=>qm f==bang x)=ae:=by rw[fM];intro f _ e;exact j4u x f (beq_iff_eq.mp e).symm
 rw[hn,if_neg (by decide),Option.or_none]at h;obtain⟨p,hp,rfl⟩:=T7.mp h;have z:=List.find?_some (p:=λp:ao×List D=>bang p.1==bang x) hp;exact⟨p,List.mem_of_find?_eq_some hp,jcg (beq_iff_eq.mp z),rfl⟩
def j8s{gs:List (ao×D)}{xs:List (ao×List D)}(h:Gof gs q xs fs (qm x)=aa d):x∈fs:=by
 unfold Gof at h;rw[if_pos (j9p x),if_neg (j5o x)]at h;have hn:(xs.find? λp=>bang p.1==qm x)=ag:=by rw[List.find?_eq_none];intro p _ e;exact j4u p.1 x (beq_iff_eq.mp e)
 rw[hn,Option.map_none,Option.none_or]at h;split at h
 .rename_i z;obtain⟨f,hf,e⟩:=List.any_eq_true.mp z;exact jhu (beq_iff_eq.mp e)▸hf
 .cases h
def jlw{K:k84}{gs:List (ao×D)}{xs:List (ao×List D)}(bt:∀x∈Wj,mg x=ag)
  (gl:∀x d,gs.lookup x=aa d->∃u v,mg x=aa u/\RelV v u/\∀H,Enc K H d v) (ea:Q8 K=af) (hx:∀p∈xs,p.1∈qg/\∃o,W.nsIn K aw p.1=aa (aa o))
  (el:q=af->∀c∈qg,∃v,W.nsIn K aw c=aa (aa v)) (kin:K.In base) (ns:base.Ns aw mg) (fn:∀f∈fs,∃fa,mg f=aa (.ref fa)/\W.keepIn K (.ref fa)=af) (kd:∀p∈xs,KindsP P w K mg base "_law_kinds" p.1 p.2) (pc:("Pieces":ao)∈fs->∃C,mg "Pieces"=aa (.ref C)/\Fw P w K mg base C:=by exact λh=>absurd h (by decide)):Tb P w K mg base (Gof gs q xs fs):=by
 refine⟨bt,λx d hb h=>?_,ea,λx d h=>?_,λh=>el ?_,kin,ns,λx l h=>?_,λf d h=>fn f (j8s h),λd h=>pc (j8s h)⟩
 .unfold Gof at h;rw[if_neg (by rw[hb];decide)]at h;exact gl x d h
 .obtain⟨p,hp,rfl,_⟩:=j25 h;exact hx p hp
 .unfold Gof at h;rw[if_pos (by decide),if_pos rfl]at h;split at h
  .rename_i z;exact z
  .cases h
 .obtain⟨p,hp,rfl,e⟩:=j25 h;cases e;exact kd p hp
def j0d(K:k84):Sp:=λvs H Q _=>∃(a:ak)(ns:zo),vs=[.ref a]/\TabOk K H/\SqL K H a (ns.map V.int)/\ns.length<=63/\∀H':Hp,j5 H H'->Q (.bl af) H'
def j3j{K:k84}{ns:zo}(h:SqL K H a (ns.map V.int)):j6 K H [.lst (ns.map D.int)] [.ref a] :=
 ⟨_,[],rfl,⟨a,_,rfl,h,j6.ints ns⟩,rfl⟩
def jj2{K:k84}{G:ao->Option D}{T:ao->Option Fi}{st:aU}
  (hT:∀x F,T x=aa F->LkF P w K mg base x F) (t:Tb P w K mg base G)
  (hx:T x=aa F) (hlam:F.lam=ae) (hm:mg x=aa (.ref fa))  (hfun:Fun K x x st fa fd) (N:List ao) (hsc:FnScope N [p] (j0 st)) (hloc:(j0 st).names.lookup p=aa .local) (h1:F.n=1) (hN:N.length=F.nn)
  (hts:∀(cdv:aj)(A:aI)(outer:List d8)(s:aq)(H:Hp)(E:XK)(xe:k85),Ts ((qy CX0 P w K mg base N x (j0 st) fa cdv A outer s H E).wish xe) F.body (.ss (jj st)))
  (hlaw:∀ns:zo,ns.length<=63->evP fu G T (n+1) x [.lst (ns.map D.int)]=.val (.bl af)):FnOkZ ae P w K mg base CX0 (lv (n+1)) fa fd [p] (j0d K):=by
 have S:FnOkZ ae P w K mg base CX0 (lv (n+1)) fa fd [p] (spP K λds d=>∃ns:zo,ns.length<=63/\ds=[.lst (ns.map D.int)]/\d=.bl af):=by
  refine Ks (k:=lv n+3) hfun hsc (λds d ⟨ns,_,h,_⟩=>by rw[h];rfl) (λcdv A outer s H E hcv hr ds d ⟨ns,hns,e1,e2⟩=>?_) (.inr ⟨p,rfl,hloc⟩);subst e1 e2;have e:=hlaw ns hns;simp only[evP,hx,h1,xn,T5,if_true]at e;have ab:jc (za N [D.lst (ns.map D.int)])=enter F [D.lst (ns.map D.int)]:=Lh (by rw[h1];rfl) hN;have g:Gok (qy CX0 P w K mg base N x (j0 st) fa cdv A outer s H E).nox (evP fu G T n):=λg ds'=>by
   obtain⟨f',fd',ps',q⟩:=Dn (fu:=fu) hT t n g ds';cases z:evP fu G T n g ds' with
   |val d=>rw[z]at q;exact⟨lv n,f',fd',ps',q.1,hr,q.2.1,q.2.2.1,q.2.2.2⟩
   |fresh l=>rw[z]at q;exact⟨lv n,f',fd',ps',q.1,hr,q.2.1,q.2.2.1,q.2.2.2⟩
   |err y=>rw[z]at q;exact⟨lv n,f',fd',ps',q.1,hr.mono nofun,q.2.1,q.2.2.1,q.2.2.2⟩
   |mval d k=>rw[z]at q;exact λg' ls k ds'' h1 h2 C h3=>let ⟨a,b⟩:=q g' ls k ds'' h1 h2 C h3;⟨⟨lv n,f',fd',ps',a,hr.mono nofun,b⟩⟩
   |merr y=>rw[z]at q;exact λg' ls k ds'' h1 h2 C h3=>let ⟨a,b⟩:=q g' ls k ds'' h1 h2 C h3;⟨⟨lv n,f',fd',ps',a,hr.mono nofun,b⟩⟩
   |no=>trivial
  refine Yv (fu:=fu) (hts cdv A outer s H E _) (Vw t rfl rfl rfl rfl rfl (Zw _) hr hsc.nd bW) g (za N _) _ ?_;rw[ab];cases ho:run fu (evP fu G T n) G F.body (enter F [D.lst (ns.map D.int)]) with
  |ret r =>
   rw[ho]at e;have e:r=.val (.bl af):=e;subst e;intro y hy;cases y with
   |val d=>cases hy;rfl
   |fresh l=>cases hy
  |next J'=>rw[ho]at e;cases e
  |brk _=>rw[ho]at e;cases e
  |cnt _=>rw[ho]at e;cases e
  |err _ _=>rw[ho]at e;cases e
  |no=>rw[ho]at e;cases e
 refine S.imp λvs H Q E ⟨a,ns,hv,tb,hS,hl,k⟩=>?_;subst hv;exact⟨[],_,_,tb,(λa h=>nomatch h),by rw[J3];exact j3j hS,⟨ns,hl,rfl,rfl⟩,λv H' g e=>by cases(show v=.bl af from e);exact k H' g⟩
noncomputable def j0c(K:k84):List (ak×ao):=j62.filterMap λx=>(W.tabIn K x).map λq=>(q.2,Nx x)
noncomputable def tOk(K:k84)(ts:List ak):Bool:=(j62.all λx=>match W.nsIn K aw x with
  |some ag=>af
  |_=>match W.tabIn K x with
   |some (c,P)=>W.codeHdIn K c P&&ts.contains P
   |none=>ae)&&W.noTabs K&&decide ((j0c K).map (·.1)).Nodup
def jdz{K:k84}(hk:tOk K ts=af)(X:K.In h)(ht:∀P∈ts,h.get? P=aa (W.tabObj #[])):jck (j0c K) h:=by
 unfold tOk at hk;rw[X3,X3]at hk;refine⟨of_decide_eq_true hk.2,λt hm=>?_⟩;obtain⟨x,hx,e⟩:=Tc.mp hm;obtain⟨⟨c,P⟩,e1,e2⟩:=T7.mp e;subst e2;have z:=Xf.mp hk.1.1 x hx;split at z
 .rename_i y;exfalso;unfold W.tabIn at e1;rw[y]at e1;cases e1
 .rw[e1]at z;have z:(W.codeHdIn K c P&&ts.contains P)=af:=z;rw[X3]at z;exact⟨⟨c,W.codeHd_of_K X z.1⟩,ht P (by simpa using z.2)⟩
def jgx{K:k84}(hO:Only (j0c K) H):TabOk K H:=λx hx c P e=>hO.2 (P,Nx x) (Tc.mpr ⟨x,hx,by rw[e];rfl⟩)
def j85{K:k84}(hk:tOk K ts=af):W.noTabs K=af:=by unfold tOk at hk;rw[X3,X3]at hk;exact hk.1.2
def walkL{l:dQ}{d:DefRec}{K:nk->k84}(hk:k<=200)(hn:l.most=aa 63)(hdf:d.params.defaults=[])
  (hY:∀(w:aH)(h:aL),YP w h->(K w.params).In h/\∀P∈ts,h.get? P=aa (W.tabObj #[])) (hK:∀w:aH,tOk (K w.params) ts=af)
  (F:∀(w:aH)(mg:k87)(fa:ak)(h:aL),(K w.params).In h->h.Ns aw mg->mg d.name=aa (.ref fa)->tOk (K w.params) ts=af ->
   ∃fd:aN,(∀(s:aq)(u:aj),gN s fd ⟨[u],[]⟩ [(x,u)])/\∀base:aL,(K w.params).In base->base.Ns aw mg->FnOkZ ae l.prog w (K w.params) mg base CX0 k fa fd [x] (j0d (K w.params))) :
  iH q loose XP YP l.row.toRowW d [] (λf vs=>gI f vs) :=
 L2.walk_of (n:=63) (k:=k) (x:=x) (CX:=λ_=>CX0) (sp:=λw=>j0d (K w.params)) (ts:=λw=>j0c (K w.params)) hn (by decide) hdf
  (Room.mono (k:=200) ⟨rfl,by decide,by decide,rfl⟩ hk) (λw h Y=>⟨(hY w h Y).1,jdz (hK w) (hY w h Y).1 (hY w h Y).2⟩) (λw=>j85 (hK w)) (λw mg fa h X G m=>F w mg fa h X G m (hK w)) (λw H a ns hl hO hS=>⟨a,ns,rfl,jgx hO,hS,hl,λH' g=>⟨rfl,g⟩⟩) λ_ _ _ _ _ z=>z
def Lf(K:k84)(x:ao)(st:aU):Prop:=∃(f:ak)(oc:aj)(od:Option ak)(kV dc pm:aj)(an:Option ak)(cd ct:aj)(sl:Array (Option aj)),W.nsIn K aw x=aa (aa (.ref f)) /\
 K.lookup f=aa ⟨oc,od,.func (W.fnOf x x (zm st) (jj st) (j0 st) .none kV dc pm an cd ct),sl⟩/\W.codeIn K cd x=af/\W.keepIn K (.ref f)=af
def TrT(P:aA)(w:aH)(K:k84)(mg:k87)(base:aL)(x:ao)(N:List ao)(st:aU)(b:Sx):Prop :=
 ∀(f:ak)(cdv:aj)(A:aI)(outer:List d8)(s:aq)(H:Hp)(E:XK) (xe:k85),Ts ((qy CX0 P w K mg base N x (j0 st) f cdv A outer s H E).wish xe) b (.ss (jj st))
def TrH(P:aA)(w:aH)(K:k84)(mg:k87)(base:aL)(x:ao)(N:List ao)(st:aU)(b:Sx):Prop :=
 ∀(f:ak)(cdv:aj)(A:aI)(outer:List d8)(s:aq)(H:Hp),Ts { (qy CX0 P w K mg base N x (j0 st) f cdv A outer s H E0).nox with calm:=ae } b (.ss (jj st))
noncomputable def bOk(K:k84):Bool:=Wj.all λx=>match W.nsIn K aw x with
 |some ag=>af
 |_=>ae
noncomputable def xOk(K:k84):Bool:=qg.all λx=>match W.nsIn K aw x with
 |some (aa _)=>af
 |_=>ae
section
variable{P:aA}{w:aH}{K:k84}{mg:k87}{base h:aL}{x:ao}{st:aU}{N ps:List ao}{F:Fi}
def jdf(X:K.In h)(Gn:h.Ns aw mg)(hb:bOk K=af):∀x∈Wj,mg x=ag:=λx hx=>by
 have z:=Xf.mp hb x hx;split at z
 .rename_i e;exact W.mg_none_of X Gn e
 .cases z
def joc(hx:xOk K=af):∀c∈qg,∃v,W.nsIn K aw c=aa (aa v):=λc hc=>by
 have z:=Xf.mp hx c hc;split at z
 .rename_i v e;exact⟨v,e⟩
 .cases z
def jj0(L:Lf K x st)(X:K.In h)(Gn:h.Ns aw mg)(t:TrH P w K mg base x N st F.body)(sc:FnScope N [p] (j0 st))(h1:1<=N.length)(h2:N.length=F.nn)
  (hb:∀(kV doc pm:aj)(an:Option ak)(cdv ct:aj)(us:List aj),us.length=[p].length->dX (W.fnOf x x (zm st) (jj st) (j0 st) .none kV doc pm an cdv ct) ⟨us,[]⟩=pure ([p].zip us)):LkH P w K mg base x F:=by
 obtain⟨f,oc,od,kV,dc,pm,an,cd,ct,sl,a,l,c,k⟩:=L;exact⟨st,f,_,N,p,Qg l c k,sc,h1,h2,(Qg l c k).binds hb,W.mg_of X Gn a,t f⟩
def lkZ(L:Lf K x st)(X:K.In h)(Gn:h.Ns aw mg)(t:TrT P w K mg base x N st F.body)(ps:List ao)(sc:FnScope N ps (j0 st):=by walk_at "sc")(h1:ps.length=F.n:=by rfl)(h2:N.length=F.nn:=by rfl)
  (hb:∀(kV doc pm:aj)(an:Option ak)(cdv ct:aj)(us:List aj),us.length=ps.length->dX (W.fnOf x x (zm st) (jj st) (j0 st) .none kV doc pm an cdv ct) ⟨us,[]⟩=pure (ps.zip us):=by walk_at "bnd") (hd:x∉jke:=by decide) (hh:x.cps.toList.head?≠aa 64:=by decide):LkF P w K mg base x F:=by
 obtain⟨f,oc,od,kV,dc,pm,an,cd,ct,sl,a,l,c,k⟩:=L;exact .inl ⟨⟨st,f,_,N,ps,Qg l c k,sc,h1,h2,(Qg l c k).binds hb,λz=>absurd z hd,W.mg_of X Gn a,t f⟩,hh⟩
def usS{us:List aj}(h:us.length=n+1):∃a t,us=a::t/\t.length=n:=by
 cases us with
 |nil=>cases h
 |cons a t=>exact⟨a,t,rfl,Nat.succ.inj h⟩
def us1{us:List aj}(h:us.length=1):∃a,us=[a]:=List.length_eq_one_iff.mp h
def us2{us:List aj}(h:us.length=2):∃a b,us=[a,b]:=by obtain⟨a,t,rfl,k⟩:=usS h;obtain⟨b,rfl⟩:=us1 k;exact⟨a,b,rfl⟩
def us3{us:List aj}(h:us.length=3):∃a b c,us=[a,b,c]:=by obtain⟨a,t,rfl,k⟩:=usS h;obtain⟨b,c,rfl⟩:=us2 k;exact⟨a,b,c,rfl⟩
def us4{us:List aj}(h:us.length=4):∃a b c d,us=[a,b,c,d]:=by obtain⟨a,t,rfl,k⟩:=usS h;obtain⟨b,c,d,rfl⟩:=us3 k;exact⟨a,b,c,d,rfl⟩
end
def lf_mk{K:k84}{st:aU}{od:Option ak}{kV:aj}{an:Option ak}(a:W.nsIn K aw x=aa (aa (.ref f)))
  (l:K.lookup f=aa ⟨oc,od,.func (W.fnOf x x (zm st) (jj st) (j0 st) .none kV dc pm an cd ct),sl⟩) (c:W.codeIn K cd x=af) (k:W.keepIn K (.ref f)=af):Lf K x st:=⟨f,oc,od,kV,dc,pm,an,cd,ct,sl,a,l,c,k⟩
structure PcS(P:aA)(w:aH)(K:k84)(mg:k87)(base:aL)(sI sA sT sL:aU):Prop where
 scI:FnScope ["self","text"] ["self","text"] (j0 sI)
 scA:FnScope ["self"] ["self"] (j0 sA)
 scT:FnScope ["self","piece"] ["self"] (j0 sT)
 scL:FnScope ["self"] ["self"] (j0 sL)
 boI:∃(n n2:Nat)(p1 p2 p3 p4 p5 p6 p7 p8 p9 p10 p11:aR),jj sI=jd6 n n2 p1 p2 p3 p4 p5 p6 p7 p8 p9 p10 p11/\(p4.endLine==p6.line)=af
 boA:∃(n:Nat)(p1 p2 p3 p4 p5 p6 p7 p8 p9 p10 p11 p12 p13 p14 p15 p16:aR),jj sA=j9q n p1 p2 p3 p4 p5 p6 p7 p8 p9 p10 p11 p12 p13 p14 p15 p16
 boT:∃(n:Nat)(p1 p2 p3 p4 p5 p6 p7 p8 p9 p10 p11 p12 p13 p14:aR),jj sT=j77 n p1 p2 p3 p4 p5 p6 p7 p8 p9 p10 p11 p12 p13 p14/\∀f cdv A outer s H E,Qs (qy CX0 P w K mg base ["self","piece"] "Pieces.taken" (j0 sT) f cdv A outer s H E).nox (.Name "self" p2) "ahead" p3 p4
 boL:∃(p1 p2 p3 p4 p5 p6 p7 p8:aR),jj sL=allB p1 p2 p3 p4 p5 p6 p7 p8
 vi:Vis (j0 sI) "self"/\Vis (j0 sI) "text"/\Vis (j0 sA) "self"/\Vis (j0 sT) "self"/\Vis (j0 sL) "self"
 na:(j0 sA).names.lookup ("len":ao)=aa .globalImplicit/\(j0 sT).names.lookup ("piece":ao)=aa .local/\(j0 sL).names.lookup ("len":ao)=aa .globalImplicit
 biI:∀(kV doc pm:aj)(an:Option ak)(cdv ct:aj)(us:List aj),us.length=2->dX (W.fnOf "__init__" "Pieces.__init__" (zm sI) (jj sI) (j0 sI) .none kV doc pm an cdv ct) ⟨us,[]⟩=pure ((["self","text"]:List ao).zip us)
 biA:∀(kV doc pm:aj)(an:Option ak)(cdv ct:aj)(us:List aj),us.length=1->dX (W.fnOf "ahead" "Pieces.ahead" (zm sA) (jj sA) (j0 sA) .none kV doc pm an cdv ct) ⟨us,[]⟩=pure ((["self"]:List ao).zip us)
 biT:∀(kV doc pm:aj)(an:Option ak)(cdv ct:aj)(us:List aj),us.length=1->dX (W.fnOf "taken" "Pieces.taken" (zm sT) (jj sT) (j0 sT) .none kV doc pm an cdv ct) ⟨us,[]⟩=pure ((["self"]:List ao).zip us)
 biL:∀(kV doc pm:aj)(an:Option ak)(cdv ct:aj)(us:List aj),us.length=1->dX (W.fnOf "all_taken" "Pieces.all_taken" (zm sL) (jj sL) (j0 sL) .none kV doc pm an cdv ct) ⟨us,[]⟩=pure ((["self"]:List ao).zip us)
def Lm(K:k84)(C f:ak)(x q:ao)(st:aU):Prop:=∃(oc:aj)(od:Option ak)(kV dc pm:aj)(an:Option ak)(cd ct:aj)(sl:Array (Option aj)),W.findIn K (.ref C) x=aa (aa (.ref f))/\W.isFn K (.ref f)=af /\
 K.lookup f=aa ⟨oc,od,.func (W.fnOf x q (zm st) (jj st) (j0 st) .none kV dc pm an cd ct),sl⟩/\W.codeIn K cd q=af/\W.keepIn K (.ref f)=af
def lm_mk{K:k84}{st:aU}{od:Option ak}{kV:aj}{an:Option ak}(a:W.findIn K (.ref C) x=aa (aa (.ref f)))(i:W.isFn K (.ref f)=af)
  (l:K.lookup f=aa ⟨oc,od,.func (W.fnOf x q (zm st) (jj st) (j0 st) .none kV dc pm an cd ct),sl⟩) (c:W.codeIn K cd q=af) (k:W.keepIn K (.ref f)=af):∃f,Lm K C f x q st:=⟨f,oc,od,kV,dc,pm,an,cd,ct,sl,a,i,l,c,k⟩
structure PcH(K:k84)(C:ak)(sI sA sT sL:aU):Prop where
 at_:W.nsIn K aw "Pieces"=aa (aa (.ref C))
 pg:W.plainGet K C dt=af
 hd:W.hasDictIn K C=af
 po:W.plainOver K C=af
 sa:W.findIn K (.ref C) "__setattr__"=aa (aa (.builtin "object.__setattr__"))
 mk_:W.makesIn K C=af
 kc:W.keepIn K (.ref C)=af
 nS:W.findIn K (.ref C) "standing"=aa ag
 nP:W.findIn K (.ref C) "spot"=aa ag
 mI:∃f,Lm K C f "__init__" "Pieces.__init__" sI
 mA:∃f,Lm K C f "ahead" "Pieces.ahead" sA
 mT:∃f,Lm K C f "taken" "Pieces.taken" sT
 mL:∃f,Lm K C f "all_taken" "Pieces.all_taken" sL
def jmw{K:k84}{sL:aU}(S:PcS P w K mg base sI sA sT sL)(hH:PcH K C sI sA sT sL)(X:K.In h)(Gn:h.Ns aw mg)(bt:mg "len"=ag) :
  ∃C,mg "Pieces"=aa (.ref C)/\Fw P w K mg base C:=by
 obtain⟨scI,scA,scT,scL,⟨n,n2,q1,q2,q3,q4,q5,q6,q7,q8,q9,q10,q11,eI,hlI⟩,⟨nA,a1,a2,a3,a4,a5,a6,a7,a8,a9,a10,a11,a12,a13,a14,a15,a16,eA⟩,⟨nT,t1,t2,t3,t4,t5,t6,t7,t8,t9,t10,t11,t12,t13,t14,eT,hmT⟩,⟨l1,l2,l3,l4,l5,l6,l7,l8,eL⟩,⟨v1,v2,v3,v4,v5⟩,⟨g1,g2,g3⟩,biI,biA,biT,biL⟩:=S;obtain⟨atC,pg,hd,po,sa,mk,kc,nS,nP,⟨fI,ocI,odI,kVI,dcI,pmI,anI,cdI,ctI,slI,fiI,fnI,lkI,coI,kpI⟩,⟨fA,ocA,odA,kVA,dcA,pmA,anA,cdA,ctA,slA,fiA,fnA,lkA,coA,kpA⟩,⟨fT,ocT,odT,kVT,dcT,pmT,anT,cdT,ctT,slT,fiT,fnT,lkT,coT,kpT⟩,⟨fL,ocL,odL,kVL,dcL,pmL,anL,cdL,ctL,slL,fiL,fnL,lkL,coL,kpL⟩⟩:=hH;have mgC:=W.mg_of X Gn atC;have T:PcT K mg C fA fT fL fI:=⟨⟨pg,hd,po,sa⟩,nS,nP,⟨fiA,fnA,kpA⟩,⟨fiT,fnT,kpT⟩,⟨fiL,fnL,kpL⟩,⟨mk,fiI,fnI,kc⟩,mgC,bt⟩
 have FI:=Qg (st:=sI) lkI coI kpI;have FA:=Qg (st:=sA) lkA coA kpA;have FT:=Qg (st:=sT) lkT coT kpT;have FL:=Qg (st:=sL) lkL coL kpL;have GA:=jb8 (P:=P) (w:=w) (mg:=mg) (base:=base) FA T scA eA v3 g1;have bA:=FA.binds (ps:=["self"]) biA;exact⟨C,mgC,fA,fT,fL,fI,_,_,_,_,T,⟨GA,bA⟩,⟨jb7 FT T scT eT v4 g2 (λcdv A outer s H E=>hmT fT cdv A outer s H E) GA bA,FT.binds (ps:=["self"]) biT⟩,⟨jif FL T scL eL v5 g3,FL.binds (ps:=["self"]) biL⟩,⟨jf2 FI T scI eI v1 v2 hlI,FI.binds (ps:=["self","text"]) biI⟩⟩
def TrM(P:aA)(w:aH)(K:k84)(mg:k87)(base:aL)(x:ao)(N:List ao)(st:aU)(p:Px):Prop :=
 ∀(f:ak)(cdv:aj)(A:aI)(outer:List d8)(s:aq)(H:Hp)(E:XK) (xe:k85),MP ((qy CX0 P w K mg base N x (j0 st) f cdv A outer s H E).wish xe) 0 p (jj st)
section
variable{P:aA}{w:aH}{K:k84}{mg:k87}{base h:aL}{x g:ao}{st:aU}{N ps:List ao}{F:Fi}{p:Px}
def j8d(hx:x=mq g)(L:Lf K g st)(X:K.In h)(Gn:h.Ns aw mg)(t:TrM P w K mg base g N st p)(ps:List ao)(sc:FnScope N ps (j0 st))(hF:F.body=.px p)(hl:F.lam=ae)(h1:ps.length+1=F.n)(h2:N.length+1=F.nn)(h3:0<ps.length)(h4:ps.length<=N.length)
  (hb:∀(kV doc pm:aj)(an:Option ak)(cdv ct:aj)(us:List aj),us.length=ps.length->dX (W.fnOf g g (zm st) (jj st) (j0 st) .none kV doc pm an cdv ct) ⟨us,[]⟩=pure (ps.zip us)) (pc:∃C,mg "Pieces"=aa (.ref C)/\Fw P w K mg base C):LkF P w K mg base x F:=by
 obtain⟨f,oc,od,kV,dc,pm,an,cd,ct,sl,a,l,c,k⟩:=L;exact .inr ⟨⟨g,p,st,f,_,N,ps,hx,hF,Qg l c k,sc,h1,h2,h3,h4,(Qg l c k).binds hb,W.mg_of X Gn a,pc,t f⟩⟩
def jmn{sL:aU}(H:PcH K C sI sA sT sL)(X:K.In h)(Gn:h.Ns aw mg):∃fa,mg "Pieces"=aa (.ref fa)/\W.keepIn K (.ref fa)=af:=⟨C,W.mg_of X Gn H.at_,H.kc⟩
end
end L2
end
section
namespace L2
open PySem (Str sizeLine argBest)
def zy(h:n<=1000000):n<=au:=Xa h (by decide)
def lt_size(h:n<=1000000):n<au:=dF h (by decide)
noncomputable def Wu(o:So)(f:En->So):So:=match o with
 |.next J=>f J
 |o=>o
noncomputable def ifS(c:Option Bool)(f g:En->So)(J:En):So:=match c with
 |some af=>f J
 |some ae=>g J
 |none=>.no
noncomputable def Uq(is:List Nat)(f:En->So)(d:D)(J:En):So:=match vf is d J with
 |some ρ2=>f ρ2
 |none=>.no
noncomputable def jcz(is:List Nat)(w:Option W)(f:En->So)(J:En):So:=match w with
 |some (.i ds)=>v9 (Uq is f) ds J
 |_=>.no
section
variable{fu:Nat}{Γ:ao->List D->Rc}{G:ao->Option D}{J:En}{i j:Nat}{e c k:Ex}{a b:Sx}{is:List Nat}
def je8:run fu Γ G .nop J=.next J:=(rfl)
def j3z:run fu Γ G (.seq a b) J=Wu (run fu Γ G a J) (run fu Γ G b):=(rfl)
def je6:run fu Γ G (.set i e) J=orE (Mj i (ev Γ G e J) J) (er Γ G e J) J:=(rfl)
def je9:run fu Γ G (.mov i j) J=j1w i j J[j]? J:=(rfl)
def jat:run fu Γ G (.expr e) J=orE (Kw (ev Γ G e J) J) (er Γ G e J) J:=(rfl)
def je7:run fu Γ G (.ret e) J=orE (retS (ev Γ G e J)) (er Γ G e J) J:=(rfl)
def jb4{J':En}{x:Option ao}:orE (.next J') x J=.next J':=(rfl)
def j45{r:Rc}{x:Option ao}:orE (.ret r) x J=.ret r:=(rfl)
def jey{y:ao}:orE .no (aa y) J=.err y J:=(rfl)
def jh8:Mj i ag J=.no:=(rfl)
def jjr:Kw ag J=.no:=(rfl)
noncomputable def erR(G:ao->Option D):Rc->Option ao
 |.err x=>if (G (bang x)).isSome=af then aa x else ag
 |_=>ag
noncomputable def erC(Γ:ao->List D->Rc)(G:ao->Option D)(f:ao)(w:Option W):Option ao:=match w with
 |some (.a rs)=>erR G (Γ f (rs.map Rk.d))
 |_=>ag
def jk4:ev Γ G (.fst e) J=U3 (ev Γ G e J):=(rfl)
def O5{rs:List Rk}(h:rs.length<=1000)(h2:J2 rs=aa ys):U3 (aa (.a rs))=aa (.v (.e (.str (Dz dt ys)))):=by unfold U3;dsimp only;rw[if_pos h,h2];rfl
noncomputable def erK(Γ:ao->List D->Rc)(G:ao->Option D)(f:ao)(x:Option ao)(w:Option W):Option ao:=match x with
 |some x=>if (G (qm f)).isSome=af then aa x else ag
 |none=>erC Γ G f w
def Bg:er Γ G (.call f e) J=erK Γ G f (er Γ G e J) (ev Γ G e J):=by
 rw[er];cases er Γ G e J with
 |some x=>rfl
 |none =>
  cases h:ev Γ G e J with
  |none=>rfl
  |some w =>
   cases w with
   |v _=>rfl
   |i _=>rfl
   |a rs =>show(match Γ f (rs.map Rk.d)with|.err x=>_|_=>_)=erR G (Γ f (rs.map Rk.d));cases Γ f (rs.map Rk.d)<;>rfl
def Cr{w:Option W}:erK Γ G f ag w=erC Γ G f w:=(rfl)
noncomputable def erN(a:Option ao)(w:Option W)(b:Option ao):Option ao:=match a with
 |some x=>aa x
 |none=>match w with
  |some (.v _)=>b
  |_=>ag
def Be{b:Ex}:er Γ G (.cons e b) J=erN (er Γ G e J) (ev Γ G e J) (er Γ G b J):=by rw[er];rfl
def Yd{r:Rk}{b:Option ao}:erN ag (aa (.v r)) b=b:=(rfl)
def Cq:er Γ G .nil J=ag:=(rfl)
def j2e:er Γ G (.var i) J=ag:=(rfl)
def jkc:er Γ G (.blt f e) J=ag:=(rfl)
noncomputable def jax(w:Option W):Option W:=match w with
 |some (.v x)=>match x.d with
  |.str y=>if (aK y).length<=2000 then aa (.v (.e (.str (aK y))))else ag
  |_=>ag
 |_=>ag
def jjx:ev Γ G (.rpr e) J=jax (ev Γ G e J):=(rfl)
def j1f(h:(aK y).length<=2000):jax (aa (.v (.e (.str y))))=aa (.v (.e (.str (aK y)))):=if_pos h
def j2d{a o n:Ex}:ev Γ G (.rep a o n) J=Mr (ev Γ G a J) (ev Γ G o J) (ev Γ G n J):=(rfl)
def jao:run fu Γ G (.pick i b) J=R9 J[i]? λt=>run fu Γ G b (J.set i (.val (.str t))):=(rfl)
def j0w:j0x i j (aa (.lst [d,d'])) J=.next ((J.set i (.val d)).set j (.val d')):=(rfl)
def Cu{f:ao}{rs:List Rk}:erC Γ G f (aa (.a rs))=erR G (Γ f (rs.map Rk.d)):=(rfl)
def j0o(h:(G (bang x)).isSome=af):erR G (.err x)=aa x:=if_pos h
def j7g{x:ao}:run fu Γ G (.raise x e) J=Mt x (ev Γ G e J) (G (bang x)) J:=(rfl)
def jhp{x:ao}{r:Rk}{d:D}:Mt x (aa (.v r)) (aa d) J=.err x J:=(rfl)
noncomputable def j55(i j:Nat)(G:ao->Option D)(o:So):So:=match o with
 |.err x J'=>match G (bang x) with
  |some (.lst l)=>.next (((J'.set j (.exc x)).set i (.own l)).set j .un)
  |_=>.no
 |o=>o
def jam:run fu Γ G (.tryK a i j) J=j55 i j G (run fu Γ G a J):=(rfl)
def j70{J':En}:j55 i j G (.next J')=.next J':=(rfl)
def ja4(h:G (bang x)=aa (.lst l)):j55 i j G (.err x J')=.next (((J'.set j (.exc x)).set i (.own l)).set j .un):=by unfold j55;dsimp only;rw[h]
def jan:run fu Γ G (.retV i) J=Ou J[i]?:=(rfl)
def jea:run fu Γ G (.ife c a b) J=ifS (truth (ev Γ G c J)) (run fu Γ G a) (run fu Γ G b) J:=(rfl)
def jar:run fu Γ G (.loop is e a) J=jcz is (ev Γ G e (frz e J)) (run fu Γ G a) (frz e J):=(rfl)
def jed:run fu Γ G (.app i e) J=Oj i J[i]? (ev Γ G e J) J:=(rfl)
def jec:run fu Γ G (.ext i e) J=Kv i J[i]? (ev Γ G e J) J:=(rfl)
def jal{k:Nat}:run fu Γ G (.unp3 i j k e) J=Dc i j k (stOf (ev Γ G e J)) J:=(rfl)
def jds{k:Nat}{a b c:D}:Dc i j k (aa (.lst [a,b,c])) J=.next (((J.set i (.val a)).set j (.val b)).set k (.val c)):=(rfl)
def je5:run fu Γ G (.unp i j e) J=j0x i j (stOf (ev Γ G e J)) J:=(rfl)
def jh3{d:D}:stOf (aa (.v (.e d)))=aa d:=(rfl)
def j8h{d:D}:Oz i (aa (.val d)) J=.next J:=(rfl)
def jas:run fu Γ G (.keep i) J=Oz i J[i]? J:=(rfl)
def j8i{l:List D}:Oz i (aa (.own l)) J=.next (J.set i (.val (.lst l))):=(rfl)
def jeb:run fu Γ G (.fgt i) J=.next (J.set i .un):=(rfl)
end
section
variable{f g:En->So}{J:En}{i j:Nat}{d:D}{l m:List D}{r:Rc}{x:Rk}
def Iv:Wu (.next J) f=f J:=(rfl)
def j1c:Wu (.ret r) f=.ret r:=(rfl)
def jae{x:ao}{J':En}:Wu (.err x J') f=.err x J':=(rfl)
def jnt:ifS (aa af) f g J=f J:=(rfl)
def jnu:ifS (aa ae) f g J=g J:=(rfl)
def jh7:Mj i (aa (.v (.o l))) J=.next (J.set i (.own l)):=(rfl)
def jh9:Mj i (aa (.v (.e d))) J=.next (J.set i (.val d)):=(rfl)
def jhm:retS (aa (.v (.o l)))=.ret (.fresh l):=(rfl)
def j7l:retS (aa (.v (.e d)))=.ret (.val d):=(rfl)
def jeg:Ou (aa (.own l))=.ret (.fresh l):=(rfl)
def jef:Ou (aa (.val d))=.ret (.val d):=(rfl)
def jin(h:i≠j):j1w i j (aa (.own l)) J=.next ((J.set j .un).set i (.own l)):=if_neg h
def jjq:Kw (aa (.v x)) J=.next J:=(rfl)
def Zj:Uq [i] f d J=f (J.set i (.val d)):=(rfl)
def jfd{is:List Nat}{ds:List D}:jcz is (aa (.i ds)) f J=v9 (Uq is f) ds J:=(rfl)
def jl4(h:l.length<=1000000):Oj i (aa (.own l)) (aa (.v (.e d))) J=.next (J.set i (.own (l++[d]))):=by simp[Oj,Rk.st,lt_size h]
def jl3(h:l.length<=1000000):Oj i (aa (.own l)) (aa (.v (.o m))) J=.next (J.set i (.own (l++[.lst m]))):=by simp[Oj,Rk.st,lt_size h]
def jjp(h:l.length+m.length<=1000000):Kv i (aa (.own l)) (aa (.v (.o m))) J=.next (J.set i (.own (l++m))):=by simp[Kv,jm,zy h]
def j4m:fin (.ret r)=r:=(rfl)
def jft{x:ao}{J':En}:fin (.err x J')=.err x:=(rfl)
def jbr:fin (.next J)=.val .non:=(rfl)
def jt{fu:Nat}{G:ao->Option D}{T:ao->Option Fi}{n:Nat}{f:ao}{ds:List D}{F:Fi}(h:T f=aa F)(hl:ds.length=F.n)(hla:F.lam=ae:=by rfl):evP fu G T (n+1) f ds=fin (run fu (evP fu G T n) G F.body (enter F ds)):=by simp only[evP,h,if_pos hl]
end
theorem Um(W:Nat->En->Prop):∀{ds:List D}{J:En}{k:Nat},W k J->(∀i d J,ds[i]?=aa d->W (k+i) J->∃J',f d J=.next J'/\W (k+i+1) J')->∃J',v9 f ds J=.next J'/\W (k+ds.length) J'
 |[],J,k,h0,_=>⟨J,rfl,h0⟩
 |d::ds,J,k,h0,hs=>by
  obtain⟨ρ1,e1,w1⟩:=hs 0 d J rfl h0;obtain⟨ρ2,e2,w2⟩:=Um (f:=f) W (ds:=ds) (k:=k+1) w1 λi d' J' hi w=>by have:=hs (i+1) d' J' (by simpa using hi) (by rw[show k+(i+1)=k+1+i by omega];exact w);rw[show k+(i+1)+1=k+1+i+1 by omega]at this;exact this
  refine⟨ρ2,?_,by rw[xn,show k+(ds.length+1)=k+1+ds.length by omega];exact w2⟩;rw[v9,e1];exact e2
def Nj{ds:List D}(W:Nat->En->Prop)(h0:W 0 J)(hs:∀i d J,ds[i]?=aa d->W i J->∃J',f d J=.next J'/\W (i+1) J')(hk:∀J',W ds.length J'->fin (g J')=r) :
  fin (Wu (v9 f ds J) g)=r:=by
 obtain⟨J',e,w⟩:=Um (f:=f) W (k:=0) (ds:=ds) (J:=J) h0 λi d J hi w=>by rw[cR]at w ⊢;exact hs i d J hi w
 rw[e];rw[cR]at w;exact hk J' w
def j7e{f:D->En->So}{ds:List D}{J:En}{g:En->So}{Q:En->Prop}(W:Nat->En->Prop)(h0:W 0 J)(hs:∀i d J,ds[i]?=aa d->W i J->∃J',f d J=.next J'/\W (i+1) J')
  (hk:∀J',W ds.length J'->∃ρ2,g J'=.next ρ2/\Q ρ2):∃ρ2,Wu (v9 f ds J) g=.next ρ2/\Q ρ2:=by
 obtain⟨J',e,w⟩:=Um (f:=f) W (k:=0) (ds:=ds) (J:=J) h0 λi d J hi w=>by rw[cR]at w ⊢;exact hs i d J hi w
 rw[e];rw[cR]at w;exact hk J' w
def j8b:v9 f [] J=.next J:=(rfl)
def Dy(h:f d J=.next J'):v9 f (d::ds) J=v9 f ds J':=by rw[v9,h]
noncomputable def jd8(d:Option D):Option W:=d.map λd=>.v (.e d)
noncomputable def jbl(i:Option Int):Option W:=i.map λk=>.v (.e (.int k))
noncomputable def jcj(k:Option Bool)(f:En->Option W)(J:En):Option W:=match k with
 |some ae=>aa (.v (.e (.bl ae)))
 |some af=>blW (truth (f J))
 |none=>ag
noncomputable def orW(k:Option Bool)(f:En->Option W)(J:En):Option W:=match k with
 |some af=>aa (.v (.e (.bl af)))
 |some ae=>blW (truth (f J))
 |none=>ag
noncomputable def jih(k:Option Bool):Option W:=k.map λk=>.v (.e (.bl (!k)))
noncomputable def stW(a:Option W):Option W:=match a with
 |some (.v x)=>x.st.map λd=>.v (.e d)
 |_=>ag
noncomputable def jbj(k:Option Bool)(f g:En->Option W)(J:En):Option W:=match k with
 |some af=>stW (f J)
 |some ae=>stW (g J)
 |none=>ag
noncomputable def slW(a:Option W)(l h:Option (Option Int)):Option W:=match a,l,h with
 |some (.v x),aa l,aa h=>match x.sq with
  |some (af,ds)=>aa (.v (.o (cutD ds l h)))
  |some (ae,_)=>ag
  |none=>match x.d with
   |.str z=>if jm z.length=af then aa (.v (.e (.str (bj z l h))))else ag
   |_=>ag
 |_,_,_=>ag
noncomputable def Wo(is:List Nat)(c e:En->Option W)(J:En)(d:D):Option (Option D):=match vf is d J with
 |none=>ag
 |some ρ2=>match c ρ2 with
  |some (.a [])=>match e ρ2 with
   |some (.v x)=>x.st.map aa
   |_=>ag
  |some (.a [y])=>match y.d with
   |.bl af=>match e ρ2 with
    |some (.v x)=>x.st.map aa
    |_=>ag
   |.bl ae=>aa ag
   |_=>ag
  |_=>ag
noncomputable def j6d(is:List Nat)(w:Option W)(c e:En->Option W)(z:Bool)(J:En):Option W:=match w with
 |some (.i ds)=>if j0l is J=af/\jm ds.length=af then(Qp (Wo is c e J) ds).bind λl=>if (z && !zc l)=af then ag else aa (.v (.o l))else ag
 |_=>ag
section
variable{Γ:ao->List D->Rc}{G:ao->Option D}{J:En}{a b c e:Ex}{op:Bop}{cp:Cop}{x f:ao}{i:Nat}{d:D}
def jk2:ev Γ G (.lit d) J=aa (.v (.e d)):=(rfl)
def jjs:ev Γ G (.var i) J=Ln J[i]?:=(rfl)
def jfw:ev Γ G (.glob x) J=jd8 (G x):=(rfl)
def jka:ev Γ G (.bin op a b) J=vm op (ev Γ G a J) (ev Γ G b J):=(rfl)
def jk0:ev Γ G (.neg a) J=j1u (ev Γ G a J):=(rfl)
def jk7:ev Γ G (.cmp cp a b) J=Ia cp (ev Γ G a J) (ev Γ G b J):=(rfl)
def jkb:ev Γ G (.and a b) J=jcj (truth (ev Γ G a J)) (ev Γ G b) J:=(rfl)
def jo8:ev Γ G (.or a b) J=orW (truth (ev Γ G a J)) (ev Γ G b) J:=(rfl)
def jjy:ev Γ G (.not a) J=jih (truth (ev Γ G a J)):=(rfl)
def jk3:ev Γ G (.ite c a b) J=jbj (truth (ev Γ G c J)) (ev Γ G a) (ev Γ G b) J:=(rfl)
def jjz:ev Γ G .nil J=aa (.a []):=(rfl)
def jfy:ev Γ G (.cons a b) J=consW (ev Γ G a J) (ev Γ G b J):=(rfl)
def jjt:ev Γ G (.tup a) J=Yu (ev Γ G a J):=(rfl)
def jk1:ev Γ G (.lst a) J=Q6 (ev Γ G a J):=(rfl)
def jo9:ev Γ G (.ix a b) J=ixW (ev Γ G a J) (ev Γ G b J):=(rfl)
def jo7:ev Γ G (.sl a b c) J=slW (ev Γ G a J) (Qh (ev Γ G b J)) (Qh (ev Γ G c J)):=(rfl)
def jfv{sep:ao}:ev Γ G (.join sep a) J=Vl sep (ev Γ G a J):=(rfl)
def jk8{b c:Ex}:ev Γ G (.chn a b c) J=j2u (ev Γ G a J) (ev Γ G b J) (ev Γ G c J):=(rfl)
def jkn{i j k:Int}:j2u (aa (.v (.e (.int i)))) (aa (.v (.e (.int j)))) (aa (.v (.e (.int k))))=aa (.v (.e (.bl (decide (i<j)&&decide (j<k))))):=(rfl)
def jbz{y z:ao}:vd .isin (.str y) (.str z)=aa (inS y z):=(rfl)
def j1b(h:ascii y=af):Wt (aa (.v (.e (.str y))))=aa (.i (chs y)):=if_pos h
def jfx{b:Ex}:ev Γ G (.dzip a b) J=Rx (ev Γ G a J) (ev Γ G b J):=(rfl)
def jk6{b:Ex}:ev Γ G (.dix a b) J=Ky (ev Γ G a J) (ev Γ G b J):=(rfl)
def jkd(h:Ux kvs k=aa n):Ky (aa (.v (.e (.sct kvs)))) (aa (.v (.e (.str k))))=aa (.v (.e (.int n))):=by simp only[Ky,Rk.d,h];rfl
def jg0:ev Γ G (.call f a) J=Ju Γ f (ev Γ G a J):=(rfl)
def jk9{f:Bf}:ev Γ G (.blt f a) J=vh f (ev Γ G a J):=(rfl)
def jfz{is:List Nat}:ev Γ G (.comp is e a c) J=j6d is (ev Γ G a (frz a J)) (ev Γ G c) (ev Γ G e) (Jf a J) (frz a J):=(rfl)
def jjw:ev Γ G (.seq a) J=Wt (ev Γ G a J):=(rfl)
def jbt:ev Γ G (.range a) J=Ms (ev Γ G a J):=(rfl)
end
section
variable{x y:Rk}{d:D}{i j k:Int}{l m:List D}{b:Bool}{f g:En->Option W}{J:En}{xs:List Rk}{op:Bop}{cp:Cop}
def jgm:Ln (aa (.val d))=aa (.v (.e d)):=(rfl)
def jgn:Ln (aa (.own l))=aa (.v (.w l)):=(rfl)
def Kq:jd8 (aa d)=aa (.v (.e d)):=(rfl)
def jjg:jbl (aa i)=aa (.v (.e (.int i))):=(rfl)
def jok:blW (aa b)=aa (.v (.e (.bl b))):=(rfl)
def jkz:vm op (aa (.v (.e (.int i)))) (aa (.v (.e (.int j))))=jbl (binI op i j):=by simp only[vm,V3,Rk.d,jbl,rkW];cases binI op i j<;>rfl
def jcf:binI .add i j=aa (i+j):=(rfl)
def jc9:binI .sub i j=aa (i-j):=(rfl)
def jcd(h:(-18446744073709551616<i/\i<18446744073709551616)\/(-18446744073709551616<j/\j<18446744073709551616)):binI .mul i j=aa (i*j):=if_pos h
def j9o(h:0<j/\j<18446744073709551616):binI .fdiv i j=aa (i/j):=if_pos h
def jce(h:0<j):binI .mod i j=aa (i%j):=if_pos h
def jcb(h:0<=j/\j<=1000000/\i.natAbs<18446744073709551616):binI .pow i j=aa (i^j.toNat):=if_pos h
def jca(h:0<=j/\j<=1000000/\i.natAbs<18446744073709551616):binI .shl i j=aa (i*2^j.toNat):=if_pos h
def jks(h:l.length+m.length<=1000000):vm .add (aa (.v (.o l))) (aa (.v (.o m)))=aa (.v (.o (l++m))):=by simp[vm,V3,Rk.d,Rk.sq,jm,zy h,rkW]
def jkp(h:l.length+m.length<=1000000):vm .add (aa (.v (.w l))) (aa (.v (.o m)))=aa (.v (.o (l++m))):=by simp[vm,V3,Rk.d,Rk.sq,jm,zy h,rkW]
def jkt(h:l.length+m.length<=1000000):vm .add (aa (.v (.e (.lst l)))) (aa (.v (.o m)))=aa (.v (.o (l++m))):=by simp[vm,V3,Rk.d,Rk.sq,jm,zy h,rkW]
def jkq(h:l.length+m.length<=1000000):vm .add (aa (.v (.e (.tup l)))) (aa (.v (.e (.tup m))))=aa (.v (.e (.tup (l++m)))):=by simp[vm,V3,Rk.d,Rk.sq,jm,zy h,rkW]
def jmg(h:-9223372036854775808<=k/\k<9223372036854775808)(h2:l.length*k.toNat<=1000000):vm .mul (aa (.v (.o l))) (aa (.v (.e (.int k))))=aa (.v (.o (ax k.toNat l).flatten)):=by simp only[vm,V3,Rk.d,Rk.sq,Rk.lw];rw[if_pos ⟨h.1,h.2,decide_eq_true (zy h2)⟩];rfl
def jil:j1u (aa (.v (.e (.int i))))=aa (.v (.e (.int (-i)))):=(rfl)
def jkj:Ia cp (aa (.v x)) (aa (.v y))=blW (vd cp x.d y.d):=(rfl)
def d_e:(Rk.e d).d=d:=(rfl)
def d_o:(Rk.o l).d=.lst l:=(rfl)
def d_w:(Rk.w l).d=.lst l:=(rfl)
def jkk:vd cp (.int i) (.int j)=cmpI cp i j:=by cases cp<;>rfl
def jc1(h:(D.lst l).dep<=90)(h2:(D.lst m).dep<=90):vd .eq (.lst l) (.lst m)=aa (Jb l m):=by simp[vd,h,h2,j2k]
def j2p(h:D.depL l<=90)(h2:D.depL m<=90):vd .ne (.lst l) (.lst m)=aa (!Jb l m):=by simp[vd,h,h2]
def jc0{a b:ao}:vd .eq (.str a) (.str b)=aa (a==b):=by simp[vd,D.dep,j2i]
def j9h:vd .eq (.lst []) (.lst [])=aa (Jb [] []):=jc1 (by simp[D.dep,D.depL]) (by simp[D.dep,D.depL])
def j97(h:i<j):cmpI .lt i j=aa af:=by simp[cmpI,h]
def j98(h:j<=i):cmpI .lt i j=aa ae:=by simp[cmpI];omega
def j99(h:i<=j):cmpI .le i j=aa af:=by simp[cmpI,h]
def j9a(h:j<i):cmpI .le i j=aa ae:=by simp[cmpI];omega
def j9b(h:j<i):cmpI .gt i j=aa af:=by simp[cmpI,h]
def j9c(h:i<=j):cmpI .gt i j=aa ae:=by simp[cmpI];omega
def j9d(h:j<=i):cmpI .ge i j=aa af:=by simp[cmpI,h]
def j9e(h:i<j):cmpI .ge i j=aa ae:=by simp[cmpI];omega
def j9f(h:i=j):cmpI .eq i j=aa af:=by simp[cmpI,h]
def j9g(h:i≠j):cmpI .eq i j=aa ae:=by simp[cmpI,h]
def j2o:cmpI .ge i j=aa (decide (j<=i)):=(rfl)
def Yq:cmpI .eq i j=aa (decide (i=j)):=(rfl)
def jdw:truth (aa (.v (.e (.bl b))))=aa b:=(rfl)
def ja5:truth (aa (.v (.t (.bl b))))=aa b:=(rfl)
def jl7:jcj (aa ae) f J=aa (.v (.e (.bl ae))):=(rfl)
def jl6:jcj (aa af) f J=blW (truth (f J)):=(rfl)
def jmy:orW (aa af) f J=aa (.v (.e (.bl af))):=(rfl)
def jmz:orW (aa ae) f J=blW (truth (f J)):=(rfl)
def jig:jih (aa b)=aa (.v (.e (.bl (!b)))):=(rfl)
def jm7:stW (aa (.v (.e d)))=aa (.v (.e d)):=(rfl)
def jjd:jbj (aa af) f g J=stW (f J):=(rfl)
def jje:jbj (aa ae) f g J=stW (g J):=(rfl)
def Bl:consW (aa (.v x)) (aa (.a xs))=aa (.a (x::xs)):=(rfl)
def j0y(h:J6 xs=aa l)(hl:l.length<=1000000):Yu (aa (.a xs))=aa (.v (.e (.tup l))):=by simp[Yu,h,jm,zy hl]
def Z0(h:J6 xs=aa l)(hl:l.length<=1000000):Q6 (aa (.a xs))=aa (.v (.o l)):=by simp[Q6,h,jm,zy hl]
def jgv:Yu (aa (.a []))=aa (.v (.e (.tup []))):=by simp[Yu,J6,jm]
def jgu{a:D}:Yu (aa (.a [.e a]))=aa (.v (.e (.tup [a]))):=j0y rfl (by simp)
def jgt{a b:D}:Yu (aa (.a [.e a,.e b]))=aa (.v (.e (.tup [a,b]))):=j0y rfl (by simp)
def jiy:Q6 (aa (.a []))=aa (.v (.o [])):=by simp[Q6,J6,jm]
def jix{a:D}:Q6 (aa (.a [.e a]))=aa (.v (.o [a])):=Z0 rfl (by simp)
def jiw{a b:D}:Q6 (aa (.a [.e a,.e b]))=aa (.v (.o [a,b])):=Z0 rfl (by simp)
def jiv{a b c:D}:Q6 (aa (.a [.e a,.e b,.e c]))=aa (.v (.o [a,b,c])):=Z0 rfl (by simp)
def jgs{a b c:D}:Yu (aa (.a [.e a,.e b,.e c]))=aa (.v (.e (.tup [a,b,c]))):=j0y rfl (by simp)
noncomputable def Cd(o:Option D):Option W:=o.map λd=>.v (.e d)
theorem j17:∀xs:List D,J6 (xs.map Rk.e)=aa xs
 |[]=>rfl
 |x::xs=>by rw[X5,J6,j17 xs];rfl
def j1x(xs:List D)(h:xs.length<=1000000):Q6 (aa (.a (xs.map Rk.e)))=aa (.v (.o xs)):=by simp[Q6,j17,jm,zy h]
def jiu{a b c d e:D}:Q6 (aa (.a [.e a,.e b,.e c,.e d,.e e]))=aa (.v (.o [a,b,c,d,e])):=j1x [a,b,c,d,e] (by simp)
def jit{a b c d e f:D}:Q6 (aa (.a [.e a,.e b,.e c,.e d,.e e,.e f]))=aa (.v (.o [a,b,c,d,e,f])):=j1x [a,b,c,d,e,f] (by simp)
def jis{a b c d e f g h:D}:Q6 (aa (.a [.e a,.e b,.e c,.e d,.e e,.e f,.e g,.e h]))=aa (.v (.o [a,b,c,d,e,f,g,h])):=j1x [a,b,c,d,e,f,g,h] (by simp)
def j4k:Cd (aa d)=aa (.v (.e d)):=(rfl)
def jjc:ixW (aa (.v (.e (.lst l)))) (aa (.v (.e (.int i))))=Cd (atI l i):=(rfl)
def jjb:ixW (aa (.v (.e (.tup l)))) (aa (.v (.e (.int i))))=Cd (atI l i):=(rfl)
def jnk:ixW (aa (.v (.o l))) (aa (.v (.e (.int i))))=Cd (atI l i):=(rfl)
def jni:ixW (aa (.v (.w l))) (aa (.v (.e (.int i))))=Cd (atI l i):=(rfl)
noncomputable def jkm(c:Option Nat):Option W:=match c with
 |some c=>aa (.v (.e (.str ⟨#[c]⟩)))
 |none=>ag
def jkl{c:Nat}:jkm (aa c)=aa (.v (.e (.str ⟨#[c]⟩))):=(rfl)
def jnj{z:ao}(h:z.length<=1000000):ixW (aa (.v (.e (.str z)))) (aa (.v (.e (.int i))))=jkm (atI z.cps.toList i):=by simp only[ixW,Rk.sq,Rk.d,jm,zy h,decide_true,if_true];cases atI z.cps.toList i<;>rfl
def jmb{z:ao}{lo hi:Option Int}(h:z.length<=1000000):slW (aa (.v (.e (.str z)))) (aa lo) (aa hi)=aa (.v (.e (.str (bj z lo hi)))):=by simp only[slW,Rk.sq,Rk.d,jm,zy h,decide_true,if_true]
def j2w{y z:ao}(h:y.length+z.length<=1000000):vm .add (aa (.v (.e (.str y)))) (aa (.v (.e (.str z))))=aa (.v (.e (.str (y++z)))):=by simp[vm,V3,Rk.d,jm,zy h,rkW]
def jn6{z:ao}(h:z.length<=1000000):vh .len (aa (.a [.e (.str z)]))=aa (.v (.e (.int z.length))):=by simp only[vh,Zb,Rk.d,jm,zy h,decide_true,if_true];rfl
def jnq{k:Bool}:vh .int (aa (.a [.e (.bl k)]))=aa (.v (.e (.int (if k then 1 else 0)))):=(rfl)
def Rn{ns:zo}:intsOf (ns.map D.int)=aa ns:=by
 induction ns with
 |nil=>rfl
 |cons b bs ih=>rw[X5,intsOf,ih];rfl
def Y9{ns:List ao}:strsOf (ns.map D.str)=aa ns:=by
 induction ns with
 |nil=>rfl
 |cons b bs ih=>rw[X5,strsOf,ih];rfl
def jh2{ns:zo}:vh .sum (aa (.a [.e (.lst (ns.map D.int))]))=aa (.v (.e (.int ns.sum))):=by simp only[vh,Zb,Rk.d,Rn];rfl
def Bb(h:bZ sep ts=af):Vl sep (aa (.v (.o (ts.map D.str))))=aa (.v (.e (.str (c9 sep ts)))):=by simp only[Vl,Rk.d,Y9,h,if_true]
def jc7:Qh (aa (.a []))=aa ag:=(rfl)
def jc6:Qh (aa (.a [.e (.int i)]))=aa (aa i):=(rfl)
variable{lo hi:Option Int}
def jh6:slW (aa (.v (.e (.lst l)))) (aa lo) (aa hi)=aa (.v (.o (cutD l lo hi))):=(rfl)
def jma:slW (aa (.v (.w l))) (aa lo) (aa hi)=aa (.v (.o (cutD l lo hi))):=(rfl)
variable{Γ:ao->List D->Rc}{fn:ao}
noncomputable def rcW(r:Rc):Option W:=match r with
 |.val d=>aa (.v (.e d))
 |.fresh l=>aa (.v (.o l))
 |_=>ag
def jmj{x:ao}:rcW (.err x)=ag:=(rfl)
def jmh:rcW (.val d)=aa (.v (.e d)):=(rfl)
def jmi:rcW (.fresh l)=aa (.v (.o l)):=(rfl)
def Zi(h:J6 xs=aa l):Ju Γ fn (aa (.a xs))=rcW (Γ fn l):=by simp only[Ju,h];cases Γ fn l<;>rfl
def jg9{a:D}:Ju Γ fn (aa (.a [.e a]))=rcW (Γ fn [a]):=Zi rfl
def jg8{a b:D}:Ju Γ fn (aa (.a [.e a,.e b]))=rcW (Γ fn [a,b]):=Zi rfl
def jg7{a b c:D}:Ju Γ fn (aa (.a [.e a,.e b,.e c]))=rcW (Γ fn [a,b,c]):=Zi rfl
def jc4:Ju Γ fn (aa (.a [.o l]))=rcW (Γ fn [.lst l]):=Zi rfl
def jc3{a:D}:Ju Γ fn (aa (.a [.o l,.e a]))=rcW (Γ fn [.lst l,a]):=Zi rfl
def jc5{a:D}:Ju Γ fn (aa (.a [.e a,.o l]))=rcW (Γ fn [a,.lst l]):=Zi rfl
noncomputable def rcT(r:Rc):Option W:=match r with
 |.val d=>aa (.v (.t d))
 |.fresh l=>if zc l=af then aa (.v (.o l))else ag
 |_=>ag
def jmk:rcT (.val d)=aa (.v (.t d)):=(rfl)
def jg6(h:J6 xs=ag):Ju Γ fn (aa (.a xs))=rcT (Γ fn (xs.map Rk.d)):=by simp only[Ju,h];cases Γ fn (xs.map Rk.d)<;>rfl
def jn7:vh .len (aa (.a [.e (.lst l)]))=aa (.v (.e (.int l.length))):=(rfl)
def jn5:vh .len (aa (.a [.e (.tup l)]))=aa (.v (.e (.int l.length))):=(rfl)
def jn4:vh .len (aa (.a [.w l]))=aa (.v (.e (.int l.length))):=(rfl)
def jip:vh .min (aa (.a [.e (.int i),.e (.int j)]))=aa (.v (.e (.int (if j<i then j else i)))):=(rfl)
def jdv:vh .tuple (aa (.a [.w l]))=aa (.v (.e (.tup l))):=(rfl)
def ja1:vh .tuple (aa (.a [.e (.lst l)]))=aa (.v (.e (.tup l))):=(rfl)
def jfe:vh .list (aa (.a [.e (.lst l)]))=aa (.v (.o l)):=(rfl)
def j3n{bs:List Bool}:boolsOf (bs.map D.bl)=aa bs:=by
 induction bs with
 |nil=>rfl
 |cons b bs ih=>rw[X5,boolsOf,ih];rfl
def jom{bs:List Bool}:vh .all (aa (.a [.o (bs.map D.bl)]))=aa (.v (.e (.bl (bs.all id)))):=by simp only[vh,Zb,Rk.d,j3n];rfl
def je4:Wt (aa (.v (.e (.lst l))))=aa (.i l):=(rfl)
def je3:Wt (aa (.v (.e (.tup l))))=aa (.i l):=(rfl)
def jhb:Wt (aa (.v (.o l)))=aa (.i l):=(rfl)
def jb0(h:-4611686018427387904<=i/\i<4611686018427387904):Ms (aa (.a [.e (.int i)]))=aa (.i (upto 0 i.toNat)):=if_pos h
def vp{ds:List D}(hf:j0l is J=af)(hl:ds.length<=1000000)(h:Qp (Wo is c e J) ds=aa l)(hz:z=ae\/zc l=af):j6d is (aa (.i ds)) c e z J=aa (.v (.o l)):=by simp only[j6d,hf,jm,zy hl,decide_true,and_self,if_true,h,fS];rcases hz with z|z<;>simp[z]
def J1{i:Nat}{c e:En->Option W}(hc:c (J.set i (.val d))=aa (.a [])){d':D}(he:e (J.set i (.val d))=aa (.v (.e d'))):Wo [i] c e J d=aa (aa d'):=by simp[Wo,vf,hc,he,Rk.st]
def ja0{i:Nat}{c e:En->Option W}{b:Bool}{d':D}(hc:c (J.set i (.val d))=aa (.a [.e (.bl b)]))(he:b=af->e (J.set i (.val d))=aa (.v (.e d'))):Wo [i] c e J d=aa (if b=af then aa d' else ag):=by
 cases b with
 |true=>simp[Wo,vf,hc,he rfl,Rk.st,Rk.d]
 |false=>simp[Wo,vf,hc,Rk.d]
def Oi{α:Type}{xs:List α}{n:Nat}{x:α}(h:xs[n]?=aa x):atI xs (n:Int)=aa x:=Bp h
end
section
noncomputable abbrev Fb(r:zo):D:=.tup (r.map .int)
noncomputable abbrev Z6(rs:List zo):List D:=rs.map Fb
def zj{α:Type}{f:D->Option (Option D)}{h g:α->D}{L:List α}(q:∀x∈L,f (h x)=aa (aa (g x))):Qp f (L.map h)=aa (L.map g):=by
 induction L with
 |nil=>rfl
 |cons x L ih=>rw[X5,Qp,q x (km ..),ih λy hy=>q y (kh _ hy)];rfl
def j09{α:Type}{f:D->Option (Option D)}{h g:α->D}{p:α->Bool}{L:List α}(q:∀x∈L,f (h x)=aa (if p x=af then aa (g x)else ag)):Qp f (L.map h)=aa ((L.filter p).map g):=by
 induction L with
 |nil=>rfl
 |cons x L ih =>
  rw[X5,Qp,q x (km ..),ih λy hy=>q y (kh _ hy)];by_cases z:p x=af
  .rw[if_pos z,i6 z];rfl
  .rw[if_neg z,i7 z]
def take_snoc{α:Type}{l:List α}{x:α}(h:l[i]?=aa x):l.take (i+1)=l.take i++[x]:=by rw[dN,h];rfl
def j26{α β:Type}{f:α->β}{l:List α}{i:Nat}{y:β}(h:(l.map f)[i]?=aa y):∃x,l[i]?=aa x/\y=f x:=by
 rw[Xn]at h;cases e:l[i]? with
 |none=>rw[e]at h;cases h
 |some x=>rw[e]at h;cases h;exact⟨x,rfl,rfl⟩
end
section
variable{fu:Nat}{Γ:ao->List D->Rc}{G:ao->Option D}{ls:List ao}{J:En}{i j k:Nat}{e c es m:Ex}{f x y:ao}{b r:Px}
def jap{p:Px}:run fu Γ G (.newP i e p) J=newS (decide (i<J.length)) (ev Γ G e J) (G (qm "Pieces")) λls=>jh fu Γ G ls p (J.set i (.exc rfN)) 0:=(rfl)
noncomputable def j67:Sm->So
 |.ret d k'=>.ret (.mval d k')
 |.err x _=>.ret (.merr x)
 |_=>.no
noncomputable def j68:Sm->So
 |.next J' _=>.next J'
 |.ret d _=>.ret (.val d)
 |.err x J'=>.err x J'
 |.no=>.no
def jfo{d:D}:j67 (.ret d k)=.ret (.mval d k):=(rfl)
def jfp{d:D}:j68 (.ret d k)=.ret (.val d):=(rfl)
def jfq:j68 (.err x J)=.err x J:=(rfl)
def j0e:pxS (aa (.val (.lst (ls.map D.str)))) (aa (.val (.int (k:Int)))) g=j67 (g ls k):=by simp only[pxS,Y9,jJ,if_true,Xz];cases g ls k<;>rfl
def jik{t:ao}(h1:t.length<=100000)(h2:(aC t " ").length<=1000000):newS af (aa (.v (.e (.str t)))) (aa d) g=j68 (g (aC t " ")):=by
 have z:jm (aC t " ").length=af:=by simp[jm,zy h2]
 simp only[newS,Rk.d];rw[if_pos ⟨h1,z⟩];cases g (aC t " ")<;>rfl
def jha{l:List D}{g:En->Sm}:j5e i (aa (.v (.o l))) J g=g (J.set i (.own l)):=(rfl)
def jhn{d:D}:K6 (aa (.v (.e d))) k=.ret d k:=(rfl)
def jhq:Vz x (aa (.v z)) (aa d) J=.err x J:=(rfl)
def jnv{a b:Sm}:ifP (aa af) a b=a:=(rfl)
def jnw{a b:Sm}:ifP (aa ae) a b=b:=(rfl)
def jkv{d:D}{g:D->Nat->Sm}:Uz G (.mval d k) J g=g d k:=(rfl)
def Oe(h:(G (bang x)).isSome=af):Uz G (.merr x) J g=.err x J:=if_pos h
def jga{d:D}:Yh Γ ls f (aa (.a [.e d])) k=Γ (mq f) [.lst (ls.map D.str),.int (k:Int),d]:=(rfl)
def jl5{l:List D}{d:D}{g:En->Sm}(h:l.length<=1000000):j6n i (aa (.own l)) J d g=g (J.set i (.own (l++[d]))):=if_pos (lt_size h)
def ji7{l:List D}{s:Sm}:j5r (aa (.own l)) s=s:=(rfl)
def jgp{d:D}{g:En->Sm}:j51 i (aa d) J g=g (J.set i (.val d)):=(rfl)
end
section
variable{Γ:ao->List D->Rc}{G:ao->Option D}{J:En}{a:Ex}
def jk5:True:=trivial
def jjv:ev Γ G (.spl a) J=j18 (ev Γ G a J):=(rfl)
def jju:ev Γ G (.sti a) J=j15 (ev Γ G a J):=(rfl)
def jh4{y:ao}(h1:y.length<=100000)(h2:(aC y " ").length<=1000000):j18 (aa (.v (.e (.str y))))=aa (.v (.o ((aC y " ").map D.str))):=if_pos ⟨h1,by simp[jm,zy h2]⟩
def j7a{i:Int}(h:-18446744073709551616<i/\i<18446744073709551616):j15 (aa (.v (.e (.int i))))=aa (.v (.e (.str (aF (toString i))))):=if_pos h
def jd5{y:ao}(h:y.length<=640)(hn:cq y=aa n):vh .int (aa (.a [.e (.str y)]))=aa (.v (.e (.int n))):=by simp only[vh,Zb,Rk.d,h,if_true,hn,g9];rfl
end
end L2
end
section
open PySem (Str)
open L2
noncomputable def jo0:=(k83 (k83 (k83 (k83 (k83 (k83 (k83 @je8 (k83 @jk5 @jjv)) (k83 @jju (k83 @j7a @jhj))) (k83 (k83 @jap (k83 @jfo @jfp)) (k83 @jfq (k83 @jaw @jau)))) (k83 (k83 (k83 @j5j (k83 @j5k @jav)) (k83 @j7i (k83 @j5i @j3d))) (k83 (k83 @j5m (k83 @j7j @jha)) (k83 (k83 @jhn @jnv) (k83 @jnw @jkv))))) (k83 (k83 (k83 (k83 @jga (k83 @jl5 @ji7)) (k83 @jgp (k83 @j3z @je6))) (k83 (k83 @je9 (k83 @jat @je7)) (k83 @jan (k83 @jea @jar)))) (k83 (k83 (k83 @jed (k83 @jec @jeb)) (k83 @jas (k83 @j8i @j8h))) (k83 (k83 @jfx (k83 @jk8 @jkn)) (k83 (k83 @jbz @jk6) (k83 @jjx @jb4)))))) (k83 (k83 (k83 (k83 (k83 @jk4 (k83 @j45 @jey)) (k83 @jh8 (k83 @jjr @Cu))) (k83 (k83 @j7g (k83 @jhp @jam)) (k83 @j70 (k83 @jae @jft)))) (k83 (k83 (k83 @jmj (k83 @Iv @j1c)) (k83 @jnt (k83 @jnu @jh7))) (k83 (k83 @jh9 (k83 @jhm @j7l)) (k83 (k83 @jeg @jef) (k83 @jin @jjq))))) (k83 (k83 (k83 (k83 @jfd (k83 @jl4 @jl3)) (k83 @jjp (k83 @j4m @jbr))) (k83 (k83 @jk2 (k83 @jjs @jfw)) (k83 (k83 @jka @jk0) (k83 @jk7 @jkb)))) (k83 (k83 (k83 @jo8 (k83 @jjy @jk3)) (k83 @jjz (k83 @jfy @jjt))) (k83 (k83 @jk1 (k83 @jo9 @jo7)) (k83 (k83 @jg0 @jk9) (k83 @jfz @jjw))))))) (k83 (k83 (k83 (k83 (k83 (k83 @jbt (k83 @jgm @jgn)) (k83 @Kq (k83 @jjg @jok))) (k83 (k83 @jkz (k83 @jcf @jc9)) (k83 @jcd (k83 @j9o @jce)))) (k83 (k83 (k83 @jcb (k83 @jca @jks)) (k83 @jkp (k83 @jkt @jkq))) (k83 (k83 @jmg (k83 @jil @jkj)) (k83 (k83 @d_e @d_o) (k83 @d_w @jkk))))) (k83 (k83 (k83 (k83 @jc0 (k83 @j9h @j97)) (k83 @j98 (k83 @j99 @j9a))) (k83 (k83 @j9b (k83 @j9c @j9d)) (k83 @j9e (k83 @j9f @j9g)))) (k83 (k83 (k83 @jdw (k83 @ja5 @jl7)) (k83 @jl6 (k83 @jmy @jmz))) (k83 (k83 @jig (k83 @jm7 @jjd)) (k83 (k83 @jje @Bl) (k83 @jgv @jgu)))))) (k83 (k83 (k83 (k83 (k83 @jgt (k83 @jiy @jix)) (k83 @jiw (k83 @jiv @jiu))) (k83 (k83 @jit (k83 @jis @jgs)) (k83 @j4k (k83 @jjc @jjb)))) (k83 (k83 (k83 @jnk (k83 @jni @jc7)) (k83 @jc6 (k83 @jh6 @jma))) (k83 (k83 @jmh (k83 @jmi @jmk)) (k83 (k83 @jg9 @jg8) (k83 @jg7 @jc4))))) (k83 (k83 (k83 (k83 @jc3 (k83 @jc5 @jn7)) (k83 @jn5 (k83 @jn4 @jip))) (k83 (k83 @jdv (k83 @ja1 @jfe)) (k83 (k83 @jom @je4) (k83 @je3 @jhb)))) (k83 (k83 (k83 @jb0 (k83 @jfv @jal)) (k83 @jds (k83 @je5 @jh3))) (k83 (k83 @jkl (k83 @jnj @jmb)) (k83 (k83 @j2w @jn6) (k83 @jnq @jh2))))))))
local macro_rules | `(tactic| walk_at "go")=>`(tactic| try simp (disch:=first | omega | assumption | (simp only [List.length_map,List.length_append,List.length_cons,List.length_nil,List.length_take,List.length_drop,List.length_reverse] <;> omega)) only [jo0,U7,beq_self_eq_true,frz,Jf,jbp,List.getElem?_cons_zero,List.getElem?_cons_succ,List.set_cons_zero,List.set_cons_succ,List.map_cons,List.map_nil,List.cons_append,List.nil_append,List.replicate,List.length_map,List.length_append,List.length_cons,List.length_nil,Bool.not_true,Bool.not_false,bne_self_eq_false,Nat.reduceSub,Nat.reduceAdd,Int.reduceToNat,Int.reducePow])
local macro_rules | `(tactic| ext)=>`(tactic| walk_at "go")
local macro_rules | `(tactic| erw [$r])=>`(tactic| (rw [$r]; ext)) | `(tactic| erw [$r,$rs,*])=>`(tactic| (rw [$r]; ext; erw [$rs,*]))
namespace KL
noncomputable def J8:Sx:=(.seq (.set 1 (.lst (.cons (.tup .nil) .nil))) (.seq (.loop [2] (.seq (.var 0)) (.seq (.set 3 (.lst .nil)) (.seq (.loop [4] (.seq (.var 1)) (.seq (.ext 3 (.comp [5] (.bin .add (.var 4) (.tup (.cons (.var 5) .nil))) (.seq (.var 2)) .nil)) .nop)) (.seq (.mov 1 3) .nop)))) (.seq (.retV 1) .nop)))
noncomputable def fP_all_choices:Fi:=⟨1,6,J8,ae⟩
noncomputable def Yr:Sx:=(.seq (.ife (.cmp .lt (.var 1) (.blt .len (.cons (.var 0) .nil))) (.seq (.ret (.ix (.var 0) (.var 1))) .nop) .nop) (.seq (.set 2 (.bin .add (.lit (.int 70001)) (.bin .mul (.bin .mul (.lit (.int 911)) (.var 1)) (.var 1)))) (.seq (.ife (.cmp .gt (.blt .len (.cons (.var 0) .nil)) (.lit (.int 0))) (.seq (.set 2 (.bin .add (.var 2) (.bin .mul (.bin .mod (.ix (.var 0) (.lit (.int 0))) (.lit (.int 9973))) (.bin .add (.bin .mul (.lit (.int 3)) (.var 1)) (.lit (.int 1)))))) .nop) .nop) (.seq (.retV 2) .nop))))
noncomputable def fL_cell:Fi:=⟨2,3,Yr,ae⟩
section
variable{G:ao->Option D}{T:ao->Option Fi}
noncomputable def zr(ns:zo)(k:Nat):Int:=match ns[k]? with
 |some v=>v
 |none=>match ns with
  |[]=>70001+911*k*k
  |v::_=>70001+911*k*k+v%9973*(3*k+1)
def j9i{fu n:Nat}(hT:T "_law_cell"=aa fL_cell){ns:zo}{k:Nat}(hk:k<=100):evP fu G T (n+1) "_law_cell" [.lst (ns.map .int),.int k]=.val (.int (zr ns k)):=by
 rw[jt (F:=fL_cell) hT rfl];simp only[fL_cell,Yr,enter];by_cases h:k<ns.length
 .have e:atI (ns.map D.int) (k:Int)=aa (.int ns[k]):=Oi (by simp[h]);have q:zr ns k=ns[k]:=by simp[zr,h]
  ext;simp only[e,j4k,j7l,j45,j1c,j4m,q]
 .cases ns with
  |nil =>ext;simp[zr]
  |cons v r =>
   have e:atI (D.int v::r.map D.int) 0=aa (.int v):=by simp[atI,ixN]
   have q:zr (v::r) k=70001+911*k*k+v%9973*(3*k+1):=by unfold zr;rw[Th nofun]
   rw[X5];rw[xn]at h;ext;simp only[e];ext;rw[q]
def jab(f:zo):step [] f=[]:=rfl
def j7b(acc:List zo)(a f:zo):step (acc++[a]) f=step acc f++f.map λx=>a++[x]:=by simp[step]
def j2s(fs:List zo)(f:zo):v8 (fs++[f])=step (v8 fs) f:=by simp[v8]
def j16(acc:List zo){f:zo}(h:f.length<=k):(step acc f).length<=acc.length*k:=by
 unfold step;induction acc with
 |nil=>simp
 |cons a acc ih =>rw[Tu,X6,xm,xn,lY];omega
def j3l(h:∀f∈fs,f.length<=k):(v8 fs).length<=k^fs.length:=by
 have go:∀(fs acc:List zo),(∀f∈fs,f.length<=k)->(fs.foldl step acc).length<=acc.length*k^fs.length:=by
  intro fs;induction fs with
  |nil=>intro acc _;simp
  |cons f fs ih =>intro acc hf;have h1:=ih (step acc f) λg hg=>hf g (kh _ hg);have h2:=j16 acc (hf f (km ..));rw[cK,xn,ir,fU (k^fs.length) k,<-Nat.mul_assoc];exact Xa h1 (iM _ h2)
 have:=go fs [[]] h;simpa [v8]using this
def j2t(h:r∈v8 fs):r.length=fs.length:=by
 have go:∀(fs acc:List zo) (k:Nat),(∀a∈acc,a.length=k)->∀r∈fs.foldl step acc,r.length=k+fs.length:=by
  intro fs;induction fs with
  |nil=>intro acc k ha r hr;exact ha r hr
  |cons f fs ih =>
   intro acc k ha r hr;have:=ih (step acc f) (k+1) (λa hm=>by
    obtain⟨b,hb,hx⟩:=List.mem_flatMap.mp hm
    obtain⟨x,_,rfl⟩:=Xm.mp hx
    rw[X6,ha b hb];rfl) r hr
   rw[this,xn];omega
 have:=go fs [[]] 0 (λa ha=>by rw[xu.mp ha];rfl) r h;omega
def j2r(hT:T "all_choices"=aa fP_all_choices)(hf:∀f∈fs,f.length<=3)(hl:fs.length<=6):evP fu G T (n+1) "all_choices" [.lst (Z6 fs)]=.fresh (Z6 (v8 fs)):=by
 rw[jt (F:=fP_all_choices) hT rfl];simp only[fP_all_choices,J8,enter];ext;have small:∀i,(v8 (fs.take i)).length<=729:=λi=>by
  have h:=j3l (fs:=fs.take i) (k:=3) λf hm=>hf f (Ph hm);have h2:(fs.take i).length<=6:=by rw[Xk];omega
  exact Xa h (Tq (by decide) h2)
 refine Nj (λi J=>∃s2 s4,J=[.val (.lst (Z6 fs)),.own (Z6 (v8 (fs.take i))),s2,.un,s4,.un]) ⟨.un,.un,by simp[v8,Z6,Fb]⟩ ?_ ?_
 .rintro i d J hi ⟨s2,s4,rfl⟩;obtain⟨f,hfi,rfl⟩:=j26 hi;have hf3:f.length<=3:=hf f (Pg hfi);have sm:=small i;simp only[Zj];ext;refine j7e (λj J=>∃s4,J=[.val (.lst (Z6 fs)),.val (.lst (Z6 (v8 (fs.take i)))),.val (Fb f),.own (Z6 (step ((v8 (fs.take i)).take j) f)),s4,.un]) ⟨s4,by simp[jab]⟩ ?_ ?_
  .rintro j d J hj ⟨s4,rfl⟩;obtain⟨a,haj,rfl⟩:=j26 hj;have hs:=j16 ((v8 (fs.take i)).take j) hf3;have hs2:((v8 (fs.take i)).take j).length<=729:=by rw[Xk];omega
   have ha:a.length<=6:=by have:=j2t (Pg haj);rw[Xk]at this;omega
   simp only[Zj];ext;rw[vp (l:=(f.map λx=>Fb (a++[x]))) (by rfl) ?_ ?_ (.inl rfl)]
   .ext;refine⟨_,rfl,.val (Fb a),?_⟩;rw[take_snoc haj,j7b];simp only[Z6,ph,Xe];rfl
   .simp only[xm];omega
   .refine zj λx _=>J1 (by ext) ?_;ext;simp
  .rintro J' ⟨s4,rfl⟩;ext;refine⟨_,rfl,.val (Fb f),s4,?_⟩;rw[take_snoc hfi,j2s,cV]
 .rintro J' ⟨s2,s4,rfl⟩;ext;rw[cV]
def Z8(n:Nat):upto 0 n=(aZ n).map λ(k:Nat)=>D.int (0+(k:Int)):=rfl
end
end KL
namespace KV
open PySem
noncomputable def letters:List Nat:=[109,100,107,98,118,113,104,122,99,103,114,110,97,112,120,111,108,115,105,101,102,119,116,121,106,117]
def jfc:("mdkbvqhzcgrnapxolsiefwtyju":ao).cps.toList=letters:=by decide +kernel
noncomputable def lt(n:Int):Nat:=letters.getD n.toNat 0
noncomputable def sL(l:List Nat):ao:=⟨l.toArray⟩
def j4:(sL l).length=l.length:=by simp[sL,gS]
def Qw(h:sL l=sL m):l=m:=by have:=congrArg (λz=>z.cps.toList) h;simpa [sL]using this
def z6:sL l++sL m=sL (l++m):=by show(⟨l.toArray++m.toArray⟩:ao)=_;simp[sL]
def Ri:∀l:List Nat,c9 ("":ao) (l.map λc=>(⟨#[c]⟩:ao))=sL l:=by
 intro l;show dU _ _=_;rw[hJ];induction l with
 |nil=>rfl
 |cons a r ih =>
  cases r with
  |nil=>rfl
  |cons b r =>
   rw[X5,X5,eY,<-X5 (f:=λc=>(⟨#[c]⟩:ao)),ih]
   .show(⟨(#[a] ++ #[])++(b::r).toArray⟩:ao)=⟨(a::b::r).toArray⟩
    simp
   .intro z;cases z
def J5:(sL l).cps.toList=l:=by simp[sL]
def Cg{k:Nat}:aE ag (aa (k:Int)) 1 n=aE (aa ((0:Nat):Int)) (aa (k:Int)) 1 n:=by
 have e:max (0:Int) (min 0 (n:Int))=0:=by omega
 simp[aE,e]
def Ci{k n:Nat}:aE (aa (k:Int)) ag 1 n=aE (aa (k:Int)) (aa (n:Int)) 1 n:=by
 have e:max (0:Int) (min (n:Int) (n:Int))=n:=by omega
 have e2:¬((n:Int)<0):=by omega
 simp[aE,e,e2]
def Nh{l:List Nat}{a b:Nat}{lo hi:Option Int}(he:aE lo hi 1 (sL l).length=aE (aa (a:Int)) (aa (b:Int)) 1 (sL l).length)(hab:a<=b)(hb:b<=l.length):bj (sL l) lo hi=sL ((l.drop a).take (b-a)):=by
 have hb':b<=(sL l).length:=by rw[j4];exact hb
 have q:=StrLaws.sliced_plain (sL l) hab hb';rw[J5]at q;have e1:=StrLaws.strSliceIndices_plain hab hb';unfold bj;rw[he];by_cases h:((1:Int)==1&&(aE (aa (a:Int)) (aa (b:Int)) 1 (sL l).length).length==(sL l).length)=af
 .rw[if_pos h];rw[e1,j4,xm,S8]at h;have:b-a=l.length:=by simpa using h
  have ha:a=0:=by omega
  subst ha;rw[this,T8,cV]
 .rw[if_neg h,q];rfl
def Dj{l:List Nat}{k:Nat}(h:k<=l.length):bj (sL l) ag (aa (k:Int))=sL (l.take k):=by rw[Nh (a:=0) (b:=k) Cg (Tn _) h];simp
def Wr{l:List Nat}{k:Nat}(h:k<=l.length):bj (sL l) (aa (k:Int)) ag=sL (l.drop k):=by rw[Nh (a:=k) (b:=l.length) (by rw[Ci,j4]) h (Xc _),Tf (by rw[Xo];omega)]
def O2{l:List Nat}(h:l.length<=100):bZ ("":ao) (l.map λc=>(⟨#[c]⟩:ao))=af:=by
 unfold bZ;rw[dP];have e:∀(r:List Nat)(k:Nat),(r.map λc=>(⟨#[c]⟩:ao)).foldl (λ(x:Nat) (y:ao)=>x+y.length+("":ao).length) k=k+r.length:=by
  intro r;induction r with
  |nil=>intro k;rfl
  |cons a r ih =>intro k;rw[X5,cK,ih,xn];show k+1+0+r.length=_;omega
 show bh _=ae;have:=e l 0;rw[j3];show bh (cW (λ(x:Nat) (y:ao)=>x+y.length+("":ao).length) 0 _)=ae;rw[this];unfold bh;simp;have:=bN;omega
noncomputable def Vk(c:Int):List Nat:=(aZ 8).map λ(k:Nat)=>lt (c/(4+5*(k:Int))%26)
noncomputable def Zm(c:Int)(s:Nat):List Nat:=(aZ s).map λ(k:Nat)=>lt ((c/32+3*(k:Int)*(k:Int)+(k:Int))%26)
def Ja(c:Int):(Vk c).length=8:=by simp[Vk]
def zu(c:Int)(s:Nat):(Zm c s).length=s:=by simp[Zm]
noncomputable def stN(c:Int)(m:Nat):Nat:=(c/8%(9-(m:Int))).toNat
noncomputable def szN(c:Int):Nat:=(c/4%8).toNat
noncomputable def atN(c:Int):Nat:=(c/512%((szN c:Int)+1)).toNat
noncomputable def wrd(c:Int)(m k:Nat):List Nat :=
 if c%4<2 then(if c%4=0 then(Vk c).take (stN c m+k+1) else(Vk c).drop (8-stN c m-k-1))
 else(Zm c (szN c)).take (atN c)++lt ((c/9+7*(k:Int))%26)::(Zm c (szN c)).drop (atN c)
noncomputable def Jx(c:Int)(m:Nat):List ao:=(aZ m).map λ(k:Nat)=>sL (wrd c m k)
def jir(ha:0<=a/\a<26)(hb:0<=b/\b<26)(h:lt a=lt b):a=b:=by
 obtain⟨i,rfl⟩:∃i:Nat,a=(i:Int):=⟨a.toNat,by omega⟩
 obtain⟨j,rfl⟩:∃j:Nat,b=(j:Int):=⟨b.toNat,by omega⟩
 have key:∀i j:Fin 26,letters.getD i.val 0=letters.getD j.val 0->i=j:=by decide +kernel
 have:=key ⟨i,by omega⟩ ⟨j,by omega⟩ h;have:=congrArg Fin.val this;simp at this;omega
def j59(h:m<=6):stN c m+m<=8:=by unfold stN;have h1:=Te (c/8) (show(9-(m:Int))≠0 by omega);have h2:=Tj (c/8) (show(0:Int)<9-(m:Int)by omega);omega
def j0q(c:Int):atN c<=szN c/\szN c<=7:=by unfold atN;have h1:=Te (c/512) (show((szN c:Int)+1)≠0 by omega);have h2:=Tj (c/512) (show(0:Int)<(szN c:Int)+1 by omega);refine⟨by omega,?_⟩;unfold szN;omega
def jdo(hm:m<=6)(hk:k<m):1<=(wrd c m k).length/\(wrd c m k).length<=8:=by
 have s:=j59 (c:=c) hm;have a:=j0q c;have l8:=Ja c;have ls:=zu c (szN c);unfold wrd;split
 .split
  .rw[Xk];omega
  .rw[Xo];omega
 .rw[X6,xn,Xk,Xo];omega
def jdp(hm:m<=6)(hi:i<m)(hj:j<m)(h:wrd c m i=wrd c m j):i=j:=by
 have s:=j59 (c:=c) hm;have a:=j0q c;have l8:=Ja c;have ls:=zu c (szN c);unfold wrd at h;split at h
 .split at h
  .have:=congrArg iE h;rw[Xk,Xk]at this;omega
  .have:=congrArg iE h;rw[Xo,Xo]at this;omega
 .have h2:=List.append_cancel_left h;have h3:=(eP h2).1;have:=jir nofun nofun h3;omega
end KV
open PySem (Str)
open L2
namespace KW
open KL KV PySem
noncomputable def Zd:Sx:=(.seq (.set 2 (.lit (.str "mdkbvqhzcgrnapxolsiefwtyju"))) (.seq (.ife (.cmp .lt (.bin .mod (.var 0) (.lit (.int 4))) (.lit (.int 2))) (.seq (.set 3 (.join "" (.comp [4] (.ix (.var 2) (.bin .mod (.bin .fdiv (.var 0) (.bin .add (.lit (.int 4)) (.bin .mul (.lit (.int 5)) (.var 4)))) (.lit (.int 26)))) (.range (.cons (.lit (.int 8)) .nil)) .nil))) (.seq (.set 5 (.bin .mod (.bin .fdiv (.var 0) (.lit (.int 8))) (.bin .sub (.lit (.int 9)) (.var 1)))) (.seq (.ife (.cmp .eq (.bin .mod (.var 0) (.lit (.int 4))) (.lit (.int 0))) (.seq (.ret (.comp [4] (.sl (.var 3) .nil (.cons (.bin .add (.bin .add (.var 5) (.var 4)) (.lit (.int 1))) .nil)) (.range (.cons (.var 1) .nil)) .nil)) .nop) .nop) (.seq (.ret (.comp [4] (.sl (.var 3) (.cons (.bin .sub (.bin .sub (.bin .sub (.lit (.int 8)) (.var 5)) (.var 4)) (.lit (.int 1))) .nil) .nil) (.range (.cons (.var 1) .nil)) .nil)) .nop)))) .nop) (.seq (.set 6 (.bin .mod (.bin .fdiv (.var 0) (.lit (.int 4))) (.lit (.int 8)))) (.seq (.set 7 (.join "" (.comp [4] (.ix (.var 2) (.bin .mod (.bin .add (.bin .add (.bin .fdiv (.var 0) (.lit (.int 32))) (.bin .mul (.bin .mul (.lit (.int 3)) (.var 4)) (.var 4))) (.var 4)) (.lit (.int 26)))) (.range (.cons (.var 6) .nil)) .nil))) (.seq (.set 8 (.bin .mod (.bin .fdiv (.var 0) (.lit (.int 512))) (.bin .add (.var 6) (.lit (.int 1))))) (.seq (.ret (.comp [4] (.bin .add (.bin .add (.sl (.var 7) .nil (.cons (.var 8) .nil)) (.ix (.var 2) (.bin .mod (.bin .add (.bin .fdiv (.var 0) (.lit (.int 9))) (.bin .mul (.lit (.int 7)) (.var 4))) (.lit (.int 26))))) (.sl (.var 7) (.cons (.var 8) .nil) .nil)) (.range (.cons (.var 1) .nil)) .nil)) .nop))))))
noncomputable def fL_words:Fi:=⟨2,9,Zd,ae⟩
section
variable{G:ao->Option D}{T:ao->Option Fi}
def j60(h:0<=n/\n<26):atI ("mdkbvqhzcgrnapxolsiefwtyju":ao).cps.toList n=aa (lt n):=by
 obtain⟨k,rfl⟩:∃k:Nat,n=(k:Int):=⟨n.toNat,by omega⟩
 have hk:k<letters.length:=by show k<26;omega
 rw[jfc];refine Oi ?_;unfold lt;rw[xf hk,Xz,xx,xf hk];rfl
def jd2:("mdkbvqhzcgrnapxolsiefwtyju":ao).length<=1000000:=by decide +kernel
def j0u{fu n m:Nat}(hT:T "_law_words"=aa fL_words){c:Int}(h:¬c%4<2)(hm:m<=10):evP fu G T (n+1) "_law_words" [.int c,.int m]=.fresh ((Jx c m).map D.str):=by
 rw[jt (F:=fL_words) hT rfl];simp only[fL_words,Zd,enter];have ll:=jd2;have a:=j0q c;obtain⟨s,hs⟩:∃s:Nat,s=szN c:=⟨_,rfl⟩
 have es:c/4%8=(s:Int):=by rw[hs];unfold szN;omega
 obtain⟨q,hq⟩:∃q:Nat,q=atN c:=⟨_,rfl⟩
 have eq:c/512%((s:Int)+1)=(q:Int):=by rw[hq];unfold atN;have:=Te (c/512) (show((s:Int)+1)≠0 by omega);rw[<-hs];omega
 ext;rw[es,vp (l:=((Zm c s).map λx=>(⟨#[x]⟩:ao)).map D.str) (by rfl) (by rw[Q3];omega) ?_ (.inl rfl)];rotate_left
 .rw[Xz,Z8,Zm,Xe,Xe];refine zj λk hk'=>J1 (by ext) ?_;have hk:=Pq.mp hk';ext;rw[j60 nofun];ext;simp
 rw[Bb (O2 (by rw[zu];omega)),Ri];have lg:(sL (Zm c s)).length=s:=by rw[j4,zu]
 ext;rw[eq,vp (l:=(Jx c m).map D.str) (by rfl) (by rw[Q3];omega) ?_ (.inl rfl)]
 .ext
 .rw[Xz,Z8,Jx,Xe];refine zj λk hk'=>J1 (by ext) ?_;have hk:=Pq.mp hk';ext;rw[j60 nofun];ext;rw[Dj (by rw[zu];omega),Wr (by rw[zu];omega)];have e1:(⟨#[lt ((c/9+7*(0+(k:Int)))%26)]⟩:ao)=sL [lt ((c/9+7*(0+(k:Int)))%26)]:=rfl;have l1:(sL ((Zm c s).take q)).length=q:=by rw[j4,Xk,zu];omega
  have l2:(sL ((Zm c s).drop q)).length=s-q:=by rw[j4,Xo,zu]
  have l3:(sL [lt ((c/9+7*(0+(k:Int)))%26)]).length=1:=rfl;have l4:(sL ((Zm c s).take q)++sL [lt ((c/9+7*(0+(k:Int)))%26)]).length=q+1:=by rw[z6,j4,X6,Xk,zu,xn,T5];omega
  rw[e1];ext;rw[z6,z6];simp only[Function.comp,wrd,h,if_false,<-hs,<-hq,Xg,iv,Int.zero_add]
def j4x{fu n m:Nat}(hT:T "_law_words"=aa fL_words){c:Int}(hm:1<=m/\m<=6):evP fu G T (n+1) "_law_words" [.int c,.int m]=.fresh ((Jx c m).map D.str):=by
 by_cases h:c%4<2
 .rw[jt (F:=fL_words) hT rfl];simp only[fL_words,Zd,enter];have ll:=jd2;ext;rw[vp (l:=((Vk c).map λx=>(⟨#[x]⟩:ao)).map D.str) (by rfl) (by rw[Q3];decide) ?_ (.inl rfl)];rotate_left
  .rw[Z8,Vk,Xe,Xe];refine zj λk hk'=>J1 (by ext) ?_;have hk:=Pq.mp hk';ext;rw[j60 nofun];ext;simp
  rw[Bb (O2 (by rw[Ja];decide)),Ri];have st:=j59 (c:=c) hm.2;obtain⟨s,hs⟩:∃s:Nat,s=stN c m:=⟨_,rfl⟩
  have es:c/8%(9-(m:Int))=(s:Int):=by rw[hs];unfold stN;have:=Te (c/8) (show(9-(m:Int))≠0 by omega);omega
  have lg:(sL (Vk c)).length=8:=by rw[j4,Ja]
  by_cases h0:c%4=0
  .ext;rw[es,vp (l:=(Jx c m).map D.str) (by rfl) (by rw[Q3];omega) ?_ (.inl rfl)]
   .ext
   .rw[Xz,Z8,Jx,Xe];refine zj λk hk'=>J1 (by ext) ?_;have hk:=Pq.mp hk';ext;have e:(s:Int)+(0+(k:Int))+1=((s+k+1:Nat):Int):=by omega
    have hh:wrd c m k=(Vk c).take (stN c m+k+1):=by unfold wrd;rw[if_pos h,if_pos h0]
    rw[e,Dj (by rw[Ja];omega)];simp only[Function.comp,hh,hs]
  .ext;rw[es,vp (l:=(Jx c m).map D.str) (by rfl) (by rw[Q3];omega) ?_ (.inl rfl)]
   .ext
   .rw[Xz,Z8,Jx,Xe];refine zj λk hk'=>J1 (by ext) ?_;have hk:=Pq.mp hk';ext;have e:8-(s:Int)-(0+(k:Int))-1=((8-s-k-1:Nat):Int):=by omega
    have hh:wrd c m k=(Vk c).drop (8-stN c m-k-1):=by unfold wrd;rw[if_pos h,if_neg h0]
    rw[e,Wr (by rw[Ja];omega)];simp only[Function.comp,hh,hs]
 .exact j0u hT h nofun
def jod(m:Nat)(z:Int):∀x∈Jt 2 m z,x=0\/x=1:=by
 intro x hx;obtain⟨i,hi⟩:=List.mem_iff_getElem?.mp hx;have hl:i<m:=by have:=(Xl.mp hi).1;rw[Uy]at this;exact this
 rw[j2g 2 hl]at hi;cases hi;omega
end
end KW
namespace KB
open PySem KV PyProof.Rows
noncomputable def jn:List (List Nat)->List Nat
 |[]=>[]
 |[x]=>x
 |x::r=>x++32::jn r
def Yo(h:r≠[]):jn (x::r)=x++32::jn r:=by
 cases r with
 |nil=>exact absurd rfl h
 |cons y r=>rfl
def Zx:jn (x::y::r)=x++32::jn (y::r):=rfl
def jak:(" ":ao)=sL [32]:=by decide +kernel
def j5g(x:ao):sL x.cps.toList=x:=by cases x;simp[sL]
theorem Ba:∀ls:List (List Nat),eY " " (ls.map sL)=sL (jn ls)
 |[]=>rfl
 |[x]=>rfl
 |x::y::r=>by
  rw[X5,X5,eY,<-X5 (f:=sL),Ba (y::r),jak,z6,z6,Zx]
  .congr 1;simp
  .intro z;cases z
def j4h(ls:List (List Nat)):c9 " " (ls.map sL)=sL (jn ls):=by show dU _ _=_;rw[hJ,Ba]
theorem j4s(c:Nat):∀a b:List Nat,cnt c (a++b)=cnt c a+cnt c b
 |[],b=>by rw[T9,cnt_nil];omega
 |x::a,b=>by rw[Xd,iq,iq,j4s c a b];omega
theorem j2n(c:Nat):∀a:List Nat,0<=cnt c a
 |[]=>by rw[cnt_nil];omega
 |x::a=>by have:=j2n c a;rw[iq];split<;>omega
theorem jde:∀{a:List Nat},cnt c a=0->c∉a
 |[],_=>by simp
 |x::a,h=>by
  rw[iq]at h;have:=j2n c a;split at h
  .omega
  .rename_i z;have:=jde (c:=c) (a:=a) nofun
   simp only[xj,not_or];exact⟨λq=>z q.symm,this⟩
theorem j96:∀ls:List (List Nat),ls≠[]->cnt 32 (jn ls)=(ls.map (cnt 32)).sum+(ls.length:Int)-1
 |[],h=>absurd rfl h
 |[x],_=>by simp[jn]
 |x::y::r,_=>by rw[Zx,j4s,iq,if_pos rfl,j96 (y::r) (by intro z;cases z)];simp only[X5,Tz,xn];omega
theorem j78:∀{l:zo},(∀x∈l,0<=x)->0<=l.sum
 |[],_=>by simp
 |a::l,h=>by rw[Tz];have:=j78 λy hy=>h y (kh _ hy);have:=h a km;omega
theorem jco:∀{l:zo},(∀x∈l,0<=x)->l.sum=0->∀x∈l,x=0
 |[],_,_,_,h=>absurd h (by simp)
 |a::l,h,e,x,hx=>by
  rw[Tz]at e;have h1:=h a km;have h2:0<=l.sum:=by exact j78 λy hy=>h y (kh _ hy)
  rcases xj.mp hx with rfl|hx
  .omega
  .exact jco (λy hy=>h y (kh _ hy)) nofun x hx
def bf(ls:List (List Nat)):Prop:=∀l∈ls,32∉l
theorem j94:∀{a b c d:List Nat},32∉a->32∉c->a++32::b=c++32::d->a=c/\b=d
 |[],b,[],d,_,_,h=>by simpa using h
 |[],b,x::c,d,_,hc,h=>by have:=(eP h).1;exact absurd (xj.mpr (.inl this)) hc
 |x::a,b,[],d,ha,_,h=>by have:=(eP h).1;exact absurd (xj.mpr (.inl this.symm)) ha
 |x::a,b,y::c,d,ha,hc,h=>by obtain⟨h1,h2⟩:=eP h;obtain⟨e1,e2⟩:=j94 (a:=a) (c:=c) (λz=>ha (kh _ z)) (λz=>hc (kh _ z)) h2;exact⟨by rw[h1,e1],e2⟩
theorem j8k:∀{ls ms:List (List Nat)},ls≠[]->ms≠[]->bf ls->bf ms->jn ls=jn ms->ls=ms
 |[],_,h,_,_,_,_=>absurd rfl h
 |_,[],_,h,_,_,_=>absurd rfl h
 |[x],[y],_,_,_,_,h=>by rw[show x=y from h]
 |[x],y::z::r,_,_,h1,_,h=>by rw[Zx]at h;exact absurd (show 32∈x from by rw[show x=_ from h];simp) (h1 x km)
 |x::z::r,[y],_,_,_,h1,h=>by rw[Zx]at h;exact absurd (show 32∈y from by rw[<-show _=y from h];simp) (h1 y km)
 |x::z::r,y::u::s,_,_,h1,h2,h=>by rw[Zx,Zx]at h;obtain⟨e1,e2⟩:=j94 (h1 x km) (h2 y km) h;rw[e1,j8k (by intro q;cases q) (by intro q;cases q) (λl hl=>h1 l (kh _ hl)) (λl hl=>h2 l (kh _ hl)) e2]
def jad(x:ao):∃ls:List (List Nat),aC x " " = ls.map sL/\ls≠[]/\bf ls/\sL (jn ls)=x:=by
 have hl:=split_len x 32;have hj:=gy x " ";rw[show(⟨#[32]⟩:ao) = " " from by decide +kernel]at hl;refine⟨(aC x " ").map λs=>s.cps.toList,?_,?_,?_,?_⟩
 .rw[Xe];exact(gu _).symm.trans (Pa λs _=>(j5g s).symm)
 .intro h;have:=split_pos x " ";rw[List.map_eq_nil_iff.mp h]at this;exact absurd this (by decide)
 .have e:sL (jn ((aC x " ").map λs=>s.cps.toList))=x:=by rw[<-Ba,Xe];rw[show(aC x " ").map (sL ∘ λs=>s.cps.toList)=aC x " " from(Pa λs _=>j5g s).trans (gu _)];exact hj
  have hne:(aC x " ").map (λs=>s.cps.toList)≠[]:=by intro h;have:=split_pos x " ";rw[List.map_eq_nil_iff.mp h]at this;exact absurd this (by decide)
  have hc:=j96 _ hne;have e2:x.cps.toList=jn ((aC x " ").map λs=>s.cps.toList):=by rw[<-e,J5,e]
  rw[<-e2,xm]at hc;have h0:(((aC x " ").map λs=>s.cps.toList).map (cnt 32)).sum=0:=by omega
  intro l hl';exact jde (jco (λy hy=>by obtain⟨z,_,rfl⟩:=Xm.mp hy;exact j2n _ _) h0 _ (Xm.mpr ⟨l,hl',rfl⟩))
 .rw[<-Ba,Xe];rw[show(aC x " ").map (sL ∘ λs=>s.cps.toList)=aC x " " from(Pa λs _=>j5g s).trans (gu _)];exact hj
def jac(h:ls≠[])(hb:bf ls):aC (sL (jn ls)) " " = ls.map sL:=by obtain⟨ms,e,hm,hb2,ej⟩:=jad (sL (jn ls));rw[e,j8k hm h hb2 hb (Qw ej)]
theorem O4:∀{ls ms:List (List Nat)},ls≠[]->ms≠[]->jn (ls++ms)=jn ls++32::jn ms
 |[],_,h,_=>absurd rfl h
 |[x],ms,_,h=>by rw[iv,Yo h];rfl
 |x::y::r,ms,_,h=>by rw[Xd,Xd,Zx,<-Xd,O4 (by intro q;cases q) h,Zx];simp
theorem j4i{α:Type}{f:α->List (List Nat)}:∀{as:List α},(∀a∈as,f a≠[])->jn (as.map λa=>jn (f a))=jn (as.flatMap f)
 |[],_=>rfl
 |[a],_=>by simp[jn]
 |a::b::r,h=>by
  have hb:(b::r).flatMap f≠[]:=by rw[Tu];intro z;exact h b (kh _ km) (List.append_eq_nil_iff.mp z).1
  rw[X5,Yo (by simp),j4i (as:=b::r) λx hx=>h x (kh _ hx),Tu (x:=a),O4 (h a km) hb]
end KB
section
namespace L2
noncomputable abbrev Ex.n(i:Int):Ex:=.lit (.int i)
noncomputable abbrev Ex.t(s:ao):Ex:=.lit (.str s)
noncomputable abbrev Ex.v(i:Nat):Ex:=.var i
noncomputable abbrev Ex.l(a:Ex):Ex:=.cons a .nil
noncomputable abbrev Ex.ad(a b:Ex):Ex:=.bin .add a b
noncomputable abbrev Ex.sb(a b:Ex):Ex:=.bin .sub a b
noncomputable abbrev Ex.ml(a b:Ex):Ex:=.bin .mul a b
noncomputable abbrev Ex.fd(a b:Ex):Ex:=.bin .fdiv a b
noncomputable abbrev Ex.md(a b:Ex):Ex:=.bin .mod a b
noncomputable abbrev Ex.q(a b:Ex):Ex:=.cmp .eq a b
noncomputable abbrev Sx.o(a:Sx):Sx:=.seq a .nop
end L2
namespace K15
open PySem PySem.Spec PyProof.Rows L2
noncomputable def top(i:Nat):aU:=PySem.Challenge.pw_leastasks_k15_texts_refused.main.body.getD i (.Pass ⟨0,0,0,0⟩)
noncomputable def Yj:Sx:=(.o (.ret (.and (.cmp .ge (.blt .len (.l (.v 0))) (.n 1)) (.and (.cmp .le (.blt .len (.l (.v 0))) (.glob "LONGEST_WORD")) (.call "is_made_of" (.cons (.v 0) (.l (.glob "LETTERS"))))))))
noncomputable def Rr:Fi:=⟨1,1,Yj,ae⟩
noncomputable def Q0:Sx:=(.o (.ret (.blt .all (.l (.comp [2] (.cmp .isin (.v 2) (.v 1)) (.seq (.v 0)) .nil)))))
noncomputable def Jy:Fi:=⟨2,3,Q0,ae⟩
noncomputable def Yi:Sx:=(.seq (.expr (.call "refuse_wrong_size" (.l (.v 0)))) (.o (.ret (.call "all_choices" (.l (.ml (.lst (.l (.glob "ANSWERS"))) (.v 0)))))))
noncomputable def Rq:Fi:=⟨1,1,Yi,ae⟩
noncomputable def Y4:Sx:=(.o (.ret (.call "number_of" (.cons (.v 0) (.l (.blt .len (.l (.glob "ANSWERS"))))))))
noncomputable def j07:Fi:=⟨1,1,Y4,ae⟩
noncomputable def J7:Sx:=(.o (.ife (.or (.cmp .lt (.v 0) (.glob "FEWEST_PLACES")) (.cmp .gt (.v 0) (.glob "MOST_PLACES"))) (.o (.raise "WrongSize" (.fst (.cons (.t "there are ") (.cons (.glob "FEWEST_PLACES") (.cons (.t " to ") (.cons (.glob "MOST_PLACES") (.cons (.t " places, not ") (.l (.v 0)))))))))) .nop))
noncomputable def Js:Fi:=⟨1,1,J7,ae⟩
noncomputable def J8:Sx:=(.seq (.set 1 (.lst (.l (.tup .nil)))) (.seq (.loop [2] (.seq (.v 0)) (.seq (.set 3 (.lst .nil)) (.seq (.loop [4] (.seq (.v 1)) (.o (.ext 3 (.comp [5] (.ad (.v 4) (.tup (.l (.v 5)))) (.seq (.v 2)) .nil)))) (.o (.mov 1 3))))) (.o (.retV 1))))
noncomputable def fP_all_choices:Fi:=⟨1,6,J8,ae⟩
noncomputable def Ua:Sx:=(.seq (.set 2 (.n 0)) (.seq (.loop [3] (.seq (.v 0)) (.o (.set 2 (.ad (.ml (.v 2) (.v 1)) (.v 3))))) (.o (.retV 2))))
noncomputable def j2b:Fi:=⟨2,4,Ua,ae⟩
noncomputable def vy:Sx:=(.seq (.expr (.call "refuse_wrong_size" (.l (.blt .len (.l (.v 0)))))) (.seq (.set 1 (.lst .nil)) (.o (.loop [2] (.seq (.v 0)) (.seq (.ife (.not (.call "is_word" (.l (.v 2)))) (.o (.raise "NoWord" (.fst (.cons (.rpr (.v 2)) (.l (.t " is no word of one to eight small letters")))))) .nop) (.seq (.ife (.cmp .isin (.v 2) (.v 1)) (.o (.raise "Twice" (.fst (.cons (.t "the place ") (.cons (.rpr (.v 2)) (.l (.t " stands twice"))))))) .nop) (.o (.app 1 (.v 2)))))))))
noncomputable def Jj:Fi:=⟨1,3,vy,ae⟩
noncomputable def Zc:Sx:=(.o (.ret (.ad (.call "row_number" (.l (.ml (.tup (.l (.n 1))) (.v 0)))) (.n 1))))
noncomputable def Ny:Fi:=⟨1,1,Zc,ae⟩
noncomputable def zx:Sx:=(.seq (.expr (.call "refuse_wrong_places" (.l (.v 1)))) (.seq (.set 2 (.call "form_of" (.l (.v 0)))) (.seq (.ife (.not (.call "keeps_to" (.cons (.v 2) (.l (.v 1))))) (.o (.raise "NoPlace" (.t "the text has a word that is none of the places"))) .nop) (.seq (.set 3 (.comp [4] (.call "said_by" (.cons (.v 2) (.l (.dzip (.v 1) (.v 4))))) (.seq (.call "rows_of" (.l (.blt .len (.l (.v 1)))))) .nil)) (.o (.ret (.tup (.cons (.blt .tuple (.l (.v 1))) (.l (.blt .tuple (.l (.v 3))))))))))))
noncomputable def z9:Fi:=⟨2,5,zx,ae⟩
noncomputable def Yk:Sx:=(.newP 1 (.v 0) (.callS 2 "form_taken" (.l (.n 0)) (.ifAll "NoText" (.t "something stands behind the form") (.ret (.v 2)))))
noncomputable def Ru:Fi:=⟨1,3,Yk,ae⟩
noncomputable def Y6:Sx:=(.px (.take 2 (.ifCal (.cmp .eq (.var 2) (.lit (.str "("))) "bracketed_taken" (.cons (.bin .add (.var 1) (.lit (.int 1))) .nil) (.ifRai (.not (.call "is_word" (.cons (.var 2) .nil))) "NoText" (.fst (.cons (.rpr (.var 2)) (.cons (.lit (.str " stands where a form is wanted")) .nil))) (.ret (.tup (.cons (.glob "PLACE") (.cons (.var 2) (.cons (.tup .nil) .nil)))))))))
noncomputable def Jz:Fi:=⟨3,4,Y6,ae⟩
noncomputable def Qj:Sx:=(.px (.ifRai (.cmp .gt (.var 1) (.glob "MOST_BRACKETS")) "NoText" (.fst (.cons (.lit (.str "more than ")) (.cons (.glob "MOST_BRACKETS") (.cons (.lit (.str " brackets stand unclosed at once")) .nil)))) (.take 2 (.ifRai (.cmp .notin (.var 2) (.glob "KINDS")) "NoText" (.fst (.cons (.rpr (.var 2)) (.cons (.lit (.str " is no kind")) .nil))) (.takeIf 3 (.call "wants_own" (.cons (.var 2) .nil)) (.lit (.str "")) (.set 4 (.lst .nil) (.whlA ")" (.appC 4 "form_taken" (.cons (.var 1) .nil) .nop) (.takeE (.ifRai (.or (.not (.call "takes_count" (.cons (.var 2) (.cons (.blt .len (.cons (.var 4) .nil)) .nil)))) (.not (.call "takes_own" (.cons (.var 2) (.cons (.var 3) (.cons (.blt .len (.cons (.var 4) .nil)) .nil)))))) "NoText" (.fst (.cons (.rpr (.var 2)) (.cons (.lit (.str " has not what it wants")) .nil))) (.ret (.tup (.cons (.var 2) (.cons (.var 3) (.cons (.blt .tuple (.cons (.var 4) .nil)) .nil))))))))))))))
noncomputable def vz:Fi:=⟨3,6,Qj,ae⟩
noncomputable def U9:Sx:=(.o (.ret (.or (.q (.v 0) (.t "table")) (.cmp .isin (.v 0) (.glob "COUNTING_KINDS")))))
noncomputable def j2a:Fi:=⟨1,1,U9,ae⟩
noncomputable def Qq:Sx:=(.seq (.ife (.q (.v 0) (.t "not")) (.o (.ret (.q (.v 1) (.n 1)))) .nop) (.seq (.ife (.q (.v 0) (.t "table")) (.o (.ret (.and (.cmp .ge (.v 1) (.n 1)) (.cmp .le (.v 1) (.glob "MOST_TABLE_FORMS"))))) .nop) (.seq (.ife (.cmp .isin (.v 0) (.glob "TYING_KINDS")) (.o (.ret (.q (.v 1) (.blt .len (.l (.glob "TIES")))))) .nop) (.o (.ret (.cmp .ge (.v 1) (.n 1)))))))
noncomputable def Ve:Fi:=⟨2,2,Qq,ae⟩
noncomputable def V4:Sx:=(.seq (.ife (.q (.v 0) (.t "table")) (.o (.ret (.and (.q (.blt .len (.l (.v 1))) (.call "count_of_rows" (.l (.v 2)))) (.call "is_made_of" (.cons (.v 1) (.l (.t "01"))))))) .nop) (.seq (.ife (.cmp .isin (.v 0) (.glob "COUNTING_KINDS")) (.o (.ret (.call "is_number" (.l (.v 1))))) .nop) (.o (.ret (.lit (.bl af))))))
noncomputable def U4:Fi:=⟨3,3,V4,ae⟩
noncomputable def V6:Sx:=(.seq (.ife (.not (.call "is_made_of" (.cons (.v 0) (.l (.t "0123456789"))))) (.o (.ret (.lit (.bl ae)))) .nop) (.o (.ret (.or (.q (.blt .len (.l (.v 0))) (.n 1)) (.and (.q (.blt .len (.l (.v 0))) (.n 2)) (.cmp .ne (.ix (.v 0) (.n 0)) (.t "0")))))))
noncomputable def U5:Fi:=⟨1,1,V6,ae⟩
noncomputable def Z2:Sx:=(.seq (.ife (.q (.ix (.v 0) (.n 0)) (.glob "PLACE")) (.o (.ret (.cmp .isin (.ix (.v 0) (.n 1)) (.v 1)))) .nop) (.o (.ret (.blt .all (.l (.comp [2] (.call "keeps_to" (.cons (.v 2) (.l (.v 1)))) (.seq (.ix (.v 0) (.n 2))) .nil))))))
noncomputable def Z1:Fi:=⟨2,3,Z2,ae⟩
noncomputable def V5:Sx:=(.seq (.ife (.q (.ix (.v 0) (.n 0)) (.glob "PLACE")) (.o (.ret (.dix (.v 1) (.ix (.v 0) (.n 1))))) .nop) (.seq (.set 2 (.comp [3] (.call "said_by" (.cons (.v 3) (.l (.v 1)))) (.seq (.ix (.v 0) (.n 2))) .nil)) (.o (.ret (.ite (.call "says_yes" (.cons (.ix (.v 0) (.n 0)) (.cons (.ix (.v 0) (.n 1)) (.l (.v 2))))) (.n 1) (.n 0))))))
noncomputable def Zz:Fi:=⟨2,4,V5,ae⟩
noncomputable def Vm:Sx:=(.seq (.ife (.q (.v 0) (.t "not")) (.o (.ret (.q (.ix (.v 2) (.n 0)) (.n 0)))) .nop) (.seq (.ife (.q (.v 0) (.t "all")) (.o (.ret (.q (.blt .sum (.l (.v 2))) (.blt .len (.l (.v 2)))))) .nop) (.seq (.ife (.q (.v 0) (.t "any")) (.o (.ret (.cmp .ge (.blt .sum (.l (.v 2))) (.n 1)))) .nop) (.seq (.ife (.q (.v 0) (.t "odd")) (.o (.ret (.q (.md (.blt .sum (.l (.v 2))) (.n 2)) (.n 1)))) .nop) (.seq (.ife (.q (.v 0) (.t "least")) (.o (.ret (.cmp .ge (.blt .sum (.l (.v 2))) (.blt .int (.l (.v 1)))))) .nop) (.seq (.ife (.q (.v 0) (.t "just")) (.o (.ret (.q (.blt .sum (.l (.v 2))) (.blt .int (.l (.v 1)))))) .nop) (.seq (.ife (.q (.v 0) (.t "table")) (.o (.ret (.q (.ix (.v 1) (.call "row_number" (.l (.v 2)))) (.t "1")))) .nop) (.seq (.ife (.q (.v 0) (.t "ring")) (.o (.ret (.call "has_ring" (.l (.v 2))))) .nop) (.o (.ret (.q (.call "count_of_clusters" (.l (.v 2))) (.n 1))))))))))))
noncomputable def Uv:Fi:=⟨3,3,Vm,ae⟩
noncomputable def W0:Sx:=(.o (.ret (.cmp .gt (.blt .sum (.l (.v 0))) (.sb (.blt .len (.l (.glob "TIED_SPOTS"))) (.call "count_of_clusters" (.l (.v 0)))))))
noncomputable def j3h:Fi:=⟨1,1,W0,ae⟩
noncomputable def Jv:Sx:=(.seq (.set 1 (.blt .list (.l (.glob "TIED_SPOTS")))) (.seq (.loop [2,3] (.zip (.glob "TIES") (.v 0)) (.o (.ife (.q (.v 3) (.n 1)) (.o (.set 1 (.call "marks_tied" (.cons (.v 1) (.cons (.ix (.v 1) (.ix (.v 2) (.n 0))) (.l (.ix (.v 1) (.ix (.v 2) (.n 1))))))))) .nop))) (.o (.ret (.lset (.v 1))))))
noncomputable def Rv:Fi:=⟨1,4,Jv,ae⟩
noncomputable def Y5:Sx:=(.o (.ret (.comp [3] (.ite (.q (.v 3) (.v 2)) (.v 1) (.v 3)) (.seq (.v 0)) .nil)))
noncomputable def j08:Fi:=⟨3,4,Y5,ae⟩
noncomputable def Yr:Sx:=(.seq (.ife (.cmp .lt (.v 1) (.blt .len (.l (.v 0)))) (.o (.ret (.ix (.v 0) (.v 1)))) .nop) (.seq (.set 2 (.ad (.n 70001) (.ml (.ml (.n 911) (.v 1)) (.v 1)))) (.seq (.ife (.cmp .gt (.blt .len (.l (.v 0))) (.n 0)) (.o (.set 2 (.ad (.v 2) (.ml (.md (.ix (.v 0) (.n 0)) (.n 9973)) (.ad (.ml (.n 3) (.v 1)) (.n 1)))))) .nop) (.o (.retV 2)))))
noncomputable def fL_cell:Fi:=⟨2,3,Yr,ae⟩
noncomputable def Zd:Sx:=(.seq (.set 2 (.t "mdkbvqhzcgrnapxolsiefwtyju")) (.seq (.ife (.cmp .lt (.md (.v 0) (.n 4)) (.n 2)) (.seq (.set 3 (.join "" (.comp [4] (.ix (.v 2) (.md (.fd (.v 0) (.ad (.n 4) (.ml (.n 5) (.v 4)))) (.n 26))) (.range (.l (.n 8))) .nil))) (.seq (.set 5 (.md (.fd (.v 0) (.n 8)) (.sb (.n 9) (.v 1)))) (.seq (.ife (.q (.md (.v 0) (.n 4)) (.n 0)) (.o (.ret (.comp [4] (.sl (.v 3) .nil (.l (.ad (.ad (.v 5) (.v 4)) (.n 1)))) (.range (.l (.v 1))) .nil))) .nop) (.o (.ret (.comp [4] (.sl (.v 3) (.l (.sb (.sb (.sb (.n 8) (.v 5)) (.v 4)) (.n 1))) .nil) (.range (.l (.v 1))) .nil)))))) .nop) (.seq (.set 6 (.md (.fd (.v 0) (.n 4)) (.n 8))) (.seq (.set 7 (.join "" (.comp [4] (.ix (.v 2) (.md (.ad (.ad (.fd (.v 0) (.n 32)) (.ml (.ml (.n 3) (.v 4)) (.v 4))) (.v 4)) (.n 26))) (.range (.l (.v 6))) .nil))) (.seq (.set 8 (.md (.fd (.v 0) (.n 512)) (.ad (.v 6) (.n 1)))) (.o (.ret (.comp [4] (.ad (.ad (.sl (.v 7) .nil (.l (.v 8))) (.ix (.v 2) (.md (.ad (.fd (.v 0) (.n 9)) (.ml (.n 7) (.v 4))) (.n 26)))) (.sl (.v 7) (.l (.v 8)) .nil)) (.range (.l (.v 1))) .nil))))))))
noncomputable def fL_words:Fi:=⟨2,9,Zd,ae⟩
noncomputable def Ub:Sx:=(.seq (.set 1 (.lst .nil)) (.seq (.ife (.isx 0 ["NoAsk","NoPlan","Unlike","WrongAnswers","WrongPrices","WrongWeights"]) (.o (.app 1 (.t "one of the others"))) .nop) (.seq (.ife (.isx 0 ["NoPlace"]) (.o (.app 1 (.t "NoPlace"))) .nop) (.seq (.ife (.isx 0 ["NoText"]) (.o (.app 1 (.t "NoText"))) .nop) (.seq (.ife (.isx 0 ["NoWord"]) (.o (.app 1 (.t "NoWord"))) .nop) (.seq (.ife (.isx 0 ["Twice"]) (.o (.app 1 (.t "Twice"))) .nop) (.seq (.ife (.isx 0 ["WrongSize"]) (.o (.app 1 (.t "WrongSize"))) .nop) (.seq (.ife (.not (.isx 0 ["ValueError"])) (.o (.app 1 (.t "no ValueError"))) .nop) (.o (.retV 1))))))))))
noncomputable def j2c:Fi:=⟨1,2,Ub,ae⟩
noncomputable def M4:Sx:=(.o (.ret (.fd (.md (.ml (.ad (.md (.v 0) (.n 2147483647)) (.n 11)) (.ad (.ad (.n 48271) (.ml (.n 614) (.v 1))) (.ml (.ml (.n 2) (.v 1)) (.v 1)))) (.n 2147483647)) (.n 8))))
noncomputable def Nz:Fi:=⟨2,2,M4,ae⟩
noncomputable def fmB:Sx:=(.seq (.set 9 (.fd (.sb (.v 1) (.n 1)) (.n 3))) (.seq (.ife (.q (.v 8) (.v 6)) (.o (.set 9 (.sb (.v 1) (.n 1)))) .nop) (.o (.app 7 (.call "_law_form" (.cons (.call "_law_mixed" (.cons (.v 0) (.l (.ad (.v 8) (.v 1))))) (.cons (.v 9) (.cons (.and (.v 2) (.q (.v 8) (.v 6))) (.l (.v 3))))))))))
noncomputable def fmR:Sx:=(.seq (.set 10 (.ix (.lst (.cons (.md (.fd (.v 0) (.n 810)) (.ad (.v 5) (.n 3))) (.l (.md (.fd (.v 0) (.n 810)) (.n 100))))) (.blt .int (.l (.q (.md (.fd (.v 0) (.n 7)) (.n 8)) (.n 3)))))) (.seq (.keep 10) (.seq (.ife (.q (.v 4) (.t "table")) (.seq (.fgt 8) (.seq (.set 10 (.comp [8] (.md (.call "_law_mixed" (.cons (.v 0) (.l (.ad (.n 20) (.v 8))))) (.n 2)) (.range (.l (.bin .shl (.n 1) (.v 5)))) .nil)) (.o (.keep 10)))) .nop) (.seq (.keep 7) (.o (.ret (.lst (.cons (.v 4) (.cons (.v 10) (.l (.v 7)))))))))))
noncomputable def fmI:Sx:=(.ife (.or (.q (.v 1) (.n 0)) (.and (.q (.md (.v 0) (.n 5)) (.n 0)) (.not (.v 2)))) (.o (.ret (.lst (.cons (.t "place") (.cons (.md (.fd (.v 0) (.n 5)) (.v 3)) (.l (.lst .nil))))))) .nop)
noncomputable def fmS:Sx:=(.seq (.set 4 (.ix (.lst (.cons (.t "not") (.cons (.t "all") (.cons (.t "any") (.cons (.t "odd") (.cons (.t "least") (.cons (.t "just") (.cons (.t "table") (.cons (.t "ring") (.l (.t "joined"))))))))))) (.md (.fd (.v 0) (.n 5)) (.n 9)))) (.seq (.set 5 (.ad (.n 1) (.md (.fd (.v 0) (.n 45)) (.n 3)))) (.seq (.ife (.q (.v 4) (.t "not")) (.o (.set 5 (.n 1))) .nop) (.seq (.ife (.or (.q (.v 4) (.t "ring")) (.q (.v 4) (.t "joined"))) (.o (.set 5 (.n 6))) .nop) (.seq (.set 6 (.md (.fd (.v 0) (.n 135)) (.v 5))) (.seq (.set 7 (.lst .nil)) (.seq (.loop [8] (.range (.l (.v 5))) fmB) fmR)))))))
noncomputable def Bo:Sx:=(.seq fmI fmS)
noncomputable def Bc:Fi:=⟨4,11,Bo,ae⟩
noncomputable def Vg:Sx:=(.seq (.unp3 2 3 4 (.v 0)) (.seq (.ife (.q (.v 2) (.t "place")) (.o (.ret (.ix (.v 1) (.v 3)))) .nop) (.seq (.set 5 (.lst (.cons (.t "(") (.l (.v 2))))) (.seq (.ife (.or (.q (.v 2) (.t "least")) (.q (.v 2) (.t "just"))) (.o (.app 5 (.sti (.v 3)))) .nop) (.seq (.ife (.q (.v 2) (.t "table")) (.seq (.fgt 6) (.o (.app 5 (.join "" (.comp [6] (.sti (.v 6)) (.seq (.v 3)) .nil))))) .nop) (.seq (.loop [6] (.seq (.v 4)) (.o (.app 5 (.call "_law_text" (.cons (.v 6) (.l (.v 1))))))) (.o (.ret (.ad (.join " " (.v 5)) (.t " )"))))))))))
noncomputable def Qo:Fi:=⟨2,7,Vg,ae⟩
noncomputable def Vn:Sx:=(.seq (.set 2 (.t "mdkbvqhzcgrnapxolsiefwtyju")) (.seq (.set 3 (.ix (.v 0) (.md (.v 1) (.blt .len (.l (.v 0)))))) (.seq (.set 4 (.ix (.v 2) (.md (.fd (.v 1) (.n 64)) (.n 26)))) (.seq (.set 5 (.ad (.lst (.cons (.ad (.v 3) (.v 4)) (.cons (.ad (.v 4) (.v 3)) (.cons (.sl (.v 3) (.l (.n 1)) .nil) (.cons (.sl (.v 3) .nil (.l (.neg (.n 1)))) (.l (.ad (.sl (.v 3) .nil (.l (.neg (.n 1)))) (.v 4)))))))) (.comp [6] (.v 6) (.seq (.v 2)) .nil))) (.seq (.set 5 (.comp [7] (.v 7) (.seq (.v 5)) (.l (.and (.chn (.n 0) (.blt .len (.l (.v 7))) (.n 9)) (.cmp .notin (.v 7) (.v 0)))))) (.o (.ret (.ix (.v 5) (.md (.fd (.v 1) (.n 8)) (.blt .min (.cons (.n 6) (.l (.blt .len (.l (.v 5)))))))))))))))
noncomputable def Uw:Fi:=⟨2,8,Vn,ae⟩
noncomputable def V7:Sx:=(.seq (.set 2 (.lst .nil)) (.seq (.tryK (.o (.expr (.call "question_read" (.cons (.v 0) (.l (.v 1)))))) 2 3) (.o (.retV 2))))
noncomputable def V1:Fi:=⟨2,4,V7,ae⟩
noncomputable def Ur:Sx:=(.seq (.set 3 (.lst (.cons (.t "( some X )") (.cons (.t "( NOT X )") (.cons (.t "( nots X )") (.cons (.t "( place X )") (.cons (.t "( )") (.cons (.t "( not X Y )") (.cons (.t "( not )") (.l (.t "( all )"))))))))))) (.seq (.set 3 (.ad (.v 3) (.lst (.l (.t "( any )"))))) (.seq (.set 3 (.ad (.v 3) (.lst (.cons (.t "( odd )") (.cons (.t "( least 2 )") (.cons (.t "( just 0 )") (.cons (.t "( least 02 X )") (.cons (.t "( just 100 X )") (.l (.t "( least X Y )")))))))))) (.seq (.set 3 (.ad (.v 3) (.lst (.cons (.t "( just -1 X )") (.cons (.t "( least 1a X )") (.cons (.t "( table 011 X Y )") (.cons (.t "( table 0102 X Y )") (.l (.t "( table 01 )"))))))))) (.seq (.set 3 (.ad (.v 3) (.lst (.cons (.t "( table X Y )") (.cons (.t "( table 01 X Y )") (.cons (.t "( table TEN X Y X Y X )") (.cons (.t "( ring X Y X Y X )") (.l (.t "(all X Y )"))))))))) (.seq (.set 3 (.ad (.v 3) (.lst (.cons (.t "( joined X Y X Y X Y X )") (.cons (.t "X1") (.cons (.t "Xabcdefghi") (.cons (.t "A") (.cons (.t "(") (.cons (.t ")") (.l (.t "( all X Y))"))))))))))) (.seq (.set 4 (.rep (.rep (.ix (.v 3) (.md (.v 0) (.n 32))) (.t "X") (.v 1)) (.t "Y") (.v 2))) (.o (.ret (.rep (.v 4) (.t "TEN") (.ml (.t "10") (.n 16))))))))))))
noncomputable def O8:Fi:=⟨3,5,Ur,ae⟩
noncomputable def Q9:Sx:=(.seq (.set 2 (.spl (.v 1))) (.seq (.set 3 (.md (.fd (.v 0) (.n 8)) (.blt .len (.l (.v 2))))) (.seq (.ife (.q (.md (.v 0) (.n 8)) (.n 0)) (.o (.ret (.join " " (.sl (.v 2) .nil (.l (.neg (.n 1))))))) .nop) (.seq (.ife (.q (.md (.v 0) (.n 8)) (.n 1)) (.o (.ret (.ad (.v 1) (.t " )")))) .nop) (.seq (.ife (.q (.md (.v 0) (.n 8)) (.n 2)) (.o (.ret (.ad (.ad (.v 1) (.t " ")) (.ix (.v 2) (.v 3))))) .nop) (.seq (.ife (.q (.md (.v 0) (.n 8)) (.n 3)) (.o (.ret (.ad (.ad (.join " " (.sl (.v 2) .nil (.l (.v 3)))) (.t " ")) (.join " " (.ad (.lst (.l (.t ""))) (.sl (.v 2) (.l (.v 3)) .nil)))))) .nop) (.seq (.ife (.q (.md (.v 0) (.n 8)) (.n 4)) (.o (.ret (.ix (.lst (.cons (.ad (.v 1) (.t " ")) (.l (.ad (.t " ") (.v 1))))) (.md (.fd (.v 0) (.n 8)) (.n 2))))) .nop) (.seq (.ife (.q (.md (.v 0) (.n 8)) (.n 5)) (.o (.ret (.t ""))) .nop) (.seq (.ife (.q (.md (.v 0) (.n 8)) (.n 6)) (.o (.ret (.ad (.ad (.ml (.t "( not ") (.n 9)) (.t "X")) (.ml (.t " )") (.n 9))))) .nop) (.o (.ret (.ad (.sl (.v 1) .nil (.l (.neg (.n 1)))) (.t " )")))))))))))))
noncomputable def V0:Fi:=⟨2,4,Q9,ae⟩
noncomputable def Vy:Sx:=(.seq (.ife (.q (.md (.v 0) (.n 3)) (.n 0)) (.o (.ret (.ad (.ad (.ad (.ad (.t "( any ") (.v 1)) (.t " ")) (.v 2)) (.t " )")))) .nop) (.seq (.ife (.q (.md (.v 0) (.n 3)) (.n 1)) (.o (.ret (.ad (.ad (.ad (.ad (.t "( odd ") (.v 2)) (.t " ")) (.v 1)) (.t " )")))) .nop) (.o (.ret (.ad (.ad (.ad (.ad (.ad (.ad (.t "( least 1 ") (.v 1)) (.t " ( not ")) (.v 1)) (.t " ) ")) (.v 2)) (.t " )"))))))
noncomputable def Vv:Fi:=⟨3,3,Vy,ae⟩
noncomputable def Z7:Sx:=(.seq (.set 2 (.md (.fd (.v 1) (.n 4)) (.blt .len (.l (.v 0))))) (.seq (.ife (.q (.md (.v 1) (.n 4)) (.n 0)) (.o (.ret (.lst (.cons (.lst .nil) (.l (.t "WrongSize")))))) .nop) (.seq (.ife (.q (.md (.v 1) (.n 4)) (.n 1)) (.o (.ret (.lst (.cons (.ad (.v 0) (.call "_law_words" (.cons (.ad (.ml (.n 4) (.md (.fd (.v 1) (.n 4)) (.bin .pow (.n 10) (.n 9)))) (.n 2)) (.l (.sb (.n 7) (.blt .len (.l (.v 0)))))))) (.l (.t "WrongSize")))))) .nop) (.seq (.ife (.q (.md (.v 1) (.n 4)) (.n 2)) (.seq (.set 3 (.ix (.lst (.cons (.t "") (.cons (.t "A") (.l (.ad (.ix (.v 0) (.v 2)) (.t ".")))))) (.md (.fd (.v 1) (.n 64)) (.n 3)))) (.o (.ret (.lst (.cons (.ad (.ad (.sl (.v 0) .nil (.l (.v 2))) (.lst (.l (.v 3)))) (.sl (.v 0) (.l (.ad (.v 2) (.n 1))) .nil)) (.l (.t "NoWord"))))))) .nop) (.seq (.ife (.q (.blt .len (.l (.v 0))) (.n 6)) (.seq (.set 4 (.ix (.v 0) (.md (.ad (.ad (.v 2) (.n 1)) (.md (.fd (.v 1) (.n 64)) (.n 5))) (.n 6)))) (.o (.ret (.lst (.cons (.ad (.ad (.sl (.v 0) .nil (.l (.v 2))) (.lst (.l (.v 4)))) (.sl (.v 0) (.l (.ad (.v 2) (.n 1))) .nil)) (.l (.t "Twice"))))))) .nop) (.seq (.set 4 (.ix (.v 0) (.md (.fd (.v 1) (.n 64)) (.blt .len (.l (.v 0)))))) (.o (.ret (.lst (.cons (.ad (.ad (.sl (.v 0) .nil (.l (.v 2))) (.lst (.l (.v 4)))) (.sl (.v 0) (.l (.v 2)) .nil)) (.l (.t "Twice"))))))))))))
noncomputable def Y0:Fi:=⟨2,5,Z7,ae⟩
noncomputable def Bm:Sx:=(.seq (.set 3 (.ix (.v 2) (.md (.fd (.v 0) (.n 3)) (.blt .len (.l (.v 2)))))) (.seq (.set 4 (.call "_law_stranger" (.cons (.v 2) (.l (.fd (.v 0) (.n 5)))))) (.seq (.ife (.q (.md (.v 0) (.n 4)) (.n 0)) (.o (.ret (.lst (.cons (.call "_law_beside" (.cons (.fd (.v 0) (.n 4)) (.cons (.v 1) (.l (.call "_law_faulty" (.cons (.fd (.v 0) (.n 12)) (.cons (.v 3) (.l (.ix (.v 2) (.n 0)))))))))) (.l (.t "NoText")))))) .nop) (.seq (.ife (.q (.md (.v 0) (.n 4)) (.n 1)) (.o (.ret (.lst (.cons (.rep (.call "_law_whole_faulty" (.cons (.fd (.v 0) (.n 4)) (.l (.ad (.ad (.t "( all ") (.v 1)) (.t " )"))))) (.t "X") (.v 3)) (.l (.t "NoText")))))) .nop) (.seq (.ife (.q (.md (.v 0) (.n 4)) (.n 2)) (.o (.ret (.lst (.cons (.call "_law_beside" (.cons (.fd (.v 0) (.n 4)) (.cons (.v 1) (.l (.v 4))))) (.l (.t "NoPlace")))))) .nop) (.o (.ret (.lst (.cons (.call "_law_beside" (.cons (.fd (.v 0) (.n 4)) (.cons (.v 1) (.l (.call "_law_faulty" (.cons (.fd (.v 0) (.n 12)) (.cons (.v 4) (.l (.v 3))))))))) (.l (.t "NoText")))))))))))
noncomputable def Ku:Fi:=⟨3,5,Bm,ae⟩
noncomputable def lpB:Sx:=(.seq (.unp 5 6 (.call "_law_told" (.cons (.v 3) (.cons (.v 4) (.l (.v 2)))))) (.pick 5 (.seq (.set 7 (.blt .list (.l (.v 2)))) (.seq (.keep 7) (.seq (.ife (.or (.cmp .ne (.call "_law_refused" (.cons (.v 5) (.l (.v 7)))) (.lst (.l (.v 6)))) (.cmp .ne (.v 7) (.v 2))) (.o (.ret (.lit (.bl ae)))) .nop) (.seq (.unp 8 9 (.call "_law_bad_places" (.cons (.v 2) (.l (.fd (.v 3) (.n 16)))))) (.seq (.ife (.cmp .ne (.call "_law_refused" (.cons (.v 5) (.l (.v 8)))) (.lst (.l (.v 9)))) (.o (.ret (.lit (.bl ae)))) .nop) (.o (.fgt 5)))))))))
noncomputable def j6k:Sx:=(.seq (.set 1 (.ad (.n 1) (.md (.call "_law_cell" (.cons (.v 0) (.l (.n 0)))) (.n 6)))) (.seq (.set 2 (.call "_law_words" (.cons (.call "_law_cell" (.cons (.v 0) (.l (.n 1)))) (.l (.v 1))))) (.seq (.keep 2) (.seq (.set 3 (.call "_law_cell" (.cons (.v 0) (.l (.n 2))))) (.seq (.set 4 (.call "_law_text" (.cons (.call "_law_form" (.cons (.fd (.v 3) (.n 4)) (.cons (.md (.v 3) (.n 4)) (.cons (.lit (.bl ae)) (.l (.v 1)))))) (.l (.v 2))))) (.seq (.loop [3] (.seq (.ad (.lst (.l (.call "_law_cell" (.cons (.v 0) (.l (.n 3)))))) (.sl (.v 0) (.l (.n 4)) (.l (.n 12))))) lpB) (.seq (.set 10 (.ad (.ad (.ml (.t "( not ") (.n 8)) (.ix (.v 2) (.neg (.n 1)))) (.ml (.t " )") (.n 8)))) (.seq (.ife (.or (.cmp .ne (.call "_law_refused" (.cons (.v 4) (.l (.blt .list (.l (.v 2)))))) (.lst .nil)) (.cmp .ne (.call "_law_refused" (.cons (.v 10) (.l (.blt .list (.l (.v 2)))))) (.lst .nil))) (.o (.ret (.lit (.bl ae)))) .nop) (.o (.ret (.q (.call "_law_refused" (.cons (.call "_law_beside" (.cons (.v 3) (.cons (.v 4) (.l (.ix (.v 2) (.n 0)))))) (.l (.blt .list (.l (.v 2)))))) (.lst .nil))))))))))))
noncomputable def j6a:Fi:=⟨1,11,j6k,ae⟩
noncomputable def tbl:List (ao×Fi):=("is_word",Rr)::("is_made_of",Jy)::("rows_of",Rq)::("row_number",j07)::("refuse_wrong_size",Js)::("all_choices",fP_all_choices)::("number_of",j2b)::("refuse_wrong_places",Jj)::("count_of_rows",Ny)::("question_read",z9)::("form_of",Ru)::("@form_taken",Jz)::("@bracketed_taken",vz)::("wants_own",j2a)::("takes_count",Ve)::("takes_own",U4)::("is_number",U5)::("keeps_to",Z1)::("said_by",Zz)::("says_yes",Uv)::("has_ring",j3h)::("count_of_clusters",Rv)::("marks_tied",j08)::("_law_cell",fL_cell)::("_law_words",fL_words)::("_law_kinds",j2c)::("_law_mixed",Nz)::("_law_form",Bc)::("_law_text",Qo)::("_law_stranger",Uw)::("_law_refused",V1)::("_law_faulty",O8)::("_law_whole_faulty",V0)::("_law_beside",Vv)::("_law_bad_places",Y0)::("_law_told",Ku)::("law",j6a)::[]
noncomputable def T(x:ao):Option Fi:=tbl.lookup x
noncomputable def gs:List (ao×D):=[("LETTERS",.str "abcdefghijklmnopqrstuvwxyz"),("LONGEST_WORD",.int 8),("FEWEST_PLACES",.int 1),("MOST_PLACES",.int 6),("ANSWERS",.tup [.int 0,.int 1]),("KINDS",.tup [.str "not",.str "all",.str "any",.str "odd",.str "least",.str "just",.str "table",.str "ring",.str "joined"]),("COUNTING_KINDS",.tup [.str "least",.str "just"]),("TYING_KINDS",.tup [.str "ring",.str "joined"]),("PLACE",.str "place"),("MOST_BRACKETS",.int 8),("MOST_TABLE_FORMS",.int 4),("TIED_SPOTS",.tup [.int 0,.int 1,.int 2,.int 3]),("TIES",.tup [.tup [.int 0,.int 1],.tup [.int 0,.int 2],.tup [.int 0,.int 3],.tup [.int 1,.int 2],.tup [.int 1,.int 3],.tup [.int 2,.int 3]])]
noncomputable def xs:List (ao×List D):=[("WrongSize",[.str "WrongSize"]),("NoAsk",[.str "one of the others"]),("NoWord",[.str "NoWord"]),("Twice",[.str "Twice"]),("WrongAnswers",[.str "one of the others"]),("Unlike",[.str "one of the others"]),("NoPlace",[.str "NoPlace"]),("NoText",[.str "NoText"]),("WrongPrices",[.str "one of the others"]),("WrongWeights",[.str "one of the others"]),("NoPlan",[.str "one of the others"])]
noncomputable def qs:List ao:=["Pieces"]
noncomputable abbrev G:ao->Option D:=Gof gs af xs qs
end K15
end
section
open PySem PySem.Spec PyProof.Rows L2
local macro_rules | `(tactic| walk_at "vis")=>`(tactic| first | exact Or.inl rfl | exact Or.inr (Or.inl rfl) | exact Or.inr (Or.inr rfl))
local macro_rules | `(tactic| walk_at "loc")=>`(tactic| first | exact Or.inl rfl | exact Or.inr rfl)
local macro_rules | `(tactic| walk_at "nm")=>`(tactic| repeat (first | exact rfl | refine ⟨_,_,rfl,by decide,by decide,by rfl,by decide,by rfl,?_⟩))
local macro_rules | `(tactic| walk_at "cap")=>`(tactic| repeat (first | exact rfl | refine ⟨_,_,rfl,by rfl,by rfl,by rfl,by rfl,?_⟩))
local macro_rules | `(tactic| walk_at "ts")=>`(tactic| first
 |exact Tr.int|exact Tr.bl|exact Tr.str|exact Tr.var (by rfl) (by walk_at "vis") (by decide) (by decide)|exact Tr.glob (by rfl) (by decide) (by decide)|refine Tr.bin ?_ ?_|refine Tr.neg ?_|refine Tr.cmp (by rfl) ?_ ?_|refine Tr.bcmp (by rfl) ?_ ?_|refine Tr.and ?_ ?_|refine Tr.or ?_ ?_|refine Tr.one ?_|refine Tr.wand ?_ ?_|refine Tr.wor ?_ ?_|refine Tr.wand1 ?_|refine Tr.wor1 ?_|refine Tr.bw ?_|refine Tr.bnot ?_|refine Tr.ite ?_ ?_ ?_|exact Tr.nil|refine Tr.cons (by rfl) ?_ ?_|refine Tr.tup ?_|refine Tr.lst ?_|refine Tr.ix (by intro _ _;rfl) ?_ ?_|exact Tr.oN|refine Tr.oS ?_|refine Tr.sl ?_ ?_ ?_|refine Tr.bchn (by with_unfolding_all rfl) ?_ ?_ ?_|refine Tr.call (by rfl) (by decide) (by rfl) (by rfl) ?_|refine Tr.dzip (by rfl) (by rfl) (by rfl) (by rfl) (by rfl) (by rfl) ?_ ?_|refine Tr.dix (by intro _ _;rfl) ?_ ?_|refine Tr.rep (by rfl) (by rfl) (by rfl) (by rfl) (by rfl) (by rfl) ?_ ?_ ?_|refine Tr.lset (by rfl) (by rfl) (by rfl) (by rfl) (by rfl) ?_|refine Tr.len (by rfl) ?_|refine Tr.all (by rfl) (by rfl) ?_|refine Tr.tuple (by rfl) ?_|refine Tr.list (by rfl) ?_|refine Tr.min (by rfl) (by rfl) ?_|refine Tr.sum (by rfl) (by rfl) ?_|refine Tr.intc (by rfl) ?_|refine Tr.join (by rfl) (by rfl) (by rfl) (by rfl) ?_|exact Tr.c0|refine Tr.c1 ?_|refine Tr.comp1 (by rfl) (by rfl) (by rfl) (by rfl) (by rfl) (by intro _;rfl) ?_ ?_ ?_|refine Tr.spl (by rfl) (by rfl) (by rfl) (by rfl) ?_|refine Tr.sti (by rfl) (by rfl) ?_|refine Tr.seq ?_|refine Tr.range (by rfl) ?_|refine Tr.zip (by rfl) (by rfl) (by rfl) ?_ ?_|exact Tr.p0|refine Tr.pC ?_|refine Tr.pR ?_ ?_|refine Tr.pF (by rfl) ?_ ?_|refine Tr.fst ?_|exact Tr.isxV (by rfl) (by walk_at "vis") (by decide) (by decide) (by rfl) (by rfl) (by rfl)|exact Tr.isx1 (by decide) (by decide) (by rfl) (by walk_at "vis") (by decide) (by decide) (by rfl) (by rfl) (by decide) (by rfl)|exact Tr.isxN (by walk_at "nm") (by decide) (by rfl) (by walk_at "vis") (by decide) (by decide) (by rfl) (by rfl)|refine Tr.bval (by intro _;rfl) ?_|refine Ts.unp3 (by rfl) (by rfl) (by rfl) (by rfl) (by walk_at "loc") (by walk_at "loc") (by walk_at "loc") (by exact bc rfl) (by exact bc rfl) (by exact bc rfl) (by rfl) (by rfl) ?_|refine Ts.unp (by rfl) (by rfl) (by rfl) (by walk_at "loc") (by walk_at "loc") (by exact bc rfl) (by exact bc rfl) (by rfl) (by rfl) ?_|exact⟨rfl,rfl,rfl,λ_ _=>rfl⟩|exact Ts.nil|refine Ts.fgt ?_|refine Ts.pick ?_|refine Ts.keep ?_|refine Ts.cons ?_ ?_|exact Ts.mov (by rfl) (by rfl) (by walk_at "loc") (by exact bc rfl) (by walk_at "vis") (by decide) (by decide)|refine Ts.setC1 (by rfl) (by rfl) (by walk_at "loc") (by exact bc rfl) (by rfl) (by rfl) (by rfl) (by rfl) (by rfl) (by intro _;rfl) ?_ ?_ ?_|refine Ts.set (by rfl) (by walk_at "loc") (by rfl) (by exact bc rfl) ?_|exact Ts.retV (by rfl) (by walk_at "vis") (by decide) (by decide)|refine Ts.ret ?_|refine Ts.ife ?_ ?_ ?_|refine Ts.for1 (by rfl) (by rfl) (by walk_at "loc") (by exact bc rfl) (by intro _;rfl) ?_ ?_|refine Ts.for2 (by rfl) (by decide) (by rfl) (by rfl) (by walk_at "loc") (by walk_at "loc") (by exact bc rfl) (by exact bc rfl) (by intro _;rfl) ?_ ?_|refine Ts.app (by rfl) (by walk_at "vis") (by decide) (by decide) (by rfl) (by rfl) (by rfl) (by rfl) ?_|refine Ts.ext (by rfl) (by walk_at "vis") (by decide) (by decide) (by rfl) (by rfl) (by rfl) (by rfl) ?_|refine Ts.raise (by rfl) (by rfl) (by decide) (by rfl) ?_|refine Ts.tryK (by rfl) (by rfl) (by rfl) (by rfl) (by rfl) (by rfl) (by rfl) (by decide) (by decide) (by rfl) (by walk_at "loc") (by exact bc rfl) (by exact bc rfl) (by rfl) (by rfl) (by rfl) ?_|refine Ts.expr (by rfl) ?_|refine Ts.newP (by rfl) (by rfl) (by rfl) (by rfl) (by walk_at "loc") (by rfl) (by exact bc rfl) ?_ ?_|exact MP.nop|refine MP.set (by decide) (by rfl) (by walk_at "loc") (by rfl) (by exact bc rfl) ?_ ?_|refine MP.ret ?_|refine MP.ifAll (by rfl) (by rfl) (by decide) (by rfl) (by rfl) (by walk_at "vis") (by decide) (by decide) (by exact⟨_,rfl⟩) (by intro _;rfl) ?_ ?_|refine MP.ifRai (by rfl) (by rfl) (by decide) (by rfl) ?_ ?_ ?_|refine MP.takeIf (by decide) (by rfl) (by walk_at "vis") (by decide) (by decide) (by exact⟨_,rfl⟩) (by rfl) (by walk_at "loc") (by rfl) (by exact bc rfl) ?_ ?_ ?_|refine MP.take (by decide) (by rfl) (by walk_at "vis") (by decide) (by decide) (by exact⟨_,rfl⟩) (by rfl) (by walk_at "loc") (by rfl) (by exact bc rfl) ?_|refine MP.takeE (by rfl) (by walk_at "vis") (by decide) (by decide) (by exact⟨_,rfl⟩) (by rfl) ?_|refine MP.callS (by decide) (by exact⟨_,_,_,_,rfl,by rfl,by walk_at "vis",by decide,by decide,by rfl,by decide,by rfl,by rfl⟩) (by rfl) (by walk_at "loc") (by rfl) (by exact bc rfl) ?_ ?_|refine MP.ifCal (by exact⟨_,_,_,_,rfl,by rfl,by walk_at "vis",by decide,by decide,by rfl,by decide,by rfl,by rfl⟩) ?_ ?_ ?_|refine MP.appC (by decide) (by exact⟨_,_,_,_,rfl,by rfl,by walk_at "vis",by decide,by decide,by rfl,by decide,by rfl,by rfl⟩) (by rfl) (by walk_at "vis") (by decide) (by decide) (by rfl) (by rfl) (by rfl) (by rfl) (by rfl) ?_ ?_|refine MP.whlA (by rfl) (by walk_at "vis") (by decide) (by decide) (by exact⟨_,rfl⟩) ?_ ?_|intro C s H fp pn xe|intro C s H fp pn|intro pn xe)
local macro_rules | `(tactic| walk_at "tq")=>`(tactic| (intro _ _ _ _ _ _ _ _; repeat' (walk_at "ts")))
local macro_rules | `(tactic| walk_at "bnd")=>`(tactic| (intro _ _ _ _ _ _ us hl; first | (obtain ⟨_,e⟩:=us1 hl; subst e; rfl) | (obtain ⟨_,_,e⟩:=us2 hl; subst e; rfl) | (obtain ⟨_,_,_,e⟩:=us3 hl; subst e; rfl) | (obtain ⟨_,_,_,_,e⟩:=us4 hl; subst e; rfl)))
local macro_rules | `(tactic| walk_at "sc")=>`(tactic| exact ⟨rfl,rfl,rfl,by decide +kernel,rfl,by decide +kernel,by decide +kernel⟩)
namespace K15
section
variable{P:aA}{w:aH}{K:k84}{mg:k87}{base:aL}
def pcS:PcS P w K mg base (inClass (top 18) 0) (inClass (top 18) 1) (inClass (top 18) 2) (inClass (top 18) 3) :=
 ⟨by walk_at "sc",by walk_at "sc",by walk_at "sc",by walk_at "sc",⟨_,_,_,_,_,_,_,_,_,_,_,_,_,rfl,rfl⟩,⟨_,_,_,_,_,_,_,_,_,_,_,_,_,_,_,_,_,rfl⟩,⟨_,_,_,_,_,_,_,_,_,_,_,_,_,_,_,rfl,λf cdv A outer s H E=>⟨_,rfl⟩⟩,⟨_,_,_,_,_,_,_,_,rfl⟩,⟨by walk_at "vis",by walk_at "vis",by walk_at "vis",by walk_at "vis",by walk_at "vis"⟩,⟨rfl,rfl,rfl⟩,(by intro _ _ _ _ _ _ us hl;obtain⟨_,_,e⟩:=us2 hl;subst e;rfl),(by intro _ _ _ _ _ _ us hl;obtain⟨_,e⟩:=us1 hl;subst e;rfl),(by intro _ _ _ _ _ _ us hl;obtain⟨_,e⟩:=us1 hl;subst e;rfl),(by intro _ _ _ _ _ _ us hl;obtain⟨_,e⟩:=us1 hl;subst e;rfl)⟩
def j3a:TrT P w K mg base "is_word" ["piece"] (top 16) Yj:=by unfold Yj;walk_at "tq"
def Lr:TrT P w K mg base "is_made_of" ["piece","signs","sign"] (top 17) Q0:=by unfold Q0;walk_at "tq"
def j39:TrT P w K mg base "rows_of" ["many"] (top 23) Yi:=by unfold Yi;walk_at "tq"
def Lp:TrT P w K mg base "row_number" ["row"] (top 24) Y4:=by unfold Y4;walk_at "tq"
def W5:TrT P w K mg base "refuse_wrong_size" ["many"] (top 25) J7:=by unfold J7;walk_at "tq"
def Df:TrT P w K mg base "all_choices" ["figures_by_spot","chosen","figures","longer","ahead","figure"] (top 26) J8:=by unfold J8;walk_at "tq"
def j03:TrT P w K mg base "number_of" ["figures","base","number","figure"] (top 27) Ua:=by unfold Ua;walk_at "tq"
def Ug:TrT P w K mg base "refuse_wrong_places" ["places","ahead","place"] (top 29) vy:=by unfold vy;walk_at "tq"
def Br:TrT P w K mg base "count_of_rows" ["many"] (top 30) Zc:=by unfold Zc;walk_at "tq"
def Bq:TrT P w K mg base "question_read" ["text","places","form","answers","row"] (top 40) zx:=by unfold zx;walk_at "tq"
def j3b:TrT P w K mg base "form_of" ["text","pieces","form"] (top 41) Yk:=by unfold Yk;walk_at "tq"
noncomputable def M9:Px:=(.take 2 (.ifCal (.cmp .eq (.var 2) (.lit (.str "("))) "bracketed_taken" (.cons (.bin .add (.var 1) (.lit (.int 1))) .nil) (.ifRai (.not (.call "is_word" (.cons (.var 2) .nil))) "NoText" (.fst (.cons (.rpr (.var 2)) (.cons (.lit (.str " stands where a form is wanted")) .nil))) (.ret (.tup (.cons (.glob "PLACE") (.cons (.var 2) (.cons (.tup .nil) .nil))))))))
def Lw:TrM P w K mg base "form_taken" ["pieces","brackets","piece"] (top 42) M9:=by unfold M9;walk_at "tq"
noncomputable def Vs:Px:=(.ifRai (.cmp .gt (.var 1) (.glob "MOST_BRACKETS")) "NoText" (.fst (.cons (.lit (.str "more than ")) (.cons (.glob "MOST_BRACKETS") (.cons (.lit (.str " brackets stand unclosed at once")) .nil)))) (.take 2 (.ifRai (.cmp .notin (.var 2) (.glob "KINDS")) "NoText" (.fst (.cons (.rpr (.var 2)) (.cons (.lit (.str " is no kind")) .nil))) (.takeIf 3 (.call "wants_own" (.cons (.var 2) .nil)) (.lit (.str "")) (.set 4 (.lst .nil) (.whlA ")" (.appC 4 "form_taken" (.cons (.var 1) .nil) .nop) (.takeE (.ifRai (.or (.not (.call "takes_count" (.cons (.var 2) (.cons (.blt .len (.cons (.var 4) .nil)) .nil)))) (.not (.call "takes_own" (.cons (.var 2) (.cons (.var 3) (.cons (.blt .len (.cons (.var 4) .nil)) .nil)))))) "NoText" (.fst (.cons (.rpr (.var 2)) (.cons (.lit (.str " has not what it wants")) .nil))) (.ret (.tup (.cons (.var 2) (.cons (.var 3) (.cons (.blt .tuple (.cons (.var 4) .nil)) .nil)))))))))))))
def Ma:TrM P w K mg base "bracketed_taken" ["pieces","brackets","kind","own","forms"] (top 43) Vs:=by unfold Vs;walk_at "tq"
def j01:TrT P w K mg base "wants_own" ["kind"] (top 44) U9:=by unfold U9;walk_at "tq"
def De:TrT P w K mg base "takes_count" ["kind","count"] (top 45) Qq:=by unfold Qq;walk_at "tq"
def j02:TrT P w K mg base "takes_own" ["kind","own","count"] (top 46) V4:=by unfold V4;walk_at "tq"
def j04:TrT P w K mg base "is_number" ["piece"] (top 47) V6:=by unfold V6;walk_at "tq"
def j10:TrT P w K mg base "keeps_to" ["form","places","inner"] (top 48) Z2:=by unfold Z2;walk_at "tq"
def j38:TrT P w K mg base "said_by" ["form","numbers","said","inner"] (top 49) V5:=by unfold V5;walk_at "tq"
def j0z:TrT P w K mg base "says_yes" ["kind","own","said"] (top 50) Vm:=by unfold Vm;walk_at "tq"
def j11:TrT P w K mg base "has_ring" ["said"] (top 51) W0:=by unfold W0;walk_at "tq"
def W6:TrT P w K mg base "count_of_clusters" ["said","marks","tie","number"] (top 52) Jv:=by unfold Jv;walk_at "tq"
def Lq:TrT P w K mg base "marks_tied" ["marks","one","other","mark"] (top 53) Y5:=by unfold Y5;walk_at "tq"
def ja9:TrT P w K mg base "_law_cell" ["_law_script","_law_k","_law_spare"] (top 55) Yr:=by unfold Yr;walk_at "tq"
def j71:TrT P w K mg base "_law_words" ["_law_cell_here","_law_many","_law_letters","_law_long","_law_k","_law_start","_law_size","_law_stem","_law_at"] (top 56) Zd:=by unfold Zd;walk_at "tq"
def j73:TrT P w K mg base "_law_kinds" ["_law_e","_law_some"] (top 58) Ub:=by unfold Ub;walk_at "tq"
def j75:TrH P w K mg base "_law_kinds" ["_law_e","_law_some"] (top 58) Ub:=by
 intro f cdv A outer s H;unfold Ub
 repeat' (walk_at "ts")
def j72:TrT P w K mg base "_law_mixed" ["_law_cell_here","_law_k"] (top 59) M4:=by unfold M4;walk_at "tq"
def ja8:TrT P w K mg base "_law_form" ["_law_cell_here","_law_deep","_law_must","_law_many","_law_kind","_law_count","_law_chosen","_law_forms","_law_k","_law_less","_law_want"] (top 60) Bo:=by unfold Bo fmI fmS fmB fmR;walk_at "tq"
def ja7:TrT P w K mg base "_law_text" ["_law_form_here","_law_places","_law_kind","_law_want","_law_forms","_law_pieces","_law_one"] (top 61) Vg:=by unfold Vg;walk_at "tq"
def j12:TrT P w K mg base "_law_stranger" ["_law_places","_law_cell_here","_law_letters","_law_one","_law_sign","_law_some","_law_letter","_law_word"] (top 62) Vn:=by unfold Vn;walk_at "tq"
def j3c:TrT P w K mg base "_law_refused" ["_law_text_here","_law_places","_law_kinds_here","_law_e"] (top 63) V7:=by unfold V7;walk_at "tq"
def j56:TrT P w K mg base "_law_faulty" ["_law_cell_here","_law_one","_law_other","_law_some","_law_text_here"] (top 64) Ur:=by unfold Ur;walk_at "tq"
def Ng:TrT P w K mg base "_law_whole_faulty" ["_law_cell_here","_law_text_here","_law_pieces","_law_at"] (top 65) Q9:=by unfold Q9;walk_at "tq"
def j57:TrT P w K mg base "_law_beside" ["_law_cell_here","_law_good","_law_text_here"] (top 66) Vy:=by unfold Vy;walk_at "tq"
def Lx:TrT P w K mg base "_law_bad_places" ["_law_places","_law_cell_here","_law_at","_law_odd","_law_again"] (top 67) Z7:=by unfold Z7;walk_at "tq"
def ja6:TrT P w K mg base "_law_told" ["_law_cell_here","_law_good","_law_places","_law_one","_law_strange"] (top 68) Bm:=by unfold Bm;walk_at "tq"
def jcm:TrT P w K mg base "law" ["_law_script","_law_many","_law_places","_law_cell_here","_law_good","_law_text_here","_law_due","_law_handed","_law_bad","_law_other","_law_deep"] (top 69) j6k:=by unfold j6k lpB;walk_at "tq"
end
set_option maxHeartbeats 0 in
def head{l:dQ}{K:k84}(X:K.In h)(Gn:h.Ns aw mg)(hfa:mg "law"=aa (.ref fa))(h0:Lf K "is_word" (top 16))(h1:Lf K "is_made_of" (top 17))(h2:Lf K "rows_of" (top 23))(h3:Lf K "row_number" (top 24))(h4:Lf K "refuse_wrong_size" (top 25))(h5:Lf K "all_choices" (top 26))(h6:Lf K "number_of" (top 27))(h7:Lf K "refuse_wrong_places" (top 29))(h8:Lf K "count_of_rows" (top 30))(h9:Lf K "question_read" (top 40))(h10:Lf K "form_of" (top 41))(h11:Lf K "form_taken" (top 42))(h12:Lf K "bracketed_taken" (top 43))(h13:Lf K "wants_own" (top 44))(h14:Lf K "takes_count" (top 45))(h15:Lf K "takes_own" (top 46))(h16:Lf K "is_number" (top 47))(h17:Lf K "keeps_to" (top 48))(h18:Lf K "said_by" (top 49))(h19:Lf K "says_yes" (top 50))(h20:Lf K "has_ring" (top 51))(h21:Lf K "count_of_clusters" (top 52))(h22:Lf K "marks_tied" (top 53))(h23:Lf K "_law_cell" (top 55))(h24:Lf K "_law_words" (top 56))(h25:Lf K "_law_kinds" (top 58))(h26:Lf K "_law_mixed" (top 59))(h27:Lf K "_law_form" (top 60))(h28:Lf K "_law_text" (top 61))(h29:Lf K "_law_stranger" (top 62))(h30:Lf K "_law_refused" (top 63))(h31:Lf K "_law_faulty" (top 64))(h32:Lf K "_law_whole_faulty" (top 65))(h33:Lf K "_law_beside" (top 66))(h34:Lf K "_law_bad_places" (top 67))(h35:Lf K "_law_told" (top 68))(h36:Lf K "law" (top 69))(bz:bOk K=af)  (tz:tOk K ts=af)
     (gzgt0:gt0≠0) (gn0:bo K aw "LETTERS"=aa (aa (.str "abcdefghijklmnopqrstuvwxyz" gt0))) (gn1:bo K aw "LONGEST_WORD"=aa (aa (.int 8 gt1))) (gn2:bo K aw "FEWEST_PLACES"=aa (aa (.int 1 gt2))) (gn3:bo K aw "MOST_PLACES"=aa (aa (.int 6 gt3))) (ga4l:K.lookup ga4=aa ⟨.type "tuple",ag,.seq #[.int 0 gt5,.int 1 gt6] ga4n,ga4s⟩) (gn4:bo K aw "ANSWERS"=aa (aa (.ref ga4))) (gzgt8:gt8≠0) (gzgt9:gt9≠0) (gzgt10:gt10≠0) (gzgt11:gt11≠0) (gzgt12:gt12≠0) (gzgt13:gt13≠0) (gzgt14:gt14≠0) (gzgt15:gt15≠0) (gzgt16:gt16≠0) (ga7l:K.lookup ga7=aa ⟨.type "tuple",ag,.seq #[.str "not" gt8,.str "all" gt9,.str "any" gt10,.str "odd" gt11,.str "least" gt12,.str "just" gt13,.str "table" gt14,.str "ring" gt15,.str "joined" gt16] ga7n,ga7s⟩) (gn5:bo K aw "KINDS"=aa (aa (.ref ga7))) (gzgt18:gt18≠0) (gzgt19:gt19≠0) (ga17l:K.lookup ga17=aa ⟨.type "tuple",ag,.seq #[.str "least" gt18,.str "just" gt19] ga17n,ga17s⟩) (gn6:bo K aw "COUNTING_KINDS"=aa (aa (.ref ga17))) (gzgt21:gt21≠0) (gzgt22:gt22≠0) (ga20l:K.lookup ga20=aa ⟨.type "tuple",ag,.seq #[.str "ring" gt21,.str "joined" gt22] ga20n,ga20s⟩) (gn7:bo K aw "TYING_KINDS"=aa (aa (.ref ga20))) (gzgt23:gt23≠0) (gn8:bo K aw "PLACE"=aa (aa (.str "place" gt23))) (gn9:bo K aw "MOST_BRACKETS"=aa (aa (.int 8 gt24))) (gn10:bo K aw "MOST_TABLE_FORMS"=aa (aa (.int 4 gt25))) (ga26l:K.lookup ga26=aa ⟨.type "tuple",ag,.seq #[.int 0 gt27,.int 1 gt28,.int 2 gt29,.int 3 gt30] ga26n,ga26s⟩) (gn11:bo K aw "TIED_SPOTS"=aa (aa (.ref ga26))) (ga32l:K.lookup ga32=aa ⟨.type "tuple",ag,.seq #[.int 0 gt33,.int 1 gt34] ga32n,ga32s⟩) (ga35l:K.lookup ga35=aa ⟨.type "tuple",ag,.seq #[.int 0 gt36,.int 2 gt37] ga35n,ga35s⟩) (ga38l:K.lookup ga38=aa ⟨.type "tuple",ag,.seq #[.int 0 gt39,.int 3 gt40] ga38n,ga38s⟩) (ga41l:K.lookup ga41=aa ⟨.type "tuple",ag,.seq #[.int 1 gt42,.int 2 gt43] ga41n,ga41s⟩) (ga44l:K.lookup ga44=aa ⟨.type "tuple",ag,.seq #[.int 1 gt45,.int 3 gt46] ga44n,ga44s⟩) (ga47l:K.lookup ga47=aa ⟨.type "tuple",ag,.seq #[.int 2 gt48,.int 3 gt49] ga47n,ga47s⟩) (ga31l:K.lookup ga31=aa ⟨.type "tuple",ag,.seq #[.ref ga32,.ref ga35,.ref ga38,.ref ga41,.ref ga44,.ref ga47] ga31n,ga31s⟩) (gn12:bo K aw "TIES"=aa (aa (.ref ga31)))(exa:Q8 K=af)
   (hpc:PcH K C (inClass (top 18) 0) (inClass (top 18) 1) (inClass (top 18) 2) (inClass (top 18) 3))(xz:xOk K=af)
   (hlaw:∀ns:zo,ns.length<=63->evP fu G T (n+1) "law" [.lst (ns.map D.int)]=.val (.bl af)) :
  ∃fd:aN,(∀(s:aq)(v:aj),gN s fd ⟨[v],[]⟩ [("_law_script",v)])/\∀base:aL,K.In base->base.Ns aw mg->FnOkZ ae l.prog w K mg base CX0 (lv (n+1)) fa fd ["_law_script"] (j0d K):=by
 have hL:=h36;obtain⟨f,oc,od,kV,dc,pm,an,cd,ct,sl,a,lk,c,k⟩:=hL;have e:=hfa.symm.trans (Pr X Gn a);cases e;refine⟨PySem.W.fnOf "law" "law" (zm (top 69)) (jj (top 69)) (j0 (top 69)) .none kV dc pm an cd ct,λs v=>.of_eq rfl,λbase hKb hNb=>?_⟩;have pcm:∃C,mg "Pieces"=aa (.ref C)/\Fw l.prog w K mg base C:=jmw pcS hpc X Gn (jdf X Gn bz "len" (by decide));have hT:∀x F,T x=aa F->LkF l.prog w K mg base x F:=λx F hx=>by
  have all:∀p∈tbl,LkF l.prog w K mg base p.1 p.2:=by
   intro p hp;simp only[tbl,xj,Xx,or_false]at hp;rcases hp with rfl|rfl|rfl|rfl|rfl|rfl|rfl|rfl|rfl|rfl|rfl|rfl|rfl|rfl|rfl|rfl|rfl|rfl|rfl|rfl|rfl|rfl|rfl|rfl|rfl|rfl|rfl|rfl|rfl|rfl|rfl|rfl|rfl|rfl|rfl|rfl|rfl
   .exact lkZ h0 X Gn j3a ["piece"]
   .exact lkZ h1 X Gn Lr ["piece","signs"]
   .exact lkZ h2 X Gn j39 ["many"]
   .exact lkZ h3 X Gn Lp ["row"]
   .exact lkZ h4 X Gn W5 ["many"]
   .exact lkZ h5 X Gn Df ["figures_by_spot"]
   .exact lkZ h6 X Gn j03 ["figures","base"]
   .exact lkZ h7 X Gn Ug ["places"]
   .exact lkZ h8 X Gn Br ["many"]
   .exact lkZ h9 X Gn Bq ["text","places"]
   .exact lkZ h10 X Gn j3b ["text"]
   .exact j8d (g:="form_taken") (by decide +kernel) h11 X Gn Lw ["pieces","brackets"] (by walk_at "sc") rfl rfl rfl rfl (by decide) (by decide) (by walk_at "bnd") pcm
   .exact j8d (g:="bracketed_taken") (by decide +kernel) h12 X Gn Ma ["pieces","brackets"] (by walk_at "sc") rfl rfl rfl rfl (by decide) (by decide) (by walk_at "bnd") pcm
   .exact lkZ h13 X Gn j01 ["kind"]
   .exact lkZ h14 X Gn De ["kind","count"]
   .exact lkZ h15 X Gn j02 ["kind","own","count"]
   .exact lkZ h16 X Gn j04 ["piece"]
   .exact lkZ h17 X Gn j10 ["form","places"]
   .exact lkZ h18 X Gn j38 ["form","numbers"]
   .exact lkZ h19 X Gn j0z ["kind","own","said"]
   .exact lkZ h20 X Gn j11 ["said"]
   .exact lkZ h21 X Gn W6 ["said"]
   .exact lkZ h22 X Gn Lq ["marks","one","other"]
   .exact lkZ h23 X Gn ja9 ["_law_script","_law_k"]
   .exact lkZ h24 X Gn j71 ["_law_cell_here","_law_many"]
   .exact lkZ h25 X Gn j73 ["_law_e"]
   .exact lkZ h26 X Gn j72 ["_law_cell_here","_law_k"]
   .exact lkZ h27 X Gn ja8 ["_law_cell_here","_law_deep","_law_must","_law_many"]
   .exact lkZ h28 X Gn ja7 ["_law_form_here","_law_places"]
   .exact lkZ h29 X Gn j12 ["_law_places","_law_cell_here"]
   .exact lkZ h30 X Gn j3c ["_law_text_here","_law_places"]
   .exact lkZ h31 X Gn j56 ["_law_cell_here","_law_one","_law_other"]
   .exact lkZ h32 X Gn Ng ["_law_cell_here","_law_text_here"]
   .exact lkZ h33 X Gn j57 ["_law_cell_here","_law_good","_law_text_here"]
   .exact lkZ h34 X Gn Lx ["_law_places","_law_cell_here"]
   .exact lkZ h35 X Gn ja6 ["_law_cell_here","_law_good","_law_places"]
   .exact lkZ h36 X Gn jcm ["_law_script"]
  exact all (x,F) (lookup_mem hx)
 have bt:=jdf X Gn bz;have gl:∀x d,gs.lookup x=aa d->∃u v,mg x=aa u/\RelV v u/\∀H,Enc K H d v:=by
  intro x d hx;have hm:=lookup_mem hx;simp only[gs,xj,Xx,or_false,Prod.mk.injEq]at hm;rcases hm with ⟨e1,e2⟩|⟨e1,e2⟩|⟨e1,e2⟩|⟨e1,e2⟩|⟨e1,e2⟩|⟨e1,e2⟩|⟨e1,e2⟩|⟨e1,e2⟩|⟨e1,e2⟩|⟨e1,e2⟩|⟨e1,e2⟩|⟨e1,e2⟩|⟨e1,e2⟩
  .subst e1 e2;exact⟨_,.str "abcdefghijklmnopqrstuvwxyz",Pr X Gn gn0,⟨⟨_,gzgt0⟩,rfl⟩,λ_=>rfl⟩
  .subst e1 e2;exact⟨_,.int 8,Pr X Gn gn1,⟨_,rfl⟩,λ_=>rfl⟩
  .subst e1 e2;exact⟨_,.int 1,Pr X Gn gn2,⟨_,rfl⟩,λ_=>rfl⟩
  .subst e1 e2;exact⟨_,.int 6,Pr X Gn gn3,⟨_,rfl⟩,λ_=>rfl⟩
  .subst e1 e2;exact⟨_,.ref ga4,Pr X Gn gn4,rfl,λH=>⟨ga4,[.int 0,.int 1],rfl,.inr ⟨_,_,_,ga4l,rfl,rfl,rfl,(by show 2<=au;decide),(.cons ⟨_,rfl⟩ (.cons ⟨_,rfl⟩ .nil))⟩,⟨_,_,rfl,rfl,⟨_,_,rfl,rfl,rfl⟩⟩⟩⟩
  .subst e1 e2;exact⟨_,.ref ga7,Pr X Gn gn5,rfl,λH=>⟨ga7,[.str "not",.str "all",.str "any",.str "odd",.str "least",.str "just",.str "table",.str "ring",.str "joined"],rfl,.inr ⟨_,_,_,ga7l,rfl,rfl,rfl,(by show 9<=au;decide),(.cons ⟨⟨_,gzgt8⟩,rfl⟩ (.cons ⟨⟨_,gzgt9⟩,rfl⟩ (.cons ⟨⟨_,gzgt10⟩,rfl⟩ (.cons ⟨⟨_,gzgt11⟩,rfl⟩ (.cons ⟨⟨_,gzgt12⟩,rfl⟩ (.cons ⟨⟨_,gzgt13⟩,rfl⟩ (.cons ⟨⟨_,gzgt14⟩,rfl⟩ (.cons ⟨⟨_,gzgt15⟩,rfl⟩ (.cons ⟨⟨_,gzgt16⟩,rfl⟩ .nil)))))))))⟩,⟨_,_,rfl,rfl,⟨_,_,rfl,rfl,⟨_,_,rfl,rfl,⟨_,_,rfl,rfl,⟨_,_,rfl,rfl,⟨_,_,rfl,rfl,⟨_,_,rfl,rfl,⟨_,_,rfl,rfl,⟨_,_,rfl,rfl,rfl⟩⟩⟩⟩⟩⟩⟩⟩⟩⟩⟩
  .subst e1 e2;exact⟨_,.ref ga17,Pr X Gn gn6,rfl,λH=>⟨ga17,[.str "least",.str "just"],rfl,.inr ⟨_,_,_,ga17l,rfl,rfl,rfl,(by show 2<=au;decide),(.cons ⟨⟨_,gzgt18⟩,rfl⟩ (.cons ⟨⟨_,gzgt19⟩,rfl⟩ .nil))⟩,⟨_,_,rfl,rfl,⟨_,_,rfl,rfl,rfl⟩⟩⟩⟩
  .subst e1 e2;exact⟨_,.ref ga20,Pr X Gn gn7,rfl,λH=>⟨ga20,[.str "ring",.str "joined"],rfl,.inr ⟨_,_,_,ga20l,rfl,rfl,rfl,(by show 2<=au;decide),(.cons ⟨⟨_,gzgt21⟩,rfl⟩ (.cons ⟨⟨_,gzgt22⟩,rfl⟩ .nil))⟩,⟨_,_,rfl,rfl,⟨_,_,rfl,rfl,rfl⟩⟩⟩⟩
  .subst e1 e2;exact⟨_,.str "place",Pr X Gn gn8,⟨⟨_,gzgt23⟩,rfl⟩,λ_=>rfl⟩
  .subst e1 e2;exact⟨_,.int 8,Pr X Gn gn9,⟨_,rfl⟩,λ_=>rfl⟩
  .subst e1 e2;exact⟨_,.int 4,Pr X Gn gn10,⟨_,rfl⟩,λ_=>rfl⟩
  .subst e1 e2;exact⟨_,.ref ga26,Pr X Gn gn11,rfl,λH=>⟨ga26,[.int 0,.int 1,.int 2,.int 3],rfl,.inr ⟨_,_,_,ga26l,rfl,rfl,rfl,(by show 4<=au;decide),(.cons ⟨_,rfl⟩ (.cons ⟨_,rfl⟩ (.cons ⟨_,rfl⟩ (.cons ⟨_,rfl⟩ .nil))))⟩,⟨_,_,rfl,rfl,⟨_,_,rfl,rfl,⟨_,_,rfl,rfl,⟨_,_,rfl,rfl,rfl⟩⟩⟩⟩⟩⟩
  .subst e1 e2;exact⟨_,.ref ga31,Pr X Gn gn12,rfl,λH=>⟨ga31,[.ref ga32,.ref ga35,.ref ga38,.ref ga41,.ref ga44,.ref ga47],rfl,.inr ⟨_,_,_,ga31l,rfl,rfl,rfl,(by show 6<=au;decide),(.cons rfl (.cons rfl (.cons rfl (.cons rfl (.cons rfl (.cons rfl .nil))))))⟩,⟨_,_,rfl,(λH=>⟨ga32,[.int 0,.int 1],rfl,.inr ⟨_,_,_,ga32l,rfl,rfl,rfl,(by show 2<=au;decide),(.cons ⟨_,rfl⟩ (.cons ⟨_,rfl⟩ .nil))⟩,⟨_,_,rfl,rfl,⟨_,_,rfl,rfl,rfl⟩⟩⟩) H,⟨_,_,rfl,(λH=>⟨ga35,[.int 0,.int 2],rfl,.inr ⟨_,_,_,ga35l,rfl,rfl,rfl,(by show 2<=au;decide),(.cons ⟨_,rfl⟩ (.cons ⟨_,rfl⟩ .nil))⟩,⟨_,_,rfl,rfl,⟨_,_,rfl,rfl,rfl⟩⟩⟩) H,⟨_,_,rfl,(λH=>⟨ga38,[.int 0,.int 3],rfl,.inr ⟨_,_,_,ga38l,rfl,rfl,rfl,(by show 2<=au;decide),(.cons ⟨_,rfl⟩ (.cons ⟨_,rfl⟩ .nil))⟩,⟨_,_,rfl,rfl,⟨_,_,rfl,rfl,rfl⟩⟩⟩) H,⟨_,_,rfl,(λH=>⟨ga41,[.int 1,.int 2],rfl,.inr ⟨_,_,_,ga41l,rfl,rfl,rfl,(by show 2<=au;decide),(.cons ⟨_,rfl⟩ (.cons ⟨_,rfl⟩ .nil))⟩,⟨_,_,rfl,rfl,⟨_,_,rfl,rfl,rfl⟩⟩⟩) H,⟨_,_,rfl,(λH=>⟨ga44,[.int 1,.int 3],rfl,.inr ⟨_,_,_,ga44l,rfl,rfl,rfl,(by show 2<=au;decide),(.cons ⟨_,rfl⟩ (.cons ⟨_,rfl⟩ .nil))⟩,⟨_,_,rfl,rfl,⟨_,_,rfl,rfl,rfl⟩⟩⟩) H,⟨_,_,rfl,(λH=>⟨ga47,[.int 2,.int 3],rfl,.inr ⟨_,_,_,ga47l,rfl,rfl,rfl,(by show 2<=au;decide),(.cons ⟨_,rfl⟩ (.cons ⟨_,rfl⟩ .nil))⟩,⟨_,_,rfl,rfl,⟨_,_,rfl,rfl,rfl⟩⟩⟩) H,rfl⟩⟩⟩⟩⟩⟩⟩⟩
 have qn:∀f∈qs,∃fa,mg f=aa (.ref fa)/\PySem.W.keepIn K (.ref fa)=af:=by
  intro f hf;simp only[qs,xj,Xx,or_false]at hf;rcases hf with rfl
  .exact jmn hpc X Gn
 have el:=joc xz;have L:LkH l.prog w K mg base "_law_kinds" j2c:=jj0 h25 X Gn j75 (by walk_at "sc") (by decide) rfl (by walk_at "bnd");have tb:Tb l.prog w K mg base G:=jlw bt gl exa (λp hp=>by
  have hp:p.1∈qg:=by
   simp only[xs,xj,Xx,or_false]at hp
   rcases hp with rfl|rfl|rfl|rfl|rfl|rfl|rfl|rfl|rfl|rfl|rfl<;>decide
  exact⟨hp,el _ hp⟩
  ) (λ_=>el) hKb hNb qn (λp hp=>by
  simp only[xs,xj,Xx,or_false]at hp
  rcases hp with rfl|rfl|rfl|rfl|rfl|rfl|rfl|rfl|rfl|rfl|rfl
  all_goals exact j3e (fu:=0) L bt exa el hKb hNb (by rfl) (by rfl)) (pc:=λ_=>pcm)
 exact jj2 hT tb (F:=j6a) (by rfl) rfl hfa (Qg lk c k) _ (by walk_at "sc") rfl rfl rfl (jcm _) hlaw
end K15
end
open PySem (Str sizeLine argBest)
open L2
namespace K15
open KL KW KV KB
def j92(a:List ao):D.depL (a.map D.str)<=90:=by
 induction a with
 |nil=>simp[D.depL]
 |cons x a ih=>rw[X5,D.depL];simp[D.dep];exact ih
def Wg(h:f d J=.err x J'):v9 f (d::ds) J=.err x J':=by rw[v9,h]
def j5c(h:-18446744073709551616<a/\a<18446744073709551616):qz (.int a)=aa (aF (toString a)):=by unfold qz;exact if_pos h
def gF:G "FEWEST_PLACES"=aa (.int 1):=by rfl
def gM:G "MOST_PLACES"=aa (.int 6):=by rfl
def gL:G "LETTERS"=aa (.str "abcdefghijklmnopqrstuvwxyz"):=by rfl
def gW8:G "LONGEST_WORD"=aa (.int 8):=by rfl
def gWS:G (bang "WrongSize")=aa (.lst [.str "WrongSize"]):=by rfl
def gNW:G (bang "NoWord")=aa (.lst [.str "NoWord"]):=by rfl
def gTw:G (bang "Twice")=aa (.lst [.str "Twice"]):=by rfl
noncomputable def low(c:Nat):Bool:=decide (97<=c)&&decide (c<=122)
noncomputable def isW(l:List Nat):Bool:=(decide (1<=l.length)&&decide (l.length<=8))&&l.all low
def asc(l:List Nat):Prop:=∀c∈l,c<128
def jnr(h:c<128):inS (ch1 c) "abcdefghijklmnopqrstuvwxyz"=low c:=by
 have key:∀i:Fin 128,inS (ch1 i.val) "abcdefghijklmnopqrstuvwxyz"=low i.val:=by decide +kernel
 exact key ⟨c,h⟩
def j34(h:asc l):ascii (sL l)=af:=by unfold ascii sL;rw[Array.all_eq_true'];intro c hc;simpa using h c (by simpa using hc)
def j2q:chs (sL l)=l.map λc=>D.str (ch1 c):=by unfold chs;rw[J5]
def j8a(h:asc l)(hl:l.length<=1000):evP 1000 G T (n+1) "is_made_of" [.str (sL l),.str "abcdefghijklmnopqrstuvwxyz"]=.val (.bl (l.all low)):=by
 rw[jt (F:=Jy) (by rfl) rfl];simp only[Jy,Q0,enter];ext;rw[j1b (j34 h),j2q,vp (l:=(l.map low).map D.bl) (by rfl) (by rw[xm];omega) ?_ (.inl rfl)]
 .ext;rw[eD];rfl
 .rw[Xe];refine zj λc hc=>J1 (by ext) ?_;ext;rw[jnr (h c hc)];rfl
def Vp(h:asc l)(hl:l.length<=1000):evP 1000 G T (n+2) "is_word" [.str (sL l)]=.val (.bl (isW l)):=by
 rw[jt (F:=Rr) (by rfl) rfl];simp only[Rr,Yj,enter];have sl:(sL l).length=l.length:=j4;have sl':(sL l).length<=1000000:=by omega
 by_cases h1:1<=l.length
 .by_cases h2:l.length<=8
  .ext;simp only[gW8];ext;simp only[gL];ext;rw[j8a h hl];ext;simp[isW,h1,h2]
  .ext;simp only[gW8];ext;simp[isW,h1,h2]
 .ext;simp[isW,h1]
noncomputable abbrev tx(l:List Nat):D:=.str (sL l)
noncomputable def Zy:List (List Nat)->List (List Nat)->Option ao
 |_,[]=>ag
 |pre,l::r=>if isW l=ae then aa "NoWord" else if pre.contains l=af then aa "Twice" else Zy (pre++[l]) r
def okT(L:List (List Nat)):Prop:=L.length<=100/\∀l∈L,asc l/\l.length<=100
def j4o(L:List (List Nat)):D.depL (L.map tx)<=90:=by have:=j92 (L.map sL);rw[Xe]at this;exact this
def Kl{L:List (List Nat)}(s:List D->D)(hs:s=D.tup\/s=D.lst):vd .isin (tx l) (s (L.map tx))=aa (L.contains l):=by
 have e:(L.map tx).any (λe=>deq e (tx l))=L.contains l:=by
  induction L with
  |nil=>rfl
  |cons x L ih =>
   rw[X5,Tw,ih,List.contains_cons,j2i];congr 1;by_cases z:x=l
   .subst z;simp
   .have h1:(sL x==sL l)=ae:=by simpa using λq=>z (Qw q)
    have h2:(l==x)=ae:=by simpa using λq=>z q.symm
    rw[h1,h2]
 have d:=j4o L;have d2:(tx l).dep<=90:=by simp[D.dep]
 rcases hs with rfl|rfl
 .show(if D.depL (L.map tx)<=90/\(tx l).dep<=90 then aa ((L.map tx).any λe=>deq e (tx l))else ag)=_;rw[if_pos ⟨d,d2⟩,e]
 .show(if D.depL (L.map tx)<=90/\(tx l).dep<=90 then aa ((L.map tx).any λe=>deq e (tx l))else ag)=_;rw[if_pos ⟨d,d2⟩,e]
def j41(ha:asc l)(h:l.length<=100):(aK (sL l)).length<=2000:=by have:=lB (sL l) (by rw[J5];exact λc hc=>Xh (ha c hc) (by decide));rw[j4]at this;omega
theorem j44{P:D}(hT:∀l:List Nat,asc l->l.length<=100->evP 1000 G T n "is_word" [tx l]=.val (.bl (isW l))):∀(r pre:List (List Nat)) (s:Sv),pre.length+r.length<=200->(∀l∈r,asc l/\l.length<=100) ->
  match Zy pre r with
  |none=>∃s',v9 (Uq [2] (run 1000 (evP 1000 G T n) G (.seq (.ife (.not (.call "is_word" (.cons (.var 2) .nil))) (.seq (.raise "NoWord" (.fst (.cons (.rpr (.var 2)) (.cons (.lit (.str " is no word of one to eight small letters")) .nil)))) .nop) .nop) (.seq (.ife (.cmp .isin (.var 2) (.var 1)) (.seq (.raise "Twice" (.fst (.cons (.lit (.str "the place ")) (.cons (.rpr (.var 2)) (.cons (.lit (.str " stands twice")) .nil))))) .nop) .nop) (.seq (.app 1 (.var 2)) .nop))))) (r.map tx) [.val P,.own (pre.map tx),s]=.next [.val P,.own ((pre++r).map tx),s']
  |some x=>∃J',v9 (Uq [2] (run 1000 (evP 1000 G T n) G (.seq (.ife (.not (.call "is_word" (.cons (.var 2) .nil))) (.seq (.raise "NoWord" (.fst (.cons (.rpr (.var 2)) (.cons (.lit (.str " is no word of one to eight small letters")) .nil)))) .nop) .nop) (.seq (.ife (.cmp .isin (.var 2) (.var 1)) (.seq (.raise "Twice" (.fst (.cons (.lit (.str "the place ")) (.cons (.rpr (.var 2)) (.cons (.lit (.str " stands twice")) .nil))))) .nop) .nop) (.seq (.app 1 (.var 2)) .nop))))) (r.map tx) [.val P,.own (pre.map tx),s]=.err x J'
 |[],pre,s,_,_=>⟨s,by rw[Pk,j8b,Xq]⟩
 |l::r,pre,s,hl,hr=>by
  obtain⟨ha,hb⟩:=hr l (km ..);have w:=hT l ha hb;have rb:=j41 ha hb;have r1:∀J:En,Mt "NoWord" (U3 (aa (.a [.e (.str (aK (sL l))),.e (.str " is no word of one to eight small letters")]))) (G (bang "NoWord")) J=.err "NoWord" J:=λJ=>by
   rw[gNW,O5 (ys:=[aK (sL l)," is no word of one to eight small letters"]) (by simp only[xn,T5];omega) (by
    have e:qz (.str (aK (sL l)))=aa (aK (sL l)):=by unfold qz;exact if_pos (Xa rb (by decide))
    have s2:qz (.str " is no word of one to eight small letters")=aa (aF " is no word of one to eight small letters"):=by unfold qz;exact if_pos (by decide)
    simp only[J2,Rk.d,e,s2])]
   rfl
  have r2:∀J:En,Mt "Twice" (U3 (aa (.a [.e (.str "the place "),.e (.str (aK (sL l))),.e (.str " stands twice")]))) (G (bang "Twice")) J=.err "Twice" J:=λJ=>by
   rw[gTw,O5 (ys:=["the place ",aK (sL l)," stands twice"]) (by simp only[xn,T5];omega) (by
    have e:qz (.str (aK (sL l)))=aa (aK (sL l)):=by unfold qz;exact if_pos (Xa rb (by decide))
    have s1:qz (.str "the place ")=aa (aF "the place "):=by unfold qz;exact if_pos (by decide)
    have s2:qz (.str " stands twice")=aa (aF " stands twice"):=by unfold qz;exact if_pos (by decide)
    simp only[J2,Rk.d,e,s1,s2])]
   rfl
  rw[X5];unfold Zy;cases hw:isW l with
  |false =>
   rw[hw]at w;rw[if_pos rfl];refine⟨[.val P,.own (pre.map tx),.val (tx l)],?_⟩;rw[Wg];simp only[Zj];ext;erw[w,j1f rb];rw[r1]
   try ext
  |true =>
   rw[hw]at w;rw[if_neg (by simp)];have ii:=Kl (L:=pre) (l:=l) D.lst (.inr rfl);cases hc:pre.contains l with
   |true =>
    rw[hc]at ii;rw[if_pos rfl];refine⟨[.val P,.own (pre.map tx),.val (tx l)],?_⟩;rw[Wg];simp only[Zj];ext;erw[w,ii,j1f rb];rw[r2]
    try ext
   |false =>
    rw[hc]at ii;rw[if_neg (by simp)];have ih:=j44 (n:=n) (P:=P) hT r (pre++[l]) (.val (tx l)) (by rw[X6];simp at hl ⊢;omega) λx hx=>hr x (kh _ hx);have hpl:(pre.map tx).length<=1000:=by rw[xm];simp at hl;omega
    have step:Uq [2] (run 1000 (evP 1000 G T n) G (.seq (.ife (.not (.call "is_word" (.cons (.var 2) .nil))) (.seq (.raise "NoWord" (.fst (.cons (.rpr (.var 2)) (.cons (.lit (.str " is no word of one to eight small letters")) .nil)))) .nop) .nop) (.seq (.ife (.cmp .isin (.var 2) (.var 1)) (.seq (.raise "Twice" (.fst (.cons (.lit (.str "the place ")) (.cons (.rpr (.var 2)) (.cons (.lit (.str " stands twice")) .nil))))) .nop) .nop) (.seq (.app 1 (.var 2)) .nop)))) (tx l) [.val P,.own (pre.map tx),s]=.next [.val P,.own ((pre++[l]).map tx),.val (tx l)]:=by simp only[Zj];ext;erw[w,ii];rw[ph];rfl
    rw[Dy step];rw[Xg]at ih;exact ih
def jpv{P:D}(hP:P.sqv=aa (t,l)):Wt (aa (.v (.e P)))=aa (.i l):=by have:=W7 hP;subst this;cases t<;>rfl
def jj1{P:D}(hP:P.sqv=aa (t,l)):vh .len (aa (.a [.e P]))=aa (.v (.e (.int l.length))):=by have:=W7 hP;subst this;cases t<;>simp[vh,Zb,D.seq,Rk.d,rkW]
def j40(hm:0<=m/\m<=1000):evP 1000 G T (n+1) "refuse_wrong_size" [.int m]=if m<1\/6<m then .err "WrongSize" else .val .non:=by
 rw[jt (F:=Js) (by rfl) rfl];simp only[Js,J7,enter];have rai:∀J:En,Mt "WrongSize" (U3 (aa (.a [.e (.str "there are "),.e (.int 1),.e (.str " to "),.e (.int 6),.e (.str " places, not "),.e (.int m)]))) (G (bang "WrongSize")) J=.err "WrongSize" J:=λJ=>by
  rw[gWS,O5 (ys:=["there are ",aF (toString (1:Int))," to ",aF (toString (6:Int))," places, not ",aF (toString m)]) (by simp only[xn,T5];omega) (by
   have s1:qz (.str "there are ")=aa (aF "there are "):=by unfold qz;exact if_pos (by decide)
   have s2:qz (.str " to ")=aa (aF " to "):=by unfold qz;exact if_pos (by decide)
   have s3:qz (.str " places, not ")=aa (aF " places, not "):=by unfold qz;exact if_pos (by decide)
   simp only[J2,Rk.d,s1,s2,s3,j5c (a:=1) nofun,j5c (a:=6) nofun,j5c (a:=m) nofun])]
  rfl
 by_cases h1:m<1
 .rw[if_pos (.inl h1)];ext;simp only[gF];ext;simp only[gF,gM,Kq,Bl];rw[rai];ext
 .by_cases h2:6<m
  .rw[if_pos (.inr h2)];ext;simp only[gF];ext;simp only[gM];ext;simp only[gF,gM,Kq,Bl];rw[rai];ext
  .rw[if_neg nofun];ext;simp only[gF];ext;simp only[gM];ext
def jbk(h:G (bang x)=aa (.lst ks)):(G (bang x)).isSome=af:=by rw[h];rfl
def W9{P:D}{L:List (List Nat)}(hP:P.sqv=aa (t,L.map tx))(hk:okT L) :
  evP 1000 G T (n+3) "refuse_wrong_places" [P]=if L.length<1\/6<L.length then .err "WrongSize" else match Zy [] L with
   |some x=>.err x
   |none=>.val .non:=by
 rw[jt (F:=Jj) (by rfl) rfl];simp only[Jj,vy,enter];have rs:=j40 (n:=n+1) (m:=(L.length:Int)) (by have:=hk.1;omega);ext;rw[jj1 hP];ext;by_cases h:L.length<1\/6<L.length
 .rw[if_pos nofun]at rs;rw[if_pos h,rs];ext;simp only[Bg,Be,Cq,jkc,Yd];ext
  try simp only[Yd,Cr]
  try rw[jj1 hP]
  ext
  try simp only[Yd,Cr,Cu,X5,Pk,Rk.d,xm]
  rw[rs];simp only[j0o (jbk gWS)];ext
 .rw[if_neg nofun]at rs;rw[if_neg h,rs];ext;rw[jpv hP];ext;have lp:=j44 (n:=n+2) (P:=P) (λl h1 h2=>Vp (n:=n) h1 nofun) L [] .un (by have:=hk.1;simp;omega) hk.2;cases e:Zy [] L with
  |none =>rw[e]at lp;obtain⟨s',lp⟩:=lp;rw[Pk]at lp;rw[lp];ext
  |some x =>rw[e]at lp;obtain⟨J',lp⟩:=lp;rw[Pk]at lp;rw[lp];ext
def jiq(n:Int):lt n=0\/low (lt n)=af:=by
 unfold lt;have h:∀c∈letters,low c=af:=by decide
 rw[xx];cases e:letters[n.toNat]? with
 |none=>exact .inl rfl
 |some c=>exact .inr (h c (Pg e))
def Kf(h:0<=n/\n<26):low (lt n)=af:=by
 rcases jiq n with z|z
 .obtain⟨i,rfl⟩:∃i:Nat,n=(i:Int):=⟨n.toNat,by omega⟩
  have key:∀i:Fin 26,letters.getD i.val 0≠0:=by decide
  exact absurd z (key ⟨i,by omega⟩)
 .exact z
def j4d(h:low c=af):c<128:=by unfold low at h;rw[X3]at h;have:=of_decide_eq_true h.2;omega
def j3s:∀x∈wrd c m k,low x=af:=by
 have hl:∀x∈Vk c,low x=af:=λx hx=>by obtain⟨k,_,rfl⟩:=Xm.mp hx;exact Kf nofun
 have hs:∀x∈Zm c (szN c),low x=af:=λx hx=>by obtain⟨k,_,rfl⟩:=Xm.mp hx;exact Kf nofun
 intro x hx;unfold wrd at hx;split at hx
 .split at hx
  .exact hl x (Ph hx)
  .exact hl x (Pj hx)
 .rcases X8.mp hx with z|z
  .exact hs x (Ph z)
  .rcases xj.mp z with z|z
   .rw[z];exact Kf nofun
   .exact hs x (Pj z)
def j9v:(wrd c m k).length<=8:=by
 have a:=j0q c;have l8:=Ja c;have ls:=zu c (szN c);unfold wrd;split
 .split
  .rw[Xk];omega
  .rw[Xo];omega
 .rw[X6,xn,Xk,Xo];omega
noncomputable def wL(c:Int)(m:Nat):List (List Nat):=(aZ m).map λk=>wrd c m k
def j0v(c:Int)(m:Nat):(Jx c m).map D.str=(wL c m).map tx:=by unfold Jx wL;rw[Xe,Xe];rfl
def jls(c:Int)(m:Nat):∀l∈wL c m,asc l/\l.length<=100:=λl hl=>by obtain⟨k,_,rfl⟩:=Xm.mp hl;exact⟨λx hx=>j4d (j3s x hx),Xa j9v (by decide)⟩
theorem Ei:∀{r pre:List (List Nat)},(∀l∈r,isW l=af)->(pre++r).Nodup->Zy pre r=ag
 |[],_,_,_=>rfl
 |l::r,pre,h,hn=>by
  unfold Zy;rw[h l (km ..),if_neg (by simp)];have hc:pre.contains l=ae:=by
   have:l∉pre:=λz=>by rw[Tv]at hn;exact hn.2.2 l z l (km ..) rfl
   simpa using this
  rw[hc,if_neg (by simp)];exact Ei (λx hx=>h x (kh _ hx)) (by rw[Xg];exact hn)
def jgl(hm:m<=6):∀l∈wL c m,isW l=af:=λl hl=>by obtain⟨k,hk,rfl⟩:=Xm.mp hl;have h:=jdo (c:=c) hm (Pq.mp hk);unfold isW;rw[decide_eq_true h.1,decide_eq_true h.2,Bool.and_self,hU,Xf];exact j3s
def j9w(hm:m<=6):(wL c m).Nodup:=by unfold wL;unfold mS;rw[jI];exact m6 (λhi hj h e=>h (jdp hm (Pq.mp hi) (Pq.mp hj) e)) (List.nodup_range (n:=m))
def jbw(L:List (List Nat)):D.depL (L.map tx)<=0:=D.depL_of λd hd=>by obtain⟨x,_,rfl⟩:=Xm.mp hd;simp[D.dep]
noncomputable def lp:List Nat:=[40]
noncomputable def rp:List Nat:=[41]
noncomputable def nt:List Nat:=[110,111,116]
def lpS:("(":ao)=sL lp:=by decide +kernel
def rpS:(")":ao)=sL rp:=by decide +kernel
def Dl(h:a≠b):(sL a==sL b)=ae:=by simpa using λq=>h (Qw q)
noncomputable def Ii:Rc->Option Bool
 |.val (.bl b)=>aa b
 |_=>ag
noncomputable def asInt:Rc->Option Int
 |.val (.int b)=>aa b
 |_=>ag
def j4w(h:(Ii r==aa b)=af):r=.val (.bl b):=by
 have:=beq_iff_eq.mp h;unfold Ii at this;split at this
 .cases this;rfl
 .cases this
def j35(h:(asInt r==aa b)=af):r=.val (.int b):=by
 have:=beq_iff_eq.mp h;unfold asInt at this;split at this
 .cases this;rfl
 .cases this
noncomputable def b2i(b:Bool):Int:=if b then 1 else 0
noncomputable def kds:List (List Nat):=[nt,[97,108,108],[97,110,121],[111,100,100],[108,101,97,115,116],[106,117,115,116],[116,97,98,108,101],[114,105,110,103],[106,111,105,110,101,100]]
noncomputable def kS:List ao:=["not","all","any","odd","least","just","table","ring","joined"]
def jne:kS=kds.map sL:=by decide +kernel
def jdq(n:Nat):∀i:Fin 9,evP 1000 G T (n+1) "wants_own" [tx (kds.getD i.val [])]=.val (.bl (decide (4<=i.val/\i.val<=6))):=λi=>j4w (of_decide_eq_true (p:=∀i:Fin 9,(Ii (evP 1000 G T (n+1) "wants_own" [tx (kds.getD i.val [])])==aa (decide (4<=i.val/\i.val<=6)))=af) (by kernel_rfl) i)
def K8:∀i:Fin 9,(sL (kds.getD i.val [])==("place":ao))=ae:=by decide +kernel
def Uo{Ls:List (List Nat)}(h:Ls.drop k=p::r):(Ls.map sL).getD k ""=sL p:=by
 have:(Ls.drop k)[0]?=aa p:=by rw[h];rfl
 rw[List.getElem?_drop,Nat.add_zero]at this;rw[xx,Xn,this];rfl
def O9{Ls:List (List Nat)}(h:Ls.drop k=[]):(Ls.map sL).getD k ""=sL []:=by have hl:=List.drop_eq_nil_iff.mp h;rw[xx,Th (by rw[xm];exact hl)];rfl
def j1q{L:List (List Nat)}(s:List D->D)(hs:s=D.tup\/s=D.lst):vd .notin (tx l) (s (L.map tx))=aa (!L.contains l):=by
 have:=Kl (L:=L) (l:=l) s hs;have d:=j4o L;have d2:(tx l).dep<=90:=by simp[D.dep]
 rcases hs with rfl|rfl
 .simp only[vd,D.sqv,d,d2,and_self,if_true]at this ⊢;rw[aJ this]
 .simp only[vd,D.sqv,d,d2,and_self,if_true]at this ⊢;rw[aJ this]
structure Pc(p:List Nat):Prop where
 a:asc p
 l:p.length<=100
def jbu{α:Type}{l a b:List α}(h:l=a++b):l.drop (l.length-b.length)=b:=by subst h;rw[X6,Nat.add_sub_cancel];exact List.drop_left
noncomputable abbrev Ps:=List (List Nat)
inductive Fm where
 |pl (w:List Nat)
 |br (i:Nat) (own:List Nat) (fs:List Fm)
mutual
noncomputable def fD:Fm->D
 |.pl w=>.tup [.str "place",tx w,.tup []]
 |.br i own fs=>.tup [tx (kds.getD i []),tx own,.tup (fDs fs)]
noncomputable def fDs:List Fm->List D
 |[]=>[]
 |f::fs=>fD f::fDs fs
end
theorem Bd:∀fs:List Fm,fDs fs=fs.map fD
 |[]=>by rw[fDs];rfl
 |f::fs=>by rw[fDs,Bd fs];rfl
noncomputable def wnt(i:Nat):Bool:=decide (4<=i/\i<=6)
noncomputable def okc(i c:Nat):Bool:=if i=0 then c==1 else if i=6 then decide (1<=c/\c<=4)else if 7<=i then c==6 else decide (1<=c)
noncomputable def dgt(l:List Nat):Bool:=l.all λc=>decide (48<=c/\c<=57)
noncomputable def isNm(l:List Nat):Bool:=dgt l&&(l.length==1 || (l.length==2&&l.getD 0 0 != 48))
noncomputable def b01(l:List Nat):Bool:=l.all λc=>c==48 || c==49
noncomputable def oko(i:Nat)(own:List Nat)(c:Nat):Bool:=if i=6 then own.length==2^c&&b01 own else if i=4\/i=5 then isNm own else af
noncomputable def wT(f:Ps->Option (Fm×Ps)):Nat->Ps->Option (List Fm×Ps)
 |0,_=>ag
 |_+1,[]=>ag
 |k+1,p::r=>if p=rp then aa ([],r)else match f (p::r) with
  |none=>ag
  |some (d,r')=>match wT f k r' with
   |none=>ag
   |some (ds,r2)=>aa (d::ds,r2)
def Lj(h:p≠rp):wT f (k+1) (p::r)=match f (p::r) with
  |none=>ag
  |some (d,r')=>match wT f k r' with
   |none=>ag
   |some (ds,r2)=>aa (d::ds,r2):=if_neg h
noncomputable def eT(i:Nat)(own:List Nat):Option (List Fm×Ps)->Option (Fm×Ps)
 |none=>ag
 |some (fs,r)=>if (okc i fs.length&&oko i own fs.length)=af then aa (.br i own fs,r)else ag
noncomputable def bI(f:Ps->Option (Fm×Ps))(i:Nat)(r:Ps):Option (Fm×Ps):=if wnt i=af then match r with
  |[]=>ag
  |own::r1=>eT i own (wT f (r1.length+1) r1)
 else eT i [] (wT f (r.length+1) r)
noncomputable def bT(f:Ps->Option (Fm×Ps)):Ps->Option (Fm×Ps)
 |[]=>ag
 |kd::r=>if kds.contains kd=af then bI f (kds.idxOf kd) r else ag
def Vf:bT f (kd::r)=if kds.contains kd=af then bI f (kds.idxOf kd) r else ag:=(rfl)
def Oh(h:wnt i=ae):bI f i r=eT i [] (wT f (r.length+1) r):=if_neg (by rw[h];decide)
def j6l(h:wnt i=af):bI f i []=ag:=if_pos h
def Fq(h:wnt i=af):bI f i (own::r)=eT i own (wT f (r.length+1) r):=if_pos h
noncomputable def fT:Nat->Ps->Option (Fm×Ps)
 |_,[]=>ag
 |0,p::r=>if p=lp then ag else if isW p=af then aa (.pl p,r)else ag
 |m+1,p::r=>if p=lp then bT (fT m) r else if isW p=af then aa (.pl p,r)else ag
def O7(m:Nat):fT m []=ag:=by cases m<;>rfl
def Z5(h:p≠lp):fT m (p::r)=if isW p=af then aa (.pl p,r)else ag:=by cases m<;>(unfold fT;rw[if_neg h])
def Rp:fT (m+1) (lp::r)=bT (fT m) r:=by unfold fT;rw[if_pos rfl]
def Suf(f:Ps->Option (Fm×Ps)):Prop:=∀ps d r,f ps=aa (d,r)->∃p q,ps=p::(q++r)
theorem Fy(hf:Suf f):∀{k:Nat}{ps:Ps}{ds:List Fm}{r:Ps},wT f k ps=aa (ds,r)->∃q,ps=q++rp::r
 |0,_,_,_,h=>by cases h
 |_+1,[],_,_,h=>by cases h
 |k+1,p::ps,ds,r,h=>by
  unfold wT at h;split at h
  .rename_i e;cases h;exact⟨[],by rw[e];rfl⟩
  .split at h
   .cases h
   .rename_i d r' e;split at h
    .cases h
    .rename_i ds' r2 e2;cases h;obtain⟨p',q,eq⟩:=hf _ _ _ e;obtain⟨q2,e3⟩:=Fy hf e2;exact⟨p'::(q++q2),by rw[eq,e3];simp⟩
def jl0(hf:Suf f)(h:bT f ps=aa (d,r)):∃p q,ps=p::(q++r):=by
 cases ps with
 |nil=>cases h
 |cons kd ps =>
  rw[Vf]at h;split at h
  .generalize kds.idxOf kd=i at h;cases hw:wnt i with
   |true =>
    cases ps with
    |nil=>rw[j6l hw]at h;cases h
    |cons own r1 =>
     rw[Fq hw]at h;cases e:wT f (r1.length+1) r1 with
     |none=>rw[e]at h;cases h
     |some x =>
      obtain⟨fs,r2⟩:=x;rw[e]at h;unfold eT at h;dsimp only at h;split at h
      .cases h;obtain⟨q,eq⟩:=Fy hf e;exact⟨kd,own::(q++[rp]),by rw[eq];simp⟩
      .cases h
   |false =>
    rw[Oh hw]at h;cases e:wT f (ps.length+1) ps with
    |none=>rw[e]at h;cases h
    |some x =>
     obtain⟨fs,r2⟩:=x;rw[e]at h;unfold eT at h;dsimp only at h;split at h
     .cases h;obtain⟨q,eq⟩:=Fy hf e;exact⟨kd,q++[rp],by rw[eq];simp⟩
     .cases h
  .cases h
theorem O6:∀m,Suf (fT m)
 |0=>λps d r h=>by
  cases ps with
  |nil=>cases h
  |cons p ps =>
   unfold fT at h;split at h
   .cases h
   .split at h
    .cases h;exact⟨p,[],rfl⟩
    .cases h
 |m+1=>λps d r h=>by
  cases ps with
  |nil=>cases h
  |cons p ps =>
   unfold fT at h;split at h
   .obtain⟨p',q,e⟩:=jl0 (O6 m) h;exact⟨p,p'::q,by rw[e];rfl⟩
   .split at h
    .cases h;exact⟨p,[],rfl⟩
    .cases h
def jnd(h:kds.contains kd=af):kds.idxOf kd<9/\kd=kds.getD (kds.idxOf kd) []:=by
 have hm:kd∈kds:=by simpa using h
 have hl:=dj hm;refine⟨hl,?_⟩;rw[xx,xf hl];exact(List.getElem_idxOf hl).symm
def gP:G "PLACE"=aa (.str "place"):=by rfl
def gMB:G "MOST_BRACKETS"=aa (.int 8):=by rfl
def gK:G "KINDS"=aa (.tup [.str "not",.str "all",.str "any",.str "odd",.str "least",.str "just",.str "table",.str "ring",.str "joined"]):=by rfl
def gCK:G "COUNTING_KINDS"=aa (.tup [.str "least",.str "just"]):=by rfl
def gTK:G "TYING_KINDS"=aa (.tup [.str "ring",.str "joined"]):=by rfl
def gNT:G (bang "NoText")=aa (.lst [.str "NoText"]):=by rfl
def gMT:G "MOST_TABLE_FORMS"=aa (.int 4):=by rfl
def jo3:G "TIES"=aa (.tup [.tup [.int 0,.int 1],.tup [.int 0,.int 2],.tup [.int 0,.int 3],.tup [.int 1,.int 2],.tup [.int 1,.int 3],.tup [.int 2,.int 3]]):=by rfl
def jd4:∀i:Fin 9,(sL (kds.getD i.val [])==("not":ao))=decide (i.val=0):=by decide +kernel
def jd3:∀i:Fin 9,(sL (kds.getD i.val [])==("table":ao))=decide (i.val=6):=by decide +kernel
def jnl:∀i:Fin 9,vd .isin (tx (kds.getD i.val [])) (.tup [.str "ring",.str "joined"])=aa (decide (7<=i.val)):=by decide +kernel
def jno:∀i:Fin 9,vd .isin (tx (kds.getD i.val [])) (.tup [.str "least",.str "just"])=aa (decide (i.val=4\/i.val=5)):=by decide +kernel
def cI1{c:Nat}:cmpI .eq (c:Int) 1=aa (c==1):=congrArg aa (by
 by_cases z:c=1
 .rw[z];rfl
 .rw[decide_eq_false nofun];simp[z])
def cI6{c:Nat}:cmpI .eq (c:Int) 6=aa (c==6):=congrArg aa (by
 by_cases z:c=6
 .rw[z];rfl
 .rw[decide_eq_false nofun];simp[z])
def cG1{c:Nat}:cmpI .ge (c:Int) 1=aa (decide (1<=c)):=congrArg aa (by
 by_cases z:1<=c
 .rw[decide_eq_true z,decide_eq_true nofun]
 .rw[decide_eq_false z,decide_eq_false nofun])
def cL4{c:Nat}:cmpI .le (c:Int) 4=aa (decide (c<=4)):=congrArg aa (by
 by_cases z:c<=4
 .rw[decide_eq_true z,decide_eq_true nofun]
 .rw[decide_eq_false z,decide_eq_false nofun])
def j95{n c:Nat}(i:Fin 9):evP 1000 G T (n+1) "takes_count" [tx (kds.getD i.val []),.int (c:Int)]=.val (.bl (okc i.val c)):=by
 rw[jt (F:=Ve) (by rfl) rfl];simp only[Ve,Qq,enter];ext;rw[jd4];unfold okc;by_cases h0:i.val=0
 .rw[decide_eq_true h0,if_pos h0];ext;rw[cI1];ext
 .rw[decide_eq_false h0,if_neg h0];ext;rw[jd3];by_cases h6:i.val=6
  .rw[decide_eq_true h6,if_pos h6];ext;rw[cG1];by_cases a:1<=c
   .rw[decide_eq_true a];ext;simp only[gMT];ext;rw[cL4];ext;have e:decide (c<=4)=decide (1<=c/\c<=4):=by
     by_cases z:c<=4
     .rw[decide_eq_true z,decide_eq_true ⟨a,z⟩]
     .rw[decide_eq_false z,decide_eq_false (λy=>z y.2)]
    rw[e]
   .rw[decide_eq_false a,decide_eq_false (λy=>a y.1)];ext
  .rw[decide_eq_false h6,if_neg h6];ext;simp only[gTK];ext;rw[jnl];by_cases h7:7<=i.val
   .rw[decide_eq_true h7,if_pos h7];ext;simp only[jo3];ext;rw[show cmpI .eq (c:Int) ((6:Nat):Int)=aa (c==6)from cI6];ext
   .rw[decide_eq_false h7,if_neg h7];ext;rw[cG1];ext
def j4b(h:asc l)(hl:l.length<=1000)(hf:∀c,c<128->inS (ch1 c) g=f c):evP 1000 G T (n+1) "is_made_of" [.str (sL l),.str g]=.val (.bl (l.all f)):=by
 rw[jt (F:=Jy) (by rfl) rfl];simp only[Jy,Q0,enter];ext;rw[j1b (j34 h),j2q,vp (l:=(l.map f).map D.bl) (by rfl) (by rw[xm];omega) ?_ (.inl rfl)]
 .ext;rw[eD];rfl
 .rw[Xe];refine zj λc hc=>J1 (by ext) ?_;ext;rw[hf c (h c hc)];rfl
def jql:∀c,c<128->inS (ch1 c) ("01":ao)=(c==48 || c==49):=by
 have:∀c:Fin 128,inS (ch1 c.val) ("01":ao)=(c.val==48 || c.val==49):=by decide +kernel
 exact λc h=>this ⟨c,h⟩
def jqk:∀c,c<128->inS (ch1 c) ("0123456789":ao)=decide (48<=c/\c<=57):=by
 have:∀c:Fin 128,inS (ch1 c.val) ("0123456789":ao)=decide (48<=c.val/\c.val<=57):=by decide +kernel
 exact λc h=>this ⟨c,h⟩
def ne0:∀c,c<128->vd .ne (.str (ch1 c)) (.str ("0":ao))=aa (c != 48):=by
 have:∀c:Fin 128,vd .ne (.str (ch1 c.val)) (.str ("0":ao))=aa (c.val != 48):=by decide +kernel
 exact λc h=>this ⟨c,h⟩
def j8n(h:asc l)(hl:l.length<=1000):evP 1000 G T (n+2) "is_number" [.str (sL l)]=.val (.bl (isNm l)):=by
 rw[jt (F:=U5) (by rfl) rfl];simp only[U5,V6,enter];have sl:(sL l).length=l.length:=j4;have sl':(sL l).length<=1000000:=by omega
 ext;rw[j4b h hl jqk];unfold isNm dgt;cases hd:l.all λc=>decide (48<=c/\c<=57) with
 |false=>ext;rfl
 |true =>
  ext;rw[sl,cI1];by_cases h1:l.length=1
  .rw[h1];ext;rfl
  .rw[show(l.length==1)=ae from by simpa using h1];ext;have e2:cmpI .eq (l.length:Int) 2=aa (l.length==2):=congrArg aa (by
    by_cases z:l.length=2
    .rw[z];rfl
    .rw[decide_eq_false nofun];simp[z])
   rw[sl,e2];by_cases h2:l.length=2
   .obtain⟨a,b,rfl⟩:∃a b,l=[a,b]:=by
     match l,h2 with
     |[a,b],_=>exact⟨a,b,rfl⟩
    rw[show(([a,b]:List Nat).length==2)=af from rfl];have ha:=h a (km ..);ext;rw[J5,show atI [a,b] 0=aa a from rfl];ext;rw[show(⟨#[a]⟩:ao)=ch1 a from rfl,ne0 a ha];ext;rfl
   .rw[show(l.length==2)=ae from by simpa using h2];ext;rfl
def j7k(n:Nat):∀c:Fin 4,evP 1000 G T (n+3) "count_of_rows" [.int ((c.val+1:Nat):Int)]=.val (.int ((2^(c.val+1):Nat):Int)):=λc=>j35 (of_decide_eq_true (p:=∀c:Fin 4,(asInt (evP 1000 G T (n+3) "count_of_rows" [.int ((c.val+1:Nat):Int)])==aa ((2^(c.val+1):Nat):Int))=af) (by kernel_rfl) c)
def jex{c:Nat}(i:Fin 9)(h:asc l)(hl:l.length<=1000)(hc:okc i.val c=af):evP 1000 G T (n+4) "takes_own" [tx (kds.getD i.val []),tx l,.int (c:Int)]=.val (.bl (oko i.val l c)):=by
 rw[jt (F:=U4) (by rfl) rfl];simp only[U4,V4,enter];have sl:(sL l).length=l.length:=j4;have sl':(sL l).length<=1000000:=by omega
 ext;rw[jd3];unfold oko;by_cases h6:i.val=6
 .rw[decide_eq_true h6,if_pos h6];have hc:1<=c/\c<=4:=by unfold okc at hc;rw[h6,if_neg (by decide),if_pos rfl]at hc;exact of_decide_eq_true hc
  obtain⟨k,rfl⟩:∃k,c=k+1:=⟨c-1,by omega⟩
  have rm:=j7k n ⟨k,by omega⟩;ext;rw[rm,sl];ext;have e:cmpI .eq (l.length:Int) ((2^(k+1):Nat):Int)=aa (l.length==2^(k+1)):=congrArg aa (by
   by_cases z:l.length=2^(k+1)
   .rw[z];simp
   .rw[decide_eq_false nofun];simp[z])
  rw[e];cases hz:l.length==2^(k+1) with
  |false=>ext;rfl
  |true =>ext;rw[j4b h hl jql];ext;rfl
 .rw[decide_eq_false h6,if_neg h6];ext;simp only[gCK];ext;rw[jno];by_cases h4:i.val=4\/i.val=5
  .rw[decide_eq_true h4,if_pos h4];ext;rw[j8n h hl];ext
  .rw[decide_eq_false h4,if_neg h4];ext
def Uj(h:Pc l)(hy:(aF y).length<=10000)(J:En):Vz "NoText" (U3 (consW (jax (aa (.v (.e (tx l))))) (aa (.a [.e (.str (aF y))])))) (G (bang "NoText")) J=.err "NoText" J:=by
 have rb:=j41 h.a h.l;rw[j1f rb,Bl,gNT,O5 (ys:=[aK (sL l),aF y]) (by simp) (by
  have e:qz (.str (aK (sL l)))=aa (aK (sL l)):=by unfold qz;exact if_pos (Xa rb (by decide))
  have s2:qz (.str (aF y))=aa (aF y):=by unfold qz;exact if_pos hy
  simp only[J2,Rk.d,e,s2])]
 rfl
def jml(J:En):Vz "NoText" (U3 (aa (.a [.e (.str "more than "),.e (.int 8),.e (.str " brackets stand unclosed at once")]))) (G (bang "NoText")) J=.err "NoText" J:=by rw[gNT,O5 (ys:=["more than ","8"," brackets stand unclosed at once"]) (by simp) (by decide +kernel)];rfl
noncomputable def fR(Ls:Ps):Option (Fm×Ps)->Rc
 |some (f,r)=>.mval (fD f) (Ls.length-r.length)
 |none=>.merr "NoText"
def Tkn(Ls:Ps)(n m:Nat)(b:Int):Prop:=∀k:Nat,evP 1000 G T n (mq "form_taken") [.lst ((Ls.map sL).map D.str),.int (k:Int),.int b]=fR Ls (fT m (Ls.drop k))
section
variable{Ls:Ps}{n m:Nat}{b:Int}{e0 e2 e3:Sv}{g:En->Nat->Sm}
theorem whl(h:Tkn Ls n m b):∀(K j F:Nat)(acc:List D),(Ls.drop j).length<K->K<=F->acc.length+K<=1000 ->
  match wT (fT m) K (Ls.drop j) with
  |some (fs,r)=>Jl (λJ k=>jh 1000 (evP 1000 G T n) G (Ls.map sL) (.appC 4 "form_taken" (.cons (.var 1) .nil) .nop) J k) g ")" (Ls.map sL) F [e0,.val (.int b),e2,e3,.own acc] j=g [e0,.val (.int b),e2,e3,.own (acc++fDs fs)] (Ls.length-r.length-1)
  |none=>∃J,Jl (λJ k=>jh 1000 (evP 1000 G T n) G (Ls.map sL) (.appC 4 "form_taken" (.cons (.var 1) .nil) .nop) J k) g ")" (Ls.map sL) F [e0,.val (.int b),e2,e3,.own acc] j=.err "NoText" J
 |0,_,_,_,hK,_,_=>absurd hK (kr _)
 |K+1,j,F,acc,hK,hF,ha=>by
  obtain⟨F,rfl⟩:∃q,F=q+1:=⟨F-1,by omega⟩
  have hj:=h j;cases hd:Ls.drop j with
  |nil =>
   rw[hd,O7]at hj;show ∃J,_=_;refine⟨[e0,.val (.int b),e2,e3,.own acc],?_⟩;unfold Jl;rw[if_neg (by rw[O9 hd,rpS];exact λq=>absurd (Qw q) (by decide))];have e:jh 1000 (evP 1000 G T n) G (Ls.map sL) (.appC 4 "form_taken" (.cons (.var 1) .nil) .nop) [e0,.val (.int b),e2,e3,.own acc] j=.err "NoText" [e0,.val (.int b),e2,e3,.own acc]:=by ext;rw[hj];exact Oe (by rw[gNT];rfl)
   rw[e]
  |cons p r =>
   have hr:Ls.drop (j+1)=r:=by rw[<-dB,hd];rfl
   have ll:(Ls.drop j).length=r.length+1:=by rw[hd];rfl
   have ld:(Ls.drop j).length=Ls.length-j:=Xo ..;by_cases hp:p=rp
   .subst hp;have ew:wT (fT m) (K+1) (rp::r)=aa ([],r):=by unfold wT;rw[if_pos rfl]
    rw[ew];show _=_;unfold Jl;rw[if_pos (by rw[Uo hd,rpS]),fDs,Xq];congr 1;omega
   .rw[Lj hp];have hw:Jl (λJ k=>jh 1000 (evP 1000 G T n) G (Ls.map sL) (.appC 4 "form_taken" (.cons (.var 1) .nil) .nop) J k) g ")" (Ls.map sL) (F+1) [e0,.val (.int b),e2,e3,.own acc] j=match jh 1000 (evP 1000 G T n) G (Ls.map sL) (.appC 4 "form_taken" (.cons (.var 1) .nil) .nop) [e0,.val (.int b),e2,e3,.own acc] j with
      |.next J' k'=>Jl (λJ k=>jh 1000 (evP 1000 G T n) G (Ls.map sL) (.appC 4 "form_taken" (.cons (.var 1) .nil) .nop) J k) g ")" (Ls.map sL) F J' k'
      |.ret d k'=>.ret d k'
      |.err x J'=>.err x J'
      |.no=>.no:=by
     show(if _ then _ else _)=_;rw[if_neg (by rw[Uo hd,rpS];exact λq=>hp (Qw q))]
     try rfl
    rw[hw];rw[hd]at hj;cases e1:fT m (p::r) with
    |none =>
     rw[e1]at hj;show ∃J,_=_;refine⟨[e0,.val (.int b),e2,e3,.own acc],?_⟩;have e:jh 1000 (evP 1000 G T n) G (Ls.map sL) (.appC 4 "form_taken" (.cons (.var 1) .nil) .nop) [e0,.val (.int b),e2,e3,.own acc] j=.err "NoText" [e0,.val (.int b),e2,e3,.own acc]:=by ext;rw[hj];exact Oe (by rw[gNT];rfl)
     rw[e]
    |some x =>
     obtain⟨d,r'⟩:=x;rw[e1]at hj;obtain⟨p',q,eq⟩:=O6 m _ _ _ e1;have eL:Ls=Ls.take j++(p'::(q++r')):=by rw[<-eq,<-hd,iu]
     have d1:Ls.drop (Ls.length-r'.length)=r':=jbu (a:=Ls.take j++(p'::q)) (by rw[Xg];exact eL);have lr:r'.length<(Ls.drop j).length:=by rw[hd,eq];simp;omega
     have e:jh 1000 (evP 1000 G T n) G (Ls.map sL) (.appC 4 "form_taken" (.cons (.var 1) .nil) .nop) [e0,.val (.int b),e2,e3,.own acc] j=.next [e0,.val (.int b),e2,e3,.own (acc++[fD d])] (Ls.length-r'.length):=by ext;rw[hj];unfold fR;ext
     rw[e];dsimp only;have ih:=whl h K (Ls.length-r'.length) F (acc++[fD d]) (by rw[d1];omega) nofun (by simp;omega)
     rw[d1]at ih;cases e2:wT (fT m) K r' with
     |none=>rw[e2]at ih;exact ih
     |some y =>obtain⟨fs,r2⟩:=y;rw[e2]at ih;show _=_;rw[ih,fDs,Xg];rfl
end
section
variable{Ls:Ps}{n m:Nat}{b:Int}
def jcw :vd .notin (tx l) (.tup [.str "not",.str "all",.str "any",.str "odd",.str "least",.str "just",.str "table",.str "ring",.str "joined"])=aa (!kds.contains l):=by
 have e:[D.str "not",.str "all",.str "any",.str "odd",.str "least",.str "just",.str "table",.str "ring",.str "joined"]=kds.map tx:=by have:=congrArg (fJ D.str) jne;rw[Xe]at this;exact this
 rw[e];exact j1q D.tup (.inl rfl)
def eS:("":ao)=sL []:=by decide +kernel
def j32(hP:∀p∈Ls,Pc p)(hL:Ls.length<=900)(h:Tkn Ls (n+4) m b)(hi:i<9)(ho:Pc own) :
  j67 (Jl (λJ k=>jh 1000 (evP 1000 G T (n+4)) G (Ls.map sL) (.appC 4 "form_taken" (.cons (.var 1) .nil) .nop) J k) (λJ k=>jh 1000 (evP 1000 G T (n+4)) G (Ls.map sL) (.takeE (.ifRai (.or (.not (.call "takes_count" (.cons (.var 2) (.cons (.blt .len (.cons (.var 4) .nil)) .nil)))) (.not (.call "takes_own" (.cons (.var 2) (.cons (.var 3) (.cons (.blt .len (.cons (.var 4) .nil)) .nil)))))) "NoText" (.fst (.cons (.rpr (.var 2)) (.cons (.lit (.str " has not what it wants")) .nil))) (.ret (.tup (.cons (.var 2) (.cons (.var 3) (.cons (.blt .tuple (.cons (.var 4) .nil)) .nil))))))) J k) ")" (Ls.map sL) 1000 [e0,.val (.int b),.val (tx (kds.getD i [])),.val (tx own),.own []] k)=.ret (match eT i own (wT (fT m) ((Ls.drop k).length+1) (Ls.drop k))with|some (f,r)=>.mval (fD f) (Ls.length-r.length)|none=>.merr "NoText"):=by
 have ld:(Ls.drop k).length=Ls.length-k:=Xo ..;have w:=whl (e0:=e0) (e2:=.val (tx (kds.getD i []))) (e3:=.val (tx own)) (g:=λJ k=>jh 1000 (evP 1000 G T (n+4)) G (Ls.map sL) (.takeE (.ifRai (.or (.not (.call "takes_count" (.cons (.var 2) (.cons (.blt .len (.cons (.var 4) .nil)) .nil)))) (.not (.call "takes_own" (.cons (.var 2) (.cons (.var 3) (.cons (.blt .len (.cons (.var 4) .nil)) .nil)))))) "NoText" (.fst (.cons (.rpr (.var 2)) (.cons (.lit (.str " has not what it wants")) .nil))) (.ret (.tup (.cons (.var 2) (.cons (.var 3) (.cons (.blt .tuple (.cons (.var 4) .nil)) .nil))))))) J k) h ((Ls.drop k).length+1) k 1000 [] (S5 _) nofun (by simp;omega)
 cases e1:wT (fT m) ((Ls.drop k).length+1) (Ls.drop k) with
 |none =>rw[e1]at w;obtain⟨J,w⟩:=w;rw[w];rfl
 |some x =>
  obtain⟨fs,r⟩:=x;rw[e1]at w;rw[w,T9];obtain⟨q,eq⟩:=Fy (O6 m) e1;have lr:r.length<Ls.length-k:=by rw[<-ld,eq];simp;omega
  have fl:(fDs fs).length=fs.length:=by rw[Bd,xm]
  have ca:=j95 (n:=n+3) (c:=fs.length) ⟨i,hi⟩;have kc:Pc (kds.getD i []):=by
   have:∀j:Fin 9,asc (kds.getD j.val [])/\(kds.getD j.val []).length<=100:=by
    intro j;refine⟨?_,?_⟩
    .have q:∀j:Fin 9,(kds.getD j.val []).all (λc=>decide (c<128))=af:=by decide +kernel
     exact λc hc=>of_decide_eq_true (Xf.mp (q j) c hc)
    .have q:∀j:Fin 9,(kds.getD j.val []).length<=100:=by decide +kernel
     exact q j
   exact⟨(this ⟨i,hi⟩).1,(this ⟨i,hi⟩).2⟩
  ext;rw[fl,ca];unfold eT;dsimp only;cases hc:okc i fs.length with
  |false =>ext;rw[Uj kc (by decide +kernel)];rfl
  |true =>
   ext;rw[fl,jex (n:=n) ⟨i,hi⟩ ho.a (Xa ho.l (by decide)) hc];cases hw:oko i own fs.length with
   |false =>ext;rw[Uj kc (by decide +kernel)];rfl
   |true =>ext;rw[show Ls.length-r.length-1+1=Ls.length-r.length from by omega];rw[if_pos (by rfl)];show _=So.ret (.mval (fD (.br i own fs)) _);rw[fD]
def brk(hP:∀p∈Ls,Pc p)(hL:Ls.length<=900)(hb:b<=8)(h:Tkn Ls (n+4) m b)(k:Nat):evP 1000 G T (n+5) (mq "bracketed_taken") [.lst ((Ls.map sL).map D.str),.int (k:Int),.int b]=fR Ls (bT (fT m) (Ls.drop k)):=by
 rw[jt (F:=vz) (by rfl) rfl];simp only[vz,Qj,enter];ext;rw[j0e];simp only[su,T8];ext;simp only[gMB];ext;simp only[gK];ext;cases hd:Ls.drop k with
 |nil =>rw[O9 hd,jcw,show kds.contains ([]:List Nat)=ae from by decide];ext;rw[Uj ⟨(λc hc=>by cases hc),by simp⟩ (by decide +kernel)];rfl
 |cons kd r =>
  have hm:kd∈Ls:=Pj (i:=k) (by rw[hd];exact km ..);have hr:Ls.drop (k+1)=r:=by rw[<-dB,hd];rfl
  have hkl:k<Ls.length:=by
   rcases Nat.lt_or_ge k Ls.length with z|z
   .exact z
   .rw[List.drop_eq_nil_iff.mpr z]at hd;cases hd
  rw[Uo hd,jcw];cases hc:kds.contains kd with
  |false =>rw[Vf,hc,if_neg (by decide)];ext;rw[Uj (hP kd hm) (by decide +kernel)];rfl
  |true =>
   obtain⟨hi,ek⟩:=jnd hc;have wk:=jdq (n+3) ⟨kds.idxOf kd,hi⟩;rw[<-ek]at wk;rw[Vf,if_pos hc];generalize kds.idxOf kd=i at hi ek wk ⊢;subst ek;dsimp only at wk;have e0:Pc []:=⟨(λc hc=>by cases hc),by simp⟩
   cases hw:decide (4<=i/\i<=6) with
   |false =>rw[hw]at wk;rw[Oh (show wnt i=ae from hw)];have bi:=j32 (e0:=.exc rfN) hP hL h hi e0 (k:=k+1);rw[hr]at bi;ext;rw[wk];ext;rw[Mp,eS,bi];ext;rfl
   |true =>
    rw[hw]at wk;cases r with
    |nil =>rw[j6l (show wnt i=af from hw)];have bi:=j32 (e0:=.exc rfN) hP hL h hi e0 (k:=k+1+1);rw[show Ls.drop (k+1+1)=[]from by rw[<-dB,hr];rfl]at bi;ext;rw[wk];ext;rw[O9 hr,Mp,bi];ext;rfl
    |cons own r1 =>rw[Fq (show wnt i=af from hw)];have hmo:own∈Ls:=Pj (i:=k+1) (by rw[hr];exact km ..);have bi:=j32 (e0:=.exc rfN) hP hL h hi (hP own hmo) (k:=k+1+1);rw[show Ls.drop (k+1+1)=r1 from by rw[<-dB,hr];rfl]at bi;ext;rw[wk];ext;rw[Uo hr,Mp,bi];ext;rfl
end
section
variable{Ls:Ps}{n m:Nat}{b:Int}
def jqw(k:Nat):evP 1000 G T (n+1) (mq "bracketed_taken") [.lst ((Ls.map sL).map D.str),.int (k:Int),.int 9]=.merr "NoText":=by rw[jt (F:=vz) (by rfl) rfl];simp only[vz,Qj,enter];ext;rw[j0e];simp only[su,T8];ext;simp only[gMB];ext;rw[jml];rfl
theorem taken(hP:∀p∈Ls,Pc p)(hL:Ls.length<=900):∀(m n:Nat)(b:Int),b=8-(m:Int)->Tkn Ls (n+2*m+4) m b
 |0,n,b,hb,k=>by
  have hb:b=8:=by omega
  subst hb;rw[jt (F:=Jz) (by rfl) rfl];simp only[Jz,Y6,enter];ext;rw[j0e];simp only[su,T8];ext;by_cases hl:∃r,Ls.drop k=lp::r
  .obtain⟨r,hd⟩:=hl;rw[Uo hd,lpS,beq_self_eq_true];ext;rw[show(8:Int)+1=9 from rfl,jqw (k:=k+1),Oe (by rw[gNT];rfl),hd];rfl
  .cases hd:Ls.drop k with
   |nil =>rw[O9 hd,O7];ext;rw[lpS,Dl (by decide)];ext;rw[Vp (n:=n+1) (λc hc=>by cases hc) (by simp),show isW []=ae from rfl];ext;rw[Uj ⟨(λc hc=>by cases hc),by simp⟩ (by decide +kernel)];rfl
   |cons p r =>
    have hm:p∈Ls:=Pj (i:=k) (by rw[hd];exact km ..);have hne:p≠lp:=λz=>hl ⟨r,by rw[hd,z]⟩;have ll:(Ls.drop k).length=r.length+1:=by rw[hd];rfl
    have ld:(Ls.drop k).length=Ls.length-k:=Xo ..;rw[Uo hd,Z5 hne];ext;rw[lpS,Dl hne];ext;rw[Vp (n:=n+1) (hP p hm).a (Xa (hP p hm).l (by decide))];cases hw:isW p with
    |false =>ext;rw[Uj (hP p hm) (by decide +kernel)];rfl
    |true =>ext;simp only[gP];ext;show _=fR Ls (aa (.pl p,r));show _=Rc.mval (fD (.pl p)) _;rw[fD,show Ls.length-r.length=k+1 from by omega]
 |m+1,n,b,hb,k=>by
  have ih:=brk (n:=n+2*m) hP hL (b:=b+1) nofun (taken hP hL m n (b+1) nofun) (k+1)
  rw[show n+2*(m+1)+4=(n+2*m+2+3)+1 from by omega,jt (F:=Jz) (by rfl) rfl];simp only[Jz,Y6,enter];ext;rw[j0e];simp only[su,T8];ext;by_cases hl:∃r,Ls.drop k=lp::r
  .obtain⟨r,hd⟩:=hl;have hr:Ls.drop (k+1)=r:=by rw[<-dB,hd];rfl
   rw[Uo hd,lpS,beq_self_eq_true];ext;rw[show n+2*m+2+3=n+2*m+5 from rfl,ih,hd,Rp,hr];cases e:bT (fT m) r with
   |none =>unfold fR;rw[Oe (by rw[gNT];rfl)];rfl
   |some x=>rfl
  .cases hd:Ls.drop k with
   |nil =>rw[O9 hd,O7];ext;rw[lpS,Dl (by decide)];ext;rw[Vp (n:=(n+2*m+2)+1) (λc hc=>by cases hc) (by simp),show isW []=ae from rfl];ext;rw[Uj ⟨(λc hc=>by cases hc),by simp⟩ (by decide +kernel)];rfl
   |cons p r =>
    have hm:p∈Ls:=Pj (i:=k) (by rw[hd];exact km ..);have hne:p≠lp:=λz=>hl ⟨r,by rw[hd,z]⟩;have ll:(Ls.drop k).length=r.length+1:=by rw[hd];rfl
    have ld:(Ls.drop k).length=Ls.length-k:=Xo ..;rw[Uo hd,Z5 hne];ext;rw[lpS,Dl hne];ext;rw[Vp (n:=(n+2*m+2)+1) (hP p hm).a (Xa (hP p hm).l (by decide))];cases hw:isW p with
    |false =>ext;rw[Uj (hP p hm) (by decide +kernel)];rfl
    |true =>ext;simp only[gP];ext;show _=fR Ls (aa (.pl p,r));show _=Rc.mval (fD (.pl p)) _;rw[fD,show Ls.length-r.length=k+1 from by omega]
end
noncomputable def rdR:Option (Fm×Ps)->Rc
 |some (f,[])=>.val (fD f)
 |_=>.err "NoText"
def gQ:G (qm "Pieces")=aa .non:=by rfl
def j3f{Ls:Ps}(hsp:aC t " " = Ls.map sL)(hP:∀p∈Ls,Pc p)(hL:Ls.length<=900)(ht:t.length<=100000):evP 1000 G T (n+21) "form_of" [.str t]=rdR (fT 8 Ls):=by
 have tp:=taken hP hL 8 n 0 nofun 0;rw[T8]at tp;rw[jt (F:=Ru) (by rfl) rfl];simp only[Ru,Yk,enter];ext;rw[gQ,show decide (1<3)=af from rfl,jik ht (by rw[hsp,xm];omega),hsp];ext;rw[show((0:Nat):Int)=0 from rfl]at tp ⊢;rw[show n+20=n+2*8+4 from rfl,tp];cases e:fT 8 Ls with
 |none =>simp only[fR];rw[Oe (by rw[gNT];rfl)];ext;rfl
 |some xr =>
  obtain⟨x,r⟩:=xr;obtain⟨p,q,hq⟩:=O6 8 _ _ _ e;simp only[fR];ext;rw[j5l];cases r with
  |nil =>rw[if_pos (by simp)];ext;rfl
  |cons w r =>rw[if_neg (by rw[xm,hq];simp;omega)];ext;rw[gNT,jhq];rfl
def Lg:atI [a,b,c] 0=aa a:=rfl
def j6m:atI [a,b,c] 1=aa b:=rfl
def jdg:atI [a,b,c] 2=aa c:=rfl
def gd:Nat->Fm->Prop
 |_,.pl _=>True
 |0,.br ..=>False
 |m+1,.br i own fs=>i<9/\(okc i fs.length&&oko i own fs.length)=af/\(wnt i=ae->own=[])/\fs.length<=900/\∀f∈fs,gd m f
theorem j6y{f:Ps->Option (Fm×Ps)}(hf:Suf f){P:Fm->Prop}{N:Nat}(hp:∀ps d r,ps.length<=N->f ps=aa (d,r)->P d):∀{k:Nat}{ps:Ps}{ds:List Fm}{r:Ps},ps.length<=N->wT f k ps=aa (ds,r)->ds.length<=ps.length/\∀d∈ds,P d
 |0,_,_,_,_,h=>by cases h
 |_+1,[],_,_,_,h=>by cases h
 |k+1,p::ps,ds,r,hl,h=>by
  unfold wT at h;split at h
  .cases h;exact⟨Tn _,λd hd=>by cases hd⟩
  .split at h
   .cases h
   .rename_i d r' e;split at h
    .cases h
    .rename_i ds' r2 e2;cases h;obtain⟨p',q,eq⟩:=hf _ _ _ e;have l2:(p::ps).length=q.length+r'.length+1:=by rw[eq];simp
     obtain⟨a,b⟩:=j6y hf hp (k:=k) nofun e2;refine⟨by rw[xn];omega,λx hx=>?_⟩;rcases xj.mp hx with rfl|hx
     .exact hp _ _ _ hl e
     .exact b x hx
def Bh{x:Option (List Fm×Ps)}(h:eT i own x=aa (f,r)):∃fs,x=aa (fs,r)/\(okc i fs.length&&oko i own fs.length)=af/\f=.br i own fs:=by
 cases x with
 |none=>cases h
 |some y =>
  obtain⟨fs,r2⟩:=y;unfold eT at h;dsimp only at h;split at h
  .rename_i e;cases h;exact⟨fs,rfl,e,rfl⟩
  .cases h
def jgb(h:bT f ps=aa (d,r)):∃i own fs k r1,i<9/\wT f k r1=aa (fs,r)/\r1.length<=ps.length/\(okc i fs.length&&oko i own fs.length)=af/\(wnt i=ae->own=[])/\d=.br i own fs:=by
 cases ps with
 |nil=>cases h
 |cons kd ps =>
  rw[Vf]at h;split at h
  .rename_i hk;have hi:kds.idxOf kd<9:=dj (Xw.mp hk);generalize kds.idxOf kd=i at h hi;cases hw:wnt i with
   |true =>
    cases ps with
    |nil=>rw[j6l hw]at h;cases h
    |cons own r1 =>rw[Fq hw]at h;obtain⟨fs,e,a,b⟩:=Bh h;exact⟨i,own,fs,_,r1,hi,e,by simp;omega,a,(λz=>by rw[hw]at z;cases z),b⟩
   |false =>rw[Oh hw]at h;obtain⟨fs,e,a,b⟩:=Bh h;exact⟨i,[],fs,_,ps,hi,e,by simp,a,λ_=>rfl,b⟩
  .cases h
theorem jdb:∀(m:Nat)(ps:Ps)(d:Fm)(r:Ps),ps.length<=900->fT m ps=aa (d,r)->gd m d
 |m,[],d,r,_,h=>by rw[O7]at h;cases h
 |m,p::ps,d,r,hl,h=>by
  by_cases z:p=lp
  .subst z;cases m with
   |zero=>unfold fT at h;rw[if_pos rfl]at h;cases h
   |succ m =>rw[Rp]at h;obtain⟨i,own,fs,k,r1,hi,e,l1,ok,hw,rfl⟩:=jgb h;have hl':ps.length<=900:=jQ (by simpa using hl);obtain⟨a,b⟩:=j6y (O6 m) (P:=gd m) (N:=900) (λps d r hl h=>jdb m ps d r hl h) (Xa l1 hl') e;exact⟨hi,ok,hw,by omega,b⟩
  .rw[Z5 z]at h;split at h
   .cases h;cases m<;>trivial
   .cases h
noncomputable def kp(L:Ps):Nat->Fm->Bool
 |_,.pl w=>L.contains w
 |0,.br ..=>af
 |m+1,.br _ _ fs=>fs.all (kp L m)
theorem Mz{L:Ps}:∀(m n:Nat)(f:Fm),gd m f->evP 1000 G T (n+m+1) "keeps_to" [fD f,.lst (L.map tx)]=.val (.bl (kp L m f))
 |m,n,.pl w,_=>by rw[show kp L m (.pl w)=L.contains w from by cases m<;>rfl,fD];rw[jt (F:=Z1) (by rfl) rfl];simp only[Z1,Z2,enter];ext;rw[Lg];simp only[gP];ext;erw[j6m,Kl (L:=L) (l:=w) .lst (.inr rfl)]
 |0,n,.br ..,h=>h.elim
 |m+1,n,.br i own fs,⟨hi,ok,hw,hl,hf⟩=>by
  have hk:=K8 ⟨i,hi⟩;dsimp only at hk;rw[fD,Bd];rw[jt (F:=Z1) (by rfl) rfl];simp only[Z1,Z2,enter];ext;rw[Lg];simp only[gP];ext;erw[hk,jdg];rw[vp (l:=(fs.map (kp L m)).map D.bl) (by rfl) (by rw[xm];omega) ?_ (.inl rfl)]
  .ext;rw[eD];rfl
  .rw[Xe];refine zj λf hf'=>J1 (by ext) ?_;ext;rw[show n+(m+1)=n+m+1 from rfl,Mz m n f (hf f hf')];ext;rfl
def six{l:List Bool}(h:l.length=6):∃a b c d e f,l=[a,b,c,d,e,f]:=by
 match l,h with
 |[a,b,c,d,e,f],_=>exact⟨a,b,c,d,e,f,rfl⟩
noncomputable def vl(l:List Bool):Nat:=l.foldl (λa b=>2*a+(if b then 1 else 0)) 0
noncomputable def bls:Nat->List (List Bool)
 |0=>[[]]
 |n+1=>(bls n).flatMap λl=>[ae::l,af::l]
theorem j4a:∀{n:Nat}{l:List Bool},l.length=n->l∈bls n
 |0,l,h=>by rw[List.length_eq_zero_iff.mp h];simp[bls]
 |n+1,[],h=>by simp at h
 |n+1,b::l,h=>by have ih:=j4a (n:=n) (l:=l) (by simpa using h);unfold bls;rw[List.mem_flatMap];refine⟨l,ih,?_⟩;cases b<;>simp
def jay(n:Nat):∀(c:Fin 4),∀l∈bls (c.val+1),evP 1000 G T (n+2) "row_number" [.lst ((l.map b2i).map D.int)]=.val (.int (vl l)):=λc l hl=>j35 (of_decide_eq_true (p:=∀(c:Fin 4),∀l∈bls (c.val+1),(asInt (evP 1000 G T (n+2) "row_number" [.lst ((l.map b2i).map D.int)])==aa ((vl l:Nat):Int))=af) (by kernel_rfl) c l hl)
theorem j4n:∀{L:List (List Nat)} {r:zo} {i:Nat},L.Nodup->L.length=r.length->i<L.length->Ux ((L.map sL).zip r) (sL (L.getD i []))=aa (r.getD i 0)
 |[],_,i,_,_,h=>absurd h (kr _)
 |x::L,[],i,_,h,_=>by simp at h
 |x::L,a::r,0,_,_,_=>by unfold Ux;rw[X5,fv,de];simp
 |x::L,a::r,i+1,hn,hl,hi=>by
  have hx:x≠L.getD i []:=λe=>by
   have:L.getD i []∈L:=by rw[xx,xf (by simpa using hi)];exact cw _
   exact(Xy.mp hn).1 (e▸this)
  have ih:=j4n (L:=L) (r:=r) (i:=i) (Xy.mp hn).2 (by simpa using hl) (by simpa using hi);unfold Ux at ih ⊢;rw[X5,fv,iO,de,iO];rw[show decide (sL x=sL (L.getD i []))=ae from decide_eq_false λq=>hx (Qw q)];exact ih
noncomputable def chk(n:Nat)(l:List Bool):Bool:=(Ii (evP 1000 G T (n+4) "says_yes" [tx (kds.getD 7 []),tx [],.lst ((l.map b2i).map D.int)])).isSome&&(Ii (evP 1000 G T (n+4) "says_yes" [tx (kds.getD 8 []),tx [],.lst ((l.map b2i).map D.int)])).isSome
def jg4(n:Nat):∀a b c d e f:Bool,chk n [a,b,c,d,e,f]=af:=of_decide_eq_true (by kernel_rfl)
def Ez(h:(Ii r).isSome=af):∃b,r=.val (.bl b):=by obtain⟨b,hb⟩:=Xr.mp h;exact⟨b,j4w (by rw[hb];exact beq_self_eq_true _)⟩
def j13(n:Nat){l:List Bool}(h:l.length=6):(∃b,evP 1000 G T (n+4) "says_yes" [tx (kds.getD 7 []),tx [],.lst ((l.map b2i).map D.int)]=.val (.bl b))/\∃b,evP 1000 G T (n+4) "says_yes" [tx (kds.getD 8 []),tx [],.lst ((l.map b2i).map D.int)]=.val (.bl b):=by obtain⟨a,b,c,d,e,f,rfl⟩:=six h;have:=jg4 n a b c d e f;unfold chk at this;rw[X3]at this;exact⟨Ez this.1,Ez this.2⟩
def jlt:∀(c:Fin 4),∀l∈bls (c.val+1),vl l<2^(c.val+1):=by decide +kernel
noncomputable def nm(l:List Nat):Nat:=l.foldl (λa c=>a*10+(c-48)) 0
def jqa:∀a:Fin 10,cq (sL [48+a.val])=aa ((nm [48+a.val]:Nat):Int):=by decide +kernel
def jq9:∀a b:Fin 10,cq (sL [48+a.val,48+b.val])=aa ((nm [48+a.val,48+b.val]:Nat):Int):=by decide +kernel
def j87(h:isNm l=af):cq (sL l)=aa ((nm l:Nat):Int)/\l.length<=2:=by
 unfold isNm dgt at h;rw[X3,Xf]at h;obtain⟨hd,hl⟩:=h;have dd:∀x∈l,∃a:Fin 10,x=48+a.val:=λx hx=>by have:=of_decide_eq_true (hd x hx);exact⟨⟨x-48,by omega⟩,by dsimp only;omega⟩
 match l,hl with
 |[],hl=>exact absurd hl (by decide)
 |[a],_ =>obtain⟨x,rfl⟩:=dd a (by simp);exact⟨jqa x,by simp⟩
 |[a,b],_ =>obtain⟨x,rfl⟩:=dd a (by simp);obtain⟨y,rfl⟩:=dd b (by simp);exact⟨jq9 x y,by simp⟩
 |_::_::_::_,hl=>exact absurd hl (by simp)
def jnp:∀i:Fin 9,(sL (kds.getD i.val [])==("all":ao))=decide (i.val=1):=by decide +kernel
def isAny:∀i:Fin 9,(sL (kds.getD i.val [])==("any":ao))=decide (i.val=2):=by decide +kernel
def isOdd:∀i:Fin 9,(sL (kds.getD i.val [])==("odd":ao))=decide (i.val=3):=by decide +kernel
def jnm:∀i:Fin 9,(sL (kds.getD i.val [])==("least":ao))=decide (i.val=4):=by decide +kernel
def jnn:∀i:Fin 9,(sL (kds.getD i.val [])==("just":ao))=decide (i.val=5):=by decide +kernel
def jhd{l:List Bool}(hi:i<9)(ok:(okc i l.length&&oko i own l.length)=af)(hw:wnt i=ae->own=[]):∃b,evP 1000 G T (n+4) "says_yes" [tx (kds.getD i []),tx own,.lst ((l.map b2i).map D.int)]=.val (.bl b):=by
 rw[X3]at ok;obtain⟨oc,oo⟩:=ok;by_cases h78:7<=i
 .have l6:l.length=6:=by unfold okc at oc;rw[if_neg nofun,if_neg nofun,if_pos h78]at oc;exact beq_iff_eq.mp oc
  have ho:own=[]:=hw (decide_eq_false nofun);subst ho;rcases(show i=7\/i=8 by omega)with rfl|rfl
  .exact(j13 n l6).1
  .exact(j13 n l6).2
 rw[jt (F:=Uv) (by rfl) rfl];simp only[Uv,Vm,enter];ext;rw[jd4 ⟨i,hi⟩];dsimp only;by_cases h0:i=0
 .subst h0;have l1:l.length=1:=by unfold okc at oc;exact beq_iff_eq.mp oc
  obtain⟨b,rfl⟩:=List.length_eq_one_iff.mp l1;ext;cases b
  .exact⟨_,rfl⟩
  .exact⟨_,rfl⟩
 rw[decide_eq_false h0];ext;rw[jnp ⟨i,hi⟩];dsimp only;by_cases h1:i=1
 .rw[decide_eq_true h1];ext;rw[Yq]
  try ext
  exact⟨_,rfl⟩
 rw[decide_eq_false h1];ext;rw[isAny ⟨i,hi⟩];dsimp only;by_cases h2:i=2
 .rw[decide_eq_true h2];ext;rw[j2o]
  try ext
  exact⟨_,rfl⟩
 rw[decide_eq_false h2];ext;rw[isOdd ⟨i,hi⟩];dsimp only;by_cases h3:i=3
 .rw[decide_eq_true h3];ext;rw[Yq]
  try ext
  exact⟨_,rfl⟩
 rw[decide_eq_false h3];ext;rw[jnm ⟨i,hi⟩];dsimp only;by_cases h4:i=4
 .have hn:isNm own=af:=by
   unfold oko at oo
   rwa [if_neg nofun,if_pos (.inl h4)]at oo
  obtain⟨e,l2⟩:=j87 hn;erw[decide_eq_true h4,jd5 (by rw[j4];omega) e];rw[j2o]
  try ext
  exact⟨_,rfl⟩
 rw[decide_eq_false h4];ext;rw[jnn ⟨i,hi⟩];dsimp only;by_cases h5:i=5
 .have hn:isNm own=af:=by
   unfold oko at oo
   rwa [if_neg nofun,if_pos (.inr h5)]at oo
  obtain⟨e,l2⟩:=j87 hn;erw[decide_eq_true h5,jd5 (by rw[j4];omega) e];rw[Yq]
  try ext
  exact⟨_,rfl⟩
 rw[decide_eq_false h5];have h6:i=6:=by omega
 subst h6;unfold okc at oc;rw[if_neg (by decide),if_pos rfl]at oc;have hc:=of_decide_eq_true oc;unfold oko at oo;rw[if_pos rfl,X3,beq_iff_eq]at oo;have hlb:l∈bls ((⟨l.length-1,by omega⟩:Fin 4).val+1):=j4a (by dsimp only;omega);have v:=jlt _ l hlb;dsimp only at v;rw[show l.length-1+1=l.length from by omega,<-oo.1]at v;ext;rw[show(sL (kds.getD 6 [])==("table":ao))=af from by decide +kernel];have ll:(sL own).length<=1000000:=by have:=Tq (n:=2) (by decide) hc.2;rw[j4];omega
 ext;erw[jay _ _ l hlb,Oi (x:=own.getD (vl l) 0) (by rw[J5,xx,xf v];rfl)];exact⟨_,rfl⟩
def r01(m:Nat)(row:zo):Prop:=row.length=m/\∀x∈row,x=0\/x=1
theorem Iw{L:Ps}(hn:L.Nodup)(hr:r01 L.length row):∀(m n:Nat)(f:Fm),gd m f->kp L m f=af->∃b:Bool,evP 1000 G T (n+m+5) "said_by" [fD f,.sct ((L.map sL).zip row)]=.val (.int (b2i b))
 |m,n,.pl w,_,hk=>by
  rw[show kp L m (.pl w)=L.contains w from by cases m<;>rfl]at hk;have hm:=Xw.mp hk;obtain⟨k,kl,e⟩:=List.getElem_of_mem hm;have dv:=j4n hn hr.1.symm kl;rw[xx,xf kl,T3,e]at dv;have hb:row.getD k 0=0\/row.getD k 0=1:=by rw[xx,xf (by rw[hr.1];exact kl)];exact hr.2 _ (cw _)
  refine⟨decide (row.getD k 0=1),?_⟩;have eb:b2i (decide (row.getD k 0=1))=row.getD k 0:=by rcases hb with z|z<;>rw[z]<;>rfl
  rw[eb,fD,jt (F:=Zz) (by rfl) rfl];simp only[Zz,V5,enter];ext;rw[Lg];simp only[gP];ext;erw[j6m,jkd dv]
 |0,n,.br ..,h,_=>h.elim
 |m+1,n,.br i own fs,⟨hi,ok,hw,hl,hf⟩,hk=>by
  have hk':∀f∈fs,kp L m f=af:=Xf.mp hk;have ih:∀f∈fs,∃b:Bool,evP 1000 G T (n+m+5) "said_by" [fD f,.sct ((L.map sL).zip row)]=.val (.int (b2i b)):=λf hm=>Iw hn hr m n f (hf f hm) (hk' f hm);obtain⟨v,hv⟩:∃v:Fm->Bool,∀f∈fs,evP 1000 G T (n+m+5) "said_by" [fD f,.sct ((L.map sL).zip row)]=.val (.int (b2i (v f))):=by
   classical
   refine⟨λf=>if h:f∈fs then(ih f h).choose else af,λf hm=>?_⟩;dsimp only;rw[dif_pos hm];exact(ih f hm).choose_spec
  obtain⟨b,hb⟩:=jhd (n:=n+m+1) (l:=fs.map v) hi (by rw[xm];exact ok) hw;have hp:=K8 ⟨i,hi⟩;dsimp only at hp;refine⟨b,?_⟩;rw[fD,Bd,jt (F:=Zz) (by rfl) rfl];simp only[Zz,V5,enter];ext;rw[Lg];simp only[gP];ext;erw[hp,jdg];rw[vp (l:=((fs.map v).map b2i).map D.int) (by rfl) (by rw[xm];omega) ?_ (.inl rfl)]
  .ext;rw[Lg,j6m];ext;rw[jg6 (xs:=[.e (tx (kds.getD i [])),.e (tx own),.w (((fs.map v).map b2i).map D.int)]) rfl];simp only[X5,Pk,d_e,d_w];rw[show n+(m+1)+4=n+m+1+4 from rfl,hb];cases b
   .ext;rfl
   .ext;rfl
  .rw[Xe,Xe];refine zj λf hf'=>J1 (by ext) ?_;ext;rw[show n+(m+1)+4=n+m+5 from by omega,hv f hf'];ext;rfl
def jbn:T "all_choices"=aa KL.fP_all_choices:=by rfl
def gA:G "ANSWERS"=aa (.tup [.int 0,.int 1]):=by rfl
def gNP:G (bang "NoPlace")=aa (.lst [.str "NoPlace"]):=by rfl
def jmc(hm:1<=m/\m<=6):evP 1000 G T (n+1) "refuse_wrong_size" [.int m]=.val .non:=by rw[j40 nofun,if_neg nofun]
def jee{n m:Nat}(h:1<=m/\m<=6):evP 1000 G T (n+2) "rows_of" [.int m]=.fresh (Z6 (Z3 m)):=by
 rw[jt (F:=Rq) (by rfl) rfl];simp only[Rq,Yi,enter];ext;rw[jmc (n:=n) nofun];ext;simp only[gA];have hrep:(ax (m:Int).toNat [D.tup [.int 0,.int 1]]).flatten=Z6 (ax m [0,1]):=by
  rw[Xz];have:∀k:Nat,(ax k [D.tup [.int 0,.int 1]]).flatten=Z6 (ax k [0,1]):=by
   intro k;induction k with
   |zero=>rfl
   |succ k ih=>rw[T4,Tt,ih];rfl
  exact this m
 ext;rw[hrep,j2r jbn (λf hf=>by rw[(Ti.mp hf).2];decide) (by rw[iz];omega)];ext;have hc:v8 (ax m [0,1])=Z3 m:=by
  rw[j6f];have:∀k:Nat,Wz (ax k [0,1])=Z3 k:=by
   intro k;induction k with
   |zero=>rfl
   |succ k ih=>rw[T4,Wz,ih,Z3];simp
  exact this m
 rw[hc]
def j3w{L:List (List Nat)}:strsOf (L.map tx)=aa (L.map sL):=by rw[show L.map tx=(L.map sL).map D.str from by rw[Xe];rfl];exact Y9
def jg1(hs:s=D.tup\/s=D.lst){L:List (List Nat)}{row:zo}(hn:L.Nodup)(hl:L.length=row.length)(h6:L.length<=6):Rx (aa (.v (.e (s (L.map tx))))) (aa (.v (.e (Fb row))))=aa (.v (.e (.sct ((L.map sL).zip row)))):=by
 have hnd:(L.map sL).Nodup:=by unfold mS;rw[jI];exact m7 (λh e=>h (Qw e)) hn
 have hc:(L.map sL).Nodup/\(L.map sL).length=row.length/\jm (L.map sL).length=af:=⟨hnd,by rw[xm];omega,by simp only[jm,xm];exact decide_eq_true (zy nofun)⟩
 rcases hs with rfl|rfl
 .simp only[Rx,Rk.st,fS,D.sqv,j3w,Rn];rw[if_pos hc]
 .simp only[Rx,Rk.st,fS,D.sqv,j3w,Rn];rw[if_pos hc]
def j5n{L:Ps}(hL:1<=L.length/\L.length<=6)(hk:okT L)(hf:Zy [] L=ag):evP 1000 G T (n+3) "refuse_wrong_places" [.lst (L.map tx)]=.val .non:=by rw[W9 (t:=af) (L:=L) (by rfl) hk,if_neg nofun,hf]
structure PlL(L:Ps):Prop where
 n:1<=L.length/\L.length<=6
 k:okT L
 f:Zy [] L=ag
 d:L.Nodup
def jhl(hr:row∈Z3 m):r01 m row:=by rw[<-j1g]at hr;obtain⟨k,_,rfl⟩:=Xm.mp hr;exact⟨Uy ..,jod m k⟩
def jmo(hL:PlL L)(ht:evP 1000 G T (n+21) "form_of" [.str t]=.val (fD f))(hg:gd 8 f)(hk:kp L 8 f=af):∃d,evP 1000 G T (n+22) "question_read" [.str t,.lst (L.map tx)]=.val d:=by
 have rp:=j5n (n:=n+18) hL.n hL.k hL.f;have K:=Mz (L:=L) 8 (n+12) f hg;rw[hk]at K;have S:∀row:zo,r01 L.length row->∃b:Bool,evP 1000 G T (n+21) "said_by" [fD f,.sct ((L.map sL).zip row)]=.val (.int (b2i b)):=λrow hr=>Iw hL.d hr 8 (n+8) f hg hk;obtain⟨g,hg'⟩:∃g:zo->Bool,∀row,r01 L.length row->evP 1000 G T (n+21) "said_by" [fD f,.sct ((L.map sL).zip row)]=.val (.int (b2i (g row))):=by
  classical
  refine⟨λr=>if h:r01 L.length r then(S r h).choose else af,λr h=>?_⟩;dsimp only;rw[dif_pos h];exact(S r h).choose_spec
 rw[jt (F:=z9) (by rfl) rfl];simp only[z9,zx,enter];ext;erw[rp,ht,K,jee (n:=n+19) hL.n];rw[vp (l:=(Z3 L.length).map λrow=>D.int (b2i (g row))) (by rfl) (by rw[xm,Mq];have:2^L.length<=2^6:=Tq (by decide) hL.n.2;omega) ?_ (.inl rfl)]
 .ext;exact⟨_,rfl⟩
 .refine zj λrow hr=>J1 (by ext) ?_;have r1:=jhl hr;ext;erw[jg1 (.inr rfl) hL.d r1.1.symm hL.n.2,hg' row r1]
def jq2(hL:PlL L)(ht:evP 1000 G T (n+21) "form_of" [.str t]=.val (fD f))(hg:gd 8 f)(hk:kp L 8 f=ae):evP 1000 G T (n+22) "question_read" [.str t,.lst (L.map tx)]=.err "NoPlace":=by have rp:=j5n (n:=n+18) hL.n hL.k hL.f;have K:=Mz (L:=L) 8 (n+12) f hg;rw[hk]at K;rw[jt (F:=z9) (by rfl) rfl];simp only[z9,zx,enter];ext;erw[rp,ht,K,gNP]
def jhv(hL:PlL L)(ht:evP 1000 G T (n+21) "form_of" [.str t]=.err "NoText"):evP 1000 G T (n+22) "question_read" [.str t,.lst (L.map tx)]=.err "NoText":=by
 have rp:=j5n (n:=n+18) hL.n hL.k hL.f;rw[jt (F:=z9) (by rfl) rfl];simp only[z9,zx,enter];ext;erw[rp,ht];simp only[Bg,Be,Cq,j2e,Yd];ext
 try simp only[Yd,Cr,Cu,X5,Pk,Rk.d]
 try rw[ht]
 try simp only[j0o (jbk gNT)]
 ext
def jmq(hx:G (bang x)=aa (.lst [.str x]))(hr:evP 1000 G T n "refuse_wrong_places" [P]=.err x):evP 1000 G T (n+1) "question_read" [.str t,P]=.err x:=by
 rw[jt (F:=z9) (by rfl) rfl];simp only[z9,zx,enter];ext;rw[hr];ext;simp only[Bg,Be,Cq,j2e,Yd];ext
 try simp only[Yd,Cr,Cu,X5,Pk,Rk.d]
 try rw[hr]
 try simp only[j0o (jbk hx)]
 ext
def Ov(h:evP 1000 G T n "question_read" [.str t,P]=.err x)(hx:G (bang x)=aa (.lst [.str x])):evP 1000 G T (n+1) "_law_refused" [.str t,P]=.fresh [.str x]:=by rw[jt (F:=V1) (by rfl) rfl];simp only[V1,V7,enter];ext;rw[h];ext;simp only[Bg,Be,Cq,j2e,Yd];ext;simp only[Yd,Cr,Cu,X5,Pk,Rk.d];rw[h];simp only[j0o (show(G (bang x)).isSome=af from by rw[hx];rfl)];ext;rw[ja4 hx];ext
def jek(h:evP 1000 G T n "question_read" [.str t,P]=.val d):evP 1000 G T (n+1) "_law_refused" [.str t,P]=.fresh []:=by rw[jt (F:=V1) (by rfl) rfl];simp only[V1,V7,enter];ext;rw[h];ext
noncomputable def rfz(L:Ps):Option (Fm×Ps)->List D
 |some (f,[])=>if kp L 8 f=af then[] else[.str "NoPlace"]
 |_=>[.str "NoText"]
structure Spl(t:ao)(Ls:Ps):Prop where
 s:aC t " " = Ls.map sL
 p:∀p∈Ls,Pc p
 l:Ls.length<=900
 t:t.length<=100000
def Yx(hs:Spl t Ls)(hL:PlL L):evP 1000 G T (n+23) "_law_refused" [.str t,.lst (L.map tx)]=.fresh (rfz L (fT 8 Ls)):=by
 have ff:=j3f (n:=n) hs.s hs.p hs.l hs.t;cases e:fT 8 Ls with
 |none=>rw[e]at ff;exact Ov (jhv hL ff) gNT
 |some x =>
  obtain⟨f,r⟩:=x;cases r with
  |cons w r=>rw[e]at ff;exact Ov (jhv hL ff) gNT
  |nil =>
   rw[e]at ff;have hg:=jdb 8 _ _ _ hs.l e;unfold rfz;dsimp only;cases hk:kp L 8 f with
   |true =>obtain⟨d,hd⟩:=jmo hL ff hg hk;rw[if_pos rfl];exact jek hd
   |false =>rw[if_neg (by decide)];exact Ov (jq2 hL ff hg hk) gNP
def j42(hx:G (bang x)=aa (.lst [.str x]))(hr:evP 1000 G T n "refuse_wrong_places" [P]=.err x):evP 1000 G T (n+2) "_law_refused" [.str t,P]=.fresh [.str x]:=Ov (jmq hx hr) hx
def jkg{l:List D}{k:Nat}(h:k<=l.length):cutD l (aa (k:Int)) ag=l.drop k:=by unfold cutD;rw[HT.sIx_none,HT.sIx_nat,ku h,Tf (by rw[Xo];omega)]
def Za{L:List (List Nat)}{k:Nat}(h:k<L.length):atI (L.map tx) (k:Int)=aa (tx (L.getD k [])) :=
 Bp (by rw[Xn,xx,xf h];rfl)
structure Pd(p:List Nat):Prop where
 a:asc p
 l:p.length<=9
 b:32∉p
def j8q:T "_law_words"=aa KW.fL_words:=by rfl
def jkh{l:List D}{k:Nat}(h:k<=l.length):cutD l ag (aa (k:Int))=l.take k:=by unfold cutD;rw[HT.sIx_none,HT.sIx_nat,ku h];simp
def jki{L:List (List Nat)}{k:Nat}(h:k<=L.length):cutD (L.map tx) ag (aa (k:Int))=(L.take k).map tx:=by rw[jkh (by rw[xm];exact h),kJ]
def jbx{L:List (List Nat)}{k:Nat}(h:k<=L.length):cutD (L.map tx) (aa (k:Int)) ag=(L.drop k).map tx:=by rw[jkg (by rw[xm];exact h),List.map_drop]
def Vd{l:Nat}(h:0<l):∃k:Nat,k<l/\c%(l:Int)=(k:Int):=by
 have h1:=Te c (b:=(l:Int)) nofun
 have h2:=Tj c (b:=(l:Int)) nofun
 exact⟨(c%(l:Int)).toNat,by omega,by omega⟩
def Jp{l:List Nat}(h:l.all (λc=>decide (c<128))=af):asc l:=λc hc=>of_decide_eq_true (Xf.mp h c hc)
theorem Eh:∀{r pre:List (List Nat)},(∀l∈r,isW l=af)->pre.Nodup->¬(pre++r).Nodup->Zy pre r=aa ("Twice":ao)
 |[],pre,_,hn,h=>absurd (by simpa using hn) h
 |l::r,pre,h,hn,hd=>by
  unfold Zy;rw[h l (km ..),if_neg (by simp)];cases hc:pre.contains l with
  |true=>rw[if_pos rfl]
  |false =>
   rw[if_neg (by simp)];have hm:l∉pre:=by simpa using hc
   refine Eh (λx hx=>h x (kh _ hx)) ?_ (by simpa using hd);rw[Tv];refine⟨hn,by simp,λa ha b hb=>?_⟩;rw[xu.mp hb];exact λq=>hm (q▸ha)
theorem j28:∀{a pre b:List (List Nat)} {w:List Nat},(∀l∈a,isW l=af)->(pre++a).Nodup->isW w=ae->Zy pre (a++w::b)=aa ("NoWord":ao)
 |[],pre,b,w,_,_,hw=>by rw[T9];unfold Zy;rw[if_pos hw]
 |l::a,pre,b,w,h,hn,hw=>by
  rw[Xd];unfold Zy;rw[h l (km ..),if_neg (by simp)];have hc:pre.contains l=ae:=by
   have:l∉pre:=λz=>by rw[Tv]at hn;exact hn.2.2 l z l (km ..) rfl
   simpa using this
  rw[hc,if_neg (by simp)];exact j28 (λx hx=>h x (kh _ hx)) (by simpa using hn) hw
def Je(h:isW l=af):Pd l:=by
 unfold isW at h;rw[X3,X3,decide_eq_true_eq,decide_eq_true_eq,Xf]at h;refine⟨λc hc=>j4d (h.2 c hc),by omega,λhc=>?_⟩;have:=h.2 32 hc
 revert this
 decide
def jcp{n:Nat}{L:List (List Nat)}(hw:∀l∈L,isW l=af)(hd:¬L.Nodup)(h1:1<=L.length)(h6:L.length<=6):evP 1000 G T (n+3) "refuse_wrong_places" [.lst (L.map tx)]=.err "Twice":=by rw[W9 (t:=af) (L:=L) rfl ⟨by omega,λl hl=>⟨(Je (hw l hl)).a,Xa (Je (hw l hl)).l (by decide)⟩⟩,if_neg nofun,Eh hw gR (by simpa using hd)]
def jmd(hw:∀l∈a++b,isW l=af)(hn:a.Nodup)(hx:isW w=ae)(ha:asc w)(hl:w.length<=9)(h6:(a++w::b).length<=6):evP 1000 G T (n+3) "refuse_wrong_places" [.lst ((a++w::b).map tx)]=.err "NoWord":=by
 rw[W9 (t:=af) (L:=a++w::b) rfl ⟨by omega,λl hq=>?_⟩,if_neg (by simp at h6 ⊢;omega),j28 (λl hl=>hw l (Pu _ hl)) (by simpa using hn) hx];rcases X8.mp hq with z|z
 .exact⟨(Je (hw l (Pu _ z))).a,Xa (Je (hw l (Pu _ z))).l (by decide)⟩
 .rcases xj.mp z with rfl|z
  .exact⟨ha,by omega⟩
  .exact⟨(Je (hw l (Xj _ z))).a,Xa (Je (hw l (Xj _ z))).l (by decide)⟩
def U0{L:Ps}(h:k<L.length):L.getD k []∈L:=by rw[xx,xf h];exact cw h
def Bad(Q:Ps)(x:ao):Prop:=G (bang x)=aa (.lst [.str x])/\∀n,evP 1000 G T (n+3) "refuse_wrong_places" [.lst (Q.map tx)]=.err x
noncomputable def Rh(w:List Nat):Ps:=[[],[65],w++[46]]
def jfj:isW (w++[46])=ae:=by unfold isW;rw[List.all_append,show([46]:List Nat).all low=ae from by decide,dC,dC]
def jf5(h:isW w=af):∀l∈Rh w,isW l=ae/\asc l/\l.length<=9:=by
 have p:=Je h;have l8:w.length<=8:=by unfold isW at h;rw[X3,X3,decide_eq_true_eq,decide_eq_true_eq]at h;exact h.1.2
 intro l hl;simp only[Rh,xj,Xx,or_false]at hl;rcases hl with rfl|rfl|rfl
 .exact⟨by decide,Jp (by decide),by decide⟩
 .exact⟨by decide,Jp (by decide),by decide⟩
 .refine⟨jfj,λc hc=>?_,by simp;omega⟩;rcases X8.mp hc with z|z
  .exact p.a c z
  .rw[xu.mp z];decide
def jf4 :[D.str "",D.str "A",D.str (sL w ++ ".")]=(Rh w).map tx:=by
 have h:([("":ao),"A"]:List ao)=[sL [],sL [65]]:=by decide +kernel
 have h1:((".":ao))=sL [46]:=by decide +kernel
 injection h with a b;injection b with b _;rw[h1,z6,a,b];rfl
def jch{n:Nat}{L:Ps}{c:Int}(hw:∀l∈L,isW l=af)(hn:L.Nodup)(h1:1<=L.length)(h6:L.length<=6):∃(Q:Ps)(x:ao),evP 1000 G T (n+2) "_law_bad_places" [.lst (L.map tx),.int c]=.fresh [.lst (Q.map tx),.str x]/\Bad Q x:=by
 obtain⟨k,hk,ek⟩:=Vd (c:=c/4) (l:=L.length) nofun
 have gx:=Za hk;have gm:=U0 hk;have ed:L.drop k=L.getD k []::L.drop (k+1):=by rw[xx,xf hk];exact dH hk
 have e1:(k:Int)+1=((k+1:Nat):Int):=by omega
 have c1:=jki (L:=L) (k:=k) nofun
 have c2:=jbx (L:=L) (k:=k) nofun
 have c3:=jbx (L:=L) (k:=k+1) nofun
 have hwt:∀l∈L.take k,isW l=af:=λl hl=>hw l (Ph hl);have hwd:∀j,∀l∈L.drop j,isW l=af:=λj l hl=>hw l (Pj hl);have l1:(cutD (L.map tx) ag (aa (k:Int))).length=k:=by rw[c1,xm,Xk];omega
 have l2:(cutD (L.map tx) (aa (k:Int)) ag).length=L.length-k:=by rw[c2,xm,Xo]
 have l3:(cutD (L.map tx) (aa ((k:Int)+1)) ag).length=L.length-(k+1):=by rw[e1,c3,xm,Xo]
 have lt1:(L.take k).length=k:=by rw[Xk];omega
 have ld1:(L.drop k).length<=6:=by rw[Xo];omega
 have ld3:(L.drop (k+1)).length<=6:=by rw[Xo];omega
 rw[jt (F:=Y0) (by rfl) rfl];simp only[Y0,Z7,enter];ext;rw[ek];ext;have w4:c%4=0\/c%4=1\/c%4=2\/c%4=3:=by omega
 rcases w4 with z|z|z|z
 .rw[z];ext;refine⟨[],"WrongSize",rfl,gWS,λn=>?_⟩;rw[W9 (t:=af) (L:=[]) rfl ⟨by simp,λl hl=>by cases hl⟩,if_pos (by simp)]
 .rw[z];obtain⟨c',ec⟩:∃c':Int,c'=4*(c/4%1000000000)+2:=⟨_,rfl⟩
  obtain⟨m,hm⟩:∃m:Nat,m=7-L.length:=⟨_,rfl⟩
  have w7:evP 1000 G T (n+1) "_law_words" [.int c',.int (m:Int)]=.fresh ((Jx c' m).map D.str):=j0u (n:=n) j8q nofun nofun
  rw[j0v]at w7;have lw:(wL c' m).length=m:=by unfold wL;simp
  ext;rw[<-ec,show(7:Int)-(L.length:Int)=(m:Int)from by omega,w7];ext;rw[Z0 (l:=[.lst (L.map tx++(wL c' m).map tx),.str "WrongSize"]) rfl (by simp)];ext;refine⟨L++wL c' m,"WrongSize",by rw[ph],gWS,λn=>?_⟩;rw[W9 (t:=af) (L:=L++wL c' m) rfl ⟨by simp;omega,λl hl=>?_⟩,if_pos (by rw[X6];omega)];rcases X8.mp hl with y|y
  .exact⟨(Je (hw l y)).a,Xa (Je (hw l y)).l (by decide)⟩
  .exact jls c' m l y
 .rw[z];obtain⟨j,hj,ej⟩:=Vd (c:=c/64) (l:=3) nofun
  have ej:c/64%3=(j:Int):=ej;have go:atI ((Rh (L.getD k [])).map tx) (j:Int)=aa (tx ((Rh (L.getD k [])).getD j [])):=Za hj;obtain⟨o1,o2,o3⟩:=jf5 (hw _ gm) ((Rh (L.getD k [])).getD j []) (U0 (show j<(Rh (L.getD k [])).length from hj));have sl:(sL (L.getD k [])).length<=9:=by rw[j4];exact(Je (hw _ gm)).l
  have sd:(((".":ao))).length=1:=by decide +kernel
  ext;rw[gx];ext;rw[jf4,ej,go];ext;rw[e1,c1,c3];ext;rw[Z0 (l:=[.lst ((L.take k).map tx++[tx ((Rh (L.getD k [])).getD j [])]++(L.drop (k+1)).map tx),.str "NoWord"]) rfl (by simp)];ext;refine⟨L.take k++(Rh (L.getD k [])).getD j []::L.drop (k+1),"NoWord",by rw[ph,X5];first|rfl|simp,gNW,λn=>?_⟩;refine jmd (λl hl=>?_) (hn.sublist (jG ..)) o1 o2 o3 (by simp;omega);rcases X8.mp hl with y|y
  .exact hwt l y
  .exact hwd _ l y
 .rw[z];by_cases y6:L.length=6
  .obtain⟨j,hj,ej⟩:∃j:Nat,(j<6/\j≠k)/\((k:Int)+1+c/64%5)%6=(j:Int):=⟨(((k:Int)+1+c/64%5)%6).toNat,by omega,by omega⟩
   have gj:=Za (L:=L) (k:=j) nofun
   have mj:=U0 (L:=L) (k:=j) nofun
   ext;rw[ej,gj];ext;rw[e1,c1,c3];ext;rw[Z0 (l:=[.lst ((L.take k).map tx++[tx (L.getD j [])]++(L.drop (k+1)).map tx),.str "Twice"]) rfl (by simp)];ext;refine⟨L.take k++[L.getD j []]++L.drop (k+1),"Twice",by rw[ph,ph];first|rfl|simp,gTw,λn=>?_⟩;refine jcp (λl hl=>?_) (λhd=>?_) (by simp;omega) (by simp;omega)
   .rcases X8.mp hl with y|y
    .rcases X8.mp y with y|y
     .exact hwt l y
     .rw[xu.mp y];exact hw _ mj
    .exact hwd _ l y
   .rw[Tv,Tv]at hd;have eg:L.getD j []=L[j]'nofun:=by rw[xx,xf nofun];rfl
    by_cases jk:j<k
    .exact hd.1.2.2 (L.getD j []) (by rw[eg,List.mem_take_iff_getElem];exact⟨j,by omega,rfl⟩) _ (cO _) rfl
    .refine hd.2.2 (L.getD j []) (Xj _ (cO _)) (L.getD j []) ?_ rfl;rw[eg,List.mem_drop_iff_getElem];exact⟨j-(k+1),by omega,by congr 1;omega⟩
  .obtain⟨j,hj,ej⟩:=Vd (c:=c/64) (l:=L.length) nofun
   have gj:=Za (L:=L) (k:=j) nofun
   have mj:=U0 (L:=L) (k:=j) nofun
   ext;rw[ej,gj];ext;rw[c1,c2];ext;rw[Z0 (l:=[.lst ((L.take k).map tx++[tx (L.getD j [])]++(L.drop k).map tx),.str "Twice"]) rfl (by simp)];ext;refine⟨L.take k++[L.getD j []]++L.drop k,"Twice",by rw[ph,ph];first|rfl|simp,gTw,λn=>?_⟩;refine jcp (λl hl=>?_) (λhd=>?_) (by simp;omega) (by simp;omega)
   .rcases X8.mp hl with y|y
    .rcases X8.mp y with y|y
     .exact hwt l y
     .rw[xu.mp y];exact hw _ mj
    .exact hwd _ l y
   .rw[Tv,Tv]at hd;have mj':=mj;rw[<-iu k L]at mj';rcases X8.mp mj' with y|y
    .exact hd.1.2.2 (L.getD j []) (by simpa using y) _ (cO _) rfl
    .exact hd.2.2 (L.getD j []) (Xj _ (cO _)) (L.getD j []) (by simpa using y) rfl
noncomputable def sbs(c:Nat)(z l:List Nat):List Nat:=l.flatMap λd=>if d=c then z else[d]
def Yl:sbs c z (a++b)=sbs c z a++sbs c z b:=List.flatMap_append
theorem Qd:∀{l:List Nat},c∉l->sbs c z l=l
 |[],_=>rfl
 |k::r,h=>by have h1:¬k=c:=λe=>h (e▸km ..);have h2:c∉r:=λm=>h (kh _ m);have ih:=Qd (z:=z) h2;unfold sbs at ih ⊢;rw[Tu,if_neg h1,ih];rfl
theorem j1d:∀parts:List ao,(∀p∈parts,c∉p.cps.toList)->sbs c z (eY ⟨#[c]⟩ parts).cps.toList=(eY (sL z) parts).cps.toList
 |[],_=>rfl
 |[p],h=>Qd (h p (xu.mpr rfl))
 |p::q::r,h=>by have ih:=j1d (z:=z) (q::r) λa ha=>h a (kh _ ha);show sbs c z (p++⟨#[c]⟩++eY ⟨#[c]⟩ (q::r)).cps.toList=(p++sL z++eY (sL z) (q::r)).cps.toList;simp only[PySem.Str.cps_append,sr];rw[Yl,Yl,ih,Qd (h p (km ..)),J5];show p.cps.toList++sbs c z [c]++_=_;unfold sbs;simp
def rep1:ba (sL l) ⟨#[c]⟩ (sL z)=sL (sbs c z l):=by rw[lD];have h:=j1d (z:=z) _ (lz (sL l) c);rw[gy,J5]at h;rw[h];simp[sL]
def jgd(h:aT (sL x) (sL (c::p)) i=af):x[i]?=aa c:=by
 unfold aT at h;have h:=congrArg fG (beq_iff_eq.mp h);rw[show(sL (c::p)).cps=(c::p).toArray from rfl]at h;rw[eU,J5,j4,xn]at h;have h:=congrArg List.head? h;rw[dG]at h;rw[show i+(p.length+1)-i=p.length+1 from by omega]at h;cases hd:x.drop i with
 |nil=>rw[hd]at h;cases h
 |cons y r =>
  rw[hd]at h;have:y=c:=by simpa using h
  rw[<-this,<-List.head?_drop,hd];rfl
def jl1(h:aT (sL x) (sL p) i=af)(hd:d∈p):d∈x:=by unfold aT at h;have h:=congrArg fG (beq_iff_eq.mp h);rw[eU,J5,J5,dG]at h;rw[<-h]at hd;exact Pj (Ph hd)
def jho(hd:d∈c::p)(h:d∉x):ba (sL x) (sL (c::p)) (sL z)=sL x:=by
 have e:b7 (sL x) (sL (c::p)) 0 (sL x).length ((sL x).length+1)=[]:=by
  rw[gf];generalize List.range' 0 ((sL x).length+1-0)=l
  suffices H:∀(l:List Nat)(k:Nat),(forIn (m:=Id) l ((#[]:Array Nat),k) (bE (sL x) (sL (c::p)) (sL x).length ((sL x).length+1))).run.fst = #[]by rw[H]
  intro l;induction l with
  |nil=>intro k;rfl
  |cons i r ih =>intro k;simp only[Td,bE];rw[if_neg (λq=>h (jl1 q.2 hd))];exact ih k
 unfold ba;rw[e];rfl
theorem j46{sub:ao}(hs:∀i,aT s sub i=af->i=k):∀(l:List Nat)(A:Array Nat)(f:Nat),k∉l->(forIn (m:=Id) l (A,f) (bE s sub hi lim)).run=(A,f)
 |[],A,f,_=>rfl
 |i::l,A,f,h=>by simp only[Td,bE];rw[if_neg (λq=>h (by rw[<-hs i q.2];exact km ..))];exact j46 hs l A f λm=>h (kh _ m)
theorem j82{sub:ao}(hs:∀i,aT s sub i=af->i=k)(hk:aT s sub k=af)(hh:k+sub.length<=hi)(hl:0<lim):∀(l:List Nat)(f:Nat),f<=k->l.Nodup->k∈l->(forIn (m:=Id) l ((#[]:Array Nat),f) (bE s sub hi lim)).run=(#[k],k+sub.length)
 |[],f,_,_,h=>by cases h
 |i::l,f,hf,hn,h=>by
  simp only[Td,bE];by_cases e:i=k
  .subst e;rw[if_pos ⟨⟨⟨hl,hf⟩,hh⟩,hk⟩];exact j46 hs l _ _ (Xy.mp hn).1
  .rw[if_neg (λq=>e (hs i q.2))];exact j82 hs hk hh hl l f hf (Xy.mp hn).2 ((xj.mp h).resolve_left λq=>e q.symm)
def jej(ha:c∉a)(hp:c∉p)(hb:c∉b):ba (sL (a++(c::p)++b)) (sL (c::p)) (sL z)=sL (a++z++b):=by
 obtain⟨x,hx⟩:∃x,x=a++(c::p)++b:=⟨_,rfl⟩
 have lx:x.length=a.length+(p.length+1)+b.length:=by rw[hx];simp;omega
 have uniq:∀i,aT (sL x) (sL (c::p)) i=af->i=a.length:=λi h=>by
  have q:=jgd h;rw[hx]at q;by_cases l1:i<a.length
  .rw[Xg,cB l1]at q;exact absurd (Pg q) ha
  .by_cases e:i=a.length
   .exact e
   .rw[Xg,dy nofun,Xd]at q;obtain⟨j,hj⟩:∃j,i-a.length=j+1:=⟨i-a.length-1,by omega⟩
    rw[hj,dZ]at q;rcases X8.mp (Pg q)with y|y
    .exact absurd y hp
    .exact absurd y hb
 have here:aT (sL x) (sL (c::p)) a.length=af:=by unfold aT;rw[beq_iff_eq];apply Array.toList_inj.mp;rw[eU,J5,J5,j4,dG,hx];simp
 have e:b7 (sL x) (sL (c::p)) 0 (sL x).length ((sL x).length+1)=[a.length]:=by rw[gf,j82 uniq here (by rw[j4,j4,xn];omega) nofun _ _ (Tn _) (List.nodup_range' ..) (by rw[List.mem_range'_1,j4];omega)]
 rw[<-hx];unfold ba;rw[e,if_neg (by simp[j4])];unfold dU fb;refine congrArg Str.mk (Array.toList_inj.mp ?_);simp only[X5,Pk,fv,Xd,T9,List.zip_nil_left,su,T8,cK,List.foldl_nil,List.headD_cons,sr,ly];rw[J5,J5,j4,j4,hx];simp;exact Tf nofun
def Pn(q:List Nat):Prop:=q≠lp/\q≠rp
theorem j4z:∀(qs:Ps)(k:Nat),(∀q∈qs,Pn q)->qs.length+1<=k->wT (fT m) k (qs++rp::r)=ag\/wT (fT m) k (qs++rp::r)=aa (qs.map Fm.pl,r)
 |[],0,_,h=>by simp at h
 |[],k+1,_,_=>.inr (by rw[T9];unfold wT;rw[if_pos rfl];rfl)
 |q::qs,0,_,h=>by simp at h
 |q::qs,k+1,hq,h=>by
  have pq:=hq q (km ..);rw[Xd,Lj pq.2,Z5 pq.1];by_cases w:isW q=af
  .rw[if_pos w];rcases j4z (m:=m) (r:=r) qs k (λx hx=>hq x (kh _ hx)) (by simpa using h)with e|e
   .exact .inl (by dsimp only;rw[e])
   .exact .inr (by dsimp only;rw[e];rfl)
  .rw[if_neg w];exact .inl rfl
theorem j6x(pq:Pn q)(hw:isW q=ae):∀(qs:Ps)(k:Nat),(∀q∈qs,Pn q)->wT (fT m) k (qs++q::r)=ag
 |_,0,_=>by unfold wT;rfl
 |[],k+1,_=>by rw[T9,Lj pq.2,Z5 pq.1,hw];rfl
 |p::qs,k+1,hq=>by
  have pp:=hq p (km ..);rw[Xd,Lj pp.2,Z5 pp.1];by_cases w:isW p=af
  .rw[if_pos w];dsimp only;rw[j6x pq hw qs k λx hx=>hq x (kh _ hx)]
  .rw[if_neg w]
structure Stp(F:Ps):Prop where
 n:∀m r,fT m (F++r)=ag
 h:∃p r,F=p::r/\p≠rp
def Di(h:∀(m:Nat)(r:Ps),bT (fT m) (F++r)=ag):Stp (lp::F) where
 n:=λm r=>by
  cases m with
  |zero=>rw[Xd];unfold fT;rw[if_pos rfl]
  |succ m=>rw[Xd,Rp,h]
 h:=⟨lp,F,rfl,by decide⟩
def j58(h:Pn q)(hw:isW q=ae):Stp (q::F) where
 n:=λm r=>by rw[Xd,Z5 h.1,hw];rfl
 h:=⟨q,F,rfl,h.2⟩
def j79(h:kds.contains kd=ae):Stp (lp::kd::F):=Di λm r=>by rw[Xd,Vf,h];rfl
def Uu(hi:i<9):kds.contains (kds.getD i [])=af/\kds.idxOf (kds.getD i [])=i:=by
 have:∀i:Fin 9,kds.contains (kds.getD i.val [])=af/\kds.idxOf (kds.getD i.val [])=i.val:=by decide +kernel
 exact this ⟨i,hi⟩
def Wq(hi:i<9)(hw:wnt i=ae){qs:Ps}(hq:∀q∈qs,Pn q)(ho:okc i qs.length=ae):Stp (lp::kds.getD i []::(qs++[rp])):=Di λm r=>by
 rw[Xd,Vf,(Uu hi).1,if_pos rfl,(Uu hi).2,Oh hw,Xg];rcases j4z (m:=m) (r:=r) qs ((qs++([rp]++r)).length+1) hq (by simp)with e|e
 .rw[show[rp]++r=rp::r from rfl]at e ⊢;rw[e];rfl
 .rw[show[rp]++r=rp::r from rfl]at e ⊢;rw[e];unfold eT;dsimp only;rw[xm,ho];rfl
def Ql(hi:i<9)(hw:wnt i=af){qs:Ps}(hq:∀q∈qs,Pn q)(ho:(okc i qs.length&&oko i own qs.length)=ae):Stp (lp::kds.getD i []::own::(qs++[rp])):=Di λm r=>by
 rw[Xd,Vf,(Uu hi).1,if_pos rfl,(Uu hi).2,Xd,Fq hw,Xg];rcases j4z (m:=m) (r:=r) qs ((qs++([rp]++r)).length+1) hq (by simp)with e|e
 .rw[show[rp]++r=rp::r from rfl]at e ⊢;rw[e];rfl
 .rw[show[rp]++r=rp::r from rfl]at e ⊢;rw[e];unfold eT;dsimp only;rw[xm,ho];rfl
def jm6(hi:i<9)(hw:wnt i=ae){qs:Ps}(hq:∀q∈qs,Pn q)(pq:Pn q)(hn:isW q=ae):Stp (lp::kds.getD i []::(qs++[q])):=Di λm r=>by rw[Xd,Vf,(Uu hi).1,if_pos rfl,(Uu hi).2,Oh hw,Xg];rw[show qs++([q]++r)=qs++q::r from rfl,j6x pq hn qs _ hq];rfl
noncomputable def flT(w v u:List Nat):List Ps:=[[lp,[115,111,109,101],w,rp],[lp,[78,79,84],w,rp],[lp,[110,111,116,115],w,rp],[lp,[112,108,97,99,101],w,rp],[lp,rp],[lp,[110,111,116],w,v,rp],[lp,[110,111,116],rp],[lp,[97,108,108],rp],[lp,[97,110,121],rp],[lp,[111,100,100],rp],[lp,[108,101,97,115,116],[50],rp],[lp,[106,117,115,116],[48],rp],[lp,[108,101,97,115,116],[48,50],w,rp],[lp,[106,117,115,116],[49,48,48],w,rp],[lp,[108,101,97,115,116],w,v,rp],[lp,[106,117,115,116],[45,49],w,rp],[lp,[108,101,97,115,116],[49,97],w,rp],[lp,[116,97,98,108,101],[48,49,49],w,v,rp],[lp,[116,97,98,108,101],[48,49,48,50],w,v,rp],[lp,[116,97,98,108,101],[48,49],rp],[lp,[116,97,98,108,101],w,v,rp],[lp,[116,97,98,108,101],[48,49],w,v,rp],[lp,[116,97,98,108,101],u,w,v,w,v,w,rp],[lp,[114,105,110,103],w,v,w,v,w,rp],[[40,97,108,108],w,v,rp],[lp,[106,111,105,110,101,100],w,v,w,v,w,v,w,rp],[w++[49]],[w++[97,98,99,100,101,102,103,104,105]],[[65]],[lp],[rp],[lp,[97,108,108],w,v++[41,41]]]
noncomputable def fl(w v u:List Nat)(i:Nat):Ps:=(flT w v u).getD i []
def Cp(hi:i<32):fl w v u i∈flT w v u:=by unfold fl;rw[xx,xf (show i<(flT w v u).length from hi)];exact cw _
noncomputable def TEN:List Nat:=[84,69,78]
noncomputable def ten:List Nat:=[49,48,49,48,49,48,49,48,49,48,49,48,49,48,49,48,49,48,49,48,49,48,49,48,49,48,49,48,49,48,49,48]
structure Wv(w:List Nat):Prop where
 pn:Pn w
 a:asc w
 l:w.length<=8
 g:∀c∈w,65<=c/\c≠84/\c≠69
 e:w≠[]
def Nu:∀q∈([]:Ps),Pn q:=λq h=>by cases h
def Nt(h:Pn w):∀q∈[w],Pn q:=λq hq=>by rw[xu.mp hq];exact h
def Jg(h:isW w=af):Wv w:=by
 have p:=Je h;unfold isW at h;rw[X3,X3,decide_eq_true_eq,decide_eq_true_eq,Xf]at h;have g:∀c∈w,97<=c/\c<=122:=λc hc=>by have:=h.2 c hc;unfold low at this;simpa using this
 refine⟨⟨λz=>?_,λz=>?_⟩,p.a,h.1.2,λc hc=>?_,λz=>?_⟩
 .have:=g 40 (by rw[z];decide);omega
 .have:=g 41 (by rw[z];decide);omega
 .have:=g c hc;omega
 .rw[z]at h;exact absurd h.1.1 (by decide)
def Mg:Wv [88]:=⟨⟨by decide,by decide⟩,Jp (by decide),by decide,by decide,by decide⟩
def Wn:Wv [89]:=⟨⟨by decide,by decide⟩,Jp (by decide),by decide,by decide,by decide⟩
def nwc(h:c∈l)(hc:low c=ae):isW l=ae:=by
 cases e:isW l with
 |false=>rfl
 |true =>unfold isW at e;rw[X3,Xf]at e;rw[e.2 c h]at hc;cases hc
def nwl{l:List Nat}(h:9<=l.length):isW l=ae:=by
 cases e:isW l with
 |false=>rfl
 |true =>unfold isW at e;rw[X3,X3,decide_eq_true_eq,decide_eq_true_eq]at e;omega
def j1k{l:List Nat}(h:2<=l.length):Pn l:=⟨λz=>by rw[z]at h;exact absurd h (by decide),λz=>by rw[z]at h;exact absurd h (by decide)⟩
def j0t(h:Wv w):1<=w.length:=List.length_pos_iff.mpr h.e
def jjl(h:Wv w):∃c r,w=c::r/\65<=c:=by
 cases w with
 |nil=>exact absurd rfl h.e
 |cons c r=>exact⟨c,r,rfl,(h.g c (km ..)).1⟩
def jq5(h:Wv w):(okc 4 1&&oko 4 w 1)=ae:=by
 obtain⟨c,r,rfl,hc⟩:=jjl h;have:isNm (c::r)=ae:=by unfold isNm dgt;rw[d7,decide_eq_false nofun];rfl
 show isNm (c::r)=ae;exact this
def jq6(h:Wv w):(okc 6 1&&oko 6 w 1)=ae:=by
 obtain⟨c,r,rfl,hc⟩:=jjl h;have:b01 (c::r)=ae:=by unfold b01;rw[d7,show(c==48 || c==49)=ae from by simp;omega];rfl
 show((c::r).length==2^1&&b01 (c::r))=ae;rw[this,dC]
def Nr{qs:Ps}(hw:Pn w)(hv:Pn v)(h:∀q∈qs,q=w\/q=v):∀q∈qs,Pn q:=λq hq=>by rcases h q hq with rfl|rfl<;>assumption
def jjn(hw:Wv w)(hv:Wv v):∀i:Nat,i<32->i≠29->i≠30->Stp (fl w v u i):=by
 intro i hi h1 h2
 match i,hi with
 |0,_|1,_|2,_|3,_|4,_=>exact j79 (by decide)
 |5,_=>exact Wq (i:=0) (by decide) rfl (qs:=[w,v]) (Nr hw.pn hv.pn (by simp)) rfl
 |6,_=>exact Wq (i:=0) (by decide) rfl (qs:=[]) Nu rfl
 |7,_=>exact Wq (i:=1) (by decide) rfl (qs:=[]) Nu rfl
 |8,_=>exact Wq (i:=2) (by decide) rfl (qs:=[]) Nu rfl
 |9,_=>exact Wq (i:=3) (by decide) rfl (qs:=[]) Nu rfl
 |10,_=>exact Ql (i:=4) (by decide) rfl (own:=[50]) (qs:=[]) Nu rfl
 |11,_=>exact Ql (i:=5) (by decide) rfl (own:=[48]) (qs:=[]) Nu rfl
 |12,_=>exact Ql (i:=4) (by decide) rfl (own:=[48,50]) (qs:=[w]) (Nt hw.pn) rfl
 |13,_=>exact Ql (i:=5) (by decide) rfl (own:=[49,48,48]) (qs:=[w]) (Nt hw.pn) rfl
 |14,_=>exact Ql (i:=4) (by decide) rfl (own:=w) (qs:=[v]) (Nt hv.pn) (jq5 hw)
 |15,_=>exact Ql (i:=5) (by decide) rfl (own:=[45,49]) (qs:=[w]) (Nt hw.pn) rfl
 |16,_=>exact Ql (i:=4) (by decide) rfl (own:=[49,97]) (qs:=[w]) (Nt hw.pn) rfl
 |17,_=>exact Ql (i:=6) (by decide) rfl (own:=[48,49,49]) (qs:=[w,v]) (Nr hw.pn hv.pn (by simp)) rfl
 |18,_=>exact Ql (i:=6) (by decide) rfl (own:=[48,49,48,50]) (qs:=[w,v]) (Nr hw.pn hv.pn (by simp)) rfl
 |19,_=>exact Ql (i:=6) (by decide) rfl (own:=[48,49]) (qs:=[]) Nu rfl
 |20,_=>exact Ql (i:=6) (by decide) rfl (own:=w) (qs:=[v]) (Nt hv.pn) (jq6 hw)
 |21,_=>exact Ql (i:=6) (by decide) rfl (own:=[48,49]) (qs:=[w,v]) (Nr hw.pn hv.pn (by simp)) rfl
 |22,_=>exact Ql (i:=6) (by decide) rfl (own:=u) (qs:=[w,v,w,v,w]) (Nr hw.pn hv.pn (by simp)) rfl
 |23,_=>exact Wq (i:=7) (by decide) rfl (qs:=[w,v,w,v,w]) (Nr hw.pn hv.pn (by simp)) rfl
 |24,_|28,_=>exact j58 ⟨by decide,by decide⟩ (by decide)
 |25,_=>exact Wq (i:=8) (by decide) rfl (qs:=[w,v,w,v,w,v,w]) (Nr hw.pn hv.pn (by simp)) rfl
 |26,_=>exact j58 (j1k (by simp[j0t hw])) (nwc (c:=49) (by simp) (by decide))
 |27,_=>exact j58 (j1k (by simp)) (nwl (by simp))
 |31,_=>exact jm6 (i:=1) (by decide) rfl (qs:=[w]) (Nt hw.pn) (j1k (by simp)) (nwc (c:=41) (by simp) (by decide))
 |29,_=>exact absurd rfl h1
 |30,_=>exact absurd rfl h2
 |i+32,h=>omega
structure Gp(L P:Ps)(f:Fm):Prop where
 r:∀m,3<=m->∀r,fT m (P++r)=aa (f,r)
 h:∃p q,P=p::q/\p≠rp
 k:∀m,3<=m->kp L m f=af
 c:(∃q,P=lp::q)\/∃w,P=[w]
 p:∀p∈P,Pc p/\32∉p/\p.length<=9/\88∉p
 l:P.length<=40
def Jh(h:fT m (P++r)=aa (d,r))(hp:∃p q,P=p::q/\p≠rp):wT (fT m) (k+1) (P++r)=match wT (fT m) k r with
  |none=>ag
  |some (ds,r2)=>aa (d::ds,r2):=by
 obtain⟨p,q,rfl,hr⟩:=hp;rw[Xd]at h ⊢;rw[Lj hr,h]
 try rfl
def Li(h:fT m (F++r)=ag)(hp:∃p q,F=p::q/\p≠rp):∀k,wT (fT m) k (F++r)=ag
 |0=>by unfold wT;rfl
 |k+1=>by obtain⟨p,q,rfl,hr⟩:=hp;rw[Xd]at h ⊢;rw[Lj hr,h]
def Yt:wT (fT m) (k+1) (rp::r)=aa ([],r):=by unfold wT;rw[if_pos rfl]
def Q7(hi:i<9)(hw:wnt i=ae):fT (m+1) (lp::kds.getD i []::r)=eT i [] (wT (fT m) (r.length+1) r):=by rw[Rp,Vf,(Uu hi).1,if_pos rfl,(Uu hi).2,Oh hw]
def Dg(hi:i<9)(hw:wnt i=af):fT (m+1) (lp::kds.getD i []::own::r)=eT i own (wT (fT m) (r.length+1) r):=by rw[Rp,Vf,(Uu hi).1,if_pos rfl,(Uu hi).2,Fq hw]
noncomputable def bs(P F:Ps):Nat->Ps
 |0=>lp::kds.getD 2 []::(P++(F++[rp]))
 |1=>lp::kds.getD 3 []::(F++(P++[rp]))
 |_+2=>lp::kds.getD 4 []::[49]::(P++(lp::kds.getD 0 []::(P++[rp])++(F++[rp])))
def Ig:bs P F 0=lp::kds.getD 2 []::(P++(F++[rp])):=(rfl)
def Ie:bs P F 1=lp::kds.getD 3 []::(F++(P++[rp])):=(rfl)
def Ib:bs P F (j+2)=lp::kds.getD 4 []::[49]::(P++(lp::kds.getD 0 []::(P++[rp])++(F++[rp]))):=(rfl)
section
variable{L P F:Ps}{f:Fm}
def j0g(g:Gp L P f)(hm:4<=m):fT m ((lp::kds.getD 0 []::(P++[rp]))++r)=aa (.br 0 [] [f],r):=by
 obtain⟨m,rfl⟩:∃m',m=m'+1:=⟨m-1,by omega⟩
 rw[Xd,Xd,Xg,Q7 (i:=0) (m:=m) (by decide) rfl,Jh (g.r m nofun _) g.h];obtain⟨p,q,rfl,_⟩:=g.h;rw[show(p::q++([rp]++r)).length=(q++([rp]++r)).length+1 from rfl,show[rp]++r=rp::r from rfl,Yt];rfl
def Cj:∃p q,(lp::kds.getD 0 []::(P++[rp]))=p::q/\p≠rp:=⟨lp,_,rfl,by decide⟩
def Mw(h:∃p q,a=p::q/\p≠rp):(a++b).length=(a.length-1)+b.length+1:=by obtain⟨p,q,rfl,_⟩:=h;simp
def jkx(g:Gp L P f)(h:Stp F)(j:Nat):fT 8 (bs P F j)=ag:=by
 match j with
 |0 =>rw[Ig];rw[Q7 (i:=2) (m:=7) (by decide) rfl,Jh (g.r 7 nofun _) g.h,Li (h.n 7 _) h.h];rfl
 |1 =>rw[Ie];rw[Q7 (i:=3) (m:=7) (by decide) rfl,Li (h.n 7 _) h.h];rfl
 |j+2 =>rw[Ib];rw[Dg (i:=4) (m:=7) (by decide) rfl,Jh (g.r 7 nofun _) g.h,Mw g.h,Jh (j0g g nofun) Cj,Li (h.n 7 _) h.h];rfl
def jme:kds.contains rp=ae:=by decide
def joj(g:Gp L P f)(j:Nat):fT 8 (bs P [lp] j)=ag:=by
 have s:Stp [lp,rp]:=j79 jme;have n7:fT 7 ([lp,rp]++[])=ag:=s.n 7 [];have w7:=Li n7 s.h
 match j with
 |0 =>rw[Ig];rw[Q7 (i:=2) (m:=7) (by decide) rfl,Jh (g.r 7 nofun _) g.h,show[lp]++[rp]=[lp,rp]++[]from rfl,w7];rfl
 |1 =>
  have e:fT 7 ([lp]++(P++[rp]))=ag:=by
   rw[show[lp]++(P++[rp])=lp::(P++[rp])from rfl,Rp];rcases g.c with ⟨q,rfl⟩|⟨w,rfl⟩
   .rw[Xd,Vf,show kds.contains lp=ae from by decide];rfl
   .rw[show[w]++[rp]=w::[rp]from rfl,Vf];split
    .rename_i hk;have hi:kds.idxOf w<9:=dj (Xw.mp hk);generalize kds.idxOf w=i at hi;have o0:∀i:Fin 9,okc i.val 0=ae:=by decide
     cases hw:wnt i with
     |true=>rw[Fq hw];unfold wT;rfl
     |false =>rw[Oh hw,Yt];unfold eT;dsimp only;rw[T5,o0 ⟨i,hi⟩];rfl
    .rfl
  rw[Ie];rw[Q7 (i:=3) (m:=7) (by decide) rfl,Li e ⟨lp,[],rfl,by decide⟩];rfl
 |j+2 =>rw[Ib];rw[Dg (i:=4) (m:=7) (by decide) rfl,Jh (g.r 7 nofun _) g.h,Mw g.h,Jh (j0g g nofun) Cj,show[lp]++[rp]=[lp,rp]++[]from rfl,w7];rfl
def joi(g:Gp L P f)(j:Nat):fT 8 (bs P [rp] j)=ag\/∃d,fT 8 (bs P [rp] j)=aa (d,[rp]):=by
 match j with
 |0 =>
  right
  rw[Ig];rw[Q7 (i:=2) (m:=7) (by decide) rfl,Jh (g.r 7 nofun _) g.h,Mw g.h,show[rp]++[rp]=rp::[rp]from rfl,Yt];exact⟨_,rfl⟩
 |1 =>
  left
  rw[Ie];rw[Q7 (i:=3) (m:=7) (by decide) rfl,show[rp]++(P++[rp])=rp::(P++[rp])from rfl,Yt];rfl
 |j+2 =>
  right
  rw[Ib];rw[Dg (i:=4) (m:=7) (by decide) rfl,Jh (g.r 7 nofun _) g.h,Mw g.h,Jh (j0g g nofun) Cj,X6,X6,show[rp]++[rp]=rp::[rp]from rfl];rw[show P.length-1+((lp::kds.getD 0 []::(P++[rp])).length+([rp].length+[rp].length))=(P.length-1+(lp::kds.getD 0 []::(P++[rp])).length+1)+1 from rfl,Yt];exact⟨_,rfl⟩
def jkw(g:Gp L P f)(hx:isW x=af)(j:Nat):∃d,fT 8 (bs P [x] j)=aa (d,[])/\kp L 8 d=L.contains x:=by
 have px:=(Jg hx).pn;have fx:∀r,fT 7 ([x]++r)=aa (.pl x,r):=λr=>by rw[show[x]++r=x::r from rfl,Z5 px.1,hx];rfl
 have hxx:∃p q,([x]:Ps)=p::q/\p≠rp:=⟨x,[],rfl,px.2⟩
 have k7:=g.k 7 nofun
 have k6:=g.k 6 nofun
 have kx:kp L 7 (.pl x)=L.contains x:=rfl
 match j with
 |0 =>
  refine⟨.br 2 [] [f,.pl x],?_,?_⟩
  .rw[Ig];rw[Q7 (i:=2) (m:=7) (by decide) rfl,Jh (g.r 7 nofun _) g.h,Mw g.h,Jh (fx _) hxx,show P.length-1+([x]++[rp]).length=(P.length-1+1)+1 from rfl,Yt];rfl
  .show([f,.pl x].all (kp L 7))=_;simp[k7,kx]
 |1 =>
  refine⟨.br 3 [] [.pl x,f],?_,?_⟩
  .rw[Ie];rw[Q7 (i:=3) (m:=7) (by decide) rfl,Jh (fx _) hxx,Mw hxx,Jh (g.r 7 nofun _) g.h,X6,show[x].length-1+(P.length+[rp].length)=(0+P.length)+1 from rfl,Yt];rfl
  .show([.pl x,f].all (kp L 7))=_;simp[k7,kx]
 |j+2 =>
  refine⟨.br 4 [49] [f,.br 0 [] [f],.pl x],?_,?_⟩
  .rw[Ib];rw[Dg (i:=4) (m:=7) (by decide) rfl,Jh (g.r 7 nofun _) g.h,Mw g.h,Jh (j0g g nofun) Cj,X6,<-l9,show([x]++[rp]).length=1+1 from rfl,<-l9,Jh (fx _) hxx,Yt];rfl
  .show([f,.br 0 [] [f],.pl x].all (kp L 7))=_;have kn:kp L 7 (.br 0 [] [f])=af:=by show[f].all (kp L 6)=af;simp[k6]
   simp[k7,kx,kn]
end
def jqn(h:w∈L)(hw:isW w=af):Gp L [w] (.pl w) where
 r:=λm _ r=>by rw[show[w]++r=w::r from rfl,Z5 (Jg hw).pn.1,hw];rfl
 h:=⟨w,[],rfl,(Jg hw).pn.2⟩
 k:=λm _=>by rw[show kp L m (.pl w)=L.contains w from by cases m<;>rfl];exact Xw.mpr h
 c:=.inr ⟨w,rfl⟩
 p:=λp hp=>by rw[xu.mp hp];have q:=Je hw;refine⟨⟨q.a,Xa q.l (by decide)⟩,q.b,q.l,λz=>?_⟩;unfold isW at hw;rw[X3,Xf]at hw;exact absurd (hw.2 88 z) (by decide)
 l:=by simp
theorem Mm(hc:c≠32):∀ps:Ps,sbs c z (jn ps)=jn (ps.map (sbs c z))
 |[]=>rfl
 |[p]=>rfl
 |p::q::r=>by have ih:=Mm (z:=z) hc (q::r);rw[Zx,Yl,show(32::jn (q::r))=[32]++jn (q::r)from rfl,Yl,ih,Qd (l:=[32]) (by simpa using hc)];rfl
def sb1:sbs c z [c]=z:=by simp[sbs]
def j8w{L:List Ps}:(L.getD i []).map f=(L.map (fJ f)).getD i []:=by rw[xx,xx,Xn];cases L[i]?<;>rfl
def jqt(hb:88∉b)(hu:88∉u)(i:Nat):(fl [88] b u i).map (sbs 88 w)=fl w b u i:=by
 have e:(flT [88] b u).map (fJ (sbs 88 w))=flT w b u:=by simp (disch:=first|assumption|decide) only[flT,X5,Pk,sb1,Yl,Qd]
 unfold fl;rw[<-e,j8w]
def jjo(ha:89∉a)(hu:89∉u)(i:Nat):(fl a [89] u i).map (sbs 89 v)=fl a v u i:=by
 have e:(flT a [89] u).map (fJ (sbs 89 v))=flT a v u:=by simp (disch:=first|assumption|decide) only[flT,X5,Pk,sb1,Yl,Qd]
 unfold fl;rw[<-e,j8w]
def ab2(ha:a≠[])(hb:b≠[]):jn (a++b)=jn a++32::jn b:=by
 induction a with
 |nil=>exact absurd rfl ha
 |cons x a ih =>
  cases a with
  |nil=>rw[show[x]++b=x::b from rfl,Yo hb];rfl
  |cons y a=>rw[show x::y::a++b=x::(y::a++b)from rfl,Yo (by simp),ih (by simp),Zx (x:=x)];simp
def jqv(ha:69∉a)(hb:69∉b)(hu:69∉u):∀P∈flT a b u,69∉jn P:=by simp[flT,jn,ha,hb,hu,lp,rp]
def jqu(ha:Wv a)(hb:Wv b)(i:Nat)(hi:i<32):ba (sL (jn (fl a b TEN i))) (sL TEN) (sL ten)=sL (jn (fl a b ten i)):=by
 have na:69∉a:=λz=>(ha.g 69 z).2.2 rfl;have nb:69∉b:=λz=>(hb.g 69 z).2.2 rfl;have ta:84∉a:=λz=>(ha.g 84 z).2.1 rfl;have tb:84∉b:=λz=>(hb.g 84 z).2.1 rfl;by_cases h:i=22
 .subst h;have e:∀u,jn (fl a b u 22)=(jn [lp,[116,97,98,108,101]]++[32])++u++(32::jn [a,b,a,b,a,rp]):=λu=>by rw[show fl a b u 22=[lp,[116,97,98,108,101]]++([u]++[a,b,a,b,a,rp])from rfl,ab2 (by simp) (by simp),ab2 (by simp) (by simp)];simp[jn]
  rw[e,e];refine jej (c:=84) (p:=[69,78]) (by decide) (by decide) ?_;simp only[jn,xj,X8,ta,tb,rp];simp
 .have eu:fl a b TEN i=fl a b ten i:=by
   iterate 22 (rcases i with _|i;· rfl)
   rcases i with _|i
   .exact absurd rfl h
   .rfl
  rw[eu,show sL TEN=sL (84::[69,78])from rfl,jho (d:=69) (by decide) (jqv na nb (by decide) _ (Cp hi))]
def j7m{y:ao}(h:(o==n)=ae)(hl:y.length+(y.length+1)*n.length<=16777216):Mr (aa (.v (.e (.str y)))) (aa (.v (.e (.str o)))) (aa (.v (.e (.str n))))=aa (.v (.e (.any (Us o n [y])))):=by unfold Mr;simp only[d_e,D.txs];rw[if_pos ⟨h,λt ht=>by rw[xu.mp ht];exact hl⟩]
def j7n(h:(o==n)=ae)(hl:∀y∈S,y.length+(y.length+1)*n.length<=16777216):Mr (aa (.v (.e (.any S)))) (aa (.v (.e (.str o)))) (aa (.v (.e (.str n))))=aa (.v (.e (.any (Us o n S)))):=by unfold Mr;simp only[d_e,D.txs];rw[if_pos ⟨h,hl⟩]
def jkr{y:ao}(h:∀t∈S,y.length+t.length<=1000000):vm .add (aa (.v (.e (.str y)))) (aa (.v (.e (.any S))))=aa (.v (.e (.any (S.map λt=>y++t)))):=by simp only[vm,V3,d_e];rw[if_pos λt ht=>Xa (h t ht) (by decide)];rfl
def jku{z:ao}(h:∀t∈S,t.length+z.length<=1000000):vm .add (aa (.v (.e (.any S)))) (aa (.v (.e (.str z))))=aa (.v (.e (.any (S.map λt=>t++z)))):=by simp only[vm,V3,d_e];rw[if_pos λt ht=>Xa (h t ht) (by decide)];rfl
def Du{y:ao}(h:(1<=k/\k<=1000)/\y.length<=1000):vm .mul (aa (.v (.e (.str y)))) (aa (.v (.e (.int k))))=aa (.v (.e (.str (bP y k)))):=by simp only[vm,V3,d_e];rw[if_pos h];rfl
def K7{α:Type}{o n:ao}{g:α->List Nat}{h:α->α}{A:List α}(H:∀a∈A,ba (sL (g a)) o n=sL (g (h a))):Us o n (A.map λa=>sL (g a))=(A++A.map h).map λa=>sL (g a):=by unfold Us;rw[ph,Xe,Xe];exact congrArg _ (Pa λa ha=>H a ha)
noncomputable abbrev Tr3:=List Nat×List Nat×List Nat
noncomputable def tF(i:Nat)(t:Tr3):List Nat:=jn (fl t.1 t.2.1 t.2.2 i)
noncomputable def A1(w:List Nat):List Tr3:=[([88],[89],TEN),(w,[89],TEN)]
noncomputable def A2(w v:List Nat):List Tr3:=A1 w++(A1 w).map λt=>(t.1,v,t.2.2)
noncomputable def A3(w v:List Nat):List Tr3:=A2 w v++(A2 w v).map λt=>(t.1,t.2.1,ten)
noncomputable def Ly:List (List Nat):=(aZ 32).map λi=>tF i ([88],[89],TEN)
def jgw:[D.str "( some X )",D.str "( NOT X )",D.str "( nots X )",D.str "( place X )",D.str "( )",D.str "( not X Y )",D.str "( not )",D.str "( all )",D.str "( any )",D.str "( odd )",D.str "( least 2 )",D.str "( just 0 )",D.str "( least 02 X )",D.str "( just 100 X )",D.str "( least X Y )",D.str "( just -1 X )",D.str "( least 1a X )",D.str "( table 011 X Y )",D.str "( table 0102 X Y )",D.str "( table 01 )",D.str "( table X Y )",D.str "( table 01 X Y )",D.str "( table TEN X Y X Y X )",D.str "( ring X Y X Y X )",D.str "(all X Y )",D.str "( joined X Y X Y X Y X )",D.str "X1",D.str "Xabcdefghi",D.str "A",D.str "(",D.str ")",D.str "( all X Y))"]=Ly.map tx:=by
 have h:[("( some X )":ao),"( NOT X )","( nots X )","( place X )","( )","( not X Y )","( not )","( all )","( any )","( odd )","( least 2 )","( just 0 )","( least 02 X )","( just 100 X )","( least X Y )","( just -1 X )","( least 1a X )","( table 011 X Y )","( table 0102 X Y )","( table 01 )","( table X Y )","( table 01 X Y )","( table TEN X Y X Y X )","( ring X Y X Y X )","(all X Y )","( joined X Y X Y X Y X )","X1","Xabcdefghi","A","(",")","( all X Y))"]=Ly.map sL:=by decide +kernel
 have:=congrArg (fJ D.str) h;rw[Xe]at this;exact this
def jdy:bP "10" 16=sL ten:=by decide +kernel
structure W3(t:Tr3):Prop where
 a:Wv t.1
 b:Wv t.2.1
 u:t.2.2=TEN\/t.2.2=ten
def Dh(h:W3 t)(i:Nat)(hi:i<32):(tF i t).length<=200:=by
 have la:=h.a.l;have lb:=h.b.l;have lu:t.2.2.length<=32:=by rcases h.u with e|e<;>rw[e]<;>decide
 have H:∀P∈flT t.1 t.2.1 t.2.2,(jn P).length<=200:=by simp[flT,jn,lp,rp];omega
 exact H _ (Cp hi)
def N7(hw:isW w=af)(hv:isW v=af):∃i:Nat,i<32/\evP 1000 G T (n+1) "_law_faulty" [.int c,tx w,tx v]=.val (.any ((A3 w v).map λt=>sL (tF i t))):=by
 obtain⟨i,hi,ei⟩:∃i:Nat,i<32/\c%32=(i:Int):=⟨(c%32).toNat,by omega,by omega⟩
 have W:=Jg hw;have V:=Jg hv;have wx:∀k∈w,97<=k:=λk hk=>by unfold isW at hw;rw[X3,Xf]at hw;have:=hw.2 k hk;unfold low at this;simp at this;omega
 have vx:∀k∈v,97<=k:=λk hk=>by unfold isW at hv;rw[X3,Xf]at hv;have:=hv.2 k hk;unfold low at this;simp at this;omega
 have gt:atI (Ly.map tx) (i:Int)=aa (tx (tF i ([88],[89],TEN))):=by have:=Za (L:=Ly) (k:=i) (by simpa [Ly]using hi);rw[this];unfold Ly;rw[xx,Xn,iN hi];rfl
 have lw:(sL w).length<=8:=by rw[j4];exact W.l
 have lv:(sL v).length<=8:=by rw[j4];exact V.l
 have nX:(("X":ao)==sL w)=ae:=by refine beq_eq_false_iff_ne.mpr λz=>?_;rw[show("X":ao)=sL [88]from by decide +kernel]at z;have:=wx 88 (by rw[<-Qw z];decide);omega
 have nY:(("Y":ao)==sL v)=ae:=by refine beq_eq_false_iff_ne.mpr λz=>?_;rw[show("Y":ao)=sL [89]from by decide +kernel]at z;have:=vx 89 (by rw[<-Qw z];decide);omega
 have nT:(("TEN":ao)==sL ten)=ae:=by decide +kernel
 have w1:∀t∈A1 w,W3 t:=λt ht=>by
  simp only[A1,xj,Xx,or_false]at ht;rcases ht with rfl|rfl
  .exact⟨Mg,Wn,.inl rfl⟩
  .exact⟨W,Wn,.inl rfl⟩
 have w2:∀t∈A2 w v,W3 t/\t.2.2=TEN:=λt ht=>by
  simp only[A2,A1,X5,Pk,Xd,T9,xj,Xx,or_false]at ht;rcases ht with rfl|rfl|rfl|rfl
  .exact⟨⟨Mg,Wn,.inl rfl⟩,rfl⟩
  .exact⟨⟨W,Wn,.inl rfl⟩,rfl⟩
  .exact⟨⟨Mg,V,.inl rfl⟩,rfl⟩
  .exact⟨⟨W,V,.inl rfl⟩,rfl⟩
 have r1:Us "X" (sL w) [sL (tF i ([88],[89],TEN))]=(A1 w).map λt=>sL (tF i t):=by refine K7 (g:=tF i) (h:=λt=>(w,t.2.1,t.2.2)) (A:=[([88],[89],TEN)]) λt ht=>?_;rw[xu.mp ht,show("X":ao)=⟨#[88]⟩from by decide +kernel,rep1];unfold tF;rw[Mm (by decide),jqt (by decide) (by decide) i]
 have r2:Us "Y" (sL v) ((A1 w).map λt=>sL (tF i t))=(A2 w v).map λt=>sL (tF i t):=by
  refine K7 (g:=tF i) (h:=λt=>(t.1,v,t.2.2)) λt ht=>?_;rw[show("Y":ao)=⟨#[89]⟩from by decide +kernel,rep1];simp only[A1,xj,Xx,or_false]at ht;unfold tF;rcases ht with rfl|rfl
  .rw[Mm (by decide),jjo (by decide) (by decide) i]
  .rw[Mm (by decide),jjo (λz=>by have:=wx 89 z;omega) (show 89∉TEN by decide) i]
 have r3:Us "TEN" (sL ten) ((A2 w v).map λt=>sL (tF i t))=(A3 w v).map λt=>sL (tF i t):=by refine K7 (g:=tF i) (h:=λt=>(t.1,t.2.1,ten)) λt ht=>?_;obtain⟨h3,hT⟩:=w2 t ht;rw[show("TEN":ao)=sL TEN from by decide +kernel];unfold tF;rw[hT];exact jqu h3.a h3.b i hi
 have l0:(sL (tF i ([88],[89],TEN))).length<=200:=by rw[j4];exact Dh ⟨Mg,Wn,.inl rfl⟩ i hi
 have b1:∀y∈(A1 w).map λt=>sL (tF i t),y.length<=200:=λy hy=>by obtain⟨t,ht,rfl⟩:=Xm.mp hy;rw[j4];exact Dh (w1 t ht) i hi
 have b2:∀y∈(A2 w v).map λt=>sL (tF i t),y.length<=200:=λy hy=>by obtain⟨t,ht,rfl⟩:=Xm.mp hy;rw[j4];exact Dh (w2 t ht).1 i hi
 have bd:∀{a b:Nat},a<=200->b<=32->a+(a+1)*b<=16777216:=λ{a b} ha hb=>by have:=gZ (show a+1<=201 by omega) hb;omega
 refine⟨i,hi,?_⟩;rw[jt (F:=O8) (by rfl) rfl];simp only[O8,Ur,enter];ext;rw[Z0 (l:=[.str "( joined X Y X Y X Y X )",.str "X1",.str "Xabcdefghi",.str "A",.str "(",.str ")",.str "( all X Y))"]) rfl (by simp)];ext;rw[jgw];simp only[j2d];ext;rw[ei,gt];ext;rw[j7m nX (bd l0 nofun),r1,j7n nY (λy hy=>bd (b1 y hy) nofun),r2];ext;simp only[j2d];ext;rw[Du (by decide +kernel),jdy,j7n nT (λy hy=>bd (b2 y hy) (by decide +kernel)),r3];ext
noncomputable def Fp:List Nat:=[40,32,97,110,121,32]
noncomputable def Ff:List Nat:=[40,32,111,100,100,32]
noncomputable def Fj:List Nat:=[40,32,108,101,97,115,116,32,49,32]
noncomputable def Fg:List Nat:=[32,40,32,110,111,116,32]
def jhi:("( any ":ao)=sL Fp:=by decide +kernel
def jhe:("( odd ":ao)=sL Ff:=by decide +kernel
def jhh:("( least 1 ":ao)=sL Fj:=by decide +kernel
def jhf:(" ( not ":ao)=sL Fg:=by decide +kernel
def j5h:(" )":ao)=sL [32,41]:=by decide +kernel
def jhg:(" ) ":ao)=sL [32,41,32]:=by decide +kernel
def sBl:(" ":ao)=sL [32]:=by decide +kernel
def jcc(h:r≠[]):jn (x::r)=x++32::jn r:=Yo h
def bj0(hP:P≠[])(hF:F≠[]):Fp++jn P++[32]++jn F++[32,41]=jn (bs P F 0):=by rw[Ig,jcc (by simp),jcc (by simp[hP]),ab2 hP (by simp),ab2 hF (by simp)];simp[Fp,lp,rp,kds,jn]
def bj1(hP:P≠[])(hF:F≠[]):Ff++jn F++[32]++jn P++[32,41]=jn (bs P F 1):=by rw[Ie,jcc (by simp),jcc (by simp[hP]),ab2 hF (by simp),ab2 hP (by simp)];simp[Ff,lp,rp,kds,jn]
def bj2(hP:P≠[])(hF:F≠[])(j:Nat):Fj++jn P++Fg++jn P++[32,41,32]++jn F++[32,41]=jn (bs P F (j+2)):=by rw[Ib,show lp::kds.getD 0 []::(P++[rp])++(F++[rp])=lp::kds.getD 0 []::((P++[rp])++(F++[rp]))from rfl,jcc (by simp),jcc (by simp),jcc (by simp[hP]),ab2 hP (by simp),jcc (by simp),jcc (by simp[hP]),ab2 (a:=P++[rp]) (by simp) (by simp),ab2 hP (by simp),ab2 hF (by simp)];simp[Fj,Fg,lp,rp,kds,jn,nt]
def qt{a b:List Nat}(h:a.length+b.length<=1000000):vm .add (aa (.v (.e (.str (sL a))))) (aa (.v (.e (.str (sL b)))))=aa (.v (.e (.str (sL (a++b))))):=by rw[j2w (by rw[j4,j4];exact h),z6]
def j2x{α:Type}{b:List Nat}{g:α->List Nat}{A:List α}(h:∀a∈A,b.length+(g a).length<=1000000):vm .add (aa (.v (.e (.str (sL b))))) (aa (.v (.e (.any (A.map λa=>sL (g a))))))=aa (.v (.e (.any (A.map λa=>sL (b++g a))))):=by rw[jkr λt ht=>by obtain⟨a,ha,rfl⟩:=Xm.mp ht;rw[j4,j4];exact h a ha,Xe];refine congrArg (λz=>aa (W.v (Rk.e (D.any z)))) (Pa λa _=>?_);exact z6
def Oc{α:Type}{b:List Nat}{g:α->List Nat}{A:List α}(h:∀a∈A,(g a).length+b.length<=1000000):vm .add (aa (.v (.e (.any (A.map λa=>sL (g a)))))) (aa (.v (.e (.str (sL b)))))=aa (.v (.e (.any (A.map λa=>sL (g a++b))))):=by rw[jku λt ht=>by obtain⟨a,ha,rfl⟩:=Xm.mp ht;rw[j4,j4];exact h a ha,Xe];refine congrArg (λz=>aa (W.v (Rk.e (D.any z)))) (Pa λa _=>?_);exact z6
section
variable{P F:Ps}{n:Nat}{c:Int}
def Le(hP:P≠[])(hF:F≠[])(lP:(jn P).length<=1000)(lF:(jn F).length<=1000):evP 1000 G T (n+1) "_law_beside" [.int c,tx (jn P),tx (jn F)]=.val (tx (jn (bs P F (c%3).toNat))):=by
 have e1:(sL (jn P)).length<=1000:=by rw[j4];exact lP
 have e2:(sL (jn F)).length<=1000:=by rw[j4];exact lF
 have w3:c%3=0\/c%3=1\/c%3=2:=by omega
 rw[jt (F:=Vv) (by rfl) rfl];simp only[Vv,Vy,enter,jhi,jhe,jhh,jhf,j5h,jhg,sBl];have l1:(sL Fp).length=6:=by rw[j4];rfl
 have l2:(sL Ff).length=6:=by rw[j4];rfl
 have l3:(sL Fj).length=10:=by rw[j4];rfl
 have l4:(sL Fg).length=7:=by rw[j4];rfl
 have l5:(sL [32,41]).length=2:=by rw[j4];rfl
 have l6:(sL [32,41,32]).length=3:=by rw[j4];rfl
 have l7:(sL [32]).length=1:=by rw[j4];rfl
 have c1:Fp.length=6:=rfl;have c2:Ff.length=6:=rfl;have c3:Fj.length=10:=rfl;have c4:Fg.length=7:=rfl;rcases w3 with z|z|z
 .rw[z];ext;rw[z6,qt (by simp;omega),qt (by simp;omega),qt (by simp;omega),bj0 hP hF];ext
 .rw[z];ext;rw[z6,qt (by simp;omega),qt (by simp;omega),qt (by simp;omega),bj1 hP hF];ext
 .rw[z];ext;rw[z6,qt (by simp;omega),qt (by simp;omega),qt (by simp;omega),qt (by simp;omega),qt (by simp;omega),bj2 hP hF 0];ext
def j6j{α:Type}{A:List α}{g:α->Ps}(hP:P≠[])(hF:∀a∈A,g a≠[])(lP:(jn P).length<=1000)(lF:∀a∈A,(jn (g a)).length<=1000):evP 1000 G T (n+1) "_law_beside" [.int c,tx (jn P),.any (A.map λa=>sL (jn (g a)))]=.val (.any (A.map λa=>sL (jn (bs P (g a) (c%3).toNat)))):=by
 have e1:(sL (jn P)).length<=1000:=by rw[j4];exact lP
 have w3:c%3=0\/c%3=1\/c%3=2:=by omega
 rw[jt (F:=Vv) (by rfl) rfl];simp only[Vv,Vy,enter,jhi,jhe,jhh,jhf,j5h,jhg,sBl];have l1:(sL Fp).length=6:=by rw[j4];rfl
 have l2:(sL Ff).length=6:=by rw[j4];rfl
 have l3:(sL Fj).length=10:=by rw[j4];rfl
 have l4:(sL Fg).length=7:=by rw[j4];rfl
 have c1:Fp.length=6:=rfl;have c2:Ff.length=6:=rfl;have c3:Fj.length=10:=rfl;have c4:Fg.length=7:=rfl;rcases w3 with z|z|z
 .rw[z];ext;rw[z6,qt (by simp;omega),j2x (g:=λa=>jn (g a)) (λa ha=>by have:=lF a ha;simp;omega),Oc (λa ha=>by have:=lF a ha;simp;omega)];ext;refine congrArg Rc.val (congrArg D.any (Pa λa ha=>?_));rw[bj0 hP (hF a ha)]
 .rw[z];ext;rw[j2x (g:=λa=>jn (g a)) (λa ha=>by have:=lF a ha;omega),Oc (λa ha=>by have:=lF a ha;simp;omega),Oc (λa ha=>by have:=lF a ha;simp;omega),Oc (λa ha=>by have:=lF a ha;simp;omega)];ext;refine congrArg Rc.val (congrArg D.any (Pa λa ha=>?_));rw[bj1 hP (hF a ha)]
 .rw[z];ext;rw[z6,qt (by simp;omega),qt (by simp;omega),qt (by simp;omega),j2x (g:=λa=>jn (g a)) (λa ha=>by have:=lF a ha;simp;omega),Oc (λa ha=>by have:=lF a ha;simp;omega)];ext;refine congrArg Rc.val (congrArg D.any (Pa λa ha=>?_));rw[bj2 hP (hF a ha) 0]
end
def j24(h:1<=n):aE ag (aa (-1)) 1 n=aE (aa ((0:Nat):Int)) (aa ((n-1:Nat):Int)) 1 n:=by
 have e:max (0:Int) (min 0 (n:Int))=0:=by omega
 have e2:((n-1:Nat):Int)=(n:Int)-1:=by omega
 have e3:max (0:Int) (min (-1+(n:Int)) (n:Int))=max (0:Int) (min ((n:Int)-1) (n:Int)):=by omega
 have e4:¬((n:Int)-1<0):=by omega
 simp[aE,e,e2,e3,e4]
def Dk{l:List Nat}(h:1<=l.length):bj (sL l) ag (aa (-1))=sL (l.take (l.length-1)):=by rw[Nh (a:=0) (b:=l.length-1) (by rw[j4];exact j24 h) (Tn _) nofun];simp
theorem Ec:∀L:List (List Nat),zc (L.map tx)=af
 |[]=>rfl
 |x::L=>by simp[zc,Zu,Ec L]
def jqd:("mdkbvqhzcgrnapxolsiefwtyju":ao)=sL letters:=by decide +kernel
def jiz{h:∀c∈l,low c=af}(h1:0<l.length)(h2:l.length<9):isW l=af:=by unfold isW;rw[X3,X3,decide_eq_true_eq,decide_eq_true_eq,Xf];exact⟨⟨h1,by omega⟩,h⟩
def Nv:∀c∈letters,low c=af:=by decide
def j4l(h:isW w=af):∀c∈w,low c=af:=by unfold isW at h;rw[X3,Xf]at h;exact h.2
noncomputable def five(w:List Nat)(s:Nat):Ps:=[w++[s],s::w,w.drop 1,w.take (w.length-1),w.take (w.length-1)++[s]]
noncomputable def cands(w:List Nat)(s:Nat):Ps:=five w s++letters.map λc=>[c]
def Er(hw:∀c∈w,low c=af)(hs:low s=af):∀l∈cands w s,(∀c∈l,low c=af)/\l.length<=w.length+1:=by
 intro l hl;rcases X8.mp hl with z|z
 .simp only[five,xj,Xx,or_false]at z;rcases z with rfl|rfl|rfl|rfl|rfl
  .exact⟨λc hc=>(X8.mp hc).elim (hw c) λq=>by rw[xu.mp q];exact hs,by simp⟩
  .exact⟨λc hc=>(xj.mp hc).elim (λq=>by rw[q];exact hs) (hw c),by simp⟩
  .exact⟨λc hc=>hw c (Pj hc),by simp;omega⟩
  .exact⟨λc hc=>hw c (Ph hc),by simp;omega⟩
  .exact⟨λc hc=>(X8.mp hc).elim (λq=>hw c (Ph q)) λq=>by rw[xu.mp q];exact hs,by simp⟩
 .obtain⟨c,hc,rfl⟩:=Xm.mp z;exact⟨λd hd=>by rw[xu.mp hd];exact Nv c hc,by simp⟩
noncomputable def okS(L:Ps)(l:List Nat):Bool:=(decide (0<l.length)&&decide (l.length<9)) && !L.contains l
def j7c{L:Ps}(hL:L.length<=6)(w:List Nat)(s:Nat):1<=((cands w s).filter (okS L)).length:=by
 obtain⟨c,hc,hn⟩:∃c∈letters,[c]∉L:=by
  apply gc;intro h;have hall:∀c∈letters,[c]∈L:=λc hc=>gc λq=>h ⟨c,hc,q⟩;have sub:(letters.map λc=>[c]) ⊆ L:=λl hl=>by obtain⟨c,hc,rfl⟩:=Xm.mp hl;exact hall c hc
  have nd:(letters.map λc=>([c]:List Nat)).Nodup:=by decide
  have:=List.Nodup.length_le_of_subset nd sub;rw[xm,show letters.length=26 from rfl]at this;omega
 refine List.length_pos_of_mem (a:=[c]) (List.mem_filter.mpr ⟨Xj _ (Xm.mpr ⟨c,hc,rfl⟩),?_⟩);unfold okS;simp[hn]
def j05{n:Nat}{L:Ps}{c:Int}(hw:∀l∈L,isW l=af)(h1:1<=L.length)(h6:L.length<=6):∃x,evP 1000 G T (n+1) "_law_stranger" [.lst (L.map tx),.int c]=.val (tx x)/\isW x=af/\x∉L:=by
 obtain⟨k,hk,ek⟩:=Vd (c:=c) (l:=L.length) nofun
 have gx:=Za hk;have gm:=U0 hk;have ww:=hw _ gm;have W:=Jg ww;generalize L.getD k []=w at *;obtain⟨s,hs,es⟩:∃s,s∈letters/\atI letters (c/64%26)=aa s:=by
  obtain⟨j,hj,ej⟩:∃j:Nat,j<26/\c/64%26=(j:Int):=⟨(c/64%26).toNat,by omega,by omega⟩
  exact⟨letters[j]'hj,cw _,by rw[ej];exact Bp (xf hj)⟩
 obtain⟨C,hC⟩:∃C,C=(cands w s).filter (okS L):=⟨_,rfl⟩
 have l26:letters.length=26:=rfl;have lC:1<=C.length:=by rw[hC];exact j7c h6 w s
 have lc:(cands w s).length=31:=rfl;have lC2:C.length<=31:=by rw[hC,<-lc];exact iA ..
 have lw:(sL w).length<=8:=by rw[j4];exact W.l
 have ll:(sL letters).length=26:=by rw[j4];rfl
 have ls:∀a:Nat,(sL [a]).length=1:=λa=>by rw[j4];rfl
 have s1:bj (sL w) (aa 1) ag=sL (w.drop 1):=Wr (k:=1) (j0t W);have s2:bj (sL w) ag (aa (-1))=sL (w.take (w.length-1)):=Dk (j0t W);have lt':(sL (w.take (w.length-1))).length<=8:=by rw[j4,Xk];have:=W.l;omega
 rw[jt (F:=Uw) (by rfl) rfl];simp only[Uw,Vn,enter,jqd];ext;rw[ek,gx];ext;rw[J5,es];ext;rw[show({ cps:=#[s] }:ao)=sL [s]from rfl,s1,s2,qt (by simp;have:=W.l;omega),qt (by simp;have:=W.l;omega),qt (by simp;have:=W.l;omega)];ext;rw[j1b (j34 (Jp (by decide))),j2q,vp (l:=letters.map λc=>tx [c]) (by rfl) (by simp[letters]) (zj λc hc=>J1 (by ext) (by ext;rfl)) (.inl rfl)];ext;have ec:D.str (sL (w++[s]))::D.str (sL (s::w))::D.str (sL (w.drop 1))::D.str (sL (w.take (w.length-1)))::D.str (sL (w.take (w.length-1)++[s]))::letters.map (λc=>tx [c])=(cands w s).map tx:=by unfold cands five;rw[ph,Xe];rfl
 rw[ec,vp (l:=C.map tx) (by rfl) (by rw[xm];omega) ?_ (.inr (Ec C))]
 .ext;have hm:(if (C.length:Int)<6 then(C.length:Int)else 6)=((min 6 C.length:Nat):Int):=by split<;>omega
  obtain⟨j,hj,ej⟩:=Vd (c:=c/8) (l:=min 6 C.length) nofun
  have gj:=Za (L:=C) (k:=j) nofun
  have mj:=U0 (L:=C) (k:=j) nofun
  rw[hm];ext;rw[ej,gj];ext;rw[hC]at mj;obtain⟨m1,m2⟩:=List.mem_filter.mp mj;rw[<-hC]at m1 m2;unfold okS at m2;rw[X3,X3,decide_eq_true_eq,decide_eq_true_eq]at m2;refine⟨_,rfl,jiz (h:=(Er (j4l ww) (Nv s hs) _ m1).1) m2.1.1 m2.1.2,λq=>?_⟩;have:=m2.2;rw[Xw.mpr q]at this;cases this
 .rw[hC];refine j09 (p:=okS L) λl hl=>ja0 (b:=okS L l) ?_ λ_=>?_
  .have:=(Er (j4l ww) (Nv s hs) l hl).2;have ln:(sL l).length=l.length:=j4;have l100:(sL l).length<=100:=by rw[ln];have:=W.l;omega
   ext;rw[show(decide ((0:Int)<((sL l).length:Int))&&decide (((sL l).length:Int)<9))=(decide (0<l.length)&&decide (l.length<9))from by
    rw[ln]
    congr 1
    .rw[decide_eq_decide];omega
    .rw[decide_eq_decide];omega]
   unfold okS;cases(decide (0<l.length)&&decide (l.length<9)) with
   |false =>ext;rfl
   |true =>ext;rw[j1q .lst (.inr rfl)];ext;rfl
  .ext
def NT(V:Ps):Prop:=∀d,fT 8 V≠aa (d,[])
def j1p{V:Ps}(h:NT V):rfz L (fT 8 V)=[.str "NoText"]:=by
 cases e:fT 8 V with
 |none=>rfl
 |some x =>
  obtain⟨d,r⟩:=x;cases r with
  |nil=>exact absurd e (h d)
  |cons _ _=>rfl
def Cl(f:Ps->Option (Fm×Ps)):Prop:=∀ps d r,f ps=aa (d,r)->∃q,ps=q++r/\[]∉q
theorem j50(hf:Cl f):∀{k:Nat}{ps:Ps}{ds:List Fm}{r:Ps},wT f k ps=aa (ds,r)->∃q,ps=q++r/\[]∉q
 |0,_,_,_,h=>by cases h
 |_+1,[],_,_,h=>by cases h
 |k+1,p::ps,ds,r,h=>by
  unfold wT at h;split at h
  .rename_i e;cases h;exact⟨[rp],by rw[e];rfl,by decide⟩
  .split at h
   .cases h
   .rename_i d r' e;split at h
    .cases h
    .rename_i ds' r2 e2;cases h;obtain⟨q,eq,n1⟩:=hf _ _ _ e;obtain⟨q2,e3,n2⟩:=j50 hf e2;exact⟨q++q2,by rw[eq,e3,Xg],λz=>(X8.mp z).elim n1 n2⟩
def jj9:([]:List Nat)∉kds:=by decide
theorem j69:∀m,Cl (fT m)
 |m,[],d,r,h=>by rw[O7]at h;cases h
 |m,p::ps,d,r,h=>by
  by_cases z:p=lp
  .subst z;cases m with
   |zero=>unfold fT at h;rw[if_pos rfl]at h;cases h
   |succ m =>
    rw[Rp]at h;cases ps with
    |nil=>cases h
    |cons kd ps =>
     rw[Vf]at h;split at h
     .rename_i hk;have hkd:kd≠[]:=λq=>jj9 (q▸Xw.mp hk);generalize kds.idxOf kd=i at h;cases hw:wnt i with
      |true =>
       cases ps with
       |nil=>rw[j6l hw]at h;cases h
       |cons own r1 =>
        rw[Fq hw]at h;obtain⟨fs,e,a,b⟩:=Bh h;obtain⟨q,eq,nq⟩:=j50 (j69 m) e;have ho:own≠[]:=λq=>by
         subst q;rw[X3]at a;have a:=a.2;unfold oko at a;split at a
         .rw[X3,beq_iff_eq]at a;have:=Nat.two_pow_pos fs.length;have:=a.1;simp at this;omega
         .split at a
          .exact absurd a (by decide)
          .rename_i h6 h45;unfold wnt at hw;have:=of_decide_eq_true hw;omega
        exact⟨lp::kd::own::q,by rw[eq];rfl,λz=>by
         simp only[xj]at z
         rcases z with z|z|z|z
         .exact absurd z (by decide)
         .exact hkd z.symm
         .exact ho z.symm
         .exact nq z⟩
      |false =>
       rw[Oh hw]at h;obtain⟨fs,e,a,b⟩:=Bh h;obtain⟨q,eq,nq⟩:=j50 (j69 m) e;exact⟨lp::kd::q,by rw[eq];rfl,λz=>by
        simp only[xj]at z
        rcases z with z|z|z
        .exact absurd z (by decide)
        .exact hkd z.symm
        .exact nq z⟩
     .cases h
  .rw[Z5 z]at h;split at h
   .rename_i hw;cases h;exact⟨[p],rfl,λq=>by rw[xu]at q;rw[<-q]at hw;exact absurd hw (by decide)⟩
   .cases h
def Vc{V:Ps}(h:[]∈V):NT V:=λd e=>by obtain⟨q,eq,nq⟩:=j69 8 _ _ _ e;rw[eq,Xq]at h;exact nq h
section
variable{L P:Ps}{f:Fm}
noncomputable def wh(P:Ps):Ps:=lp::kds.getD 1 []::(P++[rp])
def jpd(g:Gp L P f):fT 8 (wh P++r)=aa (.br 1 [] [f],r):=by unfold wh;rw[Xd,Xd,Xg,Q7 (i:=1) (m:=7) (by decide) rfl,Jh (g.r 7 nofun _) g.h];obtain⟨p,q,rfl,_⟩:=g.h;rw[show(p::q++([rp]++r)).length=(q++([rp]++r)).length+1 from rfl,show[rp]++r=rp::r from rfl,Yt];rfl
def j48(g:Gp L P f):NT (wh P++[x]):=λd e=>by rw[jpd g]at e;cases e
def jpe:wT (fT m) k []=ag:=by cases k<;>rfl
def jf6(g:Gp L P f):NT (lp::kds.getD 1 []::P):=λd e=>by
 have:=g.r 7 nofun []
 rw[<-Xq P,Q7 (i:=1) (m:=7) (by decide) rfl,Jh this g.h,jpe]at e;cases e
noncomputable def nine(x:List Nat):Ps:=[lp,nt,lp,nt,lp,nt,lp,nt,lp,nt,lp,nt,lp,nt,lp,nt,lp,nt,x,rp,rp,rp,rp,rp,rp,rp,rp,rp]
def Ze(h:fT m (lp::r)=ag):fT (m+1) (lp::nt::lp::r)=ag:=by rw[show nt=kds.getD 0 []from rfl,Q7 (by decide) rfl];rw[show wT (fT m) ((lp::r).length+1) (lp::r)=ag from Li (F:=[lp]) (r:=r) h ⟨lp,[],rfl,by decide⟩ _];rfl
def j47:NT (nine x):=λd e=>by
 have h0:∀r,fT 0 (lp::r)=ag:=λr=>by unfold fT;rw[if_pos rfl]
 unfold nine at e;rw[Ze (m:=7) (Ze (Ze (Ze (Ze (Ze (Ze (Ze (h0 _))))))))]at e;cases e
noncomputable def nst(x:List Nat):Nat->Ps
 |0=>[x]
 |k+1=>lp::kds.getD 0 []::(nst x k++[rp])
noncomputable def nf(x:List Nat):Nat->Fm
 |0=>.pl x
 |k+1=>.br 0 [] [nf x k]
def jn0(hx:isW x=af):∀k,∃p q,nst x k=p::q/\p≠rp
 |0=>⟨x,[],rfl,(Jg hx).pn.2⟩
 |k+1=>⟨lp,_,rfl,by decide⟩
theorem jct(hx:isW x=af):∀(k m:Nat)(r:Ps),k<=m->fT m (nst x k++r)=aa (nf x k,r)
 |0,m,r,_=>by rw[show nst x 0++r=x::r from rfl,Z5 (Jg hx).pn.1,hx];rfl
 |k+1,0,r,h=>by omega
 |k+1,m+1,r,h=>by have hh:=jn0 hx k;unfold nst;rw[Xd,Xd,Xg,Q7 (i:=0) (m:=m) (by decide) rfl,Jh (jct hx k m _ nofun) hh,Mw hh,show[rp]++r=rp::r from rfl,Yt];rfl
theorem jcu:∀(k m:Nat),k<=m->kp L m (nf x k)=L.contains x
 |0,m,_=>by cases m<;>rfl
 |k+1,0,h=>by omega
 |k+1,m+1,h=>by show[nf x k].all (kp L m)=_;rw[d7,jcu k m nofun,List.all_nil,kL]
end
def jkf:cutD l ag (aa (-1))=l.take (l.length-1):=by
 unfold cutD;have e:HT.sIx l.length l.length (aa (-1))=l.length-1:=by show(if (-1:Int)<0 then((-1:Int)+(l.length:Int)).toNat else min (-1:Int).toNat l.length)=_;rw[if_pos (by decide)];omega
 rw[HT.sIx_none,e,T8,Nat.sub_zero]
def O1{sep:ao}(hs:sep.length<=10)(h:∀t∈ts,t.length<=10000)(hl:ts.length<=100):bZ sep ts=af:=by
 unfold bZ;rw[dP];have e:∀(r:List ao)(k:Nat),(∀t∈r,t.length<=10000)->r.foldl (λ(x:Nat) (y:ao)=>x+y.length+sep.length) k<=k+10010*r.length:=by
  intro r;induction r with
  |nil=>intro k _;simp
  |cons a r ih =>intro k h;rw[cK,xn];have:=ih (k+a.length+sep.length) λt ht=>h t (kh _ ht);have:=h a (km ..);omega
 have:=e ts 0 h;show bh _=ae;rw[j3];show bh (cW (λ(x:Nat) (y:ao)=>x+y.length+sep.length) 0 _)=ae;unfold bh;simp only[decide_eq_false_iff_not];have:=bN;omega
def jfh(h:bZ sep ts=af):Vl sep (aa (.v (.w (ts.map D.str))))=aa (.v (.e (.str (c9 sep ts)))):=by simp only[Vl,Rk.d,Y9,h,if_true]
theorem O3:∀ls:List (List Nat),(jn ls).length<=(ls.map λl=>l.length+1).sum
 |[]=>by simp[jn]
 |[x]=>by simp[jn]
 |x::y::r=>by rw[Zx,X5,Tz];have:=O3 (y::r);simp only[X6,xn]at this ⊢;omega
structure Tx(V:Ps):Prop where
 e:V≠[]
 p:∀p∈V,Pc p/\32∉p
 l:V.length<=100
def j0j{V:Ps}(h:Tx V):(jn V).length<=101*V.length:=by
 refine Xa (O3 V) ?_;have:=h.p;clear h;induction V with
 |nil=>simp
 |cons x V ih =>have hx:=(this x (km ..)).1.l;have:=ih λp hp=>this p (kh _ hp);rw[X5,Tz,xn];omega
def Tx.spl{V:Ps}(h:Tx V):Spl (sL (jn V)) V where
 s:=jac h.e λl hl=>(h.p l hl).2
 p:=λp hp=>(h.p p hp).1
 l:=Xa h.l (by decide)
 t:=by have:=j0j h;have:=h.l;rw[j4];omega
def jnf{V:Ps}(h:∀p∈V,Pc p)(hl:V.length<=100):bZ " " (V.map sL)=af:=O1 (by decide +kernel) (λt ht=>by obtain⟨p,hp,rfl⟩:=Xm.mp ht;rw[j4];exact Xa (h p hp).l (by decide)) (by rw[xm];exact hl)
def j9x{V:Ps}:V.map tx=(V.map sL).map D.str:=by rw[Xe];rfl
def Zt:Pc lp/\32∉lp:=⟨⟨Jp (by decide),by decide⟩,by decide⟩
def Vh:Pc rp/\32∉rp:=⟨⟨Jp (by decide),by decide⟩,by decide⟩
def Nm:Pc []/\32∉([]:List Nat):=⟨⟨Jp (by decide),by decide⟩,by decide⟩
def Ut:∀i:Nat,i<9->Pc (kds.getD i [])/\32∉kds.getD i []:=λi hi=>by
 have:∀i:Fin 9,(kds.getD i.val []).all (λc=>decide (c<128))=af/\(kds.getD i.val []).length<=100/\32∉kds.getD i.val []:=by decide +kernel
 obtain⟨a,b,c⟩:=this ⟨i,hi⟩;exact⟨⟨Jp a,b⟩,c⟩
def jw{V:Ps}(h:∀p∈V,Pc p/\32∉p)(hl:V.length<=100):Vl " " (aa (.v (.o (V.map tx))))=aa (.v (.e (tx (jn V)))):=by rw[j9x,Bb (jnf (λp hp=>(h p hp).1) hl),j4h]
def jbd{V:Ps}(h:∀p∈V,Pc p/\32∉p)(hl:V.length<=100):(jn V).length<=10100:=by
 by_cases e:V=[]
 .rw[e];decide
 .have:=j0j ⟨e,h,hl⟩;omega
def jqz:atI [a,b] 0=aa a:=rfl
def jqy:atI [a,b] 1=aa b:=rfl
noncomputable def n9:List Nat:=[40,32,110,111,116,32,40,32,110,111,116,32,40,32,110,111,116,32,40,32,110,111,116,32,40,32,110,111,116,32,40,32,110,111,116,32,40,32,110,111,116,32,40,32,110,111,116,32,40,32,110,111,116,32]
noncomputable def r9:List Nat:=[32,41,32,41,32,41,32,41,32,41,32,41,32,41,32,41,32,41]
def m9:bP "( not " 9=sL n9:=by decide +kernel
def mr9:bP (sL [32,41]) 9=sL r9:=by decide +kernel
def sX:("X":ao)=sL [88]:=by decide +kernel
def j9:n9++[88]++r9=jn (nine [88]):=by decide +kernel
section
variable{L P:Ps}{f:Fm}
def jlr(g:Gp L P f):Tx (wh P) where
 e:=by simp[wh]
 p:=λp hp=>by
  simp only[wh,xj,X8,Xx,or_false]at hp;rcases hp with rfl|rfl|hp|rfl
  .exact Zt
  .exact Ut 1 (by decide)
  .exact⟨(g.p p hp).1,(g.p p hp).2.1⟩
  .exact Vh
 l:=by have:=g.l;simp[wh];omega
def W4(hA:∀p∈A,Pc p/\32∉p)(hB:∀p∈B,Pc p/\32∉p)(he:B≠[])(hl:A.length+B.length<=100):Tx (A++B) where
 e:=by simp[he]
 p:=λp hp=>(X8.mp hp).elim (hA p) (hB p)
 l:=by simpa using hl
def jgk:(wh P).length=P.length+3:=by simp[wh]
def j4y(g:Gp L P f):∃V,evP 1000 G T (n+1) "_law_whole_faulty" [.int c,tx (jn (wh P))]=.val (tx (jn V))/\Tx V/\NT V/\(V=nine [88]\/∀p∈V,88∉p):=by
 have tw:=jlr g;have sp:=tw.spl;have wl:=jgk (P:=P);have gl:=g.l;have w88:∀p∈wh P,88∉p:=λp hp=>by
  simp only[wh,xj,X8,Xx,or_false]at hp;rcases hp with rfl|rfl|hp|rfl
  .decide
  .decide
  .exact(g.p p hp).2.2.2
  .decide
 obtain⟨k,hk,ek⟩:=Vd (c:=c/8) (l:=(wh P).length) nofun
 have jb:(sL (jn (wh P))).length<=10100:=by have:=j0j tw;rw[j4];omega
 have le:(sL [32,41]).length=2:=by rw[j4];rfl
 have lb:(sL [32]).length=1:=by rw[j4];rfl
 have jl':(jn (wh P)).length<=10100:=by rw[<-j4];exact jb
 rw[jt (F:=V0) (by rfl) rfl];simp only[V0,Q9,enter,j5h,sBl];ext;rw[<-sBl,jh4 sp.t (by rw[sp.s,xm];omega),sp.s,<-j9x];ext;rw[ek];ext;have w8:c%8=0\/c%8=1\/c%8=2\/c%8=3\/c%8=4\/c%8=5\/c%8=6\/c%8=7:=by omega
 have t0:(wh P).take ((wh P).length-1)=lp::kds.getD 1 []::P:=by rw[wl];simp[wh]
 have tk:∀j,∀p∈(wh P).take j,Pc p/\32∉p:=λj p hp=>tw.p p (Ph hp);have dk:∀j,∀p∈(wh P).drop j,Pc p/\32∉p:=λj p hp=>tw.p p (Pj hp);have ltk:∀j,((wh P).take j).length<=(wh P).length:=λj=>by rw[Xk];omega
 have ldk:∀j,((wh P).drop j).length<=(wh P).length:=λj=>by rw[Xo];omega
 have p1:∀{x:List Nat},(Pc x/\32∉x)->∀p∈[x],Pc p/\32∉p:=λ{x} hx p hp=>by rw[xu.mp hp];exact hx
 have n0:∀p∈([]:List Nat)::wh P,88∉p:=λp hp=>(xj.mp hp).elim (λe=>by rw[e];decide) (w88 p);rcases w8 with z|z|z|z|z|z|z|z
 .rw[z];ext;rw[jkf,xm,<-kJ,jw (tk _) (by have:=ltk ((wh P).length-1);omega)];ext;rw[t0];refine⟨_,rfl,⟨by simp,λp hp=>?_,by simp;omega⟩,jf6 g,.inr λp hp=>w88 p ?_⟩
  .rw[<-t0]at hp;exact tk _ p hp
  .rw[<-t0]at hp;exact Ph hp
 .rw[z];ext;refine⟨wh P++[rp],by rw[z6,ab2 tw.e (by simp)];rfl,W4 tw.p (p1 Vh) (by simp) (by simp;omega),j48 g,.inr λp hp=>(X8.mp hp).elim (w88 p) λq=>by rw[xu.mp q];decide⟩
 .rw[z];ext;have gm:=U0 hk;have lx:=(tw.p _ gm).1.l;rw[sBl,qt (by simp;omega),Za hk];ext;rw[qt (by rw[X6,xn,T5];omega)];ext;refine⟨wh P++[(wh P).getD k []],by rw[ab2 tw.e (by simp),Xg];rfl,W4 tw.p (p1 (tw.p _ gm)) (by simp) (by simp;omega),j48 g,.inr λp hp=>(X8.mp hp).elim (w88 p) λq=>by rw[xu.mp q];exact w88 _ gm⟩
 .rw[z];have c1:=jki (L:=wh P) (k:=k) nofun
  have c2:=jbx (L:=wh P) (k:=k) nofun
  have l2:(cutD ((wh P).map tx) (aa (k:Int)) ag).length<=43:=by rw[c2,xm];have:=ldk k;omega
  ext;have q0:∀p∈([]:List Nat)::(wh P).drop k,Pc p/\32∉p:=λp hp=>(xj.mp hp).elim (λe=>by rw[e];exact Nm) (dk k p);have b1:=jbd (tk k) (by have:=ltk k;omega);have b2:=jbd q0 (by have:=ldk k;simp at this ⊢;omega);rw[c1,c2,jw (tk k) (by have:=ltk k;omega),show D.str (aF "")::((wh P).drop k).map tx=(([]:List Nat)::(wh P).drop k).map tx from rfl,jw q0 (by have:=ldk k;simp at this ⊢;omega),sBl,qt (by simp;omega),qt (by simp at b2 ⊢;omega)];ext;by_cases k0:k=0
  .subst k0;refine⟨[]::[]::wh P,rfl,⟨by simp,λp hp=>?_,by simp;omega⟩,Vc (by simp),.inr λp hp=>(xj.mp hp).elim (λe=>by rw[e];decide) (n0 p)⟩;simp only[xj]at hp;rcases hp with rfl|rfl|hp
   .exact Nm
   .exact Nm
   .exact tw.p p hp
  .refine⟨(wh P).take k++([]::(wh P).drop k),by rw[ab2 (by simp[k0,tw.e]) (by simp),Xg];rfl,W4 (tk k) q0 (by simp) (by have:=ltk k;have:=ldk k;simp at *;omega),Vc (by simp),.inr λp hp=>?_⟩;rcases X8.mp hp with q|q
   .exact w88 p (Ph q)
   .exact(xj.mp q).elim (λe=>by rw[e];decide) λq=>w88 p (Pj q)
 .rw[z];ext;rw[sBl,qt (by simp;omega),qt (by simp;omega)];ext;rcases(show c/8%2=0\/c/8%2=1 by omega)with y|y
  .rw[y,jqz];ext;refine⟨wh P++[[]],by rw[ab2 tw.e (by simp)];rfl,W4 tw.p (p1 Nm) (by simp) (by simp;omega),Vc (by simp),.inr λp hp=>(X8.mp hp).elim (w88 p) λq=>by rw[xu.mp q];decide⟩
  .rw[y,jqy];ext;refine⟨[]::wh P,by rw[Yo tw.e];rfl,W4 (A:=[[]]) (p1 Nm) tw.p tw.e (by simp;omega),Vc (by simp),.inr n0⟩
 .rw[z];ext;exact⟨[[]],rfl,⟨by simp,λp hp=>by rw[xu.mp hp];exact Nm,by simp⟩,Vc (by simp),.inr λp hp=>by rw[xu.mp hp];decide⟩
 .rw[z];ext;rw[Du (by decide +kernel),Du (by decide +kernel),m9,mr9,sX,qt (by decide),qt (by decide),j9];ext;refine⟨nine [88],rfl,⟨by simp[nine],λp hp=>?_,by simp[nine]⟩,j47,.inl rfl⟩;simp only[nine,xj,Xx,or_false]at hp;have:p=lp\/p=nt\/p=[88]\/p=rp:=by rcases hp with h|h|h|h|h|h|h|h|h|h|h|h|h|h|h|h|h|h|h|h|h|h|h|h|h|h|h|h<;>simp[h]
  rcases this with rfl|rfl|rfl|rfl
  .exact Zt
  .exact Ut 0 (by decide)
  .exact⟨⟨Jp (by decide),by decide⟩,by decide⟩
  .exact Vh
 .rw[z];have j1:jn (wh P)=(jn (lp::kds.getD 1 []::P)++[32])++[41]:=by rw[show wh P=(lp::kds.getD 1 []::P)++[rp]from rfl,ab2 (by simp) (by simp),Xg];rfl
  have tkl:∀A:List Nat,(A++[41]).take ((A++[41]).length-1)=A:=λA=>by simp
  have sn:bj (sL (jn (wh P))) ag (aa (-1))=sL (jn (lp::kds.getD 1 []::P)++[32]):=by rw[Dk (by rw[j1];simp),j1,tkl]
  have jl2:(jn (lp::kds.getD 1 []::P)).length<=10100:=by rw[j1,X6,X6]at jl';omega
  ext;rw[sn,qt (by rw[X6,xn,T5,xn,xn,T5];omega)];ext;have aP:∀p∈lp::kds.getD 1 []::P,Pc p/\32∉p:=λp hp=>by rw[<-t0]at hp;exact tk _ p hp
  refine⟨(lp::kds.getD 1 []::P)++[[],rp],by rw[ab2 (by simp) (by simp),Xg];rfl,W4 aP (λp hp=>?_) (by simp) (by simp;omega),Vc (by simp),.inr λp hp=>?_⟩
  .simp only[xj,Xx,or_false]at hp;rcases hp with rfl|rfl
   .exact Nm
   .exact Vh
  .rcases X8.mp hp with q|q
   .rw[<-t0]at q;exact w88 p (Ph q)
   .simp only[xj,Xx,or_false]at q;rcases q with rfl|rfl<;>decide
end
def PC(p:List Nat):Prop:=Pc p/\32∉p
def Yn:∀p∈([]:Ps),PC p:=λp h=>by cases h
def jg(hx:PC x)(hr:∀p∈r,PC p):∀p∈x::r,PC p:=λp hp=>(xj.mp hp).elim (λe=>e▸hx) (hr p)
def Rb(h:Wv w):PC w:=⟨⟨h.a,Xa h.l (by decide)⟩,λz=>by have:=(h.g 32 z).1;omega⟩
def Do{l:List Nat}(h:(l.all (λc=>decide (c<128))&&(decide (l.length<=100) && !l.contains 32))=af):PC l:=by rw[X3,X3,decide_eq_true_eq]at h;refine⟨⟨Jp h.1,h.2.1⟩,λz=>?_⟩;have:=h.2.2;rw[Xw.mpr z]at this;cases this
def j7x{l:List Nat}(h:Wv w)(hl:(l.all (λc=>decide (c<128))&&(decide (l.length<=90) && !l.contains 32))=af):PC (w++l):=by
 have a:=Rb h;have b:PC l:=Do (by
  rw[X3,X3,decide_eq_true_eq]at hl ⊢
  exact⟨hl.1,by omega,hl.2.2⟩)
 rw[X3,X3,decide_eq_true_eq]at hl;refine⟨⟨λc hc=>(X8.mp hc).elim (a.1.a c) (b.1.a c),?_⟩,λz=>(X8.mp z).elim a.2 b.2⟩;have:=h.l;rw[X6];omega
def jo6(hw:Wv w)(hv:Wv v)(hu:u=TEN\/u=ten)(i:Nat)(hi:i<32):∀p∈fl w v u i,PC p:=by
 have pw:=Rb hw;have pv:=Rb hv;have pu:PC u:=by rcases hu with rfl|rfl<;>exact Do (by decide)
 have H:∀P∈flT w v u,∀p∈P,PC p:=by
  unfold flT
  repeat' (first|exact pw|exact pv|exact pu|exact Zt|exact Vh|exact Do (by decide)|exact j7x hw (by decide)|exact j7x hv (by decide)|refine List.forall_mem_cons.mpr ⟨?_,?_⟩|exact λ_ h=>nomatch h)
 exact H _ (Cp hi)
def j8x(i:Nat)(hi:i<32):fl w v u i≠[]/\(fl w v u i).length<=10:=by
 have H:∀P∈flT w v u,P≠[]/\P.length<=10:=by simp[flT]
 exact H _ (Cp hi)
section
variable{L P F:Ps}{f:Fm}
def j65(g:Gp L P f):P≠[]:=by obtain⟨p,q,rfl,_⟩:=g.h;simp
def jd7(g:Gp L P f):∀p∈P,PC p:=λp hp=>⟨(g.p p hp).1,(g.p p hp).2.1⟩
def j8r(g:Gp L P f):(jn P).length<=1000:=by
 have h1:∀p∈P,p.length<=9:=λp hp=>(g.p p hp).2.2.1;have h2:=g.l;have:(P.map λl=>l.length+1).sum<=10*P.length:=by
  clear g h2;induction P with
  |nil=>simp
  |cons x P ih =>have:=h1 x (km ..);have:=ih λp hp=>h1 p (kh _ hp);rw[X5,Tz,xn];omega
 have:=O3 P;omega
def j6h(g:Gp L P f)(hF:∀p∈F,PC p)(lF:F.length<=10)(j:Nat):Tx (bs P F j):=by
 have hP:=jd7 g;have gl:=g.l;have app:∀{A B:Ps},(∀p∈A,PC p)->(∀p∈B,PC p)->∀p∈A++B,PC p:=λ{A B} a b p hp=>(X8.mp hp).elim (a p) (b p);have r1:∀p∈[rp],PC p:=jg Vh Yn
 match j with
 |0 =>rw[Ig];exact⟨by simp,jg Zt (jg (Ut 2 (by decide)) (app hP (app hF r1))),by simp;omega⟩
 |1 =>rw[Ie];exact⟨by simp,jg Zt (jg (Ut 3 (by decide)) (app hF (app hP r1))),by simp;omega⟩
 |j+2 =>rw[Ib];exact⟨by simp,jg Zt (jg (Ut 4 (by decide)) (jg (Do (by decide)) (app hP (app (jg Zt (jg (Ut 0 (by decide)) (app hP r1))) (app hF r1))))),by simp;omega⟩
def Qt(L:Ps)(due t:ao):Prop:=∃Ls,Spl t Ls/\rfz L (fT 8 Ls)=[.str due]
def jq3(g:Gp L P f)(h:W3 t)(hi:i<32)(j:Nat):Qt L "NoText" (sL (jn (bs P (fl t.1 t.2.1 t.2.2 i) j))):=by
 refine⟨_,(j6h g (jo6 h.a h.b h.u i hi) (j8x i hi).2 j).spl,?_⟩;by_cases h1:i=29
 .subst h1;rw[show fl t.1 t.2.1 t.2.2 29=[lp]from rfl,joj g];rfl
 .by_cases h2:i=30
  .subst h2;rw[show fl t.1 t.2.1 t.2.2 30=[rp]from rfl];rcases joi g j with e|⟨d,e⟩
   .rw[e];rfl
   .rw[e];rfl
  .rw[jkx g (jjn h.a h.b i hi h1 h2)];rfl
def jmp(g:Gp L P f)(hx:isW x=af)(hn:x∉L)(j:Nat):Qt L "NoPlace" (sL (jn (bs P [x] j))):=by refine⟨_,(j6h g (jg (Rb (Jg hx)) Yn) (by simp) j).spl,?_⟩;obtain⟨d,e,hk⟩:=jkw g hx j;rw[e];unfold rfz;dsimp only;rw[hk,show L.contains x=ae from by simpa using hn];rfl
end
def jdl(hw:Wv w)(hv:Wv v):∀t∈A3 w v,W3 t:=λt ht=>by simp only[A3,A2,A1,X5,Pk,Xd,T9,xj,Xx,or_false]at ht;rcases ht with rfl|rfl|rfl|rfl|rfl|rfl|rfl|rfl<;>first|exact⟨Mg,Wn,.inl rfl⟩|exact⟨hw,Wn,.inl rfl⟩|exact⟨Mg,hv,.inl rfl⟩|exact⟨hw,hv,.inl rfl⟩|exact⟨Mg,Wn,.inr rfl⟩|exact⟨hw,Wn,.inr rfl⟩|exact⟨Mg,hv,.inr rfl⟩|exact⟨hw,hv,.inr rfl⟩
def Tld(L:Ps)(d:D)(due:ao):Prop:=(∃t,d=.str t/\Qt L due t)\/∃t S,d=.any (t::S)/\∀u∈t::S,Qt L due u
noncomputable def j31:List Nat:=[40,32,97,108,108,32]
def jpx:("( all ":ao)=sL j31:=by decide +kernel
def jwh(hP:P≠[]):j31++jn P++[32,41]=jn (wh P):=by unfold wh;rw[jcc (by simp),jcc (by simp[hP]),ab2 hP (by simp)];simp[j31,lp,rp,kds,jn]
def jdx{α:Type}{L:Ps}{due:ao}{A:List α}{g:α->ao}(hA:A≠[])(h:∀a∈A,Qt L due (g a)):Tld L (.any (A.map g)) due:=by
 cases A with
 |nil=>exact absurd rfl hA
 |cons a A=>exact .inr ⟨g a,A.map g,rfl,λu hu=>by
   rw[<-X5]at hu
   obtain⟨b,hb,rfl⟩:=Xm.mp hu
   exact h b hb⟩
def jb9:(nine [88]).map (sbs 88 w)=nine w:=by simp (disch:=decide) only[nine,X5,Pk,sb1,Qd]
def jf8(hw:isW w=af):Tx (nine w):=by refine⟨by simp[nine],?_,by simp[nine]⟩;have a:=Zt;have b:PC nt:=Ut 0 (by decide);have c:=Vh;have d:=Rb (Jg hw);exact jg a (jg b (jg a (jg b (jg a (jg b (jg a (jg b (jg a (jg b (jg a (jg b (jg a (jg b (jg a (jg b (jg a (jg b (jg d (jg c (jg c (jg c (jg c (jg c (jg c (jg c (jg c (jg c Yn)))))))))))))))))))))))))))
def j6v{V:Ps}(hw:isW w=af)(hV:Tx V)(hN:NT V)(h8:V=nine [88]\/∀p∈V,88∉p):Tld L (.any (Us "X" (sL w) [sL (jn V)])) "NoText":=by
 refine .inr ⟨sL (jn V),[ba (sL (jn V)) "X" (sL w)],rfl,λu hu=>?_⟩;simp only[xj,Xx,or_false]at hu;rcases hu with rfl|rfl
 .exact⟨V,hV.spl,j1p hN⟩
 .rw[show("X":ao)=⟨#[88]⟩from by decide +kernel,rep1,Mm (by decide)];rcases h8 with rfl|h8
  .rw[jb9];exact⟨nine w,(jf8 hw).spl,j1p j47⟩
  .rw[show V.map (sbs 88 w)=V from by
    exact(Pa (f:=sbs 88 w) (g:=id) λp hp=>Qd (h8 p hp)).trans (gu V)]
   exact⟨V,hV.spl,j1p hN⟩
def j74(hw:∀l∈L,isW l=af)(h1:1<=L.length)(h6:L.length<=6)(g:Gp L P f):∃d due,evP 1000 G T (n+2) "_law_told" [.int c,tx (jn P),.lst (L.map tx)]=.fresh [d,.str due]/\Tld L d due:=by
 obtain⟨k,hk,ek⟩:=Vd (c:=c/3) (l:=L.length) nofun
 have gx:=Za hk;have ww:=hw _ (U0 hk);have g0:atI (L.map tx) 0=aa (tx (L.getD 0 [])):=Za (L:=L) (k:=0) nofun
 have w0:=hw _ (U0 (L:=L) (k:=0) nofun);generalize L.getD k []=w at *;generalize L.getD 0 []=v at *;obtain⟨x,ex,hx,nx⟩:=j05 (n:=n) (c:=c/5) hw h1 h6;have P0:=j65 g;have lP:=j8r g;have lP':(sL (jn P)).length<=1000:=by rw[j4];exact lP
 have lA:(sL j31).length=6:=by rw[j4];rfl
 have lE:(sL [32,41]).length=2:=by rw[j4];rfl
 have cA:j31.length=6:=rfl;have bA:∀{a b:List Nat}(i:Nat)(hi:i<32)(ha:isW a=af)(hb:isW b=af)(c':Int),evP 1000 G T (n+1) "_law_beside" [.int c',tx (jn P),.any ((A3 a b).map λt=>sL (tF i t))]=.val (.any ((A3 a b).map λt=>sL (jn (bs P (fl t.1 t.2.1 t.2.2 i) (c'%3).toNat)))):=λi hi ha hb c' =>j6j (g:=λt:Tr3=>fl t.1 t.2.1 t.2.2 i) P0 (λt _=>(j8x i hi).1) lP λt ht=>Xa (Dh (jdl (Jg ha) (Jg hb) t ht) i hi) (by decide)
 have tA:∀{a b:List Nat}(i:Nat)(hi:i<32)(ha:isW a=af)(hb:isW b=af)(j:Nat),Tld L (.any ((A3 a b).map λt=>sL (jn (bs P (fl t.1 t.2.1 t.2.2 i) j)))) "NoText":=λi hi ha hb j =>jdx (by simp[A3,A2,A1]) λt ht=>jq3 g (jdl (Jg ha) (Jg hb) t ht) hi j
 rw[jt (F:=Ku) (by rfl) rfl];simp only[Ku,Bm,enter];ext;rw[ek,gx];ext;rw[ex];ext;rcases(show c%4=0\/c%4=1\/c%4=2\/c%4=3 by omega)with z|z|z|z
 .rw[z];obtain⟨i,hi,fe⟩:=N7 (n:=n) (c:=c/12) ww w0;ext;erw[g0,fe,bA i hi ww w0];exact⟨_,_,rfl,tA i hi ww w0 _⟩
 .rw[z];obtain⟨V,ve,hV,hN,h8⟩:=j4y (n:=n) (c:=c/4) g;have jb:=j0j hV;have vl:=hV.l;have nX:(("X":ao)==sL w)=ae:=by refine beq_eq_false_iff_ne.mpr λq=>?_;rw[show("X":ao)=sL [88]from by decide +kernel]at q;rw[<-Qw q]at ww;exact absurd ww (by decide)
  have wl:=(Jg ww).l;ext;simp only[j2d,jpx,j5h];ext;rw[z6,qt (by simp;omega),jwh P0];ext;rw[ve];ext;rw[j7m nX (by
   rw[j4,j4]
   have:=gZ (show(jn V).length+1<=10101 by omega) wl
   omega)]
  ext;exact⟨_,_,rfl,j6v ww hV hN h8⟩
 .rw[z];have bx:=Le (n:=n) (c:=c/4) (F:=[x]) P0 (by simp) lP (show x.length<=1000 by have:=(Jg hx).l;omega);ext;rw[show tx x=tx (jn [x])from rfl,bx];ext;exact⟨_,_,rfl,.inl ⟨_,rfl,jmp g hx nx _⟩⟩
 .rw[z];obtain⟨i,hi,fe⟩:=N7 (n:=n) (c:=c/12) hx ww;ext;erw[fe,bA i hi hx ww];exact⟨_,_,rfl,tA i hi hx ww _⟩
noncomputable def n8:List Nat:=[40,32,110,111,116,32,40,32,110,111,116,32,40,32,110,111,116,32,40,32,110,111,116,32,40,32,110,111,116,32,40,32,110,111,116,32,40,32,110,111,116,32,40,32,110,111,116,32]
noncomputable def r8:List Nat:=[32,41,32,41,32,41,32,41,32,41,32,41,32,41,32,41]
def m8:bP "( not " 8=sL n8:=by decide +kernel
def mr8:bP " )" 8=sL r8:=by decide +kernel
def j84:∀k,nst x k≠[]
 |0=>by simp[nst]
 |k+1=>by simp[nst]
def Vt(k:Nat):jn (nst x (k+1))=[40,32,110,111,116,32]++(jn (nst x k)++[32,41]):=by rw[show nst x (k+1)=lp::kds.getD 0 []::(nst x k++[rp])from rfl,jcc (by simp),jcc (by simp),ab2 (j84 k) (by simp)];simp[lp,rp,kds,nt,jn]
def j8:n8++x++r8=jn (nst x 8):=by rw[Vt,Vt,Vt,Vt,Vt,Vt,Vt,Vt,show jn (nst x 0)=x from rfl];simp[n8,r8]
theorem j83(hx:PC x):∀k,(∀p∈nst x k,PC p)/\(nst x k).length=3*k+1
 |0=>⟨jg hx Yn,rfl⟩
 |k+1=>by obtain⟨a,b⟩:=j83 hx k;refine⟨jg Zt (jg (Ut 0 (by decide)) λp hp=>(X8.mp hp).elim (a p) (jg Vh Yn p)),?_⟩;show(lp::kds.getD 0 []::(nst x k++[rp])).length=_;rw[xn,xn,X6,b];simp;omega
def jg3(hx:isW x=af)(hm:x∈L):∃Ls,Spl (sL (jn (nst x 8))) Ls/\rfz L (fT 8 Ls)=[]:=by
 obtain⟨a,b⟩:=j83 (Rb (Jg hx)) 8;refine⟨nst x 8,Tx.spl ⟨j84 8,a,by rw[b];decide⟩,?_⟩;have e:=jct hx 8 8 [] nofun
 rw[Xq]at e;rw[e];unfold rfz;dsimp only;rw[jcu 8 8 nofun,Xw.mpr hm];rfl
def jfk(g:Gp L P f):∃Ls,Spl (sL (jn P)) Ls/\rfz L (fT 8 Ls)=[]:=by
 refine⟨P,Tx.spl ⟨j65 g,jd7 g,by have:=g.l;omega⟩,?_⟩;have e:=g.r 8 nofun []
 rw[Xq]at e;rw[e];unfold rfz;dsimp only;rw[g.k 8 nofun];rfl
def jff(g:Gp L P f)(hx:isW x=af)(hm:x∈L)(j:Nat):∃Ls,Spl (sL (jn (bs P [x] j))) Ls/\rfz L (fT 8 Ls)=[]:=by refine⟨_,(j6h g (jg (Rb (Jg hx)) Yn) (by simp) j).spl,?_⟩;obtain⟨d,e,hk⟩:=jkw g hx j;rw[e];unfold rfz;dsimp only;rw[hk,Xw.mpr hm];rfl
def dps:D.depL [D.str x]<=90:=by simp only[D.depL,D.dep];omega
def ne1:vd .ne (.lst [.str x]) (.lst [.str x])=aa ae:=by
 rw[j2p dps dps,Up]
 .rfl
 .exact dF dps (by decide)
def jcx{L:Ps}:vd .ne (.lst (L.map tx)) (.lst (L.map tx))=aa ae:=by
 have:=jbw L;rw[j2p nofun nofun,Up]
 .rfl
 .omega
def jhz:R9 (aa (.val (.str t))) f=f t:=(rfl)
def ji0(h:∀u∈t::S,f u=r):R9 (aa (.val (.any (t::S)))) f=r:=by unfold R9;dsimp only;rw[if_pos λu hu=>(h u (kh _ hu)).trans (h t (km ..)).symm];exact h t (km ..)
def turn{Q:Ps}(hL:PlL L)(ht:evP 1000 G T (n+23) "_law_told" [.int c,tx (jn P),.lst (L.map tx)]=.fresh [d,.str due])(hq:Tld L d due)(hb:evP 1000 G T (n+23) "_law_bad_places" [.lst (L.map tx),.int (c/16)]=.fresh [.lst (Q.map tx),.str x])(hB:Bad Q x) :
  run 1000 (evP 1000 G T (n+23)) G lpB [s0,s1,.val (.lst (L.map tx)),.val (.int c),.val (tx (jn P)),s5,s6,s7,s8,s9,s10]=.next [s0,s1,.val (.lst (L.map tx)),.val (.int c),.val (tx (jn P)),.un,.val (.str due),.val (.lst (L.map tx)),.val (.lst (Q.map tx)),.val (.str x),s10]:=by
 unfold lpB;ext;rw[ht];ext
 try simp only[stOf,Rk.st,j0w]
 ext;rw[jao];ext;rcases hq with ⟨t,rfl,q⟩|⟨t,S,rfl,q⟩
 .rw[jhz];obtain⟨Ls,hs,hr⟩:=q;have r1:=Yx (n:=n) hs hL;rw[hr]at r1;have r2:=j42 (n:=n+21) (t:=t) hB.1 (hB.2 (n+18));erw[r1,ne1,jcx,hb]
  try simp only[stOf,Rk.st,j0w]
  ext;erw[r2,ne1]
 .refine ji0 λu hu=>?_;obtain⟨Ls,hs,hr⟩:=q u hu;have r1:=Yx (n:=n) hs hL;rw[hr]at r1;have r2:=j42 (n:=n+21) (t:=u) hB.1 (hB.2 (n+18));erw[r1,ne1,jcx,hb]
  try simp only[stOf,Rk.st,j0w]
  ext;erw[r2,ne1]
def jnz:T "_law_cell"=aa KL.fL_cell:=by rfl
def jn9(H:∀(c:Int)(d:Nat)(L:Ps),d<4->PlL L->(∀l∈L,isW l=af)->∃fr P f,evP 1000 G T 30 "_law_form" [.int c,.int (d:Int),.bl ae,.int (L.length:Int)]=.fresh fr/\evP 1000 G T 30 "_law_text" [.lst fr,.lst (L.map tx)]=.val (tx (jn P))/\Gp L P f):∀ns:zo,ns.length<=63->evP 1000 G T (30+1) "law" [.lst (ns.map D.int)]=.val (.bl af):=by
 intro ns hns;have ce:∀k:Nat,k<=100->evP 1000 G T 30 "_law_cell" [.lst (ns.map D.int),.int (k:Nat)]=.val (.int (zr ns k)):=λk hk=>j9i (n:=29) jnz hk;have c0:evP 1000 G T 30 "_law_cell" [.lst (ns.map D.int),.int 0]=.val (.int (zr ns 0)):=ce 0 nofun
 have c1:evP 1000 G T 30 "_law_cell" [.lst (ns.map D.int),.int 1]=.val (.int (zr ns 1)):=ce 1 nofun
 have c2:evP 1000 G T 30 "_law_cell" [.lst (ns.map D.int),.int 2]=.val (.int (zr ns 2)):=ce 2 nofun
 have c3:evP 1000 G T 30 "_law_cell" [.lst (ns.map D.int),.int 3]=.val (.int (zr ns 3)):=ce 3 nofun
 obtain⟨m,hm,em⟩:∃m:Nat,(1<=m/\m<=6)/\1+zr ns 0%6=(m:Int):=⟨(1+zr ns 0%6).toNat,by omega,by omega⟩
 have wd:evP 1000 G T 30 "_law_words" [.int (zr ns 1),.int m]=.fresh ((Jx (zr ns 1) m).map D.str):=j4x (n:=29) j8q hm;rw[j0v]at wd;have wl:(wL (zr ns 1) m).length=m:=by unfold wL;simp
 have ww:=jgl (c:=zr ns 1) hm.2;have wn:=j9w (c:=zr ns 1) hm.2;generalize wL (zr ns 1) m=L at *;have hL:PlL L:=⟨by omega,⟨by omega,λl hl=>⟨(Je (ww l hl)).a,Xa (Je (ww l hl)).l (by decide)⟩⟩,Ei ww (by simpa using wn),wn⟩
 obtain⟨d,hd,ed⟩:∃d:Nat,d<4/\zr ns 2%4=(d:Int):=⟨(zr ns 2%4).toNat,by omega,by omega⟩
 obtain⟨fr,P,f,e1,e2,g⟩:=H (zr ns 2/4) d L hd hL ww;rw[wl]at e1;have lc:(cutD (ns.map D.int) (aa 4) (aa 12)).length<=1000:=by unfold cutD;rw[Xk,Xo,xm];omega
 rw[jt (F:=j6a) (by rfl) rfl];simp only[j6a,j6k,enter];ext;rw[c0];ext;rw[em,c1];ext;erw[wd,c2];rw[ed,Zi (l:=[.int (zr ns 2/4),.int (d:Int),.bl ae,.int (m:Int)]) rfl,e1];ext;erw[e2,c3];have mc:∀d∈(D.int (zr ns 3)::cutD (ns.map D.int) (aa 4) (aa 12)),∃c:Int,d=.int c:=λd hd=>by
  rcases xj.mp hd with e|e
  .exact⟨_,e⟩
  .unfold cutD at e;obtain⟨c,_,q⟩:=Xm.mp (Pj (Ph e));exact⟨c,q.symm⟩
 ext;refine Nj (λ_ J=>∃c s5 s6 s7 s8 s9,J=[.val (.lst (ns.map D.int)),.val (.int (m:Int)),.val (.lst (L.map tx)),.val (.int c),.val (tx (jn P)),s5,s6,s7,s8,s9,.un]) ⟨_,_,_,_,_,_,rfl⟩ ?_ ?_
 .rintro i d J hi ⟨c',s5,s6,s7,s8,s9,rfl⟩;obtain⟨c,rfl⟩:=mc d (Pg hi);simp only[Zj];obtain⟨dd,due,et,hT⟩:=j74 (n:=28) (c:=c) ww nofun nofun g;obtain⟨Q,x,eb,hB⟩:=jch (n:=28) (c:=c/16) ww wn nofun nofun
  exact⟨_,turn (n:=7) hL et hT eb hB,c,_,_,_,_,_,rfl⟩
 .rintro J' ⟨c,s5,s6,s7,s8,s9,rfl⟩;obtain⟨A,y,eL⟩:∃A y,L=A++[y]:=by
   have h:L≠[]:=λz=>by rw[z]at wl;simp at wl;omega
   exact⟨L.dropLast,L.getLast h,(List.dropLast_concat_getLast h).symm⟩
  have gl:atI (L.map tx) (-1)=aa (tx y):=by rw[eL,ph];exact jci _ _
  have lm:y∈L:=by rw[eL];simp
  have lw:=ww _ lm;have ll:=(Jg lw).l;have g0:atI (L.map tx) 0=aa (tx (L.getD 0 [])):=Za (L:=L) (k:=0) nofun
  have m0:=U0 (L:=L) (k:=0) nofun
  have w0:=ww _ m0;generalize L.getD 0 []=v at *;have bx:=Le (n:=29) (c:=c) (F:=[v]) (j65 g) (by simp) (j8r g) (show v.length<=1000 by have:=(Jg w0).l;omega);obtain⟨D3,d5,d6⟩:=jff g w0 m0 (c%3).toNat;have rl:=Yx (n:=7) d5 hL;rw[d6]at rl;obtain⟨D1,d1,d2⟩:=jg3 lw lm;have rd:=Yx (n:=7) d1 hL;rw[d2]at rd;obtain⟨D2,d3,d4⟩:=jfk g;have rg:=Yx (n:=7) d3 hL;rw[d4]at rg;have n8l:n8.length=48:=rfl;have r8l:r8.length=16:=rfl;ext;rw[Du (by decide +kernel),Du (by decide +kernel),m8,mr8,gl];ext;rw[qt nofun,qt (by rw[X6];omega),j8];ext;rw[rg];ext
  try rw[show vd .ne (.lst []) (.lst [])=aa ae from rfl]
  ext;rw[rd];ext
  try rw[show vd .ne (.lst []) (.lst [])=aa ae from rfl]
  ext;rw[g0];ext;rw[show tx v=tx (jn [v])from rfl,bx];ext;rw[rl];ext
  try rw[show vd .eq (.lst []) (.lst [])=aa af from rfl]
  try ext
noncomputable def Wc(i:Nat):Bool:=decide (i<4) || decide (i=7) || decide (i=8)
noncomputable def dg(k:Nat):List Nat:=if k<10 then[48+k] else[48+k/10,48+k%10]
def jg2:∀k:Fin 100,aF (toString ((k.val:Nat):Int))=sL (dg k.val):=by decide +kernel
noncomputable def tb(bs:zo):List Nat:=bs.map λb=>if b=1 then 49 else 48
def tb_mem{bs:zo}(h:c∈tb bs):c=48\/c=49:=by
 obtain⟨b,_,rfl⟩:=Xm.mp h;split
 .exact .inr rfl
 .exact .inl rfl
structure Fo where
 ps:Ps
 f:D
 m:Fm
structure Gd(L:Ps)(e w:Nat)(x:Fo):Prop where
 r:∀m,e<=m->∀r,fT m (x.ps++r)=aa (x.m,r)
 h:∃p q,x.ps=p::q/\p≠rp
 k:∀m,e<=m->kp L m x.m=af
 c:(∃q,x.ps=lp::q)\/∃w,x.ps=[w]
 p:∀p∈x.ps,Pc p/\32∉p/\p.length<=9/\88∉p
 l:x.ps.length<=w
 t:∀n:Nat,evP 1000 G T (n+e+1) "_law_text" [x.f,.lst (L.map tx)]=.val (tx (jn x.ps))
def Kr(q:Gd L h w x)(hh:h<=h')(hw:w<=w'):Gd L h' w' x where
 r:=λm hm=>q.r m nofun
 h:=q.h
 k:=λm hm=>q.k m nofun
 c:=q.c
 p:=q.p
 l:=Xa q.l hw
 t:=λn=>by
  have:=q.t (n+(h'-h))
  rwa [show n+(h'-h)+h+1=n+h'+1 from by omega]at this
def jng{α:Type}{f:α->List (List Nat)}{xs:List α}(hp:pre≠[])(hx:xs≠[])(hf:∀a∈xs,f a≠[]):jn (pre++xs.map λx=>jn (f x))++[32,41]=jn (pre++(xs.flatMap f++[rp])):=by
 have hm:xs.flatMap f≠[]:=by
  cases xs with
  |nil=>exact absurd rfl hx
  |cons a r =>rw[Tu];intro z;exact hf a (km ..) (List.append_eq_nil_iff.mp z).1
 rw[O4 hp (by simpa using hx),j4i hf,O4 hp (by simp),O4 hm (by simp)];simp[jn,rp]
def jmx:(" )":ao)=sL [32,41]:=by decide +kernel
noncomputable def Qu(kd:List Nat)(ow:Option (List Nat)):List (List Nat):=lp::kd::ow.toList
noncomputable def brQ(kd:List Nat)(ow:Option (List Nat))(xs:List Fo):Ps:=lp::kd::(ow.toList++(xs.flatMap Fo.ps++[rp]))
def jky{ow:Option (List Nat)}{xs:List Fo}:brQ kd ow xs=Qu kd ow++(xs.flatMap Fo.ps++[rp]):=by unfold brQ Qu;simp
def jfg{kd:List Nat}{ow:Option (List Nat)}{xs:List Fo}(hk:kd.length<=20)(ho:(ow.getD []).length<=20)(hx:xs≠[])(h6:xs.length<=6)(hn:∀x∈xs,x.ps≠[])(hw:∀x∈xs,(jn x.ps).length<=3000) :
  vm .add (Vl " " (aa (.v (.w ((Qu kd ow++xs.map λx=>jn x.ps).map tx))))) (aa (.v (.e (.str " )"))))=aa (.v (.e (tx (jn (brQ kd ow xs))))):=by
 have ol:ow.toList.length<=1:=by cases ow<;>simp
 have pl:∀l∈Qu kd ow++xs.map λx=>jn x.ps,l.length<=3000:=λl hl=>by
  rcases X8.mp hl with z|z
  .rcases xj.mp z with rfl|z
   .decide
   .rcases xj.mp z with rfl|z
    .omega
    .cases ow with
     |none=>cases z
     |some w =>rw[T3]at ho;rw[xu.mp z];omega
  .obtain⟨x,hx,rfl⟩:=Xm.mp z;exact hw x hx
 have ll:(Qu kd ow++xs.map λx=>jn x.ps).length<=9:=by unfold Qu;simp only[X6,xn,xm];omega
 have jo:=O1 (sep:=" ") (ts:=(Qu kd ow++xs.map λx=>jn x.ps).map sL) (by decide +kernel) (λt ht=>by
  obtain⟨l,hl,rfl⟩:=Xm.mp ht
  rw[j4]
  have:=pl l hl
  omega) (by rw[xm];omega)
 have jb:(sL (jn (Qu kd ow++xs.map λx=>jn x.ps))).length<=100000:=by
  rw[j4];refine Xa (O3 _) ?_;have:∀{ls:List (List Nat)},(∀l∈ls,l.length<=3000)->(ls.map λl=>l.length+1).sum<=3001*ls.length:=λ{ls} h=>by
   induction ls with
   |nil=>simp
   |cons a r ih =>have h1:=h a (km ..);have h2:=ih λl hl=>h l (kh _ hl);rw[X5,Tz,xn];omega
  have:=this pl;omega
 rw[j9x,jfh jo,j4h,j2w (by rw[show(" )":ao).length=2 from by decide +kernel];omega),jmx,z6,jng (by simp[Qu]) hx hn,jky]
def j33{b:Int}(h:b=0\/b=1):aF (toString b)=sL [if b=1 then 49 else 48]:=by rcases h with rfl|rfl<;>decide +kernel
def j8j:∀{bs:zo},(∀b∈bs,b=0\/b=1)->c9 "" (bs.map λb=>aF (toString b))=sL (tb bs):=λ{bs} h=>by
 have e:(bs.map λb=>aF (toString b))=(tb bs).map λx=>(⟨#[x]⟩:ao):=by unfold tb;rw[Xe];exact Pa λb hb=>by rw[j33 (h b hb)];rfl
 rw[e,Ri]
def jlx:(sL (kds.getD 6 [])==("place":ao))=ae/\(sL (kds.getD 6 [])==("least":ao))=ae/\(sL (kds.getD 6 [])==("just":ao))=ae/\(sL (kds.getD 6 [])==("table":ao))=af:=by decide +kernel
def jq7:∀i:Fin 2,((sL (kds.getD (4+i.val) [])==("least":ao))=af\/((sL (kds.getD (4+i.val) [])==("least":ao))=ae/\(sL (kds.getD (4+i.val) [])==("just":ao))=af))/\(sL (kds.getD (4+i.val) [])==("place":ao))=ae/\(sL (kds.getD (4+i.val) [])==("table":ao))=ae/\(kds.getD (4+i.val) []).length<=6:=by decide +kernel
def j91:∀k:Fin 100,(dg k.val).length<=2:=by decide
def jq8:∀i:Fin 9,Wc i.val=af->(sL (kds.getD i.val [])==("least":ao))=ae/\(sL (kds.getD i.val [])==("just":ao))=ae/\(sL (kds.getD i.val [])==("table":ao))=ae:=by decide +kernel
def kd_len:∀i:Fin 9,(kds.getD i.val []).length<=6:=by decide
def lpT:D.str "("=tx lp:=congrArg D.str lpS
def Yb{L:Ps}{xs:List Fo}(hx:∀x∈xs,evP 1000 G T n "_law_text" [x.f,.lst (L.map tx)]=.val (tx (jn x.ps)))(h0:xs≠[])(h6:xs.length<=6)(hn:∀x∈xs,x.ps≠[])(hw:∀x∈xs,(jn x.ps).length<=3000){kd:List Nat}{ow:Option (List Nat)}(hk:kd.length<=20)(ho:(ow.getD []).length<=20):fin (Wu (v9 (Uq [6] (run 1000 (evP 1000 G T n) G (.seq (.app 5 (.call "_law_text" (.cons (.var 6) (.cons (.var 1) .nil)))) .nop))) (xs.map Fo.f) [v0,.val (.lst (L.map tx)),v2,v3,v4,.own ((Qu kd ow).map tx),v6]) (run 1000 (evP 1000 G T n) G (.seq (.ret (.bin .add (.join " " (.var 5)) (.lit (.str " )")))) .nop)))=.val (tx (jn (brQ kd ow xs))):=by
 have pl:(Qu kd ow).length<=3:=by unfold Qu;cases ow<;>simp
 refine Nj (λj J=>∃s6:Sv,J=[v0,.val (.lst (L.map tx)),v2,v3,v4,.own ((Qu kd ow++(xs.take j).map λx=>jn x.ps).map tx),s6]) ⟨v6,by simp⟩ ?_ ?_
 .rintro j d J hj ⟨s6,rfl⟩;rw[Xn]at hj;obtain⟨x,hj',rfl⟩:=T7.mp hj;have hxm:=Pg hj';have hl:((Qu kd ow++(xs.take j).map λx=>jn x.ps).map tx).length<=1000:=by rw[xm,X6,xm,Xk];omega
  simp only[Zj];ext;rw[hx x hxm];ext;refine⟨_,rfl,.val x.f,?_⟩;rw[dN,hj'];simp
 .rintro J' ⟨s6,rfl⟩;rw[xm,cV];ext;rw[jfg hk ho h0 h6 hn hw];ext
def jfb{L:Ps}{xs:List Fo}(hx:∀x∈xs,evP 1000 G T n "_law_text" [x.f,.lst (L.map tx)]=.val (tx (jn x.ps)))(h0:xs≠[])(h6:xs.length<=6)(hn:∀x∈xs,x.ps≠[])(hw:∀x∈xs,(jn x.ps).length<=3000)(i:Fin 9)(hp:Wc i.val=af):evP 1000 G T (n+1) "_law_text" [.lst [tx (kds.getD i.val []),want,.lst (xs.map Fo.f)],.lst (L.map tx)]=.val (tx (jn (brQ (kds.getD i.val []) ag xs))):=by obtain⟨e1,e2,e3⟩:=jq8 i hp;have e0:=K8 i;have kl:=kd_len i;rw[jt (F:=Qo) (by rfl) rfl];simp only[Qo,Vg,enter];ext;erw[e0,e1,e2,e3];rw[lpT];exact Yb hx h0 h6 hn hw (ow:=ag) nofun (by simp)
def j4c{L:Ps}{xs:List Fo}(hx:∀x∈xs,evP 1000 G T n "_law_text" [x.f,.lst (L.map tx)]=.val (tx (jn x.ps)))(h0:xs≠[])(h6:xs.length<=6)(hn:∀x∈xs,x.ps≠[])(hw:∀x∈xs,(jn x.ps).length<=3000)(i:Fin 2)(k:Fin 100):evP 1000 G T (n+1) "_law_text" [.lst [tx (kds.getD (4+i.val) []),.int (k.val:Nat),.lst (xs.map Fo.f)],.lst (L.map tx)]=.val (tx (jn (brQ (kds.getD (4+i.val) []) (aa (dg k.val)) xs))):=by
 obtain⟨e1,e0,e3,kl⟩:=jq7 i;have dl:=j91 k;have tt:=jg2 k;have kk:=k.isLt;have go:∀{x:ao},x=sL (dg k.val)->[D.str "(",tx (kds.getD (4+i.val) []),D.str x]=(Qu (kds.getD (4+i.val) []) (aa (dg k.val))).map tx:=λ{x} h=>by rw[lpT,h];rfl
 rw[jt (F:=Qo) (by rfl) rfl];simp only[Qo,Vg,enter];ext;rw[e0];ext;rcases e1 with e1|⟨e1,e2⟩
 .erw[e1,e3];rw[go tt];exact Yb hx h0 h6 hn hw (ow:=aa (dg k.val)) nofun (by rw[T3];omega)
 .erw[e1,e2,e3];rw[go tt];exact Yb hx h0 h6 hn hw (ow:=aa (dg k.val)) nofun (by rw[T3];omega)
def jfa{L:Ps}{xs:List Fo}(hx:∀x∈xs,evP 1000 G T n "_law_text" [x.f,.lst (L.map tx)]=.val (tx (jn x.ps)))(h0:xs≠[])(h6:xs.length<=6)(hn:∀x∈xs,x.ps≠[])(hw:∀x∈xs,(jn x.ps).length<=3000){bs:zo}(hb:∀b∈bs,b=0\/b=1)(hl:bs.length<=16):evP 1000 G T (n+1) "_law_text" [.lst [tx (kds.getD 6 []),.lst (bs.map D.int),.lst (xs.map Fo.f)],.lst (L.map tx)]=.val (tx (jn (brQ (kds.getD 6 []) (aa (tb bs)) xs))):=by
 obtain⟨e0,e1,e2,e3⟩:=jlx;have tl:(tb bs).length=bs.length:=by unfold tb;simp
 have go:[D.str "(",tx (kds.getD 6 []),D.str (sL (tb bs))]=(Qu (kds.getD 6 []) (aa (tb bs))).map tx:=by rw[lpT];rfl
 have jk:bZ "" (bs.map λb=>aF (toString b))=af:=O1 (by decide +kernel) (λt ht=>by
  obtain⟨b,hb',rfl⟩:=Xm.mp ht
  rw[j33 (hb b hb'),j4]
  simp) (by rw[xm];omega)
 rw[jt (F:=Qo) (by rfl) rfl];simp only[Qo,Vg,enter];ext;erw[e0,e1,e2,e3];rw[vp (l:=(bs.map λb=>aF (toString b)).map D.str) (by rfl) (by rw[xm];omega) ?_ (.inl rfl)]
 .rw[Bb jk,j8j hb];ext;rw[go];exact Yb hx h0 h6 hn hw (ow:=aa (tb bs)) (by decide) (by rw[T3];omega)
 .rw[Xe];refine zj λb hb'=>J1 (by ext) ?_;ext;rw[j7a (by rcases hb b hb' with rfl|rfl<;>decide)];ext;rfl
noncomputable def plF(k:Nat):D:=.lst [.str "place",.int (k:Int),.lst []]
def jo1{L:Ps}(hk:k<L.length)(hw:∀l∈L,isW l=af):Gd L 0 1 ⟨[L.getD k []],plF k,.pl (L.getD k [])⟩:=by
 have hm:=U0 hk;have hv:=hw _ hm;have g:=jqn hm hv;refine⟨λm _ r=>?_,g.h,λm _=>?_,g.c,g.p,by simp,λn=>?_⟩
 .show fT m (L.getD k []::r)=_;rw[Z5 (Jg hv).pn.1,hv];rfl
 .rw[show kp L m (.pl (L.getD k []))=L.contains (L.getD k [])from by cases m<;>rfl];exact Xw.mpr hm
 .rw[jt (F:=Qo) (by rfl) rfl];simp only[Qo,Vg,enter,plF];ext;rw[Za hk];ext;rfl
def Own(i c:Nat)(want:D)(ow:Option (List Nat)):Prop :=
 (Wc i=af/\ow=ag)\/((i=4\/i=5)/\∃k:Fin 100,want=.int (k.val:Nat)/\ow=aa (dg k.val))\/(i=6/\∃bs:zo,want=.lst (bs.map D.int)/\(∀b∈bs,b=0\/b=1)/\bs.length=2^c/\ow=aa (tb bs))
noncomputable def cn(i c:Nat):Bool:=if i=0 then c==1 else if 7<=i then c==6 else decide (1<=c/\c<=3)
def j0p(h:cn i c=af):1<=c/\c<=6/\(i<7->c<=3):=by
 unfold cn at h;split at h
 .have:=beq_iff_eq.mp h;omega
 .split at h
  .have:=beq_iff_eq.mp h;omega
  .have:=of_decide_eq_true h;omega
def joh(hi:i<9)(h:cn i c=af):okc i c=af:=by
 have q:∀(i:Fin 9)(c:Fin 7),cn i.val c.val=af->okc i.val c.val=af:=by decide
 exact q ⟨i,hi⟩ ⟨c,by have:=j0p h;omega⟩ h
def jog:∀k:Fin 100,isNm (dg k.val)=af:=by decide +kernel
def jof:∀k:Fin 100,(dg k.val).all (λc=>decide (c<128))=af/\32∉dg k.val/\88∉dg k.val:=by decide +kernel
def jnc:∀i:Fin 9,88∉kds.getD i.val []:=by decide
section
variable{i c:Nat}{want:D}{ow:Option (List Nat)}
def ji6(O:Own i c want ow):oko i (ow.getD []) c=af:=by
 unfold oko;rcases O with ⟨h,rfl⟩|⟨h,k,_,rfl⟩|⟨rfl,bs,_,h1,h2,rfl⟩
 .unfold Wc at h;rw[Pz,Pz,decide_eq_true_eq,decide_eq_true_eq,decide_eq_true_eq]at h;rw[if_neg nofun,if_neg nofun]
 .rw[if_neg nofun,if_pos h];exact jog k
 .rw[if_pos rfl,T3,X3];refine⟨beq_iff_eq.mpr (by unfold tb;rw[xm];exact h2),?_⟩;unfold b01;rw[Xf];intro x hx;rcases tb_mem hx with rfl|rfl<;>rfl
def jev(hi:i<9)(O:Own i c want ow):wnt i=ow.isSome:=by
 unfold wnt;rcases O with ⟨h,rfl⟩|⟨h,k,_,rfl⟩|⟨rfl,bs,_,h1,h2,rfl⟩
 .unfold Wc at h;rw[Pz,Pz,decide_eq_true_eq,decide_eq_true_eq,decide_eq_true_eq]at h;exact decide_eq_false nofun
 .exact decide_eq_true nofun
 .rfl
def ji5(hc:cn i c=af)(O:Own i c want ow):(∀p∈ow.toList,Pc p/\32∉p/\p.length<=9/\88∉p)/\(ow.getD []).length<=9:=by
 have cb:=j0p hc;rcases O with ⟨h,rfl⟩|⟨h,k,_,rfl⟩|⟨rfl,bs,_,h1,h2,rfl⟩
 .exact⟨λw hw=>(by cases hw),by simp⟩
 .have a:=j91 k;obtain⟨b,d,e⟩:=jof k;refine⟨λw hw=>?_,by rw[T3];omega⟩;rw[xu.mp hw];exact⟨⟨Jp b,by omega⟩,d,by omega,e⟩
 .have p8:2^c<=2^3:=Tq (by decide) (cb.2.2 (by decide));have l8:(tb bs).length<=8:=by unfold tb;rw[xm,h2];exact p8
  refine⟨λw hw=>?_,by rw[T3];omega⟩;rw[xu.mp hw];refine⟨⟨Jp ?_,by omega⟩,λz=>?_,by omega,λz=>?_⟩
  .rw[Xf];intro x hx;rcases tb_mem hx with rfl|rfl<;>rfl
  .rcases tb_mem z with q|q<;>cases q
  .rcases tb_mem z with q|q<;>cases q
end
theorem j3t:∀{xs:List Fo},(∀x∈xs,∀r,fT m (x.ps++r)=aa (x.m,r))->(∀x∈xs,∃p q,x.ps=p::q/\p≠rp)->∀{k:Nat}{r:Ps},xs.length<=k->wT (fT m) (k+1) (xs.flatMap Fo.ps++rp::r)=aa (xs.map Fo.m,r)
 |[],_,_,k,r,_=>Yt
 |x::xs,h1,h2,k,r,hk=>by
  obtain⟨k,rfl⟩:∃k',k=k'+1:=⟨k-1,by rw[xn]at hk;omega⟩
  rw[Tu,Xg,Jh (h1 x (km ..) _) (h2 x (km ..)),j3t (λy hy=>h1 y (kh _ hy)) (λy hy=>h2 y (kh _ hy)) (by rw[xn]at hk;omega)];rfl
theorem j29:∀{xs:List Fo},(∀x∈xs,∃p q,x.ps=p::q/\p≠rp)->xs.length<=(xs.flatMap Fo.ps).length
 |[],_=>Xc _
 |x::xs,h=>by have:=j29 λy hy=>h y (kh _ hy);obtain⟨p,q,e,_⟩:=h x (km ..);rw[Tu,X6,e,xn,xn];omega
def jqi{V:Ps}(h:∀p∈V,p.length<=9)(hl:V.length<=40):(jn V).length<=3000:=by
 refine Xa (O3 V) ?_;have:∀{ls:Ps},(∀l∈ls,l.length<=9)->(ls.map λl=>l.length+1).sum<=10*ls.length:=λ{ls} h=>by
  induction ls with
  |nil=>simp
  |cons a r ih =>have h1:=h a (km ..);have h2:=ih λl hl=>h l (kh _ hl);rw[X5,Tz,xn];omega
 have:=this h;omega
noncomputable def brO(i:Nat)(want:D)(ow:Option (List Nat))(xs:List Fo):Fo:=⟨brQ (kds.getD i []) ow xs,.lst [tx (kds.getD i []),want,.lst (xs.map Fo.f)],.br i (ow.getD []) (xs.map Fo.m)⟩
def jo2{xs:List Fo}(hi:i<9){ow:Option (List Nat)}(hx:∀x∈xs,Gd L h 40 x)(hc:cn i xs.length=af)(O:Own i xs.length want ow)(hW:4+(xs.map λx=>x.ps.length).sum<=w):Gd L (h+1) w (brO i want ow xs):=by
 have cb:=j0p hc;have kl:(kds.getD i []).length<=6:=kd_len ⟨i,hi⟩;have k88:88∉kds.getD i []:=jnc ⟨i,hi⟩;have oc:=ji5 hc O;have h0:xs≠[]:=λz=>by rw[z]at cb;simp at cb
 have hh:∀x∈xs,∃p q,x.ps=p::q/\p≠rp:=λx hx'=>(hx x hx').h;have hne:∀x∈xs,x.ps≠[]:=λx hx' z=>by obtain⟨p,q,e,_⟩:=hh x hx';rw[z]at e;cases e
 have hw3:∀x∈xs,(jn x.ps).length<=3000:=λx hx'=>jqi (λp hp=>((hx x hx').p p hp).2.2.1) (hx x hx').l;have okk:(okc i (xs.map Fo.m).length&&oko i (ow.getD []) (xs.map Fo.m).length)=af:=by rw[xm,X3];exact⟨joh hi hc,ji6 O⟩
 have wn:=jev hi O;refine⟨λm hm r=>?_,⟨lp,_,rfl,by decide⟩,λm hm=>?_,.inl ⟨_,rfl⟩,λp hp=>?_,?_,λn=>?_⟩
 .obtain⟨m,rfl⟩:∃m',m=m'+1:=⟨m-1,by omega⟩
  have wa:∀{k:Nat},xs.length<=k->wT (fT m) (k+1) (xs.flatMap Fo.ps++rp::r)=aa (xs.map Fo.m,r):=λ{k} hk=>j3t (λx hx'=>(hx x hx').r m nofun) hh hk;have fl:=j29 hh;have len:xs.length<=(xs.flatMap Fo.ps++rp::r).length:=by rw[X6];omega
  have e:eT i (ow.getD []) (aa (xs.map Fo.m,r))=aa (.br i (ow.getD []) (xs.map Fo.m),r):=if_pos okk;cases ow with
  |none =>show fT (m+1) (lp::kds.getD i []::((xs.flatMap Fo.ps++[rp])++r))=_;rw[Xg,show[rp]++r=rp::r from rfl,Q7 hi wn,wa len];exact e
  |some o =>show fT (m+1) (lp::kds.getD i []::o::((xs.flatMap Fo.ps++[rp])++r))=_;rw[Xg,show[rp]++r=rp::r from rfl,Dg hi wn,wa len];exact e
 .obtain⟨m,rfl⟩:∃m',m=m'+1:=⟨m-1,by omega⟩
  show(xs.map Fo.m).all (kp L m)=af;rw[Xf];intro y hy;obtain⟨x,hx',rfl⟩:=Xm.mp hy;exact(hx x hx').k m nofun
 .rcases xj.mp hp with rfl|hp
  .exact⟨Zt.1,Zt.2,by decide,by decide⟩
  .rcases xj.mp hp with rfl|hp
   .exact⟨(Ut i hi).1,(Ut i hi).2,by omega,k88⟩
   .rcases X8.mp hp with hp|hp
    .exact oc.1 p hp
    .rcases X8.mp hp with hp|hp
     .obtain⟨x,hx',hp⟩:=List.mem_flatMap.mp hp;exact(hx x hx').p p hp
     .rw[xu.mp hp];exact⟨Vh.1,Vh.2,by decide,by decide⟩
 .have ol:ow.toList.length<=1:=by cases ow<;>simp
  have e:(xs.flatMap Fo.ps).length=(xs.map λx=>x.ps.length).sum:=List.length_flatMap;show(lp::kds.getD i []::(ow.toList++(xs.flatMap Fo.ps++[rp]))).length<=w;rw[xn,xn,X6,X6,e,iy];omega
 .have ht:∀x∈xs,evP 1000 G T (n+h+1) "_law_text" [x.f,.lst (L.map tx)]=.val (tx (jn x.ps)):=λx hx'=>(hx x hx').t n;rw[show n+(h+1)+1=n+h+1+1 from by omega];rcases O with ⟨z,rfl⟩|⟨z,k,rfl,rfl⟩|⟨rfl,bs,rfl,hb,hbl,rfl⟩
  .exact jfb ht h0 nofun hne hw3 (want:=want) ⟨i,hi⟩ z
  .rcases z with rfl|rfl
   .exact j4c ht h0 nofun hne hw3 0 k
   .exact j4c ht h0 nofun hne hw3 1 k
  .have p8:2^xs.length<=2^3:=Tq (by decide) (cb.2.2 (by decide));exact jfa ht h0 nofun hne hw3 hb nofun
def jj8:[D.str "not",D.str "all",D.str "any",D.str "odd",D.str "least",D.str "just",D.str "table",D.str "ring",D.str "joined"]=kds.map tx:=by
 have h:[("not":ao),"all","any","odd","least","just","table","ring","joined"]=kds.map sL:=by decide +kernel
 have:=congrArg (fJ D.str) h;rw[Xe]at this;exact this
def kq:∀i:Fin 9,(sL (kds.getD i.val [])==("not":ao))=decide (i.val=0)/\(sL (kds.getD i.val [])==("table":ao))=decide (i.val=6)/\(sL (kds.getD i.val [])==("ring":ao))=decide (i.val=7)/\(sL (kds.getD i.val [])==("joined":ao))=decide (i.val=8):=by decide +kernel
noncomputable def mx(c k:Int):Int:=(c%2147483647+11)*(48271+614*k+2*k*k)%2147483647/8
def Dv(hk:0<=k/\k<=100):evP 1000 G T (n+1) "_law_mixed" [.int c,.int k]=.val (.int (mx c k)):=by rw[jt (F:=Nz) (by rfl) rfl];simp only[Nz,M4,enter];have hc:=Te c (b:=2147483647) (by decide);have hc2:=Tj c (b:=2147483647) (by decide);ext;rfl
def Kg:Q6 (aa (.a [.e (.str "not"),.e (.str "all"),.e (.str "any"),.e (.str "odd"),.e (.str "least"),.e (.str "just"),.e (.str "table"),.e (.str "ring"),.e (.str "joined")]))=aa (.v (.o (kds.map tx))):=by rw[<-jj8];exact Z0 rfl (by simp)
def j3g{f:D->En->So}{ds:List D}{J:En}{g:En->So}{Q:Rc->Prop}(W:Nat->En->Prop)(h0:W 0 J)(hs:∀i d J,ds[i]?=aa d->W i J->∃J',f d J=.next J'/\W (i+1) J')(hk:∀J',W ds.length J'->Q (fin (g J'))):Q (fin (Wu (v9 f ds J) g)):=by
 obtain⟨J',e,w⟩:=Um (f:=f) W (k:=0) (ds:=ds) (J:=J) h0 λi d J hi w=>by rw[cR]at w ⊢;exact hs i d J hi w
 rw[e];rw[cR]at w;exact hk J' w
def jns(hz:c%5≠0):run 1000 (evP 1000 G T N) G fmI [.val (.int c),.val (.int ((d+1:Nat):Int)),.val (.bl ae),.val (.int m),.un,.un,.un,.un,.un,.un,.un]=.next [.val (.int c),.val (.int ((d+1:Nat):Int)),.val (.bl ae),.val (.int m),.un,.un,.un,.un,.un,.un,.un]:=by
 have d0:((d+1:Nat):Int)≠0:=by omega
 unfold fmI;ext
def jfr(hz:c%5≠0):∃i cc:Nat,i<9/\cn i cc=af/\evP 1000 G T (N+1) "_law_form" [.int c,.int ((d+1:Nat):Int),.bl ae,.int m]=fin (Wu (v9 (Uq [8] (run 1000 (evP 1000 G T N) G fmB)) (upto 0 (cc:Int).toNat) [.val (.int c),.val (.int ((d+1:Nat):Int)),.val (.bl ae),.val (.int m),.val (tx (kds.getD i [])),.val (.int (cc:Int)),.val (.int (c/135%(cc:Int))),.own [],.un,.un,.un]) (run 1000 (evP 1000 G T N) G fmR)):=by
 obtain⟨i,hi,ei⟩:∃i:Nat,i<9/\c/5%9=(i:Int):=⟨(c/5%9).toNat,by omega,by omega⟩
 obtain⟨q0,q6,q7,q8⟩:=kq ⟨i,hi⟩;have q0:(sL (kds.getD i [])==("not":ao))=decide (i=0):=q0;have q7:(sL (kds.getD i [])==("ring":ao))=decide (i=7):=q7;have q8:(sL (kds.getD i [])==("joined":ao))=decide (i=8):=q8;obtain⟨c3,h3,e3⟩:∃c3:Nat,(1<=c3/\c3<=3)/\1+c/45%3=(c3:Int):=⟨(1+c/45%3).toNat,by omega,by omega⟩
 have st:evP 1000 G T (N+1) "_law_form" [.int c,.int ((d+1:Nat):Int),.bl ae,.int m]=fin (run 1000 (evP 1000 G T N) G fmS [.val (.int c),.val (.int ((d+1:Nat):Int)),.val (.bl ae),.val (.int m),.un,.un,.un,.un,.un,.un,.un]):=by rw[jt (F:=Bc) (by rfl) rfl];show fin (run 1000 (evP 1000 G T N) G (.seq fmI fmS) [.val (.int c),.val (.int ((d+1:Nat):Int)),.val (.bl ae),.val (.int m),.un,.un,.un,.un,.un,.un,.un])=_;rw[j3z,jns hz,Iv]
 rw[st];unfold fmS;by_cases h0:i=0
 .refine⟨i,1,hi,by rw[h0];rfl,?_⟩;ext;rw[Kg];ext;rw[ei,Za (L:=kds) hi];ext;rw[q0,decide_eq_true h0];ext;rw[q7,decide_eq_false nofun];ext;rw[q8,decide_eq_false nofun];ext
  try rfl
 .by_cases h7:7<=i
  .refine⟨i,6,hi,by rcases(by omega:i=7\/i=8)with rfl|rfl<;>rfl,?_⟩;ext;rw[Kg];ext;rw[ei,Za (L:=kds) hi];ext;rw[q0,decide_eq_false h0];ext;rw[q7];by_cases z:i=7
   .rw[decide_eq_true z];ext
    try rfl
   .rw[decide_eq_false z];ext;rw[q8,decide_eq_true nofun];ext
    try rfl
  .refine⟨i,c3,hi,by unfold cn;rw[if_neg h0,if_neg h7];exact decide_eq_true h3,?_⟩;ext;rw[Kg];ext;rw[ei,Za (L:=kds) hi];ext;rw[e3,q0,decide_eq_false h0];ext;rw[q7,decide_eq_false nofun];ext;rw[q8,decide_eq_false nofun];ext
   try rfl
def Kh:Q6 (aa (.a [.e a,.e b,.o l]))=aa (.v (.o [a,b,.lst l])):=Z0 rfl (by simp)
def jfs{deep:Nat}(hm:0<m)(h:deep=0\/c%5=0):evP 1000 G T (N+1) "_law_form" [.int c,.int (deep:Int),.bl ae,.int m]=.fresh [.str "place",.int (c/5%m),.lst []]:=by
 rw[jt (F:=Bc) (by rfl) rfl];simp only[Bc,Bo,fmI,enter];rcases h with rfl|h1
 .ext;rw[Kh];ext
 .by_cases z:(deep:Int)=0
  .ext;rw[Kh];ext
  .ext;rw[Kh];ext
def j4t:Ju Γ f (aa (.a [.e a,.e b,.e c,.e d]))=rcW (Γ f [a,b,c,d]):=Zi rfl
def j8u{L:Ps}(hL:1<=L.length/\L.length<=6)(hw:∀l∈L,isW l=af):∀(deep:Nat),deep<=3->∀(n:Nat)(c:Int),∃(x:Fo)(l:List D),evP 1000 G T (n+deep+2) "_law_form" [.int c,.int (deep:Int),.bl ae,.int (L.length:Int)]=.fresh l/\x.f=.lst l/\Gd L deep (1+9*deep) x:=by
 have plc:∀{deep:Nat},∀(n:Nat)(c:Int),deep=0\/c%5=0->∃(x:Fo)(l:List D),evP 1000 G T (n+1) "_law_form" [.int c,.int (deep:Int),.bl ae,.int (L.length:Int)]=.fresh l/\x.f=.lst l/\Gd L 0 1 x:=λ{deep} n c hp=>by
  obtain⟨k,hk,ek⟩:∃k:Nat,k<L.length/\c/5%(L.length:Int)=(k:Int):=by
   have h1:=Te (c/5) (b:=(L.length:Int)) nofun
   have h2:=Tj (c/5) (b:=(L.length:Int)) nofun
   exact⟨(c/5%(L.length:Int)).toNat,by omega,by omega⟩
  refine⟨_,_,jfs (N:=n) nofun hp,?_,jo1 hk hw⟩;rw[ek];rfl
 intro deep;induction deep with
 |zero =>intro hd n c;obtain⟨x,l,a,b,g⟩:=plc (n+1) c (deep:=0) (.inl rfl);exact⟨x,l,a,b,g⟩
 |succ d ih =>
 intro hd n c;by_cases hp:c%5=0
 .obtain⟨x,l,a,b,g⟩:=plc (n+d+2) c (deep:=d+1) (.inr hp);exact⟨x,l,a,b,Kr g nofun nofun⟩
 obtain⟨i,cc,hi,hc,e⟩:=jfr (N:=n+d+2) (d:=d) (c:=c) (m:=(L.length:Int)) hp;have cb:=j0p hc;obtain⟨ch,hch,ech⟩:∃ch:Nat,ch<cc/\c/135%(cc:Int)=(ch:Int):=by
  have h1:=Te (c/135) (b:=(cc:Int)) nofun
  have h2:=Tj (c/135) (b:=(cc:Int)) nofun
  exact⟨(c/135%(cc:Int)).toNat,by omega,by omega⟩
 have e:evP 1000 G T (n+(d+1)+2) "_law_form" [.int c,.int ((d+1:Nat):Int),.bl ae,.int (L.length:Int)]=_:=e;rw[e,ech,Xz,Z8];refine j3g (Q:=λr=>∃(x:Fo)(l:List D),r=.fresh l/\x.f=.lst l/\Gd L (d+1) (1+9*(d+1)) x) (λk J=>∃(xs:List Fo)(s8 s9:Sv),J=[.val (.int c),.val (.int ((d+1:Nat):Int)),.val (.bl ae),.val (.int (L.length:Int)),.val (tx (kds.getD i [])),.val (.int (cc:Int)),.val (.int (ch:Int)),.own (xs.map Fo.f),s8,s9,.un]/\xs.length=k/\(∀x∈xs,Gd L d 40 x)/\(xs.map λx=>x.ps.length).sum<=k+(if ch<k then 9*d else 0)) ⟨[],.un,.un,rfl,rfl,(λx hx=>by cases hx),by simp⟩ ?_ ?_
 .rintro k dd J hk ⟨xs,s8,s9,rfl,xl,xg,xw⟩;rw[Xn]at hk;obtain⟨k',hk',rfl⟩:=T7.mp hk;obtain⟨hlt,ek⟩:=Xl.mp hk';rw[List.getElem_range]at ek;subst ek;rw[S8]at hlt;have ed:((d+1:Nat):Int)-1=(d:Int):=by omega
  have ed4:(d:Int)/3=((0:Nat):Int):=by omega
  have ms:evP 1000 G T (n+d+2) "_law_mixed" [.int c,.int (0+(k:Int)+((d+1:Nat):Int))]=.val (.int (mx c (0+(k:Int)+((d+1:Nat):Int)))):=Dv (n:=n+d+1) nofun
  have xl':(xs.map Fo.f).length<=1000:=by rw[xm];omega
  simp only[Zj];unfold fmB;ext;rw[ed];have fin':∀{x:Fo}{l:List D}{w:Nat}{s9:Sv},x.f=.lst l->Gd L d w x->w<=40->(xs.map λx=>x.ps.length).sum+w<=k+1+(if ch<k+1 then 9*d else 0)->∃(xs':List Fo)(s8 s9':Sv),[Sv.val (D.int c),.val (.int ((d+1:Nat):Int)),.val (.bl ae),.val (.int (L.length:Int)),.val (tx (kds.getD i [])),.val (.int (cc:Int)),.val (.int (ch:Int)),.own (xs.map Fo.f++[.lst l]),.val (.int (0+(k:Int))),s9,.un]=[.val (.int c),.val (.int ((d+1:Nat):Int)),.val (.bl ae),.val (.int (L.length:Int)),.val (tx (kds.getD i [])),.val (.int (cc:Int)),.val (.int (ch:Int)),.own (xs'.map Fo.f),s8,s9',.un]/\xs'.length=k+1/\(∀x∈xs',Gd L d 40 x)/\(xs'.map λx=>x.ps.length).sum<=k+1+(if ch<k+1 then 9*d else 0):=λ{x l w s9} ef g h3 hW=>by
   refine⟨xs++[x],_,_,by rw[ph,X5,Pk,ef],by rw[X6,xl];rfl,λy hy=>?_,?_⟩
   .rcases X8.mp hy with z|z
    .exact xg y z
    .rw[xu.mp z];exact Kr g (Xc _) h3
   .have:=g.l;rw[ph,List.sum_append,X5,Pk,Tz,List.sum_nil];omega
  by_cases hkc:k=ch
  .rw[if_neg nofun]at xw;obtain⟨x,l,ex,ef,g⟩:=ih nofun n (mx c (0+(k:Int)+((d+1:Nat):Int)));rw[Yq,decide_eq_true nofun];ext;rw[ed,ms];ext
   try rw[j4t]
   rw[ex];ext;exact⟨_,rfl,fin' ef g nofun (by rw[if_pos nofun];omega)⟩
  .have xw':(xs.map λx=>x.ps.length).sum+1<=k+1+(if ch<k+1 then 9*d else 0):=by
    by_cases z:ch<k
    .rw[if_pos z]at xw;rw[if_pos nofun];omega
    .rw[if_neg z]at xw;omega
   obtain⟨x,l,ex,ef,g⟩:=plc (n+d+1) (mx c (0+(k:Int)+((d+1:Nat):Int))) (deep:=0) (.inl rfl);rw[Yq,decide_eq_false nofun];ext;rw[ms,ed4];ext
   try rw[j4t]
   have ex:evP 1000 G T (n+d+2) "_law_form" [.int (mx c (0+(k:Int)+((d+1:Nat):Int))),.int ((0:Nat):Int),.bl ae,.int (L.length:Int)]=.fresh l:=ex
   first|rw[ex]|(rw[show(0:Int)=((0:Nat):Int)from rfl,ex])
   ext;exact⟨_,rfl,fin' ef (Kr g (Tn _) (Xc _)) nofun xw'⟩
 .rintro J' ⟨xs,s8,s9,rfl,xl,xg,xw⟩;rw[xm,S8]at xl xw;have hc':cn i xs.length=af:=by rw[xl];exact hc
  have hW:4+(xs.map λx=>x.ps.length).sum<=1+9*(d+1):=by rw[if_pos hch]at xw;omega
  have gb:=λ{want:D} {ow:Option (List Nat)} (O:Own i cc want ow)=>jo2 (L:=L) (h:=d) (w:=1+9*(d+1)) (xs:=xs) hi (want:=want) (ow:=ow) xg hc' (by rw[xl];exact O) hW;have q6:(sL (kds.getD i [])==("table":ao))=decide (i=6):=(kq ⟨i,hi⟩).2.1;have xl':(xs.map Fo.f).length<=1000:=by rw[xm];omega
  obtain⟨k,hk⟩:∃k:Fin 100,atI [D.int (c/810%((cc:Int)+3)),.int (c/810%100)] (if decide (c/7%8=3)=af then 1 else 0)=aa (.int ((k.val:Nat):Int)):=by
   have h1:=Te (c/810) (b:=(cc:Int)+3) nofun
   have h2:=Tj (c/810) (b:=(cc:Int)+3) nofun
   by_cases z:c/7%8=3
   .rw[if_pos (decide_eq_true z)];refine⟨⟨(c/810%100).toNat,by omega⟩,?_⟩;show aa _=aa _;congr 2;show _=(((c/810%100).toNat:Nat):Int)
    omega
   .rw[if_neg (by rw[decide_eq_false z];decide)];refine⟨⟨(c/810%((cc:Int)+3)).toNat,by omega⟩,?_⟩;show aa _=aa _;congr 2;show _=(((c/810%((cc:Int)+3)).toNat:Nat):Int)
    omega
  unfold fmR;ext;erw[Yq,hk];rw[q6];by_cases h6:i=6
  .have c3:cc<=3:=cb.2.2 nofun
   have p4:2^cc<=2^3:=Tq (by decide) c3;have p4':(1:Int)*2^((cc:Int)).toNat=((2^cc:Nat):Int):=by rw[Xz,Int.one_mul];simp
   have b01:∀b∈(aZ (2^cc)).map λ(k:Nat)=>mx c (20+(0+(k:Int)))%2,b=0\/b=1:=λb hb=>by obtain⟨k,_,rfl⟩:=Xm.mp hb;exact Int.emod_two_eq _
   have bl:((aZ (2^cc)).map λ(k:Nat)=>mx c (20+(0+(k:Int)))%2).length=2^cc:=by simp
   erw[decide_eq_true h6,p4'];rw[Xz,vp (l:=((aZ (2^cc)).map λ(k:Nat)=>mx c (20+(0+(k:Int)))%2).map D.int) (by rfl) (by rw[Q3];omega) ?_ (.inl rfl)]
   .ext;exact⟨_,_,rfl,rfl,gb (.inr (.inr ⟨h6,_,rfl,b01,bl,rfl⟩))⟩
   .rw[Z8,Xe];refine zj λk hk'=>J1 (by ext) ?_;have hk2:=Pq.mp hk';ext;rw[Dv (n:=n+d+1) nofun];ext;rfl
  .rw[decide_eq_false h6];ext;by_cases h4:i=4\/i=5
   .exact⟨_,_,rfl,rfl,gb (.inr (.inl ⟨h4,k,rfl,rfl⟩))⟩
   .exact⟨_,_,rfl,rfl,gb (.inl ⟨by unfold Wc;rw[Pz,Pz,decide_eq_true_eq,decide_eq_true_eq,decide_eq_true_eq];omega,rfl⟩)⟩
noncomputable def depth:Nat:=30
def lawTrue:∀ns:zo,ns.length<=63->evP 1000 G T (depth+1) "law" [.lst (ns.map D.int)]=.val (.bl af):=jn9 λc d L hd hL hw=>by
 have l6:=hL.1;obtain⟨x,l,a,b,g⟩:=j8u (L:=L) nofun hw d nofun (28-d) c;refine⟨l,x.ps,x.m,?_,?_,⟨λm hm=>g.r m nofun,g.h,λm hm=>g.k m nofun,g.c,g.p,Xa g.l nofun⟩⟩
 .rwa [show 28-d+d+2=30 from by omega]at a
 .have:=g.t (29-d);rw[b]at this
  rwa [show 29-d+d+1=30 from by omega]at this
end K15
end
open PySem PySem.W PyProof.Rows
local macro_rules | `(tactic| walk_at "lf") => `(tactic| (refine' L2.lf_mk ?a ?l ?c ?k; (case a => k_is); (case l => k_is); (case c => k_is); (case k => k_is)))
local macro_rules | `(tactic| walk_at "lm") => `(tactic| (refine' L2.lm_mk ?a ?i ?l ?c ?k; (case a => k_is); (case i => k_is); (case l => k_is); (case c => k_is); (case k => k_is)))
set_option Elab.async false
namespace PySem.W.Fast
def tw16748150867707811951:=0
def tw5622897790779130957:=0
def tw7730706822990849327:=0
def tw2511836325598552400:=0
def tw17851644688573258619:=0
def tw12058193234287841677:=0
def tw3741886416913652504:=0
def tw7917707552065338309:=0
def tw5957915903818146758:=0
def tw4673176274681903989:=0
def tw16524862805056719734:=0
def tw14844554670443075766:=0
def tw14106971313040954382:=0
def tw8509670297655617131:=0
def tw16258116353158804521:=0
def tw1017722100521492699:=0
def tw13291282851993753504:=0
def tw200650628941717025:=0
def tw15969390848155214968:=0
def tw1438342684859701343:=0
def tw17401142885039474269:=0
def tw13300398815781999758:=0
def tw10123774967019940019:=0
def tw16152174790518003333:=0
def tw5831102759905780993:=0
def tw11389882561604195742:=0
def tw6894784144289377972:=0
def tw14890562648374031715:=0
def tw14063942549667313039:=0
def tw8491275134064022668:=0
def tw1105542961649467439:=0
def tw4447646838439687467:=0
def tw10436839378294859853:=0
def tw9721481464769816879:=0
def tw16869249765934592233:=0
def tw18348322380159077641:=0
def tw9013227353406134759:=0
def tw1081362057647379017:=0
def tw338119104320211035:=0
def tw1072090059470434985:=0
def tw16592988398114164260:=0
def tw11754387804837537116:=0
def tw14728800467690338737:=0
def tw15024311547187667606:=0
def tw10270596027968624388:=0
def tw3143304249072405793:=0
def tw2131305746553524285:=0
def tw3476393631755704829:=0
def tw9143164103437064188:=0
def tw16511072996125179197:=0
def tw7995288016528344303:=0
def tw3935924830854470749:=0
def tw11969157749944216456:=0
def tw106802610623044885:=0
def tw5424881379659324143:=0
def tw1688370995115495048:=0
def tw1841031321526237683:=0
def tw11016283607865039671:=0
def tw17537380895105083023:=0
def tw8910420390495453181:=0
def tw18116632779055999191:=0
def tw565540937053983217:=0
def tw6739420084158658681:=0
def tw7215639445036665805:=0
def tw3507142675444608508:=0
def tw17319424221264620750:=0
def tw3308204203346795560:=0
def tw10488160582972279555:=0
def tw10399918061124288301:=0
def tw13311578043543520130:=0
def tw10464553367307878111:=0
def tw3584569815692460413:=0
def tw6579318741963715411:=0
def tw8251053229451341735:=0
def tw17761728930608123096:=0
def tw2342330246486406886:=0
def tw2652532293940824168:=0
def tw9803262250768106338:=0
def tw2632451127622909971:=0
def tw4783835635316342262:=0
def tw17316216709325000680:=0
def tw2277443183991282102:=0
def tw17382538359922206658:=0
def tw7046506785184291261:=0
def tw224621429512614873:=0
def tw10573635987457636222:=0
def tw14211107329715946658:=0
def tw14253012929704476726:=0
def tw9667591732837831182:=0
def tw6429653214898840301:=0
def tw13607295972942352590:=0
def tw2413124037447098384:=0
def tw13641181363351329653:=0
def tw9540070339047597163:=0
def tw7853021046758077303:=0
def tw12686227143872671368:=0
def tw5096755995285675040:=0
def tw12773762248048442103:=0
def tw4346303942437219034:=0
def tw13122059682893249448:=0
def tw12622327206167386376:=0
def tw1096519731748913457:=0
def tw265275226251070828:=0
def tw14541758087608223210:=0
def tw16605709421210078665:=0
def tw13842808033439960392:=0
def tw9923721507348840545:=0
def tw10110965867171741395:=0
def tw5708151475093126450:=0
def tw5873854704385475237:=0
def tw2760862834914730564:=0
def tw1440248399760172555:=0
def tw17156591559007673463:=0
def tw4625973950901129870:=0
def tw17919940987198458172:=0
def tw5314085940683104610:=0
def tw779943808842108472:=0
def tw3379511558373053718:=0
def tw18041890234965681814:=0
def tw1236411536984882164:=0
def tw18068087968933985750:=0
def tw14198296026048092974:=0
def tw1136524346164257980:=0
def tw12867383346438362474:=0
def tw8691355264279566769:=0
def tw9971486418851247984:=0
def tw10631449896708346738:=0
def tw15694182109299382219:=0
def tw18056114050311292871:=0
def tw15680407841846428019:=0
def tw14894861255571227529:=0
def tw10955186136164092498:=0
def tw7675063117386429518:=0
def tw12074024539853582191:=0
def tw15017372743018737528:=0
def tw9470287066103174993:=0
def tw18296184448781410700:=0
def tw1457800434045664548:=0
def tw9724458312982797542:=0
def tw4311234893076812347:=0
def tw3355408121085026496:=0
def tw16168400294326056776:=0
def tw15227315992014756491:=0
def tw17397961338720578183:=0
def tw17233906593623286448:=0
def tw9781246268353426816:=0
def tw16630948872304586400:=0
def tw1059375648180793930:=0
def tw2042726406263463946:=0
def tw2460849857033985453:=0
def tw11473894212493095963:=0
def tw6306733578891158432:=0
def tw17686141716712531322:=0
def tw5610789602446782724:=0
def tw17189950240280143347:=0
def tw5391415991515897791:=0
def tw3811348048662129942:=0
def tw3212181870317979899:=0
def tw12579314334684299841:=0
def tw10802169906894854083:=0
def tw13848439571280369398:=0
def tw2900317274413518887:=0
def tw1280101219484769097:=0
def tw6671833282309199669:=0
def tw7917785537758294945:=0
def tw1320548413575250958:=0
def tw8214959366810014593:=0
def tw7575248513083002891:=0
def tw5813566763794019804:=0
def tw1386089961360640199:=0
def tw15075680266424756852:=0
def tw5593384501175338449:=0
def tw969480175051586846:=0
def tw1358024155511437308:=0
def tw12966626909082170393:=0
def tw4845750489753395013:=0
def tw10394308329522287976:=0
def tw13308114569608736361:=0
def tw3592176453834495096:=0
def tw500686322401840293:=0
def tw7993996959279197206:=0
def tw15061319579645877834:=0
def tw1407363685863544475:=0
def tw18128663419468812529:=0
def tw16701327695213555818:=0
def tw4512029873397029581:=0
def tw14133257687023929596:=0
def tw17397396472955375635:=0
def tw1248328645955736093:=0
def tw12521075418231583742:=0
def tw7442974157608429933:=0
def tw14262339652533224416:=0
def tw11064037338188048113:=0
def tw14648490191759952978:=0
def tw7102297353144986468:=0
def tw13921537737660885057:=0
def tw3953569246037926170:=0
def tw274688781327873346:=0
def tw8650828987233289176:=0
def tw15558534207178066638:=0
def tw16790253431882044856:=0
def tw1845709260840714297:=0
def tw3524721574305778797:=0
def tw510470609427082371:=0
def tw17575600633536032989:=0
def tw1550590334175822046:=0
def tw17027314548399563328:=0
def tw12288744294388871396:=0
def tw4516847992290838299:=0
def tw4438250762370449945:=0
def tw6068347068549192471:=0
def tw5171453617282613913:=0
def tw17374444507846506645:=0
def tw14229586942422938807:=0
def tw14766486798200042749:=0
def tw15588529284452836386:=0
def tw9024181569176385654:=0
def tw14864808659040790759:=0
def tw16423294174647972575:=0
def tw5263874036971321791:=0
def tw3381639623536970962:=0
def tw4823795612298221840:=0
def tw7557270012318169981:=0
def tw8333361358104244354:=0
def tw10602384575384581080:=0
def tw2697219419718219735:=0
def tw17032118749338911727:=0
def tw9966870619356730463:=0
def tw9312230758891812993:=0
def tw949690637028726536:=0
def tw2057806171493739901:=0
def tw5933285121704582820:=0
def tw14597141351859533537:=0
def tw4004590069219567639:=0
def tw12742000894260352503:=0
def tw8774069915864666152:=0
def tw4485271879497880296:=0
def tw244106296826034742:=0
def tw12679680872237780682:=0
def tw691333775348846651:=0
def tw11465973369170721062:=0
def tw4032152443129788160:=0
def tw10965897459163204140:=0
def tw15031813400438335346:=0
def tw1279263516171502976:=0
def tw2513315573017150389:=0
def tw982523425785602089:=0
def tw9326234253940642278:=0
def tw15219439150029040385:=0
def tw9463121488741097872:=0
def tw1978928002538065001:=0
def tw7620398723264964294:=0
def tw6929163254839747565:=0
def tw7987418997344942342:=0
def tw1807884673183139573:=0
def tw9629575052188659097:=0
def tw9392657631781690713:=0
def tw3560151286413933368:=0
def tw1437484480949588342:=0
def tw928404927055423270:=0
def tw4191043840765543448:=0
def tw392827042141984892:=0
def tw9940321442028858455:=0
def tw3760752598703560118:=0
def tw12358899277038948503:=0
def tw631327629516223130:=0
def tw10210183677593760930:=0
def tw15170100484055285409:=0
def tw8826136590004455693:=0
def tw545402618114812089:=0
def tw3012451364242559192:=0
def tw436174045416692227:=0
def tw9500724710856782806:=0
def tw264471256428510515:=0
def tw17633932458052573754:=0
def tw6455335192074340006:=0
def tw2078162186453929943:=0
def tw7669984868695837912:=0
def tw12072423315010247075:=0
def tw15930827760357270465:=0
def tw184309658994260065:=0
def tw10130049697253172410:=0
def tw10983667467364696229:=0
def tw12786420314944385301:=0
def tw9866243928522657457:=0
def tw9604551620872779104:=0
def tw5847161879411829136:=0
def tw1599875172124274347:=0
def tw17353232873672177305:=0
def tw659938884547549488:=0
def tw16946392440195888262:=0
def tw2161160510528744016:=0
def tw3700273773614645478:=0
def tw10478482139610261871:=0
def tw12895608013116694082:=0
def tw1800216886733314857:=0
def tw2283027876338274143:=0
def tw12893837963860988749:=0
def tw14397248815527568073:=0
def tw10483144401565156725:=0
def tw15736090853354814889:=0
def tw10006458365772990417:=0
def tw6289392973140212688:=0
def tw5496398630701273620:=0
def tw17914836736199035626:=0
def tw12168120867644674489:=0
def tw7737105523423155722:=0
def tw10270596968006122521:=0
def tw5701141572873302937:=0
def tw12273339424443831302:=0
def tw8224730992735095985:=0
def tw7559083829423563190:=0
def tw10514945625337046635:=0
def tw18444848480886718074:=0
def tw9837118738187140824:=0
def tw5736050100033079273:=0
def tw15119170101714692992:=0
def tw17273404553952018024:=0
def tw6901937102424059610:=0
def tw6917050750902600037:=0
def tw9678248866272981896:=0
def tw7465272066288449371:=0
def tw14238634013762841232:=0
def tw15370017632971143747:=0
def tw16756170250872734064:=0
def tw9971386203604801096:=0
def tw15923660642909173497:=0
def tw12111969919603640549:=0
def tw10980260838562899085:=0
def tw7592095094961916316:=0
def tw2061067095759912445:=0
def tw11309042237907345437:=0
def tw10871194242696240260:=0
def tw6814832633794941489:=0
end PySem.W.Fast
set_option maxRecDepth 100000 in
set_option maxHeartbeats 0 in
theorem PySem.Challenge.cw_leastasks_k15_texts_refused_holds : PySem.Challenge.rw_leastasks_k15_texts_refused.Holds := by
  w_on; o_law; k_head; (case hw => w_witness2)
  k_fill
  refine L2.walkL (l := PySem.Challenge.rw_leastasks_k15_texts_refused) (k := L2.lv (K15.depth + 1)) (x := "_law_script") (by decide) rfl rfl (ts := []) (fun w h Y => ⟨PySem.W.kIn_of Y, fun _ h => nomatch h⟩) ?tz ?F
  case tz => intro w; kernel_rfl
  case F =>
    intro w mg fa h KX Gn hmg tz
    refine' K15.head KX Gn hmg ?h0 ?h1 ?h2 ?h3 ?h4 ?h5 ?h6 ?h7 ?h8 ?h9 ?h10 ?h11 ?h12 ?h13 ?h14 ?h15 ?h16 ?h17 ?h18 ?h19 ?h20 ?h21 ?h22 ?h23 ?h24 ?h25 ?h26 ?h27 ?h28 ?h29 ?h30 ?h31 ?h32 ?h33 ?h34 ?h35 ?h36 ?bz tz ?gzgt0 ?gn0 ?gn1 ?gn2 ?gn3 ?ga4l ?gn4 ?gzgt8 ?gzgt9 ?gzgt10 ?gzgt11 ?gzgt12 ?gzgt13 ?gzgt14 ?gzgt15 ?gzgt16 ?ga7l ?gn5 ?gzgt18 ?gzgt19 ?ga17l ?gn6 ?gzgt21 ?gzgt22 ?ga20l ?gn7 ?gzgt23 ?gn8 ?gn9 ?gn10 ?ga26l ?gn11 ?ga32l ?ga35l ?ga38l ?ga41l ?ga44l ?ga47l ?ga31l ?gn12 ?exa ?hpc ?xz K15.lawTrue
    (case h0|h1|h2|h3|h4|h5|h6|h7|h8|h9|h10|h11|h12|h13|h14|h15|h16|h17|h18|h19|h20|h21|h22|h23|h24|h25|h26|h27|h28|h29|h30|h31|h32|h33|h34|h35|h36 => walk_at "lf")
    (case gn0|gn1|gn2|gn3|gn4|gn5|gn6|gn7|gn8|gn9|gn10|gn11|gn12|ga31l|ga47l|ga44l|ga41l|ga38l|ga35l|ga32l|ga26l|ga20l|ga17l|ga7l|ga4l => k_is)
    (case gzgt0|gzgt8|gzgt9|gzgt10|gzgt11|gzgt12|gzgt13|gzgt14|gzgt15|gzgt16|gzgt18|gzgt19|gzgt21|gzgt22|gzgt23 => decide)
    (case bz|exa|xz => kernel_rfl)
    (case hpc => (refine' L2.PcH.mk ?at_ ?pg ?hd ?po ?sa ?mk_ ?kc ?nS ?nP ?mI ?mA ?mT ?mL; (case at_ => k_is); (case pg => k_is); (case hd => k_is); (case po => k_is); (case sa => k_is); (case mk_ => k_is); (case kc => k_is); (case nS => k_is); (case nP => k_is); (case mI => walk_at "lm"); (case mA => walk_at "lm"); (case mT => walk_at "lm"); (case mL => walk_at "lm")))
#print axioms PySem.Challenge.cw_leastasks_k15_texts_refused_holds