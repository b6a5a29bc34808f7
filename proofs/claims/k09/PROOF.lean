import PyProof.Rows.All
import Wide.All
import OpenK.AllK
import Wide.FinOn
import Lean
import PyProof.EqAt
import PyProof.EqKinds
import PyProof.TupleCall
import KE.KDictList
import KE.KMinKey
import PyProof.ListRange
import KE.KIntText
import PyProof.ReprRoads
import KE.KSortAsk
import KE.KSortTup
import PyProof.Rows.TupTab
import PyProof.TupleOfSeq
import PyProof.Rows.SortStr
import PyProof.Rows.SortWalk
import KE.KRevIter
import PyProof.TupleOfGen
import PyProof.StrBlockL
import PySem.Challenge.RW_leastasks_k09_denied_turned_put_in_order
set_option Elab.async false
set_option linter.all false
set_option maxRecDepth 100000
set_option maxHeartbeats 4000000
set_option genSizeOf false
set_option genInjectivity false
open Option renaming some→a5,none→a8,map_some→cc,isSome_some→eJ,join_some→iA,getD_none→iB,map_none→iQ,any_none→iR,bind→ke
open Bool renaming false→a6,true→a7,or_eq_true→cj,eq_iff_iff→dS,or_false→eO,false_or→eP,not_eq_true'→f9,and_false→gf,and_true→gB,not_false→jU,or_true→kB
open PySem renaming starEach→a9,Value→aa,Addr→ae,Shared→af,Str→ah,wpAny_bind→ai,Expr→aj,sizeLine→ak,mainGlobals→aq,Program→ar,model→au,wpAny→ax,wpAny_pure→az,World→aA,Around→aC,eval→aE,Heap→aG,FuncData→aJ,foldedSetIterable→aK,behindInMarks→aM,Stmt→aN,Pos→aO,swapsWith→aP,reprText→aQ,backTo→aR,cellsFrom→aS,attributeBase→aV,wpAny_mono→aW,Keyword→aX,sizeLine_eq→b8,keywordEach→bf,cLine→bg,bootBuiltins→bj,binaryOp→bo,compareOp→bp,Scope→bq,wpAny_Call_Name_kw→br,NameKind→bE,wpAny_newObj_type→bG,backToKw→bH,recursionLimit→bK,call_meets→bN,assignEach→bO,wpAny_truthy_bool→bW,codeAny_mono→cg,codeAny→cu,wpAny_field→cE,Obj→cF,Env→cI,wpAny_pyIter_list→cN,bindArgs→cO,wpAny_call_entry→cS,sliceBounds→cW,wpAny_passesOwn→d6,Builtin→dh,noteFrame→dk,builtinsNs→dr,wpAny_holding→dO,wpAny_callSpecial?_slot→dX,PassesOwn→dY,letOwnedTupleGo→eI,draw→eM,newFunctionEnv→eS,intItems→eT,assign→eU,Result→eV,JoinOk→eW,IsPart→eX,wpAny_newList→fm,wpAny_pyIter_tuple→fC,typeIs_str→fD,typeIs_int→fE,sysModules→fF,isTrue→fG,wpAny_loadPart_at→fV,intText?→fW,concat_meets→fX,callerA→fY,boot_len→fZ,BindsTo→g6,noFill_tuple_add→gk,numAt→gu,Model→gv,CmpOp→gw,wpAny_execs_nil→gC,codeAny_builtin→gD,wpAny_newFunctionEnv_cells→gZ,GenState→hJ,wpAny_binaryOp_repeat_ref→i4,wpAny_standAt→ic,wpAny_comprehension_free→ie,seq_tuple_add→ig,call→ij,pushCells→iv,bindL→iw,bindC→iy,Arguments→iz,wpAny_noteFrame_againW→iK,seqSlot_of→iL,holding→iM,getItem→iN,wpAny_setFlight_noneW→iZ,wpAny_isTrue_Compare1→j3,codeAny_call_function→ja,lookup_relabel_local→jD,intItems_at→jE,codeAny_call_builtin→jF,Tok→jG,Sem→jH,Operator→jI,wpAny_rule→jY,wpAny_call→jZ,wpAny_Name→k6,rawInt→k8,pyIter→k9,wpAny_pyIter_enum→ko,wpAny_assign_Name→kq,standAt→kr,relabel→ku,call_sum_walkAnyS→kx,again→ky,wpAny_execs_cons→kQ,wpAny_eqBool_int→kR,setFlight→kS,seqIndex?→kT,checkBuiltinCall→kU,DictEntry→kW,pushCells_keeps→lH,wpAny_setField→lS,wpAny_seqItems→lT,wpAny_Compare1→lU,fitsIndex_both→lV,firstArgMember→lW,compEnvC→lX,Params→lY,Meets→lZ,wpAny_attempt→mh,intBits_le_64→mi,evalPart_none→mj,call_list_seq→mm
open List renaming replicate→ao,range→aB,foldl→bF,toArray→bX,filterMap_cons→cb,set_cons_succ→cn,map_nil→cy,getElem?_set→cz,length_filter_le→cG,getElem?_toArray→cH,not_mem_nil→cJ,getElem_inj→cK,cons_append→cL,of_mem_zip→cP,length_nil→cQ,map_replicate→cZ,getElem?_append_right→d4,range'→di,take_length→dD,getElem?_cons_zero→dE,range_succ_eq_map→dM,length_replicate→dW,mem_of_mem_take→eC,all_cons→eN,length_zipIdx→eR,range'_succ→fq,drop_length→fv,nil_append→fK,length_zip→fM,nodup_nil→gc,mem_of_find?_eq_some→gn,getElem?_zip_eq_some→gp,map_drop→gz,pairwise_singleton→gG,filter_cons_of_pos→gI,filter_cons_of_neg→gJ,eraseIdx_cons_succ→gK,set_set→gP,drop_of_length_le→gQ,all_map→gR,singleton_append→hV,length_singleton→hZ,mem_of_mem_drop→i5,length→i6,getElem?_mapIdx→i7,mem_map_of_mem→il,getElem_idxOf→iC,find?_eq_none→iD,filter_append→iE,reverse_cons→iS,pairwise_map→iT,getElem_take→iU,any_eq_false→iV,filter_cons→jv,any_toArray→jA,zipIdx_map→jJ,mem_zipIdx→jK,idxOf_cons→jL,find?_some→jM,take_zero→jT,map_take→kg,any_nil→kA,Nodup→lL
open Option.some renaming inj→aw,injEq→md
open PySem.W renaming kasC_bind→ay,kas_item→aD,kasC_pure→aF,kasC→cR,OpenLaw→dj,kas_item_eq→dH,mg_of→dZ,nsIn→fP,kasC_get→fQ,findIn→gS,WalkO→i9,looks_findIn→iF,KitX→jB,kasC_range→jV,kasC_lift→kC,Frag→lO
open PySem.Value renaming ref→aH,none→aI,type→bu,int→bA,str→bD,bool→bS,builtin→de,isStrOf→jN
open PySem.Builtin.Str renaming strSliceIndices→aL,tooLong→cD,occurrences→fj,glued→lR
open Array renaming map→aT,append_inj_right→cq,getElem?_map→cX,toList_map→dw,getElem?_toList→dU,getD_eq_getD_getElem?→fO,getElem?_eq_none→gN,getD→ip,toList→ki
open Or renaming inl→aU,inr→bR,imp→my
open False renaming elim→aY
open PySem.Obj renaming mapSeq→aZ,data_mapFields→iI
open PyProof.Rows renaming seqObj→b9,SortSt→ba,envOfC→bB,pairsOf→bJ,IntsAre→cU,boot_isinstance→d7,Keyed→du,AllBare→dJ,FormattedValue_plain→eY,SortKind→g9,IsTup→gx,get?_update_seq→gE,tuples'→gO,subscriptTail_builtinR→iO,StrsAre→iP,slot_tuple_getitem→ka,arrOf→kz,formatField_str→lI,entry_list_sort→lJ,tail_any→m6,slot_list_sort→m7,slicePart_none→m8,args_list_sort→m9,subscriptTail→mn,listUpdate_at→mw
open PySem.Builtin.SmallTypes renaming nextOf→bh
open PySem.NameKind renaming free→bx,cell→bI
open Sum renaming inr→bC,inl→fb
open PySem.Builtin.Slice renaming slicePlaces→bL,sliceAdjust→cM,sliceApplied→eL,slicePartIndex→kO,sliceFields→kP
open PySem.Builtin.Tuple renaming tupleExact→bM,tupleTooMany→eK,tupleItemsOf→kN
open PySem.Txt renaming slice→bP,join→eD,mul→iG,split→mf
open PySem.Builtin.List renaming listTooLong→bQ
open Ne renaming symm→bT
open PySem.Heap renaming size_push→bU,SameBut→cT,ExtBut→fw,get?_push_ne→iJ,size_update→iY
open PySem.AutoSeq1 renaming wpAny_loadPart'→bV
open Function renaming comp→bY
open ForInStep renaming yield→bZ
open PySem.F renaming slot_tuple_iterator_next→c7,args_tuple_add_2→d5,entry_tuple_add→df,slot_tuple_add→dn,slot_list_append→dF,slot_int_rmul→eA,excBase_ValueError→fB,type_list_append→fS,args_tuple_iterator_next_1→gh,entry_tuple_iterator_next→gr,slot_tuple_index→gW,slot_list_extend→gX,slot_list_index→i3,typeOf_object_class→iq,slot_str_join→ir,slot_list_pop→iu,args_tuple_mul_2→jC,entry_tuple_mul→jP,args_int_rmul_2→jQ,slot_tuple_mul→jW,entry_int_rmul→jX,fills_int_mul→kn
open Nat renaming ne_of_gt→c8,lt_succ_of_lt→cB,lt_of_le_of_lt→d8,le_of_lt→dP,mul_comm→fc,lt_succ_self→fH,pow_succ→hR,not_lt_zero→jR,min_eq_left→jS,succ_mul→kX,sub_zero→kY,min_self→kZ,lt_or_ge→l0,le_of_eq→l7,log2_lt→lK
open Int renaming zero_add→c9,toNat_of_nonneg→cf,ediv_eq_zero_of_lt→cC,pow_pos→dm,pow_succ→dQ,mul_comm→dR,emod_eq_of_lt→ff,add_zero→fh,one_mul→fN,fdiv_eq_ediv_of_nonneg→gq,mul_assoc→gL,add_comm→i0,add_mul_ediv_left→i8,natCast_nonneg→iW,ne_of_gt→l9,mul_one→lM,le_refl→lN
open PySem.Heap.SameBut renaming update→cA
open PySem.SeqAt renaming EqAt→cV,RcAt→fR
open PySem.Str renaming empty→cY,ofString→dN,cps→gT,length→lQ
open Classical renaming propDecidable→d9
open PySem.PyData renaming int→dB,showableAll→eG,hasDictAll→eQ,depthAll→fi,showable→iH,hasDict→iX,depth→jO
open PyProof.Rows.SortSt renaming mk'→dC
open List.Perm renaming refl→dG,eq_of_pairwise→fJ,swap→ik
open PySem.PassesOwn renaming leaving→eE
open Sum.inr renaming inj→eZ
open PySem.Calls renaming Name_function_global→fU,call_function_entry→gb,evalArgs_plain→gY
open PySem.EqMixed renaming ne_str_int→kD,ne_str_bool→kF,ne_int_str→kH,ne_bool_str→kI,eq_str_int→kJ,eq_str_bool→kK,eq_int_str→kL,eq_bool_str→kM
open PySem.EqNone renaming ne_str_none→lb,ne_none_str→lh,ne_none_none→lj,ne_none_int→lq,ne_none_bool→lr,ne_int_none→ly,ne_bool_none→lz,eq_str_none→lA,eq_none_str→lB,eq_none_none→lC,eq_none_int→lD,eq_none_bool→lE,eq_int_none→lF,eq_bool_none→lG
def kh:=@List.getElem?_eq_getElem
def kj:=@List.getD_eq_getElem?_getD
def km:=@List.mem_cons_of_mem
def xf:=@List.length_map
def xg:=@Bool.false_ne_true
def xj:=@List.mem_cons
def xm:=@List.mem_cons_self
def xn:=@PySem.Heap.lt_size
def xq:=@List.getElem?_map
def xr:=@List.size_toArray
def xu:=@PySem.Heap.get?_push_of_some
def xx:=@List.map_cons
def X3:=@List.getElem?_eq_some_iff
def X4:=@List.length_cons
def X5:=@Nat.le_refl
def X6:=@List.mem_singleton
def X7:=@Nat.ne_of_lt
def X8:=@Bool.and_eq_true
def Xa:=@PySem.Heap.get?_push_size
def Xb:=@List.length_append
def Xc:=@List.map_map
def Xd:=@Nat.le_trans
def Xe:=@Int.toNat_natCast
def Xf:=@Nat.lt_of_lt_of_le
def Xg:=@List.mem_of_getElem?
def Xh:=@List.mem_append_right
def Xi:=@List.getElem?_eq_none
def Xj:=@List.length_take
def Xk:=@List.lookup_cons
def Xl:=@List.map_append
def Xm:=@List.mem_range
def Xn:=@List.mem_map
def Xo:=@Option.isSome_iff_exists
def Xp:=@List.nodup_cons
def Xq:=@List.all_eq_true
def Xr:=@List.append_nil
def Xu:=@List.getElem?_range
def Xv:=@Nat.le_succ
def Xw:=@List.length_range
def Xx:=@Nat.lt_irrefl
def Xy:=@Nat.lt_trans
def Xz:=@Int.emod_nonneg
def ph:=@List.take_of_length_le
def pq:=@PySem.mem_of_lookup
def P0:=@List.replicate_succ
def Pa:=@List.ext_getElem?
def Pb:=@List.contains_iff_mem
def Pg:=@Bool.false_eq_true
def Ph:=@Int.emod_lt_of_pos
def Pj:=@List.length_drop
def Pk:=@List.getElem?_append_left
def Pn:=@List.mem_filterMap
def Pq:=@List.getElem_mem
def Pr:=@List.mem_append_left
def Pu:=@Nat.pow_le_pow_right
def Py:=@List.getElem?_cons_succ
def Pz:=@PySem.PassesOwn.never
def t6:=@List.idxOf_lt_length_of_mem
def t7:=@List.map_congr_left
def t8:=@Option.map_eq_some_iff
def tu:=@List.any_cons
def T3:=@Option.getD_some
def T4:=@PySem.W.hideAll_none
def T5:=@List.set_cons_zero
def T6:=@List.mem_replicate
def T7:=@Array.size_map
def T8:=@List.filterMap_eq_nil_iff
def T9:=@List.drop_eq_getElem_cons
def Tc:=@Nat.zero_le
def Td:=@List.mem_filter
def Te:=@List.mem_append
def Tf:=@List.getElem?_set_ne
def Tg:=@List.foldl_cons
def Th:=@List.find?_cons
def Ti:=@List.mem_iff_getElem
def Tj:=@Nat.zero_add
def Tn:=@List.flatten_cons
def Tp:=@List.append_assoc
def Tq:=@List.take_add_one
def Tt:=@PySem.F.plainAttrs_list
def Tu:=@Array.length_toList
def Tv:=@Array.toList_append
def Tw:=@List.drop_zero
def Tz:=@List.getElem?_set_self
def S5:=@Nat.lt_of_succ_le
def k82:=@And.intro
abbrev k83:=lO
abbrev k84:=aa→af→Prop
abbrev k85:=List (ae×cF)
abbrev k86:=ah→Option aa
abbrev k87:=("__debug__":ah)
abbrev k88:=("__classdict__":ah)
local macro_rules | `(tactic| omega)=>`(tactic| first | with_reducible assumption | with_reducible exact Nat.le_of_lt (by assumption) | with_reducible exact Nat.le_refl _ | lia)
local macro_rules | `(nofun)=>`(by omega)
section
namespace L2
open PySem PySem.Spec PyProof.Rows
noncomputable abbrev Key:=Sum Int ah
noncomputable def Lx:Key->aa->Bool
 |.inl k,v=>Value.isInt k v
 |.inr x,v=>jN x v
noncomputable def jl2(w:aA):Key->Int
 |.inl k=>hashInt k
 |.inr x=>hashStr w x
theorem vg:∀{k:Key}{v:aa},Lx k v=a7->(∃i t,k=fb i/\v=bA i t)\/(∃x t,k=bC x/\v=bD x t)
 |.inl i,v,h=>by obtain⟨t,e⟩:=Value.isInt_shape (k:=i) (v:=v) h;exact .inl ⟨i,t,rfl,e⟩
 |.inr x,v,h=>by obtain⟨t,e⟩:=Value.isStrOf_shape (x:=x) (v:=v) h;exact .inr ⟨x,t,rfl,e⟩
theorem j5d(x:ah)(t:jG):Lx (.inr x) (.str x t)=a7:=by simp[Lx,jN]
theorem jfz(a b:Int):decide ((fb a:Key)=fb b)=(a==b):=by
 by_cases e:a=b
 .subst e;simp
 .have h:¬(fb a:Key)=fb b:=λq=>e (Sum.inl.inj q);rw[decide_eq_false h];exact(beq_eq_false_iff_ne.mpr e).symm
theorem jfw(a b:ah):decide ((bC a:Key)=bC b)=decide (a=b):=by
 by_cases e:a=b
 .subst e;simp
 .have h:¬(bC a:Key)=bC b:=λq=>e (eZ q);rw[decide_eq_false h,decide_eq_false e]
theorem jfy(a:Int)(b:ah):decide ((fb a:Key)=bC b)=a6:=decide_eq_false (λq=>nomatch q)
theorem jfx(a:ah)(b:Int):decide ((bC a:Key)=fb b)=a6:=decide_eq_false (λq=>nomatch q)
noncomputable def Rn(prog:ar)(w:aA):PySem.KeyKind prog w Key where
 is:=Lx
 hash:=jl2 w
 inj:=λv a b ha hb=>by
  rcases vg ha with ⟨i,t,rfl,rfl⟩|⟨x,t,rfl,rfl⟩
  .rcases vg hb with ⟨j,u,rfl,e⟩|⟨y,u,rfl,e⟩
   .injection e with e1 _;rw[e1]
   .exact nomatch e
  .rcases vg hb with ⟨j,u,rfl,e⟩|⟨y,u,rfl,e⟩
   .exact nomatch e
   .injection e with e1 _;rw[e1]
 byValue:=λk v h=>by rcases vg h with ⟨i,t,rfl,rfl⟩|⟨x,t,rfl,rfl⟩<;>rfl
 pyHash:=λhv h=>by
  rcases vg hv with ⟨i,t,rfl,rfl⟩|⟨x,t,rfl,rfl⟩
  .exact wpAny_pyHash_int h
  .exact wpAny_pyHash_str h
 eqBool:=λhu hv h=>by
  rcases vg hu with ⟨i,t,rfl,rfl⟩|⟨x,t,rfl,rfl⟩
  .rcases vg hv with ⟨j,u,rfl,rfl⟩|⟨y,u,rfl,rfl⟩
   .rw[jfz]at h;exact kR h
   .rw[jfy]at h;exact SeqAt.EqAt.int_str i t y u _ _ _ _ h
  .rcases vg hv with ⟨j,u,rfl,rfl⟩|⟨y,u,rfl,rfl⟩
   .rw[jfx]at h;exact SeqAt.EqAt.str_int x t j u _ _ _ _ h
   .rw[jfw]at h;exact wpAny_eqBool_str h
 «strs»:=λk x t v h=>by
  rcases vg h with ⟨i,u,rfl,e⟩|⟨y,u,rfl,e⟩
  .exact nomatch e
  .injection e with e1 _;subst e1;cases v<;>rfl
theorem M6(prog:ar)(w:aA)(x:ah)(t:jG):(Rn prog w).is (.inr x) (.str x t)=a7:=j5d x t
set_option genInjectivity true in
inductive V where
 |non|bl (b:Bool)|int (i:Int)|str (x:ah)|byt (b:Array UInt8)|flt (b:UInt64)|ref (a:ae)|ty (n:String)
 deriving DecidableEq
def RelV:V->aa->Prop
 |.non,u=>u=aI
 |.bl b,u=>u=bS b
 |.int i,u=>∃t,u=bA i t
 |.str x,u=>∃t,u=bD x t
 |.byt b,u=>∃t,u=Value.bytes b t
 |.flt b,u=>∃t,u=Value.float b t
 |.ref a,u=>u=aH a
 |.ty n,u=>u=bu n
abbrev Vals:List V->List aa->Prop:=Paired RelV
theorem Vals.length{xs:List V}{us:List aa}(r:Vals xs us):xs.length=us.length:=Paired.length r
theorem Vals.get:∀{xs:List V}{us:List aa}{i:Nat}{x:V},Vals xs us->xs[i]?=a5 x->∃u,us[i]?=a5 u/\RelV x u
 |_,_,_,_,.nil,e=>by simp at e
 |_,_,0,_,.cons r _,e=>by simp at e;subst e;exact⟨_,rfl,r⟩
 |_,_,i+1,x,.cons _ t,e=>by obtain⟨u,h1,h2⟩:=Vals.get (i:=i) (x:=x) t (by simpa using e);exact⟨u,by simpa using h1,h2⟩
theorem Vals.set{x:V}{u:aa}(r:RelV x u):∀{xs:List V}{us:List aa}(i:Nat),Vals xs us->Vals (xs.set i x) (us.set i u)
 |_,_,_,.nil=>.nil
 |_,_,0,.cons _ t=>.cons r t
 |_,_,i+1,.cons q t=>.cons q (Vals.set r i t)
theorem Vals.append:∀{xs ys:List V}{us ws:List aa},Vals xs us->Vals ys ws->Vals (xs++ys) (us++ws)
 |_,_,_,_,.nil,s=>s
 |_,_,_,_,.cons r t,s=>.cons r (Vals.append t s)
theorem Vals.take:∀{xs:List V}{us:List aa}(n:Nat),Vals xs us->Vals (xs.take n) (us.take n)
 |_,_,0,_=>.nil
 |_,_,_+1,.nil=>.nil
 |_,_,n+1,.cons r t=>.cons r (Vals.take n t)
theorem Vals.drop:∀{xs:List V}{us:List aa}(n:Nat),Vals xs us->Vals (xs.drop n) (us.drop n)
 |_,_,0,r=>r
 |_,_,_+1,.nil=>.nil
 |_,_,n+1,.cons _ t=>Vals.drop n t
def jhm:Option V->Option aa->Prop
 |some v,a5 u=>RelV v u
 |none,a8=>True
 |_,_=>False
def KV{κ:Type}:List (κ×V)->List (κ×aa)->Prop:=Paired λ(p:κ×V) (q:κ×aa)=>p.1=q.1/\RelV p.2 q.2
noncomputable def kV:Key->V
 |.inl i=>.int i
 |.inr x=>.str x
inductive HO where
 |lst (xs:List V)
 |tup (xs:List V)
 |dK (kvs:List (Key×V))|dT (kvs:List (List Key×V))
 |dI (xs:List (List Int×ae×aa)) (ep:Nat)
 |set (S:Int->Bool) (n:Nat)
 |ins (C dx:ae) (fs:List (ah×V))
 |own (x:ae)
 |xd (fs:List (ah×V))
 |met (f x:ae)
 |rng (lo hi:Int)
 |frz (o:cF) (u:HO)
 |tbl (ps:Array aa)
 |cod (q:ah)
 |ext (φ:aG->Prop)
noncomputable abbrev Hp:=ae->Option HO
noncomputable def upd(H:Hp)(a:ae)(o:HO):Hp:=λb=>if b=a then a5 o else H b
theorem jb{H:Hp}{a:ae}{o:HO}:upd H a o a=a5 o:=by unfold upd;rw[if_pos rfl]
theorem jd{H:Hp}{a b:ae}{o:HO}(h:b≠a):upd H a o b=H b:=by unfold upd;rw[if_neg h]
theorem jal{H:Hp}{a:ae}{o u:HO}:upd (upd H a o) a u=upd H a u:=by funext b;unfold upd;split<;>rfl
theorem J8{H:Hp}{a b:ae}{o:HO}(h:H a=a5 o)(h':H b=a8):a≠b:=by intro e;subst e;rw[h]at h';cases h'
def Zm(h:aG)(a:ae):Prop:=∀o,h.get? a=a5 o->o.dict=a8
theorem Zm.new(h:aG)(xs:Array aa):Zm (h.push { cls:=.type "tuple",data:=.seq xs }) h.objs.size:=λo e=>by have z:(h.push { cls:=.type "tuple",data:=.seq xs }).get? h.objs.size=a5 { cls:=.type "tuple",data:=.seq xs }:=Xa _ rfl;rw[z]at e;cases e;rfl
theorem Zm.of{h:aG}{a:ae}{d:Data}{c:aa}(e:h.get? a=a5 { cls:=c,data:=d }):Zm h a:=λo e'=>by rw[e]at e';cases e';rfl
def j3s(o:cF)(q:ah):Prop:=∃(vs:Array aa)(t:jG),o.data=.fields vs/\vs[1]?=a5 (.str q t)
section
variable(P:ar)(w:aA)
def jg(H:Hp)(h:aG)(a:ae):HO->Prop
 |.lst xs=>xs.length<=ak/\∃(its:List aa)(n:Nat),Vals xs its/\h.get? a=a5 { cls:=.type "list",data:=.seq its.toArray n }
 |.tup xs=>xs.length<=ak/\∃its:List aa,Vals xs its/\gx h a its.toArray/\Zm h a
 |.dK kvs=>kvs.length<=ak/\(a==fF)=a6/\∃vs,KV kvs vs/\h.DictOf (Rn P w) a vs
 |.dT kvs=>kvs.length<=ak/\(a==fF)=a6/\∃xs:List (List Key×ae×aa),
   Paired (λ(p:List Key×V) (q:List Key×ae×aa)=>p.1=q.1/\H q.2.1=a5 (.tup (p.1.map kV))/\RelV p.2 q.2.2) kvs xs /\
   ∃o es ep,h.get? a=a5 o/\o.ExactDict/\o.data=.dict es ep/\es.toList=xs.map (entryOfKey (tupleKind (Rn P w)))/\(xs.map (·.1)).Nodup
 |.dI xs ep=>xs.length<=ak/\(a==fF)=a6/\(xs.map λx=>x.1).Nodup/\∃(o:cF)(es:Array kW),h.get? a=a5 o/\o.ExactDict/\o.data=.dict es ep/\es.toList=xs.map (entryOfKey (tupleKind (intKind P w)))
 |.set S n=>h.SetOf (intKind P w) a S n
 |.ins C dx fs=>H dx=a5 (.own a)/\fs.length<=1000/\dx≠a/\h.get? a=a5 (W.instObj C dx) /\
   ∃mA,h.Ns1 dx mA/\(∀f,jhm (fs.lookup f) (mA f))/\PySem.Within mA (fs.map (·.1))
 |.own _=>∃o,h.get? a=a5 o
 |.xd fs=>∃mA,h.Ns1 a mA/\∀f,jhm (fs.lookup f) (mA f)
 |.rng lo hi=>∃t u v,h.get? a=a5 { cls:=.type "range",data:=.fields #[.int lo t,.int hi u,.int 1 v] }
 |.frz o u=>h.get? a=a5 o/\jg H h a u
 |.tbl ps=>h.get? a=a5 { cls:=.none,data:=.fields ps }
 |.cod q=>∃ps:Array aa,h.get? a=a5 (W.tabObj ps)/\TriplesOk ps.toList/\∀pos cv,codeAmong pos ps.toList=a5 cv->∃(c:ae)(oc:cF),cv=.ref c/\H c=a5 (.frz oc (.own 0))/\j3s oc q
 |.met f x=>h.get? a=a5 (W.methodObj (.ref f) (.ref x))
 |.ext φ=>φ h/\(∃o,h.get? a=a5 o)/\∀h1 h2:aG,φ h1->(∀o,h1.get? a=a5 o->h2.get? a=a5 o)->φ h2
def HOk(H:Hp)(h:aG):Prop:=∀a o,H a=a5 o->jg P w H h a o
end
section
variable{P:ar}{w:aA}{H H':Hp}{h h':aG}{a:ae}{o:HO}
theorem jg.lt(x:jg P w H h a o):a<h.objs.size:=by
 cases o with
 |lst xs=>obtain⟨_,_,_,_,e⟩:=x;exact xn e
 |tup xs=>obtain⟨_,_,_,p,_⟩:=x;exact p.lt
 |dK kvs=>obtain⟨_,_,_,_,o,_,_,e,_⟩:=x;exact xn e
 |dT kvs=>obtain⟨_,_,_,_,o,_,_,e,_⟩:=x;exact xn e
 |dI xs ep=>obtain⟨_,_,_,o,_,e,_⟩:=x;exact xn e
 |set S n=>obtain⟨o,_,_,_,e,_⟩:=x;exact xn e
 |ins C dx fs=>obtain⟨_,_,_,e,_⟩:=x;exact xn e
 |own y=>obtain⟨_,e⟩:=x;exact xn e
 |xd fs=>obtain⟨_,⟨_,_,_,e,_⟩,_⟩:=x;exact xn e
 |rng lo hi=>obtain⟨_,_,_,e⟩:=x;exact xn e
 |frz ob u=>obtain⟨e,_⟩:=x;exact xn e
 |tbl ps=>exact xn (show h.get? a=a5 _ from x)
 |cod q=>obtain⟨_,e,_⟩:=x;exact xn e
 |met f y=>exact xn (show h.get? a=a5 _ from x)
 |ext φ=>obtain⟨_,⟨_,e⟩,_⟩:=x;exact xn e
theorem Paired.mapP{α β:Type}{F G:α->β->Prop}:∀{l₁:List α}{l₂:List β},Paired F l₁ l₂->(∀a b,F a b->G a b)->Paired G l₁ l₂
 |_,_,.nil,_=>.nil
 |_,_,.cons r t,f=>.cons (f _ _ r) (Paired.mapP t f)
theorem jg.stay(x:jg P w H h a o)(k:∀b u,(b=a\/H b=a5 (.own a))->h.get? b=a5 u->h'.get? b=a5 u)
  (ho:∀b,H b=a5 (.own a)->H' b=a5 (.own a)) (ht:∀b xs,H b=a5 (.tup xs)->H' b=a5 (.tup xs)) (hz:∀b o,(∃vs,o.data=.fields vs)->H b=a5 (.frz o (.own 0))->H' b=a5 (.frz o (.own 0))):jg P w H' h' a o:=by
 induction o with
 |lst xs=>obtain⟨z,its,n,r,e⟩:=x;exact⟨z,its,n,r,k _ _ (.inl rfl) e⟩
 |tup xs =>obtain⟨z,its,r,⟨ob,e,c⟩,nd⟩:=x;refine⟨z,its,r,⟨ob,k _ _ (.inl rfl) e,c⟩,λo q=>?_⟩;rw[k _ _ (.inl rfl) e]at q;cases q;exact nd _ e
 |dK kvs=>obtain⟨z,y,vs,r,ob,es,ep,e,c⟩:=x;exact⟨z,y,vs,r,ob,es,ep,k _ _ (.inl rfl) e,c⟩
 |dT kvs =>obtain⟨z,y,xs,r,ob,es,ep,e,c⟩:=x;exact⟨z,y,xs,Paired.mapP r λp q z=>⟨z.1,ht _ _ z.2.1,z.2.2⟩,ob,es,ep,k _ _ (.inl rfl) e,c⟩
 |dI xs ep=>obtain⟨z,y,nd,ob,es,e,c⟩:=x;exact⟨z,y,nd,ob,es,k _ _ (.inl rfl) e,c⟩
 |set S n=>obtain⟨ob,es,ep,t,e,c⟩:=x;exact⟨ob,es,ep,t,k _ _ (.inl rfl) e,c⟩
 |ins C dx fs =>obtain⟨d,z,ne,e,mA,⟨od,es,ep,e2,c⟩,r⟩:=x;exact⟨ho _ d,z,ne,k _ _ (.inl rfl) e,mA,⟨od,es,ep,k _ _ (.inr d) e2,c⟩,r⟩
 |own y=>obtain⟨ob,e⟩:=x;exact⟨ob,k _ _ (.inl rfl) e⟩
 |xd fs=>obtain⟨mA,⟨od,es,ep,e,c⟩,r⟩:=x;exact⟨mA,⟨od,es,ep,k _ _ (.inl rfl) e,c⟩,r⟩
 |rng lo hi=>obtain⟨t,u,v,e⟩:=x;exact⟨t,u,v,k _ _ (.inl rfl) e⟩
 |frz ob u ih=>obtain⟨e,q⟩:=x;exact⟨k _ _ (.inl rfl) e,ih q⟩
 |tbl ps =>have e:h.get? a=a5 { cls:=.none,data:=.fields ps }:=x;show h'.get? a=a5 { cls:=.none,data:=.fields ps };exact k a _ (.inl rfl) e
 |cod q=>obtain⟨ps,e,t,c⟩:=x;exact⟨ps,k _ _ (.inl rfl) e,t,λpos cv z=>let ⟨c,oc,e1,e2,e3⟩:=c pos cv z;⟨c,oc,e1,hz _ _ (let ⟨vs,_,z,_⟩:=e3;⟨vs,z⟩) e2,e3⟩⟩
 |met f y =>have e:h.get? a=a5 (W.methodObj (.ref f) (.ref y)):=x;show h'.get? a=a5 (W.methodObj (.ref f) (.ref y));exact k a _ (.inl rfl) e
 |ext φ=>obtain⟨p,⟨o,e⟩,st⟩:=x;exact⟨st _ _ p λo q=>k _ _ (.inl rfl) q,⟨o,k _ _ (.inl rfl) e⟩,st⟩
theorem HOk.lt(x:HOk P w H h)(e:H a=a5 o):a<h.objs.size:=(x a o e).lt
theorem HOk.fresh(x:HOk P w H h)(e:h.objs.size<=a):H a=a8:=by
 cases q:H a with
 |none=>rfl
 |some u=>exact absurd (Xf (x.lt q) e) (Xx _)
theorem HOk.kept(x:HOk P w H h)(k:∀b u,h.get? b=a5 u->h'.get? b=a5 u):HOk P w H h':=λa o e =>(x a o e).stay (λb u _ q=>k b u q) (λ_ q=>q) (λ_ _ q=>q) λ_ _ _ q=>q
theorem HOk.laid(x:HOk P w H h)(k:∀b u,h.get? b=a5 u->h'.get? b=a5 u)(hp:h.objs.size<=a)(new:jg P w (upd H a o) h' a o):HOk P w (upd H a o) h':=λb u e=>by
 have hn:=x.fresh hp;by_cases hb:b=a
 .subst hb;rw[jb]at e;cases e;exact new
 .rw[jd hb]at e;exact(x b u e).stay (λc v _ q=>k c v q) (λc q=>by rw[jd (J8 q hn)];exact q) (λc xs q=>by rw[jd (J8 q hn)];exact q) λc _ _ q=>by rw[jd (J8 q hn)];exact q
end
def Rd(H:Hp)(a:ae)(u:HO):Prop:=H a=a5 u\/∃o,H a=a5 (.frz o u)
theorem Rd.ok{P:ar}{w:aA}{H:Hp}{h:aG}{a:ae}{u:HO}(r:Rd H a u)(x:HOk P w H h):jg P w H h a u:=by
 rcases r with r|⟨o,r⟩
 .exact x a u r
 .obtain⟨_,q⟩:=x a _ r;exact q
def Mut:Option HO->Prop
 |some (.lst _)=>True
 |some (.dK _)=>True
 |some (.dT _)=>True
 |some (.dI _ _)=>True
 |some (.set _ _)=>True
 |some (.ins _ _ _)=>True
 |some (.ext _)=>True
 |some (.cod _)=>True
 |_=>False
section
variable{P:ar}{w:aA}{H:Hp}{h h':aG}{x e:ae}{o':HO}
theorem HOk.write(ok:HOk P w H h)(mu:Mut (H x))(he:e=x\/H e=a5 (.own x))(k:∀b u,b≠e->h.get? b=a5 u->h'.get? b=a5 u)(heo:∃u,h'.get? e=a5 u)
  (new:jg P w (upd H x o') h' x o'):HOk P w (upd H x o') h':=λb u q=>by
 have nown:∀c y,H c=a5 (.own y)->c≠x:=λc y r z=>by subst z;rw[r]at mu;exact mu
 have ntup:∀c xs,H c=a5 (.tup xs)->c≠x:=λc xs r z=>by subst z;rw[r]at mu;exact mu
 have nfrz:∀c o u,H c=a5 (.frz o u)->c≠x:=λc o u r z=>by subst z;rw[r]at mu;exact mu
 by_cases hb:b=x
 .subst hb;rw[jb]at q;cases q;exact new
 .rw[jd hb]at q;by_cases hbe:b=e
  .have q':H b=a5 (.own x):=by
    rcases he with z|z
    .exact absurd (hbe.trans z) hb
    .rw[hbe];exact z
   rw[q]at q';cases q';obtain⟨v,hv⟩:=heo;exact⟨v,by rw[hbe];exact hv⟩
  .refine(ok b u q).stay (λc v hc r=>k c v ?_ r) (λc r=>by rw[jd (nown c b r)];exact r) (λc xs r=>by rw[jd (ntup c xs r)];exact r) λc o _ r=>by rw[jd (nfrz c o _ r)];exact r
   rcases hc with rfl|hc
   .exact hbe
   .rintro rfl;rcases he with z|z
    .exact nown c b hc z
    .rw[hc]at z;cases z;exact hb rfl
end
structure Un(fs ex:List ae)(H H':Hp)(h h':aG):Prop where
 keep:∀b o,h.get? b=a5 o->H b=a8->b∉fs->b∉ex->h'.get? b=a5 o
 slot:∀b o,h.get? b=a5 o->H b=a8->b∈fs->b∉ex->∃sl,h'.get? b=a5 { o with slots:=sl }
 free:∀b o,h.get? b=a5 o->H b=a8->b∉ex->H' b=a8
 there:∀b o,h.get? b=a5 o->b∉ex->∃o',h'.get? b=a5 o'
 tups:∀b xs,H b=a5 (.tup xs)->H' b=a5 (.tup xs)
 frzs:∀b o u,H b=a5 (.frz o u)->H' b=a5 (.frz o u)
 tbls:∀b ps,H b=a5 (.tbl ps)->∃more,H' b=a5 (.tbl (ps++more))
section
variable{fs fs' ex ex':List ae}{H H1 H2:Hp}{h h1 h2 h':aG}{a x e:ae}{o:HO}
theorem Un.any(u:Un fs ex H H1 h h1){b:ae}{ob:cF}(q:h.get? b=a5 ob)(n:H b=a8)(hx:b∉ex):∃sl,h1.get? b=a5 { ob with slots:=sl }:=by
 by_cases hb:b∈fs
 .exact u.slot b ob q n hb hx
 .exact⟨ob.slots,u.keep b ob q n hb hx⟩
theorem Un.kept(k:∀b u,h.get? b=a5 u->h'.get? b=a5 u):Un fs ex H H h h' :=
 ⟨λb ob q _ _ _=>k b ob q,λb ob q _ _ _=>⟨ob.slots,k b ob q⟩,λ_ _ _ n _=>n,λb ob q _=>⟨ob,k b ob q⟩,λ_ _ q=>q,λ_ _ _ q=>q,λ_ ps q=>⟨#[],by rw[q];simp⟩⟩
theorem Un.refl:Un fs ex H H h h:=Un.kept λ_ _ q=>q
theorem Un.laid(k:∀b u,h.get? b=a5 u->h'.get? b=a5 u)(hp:h.objs.size<=a)(hn:H a=a8):Un fs ex H (upd H a o) h h' where
 keep:=λb u q _ _ _=>k b u q
 slot:=λb u q _ _ _=>⟨u.slots,k b u q⟩
 free:=λb u q n _=>by rw[jd (X7 (Xf (xn q) hp))];exact n
 there:=λb u q _=>⟨u,k b u q⟩
 tups:=λb xs q=>by rw[jd (J8 q hn)];exact q
 frzs:=λb u xs q=>by rw[jd (J8 q hn)];exact q
 tbls:=λb ps q=>⟨#[],by rw[jd (J8 q hn),q];simp⟩
theorem Un.write(mu:Mut (H x))(he:e=x\/H e=a5 (.own x))(k:∀b u,b≠e->h.get? b=a5 u->h'.get? b=a5 u)(heo:∃u,h'.get? e=a5 u):Un fs ex H (upd H x o) h h':=by
 have hx:∀b,H b=a8->b≠x:=λb n z=>by subst z;rw[n]at mu;exact mu
 have hb:∀b,H b=a8->b≠e:=λb n z=>by
  subst z;rcases he with r|r
  .exact hx b n r
  .rw[n]at r;cases r
 have hm:∀b u,H b=a5 u->¬Mut (a5 u)->b≠x:=λb u q nm z=>by subst z;rw[q]at mu;exact nm mu
 refine⟨λb u q n _ _=>k b u (hb b n) q,λb u q n _ _=>⟨u.slots,k b u (hb b n) q⟩,λb u q n _=>by rw[jd (hx b n)];exact n,λb u q _=>?_,
  λb xs q=>by rw[jd (hm b _ q λz=>z)];exact q,λb u xs q=>by rw[jd (hm b _ q λz=>z)];exact q,λb ps q=>⟨#[],by rw[jd (hm b _ q λz=>z),q];simp⟩⟩
 by_cases hbe:b=e
 .subst hbe;exact heo
 .exact⟨u,k b u hbe q⟩
end
noncomputable def trk(h:aG)(H:Hp):List ae:=(aB h.objs.size).filter λa=>(H a).isSome
noncomputable def Uc(h:aG)(H:Hp):aG:=W.hideAll h (trk h H)
theorem j5j(h:aG)(H:Hp):(Uc h H).objs.size=h.objs.size:=W.hideAll_size _ _
theorem j8e{h:aG}{H:Hp}{b:ae}{o:cF}(e:h.get? b=a5 o)(n:H b=a8):(Uc h H).get? b=a5 o :=
 W.hideAll_get _ e λhm=>by have q:(H b).isSome=a7:=(Td.mp hm).2;rw[n]at q;simp at q
theorem jc0{h:aG}{H:Hp}{b:ae}{o:cF}(e:(Uc h H).get? b=a5 o):h.get? b=a5 o/\H b=a8:=by
 have e':h.get? b=a5 o:=W.of_hideAll (trk h H) e;refine⟨e',?_⟩;cases q:H b with
 |none=>rfl
 |some x =>have hm:b∈trk h H:=Td.mpr ⟨Xm.mpr (xn e'),by simp[q]⟩;have z:(Uc h H).get? b=a8:=T4 (trk h H) hm;rw[z]at e;cases e
noncomputable def jda(g h:aG)(L:ae):List (ae×cF):=(aB h.objs.size).filterMap λa=>if a=L\/(g.get? a).isSome=a7 then a8 else(h.get? a).map λo=>(a,o)
noncomputable def rest(g h:aG)(L d:ae):List (ae×cF):=(jda g h L).filter λp=>decide (p.1≠d)
structure Mod(K:k83)(mg:k86)(base:aG):Prop where
 kin:K.In base
 glob:base.Ns aq mg
 blt:∃mb,base.Ns dr mb/\∀x:ah,x ≠ "__name__"->mb x=bj x
 nolimit:base.NoLimit
 bm:∃bm ob,mg "__builtins__" = a5 (.ref bm)/\bm≠dr/\base.get? bm=a5 ob/\ob.cls=.type "module"/\ob.dict=a5 dr/\ob.data=.plain
structure Cx where
 prog:ar
 w:aA
 K:k83
 mg:ah->Option aa
 base:aG
 A:aC
 N:List ah
 s₀:af
 H₀:Hp
 env:cI
 outer:List cI
 stack:List cI
 ex:List ae
 fn:ah->Bool
 calm:Bool
 pn:List (ae×cF)
 xe:aa->af->Prop
noncomputable def frs(l:List cI):List ae:=l.filterMap (·.frame)
noncomputable abbrev Cx.fs(X:Cx):List ae:=frs X.outer
def Vis(sc:bq)(x:ah):Prop:=sc.names.lookup x=a5 .local\/sc.names.lookup x=a5 .cell\/sc.names.lookup x=a5 .free
def Loc(sc:bq)(x:ah):Prop:=sc.names.lookup x=a5 .local\/sc.names.lookup x=a5 .cell
def Look(env:cI)(h:aG)(m:k86)(x:ah)(u:aa):Prop :=
 (env.kindOf x=a5 .local/\m x=a5 u)\/((env.kindOf x=a5 .cell\/env.kindOf x=a5 .free)/\∃c,env.cells.lookup x=a5 c/\h.IsCell c (a5 u))
structure Cx.Ok(X:Cx):Prop where
 mod:Mod X.K X.mg X.base
 kind:X.env.scope.kind=.function
 glob:X.env.globals=aq
 blt:X.env.builtins=dr
 above:X.s₀.heap.objs.size<=X.env.locals
 inj:∀x y c,X.env.cells.lookup x=a5 c->X.env.cells.lookup y=a5 c->x=y
 has:∀x,(X.env.kindOf x=a5 .cell\/X.env.kindOf x=a5 .free)->∃c,X.env.cells.lookup x=a5 c
 cab:∀x c,X.fn x=a7->X.env.cells.lookup x=a5 c->X.s₀.heap.objs.size<=c
 hd:X.calm=a7->X.A.handled=a8
 frames:X.A.frames=a5 X.stack
 stk:X.stack=X.outer\/(X.stack=X.env::X.outer/\X.env.frame=a5 X.env.locals)
 exf:∀b∈X.ex,b≠X.env.locals/\∀x c,X.env.cells.lookup x=a5 c->c≠b
 bs:∀b o,X.base.get? b=a5 o->X.s₀.heap.get? b=a5 o/\X.H₀ b=a8
 bsz:X.base.objs.size<=X.s₀.heap.objs.size
 noex:∀b o,X.base.get? b=a5 o->b∉X.ex
 exfs:∀b∈X.ex,b∉X.fs
 funs:X.s₀.heap.FunFrames X.base X.outer
 frf:∀b∈X.fs,X.H₀ b=a8
structure Inv(X:Cx)(pins:k85)(σ:List (Option V))(H:Hp)(s:af):Prop where
 ok:X.Ok
 os:s.os=X.s₀.os
 bare:dJ s.gens
 base:Un X.fs X.ex X.H₀ H X.s₀.heap s.heap
 loc:∃m,s.heap.Ns X.env.locals m/\∀(i:Nat)(x:ah)(v:V),X.N[i]?=a5 x->σ[i]?=a5 (a5 v)->Vis X.env.scope x->∃u,RelV v u/\Look X.env s.heap m x u
 cell:∀x c,X.env.cells.lookup x=a5 c->∃v,s.heap.IsCell c v
 free:H X.env.locals=a8
 freeC:∀x c,X.env.cells.lookup x=a5 c->H c=a8
 pin:∀p∈X.pn++pins,s.heap.get? p.1=a5 p.2/\H p.1=a8/\p.1≠X.env.locals/\p.1∉X.fs/\∀v,p.2.data≠.cell v
 hok:HOk X.prog X.w H s.heap
 len:σ.length=X.N.length
section
variable{X:Cx}{pins:k85}{σ:List (Option V)}{H H':Hp}{s:af}{h':aG}
theorem Cx.Ok.nofr(ok:X.Ok){b:ae}{o:cF}(e:X.base.get? b=a5 o):b∉X.fs:=λhb=>by have:=(ok.funs.mem hb).1;rw[e]at this;cases this
theorem Inv.bs(I:Inv X pins σ H s):∀b o,X.base.get? b=a5 o->s.heap.get? b=a5 o/\H b=a8:=λb o e =>⟨I.base.keep b o (I.ok.bs b o e).1 (I.ok.bs b o e).2 (I.ok.nofr e) (I.ok.noex b o e),I.base.free b o (I.ok.bs b o e).1 (I.ok.bs b o e).2 (I.ok.noex b o e)⟩
theorem Inv.bk(I:Inv X pins σ H s):∀b o,X.base.get? b=a5 o->s.heap.get? b=a5 o:=λb o e=>(I.bs b o e).1
theorem Inv.mod(I:Inv X pins σ H s):Mod X.K X.mg X.base:=I.ok.mod
theorem Inv.kIn(I:Inv X pins σ H s):X.K.In s.heap:=I.ok.mod.kin.keeps I.bk
theorem Inv.lt(I:Inv X pins σ H s):X.env.locals<s.heap.objs.size:=let ⟨_,hn,_⟩:=I.loc;hn.lt
theorem Inv.sz(I:Inv X pins σ H s):X.s₀.heap.objs.size<=s.heap.objs.size:=Xd I.ok.above (dP I.lt)
theorem Inv.nofs(I:Inv X pins σ H s){a:ae}(h:s.heap.objs.size<=a):a∉X.fs:=λhb=>by obtain⟨_,o,ho,_⟩:=I.ok.funs.mem hb;exact absurd (Xf (xn ho) (Xd I.sz h)) (Xx _)
theorem Inv.cne(I:Inv X pins σ H s):∀x c,X.env.cells.lookup x=a5 c->c≠X.env.locals:=λx c e z=>by obtain⟨v,o,ho,hd⟩:=I.cell x c e;obtain⟨m,⟨o',es,ep,ho',hd',_⟩,_⟩:=I.loc;rw[z,ho']at ho;cases ho;rw[hd']at hd;cases hd
theorem Inv.funs(I:Inv X pins σ H s):s.heap.FunFrames X.base X.outer:=by
 have all:∀(l:List cI),(∀b∈frs l,b∈X.fs)->X.s₀.heap.FunFrames X.base l->s.heap.FunFrames X.base l:=by
  intro l;induction l with
  |nil=>intro _ _;trivial
  |cons env r ih =>intro hs hl;obtain⟨hk,⟨L,o,hf,hn,ho,hd⟩,hr⟩:=hl;have hL:L∈X.fs:=hs L (by unfold frs;rw[cb,hf];exact xm);obtain⟨sl,e⟩:=I.base.slot L o ho (I.ok.frf L hL) hL λz=>I.ok.exfs L z hL;exact⟨hk,⟨L,_,hf,hn,e,hd⟩,ih (λb hb=>hs b (by unfold frs;rw[cb,hf];exact km _ hb)) hr⟩
 exact all X.outer (λ_ hb=>hb) I.ok.funs
theorem Inv.stack(I:Inv X pins σ H s):s.heap.FunFrames X.base X.stack:=by
 rcases I.ok.stk with e|⟨e,hf⟩
 .rw[e];exact I.funs
 .rw[e];obtain⟨m,hn,_⟩:=I.loc;refine .cons (by rw[I.ok.kind];decide) hf hn ?_ I.funs;exact Heap.get?_none_of_le (Xd I.ok.bsz I.ok.above)
theorem Inv.stkSub(I:Inv X pins σ H s):∀b∈frs X.stack,b∈X.env.locals::X.fs:=λb hb=>by
 rcases I.ok.stk with e|⟨e,hf⟩
 .rw[e]at hb;exact km _ hb
 .rw[e]at hb;unfold frs at hb;rw[cb,hf]at hb;exact hb
theorem Inv.stkFree(I:Inv X pins σ H s):∀b∈frs X.stack,H b=a8:=λb hb=>by
 rcases xj.mp (I.stkSub b hb)with e|hb
 .rw[e];exact I.free
 .obtain⟨_,o,ho,_⟩:=I.ok.funs.mem hb;exact I.base.free b o ho (I.ok.frf b hb) λz=>I.ok.exfs b z hb
theorem Inv.step{g':Array hJ}{t':Nat}{d':Drawn}{ch:List ae}(I:Inv X pins σ H s)
  (hch:∀b∈ch,(b∈X.ex\/X.s₀.heap.objs.size<=b)/\b≠X.env.locals/\(∀x c,X.env.cells.lookup x=a5 c->c≠b)/\∀p∈X.pn++pins,p.1≠b)
  (keep:∀b o,b≠X.env.locals->b∉X.fs->b∉ch->s.heap.get? b=a5 o->H b=a8->h'.get? b=a5 o)
  (slot:∀b o,b≠X.env.locals->b∈X.fs->b∉ch->s.heap.get? b=a5 o->H b=a8->∃sl,h'.get? b=a5 { o with slots:=sl }) (free:∀b o,b∉ch->s.heap.get? b=a5 o->H b=a8->H' b=a8)
  (there:∀b o,b∉ch->s.heap.get? b=a5 o->∃o',h'.get? b=a5 o')
  (tups:∀b xs,H b=a5 (.tup xs)->H' b=a5 (.tup xs)) (frzs:∀b o u,H b=a5 (.frz o u)->H' b=a5 (.frz o u)) (tbls:∀b ps,H b=a5 (.tbl ps)->∃more,H' b=a5 (.tbl (ps++more)))
  (ns:∀m,s.heap.Ns X.env.locals m->h'.Ns X.env.locals m) (hok:HOk X.prog X.w H' h') (hg:dJ g') :
  Inv X pins σ H' { s with heap:=h',gens:=g',drawn:=d',toks:=t' }:=by
 have neL:∀b o,X.s₀.heap.get? b=a5 o->b≠X.env.locals:=λb o e=>X7 (Xf (xn e) I.ok.above);have neC:∀b o,X.s₀.heap.get? b=a5 o->b∉X.ex->b∉ch:=λb o e hx hb=>by
  rcases(hch b hb).1 with z|z
  .exact hx z
  .exact absurd (Xf (xn e) z) (Xx _)
 have cellK:∀x c,X.env.cells.lookup x=a5 c->∀v,s.heap.IsCell c v->h'.IsCell c v:=λx c e v ⟨o,ho,hd⟩=>by
  have nch:c∉ch:=λz=>(hch c z).2.2.1 x c e rfl;by_cases hc:c∈X.fs
  .obtain⟨sl,q⟩:=slot c o (I.cne x c e) hc nch ho (I.freeC x c e);exact⟨_,q,hd⟩
  .exact⟨o,keep c o (I.cne x c e) hc nch ho (I.freeC x c e),hd⟩
 refine⟨I.ok,I.os,hg,⟨λb o e n hb hx=>?_,λb o e n hb hx=>?_,λb o e n hx=>?_,λb o e hx=>?_,λb xs e=>tups b xs (I.base.tups b xs e),λb o xs e=>frzs b o xs (I.base.frzs b o xs e),λb ps e=>?_⟩,?_,λx c e=>?_,?_,λx c e=>?_,λp hp=>?_,hok,I.len⟩
 .exact keep b o (neL b o e) hb (neC b o e hx) (I.base.keep b o e n hb hx) (I.base.free b o e n hx)
 .obtain⟨sl,e1⟩:=I.base.slot b o e n hb hx;obtain⟨sl',e2⟩:=slot b _ (neL b o e) hb (neC b o e hx) e1 (I.base.free b o e n hx);exact⟨sl',e2⟩
 .obtain⟨o',e1⟩:=I.base.there b o e hx;exact free b o' (neC b o e hx) e1 (I.base.free b o e n hx)
 .obtain⟨o',e1⟩:=I.base.there b o e hx;exact there b o' (neC b o e hx) e1
 .obtain⟨m1,e1⟩:=I.base.tbls b ps e;obtain⟨m2,e2⟩:=tbls b _ e1;exact⟨m1++m2,by rw[e2,Array.append_assoc]⟩
 .obtain⟨m,hn,hl⟩:=I.loc;refine⟨m,ns m hn,λi x v e1 e2 e3=>?_⟩;obtain⟨u,r,l⟩:=hl i x v e1 e2 e3;refine⟨u,r,?_⟩;rcases l with l|⟨k,c,e,z⟩
  .exact .inl l
  .exact .inr ⟨k,c,e,cellK x c e _ z⟩
 .obtain⟨v,z⟩:=I.cell x c e;exact⟨v,cellK x c e v z⟩
 .obtain⟨m,⟨o,_,_,ho,_⟩,_⟩:=I.loc;exact free _ o (λz=>(hch _ z).2.1 rfl) ho I.free
 .obtain⟨v,o,ho,hd⟩:=I.cell x c e;exact free c o (λz=>(hch c z).2.2.1 x c e rfl) ho (I.freeC x c e)
 .obtain⟨e,n,ne,nf,d⟩:=I.pin p hp;have nch:p.1∉ch:=λz=>(hch p.1 z).2.2.2 p hp rfl;exact⟨keep p.1 p.2 ne nf nch e n,free p.1 p.2 nch e n,ne,nf,d⟩
theorem Inv.un{t':Nat}(I:Inv X pins σ H s)(u:Un X.fs [] H H' s.heap h')(hok:HOk X.prog X.w H' h'):Inv X pins σ H' { s with heap:=h',toks:=t' }:=by
 obtain⟨m,⟨o,es,ep,ho,r⟩,_⟩:=id I.loc;obtain⟨sl,hL⟩:=u.any ho I.free (by simp);exact I.step (g':=s.gens) (d':=s.drawn) (ch:=[]) (λ_ z=>nomatch z) (λb o _ hb _ e n=>u.keep b o e n hb (by simp)) (λb o _ hb _ e n=>u.slot b o e n hb (by simp)) (λb o _ e n=>u.free b o e n (by simp)) (λb o _ e=>u.there b o e (by simp)) u.tups u.frzs u.tbls (λm' hm=>by
  obtain⟨o',es',ep',ho',r'⟩:=hm
  rw[ho]at ho';cases ho'
  exact⟨_,es',ep',hL,r'⟩) hok I.bare
theorem Inv.call{g':Array hJ}{t':Nat}{d':Drawn}{ch:List ae}(I:Inv X pins σ H s)(u:Un (frs X.stack) ch H H' s.heap h')(hok:HOk X.prog X.w H' h')(hg:dJ g')
  (hch:∀b∈ch,(b∈X.ex\/X.s₀.heap.objs.size<=b)/\b≠X.env.locals/\(∀x c,X.env.cells.lookup x=a5 c->c≠b)/\∀p∈X.pn++pins,p.1≠b) :
  Inv X pins σ H' { s with heap:=h',gens:=g',drawn:=d',toks:=t' }:=by
 obtain⟨m,⟨o,es,ep,ho,r⟩,_⟩:=id I.loc;obtain⟨sl,hL⟩:=u.any ho I.free λz=>(hch _ z).2.1 rfl;exact I.step (ch:=ch) hch (λb o hL hb hc e n=>u.keep b o e n (λz=>(xj.mp (I.stkSub b z)).elim hL hb) hc) (λb o _ _ hc e n=>u.any e n hc) (λb o hc e n=>u.free b o e n hc) (λb o hc e=>u.there b o e hc) u.tups u.frzs u.tbls (λm' hm=>by
  obtain⟨o',es',ep',ho',r'⟩:=hm
  rw[ho]at ho';cases ho'
  exact⟨_,es',ep',hL,r'⟩) hok hg
theorem Inv.turned{t':Nat}{it:ae}(I:Inv X pins σ H s)(k:∀b o,b≠it->s.heap.get? b=a5 o->h'.get? b=a5 o)(hn:H it=a8)(hL:it≠X.env.locals)
  (h1:it∈X.ex\/X.s₀.heap.objs.size<=it) (h2:∀x c,X.env.cells.lookup x=a5 c->c≠it) (h3:∀p∈X.pn++pins,p.1≠it):Inv X pins σ H { s with heap:=h',toks:=t' }:=by
 have nit:∀b u,H b=a5 u->b≠it:=λb u e z=>by rw[z,hn]at e;cases e
 refine I.step (g':=s.gens) (d':=s.drawn) (ch:=[it]) (λb hb=>?_) (λb o _ _ hc e _=>k b o (λz=>hc (by simp[z])) e) (λb o _ _ hc e _=>⟨o.slots,k b o (λz=>hc (by simp[z])) e⟩) (λ_ _ _ _ n=>n)
  (λb o hc e=>⟨o,k b o (λz=>hc (by simp[z])) e⟩) (λ_ _ e=>e) (λ_ _ _ e=>e) (λb ps e=>⟨#[],by rw[e];simp⟩) (λm hm=>?_) (λb u e=>?_) I.bare
 .have e:b=it:=by simpa using hb
  subst e;exact⟨h1,hL,h2,h3⟩
 .obtain⟨o,es,ep,ho,r⟩:=hm;exact⟨o,es,ep,k _ o (bT hL) ho,r⟩
 .refine(I.hok b u e).stay (λc v hc q=>k c v ?_ q) (λ_ q=>q) (λ_ _ q=>q) λ_ _ _ q=>q;rcases hc with z|z
  .rw[z];exact nit b u e
  .exact nit c _ z
theorem Inv.tok(I:Inv X pins σ H s)(t:Nat):Inv X pins σ H { s with toks:=t }:=I.un (h':=s.heap) (t':=t) Un.refl I.hok
theorem Inv.kept{t':Nat}(I:Inv X pins σ H s)(k:∀b u,s.heap.get? b=a5 u->h'.get? b=a5 u):Inv X pins σ H { s with heap:=h',toks:=t' }:=I.un (Un.kept k) (I.hok.kept k)
theorem Inv.laid{a:ae}{o:HO}{t':Nat}(I:Inv X pins σ H s)(k:∀b u,s.heap.get? b=a5 u->h'.get? b=a5 u)(hp:s.heap.objs.size<=a)(new:jg X.prog X.w (upd H a o) h' a o) :
  Inv X pins σ (upd H a o) { s with heap:=h',toks:=t' }:=I.un (Un.laid k hp (I.hok.fresh hp)) (I.hok.laid k hp new)
theorem Inv.write{x e:ae}{o:HO}{t':Nat}(I:Inv X pins σ H s)(mu:Mut (H x))(he:e=x\/H e=a5 (.own x))(k:∀b u,b≠e->s.heap.get? b=a5 u->h'.get? b=a5 u)(heo:∃u,h'.get? e=a5 u)
  (new:jg X.prog X.w (upd H x o) h' x o):Inv X pins σ (upd H x o) { s with heap:=h',toks:=t' }:=I.un (Un.write mu he k heo) (I.hok.write mu he k heo new)
theorem Inv.pins_of{pins':k85}(I:Inv X pins σ H s)(h:∀p∈pins',s.heap.get? p.1=a5 p.2/\H p.1=a8/\p.1≠X.env.locals/\p.1∉X.fs/\∀v,p.2.data≠.cell v):Inv X pins' σ H s :=
 ⟨I.ok,I.os,I.bare,I.base,I.loc,I.cell,I.free,I.freeC,λp hp=>(Te.mp hp).elim (λz=>I.pin p (Pr _ z)) (h p),I.hok,I.len⟩
theorem Mw{N:List ah}(hN:N.Nodup){i j:Nat}{x:ah}(a:N[i]?=a5 x)(b:N[j]?=a5 x):i=j:=by obtain⟨h1,e1⟩:=X3.mp a;obtain⟨h2,e2⟩:=X3.mp b;exact(cK hN).mp (e1.trans e2.symm)
theorem Uz{M:gv}{A:aC}{E:k84}{i:Nat}{x:ah}{v:V}{u:aa}{Q:Unit->af->Prop}(I:Inv X pins σ H s)(hN:X.N.Nodup)(hi:X.N[i]?=a5 x)(hx:Loc X.env.scope x)(r:RelV v u)
  (h:∀s',Inv X pins (σ.set i (a5 v)) H s'->(∃a,cT a s.heap s'.heap/\(a=X.env.locals\/X.env.cells.lookup x=a5 a))->Q () s') (hf:X.fn x=a7\/X.env.scope.names.lookup x=a5 .local:=by first|exact .inl rfl|exact .inr rfl|assumption):ax M A (storeName X.env x u) Q E s:=by
 obtain⟨m,hn,hl⟩:=id I.loc;have hcls:(X.env.scope.kind==.class || (X.env.scope.kind==.module&&X.env.locals != X.env.globals))=a6:=by rw[I.ok.kind];rfl
 have hiσ:i<σ.length:=by rw[I.len];exact(X3.mp hi).1
 have cne:=I.cne;have tracked:∀{a:ae}{h':aG},(∃o,s.heap.get? a=a5 o/\H a=a8)->cT a s.heap h'->HOk X.prog X.w H h':=λ{a h'} ha hs b ob e=>by
  obtain⟨_,_,hfree⟩:=ha;refine(I.hok b ob e).stay (λc w' hc q=>(hs.2 c ?_).trans q) (λ_ q=>q) (λ_ _ q=>q) λ_ _ _ q=>q;rintro rfl;rcases hc with rfl|hc
  .rw[hfree]at e;cases e
  .rw[hfree]at hc;cases hc
 rcases hx with hk|hk
 .refine wpAny_storeName_local hk hn (λh' hn' hs=>?_) hcls;obtain⟨oL,_,_,hoL,_⟩:=id hn;refine h _ ⟨I.ok,I.os,I.bare,⟨λb o e n hb hx=>?_,λb o e n hb hx=>?_,I.base.free,λb o e hx=>?_,I.base.tups,I.base.frzs,I.base.tbls⟩,⟨_,hn',λj y v' e1 e2 e3=>?_⟩,λy c e=>?_,I.free,I.freeC,λp hp=>?_,tracked ⟨oL,hoL,I.free⟩ hs,by simpa using I.len⟩ ⟨_,hs,.inl rfl⟩
  .exact(hs.2 b (X7 (Xf (xn e) I.ok.above))).trans (I.base.keep b o e n hb hx)
  .obtain⟨sl,e1⟩:=I.base.slot b o e n hb hx;exact⟨sl,(hs.2 b (X7 (Xf (xn e) I.ok.above))).trans e1⟩
  .obtain⟨o',e1⟩:=I.base.there b o e hx;exact⟨o',(hs.2 b (X7 (Xf (xn e) I.ok.above))).trans e1⟩
  .by_cases hj:j=i
   .subst hj;rw[hi]at e1;cases e1;rw[Tz hiσ]at e2;cases e2;exact⟨u,r,.inl ⟨hk,by simp⟩⟩
   .rw[Tf (bT hj)]at e2;obtain⟨u',r',q⟩:=hl j y v' e1 e2 e3;refine⟨u',r',?_⟩;rcases q with ⟨k,e⟩|⟨k,c,e,z⟩
    .refine .inl ⟨k,?_⟩;have:y≠x:=λe=>hj (Mw hN e1 (e▸hi));simp[this,e]
    .exact .inr ⟨k,c,e,z.sameBut hs (cne y c e)⟩
  .obtain⟨w',z⟩:=I.cell y c e;exact⟨w',z.sameBut hs (cne y c e)⟩
  .obtain⟨e,n,ne,nf,d⟩:=I.pin p hp;exact⟨(hs.2 p.1 ne).trans e,n,ne,nf,d⟩
 .have hfn:X.fn x=a7:=by
   rcases hf with z|z
   .exact z
   .rw[z]at hk;cases hk
  obtain⟨c,hc⟩:=I.ok.has x (.inl hk);obtain⟨w',z⟩:=I.cell x c hc;refine wpAny_storeName_cell I.ok.kind hk hc z (λh' hc' hs=>?_);obtain⟨oc,hoc,hocd⟩:=id z;refine h { s with heap:=h' } ⟨I.ok,I.os,I.bare,⟨λb o e n hb hx=>?_,λb o e n hb hx=>?_,I.base.free,λb o e hx=>?_,I.base.tups,I.base.frzs,I.base.tbls⟩,⟨m,hn.sameBut hs (bT (cne x c hc)),λj y v' e1 e2 e3=>?_⟩,λy c' e=>?_,I.free,I.freeC,λp hp=>?_,tracked ⟨oc,hoc,I.freeC x c hc⟩ hs,by simpa using I.len⟩ ⟨c,hs,.inr hc⟩
  .exact(hs.2 b (X7 (Xf (xn e) (I.ok.cab x c hfn hc)))).trans (I.base.keep b o e n hb hx)
  .obtain⟨sl,e1⟩:=I.base.slot b o e n hb hx;exact⟨sl,(hs.2 b (X7 (Xf (xn e) (I.ok.cab x c hfn hc)))).trans e1⟩
  .obtain⟨o',e1⟩:=I.base.there b o e hx;exact⟨o',(hs.2 b (X7 (Xf (xn e) (I.ok.cab x c hfn hc)))).trans e1⟩
  .by_cases hj:j=i
   .subst hj;rw[hi]at e1;cases e1;rw[Tz hiσ]at e2;cases e2;exact⟨u,r,.inr ⟨.inl hk,c,hc,hc'⟩⟩
   .rw[Tf (bT hj)]at e2;obtain⟨u',r',q⟩:=hl j y v' e1 e2 e3;refine⟨u',r',?_⟩;rcases q with q|⟨k,c',e,z'⟩
    .exact .inl q
    .refine .inr ⟨k,c',e,z'.sameBut hs ?_⟩;rintro rfl;exact hj (Mw hN e1 (I.ok.inj _ _ _ e hc▸hi))
  .by_cases hcc:c'=c
   .subst hcc;exact⟨_,hc'⟩
   .obtain⟨w2,z2⟩:=I.cell y c' e;exact⟨w2,z2.sameBut hs hcc⟩
  .obtain⟨e,n,ne,nf,d⟩:=I.pin p hp;refine⟨(hs.2 p.1 ?_).trans e,n,ne,nf,d⟩;intro q;rw[q,hoc]at e;have q':oc=p.2:=aw e;exact d w' (by rw[<-q'];exact hocd)
theorem Kh{M:gv}{A:aC}{E:k84}{i:Nat}{x:ah}{v:V}{u:aa}{Q:Unit->af->Prop}(I:Inv X pins σ H s)(hN:X.N.Nodup)(hi:X.N[i]?=a5 x)(hx:Loc X.env.scope x)(r:RelV v u)
  (h:∀s',Inv X pins (σ.set i (a5 v)) H s'->Q () s') (hf:X.fn x=a7\/X.env.scope.names.lookup x=a5 .local:=by first|exact .inl rfl|exact .inr rfl|assumption):ax M A (storeName X.env x u) Q E s :=
 Uz I hN hi hx r (λs' I' _=>h s' I') hf
theorem Inv.call'{s':af}{ch:List ae}(I:Inv X pins σ H s)(ho:s'.os=s.os)(u:Un (frs X.stack) ch H H' s.heap s'.heap)(hok:HOk X.prog X.w H' s'.heap)(hg:dJ s'.gens)
  (hch:∀b∈ch,(b∈X.ex\/X.s₀.heap.objs.size<=b)/\b≠X.env.locals/\(∀x c,X.env.cells.lookup x=a5 c->c≠b)/\∀p∈X.pn++pins,p.1≠b):Inv X pins σ H' s':=by
 obtain⟨h',g',d',t',o'⟩:=s';have e:o'=s.os:=ho;subst e;exact I.call (g':=g') (t':=t') (d':=d') u hok hg hch
end
abbrev XK:=aa->Option ae->Hp->Prop
noncomputable abbrev St:=List (Option V)
abbrev VK:=V->Hp->Prop
abbrev TE:=St->Hp->VK->Prop
abbrev TT:=St->Hp->(Bool->Hp->Prop)->Prop
abbrev TA:=St->Hp->(List V->Hp->Prop)->Prop
structure Ends where
 nx:St->Hp->Prop
 rt:VK
 bk:St->Hp->Prop:=λ_ _=>False
 ct:St->Hp->Prop:=λ_ _=>False
abbrev TS:=Ends->St->Hp->Prop
def EP(X:Cx)(pins:k85)(σ:St)(Q:VK)(u:aa)(s':af):Prop:=∃v H',Inv X pins σ H' s'/\RelV v u/\Q v H'
def TP(X:Cx)(pins:k85)(σ:St)(Q:Bool->Hp->Prop)(b:Bool)(s':af):Prop:=∃H',Inv X pins σ H' s'/\Q b H'
def AP(X:Cx)(pins:k85)(σ:St)(Q:List V->Hp->Prop)(us:List aa)(s':af):Prop:=∃vs H',Inv X pins σ H' s'/\Vals vs us/\Q vs H'
def Ext(X:Cx)(H1 H2:Hp)(s':af):Prop:=∀b,H2 b=H1 b\/∃x o v,X.env.cells.lookup x=a5 b/\X.fn x=a7/\H2 b=a5 (.frz o (.own 0))/\s'.heap.get? b=a5 o/\o.data=.cell v
theorem Ext.refl{X:Cx}{H:Hp}{s':af}:Ext X H H s':=λ_=>.inl rfl
def SP(X:Cx)(pins:k85)(D:Ends)(f:Flow)(s':af):Prop :=
 match f with
 |.next=>∃σ' H',Inv X pins σ' H' s'/\D.nx σ' H'
 |.brk=>∃σ' H',Inv X pins σ' H' s'/\D.bk σ' H'
 |.cont=>∃σ' H',Inv X pins σ' H' s'/\D.ct σ' H'
 |.ret u=>∃v σ' H' H2,Inv X pins σ' H' s'/\RelV v u/\Ext X H' H2 s'/\D.rt v H2
def PE(X:Cx)(e:aj)(t:TE):Prop :=
 ∀(pins:k85) (s:af) (σ:St) (H:Hp) (Q:VK),Inv X pins σ H s->t σ H Q->ax (au X.prog X.w) X.A (aE e X.env) (EP X pins σ Q) X.xe s
def PT(X:Cx)(e:aj)(t:TT):Prop :=
 ∀(pins:k85) (s:af) (σ:St) (H:Hp) (Q:Bool->Hp->Prop),Inv X pins σ H s->t σ H Q->ax (au X.prog X.w) X.A (fG e X.env (aE e X.env)) (TP X pins σ Q) X.xe s
def PW(X:Cx)(e:aj)(t:TT):Prop :=
 ∀(whole:jH aa)(pins:k85) (s:af) (σ:St) (H:Hp) (Q:Bool->Hp->Prop),Inv X pins σ H s->t σ H Q->ax (au X.prog X.w) X.A (fG e X.env whole) (TP X pins σ Q) X.xe s
def PA(X:Cx)(es:List aj)(t:TA):Prop :=
 ∀(pos:aO)(pins:k85) (s:af) (σ:St) (H:Hp) (Q:List V->Hp->Prop),Inv X pins σ H s->t σ H Q->ax (au X.prog X.w) X.A (spliced (aR pos (a9 es X.env))) (AP X pins σ Q) X.xe s
def PS(X:Cx)(st:aN)(t:TS):Prop :=
 ∀(pins:k85) (s:af) (σ:St) (H:Hp) (D:Ends),Inv X pins σ H s->t D σ H->ax (au X.prog X.w) X.A (exec st X.env) (SP X pins D) X.xe s
def PSs(X:Cx)(st:List aN)(t:TS):Prop :=
 ∀(pins:k85) (s:af) (σ:St) (H:Hp) (D:Ends),Inv X pins σ H s->t D σ H->ax (au X.prog X.w) X.A (execs st X.env) (SP X pins D) X.xe s
theorem thn{α:Type}{t:jH α}{Q Q':α->af->Prop}{M:gv}{A:aC}{E:k84}{s:af}(h:ax M A t Q E s)(hQ:∀a s,Q a s->Q' a s):ax M A t Q' E s:=aW h hQ λ_ _ x=>x
section
variable{X:Cx}
theorem bin{a b:aj}{ta tb:TE}(ha:PE X a ta)(hb:PE X b tb){pins:k85}{s:af}{σ:St}{H:Hp}{R:V->V->Hp->Prop}(I:Inv X pins σ H s)(h:ta σ H λx H1=>tb σ H1 λy H2=>R x y H2)
  {α:Type} {Q:α->af->Prop} {f:aa->aa->jH α}
  (hf:∀v u s2 x y H2,Inv X pins σ H2 s2->RelV x v->RelV y u->R x y H2->ax (au X.prog X.w) X.A (f v u) Q X.xe s2) :
  ax (au X.prog X.w) X.A (aE a X.env) (λv s₁=>ax (au X.prog X.w) X.A (aE b X.env) (λu s₂=>ax (au X.prog X.w) X.A (f v u) Q X.xe s₂) X.xe s₁) X.xe s:=by
 refine thn (ha pins s σ H _ I h) λv s1 ⟨x,H1,I1,r1,q1⟩=>?_;refine thn (hb pins s1 σ H1 _ I1 q1) λu s2 ⟨y,H2,I2,r2,q2⟩=>?_;exact hf v u s2 x y H2 I2 r1 r2 q2
def jkd(i:Nat):TE:=λσ H Q=>∃v,σ[i]?=a5 (a5 v)/\Q v H
def tC(v:V):TE:=λ_ H Q=>Q v H
theorem J7 {i:Nat} {x:ah} {pos:aO} (hN:X.N[i]?=a5 x) (hv:Vis X.env.scope x) (hd:(x==k87)=a6:=by decide) (hcd:(x==k88)=a6:=by decide):PE X (.Name x pos) (jkd i):=by
 intro pins s σ H Q I h;obtain⟨v,e,h⟩:=h;obtain⟨m,hn,hl⟩:=I.loc;obtain⟨u,r,l⟩:=hl i x v hN e hv;have fin:EP X pins σ Q u s:=⟨v,H,I,r,h⟩
 rcases l with ⟨hk,hm⟩|⟨hk,c,hc,hcell⟩
 .exact k6 (wpAny_loadName_local I.ok.kind hk hn hm fin) hd
 .rcases hk with hk|hk
  .exact k6 (wpAny_loadName_cell I.ok.kind hk hc hcell fin) hd
  .exact k6 (wpAny_loadName_free I.ok.kind hk hc hcell fin hcd) hd
theorem jex{i j pos}:PE X (.Constant (.int i) j pos) (tC (.int i)):=λ_ _ _ H _ I h=>wpAny_Constant_int ⟨.int i,H,I.tok _,⟨_,rfl⟩,h⟩
theorem jin{b j pos}:PE X (.Constant (.bool b) j pos) (tC (.bl b)):=λ_ _ _ H _ I h=>Constant_bool ⟨.bl b,H,I,rfl,h⟩
theorem j4q{x j pos}:PE X (.Constant (.str x) j pos) (tC (.str x)):=λ_ _ _ H _ I h=>Calls.Constant_str ⟨.str x,H,I.tok _,⟨_,rfl⟩,h⟩
def Gl(X:Cx)(x:ah):Prop:=X.env.kindOf x=a5 .globalImplicit
theorem Zg{E:k84}{pins:k85}{s:af}{σ:St}{H:Hp}{x:ah}{u:aa}{pos:aO}{Q:k84}(I:Inv X pins σ H s)(hg:Gl X x)(hm:X.mg x=a5 u)(h:Q u s)
  (hd:(x==k87)=a6:=by decide):ax (au X.prog X.w) X.A (aE (.Name x pos) X.env) Q E s :=
 fU I.ok.kind hg (Calls.loadGlobal_global (by rw[I.ok.glob];exact I.mod.glob.keeps I.bk) hm h) hd
theorem Zy{E:k84}{pins:k85}{s:af}{σ:St}{H:Hp}{x:ah}{u:aa}{pos:aO}{Q:k84}(I:Inv X pins σ H s)(hg:Gl X x)(hm:X.mg x=a8)(hv:bj x=a5 u)(h:Q u s)
  (hn:x ≠ "__name__":=by decide) (hd:(x==k87)=a6:=by decide):ax (au X.prog X.w) X.A (aE (.Name x pos) X.env) Q E s:=by
 obtain⟨mb,h1,h2⟩:=I.mod.blt;exact fU I.ok.kind hg (Calls.loadGlobal_builtin (by rw[I.ok.glob];exact I.mod.glob.keeps I.bk) hm (by rw[I.ok.blt];exact h1.keeps I.bk) ((h2 x hn).trans hv) h) hd
theorem Ri {x:ah} {v:V} {u:aa} {pos:aO} (hg:Gl X x) (hm:X.mg x=a5 u) (r:RelV v u) (hd:(x==k87)=a6:=by decide):PE X (.Name x pos) (tC v) :=
 λ_ _ _ H _ I h=>Zg I hg hm ⟨v,H,I,r,h⟩ hd
theorem jbs {x:ah} {v:V} {u:aa} {pos:aO} (hg:Gl X x) (hm:X.mg x=a8) (hv:bj x=a5 u) (r:RelV v u) (hn:x ≠ "__name__":=by decide) (hd:(x==k87)=a6:=by decide):PE X (.Name x pos) (tC v) :=
 λ_ _ _ H _ I h=>Zy I hg hm hv ⟨v,H,I,r,h⟩ hn hd
variable{a b:aj}{ta tb:TE}{pos:aO}
def PC(X:Cx)(op:gw)(a b:aj)(t:TE):Prop :=
 ∀(pins:k85) (s:af) (σ:St) (H:Hp) (Q:VK),Inv X pins σ H s->t σ H Q ->
  ax (au X.prog X.w) X.A (aE a X.env) (λv s₁=>ax (au X.prog X.w) X.A (aE b X.env) (λu s₂=>ax (au X.prog X.w) X.A (bp op v u) (EP X pins σ Q) X.xe s₂) X.xe s₁) X.xe s
theorem Ea(b:aj){op:gw}(h:op≠.In)(h2:op≠.NotIn):aM op b=a6:=by
 have e1:(op==CmpOp.In)=a6:=by cases op<;>first|rfl|exact absurd rfl h
 have e2:(op==CmpOp.NotIn)=a6:=by cases op<;>first|rfl|exact absurd rfl h2
 cases b<;>simp[aM,e1,e2]
def jkk(ta:TE):TE:=λσ H Q=>ta σ H λx H1=>Q (.bl (decide (x=.non))) H1
theorem RelV.none_iff{x:V}{v:aa}(r:RelV x v):(v==aI)=decide (x=.non):=by
 cases x with
 |non=>cases r;rfl
 |bl _=>cases r;rfl
 |int _=>obtain⟨t,rfl⟩:=r;rfl
 |str _=>obtain⟨t,rfl⟩:=r;rfl
 |byt _=>obtain⟨t,rfl⟩:=r;rfl
 |flt _=>obtain⟨t,rfl⟩:=r;rfl
 |ref _=>cases r;rfl
 |ty _=>cases r;rfl
theorem j4s{j pos'}(ha:PE X a ta):PC X .Is a (.Constant .none j pos') (jkk ta):=by intro pins s σ H Q I h;refine thn (ha pins s σ H _ I h) λv s1 ⟨x,H1,I1,r1,q1⟩=>?_;exact Constant_none (is_none_gen ⟨.bl _,H1,I1,by rw[r1.none_iff];rfl,q1⟩)
def tB(t:TE):TT:=λσ H Q=>t σ H λx H1=>∃c,x=.bl c/\Q c H1
theorem jey{op:gw}{t:TE}(h:PC X op a b t)(h1:aM op b=a6:=by first|exact Ea _ (by decide) (by decide)|rfl):PE X (.Compare a [op] [b] pos) t:=λpins s σ H Q I hw=>lU (h pins s σ H Q I hw) h1
theorem jer{op:gw}{t:TE}(h:PC X op a b t)(h1:aM op b=a6:=by first|exact Ea _ (by decide) (by decide)|rfl):PT X (.Compare a [op] [b] pos) (tB t):=by intro pins s σ H Q I hw;refine j3 (thn (h pins s σ H _ I hw) λv s1 h1=>thn h1 λu s2 h2=>thn h2 λc s3 ⟨x,H1,I1,r1,q1⟩=>?_) h1;obtain⟨d,rfl,q⟩:=q1;cases r1;exact bW ⟨H1,I1,q⟩
theorem jep{e:aj}{t:TE}(h:PE X e t)(he:∀whole,fG e X.env whole=(do let v <-whole;kr e.pos;iM [v] (truthy v)):=by intro _;rfl):PT X e (tB t):=by intro pins s σ H Q I hw;refine isTrue_plain (thn (h pins s σ H _ I hw) λv s1 ⟨x,H1,I1,r1,q1⟩=>?_) (he _);obtain⟨d,rfl,q⟩:=q1;cases r1;exact bW ⟨H1,I1,q⟩
variable{tA tB':TT}{rest:List aj}
def tOr(t u:TT):TT:=λσ H Q=>t σ H λc H1=>if c=a7 then Q a7 H1 else u σ H1 Q
def jkh(t:TT):TT:=λσ H Q=>t σ H λc H1=>Q (!c) H1
theorem jeo(ha:PT X a tA):PW X (.BoolOp .Or [a] pos) tA:=by
 intro wh pins s σ H Q I h;refine isTrue_or (thn (ha pins s σ H Q I h) λc s1 e=>?_);cases c with
 |false=>exact isTrue_or_nil e
 |true=>exact e
theorem jil(ha:PT X a tA)(hb:PW X (.BoolOp .Or (b::rest) pos) tB'):PW X (.BoolOp .Or (a::b::rest) pos) (tOr tA tB'):=by
 intro wh pins s σ H Q I h;refine isTrue_or (thn (ha pins s σ H _ I h) λc s1 ⟨H1,I1,q1⟩=>?_);cases c with
 |true=>exact⟨H1,I1,q1⟩
 |false=>exact hb wh pins s1 σ H1 Q I1 q1
theorem jeq(ha:PT X a tA):PT X (.UnaryOp .Not a pos) (jkh tA):=by intro pins s σ H Q I h;exact isTrue_not (ha pins s σ H (λc H1=>Q (!c) H1) I h)
def jia(ta tb:TE):TE:=λσ H Q=>ta σ H λx H1=>∃c,x=.bl c/\if c=a7 then tb σ H1 Q else Q (.bl a6) H1
theorem j4r{op}{t:TE}(h:PE X a t):PE X (.BoolOp op [a] pos) t:=λpins s σ H Q I hw=>BoolOp_one (h pins s σ H Q I hw)
theorem jez(ha:PE X a ta)(hb:PE X (.BoolOp .And (b::rest) pos) tb):PE X (.BoolOp .And (a::b::rest) pos) (jia ta tb):=by
 intro pins s σ H Q I h;refine BoolOp_and (thn (ha pins s σ H _ I h) λv s1 ⟨x,H1,I1,r1,q1⟩=>?_);obtain⟨c,rfl,q1⟩:=q1;cases r1;refine bW ?_;cases c with
 |true=>exact hb pins s1 σ H1 Q I1 q1
 |false=>exact⟨.bl a6,H1,I1,rfl,q1⟩
end
def SqL(K:k83)(H:Hp)(a:ae)(xs:List V):Prop :=
 Rd H a (.lst xs) \/
  ∃(o:cF)(its:Array aa)(n:Nat),K.lookup a=a5 o/\o.cls=.type "list"/\o.dict=a8/\o.data=.seq its n/\its.size<=ak/\Vals xs its.toList
def SqT(K:k83)(H:Hp)(a:ae)(xs:List V):Prop :=
 Rd H a (.tup xs) \/
  ∃(o:cF)(its:Array aa)(n:Nat),K.lookup a=a5 o/\o.cls=.type "tuple"/\o.dict=a8/\o.data=.seq its n/\its.size<=ak/\Vals xs its.toList
noncomputable def jla:aa->Option V
 |.none=>a5 .non
 |.bool b=>a5 (.bl b)
 |.int i _=>a5 (.int i)
 |.str x _=>a5 (.str x)
 |.bytes b _=>a5 (.byt b)
 |.float b _=>a5 (.flt b)
 |.ref a=>a5 (.ref a)
 |.type n=>a5 (.ty n)
 |_=>a8
theorem RelV.abs{x:V}{u:aa}(r:RelV x u):jla u=a5 x:=by
 cases x with
 |non=>cases r;rfl
 |bl _=>cases r;rfl
 |int _=>obtain⟨t,rfl⟩:=r;rfl
 |str _=>obtain⟨t,rfl⟩:=r;rfl
 |byt _=>obtain⟨t,rfl⟩:=r;rfl
 |flt _=>obtain⟨t,rfl⟩:=r;rfl
 |ref _=>cases r;rfl
 |ty _=>cases r;rfl
theorem RelV.inj{x y:V}{u:aa}(r:RelV x u)(q:RelV y u):x=y:=aw (r.abs.symm.trans q.abs)
theorem Vals.inj:∀{xs ys:List V}{us:List aa},Vals xs us->Vals ys us->xs=ys
 |_,_,_,.nil,.nil=>rfl
 |_,_,_,.cons r t,.cons r' t'=>by rw[r.inj r',Vals.inj t t']
section
variable{X:Cx}{pins:k85}{σ:St}{H:Hp}{s:af}{a:ae}{xs ys:List V}
theorem SqL.of{K:k83}(h:H a=a5 (.lst xs)):SqL K H a xs:=.inl (.inl h)
theorem Inv.list(I:Inv X pins σ H s)(h:SqL X.K H a xs):∃its:List aa,Vals xs its/\PlainL s.heap a its.toArray/\xs.length<=ak:=by
 rcases h with h|⟨o,its,n,hk,hc,hd,hs,hz,r⟩
 .obtain⟨z,its,n,r,e⟩:=h.ok I.hok;exact⟨its,r,⟨_,n,e,rfl,rfl,rfl⟩,z⟩
 .refine⟨its.toList,r,⟨o,n,I.kIn a o hk,hc,hd,by simpa using hs⟩,?_⟩;have e:=r.length;simp only[Tu]at e;omega
theorem Inv.tuple(I:Inv X pins σ H s)(h:SqT X.K H a xs):∃its:List aa,Vals xs its/\gx s.heap a its.toArray/\xs.length<=ak:=by
 rcases h with h|⟨o,its,n,hk,hc,hnd,hs,hz,r⟩
 .obtain⟨z,its,r,p,_⟩:=h.ok I.hok;exact⟨its,r,p,z⟩
 .refine⟨its.toList,r,⟨o,I.kIn a o hk,hc,n,by simpa using hs⟩,?_⟩;have e:=r.length;simp only[Tu]at e;omega
theorem Inv.tupD(I:Inv X pins σ H s)(h:SqT X.K H a xs):Zm s.heap a:=by
 rcases h with h|⟨o,its,n,hk,hc,hnd,hs,hz,r⟩
 .obtain⟨z,its,r,p,q⟩:=h.ok I.hok;exact q
 .intro o' e;rw[I.kIn a o hk]at e;cases e;exact hnd
theorem Inv.list_inj(I:Inv X pins σ H s)(h:SqL X.K H a xs)(h':SqL X.K H a ys):xs=ys:=by
 obtain⟨its,r,⟨o,n,e,_,_,d⟩,_⟩:=I.list h;obtain⟨its',r',⟨o',n',e',_,_,d'⟩,_⟩:=I.list h';rw[e]at e';cases e';rw[d]at d';injection d' with d1 _;have:its=its':=by simpa using congrArg ki d1
 subst this;exact r.inj r'
theorem Inv.tuple_inj(I:Inv X pins σ H s)(h:SqT X.K H a xs)(h':SqT X.K H a ys):xs=ys:=by
 obtain⟨its,r,⟨o,e,_,n,d⟩,_⟩:=I.tuple h;obtain⟨its',r',⟨o',e',_,n',d'⟩,_⟩:=I.tuple h';rw[e]at e';cases e';rw[d]at d';injection d' with d1 _;have:its=its':=by simpa using congrArg ki d1
 subst this;exact r.inj r'
end
noncomputable abbrev Cx.wish(X:Cx)(E:k84):Cx:={ X with xe:=E }
noncomputable abbrev Cx.nox(X:Cx):Cx:=X.wish λ_ _=>False
theorem Cx.Ok.wish{X:Cx}(ok:X.Ok)(E:k84):(X.wish E).Ok :=
 ⟨ok.mod,ok.kind,ok.glob,ok.blt,ok.above,ok.inj,ok.has,ok.cab,ok.hd,ok.frames,ok.stk,ok.exf,ok.bs,ok.bsz,ok.noex,ok.exfs,ok.funs,ok.frf⟩
theorem Cx.Ok.unwish{X:Cx}{E:k84}(ok:(X.wish E).Ok):X.Ok :=
 ⟨ok.mod,ok.kind,ok.glob,ok.blt,ok.above,ok.inj,ok.has,ok.cab,ok.hd,ok.frames,ok.stk,ok.exf,ok.bs,ok.bsz,ok.noex,ok.exfs,ok.funs,ok.frf⟩
section
variable{X:Cx}{pins:k85}{σ:St}{H:Hp}{s:af}{E:k84}
theorem Inv.wish(I:Inv X pins σ H s)(E:k84):Inv (X.wish E) pins σ H s:=⟨I.ok.wish E,I.os,I.bare,I.base,I.loc,I.cell,I.free,I.freeC,I.pin,I.hok,I.len⟩
theorem Inv.unwish(I:Inv (X.wish E) pins σ H s):Inv X pins σ H s:=⟨I.ok.unwish,I.os,I.bare,I.base,I.loc,I.cell,I.free,I.freeC,I.pin,I.hok,I.len⟩
theorem SP.unwish{D:Ends}{f:Flow}{s':af}(h:SP (X.wish E) pins D f s'):SP X pins D f s':=by
 cases f with
 |next=>obtain⟨σ',H',I,q⟩:=h;exact⟨σ',H',I.unwish,q⟩
 |brk=>obtain⟨σ',H',I,q⟩:=h;exact⟨σ',H',I.unwish,q⟩
 |cont=>obtain⟨σ',H',I,q⟩:=h;exact⟨σ',H',I.unwish,q⟩
 |ret u=>obtain⟨v,σ',H',H2,I,r,x,q⟩:=h;exact⟨v,σ',H',H2,I.unwish,r,x,q⟩
theorem PSs.nox{st:List aN}{t:TS}(h:PSs X.nox st t):PSs X st t:=λpins s σ H D I hw =>aW (h pins s σ H D (I.wish _) hw) (λ_ _ q=>q.unwish) λ_ _ z=>aY z
end
section
variable{X:Cx}{st:aN}{rest:List aN}{t u:TS}{e:aj}{te:TE}{pos:aO}
def ji6:TS:=λD σ H=>D.nx σ H
def jkf(t u:TS):TS:=λD σ H=>t { D with nx:=u D } σ H
theorem j1h:PSs X [] ji6:=λ_ _ σ H _ I h=>gC ⟨σ,H,I,h⟩
theorem Vj(h1:PS X st t)(h2:PSs X rest u):PSs X (st::rest) (jkf t u):=by
 intro pins s σ H D I h;refine kQ (thn (h1 pins s σ H { D with nx:=u D } I h) λf s1 q=>?_);cases f with
 |next =>obtain⟨σ',H',I',q⟩:=q;exact h2 pins s1 σ' H' D I' q
 |ret v=>exact q
 |brk=>exact q
 |cont=>exact q
theorem j1g(h1:PS X st t):PSs X [st] t:=by
 intro pins s σ H D I h;refine kQ (thn (h1 pins s σ H D I h) λf s1 q=>?_);cases f with
 |next=>exact gC q
 |ret v=>exact q
 |brk=>exact q
 |cont=>exact q
theorem Inv.quiet{pins:k85}{σ:St}{H:Hp}{s:af}(I:Inv X pins σ H s):interactive X.env=a6:=by simp[interactive,I.ok.kind]
def ji7(te:TE):TS:=λD σ H=>te σ H λ_ H1=>D.nx σ H1
theorem Yv(he:PE X e te)(hs:aP e a8 pos.line X.env=pure a6:=by rfl):PS X (.Expr e pos) (ji7 te):=by intro pins s σ H D I h;exact wpAny_Expr_any (thn (he pins s σ H _ I h) λv s1 ⟨x,H1,I1,r1,q1⟩=>⟨σ,H1,I1,q1⟩) I.quiet hs
def jkg(te:TE):TS:=λD σ H=>te σ H D.rt
theorem Ow(he:PE X e te):PS X (.Return (a5 e) pos) (jkg te):=by intro pins s σ H D I h;exact wpAny_Return_some (thn (he pins s σ H _ I h) λv s1 ⟨x,H1,I1,r1,q1⟩=>⟨x,σ,H1,H1,I1,r1,.refl,q1⟩)
def jkl(c:TT)(t u:TS):TS:=λD σ H=>c σ H λb H1=>if b=a7 then t D σ H1 else u D σ H1
theorem jim{c:aj}{a b:List aN}{tc:TT}(hc:PT X c tc)(ha:PSs X a t)(hb:PSs X b u):PS X (.If c a b pos) (jkl tc t u):=by
 intro pins s σ H D I h;refine wpAny_If (thn (hc pins s σ H _ I h) λd s1 ⟨H1,I1,q1⟩=>?_);cases d with
 |true=>exact ha pins s1 σ H1 D I1 q1
 |false=>exact hb pins s1 σ H1 D I1 q1
end
abbrev TG:=V->St->Hp->(St->Hp->Prop)->Prop
abbrev TGs:=List V->St->Hp->(St->Hp->Prop)->Prop
def PG(X:Cx)(target:aj)(t:TG):Prop :=
 ∀(pins:k85) (s:af) (σ:St) (H:Hp) (v:V) (u:aa) (Q:St->Hp->Prop),Inv X pins σ H s->RelV v u->t v σ H Q ->
  ax (au X.prog X.w) X.A (eU target X.env u) (λ_ s'=>∃σ' H',Inv X pins σ' H' s'/\Q σ' H') X.xe s
def PGs(X:Cx)(ts:List aj)(t:TGs):Prop :=
 ∀(pins:k85) (s:af) (σ:St) (H:Hp) (vs:List V) (us:List aa) (Q:St->Hp->Prop),Inv X pins σ H s->Vals vs us->t vs σ H Q ->
  ax (au X.prog X.w) X.A (assignInOrder ((bO ts X.env).map (·.2)) us) (λ_ s'=>∃σ' H',Inv X pins σ' H' s'/\Q σ' H') X.xe s
section
variable{X:Cx}{pos:aO}
def ja3(i:Nat):TG:=λv σ H Q=>Q (σ.set i (a5 v)) H
theorem Rh{i:Nat}{x:ah}(hN:X.N.Nodup)(hi:X.N[i]?=a5 x)(hx:Loc X.env.scope x)(hf:X.fn x=a7\/X.env.scope.names.lookup x=a5 .local:=by first|exact .inl rfl|exact .inr rfl|assumption):PG X (.Name x pos) (ja3 i):=by intro pins s σ H v u Q I r h;exact kq (Kh I hN hi hx r (λs' I'=>⟨_,H,I',h⟩) hf)
def jl7:TGs:=λvs σ H Q=>vs=[]/\Q σ H
def jjf(t:TG)(u:TGs):TGs:=λvs σ H Q=>∃v r,vs=v::r/\t v σ H λσ' H'=>u r σ' H' Q
theorem jbr:PGs X [] jl7:=by intro pins s σ H vs us Q I r h;obtain⟨e,h⟩:=h;subst e;cases r;exact assignInOrder_nil ⟨σ,H,I,h⟩
theorem Iu{e:aj}{es:List aj}{t:TG}{u:TGs}(h1:PG X e t)(h2:PGs X es u)
  (hs:(bO (e::es) X.env).map (·.2)=eU e X.env::(bO es X.env).map (·.2):=by rfl):PGs X (e::es) (jjf t u):=by
 intro pins s σ H vs us Q I r h;obtain⟨v,vr,e1,h⟩:=h;subst e1;cases r with
 |cons r rr =>rw[hs];refine assignInOrder_cons (thn (h1 pins s σ H _ _ _ I r h) λ_ s1 ⟨σ1,H1,I1,q1⟩=>?_);exact h2 pins s1 σ1 H1 _ _ Q I1 rr q1
def jl6(K:k83)(n:Nat)(t:TGs):TG:=λv σ H Q=>∃a xs,v=.ref a/\SqT K H a xs/\xs.length=n/\t xs σ H Q
theorem jev{es:List aj}{k:Nat}{t:TGs}{n:Nat}(hc:X.calm=a7)(h:PGs X es t)
  (hn:(bO es X.env).length=n:=by rfl) (hst:(bO es X.env).findIdx? (·.1)=a8:=by rfl):PG X (.Tuple es k pos) (jl6 X.K n t):=by
 intro pins s σ H v u Q I r hw;obtain⟨a,xs,e1,hq,hl,hw⟩:=hw;subst e1;cases r;obtain⟨its,rv,ht,hz⟩:=I.tuple hq;refine assign_Tuple_tuple (I.ok.hd hc) ht (by simp[hn,<-hl,rv.length]) hst λh' hx=>?_;have I1:Inv X pins σ H { s with heap:=h' }:=I.kept (t':=s.toks) λb o e=>hx b o (X7 (xn e)) e;exact h pins _ σ H xs _ Q I1 (by simpa using rv) hw
def jkn(te:TE)(g:TG):TS:=λD σ H=>te σ H λx H1=>g x σ H1 D.nx
theorem W5{i:Nat}{x:ah}{e:aj}{te:TE}{pos':aO}(hN:X.N.Nodup)(hi:X.N[i]?=a5 x)(hx:Loc X.env.scope x)(he:PE X e te)(hs:aP e (a5 (.Name x pos')) pos.line X.env=pure a6:=by rfl)(hf:X.fn x=a7\/X.env.scope.names.lookup x=a5 .local:=by first|exact .inl rfl|exact .inr rfl|assumption) :
  PS X (.Assign [.Name x pos'] e pos) (jkn te (ja3 i)):=by
 intro pins s σ H D I h;refine wpAny_Assign_Name (thn (he pins s σ H _ I h) λv s1 ⟨y,H1,I1,r1,q1⟩=>?_) hs;exact Kh I1 hN hi hx r1 (λs2 I2=>⟨_,H1,I2,q1⟩) hf
end
structure It where
 go:Nat->Hp->Prop
 yld:Nat->Hp->V->Hp->Prop
 stop:Nat->Hp->Prop
def Vt(X:Cx)(pins:k85)(H:Hp)(b:ae):Prop :=
 H b=a8/\b≠X.env.locals/\b∉X.fs/\(b∈X.ex\/X.s₀.heap.objs.size<=b)/\(∀x c,X.env.cells.lookup x=a5 c->c≠b)/\∀p∈X.pn++pins,p.1≠b
theorem Inv.fpOk{X:Cx}{pins:k85}{σ:St}{H H':Hp}{s:af}{b:ae}(I:Inv X pins σ H s)(hb:s.heap.objs.size<=b)(hn:H' b=a8):Vt X pins H' b:=by
 refine⟨hn,c8 (Xf I.lt hb),I.nofs hb,.inr (Xd I.sz hb),λx c e z=>?_,λp hp z=>?_⟩
 .obtain⟨v,q⟩:=I.cell x c e;exact absurd (Xf q.lt (by rw[z];exact hb)) (Xx _)
 .exact absurd (Xf (xn (I.pin p hp).1) (by rw[z];exact hb)) (Xx _)
structure Turn(P:ar)(w:aA)(K:k83)(tg:aj)(J:It)(fp:List ae)(it:ae)(tn:Nat->aG->Prop):Prop where
 mem:it∈fp
 obj:∀i h,tn i h->∀b∈fp,∃o,h.get? b=a5 o/\∀v,o.data≠.cell v
 keep:∀i h h',tn i h->(∀b∈fp,∀o,h.get? b=a5 o->h'.get? b=a5 o)->tn i h'
 item:∀(X:Cx),X.prog=P->X.w=w->X.K=K->X.calm=a7->∀(i:Nat)(pins:k85) (s:af) (σ:St) (H:Hp) (E:k84),Inv X pins σ H s->(∀b∈fp,Vt X pins H b)->tn i s.heap->J.go i H ->
  ax (au P w) X.A (pyNext (.ref it)) (λr s1=>∃u,r=a5 u /\
   ax (au P w) X.A (eI tg (.ref it) u) (λ_ s2=>∃x H',Inv X pins σ H' s2/\RelV x u/\J.yld i H x H'/\tn (i+1) s2.heap/\∀b∈fp,H' b=a8) E s1) E s
 done:∀(X:Cx),X.prog=P->X.w=w->X.K=K->X.calm=a7->∀(i:Nat)(pins:k85) (s:af) (σ:St) (H:Hp) (E:k84),Inv X pins σ H s->(∀b∈fp,Vt X pins H b)->tn i s.heap->J.stop i H ->
  ax (au P w) X.A (pyNext (.ref it)) (λr s1=>r=a8/\Inv X pins σ H s1) E s
 self:∀(A:aC)(i:Nat)(s:af)(Q:k84)(E:k84),tn i s.heap->Q (.ref it) s->ax (au P w) A (k9 (.ref it)) Q E s
abbrev TI:=St->Hp->(It->Hp->Prop)->Prop
def PIE(X:Cx)(pins:k85)(σ:St)(tg:aj)(R:It->Hp->Prop)(itv:aa)(s2:af):Prop :=
 ∃(it:ae)(fp:List ae)(tn:Nat->aG->Prop)(J:It)(H':Hp),itv=.ref it/\Inv X pins σ H' s2/\Turn X.prog X.w X.K tg J fp it tn/\tn 0 s2.heap/\(∀b∈fp,Vt X pins H' b)/\R J H'
def PI(X:Cx)(tg iter:aj)(wi:TI):Prop :=
 ∀(pins:k85) (s:af) (σ:St) (H:Hp) (R:It->Hp->Prop),Inv X pins σ H s->wi σ H R ->
  ax (au X.prog X.w) X.A (aE iter X.env) (λv s1=>ax (au X.prog X.w) X.A (k9 v) (PIE X pins σ tg R) X.xe s1) X.xe s
theorem Lz{M:gv}{A:aC}{E:k84}{s:af}{tg:aj}{it:ae}{u:aa}{o:cF}{n:String}{vs:Array aa}{Q:Unit->af->Prop}(ho:s.heap.get? it=a5 o)(hc:o.cls=.type n)(hd:o.data=.fields vs)
  (hn:["enumerate","zip","dict_itemiterator","dict_reverseitemiterator","odict_iterator","itertools.zip_longest","itertools.pairwise"].contains n=a6) (hQ:Q () s):ax M A (eI tg (.ref it) u) Q E s:=by
 unfold eI;cases tg<;>first
  |exact az hQ
  |(cases u<;>first
    |exact az hQ
    |(refine ai (wpAny_load ho ?_);rw[hc,hd];show ax M A (if (["enumerate","zip","dict_itemiterator","dict_reverseitemiterator","odict_iterator","itertools.zip_longest","itertools.pairwise"].contains n&&vs[0]?==a5 (k8 _))=a7 then _ else _) Q E s;rw[if_neg (by intro h;rw[hn,Bool.false_and]at h;cases h)];exact az hQ))
noncomputable def Itl(K:k83)(a:ae):It :=
 ⟨λi H=>∃xs x,SqL K H a xs/\xs[i]?=a5 x,λi H x H'=>H'=H/\∀xs,SqL K H a xs->xs[i]?=a5 x,λi H=>∃xs,SqL K H a xs/\xs.length<=i⟩
noncomputable def Itt(K:k83)(a:ae):It :=
 ⟨λi H=>∃xs x,SqT K H a xs/\xs[i]?=a5 x,λi H x H'=>H'=H/\∀xs,SqT K H a xs->xs[i]?=a5 x,λi H=>∃xs,SqT K H a xs/\xs.length<=i⟩
noncomputable def Itr(lo:Int)(n:Nat):It:=⟨λi _=>i<n,λi H x H'=>H'=H/\x=.int (lo+i),λi _=>n<=i⟩
theorem j3w{P:ar}{w:aA}{K:k83}{tg:aj}(a it:ae):Turn P w K tg (Itl K a) [it] it (λi h=>h.IsListIter it a i) where
 mem:=by simp
 obj:=λi h st b hb=>by
  have e:b=it:=by simpa using hb
  subst e;obtain⟨o,e,c,d⟩:=st;exact⟨o,e,λv z=>by rw[d]at z;cases z⟩
 keep:=λi h h' st k=>st.at λo e=>k it (by simp) o e
 item:=by intro X hP hw hK hc i pins s σ H E I hf st hg;subst hP hw hK;obtain⟨xs,x,hq,hx⟩:=hg;obtain⟨its,rv,p,hz⟩:=I.list hq;obtain⟨u,hu,ru⟩:=rv.get hx;obtain⟨f0,f1,f2,f3,f4,f5⟩:=hf it (by simp);refine wpAny_pyNext_list_item st p.isList (x:=u) (by simpa using hu) λh' st' sb=>?_;have I1:Inv X pins σ H { s with heap:=h' }:=I.turned (t':=s.toks) (λb o hb e=>(sb.2 b hb).trans e) f0 f1 f3 f4 f5;obtain⟨o,e,c,d⟩:=id st';exact⟨u,rfl,Lz (s:={ s with heap:=h' }) e c d (by decide) ⟨x,H,I1,ru,⟨rfl,λys hy=>by rw[I.list_inj hy hq];exact hx⟩,st',λb hb=>(hf b hb).1⟩⟩
 done:=by intro X hP hw hK hc i pins s σ H E I hf st hg;subst hP hw hK;obtain⟨xs,hq,hx⟩:=hg;obtain⟨its,rv,p,hz⟩:=I.list hq;obtain⟨f0,f1,f2,f3,f4,f5⟩:=hf it (by simp);have hl:=rv.length;exact wpAny_pyNext_list_end (I.ok.hd hc) st p.isList (by simp;omega) λh' eb=>⟨rfl,I.turned (t':=s.toks) (λb o hb e=>eb b o hb e) f0 f1 f3 f4 f5⟩
 self:=λ_ _ _ _ _ st h=>wpAny_pyIter_listiter st h
theorem j2c{P:ar}{w:aA}{K:k83}{tg:aj}(a it:ae):Turn P w K tg (Itt K a) [it] it (λi h=>h.IsTupleIter it a i) where
 mem:=by simp
 obj:=λi h st b hb=>by
  have e:b=it:=by simpa using hb
  subst e;obtain⟨o,e,c,d⟩:=st;exact⟨o,e,λv z=>by rw[d]at z;cases z⟩
 keep:=λi h h' st k=>st.at λo e=>k it (by simp) o e
 item:=by intro X hP hw hK hc i pins s σ H E I hf st hg;subst hP hw hK;obtain⟨xs,x,hq,hx⟩:=hg;obtain⟨its,rv,p,hz⟩:=I.tuple hq;obtain⟨u,hu,ru⟩:=rv.get hx;obtain⟨f0,f1,f2,f3,f4,f5⟩:=hf it (by simp);refine wpAny_pyNext_tuple_item st (show s.heap.IsTuple a its.toArray from p) (x:=u) (by simpa using hu) λh' st' sb=>?_;have I1:Inv X pins σ H { s with heap:=h' }:=I.turned (t':=s.toks) (λb o hb e=>(sb.2 b hb).trans e) f0 f1 f3 f4 f5;obtain⟨o,e,c,d⟩:=id st';exact⟨u,rfl,Lz (s:={ s with heap:=h' }) e c d (by decide) ⟨x,H,I1,ru,⟨rfl,λys hy=>by rw[I.tuple_inj hy hq];exact hx⟩,st',λb hb=>(hf b hb).1⟩⟩
 done:=by intro X hP hw hK hc i pins s σ H E I hf st hg;subst hP hw hK;obtain⟨xs,hq,hx⟩:=hg;obtain⟨its,rv,p,hz⟩:=I.tuple hq;obtain⟨f0,f1,f2,f3,f4,f5⟩:=hf it (by simp);have hl:=rv.length;exact wpAny_pyNext_tuple_end (I.ok.hd hc) st (show s.heap.IsTuple a its.toArray from p) (by simp;omega) λh' eb=>⟨rfl,I.turned (t':=s.toks) (λb o hb e=>eb b o hb e) f0 f1 f3 f4 f5⟩
 self:=λ_ _ _ _ _ st h=>wpAny_pyIter_tupleiter st h
theorem j2d{P:ar}{w:aA}{K:k83}{tg:aj}(it:ae)(lo:Int)(n:Nat):Turn P w K tg (Itr lo n) [it] it (λi h=>IsRangeIter h it (lo+(i:Nat)*1) ((n:Int)-(i:Nat)) 1) where
 mem:=by simp
 obj:=λi h st b hb=>by
  have e:b=it:=by simpa using hb
  subst e;exact⟨_,st,λv z=>by
   have z':Data.fields _=Data.cell v:=z
   cases z'⟩
 keep:=λi h h' st k=>k it (by simp) _ st
 item:=by intro X hP hw hK hc i pins s σ H E I hf st hg;subst hP hw hK;obtain⟨f0,f1,f2,f3,f4,f5⟩:=hf it (by simp);have W:=Walks.range (prog:=X.prog) (w:=X.w) (I.ok.hd hc) it lo 1 n;refine W.item i s _ _ hg st λv h' tk hv st' kk=>?_;obtain⟨t,rfl⟩:=hv;have I1:Inv X pins σ H { s with heap:=h',toks:=tk }:=I.turned (λb o hb e=>kk b o (by simpa using hb) e) f0 f1 f3 f4 f5;refine⟨_,rfl,Lz (s:={ s with heap:=h',toks:=tk }) (n:="range_iterator") st' rfl rfl (by decide) ⟨.int (lo+i),H,I1,⟨t,?_⟩,⟨rfl,rfl⟩,st',λb hb=>(hf b hb).1⟩⟩;rw[lM]
 done:=by intro X hP hw hK hc i pins s σ H E I hf st hg;subst hP hw hK;obtain⟨f0,f1,f2,f3,f4,f5⟩:=hf it (by simp);exact wpAny_pyNext_range_end (I.ok.hd hc) st (by have:n<=i:=hg;omega) λh' eb=>⟨rfl,I.turned (t':=s.toks) (λb o hb e=>eb b o hb e) f0 f1 f3 f4 f5⟩
 self:=λ_ _ _ _ _ st h=>wpAny_pyIter_rangeiter st h
section
variable{X:Cx}{tg:aj}
def jjb(K:k83)(tl:TE):TI:=λσ H R=>tl σ H λx H1=>∃a,x=.ref a/\(∃xs,SqL K H1 a xs)/\R (Itl K a) H1
def jl5(K:k83)(tl:TE):TI:=λσ H R=>tl σ H λx H1=>∃a,x=.ref a/\(∃xs,SqT K H1 a xs)/\R (Itt K a) H1
theorem j1i{l:aj}{tl:TE}(hl:PE X l tl):PI X tg l (jjb X.K tl):=by
 intro pins s σ H R I h;refine thn (hl pins s σ H _ I h) λv s1 ⟨x,H1,I1,r1,q1⟩=>?_;obtain⟨a,e,⟨xs,hq⟩,q⟩:=q1;subst e;cases r1;obtain⟨its,rv,p,hz⟩:=I1.list hq;refine cN p.isList ?_;refine⟨s1.heap.objs.size,[s1.heap.objs.size],_,_,H1,rfl,I1.kept (t':=s1.toks) λb o e=>xu _ e,j3w a _,⟨_,Xa _ rfl,rfl,rfl⟩,λb hb=>?_,q⟩;have e:b=s1.heap.objs.size:=by simpa using hb
 subst e;exact I1.fpOk (X5 _) (I1.hok.fresh (X5 _))
theorem jeu{l:aj}{tl:TE}(hl:PE X l tl):PI X tg l (jl5 X.K tl):=by
 intro pins s σ H R I h;refine thn (hl pins s σ H _ I h) λv s1 ⟨x,H1,I1,r1,q1⟩=>?_;obtain⟨a,e,⟨xs,hq⟩,q⟩:=q1;subst e;cases r1;obtain⟨its,rv,p,hz⟩:=I1.tuple hq;refine fC (show s1.heap.IsTuple a its.toArray from p) ?_;refine⟨s1.heap.objs.size,[s1.heap.objs.size],_,_,H1,rfl,I1.kept (t':=s1.toks) λb o e=>xu _ e,j2c a _,⟨_,Xa _ rfl,rfl,rfl⟩,λb hb=>?_,q⟩;have e:b=s1.heap.objs.size:=by simpa using hb
 subst e;exact I1.fpOk (X5 _) (I1.hok.fresh (X5 _))
theorem Im{pins:k85}{σ:St}{H:Hp}{s:af}{R:It->Hp->Prop}{E:k84}{lo hi:Int}{t u v:jG}{tk:Nat}(I:Inv X pins σ H s)(h1:-(2^62)<=lo)(h2:lo<2^62)(h3:-(2^62)<=hi)(h4:hi<2^62)
  (q:R (Itr lo (hi-lo).toNat) H):ax (au X.prog X.w) X.A (k9 (.ref s.heap.objs.size)) (PIE X pins σ tg R) E { s with heap:=s.heap.push { cls:=.type "range",data:=.fields #[.int lo t,.int hi u,.int 1 v] },toks:=tk }:=by
 refine wpAny_pyIter_range (IsRange.new ..) (small_one h1 h2 h3 h4) ?_;have I1:Inv X pins σ H { s with heap:=s.heap.push { cls:=.type "range",data:=.fields #[.int lo t,.int hi u,.int 1 v] },toks:=tk }:=I.kept λb o e=>xu _ e;refine⟨(s.heap.push { cls:=.type "range",data:=.fields #[.int lo t,.int hi u,.int 1 v] }).objs.size,[(s.heap.push { cls:=.type "range",data:=.fields #[.int lo t,.int hi u,.int 1 v] }).objs.size],_,_,H,rfl,
  I1.kept (t':=tk) λb o e=>xu _ e,j2d _ lo (hi-lo).toNat,?_,λb hb=>?_,q⟩
 .have e1:lo+((0:Nat):Int)*1=lo:=by simp
  have e2:(((hi-lo).toNat:Nat):Int)-((0:Nat):Int)=Builtin.Range.rangeSize lo hi 1:=by rw[rangeSize_one];split<;>omega
  show IsRangeIter _ _ (lo+((0:Nat):Int)*1) ((((hi-lo).toNat:Nat):Int)-((0:Nat):Int)) 1;rw[e1,e2];exact Xa _ rfl
 .have e:b=(s.heap.push { cls:=.type "range",data:=.fields #[.int lo t,.int hi u,.int 1 v] }).objs.size:=by simpa using hb
  subst e;exact I1.fpOk (X5 _) (I1.hok.fresh (X5 _))
def jja(ta:TA):TI:=λσ H R=>ta σ H λvs H1=>∃j:Int,vs=[.int j]/\-(2^62)<=j/\j<2^62/\R (Itr 0 j.toNat) H1
def jj9(ta:TA):TI:=λσ H R=>ta σ H λvs H1=>∃i j:Int,vs=[.int i,.int j]/\(-(2^62)<=i/\i<2^62/\-(2^62)<=j/\j<2^62)/\R (Itr i (j-i).toNat) H1
theorem j4p {a:aj} {ta:TA} {p pos:aO} (hg:Gl X "range") (hm:X.mg "range" = a8) (ha:PA X [a] ta) (hs:a9 [a] X.env=[(a6,aE a X.env)]:=by rfl):PI X tg (.Call (.Name "range" p) [a] [] pos) (jja ta):=by
 intro pins s σ H R I h;refine Call_ (Zy I hg hm boot_range (callWith_type1 (thn (ha pos pins s σ H _ I h) λus s1 ⟨vs,H1,I1,r1,q1⟩=>?_) hs rfl));obtain⟨j,e,q1,q2,q⟩:=q1;subst e;cases r1 with
 |cons r rr =>cases rr;obtain⟨t,rfl⟩:=r;exact call_range_1 (Im I1 nofun nofun q1 q2 (by simpa using q))
theorem j4o {a b:aj} {ta:TA} {p pos:aO} (hg:Gl X "range") (hm:X.mg "range" = a8) (ha:PA X [a,b] ta) (hs:a9 [a,b] X.env=[(a6,aE a X.env),(a6,aE b X.env)]:=by rfl) (hs2:a9 [b] X.env=[(a6,aE b X.env)]:=by rfl) :
  PI X tg (.Call (.Name "range" p) [a,b] [] pos) (jj9 ta):=by
 intro pins s σ H R I h;refine Call_ (Zy I hg hm boot_range (callWith_type1 (thn (ha pos pins s σ H _ I h) λus s1 ⟨vs,H1,I1,r1,q1⟩=>?_) (by rw[hs,hs2]) (by rw[hs2];rfl)));obtain⟨i,j,e,⟨q1,q2,q3,q4⟩,q⟩:=q1;subst e;cases r1 with
 |cons r rr =>
  cases rr with
  |cons r' rr =>cases rr;obtain⟨t,rfl⟩:=r;obtain⟨t',rfl⟩:=r';exact call_range_2 (Im I1 q1 q2 q3 q4 q)
def jkm(wi:TI)(g:TG)(tb:TS):TS:=λD σ H=>wi σ H λJ H1=>∃W:Nat->Nat->St->Hp->Prop,(∃m,W 0 m σ H1)/\∀i m σ H,W i m σ H ->
 (J.stop i H/\D.nx σ H)\/(J.go i H/\∃N:St->Hp->Prop,(∀σ' H',N σ' H'->∃m',m'<m/\W (i+1) m' σ' H')/\∀x H',J.yld i H x H'->g x σ H' λσ2 H2=>tb { D with nx:=N,ct:=N,bk:=D.nx } σ2 H2)
noncomputable def Qz(fp:List ae)(h:aG):List (ae×cF):=fp.filterMap λb=>(h.get? b).map λo=>(b,o)
theorem Qe{fp:List ae}{h:aG}{b:ae}{o:cF}(hb:b∈fp)(e:h.get? b=a5 o):(b,o)∈Qz fp h:=Pn.mpr ⟨b,hb,by rw[e];rfl⟩
theorem Dr{fp:List ae}{h:aG}{p:ae×cF}(hp:p∈Qz fp h):p.1∈fp/\h.get? p.1=a5 p.2:=by
 obtain⟨b,hb,e⟩:=Pn.mp hp;cases q:h.get? b with
 |none=>rw[q]at e;cases e
 |some o =>rw[q]at e;have e':(b,o)=p:=aw e;subst e';exact⟨hb,q⟩
theorem Inv.pinned{pins:k85}{σ:St}{H:Hp}{s:af}{fp:List ae}(I:Inv X pins σ H s)(hf:∀b∈fp,Vt X pins H b)(ho:∀b∈fp,∃o,s.heap.get? b=a5 o/\∀v,o.data≠.cell v):Inv X (pins++Qz fp s.heap) σ H s :=
 I.pins_of λp hp=>(Te.mp hp).elim (λz=>I.pin p (Xh _ z)) λz=>by obtain⟨hb,e⟩:=Dr z;obtain⟨f0,f1,f2,_⟩:=hf p.1 hb;obtain⟨o,e',d⟩:=ho p.1 hb;rw[e]at e';cases e';exact⟨e,f0,f1,f2,d⟩
theorem Inv.unpinned{pins pl:k85}{σ:St}{H:Hp}{s:af}(I:Inv X (pins++pl) σ H s):Inv X pins σ H s:=I.pins_of λp hp=>I.pin p (Xh _ (Pr _ hp))
theorem Ip{iter:aj}{body:List aN}{wi:TI}{g:TG}{tb:TS}{pos:aO}(hp:dY (au X.prog X.w) X.A X.env X.xe)(hc:X.calm=a7)(hi:PI X tg iter wi)(hg:PG X tg g)(hb:PSs X body tb)
  (hs:∀x,aK iter X.env x=pure x:=by intro _;rfl):PS X (.For tg iter body [] pos) (jkm wi g tb):=by
 intro pins s σ H D I h;refine wpAny_For (thn (hi pins s σ H _ I h) λv s1 h1=>thn h1 λitv s2 h2=>?_) hs;obtain⟨it,fp,tn,J,H2,e,I2,T,st2,f2,W,⟨m0,w0⟩,turn⟩:=h2;subst e;have stat:∀{H':Hp},(∀b∈fp,H' b=a8)->∀b∈fp,Vt X pins H' b:=λhn b hb=>⟨hn b hb,(f2 b hb).2⟩
 refine codeAny_forLoop_any (λn s'=>∃i σ' H',Inv X pins σ' H' s'/\tn i s'.heap/\(∀b∈fp,H' b=a8)/\W i n σ' H') ?_ m0 ⟨0,σ,H2,I2,st2,λb hb=>(f2 b hb).1,w0⟩;rintro n s3 ⟨i,σ3,H3,I3,st3,fr3,w3⟩;rcases turn i n σ3 H3 w3 with ⟨stop,qn⟩|⟨go,N,hN,step⟩
 .refine d6 hp (thn (T.done X rfl rfl rfl hc i pins s3 σ3 H3 X.xe I3 (stat fr3) st3 stop) λr s4 ⟨hr,I4⟩=>?_);subst hr;exact gC ⟨σ3,H3,I4,qn⟩
 .refine d6 hp (thn (T.item X rfl rfl rfl hc i pins s3 σ3 H3 X.xe I3 (stat fr3) st3 go) λr s4 ⟨u,hr,h4⟩=>?_);subst hr;refine d6 hp (thn h4 λ_ s5 ⟨x,H5,I5,r5,y5,st5,fr5⟩=>?_);have I5':=I5.pinned (stat fr5) (T.obj _ _ st5);refine d6 hp (thn (hg _ s5 σ3 H5 x u _ I5' r5 (step x H5 y5)) λ_ s6 ⟨σ6,H6,I6,q6⟩=>?_);refine d6 hp (thn (hb _ s6 σ6 H6 _ I6 q6) λf s7 q7=>?_);have ky:∀{σ7:St}{H7:Hp},Inv X (pins++Qz fp s5.heap) σ7 H7 s7->N σ7 H7->∃m,m<n/\∃i σ' H',Inv X pins σ' H' s7/\tn i s7.heap/\(∀b∈fp,H' b=a8)/\W i m σ' H':=λ{σ7 H7} I7 n7=>by obtain⟨m',hm,w7⟩:=hN σ7 H7 n7;refine⟨m',hm,i+1,σ7,H7,I7.unpinned,T.keep _ _ _ st5 λb hb o e=>(I7.pin (b,o) (Xh _ (Xh _ (Qe hb e)))).1,λb hb=>?_,w7⟩;obtain⟨o,e,d⟩:=T.obj _ _ st5 b hb;exact(I7.pin (b,o) (Xh _ (Xh _ (Qe hb e)))).2.1
  cases f with
  |next=>obtain⟨σ7,H7,I7,n7⟩:=q7;exact ky I7 n7
  |cont=>obtain⟨σ7,H7,I7,n7⟩:=q7;exact ky I7 n7
  |brk=>obtain⟨σ7,H7,I7,q7⟩:=q7;exact⟨σ7,H7,I7.unpinned,q7⟩
  |ret v=>obtain⟨x7,σ7,H7,H8,I7,r7,x8,q7⟩:=q7;exact⟨x7,σ7,H7,H8,I7.unpinned,r7,x8,q7⟩
end
theorem j8i{K:k83}{a:ae}{xs:List V}{g:TG}{tb:TS}{D:Ends}{σ:St}{H:Hp}(Pv:Nat->St->Hp->Prop)(h0:Pv 0 σ H)(hl:∀i σ H,i<=xs.length->Pv i σ H->SqL K H a xs)
  (hs:∀i x σ H,xs[i]?=a5 x->Pv i σ H->g x σ H λσ2 H2=>tb { D with nx:=Pv (i+1),ct:=Pv (i+1),bk:=D.nx } σ2 H2) (hd:∀σ H,Pv xs.length σ H->D.nx σ H) :
  ∃W:Nat->Nat->St->Hp->Prop,(∃m,W 0 m σ H)/\∀i m σ H,W i m σ H ->
   ((Itl K a).stop i H/\D.nx σ H)\/((Itl K a).go i H/\∃N:St->Hp->Prop,(∀σ' H',N σ' H'->∃m',m'<m/\W (i+1) m' σ' H')/\∀x H',(Itl K a).yld i H x H'->g x σ H' λσ2 H2=>tb { D with nx:=N,ct:=N,bk:=D.nx } σ2 H2):=by
 refine⟨λi m σ H=>m=xs.length-i/\i<=xs.length/\Pv i σ H,⟨xs.length,by simp,Tc _,h0⟩,?_⟩;rintro i m σ H ⟨rfl,hi,p⟩;have q:=hl i σ H hi p;by_cases hlt:i<xs.length
 .refine .inr ⟨⟨xs,xs[i],q,by simp[hlt]⟩,Pv (i+1),λσ' H' p'=>⟨xs.length-(i+1),by omega,rfl,hlt,p'⟩,λx H' y=>?_⟩;obtain⟨e,y⟩:=y;subst e;exact hs i x σ _ (y xs q) p
 .have e:i=xs.length:=by omega
  subst e;exact .inl ⟨⟨xs,q,X5 _⟩,hd σ H p⟩
abbrev R2:=V->V->Hp->VK->Prop
def OpR(X:Cx)(f:aa->aa->jH aa)(r:R2):Prop :=
 ∀(pins:k85) (s:af) (σ:St) (H:Hp) (x y:V) (v u:aa) (Q:VK),Inv X pins σ H s->RelV x v->RelV y u->r x y H Q ->
  ax (au X.prog X.w) X.A (f v u) (EP X pins σ Q) X.xe s
def J0(X:Cx)(f:aa)(r:List V->Hp->VK->Prop):Prop :=
 ∀(pins:k85) (s:af) (σ:St) (H:Hp) (xs:List V) (us:List aa) (Q:VK),Inv X pins σ H s->Vals xs us->r xs H Q ->
  ax (au X.prog X.w) X.A (call f us) (EP X pins σ Q) X.xe s
def tOp(r:R2)(ta tb:TE):TE:=λσ H Q=>ta σ H λx H1=>tb σ H1 λy H2=>r x y H2 Q
def rI(C:Int->Int->Prop)(g:Int->Int->V):R2:=λx y H Q=>∃i j,x=.int i/\y=.int j/\C i j/\Q (g i j) H
def rI0(g:Int->Int->V):R2:=λx y H Q=>∃i j,x=.int i/\y=.int j/\Q (g i j) H
section
variable{X:Cx}{a b c:aj}{ta tb tc:TE}{pos:aO}
theorem j98(ha:PE X a ta)(hb:PE X b tb){pins:k85}{s:af}{σ:St}{H:Hp}{R:V->V->Hp->Prop}(I:Inv X pins σ H s)
  (h:ta σ H λx H1=>tb σ H1 λy H2=>R x y H2) {Q:k84} {f:aa->aa->jH aa}
  (hf:∀v u s2 x y H2,Inv X pins σ H2 s2->RelV x v->RelV y u->R x y H2->ax (au X.prog X.w) X.A (f v u) Q X.xe s2) :
  ax (au X.prog X.w) X.A (aE a X.env) (λv s₁=>ax (au X.prog X.w) X.A (aE b X.env) (λu s₂=>ax (au X.prog X.w) X.A (f v u) Q X.xe s₂) X.xe s₁) X.xe s:=by
 refine thn (ha pins s σ H _ I h) λv s1 ⟨x,H1,I1,r1,q1⟩=>?_;refine thn (hb pins s1 σ H1 _ I1 q1) λu s2 ⟨y,H2,I2,r2,q2⟩=>?_;exact hf v u s2 x y H2 I2 r1 r2 q2
theorem Vx{op:jI}{r:R2}(ho:OpR X (bo op) r)(ha:PE X a ta)(hb:PE X b tb):PE X (.BinOp a op b pos) (tOp r ta tb):=by intro pins s σ H Q I h;exact wpAny_BinOp (j98 ha hb I h λv u s2 x y H2 I2 rx ry q=>ho pins s2 σ H2 x y v u Q I2 rx ry q)
theorem opI{f:aa->aa->jH aa}{C:Int->Int->Prop}{g:Int->Int->Int}
  (rule:∀(i j:Int)(t u:jG)(s:af)(Q:k84)(E:k84),C i j->Q (.int (g i j) s.toks) { s with toks:=s.toks+1 }->ax (au X.prog X.w) X.A (f (.int i t) (.int j u)) Q E s) :
  OpR X f (rI C λi j=>.int (g i j)):=by
 intro pins s σ H x y v u Q I rx ry h;obtain⟨i,j,rfl,rfl,hc,q⟩:=h;obtain⟨t,rfl⟩:=rx;obtain⟨t',rfl⟩:=ry;exact rule i j t t' s _ _ hc ⟨.int (g i j),H,I.tok _,⟨_,rfl⟩,q⟩
theorem j2w{f:aa->aa->jH aa}{g:Int->Int->Int}
  (rule:∀(i j:Int)(t u:jG)(s:af)(Q:k84)(E:k84),Q (.int (g i j) s.toks) { s with toks:=s.toks+1 }->ax (au X.prog X.w) X.A (f (.int i t) (.int j u)) Q E s) :
  OpR X f (rI0 λi j=>.int (g i j)):=by
 intro pins s σ H x y v u Q I rx ry h;obtain⟨i,j,rfl,rfl,q⟩:=h;obtain⟨t,rfl⟩:=rx;obtain⟨t',rfl⟩:=ry;exact rule i j t t' s _ _ ⟨.int (g i j),H,I.tok _,⟨_,rfl⟩,q⟩
theorem j2x{f:aa->aa->jH aa}{g:Int->Int->Bool}
  (rule:∀(i j:Int)(t u:jG)(s:af)(Q:k84)(E:k84),Q (.bool (g i j)) s->ax (au X.prog X.w) X.A (f (.int i t) (.int j u)) Q E s) :
  OpR X f (rI0 λi j=>.bl (g i j)):=by
 intro pins s σ H x y v u Q I rx ry h;obtain⟨i,j,rfl,rfl,q⟩:=h;obtain⟨t,rfl⟩:=rx;obtain⟨t',rfl⟩:=ry;exact rule i j t t' s _ _ ⟨.bl (g i j),H,I,rfl,q⟩
def j3t(i j:Int):Prop:=0<=j/\j<=1000000/\i.natAbs<2^64
def j3u(i j:Int):Prop:=(-(2^64)<i/\i<2^64)\/(-(2^64)<j/\j<2^64)
theorem j3u.ok{i j:Int}(h:j3u i j):IntMulOk i j:=by
 rcases h with ⟨h1,h2⟩|⟨h1,h2⟩
 .exact .of_left (mi h1 h2)
 .exact .of_right (mi h1 h2)
theorem j2a(k:Nat):(0:Int)<=2^k:=by rw[two_pow_cast];exact iW _
theorem jf9:OpR X (bo .Add) (rI0 λi j=>.int (i+j)):=j2w λ_ _ _ _ _ _ _ q=>add_int q
theorem jf1:OpR X (bo .Sub) (rI0 λi j=>.int (i-j)):=j2w λ_ _ _ _ _ _ _ q=>sub_int q
theorem jf6:OpR X (bo .Mult) (rI j3u λi j=>.int (i*j)):=opI λ_ _ _ _ _ _ _ hc q=>mul_int q hc.ok
theorem jf7:OpR X (bo .Mod) (rI (λ_ j=>0<j) λi j=>.int (i%j)):=opI λi j _ _ _ _ _ hc q=>by have h1:(0:Int)<j:=hc;exact mod_int' nofun (by rw[Int.fmod_eq_emod_of_nonneg i nofun];exact q)
theorem jf5:OpR X (bo .Pow) (rI j3t λi j=>.int (i^j.toNat)):=opI λ_ _ _ _ _ _ _ hc q=>pow_int_small hc.1 hc.2.1 hc.2.2 q
theorem jf3:OpR X (bo .LShift) (rI j3t λi j=>.int (i*2^j.toNat)):=opI λ_ _ _ _ _ _ _ hc q=>lshift_int_small hc.1 hc.2.1 hc.2.2 q
theorem jf2:OpR X (bo .RShift) (rI (λ_ j=>0<=j) λi j=>.int (i/2^j.toNat)):=opI λi j _ _ _ _ _ hc q =>rshift_int hc (by rw[gq i (j2a _)];exact q)
theorem jf8:OpR X (bo .BitAnd) (rI0 λi j=>.int (Builtin.bitAnd i j)):=j2w λ_ _ _ _ _ _ _ q=>and_int q
theorem jf0:OpR X (bo .BitXor) (rI0 λi j=>.int (Builtin.bitXor i j)):=j2w λ_ _ _ _ _ _ _ q=>xor_int q
end
noncomputable def Nr:V->V->Bool
 |.non,.non=>a7|.non,.int _=>a7|.int _,.non=>a7|.non,.bl _=>a7|.bl _,.non=>a7|.non,.str _=>a7|.str _,.non=>a7
 |.int _,.int _=>a7|.bl _,.bl _=>a7|.str _,.str _=>a7|.byt _,.byt _=>a7
 |.int _,.str _=>a7|.str _,.int _=>a7|.bl _,.str _=>a7|.str _,.bl _=>a7
 |_,_=>a6
def rEq:R2:=λx y H Q=>Nr x y=a7/\Q (.bl (decide (x=y))) H
def rNe:R2:=λx y H Q=>Nr x y=a7/\Q (.bl (!decide (x=y))) H
theorem j21{i j:Int}:decide (V.int i=V.int j)=(i==j):=by rw[dS];simp
theorem j5u{i j:Bool}:decide (V.bl i=V.bl j)=(i==j):=by rw[dS];simp
theorem j20{i j:ah}:decide (V.str i=V.str j)=(i==j):=by rw[dS];simp
theorem j22{i j:Array UInt8}:decide (V.byt i=V.byt j)=(i.toList==j.toList):=by rw[dS];cases i;cases j;simp
section
variable{X:Cx}{a b c:aj}{ta tb tc:TE}{pos:aO}
theorem jr{pins:k85}{σ:St}{H:Hp}{s:af}{Q:VK}{k k':Bool}(I:Inv X pins σ H s)(q:Q (.bl k) H)(e:k=k'):EP X pins σ Q (.bool k') s:=by subst e;exact⟨.bl k,H,I,rfl,q⟩
theorem j9u:OpR X (bp .Eq) rEq:=by
 intro pins s σ H x y v u Q I rx ry h;obtain⟨hs,q⟩:=h;cases x with
 |non =>
  cases rx;cases y with
  |non=>cases ry;exact lC (jr I q (by simp))
  |bl j=>cases ry;exact lE (jr I q (by simp))
  |int j=>obtain⟨t',rfl⟩:=ry;exact lD (jr I q (by simp))
  |str j=>obtain⟨t',rfl⟩:=ry;exact lB (jr I q (by simp))
  |_=>exact absurd (show a6=a7 from hs) xg
 |bl i =>
  cases rx;cases y with
  |non=>cases ry;exact lG (jr I q (by simp))
  |bl j=>cases ry;exact eq_bool (jr I q j5u)
  |str j=>obtain⟨t',rfl⟩:=ry;exact kM (jr I q (by simp))
  |_=>exact absurd (show a6=a7 from hs) xg
 |int i =>
  obtain⟨t,rfl⟩:=rx;cases y with
  |non=>cases ry;exact lF (jr I q (by simp))
  |int j=>obtain⟨t',rfl⟩:=ry;exact eq_int (jr I q j21)
  |str j=>obtain⟨t',rfl⟩:=ry;exact kL (jr I q (by simp))
  |_=>exact absurd (show a6=a7 from hs) xg
 |str i =>
  obtain⟨t,rfl⟩:=rx;cases y with
  |non=>cases ry;exact lA (jr I q (by simp))
  |bl j=>cases ry;exact kK (jr I q (by simp))
  |int j=>obtain⟨t',rfl⟩:=ry;exact kJ (jr I q (by simp))
  |str j=>obtain⟨t',rfl⟩:=ry;exact eq_str (jr I q j20)
  |_=>exact absurd (show a6=a7 from hs) xg
 |byt i =>
  obtain⟨t,rfl⟩:=rx;cases y with
  |byt j=>obtain⟨t',rfl⟩:=ry;exact W.eq_bytes (jr I q j22)
  |_=>exact absurd (show a6=a7 from hs) xg
 |_=>cases y<;>exact absurd (show a6=a7 from hs) xg
theorem j9p:OpR X (bp .NotEq) rNe:=by
 intro pins s σ H x y v u Q I rx ry h;obtain⟨hs,q⟩:=h;cases x with
 |non =>
  cases rx;cases y with
  |non=>cases ry;exact lj (jr I q (by simp))
  |bl j=>cases ry;exact lr (jr I q (by simp))
  |int j=>obtain⟨t',rfl⟩:=ry;exact lq (jr I q (by simp))
  |str j=>obtain⟨t',rfl⟩:=ry;exact lh (jr I q (by simp))
  |_=>exact absurd (show a6=a7 from hs) xg
 |bl i =>
  cases rx;cases y with
  |non=>cases ry;exact lz (jr I q (by simp))
  |bl j=>cases ry;exact ne_bool (jr I q (congrArg not j5u))
  |str j=>obtain⟨t',rfl⟩:=ry;exact kI (jr I q (by simp))
  |_=>exact absurd (show a6=a7 from hs) xg
 |int i =>
  obtain⟨t,rfl⟩:=rx;cases y with
  |non=>cases ry;exact ly (jr I q (by simp))
  |int j=>obtain⟨t',rfl⟩:=ry;exact ne_int (jr I q (congrArg not j21))
  |str j=>obtain⟨t',rfl⟩:=ry;exact kH (jr I q (by simp))
  |_=>exact absurd (show a6=a7 from hs) xg
 |str i =>
  obtain⟨t,rfl⟩:=rx;cases y with
  |non=>cases ry;exact lb (jr I q (by simp))
  |bl j=>cases ry;exact kF (jr I q (by simp))
  |int j=>obtain⟨t',rfl⟩:=ry;exact kD (jr I q (by simp))
  |str j=>obtain⟨t',rfl⟩:=ry;exact ne_str (jr I q (congrArg not j20))
  |_=>exact absurd (show a6=a7 from hs) xg
 |byt i =>
  obtain⟨t,rfl⟩:=rx;cases y with
  |byt j=>obtain⟨t',rfl⟩:=ry;exact W.ne_bytes (jr I q (congrArg not j22))
  |_=>exact absurd (show a6=a7 from hs) xg
 |_=>cases y<;>exact absurd (show a6=a7 from hs) xg
theorem j9q:OpR X (bp .Lt) (rI0 λi j=>.bl (decide (i<j))):=j2x λ_ _ _ _ _ _ _ q=>lt_int q
theorem j9r:OpR X (bp .LtE) (rI0 λi j=>.bl (decide (i<=j))):=j2x λ_ _ _ _ _ _ _ q=>le_int q
theorem j9s:OpR X (bp .Gt) (rI0 λi j=>.bl (decide (j<i))):=j2x λ_ _ _ _ _ _ _ q=>gt_int q
theorem j9t:OpR X (bp .GtE) (rI0 λi j=>.bl (decide (j<=i))):=j2x λ_ _ _ _ _ _ _ q=>ge_int q
theorem Do:OpR X (bp .Lt) (λx y H Q=>∃i j,x=.str i/\y=.str j/\Q (.bl (decide (i.cps.toList<j.cps.toList))) H):=by intro pins s σ H x y v u Q I rx ry h;obtain⟨i,j,rfl,rfl,q⟩:=h;obtain⟨t,rfl⟩:=rx;obtain⟨t',rfl⟩:=ry;exact lt_str (jr I q rfl)
theorem Dp:OpR X (bp .In) (λx y H Q=>∃i j,x=.str i/\y=.str j/\Q (.bl (!(fj j i 0 j.length 1).isEmpty)) H):=by intro pins s σ H x y v u Q I rx ry h;obtain⟨i,j,rfl,rfl,q⟩:=h;obtain⟨t,rfl⟩:=rx;obtain⟨t',rfl⟩:=ry;exact in_str (jr I q rfl)
theorem zm(b:aj){op:gw}(h:op≠.In:=by decide)(h2:op≠.NotIn:=by decide):aM op b=a6:=by
 have e1:(op==CmpOp.In)=a6:=by cases op<;>first|rfl|exact absurd rfl h
 have e2:(op==CmpOp.NotIn)=a6:=by cases op<;>first|rfl|exact absurd rfl h2
 cases b<;>simp[aM,e1,e2]
theorem Jx{op:gw}{r:R2}(ho:OpR X (bp op) r)(ha:PE X a ta)(hb:PE X b tb)(hm:aM op b=a6):PE X (.Compare a [op] [b] pos) (tOp r ta tb):=by intro pins s σ H Q I h;exact lU (j98 ha hb I h λv u s2 x y H2 I2 rx ry q=>ho pins s2 σ H2 x y v u Q I2 rx ry q) hm
def ji4(t:TE):TT:=λσ H Q=>t σ H λx H'=>∃k,x=.bl k/\Q k H'
theorem Jw{op:gw}{r:R2}(ho:OpR X (bp op) r)(ha:PE X a ta)(hb:PE X b tb)(hm:aM op b=a6):PT X (.Compare a [op] [b] pos) (ji4 (tOp r ta tb)):=by
 intro pins s σ H Q I h;refine j3 (thn (ha pins s σ H _ I h) λv s1 ⟨x,H1,I1,r1,q1⟩=>thn (hb pins s1 σ H1 _ I1 q1) λu s2 ⟨y,H2,I2,r2,q2⟩ =>
  thn (ho pins s2 σ H2 x y v u _ I2 r1 r2 q2) λc s3 ⟨z,H3,I3,r3,k,e,q3⟩=>?_) hm
 subst e;cases r3;exact bW ⟨H3,I3,q3⟩
theorem Yy:(ak:Nat)<2^63:=by rw[b8];decide
theorem j2v:OpR X (bo .Add) (λx y H Q=>∃i j,x=.str i/\y=.str j/\i.length+j.length<=ak/\Q (.str (i++j)) H):=by intro pins s σ H x y v u Q I rx ry h;obtain⟨i,j,rfl,rfl,hz,q⟩:=h;obtain⟨t,rfl⟩:=rx;obtain⟨t',rfl⟩:=ry;exact add_str (λt' tk=>⟨.str (i++j),H,I.tok _,⟨_,rfl⟩,q⟩) hz
theorem vals1{x:V}{us:List aa}(r:Vals [x] us):∃u,us=[u]/\RelV x u:=by
 cases r with
 |cons r1 r2=>cases r2;exact⟨_,rfl,r1⟩
theorem vals2{x y:V}{us:List aa}(r:Vals [x,y] us):∃u w',us=[u,w']/\RelV x u/\RelV y w':=by
 cases r with
 |cons r1 r2 =>
  cases r2 with
  |cons r3 r4=>cases r4;exact⟨_,_,rfl,r1,r3⟩
theorem j66 (hc:X.calm=a7):J0 X (.builtin "max") (λxs H Q=>∃i j,xs=[.int i,.int j]/\Q (.int (if j>i then j else i)) H):=by
 intro pins s σ H xs us Q I r h;obtain⟨i,j,rfl,q⟩:=h;obtain⟨u,w',rfl,⟨t,rfl⟩,⟨t',rfl⟩⟩:=vals2 r;refine max_two_ints (I.ok.hd hc) λh' tk k=>⟨_,H,I.kept k,?_,q⟩
 by_cases hj:j>i
 .rw[if_pos hj,if_pos hj];exact⟨_,rfl⟩
 .rw[if_neg hj,if_neg hj];exact⟨_,rfl⟩
theorem j64 (hc:X.calm=a7):J0 X (.builtin "min") (λxs H Q=>∃i j,xs=[.int i,.int j]/\Q (.int (if j<i then j else i)) H):=by
 intro pins s σ H xs us Q I r h;obtain⟨i,j,rfl,q⟩:=h;obtain⟨u,w',rfl,⟨t,rfl⟩,⟨t',rfl⟩⟩:=vals2 r;refine min_two_ints (I.ok.hd hc) λh' tk k=>⟨_,H,I.kept k,?_,q⟩
 by_cases hj:j<i
 .rw[if_pos hj,if_pos hj];exact⟨_,rfl⟩
 .rw[if_neg hj,if_neg hj];exact⟨_,rfl⟩
theorem j6a:J0 X (.type "int") (λxs H Q=>(∃i,xs=[.int i]/\Q (.int i) H)\/∃k,xs=[.bl k]/\Q (.int (if k then 1 else 0)) H):=by
 intro pins s σ H xs us Q I r h;rcases h with ⟨i,rfl,q⟩|⟨k,rfl,q⟩
 .obtain⟨u,rfl,t,rfl⟩:=vals1 r;exact call_int_int ⟨.int i,H,I,⟨_,rfl⟩,q⟩
 .obtain⟨u,rfl,r1⟩:=vals1 r;cases r1;exact call_int_bool ⟨.int (if k then 1 else 0),H,I.tok _,⟨_,rfl⟩,q⟩
end
structure Cls(K:k83)(C:ae):Prop where
 pg:W.plainGet K C cY=a7
 hd:W.hasDictIn K C=a7
 po:W.plainOver K C=a7
 sa:W.findIn K (.ref C) "__setattr__" = a5 (a5 (.builtin "object.__setattr__"))
def Ww(K:k83)(C:ae)(f:ah):Prop:=W.findIn K (.ref C) f=a5 a8
structure Meth(K:k83)(C:ae)(m:ah)(f:ae):Prop where
 at_:W.findIn K (.ref C) m=a5 (a5 (.ref f))
 fn:W.isFn K (.ref f)=a7
 kp:W.keepIn K (.ref f)=a7
structure Room(k:Nat)(A:aC):Prop where
 hd:A.handled=a8
 dp:A.depth+3*k+5<bK
 un:A.units+16*k+200<bg
 gd:A.guards=a5 []
theorem Room.mono{j k:Nat}{A:aC}(r:Room k A)(h:j<=k):Room j A:=⟨r.hd,by have:=r.dp;omega,by have:=r.un;omega,r.gd⟩
theorem Room.deeper{k:Nat}{A:aC}(r:Room (k+1) A)(env:cI):Room k (A.deeper env) :=
 ⟨r.hd,by have:=r.dp;show A.depth+1+3*k+5<_;omega,by have:=r.un;show A.units+3+16*k+200<_;omega,r.gd⟩
theorem Room.depth{k:Nat}{A:aC}(r:Room k A):A.depth<bK:=by have:=r.dp;omega
def jki:TA:=λ_ H Q=>Q [] H
def ji8(ta:TE)(tr:TA):TA:=λσ H Q=>ta σ H λx H1=>tr σ H1 λxs H2=>Q (x::xs) H2
section
variable{X:Cx}{e:aj}{es:List aj}{te:TE}{t:TA}{pos:aO}
theorem jm:PA X [] jki:=λ_ _ _ _ H Q I h=>Calls.spliced_nil ⟨[],H,I,.nil,h⟩
theorem j9(ha:PE X e te)(hr:PA X es t)(hs:a9 (e::es) X.env=(a6,aE e X.env)::a9 es X.env:=by rfl):PA X (e::es) (ji8 te t):=by intro pos pins s σ H Q I h;rw[hs];show ax _ _ (spliced ((a6,aE e X.env)::aR pos (a9 es X.env))) _ _ s;refine Calls.spliced_cons (thn (ha pins s σ H _ I h) λu s1 ⟨x,H1,I1,r1,q1⟩=>?_);exact thn (hr pos pins s1 σ H1 _ I1 q1) λus s2 ⟨xs,H2,I2,r2,q2⟩=>⟨x::xs,H2,I2,.cons r1 r2,q2⟩
def jke(t:TA):TE:=λσ H Q=>t σ H λxs H1=>xs.length<=ak/\∀p,H1 p=a8->Q (.ref p) (upd H1 p (.tup xs))
def jkj(t:TA):TE:=λσ H Q=>t σ H λxs H1=>xs.length<=ak/\∀p,H1 p=a8->Q (.ref p) (upd H1 p (.lst xs))
theorem Iv{x1}(h:PA X es t):PE X (.Tuple es x1 pos) (jke t):=by intro pins s σ H Q I hq;refine wpAny_Tuple_spliced (thn (h pos pins s σ H _ I hq) λus s1 ⟨xs,H1,I1,r,z,q⟩=>⟨by rw[<-r.length];exact z,?_⟩);have hf:H1 s1.heap.objs.size=a8:=I1.hok.fresh (X5 _);refine⟨.ref s1.heap.objs.size,upd H1 s1.heap.objs.size (.tup xs),I1.laid (t':=s1.toks) (λb u e=>xu _ e) (X5 _) ?_,rfl,q _ hf⟩;exact⟨z,us,r,⟨_,Xa _ rfl,rfl,_,rfl⟩,Zm.new _ _⟩
theorem jew(h:PA X es t):PE X (.List es pos) (jkj t):=by intro pins s σ H Q I hq;refine wpAny_List_spliced (thn (h pos pins s σ H _ I hq) λus s1 ⟨xs,H1,I1,r,z,q⟩=>⟨by rw[<-r.length];exact z,?_⟩);have hf:H1 s1.heap.objs.size=a8:=I1.hok.fresh (X5 _);refine⟨.ref s1.heap.objs.size,upd H1 s1.heap.objs.size (.lst xs),I1.laid (t':=s1.toks) (λb u e=>xu _ e) (X5 _) ?_,rfl,q _ hf⟩;exact⟨z,us,0,r,Xa _ rfl⟩
end
abbrev Sp:=List V->Hp->VK->XK->Prop
abbrev CXT:=List cI->Hp->af->XK->aa->af->Prop
structure Env0(P:ar)(w:aA)(K:k83)(mg:k86)(base:aG)(A:aC)(outer:List cI)(s:af)(H:Hp):Prop where
 frames:A.frames=a5 outer
 mod:Mod K mg base
 bs:∀b o,base.get? b=a5 o->s.heap.get? b=a5 o/\H b=a8
 bsz:base.objs.size<=s.heap.objs.size
 funs:s.heap.FunFrames base outer
 frf:∀b∈frs outer,H b=a8
 hok:HOk P w H s.heap
 bare:dJ s.gens
def CE(outer:List cI)(P:ar)(w:aA)(H:Hp)(s:af)(Q:VK)(u:aa)(s':af):Prop :=
 ∃v H',s'.os=s.os/\dJ s'.gens/\Un (frs outer) [] H H' s.heap s'.heap/\HOk P w H' s'.heap/\RelV v u/\Q v H'
def CR(CX:CXT)(outer:List cI)(P:ar)(w:aA)(H:Hp)(s:af)(Q:VK)(E:XK)(r:eV)(s':af):Prop :=
 match r with
 |.ok (.ret u)=>CE outer P w H s Q u s'
 |.ok _=>False
 |.error e=>CX outer H s E e s'
structure FnOk(P:ar)(w:aA)(K:k83)(mg:k86)(base:aG)(CX:CXT)(k:Nat)(f:ae)(fd:aJ)(ps:List ah)(sp:Sp):Prop where
 len:∀vs H Q E,sp vs H Q E->vs.length=ps.length
 run:∀(A:aC)(outer:List cI)(s:af)(H:Hp)(args:Args)(us:List aa)(vs:List V) (Q:VK) (E:XK),Room k A->Env0 P w K mg base A outer s H->g6 s fd args (ps.zip us)->Vals vs us->sp vs H Q E ->
  cu (au P w) A (.call (.ref f) args) (CR CX outer P w H s Q E) s
theorem FnOk.imp{P:ar}{w:aA}{K:k83}{mg:k86}{base:aG}{CX:CXT}{k:Nat}{f:ae}{fd:aJ}{ps:List ah}{sp sp':Sp}(F:FnOk P w K mg base CX k f fd ps sp)
  (h:∀vs H Q E,sp' vs H Q E->sp vs H Q E):FnOk P w K mg base CX k f fd ps sp' :=
 ⟨λvs H Q E q=>F.len vs H Q E (h _ _ _ _ q),λA outer s H args us vs Q E hr he hb hv hs=>F.run A outer s H args us vs Q E hr he hb hv (h _ _ _ _ hs)⟩
section
variable{X:Cx}{pins:k85}{σ:St}{H:Hp}{s s':af}
theorem Inv.env0(I:Inv X pins σ H s):Env0 X.prog X.w X.K X.mg X.base X.A X.stack s H :=
 ⟨I.ok.frames,I.ok.mod,I.bs,Xd I.ok.bsz I.sz,I.stack,I.stkFree,I.hok,I.bare⟩
theorem Inv.after{Q:VK}{u:aa}(I:Inv X pins σ H s)(h:CE X.stack X.prog X.w H s Q u s'):EP X pins σ Q u s':=by obtain⟨v,H',os,bare,un,hok,r,q⟩:=h;obtain⟨hh,g,d,t,os'⟩:=s';obtain rfl:os'=s.os:=os;exact⟨v,H',I.call (h':=hh) (g':=g) (d':=d) (t':=t) (ch:=[]) un hok bare (λb z=>absurd z (by simp)),r,q⟩
end
def ji9(sp:Sp)(dvs:List V)(E:XK)(t:TA):TE:=λσ H Q=>t σ H λvs H1=>sp (vs++dvs) H1 Q E
def Binds(K:k83)(fd:aJ)(ps:List ah)(ds:List aa):Prop :=
 ∀(s:af)(us:List aa),K.In s.heap->(us++ds).length=ps.length->g6 s fd ⟨us,[]⟩ (ps.zip (us++ds))
theorem Binds.all{K:k83}{fd:aJ}{ps:List ah}(h:∀us:List aa,us.length=ps.length->cO fd ⟨us,[]⟩=pure (ps.zip us)):Binds K fd ps []:=λs us _ hl=>by rw[Xr]at hl ⊢;exact .of_eq (h us hl)
def j0j(CX:CXT)(X:Cx)(E:XK):Prop:=∀(pins:k85) (σ:St) (H:Hp) (s:af) (e:aa) (s':af),Inv X pins σ H s->CX X.stack H s E e s'->X.xe e s'
section
variable{X:Cx}{CX:CXT}{k:Nat}{f C:ae}{fd:aJ}{ps:List ah}{sp:Sp}{dvs:List V}{ds:List aa}{E:XK}{x m:ah}{p pos apos:aO}{e o:aj}{es:List aj}{ta:TE}{t:TA}
theorem jec{pins:k85}{σ:St}{H:Hp}{s:af}{Q:VK}{us:List aa}{vs:List V}(F:FnOk X.prog X.w X.K X.mg X.base CX k f fd ps sp)(hr:Room k X.A)(hb:Binds X.K fd ps ds)(hd:Vals dvs ds)(hx:j0j CX X E)
  (I:Inv X pins σ H s) (r:Vals vs us) (h:sp (vs++dvs) H Q E):ax (au X.prog X.w) X.A (call (.ref f) us) (EP X pins σ Q) X.xe s:=by
 have r2:Vals (vs++dvs) (us++ds):=r.append hd;have hl:(us++ds).length=ps.length:=by rw[<-r2.length];exact F.len _ _ _ _ h
 refine jZ (cg (F.run X.A X.stack s H ⟨us,[]⟩ (us++ds) (vs++dvs) Q E hr I.env0 (hb s us I.kIn hl) r2 h) λr s' hq=>?_);cases r with
 |error e=>exact hx pins σ H s e s' I hq
 |ok fl =>
  cases fl with
  |ret u=>exact I.after hq
  |next=>exact aY hq
  |brk=>exact aY hq
  |cont=>exact aY hq
theorem Rj(F:FnOk X.prog X.w X.K X.mg X.base CX k f fd ps sp)(hr:Room k X.A)(hg:Gl X x)(hm:X.mg x=a5 (.ref f))(hk:W.keepIn X.K (.ref f)=a7)(hb:Binds X.K fd ps ds)(hd:Vals dvs ds)(hx:j0j CX X E)
  (ha:PA X (e::es) t) (hdb:(x==k87)=a6:=by decide) (he:a9 (e::es) X.env=(a6,aE e X.env)::a9 es X.env:=by rfl) (hpl:(aR pos (a9 es X.env)).any (·.1)=a6:=by rfl) :
  PE X (.Call (.Name x p) (e::es) [] pos) (ji9 sp dvs E t):=by
 intro pins s σ H Q I h;refine br (Zg I hg hm ?_ hdb);refine W.callWith_K (h₀:=X.base) I.ok.mod.kin hk (thn (ha pos pins s σ H _ I h) λus s1 ⟨vs,H1,I1,r,q⟩=>⟨I1.kIn,?_⟩) he hpl;exact jec F hr hb hd hx I1 r q
structure Mk(K:k83)(C f:ae):Prop where
 makes:W.makesIn K C=a7
 init:W.findIn K (.ref C) "__init__" = a5 (a5 (.ref f))
 fn:W.isFn K (.ref f)=a7
 kp:W.keepIn K (.ref C)=a7
end
section
variable{X:Cx}{CX:CXT}{k:Nat}{f C:ae}{fd:aJ}{ps ks:List ah}{sp:Sp}{E:XK}{x m:ah}{p pos apos kpos:aO}{e o:aj}{es:List aj}{kws:List aX}{te ta:TE}{t tk:TA}{nm:Option ah}
structure KBinds(K:k83)(fd:aJ)(ps ks:List ah)(g:List aa->List aa->List aa)(gV:List V->List V->List V):Prop where
 to:∀(s:af)(us ws:List aa),K.In s.heap->(g us ws).length=ps.length->g6 s fd ⟨us,ks.zip ws⟩ (ps.zip (g us ws))
 rel:∀{vs:List V}{us:List aa}{zs:List V}{ws:List aa},Vals vs us->Vals zs ws->Vals (gV vs zs) (g us ws)
variable{g:List aa->List aa->List aa}{gV:List V->List V->List V}
end
structure FnScope(N P:List ah)(sc:bq):Prop where
 kind:sc.kind=.function
 co:sc.isCoroutine=a6
 gen:sc.isGenerator=a6
 nd:N.Nodup
 pre:N.take P.length=P
 par:∀x∈P,sc.names.lookup x=a5 .local\/sc.names.lookup x=a5 .cell
 nofree:∀y∈sc.names,y.2≠.free
theorem Cu{kindOf:ah->Option bE}{x:ah}:∀{binds:List (ah×aa)} {m:k86},(∀v,(x,v)∉binds)->iw kindOf binds m x=m x
 |[],_,_=>rfl
 |(n,v)::r,m,h=>by
  unfold iw;rw[Cu λw hw=>h w (km _ hw)];split
  .have:x≠n:=by rintro rfl;exact h v xm
   simp[this]
  .rfl
theorem Cy{kindOf:ah->Option bE}{x:ah}:∀{binds:List (ah×aa)} {m:k86},(∀v,(x,v)∉binds)->iy kindOf binds m x=m x
 |[],_,_=>rfl
 |(n,v)::r,m,h=>by
  unfold iy;rw[Cy λw hw=>h w (km _ hw)];split
  .rfl
  .have:x≠n:=by rintro rfl;exact h v xm
   simp[this]
theorem Cw{kindOf:ah->Option bE}{x:ah}{v:aa}:∀{P:List ah}{vs:List aa}{i:Nat}{m:k86},P.Nodup->P[i]?=a5 x->vs[i]?=a5 v->kindOf x=a5 .local ->
  iw kindOf (P.zip vs) m x=a5 v
 |[],_,_,_,_,h,_,_=>by simp at h
 |_::_,[],_,_,_,_,h,_=>by simp at h
 |p::P,w::vs,0,m,nd,h1,h2,hk=>by simp at h1 h2;subst h1;subst h2;show iw kindOf ((p,w)::P.zip vs) m p=_;unfold iw;rw[Cu λv hv=>(Xp.mp nd).1 (cP hv).1,if_pos hk];simp
 |p::P,w::vs,i+1,m,nd,h1,h2,hk=>by show iw kindOf ((p,w)::P.zip vs) m x=_;unfold iw;exact Cw (i:=i) (Xp.mp nd).2 (by simpa using h1) (by simpa using h2) hk
theorem Cz{kindOf:ah->Option bE}{x:ah}{v:aa}:∀{P:List ah}{vs:List aa}{i:Nat}{m:k86},P.Nodup->P[i]?=a5 x->vs[i]?=a5 v->kindOf x≠a5 .local ->
  iy kindOf (P.zip vs) m x=a5 v
 |[],_,_,_,_,h,_,_=>by simp at h
 |_::_,[],_,_,_,_,h,_=>by simp at h
 |p::P,w::vs,0,m,nd,h1,h2,hk=>by simp at h1 h2;subst h1;subst h2;show iy kindOf ((p,w)::P.zip vs) m p=_;unfold iy;rw[Cy λv hv=>(Xp.mp nd).1 (cP hv).1,if_neg hk];simp
 |p::P,w::vs,i+1,m,nd,h1,h2,hk=>by show iy kindOf ((p,w)::P.zip vs) m x=_;unfold iy;exact Cz (i:=i) (Xp.mp nd).2 (by simpa using h1) (by simpa using h2) hk
noncomputable def start(N:List ah)(vs:List V):St:=vs.map a5++ao (N.length-vs.length) a8
noncomputable def q8(CX:CXT)(P:ar)(w:aA)(K:k83)(mg:k86)(base:aG)(N:List ah)(qual:ah)(scope:bq)(f:ae)(cd:aa)(A:aC)(outer:List cI)(s:af)(H:Hp)(E:XK):Cx where
 prog:=P
 w:=w
 K:=K
 mg:=mg
 base:=base
 A:=A.deeper (bB qual scope s.heap.objs.size f cd)
 N:=N
 s₀:=s
 H₀:=H
 env:=bB qual scope s.heap.objs.size f cd
 outer:=outer
 stack:=bB qual scope s.heap.objs.size f cd::outer
 ex:=[]
 calm:=a7
 fn:=λ_=>a7
 pn:=[]
 xe:=λe s'=>ax (au P w) (A.deeper (bB qual scope s.heap.objs.size f cd)) (leaving (bB qual scope s.heap.objs.size f cd) e) (λ_ s''=>CX outer H s E e s'') (λe' s''=>CX outer H s E e' s'') s'
theorem j0d{sc:bq}{n:Nat}{x:ah}(h:sc.names.lookup x=a5 .cell):∃c,(aS n sc.names []).lookup x=a5 c:=by have q:=W.cellsFrom_some sc.names n [] (.inl h);exact Xo.mp q
theorem Cd{CX:CXT}{P:ar}{w:aA}{K:k83}{mg:k86}{base:aG}{N ps:List ah}{qual:ah}{scope:bq}{f:ae}{cd:aa}{A:aC}{outer:List cI}{s s1:af}{H:Hp}{E:XK}{us:List aa}{vs:List V}
  (S:FnScope N ps scope) (cm:Bool) (hd:cm=a7->A.handled=a8) (e0:Env0 P w K mg base A outer s H) (hl:vs.length=ps.length) (r:Vals vs us)
  (x:InCallC s s.heap.objs.size (iw (bB qual scope s.heap.objs.size f cd).kindOf (ps.zip us) λ_=>a8) (aS (s.heap.objs.size+1) scope.names []) (iy (bB qual scope s.heap.objs.size f cd).kindOf (ps.zip us) λ_=>a8) s1) :
  Inv { q8 CX P w K mg base N qual scope f cd A outer s H E with calm:=cm } [] (start N vs) H s1:=by
 have hpl:ps.length<=N.length:=by have:=congrArg i6 S.pre;rw[Xj]at this;omega
 obtain⟨h1,tk,rfl,hk⟩:=x.done;have noA:∀b:ae,b∉(q8 CX P w K mg base N qual scope f cd A outer s H E).ex:=λb z=>absurd (show b∈([]:List ae)from z) (by simp);refine⟨⟨e0.mod,S.kind,rfl,rfl,X5 _,λy z c h1 h2=>?_,λy hy=>?_,λy c _ h=>?_,hd,Around.frames_deeper e0.frames,.inr ⟨rfl,rfl⟩,λb z=>absurd z (noA b),e0.bs,e0.bsz,λb _ _=>noA b,λb z=>absurd z (noA b),e0.funs,e0.frf⟩,
  rfl,e0.bare,Un.kept hk,⟨_,x.toInCall.ns,λi y v h1 h2 h3=>?_⟩,λy c h=>⟨_,x.cell y c h⟩,e0.hok.fresh (X5 _),λy c h=>?_,λp hp=>absurd (show p∈([]:k85)from hp) (by simp),e0.hok.kept hk,?_⟩
 .exact name_of_addr x.apart (pq h1) (pq h2)
 .have hy:scope.names.lookup y=a5 .cell\/scope.names.lookup y=a5 .free:=hy;rcases hy with hy|hy
  .exact j0d hy
  .exact absurd rfl (S.nofree _ (pq hy))
 .exact dP (x.above y c (pq h))
 .have hi:i<vs.length:=by
   unfold start at h2;by_cases hi:i<vs.length
   .exact hi
   .rw[d4 (by simpa using hi)]at h2;rw[List.getElem?_replicate]at h2;split at h2<;>cases h2
  have ha:vs[i]?=a5 v:=by
   unfold start at h2;rw[Pk (by simpa using hi),xq]at h2;cases e:vs[i]? with
   |none=>rw[e]at h2;cases h2
   |some a=>rw[e]at h2;cases h2;rfl
  obtain⟨u,hu,rv⟩:=r.get ha;have hp:ps[i]?=a5 y:=by rw[<-S.pre,List.getElem?_take_of_lt nofun];exact h1
  have ndP:ps.Nodup:=by rw[<-S.pre];exact S.nd.sublist (List.take_sublist _ _)
  refine⟨u,rv,?_⟩;rcases S.par y (Xg hp)with k|k
  .exact .inl ⟨k,Cw ndP hp hu k⟩
  .obtain⟨c,e⟩:=j0d (n:=s.heap.objs.size+1) k;refine .inr ⟨.inl k,c,e,?_⟩;have q:=x.cell y c e;rw[Cz ndP hp hu (by show scope.names.lookup y≠_;rw[k];decide)]at q;exact q
 .exact e0.hok.fresh (dP (x.above y c (pq h)))
 .unfold start;show _=N.length;rw[Xb,xf,dW];omega
theorem Inv.extOut{X:Cx}{pins:k85}{σ:St}{H H2:Hp}{s:af}(J:Inv X pins σ H s)(x:Ext X H H2 s):HOk X.prog X.w H2 s.heap/\(X.ex=[]->Un X.fs [] X.H₀ H2 X.s₀.heap s.heap):=by
 have old:∀b o,X.s₀.heap.get? b=a5 o->H2 b=H b:=λb o e=>(x b).elim id λ⟨y,ob,v,hc,hf,_⟩=>absurd (Xf (xn e) (J.ok.cab y b hf hc)) (Xx _);have trk:∀{b:ae}{u:HO},H b=a5 u->H2 b=a5 u:=λ{b u} e=>(x b).elim (λz=>z.trans e) λ⟨y,ob,v,hc,_⟩=>by rw[J.freeC y b hc]at e;cases e
 refine⟨λa o e=>?_,λhx=>?_⟩
 .rcases x a with z|⟨y,ob,v,_,_,e2,e3,_⟩
  .exact(J.hok a o (z▸e)).stay (λ_ _ _ q=>q) (λ_ q=>trk q) (λ_ _ q=>trk q) λ_ _ _ q=>trk q
  .rw[e2]at e;cases e;exact⟨e3,ob,e3⟩
 .have nx:∀b,b∉X.ex:=λb=>by rw[hx];simp
  exact⟨λb o e n hb _=>J.base.keep b o e n hb (nx b),λb o e n hb _=>J.base.slot b o e n hb (nx b),λb o e n _=>(old b o e).trans (J.base.free b o e n (nx b)),λb o e _=>J.base.there b o e (nx b),
   λb xs e=>trk (J.base.tups b xs e),λb o u e=>trk (J.base.frzs b o u e),λb ps e=>let ⟨m,z⟩:=J.base.tbls b ps e;⟨m,trk z⟩⟩
theorem j37{CX:CXT}{P:ar}{w:aA}{K:k83}{mg:k86}{base:aG}{k:Nat}{f:ae}{name qual:ah}{params:iz}{body:List aN}{scope:bq}{dV kV doc pm cdv ct oc:aa}{an od:Option ae}
  {osl:Array (Option aa)} {N ps:List ah} {sp:Sp} (lk:K.lookup f=a5 ⟨oc,od,.func (W.fnOf name qual params body scope dV kV doc pm an cdv ct),osl⟩) (hcd:W.codeIn K cdv qual=a7) (S:FnScope N ps scope)
  (len:∀vs H Q E,sp vs H Q E->vs.length=ps.length)
  (hbody:∀(A:aC)(outer:List cI)(s:af)(H:Hp)(vs:List V)(Q:VK)(E:XK),Room k (A.deeper (bB qual scope s.heap.objs.size f cdv))->sp vs H Q E ->
   ∃t,PSs (q8 CX P w K mg base N qual scope f cdv A outer s H E) body t/\t { nx:=λ_ H'=>Q .non H',rt:=Q } (start N vs) H) :
  FnOk P w K mg base CX (k+1) f (W.fnOf name qual params body scope dV kV doc pm an cdv ct) ps sp:=by
 refine⟨len,λA outer s H args us vs Q E hr e0 hb r hsp=>?_⟩;have hl:=len _ _ _ _ hsp;have KX:K.In s.heap:=e0.mod.kin.keeps λb o e=>(e0.bs b o e).1;have lim:s.heap.NoLimit:=e0.mod.nolimit.keeps λb o e=>(e0.bs b o e).1;have hkind:∀y∈ps.zip us,scope.names.lookup y.1=a5 .local\/(scope.names.lookup y.1=a5 .cell/\((aS (s.heap.objs.size+1) scope.names []).lookup y.1).isSome=a7):=λ⟨n,v⟩ hy=>by
  rcases S.par n (cP hy).1 with q|q
  .exact .inl q
  .exact .inr ⟨q,W.cellsFrom_some _ _ _ (.inl q)⟩
 refine ja hr.depth (KX _ _ lk) rfl S.co S.gen rfl (W.codeRec_of KX hcd) (hb _ _ _ _ ?_);refine gZ S.kind hkind λenv he s1 x=>?_;subst he;refine⟨lim.keeps x.toInCall.keep,codeAny_func ?_⟩;obtain⟨t,ht,hq⟩:=hbody A outer s H vs Q E (hr.deeper _) hsp;have I:Inv (q8 CX P w K mg base N qual scope f cdv A outer s H E) [] (start N vs) H s1:=Cd S a7 (λ_=>hr.hd) e0 hl r x;refine aW (ht [] s1 (start N vs) H _ I hq) (λfl s' hs=>?_) λe s' hs=>hs;have fin:∀{σ':St}{H':Hp}{v:V}{u:aa},Inv (q8 CX P w K mg base N qual scope f cdv A outer s H E) [] σ' H' s'->RelV v u->Q v H'->CE outer P w H s Q u s' :=
  λ{σ' H' v u} J rv q=>⟨v,H',J.os,J.bare,J.base,J.hok,rv,q⟩
 cases fl with
 |ret u =>obtain⟨v,σ',H',H2,J,rv,x,q⟩:=hs;exact⟨v,H2,J.os,J.bare,(J.extOut x).2 rfl,(J.extOut x).1,rv,q⟩
 |next =>obtain⟨σ',H',J,q⟩:=hs;exact fin (v:=V.non) (u:=aI) J rfl q
 |brk =>obtain⟨_,_,_,q⟩:=hs;exact aY q
 |cont =>obtain⟨_,_,_,q⟩:=hs;exact aY q
section
variable{X:Cx}{x:ah}{p pos:aO}{e:aj}{es:List aj}{t:TA}{id T:String}{r:List V->Hp->VK->Prop}
def tCB(r:List V->Hp->VK->Prop)(t:TA):TE:=λσ H Q=>t σ H λvs H1=>r vs H1 Q
theorem zf (hc:J0 X (.builtin id) r) (hg:Gl X x) (hm:X.mg x=a8) (hv:bj x=a5 (.builtin id)) (ha:PA X (e::es) t) (hn:x ≠ "__name__":=by decide) (hdb:(x==k87)=a6:=by decide)
  (he:a9 (e::es) X.env=(a6,aE e X.env)::a9 es X.env:=by rfl) (hpl:(aR pos (a9 es X.env)).any (·.1)=a6:=by rfl):PE X (.Call (.Name x p) (e::es) [] pos) (tCB r t):=by
 intro pins s σ H Q I h;refine br (Zy I hg hm hv ?_ hn hdb);exact callWith_builtin1 (thn (ha pos pins s σ H _ I h) λus s1 ⟨vs,H1,I1,r1,q1⟩=>hc pins s1 σ H1 vs us Q I1 r1 q1) he hpl
theorem Vy (hc:J0 X (.type T) r) (hg:Gl X x) (hm:X.mg x=a8) (hv:bj x=a5 (.type T)) (ha:PA X (e::es) t) (hn:x ≠ "__name__":=by decide) (hdb:(x==k87)=a6:=by decide)
  (he:a9 (e::es) X.env=(a6,aE e X.env)::a9 es X.env:=by rfl) (hpl:(aR pos (a9 es X.env)).any (·.1)=a6:=by rfl):PE X (.Call (.Name x p) (e::es) [] pos) (tCB r t):=by
 intro pins s σ H Q I h;refine br (Zy I hg hm hv ?_ hn hdb);exact callWith_type1 (thn (ha pos pins s σ H _ I h) λus s1 ⟨vs,H1,I1,r1,q1⟩=>hc pins s1 σ H1 vs us Q I1 r1 q1) he hpl
end
end L2
namespace HT
open PySem PyProof.Rows
noncomputable def lexLt:List Int->List Int->Bool
 |[],[]=>a6
 |[],_::_=>a7
 |_::_,[]=>a6
 |x::xs,y::ys=>if x=y then lexLt xs ys else decide (x<y)
theorem lexLt_cons(x y:Int)(xs ys:List Int):lexLt (x::xs) (y::ys)=if x=y then lexLt xs ys else decide (x<y):=rfl
section
variable{prog:ar}{w:aA}{A:aC}{E:k84}{s:af}
theorem cat_tup{t b:ae}{vs ws:List aa}{Q:k84}(ht:gx s.heap t vs.toArray)(hb:gx s.heap b ws.toArray)(hv:vs≠[])
  (h1:ws=[]->Q (.ref t) s) (h2:ws≠[]->Q (.ref s.heap.objs.size) { s with heap:=s.heap.push { cls:=.type "tuple",data:=.seq (vs++ws).toArray } })
  (hsz:vs.length+ws.length<=ak):ax (au prog w) A (bo .Add (.ref t) (.ref b)) Q E s:=by
 obtain⟨⟨cls,dd,data,sl⟩,ho,hc,n,hd⟩:=id ht;obtain⟨⟨cls2,dd2,data2,sl2⟩,ho2,hc2,n2,hd2⟩:=id hb;simp only at hc hd hc2 hd2;subst hc hd hc2 hd2;have e:vs.toArray++ws.toArray=(vs++ws).toArray:=by simp
 by_cases hw:ws=[]
 .exact fX ⟨_,ho,rfl⟩ ⟨_,ho2,rfl⟩ gk ig dn df (d5 _ _)
   (tuple_addW1 t b vs.toArray ws.toArray n n2 dd dd2 sl sl2 (by simpa using hv) (by simp[hw])) ⟨ho,ho2,h1 hw⟩
 .refine fX ⟨_,ho,rfl⟩ ⟨_,ho2,rfl⟩ gk ig dn df (d5 _ _)
   (tuple_addW2 t b vs.toArray ws.toArray n n2 dd dd2 sl sl2 (by simpa using hv) (by simpa using hw) (by rw[xr,xr];exact hsz)) ⟨ho,ho2,?_⟩
  rw[e];exact h2 hw
noncomputable def sIx(n d:Nat):Option Int->Nat
 |none=>d
 |some v=>if v<0 then(v+(n:Int)).toNat else min v.toNat n
theorem sIx_none(n d:Nat):sIx n d a8=d:=rfl
theorem sIx_nat(n d k:Nat):sIx n d (a5 (k:Int))=min k n:=by show(if (k:Int)<0 then((k:Int)+(n:Int)).toNat else min (k:Int).toNat n)=min k n;rw[if_neg nofun,Xe]
theorem je8(n d:Nat)(hd:d<=n)(o:Option Int):sIx n d o<=n:=by
 cases o with
 |none=>exact hd
 |some v =>
  show(if v<0 then(v+(n:Int)).toNat else min v.toNat n)<=n;by_cases hv:v<0
  .rw[if_pos hv];omega
  .rw[if_neg hv];exact Nat.min_le_right _ _
theorem j24(v:Int)(n d:Nat):(if v<0 then max (v+(n:Int)) 0 else min v (n:Int))=((sIx n d (a5 v):Nat):Int):=by
 show(if v<0 then max (v+(n:Int)) 0 else min v (n:Int))=(((if v<0 then(v+(n:Int)).toNat else min v.toNat n):Nat):Int)
 by_cases hv:v<0
 .simp only[if_pos hv];omega
 .simp only[if_neg hv];omega
theorem j3o(lo hi:Option Int)(n:Nat):cM lo hi 1 (n:Int)=(((sIx n 0 lo:Nat):Int),((sIx n n hi:Nat):Int)):=by
 have h1:¬((1:Int)<0):=by omega
 unfold cM;simp only[h1,if_false];refine Prod.ext ?_ ?_
 .cases lo with
  |none=>rfl
  |some v=>exact j24 v n 0
 .cases hi with
  |none=>rfl
  |some v=>exact j24 v n n
theorem j2s(i j:Nat):bL (i:Int) (j:Int) 1=j-i:=by
 unfold bL;have h1:(1:Int)>0:=by omega
 simp only[h1,if_true,Int.ediv_one];split<;>omega
theorem Ot{v:aa}{o:Option Int}{Q:Option Int->af->Prop}(p:eX v o)(h:Q o s):ax (au prog w) A (kO v) Q E s:=by
 cases p with
 |none=>exact m8 h
 |int i t=>exact slicePart_int h
theorem Mp{sl:ae}{vl vu:aa}{lo hi:Option Int}{n:Nat}{Q:Int×Int×Nat->af->Prop}(hs:s.heap.IsSliceOf sl vl vu .none)(pl:eX vl lo)(pu:eX vu hi)
  (h:Q (((sIx n 0 lo:Nat):Int),1,sIx n n hi-sIx n 0 lo) s):ax (au prog w) A (eL (.ref sl) (pure (n:Int))) Q E s:=by
 obtain⟨os,hos,hcs,hds⟩:=id hs;unfold eL kP;refine ai (ai (cE hos hds (x:=vl) rfl (ai (cE hos hds (x:=vu) rfl (ai (cE hos hds (x:=.none) rfl (az ?_)))))));refine ai (m8 ?_);show ax _ _ (if ((1:Int)==0)=a7 then _ else _) _ _ s;rw[if_neg (by decide)];refine ai (Ot pl (ai (Ot pu (ai (az ?_)))));show ax _ _ (match cM lo hi 1 (n:Int)with|(lo,hi)=>pure (lo,(1:Int),bL lo hi 1)) _ _ s;rw[j3o lo hi n];show ax _ _ (pure (((sIx n 0 lo:Nat):Int),(1:Int),bL ((sIx n 0 lo:Nat):Int) ((sIx n n hi:Nat):Int) 1)) _ _ s;rw[j2s];exact az h
theorem j7f(xs:Array aa)(i k:Nat):((aB k).filterMap λ(m:Nat)=>xs[((i:Int)+(m:Int)*1).toNat]?).toArray=((xs.toList.drop i).take k).toArray:=by
 have e:(λ(m:Nat)=>xs[((i:Int)+(m:Int)*1).toNat]?)=λm=>xs[i+m]?:=by
  funext m
  have:((i:Int)+(m:Int)*1).toNat=i+m:=by omega
  rw[this]
 rw[e];have:=pick_run xs i k;rw[List.filterMap_map]at this;have e2:((λx=>xs[x]?) ∘ λx=>i+x)=λm=>xs[i+m]?:=rfl;rw[e2]at this;rw[this]
theorem getItem_tuple_cut{t sl:ae}{items:Array aa}{vl vu:aa}{lo hi:Option Int}{Q:k84}(ht:gx s.heap t items)(hs:s.heap.IsSliceOf sl vl vu .none)(pl:eX vl lo)(pu:eX vu hi)
  (hw:¬(sIx items.size 0 lo=0/\sIx items.size items.size hi=items.size))
  (h:Q (.ref s.heap.objs.size) { s with heap:=s.heap.push { cls:=.type "tuple",data:=.seq ((items.toList.drop (sIx items.size 0 lo)).take (sIx items.size items.size hi-sIx items.size 0 lo)).toArray } })
  (hsz:items.size<=ak):ax (au prog w) A (iN (.ref t) (.ref sl)) Q E s:=by
 have htake:sizeOk (.seq ((items.toList.drop (sIx items.size 0 lo)).take (sIx items.size items.size hi-sIx items.size 0 lo)).toArray):=by show((items.toList.drop (sIx items.size 0 lo)).take (sIx items.size items.size hi-sIx items.size 0 lo)).toArray.size<=ak;rw[xr,Xj,Pj,Tu];omega
 have hj:sIx items.size items.size hi<=items.size:=je8 _ _ (X5 _) hi;obtain⟨os,hos,hcs,hds⟩:=id hs;have hTs:s.TypeIs (.ref sl) "slice":=⟨os,hos,hcs⟩
 unfold iN
 try with_reducible refine dO ?_
 first|refine ai (az ?_)|skip
 refine ai (wpAny_sequenceKey ht.typeIs (by decide) ?_);refine ai (dX (name:=dN "__getitem__") ht.typeIs ka
  (cS ka ht.typeIs entry_tuple_getitem ?_ (args_tuple_getitem _ _)))
 show ax _ _ (kN (.ref t) >>= _) _ _ s;refine ai (tupleItemsOf_ ht ?_);refine ai (wpAny_typeOf hTs ?_);rw[if_pos (by decide)];refine ai (Mp hs pl pu ?_);have hno:¬((((sIx items.size 0 lo:Nat):Int)==0&&(1:Int)==1&&(sIx items.size items.size hi-sIx items.size 0 lo)==items.size)=a7):=by intro q;rw[X8,X8]at q;have q1:((sIx items.size 0 lo:Nat):Int)=0:=eq_of_beq q.1.1;have q2:sIx items.size items.size hi-sIx items.size 0 lo=items.size:=eq_of_beq q.2;exact hw ⟨by omega,by omega⟩
 show ax _ _ (if (((sIx items.size 0 lo:Nat):Int)==0&&(1:Int)==1&&(sIx items.size items.size hi-sIx items.size 0 lo)==items.size)=a7 then _ else _) _ _ s;rw[if_neg hno,j7f]
 first
  |exact ai (m:=bM _) (bG (az ⟨_,rfl,az h⟩) htake)
  |exact ai (m:=bM _) (bG (ai (az (az ⟨_,rfl,az h⟩))) htake)
  |exact ai (ai (m:=bM _) (bG (az (az ⟨_,rfl,az h⟩)) htake))
  |exact ai (ai (m:=bM _) (bG (az ⟨_,rfl,az h⟩) htake))
end
end HT
namespace L2
open PySem PySem.Spec PyProof.Rows
abbrev TO:=St->Hp->(Option Int->Hp->Prop)->Prop
def PO(X:Cx)(e:Option aj)(t:TO):Prop :=
 ∀(pins:k85) (s:af) (σ:St) (H:Hp) (Q:Option Int->Hp->Prop),Inv X pins σ H s->t σ H Q ->
  ax (au X.prog X.w) X.A (evalPart e X.env) (λu s'=>∃o H',Inv X pins σ H' s'/\eX u o/\Q o H') X.xe s
def jax:TO:=λ_ H Q=>Q a8 H
def ji5(t:TE):TO:=λσ H Q=>t σ H λx H1=>∃i,x=.int i/\Q (a5 i) H1
theorem intsAre_of{ns:List Int}:∀{us:List aa},Vals (ns.map V.int) us->cU us ns:=by
 induction ns with
 |nil=>intro us r;rw[cy]at r;cases r;exact .nil
 |cons n ns ih =>
  intro us r;rw[xx]at r;cases r with
  |cons r1 r2 =>obtain⟨t,e⟩:=r1;subst e;exact .cons n t (ih r2)
section
variable{X:Cx}{e:aj}{te:TE}{lo hi:Option aj}{tl th:TO}{pos p2:aO}
theorem jbo:PO X a8 jax:=by intro pins s σ H Q I h;rw[mj];exact az ⟨a8,H,I,.none,h⟩
theorem jbn(h:PE X e te):PO X (a5 e) (ji5 te):=by intro pins s σ H Q I hw;rw[evalPart_some];refine thn (h pins s σ H _ I hw) λu s1 ⟨x,H1,I1,r1,q1⟩=>?_;obtain⟨i,rfl,q⟩:=q1;obtain⟨t,rfl⟩:=r1;exact⟨a5 i,H1,I1,.int i t,q⟩
def SlR(X:Cx)(r:V->Option Int->Option Int->Hp->VK->Prop):Prop :=
 ∀(pins:k85) (s:af) (σ:St) (H:Hp) (x:V) (v vl vu:aa) (lo hi:Option Int) (sl:ae) (Q:VK),Inv X pins σ H s->RelV x v->s.heap.IsSliceOf sl vl vu .none->eX vl lo->eX vu hi->r x lo hi H Q ->
  ∃T id,typeLookup (.type T) "__getitem__" = pure (a5 (.builtin id))/\s.TypeIs v T/\ax (au X.prog X.w) X.A (iN v (.ref sl)) (EP X pins σ Q) X.xe s
def tSl(r:V->Option Int->Option Int->Hp->VK->Prop)(te:TE)(tl th:TO):TE:=λσ H Q=>te σ H λx H1=>tl σ H1 λl H2=>th σ H2 λu H3=>r x l u H3 Q
theorem Mu{r:V->Option Int->Option Int->Hp->VK->Prop}(hr:SlR X r)(he:PE X e te)(hl:PO X lo tl)(hu:PO X hi th):PE X (.Subscript e (.Slice lo hi a8 p2) pos) (tSl r te tl th):=by intro pins s σ H Q I h;refine Subscript_ (thn (he pins s σ H _ I h) λv s1 ⟨x,H1,I1,r1,q1⟩=>?_);refine wpAny_Slice (thn (hl pins s1 σ H1 _ I1 q1) λvl s2 ⟨l,H2,I2,pl,q2⟩=>thn (hu pins s2 σ H2 _ I2 q2) λvu s3 ⟨u,H3,I3,pu,q3⟩=>?_);rw[mj];refine az ?_;have I4:Inv X pins σ H3 { s3 with heap:=s3.heap.push { cls:=.type "slice",data:=.fields #[vl,vu,.none] } }:=I3.kept (t':=s3.toks) λb ob q=>xu _ q;obtain⟨T,id,hT,ht,hg⟩:=hr pins { s3 with heap:=s3.heap.push { cls:=.type "slice",data:=.fields #[vl,vu,.none] } } σ H3 x v vl vu l u s3.heap.objs.size Q I4 r1 (Heap.IsSliceOf.new ..) pl pu q3;show ax (au X.prog X.w) X.A (mn e (.Slice lo hi a8 p2) v (.ref s3.heap.objs.size)) (EP X pins σ Q) X.xe { s3 with heap:=s3.heap.push { cls:=.type "slice",data:=.fields #[vl,vu,.none] } };exact m6 (ops:=[.ref s3.heap.objs.size,v]) ht hT hg (by with_unfolding_all rfl)
noncomputable def Wo(xs:List V)(lo hi:Option Int):List V:=(xs.drop (HT.sIx xs.length 0 lo)).take (HT.sIx xs.length xs.length hi-HT.sIx xs.length 0 lo)
theorem Ma(xs:List V)(lo hi:Option Int):(Wo xs lo hi).length<=xs.length:=by unfold Wo;rw[Xj,Pj];omega
def jkr(K:k83):V->Option Int->Option Int->Hp->VK->Prop:=λx lo hi H Q=>∃a xs,x=.ref a/\SqT K H a xs /\
 ¬(HT.sIx xs.length 0 lo=0/\HT.sIx xs.length xs.length hi=xs.length)/\∀p,H p=a8->Q (.ref p) (upd H p (.tup (Wo xs lo hi)))
theorem jdy:SlR X (jkr X.K):=by
 intro pins s σ H x v vl vu lo hi sl Q I rx hs pl pu h;obtain⟨a,xs,rfl,hx,hw,q⟩:=h;cases rx;obtain⟨its,r,ht,hz⟩:=I.tuple hx;have hlen:its.toArray.size=xs.length:=by rw[xr];exact r.length.symm
 refine⟨"tuple",_,slot_tuple_getitem.lookup,ht.typeIs,?_⟩;refine HT.getItem_tuple_cut ht hs pl pu (by rw[hlen];exact hw) ?_ (by rw[hlen];exact hz);rw[hlen];refine⟨.ref s.heap.objs.size,_,I.laid (t':=s.toks) (o:=.tup (Wo xs lo hi)) (λb ob q=>xu _ q) (X5 _) ?_,rfl,q _ (I.hok.fresh (X5 _))⟩;exact⟨Xd (Ma xs lo hi) hz,_,(r.drop (HT.sIx xs.length 0 lo)).take (HT.sIx xs.length xs.length hi-HT.sIx xs.length 0 lo),IsTup.new _ _,Zm.new _ _⟩
def jik(K:k83):R2:=λx y H Q=>∃a b xs ys,x=.ref a/\y=.ref b/\SqT K H a xs/\SqT K H b ys/\xs≠[]/\xs.length+ys.length<=ak /\
 (ys=[]->Q (.ref a) H)/\(ys≠[]->∀p,H p=a8->Q (.ref p) (upd H p (.tup (xs++ys))))
theorem Vals.nil_iff{xs:List V}{us:List aa}(r:Vals xs us):us=[]↔xs=[]:=by
 cases r with
 |nil=>simp
 |cons _ _=>simp
theorem jbw:OpR X (bo .Add) (jik X.K):=by intro pins s σ H x y v u Q I rx ry h;obtain⟨a,b,xs,ys,rfl,rfl,ha,hb,hx,hz,q1,q2⟩:=h;cases rx;cases ry;obtain⟨its,r1,p1,_⟩:=I.tuple ha;obtain⟨its2,r2,p2,_⟩:=I.tuple hb;refine HT.cat_tup p1 p2 (λz=>hx (r1.nil_iff.mp z)) (λz=>⟨.ref a,H,I,rfl,q1 (r2.nil_iff.mp z)⟩) (λz=>?_) (by rw[<-r1.length,<-r2.length];exact hz);refine⟨.ref s.heap.objs.size,_,I.laid (t':=s.toks) (o:=.tup (xs++ys)) (λb ob q=>xu _ q) (X5 _) ?_,rfl,q2 (λw=>z (r2.nil_iff.mpr w)) _ (I.hok.fresh (X5 _))⟩;exact⟨by rw[Xb];exact hz,_,r1.append r2,IsTup.new _ _,Zm.new _ _⟩
end
noncomputable def ixN(n:Nat)(i:Int):Option Nat:=if 0<=i then(if i<n then a5 i.toNat else a8)else if -(n:Int)<=i then a5 (i+n).toNat else a8
noncomputable def atI{α:Type}(xs:List α)(i:Int):Option α:=(ixN xs.length i).bind λj=>xs[j]?
theorem j1r{n:Nat}{i:Int}{j:Nat}(h:ixN n i=a5 j):kT i n=a5 j/\j<n/\-(n:Int)<=i/\i<n:=by
 unfold ixN at h;by_cases h0:0<=i
 .rw[if_pos h0]at h;by_cases h1:i<n
  .rw[if_pos h1]at h;have e:i.toNat=j:=aw h;exact⟨by rw[seqIndex_of h0 h1,e],by omega,by omega,h1⟩
  .rw[if_neg h1]at h;cases h
 .rw[if_neg h0]at h;by_cases h1:-(n:Int)<=i
  .rw[if_pos h1]at h;have e:(i+n).toNat=j:=aw h;exact⟨by rw[seqIndex_neg nofun h1,e],by omega,h1,by omega⟩
  .rw[if_neg h1]at h;cases h
theorem De{α:Type}{xs:List α}{i:Int}{v:α}(h:atI xs i=a5 v):∃j,kT i xs.length=a5 j/\xs[j]?=a5 v/\j<xs.length/\-(xs.length:Int)<=i/\i<xs.length:=by
 unfold atI at h;cases e:ixN xs.length i with
 |none=>rw[e]at h;cases h
 |some j =>rw[e]at h;obtain⟨h1,h2,h3,h4⟩:=j1r e;exact⟨j,h1,h,h2,h3,h4⟩
theorem Dc{α:Type}{xs:List α}{j:Nat}{v:α}(h:xs[j]?=a5 v):atI xs (j:Int)=a5 v:=by
 have hj:j<xs.length:=(X3.mp h).1;have e:ixN xs.length (j:Int)=a5 j:=by unfold ixN;rw[if_pos nofun,if_pos nofun];simp
 unfold atI;rw[e];exact h
def Ve(b:aj):Prop:=∀o i,subscripted b a6 o i=operate [o,i] (iN o i)
def IxR(X:Cx)(r:R2):Prop :=
 ∀(value slice:aj)(pins:k85) (s:af) (σ:St) (H:Hp) (x y:V) (v u:aa) (Q:VK),Inv X pins σ H s->RelV x v->RelV y u->r x y H Q ->
  subscripted slice a6 v u=operate [v,u] (iN v u)->ax (au X.prog X.w) X.A (mn value slice v u) (EP X pins σ Q) X.xe s
def MtR(X:Cx)(id:String)(r:V->List V->Hp->VK->Prop):Prop :=
 ∀(pins:k85) (s:af) (σ:St) (H:Hp) (x:V) (xs:List V) (v:aa) (us:List aa) (Q:VK),Inv X pins σ H s->RelV x v->Vals xs us->r x xs H Q ->
  ax (au X.prog X.w) X.A (call (.builtin id) (v::us)) (EP X pins σ Q) X.xe s
section
variable{X:Cx}{a b:aj}{ta tb:TE}{pos:aO}
theorem Ba{r:R2}(hr:IxR X r)(ha:PE X a ta)(hb:PE X b tb)(hs:Ve b):PE X (.Subscript a b pos) (tOp r ta tb):=by intro pins s σ H Q I h;exact Subscript_ (j98 ha hb I h λv u s2 x y H2 I2 rx ry q=>hr a b pins s2 σ H2 x y v u Q I2 rx ry q (hs _ _))
def jem(K:k83):R2:=λx y H Q=>∃p xs i v,x=.ref p/\y=.int i/\SqL K H p xs/\atI xs i=a5 v/\Q v H
def jek(K:k83):R2:=λx y H Q=>∃p xs i v,x=.ref p/\y=.int i/\SqT K H p xs/\atI xs i=a5 v/\Q v H
def jel:R2:=λx y H Q=>∃z i c,x=.str z/\y=.int i/\z.length<=ak/\atI z.cps.toList i=a5 c/\Q (.str ⟨#[c]⟩) H
theorem jcd:IxR X (jem X.K):=by
 intro value slice pins s σ H x y v u Q I rx ry h hs;obtain⟨p,xs,i,z,rfl,rfl,hq,he,q⟩:=h;cases rx;obtain⟨t,rfl⟩:=ry;obtain⟨its,r,pl,hz⟩:=I.list hq;obtain⟨j,h1,h2,h3,h4,h5⟩:=De he;obtain⟨w,ew,rw'⟩:=r.get h2;have hl:=r.length;have hn:=Yy;have fin:EP X pins σ Q w s:=⟨z,H,I,rw',q⟩
 by_cases h0:0<=i
 .have hj:i.toNat=j:=by rw[seqIndex_of h0 h5]at h1;exact aw h1
  exact item_listR pl.isList h0 nofun (by rw[hj];simpa using ew) fin hs
 .have hj:(i+(its.toArray.size:Int)).toNat=j:=by rw[seqIndex_neg nofun h4]at h1;rw[xr,<-hl];exact aw h1
  exact iO (x:=w) pl.isList.typeIs slot_list_getitem.lookup
   (wpAny_getItem_list_neg (Q:=λr s'=>r=w/\EP X pins σ Q r s') pl.isList nofun (by rw[xr]<;>omega) nofun (by rw[hj];simpa using ew) ⟨rfl,fin⟩) hs
theorem j5f:IxR X (jek X.K):=by
 intro value slice pins s σ H x y v u Q I rx ry h hs;obtain⟨p,xs,i,z,rfl,rfl,hq,he,q⟩:=h;cases rx;obtain⟨t,rfl⟩:=ry;obtain⟨its,r,pl,hz⟩:=I.tuple hq;obtain⟨j,h1,h2,h3,h4,h5⟩:=De he;obtain⟨w,ew,rw'⟩:=r.get h2;have hl:=r.length;have hn:=Yy;have fin:EP X pins σ Q w s:=⟨z,H,I,rw',q⟩
 exact iO (x:=w) pl.typeIs slot_tuple_getitem.lookup
  (getItem_tuple (j:=j) (Q:=λr s'=>r=w/\EP X pins σ Q r s') pl nofun nofun (by rw[xr,<-hl];exact h1) (by simpa using ew) ⟨rfl,fin⟩) hs
theorem jg0:IxR X jel:=by
 intro value slice pins s σ H x y v u Q I rx ry h hs;obtain⟨z,i,c,rfl,rfl,hz,he,q⟩:=h;obtain⟨t,rfl⟩:=rx;obtain⟨t',rfl⟩:=ry;obtain⟨j,h1,h2,h3,h4,h5⟩:=De he;have hl:z.cps.toList.length=z.length:=by simp[lQ]
 rw[hl]at h1 h4 h5;have hn:=Yy;exact m6 (fD s z t) slot_str_getitem.lookup (getItem_str (c:=c) (by
  have e1:decide (i < -(2^63:Int))=a6:=decide_eq_false nofun
  have e2:decide (i>=2^63)=a6:=decide_eq_false nofun
  rw[e1,e2,eO]) (by rw[h1];simpa using h2) ⟨.str ⟨#[c]⟩,H,I.tok _,⟨_,rfl⟩,q⟩) hs
theorem Kv(lo hi:Option Int)(n:Nat):(cW lo hi a8 n).1=((HT.sIx n 0 lo:Nat):Int)/\(cW lo hi a8 n).2.1=((HT.sIx n n hi:Nat):Int)/\(cW lo hi a8 n).2.2=1:=by
 refine⟨?_,?_,rfl⟩
 .cases lo with
  |none=>simp[cW,HT.sIx]
  |some i =>
   simp only[cW,HT.sIx,iB,show(1:Int)>0 by decide,if_true];by_cases h:i<0
   .simp only[h,if_true]<;>omega
   .simp only[h,if_false]<;>omega
 .cases hi with
  |none=>simp[cW,HT.sIx]
  |some i =>
   simp only[cW,HT.sIx,iB,show(1:Int)>0 by decide,if_true];by_cases h:i<0
   .simp only[h,if_true]<;>omega
   .simp only[h,if_false]<;>omega
theorem Le(its:List aa)(lo hi:Option Int):slicePick its.toArray lo hi a8=((its.drop (HT.sIx its.length 0 lo)).take (HT.sIx its.length its.length hi-HT.sIx its.length 0 lo)).toArray:=by obtain⟨h1,h2,h3⟩:=Kv lo hi its.toArray.size;unfold slicePick;rw[h1,h2,h3];simp only[sliceRange_one,pick_run,xr]<;>rfl
def jkt(K:k83):V->Option Int->Option Int->Hp->VK->Prop:=λx lo hi H Q=>∃a xs,x=.ref a/\SqL K H a xs/\∀p,H p=a8->Q (.ref p) (upd H p (.lst (Wo xs lo hi)))
theorem jb5:SlR X (jkt X.K):=by intro pins s σ H x v vl vu lo hi sl Q I rx hs pl pu h;obtain⟨a,xs,rfl,hx,q⟩:=h;cases rx;obtain⟨its,r,ht,hz⟩:=I.list hx;have hlen:=r.length;refine⟨"list",_,slot_list_getitem.lookup,ht.isList.typeIs,?_⟩;refine wpAny_getItem_list_slice ht.isList hs pl pu .none (by simp) ?_ (by rw[xr]<;>omega);rw[Le,<-hlen];refine⟨.ref s.heap.objs.size,_,I.laid (t':=s.toks) (o:=.lst (Wo xs lo hi)) (λb ob q=>xu _ q) (X5 _) ?_,rfl,q _ (I.hok.fresh (X5 _))⟩;exact⟨Xd (Ma xs lo hi) hz,_,0,(r.drop (HT.sIx xs.length 0 lo)).take (HT.sIx xs.length xs.length hi-HT.sIx xs.length 0 lo),Xa _ rfl⟩
theorem Wt:J0 X (.builtin "len") (λxs H Q=>∃p ys,xs=[.ref p]/\(SqL X.K H p ys\/SqT X.K H p ys)/\Q (.int ys.length) H):=by
 intro pins s σ H xs us Q I r h;obtain⟨p,ys,rfl,hq,q⟩:=h;obtain⟨u,rfl,rx⟩:=vals1 r;cases rx;have hn:=Yy;rcases hq with hq|hq
 .obtain⟨its,r',pl,hz⟩:=I.list hq;have hlen:=r'.length;exact Calls.call_len_list pl.isList (by simp only[xr]<;>omega) ⟨.int ys.length,H,I.tok _,⟨s.toks+1,by rw[xr,hlen]⟩,q⟩
 .obtain⟨its,r',pl,hz⟩:=I.tuple hq;have hlen:=r'.length;exact len_tuple pl (by simp only[xr]<;>omega) ⟨.int ys.length,H,I.tok _,⟨s.toks+1,by rw[xr,hlen]⟩,q⟩
theorem j0f:J0 X (.builtin "len") (λxs H Q=>∃z,xs=[.str z]/\z.length<=ak/\Q (.int z.length) H):=by intro pins s σ H xs us Q I r h;obtain⟨z,rfl,hz,q⟩:=h;obtain⟨u,rfl,t,rfl⟩:=vals1 r;have hn:=Yy;exact len_str nofun ⟨.int z.length,H,I.tok _,⟨_,rfl⟩,q⟩
theorem j0e:J0 X (.type "list") (λxs H Q=>∃p ys,xs=[.ref p]/\(SqL X.K H p ys\/SqT X.K H p ys)/\∀l,H l=a8->Q (.ref l) (upd H l (.lst ys))):=by
 intro pins s σ H xs us Q I r h;obtain⟨p,ys,rfl,hq,q⟩:=h;obtain⟨u,rfl,rx⟩:=vals1 r;cases rx;have fin:∀(its:List aa),Vals ys its->ys.length<=ak->∀(h':aG)(c':Nat),(∀b o',s.heap.get? b=a5 o'->h'.get? b=a5 o') ->
   h'.get? s.heap.objs.size=a5 { cls:=.type "list",dict:=a8,data:=.seq its.toArray c',slots:=#[] }->EP X pins σ Q (.ref s.heap.objs.size) { s with heap:=h' }:=λits r' hz h' c' kp e =>
  ⟨.ref s.heap.objs.size,_,I.laid (t':=s.toks) kp (X5 _) (show jg X.prog X.w _ h' _ (.lst ys) from⟨hz,its,c',r',e⟩),rfl,q _ (I.hok.fresh (X5 _))⟩
 rcases hq with hq|hq
 .obtain⟨its,r',pl,hz⟩:=I.list hq;have hlen:=r'.length;obtain⟨o,ho,hc,n,hd⟩:=pl.isList;exact mm p (.inl rfl) ho hc hd (λh' c' kp e=>fin its r' hz h' c' kp e) (by simp only[xr]<;>omega)
 .obtain⟨its,r',pl,hz⟩:=I.tuple hq;have hlen:=r'.length;obtain⟨o,ho,hc,n,hd⟩:=pl;exact mm p (.inr rfl) ho hc hd (λh' c' kp e=>fin its r' hz h' c' kp e) (by simp only[xr]<;>omega)
theorem Lh:J0 X (.type "tuple") (λxs H Q=>∃p ys,xs=[.ref p]/\((SqL X.K H p ys/\∀l,H l=a8->Q (.ref l) (upd H l (.tup ys)))\/(SqT X.K H p ys/\Q (.ref p) H))):=by
 intro pins s σ H xs us Q I r h;obtain⟨p,ys,rfl,h⟩:=h;obtain⟨u,rfl,rx⟩:=vals1 r;cases rx;rcases h with ⟨hq,q⟩|⟨hq,q⟩
 .obtain⟨its,r',pl,hz⟩:=I.list hq;have hlen:=r'.length;refine call_tuple_list pl.isList (λh' kp=>?_) (by simp only[xr]<;>omega);have I1:Inv X pins σ H { s with heap:=h' }:=I.kept (t':=s.toks) kp;have I2:Inv X pins σ (upd H h'.objs.size (.tup ys)) { s with heap:=h'.push { cls:=.type "tuple",data:=.seq its.toArray } } :=
   I1.laid (t':=s.toks) (λb o e=>xu _ e) (X5 _) (show jg X.prog X.w _ _ _ (.tup ys) from⟨hz,its,r',IsTup.new _ _,Zm.new _ _⟩)
  exact⟨.ref h'.objs.size,_,I2,rfl,q _ (I1.hok.fresh (X5 _))⟩
 .obtain⟨its,r',pl,hz⟩:=I.tuple hq;exact call_tuple_same pl ⟨.ref p,H,I,rfl,q⟩
def tyV(K:k83)(T:String)(x:V)(H:Hp):Prop:=match x with
 |.str _=>T = "str"
 |.int _=>T = "int"
 |.ref p=>(T = "list"/\∃xs,SqL K H p xs)\/(T = "tuple"/\∃xs,SqT K H p xs) \/
   (T = "dict"/\((∃kvs,H p=a5 (.dK kvs))\/∃kvs,H p=a5 (.dT kvs)))\/(T = "set"/\∃S n,H p=a5 (.set S n))
 |_=>False
theorem jdk{pins:k85}{σ:St}{H:Hp}{s:af}{T:String}{x:V}{v:aa}(I:Inv X pins σ H s)(r:RelV x v)(ty:tyV X.K T x H) :
  s.TypeIs v T/\∀a,v=.ref a->∃ob,s.heap.get? a=a5 ob/\ob.dict=a8:=by
 cases x with
 |str z =>obtain⟨t,rfl⟩:=r;cases(show T = "str" from ty);exact⟨fD s z t,λ_ e=>nomatch e⟩
 |int i =>obtain⟨t,rfl⟩:=r;cases(show T = "int" from ty);exact⟨fE s i t,λ_ e=>nomatch e⟩
 |ref p =>
  cases r;rcases ty with ⟨rfl,xs,hq⟩|⟨rfl,xs,hq⟩|⟨rfl,hk⟩|⟨rfl,S,n,hk⟩
  .obtain⟨its,_,pl,_⟩:=I.list hq;refine⟨pl.isList.typeIs,λa e=>?_⟩;cases e;obtain⟨o,n,e,c,hd,_⟩:=pl;exact⟨o,e,hd⟩
  .obtain⟨its,_,⟨o,e1,e2,_⟩,_⟩:=I.tuple hq;refine⟨⟨o,e1,e2⟩,λa e=>?_⟩;cases e;exact⟨o,e1,I.tupD hq o e1⟩
  .have z:∃o,s.heap.get? p=a5 o/\o.ExactDict:=by
    rcases hk with ⟨kvs,hk⟩|⟨kvs,hk⟩
    .obtain⟨_,_,_,_,o,_,_,e,ex,_⟩:=I.hok p _ hk;exact⟨o,e,ex⟩
    .obtain⟨_,_,_,_,o,_,_,e,ex,_⟩:=I.hok p _ hk;exact⟨o,e,ex⟩
   obtain⟨o,e,ex⟩:=z;refine⟨⟨o,e,ex.1⟩,λa e2=>?_⟩;cases e2;exact⟨o,e,ex.2.1⟩
  .obtain⟨o,_,_,_,e,ex,_⟩:=I.hok p _ hk;refine⟨⟨o,e,ex.1⟩,λa e2=>?_⟩;cases e2;exact⟨o,e,ex.2.1⟩
 |_=>exact aY ty
def tBM(K:k83)(T:String)(r:V->List V->Hp->VK->Prop)(to:TE)(t:TA):TE:=λσ H Q=>to σ H λx H1=>tyV K T x H1/\t σ H1 λxs H2=>r x xs H2 Q
variable{o e:aj}{es:List aj}{to:TE}{t:TA}{name:ah}{apos cpos:aO}{T id:String}{r:V->List V->Hp->VK->Prop}
theorem U9 (pa:PlainAttrs T) (slot:Slot T name id) (hty:typeOf (.builtin id)=pure (.type "method_descriptor")) (hm:MtR X id r) (ho:PE X o to) (ha:PA X (e::es) t)
  (hbase:aV o name X.env (aE o X.env)=aE o X.env:=by rfl)
  (hfew:((aR cpos (a9 (e::es) X.env)).all (λx=>!x.1)&&(bH cpos (bf [] X.env)).all (λx=>x.1.isSome)
   && decide ((e::es).length+([]:List aX).length+(if ([]:List aX).isEmpty then 0 else 1)<30))=a7:=by rfl)
  (hline:(apos.endLine==cpos.line)=a7:=by rfl) (hs:a9 (e::es) X.env=(a6,aE e X.env)::a9 es X.env:=by rfl) (hplain:(aR cpos (a9 es X.env)).any (·.1)=a6:=by rfl) :
  PE X (.Call (.Attribute o name apos) (e::es) [] cpos) (tBM X.K T r to t):=by
 intro pins s σ H Q I h;refine wpAny_Call_method_late hbase hfew hline rfl (thn (ho pins s σ H _ I h) λv s1 ⟨x,H1,I1,r1,ty,q1⟩=>?_);obtain⟨h1,h2⟩:=jdk I1 r1 ty;refine⟨T,id,pa,slot,hty,h1,h2,?_⟩;have hA:=ha cpos pins s1 σ H1 _ I1 q1;rw[hs]at hA ⊢;refine Calls.callWith_builtin (by show(a6 || (aR cpos (a9 es X.env)).any (·.1))=a6;rw[hplain]<;>rfl) (gY ?_);exact thn hA λus s2 ⟨vs,H2,I2,r2,q2⟩=>hm pins s2 σ H2 x vs v us Q I2 r1 r2 q2
/- xs.append(e),list.index on a module's tuple .. are MtR facts of 06m -/
end
def MtM(X:Cx)(id:String)(r:V->List V->Hp->VK->Prop):Prop :=
 ∀(pins:k85) (s:af) (σ:St) (H:Hp) (x:V) (xs:List V) (v:aa) (us:List aa) (Q:VK),Inv X pins σ H s->RelV x v->Vals xs us->r x xs H Q ->
  ax (au X.prog X.w) X.A (call (.builtin id) (v::us)) (EP X pins σ Q) X.xe s
theorem Vals.one{x:V}{us:List aa}(h:Vals [x] us):∃u,us=[u]/\RelV x u:=by cases h with|cons r t=>cases t;exact⟨_,rfl,r⟩
theorem Vals.zero:∀{us:List aa},Vals [] us->us=[]
 |_,.nil=>rfl
theorem Vals.eraseIdx:∀{xs:List V}{us:List aa}(i:Nat),Vals xs us->Vals (xs.eraseIdx i) (us.eraseIdx i)
 |_,_,_,.nil=>.nil
 |_,_,0,.cons _ t=>t
 |_,_,i+1,.cons r t=>.cons r (Vals.eraseIdx i t)
theorem Vals.reverse{xs:List V}{us:List aa}(h:Vals xs us):Vals xs.reverse us.reverse:=by
 induction h with
 |nil=>exact .nil
 |cons r t ih=>rw[iS,iS];exact Vals.append ih (.cons r .nil)
theorem Vals.rep{xs:List V}{us:List aa}(h:Vals xs us):∀k:Nat,Vals (ao k xs).flatten (ao k us).flatten
 |0=>.nil
 |k+1=>by rw[P0,P0,Tn,Tn];exact Vals.append h (Vals.rep h k)
theorem Dt{α:Type}:∀(l:List α)(i:Nat),(l.eraseIdx i).length<=l.length
 |[],_=>X5 _
 |_::_,0=>Xv _
 |_::r,i+1=>Nat.succ_le_succ (Dt r i)
theorem foldl_rep(its:List aa):∀(k:Nat)(acc:List aa),
  bF (λx1 x2=>x1++x2) acc.toArray (ao k its.toArray)=(acc++(ao k its).flatten).toArray
 |0,acc=>by simp
 |k+1,acc=>by
  have e:acc.toArray++its.toArray=(acc++its).toArray:=by simp
  have e2:(acc++its)++(ao k its).flatten=acc++(ao (k+1) its).flatten:=by rw[P0,Tn,Tp]
  rw[<-e2,<-foldl_rep its k (acc++its),<-e,P0,Tg]
section
variable{X:Cx}{pins:k85}{σ:St}{H:Hp}{s:af}{l b:ae}{xs ys zs:List V}
theorem Inv.lset{its its':List aa}{n:Nat}{f:Array aa->Array aa}{t':Nat}(I:Inv X pins σ H s)(hH:H l=a5 (.lst xs))
  (e:s.heap.get? l=a5 { cls:=.type "list",data:=.seq its.toArray n }) (hf:f its.toArray=its'.toArray) (hv:Vals ys its') (hz:ys.length<=ak) :
  Inv X pins σ (upd H l (.lst ys)) { s with heap:=s.heap.update l (aZ f),toks:=t' }:=by
 have q:=PySem.IsL.update e f;rw[hf]at q;refine I.write (x:=l) (e:=l) (by rw[hH];exact trivial) (.inl rfl) (λb' u hb hu=>(Heap.get?_update_other s.heap (aZ f) (bT hb)).trans hu) ⟨_,q⟩ ?_;exact⟨hz,its',_,hv,q⟩
theorem Inv.lnew{its:List aa}{t':Nat}(I:Inv X pins σ H s)(hv:Vals ys its)(hz:ys.length<=ak) :
  Inv X pins σ (upd H s.heap.objs.size (.lst ys)) { s with heap:=s.heap.push { cls:=.type "list",data:=.seq its.toArray },toks:=t' } :=
 I.laid (λ_ _ q=>xu _ q) (X5 _) ⟨hz,its,0,hv,Xa _ rfl⟩
theorem Inv.fresh(I:Inv X pins σ H s):H s.heap.objs.size=a8:=I.hok.fresh (X5 _)
theorem Inv.lstM(I:Inv X pins σ H s)(hH:H l=a5 (.lst xs)):xs.length<=ak/\∃(its:List aa)(n:Nat),Vals xs its/\xs.length=its.length/\s.heap.get? l=a5 { cls:=.type "list",data:=.seq its.toArray n }:=by obtain⟨z,its,n,r,e⟩:=I.hok l _ hH;exact⟨z,its,n,r,r.length,e⟩
theorem Iz{n:Nat}(h:n<=ak):bQ n=a6:=by unfold bQ;exact decide_eq_false nofun
end
section
variable{X:Cx}
def jbl:V->List V->Hp->VK->Prop:=λx vs H Q=>∃l xs y,x=.ref l/\vs=[y]/\H l=a5 (.lst xs)/\xs.length<ak/\Q .non (upd H l (.lst (xs++[y])))
theorem W7:MtM X "list.append" jbl:=by intro pins s σ H x vs v us Q I rx rv h;obtain⟨l,xs,y,rfl,rfl,hH,hz,q⟩:=h;cases rx;obtain⟨u,rfl,ru⟩:=rv.one;obtain⟨z,its,n,r,hl,e⟩:=I.lstM hH;refine bN dF ⟨_,e,rfl⟩ F.entry_list_append (F.args_list_append_2 _ _) (PySem.list_append l its.toArray n u (by rw[xr];omega)) ⟨e,?_⟩;refine⟨.non,_,I.lset (its':=its++[u]) hH e (by simp) (r.append (.cons ru .nil)) ?_,rfl,q⟩;rw[Xb,hZ];omega
def jbk:V->List V->Hp->VK->Prop:=λx vs H Q=>∃l b xs zs,x=.ref l/\vs=[.ref b]/\H l=a5 (.lst xs)/\H b=a5 (.lst zs)/\xs.length+zs.length<=ak/\Q .non (upd H l (.lst (xs++zs)))
theorem j53:MtM X "list.extend" jbk:=by
 intro pins s σ H x vs v us Q I rx rv h;obtain⟨l,b,xs,zs,rfl,rfl,hH,hB,hz,q⟩:=h;cases rx;obtain⟨u,rfl,ru⟩:=rv.one;cases ru;obtain⟨z,its,n,r,hl,e⟩:=I.lstM hH;obtain⟨z2,its2,n2,r2,hl2,e2⟩:=I.lstM hB;have hsz:its.toArray.size+its2.toArray.size<=ak:=by rw[xr,xr];omega
 have hlong:¬(!its.toArray.isEmpty&&bQ (its.toArray.size+its2.toArray.size))=a7:=by rw[Iz hsz,gf];exact xg
 refine bN gX ⟨_,e,rfl⟩ F.entry_list_extend (F.args_list_extend_2 _ _)
  (AutoSeq1.list_extend_list_list_0 l its.toArray n b its2.toArray n2 hlong (by rw[xr];omega) nofun) ⟨e,e2,?_⟩
 refine⟨.non,_,I.lset (its':=its++its2) hH e (by simp) (r.append r2) ?_,rfl,q⟩;rw[Xb];omega
def jej:V->List V->Hp->VK->Prop:=λx vs H Q=>∃l xs i k y,x=.ref l/\vs=[.int i]/\H l=a5 (.lst xs)/\-(2^63)<=i/\i<2^63/\kT i xs.length=a5 k/\xs[k]?=a5 y/\Q y (upd H l (.lst (xs.eraseIdx k)))
theorem j7l:MtM X "list.pop" jej:=by
 intro pins s σ H x vs v us Q I rx rv h;obtain⟨l,xs,i,k,y,rfl,rfl,hH,h1,h2,hk,hy,q⟩:=h;cases rx;obtain⟨u,rfl,ru⟩:=rv.one;obtain⟨t,rfl⟩:=ru;obtain⟨z,its,n,r,hl,e⟩:=I.lstM hH;obtain⟨w,hw,rw'⟩:=r.get hy;refine bN iu ⟨_,e,rfl⟩ F.entry_list_pop (F.args_list_pop_2 _ _)
  (MeetsSeq.list_pop_at l its.toArray n i t k w (lV h1 h2) (by rw[xr,<-hl];exact hk) (by rw[<-dU];exact hw) (by rw[xr];omega)) ⟨e,?_⟩
 refine⟨y,_,I.lset (its':=its.eraseIdx k) hH e ?_ (r.eraseIdx k) ?_,rw',q⟩
 .show its.toArray.eraseIdxIfInBounds k=(its.eraseIdx k).toArray;rw[List.eraseIdxIfInBounds_toArray]
 .have:=Dt xs k;omega
def jkv:R2:=λx y H Q=>∃l k xs,x=.ref l/\y=.int k/\H l=a5 (.lst xs)/\-(2^63)<=k/\k<2^63/\xs.length*k.toNat<=ak /\
 ∀p,H p=a8->Q (.ref p) (upd H p (.lst (ao k.toNat xs).flatten))
theorem len_rep{α:Type}(xs:List α)(k:Nat):(ao k xs).flatten.length=k*xs.length:=by
 induction k with
 |zero=>simp
 |succ k ih=>rw[P0,Tn,Xb,ih,kX,Nat.add_comm]
theorem jf4:OpR X (bo .Mult) jkv:=by
 intro pins s σ H x y v u Q I rx ry h;obtain⟨l,k,xs,rfl,rfl,hH,h1,h2,hz,q⟩:=h;cases rx;obtain⟨t,rfl⟩:=ry;obtain⟨z,its,n,r,hl,e⟩:=I.lstM hH;have hlen:its.toArray.size*k.toNat<=ak:=by rw[xr,<-hl];exact hz
 have hcap:¬its.toArray.size*k.toNat>(2^63-1)/8:=by
  have:(ak:Nat)<=(2^63-1)/8:=by decide
  omega
 have hfit:¬(!Builtin.List.listFitsIndex k)=a7:=by rw[lV h1 h2];exact xg
 have hlong:¬bQ (its.toArray.size*k.toNat)=a7:=by rw[Iz hlen];exact xg
 have hnew:bF (λx1 x2=>x1++x2) #[] (ao (if its.toArray.isEmpty=a7 then 0 else k.toNat) its.toArray)=(ao k.toNat its).flatten.toArray:=by
  have f0:∀m:Nat,bF (λx1 x2=>x1++x2) #[] (ao m its.toArray)=(ao m its).flatten.toArray:=λm=>by have:=foldl_rep its m [];rw[fK]at this;exact this
  rw[f0];cases its with
  |nil=>simp
  |cons a r'=>rw[if_neg (by simp)]
 refine i4 (T:="list") (U:="int") (by decide) ⟨_,e,rfl⟩ (λs'=>fE s' k t) noFill_list_mul kn eA repeat_list F.slot_int_index.lookup
  (bN eA (fE s k t) jX (jQ _ _) (int___rmul___int_list k t l its.toArray n)
   ⟨e,rfl,⟨_,e,rfl⟩,bN F.slot_list_mul ⟨_,e,rfl⟩ F.entry_list_mul (F.args_list_mul_2 _ _) (AutoListH.list___mul___list_int_3 l its.toArray n k t hfit hcap hlong) ⟨e,?_⟩⟩)
 rw[hnew];exact⟨.ref _,_,I.lnew (t':=s.toks) (r.rep k.toNat) (by rw[len_rep,fc];exact hz),rfl,q _ I.fresh⟩
end
end L2
namespace Att
open PySem PySem.W PySem.Calls PyProof.Rows
theorem Bl{P:lY}{h:aG}:∀(ns:List Int)(vs:List aa),WellAll P h vs (ns.map WData.int)->cU vs ns:=by
 intro ns;induction ns with
 |nil =>intro vs w;rw[cy]at w;cases w;exact .nil
 |cons n ns ih =>
  intro vs w;rw[xx]at w;cases w with
  |cons a b =>cases a;exact .cons _ _ (ih _ b)
theorem j4f{l:dj}{n:Nat}(hn:l.most=a5 n){P:lY}{h:aG}{args:List WData}{vals:List aa}
  (hpre:l.row.toRowW.claim.pre args=a7) (hwl:WellAll P h vals args) :
  ∃a vs ns,vals=[aH a]/\args=[WData.list (ns.map WData.int)]/\h.get? a=a5 { cls:=.type "list",data:=.seq vs.toArray }/\cU vs ns/\ns.length<=n:=by
 have hsh:WShape.hasAll [] args [.list .int]=a7:=(pre_splitW hpre).1;have hc:l.pre.holds [] { args:=args }=a7:=(pre_splitW hpre).2;obtain⟨d,r,rfl,h1,h2⟩:=hasAllW_cons hsh;obtain rfl:=hasAllW_nil h2;obtain⟨xs,rfl,h3⟩:=hasW_list h1;obtain⟨ns,rfl⟩:=items_int h3;have hlen:ns.length<=n:=by
  unfold OpenLaw.pre at hc;have h4:(WTm.not (.lt (.lit (.int (n:Int))) (.len (.arg 0)))).holds [] { args:=[.list (ns.map .int)] }=a7:=by have h4:=(holds_andW hc).1;rw[hn]at h4;exact h4
  have h5:=condW_of h4 (w_not (w_lt w_lit (w_len_list (w_arg rfl))));rw[xf]at h5;refine Nat.le_of_not_lt λq=>?_;have q':(n:Int)<((ns.length:Nat):Int):=by omega
  first
   |(rw[decide_eq_true q']at h5;exact absurd h5 (by decide))
   |(simp at h5;omega)
 cases hwl with
 |cons w1 w2 =>
  cases w2;cases w1 with
  |list ho hall=>exact⟨_,_,ns,rfl,rfl,ho,Bl ns _ hall,hlen⟩
theorem j4m(l:dj)(args:List WData):l.row.toRowW.claim.post args (.bool a7) args=a7 :=
 postW_of (r:=l.row.toRowW) (X:=(a7==a7))
  (show WShape.has [] (.bool a7) .bool=a7 by first|rfl|decide|simp[WShape.has,WShape.arms,WShape.armsAll])
  (show(WTm.eq .res (.lit (.bool a7))).value [] { args:=args,res:=a5 (.bool a7),after:=args }=a5 (.bool (a7==a7))from w_eq_bool (w_res rfl) w_lit) rfl
theorem attach_call{l:dj}{n:Nat}{q:ar}{loose:List ah}{XP:(ah->Option aa)->aG->Prop}{YP:aA->aG->Prop}{d:DefRec}
  (hn:l.most=a5 n) (hdf:d.params.defaults=[])
  (call:∀(w:aA)(s₀ s₁:af)(mg mb:k86)(fa:ae)(o:cF)(pm cd doc:aa)(a:ae) (vs:List aa) (ns:List Int),
   Ground q loose [] XP w s₀ mg mb s₁.heap->YP w s₁.heap ->
   s₁.heap.get? fa=a5 o->o.data=.func (docDef d.name d.params d.body d.scope pm cd doc)->s₁.heap.CodeRec cd d.name->mg d.name=a5 (.ref fa) ->
   s₁.heap.get? a=a5 { cls:=.type "list",data:=.seq vs.toArray }->cU vs ns->ns.length<=n->s₁.gens = #[] ->
   cu (au l.prog w) fY (.call (.ref fa) ⟨[.ref a],[]⟩) (λr s'=>r=.ok (.ret (.bool a7))/\OldK s₁.heap s'.heap/\s'.os=s₁.os/\dJ s'.gens) s₁) :
  i9 q loose XP YP l.row.toRowW d [] (λf vs=>ij f vs):=by
 intro w s₀ s₁ mg mb G Y fa o pm cd doc dV kV ho hd hcd hD hmg hg args vals as hpre hlay hrd hwl hlo;obtain rfl:dV=.none:=Dflts.none hD hdf;obtain rfl:kV=.none:=Dflts.noKw hD;obtain⟨a,vs,ns,rfl,rfl,hobj,hints,hlen⟩:=j4f hn hpre hwl;refine enter_call (cg (call w s₀ s₁ mg mb fa o pm cd doc a vs ns G Y ho (fd_plain hd) hcd hmg hobj hints hlen hg) λr s' hq=>?_);obtain⟨rfl,h2,h3,h4⟩:=hq;exact⟨.inl ⟨.bool a7,.bool a7,[],rfl,λ_=>rfl,.bool a7,j4m l _,λ_=>⟨List.Pairwise.nil,λ_ hm=>(nomatch hm)⟩⟩,h2,h3,h4⟩
end Att
namespace L2
open PySem PySem.Spec PyProof.Rows
theorem Di:∀{vs:List aa}{ns:List Int},cU vs ns->Vals (ns.map V.int) vs
 |_,_,.nil=>.nil
 |_,_,.cons n t h=>.cons ⟨t,rfl⟩ (Di h)
def Only(ts:List (ae×ah))(H:Hp):Prop:=(∀b,H b=a8\/(∃o xs,H b=a5 (.frz o (.lst xs)))\/∃q,(b,q)∈ts/\H b=a5 (.cod q))/\∀t∈ts,H t.1=a5 (.cod t.2)
def j9h(ts:List (ae×ah))(h:aG):Prop:=(ts.map (·.1)).Nodup/\∀t∈ts,(∃c,PySem.W.CodeHd h c t.1)/\h.get? t.1=a5 (W.tabObj #[])
theorem j16:∀{ts:List (ae×ah)} {b:ae} {q:ah},ts.lookup b=a5 q->(b,q)∈ts
 |p::r,b,q,h=>by
  rw[Xk]at h;cases e:b==p.1 with
  |true=>rw[e]at h;cases h;rw[beq_iff_eq.mp e];exact xm ..
  |false=>rw[e]at h;exact km _ (j16 h)
theorem lookup_tab:∀{ts:List (ae×ah)},(ts.map (·.1)).Nodup->∀t∈ts,ts.lookup t.1=a5 t.2
 |[],_,_,h=>by cases h
 |p::r,nd,t,ht=>by
  rw[xx]at nd;rcases xj.mp ht with e|ht
  .subst e;rw[Xk,beq_self_eq_true]
  .have ne:(t.1==p.1)=a6:=beq_eq_false_iff_ne.mpr λz=>(Xp.mp nd).1 (z▸il ht);rw[Xk,ne];exact lookup_tab (Xp.mp nd).2 t ht
theorem j7r{P:ar}{w:aA}{K:k83}{mg mb:k86}{CX:CXT}{k:Nat}{fa a:ae}{fd:aJ}{x:ah}{sp:Sp}{s₁:af}{vs:List aa}{ns:List Int}{ts:List (ae×ah)}
  (KX:K.In s₁.heap) (hns:s₁.heap.Ns aq mg) (hb:s₁.heap.Ns dr mb) (hbb:∀x:ah,x ≠ "__name__"->mb x=bj x) (hlim:s₁.heap.NoLimit)
  (hbm:∃bm ob,mg "__builtins__" = a5 (.ref bm)/\bm≠dr/\s₁.heap.get? bm=a5 ob/\ob.cls=.type "module"/\ob.dict=a5 dr/\ob.data=.plain) (hT:j9h ts s₁.heap) (hK0:W.noTabs K=a7) (hg:s₁.gens = #[])
  (ha:s₁.heap.get? a=a5 { cls:=.type "list",data:=.seq vs.toArray }) (hi:cU vs ns) (hl:ns.length<=ak) (hr:Room k fY)
  (F:∀base:aG,K.In base->base.Ns aq mg->FnOk P w K mg base CX k fa fd [x] sp) (hbind:∀(s:af)(u:aa),g6 s fd ⟨[u],[]⟩ [(x,u)])
  (hsp:∀H:Hp,Only ts H->SqL K H a (ns.map V.int)->sp [.ref a] H (λv H'=>v=.bl a7/\∀b o,H b=a5 o->H' b=a5 o) λ_ _ _=>False)
  (hCX:∀H e s',CX [] H s₁ (λ_ _ _=>False) e s'->False) :
  cu (au P w) fY (.call (.ref fa) ⟨[.ref a],[]⟩) (λr s'=>r=.ok (.ret (.bool a7))/\OldK s₁.heap s'.heap/\s'.os=s₁.os/\dJ s'.gens) s₁:=by
 have rv:=Di hi;have lenV:=hi.length;have at_:∀{q:ah}{b:ae},(b,q)∈ts->s₁.heap.get? b=a5 (W.tabObj #[]):=λ{q b} h=>(hT.2 _ h).2;have core:∀H:Hp,Only ts H->SqL K H a (ns.map V.int)->HOk P w H s₁.heap->(∀b,H b≠a8->b=a\/∃q,(b,q)∈ts)->(H a≠a8->K.lookup a=a8) ->
   cu (au P w) fY (.call (.ref fa) ⟨[.ref a],[]⟩) (λr s'=>r=.ok (.ret (.bool a7))/\OldK s₁.heap s'.heap/\s'.os=s₁.os/\dJ s'.gens) s₁:=by
  intro H hO hS hok hA hK;have base_of:∀{b:ae}{o:cF},s₁.heap.get? b=a5 o->H b=a8->(Uc s₁.heap H).get? b=a5 o:=λe n=>j8e e n;have noA:∀{b:ae}{o:cF},s₁.heap.get? b=a5 o->(∀vs n,o.data≠.seq vs n)->(∀vs,o.data≠.fields vs)->H b=a8:=λ{b o} e d d2=>by
   cases q:H b with
   |none=>rfl
   |some u =>
    rcases hA b (by rw[q];simp)with e'|⟨q',e'⟩
    .subst e';rw[ha]at e;cases e;exact absurd rfl (d _ _)
    .rw[at_ e']at e;cases e;exact absurd rfl (d2 _)
  have nsK:∀{b:ae}{m:k86},s₁.heap.Ns b m->(Uc s₁.heap H).Ns b m:=λ{b m} ⟨o,es,ep,e,d,r⟩=>⟨o,es,ep,base_of e (noA e (λ_ _ z=>by rw[d]at z;cases z) λ_ z=>by rw[d]at z;cases z),d,r⟩
  have hKb:K.In (Uc s₁.heap H):=λb o e=>base_of (KX b o e) (by
   cases q:H b with
   |none=>rfl
   |some u =>
    rcases hA b (by rw[q];simp)with e'|⟨q',e'⟩
    .subst e'
     rw[hK (by rw[q];simp)]at e;cases e
    .have e2:=KX b o e
     rw[at_ e']at e2
     have h2:=Xq.mp hK0 (b,o) (W.mem_of_lookupK e)
     cases e2
     exact absurd (show a6=a7 from h2) xg)
  have hM:Mod K mg (Uc s₁.heap H):=⟨hKb,nsK hns,⟨mb,nsK hb,hbb⟩,(let ⟨mc,h1,h2⟩:=hlim;⟨mc,nsK h1,h2⟩),
   let ⟨bm,ob,b1,b2,b3,b4,b5,b6⟩:=hbm;⟨bm,ob,b1,b2,base_of b3 (noA b3 (λ_ _ z=>by rw[b6]at z;cases z) λ_ z=>by rw[b6]at z;cases z),b4,b5,b6⟩⟩
  have e0:Env0 P w K mg (Uc s₁.heap H) fY [] s₁ H:=⟨rfl,hM,λb o e=>jc0 e,l7 (j5j _ _),trivial,λb hb=>absurd (show b∈([]:List ae)from hb) (by simp),hok,.of_eq hg⟩
  refine cg ((F _ hKb (nsK hns)).run fY [] s₁ H ⟨[.ref a],[]⟩ [.ref a] [.ref a] _ _ hr e0 (hbind s₁ (.ref a)) (.cons rfl .nil) (hsp H hO hS)) λr s' h=>?_;cases r with
  |error e=>exact(hCX H e s' h).elim
  |ok fl =>
   cases fl with
   |next=>exact aY h
   |brk=>exact aY h
   |cont=>exact aY h
   |ret u =>
    obtain⟨v,H',os,bare,un,hok',r',q,sm⟩:=h;have q':v=.bl a7:=q;subst q';obtain rfl:u=bS a7:=r';have main:∀b o,s₁.heap.get? b=a5 o->s'.heap.get? b=a5 o\/((∃q,(b,q)∈ts)/\o=W.tabObj #[]/\∃ps,s'.heap.get? b=a5 (W.tabObj ps)):=λb o e=>by
     cases q:H b with
     |none=>exact .inl (un.keep b o e q (by intro z;exact absurd (show b∈([]:List ae)from z) (by simp)) (by simp))
     |some u =>
      rcases hO.1 b with z|⟨ob,xs,z⟩|⟨q',hq,z⟩
      .rw[q]at z;cases z
      .have z2:=un.frzs b ob _ z;obtain⟨e1,_⟩:=hok b _ z;obtain⟨e2,_⟩:=hok' b _ z2;rw[e]at e1;cases e1;exact .inl e2
      .obtain⟨ps,e2,_⟩:=(show jg P w H' s'.heap b (.cod q')from hok' b _ (sm b _ z))
       rw[at_ hq]at e;exact .inr ⟨⟨q',hq⟩,(aw e).symm,ps,e2⟩
    refine⟨rfl,⟨λb o e=>?_,λb o e=>?_⟩,os,bare⟩
    .rcases main b o e with z|⟨⟨q,hq⟩,rfl,ps,z⟩
     .exact .inl z
     .obtain⟨c,hc⟩:=(hT.2 _ hq).1;exact .inr (.inl ⟨(hc.tab (at_ hq)).isCodeTable,rfl,#[],ps,rfl,by rw[z,Array.empty_append]⟩)
    .rcases main b o e with z|⟨_,_,ps,z⟩
     .exact⟨o,z⟩
     .exact⟨_,z⟩
 have lkT:∀b q,ts.lookup b=a5 q->(b,q)∈ts:=λb q h=>j16 h;have ofT:∀t∈ts,ts.lookup t.1=a5 t.2:=lookup_tab hT.1;have okT:∀(H:Hp) b q,(b,q)∈ts->jg P w H s₁.heap b (.cod q):=λH b q h=>⟨#[],at_ h,trivial,λpos cv z=>by cases z⟩
 cases hk:K.lookup a with
 |some o =>
  have e:=KX a o hk;rw[ha]at e;cases e;refine core (λb=>(ts.lookup b).map HO.cod) ⟨λb=>?_,λt ht=>by show(ts.lookup t.1).map HO.cod=_;rw[ofT t ht];rfl⟩ (.inr ⟨_,vs.toArray,_,hk,rfl,rfl,rfl,by rw[xr,lenV];exact hl,by simpa using rv⟩) (λb u z=>?_) (λb z=>?_) λz=>?_
  .cases e:ts.lookup b with
   |none=>exact .inl (by show(ts.lookup b).map HO.cod=_;rw[e];rfl)
   |some q=>exact .inr (.inr ⟨q,lkT b q e,by show(ts.lookup b).map HO.cod=_;rw[e];rfl⟩)
  .obtain⟨q,e,rfl⟩:=t8.mp z;exact okT _ b q (lkT b q e)
  .cases e:ts.lookup b with
   |none=>exact absurd (by show(ts.lookup b).map HO.cod=_;rw[e];rfl) z
   |some q=>exact .inr ⟨q,lkT b q e⟩
  .cases e:ts.lookup a with
   |none=>exact absurd (by show(ts.lookup a).map HO.cod=_;rw[e];rfl) z
   |some q=>have:=at_ (lkT a q e);rw[ha]at this;cases this
 |none =>
  have na:∀q,(a,q)∉ts:=λq h=>by have:=at_ h;rw[ha]at this;cases this
  refine core (λb=>if b=a then a5 (.frz { cls:=.type "list",data:=.seq vs.toArray } (.lst (ns.map V.int))) else(ts.lookup b).map HO.cod) ⟨λb=>?_,λt ht=>?_⟩ (.inl (.inr ⟨{ cls:=.type "list",data:=.seq vs.toArray },if_pos rfl⟩)) (λb u z=>?_) (λb z=>?_) λ_=>hk
  .by_cases hb:b=a
   .exact .inr (.inl ⟨_,_,if_pos hb⟩)
   .cases e:ts.lookup b with
    |none=>exact .inl (by show(if b=a then _ else _)=_;rw[if_neg hb,e];rfl)
    |some q=>exact .inr (.inr ⟨q,lkT b q e,by show(if b=a then _ else _)=_;rw[if_neg hb,e];rfl⟩)
  .have nb:t.1≠a:=λz=>na t.2 (z▸ht);show(if t.1=a then _ else _)=_;rw[if_neg nb,ofT t ht];rfl
  .by_cases hb:b=a
   .have z':=(if_pos hb).symm.trans z;cases z';subst hb;exact⟨ha,by rw[xf];exact hl,vs,_,rv,ha⟩
   .have z':=(if_neg hb).symm.trans z;obtain⟨q,e,rfl⟩:=t8.mp z';exact okT _ b q (lkT b q e)
  .by_cases hb:b=a
   .exact .inl hb
   .cases e:ts.lookup b with
    |none=>exact absurd (by show(if b=a then _ else _)=_;rw[if_neg hb,e];rfl) z
    |some q=>exact .inr ⟨q,lkT b q e⟩
theorem walk_of{l:dj}{n k:Nat}{q:ar}{loose:List ah}{XP:(ah->Option aa)->aG->Prop}{YP:aA->aG->Prop}{d:DefRec}{K:lY->k83}{CX:aA->CXT}{sp:aA->Sp}{x:ah}{ts:aA->List (ae×ah)}
  (hn:l.most=a5 n) (hn2:n<=ak) (hdf:d.params.defaults=[]) (hr:Room k fY)
  (hY:∀(w:aA)(h:aG),YP w h->(K w.params).In h/\j9h (ts w) h) (hK0:∀w:aA,W.noTabs (K w.params)=a7)
  (F:∀(w:aA)(mg:k86)(fa:ae)(h:aG),(K w.params).In h->h.Ns aq mg->mg d.name=a5 (.ref fa) ->
   ∃fd:aJ,(∀(s:af)(u:aa),g6 s fd ⟨[u],[]⟩ [(x,u)]) /\
    ∀base:aG,(K w.params).In base->base.Ns aq mg->FnOk l.prog w (K w.params) mg base (CX w) k fa fd [x] (sp w))
  (hsp:∀(w:aA)(H:Hp)(a:ae)(ns:List Int),ns.length<=n->Only (ts w) H->SqL (K w.params) H a (ns.map V.int)->sp w [.ref a] H (λv H'=>v=.bl a7/\∀b o,H b=a5 o->H' b=a5 o) λ_ _ _=>False)
  (hCX:∀(w:aA)(H:Hp)(s:af)(e:aa)(s':af),CX w [] H s (λ_ _ _=>False) e s'->False) :
  i9 q loose XP YP l.row.toRowW d [] (λf vs=>ij f vs):=by
 refine Att.attach_call hn hdf λw s₀ s₁ mg mb fa o pm cd doc a vs ns G Y ho hd hcd hmg hobj hints hlen hg=>?_;obtain⟨KX,hT⟩:=hY w _ Y;obtain⟨fd,hb,hF⟩:=F w mg fa _ KX G.T.g hmg;exact j7r KX G.T.g G.T.b G.T.builtins G.T.nolimit G.T.bmain hT (hK0 w) hg hobj hints (Xd hlen hn2) hr hF hb (λH hO hS=>hsp w H a ns hlen hO hS) λH e s'=>hCX w H s₁ e s'
end L2
/- THE LAST THEOREM (shape;LID,My.* are yours):
 My.Adr: a structure of the addresses that your layer names (classes,functions);My.Txt K t: a structure (Prop) of the equations over K;
 My.txt_mk:{K} {implicit addresses ..} (e1:fP K aq "law" = a5 (a5 (.ref f))) (e2:K.lookup f=a5 ⟨oc,od,.func (fnOf "law" "law" params body scope dV kV doc pm an cdv ct),sl⟩) (e3:codeIn K cdv "law" = a7) ..:∃t,My.Txt K t
(the tactic k_is has no namespace: write k_is) -/
namespace L2
open PySem PySem.Spec PyProof.Rows
noncomputable def z9(s:aN):iz:=match s with
 |.FunctionDef _ a _ _ _ _ _ _ _ _=>a
 |_=>{ posonlyargs:=[],args:=[],vararg:=a8,kwonlyargs:=[],kw_defaults:=[],kwarg:=a8,defaults:=[] }
noncomputable def jc(s:aN):List aN:=match s with
 |.FunctionDef _ _ b _ _ _ _ _ _ _=>b
 |_=>[]
noncomputable def j0(s:aN):bq:=match s with
 |.FunctionDef _ _ _ _ _ _ sc _ _ _=>sc
 |_=>{ kind:=.function,names:=[],isGenerator:=a6,isCoroutine:=a6 }
noncomputable abbrev CX0:CXT:=λ_ _ _ _ _ _=>False
noncomputable abbrev E0:XK:=λ_ _ _=>False
theorem Lw{X:Cx}:j0j CX0 X E0:=λ_ _ _ _ _ _ _ h=>h.elim
structure Fun(K:k83)(x qual:ah)(st:aN)(f:ae)(fd:aJ):Prop where
 ex:∃(oc:aa)(od:Option ae)(dV kV doc pm:aa)(an:Option ae)(cdv ct:aa)(osl:Array (Option aa)),
  fd=W.fnOf x qual (z9 st) (jc st) (j0 st) dV kV doc pm an cdv ct/\K.lookup f=a5 ⟨oc,od,.func fd,osl⟩/\W.codeIn K cdv qual=a7
 kp:W.keepIn K (.ref f)=a7
section
variable{P:ar}{w:aA}{K:k83}{mg:k86}{base:aG}
theorem Fun.binds{x qual:ah}{st:aN}{f:ae}{kV doc pm:aa}{an:Option ae}{cdv ct:aa}{ps:List ah}(F:Fun K x qual st f (W.fnOf x qual (z9 st) (jc st) (j0 st) .none kV doc pm an cdv ct))
  (h:∀(kV doc pm:aa)(an:Option ae)(cdv ct:aa)(us:List aa),us.length=ps.length->cO (W.fnOf x qual (z9 st) (jc st) (j0 st) .none kV doc pm an cdv ct) ⟨us,[]⟩=pure (ps.zip us)):Binds K (W.fnOf x qual (z9 st) (jc st) (j0 st) .none kV doc pm an cdv ct) ps []:=.all (h kV doc pm an cdv ct)
theorem We{x qual:ah}{st:aN}{f:ae}{oc:aa}{od an:Option ae}{osl:Array (Option aa)}{dV kV doc pm cdv ct:aa}(l:K.lookup f=a5 ⟨oc,od,.func (W.fnOf x qual (z9 st) (jc st) (j0 st) dV kV doc pm an cdv ct),osl⟩)
  (c:W.codeIn K cdv qual=a7) (k:W.keepIn K (.ref f)=a7):Fun K x qual st f (W.fnOf x qual (z9 st) (jc st) (j0 st) dV kV doc pm an cdv ct):=⟨⟨oc,od,dV,kV,doc,pm,an,cdv,ct,osl,rfl,l,c⟩,k⟩
end
theorem j80{A B:Prop}(h:B):if a6=a7 then A else B:=by rw[if_neg xg];exact h
theorem j7z{A B:Prop}(h:A):if a7=a7 then A else B:=by rw[if_pos rfl];exact h
def j4(H H':Hp):Prop:=∀b o,H b=a5 o->H' b=a5 o
theorem j4.refl(H:Hp):j4 H H:=λ_ _ h=>h
theorem j4.trans{H H1 H2:Hp}(a:j4 H H1)(b:j4 H1 H2):j4 H H2:=λc o h=>b c o (a c o h)
theorem j4.free{H H':Hp}(e:j4 H H'){l:ae}(h:H' l=a8):H l=a8:=by
 cases q:H l with
 |none=>rfl
 |some o =>rw[e l o q]at h;cases h
theorem j4.seq{K:k83}{H H':Hp}{a:ae}{xs:List V}(e:j4 H H')(h:SqL K H a xs):SqL K H' a xs:=by
 rcases h with (h|⟨o,h⟩)|h
 .exact .inl (.inl (e _ _ h))
 .exact .inl (.inr ⟨o,e _ _ h⟩)
 .exact .inr h
set_option genInjectivity true in
inductive D where
 |non
 |bl (b:Bool)
 |int (i:Int)
 |str (x:ah)
 |tup (ds:List D)
 |lst (ds:List D)
 |dct (ks:List (List Int)) (ds:List D)
 |sct (kvs:List (ah×Int))
 |fn (x:ah) (cs:List D)
noncomputable def kvI(kvs:List (ah×Int)):List (Key×V):=kvs.map λp=>(.inr p.1,.int p.2)
noncomputable def zg(x:ah):ah:=x ++ ".<locals>." ++ "<lambda>"
noncomputable abbrev Tx:=iz×aj×bq
noncomputable def jl0:aj->Option Tx
 |.Lambda a b sc _=>a5 (a,b,sc)
 |.Call _ es _ _=>match es.getLast? with
  |some (.Lambda a b sc _)=>a5 (a,b,sc)
  |_=>a8
 |_=>a8
noncomputable def jft(b:List aN):Option Tx:=match b.getLast? with
 |some (.Return (a5 e) _)=>jl0 e
 |_=>a8
noncomputable def j34(K:k83)(x:ah):Option Tx:=match W.nsIn K aq x with
 |some (a5 (.ref f))=>match K.lookup f with
  |some ⟨_,_,.func fd,_⟩=>match fd.body with
   |.stmts b=>jft b
   |_=>a8
  |_=>a8
 |_=>a8
noncomputable def Zt(sc:bq):List ah:=((sc.names.filter λp=>p.2==.free).map (·.1)).reverse
def J2(H:Hp):List ae->List V->Prop
 |[],vs=>vs=[]
 |c::cs,vs=>∃v r o u,vs=v::r/\H c=a5 (.frz o (.own 0))/\o.data=.cell (a5 u)/\RelV v u/\J2 H cs r
theorem J2.mono{H H':Hp}(g:j4 H H'):∀{cs:List ae}{vs:List V},J2 H cs vs->J2 H' cs vs
 |[],_,h=>h
 |_::_,_,⟨v,r,o,u,e,h,d,rv,l⟩=>⟨v,r,o,u,e,g _ _ h,d,rv,l.mono g⟩
structure LamAt(K:k83)(H:Hp)(x:ah)(a c:ae)(t:Tx)(cl:List (ah×ae))(vs:List V):Prop where
 tx:j34 K x=a5 t
 fo:∃pm ctv,H a=a5 (.frz (W.kla_obj "<lambda>" (zg x) t.1 t.2.1 t.2.2 cl pm c ctv) (.own 0))
 co:∃oc,H c=a5 (.frz oc (.own 0))/\j3s oc (zg x)
 nm:cl.map (·.1)=Zt t.2.2
 nd:(cl.map (·.2)).Nodup
 cs:J2 H (cl.map (·.2)) vs
theorem LamAt.mono{K:k83}{H H':Hp}{x:ah}{a c:ae}{tx:Tx}{cl:List (ah×ae)}{vs:List V}(g:j4 H H')(h:LamAt K H x a c tx cl vs):LamAt K H' x a c tx cl vs :=
 ⟨h.tx,let ⟨pm,ctv,e⟩:=h.fo;⟨pm,ctv,g _ _ e⟩,let ⟨oc,e,q⟩:=h.co;⟨oc,g _ _ e,q⟩,h.nm,h.nd,h.cs.mono g⟩
noncomputable def del(H:Hp)(A:List ae):Hp:=λb=>if b∈A then a8 else H b
section
variable{H H' F:Hp}{A A':List ae}{a b:ae}{o:HO}
theorem qw(h:b∈A):del H A b=a8:=if_pos h
theorem j6(h:b∉A):del H A b=H b:=if_neg h
theorem of_del(h:del H A b=a5 o):b∉A/\H b=a5 o:=by
 by_cases e:b∈A
 .rw[qw e]at h;cases h
 .rw[j6 e]at h;exact⟨e,h⟩
theorem jh(g:j4 H H'):j4 (del H A) (del H' A):=λb o h=>by obtain⟨n,e⟩:=of_del h;rw[j6 n];exact g b o e
end
theorem j4.seqT{K:k83}{H H':Hp}{a:ae}{xs:List V}(e:j4 H H')(h:SqT K H a xs):SqT K H' a xs:=by
 rcases h with (h|⟨o,h⟩)|h
 .exact .inl (.inl (e _ _ h))
 .exact .inl (.inr ⟨o,e _ _ h⟩)
 .exact .inr h
mutual
def Enc(K:k83)(H:Hp):D->V->Prop
 |.non,v=>v=.non
 |.bl b,v=>v=.bl b
 |.int i,v=>v=.int i
 |.str x,v=>v=.str x
 |.tup ds,v=>∃a xs,v=.ref a/\SqT K H a xs/\j5 K H ds xs
 |.lst ds,v=>∃a xs,v=.ref a/\SqL K H a xs/\j5 K H ds xs
 |.dct ks ds,v=>∃(a:ae)(xs:List (List Int×ae×aa)) (ep:Nat) (vs:List V),v=.ref a/\H a=a5 (.dI xs ep)/\ks=(xs.map λx=>x.1)/\(∀x∈xs,SqT K H x.2.1 (x.1.map V.int))/\Vals vs (xs.map λx=>x.2.2)/\j5 K H ds vs
 |.sct kvs,v=>∃a:ae,v=.ref a/\H a=a5 (.dK (kvI kvs))
 |.fn x ds,v=>∃(a c:ae)(tx:Tx)(cl:List (ah×ae)) (vs:List V),v=.ref a/\LamAt K H x a c tx cl vs/\j5 K (del H (cl.map (·.2))) ds vs
def j5(K:k83)(H:Hp):List D->List V->Prop
 |[],xs=>xs=[]
 |d::ds,xs=>∃x r,xs=x::r/\Enc K H d x/\j5 K H ds r
end
mutual
theorem Enc.mono{K:k83}{H H':Hp}(g:j4 H H'):∀{d:D}{v:V},Enc K H d v->Enc K H' d v
 |.non,_,h=>h
 |.bl _,_,h=>h
 |.int _,_,h=>h
 |.str _,_,h=>h
 |.tup _,_,⟨a,xs,e,q,l⟩=>⟨a,xs,e,g.seqT q,j5.mono g l⟩
 |.lst _,_,⟨a,xs,e,q,l⟩=>⟨a,xs,e,g.seq q,j5.mono g l⟩
 |.dct _ _,_,⟨a,xs,ep,vs,e,q,ek,kt,rv,l⟩=>⟨a,xs,ep,vs,e,g _ _ q,ek,λx hx=>g.seqT (kt x hx),rv,j5.mono g l⟩
 |.sct _,_,⟨a,e,q⟩=>⟨a,e,g _ _ q⟩
 |.fn _ _,_,⟨a,c,tx,cl,vs,e,q,l⟩=>⟨a,c,tx,cl,vs,e,q.mono g,j5.mono (jh g) l⟩
theorem j5.mono{K:k83}{H H':Hp}(g:j4 H H'):∀{ds:List D}{xs:List V},j5 K H ds xs->j5 K H' ds xs
 |[],_,h=>h
 |_::_,_,⟨x,r,e,h,l⟩=>⟨x,r,e,Enc.mono g h,j5.mono g l⟩
end
section
variable{K:k83}{H H':Hp}{ds ds':List D}{xs ys:List V}
theorem j5.length:∀{ds:List D}{xs:List V},j5 K H ds xs->xs.length=ds.length
 |[],_,h=>by cases h;rfl
 |_::_,_,⟨x,r,e,_,l⟩=>by subst e;simp[j5.length l]
theorem j5.get:∀{ds:List D}{xs:List V}{i:Nat}{d:D},j5 K H ds xs->ds[i]?=a5 d->∃x,xs[i]?=a5 x/\Enc K H d x
 |[],_,i,d,_,e=>by simp at e
 |_::_,_,0,d,⟨x,r,e,h,_⟩,q=>by subst e;simp at q;subst q;exact⟨x,rfl,h⟩
 |_::_,_,i+1,d,⟨x,r,e,_,l⟩,q=>by subst e;simp at q;obtain⟨y,hy,hd⟩:=j5.get l q;exact⟨y,by simpa using hy,hd⟩
theorem j5.append:∀{ds ds':List D}{xs ys:List V},j5 K H ds xs->j5 K H ds' ys->j5 K H (ds++ds') (xs++ys)
 |[],_,_,_,h,h'=>by cases h;exact h'
 |_::_,_,_,_,⟨x,r,e,h,l⟩,h'=>by subst e;exact⟨x,_,rfl,h,j5.append l h'⟩
theorem j5.one{d:D}{x:V}(h:Enc K H d x):j5 K H [d] [x]:=⟨x,[],rfl,h,rfl⟩
theorem j5.take:∀{ds:List D}{xs:List V}(n:Nat),j5 K H ds xs->j5 K H (ds.take n) (xs.take n)
 |[],_,n,h=>by cases h;simp;exact rfl
 |_::_,_,0,⟨x,r,e,h,l⟩=>by simp;exact rfl
 |_::_,_,n+1,⟨x,r,e,h,l⟩=>by subst e;exact⟨x,_,rfl,h,j5.take n l⟩
theorem j5.drop:∀{ds:List D}{xs:List V}(n:Nat),j5 K H ds xs->j5 K H (ds.drop n) (xs.drop n)
 |[],_,n,h=>by cases h;simp;exact rfl
 |_::_,_,0,h=>h
 |_::_,_,n+1,⟨x,r,e,h,l⟩=>by subst e;exact j5.drop n l
theorem j5.rep{ds:List D}{xs:List V}(h:j5 K H ds xs):∀k:Nat,j5 K H (ao k ds).flatten (ao k xs).flatten
 |0=>rfl
 |k+1=>by rw[P0,P0,Tn,Tn];exact h.append (j5.rep h k)
theorem j5.ints(ns:List Int):j5 K H (ns.map D.int) (ns.map V.int):=by
 induction ns with
 |nil=>exact rfl
 |cons n ns ih=>exact⟨_,_,rfl,rfl,ih⟩
end
section
variable{H H' F:Hp}{A A':List ae}{a b:ae}{o:HO}
theorem vf:del H []=H:=funext λb=>if_neg (by simp)
theorem jo:j4 (del H A) H:=λ_ _ h=>(of_del h).2
theorem vd(h:∀b,b∈A'->b∈A):j4 (del H A) (del H A'):=λb o e=>by obtain⟨n,e⟩:=of_del e;rw[j6 λz=>n (h b z)];exact e
theorem Vb(h:a∈A):del (upd H a o) A=del H A:=funext λb=>by
 by_cases e:b∈A
 .rw[qw e,qw e]
 .rw[j6 e,j6 e,jd];rintro rfl;exact e h
noncomputable def mrg(A:List ae)(H F:Hp):Hp:=λb=>if b∈A then H b else F b
theorem vp(h:b∈A):mrg A H F b=H b:=if_pos h
theorem jf(h:b∉A):mrg A H F b=F b:=if_neg h
theorem Qt(h:∀a∈A,F a=a8):del (mrg A H F) A=F:=funext λb=>by
 by_cases e:b∈A
 .rw[qw e,h b e]
 .rw[j6 e,jf e]
theorem Ms(g:j4 (del H A) F):j4 H (mrg A H F):=λb o e=>by
 by_cases z:b∈A
 .rw[vp z];exact e
 .rw[jf z];exact g b o (by rw[j6 z];exact e)
theorem j8(h:H a=a8):j4 H (upd H a o):=λb u q=>by rw[jd (J8 q h)];exact q
end
def Hd(o:Option HO):Prop:=(∃xs,o=a5 (.lst xs))\/∃xs ep,o=a5 (.dI xs ep)
def Hq(o:Option HO):Prop:=(∃xs,o=a5 (.lst xs))\/(∃xs ep,o=a5 (.dI xs ep))\/∃kvs,o=a5 (.dK kvs)
theorem Hd.q{o:Option HO}(h:Hd o):Hq o:=h.elim .inl λh=>.inr (.inl h)
section
variable{X:Cx}{pins:k85}{σ σ':St}{H F:Hp}{s s':af}{A:List ae}
theorem Inv.noFs(I:Inv X pins σ H s){b:ae}(hb:b∈X.fs):H b=a8:=by
 have q:b∈frs X.stack:=by
  rcases I.ok.stk with e|⟨e,_⟩
  .rw[e];exact hb
  .rw[e];have hb:b∈frs X.outer:=hb;unfold frs at hb ⊢;rw[cb];split
   .exact hb
   .exact km _ hb
 exact I.stkFree b q
theorem Inv.hideQ(I:Inv X pins σ H s)(hA:∀a∈A,Hq (H a)):Inv X (pins++Qz A s.heap) σ (del H A) s where
 ok:=I.ok
 os:=I.os
 bare:=I.bare
 base:={
  keep:=I.base.keep
  slot:=I.base.slot
  free:=λb o e n hx=>by
   have q:=I.base.free b o e n hx
   by_cases z:b∈A
   .exact qw z
   .rw[j6 z];exact q
  there:=I.base.there
  tups:=λb xs e=>by
   have q:=I.base.tups b xs e
   rw[j6];exact q
   intro z;rcases hA b z with ⟨ys,e'⟩|⟨ys,ep,e'⟩|⟨ys,e'⟩<;>(rw[q]at e';cases e')
  frzs:=λb o u e=>by
   have q:=I.base.frzs b o u e
   rw[j6];exact q
   intro z;rcases hA b z with ⟨ys,e'⟩|⟨ys,ep,e'⟩|⟨ys,e'⟩<;>(rw[q]at e';cases e')
  tbls:=λb ps e=>by
   obtain⟨more,q⟩:=I.base.tbls b ps e
   refine⟨more,?_⟩
   rw[j6];exact q
   intro z;rcases hA b z with ⟨ys,e'⟩|⟨ys,ep,e'⟩|⟨ys,e'⟩<;>(rw[q]at e';cases e') }
 loc:=I.loc
 cell:=I.cell
 free:=by
  by_cases z:X.env.locals∈A
  .exact qw z
  .rw[j6 z];exact I.free
 freeC:=λx c e=>by
  by_cases z:c∈A
  .exact qw z
  .rw[j6 z];exact I.freeC x c e
 pin:=λp hp=>by
  rw[<-Tp]at hp;rcases Te.mp hp with hp|hp
  .obtain⟨h1,h2,h3⟩:=I.pin p hp;refine⟨h1,?_,h3⟩;by_cases z:p.1∈A
   .exact qw z
   .rw[j6 z];exact h2
  .obtain⟨h1,h2⟩:=Dr hp;rcases hA _ h1 with ⟨xs,e⟩|⟨xs,ep,e⟩|⟨xs,e⟩
   .refine⟨h2,qw h1,λz=>?_,λz=>?_,λv z=>?_⟩
    .rw[z,I.free]at e;cases e
    .rw[I.noFs z]at e;cases e
    .obtain⟨_,its,n,_,q⟩:=(show jg X.prog X.w H s.heap p.1 (.lst xs)from I.hok _ _ e)
     rw[h2]at q;rw[aw q]at z;cases z
   .refine⟨h2,qw h1,λz=>?_,λz=>?_,λv z=>?_⟩
    .rw[z,I.free]at e;cases e
    .rw[I.noFs z]at e;cases e
    .obtain⟨_,_,_,ob,es,q,_,qd,_⟩:=(show jg X.prog X.w H s.heap p.1 (.dI xs ep)from I.hok _ _ e)
     rw[h2]at q;rw[aw q,qd]at z;cases z
   .refine⟨h2,qw h1,λz=>?_,λz=>?_,λv z=>?_⟩
    .rw[z,I.free]at e;cases e
    .rw[I.noFs z]at e;cases e
    .obtain⟨_,_,vs,_,ob,es,ep,q,_,qd,_⟩:=(show jg X.prog X.w H s.heap p.1 (.dK xs)from I.hok _ _ e)
     rw[h2]at q;rw[aw q,qd]at z;cases z
 hok:=λa o e=>by
  obtain⟨n,e⟩:=of_del e;refine jg.stay (I.hok a o e) (λb u _ q=>q) (λb q=>?_) (λb xs q=>?_) (λb _ _ q=>?_)
  .rw[j6];exact q;intro z;rcases hA b z with ⟨ys,e'⟩|⟨ys,ep,e'⟩|⟨ys,e'⟩<;>(rw[q]at e';cases e')
  .rw[j6];exact q;intro z;rcases hA b z with ⟨ys,e'⟩|⟨ys,ep,e'⟩|⟨ys,e'⟩<;>(rw[q]at e';cases e')
  .rw[j6];exact q;intro z;rcases hA b z with ⟨ys,e'⟩|⟨ys,ep,e'⟩|⟨ys,e'⟩<;>(rw[q]at e';cases e')
 len:=I.len
theorem Inv.unhideQ(I0:Inv X pins σ H s)(hA:∀a∈A,Hq (H a))(I:Inv X (pins++Qz A s.heap) σ' F s') :
  (∀a∈A,F a=a8)/\Inv X pins σ' (mrg A H F) s':=by
 have pinned:∀a∈A,∃o,s.heap.get? a=a5 o/\s'.heap.get? a=a5 o/\F a=a8:=λa ha=>by
  have ob:∃o,s.heap.get? a=a5 o:=by
   rcases hA a ha with ⟨xs,e⟩|⟨xs,ep,e⟩|⟨xs,e⟩
   .obtain⟨_,its,n,_,q⟩:=(show jg X.prog X.w H s.heap a (.lst xs)from I0.hok _ _ e)
    exact⟨_,q⟩
   .obtain⟨_,_,_,o,es,q,_⟩:=(show jg X.prog X.w H s.heap a (.dI xs ep)from I0.hok _ _ e)
    exact⟨_,q⟩
   .obtain⟨_,_,_,_,o,es,ep,q,_⟩:=(show jg X.prog X.w H s.heap a (.dK xs)from I0.hok _ _ e)
    exact⟨_,q⟩
  obtain⟨o,q⟩:=ob;obtain⟨h1,h2,_⟩:=I.pin (a,_) (Xh _ (Xh _ (Qe ha q)));exact⟨_,q,h1,h2⟩
 have hF:∀a∈A,F a=a8:=λa ha=>let ⟨_,_,_,q⟩:=pinned a ha;q;have out:∀{b:ae}{o:HO},F b=a5 o->b∉A:=λ{b o} e z=>by rw[hF b z]at e;cases e
 refine⟨hF,?_⟩;exact{
  ok:=I.ok
  os:=I.os
  bare:=I.bare
  base:={
   keep:=I.base.keep
   slot:=I.base.slot
   free:=λb o e n hx=>by
    by_cases z:b∈A
    .rw[vp z];exact I0.base.free b o e n hx
    .rw[jf z];exact I.base.free b o e n hx
   there:=I.base.there
   tups:=λb xs e=>by
    have q:=I.base.tups b xs e
    rw[jf (out q)];exact q
   frzs:=λb o u e=>by
    have q:=I.base.frzs b o u e
    rw[jf (out q)];exact q
   tbls:=λb ps e=>by
    obtain⟨more,q⟩:=I.base.tbls b ps e
    exact⟨more,by rw[jf (out q)];exact q⟩ }
  loc:=I.loc
  cell:=I.cell
  free:=by
   by_cases z:X.env.locals∈A
   .rw[vp z];exact I0.free
   .rw[jf z];exact I.free
  freeC:=λx c e=>by
   by_cases z:c∈A
   .rw[vp z];exact I0.freeC x c e
   .rw[jf z];exact I.freeC x c e
  pin:=λp hp=>by
   obtain⟨h1,h2,h3⟩:=I.pin p (by rw[<-Tp];exact Pr _ hp)
   refine⟨h1,?_,h3⟩
   by_cases z:p.1∈A
   .rw[vp z];exact(I0.pin p hp).2.1
   .rw[jf z];exact h2
  hok:=λa o e=>by
   by_cases z:a∈A
   .rw[vp z]at e
    obtain⟨o',q1,q2,_⟩:=pinned a z
    rcases hA a z with ⟨xs,e'⟩|⟨xs,ep,e'⟩|⟨xs,e'⟩
    .rw[e']at e;cases e
     obtain⟨hl,its,n,r,q⟩:=(show jg X.prog X.w H s.heap a (.lst xs)from I0.hok _ _ e')
     rw[q]at q1;cases q1
     exact⟨hl,its,n,r,q2⟩
    .rw[e']at e;cases e
     obtain⟨z1,z2,z3,ob,es,q,z4⟩:=(show jg X.prog X.w H s.heap a (.dI xs ep)from I0.hok _ _ e')
     rw[q]at q1;cases q1
     exact⟨z1,z2,z3,_,es,q2,z4⟩
    .rw[e']at e;cases e
     obtain⟨z1,z2,vs,z3,ob,es,ep,q,z4⟩:=(show jg X.prog X.w H s.heap a (.dK xs)from I0.hok _ _ e')
     rw[q]at q1;cases q1
     exact⟨z1,z2,vs,z3,_,es,ep,q2,z4⟩
   .rw[jf z]at e
    refine jg.stay (I.hok a o e) (λb u _ q=>q) (λb q=>?_) (λb xs q=>?_) (λb _ _ q=>?_)
    .rw[jf (out q)];exact q
    .rw[jf (out q)];exact q
    .rw[jf (out q)];exact q
  len:=I.len }
theorem Inv.hide(I:Inv X pins σ H s)(hA:∀a∈A,Hd (H a)):Inv X (pins++Qz A s.heap) σ (del H A) s:=I.hideQ λa h=>(hA a h).q
theorem Inv.unhide(I0:Inv X pins σ H s)(hA:∀a∈A,Hd (H a))(I:Inv X (pins++Qz A s.heap) σ' F s'):(∀a∈A,F a=a8)/\Inv X pins σ' (mrg A H F) s':=I0.unhideQ (λa h=>(hA a h).q) I
end
def J5(X:Cx)(e:aj):TE:=λσ H Q=>∀pins s,Inv X pins σ H s->ax (au X.prog X.w) X.A (aE e X.env) (EP X pins σ Q) X.xe s
def j73(X:Cx)(e:aj):TT:=λσ H Q=>∀pins s,Inv X pins σ H s->ax (au X.prog X.w) X.A (fG e X.env (aE e X.env)) (TP X pins σ Q) X.xe s
def Mr(X:Cx)(es:List aj):TA:=λσ H Q=>∀pos pins s,Inv X pins σ H s->ax (au X.prog X.w) X.A (spliced (aR pos (a9 es X.env))) (AP X pins σ Q) X.xe s
def j74(X:Cx)(st:aN):TS:=λD σ H=>∀pins s,Inv X pins σ H s->ax (au X.prog X.w) X.A (exec st X.env) (SP X pins D) X.xe s
def Zn(X:Cx)(sts:List aN):TS:=λD σ H=>∀pins s,Inv X pins σ H s->ax (au X.prog X.w) X.A (execs sts X.env) (SP X pins D) X.xe s
def Ib(X:Cx)(tg iter:aj):TI:=λσ H R=>∀pins s,Inv X pins σ H s ->
 ax (au X.prog X.w) X.A (aE iter X.env) (λv s1=>ax (au X.prog X.w) X.A (k9 v) (PIE X pins σ tg R) X.xe s1) X.xe s
section
variable{X:Cx}{e tg:aj}{es:List aj}{st:aN}{sts:List aN}{σ:St}{H:Hp}
theorem peS:PE X e (J5 X e):=λpins s _ _ _ I h=>h pins s I
theorem ptS:PT X e (j73 X e):=λpins s _ _ _ I h=>h pins s I
theorem paS:PA X es (Mr X es):=λpos pins s _ _ _ I h=>h pos pins s I
theorem psS:PS X st (j74 X st):=λpins s _ _ _ I h=>h pins s I
theorem V1:PSs X sts (Zn X sts):=λpins s _ _ _ I h=>h pins s I
theorem piS:PI X tg e (Ib X tg e):=λpins s _ _ _ I h=>h pins s I
theorem PE.to{t:TE}(h:PE X e t){Q:VK}(q:t σ H Q):J5 X e σ H Q:=λpins s I=>h pins s σ H Q I q
theorem PT.to{t:TT}(h:PT X e t){Q:Bool->Hp->Prop}(q:t σ H Q):j73 X e σ H Q:=λpins s I=>h pins s σ H Q I q
theorem PA.to{t:TA}(h:PA X es t){Q:List V->Hp->Prop}(q:t σ H Q):Mr X es σ H Q:=λpos pins s I=>h pos pins s σ H Q I q
theorem PS.to{t:TS}(h:PS X st t){D:Ends}(q:t D σ H):j74 X st D σ H:=λpins s I=>h pins s σ H D I q
theorem PSs.to{t:TS}(h:PSs X sts t){D:Ends}(q:t D σ H):Zn X sts D σ H:=λpins s I=>h pins s σ H D I q
theorem PI.to{t:TI}(h:PI X tg e t){R:It->Hp->Prop}(q:t σ H R):Ib X tg e σ H R:=λpins s I=>h pins s σ H R I q
theorem Yl{A:List ae}{Q Q':VK}(hA:∀a∈A,Hq (H a))(h:J5 X e σ (del H A) Q')(hq:∀v F,Q' v F->(∀a∈A,F a=a8)->Q v (mrg A H F)):J5 X e σ H Q :=
 λpins s I=>thn (h _ s (I.hideQ hA)) λv s' ⟨x,F,I',r,q⟩=>let ⟨n,I2⟩:=I.unhideQ hA I';⟨x,_,I2,r,hq x F q n⟩
theorem j0o{A:List ae}{R R':It->Hp->Prop}(hA:∀a∈A,Hq (H a))(h:Ib X tg e σ (del H A) R')(hq:∀J F,R' J F->(∀a∈A,F a=a8)->R J (mrg A H F)):Ib X tg e σ H R :=
 λpins s I=>thn (h _ s (I.hideQ hA)) λv s' h1=>thn h1 λitv s2 ⟨it,fp,tn,J,F,e,I',T,t0,fk,q⟩=>by
  obtain⟨n,I2⟩:=I.unhideQ hA I';refine⟨it,fp,tn,J,_,e,I2,T,t0,λb hb=>?_,hq J F q n⟩;obtain⟨f0,f1,f2,f3,f4,f5⟩:=fk b hb;refine⟨?_,f1,f2,f3,f4,λp hp=>f5 p (by rw[<-Tp];exact Pr _ hp)⟩;by_cases z:b∈A
  .exfalso;have ob:∃o,s.heap.get? b=a5 o:=by
    rcases hA b z with ⟨xs,e⟩|⟨xs,ep,e⟩|⟨xs,e⟩
    .obtain⟨_,its,n,_,q⟩:=(show jg X.prog X.w H s.heap b (.lst xs)from I.hok _ _ e)
     exact⟨_,q⟩
    .obtain⟨_,_,_,o,es,q,_⟩:=(show jg X.prog X.w H s.heap b (.dI xs ep)from I.hok _ _ e)
     exact⟨_,q⟩
    .obtain⟨_,_,_,_,o,es,ep,q,_⟩:=(show jg X.prog X.w H s.heap b (.dK xs)from I.hok _ _ e)
     exact⟨_,q⟩
   obtain⟨o,q⟩:=ob;exact f5 (b,o) (Xh _ (Xh _ (Qe z q))) rfl
  .rw[jf z];exact f0
end
inductive Sl where
 |un
 |val (d:D)
 |own (a:ae) (ds:List D)
 |raw (a:ae) (o:cF) (x:ah)
noncomputable abbrev Rho:=List Sl
noncomputable def Sl.addr:Sl->Option ae
 |.own a _=>a5 a
 |_=>a8
noncomputable def owns(ρ:Rho):List ae:=ρ.filterMap Sl.addr
theorem Ji{ρ:Rho}{i:Nat}{a:ae}{ds:List D}(h:ρ[i]?=a5 (.own a ds)):a∈owns ρ:=Pn.mpr ⟨_,Xg h,rfl⟩
theorem Zq{ρ:Rho}{a:ae}(h:a∈owns ρ):∃(i:Nat)(ds:List D),ρ[i]?=a5 (.own a ds):=by
 obtain⟨s,hs,e⟩:=Pn.mp h;obtain⟨i,hi⟩:=List.mem_iff_getElem?.mp hs;cases s with
 |own b ds=>cases e;exact⟨i,ds,hi⟩
 |un=>cases e
 |val d=>cases e
 |raw b o x=>cases e
theorem jj(s:Sl)(ρ:Rho):owns (s::ρ)=(match s.addr with|some a=>a::owns ρ|none=>owns ρ):=by unfold owns;rw[cb];cases s.addr<;>rfl
theorem je{s:Sl}(hs:s.addr=a8):∀{ρ:Rho}{i:Nat},(owns (ρ.set i s)).Sublist (owns ρ)
 |[],_=>List.Sublist.refl _
 |x::r,0=>by
  rw[T5,jj,jj,hs];cases x.addr with
  |none=>exact List.Sublist.refl _
  |some a=>exact List.sublist_cons_self _ _
 |x::r,i+1=>by
  rw[cn,jj,jj];have ih:=je hs (ρ:=r) (i:=i);cases x.addr with
  |none=>exact ih
  |some a=>exact ih.cons_cons a
theorem Ql{a:ae}{ds ds':List D}:∀{ρ:Rho}{i:Nat},ρ[i]?=a5 (.own a ds)->owns (ρ.set i (.own a ds'))=owns ρ
 |[],_,h=>by simp at h
 |x::r,0,h=>by simp at h;subst h;rw[T5,jj,jj];rfl
 |x::r,i+1,h=>by simp at h;rw[cn,jj,jj,Ql h]
theorem M4{s:Sl}(hs:s.addr=a8):∀{ρ:Rho}{i:Nat},(∀a l,ρ[i]?≠a5 (.own a l))->owns (ρ.set i s)=owns ρ
 |[],_,_=>rfl
 |x::r,0,h=>by
  rw[T5,jj,jj,hs];cases x with
  |own a l=>exact absurd rfl (h a l)
  |un=>rfl
  |val d=>rfl
  |raw a o x=>rfl
 |x::r,i+1,h=>by rw[cn,jj,jj,M4 hs (λa l=>by simpa using h a l)]
theorem Jo{a:ae}{ds:List D}:∀{ρ:Rho}{i:Nat},(owns ρ).Nodup->a∉owns ρ->(owns (ρ.set i (.own a ds))).Nodup/\∀b∈owns (ρ.set i (.own a ds)),b=a\/b∈owns ρ
 |[],_,n,_=>⟨n,λb hb=>.inr hb⟩
 |x::r,0,n,h=>by
  rw[T5,jj];rw[jj]at n h;have e:(Sl.own a ds).addr=a5 a:=rfl;rw[e];cases q:x.addr with
  |none =>rw[q]at n h;exact⟨Xp.mpr ⟨h,n⟩,λb hb=>(xj.mp hb).elim .inl λz=>.inr (by rw[jj,q];exact z)⟩
  |some c =>rw[q]at n h;exact⟨Xp.mpr ⟨λz=>h (km _ z),(Xp.mp n).2⟩,λb hb=>(xj.mp hb).elim .inl λz=>.inr (by rw[jj,q];exact km _ z)⟩
 |x::r,i+1,n,h=>by
  rw[cn,jj];rw[jj]at n h;cases q:x.addr with
  |none =>rw[q]at n h;obtain⟨i1,i2⟩:=Jo (ds:=ds) (i:=i) n h;exact⟨i1,λb hb=>(i2 b hb).elim .inl λz=>.inr (by rw[jj,q];exact z)⟩
  |some c =>
   rw[q]at n h;obtain⟨n1,n2⟩:=Xp.mp n;obtain⟨i1,i2⟩:=Jo (ds:=ds) (i:=i) n2 (λz=>h (km _ z));refine⟨Xp.mpr ⟨λz=>?_,i1⟩,λb hb=>?_⟩
   .rcases i2 c z with e|z
    .subst e;exact h (xm ..)
    .exact n1 z
   .rcases xj.mp hb with e|z
    .exact .inr (by rw[jj,q];exact e▸xm ..)
    .exact(i2 b z).elim .inl λz=>.inr (by rw[jj,q];exact km _ z)
theorem Vk{a:ae}{l l':List D}:∀{ρ:Rho}{i j:Nat},(owns ρ).Nodup->ρ[i]?=a5 (.own a l)->ρ[j]?=a5 (.own a l')->i=j
 |[],i,_,_,h,_=>by simp at h
 |x::r,0,0,_,_,_=>rfl
 |x::r,0,j+1,n,h,h'=>by simp at h h';subst h;rw[jj]at n;exact absurd (Ji h') (Xp.mp n).1
 |x::r,i+1,0,n,h,h'=>by simp at h h';subst h';rw[jj]at n;exact absurd (Ji h) (Xp.mp n).1
 |x::r,i+1,j+1,n,h,h'=>by
  simp at h h';have n':(owns r).Nodup:=by
   rw[jj]at n;cases q:x.addr with
   |none=>rw[q]at n;exact n
   |some c=>rw[q]at n;exact(Xp.mp n).2
  rw[Vk n' h h']
noncomputable def Zh:List ah:=["worst_cost_of_ask","least_numbers","whole_cost_of_ask","round_numbers"]
def TabOk(K:k83)(H:Hp):Prop:=∀x∈Zh,∀c P,W.tabIn K x=a5 (c,P)->H P=a5 (.cod (zg x))
section
variable{K:k83}{H H':Hp}
theorem TabOk.mono(h:TabOk K H)(g:j4 H H'):TabOk K H':=λx hx c P e=>g _ _ (h x hx c P e)
theorem TabOk.upd{a:ae}{o u:HO}(h:TabOk K H)(e:H a=a5 u)(n:∀q,u≠.cod q):TabOk K (upd H a o):=λx hx c P z=>by have q:=h x hx c P z;rw[jd];exact q;intro y;subst y;rw[e]at q;exact n _ (aw q)
theorem TabOk.del{A:List ae}(h:TabOk K H)(hA:∀a∈A,∃xs,H a=a5 (.lst xs)):TabOk K (del H A):=λx hx c P z=>by have q:=h x hx c P z;rw[j6];exact q;intro y;obtain⟨xs,e⟩:=hA _ y;rw[q]at e;cases e
end
noncomputable def rfN:ah:="@"
def K6(K:k83)(F:Hp)(a:ae)(o:cF)(x:ah):Prop:=x=rfN\/(F a=a5 (.frz o (.own a))/\W.nsIn K aq x=a5 (a5 o.cls))
theorem K6.mono{K:k83}{F F':Hp}{a:ae}{o:cF}{x:ah}(h:K6 K F a o x)(g:j4 F F'):K6 K F' a o x:=h.elim .inl λh=>.inr ⟨g _ _ h.1,h.2⟩
structure Rep(K:k83)(ρ:Rho)(σ:St)(H:Hp):Prop where
 len:σ.length=ρ.length
 val:∀(i:Nat)(d:D),ρ[i]?=a5 (.val d)->∃v,σ[i]?=a5 (a5 v)/\Enc K (del H (owns ρ)) d v
 own:∀(i:Nat)(a:ae)(ds:List D),ρ[i]?=a5 (.own a ds)->σ[i]?=a5 (a5 (.ref a))/\∃xs,H a=a5 (.lst xs)/\j5 K (del H (owns ρ)) ds xs
 nd:(owns ρ).Nodup
 raw:∀(i:Nat)(a:ae)(o:cF)(x:ah),ρ[i]?=a5 (.raw a o x)->σ[i]?=a5 (a5 (.ref a))/\K6 K (del H (owns ρ)) a o x
 tb:TabOk K H
section
variable{K:k83}{ρ ρ':Rho}{σ:St}{H H':Hp}{i:Nat}{d:D}{v:V}{a:ae}{ds ds':List D}{xs:List V}
theorem Rep.owned(R:Rep K ρ σ H):∀a∈owns ρ,∃xs,H a=a5 (.lst xs):=λa h=>by obtain⟨i,ds,e⟩:=Zq h;obtain⟨_,xs,q,_⟩:=R.own i a ds e;exact⟨xs,q⟩
theorem Rep.fresh(R:Rep K ρ σ H)(h:H a=a8):a∉owns ρ:=λz=>by obtain⟨xs,e⟩:=R.owned a z;rw[h]at e;cases e
theorem Rep.grow(R:Rep K ρ σ H)(g:j4 H H'):Rep K ρ σ H' :=
 ⟨R.len,λi d e=>let ⟨v,q,h⟩:=R.val i d e;⟨v,q,h.mono (jh g)⟩,λi a ds e=>let ⟨q,xs,h,l⟩:=R.own i a ds e;⟨q,xs,g _ _ h,l.mono (jh g)⟩,R.nd,λi a o x e=>let ⟨q,h⟩:=R.raw i a o x e;⟨q,h.mono (jh g)⟩,R.tb.mono g⟩
theorem getElem?_set_of{α:Type}{l:List α}{i j:Nat}{x y:α}(h:(l.set i x)[j]?=a5 y):(i=j/\y=x/\i<l.length)\/(i≠j/\l[j]?=a5 y):=by
 rw[cz]at h;split at h
 .rename_i e;subst e;split at h
  .rename_i z;cases h;exact .inl ⟨rfl,rfl,z⟩
  .cases h
 .rename_i e;exact .inr ⟨e,h⟩
theorem Q7{α:Type}{l:List α}{i:Nat}{x:α}(h:i<l.length):(l.set i x)[i]?=a5 x:=by simp[h]
theorem qj{α:Type}{l:List α}{i j:Nat}{x:α}(h:i≠j):(l.set i x)[j]?=l[j]?:=by simp[h]
theorem Rep.set_val(R:Rep K ρ σ H)(e:Enc K (del H (owns ρ)) d v):Rep K (ρ.set i (.val d)) (σ.set i (a5 v)) H:=by
 have sub:(owns (ρ.set i (.val d))).Sublist (owns ρ):=je rfl;have g:j4 (del H (owns ρ)) (del H (owns (ρ.set i (.val d)))):=vd λb hb=>sub.subset hb;refine⟨by simp[R.len],λj d' h=>?_,λj a ds h=>?_,sub.nodup R.nd,λj a o x h=>?_,R.tb⟩
 .rcases getElem?_set_of h with ⟨rfl,z,hl⟩|⟨n,h⟩
  .cases z;exact⟨v,Q7 (by rw[R.len];exact hl),e.mono g⟩
  .obtain⟨u,q,h⟩:=R.val j d' h;exact⟨u,by rw[qj n];exact q,h.mono g⟩
 .rcases getElem?_set_of h with ⟨rfl,z,_⟩|⟨n,h⟩
  .cases z
  .obtain⟨q,xs,h,l⟩:=R.own j a ds h;exact⟨by rw[qj n];exact q,xs,h,l.mono g⟩
 .rcases getElem?_set_of h with ⟨rfl,z,_⟩|⟨n,h⟩
  .cases z
  .obtain⟨q,h⟩:=R.raw j a o x h;exact⟨by rw[qj n];exact q,h.mono g⟩
theorem Rep.set_un{v:Option V}(R:Rep K ρ σ H):Rep K (ρ.set i .un) (σ.set i v) H:=by
 have sub:(owns (ρ.set i .un)).Sublist (owns ρ):=je rfl;have g:j4 (del H (owns ρ)) (del H (owns (ρ.set i .un))):=vd λb hb=>sub.subset hb;refine⟨by simp[R.len],λj d' h=>?_,λj a ds h=>?_,sub.nodup R.nd,λj a o x h=>?_,R.tb⟩
 .rcases getElem?_set_of h with ⟨rfl,z,hl⟩|⟨n,h⟩
  .cases z
  .obtain⟨u,q,h⟩:=R.val j d' h;exact⟨u,by rw[qj n];exact q,h.mono g⟩
 .rcases getElem?_set_of h with ⟨rfl,z,_⟩|⟨n,h⟩
  .cases z
  .obtain⟨q,xs,h,l⟩:=R.own j a ds h;exact⟨by rw[qj n];exact q,xs,h,l.mono g⟩
 .rcases getElem?_set_of h with ⟨rfl,z,_⟩|⟨n,h⟩
  .cases z
  .obtain⟨q,h⟩:=R.raw j a o x h;exact⟨by rw[qj n];exact q,h.mono g⟩
theorem Rep.set_own(R:Rep K ρ σ H)(g:j4 H H')(ha:H a=a8)(e:H' a=a5 (.lst xs))(l:j5 K (del H' (a::owns ρ)) ds xs):Rep K (ρ.set i (.own a ds)) (σ.set i (a5 (.ref a))) H':=by
 have na:=R.fresh ha;obtain⟨nd,sub⟩:=Jo (ds:=ds) (i:=i) R.nd na;have g1:j4 (del H' (a::owns ρ)) (del H' (owns (ρ.set i (.own a ds)))):=vd λb hb=>by
  rcases sub b hb with e|z
  .exact e▸xm ..
  .exact km _ z
 have g2:j4 (del H (owns ρ)) (del H' (a::owns ρ)):=λb o q=>by
  obtain⟨n,q⟩:=of_del q;rw[j6];exact g b o q;intro z;rcases xj.mp z with e|z
  .subst e;rw[ha]at q;cases q
  .exact n z
 refine⟨by simp[R.len],λj d' h=>?_,λj b ds' h=>?_,nd,λj b o x h=>?_,R.tb.mono g⟩
 .rcases getElem?_set_of h with ⟨rfl,z,hl⟩|⟨n,h⟩
  .cases z
  .obtain⟨u,q,h⟩:=R.val j d' h;exact⟨u,by rw[qj n];exact q,h.mono (g2.trans g1)⟩
 .rcases getElem?_set_of h with ⟨rfl,z,hl⟩|⟨n,h⟩
  .cases z;exact⟨Q7 (by rw[R.len];exact hl),xs,e,l.mono g1⟩
  .obtain⟨q,ys,h,l⟩:=R.own j b ds' h;exact⟨by rw[qj n];exact q,ys,g _ _ h,l.mono (g2.trans g1)⟩
 .rcases getElem?_set_of h with ⟨rfl,z,hl⟩|⟨n,h⟩
  .cases z
  .obtain⟨q,h⟩:=R.raw j b o x h;exact⟨by rw[qj n];exact q,h.mono (g2.trans g1)⟩
theorem Rep.upd_own(R:Rep K ρ σ H)(h:ρ[i]?=a5 (.own a ds))(l:j5 K (del H (owns ρ)) ds' xs):Rep K (ρ.set i (.own a ds')) σ (upd H a (.lst xs)):=by
 have eo:owns (ρ.set i (.own a ds'))=owns ρ:=Ql h;have ed:del (upd H a (.lst xs)) (owns ρ)=del H (owns ρ):=Vb (Ji h);refine⟨by simp[R.len],λj d' q=>?_,λj b l' q=>?_,by rw[eo];exact R.nd,λj b o x q=>?_,let ⟨_,_,z,_⟩:=R.own i a ds h;R.tb.upd z λ_ y=>by cases y⟩
 .rw[eo,ed];rcases getElem?_set_of q with ⟨_,z,_⟩|⟨n,q⟩
  .cases z
  .exact R.val j d' q
 .rw[eo,ed];rcases getElem?_set_of q with ⟨rfl,z,_⟩|⟨n,q'⟩
  .cases z;exact⟨(R.own i a ds h).1,xs,jb,l⟩
  .obtain⟨z,ys,y,l''⟩:=R.own j b l' q';refine⟨z,ys,?_,l''⟩;have nb:b≠a:=λe=>n (Vk R.nd h (e▸q'));rw[jd nb];exact y
 .rw[eo,ed];rcases getElem?_set_of q with ⟨_,z,_⟩|⟨n,q⟩
  .cases z
  .exact R.raw j b o x q
theorem Rep.freeze(R:Rep K ρ σ H)(h:ρ[i]?=a5 (.own a ds)):Rep K (ρ.set i (.val (.lst ds))) σ H:=by
 obtain⟨hs,xs,hx,l⟩:=R.own i a ds h;have sub:(owns (ρ.set i (.val (.lst ds)))).Sublist (owns ρ):=je rfl;have g:j4 (del H (owns ρ)) (del H (owns (ρ.set i (.val (.lst ds))))):=vd λb hb=>sub.subset hb;have na:a∉owns (ρ.set i (.val (.lst ds))):=λz=>by
  obtain⟨j,l',q⟩:=Zq z;rcases getElem?_set_of q with ⟨_,z,_⟩|⟨n,q⟩
  .cases z
  .exact n (Vk R.nd h q)
 refine⟨by simp[R.len],λj d' q=>?_,λj b l' q=>?_,sub.nodup R.nd,λj b o x q=>?_,R.tb⟩
 .rcases getElem?_set_of q with ⟨rfl,z,_⟩|⟨n,q⟩
  .cases z;exact⟨_,hs,a,xs,rfl,.inl (.inl (by rw[j6 na];exact hx)),l.mono g⟩
  .obtain⟨u,q,h⟩:=R.val j d' q;exact⟨u,q,h.mono g⟩
 .rcases getElem?_set_of q with ⟨rfl,z,_⟩|⟨n,q⟩
  .cases z
  .obtain⟨q,ys,h,l⟩:=R.own j b l' q;exact⟨q,ys,h,l.mono g⟩
 .rcases getElem?_set_of q with ⟨_,z,_⟩|⟨n,q⟩
  .cases z
  .obtain⟨q,h⟩:=R.raw j b o x q;exact⟨q,h.mono g⟩
end
def DE(X:Cx)(ρ:Rho)(e:aj)(d:D):Prop:=∀σ H Q,Rep X.K ρ σ H->(∀v H',j4 H H'->Enc X.K (del H' (owns ρ)) d v->Q v H')->J5 X e σ H Q
def DT(X:Cx)(ρ:Rho)(e:aj)(d:D):Prop:=∀σ H Q,Rep X.K ρ σ H->(∀v H',j4 H H'->Enc X.K H' d v->Q v H')->J5 X e σ H Q
def DO(X:Cx)(ρ:Rho)(e:aj)(ds:List D):Prop:=∀σ H Q,Rep X.K ρ σ H->(∀a xs H',j4 H H'->H a=a8->H' a=a5 (.lst xs)->j5 X.K (del H' (a::owns ρ)) ds xs->Q (.ref a) H')->J5 X e σ H Q
def DL(X:Cx)(ρ:Rho)(e:aj)(ds:List D):Prop:=∀σ H Q,Rep X.K ρ σ H->(∀a xs H',j4 H H'->H' a=a5 (.lst xs)->j5 X.K (del H' (owns ρ)) ds xs->Q (.ref a) H')->J5 X e σ H Q
def DB(X:Cx)(ρ:Rho)(e:aj)(b:Bool):Prop:=∀σ H Q,Rep X.K ρ σ H->(∀H',j4 H H'->Q b H')->j73 X e σ H Q
def DA(X:Cx)(ρ:Rho)(es:List aj)(ds:List D):Prop:=∀σ H Q,Rep X.K ρ σ H->(∀vs H',j4 H H'->j5 X.K (del H' (owns ρ)) ds vs->Q vs H')->Mr X es σ H Q
def DTA(X:Cx)(ρ:Rho)(es:List aj)(ds:List D):Prop:=∀σ H Q,Rep X.K ρ σ H->(∀vs H',j4 H H'->j5 X.K H' ds vs->Q vs H')->Mr X es σ H Q
def j72(X:Cx)(e:aj):TT:=λσ H Q=>∀whole pins s,Inv X pins σ H s->ax (au X.prog X.w) X.A (fG e X.env whole) (TP X pins σ Q) X.xe s
theorem pwS{X:Cx}{e:aj}:PW X e (j72 X e):=λwhole pins s _ _ _ I h=>h whole pins s I
theorem PW.to{X:Cx}{e:aj}{t:TT}{σ:St}{H:Hp}(h:PW X e t){Q:Bool->Hp->Prop}(q:t σ H Q):j72 X e σ H Q:=λwhole pins s I=>h whole pins s σ H Q I q
def DW(X:Cx)(ρ:Rho)(e:aj)(b:Bool):Prop:=∀σ H Q,Rep X.K ρ σ H->(∀H',j4 H H'->Q b H')->j72 X e σ H Q
mutual
noncomputable def vy:D->Bool
 |.lst _=>a6
 |.dct _ _=>a6
 |.sct _=>a6
 |.fn _ _=>a6
 |.tup ds=>jq ds
 |_=>a7
noncomputable def jq:List D->Bool
 |[]=>a7
 |d::ds=>vy d&&jq ds
end
mutual
theorem Enc.hide{K:k83}{H:Hp}{A:List ae}(hA:∀a∈A,Hd (H a)):∀{d:D}{v:V},vy d=a7->Enc K H d v->Enc K (del H A) d v
 |.non,_,_,h=>h
 |.bl _,_,_,h=>h
 |.int _,_,_,h=>h
 |.str _,_,_,h=>h
 |.lst _,_,n,_=>by cases n
 |.dct _ _,_,n,_=>by cases n
 |.sct _,_,n,_=>by cases n
 |.fn _ _,_,n,_=>by cases n
 |.tup ds,_,n,⟨a,xs,e,q,l⟩=>by
  refine⟨a,xs,e,?_,j5.hide hA (by simpa [vy]using n) l⟩;have out:∀{o:HO},H a=a5 o->(∀ys,o≠.lst ys)->(∀ys ep,o≠.dI ys ep)->del H A a=a5 o:=λ{o} h z z2=>by
   rw[j6];exact h;intro y;rcases hA a y with ⟨ys,e'⟩|⟨ys,ep,e'⟩
   .rw[h]at e';cases e';exact z ys rfl
   .rw[h]at e';cases e';exact z2 ys ep rfl
  rcases q with (q|⟨o,q⟩)|q
  .exact .inl (.inl (out q (λ_ z=>by cases z) λ_ _ z=>by cases z))
  .exact .inl (.inr ⟨o,out q (λ_ z=>by cases z) λ_ _ z=>by cases z⟩)
  .exact .inr q
theorem j5.hide{K:k83}{H:Hp}{A:List ae}(hA:∀a∈A,Hd (H a)):∀{ds:List D}{xs:List V},jq ds=a7->j5 K H ds xs->j5 K (del H A) ds xs
 |[],_,_,h=>h
 |d::ds,_,n,⟨x,r,e,h,l⟩=>by
  have n':vy d=a7/\jq ds=a7:=by simpa [jq]using n
  exact⟨x,r,e,Enc.hide hA n'.1 h,j5.hide hA n'.2 l⟩
end
section
variable{X:Cx}{ρ:Rho}{e a b c:aj}{es:List aj}{d da db:D}{ds ds':List D}{i j:Int}{pos:aO}{k:Nat}{x:ah}
theorem DE.toT(h:DE X ρ e d):DT X ρ e d:=λσ H Q R q=>h σ H Q R λv H' g l=>q v H' g (l.mono jo)
theorem DT.toE(h:DT X ρ e d)(n:vy d=a7:=by rfl):DE X ρ e d:=λσ H Q R q=>h σ H Q R λv H' g l=>q v H' g (l.hide (λa ha=>.inl ((R.grow g).owned a ha)) n)
theorem DO.toL(h:DO X ρ e ds):DL X ρ e ds:=λσ H Q R q=>h σ H Q R λa xs H' g n m l=>q a xs H' g m (l.mono (vd λb hb=>km _ hb))
theorem DO.toE(h:DO X ρ e ds):DE X ρ e (.lst ds):=λσ H Q R q=>h σ H Q R λa xs H' g n m l =>q _ H' g ⟨a,xs,rfl,.inl (.inl (by rw[j6 (R.fresh n)];exact m)),l.mono (vd λb hb=>km _ hb)⟩
theorem DL.toT(h:DL X ρ e ds):DT X ρ e (.lst ds):=λσ H Q R q=>h σ H Q R λa xs H' g m l=>q _ H' g ⟨a,xs,rfl,.inl (.inl m),l.mono jo⟩
theorem DW.toB{k:Bool}(h:DW X ρ e k):DB X ρ e k:=λσ H Q R q pins s I=>h σ H Q R q _ pins s I
theorem DE.eq(h:DE X ρ e d){d':D}(q:d=d'):DE X ρ e d':=q▸h
theorem DB.eq{b b':Bool}(h:DB X ρ e b)(q:b=b'):DB X ρ e b':=q▸h
end
section
variable{X:Cx}{ρ:Rho}{e a b c:aj}{es:List aj}{d da db:D}{ds ds':List D}{i j:Int}{pos p:aO}{k:Nat}{x:ah}
theorem DE.var(k:Nat)(h:ρ[k]?=a5 (.val d))(hN:X.N[k]?=a5 x:=by rfl)(hv:Vis X.env.scope x:=by first|exact aU rfl|exact bR (aU rfl)|exact bR (bR rfl))
  (hd:(x==k87)=a6:=by decide) (hcd:(x==k88)=a6:=by decide):DE X ρ (.Name x pos) d:=λσ H Q R q=>by
 obtain⟨v,hs,en⟩:=R.val k d h;exact(J7 hN hv hd hcd).to ⟨v,hs,q v H (j4.refl H) en⟩
theorem DL.var(k:Nat){l:ae}(h:ρ[k]?=a5 (.own l ds))(hN:X.N[k]?=a5 x:=by rfl)(hv:Vis X.env.scope x:=by first|exact aU rfl|exact bR (aU rfl)|exact bR (bR rfl))
  (hd:(x==k87)=a6:=by decide) (hcd:(x==k88)=a6:=by decide):DL X ρ (.Name x pos) ds:=λσ H Q R q=>by
 obtain⟨hs,xs,m,en⟩:=R.own k l ds h;exact(J7 hN hv hd hcd).to ⟨_,hs,q l xs H (j4.refl H) m en⟩
theorem DE.glob {u:aa} {v:V} (hg:Gl X x) (hm:X.mg x=a5 u) (r:RelV v u) (h:∀H,Enc X.K H d v) (hd:(x==k87)=a6:=by decide):DE X ρ (.Name x pos) d :=
 λσ H Q R q=>(Ri hg hm r hd).to (q v H (j4.refl H) (h _))
theorem DE.int{i:Int}{n:Nat}{pos:aO}:DE X ρ (.Constant (.int i) n pos) (.int i):=λσ H Q R q=>jex.to (q _ H (j4.refl H) rfl)
theorem DE.bl{b:Bool}{n:Nat}:DE X ρ (.Constant (.bool b) n pos) (.bl b):=λσ H Q R q=>jin.to (q _ H (j4.refl H) rfl)
theorem DE.str{y:ah}{n:Nat}:DE X ρ (.Constant (.str y) n pos) (.str y):=λσ H Q R q=>j4q.to (q _ H (j4.refl H) rfl)
theorem DE.arI0{op:jI}{g:Int->Int->Int}(ho:OpR X (bo op) (rI0 λi j=>.int (g i j)))(ha:DT X ρ a (.int i))(hb:DT X ρ b (.int j)):DE X ρ (.BinOp a op b pos) (.int (g i j)):=λσ H Q R q =>(Vx ho peS peS).to (ha σ H _ R λv H1 g1 e1=>hb σ H1 _ (R.grow g1) λu H2 g2 e2=>⟨i,j,e1,e2,q _ H2 (g1.trans g2) rfl⟩)
theorem DE.arI{op:jI}{C:Int->Int->Prop}{g:Int->Int->Int}(ho:OpR X (bo op) (rI C λi j=>.int (g i j)))(ha:DT X ρ a (.int i))(hb:DT X ρ b (.int j))(hC:C i j):DE X ρ (.BinOp a op b pos) (.int (g i j)):=λσ H Q R q =>(Vx ho peS peS).to (ha σ H _ R λv H1 g1 e1=>hb σ H1 _ (R.grow g1) λu H2 g2 e2=>⟨i,j,e1,e2,hC,q _ H2 (g1.trans g2) rfl⟩)
theorem DE.add(ha:DT X ρ a (.int i))(hb:DT X ρ b (.int j)):DE X ρ (.BinOp a .Add b pos) (.int (i+j)):=DE.arI0 jf9 ha hb
theorem DE.sub(ha:DT X ρ a (.int i))(hb:DT X ρ b (.int j)):DE X ρ (.BinOp a .Sub b pos) (.int (i-j)):=DE.arI0 jf1 ha hb
theorem DE.mul(ha:DT X ρ a (.int i))(hb:DT X ρ b (.int j))(h:j3u i j):DE X ρ (.BinOp a .Mult b pos) (.int (i*j)):=DE.arI jf6 ha hb h
theorem DE.mod(ha:DT X ρ a (.int i))(hb:DT X ρ b (.int j))(h:0<j):DE X ρ (.BinOp a .Mod b pos) (.int (i%j)):=DE.arI jf7 ha hb h
theorem DE.pow(ha:DT X ρ a (.int i))(hb:DT X ρ b (.int j))(h:j3t i j):DE X ρ (.BinOp a .Pow b pos) (.int (i^j.toNat)):=DE.arI jf5 ha hb h
theorem DE.shl(ha:DT X ρ a (.int i))(hb:DT X ρ b (.int j))(h:j3t i j):DE X ρ (.BinOp a .LShift b pos) (.int (i*2^j.toNat)):=DE.arI (g:=λi j=>i*2^j.toNat) jf3 ha hb h
theorem DE.cmpI{op:gw}{g:Int->Int->Bool}(ho:OpR X (bp op) (rI0 λi j=>.bl (g i j)))(hm:aM op b=a6)(ha:DT X ρ a (.int i))(hb:DT X ρ b (.int j)):DE X ρ (.Compare a [op] [b] pos) (.bl (g i j)):=λσ H Q R q =>(Jx ho peS peS hm).to (ha σ H _ R λv H1 g1 e1=>hb σ H1 _ (R.grow g1) λu H2 g2 e2=>⟨i,j,e1,e2,q _ H2 (g1.trans g2) rfl⟩)
theorem DB.cmpI{op:gw}{g:Int->Int->Bool}(ho:OpR X (bp op) (rI0 λi j=>.bl (g i j)))(hm:aM op b=a6)(ha:DT X ρ a (.int i))(hb:DT X ρ b (.int j)):DB X ρ (.Compare a [op] [b] pos) (g i j):=λσ H Q R q =>(Jw ho peS peS hm).to (ha σ H _ R λv H1 g1 e1=>hb σ H1 _ (R.grow g1) λu H2 g2 e2=>⟨i,j,e1,e2,_,rfl,q H2 (g1.trans g2)⟩)
theorem DB.lt(ha:DT X ρ a (.int i))(hb:DT X ρ b (.int j)):DB X ρ (.Compare a [.Lt] [b] pos) (decide (i<j)):=DB.cmpI j9q (zm _) ha hb
theorem DB.le(ha:DT X ρ a (.int i))(hb:DT X ρ b (.int j)):DB X ρ (.Compare a [.LtE] [b] pos) (decide (i<=j)):=DB.cmpI j9r (zm _) ha hb
theorem DB.gt(ha:DT X ρ a (.int i))(hb:DT X ρ b (.int j)):DB X ρ (.Compare a [.Gt] [b] pos) (decide (j<i)):=DB.cmpI j9s (zm _) ha hb
theorem DB.ge(ha:DT X ρ a (.int i))(hb:DT X ρ b (.int j)):DB X ρ (.Compare a [.GtE] [b] pos) (decide (j<=i)):=DB.cmpI j9t (zm _) ha hb
theorem DE.lt(ha:DT X ρ a (.int i))(hb:DT X ρ b (.int j)):DE X ρ (.Compare a [.Lt] [b] pos) (.bl (decide (i<j))):=DE.cmpI j9q (zm _) ha hb
theorem DE.le(ha:DT X ρ a (.int i))(hb:DT X ρ b (.int j)):DE X ρ (.Compare a [.LtE] [b] pos) (.bl (decide (i<=j))):=DE.cmpI j9r (zm _) ha hb
theorem DE.gt(ha:DT X ρ a (.int i))(hb:DT X ρ b (.int j)):DE X ρ (.Compare a [.Gt] [b] pos) (.bl (decide (j<i))):=DE.cmpI j9s (zm _) ha hb
theorem DE.ge(ha:DT X ρ a (.int i))(hb:DT X ρ b (.int j)):DE X ρ (.Compare a [.GtE] [b] pos) (.bl (decide (j<=i))):=DE.cmpI j9t (zm _) ha hb
noncomputable def D.sc:D->Option V
 |.non=>a5 .non
 |.bl b=>a5 (.bl b)
 |.int i=>a5 (.int i)
 |.str x=>a5 (.str x)
 |_=>a8
theorem D.sc_enc{K:k83}{H:Hp}{d:D}{u v:V}(h:d.sc=a5 u)(q:Enc K H d v):v=u:=by cases d<;>simp[D.sc]at h<;>subst h<;>exact q
theorem DE.eqS{u v:V}(ha:DT X ρ a da)(hb:DT X ρ b db)(h1:da.sc=a5 u:=by rfl)(h2:db.sc=a5 v:=by rfl)(h:Nr u v=a7:=by rfl):DE X ρ (.Compare a [.Eq] [b] pos) (.bl (decide (u=v))):=λσ H Q R q =>
 (Jx j9u peS peS (zm _)).to (ha σ H _ R λx H1 g1 e1=>hb σ H1 _ (R.grow g1) λy H2 g2 e2=>by
  cases D.sc_enc h1 e1;cases D.sc_enc h2 e2;exact⟨h,q _ H2 (g1.trans g2) rfl⟩)
theorem DE.neS{u v:V}(ha:DT X ρ a da)(hb:DT X ρ b db)(h1:da.sc=a5 u:=by rfl)(h2:db.sc=a5 v:=by rfl)(h:Nr u v=a7:=by rfl):DE X ρ (.Compare a [.NotEq] [b] pos) (.bl (!decide (u=v))):=λσ H Q R q =>
 (Jx j9p peS peS (zm _)).to (ha σ H _ R λx H1 g1 e1=>hb σ H1 _ (R.grow g1) λy H2 g2 e2=>by
  cases D.sc_enc h1 e1;cases D.sc_enc h2 e2;exact⟨h,q _ H2 (g1.trans g2) rfl⟩)
theorem DB.eqS{u v:V}(ha:DT X ρ a da)(hb:DT X ρ b db)(h1:da.sc=a5 u:=by rfl)(h2:db.sc=a5 v:=by rfl)(h:Nr u v=a7:=by rfl):DB X ρ (.Compare a [.Eq] [b] pos) (decide (u=v)):=λσ H Q R q =>
 (Jw j9u peS peS (zm _)).to (ha σ H _ R λx H1 g1 e1=>hb σ H1 _ (R.grow g1) λy H2 g2 e2=>by
  cases D.sc_enc h1 e1;cases D.sc_enc h2 e2;exact⟨h,_,rfl,q H2 (g1.trans g2)⟩)
theorem DB.neS{u v:V}(ha:DT X ρ a da)(hb:DT X ρ b db)(h1:da.sc=a5 u:=by rfl)(h2:db.sc=a5 v:=by rfl)(h:Nr u v=a7:=by rfl):DB X ρ (.Compare a [.NotEq] [b] pos) (!decide (u=v)):=λσ H Q R q =>
 (Jw j9p peS peS (zm _)).to (ha σ H _ R λx H1 g1 e1=>hb σ H1 _ (R.grow g1) λy H2 g2 e2=>by
  cases D.sc_enc h1 e1;cases D.sc_enc h2 e2;exact⟨h,_,rfl,q H2 (g1.trans g2)⟩)
theorem Uj(i j:Int):decide (V.int i=V.int j)=decide (i=j):=by
 by_cases h:i=j
 .subst h;simp
 .rw[decide_eq_false h,decide_eq_false (λz=>h (V.int.inj z))]
theorem j1z(i j:Bool):decide (V.bl i=V.bl j)=(i==j):=by cases i<;>cases j<;>rfl
theorem j04(i j:ah):decide (V.str i=V.str j)=decide (i=j):=by
 by_cases h:i=j
 .subst h;simp
 .rw[decide_eq_false h,decide_eq_false (λz=>h (V.str.inj z))]
theorem DE.eqI(ha:DT X ρ a (.int i))(hb:DT X ρ b (.int j)):DE X ρ (.Compare a [.Eq] [b] pos) (.bl (decide (i=j))):=(DE.eqS ha hb).eq (by rw[Uj])
theorem DE.neI(ha:DT X ρ a (.int i))(hb:DT X ρ b (.int j)):DE X ρ (.Compare a [.NotEq] [b] pos) (.bl (!decide (i=j))):=(DE.neS ha hb).eq (by rw[Uj])
theorem DB.eqI(ha:DT X ρ a (.int i))(hb:DT X ρ b (.int j)):DB X ρ (.Compare a [.Eq] [b] pos) (decide (i=j)):=(DB.eqS ha hb).eq (by rw[Uj])
theorem DB.neI(ha:DT X ρ a (.int i))(hb:DT X ρ b (.int j)):DB X ρ (.Compare a [.NotEq] [b] pos) (!decide (i=j)):=(DB.neS ha hb).eq (by rw[Uj])
theorem DE.neB{x y:Bool}(ha:DT X ρ a (.bl x))(hb:DT X ρ b (.bl y)):DE X ρ (.Compare a [.NotEq] [b] pos) (.bl (x != y)):=(DE.neS ha hb).eq (by rw[j1z];rfl)
theorem DB.neB{x y:Bool}(ha:DT X ρ a (.bl x))(hb:DT X ρ b (.bl y)):DB X ρ (.Compare a [.NotEq] [b] pos) (x != y):=(DB.neS ha hb).eq (by rw[j1z];rfl)
noncomputable def D.isNon:D->Bool
 |.non=>a7
 |_=>a6
theorem Dz{K:k83}{H:Hp}{d:D}{v:V}(q:Enc K H d v):decide (v=V.non)=d.isNon:=by
 cases d with
 |non=>cases(show v=.non from q);rfl
 |bl b=>cases(show v=.bl b from q);rfl
 |int b=>cases(show v=.int b from q);rfl
 |str b=>cases(show v=.str b from q);rfl
 |tup l=>obtain⟨a,xs,e,_⟩:=q;subst e;rfl
 |lst l=>obtain⟨a,xs,e,_⟩:=q;subst e;rfl
 |dct ks l=>obtain⟨a,xs,ep,vs,e,_⟩:=q;subst e;rfl
 |sct k=>obtain⟨a,e,_⟩:=q;subst e;rfl
 |fn x l=>obtain⟨a,c,tx,cl,vs,e,_⟩:=q;subst e;rfl
theorem DE.isN{n:Nat}{p2:aO}(ha:DT X ρ a d):DE X ρ (.Compare a [.Is] [.Constant .none n p2] pos) (.bl d.isNon):=λσ H Q R q =>(jey (j4s peS)).to (ha σ H _ R λx H1 g1 e1=>q _ H1 g1 (by rw[Dz e1];rfl))
theorem DB.isN{n:Nat}{p2:aO}(ha:DT X ρ a d):DB X ρ (.Compare a [.Is] [.Constant .none n p2] pos) d.isNon:=λσ H Q R q =>(jer (j4s peS)).to (ha σ H _ R λx H1 g1 e1=>⟨_,rfl,by rw[Dz e1];exact q H1 g1⟩)
theorem DB.val{k:Bool}(ha:DT X ρ a (.bl k))(he:∀whole,fG a X.env whole=(do let v <-whole;kr a.pos;iM [v] (truthy v)):=by intro _;rfl):DB X ρ a k:=λσ H Q R q =>(jep peS he).to (ha σ H _ R λx H1 g1 e1=>⟨_,e1,q H1 g1⟩)
theorem DW.or1{k:Bool}(ha:DB X ρ a k):DW X ρ (.BoolOp .Or [a] pos) k:=λσ H Q R q=>(jeo ptS).to (ha σ H Q R q)
theorem DW.or{k m:Bool}{rest:List aj}(ha:DB X ρ a k)(hb:k=a6->DW X ρ (.BoolOp .Or (b::rest) pos) m):DW X ρ (.BoolOp .Or (a::b::rest) pos) (k || m):=λσ H Q R q =>
 (jil ptS pwS).to (ha σ H _ R λH1 g1=>by
  cases k with
  |true=>exact j7z (q H1 g1)
  |false=>exact j80 (hb rfl σ H1 Q (R.grow g1) λH2 g2=>q H2 (g1.trans g2)))
theorem DB.not{k:Bool}(ha:DB X ρ a k):DB X ρ (.UnaryOp .Not a pos) (!k):=λσ H Q R q=>(jeq ptS).to (ha σ H _ R λH1 g1=>q H1 g1)
theorem DE.and{k m:Bool}{rest:List aj}(ha:DT X ρ a (.bl k))(hb:k=a7->DE X ρ (.BoolOp .And (b::rest) pos) (.bl m)):DE X ρ (.BoolOp .And (a::b::rest) pos) (.bl (k&&m)):=λσ H Q R q =>
 (jez peS peS).to (ha σ H _ R λx H1 g1 e1=>⟨k,e1,by
  cases k with
  |false=>exact j80 (q _ H1 g1 rfl)
  |true=>exact j7z (hb rfl σ H1 Q (R.grow g1) λv H2 g2=>q v H2 (g1.trans g2))⟩)
theorem DA.nil:DA X ρ [] []:=λσ H Q R q=>jm.to (q [] H (j4.refl H) rfl)
theorem DA.cons(ha:DE X ρ a d)(hr:DA X ρ es ds)(hs:a9 (a::es) X.env=(a6,aE a X.env)::a9 es X.env:=by rfl):DA X ρ (a::es) (d::ds):=λσ H Q R q =>(j9 peS paS hs).to (ha σ H _ R λv H1 g1 e1=>hr σ H1 _ (R.grow g1) λvs H2 g2 e2=>q _ H2 (g1.trans g2) ⟨v,vs,rfl,e1.mono (jh g2),e2⟩)
theorem DTA.nil:DTA X ρ [] []:=λσ H Q R q=>jm.to (q [] H (j4.refl H) rfl)
theorem DTA.cons(ha:DT X ρ a d)(hr:DTA X ρ es ds)(hs:a9 (a::es) X.env=(a6,aE a X.env)::a9 es X.env:=by rfl):DTA X ρ (a::es) (d::ds):=λσ H Q R q =>(j9 peS paS hs).to (ha σ H _ R λv H1 g1 e1=>hr σ H1 _ (R.grow g1) λvs H2 g2 e2=>q _ H2 (g1.trans g2) ⟨v,vs,rfl,e1.mono g2,e2⟩)
theorem DE.tup{n:Nat}{x1}(h:DA X ρ es ds)(hl:ds.length<=ak:=by simp only[X4,cQ];decide):DE X ρ (.Tuple es x1 pos) (.tup ds):=λσ H Q R q =>(Iv paS).to (h σ H _ R λvs H1 g1 e1=>⟨by rw[e1.length];exact hl,λp hp=>q _ _ (g1.trans (j8 hp)) ⟨p,vs,rfl,.inl (.inl (by rw[j6 ((R.grow g1).fresh hp)];exact jb)),e1.mono (jh (j8 hp))⟩⟩)
theorem DO.lst(h:DA X ρ es ds)(hl:ds.length<=ak:=by simp only[X4,cQ];decide):DO X ρ (.List es pos) ds:=λσ H Q R q =>
 (jew paS).to (h σ H _ R λvs H1 g1 e1=>⟨by rw[e1.length];exact hl,λp hp=>q p vs _ (g1.trans (j8 hp)) (g1.free hp) jb (e1.mono λb o z=>by
  obtain⟨n,z⟩:=of_del z
  rw[j6];exact j8 hp b o z
  intro y
  rcases xj.mp y with y|y
  .subst y;rw[hp]at z;cases z
  .exact n y)⟩)
theorem j5.atI{K:k83}{H:Hp}{xs:List V}(h:j5 K H ds xs)(q:atI ds i=a5 d):∃x,L2.atI xs i=a5 x/\Enc K H d x:=by
 unfold L2.atI at q ⊢;rw[h.length];cases z:ixN ds.length i with
 |none=>rw[z]at q;cases q
 |some k =>rw[z]at q;exact h.get q
noncomputable def cutD(ds:List D)(lo hi:Option Int):List D:=(ds.drop (HT.sIx ds.length 0 lo)).take (HT.sIx ds.length ds.length hi-HT.sIx ds.length 0 lo)
theorem j5.cut{K:k83}{H:Hp}{xs:List V}(h:j5 K H ds xs)(lo hi:Option Int):j5 K H (cutD ds lo hi) (Wo xs lo hi):=by unfold cutD Wo;rw[h.length];exact(h.drop _).take _
theorem Ug{K:k83}{H1:Hp}{A:List ae}{ds:List D}{xs:List V}{p:ae}{o:HO}(hp:H1 p=a8)(e1:j5 K (del H1 A) ds xs):j5 K (del (upd H1 p o) (p::A)) ds xs:=e1.mono λb o z=>by
 obtain⟨n,z⟩:=of_del z;rw[j6];exact j8 hp b o z;intro y;rcases xj.mp y with y|y
 .subst y;rw[hp]at z;cases z
 .exact n y
theorem DO.rep(ha:DL X ρ a ds)(hb:DT X ρ b (.int i))(h1:-(2^63)<=i)(h2:i<2^63)(hl:ds.length*i.toNat<=ak):DO X ρ (.BinOp a .Mult b pos) (ao i.toNat ds).flatten:=λσ H Q R q =>
 (Vx jf4 peS peS).to (ha σ H _ R λl xs H1 g1 m1 e1=>hb σ H1 _ (R.grow g1) λu H2 g2 e2 =>
  ⟨l,i,xs,rfl,e2,g2 _ _ m1,h1,h2,by rw[e1.length];exact hl,λp hp=>q p _ _ ((g1.trans g2).trans (j8 hp)) ((g1.trans g2).free hp) jb (Ug hp ((e1.mono (jh g2)).rep _))⟩)
theorem DE.lenT (ha:DT X ρ a (.tup ds)) (hm:X.mg "len" = a8) (hg:Gl X "len":=by rfl) (hs:a9 [a] X.env=[(a6,aE a X.env)]:=by rfl) {p2:aO}:DE X ρ (.Call (.Name "len" p2) [a] [] pos) (.int ds.length):=λσ H Q R q =>(zf Wt hg hm fZ (j9 peS jm hs) (by decide) (by decide) hs).to (ha σ H _ R λv H1 g1 ⟨l,xs,e,sq,en⟩=>⟨l,xs,by rw[e],.inr sq,q _ H1 g1 (by rw[en.length];rfl)⟩)
theorem DE.lenL (ha:DT X ρ a (.lst ds)) (hm:X.mg "len" = a8) (hg:Gl X "len":=by rfl) (hs:a9 [a] X.env=[(a6,aE a X.env)]:=by rfl) {p2:aO}:DE X ρ (.Call (.Name "len" p2) [a] [] pos) (.int ds.length):=λσ H Q R q =>(zf Wt hg hm fZ (j9 peS jm hs) (by decide) (by decide) hs).to (ha σ H _ R λv H1 g1 ⟨l,xs,e,sq,en⟩=>⟨l,xs,by rw[e],.inl sq,q _ H1 g1 (by rw[en.length];rfl)⟩)
end
def framed(sp:Sp):Sp:=λvs H Q E=>∃A:List ae,(∀a∈A,∃xs,H a=a5 (.lst xs))/\sp vs (del H A) (λv F=>(∀a∈A,F a=a8)->Q v (mrg A H F)) E
theorem FnOk.framed{P:ar}{w:aA}{K:k83}{mg:k86}{base:aG}{k:Nat}{f:ae}{fd:aJ}{ps:List ah}{sp:Sp}(F:FnOk P w K mg base CX0 k f fd ps sp) :
  FnOk P w K mg base CX0 k f fd ps (framed sp) where
 len:=λvs H Q E ⟨A,_,h⟩=>F.len vs _ _ _ h
 run:=by
  rintro A0 outer s H args us vs Q E hr e0 hb rv ⟨A,hA,h⟩;have nd:∀{b:ae},H b=a8->del H A b=a8:=λ{b} q=>by
   by_cases z:b∈A
   .exact qw z
   .rw[j6 z];exact q
  have out:∀{b:ae}{o:HO},H b=a5 o->(∀ys,o≠.lst ys)->del H A b=a5 o:=λ{b o} q z=>by rw[j6];exact q;intro y;obtain⟨ys,e'⟩:=hA b y;rw[q]at e';cases e';exact z ys rfl
  have e1:Env0 P w K mg base A0 outer s (del H A):=⟨e0.frames,e0.mod,λb o q=>⟨(e0.bs b o q).1,nd (e0.bs b o q).2⟩,e0.bsz,e0.funs,λb hb=>nd (e0.frf b hb),
   λa o q=>by
    obtain⟨_,q⟩:=of_del q
    exact jg.stay (e0.hok a o q) (λb u _ z=>z) (λb z=>out z λ_ y=>by cases y) (λb xs z=>out z λ_ y=>by cases y) (λb _ _ z=>out z λ_ y=>by cases y),e0.bare⟩
  refine cg (F.run A0 outer s (del H A) args us vs _ E hr e1 hb rv h) λr s' hq=>?_;cases r with
  |error e=>exact(show False from hq).elim
  |ok fl =>
   cases fl with
   |next=>exact(show False from hq).elim
   |brk=>exact(show False from hq).elim
   |cont=>exact(show False from hq).elim
   |ret u =>
    obtain⟨v,H',os,bare,un,hok',rel,q⟩:=(show CE outer P w (del H A) s _ u s' from hq)
    have kept:∀a∈A,∃o,s.heap.get? a=a5 o/\s'.heap.get? a=a5 o/\H' a=a8:=λa ha=>by
     obtain⟨xs,e⟩:=hA a ha;obtain⟨_,its,n,_,z⟩:=(show jg P w H s.heap a (.lst xs)from e0.hok _ _ e)
     have nf:a∉frs outer:=λy=>by rw[e0.frf a y]at e;cases e
     exact⟨_,z,un.keep a _ z (qw ha) nf (by simp),un.free a _ z (qw ha) (by simp)⟩
    have hF:∀a∈A,H' a=a8:=λa ha=>let ⟨_,_,_,z⟩:=kept a ha;z;have outF:∀{b:ae}{o:HO},H' b=a5 o->b∉A:=λ{b o} e z=>by rw[hF b z]at e;cases e
    refine⟨v,mrg A H H',os,bare,?_,λa o e=>?_,rel,q hF⟩
    .exact{
      keep:=λb o e n=>un.keep b o e (nd n)
      slot:=λb o e n=>un.slot b o e (nd n)
      free:=λb o e n hx=>by
       by_cases z:b∈A
       .rw[vp z];exact n
       .rw[jf z];exact un.free b o e (nd n) hx
      there:=un.there
      tups:=λb xs e=>by
       have z:=un.tups b xs (out e λ_ y=>by cases y)
       rw[jf (outF z)];exact z
      frzs:=λb o u e=>by
       have z:=un.frzs b o u (out e λ_ y=>by cases y)
       rw[jf (outF z)];exact z
      tbls:=λb ps e=>by
       obtain⟨more,z⟩:=un.tbls b ps (out e λ_ y=>by cases y)
       exact⟨more,by rw[jf (outF z)];exact z⟩ }
    .by_cases z:a∈A
     .rw[vp z]at e;obtain⟨xs,e'⟩:=hA a z;rw[e']at e;cases e;obtain⟨hl,its,n,r,y⟩:=(show jg P w H s.heap a (.lst xs)from e0.hok _ _ e')
      obtain⟨o',q1,q2,_⟩:=kept a z;rw[y]at q1;cases q1;exact⟨hl,its,n,r,q2⟩
     .rw[jf z]at e;refine jg.stay (hok' a o e) (λb u _ q=>q) (λb q=>?_) (λb xs q=>?_) (λb _ _ q=>?_)
      .rw[jf (outF q)];exact q
      .rw[jf (outF q)];exact q
      .rw[jf (outF q)];exact q
def spP(K:k83)(S:List D->D->Prop):Sp:=λvs H Q _=>∃A ds d,TabOk K H/\(∀a∈A,∃xs,H a=a5 (.lst xs))/\j5 K (del H A) ds vs/\S ds d/\∀v H',j4 H H'->Enc K (del H' A) d v->Q v H'
def spF(K:k83)(S:List D->List D->Prop):Sp:=λvs H Q _=>∃A ds l,TabOk K H/\(∀a∈A,∃xs,H a=a5 (.lst xs))/\j5 K (del H A) ds vs/\S ds l /\
 ∀a xs H',j4 H H'->H a=a8->H' a=a5 (.lst xs)->j5 K (del H' (a::A)) l xs->Q (.ref a) H'
def jko(K:k83)(S:List D->D->Prop):Sp:=λvs H Q _=>∃ds d,TabOk K H/\j5 K H ds vs/\S ds d/\∀v H',j4 H H'->Enc K H' d v->Q v H'
def jkq(K:k83)(S:List D->List D->Prop):Sp:=λvs H Q _=>∃ds l,TabOk K H/\j5 K H ds vs/\S ds l/\∀a xs H',j4 H H'->H a=a8->H' a=a5 (.lst xs)->j5 K (del H' [a]) l xs->Q (.ref a) H'
section
variable{P:ar}{w:aA}{K:k83}{mg:k86}{base:aG}{k:Nat}{f:ae}{fd:aJ}{ps:List ah}
theorem FnOk.toP{S:List D->D->Prop}(F:FnOk P w K mg base CX0 k f fd ps (jko K S)):FnOk P w K mg base CX0 k f fd ps (spP K S) :=
 F.framed.imp λvs H Q E ⟨A,ds,d,tb,hA,en,hS,q⟩=>⟨A,hA,ds,d,tb.del hA,en,hS,λv F g e hF=>q v _ (Ms g) (by rw[Qt hF];exact e)⟩
theorem FnOk.toF{S:List D->List D->Prop}(F:FnOk P w K mg base CX0 k f fd ps (jkq K S)):FnOk P w K mg base CX0 k f fd ps (spF K S) :=
 F.framed.imp λvs H Q E ⟨A,ds,l,tb,hA,en,hS,q⟩=>⟨A,hA,ds,l,tb.del hA,en,hS,λa xs F g n e l' hF=>by
  have na:a∉A:=λz=>by rw[hF a z]at e;cases e
  refine q a xs _ (Ms g) (by rw[j6 na]at n;exact n) (by rw[jf na];exact e) (l'.mono λb o z=>?_)
  obtain⟨n1,z⟩:=of_del z
  have nb:b∉A:=λy=>by rw[hF b y]at z;cases z
  rw[j6,jf nb];exact z
  intro y
  rcases xj.mp y with y|y
  .exact n1 (by rw[y];exact X6.mpr rfl)
  .exact nb y⟩
end
noncomputable def jh2:List ah:=["dearest_way","cost_on_whole","worst_table","worst_plan","foe_answer","whole_table","whole_plan","mean_price"]
noncomputable def kG(us ws:List aa):List aa:=match ws with
 |[w]=>us++[w]
 |_=>[]
noncomputable def kGV(vs zs:List V):List V:=match zs with
 |[z]=>vs++[z]
 |_=>[]
def Dfl(K:k83)(x:ah)(fd:aJ)(ps:List ah):Prop:=x∈jh2->Binds K fd ps [.none]/\KBinds K fd ps ["prices"] kG kGV
structure Cal(X:Cx)(x:ah)(sp:Sp):Prop where
 ex:∃(k:Nat)(f:ae)(fd:aJ)(ps:List ah),FnOk X.prog X.w X.K X.mg X.base CX0 k f fd ps sp/\Room (k+1) X.A/\X.mg x=a5 (.ref f)/\W.keepIn X.K (.ref f)=a7/\Binds X.K fd ps []/\Dfl X.K x fd ps
section
variable{X:Cx}{ρ:Rho}{e a:aj}{es:List aj}{d:D}{ds l:List D}{pos p:aO}{x:ah}
theorem DE.call{S:List D->D->Prop}(c:Cal X x (spP X.K S))(ha:DA X ρ (e::es) ds)(hS:S ds d)(hg:Gl X x:=by rfl)(hdb:(x==k87)=a6:=by decide)
  (he:a9 (e::es) X.env=(a6,aE e X.env)::a9 es X.env:=by rfl) (hpl:(aR pos (a9 es X.env)).any (·.1)=a6:=by rfl):DE X ρ (.Call (.Name x p) (e::es) [] pos) d:=λσ H Q R q=>by
 obtain⟨k,f,fd,ps,F,hr,hm,hk,hb,_⟩:=c.ex;refine(Rj F (hr.mono (Xv _)) hg hm hk hb .nil Lw paS hdb he hpl).to (ha σ H _ R λvs H1 g1 e1=>?_);show spP X.K S (vs++[]) H1 Q E0;rw[Xr];exact⟨owns ρ,ds,d,R.tb.mono g1,(R.grow g1).owned,e1,hS,λv H2 g2 z=>q v H2 (g1.trans g2) z⟩
theorem DT.call{S:List D->D->Prop}(c:Cal X x (spP X.K S))(ha:DTA X ρ (e::es) ds)(hS:S ds d)(hg:Gl X x:=by rfl)(hdb:(x==k87)=a6:=by decide)
  (he:a9 (e::es) X.env=(a6,aE e X.env)::a9 es X.env:=by rfl) (hpl:(aR pos (a9 es X.env)).any (·.1)=a6:=by rfl):DT X ρ (.Call (.Name x p) (e::es) [] pos) d:=λσ H Q R q=>by
 obtain⟨k,f,fd,ps,F,hr,hm,hk,hb,_⟩:=c.ex;refine(Rj F (hr.mono (Xv _)) hg hm hk hb .nil Lw paS hdb he hpl).to (ha σ H _ R λvs H1 g1 e1=>?_);show spP X.K S (vs++[]) H1 Q E0;rw[Xr];exact⟨[],ds,d,R.tb.mono g1,(λa h=>nomatch h),by rw[vf];exact e1,hS,λv H2 g2 z=>q v H2 (g1.trans g2) (by rw[vf]at z;exact z)⟩
theorem DO.call{S:List D->List D->Prop}(c:Cal X x (spF X.K S))(ha:DA X ρ (e::es) ds)(hS:S ds l)(hg:Gl X x:=by rfl)(hdb:(x==k87)=a6:=by decide)
  (he:a9 (e::es) X.env=(a6,aE e X.env)::a9 es X.env:=by rfl) (hpl:(aR pos (a9 es X.env)).any (·.1)=a6:=by rfl):DO X ρ (.Call (.Name x p) (e::es) [] pos) l:=λσ H Q R q=>by
 obtain⟨k,f,fd,ps,F,hr,hm,hk,hb,_⟩:=c.ex;refine(Rj F (hr.mono (Xv _)) hg hm hk hb .nil Lw paS hdb he hpl).to (ha σ H _ R λvs H1 g1 e1=>?_);show spF X.K S (vs++[]) H1 Q E0;rw[Xr];exact⟨owns ρ,ds,l,R.tb.mono g1,(R.grow g1).owned,e1,hS,λa xs H2 g2 n m z=>q a xs H2 (g1.trans g2) (g1.free n) m z⟩
end
inductive Rt where
 |val (d:D)
 |fresh (ds:List D)
noncomputable def Rt.d:Rt->D
 |.val d=>d
 |.fresh l=>.lst l
structure Po where
 nx:Rho->Prop
 rt:Rt->Prop
 bk:Rho->Prop:=λ_=>False
 ct:Rho->Prop:=λ_=>False
 ex:ah->Rho->Prop:=λ_ _=>False
structure FlQ(q:aa->Prop)(N:ae->Prop)(H:Hp)(h:aG)(e:ae)(C:aa):Prop where
 new:∀b,N b->b≠e
 free:H e=a8
 obj:∃(oe:cF)(vs:Array aa)(a0:aa),h.get? e=a5 oe/\oe.cls=C/\oe.data=.fields vs/\vs[0]?=a5 a0 /\
  (vs[1]?=a5 .none\/∃(T:ae)(oT:cF)(ts:Array aa)(fl:aa),vs[1]?=a5 (.ref T)/\T≠e/\h.get? T=a5 oT/\oT.data=.fields ts/\(ts[3]?=a5 fl/\q fl)/\H T=a8/\∀b,N b->b≠T)
def flN(v:aa):Prop:=v=.none
def flF(env:cI)(v:aa):Prop:=v=.none\/∃L,env.frame=a5 L/\v=k8 L
abbrev Fl(N:ae->Prop)(H:Hp)(h:aG)(e:ae)(C:aa):Prop:=FlQ flN N H h e C
theorem FlQ.up{q q':aa->Prop}{N N':ae->Prop}{H:Hp}{h:aG}{e:ae}{C:aa}(F:FlQ q N H h e C)(hq:∀v,q v->q' v)(hN:∀b,N' b->N b):FlQ q' N' H h e C:=by refine⟨λb hb=>F.new b (hN b hb),F.free,?_⟩;obtain⟨oe,vs,a0,z1,z2,z3,z4,z5⟩:=F.obj;refine⟨oe,vs,a0,z1,z2,z3,z4,z5.imp id ?_⟩;rintro⟨T,oT,ts,fl,y1,y2,y3,y4,⟨y5,y6⟩,y7,y8⟩;exact⟨T,oT,ts,fl,y1,y2,y3,y4,⟨y5,hq _ y6⟩,y7,λb hb=>y8 b (hN b hb)⟩
def Old(X:Cx)(pins:k85)(b:ae):Prop:=(∃o,X.s₀.heap.get? b=a5 o/\b∉X.ex)\/(∃p∈X.pn++pins,p.1=b)\/b=X.env.locals\/∃x,X.env.cells.lookup x=a5 b
def Od(X:Cx)(σ:St)(H:Hp)(x:ah):Prop:=∀(pins:k85) (H':Hp) (s':af) (e:ae) (C:aa),Inv X pins σ H' s'->j4 H H'->X.mg x=a5 C->FlQ (flF X.env) (Old X pins) H' s'.heap e C->X.xe (.ref e) s'
def Fr0(ρ ρ':Rho)(H H':Hp):Prop:=j4 (del H (owns ρ)) (del H' (owns ρ'))
def Dh(K:k83)(ρ:Rho)(H H':Hp)(v:V):Rt->Prop
 |.val d=>j4 (del H (owns ρ)) H'/\Enc K H' d v
 |.fresh ds=>∃a xs,v=.ref a/\j4 (del H (owns ρ)) (del H' [a])/\H' a=a5 (.lst xs)/\j5 K (del H' [a]) ds xs
structure EndsOk(X:Cx)(ρ:Rho)(H:Hp)(P:Po)(E:Ends):Prop where
 nx:∀ρ' σ' H',P.nx ρ'->Rep X.K ρ' σ' H'->Fr0 ρ ρ' H H'->E.nx σ' H'
 bk:∀ρ' σ' H',P.bk ρ'->Rep X.K ρ' σ' H'->Fr0 ρ ρ' H H'->E.bk σ' H'
 ct:∀ρ' σ' H',P.ct ρ'->Rep X.K ρ' σ' H'->Fr0 ρ ρ' H H'->E.ct σ' H'
 rt:∀r v H',P.rt r->Dh X.K ρ H H' v r->E.rt v H'
 ex:∀x ρ' σ' H',P.ex x ρ'->Rep X.K ρ' σ' H'->Fr0 ρ ρ' H H'->Od X σ' H' x
theorem Dh.step{K:k83}{ρ ρ1:Rho}{H H1 H':Hp}{v:V}{r:Rt}(f:Fr0 ρ ρ1 H H1)(h:Dh K ρ1 H1 H' v r):Dh K ρ H H' v r:=by
 cases r with
 |val d=>exact⟨f.trans h.1,h.2⟩
 |fresh ds=>obtain⟨a,xs,e,g,m,l⟩:=h;exact⟨a,xs,e,f.trans g,m,l⟩
theorem EndsOk.step{X:Cx}{ρ ρ1:Rho}{H H1:Hp}{P:Po}{E:Ends}(h:EndsOk X ρ H P E)(f:Fr0 ρ ρ1 H H1):EndsOk X ρ1 H1 P E :=
 ⟨λρ' σ' H' n R g=>h.nx ρ' σ' H' n R (f.trans g),λρ' σ' H' n R g=>h.bk ρ' σ' H' n R (f.trans g),λρ' σ' H' n R g=>h.ct ρ' σ' H' n R (f.trans g),λr v H' n g=>h.rt r v H' n (Dh.step f g),λx ρ' σ' H' n R g=>h.ex x ρ' σ' H' n R (f.trans g)⟩
theorem Fr0.grow{ρ:Rho}{H H':Hp}(g:j4 H H'):Fr0 ρ ρ H H':=jh g
theorem Fr0.refl(ρ:Rho)(H:Hp):Fr0 ρ ρ H H:=j4.refl _
theorem Fr0.drop{ρ ρ':Rho}{H:Hp}(h:∀b∈owns ρ',b∈owns ρ):Fr0 ρ ρ' H H:=vd h
theorem Fr0.new{ρ:Rho}{H H':Hp}{i:Nat}{a:ae}{ds:List D}{K:k83}{σ:St}(R:Rep K ρ σ H)(g:j4 H H')(n:H a=a8):Fr0 ρ (ρ.set i (.own a ds)) H H':=λb o q=>by
 obtain⟨nb,q⟩:=of_del q;rw[j6];exact g b o q;intro z;rcases(Jo (ds:=ds) (i:=i) R.nd (R.fresh n)).2 b z with e|z
 .subst e;rw[n]at q;cases q
 .exact nb z
def DS(X:Cx)(ρ:Rho)(st:aN)(P:Po):Prop:=∀σ H E,Rep X.K ρ σ H->EndsOk X ρ H P E->j74 X st E σ H
def DSs(X:Cx)(ρ:Rho)(sts:List aN)(P:Po):Prop:=∀σ H E,Rep X.K ρ σ H->EndsOk X ρ H P E->Zn X sts E σ H
section
variable{X:Cx}{ρ:Rho}{e a b c:aj}{es:List aj}{st:aN}{rest sa sb body:List aN}{P:Po}{d:D}{ds ds':List D}{pos p p1 p2 p3:aO}{x:ah}{i:Nat}
theorem DSs.nil(h:P.nx ρ):DSs X ρ [] P:=λσ H E R q=>j1h.to (q.nx ρ σ H h R (Fr0.refl ρ H))
theorem DSs.cons{N:Rho->Prop}(h1:DS X ρ st { P with nx:=N })(h2:∀ρ1,N ρ1->DSs X ρ1 rest P):DSs X ρ (st::rest) P:=λσ H E R q =>(Vj psS V1).to (h1 σ H { E with nx:=Zn X rest E } R ⟨λρ' σ' H' n R' f=>h2 ρ' n σ' H' E R' (q.step f),q.bk,q.ct,q.rt,q.ex⟩)
theorem DSs.freeze(i:Nat){l:ae}(h:ρ[i]?=a5 (.own l ds))(h2:DSs X (ρ.set i (.val (.lst ds))) body P):DSs X ρ body P:=λσ H E R q =>h2 σ H E (R.freeze h) (q.step (.drop λb hb=>(je rfl).subset hb))
theorem DS.set(i:Nat)(he:DE X ρ e d)(h:P.nx (ρ.set i (.val d)))(hN:X.N.Nodup)(hi:X.N[i]?=a5 x:=by rfl)(hx:Loc X.env.scope x:=by first|exact aU rfl|exact bR rfl)
  (hs:aP e (a5 (.Name x p)) pos.line X.env=pure a6:=by rfl) (hf:X.fn x=a7\/X.env.scope.names.lookup x=a5 .local:=by first|exact .inl rfl|exact .inr rfl):DS X ρ (.Assign [.Name x p] e pos) P:=λσ H E R q =>
 (W5 hN hi hx peS hs hf).to (he σ H _ R λv H1 g1 e1=>q.nx _ _ H1 h ((R.grow g1).set_val e1) (j4.trans (Fr0.grow g1) (Fr0.drop λb hb=>(je rfl).subset hb)))
theorem DS.setO(i:Nat)(he:DO X ρ e ds)(h:∀l,P.nx (ρ.set i (.own l ds)))(hN:X.N.Nodup)(hi:X.N[i]?=a5 x:=by rfl)(hx:Loc X.env.scope x:=by first|exact aU rfl|exact bR rfl)
  (hs:aP e (a5 (.Name x p)) pos.line X.env=pure a6:=by rfl) (hf:X.fn x=a7\/X.env.scope.names.lookup x=a5 .local:=by first|exact .inl rfl|exact .inr rfl):DS X ρ (.Assign [.Name x p] e pos) P:=λσ H E R q =>
 (W5 hN hi hx peS hs hf).to (he σ H _ R λl xs H1 g1 n m e1=>q.nx _ _ H1 (h l) (R.set_own g1 n m e1) (.new R g1 n))
theorem DS.if{k:Bool}(hc:DB X ρ c k)(ha:k=a7->DSs X ρ sa P)(hb:k=a6->DSs X ρ sb P):DS X ρ (.If c sa sb pos) P:=λσ H E R q =>
 (jim ptS V1 V1).to (hc σ H _ R λH1 g1=>by
  cases k with
  |true=>exact j7z (ha rfl σ H1 E (R.grow g1) (q.step (.grow g1)))
  |false=>exact j80 (hb rfl σ H1 E (R.grow g1) (q.step (.grow g1))))
theorem DS.ret(he:DT X ρ e d)(h:P.rt (.val d)):DS X ρ (.Return (a5 e) pos) P:=λσ H E R q =>(Ow peS).to (he σ H _ R λv H1 g1 e1=>q.rt _ v H1 h ⟨jo.trans g1,e1⟩)
theorem DS.retO(he:DO X ρ e ds)(h:P.rt (.fresh ds)):DS X ρ (.Return (a5 e) pos) P:=λσ H E R q =>
 (Ow peS).to (he σ H _ R λl xs H1 g1 n m e1=>q.rt _ _ H1 h ⟨l,xs,rfl,(λb o z=>by
  obtain⟨nb,z⟩:=of_del z
  rw[j6];exact g1 b o z
  intro y;rw[X6.mp y,n]at z;cases z),m,e1.mono (vd λb hb=>by rw[X6.mp hb];exact xm ..)⟩)
theorem DS.retV(k:Nat){l:ae}(hk:ρ[k]?=a5 (.own l ds))(h:P.rt (.fresh ds))(hN:X.N[k]?=a5 x:=by rfl)(hv:Vis X.env.scope x:=by first|exact aU rfl|exact bR (aU rfl)|exact bR (bR rfl))
  (hd:(x==k87)=a6:=by decide) (hcd:(x==k88)=a6:=by decide):DS X ρ (.Return (a5 (.Name x p)) pos) P:=λσ H E R q=>by
 obtain⟨hs,xs,m,en⟩:=R.own k l ds hk;have g:j4 (del H (owns ρ)) (del H [l]):=vd λb hb=>by rw[X6.mp hb];exact Ji hk
 exact(Ow (J7 hN hv hd hcd)).to ⟨_,hs,q.rt _ _ H h ⟨l,xs,rfl,g,m,en.mono g⟩⟩
theorem DS.expr(he:DT X ρ e d)(h:P.nx ρ)(hs:aP e a8 pos.line X.env=pure a6:=by rfl):DS X ρ (.Expr e pos) P:=λσ H E R q =>(Yv peS hs).to (he σ H _ R λv H1 g1 e1=>q.nx ρ σ H1 h (R.grow g1) (.grow g1))
theorem Br{σ:St}{H H':Hp}{l:ae}{o:HO}(hk:ρ[i]?=a5 (.own l ds))(g:j4 H H'):Fr0 ρ (ρ.set i (.own l ds')) H (upd H' l o):=by unfold Fr0;rw[Ql hk,Vb (Ji hk)];exact jh g
theorem DS.append(i:Nat){l:ae}(hk:ρ[i]?=a5 (.own l ds))(he:DE X ρ e d)(hl:ds.length<ak)(h:P.nx (ρ.set i (.own l (ds++[d]))))
  (hN:X.N[i]?=a5 x:=by rfl) (hv:Vis X.env.scope x:=by first|exact aU rfl|exact bR (aU rfl)|exact bR (bR rfl)) (hd:(x==k87)=a6:=by decide) (hcd:(x==k88)=a6:=by decide)
  (hst:a9 [e] X.env=[(a6,aE e X.env)]:=by rfl) (hline:(p1.endLine==p2.line)=a7:=by rfl)
  (hbase:aV (.Name x p) "append" X.env (aE (.Name x p) X.env)=aE (.Name x p) X.env:=by rfl) (hfew:((aR p2 (a9 [e] X.env)).all (λx=>!x.1)&&(bH p2 (bf [] X.env)).all (λx=>x.1.isSome)
   && decide (([e]:List aj).length+([]:List aX).length+(if ([]:List aX).isEmpty then 0 else 1)<30))=a7:=by rfl)
  (hs:aP (.Call (.Attribute (.Name x p) "append" p1) [e] [] p2) a8 pos.line X.env=pure a6:=by rfl) :
  DS X ρ (.Expr (.Call (.Attribute (.Name x p) "append" p1) [e] [] p2) pos) P:=λσ H E R q=>by
 obtain⟨hσ,xs,m,en⟩:=R.own i l ds hk;refine(Yv (U9 Tt dF fS W7 (J7 hN hv hd hcd) (j9 peS jm hst) hbase hfew hline hst rfl) hs).to ?_;refine⟨_,hσ,.inl ⟨rfl,xs,.inl (.inl m)⟩,he σ H _ R λv H1 g1 e1=>⟨l,xs,v,rfl,rfl,g1 _ _ m,by rw[en.length];exact hl,?_⟩⟩;exact q.nx _ σ _ h ((R.grow g1).upd_own hk ((en.mono (jh g1)).append (.one e1))) (Br (σ:=σ) hk g1)
theorem DS.extend(i:Nat){l:ae}(hk:ρ[i]?=a5 (.own l ds))(he:DO X ρ e ds')(hl:ds.length+ds'.length<=ak)(h:P.nx (ρ.set i (.own l (ds++ds'))))
  (hN:X.N[i]?=a5 x:=by rfl) (hv:Vis X.env.scope x:=by first|exact aU rfl|exact bR (aU rfl)|exact bR (bR rfl)) (hd:(x==k87)=a6:=by decide) (hcd:(x==k88)=a6:=by decide)
  (hst:a9 [e] X.env=[(a6,aE e X.env)]:=by rfl) (hline:(p1.endLine==p2.line)=a7:=by rfl)
  (hbase:aV (.Name x p) "extend" X.env (aE (.Name x p) X.env)=aE (.Name x p) X.env:=by rfl) (hfew:((aR p2 (a9 [e] X.env)).all (λx=>!x.1)&&(bH p2 (bf [] X.env)).all (λx=>x.1.isSome)
   && decide (([e]:List aj).length+([]:List aX).length+(if ([]:List aX).isEmpty then 0 else 1)<30))=a7:=by rfl)
  (hs:aP (.Call (.Attribute (.Name x p) "extend" p1) [e] [] p2) a8 pos.line X.env=pure a6:=by rfl) :
  DS X ρ (.Expr (.Call (.Attribute (.Name x p) "extend" p1) [e] [] p2) pos) P:=λσ H E R q=>by
 obtain⟨hσ,xs,m,en⟩:=R.own i l ds hk;refine(Yv (U9 Tt gX PySem.F.type_list_extend j53 (J7 hN hv hd hcd) (j9 peS jm hst) hbase hfew hline hst rfl) hs).to ?_;refine⟨_,hσ,.inl ⟨rfl,xs,.inl (.inl m)⟩,he σ H _ R λb ys H1 g1 n1 m1 e1=>⟨l,b,xs,ys,rfl,rfl,g1 _ _ m,m1,by rw[en.length,e1.length];exact hl,?_⟩⟩;exact q.nx _ σ _ h ((R.grow g1).upd_own hk ((en.mono (jh g1)).append (e1.mono (vd λc hc=>km _ hc)))) (Br (σ:=σ) hk g1)
def Ys(K:k83)(F:Hp)(J:It)(ds:List D):Prop:=∀(i:Nat)(H:Hp)(A:List ae),j4 F (del H A)->(∀a∈A,H a≠a8) ->
 (i<ds.length->J.go i H)/\(ds.length<=i->J.stop i H)/\∀x H',J.yld i H x H'->j4 H H'/\∀d,ds[i]?=a5 d->Enc K (del H' A) d x
def DI(X:Cx)(ρ:Rho)(tg it:aj)(ds:List D):Prop:=∀σ H R,Rep X.K ρ σ H->(∀J H',j4 H H'->Ys X.K (del H' (owns ρ)) J ds->R J H')->Ib X tg it σ H R
variable{tg it:aj}
theorem j5g{K:k83}{F:Hp}{l:ae}{xs:List V}(sq:SqL K F l xs)(en:j5 K F ds xs):Ys K F (Itl K l) ds:=λi H A g hA=>by
 have sq':SqL K H l xs:=jo.seq (g.seq sq);refine⟨λh=>?_,λh=>⟨xs,sq',by rw[en.length];exact h⟩,λx H' ⟨e,y⟩=>?_⟩
 .obtain⟨v,hv,_⟩:=en.get (kh h);exact⟨xs,v,sq',hv⟩
 .subst e;refine⟨j4.refl _,λd hd=>?_⟩;obtain⟨v,hv,ev⟩:=en.get hd;have e:=y xs sq';rw[hv]at e;cases e;exact ev.mono g
theorem j7v{K:k83}{F:Hp}{l:ae}{xs:List V}(sq:SqT K F l xs)(en:j5 K F ds xs):Ys K F (Itt K l) ds:=λi H A g hA=>by
 have sq':SqT K H l xs:=jo.seqT (g.seqT sq);refine⟨λh=>?_,λh=>⟨xs,sq',by rw[en.length];exact h⟩,λx H' ⟨e,y⟩=>?_⟩
 .obtain⟨v,hv,_⟩:=en.get (kh h);exact⟨xs,v,sq',hv⟩
 .subst e;refine⟨j4.refl _,λd hd=>?_⟩;obtain⟨v,hv,ev⟩:=en.get hd;have e:=y xs sq';rw[hv]at e;cases e;exact ev.mono g
theorem DI.lst(h:DE X ρ it (.lst ds)):DI X ρ tg it ds:=λσ H R r q=>(j1i peS).to (h σ H _ r λv H1 g1 ⟨l,xs,e,sq,en⟩=>⟨l,e,⟨xs,jo.seq sq⟩,q _ H1 g1 (j5g sq en)⟩)
theorem DI.tup(h:DE X ρ it (.tup ds)):DI X ρ tg it ds:=λσ H R r q=>(jeu peS).to (h σ H _ r λv H1 g1 ⟨l,xs,e,sq,en⟩=>⟨l,e,⟨xs,jo.seqT sq⟩,q _ H1 g1 (j7v sq en)⟩)
noncomputable def upto(lo:Int)(n:Nat):List D:=(aB n).map λk=>D.int (lo+(k:Nat))
theorem Bk{K:k83}{F:Hp}(lo:Int)(n:Nat):Ys K F (Itr lo n) (upto lo n):=λi H A g hA=>by
 have hl:(upto lo n).length=n:=by unfold upto;rw[xf,Xw]
 rw[hl];refine⟨λh=>h,λh=>h,λx H' ⟨e,y⟩=>?_⟩;subst e;refine⟨j4.refl _,λd hd=>?_⟩;unfold upto at hd;rw[xq]at hd;cases z:(aB n)[i]? with
 |none=>rw[z]at hd;cases hd
 |some k =>
  rw[z]at hd;have ek:k=i:=by have:=Xu (n:=n) (i:=i) (by have:=(X3.mp z).1;rwa [Xw]at this);rw[this]at z;exact(aw z).symm
  subst ek;cases hd;exact y
theorem DI.range1 {n:Int} (h:DT X ρ a (.int n)) (hm:X.mg "range" = a8) (h1:-(2^62)<=n) (h2:n<2^62) (hg:Gl X "range":=by rfl) (hs:a9 [a] X.env=[(a6,aE a X.env)]:=by rfl):DI X ρ tg (.Call (.Name "range" p) [a] [] pos) (upto 0 n.toNat):=λσ H R r q =>(j4p hg hm (j9 peS jm hs) hs).to (h σ H _ r λv H1 g1 e=>⟨n,by rw[show v=.int n from e],h1,h2,q _ H1 g1 (Bk 0 _)⟩)
theorem DI.range2 {m n:Int} (h:DT X ρ a (.int m)) (h':DT X ρ b (.int n)) (hm:X.mg "range" = a8) (h1:-(2^62)<=m) (h2:m<2^62) (h3:-(2^62)<=n) (h4:n<2^62) (hg:Gl X "range":=by rfl) (hs:a9 [a,b] X.env=[(a6,aE a X.env),(a6,aE b X.env)]:=by rfl)
  (hs2:a9 [b] X.env=[(a6,aE b X.env)]:=by rfl) (hs3:a9 [a,b] X.env=(a6,aE a X.env)::a9 [b] X.env:=by rfl):DI X ρ tg (.Call (.Name "range" p) [a,b] [] pos) (upto m (n-m).toNat):=λσ H R r q =>
 (j4o hg hm (j9 peS (j9 peS jm hs2) hs3) hs hs2).to (h σ H _ r λv H1 g1 e=>h' σ H1 _ (r.grow g1) λu H2 g2 e2=>⟨m,n,by rw[show v=.int m from e,show u=.int n from e2],⟨h1,h2,h3,h4⟩,q _ H2 (g1.trans g2) (Bk m _)⟩)
def Ie(X:Cx)(tg:aj):TG:=λv σ H Q=>∀pins s u,Inv X pins σ H s->RelV v u->ax (au X.prog X.w) X.A (eU tg X.env u) (λ_ s'=>∃σ' H',Inv X pins σ' H' s'/\Q σ' H') X.xe s
theorem pgS:PG X tg (Ie X tg):=λpins s σ H v u Q I r h=>h pins s u I r
theorem PG.to{t:TG}{σ:St}{H:Hp}{v:V}{Q:St->Hp->Prop}(h:PG X tg t)(q:t v σ H Q):Ie X tg v σ H Q:=λpins s u I r=>h pins s σ H v u Q I r q
def DG(X:Cx)(ρ:Rho)(tg:aj)(d:D)(ρ':Rho):Prop:=(∀b∈owns ρ',b∈owns ρ)/\∀σ H v Q,Rep X.K ρ σ H->Enc X.K (del H (owns ρ)) d v->(∀σ',Rep X.K ρ' σ' H->Q σ' H)->Ie X tg v σ H Q
theorem DG.name(i:Nat)(hN:X.N.Nodup)(hi:X.N[i]?=a5 x:=by rfl)(hx:Loc X.env.scope x:=by first|exact aU rfl|exact bR rfl)(hf:X.fn x=a7\/X.env.scope.names.lookup x=a5 .local:=by first|exact .inl rfl|exact .inr rfl):DG X ρ (.Name x p) d (ρ.set i (.val d)) :=
 ⟨λb hb=>(je rfl).subset hb,λσ H v Q R en q=>(Rh hN hi hx hf).to (q _ (R.set_val en))⟩
theorem DS.for(W:Nat->Rho->Prop)(hi:DI X ρ tg it ds)(h0:W 0 ρ)(hs:∀i d ρ',ds[i]?=a5 d->W i ρ'->∃ρ2,DG X ρ' tg d ρ2/\DSs X ρ2 body { nx:=W (i+1),rt:=P.rt,bk:=P.nx,ct:=W (i+1),ex:=P.ex })
  (hd:∀ρ',W ds.length ρ'->P.nx ρ') (hc:X.calm=a7) (hp:dY (au X.prog X.w) X.A X.env X.xe) (hf:∀x,aK it X.env x=pure x:=by intro _;rfl):DS X ρ (.For tg it body [] pos) P:=λσ H E R q=>by
 refine(Ip hp hc piS pgS V1 hf).to (hi σ H _ R λJ H1 g1 ok=>?_);refine⟨λi m σ' H'=>∃ρ',W i ρ'/\Rep X.K ρ' σ' H'/\Fr0 ρ ρ' H1 H'/\m=ds.length-i/\i<=ds.length,⟨ds.length,ρ,h0,R.grow g1,Fr0.refl _ _,rfl,Tc _⟩,?_⟩;rintro i m σ' H' ⟨ρ',w,R',f,rfl,hle⟩;obtain⟨go,stop,yld⟩:=ok i H' (owns ρ') f λa ha=>by obtain⟨xs,e⟩:=R'.owned a ha;rw[e];simp
 by_cases hlt:i<ds.length
 .refine .inr ⟨go hlt,λσ2 H2=>∃ρ2,W (i+1) ρ2/\Rep X.K ρ2 σ2 H2/\Fr0 ρ ρ2 H1 H2,λσ2 H2 ⟨ρ2,w2,R2,f2⟩=>⟨ds.length-(i+1),by omega,ρ2,w2,R2,f2,rfl,hlt⟩,λx H2 y=>?_⟩;obtain⟨g2,en⟩:=yld x H2 y;obtain⟨ρ2,⟨sub,hG⟩,hB⟩:=hs i ds[i] ρ' (kh hlt) w;refine hG σ' H2 x _ (R'.grow g2) (en _ (kh hlt)) λσ3 R3=>?_;have f2:Fr0 ρ ρ2 H1 H2:=j4.trans f (j4.trans (Fr0.grow g2) (Fr0.drop sub));refine hB σ3 H2 _ R3 ⟨λρ3 σ4 H4 n R4 f4=>⟨ρ3,n,R4,f2.trans f4⟩,λρ3 σ4 H4 n R4 f4=>q.nx ρ3 σ4 H4 n R4 ((Fr0.grow g1).trans (f2.trans f4)),λρ3 σ4 H4 n R4 f4=>⟨ρ3,n,R4,f2.trans f4⟩,λr v H4 n z=>q.rt r v H4 n (Dh.step ((Fr0.grow g1).trans f2) z),λx ρ3 σ4 H4 n R4 f4=>q.ex x ρ3 σ4 H4 n R4 ((Fr0.grow g1).trans (f2.trans f4))⟩
 .have e:i=ds.length:=by omega
  subst e;exact .inl ⟨stop (X5 _),q.nx ρ' σ' H' (hd ρ' w) R' ((Fr0.grow g1).trans f)⟩
end
noncomputable def jx(N:List ah)(ds:List D):Rho:=ds.map Sl.val++ao (N.length-ds.length) Sl.un
theorem Qi(N:List ah)(ds:List D):owns (jx N ds)=[]:=by
 unfold owns jx;rw[List.filterMap_append];have h1:(ds.map Sl.val).filterMap Sl.addr=[]:=T8.mpr λs hs=>by obtain⟨d,_,rfl⟩:=Xn.mp hs;rfl
 have h2:(ao (N.length-ds.length) Sl.un).filterMap Sl.addr=[]:=T8.mpr λs hs=>by rw[(T6.mp hs).2];rfl
 rw[h1,h2];rfl
theorem Zv{K:k83}{H:Hp}{N:List ah}{ds:List D}{vs:List V}(tb:TabOk K H)(h:j5 K H ds vs):Rep K (jx N ds) (start N vs) H:=by
 have ho:=Qi N ds;have hl:=h.length;refine⟨by unfold jx start;simp[hl],λi d e=>?_,λi a l e=>?_,by rw[ho];exact gc,λi a o y e=>?_,tb⟩
 .rw[ho,vf];unfold jx at e;by_cases z:i<ds.length
  .rw[Pk (by simpa using z),xq]at e;rw[kh z]at e;cases e;obtain⟨v,hv,en⟩:=h.get (kh z);refine⟨v,?_,en⟩;unfold start;rw[Pk (by rw[xf,hl];exact z),xq,hv];rfl
  .rw[d4 (by simpa using z)]at e;have:=Xg e;cases(T6.mp this).2
 .have:=Ji e;rw[ho]at this;cases this
 .unfold jx at e;rcases Te.mp (Xg e)with z|z
  .obtain⟨d,_,q⟩:=Xn.mp z;cases q
  .cases(T6.mp z).2
section
variable{P:ar}{w:aA}{K:k83}{mg:k86}{base:aG}{x qual:ah}{st:aN}{f:ae}{fd:aJ}{N ps:List ah}{k:Nat}
def Vu(K:k83)(f:ae)(cdv:aa):Prop:=∃(oc:aa)(od:Option ae)(fd:aJ)(sl:Array (Option aa)),K.lookup f=a5 ⟨oc,od,.func fd,sl⟩/\fd.code=cdv
theorem Fun.okC{sp:Sp}(F:Fun K x qual st f fd)(S:FnScope N ps (j0 st))(len:∀vs H Q E,sp vs H Q E->vs.length=ps.length)
  (hbody:∀(cdv:aa)(A:aC)(outer:List cI)(s:af)(H:Hp)(vs:List V)(Q:VK) (E:XK),Vu K f cdv->Room k (A.deeper (bB qual (j0 st) s.heap.objs.size f cdv))->sp vs H Q E ->
   ∃t,PSs (q8 CX0 P w K mg base N qual (j0 st) f cdv A outer s H E).nox (jc st) t/\t { nx:=λ_ H'=>Q .non H',rt:=Q } (start N vs) H):FnOk P w K mg base CX0 (k+1) f fd ps sp:=by
 obtain⟨oc,od,dV,kV,doc,pm,an,cdv,ct,osl,rfl,lk,hcd⟩:=F.ex;refine j37 lk hcd S len λA outer s H vs Q E hr hsp=>?_;obtain⟨t,h,q⟩:=hbody cdv A outer s H vs Q E ⟨oc,od,_,osl,lk,rfl⟩ hr hsp;exact⟨t,h.nox,q⟩
theorem Fj{S:List D->D->Prop}(F:Fun K x qual st f fd)(Sc:FnScope N ps (j0 st))(hl:∀ds d,S ds d->ds.length=ps.length)
  (hbody:∀(cdv:aa)(A:aC)(outer:List cI)(s:af)(H:Hp)(E:XK),Vu K f cdv->Room k (A.deeper (bB qual (j0 st) s.heap.objs.size f cdv))->∀ds d,S ds d ->
   DSs (q8 CX0 P w K mg base N qual (j0 st) f cdv A outer s H E).nox (jx N ds) (jc st) { nx:=λ_=>d=.non,rt:=λr=>r.d=d }):FnOk P w K mg base CX0 (k+1) f fd ps (spP K S):=by
 refine FnOk.toP (F.okC Sc (λvs H Q E ⟨ds,d,tb,en,hS,_⟩=>by rw[en.length];exact hl ds d hS) λcdv A outer s H vs Q E hcv hr ⟨ds,d,tb,en,hS,q⟩=>⟨_,V1,?_⟩);have ho:=Qi N ds;refine hbody cdv A outer s H E hcv hr ds d hS (start N vs) H _ (Zv tb en) ⟨λρ' σ' H' n R f=>?_,λ_ _ _ z=>z.elim,λ_ _ _ z=>z.elim,λr v H' n z=>?_,λ_ _ _ _ z=>z.elim⟩
 .subst n;unfold Fr0 at f;rw[ho,vf]at f;exact q _ H' (f.trans jo) rfl
 .cases r with
  |val d' =>cases(show d'=d from n);obtain⟨g,en'⟩:=z;rw[ho,vf]at g;exact q v H' g en'
  |fresh l =>cases(show D.lst l=d from n);obtain⟨a,xs,e,g,m,en'⟩:=z;rw[ho,vf]at g;exact q v H' (g.trans jo) ⟨a,xs,e,.inl (.inl m),en'.mono jo⟩
theorem j8j{S:List D->List D->Prop}(F:Fun K x qual st f fd)(Sc:FnScope N ps (j0 st))(hl:∀ds d,S ds d->ds.length=ps.length)
  (hbody:∀(cdv:aa)(A:aC)(outer:List cI)(s:af)(H:Hp)(E:XK),Vu K f cdv->Room k (A.deeper (bB qual (j0 st) s.heap.objs.size f cdv))->∀ds l,S ds l ->
   DSs (q8 CX0 P w K mg base N qual (j0 st) f cdv A outer s H E).nox (jx N ds) (jc st) { nx:=λ_=>False,rt:=λr=>r=.fresh l }):FnOk P w K mg base CX0 (k+1) f fd ps (spF K S):=by
 refine FnOk.toF (F.okC Sc (λvs H Q E ⟨ds,d,tb,en,hS,_⟩=>by rw[en.length];exact hl ds d hS) λcdv A outer s H vs Q E hcv hr ⟨ds,l,tb,en,hS,q⟩=>⟨_,V1,?_⟩);have ho:=Qi N ds;refine hbody cdv A outer s H E hcv hr ds l hS (start N vs) H _ (Zv tb en) ⟨λρ' σ' H' n R f=>n.elim,λ_ _ _ z=>z.elim,λ_ _ _ z=>z.elim,λr v H' n z=>?_,λ_ _ _ _ z=>z.elim⟩;cases(show r=.fresh l from n);obtain⟨a,xs,e,g,m,en'⟩:=z;rw[ho,vf]at g;subst e;refine q a xs H' (g.trans jo) ?_ m en';cases y:H a with
 |none=>rfl
 |some o=>have:=g a o y;rw[qw (X6.mpr rfl)]at this;cases this
end
section
variable{prog:ar}{w:aA}{A:aC}{R:eV->af->Prop}{s:af}
theorem j07{elt target iter:aj}{ifs:List aj}{scope:bq}{pos:aO}{it acc:aa}{env:cI}(I:Nat->af->Prop)
  (turn:∀n s,I n s->ax (au prog w) A (pyNext it) (λr s₁=>match r with
   |none=>R (.ok .next) s₁
   |some v=>ax (au prog w) A (eI target it v) (λ_ s₁'=>ax (au prog w) A (eU target env v) (λ_ s₂ =>
     ax (au prog w) A (forIn ifs a7 λc r=>if r=a7 then do let ok <-fG c env (aE c env);pure (bZ ok)else pure (bZ r)) (λok s₃ =>
      if ok=a7 then ax (au prog w) A (aE elt env) (λx s₄ =>
       ax (au prog w) A (call (.builtin "list.append") [acc,x]) (λ_ s₅=>∃m,m<n/\I m s₅) (λ_ _=>False) s₄) (λ_ _=>False) s₃
      else ∃m,m<n/\I m s₃) (λ_ _=>False) s₂) (λ_ _=>False) s₁') (λ_ _=>False) s₁) (λ_ _=>False) s)
  (n:Nat) (h:I n s) :
  cu (au prog w) A (.compLoop (.ListComp elt [⟨target,iter,ifs,0⟩] scope pos) 0 it acc env) R s:=by
 refine codeAny_loop rfl I (λn s hI=>?_) n h;show ax _ A ((compTurn (.ListComp elt [⟨target,iter,ifs,0⟩] scope pos) 0 it acc env).onRaise (λx=>do dk x env;theTreesLotGoes x)) _ _ s;refine wpAny_noted ?_;rw[compTurn_list];refine ai (ic (ai (aW (turn n s hI) (λr s₁ h₁=>?_) λ_ _ h'=>h'.elim)));cases r with
 |none=>exact az h₁
 |some v =>
  refine ai (aW h₁ (λ_ s₁' h₁'=>?_) λ_ _ h'=>h'.elim);refine ai (aW h₁' (λ_ s₂ h₂=>ai (aW h₂ (λok s₃ h₃=>?_) λ_ _ h'=>h'.elim)) λ_ _ h'=>h'.elim);cases ok with
  |false=>exact az ⟨rfl,h₃⟩
  |true =>exact ai (ai (aW h₃ (λx s₄ h₄=>ai (aW h₄ (λ_ s₅ h₅=>az (az ⟨rfl,h₅⟩)) λ_ _ h'=>h'.elim)) λ_ _ h'=>h'.elim))
end
noncomputable def zr(env:cI):List (ah×bE)->List (ah×ae)->List (ah×ae)
 |[],acc=>acc
 |(n,k)::r,acc=>zr env r (if k==.free then(match env.cells.lookup n with|some a=>(n,a)::acc|none=>acc)else acc)
theorem N8{scope:bq}{env:cI}(h:∀y∈scope.names,y.2=.free->(env.cells.lookup y.1).isSome=a7):closureFor scope env=pure (zr env scope.names []):=by
 simp only[closureFor];have step:∀(names:List (ah×bE)) (acc:List (ah×ae)),(∀y∈names,y.2=.free->(env.cells.lookup y.1).isSome=a7) ->
   (forIn names acc (λx r=>(do if (x.2==bx)=a7 then(do let a <-cellOf env x.1;pure (bZ ((x.1,a)::r)))else pure (bZ r):jH _)):jH _)=pure (zr env names acc):=by
  intro names;induction names with
  |nil=>intro acc _;rfl
  |cons y r ih =>
   intro acc hy;obtain⟨n,k⟩:=y;rw[List.forIn_cons];by_cases e:(k==bx)=a7
   .have hk:k=.free:=by simpa using e
    have hs:=hy (n,k) (xm ..) hk;obtain⟨a,ha⟩:=Xo.mp hs;have hc:cellOf env n=pure a:=by unfold cellOf;rw[ha]
    simp only[e,if_true,hc,pure_bind];rw[ih _ λz hz=>hy z (km _ hz)];simp only[zr,e,if_true,ha]
   .have e':(k==bx)=a6:=by simpa using e
    simp only[e',Pg,if_false,pure_bind];rw[ih _ λz hz=>hy z (km _ hz)];simp only[zr,e',Pg,if_false]
 have:=step scope.names [] h;rw[show(forIn scope.names ([]:List (ah×ae)) λx r=>_)=_ from this];rfl
theorem Cp{env:cI}{y:ah}{c:ae}:∀{names:List (ah×bE)} {acc:List (ah×ae)},(∀y c,acc.lookup y=a5 c->env.cells.lookup y=a5 c)->(zr env names acc).lookup y=a5 c->env.cells.lookup y=a5 c
 |[],acc,h,q=>h y c q
 |(n,k)::r,acc,h,q=>by
  unfold zr at q;refine Cp (acc:=_) ?_ q;intro z d hz;split at hz
  .split at hz
   .rename_i a ha;rw[Xk]at hz;split at hz
    .rename_i e;have e':z=n:=by simpa using e
     subst e';cases hz;exact ha
    .exact h z d hz
   .exact h z d hz
  .exact h z d hz
theorem Nb{env:cI}{y:ah}:∀{names:List (ah×bE)} {acc:List (ah×ae)},(acc.lookup y).isSome=a7->((zr env names acc).lookup y).isSome=a7
 |[],acc,h=>h
 |(n,k)::r,acc,h=>by
  unfold zr;refine Nb ?_;split
  .split
   .rw[Xk];split
    .rfl
    .exact h
   .exact h
  .exact h
theorem Ul{env:cI}{y:ah}(hs:(env.cells.lookup y).isSome=a7):∀{names:List (ah×bE)} {acc:List (ah×ae)},(y,bx)∈names->((zr env names acc).lookup y).isSome=a7
 |[],acc,h=>nomatch h
 |(n,k)::r,acc,h=>by
  unfold zr;rcases xj.mp h with e|h
  .cases e;refine Nb ?_;obtain⟨a,ha⟩:=Xo.mp hs;rw[if_pos (by rfl),ha];rw[Xk];simp
  .exact Ul hs h
noncomputable def J3(scope:bq)(env:cI)(N:List ah)(cs:List Nat):Bool :=
 scope.names.all (λy=>(y.2 != .cell || scope.names.lookup y.1==a5 .cell)&&(y.2 != .local || scope.names.lookup y.1==a5 .local)&&(y.2 != .free || ((env.cells.lookup y.1).isSome&&(env.kindOf y.1==a5 .cell || env.kindOf y.1==a5 .free)))) &&
 (aB N.length).all (λj=>cs.contains j || (match N[j]? with|some y=>scope.names.lookup y != a5 .local&&scope.names.lookup y != a5 .cell|none=>a7))
theorem lookup_mem{α β:Type}[BEq α][LawfulBEq α]{l:List (α×β)}{a:α}{b:β}(h:l.lookup a=a5 b):(a,b)∈l:=by
 induction l with
 |nil=>cases h
 |cons x r ih =>
  obtain⟨c,d⟩:=x;rw[Xk]at h;split at h
  .rename_i e;cases h;have e':a=c:=by simpa using e
   subst e';exact xm ..
  .exact km _ (ih h)
theorem J9{env:cI}{x:ah}{k':bE}:∀{names:List (ah×bE)},
  (names.map λ(n,k)=>if (k==bx&&env.scope.kind==.function&&env.kindOf n==a5 .cell) then(n,bI) else(n,k)).lookup x=a5 k' ->
  ∃k,names.lookup x=a5 k/\(k'=k\/(k=.free/\k'=.cell))
 |[],h=>by cases h
 |(n,k)::r,h=>by
  rw[xx]at h;rw[Xk];by_cases hc:(k==bx&&env.scope.kind==.function&&env.kindOf n==a5 .cell)=a7
  .dsimp only at h;rw[if_pos hc,Xk]at h;cases e:x==n with
   |true =>
    rw[e]at h;cases h;have:(k==bx)=a7:=by
     cases z:k==bx with
     |true=>rfl
     |false=>rw[z]at hc;simp at hc
    exact⟨k,rfl,.inr ⟨by simpa using this,rfl⟩⟩
   |false=>rw[e]at h;exact J9 h
  .dsimp only at h;rw[if_neg hc,Xk]at h;cases e:x==n with
   |true=>rw[e]at h;cases h;exact⟨_,rfl,.inl rfl⟩
   |false=>rw[e]at h;exact J9 h
theorem Vp:∀(names:List (ah×bE)) (n:Nat) (acc:List (ah×ae)),aS n names acc=aS n names []++acc
 |[],_,_=>rfl
 |(x,k)::r,n,acc=>by
  unfold aS;split
  .rw[Vp r (n+1) ((x,n)::acc),Vp r (n+1) [(x,n)],Tp];rfl
  .exact Vp r n acc
theorem Nf:∀{names:List (ah×bE)} {n:Nat} {x:ah} {c:ae},(x,c)∈aS n names []->(x,bI)∈names/\n<=c
 |[],_,_,_,h=>nomatch h
 |(y,k)::r,n,x,c,h=>by
  unfold aS at h;split at h
  .rename_i hk;rw[Vp]at h;rcases Te.mp h with h|h
   .have q:=Nf h;exact⟨km _ q.1,Nat.le_of_succ_le q.2⟩
   .cases X6.mp h;have hk:k=bI:=by simpa using hk
    subst hk;exact⟨xm ..,X5 _⟩
  .have q:=Nf h;exact⟨km _ q.1,q.2⟩
theorem V7{β:Type}:∀{l m:List (ah×β)} {y:ah},(l++m).lookup y=(l.lookup y).or (m.lookup y)
 |[],m,y=>rfl
 |(x,b)::r,m,y=>by
  rw[cL,Xk,Xk];split
  .rfl
  .exact V7
theorem Cq{names:List (ah×bE)}{n:Nat}{acc:List (ah×ae)}{y:ah}{c:ae}(h:(aS n names acc).lookup y=a5 c) :
  ((y,c)∈aS n names []/\(y,bI)∈names/\n<=c)\/((aS n names []).lookup y=a8/\acc.lookup y=a5 c):=by
 rw[Vp,V7]at h;cases e:(aS n names []).lookup y with
 |some c'=>rw[e]at h;cases h;have q:=lookup_mem e;exact .inl ⟨q,Nf q⟩
 |none=>rw[e]at h;exact .inr ⟨rfl,h⟩
theorem jh9{names:List (ah×bE)}{n:Nat}{acc:List (ah×ae)}{y:ah}(h:(y,bI)∉names):(aS n names acc).lookup y=acc.lookup y:=by
 rw[Vp,V7];cases e:(aS n names []).lookup y with
 |some c'=>exact absurd (Nf (lookup_mem e)).1 h
 |none=>rfl
theorem jd4{names:List (ah×bE)}{n:Nat}{acc:List (ah×ae)}{y:ah}(h:(acc.lookup y).isSome=a7):∃c,(aS n names acc).lookup y=a5 c:=by
 rw[Vp,V7];cases e:(aS n names []).lookup y with
 |some c'=>exact⟨c',rfl⟩
 |none=>obtain⟨c,hc⟩:=Xo.mp h;exact⟨c,hc⟩
theorem Ec{M:gv}{A:aC}{E:k84}{s:af}{scope:bq}{globals:ae}{closure:List (ah×ae)}{qual:ah}{env:cI}{Q:cI->af->Prop}
  (hQ:Q { scope:=scope,locals:=s.heap.objs.size,globals:=globals,cells:=aS (s.heap.objs.size+1) scope.names closure,qual:=qual,func:=a8,code:=env.code,frame:=env.frame,builtins:=env.builtins }
   { s with heap:=iv (s.heap.push { cls:=.type "dict",data:=.dict #[] }) scope.names }) :
  ax M A (eS scope globals closure [] qual a8 .none (a5 env)) Q E s:=by
 simp only[eS,eJ,if_true];refine ai (wpAny_alloc ?_);refine ai (wpAny_layCells _ (λname kind cells=>by cases hkc:kind==bI<;>simp[hkc]) _ _ _ _ ?_);rw[show({ s with heap:=s.heap.push { cls:=.type "dict",data:=.dict #[] } }:af).heap.objs.size=s.heap.objs.size+1 from bU ..];exact ai (az (az hQ))
noncomputable abbrev cCx(X:Cx)(scope:bq)(C:ae)(s:af)(H:Hp)(fp:List ae)(pn:k85):Cx :=
 { X with env:=lX scope (aS (C+1) scope.names (zr X.env scope.names [])) C X.env,s₀:=s,H₀:=H,outer:=X.stack,stack:=X.stack,ex:=fp,fn:=λx=>scope.names.lookup x==a5 .cell,pn:=pn,xe:=λ_ _=>False }
noncomputable def V4(scope:bq)(y:ah):Bool:=scope.names.lookup y==a5 .local || scope.names.lookup y==a5 .cell
theorem Ze{env:cI}:∀{names:List (ah×bE)} {x:ah},names.lookup x=a5 .cell ->
  (names.map λ(n,k)=>if (k==bx&&env.scope.kind==.function&&env.kindOf n==a5 .cell) then(n,bI) else(n,k)).lookup x=a5 .cell
 |[],_,h=>by simp at h
 |(n,k)::r,x,h=>by
  have ih:=@Ze env r x;rw[xx];cases hx:x==n with
  |true =>simp only[Xk,hx]at h;cases h;simp[Xk,hx]
  |false =>
   simp only[Xk,hx]at h;dsimp only;by_cases hc:(k==bx&&env.scope.kind==.function&&env.kindOf n==a5 .cell)=a7
   .rw[if_pos hc];simp only[Xk,hx];exact ih h
   .rw[if_neg hc];simp only[Xk,hx];exact ih h
theorem Wy{X:Cx}{scope:bq}{C:ae}{s:af}{H:Hp}{fp:List ae}{pn:k85}{y:ah}(h:V4 scope y=a7):Loc (cCx X scope C s H fp pn).env.scope y:=by
 unfold V4 at h;rw[cj]at h;rcases h with h|h
 .exact .inl (jD (by simpa using h))
 .exact .inr (Ze (by simpa using h))
theorem Oi{X:Cx}{scope:bq}{C:ae}{s:af}{H:Hp}{fp:List ae}{pn:k85}{y:ah}(h:V4 scope y=a7):(cCx X scope C s H fp pn).fn y=a7\/(cCx X scope C s H fp pn).env.scope.names.lookup y=a5 .local:=by
 unfold V4 at h;rw[cj]at h;rcases h with h|h
 .exact .inr (jD (by simpa using h))
 .exact .inl h
def DTs(X:Cx)(ρ:Rho)(ifs:List aj)(b:Bool):Prop:=match ifs with
 |[]=>b=a7
 |[c]=>DB X ρ c b
 |_=>False
theorem DTs.nil{X:Cx}{ρ:Rho}:DTs X ρ [] a7:=rfl
theorem DTs.one{X:Cx}{ρ:Rho}{c:aj}{b:Bool}(h:DB X ρ c b):DTs X ρ [c] b:=h
theorem DTs.run{X:Cx}{ρ:Rho}{ifs:List aj}{b:Bool}(h:DTs X ρ ifs b){pins:k85}{σ:St}{H:Hp}{s:af}(I:Inv X pins σ H s)(R:Rep X.K ρ σ H) :
  ax (au X.prog X.w) X.A (forIn ifs a7 λc r=>if r=a7 then do let ok <-fG c X.env (aE c X.env);pure (bZ ok)else pure (bZ r)) (λok s'=>ok=b/\∃H',Inv X pins σ H' s'/\j4 H H') X.xe s:=by
 match ifs,h with
 |[],h=>exact wpAny_tests_nil ⟨h.symm,H,I,j4.refl H⟩
 |[c],h=>exact wpAny_tests_one (thn (h σ H (λk H'=>k=b/\j4 H H') R (λH' g=>⟨rfl,g⟩) pins s I) λk s' ⟨H',I',e,g⟩=>⟨e,H',I',g⟩)
theorem Rep.weaken{K:k83}{ρ:Rho}{σ σ':St}{H:Hp}(R:Rep K ρ σ H)(hl:σ'.length=σ.length)(h:∀(i:Nat),ρ[i]?≠a5 .un->σ'[i]?=σ[i]?):Rep K ρ σ' H :=
 ⟨by rw[hl,R.len],λi d e=>let ⟨v,q,z⟩:=R.val i d e;⟨v,by rw[h i (by rw[e];simp)];exact q,z⟩,λi a ds e=>let ⟨q,z⟩:=R.own i a ds e;⟨by rw[h i (by rw[e];simp)];exact q,z⟩,R.nd,λi a o x e=>let ⟨q,z⟩:=R.raw i a o x e;⟨by rw[h i (by rw[e];simp)];exact q,z⟩,R.tb⟩
noncomputable def mask(cs:List Nat)(σ:St):St:=σ.mapIdx λj v=>if cs.contains j then a8 else v
theorem M7(cs:List Nat)(σ:St):(mask cs σ).length=σ.length:=by unfold mask;simp
theorem j7o{cs:List Nat}{σ:St}{j:Nat}{v:V}(h:(mask cs σ)[j]?=a5 (a5 v)):j∉cs/\σ[j]?=a5 (a5 v):=by
 unfold mask at h;rw[i7]at h;cases e:σ[j]? with
 |none=>rw[e]at h;cases h
 |some u =>
  rw[e]at h;have h':(if cs.contains j then a8 else u)=a5 v:=aw h;by_cases z:cs.contains j=a7
  .rw[if_pos z]at h';cases h'
  .rw[if_neg z]at h';subst h';exact⟨λy=>z (by simpa using y),rfl⟩
theorem j7n{cs:List Nat}{σ:St}{j:Nat}(h:j∉cs):(mask cs σ)[j]?=σ[j]?:=by
 unfold mask;rw[i7];cases e:σ[j]? with
 |none=>rfl
 |some u=>simp[h]
def Wk(ρ2 ρ:Rho):Prop:=∀K σ H,Rep K ρ2 σ H->Rep K ρ σ H
theorem Qu(H:Hp)(A B:List ae):del (del H A) B=del H (A++B):=funext λb=>by unfold del;by_cases h1:b∈A<;>by_cases h2:b∈B<;>simp[h1,h2]
structure Loose(X:Cx)(pins:k85)(H:Hp)(C:ae):Prop where
 free:H C=a8
 loc:C≠X.env.locals
 new:X.s₀.heap.objs.size<=C
 cell:∀x c,X.env.cells.lookup x=a5 c->c≠C
 pin:∀p∈X.pn++pins,p.1≠C
section
variable{X:Cx}{pins:k85}{σ:St}{H2:Hp}{s2:af}{ρ:Rho}{tg elt iter:aj}{ifs:List aj}{scope:bq}{pos:aO}{ds:List D}{cs:List Nat}{p:D->Bool}{g:D->D}
theorem j8y{J:It}{fp:List ae}{it:ae}{tn:Nat->aG->Prop}(I2:Inv X pins σ H2 s2)(T:Turn X.prog X.w X.K tg J fp it tn)(st2:tn 0 s2.heap)(f2:∀b∈fp,Vt X pins H2 b)
  (hkind:scope.kind=.function) (hok:J3 scope X.env X.N cs=a7) {E:k84} {RR:aa->ae->eV->af->Prop}
  (hk:∀(C Dd:ae)(h₁:aG),(cCx X scope C s2 H2 fp (X.pn++pins)).Ok->Inv (cCx X scope C s2 H2 fp (X.pn++pins)) [] (mask cs σ) (upd H2 Dd (.lst [])) { s2 with heap:=h₁ }->s2.heap.objs.size=Dd->Dd<C->H2 Dd=a8->(∀b o,s2.heap.get? b=a5 o->h₁.get? b=a5 o) ->
   cu (au X.prog X.w) X.A (.compLoop (.ListComp elt [⟨tg,iter,ifs,0⟩] scope pos) 0 (.ref it) (.ref Dd) (lX scope (aS (C+1) scope.names (zr X.env scope.names [])) C X.env)) (RR (.ref Dd) C) { s2 with heap:=h₁ }) :
  ax (au X.prog X.w) X.A (newList []) (λacc s₃=>ax (au X.prog X.w) X.A (eS scope X.env.globals (zr X.env scope.names []) [] X.env.qual a8 .none (a5 X.env)) (λcenv s₄=>cenv.frame=X.env.frame /\
   cu (au X.prog X.w) X.A (.compStart (.ListComp elt [⟨tg,iter,ifs,0⟩] scope pos) 0 (.ref it) acc { cenv with scope:=ku scope X.env }) (RR acc cenv.locals) s₄) E s₃) E s2:=by
 unfold J3 at hok;rw[X8]at hok;obtain⟨hn,hN⟩:=hok;have hn':∀y∈scope.names,(y.2=.cell->scope.names.lookup y.1=a5 .cell)/\(y.2=.free->(X.env.cells.lookup y.1).isSome=a7/\(X.env.kindOf y.1=a5 .cell\/X.env.kindOf y.1=a5 .free)):=λy hy=>by have:=Xq.mp hn y hy;simp only[X8,bne_iff_ne,ne_eq,cj,beq_iff_eq]at this;obtain⟨⟨a,_⟩,c⟩:=this;exact⟨λe=>a.elim (λz=>absurd e z) id,λe=>c.elim (λz=>absurd e z) id⟩
 have nocell:∀{y:ah},scope.names.lookup y=a5 .free->(y,bI)∉scope.names:=λ{y} h z=>by have q:=(hn' _ z).1 rfl;rw[h]at q;cases q
 have hloc:∀(j:Nat)(y:ah),X.N[j]?=a5 y->j∉cs->scope.names.lookup y≠a5 .local/\scope.names.lookup y≠a5 .cell:=λj y hj hc=>by
  have hlt:j<X.N.length:=(X3.mp hj).1;have:=Xq.mp hN j (Xm.mpr hlt);rw[hj]at this;simp only[cj,X8,bne_iff_ne,ne_eq]at this;rcases this with z|z
  .exact absurd (by simpa using z) hc
  .exact z
 have cl_of:∀{y:ah}{c:ae},(zr X.env scope.names []).lookup y=a5 c->X.env.cells.lookup y=a5 c:=λ{y c} h=>Cp (λ_ _ z=>by cases z) h;refine bG (Ec ?_);dsimp only;generalize hH2:s2.heap.push { cls:=.type "list",dict:=a8,data:=.seq ([]:List aa).toArray }=hp2;have keep1:∀b o,hp2.get? b=a5 o->(iv (hp2.push { cls:=.type "dict",data:=.dict #[] }) scope.names).get? b=a5 o:=λb o e=>lH _ _ b o (xu _ e);have hns₁:(iv (hp2.push { cls:=.type "dict",data:=.dict #[] }) scope.names).Ns hp2.objs.size (λ_=>a8):=(Heap.Ns.new hp2 (.type "dict")).keeps (lH _ _);have okl:=cellsFrom_ok scope.names (hp2.push { cls:=.type "dict",data:=.dict #[] }) (hp2.objs.size+1) [] ⟨λ_ _ hm=>(nomatch hm),List.Pairwise.nil⟩ (by rw[bU];exact X5 _);rw[bU]at okl;generalize iv (hp2.push { cls:=.type "dict",data:=.dict #[] }) scope.names=h₁ at keep1 hns₁ okl ⊢;have hC:hp2.objs.size=s2.heap.objs.size+1:=by rw[<-hH2,bU]
 have hDC:s2.heap.objs.size≠hp2.objs.size:=by rw[hC];exact X7 (fH _)
 have hCle:s2.heap.objs.size<=hp2.objs.size:=by rw[hC];exact Xv _
 have below:∀b,b<s2.heap.objs.size->b≠hp2.objs.size/\b≠s2.heap.objs.size:=λb hb=>⟨by rw[hC];exact X7 (cB hb),X7 hb⟩
 have old:∀b o,s2.heap.get? b=a5 o->h₁.get? b=a5 o:=λb o e=>keep1 b o (hH2▸xu _ e);have hacc:h₁.get? s2.heap.objs.size=a5 { cls:=.type "list",dict:=a8,data:=.seq ([]:List aa).toArray }:=keep1 _ _ (hH2▸Xa _ rfl);have none_of:∀b,s2.heap.objs.size<=b->s2.heap.get? b=a8:=λb hb=>by
  cases e:s2.heap.get? b with
  |none=>rfl
  |some o'=>exact absurd (xn e) (Nat.not_lt.mpr hb)
 have hD0:H2 s2.heap.objs.size=a8:=I2.fresh;generalize hDd:s2.heap.objs.size=Dd at *;generalize hCc:hp2.objs.size=C at *;have hC0:H2 C=a8:=I2.hok.fresh (by rw[hDd];exact hCle);have pinlt:∀p∈X.pn++pins,p.1<Dd:=λp hp=>by rw[<-hDd];exact xn (I2.pin p hp).1
 have celllt:∀y c,X.env.cells.lookup y=a5 c->c<Dd:=λy c h=>by obtain⟨v,o,e,_⟩:=I2.cell y c h;rw[<-hDd];exact xn e
 have loclt:X.env.locals<Dd:=by rw[<-hDd];exact I2.lt
 have fplt:∀b∈fp,b<Dd:=λb hb=>by obtain⟨o,e,_⟩:=T.obj _ _ st2 b hb;rw[<-hDd];exact xn e
 have hDlt:Dd<C:=by omega
 have cellD:∀{y:ah}{c:ae},(aS (C+1) scope.names (zr X.env scope.names [])).lookup y=a5 c->((y,c)∈aS (C+1) scope.names []/\C+1<=c)\/X.env.cells.lookup y=a5 c:=λ{y c} h=>by
  rcases Cq h with ⟨q,_,z⟩|⟨_,q⟩
  .exact .inl ⟨q,z⟩
  .exact .inr (cl_of q)
 have celln:∀{y:ah}{c b:ae},(aS (C+1) scope.names (zr X.env scope.names [])).lookup y=a5 c->b<Dd->(∀c,X.env.cells.lookup y=a5 c->c≠b)->c≠b:=λ{y c b} h hb ho=>by
  rcases cellD h with ⟨_,z⟩|q
  .exact c8 (Xy hb (Xy hDlt (S5 z)))
  .exact ho c q
 have okc:(cCx X scope C s2 H2 fp (X.pn++pins)).Ok:={
  mod:=I2.ok.mod
  kind:=hkind
  glob:=I2.ok.glob
  blt:=I2.ok.blt
  above:=by show s2.heap.objs.size<=C;rw[hDd];exact hCle
  inj:=λx y c h1 h2=>by
   rcases cellD h1 with ⟨m1,z1⟩|q1<;>rcases cellD h2 with ⟨m2,z2⟩|q2
   .exact name_of_addr okl.apart m1 m2
   .exact absurd (Xy (celllt y c q2) (Xy hDlt (S5 z1))) (Xx _)
   .exact absurd (Xy (celllt x c q1) (Xy hDlt (S5 z2))) (Xx _)
   .exact I2.ok.inj x y c q1 q2
  has:=λx h=>by
   have key:∀k',(ku scope X.env).names.lookup x=a5 k'->(k'=.cell\/k'=.free)->∃c,(aS (C+1) scope.names (zr X.env scope.names [])).lookup x=a5 c:=λk' hk hk'=>by
    obtain⟨k,hl,e⟩:=J9 hk
    have hm:=lookup_mem hl
    have hk0:k=.free\/k=.cell:=by
     rcases e with e|e
     .subst e
      exact hk'.symm
     .exact .inl e.1
    rcases hk0 with hk0|hk0
    .subst hk0
     exact jd4 (Ul ((hn' _ hm).2 rfl).1 hm)
    .subst hk0
     exact Xo.mp (W.cellsFrom_some _ _ _ (.inl hl))
   rcases h with h|h
   .exact key _ h (.inl rfl)
   .exact key _ h (.inr rfl)
  cab:=λx c h h2=>by
   have hx:scope.names.lookup x=a5 .cell:=by simpa using h
   show s2.heap.objs.size<=c
   rw[hDd]
   rcases Cq h2 with ⟨_,_,z⟩|⟨z,_⟩
   .exact dP (Xy hDlt (S5 z))
   .obtain⟨c',hc'⟩:=Xo.mp (W.cellsFrom_some scope.names (C+1) [] (.inl hx))
    rw[z]at hc';cases hc'
  hd:=I2.ok.hd
  frames:=I2.ok.frames
  stk:=.inl rfl
  exf:=λb hb=>⟨X7 (Xy (fplt b hb) hDlt),λx c h=>celln h (fplt b hb) λc q=>(f2 b hb).2.2.2.2.1 x c q⟩
  bs:=I2.bs
  bsz:=Xd I2.ok.bsz I2.sz
  noex:=λb o e hb=>by
   rcases(f2 b hb).2.2.2.1 with z|z
   .exact I2.ok.noex b o e z
   .exact absurd (xn e) (Nat.not_lt.mpr (Xd I2.ok.bsz z))
  exfs:=λb hb hf=>by
   rcases xj.mp (I2.stkSub b hf)with z|z
   .exact(f2 b hb).2.1 z
   .exact(f2 b hb).2.2.1 z
  funs:=I2.stack
  frf:=I2.stkFree }
 have hpush:HOk X.prog X.w (upd H2 Dd (.lst [])) h₁:=HOk.laid I2.hok old (by rw[hDd];exact X5 _) ⟨Tc _,[],_,.nil,hacc⟩;have I0:Inv (cCx X scope C s2 H2 fp (X.pn++pins)) [] (mask cs σ) (upd H2 Dd (.lst [])) { s2 with heap:=h₁ }:={
  ok:=okc
  os:=rfl
  bare:=I2.bare
  base:=Un.laid old (by rw[hDd];exact X5 _) hD0
  loc:=by
   refine⟨_,hns₁,λj y v hj hv hvis=>?_⟩
   obtain⟨hjc,hσ⟩:=j7o hv
   obtain⟨m,hm,hlook⟩:=I2.loc
   have key:∀k',(ku scope X.env).names.lookup y=a5 k'->scope.names.lookup y=a5 .free:=λk' hk=>by
    obtain⟨k,hl,e⟩:=J9 hk
    have hmm:=lookup_mem hl
    have:k=.free:=by
     rcases e with e|e
     .subst e
      rcases hvis with z|z|z
      .have z:=hk.symm.trans z;cases z;exact absurd hl (hloc j y hj hjc).1
      .have z:=hk.symm.trans z;cases z;exact absurd hl (hloc j y hj hjc).2
      .have z:=hk.symm.trans z;cases z;rfl
     .exact e.1
    rw[hl,this]
   have hfree:scope.names.lookup y=a5 .free:=by rcases hvis with z|z|z<;>exact key _ z
   have hmm:=lookup_mem hfree
   obtain⟨hs,hk⟩:=(hn' _ hmm).2 rfl
   have hvis':Vis X.env.scope y:=by rcases hk with z|z;exact .inr (.inl z);exact .inr (.inr z)
   obtain⟨u,ru,look⟩:=hlook j y v hj hσ hvis'
   refine⟨u,ru,?_⟩
   rcases look with ⟨z,_⟩|⟨_,c,hcl,hcv⟩
   .rcases hk with y'|y'<;>rw[y']at z<;>cases z
   .refine .inr ⟨?_,c,?_,?_⟩
    .rcases hvis with z|z|z
     .exfalso
      obtain⟨k,hl,e⟩:=J9 z
      rw[hfree]at hl;cases hl
      rcases e with e|e
      .cases e
      .cases e.2
     .exact .inl z
     .exact .inr z
    .obtain⟨c',hc'⟩:=Xo.mp (Ul (acc:=[]) hs hmm)
     have:=cl_of hc'
     rw[hcl]at this;cases this
     exact(jh9 (nocell hfree)).trans hc'
    .obtain⟨o,e,d⟩:=hcv
     exact⟨o,old _ _ e,d⟩
  cell:=λx c h=>by
   rcases cellD h with ⟨q,_⟩|q
   .exact⟨_,(okl.empty x c q).1⟩
   .obtain⟨v,o,e,d⟩:=I2.cell x c q
    exact⟨v,o,old _ _ e,d⟩
  free:=by show upd H2 Dd (.lst []) C=a8;rw[jd (c8 hDlt)];exact hC0
  freeC:=λx c h=>by
   rcases cellD h with ⟨_,z⟩|q
   .rw[jd (c8 (Xy hDlt (S5 z)))];exact I2.hok.fresh (by rw[hDd];exact dP (Xy hDlt (S5 z)))
   .rw[jd (X7 (celllt x c q))];exact I2.freeC x c q
  pin:=λp hp=>by
   rw[Xr]at hp
   obtain⟨h1,h2,h3,h4,h5⟩:=I2.pin p hp
   have hlt:=pinlt p hp
   refine⟨old _ _ h1,by rw[jd (X7 hlt)];exact h2,X7 (Xy hlt hDlt),λz=>?_,h5⟩
   rcases xj.mp (I2.stkSub _ z)with y|y
   .exact h3 y
   .exact h4 y
  hok:=hpush
  len:=by rw[M7];exact I2.len }
 have go:=hk C Dd h₁ okc I0 rfl hDlt hD0 old;exact⟨rfl,codeAny_compStart_list go (T.self _ 0 _ _ _ (T.keep _ _ _ st2 (λb _ o e=>old b o e)) go)⟩
theorem Cj{J:It}{fp:List ae}{it:ae}{tn:Nat->aG->Prop}(I2:Inv X pins σ H2 s2)(R2:Rep X.K ρ σ H2)(T:Turn X.prog X.w X.K tg J fp it tn)(st2:tn 0 s2.heap)(f2:∀b∈fp,Vt X pins H2 b)
  (ok:Ys X.K (del H2 (owns ρ)) J ds) (hc:X.calm=a7) (hkind:scope.kind=.function) (hok:J3 scope X.env X.N cs=a7) (hcs:∀j∈cs,ρ[j]?=a5 .un) (hsz:ds.length<=ak)
  (hb:∀C s H fp pn,∀d∈ds,∃ρ2,DG (cCx X scope C s H fp pn) ρ tg d ρ2/\Wk ρ2 ρ/\owns ρ2=owns ρ/\DTs (cCx X scope C s H fp pn) ρ2 ifs (p d)/\(p d=a7->DE (cCx X scope C s H fp pn) ρ2 elt (g d)))
  {E:k84} {RR:aa->ae->eV->af->Prop}
  (hRR:∀D C xs H' s' m,Inv X pins σ H' s'->j4 H2 H'->H2 D=a8->H' D=a5 (.lst xs)->j5 X.K (del H' (D::owns ρ)) ((ds.filter p).map g) xs->s'.heap.Ns C m->Loose X pins H' C->RR (.ref D) C (.ok .next) s') :
  ax (au X.prog X.w) X.A (newList []) (λacc s₃=>ax (au X.prog X.w) X.A (eS scope X.env.globals (zr X.env scope.names []) [] X.env.qual a8 .none (a5 X.env)) (λcenv s₄ =>
   cu (au X.prog X.w) X.A (.compStart (.ListComp elt [⟨tg,iter,ifs,0⟩] scope pos) 0 (.ref it) acc { cenv with scope:=ku scope X.env }) (RR acc cenv.locals) s₄) E s₃) E s2:=by
 refine thn (j8y (RR:=RR) I2 T st2 f2 hkind hok λC Dd h₁ okc I0 hDd hDlt hD0 old=>?_) λacc s₃ h=>thn h λcenv s₄ h=>h.2;have hDlt:@LT.lt Nat _ Dd C:=hDlt;have pinlt:∀p∈X.pn++pins,p.1<Dd:=λp hp=>by rw[<-hDd];exact xn (I2.pin p hp).1
 have celllt:∀y c,X.env.cells.lookup y=a5 c->c<Dd:=λy c h=>by obtain⟨v,o,e,_⟩:=I2.cell y c h;rw[<-hDd];exact xn e
 have loclt:X.env.locals<Dd:=by rw[<-hDd];exact I2.lt
 have fplt:∀b∈fp,b<Dd:=λb hb=>by obtain⟨o,e,_⟩:=T.obj _ _ st2 b hb;rw[<-hDd];exact xn e
 have hDo:Dd∉owns ρ:=R2.fresh hD0;have fpok:∀{H':Hp},(∀b∈fp,H' b=a8)->∀b∈fp,Vt (cCx X scope C s2 H2 fp (X.pn++pins)) [] H' b:=λ{H'} hn b hb =>⟨hn b hb,(okc.exf b hb).1,okc.exfs b hb,.inl hb,(okc.exf b hb).2,λp hp=>by rw[Xr]at hp;exact(f2 b hb).2.2.2.2.2 p hp⟩
 have R0:Rep X.K ρ (mask cs σ) H2:=R2.weaken (M7 _ _) λj hj=>j7n λz=>hj (hcs j z);have e0:del (upd H2 Dd (.lst [])) [Dd]=H2:=by
  rw[Vb (X6.mpr rfl)]
  funext b
  by_cases z:b∈[Dd]
  .rw[qw z,X6.mp z,hD0]
  .exact j6 z
 have loop:∀s₃:af,s₃={ s2 with heap:=h₁ } ->
   cu (au X.prog X.w) X.A (.compLoop (.ListComp elt [⟨tg,iter,ifs,0⟩] scope pos) 0 (.ref it) (.ref Dd) (lX scope (aS (C+1) scope.names (zr X.env scope.names [])) C X.env)) (RR (.ref Dd) C) s₃:=by
  rintro s₃ rfl;refine j07 (λn s=>∃i σ' H' ys,Inv (cCx X scope C s2 H2 fp (X.pn++pins)) [] σ' H' s/\tn i s.heap/\(∀b∈fp,H' b=a8)/\i<=ds.length/\n=ds.length-i/\Rep X.K ρ σ' (del H' [Dd])/\j4 H2 (del H' [Dd])/\H' Dd=a5 (.lst ys) /\
   j5 X.K (del H' (Dd::owns ρ)) (((ds.take i).filter p).map g) ys) ?_ ds.length
   ⟨0,mask cs σ,upd H2 Dd (.lst []),[],I0,T.keep _ _ _ st2 (λb _ o e=>old b o e),λb hb=>by rw[jd (X7 (fplt b hb))];exact(f2 b hb).1,Tc _,rfl,by rw[e0];exact R0,by rw[e0];exact j4.refl _,jb,rfl⟩
  rintro n s3 ⟨i,σ3,H3,ys,I3,st3,fr3,hle,rfl,R3,g3,m3,en3⟩;have F3:j4 (del H2 (owns ρ)) (del H3 (Dd::owns ρ)):=by
   have:del H3 (Dd::owns ρ)=del (del H3 [Dd]) (owns ρ):=by rw[Qu];rfl
   rw[this];exact jh g3
  obtain⟨go,stop,yld⟩:=ok i H3 (Dd::owns ρ) F3 λa ha=>by
   rcases xj.mp ha with e|ha
   .rw[e,m3];simp
   .obtain⟨xs,e⟩:=R3.owned a ha;rw[(of_del e).2];simp
  by_cases hlt:i<ds.length
  .refine thn (T.item (cCx X scope C s2 H2 fp (X.pn++pins)) rfl rfl rfl hc i [] s3 σ3 H3 (λ_ _=>False) I3 (fpok fr3) st3 (go hlt)) λr s4 ⟨u,hr,h4⟩=>?_;subst hr;refine thn h4 λ_ s5 ⟨x,H5,I5,r5,y5,st5,fr5⟩=>?_;obtain⟨g5,en5⟩:=yld x H5 y5;have hd:ds[i]?=a5 ds[i]:=kh hlt;obtain⟨ρ2,⟨sub,hG⟩,wk,eo,hT,hE⟩:=hb C s2 H2 fp (X.pn++pins) ds[i] (Pq hlt);have m5:H5 Dd=a5 (.lst ys):=g5 _ _ m3;have hA:∀a∈[Dd],Hd (H5 a):=λa ha=>.inl ⟨ys,by rw[X6.mp ha];exact m5⟩;have I5p:=I5.pinned (fpok fr5) (T.obj _ _ st5);have I5h:=I5p.hide hA;have R5:Rep X.K ρ σ3 (del H5 [Dd]):=R3.grow (jh g5);have en5':Enc X.K (del (del H5 [Dd]) (owns ρ)) ds[i] x:=by rw[Qu];exact en5 _ hd
   refine thn (hG σ3 (del H5 [Dd]) x (λσ6 F6=>F6=del H5 [Dd]/\Rep X.K ρ2 σ6 F6) R5 en5' (λσ6 R6=>⟨rfl,R6⟩) _ s5 u I5h r5) λ_ s6 ⟨σ6,F6,I6,e6,R6⟩=>?_;subst e6;refine thn (hT.run I6 R6) λokv s7 ⟨e7,F7,I7,g7⟩=>?_;subst e7;have R7:Rep X.K ρ σ6 F7:=wk _ _ _ (R6.grow g7);have g27:j4 H2 F7:=g3.trans ((jh g5).trans g7);have en7:j5 X.K (del F7 (owns ρ)) (((ds.take i).filter p).map g) ys:=en3.mono (by
    have:del H3 (Dd::owns ρ)=del (del H3 [Dd]) (owns ρ):=by rw[Qu];rfl
    rw[this];exact jh ((jh g5).trans g7))
   have ky:∀{F:Hp}{s':af},Inv (cCx X scope C s2 H2 fp (X.pn++pins)) ([]++Qz fp s5.heap) σ6 F s'->Inv (cCx X scope C s2 H2 fp (X.pn++pins)) [] σ6 F s'/\tn (i+1) s'.heap/\∀b∈fp,F b=a8:=λ{F s'} I=>by refine⟨I.unpinned,T.keep _ _ _ st5 λb hb o e=>(I.pin (b,o) (Xh _ (Xh _ (Qe hb e)))).1,λb hb=>?_⟩;obtain⟨o,e,d⟩:=T.obj _ _ st5 b hb;exact(I.pin (b,o) (Xh _ (Xh _ (Qe hb e)))).2.1
   have tk:ds.take (i+1)=ds.take i++[ds[i]]:=by rw[Tq,hd];rfl
   cases hp:p ds[i] with
   |false =>
    rw[if_neg xg];obtain⟨hF,I8⟩:=I5p.unhide hA I7;obtain⟨I9,st9,fr9⟩:=ky I8;refine⟨ds.length-(i+1),by omega,i+1,σ6,_,ys,I9,st9,fr9,hlt,rfl,by rw[Qt hF];exact R7,by rw[Qt hF];exact g27,by rw[vp (X6.mpr rfl)];exact m5,?_⟩;have:del (mrg [Dd] H5 F7) (Dd::owns ρ)=del F7 (owns ρ):=by
     have e:del (mrg [Dd] H5 F7) (Dd::owns ρ)=del (del (mrg [Dd] H5 F7) [Dd]) (owns ρ):=by rw[Qu];rfl
     rw[e,Qt hF]
    rw[this,tk,iE];have e:[ds[i]].filter p=[]:=by simp[hp]
    rw[e,Xr];exact en7
   |true =>
    rw[if_pos rfl];refine thn (hE hp σ6 F7 (λv F8=>j4 F7 F8/\Enc X.K (del F8 (owns ρ2)) (g ds[i]) v) (R6.grow g7) (λv F8 g8 e8=>⟨g8,e8⟩) _ s7 I7) λy s8 ⟨v,F8,I8,r8,g8,e8⟩=>?_;obtain⟨hF,I8'⟩:=I5p.unhide hA I8;rw[eo]at e8;have eH:del (mrg [Dd] H5 F8) (Dd::owns ρ)=del F8 (owns ρ):=by
     have e:del (mrg [Dd] H5 F8) (Dd::owns ρ)=del (del (mrg [Dd] H5 F8) [Dd]) (owns ρ):=by rw[Qu];rfl
     rw[e,Qt hF]
    have hlen:ys.length<ak:=by have e1:=en7.length;have e2:((ds.take i).filter p).length<=(ds.take i).length:=cG _ _;rw[xf]at e1;rw[Xj]at e2;omega
    refine thn (W7 _ s8 σ6 (mrg [Dd] H5 F8) (.ref Dd) [v] (.ref Dd) [y] (λ_ H9=>H9=upd (mrg [Dd] H5 F8) Dd (.lst (ys++[v]))) I8' rfl (.cons r8 .nil)
     ⟨Dd,ys,v,rfl,rfl,by rw[vp (X6.mpr rfl)];exact m5,hlen,rfl⟩) λ_ s9 ⟨_,H9,I9,_,e9⟩=>?_
    subst e9;obtain⟨I10,st10,fr10⟩:=ky I9;have ed:del (upd (mrg [Dd] H5 F8) Dd (.lst (ys++[v]))) [Dd]=F8:=by rw[Vb (X6.mpr rfl),Qt hF]
    refine⟨ds.length-(i+1),by omega,i+1,σ6,_,ys++[v],I10,st10,fr10,hlt,rfl,by rw[ed];exact R7.grow g8,by rw[ed];exact g27.trans g8,jb,?_⟩;rw[Vb (xm ..),eH,tk,iE,Xl];have e:[ds[i]].filter p=[ds[i]]:=by simp[hp]
    rw[e];exact(en7.mono (jh g8)).append (.one e8)
  .have hi:i=ds.length:=by omega
   subst hi;refine thn (T.done (cCx X scope C s2 H2 fp (X.pn++pins)) rfl rfl rfl hc ds.length [] s3 σ3 H3 (λ_ _=>False) I3 (fpok fr3) st3 (stop (X5 _))) λr s4 ⟨hr,I4⟩=>?_;subst hr;rw[dD]at en3;obtain⟨m,hm,_⟩:=I4.loc;refine hRR Dd C ys H3 s4 m ?_ (g3.trans jo) hD0 m3 en3 hm ⟨I4.free,c8 (Xy loclt hDlt),?_,λx c h=>X7 (Xy (celllt x c h) hDlt),λp hp=>X7 (Xy (pinlt p hp) hDlt)⟩
   .exact I2.call' (ch:=fp) I4.os I4.base I4.hok I4.bare λb hb=>⟨(f2 b hb).2.2.2.1,(f2 b hb).2.1,(f2 b hb).2.2.2.2.1,(f2 b hb).2.2.2.2.2⟩
   .have:=I2.sz;omega
 exact loop _ rfl
end
section
variable{X:Cx}{ρ:Rho}{tg elt iter:aj}{ifs:List aj}{scope:bq}{pos p1 spos:aO}{ds:List D}{cs:List Nat}{p:D->Bool}{g:D->D}{x:ah}{P:Po}
theorem Mh{env:cI}{N:List ah}(h:J3 scope env N cs=a7):∀y∈scope.names,y.2=.free->(env.cells.lookup y.1).isSome=a7:=λy hy e=>by unfold J3 at h;rw[X8]at h;have:=Xq.mp h.1 y hy;simp only[X8,bne_iff_ne,ne_eq,cj]at this;exact this.2.elim (λz=>absurd e z) λz=>z.1
theorem Wq{env:cI}{N:List ah}(h:J3 scope env N cs=a7):∀y∈scope.names,y.2=.local->scope.names.lookup y.1=a5 .local:=λy hy e=>by unfold J3 at h;rw[X8]at h;have:=Xq.mp h.1 y hy;simp only[X8,bne_iff_ne,ne_eq,cj,beq_iff_eq]at this;exact this.1.2.elim (λz=>absurd e z) λz=>z
theorem Inv.loose{pins:k85}{σ:St}{H:Hp}{s:af}{C:ae}{h':aG}(I:Inv X pins σ H s)(L:Loose X pins H C)(sb:cT C s.heap h'):Inv X pins σ H { s with heap:=h' } :=
 I.turned (t':=s.toks) (λb o hb e=>sb.extBut b o hb e) L.free L.loc (.inr L.new) L.cell L.pin
theorem DO.comp(cs:List Nat)(p:D->Bool)(g:D->D)(hi:DI X ρ tg iter ds)
  (hb:∀C s H fp pn,∀d∈ds,∃ρ2,DG (cCx X scope C s H fp pn) ρ tg d ρ2/\Wk ρ2 ρ/\owns ρ2=owns ρ/\DTs (cCx X scope C s H fp pn) ρ2 ifs (p d)/\(p d=a7->DE (cCx X scope C s H fp pn) ρ2 elt (g d)))
  (hcs:∀j∈cs,ρ[j]?=a5 .un) (hsz:ds.length<=ak) (hc:X.calm=a7:=by rfl) (hkind:scope.kind=.function:=by rfl) (hok:J3 scope X.env X.N cs=a7:=by rfl)
  (hs:∀x,aK iter X.env x=pure x:=by intro _;rfl):DO X ρ (.ListComp elt [⟨tg,iter,ifs,0⟩] scope pos) ((ds.filter p).map g):=λσ H Q R q pins s I=>by
 rw[eval_ListComp];refine ie (use:=a8) rfl hs (N8 (Mh hok)) hkind (Wq hok) (thn (hi σ H (λJ H'=>j4 H H'/\Ys X.K (del H' (owns ρ)) J ds) R (λJ H' g1 ok=>⟨g1,ok⟩) pins s I) λv s1 h1=>thn h1 λitv s2 h2=>?_);obtain⟨it,fp,tn,J,H2,e,I2,T,st2,f2,g2,ok⟩:=h2;subst e;refine Cj (RR:=λacc C=>compPost (au X.prog X.w) X.A X.xe a8 (EP X pins σ Q) acc C) I2 (R.grow g2) T st2 f2 ok hc hkind hok hcs hsz hb ?_;intro D C xs H' s' m I' gg n m' en hm L;exact⟨m,hm,λh' sb=>⟨.ref D,H',I'.loose L sb,rfl,q D xs H' (g2.trans gg) (g2.free n) m' en⟩⟩
theorem Wk.set{i:Nat}{d:D}(h:ρ[i]?=a5 .un):Wk (ρ.set i (.val d)) ρ:=λK σ H R=>by
 have q:=R.set_un (i:=i) (v:=(σ[i]?).join);have e:σ.set i ((σ[i]?).join)=σ:=by
  apply Pa;intro j;rw[cz];split
  .rename_i h;subst h;split
   .rename_i h;rw[kh h];rfl
   .rename_i h;rw[Xi nofun]
  .rfl
 have e2:(ρ.set i (.val d)).set i .un=ρ:=by
  rw[gP];apply Pa;intro j;rw[cz];split
  .rename_i z;subst z;split
   .rw[h]
   .rename_i z;rw[Xi nofun]at h;cases h
  .rfl
 rw[e,e2]at q;exact q
theorem Zo{i:Nat}{d:D}(h:ρ[i]?=a5 .un):owns (ρ.set i (.val d))=owns ρ:=M4 rfl λa l z=>by rw[h]at z;cases z
end
section
variable{prog:ar}{w:aA}{A:aC}{E:k84}{s:af}
theorem j3c{j t:ae}{k:Nat}{its:Array aa}{y:aa}{Q:k84}(hj:s.heap.IsTupleIter j t k)(ht:s.heap.IsTuple t its)(hy:its[k]?=a5 y)
  (q:∀h',h'.IsTupleIter j t (k+1)->cT j s.heap h'->Q y { s with heap:=h' }):ax (au prog w) A (bh (.ref j)) Q E s:=by
 obtain⟨o,ho,hc,hd⟩:=id hj;obtain⟨ot,hot,_,m,hdt⟩:=ht;unfold bh;refine ai (dX (name:=dN "__next__") hj.typeIs c7 (cS c7 hj.typeIs gr ?_ (gh _)));show ax _ _ (field (.ref j) 0 >>= _) _ _ s;refine ai (cE ho hd (x:=.ref t) rfl ?_);show ax _ _ (if (aH t==aI)=a7 then _ else _) _ _ s;rw[if_neg (show ¬((aH t==aI)=a7)from xg)];show ax _ _ (field (.ref j) 1 >>= _) _ _ s;refine ai (cE ho hd (x:=.int k 0) rfl ?_);show ax _ _ (seqItems? (.ref t) >>= _) _ _ s;refine ai (lT hot hdt ?_);simp only[Xe,hy];refine ai (lS ho hd (by simp) (az ⟨y,rfl,az (q _ ?_ (cA ..))⟩));exact⟨_,Heap.get?_update_self _ ho (Obj.isFreed_of_fields (iI hd _)),(Obj.cls_mapFields ..).trans hc,by rw[iI hd];simp[k8]⟩
theorem j5s{j t:ae}{k:Nat}{its:Array aa}{Q:k84}(hh:A.handled=a8)(hj:s.heap.IsTupleIter j t k)(ht:s.heap.IsTuple t its)(hy:its[k]?=a8)
  (q:∀h' x,fw j s.heap h'->(∃o,h'.get? x=a5 o/\o.cls=.type "StopIteration")->E (.ref x) { s with heap:=h' }):ax (au prog w) A (bh (.ref j)) Q E s:=by
 obtain⟨o,ho,hc,hd⟩:=id hj;obtain⟨ot,hot,_,m,hdt⟩:=ht;unfold bh;refine ai (dX (name:=dN "__next__") hj.typeIs c7 (cS c7 hj.typeIs gr ?_ (gh _)));show ax _ _ (field (.ref j) 0 >>= _) _ _ s;refine ai (cE ho hd (x:=.ref t) rfl ?_);show ax _ _ (if (aH t==aI)=a7 then _ else _) _ _ s;rw[if_neg (show ¬((aH t==aI)=a7)from xg)];show ax _ _ (field (.ref j) 1 >>= _) _ _ s;refine ai (cE ho hd (x:=.int k 0) rfl ?_);show ax _ _ (seqItems? (.ref t) >>= _) _ _ s;refine ai (lT hot hdt ?_);simp only[Xe,hy];refine ai (jY (ai (lS ho hd (by simp) ?_)));show ax _ _ (newExc (.type "StopIteration") [] >>= _) _ _ _;refine ai ?_;simp only[newExc,newTuple];refine ai (bG ?_ (by size_fits));refine ai (m:=lW _ _) (wpAny_of_eq (a:=aI) (by first|rfl|(simp only[lW];rfl)) ?_);refine bG ?_ (by size_fits);simp only[raiseNew];refine ai (wpAny_handled ?_)
 first|rw[show A.in1.handled=a8 from hh]|rw[hh]
 refine ai (az (wpAny_throw ?_));exact q _ _ (((cA ..).extBut.push _).push _) ⟨_,Xa _ rfl,rfl⟩
end
def qz(lst:Bool)(h:aG)(j t:ae)(k:Nat):Prop:=if lst=a7 then h.IsListIter j t k else h.IsTupleIter j t k
def qx(lst:Bool)(h:aG)(t:ae)(its:Array aa):Prop:=if lst=a7 then h.IsList t its else h.IsTuple t its
section
variable{prog:ar}{w:aA}{A:aC}{E:k84}{s:af}{lst:Bool}{h h':aG}{j t b:ae}{k:Nat}{its:Array aa}
theorem qz.ext(x:qz lst h j t k)(e:fw b h h')(n:j≠b):qz lst h' j t k:=by
 unfold qz at x ⊢;cases lst with
 |true=>rw[if_pos rfl]at x ⊢;exact x.extBut e n
 |false=>rw[if_neg xg]at x ⊢;exact x.extBut e n
theorem qz.stay(x:qz lst h j t k)(e:∀o,h.get? j=a5 o->h'.get? j=a5 o):qz lst h' j t k:=by
 unfold qz at x ⊢;cases lst with
 |true=>rw[if_pos rfl]at x ⊢;exact x.at e
 |false=>rw[if_neg xg]at x ⊢;exact x.at e
theorem qz.obj(x:qz lst h j t k):∃o,h.get? j=a5 o/\∀v,o.data≠.cell v:=by
 unfold qz at x;cases lst with
 |true=>rw[if_pos rfl]at x;obtain⟨o,e,c,d⟩:=x;exact⟨o,e,λv z=>by rw[d]at z;cases z⟩
 |false=>rw[if_neg xg]at x;obtain⟨o,e,c,d⟩:=x;exact⟨o,e,λv z=>by rw[d]at z;cases z⟩
theorem qx.ext(x:qx lst h t its)(e:fw b h h')(n:t≠b):qx lst h' t its:=by
 unfold qx at x ⊢;cases lst with
 |true=>rw[if_pos rfl]at x ⊢;exact x.extBut e n
 |false=>rw[if_neg xg]at x ⊢;exact x.extBut e n
theorem j49{y:aa}{Q:k84}(hj:qz lst s.heap j t k)(ht:qx lst s.heap t its)(hy:its[k]?=a5 y)
  (q:∀h',qz lst h' j t (k+1)->cT j s.heap h'->Q y { s with heap:=h' }):ax (au prog w) A (bh (.ref j)) Q E s:=by
 unfold qz at hj q;unfold qx at ht;cases lst with
 |true=>rw[if_pos rfl]at hj ht;simp only[if_true]at q;exact wpAny_nextOf_list_item hj ht hy q
 |false=>rw[if_neg xg]at hj ht;simp only[Pg,if_false]at q;exact j3c hj ht hy q
theorem Ky{Q:k84}(hh:A.handled=a8)(hj:qz lst s.heap j t k)(ht:qx lst s.heap t its)(hy:its[k]?=a8)
  (q:∀h' x,fw j s.heap h'->(∃o,h'.get? x=a5 o/\o.cls=.type "StopIteration")->E (.ref x) { s with heap:=h' }):ax (au prog w) A (bh (.ref j)) Q E s:=by
 unfold qz at hj;unfold qx at ht;cases lst with
 |true=>rw[if_pos rfl]at hj ht;exact wpAny_nextOf_list_end hh hj ht hy q
 |false=>rw[if_neg xg]at hj ht;exact j5s hh hj ht hy q
end
noncomputable def Kz(lst:Bool):String:=if lst=a7 then "list_iterator" else "tuple_iterator"
noncomputable abbrev zh1(h:aG)(l1:Bool)(t1:ae):aG:=h.push { cls:=.type (Kz l1),data:=.fields #[.ref t1,.int 0 0] }
section
variable{prog:ar}{w:aA}{A:aC}{E:k84}{s:af}{l1 l2:Bool}{t1 t2:ae}{us vs:Array aa}
theorem Wb{lst:Bool}{t:ae}{its:Array aa}{Q:k84}(h:qx lst s.heap t its)(q:Q (.ref s.heap.objs.size) { s with heap:=zh1 s.heap lst t }):ax (au prog w) A (k9 (.ref t)) Q E s:=by
 unfold qx at h;cases lst with
 |true=>rw[if_pos rfl]at h;exact cN h q
 |false=>rw[if_neg xg]at h;exact fC h q
end
def SqB(K:k83)(lst:Bool)(H:Hp)(a:ae)(xs:List V):Prop:=if lst=a7 then SqL K H a xs else SqT K H a xs
section
variable{X:Cx}{pins:k85}{σ:St}{H:Hp}{s:af}{a p:ae}{xs ys:List V}{lst:Bool}{ch:List ae}{h':aG}
theorem j4.seqB{K:k83}{H':Hp}(e:j4 H H')(h:SqB K lst H a xs):SqB K lst H' a xs:=by
 unfold SqB at h ⊢;cases lst with
 |true=>rw[if_pos rfl]at h ⊢;exact e.seq h
 |false=>rw[if_neg xg]at h ⊢;exact e.seqT h
theorem Inv.side(I:Inv X pins σ H s)(h:SqB X.K lst H a xs):∃us:List aa,Vals xs us/\qx lst s.heap a us.toArray/\xs.length<=ak:=by
 unfold SqB at h;unfold qx;cases lst with
 |true=>rw[if_pos rfl]at h;obtain⟨its,r,q,l⟩:=I.list h;exact⟨its,r,by rw[if_pos rfl];exact q.isList,l⟩
 |false=>rw[if_neg xg]at h;obtain⟨its,r,q,l⟩:=I.tuple h;exact⟨its,r,by rw[if_neg xg];exact q,l⟩
theorem Inv.side_inj(I:Inv X pins σ H s)(h:SqB X.K lst H a xs)(h':SqB X.K lst H a ys):xs=ys:=by
 unfold SqB at h h';cases lst with
 |true=>rw[if_pos rfl]at h h';exact I.list_inj h h'
 |false=>rw[if_neg xg]at h h';exact I.tuple_inj h h'
theorem Inv.chg(I:Inv X pins σ H s)(hf:∀b∈ch,Vt X pins H b)(kp:∀c o,c∉ch->s.heap.get? c=a5 o->h'.get? c=a5 o):Inv X pins σ H { s with heap:=h' }:=by
 refine I.step (g':=s.gens) (t':=s.toks) (d':=s.drawn) (ch:=ch) (λb hb=>⟨(hf b hb).2.2.2.1,(hf b hb).2.1,(hf b hb).2.2.2.2.1,(hf b hb).2.2.2.2.2⟩) (λb o _ _ nc e _=>kp b o nc e) (λb o _ _ nc e _=>⟨o.slots,kp b o nc e⟩)
  (λb o _ _ n=>n) (λb o nc e=>⟨o,kp b o nc e⟩) (λb xs e=>e) (λb o u e=>e) (λb ps e=>⟨#[],by rw[e];simp⟩) (λm hm=>hm.at' λo e=>kp _ o (λz=>(hf _ z).2.1 rfl) e) (λc o e=>?_) I.bare
 have out:∀{b:ae}{u:HO},H b=a5 u->b∉ch:=λ{b u} q z=>by rw[(hf b z).1]at q;cases q
 refine jg.stay (I.hok c o e) (λb u hb q=>kp b u ?_ q) (λb q=>q) (λb xs q=>q) (λb _ _ q=>q);rcases hb with hb|hb
 .subst hb;exact out e
 .exact out hb
theorem Inv.chgT(I:Inv X pins σ H s)(hf:∀b∈ch,Vt X pins H b)(kp:∀c o,c∉ch->s.heap.get? c=a5 o->h'.get? c=a5 o){us:List aa}(rv:Vals xs us)(hl:xs.length<=ak)
  (hp:gx h' s.heap.objs.size us.toArray) (hq:Zm h' s.heap.objs.size):Inv X pins σ (upd H s.heap.objs.size (.tup xs)) { s with heap:=h' }:=by
 have hn:=I.fresh;have nz:∀{b:ae}{o:cF},s.heap.get? b=a5 o->b≠s.heap.objs.size:=λ{b o} e=>X7 (xn e);have tr:∀{b:ae}{u:HO},H b=a5 u->upd H s.heap.objs.size (.tup xs) b=a5 u:=λ{b u} e=>by rw[jd (J8 e hn)];exact e
 refine I.step (g':=s.gens) (t':=s.toks) (d':=s.drawn) (ch:=ch) (λb hb=>⟨(hf b hb).2.2.2.1,(hf b hb).2.1,(hf b hb).2.2.2.2.1,(hf b hb).2.2.2.2.2⟩) (λb o _ _ nc e _=>kp b o nc e) (λb o _ _ nc e _=>⟨o.slots,kp b o nc e⟩)
  (λb o _ e n=>by rw[jd (nz e)];exact n) (λb o nc e=>⟨o,kp b o nc e⟩) (λb xs e=>tr e) (λb o u e=>tr e) (λb ps e=>⟨#[],by rw[tr e];simp⟩) (λm hm=>hm.at' λo e=>kp _ o (λz=>(hf _ z).2.1 rfl) e) (λc o e=>?_) I.bare
 have out:∀{b:ae}{u:HO},H b=a5 u->b∉ch:=λ{b u} q z=>by rw[(hf b z).1]at q;cases q
 by_cases z:c=s.heap.objs.size
 .subst z;rw[jb]at e;cases e;exact⟨hl,us,rv,hp,hq⟩
 .rw[jd z]at e;refine jg.stay (I.hok c o e) (λb u hb q=>kp b u ?_ q) (λb q=>tr q) (λb xs q=>tr q) (λb _ _ q=>tr q);rcases hb with hb|hb
  .subst hb;exact out e
  .exact out hb
end
section
variable{X:Cx}{ρ:Rho}{a b:aj}{es:List aj}{n:Nat}{pos p q1 q2:aO}{ds ds':List D}{l1 l2:Bool}
noncomputable def D.seq(lst:Bool)(ds:List D):D:=if lst=a7 then .lst ds else .tup ds
theorem Zj{K:k83}{H:Hp}{lst:Bool}{v:V}(h:Enc K H (D.seq lst ds) v):∃t xs,v=.ref t/\SqB K lst H t xs/\j5 K H ds xs:=by
 unfold D.seq at h;unfold SqB;cases lst with
 |true=>rw[if_pos rfl]at h;obtain⟨t,xs,e,s,l⟩:=h;exact⟨t,xs,e,by rw[if_pos rfl];exact s,l⟩
 |false=>rw[if_neg xg]at h;obtain⟨t,xs,e,s,l⟩:=h;exact⟨t,xs,e,by rw[if_neg xg];exact s,l⟩
theorem DG.pair{x y:ah}(i j:Nat){d d':D}(hij:i≠j)(hN:X.N.Nodup)(hi:X.N[i]?=a5 x:=by rfl)(hj:X.N[j]?=a5 y:=by rfl)(hx:Loc X.env.scope x:=by first|exact aU rfl|exact bR rfl)(hy:Loc X.env.scope y:=by first|exact aU rfl|exact bR rfl)
  (fx:X.fn x=a7\/X.env.scope.names.lookup x=a5 .local:=by first|exact .inl rfl|exact .inr rfl) (fy:X.fn y=a7\/X.env.scope.names.lookup y=a5 .local:=by first|exact .inl rfl|exact .inr rfl) (hc:X.calm=a7:=by rfl)
  (hn:(bO [.Name x q1,.Name y q2] X.env).length=2:=by rfl) (hst:(bO [.Name x q1,.Name y q2] X.env).findIdx? (·.1)=a8:=by rfl)
  (e1:(bO [.Name x q1,.Name y q2] X.env).map (·.2)=eU (.Name x q1) X.env::(bO [.Name y q2] X.env).map (·.2):=by rfl) (e2:(bO [.Name y q2] X.env).map (·.2)=eU (.Name y q2) X.env::(bO [] X.env).map (·.2):=by rfl) :
  DG X ρ (.Tuple [.Name x q1,.Name y q2] n pos) (.tup [d,d']) ((ρ.set i (.val d)).set j (.val d')):=by
 refine⟨λb hb=>(je rfl).subset ((je rfl).subset hb),λσ H v Q R en q=>?_⟩;obtain⟨t,xs,ev,sq,u,r,e,eu,u',r',e',eu',er⟩:=en;subst e e' ev er;refine(jev hc (Iu (Rh hN hi hx fx) (Iu (Rh hN hj hy fy) jbr e2) e1) hn hst).to ⟨t,[u,u'],rfl,jo.seqT sq,rfl,u,[u'],rfl,u',[],rfl,rfl,?_⟩;refine q _ ?_;have R1:Rep X.K (ρ.set i (.val d)) (σ.set i (a5 u)) H:=R.set_val eu;exact R1.set_val (eu'.mono (vd λb hb=>(je rfl).subset hb))
end
noncomputable def D.ty:D->String
 |.non=>"NoneType"
 |.bl _=>"bool"
 |.int _=>"int"
 |.str _=>"str"
 |.tup _=>"tuple"
 |.lst _=>"list"
 |.dct _ _=>"dict"
 |.sct _=>"dict"
 |.fn _ _=>"function"
section
variable{X:Cx}{pins:k85}{σ:St}{H:Hp}{s:af}{A:aC}{E:k84}{Q:k84}{c:aa}{b:Bool}
theorem j5c {d:D} {v:V} {u:aa} (I:Inv X pins σ H s) (en:Enc X.K H d v) (r:RelV v u) (nf:d.ty ≠ "function"):∃P:aG->Prop,jB X.K u (.type d.ty) P/\P s.heap/\u≠.builtin "__main__.__loader__#opaque":=by
 cases d with
 |non=>cases(show v=.non from en);cases(show u=aI from r);exact⟨_,W.kitx_none,trivial,λz=>nomatch z⟩
 |bl k=>cases(show v=.bl k from en);cases(show u=bS k from r);exact⟨_,W.kitx_bool,trivial,λz=>nomatch z⟩
 |int k=>cases(show v=.int k from en);obtain⟨t,q⟩:=(show ∃t,u=bA k t from r);cases q;exact⟨_,W.kitx_int,trivial,λz=>nomatch z⟩
 |str k=>cases(show v=.str k from en);obtain⟨t,q⟩:=(show ∃t,u=bD k t from r);cases q;exact⟨_,W.kitx_str,trivial,λz=>nomatch z⟩
 |tup l =>obtain⟨a,xs,e,sq,_⟩:=en;subst e;cases(show u=aH a from r);obtain⟨its,_,⟨o,h1,h2,_⟩,_⟩:=I.tuple sq;exact⟨_,W.kitx_tuple,⟨o,h1,h2⟩,λz=>nomatch z⟩
 |lst l =>obtain⟨a,xs,e,sq,_⟩:=en;subst e;cases(show u=aH a from r);obtain⟨its,_,⟨o,n,h1,h2,_⟩,_⟩:=I.list sq;exact⟨_,W.kitx_list,⟨o,h1,h2⟩,λz=>nomatch z⟩
 |dct ks l =>
  obtain⟨a,xs,ep,vs,e,hx,_⟩:=en;subst e;cases(show u=aH a from r);obtain⟨_,_,_,o,es,h1,h2,_⟩:=(show jg X.prog X.w H s.heap a (.dI xs ep)from I.hok _ _ hx)
  exact⟨_,W.kitx_dict,⟨o,h1,h2.1⟩,λz=>nomatch z⟩
 |sct k =>
  obtain⟨a,e,hx⟩:=en;subst e;cases(show u=aH a from r);obtain⟨_,_,vs,_,o,es,ep,h1,h2,_⟩:=(show jg X.prog X.w H s.heap a (.dK (kvI k))from I.hok _ _ hx)
  exact⟨_,W.kitx_dict,⟨o,h1,h2.1⟩,λz=>nomatch z⟩
 |fn x l=>exact absurd rfl nf
theorem j69:J0 X (.builtin "isinstance") (λxs H Q=>∃v d c b,xs=[v,.ty c]/\Enc X.K H d v/\d.ty ≠ "function"/\W.kitOne X.K (.type d.ty) (.type c)=a5 b/\Q (.bl b) H):=by rintro pins s σ H xs us Q I r ⟨v,d,c,b,e,en,nf,k,q⟩;subst e;obtain⟨u,u',eu,r1,r2⟩:=vals2 r;subst eu;cases(show u'=bu c from r2);obtain⟨P,Z,hp,hn⟩:=j5c I en r1 nf;exact W.kia_one Z I.kIn hp k hn λtk=>⟨.bl b,H,I.tok tk,rfl,q⟩
theorem j68:J0 X (.builtin "isinstance") (λxs H Q=>∃(v:V)(t:ae)(d:D)(cs:List String)(b:Bool),xs=[v,.ref t]/\Enc X.K H d v/\d.ty ≠ "function"/\SqT X.K H t (cs.map V.ty)/\W.kitAny X.K (.type d.ty) (cs.map bu)=a5 b/\Q (.bl b) H):=by
 rintro pins s σ H xs us Q I r ⟨v,t,d,cs,b,e,en,nf,sq,k,q⟩;subst e;obtain⟨u,u',eu,r1,r2⟩:=vals2 r;subst eu;cases(show u'=aH t from r2);obtain⟨P,Z,hp,hn⟩:=j5c I en r1 nf;obtain⟨its,rv,⟨⟨cl,dd,da,sl⟩,h1,h2,n,h3⟩,_⟩:=I.tuple sq;have h2:cl=.type "tuple":=h2;have h3:da=.seq its.toArray n:=h3;subst h2 h3;have ei:∀{cs:List String}{its:List aa},Vals (cs.map V.ty) its->its=cs.map bu:=λ{cs}=>by
  induction cs with
  |nil=>intro its h;exact h.zero
  |cons c cs ih=>intro its h;cases h with|cons a b=>cases a;rw[ih b];rfl
 rw[ei rv]at h1;exact W.kia_tup Z I.kIn hp h1 k hn λtk=>⟨.bl b,H,I.tok tk,rfl,q⟩
end
section
variable{X:Cx}{ρ:Rho}{a b:aj}{d:D}{pos p p1 p2 p3:aO}{T T1 T2:ah}{c c1 c2:String}{k:Bool}{n:Nat}
theorem Ls (hg:Gl X T) (hm:X.mg T=a8) (hv:bj T=a5 (.type c)) (hn:T ≠ "__name__":=by decide) (hd:(T==k87)=a6:=by decide):PE X (.Name T p) (tC (.ty c)):=jbs hg hm hv rfl hn hd
theorem DE.isi1 (ha:DT X ρ a d) (nf:d.ty ≠ "function") (hm:X.mg "isinstance" = a8) (hT:X.mg T=a8) (hv:bj T=a5 (.type c)) (hk:W.kitOne X.K (.type d.ty) (.type c)=a5 k) (hg:Gl X "isinstance":=by rfl) (hg2:Gl X T:=by rfl)
  (hn:T ≠ "__name__":=by decide) (hd:(T==k87)=a6:=by decide)
  (hs:a9 [a,.Name T p2] X.env=(a6,aE a X.env)::a9 [.Name T p2] X.env:=by rfl) (hs2:a9 [.Name T p2] X.env=(a6,aE (.Name T p2) X.env)::a9 [] X.env:=by rfl) (hpl:(aR pos (a9 [.Name T p2] X.env)).any (·.1)=a6:=by rfl) :
  DE X ρ (.Call (.Name "isinstance" p) [a,.Name T p2] [] pos) (.bl k):=λσ H Q R q =>
 (zf j69 hg hm d7 (j9 peS (j9 (Ls hg2 hT hv hn hd) jm hs2) hs) (by decide) (by decide) hs hpl).to (ha σ H _ R λv H1 g1 e1=>⟨v,d,c,k,rfl,e1,nf,hk,q _ H1 g1 rfl⟩)
theorem DE.isi2 {m:Nat} (ha:DT X ρ a d) (nf:d.ty ≠ "function") (hm:X.mg "isinstance" = a8) (hT1:X.mg T1=a8) (hT2:X.mg T2=a8) (hv1:bj T1=a5 (.type c1)) (hv2:bj T2=a5 (.type c2))
  (hk:W.kitAny X.K (.type d.ty) [.type c1,.type c2]=a5 k) (hg:Gl X "isinstance":=by rfl) (hg1:Gl X T1:=by rfl) (hg2:Gl X T2:=by rfl)
  (hn1:T1 ≠ "__name__":=by decide) (hd1:(T1==k87)=a6:=by decide) (hn2:T2 ≠ "__name__":=by decide) (hd2:(T2==k87)=a6:=by decide)
  (hs:a9 [a,.Tuple [.Name T1 p1,.Name T2 p2] m p3] X.env=(a6,aE a X.env)::a9 [.Tuple [.Name T1 p1,.Name T2 p2] m p3] X.env:=by rfl)
  (hs2:a9 [.Tuple [.Name T1 p1,.Name T2 p2] m p3] X.env=(a6,aE (.Tuple [.Name T1 p1,.Name T2 p2] m p3) X.env)::a9 [] X.env:=by rfl) (hpl:(aR pos (a9 [.Tuple [.Name T1 p1,.Name T2 p2] m p3] X.env)).any (·.1)=a6:=by rfl)
  (hs3:a9 [.Name T1 p1,.Name T2 p2] X.env=(a6,aE (.Name T1 p1) X.env)::a9 [.Name T2 p2] X.env:=by rfl) (hs4:a9 [.Name T2 p2] X.env=(a6,aE (.Name T2 p2) X.env)::a9 [] X.env:=by rfl) :
  DE X ρ (.Call (.Name "isinstance" p) [a,.Tuple [.Name T1 p1,.Name T2 p2] m p3] [] pos) (.bl k):=λσ H Q R q =>
 (zf j68 hg hm d7 (j9 peS (j9 (Iv (j9 (Ls hg1 hT1 hv1 hn1 hd1) (j9 (Ls hg2 hT2 hv2 hn2 hd2) jm hs4) hs3)) jm hs2) hs) (by decide) (by decide) hs hpl).to
  (ha σ H _ R λv H1 g1 e1=>⟨by show 2<=ak;decide,λt ht=>⟨v,t,d,[c1,c2],k,rfl,e1.mono (j8 ht),nf,.inl (.inl jb),hk,q _ _ (g1.trans (j8 ht)) rfl⟩⟩)
end
mutual
noncomputable def deq:D->D->Bool
 |.non,.non=>a7
 |.bl a,.bl b=>a==b
 |.bl a,.int b=>(if a then 1 else 0)==b
 |.int a,.bl b=>a==(if b then 1 else 0)
 |.int a,.int b=>a==b
 |.str a,.str b=>a==b
 |.tup xs,.tup ys=>zb xs ys
 |.lst xs,.lst ys=>zb xs ys
 |.dct k xs,.dct m ys=>decide (k=m)&&zb xs ys
 |.sct k,.sct m=>decide (k=m)
 |_,_=>a6
noncomputable def zb:List D->List D->Bool
 |[],[]=>a7
 |x::xs,y::ys=>deq x y&&zb xs ys
 |_,_=>a6
end
theorem jh4{a b:Bool}:deq (.bl a) (.bl b)=(a==b):=(rfl)
theorem jh3{a b:Int}:deq (.int a) (.int b)=(a==b):=(rfl)
theorem By{a b:ah}:deq (.str a) (.str b)=(a==b):=(rfl)
theorem j02{a b:List D}:deq (.tup a) (.tup b)=zb a b:=(rfl)
theorem j03{a b:List D}:deq (.lst a) (.lst b)=zb a b:=(rfl)
theorem Vn:zb [] []=a7:=(rfl)
theorem Qs{x y:D}{xs ys:List D}:zb (x::xs) (y::ys)=(deq x y&&zb xs ys):=(rfl)
theorem Ru{y:D}{ys:List D}:zb [] (y::ys)=a6:=(rfl)
theorem Rv{x:D}{xs:List D}:zb (x::xs) []=a6:=(rfl)
mutual
noncomputable def D.dep:D->Nat
 |.tup xs=>D.depL xs+1
 |.lst xs=>D.depL xs+1
 |.dct _ _=>20000
 |.sct _=>20000
 |.fn _ _=>20000
 |_=>0
noncomputable def D.depL:List D->Nat
 |[]=>0
 |x::xs=>max x.dep (D.depL xs)
end
mutual
theorem O8:∀d:D,d.dep<10000->deq d d=a7
 |.non,_=>rfl
 |.bl b,_=>by rw[jh4];simp
 |.int i,_=>by rw[jh3];simp
 |.str x,_=>by rw[By];simp
 |.tup xs,h=>by rw[j02];exact Wn xs (by simp only[D.dep]at h;omega)
 |.lst xs,h=>by rw[j03];exact Wn xs (by simp only[D.dep]at h;omega)
 |.dct _ _,h=>by simp[D.dep]at h
 |.sct _,h=>by simp[D.dep]at h
 |.fn _ _,h=>by simp[D.dep]at h
theorem Wn:∀ds:List D,D.depL ds<10000->zb ds ds=a7
 |[],_=>rfl
 |d::ds,h=>by rw[D.depL]at h;rw[Qs,O8 d nofun,Wn ds nofun];rfl
end
theorem Vo:∀{xs ys:List D},xs.length≠ys.length->zb xs ys=a6
 |[],[],h=>absurd rfl h
 |[],_::_,_=>by simp[Vn,Qs,Ru,Rv]
 |_::_,[],_=>by simp[Vn,Qs,Ru,Rv]
 |x::xs,y::ys,h=>by have:=Vo (xs:=xs) (ys:=ys) (by simpa using h);simp[Vn,Qs,Ru,Rv,this]
theorem Z6{f:Nat->Bool}:∀{xs ys:List D},xs.length=ys.length->(∀(j:Nat) x y,xs[j]?=a5 x->ys[j]?=a5 y->f j=deq x y)->(aB xs.length).all f=zb xs ys
 |[],[],_,_=>by simp[Vn,Qs,Ru,Rv]
 |[],_::_,h,_=>by simp at h
 |_::_,[],h,_=>by simp at h
 |x::xs,y::ys,h,hf=>by have ih:=Z6 (f:=λj=>f (j+1)) (xs:=xs) (ys:=ys) (by simpa using h) (λj a b ha hb=>hf (j+1) a b (by simpa using ha) (by simpa using hb));rw[X4,dM,eN,hf 0 x y rfl rfl,gR];simp only[Qs];rw[<-ih];rfl
section
variable{X:Cx}{pins:k85}{σ:St}{H:Hp}{s:af}
theorem Iw(I:Inv X pins σ H s){a:ae}{xs ys:List V}(h:SqT X.K H a xs)(h':SqL X.K H a ys):False:=by obtain⟨_,_,⟨o,h1,h2,_⟩,_⟩:=I.tuple h;obtain⟨_,_,⟨o',n,h1',h2',_⟩,_⟩:=I.list h';rw[h1]at h1';cases h1';rw[h2]at h2';injection h2' with e;exact absurd e (by decide)
noncomputable def D.atom:D->Option V
 |.non=>a5 .non
 |.bl b=>a5 (.bl b)
 |.int i=>a5 (.int i)
 |.str x=>a5 (.str x)
 |_=>a8
theorem Enc.at_{K:k83}{d:D}{v u:V}(h:Enc K H d v)(e:d.atom=a5 u):v=u:=by
 cases d with
 |non=>cases e;exact(show v=.non from h)
 |bl b=>cases e;exact(show v=.bl b from h)
 |int i=>cases e;exact(show v=.int i from h)
 |str x=>cases e;exact(show v=.str x from h)
 |_=>cases e
theorem Enc.ref{K:k83}{d:D}{v:V}(h:Enc K H d v)(e:d.atom=a8):∃a,v=.ref a:=by
 cases d with
 |tup l=>obtain⟨a,_,e,_⟩:=h;exact⟨a,e⟩
 |lst l=>obtain⟨a,_,e,_⟩:=h;exact⟨a,e⟩
 |dct k l=>obtain⟨a,_,_,_,e,_⟩:=h;exact⟨a,e⟩
 |sct k=>obtain⟨a,e,_⟩:=h;exact⟨a,e⟩
 |fn x l=>obtain⟨a,_,_,_,_,e,_⟩:=h;exact⟨a,e⟩
 |_=>cases e
theorem j9f{d d':D}{u:V}(h:d.atom=a5 u)(h':d'.atom=a5 u):d=d':=by cases d<;>cases d'<;>first|(cases h;done)|(cases h';done)|(cases h;cases h';rfl)|(cases h;cases h')
theorem j0i{d:D}{a:ae}(h:d.atom=a5 (.ref a)):False:=by cases d<;>cases h
theorem jg9(I:Inv X pins σ H s){d d':D}{v:V}(hd:d.dep<10000)(hd':d'.dep<10000)(h:Enc X.K H d v)(h':Enc X.K H d' v) :
  d=d'\/∃ds ds' xs,((d=.tup ds/\d'=.tup ds')\/(d=.lst ds/\d'=.lst ds'))/\j5 X.K H ds xs/\j5 X.K H ds' xs:=by
 cases e:d.atom with
 |some u =>
  have ev:=h.at_ e;subst ev;cases e':d'.atom with
  |some u'=>exact .inl (j9f e ((h'.at_ e')▸e'))
  |none=>obtain⟨a,ea⟩:=h'.ref e';subst ea;exact(j0i e).elim
 |none =>
  cases e':d'.atom with
  |some u'=>have ev:=h'.at_ e';subst ev;obtain⟨a,ea⟩:=h.ref e;subst ea;exact(j0i e').elim
  |none =>
   cases d with
   |tup ds =>
    obtain⟨a,xs,ea,sq,l⟩:=h;cases d' with
    |tup ds' =>obtain⟨a',ys,eb,sq',l'⟩:=h';rw[ea]at eb;cases eb;rw[I.tuple_inj sq' sq]at l';exact .inr ⟨ds,ds',xs,.inl ⟨rfl,rfl⟩,l,l'⟩
    |lst ds'=>obtain⟨a',ys,eb,sq',l'⟩:=h';rw[ea]at eb;cases eb;exact(Iw I sq sq').elim
    |dct _ _=>simp[D.dep]at hd'
    |sct _=>simp[D.dep]at hd'
    |fn _ _=>simp[D.dep]at hd'
    |_=>cases e'
   |lst ds =>
    obtain⟨a,xs,ea,sq,l⟩:=h;cases d' with
    |lst ds' =>obtain⟨a',ys,eb,sq',l'⟩:=h';rw[ea]at eb;cases eb;rw[I.list_inj sq' sq]at l';exact .inr ⟨ds,ds',xs,.inr ⟨rfl,rfl⟩,l,l'⟩
    |tup ds'=>obtain⟨a',ys,eb,sq',l'⟩:=h';rw[ea]at eb;cases eb;exact(Iw I sq' sq).elim
    |dct _ _=>simp[D.dep]at hd'
    |sct _=>simp[D.dep]at hd'
    |fn _ _=>simp[D.dep]at hd'
    |_=>cases e'
   |dct _ _=>simp[D.dep]at hd
   |sct _=>simp[D.dep]at hd
   |fn _ _=>simp[D.dep]at hd
   |_=>cases e
theorem j8c{n:Nat}(ih:∀{d d':D}{v:V},d.dep<=n->d.dep<10000->d'.dep<10000->Enc X.K H d v->Enc X.K H d' v->d=d'):∀{ds ds':List D}{xs:List V},D.depL ds<=n->D.depL ds<10000->D.depL ds'<10000->j5 X.K H ds xs->j5 X.K H ds' xs->ds=ds'
 |[],[],_,_,_,_,_,_=>rfl
 |[],_::_,_,_,_,_,h,⟨x,r,e,_⟩=>by cases h;cases e
 |_::_,[],_,_,_,_,⟨x,r,e,_⟩,h=>by cases h;cases e
 |d::ds,d'::ds',_,m,n1,n2,⟨x,r,e,h,l⟩,⟨x',r',e',h',l'⟩=>by subst e;cases e';rw[D.depL]at m n1 n2;rw[ih nofun nofun nofun h h',j8c ih nofun nofun nofun l l']
theorem j8b(I:Inv X pins σ H s):∀(n:Nat){d d':D}{v:V},d.dep<=n->d.dep<10000->d'.dep<10000->Enc X.K H d v->Enc X.K H d' v->d=d'
 |0,d,d',v,hn,hd,hd',h,h'=>by
  rcases jg9 I hd hd' h h' with e|⟨ds,ds',xs,⟨e,_⟩|⟨e,_⟩,_⟩
  .exact e
  .subst e;simp[D.dep]at hn
  .subst e;simp[D.dep]at hn
 |n+1,d,d',v,hn,hd,hd',h,h'=>by
  rcases jg9 I hd hd' h h' with e|⟨ds,ds',xs,⟨e,e'⟩|⟨e,e'⟩,l,l'⟩
  .exact e
  .subst e e';simp only[D.dep]at hn hd hd';rw[j8c (λa b c=>j8b I n a b c) nofun nofun nofun l l']
  .subst e e';simp only[D.dep]at hn hd hd';rw[j8c (λa b c=>j8b I n a b c) nofun nofun nofun l l']
theorem Enc.inj(I:Inv X pins σ H s){d d':D}{v:V}(hd:d.dep<10000)(hd':d'.dep<10000)(h:Enc X.K H d v)(h':Enc X.K H d' v):d=d':=j8b I d.dep (X5 _) hd hd' h h'
end
section
variable{X:Cx}{pins:k85}{σ:St}{H:Hp}{s:af}
theorem D.depL_le:∀{ds:List D}{j:Nat}{d:D},ds[j]?=a5 d->d.dep<=D.depL ds
 |[],_,_,h=>by simp at h
 |x::xs,0,d,h=>by simp at h;subst h;simp[D.depL];omega
 |x::xs,j+1,d,h=>by have:=D.depL_le (ds:=xs) (j:=j) (d:=d) (by simpa using h);simp[D.depL];omega
theorem Va(I:Inv X pins σ H s):∀(n:Nat)(A:aC){d d':D}{v v':V}{u u':aa},d.dep<=n->A.units+n<bg->d'.dep<10000->Enc X.K H d v->RelV v u->Enc X.K H d' v'->RelV v' u' ->
  fR A s u u' (deq d d')/\cV A s u u' (deq d d')
 |0,A,d,d',v,v',u,u',hn,hu,nd,en,r,en',r'=>by
  have hu0:A.units<bg:=by omega
  cases d with
  |tup l=>simp[D.dep]at hn
  |lst l=>simp[D.dep]at hn
  |dct ks l=>simp[D.dep]at hn
  |sct k=>simp[D.dep]at hn
  |fn x l=>simp[D.dep]at hn
  |non =>
   cases(show v=.non from en);cases(show u=aI from r);cases d' with
   |dct ks' l'=>simp[D.dep]at nd
   |sct k'=>simp[D.dep]at nd
   |fn x' l'=>simp[D.dep]at nd
   |non=>cases(show v'=.non from en');cases(show u'=aI from r');exact⟨.none_none,.same _⟩
   |bl k=>cases(show v'=.bl k from en');cases(show u'=bS k from r');exact⟨.none_bool _,.none_bool _⟩
   |int k=>cases(show v'=.int k from en');obtain⟨t,q⟩:=(show ∃t,u'=bA k t from r');subst q;exact⟨.none_int _ _,.none_int _ _⟩
   |str k=>cases(show v'=.str k from en');obtain⟨t,q⟩:=(show ∃t,u'=bD k t from r');subst q;exact⟨.none_str _ _,.none_str _ _⟩
   |tup l=>obtain⟨a,xs,e,sq,_⟩:=en';subst e;cases(show u'=aH a from r');obtain⟨_,_,q,_⟩:=I.tuple sq;exact⟨.none_tuple q hu0,.none_tuple q hu0⟩
   |lst l=>obtain⟨a,xs,e,sq,_⟩:=en';subst e;cases(show u'=aH a from r');obtain⟨_,_,q,_⟩:=I.list sq;exact⟨.none_list q.isList hu0,.none_list q.isList hu0⟩
  |bl b =>
   cases(show v=.bl b from en);cases(show u=bS b from r);cases d' with
   |dct ks' l'=>simp[D.dep]at nd
   |sct k'=>simp[D.dep]at nd
   |fn x' l'=>simp[D.dep]at nd
   |non=>cases(show v'=.non from en');cases(show u'=aI from r');exact⟨.bool_none _,.bool_none _⟩
   |bl k=>cases(show v'=.bl k from en');cases(show u'=bS k from r');exact⟨.bool_bool _ _,.bool_bool _ _⟩
   |int k=>cases(show v'=.int k from en');obtain⟨t,q⟩:=(show ∃t,u'=bA k t from r');subst q;exact⟨.bool_int _ _ _,.bool_int _ _ _⟩
   |str k=>cases(show v'=.str k from en');obtain⟨t,q⟩:=(show ∃t,u'=bD k t from r');subst q;exact⟨.bool_str _ _ _,.bool_str _ _ _⟩
   |tup l=>obtain⟨a,xs,e,sq,_⟩:=en';subst e;cases(show u'=aH a from r');obtain⟨_,_,q,_⟩:=I.tuple sq;exact⟨.bool_tuple _ q hu0,.bool_tuple _ q hu0⟩
   |lst l=>obtain⟨a,xs,e,sq,_⟩:=en';subst e;cases(show u'=aH a from r');obtain⟨_,_,q,_⟩:=I.list sq;exact⟨.bool_list _ q.isList hu0,.bool_list _ q.isList hu0⟩
  |int b =>
   cases(show v=.int b from en);obtain⟨tk,q0⟩:=(show ∃t,u=bA b t from r);subst q0;cases d' with
   |dct ks' l'=>simp[D.dep]at nd
   |sct k'=>simp[D.dep]at nd
   |fn x' l'=>simp[D.dep]at nd
   |non=>cases(show v'=.non from en');cases(show u'=aI from r');exact⟨.int_none _ _,.int_none _ _⟩
   |bl k=>cases(show v'=.bl k from en');cases(show u'=bS k from r');exact⟨.int_bool _ _ _,.int_bool _ _ _⟩
   |int k=>cases(show v'=.int k from en');obtain⟨t,q⟩:=(show ∃t,u'=bA k t from r');subst q;exact⟨.int_int _ _ _ _,.int_int _ _ _ _⟩
   |str k=>cases(show v'=.str k from en');obtain⟨t,q⟩:=(show ∃t,u'=bD k t from r');subst q;exact⟨.int_str _ _ _ _,.int_str _ _ _ _⟩
   |tup l=>obtain⟨a,xs,e,sq,_⟩:=en';subst e;cases(show u'=aH a from r');obtain⟨_,_,q,_⟩:=I.tuple sq;exact⟨.int_tuple _ _ q hu0,.int_tuple _ _ q hu0⟩
   |lst l=>obtain⟨a,xs,e,sq,_⟩:=en';subst e;cases(show u'=aH a from r');obtain⟨_,_,q,_⟩:=I.list sq;exact⟨.int_list _ _ q.isList hu0,.int_list _ _ q.isList hu0⟩
  |str b =>
   cases(show v=.str b from en);obtain⟨tk,q0⟩:=(show ∃t,u=bD b t from r);subst q0;cases d' with
   |dct ks' l'=>simp[D.dep]at nd
   |sct k'=>simp[D.dep]at nd
   |fn x' l'=>simp[D.dep]at nd
   |non=>cases(show v'=.non from en');cases(show u'=aI from r');exact⟨.str_none _ _,.str_none _ _⟩
   |bl k=>cases(show v'=.bl k from en');cases(show u'=bS k from r');exact⟨.str_bool _ _ _,.str_bool _ _ _⟩
   |int k=>cases(show v'=.int k from en');obtain⟨t,q⟩:=(show ∃t,u'=bA k t from r');subst q;exact⟨.str_int _ _ _ _,.str_int _ _ _ _⟩
   |str k=>cases(show v'=.str k from en');obtain⟨t,q⟩:=(show ∃t,u'=bD k t from r');subst q;exact⟨.str_str _ _ _ _,.str_str _ _ _ _⟩
   |tup l=>obtain⟨a,xs,e,sq,_⟩:=en';subst e;cases(show u'=aH a from r');obtain⟨_,_,q,_⟩:=I.tuple sq;exact⟨.str_tuple _ _ q hu0,.str_tuple _ _ q hu0⟩
   |lst l=>obtain⟨a,xs,e,sq,_⟩:=en';subst e;cases(show u'=aH a from r');obtain⟨_,_,q,_⟩:=I.list sq;exact⟨.str_list _ _ q.isList hu0,.str_list _ _ q.isList hu0⟩
 |n+1,A,d,d',v,v',u,u',hn,hu,nd,en,r,en',r'=>by
  have hu0:A.units<bg:=by omega
  have hu1:A.in1.units+n<bg:=by show A.units+1+n<bg;omega
  have low:d.dep<=n->fR A s u u' (deq d d')/\cV A s u u' (deq d d'):=λh=>Va I n A h nofun nd en r en' r';cases d with
  |non=>exact low (by simp[D.dep])
  |bl b=>exact low (by simp[D.dep])
  |int b=>exact low (by simp[D.dep])
  |str b=>exact low (by simp[D.dep])
  |dct ks l=>exfalso;have:(9900:Nat)=bg:=rfl;simp only[D.dep]at hn;omega
  |sct k=>exfalso;have:(9900:Nat)=bg:=rfl;simp only[D.dep]at hn;omega
  |fn x l=>exfalso;have:(9900:Nat)=bg:=rfl;simp only[D.dep]at hn;omega
  |tup ds =>
   have hd:D.depL ds<=n:=by simp[D.dep]at hn;omega
   obtain⟨a,xs,e,sq,l⟩:=id en;subst e;cases(show u=aH a from r);obtain⟨us,rv,q,_⟩:=I.tuple sq;cases d' with
   |dct ks' l'=>simp[D.dep]at nd
   |sct k'=>simp[D.dep]at nd
   |fn x' l'=>simp[D.dep]at nd
   |non=>cases(show v'=.non from en');cases(show u'=aI from r');exact⟨.tuple_none q hu0,.tuple_none q hu0⟩
   |bl k=>cases(show v'=.bl k from en');cases(show u'=bS k from r');exact⟨.tuple_bool _ q hu0,.tuple_bool _ q hu0⟩
   |int k=>cases(show v'=.int k from en');obtain⟨t,q'⟩:=(show ∃t,u'=bA k t from r');subst q';exact⟨.tuple_int _ _ q hu0,.tuple_int _ _ q hu0⟩
   |str k=>cases(show v'=.str k from en');obtain⟨t,q'⟩:=(show ∃t,u'=bD k t from r');subst q';exact⟨.tuple_str _ _ q hu0,.tuple_str _ _ q hu0⟩
   |lst ds'=>obtain⟨a',ys,e,sq',_⟩:=en';subst e;cases(show u'=aH a' from r');obtain⟨_,_,q',_⟩:=I.list sq';exact⟨.tuple_list q q'.isList hu0,.tuple_list q q'.isList hu0⟩
   |tup ds' =>
    obtain⟨a',ys,e,sq',l'⟩:=id en';subst e;cases(show u'=aH a' from r');obtain⟨us',rv',q',_⟩:=I.tuple sq';have e1:us.length=ds.length:=by rw[<-rv.length,l.length]
    have e2:us'.length=ds'.length:=by rw[<-rv'.length,l'.length]
    have main:fR A s (.ref a) (.ref a') (deq (.tup ds) (.tup ds')):=by
     have item:∀(j:Nat)(h1:j<us.toArray.size)(h2:j<us'.toArray.size),cV A.in1 s us.toArray[j] us'.toArray[j] (deq (ds.getD j .non) (ds'.getD j .non)):=λj h1 h2=>by
      have k1:j<ds.length:=by rw[<-e1];simpa using h1
      have k2:j<ds'.length:=by rw[<-e2];simpa using h2
      obtain⟨x,hx,ex⟩:=l.get (kh k1);obtain⟨y,hy,ey⟩:=l'.get (kh k2);obtain⟨w1,hw1,rw1⟩:=rv.get hx;obtain⟨w2,hw2,rw2⟩:=rv'.get hy;have g1:us.toArray[j]=w1:=by simp at h1 ⊢;rw[kh (by simpa using h1)]at hw1;exact aw hw1
      have g2:us'.toArray[j]=w2:=by simp at h2 ⊢;rw[kh (by simpa using h2)]at hw2;exact aw hw2
      rw[g1,g2,kj,kj,kh k1,kh k2];exact(Va I n A.in1 (Xd (D.depL_le (kh k1)) hd) hu1 (d8 (D.depL_le (kh k2)) (by simp only[D.dep]at nd;omega)) ex rw1 ey rw2).2
     have z:=SeqAt.RcAt.tuples (A:=A) (s:=s) q q' hu0 (e:=λj=>deq (ds.getD j .non) (ds'.getD j .non)) item;have ev:((aB (min us.toArray.size us'.toArray.size)).all (λj=>deq (ds.getD j .non) (ds'.getD j .non))&&us.toArray.size==us'.toArray.size)=deq (.tup ds) (.tup ds'):=by
      simp only[j02,xr,e1,e2];by_cases hl:ds.length=ds'.length
      .rw[hl,kZ,beq_self_eq_true,gB,<-hl];exact Z6 hl λj x y hx hy=>by rw[kj,kj,hx,hy];rfl
      .rw[Vo hl,beq_false_of_ne hl,gf]
     rw[ev]at z;exact z
    refine⟨main,?_⟩;by_cases ea:a=a'
    .subst ea;have e9:(9900:Nat)=bg:=rfl;rw[Enc.inj I nofun nd en en',O8 _ nd];exact .same _
    .exact .of_refs ea main
  |lst ds =>
   have hd:D.depL ds<=n:=by simp[D.dep]at hn;omega
   obtain⟨a,xs,e,sq,l⟩:=id en;subst e;cases(show u=aH a from r);obtain⟨us,rv,q0,_⟩:=I.list sq;have q:=q0.isList;cases d' with
   |dct ks' l'=>simp[D.dep]at nd
   |sct k'=>simp[D.dep]at nd
   |fn x' l'=>simp[D.dep]at nd
   |non=>cases(show v'=.non from en');cases(show u'=aI from r');exact⟨.list_none q hu0,.list_none q hu0⟩
   |bl k=>cases(show v'=.bl k from en');cases(show u'=bS k from r');exact⟨.list_bool _ q hu0,.list_bool _ q hu0⟩
   |int k=>cases(show v'=.int k from en');obtain⟨t,q'⟩:=(show ∃t,u'=bA k t from r');subst q';exact⟨.list_int _ _ q hu0,.list_int _ _ q hu0⟩
   |str k=>cases(show v'=.str k from en');obtain⟨t,q'⟩:=(show ∃t,u'=bD k t from r');subst q';exact⟨.list_str _ _ q hu0,.list_str _ _ q hu0⟩
   |tup ds'=>obtain⟨a',ys,e,sq',_⟩:=en';subst e;cases(show u'=aH a' from r');obtain⟨_,_,q',_⟩:=I.tuple sq';exact⟨.list_tuple q q' hu0,.list_tuple q q' hu0⟩
   |lst ds' =>
    obtain⟨a',ys,e,sq',l'⟩:=id en';subst e;cases(show u'=aH a' from r');obtain⟨us',rv',q0',_⟩:=I.list sq';have q':=q0'.isList;have e1:us.length=ds.length:=by rw[<-rv.length,l.length]
    have e2:us'.length=ds'.length:=by rw[<-rv'.length,l'.length]
    have main:fR A s (.ref a) (.ref a') (deq (.lst ds) (.lst ds')):=by
     have item:∀(j:Nat)(h1:j<us.toArray.size)(h2:j<us'.toArray.size),cV A.in1 s us.toArray[j] us'.toArray[j] (deq (ds.getD j .non) (ds'.getD j .non)):=λj h1 h2=>by
      have k1:j<ds.length:=by rw[<-e1];simpa using h1
      have k2:j<ds'.length:=by rw[<-e2];simpa using h2
      obtain⟨x,hx,ex⟩:=l.get (kh k1);obtain⟨y,hy,ey⟩:=l'.get (kh k2);obtain⟨w1,hw1,rw1⟩:=rv.get hx;obtain⟨w2,hw2,rw2⟩:=rv'.get hy;have g1:us.toArray[j]=w1:=by simp at h1 ⊢;rw[kh (by simpa using h1)]at hw1;exact aw hw1
      have g2:us'.toArray[j]=w2:=by simp at h2 ⊢;rw[kh (by simpa using h2)]at hw2;exact aw hw2
      rw[g1,g2,kj,kj,kh k1,kh k2];exact(Va I n A.in1 (Xd (D.depL_le (kh k1)) hd) hu1 (d8 (D.depL_le (kh k2)) (by simp only[D.dep]at nd;omega)) ex rw1 ey rw2).2
     simp only[j03];by_cases hl:ds.length=ds'.length
     .have z:=SeqAt.RcAt.lists (A:=A) (s:=s) q q' (by simp[e1,e2,hl]) hu0 (e:=λj=>deq (ds.getD j .non) (ds'.getD j .non)) item;have ev:(aB us.toArray.size).all (λj=>deq (ds.getD j .non) (ds'.getD j .non))=zb ds ds':=by rw[xr,e1];exact Z6 hl λj x y hx hy=>by rw[kj,kj,hx,hy];rfl
      rw[ev]at z;exact z
     .rw[Vo hl];exact .lists_lengths q q' (by simp[e1,e2,hl]) hu0
    refine⟨main,?_⟩;by_cases ea:a=a'
    .subst ea;have e9:(9900:Nat)=bg:=rfl;rw[Enc.inj I nofun nd en en',O8 _ nd];exact .same _
    .exact .of_refs ea main
end
section
variable{X:Cx}{pins:k85}{σ:St}{H:Hp}{s:af}{A:aC}
theorem j7x(I:Inv X pins σ H s){n:Nat}{ds ds':List D}{xs ys:List V}{us us':List aa}(l:j5 X.K H ds xs)(rv:Vals xs us)(l':j5 X.K H ds' ys)(rv':Vals ys us')(hd:D.depL ds<=n)(hu:A.units+1+n<bg)(nd:D.depL ds'<10000) :
  ∀(j:Nat)(h1:j<us.toArray.size)(h2:j<us'.toArray.size),cV A.in1 s us.toArray[j] us'.toArray[j] (deq (ds.getD j .non) (ds'.getD j .non)):=λj h1 h2=>by
 have k1:j<ds.length:=by rw[<-l.length,rv.length];simpa using h1
 have k2:j<ds'.length:=by rw[<-l'.length,rv'.length];simpa using h2
 obtain⟨x,hx,ex⟩:=l.get (kh k1);obtain⟨y,hy,ey⟩:=l'.get (kh k2);obtain⟨w1,hw1,rw1⟩:=rv.get hx;obtain⟨w2,hw2,rw2⟩:=rv'.get hy;have g1:us.toArray[j]=w1:=by simp at h1 ⊢;rw[kh (by simpa using h1)]at hw1;exact aw hw1
 have g2:us'.toArray[j]=w2:=by simp at h2 ⊢;rw[kh (by simpa using h2)]at hw2;exact aw hw2
 rw[g1,g2,kj,kj,kh k1,kh k2];exact(Va I n A.in1 (Xd (D.depL_le (kh k1)) hd) hu (d8 (D.depL_le (kh k2)) nd) ex rw1 ey rw2).2
theorem j4x(hu:X.A.units+100<bg):OpR X (bp .Eq) (λx y H Q=>∃d d',Enc X.K H d x/\Enc X.K H d' y/\d.dep<=100/\d'.dep<10000/\Q (.bl (deq d d')) H):=by rintro pins s σ H x y v u Q I rx ry ⟨d,d',en,en',hd,nd,q⟩;exact(Va I 100 X.A hd hu nd en rx en' ry).1 X.prog X.w X.xe _ ⟨.bl (deq d d'),H,I,rfl,q⟩
theorem j4v(hu:X.A.units+100<bg):OpR X (bp .NotEq) (λx y H Q=>∃ds ds' k,Enc X.K H (D.seq k ds) x/\Enc X.K H (D.seq k ds') y/\D.depL ds<=98/\D.depL ds'<10000/\Q (.bl (!zb ds ds')) H):=by
 rintro pins s σ H x y v u Q I rx ry ⟨ds,ds',k,en,en',hd,nd,q⟩;have h0:X.A.units<bg:=by omega
 obtain⟨t,xs,e,sq,l⟩:=Zj en;obtain⟨t',ys,e',sq',l'⟩:=Zj en';subst e e';cases rx;cases ry;obtain⟨us,rv,qs,_⟩:=I.side sq;obtain⟨us',rv',qs',_⟩:=I.side sq';have e1:us.length=ds.length:=by rw[<-rv.length,l.length]
 have e2:us'.length=ds'.length:=by rw[<-rv'.length,l'.length]
 have item:=j7x (A:=X.A) I l rv l' rv' hd nofun nd;unfold qx at qs qs';cases k with
 |true =>
  rw[if_pos rfl]at qs qs';by_cases hl:ds.length=ds'.length
  .have z:=SeqAt.RcNeAt.lists (A:=X.A) (s:=s) qs qs' (by simp[e1,e2,hl]) h0 (e:=λj=>deq (ds.getD j .non) (ds'.getD j .non)) item;have ev:(aB us.toArray.size).all (λj=>deq (ds.getD j .non) (ds'.getD j .non))=zb ds ds':=by rw[xr,e1];exact Z6 hl λj x y hx hy=>by rw[kj,kj,hx,hy];rfl
   rw[ev]at z;exact z X.prog X.w X.xe _ ⟨.bl (!zb ds ds'),H,I,rfl,q⟩
  .have z:=SeqAt.RcNeAt.lists_lengths (A:=X.A) (s:=s) qs qs' (by simp[e1,e2,hl]) h0;rw[Vo hl]at q;exact z X.prog X.w X.xe _ ⟨.bl a7,H,I,rfl,q⟩
 |false =>
  rw[if_neg xg]at qs qs';have z:=SeqAt.RcNeAt.tuples (A:=X.A) (s:=s) qs qs' h0 (e:=λj=>deq (ds.getD j .non) (ds'.getD j .non)) item;have ev:((aB (min us.toArray.size us'.toArray.size)).all (λj=>deq (ds.getD j .non) (ds'.getD j .non))&&us.toArray.size==us'.toArray.size)=zb ds ds':=by
   simp only[xr,e1,e2];by_cases hl:ds.length=ds'.length
   .rw[hl,kZ,beq_self_eq_true,gB,<-hl];exact Z6 hl λj x y hx hy=>by rw[kj,kj,hx,hy];rfl
   .rw[Vo hl,beq_false_of_ne hl,gf]
  rw[ev]at z;exact z X.prog X.w X.xe _ ⟨.bl (!zb ds ds'),H,I,rfl,q⟩
noncomputable def eqW(X:Cx)(H:Hp)(d:D)(y:aa):Bool:=@decide (∃e v,e.dep<10000/\Enc X.K H e v/\RelV v y/\deq e d=a7) (d9 _)
theorem Bx(I:Inv X pins σ H s){d e:D}{v:V}{y:aa}(he:e.dep<10000)(en:Enc X.K H e v)(r:RelV v y):eqW X H d y=deq e d:=by
 unfold eqW;cases h:deq e d with
 |true=>exact @decide_eq_true _ (d9 _) ⟨e,v,he,en,r,h⟩
 |false =>refine @decide_eq_false _ (d9 _) λ⟨e',v',he',en',r',h'⟩=>?_;rw[r'.inj r]at en';rw[Enc.inj I he' he en' en,h]at h';cases h'
theorem Df(I:Inv X pins σ H s){d:D}:∀{ds:List D}{xs:List V}{us:List aa},D.depL ds<10000->j5 X.K H ds xs->Vals xs us->us.any (eqW X H d)=ds.any λe=>deq e d
 |[],_,_,_,h,r=>by cases h;cases r;rfl
 |e::ds,_,_,hd,⟨x,r,eq,h,l⟩,rv=>by
  subst eq;rw[D.depL]at hd;cases rv with
  |cons a b=>rw[tu,tu,Df I nofun l b,Bx I nofun h a]
theorem Yx(I:Inv X pins σ H s){d:D}{v:V}{u:aa}(en:Enc X.K H d v)(r:RelV v u)(nd:d.dep<10000){n:Nat}(hu:A.units+n<bg):∀{ds:List D}{xs:List V}{us:List aa},D.depL ds<=n->j5 X.K H ds xs->Vals xs us->∀y∈us,cV A s y u (eqW X H d y)
 |[],_,_,_,h,rv,y,hy=>by cases h;cases rv;cases hy
 |e::ds,_,_,hd,⟨x,r',eq,h,l⟩,rv,y,hy=>by
  subst eq;have hd':e.dep<=n/\D.depL ds<=n:=by simp[D.depL]at hd;omega
  cases rv with
  |cons a b =>
   rcases xj.mp hy with rfl|hy
   .have e9:(9900:Nat)=bg:=rfl;rw[Bx I nofun h a];exact(Va I n A hd'.1 hu nd h a en r).2
   .exact Yx I en r nd hu hd'.2 l b y hy
theorem j4w(hu:X.A.units+100<bg):OpR X (bp .In) (λx y H Q=>∃d ds k,Enc X.K H d x/\Enc X.K H (D.seq k ds) y/\D.depL ds<=98/\d.dep<10000/\Q (.bl (ds.any λe=>deq e d)) H):=by
 rintro pins s σ H x y v u Q I rx ry ⟨d,ds,k,en,en',hd,nd,q⟩;obtain⟨t,xs,e,sq,l⟩:=Zj en';subst e;cases ry;obtain⟨us,rv,qs,_⟩:=I.side sq;have me:=λy (hy:y∈us.toArray)=>Yx (A:=X.A.in1) I en rx nd (n:=98) (by show X.A.units+1+98<bg;omega) hd l rv y (by simpa using hy);have ev:us.toArray.any (eqW X H d)=ds.any λe=>deq e d:=by rw[jA];exact Df I nofun l rv
 unfold qx at qs;cases k with
 |true=>rw[if_pos rfl]at qs;exact SeqAt.in_listAt (eqW X H d) qs me (by rw[ev];exact⟨.bl _,H,I,rfl,q⟩)
 |false=>rw[if_neg xg]at qs;exact SeqAt.in_tupleAt (eqW X H d) qs me (by rw[ev];exact⟨.bl _,H,I,rfl,q⟩)
theorem Dn(hu:X.A.units+100<bg):OpR X (bp .NotIn) (λx y H Q=>∃d ds k,Enc X.K H d x/\Enc X.K H (D.seq k ds) y/\D.depL ds<=98/\d.dep<10000/\Q (.bl (!ds.any λe=>deq e d)) H):=by
 rintro pins s σ H x y v u Q I rx ry ⟨d,ds,k,en,en',hd,nd,q⟩;obtain⟨t,xs,e,sq,l⟩:=Zj en';subst e;cases ry;obtain⟨us,rv,qs,_⟩:=I.side sq;have me:=λy (hy:y∈us.toArray)=>Yx (A:=X.A.in1) I en rx nd (n:=98) (by show X.A.units+1+98<bg;omega) hd l rv y (by simpa using hy);have ev:us.toArray.any (eqW X H d)=ds.any λe=>deq e d:=by rw[jA];exact Df I nofun l rv
 unfold qx at qs;cases k with
 |true=>rw[if_pos rfl]at qs;exact SeqAt.notIn_listAt (eqW X H d) qs me (by rw[ev];exact⟨.bl _,H,I,rfl,q⟩)
 |false=>rw[if_neg xg]at qs;exact SeqAt.notIn_tupleAt (eqW X H d) qs me (by rw[ev];exact⟨.bl _,H,I,rfl,q⟩)
theorem j7k:OpR X (bo .Add) (λx y H Q=>∃a b xs ys,x=.ref a/\y=.ref b/\SqT X.K H a xs/\SqT X.K H b ys/\xs.length+ys.length<=ak /\
  (xs=[]->Q (.ref b) H)/\(xs≠[]->ys=[]->Q (.ref a) H)/\(xs≠[]->ys≠[]->∀p,H p=a8->Q (.ref p) (upd H p (.tup (xs++ys))))):=by
 rintro pins s σ H x y v u Q I rx ry ⟨a,b,xs,ys,e,e',sa,sb,hz,q1,q2,q3⟩;by_cases hx:xs=[]
 .subst e e' hx;cases rx;cases ry;obtain⟨us,ru,⟨⟨c1,d1,f1,g1⟩,h1,k1,n1,m1⟩,_⟩:=I.tuple sa;obtain⟨vs,rv,⟨⟨c2,d2,f2,g2⟩,h2,k2,n2,m2⟩,_⟩:=I.tuple sb;cases ru;have k1:c1=.type "tuple":=k1;have m1:f1=.seq ([]:List aa).toArray n1:=m1;have k2:c2=.type "tuple":=k2;have m2:f2=.seq vs.toArray n2:=m2;subst k1 m1 k2 m2;exact fX ⟨_,h1,rfl⟩ ⟨_,h2,rfl⟩ gk ig dn df (d5 _ _)
   (tuple_addW0 a b ([]:List aa).toArray vs.toArray n1 n2 d1 d2 g1 g2 (by simp)) ⟨h1,h2,⟨.ref b,H,I,rfl,q1 rfl⟩⟩
 .exact jbw pins s σ H x y v u Q I rx ry ⟨a,b,xs,ys,e,e',sa,sb,hx,hz,q2 hx,q3 hx⟩
theorem all_range:∀bs:List Bool,(aB bs.length).all (λi=>(bs[i]?).getD a7)=bs.all id
 |[]=>rfl
 |b::bs=>by rw[X4,dM,eN,gR,eN,<-all_range bs];rfl
theorem j10 (hc:X.calm=a7):J0 X (.builtin "all") (λxs H Q=>∃(l:ae)(bs:List Bool),xs=[.ref l]/\SqL X.K H l (bs.map V.bl)/\Q (.bl (bs.all id)) H):=by
 rintro pins s σ H xs us Q I r ⟨l,bs,e,sq,q⟩;subst e;obtain⟨u,eu,ru⟩:=vals1 r;subst eu;cases ru;obtain⟨its,rv,pl,_⟩:=I.list sq;have hlt:l<s.heap.objs.size:=by obtain⟨_,_,e,_⟩:=pl;exact xn e
 have hl:its.length=bs.length:=by rw[<-rv.length,xf]
 refine call_all_walk (cN pl.isList ⟨s.heap.objs.size,[s.heap.objs.size,l],[s.heap.objs.size],its.toArray.size,_,_,λi=>(bs[i]?).getD a7,rfl,Walks.list (A:=X.A.in1) (I.ok.hd hc) _ _ (X7 hlt) its.toArray,⟨⟨_,Xa _ rfl,rfl,rfl⟩,pl.isList.push _⟩,?_,λh' tk kp=>?_⟩)
 .intro i v s' Q' E' hv hq;have hi:i<its.length:=by have:=Array.getElem?_eq_some_iff.mp hv;obtain⟨h,_⟩:=this;simpa using h
  have hb:i<bs.length:=by omega
  obtain⟨w1,hw,rw1⟩:=rv.get (x:=.bl bs[i]) (i:=i) (by rw[xq,kh hb];rfl);have:its.toArray[i]?=a5 w1:=by simpa using hw
  rw[this]at hv;cases hv;cases rw1;simp only[kh hb,T3]at hq;exact bW hq
 .have ev:(aB its.toArray.size).all (λi=>(bs[i]?).getD a7)=bs.all id:=by rw[xr,hl];exact all_range bs
  rw[ev];refine⟨.bl _,H,I.kept (t':=tk) λb o e=>kp b o ?_ (xu _ e),rfl,q⟩;intro z;rw[X6.mp z]at e;exact Xx _ (xn e)
end
section
variable{X:Cx}{ρ:Rho}{a b e:aj}{d d':D}{ds ds':List D}{i j:Int}{pos p p1 p2:aO}{k:Nat}{x:ah}{P:Po}
theorem DE.eqD(hu:X.A.units+100<bg)(ha:DT X ρ a d)(hb:DT X ρ b d')(hd:d.dep<=100)(nd:d'.dep<10000):DE X ρ (.Compare a [.Eq] [b] pos) (.bl (deq d d')):=λσ H Q R q =>(Jx (j4x hu) peS peS (zm _)).to (ha σ H _ R λv H1 g1 e1=>hb σ H1 _ (R.grow g1) λu H2 g2 e2=>⟨d,d',e1.mono g2,e2,hd,nd,q _ H2 (g1.trans g2) rfl⟩)
theorem DB.eqD(hu:X.A.units+100<bg)(ha:DT X ρ a d)(hb:DT X ρ b d')(hd:d.dep<=100)(nd:d'.dep<10000):DB X ρ (.Compare a [.Eq] [b] pos) (deq d d'):=λσ H Q R q =>(Jw (j4x hu) peS peS (zm _)).to (ha σ H _ R λv H1 g1 e1=>hb σ H1 _ (R.grow g1) λu H2 g2 e2=>⟨d,d',e1.mono g2,e2,hd,nd,_,rfl,q H2 (g1.trans g2)⟩)
theorem DB.neD(s:Bool)(hu:X.A.units+100<bg)(ha:DT X ρ a (D.seq s ds))(hb:DT X ρ b (D.seq s ds'))(hd:D.depL ds<=98)(nd:D.depL ds'<10000):DB X ρ (.Compare a [.NotEq] [b] pos) (!zb ds ds'):=λσ H Q R q =>(Jw (j4v hu) peS peS (zm _)).to (ha σ H _ R λv H1 g1 e1=>hb σ H1 _ (R.grow g1) λu H2 g2 e2=>⟨ds,ds',s,e1.mono g2,e2,hd,nd,_,rfl,q H2 (g1.trans g2)⟩)
theorem DB.notIn(s:Bool)(hu:X.A.units+100<bg)(ha:DT X ρ a d)(hb:DT X ρ b (D.seq s ds))(hd:D.depL ds<=98)(nd:d.dep<10000)(hm:aM .NotIn b=a6:=by with_unfolding_all rfl):DB X ρ (.Compare a [.NotIn] [b] pos) (!ds.any λe=>deq e d):=λσ H Q R q =>(Jw (Dn hu) peS peS hm).to (ha σ H _ R λv H1 g1 e1=>hb σ H1 _ (R.grow g1) λu H2 g2 e2=>⟨d,ds,s,e1.mono g2,e2,hd,nd,_,rfl,q H2 (g1.trans g2)⟩)
theorem DB.in(s:Bool)(hu:X.A.units+100<bg)(ha:DT X ρ a d)(hb:DT X ρ b (D.seq s ds))(hd:D.depL ds<=98)(nd:d.dep<10000)(hm:aM .In b=a6:=by with_unfolding_all rfl):DB X ρ (.Compare a [.In] [b] pos) (ds.any λe=>deq e d):=λσ H Q R q =>(Jw (j4w hu) peS peS hm).to (ha σ H _ R λv H1 g1 e1=>hb σ H1 _ (R.grow g1) λu H2 g2 e2=>⟨d,ds,s,e1.mono g2,e2,hd,nd,_,rfl,q H2 (g1.trans g2)⟩)
theorem DE.min (ha:DT X ρ a (.int i)) (hb:DT X ρ b (.int j)) (hm:X.mg "min" = a8) (hc:X.calm=a7:=by rfl) (hg:Gl X "min":=by rfl) (hs:a9 [a,b] X.env=(a6,aE a X.env)::a9 [b] X.env:=by rfl) (hs2:a9 [b] X.env=(a6,aE b X.env)::a9 [] X.env:=by rfl)
  (hpl:(aR pos (a9 [b] X.env)).any (·.1)=a6:=by rfl):DE X ρ (.Call (.Name "min" p) [a,b] [] pos) (.int (if j<i then j else i)):=λσ H Q R q =>
 (zf (j64 hc) hg hm boot_min (j9 peS (j9 peS jm hs2) hs) (by decide) (by decide) hs hpl).to (ha σ H _ R λv H1 g1 e1=>hb σ H1 _ (R.grow g1) λu H2 g2 e2=>⟨i,j,by rw[show v=.int i from e1,show u=.int j from e2],q _ H2 (g1.trans g2) rfl⟩)
theorem O6{K:k83}{H:Hp}:∀{bs:List Bool}{xs:List V},j5 K H (bs.map D.bl) xs->xs=bs.map V.bl
 |[],_,h=>h
 |b::bs,_,⟨x,r,e,h,l⟩=>by subst e;cases(show x=.bl b from h);rw[O6 l];rfl
theorem DE.all {bs:List Bool} (ha:DT X ρ a (.lst (bs.map D.bl))) (hm:X.mg "all" = a8) (hc:X.calm=a7:=by rfl) (hg:Gl X "all":=by rfl) (hs:a9 [a] X.env=[(a6,aE a X.env)]:=by rfl):DE X ρ (.Call (.Name "all" p) [a] [] pos) (.bl (bs.all id)):=λσ H Q R q =>(zf (j10 hc) hg hm boot_all (j9 peS jm hs) (by decide) (by decide) hs).to (ha σ H _ R λv H1 g1 ⟨l,xs,e,sq,en⟩=>⟨l,bs,by rw[e],by rw[O6 en]at sq;exact sq,q _ H1 g1 rfl⟩)
def je6(X:Cx)(e:Option aj):TO:=λσ H Q=>∀pins s,Inv X pins σ H s->ax (au X.prog X.w) X.A (evalPart e X.env) (λu s'=>∃o H',Inv X pins σ H' s'/\eX u o/\Q o H') X.xe s
theorem poS{e:Option aj}:PO X e (je6 X e):=λpins s σ H Q I h=>h pins s I
def DP(X:Cx)(ρ:Rho)(e:Option aj)(o:Option Int):Prop:=∀σ H Q,Rep X.K ρ σ H->(∀H',j4 H H'->Q o H')->je6 X e σ H Q
theorem DP.none:DP X ρ a8 a8:=λσ H Q R q pins s I=>jbo pins s σ H Q I (q H (j4.refl H))
theorem DP.some(h:DT X ρ e (.int i)):DP X ρ (a5 e) (a5 i):=λσ H Q R q pins s I=>jbn peS pins s σ H Q I (h σ H _ R λv H1 g1 e1=>⟨i,e1,q H1 g1⟩)
variable{lo hi:Option aj}{l u:Option Int}
end
def jdw(K:k83)(S:List D->List D->D->List D->Prop):Sp:=λvs H Q _=>∃(a:ae)(ds l:List D)(d:D)(l':List D)(ws xs:List V),vs=ws++[.ref a]/\TabOk K H/\H a=a5 (.lst xs)/\j5 K (del H [a]) l xs/\j5 K (del H [a]) ds ws/\S ds l d l' /\
 ∀v H' ys,j4 (del H [a]) (del H' [a])->H' a=a5 (.lst ys)->j5 K (del H' [a]) l' ys->Enc K (del H' [a]) d v->Q v H'
noncomputable def j4n(eM n:Int):Int:=if 0<n then n%60 else(eM*48271+11)%2147483647/16
noncomputable def Mt(eM n:Int):Int:=if 0<n then n%60/6%2 else(eM*48271+11)%2147483647/128%2
noncomputable def Rg(n:Int):Int:=if 0<n then n/60 else n
noncomputable def U8:Nat->List ah->Int->Int->D×Int
 |0,_,eM,n=>(.tup [.str "tell",.int (Mt eM n)],Rg n)
 |k+1,ws,eM,n=>match ws[(j4n eM n%ws.length).toNat]? with
  |none=>(.tup [.str "tell",.int (Mt eM n)],Rg n)
  |some y=>if j4n eM n%6=0 then(.tup [.str "tell",.int (Mt eM n)],Rg n)
   else(.tup [.str "ask",.str y,(U8 k (ws.filter λz=>!(z==y)) ((eM*48271+11)%2147483647*3+1) (Rg n)).1,
     (U8 k (ws.filter λz=>!(z==y)) ((eM*48271+11)%2147483647*5+2) (U8 k (ws.filter λz=>!(z==y)) ((eM*48271+11)%2147483647*3+1) (Rg n)).2).1],
    (U8 k (ws.filter λz=>!(z==y)) ((eM*48271+11)%2147483647*5+2) (U8 k (ws.filter λz=>!(z==y)) ((eM*48271+11)%2147483647*3+1) (Rg n)).2).2)
def j9o(ds l:List D)(d:D)(l':List D):Prop:=∃(ws:List ah)(eM n:Int)(k:Nat),ds=[.lst (ws.map D.str),.int eM,.int k]/\l=[.int n]/\k<=5/\ws.length<=60/\d=(U8 k ws eM n).1/\l'=[.int (U8 k ws eM n).2]
def Fz(o:Option HO):Prop:=(∃xs,o=a5 (.lst xs))\/∃oc v,o=a5 (.frz oc (.own 0))/\oc.data=.cell v
theorem j5k{P:ar}{w:aA}{K:k83}{mg:k86}{base:aG}{A0:aC}{outer:List cI}{s:af}{H:Hp}{A:List ae}(e0:Env0 P w K mg base A0 outer s H)(hA:∀a∈A,Fz (H a)) :
  Env0 P w K mg base A0 outer s (del H A)/\∀(Q:VK)(E E':XK)(r:eV)(s':af),CR CX0 outer P w (del H A) s (λv F=>(∀a∈A,F a=a8)->Q v (mrg A H F)) E r s'->CR CX0 outer P w H s Q E' r s':=by
 have nd:∀{b:ae},H b=a8->del H A b=a8:=λ{b} q=>by
  by_cases z:b∈A
  .exact qw z
  .rw[j6 z];exact q
 have out:∀{b:ae}{o:HO},H b=a5 o->(∀ys,o≠.lst ys)->(∀oc v,o=.frz oc (.own 0)->oc.data≠.cell v)->b∉A:=λ{b o} q z z2 y=>by
  rcases hA b y with ⟨ys,e'⟩|⟨oc,v,e',d⟩
  .rw[q]at e';cases e';exact z ys rfl
  .rw[q]at e';cases e';exact z2 _ _ rfl d
 have e1:Env0 P w K mg base A0 outer s (del H A):=⟨e0.frames,e0.mod,λb o q=>⟨(e0.bs b o q).1,nd (e0.bs b o q).2⟩,e0.bsz,e0.funs,λb hb=>nd (e0.frf b hb),
  λa o q=>by
   obtain⟨_,q⟩:=of_del q
   exact jg.stay (e0.hok a o q) (λb u _ z=>z) (λb z=>by rw[j6 (out z (λ_ y=>by cases y) λ_ _ y=>by cases y)];exact z) (λb xs z=>by rw[j6 (out z (λ_ y=>by cases y) λ_ _ y=>by cases y)];exact z)
    (λb o ⟨vs,d⟩ z=>by rw[j6 (out z (λ_ y=>by cases y) λ_ _ y d'=>by cases y;rw[d]at d';cases d')];exact z),e0.bare⟩
 refine⟨e1,λQ E E' r s' hq=>?_⟩;cases r with
 |error e=>exact(show False from hq).elim
 |ok fl =>
  cases fl with
  |next=>exact(show False from hq).elim
  |brk=>exact(show False from hq).elim
  |cont=>exact(show False from hq).elim
  |ret u =>
   obtain⟨v,H',os,bare,un,hok',rel,q⟩:=(show CE outer P w (del H A) s _ u s' from hq)
   have kept:∀a∈A,∃o,s.heap.get? a=a5 o/\s'.heap.get? a=a5 o/\H' a=a8:=λa ha=>by
    have nf:a∉frs outer:=λy=>by have z:=e0.frf a y;rcases hA a ha with ⟨xs,e⟩|⟨oc,v,e,_⟩<;>(rw[z]at e;cases e)
    have ob:∃o,s.heap.get? a=a5 o:=by
     rcases hA a ha with ⟨xs,e⟩|⟨oc,v,e,_⟩
     .obtain⟨_,its,n,_,z⟩:=(show jg P w H s.heap a (.lst xs)from e0.hok _ _ e);exact⟨_,z⟩
     .exact⟨_,(show jg P w H s.heap a (.frz oc (.own 0))from e0.hok _ _ e).1⟩
    obtain⟨o,z⟩:=ob;exact⟨_,z,un.keep a _ z (qw ha) nf (by simp),un.free a _ z (qw ha) (by simp)⟩
   have hF:∀a∈A,H' a=a8:=λa ha=>let ⟨_,_,_,z⟩:=kept a ha;z;have outF:∀{b:ae}{o:HO},H' b=a5 o->b∉A:=λ{b o} e z=>by rw[hF b z]at e;cases e
   refine⟨v,mrg A H H',os,bare,?_,λa o e=>?_,rel,q hF⟩
   .exact{
     keep:=λb o e n=>un.keep b o e (nd n)
     slot:=λb o e n=>un.slot b o e (nd n)
     free:=λb o e n hx=>by
      by_cases z:b∈A
      .rw[vp z];exact n
      .rw[jf z];exact un.free b o e (nd n) hx
     there:=un.there
     tups:=λb xs e=>by
      have z:=un.tups b xs (by rw[j6 (out e (λ_ y=>by cases y) λ_ _ y=>by cases y)];exact e)
      rw[jf (outF z)];exact z
     frzs:=λb o u e=>by
      by_cases y:b∈A
      .rw[vp y];exact e
      .have z:=un.frzs b o u (by rw[j6 y];exact e)
       rw[jf y];exact z
     tbls:=λb ps e=>by
      obtain⟨more,z⟩:=un.tbls b ps (by rw[j6 (out e (λ_ y=>by cases y) λ_ _ y=>by cases y)];exact e)
      exact⟨more,by rw[jf (outF z)];exact z⟩ }
   .by_cases z:a∈A
    .rw[vp z]at e;obtain⟨o',q1,q2,_⟩:=kept a z;rcases hA a z with ⟨xs,e'⟩|⟨oc,v,e',_⟩
     .rw[e']at e;cases e;obtain⟨hl,its,n,r,y⟩:=(show jg P w H s.heap a (.lst xs)from e0.hok _ _ e')
      rw[y]at q1;cases q1;exact⟨hl,its,n,r,q2⟩
     .rw[e']at e;cases e;have y:=(show jg P w H s.heap a (.frz oc (.own 0))from e0.hok _ _ e').1;rw[y]at q1;cases q1;exact⟨q2,_,q2⟩
    .rw[jf z]at e;refine jg.stay (hok' a o e) (λb u _ q=>q) (λb q=>?_) (λb xs q=>?_) (λb _ _ q=>?_)
     .rw[jf (outF q)];exact q
     .rw[jf (outF q)];exact q
     .rw[jf (outF q)];exact q
structure LamScope(N ps:List ah)(sc:bq):Prop where
 kind:sc.kind=.function
 co:sc.isCoroutine=a6
 gen:sc.isGenerator=a6
 nd:N.Nodup
 nm:N=Zt sc++ps
 lfr:∀x∈Zt sc,sc.names.lookup x=a5 .free
 lps:∀x∈ps,sc.names.lookup x=a5 .local
 nocell:∀y∈sc.names,y.2≠.cell
 cov:∀x,sc.names.lookup x=a5 .free->x∈Zt sc
noncomputable def Y8(P:ar)(w:aA)(K:k83)(mg:k86)(base:aG)(N:List ah)(qual:ah)(scope:bq)(a:ae)(cd:aa)(cl:List (ah×ae))(A:aC)(outer:List cI)(s:af)(H:Hp):Cx where
 prog:=P
 w:=w
 K:=K
 mg:=mg
 base:=base
 A:=A.deeper (W.envX qual scope s.heap.objs.size a cd cl)
 N:=N
 s₀:=s
 H₀:=H
 env:=W.envX qual scope s.heap.objs.size a cd cl
 outer:=outer
 stack:=W.envX qual scope s.heap.objs.size a cd cl::outer
 ex:=[]
 calm:=a7
 fn:=λ_=>a6
 pn:=[]
 xe:=λ_ _=>False
def Jr(h:aG):List ae->List V->Prop
 |[],vs=>vs=[]
 |c::cs,vs=>∃v r u,vs=v::r/\h.IsCell c (a5 u)/\RelV v u/\Jr h cs r
theorem Jr.get{h:aG}:∀{cs:List ae}{vs:List V}{i:Nat}{v:V},Jr h cs vs->vs[i]?=a5 v->∃c u,cs[i]?=a5 c/\h.IsCell c (a5 u)/\RelV v u
 |[],_,i,v,e,q=>by cases e;simp at q
 |c::cs,_,0,v,⟨x,r,u,e,h1,h2,_⟩,q=>by subst e;simp at q;subst q;exact⟨c,u,rfl,h1,h2⟩
 |c::cs,_,i+1,v,⟨x,r,u,e,_,_,l⟩,q=>by subst e;obtain⟨c',u',z1,z2⟩:=Jr.get l (i:=i) (by simpa using q);exact⟨c',u',by simpa using z1,z2⟩
theorem Jr.length{h:aG}:∀{cs:List ae}{vs:List V},Jr h cs vs->vs.length=cs.length
 |[],_,e=>by cases e;rfl
 |c::cs,_,⟨x,r,u,e,_,_,l⟩=>by subst e;simp[l.length]
theorem Jr.all{h:aG}:∀{cs:List ae}{vs:List V},Jr h cs vs->∀c∈cs,∃v,h.IsCell c v
 |c::cs,_,⟨x,r,u,e,h1,_,l⟩,b,hb=>(xj.mp hb).elim (λz=>z▸⟨_,h1⟩) (l.all b)
theorem lookup_at{α:Type}:∀{l:List (ah×α)} {i:Nat} {p:ah×α},(l.map (·.1)).Nodup->l[i]?=a5 p->l.lookup p.1=a5 p.2
 |[],i,p,_,h=>by simp at h
 |q::l,0,p,_,h=>by simp at h;subst h;rw[Xk,beq_self_eq_true]
 |q::l,i+1,p,nd,h=>by rw[xx]at nd;rw[Py]at h;have ne:(p.1==q.1)=a6:=beq_eq_false_iff_ne.mpr λz=>(Xp.mp nd).1 (z▸il (Xg h));rw[Xk,ne];exact lookup_at (Xp.mp nd).2 h
theorem j32{ps:List ah}{us:List aa}{i:Nat}{p:ah}{u:aa}(nd:ps.Nodup)(hl:us.length=ps.length)(h1:ps[i]?=a5 p)(h2:us[i]?=a5 u):(ps.zip us).reverse.lookup p=a5 u:=by
 have hm:(p,u)∈(ps.zip us).reverse:=List.mem_reverse.mpr (Xg (i:=i) (by rw[gp];exact⟨h1,h2⟩));have e:((ps.zip us).reverse.map (·.1))=ps.reverse:=by rw[List.map_reverse,List.map_fst_zip nofun]
 obtain⟨j,hj⟩:=List.mem_iff_getElem?.mp hm;exact lookup_at (by rw[e];exact(List.reverse_perm ps).nodup_iff.mpr nd) hj
section
variable{P:ar}{w:aA}{K:k83}{mg:k86}{base:aG}{A:aC}{outer:List cI}{s:af}{H:Hp}{x:ah}{a c:ae}{tx:Tx}{cl:List (ah×ae)}{pm ctv:aa}{cvs vs:List V}{us:List aa}{N ps:List ah}{k:Nat}{Q:VK}{E:XK}
theorem jcq{h1:aG}{tk:Nat}(hh:A.handled=a8)(e0:Env0 P w K mg base A outer s H)(S:LamScope N ps tx.2.2)(hn:cl.map (·.1)=Zt tx.2.2)(nd:(cl.map (·.2)).Nodup)(hc:Jr s.heap (cl.map (·.2)) cvs)(hf:∀q∈cl.map (·.2),H q=a8)(rv:Vals vs us)(hl:vs.length=ps.length)
  (ns:h1.Ns s.heap.objs.size λy=>(ps.zip us).reverse.lookup y) (kp:∀b o,s.heap.get? b=a5 o->h1.get? b=a5 o) :
  Inv (Y8 P w K mg base N (zg x) tx.2.2 a (.ref c) cl A outer s H) [] (start N (cvs++vs)) H { s with heap:=h1,toks:=tk }:=by
 have ndN:(Zt tx.2.2).Nodup:=by have:=S.nd;rw[S.nm]at this;exact(List.nodup_append.mp this).1
 have ndP:ps.Nodup:=by have:=S.nd;rw[S.nm]at this;exact(List.nodup_append.mp this).2.1
 have ndC:(cl.map (·.1)).Nodup:=by rw[hn];exact ndN
 have lenC:cvs.length=(Zt tx.2.2).length:=by rw[hc.length,<-hn,xf,xf]
 have lenN:N.length=(cvs++vs).length:=by rw[S.nm,Xb,Xb,lenC,hl]
 have noA:∀b:ae,b∉(Y8 P w K mg base N (zg x) tx.2.2 a (.ref c) cl A outer s H).ex:=λb z=>absurd (show b∈([]:List ae)from z) (by simp);have mem2:∀{y:ah}{q:ae},cl.lookup y=a5 q->q∈cl.map (·.2):=λ{y q} h=>Xn.mpr ⟨(y,q),pq h,rfl⟩;have inj:∀(l:List (ah×ae)),(l.map (·.2)).Nodup->∀y z q,(y,q)∈l->(z,q)∈l->y=z:=λl=>by
  induction l with
  |nil=>intro _ y z q h;cases h
  |cons p r ih =>
   intro nd y z q h1 h2;rw[xx]at nd;obtain⟨n1,n2⟩:=Xp.mp nd;rcases xj.mp h1 with e1|h1<;>rcases xj.mp h2 with e2|h2
   .rw[<-e1]at e2;cases e2;rfl
   .exact absurd (Xn.mpr ⟨(z,q),h2,by rw[<-e1]⟩) n1
   .exact absurd (Xn.mpr ⟨(y,q),h1,by rw[<-e2]⟩) n1
   .exact ih n2 y z q h1 h2
 refine⟨⟨e0.mod,S.kind,rfl,rfl,X5 _,λy z q h1 h2=>inj cl nd y z q (pq h1) (pq h2),λy hy=>?_,λy q h=>(by cases h),λ_=>hh,Around.frames_deeper e0.frames,.inr ⟨rfl,rfl⟩,λb z=>absurd z (noA b),e0.bs,e0.bsz,λb _ _=>noA b,λb z=>absurd z (noA b),e0.funs,e0.frf⟩,
  rfl,e0.bare,Un.kept kp,⟨_,ns,λi y v h1 h2 h3=>?_⟩,λy q h=>?_,e0.hok.fresh (X5 _),λy q h=>hf q (mem2 h),λp hp=>absurd (show p∈([]:k85)from hp) (by simp),e0.hok.kept kp,?_⟩
 .have hy:tx.2.2.names.lookup y=a5 .cell\/tx.2.2.names.lookup y=a5 .free:=hy;rcases hy with hy|hy
  .exact absurd rfl (S.nocell _ (pq hy))
  .have m:=S.cov y hy;rw[<-hn]at m;obtain⟨p,hp,e⟩:=Xn.mp m;obtain⟨i,hi⟩:=List.mem_iff_getElem?.mp hp;exact⟨p.2,by have:=lookup_at ndC hi;rw[e]at this;exact this⟩
 .have h1:N[i]?=a5 y:=h1;have hi:i<(cvs++vs).length:=by rw[<-lenN];exact(X3.mp h1).1
  have ha:(cvs++vs)[i]?=a5 v:=by
   unfold start at h2;rw[Pk (by simpa using hi),xq]at h2;cases e:(cvs++vs)[i]? with
   |none=>rw[e]at h2;cases h2
   |some a=>rw[e]at h2;cases h2;rfl
  rw[S.nm]at h1;by_cases z:i<cvs.length
  .rw[Pk z]at ha;rw[Pk nofun]at h1;obtain⟨q,u,e1,e2,r⟩:=hc.get ha;refine⟨u,r,.inr ⟨.inr (S.lfr y (Xg h1)),q,?_,e2.keeps kp⟩⟩;rw[<-hn,xq]at h1;rw[xq]at e1;obtain⟨p,hp,ep⟩:=t8.mp h1;rw[hp]at e1;have:=lookup_at ndC hp;rw[ep]at this;show cl.lookup y=a5 q;rw[this];exact e1
  .rw[d4 nofun]at ha h1;rw[<-lenC]at h1;obtain⟨u,hu,r⟩:=rv.get ha;exact⟨u,r,.inl ⟨S.lps y (Xg h1),j32 ndP (by rw[<-rv.length,hl]) h1 hu⟩⟩
 .obtain⟨v,z⟩:=hc.all q (mem2 h);exact⟨v,z.keeps kp⟩
 .unfold start;show _=N.length;rw[Xb,xf,dW];omega
theorem j7s (hr:Room (k+1) A) (e0:Env0 P w K mg base A outer s H) (ho:s.heap.get? a=a5 (W.kla_obj "<lambda>" (zg x) tx.1 tx.2.1 tx.2.2 cl pm c ctv)) (hcd:s.heap.CodeRec (.ref c) (zg x))
  (S:LamScope N ps tx.2.2) (hn:cl.map (·.1)=Zt tx.2.2) (nd:(cl.map (·.2)).Nodup) (hc:Jr s.heap (cl.map (·.2)) cvs) (hf:∀q∈cl.map (·.2),H q=a8)
  (hb:cO (W.kla_fn "<lambda>" (zg x) tx.1 tx.2.1 tx.2.2 cl pm (.ref c) ctv) ⟨us,[]⟩=pure (ps.zip us)) (rv:Vals vs us) (hl:vs.length=ps.length)
  (body:Room k (Y8 P w K mg base N (zg x) tx.2.2 a (.ref c) cl A outer s H).A->J5 (Y8 P w K mg base N (zg x) tx.2.2 a (.ref c) cl A outer s H) tx.2.1 (start N (cvs++vs)) H Q) :
  cu (au P w) A (.call (.ref a) ⟨us,[]⟩) (CR CX0 outer P w H s Q E) s:=by
 have lim:s.heap.NoLimit:=e0.mod.nolimit.keeps λb o e=>(e0.bs b o e).1;refine W.kla_callFunE (by have:=hr.dp;omega) ho rfl S.co S.gen rfl hcd ?_;rw[hb];refine az (wpAny_newFunctionEnv S.nocell (λy hy=>S.lps y.1 (cP (a:=y.1) (b:=y.2) hy).1) (λh1 ns sb=>⟨lim.fresh _ sb,?_⟩) S.kind);show cu _ _ (.expr tx.2.1 (W.envX (zg x) tx.2.2 s.heap.objs.size a (.ref c) cl)) _ _;have kp:∀b o,s.heap.get? b=a5 o->h1.get? b=a5 o:=λb o e=>sb.extBut b o (X7 (xn e)) (xu _ e);have I:=jcq (x:=x) (a:=a) (c:=c) (tk:=s.toks+(ps.zip us).length) hr.hd e0 S hn nd hc hf rv hl ns kp;refine W.kla_codeExpr (aW (body (hr.deeper _) [] _ I) (λu s' ⟨v,H',J,r,q⟩=>?_) λ_ _ z=>z.elim);exact⟨v,H',J.os,J.bare,J.base,J.hok,r,q⟩
end
mutual
noncomputable def noFn:D->Bool
 |.fn _ _=>a6
 |.tup ds=>Y0 ds
 |.lst ds=>Y0 ds
 |.dct _ ds=>Y0 ds
 |_=>a7
noncomputable def Y0:List D->Bool
 |[]=>a7
 |d::ds=>noFn d&&Y0 ds
end
section
variable{K:k83}{H:Hp}{A:List ae}
def Cel(H:Hp)(A:List ae):Prop:=∀a∈A,∃oc v,H a=a5 (.frz oc (.own 0))/\oc.data=.cell v
theorem Cel.out(hA:Cel H A){b:ae}{o:HO}(q:H b=a5 o)(h:∀oc,o≠.frz oc (.own 0)):del H A b=a5 o:=by rw[j6];exact q;intro y;obtain⟨oc,v,e,_⟩:=hA b y;rw[q]at e;exact h oc (aw e)
theorem Cel.seqT(hA:Cel H A){a:ae}{xs:List V}(h:SqT K H a xs):SqT K (del H A) a xs:=by
 rcases h with (h|⟨o,h⟩)|h
 .exact .inl (.inl (hA.out h λ_ z=>by cases z))
 .exact .inl (.inr ⟨o,hA.out h λ_ z=>by cases z⟩)
 .exact .inr h
theorem Cel.seq(hA:Cel H A){a:ae}{xs:List V}(h:SqL K H a xs):SqL K (del H A) a xs:=by
 rcases h with (h|⟨o,h⟩)|h
 .exact .inl (.inl (hA.out h λ_ z=>by cases z))
 .exact .inl (.inr ⟨o,hA.out h λ_ z=>by cases z⟩)
 .exact .inr h
mutual
theorem Enc.noc(hA:Cel H A):∀{d:D}{v:V},noFn d=a7->Enc K H d v->Enc K (del H A) d v
 |.non,_,_,h=>h
 |.bl _,_,_,h=>h
 |.int _,_,_,h=>h
 |.str _,_,_,h=>h
 |.tup _,_,n,⟨a,xs,e,q,l⟩=>⟨a,xs,e,hA.seqT q,j5.noc hA (by simpa [noFn]using n) l⟩
 |.lst _,_,n,⟨a,xs,e,q,l⟩=>⟨a,xs,e,hA.seq q,j5.noc hA (by simpa [noFn]using n) l⟩
 |.dct _ _,_,n,⟨a,xs,ep,vs,e,q,ek,kt,rv,l⟩=>⟨a,xs,ep,vs,e,hA.out q (λ_ z=>by cases z),ek,λx hx=>hA.seqT (kt x hx),rv,j5.noc hA (by simpa [noFn]using n) l⟩
 |.sct _,_,_,⟨a,e,q⟩=>⟨a,e,hA.out q λ_ z=>by cases z⟩
 |.fn _ _,_,n,_=>by cases n
theorem j5.noc(hA:Cel H A):∀{ds:List D}{xs:List V},Y0 ds=a7->j5 K H ds xs->j5 K (del H A) ds xs
 |[],_,_,h=>h
 |d::ds,_,n,⟨x,r,e,h,l⟩=>by rw[Y0,X8]at n;exact⟨x,r,e,Enc.noc hA n.1 h,j5.noc hA n.2 l⟩
end
theorem J2.cel:∀{cs:List ae}{vs:List V},J2 H cs vs->Cel H cs
 |[],_,_=>λ_ h=>nomatch h
 |c::cs,_,⟨v,r,o,u,e,h,d,rv,l⟩=>λa ha=>(xj.mp ha).elim (λz=>⟨o,_,z▸h,d⟩) (l.cel a)
theorem J2.inn{P:ar}{w:aA}{h:aG}(ok:HOk P w H h):∀{cs:List ae}{vs:List V},J2 H cs vs->Jr h cs vs
 |[],_,e=>e
 |c::cs,_,⟨v,r,o,u,e,q,d,rv,l⟩=>⟨v,r,u,e,⟨o,(show jg P w H h c (.frz o (.own 0))from ok _ _ q).1,d⟩,rv,l.inn ok⟩
theorem J2.of_del{B:List ae}:∀{cs:List ae}{vs:List V},J2 (del H B) cs vs->J2 H cs vs:=λh=>h.mono jo
theorem TabOk.fz(h:TabOk K H)(hA:∀a∈A,Fz (H a)):TabOk K (L2.del H A):=λx hx c P z=>by have q:=h x hx c P z;rw[j6];exact q;intro y;rcases hA _ y with ⟨xs,e⟩|⟨oc,v,e,_⟩<;>(rw[q]at e;cases e)
end
def j3r(P:ar)(w:aA)(K:k83)(mg:k86)(base:aG)(k:Nat)(x:ah)(S:List D->D->Prop):Prop :=
 ∀(A:aC)(outer:List cI)(s:af)(H:Hp)(a:ae)(B:List ae)(cs ds:List D) (d:D) (vs:List V) (us:List aa) (Q:VK) (E:XK),Room k A->Env0 P w K mg base A outer s H->TabOk K H->(∀b∈B,∃xs,H b=a5 (.lst xs)) ->
  Enc K (del H B) (.fn x cs) (.ref a)->j5 K (del H B) ds vs->Y0 ds=a7->S (cs++ds) d->Vals vs us->(∀v H',j4 H H'->Enc K (del H' B) d v->Q v H')->cu (au P w) A (.call (.ref a) ⟨us,[]⟩) (CR CX0 outer P w H s Q E) s
section
variable{P:ar}{w:aA}{K:k83}{mg:k86}{base:aG}{k:Nat}{x:ah}{S:List D->D->Prop}{tx:Tx}{N ps:List ah}
theorem jfs(ht:j34 K x=a5 tx)(Sc:LamScope N ps tx.2.2)(hl:∀ds d,S ds d->ds.length=N.length)
  (hb:∀(cl:List (ah×ae)) (pm:aa) (c:ae) (ctv:aa) (us:List aa),us.length=ps.length->cO (W.kla_fn "<lambda>" (zg x) tx.1 tx.2.1 tx.2.2 cl pm (.ref c) ctv) ⟨us,[]⟩=pure (ps.zip us))
  (hbody:∀(a c:ae)(cl:List (ah×ae)) (A:aC) (outer:List cI) (s:af) (H:Hp),cl.map (·.1)=Zt tx.2.2->Room k (Y8 P w K mg base N (zg x) tx.2.2 a (.ref c) cl A outer s H).A->∀ds d,S ds d->DT (Y8 P w K mg base N (zg x) tx.2.2 a (.ref c) cl A outer s H) (jx N ds) tx.2.1 d):j3r P w K mg base (k+1) x S:=by
 intro A outer s H a B cs ds d vs us Q E hr e0 tb hB en ea nf hS rv q;obtain⟨a',c,tx',cl,cvs,e,L,l⟩:=en;cases e;have et:tx'=tx:=aw (L.tx.symm.trans ht);subst et;have cs_at:J2 H (cl.map (·.2)) cvs:=L.cs.of_del;have hA:∀b∈B++cl.map (·.2),Fz (H b):=λb hb=>(Te.mp hb).elim (λz=>.inl (hB b z)) λz=>.inr (cs_at.cel b z);obtain⟨e1,back⟩:=j5k e0 hA;obtain⟨pm,ctv,hfo⟩:=L.fo;obtain⟨oc,hco,vs0,t0,hd0,hv0⟩:=L.co;have ho:=(show jg P w H s.heap a (.frz _ (.own 0))from e0.hok _ _ (of_del hfo).2).1;have hcd:s.heap.CodeRec (.ref c) (zg x):=⟨c,oc,vs0,t0,rfl,(show jg P w H s.heap c (.frz oc (.own 0))from e0.hok _ _ (of_del hco).2).1,hd0,hv0⟩
 have ll:=l.length;have la:=ea.length;have hlen:=hl _ _ hS;have lenC:(cl.map (·.2)).length=(Zt tx'.2.2).length:=by rw[<-L.nm,xf,xf]
 have lcv:=(cs_at.inn e0.hok).length;have hlv:vs.length=ps.length:=by rw[Sc.nm,Xb,Xb]at hlen;omega
 have celB:Cel (del H B) (cl.map (·.2)):=L.cs.cel;have ea1:j5 K (del H (B++cl.map (·.2))) ds vs:=by rw[<-Qu];exact ea.noc celB nf
 have l1:j5 K (del H (B++cl.map (·.2))) cs cvs:=by rw[<-Qu];exact l
 refine cg (j7s (E:=E) (Q:=λv F=>(∀a∈B++cl.map (·.2),F a=a8)->Q v (mrg (B++cl.map (·.2)) H F)) hr e1 ho hcd Sc L.nm L.nd (cs_at.inn e0.hok) (λb hb=>qw (Xh _ hb)) (hb cl pm c ctv us (by rw[<-rv.length];exact hlv)) rv hlv λhrm=>?_) λr s' h=>back Q E E r s' h;refine hbody a c cl A outer s _ L.nm hrm (cs++ds) d hS _ _ _ (Zv (tb.fz hA) (l1.append ea1)) λv F g en' hF=>q v _ (Ms g) (en'.mono λb o z=>?_);have nb:b∉B++cl.map (·.2):=λy=>by rw[hF b y]at z;cases z
 rw[j6 (λy=>nb (Pr _ y)),jf nb];exact z
end
section
variable{X:Cx}{ρ:Rho}{e a b c:aj}{es:List aj}{st:aN}{rest sa sb body:List aN}{P:Po}{d:D}{ds ds':List D}{pos p p1 p2 p3:aO}{x:ah}{i:Nat}
theorem DSs.last(h:DS X ρ st P):DSs X ρ [st] P:=.cons h λρ' n=>DSs.nil n
theorem Cal.comp{sp:Sp}{scope:bq}{C:ae}{s:af}{H:Hp}{fp:List ae}{pn:k85}(h:Cal X x sp):Cal (cCx X scope C s H fp pn) x sp:=⟨h.ex⟩
end
theorem z7(lo:Int)(n:Nat):(upto lo n).length=n:=by unfold upto;rw[xf,Xw]
theorem Ef{lo:Int}{n:Nat}{d:D}(h:d∈upto lo n):∃j:Nat,j<n/\d=.int (lo+j):=by unfold upto at h;obtain⟨j,hj,e⟩:=Xn.mp h;exact⟨j,Xm.mp hj,e.symm⟩
theorem Mi{lo:Int}{n j:Nat}{d:D}(h:(upto lo n)[j]?=a5 d):j<n/\d=.int (lo+j):=by
 unfold upto at h;rw[xq]at h;cases z:(aB n)[j]? with
 |none=>rw[z]at h;cases h
 |some k =>rw[z]at h;have hl:=(X3.mp z).1;rw[Xw]at hl;have:=Xu (n:=n) (i:=j) hl;rw[this]at z;cases z;cases h;exact⟨hl,rfl⟩
mutual
def Ja:D->Prop
 |.tup l=>l.length<=1000/\Qj l
 |.lst l=>l.length<=1000/\Qj l
 |.dct _ _=>False
 |.sct _=>False
 |.fn _ _=>False
 |_=>True
def Qj:List D->Prop
 |[]=>True
 |d::ds=>Ja d/\Qj ds
end
theorem Ua:∀{ds:List D}{d:D},Qj ds->d∈ds->Ja d
 |x::xs,d,h,m=>by
  simp only[Qj]at h;rcases xj.mp m with e|m
  .subst e;exact h.1
  .exact Ua h.2 m
theorem Y4:∀{ds:List D},(∀d∈ds,Ja d)->Qj ds
 |[],_=>by simp only[Qj]
 |x::xs,h=>by simp only[Qj];exact⟨h x (xm ..),Y4 λd m=>h d (km _ m)⟩
theorem D.depL_mem:∀{ds:List D}{d:D},d∈ds->d.dep<=D.depL ds
 |x::xs,d,m=>by
  simp only[D.depL];rcases xj.mp m with e|m
  .subst e;omega
  .have:=D.depL_mem m;omega
theorem D.depL_of{n:Nat}:∀{ds:List D},(∀d∈ds,d.dep<=n)->D.depL ds<=n
 |[],_=>by simp only[D.depL];omega
 |x::xs,h=>by simp only[D.depL];have h1:=h x (xm ..);have h2:=D.depL_of (ds:=xs) λd m=>h d (km _ m);omega
end L2
namespace L2
noncomputable def jz(b:Int):Nat->Int->List Int
 |0,_=>[]
 |i+1,n=>(n/b^i%b)::jz b i n
theorem vh(b:Int):∀(m:Nat)(n:Int),(jz b m n).length=m
 |0,_=>rfl
 |m+1,n=>by rw[jz,X4,vh b m n]
theorem Qp(b:Int):∀{m k:Nat}{n:Int},k<m->(jz b m n)[k]?=a5 (n/b^(m-k-1)%b)
 |m+1,0,n,_=>by rw[jz];rfl
 |m+1,k+1,n,h=>by
  rw[jz,Py,Qp b nofun];have:m-k-1=m+1-(k+1)-1:=by omega
  rw[this]
theorem j8s(n b:Int)(hb:0<b)(i:Nat):n/b^i/b=n/b^(i+1):=by rw[Int.ediv_ediv_of_nonneg (Int.le_of_lt (dm hb)),dQ]
end L2
end
section
namespace L2
open PySem PySem.Spec PyProof.Rows
def CX1(P:ar)(w:aA):CXT:=λouter H s E ev s'=>∃(e:ae)(C:aa)(H':Hp),ev=.ref e/\s'.os=s.os/\dJ s'.gens/\Un (frs outer) [] H H' s.heap s'.heap/\HOk P w H' s'.heap /\
 Fl (λb=>∃o,s.heap.get? b=a5 o) H' s'.heap e C/\E C a8 H'
theorem jg.get{P:ar}{w:aA}{H:Hp}{h:aG}{a:ae}{o:HO}(x:jg P w H h a o):∃u,h.get? a=a5 u:=by
 cases o with
 |lst xs=>obtain⟨_,_,_,_,e⟩:=x;exact⟨_,e⟩
 |tup xs=>obtain⟨_,_,_,⟨_,e,_⟩,_⟩:=x;exact⟨_,e⟩
 |dK kvs=>obtain⟨_,_,_,_,o,_,_,e,_⟩:=x;exact⟨_,e⟩
 |dT kvs=>obtain⟨_,_,_,_,o,_,_,e,_⟩:=x;exact⟨_,e⟩
 |dI xs ep=>obtain⟨_,_,_,o,_,e,_⟩:=x;exact⟨_,e⟩
 |set S n=>obtain⟨o,_,_,_,e,_⟩:=x;exact⟨_,e⟩
 |ins C dx fs=>obtain⟨_,_,_,e,_⟩:=x;exact⟨_,e⟩
 |own y=>obtain⟨_,e⟩:=x;exact⟨_,e⟩
 |xd fs=>obtain⟨_,⟨_,_,_,e,_⟩,_⟩:=x;exact⟨_,e⟩
 |rng lo hi=>obtain⟨_,_,_,e⟩:=x;exact⟨_,e⟩
 |frz ob u=>obtain⟨e,_⟩:=x;exact⟨_,e⟩
 |tbl ps=>exact⟨_,(show h.get? a=a5 _ from x)⟩
 |cod q=>obtain⟨_,e,_⟩:=x;exact⟨_,e⟩
 |met f y=>exact⟨_,(show h.get? a=a5 _ from x)⟩
 |ext φ=>obtain⟨_,⟨_,e⟩,_⟩:=x;exact⟨_,e⟩
section
variable{X:Cx}{pins:k85}{σ:St}{H:Hp}{s:af}
theorem Inv.old(I:Inv X pins σ H s){b:ae}(h:Old X pins b):∃o,s.heap.get? b=a5 o:=by
 rcases h with ⟨o,q,n⟩|⟨p,hp,rfl⟩|rfl|⟨x,e⟩
 .exact I.base.there b o q n
 .exact⟨_,(I.pin p hp).1⟩
 .obtain⟨m,⟨o,_,_,e,_⟩,_⟩:=I.loc;exact⟨o,e⟩
 .obtain⟨v,o,e,_⟩:=I.cell x b e;exact⟨o,e⟩
end
section
variable{P:ar}{w:aA}{K:k83}{mg:k86}{base:aG}{N ps:List ah}{qual:ah}{scope:bq}{f:ae}{cd:aa}{A:aC}{outer:List cI}{s s':af}{H H':Hp}{E:XK}{σ:St}{pins:k85}{e:ae}{C:aa}
theorem Nv{as:List ae}{h':aG}{a0:aa}(I:Inv (q8 (CX1 P w) P w K mg base N qual scope f cd A outer s H E) pins σ H' s')(F:FlQ (flF (q8 (CX1 P w) P w K mg base N qual scope f cd A outer s H E).env) (Old (q8 (CX1 P w) P w K mg base N qual scope f cd A outer s H E) pins) H' s'.heap e C)
  (hE:E C a8 H') (ha:∀b,b∈as↔b∈frs (bB qual scope s.heap.objs.size f cd::outer)\/(¬(∃o,s.heap.get? b=a5 o)/\H' b=a8/\b∈as)) (hfa:∀b∈frs (bB qual scope s.heap.objs.size f cd::outer),b∈as)
  (hL:Heap.LeftW (W.hideAll s'.heap as) (bB qual scope s.heap.objs.size f cd::outer) e C a0 s'.heap h'):CX1 P w outer H s E (.ref e) { s' with heap:=h' }:=by
 obtain⟨k1,k2,k3,k4⟩:=hL;have fr:∀b∈frs outer,∃o,s'.heap.get? b=a5 o/\∀vs,o.data≠.fields vs:=λb hb=>by obtain⟨o,ho,hd⟩:=(I.stack.mem (show b∈frs (bB qual scope s.heap.objs.size f cd::outer)from km _ hb)).2;exact⟨o,ho,hd⟩
 have sfree:∀b∈frs (bB qual scope s.heap.objs.size f cd::outer),H' b=a8:=I.stkFree;have keep:∀b o,s'.heap.get? b=a5 o->b∉as->h'.get? b=a5 o:=λb o q n=>k1 b o (W.hideAll_get _ q n);have nold:∀b o,s.heap.get? b=a5 o->b∉frs outer->b∉as:=λb o q n z=>by
  rcases(ha b).mp z with z|⟨z,_⟩
  .rcases xj.mp z with z|z
   .have:=xn q;rw[show b=s.heap.objs.size from z]at this;exact absurd this (Xx _)
   .exact n z
  .exact z ⟨o,q⟩
 have ntrk:∀b u,H' b=a5 u->b∉as:=λb u q z=>by
  rcases(ha b).mp z with z|⟨_,z,_⟩
  .rw[sfree b z]at q;cases q
  .rw[z]at q;cases q
 have slot:∀b∈frs outer,∀o,s'.heap.get? b=a5 o->∃sl,h'.get? b=a5 { o with slots:=sl }:=λb hb o q=>by obtain⟨o',ho,hd⟩:=fr b hb;rw[q]at ho;cases ho;exact k4 b o q hd
 have un:=I.base;refine⟨e,C,H',rfl,I.os,I.bare,⟨λb o q n hb _=>keep b o (un.keep b o q n hb (λz=>nomatch z)) (nold b o q hb),λb o q n hb _=>?_,λb o q n _=>un.free b o q n (λz=>nomatch z),λb o q _=>?_,un.tups,un.frzs,un.tbls⟩,
  λa o q=>(I.hok a o q).stay (λb u hb r=>keep b u r ?_) (λ_ z=>z) (λ_ _ z=>z) λ_ _ _ z=>z,?_,hE⟩
 .obtain⟨sl,q'⟩:=un.slot b o q n hb (λz=>nomatch z);obtain⟨sl',q2⟩:=slot b hb _ q';exact⟨sl',q2⟩
 .obtain⟨o',q'⟩:=un.there b o q (λz=>nomatch z);by_cases hb:b∈frs outer
  .obtain⟨sl,q2⟩:=slot b hb _ q';exact⟨_,q2⟩
  .exact⟨_,keep b o' q' (nold b o q hb)⟩
 .rcases hb with rfl|hb
  .exact ntrk _ _ q
  .exact ntrk _ _ hb
 .obtain⟨oe,vs,T,oT,ts,he,⟨hc,h0⟩,hd,h1,hnT,hTe,hT,hdT,h3⟩:=k3;refine⟨λb ⟨o,q⟩=>F.new b (.inl ⟨o,q,λz=>nomatch z⟩),F.free,oe,vs,a0,he,hc,hd,h0,.inr ⟨T,oT,ts,.none,h1,hTe,hT,hdT,⟨h3,rfl⟩,?_,λb ⟨o,q⟩ z=>?_⟩⟩
  .cases r:H' T with
   |none=>rfl
   |some u =>obtain⟨ob,q⟩:=(I.hok T u r).get;rw[W.hideAll_get _ q (ntrk T u r)]at hnT;cases hnT
  .subst z;obtain⟨o',q'⟩:=un.there b o q (λz=>nomatch z);by_cases hb:b∈frs outer
   .obtain⟨o2,q2,nf⟩:=fr b hb;obtain⟨sl,q3⟩:=slot b hb o2 q2;rw[q3]at hT;cases hT;exact nf ts hdT
   .rw[W.hideAll_get _ q' (nold b o q hb)]at hnT;cases hnT
theorem Du(I:Inv (q8 (CX1 P w) P w K mg base N qual scope f cd A outer s H E) pins σ H' s')(F:FlQ (flF (q8 (CX1 P w) P w K mg base N qual scope f cd A outer s H E).env) (Old (q8 (CX1 P w) P w K mg base N qual scope f cd A outer s H E) pins) H' s'.heap e C)(hE:E C a8 H') :
  (q8 (CX1 P w) P w K mg base N qual scope f cd A outer s H E).xe (.ref e) s':=by
 obtain⟨oe,vs,a0,he,hc,hd,h0,hT⟩:=F.obj;have hsN:∀b,(∃o,s.heap.get? b=a5 o)->Old (q8 (CX1 P w) P w K mg base N qual scope f cd A outer s H E) pins b:=λb ⟨o,q⟩=>.inl ⟨o,q,λz=>nomatch z⟩;have hin:∀(as:List ae),(∀b∈frs (bB qual scope s.heap.objs.size f cd::outer),b∈as)->∀env∈bB qual scope s.heap.objs.size f cd::outer,∀a,env.frame=a5 a->a∈as:=λas h env he a ha=>h a (Pn.mpr ⟨env,he,ha⟩);subst hc;rcases hT with h1|⟨T,oT,ts,fl,h1,hTe,hT,hdT,⟨h3,hfl⟩,hTf,hTn⟩
 .let as:=e::frs (bB qual scope s.heap.objs.size f cd::outer)
  have hfa:∀b∈frs (bB qual scope s.heap.objs.size f cd::outer),b∈as:=λb hb=>km _ hb;refine wpAny_leaving_firstW (base:=W.hideAll s'.heap as) I.ok.frames (W.funFrames_hide I.stack (hin as hfa)) rfl he (λb o q=>W.of_hideAll _ q) (T4 _ (xm ..)) hd h1 h0 λh' hL =>Nv I F hE (λb=>⟨λz=>?_,λz=>z.elim (hfa b) λz=>z.2.2⟩) hfa hL
  rcases xj.mp z with e1|z'
  .subst e1;exact .inr ⟨λq=>F.new _ (hsN _ q) rfl,F.free,z⟩
  .exact .inl z'
 .let as:=e::T::frs (bB qual scope s.heap.objs.size f cd::outer)
  have hfa:∀b∈frs (bB qual scope s.heap.objs.size f cd::outer),b∈as:=λb hb=>km _ (km _ hb);have mem:∀b∈as,b∈frs (bB qual scope s.heap.objs.size f cd::outer)\/(¬(∃o,s.heap.get? b=a5 o)/\H' b=a8/\b∈as):=λb z=>by
   rcases xj.mp z with e1|z'
   .subst e1;exact .inr ⟨λq=>F.new _ (hsN _ q) rfl,F.free,z⟩
   .rcases xj.mp z' with e1|z2
    .subst e1;exact .inr ⟨λq=>hTn _ (hsN _ q) rfl,hTf,z⟩
    .exact .inl z2
  have tr:s'.heap.TracedAtW (W.hideAll s'.heap as) e oe.cls a0 fl:=⟨oe,vs,T,oT,ts,he,⟨rfl,h0⟩,hd,h1,T4 _ (km _ (xm ..)),hTe,hT,hdT,h3⟩
  rcases hfl with hfl|⟨L,hfL,hfl⟩
  .subst hfl;exact wpAny_leaving_nextW (base:=W.hideAll s'.heap as) (a0:=a0) I.ok.frames (W.funFrames_hide I.stack (hin as hfa)) rfl tr
    (λb o q=>W.of_hideAll _ q) (T4 _ (xm ..)) λh' hL =>
    Nv I F hE (λb=>⟨mem b,λz=>z.elim (hfa b) λz=>z.2.2⟩) hfa hL
  .subst hfl;show ax _ _ (leaving _ (.ref e)) _ _ s';unfold leaving;refine ai (iK (base:=W.hideAll s'.heap as) (a0:=a0) hfL tr ?_);exact iZ (base:=W.hideAll s'.heap as) (a0:=a0) (λb o q=>W.of_hideAll _ q) (W.funFrames_hide I.stack (hin as hfa)) tr λh' k1 k2 k3 k4 =>Nv I F hE (λb=>⟨mem b,λz=>z.elim (hfa b) λz=>z.2.2⟩) hfa ⟨k1,k2,k3,λb o hb hn=>⟨o.slots,k4 b o hb hn⟩⟩
end
def spX(K:k83)(mg:k86)(S:List D->ah->Prop):Sp:=λvs H _ E=>∃ds x C,TabOk K H/\j5 K H ds vs/\S ds x/\mg x=a5 C/\∀H',j4 H H'->E C a8 H'
section
variable{P:ar}{w:aA}{K:k83}{mg:k86}{base:aG}{x qual:ah}{st:aN}{f:ae}{fd:aJ}{N ps:List ah}{k:Nat}
theorem j5l{S:List D->ah->Prop}(F:Fun K x qual st f fd)(Sc:FnScope N ps (j0 st))(hl:∀ds y,S ds y->ds.length=ps.length)
  (hbody:∀(cdv:aa)(A:aC)(outer:List cI)(s:af)(H:Hp)(E:XK),Vu K f cdv->Room k (A.deeper (bB qual (j0 st) s.heap.objs.size f cdv))->∀ds y,S ds y ->
   DSs (q8 (CX1 P w) P w K mg base N qual (j0 st) f cdv A outer s H E) (jx N ds) (jc st) { nx:=λ_=>False,rt:=λ_=>False,ex:=λz _=>z=y }):FnOk P w K mg base (CX1 P w) (k+1) f fd ps (spX K mg S):=by
 obtain⟨oc,od,dV,kV,doc,pm,an,cdv,ct,osl,rfl,lk,hcd⟩:=F.ex;refine j37 lk hcd Sc (λvs H Q E ⟨ds,y,C,tb,en,hS,_⟩=>by rw[en.length];exact hl ds y hS) λA outer s H vs Q E hr ⟨ds,y,C,tb,en,hS,hC,hE⟩=>⟨_,V1,?_⟩
 have ho:=Qi N ds;refine hbody cdv A outer s H E ⟨oc,od,_,osl,lk,rfl⟩ hr ds y hS (start N vs) H _ (Zv tb en) ⟨λρ' σ' H' n R f=>n.elim,λ_ _ _ z=>z.elim,λ_ _ _ z=>z.elim,λr v H' n z=>n.elim,λz ρ' σ' H' n R g=>?_⟩;cases(show z=y from n);intro pins H2 s' e C' I g2 hC' Fe;cases hC.symm.trans hC';unfold Fr0 at g;rw[ho,vf]at g;exact Du I Fe (hE H2 ((g.trans jo).trans g2))
end
def DX(X:Cx)(ρ:Rho)(e:aj)(x:ah):Prop:=∀σ H Q,Rep X.K ρ σ H->Od X σ H x->J5 X e σ H Q
def DXA(X:Cx)(ρ:Rho)(es:List aj)(x:ah):Prop:=∀σ H Q,Rep X.K ρ σ H->Od X σ H x->Mr X es σ H Q
structure CalX(X:Cx)(x:ah)(sp:Sp):Prop where
 ex:∃(k:Nat)(f:ae)(fd:aJ)(ps:List ah),FnOk X.prog X.w X.K X.mg X.base (CX1 X.prog X.w) k f fd ps sp/\Room k X.A/\X.mg x=a5 (.ref f)/\W.keepIn X.K (.ref f)=a7/\Binds X.K fd ps []
section
variable{X:Cx}{ρ:Rho}{e:aj}{es:List aj}{f x:ah}{ds:List D}{p pos:aO}{C:aa}
theorem DX.call {S:List D->ah->Prop} (c:CalX X f (spX X.K X.mg S)) (ha:DTA X ρ (e::es) ds) (hS:S ds x) (hC:X.mg x=a5 C) (hg:Gl X f) (hdb:(f==k87)=a6)
  (he:a9 (e::es) X.env=(a6,aE e X.env)::a9 es X.env) (hpl:(aR pos (a9 es X.env)).any (·.1)=a6):DX X ρ (.Call (.Name f p) (e::es) [] pos) x:=λσ H Q R k pins s I=>by
 obtain⟨n,fa,fd,ps,F,hr,hm,hk,hb⟩:=c.ex;refine br (Zg I hg hm ?_ hdb);refine W.callWith_K (h₀:=X.base) I.ok.mod.kin hk (thn (ha σ H (λvs H1=>j4 H H1/\j5 X.K H1 ds vs) R (λvs H1 g e=>⟨g,e⟩) pos pins s I) λus s1 ⟨vs,H1,I1,r,g,en⟩=>⟨I1.kIn,?_⟩) he hpl;have sp:spX X.K X.mg S vs H1 (λ_ _=>False) (λC' _ H'=>C'=C/\j4 H1 H'):=⟨ds,x,C,R.tb.mono g,en,hS,hC,λH' g=>⟨rfl,g⟩⟩
 have hl:us.length=ps.length:=by rw[<-r.length];exact F.len _ _ _ _ sp
 have hb':=hb s1 us I1.kIn (by rw[Xr];exact hl);rw[Xr]at hb';refine jZ (cg (F.run X.A X.stack s1 H1 ⟨us,[]⟩ us vs _ _ hr I1.env0 hb' r sp) λr s' hq=>?_);cases r with
 |error ev =>obtain⟨e,C',H',rfl,os,bare,un,hok,fl,rfl,g'⟩:=hq;have I':Inv X pins σ H' s':=I1.call' os un hok bare (λb z=>nomatch z);refine k pins H' s' e C' I' (g.trans g') hC (FlQ.up fl (λ_ z=>.inl z) λb hb=>I1.old hb)
 |ok fl =>
  cases fl with
  |ret u=>obtain⟨_,_,_,_,_,_,_,z⟩:=hq;exact z.elim
  |next=>exact aY hq
  |brk=>exact aY hq
  |cont=>exact aY hq
end
section
variable{X:Cx}{ρ:Rho}{e:aj}{es:List aj}{x:ah}{d:D}{p pos np cpos:aO}{P:Po}{i:Int}{y:ah}{ys:List ah}
theorem DE.fmtI(ha:DT X ρ e (.int i))(hi:i.natAbs.log2<1920):DE X ρ (.FormattedValue e (-1) a8 pos) (.str (toString i)):=λσ H Q R q pins s I=>by
 refine eY (thn (ha σ H (λv H1=>v=.int i/\j4 H H1) R (λv H1 g e=>⟨e,g⟩) pins s I) λu s1 ⟨v,H1,I1,r,ev,g⟩=>?_);subst ev;obtain⟨t,rfl⟩:=(show ∃t,u=bA i t from r)
 exact formatField_int_small hi ⟨.str (toString i),H1,I1.un (t':=s1.toks+1+1) Un.refl I1.hok,⟨_,rfl⟩,q _ H1 g rfl⟩
theorem DE.fmtS(ha:DT X ρ e (.str y))(hy:y.length<=ak):DE X ρ (.FormattedValue e (-1) a8 pos) (.str y):=λσ H Q R q pins s I=>by
 refine eY (thn (ha σ H (λv H1=>v=.str y/\j4 H H1) R (λv H1 g e=>⟨e,g⟩) pins s I) λu s1 ⟨v,H1,I1,r,ev,g⟩=>?_);subst ev;obtain⟨t,rfl⟩:=(show ∃t,u=bD y t from r)
 exact lI (λt' tk=>⟨.str y,H1,I1.un (t':=tk) Un.refl I1.hok,⟨_,rfl⟩,q _ H1 g rfl⟩) hy
noncomputable def Bj(out:ah):List ah->ah
 |[]=>out
 |y::ys=>Bj (out++y) ys
def DPs(X:Cx)(ρ:Rho):List aj->List ah->Prop
 |[],[]=>True
 |e::es,y::ys=>DE X ρ e (.str y)/\DPs X ρ es ys
 |_,_=>False
theorem Ep:∀{es:List aj}{ys:List ah}{out:ah}{n:Nat}{pins:k85} {σ:St} {H0 H:Hp} {s:af} {Q:VK},DPs X ρ es ys->(∀y∈ys,y.length<=10000)->out.length+10000*ys.length<=ak->Inv X pins σ H s->Rep X.K ρ σ H->j4 H0 H ->
  (∀H',j4 H0 H'->Q (.str (Bj out ys)) H')->ax (au X.prog X.w) X.A (joinParts out (evalEach es X.env)) (EP X pins σ Q) X.xe s
 |[],[],out,n,pins,σ,H0,H,s,Q,_,_,hl,I,R,g,q=>joinParts_nil ⟨.str out,H,I.un (t':=s.toks+1) Un.refl I.hok,⟨_,rfl⟩,q H g⟩ (by have:=hl;omega)
 |e::es,y::ys,out,n,pins,σ,H0,H,s,Q,hp,hy,hl,I,R,g,q=>by
  have hy0:=hy y (xm ..);rw[X4]at hl;refine joinParts_cons (thn (hp.1 σ H (λv H1=>v=.str y/\j4 H H1) R (λv H1 g e=>⟨e,g⟩) pins s I) λu s1 ⟨v,H1,I1,r,ev,g1⟩=>?_);subst ev;obtain⟨t,rfl⟩:=(show ∃t,u=bD y t from r)
  have hz:(out++y).length<=out.length+10000:=by rw[strLen_append];omega
  exact⟨by omega,Ep (n:=n) hp.2 (λz hz=>hy z (km _ hz)) nofun I1 (R.grow g1) (g.trans g1) q⟩
 |[],_::_,_,_,_,_,_,_,_,_,h,_,_,_,_,_,_=>h.elim
 |_::_,[],_,_,_,_,_,_,_,_,h,_,_,_,_,_,_=>h.elim
theorem DE.joined{a b:aj}(h:DPs X ρ (a::b::es) ys)(hy:∀y∈ys,y.length<=10000)(hl:ys.length<=1000):DE X ρ (.JoinedStr (a::b::es) pos) (.str (Bj cY ys)):=λσ H Q R q pins s I =>
 JoinedStr_many (Ep (n:=0) (out:=cY) h hy (by
  have e:Str.empty.length=0:=rfl
  rw[e,b8];omega) I R (j4.refl H) λH' g=>q _ H' g rfl)
theorem jcu{Q:VK}{σ:St}{H:Hp}(he:J5 X e σ H Q)(hs:a9 [e] X.env=[(a6,aE e X.env)]):Mr X [e] σ H (λvs H'=>∃v,vs=[v]/\Q v H') :=
 (j9 (es:=[]) peS jm hs).to λpins s I=>thn (he pins s I) λu s' ⟨v,H',I',r,q⟩=>⟨v,H',I',r,⟨v,rfl,q⟩⟩
theorem DS.raise{C:ae}{bm bmN:List aa}{newId B Bn nid initId inN:String}(O:OwnCls x C bm newId X.mg X.base)(Fn:ExcBaseFacts Bn newId inN bmN)(hBn:bm.contains (.type Bn)=a7)(FB:ExcBaseFacts B nid initId bm)(hc:X.calm=a7)
  (ha:∀σ H,Rep X.K ρ σ H->J5 X e σ H λ_ H'=>j4 H H') (hP:P.ex x ρ) (hg:Gl X x) (hdb:(x==k87)=a6) (he:a9 [e] X.env=[(a6,aE e X.env)])
  : DS X ρ (.Raise (a5 (.Call (.Name x np) [e] [] cpos)) a8 pos) P:=λσ H E R q pins s I=>by
 obtain⟨tl,N,nm,qn,bs,hdct,sn,sub,ab,col,dd,k0,k1,k2,k3,k5,mN,hC,hN,hni,T⟩:=O.obj;refine wpAny_Raise_call_subU (C:=C) (nm:=nm) (q:=qn) (N:=N) (bs:=bs) (bm:=tl) (hdct:=hdct) (sn:=sn) (sub:=sub) (ab:=ab) (col:=col) (dd:=dd) (k0:=k0) (k1:=k1) (k2:=k2) (k3:=k3) (k5:=k5)
  Fn hBn FB (mN:=mN) (T.hasType FB.hasBase) (I.ok.hd hc) (by rw[he];rfl) hni (Zg I hg O.bound ⟨rfl,?_⟩ hdb)
 have hsp:=jcu (ha σ H R) he cpos pins s I;rw[he]at hsp ⊢;refine gY (thn hsp λus s2 ⟨vs,H1,I1,r,v,ev,g⟩=>⟨rfl,?_,I1.bk _ _ hC,hN.keeps I1.bk,T.keeps I1.bk,λh' e' hm=>?_⟩)
 .show us.length<=ak;rw[<-r.length,ev];show 1<=ak;rw[b8];omega
 .have nold:∀b,(∃o,s2.heap.get? b=a5 o)->b≠e':=λb ⟨o,q⟩ z=>by rw[z,hm.new]at q;cases q
  obtain⟨t,ht,_,_⟩:=hm.there;refine q.ex x ρ σ H hP R (Fr0.refl _ _) pins H1 { s2 with heap:=h' } e' (.ref C) (I1.un (t':=s2.toks) (Un.kept hm.keeps) (I1.hok.kept hm.keeps)) g O.bound ⟨λb hb=>nold b (I1.old hb),?_,_,_,_,ht,rfl,rfl,rfl,.inl rfl⟩;cases z:H1 e' with
  |none=>rfl
  |some u=>exact absurd rfl (nold e' (I1.hok e' u z).get)
end
structure FlT(N:ae->Prop)(H:Hp)(h:aG)(e:ae)(C fl:aa):Prop where
 new:∀b,N b->b≠e
 free:H e=a8
 obj:∃(oe:cF)(vs:Array aa)(a0:aa)(T:ae)(oT:cF)(ts:Array aa),h.get? e=a5 oe/\oe.cls=C/\oe.data=.fields vs/\vs[0]?=a5 a0/\vs[1]?=a5 (.ref T)/\T≠e/\h.get? T=a5 oT/\oT.data=.fields ts/\ts[3]?=a5 fl /\
  H T=a8/\∀b,N b->b≠T
section
variable{X:Cx}{pins:k85}{σ:St}{H:Hp}{s:af}{e:ae}{C fl:aa}{M:gv}{A:aC}{E:k84}
theorem Inv.noted{as:List ae}{h':aG}(I:Inv X pins σ H s)(ha:∀b∈as,b∈frs X.stack\/(H b=a8/\∀c,Old X pins c->c≠b))
  (keep:∀b o,s.heap.get? b=a5 o->b∉as->h'.get? b=a5 o) (slot:∀b o,s.heap.get? b=a5 o->(∀vs,o.data≠.fields vs)->∃sl,h'.get? b=a5 { o with slots:=sl }):Inv X pins σ H { s with heap:=h' }:=by
 have sf:=I.stkFree;have ntrk:∀b u,H b=a5 u->b∉as:=λb u q z=>by
  rcases ha b z with z|⟨z,_⟩
  .rw[sf b z]at q;cases q
  .rw[z]at q;cases q
 have nold:∀b,Old X pins b->b∉frs X.stack->b∉as:=λb ho nf z=>(ha b z).elim nf λq=>q.2 b ho rfl;have nst:∀b o,X.s₀.heap.get? b=a5 o->b∉X.fs->b∉frs X.stack:=λb o q n z=>by
  rcases xj.mp (I.stkSub b z)with z|z
  .have:=xn q;rw[z]at this;exact absurd (Xf this I.ok.above) (Xx _)
  .exact n z
 have nf:∀b∈frs X.stack,∀o,s.heap.get? b=a5 o->∀vs,o.data≠.fields vs:=λb hb o q=>by obtain⟨o',ho,hd⟩:=(I.stack.mem hb).2;rw[q]at ho;cases ho;exact hd
 have nff:∀b∈X.fs,∀o,s.heap.get? b=a5 o->∀vs,o.data≠.fields vs:=λb hb o q=>by obtain⟨o',ho,hd⟩:=(I.funs.mem hb).2;rw[q]at ho;cases ho;exact hd
 have cel:∀{c:ae}{v:Option aa},s.heap.IsCell c v->h'.IsCell c v:=λ{c v} ⟨o,q,hd⟩=>by
  obtain⟨sl,q'⟩:=slot c o q λvs z=>by rw[hd]at z;cases z
  exact⟨_,q',hd⟩
 obtain⟨m,hn,hl⟩:=id I.loc;have up:s.heap.UpToSlots h':=slot;refine⟨I.ok,I.os,I.bare,⟨λb o e n hb hx=>keep b o (I.base.keep b o e n hb hx) (nold b (.inl ⟨o,e,hx⟩) (nst b o e hb)),λb o e n hb hx=>?_,I.base.free,λb o e hx=>?_,I.base.tups,I.base.frzs,I.base.tbls⟩,
  ⟨m,up.ns hn,λi x v h1 h2 h3=>?_⟩,λx c e=>?_,I.free,I.freeC,λp hp=>?_,λa o q=>(I.hok a o q).stay (λb u hb r=>keep b u r ?_) (λ_ z=>z) (λ_ _ z=>z) λ_ _ _ z=>z,I.len⟩
 .obtain⟨sl,e1⟩:=I.base.slot b o e n hb hx;obtain⟨sl',e2⟩:=slot b _ e1 (nff b hb _ e1);exact⟨sl',e2⟩
 .obtain⟨o',e1⟩:=I.base.there b o e hx;by_cases hb:b∈frs X.stack
  .obtain⟨sl,e2⟩:=slot b o' e1 (nf b hb o' e1);exact⟨_,e2⟩
  .exact⟨o',keep b o' e1 (nold b (.inl ⟨o,e,hx⟩) hb)⟩
 .obtain⟨u,r,q⟩:=hl i x v h1 h2 h3;exact⟨u,r,q.imp id λ⟨k,c,e,z⟩=>⟨k,c,e,cel z⟩⟩
 .obtain⟨v,z⟩:=I.cell x c e;exact⟨v,cel z⟩
 .obtain⟨q,n,nl,nfs,d⟩:=I.pin p hp;refine⟨keep p.1 p.2 q (nold p.1 (.inr (.inl ⟨p,hp,rfl⟩)) λz=>?_),n,nl,nfs,d⟩;rcases xj.mp (I.stkSub p.1 z)with z|z
  .exact nl z
  .exact nfs z
 .rcases hb with rfl|hb
  .exact ntrk _ _ q
  .exact ntrk _ _ hb
theorem Mv{as:List ae}{h':aG}{a0:aa}(I:Inv X pins σ H s)(hn:∀b,Old X pins b->b≠e)(hf:H e=a8)(ha:∀b∈as,b∈frs X.stack\/(H b=a8/\∀c,Old X pins c->c≠b))(hfa:∀b∈frs X.stack,b∈as)
  (k1:(W.hideAll s.heap as).StaysIn h') (k3:h'.TracedAtW (W.hideAll s.heap as) e C a0 fl) (k4:∀b o,s.heap.get? b=a5 o->(∀vs,o.data≠.fields vs)->∃sl,h'.get? b=a5 { o with slots:=sl }) :
  Inv X pins σ H { s with heap:=h' }/\FlT (Old X pins) H h' e C fl:=by
 have keep:∀b o,s.heap.get? b=a5 o->b∉as->h'.get? b=a5 o:=λb o q n=>k1 b o (W.hideAll_get _ q n);refine⟨I.noted ha keep k4,hn,hf,?_⟩;obtain⟨oe,vs,T,oT,ts,he,⟨hc,h0⟩,hd,h1,hnT,hTe,hT,hdT,h3⟩:=k3;refine⟨oe,vs,a0,T,oT,ts,he,hc,hd,h0,h1,hTe,hT,hdT,h3,?_,λb hb z=>?_⟩
 .cases r:H T with
  |none=>rfl
  |some u =>
   obtain⟨ob,q⟩:=(I.hok T u r).get;have:T∉as:=λz=>by
    rcases ha T z with z|⟨z,_⟩
    .rw[I.stkFree T z]at r;cases r
    .rw[z]at r;cases r
   rw[W.hideAll_get _ q this]at hnT;cases hnT
 .subst z;obtain⟨o,q⟩:=I.old hb;by_cases hs:b∈as
  .rcases ha b hs with hs|⟨_,z⟩
   .obtain⟨o',ho,nf⟩:=(I.stack.mem hs).2;obtain⟨sl,q3⟩:=k4 b o' ho nf;rw[q3]at hT;cases hT;exact nf ts hdT
   .exact z b hb rfl
  .rw[W.hideAll_get _ q hs]at hnT;cases hnT
theorem Fg(I:Inv X pins σ H s){as:List ae}(hfa:∀b∈frs X.stack,b∈as):s.heap.FunFrames (W.hideAll s.heap as) X.stack :=
 W.funFrames_hide I.stack λenv he a ha=>hfa a (Pn.mpr ⟨env,he,ha⟩)
theorem Bb{e:aa}{env env':cI}(h:env.frame=env'.frame):dk e env=dk e env':=by unfold dk PySem.frameOf;rw[h]
theorem jc1{Q:Unit->af->Prop}{env0:cI}{out0:List cI}{L:ae}(I:Inv X pins σ H s)(hst:X.stack=env0::out0)(hfm:env0.frame=a5 L)(hfx:X.env.frame=a5 L)(F:FlQ (flF X.env) (Old X pins) H s.heap e C)
  (h:∀h',Inv X pins σ H { s with heap:=h' }->FlT (Old X pins) H h' e C (k8 L)->Q () { s with heap:=h' }):ax (au X.prog X.w) X.A (dk (.ref e) X.env) Q E s:=by
 rw[Bb (hfx.trans hfm.symm)];obtain⟨oe,vs,a0,he,hc,hd,h0,hT⟩:=F.obj;subst hc;have hfr:X.A.frames=a5 (env0::out0):=by rw[<-hst];exact I.ok.frames
 rcases hT with h1|⟨T,oT,ts,fl,h1,hTe,hT,hdT,⟨h3,hfl⟩,hTf,hTn⟩
 .have hfa:∀b∈frs X.stack,b∈e::frs X.stack:=λb hb=>km _ hb;have hl:=Fg I hfa;rw[hst]at hl;unfold dk;simp only[hfm];refine ai (cE he hd h1 ?_);rw[if_neg (by decide)];refine wpAny_entryW (base:=W.hideAll s.heap (e::frs X.stack)) hfr (by rw[<-hst]at hl ⊢;exact hl) hfm he (λb o q=>W.of_hideAll _ q) (T4 _ (xm ..)) hd (Array.getElem?_eq_some_iff.mp h1).1 h0 λh' ⟨k1,_,k3,k4⟩=>?_;obtain⟨I',F'⟩:=Mv (as:=e::frs X.stack) I F.new F.free (λb hb=>(xj.mp hb).elim (λz=>.inr ⟨z▸F.free,λc hc=>z▸F.new c hc⟩) .inl) hfa k1 k3 k4;exact h h' I' F'
 .rcases hfl with hfl|⟨L',hL',hfl⟩
  rotate_left
  .subst hfl;cases hfx.symm.trans hL';refine iK (base:=W.hideAll s.heap [T]) (a0:=a0) (cls:=oe.cls) hfm ⟨oe,vs,T,oT,ts,he,⟨rfl,h0⟩,hd,h1,T4 _ (xm ..),hTe,hT,hdT,h3⟩ ?_;exact h s.heap I ⟨F.new,F.free,oe,vs,a0,T,oT,ts,he,rfl,hd,h0,h1,hTe,hT,hdT,h3,hTf,hTn⟩
  subst hfl;have hfa:∀b∈frs X.stack,b∈e::T::frs X.stack:=λb hb=>km _ (km _ hb);have hl:=Fg I hfa;refine wpAny_noteFrame_onW (base:=W.hideAll s.heap (e::T::frs X.stack)) (a0:=a0) hfr (by rw[<-hst];exact hl) hfm ⟨oe,vs,T,oT,ts,he,⟨rfl,h0⟩,hd,h1,T4 _ (km _ (xm ..)),hTe,hT,hdT,h3⟩
   (λb o q=>W.of_hideAll _ q) (T4 _ (xm ..)) λh' ⟨k1,_,k3,k4⟩=>?_
  obtain⟨I',F'⟩:=Mv (as:=e::T::frs X.stack) I F.new F.free (λb hb=>(xj.mp hb).elim (λz=>.inr ⟨z▸F.free,λc hc=>z▸F.new c hc⟩) λhb=>(xj.mp hb).elim (λz=>.inr ⟨z▸hTf,λc hc=>z▸hTn c hc⟩) .inl) hfa k1 k3 k4;exact h h' I' F'
theorem j1l{Q:Unit->af->Prop}(I:Inv X pins σ H s)(F:FlT (Old X pins) H s.heap e C fl)
  (h:∀h',Inv X pins σ H { s with heap:=h' }->FlT (Old X pins) H h' e C .none->Q () { s with heap:=h' }):ax M A (kS (.ref e) a8) Q E s:=by
 obtain⟨oe,vs,a0,T,oT,ts,he,hc,hd,h0,h1,hTe,hT,hdT,h3,hTf,hTn⟩:=F.obj;subst hc;have hfa:∀b∈frs X.stack,b∈e::T::frs X.stack:=λb hb=>km _ (km _ hb);refine iZ (base:=W.hideAll s.heap (e::T::frs X.stack)) (a0:=a0) (fl:=fl) (l:=X.stack) (λb o q=>W.of_hideAll _ q) (Fg I hfa)
  ⟨oe,vs,T,oT,ts,he,⟨rfl,h0⟩,hd,h1,T4 _ (km _ (xm ..)),hTe,hT,hdT,h3⟩ λh' k1 _ k3 k4=>?_
 obtain⟨I',F'⟩:=Mv (as:=e::T::frs X.stack) I F.new F.free (λb hb=>(xj.mp hb).elim (λz=>.inr ⟨z▸F.free,λc hc=>z▸F.new c hc⟩) λhb=>(xj.mp hb).elim (λz=>.inr ⟨z▸hTf,λc hc=>z▸hTn c hc⟩) .inl) hfa k1 k3
  (λb o q nf=>⟨o.slots,k4 b o q nf⟩)
 exact h h' I' F'
theorem Inv.track{oe:cF}(I:Inv X pins σ H s)(he:s.heap.get? e=a5 oe)(hn:∀b,Old X pins b->b≠e)(hf:H e=a8):Inv X pins σ (upd H e (.frz oe (.own e))) s:=by
 have ne:∀{b:ae}{u:HO},H b=a5 u->b≠e:=λ{b u} q z=>by rw[z,hf]at q;cases q
 refine⟨I.ok,I.os,I.bare,⟨I.base.keep,I.base.slot,λb o q n hx=>?_,I.base.there,λb xs q=>?_,λb o u q=>?_,λb ps q=>?_⟩,I.loc,I.cell,?_,λx c q=>?_,λp hp=>?_,λa o q=>?_,I.len⟩
 .rw[jd (hn b (.inl ⟨o,q,hx⟩))];exact I.base.free b o q n hx
 .have z:=I.base.tups b xs q;rw[jd (ne z)];exact z
 .have z:=I.base.frzs b o u q;rw[jd (ne z)];exact z
 .obtain⟨m,z⟩:=I.base.tbls b ps q;exact⟨m,by rw[jd (ne z)];exact z⟩
 .rw[jd (hn _ (.inr (.inr (.inl rfl))))];exact I.free
 .rw[jd (hn _ (.inr (.inr (.inr ⟨x,q⟩))))];exact I.freeC x c q
 .obtain⟨q,n,r⟩:=I.pin p hp;exact⟨q,by rw[jd (hn _ (.inr (.inl ⟨p,hp,rfl⟩)))];exact n,r⟩
 .by_cases z:a=e
  .subst z;rw[jb]at q;cases q;exact⟨he,oe,he⟩
  .rw[jd z]at q;exact(I.hok a o q).stay (λ_ _ _ r=>r) (λb r=>by rw[jd (ne r)];exact r) (λb xs r=>by rw[jd (ne r)];exact r) λb _ _ r=>by rw[jd (ne r)];exact r
theorem jcr{j:Nat}{n:ah}{pos:aO}{Q:Unit->af->Prop}(I:Inv X pins σ H s)(hN:X.N.Nodup)(hj:X.N[j]?=a5 n)(hk:X.env.kindOf n=a5 .local)
  (h:∀s',Inv X pins (σ.set j a8) H s'->Q () s'):ax M A (do bindName X.env n .none;unbindBehindTheSuite X.env n pos) Q E s:=by
 obtain⟨m,hn,hl⟩:=id I.loc;have hcls:(X.env.scope.kind==.class || (X.env.scope.kind==.module&&X.env.locals != X.env.globals))=a6:=by rw[I.ok.kind];rfl
 refine wpAny_nameGoes_keeps hk hn hcls λh' v hn' hs=>h _ ?_;have cne:=I.cne;refine⟨I.ok,I.os,I.bare,⟨λb o e n hb hx=>?_,λb o e n hb hx=>?_,I.base.free,λb o e hx=>?_,I.base.tups,I.base.frzs,I.base.tbls⟩,⟨_,hn',λi y v' e1 e2 e3=>?_⟩,λy c e=>?_,I.free,I.freeC,λp hp=>?_,λb ob e=>?_,by simpa using I.len⟩
 .exact(hs.2 b (X7 (Xf (xn e) I.ok.above))).trans (I.base.keep b o e n hb hx)
 .obtain⟨sl,e1⟩:=I.base.slot b o e n hb hx;exact⟨sl,(hs.2 b (X7 (Xf (xn e) I.ok.above))).trans e1⟩
 .obtain⟨o',e1⟩:=I.base.there b o e hx;exact⟨o',(hs.2 b (X7 (Xf (xn e) I.ok.above))).trans e1⟩
 .by_cases hij:i=j
  .subst hij;rcases getElem?_set_of e2 with ⟨_,z,_⟩|⟨z,_⟩
   .cases z
   .exact absurd rfl z
  .rw[Tf (bT hij)]at e2;obtain⟨u',r',q⟩:=hl i y v' e1 e2 e3;refine⟨u',r',?_⟩;rcases q with ⟨k,e⟩|⟨k,c,e,z⟩
   .refine .inl ⟨k,?_⟩;have:y≠n:=λe=>hij (Mw hN e1 (e▸hj));simp[this,e]
   .exact .inr ⟨k,c,e,z.sameBut hs (cne y c e)⟩
 .obtain⟨w',z⟩:=I.cell y c e;exact⟨w',z.sameBut hs (cne y c e)⟩
 .obtain⟨e,n,ne,nf,d⟩:=I.pin p hp;exact⟨(hs.2 p.1 ne).trans e,n,ne,nf,d⟩
 .refine(I.hok b ob e).stay (λc w' hc q=>(hs.2 c ?_).trans q) (λ_ q=>q) (λ_ _ q=>q) λ_ _ _ q=>q;rintro rfl;rcases hc with rfl|hc
  .rw[I.free]at e;cases e
  .rw[I.free]at hc;cases hc
end
end L2
end
section
namespace PySem.W
open PySem PySem.Spec PySem.Calls PyProof.Rows Builtin Builtin.ObjectAttr Builtin.Getset_descriptor
section
variable{prog:ar}{w:aA}{A:aC}{E:k84}{h:aG}{g:Array hJ}{d:Drawn}{t:Nat}{os:OsState}{K:lO}{e C:ae}
theorem j5n {R:eV->af->Prop} {tp:aa} (X:K.In h) (LT:Looks (au prog w) h (typeOf (.ref e)) (.ref C)) (hm:mroIn K C (.type "object")=a5 a7)
  (hq:R (.ok (.ret (.ref C))) ⟨h,g,d,t,os⟩):cu (au prog w) A (.call (.builtin "getset_descriptor.__get__") ⟨[.builtin "object.__class__",.ref e,tp],[]⟩) R ⟨h,g,d,t,os⟩:=by
 have L1:=looks_mroIn (M:=au prog w) X hm;refine jF KF.slot_gs.plain KF.entry_gs (KF.slot_gs.check _ _ _ _ _ _ _ _ KF.type_class (KF.args_gs _ _ _) ?_);unfold dh.«getset_descriptor.__get__» descrGet;rw[dga_obj];refine ai (az ?_);unfold descrGetter descrCheckInstance descrNameAndClass isInstance;simp only[KF.owner_class]
 repeat lk
 refine⟨Code.quiet_builtin _ (by decide +kernel),gD KF.entry_class ?_⟩;unfold dh.«object.__class__» shownTypeOf
 repeat lk
 exact hq
theorem j0w {tk:jG} {o:cF} {Q:Fin->af->Prop} (X:K.In h) (hx:h.get? e=a5 o) (hc:o.cls=.ref C) (ha:gS K (.ref C) "__class__" = a5 (a5 (.builtin "object.__class__"))) (hm:mroIn K C (.type "object")=a5 a7)
  (hq:Q (.done (.ret (.ref C))) ⟨h,g,d,t,os⟩):ax (au prog w) A (dh.«object.__getattribute__» ⟨[.ref e,.str "__class__" tk],[]⟩) Q E ⟨h,g,d,t,os⟩:=by
 have hT5:(⟨h,g,d,t,os⟩:af).TypeIs (.builtin "object.__class__") "getset_descriptor":=iq;have f5:=iq;have f6:=F.slot_gs_get.lookup;have f7:=F.slot_gs_set.lookup;have L1:=iF (M:=au prog w) X ha;have LT:Looks (au prog w) h (typeOf (.ref e)) (.ref C):=hc▸(Looks.ld hx).andThen .now
 repeat (any_goals (first|assumption|(with_reducible refine fV hx ?_;rw[hc])|with_reducible refine L1.at ?_|wp_step))
 refine j5n X LT hm ?_
 repeat (any_goals (first|assumption|wp_step))
theorem j92 {M:gv} {nameV:aa} {o:cF} {Q:Unit->af->Prop} (X:K.In h) (hx:h.get? e=a5 o) (hc:o.cls=.ref C) (hs:subIn K (.ref C) (.type "BaseException")=a5 a7) (hq:Q () ⟨h,g,d,t,os⟩) :
  ax M A (kU "BaseException.__getattribute__" ⟨[.ref e,nameV],[]⟩) Q E ⟨h,g,d,t,os⟩:=by
 have hk:builtinKind "BaseException.__getattribute__" = a5 .slot:=by decide +kernel
 have hsplit:splitId "BaseException.__getattribute__" = a5 ("BaseException","__getattribute__"):=by decide +kernel
 have L2:=looks_subIn (M:=M) X hs;have ha:=F.args_bexc_ga (.ref e) nameV;simp only[kU,hk,hsplit];refine ai ?_
 .unfold isInstance
  repeat (first|(with_reducible refine fV hx ?_;rw[hc])|with_reducible refine L2.at ?_|wp_step)
  exact hq
theorem j8m {tk:jG} {o:cF} {fill expr:Bool} {Q:k84} (X:K.In h) (hx:h.get? e=a5 o) (hc:o.cls=.ref C) (hga:gS K (.ref C) "__getattribute__" = a5 (a5 (.builtin "BaseException.__getattribute__")))
  (hgt:gS K (.ref C) "__getattr__" = a5 a8) (hs:subIn K (.ref C) (.type "BaseException")=a5 a7) (ha:gS K (.ref C) "__class__" = a5 (a5 (.builtin "object.__class__"))) (hm:mroIn K C (.type "object")=a5 a7) (hpl:Slot "ValueError" "__getattribute__" "BaseException.__getattribute__")
  (hq:Q (.ref C) ⟨h,g,d,t,os⟩):ax (au prog w) A (getAttrBy (.ref e) (.str "__class__" tk) fill expr) Q E ⟨h,g,d,t,os⟩:=by
 have f3:=hpl.bind (.ref e);have hx0:(expr&&onTheHeap (de "BaseException.__getattribute__"))=a6:=by cases expr<;>rfl
 have hx2:(de "BaseException.__getattribute__" == de "object.__getattribute__")=a6:=by decide +kernel
 have hx1:(onTheHeap (aH C)&&de "BaseException.__getattribute__" == de "object.__getattribute__")=a6:=by rw[hx2];rfl
 have L1:=iF (M:=au prog w) X hga;have L2:=iF (M:=au prog w) X hgt
 repeat (any_goals (first|assumption|(with_reducible refine fV hx ?_;rw[hc])|with_reducible refine L1.at ?_|with_reducible refine L2.at ?_|wp_step))
 refine jF hpl.plain F.entry_bexc_ga (j92 X hx hc hs (j0w X hx hc ha hm ?_))
 repeat (any_goals (first|assumption|wp_step))
theorem excls_attr {o:cF} {Q:Option aa->af->Prop} (X:K.In h) (hx:h.get? e=a5 o) (hc:o.cls=.ref C) (hga:gS K (.ref C) "__getattribute__" = a5 (a5 (.builtin "BaseException.__getattribute__")))
  (hgt:gS K (.ref C) "__getattr__" = a5 a8) (hs:subIn K (.ref C) (.type "BaseException")=a5 a7) (ha:gS K (.ref C) "__class__" = a5 (a5 (.builtin "object.__class__"))) (hm:mroIn K C (.type "object")=a5 a7) (hpl:Slot "ValueError" "__getattribute__" "BaseException.__getattribute__")
  (hq:Q (a5 (.ref C)) ⟨h,g,d,t+1,os⟩):ax (au prog w) A (getAttr? (.ref e) "__class__") Q E ⟨h,g,d,t,os⟩:=by
 unfold getAttr? getAttrBy?;refine ai (wpAny_mkText (ai (mh (j8m X hx hc hga hgt hs ha hm hpl (az hq)))))
end
end PySem.W
end
section
namespace L2
open PySem PySem.Spec PyProof.Rows
noncomputable def jn:List ah:=["WrongSize","NoAsk","NoWord","Twice","WrongAnswers","Unlike","NoPlace","NoText","WrongPrices","WrongWeights","NoPlan"]
noncomputable def bmV:List aa:=[.type "ValueError",.type "Exception",.type "BaseException",.type "object"]
noncomputable def j6g(K:k83)(C:ae):Bool:=W.findIn K (.ref C) "__getattribute__" == a5 (a5 (.builtin "BaseException.__getattribute__"))&&(W.findIn K (.ref C) "__getattr__" == a5 a8&&(W.subIn K (.ref C) (.type "BaseException")==a5 a7 &&
 (W.findIn K (.ref C) "__class__" == a5 (a5 (.builtin "object.__class__"))&&(W.mroIn K C (.type "object")==a5 a7&&((W.clsIn K C).isSome&&W.excIn K C bmV "ValueError.__new__")))))
noncomputable def Qg(K:k83):Bool:=jn.all λx=>match W.nsIn K aq x with
 |some (a5 (.ref C))=>j6g K C&&(W.kitOne K (.ref C) (.type "ValueError")==a5 a7&&((match W.nsIn K aq "AskError" with
   |some (a5 a)=>W.exmOne K (.ref C) a==a5 a7
   |_=>a6)&&jn.all λc=>match W.nsIn K aq c with
   |some (a5 v)=>W.kitOne K (.ref C) v==a5 (x==c)
   |_=>a7))
 |some (a5 _)=>a6
 |_=>a7
structure XcOk(K:k83)(C:ae):Prop where
 ga:W.findIn K (.ref C) "__getattribute__" = a5 (a5 (.builtin "BaseException.__getattribute__"))
 gt:W.findIn K (.ref C) "__getattr__" = a5 a8
 sub:W.subIn K (.ref C) (.type "BaseException")=a5 a7
 cls:W.findIn K (.ref C) "__class__" = a5 (a5 (.builtin "object.__class__"))
 mro:W.mroIn K C (.type "object")=a5 a7
 is:(W.clsIn K C).isSome=a7
 exc:W.excIn K C bmV "ValueError.__new__" = a7
theorem jai{K:k83}{C:ae}(h:j6g K C=a7):XcOk K C:=by unfold j6g at h;simp only[X8,beq_iff_eq]at h;exact⟨h.1,h.2.1,h.2.2.1,h.2.2.2.1,h.2.2.2.2.1,h.2.2.2.2.2.1,h.2.2.2.2.2.2⟩
structure ExOne(K:k83)(x:ah)(C:ae):Prop where
 ok:XcOk K C
 val:W.kitOne K (.ref C) (.type "ValueError")=a5 a7
 ask:∃a,W.nsIn K aq "AskError" = a5 (a5 a)/\W.exmOne K (.ref C) a=a5 a7
 one:∀c∈jn,∀v,W.nsIn K aq c=a5 (a5 v)->W.kitOne K (.ref C) v=a5 (x==c)
theorem Zi{K:k83}(h:Qg K=a7){x:ah}{o:aa}(hx:x∈jn)(e:W.nsIn K aq x=a5 (a5 o)):∃C,o=.ref C/\ExOne K x C:=by
 have q:=Xq.mp h x hx;rw[e]at q;cases o with
 |ref C =>
  refine⟨C,rfl,?_⟩;dsimp only at q;simp only[X8,beq_iff_eq]at q;obtain⟨q1,q2,q3,q4⟩:=q;refine⟨jai q1,q2,?_,λc hc v ev=>?_⟩
  .split at q3
   .rename_i a ea;exact⟨a,ea,beq_iff_eq.mp q3⟩
   .cases q3
  .have z:=Xq.mp q4 c hc;rw[ev]at z;exact beq_iff_eq.mp z
 |_=>cases q
theorem jbt{K:k83}{h₀:aG}{C:ae}{bmB:List aa}{newId:String}{x:ah}{mg:k86}(X:K.In h₀)(hb:mg x=a5 (.ref C))(q:W.excIn K C bmB newId=a7):OwnCls x C bmB newId mg h₀:=by
 refine⟨hb,?_⟩;unfold W.excIn at q;split at q
 .rename_i dd cd sl ho;split at q
  .rename_i C' bm k0 k1 k2 k3 n k5 hm hs;simp only[X8,beq_iff_eq,f9]at q;obtain⟨⟨⟨⟨⟨rfl,rfl⟩,hdel⟩,ht⟩,hok⟩,hni⟩:=q;obtain⟨nm,bs,mro,ns,qn,hd,sn,sub,ab,col,del⟩:=cd;dsimp only at hm hdel hok hni;subst hm hdel;have hsl:sl = #[k0,k1,k2,k3,a5 (.builtin n),k5]:=by obtain⟨l⟩:=sl;simp only at hs;rw[hs]
   subst hsl;exact⟨bm,ns,nm,qn,bs,hd,sn,sub,ab,col,dd,k0,k1,k2,k3,k5,_,X _ _ ho,.of_isNs (W.isNs_of_in X hok),W.nsMap_none_of_in X hok hni,W.tail_of_in X ht⟩
  .cases q
 .cases q
theorem DS.raiseE{X:Cx}{ρ:Rho}{e:aj}{x:ah}{o:aa}{np cpos pos:aO}{P:Po}(ha:Qg X.K=a7)(hx:x∈jn)(hn:W.nsIn X.K aq x=a5 (a5 o))(hb:X.mg x=a5 o)(hK:X.K.In X.base)(hc:X.calm=a7)
  (he:∀σ H,Rep X.K ρ σ H->J5 X e σ H λ_ H'=>j4 H H') (hP:P.ex x ρ) (hg:Gl X x) (hdb:(x==k87)=a6) (hs:a9 [e] X.env=[(a6,aE e X.env)]):DS X ρ (.Raise (a5 (.Call (.Name x np) [e] [] cpos)) a8 pos) P:=by
 obtain⟨C,rfl,F⟩:=Zi ha hx hn;exact DS.raise (jbt hK hb F.ok.exc) fB (by decide +kernel) fB hc he hP hg hdb hs
theorem Em{K:k83}{e C:ae}{o:cF}(k:XcOk K C):jB K (.ref e) (.ref C) (λh=>h.get? e=a5 o/\o.cls=.ref C) where
 ty:=λ_ _ _ p=>p.2▸(PySem.W.Looks.ld p.1).andThen .now
 it:=λ_ _ X _=>by
  obtain⟨cdD,hcD⟩:=Xo.mp k.is;unfold W.clsIn at hcD;split at hcD
  .rename_i c' d' cd' sl' ho;intro A' Q' E' s' k q;unfold isType loadHead;exact ai (wpAny_loadPart (k _ _ (X _ _ ho)) (az q))
  .cases hcD
 ne:=λh tp dd its n sl X htp=>by
  obtain⟨cdD,hcD⟩:=Xo.mp k.is;refine Bool.eq_false_iff.mpr λq=>?_;have e:C=tp:=Value.ref.inj (beq_iff_eq.mp q);subst e;unfold W.clsIn at hcD;split at hcD
  .rename_i c' d' cd' sl' ho;have z:=(X _ _ ho).symm.trans htp;cases z
  .cases hcD
 ca:=λ{prog w A E Q s} X p hq=>by obtain⟨h,g,d,t,os⟩:=s;exact W.excls_attr X p.1 p.2 k.ga k.gt k.sub k.cls k.mro PySem.F.attr_ValueError.ga hq
section
variable{X:Cx}{pins pins':k85}{σ:St}{H:Hp}{s:af}{xe:k84}{e:ae}
theorem Inv.toPn(I:Inv X pins σ H s):Inv { X with pn:=X.pn++pins,xe:=xe } [] σ H s :=
 ⟨⟨I.ok.mod,I.ok.kind,I.ok.glob,I.ok.blt,I.ok.above,I.ok.inj,I.ok.has,I.ok.cab,I.ok.hd,I.ok.frames,I.ok.stk,I.ok.exf,I.ok.bs,I.ok.bsz,I.ok.noex,I.ok.exfs,I.ok.funs,I.ok.frf⟩,
  I.os,I.bare,I.base,I.loc,I.cell,I.free,I.freeC,λp hp=>I.pin p (by rw[Xr]at hp;exact hp),I.hok,I.len⟩
theorem Inv.ofPn(I:Inv { X with pn:=X.pn++pins,xe:=xe } pins' σ H s):Inv X pins σ H s :=
 ⟨⟨I.ok.mod,I.ok.kind,I.ok.glob,I.ok.blt,I.ok.above,I.ok.inj,I.ok.has,I.ok.cab,I.ok.hd,I.ok.frames,I.ok.stk,I.ok.exf,I.ok.bs,I.ok.bsz,I.ok.noex,I.ok.exfs,I.ok.funs,I.ok.frf⟩,
  I.os,I.bare,I.base,I.loc,I.cell,I.free,I.freeC,λp hp=>I.pin p (Pr _ hp),I.hok,I.len⟩
theorem Old.toPn{b:ae}(h:Old X pins b):Old { X with pn:=X.pn++pins,xe:=xe } pins' b:=by
 rcases h with h|⟨p,hp,e⟩|h|h
 .exact .inl h
 .exact .inr (.inl ⟨p,Pr _ hp,e⟩)
 .exact .inr (.inr (.inl h))
 .exact .inr (.inr (.inr h))
noncomputable abbrev Cx.hnd(X:Cx)(e:ae):Cx:={ X with A:=X.A.mark (a5 (.ref e)),calm:=a6,xe:=λ_ _=>False }
theorem Inv.toH(I:Inv X pins σ H s):Inv (X.hnd e) pins σ H s :=
 ⟨⟨I.ok.mod,I.ok.kind,I.ok.glob,I.ok.blt,I.ok.above,I.ok.inj,I.ok.has,I.ok.cab,(λz=>by cases z),I.ok.frames,I.ok.stk,I.ok.exf,I.ok.bs,I.ok.bsz,I.ok.noex,I.ok.exfs,I.ok.funs,I.ok.frf⟩,
  I.os,I.bare,I.base,I.loc,I.cell,I.free,I.freeC,I.pin,I.hok,I.len⟩
theorem Inv.ofH(ok:X.Ok)(I:Inv (X.hnd e) pins σ H s):Inv X pins σ H s:=⟨ok,I.os,I.bare,I.base,I.loc,I.cell,I.free,I.freeC,I.pin,I.hok,I.len⟩
end
theorem Rep.set_raw{K:k83}{ρ:Rho}{σ:St}{H:Hp}{i:Nat}{a:ae}{o:cF}{x:ah}(R:Rep K ρ σ H)(e:del H (owns ρ) a=a5 (.frz o (.own a)))(hx:W.nsIn K aq x=a5 (a5 o.cls)):Rep K (ρ.set i (.raw a o x)) (σ.set i (a5 (.ref a))) H:=by
 have sub:(owns (ρ.set i (.raw a o x))).Sublist (owns ρ):=je rfl;have g:j4 (del H (owns ρ)) (del H (owns (ρ.set i (.raw a o x)))):=vd λb hb=>sub.subset hb;refine⟨by simp[R.len],λj d' h=>?_,λj a ds h=>?_,sub.nodup R.nd,λj a' o' x' h=>?_,R.tb⟩
 .rcases getElem?_set_of h with ⟨rfl,z,hl⟩|⟨n,h⟩
  .cases z
  .obtain⟨u,q,h⟩:=R.val j d' h;exact⟨u,by rw[qj n];exact q,h.mono g⟩
 .rcases getElem?_set_of h with ⟨rfl,z,_⟩|⟨n,h⟩
  .cases z
  .obtain⟨q,xs,h,l⟩:=R.own j a ds h;exact⟨by rw[qj n];exact q,xs,h,l.mono g⟩
 .rcases getElem?_set_of h with ⟨rfl,z,hl⟩|⟨n,h⟩
  .cases z;exact⟨Q7 (by rw[R.len];exact hl),.inr ⟨g _ _ e,hx⟩⟩
  .obtain⟨q,h⟩:=R.raw j a' o' x' h;exact⟨by rw[qj n];exact q,h.mono g⟩
section
variable{X:Cx}{ρ:Rho}{i:Nat}{a:ae}{o:cF}{x y c c1 c2:ah}{p p1 p2 p3 p4 p5 pos:aO}{k:Bool}
theorem Cr:J0 X (.builtin "isinstance") (λxs H Q=>∃(a:ae)(o:cF)(C:ae)(v:V)(u:aa)(b:Bool),xs=[.ref a,v]/\H a=a5 (.frz o (.own a))/\o.cls=.ref C/\XcOk X.K C/\(∀u',RelV v u'->u'=u)/\W.kitOne X.K (.ref C) u=a5 b/\Q (.bl b) H):=by rintro pins s σ H xs us Q I r ⟨a,o,C,v,u,b,e,ha,hc,hk,hv,kk,q⟩;subst e;obtain⟨u1,u2,eu,r1,r2⟩:=vals2 r;subst eu;cases(show u1=aH a from r1);cases hv u2 r2;exact W.kia_one (Em hk) I.kIn ⟨(I.hok a _ ha).1,hc⟩ kk (λz=>nomatch z) λtk=>⟨.bl b,H,I.tok tk,rfl,q⟩
theorem j67:J0 X (.builtin "isinstance") (λxs H Q=>∃(a t:ae)(o:cF)(C C1 C2:ae)(b:Bool),xs=[.ref a,.ref t]/\H a=a5 (.frz o (.own a))/\o.cls=.ref C/\XcOk X.K C/\SqT X.K H t [.ref C1,.ref C2]/\W.kitAny X.K (.ref C) [.ref C1,.ref C2]=a5 b/\Q (.bl b) H):=by rintro pins s σ H xs us Q I r ⟨a,t,o,C,C1,C2,b,e,ha,hc,hk,sq,kk,q⟩;subst e;obtain⟨u1,u2,eu,r1,r2⟩:=vals2 r;subst eu;cases(show u1=aH a from r1);cases(show u2=aH t from r2);obtain⟨its,rv,⟨⟨cl,dd,da,sl⟩,h1,h2,n,h3⟩,_⟩:=I.tuple sq;have h2:cl=.type "tuple":=h2;have h3:da=.seq its.toArray n:=h3;subst h2 h3;obtain⟨v1,v2,ei,q1,q2⟩:=vals2 rv;subst ei;cases(show v1=aH C1 from q1);cases(show v2=aH C2 from q2);exact W.kia_tup (Em hk) I.kIn ⟨(I.hok a _ ha).1,hc⟩ h1 kk (λz=>nomatch z) λtk=>⟨.bl b,H,I.tok tk,rfl,q⟩
theorem Il{σ:St}{H:Hp}(ha:Qg X.K=a7)(hx:x∈jn)(R:Rep X.K ρ σ H)(h:ρ[i]?=a5 (.raw a o x)):σ[i]?=a5 (a5 (.ref a))/\H a=a5 (.frz o (.own a))/\∃C,o.cls=.ref C/\ExOne X.K x C:=by obtain⟨q,z⟩:=R.raw i a o x h;obtain⟨z,n⟩:=z.resolve_left λe=>absurd (e▸hx) (by decide);obtain⟨C,e,F⟩:=Zi ha hx n;exact⟨q,(of_del z).2,C,e,F⟩
theorem DE.isxV (ha:Qg X.K=a7) (hx:x∈jn) (h:ρ[i]?=a5 (.raw a o x)) (hm:X.mg "isinstance" = a8) (hT:X.mg "ValueError" = a8) (hN:X.N[i]?=a5 y) (hv:Vis X.env.scope y) (hd:(y==k87)=a6) (hcd:(y==k88)=a6)
  (hg:Gl X "isinstance") (hg2:Gl X "ValueError") (hs:a9 [.Name y p1,.Name "ValueError" p2] X.env=(a6,aE (.Name y p1) X.env)::a9 [.Name "ValueError" p2] X.env) (hs2:a9 [.Name "ValueError" p2] X.env=(a6,aE (.Name "ValueError" p2) X.env)::a9 [] X.env)
  (hpl:(aR pos (a9 [.Name "ValueError" p2] X.env)).any (·.1)=a6):DE X ρ (.Call (.Name "isinstance" p) [.Name y p1,.Name "ValueError" p2] [] pos) (.bl a7):=λσ H Q R q=>by
 obtain⟨q1,q2,C,e,F⟩:=Il ha hx R h;exact(zf Cr hg hm d7 (j9 (J7 hN hv hd hcd) (j9 (Ls hg2 hT (by decide +kernel)) jm hs2) hs) (by decide) (by decide) hs hpl).to ⟨.ref a,q1,a,o,C,.ty "ValueError",.type "ValueError",a7,rfl,q2,e,F.ok,λu' r=>r,F.val,q _ H (j4.refl H) rfl⟩
theorem DE.isx1 {v:aa} (ha:Qg X.K=a7) (hx:x∈jn) (h:ρ[i]?=a5 (.raw a o x)) (hm:X.mg "isinstance" = a8) (hc:c∈jn) (hn:W.nsIn X.K aq c=a5 (a5 v)) (hT:X.mg c=a5 v) (hN:X.N[i]?=a5 y) (hv:Vis X.env.scope y) (hd:(y==k87)=a6) (hcd:(y==k88)=a6)
  (hg:Gl X "isinstance") (hg2:Gl X c) (hdb:(c==k87)=a6) (hs:a9 [.Name y p1,.Name c p2] X.env=(a6,aE (.Name y p1) X.env)::a9 [.Name c p2] X.env) (hs2:a9 [.Name c p2] X.env=(a6,aE (.Name c p2) X.env)::a9 [] X.env)
  (hpl:(aR pos (a9 [.Name c p2] X.env)).any (·.1)=a6):DE X ρ (.Call (.Name "isinstance" p) [.Name y p1,.Name c p2] [] pos) (.bl (x==c)):=λσ H Q R q=>by
 obtain⟨q1,q2,C,e,F⟩:=Il ha hx R h;obtain⟨C',rfl,_⟩:=Zi ha hc hn;exact(zf Cr hg hm d7 (j9 (J7 hN hv hd hcd) (j9 (Ri (v:=.ref C') hg2 hT rfl hdb) jm hs2) hs) (by decide) (by decide) hs hpl).to ⟨.ref a,q1,a,o,C,.ref C',.ref C',x==c,rfl,q2,e,F.ok,λu' r=>r,F.one c hc _ hn,q _ H (j4.refl H) rfl⟩
theorem DE.isx2 {v1 v2:aa} {m:Nat} (ha:Qg X.K=a7) (hx:x∈jn) (h:ρ[i]?=a5 (.raw a o x)) (hm:X.mg "isinstance" = a8) (hc1:c1∈jn) (hc2:c2∈jn) (hn1:W.nsIn X.K aq c1=a5 (a5 v1)) (hn2:W.nsIn X.K aq c2=a5 (a5 v2))
  (hT1:X.mg c1=a5 v1) (hT2:X.mg c2=a5 v2) (hN:X.N[i]?=a5 y) (hv:Vis X.env.scope y) (hd:(y==k87)=a6) (hcd:(y==k88)=a6) (hg:Gl X "isinstance") (hg1:Gl X c1) (hg2:Gl X c2) (hdb1:(c1==k87)=a6) (hdb2:(c2==k87)=a6)
  (hs:a9 [.Name y p1,.Tuple [.Name c1 p2,.Name c2 p3] m p4] X.env=(a6,aE (.Name y p1) X.env)::a9 [.Tuple [.Name c1 p2,.Name c2 p3] m p4] X.env)
  (hs2:a9 [.Tuple [.Name c1 p2,.Name c2 p3] m p4] X.env=(a6,aE (.Tuple [.Name c1 p2,.Name c2 p3] m p4) X.env)::a9 [] X.env) (hpl:(aR pos (a9 [.Tuple [.Name c1 p2,.Name c2 p3] m p4] X.env)).any (·.1)=a6)
  (hs3:a9 [.Name c1 p2,.Name c2 p3] X.env=(a6,aE (.Name c1 p2) X.env)::a9 [.Name c2 p3] X.env) (hs4:a9 [.Name c2 p3] X.env=(a6,aE (.Name c2 p3) X.env)::a9 [] X.env) :
  DE X ρ (.Call (.Name "isinstance" p) [.Name y p1,.Tuple [.Name c1 p2,.Name c2 p3] m p4] [] pos) (.bl (x==c1 || x==c2)):=λσ H Q R q=>by
 obtain⟨q1,q2,C,e,F⟩:=Il ha hx R h;obtain⟨C1,rfl,_⟩:=Zi ha hc1 hn1;obtain⟨C2,rfl,_⟩:=Zi ha hc2 hn2;have kk:W.kitAny X.K (.ref C) [.ref C1,.ref C2]=a5 (x==c1 || x==c2):=by
  unfold W.kitAny;rw[F.one c1 hc1 _ hn1];cases(x==c1)
  .unfold W.kitAny;rw[F.one c2 hc2 _ hn2];cases(x==c2)<;>rfl
  .rfl
 exact(zf j67 hg hm d7 (j9 (J7 hN hv hd hcd) (j9 (Iv (j9 (Ri (v:=.ref C1) hg1 hT1 rfl hdb1) (j9 (Ri (v:=.ref C2) hg2 hT2 rfl hdb2) jm hs4) hs3)) jm hs2) hs) (by decide) (by decide) hs hpl).to
  ⟨.ref a,q1,by show 2<=ak;decide,λt ht=>⟨a,t,o,C,C1,C2,_,rfl,by rw[jd (λz=>by rw[z,ht]at q2;cases q2)];exact q2,e,F.ok,.inl (.inl jb),kk,q _ _ (j8 ht) rfl⟩⟩
end
structure KindsP(P:ar)(w:aA)(K:k83)(mg:k86)(base:aG)(f x:ah)(l:List D):Prop where
 ex:∃fa:ae,mg f=a5 (.ref fa)/\W.keepIn K (.ref fa)=a7/\∀(A:aC)(outer:List cI)(s:af)(H:Hp)(e:ae)(o:cF),A.depth+4<bK->A.units+150<bg->Env0 P w K mg base A outer s H->TabOk K H ->
  H e=a5 (.frz o (.own e))->W.nsIn K aq x=a5 (a5 o.cls) ->
  cu (au P w) A (.call (.ref fa) ⟨[.ref e],[]⟩) (CR CX0 outer P w H s (λv H'=>∃a xs,v=.ref a/\j4 H H'/\H a=a8/\H' a=a5 (.lst xs)/\j5 K (del H' [a]) l xs) E0) s
 nl:jq l=a7
abbrev Kinds(X:Cx)(f x:ah)(l:List D):Prop:=KindsP X.prog X.w X.K X.mg X.base f x l
section
variable{X:Cx}{ρ:Rho}{i j:Nat}{e:ae}{o:cF}{f x n k A:ah}{l:List D}{P:Po}{body:List aN}{p p1 p2 p3 p4 p5 pos hpos:aO}
theorem DO.kinds (c:Kinds X f x l) (hx:x∈jn) (h:ρ[j]?=a5 (.raw e o x)) (hdp:X.A.depth+4<bK) (hun:X.A.units+150<bg) (hg:Gl X f) (hdb:(f==k87)=a6) (hN:X.N[j]?=a5 n) (hv:Vis X.env.scope n) (hd:(n==k87)=a6) (hcd:(n==k88)=a6)
  (he:a9 [.Name n p1] X.env=(a6,aE (.Name n p1) X.env)::a9 [] X.env) (hpl:(aR p2 (a9 [] X.env)).any (·.1)=a6):DO X ρ (.Call (.Name f p) [.Name n p1] [] p2) l:=λσ H Q R q pins s I=>by
 obtain⟨fa,hm,hk,run⟩:=c.ex;obtain⟨q1,q2⟩:=R.raw j e o x h;obtain⟨q2,q3⟩:=q2.resolve_left λe=>absurd (e▸hx) (by decide);refine br (Zg I hg hm ?_ hdb);refine W.callWith_K (h₀:=X.base) I.ok.mod.kin hk (thn ((j9 (J7 hN hv hd hcd) jm he).to (σ:=σ) (H:=H) (Q:=λvs H1=>vs=[.ref e]/\H1=H) ⟨.ref e,q1,rfl,rfl⟩ p2 pins s I) λus s1 ⟨vs,H1,I1,r,e1,e2⟩=>⟨I1.kIn,?_⟩) he hpl;subst e1 e2;obtain⟨u,eu,r1⟩:=vals1 r;subst eu;cases(show u=aH e from r1);refine jZ (cg (run X.A X.stack s1 H1 e o hdp hun I1.env0 R.tb (of_del q2).2 q3) λr s' hq=>?_);cases r with
 |error e=>exact hq.elim
 |ok fl =>
  cases fl with
  |ret u =>
   obtain⟨v,H',I',rv,a,xs,ev,g,na,m,en⟩:=I1.after hq;refine⟨v,H',I',rv,?_⟩;subst ev;exact q a xs H' g na m ((en.mono jo).hide (λc hc=>by
    rcases xj.mp hc with z|z
    .rw[z];exact .inl ⟨xs,m⟩
    .exact .inl ((R.grow g).owned c z)) c.nl)
  |next=>exact aY hq
  |brk=>exact aY hq
  |cont=>exact aY hq
theorem caught{pins:k85}{σ:St}{H H0:Hp}{s:af}{C:aa}{E:Ends}{ρ0:Rho}(ha:Qg X.K=a7)(hx:x∈jn)(hns:W.nsIn X.K aq x=a5 (a5 C))(c:Kinds X f x l)(hst:X.stack=X.env::X.outer)(hfm:X.env.frame=a5 X.env.locals)
  (hdp:X.A.depth+4<bK) (hun:X.A.units+150<bg) (I:Inv X pins σ H s) (R:Rep X.K ρ σ H) (Fe:FlQ (flF X.env) (Old X pins) H s.heap e C) (q:EndsOk X ρ0 H0 P E) (f0:Fr0 ρ0 ρ H0 H)
  (hP:∀oe a,P.nx (((ρ.set j (.raw e oe x)).set i (.own a l)).set j .un)) (hND:X.N.Nodup) (hgA:Gl X "AskError")
  (hg:Gl X f) (hdb:(f==k87)=a6) (hN:X.N[j]?=a5 n) (hlo:X.env.scope.names.lookup n=a5 .local) (hd:(n==k87)=a6) (hcd:(n==k88)=a6)
  (hi:X.N[i]?=a5 k) (hxk:Loc X.env.scope k) (hfk:X.fn k=a7\/X.env.scope.names.lookup k=a5 .local) (hfn:X.fn n=a7\/X.env.scope.names.lookup n=a5 .local)
  (hs:aP (.Call (.Name f p) [.Name n p1] [] p2) (a5 (.Name k p3)) p4.line X.env=pure a6)
  (he:a9 [.Name n p1] X.env=(a6,aE (.Name n p1) X.env)::a9 [] X.env) (hpl:(aR p2 (a9 [] X.env)).any (·.1)=a6) :
  ax (au X.prog X.w) X.A (dk (.ref e) X.env) (λ_ s₂=>ax (au X.prog X.w) X.A (kS (.ref e) a8) (λ_ s₃ =>
   ax (au X.prog X.w) X.A (handleBy (.ref e) X.env [.ExceptHandler (a5 (.Name "AskError" p5)) (a5 n) [.Assign [.Name k p3] (.Call (.Name f p) [.Name n p1] [] p2) p4] hpos]) (SP X pins E) X.xe s₃) X.xe s₂) X.xe s:=by
 obtain⟨Ca,rfl,F1⟩:=Zi ha hx hns;obtain⟨av,hav,hexm⟩:=F1.ask;have hma:X.mg "AskError" = a5 av:=W.mg_of I.mod.kin I.mod.glob hav;refine jc1 I hst hfm hfm Fe λh1 I1 F1'=>?_;refine j1l I1 F1' λh2 I2 F2=>?_;refine wpAny_handleBy_cons (codeAny_handlers_test (Zg (X:=X.hnd e) (Inv.toH I2) hgA hma ?_)) (by intro q;cases q);obtain⟨oe,vs,a0,T,oT,ts,hoe,hoc,_⟩:=F2.obj;refine(W.exm_one I2.kIn (hoc▸(PySem.W.Looks.ld hoe).andThen .now) hexm).here ?_;refine codeAny_handlers_suite_as (j1l (X:=X) I2 F2 λh3 I3 F3=>?_);obtain⟨oe,vs,a0,T,oT,ts,hoe,hoc,_⟩:=F3.obj;have I4:=I3.track hoe F3.new F3.free;have g4:j4 H (upd H e (.frz oe (.own e))):=j8 F3.free;have R4:=R.grow g4;have ho:del (upd H e (.frz oe (.own e))) (owns ρ) e=a5 (.frz oe (.own e)):=by rw[j6 (R.fresh F3.free)];exact jb
 have hcls:W.nsIn X.K aq x=a5 (a5 oe.cls):=by rw[hoc];exact hns
 refine Uz (v:=.ref e) I4 hND hN (.inl hlo) rfl (λs5 I5 _=>?_) hfn;have R5:Rep X.K (ρ.set j (.raw e oe x)) (σ.set j (a5 (.ref e))) (upd H e (.frz oe (.own e))):=R4.set_raw ho hcls;have hj:(ρ.set j (.raw e oe x))[j]?=a5 (.raw e oe x):=Q7 (by
  have z:=(X3.mp hN).1
  rw[<-R.len,I.len];exact z)
 have suite:DSs (X.hnd e) (ρ.set j (.raw e oe x)) [.Assign [.Name k p3] (.Call (.Name f p) [.Name n p1] [] p2) p4] { nx:=λρ3=>∃a,ρ3=(ρ.set j (.raw e oe x)).set i (.own a l),rt:=λ_=>False } :=
  DSs.last (DS.setO i (DO.kinds (X:=X.hnd e) ⟨c.ex,c.nl⟩ hx hj hdp hun hg hdb hN (.inl hlo) hd hcd he hpl) (λa=>⟨a,rfl⟩) hND hi hxk hs hfk)
 have run:=suite _ _ { nx:=λσ6 H6=>∃a,Rep X.K ((ρ.set j (.raw e oe x)).set i (.own a l)) σ6 H6/\Fr0 (ρ.set j (.raw e oe x)) ((ρ.set j (.raw e oe x)).set i (.own a l)) (upd H e (.frz oe (.own e))) H6,rt:=λ_ _=>False,bk:=λ_ _=>False,ct:=λ_ _=>False } R5
  ⟨λρ' σ' H' ⟨a,er⟩ R' f=>⟨a,er▸R',er▸f⟩,λ_ _ _ z=>z.elim,λ_ _ _ z=>z.elim,λ_ _ _ z=>z.elim,λ_ _ _ _ z=>z.elim⟩ pins s5 (Inv.toH I5)
 refine aW run (λfl s6 h6=>?_) λ_ _ z=>z.elim;cases fl with
 |next =>obtain⟨σ6,H6,I6,a,R6,f6⟩:=h6;refine jcr (X:=X) (Inv.ofH I.ok I6) hND hN hlo λs7 I7=>?_;refine⟨_,H6,I7,q.nx _ _ H6 (hP oe a) R6.set_un ?_⟩;refine f0.trans (j4.trans (Fr0.grow g4) (j4.trans (Fr0.drop λb hb=>(je rfl).subset hb) (j4.trans f6 (Fr0.drop λb hb=>(je rfl).subset hb))))
 |ret u=>obtain⟨_,_,_,_,_,_,_,z⟩:=h6;exact z.elim
 |brk=>obtain⟨_,_,_,z⟩:=h6;exact z.elim
 |cont=>obtain⟨_,_,_,z⟩:=h6;exact z.elim
end
section
variable{X:Cx}{ρ:Rho}{i j:Nat}{f n k:ah}{P:Po}{body:List aN}{p p1 p2 p3 p4 p5 pos hpos:aO}
noncomputable def Po.caught(P:Po)(X:Cx)(f:ah)(i j:Nat):Po:={ P with ex:=λx ρ'=>x∈jn/\(∃o,W.nsIn X.K aq x=a5 (a5 o))/\∃l,Kinds X f x l/\∀e oe a,P.nx (((ρ'.set j (.raw e oe x)).set i (.own a l)).set j .un) }
theorem DS.tryK(hb:∀pn xe,dY (au X.prog X.w) X.A X.env xe->DSs { X with pn:=pn,xe:=xe } ρ body (P.caught X f i j))(ha:Qg X.K=a7)(hst:X.stack=X.env::X.outer)(hfm:X.env.frame=a5 X.env.locals)(hdp:X.A.depth+4<bK)(hun:X.A.units+150<bg)
  (hND:X.N.Nodup) (hgA:Gl X "AskError") (hg:Gl X f) (hdb:(f==k87)=a6) (hN:X.N[j]?=a5 n) (hlo:X.env.scope.names.lookup n=a5 .local) (hd:(n==k87)=a6) (hcd:(n==k88)=a6)
  (hi:X.N[i]?=a5 k) (hxk:Loc X.env.scope k) (hfk:X.fn k=a7\/X.env.scope.names.lookup k=a5 .local) (hfn:X.fn n=a7\/X.env.scope.names.lookup n=a5 .local)
  (hs:aP (.Call (.Name f p) [.Name n p1] [] p2) (a5 (.Name k p3)) p4.line X.env=pure a6)
  (he:a9 [.Name n p1] X.env=(a6,aE (.Name n p1) X.env)::a9 [] X.env) (hpl:(aR p2 (a9 [] X.env)).any (·.1)=a6) :
  DS X ρ (.Try body [.ExceptHandler (a5 (.Name "AskError" p5)) (a5 n) [.Assign [.Name k p3] (.Call (.Name f p) [.Name n p1] [] p2) p4] hpos] [] [] pos) P:=λσ H E R q pins s I=>by
 refine wpAny_Try_except ?_;refine aW (hb (X.pn++pins) (λe s₁=>ax (au X.prog X.w) X.A (dk e X.env) (λ_ s₂=>ax (au X.prog X.w) X.A (kS e a8) (λ_ s₃ =>
   ax (au X.prog X.w) X.A (handleBy e X.env [.ExceptHandler (a5 (.Name "AskError" p5)) (a5 n) [.Assign [.Name k p3] (.Call (.Name f p) [.Name n p1] [] p2) p4] hpos]) (SP X pins E) X.xe s₃) X.xe s₂) X.xe s₁) PassesOwn.looking
  σ H E R ⟨q.nx,q.bk,q.ct,q.rt,λx ρ' σ' H' hP R' f'=>?_⟩ [] s I.toPn) (λfl s1 h1=>?_) λ_ _ z=>z
 .obtain⟨hx,⟨o,ho⟩,l,kd,hnx⟩:=hP;intro pins' H2 s' e C I' g hm Fe;have I2:Inv X pins σ' H2 s':=Inv.ofPn I';have hm2:X.mg x=a5 o:=W.mg_of I2.mod.kin I2.mod.glob ho;cases(show a5 C=a5 o from(show X.mg x=a5 C from hm).symm.trans hm2);exact caught ha hx ho kd hst hfm hdp hun I2 (R'.grow g) (FlQ.up Fe (λ_ z=>z) λb hb=>hb.toPn) q (f'.trans (Fr0.grow g)) (λoe a=>hnx e oe a) hND hgA hg hdb hN hlo hd hcd hi hxk hfk hfn hs he hpl
 .cases fl with
  |next =>obtain⟨σ',H',I',z⟩:=h1;exact(j1h (X:=X)).to z pins s1 (Inv.ofPn I')
  |ret u =>obtain⟨v,σ',H',H2,I',r,x2,z⟩:=h1;exact⟨v,σ',H',H2,Inv.ofPn I',r,x2,z⟩
  |brk=>obtain⟨σ',H',I',z⟩:=h1;exact⟨σ',H',Inv.ofPn I',z⟩
  |cont=>obtain⟨σ',H',I',z⟩:=h1;exact⟨σ',H',Inv.ofPn I',z⟩
end
section
variable{P:ar}{w:aA}{K:k83}{mg:k86}{base:aG}{f:ae}{g x pn:ah}{st:aN}{fd:aJ}{N:List ah}{l:List D}
theorem jbj{H:Hp}{e:ae}{o:cF}(tb:TabOk K H)(hN:1<=N.length)(h:H e=a5 (.frz o (.own e)))(hx:W.nsIn K aq x=a5 (a5 o.cls)):Rep K (.raw e o x::ao (N.length-1) .un) (start N [.ref e]) H:=by
 have ho:owns (.raw e o x::ao (N.length-1) .un)=[]:=by
  rw[jj];show owns _=[]
  exact T8.mpr λs hs=>by rw[(T6.mp hs).2];rfl
 have un:∀(i:Nat)(s:Sl),(.raw e o x::ao (N.length-1) .un:Rho)[i]?=a5 s->(i=0/\s=.raw e o x)\/s=.un:=λi s q=>by
  cases i with
  |zero=>rw[dE]at q;cases q;exact .inl ⟨rfl,rfl⟩
  |succ i=>rw[Py]at q;exact .inr (T6.mp (Xg q)).2
 refine⟨by unfold start;simp,λi d q=>?_,λi a ds q=>?_,by rw[ho];exact gc,λi a o' x' q=>?_,tb⟩
 .rcases un i _ q with ⟨_,z⟩|z<;>cases z
 .rcases un i _ q with ⟨_,z⟩|z<;>cases z
 .rcases un i _ q with ⟨z,z2⟩|z
  .cases z2;subst z;exact⟨rfl,.inr ⟨by rw[ho,vf];exact h,hx⟩⟩
  .cases z
theorem kinds_of(F:Fun K g g st f fd)(Sc:FnScope N [pn] (j0 st))(hbd:Binds K fd [pn] [])(hm:mg g=a5 (.ref f))(hN:1<=N.length)(hnl:jq l=a7)
  (hbody:∀(cdv:aa)(A:aC)(outer:List cI)(s:af)(H:Hp)(e:ae)(o:cF),A.depth+4<bK->A.units+150<bg ->
   DSs { (q8 CX0 P w K mg base N g (j0 st) f cdv A outer s H E0).nox with calm:=a6 } (.raw e o x::ao (N.length-1) .un) (jc st) { nx:=λ_=>False,rt:=λr=>r=.fresh l }):KindsP P w K mg base g x l:=by
 refine⟨⟨f,hm,F.kp,λA outer s H e o hdp hun e0 tb he hx=>?_⟩,hnl⟩;obtain⟨oc,od,dV,kV,doc,pm,an,cdv,ct,osl,rfl,lk,hcd⟩:=F.ex;have KX:K.In s.heap:=e0.mod.kin.keeps λb o e=>(e0.bs b o e).1;have lim:s.heap.NoLimit:=e0.mod.nolimit.keeps λb o e=>(e0.bs b o e).1;have hb:=hbd s [.ref e] KX rfl;have hkind:∀y∈[pn].zip [aH e],(j0 st).names.lookup y.1=a5 .local\/((j0 st).names.lookup y.1=a5 .cell/\((aS (s.heap.objs.size+1) (j0 st).names []).lookup y.1).isSome=a7):=λ⟨n,v⟩ hy=>by
  rcases Sc.par n (cP hy).1 with q|q
  .exact .inl q
  .exact .inr ⟨q,W.cellsFrom_some _ _ _ (.inl q)⟩
 refine ja nofun (KX _ _ lk) rfl Sc.co Sc.gen rfl (W.codeRec_of KX hcd) (hb _ _ _ _ ?_);refine gZ Sc.kind hkind λenv henv s1 x1=>?_;subst henv;refine⟨lim.keeps x1.toInCall.keep,codeAny_func ?_⟩;have I:Inv { q8 CX0 P w K mg base N g (j0 st) f cdv A outer s H E0 with calm:=a6 } [] (start N [.ref e]) H s1:=Cd Sc a6 (λz=>by cases z) e0 rfl (.cons rfl .nil) x1;have I':Inv { (q8 CX0 P w K mg base N g (j0 st) f cdv A outer s H E0).nox with calm:=a6 } [] (start N [.ref e]) H s1 :=
  ⟨⟨I.ok.mod,I.ok.kind,I.ok.glob,I.ok.blt,I.ok.above,I.ok.inj,I.ok.has,I.ok.cab,I.ok.hd,I.ok.frames,I.ok.stk,I.ok.exf,I.ok.bs,I.ok.bsz,I.ok.noex,I.ok.exfs,I.ok.funs,I.ok.frf⟩,
   I.os,I.bare,I.base,I.loc,I.cell,I.free,I.freeC,I.pin,I.hok,I.len⟩
 have ho:owns (.raw e o x::ao (N.length-1) .un)=[]:=by
  rw[jj];show owns _=[]
  exact T8.mpr λs hs=>by rw[(T6.mp hs).2];rfl
 have run:=hbody cdv A outer s H e o hdp hun (start N [.ref e]) H { nx:=λ_ _=>False,bk:=λ_ _=>False,ct:=λ_ _=>False,rt:=λv H'=>∃a xs,v=.ref a/\j4 H H'/\H a=a8/\H' a=a5 (.lst xs)/\j5 K (del H' [a]) l xs } (jbj tb hN he hx)
  ⟨λ_ _ _ z=>z.elim,λ_ _ _ z=>z.elim,λ_ _ _ z=>z.elim,(λr v H' n z=>by
   cases(show r=.fresh l from n)
   obtain⟨a,xs,e,g,m,en⟩:=z
   rw[ho,vf]at g
   refine⟨a,xs,e,g.trans jo,?_,m,en⟩
   cases y:H a with
   |none=>rfl
   |some o=>have:=g a o y;rw[qw (X6.mpr rfl)]at this;cases this),λ_ _ _ _ z=>z.elim⟩ [] s1 I'
 refine aW run (λfl s' hs=>?_) λ_ _ z=>z.elim;cases fl with
 |ret u =>obtain⟨v,σ',H',H2,J,rv,x,q⟩:=hs;exact⟨v,H2,J.os,J.bare,(J.extOut x).2 rfl,(J.extOut x).1,rv,q⟩
 |next=>obtain⟨_,_,_,q⟩:=hs;exact q.elim
 |brk=>obtain⟨_,_,_,q⟩:=hs;exact q.elim
 |cont=>obtain⟨_,_,_,q⟩:=hs;exact q.elim
end
section
variable{X:Cx}
def jks:V->Option Int->Option Int->Hp->VK->Prop:=λx lo hi H Q=>∃z,x=.str z/\z.length<=ak/\Q (.str (bP z lo hi)) H
theorem part_of{v:aa}{o:Option Int}(h:eX v o):∃l:Option (Int×jG),v=partValue l/\l.map (·.1)=o:=by
 cases h with
 |none=>exact⟨a8,rfl,rfl⟩
 |int i t=>exact⟨a5 (i,t),rfl,rfl⟩
theorem jdz:SlR X jks:=by intro pins s σ H x v vl vu lo hi sl Q I rx hs pl pu h;obtain⟨z,ex,hz,q⟩:=h;subst ex;obtain⟨t,ev⟩:=rx;subst ev;obtain⟨l,el,ml⟩:=part_of pl;obtain⟨u,eu,mu⟩:=part_of pu;subst el eu ml mu;obtain⟨o,h1,h2,h3⟩:=hs;refine⟨"str",_,PySem.F.slot_str_getitem.lookup,fD s z t,wpAny_getItem_str_slice (l:=l) (u:=u) (st:=a8) ⟨o,h1,h2,h3⟩ rfl ?_⟩;exact post_val_or_str ⟨Xd (Txt.slice_le z _ _) hz,λt' k=>⟨.str _,H,I.tok k,⟨_,rfl⟩,q⟩⟩
theorem j17:∀{ts:List ah}{us:List aa},Vals (ts.map V.str) us->∃l:List (ah×jG),us=strValues l/\l.map (·.1)=ts
 |[],_,r=>by cases r;exact⟨[],rfl,rfl⟩
 |t::ts,_,r=>by
  cases r with
  |cons a b =>obtain⟨k,e⟩:=a;obtain⟨l,e1,e2⟩:=j17 b;subst e e1 e2;exact⟨(t,k)::l,rfl,rfl⟩
theorem jc3:MtR X "str.join" (λx vs H Q=>∃(sep:ah)(l:ae)(ts:List ah),x=.str sep/\vs=[.ref l]/\SqL X.K H l (ts.map V.str)/\eW sep ts=a7/\Q (.str (eD sep ts)) H):=by rintro pins s σ H x vs v us Q I rx rv ⟨sep,l,ts,e,e',sq,hok,q⟩;subst e e';obtain⟨t,ev⟩:=rx;subst ev;obtain⟨u,eu,ru⟩:=rv.one;subst eu;cases ru;obtain⟨its,ri,pl,_⟩:=I.list sq;obtain⟨ps,e1,e2⟩:=j17 ri;subst e1 e2;unfold eW at hok;rw[f9]at hok;exact bN ir (fD _ _ _) F.entry_str_join (F.args_str_join_2 _ _) (meets_str_join_list sep t l ps hok) ⟨pl.isList,post_join ps ⟨joinFit_length hok,λt' k=>⟨.str _,H,I.tok k,⟨_,rfl⟩,q⟩⟩⟩
theorem j62 (hc:X.calm=a7):J0 X (.builtin "sum") (λxs H Q=>∃(lst:Bool)(l:ae)(ns:List Int),xs=[.ref l]/\SqB X.K lst H l (ns.map V.int)/\Q (.int ns.sum) H):=by
 rintro pins s σ H xs us Q I r ⟨lst,l,ns,e,sq,q⟩;subst e;obtain⟨u,eu,ru⟩:=vals1 r;subst eu;cases ru;obtain⟨its,rv,pl,_⟩:=I.side sq;have hl:its.length=ns.length:=by rw[<-rv.length,xf]
 have val:∀i v,its.toArray[i]?=a5 v->∃t,v=bA (ns.getD i 0) t:=by
  intro i v hv;have hi:i<its.length:=by obtain⟨h,_⟩:=Array.getElem?_eq_some_iff.mp hv;simpa using h
  have hi':i<ns.length:=by omega
  obtain⟨w1,hw,rw1⟩:=rv.get (x:=.int (ns.getD i 0)) (i:=i) (by rw[xq,kh hi',kj,kh hi'];rfl);have:its.toArray[i]?=a5 w1:=by simpa using hw
  rw[this]at hv;cases hv;exact rw1
 have tot:preSum (λi=>ns.getD i 0) its.toArray.size=ns.sum:=by rw[preSum_getD,ph (by rw[xr];omega)]
 have fin:∀(o:cF)(s':af)(t':jG),Moved [s.heap.objs.size] (λa b=>b=a) { s with heap:=s.heap.push o } s'->EP X pins σ Q (.int (preSum (λi=>ns.getD i 0) its.toArray.size) t') s':=λo s' t' mv=>by obtain⟨hh,gg,dd,tt,oo⟩:=s';obtain⟨m1,m2,m3,m4,m5⟩:=mv;cases m2;cases m3;cases m4;rw[tot];refine⟨.int _,H,I.kept (t':=tt) λb o e=>m1 b o ?_ (xu _ e),⟨_,rfl⟩,q⟩;intro z;rw[X6.mp z]at e;exact Xx _ (xn e)
 unfold qx at pl;cases lst with
 |true =>
  rw[if_pos rfl]at pl;have hlt:l<s.heap.objs.size:=by obtain⟨_,e,_⟩:=pl;exact xn e
  refine kx (cN pl ⟨s.heap.objs.size,[s.heap.objs.size,l],[s.heap.objs.size],_,its.toArray.size,_,_,λi=>ns.getD i 0,rfl,(Walks.list (A:=X.A.in1) (I.ok.hd hc) _ _ (X7 hlt) its.toArray).toS,⟨⟨_,Xa _ rfl,rfl,rfl⟩,pl.push _⟩,?_,val,λs' t' mv=>fin _ s' t' mv⟩);intro b hb;show b<(s.heap.push _).objs.size;rw[bU];rcases xj.mp hb with z|z
  .rw[z];exact fH _
  .rw[X6.mp z];exact cB hlt
 |false =>
  rw[if_neg xg]at pl;have hlt:l<s.heap.objs.size:=by obtain⟨_,e,_⟩:=pl;exact xn e
  refine kx (fC pl ⟨s.heap.objs.size,[s.heap.objs.size,l],[s.heap.objs.size],_,its.toArray.size,_,_,λi=>ns.getD i 0,rfl,(Walks.tuple (A:=X.A.in1) (I.ok.hd hc) _ _ (X7 hlt) its.toArray).toS,⟨⟨_,Xa _ rfl,rfl,rfl⟩,pl.push _⟩,?_,val,λs' t' mv=>fin _ s' t' mv⟩);intro b hb;show b<(s.heap.push _).objs.size;rw[bU];rcases xj.mp hb with z|z
  .rw[z];exact fH _
  .rw[X6.mp z];exact cB hlt
end
section
variable{X:Cx}{ρ:Rho}{a b e:aj}{ds:List D}{i j:Int}{pos p p1 p2:aO}{y z:ah}{lo hi:Option aj}{l u:Option Int}
theorem Y7{K:k83}{H:Hp}:∀{ts:List ah}{xs:List V},j5 K H (ts.map D.str) xs->xs=ts.map V.str
 |[],_,h=>h
 |t::ts,_,⟨x,r,e,h,l⟩=>by subst e;cases(show x=.str t from h);rw[Y7 l];rfl
theorem Z5{K:k83}{H:Hp}:∀{ts:List Int}{xs:List V},j5 K H (ts.map D.int) xs->xs=ts.map V.int
 |[],_,h=>h
 |t::ts,_,⟨x,r,e,h,l⟩=>by subst e;cases(show x=.int t from h);rw[Z5 l];rfl
theorem DE.lenS (ha:DT X ρ a (.str y)) (hy:y.length<=ak) (hm:X.mg "len" = a8) (hg:Gl X "len") (hs:a9 [a] X.env=[(a6,aE a X.env)]):DE X ρ (.Call (.Name "len" p) [a] [] pos) (.int y.length):=λσ H Q R q =>(zf j0f hg hm fZ (j9 peS jm hs) (by decide) (by decide) hs).to (ha σ H _ R λv H1 g1 e1=>⟨y,by rw[show v=.str y from e1],hy,q _ H1 g1 rfl⟩)
theorem DE.catS(ha:DT X ρ a (.str y))(hb:DT X ρ b (.str z))(hl:y.length+z.length<=ak):DE X ρ (.BinOp a .Add b pos) (.str (y++z)):=λσ H Q R q =>(Vx j2v peS peS).to (ha σ H _ R λv H1 g1 e1=>hb σ H1 _ (R.grow g1) λu H2 g2 e2=>⟨y,z,e1,e2,hl,q _ H2 (g1.trans g2) rfl⟩)
theorem DE.ixC{c:Nat}(ha:DT X ρ a (.str y))(hb:DT X ρ b (.int i))(hy:y.length<=ak)(h:L2.atI y.cps.toList i=a5 c)(hs:Ve b):DE X ρ (.Subscript a b pos) (.str ⟨#[c]⟩):=λσ H Q R q =>(Ba jg0 peS peS hs).to (ha σ H _ R λv H1 g1 e1=>hb σ H1 _ (R.grow g1) λu H2 g2 e2=>⟨y,i,c,e1,e2,hy,h,q _ H2 (g1.trans g2) rfl⟩)
theorem DE.sliceS(ha:DT X ρ a (.str y))(hl:DP X ρ lo l)(hu:DP X ρ hi u)(hy:y.length<=ak):DE X ρ (.Subscript a (.Slice lo hi a8 p2) pos) (.str (bP y l u)):=λσ H Q R q =>(Mu jdz peS poS poS).to (ha σ H _ R λv H1 g1 e1=>hl σ H1 _ (R.grow g1) λH2 g2=>hu σ H2 _ (R.grow (g1.trans g2)) λH3 g3=>⟨y,e1,hy,q _ H3 (g1.trans (g2.trans g3)) rfl⟩)
theorem DE.int1 {k:Bool} (ha:DT X ρ a (.bl k)) (hm:X.mg "int" = a8) (hg:Gl X "int") (hs:a9 [a] X.env=[(a6,aE a X.env)]):DE X ρ (.Call (.Name "int" p) [a] [] pos) (.int (if k then 1 else 0)):=λσ H Q R q =>(Vy j6a hg hm boot_int (j9 peS jm hs) (by decide) (by decide) hs).to (ha σ H _ R λv H1 g1 e1=>.inr ⟨k,by rw[show v=.bl k from e1],q _ H1 g1 rfl⟩)
theorem DE.sum (lst:Bool) {ns:List Int} (ha:DT X ρ a (D.seq lst (ns.map D.int))) (hm:X.mg "sum" = a8) (hc:X.calm=a7) (hg:Gl X "sum") (hs:a9 [a] X.env=[(a6,aE a X.env)]):DE X ρ (.Call (.Name "sum" p) [a] [] pos) (.int ns.sum):=λσ H Q R q =>
 (zf (j62 hc) hg hm boot_sum (j9 peS jm hs) (by decide) (by decide) hs).to (ha σ H _ R λv H1 g1 e1=>by
  obtain⟨t,xs,ev,sq,en⟩:=Zj e1
  subst ev
  rw[Z5 en]at sq
  exact⟨lst,t,ns,rfl,sq,q _ H1 g1 rfl⟩)
theorem DE.join{sep:ah}{ts:List ah}{n:Nat}{p0:aO}(ha:DT X ρ a (.lst (ts.map D.str)))(hok:eW sep ts=a7)
  (hfew:((aR p2 (a9 [a] X.env)).all (λx=>!x.1)&&(bH p2 (bf [] X.env)).all (λx=>x.1.isSome)&&decide (([a]:List aj).length+([]:List aX).length+(if ([]:List aX).isEmpty then 0 else 1)<30))=a7)
  (hbase:aV (.Constant (.str sep) n p0) "join" X.env (aE (.Constant (.str sep) n p0) X.env)=aE (.Constant (.str sep) n p0) X.env)
  (hline:(p1.endLine==p2.line)=a7) (hs:a9 [a] X.env=(a6,aE a X.env)::a9 [] X.env):DE X ρ (.Call (.Attribute (.Constant (.str sep) n p0) "join" p1) [a] [] p2) (.str (eD sep ts)):=λσ H Q R q =>
 (U9 PySem.F.plainAttrs_str ir PySem.F.type_str_join jc3 j4q (j9 peS jm hs) hbase hfew hline hs rfl).to ⟨rfl,ha σ H _ R λv H1 g1 ⟨t,xs,e,sq,en⟩=>⟨sep,t,ts,rfl,by rw[e],by rw[Y7 en]at sq;exact sq,hok,q _ H1 g1 rfl⟩⟩
end
section
variable{prog:ar}{w:aA}{A:aC}{lst:Bool}{j t:ae}{its:Array aa}
theorem j3b(hh:A.handled=a8)(hne:t≠j):Draws prog w A j [j,t] its.size (λi v=>its[i]?=a5 v) (λi h=>qz lst h j t i/\qx lst h t its) where
 live:=λ_ _ st=>by obtain⟨o,e,_⟩:=st.1.obj;exact⟨o,e⟩
 frame:=λ_ h h' st hk=>⟨st.1.stay λo e=>hk j (by simp) o e,by
  have q:=st.2
  unfold qx at q ⊢
  cases lst with
  |true=>rw[if_pos rfl]at q ⊢;exact q.at λo e=>hk t (by simp) o e
  |false=>rw[if_neg xg]at q ⊢;exact q.at λo e=>hk t (by simp) o e⟩
 item:=λi s Q E hi st hQ=>j49 st.1 st.2 (y:=its[i]) (by simp[hi]) λh' hit' hs'=>hQ _ h' s.toks (by simp[hi]) ⟨hit',st.2.ext hs'.extBut hne⟩ hs'
 done:=λs Q E st hE=>Ky hh st.1 st.2 (by simp) hE
theorem j5r{n:Nat}(hh:A.handled=a8)(hne:t≠j)(hn:its[n]?=a8):Draws prog w A j [j,t] n (λi v=>its[i]?=a5 v) (λi h=>i=n/\qz lst h j t i/\qx lst h t its) where
 live:=λ_ _ st=>by obtain⟨o,e,_⟩:=st.2.1.obj;exact⟨o,e⟩
 frame:=λ_ h h' st hk=>⟨st.1,st.2.1.stay λo e=>hk j (by simp) o e,by
  have q:=st.2.2
  unfold qx at q ⊢
  cases lst with
  |true=>rw[if_pos rfl]at q ⊢;exact q.at λo e=>hk t (by simp) o e
  |false=>rw[if_neg xg]at q ⊢;exact q.at λo e=>hk t (by simp) o e⟩
 item:=λi s Q E hi st hQ=>absurd st.1 (X7 hi)
 done:=λs Q E st hE=>Ky hh st.2.1 st.2.2 hn hE
end
noncomputable abbrev eh2(h:aG)(lst:Bool)(t:ae):aG:=(zh1 h lst t).push { cls:=.type "enumerate",data:=.fields #[.none,.bool a6,.ref h.objs.size,k8 0,.none,.none] }
theorem j8p {lst:Bool} (t:ae) (its:Array aa):lZ (dh.«enumerate.__new__» ⟨[.type "enumerate",.ref t],[]⟩) (λ_ R s=>qx lst s.heap t its/\R (.ok (.ret (.ref (zh1 s.heap lst t).objs.size))) { s with heap:=eh2 s.heap lst t }) :=
 .of_wp λprog w A R s h=>by
  obtain⟨hp,g,d,tk,os⟩:=s;obtain⟨h1,h⟩:=h;have hsub:=sub_enumerate;have e1:qx lst (Shared.heap ⟨hp,g,d,tk,os⟩) t its:=h1;have ld:∃o:cF,hp.get? t=a5 o:=by
   unfold qx at e1;cases lst with
   |true=>rw[if_pos rfl]at e1;obtain⟨o,e,_⟩:=e1;exact⟨o,e⟩
   |false=>rw[if_neg xg]at e1;obtain⟨o,e,_⟩:=e1;exact⟨o,e⟩
  obtain⟨o,ho⟩:=ld
  wp_walk using bV ho
  refine wpAny_stack_any λstk=>?_;refine az ?_;split
  .rename_i cl _ _ _ _ _;cases(cl==bu "enumerate")
   .wp_walk using bV ho,Wb e1
    exact⟨_,rfl,h⟩
   .wp_walk using bV ho,Wb e1
    exact⟨_,rfl,h⟩
  .wp_walk using bV ho,Wb e1
   exact⟨_,rfl,h⟩
noncomputable def Ite(K:k83)(lst:Bool)(t:ae):It :=
 ⟨λi H=>∃xs x,SqB K lst H t xs/\xs[i]?=a5 x,
 λi H v H'=>∃p x,v=.ref p/\H p=a8/\H'=upd H p (.tup [.int (i:Int),x])/\∀xs,SqB K lst H t xs->xs[i]?=a5 x,
 λi H=>∃xs,SqB K lst H t xs/\xs.length<=i⟩
theorem j3x{P:ar}{w:aA}{K:k83}{es:List aj}{n:Nat}{pos:aO}{lst:Bool}{z j t:ae}(hzj:z≠j)(hzt:z≠t)(htj:t≠j) :
  Turn P w K (.Tuple es n pos) (Ite K lst t) [z,j] z (λi h=>(∃old,IsEnum h z j (i:Nat) old)/\qz lst h j t i) where
 mem:=by simp
 obj:=λi h ⟨⟨old,hz⟩,h1⟩ c hc=>by
  simp at hc;rcases hc with rfl|rfl
  .exact⟨_,hz,λv e=>by cases e⟩
  .exact h1.obj
 keep:=λi h h' ⟨⟨old,hz⟩,h1⟩ k=>⟨⟨old,k z (by simp) _ hz⟩,h1.stay λo e=>k j (by simp) o e⟩
 item:=by
  rintro X hP hw hK hc i pins s σ H E I hf ⟨⟨old,hz⟩,h1⟩ ⟨xs,x,sx,hx⟩;subst hP hw hK;obtain⟨us,ru,qu,_⟩:=I.side sx;obtain⟨u,hu,rx⟩:=ru.get hx;have hlt:i<us.toArray.size:=by obtain⟨h,_⟩:=X3.mp hu;simpa using h
  refine wpAny_pyNext_enum_itemD (j3b (A:=X.A.in1) (I.ok.hd hc) htj) hz ⟨h1,qu⟩ hlt hzj (by simp[hzj,hzt]) λv h' tk hv ho st ht sz kp=>⟨_,rfl,?_⟩
  have ev:u=v:=by
   have:us.toArray[i]?=a5 u:=by simpa using hu
   rw[this]at hv;exact aw hv
  subst ev;refine wpAny_letOwnedTupleGo_enum (s:={ s with heap:=h',toks:=tk+1 }) ho λh'' z'' sb=>?_
  replace sb:cT z h' h'':=sb
  have zlt:z<s.heap.objs.size:=xn hz;have kp':∀c o,c∉[z,j]->s.heap.get? c=a5 o->h''.get? c=a5 o:=λc o nc e=>by simp at nc;exact sb.extBut _ _ nc.1 (kp c o nc.1 nc.2 e)
  have pt:gx h'' s.heap.objs.size [.int i tk,u].toArray:=⟨_,sb.extBut _ _ (c8 zlt) ht,rfl,_,rfl⟩
  have I2:=(I.chgT hf kp' (xs:=[.int (i:Int),x]) (.cons ⟨tk,rfl⟩ (.cons rx .nil)) (by show 2<=ak;decide) pt (Zm.of (sb.extBut _ _ (c8 zlt) ht))).tok (tk+1);refine⟨.ref s.heap.objs.size,_,I2,rfl,⟨_,x,rfl,I.fresh,rfl,λws hw=>by rw[I.side_inj hw sx];exact hx⟩,⟨⟨u,?_⟩,st.1.ext sb.extBut (bT hzj)⟩,λc hc=>?_⟩
  .have e:((i+1:Nat):Int)=(i:Int)+1:=by push_cast;rfl
   rw[e];exact z''
  .obtain⟨o,e⟩:∃o,s.heap.get? c=a5 o:=by
    simp at hc;rcases hc with rfl|rfl
    .exact⟨_,hz⟩
    .obtain⟨o,e,_⟩:=h1.obj;exact⟨o,e⟩
   rw[jd (X7 (xn e))];exact(hf c hc).1
 done:=by
  rintro X hP hw hK hc i pins s σ H E I hf ⟨⟨old,hz⟩,h1⟩ ⟨xs,sx,hend⟩;subst hP hw hK;obtain⟨us,ru,qu,_⟩:=I.side sx;have e1:=ru.length;have hn:us.toArray[i]?=a8:=by simp;omega
  refine wpAny_pyNext_enum_endD (j5r (A:=X.A.in1) (I.ok.hd hc) htj hn) hz ⟨rfl,h1,qu⟩ λh' kp=>⟨rfl,I.chg hf λc o nc e=>?_⟩
  simp at nc;exact kp c o nc.2 e
 self:=λ_ _ _ _ _ ⟨⟨old,hz⟩,_⟩ h=>ko hz h
section
variable{X:Cx}{ρ:Rho}{a b:aj}{es:List aj}{n:Nat}{pos p q1 q2:aO}{ds ds':List D}{lst:Bool}
noncomputable def vo(ds:List D):List D:=ds.zipIdx.map λp=>D.tup [.int (p.2:Int),p.1]
theorem Ci{i:Nat}:(vo ds)[i]?=(ds[i]?).map λd=>D.tup [.int (i:Int),d]:=by unfold vo;rw[xq,List.getElem?_zipIdx];cases ds[i]?<;>simp
theorem j5h{K:k83}{F:Hp}{t:ae}{xs:List V}(s1:SqB K lst F t xs)(e1:j5 K F ds xs):Ys K F (Ite K lst t) (vo ds):=λi H A g hA=>by
 have s1':SqB K lst H t xs:=jo.seqB (g.seqB s1);have hl:(vo ds).length=ds.length:=by unfold vo;rw[xf,eR]
 refine⟨λh=>?_,λh=>⟨xs,s1',?_⟩,λv H' ⟨p,x,ev,np,eH,hx⟩=>?_⟩
 .rw[hl]at h;obtain⟨x,hx,_⟩:=e1.get (kh h);exact⟨xs,x,s1',hx⟩
 .rw[hl]at h;rw[e1.length];exact h
 .subst eH;refine⟨j8 np,λd hd=>?_⟩;rw[Ci]at hd;cases z:ds[i]? with
  |none=>rw[z]at hd;cases hd
  |some d1 =>rw[z]at hd;cases hd;obtain⟨x',hx',ex⟩:=e1.get z;have q1:=hx xs s1';rw[hx']at q1;have q1:=aw q1;subst q1;have pA:p∉A:=λz=>hA p z np;have gg:j4 F (del (upd H p (.tup [.int (i:Int),x'])) A):=g.trans (jh (j8 np));exact⟨p,[.int (i:Int),x'],ev,.inl (.inl (by rw[j6 pA];exact jb)),.int (i:Int),[x'],rfl,rfl,x',[],rfl,ex.mono gg,rfl⟩
theorem DI.enum (lst:Bool) (ha:DE X ρ a (D.seq lst ds)) (hm:X.mg "enumerate" = a8) (hg:Gl X "enumerate") (hs:a9 [a] X.env=[(a6,aE a X.env)]):DI X ρ (.Tuple es n q1) (.Call (.Name "enumerate" p) [a] [] pos) (vo ds):=λσ H R r q pins s I=>by
 have args:Mr X [a] σ H (λvs H'=>∃v,vs=[v]/\j4 H H'/\Enc X.K (del H' (owns ρ)) (D.seq lst ds) v) :=
  (j9 peS jm hs).to (ha σ H _ r λv H1 g1 e1=>⟨v,rfl,g1,e1⟩)
 refine Call_ (Zy I hg hm boot_enumerate (callWith_type1 (thn (args pos pins s I) λus s1 h1=>?_) hs rfl));obtain⟨vs,H1,I1,r1,v,ev,g1,e1⟩:=h1;subst ev;obtain⟨t,xs,et,sq,en⟩:=Zj e1;subst et;obtain⟨u1,eu,ru1⟩:=r1.one;subst eu;cases ru1;obtain⟨w1,rw1,qw1,_⟩:=I1.side (jo.seqB sq);refine callType_new F.called_enumerate (by decide) (F.typeCall_enumerate_1 _) (F.newCall_enumerate_1 _) (λobj=>F.args_object_init_2 obj _) F.entry_enumerate_new (j8p (lst:=lst) t w1.toArray) ⟨qw1,?_⟩;have z1:(zh1 s1.heap lst t).objs.size=s1.heap.objs.size+1:=bU ..;have b2:(eh2 s1.heap lst t).get? (zh1 s1.heap lst t).objs.size=a5 _:=Xa _ rfl;have b1:(eh2 s1.heap lst t).get? s1.heap.objs.size=a5 _:=xu _ (Xa _ rfl);have kp:∀c o,s1.heap.get? c=a5 o->(eh2 s1.heap lst t).get? c=a5 o:=λc o e=>xu _ (xu _ e);show _/\_;rw[z1]at b2 ⊢;have I2:Inv X pins σ H1 { s1 with heap:=eh2 s1.heap lst t }:=I1.kept (t':=s1.toks) kp;have lt1:t<s1.heap.objs.size:=by
  unfold qx at qw1;cases lst with
  |true=>rw[if_pos rfl]at qw1;obtain⟨_,e,_⟩:=qw1;exact xn e
  |false=>rw[if_neg xg]at qw1;obtain⟨_,e,_⟩:=qw1;exact xn e
 have side:qz lst (eh2 s1.heap lst t) s1.heap.objs.size t 0:=by
  unfold qz;cases lst with
  |true=>rw[if_pos rfl];exact⟨_,b1,rfl,rfl⟩
  |false=>rw[if_neg xg];exact⟨_,b1,rfl,rfl⟩
 refine⟨⟨_,b2,rfl⟩,ko (s:={ s1 with heap:=eh2 s1.heap lst t }) b2 ?_⟩;refine⟨_,_,_,Ite X.K lst t,H1,rfl,I2,j3x (j:=s1.heap.objs.size) (Nat.succ_ne_self _) (c8 (cB lt1)) (X7 lt1),⟨⟨_,b2⟩,side⟩,λc hc=>?_,q _ H1 g1 (j5h sq en)⟩;have hc':c=s1.heap.objs.size+1\/c=s1.heap.objs.size:=by simpa using hc
 have hge:s1.heap.objs.size<=c:=by rcases hc' with e|e<;>rw[e]<;>first|exact X5 _|exact Nat.le_add_right _ _
 obtain⟨f0,f1,f2,f3,f4,f5⟩:=I1.fpOk hge (I1.hok.fresh hge);exact⟨f0,f1,f2,f3,f4,f5⟩
end
section
variable{X:Cx}
theorem j7j:OpR X (bo .FloorDiv) (rI (λ_ j=>0<j/\j<18446744073709551616) λi j=>.int (i/j)):=opI λi j _ _ _ _ _ hc q=>by
 have e:i/j=i.fdiv j:=by rw[gq _ nofun]
 refine floordiv_int nofun (by rw[<-e];exact q) (.inl (PyProof.noPylong_of_log2 ?_))
 have h2:(2:Nat)^64=18446744073709551616:=by decide
 have:=(lK (n:=j.natAbs) (k:=64) nofun).mpr (by rw[h2];omega);omega
end
section
variable{X:Cx}{ρ:Rho}{a b e:aj}{d d':D}{ds:List D}{i j:Int}{pos p p1 p2:aO}{P:Po}
theorem DE.fdivB(ha:DT X ρ a (.int i))(hb:DT X ρ b (.int j))(h:0<j/\j<18446744073709551616):DE X ρ (.BinOp a .FloorDiv b pos) (.int (i/j)):=DE.arI (g:=λi j=>i/j) j7j ha hb h
end
section
variable{X:Cx}{ρ:Rho}{a b:aj}{es:List aj}{n:Nat}{pos p p1 p2 q1:aO}{ks:List (List Int)}{ds:List D}{k:List Int}
theorem any_range:∀bs:List Bool,(aB bs.length).any (λi=>(bs[i]?).getD a7)=bs.any id
 |[]=>rfl
 |b::bs=>by rw[X4,dM,tu,List.any_map,tu,<-any_range bs];rfl
theorem j0z (hc:X.calm=a7):J0 X (.builtin "any") (λxs H Q=>∃(l:ae)(bs:List Bool),xs=[.ref l]/\SqL X.K H l (bs.map V.bl)/\Q (.bl (bs.any id)) H):=by
 intro pins s σ H xs us Q I r ⟨l,bs,e,sq,q⟩;subst e;obtain⟨u,eu,ru⟩:=vals1 r;subst eu;cases ru;obtain⟨its,rv,pl,_⟩:=I.list sq;have hlt:l<s.heap.objs.size:=by obtain⟨_,_,e,_⟩:=pl;exact xn e
 have hl:its.length=bs.length:=by rw[<-rv.length,xf]
 refine call_any_walk (cN pl.isList ⟨s.heap.objs.size,[s.heap.objs.size,l],[s.heap.objs.size],its.toArray.size,_,_,λi=>(bs[i]?).getD a7,rfl,Walks.list (A:=X.A.in1) (I.ok.hd hc) _ _ (X7 hlt) its.toArray,⟨⟨_,Xa _ rfl,rfl,rfl⟩,pl.isList.push _⟩,?_,λh' tk kp=>?_⟩)
 .intro i v s' Q' E' hv hq;have hi:i<its.length:=by have:=Array.getElem?_eq_some_iff.mp hv;obtain⟨h,_⟩:=this;simpa using h
  have hb:i<bs.length:=by omega
  obtain⟨w1,hw,rw1⟩:=rv.get (x:=.bl bs[i]) (i:=i) (by rw[xq,kh hb];rfl);have:its.toArray[i]?=a5 w1:=by simpa using hw
  rw[this]at hv;cases hv;cases rw1;simp only[kh hb,T3]at hq;exact bW hq
 .have ev:(aB its.toArray.size).any (λi=>(bs[i]?).getD a7)=bs.any id:=by rw[xr,hl];exact any_range bs
  rw[ev];refine⟨.bl _,H,I.kept (t':=tk) λb o e=>kp b o ?_ (xu _ e),rfl,q⟩;intro z;rw[X6.mp z]at e;exact Xx _ (xn e)
theorem DE.any {bs:List Bool} (ha:DT X ρ a (.lst (bs.map D.bl))) (hm:X.mg "any" = a8) (hc:X.calm=a7) (hg:Gl X "any") (hs:a9 [a] X.env=[(a6,aE a X.env)]):DE X ρ (.Call (.Name "any" p) [a] [] pos) (.bl (bs.any id)):=λσ H Q R q =>(zf (j0z hc) hg hm boot_any (j9 peS jm hs) (by decide) (by decide) hs).to (ha σ H _ R λv H1 g1 ⟨l,xs,e,sq,en⟩=>⟨l,bs,by rw[e],by rw[O6 en]at sq;exact sq,q _ H1 g1 rfl⟩)
end
section
variable{X:Cx}{pos pos':aO}{o i value:aj}{td ty tv:TE}
theorem Inv.bigD{pins:k85}{σ:St}{H:Hp}{s:af}(I:Inv X pins σ H s):fF<s.heap.objs.size:=by have h:aq<s.heap.objs.size:=(I.mod.glob.keeps I.bk).lt;exact Xy (by decide) h
end
section
variable{X:Cx}{ρ:Rho}{it e:aj}{P:Po}{ds:List D}{x t y:Nat}{nx nt ny:ah}{n8:Nat}{p1 p2 p3 p4 p5 p6 p7 p8 p9 p10 p11 p12 p13 p14 p15 p16 p17 p18:aO}
theorem jam{H:Hp}{a:ae}{o:HO}(h:H a=a5 o):H=upd (del H [a]) a o:=funext λb=>by
 by_cases z:b=a
 .subst z;rw[jb];exact h
 .rw[jd z,j6 (by simpa using z)]
theorem Ui{H:Hp}{a:ae}{o:HO}(h:H a=a8):del (upd H a o) [a]=H:=funext λb=>by
 by_cases z:b=a
 .subst z;rw[qw (by simp)];exact h.symm
 .rw[j6 (by simpa using z),jd z]
theorem Rm{H F:Hp}{a:ae}{o:HO}(h:H a=a5 o):mrg [a] H F=upd F a o:=funext λb=>by
 by_cases z:b=a
 .subst z;rw[vp (by simp),jb];exact h
 .rw[jf (by simpa using z),jd z]
end
noncomputable def j3e:List (List Int)->List D->List Int->Option D
 |k'::ks,d::ds,k=>if k'=k then a5 d else j3e ks ds k
 |_,_,_=>a8
section
variable{X:Cx}{ρ:Rho}{it e1 e2:aj}{P:Po}{ds:List D}{x t y:Nat}{nx nt ny:ah}{p1 p2 p3 p4 p5 p6 p10 p11 p12 p14 p16 p17 p18:aO}
theorem Jh:∀ns:List Int,jq (ns.map D.int)=a7
 |[]=>rfl
 |n::ns=>by rw[xx,jq,Jh ns];rfl
end
theorem Ng{M:gv}{A:aC}{E:k84}{s:af}{β:Type}{a b:Nat}(f:Nat->β->jH (ForInStep β))(I:Nat->β->af->Prop)(Q:β->af->Prop)
  (turn:∀i c st,a<=i->i<b->I i c st->ax M A (f i c) (λr s'=>match r with|.yield c'=>I (i+1) c' s'|.done c'=>Q c' s') E st)
  (fin:∀c st,I (max a b) c st->Q c st) (c:β) (h:I a c s):ax M A (forIn [a:b] c f) Q E s:=by
 rw[Std.Legacy.Range.forIn_eq_forIn_range'];have hsz:([a:b]:Std.Legacy.Range).size=b-a:=by simp[Std.Legacy.Range.size]
 show ax M A (forIn (di a ([a:b]:Std.Legacy.Range).size 1) c f) Q E s;rw[hsz];refine wpAny_forIn_list f (λl c st=>∃i,a<=i/\i<=max a b/\l=di i (max a b-i) 1/\I i c st) Q ?_ ?_ _ c ⟨a,X5 _,by omega,by congr 1;omega,h⟩
 .rintro x rest c st ⟨i,hai,hib,hl,hI⟩;have hlt:i<max a b:=by
   rcases l0 i (max a b)with h'|h'
   .exact h'
   .rw[show max a b-i=0 by omega]at hl;simp at hl
  obtain⟨n,hn⟩:∃n,max a b-i=n+1:=⟨max a b-i-1,by omega⟩
  rw[hn,fq]at hl;obtain⟨rfl,rfl⟩:=List.cons.inj hl;refine aW (turn x c st hai nofun hI) (λr st' h'=>?_) λ_ _ h=>h;cases r with
  |done c'=>exact h'
  |yield c'=>exact⟨x+1,by omega,by omega,by congr 1;omega,h'⟩
 .rintro c st ⟨i,hai,hib,hl,hI⟩;have:i=max a b:=by
   rcases l0 i (max a b)with h'|h'
   .obtain⟨n,hn⟩:∃n,max a b-i=n+1:=⟨max a b-i-1,by omega⟩
    rw[hn,fq]at hl;cases hl
   .omega
  subst this;exact fin c st hI
theorem La(l:ae)(items:Array aa)(n:Nat)(dd:Option ae)(sl:Array (Option aa))(x:aa)(e:aa->Bool)(k:Nat)(hk:k<items.size)(h0:∀(j:Nat)(h:j<items.size),j<k->e items[j]=a6)(h1:e items[k]=a7) :
  lZ (dh.«tuple.index» ⟨[.ref l,x],[]⟩)
   (λA R s=>s.heap.get? l=a5 { cls:=.type "tuple",dict:=dd,data:=.seq items n,slots:=sl }/\(∀y,y∈items->cV A.in1 s y x (e y))/\R (.ok (.ret (.int k s.toks))) { s with toks:=s.toks+1 }) :=
 .of_wp λprog w A R s h=>by
  obtain⟨hp,g,d,tk,os⟩:=s;obtain⟨hl,he,h⟩:=h
  wp_walk using wpAny_loadPart' hl,Ng _ (λi b s'=>b.1=a8/\s'=⟨hp,g,d,tk,os⟩/\i<=k) _
  case turn =>
   rintro i c s'-hi ⟨hb,rfl,hik⟩;have hlt:i<items.size:=by omega
   have hy:items[i]?=a5 items[i]:=by simp[hlt]
   rw[hy];refine ai (he items[i] (Array.getElem_mem hlt) prog w _ _ ?_);by_cases z:i=k
   .subst z;rw[h1]
    wp_walk
    exact⟨_,rfl,h⟩
   .rw[h0 i hlt nofun]
    wp_walk
    exact⟨rfl,rfl,by omega⟩
  case fin =>rintro c s' ⟨hb,rfl,hik⟩;omega
  case h =>exact⟨rfl,rfl,Tc _⟩
section
variable{X:Cx}{ρ:Rho}{a e:aj}{l:List D}{d:D}{p1 pos:aO}
noncomputable def ixD(d:D):List D->Option Nat
 |[]=>a8
 |x::r=>if deq x d=a7 then a5 0 else(ixD d r).map (· + 1)
theorem Es{d:D}:∀{l:List D}{k:Nat},ixD d l=a5 k->∃x,l[k]?=a5 x/\deq x d=a7/\∀j y,j<k->l[j]?=a5 y->deq y d=a6
 |[],k,h=>by cases h
 |x::r,k,h=>by
  unfold ixD at h;split at h
  .rename_i z;cases h;exact⟨x,rfl,z,λj y hj=>absurd hj (jR _)⟩
  .rename_i z;cases q:ixD d r with
   |none=>rw[q]at h;cases h
   |some m =>
    rw[q]at h;cases h;obtain⟨y,hy,e,f⟩:=Es q;refine⟨y,hy,e,λj y hj hq=>?_⟩;cases j with
    |zero=>cases hq;simpa using z
    |succ j=>exact f j y (Nat.lt_of_succ_lt_succ hj) hq
theorem j51 (hu:X.A.units+100<bg):MtR X "tuple.index" (λx vs H Q=>∃t xs ds d y k,x=.ref t/\vs=[y]/\SqT X.K H t xs/\j5 X.K H ds xs/\Enc X.K H d y/\D.depL ds<=97/\d.dep<10000/\ixD d ds=a5 k/\Q (.int (k:Nat)) H):=by
 rintro pins s σ H x vs v us Q I rx rv ⟨t,xs,ds,d,y,k,e,e',sq,l,en,hd,nd,hk,q⟩;subst e e';cases rx;obtain⟨u,eu,ru⟩:=rv.one;subst eu;obtain⟨its,ri,⟨⟨cl,dd,da,sl⟩,h1,h2,n,h3⟩,_⟩:=I.tuple sq;have h2:cl=.type "tuple":=h2;have h3:da=.seq its.toArray n:=h3;subst h2 h3;obtain⟨z,hz,ez,fz⟩:=Es hk;have ll:=l.length;have rl:=ri.length;have hks:k<its.toArray.size:=by have:=(X3.mp hz).1;simp;omega
 have at_:∀(j:Nat)(h:j<its.toArray.size)(z:D),ds[j]?=a5 z->eqW X H d its.toArray[j]=deq z d:=λj h z hz=>by
  obtain⟨x,hx,ex⟩:=l.get hz;obtain⟨w,hw,rw⟩:=ri.get hx;have g1:its.toArray[j]=w:=by simp at h ⊢;rw[kh (by simpa using h)]at hw;exact aw hw
  have:=D.depL_le hz;rw[g1];exact Bx I nofun ex rw
 refine bN gW ⟨_,h1,rfl⟩ F.entry_tuple_index (F.args_tuple_index_2 _ _) (La t its.toArray n dd sl u (eqW X H d) k hks (λj h hj=>?_) (by rw[at_ k hks z hz];exact ez))
  ⟨h1,λy hy=>Yx (n:=97) I en ru nd (by show X.A.units+1+97<bg;omega) hd l ri y (by simpa using hy),⟨.int _,H,I.tok _,⟨_,rfl⟩,q⟩⟩
 have hlt:j<ds.length:=by simp at h;omega
 rw[at_ j h ds[j] (kh hlt)];exact fz j _ hj (kh hlt)
theorem DE.indexT {b:aj} {ds:List D} {k:Nat} {p2:aO} (hu:X.A.units+100<bg) (ha:DT X ρ a (.tup ds)) (hb:DT X ρ b d) (hd:D.depL ds<=97) (nd:d.dep<10000) (hk:ixD d ds=a5 k) (hbase:aV a "index" X.env (aE a X.env)=aE a X.env)
  (hfew:((aR p2 (a9 [b] X.env)).all (λx=>!x.1)&&(bH p2 (bf [] X.env)).all (λx=>x.1.isSome)
   && decide (([b]:List aj).length+([]:List aX).length+(if ([]:List aX).isEmpty then 0 else 1)<30))=a7) (hline:(p1.endLine==p2.line)=a7)
  (hs:a9 [b] X.env=(a6,aE b X.env)::a9 [] X.env):DE X ρ (.Call (.Attribute a "index" p1) [b] [] p2) (.int (k:Nat)):=λσ H Q R q =>
 (U9 PySem.F.plainAttrs_tuple gW PySem.F.type_tuple_index (j51 hu) peS (j9 peS jm hs) hbase hfew hline hs rfl).to (ha σ H _ R λv H1 g1 ⟨t,xs,e,sq,l⟩=>⟨by rw[e];exact .inr (.inl ⟨rfl,xs,sq⟩),hb σ H1 _ (R.grow g1) λu H2 g2 e2 =>
  ⟨t,xs,ds,d,u,k,e,rfl,g2.seqT sq,l.mono g2,e2,hd,nd,hk,q _ H2 (g1.trans g2) rfl⟩⟩)
end
noncomputable def j9y(l:List (List Int))(i j:Nat):Bool:=HT.lexLt (l.getD i []) (l.getD j [])
noncomputable def dval(kvs:List (ah×Int))(k:ah):Option Int:=(kvs.find? λp=>decide (p.1=k)).map λp=>p.2
noncomputable def Yr(kvs:List (ah×Int))(k:ah):Bool:=kvs.any λp=>decide (p.1=k)
noncomputable def dput(kvs:List (ah×Int))(k:ah)(n:Int):List (ah×Int):=if Yr kvs k=a7 then kvs.map λp=>if p.1=k then(p.1,n)else p else kvs++[(k,n)]
theorem j8v{kvs:List (ah×Int)}{k:ah}{n:Int}:(dput kvs k n).length<=kvs.length+1:=by
 unfold dput;split
 .rw[xf];omega
 .rw[Xb];simp
theorem Yz{p:ah×Int}{kvs:List (ah×Int)}{vs:List (Key×aa)}(r:KV (kvI (p::kvs)) vs):∃t qs,vs=(.inr p.1,.int p.2 t)::qs/\KV (kvI kvs) qs:=by
 have r':KV ((.inr p.1,.int p.2)::kvI kvs) vs:=r;unfold KV at r';cases r' with
 |@cons _ q _ qs h t =>
  obtain⟨h1,h2⟩:=h;obtain⟨q1,q2⟩:=q;obtain⟨tk,e⟩:=(show ∃t,q2=bA p.2 t from h2)
  have h1:bC p.1=q1:=h1;subst h1 e;exact⟨tk,qs,rfl,t⟩
theorem El:∀{kvs:List (ah×Int)} {vs:List (Key×aa)},KV (kvI kvs) vs->vs.length=kvs.length
 |[],vs,r=>by have r':KV ([]:List (Key×V)) vs:=r;unfold KV at r';cases r';rfl
 |p::kvs,vs,r=>by obtain⟨t,qs,e,r'⟩:=Yz r;subst e;rw[X4,X4,El r']
theorem Ek{vs:List (Key×aa)}(r:KV (kvI []) vs):vs=[]:=by have:=El r;exact List.length_eq_zero_iff.mp this
theorem j59{k:ah}{n:Int}:∀{kvs:List (ah×Int)} {vs:List (Key×aa)},KV (kvI kvs) vs->dval kvs k=a5 n->∃t,valueAt vs (.inr k)=a5 (.int n t)
 |[],_,_,h=>by cases h
 |p::kvs,vs,r,h=>by
  obtain⟨t,qs,e,r'⟩:=Yz r;subst e;unfold dval at h;rw[Th]at h;by_cases z:p.1=k
  .rw[decide_eq_true z]at h;cases h;exact⟨t,by simp[valueAt,Th,z]⟩
  .rw[decide_eq_false z]at h;obtain⟨t',e'⟩:=j59 (kvs:=kvs) r' h;refine⟨t',?_⟩;rw[<-e'];have z':¬((bC p.1:Key)=bC k):=λy=>z (eZ y);simp[valueAt,Th,z']
theorem j5a{k:ah}:∀{kvs:List (ah×Int)} {vs:List (Key×aa)},KV (kvI kvs) vs->(vs.any λkv=>decide (kv.1=(bC k:Key)))=Yr kvs k
 |[],_,r=>by rw[Ek r];rfl
 |p::kvs,vs,r=>by
  obtain⟨t,qs,e,r'⟩:=Yz r;subst e;have ih:=j5a (k:=k) r';unfold Yr at ih ⊢;rw[tu,tu,ih];congr 1;by_cases z:p.1=k
  .simp[z]
  .have z':¬((bC p.1:Key)=bC k):=λy=>z (eZ y);rw[decide_eq_false z,decide_eq_false z']
theorem j1n{k:ah}{n:Int}{u:aa}(ru:RelV (.int n) u):∀{kvs:List (ah×Int)} {vs:List (Key×aa)},KV (kvI kvs) vs ->
  KV (kvI (kvs.map λp=>if p.1=k then(p.1,n)else p)) (vs.map λkv=>if kv.1=(bC k:Key) then(kv.1,u)else kv)
 |[],_,r=>by rw[Ek r];exact Paired.nil
 |p::kvs,vs,r=>by
  obtain⟨t,qs,e,r'⟩:=Yz r;subst e;have ih:=j1n (k:=k) ru r';by_cases z:p.1=k
  .have z':(bC p.1:Key)=bC k:=congrArg _ z;rw[xx,xx,if_pos z,if_pos z'];exact Paired.cons ⟨rfl,ru⟩ ih
  .have z':¬((bC p.1:Key)=bC k):=λy=>z (eZ y);rw[xx,xx,if_neg z,if_neg z'];exact Paired.cons ⟨rfl,t,rfl⟩ ih
theorem j1m{p:ah×Int}{u:aa}(ru:RelV (.int p.2) u):∀{kvs:List (ah×Int)} {vs:List (Key×aa)},KV (kvI kvs) vs->KV (kvI (kvs++[p])) (vs++[(.inr p.1,u)])
 |[],_,r=>by rw[Ek r];exact Paired.cons ⟨rfl,ru⟩ Paired.nil
 |q::kvs,vs,r=>by obtain⟨t,qs,e,r'⟩:=Yz r;subst e;exact Paired.cons ⟨rfl,t,rfl⟩ (j1m ru r')
theorem jfv{k:ah}{n:Int}{u:aa}{kvs:List (ah×Int)}{vs:List (Key×aa)}(r:KV (kvI kvs) vs)(ru:RelV (.int n) u):KV (kvI (dput kvs k n)) (stored vs (.inr k) u):=by
 unfold dput stored;rw[j5a r];by_cases z:Yr kvs k=a7
 .rw[if_pos z,if_pos z];exact j1n ru r
 .rw[if_neg z,if_neg z];exact j1m (p:=(k,n)) ru r
section
variable{X:Cx}{ρ:Rho}{a b e k:aj}{rest:List aN}{P:Po}{kvs:List (ah×Int)}{z:ah}{n:Int}{i j:Nat}{nx ny:ah}{pos pos' p p1 p2 p3 p4 p5 p6 p7 p8:aO}{td ty tv:TE}{o value:aj}
theorem ja6{pins:k85}{σ:St}{H:Hp}{s:af}{d:ae}(I:Inv X pins σ H s)(hx:H d=a5 (.dK (kvI kvs))):kvs.length<=ak/\(d==fF)=a6/\∃vs,KV (kvI kvs) vs/\s.heap.DictOf (Rn X.prog X.w) d vs:=by
 obtain⟨z1,z2,z3⟩:=(show jg X.prog X.w H s.heap d (.dK (kvI kvs))from I.hok _ _ hx)
 exact⟨by simpa [kvI]using z1,z2,z3⟩
theorem jj2:IxR X (λx y H Q=>∃(d:ae)(kvs:List (ah×Int)) (k:ah) (n:Int),x=.ref d/\y=.str k/\H d=a5 (.dK (kvI kvs))/\dval kvs k=a5 n/\Q (.int n) H):=by intro value slice pins s σ H x y v u Q I rx ry h hs;obtain⟨d,kvs,k,n,rfl,rfl,hx,hv,q⟩:=h;cases rx;obtain⟨t,rfl⟩:=ry;obtain⟨hz,hd,vs,rel,dd⟩:=ja6 I hx;obtain⟨t',hw⟩:=j59 rel hv;exact m6 dd.typeIs slot_dict_getitem.lookup (wpAny_getItem_of (M6 X.prog X.w k t) dd.mapOf hw ⟨.int n,H,I.tok _,⟨_,rfl⟩,q⟩) hs
theorem DE.dix(ha:DT X ρ a (.sct kvs))(hb:DT X ρ b (.str z))(h:dval kvs z=a5 n)(hs:Ve b):DE X ρ (.Subscript a b pos) (.int n):=λσ H Q R q =>(Ba jj2 peS peS hs).to (ha σ H _ R λv H1 g1 ⟨d,e,hx⟩=>hb σ H1 _ (R.grow g1) λu H2 g2 e2=>⟨d,kvs,z,n,e,e2,g2 _ _ hx,h,q _ H2 (g1.trans g2) rfl⟩)
def jdr:TE:=λ_ H Q=>∀p,H p=a8->Q (.ref p) (upd H p (.dK (kvI [])))
theorem j7g:PE X (.Dict [] [] pos) jdr:=λpins s σ H Q I h =>
 wpAny_Dict_empty ⟨.ref s.heap.objs.size,_,I.laid (a:=s.heap.objs.size) (o:=.dK (kvI [])) (t':=s.toks) (λ_ _ q=>xu _ q) (X5 _)
  ⟨Tc _,beq_eq_false_iff_ne.mpr (bT (X7 I.bigD)),[],Paired.nil,Heap.DictOf.new s.heap⟩,rfl,h _ (I.hok.fresh (X5 _))⟩
def je9(td ty tv:TE):TS:=λD σ H=>tv σ H λv H1=>td σ H1 λx H2=>ty σ H2 λy H3 =>∃(d:ae)(kvs:List (ah×Int)) (k:ah) (n:Int),x=.ref d/\H3 d=a5 (.dK (kvI kvs))/\y=.str k/\v=.int n/\kvs.length<ak/\D.nx σ (upd H3 d (.dK (kvI (dput kvs k n))))
theorem Ir(ho:PE X o td)(hi:PE X k ty)(hv:PE X value tv)(hs:aP value (a5 (.Subscript o k pos')) pos.line X.env=pure a6) :
  PS X (.Assign [.Subscript o k pos'] value pos) (je9 td ty tv):=by
 intro pins s σ H D I h;refine wpAny_Assign_Subscript (thn (hv pins s σ H _ I h) λr s1 ⟨v,H1,I1,rv,q1⟩=>thn (ho pins s1 σ H1 _ I1 q1) λu s2 ⟨x,H2,I2,rx,q2⟩=>thn (hi pins s2 σ H2 _ I2 q2) λiv s3 ⟨y,H3,I3,ry,hq⟩=>?_) hs;obtain⟨d,kvs,k,n,ex,hx,ey,ev,hl,q⟩:=hq;subst ex ey ev;cases rx;obtain⟨t,rfl⟩:=ry;obtain⟨hz,hd,vs,rel,dd⟩:=ja6 I3 hx;refine wpAny_setItem_pairs (hsz:=by rw[El rel];exact hz) (M6 X.prog X.w k t) dd λh' dd' sb=>?_;have he:∃q,h'.get? d=a5 q:=let ⟨q,_,_,hq,_⟩:=dd';⟨q,hq⟩;have hl':(dput kvs k n).length<=ak:=by have:=j8v (kvs:=kvs) (k:=k) (n:=n);omega
 exact⟨σ,_,I3.write (x:=d) (e:=d) (o:=.dK (kvI (dput kvs k n))) (t':=s3.toks+1) (by rw[hx];exact True.intro) (.inl rfl) (λb q hb z=>(sb.2 b hb).trans z) he ⟨by simpa [kvI]using hl',hd,_,jfv rel rv,dd'⟩,q⟩
theorem j52 (hu:X.A.units+100<bg):MtR X "list.index" (λx vs H Q=>∃t xs ds d y k,x=.ref t/\vs=[y]/\SqL X.K H t xs/\j5 X.K H ds xs/\Enc X.K H d y/\D.depL ds<=97/\d.dep<10000/\ixD d ds=a5 k/\Q (.int (k:Nat)) H):=by
 rintro pins s σ H x vs v us Q I rx rv ⟨t,xs,ds,d,y,k,e,e',sq,l,en,hd,nd,hk,q⟩;subst e e';cases rx;obtain⟨u,eu,ru⟩:=rv.one;subst eu;obtain⟨its,ri,⟨⟨cl,dd,da,sl⟩,n,h1,h2,h4,h3⟩,hz0⟩:=I.list sq;have h2:cl=.type "list":=h2;have h3:da=.seq its.toArray n:=h3;subst h2 h3;obtain⟨z,hz,ez,fz⟩:=Es hk;have ll:=l.length;have rl:=ri.length;have hks:k<its.toArray.size:=by have:=(X3.mp hz).1;simp;omega
 have at_:∀(j:Nat)(h:j<its.toArray.size)(z:D),ds[j]?=a5 z->eqW X H d its.toArray[j]=deq z d:=λj h z hz=>by
  obtain⟨x,hx,ex⟩:=l.get hz;obtain⟨w,hw,rw⟩:=ri.get hx;have g1:its.toArray[j]=w:=by simp at h ⊢;rw[kh (by simpa using h)]at hw;exact aw hw
  have:=D.depL_le hz;rw[g1];exact Bx I nofun ex rw
 have hn:=Yy;have hks':k<its.length:=by simpa using hks
 refine bN i3 ⟨_,h1,rfl⟩ F.entry_list_index (F.args_list_index_2 _ _) (SeqAt.list_indexAt t its.toArray n dd sl u (eqW X H d) k hks nofun (by rw[at_ k hks z hz];exact ez) (λj h hj=>?_))
  ⟨h1,λy hy=>Yx (n:=97) I en ru nd (by show X.A.units+1+97<bg;omega) hd l ri y (by simpa using hy),⟨.int _,H,I.tok _,⟨_,rfl⟩,q⟩⟩
 have hlt:j<ds.length:=by simp at h;omega
 rw[at_ j h ds[j] (kh hlt)];exact fz j _ hj (kh hlt)
theorem DE.indexL {ds:List D} {d:D} {k':Nat} (hu:X.A.units+100<bg) (ha:DT X ρ a (.lst ds)) (hb:DT X ρ b d) (hd:D.depL ds<=97) (nd:d.dep<10000) (hk:ixD d ds=a5 k') (hbase:aV a "index" X.env (aE a X.env)=aE a X.env)
  (hfew:((aR p2 (a9 [b] X.env)).all (λx=>!x.1)&&(bH p2 (bf [] X.env)).all (λx=>x.1.isSome)
   && decide (([b]:List aj).length+([]:List aX).length+(if ([]:List aX).isEmpty then 0 else 1)<30))=a7) (hline:(p1.endLine==p2.line)=a7)
  (hs:a9 [b] X.env=(a6,aE b X.env)::a9 [] X.env):DE X ρ (.Call (.Attribute a "index" p1) [b] [] p2) (.int (k':Nat)):=λσ H Q R q =>
 (U9 Tt i3 PySem.F.type_list_index (j52 hu) peS (j9 peS jm hs) hbase hfew hline hs rfl).to (ha σ H _ R λv H1 g1 ⟨t,xs,e,sq,l⟩=>⟨by rw[e];exact .inl ⟨rfl,xs,sq⟩,hb σ H1 _ (R.grow g1) λu H2 g2 e2 =>
  ⟨t,xs,ds,d,u,k',e,rfl,g2.seq sq,l.mono g2,e2,hd,nd,hk,q _ H2 (g1.trans g2) rfl⟩⟩)
end
theorem j8u{kvs:List (ah×Int)}{k:ah}{n:Int}(h:Yr kvs k=a6):dput kvs k n=kvs++[(k,n)]:=by unfold dput;rw[if_neg (by rw[h];simp)]
theorem j6s{ks:List ah}{ns:List Int}{k:Nat}{x:ah}{y:Int}(hn:ks.Nodup)(hx:ks[k]?=a5 x)(hy:ns[k]?=a5 y):dput ((ks.zip ns).take k) x y=(ks.zip ns).take (k+1):=by
 have hz:(ks.zip ns)[k]?=a5 (x,y):=by rw[gp];exact⟨hx,hy⟩
 rw[Tq,hz,j8u]
 .rfl
 .unfold Yr;rw[iV];intro p hp hc;obtain⟨i,hi,e⟩:=Ti.mp hp;have hi':i<k:=by simp at hi;omega
  rw[iU]at e;have hi2:i<(ks.zip ns).length:=by simp at hi ⊢;omega
  have hi3:i<ks.length:=by simp at hi2;omega
  have ek:ks[i]?=a5 p.1:=by rw[<-e,List.getElem_zip];exact kh hi3
  have hc:p.1=x:=of_decide_eq_true hc;rw[hc]at ek;have hk3:=(X3.mp hx).1;have:=(List.getElem?_inj hi3 hn).mp (ek.trans hx.symm);omega
section
variable{X:Cx}{ρ:Rho}{a e:aj}{es:List aj}{x:ah}{d:D}{p p1 p2 pos:aO}{y:ah}{ds:List D}
theorem Oe{M:gv}{A:aC}{E:k84}{s:af}{env:cI}{value:aj}{pos:aO}{Q:k84}
  (h:ax M A (aE value env) (λv s₁=>ax M A (pyReprObj v) (λr s₂=>ax M A (formatField r cY) Q E s₂) E s₁) E s) :
  ax M A (aE (.FormattedValue value 114 a8 pos) env) Q E s:=by
 rw[arm_eval_FormattedValue];refine ai (aW h (λv s₁ h₁=>?_) λ_ _ x=>x);refine ai (ic ?_);show ax _ _ (do let v' <-iM [v] (pyReprObj v);formatField v' cY) Q E s₁;exact ai (dO h₁)
theorem DE.fmtR(ha:DT X ρ e (.str y))(hy:(aQ y).length<=ak):DE X ρ (.FormattedValue e 114 a8 pos) (.str (aQ y)):=λσ H Q R q pins s I=>by
 refine Oe (thn (ha σ H (λv H1=>v=.str y/\j4 H H1) R (λv H1 g e=>⟨e,g⟩) pins s I) λu s1 ⟨v,H1,I1,r,ev,g⟩=>?_);subst ev;obtain⟨t,rfl⟩:=(show ∃t,u=bD y t from r)
 refine wpAny_pyReprObj_gives (fD s1 y t) F.slot_str_repr F.entry_str_repr (F.args_str_repr_1 _) (gives_str_repr y t) ?_ rfl hy;exact lI (λt' tk=>⟨.str (aQ y),H1,I1.un (t':=tk) Un.refl I1.hok,⟨_,rfl⟩,q _ H1 g rfl⟩) hy
theorem Od.grow{σ:St}{H H':Hp}(k:Od X σ H x)(g:j4 H H'):Od X σ H' x:=λpins H2 s' e C I g2 hC Fe=>k pins H2 s' e C I (g.trans g2) hC Fe
theorem DXA.head(ha:DX X ρ a x)(hs:a9 (a::es) X.env=(a6,aE a X.env)::a9 es X.env):DXA X ρ (a::es) x:=λσ H Q R k =>(j9 peS paS hs).to (ha σ H _ R k)
theorem DXA.tail(ha:DT X ρ a d)(h:DXA X ρ es x)(hs:a9 (a::es) X.env=(a6,aE a X.env)::a9 es X.env):DXA X ρ (a::es) x:=λσ H Q R k =>(j9 peS paS hs).to (ha σ H _ R λv H1 g _=>h σ H1 _ (R.grow g) (k.grow g))
theorem DX.args {f:ah} (ha:DXA X ρ (e::es) x) (hg:Gl X f) (hdb:(f==k87)=a6) {fa:ae} (hfa:X.mg f=a5 (.ref fa)) (hk:W.keepIn X.K (.ref fa)=a7)
  (he:a9 (e::es) X.env=(a6,aE e X.env)::a9 es X.env) (hpl:(aR pos (a9 es X.env)).any (·.1)=a6):DX X ρ (.Call (.Name f p) (e::es) [] pos) x:=λσ H Q R k pins s I=>by
 refine br (Zg I hg hfa ?_ hdb);exact W.callWith_K (h₀:=X.base) I.ok.mod.kin hk (thn (ha σ H (λ_ _=>False) R k pos pins s I) λus s1 ⟨vs,H1,I1,r,z⟩=>z.elim) he hpl
end
noncomputable def Yo:List Int->Int
 |[]=>0
 |a::r=>r.foldl max a
theorem Ce:∀(r:List Int)(a:Int),r.foldl max a∈a::r/\∀b∈a::r,b<=r.foldl max a
 |[],a=>⟨X6.mpr rfl,λb hb=>by rw[X6.mp hb];exact lN _⟩
 |c::r,a=>by
  rw[Tg];obtain⟨h1,h2⟩:=Ce r (max a c);refine⟨?_,λb hb=>?_⟩
  .rcases xj.mp h1 with z|z
   .rw[z];by_cases q:a<=c
    .rw[Int.max_eq_right q];exact km _ xm
    .rw[Int.max_eq_left nofun];exact xm
   .exact km _ (km _ z)
  .have l:=h2 (max a c) xm;rcases xj.mp hb with z|z
   .rw[z];omega
   .rcases xj.mp z with z|z
    .rw[z];omega
    .exact h2 b (km _ z)
theorem Eg{ns:List Int}(h:ns≠[]):Yo ns∈ns/\∀b∈ns,b<=Yo ns:=by
 cases ns with
 |nil=>exact absurd rfl h
 |cons a r=>exact Ce r a
theorem jc5{ns:List Int}{M:Int}(h1:M∈ns)(h2:∀a∈ns,a<=M):Yo ns=M:=by
 have hn:ns≠[]:=λe=>by rw[e]at h1;exact nomatch h1
 obtain⟨a,b⟩:=Eg hn;have:=h2 _ a;have:=b _ h1;omega
noncomputable def W8(ns:List Int):Int:=-Yo (ns.map λn=>-n)
theorem j7m{ns:List Int}(h:ns≠[]):W8 ns∈ns/\∀b∈ns,W8 ns<=b:=by
 obtain⟨h1,h2⟩:=Eg (ns:=ns.map λn=>-n) (by simpa using h);obtain⟨a,ha,e⟩:=Xn.mp h1;unfold W8;refine⟨?_,λb hb=>?_⟩
 .rw[<-e,Int.neg_neg];exact ha
 .have:=h2 _ (Xn.mpr ⟨b,hb,rfl⟩);omega
theorem jc4{ns:List Int}{M:Int}(h1:M∈ns)(h2:∀a∈ns,M<=a):W8 ns=M:=by
 obtain⟨a,b⟩:=j7m (ns:=ns) λe=>by rw[e]at h1;exact nomatch h1
 have:=h2 _ a;have:=b _ h1;omega
section
variable{X:Cx}{ρ:Rho}{a b e:aj}{es:List aj}{x y:ah}{d:D}{i j:Int}{p p1 p2 p3 p4 pk pos:aO}{ds:List D}
theorem j9j{pins:k85}{s:af}{σ:St}{H:Hp}{l:ae}{ns:List Int}(I:Inv X pins σ H s)(sq:SqL X.K H l (ns.map V.int))(hne:ns≠[]):∃zs,s.heap.IsList l (eT zs)/\0<zs.size/\zs.size=ns.length/\∀i,i<zs.size->gu zs i=ns.getD i 0:=by
 obtain⟨its,rv,pl,_⟩:=I.list sq;have hl:its.length=ns.length:=by rw[<-rv.length,xf]
 have val:∀(i:Nat)(v:aa),its[i]?=a5 v->∃t,v=bA (ns.getD i 0) t:=by
  intro i v hv;have hi:i<its.length:=(X3.mp hv).1;have hi':i<ns.length:=by omega
  obtain⟨w1,hw,rw1⟩:=rv.get (x:=.int (ns.getD i 0)) (i:=i) (by rw[xq,kh hi',kj,kh hi'];rfl);rw[hw]at hv;cases hv;exact rw1
 have hall:AllInts its.toArray:=by intro v hv;obtain⟨i,hi,e⟩:=Ti.mp (show v∈its by simpa using hv);obtain⟨t,e'⟩:=val i v (by rw[kh hi,e]);exact⟨_,t,e'⟩
 obtain⟨zs,hz⟩:=hall.items;have pl':=pl.isList;rw[hz]at pl';have hsz:0<zs.size:=by
  have:its.toArray.size=(eT zs).size:=by rw[hz]
  have h1:0<ns.length:=List.length_pos_iff.mpr hne;simp[eT]at this;omega
 have hns:∀i,i<zs.size->gu zs i=ns.getD i 0:=by
  intro i hi;obtain⟨v1,e1⟩:∃v,(eT zs)[i]?=a5 v:=⟨_,Array.getElem?_eq_getElem (by simpa [eT]using hi)⟩
  obtain⟨t,ht⟩:=jE e1;rw[<-hz]at e1;obtain⟨t',ht'⟩:=val i _ (by simpa using e1);rw[ht]at ht';exact(Value.int.inj ht').1
 have len:zs.size=ns.length:=by
  have:its.toArray.size=(eT zs).size:=by rw[hz]
  simp[eT]at this;omega
 exact⟨zs,pl',hsz,len,hns⟩
theorem j65 (hc:X.calm=a7):J0 X (.builtin "max") (λxs H Q=>∃(l:ae)(ns:List Int),xs=[.ref l]/\SqL X.K H l (ns.map V.int)/\ns≠[]/\Q (.int (Yo ns)) H):=by
 rintro pins s σ H xs us Q I r ⟨l,ns,e,sq,hne,q⟩;subst e;obtain⟨u,eu,ru⟩:=vals1 r;subst eu;cases ru;obtain⟨zs,pl',hsz,len,hns⟩:=j9j I sq hne;refine max_intList (I.ok.hd hc) pl' hsz λv h' tk hv hk=>?_;obtain⟨t,rfl⟩:=jE hv;obtain⟨h1,h2⟩:=argBest_gt (gu zs) (zs.size-1);have hM:Yo ns=gu zs (argBest (λi j=>decide (gu zs i>gu zs j)) (zs.size-1)):=by
  refine jc5 ?_ λc hc=>?_
  .rw[hns _ nofun];rw[kj,kh nofun];exact Pq _
  .obtain⟨k,hk,rfl⟩:=Ti.mp hc;have:=h2 k nofun
   rw[hns k nofun,kj,kh hk]at this;exact this
 rw[hM]at q;exact⟨.int _,H,I.kept hk,⟨t,rfl⟩,q⟩
theorem j63 (hc:X.calm=a7):J0 X (.builtin "min") (λxs H Q=>∃(l:ae)(ns:List Int),xs=[.ref l]/\SqL X.K H l (ns.map V.int)/\ns≠[]/\Q (.int (W8 ns)) H):=by
 rintro pins s σ H xs us Q I r ⟨l,ns,e,sq,hne,q⟩;subst e;obtain⟨u,eu,ru⟩:=vals1 r;subst eu;cases ru;obtain⟨zs,pl',hsz,len,hns⟩:=j9j I sq hne;refine min_intList (I.ok.hd hc) pl' hsz λv h' tk hv hk=>?_;obtain⟨t,rfl⟩:=jE hv;obtain⟨h1,h2⟩:=argBest_lt (gu zs) (zs.size-1);have hM:W8 ns=gu zs (argBest (λi j=>decide (gu zs i<gu zs j)) (zs.size-1)):=by
  refine jc4 ?_ λc hc=>?_
  .rw[hns _ nofun];rw[kj,kh nofun];exact Pq _
  .obtain⟨k,hk,rfl⟩:=Ti.mp hc;have:=h2 k nofun
   rw[hns k nofun,kj,kh hk]at this;exact this
 rw[hM]at q;exact⟨.int _,H,I.kept hk,⟨t,rfl⟩,q⟩
theorem DE.max2 (ha:DT X ρ a (.int i)) (hb:DT X ρ b (.int j)) (hm:X.mg "max" = a8) (hc:X.calm=a7) (hg:Gl X "max") (hs:a9 [a,b] X.env=(a6,aE a X.env)::a9 [b] X.env) (hs2:a9 [b] X.env=(a6,aE b X.env)::a9 [] X.env)
  (hpl:(aR pos (a9 [b] X.env)).any (·.1)=a6):DE X ρ (.Call (.Name "max" p) [a,b] [] pos) (.int (if j>i then j else i)):=λσ H Q R q =>
 (zf (j66 hc) hg hm boot_max (j9 peS (j9 peS jm hs2) hs) (by decide) (by decide) hs hpl).to (ha σ H _ R λv H1 g1 e1=>hb σ H1 _ (R.grow g1) λu H2 g2 e2=>⟨i,j,by rw[show v=.int i from e1,show u=.int j from e2],q _ H2 (g1.trans g2) rfl⟩)
theorem DE.maxL {ns:List Int} (ha:DT X ρ a (.lst (ns.map D.int))) (hn:ns≠[]) (hm:X.mg "max" = a8) (hc:X.calm=a7) (hg:Gl X "max") (hs:a9 [a] X.env=[(a6,aE a X.env)]):DE X ρ (.Call (.Name "max" p) [a] [] pos) (.int (Yo ns)):=λσ H Q R q =>(zf (j65 hc) hg hm boot_max (j9 peS jm hs) (by decide) (by decide) hs).to (ha σ H _ R λv H1 g1 ⟨l,xs,e,sq,en⟩=>⟨l,ns,by rw[e],by rw[Z5 en]at sq;exact sq,hn,q _ H1 g1 rfl⟩)
theorem DE.minL {ns:List Int} (ha:DT X ρ a (.lst (ns.map D.int))) (hn:ns≠[]) (hm:X.mg "min" = a8) (hc:X.calm=a7) (hg:Gl X "min") (hs:a9 [a] X.env=[(a6,aE a X.env)]):DE X ρ (.Call (.Name "min" p) [a] [] pos) (.int (W8 ns)):=λσ H Q R q =>(zf (j63 hc) hg hm boot_min (j9 peS jm hs) (by decide) (by decide) hs).to (ha σ H _ R λv H1 g1 ⟨l,xs,e,sq,en⟩=>⟨l,ns,by rw[e],by rw[Z5 en]at sq;exact sq,hn,q _ H1 g1 rfl⟩)
end
theorem j5.getE{K:k83}{H:Hp}:∀{ds:List D}{xs:List V}{k:Nat}{d:D},j5 K H ds xs->ds[k]?=a5 d->∃y,xs[k]?=a5 y/\Enc K H d y/\j5 K H (ds.eraseIdx k) (xs.eraseIdx k)
 |[],_,_,_,_,h=>by simp at h
 |c::ds,xs,0,d,⟨v,r,e,ev,l⟩,h=>by rw[dE]at h;cases h;subst e;exact⟨v,rfl,ev,l⟩
 |c::ds,xs,k+1,d,⟨v,r,e,ev,l⟩,h=>by rw[Py]at h;subst e;obtain⟨y,h1,h2,h3⟩:=j5.getE l h;exact⟨y,by rw[Py];exact h1,h2,⟨v,r.eraseIdx k,rfl,ev,h3⟩⟩
section
variable{X:Cx}{ρ:Rho}{p1 p2 p3 p4 p5 p6 q1 pos:aO}
theorem DS.apop{i w k:Nat}{x u:ah}{l l2:ae}{ds es:List D}{z:Int}{d:D}{e:aj}{P:Po}(hk:ρ[i]?=a5 (.own l ds))(hk2:ρ[w]?=a5 (.own l2 es))(ne:i≠w)(he:DE X ρ e (.int z))(hz:ixN es.length z=a5 k)(hd':es[k]?=a5 d)(hl:ds.length<ak)(hes:es.length<=1000000)
  (h:P.nx ((ρ.set w (.own l2 (es.eraseIdx k))).set i (.own l (ds++[d]))))
  (hN:X.N[i]?=a5 x) (hv:Vis X.env.scope x) (hd:(x==k87)=a6) (hcd:(x==k88)=a6) (hN2:X.N[w]?=a5 u) (hv2:Vis X.env.scope u) (hd2:(u==k87)=a6) (hcd2:(u==k88)=a6)
  (hst:a9 [e] X.env=[(a6,aE e X.env)]) (hst1:a9 [.Call (.Attribute (.Name u p4) "pop" p5) [e] [] p6] X.env=[(a6,aE (.Call (.Attribute (.Name u p4) "pop" p5) [e] [] p6) X.env)])
  (hline:(p2.endLine==p3.line)=a7) (hline2:(p5.endLine==p6.line)=a7)
  (hbase:aV (.Name x p1) "append" X.env (aE (.Name x p1) X.env)=aE (.Name x p1) X.env) (hbase2:aV (.Name u p4) "pop" X.env (aE (.Name u p4) X.env)=aE (.Name u p4) X.env)
  (hfew:((aR p3 (a9 [.Call (.Attribute (.Name u p4) "pop" p5) [e] [] p6] X.env)).all (λx=>!x.1)&&(bH p3 (bf [] X.env)).all (λx=>x.1.isSome)
   && decide (([.Call (.Attribute (.Name u p4) "pop" p5) [e] [] p6]:List aj).length+([]:List aX).length+(if ([]:List aX).isEmpty then 0 else 1)<30))=a7)
  (hfew2:((aR p6 (a9 [e] X.env)).all (λx=>!x.1)&&(bH p6 (bf [] X.env)).all (λx=>x.1.isSome)
   && decide (([e]:List aj).length+([]:List aX).length+(if ([]:List aX).isEmpty then 0 else 1)<30))=a7)
  (hs:aP (.Call (.Attribute (.Name x p1) "append" p2) [.Call (.Attribute (.Name u p4) "pop" p5) [e] [] p6] [] p3) a8 pos.line X.env=pure a6) :
  DS X ρ (.Expr (.Call (.Attribute (.Name x p1) "append" p2) [.Call (.Attribute (.Name u p4) "pop" p5) [e] [] p6] [] p3) pos) P:=λσ H E R q=>by
 obtain⟨hσ,xs,m,en⟩:=R.own i l ds hk;obtain⟨hσ2,ys,m2,en2⟩:=R.own w l2 es hk2;have hp:=U9 (X:=X) (apos:=p5) (cpos:=p6) Tt iu PySem.F.type_list_pop j7l (J7 (pos:=p4) hN2 hv2 hd2 hcd2) (j9 (peS (e:=e)) jm hst) hbase2 hfew2 hline2 hst rfl;refine(Yv (U9 Tt dF fS W7 (J7 hN hv hd hcd) (j9 hp jm hst1) hbase hfew hline hst1 rfl) hs).to ?_;refine⟨_,hσ,.inl ⟨rfl,xs,.inl (.inl m)⟩,⟨_,hσ2,.inl ⟨rfl,ys,.inl (.inl m2)⟩,he σ H _ R λv H1 g1 e1=>?_⟩⟩;have e1:v=.int z:=e1;subst e1;obtain⟨s1,s2,s3,s4⟩:=j1r hz;obtain⟨y,gy,ey,el⟩:=(en2.mono (jh g1)).getE hd';have R1:=(R.grow g1).upd_own hk2 el;have hi:(ρ.set w (.own l2 (es.eraseIdx k)))[i]?=a5 (.own l ds):=by rw[Tf (bT ne)];exact hk
 obtain⟨_,xs',m',en'⟩:=R1.own i l ds hi;have p63:(2:Int)^63=9223372036854775808:=by decide
 refine⟨l2,ys,z,k,y,rfl,rfl,g1 _ _ m2,by rw[p63];omega,by rw[p63];omega,by rw[en2.length];exact s1,gy,?_⟩;refine⟨l,xs',y,rfl,rfl,m',by rw[en'.length];exact hl,?_⟩;exact q.nx _ σ _ h (R1.upd_own hi (en'.append (.one (by rw[Ql hk2,Vb (Ji hk2)];exact ey)))) (j4.trans (Br (σ:=σ) hk2 g1) (Br (σ:=σ) hi (j4.refl _)))
end
noncomputable def ch1(c:Nat):ah:=⟨#[c]⟩
noncomputable def chs(y:ah):List D:=y.cps.toList.map λc=>D.str (ch1 c)
noncomputable def ascii(y:ah):Bool:=y.cps.all (· < 128)
noncomputable def Its(y:ah):It:=⟨λi _=>i<y.cps.size,λi H x H'=>H'=H/\∃c,y.cps[i]?=a5 c/\x=.str (ch1 c),λi _=>y.cps.size<=i⟩
theorem j6i {P:ar} {w:aA} {K:k83} {tg:aj} (it:ae) (y:ah) (t:jG):Turn P w K tg (Its y) [it] it (λi h=>h.IsStrIter it "str_ascii_iterator" y t i) where
 mem:=by simp
 obj:=λi h st b hb=>by
  have e:b=it:=by simpa using hb
  subst e;obtain⟨o,e,c,d⟩:=st;exact⟨o,e,λv z=>by rw[d]at z;cases z⟩
 keep:=λi h h' st k=>let ⟨o,e,r⟩:=st;⟨o,k it (by simp) o e,r⟩
 item:=by intro X hP hw hK hc i pins s σ H E I hf st hg;subst hP hw hK;obtain⟨f0,f1,f2,f3,f4,f5⟩:=hf it (by simp);have W:=Walks.strAscii (prog:=X.prog) (w:=X.w) (I.ok.hd hc) it y t;refine W.item i s _ _ hg st λv h' tk hv st' kk=>?_;obtain⟨c,u,hcu,rfl⟩:=hv;have I1:Inv X pins σ H { s with heap:=h',toks:=tk }:=I.turned (λb o hb e=>kk b o (by simpa using hb) e) f0 f1 f3 f4 f5;obtain⟨o,e,oc,d⟩:=id st';exact⟨_,rfl,Lz (s:={ s with heap:=h',toks:=tk }) e oc d (by decide) ⟨.str (ch1 c),H,I1,⟨u,rfl⟩,⟨rfl,c,hcu,rfl⟩,st',λb hb=>(hf b hb).1⟩⟩
 done:=by intro X hP hw hK hc i pins s σ H E I hf st hg;subst hP hw hK;obtain⟨f0,f1,f2,f3,f4,f5⟩:=hf it (by simp);exact wpAny_pyNext_ascii_end (I.ok.hd hc) st (by have:y.cps.size<=i:=hg;simp;omega) λh' eb=>⟨rfl,I.turned (t':=s.toks) (λb o hb e=>eb b o hb e) f0 f1 f3 f4 f5⟩
 self:=λ_ _ _ _ _ st h=>wpAny_pyIter_striter_ascii st h
section
variable{X:Cx}{ρ:Rho}{a b c e tg it:aj}{y z:ah}{i j k:Int}{p p2 pos:aO}
theorem j7w{K:k83}{F:Hp}(y:ah):Ys K F (Its y) (chs y):=λi H A g hA=>by
 have hl:(chs y).length=y.cps.size:=by unfold chs;rw[xf,Tu]
 rw[hl];refine⟨λh=>h,λh=>h,λx H' ⟨e,c,hc,ex⟩=>?_⟩;subst e ex;refine⟨j4.refl _,λd hd=>?_⟩;unfold chs at hd;rw[xq,dU,hc]at hd;cases hd;rfl
theorem DI.str(h:DT X ρ it (.str y))(ha:ascii y=a7):DI X ρ tg it (chs y):=λσ H R r q pins s I=>by
 refine thn (h σ H (λv H1=>v=.str y/\j4 H H1) r (λv H1 g e=>⟨e,g⟩) pins s I) λv s1 ⟨x,H1,I1,r1,ex,g1⟩=>?_;subst ex;obtain⟨t,rfl⟩:=(show ∃t,v=bD y t from r1)
 refine wpAny_pyIter_ascii ha ?_;refine⟨s1.heap.objs.size,[s1.heap.objs.size],_,_,H1,rfl,I1.kept (t':=s1.toks) λb o e=>xu _ e,j6i _ y t,⟨_,Xa _ rfl,rfl,rfl⟩,λb hb=>?_,q _ H1 g1 (j7w y)⟩;have e:b=s1.heap.objs.size:=by simpa using hb
 subst e;exact I1.fpOk (X5 _) (I1.hok.fresh (X5 _))
noncomputable def inS(y z:ah):Bool:=!(fj z y 0 z.length 1).isEmpty
theorem Dq:OpR X (bp .Gt) (λx y H Q=>∃i j,x=.str i/\y=.str j/\Q (.bl (decide (j.cps.toList<i.cps.toList))) H):=by intro pins s σ H x y v u Q I rx ry h;obtain⟨i,j,rfl,rfl,q⟩:=h;obtain⟨t,rfl⟩:=rx;obtain⟨t',rfl⟩:=ry;exact P.gt_str (jr I q rfl)
theorem DE.ltS(ha:DT X ρ a (.str y))(hb:DT X ρ b (.str z)):DE X ρ (.Compare a [.Lt] [b] pos) (.bl (decide (y.cps.toList<z.cps.toList))):=λσ H Q R q =>(Jx Do peS peS (zm _)).to (ha σ H _ R λv H1 g1 e1=>hb σ H1 _ (R.grow g1) λu H2 g2 e2=>⟨y,z,e1,e2,q _ H2 (g1.trans g2) rfl⟩)
theorem DB.ltS(ha:DT X ρ a (.str y))(hb:DT X ρ b (.str z)):DB X ρ (.Compare a [.Lt] [b] pos) (decide (y.cps.toList<z.cps.toList)):=λσ H Q R q =>(Jw Do peS peS (zm _)).to (ha σ H _ R λv H1 g1 e1=>hb σ H1 _ (R.grow g1) λu H2 g2 e2=>⟨y,z,e1,e2,_,rfl,q H2 (g1.trans g2)⟩)
theorem DE.gtS(ha:DT X ρ a (.str y))(hb:DT X ρ b (.str z)):DE X ρ (.Compare a [.Gt] [b] pos) (.bl (decide (z.cps.toList<y.cps.toList))):=λσ H Q R q =>(Jx Dq peS peS (zm _)).to (ha σ H _ R λv H1 g1 e1=>hb σ H1 _ (R.grow g1) λu H2 g2 e2=>⟨y,z,e1,e2,q _ H2 (g1.trans g2) rfl⟩)
theorem DB.gtS(ha:DT X ρ a (.str y))(hb:DT X ρ b (.str z)):DB X ρ (.Compare a [.Gt] [b] pos) (decide (z.cps.toList<y.cps.toList)):=λσ H Q R q =>(Jw Dq peS peS (zm _)).to (ha σ H _ R λv H1 g1 e1=>hb σ H1 _ (R.grow g1) λu H2 g2 e2=>⟨y,z,e1,e2,_,rfl,q H2 (g1.trans g2)⟩)
theorem DE.inS(ha:DT X ρ a (.str y))(hb:DT X ρ b (.str z))(hm:aM .In b=a6):DE X ρ (.Compare a [.In] [b] pos) (.bl (inS y z)):=λσ H Q R q =>(Jx Dp peS peS hm).to (ha σ H _ R λv H1 g1 e1=>hb σ H1 _ (R.grow g1) λu H2 g2 e2=>⟨y,z,e1,e2,q _ H2 (g1.trans g2) rfl⟩)
theorem DB.inS(ha:DT X ρ a (.str y))(hb:DT X ρ b (.str z))(hm:aM .In b=a6):DB X ρ (.Compare a [.In] [b] pos) (inS y z):=λσ H Q R q =>(Jw Dp peS peS hm).to (ha σ H _ R λv H1 g1 e1=>hb σ H1 _ (R.grow g1) λu H2 g2 e2=>⟨y,z,e1,e2,_,rfl,q H2 (g1.trans g2)⟩)
theorem mulOk_of(h1:1<=k/\k<=1000)(h2:y.length<=1000):MulOk y k:=by
 refine⟨?_,λ_ _=>?_,λ_ _=>?_⟩
 .simp;omega
 .have:(1000:Int)<=(2^63-1)/k:=Int.le_ediv_of_mul_le nofun nofun
  omega
 .have hk:k.toNat<=1000:=by omega
  have:y.length*k.toNat<=1000000:=Nat.mul_le_mul h2 hk;unfold cD;rw[b8];simp;omega
theorem j2u:OpR X (bo .Mult) (λx y H Q=>∃i k,x=.str i/\y=.int k/\MulOk i k/\Q (.str (iG i k)) H):=by intro pins s σ H x y v u Q I rx ry h;obtain⟨i,k,rfl,rfl,hm,q⟩:=h;obtain⟨t,rfl⟩:=rx;obtain⟨t',rfl⟩:=ry;exact SB.mul hm λt' tk=>⟨.str _,H,I.un (t':=tk) Un.refl I.hok,⟨_,rfl⟩,q⟩
theorem DE.mulS(ha:DT X ρ a (.str y))(hb:DT X ρ b (.int k))(h1:1<=k/\k<=1000)(h2:y.length<=1000):DE X ρ (.BinOp a .Mult b pos) (.str (iG y k)):=λσ H Q R q =>(Vx j2u peS peS).to (ha σ H _ R λv H1 g1 e1=>hb σ H1 _ (R.grow g1) λu H2 g2 e2=>⟨y,k,e1,e2,mulOk_of h1 h2,q _ H2 (g1.trans g2) rfl⟩)
end
section
variable{X:Cx}{ρ ρ1 ρ':Rho}{e c:aj}{ss sa sb:List aN}{is is2:List Nat}{d:D}{i:Nat}{x:ah}{p pos:aO}
def DMs(X:Cx)(ρ ρ':Rho)(is:List Nat)(ss:List aN):Prop:=∀(σ:St)(H:Hp)(E:Ends),Rep X.K ρ σ H->(∀σ' H',j4 H H'->Rep X.K ρ' σ' H'->(∀j,j∉is->σ'[j]?=σ[j]?)->E.nx σ' H')->Zn X ss E σ H
def DMt(X:Cx)(ρ ρ':Rho)(is:List Nat)(full tl:List aN):Prop:=∀(σ:St)(H:Hp)(E:Ends),Rep X.K ρ σ H->(∀σ' H',j4 H H'->Rep X.K ρ' σ' H'->(∀j,j∉is->σ'[j]?=σ[j]?)->Zn X tl E σ' H')->Zn X full E σ H
variable{tl:List aN}
end
def Kp(ρ ρ':Rho)(is:List Nat):Prop:=(∀b∈owns ρ',b∈owns ρ)/\∀j,j∉is->ρ'[j]?=ρ[j]?
noncomputable def pcF(b:ae)(k:Int):List (ah×V):=[("standing",.ref b),("spot",.int k)]
structure Ob where
 a:ae
 dx:ae
 b:ae
structure PcAt(C:ae)(H:Hp)(o:Ob)(ls:List ah)(k:Nat):Prop where
 ob:H o.a=a5 (.ins C o.dx (pcF o.b (k:Int)))
 li:H o.b=a5 (.lst (ls.map V.str))
def But(a:ae)(H H':Hp):Prop:=∀b o,b≠a->H b=a5 o->H' b=a5 o
structure PcT(K:k83)(mg:k86)(C fA fT fL fI:ae):Prop where
 cl:Cls K C
 nS:Ww K C "standing"
 nP:Ww K C "spot"
 mA:Meth K C "ahead" fA
 mT:Meth K C "taken" fT
 mL:Meth K C "all_taken" fL
 mkI:Mk K C fI
 mgC:mg "Pieces" = a5 (.ref C)
 len:mg "len" = a8
def j1d(C:ae):Sp:=λvs H Q _=>∃(o:Ob)(ls:List ah)(k:Nat),vs=[.ref o.a]/\PcAt C H o ls k/\Q (.str (ls.getD k "")) H
def j1b(C:ae):Sp:=λvs H Q _=>∃(o:Ob)(ls:List ah)(k:Nat),vs=[.ref o.a]/\PcAt C H o ls k/\∀H',PcAt C H' o ls (k+1)->But o.a H H'->Q (.str (ls.getD k "")) H'
def j9m(C:ae):Sp:=λvs H Q _=>∃(o:Ob)(ls:List ah)(k:Nat),vs=[.ref o.a]/\PcAt C H o ls k/\Q (.bl (decide (ls.length<=k))) H
section
variable{P:ar}{w:aA}{K:k83}{mg:k86}{base:aG}{C fA fT fL fI f:ae}{fd:aJ}{st:aN}
def j1c(C:ae):Sp:=λvs H Q _=>∃(a dx:ae)(t:ah),vs=[.ref a,.str t]/\H a=a5 (.ins C dx [])/\t.length<=100000/\(mf t " ").length<=ak/\∀b H',H b=a8->PcAt C H' ⟨a,dx,b⟩ (mf t " ") 0->But a H H'->Q .non H'
end
structure Pm where
 nx:Rho->Nat->Prop
 rt:D->Nat->Prop
 ex:ah->Rho->Prop
def FrM(a:ae)(ρ ρ':Rho)(H H':Hp):Prop:=j4 (del H (a::owns ρ)) (del H' (a::owns ρ'))
structure EndsM(X:Cx)(C:ae)(o:Ob)(ls:List ah)(ρ:Rho)(H:Hp)(P:Pm)(E:Ends):Prop where
 nx:∀ρ' k' σ' H',P.nx ρ' k'->Rep X.K ρ' σ' H'->PcAt C (del H' (owns ρ')) o ls k'->FrM o.a ρ ρ' H H'->E.nx σ' H'
 rt:∀d k' v H',P.rt d k'->PcAt C H' o ls k'->j4 (del H (o.a::owns ρ)) (del H' [o.a])->Enc X.K H' d v->E.rt v H'
 ex:∀x ρ' σ' H',P.ex x ρ'->Rep X.K ρ' σ' H'->FrM o.a ρ ρ' H H'->Od X σ' H' x
structure PcX(X:Cx)(C:ae):Prop where
 ex:∃(fA fT fL fI:ae)(dA dT dL dI:aJ),PcT X.K X.mg C fA fT fL fI/\(FnOk X.prog X.w X.K X.mg X.base CX0 1 fA dA ["self"] (j1d C)/\Binds X.K dA ["self"] []) /\
  (FnOk X.prog X.w X.K X.mg X.base CX0 2 fT dT ["self"] (j1b C)/\Binds X.K dT ["self"] [])/\(FnOk X.prog X.w X.K X.mg X.base CX0 1 fL dL ["self"] (j9m C)/\Binds X.K dL ["self"] []) /\
  (FnOk X.prog X.w X.K X.mg X.base CX0 1 fI dI ["self","text"] (j1c C)/\Binds X.K dI ["self","text"] [])/\Room 3 X.A
def MSs(X:Cx)(C:ae)(o:Ob)(ls:List ah)(ρ:Rho)(k:Nat)(sts:List aN)(P:Pm):Prop :=
 ∀σ H E,Rep X.K ρ σ H->PcAt C (del H (owns ρ)) o ls k->EndsM X C o ls ρ H P E->Zn X sts E σ H
def jkp(K:k83)(C:ae)(S:List ah->Nat->List D->D->Nat->Prop):Sp:=λvs H Q _=>∃(o:Ob)(ls:List ah)(k:Nat)(ds:List D)(d:D)(k':Nat)(ws:List V),vs=.ref o.a::ws/\TabOk K H/\PcAt C H o ls k/\j5 K H ds ws/\S ls k ds d k' /\
 ∀v H',PcAt C H' o ls k'->j4 (del H [o.a]) (del H' [o.a])->Enc K H' d v->Q v H'
def spM(K:k83)(C:ae)(S:List ah->Nat->List D->D->Nat->Prop):Sp:=λvs H Q _=>∃(A:List ae)(o:Ob)(ls:List ah)(k:Nat)(ds:List D)(d:D)(k':Nat) (ws:List V),vs=.ref o.a::ws/\TabOk K H/\(∀a∈A,∃xs,H a=a5 (.lst xs))/\PcAt C (del H A) o ls k/\j5 K (del H A) ds ws/\S ls k ds d k' /\
 ∀v H',PcAt C (del H' A) o ls k'->j4 (del H [o.a]) (del H' [o.a])->Enc K (del H' A) d v->Q v H'
def j6x(K:k83)(mg:k86)(C:ae)(S:List ah->Nat->List D->ah->Prop):Sp:=λvs H _ E=>∃(o:Ob)(ls:List ah)(k:Nat)(ds:List D)(x:ah)(V:aa)(ws:List L2.V),vs=.ref o.a::ws/\TabOk K H/\PcAt C H o ls k/\j5 K H ds ws/\S ls k ds x/\mg x=a5 V /\
 ∀H',j4 (del H [o.a]) (del H' [o.a])->E V a8 H'
section
variable{P:ar}{w:aA}{K:k83}{mg:k86}{base:aG}{n:Nat}{f C:ae}{fd:aJ}{ps:List ah}
theorem FnOk.toM{S:List ah->Nat->List D->D->Nat->Prop}(F:FnOk P w K mg base CX0 n f fd ps (jkp K C S)):FnOk P w K mg base CX0 n f fd ps (spM K C S) :=
 F.framed.imp λvs H Q E ⟨A,o,ls,k,ds,d,k',ws,e,tb,hA,pc,en,hS,q⟩=>⟨A,hA,o,ls,k,ds,d,k',ws,e,tb.del hA,pc,en,hS,λv F pc' g e' hF=>by
  refine q v _ (by rw[Qt hF];exact pc') (λb u z=>?_) (by rw[Qt hF];exact e')
  obtain⟨nb,z⟩:=of_del z
  rw[j6 nb]
  by_cases y:b∈A
  .rw[vp y];exact z
  .rw[jf y]
   exact(of_del (g b u (by rw[j6 nb,j6 y];exact z))).2⟩
end
structure CalM(X:Cx)(f:ah)(C:ae)(S:List ah->Nat->List D->D->Nat->Prop):Prop where
 ex:∃(n:Nat)(fa:ae)(fd:aJ)(ps:List ah),FnOk X.prog X.w X.K X.mg X.base CX0 n fa fd ps (spM X.K C S)/\Room n X.A/\X.mg f=a5 (.ref fa)/\W.keepIn X.K (.ref fa)=a7/\Binds X.K fd ps []
structure CalMX(X:Cx)(f:ah)(C:ae)(S:List ah->Nat->List D->ah->Prop):Prop where
 ex:∃(n:Nat)(fa:ae)(fd:aJ)(ps:List ah),FnOk X.prog X.w X.K X.mg X.base (CX1 X.prog X.w) n fa fd ps (j6x X.K X.mg C S)/\Room n X.A/\X.mg f=a5 (.ref fa)/\W.keepIn X.K (.ref fa)=a7/\Binds X.K fd ps []
section
variable{X:Cx}{C:ae}{o:Ob}{ls:List ah}{ρ ρ1:Rho}{H H1 H':Hp}{P:Pm}{E:Ends}{k k':Nat}{st:aN}{sa rest:List aN}{σ:St}{pi i:Nat}{ob:cF}{x y f:ah}{p py pf p1 p2 p3 p4 pos:aO}{es:List aj}{ds:List D}{d:D}
theorem Rep.set_rf{K:k83}{a:ae}{o:cF}(R:Rep K ρ σ H):Rep K (ρ.set i (.raw a o rfN)) (σ.set i (a5 (.ref a))) H:=by
 have sub:(owns (ρ.set i (.raw a o rfN))).Sublist (owns ρ):=je rfl;have g:j4 (del H (owns ρ)) (del H (owns (ρ.set i (.raw a o rfN)))):=vd λb hb=>sub.subset hb;refine⟨by simp[R.len],λj d' h=>?_,λj a ds h=>?_,sub.nodup R.nd,λj a' o' x' h=>?_,R.tb⟩
 .rcases getElem?_set_of h with ⟨rfl,z,hl⟩|⟨n,h⟩
  .cases z
  .obtain⟨u,q,h⟩:=R.val j d' h;exact⟨u,by rw[qj n];exact q,h.mono g⟩
 .rcases getElem?_set_of h with ⟨rfl,z,_⟩|⟨n,h⟩
  .cases z
  .obtain⟨q,xs,h,l⟩:=R.own j a ds h;exact⟨by rw[qj n];exact q,xs,h,l.mono g⟩
 .rcases getElem?_set_of h with ⟨rfl,z,hl⟩|⟨n,h⟩
  .cases z;exact⟨Q7 (by rw[R.len];exact hl),.inl rfl⟩
  .obtain⟨q,h⟩:=R.raw j a' o' x' h;exact⟨by rw[qj n];exact q,h.mono g⟩
noncomputable def dOb:cF:={ cls:=.none }
end
noncomputable def startM(N:List ah)(a:ae)(ds:List D):Rho:=(jx N (.int 0::ds)).set 0 (.raw a dOb rfN)
theorem U6{K:k83}{H:Hp}{N:List ah}{ds:List D}{ws:List V}{a:ae}(tb:TabOk K H)(h:j5 K H ds ws):Rep K (startM N a ds) (start N (.ref a::ws)) H :=
 (Zv (N:=N) tb (show j5 K H (.int 0::ds) (.int 0::ws) from⟨.int 0,ws,rfl,rfl,h⟩)).set_rf (i:=0) (a:=a) (o:=dOb)
theorem Ym(N:List ah)(a:ae)(ds:List D):owns (startM N a ds)=[]:=by have h:(owns (startM N a ds)).Sublist (owns (jx N (.int 0::ds))):=je rfl;rw[Qi]at h;exact List.sublist_nil.mp h
section
variable{P:ar}{w:aA}{K:k83}{mg:k86}{base:aG}{x qual:ah}{st:aN}{f C:ae}{fd:aJ}{N ps:List ah}{n:Nat}
theorem jl8{S:List ah->Nat->List D->D->Nat->Prop}(F:Fun K x qual st f fd)(Sc:FnScope N ps (j0 st))(hl:∀ls k ds d k',S ls k ds d k'->ds.length+1=ps.length)
  (hbody:∀(cdv:aa)(A:aC)(outer:List cI)(s:af)(H:Hp)(E:XK),Vu K f cdv->Room n (A.deeper (bB qual (j0 st) s.heap.objs.size f cdv))->∀o ls k ds d k',S ls k ds d k' ->
   MSs (q8 CX0 P w K mg base N qual (j0 st) f cdv A outer s H E).nox C o ls (startM N o.a ds) k (jc st) { nx:=λ_ _=>False,rt:=λd2 k2=>d2=d/\k2=k',ex:=λ_ _=>False }):FnOk P w K mg base CX0 (n+1) f fd ps (spM K C S):=by
 refine FnOk.toM (F.okC Sc (λvs H Q E ⟨o,ls,k,ds,d,k',ws,e,tb,pc,en,hS,_⟩=>by rw[e,X4,en.length];exact hl ls k ds d k' hS) λcdv A outer s H vs Q E hcv hr ⟨o,ls,k,ds,d,k',ws,e,tb,pc,en,hS,q⟩=>⟨_,V1,?_⟩);subst e;have ho:=Ym N o.a ds;refine hbody cdv A outer s H E hcv hr o ls k ds d k' hS _ H _ (U6 tb en) (by rw[ho,vf];exact pc) ⟨λ_ _ _ _ z=>z.elim,λd2 k2 v H' ⟨e1,e2⟩ pc' g en'=>?_,λ_ _ _ _ z=>z.elim⟩;subst e1 e2;rw[ho]at g;exact q v H' pc' g en'
theorem jjg{S:List ah->Nat->List D->ah->Prop}(F:Fun K x qual st f fd)(Sc:FnScope N ps (j0 st))(hl:∀ls k ds y,S ls k ds y->ds.length+1=ps.length)
  (hbody:∀(cdv:aa)(A:aC)(outer:List cI)(s:af)(H:Hp)(E:XK),Vu K f cdv->Room n (A.deeper (bB qual (j0 st) s.heap.objs.size f cdv))->∀o ls k ds y,S ls k ds y ->
   MSs (q8 (CX1 P w) P w K mg base N qual (j0 st) f cdv A outer s H E) C o ls (startM N o.a ds) k (jc st) { nx:=λ_ _=>False,rt:=λ_ _=>False,ex:=λz _=>z=y }):FnOk P w K mg base (CX1 P w) (n+1) f fd ps (j6x K mg C S):=by
 obtain⟨oc,od,dV,kV,doc,pm,an,cdv,ct,osl,rfl,lk,hcd⟩:=F.ex;refine j37 lk hcd Sc (λvs H Q E ⟨o,ls,k,ds,y,V,ws,e,tb,pc,en,hS,_⟩=>by rw[e,X4,en.length];exact hl ls k ds y hS) λA outer s H vs Q E hr ⟨o,ls,k,ds,y,V,ws,e,tb,pc,en,hS,hC,hE⟩=>⟨_,V1,?_⟩
 subst e;have ho:=Ym N o.a ds;refine hbody cdv A outer s H E ⟨oc,od,_,osl,lk,rfl⟩ hr o ls k ds y hS _ H _ (U6 tb en) (by rw[ho,vf];exact pc) ⟨λ_ _ _ _ z=>z.elim,λ_ _ _ _ z=>z.elim,λz ρ' σ' H' n R g=>?_⟩;cases(show z=y from n);intro pins H2 s' e C' I g2 hC' Fe;cases hC.symm.trans hC';unfold FrM at g;rw[ho]at g;refine Du I Fe (hE H2 λb u z=>?_);obtain⟨nb,z⟩:=of_del z;obtain⟨_,z1⟩:=of_del (g b u (by rw[j6 nb];exact z));rw[j6 nb];exact g2 b u z1
end
section
variable{X:Cx}{ρ:Rho}{a:aj}{p p1 p2 pos:aO}
theorem DO.callT {S:List D->List D->Prop} {x:ah} {e:aj} {es:List aj} {ds l:List D} (c:Cal X x (spF X.K S)) (ha:DTA X ρ (e::es) ds) (hS:S ds l) (hn:jq l=a7) (hg:Gl X x) (hdb:(x==k87)=a6)
  (he:a9 (e::es) X.env=(a6,aE e X.env)::a9 es X.env) (hpl:(aR pos (a9 es X.env)).any (·.1)=a6):DO X ρ (.Call (.Name x p) (e::es) [] pos) l:=λσ H Q R q=>by
 obtain⟨k,f,fd,ps,F,hr,hm,hk,hb,_⟩:=c.ex;refine(Rj F (hr.mono (Xv _)) hg hm hk hb .nil Lw paS hdb he hpl).to (ha σ H _ R λvs H1 g1 e1=>?_);show spF X.K S (vs++[]) H1 Q E0;rw[Xr];exact⟨[],ds,l,R.tb.mono g1,(λa h=>nomatch h),by rw[vf];exact e1,hS,λa xs H2 g2 n m z=>q a xs H2 (g1.trans g2) (g1.free n) m ((z.mono jo).hide (λc hc=>by
  rcases xj.mp hc with z|z
  .rw[z];exact .inl ⟨xs,m⟩
  .exact .inl ((R.grow (g1.trans g2)).owned c z)) hn)⟩
end
section
variable{X:Cx}{ρ:Rho}{a:aj}{p p1 p2 p3 pos:aO}{y:ah}{i n:Int}
theorem Li:J0 X (.type "int") (λxs H Q=>∃y n,xs=[.str y]/\fW y=a5 n/\y.length<=640/\Q (.int n) H):=by intro pins s σ H xs us Q I r h;obtain⟨y,n,rfl,hn,hl,q⟩:=h;obtain⟨u,rfl,t,rfl⟩:=vals1 r;exact PySem.W.KIN.call_text hn hl ⟨.int n,H,I.tok _,⟨_,rfl⟩,q⟩
theorem DE.intS (ha:DT X ρ a (.str y)) (hn:fW y=a5 n) (hl:y.length<=640) (hm:X.mg "int" = a8) (hg:Gl X "int") (hs:a9 [a] X.env=[(a6,aE a X.env)]):DE X ρ (.Call (.Name "int" p) [a] [] pos) (.int n):=λσ H Q R q =>(Vy Li hg hm boot_int (j9 peS jm hs) (by decide) (by decide) hs).to (ha σ H _ R λv H1 g1 e1=>⟨y,n,by rw[show v=.str y from e1],hn,hl,q _ H1 g1 rfl⟩)
end
section
variable{X:Cx}{ρ:Rho}{e:aj}{pos:aO}
noncomputable def tupS(is:List Int):ah:=(PyData.tuple (is.map dB)).shown
theorem Ov{K:k83}{H:Hp}{h:aG}:∀{is:List Int}{xs:List V}{us:List aa},j5 K H (is.map D.int) xs->Vals xs us->ReadsAll h us (is.map dB) []
 |[],xs,us,en,rv=>by have:xs=[]:=en;subst this;cases rv;exact .nil
 |i::is,xs,us,⟨x,r,e,ex,en⟩,rv=>by
  subst e;have ex:x=.int i:=ex;subst ex;cases rv with
  |cons ru rr =>obtain⟨t,rfl⟩:=ru;exact .cons (as:=[]) (.int i t) (Ov en rr)
theorem Uw:∀{is:List Int},(∀i∈is,i.natAbs.log2<1920)->eG (is.map dB)=a7
 |[],_=>by simp[eG]
 |i::is,h=>by simp[eG,iH,h i (xm ..),Uw λj hj=>h j (km _ hj)]
theorem Wf:∀{is:List Int},fi (is.map dB)=0/\eQ (is.map dB)=a6
 |[]=>by simp[fi,eQ]
 |i::is=>by have:=Wf (is:=is);simp[fi,eQ,jO,iX,this.1,this.2]
theorem DE.fmtT{is:List Int}(hg:X.A.guards=a5 [])(hu:X.A.units+100<bg)(ha:DT X ρ e (.tup (is.map D.int)))(hi:∀i∈is,i.natAbs.log2<1920)(hz:(tupS is).length<=ak):DE X ρ (.FormattedValue e (-1) a8 pos) (.str (tupS is)):=λσ H Q R q pins s I=>by
 refine eY (thn (ha σ H (λv H1=>Enc X.K H1 (.tup (is.map D.int)) v/\j4 H H1) R (λv H1 g e=>⟨e,g⟩) pins s I) λu s1 ⟨v,H1,I1,r,ev,g⟩=>?_);obtain⟨a,xs,rfl,sq,en⟩:=ev;cases(show u=aH a from r);obtain⟨its,rv,⟨o,ho,hoc,m,hod⟩,_⟩:=I1.tuple sq;have rd:Reads s1.heap (.ref a) (.tuple (is.map dB)) []:=.tuple ho hoc hod (by simpa using Ov (h:=s1.heap) en rv);exact formatField_of_reads rd (by rw[iH];exact Uw hi) (λz=>by rw[iX,Wf.2]at z;cases z) hg (by rw[jO,Wf.1];omega) (λ_ _ z=>z)
  (λh' w tk hk=>⟨.str (tupS is),H1,I1.kept hk,⟨_,rfl⟩,q _ H1 g rfl⟩) hz
end
end L2
end
section
namespace PySem.W
open PySem PySem.Calls PyProof.Rows
section
variable{prog:ar}{w:aA}{A:aC}{E:k84}{κ:g9}{it:Array du}{s:af}
noncomputable def ks(κ:g9)(it:Array du)(p:Array Nat)(pd:Array (Nat×Nat×Nat))(g:Nat):ba:=dC κ (p.map (aD it)) pd g a8
theorem j6u{β:Type}{a b n:Nat}{c:β}{f:Nat->β->StateT ba jH (ForInStep β)}{Q:β->ba->af->Prop}{st:ba}(hn:b-a=n)(h:cR (au prog w) A E (forIn (di a n) c f) Q st s):cR (au prog w) A E (forIn [a:b] c f) Q st s:=jV (by rw[hn];exact h)
theorem j1a{β:Type}{x n:Nat}{b:β}{f:Nat->β->StateT ba jH (ForInStep β)}{Q:β->ba->af->Prop}{st:ba}
  (h:cR (au prog w) A E (f x b) (λr st' s'=>match r with|.done b'=>Q b' st' s'|.yield b'=>cR (au prog w) A E (forIn (di (x+1) n) b' f) Q st' s') st s):cR (au prog w) A E (forIn (di x (n+1)) b f) Q st s:=by
 rw[fq];exact kasC_cons h
end
end PySem.W
end
section
namespace PySem.W
open PySem PySem.Calls PyProof.Rows
section
variable{prog:ar}{w:aA}{A:aC}{E:k84}{κ:g9}{it:Array du}{N:Nat}
def Cmp(prog:ar)(w:aA)(A:aC)(κ:g9)(it:Array du)(N:Nat)(s:af):Prop:=∀i j,i<N->j<N->∀C:Bool->af->Prop,C (decide (i<j)) s->kas_cmp prog w A κ it i j C s
def Low(N:Nat)(a:Array Nat):Prop:=∀(i x:Nat),a[i]?=a5 x->x<N
theorem Low.ext{N:Nat}{a:Array Nat}(h:Low N a)(i j:Nat):Low N (a.extract i j):=λk x e=>by
 rw[Array.getElem?_extract]at e;split at e
 .exact h _ _ e
 .cases e
noncomputable def zy{γ:Type}(stp:γ->Option (γ×Bool)):Nat->γ->Option γ
 |0,c=>a5 c
 |n+1,c=>match stp c with|none=>a8|some (c',a7)=>a5 c'|some (c',a6)=>zy stp n c'
noncomputable def fis{β:Type}(d:Bool)(b:β):ForInStep β:=match d with|true=>.done b|false=>.yield b
theorem Mx{γ β:Type}(enc:γ->β)(es:γ->ba)(stp:γ->Option (γ×Bool)){f:Nat->β->StateT ba jH (ForInStep β)}{Q:β->ba->af->Prop}{s:af}
  (hf:∀x c c' d (K:ForInStep β->ba->af->Prop),stp c=a5 (c',d)->K (fis d (enc c')) (es c') s->cR (au prog w) A E (f x (enc c)) K (es c) s) :
  ∀n a c c',zy stp n c=a5 c'->Q (enc c') (es c') s->cR (au prog w) A E (forIn (di a n) (enc c) f) Q (es c) s
 |0,a,c,c',e,h=>by cases e;exact kasC_nil h
 |n+1,a,c,c',e,h=>by
  refine j1a ?_;unfold zy at e;cases q:stp c with
  |none=>rw[q]at e;cases e
  |some r =>
   obtain⟨c2,d⟩:=r;rw[q]at e;cases d with
   |true=>cases e;exact hf _ _ _ _ _ q h
   |false=>exact hf _ _ _ _ _ q (Mx enc es stp hf n (a+1) c2 c' e h)
theorem Qo{γ β:Type}(enc:γ->β)(es:γ->ba)(stp:γ->Option (γ×Bool)){f:Nat->β->StateT ba jH (ForInStep β)}{Q:β->ba->af->Prop}{s:af}{n:Nat}{c c':γ}
  (hf:∀x c c' d (K:ForInStep β->ba->af->Prop),stp c=a5 (c',d)->K (fis d (enc c')) (es c') s->cR (au prog w) A E (f x (enc c)) K (es c) s)
  (e:zy stp n c=a5 c') (h:Q (enc c') (es c') s):cR (au prog w) A E (forIn [0:n] (enc c) f) Q (es c) s :=
 jV (Mx enc es stp hf n 0 c c' e h)
theorem qp{p:Array Nat}{i n:Nat}{st:ba}{Q:du->ba->af->Prop}{s:af}(hn:p[i]?=a5 n)(h:Q (aD it n) st s):cR (au prog w) A E ((sortPriv% PySem.Builtin.elem) (p.map (aD it)) i) Q st s:=by show cR _ _ _ (elem' _ _) _ _ _;rw[elem'_eq,cX,hn];exact aF h
theorem Wz{p:Array Nat}{pd:Array (Nat×Nat×Nat)}{g i j:Nat}{Q:Option Bool->ba->af->Prop}{s:af}(hc:Cmp prog w A κ it N s)
  (hi:i<N) (hj:j<N) (h:Q (a5 (decide (i<j))) (ks κ it p pd g) s):cR (au prog w) A E ((sortPriv% PySem.Builtin.lt) (aD it i) (aD it j)) Q (ks κ it p pd g) s:=by
 show cR _ _ _ (lt' _ _) _ _ _;rw[lt'_eq];refine ay (fQ ?_);refine ay (kC (mh (aW (hc _ _ hi hj (λc s'=>c=decide (i<j)/\s'=s) ⟨rfl,rfl⟩) (λc s' hc=>?_) λ_ _ hF=>hF.elim)));obtain⟨rfl,rfl⟩:=hc;exact aF h
noncomputable def bey(l:Bool)(key:Nat)(a:Array Nat)(i:Nat):Option Bool:=match a[i]? with|none=>a8|some x=>a5 (if l then decide (x<key)else !decide (key<x))
noncomputable def gs1(l:Bool)(key:Nat)(a:Array Nat)(at_:Nat->Nat)(stopAt:Bool)(mx:Nat)(c:Nat×Nat):Option ((Nat×Nat)×Bool) :=
 if c.2>=mx then a5 (c,a7)else match bey l key a (at_ c.2) with
  |none=>a8
  |some b=>if b=stopAt then a5 (c,a7)else a5 ((c.2,2*c.2+1),a6)
noncomputable def gs2(l:Bool)(key:Nat)(a:Array Nat)(base:Nat)(c:Nat×Nat):Option ((Nat×Nat)×Bool) :=
 if c.1>=c.2 then a5 (c,a7)else match bey l key a (base+(c.1+(c.2-c.1)/2)) with
  |none=>a8
  |some b=>if b then a5 ((c.1+(c.2-c.1)/2+1,c.2),a6)else a5 ((c.1,c.1+(c.2-c.1)/2),a6)
noncomputable def gal(l:Bool)(key:Nat)(a:Array Nat)(base n hint:Nat):Option Nat :=
 match bey l key a (base+hint) with
 |none=>a8
 |some a7=>match zy (gs1 l key a (λo=>base+(hint+o)) a6 (n-hint)) n (0,1) with
  |none=>a8
  |some c=>(zy (gs2 l key a base) n (hint+c.1+1,hint+min c.2 (n-hint))).map (·.2)
 |some a6=>match zy (gs1 l key a (λo=>base+(hint-o)) a7 (hint+1)) n (0,1) with
  |none=>a8
  |some c=>(zy (gs2 l key a base) n (hint+1-min c.2 (hint+1),hint-c.1)).map (·.2)
theorem U0{left:Bool}{key i:Nat}{a p:Array Nat}{pd:Array (Nat×Nat×Nat)}{g:Nat}{b:Bool}{K:Option Bool->ba->af->Prop}{s:af}(hc:Cmp prog w A κ it N s)
  (hk:key<N) (ha:Low N a) (e:bey left key a i=a5 b) (h:K (a5 b) (ks κ it p pd g) s) :
  cR (au prog w) A E (do let x <-elem' (a.map (aD it)) i;if left=a7 then lt' x (aD it key)else do { let r <-lt' (aD it key) x;pure (Option.map (λx=>!x) r) }) K (ks κ it p pd g) s:=by
 unfold bey at e;cases q:a[i]? with
 |none=>rw[q]at e;cases e
 |some x =>
  rw[q]at e;cases e;refine ay (qp q ?_);cases left with
  |true=>exact Wz hc (ha _ _ q) hk h
  |false=>exact ay (Wz hc hk (ha _ _ q) (aF h))
theorem Z1{left:Bool}{key base n hint k:Nat}{a p:Array Nat}{pd:Array (Nat×Nat×Nat)}{g:Nat}{Q:Option Nat->ba->af->Prop}{s:af}(hc:Cmp prog w A κ it N s)
  (hkN:key<N) (haN:Low N a) (e:gal left key a base n hint=a5 k) (h:Q (a5 k) (ks κ it p pd g) s) :
  cR (au prog w) A E ((sortPriv% PySem.Builtin.gallop) left (aD it key) (a.map (aD it)) base n hint) Q (ks κ it p pd g) s:=by
 unfold gal at e;refine ay ?_;cases q:bey left key a (base+hint) with
 |none=>rw[q]at e;cases e
 |some b =>
  refine U0 hc hkN haN q ?_;rw[q]at e;cases b with
  |true =>
   dsimp only at e ⊢;rw[if_pos rfl];cases q2:zy (gs1 left key a (λo=>base+(hint+o)) a6 (n-hint)) n (0,1) with
   |none=>rw[q2]at e;cases e
   |some c =>
    rw[q2]at e;refine ay (Qo (λc:Nat×Nat=>((a8:Option (Option Nat)),c.1,c.2)) (λ_=>ks κ it p pd g) (gs1 left key a (λo=>base+(hint+o)) a6 (n-hint)) ?_ q2 ?_)
    .intro x c c' d K e1 hk;dsimp only;unfold gs1 at e1;by_cases hz:c.2>=n-hint
     .rw[if_pos hz]at e1 ⊢;cases e1;exact aF hk
     .rw[if_neg hz]at e1 ⊢;cases q3:bey left key a (base+(hint+c.2)) with
      |none=>rw[q3]at e1;cases e1
      |some b =>
       rw[q3]at e1;refine ay (U0 hc hkN haN q3 ?_);cases b with
       |true=>cases e1;exact aF hk
       |false=>cases e1;exact aF hk
    .dsimp only at e ⊢;cases q4:zy (gs2 left key a base) n (hint+c.1+1,hint+min c.2 (n-hint)) with
     |none=>rw[q4]at e;cases e
     |some c2 =>
      rw[q4]at e;refine ay (Qo (λc:Nat×Nat=>((a8:Option (Option Nat)),c.1,c.2)) (λ_=>ks κ it p pd g) (gs2 left key a base) ?_ q4 ?_)
      .intro x c c' d K e1 hk;dsimp only;unfold gs2 at e1;by_cases hz:c.1>=c.2
       .rw[if_pos hz]at e1 ⊢;cases e1;exact aF hk
       .rw[if_neg hz]at e1 ⊢;cases q3:bey left key a (base+(c.1+(c.2-c.1)/2)) with
        |none=>rw[q3]at e1;cases e1
        |some b =>
         rw[q3]at e1;refine ay (U0 hc hkN haN q3 ?_);cases b with
         |true=>cases e1;exact aF hk
         |false=>cases e1;exact aF hk
      .cases e;exact aF h
  |false =>
   dsimp only at e ⊢;rw[if_neg (by simp)];cases q2:zy (gs1 left key a (λo=>base+(hint-o)) a7 (hint+1)) n (0,1) with
   |none=>rw[q2]at e;cases e
   |some c =>
    rw[q2]at e;refine ay (Qo (λc:Nat×Nat=>((a8:Option (Option Nat)),c.1,c.2)) (λ_=>ks κ it p pd g) (gs1 left key a (λo=>base+(hint-o)) a7 (hint+1)) ?_ q2 ?_)
    .intro x c c' d K e1 hk;dsimp only;unfold gs1 at e1;by_cases hz:c.2>=hint+1
     .rw[if_pos hz]at e1 ⊢;cases e1;exact aF hk
     .rw[if_neg hz]at e1 ⊢;cases q3:bey left key a (base+(hint-c.2)) with
      |none=>rw[q3]at e1;cases e1
      |some b =>
       rw[q3]at e1;refine ay (U0 hc hkN haN q3 ?_);cases b with
       |true=>cases e1;exact aF hk
       |false=>cases e1;exact aF hk
    .dsimp only at e ⊢;cases q4:zy (gs2 left key a base) n (hint+1-min c.2 (hint+1),hint-c.1) with
     |none=>rw[q4]at e;cases e
     |some c2 =>
      rw[q4]at e;refine ay (Qo (λc:Nat×Nat=>((a8:Option (Option Nat)),c.1,c.2)) (λ_=>ks κ it p pd g) (gs2 left key a base) ?_ q4 ?_)
      .intro x c c' d K e1 hk;dsimp only;unfold gs2 at e1;by_cases hz:c.1>=c.2
       .rw[if_pos hz]at e1 ⊢;cases e1;exact aF hk
       .rw[if_neg hz]at e1 ⊢;cases q3:bey left key a (base+(c.1+(c.2-c.1)/2)) with
        |none=>rw[q3]at e1;cases e1
        |some b =>
         rw[q3]at e1;refine ay (U0 hc hkN haN q3 ?_);cases b with
         |true=>cases e1;exact aF hk
         |false=>cases e1;exact aF hk
      .cases e;exact aF h
end
end PySem.W
end
section
namespace PySem.W
open PySem PySem.Calls PyProof.Rows
noncomputable def ms1(a b:Array Nat)(mg:Nat):(Option (Array Nat)×Array Nat×Nat×Nat×Nat×Nat)->Option ((Option (Array Nat)×Array Nat×Nat×Nat×Nat×Nat)×Bool)
 |(_,o,ia,ib,ac,bc)=>match b[ib]?,a[ia]? with
  |some y,a5 x =>
   if y<x then
    if ib+1==b.size then a5 ((a5 (o.push y++a.extract ia++b.extract (ib+1)),o.push y,ia,ib+1,0,bc+1),a7)
    else a5 ((a8,o.push y,ia,ib+1,0,bc+1),decide (bc+1>=mg))
   else
    if ia+1+1==a.size then a5 ((a5 (o.push x++b.extract ib++a.extract (ia+1)),o.push x,ia+1,ib,ac+1,0),a7)
    else a5 ((a8,o.push x,ia+1,ib,ac+1,0),decide (ac+1>=mg))
  |_,_=>a8
noncomputable def ms2(a b:Array Nat):(Nat×Option (Array Nat)×Array Nat×Nat×Nat×Nat×Nat×Nat)->Option ((Nat×Option (Array Nat)×Array Nat×Nat×Nat×Nat×Nat×Nat)×Bool)
 |(_,_,o,ia,ib,mg,_,_)=>if mg<=1 then a8 else match b[ib]? with
  |none=>a8
  |some y=>match gal a6 y a ia (a.size-ia) 0 with
   |none=>a8
   |some k =>
    if k>0/\(ia+k+1==a.size || ia+k==a.size)then a8
    else
     let o1:=if k>0 then o++a.extract ia (ia+k)else o
     let i1:=if k>0 then ia+k else ia
     if ib+1==b.size then a8
     else match a[i1]? with
      |none=>a8
      |some x=>match gal a7 x b (ib+1) (b.size-(ib+1)) 0 with
       |none=>a8
       |some l =>
        if l>0/\(ib+1+l==b.size)then a5 ((mg-1,a5 ((o1.push y++b.extract (ib+1) (ib+1+l))++a.extract i1++b.extract (ib+1+l)),o1.push y++b.extract (ib+1) (ib+1+l),i1,ib+1+l,mg-1,k,l),a7)
        else
         let o2:=if l>0 then o1.push y++b.extract (ib+1) (ib+1+l)else o1.push y
         let i2:=if l>0 then ib+1+l else ib+1
         if i1+1+1==a.size then a8
         else a5 ((mg-1,a8,o2.push x,i1+1,i2,mg-1,k,l),decide (k<7)&&decide (l<7))
noncomputable def ms3(a b:Array Nat):(Nat×Option (Array Nat)×Array Nat×Nat×Nat×Nat)->Option ((Nat×Option (Array Nat)×Array Nat×Nat×Nat×Nat)×Bool)
 |(g,_,o,ia,ib,mg)=>match zy (ms1 a b mg) (a.size+b.size) (a8,o,ia,ib,0,0) with
  |none=>a8
  |some (a5 r,o,ia,ib,_,_)=>a5 ((g,a5 r,o,ia,ib,mg),a7)
  |some (a8,o,ia,ib,ac,bc)=>match zy (ms2 a b) (a.size+b.size) (g,a8,o,ia,ib,mg+1,ac,bc) with
   |none=>a8
   |some (g,a5 r,o,ia,ib,mg,_,_)=>a5 ((g,a5 r,o,ia,ib,mg),a7)
   |some (_,a8,o,ia,ib,mg,_,_)=>a5 ((mg+1,a8,o,ia,ib,mg+1),a6)
noncomputable def mlo(a b:Array Nat)(g:Nat):Option (Array Nat×Nat):=match b[0]? with
 |none=>a8
 |some y=>if 1==b.size || 0+1==a.size then a8 else match zy (ms3 a b) (a.size+b.size) (g,a8,#[y],0,1,g) with
  |some (g,a5 r,_)=>a5 (r,g)
  |_=>a8
noncomputable def rnk(n j:Nat):List Nat:=(aB (2^n)).filter (λi=>i/2^(n-1-j)%2==0)++(aB (2^n)).filter (λi=>i/2^(n-1-j)%2==1)
section
variable{prog:ar}{w:aA}{A:aC}{E:k84}{κ:g9}{it:Array du}{N:Nat}
theorem Bd{p:Array Nat}{i j:Nat}:(aT (aD it) p).extract i j=aT (aD it) (p.extract i j):=by simp
theorem Zw{p:Array Nat}{n:Nat}:(aT (aD it) p).push (aD it n)=aT (aD it) (p.push n):=by simp
theorem Be{p q:Array Nat}:aT (aD it) p++aT (aD it) q=aT (aD it) (p++q):=by simp
theorem j19{p:Array Nat}{pd:Array (Nat×Nat×Nat)}{g m:Nat}{Q:Unit->ba->af->Prop}{s:af}(h:Q () (ks κ it p pd m) s):cR (au prog w) A E ((sortPriv% PySem.Builtin.setMinGallop) m) Q (ks κ it p pd g) s:=kasC_modify h
theorem vm{α:Type}{c:Prop}[Decidable c]{m n:StateT ba jH α}{Q:α->ba->af->Prop}{st:ba}{s:af}(hc:c)(h:cR (au prog w) A E m Q st s):cR (au prog w) A E (if c then m else n) Q st s:=by rw[if_pos hc];exact h
theorem za{α:Type}{c:Prop}[Decidable c]{m n:StateT ba jH α}{Q:α->ba->af->Prop}{st:ba}{s:af}(hc:¬c)(h:cR (au prog w) A E n Q st s):cR (au prog w) A E (if c then m else n) Q st s:=by rw[if_neg hc];exact h
noncomputable def j8r(it:Array du):(Option (Array Nat)×Array Nat×Nat×Nat×Nat×Nat)->(Option (Array du)×Array du×Nat×Nat×Nat×Nat)
 |(r,o,x)=>(r.map (aT (aD it)),aT (aD it) o,x)
noncomputable def jh0(it:Array du):(Nat×Option (Array Nat)×Array Nat×Nat×Nat×Nat×Nat×Nat)->(Option (Array du)×Array du×Nat×Nat×Nat×Nat×Nat)
 |(_,r,o,x)=>(r.map (aT (aD it)),aT (aD it) o,x)
noncomputable def jgz(it:Array du):(Nat×Option (Array Nat)×Array Nat×Nat×Nat×Nat)->(Option (Array du)×Array du×Nat×Nat×Nat)
 |(_,r,o,x)=>(r.map (aT (aD it)),aT (aD it) o,x)
theorem jff{a b p:Array Nat}{pd:Array (Nat×Nat×Nat)}{g g':Nat}{r:Array Nat}{Q:Array du->ba->af->Prop}{s:af}(hc:Cmp prog w A κ it N s)
  (haN:Low N a) (hbN:Low N b) (e:mlo a b g=a5 (r,g')) (h:Q (aT (aD it) r) (ks κ it p pd g') s) :
  cR (au prog w) A E ((sortPriv% PySem.Builtin.mergeLo) (a.map (aD it)) (b.map (aD it))) Q (ks κ it p pd g) s:=by
 unfold mlo at e;cases q:b[0]? with
 |none=>rw[q]at e;cases e
 |some y =>
  rw[q]at e;dsimp only at e;by_cases hz:(1==b.size || 0+1==a.size)=a7
  .rw[if_pos hz]at e;cases e
  .rw[if_neg hz]at e;have hz1:¬(1==(aT (aD it) b).size)=a7:=by rw[T7];intro z;exact hz (by rw[z];rfl)
   have hz2:¬(0+1==(aT (aD it) a).size)=a7:=by rw[T7];intro z;exact hz (by rw[z,kB])
   refine ay ?_;refine kC (jY ?_);dsimp only;refine ay (qp q ?_);rw[if_neg hz1,if_neg hz2];refine ay (fQ ?_);rw[T7,T7];cases q3:zy (ms3 a b) (a.size+b.size) (g,a8,#[y],0,1,g) with
   |none=>rw[q3]at e;cases e
   |some c =>
    obtain⟨g2,r2,o2,x2⟩:=c;rw[q3]at e;cases r2 with
    |none=>cases e
    |some r2 =>
    cases e;have e0:#[aD it y]=aT (aD it) #[y]:=by simp
    rw[e0];refine ay (Qo (jgz it) (λc=>ks κ it p pd c.1) (ms3 a b) ?_ q3 (aF h));rintro x ⟨g,r0,o,ia,ib,mg⟩ c' d K e1 hk;unfold ms3 at e1;dsimp only[jgz]at e1 ⊢;cases q1:zy (ms1 a b mg) (a.size+b.size) (a8,o,ia,ib,0,0) with
    |none=>rw[q1]at e1;cases e1
    |some c1 =>
     rw[q1]at e1;refine ay (Qo (j8r it) (λ_=>ks κ it p pd g) (ms1 a b mg) ?_ q1 ?_)
     .rintro x ⟨r0,o,ia,ib,ac,bc⟩ c' d K e1 hk;unfold ms1 at e1;dsimp only[j8r]at e1 ⊢;cases qb:b[ib]? with
      |none=>rw[qb]at e1;cases e1
      |some y =>
      cases qa:a[ia]? with
      |none=>rw[qb,qa]at e1;cases e1
      |some x =>
      rw[qb,qa]at e1;dsimp only at e1;refine ay (qp qb ?_);refine ay (qp qa ?_);refine ay (Wz hc (hbN _ _ qb) (haN _ _ qa) ?_);dsimp only;by_cases hyx:y<x
      .rw[if_pos hyx]at e1;rw[if_pos (decide_eq_true hyx)];refine ay (qp qb ?_);simp only[Bd,Zw,Be,T7];by_cases z:(ib+1==b.size)=a7
       .rw[if_pos z]at e1 ⊢;cases e1;exact aF hk
       .rw[if_neg z]at e1 ⊢;cases e1;by_cases z2:bc+1>=mg
        .rw[if_pos z2];rw[decide_eq_true z2]at hk;exact aF hk
        .rw[if_neg z2];rw[decide_eq_false z2]at hk;exact aF hk
      .rw[if_neg hyx]at e1;rw[if_neg (by simp[hyx])];refine ay (qp qa ?_);simp only[Bd,Zw,Be,T7];by_cases z:(ia+1+1==a.size)=a7
       .rw[if_pos z]at e1 ⊢;cases e1;exact aF hk
       .rw[if_neg z]at e1 ⊢;cases e1;by_cases z2:ac+1>=mg
        .rw[if_pos z2];rw[decide_eq_true z2]at hk;exact aF hk
        .rw[if_neg z2];rw[decide_eq_false z2]at hk;exact aF hk
     .obtain⟨r1,o1,ia1,ib1,ac1,bc1⟩:=c1;cases r1 with
      |some r1=>cases e1;exact aF hk
      |none =>
      dsimp only[j8r,iQ]at e1 ⊢;refine ay (kC (jY ?_));cases q2:zy (ms2 a b) (a.size+b.size) (g,a8,o1,ia1,ib1,mg+1,ac1,bc1) with
      |none=>rw[q2]at e1;cases e1
      |some c2 =>
      rw[q2]at e1;refine ay (Qo (jh0 it) (λc=>ks κ it p pd c.1) (ms2 a b) ?_ q2 ?_)
      .rintro x ⟨g,r0,o,ia,ib,mg,ac,bc⟩ c' d K e1 hk;unfold ms2 at e1;dsimp only[jh0]at e1 ⊢;by_cases hm:mg<=1
       .rw[if_pos hm]at e1;cases e1
       rw[if_neg hm]at e1;refine vm (show mg>1 by omega) ?_;cases qb:b[ib]? with
       |none=>rw[qb]at e1;cases e1
       |some y =>
       rw[qb]at e1;dsimp only at e1;refine ay (j19 ?_);refine ay (qp qb ?_);simp only[Bd,Be,T7];cases qg:gal a6 y a ia (a.size-ia) 0 with
       |none=>rw[qg]at e1;cases e1
       |some k =>
       rw[qg]at e1;dsimp only at e1;refine ay (Z1 hc (hbN _ _ qb) haN qg ?_);dsimp only;by_cases hk1:k>0/\(ia+k+1==a.size || ia+k==a.size)=a7
       .rw[if_pos hk1]at e1;cases e1
       rw[if_neg hk1]at e1;by_cases hb1:(ib+1==b.size)=a7
       .rw[if_pos hb1]at e1;cases e1
       rw[if_neg hb1]at e1;by_cases hk0:k>0
       .have n1:¬(ia+k+1==a.size)=a7:=λz=>hk1 ⟨hk0,by rw[z];rfl⟩;have n2:¬(ia+k==a.size)=a7:=λz=>hk1 ⟨hk0,by rw[z,kB]⟩;refine vm hk0 (za n1 (za n2 ?_));rw[if_pos hk0,if_pos hk0]at e1;refine ay (qp qb (za hb1 ?_));cases qa:a[(ia+k)]? with
        |none=>rw[qa]at e1;cases e1
        |some x =>
        rw[qa]at e1;dsimp only at e1;refine ay (qp qa ?_);cases ql:gal a7 x b (ib+1) (b.size-(ib+1)) 0 with
        |none=>rw[ql]at e1;cases e1
        |some l =>
        rw[ql]at e1;dsimp only at e1;refine ay (Z1 hc (haN _ _ qa) hbN ql ?_);simp only[Zw,Be];by_cases hl0:l>0
        .by_cases hl1:(ib+1+l==b.size)=a7
         .rw[if_pos ⟨hl0,hl1⟩]at e1;cases e1;exact vm hl0 (vm hl1 (aF hk))
         .rw[if_neg (λz=>hl1 z.2),if_pos hl0,if_pos hl0]at e1;by_cases ha2:((ia+k)+1+1==a.size)=a7
          .rw[if_pos ha2]at e1;cases e1
          rw[if_neg ha2]at e1;cases e1;refine vm hl0 (za hl1 (ay (qp qa (za ha2 ?_))));rw[Zw];by_cases hq:(decide (k<7)&&decide (l<7))=a7
          .rw[hq]at hk;exact vm hq (aF hk)
          .rw[Bool.eq_false_iff.mpr hq]at hk;exact za hq (aF hk)
        .rw[if_neg (λz=>hl0 z.1),if_neg hl0,if_neg hl0]at e1;by_cases ha2:((ia+k)+1+1==a.size)=a7
         .rw[if_pos ha2]at e1;cases e1
         rw[if_neg ha2]at e1;cases e1;refine za hl0 (ay (qp qa (za ha2 ?_)));rw[Zw];by_cases hq:(decide (k<7)&&decide (l<7))=a7
         .rw[hq]at hk;exact vm hq (aF hk)
         .rw[Bool.eq_false_iff.mpr hq]at hk;exact za hq (aF hk)
       .refine za hk0 ?_;rw[if_neg hk0,if_neg hk0]at e1;refine ay (qp qb (za hb1 ?_));cases qa:a[ia]? with
        |none=>rw[qa]at e1;cases e1
        |some x =>
        rw[qa]at e1;dsimp only at e1;refine ay (qp qa ?_);cases ql:gal a7 x b (ib+1) (b.size-(ib+1)) 0 with
        |none=>rw[ql]at e1;cases e1
        |some l =>
        rw[ql]at e1;dsimp only at e1;refine ay (Z1 hc (haN _ _ qa) hbN ql ?_);simp only[Zw,Be];by_cases hl0:l>0
        .by_cases hl1:(ib+1+l==b.size)=a7
         .rw[if_pos ⟨hl0,hl1⟩]at e1;cases e1;exact vm hl0 (vm hl1 (aF hk))
         .rw[if_neg (λz=>hl1 z.2),if_pos hl0,if_pos hl0]at e1;by_cases ha2:(ia+1+1==a.size)=a7
          .rw[if_pos ha2]at e1;cases e1
          rw[if_neg ha2]at e1;cases e1;refine vm hl0 (za hl1 (ay (qp qa (za ha2 ?_))));rw[Zw];by_cases hq:(decide (k<7)&&decide (l<7))=a7
          .rw[hq]at hk;exact vm hq (aF hk)
          .rw[Bool.eq_false_iff.mpr hq]at hk;exact za hq (aF hk)
        .rw[if_neg (λz=>hl0 z.1),if_neg hl0,if_neg hl0]at e1;by_cases ha2:(ia+1+1==a.size)=a7
         .rw[if_pos ha2]at e1;cases e1
         rw[if_neg ha2]at e1;cases e1;refine za hl0 (ay (qp qa (za ha2 ?_)));rw[Zw];by_cases hq:(decide (k<7)&&decide (l<7))=a7
         .rw[hq]at hk;exact vm hq (aF hk)
         .rw[Bool.eq_false_iff.mpr hq]at hk;exact za hq (aF hk)
      .obtain⟨g3,r3,o3,ia3,ib3,mg3,ac3,bc3⟩:=c2;cases r3 with
       |some r3=>cases e1;exact aF hk
       |none =>cases e1;exact ay (j19 (aF hk))
end
end PySem.W
end
section
namespace PySem.W
open PySem PySem.Calls PyProof.Rows
section
variable{prog:ar}{w:aA}{A:aC}{E:k84}{κ:g9}{it:Array du}{N:Nat}
theorem j5b{p:Array Nat}{pd:Array (Nat×Nat×Nat)}{g:Nat}:kz (ks κ it p pd g)=p.map (aD it):=rfl
theorem jj1{p:Array Nat}{pd:Array (Nat×Nat×Nat)}{g:Nat}:pendingOf (ks κ it p pd g)=pd:=rfl
theorem j7u{p:Array Nat}{pd pd':Array (Nat×Nat×Nat)}{g:Nat}:setPending (ks κ it p pd g) pd'=ks κ it p pd' g:=rfl
noncomputable def as1(p:Array Nat)(lo n:Nat):Option (Nat×Bool):=match p[lo+n]?,p[lo+n-1]? with
 |some y,a5 x=>if y<x then a5 (n,a7)else a5 (n+1,a6)
 |_,_=>a8
theorem j54{p:Array Nat}{pd:Array (Nat×Nat×Nat)}{g i j x y:Nat}{Q:Option Bool->ba->af->Prop}{s:af}(hc:Cmp prog w A κ it N s)
  (hp:Low N p) (hi:p[i]?=a5 x) (hj:p[j]?=a5 y) (h:Q (a5 (decide (x<y))) (ks κ it p pd g) s):cR (au prog w) A E (ltAt' i j) Q (ks κ it p pd g) s:=by
 rw[ltAt'_eq];refine ay (fQ ?_);exact ay (qp hi (ay (qp hj (Wz hc (hp _ _ hi) (hp _ _ hj) h))))
theorem j06{p:Array Nat}{pd:Array (Nat×Nat×Nat)}{g lo nrem n x y:Nat}{Q:Option Nat->ba->af->Prop}{s:af}(hc:Cmp prog w A κ it N s)
  (hp:Low N p) (e:zy (as1 p lo) (nrem-1) 1=a5 n) (hn:n>1) (e1:p[lo]?=a5 x) (e2:p[lo+n-1]?=a5 y) (hxy:x<y) (h:Q (a5 n) (ks κ it p pd g) s):cR (au prog w) A E (countRun' lo nrem) Q (ks κ it p pd g) s:=by
 rw[countRun'_eq];refine ay (jV (Mx (λn:Nat=>((a8:Option (Option Nat)),n)) (λ_=>ks κ it p pd g) (as1 p lo) ?_ _ _ _ _ e ?_))
 .intro x n c' d K e1 hk;unfold as1 at e1;dsimp only;cases qa:p[lo+n]? with
  |none=>rw[qa]at e1;cases e1
  |some y =>
  cases qb:p[lo+n-1]? with
  |none=>rw[qa,qb]at e1;cases e1
  |some x =>
  rw[qa,qb]at e1;dsimp only at e1;refine ay (j54 hc hp qa qb ?_);dsimp only;by_cases hz:y<x
  .rw[if_pos hz]at e1;cases e1;exact vm (decide_eq_true hz) (aF hk)
  .rw[if_neg hz]at e1;cases e1;exact za (by simp[hz]) (aF hk)
 .dsimp only;by_cases z:(n==nrem)=a7
  .exact vm z (aF h)
  .refine za z (vm hn ?_);refine ay (j54 hc hp e1 e2 ?_);exact vm (decide_eq_true hxy) (aF h)
theorem jiv{p o:Array Nat}{c:Nat}:bF (λa x=>a.setIfInBounds (c+x.snd) x.fst) (aT (aD it) p) (aT (aD it) o).toList.zipIdx=aT (aD it) (bF (λa x=>a.setIfInBounds (c+x.snd) x.fst) p o.toList.zipIdx):=by
 rw[dw,jJ,List.foldl_map];generalize o.toList.zipIdx=l;induction l generalizing p with
 |nil=>rfl
 |cons x l ih =>rw[Tg,Tg,<-ih];congr 1;simp[Prod.map]
theorem jdu{st st':ba}{Q:PUnit->ba->af->Prop}{s:af}(h:Q ⟨⟩ st' s):cR (au prog w) A E (set st':StateT ba jH PUnit) Q st s:=by unfold cR;rw[StateT.run_set];exact az h
theorem jfh{p r:Array Nat}{g' k l x y:Nat}{Q:Bool->ba->af->Prop}{s:af}(hc:Cmp prog w A κ it N s)
  (hp:Low N p) (ex:p[32]?=a5 x) (e1:gal a6 x p 0 32 0=a5 k) (h1:¬(32-k==0)=a7) (ey:p[0+k+(32-k)-1]?=a5 y) (e2:gal a7 y p 32 32 31=a5 l) (h2:¬(l==0)=a7) (h3:32-k<=l)
  (e3:mlo (p.extract (0+k) 32) (p.extract 32 (32+l)) 7=a5 (r,g')) (h:Q a7 (ks κ it (bF (λa x=>a.setIfInBounds (0+k+x.snd) x.fst) p r.toList.zipIdx) #[(0,64,1)] g') s) :
  cR (au prog w) A E (mergeAt' 0) Q (ks κ it p #[(0,32,1),(32,32,0)] 7) s:=by
 refine ay (fQ ?_);have g2:((#[(0,32,1),(32,32,0)]:Array (Nat×Nat×Nat)).setIfInBounds 0 (0,32+32,1)).eraseIdxIfInBounds (0+1) = #[(0,64,1)]:=by simp
 refine ay (jdu (st':=ks κ it p (((#[(0,32,1),(32,32,0)]:Array (Nat×Nat×Nat)).setIfInBounds 0 (0,32+32,1)).eraseIdxIfInBounds (0+1)) 7) ?_);rw[g2];refine ay (qp ex ?_);refine ay (Z1 hc (hp _ _ ex) hp e1 ?_);refine za h1 ?_;refine ay (qp ey ?_);refine ay (Z1 hc (hp _ _ ey) hp e2 ?_);refine za h2 ?_;have a1:kz (ks κ it p #[(0,32,1),(32,32,0)] 7)=aT (aD it) p:=rfl;refine vm (show 32-k<=l from h3) (ay ?_);show cR _ _ _ ((sortPriv% PySem.Builtin.mergeLo) ((aT (aD it) p).extract (0+k) 32) ((aT (aD it) p).extract 32 (32+l))) _ _ _;rw[Bd,Bd];refine jff hc (hp.ext _ _) (hp.ext _ _) e3 ?_;refine ay (kasC_modify ?_);refine ay (fQ (aF ?_));unfold ks at h;rw[<-jiv (it:=it)]at h;exact h
noncomputable def m64(p:Array Nat):Option (Array Nat) :=
 if p.size=64 then match zy (as1 p 0) 63 1 with
  |some 64=>if p.getD 0 0<p.getD 63 0 then a5 p else a8
  |some 32=>if p.getD 0 0<p.getD 31 0/\zy (as1 p 32) 31 1=a5 32/\p.getD 32 0<p.getD 63 0 then
    match gal a6 (p.getD 32 0) p 0 32 0 with
    |none=>a8
    |some k=>match gal a7 (p.getD (0+k+(32-k)-1) 0) p 32 32 31 with
     |none=>a8
     |some l=>if k<32/\0<l/\32-k<=l then match mlo (p.extract (0+k) 32) (p.extract 32 (32+l)) 7 with
       |none=>a8
       |some r=>a5 (bF (λa x=>a.setIfInBounds (0+k+x.snd) x.fst) p r.1.toList.zipIdx)
      else a8
   else a8
  |_=>a8
 else a8
theorem getD_some{p:Array Nat}{i:Nat}(h:i<p.size):p[i]?=a5 (p.getD i 0):=by simp[ip,h]
local macro_rules | `(tactic| walk_at "ksm")=>`(tactic| simp only [j5b,jj1,j7u,Nat.zero_add,Nat.reduceAdd,Nat.reduceSub,Nat.reduceMul,Nat.reduceDiv,Nat.reduceBEq,Nat.reduceLT,Nat.reduceLeDiff,Nat.reduceGT,ge_iff_le,gt_iff_lt,Bool.false_eq_true,↓reduceIte,reduceCtorEq,Array.size_map,beq_self_eq_true,Bool.not_true,Bool.not_false])
local macro_rules | `(tactic| walk_at "kst")=>`(tactic| with_reducible first | refine kasC_get ?_ | refine kasC_modify ?_ | refine kasC_pure ?_ | refine j6u (by rfl) ?_ | refine kasC_nil ?_ | refine j1a ?_ | refine kasC_bind ?_)
theorem jie{p q:Array Nat}{Q:Unit->ba->af->Prop}{s:af}(hc:Cmp prog w A κ it N s)(hp:Low N p)(e:m64 p=a5 q)(h:∀g pd,Q () (ks κ it q pd g) s):cR (au prog w) A E sortRuns' Q (ks κ it p #[] 7) s:=by
 unfold m64 at e;by_cases hz:p.size=64
 case neg=>rw[if_neg hz]at e;cases e
 rw[if_pos hz]at e;have sz:(kz (ks κ it p #[] 7)).size=64:=by rw[j5b,T7];exact hz
 have mr:minRun' 64 64 0=32:=by rfl
 have b0:(#[]:Array (Nat×Nat×Nat)).back?=a8:=rfl;have gd:∀i,i<64->p[i]?=a5 (p.getD i 0):=λi hi=>getD_some nofun
 rw[sortRuns'_eq];refine ay (fQ ?_);simp only[sz,mr];cases q1:zy (as1 p 0) 63 1 with
 |none=>rw[q1]at e;cases e
 |some n =>
 rw[q1]at e;by_cases h64:n=64
 .subst h64
  change (if p.getD 0 0<p.getD 63 0 then a5 p else a8)=a5 q at e
  by_cases c1:p.getD 0 0<p.getD 63 0
  case neg=>rw[if_neg c1]at e;cases e
  rw[if_pos c1]at e;cases e;have b1:(#[]:Array (Nat×Nat×Nat)).push (0,64,0) = #[(0,64,0)]:=rfl;have b3:(#[(0,64,0)]:Array (Nat×Nat×Nat)).size=1:=rfl
  repeat (first|refine j06 hc hp q1 (by decide) (gd 0 (by decide)) (gd 63 (by decide)) c1 ?_|(walk_at "kst";try walk_at "ksm")|walk_at "ksm"|simp only[b0,b1,b3,iR])
  exact h _ _
 .by_cases h32:n=32
  .subst h32
   replace e:(if p.getD 0 0<p.getD 31 0/\zy (as1 p 32) 31 1=a5 32/\p.getD 32 0<p.getD 63 0 then
    match gal a6 (p.getD 32 0) p 0 32 0 with
    |none=>a8
    |some k=>match gal a7 (p.getD (0+k+(32-k)-1) 0) p 32 32 31 with
     |none=>a8
     |some l=>if k<32/\0<l/\32-k<=l then match mlo (p.extract (0+k) 32) (p.extract 32 (32+l)) 7 with
       |none=>a8
       |some r=>a5 (bF (λa x=>a.setIfInBounds (0+k+x.snd) x.fst) p r.1.toList.zipIdx)
      else a8
   else a8)=a5 q:=e
   by_cases c1:p.getD 0 0<p.getD 31 0/\zy (as1 p 32) 31 1=a5 32/\p.getD 32 0<p.getD 63 0
   case neg=>rw[if_neg c1]at e;cases e
   rw[if_pos c1]at e;obtain⟨c1,c2,c3⟩:=c1;cases q2:gal a6 (p.getD 32 0) p 0 32 0 with
   |none=>rw[q2]at e;cases e
   |some k =>
   rw[q2]at e;dsimp only at e;cases q3:gal a7 (p.getD (0+k+(32-k)-1) 0) p 32 32 31 with
   |none=>rw[q3]at e;cases e
   |some l =>
   rw[q3]at e;dsimp only at e;by_cases c4:k<32/\0<l/\32-k<=l
   case neg=>rw[if_neg c4]at e;cases e
   rw[if_pos c4]at e;obtain⟨c4,c5,c6⟩:=c4;cases q4:mlo (p.extract (0+k) 32) (p.extract 32 (32+l)) 7 with
   |none=>rw[q4]at e;cases e
   |some r =>
   rw[q4]at e;cases e;have b1:(#[]:Array (Nat×Nat×Nat)).push (0,32,0) = #[(0,32,0)]:=rfl;have b2:(#[(0,32,0)]:Array (Nat×Nat×Nat)).back?=a5 (0,32,0):=rfl;have b3:(#[(0,32,0)]:Array (Nat×Nat×Nat)).size=1:=rfl;have b4:∀f:Nat×Nat×Nat->Nat×Nat×Nat,(#[(0,32,0)]:Array (Nat×Nat×Nat)).modify 0 f = #[f (0,32,0)]:=λ_=>rfl;have pw:power' 64 32 96 64=1:=rfl;have b5:(#[(0,32,1)]:Array (Nat×Nat×Nat)).push (32,32,0) = #[(0,32,1),(32,32,0)]:=rfl;have b6:(#[(0,32,1),(32,32,0)]:Array (Nat×Nat×Nat)).size=2:=rfl;have b7:(#[(0,64,1)]:Array (Nat×Nat×Nat)).size=1:=rfl
   repeat (first|refine j06 hc hp q1 (by decide) (gd 0 (by decide)) (gd 31 (by decide)) c1 ?_|refine j06 hc hp c2 (by decide) (gd 32 (by decide)) (gd 63 (by decide)) c3 ?_|(walk_at "kst";try walk_at "ksm")|walk_at "ksm"|simp only[b0,b1,b2,b3,b4,b5,b6,pw,iR])
   refine jfh (r:=r.1) (g':=r.2) hc hp (gd 32 (by decide)) q2 (by simp;omega) (gd _ nofun) q3 (by simp;omega) c6 q4 ?_;simp only[Tj]at h
   repeat (first|(walk_at "kst";try walk_at "ksm")|walk_at "ksm"|simp only[b7])
   exact h _ _
  .exfalso
   revert e
   split
   .rename_i z;cases z;exact absurd rfl h64
   .rename_i z;cases z;exact absurd rfl h32
   .intro e;cases e
end
theorem jc6:∀j<6,m64 (rnk 6 j).toArray=a5 (aB 64).toArray:=by decide +kernel
end PySem.W
end
section
namespace PySem.W
open PySem PySem.Calls PyProof.Rows
section
variable{prog:ar}{w:aA}{A:aC}{E:k84}{s:af}{vs:List aa}{q:List Nat}
def Srt(prog:ar)(w:aA)(A:aC)(E:k84)(vs:List aa)(q:List Nat)(s:af):Prop :=
 ax (au prog w) A (keyKind' vs.toArray) (λκ s1=>s1=s/\cR (au prog w) A E sortRuns' (λ_ st s2=>s2=s/\kz st=q.toArray.map (aD (bJ vs))/\failedOf st=a8) (dC κ (bJ vs) #[] 7 a8) s) E s
theorem j6y {a:ae} {n:Nat} {P:PySem.Fin->af->Prop} (ho:s.heap.get? a=a5 (b9 "list" vs.toArray n)) (h2:2<=vs.length) (hz:vs.length<=64) (hq:q.length=vs.length)
  (hS:∀s':af,(∀b o,b≠a->s.heap.get? b=a5 o->s'.heap.get? b=a5 o)->Srt prog w A E vs q s')
  (h:∀h' c,(∀b o,b≠a->s.heap.get? b=a5 o->h'.get? b=a5 o)->h'.get? a=a5 (b9 "list" (q.map λi=>vs.getD i aI).toArray c)->P (.done (.ret .none)) { s with heap:=h' }) :
  ax (au prog w) A (dh.«list.sort» ⟨[.ref a],[]⟩) P E s:=by
 have ha:a<s.heap.objs.size:=xn ho;have s1:=cA s.heap a (aZ λ_=>(#[]:Array aa));obtain⟨e1,ho1⟩:∃e1,(s.heap.update a (aZ λ_=>(#[]:Array aa))).get? a=a5 (b9 "list" #[] e1):=⟨_,gE ho λ_=>#[]⟩
 have kp:∀b o,b≠a->s.heap.get? b=a5 o->(((s.heap.update a (aZ λ_=>(#[]:Array aa))).push (b9 "tuple" vs.toArray 0)).push (b9 "list" #[] 0)).get? b=a5 o:=λb o nb e =>xu _ (xu _ ((s1.2 b nb).trans e))
 have na:(((s.heap.update a (aZ λ_=>(#[]:Array aa))).push (b9 "tuple" vs.toArray 0)).push (b9 "list" #[] 0)).get? a=a5 (b9 "list" #[] e1):=xu _ (xu _ ho1);rw[list_sort_plain];refine ai (listItems_at ho rfl ?_);refine ai (mw ho rfl ?_ (by rw[xr,b8];omega) (Tc _));refine ai (seqEpoch_at ho1 rfl ?_);refine ai (wpAny_newTuple ?_ (by show vs.length<=_;rw[b8];omega));refine ai (fm ?_ (Tc _));refine dO ?_;show ax (au prog w) A _ P E { s with heap:=((s.heap.update a (aZ λ_=>(#[]:Array aa))).push (b9 "tuple" vs.toArray 0)).push (b9 "list" #[] 0) };dsimp only;have hn2:¬vs.toArray.size<2:=by rw[xr];omega
 rw[if_neg hn2,if_neg hn2];refine ai (aW (hS { s with heap:=((s.heap.update a (aZ λ_=>(#[]:Array aa))).push (b9 "tuple" vs.toArray 0)).push (b9 "list" #[] 0) } kp) (λκ s2 z=>?_) λ_ _ e=>e);obtain⟨rfl,z⟩:=z;refine ai (aW z ?_ λ_ _ e=>e);rintro⟨⟨⟩,st'⟩ s' ⟨rfl,har,hf⟩;dsimp only;have hout:(kz st').map (·.2)=bX (q.map λi=>vs.getD i aI):=by apply Array.toList_inj.mp;rw[har,Array.map_map,dw];exact t7 λi _=>by show(aD (bJ vs) i).2=_;rw[dH]
 have hsz:(bX (q.map λi=>vs.getD i aI)).size=vs.length:=by rw[xr,xf,hq]
 rw[hout];have s2:=cA (((s.heap.update a (aZ λ_=>(#[]:Array aa))).push (b9 "tuple" vs.toArray 0)).push (b9 "list" #[] 0)) a (aZ λ_=>bX (q.map λi=>vs.getD i aI));obtain⟨c2,hc2⟩:∃c2,((((s.heap.update a (aZ λ_=>(#[]:Array aa))).push (b9 "tuple" vs.toArray 0)).push (b9 "list" #[] 0)).update a (aZ λ_=>bX (q.map λi=>vs.getD i aI))).get? a=a5 (b9 "list" (bX (q.map λi=>vs.getD i aI)) c2):=⟨_,gE na λ_=>bX (q.map λi=>vs.getD i aI)⟩
 refine ai (seqEpoch_at na rfl ?_);refine ai (mw na rfl ?_ (Tc _) (Xd (l7 hsz) (by rw[b8];omega)));rw[hf];simp only[bne_self_eq_false,Pg,if_false];exact az (h _ c2 (λb o nb e=>(s2.2 b nb).trans (kp b o nb e)) hc2)
theorem Om{l:ae}{Q:k84}(hl:s.heap.IsList l vs.toArray)(h2:2<=vs.length)(hz:vs.length<=64)(hq:q.length=vs.length)
  (hS:∀s':af,(∀b o,s.heap.get? b=a5 o->s'.heap.get? b=a5 o)->Srt prog w A.in1.in1 E vs q s')
  (h:∀D h' c,s.heap.objs.size<=D->(∀b o,s.heap.get? b=a5 o->h'.get? b=a5 o)->h'.get? D=a5 (b9 "list" (q.map λi=>vs.getD i aI).toArray c)->Q (.ref D) { s with heap:=h' }) :
  ax (au prog w) A (call (.builtin "sorted") [.ref l]) Q E s:=by
 refine gb kind_sorted plain_sorted entry_sorted (args_sorted1 _) ?_;unfold dh.«sorted»;refine ai (m:=checkCount "sorted" 1 1 _) (az ?_);refine ai (collect_list hl ?_ (by rw[b8];omega));refine ai (fm ?_ (by rw[b8];omega));have hsz:((s.heap.push (b9 "list" #[] 0)).update s.heap.objs.size (aZ (· ++ vs.toArray))).objs.size=s.heap.objs.size+1:=by rw[iY,size_push']
 have hoL:(((s.heap.push (b9 "list" #[] 0)).update s.heap.objs.size (aZ (· ++ vs.toArray))).push (b9 "list" vs.toArray 0)).get? (s.heap.objs.size+1)=a5 (b9 "list" vs.toArray 0):=by rw[<-hsz];exact Xa _ rfl
 have keep:∀b o,s.heap.get? b=a5 o->(((s.heap.push (b9 "list" #[] 0)).update s.heap.objs.size (aZ (· ++ vs.toArray))).push (b9 "list" vs.toArray 0)).get? b=a5 o:=λb o q=>by have hlt:b<s.heap.objs.size:=xn q;rw[iJ _ _ _ (by rw[hsz];exact X7 (cB hlt)),Heap.get?_update_ne _ _ _ _ (X7 hlt),iJ _ _ _ (X7 hlt)];exact q
 have ne:∀b o,s.heap.get? b=a5 o->b≠s.heap.objs.size+1:=λb o e z=>absurd (xn e) (Nat.not_lt.mpr (by rw[z];exact Xv _));show ax _ _ _ _ _ { s with heap:=((s.heap.push (b9 "list" #[] 0)).update s.heap.objs.size (aZ (· ++ vs.toArray))).push (b9 "list" vs.toArray 0) };rw[hsz];refine ai (dO (cS m7 ⟨_,hoL,rfl⟩ lJ ?body (m9 _)))
 case body =>refine j6y (s:={ s with heap:=((s.heap.push (b9 "list" #[] 0)).update s.heap.objs.size (aZ (· ++ vs.toArray))).push (b9 "list" vs.toArray 0) }) hoL h2 hz hq (λs' kp=>hS s' λb o e=>kp b o (ne b o e) (keep b o e)) λh' c kp e=>?_;exact⟨_,rfl,az ⟨_,rfl,h _ h' c (Xv _) (λb o e=>kp b o (ne b o e) (keep b o e)) e⟩⟩
end
end PySem.W
end
section
namespace PySem.W
open PySem PySem.Calls PyProof.Rows
noncomputable def evO{α:Type}(n:Nat)(r:Nat->Nat->Bool):KasT α->Option α
 |.ret a=>a5 a
 |.ask i j k=>if i<n/\j<n then evO n r (k (r i j))else a8
theorem j5q{α:Type}{n:Nat}{r:Nat->Nat->Bool}{cmp:Nat->Nat->(Bool->af->Prop)->af->Prop}{Q:α->af->Prop}{s:af}(hc:∀i j,i<n->j<n->∀C:Bool->af->Prop,C (r i j) s->cmp i j C s):∀(t:KasT α){a:α},evO n r t=a5 a->Q a s->t.kasWp cmp Q s
 |.ret _,_,e,h=>by cases e;exact h
 |.ask i j k,a,e,h=>by
  unfold evO at e;by_cases z:i<n/\j<n
  .rw[if_pos z]at e;exact hc i j z.1 z.2 _ (j5q hc (k (r i j)) e h)
  .rw[if_neg z]at e;cases e
noncomputable def pst(k j:Nat):List Nat:=(aB (2^k)).map λr=>(rnk k j).idxOf r
theorem W3:∀k<7,∀j<k,(rnk k j).length=2^k/\(pst k j).length=2^k/\(∀i<2^k,(rnk k j).getD i 0<2^k/\(pst k j).getD ((rnk k j).getD i 0) 0=i/\(pst k j).getD i 0<2^k/\(rnk k j).getD ((pst k j).getD i 0) 0=i):=by decide +kernel
theorem j47:∀k<6,∀j<k,evO (2^k) (λa b=>decide ((rnk k j).getD a 0<(rnk k j).getD b 0)) (kas_sort (2^k))=a5 (pst k j).toArray:=by decide +kernel
section
variable{prog:ar}{w:aA}{A:aC}{E:k84}{s:af}
theorem jbz{b:Bool}{x y:Int}{t u:jG}{Q:Bool->af->Prop}(h:Q (decide (x<y)) s):ax (au prog w) A (oneLt' b (.int x t) (.int y u)) Q E s:=by
 cases b with
 |true=>exact oneLt_int h
 |false=>exact kat_one _ _ (lt_int h)
theorem Ei{Q:Bool->af->Prop}{b:Bool}:∀{us vs:List aa}{ns ms:List Int}(i:Nat)(fin:Bool),cU us ns->cU vs ms->ns.length=ms.length->fin=a6->Q (HT.lexLt ns ms) s->KatLex prog w A b fin Q (us.zip vs) i s
 |_,_,[],[],i,fin,.nil,.nil,_,ef,h=>by subst ef;exact h
 |_,_,n::ns,m::ms,i,fin,.cons _ t hu,.cons _ u hv,hl,ef,h=>by
  refine kat_cons (kR ?_);rw[HT.lexLt_cons]at h;by_cases e:n=m
  .rw[if_pos e]at h;rw[show(n==m)=a7 from by simp[e]];exact kat_yes (Ei (i+1) fin hu hv (by simpa using hl) ef h)
  .rw[if_neg e]at h;rw[show(n==m)=a6 from by simp[e]];exact kat_no (jbz h)
theorem jcb{b:Bool}{x y:ae}{xs ys:Array aa}{ns ms:List Int}{Q:Bool->af->Prop}(hx:gx s.heap x xs)(hy:gx s.heap y ys)(hn:cU xs.toList ns)(hm:cU ys.toList ms)(hl:ns.length=ms.length)(h:Q (HT.lexLt ns ms) s) :
  ax (au prog w) A (keyLt' (gO b) (.ref x) (.ref y)) Q E s:=by
 obtain⟨ox,ex,_,n,dx⟩:=hx;obtain⟨oy,ey,_,k,dy⟩:=hy;have e1:xs.size=ys.size:=by rw[<-Tu,<-Tu,hn.length,hm.length,hl]
 exact kat_lt ex dx ey dy (Ei 0 _ hn hm hl (by rw[e1];simp) h)
def Dg(h:aG)(z:Nat)(vs:List aa)(l:List (List Int)):Prop:=vs.length=l.length/\∀i<l.length,(l.getD i []).length=z/\∃a items,vs.getD i aI=.ref a/\gx h a items/\cU items.toList (l.getD i [])
theorem W9:∀l:List Int,HT.lexLt l l=a6
 |[]=>rfl
 |x::l=>by rw[HT.lexLt_cons,if_pos rfl];exact W9 l
theorem Yp:∀a b c:List Int,HT.lexLt a b=a7->HT.lexLt b c=a7->HT.lexLt a c=a7
 |[],[],_,h,_=>by cases h
 |[],_::_,[],_,h=>by cases h
 |[],_::_,_::_,_,_=>rfl
 |_::_,[],_,h,_=>by cases h
 |_::_,_::_,[],_,h=>by cases h
 |x::a,y::b,z::c,h1,h2=>by
  rw[HT.lexLt_cons]at h1 h2 ⊢;by_cases e1:x=y
  .subst e1;rw[if_pos rfl]at h1;by_cases e2:x=z
   .rw[if_pos e2]at h2 ⊢;exact Yp a b c h1 h2
   .rw[if_neg e2]at h2 ⊢;exact h2
  .rw[if_neg e1]at h1;by_cases e2:y=z
   .subst e2;rw[if_neg e1];exact h1
   .rw[if_neg e2]at h2;have h1:=of_decide_eq_true h1;have h2:=of_decide_eq_true h2;rw[if_neg nofun];exact decide_eq_true nofun
noncomputable def Ub:List (List Int)->Bool
 |a::b::r=>HT.lexLt a b&&Ub (b::r)
 |_=>a7
theorem Ff:∀(l:List (List Int)),Ub l=a7->∀i j,i<j->j<l.length->HT.lexLt (l.getD i []) (l.getD j [])=a7
 |[],_,_,_,_,h=>by cases h
 |[a],_,i,j,h1,h2=>by simp at h2;omega
 |a::b::r,h,i,j,h1,h2=>by
  unfold Ub at h;rw[X8]at h;obtain⟨j,rfl⟩:∃j',j=j'+1:=⟨j-1,by omega⟩
  have go:=Ff (b::r) h.2;cases i with
  |zero =>
   cases j with
   |zero=>exact h.1
   |succ j=>exact Yp _ _ _ h.1 (go 0 (j+1) nofun (by simpa using h2))
  |succ i=>exact go i j nofun (by simpa using h2)
theorem j8d{l:List (List Int)}(h:Ub l=a7){i j:Nat}(hi:i<l.length)(hj:j<l.length):HT.lexLt (l.getD i []) (l.getD j [])=decide (i<j):=by
 rcases Nat.lt_trichotomy i j with z|z|z
 .rw[Ff l h i j z hj,decide_eq_true z]
 .subst z;rw[W9,decide_eq_false (Xx _)]
 .rw[decide_eq_false nofun];cases e:HT.lexLt (l.getD i []) (l.getD j []) with
  |false=>rfl
  |true =>have:=Yp _ _ _ e (Ff l h j i z hi);rw[W9]at this;cases this
theorem j6k:∀{vs:List aa}{l:List (List Int)} {z:Nat},Dg s.heap (z+1) vs l->∃fs,KatTups s.heap vs fs/\fs.length=l.length/\∀v∈fs,∃n t,v=bA n t:=by
 intro vs;induction vs with
 |nil=>intro l z h;cases l with
  |nil=>exact⟨[],trivial,rfl,λ_ h=>by cases h⟩
  |cons _ _=>simp[Dg]at h
 |cons v vs ih =>
  intro l z h;cases l with
  |nil=>simp[Dg]at h
  |cons k l =>
   obtain⟨h1,h2⟩:=h;obtain⟨fs,t,el,ei⟩:=ih (l:=l) (z:=z) ⟨by simpa using h1,λi hi=>by simpa using h2 (i+1) (by simpa using hi)⟩;obtain⟨hz,a,items,e1,⟨o,e2,e3,n,e4⟩,e5⟩:=h2 0 (by simp);have e1:v=.ref a:=e1;have e5:cU items.toList k:=e5;have hz:k.length=z+1:=hz;cases k with
   |nil=>simp at hz
   |cons m ms =>
    cases q:items.toList with
    |nil=>rw[q]at e5;cases e5
    |cons u us =>
     rw[q]at e5;cases e5 with
     |cons _ t' _ =>
     refine⟨.int m t'::fs,?_,by simp[el],λv hv=>?_⟩
     .subst e1;refine .cons e2 e3 e4 ?_ t;rw[<-dU,q];rfl
     .rcases xj.mp hv with e|e
      .exact⟨_,_,e⟩
      .exact ei v e
theorem j4t(vs:List aa){i:Nat}(h:i<vs.length):(bJ vs)[i]?=a5 (vs.getD i aI,vs.getD i aI):=by simp[bJ,h]
theorem Ko{vs:List aa}{l:List (List Int)}{z k j:Nat}(hk:k<7)(hj:j<k)(hl:l.length=2^k)(hT:Dg s.heap (z+1) vs l)(hi:Ub ((pst k j).map λi=>l.getD i [])=a7):Srt prog w A E vs (pst k j) s:=by
 obtain⟨f1,f2,f3⟩:=W3 k hk j hj;obtain⟨fs,kt,el,ei⟩:=j6k hT;have hn:0<l.length:=by rw[hl];exact Nat.two_pow_pos k
 have cmp0:∀b i i',i<2^k->i'<2^k->∀C:Bool->af->Prop,C (decide ((rnk k j).getD i 0<(rnk k j).getD i' 0)) s->ax (au prog w) A (keyLt' (gO b) (vs.getD i aI) (vs.getD i' aI)) C (λ_ _=>False) s:=λb i i' h1 h2 C hC=>by
  obtain⟨z1,a1,it1,e1,p1,n1⟩:=hT.2 i nofun
  obtain⟨z2,a2,it2,e2,p2,n2⟩:=hT.2 i' nofun
  rw[e1,e2];refine jcb p1 p2 n1 n2 nofun ?_;have q:=j8d hi (i:=(rnk k j).getD i 0) (j:=(rnk k j).getD i' 0) (by rw[xf,f2];exact(f3 i h1).1) (by rw[xf,f2];exact(f3 i' h2).1);have g:∀i,i<2^k->((pst k j).map λi=>l.getD i []).getD ((rnk k j).getD i 0) []=l.getD i []:=λi h=>by
   have a:=(f3 i h).1;have b:=(f3 i h).2.1;have c:(rnk k j).getD i 0<(pst k j).length:=by rw[f2];exact a
   rw[kj,xq,kh c,cc,T3];rw[kj,kh c,T3]at b;rw[b]
  rw[g i h1,g i' h2]at q;rw[q];exact hC
 refine kat_kind kt nofun (T:=.type "int") (λv hv=>?_) (by decide) ⟨rfl,?_⟩
 .obtain⟨n,t,e⟩:=ei v hv;subst e;exact Looks.of_pure rfl
 .have hv:vs.length=2^k:=hT.1.trans hl;by_cases h6:k=6
  .subst h6;have e0:bJ vs=(rnk 6 j).toArray.map (aD ((pst 6 j).toArray.map (aD (bJ vs)))):=by
    apply Array.ext_getElem?;intro i;by_cases hi:i<64
    .rw[j4t vs nofun,cX];have a:=f3 i hi;have e1:(rnk 6 j).toArray[i]?=a5 ((rnk 6 j).getD i 0):=by rw[cH,kj,kh nofun];rfl
     rw[e1,cc];congr 1;have e2:aD ((pst 6 j).toArray.map (aD (bJ vs))) ((rnk 6 j).getD i 0)=aD (bJ vs) ((pst 6 j).getD ((rnk 6 j).getD i 0) 0):=by
      show ip _ _ _=_;have c:(rnk 6 j).getD i 0<(pst 6 j).length:=by rw[f2];exact a.1
      simp only[fO,cX,cH,kj]at c ⊢;rw[kh c];rfl
     rw[e2,a.2.1,dH]
    .rw[gN (by rw[pairsOf_size];omega),gN (by rw[T7,xr];omega)]
   have est:dC (gO (bu "int" != bu "tuple")) (bJ vs) #[] 7 a8=ks (gO (bu "int" != bu "tuple")) ((pst 6 j).toArray.map (aD (bJ vs))) (rnk 6 j).toArray #[] 7:=by unfold ks;rw[<-e0]
   rw[est];have kp:∀i,i<64->aD ((pst 6 j).toArray.map (aD (bJ vs))) i=aD (bJ vs) ((pst 6 j).getD i 0):=λi hi=>by
    show ip _ _ _=_;have c:i<(pst 6 j).length:=by rw[f2];exact hi
    simp only[fO,cX,cH,kj]at c ⊢;rw[kh c];rfl
   refine jie (N:=64) (λi i' h1 h2 C hC=>?_) (λi x e=>?_) (jc6 j hj) λg pd=>⟨rfl,?_,rfl⟩
   .unfold kas_cmp;rw[kp i h1,kp i' h2,dH,dH];refine cmp0 _ _ _ (f3 i h1).2.2.1 (f3 i' h2).2.2.1 C ?_;rw[(f3 i h1).2.2.2,(f3 i' h2).2.2.2];exact hC
   .rw[cH]at e;have hi:i<(rnk 6 j).length:=(X3.mp e).1;have:=(f3 i nofun).1;rw[kj,e]at this;exact this
   .show aT _ (aB 64).toArray=_;apply Array.toList_inj.mp;rw[dw,dw];apply Pa;intro i;rw[xq,xq];by_cases hi:i<64
    .rw[Xu hi,kh (l:=(pst 6 j)) nofun,cc,cc,kp i hi];rw[kj,kh (l:=(pst 6 j)) nofun];rfl
    .rw[Xi (by rw[Xw];omega),Xi (l:=(pst 6 j)) nofun];rfl
  .have est:dC (gO (bu "int" != bu "tuple")) (bJ vs) #[] 7 a8=kas_st (gO (bu "int" != bu "tuple")) (bJ vs) (bX (aB vs.length)):=by have e:=kas_range (bJ vs);rw[pairsOf_size]at e;show dC _ (bJ vs) #[] 7 a8=dC _ ((bX (aB vs.length)).map (aD (bJ vs))) #[] 7 a8;rw[e]
   have k5:k<6:=by omega
   have p1:2<=2^k/\2^k<64:=by
    have:∀k<6,0<k->2<=2^k/\2^k<64:=by decide
    exact this k k5 nofun
   rw[est];refine kas_runs nofun nofun (G:=λp s'=>p=(pst k j).toArray/\s'=s) (λp' st' s' a1 a2 a3 a4=>?_) ?_
   .obtain⟨rfl,rfl⟩:=a4;exact⟨rfl,a2,a3⟩
   .rw[hv];refine j5q (n:=2^k) (λi i' h1 h2 C hC=>?_) _ (j47 k k5 j hj) ⟨rfl,rfl⟩;unfold kas_cmp;rw[dH,dH];exact cmp0 _ _ _ h1 h2 C hC
end
end PySem.W
end
section
namespace L2
open PySem PySem.Spec PyProof.Rows
open PySem.W (pst rnk Ub W3 Ko Om Dg)
noncomputable def Lp(l:List (List Int))(k:Nat):List Nat->Option (List (List Int))
 |[]=>a8
 |j::js=>if Ub ((pst k j).map λi=>l.getD i [])then a5 ((pst k j).map λi=>l.getD i [])else Lp l k js
noncomputable def Kq(l:List (List Int)):Option (List (List Int)):=match l with
 |[]=>a8
 |a::_=>if a.length≠0/\l.all (λb=>b.length==a.length)=a7 then match [1,2,3,4,5,6].find? λk=>l.length==2^k with
   |some k=>Lp l k (aB k)
   |none=>a8
  else a8
theorem Kr{l S:List (List Int)}{k:Nat}:∀js:List Nat,Lp l k js=a5 S->∃j∈js,Ub ((pst k j).map λi=>l.getD i [])=a7/\S=(pst k j).map λi=>l.getD i []
 |[],h=>by cases h
 |j::js,h=>by
  unfold Lp at h;split at h
  .rename_i e;cases h;exact⟨j,xm ..,e,rfl⟩
  .obtain⟨j',h1,h2⟩:=Kr js h;exact⟨j',km _ h1,h2⟩
theorem jaz{l S:List (List Int)}(h:Kq l=a5 S):∃k j z,k<7/\j<k/\l.length=2^k/\(∀i<l.length,(l.getD i []).length=z+1)/\Ub ((pst k j).map λi=>l.getD i [])=a7/\S=(pst k j).map λi=>l.getD i []:=by
 unfold Kq at h;split at h
 .cases h
 .rename_i a r;split at h
  .rename_i ha;split at h
   .rename_i k hk;have k1:=gn hk;have k2:=jM hk;obtain⟨j,hj,h1,h2⟩:=Kr _ h;refine⟨k,j,a.length-1,?_,Xm.mp hj,by simpa using k2,λi hi=>?_,h1,h2⟩
    .have:∀k∈[1,2,3,4,5,6],k<7:=by decide
     exact this k k1
    .have:=Xq.mp ha.2 ((a::r).getD i []) (by rw[kj,kh hi];exact Pq hi);have e:=beq_iff_eq.mp this;have:=ha.1;omega
   .cases h
  .cases h
theorem j5.pick{K:k83}{H:Hp}{ds:List D}{xs:List V}(h:j5 K H ds xs):∀q:List Nat,(∀i∈q,i<ds.length)->j5 K H (q.map λi=>ds.getD i .non) (q.map λi=>xs.getD i .non)
 |[],_=>rfl
 |i::q,hq=>by have hi:=hq i (xm ..);obtain⟨x,hx,e⟩:=h.get (kh hi);refine⟨xs.getD i .non,_,rfl,?_,j5.pick h q λi hi=>hq i (km _ hi)⟩;show Enc K H (ds.getD i .non) _;rw[kj,kj,hx,kh hi];exact e
theorem Vals.pick{xs:List V}{us:List aa}(h:Vals xs us):∀q:List Nat,(∀i∈q,i<xs.length)->Vals (q.map λi=>xs.getD i .non) (q.map λi=>us.getD i aI)
 |[],_=>.nil
 |i::q,hq=>by have hi:=hq i (xm ..);obtain⟨u,hu,r⟩:=h.get (kh hi);refine .cons ?_ (Vals.pick h q λi hi=>hq i (km _ hi));show RelV (xs.getD i .non) (us.getD i aI);rw[kj,kj,hu,kh hi];exact r
theorem Bc:∀l:List (List Int),jq (l.map λk=>D.tup (k.map D.int))=a7
 |[]=>rfl
 |k::l=>by
  have:∀k:List Int,jq (k.map D.int)=a7:=λk=>by
   induction k with
   |nil=>rfl
   |cons _ _ ih=>show(vy _&&jq _)=a7;rw[ih];rfl
  show(jq _&&jq _)=a7;rw[this k,Bc l];rfl
section
variable{X:Cx}{ρ:Rho}{a:aj}{p pos:aO}
theorem DO.sortedT {l S:List (List Int)} (hS:Kq l=a5 S) (hm:X.mg "sorted" = a8) (hg:Gl X "sorted") (ha:DT X ρ a (.lst (l.map λk=>D.tup (k.map D.int)))) (hs:a9 [a] X.env=[(a6,aE a X.env)]) :
  DO X ρ (.Call (.Name "sorted" p) [a] [] pos) (S.map λk=>D.tup (k.map D.int)):=λσ H Q R q pins s I=>by
 obtain⟨k,j,z,k7,jk,hl,hz,hi,rfl⟩:=jaz hS;obtain⟨f1,f2,f3⟩:=W3 k k7 j jk;have k1:2<=2^k/\2^k<=64:=by
  have:∀k<7,0<k->2<=2^k/\2^k<=64:=by decide
  exact this k k7 nofun
 have pl:∀i∈pst k j,i<l.length:=λi h=>by obtain⟨r,hr,e⟩:=List.getElem_of_mem h;have:=(f3 r nofun).2.2.1;rw[kj,kh hr,T3,e]at this;omega
 refine br (Zy I hg hm boot_sorted ?_);refine callWith_builtin1 (thn ((j9 (es:=[]) peS jm hs).to (σ:=σ) (H:=H) (Q:=λvs H1=>∃v,vs=[v]/\j4 H H1/\Enc X.K H1 (.lst (l.map λk=>D.tup (k.map D.int))) v) (ha σ H _ R λv H1 g1 e1=>⟨v,rfl,g1,e1⟩) pos pins s I) λus s1 ⟨vs,H1,I1,r1,v,ev,g1,e1⟩=>?_) hs rfl;subst ev;obtain⟨b,xs,eb,sq,en⟩:=e1;subst eb;obtain⟨u,eu,ru⟩:=r1.one;subst eu;cases(show u=aH b from ru);have hlen:xs.length=l.length:=by rw[en.length,xf]
 obtain⟨its,rv,pL,_⟩:=I1.list sq;have hil:its.length=l.length:=by rw[<-rv.length,hlen]
 have T0:∀s':af,(∀b o,s1.heap.get? b=a5 o->s'.heap.get? b=a5 o)->Dg s'.heap (z+1) its l:=λs' kp=>by refine⟨hil,λi h=>⟨hz i h,?_⟩⟩;obtain⟨x,hx,ex⟩:=en.get (i:=i) (d:=D.tup ((l.getD i []).map D.int)) (by rw[xq,kj,kh h];rfl);obtain⟨t,ys,e1,sq',l'⟩:=ex;rw[Z5 l']at sq';obtain⟨u,hu,r⟩:=rv.get hx;subst e1;cases(show u=aH t from r);obtain⟨ts,r2,⟨o,e2,e3⟩,_⟩:=I1.tuple sq';exact⟨t,ts.toArray,by rw[kj,hu];rfl,⟨o,kp _ _ e2,e3⟩,intsAre_of r2⟩
 refine Om pL.isList nofun nofun (q:=pst k j) nofun (λs' kp=>Ko k7 jk hl (T0 s' kp) hi) λD' h' c hD kp e=>?_;have hf:H1 D'=a8:=I1.hok.fresh hD;have vv:=Vals.pick rv (pst k j) (λi h=>by rw[hlen];exact pl i h);have zz:((pst k j).map λi=>xs.getD i .non).length<=ak:=by rw[xf,f2,b8];omega
 have I4:=I1.laid (t':=s1.toks) (o:=.lst ((pst k j).map λi=>xs.getD i .non)) kp hD ⟨zz,_,c,vv,e⟩;refine⟨.ref D',_,I4,rfl,q _ _ _ (g1.trans (j8 hf)) (g1.free hf) jb ?_⟩;have en2:=j5.pick en (pst k j) (λi h=>by rw[xf];exact pl i h);have e3:((pst k j).map λi=>(l.map λk=>D.tup (k.map D.int)).getD i .non)=((pst k j).map λi=>l.getD i []).map λk=>D.tup (k.map D.int):=by rw[Xc];refine t7 λi h=>?_;have:=pl i h;simp only[bY,kj,xq,kh this];rfl
 rw[e3]at en2;exact(en2.mono (j8 hf)).hide (λc hc=>by
  rcases xj.mp hc with z|z
  .rw[z];exact .inl ⟨_,jb⟩
  .exact .inl ((R.grow (g1.trans (j8 hf))).owned c z)) (Bc _)
end
end L2
end
section
namespace L2
open PySem PySem.Spec PyProof.Rows
def Wx(K:k83)(a:ae)(ks:List (List Int))(ns:List Int)(F H:Hp):Prop:=∃(xs:List (List Int×ae×aa)) (ep:Nat),H=upd F a (.dI xs ep)/\F a=a8/\ks=(xs.map λz=>z.1)/\(∀z∈xs,SqT K F z.2.1 (z.1.map V.int))/\Vals (ns.map V.int) (xs.map λz=>z.2.2)
def spD(K:k83)(S:List (List Int)->List Int->List D->D->List (List Int)->List Int->Prop):Sp:=λvs H Q _=>∃(a:ae)(F:Hp)(ks:List (List Int)) (ns:List Int) (ds:List D) (d:D) (ks':List (List Int)) (ns':List Int) (ws:List V),
 vs=.ref a::ws/\TabOk K F/\Wx K a ks ns F H/\j5 K F ds ws/\S ks ns ds d ks' ns'/\∀v F' H',j4 F F'->Wx K a ks' ns' F' H'->Enc K F' d v->Q v H'
structure CalD(X:Cx)(x:ah)(S:List (List Int)->List Int->List D->D->List (List Int)->List Int->Prop):Prop where
 ex:∃(k:Nat)(f:ae)(fd:aJ)(ps:List ah),FnOk X.prog X.w X.K X.mg X.base CX0 k f fd ps (spD X.K S)/\Room (k+1) X.A/\X.mg x=a5 (.ref f)/\W.keepIn X.K (.ref f)=a7/\Binds X.K fd ps []
def DDb(X:Cx)(ρ:Rho)(sts:List aN)(a:ae)(ks:List (List Int))(ns:List Int)(d:D)(ks':List (List Int))(ns':List Int):Prop:=∀σ F H E,Rep X.K ρ σ F->Wx X.K a ks ns F H ->
 (∀v F' H',j4 F F'->Wx X.K a ks' ns' F' H'->Enc X.K F' d v->E.rt v H')->Zn X sts E σ H
section
variable{P:ar}{w:aA}{K:k83}{mg:k86}{base:aG}{x qual:ah}{st:aN}{f:ae}{fd:aJ}{N ps:List ah}{n:Nat}
theorem jl9{S:List (List Int)->List Int->List D->D->List (List Int)->List Int->Prop}(F:Fun K x qual st f fd)(Sc:FnScope N ps (j0 st))(hl:∀ks ns ds d ks' ns',S ks ns ds d ks' ns'->ds.length+1=ps.length)
  (hbody:∀(cdv:aa)(A:aC)(outer:List cI)(s:af)(H:Hp)(E:XK),Vu K f cdv->Room n (A.deeper (bB qual (j0 st) s.heap.objs.size f cdv))->∀a ks ns ds d ks' ns',S ks ns ds d ks' ns' ->
   DDb (q8 CX0 P w K mg base N qual (j0 st) f cdv A outer s H E).nox (startM N a ds) (jc st) a ks ns d ks' ns'):FnOk P w K mg base CX0 (n+1) f fd ps (spD K S):=by
 refine F.okC Sc (λvs H Q E ⟨a,F0,ks,ns,ds,d,ks',ns',ws,e,tb,dc,en,hS,_⟩=>by rw[e,X4,en.length];exact hl _ _ _ _ _ _ hS) λcdv A outer s H vs Q E hcv hr ⟨a,F0,ks,ns,ds,d,ks',ns',ws,e,tb,dc,en,hS,q⟩=>⟨_,V1,?_⟩
 subst e;exact hbody cdv A outer s H E hcv hr a ks ns ds d ks' ns' hS _ F0 H _ (U6 tb en) dc λv F' H' g dc' en'=>q v F' H' g dc' en'
end
end L2
end
section
namespace L2
open PySem PySem.Spec PySem.Calls PyProof.Rows
section
variable{prog:ar}{w:aA}{A:aC}{E:k84}{s:af}{l:ae}{o:cF}{vs:List aa}{n:Nat}{T:String}
noncomputable def Wr(h:aG)(vs:List aa):aG:=(h.push (b9 "list" #[] 0)).update h.objs.size (aZ (· ++ vs.toArray))
theorem Ck(h:aG)(vs:List aa):(Wr h vs).objs.size=h.objs.size+1:=by unfold Wr;rw[iY,size_push']
theorem jd2 (h:aG):∃c,(Wr h vs).get? h.objs.size=a5 (b9 "list" (#[]++vs.toArray) c):=⟨_,gE (Xa _ rfl) _⟩
theorem j3h {Q:List aa->af->Prop} (hT:T = "list"\/T = "tuple") (ho:s.heap.get? l=a5 o) (hc:o.cls=.type T) (hd:o.data=.seq vs.toArray n) (hz:vs.length<=ak) (h:Q vs { s with heap:=Wr s.heap vs }) :
  ax (au prog w) A (collect (.ref l)) Q E s:=by
 unfold collect;refine ai (wpAny_runValue (gD entry_proto_collect' ?_));refine ai (fm (az ⟨Code.quiet_builtin _ (by decide +kernel),gD entry_list_iadd' ?_⟩));have ld:ax (au prog w) A (load s.heap.objs.size >>= λo=>match o.data with
   |.seq xs _=>pure xs.toList
   |_=>unsupported "internal:collect") Q E { s with heap:=Wr s.heap vs }:=by
  obtain⟨c,hc⟩:=jd2 (vs:=vs) s.heap;refine ai (wpAny_load hc (az ?_));rw[show((#[]:Array aa)++vs.toArray).toList=vs by simp];exact h
 refine aW (wpAny_extend_seq (A:=A) (hsz:=by simpa using hz) (R:=λr s'=>r=.ok (.ret (.ref s.heap.objs.size))/\s'={ s with heap:=Wr s.heap vs }) (s:={ s with heap:=s.heap.push (b9 "list" #[] 0) }) _ l _ 0 hT (Xa _ rfl) (xu _ ho) hc hd ⟨rfl,rfl⟩) (λf s' z=>?_) λe s' z=>absurd z.1 (by simp);cases f with
 |done f=>obtain⟨e,rfl⟩:=z;cases e;exact ld
 |again c=>exact⟨z.1,cg z.2 λr s2 hr=>by obtain⟨rfl,rfl⟩:=hr;exact ld⟩
theorem j2k {ss:List ah} {Q:k84} (hT:T = "list"\/T = "tuple") (ho:s.heap.get? l=a5 o) (hc:o.cls=.type T) (hd:o.data=.seq vs.toArray n) (hS:iP vs ss) (h64:vs.length<64)
  (h:∀D h' c out ss',s.heap.objs.size<=D->(∀b u,s.heap.get? b=a5 u->h'.get? b=a5 u)->h'.get? D=a5 (b9 "list" out c)->iP out.toList ss'->ss'.Perm ss->sortedS ss'=a7->Q (.ref D) { s with heap:=h' }) :
  ax (au prog w) A (call (.builtin "sorted") [.ref l]) Q E s:=by
 have hz:vs.length<=ak:=by rw[b8];omega
 refine gb kind_sorted plain_sorted entry_sorted (args_sorted1 _) ?_;unfold dh.«sorted»;refine ai (m:=checkCount "sorted" 1 1 _) (az ?_);refine ai (j3h hT ho hc hd hz ?_);refine ai (fm ?_ hz);show ax _ _ _ _ _ { s with heap:=(Wr s.heap vs).push (b9 "list" vs.toArray 0) };have oL:((Wr s.heap vs).push (b9 "list" vs.toArray 0)).get? (s.heap.objs.size+1)=a5 (b9 "list" vs.toArray 0):=by rw[<-Ck s.heap vs];exact Xa _ rfl
 dsimp only;rw[Ck];refine ai (dO (cS m7 ⟨_,oL,rfl⟩ lJ (list_sort_treeK strKind_oneLt oL hS.keysOf (λv₁ v₂ rest e=>keyKind_strs (by rw[<-e];exact hS)) h64 λst' a1 a2=>⟨_,rfl,az ⟨_,rfl,?_⟩⟩) (m9 _)));obtain⟨ss',h1,h2,h3⟩:=sorted_out_str hS a1 a2;obtain⟨e,he⟩:=sortedAll_at s.heap vs ((kz st').map (·.2));exact h _ _ e _ ss' (Xv _) (λb u z=>sortedAll_old z) he h1 h2 h3
end
def leS(a b:ah):Prop:=a.cps.toList<=b.cps.toList
noncomputable def Fd(a:ah):List ah->List ah
 |[]=>[a]
 |b::l=>if b.cps.toList<a.cps.toList then b::Fd a l else a::b::l
noncomputable def Qx:List ah->List ah
 |[]=>[]
 |a::l=>Fd a (Qx l)
theorem Dv{a b c:ah}(h:leS a b)(g:leS b c):leS a c:=List.le_trans h g
theorem Ej{a b:ah}(h:leS a b)(g:leS b a):a=b:=by have e:=List.le_antisymm h g;cases a;cases b;exact congrArg Str.mk (Array.toList_inj.mp e)
theorem Wc(a:ah):∀l,(Fd a l).Perm (a::l)
 |[]=>dG _
 |b::l=>by
  unfold Fd;split
  .exact((Wc a l).cons b).trans (ik ..)
  .exact dG _
theorem Q5:∀l,(Qx l).Perm l
 |[]=>dG _
 |a::l=>(Wc a _).trans ((Q5 l).cons a)
theorem j1u{a:ah}:∀{l:List ah},l.Pairwise leS->(Fd a l).Pairwise leS
 |[],_=>gG ..
 |b::l,h=>by
  obtain⟨h1,h2⟩:=List.pairwise_cons.mp h;unfold Fd;split
  .rename_i z;refine List.pairwise_cons.mpr ⟨λc hc=>?_,j1u h2⟩;rcases xj.mp ((Wc a l).mem_iff.mp hc)with e|e
   .rw[e];exact List.le_of_lt z
   .exact h1 c e
  .rename_i z;have z:leS a b:=List.not_lt.mp z;refine List.pairwise_cons.mpr ⟨λc hc=>?_,h⟩;rcases xj.mp hc with e|e
   .rw[e];exact z
   .exact Dv z (h1 c e)
theorem R8:∀l,(Qx l).Pairwise leS
 |[]=>.nil
 |_::l=>j1u (R8 l)
theorem Dm:∀(p:ah)(l:List ah),risingS p l=a7->(p::l).Pairwise leS
 |p,[],_=>gG ..
 |p,x::r,h=>by
  have h:(!ltCps x.cps.toList p.cps.toList&&risingS x r)=a7:=h;rw[X8,ltCps_eq]at h;have z:leS p x:=List.not_lt.mp (by simpa using h.1);have q:=Dm x r h.2;refine List.pairwise_cons.mpr ⟨λc hc=>?_,q⟩;rcases xj.mp hc with e|e
  .rw[e];exact z
  .exact Dv z ((List.pairwise_cons.mp q).1 c e)
theorem j45:∀{l:List ah},sortedS l=a7->l.Pairwise leS
 |[],_=>.nil
 |x::r,h=>Dm x r h
theorem jb0{l m:List ah}(h:m.Perm l)(hm:sortedS m=a7):m=Qx l :=
 fJ (λ_ _ _ _ a b=>Ej a b) (j45 hm) (R8 l) (h.trans (Q5 l).symm)
theorem j6v{l m:List ah}:Qx l=Qx m↔l.Perm m :=
 ⟨λh=>((Q5 l).symm.trans (by rw[h])).trans (Q5 m),λh=>fJ (λ_ _ _ _ a b=>Ej a b) (R8 l) (R8 m) (((Q5 l).trans h).trans (Q5 m).symm)⟩
theorem U5:∀{ts:List ah}{us:List aa},Vals (ts.map V.str) us->iP us ts
 |[],_,h=>by cases h;exact .nil
 |t::ts,_,h=>by
  cases h with
  |cons r h =>obtain⟨k,rfl⟩:=r;exact .cons t k (U5 h)
theorem Ux:∀{ts:List ah}{us:List aa},iP us ts->Vals (ts.map V.str) us
 |_,_,.nil=>.nil
 |_,_,.cons y t h=>.cons ⟨t,rfl⟩ (Ux h)
theorem M5:∀l:List ah,jq (l.map D.str)=a7
 |[]=>rfl
 |_::l=>by show(vy _&&jq _)=a7;rw[M5 l];rfl
theorem j01{K:k83}{H:Hp}:∀l:List ah,j5 K H (l.map D.str) (l.map V.str)
 |[]=>rfl
 |_::l=>⟨_,_,rfl,rfl,j01 l⟩
section
variable{X:Cx}{ρ:Rho}{a:aj}{p pos:aO}
theorem DO.sortedS {l:List ah} {d:D} (hd:d=.lst (l.map D.str)\/d=.tup (l.map D.str)) (h64:l.length<64) (hm:X.mg "sorted" = a8) (hg:Gl X "sorted") (ha:DT X ρ a d) (hs:a9 [a] X.env=[(a6,aE a X.env)]) :
  DO X ρ (.Call (.Name "sorted" p) [a] [] pos) ((Qx l).map D.str):=λσ H Q R q pins s I=>by
 refine br (Zy I hg hm boot_sorted ?_);refine callWith_builtin1 (thn ((j9 (es:=[]) peS jm hs).to (σ:=σ) (H:=H) (Q:=λvs H1=>∃v,vs=[v]/\j4 H H1/\Enc X.K H1 d v) (ha σ H _ R λv H1 g1 e1=>⟨v,rfl,g1,e1⟩) pos pins s I) λus s1 ⟨vs,H1,I1,r1,v,ev,g1,e1⟩=>?_) hs rfl;subst ev;have key:∃(b:ae)(T:String)(o:cF)(its:List aa)(n:Nat),v=.ref b/\(T = "list"\/T = "tuple")/\s1.heap.get? b=a5 o/\o.cls=.type T/\o.data=.seq its.toArray n/\iP its l:=by
  rcases hd with e|e
  .subst e;obtain⟨b,xs,eb,sq,en⟩:=e1;rw[Y7 en]at sq;obtain⟨its,rv,⟨o,n,h1,h2,_,h3⟩,_⟩:=I1.list sq;exact⟨b,_,o,its,n,eb,.inl rfl,h1,h2,h3,U5 rv⟩
  .subst e;obtain⟨b,xs,eb,sq,en⟩:=e1;rw[Y7 en]at sq;obtain⟨its,rv,⟨o,h1,h2,n,h3⟩,_⟩:=I1.tuple sq;exact⟨b,_,o,its,n,eb,.inr rfl,h1,h2,h3,U5 rv⟩
 obtain⟨b,T,o,its,n,eb,hT,h1,h2,h3,hS⟩:=key;subst eb;obtain⟨u,eu,ru⟩:=r1.one;subst eu;cases(show u=aH b from ru);refine j2k hT h1 h2 h3 hS (by rw[hS.length];exact h64) λD' h' c out ss' hD kp e hS' hp hm'=>?_;have hf:H1 D'=a8:=I1.hok.fresh hD;have es:=jb0 hp hm';subst es;have vv:=Ux hS';have zz:((Qx l).map V.str).length<=ak:=by rw[xf,(Q5 l).length_eq,b8];omega
 have I4:=I1.laid (t':=s1.toks) (o:=.lst ((Qx l).map V.str)) kp hD ⟨zz,_,c,vv,by rw[e]⟩;refine⟨.ref D',_,I4,rfl,q _ _ _ (g1.trans (j8 hf)) (g1.free hf) jb (j01 _)⟩
end
end L2
end
section
namespace L2
open PySem PySem.Spec PyProof.Rows
theorem Rep.forget{K:k83}{ρ:Rho}{σ:St}{H:Hp}(R:Rep K ρ σ H)(i:Nat):Rep K (ρ.set i .un) σ H:=by
 have q:=R.set_un (i:=i) (v:=(σ[i]?).join);have e:σ.set i ((σ[i]?).join)=σ:=by
  apply Pa;intro j;rw[cz];split
  .rename_i h;subst h;split
   .rename_i h;rw[kh h];rfl
   .rename_i h;rw[Xi nofun]
  .rfl
 rw[e]at q;exact q
theorem je1{α:Type}{l:List α}{i:Nat}{x:α}(h:l[i]?=a5 x):l.set i x=l:=by
 apply Pa;intro j;rw[cz];split
 .rename_i e;subst e;split
  .exact h.symm
  .rename_i z;rw[Xi nofun]at h;cases h
 .rfl
section
variable{X:Cx}{ρ:Rho}{tg it key e:aj}{σ:St}{H:Hp}{P:Po}{ds:List D}{x:Nat}{nx:ah}{rest:List aN}{p1 p2 p3 p4 p5 p6 p7:aO}
theorem j0p{A:List ae}{v:V}{Q Q':St->Hp->Prop}(hA:∀a∈A,Hq (H a))(h:Ie X tg v σ (del H A) Q')(hq:∀σ' F,Q' σ' F->(∀a∈A,F a=a8)->Q σ' (mrg A H F)):Ie X tg v σ H Q :=
 λpins s u I r=>thn (h _ s u (I.hideQ hA) r) λ_ s' ⟨σ',F,I',q⟩=>let ⟨n,I2⟩:=I.unhideQ hA I';⟨σ',_,I2,hq σ' F q n⟩
theorem DSs.smk(W:ae->Nat->Rho->List (ah×Int)->Prop)(rx:x<ρ.length)(hi:∀a,DI X (ρ.set x (.raw a dOb rfN)) tg it ds)(h0:∀a,W a 0 (ρ.set x (.raw a dOb rfN)) [])
  (hs:∀a i d ρ' kvs,ds[i]?=a5 d->W a i ρ' kvs->∃ρ2 k n,DG X ρ' tg d ρ2/\ρ2[x]?=a5 (.raw a dOb rfN)/\DT X ρ2 key (.str k)/\DT X ρ2 e (.int n)/\kvs.length<ak/\W a (i+1) ρ2 (dput kvs k n))
  (hd:∀a ρ' kvs,W a ds.length ρ' kvs->ρ'[x]?=a5 (.raw a dOb rfN)/\DSs X (ρ'.set x (.val (.sct kvs))) rest P)
  (hc:X.calm=a7) (hp:dY (au X.prog X.w) X.A X.env X.xe) (hN:X.N.Nodup) (hX:X.N[x]?=a5 nx) (lx:Loc X.env.scope nx) (fx:X.fn nx=a7\/X.env.scope.names.lookup nx=a5 .local)
  (dx:(nx==k87)=a6) (cx:(nx==k88)=a6)
  (s1:aP (.Dict [] [] p2) (a5 (.Name nx p1)) p3.line X.env=pure a6) (s3:aP e (a5 (.Subscript (.Name nx p4) key p5)) p6.line X.env=pure a6) (hf:∀x,aK it X.env x=pure x) :
  DSs X ρ (.Assign [.Name nx p1] (.Dict [] [] p2) p3::.For tg it [.Assign [.Subscript (.Name nx p4) key p5] e p6] [] p7::rest) P:=λσ H E R q=>by
 have vx:Vis X.env.scope nx:=lx.elim .inl λz=>.inr (.inl z);refine(Vj (W5 hN hX lx j7g s1 fx) (Vj (Ip hp hc piS pgS (j1g (Ir (J7 hX vx dx cx) peS peS s3)) hf) V1)).to ?_;intro a ha;have R0:Rep X.K (ρ.set x (.raw a dOb rfN)) (σ.set x (a5 (.ref a))) H:=R.set_rf;have sub0:∀b∈owns (ρ.set x (.raw a dOb rfN)),b∈owns ρ:=λb hb=>(je rfl).subset hb;refine j0o (A:=[a]) (R':=λJ F=>j4 H F/\Ys X.K (del F (owns (ρ.set x (.raw a dOb rfN)))) J ds) (λb hb=>.inr (.inr ⟨kvI [],by rw[X6.mp hb];exact jb⟩)) (by rw[Ui ha];exact hi a _ H _ R0 λJ F g ok=>⟨g,ok⟩) λJ F ⟨g,ok⟩ hn=>?_;rw[Rm jb];have fa:F a=a8:=hn a (by simp);refine⟨λi m σ' H'=>∃ρ' Fh kvs,H'=upd Fh a (.dK (kvI kvs))/\Fh a=a8/\Rep X.K ρ' σ' Fh/\j4 F Fh/\(∀b∈owns ρ',b∈owns (ρ.set x (.raw a dOb rfN)))/\W a i ρ' kvs/\m=ds.length-i/\i<=ds.length,
  ⟨ds.length,_,F,[],rfl,fa,R0.grow g,j4.refl _,λb hb=>hb,h0 a,rfl,Tc _⟩,?_⟩
 rintro i m σ' H' ⟨ρ',Fh,kvs,rfl,fha,R',gF,sub,w,rfl,hle⟩;have gU:j4 Fh (upd Fh a (.dK (kvI kvs))):=j8 fha;obtain⟨go,stop,yld⟩:=ok i (upd Fh a (.dK (kvI kvs))) (a::owns ρ') (λb o eb=>by
  obtain⟨nb,eb⟩:=of_del eb
  have nba:b≠a:=λz=>by rw[z,fa]at eb;cases eb
  rw[j6,jd nba]
  .exact gF b o eb
  .intro z
   rcases xj.mp z with z|z
   .exact nba z
   .exact nb (sub b z)) (λb hb=>by
  rcases xj.mp hb with z|z
  .rw[z,jb];simp
  .obtain⟨ys,eb⟩:=R'.owned b z
   rw[gU _ _ eb];simp)
 by_cases hlt:i<ds.length
 .obtain⟨ρ2,k,n,⟨subG,hG⟩,hx2,hK,hE,hl,w'⟩:=hs a i ds[i] ρ' kvs (kh hlt) w;refine .inr ⟨go hlt,λσ2 H2=>∃ρ2 Fh2 kvs2,H2=upd Fh2 a (.dK (kvI kvs2))/\Fh2 a=a8/\Rep X.K ρ2 σ2 Fh2/\j4 F Fh2/\(∀b∈owns ρ2,b∈owns (ρ.set x (.raw a dOb rfN)))/\W a (i+1) ρ2 kvs2,
   λσ2 H2 ⟨ρ2,Fh2,kvs2,z1,z2,z3,z4,z5,z6⟩=>⟨ds.length-(i+1),by omega,ρ2,Fh2,kvs2,z1,z2,z3,z4,z5,z6,rfl,hlt⟩,λv H2 yv=>?_⟩
  obtain⟨g2,en⟩:=yld v H2 yv;have en:=en _ (kh hlt);have h2a:H2 a=a5 (.dK (kvI kvs)):=g2 _ _ jb;have e2:H2=upd (del H2 [a]) a (.dK (kvI kvs)):=jam h2a;have f2a:del H2 [a] a=a8:=qw (by simp);have gF2:j4 Fh (del H2 [a]):=λb o eb=>by
   have nb:b≠a:=λz=>by rw[z,fha]at eb;cases eb
   rw[j6 (by simpa using nb)];exact g2 b o (gU b o eb)
  have en2:Enc X.K (del (del H2 [a]) (owns ρ')) ds[i] v:=by rw[Qu];exact en
  generalize del H2 [a]=F2 at e2 f2a gF2 en2;subst e2;have hq:∀{G:Hp},∀b∈[a],Hq (upd G a (.dK (kvI kvs)) b):=λ{G} b hb=>.inr (.inr ⟨kvI kvs,by rw[X6.mp hb];exact jb⟩);refine j0p (A:=[a]) (Q':=λσ3 F3=>F3=F2/\Rep X.K ρ2 σ3 F2) hq (by rw[Ui f2a];exact hG σ' F2 v _ (R'.grow gF2) en2 λσ3 R3=>⟨rfl,R3⟩) λσ3 F3 ⟨e3,R3⟩ hn3=>?_;subst e3;rw[Rm jb];show J5 X e σ3 (upd F3 a (.dK (kvI kvs))) _;refine Yl (A:=[a]) (Q':=λv F4=>j4 F3 F4/\Enc X.K F4 (.int n) v) hq (by rw[Ui f2a];exact hE _ F3 _ R3 λv F4 g e=>⟨g,e⟩) λv4 F4 ⟨g4,en4⟩ hn4=>?_;rw[Rm jb];have f4a:F4 a=a8:=hn4 a (by simp);refine⟨.ref a,(R3.raw x _ _ _ hx2).1,?_⟩;refine Yl (A:=[a]) (Q':=λv F5=>j4 F4 F5/\Enc X.K F5 (.str k) v) hq (by rw[Ui f4a];exact hK _ F4 _ (R3.grow g4) λv F5 g e=>⟨g,e⟩) λv5 F5 ⟨g5,en5⟩ hn5=>?_;rw[Rm jb];have f5a:F5 a=a8:=hn5 a (by simp);refine⟨a,kvs,k,n,rfl,jb,en5,en4,hl,?_⟩;rw[jal];exact⟨ρ2,F5,_,rfl,f5a,R3.grow (g4.trans g5),gF.trans (gF2.trans (g4.trans g5)),λb hb=>sub b (subG b hb),w'⟩
 .have e:i=ds.length:=by omega
  subst e;obtain⟨hx,hrest⟩:=hd a ρ' kvs w;refine .inl ⟨stop (X5 _),?_⟩;have R1:=R'.grow gU;have na:a∉owns ρ':=R'.fresh fha;have R2:=R1.set_val (i:=x) (d:=.sct kvs) (v:=.ref a) ⟨a,rfl,by rw[j6 na];exact jb⟩;rw[je1 (R1.raw x _ _ _ hx).1]at R2;refine hrest σ' _ E R2 (q.step λb o eb=>?_);obtain⟨nb,eb⟩:=of_del eb;rw[j6 λz=>nb (sub0 b (sub b ((je rfl).subset z)))];exact gU b o (gF b o (g b o eb))
end
mutual
noncomputable def Yn:D->Bool
 |.non=>a7
 |.bl _=>a7
 |.int _=>a7
 |.str _=>a7
 |.tup l=>Qd l
 |.lst l=>Qd l
 |_=>a6
noncomputable def Qd:List D->Bool
 |[]=>a7
 |d::l=>Yn d&&Qd l
end
mutual
noncomputable def flt:D->Bool
 |.non=>a7
 |.bl _=>a7
 |.int _=>a7
 |.str _=>a7
 |.tup l=>Yq l
 |_=>a6
noncomputable def Yq:List D->Bool
 |[]=>a7
 |d::l=>flt d&&Yq l
end
noncomputable def dkQ:HO->Bool
 |.dK _=>a7
 |_=>a6
def Ut(H H':Hp):Prop:=∀b o,H b=a5 o->dkQ o=a6->H' b=a5 o
theorem Ut.del{H H':Hp}{A:List ae}(g:Ut H H'):Ut (L2.del H A) (L2.del H' A):=λb o h n=>by obtain⟨nb,e⟩:=of_del h;rw[j6 nb];exact g b o e n
mutual
theorem Enc.monoK{K:k83}{H H':Hp}(g:Ut H H'):∀{d:D}{v:V},Yn d=a7->Enc K H d v->Enc K H' d v
 |.non,_,_,h=>h
 |.bl _,_,_,h=>h
 |.int _,_,_,h=>h
 |.str _,_,_,h=>h
 |.tup l,_,n,⟨a,xs,e,q,en⟩=>⟨a,xs,e,q.imp (my (λz=>g _ _ z rfl) λ⟨o,z⟩=>⟨o,g _ _ z rfl⟩) id,j5.monoK g n en⟩
 |.lst l,_,n,⟨a,xs,e,q,en⟩=>⟨a,xs,e,q.imp (my (λz=>g _ _ z rfl) λ⟨o,z⟩=>⟨o,g _ _ z rfl⟩) id,j5.monoK g n en⟩
 |.dct _ _,_,n,_=>by cases n
 |.sct _,_,n,_=>by cases n
 |.fn _ _,_,n,_=>by cases n
theorem j5.monoK{K:k83}{H H':Hp}(g:Ut H H'):∀{ds:List D}{xs:List V},Qd ds=a7->j5 K H ds xs->j5 K H' ds xs
 |[],_,_,h=>h
 |d::ds,_,n,⟨x,r,e,h,l⟩=>by have n:(Yn d&&Qd ds)=a7:=n;rw[X8]at n;exact⟨x,r,e,Enc.monoK g n.1 h,j5.monoK g n.2 l⟩
end
mutual
theorem Enc.hideQ{K:k83}{H:Hp}{A:List ae}(hA:∀a∈A,Hq (H a)):∀{d:D}{v:V},flt d=a7->Enc K H d v->Enc K (del H A) d v
 |.non,_,_,h=>h
 |.bl _,_,_,h=>h
 |.int _,_,_,h=>h
 |.str _,_,_,h=>h
 |.tup l,_,n,⟨a,xs,e,q,en⟩=>by
  have out:∀o,H a=a5 o->(∀ys,o≠.lst ys)->(∀ys ep,o≠.dI ys ep)->(∀ys,o≠.dK ys)->del H A a=a5 o:=λo z z1 z2 z3=>by
   rw[j6];exact z;intro y;rcases hA a y with ⟨ys,w⟩|⟨ys,ep,w⟩|⟨ys,w⟩
   .rw[z]at w;exact z1 ys (aw w)
   .rw[z]at w;exact z2 ys ep (aw w)
   .rw[z]at w;exact z3 ys (aw w)
  exact⟨a,xs,e,q.imp (my (λz=>out _ z (λ_ y=>by cases y) (λ_ _ y=>by cases y) λ_ y=>by cases y) λ⟨o,z⟩=>⟨o,out _ z (λ_ y=>by cases y) (λ_ _ y=>by cases y) λ_ y=>by cases y⟩) id,j5.hideQ hA n en⟩
 |.lst l,_,n,_=>by cases n
 |.dct _ _,_,n,_=>by cases n
 |.sct _,_,n,_=>by cases n
 |.fn _ _,_,n,_=>by cases n
theorem j5.hideQ{K:k83}{H:Hp}{A:List ae}(hA:∀a∈A,Hq (H a)):∀{ds:List D}{xs:List V},Yq ds=a7->j5 K H ds xs->j5 K (del H A) ds xs
 |[],_,_,h=>h
 |d::ds,_,n,⟨x,r,e,h,l⟩=>by have n:(flt d&&Yq ds)=a7:=n;rw[X8]at n;exact⟨x,r,e,Enc.hideQ hA n.1 h,j5.hideQ hA n.2 l⟩
end
noncomputable def Oz:Sl->Bool
 |.un=>a7
 |.val d=>Yn d
 |.own _ l=>Qd l
 |.raw _ _ _=>a6
noncomputable def Fo(b:Bool)(d:D):Sl:=match b with
 |true=>.val d
 |false=>.un
noncomputable def O3:Sl->Sl
 |.val d=>Fo (flt d) d
 |_=>.un
theorem TabOk.monoK{K:k83}{H H':Hp}(h:TabOk K H)(g:Ut H H'):TabOk K H':=λx hx c P e=>g _ _ (h x hx c P e) rfl
theorem Rep.monoK{K:k83}{ρ:Rho}{σ:St}{H H':Hp}(R:Rep K ρ σ H)(hp:ρ.all Oz=a7)(g:Ut H H'):Rep K ρ σ H':=by have at':∀{i s},ρ[i]?=a5 s->Oz s=a7:=λ{i s} h=>Xq.mp hp s (Xg h);exact⟨R.len,λi d e=>let ⟨v,q,h⟩:=R.val i d e;⟨v,q,h.monoK g.del (at' e)⟩,λi a ds e=>let ⟨q,xs,h,l⟩:=R.own i a ds e;⟨q,xs,g _ _ h rfl,l.monoK g.del (at' e)⟩,R.nd,λi a o x e=>(by have:=at' e;cases this),R.tb.monoK g⟩
theorem O2(ρ:Rho):owns (ρ.map O3)=[]:=by
 unfold owns;refine T8.mpr λs hs=>?_;obtain⟨t,_,rfl⟩:=Xn.mp hs;cases t with
 |val d =>show Sl.addr (Fo (flt d) d)=a8;cases flt d<;>rfl
 |_=>rfl
theorem j8k{ρ:Rho}{i:Nat}{d:D}(h:(ρ.map O3)[i]?=a5 (.val d)):ρ[i]?=a5 (.val d)/\flt d=a7:=by
 rw[xq]at h;cases e:ρ[i]? with
 |none=>rw[e]at h;cases h
 |some s =>
  rw[e]at h;cases s with
  |val d' =>
   have h:Fo (flt d') d'=.val d:=aw h;cases z:flt d' with
   |false=>rw[z]at h;cases h
   |true=>rw[z]at h;cases h;exact⟨rfl,z⟩
  |_=>cases h
theorem Rep.flat{K:k83}{ρ:Rho}{σ:St}{H:Hp}{A:List ae}(R:Rep K ρ σ H)(hA:∀a∈A,Hq (H a)):Rep K (ρ.map O3) σ (del H A):=by
 refine⟨by rw[R.len,xf],λi d e=>?_,λi a ds e=>?_,by rw[O2];exact gc,λi a o x e=>?_,λx hx c P e=>?_⟩
 .obtain⟨h,n⟩:=j8k e;obtain⟨v,q,en⟩:=R.val i d h;rw[O2,vf];exact⟨v,q,(en.mono jo).hideQ hA n⟩
 .have:=Ji e;rw[O2]at this;cases this
 .rw[xq]at e;cases z:ρ[i]? with
  |none=>rw[z]at e;cases e
  |some s =>
   rw[z]at e;cases s with
   |val d' =>have e:Fo (flt d') d'=.raw a o x:=aw e;cases z:flt d'<;>(rw[z]at e;cases e)
   |_=>cases e
 .have q:=R.tb x hx c P e;rw[j6];exact q;intro y;rcases hA _ y with ⟨ys,w⟩|⟨ys,ep,w⟩|⟨ys,w⟩<;>(rw[q]at w;cases w)
section
variable{X:Cx}{ρ:Rho}{it key e:aj}{σ:St}{H:Hp}{P:Po}{ds:List D}{t:Nat}{nt:ah}{st:aN}{rest:List aN}{p1 p2 p3 p4 p5:aO}
theorem DO.deep(h:DO X (ρ.map O3) e ds)(R:Rep X.K ρ σ H){Q:VK}(q:∀a xs H' F,j4 H H'->H a=a8->H' a=a5 (.lst xs)->j5 X.K F ds xs->j4 F H'->F a=a8->(∀b o,F b=a5 o->Hq (a5 o)->H b=a8)->Q (.ref a) H'):J5 X e σ H Q:=λpins s I=>by
 classical
 have⟨A,hA,inA⟩:∃A:List ae,(∀a∈A,Hq (H a))/\∀b,Hq (H b)->b∈A:=by refine⟨(aB s.heap.objs.size).filter λb=>decide (Hq (H b)),λa ha=>of_decide_eq_true (Td.mp ha).2,λb hb=>Td.mpr ⟨Xm.mpr ?_,decide_eq_true hb⟩⟩;refine Nat.lt_of_not_le λz=>?_;rw[show H b=a8 from I.hok.fresh z]at hb;rcases hb with ⟨_,w⟩|⟨_,_,w⟩|⟨_,w⟩<;>cases w
 refine Yl (A:=A) (Q':=λv F=>∃a xs,v=.ref a/\j4 (del H A) F/\del H A a=a8/\F a=a5 (.lst xs)/\j5 X.K (del F (a::owns (ρ.map O3))) ds xs) hA (h σ (del H A) _ (R.flat hA) λa xs F g n m en=>⟨a,xs,rfl,g,n,m,en⟩) (λv F ⟨a,xs,e,g,n,m,en⟩ hF=>?_) pins s I;subst e;have na:a∉A:=λz=>by rw[hF a z]at m;cases m
 have gm:j4 F (mrg A H F):=λb o z=>by rw[jf λy=>by rw[hF b y]at z;cases z];exact z
 have gH:j4 H (mrg A H F):=λb o z=>by
  by_cases y:b∈A
  .rw[vp y];exact z
  .rw[jf y];exact g b o (by rw[j6 y];exact z)
 rw[j6 na]at n;refine q a xs _ (del F [a]) gH n (gm _ _ m) (en.mono (vd λb hb=>by rw[X6.mp hb];exact xm)) (jo.trans gm) (qw (by simp)) λb o z hb=>?_;obtain⟨_,z⟩:=of_del z;cases y:H b with
 |none=>rfl
 |some u =>
  have nb:b∉A:=λw=>by rw[hF b w]at z;cases z
  have:=g b u (by rw[j6 nb];exact y);rw[z]at this;exact absurd (inA b (by rw[y,<-this];exact hb)) nb
theorem j1o:∀{a b:List (ah×Int)},kvI a=kvI b->a=b
 |[],[],_=>rfl
 |[],_::_,h=>by cases h
 |_::_,[],h=>by cases h
 |(x,i)::a,(y,j)::b,h=>by have h:((bC x:Key),V.int i)::kvI a=((bC y:Key),V.int j)::kvI b:=h;injection h with h1 h2;injection h1 with h3 h4;injection h3 with h3;injection h4 with h4;rw[h3,h4,j1o h2]
theorem DSs.turn{rows:List (List (ah×Int))}(W:Nat->Rho->Prop)(hnd:rows.Nodup)(hi:DO X (ρ.map O3) it (rows.map D.sct))(h0:W 0 ρ)
  (hs:∀i kvs ρ',rows[i]?=a5 kvs->W i ρ'->t<ρ'.length/\ρ'.all Oz=a7/\∃k n,DT X (ρ'.set t (.val (.sct kvs))) key (.str k)/\DT X (ρ'.set t (.val (.sct kvs))) e (.int n)/\kvs.length<ak /\
   DS X (ρ'.set t (.val (.sct (dput kvs k n)))) st { nx:=λρ2=>W (i+1) (ρ2.set t .un),rt:=λ_=>False })
  (hd:∀ρ',W rows.length ρ'->DSs X ρ' rest P)
  (hc:X.calm=a7) (hp:dY (au X.prog X.w) X.A X.env X.xe) (hN:X.N.Nodup) (hT:X.N[t]?=a5 nt) (lt:Loc X.env.scope nt) (ft:X.fn nt=a7\/X.env.scope.names.lookup nt=a5 .local)
  (dt:(nt==k87)=a6) (ct:(nt==k88)=a6) (s3:aP e (a5 (.Subscript (.Name nt p2) key p3)) p4.line X.env=pure a6) (hf:∀x,aK it X.env x=pure x) :
  DSs X ρ (.For (.Name nt p1) it [.Assign [.Subscript (.Name nt p2) key p3] e p4,st] [] p5::rest) P:=λσ H E R q=>by
 have vt:Vis X.env.scope nt:=lt.elim .inl λz=>.inr (.inl z);refine(Vj (Ip hp hc (j1i peS) (Rh hN hT lt ft) (Vj (Ir (J7 hT vt dt ct) peS peS s3) (j1g psS)) hf) V1).to ?_;refine DO.deep hi R λa xs H1 F g na m en gF fa fr=>?_;have hlen:xs.length=rows.length:=by rw[en.length,xf]
 have item:∀{j kvs},rows[j]?=a5 kvs->∃b,xs[j]?=a5 (V.ref b)/\F b=a5 (.dK (kvI kvs))/\H b=a8:=λ{j kvs} h=>by obtain⟨v,hv,b,eb,hb⟩:=en.get (i:=j) (d:=.sct kvs) (by rw[xq,h];rfl);subst eb;exact⟨b,hv,hb,fr b _ hb (.inr (.inr ⟨_,rfl⟩))⟩
 refine⟨a,rfl,⟨xs,SqL.of m⟩,j8i (xs:=xs) (λi σ' H'=>∃ρ',W i ρ'/\Rep X.K ρ' σ' H'/\Fr0 ρ ρ' H H'/\H' a=a5 (.lst xs)/\a∉owns ρ'/\∀j kvs b,i<=j->rows[j]?=a5 kvs->xs[j]?=a5 (V.ref b)->H' b=a5 (.dK (kvI kvs))) ?_ ?_ ?_ ?_⟩
 .exact⟨ρ,h0,R.grow g,.grow g,m,R.fresh na,λj kvs b _ h1 h2=>by
   obtain⟨b',e1,e2,_⟩:=item h1
   rw[h2]at e1;cases e1
   exact gF _ _ e2⟩
 .rintro i σ' H' _ ⟨ρ',_,_,_,z,_⟩;exact SqL.of z
 .rintro i v σ' H' hv ⟨ρ',w,R',f,ma,nao,hb⟩;have hlt:i<rows.length:=by rw[<-hlen];exact(X3.mp hv).1
  have hr:=kh hlt;obtain⟨b,e1,eF,hbn⟩:=item hr;rw[hv]at e1;cases e1;have hb0:=hb i _ b (X5 _) hr hv;obtain⟨htl,hpl,k,n,hK,hE,hl,hst⟩:=hs i _ ρ' hr w;generalize rows[i]=kvs at *;have no:∀{c H'' kv},Rep X.K ρ' σ' H''->H'' c=a5 (.dK kv)->c∉owns ρ':=λ{c H'' kv} R2 hc z=>by obtain⟨ys,y⟩:=R2.owned c z;rw[hc]at y;cases y
  have Rt:Rep X.K (ρ'.set t (.val (.sct kvs))) (σ'.set t (a5 (.ref b))) H':=R'.set_val ⟨b,rfl,by rw[j6 (no R' hb0)];exact hb0⟩;show J5 X e (σ'.set t (a5 (.ref b))) H' _;refine hE _ H' _ Rt λv4 H2 g2 en4=>⟨.ref b,Q7 (by rw[R'.len];exact htl),?_⟩
  refine hK _ H2 _ (Rt.grow g2) λv5 H3 g3 en5=>⟨b,kvs,k,n,rfl,(g2.trans g3) _ _ hb0,en5,en4,hl,?_⟩
  have g23:=g2.trans g3;have hb3:=g23 _ _ hb0;have RK:Rep X.K ρ' σ' (upd H3 b (.dK (kvI (dput kvs k n)))):=(R'.grow g23).monoK hpl λc o z nd=>by rw[jd];exact z;intro y;rw[y,hb3]at z;cases z;cases nd
  have R4:Rep X.K (ρ'.set t (.val (.sct (dput kvs k n)))) (σ'.set t (a5 (.ref b))) (upd H3 b (.dK (kvI (dput kvs k n)))):=RK.set_val ⟨b,rfl,by rw[j6 (no (R'.grow g23) hb3)];exact jb⟩;refine hst _ _ _ R4 ⟨λρ2 σ2 H4 n2 R5 f5=>?_,λ_ _ _ z=>z.elim,λ_ _ _ z=>z.elim,λ_ _ _ z=>z.elim,λ_ _ _ _ z=>z.elim⟩;have stay:∀c o,H' c=a5 o->c≠b->c∉owns ρ'->del H4 (owns ρ2) c=a5 o:=λc o z nb nc=>f5 c o (by
   rw[j6 λy=>nc ((je rfl).subset y),jd nb];exact g23 _ _ z)
  have nab:a≠b:=λz=>by rw[z,hb0]at ma;cases ma
  obtain⟨na2,ma2⟩:=of_del (stay a _ ma nab nao);refine⟨ρ2.set t .un,n2,R5.forget t,λc u z=>?_,ma2,λz=>na2 ((je rfl).subset z),λj kvs' b' hj h1 h2=>?_⟩
  .obtain⟨nc,z2⟩:=of_del (f c u z);have nb:c≠b:=λy=>by obtain⟨_,z⟩:=of_del z;rw[y,hbn]at z;cases z
   obtain⟨n3,z3⟩:=of_del (stay c u z2 nb nc);rw[j6 λy=>n3 ((je rfl).subset y)];exact z3
  .obtain⟨b2,e2,eF2,_⟩:=item h1;rw[h2]at e2;cases e2;have hb':=hb j kvs' b' nofun h1 h2;have nb:b'≠b:=λy=>by subst y;rw[eF]at eF2;have e:=j1o (by injection eF2 with z;injection z);subst e;obtain⟨i1,i2⟩:=X3.mp hr;obtain⟨j1,j2⟩:=X3.mp h1;exact List.pairwise_iff_getElem.mp hnd i j i1 j1 nofun (by rw[i2,j2])
   exact(of_del (stay b' _ hb' nb (no R' hb'))).2
 .rintro σ' H' ⟨ρ',w,R',f,_⟩;rw[hlen]at w;exact hd ρ' w σ' H' E R' (q.step f)
end
end L2
end
section
namespace L2
noncomputable def step(acc:List (List Int))(f:List Int):List (List Int):=acc.flatMap λa=>f.map λx=>a++[x]
noncomputable def zu(fs:List (List Int)):List (List Int):=fs.foldl step [[]]
noncomputable def U7:List (List Int)->List (List Int)
 |[]=>[[]]
 |f::fs=>f.flatMap λx=>(U7 fs).map (x :: ·)
theorem Bs:∀(fs:List (List Int)) (acc:List (List Int)),fs.foldl step acc=acc.flatMap λa=>(U7 fs).map (a ++ ·)
 |[],acc=>by simp[U7]
 |f::fs,acc=>by
  rw[Tg,Bs fs,step,List.flatMap_assoc];congr 1
  funext a
  rw[U7,List.map_flatMap,List.flatMap_map];congr 1
  funext x
  rw[Xc];congr 1
  funext r
  simp
theorem j3j(fs:List (List Int)):zu fs=U7 fs:=by rw[zu,Bs];simp
noncomputable def Qy:Nat->List (List Int)
 |0=>[[]]
 |m+1=>(Qy m).map (0 :: ·)++(Qy m).map (1 :: ·)
theorem Uh{b:Int}(hb:0<b)(n c:Int):∀{i m:Nat},i<=m->jz b i (n+b^m*c)=jz b i n
 |0,m,_=>rfl
 |i+1,m,h=>by
  rw[jz,jz,Uh hb n c nofun];congr 1;obtain⟨k,rfl⟩:∃k,m=i+(k+1):=⟨m-i-1,by omega⟩
  have hp:b^i≠0:=l9 (dm hb);rw[Int.pow_add,gL,i8 _ _ hp,dQ,dR (b^k) b,gL,Int.add_mul_emod_self_left]
theorem Ij:∀m:Nat,(aB (2^m)).map (λn=>jz 2 m ((n:Nat):Int))=Qy m
 |0=>rfl
 |m+1=>by
  have e:2^(m+1)=2^m+2^m:=by rw[hR];omega
  rw[e,List.range_add,Xl,Qy,<-Ij m,Xc,Xc,Xc];have pc:((2^m:Nat):Int)=(2:Int)^m:=by simp
  congr 1
  .apply t7;intro n hn;have hn':n<2^m:=Xm.mp hn;show jz 2 (m+1) (n:Int)=0::jz 2 m (n:Int);rw[jz];congr 1;have h0:(n:Int)/2^m=0:=cC nofun (by rw[<-pc];omega)
   rw[h0];rfl
  .apply t7;intro n hn;have hn':n<2^m:=Xm.mp hn;show jz 2 (m+1) ((2^m+n:Nat):Int)=1::jz 2 m (n:Int);have e1:((2^m+n:Nat):Int)=(n:Int)+2^m*1:=by rw[Int.natCast_add,pc,lM,i0]
   rw[e1,jz,Uh (by decide) _ _ (X5 m)];congr 1;have hp:(2:Int)^m≠0:=l9 (dm (by decide));have h0:(n:Int)/2^m=0:=cC nofun (by rw[<-pc];omega)
   rw[i8 _ _ hp,h0];rfl
end L2
end
section
namespace L2
open PySem
inductive Sv where
 |un
 |val (d:D)
 |own (l:List D)
 |exc (x:ah)
noncomputable abbrev En:=List Sv
set_option genInjectivity true in
inductive Rk where
 |e (d:D)
 |o (l:List D)
 |w (l:List D)
 |t (d:D)
noncomputable def Rk.d:Rk->D
 |.e d=>d
 |.o l=>.lst l
 |.w l=>.lst l
 |.t d=>d
noncomputable def Rk.st:Rk->Option D
 |.e d=>a5 d
 |.o l=>a5 (.lst l)
 |.w l=>a8
 |.t d=>if vy d=a7 then a5 d else a8
noncomputable def Rk.sq:Rk->Option (Bool×List D)
 |.e (.lst l)=>a5 (a7,l)
 |.e (.tup l)=>a5 (a6,l)
 |.o l=>a5 (a7,l)
 |.w l=>a5 (a7,l)
 |_=>a8
noncomputable def Rk.lw:Rk->Option (List D)
 |.o l=>a5 l
 |.w l=>a5 l
 |_=>a8
inductive Rc where
 |val (d:D)
 |fresh (l:List D)
 |err (x:ah)
 |lval (d:D)
 |mval (d:D) (k:Nat)
 |merr (x:ah)
 |dval (d:D) (ks:List (List Int)) (ns:List Int)
 |no
noncomputable def Rc.rk:Rc->Option Rk
 |.val d=>a5 (.e d)
 |.fresh l=>a5 (.o l)
 |_=>a8
inductive Bop where
 |add|sub|mul|fdiv|mod|pow|shl|shr|band|bxor
inductive Cop where
 |lt|le|gt|ge|eq|ne|isin|notin
inductive Bf where
 |len|min|max|all|tuple|list|sum|int|any|sorted
inductive Ex where
 |lit (d:D)
 |var (i:Nat)
 |glob (x:ah)
 |bin (op:Bop) (a b:Ex)
 |cmp (op:Cop) (a b:Ex)
 |isN (a:Ex)
 |and (a b:Ex)
 |or (a b:Ex)
 |not (a:Ex)
 |nil
 |cons (a b:Ex)
 |tup (es:Ex)
 |lst (es:Ex)
 |ix (a b:Ex)
 |sl (a lo hi:Ex)
 |call (f:ah) (es:Ex)
 |blt (f:Bf) (es:Ex)
 |isi (a:Ex) (ts:List String)
 |comp (is:List Nat) (elt it cond:Ex)
 |seq (a:Ex)
 |range (es:Ex)
 |fst (es:Ex)
 |isx (i:Nat) (cs:List ah)
 |join (sep:ah) (a:Ex)
 |enum (a:Ex)
 |srt (a:Ex)
 |tix (a b:Ex)
 |dix (a b:Ex)
 |rpr (a:Ex)
 |exc (a:Ex)
 |dget (a b:Ex)
set_option genInjectivity true in
inductive W where
 |v (r:Rk)
 |a (rs:List Rk)
 |i (ds:List D)
noncomputable def jl(n:Nat):Bool:=decide (n<=ak)
noncomputable def binI:Bop->Int->Int->Option Int
 |.add,i,j=>a5 (i+j)
 |.sub,i,j=>a5 (i-j)
 |.mul,i,j=>if (-(2^64)<i/\i<2^64)\/(-(2^64)<j/\j<2^64)then a5 (i*j)else a8
 |.fdiv,i,j=>if 0<j/\j<18446744073709551616 then a5 (i/j)else a8
 |.mod,i,j=>if 0<j then a5 (i%j)else a8
 |.pow,i,j=>if 0<=j/\j<=1000000/\i.natAbs<2^64 then a5 (i^j.toNat)else a8
 |.shl,i,j=>if 0<=j/\j<=1000000/\i.natAbs<2^64 then a5 (i*2^j.toNat)else a8
 |.shr,i,j=>if 0<=j then a5 (i/2^j.toNat)else a8
 |.band,i,j=>a5 (Builtin.bitAnd i j)
 |.bxor,i,j=>a5 (Builtin.bitXor i j)
noncomputable def Uo(op:Bop)(a b:Rk):Option Rk :=
 match a.d,b.d with
 |.int i,.int j=>(binI op i j).map λk=>.e (.int k)
 |.str y,.str z=>match op with
  |.add=>if jl (y.length+z.length)=a7 then a5 (.e (.str (y++z)))else a8
  |_=>a8
 |.str y,.int k=>match op with
  |.mul=>if (1<=k/\k<=1000)/\y.length<=1000 then a5 (.e (.str (iG y k)))else a8
  |_=>a8
 |_,_=>match op,a.sq,b.sq,b.d with
  |.add,a5 (a7,l),a5 (a7,m),_=>if jl (l.length+m.length)=a7 then a5 (.o (l++m))else a8
  |.add,a5 (a6,l),a5 (a6,m),_=>if jl (l.length+m.length)=a7 then a5 (.e (.tup (l++m)))else a8
  |.mul,a5 (a6,l),_,.int k=>if 1<=k/\k<2^63/\l.isEmpty=a6/\jl (l.length*k.toNat)=a7 then a5 (.e (.tup (ao k.toNat l).flatten))else a8
  |.mul,_,_,.int k=>match a.lw with
   |some l=>if -(2^63)<=k/\k<2^63/\jl (l.length*k.toNat)=a7 then a5 (.o (ao k.toNat l).flatten)else a8
   |none=>a8
  |_,_,_,_=>a8
noncomputable def cmpI:Cop->Int->Int->Option Bool
 |.lt,i,j=>a5 (decide (i<j))
 |.le,i,j=>a5 (decide (i<=j))
 |.gt,i,j=>a5 (decide (j<i))
 |.ge,i,j=>a5 (decide (j<=i))
 |.eq,i,j=>a5 (decide (i=j))
 |.ne,i,j=>a5 (!decide (i=j))
 |_,_,_=>a8
noncomputable def D.sqv:D->Option (Bool×List D)
 |.lst l=>a5 (a7,l)
 |.tup l=>a5 (a6,l)
 |_=>a8
noncomputable def Jj(op:Cop)(a b:D):Option Bool :=
 match op,a,b with
 |op,.int i,.int j=>cmpI op i j
 |.eq,a,b=>if a.dep<=90/\b.dep<=90 then a5 (deq a b)else a8
 |.ne,.bl a,.bl b=>a5 (a != b)
 |.ne,.str a,.str b=>a5 (!decide (a=b))
 |.ne,.non,.non=>a5 a6
 |.ne,.lst l,.lst m=>if D.depL l<=90/\D.depL m<=90 then a5 (!zb l m)else a8
 |.ne,.tup l,.tup m=>if D.depL l<=90/\D.depL m<=90 then a5 (!zb l m)else a8
 |.isin,.str a,.str b=>a5 (inS a b)
 |.lt,.str a,.str b=>a5 (decide (a.cps.toList<b.cps.toList))
 |.gt,.str a,.str b=>a5 (decide (b.cps.toList<a.cps.toList))
 |.isin,a,b=>match b.sqv with
  |some (_,l)=>if D.depL l<=90/\a.dep<=90 then a5 (l.any λe=>deq e a)else a8
  |none=>a8
 |.notin,a,b=>match b.sqv with
  |some (_,l)=>if D.depL l<=90/\a.dep<=90 then a5 (!l.any λe=>deq e a)else a8
  |none=>a8
 |_,_,_=>a8
noncomputable def boolsOf:List D->Option (List Bool)
 |[]=>a5 []
 |.bl b::r=>(boolsOf r).map (b :: ·)
 |_::_=>a8
noncomputable def intsOf:List D->Option (List Int)
 |[]=>a5 []
 |.int b::r=>(intsOf r).map (b :: ·)
 |_::_=>a8
noncomputable def strsOf:List D->Option (List ah)
 |[]=>a5 []
 |.str b::r=>(strsOf r).map (b :: ·)
 |_::_=>a8
noncomputable def Z7:Bf->List Rk->Option Rk
 |.len,[a]=>match a.d with
  |.lst l=>a5 (.e (.int l.length))
  |.tup l=>a5 (.e (.int l.length))
  |.str y=>if jl y.length=a7 then a5 (.e (.int y.length))else a8
  |_=>a8
 |.min,[a,b]=>match a.d,b.d with
  |.int i,.int j=>a5 (.e (.int (if j<i then j else i)))
  |_,_=>a8
 |.max,[a,b]=>match a.d,b.d with
  |.int i,.int j=>a5 (.e (.int (if j>i then j else i)))
  |_,_=>a8
 |.max,[a]=>match a.d with
  |.lst l=>match intsOf l with
   |some ns=>if ns.isEmpty=a6 then a5 (.e (.int (Yo ns)))else a8
   |none=>a8
  |_=>a8
 |.min,[a]=>match a.d with
  |.lst l=>match intsOf l with
   |some ns=>if ns.isEmpty=a6 then a5 (.e (.int (W8 ns)))else a8
   |none=>a8
  |_=>a8
 |.all,[a]=>match a.d with
  |.lst l=>(boolsOf l).map λbs=>.e (.bl (bs.all id))
  |_=>a8
 |.any,[a]=>match a.d with
  |.lst l=>(boolsOf l).map λbs=>.e (.bl (bs.any id))
  |_=>a8
 |.tuple,[a]=>match a.sq with
  |some (_,l)=>a5 (.e (.tup l))
  |none=>a8
 |.list,[a]=>match a.sq with
  |some (_,l)=>a5 (.o l)
  |none=>a8
 |.sum,[a]=>match a.d with
  |.lst l=>(intsOf l).map λns=>.e (.int ns.sum)
  |.tup l=>(intsOf l).map λns=>.e (.int ns.sum)
  |_=>a8
 |.int,[a]=>match a.d with
  |.bl k=>a5 (.e (.int (if k then 1 else 0)))
  |.str y=>if y.length<=640 then(fW y).map λn=>.e (.int n)else a8
  |_=>a8
 |_,_=>a8
noncomputable def qy(t c:String):Option Bool :=
 if t = "function" then a8 else
 if c = "int" then a5 (t == "int" || t == "bool") else
 if c = "bool" then a5 (t == "bool") else
 if c = "str" then a5 (t == "str") else
 if c = "list" then a5 (t == "list") else
 if c = "tuple" then a5 (t == "tuple")else a8
noncomputable def jy(d:D):List String->Option Bool
 |[]=>a5 a6
 |c::cs=>match qy d.ty c,jy d cs with
  |some a,a5 b=>a5 (a || b)
  |_,_=>a8
noncomputable def v6:List Nat->D->En->Option En
 |[i],d,ρ=>a5 (ρ.set i (.val d))
 |[i,j],d,ρ=>match d with
  |.tup [a,b]=>a5 ((ρ.set i (.val a)).set j (.val b))
  |_=>a8
 |[i,j,k],d,ρ=>match d with
  |.tup [a,.tup [b,c]]=>a5 (((ρ.set i (.val a)).set j (.val b)).set k (.val c))
  |_=>a8
 |[i,j,k,_],d,ρ=>match d with
  |.tup [a,b,c]=>a5 (((ρ.set i (.val a)).set j (.val b)).set k (.val c))
  |_=>a8
 |_,_,_=>a8
noncomputable def Bq(is:List Nat)(ρ:En):Bool:=is.all λi=>match ρ[i]? with
 |some .un=>a7
 |_=>a6
noncomputable def Je(f:D->Option (Option D)):List D->Option (List D)
 |[]=>a5 []
 |d::ds=>match f d,Je f ds with
  |some (a5 x),a5 xs=>a5 (x::xs)
  |some a8,a5 xs=>a5 xs
  |_,_=>a8
noncomputable def v9:List Rk->Option (List D)
 |[]=>a5 []
 |r::rs=>match r.st,v9 rs with
  |some d,a5 ds=>a5 (d::ds)
  |_,_=>a8
noncomputable def W.one:W->Option Rk
 |.v r=>a5 r
 |_=>a8
noncomputable def W.args:W->Option (List Rk)
 |.a rs=>a5 rs
 |_=>a8
noncomputable def W.it:W->Option (List D)
 |.i ds=>a5 ds
 |_=>a8
noncomputable def Qc:Option W->Option (Option Int)
 |some (.a [])=>a5 a8
 |some (.a [r])=>match r.d with
  |.int i=>a5 (a5 i)
  |_=>a8
 |_=>a8
noncomputable def truth:Option W->Option Bool
 |some (.v r)=>match r.d with
  |.bl k=>a5 k
  |_=>a8
 |_=>a8
noncomputable def j8h:Ex->Option Nat
 |.seq (.var i)=>a5 i
 |.enum (.var i)=>a5 i
 |_=>a8
noncomputable def frz(t:Ex)(ρ:En):En:=match j8h t with
 |some i=>match ρ[i]? with
  |some (.own l)=>ρ.set i (.val (.lst l))
  |_=>ρ
 |none=>ρ
noncomputable def Jb(t:Ex)(ρ:En):Bool:=match j8h t with
 |some i=>match ρ[i]? with
  |some (.own _)=>a7
  |_=>a6
 |none=>a6
noncomputable def Jk:D->Option ah
 |.int i=>if -18446744073709551616<i/\i<18446744073709551616 then a5 (dN (toString i))else a8
 |.str y=>if y.length<=10000 then a5 y else a8
 |.tup l=>match intsOf l with
  |some is=>if (∀i∈is,-18446744073709551616<i/\i<18446744073709551616)/\(tupS is).length<=10000 then a5 (tupS is)else a8
  |none=>a8
 |_=>a8
noncomputable def Jm:List Rk->Option (List ah)
 |[]=>a5 []
 |r::rs=>match Jk r.d,Jm rs with
  |some y,a5 ys=>a5 (y::ys)
  |_,_=>a8
noncomputable def bang(x:ah):ah:=("!":ah)++x
noncomputable def qm(f:ah):ah:=("??":ah)++f
noncomputable def mq(f:ah):ah:=("@":ah)++f
noncomputable def dq(f:ah):ah:=("#":ah)++f
noncomputable def tupI:D->Option (List Int)
 |.tup l=>intsOf l
 |_=>a8
noncomputable def Og:List D->Option (List (List Int))
 |[]=>a5 []
 |d::ds=>match tupI d,Og ds with
  |some k,a5 ks=>a5 (k::ks)
  |_,_=>a8
noncomputable def Rc.lv:Rc->Option W
 |.lval d=>a5 (.v (.e d))
 |_=>a8
noncomputable def O1(w:Option W):Option W:=match w with
 |some (.a rs)=>if rs.length<=1000 then(Jm rs).map λys=>.v (.e (.str (Bj cY ys)))else a8
 |_=>a8
noncomputable def Ni(s:Option Sv):Option W:=match s with
 |some (.val d)=>a5 (.v (.e d))
 |some (.own l)=>a5 (.v (.w l))
 |_=>a8
noncomputable def blW(i:Option Bool):Option W:=i.map λk=>.v (.e (.bl k))
noncomputable def rkW(r:Option Rk):Option W:=r.map .v
noncomputable def Z8(op:Bop)(a b:Option W):Option W:=match a,b with
 |some (.v x),a5 (.v y)=>rkW (Uo op x y)
 |_,_=>a8
noncomputable def Fw(op:Cop)(a b:Option W):Option W:=match a,b with
 |some (.v x),a5 (.v y)=>blW (Jj op x.d y.d)
 |_,_=>a8
noncomputable def consW(a b:Option W):Option W:=match a,b with
 |some (.v x),a5 (.a xs)=>a5 (.a (x::xs))
 |_,_=>a8
noncomputable def Yi(a:Option W):Option W:=match a with
 |some (.a rs)=>match v9 rs with
  |some ds=>if jl ds.length=a7 then a5 (.v (.e (.tup ds)))else a8
  |none=>a8
 |_=>a8
noncomputable def Zf(a:Option W):Option W:=match a with
 |some (.a rs)=>match v9 rs with
  |some ds=>if jl ds.length=a7 then a5 (.v (.o ds))else a8
  |none=>a8
 |_=>a8
noncomputable def ixW(a b:Option W):Option W:=match a,b with
 |some (.v x),a5 (.v y)=>match x.sq,y.d with
  |some (_,l),.int i=>(atI l i).map λd=>.v (.e d)
  |none,.int i=>match x.d with
   |.str z=>if jl z.length=a7 then(atI z.cps.toList i).map λc=>.v (.e (.str ⟨#[c]⟩))else a8
   |_=>a8
  |_,_=>a8
 |_,_=>a8
noncomputable def Ro(sep:ah)(a:Option W):Option W:=match a with
 |some (.v x)=>match x.d with
  |.lst l=>match strsOf l with
   |some ts=>if eW sep ts=a7 then a5 (.v (.e (.str (eD sep ts))))else a8
   |none=>a8
  |_=>a8
 |_=>a8
noncomputable def Uy(a b:Option W):Option W:=match a,b with
 |some (.v x),a5 (.v y)=>match x.d with
  |.tup l=>if D.depL l<=90/\y.d.dep<=90 then(ixD y.d l).map λk=>.v (.e (.int (k:Nat)))else a8
  |.lst l=>if D.depL l<=90/\y.d.dep<=90 then(ixD y.d l).map λk=>.v (.e (.int (k:Nat)))else a8
  |_=>a8
 |_,_=>a8
noncomputable def Np(a:Option W):Option W:=match a with
 |some (.v x)=>match x.d with
  |.lst l=>match strsOf l with
   |some ts=>if ts.length<64 then a5 (.v (.o ((Qx ts).map D.str)))else a8
   |none=>match Og l with
    |some ks=>(Kq ks).map λS=>.v (.o (S.map λk=>D.tup (k.map D.int)))
    |none=>a8
  |.tup l=>match strsOf l with
   |some ts=>if ts.length<64 then a5 (.v (.o ((Qx ts).map D.str)))else a8
   |none=>a8
  |_=>a8
 |_=>a8
noncomputable def Rr(a:Option W):Option W:=match a with
 |some (.v x)=>match x.st with
  |some (.lst l)=>a5 (.i (vo l))
  |some (.tup l)=>a5 (.i (vo l))
  |_=>a8
 |_=>a8
noncomputable def Jv(Γ:ah->List D->Rc)(f:ah)(a:Option W):Option W:=match a with
 |some (.a rs)=>match v9 rs with
  |some ds=>rkW (Γ f ds).rk
  |none=>match Γ f (rs.map Rk.d) with
   |.val d=>a5 (.v (.t d))
   |.fresh l=>if jq l=a7 then a5 (.v (.o l))else a8
   |_=>a8
 |_=>a8
noncomputable def v8(f:Bf)(a:Option W):Option W:=match a with
 |some (.a rs)=>rkW (Z7 f rs)
 |_=>a8
noncomputable def Fb(a:Option W)(ts:List String):Option W:=match a with
 |some (.v x)=>blW (jy x.d ts)
 |_=>a8
noncomputable def Mq(a:Option W):Option W:=match a with
 |some (.v (.e (.lst l)))=>a5 (.i l)
 |some (.v (.e (.tup l)))=>a5 (.i l)
 |some (.v (.o l))=>a5 (.i l)
 |some (.v (.e (.str y)))=>if ascii y=a7 then a5 (.i (chs y))else a8
 |_=>a8
noncomputable def W4(a:Option W):Option W:=match a with
 |some (.a [x])=>match x.d with
  |.int n=>if -(2^62)<=n/\n<2^62 then a5 (.i (upto 0 n.toNat))else a8
  |_=>a8
 |some (.a [x,y])=>match x.d,y.d with
  |.int m,.int n=>if -(2^62)<=m/\m<2^62/\-(2^62)<=n/\n<2^62 then a5 (.i (upto m (n-m).toNat))else a8
  |_,_=>a8
 |_=>a8
noncomputable def noOwn(ρ:En):Bool:=ρ.all λs=>match s with
 |.own _=>a6
 |_=>a7
noncomputable def jjo(a b:Option W):Option W:=match a,b with
 |some (.v (.e (.dct ks ds))),a5 (.v y)=>match tupI y.d with
  |some k=>(j3e ks ds k).map λd=>.v (.e d)
  |none=>a8
 |_,_=>a8
noncomputable def Fv(a b:Option W):Option W:=match a,b with
 |some (.v x),a5 (.v y)=>match x.d,y.d with
  |.sct kvs,.str k=>(dval kvs k).map λn=>.v (.e (.int n))
  |_,_=>a8
 |_,_=>a8
noncomputable def ev(Γ:ah->List D->Rc)(G:ah->Option D):Ex->En->Option W
 |.lit d,_=>a5 (.v (.e d))
 |.var i,ρ=>Ni ρ[i]?
 |.glob x,_=>(G x).map λd=>.v (.e d)
 |.bin op a b,ρ=>Z8 op (ev Γ G a ρ) (ev Γ G b ρ)
 |.cmp op a b,ρ=>Fw op (ev Γ G a ρ) (ev Γ G b ρ)
 |.isN a,ρ=>match ev Γ G a ρ with
  |some (.v x)=>a5 (.v (.e (.bl x.d.isNon)))
  |_=>a8
 |.and a b,ρ=>match truth (ev Γ G a ρ) with
  |some a6=>a5 (.v (.e (.bl a6)))
  |some a7=>(truth (ev Γ G b ρ)).map λk=>.v (.e (.bl k))
  |none=>a8
 |.or a b,ρ=>match truth (ev Γ G a ρ) with
  |some a7=>a5 (.v (.e (.bl a7)))
  |some a6=>(truth (ev Γ G b ρ)).map λk=>.v (.e (.bl k))
  |none=>a8
 |.not a,ρ=>(truth (ev Γ G a ρ)).map λk=>.v (.e (.bl (!k)))
 |.nil,_=>a5 (.a [])
 |.cons a b,ρ=>consW (ev Γ G a ρ) (ev Γ G b ρ)
 |.tup es,ρ=>Yi (ev Γ G es ρ)
 |.lst es,ρ=>Zf (ev Γ G es ρ)
 |.ix a b,ρ=>ixW (ev Γ G a ρ) (ev Γ G b ρ)
 |.sl a lo hi,ρ=>match ev Γ G a ρ,Qc (ev Γ G lo ρ),Qc (ev Γ G hi ρ) with
  |some (.v x),a5 l,a5 h=>match x.sq with
   |some (a7,ds)=>a5 (.v (.o (cutD ds l h)))
   |some (a6,ds)=>if HT.sIx ds.length 0 l=0/\HT.sIx ds.length ds.length h=ds.length then a8 else a5 (.v (.e (.tup (cutD ds l h))))
   |none=>match x.d with
    |.str z=>if jl z.length=a7 then a5 (.v (.e (.str (bP z l h))))else a8
    |_=>a8
  |_,_,_=>a8
 |.call f es,ρ=>Jv Γ f (ev Γ G es ρ)
 |.blt f es,ρ=>v8 f (ev Γ G es ρ)
 |.isi a ts,ρ=>Fb (ev Γ G a ρ) ts
 |.comp is elt it cond,ρ=>match ev Γ G it (frz it ρ) with
  |some (.i ds)=>if Bq is (frz it ρ)=a7/\jl ds.length=a7 then
    (Je (λd=>match v6 is d (frz it ρ) with
     |none=>a8
     |some ρ2=>match ev Γ G cond ρ2 with
      |some (.a [])=>match ev Γ G elt ρ2 with
       |some (.v x)=>x.st.map a5
       |_=>a8
      |some (.a [y])=>match y.d with
       |.bl a7=>match ev Γ G elt ρ2 with
        |some (.v x)=>x.st.map a5
        |_=>a8
       |.bl a6=>a5 a8
       |_=>a8
      |_=>a8) ds).bind λl=>if (Jb it ρ && !jq l)=a7 then a8 else a5 (.v (.o l))
   else a8
  |_=>a8
 |.seq a,ρ=>Mq (ev Γ G a ρ)
 |.range es,ρ=>W4 (ev Γ G es ρ)
 |.fst es,ρ=>O1 (ev Γ G es ρ)
 |.isx i cs,ρ=>match ρ[i]?,G "?" with
  |some (.exc x),a5 (.bl a7)=>if jn.contains x=a7 then a5 (.v (.e (.bl (cs.any λc=>c == "ValueError" || x==c))))else a8
  |_,_=>a8
 |.join sep a,ρ=>Ro sep (ev Γ G a ρ)
 |.enum a,ρ=>Rr (ev Γ G a ρ)
 |.tix a b,ρ=>Uy (ev Γ G a ρ) (ev Γ G b ρ)
 |.dix a b,ρ=>Fv (ev Γ G a ρ) (ev Γ G b ρ)
 |.rpr a,ρ=>match ev Γ G a ρ with
  |some (.v x)=>match x.d with
   |.str y=>if (aQ y).length<=2000 then a5 (.v (.e (.str (aQ y))))else a8
   |_=>a8
  |_=>a8
 |.exc a,ρ=>ev Γ G a ρ
 |.srt a,ρ=>Np (ev Γ G a ρ)
 |.dget a b,ρ=>jjo (ev Γ G a ρ) (ev Γ G b ρ)
section
variable{Γ:ah->List D->Rc}{G:ah->Option D}{ρ:En}
theorem K7{d}:ev Γ G (.lit d) ρ=(a5 (.v (.e d))):=(rfl)
theorem jjt{i}:ev Γ G (.var i) ρ=(Ni ρ[i]?):=(rfl)
theorem jho{x}:ev Γ G (.glob x) ρ=((G x).map λd=>.v (.e d)):=(rfl)
theorem jk3{op a b}:ev Γ G (.bin op a b) ρ=(Z8 op (ev Γ G a ρ) (ev Γ G b ρ)):=(rfl)
theorem jac{op a b}:ev Γ G (.cmp op a b) ρ=(Fw op (ev Γ G a ρ) (ev Γ G b ρ)):=(rfl)
theorem jab{a}:ev Γ G (.isN a) ρ=(match ev Γ G a ρ with
  |some (.v x)=>a5 (.v (.e (.bl x.d.isNon)))
  |_=>a8):=(rfl)
theorem jk4{a b}:ev Γ G (.and a b) ρ=(match truth (ev Γ G a ρ) with
  |some a6=>a5 (.v (.e (.bl a6)))
  |some a7=>(truth (ev Γ G b ρ)).map λk=>.v (.e (.bl k))
  |none=>a8):=(rfl)
theorem jlc{a b}:ev Γ G (.or a b) ρ=(match truth (ev Γ G a ρ) with
  |some a7=>a5 (.v (.e (.bl a7)))
  |some a6=>(truth (ev Γ G b ρ)).map λk=>.v (.e (.bl k))
  |none=>a8):=(rfl)
theorem jjz{a}:ev Γ G (.not a) ρ=((truth (ev Γ G a ρ)).map λk=>.v (.e (.bl (!k)))):=(rfl)
theorem Uu:ev Γ G (.nil) ρ=(a5 (.a [])):=(rfl)
theorem Vs{a b}:ev Γ G (.cons a b) ρ=(consW (ev Γ G a ρ) (ev Γ G b ρ)):=(rfl)
theorem jju{es}:ev Γ G (.tup es) ρ=(Yi (ev Γ G es ρ)):=(rfl)
theorem jk0{es}:ev Γ G (.lst es) ρ=(Zf (ev Γ G es ρ)):=(rfl)
theorem jld{a b}:ev Γ G (.ix a b) ρ=(ixW (ev Γ G a ρ) (ev Γ G b ρ)):=(rfl)
theorem jlb{a lo hi}:ev Γ G (.sl a lo hi) ρ=(match ev Γ G a ρ,Qc (ev Γ G lo ρ),Qc (ev Γ G hi ρ) with
  |some (.v x),a5 l,a5 h=>match x.sq with
   |some (a7,ds)=>a5 (.v (.o (cutD ds l h)))
   |some (a6,ds)=>if HT.sIx ds.length 0 l=0/\HT.sIx ds.length ds.length h=ds.length then a8 else a5 (.v (.e (.tup (cutD ds l h))))
   |none=>match x.d with
    |.str z=>if jl z.length=a7 then a5 (.v (.e (.str (bP z l h))))else a8
    |_=>a8
  |_,_,_=>a8):=(rfl)
theorem jhr{f es}:ev Γ G (.call f es) ρ=(Jv Γ f (ev Γ G es ρ)):=(rfl)
theorem Yh{f es}:ev Γ G (.blt f es) ρ=(v8 f (ev Γ G es ρ)):=(rfl)
theorem jaa{a ts}:ev Γ G (.isi a ts) ρ=(Fb (ev Γ G a ρ) ts):=(rfl)
theorem jhq{is elt it cond}:ev Γ G (.comp is elt it cond) ρ=(match ev Γ G it (frz it ρ) with
  |some (.i ds)=>if Bq is (frz it ρ)=a7/\jl ds.length=a7 then
    (Je (λd=>match v6 is d (frz it ρ) with
     |none=>a8
     |some ρ2=>match ev Γ G cond ρ2 with
      |some (.a [])=>match ev Γ G elt ρ2 with
       |some (.v x)=>x.st.map a5
       |_=>a8
      |some (.a [y])=>match y.d with
       |.bl a7=>match ev Γ G elt ρ2 with
        |some (.v x)=>x.st.map a5
        |_=>a8
       |.bl a6=>a5 a8
       |_=>a8
      |_=>a8) ds).bind λl=>if (Jb it ρ && !jq l)=a7 then a8 else a5 (.v (.o l))
   else a8
  |_=>a8):=(rfl)
theorem jjx{a}:ev Γ G (.seq a) ρ=(Mq (ev Γ G a ρ)):=(rfl)
theorem jdd{es}:ev Γ G (.range es) ρ=(W4 (ev Γ G es ρ)):=(rfl)
theorem jk1{es}:ev Γ G (.fst es) ρ=(O1 (ev Γ G es ρ)):=(rfl)
theorem j3p {i cs}:ev Γ G (.isx i cs) ρ=(match ρ[i]?,G "?" with
  |some (.exc x),a5 (.bl a7)=>if jn.contains x=a7 then a5 (.v (.e (.bl (cs.any λc=>c == "ValueError" || x==c))))else a8
  |_,_=>a8):=(rfl)
theorem jhn{sep a}:ev Γ G (.join sep a) ρ=(Ro sep (ev Γ G a ρ)):=(rfl)
theorem jhp{a}:ev Γ G (.enum a) ρ=(Rr (ev Γ G a ρ)):=(rfl)
theorem jjv{a b}:ev Γ G (.tix a b) ρ=(Uy (ev Γ G a ρ) (ev Γ G b ρ)):=(rfl)
theorem jk2{a b}:ev Γ G (.dix a b) ρ=(Fv (ev Γ G a ρ) (ev Γ G b ρ)):=(rfl)
theorem jjy{a}:ev Γ G (.rpr a) ρ=(match ev Γ G a ρ with
  |some (.v x)=>match x.d with
   |.str y=>if (aQ y).length<=2000 then a5 (.v (.e (.str (aQ y))))else a8
   |_=>a8
  |_=>a8):=(rfl)
theorem jjw{a}:ev Γ G (.srt a) ρ=(Np (ev Γ G a ρ)):=(rfl)
end
noncomputable def er(Γ:ah->List D->Rc)(G:ah->Option D):Ex->En->Option ah
 |.call f es,ρ=>match er Γ G es ρ with
  |some x=>if (G (qm f)).isSome=a7 then a5 x else a8
  |none=>match ev Γ G es ρ with
   |some (.a rs)=>match Γ f (rs.map Rk.d) with
    |.err x=>if (G (bang x)).isSome=a7 then a5 x else a8
    |_=>a8
   |_=>a8
 |.cons a b,ρ=>match er Γ G a ρ with
  |some x=>a5 x
  |none=>match ev Γ G a ρ with
   |some (.v _)=>er Γ G b ρ
   |_=>a8
 |.ix a _,ρ=>er Γ G a ρ
 |.dget a b,ρ=>match er Γ G a ρ with
  |some x=>a5 x
  |none=>match ev Γ G a ρ with
   |some (.v _)=>er Γ G b ρ
   |_=>a8
 |.exc (.comp [i] elt it .nil),ρ=>match ev Γ G it ρ with
  |some (.i (d::_))=>if Bq [i] ρ=a7 then er Γ G elt (ρ.set i (.val d))else a8
  |_=>a8
 |_,_=>a8
end L2
end
section
namespace L2
open PySem PySem.Spec PyProof.Rows
def DM(X:Cx)(ρ:Rho)(e:aj)(s:Bool)(ds:List D):Prop:=∀σ H Q,Rep X.K ρ σ H->(∀a xs H',j4 H H'->SqB X.K s H' a xs->j5 X.K (del H' (owns ρ)) ds xs->Q (.ref a) H')->J5 X e σ H Q
section
variable{X:Cx}{ρ:Rho}{e a b c:aj}{es:List aj}{d:D}{ds ds':List D}{i j:Int}{pos p p2:aO}{k:Nat}{x:ah}{s:Bool}
theorem jic{K:k83}{H:Hp}{a:ae}{xs:List V}(h:SqL K H a xs):SqB K a7 H a xs:=by unfold SqB;rw[if_pos rfl];exact h
theorem Yu{K:k83}{H:Hp}{a:ae}{xs:List V}(h:SqB K a7 H a xs):SqL K H a xs:=by unfold SqB at h;rw[if_pos rfl]at h;exact h
theorem Q6{K:k83}{H:Hp}{a:ae}{xs:List V}(h:SqB K a6 H a xs):SqT K H a xs:=by unfold SqB at h;rw[if_neg xg]at h;exact h
theorem DE.toM(h:DE X ρ e (D.seq s ds)):DM X ρ e s ds:=λσ H Q R q=>h σ H Q R λv H1 g1 e1=>by obtain⟨t,xs,ev,sq,en⟩:=Zj e1;subst ev;exact q t xs H1 g1 (jo.seqB sq) en
theorem DL.toM(h:DL X ρ e ds):DM X ρ e a7 ds:=λσ H Q R q=>h σ H Q R λt xs H1 g1 m en=>q t xs H1 g1 (jic (.inl (.inl m))) en
theorem DO.toM(h:DO X ρ e ds):DM X ρ e a7 ds:=h.toL.toM
def Has(X:Cx)(ρ:Rho)(e:aj):Rk->Prop
 |.e d=>DE X ρ e d
 |.o l=>DO X ρ e l
 |.w l=>DL X ρ e l
 |.t d=>DT X ρ e d
theorem Has.toT:∀{r:Rk},Has X ρ e r->DT X ρ e r.d
 |.e _,h=>DE.toT h
 |.o _,h=>DL.toT (DO.toL h)
 |.w _,h=>DL.toT h
 |.t _,h=>h
theorem Has.toE:∀{r:Rk}{d:D},Has X ρ e r->r.st=a5 d->DE X ρ e d
 |.e _,_,h,q=>by cases q;exact h
 |.o _,_,h,q=>by cases q;exact DO.toE h
 |.w _,_,h,q=>by cases q
 |.t d',d,h,q=>by
  have q:(if vy d'=a7 then a5 d' else a8)=a5 d:=q;by_cases z:vy d'=a7
  .rw[if_pos z]at q;cases q;exact DT.toE h z
  .rw[if_neg z]at q;cases q
theorem Has.toM:∀{r:Rk}{s:Bool}{l:List D},Has X ρ e r->r.sq=a5 (s,l)->DM X ρ e s l
 |.e (.lst l),_,_,h,q=>by cases q;exact DE.toM (s:=a7) h
 |.e (.tup l),_,_,h,q=>by cases q;exact DE.toM (s:=a6) h
 |.e .non,_,_,_,q=>by cases q
 |.e (.bl _),_,_,_,q=>by cases q
 |.e (.int _),_,_,_,q=>by cases q
 |.e (.str _),_,_,_,q=>by cases q
 |.o l,_,_,h,q=>by cases q;exact DO.toM h
 |.w l,_,_,h,q=>by cases q;exact DL.toM h
 |.t _,_,_,_,q=>by cases q
theorem jbx:OpR X (bo .Add) (λx y H Q=>∃l b xs zs,x=.ref l/\y=.ref b/\SqL X.K H l xs/\SqL X.K H b zs/\xs.length+zs.length<=ak/\∀p,H p=a8->Q (.ref p) (upd H p (.lst (xs++zs)))):=by
 intro pins s σ H x y v u Q I rx ry h;obtain⟨l,b,xs,zs,e1,e2,hH,hB,hz,q⟩:=h;subst e1 e2;cases rx;cases ry;obtain⟨us,ru,⟨⟨c1,d1,f1,g1⟩,n1,h1,k1,w1,m1⟩,_⟩:=I.list hH;obtain⟨vs,rv,⟨⟨c2,d2,f2,g2⟩,n2,h2,k2,w2,m2⟩,_⟩:=I.list hB;have k1:c1=.type "list":=k1;have m1:f1=.seq us.toArray n1:=m1;have k2:c2=.type "list":=k2;have m2:f2=.seq vs.toArray n2:=m2;subst k1 m1 k2 m2;have l1:=ru.length;have l2:=rv.length;have ea:us.toArray++vs.toArray=(us++vs).toArray:=by simp
 refine fX ⟨_,h1,rfl⟩ ⟨_,h2,rfl⟩ noFill_list_add seq_list_add PySem.F.slot_list_add PySem.F.entry_list_add (PySem.F.args_list_add_2 _ _)
  (list_addW l b us.toArray vs.toArray n1 n2 d1 d2 g1 g2 (by rw[xr,xr,<-l1,<-l2];exact hz)) ⟨h1,h2,?_⟩
 rw[ea];exact⟨.ref _,_,I.lnew (t':=s.toks) (ru.append rv) (by rw[Xb];exact hz),rfl,q _ I.fresh⟩
theorem DO.catM(ha:DM X ρ a a7 ds)(hb:DM X ρ b a7 ds')(hl:ds.length+ds'.length<=ak):DO X ρ (.BinOp a .Add b pos) (ds++ds'):=λσ H Q R q =>
 (Vx jbx peS peS).to (ha σ H _ R λl xs H1 g1 s1 e1=>hb σ H1 _ (R.grow g1) λl' ys H2 g2 s2 e2 =>
  ⟨l,l',xs,ys,rfl,rfl,g2.seq (Yu s1),Yu s2,by rw[e1.length,e2.length];exact hl,λp hp=>q p _ _ ((g1.trans g2).trans (j8 hp)) ((g1.trans g2).free hp) jb (Ug hp ((e1.mono (jh g2)).append e2))⟩)
theorem DE.catTM(ha:DM X ρ a a6 ds)(hb:DM X ρ b a6 ds')(hl:ds.length+ds'.length<=ak):DE X ρ (.BinOp a .Add b pos) (.tup (ds++ds')):=λσ H Q R q =>
 (Vx j7k peS peS).to (ha σ H _ R λt xs H1 g1 sq l=>hb σ H1 _ (R.grow g1) λt' ys H2 g2 sq' l'=>by
  have l2:=l.mono (jh g2)
  have enT:∀{t:ae}{xs:List V}{ds:List D},SqT X.K H2 t xs->j5 X.K (del H2 (owns ρ)) ds xs->Enc X.K (del H2 (owns ρ)) (.tup ds) (.ref t):=λ{t xs ds} sq l=>by
   refine⟨t,xs,rfl,?_,l⟩
   have ow:=(R.grow (g1.trans g2)).owned
   have out:∀{o:HO},H2 t=a5 o->(∀zs,o≠.lst zs)->del H2 (owns ρ) t=a5 o:=λ{o} h z=>by
    rw[j6];exact h
    intro y;obtain⟨zs,e'⟩:=ow t y;rw[h]at e';cases e';exact z zs rfl
   rcases sq with (h|⟨o,h⟩)|h
   .exact .inl (.inl (out h λ_ z=>by cases z))
   .exact .inl (.inr ⟨o,out h λ_ z=>by cases z⟩)
   .exact .inr h
  refine⟨t,t',xs,ys,rfl,rfl,g2.seqT (Q6 sq),Q6 sq',by rw[l.length,l'.length];exact hl,λh=>?_,λh h'=>?_,λh h' p hp=>?_⟩
  .subst h
   cases ds with
   |nil=>exact q _ H2 (g1.trans g2) (enT (Q6 sq') l')
   |cons _ _=>have:=l.length;cases this
  .subst h'
   cases ds' with
   |nil=>exact q _ H2 (g1.trans g2) (by rw[Xr];exact enT (g2.seqT (Q6 sq)) l2)
   |cons _ _=>have:=l'.length;cases this
  .have np:p∉owns ρ:=(R.grow (g1.trans g2)).fresh hp
   exact q _ _ ((g1.trans g2).trans (j8 hp)) ⟨p,xs++ys,rfl,.inl (.inl (by rw[j6 np];exact jb)),(l2.append l').mono (jh (j8 hp))⟩)
theorem DE.ixM(ha:DM X ρ a s ds)(hb:DT X ρ b (.int i))(h:L2.atI ds i=a5 d)(hs:Ve b):DE X ρ (.Subscript a b pos) d:=by
 cases s with
 |true=>exact λσ H Q R q=>(Ba jcd peS peS hs).to (ha σ H _ R λl xs H1 g1 sq en=>hb σ H1 _ (R.grow g1) λu H2 g2 e2=>by
   obtain⟨y,hy,ey⟩:=en.atI h
   exact⟨l,xs,i,y,rfl,e2,g2.seq (Yu sq),hy,q y H2 (g1.trans g2) (ey.mono (jh g2))⟩)
 |false=>exact λσ H Q R q=>(Ba j5f peS peS hs).to (ha σ H _ R λl xs H1 g1 sq en=>hb σ H1 _ (R.grow g1) λu H2 g2 e2=>by
   obtain⟨y,hy,ey⟩:=en.atI h
   exact⟨l,xs,i,y,rfl,e2,g2.seqT (Q6 sq),hy,q y H2 (g1.trans g2) (ey.mono (jh g2))⟩)
variable{lo hi:Option aj}{l u:Option Int}
theorem DO.sliceM(ha:DM X ρ a a7 ds)(hl:DP X ρ lo l)(hu:DP X ρ hi u):DO X ρ (.Subscript a (.Slice lo hi a8 p2) pos) (cutD ds l u):=λσ H Q R q =>
 (Mu jb5 peS poS poS).to (ha σ H _ R λt xs H1 g1 sq en=>hl σ H1 _ (R.grow g1) λH2 g2=>hu σ H2 _ (R.grow (g1.trans g2)) λH3 g3=>⟨t,xs,rfl,(g2.trans g3).seq (Yu sq),λp hp =>
  q p _ _ ((g1.trans (g2.trans g3)).trans (j8 hp)) ((g1.trans (g2.trans g3)).free hp) jb (Ug hp ((en.mono (jh (g2.trans g3))).cut l u))⟩)
theorem DE.sliceM(ha:DM X ρ a a6 ds)(hl:DP X ρ lo l)(hu:DP X ρ hi u)(hw:¬(HT.sIx ds.length 0 l=0/\HT.sIx ds.length ds.length u=ds.length)):DE X ρ (.Subscript a (.Slice lo hi a8 p2) pos) (.tup (cutD ds l u)):=λσ H Q R q =>
 (Mu jdy peS poS poS).to (ha σ H _ R λt xs H1 g1 sq en=>hl σ H1 _ (R.grow g1) λH2 g2=>hu σ H2 _ (R.grow (g1.trans g2)) λH3 g3=>⟨t,xs,rfl,(g2.trans g3).seqT (Q6 sq),by rw[en.length];exact hw,λp hp =>
  q _ _ ((g1.trans (g2.trans g3)).trans (j8 hp)) ⟨p,_,rfl,.inl (.inl (by rw[j6 ((R.grow (g1.trans (g2.trans g3))).fresh hp)];exact jb)),((en.mono (jh (g2.trans g3))).cut l u).mono (jh (j8 hp))⟩⟩)
theorem DE.tupM (ha:DM X ρ a s ds) (hm:X.mg "tuple" = a8) (hg:Gl X "tuple") (hs:a9 [a] X.env=[(a6,aE a X.env)]):DE X ρ (.Call (.Name "tuple" p) [a] [] pos) (.tup ds):=λσ H Q R q =>
 (Vy Lh hg hm boot_tuple (j9 peS jm hs) (by decide) (by decide) hs).to (ha σ H _ R λl xs H1 g1 sq en=>by
  cases s with
  |true =>
   refine⟨l,xs,rfl,.inl ⟨Yu sq,λt ht=>?_⟩⟩
   have nt:t∉owns ρ:=(R.grow g1).fresh ht
   exact q _ _ (g1.trans (j8 ht)) ⟨t,xs,rfl,.inl (.inl (by rw[j6 nt];exact jb)),en.mono (jh (j8 ht))⟩
  |false =>
   refine⟨l,xs,rfl,.inr ⟨Q6 sq,?_⟩⟩
   refine q _ _ g1 ⟨l,xs,rfl,?_,en⟩
   have ow:=(R.grow g1).owned
   have out:∀{o:HO},H1 l=a5 o->(∀zs,o≠.lst zs)->del H1 (owns ρ) l=a5 o:=λ{o} h z=>by
    rw[j6];exact h
    intro y;obtain⟨zs,e'⟩:=ow l y;rw[h]at e';cases e';exact z zs rfl
   rcases Q6 sq with (h|⟨o,h⟩)|h
   .exact .inl (.inl (out h λ_ z=>by cases z))
   .exact .inl (.inr ⟨o,out h λ_ z=>by cases z⟩)
   .exact .inr h)
theorem DO.listM (ha:DM X ρ a s ds) (hm:X.mg "list" = a8) (hg:Gl X "list") (hs:a9 [a] X.env=[(a6,aE a X.env)]):DO X ρ (.Call (.Name "list" p) [a] [] pos) ds:=λσ H Q R q =>
 (Vy j0e hg hm boot_list (j9 peS jm hs) (by decide) (by decide) hs).to (ha σ H _ R λl xs H1 g1 sq en =>
  ⟨l,xs,rfl,(by cases s with|true=>exact .inl (Yu sq)|false=>exact .inr (Q6 sq)),λp hp=>q p _ _ (g1.trans (j8 hp)) (g1.free hp) jb (Ug hp en)⟩)
end
theorem Nx:fillsNumberSlot (.type "tuple") "mul" = pure a6 :=
 PySem.fillsNumberSlot_seq (id:="tuple.__mul__") (r:=a5 (.builtin "tuple.__rmul__")) PySem.F.slot_tuple_mul.lookup (by decide +kernel) PySem.F.slot_tuple_rmul.lookup (by decide +kernel)
theorem jbi:seqRepeat? (.type "tuple")=pure (a5 (.builtin "tuple.__mul__")):=by
 unfold seqRepeat?;rw[iL (T:="tuple") (name:="__mul__") (id:="tuple.__mul__") PySem.F.slot_tuple_mul.lookup (by decide +kernel),
  iL (T:="tuple") (name:="__rmul__") (id:="tuple.__rmul__") PySem.F.slot_tuple_rmul.lookup (by decide +kernel)]
 rfl
section
variable(a:Int)(t:jG)(l:ae)(its:Array aa)(n:Nat)(d1:Option ae)(sl:Array (Option aa))
theorem Et:lZ (dh.«int.__rmul__» ⟨[.int a t,.ref l],[]⟩) (λ_ R s=>s.heap.get? l=a5 ⟨.type "tuple",d1,.seq its n,sl⟩/\R (.ok (.ret Value.notImplemented)) s) :=
 .of_wp λ_ _ _ _ s h=>by
  obtain⟨_,_,_,_,_⟩:=s;obtain⟨hl,h⟩:=h
  wp_walk
  exact⟨_,rfl,h⟩
theorem j6n:lZ (dh.«tuple.__mul__» ⟨[.ref l,.int 1 t],[]⟩) (λ_ R s=>s.heap.get? l=a5 ⟨.type "tuple",d1,.seq its n,sl⟩/\R (.ok (.ret (.ref l))) s) :=
 .of_wp λ_ _ _ _ s h=>by
  obtain⟨_,_,_,_,_⟩:=s;obtain⟨hl,h⟩:=h
  wp_walk
  exact⟨_,rfl,h⟩
theorem j6m(h0:its.isEmpty=a6)(h1:1<a)(h2:a<2^63)(hz:its.size*a.toNat<=ak) :
  lZ (dh.«tuple.__mul__» ⟨[.ref l,.int a t],[]⟩) (λ_ R s=>s.heap.get? l=a5 ⟨.type "tuple",d1,.seq its n,sl⟩ /\
   R (.ok (.ret (.ref s.heap.objs.size))) { s with heap:=s.heap.push { cls:=.type "tuple",data:=.seq (bF (λx y=>x++y) #[] (ao a.toNat its)) } }) :=
 .of_wp λ_ _ _ _ s h=>by
  obtain⟨_,_,_,_,_⟩:=s;obtain⟨hl,h⟩:=h;have c1:(decide (a < -2^63) || decide (a>=2^63))=a6:=by rw[decide_eq_false nofun,decide_eq_false nofun];rfl
  have c2:(its.isEmpty || a==1)=a6:=by rw[h0,beq_eq_false_iff_ne.mpr nofun];rfl
  have c3:(decide (a<=0) || its.isEmpty)=a6:=by rw[h0,decide_eq_false nofun];rfl
  have ea:((its.size*a.toNat:Nat):Int)=(its.size:Int)*a:=by rw[Int.natCast_mul,cf nofun]
  have hz':(its.size:Int)*a<=(ak:Int):=by rw[<-ea];exact Int.ofNat_le.mpr hz
  have c4:¬(its.size:Int)*a>(2^63-1)/8:=by
   have:(ak:Int)<=(2^63-1)/8:=by decide
   omega
  have c5:eK ((its.size:Int)*a)=a6:=by unfold eK;exact decide_eq_false nofun
  have c6:(bF (λx y=>x++y) #[] (ao a.toNat its)).size<=ak:=by rw[AutoListH.size_joined,Array.size_empty,Tj,fc];exact hz
  wp_walk
  rw[c1]
  wp_walk
  rw[c2]
  wp_walk
  rw[c3]
  wp_walk
  rw[if_neg c4]
  wp_walk
  exact⟨_,rfl,h⟩
end
theorem jbv{X:Cx}:OpR X (bo .Mult) (λx y H Q=>∃a k xs,x=.ref a/\y=.int k/\SqT X.K H a xs/\xs≠[]/\1<=k/\k<2^63/\xs.length*k.toNat<=ak /\
  (k=1->Q (.ref a) H)/\(1<k->∀p,H p=a8->Q (.ref p) (upd H p (.tup (ao k.toNat xs).flatten)))):=by
 intro pins s σ H x y v u Q I rx ry h;obtain⟨a,k,xs,e1,e2,sq,hne,h1,h2,hz,q1,q2⟩:=h;subst e1 e2;cases rx;obtain⟨t,e⟩:=ry;subst e;obtain⟨us,ru,⟨⟨c1,d1,f1,g1⟩,p1,k1,n1,m1⟩,_⟩:=I.tuple sq;have k1:c1=.type "tuple":=k1;have m1:f1=.seq us.toArray n1:=m1;subst k1 m1;have lu:=ru.length;have hne':us.toArray.isEmpty=a6:=by
  cases us with
  |nil=>cases ru;exact absurd rfl hne
  |cons _ _=>simp
 refine i4 (T:="tuple") (U:="int") (by decide) ⟨_,p1,rfl⟩ (λs'=>fE s' k t) Nx kn eA jbi F.slot_int_index.lookup
  (bN eA (fE s k t) jX (jQ _ _) (Et k t a us.toArray n1 d1 g1) ⟨p1,rfl,⟨_,p1,rfl⟩,?_⟩)
 by_cases hk:k=1
 .subst hk;exact bN jW ⟨_,p1,rfl⟩ jP (jC _ _) (j6n t a us.toArray n1 d1 g1) ⟨p1,⟨.ref a,H,I,rfl,q1 rfl⟩⟩
 .have hz':us.toArray.size*k.toNat<=ak:=by rw[xr,<-lu];exact hz
  refine bN jW ⟨_,p1,rfl⟩ jP (jC _ _) (j6m k t a us.toArray n1 d1 g1 hne' nofun h2 hz') ⟨p1,?_⟩;have hnew:bF (λx1 x2=>x1++x2) #[] (ao k.toNat us.toArray)=(ao k.toNat us).flatten.toArray:=by have:=foldl_rep us k.toNat [];rw[fK]at this;exact this
  rw[hnew];refine⟨.ref _,_,I.laid (t':=s.toks) (λb o e=>xu _ e) (X5 _) ?_,rfl,q2 nofun _ I.fresh⟩;exact⟨by rw[len_rep,fc];exact hz,_,ru.rep k.toNat,IsTup.new _ _,Zm.new _ _⟩
theorem DE.repT{X:Cx}{ρ:Rho}{a b:aj}{ds:List D}{k:Int}{pos:aO}(ha:DM X ρ a a6 ds)(hb:DT X ρ b (.int k))(hne:ds≠[])(h1:1<=k)(h2:k<2^63)(hl:ds.length*k.toNat<=ak) :
  DE X ρ (.BinOp a .Mult b pos) (.tup (ao k.toNat ds).flatten):=λσ H Q R q =>
 (Vx jbv peS peS).to (ha σ H _ R λt xs H1 g1 sq l=>hb σ H1 _ (R.grow g1) λu H2 g2 e2=>by
  have l2:=l.mono (jh g2)
  refine⟨t,k,xs,rfl,e2,g2.seqT (Q6 sq),?_,h1,h2,by rw[l.length];exact hl,λh=>?_,λh p hp=>?_⟩
  .intro z;subst z
   cases ds with
   |nil=>exact hne rfl
   |cons _ _=>have:=l.length;cases this
  .subst h
   have e:(ao (1:Int).toNat ds).flatten=ds:=by simp
   rw[e]at q
   refine q _ H2 (g1.trans g2) ⟨t,xs,rfl,?_,l2⟩
   have ow:=(R.grow (g1.trans g2)).owned
   have out:∀{o:HO},H2 t=a5 o->(∀zs,o≠.lst zs)->del H2 (owns ρ) t=a5 o:=λ{o} h z=>by
    rw[j6];exact h
    intro y;obtain⟨zs,e'⟩:=ow t y;rw[h]at e';cases e';exact z zs rfl
   rcases g2.seqT (Q6 sq)with (h|⟨o,h⟩)|h
   .exact .inl (.inl (out h λ_ z=>by cases z))
   .exact .inl (.inr ⟨o,out h λ_ z=>by cases z⟩)
   .exact .inr h
  .have np:p∉owns ρ:=(R.grow (g1.trans g2)).fresh hp
   exact q _ _ ((g1.trans g2).trans (j8 hp)) ⟨p,_,rfl,.inl (.inl (by rw[j6 np];exact jb)),(l2.rep k.toNat).mono (jh (j8 hp))⟩)
end L2
end
section
namespace L2
open PySem PySem.Spec PyProof.Rows
noncomputable def Sl.abs:Sl->Sv
 |.un=>.un
 |.val d=>.val d
 |.own _ l=>.own l
 |.raw _ _ x=>.exc x
noncomputable def j7(ρ:Rho):En:=ρ.map Sl.abs
theorem Us{ρ:Rho}{i:Nat}:(j7 ρ)[i]?=(ρ[i]?).map Sl.abs:=xq ..
theorem Oa{ρ:Rho}{i:Nat}{d:D}(h:(j7 ρ)[i]?=a5 (.val d)):ρ[i]?=a5 (.val d):=by
 rw[Us]at h;cases e:ρ[i]? with
 |none=>rw[e]at h;cases h
 |some s=>rw[e]at h;cases s<;>cases h;rfl
theorem jdc{ρ:Rho}{i:Nat}(h:(j7 ρ)[i]?=a5 .un):ρ[i]?=a5 .un:=by
 rw[Us]at h;cases e:ρ[i]? with
 |none=>rw[e]at h;cases h
 |some s=>rw[e]at h;cases s<;>cases h;rfl
theorem J4{ρ:Rho}{i:Nat}{l:List D}(h:(j7 ρ)[i]?=a5 (.own l)):∃a,ρ[i]?=a5 (.own a l):=by
 rw[Us]at h;cases e:ρ[i]? with
 |none=>rw[e]at h;cases h
 |some s=>rw[e]at h;cases s<;>cases h;exact⟨_,rfl⟩
theorem Oc{ρ:Rho}{i:Nat}{x:ah}(h:(j7 ρ)[i]?=a5 (.exc x)):∃a o,ρ[i]?=a5 (.raw a o x):=by
 rw[Us]at h;cases e:ρ[i]? with
 |none=>rw[e]at h;cases h
 |some s=>rw[e]at h;cases s<;>cases h;exact⟨_,_,rfl⟩
theorem ji{ρ:Rho}{i:Nat}{s:Sl}:j7 (ρ.set i s)=(j7 ρ).set i s.abs:=List.map_set ..
noncomputable def Bop.op:Bop->jI
 |.add=>.Add
 |.sub=>.Sub
 |.mul=>.Mult
 |.fdiv=>.FloorDiv
 |.mod=>.Mod
 |.pow=>.Pow
 |.shl=>.LShift
 |.shr=>.RShift
 |.band=>.BitAnd
 |.bxor=>.BitXor
noncomputable def Cop.op:Cop->gw
 |.lt=>.Lt
 |.le=>.LtE
 |.gt=>.Gt
 |.ge=>.GtE
 |.eq=>.Eq
 |.ne=>.NotEq
 |.isin=>.In
 |.notin=>.NotIn
noncomputable def Bf.name:Bf->ah
 |.len=>"len"
 |.min=>"min"
 |.max=>"max"
 |.all=>"all"
 |.tuple=>"tuple"
 |.list=>"list"
 |.sum=>"sum"
 |.int=>"int"
 |.any=>"any"
 |.sorted=>"sorted"
noncomputable def Zc:List ah:=["len","min","max","all","tuple","list","sum","int","any","sorted","isinstance","bool","str","range","zip","enumerate","reversed","ValueError","set","dict"]
noncomputable def Zz(x:ah):Bool:=x.cps.toList.head?==a5 33 || x.cps.toList.head?==a5 63
inductive Nd where
 |e (x:aj)
 |b (x:aj)
 |w (x:aj)
 |a (xs:List aj)
 |i (tg it:aj)
 |o (x:Option aj)
 |c (xs:List aj)
 |p (xs:List aj)
structure Cok(X:Cx)(G:ah->Option D):Prop where
 un':X.A.units+100<bg
 un:X.calm=a7->X.A.units+150<bg
 dp:X.calm=a7->X.A.depth+4<bK
 bt:∀x∈Zc,X.mg x=a8
 gl:∀x d,Zz x=a6->G x=a5 d->∃u v,X.mg x=a5 u/\RelV v u/\∀H,Enc X.K H d v
 nd:X.N.Nodup
 po:dY (au X.prog X.w) X.A X.env X.xe
 ea:Qg X.K=a7
 ec:∀x d,G (bang x)=a5 d->x∈jn/\∃o,W.nsIn X.K aq x=a5 (a5 o)
 el:G "?" = a5 (.bl a7)->∀c∈jn,∃v,W.nsIn X.K aq c=a5 (a5 v)
 kin:X.K.In X.base
 ns:X.base.Ns aq X.mg
 kd:∀x l,G (bang x)=a5 (.lst l)->Kinds X "_law_kinds" x l
 fn:∀f d,G (qm f)=a5 d->∃fa,X.mg f=a5 (.ref fa)/\W.keepIn X.K (.ref fa)=a7
 pl:∀d,G (qm "_law_plan")=a5 d->Cal X "_law_plan" (jdw X.K j9o)
 pc:∀d,G (qm "Pieces")=a5 d->∃C,X.mg "Pieces" = a5 (.ref C)/\PcX X C
 gd:X.calm=a7->X.A.guards=a5 []
 fr:∃(env0:cI)(out0:List cI)(L:ae),X.stack=env0::out0/\env0.frame=a5 L/\X.env.frame=a5 L
 lm:∀x∈Zh,X.env.qual=x ++ ".<locals>."->∃c P,X.env.code=.ref c/\W.codeHdIn X.K c P=a7/\W.tabIn X.K x=a5 (c,P)
def Gok(X:Cx)(Γ:ah->List D->Rc):Prop:=∀f ds,match Γ f ds with
 |.val d=>Cal X f (spP X.K λds' d'=>ds'=ds/\d'=d)
 |.fresh l=>Cal X f (spF X.K λds' l'=>ds'=ds/\l'=l)
 |.err x=>CalX X f (spX X.K X.mg λds' y=>ds'=ds/\y=x)
 |.lval d=>∀x,f=zg x->∃k,Room k X.A/\j3r X.prog X.w X.K X.mg X.base k x λds' d'=>ds'=ds/\d'=d
 |.mval d k'=>∀g ls (k:Nat) ds',f=mq g->ds=.lst (ls.map D.str)::.int (k:Int)::ds'->∀C,X.mg "Pieces" = a5 (.ref C)->CalM X g C λls2 k2 ds2 d2 k2'=>ls2=ls/\k2=k/\ds2=ds'/\d2=d/\k2'=k'
 |.merr x=>∀g ls (k:Nat) ds',f=mq g->ds=.lst (ls.map D.str)::.int (k:Int)::ds'->∀C,X.mg "Pieces" = a5 (.ref C)->CalMX X g C λls2 k2 ds2 x2=>ls2=ls/\k2=k/\ds2=ds'/\x2=x
 |.dval d ks' ns'=>∀g ks ns ds',f=dq g->ds=.dct ks (ns.map D.int)::ds'->CalD X g λks2 ns2 ds2 d2 ks2' ns2'=>ks2=ks/\ns2=ns/\ds2=ds'/\d2=d/\ks2'=ks'/\ns2'=ns'
 |.no=>True
theorem Cok.comp{X:Cx}{G:ah->Option D}{scope:bq}{C:ae}{s:af}{H:Hp}{fp:List ae}{pn:k85}(h:Cok X G):Cok (cCx X scope C s H fp pn) G:=⟨h.un',h.un,h.dp,h.bt,h.gl,h.nd,Pz,h.ea,h.ec,h.el,h.kin,h.ns,h.kd,h.fn,λd e=>Cal.comp (h.pl d e),λd e=>let ⟨C,h1,h2⟩:=h.pc d e;⟨C,h1,⟨h2.ex⟩⟩,h.gd,h.fr,h.lm⟩
theorem Gok.comp{X:Cx}{Γ:ah->List D->Rc}{scope:bq}{C:ae}{s:af}{H:Hp}{fp:List ae}{pn:k85}(h:Gok X Γ):Gok (cCx X scope C s H fp pn) Γ:=λf ds=>by
 have q:=h f ds;cases e:Γ f ds with
 |val d=>rw[e]at q;exact Cal.comp q
 |fresh l=>rw[e]at q;exact Cal.comp q
 |err x=>rw[e]at q;exact⟨q.ex⟩
 |lval d=>rw[e]at q;exact q
 |mval d k=>rw[e]at q;exact λg ls k ds' h1 h2 C h3=>⟨(q g ls k ds' h1 h2 C h3).ex⟩
 |merr x=>rw[e]at q;exact λg ls k ds' h1 h2 C h3=>⟨(q g ls k ds' h1 h2 C h3).ex⟩
 |dval d ks ns=>rw[e]at q;exact λg ks ns ds' h1 h2=>⟨(q g ks ns ds' h1 h2).ex⟩
 |no=>trivial
inductive HasA(X:Cx)(ρ:Rho):List aj->List Rk->Prop where
 |nil:HasA X ρ [] []
 |cons {a:aj} {es:List aj} {r:Rk} {rs:List Rk} (hs:a9 (a::es) X.env=(a6,aE a X.env)::a9 es X.env):Has X ρ a r->HasA X ρ es rs->HasA X ρ (a::es) (r::rs)
section
variable{X:Cx}{ρ:Rho}{es:List aj}{rs:List Rk}
theorem HasA.toA:∀{es:List aj}{rs:List Rk}{ds:List D},HasA X ρ es rs->v9 rs=a5 ds->DA X ρ es ds
 |_,_,_,.nil,q=>by cases q;exact DA.nil
 |_,_,ds,.cons (r:=r) (rs:=rs) hs h t,q=>by
  unfold v9 at q;cases e1:r.st with
  |none=>rw[e1]at q;cases q
  |some d =>
   cases e2:v9 rs with
   |none=>rw[e1,e2]at q;cases q
   |some ds'=>rw[e1,e2]at q;cases q;exact DA.cons (h.toE e1) (t.toA e2) hs
theorem HasA.toT:∀{es:List aj}{rs:List Rk},HasA X ρ es rs->DTA X ρ es (rs.map Rk.d)
 |_,_,.nil=>DTA.nil
 |_,_,.cons hs h t=>DTA.cons h.toT t.toT hs
theorem DO.unfrz{e:aj}{i:Nat}{a:ae}{l ds:List D}(hk:ρ[i]?=a5 (.own a l))(h:DO X (ρ.set i (.val (.lst l))) e ds)(hn:jq ds=a7):DO X ρ e ds:=λσ H Q R q =>
 h σ H Q (R.freeze hk) λb xs H' g n m en=>q b xs H' g n m ((en.mono jo).hide (λc hc=>by
  rcases xj.mp hc with z|z
  .rw[z];exact .inl ⟨xs,m⟩
  .exact .inl ((R.grow g).owned c z)) hn)
end
theorem N7{f:D->Option (Option D)}:∀{ds l:List D},Je f ds=a5 l ->
  l=(ds.filter (λd=>(f d).join.isSome)).map (λd=>(f d).join.getD .non)/\∀d∈ds,∃o,f d=a5 o
 |[],l,h=>by cases h;exact⟨rfl,λd hd=>nomatch hd⟩
 |d::ds,l,h=>by
  unfold Je at h;cases e1:f d with
  |none=>rw[e1]at h;cases h
  |some o =>
   cases e2:Je f ds with
   |none=>rw[e1,e2]at h;cases o<;>cases h
   |some xs =>
    rw[e1,e2]at h;obtain⟨q1,q2⟩:=N7 e2;have mem:∀d'∈d::ds,∃o,f d'=a5 o:=λd' hd=>by
     rcases xj.mp hd with z|z
     .subst z;exact⟨o,e1⟩
     .exact q2 d' z
    cases o with
    |none=>cases h;exact⟨by rw[gJ (by rw[e1];simp)];exact q1,mem⟩
    |some x=>cases h;exact⟨by rw[gI (by rw[e1];rfl),xx,<-q1,e1];rfl,mem⟩
section
variable{X:Cx}{ρ:Rho}{a b:aj}{d da db:D}{ds ds':List D}{pos:aO}{k:Bool}
theorem j5i {t c:String} (h:qy t c=a5 k):t ≠ "function":=λz=>by unfold qy at h;rw[if_pos z]at h;cases h
theorem j1p{K:k83}{c:String}(h:qy d.ty c=a5 k):W.kitOne K (.type d.ty) (.type c)=a5 k:=by
 have nf:d.ty ≠ "function":=j5i h;unfold qy at h;rw[if_neg nf]at h;by_cases h1:c = "int"
 .subst h1;cases d<;>first|exact absurd rfl nf|(simp[D.ty]at h;subst h;kernel_rfl)
 rw[if_neg h1]at h;by_cases h2:c = "bool"
 .subst h2;cases d<;>first|exact absurd rfl nf|(simp[D.ty]at h;subst h;kernel_rfl)
 rw[if_neg h2]at h;by_cases h3:c = "str"
 .subst h3;cases d<;>first|exact absurd rfl nf|(simp[D.ty]at h;subst h;kernel_rfl)
 rw[if_neg h3]at h;by_cases h4:c = "list"
 .subst h4;cases d<;>first|exact absurd rfl nf|(simp[D.ty]at h;subst h;kernel_rfl)
 rw[if_neg h4]at h;by_cases h5:c = "tuple"
 .subst h5;cases d<;>first|exact absurd rfl nf|(simp[D.ty]at h;subst h;kernel_rfl)
 rw[if_neg h5]at h;cases h
theorem j1t {c:String} {cs:List String} (h:jy d (c::cs)=a5 k):d.ty ≠ "function":=by
 unfold jy at h;split at h
 .rename_i e _;exact j5i e
 .cases h
theorem Eo{K:k83}:∀{cs:List String}{k:Bool},jy d cs=a5 k->W.kitAny K (.type d.ty) (cs.map bu)=a5 k
 |[],k,h=>by cases h;rfl
 |c::cs,k,h=>by
  unfold jy at h;cases e1:qy d.ty c with
  |none=>rw[e1]at h;cases h
  |some x =>
   cases e2:jy d cs with
   |none=>rw[e1,e2]at h;cases h
   |some y =>
    rw[e1,e2]at h;cases h;rw[xx,W.kitAny,j1p e1];cases x with
    |true=>simp
    |false=>simp;exact Eo e2
theorem DE.neD(s:Bool)(hu:X.A.units+100<bg)(ha:DT X ρ a (D.seq s ds))(hb:DT X ρ b (D.seq s ds'))(hd:D.depL ds<=98)(nd:D.depL ds'<10000):DE X ρ (.Compare a [.NotEq] [b] pos) (.bl (!zb ds ds')):=λσ H Q R q =>(Jx (j4v hu) peS peS (zm _)).to (ha σ H _ R λv H1 g1 e1=>hb σ H1 _ (R.grow g1) λu H2 g2 e2=>⟨ds,ds',s,e1.mono g2,e2,hd,nd,q _ H2 (g1.trans g2) rfl⟩)
theorem DE.notIn(s:Bool)(hu:X.A.units+100<bg)(ha:DT X ρ a d)(hb:DT X ρ b (D.seq s ds))(hd:D.depL ds<=98)(nd:d.dep<10000)(hm:aM .NotIn b=a6):DE X ρ (.Compare a [.NotIn] [b] pos) (.bl (!ds.any λe=>deq e d)):=λσ H Q R q =>(Jx (Dn hu) peS peS hm).to (ha σ H _ R λv H1 g1 e1=>hb σ H1 _ (R.grow g1) λu H2 g2 e2=>⟨d,ds,s,e1.mono g2,e2,hd,nd,q _ H2 (g1.trans g2) rfl⟩)
theorem DE.in(s:Bool)(hu:X.A.units+100<bg)(ha:DT X ρ a d)(hb:DT X ρ b (D.seq s ds))(hd:D.depL ds<=98)(nd:d.dep<10000)(hm:aM .In b=a6):DE X ρ (.Compare a [.In] [b] pos) (.bl (ds.any λe=>deq e d)):=λσ H Q R q =>(Jx (j4w hu) peS peS hm).to (ha σ H _ R λv H1 g1 e1=>hb σ H1 _ (R.grow g1) λu H2 g2 e2=>⟨d,ds,s,e1.mono g2,e2,hd,nd,q _ H2 (g1.trans g2) rfl⟩)
theorem jb1:∀{b:D}{s:Bool}{l:List D},b.sqv=a5 (s,l)->b=D.seq s l
 |.lst _,_,_,h=>by cases h;rfl
 |.dct _ _,_,_,h=>by cases h
 |.sct _,_,_,h=>by cases h
 |.fn _ _,_,_,h=>by cases h
 |.tup _,_,_,h=>by cases h;rfl
 |.non,_,_,h=>by cases h
 |.bl _,_,_,h=>by cases h
 |.int _,_,_,h=>by cases h
 |.str _,_,_,h=>by cases h
theorem j3i{op:Cop}{i j:Int}(h:cmpI op i j=a5 k)(ha:DT X ρ a (.int i))(hb:DT X ρ b (.int j)):DE X ρ (.Compare a [op.op] [b] pos) (.bl k)/\DB X ρ (.Compare a [op.op] [b] pos) k:=by
 cases op<;>(first|(cases h;done)|skip)
 .cases h;exact⟨DE.lt ha hb,DB.lt ha hb⟩
 .cases h;exact⟨DE.le ha hb,DB.le ha hb⟩
 .cases h;exact⟨DE.gt ha hb,DB.gt ha hb⟩
 .cases h;exact⟨DE.ge ha hb,DB.ge ha hb⟩
 .cases h;exact⟨DE.eqI ha hb,DB.eqI ha hb⟩
 .cases h;exact⟨DE.neI ha hb,DB.neI ha hb⟩
theorem Cm{op:Cop}(hu:X.A.units+100<bg)(h:Jj op da db=a5 k)(ha:DT X ρ a da)(hb:DT X ρ b db)(hm:aM op.op b=a6) :
  DE X ρ (.Compare a [op.op] [b] pos) (.bl k)/\DB X ρ (.Compare a [op.op] [b] pos) k:=by
 have inn:∀{r:Bool->Bool},(match db.sqv with|some (_,l)=>if D.depL l<=90/\da.dep<=90 then a5 (r (l.any λe=>deq e da))else a8|none=>a8)=a5 k->∃s l,DT X ρ b (D.seq s l)/\D.depL l<=98/\da.dep<10000/\k=r (l.any λe=>deq e da):=λ{r} h=>by
  cases e:db.sqv with
  |none=>rw[e]at h;cases h
  |some p =>
   obtain⟨s,l⟩:=p;rw[e]at h;have h:(if D.depL l<=90/\da.dep<=90 then a5 (r (l.any λe=>deq e da))else a8)=a5 k:=h;by_cases z:D.depL l<=90/\da.dep<=90
   .rw[if_pos z]at h;cases h;exact⟨s,l,jb1 e▸hb,by omega,by omega,rfl⟩
   .rw[if_neg z]at h;cases h
 unfold Jj at h;split at h
 .exact j3i h ha hb
 .by_cases z:da.dep<=90/\db.dep<=90
  .rw[if_pos z]at h;cases h;exact⟨DE.eqD hu ha hb nofun nofun,DB.eqD hu ha hb nofun nofun⟩
  .rw[if_neg z]at h;cases h
 .cases h;exact⟨DE.neB ha hb,DB.neB ha hb⟩
 .cases h;exact⟨(DE.neS ha hb).eq (by rw[j04]),(DB.neS ha hb).eq (by rw[j04])⟩
 .cases h;exact⟨(DE.neS ha hb).eq (by simp),(DB.neS ha hb).eq (by simp)⟩
 .rename_i l m;by_cases z:D.depL l<=90/\D.depL m<=90
  .rw[if_pos z]at h;cases h;exact⟨DE.neD a7 hu ha hb nofun nofun,DB.neD a7 hu ha hb nofun nofun⟩
  .rw[if_neg z]at h;cases h
 .rename_i l m;by_cases z:D.depL l<=90/\D.depL m<=90
  .rw[if_pos z]at h;cases h;exact⟨DE.neD a6 hu ha hb nofun nofun,DB.neD a6 hu ha hb nofun nofun⟩
  .rw[if_neg z]at h;cases h
 .cases h;exact⟨DE.inS ha hb hm,DB.inS ha hb hm⟩
 .cases h;exact⟨DE.ltS ha hb,DB.ltS ha hb⟩
 .cases h;exact⟨DE.gtS ha hb,DB.gtS ha hb⟩
 .obtain⟨s,l,hb,hd,nd,e⟩:=inn (r:=id) h;subst e;exact⟨DE.in s hu ha hb hd nd hm,DB.in s hu ha hb hd nd hm⟩
 .obtain⟨s,l,hb,hd,nd,e⟩:=inn (r:=(!·)) h;subst e;exact⟨DE.notIn s hu ha hb hd nd hm,DB.notIn s hu ha hb hd nd hm⟩
 .cases h
theorem DE.shr{i j:Int}(ha:DT X ρ a (.int i))(hb:DT X ρ b (.int j))(h:0<=j):DE X ρ (.BinOp a .RShift b pos) (.int (i/2^j.toNat)):=DE.arI (g:=λi j=>i/2^j.toNat) jf2 ha hb h
theorem jw{α:Type}{c:Prop}[Decidable c]{x y:α}(h:(if c then a5 x else a8)=a5 y):c/\x=y:=by
 by_cases z:c
 .rw[if_pos z]at h;exact⟨z,aw h⟩
 .rw[if_neg z]at h;cases h
theorem j3l{op:Bop}{i j n:Int}(h:binI op i j=a5 n)(ha:DT X ρ a (.int i))(hb:DT X ρ b (.int j)):DE X ρ (.BinOp a op.op b pos) (.int n):=by
 cases op
 .cases h;exact DE.add ha hb
 .cases h;exact DE.sub ha hb
 .obtain⟨z,e⟩:=jw h;subst e;exact DE.mul ha hb z
 .obtain⟨z,e⟩:=jw h;subst e;exact DE.fdivB ha hb z
 .obtain⟨z,e⟩:=jw h;subst e;exact DE.mod ha hb z
 .obtain⟨z,e⟩:=jw h;subst e;exact DE.pow ha hb z
 .obtain⟨z,e⟩:=jw h;subst e;exact DE.shl ha hb z
 .obtain⟨z,e⟩:=jw h;subst e;exact DE.shr ha hb z
 .cases h;exact DE.arI0 jf8 ha hb
 .cases h;exact DE.arI0 jf0 ha hb
theorem zc{n:Nat}(h:jl n=a7):n<=ak:=of_decide_eq_true h
end
section
variable{X:Cx}{ρ:Rho}{a b e:aj}{es:List aj}{d:D}{pos p:aO}
theorem Has.lw:∀{r:Rk}{l:List D},Has X ρ a r->r.lw=a5 l->DL X ρ a l
 |.o l,_,h,q=>by cases q;exact DO.toL h
 |.w l,_,h,q=>by cases q;exact h
 |.e _,_,_,q=>by cases q
 |.t _,_,_,q=>by cases q
theorem j6b{op:Bop}{x y r:Rk}(h:Uo op x y=a5 r)(ha:Has X ρ a x)(hb:Has X ρ b y):Has X ρ (.BinOp a op.op b pos) r:=by
 unfold Uo at h;split at h
 .rename_i i j e1 e2;cases z:binI op i j with
  |none=>rw[z]at h;cases h
  |some n=>rw[z]at h;cases h;exact j3l z (e1▸ha.toT) (e2▸hb.toT)
 .rename_i y z e1 e2;split at h
  .obtain⟨q,e⟩:=jw h;subst e;exact DE.catS (e1▸ha.toT) (e2▸hb.toT) (zc q)
  .cases h
 .rename_i y k e1 e2;split at h
  .obtain⟨q,e⟩:=jw h;subst e;exact DE.mulS (e1▸ha.toT) (e2▸hb.toT) q.1 q.2
  .cases h
 .split at h
  .rename_i l m _ e1 e2;obtain⟨z,q⟩:=jw h;subst q;exact DO.catM (ha.toM e1) (hb.toM e2) (zc z)
  .rename_i l m _ e1 e2;obtain⟨z,q⟩:=jw h;subst q;exact DE.catTM (ha.toM e1) (hb.toM e2) (zc z)
  .rename_i l k _ _ e1 e3;obtain⟨z,q⟩:=jw h;subst q;exact DE.repT (ha.toM e1) (e3▸hb.toT) (λe=>by subst e;exact absurd z.2.2.1 (by simp)) z.1 z.2.1 (zc z.2.2.2)
  .rename_i k _ _ _ e3 _;cases e:x.lw with
   |none=>rw[e]at h;cases h
   |some l =>rw[e]at h;obtain⟨z,q⟩:=jw h;subst q;exact DO.rep (ha.lw e) (e3▸hb.toT) z.1 z.2.1 (zc z.2.2)
  .cases h
theorem Um:∀{l:List D}{bs:List Bool},boolsOf l=a5 bs->l=bs.map D.bl
 |[],_,h=>by cases h;rfl
 |.bl b::r,bs,h=>by
  unfold boolsOf at h;cases e:boolsOf r with
  |none=>rw[e]at h;cases h
  |some q=>rw[e]at h;cases h;rw[Um e];rfl
 |.non::_,_,h=>by cases h
 |.int _::_,_,h=>by cases h
 |.str _::_,_,h=>by cases h
 |.tup _::_,_,h=>by cases h
 |.lst _::_,_,h=>by cases h
 |.dct _ _::_,_,h=>by cases h
 |.sct _::_,_,h=>by cases h
 |.fn _ _::_,_,h=>by cases h
theorem Q8:∀{l:List D}{bs:List Int},intsOf l=a5 bs->l=bs.map D.int
 |[],_,h=>by cases h;rfl
 |.int b::r,bs,h=>by
  unfold intsOf at h;cases e:intsOf r with
  |none=>rw[e]at h;cases h
  |some q=>rw[e]at h;cases h;rw[Q8 e];rfl
 |.non::_,_,h=>by cases h
 |.bl _::_,_,h=>by cases h
 |.str _::_,_,h=>by cases h
 |.tup _::_,_,h=>by cases h
 |.lst _::_,_,h=>by cases h
 |.dct _ _::_,_,h=>by cases h
 |.sct _::_,_,h=>by cases h
 |.fn _ _::_,_,h=>by cases h
theorem Vw:∀{l:List D}{bs:List ah},strsOf l=a5 bs->l=bs.map D.str
 |[],_,h=>by cases h;rfl
 |.str b::r,bs,h=>by
  unfold strsOf at h;cases e:strsOf r with
  |none=>rw[e]at h;cases h
  |some q=>rw[e]at h;cases h;rw[Vw e];rfl
 |.non::_,_,h=>by cases h
 |.bl _::_,_,h=>by cases h
 |.int _::_,_,h=>by cases h
 |.tup _::_,_,h=>by cases h
 |.lst _::_,_,h=>by cases h
 |.dct _ _::_,_,h=>by cases h
 |.sct _::_,_,h=>by cases h
 |.fn _ _::_,_,h=>by cases h
theorem Q4{w:Option W}{k:Bool}(h:truth w=a5 k):∃r,w=a5 (.v r)/\r.d=.bl k:=by
 unfold truth at h;split at h
 .rename_i r;split at h
  .rename_i q e;cases h;exact⟨r,rfl,e⟩
  .cases h
 .cases h
def j0k(X:Cx)(ρ:Rho):List aj->List Rk->Prop
 |[],[]=>True
 |e::es,r::rs=>(∀y,Jk r.d=a5 y->DE X ρ e (.str y))/\j0k X ρ es rs
 |_,_=>False
theorem j0k.all{X:Cx}{ρ:Rho}:∀{es:List aj}{rs:List Rk}{ys:List ah},j0k X ρ es rs->Jm rs=a5 ys->DPs X ρ es ys/\ys.length=rs.length
 |[],[],ys,_,q=>by cases q;exact⟨trivial,rfl⟩
 |e::es,r::rs,ys,h,q=>by
  unfold Jm at q;cases e1:Jk r.d with
  |none=>rw[e1]at q;cases q
  |some y =>
   cases e2:Jm rs with
   |none=>rw[e1,e2]at q;cases q
   |some ys' =>rw[e1,e2]at q;cases q;obtain⟨z1,z2⟩:=j0k.all h.2 e2;exact⟨⟨h.1 y e1,z1⟩,by rw[X4,X4,z2]⟩
 |[],_::_,_,h,_=>h.elim
 |_::_,[],_,h,_=>h.elim
theorem log2_small{i:Int}(h:-18446744073709551616<i/\i<18446744073709551616):i.natAbs.log2<1920:=by
 by_cases z:i.natAbs=0
 .rw[z];decide
 .have e:(2:Nat)^64=18446744073709551616:=by decide
  have:i.natAbs.log2<64:=(lK z).mpr (by rw[e];omega);omega
theorem j4a{d:D}{y:ah}(h:Jk d=a5 y):y.length<=10000:=by
 cases d with
 |int i =>
  simp only[Jk]at h;split at h
  .rename_i q;cases h;have:=int_text_length_le (k:=1920) (by decide) (log2_small q);rw[PySem.ofString_length];omega
  .cases h
 |str z =>
  simp only[Jk]at h;split at h
  .rename_i q;cases h;exact q
  .cases h
 |tup l =>
  simp only[Jk]at h;split at h
  .split at h
   .rename_i q;cases h;exact q.2
   .cases h
  .cases h
 |_=>cases h
theorem M3:∀{rs:List Rk}{ys:List ah},Jm rs=a5 ys->∀y∈ys,y.length<=10000
 |[],_,q=>by cases q;exact λy hy=>nomatch hy
 |r::rs,ys,q=>by
  unfold Jm at q;cases e1:Jk r.d with
  |none=>rw[e1]at q;cases q
  |some y =>
   cases e2:Jm rs with
   |none=>rw[e1,e2]at q;cases q
   |some ys' =>
    rw[e1,e2]at q;cases q;intro z hz;rcases xj.mp hz with rfl|hz
    .exact j4a e1
    .exact M3 e2 z hz
theorem DE.fmt{X:Cx}{ρ:Rho}{a:aj}{d:D}{y:ah}{pos:aO}(hg:X.A.guards=a5 [])(hu:X.A.units+100<bg)(ha:DT X ρ a d)(h:Jk d=a5 y):DE X ρ (.FormattedValue a (-1) a8 pos) (.str y):=by
 cases d with
 |int i =>
  simp only[Jk]at h;split at h
  .rename_i q;cases h;exact DE.fmtI ha (log2_small q)
  .cases h
 |str z =>
  simp only[Jk]at h;split at h
  .rename_i q;cases h;exact DE.fmtS ha (by rw[b8];omega)
  .cases h
 |tup l =>
  simp only[Jk]at h;split at h
  .rename_i is ei;split at h
   .rename_i q;cases h;have e:=Q8 ei;subst e;exact DE.fmtT hg hu ha (λi hi=>log2_small (q.1 i hi)) (by rw[b8];omega)
   .cases h
  .cases h
 |_=>cases h
def jhy(Γ:ah->List D->Rc)(G:ah->Option D)(X:Cx)(t:Ex):Nd->Prop
 |.e e=>∀ρ r,ev Γ G t (j7 ρ)=a5 (.v r)->Has X ρ e r
 |.b e=>∀ρ k,truth (ev Γ G t (j7 ρ))=a5 k->DB X ρ e k
 |.w e=>∀ρ k,truth (ev Γ G t (j7 ρ))=a5 k->DW X ρ e k
 |.a es=>∀ρ rs,ev Γ G t (j7 ρ)=a5 (.a rs)->HasA X ρ es rs
 |.i tg it=>∀ρ ds,ev Γ G t (j7 ρ)=a5 (.i ds)->DI X ρ tg it ds
 |.o e=>∀ρ o,Qc (ev Γ G t (j7 ρ))=a5 o->DP X ρ e o
 |.p es=>∀ρ rs,ev Γ G t (j7 ρ)=a5 (.a rs)->j0k X ρ es rs
 |.c ifs=>∀ρ,(ev Γ G t (j7 ρ)=a5 (.a [])->DTs X ρ ifs a7)/\∀y k,ev Γ G t (j7 ρ)=a5 (.a [y])->y.d=.bl k->DTs X ρ ifs k
end
section
variable{Γ:ah->List D->Rc}{G:ah->Option D}{X:Cx}
theorem Mg{is:List Nat}{elt' it' c':Ex}{elt it tg:aj}{ifs:List aj}{scope:bq}{ρ:Rho}{r:Rk}
  (hit:∀ρ ds,ev Γ G it' (j7 ρ)=a5 (.i ds)->DI X ρ tg it ds)
  (hb:∀ρ d ρ2,v6 is d (j7 ρ)=a5 ρ2->(∀j∈is,ρ[j]?=a5 .un)->∃ρ',j7 ρ'=ρ2/\Wk ρ' ρ/\owns ρ'=owns ρ/\∀C s H fp pn,DG (cCx X scope C s H fp pn) ρ tg d ρ')
  (he:∀C s H fp pn ρ r,ev Γ G elt' (j7 ρ)=a5 (.v r)->Has (cCx X scope C s H fp pn) ρ elt r)
  (hc:∀C s H fp pn ρ,(ev Γ G c' (j7 ρ)=a5 (.a [])->DTs (cCx X scope C s H fp pn) ρ ifs a7)/\∀y k,ev Γ G c' (j7 ρ)=a5 (.a [y])->y.d=.bl k->DTs (cCx X scope C s H fp pn) ρ ifs k)
  (h:ev Γ G (.comp is elt' it' c') (j7 ρ)=a5 (.v r)):∃(l:List D)(ρf:Rho)(ds:List D)(pr:D->Bool)(g:D->D),r=.o l/\l=(ds.filter pr).map g /\
   (ρf=ρ\/(jq l=a7/\∃(i:Nat)(a:ae)(l':List D),ρ[i]?=a5 (.own a l')/\ρf=ρ.set i (.val (.lst l'))))/\DI X ρf tg it ds/\(∀j∈is,ρf[j]?=a5 .un)/\ds.length<=ak /\
   (∀C s H fp pn,∀d∈ds,∃ρ2,DG (cCx X scope C s H fp pn) ρf tg d ρ2/\Wk ρ2 ρf/\owns ρ2=owns ρf/\DTs (cCx X scope C s H fp pn) ρ2 ifs (pr d)/\(pr d=a7->DE (cCx X scope C s H fp pn) ρ2 elt (g d))):=by
 have fr:∃ρf,j7 ρf=frz it' (j7 ρ)/\((Jb it' (j7 ρ)=a6/\ρf=ρ)\/(Jb it' (j7 ρ)=a7/\∃i a l,ρ[i]?=a5 (.own a l)/\ρf=ρ.set i (.val (.lst l)))):=by
  by_cases z:Jb it' (j7 ρ)=a7
  .unfold Jb at z;split at z
   .rename_i i ei;split at z
    .rename_i l e;obtain⟨a,q⟩:=J4 e;refine⟨ρ.set i (.val (.lst l)),?_,.inr ⟨?_,i,a,l,q,rfl⟩⟩
     .rw[ji];simp only[frz,ei,e,Sl.abs]
     .simp only[Jb,ei,e]
    .cases z
   .cases z
  .have z':Jb it' (j7 ρ)=a6:=by simpa using z
   refine⟨ρ,?_,.inl ⟨z',rfl⟩⟩;unfold frz;split
   .rename_i i ei;split
    .rename_i l e;simp only[Jb,ei,e]at z';cases z'
    .rfl
   .rfl
 obtain⟨ρf,ef,fr⟩:=fr;rw[jhq]at h;rw[<-ef]at h;split at h
 .rename_i ds hds;split at h
  .rename_i hz;obtain⟨hfree,hlen⟩:=hz;generalize hf:(λd=>_:D->Option (Option D))=f at h;cases hl:Je f ds with
   |none=>rw[hl]at h;cases h
   |some l =>
    rw[hl]at h;have h:(if (Jb it' (j7 ρ) && !jq l)=a7 then a8 else a5 (W.v (.o l)))=a5 (.v r):=h;by_cases zz:(Jb it' (j7 ρ) && !jq l)=a7
    .rw[if_pos zz]at h;cases h
    .rw[if_neg zz]at h;cases h;obtain⟨el,hmem⟩:=N7 hl;have hun:∀j∈is,ρf[j]?=a5 .un:=λj hj=>by
      have:=Xq.mp hfree j hj;split at this
      .rename_i e;exact jdc e
      .cases this
     refine⟨l,ρf,ds,_,_,rfl,el,?_,hit ρf ds hds,hun,zc hlen,λC s H fp pn d hd=>?_⟩
     .rcases fr with ⟨_,e⟩|⟨e1,i,a,l',hk,e⟩
      .exact .inl e
      .exact .inr ⟨by rw[e1]at zz;simpa using zz,i,a,l',hk,e⟩
     ·
      obtain⟨o,ho⟩:=hmem d hd;rw[<-hf]at ho ⊢;dsimp only at ho ⊢;cases hb2:v6 is d (j7 ρf) with
      |none=>rw[hb2]at ho;cases ho
      |some ρ2 =>
       obtain⟨ρ',e',wk,ow,dg⟩:=hb ρf d ρ2 hb2 hun;subst e';refine⟨ρ',dg C s H fp pn,wk,ow,?_⟩;rw[hb2]at ho;dsimp only at ho ⊢;cases hcv:ev Γ G c' (j7 ρ') with
       |none=>rw[hcv]at ho;cases ho
       |some w =>
        rw[hcv]at ho;split at ho
        .rename_i hw;cases hw;cases hev:ev Γ G elt' (j7 ρ') with
         |none=>rw[hev]at ho;cases ho
         |some w =>
          rw[hev]at ho;cases w with
          |i _=>cases ho
          |a _=>cases ho
          |v x =>
           dsimp only at ho ⊢;cases hst:x.st with
           |none=>rw[hst]at ho;cases ho
           |some y =>simp only[hst,cc,iA,eJ,T3];exact⟨((hc C s H fp pn ρ').1 hcv),λ_=>(he C s H fp pn ρ' x hev).toE hst⟩
        .rename_i y hw;cases hw;split at ho
         .rename_i e1;cases hev:ev Γ G elt' (j7 ρ') with
          |none=>rw[hev]at ho;cases ho
          |some w =>
           rw[hev]at ho;cases w with
           |i _=>cases ho
           |a _=>cases ho
           |v x =>
            dsimp only at ho ⊢;cases hst:x.st with
            |none=>rw[hst]at ho;cases ho
            |some z =>simp only[e1,hst,cc,iA,eJ,T3];exact⟨(hc C s H fp pn ρ').2 y a7 hcv e1,λ_=>(he C s H fp pn ρ' x hev).toE hst⟩
         .rename_i e1;simp only[e1,Option.join,ke];exact⟨(hc C s H fp pn ρ').2 y a6 hcv e1,λz=>by cases z⟩
         .cases ho
        .cases ho
  .cases h
 .cases h
theorem N6{is:List Nat}{elt' it' c':Ex}{elt it tg:aj}{ifs:List aj}{scope:bq}{p:aO}{ρ:Rho}{r:Rk}(hq:X.calm=a7)(hX:Cok X G)
  (hit:∀ρ ds,ev Γ G it' (j7 ρ)=a5 (.i ds)->DI X ρ tg it ds) (hkind:scope.kind=.function) (hok:J3 scope X.env X.N is=a7) (hs:∀x,aK it X.env x=pure x)
  (hb:∀ρ d ρ2,v6 is d (j7 ρ)=a5 ρ2->(∀j∈is,ρ[j]?=a5 .un)->∃ρ',j7 ρ'=ρ2/\Wk ρ' ρ/\owns ρ'=owns ρ/\∀C s H fp pn,DG (cCx X scope C s H fp pn) ρ tg d ρ')
  (he:∀C s H fp pn ρ r,ev Γ G elt' (j7 ρ)=a5 (.v r)->Has (cCx X scope C s H fp pn) ρ elt r)
  (hc:∀C s H fp pn ρ,(ev Γ G c' (j7 ρ)=a5 (.a [])->DTs (cCx X scope C s H fp pn) ρ ifs a7)/\∀y k,ev Γ G c' (j7 ρ)=a5 (.a [y])->y.d=.bl k->DTs (cCx X scope C s H fp pn) ρ ifs k)
  (h:ev Γ G (.comp is elt' it' c') (j7 ρ)=a5 (.v r)):∃l,r=.o l/\DO X ρ (.ListComp elt [⟨tg,it,ifs,0⟩] scope p) l:=by
 obtain⟨l,ρf,ds,pr,g,er,el,hf,hi,hun,hz,hb'⟩:=Mg hit hb he hc h;refine⟨l,er,?_⟩;have main:DO X ρf (.ListComp elt [⟨tg,it,ifs,0⟩] scope p) ((ds.filter pr).map g):=DO.comp is _ _ hi hb' hun hz hq hkind hok hs;rw[<-el]at main;rcases hf with e|⟨hn,i,a,l',hk,e⟩
 .subst e;exact main
 .subst e;exact DO.unfrz hk main hn
end
section
variable{X:Cx}{ρ:Rho}{a b e:aj}{es:List aj}{d:D}{pos p:aO}
theorem Has.map(h:∀σ H Q,J5 X a σ H Q->J5 X e σ H Q):∀{r:Rk},Has X ρ a r->Has X ρ e r
 |.e _,q=>λσ H Q R z=>h σ H Q (q σ H Q R z)
 |.o _,q=>λσ H Q R z=>h σ H Q (q σ H Q R z)
 |.w _,q=>λσ H Q R z=>h σ H Q (q σ H Q R z)
 |.t _,q=>λσ H Q R z=>h σ H Q (q σ H Q R z)
theorem Has.bl{r:Rk}{k:Bool}(h:Has X ρ a r)(e:r.d=.bl k):DE X ρ a (.bl k):=DT.toE (e▸h.toT)
theorem Jt{f:Bf}{rs:List Rk}{r:Rk}{p2:aO}{G:ah->Option D}(c:Cok X G)(hq:f=.min\/f=.all\/f=.sum\/f=.any\/f=.max->X.calm=a7)(hg:Gl X f.name)(h:Z7 f rs=a5 r)(ha:HasA X ρ es rs):Has X ρ (.Call (.Name f.name p) es [] p2) r:=by
 have one:∀{x:Rk},HasA X ρ es [x]->∃e,es=[e]/\Has X ρ e x/\a9 [e] X.env=[(a6,aE e X.env)]:=λ{x} h=>by cases h with|cons hs h t=>cases t;exact⟨_,rfl,h,hs⟩
 have two:∀{x y:Rk},HasA X ρ es [x,y]->∃e f,es=[e,f]/\Has X ρ e x/\Has X ρ f y/\a9 [e,f] X.env=(a6,aE e X.env)::a9 [f] X.env/\a9 [f] X.env=[(a6,aE f X.env)]:=λ{x y} h=>by cases h with|cons hs h t=>cases t with|cons hs2 h2 t2=>cases t2;exact⟨_,_,rfl,h,h2,hs,hs2⟩
 unfold Z7 at h;split at h
 .rename_i x;obtain⟨e,ee,hx,hs⟩:=one ha;subst ee;split at h
  .rename_i l el;cases h;exact DE.lenL (el▸hx.toT) (c.bt _ (by decide)) hg hs
  .rename_i l el;cases h;exact DE.lenT (el▸hx.toT) (c.bt _ (by decide)) hg hs
  .rename_i y el;obtain⟨z,q⟩:=jw h;subst q;exact DE.lenS (el▸hx.toT) (zc z) (c.bt _ (by decide)) hg hs
  .cases h
 .rename_i x y;obtain⟨e,f,ee,hx,hy,hs,hs2⟩:=two ha;subst ee;split at h
  .rename_i i j ei ej;cases h;exact DE.min (ei▸hx.toT) (ej▸hy.toT) (c.bt _ (by decide)) (hq (.inl rfl)) hg hs hs2 (by rw[hs2];rfl)
  .cases h
 .rename_i x y;obtain⟨e,f,ee,hx,hy,hs,hs2⟩:=two ha;subst ee;split at h
  .rename_i i j ei ej;cases h;exact DE.max2 (ei▸hx.toT) (ej▸hy.toT) (c.bt _ (by decide)) (hq (.inr (.inr (.inr (.inr rfl))))) hg hs hs2 (by rw[hs2];rfl)
  .cases h
 .rename_i x;obtain⟨e,ee,hx,hs⟩:=one ha;subst ee;split at h
  .rename_i l el;split at h
   .rename_i ns en;obtain⟨z,q⟩:=jw h;cases q;have:=Q8 en;subst this;exact DE.maxL (el▸hx.toT) (λz'=>by subst z';simp at z) (c.bt _ (by decide)) (hq (.inr (.inr (.inr (.inr rfl))))) hg hs
   .cases h
  .cases h
 .rename_i x;obtain⟨e,ee,hx,hs⟩:=one ha;subst ee;split at h
  .rename_i l el;split at h
   .rename_i ns en;obtain⟨z,q⟩:=jw h;cases q;have:=Q8 en;subst this;exact DE.minL (el▸hx.toT) (λz'=>by subst z';simp at z) (c.bt _ (by decide)) (hq (.inl rfl)) hg hs
   .cases h
  .cases h
 .rename_i x;obtain⟨e,ee,hx,hs⟩:=one ha;subst ee;split at h
  .rename_i l el;cases q:boolsOf l with
   |none=>rw[q]at h;cases h
   |some bs =>rw[q]at h;cases h;have:=Um q;subst this;exact DE.all (el▸hx.toT) (c.bt _ (by decide)) (hq (.inr (.inl rfl))) hg hs
  .cases h
 .rename_i x;obtain⟨e,ee,hx,hs⟩:=one ha;subst ee;split at h
  .rename_i l el;cases q:boolsOf l with
   |none=>rw[q]at h;cases h
   |some bs =>rw[q]at h;cases h;have:=Um q;subst this;exact DE.any (el▸hx.toT) (c.bt _ (by decide)) (hq (.inr (.inr (.inr (.inl rfl))))) hg hs
  .cases h
 .rename_i x;obtain⟨e,ee,hx,hs⟩:=one ha;subst ee;split at h
  .rename_i s l el;cases h;exact DE.tupM (hx.toM el) (c.bt _ (by decide)) hg hs
  .cases h
 .rename_i x;obtain⟨e,ee,hx,hs⟩:=one ha;subst ee;split at h
  .rename_i s l el;cases h;exact DO.listM (hx.toM el) (c.bt _ (by decide)) hg hs
  .cases h
 .rename_i x;obtain⟨e,ee,hx,hs⟩:=one ha;subst ee;split at h
  .rename_i l el;cases q:intsOf l with
   |none=>rw[q]at h;cases h
   |some ns =>rw[q]at h;cases h;have:=Q8 q;subst this;exact DE.sum a7 (show DT X ρ e (.lst (ns.map D.int))from el▸hx.toT) (c.bt _ (by decide)) (hq (.inr (.inr (.inl rfl)))) hg hs
  .rename_i l el;cases q:intsOf l with
   |none=>rw[q]at h;cases h
   |some ns =>rw[q]at h;cases h;have:=Q8 q;subst this;exact DE.sum a6 (show DT X ρ e (.tup (ns.map D.int))from el▸hx.toT) (c.bt _ (by decide)) (hq (.inr (.inr (.inl rfl)))) hg hs
  .cases h
 .rename_i x;obtain⟨e,ee,hx,hs⟩:=one ha;subst ee;split at h
  .rename_i k el;cases h;exact DE.int1 (el▸hx.toT) (c.bt _ (by decide)) hg hs
  .rename_i y el;split at h
   .rename_i hl;obtain⟨n,hn,rfl⟩:=t8.mp h;exact DE.intS (el▸hx.toT) hn hl (c.bt _ (by decide)) hg hs
   .cases h
  .cases h
 .cases h
end
section
variable{Γ:ah->List D->Rc}{G:ah->Option D}{X:Cx}
theorem jar{d:D}{ns:List Int}(h:tupI d=a5 ns):d=.tup (ns.map D.int):=by
 unfold tupI at h;split at h
 .rw[Q8 h]
 .cases h
theorem Ka:∀{l:List D}{ks:List (List Int)},Og l=a5 ks->l=ks.map λk=>D.tup (k.map D.int)
 |[],ks,h=>by cases h;rfl
 |d::l,ks,h=>by
  unfold Og at h;split at h
  .rename_i k ks' e1 e2;cases h;rw[jar e1,Ka e2];rfl
  .cases h
theorem j3k {ρ:Rho} {f:ah} {e:aj} {es:List aj} {rs:List Rk} {r:Rk} {p p2:aO} (g:Gok X Γ) (hg:Gl X f) (hdb:(f==k87)=a6) (he:a9 (e::es) X.env=(a6,aE e X.env)::a9 es X.env)
  (hpl:(aR p2 (a9 es X.env)).any (·.1)=a6) (ha:HasA X ρ (e::es) rs)
  (h:(match v9 rs with|some ds=>(Γ f ds).rk.map W.v|none=>match Γ f (rs.map Rk.d)with|.val d=>a5 (.v (.t d))|.fresh l=>if jq l=a7 then a5 (.v (.o l))else a8|_=>a8)=a5 (.v r)):Has X ρ (.Call (.Name f p) (e::es) [] p2) r:=by
 split at h
 .rename_i ds hds;have q:=g f ds;cases z:Γ f ds with
  |val d=>rw[z]at h q;cases h;exact DE.call q (ha.toA hds) ⟨rfl,rfl⟩ hg hdb he hpl
  |fresh l=>rw[z]at h q;cases h;exact DO.call q (ha.toA hds) ⟨rfl,rfl⟩ hg hdb he hpl
  |err x=>rw[z]at h;cases h
  |lval d=>rw[z]at h;cases h
  |mval d k=>rw[z]at h;cases h
  |merr x=>rw[z]at h;cases h
  |dval d ks ns=>rw[z]at h;cases h
  |no=>rw[z]at h;cases h
 .have q:=g f (rs.map Rk.d);split at h
  .rename_i d z;rw[z]at q;cases h;exact DT.call q ha.toT ⟨rfl,rfl⟩ hg hdb he hpl
  .rename_i l z;rw[z]at q;obtain⟨hn,e1⟩:=jw h;cases e1;exact DO.callT q ha.toT ⟨rfl,rfl⟩ hn hg hdb he hpl
  .cases h
theorem jed{a:Ex}{ρ:En}{r:Rk}(h:ev Γ G (.rpr a) ρ=a5 (.v r)):∃x y,ev Γ G a ρ=a5 (.v x)/\x.d=.str y/\(aQ y).length<=2000/\r=.e (.str (aQ y)):=by
 rw[jjy]at h;split at h
 .rename_i x ex;split at h
  .rename_i y ey;split at h
   .rename_i hl;cases h;exact⟨x,y,ex,ey,hl,rfl⟩
   .cases h
  .cases h
 .cases h
end
def XM(X:Cx)(ρ:Rho)(y:ah):Nd->Prop
 |.e e=>DX X ρ e y
 |.a es=>DXA X ρ es y
 |_=>True
structure Tr(X:Cx)(t:Ex)(nd:Nd):Prop where
 m:∀(Γ:ah->List D->Rc)(G:ah->Option D),Cok X G->Gok X Γ->jhy Γ G X t nd
 x:∀(Γ:ah->List D->Rc)(G:ah->Option D),Cok X G->Gok X Γ->∀ρ y,er Γ G t (j7 ρ)=a5 y->XM X ρ y nd
theorem Tr.int:∀{X:Cx}{i:Int}{n:Nat}{p:aO},Tr X (.lit (.int i)) (.e (.Constant (.int i) n p)):=by intro _ _ _ _;refine⟨λΓ G=>?_,λ_ _ _ _ _ _ h=>nomatch h⟩;intro _ _ ρ r h;simp only[K7]at h;cases h;exact DE.int
theorem Tr.bl:∀{X:Cx}{b:Bool}{n:Nat}{p:aO},Tr X (.lit (.bl b)) (.e (.Constant (.bool b) n p)):=by intro _ _ _ _;refine⟨λΓ G=>?_,λ_ _ _ _ _ _ h=>nomatch h⟩;intro _ _ ρ r h;simp only[K7]at h;cases h;exact DE.bl
theorem Tr.str:∀{X:Cx}{y:ah}{n:Nat}{p:aO},Tr X (.lit (.str y)) (.e (.Constant (.str y) n p)):=by intro _ _ _ _;refine⟨λΓ G=>?_,λ_ _ _ _ _ _ h=>nomatch h⟩;intro _ _ ρ r h;simp only[K7]at h;cases h;exact DE.str
theorem Tr.var:∀{X:Cx}{k:Nat}{x:ah}{p:aO}(hN:X.N[k]?=a5 x) (hv:Vis X.env.scope x) (hd:(x==k87)=a6) (hcd:(x==k88)=a6),Tr X (.var k) (.e (.Name x p)):=by
 intro _ _ _ _ hN hv hd hcd;refine⟨λΓ G=>?_,λ_ _ _ _ _ _ h=>nomatch h⟩;intro _ _ ρ r h;simp only[jjt,Ni]at h;split at h
 .rename_i e;cases h;exact DE.var _ (Oa e) hN hv hd hcd
 .rename_i e;cases h;obtain⟨a,q⟩:=J4 e;exact DL.var _ q hN hv hd hcd
 .cases h
theorem Tr.glob:∀{X:Cx}{x:ah}{p:aO}(hg:Gl X x)(hd:(x==k87)=a6) (hb:Zz x=a6),Tr X (.glob x) (.e (.Name x p)):=by
 intro _ _ _ hg hd hb;refine⟨λΓ G=>?_,λ_ _ _ _ _ _ h=>nomatch h⟩;rename_i X x p;intro c _ ρ r h;simp only[jho]at h;cases e:G x with
 |none=>rw[e]at h;cases h
 |some d=>rw[e]at h;cases h;obtain⟨u,v,hm,r,q⟩:=c.gl x d hb e;exact DE.glob hg hm r q hd
theorem Tr.bin:∀{X:Cx}{op:Bop}{a' b':Ex}{a b:aj}{p:aO},Tr X a' (.e a)->Tr X b' (.e b)->Tr X (.bin op a' b') (.e (.BinOp a op.op b p)):=by
 intro _ _ _ _ _ _ _ q0 q1;refine⟨λΓ G=>?_,λ_ _ _ _ _ _ h=>nomatch h⟩;have iha:=q0.m Γ G;have ihb:=q1.m Γ G;intro c g ρ r h;simp only[jk3,Z8]at h;split at h
 .rename_i x y ex ey;cases e:Uo _ x y with
  |none=>rw[e]at h;cases h
  |some z=>rw[e]at h;cases h;exact j6b e (iha c g ρ x ex) (ihb c g ρ y ey)
 .cases h
theorem Tr.cmp:∀{X:Cx}{op:Cop}{a' b':Ex}{a b:aj}{p:aO}(hm:aM op.op b=a6),Tr X a' (.e a)->Tr X b' (.e b)->Tr X (.cmp op a' b') (.e (.Compare a [op.op] [b] p)):=by
 intro _ _ _ _ _ _ _ hm q0 q1;refine⟨λΓ G=>?_,λ_ _ _ _ _ _ h=>nomatch h⟩;have iha:=q0.m Γ G;have ihb:=q1.m Γ G;intro c g ρ r h;simp only[jac,Fw]at h;split at h
 .rename_i x y ex ey;cases e:Jj _ x.d y.d with
  |none=>rw[e]at h;cases h
  |some z=>rw[e]at h;cases h;exact(Cm c.un' e (iha c g ρ x ex).toT (ihb c g ρ y ey).toT hm).1
 .cases h
theorem Tr.bcmp:∀{X:Cx}{op:Cop}{a' b':Ex}{a b:aj}{p:aO}(hm:aM op.op b=a6),Tr X a' (.e a)->Tr X b' (.e b)->Tr X (.cmp op a' b') (.b (.Compare a [op.op] [b] p)):=by
 intro _ _ _ _ _ _ _ hm q0 q1;refine⟨λΓ G=>?_,λ_ _ _ _ _ _ _=>trivial⟩;have iha:=q0.m Γ G;have ihb:=q1.m Γ G;intro c g ρ k h;obtain⟨r,h,hk⟩:=Q4 h;simp only[jac,Fw]at h;split at h
 .rename_i x y ex ey;cases e:Jj _ x.d y.d with
  |none=>rw[e]at h;cases h
  |some z=>rw[e]at h;cases h;cases hk;exact(Cm c.un' e (iha c g ρ x ex).toT (ihb c g ρ y ey).toT hm).2
 .cases h
theorem Tr.isN:∀{X:Cx}{a':Ex}{a:aj}{n:Nat}{p p2:aO},Tr X a' (.e a)->Tr X (.isN a') (.e (.Compare a [.Is] [.Constant .none n p2] p)):=by
 intro _ _ _ _ _ _ q0;refine⟨λΓ G=>?_,λ_ _ _ _ _ _ h=>nomatch h⟩;have iha:=q0.m Γ G;intro c g ρ r h;simp only[jab]at h;split at h
 .rename_i x ex;cases h;exact DE.isN (iha c g ρ x ex).toT
 .cases h
theorem Tr.bisN:∀{X:Cx}{a':Ex}{a:aj}{n:Nat}{p p2:aO},Tr X a' (.e a)->Tr X (.isN a') (.b (.Compare a [.Is] [.Constant .none n p2] p)):=by
 intro _ _ _ _ _ _ q0;refine⟨λΓ G=>?_,λ_ _ _ _ _ _ _=>trivial⟩;have iha:=q0.m Γ G;intro c g ρ k h;obtain⟨r,h,hk⟩:=Q4 h;simp only[jab]at h;split at h
 .rename_i x ex;cases h;cases hk;exact DB.isN (iha c g ρ x ex).toT
 .cases h
theorem Tr.one:∀{X:Cx}{a':Ex}{a:aj}{op:BoolOp}{p:aO},Tr X a' (.e a)->Tr X a' (.e (.BoolOp op [a] p)):=by intro _ _ _ _ _ q0;refine⟨λΓ G=>?_,λΓ G c g ρ y h σ H Q R k=>(j4r peS).to (q0.x Γ G c g ρ y h σ H Q R k)⟩;have iha:=q0.m Γ G;intro c g ρ r h;exact Has.map (λσ H Q q=>(j4r peS).to q) (iha c g ρ r h)
theorem Tr.and:∀{X:Cx}{a' t':Ex}{a b:aj}{rest:List aj}{p:aO},Tr X a' (.e a)->Tr X t' (.e (.BoolOp .And (b::rest) p))->Tr X (.and a' t') (.e (.BoolOp .And (a::b::rest) p)):=by
 intro _ _ _ _ _ _ _ q0 q1;refine⟨λΓ G=>?_,λ_ _ _ _ _ _ h=>nomatch h⟩;have iha:=q0.m Γ G;have ihb:=q1.m Γ G;intro c g ρ r h;simp only[jk4]at h;split at h
 .rename_i e;cases h;obtain⟨x,ex,ed⟩:=Q4 e;exact(DE.and (m:=a6) ((iha c g ρ x ex).bl ed).toT λz=>by cases z)
 .rename_i e;obtain⟨x,ex,ed⟩:=Q4 e;cases e2:truth (ev Γ G _ (j7 ρ)) with
  |none=>rw[e2]at h;cases h
  |some k =>rw[e2]at h;cases h;obtain⟨y,ey,fd⟩:=Q4 e2;exact(DE.and ((iha c g ρ x ex).bl ed).toT λ_=>(ihb c g ρ y ey).bl fd).eq (by simp)
 .cases h
theorem Tr.wor1:∀{X:Cx}{a':Ex}{a:aj}{p:aO},Tr X a' (.b a)->Tr X a' (.w (.BoolOp .Or [a] p)):=by intro _ _ _ _ q0;refine⟨λΓ G=>?_,λ_ _ _ _ _ _ _=>trivial⟩;have iha:=q0.m Γ G;intro c g ρ k h;exact DW.or1 (iha c g ρ k h)
theorem Tr.wor:∀{X:Cx}{a' t':Ex}{a b:aj}{rest:List aj}{p:aO},Tr X a' (.b a)->Tr X t' (.w (.BoolOp .Or (b::rest) p))->Tr X (.or a' t') (.w (.BoolOp .Or (a::b::rest) p)):=by
 intro _ _ _ _ _ _ _ q0 q1;refine⟨λΓ G=>?_,λ_ _ _ _ _ _ _=>trivial⟩;have iha:=q0.m Γ G;have ihb:=q1.m Γ G;intro c g ρ k h;obtain⟨r,h,hk⟩:=Q4 h;simp only[jlc]at h;split at h
 .rename_i e;cases h;cases hk;exact DW.or (m:=a6) (iha c g ρ a7 e) λz=>by cases z
 .rename_i e;cases e2:truth (ev Γ G _ (j7 ρ)) with
  |none=>rw[e2]at h;cases h
  |some m =>rw[e2]at h;cases h;cases hk;have q:=DW.or (iha c g ρ a6 e) λ_=>ihb c g ρ _ e2;rw[eP]at q;exact q
 .cases h
theorem Tr.bw:∀{X:Cx}{a':Ex}{op:BoolOp}{es:List aj}{p:aO},Tr X a' (.w (.BoolOp op es p))->Tr X a' (.b (.BoolOp op es p)):=by intro _ _ _ _ _ q0;refine⟨λΓ G=>?_,λ_ _ _ _ _ _ _=>trivial⟩;have iha:=q0.m Γ G;intro c g ρ k h;exact DW.toB (iha c g ρ k h)
theorem Tr.bnot:∀{X:Cx}{a':Ex}{a:aj}{p:aO},Tr X a' (.b a)->Tr X (.not a') (.b (.UnaryOp .Not a p)):=by
 intro _ _ _ _ q0;refine⟨λΓ G=>?_,λ_ _ _ _ _ _ _=>trivial⟩;have iha:=q0.m Γ G;intro c g ρ k h;obtain⟨r,h,hk⟩:=Q4 h;simp only[jjz]at h;cases e:truth (ev Γ G _ (j7 ρ)) with
 |none=>rw[e]at h;cases h
 |some m=>rw[e]at h;cases h;cases hk;exact DB.not (iha c g ρ m e)
theorem Tr.bval:∀{X:Cx}{a':Ex}{a:aj}(he:∀whole,fG a X.env whole=(do let v <-whole;kr a.pos;iM [v] (truthy v))),Tr X a' (.e a)->Tr X a' (.b a):=by intro _ _ _ he q0;refine⟨λΓ G=>?_,λ_ _ _ _ _ _ _=>trivial⟩;have iha:=q0.m Γ G;intro c g ρ k h;obtain⟨r,h,hk⟩:=Q4 h;exact DB.val ((iha c g ρ r h).bl hk).toT he
theorem Tr.nil:∀{X:Cx},Tr X .nil (.a []):=by intro _;refine⟨λΓ G=>?_,λ_ _ _ _ _ _ h=>nomatch h⟩;intro c g ρ rs h;simp only[Uu]at h;cases h;exact .nil
theorem Tr.cons:∀{X:Cx}{a' b':Ex}{a:aj}{es:List aj}(hs:a9 (a::es) X.env=(a6,aE a X.env)::a9 es X.env),Tr X a' (.e a)->Tr X b' (.a es)->Tr X (.cons a' b') (.a (a::es)):=by
 intro _ _ _ _ _ hs q0 q1;refine⟨λΓ G=>?_,λΓ G=>?_⟩
 .have iha:=q0.m Γ G;have ihb:=q1.m Γ G;intro c g ρ rs h;simp only[Vs,consW]at h;split at h
  .rename_i x xs ex exs;cases h;exact .cons hs (iha c g ρ x ex) (ihb c g ρ xs exs)
  .cases h
 .skip
  intro c g ρ y h;rw[er]at h;split at h
  .rename_i x ex;cases h;exact DXA.head (q0.x Γ G c g ρ _ ex) hs
  split at h
  .rename_i r ez;exact DXA.tail (q0.m Γ G c g ρ r ez).toT (q1.x Γ G c g ρ y h) hs
  .cases h
theorem Tr.tup:∀{X:Cx}{es':Ex}{es:List aj}{n:Nat}{p:aO},Tr X es' (.a es)->Tr X (.tup es') (.e (.Tuple es n p)):=by
 intro _ _ _ _ _ q0;refine⟨λΓ G=>?_,λ_ _ _ _ _ _ h=>nomatch h⟩;have iha:=q0.m Γ G;intro c g ρ r h;simp only[jju,Yi]at h;split at h
 .rename_i rs ers;split at h
  .rename_i ds hds;obtain⟨z,q⟩:=jw h;cases q;exact DE.tup (n:=0) ((iha c g ρ rs ers).toA hds) (zc z)
  .cases h
 .cases h
theorem Tr.lst:∀{X:Cx}{es':Ex}{es:List aj}{p:aO},Tr X es' (.a es)->Tr X (.lst es') (.e (.List es p)):=by
 intro _ _ _ _ q0;refine⟨λΓ G=>?_,λ_ _ _ _ _ _ h=>nomatch h⟩;have iha:=q0.m Γ G;intro c g ρ r h;simp only[jk0,Zf]at h;split at h
 .rename_i rs ers;split at h
  .rename_i ds hds;obtain⟨z,q⟩:=jw h;cases q;exact DO.lst ((iha c g ρ rs ers).toA hds) (zc z)
  .cases h
 .cases h
theorem Tr.ix:∀{X:Cx}{a' b':Ex}{a b:aj}{p:aO}(hs:Ve b),Tr X a' (.e a)->Tr X b' (.e b)->Tr X (.ix a' b') (.e (.Subscript a b p)):=by
 intro _ _ _ _ _ _ hs q0 q1;refine⟨λΓ G=>?_,λΓ G c g ρ y h σ H Q R k=>(Ba j5f peS peS hs).to (q0.x Γ G c g ρ y (by rw[er]at h;exact h) σ H _ R k)⟩;have iha:=q0.m Γ G;have ihb:=q1.m Γ G;intro c g ρ r h;simp only[jld,ixW]at h;split at h
 .rename_i x y ex ey;split at h
  .rename_i s l i hx hy;cases z:atI l i with
   |none=>rw[z]at h;cases h
   |some d=>rw[z]at h;cases h;exact DE.ixM ((iha c g ρ x ex).toM hx) (hy▸(ihb c g ρ y ey).toT) z hs
  .rename_i i hx hy;split at h
   .rename_i y' ed;split at h
    .rename_i hl;cases z:atI y'.cps.toList i with
     |none=>rw[z]at h;cases h
     |some d=>rw[z]at h;cases h;exact DE.ixC (ed▸(iha c g ρ x ex).toT) (hy▸(ihb c g ρ y ey).toT) (zc hl) z hs
    .cases h
   .cases h
  .cases h
 .cases h
theorem Tr.oN:∀{X:Cx},Tr X .nil (.o a8):=by intro _;refine⟨λΓ G=>?_,λ_ _ _ _ _ _ _=>trivial⟩;intro c g ρ o h;simp only[Uu,Qc]at h;cases h;exact DP.none
theorem Tr.oS:∀{X:Cx}{a':Ex}{a:aj},Tr X a' (.e a)->Tr X (.cons a' .nil) (.o (a5 a)):=by
 intro _ _ _ q0;refine⟨λΓ G=>?_,λ_ _ _ _ _ _ _=>trivial⟩;have iha:=q0.m Γ G;intro c g ρ o h;simp only[Vs,Uu,consW]at h;split at h
 .rename_i x xs ex exs;cases exs;simp only[Qc]at h;split at h
  .rename_i i ei;cases h;exact DP.some (ei▸(iha c g ρ x ex).toT)
  .cases h
 .cases h
theorem Tr.sl:∀{X:Cx}{a' l' h':Ex}{a:aj}{lo hi:Option aj}{p p2:aO},Tr X a' (.e a)->Tr X l' (.o lo)->Tr X h' (.o hi)->Tr X (.sl a' l' h') (.e (.Subscript a (.Slice lo hi a8 p2) p)):=by
 intro _ _ _ _ _ _ _ _ _ q0 q1 q2;refine⟨λΓ G=>?_,λ_ _ _ _ _ _ h=>nomatch h⟩;have iha:=q0.m Γ G;have ihl:=q1.m Γ G;have ihh:=q2.m Γ G;intro c g ρ r h;simp only[jlb]at h;split at h
 .rename_i x l hh ex el eh;split at h
  .rename_i ds e;cases h;exact DO.sliceM ((iha c g ρ x ex).toM e) (ihl c g ρ l el) (ihh c g ρ hh eh)
  .rename_i ds e;split at h
   .cases h
   .rename_i z;cases h;exact DE.sliceM ((iha c g ρ x ex).toM e) (ihl c g ρ l el) (ihh c g ρ hh eh) z
  .split at h
   .rename_i y' ed;obtain⟨z,q⟩:=jw h;cases q;exact DE.sliceS (ed▸(iha c g ρ x ex).toT) (ihl c g ρ l el) (ihh c g ρ hh eh) (zc z)
   .cases h
 .cases h
theorem Tr.call:∀{X:Cx}{f:ah}{es':Ex}{e:aj}{es:List aj}{p p2:aO}(hg:Gl X f) (hdb:(f==k87)=a6) (he:a9 (e::es) X.env=(a6,aE e X.env)::a9 es X.env) (hpl:(aR p2 (a9 es X.env)).any (·.1)=a6),Tr X es' (.a (e::es))->Tr X (.call f es') (.e (.Call (.Name f p) (e::es) [] p2)):=by
 intro _ f _ _ _ _ _ hg hdb he hpl q0;refine⟨λΓ G=>?_,λΓ G=>?_⟩
 .have iha:=q0.m Γ G;intro c g ρ r h;simp only[jhr,Jv]at h;split at h
  .rename_i rs ers;exact j3k g hg hdb he hpl (iha c g ρ rs ers) h
  .cases h
 .skip
  intro c g ρ y h;rw[er]at h;split at h
  .rename_i x ex;split at h
   .rename_i hz;cases h;obtain⟨d,hd⟩:=Xo.mp hz;obtain⟨fa,hfa,hk⟩:=c.fn _ d hd;exact DX.args (q0.x Γ G c g ρ _ ex) hg hdb hfa hk he hpl
   .cases h
  split at h
  .rename_i rs ers;split at h
   .rename_i z ez;split at h
    .rename_i hz;cases h;have q:=g f (rs.map Rk.d);rw[ez]at q;obtain⟨d,hd⟩:=Xo.mp hz;obtain⟨_,o,ho⟩:=c.ec _ d hd;exact DX.call q (q0.m Γ G c g ρ rs ers).toT ⟨rfl,rfl⟩ (W.mg_of c.kin c.ns ho) hg hdb he hpl
    .cases h
   .cases h
  .cases h
theorem Tr.max1:∀{X:Cx}{es':Ex}{e:aj}{p p2:aO}(hq:X.calm=a7)(hg:Gl X "max"),Tr X es' (.a [e])->Tr X (.blt .max es') (.e (.Call (.Name "max" p) [e] [] p2)):=by
 intro _ _ _ _ _ hq hg q0;refine⟨λΓ G=>?_,λ_ _ _ _ _ _ h=>nomatch h⟩;have iha:=q0.m Γ G;intro c g ρ r h;simp only[Yh,v8]at h;split at h
 .rename_i rs ers;cases e:Z7 _ rs with
  |none=>rw[e]at h;cases h
  |some x=>rw[e]at h;cases h;exact Jt (f:=.max) c (λ_=>hq) hg e (iha c g ρ rs ers)
 .cases h
theorem Tr.max:∀{X:Cx}{es':Ex}{e f:aj}{p p2:aO}(hq:X.calm=a7)(hg:Gl X "max"),Tr X es' (.a [e,f])->Tr X (.blt .max es') (.e (.Call (.Name "max" p) [e,f] [] p2)):=by
 intro _ _ _ _ _ _ hq hg q0;refine⟨λΓ G=>?_,λ_ _ _ _ _ _ h=>nomatch h⟩;have iha:=q0.m Γ G;intro c g ρ r h;simp only[Yh,v8]at h;split at h
 .rename_i rs ers;cases e:Z7 _ rs with
  |none=>rw[e]at h;cases h
  |some x=>rw[e]at h;cases h;exact Jt (f:=.max) c (λ_=>hq) hg e (iha c g ρ rs ers)
 .cases h
theorem Tr.len:∀{X:Cx}{es':Ex}{e:aj}{p p2:aO}(hg:Gl X "len"),Tr X es' (.a [e])->Tr X (.blt .len es') (.e (.Call (.Name "len" p) [e] [] p2)):=by
 intro _ _ _ _ _ hg q0;refine⟨λΓ G=>?_,λ_ _ _ _ _ _ h=>nomatch h⟩;have iha:=q0.m Γ G;intro c g ρ r h;simp only[Yh,v8]at h;split at h
 .rename_i rs ers;cases e:Z7 _ rs with
  |none=>rw[e]at h;cases h
  |some x=>rw[e]at h;cases h;exact Jt (f:=.len) c (λz=>by rcases z with z|z|z|z|z<;>cases z) hg e (iha c g ρ rs ers)
 .cases h
theorem Tr.tuple:∀{X:Cx}{es':Ex}{e:aj}{p p2:aO}(hg:Gl X "tuple"),Tr X es' (.a [e])->Tr X (.blt .tuple es') (.e (.Call (.Name "tuple" p) [e] [] p2)):=by
 intro _ _ _ _ _ hg q0;refine⟨λΓ G=>?_,λ_ _ _ _ _ _ h=>nomatch h⟩;have iha:=q0.m Γ G;intro c g ρ r h;simp only[Yh,v8]at h;split at h
 .rename_i rs ers;cases e:Z7 _ rs with
  |none=>rw[e]at h;cases h
  |some x=>rw[e]at h;cases h;exact Jt (f:=.tuple) c (λz=>by rcases z with z|z|z|z|z<;>cases z) hg e (iha c g ρ rs ers)
 .cases h
theorem Tr.list:∀{X:Cx}{es':Ex}{e:aj}{p p2:aO}(hg:Gl X "list"),Tr X es' (.a [e])->Tr X (.blt .list es') (.e (.Call (.Name "list" p) [e] [] p2)):=by
 intro _ _ _ _ _ hg q0;refine⟨λΓ G=>?_,λ_ _ _ _ _ _ h=>nomatch h⟩;have iha:=q0.m Γ G;intro c g ρ r h;simp only[Yh,v8]at h;split at h
 .rename_i rs ers;cases e:Z7 _ rs with
  |none=>rw[e]at h;cases h
  |some x=>rw[e]at h;cases h;exact Jt (f:=.list) c (λz=>by rcases z with z|z|z|z|z<;>cases z) hg e (iha c g ρ rs ers)
 .cases h
theorem Tr.min:∀{X:Cx}{es':Ex}{e f:aj}{p p2:aO}(hq:X.calm=a7)(hg:Gl X "min"),Tr X es' (.a [e,f])->Tr X (.blt .min es') (.e (.Call (.Name "min" p) [e,f] [] p2)):=by
 intro _ _ _ _ _ _ hq hg q0;refine⟨λΓ G=>?_,λ_ _ _ _ _ _ h=>nomatch h⟩;have iha:=q0.m Γ G;intro c g ρ r h;simp only[Yh,v8]at h;split at h
 .rename_i rs ers;cases e:Z7 _ rs with
  |none=>rw[e]at h;cases h
  |some x=>rw[e]at h;cases h;exact Jt (f:=.min) c (λ_=>hq) hg e (iha c g ρ rs ers)
 .cases h
theorem Tr.sum:∀{X:Cx}{es':Ex}{e:aj}{p p2:aO}(hq:X.calm=a7)(hg:Gl X "sum"),Tr X es' (.a [e])->Tr X (.blt .sum es') (.e (.Call (.Name "sum" p) [e] [] p2)):=by
 intro _ _ _ _ _ hq hg q0;refine⟨λΓ G=>?_,λ_ _ _ _ _ _ h=>nomatch h⟩;have iha:=q0.m Γ G;intro c g ρ r h;simp only[Yh,v8]at h;split at h
 .rename_i rs ers;cases e:Z7 _ rs with
  |none=>rw[e]at h;cases h
  |some x=>rw[e]at h;cases h;exact Jt (f:=.sum) c (λ_=>hq) hg e (iha c g ρ rs ers)
 .cases h
theorem Tr.intc:∀{X:Cx}{es':Ex}{e:aj}{p p2:aO}(hg:Gl X "int"),Tr X es' (.a [e])->Tr X (.blt .int es') (.e (.Call (.Name "int" p) [e] [] p2)):=by
 intro _ _ _ _ _ hg q0;refine⟨λΓ G=>?_,λ_ _ _ _ _ _ h=>nomatch h⟩;have iha:=q0.m Γ G;intro c g ρ r h;simp only[Yh,v8]at h;split at h
 .rename_i rs ers;cases e:Z7 _ rs with
  |none=>rw[e]at h;cases h
  |some x=>rw[e]at h;cases h;exact Jt (f:=.int) c (λz=>by rcases z with z|z|z|z|z<;>cases z) hg e (iha c g ρ rs ers)
 .cases h
theorem Tr.join:∀{X:Cx}{a':Ex}{a:aj}{sep:ah}{n:Nat}{p0 p1 p2:aO}(hbase:aV (.Constant (.str sep) n p0) "join" X.env (aE (.Constant (.str sep) n p0) X.env)=aE (.Constant (.str sep) n p0) X.env) (hfew:((aR p2 (a9 [a] X.env)).all (λx=>!x.1)&&(bH p2 (bf [] X.env)).all (λx=>x.1.isSome)&&decide (([a]:List aj).length+([]:List aX).length+(if ([]:List aX).isEmpty then 0 else 1)<30))=a7) (hline:(p1.endLine==p2.line)=a7) (hs:a9 [a] X.env=(a6,aE a X.env)::a9 [] X.env),Tr X a' (.e a)->Tr X (.join sep a') (.e (.Call (.Attribute (.Constant (.str sep) n p0) "join" p1) [a] [] p2)):=by
 intro _ _ _ _ _ _ _ _ hbase hfew hline hs q0;refine⟨λΓ G=>?_,λ_ _ _ _ _ _ h=>nomatch h⟩;have iha:=q0.m Γ G;intro c g ρ r h;simp only[jhn,Ro]at h;split at h
 .rename_i x ex;split at h
  .rename_i l el;split at h
   .rename_i ts et;obtain⟨z,q⟩:=jw h;cases q;have:=Vw et;subst this;exact DE.join (el▸(iha c g ρ x ex).toT) z hfew hbase hline hs
   .cases h
  .cases h
 .cases h
theorem Tr.srt:∀{X:Cx}{a':Ex}{a:aj}{p pos:aO}(hg:Gl X "sorted") (hs:a9 [a] X.env=[(a6,aE a X.env)]),Tr X a' (.e a)->Tr X (.srt a') (.e (.Call (.Name "sorted" p) [a] [] pos)):=by
 intro _ _ _ _ _ hg hs q0;refine⟨λΓ G=>?_,λ_ _ _ _ _ _ h=>nomatch h⟩;have iha:=q0.m Γ G;intro c g ρ r h;simp only[jjw,Np]at h;split at h
 .rename_i x ex;have z:=(iha c g ρ x ex).toT;split at h
  .rename_i l el;rw[el]at z;split at h
   .rename_i ts et;split at h
    .rename_i hl;cases h;exact DO.sortedS (.inl (by rw[Vw et])) hl (c.bt _ (by decide)) hg z hs
    .cases h
   .split at h
    .rename_i ks ek;cases e:Kq ks with
     |none=>rw[e]at h;cases h
     |some S =>rw[e]at h;cases h;exact DO.sortedT e (c.bt _ (by decide)) hg (by rw[Ka ek]at z;exact z) hs
    .cases h
  .rename_i l el;rw[el]at z;split at h
   .rename_i ts et;split at h
    .rename_i hl;cases h;exact DO.sortedS (.inr (by rw[Vw et])) hl (c.bt _ (by decide)) hg z hs
    .cases h
   .cases h
  .cases h
 .cases h
theorem Tr.tix:∀{X:Cx}{a' b':Ex}{a e:aj}{p1 p2:aO}(hbase:aV a "index" X.env (aE a X.env)=aE a X.env) (hfew:((aR p2 (a9 [e] X.env)).all (λx=>!x.1)&&(bH p2 (bf [] X.env)).all (λx=>x.1.isSome)&&decide (([e]:List aj).length+([]:List aX).length+(if ([]:List aX).isEmpty then 0 else 1)<30))=a7) (hline:(p1.endLine==p2.line)=a7) (hs:a9 [e] X.env=(a6,aE e X.env)::a9 [] X.env),Tr X a' (.e a)->Tr X b' (.e e)->Tr X (.tix a' b') (.e (.Call (.Attribute a "index" p1) [e] [] p2)):=by
 intro _ _ _ _ _ _ _ hbase hfew hline hs q0 q1;refine⟨λΓ G=>?_,λ_ _ _ _ _ _ h=>nomatch h⟩;have iha:=q0.m Γ G;have ihb:=q1.m Γ G;intro c g ρ r h;simp only[jjv,Uy]at h;split at h
 .rename_i x y ex ey;split at h
  .rename_i l el;by_cases z:D.depL l<=90/\y.d.dep<=90
   .rw[if_pos z]at h;cases e:ixD y.d l with
    |none=>rw[e]at h;cases h
    |some k=>rw[e]at h;cases h;exact DE.indexT c.un' (el▸(iha c g ρ x ex).toT) (ihb c g ρ y ey).toT nofun nofun e hbase hfew hline hs
   .rw[if_neg z]at h;cases h
  .rename_i l el;by_cases z:D.depL l<=90/\y.d.dep<=90
   .rw[if_pos z]at h;cases e:ixD y.d l with
    |none=>rw[e]at h;cases h
    |some k=>rw[e]at h;cases h;exact DE.indexL c.un' (el▸(iha c g ρ x ex).toT) (ihb c g ρ y ey).toT nofun nofun e hbase hfew hline hs
   .rw[if_neg z]at h;cases h
  .cases h
 .cases h
theorem Tr.dix:∀{X:Cx}{a' b':Ex}{a b:aj}{p:aO}(hs:Ve b),Tr X a' (.e a)->Tr X b' (.e b)->Tr X (.dix a' b') (.e (.Subscript a b p)):=by
 intro _ _ _ _ _ _ hs q0 q1;refine⟨λΓ G=>?_,λ_ _ _ _ _ _ h=>nomatch h⟩;have iha:=q0.m Γ G;have ihb:=q1.m Γ G;intro c g ρ r h;simp only[jk2,Fv]at h;split at h
 .rename_i x y ex ey;split at h
  .rename_i kvs k ek eky;cases e:dval kvs k with
   |none=>rw[e]at h;cases h
   |some n=>rw[e]at h;cases h;exact DE.dix (ek▸(iha c g ρ x ex).toT) (eky▸(ihb c g ρ y ey).toT) e hs
  .cases h
 .cases h
theorem Tr.enum:∀{X:Cx}{a':Ex}{a:aj}{es:List aj}{n:Nat}{p p2 pt:aO}(hg:Gl X "enumerate") (hs:a9 [a] X.env=[(a6,aE a X.env)]),Tr X a' (.e a)->Tr X (.enum a') (.i (.Tuple es n pt) (.Call (.Name "enumerate" p) [a] [] p2)):=by
 intro _ _ _ _ _ _ _ _ hg hs q0;refine⟨λΓ G=>?_,λ_ _ _ _ _ _ _=>trivial⟩;have iha:=q0.m Γ G;intro c g ρ ds h;simp only[jhp,Rr]at h;split at h
 .rename_i x ex;have ha:=iha c g ρ x ex;split at h
  .rename_i l e1;cases h;exact DI.enum a7 (ha.toE e1) (c.bt _ (by decide)) hg hs
  .rename_i l e1;cases h;exact DI.enum a6 (ha.toE e1) (c.bt _ (by decide)) hg hs
  .cases h
 .cases h
theorem Tr.isi1:∀{X:Cx}{a':Ex}{a:aj}{T:ah}{c:String}{p p1 p2:aO}(hT:T∈Zc) (hv:bj T=a5 (.type c)) (hg:Gl X "isinstance") (hg2:Gl X T) (hn:T ≠ "__name__") (hd:(T==k87)=a6) (hs:a9 [a,.Name T p1] X.env=(a6,aE a X.env)::a9 [.Name T p1] X.env),Tr X a' (.e a)->Tr X (.isi a' [c]) (.e (.Call (.Name "isinstance" p) [a,.Name T p1] [] p2)):=by
 intro _ _ _ _ _ _ _ _ hT hv hg hg2 hn hd hs q0;refine⟨λΓ G=>?_,λ_ _ _ _ _ _ h=>nomatch h⟩;have iha:=q0.m Γ G;intro c g ρ r h;simp only[jaa,Fb]at h;split at h
 .rename_i x ex;cases e:jy x.d _ with
  |none=>rw[e]at h;cases h
  |some k =>
   rw[e]at h;cases h;refine DE.isi1 (iha c g ρ x ex).toT (j1t e) (c.bt _ (by decide)) (c.bt _ hT) hv ?_ hg hg2 hn hd hs rfl rfl;simp only[jy]at e;split at e
   .rename_i k1 k2 e1 e2;cases e2;cases e;rw[eO];exact j1p e1
   .cases e
 .cases h
theorem Tr.isi2:∀{X:Cx}{a':Ex}{a:aj}{T U:ah}{c d:String}{n:Nat}{p p1 p2 p3 p4:aO} (hT:T∈Zc) (hU:U∈Zc) (hv:bj T=a5 (.type c)) (hw:bj U=a5 (.type d)) (hg:Gl X "isinstance") (hg1:Gl X T) (hg2:Gl X U) (hn:T ≠ "__name__") (hd:(T==k87)=a6) (hn2:U ≠ "__name__") (hd2:(U==k87)=a6) (hs:a9 [a,.Tuple [.Name T p1,.Name U p3] n p4] X.env=(a6,aE a X.env)::a9 [.Tuple [.Name T p1,.Name U p3] n p4] X.env),Tr X a' (.e a)->Tr X (.isi a' [c,d]) (.e (.Call (.Name "isinstance" p) [a,.Tuple [.Name T p1,.Name U p3] n p4] [] p2)):=by
 intro _ _ _ _ _ _ _ _ _ _ _ _ _ hT hU hv hw hg hg1 hg2 hn hd hn2 hd2 hs q0;refine⟨λΓ G=>?_,λ_ _ _ _ _ _ h=>nomatch h⟩;have iha:=q0.m Γ G;intro c g ρ r h;simp only[jaa,Fb]at h;split at h
 .rename_i x ex;cases e:jy x.d _ with
  |none=>rw[e]at h;cases h
  |some k =>rw[e]at h;cases h;exact DE.isi2 (iha c g ρ x ex).toT (j1t e) (c.bt _ (by decide)) (c.bt _ hT) (c.bt _ hU) hv hw (Eo e) hg hg1 hg2 hn hd hn2 hd2 hs rfl rfl rfl rfl
 .cases h
theorem Tr.c0:∀{X:Cx},Tr X .nil (.c []):=by intro _;refine⟨λΓ G=>?_,λ_ _ _ _ _ _ _=>trivial⟩;intro c g ρ;exact⟨λ_=>DTs.nil,λy k h=>by simp only[Uu]at h;cases h⟩
theorem Tr.c1:∀{X:Cx}{c':Ex}{c:aj},Tr X c' (.b c)->Tr X (.cons c' .nil) (.c [c]):=by
 intro _ _ _ q0;refine⟨λΓ G=>?_,λ_ _ _ _ _ _ _=>trivial⟩;have iha:=q0.m Γ G;intro c g ρ;refine⟨λh=>?_,λy k h hk=>DTs.one ?_⟩
 .simp only[Vs,Uu,consW]at h;split at h<;>cases h
 .simp only[Vs,Uu,consW]at h;split at h
  .rename_i x xs ex exs;cases exs;cases h;exact iha c g ρ k (by rw[ex];simp only[truth,hk])
  .cases h
theorem Tr.comp1:∀{X:Cx}{i:Nat}{y:ah}{py p:aO}{elt' it' c':Ex}{elt it:aj}{ifs:List aj} {scope:bq} (hq:X.calm=a7) (hi:X.N[i]?=a5 y) (hl:V4 scope y=a7) (hkind:scope.kind=.function) (hok:J3 scope X.env X.N [i]=a7) (hs:∀x,aK it X.env x=pure x),Tr X it' (.i (.Name y py) it)->(∀C s H fp pn,Tr (cCx X scope C s H fp pn) elt' (.e elt))->(∀C s H fp pn,Tr (cCx X scope C s H fp pn) c' (.c ifs))->Tr X (.comp [i] elt' it' c') (.e (.ListComp elt [⟨.Name y py,it,ifs,0⟩] scope p)):=by
 intro _ _ _ _ _ _ _ _ _ _ _ _ hq hi hl hkind hok hs q0 q1 q2;refine⟨λΓ G=>?_,λ_ _ _ _ _ _ h=>nomatch h⟩;have ihi:=q0.m Γ G;have ihe:=λC s H fp pn=>(q1 C s H fp pn).m Γ G;have ihc:=λC s H fp pn=>(q2 C s H fp pn).m Γ G;intro c g ρ r h;obtain⟨l,e,q⟩:=N6 hq c (λρ ds z=>ihi c g ρ ds z) hkind hok hs (λρ d ρ2 hb hun=>by
  simp only[v6]at hb
  cases hb
  have hu:=hun _ (X6.mpr rfl)
  exact⟨_,ji,Wk.set hu,Zo hu,λC s H fp pn=>DG.name _ c.nd hi (Wy hl) (Oi hl)⟩)
  (λC s H fp pn ρ r z=>ihe C s H fp pn c.comp g.comp ρ r z) (λC s H fp pn ρ=>ihc C s H fp pn c.comp g.comp ρ) h
 subst e;exact q
theorem Tr.comp2:∀{X:Cx}{i j:Nat}{x y:ah}{px py pt p:aO}{n:Nat}{elt' it' c':Ex}{elt it:aj} {ifs:List aj} {scope:bq} (hq:X.calm=a7) (hij:i≠j) (hi:X.N[i]?=a5 x) (hj:X.N[j]?=a5 y) (hl:V4 scope x=a7) (hl':V4 scope y=a7) (hkind:scope.kind=.function) (hok:J3 scope X.env X.N [i,j]=a7) (hs:∀x,aK it X.env x=pure x),Tr X it' (.i (.Tuple [.Name x px,.Name y py] n pt) it)->(∀C s H fp pn,Tr (cCx X scope C s H fp pn) elt' (.e elt))->(∀C s H fp pn,Tr (cCx X scope C s H fp pn) c' (.c ifs))->Tr X (.comp [i,j] elt' it' c') (.e (.ListComp elt [⟨.Tuple [.Name x px,.Name y py] n pt,it,ifs,0⟩] scope p)):=by
 intro _ i j _ _ _ _ _ _ _ _ _ _ _ _ _ _ hq hij hi hj hl hl' hkind hok hs q0 q1 q2;refine⟨λΓ G=>?_,λ_ _ _ _ _ _ h=>nomatch h⟩;have ihi:=q0.m Γ G;have ihe:=λC s H fp pn=>(q1 C s H fp pn).m Γ G;have ihc:=λC s H fp pn=>(q2 C s H fp pn).m Γ G;intro c g ρ r h;obtain⟨l,e,q⟩:=N6 hq c (λρ ds z=>ihi c g ρ ds z) hkind hok hs (λρ d ρ2 hb hun=>by
  simp only[v6]at hb
  split at hb
  .rename_i a b
   cases hb
   have hu:=hun _ (xm ..)
   have hu':=hun _ (km _ (X6.mpr rfl))
   have h1:(ρ.set i (.val a))[j]?=a5 Sl.un:=by rw[qj hij];exact hu'
   exact⟨(ρ.set i (.val a)).set j (.val b),by rw[ji,ji];rfl,λK σ H R=>Wk.set hu K σ H (Wk.set h1 K σ H R),by rw[Zo h1,Zo hu],
    λC s H fp pn=>DG.pair _ _ hij c.nd hi hj (Wy hl) (Wy hl') (Oi hl) (Oi hl') hq⟩
  .cases hb)
  (λC s H fp pn ρ r z=>ihe C s H fp pn c.comp g.comp ρ r z) (λC s H fp pn ρ=>ihc C s H fp pn c.comp g.comp ρ) h
 subst e;exact q
theorem Tr.seq:∀{X:Cx}{a':Ex}{tg a:aj},Tr X a' (.e a)->Tr X (.seq a') (.i tg a):=by
 intro _ _ _ _ q0;refine⟨λΓ G=>?_,λ_ _ _ _ _ _ _=>trivial⟩;have iha:=q0.m Γ G;intro c g ρ ds h;simp only[jjx,Mq]at h;split at h
 .rename_i l e;cases h;exact DI.lst (iha c g ρ _ e)
 .rename_i l e;cases h;exact DI.tup (iha c g ρ _ e)
 .rename_i l e;cases h;exact DI.lst (DO.toE (iha c g ρ _ e))
 .rename_i y e;obtain⟨z,q⟩:=jw h;cases q;exact DI.str (iha c g ρ _ e).toT z
 .cases h
theorem Tr.range:∀{X:Cx}{es':Ex}{tg:aj}{es:List aj}{p p2:aO}(hg:Gl X "range"),Tr X es' (.a es)->Tr X (.range es') (.i tg (.Call (.Name "range" p) es [] p2)):=by
 intro _ _ _ _ _ _ hg q0;refine⟨λΓ G=>?_,λ_ _ _ _ _ _ _=>trivial⟩;have iha:=q0.m Γ G;intro c g ρ ds h;simp only[jdd,W4]at h;split at h
 .rename_i x ex;have q:=iha c g ρ _ ex;cases q with|cons hs hx t =>
  cases t;split at h
  .rename_i n en;obtain⟨z,q⟩:=jw h;cases q;exact DI.range1 (en▸hx.toT) (c.bt _ (by decide)) z.1 z.2 hg hs
  .cases h
 .rename_i x y ex;have q:=iha c g ρ _ ex;cases q with|cons hs hx t =>
  cases t with|cons hs2 hy t2 =>
  cases t2;split at h
  .rename_i m n em en;obtain⟨z,q⟩:=jw h;cases q;exact DI.range2 (em▸hx.toT) (en▸hy.toT) (c.bt _ (by decide)) z.1 z.2.1 z.2.2.1 z.2.2.2 hg (by rw[hs,hs2];rfl) hs2 hs
  .cases h
 .cases h
theorem Tr.p0:∀{X:Cx},Tr X .nil (.p []):=by intro _;refine⟨λΓ G=>?_,λ_ _ _ _ _ _ _=>trivial⟩;intro c g ρ rs h;simp only[Uu]at h;cases h;trivial
theorem Tr.pC:∀{X:Cx}{y:ah}{n:Nat}{p:aO}{b':Ex}{es:List aj},Tr X b' (.p es)->Tr X (.cons (.lit (.str y)) b') (.p (.Constant (.str y) n p::es)):=by
 intro _ _ _ _ _ _ q0;refine⟨λΓ G=>?_,λ_ _ _ _ _ _ _=>trivial⟩;have ihb:=q0.m Γ G;intro c g ρ rs h;simp only[Vs,K7,consW]at h;split at h
 .rename_i x xs ex exs;cases h;cases ex;refine⟨λz hz=>?_,ihb c g ρ xs exs⟩;have hz:(if _ then a5 _ else a8)=a5 z:=hz;split at hz
  .cases hz;exact DE.str
  .cases hz
 .cases h
theorem Tr.pR:∀{X:Cx}{a' b':Ex}{a:aj}{p:aO}{es:List aj},Tr X a' (.e a)->Tr X b' (.p es)->Tr X (.cons (.rpr a') b') (.p (.FormattedValue a 114 a8 p::es)):=by
 intro _ a' b' _ _ _ q0 q1;refine⟨λΓ G=>?_,λ_ _ _ _ _ _ _=>trivial⟩;have iha:=q0.m Γ G;have ihb:=q1.m Γ G;intro c g ρ rs h;rw[Vs]at h;unfold consW at h;split at h
 .rename_i x xs ex exs;cases h;obtain⟨z,w,ez,ew,hl,rfl⟩:=jed ex;refine⟨λy hy=>?_,ihb c g ρ xs exs⟩;have hy:(if (aQ w).length<=10000 then a5 (aQ w)else a8)=a5 y:=hy;rw[if_pos (Xd hl (by decide))]at hy;cases hy;exact DE.fmtR (ew▸(iha c g ρ z ez).toT) (Xd hl (by decide))
 .cases h
theorem Tr.pF:∀{X:Cx}{a' b':Ex}{a:aj}{p:aO}{es:List aj}(hq:X.calm=a7),Tr X a' (.e a)->Tr X b' (.p es)->Tr X (.cons a' b') (.p (.FormattedValue a (-1) a8 p::es)):=by
 intro _ _ _ _ _ _ hq q0 q1;refine⟨λΓ G=>?_,λ_ _ _ _ _ _ _=>trivial⟩;have iha:=q0.m Γ G;have ihb:=q1.m Γ G;intro c g ρ rs h;simp only[Vs,consW]at h;split at h
 .rename_i x xs ex exs;cases h;exact⟨λy hy=>DE.fmt (c.gd hq) c.un' (iha c g ρ x ex).toT hy,ihb c g ρ xs exs⟩
 .cases h
theorem Tr.fst:∀{X:Cx}{es':Ex}{a b:aj}{es:List aj}{p:aO},Tr X es' (.p (a::b::es))->Tr X (.fst es') (.e (.JoinedStr (a::b::es) p)):=by
 intro _ _ _ _ _ _ q0;refine⟨λΓ G=>?_,λ_ _ _ _ _ _ h=>nomatch h⟩;have ih:=q0.m Γ G;intro c g ρ r h;simp only[jk1,O1]at h;split at h
 .rename_i rs ers;split at h
  .rename_i hl;cases e:Jm rs with
   |none=>rw[e]at h;cases h
   |some ys =>rw[e]at h;cases h;obtain⟨z1,z2⟩:=(ih c g ρ rs ers).all e;exact DE.joined z1 (M3 e) (by rw[z2];exact hl)
  .cases h
 .cases h
theorem Tr.isxV:∀{X:Cx}{i:Nat}{y:ah}{p p1 p2 pos:aO}(hN:X.N[i]?=a5 y) (hv:Vis X.env.scope y) (hd:(y==k87)=a6) (hcd:(y==k88)=a6) (hg:Gl X "isinstance") (hg2:Gl X "ValueError") (hs:a9 [.Name y p1,.Name "ValueError" p2] X.env=(a6,aE (.Name y p1) X.env)::a9 [.Name "ValueError" p2] X.env),Tr X (.isx i ["ValueError"]) (.e (.Call (.Name "isinstance" p) [.Name y p1,.Name "ValueError" p2] [] pos)):=by
 intro _ _ _ _ _ _ _ hN hv hd hcd hg hg2 hs;refine⟨λΓ G=>?_,λ_ _ _ _ _ _ h=>nomatch h⟩;intro c g ρ r h;simp only[j3p]at h;split at h
 .rename_i x e1 e2;split at h
  .rename_i hx;cases h;obtain⟨a,o,q⟩:=Oc e1;exact DE.isxV c.ea (Pb.mp hx) q (c.bt _ (by decide)) (c.bt _ (by decide)) hN hv hd hcd hg hg2 hs rfl rfl
  .cases h
 .cases h
theorem Tr.isx1:∀{X:Cx}{i:Nat}{y c:ah}{p p1 p2 pos:aO}(hc:c∈jn)(hcV:(c==("ValueError":ah))=a6) (hN:X.N[i]?=a5 y) (hv:Vis X.env.scope y) (hd:(y==k87)=a6) (hcd:(y==k88)=a6) (hg:Gl X "isinstance") (hg2:Gl X c) (hdb:(c==k87)=a6) (hs:a9 [.Name y p1,.Name c p2] X.env=(a6,aE (.Name y p1) X.env)::a9 [.Name c p2] X.env),Tr X (.isx i [c]) (.e (.Call (.Name "isinstance" p) [.Name y p1,.Name c p2] [] pos)):=by
 intro _ _ _ _ _ _ _ _ hc hcV hN hv hd hcd hg hg2 hdb hs;refine⟨λΓ G=>?_,λ_ _ _ _ _ _ h=>nomatch h⟩;intro c g ρ r h;simp only[j3p]at h;split at h
 .rename_i x e1 e2;split at h
  .rename_i hx;cases h;obtain⟨a,o,q⟩:=Oc e1;obtain⟨v,hv1⟩:=c.el e2 _ hc;simp only[tu,kA,hcV,eP,eO];exact DE.isx1 c.ea (Pb.mp hx) q (c.bt _ (by decide)) hc hv1 (W.mg_of c.kin c.ns hv1) hN hv hd hcd hg hg2 hdb hs rfl rfl
  .cases h
 .cases h
theorem Tr.isx2:∀{X:Cx}{i:Nat}{y c1 c2:ah}{m:Nat}{p p1 p2 p3 p4 pos:aO}(hc1:c1∈jn)(hc2:c2∈jn) (hcV1:(c1==("ValueError":ah))=a6) (hcV2:(c2==("ValueError":ah))=a6) (hN:X.N[i]?=a5 y) (hv:Vis X.env.scope y) (hd:(y==k87)=a6) (hcd:(y==k88)=a6) (hg:Gl X "isinstance") (hg1:Gl X c1) (hg2:Gl X c2) (hdb1:(c1==k87)=a6) (hdb2:(c2==k87)=a6) (hs:a9 [.Name y p1,.Tuple [.Name c1 p2,.Name c2 p3] m p4] X.env=(a6,aE (.Name y p1) X.env)::a9 [.Tuple [.Name c1 p2,.Name c2 p3] m p4] X.env),Tr X (.isx i [c1,c2]) (.e (.Call (.Name "isinstance" p) [.Name y p1,.Tuple [.Name c1 p2,.Name c2 p3] m p4] [] pos)):=by
 intro _ _ _ _ _ _ _ _ _ _ _ _ hc1 hc2 hcV1 hcV2 hN hv hd hcd hg hg1 hg2 hdb1 hdb2 hs;refine⟨λΓ G=>?_,λ_ _ _ _ _ _ h=>nomatch h⟩;intro c g ρ r h;simp only[j3p]at h;split at h
 .rename_i x e1 e2;split at h
  .rename_i hx;cases h;obtain⟨a,o,q⟩:=Oc e1;obtain⟨v1,hv1⟩:=c.el e2 _ hc1;obtain⟨v2,hv2⟩:=c.el e2 _ hc2;simp only[tu,kA,hcV1,hcV2,eP,eO];exact DE.isx2 c.ea (Pb.mp hx) q (c.bt _ (by decide)) hc1 hc2 hv1 hv2 (W.mg_of c.kin c.ns hv1) (W.mg_of c.kin c.ns hv2) hN hv hd hcd hg hg1 hg2 hdb1 hdb2 hs rfl rfl rfl rfl
  .cases h
 .cases h
section
variable{Γ:ah->List D->Rc}{G:ah->Option D}{X:Cx}
theorem sound{t:Ex}{nd:Nd}(h:Tr X t nd):Cok X G->Gok X Γ->jhy Γ G X t nd:=h.m Γ G
theorem Ks{t:Ex}{nd:Nd}(h:Tr X t nd):Cok X G->Gok X Γ->∀ρ y,er Γ G t (j7 ρ)=a5 y->XM X ρ y nd:=h.x Γ G
end
inductive Px where
 |nop
inductive Dx where
 |fill (s t:Nat) (c:Ex) (f:ah) (es:Ex)
 |minc (t j:Nat) (it:Ex) (f:ah) (es:Ex)
 |maxc (t j:Nat) (it:Ex) (f:ah) (es:Ex)
inductive So where
 |next (ρ:En)
 |ret (r:Rc)
 |brk (ρ:En)
 |cnt (ρ:En)
 |err (x:ah) (ρ:En)
 |no
inductive Sx where
 |nop
 |seq (a b:Sx)
 |set (i:Nat) (e:Ex)
 |mov (i j:Nat)
 |expr (e:Ex)
 |ret (e:Ex)
 |retV (i:Nat)
 |ife (c:Ex) (a b:Sx)
 |loop (is:List Nat) (it:Ex) (body:Sx)
 |app (i:Nat) (e:Ex)
 |ext (i:Nat) (e:Ex)
 |fgt (i:Nat)
 |keep (i:Nat)
 |apop (i w:Nat) (e:Ex)
 |px (p:Px)
 |dx (p:Dx)
 |lmk (x:Nat) (g:ah) (es:Ex)
 |prm (g:Nat->(ah->List D->Rc)->(ah->Option D)->En->So)
 |raise (x:ah) (e:Ex)
 |tryK (b:Sx) (i j:Nat)
 |fail
noncomputable def orE(o:So)(x:Option ah)(ρ:En):So:=match o with
 |.no=>match x with
  |some y=>.err y ρ
  |none=>.no
 |o=>o
noncomputable def Q0(f:D->En->So):List D->En->So
 |[],ρ=>.next ρ
 |d::ds,ρ=>match f d ρ with
  |.next ρ'=>Q0 f ds ρ'
  |.cnt ρ'=>Q0 f ds ρ'
  |.brk ρ'=>.next ρ'
  |.ret r=>.ret r
  |.err x ρ'=>.err x ρ'
  |.no=>.no
noncomputable def stOf:Option W->Option D
 |some (.v x)=>x.st
 |_=>a8
noncomputable def Yk(i:Nat)(w:Option W)(ρ:En):So:=match w with
 |some (.v (.o l))=>.next (ρ.set i (.own l))
 |some (.v x)=>match x.st with
  |some d=>.next (ρ.set i (.val d))
  |none=>.no
 |_=>.no
noncomputable def retS(w:Option W):So:=match w with
 |some (.v (.o l))=>.ret (.fresh l)
 |some (.v x)=>.ret (.val x.d)
 |_=>.no
noncomputable def Rb(s:Option Sv):So:=match s with
 |some (.own l)=>.ret (.fresh l)
 |some (.val d)=>.ret (.val d)
 |_=>.no
noncomputable def Ed(i j:Nat)(s:Option Sv)(ρ:En):So:=match s with
 |some (.own l)=>if i=j then .no else .next ((ρ.set j .un).set i (.own l))
 |some (.val d)=>.next (ρ.set i (.val d))
 |_=>.no
noncomputable def Ft(w:Option W)(ρ:En):So:=match w with
 |some (.v _)=>.next ρ
 |_=>.no
noncomputable def Wv(i:Nat)(s:Option Sv)(w:Option W)(ρ:En):So:=match s,w with
 |some (.own l),a5 (.v x)=>match x.st with
  |some d=>if l.length<ak then .next (ρ.set i (.own (l++[d])))else .no
  |none=>.no
 |_,_=>.no
noncomputable def Fq(i:Nat)(s:Option Sv)(w:Option W)(ρ:En):So:=match s,w with
 |some (.own l),a5 (.v (.o m))=>if jl (l.length+m.length)=a7 then .next (ρ.set i (.own (l++m)))else .no
 |_,_=>.no
noncomputable def Nu(x:ah)(w:Option W)(d:Option D)(ρ:En):So:=match w,d with
 |some (.v _),a5 _=>.err x ρ
 |_,_=>.no
noncomputable def Bg(i:Nat)(v:Option Sv)(ρ:En):So:=match v with
 |some (.own l)=>.next (ρ.set i (.val (.lst l)))
 |some (.val _)=>.next ρ
 |_=>.no
noncomputable def Rz(i w:Nat)(s t:Option Sv)(x:Option W)(ρ:En):So:=match s,t,x with
 |some (.own l),a5 (.own m),a5 (.v y)=>match y.st with
  |some (.int z)=>match ixN m.length z with
   |some k=>match m[k]? with
    |some d=>if i≠w/\l.length<ak/\m.length<=1000000 then .next ((ρ.set w (.own (m.eraseIdx k))).set i (.own (l++[d])))else .no
    |none=>.no
   |none=>.no
  |_=>.no
 |_,_,_=>.no
noncomputable def O9:Sx->List Nat
 |.seq a b=>O9 a++O9 b
 |.set i _=>[i]
 |.ife _ a b=>O9 a++O9 b
 |_=>[]
noncomputable def Nt(Γ:ah->List D->Rc)(G:ah->Option D):Sx->En->Option En
 |.nop,ρ=>a5 ρ
 |.seq a b,ρ=>match Nt Γ G a ρ with
  |some r=>Nt Γ G b r
  |none=>a8
 |.set i e,ρ=>match stOf (ev Γ G e ρ) with
  |some d=>a5 (ρ.set i (.val d))
  |none=>a8
 |.ife c a b,ρ=>match truth (ev Γ G c ρ) with
  |some a7=>Nt Γ G a ρ
  |some a6=>Nt Γ G b ρ
  |none=>a8
 |_,_=>a8
inductive Sm where
 |next (ρ:En) (k:Nat)
 |ret (d:D) (k:Nat)
 |err (x:ah) (ρ:En)
 |no
noncomputable def Ih(fu:Nat)(Γ:ah->List D->Rc)(G:ah->Option D)(ls:List ah):Px->En->Nat->Sm
 |.nop,ρ,k=>.next ρ k
noncomputable def pxS(l k:Option Sv)(r:List ah->Nat->Sm):So:=match l,k with
 |some (.val (.lst l)),a5 (.val (.int k))=>match strsOf l with
  |some ls=>if 0<=k then match r ls k.toNat with
    |.ret d k'=>.ret (.mval d k')
    |.err x _=>.ret (.merr x)
    |_=>.no
   else .no
  |none=>.no
 |_,_=>.no
noncomputable def K4(Γ:ah->List D->Rc)(f:ah)(a:Option W)(ks:List (List Int))(ns:List Int):Option (D×List (List Int)×List Int):=match a with
 |some (.a rs)=>match v9 rs with
  |some ds=>match Γ (dq f) (.dct ks (ns.map D.int)::ds) with
   |.dval d ks' ns'=>a5 (d,ks',ns')
   |_=>a8
  |none=>a8
 |_=>a8
noncomputable def j31(f:D->List (List Int)->List Int->Option (D×List (List Int)×List Int)):List D->List (List Int)->List Int->Option (List D×List (List Int)×List Int)
 |[],ks,ns=>a5 ([],ks,ns)
 |d::l,ks,ns=>match f d ks ns with
  |none=>a8
  |some (r,ks1,ns1)=>match j31 f l ks1 ns1 with
   |none=>a8
   |some (rs,ks2,ns2)=>a5 (r::rs,ks2,ns2)
noncomputable def j4u:List D->List D->Option (List (List Int))
 |[],[]=>a5 []
 |.int n::rs,.int s::ds=>(j4u rs ds).map ([n,s] :: ·)
 |_,_=>a8
noncomputable def jl3(s:Option Sv):Bool:=match s with
 |some .un=>a7
 |_=>a6
noncomputable def lsD(t j:Nat)(w:Option W)(ρ:En):Option (List D×En):=match w with
 |some (.v (.o l))=>if l.length<=1000/\j≠0/\t≠0/\j≠t/\jl3 ρ[j]?=a7/\t<ρ.length then a5 (l,ρ.set t (.val (.lst l)))else a8
 |_=>a8
noncomputable def jji(s t:Nat)(ρ:En)(ks:List (List Int))(ns:List Int)(c:Option W)(call:Option (D×List (List Int)×List Int)):Option (D×List (List Int)×List Int):=match ρ[s]? with
 |some (.val (.tup l))=>match intsOf l with
  |some k=>if t<ρ.length/\t≠0/\s≠t then(if ks.contains k=a7 then(j3e ks (ns.map D.int) k).map λd=>(d,ks,ns)else match c with
    |some (.v r)=>match r.st with
     |some (.bl a7)=>if ks.length<ak then a5 (.int 0,ks++[k],ns++[0])else a8
     |some (.bl a6)=>match call with
      |some (.tup (.int m::_),ks1,ns1)=>if ks1.contains k=a6/\ks1.length<ak then a5 (.int (1+m),ks1++[k],ns1++[1+m])else a8
      |_=>a8
     |_=>a8
    |_=>a8)else a8
  |none=>a8
 |_=>a8
noncomputable def jkw(l:List D)(r:Option (List D×List (List Int)×List Int)):Option (D×List (List Int)×List Int):=match r with
 |some (rs,ks',ns')=>match j4u rs l with
  |some ls=>(ls[argBest (j9y ls) (ls.length-1)]?).map λk=>(.tup (k.map D.int),ks',ns')
  |none=>a8
 |none=>a8
noncomputable def jiu(r:Option (List D×List (List Int)×List Int)):Option (D×List (List Int)×List Int):=match r with
 |some (rs,ks',ns')=>match intsOf rs with
  |some ms=>if ms≠[]then a5 (.int (Yo ms),ks',ns')else a8
  |none=>a8
 |none=>a8
noncomputable def j9k(r:Option (List D×En))(f:List D->En->Option (D×List (List Int)×List Int)):Option (D×List (List Int)×List Int):=match r with
 |some (l,ρ3)=>f l ρ3
 |none=>a8
noncomputable def j2o(Γ:ah->List D->Rc)(G:ah->Option D):Dx->List (List Int)->List Int->En->Option (D×List (List Int)×List Int)
 |.fill s t c f es,ks,ns,ρ=>jji s t ρ ks ns (ev Γ G c ρ) (K4 Γ f (ev Γ G es (ρ.set t (.val (.bl a6)))) ks ns)
 |.minc t j it f es,ks,ns,ρ=>j9k (lsD t j (ev Γ G it ρ) ρ) λl ρ3=>jkw l (j31 (λd ks ns=>K4 Γ f (ev Γ G es (ρ3.set j (.val d))) ks ns) l ks ns)
 |.maxc t j it f es,ks,ns,ρ=>j9k (lsD t j (ev Γ G it ρ) ρ) λl ρ3=>jiu (j31 (λd ks ns=>K4 Γ f (ev Γ G es (ρ3.set j (.val d))) ks ns) l ks ns)
noncomputable def dxS(l:Option Sv)(r:List (List Int)->List Int->Option (D×List (List Int)×List Int)):So:=match l with
 |some (.val (.dct ks ds))=>match intsOf ds with
  |some ns=>match r ks ns with
   |some (d,ks',ns')=>.ret (.dval d ks' ns')
   |none=>.no
  |none=>.no
 |_=>.no
noncomputable def jkx(b:Bool)(r:Option (D×List (List Int)×List Int)):So:=match b,r with
 |true,a5 (_,ks,ns)=>.ret (.val (.dct ks (ns.map D.int)))
 |_,_=>.no
noncomputable def run(fu:Nat)(Γ:ah->List D->Rc)(G:ah->Option D):Sx->En->So
 |.nop,ρ=>.next ρ
 |.seq a b,ρ=>match run fu Γ G a ρ with
  |.next ρ'=>run fu Γ G b ρ'
  |o=>o
 |.set i e,ρ=>orE (Yk i (ev Γ G e ρ) ρ) (er Γ G e ρ) ρ
 |.mov i j,ρ=>Ed i j ρ[j]? ρ
 |.expr e,ρ=>orE (Ft (ev Γ G e ρ) ρ) (er Γ G e ρ) ρ
 |.ret e,ρ=>orE (retS (ev Γ G e ρ)) (er Γ G e ρ) ρ
 |.retV i,ρ=>Rb ρ[i]?
 |.ife c a b,ρ=>match truth (ev Γ G c ρ) with
  |some a7=>run fu Γ G a ρ
  |some a6=>run fu Γ G b ρ
  |none=>.no
 |.loop is it body,ρ=>match ev Γ G it (frz it ρ) with
  |some (.i ds)=>Q0 (λd ρ=>match v6 is d ρ with
   |some ρ2=>run fu Γ G body ρ2
   |none=>.no) ds (frz it ρ)
  |_=>.no
 |.app i e,ρ=>Wv i ρ[i]? (ev Γ G e ρ) ρ
 |.ext i e,ρ=>Fq i ρ[i]? (ev Γ G e ρ) ρ
 |.fgt i,ρ=>.next (ρ.set i .un)
 |.keep i,ρ=>Bg i ρ[i]? ρ
 |.dx p,ρ=>dxS ρ[0]? λks ns=>j2o Γ G p ks ns (ρ.set 0 (.exc rfN))
 |.lmk x g es,ρ=>jkx (decide (x<ρ.length)&&noOwn ρ) (K4 Γ g (ev Γ G es (ρ.set x .un)) [] [])
 |.px p,ρ=>pxS ρ[0]? ρ[1]? λls k=>Ih fu Γ G ls p (.exc rfN::ρ.drop 2) k
 |.prm g,ρ=>g fu Γ G ρ
 |.apop i w e,ρ=>Rz i w ρ[i]? ρ[w]? (ev Γ G e ρ) ρ
 |.raise x e,ρ=>Nu x (ev Γ G e ρ) (G (bang x)) ρ
 |.tryK b i j,ρ=>match run fu Γ G b ρ with
  |.err x ρ'=>match G (bang x) with
   |some (.lst l)=>.next (((ρ'.set j (.exc x)).set i (.own l)).set j .un)
   |_=>.no
  |o=>o
 |.fail,_=>.no
section
variable{Γ:ah->List D->Rc}{G:ah->Option D}{ρ:En}{fu:Nat}
theorem jae{a b}:run fu Γ G (.seq a b) ρ=(match run fu Γ G a ρ with
  |.next ρ'=>run fu Γ G b ρ'
  |o=>o):=(rfl)
theorem jad{i e}:run fu Γ G (.set i e) ρ=(orE (Yk i (ev Γ G e ρ) ρ) (er Γ G e ρ) ρ):=(rfl)
theorem jk5{i j}:run fu Γ G (.mov i j) ρ=(Ed i j ρ[j]? ρ):=(rfl)
theorem jhw{e}:run fu Γ G (.expr e) ρ=(orE (Ft (ev Γ G e ρ) ρ) (er Γ G e ρ) ρ):=(rfl)
theorem jaf{e}:run fu Γ G (.ret e) ρ=(orE (retS (ev Γ G e ρ)) (er Γ G e ρ) ρ):=(rfl)
theorem jht{i}:run fu Γ G (.retV i) ρ=(Rb ρ[i]?):=(rfl)
theorem jk6{c a b}:run fu Γ G (.ife c a b) ρ=(match truth (ev Γ G c ρ) with
  |some a7=>run fu Γ G a ρ
  |some a6=>run fu Γ G b ρ
  |none=>.no):=(rfl)
theorem jhu{is it body}:run fu Γ G (.loop is it body) ρ=(match ev Γ G it (frz it ρ) with
  |some (.i ds)=>Q0 (λd ρ=>match v6 is d ρ with
   |some ρ2=>run fu Γ G body ρ2
   |none=>.no) ds (frz it ρ)
  |_=>.no):=(rfl)
theorem jk8{i e}:run fu Γ G (.app i e) ρ=(Wv i ρ[i]? (ev Γ G e ρ) ρ):=(rfl)
theorem jk7{i e}:run fu Γ G (.ext i e) ρ=(Fq i ρ[i]? (ev Γ G e ρ) ρ):=(rfl)
theorem jhv{i}:run fu Γ G (.keep i) ρ=(Bg i ρ[i]? ρ):=(rfl)
theorem jhx{i w e}:run fu Γ G (.apop i w e) ρ=(Rz i w ρ[i]? ρ[w]? (ev Γ G e ρ) ρ):=(rfl)
theorem jde{x e}:run fu Γ G (.raise x e) ρ=(Nu x (ev Γ G e ρ) (G (bang x)) ρ):=(rfl)
theorem jhs{b i j}:run fu Γ G (.tryK b i j) ρ=(match run fu Γ G b ρ with
  |.err x ρ'=>match G (bang x) with
   |some (.lst l)=>.next (((ρ'.set j (.exc x)).set i (.own l)).set j .un)
   |_=>.no
  |o=>o):=(rfl)
end
inductive Ns where
 |s (st:aN)
 |ss (sts:List aN)
def TMs(X:Cx)(b:Sx)(ss:List aN):Prop:=∀(Γ:ah->List D->Rc)(G:ah->Option D),Cok X G->Gok X Γ->∀(ρ:Rho)(r:En),Nt Γ G b (j7 ρ)=a5 r->∃ρ',j7 ρ'=r/\DMs X ρ ρ' (O9 b) ss/\Kp ρ ρ' (O9 b)
def TMt(X:Cx)(b:Sx)(full tl:List aN):Prop:=∀(Γ:ah->List D->Rc)(G:ah->Option D),Cok X G->Gok X Γ->∀(ρ:Rho)(r:En),Nt Γ G b (j7 ρ)=a5 r->∃ρ',j7 ρ'=r/\DMt X ρ ρ' (O9 b) full tl
def jhl(pi:Nat)(o:Ob)(s:Sm)(P:Pm):Prop:=match s with
 |.next ρ' k=>∀ρ2,j7 ρ2=ρ'->(∃ob,ρ2[pi]?=a5 (.raw o.a ob rfN))->P.nx ρ2 k
 |.ret d k=>P.rt d k
 |.err x ρ'=>∀ρ2,j7 ρ2=ρ'->P.ex x ρ2
 |.no=>False
def MP(X:Cx)(pi:Nat)(p:Px)(sts:List aN):Prop:=∀(fu:Nat)(Γ:ah->List D->Rc)(G:ah->Option D),Cok X G->Gok X Γ->∀C,X.mg "Pieces" = a5 (.ref C)->PcX X C->∀(o:Ob)(ls:List ah)(ρ:Rho)(k:Nat)(P:Pm),
 (∃ob,ρ[pi]?=a5 (.raw o.a ob rfN))->jhl pi o (Ih fu Γ G ls p (j7 ρ) k) P->MSs X C o ls ρ k sts P
def MD(X:Cx)(p:Dx)(sts:List aN):Prop:=∀(Γ:ah->List D->Rc)(G:ah->Option D),Cok X G->Gok X Γ->∀(ρ:Rho)(a:ae)(ks:List (List Int)) (ns:List Int) (d:D) (ks':List (List Int)) (ns':List Int),
 (∃ob,ρ[0]?=a5 (.raw a ob rfN))->owns ρ=[]->j2o Γ G p ks ns (j7 ρ)=a5 (d,ks',ns')->DDb X ρ sts a ks ns d ks' ns'
noncomputable def Rt.rc:Rt->Rc
 |.val d=>.val d
 |.fresh l=>.fresh l
def Qh(o:So)(P:Po):Prop:=match o with
 |.next ρ'=>∀ρ2,j7 ρ2=ρ'->P.nx ρ2
 |.ret r=>∀x:Rt,x.rc=r->P.rt x
 |.brk ρ'=>∀ρ2,j7 ρ2=ρ'->P.bk ρ2
 |.cnt ρ'=>∀ρ2,j7 ρ2=ρ'->P.ct ρ2
 |.err x ρ'=>∀ρ2,j7 ρ2=ρ'->P.ex x ρ2
 |.no=>False
theorem Vv{o:So}{x:Option ah}{ρ:En}{P:Po}(h:Qh (orE o x ρ) P):Qh o P\/∃y,x=a5 y/\∀ρ2,j7 ρ2=ρ->P.ex y ρ2:=by
 cases o with
 |no =>
  cases x with
  |none=>exact h.elim
  |some y=>exact .inr ⟨y,rfl,h⟩
 |_=>exact .inl h
def jag(fu:Nat)(Γ:ah->List D->Rc)(G:ah->Option D)(X:Cx)(t:Sx):Ns->Prop
 |.s st=>∀ρ P,Qh (run fu Γ G t (j7 ρ)) P->DS X ρ st P
 |.ss sts=>∀ρ P,Qh (run fu Γ G t (j7 ρ)) P->DSs X ρ sts P
section
variable{K:k83}{ρ:Rho}{σ:St}{H:Hp}{i j:Nat}{a:ae}{l:List D}
theorem Rep.move(R:Rep K ρ σ H)(hj:ρ[j]?=a5 (.own a l))(hij:i≠j):Rep K ((ρ.set j .un).set i (.own a l)) (σ.set i (a5 (.ref a))) H:=by
 have s1:(owns (ρ.set j .un)).Sublist (owns ρ):=je rfl;have na:a∉owns (ρ.set j .un):=λz=>by
  obtain⟨k,l',q⟩:=Zq z;rcases getElem?_set_of q with ⟨_,z,_⟩|⟨n,q⟩
  .cases z
  .exact n (Vk R.nd hj q)
 obtain⟨nd,sub⟩:=Jo (ds:=l) (i:=i) (s1.nodup R.nd) na;have g:j4 (del H (owns ρ)) (del H (owns ((ρ.set j .un).set i (.own a l)))):=vd λb hb=>by
  rcases sub b hb with e|z
  .exact e▸Ji hj
  .exact s1.subset z
 refine⟨by simp[R.len],λk d' h=>?_,λk b ds' h=>?_,nd,λk b o x h=>?_,R.tb⟩
 .rcases getElem?_set_of h with ⟨rfl,z,_⟩|⟨n,h⟩
  .cases z
  .rcases getElem?_set_of h with ⟨rfl,z,_⟩|⟨n2,h⟩
   .cases z
   .obtain⟨u,q,e⟩:=R.val k d' h;exact⟨u,by rw[qj n];exact q,e.mono g⟩
 .rcases getElem?_set_of h with ⟨rfl,z,hl⟩|⟨n,h⟩
  .cases z;obtain⟨_,xs,hx,en⟩:=R.own j a l hj;exact⟨Q7 (by rw[R.len];simpa using hl),xs,hx,en.mono g⟩
  .rcases getElem?_set_of h with ⟨rfl,z,_⟩|⟨n2,h⟩
   .cases z
   .obtain⟨q,xs,hx,en⟩:=R.own k b ds' h;exact⟨by rw[qj n];exact q,xs,hx,en.mono g⟩
 .rcases getElem?_set_of h with ⟨rfl,z,_⟩|⟨n,h⟩
  .cases z
  .rcases getElem?_set_of h with ⟨rfl,z,_⟩|⟨n2,h⟩
   .cases z
   .obtain⟨q,h⟩:=R.raw k b o x h;exact⟨by rw[qj n];exact q,h.mono g⟩
end
section
variable{X:Cx}{ρ:Rho}{e a b c:aj}{es:List aj}{st:aN}{rest sa sb body:List aN}{P:Po}{d:D}{ds ds':List D}{pos p p1 p2 p3:aO}{x y:ah}{i j:Nat}
theorem DS.freeze(i:Nat){l:ae}(h:ρ[i]?=a5 (.own l ds))(h2:DS X (ρ.set i (.val (.lst ds))) st P):DS X ρ st P:=λσ H E R q =>h2 σ H E (R.freeze h) (q.step (.drop λb hb=>(je rfl).subset hb))
theorem DS.mov{l:ae}(hk:ρ[j]?=a5 (.own l ds))(hij:i≠j)(h:P.nx ((ρ.set j .un).set i (.own l ds)))(hN:X.N.Nodup)(hi:X.N[i]?=a5 x)(hj:X.N[j]?=a5 y)(hx:Loc X.env.scope x)
  (hf:X.fn x=a7\/X.env.scope.names.lookup x=a5 .local) (hv:Vis X.env.scope y) (hd:(y==k87)=a6) (hcd:(y==k88)=a6):DS X ρ (.Assign [.Name x p] (.Name y p1) pos) P:=λσ H E R q=>by
 obtain⟨hs,xs,m,en⟩:=R.own j l ds hk;refine(W5 hN hi hx (J7 hj hv hd hcd) rfl hf).to ⟨_,hs,q.nx _ _ H h (R.move hk hij) (.drop λb hb=>?_)⟩;have s1:(owns (ρ.set j .un)).Sublist (owns ρ):=je rfl;have na:l∉owns (ρ.set j .un):=λz=>by
  obtain⟨k,l',q⟩:=Zq z;rcases getElem?_set_of q with ⟨_,z,_⟩|⟨n,q⟩
  .cases z
  .exact n (Vk R.nd hk q)
 rcases(Jo (ds:=ds) (i:=i) (s1.nodup R.nd) na).2 b hb with z|z
 .exact z▸Ji hk
 .exact s1.subset z
theorem DS.setCf{ρf:Rho}{tg elt iter:aj}{ifs:List aj}{scope:bq}{spos:aO}(i:Nat)(cs:List Nat)(pr:D->Bool)(g:D->D)(hfr:∀K σ H,Rep K ρ σ H->Rep K ρf σ H)(hno:ρf=ρ\/jq ((ds.filter pr).map g)=a7)(hi:DI X ρf tg iter ds)
  (hb:∀C s H fp pn,∀d∈ds,∃ρ2,DG (cCx X scope C s H fp pn) ρf tg d ρ2/\Wk ρ2 ρf/\owns ρ2=owns ρf/\DTs (cCx X scope C s H fp pn) ρ2 ifs (pr d)/\(pr d=a7->DE (cCx X scope C s H fp pn) ρ2 elt (g d)))
  (h:∀l,P.nx (ρ.set i (.own l ((ds.filter pr).map g)))) (hN:X.N.Nodup) (hcs:∀j∈cs,ρf[j]?=a5 .un) (hsz:ds.length<=ak) (hX:X.N[i]?=a5 x) (hx:Loc X.env.scope x)
  (hf:X.fn x=a7\/X.env.scope.names.lookup x=a5 .local)
  (hsw:aP (.ListComp elt [⟨tg,iter,ifs,0⟩] scope pos) (a5 (.Name x p1)) spos.line X.env=pure a7)
  (hc:X.calm=a7) (hkind:scope.kind=.function) (hok:J3 scope X.env X.N cs=a7)
  (hs:∀x,aK iter X.env x=pure x):DS X ρ (.Assign [.Name x p1] (.ListComp elt [⟨tg,iter,ifs,0⟩] scope pos) spos) P:=λσ H E R q pins s I=>by
 have Rf:=hfr _ _ _ R;rw[exec_Assign_Name_used _ _ _ _ hsw];refine ai (ic (ai ?_));show ax _ X.A (do let _ <-comprehension (.ListComp elt [⟨tg,iter,ifs,0⟩] scope pos) scope X.env _ (newList []) a6 (aE iter X.env) (a5 (eU (.Name x p1) X.env))) _ _ s;refine ai (aW (ie (use:=a5 (eU (.Name x p1) X.env)) (Q:=λ_ s'=>SP X pins E .next s') rfl hs (N8 (Mh hok)) hkind (Wq hok)
  (thn (hi σ H (λJ H'=>j4 H H'/\Ys X.K (del H' (owns ρf)) J ds) Rf (λJ H' g1 ok=>⟨g1,ok⟩) pins s I) λv s1 h1=>thn h1 λitv s2 h2=>?_)) (λ_ s' hq=>az (az hq)) λ_ _ e=>e)
 obtain⟨it,fp,tn,J,H2,e,I2,T,st2,f2,g2,ok⟩:=h2;subst e;refine Cj (RR:=λacc C=>compPost (au X.prog X.w) X.A X.xe (a5 (eU (.Name x p1) X.env)) (λ_ s'=>SP X pins E .next s') acc C) I2 (Rf.grow g2) T st2 f2 ok hc hkind hok hcs hsz hb ?_;intro D C xs H' s' m I' gg n m' en hm L;show ax _ X.A (eU (.Name x p1) X.env (.ref D)) _ _ _;refine kq (Uz I' hN hX hx (v:=.ref D) rfl (λs'' I'' ⟨a,sb,ha⟩=>?_) hf);have hCa:C≠a:=by
  rcases ha with e|e
  .rw[e];exact L.loc
  .exact bT (L.cell x a e)
 have en':j5 X.K (del H' (D::owns ρ)) ((ds.filter pr).map g) xs:=by
  rcases hno with e|e
  .rw[e]at en;exact en
  .exact(en.mono jo).hide (λc hc=>by
    rcases xj.mp hc with z|z
    .rw[z];exact .inl ⟨xs,m'⟩
    .exact .inl ((R.grow (g2.trans gg)).owned c z)) e
 refine⟨m,hm.sameBut sb hCa,λh' sb'=>⟨σ.set i (a5 (.ref D)),H',I''.loose L sb',?_⟩⟩;exact q.nx _ _ H' (h D) (R.set_own (g2.trans gg) (g2.free n) m' en') (Fr0.new R (g2.trans gg) (g2.free n))
end
section
variable{fu:Nat}{Γ:ah->List D->Rc}{G:ah->Option D}{X:Cx}{P:Po}
theorem bind1{i:Nat}{y:ah}{p:aO}(nd:X.N.Nodup)(hi:X.N[i]?=a5 y)(hx:Loc X.env.scope y)(hf:X.fn y=a7\/X.env.scope.names.lookup y=a5 .local) :
  ∀ρ d ρ2,v6 [i] d (j7 ρ)=a5 ρ2->∃ρ',j7 ρ'=ρ2/\DG X ρ (.Name y p) d ρ':=λρ d ρ2 h=>by
 simp only[v6]at h;cases h;exact⟨_,ji,DG.name _ nd hi hx hf⟩
theorem DS.setX{e:aj}{x y:ah}{i:Nat}{p pos:aO}{ρ:Rho}(he:DX X ρ e y)(h:P.ex y ρ)(hN:X.N.Nodup)(hi:X.N[i]?=a5 x)(hx:Loc X.env.scope x)(hs:aP e (a5 (.Name x p)) pos.line X.env=pure a6)(hf:X.fn x=a7\/X.env.scope.names.lookup x=a5 .local) :
  DS X ρ (.Assign [.Name x p] e pos) P:=λσ H E R q=>(W5 hN hi hx peS hs hf).to (he σ H _ R (q.ex y ρ σ H h R (Fr0.refl _ _)))
theorem DS.exprX{e:aj}{y:ah}{pos:aO}{ρ:Rho}(he:DX X ρ e y)(h:P.ex y ρ)(hs:aP e a8 pos.line X.env=pure a6):DS X ρ (.Expr e pos) P:=λσ H E R q =>(Yv peS hs).to (he σ H _ R (q.ex y ρ σ H h R (Fr0.refl _ _)))
theorem DS.retX{e:aj}{y:ah}{pos:aO}{ρ:Rho}(he:DX X ρ e y)(h:P.ex y ρ):DS X ρ (.Return (a5 e) pos) P:=λσ H E R q =>(Ow peS).to (he σ H _ R (q.ex y ρ σ H h R (Fr0.refl _ _)))
theorem j30{is:List Nat}{it':Ex}{b:Sx}{it tg:aj}{body:List aN}{pos:aO}{ρ:Rho}(hq:X.calm=a7)(c:Cok X G)(hs:∀x,aK it X.env x=pure x)
  (hb:∀ρ d ρ2,v6 is d (j7 ρ)=a5 ρ2->∃ρ',j7 ρ'=ρ2/\DG X ρ tg d ρ') (hi:∀ρ ds,ev Γ G it' (j7 ρ)=a5 (.i ds)->DI X ρ tg it ds)
  (ih:∀ρ P,Qh (run fu Γ G b (j7 ρ)) P->DSs X ρ body P) (h:Qh (run fu Γ G (.loop is it' b) (j7 ρ)) P):DS X ρ (.For tg it body [] pos) P:=by
 have main:∀ρf:Rho,j7 ρf=frz it' (j7 ρ)->DS X ρf (.For tg it body [] pos) P:=λρf ef=>by
  rw[jhu]at h;rw[<-ef]at h;split at h
  .rename_i ds hds;generalize hf:(λd ρ=>_:D->En->So)=f at h;refine DS.for (ds:=ds) (λi ρ'=>Qh (Q0 f (ds.drop i) (j7 ρ')) P) (hi ρf ds hds) (by rw[Tw];exact h) (λi d ρ' hd w=>?_) (λρ' w=>?_) hq c.po hs
   .have hdr:ds.drop i=d::ds.drop (i+1):=by obtain⟨hlt,e⟩:=X3.mp hd;rw[T9 hlt,e]
    rw[hdr,Q0]at w;have ef2:f d (j7 ρ')=match v6 is d (j7 ρ')with|some ρ2=>run fu Γ G b ρ2|none=>.no:=by rw[<-hf]<;>rfl
    rw[ef2]at w;cases hb2:v6 is d (j7 ρ') with
    |none=>rw[hb2]at w;exact w.elim
    |some ρ2 =>
     rw[hb2]at w;obtain⟨ρ3,e3,dg⟩:=hb ρ' d ρ2 hb2;refine⟨ρ3,dg,ih ρ3 _ ?_⟩;rw[e3];dsimp only at w;cases ho:run fu Γ G b ρ2 with
     |next ρ4=>rw[ho]at w;exact λρ5 e=>by rw[<-e]at w;exact w
     |cnt ρ4=>rw[ho]at w;exact λρ5 e=>by rw[<-e]at w;exact w
     |brk ρ4=>rw[ho]at w;exact w
     |ret r=>rw[ho]at w;exact w
     |err x ρ4=>rw[ho]at w;exact w
     |no=>rw[ho]at w;exact w
   .rw[fv,Q0]at w;exact w ρ' rfl
  .exact h.elim
 by_cases z:Jb it' (j7 ρ)=a7
 .unfold Jb at z;split at z
  .rename_i i ei;split at z
   .rename_i l e;obtain⟨a,q⟩:=J4 e;refine DS.freeze i q (main _ ?_);rw[ji];simp only[frz,ei,e,Sl.abs]
   .cases z
  .cases z
 .have z':Jb it' (j7 ρ)=a6:=by simpa using z
  refine main ρ ?_;unfold frz;split
  .rename_i i ei;split
   .rename_i l e;simp only[Jb,ei,e]at z';cases z'
   .rfl
  .rfl
theorem j2l{is:List Nat}{elt' it' c':Ex}{elt it tg:aj}{ifs:List aj}{scope:bq}{p p1 pos:aO}{k:Nat}{z:ah}{ρ:Rho}(hq:X.calm=a7)(hX:Cok X G)
  (hk:X.N[k]?=a5 z) (hx:Loc X.env.scope z) (hf:X.fn z=a7\/X.env.scope.names.lookup z=a5 .local)
  (hsw:aP (.ListComp elt [⟨tg,it,ifs,0⟩] scope p) (a5 (.Name z p1)) pos.line X.env=pure a7)
  (hit:∀ρ ds,ev Γ G it' (j7 ρ)=a5 (.i ds)->DI X ρ tg it ds) (hkind:scope.kind=.function) (hok:J3 scope X.env X.N is=a7) (hs:∀x,aK it X.env x=pure x)
  (hb:∀ρ d ρ2,v6 is d (j7 ρ)=a5 ρ2->(∀j∈is,ρ[j]?=a5 .un)->∃ρ',j7 ρ'=ρ2/\Wk ρ' ρ/\owns ρ'=owns ρ/\∀C s H fp pn,DG (cCx X scope C s H fp pn) ρ tg d ρ')
  (he:∀C s H fp pn ρ r,ev Γ G elt' (j7 ρ)=a5 (.v r)->Has (cCx X scope C s H fp pn) ρ elt r)
  (hc:∀C s H fp pn ρ,(ev Γ G c' (j7 ρ)=a5 (.a [])->DTs (cCx X scope C s H fp pn) ρ ifs a7)/\∀y k,ev Γ G c' (j7 ρ)=a5 (.a [y])->y.d=.bl k->DTs (cCx X scope C s H fp pn) ρ ifs k)
  (h:Qh (run fu Γ G (.set k (.comp is elt' it' c')) (j7 ρ)) P):DS X ρ (.Assign [.Name z p1] (.ListComp elt [⟨tg,it,ifs,0⟩] scope p) pos) P:=by
 rw[jad]at h;unfold Yk at h;have h:=(Vv h).resolve_right λ⟨y,ey,_⟩=>by simp only[er]at ey;cases ey
 cases e:ev Γ G (.comp is elt' it' c') (j7 ρ) with
 |none=>rw[e]at h;exact h.elim
 |some w =>
  rw[e]at h;cases w with
  |a _=>exact h.elim
  |i _=>exact h.elim
  |v r =>
   obtain⟨l,ρf,ds,pr,g,er,el,hfz,hi,hun,hz,hb'⟩:=Mg hit hb he hc e;subst er;refine DS.setCf (ρf:=ρf) k is pr g ?_ ?_ hi hb' (λa=>?_) hX.nd hun hz hk hx hf hsw hq hkind hok hs
   .rcases hfz with e|⟨_,i,a,l',q,e⟩
    .subst e;exact λ_ _ _ R=>R
    .subst e;exact λ_ _ _ R=>R.freeze q
   .rcases hfz with e|⟨n,_⟩
    .exact .inl e
    .exact .inr (el▸n)
   .rw[<-el];exact h _ ji
theorem jay{w:Option W}{d:D}(h:stOf w=a5 d):∃z,w=a5 (.v z)/\z.st=a5 d:=by
 unfold stOf at h;split at h
 .exact⟨_,rfl,h⟩
 .cases h
end
structure Ts(X:Cx)(t:Sx)(nd:Ns):Prop where
 m:∀(fu:Nat)(Γ:ah->List D->Rc)(G:ah->Option D),Cok X G->Gok X Γ->jag fu Γ G X t nd
theorem Ts.nil:∀{X:Cx},Ts X .nop (.ss []):=by intro _;refine⟨λfu Γ G=>?_⟩;intro c g ρ P h;exact DSs.nil (h ρ rfl)
theorem Ts.cons:∀{X:Cx}{a b:Sx}{st:aN}{rest:List aN},Ts X a (.s st)->Ts X b (.ss rest)->Ts X (.seq a b) (.ss (st::rest)):=by
 intro _ _ _ _ _ q0 q1;refine⟨λfu Γ G=>?_⟩;have iha:=q0.m fu Γ G;have ihb:=q1.m fu Γ G;intro c g ρ P h;rw[jae]at h;split at h
 .rename_i ρ' e;exact DSs.cons (N:=λρ1=>j7 ρ1=ρ') (iha c g ρ _ (by rw[e];exact λρ2 z=>z)) λρ1 z=>ihb c g ρ1 P (by rw[z];exact h)
 .rename_i o hn;refine DSs.cons (N:=λ_=>False) (iha c g ρ _ ?_) λ_ z=>z.elim;cases e:run fu Γ G _ (j7 ρ) with
  |next ρ'=>exact absurd e (hn ρ')
  |ret r=>rw[e]at h;exact h
  |err x r=>rw[e]at h;exact h
  |brk r=>rw[e]at h;exact h
  |cnt r=>rw[e]at h;exact h
  |no=>rw[e]at h;exact h
theorem Ts.prm:∀{X:Cx}{g:Nat->(ah->List D->Rc)->(ah->Option D)->En->So} {b:Sx} {rest full:List aN} (hg:∀(fu:Nat)(Γ:ah->List D->Rc)(G:ah->Option D),Cok X G->Gok X Γ->∀(ρ:Rho)(P:Po)(N:Rho->Prop),Qh (g fu Γ G (j7 ρ)) { P with nx:=N }->(∀ρ',N ρ'->DSs X ρ' rest P)->DSs X ρ full P),Ts X b (.ss rest)->Ts X (.seq (.prm g) b) (.ss full):=by
 intro _ g0 b rest full hg q0;refine⟨λfu Γ G=>?_⟩;have ih:=q0.m fu Γ G;intro c g ρ P ht;have er:run fu Γ G (.seq (.prm g0) b) (j7 ρ)=(match g0 fu Γ G (j7 ρ) with
  |.next ρ'=>run fu Γ G b ρ'
  |o=>o):=(rfl)
 rw[er]at ht;cases z:g0 fu Γ G (j7 ρ) with
 |next ρ'=>rw[z]at ht;exact hg fu Γ G c g ρ P (λρ1=>j7 ρ1=ρ') (by rw[z];exact λρ2 y=>y) λρ1 y=>ih c g ρ1 P (by rw[y];exact ht)
 |no=>rw[z]at ht;exact ht.elim
 |ret r=>rw[z]at ht;exact hg fu Γ G c g ρ P (λ_=>False) (by rw[z];exact ht) λ_ y=>y.elim
 |brk r=>rw[z]at ht;exact hg fu Γ G c g ρ P (λ_=>False) (by rw[z];exact ht) λ_ y=>y.elim
 |cnt r=>rw[z]at ht;exact hg fu Γ G c g ρ P (λ_=>False) (by rw[z];exact ht) λ_ y=>y.elim
 |err x r=>rw[z]at ht;exact hg fu Γ G c g ρ P (λ_=>False) (by rw[z];exact ht) λ_ y=>y.elim
theorem Ts.keep:∀{X:Cx}{i:Nat}{b:Sx}{sts:List aN},Ts X b (.ss sts)->Ts X (.seq (.keep i) b) (.ss sts):=by
 intro _ i _ _ q0;refine⟨λfu Γ G=>?_⟩;have ih:=q0.m fu Γ G;intro c g ρ P h;simp only[jae,jhv,Bg]at h;cases e:(j7 ρ)[i]? with
 |none=>rw[e]at h;exact h.elim
 |some v =>
  rw[e]at h;cases v with
  |own l =>obtain⟨a,q⟩:=J4 e;exact DSs.freeze _ q (ih c g _ P (by rw[ji];exact h))
  |un=>exact h.elim
  |val d=>exact ih c g ρ P h
  |exc x=>exact h.elim
theorem Ts.set:∀{X:Cx}{i:Nat}{x:ah}{e':Ex}{e:aj}{p pos:aO}(hi:X.N[i]?=a5 x) (hx:Loc X.env.scope x) (hs:aP e (a5 (.Name x p)) pos.line X.env=pure a6) (hf:X.fn x=a7\/X.env.scope.names.lookup x=a5 .local),Tr X e' (.e e)->Ts X (.set i e') (.s (.Assign [.Name x p] e pos)):=by
 intro _ _ _ _ _ _ _ hi hx hs hf he;refine⟨λfu Γ G=>?_⟩;intro c g ρ P h;have S:=sound he c g;rw[jad]at h;unfold Yk at h;rcases Vv h with h|⟨y,ey,hP⟩
 rotate_left
 .exact DS.setX (Ks he c g ρ y ey) (hP ρ rfl) c.nd hi hx hs hf
 split at h
 .rename_i l e;exact DS.setO _ (S ρ _ e) (λa=>h _ ji) c.nd hi hx hs hf
 .rename_i r hn e;split at h
  .rename_i d hd;exact DS.set _ ((S ρ _ e).toE hd) (h _ ji) c.nd hi hx hs hf
  .exact h.elim
 .exact h.elim
theorem Ts.setC1:∀{X:Cx}{k i:Nat}{z y:ah}{py p p1 pos:aO}{elt' it' c':Ex}{elt it:aj}{ifs:List aj} {scope:bq} (hq:X.calm=a7) (hk:X.N[k]?=a5 z) (hx:Loc X.env.scope z) (hf:X.fn z=a7\/X.env.scope.names.lookup z=a5 .local) (hsw:aP (.ListComp elt [⟨.Name y py,it,ifs,0⟩] scope p) (a5 (.Name z p1)) pos.line X.env=pure a7) (hi:X.N[i]?=a5 y) (hl:V4 scope y=a7) (hkind:scope.kind=.function) (hok:J3 scope X.env X.N [i]=a7) (hs:∀x,aK it X.env x=pure x),Tr X it' (.i (.Name y py) it)->(∀C s H fp pn,Tr (cCx X scope C s H fp pn) elt' (.e elt))->(∀C s H fp pn,Tr (cCx X scope C s H fp pn) c' (.c ifs))->Ts X (.set k (.comp [i] elt' it' c')) (.s (.Assign [.Name z p1] (.ListComp elt [⟨.Name y py,it,ifs,0⟩] scope p) pos)):=by
 intro _ _ _ _ _ _ _ _ _ _ _ _ _ _ _ _ hq hk hx hf hsw hi hl hkind hok hs hit he hc;refine⟨λfu Γ G=>?_⟩;intro c g ρ P h;exact j2l hq c hk hx hf hsw (λρ ds z=>sound hit c g ρ ds z) hkind hok hs (λρ d ρ2 hb hun=>by
  simp only[v6]at hb
  cases hb
  have hu:=hun _ (X6.mpr rfl)
  exact⟨_,ji,Wk.set hu,Zo hu,λC s H fp pn=>DG.name _ c.nd hi (Wy hl) (Oi hl)⟩)
  (λC s H fp pn ρ r z=>sound (he C s H fp pn) c.comp g.comp ρ r z) (λC s H fp pn ρ=>sound (hc C s H fp pn) c.comp g.comp ρ) h
theorem Ts.mov:∀{X:Cx}{i j:Nat}{x y:ah}{p q pos:aO}(hi:X.N[i]?=a5 x) (hj:X.N[j]?=a5 y) (hx:Loc X.env.scope x) (hf:X.fn x=a7\/X.env.scope.names.lookup x=a5 .local) (hv:Vis X.env.scope y) (hd:(y==k87)=a6) (hcd:(y==k88)=a6),Ts X (.mov i j) (.s (.Assign [.Name x p] (.Name y q) pos)):=by
 intro _ _ _ _ _ _ _ _ hi hj hx hf hv hd hcd;refine⟨λfu Γ G=>?_⟩;intro c g ρ P h;rw[jk5]at h;unfold Ed at h;split at h
 .rename_i l e;obtain⟨a,q⟩:=J4 e;split at h
  .exact h.elim
  .rename_i hij;exact DS.mov q hij (h _ (by rw[ji,ji];rfl)) c.nd hi hj hx hf hv hd hcd
 .rename_i d e;exact DS.set _ (DE.var _ (Oa e) hj hv hd hcd) (h _ ji) c.nd hi hx rfl hf
 .exact h.elim
theorem Ts.expr:∀{X:Cx}{e':Ex}{e:aj}{pos:aO}(hs:aP e a8 pos.line X.env=pure a6),Tr X e' (.e e)->Ts X (.expr e') (.s (.Expr e pos)):=by
 intro _ _ _ _ hs he;refine⟨λfu Γ G=>?_⟩;intro c g ρ P h;rw[jhw]at h;unfold Ft at h;rcases Vv h with h|⟨y,ey,hP⟩
 rotate_left
 .exact DS.exprX (Ks he c g ρ y ey) (hP ρ rfl) hs
 split at h
 .rename_i r e;exact DS.expr (sound he c g ρ r e).toT (h ρ rfl) hs
 .exact h.elim
theorem Ts.ret:∀{X:Cx}{e':Ex}{e:aj}{pos:aO},Tr X e' (.e e)->Ts X (.ret e') (.s (.Return (a5 e) pos)):=by
 intro _ _ _ _ he;refine⟨λfu Γ G=>?_⟩;intro c g ρ P h;rw[jaf]at h;unfold retS at h;rcases Vv h with h|⟨y,ey,hP⟩
 rotate_left
 .exact DS.retX (Ks he c g ρ y ey) (hP ρ rfl)
 split at h
 .rename_i l e;exact DS.retO (sound he c g ρ _ e) (h _ rfl)
 .rename_i r hn e;exact DS.ret (sound he c g ρ _ e).toT (h _ rfl)
 .exact h.elim
theorem Ts.retV:∀{X:Cx}{i:Nat}{x:ah}{p pos:aO}(hi:X.N[i]?=a5 x) (hv:Vis X.env.scope x) (hd:(x==k87)=a6) (hcd:(x==k88)=a6),Ts X (.retV i) (.s (.Return (a5 (.Name x p)) pos)):=by
 intro _ _ _ _ _ hi hv hd hcd;refine⟨λfu Γ G=>?_⟩;intro c g ρ P h;rw[jht]at h;unfold Rb at h;split at h
 .rename_i l e;obtain⟨a,q⟩:=J4 e;exact DS.retV _ q (h _ rfl) hi hv hd hcd
 .rename_i d e;exact DS.ret (DE.toT (DE.var _ (Oa e) hi hv hd hcd)) (h _ rfl)
 .exact h.elim
theorem Ts.ife:∀{X:Cx}{c':Ex}{a b:Sx}{c:aj}{sa sb:List aN}{pos:aO},Tr X c' (.b c)->Ts X a (.ss sa)->Ts X b (.ss sb)->Ts X (.ife c' a b) (.s (.If c sa sb pos)):=by
 intro _ _ _ _ _ _ _ _ hc q1 q2;refine⟨λfu Γ G=>?_⟩;have iha:=q1.m fu Γ G;have ihb:=q2.m fu Γ G;intro c g ρ P h;rw[jk6]at h;split at h
 .rename_i e;exact DS.if (sound hc c g ρ a7 e) (λ_=>iha c g ρ P h) λz=>by cases z
 .rename_i e;exact DS.if (sound hc c g ρ a6 e) (λz=>by cases z) λ_=>ihb c g ρ P h
 .exact h.elim
theorem Ts.for1:∀{X:Cx}{i:Nat}{y:ah}{it':Ex}{b:Sx}{it:aj}{body:List aN} {p pos:aO} (hq:X.calm=a7) (hi:X.N[i]?=a5 y) (hx:Loc X.env.scope y) (hf:X.fn y=a7\/X.env.scope.names.lookup y=a5 .local) (hs:∀x,aK it X.env x=pure x),Tr X it' (.i (.Name y p) it)->Ts X b (.ss body)->Ts X (.loop [i] it' b) (.s (.For (.Name y p) it body [] pos)):=by intro _ _ _ _ _ _ _ _ _ hq hi hx hf hs hit q1;refine⟨λfu Γ G=>?_⟩;have ih:=q1.m fu Γ G;intro c g ρ P h;exact j30 hq c hs (bind1 c.nd hi hx hf) (λρ ds z=>sound hit c g ρ ds z) (ih c g) h
theorem Ts.app:∀{X:Cx}{i:Nat}{x:ah}{e':Ex}{e:aj}{p p1 p2 pos:aO}(hN:X.N[i]?=a5 x) (hv:Vis X.env.scope x) (hd:(x==k87)=a6) (hcd:(x==k88)=a6) (hst:a9 [e] X.env=[(a6,aE e X.env)]) (hline:(p1.endLine==p2.line)=a7) (hbase:aV (.Name x p) "append" X.env (aE (.Name x p) X.env)=aE (.Name x p) X.env) (hfew:((aR p2 (a9 [e] X.env)).all (λx=>!x.1)&&(bH p2 (bf [] X.env)).all (λx=>x.1.isSome)&&decide (([e]:List aj).length+([]:List aX).length+(if ([]:List aX).isEmpty then 0 else 1)<30))=a7),Tr X e' (.e e)->Ts X (.app i e') (.s (.Expr (.Call (.Attribute (.Name x p) "append" p1) [e] [] p2) pos)):=by
 intro _ _ _ _ _ _ _ _ _ hN hv hd hcd hst hline hbase hfew he;refine⟨λfu Γ G=>?_⟩;intro c g ρ P h;rw[jk8]at h;unfold Wv at h;split at h
 .rename_i l x el ex;obtain⟨a,q⟩:=J4 el;split at h
  .rename_i d hd';split at h
   .rename_i hz;exact DS.append _ q ((sound he c g ρ x ex).toE hd') hz (h _ ji) hN hv hd hcd hst hline hbase hfew rfl
   .exact h.elim
  .exact h.elim
 .exact h.elim
theorem Ts.ext:∀{X:Cx}{i:Nat}{x:ah}{e':Ex}{e:aj}{p p1 p2 pos:aO}(hN:X.N[i]?=a5 x) (hv:Vis X.env.scope x) (hd:(x==k87)=a6) (hcd:(x==k88)=a6) (hst:a9 [e] X.env=[(a6,aE e X.env)]) (hline:(p1.endLine==p2.line)=a7) (hbase:aV (.Name x p) "extend" X.env (aE (.Name x p) X.env)=aE (.Name x p) X.env) (hfew:((aR p2 (a9 [e] X.env)).all (λx=>!x.1)&&(bH p2 (bf [] X.env)).all (λx=>x.1.isSome)&&decide (([e]:List aj).length+([]:List aX).length+(if ([]:List aX).isEmpty then 0 else 1)<30))=a7),Tr X e' (.e e)->Ts X (.ext i e') (.s (.Expr (.Call (.Attribute (.Name x p) "extend" p1) [e] [] p2) pos)):=by
 intro _ _ _ _ _ _ _ _ _ hN hv hd hcd hst hline hbase hfew he;refine⟨λfu Γ G=>?_⟩;intro c g ρ P h;rw[jk7]at h;unfold Fq at h;split at h
 .rename_i l m el ex;obtain⟨a,q⟩:=J4 el;split at h
  .rename_i hz;exact DS.extend _ q (sound he c g ρ _ ex) (zc hz) (h _ ji) hN hv hd hcd hst hline hbase hfew rfl
  .exact h.elim
 .exact h.elim
theorem Ts.apop:∀{X:Cx}{i w:Nat}{x u:ah}{e':Ex}{e:aj}{p1 p2 p3 p4 p5 p6 pos:aO}(hN:X.N[i]?=a5 x) (hv:Vis X.env.scope x) (hd:(x==k87)=a6) (hcd:(x==k88)=a6) (hN2:X.N[w]?=a5 u) (hv2:Vis X.env.scope u) (hd2:(u==k87)=a6) (hcd2:(u==k88)=a6) (hst:a9 [e] X.env=[(a6,aE e X.env)]) (hst1:a9 [.Call (.Attribute (.Name u p4) "pop" p5) [e] [] p6] X.env=[(a6,aE (.Call (.Attribute (.Name u p4) "pop" p5) [e] [] p6) X.env)]) (hline:(p2.endLine==p3.line)=a7) (hline2:(p5.endLine==p6.line)=a7) (hbase:aV (.Name x p1) "append" X.env (aE (.Name x p1) X.env)=aE (.Name x p1) X.env) (hbase2:aV (.Name u p4) "pop" X.env (aE (.Name u p4) X.env)=aE (.Name u p4) X.env) (hfew:((aR p3 (a9 [.Call (.Attribute (.Name u p4) "pop" p5) [e] [] p6] X.env)).all (λx=>!x.1)&&(bH p3 (bf [] X.env)).all (λx=>x.1.isSome)&&decide (([.Call (.Attribute (.Name u p4) "pop" p5) [e] [] p6]:List aj).length+([]:List aX).length+(if ([]:List aX).isEmpty then 0 else 1)<30))=a7) (hfew2:((aR p6 (a9 [e] X.env)).all (λx=>!x.1)&&(bH p6 (bf [] X.env)).all (λx=>x.1.isSome)&&decide (([e]:List aj).length+([]:List aX).length+(if ([]:List aX).isEmpty then 0 else 1)<30))=a7) (hs:aP (.Call (.Attribute (.Name x p1) "append" p2) [.Call (.Attribute (.Name u p4) "pop" p5) [e] [] p6] [] p3) a8 pos.line X.env=pure a6),Tr X e' (.e e)->Ts X (.apop i w e') (.s (.Expr (.Call (.Attribute (.Name x p1) "append" p2) [.Call (.Attribute (.Name u p4) "pop" p5) [e] [] p6] [] p3) pos)):=by
 intro _ _ _ _ _ _ _ _ _ _ _ _ _ _ hN hv hd hcd hN2 hv2 hd2 hcd2 hst hst1 hline hline2 hbase hbase2 hfew hfew2 hs he;refine⟨λfu Γ G=>?_⟩;intro c g ρ P h;rw[jhx]at h;unfold Rz at h;split at h
 .rename_i l m y el em ey;obtain⟨a,q⟩:=J4 el;obtain⟨b,q2⟩:=J4 em;split at h
  .rename_i z ez;split at h
   .rename_i k ek;split at h
    .rename_i d ed;split at h
     .rename_i hc;exact DS.apop q q2 hc.1 ((sound he c g ρ y ey).toE ez) ek ed hc.2.1 hc.2.2 (h _ (by rw[ji,ji];rfl)) hN hv hd hcd hN2 hv2 hd2 hcd2 hst hst1 hline hline2 hbase hbase2 hfew hfew2 hs
     .exact h.elim
    .exact h.elim
   .exact h.elim
  .exact h.elim
 .exact h.elim
theorem Ts.raise:∀{X:Cx}{x:ah}{e':Ex}{e:aj}{np cpos pos:aO}(hq:X.calm=a7)(hg:Gl X x) (hdb:(x==k87)=a6) (hs:a9 [e] X.env=[(a6,aE e X.env)]),Tr X e' (.e e)->Ts X (.raise x e') (.s (.Raise (a5 (.Call (.Name x np) [e] [] cpos)) a8 pos)):=by
 intro _ _ _ _ _ _ _ hq hg hdb hs he;refine⟨λfu Γ G=>?_⟩;intro c g ρ P h;rw[jde]at h;unfold Nu at h;split at h
 .rename_i r d er eg;obtain⟨hx,o,ho⟩:=c.ec _ _ eg;exact DS.raiseE c.ea hx ho (W.mg_of c.kin c.ns ho) c.kin hq (λσ H R=>(sound he c g ρ r er).toT σ H _ R λv H' g' _=>g') (h ρ rfl) hg hdb hs
 .exact h.elim
theorem Ts.tryK:∀{X:Cx}{b:Sx}{i j:Nat}{n k:ah}{body:List aN}{p p1 p2 p3 p4 p5 pos hpos:aO}(hq:X.calm=a7) (hst:X.stack=X.env::X.outer) (hfm:X.env.frame=a5 X.env.locals) (hgA:Gl X "AskError") (hg:Gl X "_law_kinds") (hN:X.N[j]?=a5 n) (hlo:X.env.scope.names.lookup n=a5 .local) (hd:(n==k87)=a6) (hcd:(n==k88)=a6) (hi:X.N[i]?=a5 k) (hxk:Loc X.env.scope k) (hfk:X.fn k=a7\/X.env.scope.names.lookup k=a5 .local) (hfn:X.fn n=a7\/X.env.scope.names.lookup n=a5 .local) (hs:aP (.Call (.Name "_law_kinds" p) [.Name n p1] [] p2) (a5 (.Name k p3)) p4.line X.env=pure a6) (he:a9 [.Name n p1] X.env=(a6,aE (.Name n p1) X.env)::a9 [] X.env) (hpl:(aR p2 (a9 [] X.env)).any (·.1)=a6),(∀pn xe,Ts { X with pn:=pn,xe:=xe } b (.ss body))->Ts X (.tryK b i j) (.s (.Try body [.ExceptHandler (a5 (.Name "AskError" p5)) (a5 n) [.Assign [.Name k p3] (.Call (.Name "_law_kinds" p) [.Name n p1] [] p2) p4] hpos] [] [] pos)):=by
 intro _ _ _ _ _ _ _ _ _ _ _ _ _ _ _ hq hst hfm hgA hg hN hlo hd hcd hi hxk hfk hfn hs he hpl q0;refine⟨λfu Γ G=>?_⟩;have ih:=λpn xe=>(q0 pn xe).m fu Γ G;intro c g ρ P h;refine DS.tryK (λpn xe hpo=>?_) c.ea hst hfm (c.dp hq) (c.un hq) c.nd hgA hg (by decide) hN hlo hd hcd hi hxk hfk hfn hs he hpl;refine ih pn xe ⟨c.un',c.un,c.dp,c.bt,c.gl,c.nd,hpo,c.ea,c.ec,c.el,c.kin,c.ns,c.kd,c.fn,λd e=>⟨(c.pl d e).ex⟩,λd e=>let ⟨C,h1,h2⟩:=c.pc d e;⟨C,h1,⟨h2.ex⟩⟩,c.gd,c.fr,c.lm⟩ ?_ ρ _ ?_
 .intro f ds;have q:=g f ds;cases e:Γ f ds with
  |val d=>rw[e]at q;exact⟨q.ex⟩
  |fresh l=>rw[e]at q;exact⟨q.ex⟩
  |err x=>rw[e]at q;exact⟨q.ex⟩
  |lval d=>rw[e]at q;exact q
  |mval d k=>rw[e]at q;exact λg ls k ds' h1 h2 C h3=>⟨(q g ls k ds' h1 h2 C h3).ex⟩
  |merr x=>rw[e]at q;exact λg ls k ds' h1 h2 C h3=>⟨(q g ls k ds' h1 h2 C h3).ex⟩
  |dval d ks ns=>rw[e]at q;exact λg ks ns ds' h1 h2=>⟨(q g ks ns ds' h1 h2).ex⟩
  |no=>trivial
 .rw[jhs]at h;split at h
  .rename_i x ρ' e;rw[e];split at h
   .rename_i l eg;obtain⟨hx,o,ho⟩:=c.ec _ _ eg;intro ρ2 e2;exact⟨hx,⟨o,ho⟩,l,c.kd x l eg,λe' oe a=>h _ (by rw[ji,ji,ji,e2];rfl)⟩
   .exact h.elim
  .rename_i o hn;cases e:run fu Γ G _ (j7 ρ) with
   |err x ρ'=>exact absurd e (hn x ρ')
   |next ρ'=>rw[e]at h;exact h
   |ret r=>rw[e]at h;exact h
   |brk r=>rw[e]at h;exact h
   |cnt r=>rw[e]at h;exact h
   |no=>rw[e]at h;exact h
section
theorem Vg{fu:Nat}{Γ:ah->List D->Rc}{G:ah->Option D}{X:Cx}{t:Sx}{nd:Ns}(h:Ts X t nd):Cok X G->Gok X Γ->jag fu Γ G X t nd:=h.m fu Γ G
end
section
variable{X:Cx}{nx nw nt g y:ah}{c:aj}{es:List aj}{c' es' it':Ex}{s t j:Nat}{st:aN}{scope:bq}
def SetT(X:Cx)(t:Nat)(it':Ex)(st:aN):Prop:=∀(Γ:ah->List D->Rc)(G:ah->Option D),Cok X G->Gok X Γ->∀(ρ:Rho)(l:List D)(P:Po),ev Γ G it' (j7 ρ)=a5 (.v (.o l))->(∀b,P.nx (ρ.set t (.own b l)))->DS X ρ st P
end
structure Fi where
 n:Nat
 nn:Nat
 body:Sx
 lam:Bool
noncomputable def jfu:Rc->Rc
 |.val d=>.lval d
 |_=>.no
noncomputable def fin:So->Rc
 |.ret r=>r
 |.next _=>.val .non
 |.err x _=>.err x
 |_=>.no
noncomputable def enter(F:Fi)(ds:List D):En:=ds.map Sv.val++ao (F.nn-F.n) Sv.un
noncomputable def evP(fu:Nat)(G:ah->Option D)(T:ah->Option Fi):Nat->ah->List D->Rc
 |0,_,_=>.no
 |n+1,f,ds=>match T f with
  |none=>.no
  |some F=>if ds.length=F.n then(if F.lam=a7 then jfu (fin (run fu (evP fu G T n) G F.body (enter F ds)))else fin (run fu (evP fu G T n) G F.body (enter F ds)))else .no
structure Lk(P:ar)(w:aA)(K:k83)(mg:k86)(base:aG)(x:ah)(F:Fi):Prop where
 ex:∃(st:aN)(f:ae)(fd:aJ)(N ps:List ah),Fun K x x st f fd/\FnScope N ps (j0 st)/\ps.length=F.n/\N.length=F.nn/\Binds K fd ps []/\Dfl K x fd ps/\mg x=a5 (.ref f) /\
  ∀(cdv:aa)(A:aC)(outer:List cI)(s:af)(H:Hp)(E:XK)(xe:k84),Ts ((q8 CX0 P w K mg base N x (j0 st) f cdv A outer s H E).wish xe) F.body (.ss (jc st))
structure LkL(P:ar)(w:aA)(K:k83)(mg:k86)(base:aG)(x:ah)(F:Fi):Prop where
 ex:∃(tx:Tx)(N ps:List ah)(e:Ex),j34 K x=a5 tx/\LamScope N ps tx.2.2/\N.length=F.n/\F.nn=F.n/\F.body=.ret e /\
  (∀(cl:List (ah×ae)) (pm:aa) (c:ae) (ctv:aa) (us:List aa),us.length=ps.length->cO (W.kla_fn "<lambda>" (zg x) tx.1 tx.2.1 tx.2.2 cl pm (.ref c) ctv) ⟨us,[]⟩=pure (ps.zip us)) /\
  ∀(a c:ae)(cl:List (ah×ae)) (A:aC) (outer:List cI) (s:af) (H:Hp),Tr (Y8 P w K mg base N (zg x) tx.2.2 a (.ref c) cl A outer s H) e (.e tx.2.1)
def j3q(P:ar)(w:aA)(K:k83)(mg:k86)(base:aG)(C:ae):Prop:=∃(fA fT fL fI:ae)(dA dT dL dI:aJ),PcT K mg C fA fT fL fI/\(FnOk P w K mg base CX0 1 fA dA ["self"] (j1d C)/\Binds K dA ["self"] []) /\
  (FnOk P w K mg base CX0 2 fT dT ["self"] (j1b C)/\Binds K dT ["self"] [])/\(FnOk P w K mg base CX0 1 fL dL ["self"] (j9m C)/\Binds K dL ["self"] [])/\(FnOk P w K mg base CX0 1 fI dI ["self","text"] (j1c C)/\Binds K dI ["self","text"] [])
structure LkP(P:ar)(w:aA)(K:k83)(mg:k86)(base:aG)(x:ah)(F:Fi):Prop where
 ex:∃(g:ah)(p:Px)(st:aN)(f:ae)(fd:aJ)(N ps:List ah),x=mq g/\F.body=.px p/\Fun K g g st f fd/\FnScope N ps (j0 st)/\ps.length+1=F.n/\N.length+1=F.nn/\0<ps.length/\ps.length<=N.length/\Binds K fd ps []/\mg g=a5 (.ref f)/\(∃C,mg "Pieces" = a5 (.ref C)/\j3q P w K mg base C) /\
  ∀(cdv:aa)(A:aC)(outer:List cI)(s:af)(H:Hp)(E:XK)(xe:k84),MP ((q8 CX0 P w K mg base N g (j0 st) f cdv A outer s H E).wish xe) 0 p (jc st)
structure LkD(P:ar)(w:aA)(K:k83)(mg:k86)(base:aG)(x:ah)(F:Fi):Prop where
 ex:∃(g:ah)(p:Dx)(st:aN)(f:ae)(fd:aJ)(N ps:List ah),x=dq g/\F.body=.dx p/\Fun K g g st f fd/\FnScope N ps (j0 st)/\ps.length=F.n/\N.length=F.nn/\0<ps.length/\ps.length<=N.length/\Binds K fd ps []/\mg g=a5 (.ref f) /\
  ∀(cdv:aa)(A:aC)(outer:List cI)(s:af)(H:Hp)(E:XK)(xe:k84),MD ((q8 CX0 P w K mg base N g (j0 st) f cdv A outer s H E).wish xe) p (jc st)
def LkF(P:ar)(w:aA)(K:k83)(mg:k86)(base:aG)(f:ah)(F:Fi):Prop:=(F.lam=a6->(Lk P w K mg base f F/\f.cps.toList.getLast?≠a5 62/\f.cps.toList.head?≠a5 64/\f.cps.toList.head?≠a5 35)\/LkP P w K mg base f F\/LkD P w K mg base f F)/\(F.lam=a7->∃x,f=zg x/\LkL P w K mg base x F)
def j6f(P:ar)(w:aA)(K:k83)(mg:k86)(base:aG):Prop:=∃(f:ae)(fd:aJ)(ps:List ah),FnOk P w K mg base CX0 11 f fd ps (jdw K j9o)/\mg "_law_plan" = a5 (.ref f)/\W.keepIn K (.ref f)=a7/\Binds K fd ps []/\Dfl K "_law_plan" fd ps
structure Tb(P:ar)(w:aA)(K:k83)(mg:k86)(base:aG)(G:ah->Option D):Prop where
 bt:∀x∈Zc,mg x=a8
 gl:∀x d,Zz x=a6->G x=a5 d->∃u v,mg x=a5 u/\RelV v u/\∀H,Enc K H d v
 ea:Qg K=a7
 ec:∀x d,G (bang x)=a5 d->x∈jn/\∃o,W.nsIn K aq x=a5 (a5 o)
 el:G "?" = a5 (.bl a7)->∀c∈jn,∃v,W.nsIn K aq c=a5 (a5 v)
 kin:K.In base
 ns:base.Ns aq mg
 kd:∀x l,G (bang x)=a5 (.lst l)->KindsP P w K mg base "_law_kinds" x l
 fn:∀f d,G (qm f)=a5 d->∃fa,mg f=a5 (.ref fa)/\W.keepIn K (.ref fa)=a7
 pl:∀d,G (qm "_law_plan")=a5 d->j6f P w K mg base
 pc:∀d,G (qm "Pieces")=a5 d->∃C,mg "Pieces" = a5 (.ref C)/\j3q P w K mg base C
 lm:∀x∈Zh,∀f cdv,mg x=a5 (.ref f)->Vu K f cdv->∃c Pt,cdv=.ref c/\W.codeHdIn K c Pt=a7/\W.tabIn K x=a5 (c,Pt)
structure LkH(P:ar)(w:aA)(K:k83)(mg:k86)(base:aG)(x:ah)(F:Fi):Prop where
 ex:∃(st:aN)(f:ae)(fd:aJ)(N:List ah)(p:ah),Fun K x x st f fd/\FnScope N [p] (j0 st)/\1<=N.length/\N.length=F.nn/\Binds K fd [p] []/\mg x=a5 (.ref f) /\
  ∀(cdv:aa)(A:aC)(outer:List cI)(s:af)(H:Hp),Ts { (q8 CX0 P w K mg base N x (j0 st) f cdv A outer s H E0).nox with calm:=a6 } F.body (.ss (jc st))
section
variable{P:ar}{w:aA}{K:k83}{mg:k86}{base:aG}{fu:Nat}{G:ah->Option D}{T:ah->Option Fi}
theorem Ur{N:List ah}{ds:List D}{F:Fi}(h1:ds.length=F.n)(h2:N.length=F.nn):j7 (jx N ds)=enter F ds:=by unfold j7 jx enter;rw[Xl,Xc,cZ,h1,h2];rfl
theorem Wu(y:ah):(bang y).cps.toList.head?=a5 33:=by unfold bang;show(("!":ah).cps++y.cps).toList.head?=a5 33;rw[Tv];rfl
theorem j1k(y:ah):(mq y).cps.toList.head?=a5 64:=by unfold mq;show(("@":ah).cps++y.cps).toList.head?=a5 64;rw[Tv];rfl
theorem jfd{x y:ah}(h:mq x=mq y):x=y:=by unfold mq at h;have h:(⟨("@":ah).cps++x.cps⟩:ah)=⟨("@":ah).cps++y.cps⟩:=h;have h:=congrArg gT h;have e:x.cps=y.cps:=cq h rfl;cases x;cases y;cases e;rfl
theorem jd0(y:ah):(dq y).cps.toList.head?=a5 35:=by unfold dq;show(("#":ah).cps++y.cps).toList.head?=a5 35;rw[Tv];rfl
theorem jh1{x y:ah}(h:dq x=dq y):x=y:=by unfold dq at h;have h:(⟨("#":ah).cps++x.cps⟩:ah)=⟨("#":ah).cps++y.cps⟩:=h;have h:=congrArg gT h;have e:x.cps=y.cps:=cq h rfl;cases x;cases y;cases e;rfl
theorem j18:∀ls:List ah,strsOf (ls.map D.str)=a5 ls
 |[]=>rfl
 |_::l=>by rw[xx,strsOf,j18 l];rfl
theorem j13{N:List ah}{a:ae}{ds:List D}{F:Fi}{ls:List D}{k:Int}(h1:ds.length+2=F.n)(h2:N.length+1=F.nn):j7 (startM N a ds)=.exc rfN::(enter F (.lst ls::.int k::ds)).drop 2:=by
 have e:N.length-(ds.length+1)=F.nn-F.n:=by omega
 unfold startM;rw[ji];unfold j7 jx enter;rw[Xl,Xc,cZ];simp only[xx,cL,T5,List.drop_succ_cons,Tw,X4,e];rfl
theorem j14{N:List ah}{a:ae}{ds:List D}{F:Fi}{d:D}(h1:ds.length+1=F.n)(h2:N.length=F.nn):j7 (startM N a ds)=(enter F (d::ds)).set 0 (.exc rfN):=by
 have e:N.length-(ds.length+1)=F.nn-F.n:=by omega
 unfold startM;rw[ji];unfold j7 jx enter;rw[Xl,Xc,cZ];simp only[xx,cL,T5,X4,e];rfl
theorem j26 (y:ah):bang y ≠ "?":=λh=>by have:=Wu y;rw[h]at this;exact absurd this (by decide)
theorem j1f(y:ah):(qm y).cps.toList.head?=a5 63:=by unfold qm;show(("??":ah).cps++y.cps).toList.head?=a5 63;rw[Tv];rfl
theorem Lr (y:ah):qm y ≠ "?":=λh=>by
 have e:((qm y).cps.toList.drop 1).head?=a5 63:=by unfold qm;show((("??":ah).cps++y.cps).toList.drop 1).head?=a5 63;rw[Tv];rfl
 rw[h]at e;exact absurd e (by decide)
theorem jen{x y:ah}(h:qm x=qm y):x=y:=by unfold qm at h;have h:(⟨("??":ah).cps++x.cps⟩:ah)=⟨("??":ah).cps++y.cps⟩:=h;have h:=congrArg gT h;have e:x.cps=y.cps:=cq h rfl;cases x;cases y;cases e;rfl
theorem j25(x y:ah):bang x≠qm y:=λh=>by have:=Wu x;rw[h,j1f]at this;exact absurd this (by decide)
theorem U4{x y z:ah}(h:x++z=y++z):x=y:=by have h:(⟨x.cps++z.cps⟩:ah)=⟨y.cps++z.cps⟩:=h;have h:=congrArg gT h;have e:x.cps=y.cps:=Array.append_inj_left' h rfl;cases x;cases y;cases e;rfl
theorem j7t{x y:ah}(h:zg x=zg y):x=y:=U4 (U4 h)
theorem Dy(x:ah):(zg x).cps.toList.getLast?=a5 62:=by unfold zg;show(((x ++ ".<locals>.").cps)++("<lambda>":ah).cps).toList.getLast?=a5 62;rw[Tv,List.getLast?_append];rfl
theorem j33(x:ah):zg x∉Zh:=λh=>by
 have e:=Dy x
 revert e
 unfold Zh at h;rcases xj.mp h with h|h
 .rw[h];decide
 rcases xj.mp h with h|h
 .rw[h];decide
 rcases xj.mp h with h|h
 .rw[h];decide
 .rw[X6.mp h];decide
theorem j0v (z:ah) (hz:z∈Zh) (hq:("_law_kinds":ah) ++ ".<locals>." = z ++ ".<locals>."):False:=by have e:=U4 hq;subst e;exact absurd hz (by decide)
noncomputable def G0(x:ah):Option D:=if x = "?" then a5 (.bl a7)else a8
theorem j0u {F:Fi} (L:LkH P w K mg base "_law_kinds" F) (bt:∀x∈Zc,mg x=a8) (ea:Qg K=a7) (el:∀c∈jn,∃v,W.nsIn K aq c=a5 (a5 v)) (kin:K.In base) (ns:base.Ns aq mg) {x:ah} {l:List D} (hnl:jq l=a7)
  (hr:run fu (λ_ _=>.no) G0 F.body (.exc x::ao (F.nn-1) .un)=.ret (.fresh l)):KindsP P w K mg base "_law_kinds" x l:=by
 obtain⟨st,f,fd,N,p,hfun,hsc,h1,hN,hb,hm,hts⟩:=L.ex;refine kinds_of hfun hsc hb hm h1 hnl λcdv A outer s H e o hdp hun=>?_;have nob:∀y,G0 (bang y)=a8:=λy=>if_neg (j26 y);have c:Cok { (q8 CX0 P w K mg base N "_law_kinds" (j0 st) f cdv A outer s H E0).nox with calm:=a6 } G0:=by
  refine⟨?_,(λz=>by cases z),(λz=>by cases z),bt,λy d hb q=>?_,hsc.nd,Pz,ea,λy d q=>?_,λ_=>el,kin,ns,λy l' q=>?_,λf d q=>?_,λd q=>?_,λd q=>?_,(λz=>by cases z),⟨_,_,_,rfl,rfl,rfl⟩,λz hz hq=>(j0v z hz hq).elim⟩
  .show A.units+3+100<bg;omega
  .unfold G0 at q;split at q
   .rename_i z;subst z;cases hb
   .cases q
  .rw[nob]at q;cases q
  .rw[nob]at q;cases q
  .rw[show G0 (qm f)=a8 from if_neg (Lr f)]at q;cases q
  .rw[show G0 (qm "_law_plan")=a8 from if_neg (Lr _)]at q;cases q
  .rw[show G0 (qm "Pieces")=a8 from if_neg (Lr _)]at q;cases q
 refine Vg (fu:=fu) (Γ:=λ_ _=>.no) (G:=G0) (hts cdv A outer s H) c (λ_ _=>trivial) _ _ ?_;have ab:j7 (.raw e o x::ao (N.length-1) .un)=.exc x::ao (F.nn-1) .un:=by unfold j7;rw[xx,cZ,hN];rfl
 rw[ab,hr];intro y hy;cases y with
 |val d=>cases hy
 |fresh l=>cases hy;rfl
theorem jeg{fu:Nat}{Γ:ah->List D->Rc}{G:ah->Option D}{e:Ex}{ρ:En}{d:D}(h:fin (run fu Γ G (.ret e) ρ)=.val d):∃r,ev Γ G e ρ=a5 (.v r)/\r.d=d:=by
 rw[jaf]at h;cases z:ev Γ G e ρ with
 |none=>rw[z]at h;cases y:er Γ G e ρ<;>(rw[y]at h;cases h)
 |some w =>
  cases w with
  |v r =>
   rw[z]at h;cases r with
   |o l=>cases h
   |e d=>cases h;exact⟨_,rfl,rfl⟩
   |w l=>cases h;exact⟨_,rfl,rfl⟩
   |t d=>cases h;exact⟨_,rfl,rfl⟩
  |a l=>rw[z]at h;cases y:er Γ G e ρ<;>(rw[y]at h;cases h)
  |i l=>rw[z]at h;cases y:er Γ G e ρ<;>(rw[y]at h;cases h)
theorem j2t{C:ae}(h:j3q P w K mg base C){X:Cx}{n:Nat}(h1:X.prog=P)(h2:X.w=w)(h3:X.K=K)(h4:X.mg=mg)(h5:X.base=base)(hn:12<=n)(hr:Room n X.A):PcX X C:=by subst h1 h2 h3 h4 h5;obtain⟨fA,fT,fL,fI,dA,dT,dL,dI,a,b,c,d,e⟩:=h;exact⟨fA,fT,fL,fI,dA,dT,dL,dI,a,b,c,d,e,hr.mono nofun⟩
theorem Qk (t:Tb P w K mg base G) {X:Cx} {n:Nat} (h1:X.prog=P) (h2:X.w=w) (h3:X.K=K) (h4:X.mg=mg) (h5:X.base=base) (hn:12<=n) (hr:Room n X.A) (nd:X.N.Nodup) (po:dY (au X.prog X.w) X.A X.env X.xe) (hlm:∀x∈Zh,X.env.qual=x ++ ".<locals>."->∃c P,X.env.code=.ref c/\W.codeHdIn K c P=a7/\W.tabIn K x=a5 (c,P)) (hfr:∃(env0:cI)(out0:List cI)(L:ae),X.stack=env0::out0/\env0.frame=a5 L/\X.env.frame=a5 L:=by exact⟨_,_,_,rfl,rfl,rfl⟩):Cok X G:=by subst h1 h2 h3 h4 h5;exact⟨by have:=hr.un;omega,(λ_=>by have:=hr.un;omega),(λ_=>by have:=hr.dp;omega),t.bt,t.gl,nd,po,t.ea,t.ec,t.el,t.kin,t.ns,t.kd,t.fn,λd e=>let ⟨f,fd,ps,F,h1,h2,h3,h4⟩:=t.pl d e;⟨11,f,fd,ps,F,hr.mono hn,h1,h2,h3,h4⟩,λd e=>let ⟨C,h1,h2⟩:=t.pc d e;⟨C,h1,j2t h2 rfl rfl rfl rfl rfl hn hr⟩,(λ_=>hr.gd),hfr,hlm⟩
theorem V8 (t:Tb P w K mg base G) {g:ah} {f:ae} {cdv:aa} {env:cI} (hm:mg g=a5 (.ref f)) (hcv:Vu K f cdv) (hq:env.qual=g ++ ".<locals>.") (hc:env.code=cdv):∀x∈Zh,env.qual=x ++ ".<locals>."->∃c P,env.code=.ref c/\W.codeHdIn K c P=a7/\W.tabIn K x=a5 (c,P):=λx hx e=>by have eg:=U4 (hq.symm.trans e);subst eg;rw[hc];exact t.lm _ hx f cdv hm hcv
noncomputable def lv:Nat->Nat
 |0=>12
 |n+1=>lv n+2
theorem Qf:∀n,12<=lv n+1
 |0=>by decide
 |n+1=>by have:=Qf n;unfold lv;omega
theorem M8:∀ns:List Int,intsOf (ns.map D.int)=a5 ns
 |[]=>rfl
 |n::ns=>by rw[xx,intsOf,M8 ns];rfl
theorem Ox(hT:∀x F,T x=a5 F->LkF P w K mg base x F)(t:Tb P w K mg base G):∀(n:Nat)(x:ah)(ds:List D),
  ∃(f:ae)(fd:aJ)(ps:List ah),match evP fu G T n x ds with
   |.val d=>FnOk P w K mg base CX0 (lv n) f fd ps (spP K λds' d'=>ds'=ds/\d'=d)/\mg x=a5 (.ref f)/\W.keepIn K (.ref f)=a7/\Binds K fd ps []/\Dfl K x fd ps
   |.fresh l=>FnOk P w K mg base CX0 (lv n) f fd ps (spF K λds' l'=>ds'=ds/\l'=l)/\mg x=a5 (.ref f)/\W.keepIn K (.ref f)=a7/\Binds K fd ps []/\Dfl K x fd ps
   |.err y=>FnOk P w K mg base (CX1 P w) (lv n) f fd ps (spX K mg λds' z=>ds'=ds/\z=y)/\mg x=a5 (.ref f)/\W.keepIn K (.ref f)=a7/\Binds K fd ps []
   |.lval d=>∀y,x=zg y->j3r P w K mg base (lv n) y λds' d'=>ds'=ds/\d'=d
   |.mval d k'=>∀g ls (k:Nat) ds',x=mq g->ds=.lst (ls.map D.str)::.int (k:Int)::ds'->∀C,mg "Pieces" = a5 (.ref C)->FnOk P w K mg base CX0 (lv n) f fd ps (spM K C λls2 k2 ds2 d2 k2'=>ls2=ls/\k2=k/\ds2=ds'/\d2=d/\k2'=k')/\mg g=a5 (.ref f)/\W.keepIn K (.ref f)=a7/\Binds K fd ps []
   |.merr y=>∀g ls (k:Nat) ds',x=mq g->ds=.lst (ls.map D.str)::.int (k:Int)::ds'->∀C,mg "Pieces" = a5 (.ref C)->FnOk P w K mg base (CX1 P w) (lv n) f fd ps (j6x K mg C λls2 k2 ds2 x2=>ls2=ls/\k2=k/\ds2=ds'/\x2=y)/\mg g=a5 (.ref f)/\W.keepIn K (.ref f)=a7/\Binds K fd ps []
   |.dval d ks' ns'=>∀g ks ns ds',x=dq g->ds=.dct ks (ns.map D.int)::ds'->FnOk P w K mg base CX0 (lv n) f fd ps (spD K λks2 ns2 ds2 d2 ks2' ns2'=>ks2=ks/\ns2=ns/\ds2=ds'/\d2=d/\ks2'=ks'/\ns2'=ns')/\mg g=a5 (.ref f)/\W.keepIn K (.ref f)=a7/\Binds K fd ps []
   |.no=>True
 |0,x,ds=>⟨0,W.fnOf x x { posonlyargs:=[],args:=[],vararg:=a8,kwonlyargs:=[],kw_defaults:=[],kwarg:=a8,defaults:=[] } [] { kind:=.function,names:=[],isGenerator:=a6,isCoroutine:=a6 } .none .none .none .none a8 .none .none,[],trivial⟩
 |n+1,x,ds=>by
  have ih:=Ox hT t n;cases hF:T x with
  |none =>
   obtain⟨f,fd,ps,_⟩:=ih x ds;refine⟨f,fd,ps,?_⟩;have e:evP fu G T (n+1) x ds=.no:=by simp only[evP,hF]
   rw[e];trivial
  |some F =>
   have gok:∀{X:Cx},X.prog=P->X.w=w->X.K=K->X.mg=mg->X.base=base->Room (lv n+1) X.A->Gok X (evP fu G T n):=λ{X} h1 h2 h3 h4 h5 hr g ds'=>by
    subst h1 h2 h3 h4 h5;obtain⟨f',fd',ps',q⟩:=ih g ds';cases z:evP fu G T n g ds' with
    |val d=>rw[z]at q;exact⟨lv n,f',fd',ps',q.1,hr,q.2.1,q.2.2.1,q.2.2.2⟩
    |fresh l=>rw[z]at q;exact⟨lv n,f',fd',ps',q.1,hr,q.2.1,q.2.2.1,q.2.2.2⟩
    |err y=>rw[z]at q;exact⟨lv n,f',fd',ps',q.1,hr.mono (Xv _),q.2.1,q.2.2.1,q.2.2.2⟩
    |lval d=>rw[z]at q;exact λy hy=>⟨lv n,hr.mono (Xv _),q y hy⟩
    |mval d k=>rw[z]at q;exact λg' ls k ds'' h1 h2 C h3=>let ⟨a,b⟩:=q g' ls k ds'' h1 h2 C h3;⟨⟨lv n,f',fd',ps',a,hr.mono (Xv _),b⟩⟩
    |merr y=>rw[z]at q;exact λg' ls k ds'' h1 h2 C h3=>let ⟨a,b⟩:=q g' ls k ds'' h1 h2 C h3;⟨⟨lv n,f',fd',ps',a,hr.mono (Xv _),b⟩⟩
    |dval d ks ns=>rw[z]at q;exact λg' ks ns ds'' h1 h2=>let ⟨a,b⟩:=q g' ks ns ds'' h1 h2;⟨⟨lv n,f',fd',ps',a,hr,b⟩⟩
    |no=>trivial
   cases hlam:F.lam with
   |true =>
    obtain⟨f,fd,ps,_⟩:=ih x ds;refine⟨f,fd,ps,?_⟩;by_cases hl:ds.length=F.n
    .have e:evP fu G T (n+1) x ds=jfu (fin (run fu (evP fu G T n) G F.body (enter F ds))):=by simp only[evP,hF,if_pos hl,hlam,if_true]
     rw[e];obtain⟨y,ey,L⟩:=(hT x F hF).2 hlam;obtain⟨tx,N,ps,ex,htx,hsc,hN,hnn,hbd,hba,htr⟩:=L.ex;cases ho:fin (run fu (evP fu G T n) G F.body (enter F ds)) with
     |val d =>intro y' hy';have eyy:y=y':=j7t (ey.symm.trans hy');subst eyy;refine jfs (k:=lv n+1) htx hsc (λds' d' h=>by rw[h.1,hl,hN]) hba λa c cl A outer s H hcl hr ds' d' ⟨e1,e2⟩=>?_;subst e1 e2;have ab:j7 (jx N ds')=enter F ds':=Ur hl (by rw[hN,hnn]);rw[hbd,<-ab]at ho;obtain⟨r,er,ed⟩:=jeg ho;exact ed▸(sound (htr a c cl A outer s H) (Qk t rfl rfl rfl rfl rfl (Qf _) hr hsc.nd Pz λz hz hq=>absurd (U4 hq▸hz) (j33 y)) (gok rfl rfl rfl rfl rfl hr) (jx N ds') r er).toT
     |fresh l=>trivial
     |err z=>trivial
     |lval z=>trivial
     |mval z k=>trivial
     |merr z=>trivial
     |dval z ks ns=>trivial
     |no=>trivial
    .have e:evP fu G T (n+1) x ds=.no:=by simp only[evP,hF,if_neg hl]
     rw[e];trivial
   |false =>
   rcases(hT x F hF).1 hlam with ⟨L,hlast,hhead,hhead2⟩|L|L
   rotate_left 2
   .obtain⟨g0,p,st,f,fd,N,ps,hxg,hbody,hfun,hsc,hps,hN,hp0,hpN,hb,hm,hmd⟩:=L.ex;refine⟨f,fd,ps,?_⟩;by_cases hl:ds.length=F.n
    .have e:evP fu G T (n+1) x ds=fin (run fu (evP fu G T n) G F.body (enter F ds)):=by simp only[evP,hF,if_pos hl,hlam,Pg,if_false]
     rw[e,hbody,show run fu (evP fu G T n) G (.dx p) (enter F ds)=dxS (enter F ds)[0]? (λks ns=>j2o (evP fu G T n) G p ks ns ((enter F ds).set 0 (.exc rfN))) from rfl];cases ho:dxS (enter F ds)[0]? λks ns=>j2o (evP fu G T n) G p ks ns ((enter F ds).set 0 (.exc rfN)) with
     |next ρ' =>
      exfalso;unfold dxS at ho
      repeat' split at ho
      all_goals cases ho
     |brk _=>trivial
     |cnt _=>trivial
     |no=>trivial
     |err y ρ' =>
      exfalso;unfold dxS at ho
      repeat' split at ho
      all_goals cases ho
     |ret r =>
      have sh:∃d ks' ns',r=.dval d ks' ns':=by
       unfold dxS at ho
       repeat' split at ho
       all_goals (cases ho)
       exact⟨_,_,_,rfl⟩
      obtain⟨d,ks',ns',er⟩:=sh;subst er;intro g ks ns ds' h1 h2;have eg:g0=g:=jh1 (hxg.symm.trans h1);subst eg;have hl2:ds'.length+1=ps.length:=by rw[h2]at hl;simp only[X4]at hl;omega
      have z:j2o (evP fu G T n) G p ks ns ((enter F ds).set 0 (.exc rfN))=a5 (d,ks',ns'):=by
       have e0:(enter F ds)[0]?=a5 (.val (.dct ks (ns.map D.int))):=by rw[h2];rfl
       rw[e0]at ho;unfold dxS at ho;simp only[M8]at ho;split at ho
       .rename_i d2 ks2 ns2 z;cases ho;exact z
       .cases ho
      refine⟨jl9 (n:=lv n+1) hfun hsc (λks2 ns2 ds2 d2 ks2' ns2' h=>by rw[h.2.2.1,hl2]) λcdv A outer s H E hcv hr a ks2 ns2 ds2 d2 ks2' ns2' h=>?_,hm,hfun.kp,hb⟩;obtain⟨rfl,rfl,rfl,rfl,rfl,rfl⟩:=h;have ck:=Qk t (X:=(q8 CX0 P w K mg base N g0 (j0 st) f cdv A outer s H E).nox) rfl rfl rfl rfl rfl (Qf _) hr hsc.nd Pz (V8 t hm hcv rfl rfl);refine hmd cdv A outer s H E _ (evP fu G T n) G ck (gok rfl rfl rfl rfl rfl hr) _ a _ _ _ _ _ ⟨dOb,?_⟩ (Ym _ _ _) ?_
      .unfold startM;exact Q7 (by unfold jx;rw[Xb,xf,X4];omega)
      .rw[j14 (F:=F) (d:=.dct ks2 (ns2.map D.int)) nofun hN,<-h2];exact z
    .have e:evP fu G T (n+1) x ds=.no:=by simp only[evP,hF,if_neg hl]
     rw[e];trivial
   rotate_left
   .obtain⟨g0,p,st,f,fd,N,ps,hxg,hbody,hfun,hsc,hps,hN,hp0,hpN,hb,hm,⟨C0,hC0,hPc⟩,hmp⟩:=L.ex;refine⟨f,fd,ps,?_⟩;by_cases hl:ds.length=F.n
    .have e:evP fu G T (n+1) x ds=fin (run fu (evP fu G T n) G F.body (enter F ds)):=by simp only[evP,hF,if_pos hl,hlam,Pg,if_false]
     rw[e,hbody,show run fu (evP fu G T n) G (.px p) (enter F ds)=pxS (enter F ds)[0]? (enter F ds)[1]? (λls k=>Ih fu (evP fu G T n) G ls p (.exc rfN::(enter F ds).drop 2) k) from rfl];cases ho:pxS (enter F ds)[0]? (enter F ds)[1]? λls k=>Ih fu (evP fu G T n) G ls p (.exc rfN::(enter F ds).drop 2) k with
     |next ρ' =>
      exfalso;unfold pxS at ho
      repeat' split at ho
      all_goals cases ho
     |brk _=>trivial
     |cnt _=>trivial
     |no=>trivial
     |err y ρ' =>
      exfalso;unfold pxS at ho
      repeat' split at ho
      all_goals cases ho
     |ret r =>
      have key:∀g ls (k:Nat) ds',x=mq g->ds=.lst (ls.map D.str)::.int (k:Int)::ds'->g0=g/\ds'.length+1=ps.length/\∀a:ae,
        (∀d k',r=.mval d k'->Ih fu (evP fu G T n) G ls p (j7 (startM N a ds')) k=.ret d k')/\(∀y,r=.merr y->∃ρ',Ih fu (evP fu G T n) G ls p (j7 (startM N a ds')) k=.err y ρ'):=λg ls k ds' h1 h2=>by
       refine⟨jfd (hxg.symm.trans h1),?_,λa=>?_⟩
       .rw[h2]at hl;simp only[X4]at hl;omega
       rw[j13 (F:=F) (ls:=ls.map D.str) (k:=(k:Int)) (by rw[h2]at hl;simp only[X4]at hl;omega) hN,<-h2];have e0:(enter F ds)[0]?=a5 (.val (.lst (ls.map D.str))):=by rw[h2];rfl
       have e1:(enter F ds)[1]?=a5 (.val (.int (k:Int))):=by rw[h2];rfl
       rw[e0,e1]at ho;unfold pxS at ho;simp only[j18,Xe,iW,if_true]at ho;split at ho
       .rename_i d k' z;cases ho;exact⟨λd2 k2 q=>(by cases q;exact z),λy q=>(by cases q)⟩
       .rename_i y ρ' z;cases ho;exact⟨λd2 k2 q=>(by cases q),λy q=>(by cases q;exact⟨_,z⟩)⟩
       .cases ho
      have sh:(∃d k',r=.mval d k')\/∃y,r=.merr y:=by
       unfold pxS at ho
       repeat' split at ho
       all_goals (cases ho)
       .exact .inl ⟨_,_,rfl⟩
       .exact .inr ⟨_,rfl⟩
      rcases sh with ⟨d,k',er⟩|⟨y,er⟩
      .subst er;intro g ls k ds' h1 h2 C hC;obtain⟨eg,hl2,kk⟩:=key g ls k ds' h1 h2;subst eg;cases hC0.symm.trans hC;refine⟨jl8 (n:=lv n+1) hfun hsc (λls2 k2 ds2 d2 k2' h=>by rw[h.2.2.1,hl2]) λcdv A outer s H E hcv hr o ls2 k2 ds2 d2 k2' h=>?_,hm,hfun.kp,hb⟩;obtain⟨rfl,rfl,rfl,rfl,rfl⟩:=h;have ck:=Qk t (X:=(q8 CX0 P w K mg base N g0 (j0 st) f cdv A outer s H E).nox) rfl rfl rfl rfl rfl (Qf _) hr hsc.nd Pz (V8 t hm hcv rfl rfl);refine hmp cdv A outer s H E _ fu (evP fu G T n) G ck (gok rfl rfl rfl rfl rfl hr) C0 hC0 (j2t hPc rfl rfl rfl rfl rfl (Qf _) hr) o _ _ _ _ ⟨dOb,?_⟩ ?_
       .unfold startM;exact Q7 (by unfold jx;rw[Xb,xf,X4];omega)
       .rw[(kk o.a).1 _ _ rfl];exact⟨rfl,rfl⟩
      .subst er;intro g ls k ds' h1 h2 C hC;obtain⟨eg,hl2,kk⟩:=key g ls k ds' h1 h2;subst eg;cases hC0.symm.trans hC;refine⟨jjg (n:=lv n+1) hfun hsc (λls2 k2 ds2 y2 h=>by rw[h.2.2.1,hl2]) λcdv A outer s H E hcv hr o ls2 k2 ds2 y2 h=>?_,hm,hfun.kp,hb⟩;obtain⟨rfl,rfl,rfl,rfl⟩:=h;have ck:=Qk t (X:=q8 (CX1 P w) P w K mg base N g0 (j0 st) f cdv A outer s H E) rfl rfl rfl rfl rfl (Qf _) hr hsc.nd eE (V8 t hm hcv rfl rfl);refine hmp cdv A outer s H E (q8 (CX1 P w) P w K mg base N g0 (j0 st) f cdv A outer s H E).xe fu (evP fu G T n) G ck (gok rfl rfl rfl rfl rfl hr) C0 hC0 (j2t hPc rfl rfl rfl rfl rfl (Qf _) hr) o _ _ _ _ ⟨dOb,?_⟩ ?_
       .unfold startM;exact Q7 (by unfold jx;rw[Xb,xf,X4];omega)
       .obtain⟨ρ',z⟩:=(kk o.a).2 _ rfl;rw[z];exact λ_ _=>rfl
    .have e:evP fu G T (n+1) x ds=.no:=by simp only[evP,hF,if_neg hl]
     rw[e];trivial
   obtain⟨st,f,fd,N,ps,hfun,hsc,hps,hN,hb,hdf,hm,hts⟩:=L.ex;refine⟨f,fd,ps,?_⟩;by_cases hl:ds.length=F.n
   .have e:evP fu G T (n+1) x ds=fin (run fu (evP fu G T n) G F.body (enter F ds)):=by simp only[evP,hF,if_pos hl,hlam,Pg,if_false]
    have ab:j7 (jx N ds)=enter F ds:=Ur hl hN;cases ho:run fu (evP fu G T n) G F.body (enter F ds) with
    |next ρ' =>rw[e,ho];refine⟨Fj (k:=lv n+1) hfun hsc (λds' d' h=>by rw[h.1,hl,hps]) λcdv A outer s H E hcv hr ds' d' ⟨e1,e2⟩=>?_,hm,hfun.kp,hb,hdf⟩;subst e1 e2;refine Vg (fu:=fu) (hts cdv A outer s H E _) (Qk t rfl rfl rfl rfl rfl (Qf _) hr hsc.nd Pz (V8 t hm hcv rfl rfl)) (gok rfl rfl rfl rfl rfl hr) (jx N ds') _ ?_;rw[ab,ho];exact λ_ _=>rfl
    |ret r =>
     rw[e,ho];cases r with
     |no=>trivial
     |lval d=>exact λy hy=>absurd (hy▸Dy y) hlast
     |mval d k=>exact λg _ _ _ hy=>absurd (hy▸j1k g) hhead
     |merr d=>exact λg _ _ _ hy=>absurd (hy▸j1k g) hhead
     |dval d ks ns=>exact λg _ _ _ hy=>absurd (hy▸jd0 g) hhead2
     |err y =>refine⟨j5l (k:=lv n+1) hfun hsc (λds' d' h=>by rw[h.1,hl,hps]) λcdv A outer s H E hcv hr ds' y' ⟨e1,e2⟩=>?_,hm,hfun.kp,hb⟩;subst e1 e2;refine Vg (X:=q8 (CX1 P w) P w K mg base N x (j0 st) f cdv A outer s H E) (fu:=fu) (hts cdv A outer s H E (q8 (CX1 P w) P w K mg base N x (j0 st) f cdv A outer s H E).xe) (Qk t rfl rfl rfl rfl rfl (Qf _) hr hsc.nd eE (V8 t hm hcv rfl rfl)) (gok rfl rfl rfl rfl rfl hr) (jx N ds') _ ?_;rw[ab,ho];intro z hz;cases z<;>cases hz
     |val d =>
      refine⟨Fj (k:=lv n+1) hfun hsc (λds' d' h=>by rw[h.1,hl,hps]) λcdv A outer s H E hcv hr ds' d' ⟨e1,e2⟩=>?_,hm,hfun.kp,hb,hdf⟩;subst e1 e2;refine Vg (fu:=fu) (hts cdv A outer s H E _) (Qk t rfl rfl rfl rfl rfl (Qf _) hr hsc.nd Pz (V8 t hm hcv rfl rfl)) (gok rfl rfl rfl rfl rfl hr) (jx N ds') _ ?_;rw[ab,ho];intro y hy;cases y with
      |val d=>cases hy;rfl
      |fresh l=>cases hy
     |fresh l =>
      refine⟨j8j (k:=lv n+1) hfun hsc (λds' d' h=>by rw[h.1,hl,hps]) λcdv A outer s H E hcv hr ds' d' ⟨e1,e2⟩=>?_,hm,hfun.kp,hb,hdf⟩;subst e1 e2;refine Vg (fu:=fu) (hts cdv A outer s H E _) (Qk t rfl rfl rfl rfl rfl (Qf _) hr hsc.nd Pz (V8 t hm hcv rfl rfl)) (gok rfl rfl rfl rfl rfl hr) (jx N ds') _ ?_;rw[ab,ho];intro y hy;cases y with
      |val d=>cases hy
      |fresh l=>cases hy;rfl
    |err y ρ' =>rw[e,ho];refine⟨j5l (k:=lv n+1) hfun hsc (λds' d' h=>by rw[h.1,hl,hps]) λcdv A outer s H E hcv hr ds' y' ⟨e1,e2⟩=>?_,hm,hfun.kp,hb⟩;subst e1 e2;refine Vg (X:=q8 (CX1 P w) P w K mg base N x (j0 st) f cdv A outer s H E) (fu:=fu) (hts cdv A outer s H E (q8 (CX1 P w) P w K mg base N x (j0 st) f cdv A outer s H E).xe) (Qk t rfl rfl rfl rfl rfl (Qf _) hr hsc.nd eE (V8 t hm hcv rfl rfl)) (gok rfl rfl rfl rfl rfl hr) (jx N ds') _ ?_;rw[ab,ho];exact λ_ _=>rfl
    |brk _=>rw[e,ho];trivial
    |cnt _=>rw[e,ho];trivial
    |no=>rw[e,ho];trivial
   .have e:evP fu G T (n+1) x ds=.no:=by simp only[evP,hF,if_neg hl]
    rw[e];trivial
end
noncomputable def Gof(gs:List (ah×D))(q:Bool)(xs:List (ah×List D))(fs:List ah)(x:ah):Option D :=
 if Zz x=a7 then(if x = "?" then(if q=a7 then a5 (.bl a7)else a8) else((xs.find? λp=>bang p.1==x).map λp=>.lst p.2).or (if (fs.any λf=>qm f==x)=a7 then a5 .non else a8))else gs.lookup x
theorem j9e{x y:ah}(h:bang x=bang y):x=y:=by unfold bang at h;have h:(⟨("!":ah).cps++x.cps⟩:ah)=⟨("!":ah).cps++y.cps⟩:=h;have h:=congrArg gT h;have e:x.cps=y.cps:=cq h rfl;cases x;cases y;cases e;rfl
theorem j11(x:ah):Zz (bang x)=a7:=by unfold Zz;rw[Wu];rfl
theorem j6d(x:ah):Zz (qm x)=a7:=by unfold Zz;rw[j1f];rfl
theorem Ew{gs:List (ah×D)}{q:Bool}{xs:List (ah×List D)}{fs:List ah}{x:ah}{d:D}(h:Gof gs q xs fs (bang x)=a5 d):∃p∈xs,p.1=x/\d=.lst p.2:=by
 unfold Gof at h;rw[if_pos (j11 x),if_neg (j26 x)]at h;have hn:(fs.any λf=>qm f==bang x)=a6:=by rw[iV];intro f _ e;exact j25 x f (beq_iff_eq.mp e).symm
 rw[hn,if_neg (by decide),Option.or_none]at h;obtain⟨p,hp,rfl⟩:=t8.mp h;have z:=jM (p:=λp:ah×List D=>bang p.1==bang x) hp;exact⟨p,gn hp,j9e (beq_iff_eq.mp z),rfl⟩
theorem Eu{gs:List (ah×D)}{q:Bool}{xs:List (ah×List D)}{fs:List ah}{x:ah}{d:D}(h:Gof gs q xs fs (qm x)=a5 d):x∈fs:=by
 unfold Gof at h;rw[if_pos (j6d x),if_neg (Lr x)]at h;have hn:(xs.find? λp=>bang p.1==qm x)=a8:=by rw[iD];intro p _ e;exact j25 p.1 x (beq_iff_eq.mp e)
 rw[hn,iQ,Option.none_or]at h;split at h
 .rename_i z;obtain⟨f,hf,e⟩:=List.any_eq_true.mp z;exact jen (beq_iff_eq.mp e)▸hf
 .cases h
theorem ji3{P:ar}{w:aA}{K:k83}{mg:k86}{base:aG}{gs:List (ah×D)}{q:Bool}{xs:List (ah×List D)}{fs:List ah}(bt:∀x∈Zc,mg x=a8)
  (gl:∀x d,gs.lookup x=a5 d->∃u v,mg x=a5 u/\RelV v u/\∀H,Enc K H d v) (ea:Qg K=a7) (hx:∀p∈xs,p.1∈jn/\∃o,W.nsIn K aq p.1=a5 (a5 o))
  (el:q=a7->∀c∈jn,∃v,W.nsIn K aq c=a5 (a5 v)) (kin:K.In base) (ns:base.Ns aq mg) (fn:∀f∈fs,∃fa,mg f=a5 (.ref fa)/\W.keepIn K (.ref fa)=a7) (kd:∀p∈xs,KindsP P w K mg base "_law_kinds" p.1 p.2) (lm:∀x∈Zh,∀f cdv,mg x=a5 (.ref f)->Vu K f cdv->∃c Pt,cdv=.ref c/\W.codeHdIn K c Pt=a7/\W.tabIn K x=a5 (c,Pt)) (pl:("_law_plan":ah)∈fs->j6f P w K mg base:=by exact λh=>absurd h (by decide)) (pc:("Pieces":ah)∈fs->∃C,mg "Pieces" = a5 (.ref C)/\j3q P w K mg base C:=by exact λh=>absurd h (by decide)):Tb P w K mg base (Gof gs q xs fs):=by
 refine⟨bt,λx d hb h=>?_,ea,λx d h=>?_,λh=>el ?_,kin,ns,λx l h=>?_,λf d h=>fn f (Eu h),λd h=>pl (Eu h),λd h=>pc (Eu h),lm⟩
 .unfold Gof at h;rw[if_neg (by rw[hb];decide)]at h;exact gl x d h
 .obtain⟨p,hp,rfl,_⟩:=Ew h;exact hx p hp
 .unfold Gof at h;rw[if_pos (by decide),if_pos rfl]at h;split at h
  .rename_i z;exact z
  .cases h
 .obtain⟨p,hp,rfl,e⟩:=Ew h;cases e;exact kd p hp
def Lq(K:k83):Sp:=λvs H Q _=>∃(a:ae)(ns:List Int),vs=[.ref a]/\TabOk K H/\SqL K H a (ns.map V.int)/\ns.length<=63/\∀H':Hp,j4 H H'->Q (.bl a7) H'
theorem j0x{K:k83}{H:Hp}{a:ae}{ns:List Int}(h:SqL K H a (ns.map V.int)):j5 K H [.lst (ns.map D.int)] [.ref a] :=
 ⟨_,[],rfl,⟨a,_,rfl,h,j5.ints ns⟩,rfl⟩
theorem jfr{P:ar}{w:aA}{K:k83}{mg:k86}{base:aG}{fu:Nat}{G:ah->Option D}{T:ah->Option Fi}{n:Nat}{x p:ah}{fa:ae}{st:aN}{F:Fi}
  (hT:∀x F,T x=a5 F->LkF P w K mg base x F) (t:Tb P w K mg base G)
  (hx:T x=a5 F) (hlam:F.lam=a6) (hm:mg x=a5 (.ref fa)) {fd:aJ} (hfun:Fun K x x st fa fd) (N:List ah) (hsc:FnScope N [p] (j0 st)) (h1:F.n=1) (hN:N.length=F.nn)
  (hts:∀(cdv:aa)(A:aC)(outer:List cI)(s:af)(H:Hp)(E:XK)(xe:k84),Ts ((q8 CX0 P w K mg base N x (j0 st) fa cdv A outer s H E).wish xe) F.body (.ss (jc st)))
  (hlaw:∀ns:List Int,ns.length<=63->evP fu G T (n+1) x [.lst (ns.map D.int)]=.val (.bl a7)):FnOk P w K mg base CX0 (lv (n+1)) fa fd [p] (Lq K):=by
 have S:FnOk P w K mg base CX0 (lv (n+1)) fa fd [p] (spP K λds d=>∃ns:List Int,ns.length<=63/\ds=[.lst (ns.map D.int)]/\d=.bl a7):=by
  refine Fj (k:=lv n+1) hfun hsc (λds d ⟨ns,_,h,_⟩=>by rw[h];rfl) λcdv A outer s H E hcv hr ds d ⟨ns,hns,e1,e2⟩=>?_;subst e1 e2;have e:=hlaw ns hns;simp only[evP,hx,h1,hlam,Pg,if_false,X4,cQ,if_true]at e;have ab:j7 (jx N [D.lst (ns.map D.int)])=enter F [D.lst (ns.map D.int)]:=Ur (by rw[h1];rfl) hN;have g:Gok (q8 CX0 P w K mg base N x (j0 st) fa cdv A outer s H E).nox (evP fu G T n):=λg ds'=>by
   obtain⟨f',fd',ps',q⟩:=Ox (fu:=fu) hT t n g ds';cases z:evP fu G T n g ds' with
   |val d=>rw[z]at q;exact⟨lv n,f',fd',ps',q.1,hr,q.2.1,q.2.2.1,q.2.2.2⟩
   |fresh l=>rw[z]at q;exact⟨lv n,f',fd',ps',q.1,hr,q.2.1,q.2.2.1,q.2.2.2⟩
   |err y=>rw[z]at q;exact⟨lv n,f',fd',ps',q.1,hr.mono (Xv _),q.2.1,q.2.2.1,q.2.2.2⟩
   |lval d=>rw[z]at q;exact λy hy=>⟨lv n,hr.mono (Xv _),q y hy⟩
   |mval d k=>rw[z]at q;exact λg' ls k ds'' h1 h2 C h3=>let ⟨a,b⟩:=q g' ls k ds'' h1 h2 C h3;⟨⟨lv n,f',fd',ps',a,hr.mono (Xv _),b⟩⟩
   |merr y=>rw[z]at q;exact λg' ls k ds'' h1 h2 C h3=>let ⟨a,b⟩:=q g' ls k ds'' h1 h2 C h3;⟨⟨lv n,f',fd',ps',a,hr.mono (Xv _),b⟩⟩
   |dval d ks ns=>rw[z]at q;exact λg' ks ns ds'' h1 h2=>let ⟨a,b⟩:=q g' ks ns ds'' h1 h2;⟨⟨lv n,f',fd',ps',a,hr,b⟩⟩
   |no=>trivial
  refine Vg (fu:=fu) (hts cdv A outer s H E _) (Qk t rfl rfl rfl rfl rfl (Qf _) hr hsc.nd Pz (V8 t hm hcv rfl rfl)) g (jx N _) _ ?_;rw[ab];cases ho:run fu (evP fu G T n) G F.body (enter F [D.lst (ns.map D.int)]) with
  |ret r =>
   rw[ho]at e;have e:r=.val (.bl a7):=e;subst e;intro y hy;cases y with
   |val d=>cases hy;rfl
   |fresh l=>cases hy
  |next ρ'=>rw[ho]at e;cases e
  |brk _=>rw[ho]at e;cases e
  |cnt _=>rw[ho]at e;cases e
  |err _ _=>rw[ho]at e;cases e
  |no=>rw[ho]at e;cases e
 refine S.imp λvs H Q E ⟨a,ns,hv,tb,hS,hl,k⟩=>?_;subst hv;exact⟨[],_,_,tb,(λa h=>nomatch h),by rw[vf];exact j0x hS,⟨ns,hl,rfl,rfl⟩,λv H' g e=>by cases(show v=.bl a7 from e);exact k H' g⟩
noncomputable def Ln(K:k83):List (ae×ah):=Zh.filterMap λx=>(W.tabIn K x).map λq=>(q.2,zg x)
noncomputable def tOk(K:k83)(ts:List ae):Bool:=(Zh.all λx=>match W.nsIn K aq x with
  |some a8=>a7
  |_=>match W.tabIn K x with
   |some (c,P)=>W.codeHdIn K c P&&ts.contains P
   |none=>a6)&&W.noTabs K&&decide ((Ln K).map (·.1)).Nodup
theorem jaw{K:k83}{ts:List ae}{h:aG}(hk:tOk K ts=a7)(X:K.In h)(ht:∀P∈ts,h.get? P=a5 (W.tabObj #[])):j9h (Ln K) h:=by
 unfold tOk at hk;rw[X8,X8]at hk;refine⟨of_decide_eq_true hk.2,λt hm=>?_⟩;obtain⟨x,hx,e⟩:=Pn.mp hm;obtain⟨⟨c,P⟩,e1,e2⟩:=t8.mp e;subst e2;have z:=Xq.mp hk.1.1 x hx;split at z
 .rename_i y;exfalso;unfold W.tabIn at e1;rw[y]at e1;cases e1
 .rw[e1]at z;have z:(W.codeHdIn K c P&&ts.contains P)=a7:=z;rw[X8]at z;exact⟨⟨c,W.codeHd_of_K X z.1⟩,ht P (by simpa using z.2)⟩
theorem jiw{K:k83}{ts:List ae}{h:aG}{mg:k86}(hk:tOk K ts=a7)(X:K.In h)(Gn:h.Ns aq mg):∀x∈Zh,∀f cdv,mg x=a5 (.ref f)->Vu K f cdv->∃c Pt,cdv=.ref c/\W.codeHdIn K c Pt=a7/\W.tabIn K x=a5 (c,Pt):=λx hx f cdv hm hcv=>by
 unfold tOk at hk;rw[X8,X8]at hk;have z:=Xq.mp hk.1.1 x hx;split at z
 .rename_i y;rw[W.mg_none_of X Gn y]at hm;cases hm
 .split at z
  .rename_i c P e;rw[X8]at z;refine⟨c,P,?_,z.1,e⟩;obtain⟨oc,od,fd,sl,e3,e4⟩:=hcv;unfold W.tabIn at e;split at e
   .rename_i f' hf;have e5:=W.mg_of X Gn hf;rw[hm]at e5;cases e5;rw[e3]at e;dsimp only at e;split at e
    .rename_i c' hc;split at e
     .split at e
      .cases e;rw[<-e4];exact hc
      .cases e
     .cases e
    .cases e
   .cases e
  .cases z
theorem jdq{K:k83}{H:Hp}(hO:Only (Ln K) H):TabOk K H:=λx hx c P e=>hO.2 (P,zg x) (Pn.mpr ⟨x,hx,by rw[e];rfl⟩)
theorem j4z{K:k83}{ts:List ae}(hk:tOk K ts=a7):W.noTabs K=a7:=by unfold tOk at hk;rw[X8,X8]at hk;exact hk.1.2
theorem walkL{l:dj}{q:ar}{loose:List ah}{XP:(ah->Option aa)->aG->Prop}{YP:aA->aG->Prop}{d:DefRec}{K:lY->k83}{k:Nat}{x:ah}{ts:List ae}(hk:k<=200)(hn:l.most=a5 63)(hdf:d.params.defaults=[])
  (hY:∀(w:aA)(h:aG),YP w h->(K w.params).In h/\∀P∈ts,h.get? P=a5 (W.tabObj #[])) (hK:∀w:aA,tOk (K w.params) ts=a7)
  (F:∀(w:aA)(mg:k86)(fa:ae)(h:aG),(K w.params).In h->h.Ns aq mg->mg d.name=a5 (.ref fa)->tOk (K w.params) ts=a7 ->
   ∃fd:aJ,(∀(s:af)(u:aa),g6 s fd ⟨[u],[]⟩ [(x,u)])/\∀base:aG,(K w.params).In base->base.Ns aq mg->FnOk l.prog w (K w.params) mg base CX0 k fa fd [x] (Lq (K w.params))) :
  i9 q loose XP YP l.row.toRowW d [] (λf vs=>ij f vs) :=
 L2.walk_of (n:=63) (k:=k) (x:=x) (CX:=λ_=>CX0) (sp:=λw=>Lq (K w.params)) (ts:=λw=>Ln (K w.params)) hn (by decide) hdf
  (Room.mono (k:=200) ⟨rfl,by decide,by decide,rfl⟩ hk) (λw h Y=>⟨(hY w h Y).1,jaw (hK w) (hY w h Y).1 (hY w h Y).2⟩) (λw=>j4z (hK w)) (λw mg fa h X G m=>F w mg fa h X G m (hK w)) (λw H a ns hl hO hS=>⟨a,ns,rfl,jdq hO,hS,hl,λH' g=>⟨rfl,g⟩⟩) λ_ _ _ _ _ z=>z
def Lf(K:k83)(x:ah)(st:aN):Prop:=∃(f:ae)(oc:aa)(od:Option ae)(kV dc pm:aa)(an:Option ae)(cd ct:aa)(sl:Array (Option aa)),W.nsIn K aq x=a5 (a5 (.ref f)) /\
 K.lookup f=a5 ⟨oc,od,.func (W.fnOf x x (z9 st) (jc st) (j0 st) .none kV dc pm an cd ct),sl⟩/\W.codeIn K cd x=a7/\W.keepIn K (.ref f)=a7
def TrT(P:ar)(w:aA)(K:k83)(mg:k86)(base:aG)(x:ah)(N:List ah)(st:aN)(b:Sx):Prop :=
 ∀(f:ae)(cdv:aa)(A:aC)(outer:List cI)(s:af)(H:Hp)(E:XK) (xe:k84),Ts ((q8 CX0 P w K mg base N x (j0 st) f cdv A outer s H E).wish xe) b (.ss (jc st))
def TrH(P:ar)(w:aA)(K:k83)(mg:k86)(base:aG)(x:ah)(N:List ah)(st:aN)(b:Sx):Prop :=
 ∀(f:ae)(cdv:aa)(A:aC)(outer:List cI)(s:af)(H:Hp),Ts { (q8 CX0 P w K mg base N x (j0 st) f cdv A outer s H E0).nox with calm:=a6 } b (.ss (jc st))
noncomputable def bOk(K:k83):Bool:=Zc.all λx=>match W.nsIn K aq x with
 |some a8=>a7
 |_=>a6
noncomputable def xOk(K:k83):Bool:=jn.all λx=>match W.nsIn K aq x with
 |some (a5 _)=>a7
 |_=>a6
section
variable{P:ar}{w:aA}{K:k83}{mg:k86}{base h:aG}{x:ah}{st:aN}{N ps:List ah}{F:Fi}
theorem jjq(X:K.In h)(Gn:h.Ns aq mg)(hb:bOk K=a7):∀x∈Zc,mg x=a8:=λx hx=>by
 have z:=Xq.mp hb x hx;split at z
 .rename_i e;exact W.mg_none_of X Gn e
 .cases z
theorem jjn(hx:xOk K=a7):∀c∈jn,∃v,W.nsIn K aq c=a5 (a5 v):=λc hc=>by
 have z:=Xq.mp hx c hc;split at z
 .rename_i v e;exact⟨v,e⟩
 .cases z
theorem z8(L:Lf K x st)(X:K.In h)(Gn:h.Ns aq mg)(t:TrT P w K mg base x N st F.body)(ps:List ah)(sc:FnScope N ps (j0 st))(h1:ps.length=F.n)(h2:N.length=F.nn)
  (hb:∀(kV doc pm:aa)(an:Option ae)(cdv ct:aa)(us:List aa),us.length=ps.length->cO (W.fnOf x x (z9 st) (jc st) (j0 st) .none kV doc pm an cdv ct) ⟨us,[]⟩=pure (ps.zip us)) (hd:x∉jh2):Lk P w K mg base x F:=by
 obtain⟨f,oc,od,kV,dc,pm,an,cd,ct,sl,a,l,c,k⟩:=L;exact⟨st,f,_,N,ps,We l c k,sc,h1,h2,(We l c k).binds hb,λz=>absurd z hd,W.mg_of X Gn a,t f⟩
theorem jfq{p:ah}(L:Lf K x st)(X:K.In h)(Gn:h.Ns aq mg)(t:TrH P w K mg base x N st F.body)(sc:FnScope N [p] (j0 st))(h1:1<=N.length)(h2:N.length=F.nn)
  (hb:∀(kV doc pm:aa)(an:Option ae)(cdv ct:aa)(us:List aa),us.length=[p].length->cO (W.fnOf x x (z9 st) (jc st) (j0 st) .none kV doc pm an cdv ct) ⟨us,[]⟩=pure ([p].zip us)):LkH P w K mg base x F:=by
 obtain⟨f,oc,od,kV,dc,pm,an,cd,ct,sl,a,l,c,k⟩:=L;exact⟨st,f,_,N,p,We l c k,sc,h1,h2,(We l c k).binds hb,W.mg_of X Gn a,t f⟩
theorem lkF(L:Lk P w K mg base x F)(h:F.lam=a6)(hn:x.cps.toList.getLast?≠a5 62)(hh:x.cps.toList.head?≠a5 64)(hh2:x.cps.toList.head?≠a5 35:=by decide):LkF P w K mg base x F:=⟨λ_=>.inl ⟨L,hn,hh,hh2⟩,λz=>by rw[h]at z;cases z⟩
theorem us1{us:List aa}(h:us.length=1):∃a,us=[a]:=by match us,h with|[a],_=>exact⟨a,rfl⟩
theorem us2{us:List aa}(h:us.length=2):∃a b,us=[a,b]:=by match us,h with|[a,b],_=>exact⟨a,b,rfl⟩
theorem us3{us:List aa}(h:us.length=3):∃a b c,us=[a,b,c]:=by match us,h with|[a,b,c],_=>exact⟨a,b,c,rfl⟩
end
theorem lf_mk{K:k83}{x:ah}{st:aN}{f:ae}{oc:aa}{od:Option ae}{kV dc pm:aa}{an:Option ae}{cd ct:aa}{sl:Array (Option aa)}(a:W.nsIn K aq x=a5 (a5 (.ref f)))
  (l:K.lookup f=a5 ⟨oc,od,.func (W.fnOf x x (z9 st) (jc st) (j0 st) .none kV dc pm an cd ct),sl⟩) (c:W.codeIn K cd x=a7) (k:W.keepIn K (.ref f)=a7):Lf K x st:=⟨f,oc,od,kV,dc,pm,an,cd,ct,sl,a,l,c,k⟩
end L2
end
section
namespace L2
open PySem (Str sizeLine argBest)
theorem Jq{n:Nat}(h:n<=1000000):n<=ak:=Xd h (by decide)
theorem lt_size{n:Nat}(h:n<=1000000):n<ak:=d8 h (by decide)
noncomputable def Nq(o:So)(f:En->So):So:=match o with
 |.next ρ=>f ρ
 |o=>o
noncomputable def ifS(c:Option Bool)(f g:En->So)(ρ:En):So:=match c with
 |some a7=>f ρ
 |some a6=>g ρ
 |none=>.no
noncomputable def K5(is:List Nat)(f:En->So)(d:D)(ρ:En):So:=match v6 is d ρ with
 |some ρ2=>f ρ2
 |none=>.no
noncomputable def j9w(is:List Nat)(w:Option W)(f:En->So)(ρ:En):So:=match w with
 |some (.i ds)=>Q0 (K5 is f) ds ρ
 |_=>.no
section
variable{fu:Nat}{Γ:ah->List D->Rc}{G:ah->Option D}{ρ:En}{i j:Nat}{e c k:Ex}{a b:Sx}{is:List Nat}
theorem jbb:run fu Γ G .nop ρ=.next ρ:=(rfl)
theorem jb8:run fu Γ G (.seq a b) ρ=Nq (run fu Γ G a ρ) (run fu Γ G b):=(rfl)
theorem run_set:run fu Γ G (.set i e) ρ=orE (Yk i (ev Γ G e ρ) ρ) (er Γ G e ρ) ρ:=(rfl)
theorem jbc:run fu Γ G (.mov i j) ρ=Ed i j ρ[j]? ρ:=(rfl)
theorem j79:run fu Γ G (.expr e) ρ=orE (Ft (ev Γ G e ρ) ρ) (er Γ G e ρ) ρ:=(rfl)
theorem jb9:run fu Γ G (.ret e) ρ=orE (retS (ev Γ G e ρ)) (er Γ G e ρ) ρ:=(rfl)
theorem j7i{ρ':En}{x:Option ah}:orE (.next ρ') x ρ=.next ρ':=(rfl)
theorem j1j{r:Rc}{x:Option ah}:orE (.ret r) x ρ=.ret r:=(rfl)
theorem jbu{y:ah}:orE .no (a5 y) ρ=.err y ρ:=(rfl)
theorem je4:Yk i a8 ρ=.no:=(rfl)
theorem jgg:Ft a8 ρ=.no:=(rfl)
noncomputable def erR(G:ah->Option D):Rc->Option ah
 |.err x=>if (G (bang x)).isSome=a7 then a5 x else a8
 |_=>a8
noncomputable def erC(Γ:ah->List D->Rc)(G:ah->Option D)(f:ah)(w:Option W):Option ah:=match w with
 |some (.a rs)=>erR G (Γ f (rs.map Rk.d))
 |_=>a8
theorem jgt:ev Γ G (.fst e) ρ=O1 (ev Γ G e ρ):=(rfl)
theorem jgd{rs:List Rk}{ys:List ah}(h:rs.length<=1000)(h2:Jm rs=a5 ys):O1 (a5 (.a rs))=a5 (.v (.e (.str (Bj cY ys)))):=by unfold O1;dsimp only;rw[if_pos h,h2];rfl
noncomputable def erK(Γ:ah->List D->Rc)(G:ah->Option D)(f:ah)(x:Option ah)(w:Option W):Option ah:=match x with
 |some x=>if (G (qm f)).isSome=a7 then a5 x else a8
 |none=>erC Γ G f w
theorem Rq{f:ah}:er Γ G (.call f e) ρ=erK Γ G f (er Γ G e ρ) (ev Γ G e ρ):=by
 rw[er];cases er Γ G e ρ with
 |some x=>rfl
 |none =>
  cases h:ev Γ G e ρ with
  |none=>rfl
  |some w =>
   cases w with
   |v _=>rfl
   |i _=>rfl
   |a rs =>show(match Γ f (rs.map Rk.d)with|.err x=>_|_=>_)=erR G (Γ f (rs.map Rk.d));cases Γ f (rs.map Rk.d)<;>rfl
theorem K3{f:ah}{w:Option W}:erK Γ G f a8 w=erC Γ G f w:=(rfl)
noncomputable def erN(a:Option ah)(w:Option W)(b:Option ah):Option ah:=match a with
 |some x=>a5 x
 |none=>match w with
  |some (.v _)=>b
  |_=>a8
theorem Rp{b:Ex}:er Γ G (.cons e b) ρ=erN (er Γ G e ρ) (ev Γ G e ρ) (er Γ G b ρ):=by rw[er];rfl
theorem Y6{r:Rk}{b:Option ah}:erN a8 (a5 (.v r)) b=b:=(rfl)
theorem Bv:er Γ G .nil ρ=a8:=(rfl)
theorem Bu:er Γ G (.var i) ρ=a8:=(rfl)
theorem j3a{b:Ex}:er Γ G (.ix e b) ρ=er Γ G e ρ:=(rfl)
noncomputable def jef(w:Option W):Option W:=match w with
 |some (.v x)=>match x.d with
  |.str y=>if (aQ y).length<=2000 then a5 (.v (.e (.str (aQ y))))else a8
  |_=>a8
 |_=>a8
theorem jgm:ev Γ G (.rpr e) ρ=jef (ev Γ G e ρ):=(rfl)
theorem jee{y:ah}(h:(aQ y).length<=2000):jef (a5 (.v (.e (.str y))))=a5 (.v (.e (.str (aQ y)))):=if_pos h
theorem Bw{f:ah}{rs:List Rk}:erC Γ G f (a5 (.a rs))=erR G (Γ f (rs.map Rk.d)):=(rfl)
theorem K1{x:ah}(h:(G (bang x)).isSome=a7):erR G (.err x)=a5 x:=if_pos h
theorem j4i{x:ah}:run fu Γ G (.raise x e) ρ=Nu x (ev Γ G e ρ) (G (bang x)) ρ:=(rfl)
theorem jei{x:ah}{r:Rk}{d:D}:Nu x (a5 (.v r)) (a5 d) ρ=.err x ρ:=(rfl)
noncomputable def j6o(i j:Nat)(G:ah->Option D)(o:So):So:=match o with
 |.err x ρ'=>match G (bang x) with
  |some (.lst l)=>.next (((ρ'.set j (.exc x)).set i (.own l)).set j .un)
  |_=>.no
 |o=>o
theorem j75:run fu Γ G (.tryK a i j) ρ=j6o i j G (run fu Γ G a ρ):=(rfl)
theorem Kc{x:ah}{l:List D}{ρ':En}(h:G (bang x)=a5 (.lst l)):j6o i j G (.err x ρ')=.next (((ρ'.set j (.exc x)).set i (.own l)).set j .un):=by unfold j6o;dsimp only;rw[h]
theorem j76:run fu Γ G (.retV i) ρ=Rb ρ[i]?:=(rfl)
theorem jbd:run fu Γ G (.ife c a b) ρ=ifS (truth (ev Γ G c ρ)) (run fu Γ G a) (run fu Γ G b) ρ:=(rfl)
theorem j77:run fu Γ G (.loop is e a) ρ=j9w is (ev Γ G e (frz e ρ)) (run fu Γ G a) (frz e ρ):=(rfl)
theorem jbf:run fu Γ G (.app i e) ρ=Wv i ρ[i]? (ev Γ G e ρ) ρ:=(rfl)
theorem jbe:run fu Γ G (.ext i e) ρ=Fq i ρ[i]? (ev Γ G e ρ) ρ:=(rfl)
theorem jdv{d:D}:stOf (a5 (.v (.e d)))=a5 d:=(rfl)
theorem j78:run fu Γ G (.keep i) ρ=Bg i ρ[i]? ρ:=(rfl)
theorem j5e{l:List D}:Bg i (a5 (.own l)) ρ=.next (ρ.set i (.val (.lst l))):=(rfl)
theorem j7a{w:Nat}{e:Ex}:run fu Γ G (.apop i w e) ρ=Rz i w ρ[i]? ρ[w]? (ev Γ G e ρ) ρ:=(rfl)
theorem jd8{w k:Nat}{l m:List D}{z:Int}{d:D}(hz:ixN m.length z=a5 k)(hd:m[k]?=a5 d)(h:i≠w)(hl:l.length<=1000000)(hm:m.length<=1000000):Rz i w (a5 (.own l)) (a5 (.own m)) (a5 (.v (.e (.int z)))) ρ=.next ((ρ.set w (.own (m.eraseIdx k))).set i (.own (l++[d]))):=by simp only[Rz,Rk.st,hz,hd];rw[if_pos ⟨h,lt_size hl,hm⟩]
end
section
variable{f g:En->So}{ρ:En}{i j:Nat}{d:D}{l m:List D}{r:Rc}{x:Rk}
theorem j4e:Nq (.next ρ) f=f ρ:=(rfl)
theorem Ia:Nq (.ret r) f=.ret r:=(rfl)
theorem j71{x:ah}{ρ':En}:Nq (.err x ρ') f=.err x ρ':=(rfl)
theorem jj7:ifS (a5 a7) f g ρ=f ρ:=(rfl)
theorem jj8:ifS (a5 a6) f g ρ=g ρ:=(rfl)
theorem je3:Yk i (a5 (.v (.o l))) ρ=.next (ρ.set i (.own l)):=(rfl)
theorem je5:Yk i (a5 (.v (.e d))) ρ=.next (ρ.set i (.val d)):=(rfl)
theorem je2(h:vy d=a7):Yk i (a5 (.v (.t d))) ρ=.next (ρ.set i (.val d)):=by simp[Yk,Rk.st,h]
theorem jeh:retS (a5 (.v (.o l)))=.ret (.fresh l):=(rfl)
theorem j4k:retS (a5 (.v (.e d)))=.ret (.val d):=(rfl)
theorem jbh:Rb (a5 (.own l))=.ret (.fresh l):=(rfl)
theorem jbg:Rb (a5 (.val d))=.ret (.val d):=(rfl)
theorem jfe(h:i≠j):Ed i j (a5 (.own l)) ρ=.next ((ρ.set j .un).set i (.own l)):=if_neg h
theorem jgf:Ft (a5 (.v x)) ρ=.next ρ:=(rfl)
theorem Qv:K5 [i] f d ρ=f (ρ.set i (.val d)):=(rfl)
theorem jc8{is:List Nat}{ds:List D}:j9w is (a5 (.i ds)) f ρ=Q0 (K5 is f) ds ρ:=(rfl)
theorem jhh(h:l.length<=1000000):Wv i (a5 (.own l)) (a5 (.v (.e d))) ρ=.next (ρ.set i (.own (l++[d]))):=by simp[Wv,Rk.st,lt_size h]
theorem jhg(h:l.length<=1000000)(hd:vy d=a7):Wv i (a5 (.own l)) (a5 (.v (.t d))) ρ=.next (ρ.set i (.own (l++[d]))):=by simp[Wv,Rk.st,hd,lt_size h]
theorem jge(h:l.length+m.length<=1000000):Fq i (a5 (.own l)) (a5 (.v (.o m))) ρ=.next (ρ.set i (.own (l++m))):=by simp[Fq,jl,Jq h]
theorem j1w:fin (.ret r)=r:=(rfl)
theorem jct{x:ah}{ρ':En}:fin (.err x ρ')=.err x:=(rfl)
theorem j8l:fin (.next ρ)=.val .non:=(rfl)
theorem jt{fu:Nat}{G:ah->Option D}{T:ah->Option Fi}{n:Nat}{f:ah}{ds:List D}{F:Fi}(h:T f=a5 F)(hl:ds.length=F.n)(hla:F.lam=a6:=by rfl):evP fu G T (n+1) f ds=fin (run fu (evP fu G T n) G F.body (enter F ds)):=by simp only[evP,h,if_pos hl,hla,Pg,if_false]
end
theorem Zx{f:D->En->So}(W:Nat->En->Prop):∀{ds:List D}{ρ:En}{k:Nat},W k ρ->(∀i d ρ,ds[i]?=a5 d->W (k+i) ρ->∃ρ',f d ρ=.next ρ'/\W (k+i+1) ρ')->∃ρ',Q0 f ds ρ=.next ρ'/\W (k+ds.length) ρ'
 |[],ρ,k,h0,_=>⟨ρ,rfl,h0⟩
 |d::ds,ρ,k,h0,hs=>by
  obtain⟨ρ1,e1,w1⟩:=hs 0 d ρ rfl h0;obtain⟨ρ2,e2,w2⟩:=Zx (f:=f) W (ds:=ds) (k:=k+1) w1 λi d' ρ' hi w=>by have:=hs (i+1) d' ρ' (by simpa using hi) (by rw[show k+(i+1)=k+1+i by omega];exact w);rw[show k+(i+1)+1=k+1+i+1 by omega]at this;exact this
  refine⟨ρ2,?_,by rw[X4,show k+(ds.length+1)=k+1+ds.length by omega];exact w2⟩;rw[Q0,e1];exact e2
theorem j7p{f:D->En->So}(W:Nat->En){ds:List D}{ρ:En}(h0:ρ=W 0)(hs:∀i d,ds[i]?=a5 d->f d (W i)=.next (W (i+1))):Q0 f ds ρ=.next (W ds.length):=by
 obtain⟨ρ',e,w⟩:=Zx (f:=f) (λi ρ=>ρ=W i) (k:=0) (ds:=ds) (ρ:=W 0) rfl λi d ρ hi w=>⟨W (0+i+1),by rw[w,Tj];exact hs i d hi,rfl⟩
 rw[h0,e,w,Tj]
theorem Vi{f:D->En->So}{ds:List D}{ρ:En}{g:En->So}{r:Rc}(W:Nat->En->Prop)(h0:W 0 ρ)(hs:∀i d ρ,ds[i]?=a5 d->W i ρ->∃ρ',f d ρ=.next ρ'/\W (i+1) ρ')(hk:∀ρ',W ds.length ρ'->fin (g ρ')=r) :
  fin (Nq (Q0 f ds ρ) g)=r:=by
 obtain⟨ρ',e,w⟩:=Zx (f:=f) W (k:=0) (ds:=ds) (ρ:=ρ) h0 λi d ρ hi w=>by rw[Tj]at w ⊢;exact hs i d ρ hi w
 rw[e];rw[Tj]at w;exact hk ρ' w
theorem j4c{f:D->En->So}{ds:List D}{ρ:En}{g:En->So}{Q:En->Prop}(W:Nat->En->Prop)(h0:W 0 ρ)(hs:∀i d ρ,ds[i]?=a5 d->W i ρ->∃ρ',f d ρ=.next ρ'/\W (i+1) ρ')
  (hk:∀ρ',W ds.length ρ'->∃ρ2,g ρ'=.next ρ2/\Q ρ2):∃ρ2,Nq (Q0 f ds ρ) g=.next ρ2/\Q ρ2:=by
 obtain⟨ρ',e,w⟩:=Zx (f:=f) W (k:=0) (ds:=ds) (ρ:=ρ) h0 λi d ρ hi w=>by rw[Tj]at w ⊢;exact hs i d ρ hi w
 rw[e];rw[Tj]at w;exact hk ρ' w
noncomputable def ja2(d:Option D):Option W:=d.map λd=>.v (.e d)
noncomputable def j8a(i:Option Int):Option W:=i.map λk=>.v (.e (.int k))
noncomputable def jg7(a:Option W):Option W:=match a with
 |some (.v x)=>a5 (.v (.e (.bl x.d.isNon)))
 |_=>a8
noncomputable def j9g(k:Option Bool)(f:En->Option W)(ρ:En):Option W:=match k with
 |some a6=>a5 (.v (.e (.bl a6)))
 |some a7=>blW (truth (f ρ))
 |none=>a8
noncomputable def orW(k:Option Bool)(f:En->Option W)(ρ:En):Option W:=match k with
 |some a7=>a5 (.v (.e (.bl a7)))
 |some a6=>blW (truth (f ρ))
 |none=>a8
noncomputable def jfb(k:Option Bool):Option W:=k.map λk=>.v (.e (.bl (!k)))
noncomputable def slW(a:Option W)(l h:Option (Option Int)):Option W:=match a,l,h with
 |some (.v x),a5 l,a5 h=>match x.sq with
  |some (a7,ds)=>a5 (.v (.o (cutD ds l h)))
  |some (a6,ds)=>if HT.sIx ds.length 0 l=0/\HT.sIx ds.length ds.length h=ds.length then a8 else a5 (.v (.e (.tup (cutD ds l h))))
  |none=>match x.d with
   |.str z=>if jl z.length=a7 then a5 (.v (.e (.str (bP z l h))))else a8
   |_=>a8
 |_,_,_=>a8
noncomputable def Jz(is:List Nat)(c e:En->Option W)(ρ:En)(d:D):Option (Option D):=match v6 is d ρ with
 |none=>a8
 |some ρ2=>match c ρ2 with
  |some (.a [])=>match e ρ2 with
   |some (.v x)=>x.st.map a5
   |_=>a8
  |some (.a [y])=>match y.d with
   |.bl a7=>match e ρ2 with
    |some (.v x)=>x.st.map a5
    |_=>a8
   |.bl a6=>a5 a8
   |_=>a8
  |_=>a8
noncomputable def j3g(is:List Nat)(w:Option W)(c e:En->Option W)(z:Bool)(ρ:En):Option W:=match w with
 |some (.i ds)=>if Bq is ρ=a7/\jl ds.length=a7 then(Je (Jz is c e ρ) ds).bind λl=>if (z && !jq l)=a7 then a8 else a5 (.v (.o l))else a8
 |_=>a8
section
variable{Γ:ah->List D->Rc}{G:ah->Option D}{ρ:En}{a b c e:Ex}{op:Bop}{cp:Cop}{x f:ah}{i:Nat}{d:D}
theorem jgq:ev Γ G (.lit d) ρ=a5 (.v (.e d)):=(rfl)
theorem j5p:ev Γ G (.var i) ρ=Ni ρ[i]?:=(rfl)
theorem jcw:ev Γ G (.glob x) ρ=ja2 (G x):=(rfl)
theorem jgx:ev Γ G (.bin op a b) ρ=Z8 op (ev Γ G a ρ) (ev Γ G b ρ):=(rfl)
theorem jgv:ev Γ G (.cmp cp a b) ρ=Fw cp (ev Γ G a ρ) (ev Γ G b ρ):=(rfl)
theorem jgs:ev Γ G (.isN a) ρ=jg7 (ev Γ G a ρ):=(rfl)
theorem jgy:ev Γ G (.and a b) ρ=j9g (truth (ev Γ G a ρ)) (ev Γ G b) ρ:=(rfl)
theorem jjk:ev Γ G (.or a b) ρ=orW (truth (ev Γ G a ρ)) (ev Γ G b) ρ:=(rfl)
theorem jgn:ev Γ G (.not a) ρ=jfb (truth (ev Γ G a ρ)):=(rfl)
theorem jgo:ev Γ G .nil ρ=a5 (.a []):=(rfl)
theorem jcx:ev Γ G (.cons a b) ρ=consW (ev Γ G a ρ) (ev Γ G b ρ):=(rfl)
theorem jgh:ev Γ G (.tup a) ρ=Yi (ev Γ G a ρ):=(rfl)
theorem jgp:ev Γ G (.lst a) ρ=Zf (ev Γ G a ρ):=(rfl)
theorem jjl:ev Γ G (.ix a b) ρ=ixW (ev Γ G a ρ) (ev Γ G b ρ):=(rfl)
theorem jjj:ev Γ G (.sl a b c) ρ=slW (ev Γ G a ρ) (Qc (ev Γ G b ρ)) (Qc (ev Γ G c ρ)):=(rfl)
theorem jcv{sep:ah}:ev Γ G (.join sep a) ρ=Ro sep (ev Γ G a ρ):=(rfl)
theorem jgi:ev Γ G (.tix a b) ρ=Uy (ev Γ G a ρ) (ev Γ G b ρ):=(rfl)
theorem jgj:ev Γ G (.srt a) ρ=Np (ev Γ G a ρ):=(rfl)
theorem jba{g:Nat->(ah->List D->Rc)->(ah->Option D)->En->So}{fu:Nat}:run fu Γ G (.prm g) ρ=g fu Γ G ρ:=(rfl)
theorem jgu{b:Ex}:ev Γ G (.dix a b) ρ=Fv (ev Γ G a ρ) (ev Γ G b ρ):=(rfl)
theorem j5t{kvs:List (ah×Int)}{k:ah}{n:Int}(h:dval kvs k=a5 n):Fv (a5 (.v (.e (.sct kvs)))) (a5 (.v (.e (.str k))))=a5 (.v (.e (.int n))):=by simp only[Fv,Rk.d,h];rfl
theorem j1x:ev Γ G (.enum a) ρ=Rr (ev Γ G a ρ):=(rfl)
theorem jcz:ev Γ G (.call f a) ρ=Jv Γ f (ev Γ G a ρ):=(rfl)
theorem jgw{f:Bf}:ev Γ G (.blt f a) ρ=v8 f (ev Γ G a ρ):=(rfl)
theorem jgr{ts:List String}:ev Γ G (.isi a ts) ρ=Fb (ev Γ G a ρ) ts:=(rfl)
theorem jcy{is:List Nat}:ev Γ G (.comp is e a c) ρ=j3g is (ev Γ G a (frz a ρ)) (ev Γ G c) (ev Γ G e) (Jb a ρ) (frz a ρ):=(rfl)
theorem jgl:ev Γ G (.seq a) ρ=Mq (ev Γ G a ρ):=(rfl)
theorem j8n:ev Γ G (.range a) ρ=W4 (ev Γ G a ρ):=(rfl)
end
section
variable{x y:Rk}{d:D}{i j k:Int}{l m:List D}{b:Bool}{f g:En->Option W}{ρ:En}{xs:List Rk}{op:Bop}{cp:Cop}
theorem jdh:Ni (a5 (.val d))=a5 (.v (.e d)):=(rfl)
theorem jdi:Ni (a5 (.own l))=a5 (.v (.w l)):=(rfl)
theorem jcs:ja2 (a5 d)=a5 (.v (.e d)):=(rfl)
theorem jg8:j8a (a5 i)=a5 (.v (.e (.int i))):=(rfl)
theorem jjr:blW (a5 b)=a5 (.v (.e (.bl b))):=(rfl)
theorem jhf:Z8 op (a5 (.v (.e (.int i)))) (a5 (.v (.e (.int j))))=j8a (binI op i j):=by simp only[Z8,Uo,Rk.d,j8a,rkW];cases binI op i j<;>rfl
theorem j9d:binI .add i j=a5 (i+j):=(rfl)
theorem j99:binI .sub i j=a5 (i-j):=(rfl)
theorem j9b(h:(-18446744073709551616<i/\i<18446744073709551616)\/(-18446744073709551616<j/\j<18446744073709551616)):binI .mul i j=a5 (i*j):=if_pos h
theorem j6c(h:0<j/\j<18446744073709551616):binI .fdiv i j=a5 (i/j):=if_pos h
theorem j9c(h:0<j):binI .mod i j=a5 (i%j):=if_pos h
theorem j9a(h:0<=j/\j<=1000000/\i.natAbs<18446744073709551616):binI .shl i j=a5 (i*2^j.toNat):=if_pos h
theorem jhc(h:l.length+m.length<=1000000):Z8 .add (a5 (.v (.o l))) (a5 (.v (.o m)))=a5 (.v (.o (l++m))):=by simp[Z8,Uo,Rk.d,Rk.sq,jl,Jq h,rkW]
theorem jha(h:l.length+m.length<=1000000):Z8 .add (a5 (.v (.e (.tup l)))) (a5 (.v (.e (.tup m))))=a5 (.v (.e (.tup (l++m)))):=by simp[Z8,Uo,Rk.d,Rk.sq,jl,Jq h,rkW]
theorem jig(h:-9223372036854775808<=k/\k<9223372036854775808)(h2:l.length*k.toNat<=1000000):Z8 .mul (a5 (.v (.o l))) (a5 (.v (.e (.int k))))=a5 (.v (.o (ao k.toNat l).flatten)):=by simp only[Z8,Uo,Rk.d,Rk.sq,Rk.lw];rw[if_pos ⟨h.1,h.2,decide_eq_true (Jq h2)⟩];rfl
theorem jh5:Fw cp (a5 (.v x)) (a5 (.v y))=blW (Jj cp x.d y.d):=(rfl)
theorem d_e:(Rk.e d).d=d:=(rfl)
theorem d_o:(Rk.o l).d=.lst l:=(rfl)
theorem d_w:(Rk.w l).d=.lst l:=(rfl)
theorem jh6:Jj cp (.int i) (.int j)=cmpI cp i j:=by cases cp<;>rfl
theorem j8z{a b:Bool}:Jj .ne (.bl a) (.bl b)=a5 (a != b):=(rfl)
theorem j91{a b:Bool}:Jj .eq (.bl a) (.bl b)=a5 (a==b):=(rfl)
theorem j09(h:(D.lst l).dep<=90)(h2:(D.lst m).dep<=90):Jj .eq (.lst l) (.lst m)=a5 (zb l m):=by simp[Jj,h,h2,j02,j03]
theorem j08(h:D.depL l<=90)(h2:D.depL m<=90):Jj .ne (.lst l) (.lst m)=a5 (!zb l m):=by simp[Jj,h,h2]
theorem j90{a b:ah}:Jj .eq (.str a) (.str b)=a5 (a==b):=by simp[Jj,D.dep,By]
theorem j61:Jj .eq (.lst []) (.lst [])=a5 (zb [] []):=j09 (by simp[D.dep,D.depL]) (by simp[D.dep,D.depL])
theorem j5w(h:i<j):cmpI .lt i j=a5 a7:=by simp[cmpI,h]
theorem j5x(h:j<=i):cmpI .lt i j=a5 a6:=by simp[cmpI];omega
theorem Ws(h:j<i):cmpI .gt i j=a5 a7:=by simp[cmpI,h]
theorem j5y(h:i<=j):cmpI .gt i j=a5 a6:=by simp[cmpI];omega
theorem j5z(h:i=j):cmpI .eq i j=a5 a7:=by simp[cmpI,h]
theorem j60(h:i≠j):cmpI .eq i j=a5 a6:=by simp[cmpI,h]
theorem jd3:cmpI .gt i j=a5 (decide (j<i)):=(rfl)
theorem j23:cmpI .eq i j=a5 (decide (i=j)):=(rfl)
theorem jg6:jg7 (a5 (.v x))=a5 (.v (.e (.bl x.d.isNon))):=(rfl)
theorem jas:truth (a5 (.v (.e (.bl b))))=a5 b:=(rfl)
theorem jhj:j9g (a5 a6) f ρ=a5 (.v (.e (.bl a6))):=(rfl)
theorem jhi:j9g (a5 a7) f ρ=blW (truth (f ρ)):=(rfl)
theorem jio:orW (a5 a6) f ρ=blW (truth (f ρ)):=(rfl)
theorem jfa:jfb (a5 b)=a5 (.v (.e (.bl (!b)))):=(rfl)
theorem jd1:consW (a5 (.v x)) (a5 (.a xs))=a5 (.a (x::xs)):=(rfl)
theorem j3y(h:v9 xs=a5 l)(hl:l.length<=1000000):Yi (a5 (.a xs))=a5 (.v (.e (.tup l))):=by simp[Yi,h,jl,Jq hl]
theorem jfl(h:v9 xs=a5 l)(hl:l.length<=1000000):Zf (a5 (.a xs))=a5 (.v (.o l)):=by simp[Zf,h,jl,Jq hl]
theorem jdn:Yi (a5 (.a []))=a5 (.v (.e (.tup []))):=by simp[Yi,v9,jl]
theorem jdm{a:D}:Yi (a5 (.a [.e a]))=a5 (.v (.e (.tup [a]))):=j3y rfl (by simp)
theorem jdl{a b:D}:Yi (a5 (.a [.e a,.e b]))=a5 (.v (.e (.tup [a,b]))):=j3y rfl (by simp)
theorem jfp:Zf (a5 (.a []))=a5 (.v (.o [])):=by simp[Zf,v9,jl]
theorem jfo{a:D}:Zf (a5 (.a [.e a]))=a5 (.v (.o [a])):=jfl rfl (by simp)
noncomputable def Ly(o:Option D):Option W:=o.map λd=>.v (.e d)
theorem Km:∀xs:List D,v9 (xs.map Rk.e)=a5 xs
 |[]=>rfl
 |x::xs=>by rw[xx,v9,Km xs];rfl
theorem j55(xs:List D)(h:xs.length<=1000000):Zf (a5 (.a (xs.map Rk.e)))=a5 (.v (.o xs)):=by simp[Zf,Km,jl,Jq h]
theorem jfn{a b c d:D}:Zf (a5 (.a [.e a,.e b,.e c,.e d]))=a5 (.v (.o [a,b,c,d])):=j55 [a,b,c,d] (by simp)
theorem j1s:Ly (a5 d)=a5 (.v (.e d)):=(rfl)
theorem jg2:ixW (a5 (.v (.e (.lst l)))) (a5 (.v (.e (.int i))))=Ly (atI l i):=(rfl)
theorem jg1:ixW (a5 (.v (.e (.tup l)))) (a5 (.v (.e (.int i))))=Ly (atI l i):=(rfl)
theorem jj3:ixW (a5 (.v (.w l))) (a5 (.v (.e (.int i))))=Ly (atI l i):=(rfl)
noncomputable def jh8(c:Option Nat):Option W:=match c with
 |some c=>a5 (.v (.e (.str ⟨#[c]⟩)))
 |none=>a8
theorem jh7{c:Nat}:jh8 (a5 c)=a5 (.v (.e (.str ⟨#[c]⟩))):=(rfl)
theorem jj4{z:ah}(h:z.length<=1000000):ixW (a5 (.v (.e (.str z)))) (a5 (.v (.e (.int i))))=jh8 (atI z.cps.toList i):=by simp only[ixW,Rk.sq,Rk.d,jl,Jq h,decide_true,if_true];cases atI z.cps.toList i<;>rfl
theorem jid{z:ah}{lo hi:Option Int}(h:z.length<=1000000):slW (a5 (.v (.e (.str z)))) (a5 lo) (a5 hi)=a5 (.v (.e (.str (bP z lo hi)))):=by simp only[slW,Rk.sq,Rk.d,jl,Jq h,decide_true,if_true]
theorem jhb{y z:ah}(h:y.length+z.length<=1000000):Z8 .add (a5 (.v (.e (.str y)))) (a5 (.v (.e (.str z))))=a5 (.v (.e (.str (y++z)))):=by simp[Z8,Uo,Rk.d,jl,Jq h,rkW]
theorem jj5{k:Bool}:v8 .int (a5 (.a [.e (.bl k)]))=a5 (.v (.e (.int (if k then 1 else 0)))):=(rfl)
theorem Bm{ns:List Int}:intsOf (ns.map D.int)=a5 ns:=by
 induction ns with
 |nil=>rfl
 |cons b bs ih=>rw[xx,intsOf,ih];rfl
theorem Oj{ns:List ah}:strsOf (ns.map D.str)=a5 ns:=by
 induction ns with
 |nil=>rfl
 |cons b bs ih=>rw[xx,strsOf,ih];rfl
theorem jib{ns:List Int}:v8 .sum (a5 (.a [.o (ns.map D.int)]))=a5 (.v (.e (.int ns.sum))):=by simp only[v8,Z7,Rk.d,Bm];rfl
theorem jdt{ns:List Int}:v8 .sum (a5 (.a [.e (.lst (ns.map D.int))]))=a5 (.v (.e (.int ns.sum))):=by simp only[v8,Z7,Rk.d,Bm];rfl
theorem j1q{sep:ah}{ts:List ah}(h:eW sep ts=a7):Ro sep (a5 (.v (.o (ts.map D.str))))=a5 (.v (.e (.str (eD sep ts)))):=by simp only[Ro,Rk.d,Oj,h,if_true]
theorem j8q:Rr (a5 (.v (.e (.lst l))))=a5 (.i (vo l)):=(rfl)
theorem j97:Qc (a5 (.a []))=a5 a8:=(rfl)
theorem j96:Qc (a5 (.a [.e (.int i)]))=a5 (a5 i):=(rfl)
variable{lo hi:Option Int}
theorem je0:slW (a5 (.v (.e (.lst l)))) (a5 lo) (a5 hi)=a5 (.v (.o (cutD l lo hi))):=(rfl)
theorem j48(h:¬(HT.sIx l.length 0 lo=0/\HT.sIx l.length l.length hi=l.length)):slW (a5 (.v (.e (.tup l)))) (a5 lo) (a5 hi)=a5 (.v (.e (.tup (cutD l lo hi)))):=if_neg h
variable{Γ:ah->List D->Rc}{fn:ah}
noncomputable def rcW(r:Rc):Option W:=match r with
 |.val d=>a5 (.v (.e d))
 |.fresh l=>a5 (.v (.o l))
 |_=>a8
theorem jij{x:ah}:rcW (.err x)=a8:=(rfl)
theorem jih:rcW (.val d)=a5 (.v (.e d)):=(rfl)
theorem jii:rcW (.fresh l)=a5 (.v (.o l)):=(rfl)
theorem Rx(h:v9 xs=a5 l):Jv Γ fn (a5 (.a xs))=rcW (Γ fn l):=by simp only[Jv,h];cases Γ fn l<;>rfl
theorem jd7{a:D}:Jv Γ fn (a5 (.a [.e a]))=rcW (Γ fn [a]):=Rx rfl
theorem jd6{a b:D}:Jv Γ fn (a5 (.a [.e a,.e b]))=rcW (Γ fn [a,b]):=Rx rfl
theorem jd5{a b c:D}:Jv Γ fn (a5 (.a [.e a,.e b,.e c]))=rcW (Γ fn [a,b,c]):=Rx rfl
theorem j94:Jv Γ fn (a5 (.a [.o l]))=rcW (Γ fn [.lst l]):=Rx rfl
noncomputable def rcT(r:Rc):Option W:=match r with
 |.val d=>a5 (.v (.t d))
 |.fresh l=>if jq l=a7 then a5 (.v (.o l))else a8
 |_=>a8
theorem j2r:rcT (.val d)=a5 (.v (.t d)):=(rfl)
theorem j9n{l:List D}(h:jq l=a7):rcT (.fresh l)=a5 (.v (.o l)):=if_pos h
theorem Fx(h:v9 xs=a8):Jv Γ fn (a5 (.a xs))=rcT (Γ fn (xs.map Rk.d)):=by simp only[Jv,h];cases Γ fn (xs.map Rk.d)<;>rfl
theorem j95:Jv Γ fn (a5 (.a [.e d,.w m]))=rcT (Γ fn [d,.lst m]):=Fx rfl
theorem j93{a b:D}:Jv Γ fn (a5 (.a [.w m,.e a,.e b]))=rcT (Γ fn [.lst m,a,b]):=Fx rfl
theorem jj0:v8 .len (a5 (.a [.e (.lst l)]))=a5 (.v (.e (.int l.length))):=(rfl)
theorem jiz:v8 .len (a5 (.a [.e (.tup l)]))=a5 (.v (.e (.int l.length))):=(rfl)
theorem jiy:v8 .len (a5 (.a [.w l]))=a5 (.v (.e (.int l.length))):=(rfl)
theorem jfi:v8 .max (a5 (.a [.e (.int i),.e (.int j)]))=a5 (.v (.e (.int (if j>i then j else i)))):=(rfl)
theorem jfg:v8 .min (a5 (.a [.e (.int i),.e (.int j)]))=a5 (.v (.e (.int (if j<i then j else i)))):=(rfl)
theorem jap:v8 .tuple (a5 (.a [.o l]))=a5 (.v (.e (.tup l))):=(rfl)
theorem jao:v8 .tuple (a5 (.a [.w l]))=a5 (.v (.e (.tup l))):=(rfl)
theorem j6l:v8 .tuple (a5 (.a [.e (.lst l)]))=a5 (.v (.e (.tup l))):=(rfl)
theorem jca:v8 .list (a5 (.a [.e (.lst l)]))=a5 (.v (.o l)):=(rfl)
theorem jc9:v8 .list (a5 (.a [.e (.tup l)]))=a5 (.v (.o l)):=(rfl)
theorem jg5{ts:List String}:Fb (a5 (.v x)) ts=blW (jy x.d ts):=(rfl)
theorem jb7:Mq (a5 (.v (.e (.lst l))))=a5 (.i l):=(rfl)
theorem jb6:Mq (a5 (.v (.e (.tup l))))=a5 (.i l):=(rfl)
theorem j4d:Mq (a5 (.v (.o l)))=a5 (.i l):=(rfl)
theorem j7d(h:-4611686018427387904<=i/\i<4611686018427387904):W4 (a5 (.a [.e (.int i)]))=a5 (.i (upto 0 i.toNat)):=if_pos h
theorem q9{is:List Nat}{c e:En->Option W}{z:Bool}{ds l:List D}(hf:Bq is ρ=a7)(hl:ds.length<=1000000)(h:Je (Jz is c e ρ) ds=a5 l)(hz:z=a6\/jq l=a7):j3g is (a5 (.i ds)) c e z ρ=a5 (.v (.o l)):=by simp only[j3g,hf,jl,Jq hl,decide_true,and_self,if_true,h,ke];rcases hz with z|z<;>simp[z]
theorem zj{i:Nat}{c e:En->Option W}(hc:c (ρ.set i (.val d))=a5 (.a [])){d':D}(he:e (ρ.set i (.val d))=a5 (.v (.e d'))):Jz [i] c e ρ d=a5 (a5 d'):=by simp[Jz,v6,hc,he,Rk.st]
theorem Vf{i:Nat}{c e:En->Option W}{b:Bool}{d':D}(hc:c (ρ.set i (.val d))=a5 (.a [.e (.bl b)]))(he:b=a7->e (ρ.set i (.val d))=a5 (.v (.e d'))):Jz [i] c e ρ d=a5 (if b=a7 then a5 d' else a8):=by
 cases b with
 |true=>simp[Jz,v6,hc,he rfl,Rk.st,Rk.d]
 |false=>simp[Jz,v6,hc,Rk.d]
theorem jan{i j:Nat}{c e:En->Option W}{a b:D}(hc:c ((ρ.set i (.val a)).set j (.val b))=a5 (.a [])){d':D}(he:e ((ρ.set i (.val a)).set j (.val b))=a5 (.v (.e d'))):Jz [i,j] c e ρ (.tup [a,b])=a5 (a5 d'):=by simp[Jz,v6,hc,he,Rk.st]
theorem V0{α:Type}{xs:List α}{n:Nat}{x:α}(h:xs[n]?=a5 x):atI xs (n:Int)=a5 x:=Dc h
end
section
theorem j83:jy .non ["list","tuple"]=a5 a6:=by simp[jy,qy,D.ty]
theorem j86 {b:Bool}:jy (.bl b) ["list","tuple"]=a5 a6:=by simp[jy,qy,D.ty]
theorem jcl {b:Bool}:jy (.bl b) ["bool"]=a5 a7:=by simp[jy,qy,D.ty]
theorem jcg {b:Bool}:jy (.bl b) ["str"]=a5 a6:=by simp[jy,qy,D.ty]
theorem j89 {b:Bool}:jy (.bl b) ["int","str"]=a5 a7:=by simp[jy,qy,D.ty]
theorem j85 {i:Int}:jy (.int i) ["list","tuple"]=a5 a6:=by simp[jy,qy,D.ty]
theorem jck {i:Int}:jy (.int i) ["bool"]=a5 a6:=by simp[jy,qy,D.ty]
theorem jcf {i:Int}:jy (.int i) ["str"]=a5 a6:=by simp[jy,qy,D.ty]
theorem j88 {i:Int}:jy (.int i) ["int","str"]=a5 a7:=by simp[jy,qy,D.ty]
theorem j82 {z:ah}:jy (.str z) ["list","tuple"]=a5 a6:=by simp[jy,qy,D.ty]
theorem jcj {z:ah}:jy (.str z) ["bool"]=a5 a6:=by simp[jy,qy,D.ty]
theorem jce {z:ah}:jy (.str z) ["str"]=a5 a7:=by simp[jy,qy,D.ty]
theorem j87 {z:ah}:jy (.str z) ["int","str"]=a5 a7:=by simp[jy,qy,D.ty]
theorem j81 {l:List D}:jy (.tup l) ["list","tuple"]=a5 a7:=by simp[jy,qy,D.ty]
theorem jch {l:List D}:jy (.tup l) ["list"]=a5 a6:=by simp[jy,qy,D.ty]
theorem j84 {l:List D}:jy (.lst l) ["list","tuple"]=a5 a7:=by simp[jy,qy,D.ty]
theorem jci {l:List D}:jy (.lst l) ["list"]=a5 a7:=by simp[jy,qy,D.ty]
theorem jcn:D.isNon .non=a7:=(rfl)
theorem jcp{b:Bool}:D.isNon (.bl b)=a6:=(rfl)
theorem jco{i:Int}:D.isNon (.int i)=a6:=(rfl)
theorem jcm{z:ah}:D.isNon (.str z)=a6:=(rfl)
end
section
noncomputable abbrev J6(r:List Int):D:=.tup (r.map .int)
noncomputable abbrev Jl(rs:List (List Int)):List D:=rs.map J6
theorem ju{α:Type}{f:D->Option (Option D)}{h g:α->D}{L:List α}(q:∀x∈L,f (h x)=a5 (a5 (g x))):Je f (L.map h)=a5 (L.map g):=by
 induction L with
 |nil=>rfl
 |cons x L ih=>rw[xx,Je,q x (xm ..),ih λy hy=>q y (km _ hy)];rfl
theorem V3{α:Type}{f:D->Option (Option D)}{h g:α->D}{p:α->Bool}{L:List α}(q:∀x∈L,f (h x)=a5 (if p x=a7 then a5 (g x)else a8)):Je f (L.map h)=a5 ((L.filter p).map g):=by
 induction L with
 |nil=>rfl
 |cons x L ih =>
  rw[xx,Je,q x (xm ..),ih λy hy=>q y (km _ hy)];by_cases z:p x=a7
  .rw[if_pos z,gI z];rfl
  .rw[if_neg z,gJ z]
theorem Uk{f:D->Option (Option D)}:∀{ds:List D},(∀d∈ds,f d=a5 a8)->Je f ds=a5 []
 |[],_=>rfl
 |d::ds,h=>by rw[Je,h d (xm ..),Uk λd hd=>h d (km _ hd)]
theorem take_snoc{α:Type}{l:List α}{i:Nat}{x:α}(h:l[i]?=a5 x):l.take (i+1)=l.take i++[x]:=by rw[Tq,h];rfl
theorem Ud{α β:Type}{f:α->β}{l:List α}{i:Nat}{y:β}(h:(l.map f)[i]?=a5 y):∃x,l[i]?=a5 x/\y=f x:=by
 rw[xq]at h;cases e:l[i]? with
 |none=>rw[e]at h;cases h
 |some x=>rw[e]at h;cases h;exact⟨x,rfl,rfl⟩
theorem j7y{α:Type}{c:Prop}[Decidable c]{x:α}:(if c then x else x)=x:=by split<;>rfl
theorem j56{l:List D}(h:Ja (.tup l)):l.length<=1000/\Qj l:=by simpa [Ja]using h
theorem j58{l:List D}(h:Ja (.lst l)):l.length<=1000/\Qj l:=by simpa [Ja]using h
end
section
variable{Γ:ah->List D->Rc}{G:ah->Option D}{ρ:En}{a:Ex}
theorem jgk:True:=trivial
end
end L2
end
section
namespace L2
open PySem PySem.Spec PyProof.Rows
noncomputable def dOf(w:Option W):Option D:=match w with
 |some (.v r)=>a5 r.d
 |_=>a8
noncomputable def j70(k e:Option D)(kvs:List (ah×Int))(f:List (ah×Int)->Option (En×List (ah×Int))):Option (En×List (ah×Int)):=match k,e with
 |some (.str k),a5 (.int n)=>if kvs.length<ak then f (dput kvs k n)else a8
 |_,_=>a8
noncomputable def Vh(i j:Nat)(fk fe:En->Option D):List D->En->List (ah×Int)->Option (En×List (ah×Int))
 |[],ρ,kvs=>a5 (ρ,kvs)
 |d::ds,ρ,kvs=>match d with
  |.tup [a,b]=>j70 (fk ((ρ.set i (.val a)).set j (.val b))) (fe ((ρ.set i (.val a)).set j (.val b))) kvs (Vh i j fk fe ds ((ρ.set i (.val a)).set j (.val b)))
  |_=>a8
noncomputable def j6z(x:Nat)(r:Option (En×List (ah×Int))):So:=match r with
 |some (ρ,kvs)=>.next (ρ.set x (.val (.sct kvs)))
 |none=>.no
noncomputable def jdx(w:Option W)(f:List D->Option (En×List (ah×Int))):Option (En×List (ah×Int)):=match w with
 |some (.i ds)=>f ds
 |_=>a8
noncomputable def Ku(x i j:Nat)(it key e:Ex):Nat->(ah->List D->Rc)->(ah->Option D)->En->So:=λ_ Γ G ρ =>if x<ρ.length/\x≠i/\x≠j then j6z x (jdx (ev Γ G it (ρ.set x (.exc rfN))) λds=>Vh i j (λρ=>dOf (ev Γ G key ρ)) (λρ=>dOf (ev Γ G e ρ)) ds (ρ.set x (.exc rfN)) [])else .no
theorem jb4{i j:Nat}{fk fe:En->Option D}{d:D}{ds:List D}{ρ:En}{kvs:List (ah×Int)}{r:En×List (ah×Int)}(h:Vh i j fk fe (d::ds) ρ kvs=a5 r) :
  ∃a b k n,d=.tup [a,b]/\fk ((ρ.set i (.val a)).set j (.val b))=a5 (.str k)/\fe ((ρ.set i (.val a)).set j (.val b))=a5 (.int n)/\kvs.length<ak/\Vh i j fk fe ds ((ρ.set i (.val a)).set j (.val b)) (dput kvs k n)=a5 r:=by
 unfold Vh at h;split at h
 .rename_i a b;unfold j70 at h;split at h
  .rename_i k n h1 h2;split at h
   .rename_i hl;exact⟨a,b,k,n,rfl,h1,h2,hl,h⟩
   .cases h
  .cases h
 .cases h
theorem N5{w:Option W}{d:D}(h:dOf w=a5 d):∃r,w=a5 (.v r)/\r.d=d:=by
 unfold dOf at h;split at h
 .cases h;exact⟨_,rfl,rfl⟩
 .cases h
section
variable{X:Cx}
theorem Ts.smk{x i j n:Nat}{nx y z:ah}{it' key' e':Ex}{b:Sx}{it key e:aj}{rest:List aN}{p1 p2 p3 p4 p5 p6 p7 q1 q2 q3:aO}(hq:X.calm=a7)(hX:X.N[x]?=a5 nx)(lx:Loc X.env.scope nx)(fx:X.fn nx=a7\/X.env.scope.names.lookup nx=a5 .local)
  (dx:(nx==k87)=a6) (cx:(nx==k88)=a6) (hij:i≠j) (hi:X.N[i]?=a5 y) (hj:X.N[j]?=a5 z) (hy:Loc X.env.scope y) (hz:Loc X.env.scope z)
  (fy:X.fn y=a7\/X.env.scope.names.lookup y=a5 .local) (fz:X.fn z=a7\/X.env.scope.names.lookup z=a5 .local)
  (s1:aP (.Dict [] [] p2) (a5 (.Name nx p1)) p3.line X.env=pure a6) (s3:aP e (a5 (.Subscript (.Name nx p4) key p5)) p6.line X.env=pure a6) (hf:∀x,aK it X.env x=pure x)
  (tI:Tr X it' (.i (.Tuple [.Name y q1,.Name z q2] n q3) it)) (tK:Tr X key' (.e key)) (tE:Tr X e' (.e e)) (tb:Ts X b (.ss rest)) :
  Ts X (.seq (.prm (Ku x i j it' key' e')) b) (.ss (.Assign [.Name nx p1] (.Dict [] [] p2) p3::.For (.Tuple [.Name y q1,.Name z q2] n q3) it [.Assign [.Subscript (.Name nx p4) key p5] e p6] [] p7::rest)):=by
 refine Ts.prm (λfu Γ G c g ρ P N h hr=>?_) tb;unfold Ku at h;split at h
 .rename_i hx;have hx1:x<ρ.length:=by have:=hx.1;unfold j7 at this;rwa [xf]at this
  unfold j6z at h;split at h
  .rename_i ρ' kvs' h1;unfold jdx at h1;split at h1
   .rename_i ds hds;have ab:∀a,j7 (ρ.set x (.raw a dOb rfN))=(j7 ρ).set x (.exc rfN):=λa=>ji;refine DSs.smk (ds:=ds) (λa k ρ1 kvs=>ρ1[x]?=a5 (.raw a dOb rfN)/\Vh i j (λρ=>dOf (ev Γ G key' ρ)) (λρ=>dOf (ev Γ G e' ρ)) (ds.drop k) (j7 ρ1) kvs=a5 (ρ',kvs')) hx1 (λa=>sound tI c g _ ds (by rw[ab];exact hds)) (λa=>⟨Q7 hx1,by rw[ab,Tw];exact h1⟩) (λa k d ρ1 kvs hd ⟨w1,w⟩=>?_) (λa ρ1 kvs ⟨w1,w⟩=>?_) hq c.po c.nd hX lx fx dx cx s1 s3 hf
    .obtain⟨hlt,ed⟩:=X3.mp hd;rw[T9 hlt,ed]at w;obtain⟨u,v,kk,nn,e0,e1,e2,hl,w2⟩:=jb4 w;subst e0;have ab2:j7 ((ρ1.set i (.val u)).set j (.val v))=((j7 ρ1).set i (.val u)).set j (.val v):=by rw[ji,ji];rfl
     rw[<-ab2]at e1 e2 w2;obtain⟨r1,f1,g1⟩:=N5 e1;obtain⟨r2,f2,g2⟩:=N5 e2;have wx:((ρ1.set i (.val u)).set j (.val v))[x]?=a5 (.raw a dOb rfN):=by rw[qj (bT hx.2.2),qj (bT hx.2.1)];exact w1
     exact⟨_,kk,nn,DG.pair _ _ hij c.nd hi hj hy hz fy fz hq,wx,g1▸(sound tK c g _ r1 f1).toT,g2▸(sound tE c g _ r2 f2).toT,hl,wx,w2⟩
    .rw[fv]at w;cases w;exact⟨w1,hr _ (h _ ji)⟩
   .cases h1
  .exact h.elim
 .exact h.elim
end
noncomputable def Zu:List D->Option (List (List (ah×Int)))
 |[]=>a5 []
 |.sct k::l=>(Zu l).map (k :: ·)
 |_::_=>a8
theorem Dl:∀{l:List D}{ks:List (List (ah×Int))},Zu l=a5 ks->l=ks.map D.sct
 |[],_,h=>by cases h;rfl
 |.sct k::l,ks,h=>by
  unfold Zu at h;cases e:Zu l with
  |none=>rw[e]at h;cases h
  |some q=>rw[e]at h;cases h;rw[Dl e];rfl
 |.non::_,_,h=>by cases h
 |.bl _::_,_,h=>by cases h
 |.int _::_,_,h=>by cases h
 |.str _::_,_,h=>by cases h
 |.tup _::_,_,h=>by cases h
 |.lst _::_,_,h=>by cases h
 |.dct _ _::_,_,h=>by cases h
 |.fn _ _::_,_,h=>by cases h
noncomputable def j38:Sv->Sv
 |.val d=>match flt d with
  |true=>.val d
  |false=>.un
 |_=>.un
noncomputable def Yw:Sv->Bool
 |.un=>a7
 |.val d=>Yn d
 |.own l=>Qd l
 |.exc _=>a6
theorem jdb(ρ:Rho):j7 (ρ.map O3)=(j7 ρ).map j38:=by
 unfold j7;rw[Xc,Xc];refine t7 λs _=>?_;cases s with
 |val d=>show(Fo (flt d) d).abs=_;unfold Fo;show _=(match flt d with|true=>Sv.val d|false=>Sv.un);cases flt d<;>rfl
 |_=>rfl
theorem j6e(ρ:Rho):(j7 ρ).all Yw=ρ.all Oz:=by
 unfold j7;rw[gR];congr 1
 funext s
 cases s<;>rfl
noncomputable def Ke(t a:Nat)(kvs:List (ah×Int))(k n:Option D)(ρ:En)(fg:En->Option D)(s:Option Sv)(f:En->So):So:=match k,n,s with
 |some (.str k),a5 (.int n),a5 (.own l)=>if kvs.length<ak/\l.length<ak/\t<ρ.length/\t≠a/\ρ.all Yw=a7 then match fg (ρ.set t (.val (.sct (dput kvs k n)))) with
   |some d=>f ((ρ.set a (.own (l++[d]))).set t .un)
   |none=>.no
  else .no
 |_,_,_=>.no
noncomputable def Nj(t a:Nat)(fk fe fg:En->Option D):List (List (ah×Int))->En->So
 |[],ρ=>.next ρ
 |kvs::r,ρ=>Ke t a kvs (fk (ρ.set t (.val (.sct kvs)))) (fe (ρ.set t (.val (.sct kvs)))) ρ fg ρ[a]? (Nj t a fk fe fg r)
noncomputable def jdo(w:Option W)(f:List (List (ah×Int))->So):So:=match w with
 |some (.v (.o l))=>match Zu l with
  |some rows=>if rows.Nodup then f rows else .no
  |none=>.no
 |_=>.no
noncomputable def Kd(t a:Nat)(it key e e2:Ex):Nat->(ah->List D->Rc)->(ah->Option D)->En->So:=λ_ Γ G ρ =>jdo (ev Γ G it (ρ.map j38)) λrows=>Nj t a (λρ=>dOf (ev Γ G key ρ)) (λρ=>dOf (ev Γ G e ρ)) (λρ=>stOf (ev Γ G e2 ρ)) rows ρ
theorem jat{t a:Nat}{kvs:List (ah×Int)}{k n:Option D}{ρ:En}{fg:En->Option D}{s:Option Sv}{f:En->So}{P:Po}(h:Qh (Ke t a kvs k n ρ fg s f) P) :
  ∃k' n' l d,k=a5 (.str k')/\n=a5 (.int n')/\s=a5 (.own l)/\kvs.length<ak/\l.length<ak/\t<ρ.length/\t≠a/\ρ.all Yw=a7/\fg (ρ.set t (.val (.sct (dput kvs k' n'))))=a5 d/\Qh (f ((ρ.set a (.own (l++[d]))).set t .un)) P:=by
 unfold Ke at h;split at h
 .rename_i k' n' l;split at h
  .rename_i hc;split at h
   .rename_i d hd;exact⟨k',n',l,d,rfl,rfl,rfl,hc.1,hc.2.1,hc.2.2.1,hc.2.2.2.1,hc.2.2.2.2,hd,h⟩
   .exact h.elim
  .exact h.elim
 .exact h.elim
theorem j4b{α:Type}{l:List α}{i j:Nat}{x y z:α}(h:i≠j):((l.set i x).set j y).set i z=(l.set j y).set i z:=by rw[List.set_comm _ _ h,gP]
section
variable{X:Cx}
theorem Ts.turn{t a:Nat}{nt na:ah}{it' key' e' f':Ex}{b:Sx}{it key e f:aj}{rest:List aN}{p1 p2 p3 p4 p5 q1 q2 q3 q4:aO}(hq:X.calm=a7)(hT:X.N[t]?=a5 nt)(lt:Loc X.env.scope nt)(ft:X.fn nt=a7\/X.env.scope.names.lookup nt=a5 .local)
  (dt:(nt==k87)=a6) (ct:(nt==k88)=a6) (s3:aP e (a5 (.Subscript (.Name nt p2) key p3)) p4.line X.env=pure a6) (hf:∀x,aK it X.env x=pure x)
  (hN:X.N[a]?=a5 na) (hv:Vis X.env.scope na) (hd:(na==k87)=a6) (hcd:(na==k88)=a6) (hst:a9 [f] X.env=[(a6,aE f X.env)]) (hline:(q2.endLine==q3.line)=a7)
  (hbase:aV (.Name na q1) "append" X.env (aE (.Name na q1) X.env)=aE (.Name na q1) X.env) (hfew:((aR q3 (a9 [f] X.env)).all (λx=>!x.1)&&(bH q3 (bf [] X.env)).all (λx=>x.1.isSome)
   && decide (([f]:List aj).length+([]:List aX).length+(if ([]:List aX).isEmpty then 0 else 1)<30))=a7) (hs:aP (.Call (.Attribute (.Name na q1) "append" q2) [f] [] q3) a8 q4.line X.env=pure a6)
  (tI:Tr X it' (.e it)) (tK:Tr X key' (.e key)) (tE:Tr X e' (.e e)) (tF:Tr X f' (.e f)) (tb:Ts X b (.ss rest)) :
  Ts X (.seq (.prm (Kd t a it' key' e' f')) b) (.ss (.For (.Name nt p1) it [.Assign [.Subscript (.Name nt p2) key p3] e p4,.Expr (.Call (.Attribute (.Name na q1) "append" q2) [f] [] q3) q4] [] p5::rest)):=by
 refine Ts.prm (λfu Γ G c g ρ P N h hr=>?_) tb;unfold Kd at h;rw[<-jdb]at h;unfold jdo at h;split at h
 .rename_i l hl;split at h
  .rename_i rows hrows;split at h
   .rename_i hnd;have hO:=sound tI c g _ _ hl;rw[Dl hrows]at hO;refine DSs.turn (t:=t) (rows:=rows) (λk ρ1=>Qh (Nj t a (λρ=>dOf (ev Γ G key' ρ)) (λρ=>dOf (ev Γ G e' ρ)) (λρ=>stOf (ev Γ G f' ρ)) (rows.drop k) (j7 ρ1)) { P with nx:=N }) hnd hO (by rw[Tw];exact h) (λk kvs ρ1 hd' w=>?_) (λρ1 w=>?_) hq c.po c.nd hT lt ft dt ct s3 hf
    .obtain⟨hlt,ed⟩:=X3.mp hd';rw[T9 hlt,ed,Nj]at w;obtain⟨k',n',l',d,e1,e2,e3,z1,z2,z3,z4,z5,e4,w⟩:=jat w;have ab:∀kv,j7 (ρ1.set t (.val (.sct kv)))=(j7 ρ1).set t (.val (.sct kv)):=λkv=>ji;rw[<-ab]at e1 e2 e4;obtain⟨r1,f1,g1⟩:=N5 e1;obtain⟨r2,f2,g2⟩:=N5 e2;obtain⟨r3,f3,g3⟩:=jay e4;obtain⟨la,ho⟩:=J4 e3;refine⟨by unfold j7 at z3;rwa [xf]at z3,by rw[<-j6e];exact z5,k',n',g1▸(sound tK c g _ r1 f1).toT,g2▸(sound tE c g _ r2 f2).toT,z1,?_⟩;refine DS.append a (by rw[qj z4];exact ho) ((sound tF c g _ r3 f3).toE g3) z2 ?_ hN hv hd hcd hst hline hbase hfew hs;show Qh _ _;rw[j4b z4,ji,ji];exact w
    .rw[fv]at w;exact hr ρ1 (w ρ1 rfl)
   .exact h.elim
  .exact h.elim
 .exact h.elim
end
end L2
end
section
open PySem (Str)
open L2
noncomputable def jje:=(k82 (k82 (k82 (k82 (k82 (k82 (k82 @jbb @jgk) (k82 @jb8 (k82 @run_set @jbc))) (k82 (k82 @j79 (k82 @jb9 @j76)) (k82 @jbd (k82 @j77 @jbf)))) (k82 (k82 (k82 @jbe @j78) (k82 @j5e (k82 @j7a @jgj))) (k82 (k82 @jba (k82 @jfi @jgu)) (k82 @jgi (k82 @jgm @j7i))))) (k82 (k82 (k82 (k82 @jgt @j1j) (k82 @jbu (k82 @je4 @jgg))) (k82 (k82 @Bw (k82 @j4i @jei)) (k82 @j75 (k82 @j71 @jct)))) (k82 (k82 (k82 @jij @j4e) (k82 @Ia (k82 @jj7 @jj8))) (k82 (k82 @je3 (k82 @je5 @jeh)) (k82 @j4k (k82 @jbh @jbg)))))) (k82 (k82 (k82 (k82 (k82 @jfe @jgf) (k82 @jc8 (k82 @jhh @jge))) (k82 (k82 @j1w (k82 @j8l @jgq)) (k82 @j5p (k82 @jcw @jgx)))) (k82 (k82 (k82 @jgv @jgs) (k82 @jgy (k82 @jjk @jgn))) (k82 (k82 @jgo (k82 @jcx @jgh)) (k82 @jgp (k82 @jjl @jjj))))) (k82 (k82 (k82 (k82 @jcz @jgw) (k82 @jgr (k82 @jcy @jgl))) (k82 (k82 @j8n (k82 @jdh @jdi)) (k82 @jcs (k82 @jg8 @jjr)))) (k82 (k82 (k82 @jhf @j9d) (k82 @j99 (k82 @j9b @j6c))) (k82 (k82 @j9c (k82 @j9a @jhc)) (k82 @jha (k82 @jig @jh5))))))) (k82 (k82 (k82 (k82 (k82 (k82 @d_e @d_o) (k82 @d_w (k82 @jh6 @j8z))) (k82 (k82 @j91 (k82 @j90 @j61)) (k82 @j7y (k82 @j5w @j5x)))) (k82 (k82 (k82 @Ws @j5y) (k82 @j5z (k82 @j60 @jg6))) (k82 (k82 @jas (k82 @jhj @jhi)) (k82 @jio (k82 @jfa @jd1))))) (k82 (k82 (k82 (k82 @jdn @jdm) (k82 @jdl (k82 @jfp @jfo))) (k82 (k82 @jfn (k82 @j1s @jg2)) (k82 @jg1 (k82 @jj3 @j97)))) (k82 (k82 (k82 @j96 @je0) (k82 @jih (k82 @jii @j2r))) (k82 (k82 @jd7 (k82 @jd6 @jd5)) (k82 @j94 (k82 @j95 @jj0)))))) (k82 (k82 (k82 (k82 (k82 @jiz @jiy) (k82 @jfg (k82 @jap @jao))) (k82 (k82 @j6l (k82 @jca @jc9)) (k82 @jg5 (k82 @jb7 @jb6)))) (k82 (k82 (k82 @j4d @j7d) (k82 @jcv (k82 @j1x @jdv))) (k82 (k82 @jh7 (k82 @jj4 @jid)) (k82 @jhb (k82 @jj5 @jib))))) (k82 (k82 (k82 (k82 @jdt @j8q) (k82 @j83 (k82 @j86 @jcl))) (k82 (k82 @jcg (k82 @j89 @j85)) (k82 @jck (k82 @jcf @j88)))) (k82 (k82 (k82 @j82 (k82 @jcj @jce)) (k82 @j87 (k82 @j81 @jch))) (k82 (k82 @j84 (k82 @jci @jcn)) (k82 @jcp (k82 @jco @jcm))))))))
local macro_rules | `(tactic| walk_at "go")=>`(tactic| try simp (disch:=first | omega | assumption | (simp only [List.length_map,List.length_append,List.length_cons,List.length_nil,List.length_take,List.length_drop,List.length_reverse] <;> omega)) only [jje,Vn,beq_self_eq_true,frz,Jb,j8h,List.getElem?_cons_zero,List.getElem?_cons_succ,List.set_cons_zero,List.set_cons_succ,List.map_cons,List.map_nil,List.cons_append,List.nil_append,List.replicate,List.length_map,List.length_append,List.length_cons,List.length_nil,Bool.not_true,Bool.not_false,bne_self_eq_false,Nat.reduceSub,Nat.reduceAdd,Int.reduceToNat,Int.reducePow])
local macro_rules | `(tactic| ext)=>`(tactic| walk_at "go")
local macro_rules | `(tactic| erw [$r])=>`(tactic| (rw [$r]; ext)) | `(tactic| erw [$r,$rs,*])=>`(tactic| (rw [$r]; ext; erw [$rs,*]))
namespace KL
noncomputable def J1:Sx:=(.seq (.set 1 (.lst (.cons (.tup .nil) .nil))) (.seq (.loop [2] (.seq (.var 0)) (.seq (.set 3 (.lst .nil)) (.seq (.loop [4] (.seq (.var 1)) (.seq (.ext 3 (.comp [5] (.bin .add (.var 4) (.tup (.cons (.var 5) .nil))) (.seq (.var 2)) .nil)) .nop)) (.seq (.mov 1 3) .nop)))) (.seq (.retV 1) .nop)))
noncomputable def fP_all_choices:Fi:=⟨1,6,J1,a6⟩
noncomputable def Vd:Sx:=(.seq (.ife (.cmp .lt (.var 1) (.blt .len (.cons (.var 0) .nil))) (.seq (.ret (.ix (.var 0) (.var 1))) .nop) .nop) (.seq (.set 2 (.bin .add (.lit (.int 70001)) (.bin .mul (.bin .mul (.lit (.int 911)) (.var 1)) (.var 1)))) (.seq (.ife (.cmp .gt (.blt .len (.cons (.var 0) .nil)) (.lit (.int 0))) (.seq (.set 2 (.bin .add (.var 2) (.bin .mul (.bin .mod (.ix (.var 0) (.lit (.int 0))) (.lit (.int 9973))) (.bin .add (.bin .mul (.lit (.int 3)) (.var 1)) (.lit (.int 1)))))) .nop) .nop) (.seq (.retV 2) .nop))))
noncomputable def fL_cell:Fi:=⟨2,3,Vd,a6⟩
noncomputable def Zk:Sx:=(.seq (.ife (.isi (.var 1) ["list","tuple"]) (.seq (.ife (.or (.cmp .ne (.isi (.var 0) ["list"]) (.isi (.var 1) ["list"])) (.not (.isi (.var 0) ["list","tuple"]))) (.seq (.ret (.lit (.bl a6))) .nop) .nop) (.seq (.set 2 (.comp [3] (.var 3) (.range (.cons (.blt .min (.cons (.blt .len (.cons (.var 0) .nil)) (.cons (.blt .len (.cons (.var 1) .nil)) .nil))) .nil)) (.cons (.not (.call "_law_same" (.cons (.ix (.var 0) (.var 3)) (.cons (.ix (.var 1) (.var 3)) .nil)))) .nil))) (.seq (.ret (.and (.cmp .eq (.blt .len (.cons (.var 0) .nil)) (.blt .len (.cons (.var 1) .nil))) (.cmp .eq (.var 2) (.lst .nil)))) .nop))) .nop) (.seq (.ife (.isN (.var 1)) (.seq (.ret (.isN (.var 0))) .nop) .nop) (.seq (.ife (.or (.cmp .ne (.isi (.var 0) ["bool"]) (.isi (.var 1) ["bool"])) (.cmp .ne (.isi (.var 0) ["str"]) (.isi (.var 1) ["str"]))) (.seq (.ret (.lit (.bl a6))) .nop) .nop) (.seq (.ret (.and (.isi (.var 0) ["int","str"]) (.cmp .eq (.var 0) (.var 1)))) .nop))))
noncomputable def fL_same:Fi:=⟨2,4,Zk,a6⟩
section
variable{G:ah->Option D}{T:ah->Option Fi}
noncomputable def qt(ns:List Int)(k:Nat):Int:=match ns[k]? with
 |some v=>v
 |none=>match ns with
  |[]=>70001+911*k*k
  |v::_=>70001+911*k*k+v%9973*(3*k+1)
theorem Y9 {fu n:Nat} (hT:T "_law_cell" = a5 fL_cell) {ns:List Int} {k:Nat} (hk:k<=100):evP fu G T (n+1) "_law_cell" [.lst (ns.map .int),.int k]=.val (.int (qt ns k)):=by
 rw[jt (F:=fL_cell) hT rfl];simp only[fL_cell,Vd,enter];by_cases h:k<ns.length
 .have e:atI (ns.map D.int) (k:Int)=a5 (.int ns[k]):=V0 (by simp[h]);have q:qt ns k=ns[k]:=by simp[qt,h]
  ext;simp only[e,j1s,j4k,j1j,Ia,j1w,q]
 .cases ns with
  |nil =>ext;simp[qt]
  |cons v r =>
   have e:atI (D.int v::r.map D.int) 0=a5 (.int v):=by simp[atI,ixN]
   have q:qt (v::r) k=70001+911*k*k+v%9973*(3*k+1):=by unfold qt;rw[Xi nofun]
   rw[xx];rw[X4]at h;ext;simp only[e];ext;rw[q]
theorem j6t(f:List Int):step [] f=[]:=rfl
theorem j44(acc:List (List Int))(a f:List Int):step (acc++[a]) f=step acc f++f.map λx=>a++[x]:=by simp[step]
theorem j0b(fs:List (List Int))(f:List Int):zu (fs++[f])=step (zu fs) f:=by simp[zu]
theorem Kl(acc:List (List Int)){f:List Int}{k:Nat}(h:f.length<=k):(step acc f).length<=acc.length*k:=by
 unfold step;induction acc with
 |nil=>simp
 |cons a acc ih =>rw[List.flatMap_cons,Xb,xf,X4,kX];omega
theorem j0y{fs:List (List Int)}{k:Nat}(h:∀f∈fs,f.length<=k):(zu fs).length<=k^fs.length:=by
 have go:∀(fs acc:List (List Int)),(∀f∈fs,f.length<=k)->(fs.foldl step acc).length<=acc.length*k^fs.length:=by
  intro fs;induction fs with
  |nil=>intro acc _;simp
  |cons f fs ih =>intro acc hf;have h1:=ih (step acc f) λg hg=>hf g (km _ hg);have h2:=Kl acc (hf f (xm ..));rw[Tg,X4,hR,fc (k^fs.length) k,<-Nat.mul_assoc];exact Xd h1 (Nat.mul_le_mul_right _ h2)
 have:=go fs [[]] h;simpa [zu]using this
theorem j0c{fs:List (List Int)}{r:List Int}(h:r∈zu fs):r.length=fs.length:=by
 have go:∀(fs acc:List (List Int)) (k:Nat),(∀a∈acc,a.length=k)->∀r∈fs.foldl step acc,r.length=k+fs.length:=by
  intro fs;induction fs with
  |nil=>intro acc k ha r hr;exact ha r hr
  |cons f fs ih =>
   intro acc k ha r hr;have:=ih (step acc f) (k+1) (λa hm=>by
    obtain⟨b,hb,hx⟩:=List.mem_flatMap.mp hm
    obtain⟨x,_,rfl⟩:=Xn.mp hx
    rw[Xb,ha b hb];rfl) r hr
   rw[this,X4];omega
 have:=go fs [[]] 0 (λa ha=>by rw[X6.mp ha];rfl) r h;omega
theorem j0a {fu n:Nat} (hT:T "all_choices" = a5 fP_all_choices) {fs:List (List Int)} (hf:∀f∈fs,f.length<=3) (hl:fs.length<=6):evP fu G T (n+1) "all_choices" [.lst (Jl fs)]=.fresh (Jl (zu fs)):=by
 rw[jt (F:=fP_all_choices) hT rfl];simp only[fP_all_choices,J1,enter];ext;have small:∀i,(zu (fs.take i)).length<=729:=λi=>by
  have h:=j0y (fs:=fs.take i) (k:=3) λf hm=>hf f (eC hm);have h2:(fs.take i).length<=6:=by rw[Xj];omega
  exact Xd h (Pu (by decide) h2)
 refine Vi (λi ρ=>∃s2 s4,ρ=[.val (.lst (Jl fs)),.own (Jl (zu (fs.take i))),s2,.un,s4,.un]) ⟨.un,.un,by simp[zu,Jl,J6]⟩ ?_ ?_
 .rintro i d ρ hi ⟨s2,s4,rfl⟩;obtain⟨f,hfi,rfl⟩:=Ud hi;have hf3:f.length<=3:=hf f (Xg hfi);have sm:=small i;simp only[Qv];ext;refine j4c (λj ρ=>∃s4,ρ=[.val (.lst (Jl fs)),.val (.lst (Jl (zu (fs.take i)))),.val (J6 f),.own (Jl (step ((zu (fs.take i)).take j) f)),s4,.un]) ⟨s4,by simp[j6t]⟩ ?_ ?_
  .rintro j d ρ hj ⟨s4,rfl⟩;obtain⟨a,haj,rfl⟩:=Ud hj;have hs:=Kl ((zu (fs.take i)).take j) hf3;have hs2:((zu (fs.take i)).take j).length<=729:=by rw[Xj];omega
   have ha:a.length<=6:=by have:=j0c (Xg haj);rw[Xj]at this;omega
   simp only[Qv];ext;rw[q9 (l:=(f.map λx=>J6 (a++[x]))) (by rfl) ?_ ?_ (.inl rfl)]
   .ext;refine⟨_,rfl,.val (J6 a),?_⟩;rw[take_snoc haj,j44];simp only[Jl,Xl,Xc];rfl
   .simp only[xf];omega
   .refine ju λx _=>zj (by ext) ?_;ext;simp
  .rintro ρ' ⟨s4,rfl⟩;ext;refine⟨_,rfl,.val (J6 f),s4,?_⟩;rw[take_snoc hfi,j0b,dD]
 .rintro ρ' ⟨s2,s4,rfl⟩;ext;rw[dD]
theorem j4g {fu:Nat} (hT:T "_law_same" = a5 fL_same):∀(k:Nat){x:D}{n:Nat},x.dep<=k->Ja x->evP fu G T (n+k+1) "_law_same" [x,x]=.val (.bl a7):=by
 intro k;induction k with
 |zero =>
  intro x n hk hx;rw[jt (F:=fL_same) hT rfl];simp only[fL_same,Zk,enter];cases x with
  |tup l=>simp[D.dep]at hk
  |lst l=>simp[D.dep]at hk
  |dct ks l=>simp[D.dep]at hk
  |sct k=>simp[D.dep]at hk
  |fn x l=>simp[D.dep]at hk
  |non=>ext
  |bl b=>ext
  |int i=>ext
  |str z=>ext
 |succ k ih =>
  intro x n hk hx;have ih':∀{x:D},x.dep<=k->Ja x->evP fu G T (n+(k+1)) "_law_same" [x,x]=.val (.bl a7):=λh1 h2=>ih h1 h2;rw[jt (F:=fL_same) hT rfl];simp only[fL_same,Zk,enter];cases x with
  |dct ks l=>exact aY (by simpa [Ja]using hx)
  |sct k=>exact aY (by simpa [Ja]using hx)
  |fn x l=>exact aY (by simpa [Ja]using hx)
  |tup l =>
   obtain⟨hl,hx⟩:=j56 hx;have hk:D.depL l<=k:=by simp only[D.dep]at hk;omega
   ext;rw[Xe,q9 (l:=[]) (by rfl) (by rw[z7];omega) ?_ (.inl rfl)]
   .ext
   .refine Uk λd hd=>?_;obtain⟨j,hj,rfl⟩:=Ef hd;have hg:atI l (0+(j:Int))=a5 l[j]:=by rw[c9];exact V0 (kh hj)
    have hm:l[j]∈l:=Pq hj;refine Vf (b:=a6) (d':=.non) ?_ λz=>by cases z
    ext;simp only[hg];ext;rw[ih' (Xd (D.depL_mem hm) hk) (Ua hx hm)];ext
  |lst l =>
   obtain⟨hl,hx⟩:=j58 hx;have hk:D.depL l<=k:=by simp only[D.dep]at hk;omega
   ext;rw[Xe,q9 (l:=[]) (by rfl) (by rw[z7];omega) ?_ (.inl rfl)]
   .ext
   .refine Uk λd hd=>?_;obtain⟨j,hj,rfl⟩:=Ef hd;have hg:atI l (0+(j:Int))=a5 l[j]:=by rw[c9];exact V0 (kh hj)
    have hm:l[j]∈l:=Pq hj;refine Vf (b:=a6) (d':=.non) ?_ λz=>by cases z
    ext;simp only[hg];ext;rw[ih' (Xd (D.depL_mem hm) hk) (Ua hx hm)];ext
  |non=>ext
  |bl b=>ext
  |int i=>ext
  |str z=>ext
theorem j57{r:List Int}(h:r.length<=1000):Ja (J6 r):=by
 simp only[Ja,xf];refine⟨h,Y4 λd hd=>?_⟩;obtain⟨i,_,rfl⟩:=Xn.mp hd
 trivial
theorem Qn(n:Nat):upto 0 n=(aB n).map λ(k:Nat)=>D.int (0+(k:Int)):=rfl
theorem jet{m:Nat}(h:m<=6):(1:Int)<=2^m/\(2:Int)^m<=64:=by
 have:m=0\/m=1\/m=2\/m=3\/m=4\/m=5\/m=6:=by omega
 rcases this with e|e|e|e|e|e|e<;>subst e<;>decide
theorem j1v{p:List Int}{k:Nat}(h:k<p.length):atI (p.map D.int) (0+(k:Int))=a5 (.int (p.getD k 0)):=by rw[c9];refine V0 ?_;rw[xq,kh h,kj,kh h];rfl
theorem j8x(ns:List Int)(lo hi:Option Int):∃ms:List Int,cutD (ns.map D.int) lo hi=ms.map D.int/\ms.length<=ns.length:=by unfold cutD;refine⟨(ns.drop _).take _,by rw[kg,gz],?_⟩;rw[Xj,Pj];omega
end
end KL
namespace KV
open PySem
noncomputable def letters:List Nat:=[109,100,107,98,118,113,104,122,99,103,114,110,97,112,120,111,108,115,105,101,102,119,116,121,106,117]
theorem jc7:("mdkbvqhzcgrnapxolsiefwtyju":ah).cps.toList=letters:=by decide +kernel
noncomputable def lt(n:Int):Nat:=letters.getD n.toNat 0
noncomputable def sL(l:List Nat):ah:=⟨l.toArray⟩
theorem Js{l:List Nat}:(sL l).length=l.length:=by simp[sL,lQ]
theorem j4h{l m:List Nat}(h:sL l=sL m):l=m:=by have:=congrArg (λz=>z.cps.toList) h;simpa [sL]using this
theorem W2{l m:List Nat}:sL l++sL m=sL (l++m):=by show(⟨l.toArray++m.toArray⟩:ah)=_;simp[sL]
theorem Bh:∀l:List Nat,eD ("":ah) (l.map λc=>(⟨#[c]⟩:ah))=sL l:=by
 intro l;show lR _ _=_;rw[StrLaws.glued_eq_join];induction l with
 |nil=>rfl
 |cons a r ih =>
  cases r with
  |nil=>rfl
  |cons b r =>
   rw[xx,xx,Str.join,<-xx (f:=λc=>(⟨#[c]⟩:ah)),ih]
   .show(⟨(#[a] ++ #[])++(b::r).toArray⟩:ah)=⟨(a::b::r).toArray⟩
    simp
   .intro z;cases z
theorem je7{l:List Nat}:(sL l).cps.toList=l:=by simp[sL]
theorem Bo{k n:Nat}:aL a8 (a5 (k:Int)) 1 n=aL (a5 ((0:Nat):Int)) (a5 (k:Int)) 1 n:=by
 have e:max (0:Int) (min 0 (n:Int))=0:=by omega
 simp[aL,e]
theorem Bp{k n:Nat}:aL (a5 (k:Int)) a8 1 n=aL (a5 (k:Int)) (a5 (n:Int)) 1 n:=by
 have e:max (0:Int) (min (n:Int) (n:Int))=n:=by omega
 have e2:¬((n:Int)<0):=by omega
 simp[aL,e,e2]
theorem Kw{l:List Nat}{a b:Nat}{lo hi:Option Int}(he:aL lo hi 1 (sL l).length=aL (a5 (a:Int)) (a5 (b:Int)) 1 (sL l).length)(hab:a<=b)(hb:b<=l.length):bP (sL l) lo hi=sL ((l.drop a).take (b-a)):=by
 have hb':b<=(sL l).length:=by rw[Js];exact hb
 have q:=StrLaws.sliced_plain (sL l) hab hb';rw[je7]at q;have e1:=StrLaws.strSliceIndices_plain hab hb';unfold bP;rw[he];by_cases h:((1:Int)==1&&(aL (a5 (a:Int)) (a5 (b:Int)) 1 (sL l).length).length==(sL l).length)=a7
 .rw[if_pos h];rw[e1,Js,xf,Xw]at h;have:b-a=l.length:=by simpa using h
  have ha:a=0:=by omega
  subst ha;rw[this,Tw,dD]
 .rw[if_neg h,q];rfl
theorem Oo{l:List Nat}{k:Nat}(h:k<=l.length):bP (sL l) a8 (a5 (k:Int))=sL (l.take k):=by rw[Kw (a:=0) (b:=k) Bo (Tc _) h];simp
theorem Oq{l:List Nat}{k:Nat}(h:k<=l.length):bP (sL l) (a5 (k:Int)) a8=sL (l.drop k):=by rw[Kw (a:=k) (b:=l.length) (by rw[Bp,Js]) h (X5 _),ph (by rw[Pj];omega)]
theorem Wa {l:List Nat} (h:l.length<=100):eW ("":ah) (l.map λc=>(⟨#[c]⟩:ah))=a7:=by
 unfold eW;rw[f9];have e:∀(r:List Nat)(k:Nat),(r.map λc=>(⟨#[c]⟩:ah)).foldl (λ(x:Nat) (y:ah)=>x+y.length+("":ah).length) k=k+r.length:=by
  intro r;induction r with
  |nil=>intro k;rfl
  |cons a r ih =>intro k;rw[xx,Tg,ih,X4];show k+1+0+r.length=_;omega
 show cD _=a6;have:=e l 0;rw[List.foldl_toArray];show cD (bF (λ(x:Nat) (y:ah)=>x+y.length+("":ah).length) 0 _)=a6;rw[this];unfold cD;simp;have:=b8;omega
noncomputable def Zr(c:Int):List Nat:=(aB 8).map λ(k:Nat)=>lt (c/(4+5*(k:Int))%26)
noncomputable def Qw(c:Int)(s:Nat):List Nat:=(aB s).map λ(k:Nat)=>lt ((c/32+3*(k:Int)*(k:Int)+(k:Int))%26)
theorem Jp(c:Int):(Zr c).length=8:=by simp[Zr]
theorem v7(c:Int)(s:Nat):(Qw c s).length=s:=by simp[Qw]
noncomputable def stN(c:Int)(m:Nat):Nat:=(c/8%(9-(m:Int))).toNat
noncomputable def szN(c:Int):Nat:=(c/4%8).toNat
noncomputable def atN(c:Int):Nat:=(c/512%((szN c:Int)+1)).toNat
noncomputable def wrd(c:Int)(m k:Nat):List Nat :=
 if c%4<2 then(if c%4=0 then(Zr c).take (stN c m+k+1) else(Zr c).drop (8-stN c m-k-1))
 else(Qw c (szN c)).take (atN c)++lt ((c/9+7*(k:Int))%26)::(Qw c (szN c)).drop (atN c)
noncomputable def qi(c:Int)(m:Nat):List ah:=(aB m).map λ(k:Nat)=>sL (wrd c m k)
theorem jfk{a b:Int}(ha:0<=a/\a<26)(hb:0<=b/\b<26)(h:lt a=lt b):a=b:=by
 obtain⟨i,rfl⟩:∃i:Nat,a=(i:Int):=⟨a.toNat,by omega⟩
 obtain⟨j,rfl⟩:∃j:Nat,b=(j:Int):=⟨b.toNat,by omega⟩
 have key:∀i j:Fin 26,letters.getD i.val 0=letters.getD j.val 0->i=j:=by decide +kernel
 have:=key ⟨i,by omega⟩ ⟨j,by omega⟩ h;have:=congrArg Fin.val this;simp at this;omega
theorem j2j{c:Int}{m:Nat}(h:m<=6):stN c m+m<=8:=by unfold stN;have h1:=Xz (c/8) (show(9-(m:Int))≠0 by omega);have h2:=Ph (c/8) (show(0:Int)<9-(m:Int)by omega);omega
theorem j3n(c:Int):atN c<=szN c/\szN c<=7:=by unfold atN;have h1:=Xz (c/512) (show((szN c:Int)+1)≠0 by omega);have h2:=Ph (c/512) (show(0:Int)<(szN c:Int)+1 by omega);refine⟨by omega,?_⟩;unfold szN;omega
theorem jak{c:Int}{m i j:Nat}(hm:m<=6)(hi:i<m)(hj:j<m)(h:wrd c m i=wrd c m j):i=j:=by
 have s:=j2j (c:=c) hm;have a:=j3n c;have l8:=Jp c;have ls:=v7 c (szN c);unfold wrd at h;split at h
 .split at h
  .have:=congrArg i6 h;rw[Xj,Xj]at this;omega
  .have:=congrArg i6 h;rw[Pj,Pj]at this;omega
 .have h2:=List.append_cancel_left h;have h3:=(List.cons.inj h2).1;have:=jfk nofun nofun h3;omega
theorem Uv(c:Int)(m:Nat):(qi c m).length=m:=by simp[qi]
theorem K9{c:Int}{m:Nat}(hm:m<=6):(qi c m).Nodup:=by unfold qi;unfold lL;rw[iT];exact List.Pairwise.imp_of_mem (λhi hj h e=>h (jak hm (Xm.mp hi) (Xm.mp hj) (j4h e))) (List.nodup_range (n:=m))
end KV
open PySem (Str)
open L2
namespace KW
open KL KV PySem
noncomputable def Qq:Sx:=(.seq (.set 2 (.lit (.str "mdkbvqhzcgrnapxolsiefwtyju"))) (.seq (.ife (.cmp .lt (.bin .mod (.var 0) (.lit (.int 4))) (.lit (.int 2))) (.seq (.set 3 (.join "" (.comp [4] (.ix (.var 2) (.bin .mod (.bin .fdiv (.var 0) (.bin .add (.lit (.int 4)) (.bin .mul (.lit (.int 5)) (.var 4)))) (.lit (.int 26)))) (.range (.cons (.lit (.int 8)) .nil)) .nil))) (.seq (.set 5 (.bin .mod (.bin .fdiv (.var 0) (.lit (.int 8))) (.bin .sub (.lit (.int 9)) (.var 1)))) (.seq (.ife (.cmp .eq (.bin .mod (.var 0) (.lit (.int 4))) (.lit (.int 0))) (.seq (.ret (.comp [4] (.sl (.var 3) .nil (.cons (.bin .add (.bin .add (.var 5) (.var 4)) (.lit (.int 1))) .nil)) (.range (.cons (.var 1) .nil)) .nil)) .nop) .nop) (.seq (.ret (.comp [4] (.sl (.var 3) (.cons (.bin .sub (.bin .sub (.bin .sub (.lit (.int 8)) (.var 5)) (.var 4)) (.lit (.int 1))) .nil) .nil) (.range (.cons (.var 1) .nil)) .nil)) .nop)))) .nop) (.seq (.set 6 (.bin .mod (.bin .fdiv (.var 0) (.lit (.int 4))) (.lit (.int 8)))) (.seq (.set 7 (.join "" (.comp [4] (.ix (.var 2) (.bin .mod (.bin .add (.bin .add (.bin .fdiv (.var 0) (.lit (.int 32))) (.bin .mul (.bin .mul (.lit (.int 3)) (.var 4)) (.var 4))) (.var 4)) (.lit (.int 26)))) (.range (.cons (.var 6) .nil)) .nil))) (.seq (.set 8 (.bin .mod (.bin .fdiv (.var 0) (.lit (.int 512))) (.bin .add (.var 6) (.lit (.int 1))))) (.seq (.ret (.comp [4] (.bin .add (.bin .add (.sl (.var 7) .nil (.cons (.var 8) .nil)) (.ix (.var 2) (.bin .mod (.bin .add (.bin .fdiv (.var 0) (.lit (.int 9))) (.bin .mul (.lit (.int 7)) (.var 4))) (.lit (.int 26))))) (.sl (.var 7) (.cons (.var 8) .nil) .nil)) (.range (.cons (.var 1) .nil)) .nil)) .nop))))))
noncomputable def fL_words:Fi:=⟨2,9,Qq,a6⟩
noncomputable def U3:Sx:=(.seq (.set 3 (.comp [4] (.var 4) (.range (.cons (.blt .len (.cons (.var 0) .nil)) .nil)) (.cons (.cmp .eq (.bin .mod (.bin .fdiv (.var 2) (.bin .shl (.lit (.int 1)) (.var 4))) (.lit (.int 2))) (.lit (.int 1))) .nil))) (.seq (.set 5 (.blt .sum (.cons (.comp [4] (.bin .shl (.ix (.var 0) (.var 4)) (.var 4)) (.seq (.var 3)) .nil) .nil))) (.seq (.set 6 (.blt .sum (.cons (.comp [4,7] (.bin .shl (.var 7) (.var 4)) (.enum (.var 0)) .nil) .nil))) (.seq (.ife (.cmp .eq (.var 1) (.lit (.int 1))) (.seq (.ret (.blt .int (.cons (.cmp .gt (.blt .sum (.cons (.var 0) .nil)) (.bin .mod (.bin .fdiv (.var 2) (.lit (.int 64))) (.blt .len (.cons (.var 0) .nil)))) .nil))) .nop) .nop) (.seq (.ife (.cmp .eq (.var 1) (.lit (.int 2))) (.seq (.set 8 (.bin .mod (.bin .mul (.bin .add (.var 6) (.lit (.int 1))) (.bin .add (.lit (.int 1)) (.bin .mod (.var 2) (.lit (.int 1000003))))) (.lit (.int 2147483629)))) (.seq (.ret (.blt .int (.cons (.cmp .eq (.bin .mod (.bin .fdiv (.var 8) (.lit (.int 32))) (.lit (.int 5))) (.lit (.int 0))) .nil))) .nop)) .nop) (.seq (.ife (.cmp .eq (.var 1) (.lit (.int 3))) (.seq (.set 8 (.bin .mul (.bin .add (.bin .add (.bin .mul (.var 5) (.var 5)) (.bin .mul (.lit (.int 17)) (.var 5))) (.lit (.int 69621))) (.bin .add (.lit (.int 1)) (.bin .mod (.var 2) (.lit (.int 1000003)))))) (.seq (.ret (.bin .mod (.bin .fdiv (.bin .mod (.var 8) (.lit (.int 2147483647))) (.lit (.int 16))) (.lit (.int 2)))) .nop)) .nop) (.seq (.ife (.cmp .eq (.var 1) (.lit (.int 4))) (.seq (.ret (.bin .mod (.bin .add (.blt .sum (.cons (.comp [4] (.ix (.var 0) (.var 4)) (.seq (.var 3)) .nil) .nil)) (.bin .fdiv (.var 2) (.lit (.int 64)))) (.lit (.int 2)))) .nop) .nop) (.seq (.set 8 (.bin .mul (.bin .add (.bin .mul (.var 6) (.var 6)) (.lit (.int 48271))) (.bin .add (.bin .add (.bin .mod (.var 2) (.lit (.int 1000003))) (.var 6)) (.lit (.int 1))))) (.seq (.ret (.bin .mod (.bin .fdiv (.bin .mod (.var 8) (.lit (.int 2147483647))) (.lit (.int 64))) (.lit (.int 2)))) .nop)))))))))
noncomputable def fL_bit:Fi:=⟨3,9,U3,a6⟩
noncomputable def Jy:Sx:=(.seq (.set 3 (.bin .add (.lit (.int 1)) (.bin .mod (.call "_law_cell" (.cons (.var 0) (.cons (.var 1) .nil))) (.var 2)))) (.seq (.set 4 (.call "_law_words" (.cons (.call "_law_cell" (.cons (.var 0) (.cons (.bin .add (.var 1) (.lit (.int 1))) .nil))) (.cons (.var 3) .nil)))) (.seq (.set 5 (.bin .mod (.bin .fdiv (.call "_law_cell" (.cons (.var 0) (.cons (.var 1) .nil))) (.var 2)) (.lit (.int 5)))) (.seq (.set 6 (.lst .nil)) (.seq (.loop [7] (.range (.cons (.bin .shl (.lit (.int 1)) (.var 3)) .nil)) (.seq (.set 8 (.comp [9] (.bin .mod (.bin .fdiv (.var 7) (.bin .shl (.lit (.int 1)) (.bin .sub (.bin .sub (.var 3) (.var 9)) (.lit (.int 1))))) (.lit (.int 2))) (.range (.cons (.var 3) .nil)) .nil)) (.seq (.app 6 (.call "_law_bit" (.cons (.var 8) (.cons (.var 5) (.cons (.call "_law_cell" (.cons (.var 0) (.cons (.bin .add (.var 1) (.lit (.int 2))) .nil))) .nil))))) .nop))) (.seq (.ret (.tup (.cons (.blt .tuple (.cons (.var 4) .nil)) (.cons (.blt .tuple (.cons (.var 6) .nil)) .nil)))) .nop))))))
noncomputable def fL_question:Fi:=⟨3,10,Jy,a6⟩
section
variable{G:ah->Option D}{T:ah->Option Fi}
theorem j2z {n:Int} (h:0<=n/\n<26):atI ("mdkbvqhzcgrnapxolsiefwtyju":ah).cps.toList n=a5 (lt n):=by
 obtain⟨k,rfl⟩:∃k:Nat,n=(k:Int):=⟨n.toNat,by omega⟩
 have hk:k<letters.length:=by show k<26;omega
 rw[jc7];refine V0 ?_;unfold lt;rw[kh hk,Xe,kj,kh hk];rfl
theorem ja0:("mdkbvqhzcgrnapxolsiefwtyju":ah).length<=1000000:=by decide +kernel
theorem j6h {fu n m:Nat} (hT:T "_law_words" = a5 fL_words) {c:Int} (h:¬c%4<2) (hm:m<=10):evP fu G T (n+1) "_law_words" [.int c,.int m]=.fresh ((qi c m).map D.str):=by
 rw[jt (F:=fL_words) hT rfl];simp only[fL_words,Qq,enter];have ll:=ja0;have a:=j3n c;obtain⟨s,hs⟩:∃s:Nat,s=szN c:=⟨_,rfl⟩
 have es:c/4%8=(s:Int):=by rw[hs];unfold szN;omega
 obtain⟨q,hq⟩:∃q:Nat,q=atN c:=⟨_,rfl⟩
 have eq:c/512%((s:Int)+1)=(q:Int):=by rw[hq];unfold atN;have:=Xz (c/512) (show((s:Int)+1)≠0 by omega);rw[<-hs];omega
 ext;rw[es,q9 (l:=((Qw c s).map λx=>(⟨#[x]⟩:ah)).map D.str) (by rfl) (by rw[z7];omega) ?_ (.inl rfl)];rotate_left
 .rw[Xe,Qn,Qw,Xc,Xc];refine ju λk hk'=>zj (by ext) ?_;have hk:=Xm.mp hk';ext;rw[j2z nofun];ext;simp
 rw[j1q (Wa (by rw[v7];omega)),Bh];have lg:(sL (Qw c s)).length=s:=by rw[Js,v7]
 ext;rw[eq,q9 (l:=(qi c m).map D.str) (by rfl) (by rw[z7];omega) ?_ (.inl rfl)]
 .ext
 .rw[Xe,Qn,qi,Xc];refine ju λk hk'=>zj (by ext) ?_;have hk:=Xm.mp hk';ext;rw[j2z nofun];ext;rw[Oo (by rw[v7];omega),Oq (by rw[v7];omega)];have e1:(⟨#[lt ((c/9+7*(0+(k:Int)))%26)]⟩:ah)=sL [lt ((c/9+7*(0+(k:Int)))%26)]:=rfl;have l1:(sL ((Qw c s).take q)).length=q:=by rw[Js,Xj,v7];omega
  have l2:(sL ((Qw c s).drop q)).length=s-q:=by rw[Js,Pj,v7]
  have l3:(sL [lt ((c/9+7*(0+(k:Int)))%26)]).length=1:=rfl;have l4:(sL ((Qw c s).take q)++sL [lt ((c/9+7*(0+(k:Int)))%26)]).length=q+1:=by rw[W2,Js,Xb,Xj,v7,X4,cQ];omega
  rw[e1];ext;rw[W2,W2];simp only[bY,wrd,h,if_false,<-hs,<-hq,Tp,hV,c9]
theorem j29 {fu n m:Nat} (hT:T "_law_words" = a5 fL_words) {c:Int} (hm:1<=m/\m<=6):evP fu G T (n+1) "_law_words" [.int c,.int m]=.fresh ((qi c m).map D.str):=by
 by_cases h:c%4<2
 .rw[jt (F:=fL_words) hT rfl];simp only[fL_words,Qq,enter];have ll:=ja0;ext;rw[q9 (l:=((Zr c).map λx=>(⟨#[x]⟩:ah)).map D.str) (by rfl) (by rw[z7];decide) ?_ (.inl rfl)];rotate_left
  .rw[Qn,Zr,Xc,Xc];refine ju λk hk'=>zj (by ext) ?_;have hk:=Xm.mp hk';ext;rw[j2z nofun];ext;simp
  rw[j1q (Wa (by rw[Jp];decide)),Bh];have st:=j2j (c:=c) hm.2;obtain⟨s,hs⟩:∃s:Nat,s=stN c m:=⟨_,rfl⟩
  have es:c/8%(9-(m:Int))=(s:Int):=by rw[hs];unfold stN;have:=Xz (c/8) (show(9-(m:Int))≠0 by omega);omega
  have lg:(sL (Zr c)).length=8:=by rw[Js,Jp]
  by_cases h0:c%4=0
  .ext;rw[es,q9 (l:=(qi c m).map D.str) (by rfl) (by rw[z7];omega) ?_ (.inl rfl)]
   .ext
   .rw[Xe,Qn,qi,Xc];refine ju λk hk'=>zj (by ext) ?_;have hk:=Xm.mp hk';ext;have e:(s:Int)+(0+(k:Int))+1=((s+k+1:Nat):Int):=by omega
    have hh:wrd c m k=(Zr c).take (stN c m+k+1):=by unfold wrd;rw[if_pos h,if_pos h0]
    rw[e,Oo (by rw[Jp];omega)];simp only[bY,hh,hs]
  .ext;rw[es,q9 (l:=(qi c m).map D.str) (by rfl) (by rw[z7];omega) ?_ (.inl rfl)]
   .ext
   .rw[Xe,Qn,qi,Xc];refine ju λk hk'=>zj (by ext) ?_;have hk:=Xm.mp hk';ext;have e:8-(s:Int)-(0+(k:Int))-1=((8-s-k-1:Nat):Int):=by omega
    have hh:wrd c m k=(Zr c).drop (8-stN c m-k-1):=by unfold wrd;rw[if_pos h,if_neg h0]
    rw[e,Oq (by rw[Jp];omega)];simp only[bY,hh,hs]
 .exact j6h hT h nofun
theorem Kg:∀{l:List Int},(∀x∈l,0<=x/\x<=32)->0<=l.sum/\l.sum<=32*(l.length:Int)
 |[],_=>by simp
 |a::r,h=>by have h1:=h a (xm ..);have h2:=Kg (l:=r) λx hx=>h x (km _ hx);rw[List.sum_cons,X4];omega
theorem p2k{k:Nat}(h:k<=5):0<(2:Int)^k/\(2:Int)^k<=32:=by
 have:k=0\/k=1\/k=2\/k=3\/k=4\/k=5:=by omega
 rcases this with e|e|e|e|e|e<;>subst e<;>decide
noncomputable def V5(row:List Int)(c:Int):List Nat:=(aB row.length).filter λ(k:Nat)=>decide (c/(1*2^(0+(k:Int)).toNat)%2=1)
noncomputable def Y5(row:List Int)(c:Int):List Int:=(V5 row c).map λ(k:Nat)=>row.getD k 0*2^(0+(k:Int)).toNat
noncomputable def byL(row:List Int):List Int:=row.zipIdx.map λp=>p.1*2^((p.2:Nat):Int).toNat
theorem t0k(k:Nat):(0+(k:Int)).toNat=k:=by omega
theorem ja9{row:List Int}(h01:∀x∈row,x=0\/x=1)(k:Nat):row.getD k 0=0\/row.getD k 0=1:=by
 rw[kj];cases h:row[k]? with
 |none=>exact .inl rfl
 |some v=>exact h01 v (Xg h)
theorem jcc{row:List Int}{c:Int}(h01:∀x∈row,x=0\/x=1)(hl:row.length<=6):0<=(Y5 row c).sum/\(Y5 row c).sum<=192:=by
 have h:=Kg (l:=Y5 row c) λx hx=>by
  obtain⟨k,hk,rfl⟩:=Xn.mp hx;have hk2:=Xm.mp (Td.mp hk).1;have p:=p2k (k:=k) nofun
  rw[t0k];rcases ja9 h01 k with e|e<;>rw[e]<;>omega
 have l:(Y5 row c).length<=6:=by unfold Y5 V5;rw[xf];exact Xd (cG _ _) (by rw[Xw];exact hl)
 omega
theorem jjp{row:List Int}(h01:∀x∈row,x=0\/x=1)(hl:row.length<=6):0<=(byL row).sum/\(byL row).sum<=192:=by
 have h:=Kg (l:=byL row) λx hx=>by
  obtain⟨p,hp,rfl⟩:=Xn.mp hx;obtain⟨a,k⟩:=p;have hm:=jK hp;have p:=p2k (k:=k) nofun
  show 0<=a*2^((k:Nat):Int).toNat/\a*2^((k:Nat):Int).toNat<=32;rw[Xe];have:=h01 a (by rw[hm.2.2];exact Pq _);rcases this with e|e<;>rw[e]<;>omega
 have l:(byL row).length<=6:=by unfold byL;rw[xf,eR];exact hl
 omega
theorem jhe {fu n:Nat} (hT:T "_law_bit" = a5 fL_bit) {row:List Int} {kd c:Int} (h01:∀x∈row,x=0\/x=1) (hl:1<=row.length/\row.length<=6):∃b:Int,(b=0\/b=1)/\evP fu G T (n+1) "_law_bit" [.lst (row.map D.int),.int kd,.int c]=.val (.int b):=by
 rw[jt (F:=fL_bit) hT rfl];simp only[fL_bit,U3,enter];have kb:=jcc (c:=c) h01 hl.2;have bb:=jjp h01 hl.2;have sl:(V5 row c).length<=6:=by unfold V5;exact Xd (cG _ _) (by rw[Xw];exact hl.2)
 have get:∀k:Nat,k∈V5 row c->atI (row.map D.int) (0+(k:Int))=a5 (.int (row.getD k 0)):=λk hk=>j1v (Xm.mp (Td.mp hk).1);ext;rw[q9 (l:=(V5 row c).map λ(k:Nat)=>D.int (0+(k:Int))) (by rfl) (by rw[z7];omega) ?_ (.inl rfl)];rotate_left
 .rw[Xe,Qn,V5];refine V3 λk hk'=>?_;have hk:=Xm.mp hk';have p:0<(2:Int)^(0+(k:Int)).toNat/\(2:Int)^(0+(k:Int)).toNat<=32:=by rw[t0k];exact p2k nofun
  refine Vf ?_ λ_=>?_
  .ext;simp only[j23];ext
  .ext
 ext;rw[q9 (l:=(Y5 row c).map D.int) (by rfl) (by rw[xf];omega) ?_ (.inr (Jh _))];rotate_left
 .rw[Y5,Xc];refine ju λk hk'=>zj (by ext) ?_;have b:=ja9 h01 k;have hk:=Xm.mp (Td.mp hk').1;ext;rw[get k hk'];ext;rfl
 ext;rw[q9 (l:=(byL row).map D.int) (by rfl) (by simp only[vo,xf,eR];omega) ?_ (.inl rfl)];rotate_left
 .rw[byL,Xc,vo,jJ,Xc];refine ju λq hq=>?_;obtain⟨a,k⟩:=q;have hm:=jK hq;have h1:=h01 a (by rw[hm.2.2];exact Pq _);show Jz _ _ _ _ (D.tup [.int (k:Int),.int a])=_;refine jan (by ext) ?_;ext;rfl
 ext;generalize (Y5 row c).sum=kept at *;generalize (byL row).sum=byr at *;by_cases k1:kd=1
 .refine⟨if decide (c/64%(row.length:Int)<row.sum)=a7 then 1 else 0,by split<;>simp,?_⟩;ext;simp only[jd3];ext
 .by_cases k2:kd=2
  .refine⟨if decide ((byr+1)*(1+c%1000003)%2147483629/32%5=0)=a7 then 1 else 0,by split<;>simp,?_⟩;ext;simp only[j23];ext
  .by_cases k3:kd=3
   .refine⟨(kept*kept+17*kept+69621)*(1+c%1000003)%2147483647/16%2,by omega,?_⟩;ext
   .by_cases k4:kd=4
    .refine⟨(((V5 row c).map λ(k:Nat)=>row.getD k 0).sum+c/64)%2,by omega,?_⟩;ext;rw[q9 (l:=((V5 row c).map λ(k:Nat)=>row.getD k 0).map D.int) (by rfl) (by rw[xf];omega) ?_ (.inr (Jh _))]
     .ext
     .rw[Xc];refine ju λk hk'=>zj (by ext) ?_;ext;rw[get k hk'];ext;rfl
    .refine⟨(byr*byr+48271)*(c%1000003+byr+1)%2147483647/64%2,by omega,?_⟩;ext
noncomputable def Fy(fu:Nat)(G:ah->Option D)(T:ah->Option Fi)(n:Nat)(row:List Int)(kd c:Int):Int:=match evP fu G T (n+1) "_law_bit" [.lst (row.map D.int),.int kd,.int c] with
 |.val (.int b)=>b
 |_=>0
theorem j0h {fu n:Nat} (hT:T "_law_bit" = a5 fL_bit) {row:List Int} {kd c:Int} (h01:∀x∈row,x=0\/x=1) (hl:1<=row.length/\row.length<=6):(Fy fu G T n row kd c=0\/Fy fu G T n row kd c=1)/\evP fu G T (n+1) "_law_bit" [.lst (row.map D.int),.int kd,.int c]=.val (.int (Fy fu G T n row kd c)):=by obtain⟨b,hb,e⟩:=jhe (fu:=fu) (n:=n) (G:=G) hT h01 hl (kd:=kd) (c:=c);unfold Fy;rw[e];exact⟨hb,rfl⟩
theorem j3d(m:Nat)(z:Int):∀x∈jz 2 m z,x=0\/x=1:=by
 intro x hx;obtain⟨i,hi⟩:=List.mem_iff_getElem?.mp hx;have hl:i<m:=by have:=(X3.mp hi).1;rw[vh]at this;exact this
 rw[Qp 2 hl]at hi;cases hi;omega
noncomputable def V6(ns:List Int)(a most:Nat):Nat:=(1+qt ns a%(most:Int)).toNat
noncomputable def Vr(fu:Nat)(G:ah->Option D)(T:ah->Option Fi)(n:Nat)(ns:List Int)(a most:Nat):List Int :=
 (aB (2^V6 ns a most)).map λ(k:Nat)=>Fy fu G T n (jz 2 (V6 ns a most) (k:Int)) (qt ns a/(most:Int)%5) (qt ns (a+2))
theorem Ny{ns:List Int}{a most:Nat}(h:1<=most/\most<=6):1<=V6 ns a most/\V6 ns a most<=most:=by unfold V6;have h1:=Xz (qt ns a) (show(most:Int)≠0 by omega);have h2:=Ph (qt ns a) (show(0:Int)<most by omega);omega
theorem jd9 {fu n:Nat} (hB:T "_law_bit" = a5 fL_bit) {ns:List Int} {a most:Nat} (hm:1<=most/\most<=6):∀x∈Vr fu G T n ns a most,x=0\/x=1:=by intro x hx;obtain⟨k,_,rfl⟩:=Xn.mp hx;have mb:=Ny (ns:=ns) (a:=a) hm;exact(j0h hB (j3d _ _) (by rw[vh];omega)).1
theorem Lg {fu n:Nat} (hC:T "_law_cell" = a5 fL_cell) (hW:T "_law_words" = a5 fL_words) (hB:T "_law_bit" = a5 fL_bit) (hT:T "_law_question" = a5 fL_question) {ns:List Int} {a most:Nat} (ha:a<=50) (hm:1<=most/\most<=6) :
  evP fu G T (n+2) "_law_question" [.lst (ns.map D.int),.int a,.int most]=.val (.tup [.tup ((qi (qt ns (a+1)) (V6 ns a most)).map D.str),.tup ((Vr fu G T n ns a most).map D.int)]):=by
 rw[jt (F:=fL_question) hT rfl];simp only[fL_question,Jy,enter];have mb:=Ny (ns:=ns) (a:=a) hm;obtain⟨m,em⟩:∃m:Nat,m=V6 ns a most:=⟨_,rfl⟩
 have em2:1+qt ns a%(most:Int)=(m:Int):=by rw[em];unfold V6;have h1:=Xz (qt ns a) (show(most:Int)≠0 by omega);omega
 rw[<-em]at mb;have p2:=jet (m:=m) nofun
 have pc:((2^m:Nat):Int)=(2:Int)^m:=by simp
 have e3:(1*2^m:Int).toNat=2^m:=by rw[fN,<-pc];exact Xe _
 have c0:evP fu G T (n+1) "_law_cell" [.lst (ns.map D.int),.int a]=.val (.int (qt ns a)):=Y9 hC nofun
 have c1:evP fu G T (n+1) "_law_cell" [.lst (ns.map D.int),.int ((a:Int)+1)]=.val (.int (qt ns (a+1))):=Y9 hC (k:=a+1) nofun
 have c2:evP fu G T (n+1) "_law_cell" [.lst (ns.map D.int),.int ((a:Int)+2)]=.val (.int (qt ns (a+2))):=Y9 hC (k:=a+2) nofun
 have wl:(qi (qt ns (a+1)) m).length=m:=Uv _ _;ext;rw[c0];ext;rw[em2,c1];ext;erw[j29 hW nofun,c0,Xe];rw[e3];rw[j7p (λi=>[.val (.lst (ns.map D.int)),.val (.int a),.val (.int most),.val (.int m),.own ((qi (qt ns (a+1)) m).map D.str),.val (.int (qt ns a/(most:Int)%5)),.own (((Vr fu G T n ns a most).take i).map D.int),if i=0 then .un else .val (.int ((i:Int)-1)),if i=0 then .un else .own ((jz 2 m ((i:Int)-1)).map D.int),.un]) (by simp)]
 .ext;rw[z7,ph (by simp[Vr,<-em]),<-em]
 .intro i d hi;obtain⟨h1,rfl⟩:=Mi hi;have hz:=j3d m (0+(i:Int));have hlz:=vh 2 m (0+(i:Int));obtain⟨hb,eb⟩:=j0h (fu:=fu) (n:=n) (G:=G) hB hz nofun (kd:=qt ns a/(most:Int)%5) (c:=qt ns (a+2))
  have lt64:2^m<=64:=by omega
  have al:(Vr fu G T n ns a most).length=2^m:=by simp[Vr,<-em]
  have ag:(Vr fu G T n ns a most)[i]?=a5 (Fy fu G T n (jz 2 m (0+(i:Int))) (qt ns a/(most:Int)%5) (qt ns (a+2))):=by unfold Vr;rw[<-em,xq,Xu h1,c9];rfl
  simp only[Qv];ext;rw[q9 (l:=(jz 2 m (0+(i:Int))).map D.int) (by rfl) (by rw[z7];omega) ?_ (.inl rfl)];rotate_left
  .have ed:jz 2 m (0+(i:Int))=(aB m).map λ(k:Nat)=>(0+(i:Int))/2^(m-k-1)%2:=by
    refine Pa λk=>?_;by_cases hk:k<m
    .rw[Qp 2 hk,xq,Xu hk];rfl
    .rw[Xi (by rw[vh];omega),Xi (by simp;omega)]
   rw[Xe,Qn,ed,Xc];refine ju λk hk'=>zj (by ext) ?_;have hk:=Xm.mp hk';have et:((m:Int)-(0+(k:Int))-1).toNat=m-k-1:=by omega
   have p:=p2k (k:=m-k-1) nofun
   rw[<-et]at p;ext;rw[et,fN];rfl
  ext;rw[c2];ext;rw[j93,eb];ext;rw[jhg (by simp only[xf,Xj];omega) rfl];ext;rw[Tq,ag];simp
end
end KW
section
namespace K09
open PySem PySem.Spec PyProof.Rows L2
noncomputable def top(i:Nat):aN:=PySem.Challenge.pw_leastasks_k09_denied_turned_put_in_order.main.body.getD i (.Pass ⟨0,0,0,0⟩)
noncomputable def V9:Sx:=(.seq (.expr (.call "refuse_wrong_size" (.cons (.var 0) .nil))) (.seq (.ret (.call "all_choices" (.cons (.bin .mul (.lst (.cons (.glob "ANSWERS") .nil)) (.var 0)) .nil))) .nop))
noncomputable def Ue:Fi:=⟨1,1,V9,a6⟩
noncomputable def Qm:Sx:=(.seq (.ret (.call "number_of" (.cons (.var 0) (.cons (.blt .len (.cons (.glob "ANSWERS") .nil)) .nil)))) .nop)
noncomputable def V2:Fi:=⟨1,1,Qm,a6⟩
noncomputable def vz:Sx:=(.seq (.ife (.or (.cmp .lt (.var 0) (.glob "FEWEST_PLACES")) (.cmp .gt (.var 0) (.glob "MOST_PLACES"))) (.seq (.raise "WrongSize" (.fst (.cons (.lit (.str "there are ")) (.cons (.glob "FEWEST_PLACES") (.cons (.lit (.str " to ")) (.cons (.glob "MOST_PLACES") (.cons (.lit (.str " places, not ")) (.cons (.var 0) .nil)))))))) .nop) .nop) .nop)
noncomputable def Ju:Fi:=⟨1,1,vz,a6⟩
noncomputable def J1:Sx:=(.seq (.set 1 (.lst (.cons (.tup .nil) .nil))) (.seq (.loop [2] (.seq (.var 0)) (.seq (.set 3 (.lst .nil)) (.seq (.loop [4] (.seq (.var 1)) (.seq (.ext 3 (.comp [5] (.bin .add (.var 4) (.tup (.cons (.var 5) .nil))) (.seq (.var 2)) .nil)) .nop)) (.seq (.mov 1 3) .nop)))) (.seq (.retV 1) .nop)))
noncomputable def fP_all_choices:Fi:=⟨1,6,J1,a6⟩
noncomputable def Za:Sx:=(.seq (.set 2 (.lit (.int 0))) (.seq (.loop [3] (.seq (.var 0)) (.seq (.set 2 (.bin .add (.bin .mul (.var 2) (.var 1)) (.var 3))) .nop)) (.seq (.retV 2) .nop)))
noncomputable def Vl:Fi:=⟨2,4,Za,a6⟩
noncomputable def Zb:Sx:=(.seq (.ret (.ix (.ix (.var 0) (.lit (.int 1))) (.call "row_number" (.cons (.var 1) .nil)))) .nop)
noncomputable def Vm:Fi:=⟨2,2,Zb,a6⟩
noncomputable def Yc:Sx:=(.seq (.ret (.tup (.cons (.ix (.var 0) (.lit (.int 0))) (.cons (.blt .tuple (.cons (.comp [1] (.bin .sub (.lit (.int 1)) (.var 1)) (.seq (.ix (.var 0) (.lit (.int 1)))) .nil) .nil)) .nil)))) .nop)
noncomputable def Wh:Fi:=⟨1,2,Yc,a6⟩
noncomputable def Jf:Sx:=(.seq (.set 2 (.call "spot_of" (.cons (.var 0) (.cons (.var 1) .nil)))) (.seq (.set 3 (.comp [4] (.call "exchanged_at" (.cons (.var 4) (.cons (.var 2) .nil))) (.seq (.call "rows_of" (.cons (.blt .len (.cons (.ix (.var 0) (.lit (.int 0))) .nil)) .nil))) .nil)) (.seq (.ret (.tup (.cons (.ix (.var 0) (.lit (.int 0))) (.cons (.blt .tuple (.cons (.comp [4] (.call "answer_to" (.cons (.var 0) (.cons (.var 4) .nil))) (.seq (.var 3)) .nil) .nil)) .nil)))) .nop)))
noncomputable def Jc:Fi:=⟨2,5,Jf,a6⟩
noncomputable def Jg:Sx:=(.seq (.expr (.call "refuse_other_order" (.cons (.ix (.var 0) (.lit (.int 0))) (.cons (.var 1) .nil)))) (.seq (.set 2 (.comp [3] (.tix (.var 1) (.var 3)) (.seq (.ix (.var 0) (.lit (.int 0)))) .nil)) (.seq (.set 4 (.comp [5] (.call "picked" (.cons (.var 5) (.cons (.var 2) .nil))) (.seq (.call "rows_of" (.cons (.blt .len (.cons (.var 1) .nil)) .nil))) .nil)) (.seq (.ret (.tup (.cons (.blt .tuple (.cons (.var 1) .nil)) (.cons (.blt .tuple (.cons (.comp [5] (.call "answer_to" (.cons (.var 0) (.cons (.var 5) .nil))) (.seq (.var 4)) .nil) .nil)) .nil)))) .nop))))
noncomputable def Jd:Fi:=⟨2,6,Jg,a6⟩
noncomputable def Z9:Sx:=(.seq (.ife (.cmp .notin (.var 1) (.ix (.var 0) (.lit (.int 0)))) (.seq (.raise "NoPlace" (.fst (.cons (.rpr (.var 1)) (.cons (.lit (.str " is no place of the question")) .nil)))) .nop) .nop) (.seq (.ret (.tix (.ix (.var 0) (.lit (.int 0))) (.var 1))) .nop))
noncomputable def Z2:Fi:=⟨2,2,Z9,a6⟩
noncomputable def Q3:Sx:=(.seq (.ret (.bin .add (.bin .add (.sl (.var 0) .nil (.cons (.var 1) .nil)) (.tup (.cons (.bin .sub (.lit (.int 1)) (.ix (.var 0) (.var 1))) .nil))) (.sl (.var 0) (.cons (.bin .add (.var 1) (.lit (.int 1))) .nil) .nil))) .nop)
noncomputable def Z3:Fi:=⟨2,2,Q3,a6⟩
noncomputable def Yb:Sx:=(.seq (.ret (.blt .tuple (.cons (.comp [2] (.ix (.var 0) (.var 2)) (.seq (.var 1)) .nil) .nil))) .nop)
noncomputable def Wg:Fi:=⟨2,3,Yb,a6⟩
noncomputable def zx:Sx:=(.seq (.ife (.cmp .ne (.srt (.var 1)) (.srt (.var 0))) (.seq (.raise "NoPlace" (.lit (.str "the order is to have each place of the question once, and no others"))) .nop) .nop) .nop)
noncomputable def zp:Fi:=⟨2,2,zx,a6⟩
noncomputable def Vd:Sx:=(.seq (.ife (.cmp .lt (.var 1) (.blt .len (.cons (.var 0) .nil))) (.seq (.ret (.ix (.var 0) (.var 1))) .nop) .nop) (.seq (.set 2 (.bin .add (.lit (.int 70001)) (.bin .mul (.bin .mul (.lit (.int 911)) (.var 1)) (.var 1)))) (.seq (.ife (.cmp .gt (.blt .len (.cons (.var 0) .nil)) (.lit (.int 0))) (.seq (.set 2 (.bin .add (.var 2) (.bin .mul (.bin .mod (.ix (.var 0) (.lit (.int 0))) (.lit (.int 9973))) (.bin .add (.bin .mul (.lit (.int 3)) (.var 1)) (.lit (.int 1)))))) .nop) .nop) (.seq (.retV 2) .nop))))
noncomputable def fL_cell:Fi:=⟨2,3,Vd,a6⟩
noncomputable def Qq:Sx:=(.seq (.set 2 (.lit (.str "mdkbvqhzcgrnapxolsiefwtyju"))) (.seq (.ife (.cmp .lt (.bin .mod (.var 0) (.lit (.int 4))) (.lit (.int 2))) (.seq (.set 3 (.join "" (.comp [4] (.ix (.var 2) (.bin .mod (.bin .fdiv (.var 0) (.bin .add (.lit (.int 4)) (.bin .mul (.lit (.int 5)) (.var 4)))) (.lit (.int 26)))) (.range (.cons (.lit (.int 8)) .nil)) .nil))) (.seq (.set 5 (.bin .mod (.bin .fdiv (.var 0) (.lit (.int 8))) (.bin .sub (.lit (.int 9)) (.var 1)))) (.seq (.ife (.cmp .eq (.bin .mod (.var 0) (.lit (.int 4))) (.lit (.int 0))) (.seq (.ret (.comp [4] (.sl (.var 3) .nil (.cons (.bin .add (.bin .add (.var 5) (.var 4)) (.lit (.int 1))) .nil)) (.range (.cons (.var 1) .nil)) .nil)) .nop) .nop) (.seq (.ret (.comp [4] (.sl (.var 3) (.cons (.bin .sub (.bin .sub (.bin .sub (.lit (.int 8)) (.var 5)) (.var 4)) (.lit (.int 1))) .nil) .nil) (.range (.cons (.var 1) .nil)) .nil)) .nop)))) .nop) (.seq (.set 6 (.bin .mod (.bin .fdiv (.var 0) (.lit (.int 4))) (.lit (.int 8)))) (.seq (.set 7 (.join "" (.comp [4] (.ix (.var 2) (.bin .mod (.bin .add (.bin .add (.bin .fdiv (.var 0) (.lit (.int 32))) (.bin .mul (.bin .mul (.lit (.int 3)) (.var 4)) (.var 4))) (.var 4)) (.lit (.int 26)))) (.range (.cons (.var 6) .nil)) .nil))) (.seq (.set 8 (.bin .mod (.bin .fdiv (.var 0) (.lit (.int 512))) (.bin .add (.var 6) (.lit (.int 1))))) (.seq (.ret (.comp [4] (.bin .add (.bin .add (.sl (.var 7) .nil (.cons (.var 8) .nil)) (.ix (.var 2) (.bin .mod (.bin .add (.bin .fdiv (.var 0) (.lit (.int 9))) (.bin .mul (.lit (.int 7)) (.var 4))) (.lit (.int 26))))) (.sl (.var 7) (.cons (.var 8) .nil) .nil)) (.range (.cons (.var 1) .nil)) .nil)) .nop))))))
noncomputable def fL_words:Fi:=⟨2,9,Qq,a6⟩
noncomputable def U3:Sx:=(.seq (.set 3 (.comp [4] (.var 4) (.range (.cons (.blt .len (.cons (.var 0) .nil)) .nil)) (.cons (.cmp .eq (.bin .mod (.bin .fdiv (.var 2) (.bin .shl (.lit (.int 1)) (.var 4))) (.lit (.int 2))) (.lit (.int 1))) .nil))) (.seq (.set 5 (.blt .sum (.cons (.comp [4] (.bin .shl (.ix (.var 0) (.var 4)) (.var 4)) (.seq (.var 3)) .nil) .nil))) (.seq (.set 6 (.blt .sum (.cons (.comp [4,7] (.bin .shl (.var 7) (.var 4)) (.enum (.var 0)) .nil) .nil))) (.seq (.ife (.cmp .eq (.var 1) (.lit (.int 1))) (.seq (.ret (.blt .int (.cons (.cmp .gt (.blt .sum (.cons (.var 0) .nil)) (.bin .mod (.bin .fdiv (.var 2) (.lit (.int 64))) (.blt .len (.cons (.var 0) .nil)))) .nil))) .nop) .nop) (.seq (.ife (.cmp .eq (.var 1) (.lit (.int 2))) (.seq (.set 8 (.bin .mod (.bin .mul (.bin .add (.var 6) (.lit (.int 1))) (.bin .add (.lit (.int 1)) (.bin .mod (.var 2) (.lit (.int 1000003))))) (.lit (.int 2147483629)))) (.seq (.ret (.blt .int (.cons (.cmp .eq (.bin .mod (.bin .fdiv (.var 8) (.lit (.int 32))) (.lit (.int 5))) (.lit (.int 0))) .nil))) .nop)) .nop) (.seq (.ife (.cmp .eq (.var 1) (.lit (.int 3))) (.seq (.set 8 (.bin .mul (.bin .add (.bin .add (.bin .mul (.var 5) (.var 5)) (.bin .mul (.lit (.int 17)) (.var 5))) (.lit (.int 69621))) (.bin .add (.lit (.int 1)) (.bin .mod (.var 2) (.lit (.int 1000003)))))) (.seq (.ret (.bin .mod (.bin .fdiv (.bin .mod (.var 8) (.lit (.int 2147483647))) (.lit (.int 16))) (.lit (.int 2)))) .nop)) .nop) (.seq (.ife (.cmp .eq (.var 1) (.lit (.int 4))) (.seq (.ret (.bin .mod (.bin .add (.blt .sum (.cons (.comp [4] (.ix (.var 0) (.var 4)) (.seq (.var 3)) .nil) .nil)) (.bin .fdiv (.var 2) (.lit (.int 64)))) (.lit (.int 2)))) .nop) .nop) (.seq (.set 8 (.bin .mul (.bin .add (.bin .mul (.var 6) (.var 6)) (.lit (.int 48271))) (.bin .add (.bin .add (.bin .mod (.var 2) (.lit (.int 1000003))) (.var 6)) (.lit (.int 1))))) (.seq (.ret (.bin .mod (.bin .fdiv (.bin .mod (.var 8) (.lit (.int 2147483647))) (.lit (.int 64))) (.lit (.int 2)))) .nop)))))))))
noncomputable def fL_bit:Fi:=⟨3,9,U3,a6⟩
noncomputable def Jy:Sx:=(.seq (.set 3 (.bin .add (.lit (.int 1)) (.bin .mod (.call "_law_cell" (.cons (.var 0) (.cons (.var 1) .nil))) (.var 2)))) (.seq (.set 4 (.call "_law_words" (.cons (.call "_law_cell" (.cons (.var 0) (.cons (.bin .add (.var 1) (.lit (.int 1))) .nil))) (.cons (.var 3) .nil)))) (.seq (.set 5 (.bin .mod (.bin .fdiv (.call "_law_cell" (.cons (.var 0) (.cons (.var 1) .nil))) (.var 2)) (.lit (.int 5)))) (.seq (.set 6 (.lst .nil)) (.seq (.loop [7] (.range (.cons (.bin .shl (.lit (.int 1)) (.var 3)) .nil)) (.seq (.set 8 (.comp [9] (.bin .mod (.bin .fdiv (.var 7) (.bin .shl (.lit (.int 1)) (.bin .sub (.bin .sub (.var 3) (.var 9)) (.lit (.int 1))))) (.lit (.int 2))) (.range (.cons (.var 3) .nil)) .nil)) (.seq (.app 6 (.call "_law_bit" (.cons (.var 8) (.cons (.var 5) (.cons (.call "_law_cell" (.cons (.var 0) (.cons (.bin .add (.var 1) (.lit (.int 2))) .nil))) .nil))))) .nop))) (.seq (.ret (.tup (.cons (.blt .tuple (.cons (.var 4) .nil)) (.cons (.blt .tuple (.cons (.var 6) .nil)) .nil)))) .nop))))))
noncomputable def fL_question:Fi:=⟨3,10,Jy,a6⟩
noncomputable def Vq:Sx:=(.seq (.set 1 (.lst .nil)) (.seq (.ife (.isx 0 ["NoAsk"]) (.seq (.app 1 (.lit (.str "NoAsk"))) .nop) .nop) (.seq (.ife (.isx 0 ["NoPlace"]) (.seq (.app 1 (.lit (.str "NoPlace"))) .nop) .nop) (.seq (.ife (.isx 0 ["NoPlan","NoText"]) (.seq (.app 1 (.lit (.str "NoPlan or NoText"))) .nop) .nop) (.seq (.ife (.isx 0 ["NoWord"]) (.seq (.app 1 (.lit (.str "NoWord"))) .nop) .nop) (.seq (.ife (.isx 0 ["Twice"]) (.seq (.app 1 (.lit (.str "Twice"))) .nop) .nop) (.seq (.ife (.isx 0 ["Unlike"]) (.seq (.app 1 (.lit (.str "Unlike"))) .nop) .nop) (.seq (.ife (.isx 0 ["WrongAnswers"]) (.seq (.app 1 (.lit (.str "WrongAnswers"))) .nop) .nop) (.seq (.ife (.isx 0 ["WrongPrices","WrongWeights"]) (.seq (.app 1 (.lit (.str "WrongPrices or WrongWeights"))) .nop) .nop) (.seq (.ife (.isx 0 ["WrongSize"]) (.seq (.app 1 (.lit (.str "WrongSize"))) .nop) .nop) (.seq (.ife (.not (.isx 0 ["ValueError"])) (.seq (.app 1 (.lit (.str "no ValueError"))) .nop) .nop) (.seq (.retV 1) .nop))))))))))))
noncomputable def j00:Fi:=⟨1,2,Vq,a6⟩
noncomputable def Zk:Sx:=(.seq (.ife (.isi (.var 1) ["list","tuple"]) (.seq (.ife (.or (.cmp .ne (.isi (.var 0) ["list"]) (.isi (.var 1) ["list"])) (.not (.isi (.var 0) ["list","tuple"]))) (.seq (.ret (.lit (.bl a6))) .nop) .nop) (.seq (.set 2 (.comp [3] (.var 3) (.range (.cons (.blt .min (.cons (.blt .len (.cons (.var 0) .nil)) (.cons (.blt .len (.cons (.var 1) .nil)) .nil))) .nil)) (.cons (.not (.call "_law_same" (.cons (.ix (.var 0) (.var 3)) (.cons (.ix (.var 1) (.var 3)) .nil)))) .nil))) (.seq (.ret (.and (.cmp .eq (.blt .len (.cons (.var 0) .nil)) (.blt .len (.cons (.var 1) .nil))) (.cmp .eq (.var 2) (.lst .nil)))) .nop))) .nop) (.seq (.ife (.isN (.var 1)) (.seq (.ret (.isN (.var 0))) .nop) .nop) (.seq (.ife (.or (.cmp .ne (.isi (.var 0) ["bool"]) (.isi (.var 1) ["bool"])) (.cmp .ne (.isi (.var 0) ["str"]) (.isi (.var 1) ["str"]))) (.seq (.ret (.lit (.bl a6))) .nop) .nop) (.seq (.ret (.and (.isi (.var 0) ["int","str"]) (.cmp .eq (.var 0) (.var 1)))) .nop))))
noncomputable def fL_same:Fi:=⟨2,4,Zk,a6⟩
noncomputable def Uq:Sx:=(.seq (.set 2 (.blt .list (.cons (.var 0) .nil))) (.seq (.set 3 (.lst .nil)) (.seq (.set 4 (.bin .mod (.var 1) (.lit (.int 2147483647)))) (.seq (.loop [5] (.range (.cons (.blt .len (.cons (.var 0) .nil)) .nil)) (.seq (.set 4 (.bin .mod (.bin .add (.bin .add (.bin .mul (.var 4) (.lit (.int 69621))) (.bin .mul (.lit (.int 5)) (.var 5))) (.lit (.int 1))) (.lit (.int 2147483647)))) (.seq (.apop 3 2 (.bin .mod (.bin .fdiv (.var 4) (.lit (.int 32))) (.blt .len (.cons (.var 2) .nil)))) .nop))) (.seq (.retV 3) .nop)))))
noncomputable def O5:Fi:=⟨2,6,Uq,a6⟩
noncomputable def Yg:Sx:=(.seq (.set 2 (.lit (.int 0))) (.seq (.loop [3] (.seq (.ix (.var 0) (.lit (.int 0)))) (.seq (.set 2 (.bin .add (.bin .mul (.lit (.int 2)) (.var 2)) (.dix (.var 1) (.var 3)))) .nop)) (.seq (.ret (.ix (.ix (.var 0) (.lit (.int 1))) (.var 2))) .nop)))
noncomputable def Wl:Fi:=⟨2,4,Yg,a6⟩
noncomputable def Ry:Sx:=(.seq (.set 1 (.lst .nil)) (.seq (.loop [2] (.range (.cons (.bin .shl (.lit (.int 1)) (.blt .len (.cons (.var 0) .nil))) .nil)) (.seq (.prm (Ku 3 4 5 (.enum (.var 0)) (.var 5) (.bin .mod (.bin .fdiv (.var 2) (.bin .shl (.lit (.int 1)) (.bin .sub (.bin .sub (.blt .len (.cons (.var 0) .nil)) (.var 4)) (.lit (.int 1))))) (.lit (.int 2))))) (.seq (.app 1 (.var 3)) .nop))) (.seq (.retV 1) .nop)))
noncomputable def Fp:Fi:=⟨1,6,Ry,a6⟩
noncomputable def Yd:Sx:=(.seq (.set 2 (.lst .nil)) (.seq (.prm (Kd 3 2 (.call "_law_rows" (.cons (.ix (.var 0) (.lit (.int 0))) .nil)) (.var 1) (.bin .sub (.lit (.int 1)) (.dix (.var 3) (.var 1))) (.call "_law_answer" (.cons (.var 0) (.cons (.var 3) .nil))))) (.seq (.ret (.tup (.cons (.ix (.var 0) (.lit (.int 0))) (.cons (.blt .tuple (.cons (.var 2) .nil)) .nil)))) .nop)))
noncomputable def Wi:Fi:=⟨2,4,Yd,a6⟩
noncomputable def Zd:Sx:=(.seq (.set 3 (.lst .nil)) (.seq (.tryK (.seq (.ife (.cmp .eq (.var 2) (.lit (.int 0))) (.seq (.expr (.call "put_in_order" (.cons (.var 0) (.cons (.var 1) .nil)))) .nop) (.seq (.expr (.call "turned_about" (.cons (.var 0) (.cons (.ix (.var 1) (.lit (.int 0))) .nil)))) .nop)) .nop) 3 4) (.seq (.retV 3) .nop)))
noncomputable def Z4:Fi:=⟨3,5,Zd,a6⟩
noncomputable def Ye:Sx:=(.seq (.set 2 (.bin .mod (.bin .fdiv (.var 1) (.lit (.int 4))) (.blt .len (.cons (.var 0) .nil)))) (.seq (.set 3 (.comp [4] (.var 4) (.seq (.lst (.cons (.lit (.str "")) (.cons (.lit (.str "q")) (.cons (.lit (.str "qq")) (.cons (.lit (.str "zq")) (.cons (.lit (.str "A")) (.cons (.lit (.str "no place")) (.cons (.lit (.str "zqx")) .nil))))))))) (.cons (.cmp .notin (.var 4) (.var 0)) .nil))) (.seq (.set 5 (.ix (.var 3) (.bin .mod (.bin .fdiv (.var 1) (.lit (.int 32))) (.lit (.int 4))))) (.seq (.ife (.cmp .eq (.bin .mod (.var 1) (.lit (.int 4))) (.lit (.int 0))) (.seq (.ret (.bin .add (.sl (.var 0) .nil (.cons (.var 2) .nil)) (.sl (.var 0) (.cons (.bin .add (.var 2) (.lit (.int 1))) .nil) .nil))) .nop) .nop) (.seq (.ife (.cmp .eq (.bin .mod (.var 1) (.lit (.int 4))) (.lit (.int 1))) (.seq (.set 6 (.ix (.var 0) (.bin .mod (.bin .add (.bin .add (.var 2) (.lit (.int 1))) (.bin .mod (.bin .fdiv (.var 1) (.lit (.int 32))) (.blt .max (.cons (.lit (.int 1)) (.cons (.bin .sub (.blt .len (.cons (.var 0) .nil)) (.lit (.int 1))) .nil))))) (.blt .len (.cons (.var 0) .nil))))) (.seq (.set 7 (.blt .int (.cons (.and (.cmp .gt (.blt .len (.cons (.var 0) .nil)) (.lit (.int 1))) (.cmp .gt (.bin .mod (.bin .fdiv (.var 1) (.lit (.int 256))) (.lit (.int 3))) (.lit (.int 0)))) .nil))) (.seq (.ret (.bin .add (.bin .add (.sl (.var 0) .nil (.cons (.var 2) .nil)) (.lst (.cons (.var 6) .nil))) (.sl (.var 0) (.cons (.bin .add (.var 2) (.var 7)) .nil) .nil))) .nop))) .nop) (.seq (.ife (.cmp .eq (.bin .mod (.var 1) (.lit (.int 4))) (.lit (.int 2))) (.seq (.ret (.bin .add (.bin .add (.sl (.var 0) .nil (.cons (.var 2) .nil)) (.lst (.cons (.var 5) .nil))) (.sl (.var 0) (.cons (.bin .add (.var 2) (.lit (.int 1))) .nil) .nil))) .nop) .nop) (.seq (.ret (.bin .add (.bin .add (.sl (.var 0) .nil (.cons (.var 2) .nil)) (.lst (.cons (.var 5) .nil))) (.sl (.var 0) (.cons (.var 2) .nil) .nil))) .nop)))))))
noncomputable def Wj:Fi:=⟨2,8,Ye,a6⟩
noncomputable def Up:Sx:=(.seq (.set 2 (.ix (.ix (.var 0) (.lit (.int 0))) (.bin .mod (.var 1) (.blt .len (.cons (.ix (.var 0) (.lit (.int 0))) .nil))))) (.seq (.set 3 (.call "_law_order" (.cons (.ix (.var 0) (.lit (.int 0))) (.cons (.bin .fdiv (.var 1) (.lit (.int 8))) .nil)))) (.seq (.keep 3) (.seq (.set 4 (.blt .list (.cons (.var 3) .nil))) (.seq (.set 5 (.tup (.cons (.blt .tuple (.cons (.var 3) .nil)) (.cons (.blt .tuple (.cons (.comp [6] (.call "_law_answer" (.cons (.var 0) (.cons (.var 6) .nil))) (.seq (.call "_law_rows" (.cons (.var 3) .nil))) .nil) .nil)) .nil)))) (.seq (.set 7 (.call "put_in_order" (.cons (.var 0) (.cons (.var 4) .nil)))) (.seq (.ife (.or (.not (.call "_law_same" (.cons (.var 7) (.cons (.var 5) .nil)))) (.cmp .ne (.var 4) (.var 3))) (.seq (.ret (.lit (.bl a6))) .nop) .nop) (.seq (.ife (.not (.call "_law_same" (.cons (.call "put_in_order" (.cons (.var 7) (.cons (.ix (.var 0) (.lit (.int 0))) .nil))) (.cons (.var 0) .nil)))) (.seq (.ret (.lit (.bl a6))) .nop) .nop) (.seq (.set 8 (.call "turned_about" (.cons (.var 0) (.cons (.var 2) .nil)))) (.seq (.ife (.not (.call "_law_same" (.cons (.var 8) (.cons (.call "_law_turned" (.cons (.var 0) (.cons (.var 2) .nil))) .nil)))) (.seq (.ret (.lit (.bl a6))) .nop) .nop) (.seq (.ife (.not (.call "_law_same" (.cons (.call "turned_about" (.cons (.var 8) (.cons (.var 2) .nil))) (.cons (.var 0) .nil)))) (.seq (.ret (.lit (.bl a6))) .nop) .nop) (.seq (.ife (.cmp .gt (.bin .mod (.bin .fdiv (.var 1) (.lit (.int 1024))) (.lit (.int 3))) (.lit (.int 0))) (.seq (.ret (.lit (.bl a7))) .nop) .nop) (.seq (.set 9 (.call "_law_faulty" (.cons (.var 3) (.cons (.bin .fdiv (.var 1) (.lit (.int 4096))) .nil)))) (.seq (.set 10 (.comp [11] (.var 11) (.seq (.lst (.cons (.lit (.str "")) (.cons (.lit (.str "q")) (.cons (.lit (.str "zq")) (.cons (.lit (.str "B")) .nil)))))) (.cons (.cmp .notin (.var 11) (.var 3)) .nil))) (.seq (.ret (.and (.cmp .eq (.call "_law_refused" (.cons (.var 0) (.cons (.var 9) (.cons (.lit (.int 0)) .nil)))) (.lst (.cons (.lit (.str "NoPlace")) .nil))) (.cmp .eq (.call "_law_refused" (.cons (.var 0) (.cons (.var 10) (.cons (.lit (.int 1)) .nil)))) (.lst (.cons (.lit (.str "NoPlace")) .nil))))) .nop)))))))))))))))
noncomputable def O4:Fi:=⟨2,12,Up,a6⟩
noncomputable def j3m:Sx:=(.seq (.set 1 (.call "_law_question" (.cons (.var 0) (.cons (.lit (.int 0)) (.cons (.lit (.int 6)) .nil))))) (.seq (.set 2 (.tup (.cons (.ix (.var 1) (.lit (.int 0))) (.cons (.blt .tuple (.cons (.comp [3] (.bin .sub (.lit (.int 1)) (.var 3)) (.seq (.ix (.var 1) (.lit (.int 1)))) .nil) .nil)) .nil)))) (.seq (.ife (.or (.not (.call "_law_same" (.cons (.call "denied" (.cons (.var 1) .nil)) (.cons (.var 2) .nil)))) (.not (.call "_law_same" (.cons (.call "denied" (.cons (.var 2) .nil)) (.cons (.var 1) .nil))))) (.seq (.ret (.lit (.bl a6))) .nop) .nop) (.seq (.loop [4] (.seq (.bin .add (.lst (.cons (.call "_law_cell" (.cons (.var 0) (.cons (.lit (.int 3)) .nil))) .nil)) (.sl (.var 0) (.cons (.lit (.int 4)) .nil) (.cons (.lit (.int 14)) .nil)))) (.seq (.ife (.not (.call "_law_right" (.cons (.var 1) (.cons (.var 4) .nil)))) (.seq (.ret (.lit (.bl a6))) .nop) .nop) .nop)) (.seq (.ret (.lit (.bl a7))) .nop)))))
noncomputable def j39:Fi:=⟨1,5,j3m,a6⟩
noncomputable def tbl:List (ah×Fi):=("rows_of",Ue)::("row_number",V2)::("refuse_wrong_size",Ju)::("all_choices",fP_all_choices)::("number_of",Vl)::("answer_to",Vm)::("denied",Wh)::("turned_about",Jc)::("put_in_order",Jd)::("spot_of",Z2)::("exchanged_at",Z3)::("picked",Wg)::("refuse_other_order",zp)::("_law_cell",fL_cell)::("_law_words",fL_words)::("_law_bit",fL_bit)::("_law_question",fL_question)::("_law_kinds",j00)::("_law_same",fL_same)::("_law_order",O5)::("_law_answer",Wl)::("_law_rows",Fp)::("_law_turned",Wi)::("_law_refused",Z4)::("_law_faulty",Wj)::("_law_right",O4)::("law",j39)::[]
noncomputable def T(x:ah):Option Fi:=tbl.lookup x
noncomputable def gs:List (ah×D):=[("FEWEST_PLACES",.int 1),("MOST_PLACES",.int 6),("ANSWERS",.tup [.int 0,.int 1])]
noncomputable def xs:List (ah×List D):=[("WrongSize",[.str "WrongSize"]),("NoAsk",[.str "NoAsk"]),("NoWord",[.str "NoWord"]),("Twice",[.str "Twice"]),("WrongAnswers",[.str "WrongAnswers"]),("Unlike",[.str "Unlike"]),("NoPlace",[.str "NoPlace"]),("NoText",[.str "NoPlan or NoText"]),("WrongPrices",[.str "WrongPrices or WrongWeights"]),("WrongWeights",[.str "WrongPrices or WrongWeights"]),("NoPlan",[.str "NoPlan or NoText"])]
noncomputable def qs:List ah:=[]
noncomputable abbrev G:ah->Option D:=Gof gs a7 xs qs
end K09
end
section
open PySem PySem.Spec PyProof.Rows L2
local macro_rules | `(tactic| walk_at "vis")=>`(tactic| first | exact Or.inl rfl | exact Or.inr (Or.inl rfl) | exact Or.inr (Or.inr rfl))
local macro_rules | `(tactic| walk_at "loc")=>`(tactic| first | exact Or.inl rfl | exact Or.inr rfl)
local macro_rules | `(tactic| walk_at "cap")=>`(tactic| repeat (first | exact rfl | refine ⟨_,_,rfl,by rfl,by rfl,by rfl,by rfl,?_⟩))
local macro_rules | `(tactic| walk_at "ts")=>`(tactic| first
 |exact Tr.int|exact Tr.bl|exact Tr.str
 |exact Tr.var (by rfl) (by walk_at "vis") (by decide) (by decide)|exact Tr.glob (by rfl) (by decide) (by decide)
 |refine Tr.bin ?_ ?_|refine Tr.cmp (by rfl) ?_ ?_|refine Tr.bcmp (by rfl) ?_ ?_|refine Tr.isN ?_|refine Tr.bisN ?_|refine Tr.isNN ?_|refine Tr.bisNN ?_
 |refine Tr.and ?_ ?_|refine Tr.or ?_ ?_|refine Tr.one ?_|refine Tr.not ?_
 |refine Tr.wand ?_ ?_|refine Tr.wor ?_ ?_|refine Tr.wand1 ?_|refine Tr.wor1 ?_|refine Tr.bw ?_|refine Tr.bnot ?_
 |exact Tr.nil|refine Tr.cons (by rfl) ?_ ?_|refine Tr.tup ?_|refine Tr.lst ?_
 |refine Tr.ix (by intro _ _;rfl) ?_ ?_|exact Tr.oN|refine Tr.oS ?_|refine Tr.sl ?_ ?_ ?_
 |refine Tr.max (by rfl) (by rfl) ?_|refine Tr.max1 (by rfl) (by rfl) ?_
 |refine Tr.call (by rfl) (by decide) (by rfl) (by rfl) ?_
 |refine Tr.dix (by intro _ _;rfl) ?_ ?_|refine Tr.tix (by rfl) (by rfl) (by rfl) (by rfl) ?_ ?_|refine Tr.srt (by rfl) (by rfl) ?_|refine Tr.len (by rfl) ?_|refine Tr.tuple (by rfl) ?_|refine Tr.list (by rfl) ?_|refine Tr.min (by rfl) (by rfl) ?_
 |refine Tr.sum (by rfl) (by rfl) ?_|refine Tr.intc (by rfl) ?_|refine Tr.join (by rfl) (by rfl) (by rfl) (by rfl) ?_|refine Tr.enum (by rfl) (by rfl) ?_
 |refine Tr.isi1 (by decide) (by decide +kernel) (by rfl) (by rfl) (by decide) (by decide) (by rfl) ?_
 |refine Tr.isi2 (by decide) (by decide) (by decide +kernel) (by decide +kernel) (by rfl) (by rfl) (by rfl) (by decide) (by decide) (by decide) (by decide) (by rfl) ?_
 |exact Tr.c0|refine Tr.c1 ?_
 |refine Tr.comp1 (by rfl) (by rfl) (by rfl) (by rfl) (by rfl) (by intro _;rfl) ?_ ?_ ?_
 |refine Tr.comp2 (by rfl) (by decide) (by rfl) (by rfl) (by rfl) (by rfl) (by rfl) (by rfl) (by intro _;rfl) ?_ ?_ ?_
 |refine Tr.seq ?_|refine Tr.range (by rfl) ?_
 |exact Tr.p0|refine Tr.pC ?_|refine Tr.pR ?_ ?_|refine Tr.pF (by rfl) ?_ ?_|refine Tr.fst ?_
 |exact Tr.isxV (by rfl) (by walk_at "vis") (by decide) (by decide) (by rfl) (by rfl) (by rfl)
 |exact Tr.isx1 (by decide) (by decide) (by rfl) (by walk_at "vis") (by decide) (by decide) (by rfl) (by rfl) (by decide) (by rfl)
 |exact Tr.isx2 (by decide) (by decide) (by decide) (by decide) (by rfl) (by walk_at "vis") (by decide) (by decide) (by rfl) (by rfl) (by rfl) (by decide) (by decide) (by rfl)
 |refine Tr.bval (by intro _;rfl) ?_
 |refine' Ts.lend (by rfl) (by decide) (by rfl) (by rfl) (by walk_at "loc") (by walk_at "loc") (by exact aU rfl) (by exact aU rfl) (by intro _;rfl) (by rfl) (by rfl) (by rfl) (by walk_at "vis") (by decide) (by decide) (by rfl) (by rfl) ?_ ?_|refine' Ts.lent (by rfl) (by walk_at "loc") (by walk_at "vis") (by exact aU rfl) (by decide) (by decide) (by rfl) (by rfl) (by rfl) ?_ ?_ ?_ ?_ ?_|refine TMt.set (by rfl) (by walk_at "loc") (by rfl) (by exact aU rfl) ?_ ?_|refine TMt.ife ?_ ?_ ?_ ?_|exact TMt.nil|exact TMs.nil|exact TMs.fail|refine TMs.set (by rfl) (by walk_at "loc") (by rfl) (by exact aU rfl) ?_ ?_|refine TMs.ife ?_ ?_ ?_ ?_|exact⟨rfl,rfl,rfl,λ_ _=>rfl⟩
 |exact Ts.nil|refine Ts.fgt ?_|refine Ts.keep ?_|refine Ts.smk (by rfl) (by rfl) (by walk_at "loc") (by exact aU rfl) (by decide) (by decide) (by decide) (by rfl) (by rfl) (by walk_at "loc") (by walk_at "loc") (by exact aU rfl) (by exact aU rfl) (by rfl) (by rfl) (by intro _;rfl) ?_ ?_ ?_ ?_
 |refine Ts.turn (by rfl) (by rfl) (by walk_at "loc") (by exact aU rfl) (by decide) (by decide) (by rfl) (by intro _;rfl) (by rfl) (by walk_at "vis") (by decide) (by decide) (by rfl) (by rfl) (by rfl) (by rfl) (by rfl) ?_ ?_ ?_ ?_ ?_
 |refine Ts.cons ?_ ?_|exact Ts.pass|exact Ts.doc|exact Ts.fail
 |exact Ts.mov (by rfl) (by rfl) (by walk_at "loc") (by exact aU rfl) (by walk_at "vis") (by decide) (by decide)
 |refine Ts.setC1 (by rfl) (by rfl) (by walk_at "loc") (by exact aU rfl) (by rfl) (by rfl) (by rfl) (by rfl) (by rfl) (by intro _;rfl) ?_ ?_ ?_
 |refine Ts.setC2 (by rfl) (by rfl) (by walk_at "loc") (by exact aU rfl) (by rfl) (by decide) (by rfl) (by rfl) (by rfl) (by rfl) (by rfl) (by rfl) (by intro _;rfl) ?_ ?_ ?_
 |refine Ts.set (by rfl) (by walk_at "loc") (by rfl) (by exact aU rfl) ?_
 |exact Ts.retV (by rfl) (by walk_at "vis") (by decide) (by decide)|refine Ts.ret ?_
 |refine Ts.ife ?_ ?_ ?_|refine Ts.for1 (by rfl) (by rfl) (by walk_at "loc") (by exact aU rfl) (by intro _;rfl) ?_ ?_
 |refine Ts.apop (by rfl) (by walk_at "vis") (by decide) (by decide) (by rfl) (by walk_at "vis") (by decide) (by decide) (by rfl) (by rfl) (by rfl) (by rfl) (by rfl) (by rfl) (by rfl) (by rfl) (by rfl) ?_
 |refine Ts.app (by rfl) (by walk_at "vis") (by decide) (by decide) (by rfl) (by rfl) (by rfl) (by rfl) ?_
 |refine Ts.ext (by rfl) (by walk_at "vis") (by decide) (by decide) (by rfl) (by rfl) (by rfl) (by rfl) ?_
 |refine Ts.raise (by rfl) (by rfl) (by decide) (by rfl) ?_
 |refine Ts.tryK (by rfl) (by rfl) (by rfl) (by rfl) (by rfl) (by rfl) (by rfl) (by decide) (by decide) (by rfl) (by walk_at "loc") (by exact aU rfl) (by exact aU rfl) (by rfl) (by rfl) (by rfl) ?_
 |refine Ts.expr (by rfl) ?_
 |refine MD.fill (by rfl) (by rfl) (by rfl) (by walk_at "vis") (by walk_at "vis") (by walk_at "loc") (by exact aU rfl) (by decide) (by decide) (by decide) (by decide) (by decide) (by decide) (by with_unfolding_all rfl) (by rfl) (by rfl) (by intro _ _;rfl) (by intro _ _;rfl) (by rfl) (by decide) (by rfl) (by rfl) ?_ ?_ ?_
 |refine MD.minc ?_ ⟨by rfl,by rfl,by walk_at "vis",by decide,by decide,by rfl,by rfl,by rfl,by rfl,by intro _;rfl,by rfl,by decide,by decide,by decide,by intro _ _ _ _ _;walk_at "vis",by intro _ _ _ _ _;rfl,by intro _ _ _ _ _;rfl,by intro _ _ _ _ _;rfl,?_⟩ (by rfl) (by rfl) (by intro _ _ _ _ _;rfl) (by intro _ _ _ _ _;rfl) ?_
 |refine MD.maxc ?_ ⟨by rfl,by rfl,by walk_at "vis",by decide,by decide,by rfl,by rfl,by rfl,by rfl,by intro _;rfl,by rfl,by decide,by decide,by decide,by intro _ _ _ _ _;walk_at "vis",by intro _ _ _ _ _;rfl,by intro _ _ _ _ _;rfl,by intro _ _ _ _ _;rfl,?_⟩ (by rfl) (by rfl)
 |refine SetT.cmp (by rfl) (by rfl) (by walk_at "loc") (by exact aU rfl) (by rfl) (by rfl) (by rfl) (by rfl) (by rfl) (by intro _;rfl) ?_ ?_ ?_
 |refine SetT.e (by rfl) (by walk_at "loc") (by rfl) (by exact aU rfl) ?_
 |exact MP.nop|refine MP.keep (by decide) ?_
 |refine MP.setC (by decide) (by rfl) (by rfl) (by walk_at "loc") (by exact aU rfl) (by rfl) (by rfl) (by rfl) (by rfl) (by rfl) (by intro _;rfl) ?_ ?_ ?_ ?_
 |refine MP.set (by decide) (by rfl) (by walk_at "loc") (by rfl) (by exact aU rfl) ?_ ?_
 |refine MP.ret ?_|refine MP.ifRet ?_ ?_ ?_
 |refine MP.ifAll (by rfl) (by rfl) (by decide) (by rfl) (by rfl) (by walk_at "vis") (by decide) (by decide) (by exact⟨_,rfl⟩) (by intro _;rfl) ?_ ?_
 |refine MP.ifRai (by rfl) (by rfl) (by decide) (by rfl) ?_ ?_ ?_
 |refine MP.takeIf (by decide) (by rfl) (by walk_at "vis") (by decide) (by decide) (by exact⟨_,rfl⟩) (by rfl) (by walk_at "loc") (by rfl) (by exact aU rfl) ?_ ?_ ?_
 |refine MP.take (by decide) (by rfl) (by walk_at "vis") (by decide) (by decide) (by exact⟨_,rfl⟩) (by rfl) (by walk_at "loc") (by rfl) (by exact aU rfl) ?_
 |refine MP.takeE (by rfl) (by walk_at "vis") (by decide) (by decide) (by exact⟨_,rfl⟩) (by rfl) ?_
 |refine MP.callS (by decide) (by exact⟨_,_,_,_,rfl,by rfl,by walk_at "vis",by decide,by decide,by rfl,by decide,by rfl,by rfl⟩) (by rfl) (by walk_at "loc") (by rfl) (by exact aU rfl) ?_ ?_
 |refine MP.ifCal (by exact⟨_,_,_,_,rfl,by rfl,by walk_at "vis",by decide,by decide,by rfl,by decide,by rfl,by rfl⟩) ?_ ?_ ?_
 |refine MP.appC (by decide) (by exact⟨_,_,_,_,rfl,by rfl,by walk_at "vis",by decide,by decide,by rfl,by decide,by rfl,by rfl⟩) (by rfl) (by walk_at "vis") (by decide) (by decide) (by rfl) (by rfl) (by rfl) (by rfl) (by rfl) ?_ ?_
 |refine MP.whlA (by rfl) (by walk_at "vis") (by decide) (by decide) (by exact⟨_,rfl⟩) ?_ ?_
 |intro C s H fp pn xe
 |intro C s H fp pn
 |intro pn xe)
local macro_rules | `(tactic| walk_at "bnd")=>`(tactic| (intro _ _ _ _ _ _ us hl; first | (obtain ⟨_,e⟩:=us1 hl; subst e; rfl) | (obtain ⟨_,_,e⟩:=us2 hl; subst e; rfl) | (obtain ⟨_,_,_,e⟩:=us3 hl; subst e; rfl)))
local macro_rules | `(tactic| walk_at "sc")=>`(tactic| exact ⟨rfl,rfl,rfl,by decide +kernel,rfl,by decide +kernel,by decide +kernel⟩)
local macro_rules | `(tactic| walk_at "lk")=>`(tactic| first | walk_at "sc" | walk_at "bnd" | decide)
namespace K09
section
variable{P:ar}{w:aA}{K:k83}{mg:k86}{base:aG}
theorem j0m:TrT P w K mg base "rows_of" ["many"] (top 17) V9:=by
 intro f cdv A outer s H E xe;unfold V9
 repeat' (walk_at "ts")
theorem Nk:TrT P w K mg base "row_number" ["row"] (top 18) Qm:=by
 intro f cdv A outer s H E xe;unfold Qm
 repeat' (walk_at "ts")
theorem Yt:TrT P w K mg base "refuse_wrong_size" ["many"] (top 19) vz:=by
 intro f cdv A outer s H E xe;unfold vz
 repeat' (walk_at "ts")
theorem Oh:TrT P w K mg base "all_choices" ["figures_by_spot","chosen","figures","longer","ahead","figure"] (top 20) J1:=by
 intro f cdv A outer s H E xe;unfold J1
 repeat' (walk_at "ts")
theorem Lb:TrT P w K mg base "number_of" ["figures","base","number","figure"] (top 21) Za:=by
 intro f cdv A outer s H E xe;unfold Za
 repeat' (walk_at "ts")
theorem Ld:TrT P w K mg base "answer_to" ["question","row"] (top 23) Zb:=by
 intro f cdv A outer s H E xe;unfold Zb
 repeat' (walk_at "ts")
theorem j2f:TrT P w K mg base "denied" ["question","answer"] (top 24) Yc:=by
 intro f cdv A outer s H E xe;unfold Yc
 repeat' (walk_at "ts")
theorem Mj:TrT P w K mg base "turned_about" ["question","place","spot","rows","row"] (top 25) Jf:=by
 intro f cdv A outer s H E xe;unfold Jf
 repeat' (walk_at "ts")
theorem Ml:TrT P w K mg base "put_in_order" ["question","places","spots","place","rows","row"] (top 26) Jg:=by
 intro f cdv A outer s H E xe;unfold Jg
 repeat' (walk_at "ts")
theorem j0l:TrT P w K mg base "spot_of" ["question","place"] (top 27) Z9:=by
 intro f cdv A outer s H E xe;unfold Z9
 repeat' (walk_at "ts")
theorem Mm:TrT P w K mg base "exchanged_at" ["row","spot"] (top 28) Q3:=by
 intro f cdv A outer s H E xe;unfold Q3
 repeat' (walk_at "ts")
theorem j2e:TrT P w K mg base "picked" ["row","spots","spot"] (top 29) Yb:=by
 intro f cdv A outer s H E xe;unfold Yb
 repeat' (walk_at "ts")
theorem Yj:TrT P w K mg base "refuse_other_order" ["places","order"] (top 30) zx:=by
 intro f cdv A outer s H E xe;unfold zx
 repeat' (walk_at "ts")
theorem j6r:TrT P w K mg base "_law_cell" ["_law_script","_law_k","_law_spare"] (top 32) Vd:=by
 intro f cdv A outer s H E xe;unfold Vd
 repeat' (walk_at "ts")
theorem j3z:TrT P w K mg base "_law_words" ["_law_cell_here","_law_many","_law_letters","_law_long","_law_k","_law_start","_law_size","_law_stem","_law_at"] (top 33) Qq:=by
 intro f cdv A outer s H E xe;unfold Qq
 repeat' (walk_at "ts")
theorem jau:TrT P w K mg base "_law_bit" ["_law_row","_law_kind","_law_cell_here","_law_some","_law_k","_law_kept","_law_by_row","_law_one","_law_mixed"] (top 34) U3:=by
 intro f cdv A outer s H E xe;unfold U3
 repeat' (walk_at "ts")
theorem Kf:TrT P w K mg base "_law_question" ["_law_script","_law_at","_law_most","_law_many","_law_places","_law_kind","_law_answers","_law_number","_law_row","_law_k"] (top 35) Jy:=by
 intro f cdv A outer s H E xe;unfold Jy
 repeat' (walk_at "ts")
theorem j42:TrT P w K mg base "_law_kinds" ["_law_e","_law_some"] (top 36) Vq:=by
 intro f cdv A outer s H E xe;unfold Vq
 repeat' (walk_at "ts")
theorem j43:TrH P w K mg base "_law_kinds" ["_law_e","_law_some"] (top 36) Vq:=by
 intro f cdv A outer s H;unfold Vq
 repeat' (walk_at "ts")
theorem j6p:TrT P w K mg base "_law_same" ["_law_found","_law_due","_law_unlike","_law_k"] (top 37) Zk:=by
 intro f cdv A outer s H E xe;unfold Zk
 repeat' (walk_at "ts")
theorem j41:TrT P w K mg base "_law_order" ["_law_places","_law_cell_here","_law_left","_law_order_here","_law_draw","_law_k"] (top 38) Uq:=by
 intro f cdv A outer s H E xe;unfold Uq
 repeat' (walk_at "ts")
theorem j2i:TrT P w K mg base "_law_answer" ["_law_question_here","_law_by_place","_law_number","_law_place"] (top 39) Yg:=by
 intro f cdv A outer s H E xe;unfold Yg
 repeat' (walk_at "ts")
theorem j6q:TrT P w K mg base "_law_rows" ["_law_places","_law_rows_here","_law_number","_law_by_place","_law_k","_law_place"] (top 40) Ry:=by
 intro f cdv A outer s H E xe;unfold Ry
 repeat' (walk_at "ts")
theorem j2g:TrT P w K mg base "_law_turned" ["_law_question_here","_law_place","_law_answers","_law_row"] (top 41) Yd:=by
 intro f cdv A outer s H E xe;unfold Yd
 repeat' (walk_at "ts")
theorem j0n:TrT P w K mg base "_law_refused" ["_law_question_here","_law_some","_law_way","_law_kinds_here","_law_e"] (top 42) Zd:=by
 intro f cdv A outer s H E xe;unfold Zd
 repeat' (walk_at "ts")
theorem j2h:TrT P w K mg base "_law_faulty" ["_law_order_here","_law_cell_here","_law_at","_law_words_here","_law_word","_law_strange","_law_again","_law_gone"] (top 43) Ye:=by
 intro f cdv A outer s H E xe;unfold Ye
 repeat' (walk_at "ts")
theorem j40:TrT P w K mg base "_law_right" ["_law_question_here","_law_cell_here","_law_place","_law_order_here","_law_handed","_law_due","_law_row","_law_found","_law_turned_here","_law_bad","_law_strange","_law_word"] (top 44) Up:=by
 intro f cdv A outer s H E xe;unfold Up
 repeat' (walk_at "ts")
theorem j9l:TrT P w K mg base "law" ["_law_script","_law_question_here","_law_due","_law_one","_law_cell_here"] (top 45) j3m:=by
 intro f cdv A outer s H E xe;unfold j3m
 repeat' (walk_at "ts")
end
set_option maxHeartbeats 0 in
theorem head {l:dj} {w:aA} {K:k83} {h:aG} {mg:k86} {fa:ae} (X:K.In h) (Gn:h.Ns aq mg) (hfa:mg "law" = a5 (.ref fa))
  (h0:Lf K "rows_of" (top 17))
  (h1:Lf K "row_number" (top 18))
  (h2:Lf K "refuse_wrong_size" (top 19))
  (h3:Lf K "all_choices" (top 20))
  (h4:Lf K "number_of" (top 21))
  (h5:Lf K "answer_to" (top 23))
  (h6:Lf K "denied" (top 24))
  (h7:Lf K "turned_about" (top 25))
  (h8:Lf K "put_in_order" (top 26))
  (h9:Lf K "spot_of" (top 27))
  (h10:Lf K "exchanged_at" (top 28))
  (h11:Lf K "picked" (top 29))
  (h12:Lf K "refuse_other_order" (top 30))
  (h13:Lf K "_law_cell" (top 32))
  (h14:Lf K "_law_words" (top 33))
  (h15:Lf K "_law_bit" (top 34))
  (h16:Lf K "_law_question" (top 35))
  (h17:Lf K "_law_kinds" (top 36))
  (h18:Lf K "_law_same" (top 37))
  (h19:Lf K "_law_order" (top 38))
  (h20:Lf K "_law_answer" (top 39))
  (h21:Lf K "_law_rows" (top 40))
  (h22:Lf K "_law_turned" (top 41))
  (h23:Lf K "_law_refused" (top 42))
  (h24:Lf K "_law_faulty" (top 43))
  (h25:Lf K "_law_right" (top 44))
  (h26:Lf K "law" (top 45))
  (bz:bOk K=a7) {ts:List ae} (tz:tOk K ts=a7)
  {gt0:jG} {gt1:jG} {gt3:jG} {gt4:jG} {ga2:ae} {ga2n:Nat} {ga2s:Array (Option aa)}
  (gn0:fP K aq "FEWEST_PLACES" = a5 (a5 (.int 1 gt0))) (gn1:fP K aq "MOST_PLACES" = a5 (a5 (.int 6 gt1))) (ga2l:K.lookup ga2=a5 ⟨.type "tuple",a8,.seq #[.int 0 gt3,.int 1 gt4] ga2n,ga2s⟩) (gn2:fP K aq "ANSWERS" = a5 (a5 (.ref ga2)))
  (exa:Qg K=a7)
  (xz:xOk K=a7)
  {fu n:Nat} (hlaw:∀ns:List Int,ns.length<=63->evP fu G T (n+1) "law" [.lst (ns.map D.int)]=.val (.bl a7)) :
  ∃fd:aJ,(∀(s:af)(v:aa),g6 s fd ⟨[v],[]⟩ [("_law_script",v)])/\∀base:aG,K.In base->base.Ns aq mg->FnOk l.prog w K mg base CX0 (lv (n+1)) fa fd ["_law_script"] (Lq K):=by
 have hL:=h26;obtain⟨f,oc,od,kV,dc,pm,an,cd,ct,sl,a,lk,c,k⟩:=hL;have e:=hfa.symm.trans (dZ X Gn a);cases e;refine⟨PySem.W.fnOf "law" "law" (z9 (top 45)) (jc (top 45)) (j0 (top 45)) .none kV dc pm an cd ct,λs v=>.of_eq rfl,λbase hKb hNb=>?_⟩;have hT:∀x F,T x=a5 F->LkF l.prog w K mg base x F:=λx F hx=>by
  have all:∀p∈tbl,LkF l.prog w K mg base p.1 p.2:=by
   intro p hp;simp only[tbl,xj,cJ,or_false]at hp;rcases hp with rfl|rfl|rfl|rfl|rfl|rfl|rfl|rfl|rfl|rfl|rfl|rfl|rfl|rfl|rfl|rfl|rfl|rfl|rfl|rfl|rfl|rfl|rfl|rfl|rfl|rfl|rfl
   .refine lkF (z8 h0 X Gn j0m ["many"] ?_ rfl rfl ?_ ?_) rfl ?_ ?_<;>walk_at "lk"
   .refine lkF (z8 h1 X Gn Nk ["row"] ?_ rfl rfl ?_ ?_) rfl ?_ ?_<;>walk_at "lk"
   .refine lkF (z8 h2 X Gn Yt ["many"] ?_ rfl rfl ?_ ?_) rfl ?_ ?_<;>walk_at "lk"
   .refine lkF (z8 h3 X Gn Oh ["figures_by_spot"] ?_ rfl rfl ?_ ?_) rfl ?_ ?_<;>walk_at "lk"
   .refine lkF (z8 h4 X Gn Lb ["figures","base"] ?_ rfl rfl ?_ ?_) rfl ?_ ?_<;>walk_at "lk"
   .refine lkF (z8 h5 X Gn Ld ["question","row"] ?_ rfl rfl ?_ ?_) rfl ?_ ?_<;>walk_at "lk"
   .refine lkF (z8 h6 X Gn j2f ["question"] ?_ rfl rfl ?_ ?_) rfl ?_ ?_<;>walk_at "lk"
   .refine lkF (z8 h7 X Gn Mj ["question","place"] ?_ rfl rfl ?_ ?_) rfl ?_ ?_<;>walk_at "lk"
   .refine lkF (z8 h8 X Gn Ml ["question","places"] ?_ rfl rfl ?_ ?_) rfl ?_ ?_<;>walk_at "lk"
   .refine lkF (z8 h9 X Gn j0l ["question","place"] ?_ rfl rfl ?_ ?_) rfl ?_ ?_<;>walk_at "lk"
   .refine lkF (z8 h10 X Gn Mm ["row","spot"] ?_ rfl rfl ?_ ?_) rfl ?_ ?_<;>walk_at "lk"
   .refine lkF (z8 h11 X Gn j2e ["row","spots"] ?_ rfl rfl ?_ ?_) rfl ?_ ?_<;>walk_at "lk"
   .refine lkF (z8 h12 X Gn Yj ["places","order"] ?_ rfl rfl ?_ ?_) rfl ?_ ?_<;>walk_at "lk"
   .refine lkF (z8 h13 X Gn j6r ["_law_script","_law_k"] ?_ rfl rfl ?_ ?_) rfl ?_ ?_<;>walk_at "lk"
   .refine lkF (z8 h14 X Gn j3z ["_law_cell_here","_law_many"] ?_ rfl rfl ?_ ?_) rfl ?_ ?_<;>walk_at "lk"
   .refine lkF (z8 h15 X Gn jau ["_law_row","_law_kind","_law_cell_here"] ?_ rfl rfl ?_ ?_) rfl ?_ ?_<;>walk_at "lk"
   .refine lkF (z8 h16 X Gn Kf ["_law_script","_law_at","_law_most"] ?_ rfl rfl ?_ ?_) rfl ?_ ?_<;>walk_at "lk"
   .refine lkF (z8 h17 X Gn j42 ["_law_e"] ?_ rfl rfl ?_ ?_) rfl ?_ ?_<;>walk_at "lk"
   .refine lkF (z8 h18 X Gn j6p ["_law_found","_law_due"] ?_ rfl rfl ?_ ?_) rfl ?_ ?_<;>walk_at "lk"
   .refine lkF (z8 h19 X Gn j41 ["_law_places","_law_cell_here"] ?_ rfl rfl ?_ ?_) rfl ?_ ?_<;>walk_at "lk"
   .refine lkF (z8 h20 X Gn j2i ["_law_question_here","_law_by_place"] ?_ rfl rfl ?_ ?_) rfl ?_ ?_<;>walk_at "lk"
   .refine lkF (z8 h21 X Gn j6q ["_law_places"] ?_ rfl rfl ?_ ?_) rfl ?_ ?_<;>walk_at "lk"
   .refine lkF (z8 h22 X Gn j2g ["_law_question_here","_law_place"] ?_ rfl rfl ?_ ?_) rfl ?_ ?_<;>walk_at "lk"
   .refine lkF (z8 h23 X Gn j0n ["_law_question_here","_law_some","_law_way"] ?_ rfl rfl ?_ ?_) rfl ?_ ?_<;>walk_at "lk"
   .refine lkF (z8 h24 X Gn j2h ["_law_order_here","_law_cell_here"] ?_ rfl rfl ?_ ?_) rfl ?_ ?_<;>walk_at "lk"
   .refine lkF (z8 h25 X Gn j40 ["_law_question_here","_law_cell_here"] ?_ rfl rfl ?_ ?_) rfl ?_ ?_<;>walk_at "lk"
   .refine lkF (z8 h26 X Gn j9l ["_law_script"] ?_ rfl rfl ?_ ?_) rfl ?_ ?_<;>walk_at "lk"
  exact all (x,F) (lookup_mem hx)
 have bt:=jjq X Gn bz;have gl:∀x d,gs.lookup x=a5 d->∃u v,mg x=a5 u/\RelV v u/\∀H,Enc K H d v:=by
  intro x d hx;have hm:=lookup_mem hx;simp only[gs,xj,cJ,or_false,Prod.mk.injEq]at hm;rcases hm with ⟨e1,e2⟩|⟨e1,e2⟩|⟨e1,e2⟩
  .subst e1 e2;exact⟨.int 1 gt0,.int 1,dZ X Gn gn0,⟨_,rfl⟩,λ_=>rfl⟩
  .subst e1 e2;exact⟨.int 6 gt1,.int 6,dZ X Gn gn1,⟨_,rfl⟩,λ_=>rfl⟩
  .subst e1 e2;exact⟨.ref ga2,.ref ga2,dZ X Gn gn2,rfl,λH=>⟨ga2,[.int 0,.int 1],rfl,.inr ⟨_,_,_,ga2l,rfl,rfl,rfl,(by show 2<=ak;decide),(.cons ⟨_,rfl⟩ (.cons ⟨_,rfl⟩ .nil))⟩,⟨_,_,rfl,rfl,⟨_,_,rfl,rfl,rfl⟩⟩⟩⟩
 have qn:∀f∈qs,∃fa,mg f=a5 (.ref fa)/\PySem.W.keepIn K (.ref fa)=a7:=by exact λf hf=>nomatch hf
 have el:=jjn xz;have L:LkH l.prog w K mg base "_law_kinds" j00:=jfq h17 X Gn j43 (by walk_at "sc") (by decide) rfl (by walk_at "bnd");have tb:Tb l.prog w K mg base G:=ji3 bt gl exa (λp hp=>by
  have hp:p.1∈jn:=by
   simp only[xs,xj,cJ,or_false]at hp
   rcases hp with rfl|rfl|rfl|rfl|rfl|rfl|rfl|rfl|rfl|rfl|rfl<;>decide
  exact⟨hp,el _ hp⟩
  ) (λ_=>el) hKb hNb qn (λp hp=>by
  simp only[xs,xj,cJ,or_false]at hp
  rcases hp with rfl|rfl|rfl|rfl|rfl|rfl|rfl|rfl|rfl|rfl|rfl
  all_goals exact j0u (fu:=0) L bt exa el hKb hNb (by rfl) (by rfl)) (jiw tz X Gn)
 exact jfr hT tb (F:=j39) (by rfl) rfl hfa (We lk c k) _ (by walk_at "sc") rfl rfl (j9l _) hlaw
end K09
end
open PySem (Str sizeLine argBest)
open L2
namespace K09
open KL KW KV
theorem ja1:T "_law_cell" = a5 KL.fL_cell:=by rfl
theorem j8f:T "all_choices" = a5 KL.fP_all_choices:=by rfl
theorem jgc:T "_law_bit" = a5 KW.fL_bit:=by rfl
theorem gA:G "ANSWERS" = a5 (.tup [.int 0,.int 1]):=by rfl
theorem Qp{b:Int}:∀{m i:Nat}{z:Int},i<m->(jz b m z)[i]?=a5 (z/b^(m-1-i)%b)
 |m+1,0,z,_=>by rw[jz,dE];simp
 |m+1,i+1,z,h=>by rw[jz,Py,Qp nofun];congr 3;congr 1;omega
theorem j0t {fu n m:Nat} {z b:Int} (hm:m<=6) (hb:b=2\/b=3) (hz:0<=z/\z<b^m):evP fu G T (n+1) "number_of" [.tup ((jz b m z).map .int),.int b]=.val (.int z):=by
 rw[jt (F:=Vl) (by rfl) rfl];simp only[Vl,Za,enter];ext;have z0:z/b^m=0:=cC hz.1 hz.2;refine Vi (λi ρ=>∃s3,ρ=[.val (.tup ((jz b m z).map .int)),.val (.int b),.val (.int (z/b^(m-i))),s3]) ⟨.un,by rw[kY,z0]⟩ ?_ ?_
 .rintro i d ρ hi ⟨s3,rfl⟩;obtain⟨v,hv,rfl⟩:=Ud hi;have hlt:i<m:=by have:=(X3.mp hv).1;rw[vh]at this;exact this
  rw[Qp hlt]at hv;cases hv;simp only[Qv];ext;refine⟨_,rfl,?_⟩;have e1:m-i=(m-1-i)+1:=by omega
  have e2:m-(i+1)=m-1-i:=by omega
  have e3:z/b^(m-i)*b+z/b^(m-1-i)%b=z/b^(m-(i+1)):=by rw[e1,e2,<-j8s z b nofun,dR];exact Int.mul_ediv_add_emod _ _
  rw[e3];exact⟨_,rfl⟩
 .rintro ρ' ⟨s3,rfl⟩;ext;simp[vh]
theorem j4j {n m:Nat} {z:Int} (h:1<=m/\m<=6) (hz:0<=z/\z<2^m):evP 1000 G T (n+2) "row_number" [J6 (jz 2 m z)]=.val (.int z):=by
 rw[jt (F:=V2) (by rfl) rfl];simp only[V2,Qm,enter];ext;simp only[gA];ext;have e:evP 1000 G T (n+1) "number_of" [J6 (jz 2 m z),.int 2]=.val (.int z):=j0t h.2 (.inl rfl) hz;have e2:(((0+1+1:Nat):Int))=2:=rfl
 first|rw[e]|(rw[e2,e])
 ext
noncomputable def qD(ws:List ah)(a:List Int):D:=.tup [.tup (ws.map D.str),.tup (a.map D.int)]
theorem j36{p:List Int}{k:Nat}(h:k<p.length):atI (p.map D.int) (k:Int)=a5 (.int (p.getD k 0)):=by
 have:=j1v h
 rwa [c9]at this
theorem j12 {n m k:Nat} {ws:List ah} {a:List Int} (hm:1<=m/\m<=6) (ha:a.length=2^m) (hk:k<2^m):evP 1000 G T (n+3) "answer_to" [qD ws a,J6 (jz 2 m (k:Int))]=.val (.int (a.getD k 0)):=by
 rw[jt (F:=Vm) (by rfl) rfl];simp only[Vm,Zb,enter,qD];have pc:((2^m:Nat):Int)=(2:Int)^m:=by simp
 have i1:atI [D.tup (ws.map D.str),.tup (a.map D.int)] 1=a5 (.tup (a.map D.int)):=rfl;ext;erw[i1,j4j (n:=n) hm nofun,j36 nofun]
theorem at0(a b:D):atI [a,b] 0=a5 a:=rfl
theorem at1(a b:D):atI [a,b] 1=a5 b:=rfl
theorem gF:G "FEWEST_PLACES" = a5 (.int 1):=by rfl
theorem gM:G "MOST_PLACES" = a5 (.int 6):=by rfl
theorem j4l {fu n:Nat} {m:Int} (h:1<=m/\m<=6):evP fu G T (n+1) "refuse_wrong_size" [.int m]=.val .non:=by rw[jt (F:=Ju) (by rfl) rfl];simp only[Ju,vz,enter];ext;simp only[gF];ext;simp only[gM];ext
theorem j1e {fu n m:Nat} (h:1<=m/\m<=6):evP fu G T (n+2) "rows_of" [.int m]=.fresh (Jl (Qy m)):=by
 rw[jt (F:=Ue) (by rfl) rfl];simp only[Ue,V9,enter];ext;rw[j4l (n:=n) nofun];ext;simp only[gA];have hrep:(ao (m:Int).toNat [D.tup [.int 0,.int 1]]).flatten=Jl (ao m [0,1]):=by
  rw[Xe];have:∀k:Nat,(ao k [D.tup [.int 0,.int 1]]).flatten=Jl (ao k [0,1]):=by
   intro k;induction k with
   |zero=>rfl
   |succ k ih=>rw[P0,Tn,ih];rfl
  exact this m
 ext;rw[hrep,j0a j8f (λf hf=>by rw[(T6.mp hf).2];decide) (by rw[dW];omega)];ext;have hc:zu (ao m [0,1])=Qy m:=by
  rw[j3j];have:∀k:Nat,U7 (ao k [0,1])=Qy k:=by
   intro k;induction k with
   |zero=>rfl
   |succ k ih=>rw[P0,U7,ih,Qy];simp
  exact this m
 rw[hc]
theorem Qa(a:List ah):D.depL (a.map D.str)<=90:=by
 induction a with
 |nil=>simp[D.depL]
 |cons x a ih=>rw[xx,D.depL];simp[D.dep];exact ih
theorem Er:∀{ws:List ah}{p:ah},p∈ws->ixD (.str p) (ws.map D.str)=a5 (ws.idxOf p)
 |[],p,h=>by cases h
 |w::ws,p,h=>by
  unfold ixD;rw[xx];dsimp only;rw[By];by_cases z:w=p
  .subst z;simp
  .have z':(w==p)=a6:=by simpa using z
   rw[z',if_neg (by simp),Er (by simpa [bT z]using h),jL,z'];rfl
theorem Vz{ws:List ah}{p:ah}(s:List D->D)(hs:s=D.tup\/s=D.lst):Jj .notin (.str p) (s (ws.map D.str))=a5 (!ws.contains p):=by
 have e:((ws.map D.str).any λe=>deq e (.str p))=ws.contains p:=by
  induction ws with
  |nil=>rfl
  |cons x ws ih=>rw[xx,tu,ih,By,List.contains_cons,Bool.beq_comm]
 have hd:=Qa ws;rcases hs with z|z<;>subst z<;>simp only[Jj,D.sqv]<;>rw[if_pos ⟨hd,by simp[D.dep]⟩,e]
theorem jkb{ws:List ah}{p:ah}(hp:p∈ws):Uy (a5 (.v (.e (.tup (ws.map D.str))))) (a5 (.v (.e (.str p))))=a5 (.v (.e (.int ((ws.idxOf p:Nat):Int)))):=by
 have hdl:D.depL (ws.map D.str)<=90/\(D.str p).dep<=90:=⟨Qa ws,by simp[D.dep]⟩
 simp only[Uy,Rk.d,if_pos hdl,Er hp];rfl
theorem jb2 {fu n:Nat} {ws:List ah} {a:List Int} {p:ah} (hp:p∈ws):evP fu G T (n+1) "spot_of" [qD ws a,.str p]=.val (.int ((ws.idxOf p:Nat):Int)):=by rw[jt (F:=Z2) (by rfl) rfl];simp only[Z2,Z9,enter,qD];have hc:ws.contains p=a7:=Pb.mpr hp;ext;rw[at0];ext;rw[Vz _ (.inl rfl),hc];ext;erw[at0,jkb hp]
noncomputable def rv(ws:List ah)(r:List Int)(p:ah):Int:=r.getD (ws.idxOf p) 0
theorem O7:∀{ws:List ah}{r:List Int}{p:ah},p∈ws->ws.length=r.length->dval (ws.zip r) p=a5 (rv ws r p)
 |[],_,p,h,_=>by cases h
 |w::ws,[],p,_,h=>by simp at h
 |w::ws,x::r,p,h,hl=>by
  unfold dval rv;rw[List.zip_cons_cons,Th,jL];by_cases z:w=p
  .subst z;simp
  .have z':(w==p)=a6:=by simpa using z
   have ih:=O7 (ws:=ws) (r:=r) (p:=p) (by simpa [bT z]using h) (by simpa using hl);unfold dval rv at ih;simp only[decide_eq_false z,z',cond_false];rw[ih];simp
theorem j8t{kvs:List (ah×Int)}{k p:ah}{n:Int}:dval (dput kvs k n) p=if p=k then a5 n else dval kvs p:=by
 unfold dput;by_cases h:Yr kvs k=a7
 .rw[if_pos h];induction kvs with
  |nil=>cases h
  |cons q kvs ih =>
   unfold dval at *;rw[xx,Th,Th];by_cases z:q.1=k
   .rw[if_pos z];by_cases y:p=k
    .subst y;simp[z]
    .have y1:¬q.1=p:=λe=>y (e.symm.trans z);simp only[decide_eq_false y1,if_neg y];clear ih h;induction kvs with
     |nil=>rfl
     |cons u kvs ih2 =>
      rw[xx,Th,Th];by_cases x:u.1=k
      .rw[if_pos x];have x1:¬u.1=p:=λe=>y (e.symm.trans x);simp only[decide_eq_false x1];exact ih2
      .rw[if_neg x];by_cases x2:u.1=p
       .simp[x2]
       .simp only[decide_eq_false x2];exact ih2
   .rw[if_neg z];have h':Yr kvs k=a7:=by unfold Yr at h ⊢;rw[tu,decide_eq_false z,eP]at h;exact h
    by_cases y:q.1=p
    .have y1:¬p=k:=λe=>z (y.trans e);simp[y,y1]
    .simp only[decide_eq_false y];exact ih h'
 .rw[if_neg h];unfold dval;rw[List.find?_append];by_cases y:p=k
  .subst y;rw[if_pos rfl];have hn:kvs.find? (λq=>decide (q.1=p))=a8:=by rw[iD];intro q hq hc;refine h ?_;unfold Yr;exact List.any_eq_true.mpr ⟨q,hq,hc⟩
   rw[hn];simp
  .rw[if_neg y];cases e:kvs.find? (λq=>decide (q.1=p)) with
   |none =>have:¬k=p:=λz=>y z.symm;simp[this]
   |some q=>rfl
theorem Wm:∀a b:List ah,zb (a.map D.str) (b.map D.str)=decide (a=b)
 |[],[]=>by simp[zb]
 |[],_::_=>by simp[zb]
 |_::_,[]=>by simp[zb]
 |x::a,y::b=>by rw[xx,xx,zb,Wm a b,show deq (.str x) (.str y)=(x==y) from rfl];by_cases h1:x=y<;>by_cases h2:a=b<;>simp[h1,h2]
theorem j5v{l:List D}{k:Nat}(h:k<=l.length):cutD l a8 (a5 (k:Int))=l.take k:=by unfold cutD;rw[HT.sIx_none,HT.sIx_nat,Tw,kY,jS h]
theorem j05{l:List D}{k:Nat}(h:k<=l.length):cutD l (a5 (k:Int)) a8=l.drop k:=by unfold cutD;rw[HT.sIx_none,HT.sIx_nat,jS h,ph (by rw[Pj];omega)]
noncomputable def vl:List Int->Int
 |[]=>0
 |x::r=>x*2^r.length+vl r
theorem Lj:∀{r:List Int},(∀x∈r,x=0\/x=1)->0<=vl r/\vl r<2^r.length
 |[],_=>by simp[vl]
 |x::r,h=>by have ih:=Lj (r:=r) λy hy=>h y (km _ hy);have p:(0:Int)<2^r.length:=dm (by decide);rw[vl,X4,dQ];rcases h x (xm ..)with z|z<;>rw[z]<;>omega
theorem j1y:∀{r:List Int},(∀x∈r,x=0\/x=1)->jz 2 r.length (vl r)=r
 |[],_=>rfl
 |x::r,h=>by
  have h':=λy hy=>h y (km _ hy);have ih:=j1y (r:=r) h';have bd:=Lj (r:=r) h';have p:(0:Int)<2^r.length:=dm (by decide);rw[X4,jz,vl];congr 1
  .rw[i0,Int.add_mul_ediv_right _ _ nofun,cC bd.1 bd.2,c9];rcases h x (xm ..)with z|z<;>rw[z]<;>rfl
  .rw[show x*2^r.length+vl r=vl r+2^r.length*x from by rw[dR,i0],Uh (by decide) _ _ (X5 _),ih]
theorem Nh:∀(m:Nat)(z:Int),0<=z->z<2^m->vl (jz 2 m z)=z:=by
  intro m;induction m with
  |zero=>intro z h1 h2;simp at h2;rw[jz,vl];omega
  |succ m ih =>
   intro z h1 h2;have p:(0:Int)<2^m:=dm (by decide);rw[dQ]at h2;have e:z=z%2^m+2^m*(z/2^m):=(Int.emod_add_mul_ediv z (2^m)).symm;have q1:0<=z/2^m:=Int.ediv_nonneg h1 nofun
   have q2:z/2^m<2:=Int.ediv_lt_of_lt_mul p nofun
   have d1:jz 2 m z=jz 2 m (z%2^m):=by
    conv=>lhs;rw[e]
    exact Uh (by decide) _ _ (X5 _)
   rw[jz,vl,vh,d1,ih _ (Xz _ nofun) (Ph _ p),show z/2^m%2=z/2^m from ff q1 q2,dR];omega
theorem j8w{m j k:Nat}(hj:j<2^m)(hk:k<2^m)(h:jz 2 m (j:Int)=jz 2 m (k:Int)):j=k:=by
 have pc:((2^m:Nat):Int)=(2:Int)^m:=by simp
 have pj:(j:Int)<2^m:=by omega
 have pk:(k:Int)<2^m:=by omega
 have:=congrArg vl h;rw[Nh m j nofun pj,Nh m k nofun pk]at this;omega
theorem Cg{α β:Type}(f:α->β):∀(l:List α)(k:Nat),(l.map f).eraseIdx k=(l.eraseIdx k).map f
 |[],_=>rfl
 |_::_,0=>rfl
 |x::l,k+1=>by rw[xx,gK,gK,xx,Cg f l k]
theorem jg3{n:Nat}{z:Int}(h:0<=z/\z<n):ixN n z=a5 z.toNat:=by unfold ixN;rw[if_pos h.1,if_pos h.2]
theorem Bt{α:Type}:∀(l:List α)(k:Nat)(h:k<l.length),(l[k]::l.eraseIdx k).Perm l
 |[],_,h=>absurd h (jR _)
 |x::l,0,_=>dG _
 |x::l,k+1,h=>(ik x _ _).trans ((Bt l k (by simpa using h)).cons x)
noncomputable def dg(m k:Nat):List Int:=jz 2 m (k:Int)
theorem Ra(m:Nat):Qy m=(aB (2^m)).map (dg m):=(Ij m).symm
theorem Q9(m k:Nat):(dg m k).length=m:=vh 2 m _
theorem j3f(m k:Nat):∀x∈dg m k,x=0\/x=1:=λx hx=>j3d m _ x hx
theorem ji2{m k:Nat}(h:k<2^m):vl (dg m k)=k:=by
 have pc:((2^m:Nat):Int)=(2:Int)^m:=by simp
 exact Nh m k nofun nofun
theorem ja7{m:Nat}{r:List Int}(hr:r.length=m)(h:∀x∈r,x=0\/x=1):(vl r).toNat<2^m/\dg m (vl r).toNat=r:=by
 have b:=Lj h;rw[hr]at b;have pc:((2^m:Nat):Int)=(2:Int)^m:=by simp
 refine⟨by omega,?_⟩;unfold dg;rw[cf b.1,<-hr];exact j1y h
noncomputable def an(a:List Int)(r:List Int):Int:=a.getD (vl r).toNat 0
theorem jjs{a:List Int}{m k:Nat}(h:k<2^m):an a (dg m k)=a.getD k 0:=by unfold an;rw[ji2 h,Xe]
theorem j27 {n m:Nat} {ws:List ah} {a r:List Int} (hm:1<=m/\m<=6) (ha:a.length=2^m) (hr:r.length=m) (h:∀x∈r,x=0\/x=1):evP 1000 G T (n+3) "answer_to" [qD ws a,J6 r]=.val (.int (an a r)):=by obtain⟨h1,h2⟩:=ja7 hr h;have:=j12 (n:=n) (ws:=ws) hm ha h1;rw[show jz 2 m (((vl r).toNat:Nat):Int)=r from h2]at this;exact this
noncomputable def byR(a:List Int)(m:Nat)(f:List Int->List Int):List Int:=(aB (2^m)).map λk=>an a (f (dg m k))
theorem Vc(a:List Int)(m:Nat)(f:List Int->List Int):(byR a m f).length=2^m:=by simp[byR]
def Rw(m:Nat)(r:List Int):Prop:=r.length=m/\∀x∈r,x=0\/x=1
theorem R9(m k:Nat):Rw m (dg m k):=⟨Q9 m k,j3f m k⟩
theorem jhd{a:List Int}{m:Nat}{f:List Int->List Int}{r:List Int}(h:Rw m r):an (byR a m f) r=an a (f r):=by obtain⟨h1,h2⟩:=ja7 h.1 h.2;have e:an (byR a m f) r=(byR a m f).getD (vl r).toNat 0:=rfl;rw[e,byR,kj,xq,Xu h1];show an a (f (dg m (vl r).toNat))=_;rw[h2]
theorem j0g{a:List Int}{m:Nat}{f g:List Int->List Int}(ha:a.length=2^m)(hg:∀r,Rw m r->Rw m (g r))(h:∀r,Rw m r->f (g r)=r):byR (byR a m f) m g=a:=by
 refine Pa λk=>?_;by_cases hk:k<2^m
 .rw[byR,xq,Xu hk];show a5 (an (byR a m f) (g (dg m k)))=_;rw[jhd (hg _ (R9 m k)),h _ (R9 m k),jjs hk,kj,kh nofun];rfl
 .rw[Xi (by rw[Vc];omega),Xi nofun]
theorem Wd{r:List Int}(h:∀x∈r,x=0\/x=1)(i:Nat):r.getD i 0=0\/r.getD i 0=1:=by
 rw[kj];cases e:r[i]? with
 |none=>exact .inl rfl
 |some y=>exact h y (Xg e)
noncomputable def pk(L P:List ah)(r:List Int):List Int:=L.map λw=>rv P r w
theorem j2n{L P:List ah}{m:Nat}{r:List Int}(hL:L.length=m)(h:Rw m r):Rw m (pk L P r):=⟨by simp[pk,hL],λx hx=>by
 obtain⟨w,_,rfl⟩:=Xn.mp hx
 exact Wd h.2 _⟩
theorem jeb{L:List ah}{f:ah->Int}{w:ah}(h:w∈L):rv L (L.map f) w=f w:=by unfold rv;have z:=t6 h;rw[kj,xq,kh z,iC z];rfl
theorem jbp{L:List ah}{m:Nat}{r:List Int}(hL:L.length=m)(hn:L.Nodup)(hr:r.length=m):pk L L r=r:=by
 refine Pa λi=>?_;unfold pk;rw[xq];by_cases h:i<m
 .rw[kh nofun,kh nofun];show a5 (rv L r L[i])=_;unfold rv;rw[hn.idxOf_getElem i nofun,kj,kh nofun];rfl
 .rw[Xi nofun,Xi nofun];rfl
theorem jbq{L P:List ah}{m:Nat}{r:List Int}(hL:L.length=m)(hn:L.Nodup)(hp:L.Perm P)(hr:r.length=m):pk L P (pk P L r)=r:=by have e:pk L P (pk P L r)=pk L L r:=t7 λw hw=>jeb (hp.mem_iff.mp hw);rw[e,jbp hL hn hr]
noncomputable def xc(j:Nat)(r:List Int):List Int:=r.set j (1-r.getD j 0)
theorem j2m{j m:Nat}{r:List Int}(h:Rw m r):Rw m (xc j r):=⟨by simp[xc,h.1],λx hx=>by
 rcases List.mem_or_eq_of_mem_set hx with z|z
 .exact h.2 x z
 .have:=Wd h.2 j
  omega⟩
theorem ji0{j m:Nat}{r:List Int}(h:r.length=m)(hj:j<m):xc j (xc j r)=r:=by
 unfold xc;have e:(r.set j (1-r.getD j 0)).getD j 0=1-r.getD j 0:=by rw[kj,Tz nofun];rfl
 rw[e,gP];refine Pa λi=>?_;by_cases z:i=j
 .subst z;rw[Tz nofun,kh nofun,kj,kh nofun];simp only[T3,md];omega
 .rw[Tf (bT z)]
theorem M9 {n:Nat} {ws:List ah} {a:List Int} (ha:a.length<=64):evP 1000 G T (n+1) "denied" [qD ws a]=.val (qD ws (a.map λx=>1-x)):=by
 rw[jt (F:=Wh) (by rfl) rfl];simp only[Wh,Yc,enter,qD];ext;rw[at0,at1];ext;rw[q9 (l:=(a.map λx=>1-x).map D.int) (by rfl) (by rw[xf];omega) ?_ (.inl rfl)]
 .ext
 .rw[Xc];exact ju λx hx=>zj (by ext) (by ext;rfl)
theorem Ol{s:List D->D}(hs:s=D.tup\/s=D.lst){ts:List ah}(h:ts.length<64):Np (a5 (.v (.e (s (ts.map D.str)))))=a5 (.v (.o ((Qx ts).map D.str))):=by rcases hs with z|z<;>subst z<;>simp only[Np,Rk.d,Oj,if_pos h]
theorem j50{a b:List ah}:Jj .ne (.lst ((Qx a).map D.str)) (.lst ((Qx b).map D.str))=a5 (!decide (a.Perm b)):=by rw[j08 (Qa _) (Qa _),Wm];congr 2;rw[decide_eq_decide];exact j6v
theorem j0r {n:Nat} {s t:List D->D} (hs:s=D.tup\/s=D.lst) (ht:t=D.tup\/t=D.lst) {A B:List ah} (h1:A.length<64) (h2:B.length<64) (hp:B.Perm A):evP 1000 G T (n+1) "refuse_other_order" [s (A.map D.str),t (B.map D.str)]=.val .non:=by rw[jt (F:=zp) (by rfl) rfl];simp only[zp,zx,enter];ext;rw[Ol hs h1,Ol ht h2];ext;rw[j50,decide_eq_true hp];ext
theorem gNP:G (bang "NoPlace")=a5 (.lst [.str "NoPlace"]):=by rfl
theorem j35:(G (bang "NoPlace")).isSome=a7:=by rfl
theorem j2q {n:Nat} {s t:List D->D} (hs:s=D.tup\/s=D.lst) (ht:t=D.tup\/t=D.lst) {A B:List ah} (h1:A.length<64) (h2:B.length<64) (hp:¬B.Perm A):evP 1000 G T (n+1) "refuse_other_order" [s (A.map D.str),t (B.map D.str)]=.err "NoPlace":=by rw[jt (F:=zp) (by rfl) rfl];simp only[zp,zx,enter];ext;rw[Ol hs h1,Ol ht h2];ext;rw[j50,decide_eq_false hp];ext;rw[gNP];ext
theorem j0s {α:Type} {n m:Nat} {r:List Int} {l:List α} {f:α->Nat} (hr:r.length=m) (hi:∀x∈l,f x<m) (hl:l.length<=1000):evP 1000 G T (n+1) "picked" [J6 r,.lst (l.map λx=>D.int (f x:Int))]=.val (J6 (l.map λx=>r.getD (f x) 0)):=by
 rw[jt (F:=Wg) (by rfl) rfl];simp only[Wg,Yb,enter,J6];ext;rw[q9 (l:=l.map λx=>D.int (r.getD (f x) 0)) (by rfl) (by rw[xf];omega) ?_ (.inl rfl)]
 .ext;rw[Xc];rfl
 .refine ju λx hx=>zj (by ext) ?_;have:=hi x hx;ext;rw[j36 nofun];ext
theorem len_str{s:List D->D}(hs:s=D.tup\/s=D.lst){P:List ah}:v8 .len (a5 (.a [.e (s (P.map D.str))]))=a5 (.v (.e (.int (P.length:Int)))):=by rcases hs with z|z<;>subst z<;>simp only[v8,Z7,Rk.d,xf]<;>rfl
theorem jaq{s:List D->D}(hs:s=D.tup\/s=D.lst){P:List ah}:v8 .tuple (a5 (.a [.e (s (P.map D.str))]))=a5 (.v (.e (.tup (P.map D.str)))):=by rcases hs with z|z<;>subst z<;>rfl
theorem jav{s:List D->D}(hs:s=D.tup\/s=D.lst){P:List ah}{p:ah}(hp:p∈P):Uy (a5 (.v (.e (s (P.map D.str))))) (a5 (.v (.e (.str p))))=a5 (.v (.e (.int ((P.idxOf p:Nat):Int)))):=by
 have hdl:D.depL (P.map D.str)<=90/\(D.str p).dep<=90:=⟨Qa P,by simp[D.dep]⟩
 rcases hs with z|z<;>subst z<;>(simp only[Uy,Rk.d,if_pos hdl,Er hp];rfl)
theorem j6j{i:Nat}{c e:En->Option W}{ρ:En}{d:D}(hc:c (ρ.set i (.val d))=a5 (.a [])){d':D}(he:e (ρ.set i (.val d))=a5 (.v (.t d')))(hn:vy d'=a7):Jz [i] c e ρ d=a5 (a5 d'):=by simp[Jz,v6,hc,he,Rk.st,hn]
theorem jiq(r:List Int):vy (J6 r)=a7:=Jh r
theorem Io{n m:Nat}{s:List D->D}(hs:s=D.tup\/s=D.lst){L P:List ah}{a:List Int}(hm:1<=m/\m<=6)(hL:L.length=m)(ha:a.length=2^m)(hp:L.Perm P) :
  evP 1000 G T (n+4) "put_in_order" [qD L a,s (P.map D.str)]=.val (qD P (byR a m (pk L P))):=by
 have hP:P.length=m:=by rw[<-hp.length_eq,hL]
 rw[jt (F:=Jd) (by rfl) rfl];simp only[Jd,Jg,enter,qD];have p64:2^m<=64:=Xd (Pu (by decide) hm.2) (by decide);ext;erw[at0,j0r (n:=n+2) (.inl rfl) hs nofun nofun hp.symm,at0];rw[q9 (l:=L.map λw=>D.int ((P.idxOf w:Nat):Int)) (by rfl) (by rw[xf];omega) ?_ (.inl rfl)];rotate_left
 .refine ju λw hw=>zj (by ext) ?_;ext;rw[jav hs (hp.mem_iff.mp hw)];ext
 ext;rw[len_str hs];ext;rw[hP,j1e (n:=n+1) hm];ext;rw[q9 (l:=(aB (2^m)).map λk=>J6 (pk L P (dg m k))) (by rfl) (by rw[Ra];simp[Jl];omega) ?_ (.inl rfl)];rotate_left
 .rw[Ra,Jl,Xc];refine ju λk hk=>j6j (by ext) ?_ (jiq _);ext;have e:=j0s (n:=n+2) (r:=dg m k) (l:=L) (f:=λw=>P.idxOf w) (Q9 m k) (λw hw=>by
   have:=t6 (hp.mem_iff.mp hw)
   omega) nofun
  simp only[bY];rw[e,j2r];rfl
 ext;rw[jaq hs];ext;rw[q9 (l:=(byR a m (pk L P)).map D.int) (by rfl) (by rw[xf,Xw];omega) ?_ (.inr (Jh _))]
 .ext
 .rw[byR,Xc];refine ju λk hk=>zj (by ext) ?_;have e:evP 1000 G T (n+3) "answer_to" [.tup [.tup (L.map D.str),.tup (a.map D.int)],J6 (pk L P (dg m k))]=_:=j27 (n:=n) (ws:=L) hm ha (j2n hL (R9 m k)).1 (j2n hL (R9 m k)).2;ext;rw[e];ext;rfl
theorem jbm{n:Nat}{s:List D->D}(hs:s=D.tup\/s=D.lst){L P:List ah}{a:List Int}(h1:L.length<64)(h2:P.length<64)(hp:¬P.Perm L) :
  evP 1000 G T (n+4) "put_in_order" [qD L a,s (P.map D.str)]=.err "NoPlace":=by
 rw[jt (F:=Jd) (by rfl) rfl];simp only[Jd,Jg,enter,qD];have e:=j2q (n:=n+2) (.inl rfl) hs h1 h2 hp;ext;erw[at0,e];simp only[Rq,Rp,Bv,Bu,j3a,Y6];ext;rw[at0];ext;simp only[Y6,K3,Bw,xx,cy,Rk.d];rw[e];simp only[K1 j35];ext
theorem j6w {fu n:Nat} {ws:List ah} {a:List Int} {p:ah} (hp:p∉ws) (hr:(aQ p).length<=2000):evP fu G T (n+1) "spot_of" [qD ws a,.str p]=.err "NoPlace":=by
 rw[jt (F:=Z2) (by rfl) rfl];simp only[Z2,Z9,enter,qD];have hc:ws.contains p=a6:=by
  cases e:ws.contains p with
  |false=>rfl
  |true=>exact absurd (Pb.mp e) hp
 have rai:∀ρ:En,Nu "NoPlace" (O1 (a5 (.a [.e (.str (aQ p)),.e (.str " is no place of the question")]))) (G (bang "NoPlace")) ρ=.err "NoPlace" ρ:=λρ=>by
  rw[gNP,jgd (ys:=[aQ p," is no place of the question"]) (by simp only[X4,cQ];omega) (by
   have e:Jk (.str (aQ p))=a5 (aQ p):=by unfold Jk;exact if_pos nofun
   have s1:Jk (.str " is no place of the question")=a5 (dN " is no place of the question"):=by unfold Jk;exact if_pos (by decide)
   simp only[Jm,Rk.d,e,s1])]
  rfl
 ext;rw[at0];ext;rw[Vz _ (.inl rfl),hc];ext;erw[jee nofun,rai]
theorem j5o {n s:Nat} {p:List Int} (hl:p.length<=6) (hs:s<p.length):evP 1000 G T (n+1) "exchanged_at" [J6 p,.int s]=.val (J6 (xc s p)):=by
 rw[jt (F:=Z3) (by rfl) rfl];simp only[Z3,Q3,enter];have gi:=j36 hs;have lp:(p.map D.int).length=p.length:=xf ..;have w1:¬(HT.sIx (p.map D.int).length 0 a8=0/\HT.sIx (p.map D.int).length (p.map D.int).length (a5 (s:Int))=(p.map D.int).length):=by rw[HT.sIx_nat,lp];omega
 have e1:(s:Int)+1=((s+1:Nat):Int):=by omega
 have w2:¬(HT.sIx (p.map D.int).length 0 (a5 ((s+1:Nat):Int))=0/\HT.sIx (p.map D.int).length (p.map D.int).length a8=(p.map D.int).length):=by rw[HT.sIx_nat,lp];omega
 ext;rw[gi];ext;rw[j48 w1,e1,j48 w2,j5v nofun,j05 nofun];ext;rw[J6,xc,List.set_eq_take_append_cons_drop,if_pos hs];simp
theorem Dj{n m j:Nat}{L:List ah}{a:List Int}{p:ah}(hm:1<=m/\m<=6)(hL:L.length=m)(ha:a.length=2^m)(hp:p∈L)(hj:L.idxOf p=j) :
  evP 1000 G T (n+4) "turned_about" [qD L a,.str p]=.val (qD L (byR a m (xc j))):=by
 have hjm:j<m:=by rw[<-hj,<-hL];exact t6 hp
 have p64:2^m<=64:=Xd (Pu (by decide) hm.2) (by decide);have sp:evP 1000 G T (n+3) "spot_of" [.tup [.tup (L.map D.str),.tup (a.map D.int)],.str p]=_:=jb2 (n:=n+2) (a:=a) hp;rw[jt (F:=Jc) (by rfl) rfl];simp only[Jc,Jf,enter,qD];ext;rw[sp,hj];ext;rw[at0];ext;rw[hL,j1e (n:=n+1) hm];ext;rw[q9 (l:=(aB (2^m)).map λk=>J6 (xc j (dg m k))) (by rfl) (by rw[Ra];simp[Jl];omega) ?_ (.inl rfl)];rotate_left
 .rw[Ra,Jl,Xc];refine ju λk hk=>zj (by ext) ?_;ext;simp only[bY];rw[j5o (n:=n+2) (by rw[Q9];omega) (by rw[Q9];omega)];ext
 ext;rw[at0];ext;rw[q9 (l:=(byR a m (xc j)).map D.int) (by rfl) (by rw[xf,Xw];omega) ?_ (.inr (Jh _))]
 .ext
 .rw[byR,Xc];refine ju λk hk=>zj (by ext) ?_;have e:evP 1000 G T (n+3) "answer_to" [.tup [.tup (L.map D.str),.tup (a.map D.int)],J6 (xc j (dg m k))]=_:=j27 (n:=n) (ws:=L) hm ha (j2m (R9 m k)).1 (j2m (R9 m k)).2;ext;rw[e];ext;rfl
theorem j2b {n:Nat} {L:List ah} {a:List Int} {p:ah} (hp:p∉L) (hr:(aQ p).length<=2000):evP 1000 G T (n+4) "turned_about" [qD L a,.str p]=.err "NoPlace":=by have sp:evP 1000 G T (n+3) "spot_of" [.tup [.tup (L.map D.str),.tup (a.map D.int)],.str p]=_:=j6w (n:=n+2) (a:=a) hp hr;rw[jt (F:=Jc) (by rfl) rfl];simp only[Jc,Jf,enter,qD];ext;rw[sp];ext;simp only[Rq,Rp,Bv,Bu,j3a,Y6];ext;simp only[Y6,K3,Bw,xx,cy,Rk.d];rw[sp];simp only[K1 j35];ext
theorem j46{i j:Nat}{fk fe:En->Option D}{a b:D}{ds:List D}{ρ:En}{kvs:List (ah×Int)}{k:ah}{n:Int}(h1:fk ((ρ.set i (.val a)).set j (.val b))=a5 (.str k))(h2:fe ((ρ.set i (.val a)).set j (.val b))=a5 (.int n))(hl:kvs.length<=1000000) :
  Vh i j fk fe (.tup [a,b]::ds) ρ kvs=Vh i j fk fe ds ((ρ.set i (.val a)).set j (.val b)) (dput kvs k n):=by
 rw[Vh,h1,h2,j70,if_pos (lt_size hl)]
theorem ja8{d:D}:dOf (a5 (.v (.e d)))=a5 d:=rfl
theorem j8o{s:List D->D}(hs:s=D.tup\/s=D.lst){P:List ah}:Rr (a5 (.v (.e (s (P.map D.str)))))=a5 (.i (vo (P.map D.str))):=by rcases hs with z|z<;>subst z<;>rfl
noncomputable abbrev kE:Ex:=.bin .mod (.bin .fdiv (.var 2) (.bin .shl (.lit (.int 1)) (.bin .sub (.bin .sub (.blt .len (.cons (.var 0) .nil)) (.var 4)) (.lit (.int 1))))) (.lit (.int 2))
theorem Ik{n m k:Nat}{s:List D->D}(hs:s=D.tup\/s=D.lst){P:List ah}{Γ:ah->List D->Rc}{r1:Sv}(hm:1<=m/\m<=6)(hP:P.length=m)(hn:P.Nodup) :
  ∀(q i:Nat)(s4 s5:Sv),i+q=m->∃s4' s5',Vh 4 5 (λρ=>dOf (ev Γ G (.var 5) ρ)) (λρ=>dOf (ev Γ G kE ρ)) ((vo (P.map D.str)).drop i) [.val (s (P.map D.str)),r1,.val (.int (k:Int)),.exc rfN,s4,s5] ((P.zip (dg m k)).take i) =
   a5 ([.val (s (P.map D.str)),r1,.val (.int (k:Int)),.exc rfN,s4',s5'],P.zip (dg m k))
 |0,i,s4,s5,h=>by
  have l1:(vo (P.map D.str)).length=m:=by unfold vo;simp[hP]
  rw[gQ nofun,ph (by rw[fM,hP,Q9];omega)];exact⟨s4,s5,rfl⟩
 |q+1,i,s4,s5,h=>by
  have hi:i<P.length:=by omega
  have hd:(vo (P.map D.str)).drop i=.tup [.int (i:Int),.str P[i]]::(vo (P.map D.str)).drop (i+1):=by
   have g:(vo (P.map D.str))[i]?=a5 (.tup [.int (i:Int),.str P[i]]):=by rw[Ci,xq,kh hi];rfl
   obtain⟨hlt,e⟩:=X3.mp g;rw[T9 hlt,e]
  obtain⟨s4',s5',ih⟩:=Ik (n:=n) (k:=k) (Γ:=Γ) (r1:=r1) hs hm hP hn q (i+1) (.val (.int (i:Int))) (.val (.str P[i])) nofun
  refine⟨s4',s5',?_⟩;have et:((m:Int)-(i:Int)-1).toNat=m-1-i:=by omega
  have p:=p2k (k:=m-1-i) nofun
  rw[hd,j46 (k:=P[i]) (n:=(k:Int)/2^(m-1-i)%2)]
  .rw[j6s hn (kh hi) (by rw[show dg m k=jz 2 m (k:Int)from rfl,Qp nofun])];exact ih
  .ext;rw[ja8]
  .ext;rw[len_str hs,hP];rw[<-et]at p;ext;rw[ja8,et,fN]
  .rw[Xj,fM,hP,Q9];omega
theorem jb3{n m k:Nat}{s:List D->D}(hs:s=D.tup\/s=D.lst){P:List ah}{Γ:ah->List D->Rc}{r1 s3 s4 s5:Sv}(hm:1<=m/\m<=6)(hP:P.length=m)(hn:P.Nodup) :
  ∃s4' s5',Ku 3 4 5 (.enum (.var 0)) (.var 5) kE n Γ G [.val (s (P.map D.str)),r1,.val (.int (k:Int)),s3,s4,s5]=.next [.val (s (P.map D.str)),r1,.val (.int (k:Int)),.val (.sct (P.zip (dg m k))),s4',s5']:=by
 obtain⟨s4',s5',e⟩:=Ik (n:=n) (k:=k) (Γ:=Γ) (r1:=r1) hs hm hP hn m 0 s4 s5 nofun
 refine⟨s4',s5',?_⟩;unfold Ku;rw[if_pos ⟨by show 3<6;decide,by decide,by decide⟩];simp only[cn,T5];have eit:ev Γ G (.enum (.var 0)) [.val (s (P.map D.str)),r1,.val (.int (k:Int)),.exc rfN,s4,s5]=a5 (.i (vo (P.map D.str))):=by rw[j1x,j5p];exact j8o hs
 rw[Tw,jT]at e;rw[eit];show j6z 3 (Vh 4 5 _ _ _ _ _)=_;rw[e];rfl
noncomputable def vq(P:List ah)(m:Nat):List (List (ah×Int)):=(aB (2^m)).map λk=>P.zip (dg m k)
theorem Ou {n m:Nat} {s:List D->D} (hs:s=D.tup\/s=D.lst) {P:List ah} (hm:1<=m/\m<=6) (hP:P.length=m) (hn:P.Nodup):evP 1000 G T (n+1) "_law_rows" [s (P.map D.str)]=.fresh ((vq P m).map D.sct):=by
 rw[jt (F:=Fp) (by rfl) rfl];simp only[Fp,Ry,enter];have p64:2^m<=64:=Xd (Pu (by decide) hm.2) (by decide);have p2:=jet (m:=m) nofun
 have pc:((2^m:Nat):Int)=(2:Int)^m:=by simp
 have e3:(1*2^m:Int).toNat=2^m:=by rw[fN,<-pc];exact Xe _
 ext;rw[len_str hs,hP];ext;rw[Xe];ext;rw[e3];refine Vi (λi ρ=>∃s2 s3 s4 s5,ρ=[.val (s (P.map D.str)),.own (((vq P m).take i).map D.sct),s2,s3,s4,s5]) ⟨_,_,_,_,rfl⟩ ?_ ?_
 .rintro i d ρ hi ⟨s2,s3,s4,s5,rfl⟩;obtain⟨hlt,rfl⟩:=Mi hi;rw[c9];obtain⟨s4',s5',e⟩:=jb3 (n:=1000) (k:=i) (Γ:=evP 1000 G T n) (r1:=.own (((vq P m).take i).map D.sct)) (s3:=s3) (s4:=s4) (s5:=s5) hs hm hP hn;simp only[Qv];ext;rw[e];have ll:((vq P m).take i).length<=64:=by rw[Xj];omega
  ext;refine⟨_,rfl,.val (.int (i:Int)),.val (.sct (P.zip (dg m i))),s4',s5',?_⟩;have:(vq P m)[i]?=a5 (P.zip (dg m i)):=by unfold vq;rw[xq,Xu hlt];rfl
  rw[Tq,this,Xl];rfl
 .rintro ρ' ⟨s2,s3,s4,s5,rfl⟩;ext;rw[z7,ph (by simp[vq])]
theorem j15:∀(l:List Int)(x:Int),vl (l++[x])=2*vl l+x
 |[],x=>by simp[vl]
 |y::l,x=>by rw[cL,vl,j15 l x,vl,Xb,hZ,dQ,<-gL,dR _ (2:Int)];omega
theorem Dw{n m:Nat}{L:List ah}{a:List Int}{kvs:List (ah×Int)}{f:ah->Int}(hm:1<=m/\m<=6)(hL:L.length=m)(ha:a.length=2^m)(hf:∀w∈L,dval kvs w=a5 (f w))(h01:∀w∈L,f w=0\/f w=1) :
  evP 1000 G T (n+1) "_law_answer" [qD L a,.sct kvs]=.val (.int (an a (L.map f))):=by
 rw[jt (F:=Wl) (by rfl) rfl];simp only[Wl,Yg,enter,qD];have b:=Lj (r:=L.map f) λx hx=>by obtain⟨w,hw,rfl⟩:=Xn.mp hx;exact h01 w hw
 rw[xf,hL]at b;have pc:((2^m:Nat):Int)=(2:Int)^m:=by simp
 ext;rw[at0];ext;refine Vi (λi ρ=>∃s3,ρ=[.val (.tup [.tup (L.map D.str),.tup (a.map D.int)]),.val (.sct kvs),.val (.int (vl ((L.map f).take i))),s3]) ⟨_,rfl⟩ ?_ ?_
 .rintro i d ρ hi ⟨s3,rfl⟩;rw[xq]at hi;cases hw:L[i]? with
  |none=>rw[hw]at hi;cases hi
  |some w =>
   rw[hw]at hi;cases hi;have hw':=Xg hw;simp only[Qv];ext;rw[j5t (hf w hw')];ext;refine⟨_,rfl,.val (.str w),?_⟩;rw[Tq,xq,hw];show _=[_,_,Sv.val (.int (vl (_++[f w]))),_]
   rw[j15]
 .rintro ρ' ⟨s3,rfl⟩;ext;rw[at1];ext;rw[ph (by simp)];have e:vl (L.map f)=(((vl (L.map f)).toNat:Nat):Int):=(cf b.1).symm;rw[e,j36 nofun];ext;rfl
theorem jah{P:List ah}{m j k:Nat}(hP:P.length=m)(hj:j<2^m)(hk:k<2^m)(h:P.zip (dg m j)=P.zip (dg m k)):j=k:=by have e:∀i,((P.zip (dg m i)).map Prod.snd)=dg m i:=λi=>List.map_snd_zip (by rw[Q9,hP];exact X5 _);have:=congrArg (List.map Prod.snd) h;rw[e,e]at this;exact j8w hj hk this
theorem j0q{P:List ah}{m:Nat}(hP:P.length=m):(vq P m).Nodup:=by unfold vq lL;rw[iT,List.pairwise_iff_getElem];intro i j hi hj hij e;simp only[List.getElem_range]at e;rw[Xw]at hi hj;have:=jah hP hi hj e;omega
theorem Ig:∀ks:List (List (ah×Int)),Zu (ks.map D.sct)=a5 ks
 |[]=>rfl
 |k::ks=>by rw[xx,Zu,Ig ks];rfl
theorem Ey:∀l:List ah,Yq (l.map D.str)=a7
 |[]=>rfl
 |_::l=>by rw[xx,Yq,Ey l];rfl
theorem Ez:∀l:List Int,Yq (l.map D.int)=a7
 |[]=>rfl
 |_::l=>by rw[xx,Yq,Ez l];rfl
theorem jjh(L:List ah)(a:List Int):flt (qD L a)=a7:=by unfold qD;rw[flt,Yq,flt,Ey,Yq,flt,Ez];rfl
theorem Ds:∀l:List ah,Qd (l.map D.str)=a7
 |[]=>rfl
 |_::l=>by rw[xx,Qd,Ds l];rfl
theorem W6:∀l:List Int,Qd (l.map D.int)=a7
 |[]=>rfl
 |_::l=>by rw[xx,Qd,W6 l];rfl
theorem jfc(L:List ah)(a:List Int):Yn (qD L a)=a7:=by unfold qD;rw[Yn,Qd,Yn,Ds,Qd,Yn,W6];rfl
theorem jdf{L:List ah}{m j:Nat}{r:List Int}{p:ah}(hL:L.length=m)(hn:L.Nodup)(hr:r.length=m)(hp:p∈L)(hj:L.idxOf p=j):(L.map λw=>if w=p then 1-rv L r p else rv L r w)=xc j r:=by
 have hjl:j<L.length:=by rw[<-hj];exact t6 hp
 have ep:L[j]=p:=by subst hj;exact iC hjl
 refine Pa λi=>?_;rw[xq];by_cases h:i<m
 .rw[kh nofun];show a5 (if L[i]=p then 1-rv L r p else rv L r L[i])=_;unfold xc;by_cases z:i=j
  .subst z;rw[if_pos ep,Tz nofun];unfold rv;rw[hj]
  .have np:L[i]≠p:=λe=>z ((cK hn).mp (e.trans ep.symm));rw[if_neg np,Tf (bT z)];unfold rv;rw[hn.idxOf_getElem i nofun,kj,kh nofun];rfl
 .rw[Xi nofun,Xi (by simp[xc];omega)];rfl
noncomputable abbrev tK:Ex:=.var 1
noncomputable abbrev tE:Ex:=.bin .sub (.lit (.int 1)) (.dix (.var 3) (.var 1))
noncomputable abbrev tF:Ex:=.call "_law_answer" (.cons (.var 0) (.cons (.var 3) .nil))
theorem Dk{n m j:Nat}{L:List ah}{a:List Int}{p:ah}(hm:1<=m/\m<=6)(hL:L.length=m)(hn:L.Nodup)(ha:a.length=2^m)(hp:p∈L)(hj:L.idxOf p=j) :
  ∀(q i:Nat)(s3:Sv),Yw s3=a7->i+q=2^m->∃s3',Nj 3 2 (λρ=>dOf (ev (evP 1000 G T (n+1)) G tK ρ)) (λρ=>dOf (ev (evP 1000 G T (n+1)) G tE ρ)) (λρ=>stOf (ev (evP 1000 G T (n+1)) G tF ρ)) ((vq L m).drop i) [.val (qD L a),.val (.str p),.own (((byR a m (xc j)).take i).map D.int),s3] =
   .next [.val (qD L a),.val (.str p),.own ((byR a m (xc j)).map D.int),s3']
 |0,i,s3,h3,h=>by rw[gQ (by simp[vq];omega),ph (by rw[Vc];omega)];exact⟨s3,rfl⟩
 |q+1,i,s3,h3,h=>by
  have hi:i<2^m:=by omega
  have p64:2^m<=64:=Xd (Pu (by decide) hm.2) (by decide);obtain⟨s3',ih⟩:=Dk (n:=n) hm hL hn ha hp hj q (i+1) .un rfl nofun
  refine⟨s3',?_⟩;have hd:(vq L m).drop i=L.zip (dg m i)::(vq L m).drop (i+1):=by
   have g:(vq L m)[i]?=a5 (L.zip (dg m i)):=by unfold vq;rw[xq,Xu hi];rfl
   obtain⟨hlt,e⟩:=X3.mp g;rw[T9 hlt,e]
  have dz:∀w∈L,dval (L.zip (dg m i)) w=a5 (rv L (dg m i) w):=λw hw=>O7 hw (by rw[Q9,hL]);have kl:(L.zip (dg m i)).length<ak:=lt_size (by rw[fM,Q9,hL];omega);have al:(((byR a m (xc j)).take i).map D.int).length<ak:=lt_size (by rw[xf,Xj];omega);have e1:dOf (ev (evP 1000 G T (n+1)) G tK ([Sv.val (qD L a),.val (.str p),.own (((byR a m (xc j)).take i).map D.int),s3].set 3 (.val (.sct (L.zip (dg m i))))))=a5 (.str p):=by ext;rfl
  have e2:dOf (ev (evP 1000 G T (n+1)) G tE ([Sv.val (qD L a),.val (.str p),.own (((byR a m (xc j)).take i).map D.int),s3].set 3 (.val (.sct (L.zip (dg m i))))))=a5 (.int (1-rv L (dg m i) p)):=by ext;rw[j5t (dz p hp)];ext;rfl
  have e3:stOf (ev (evP 1000 G T (n+1)) G tF ([Sv.val (qD L a),.val (.str p),.own (((byR a m (xc j)).take i).map D.int),s3].set 3 (.val (.sct (dput (L.zip (dg m i)) p (1-rv L (dg m i) p))))))=a5 (.int (an a (xc j (dg m i)))):=by
   ext;rw[Dw (n:=n) (f:=λw=>if w=p then 1-rv L (dg m i) p else rv L (dg m i) w) hm hL ha (λw hw=>by
    rw[j8t]
    by_cases z:w=p
    .rw[if_pos z,if_pos z]
    .rw[if_neg z,if_neg z,dz w hw]) (λw hw=>by
    have h1:=Wd (j3f m i) (L.idxOf p)
    have h2:=Wd (j3f m i) (L.idxOf w)
    unfold rv
    split<;>omega),jdf hL hn (Q9 m i) hp hj]
   ext
  have hpl:([Sv.val (qD L a),.val (.str p),.own (((byR a m (xc j)).take i).map D.int),s3]:En).all Yw=a7:=by simp only[eN,List.all_nil,Yw,jfc,W6,Yn,gB,Bool.true_and,h3];exact h3
  rw[hd,Nj,e1,e2];show Ke 3 2 _ _ _ _ _ (a5 (.own (((byR a m (xc j)).take i).map D.int))) _=_;unfold Ke;dsimp only;rw[if_pos ⟨kl,al,by show 3<4;decide,by decide,hpl⟩,e3];dsimp only;have et:((byR a m (xc j)).take i).map D.int++[D.int (an a (xc j (dg m i)))]=((byR a m (xc j)).take (i+1)).map D.int:=by
   have:(byR a m (xc j))[i]?=a5 (an a (xc j (dg m i))):=by unfold byR;rw[xq,Xu hi];rfl
   rw[Tq,this,Xl];rfl
  rw[et];exact ih
theorem Eh{n m j:Nat}{L:List ah}{a:List Int}{p:ah}(hm:1<=m/\m<=6)(hL:L.length=m)(hn:L.Nodup)(ha:a.length=2^m)(hp:p∈L)(hj:L.idxOf p=j) :
  evP 1000 G T (n+2) "_law_turned" [qD L a,.str p]=.val (qD L (byR a m (xc j))):=by
 rw[jt (F:=Wi) (by rfl) rfl];simp only[Wi,Yd,enter];obtain⟨s3,e⟩:=Dk (n:=n) hm hL hn ha hp hj (2^m) 0 .un rfl nofun
 rw[Tw,jT]at e;have fl:([Sv.val (qD L a),.val (.str p),.own [],.un]:En).map j38=[.val (qD L a),.val (.str p),.un,.un]:=by simp only[xx,cy,j38,jjh,flt]
 have it:ev (evP 1000 G T (n+1)) G (.call "_law_rows" (.cons (.ix (.var 0) (.lit (.int 0))) .nil)) [.val (qD L a),.val (.str p),.un,.un]=a5 (.v (.o ((vq L m).map D.sct))):=by unfold qD;ext;erw[at0,Ou (n:=n) (.inl rfl) hm hL hn]
 have eg:Kd 3 2 (.call "_law_rows" (.cons (.ix (.var 0) (.lit (.int 0))) .nil)) (.var 1) tE tF 1000 (evP 1000 G T (n+1)) G [.val (qD L a),.val (.str p),.own [],.un]=.next [.val (qD L a),.val (.str p),.own ((byR a m (xc j)).map D.int),s3]:=by unfold Kd;rw[fl,it];show(match Zu ((vq L m).map D.sct)with|some rows=>if rows.Nodup then _ else _|none=>_)=_;rw[Ig];dsimp only;rw[if_pos (j0q hL)];exact e
 ext;rw[eg];unfold qD;ext;rw[at0];ext
theorem j7h {n m:Nat} {L:List ah} {c:Int} (hm:1<=m/\m<=6) (hL:L.length=m):∃P:List ah,L.Perm P/\evP 1000 G T (n+1) "_law_order" [.tup (L.map D.str),.int c]=.fresh (P.map D.str):=by
 obtain⟨ρ',e1,d,s5,left,out,er,h1,h2⟩:=Zx (f:=K5 [5] (run 1000 (evP 1000 G T n) G (.seq (.set 4 (.bin .mod (.bin .add (.bin .add (.bin .mul (.var 4) (.lit (.int 69621))) (.bin .mul (.lit (.int 5)) (.var 5))) (.lit (.int 1))) (.lit (.int 2147483647)))) (.seq (.apop 3 2 (.bin .mod (.bin .fdiv (.var 4) (.lit (.int 32))) (.blt .len (.cons (.var 2) .nil)))) .nop))))
   (λi ρ=>∃(d:Int)(s5:Sv)(left out:List ah),ρ=[.val (.tup (L.map D.str)),.val (.int c),.own (left.map D.str),.own (out.map D.str),.val (.int d),s5]/\left.length+i=m/\(left++out).Perm L)
   (ds:=upto 0 m) (ρ:=[.val (.tup (L.map D.str)),.val (.int c),.own (L.map D.str),.own [],.val (.int (c%2147483647)),.un]) (k:=0) ⟨_,_,L,[],rfl,by simpa using hL,by rw[Xr]⟩ λi x ρ hi ⟨d,s5,left,out,er,h1,h2⟩=>by
  rw[Tj]at h1;obtain⟨hi6,ex⟩:=Mi hi;subst er ex;have hl:0<left.length:=by omega
  obtain⟨u,eu⟩:∃u:Int,u=(d*69621+5*(0+(i:Int))+1)%2147483647:=⟨_,rfl⟩
  have hb:0<=u/32%(left.length:Int)/\u/32%(left.length:Int)<(left.length:Int):=⟨Xz _ nofun,Ph _ nofun⟩
  obtain⟨k,ek⟩:∃k:Nat,k=(u/32%(left.length:Int)).toNat:=⟨_,rfl⟩
  have hk:k<left.length:=by omega
  have ol:out.length<=6:=by have:=h2.length_eq;rw[Xb,hL]at this;omega
  refine⟨[.val (.tup (L.map D.str)),.val (.int c),.own ((left.eraseIdx k).map D.str),.own ((out++[left[k]]).map D.str),.val (.int u),.val (.int (0+(i:Int)))],?_,u,.val (.int (0+(i:Int))),left.eraseIdx k,out++[left[k]],rfl,?_,?_⟩
  .simp only[Qv];ext;rw[<-eu];rw[jd8 (k:=k) (d:=.str left[k]) (by rw[xf,jg3 hb,ek]) (by rw[xq,kh hk];rfl) (by decide) (by rw[xf];omega) (by rw[xf];omega)];ext;rw[Cg,Xl];rfl
  .rw[List.length_eraseIdx_of_lt hk];omega
  .refine List.Perm.trans ?_ h2;rw[<-Tp];refine(List.perm_append_comm (l₁:=left.eraseIdx k++out) (l₂:=[left[k]])).trans ?_;rw[hV,<-cL];exact(Bt left k hk).append_right out
 have hlen:left=[]:=by rw[Tj,z7]at h1;exact List.eq_nil_of_length_eq_zero nofun
 rw[hlen,fK]at h2;refine⟨out,h2.symm,?_⟩;rw[jt (F:=O5) (by rfl) rfl];simp only[O5,Uq,enter];ext;rw[hL,Xe,e1,er];ext
theorem j7c {n:Nat} {q:D} {B:List ah} (h:evP 1000 G T (n+4) "put_in_order" [q,.lst (B.map D.str)]=.err "NoPlace"):evP 1000 G T (n+5) "_law_refused" [q,.lst (B.map D.str),.int 0]=.fresh [.str "NoPlace"]:=by rw[jt (F:=Z4) (by rfl) rfl];simp only[Z4,Zd,enter];ext;rw[h];ext;simp only[Rq,Rp,Bv,Bu,Y6];ext;simp only[Y6,K3,Bw,xx,cy,Rk.d];rw[h];simp only[K1 j35];ext;rw[Kc gNP];ext
theorem j7b {n:Nat} {q:D} {p:ah} {B:List D} (h:evP 1000 G T (n+4) "turned_about" [q,.str p]=.err "NoPlace"):evP 1000 G T (n+5) "_law_refused" [q,.lst (.str p::B),.int 1]=.fresh [.str "NoPlace"]:=by rw[jt (F:=Z4) (by rfl) rfl];simp only[Z4,Zd,enter];have a0:atI (D.str p::B) 0=a5 (.str p):=Dc (j:=0) (by rfl);ext;erw[a0,h];simp only[Rq,Rp,Bv,Bu,j3a,Y6];ext;rw[a0];ext;simp only[Y6,K3,Bw,xx,cy,Rk.d];rw[h];simp only[K1 j35];ext;rw[Kc gNP];ext
noncomputable def Sw:List ah:=["","q","qq","zq","A","no place","zqx"]
theorem jds:(Sw.map D.str:List D)=[.str "",.str "q",.str "qq",.str "zq",.str "A",.str "no place",.str "zqx"]:=rfl
theorem jfm{a b c d e f g:D}:Zf (a5 (.a [.e a,.e b,.e c,.e d,.e e,.e f,.e g]))=a5 (.v (.o [a,b,c,d,e,f,g])):=j55 [a,b,c,d,e,f,g] (by simp)
theorem j8g {P:List ah} {k:Nat} (h:k<P.length):atI (P.map D.str) (k:Int)=a5 (.str (P.getD k "")):=by rw[Dc (v:=.str (P.getD k "")) (by rw[xq,kj,kh h];rfl)]
theorem Mz {P:List ah} {k:Nat} (h:k<P.length):P.getD k "" ∈ P:=by rw[kj,kh h];exact Pq h
theorem Z0{A B:List ah}(h:A.length≠B.length):¬A.Perm B:=λp=>h p.length_eq
theorem j5m{n m:Nat}{P:List ah}{c:Int}(hm:1<=m/\m<=6)(hP:P.length=m)(hn:P.Nodup)(hS:4<=(Sw.filter λw=>!P.contains w).length) :
  ∃B:List ah,B.length<64/\(¬B.Perm P)/\evP 1000 G T (n+1) "_law_faulty" [.lst (P.map D.str),.int c]=.fresh (B.map D.str):=by
 have hb:0<=c/4%(m:Int)/\c/4%(m:Int)<(m:Int):=⟨Xz _ nofun,Ph _ nofun⟩
 obtain⟨t,et⟩:∃t:Nat,c/4%(m:Int)=(t:Int):=⟨(c/4%(m:Int)).toNat,by omega⟩
 have ht:t<m:=by omega
 obtain⟨u,eu⟩:∃u:Nat,c/32%4=(u:Int):=⟨(c/32%4).toNat,by omega⟩
 have hu:u<(Sw.filter λw=>!P.contains w).length:=by omega
 have su:(Sw.filter λw=>!P.contains w).getD u "" ∉ P:=λz=>by have:=(Td.mp (Mz hu)).2;rw[Pb.mpr z]at this;cases this
 have lP:(P.map D.str).length=m:=by rw[xf,hP]
 have cm:Je (Jz [4] (ev (evP 1000 G T n) G (.cons (.cmp .notin (.var 4) (.var 0)) .nil)) (ev (evP 1000 G T n) G (.var 4)) [.val (.lst (P.map D.str)),.val (.int c),.val (.int (t:Int)),.un,.un,.un,.un,.un]) (Sw.map D.str)=a5 ((Sw.filter λw=>!P.contains w).map D.str):=by
  refine V3 (g:=D.str) (p:=λw=>!P.contains w) λw hw=>Vf (b:=!P.contains w) ?_ λ_=>?_
  .ext;rw[Vz _ (.inr rfl)];ext
  .ext
 rw[jt (F:=Wj) (by rfl) rfl];simp only[Wj,Ye,enter];have e1:(t:Int)+1=((t+1:Nat):Int):=by omega
 have k1:cutD (P.map D.str) a8 (a5 (t:Int))=(P.take t).map D.str:=by rw[j5v nofun,kg]
 have k2:cutD (P.map D.str) (a5 ((t:Int)+1)) a8=(P.drop (t+1)).map D.str:=by rw[e1,j05 nofun,gz]
 have k3:cutD (P.map D.str) (a5 (t:Int)) a8=(P.drop t).map D.str:=by rw[j05 nofun,gz]
 have l1:(cutD (P.map D.str) a8 (a5 (t:Int))).length<=6:=by rw[k1];simp;omega
 have l2:(cutD (P.map D.str) (a5 ((t:Int)+1)) a8).length<=6:=by rw[k2];simp;omega
 have l3:(cutD (P.map D.str) (a5 (t:Int)) a8).length<=6:=by rw[k3];simp;omega
 have l4:(cutD (P.map D.str) (a5 ((t:Int)+if True then 1 else 0)) a8).length<=6:=by rw[if_pos trivial];exact l2
 have l5:(cutD (P.map D.str) (a5 ((t:Int)+if a6=a7 then 1 else 0)) a8).length<=6:=by rw[if_neg xg,fh];exact l3
 have l6:(cutD (P.map D.str) (a5 ((t:Int)+0)) a8).length<=6:=by rw[fh];exact l3
 have mx:(if (m:Int)-1>1 then(m:Int)-1 else 1)=max 1 ((m:Int)-1):=by omega
 rw[jds]at cm;ext;rw[hP,et];ext;rw[jfm,j4d,q9 (by rfl) (by decide) cm (.inl rfl)];ext;rw[eu,j8g hu];generalize (Sw.filter λw=>!P.contains w).getD u "" = st at su;ext;by_cases c0:c%4=0
 .refine⟨P.take t++P.drop (t+1),by simp;omega,Z0 (by simp;omega),?_⟩;ext;rw[k1,k2,Xl]
 by_cases c1:c%4=1
 .have hmx:1<=(if (m:Int)-1>1 then(m:Int)-1 else 1)/\(if (m:Int)-1>1 then(m:Int)-1 else 1)<18446744073709551616:=by omega
  have hb2:0<=((t:Int)+1+c/32%(if (m:Int)-1>1 then(m:Int)-1 else 1))%(m:Int)/\((t:Int)+1+c/32%(if (m:Int)-1>1 then(m:Int)-1 else 1))%(m:Int)<(m:Int):=⟨Xz _ nofun,Ph _ nofun⟩
  obtain⟨j,ej⟩:∃j:Nat,((t:Int)+1+c/32%(if (m:Int)-1>1 then(m:Int)-1 else 1))%(m:Int)=(j:Int):=⟨_,(cf hb2.1).symm⟩
  have hj:j<m:=by omega
  have mxe:(if (m:Int)-1>1 then(m:Int)-1 else 1)=max 1 ((m:Int)-1):=by omega
  have a1:atI (P.map D.str) (j:Int)=a5 (.str (P.getD j "")):=j8g nofun
  have nj:1<m->j≠t:=λh1 e=>by
   subst e;have r1:=Xz (c/32) (show(if (m:Int)-1>1 then(m:Int)-1 else 1)≠0 by omega);have r2:=Ph (c/32) (show 0<(if (m:Int)-1>1 then(m:Int)-1 else 1)by omega);generalize c/32%(if (m:Int)-1>1 then(m:Int)-1 else 1)=r at *;have r3:r<(m:Int)-1:=by split at r2<;>omega
   by_cases z:(j:Int)+1+r<m
   .rw[ff nofun z]at ej;omega
   .have:((j:Int)+1+r)%(m:Int)=(j:Int)+1+r-m:=by rw[<-Int.sub_emod_right,ff nofun nofun]
    omega
  by_cases h1:1<m
  .by_cases h2:0<c/256%3
   .refine⟨P.take t++[P.getD j ""]++P.drop (t+1),by simp;omega,λz=>?_,?_⟩
    .have hm':P.getD t "" ∈ P.take t++[P.getD j ""]++P.drop (t+1):=z.mem_iff.mpr (Mz nofun);have gt:P.getD t "" = P[t]:=by rw[kj,kh nofun];rfl
     have gj:P.getD j "" = P[j]:=by rw[kj,kh nofun];rfl
     rw[gt,gj]at hm';simp only[Te,X6]at hm';rcases hm' with (y|y)|y
     .obtain⟨i,hi,e⟩:=Ti.mp y;rw[iU]at e;have:=(cK hn).mp e;rw[Xj]at hi;omega
     .exact nj h1 ((cK hn).mp y).symm
     .obtain⟨i,hi,e⟩:=Ti.mp y;rw[List.getElem_drop]at e;have:=(cK hn).mp e;omega
    .have b1:cmpI .gt (m:Int) 1=a5 a7:=Ws nofun
     have b2:cmpI .gt (c/256%3) 0=a5 a7:=Ws h2;ext;rw[hP];ext;rw[ej,a1];ext;rw[if_pos trivial,k1,k2,Xl,Xl];rfl
   .refine⟨P.take t++[P.getD j ""]++P.drop t,by simp;omega,Z0 (by simp;omega),?_⟩;ext;rw[hP];ext;rw[ej,a1];ext;rw[if_neg xg,fh,k1,k3,Xl,Xl];rfl
  .refine⟨P.take t++[P.getD j ""]++P.drop t,by simp;omega,Z0 (by simp;omega),?_⟩;ext;rw[hP];ext;rw[ej,a1];ext;rw[if_neg xg,fh,k1,k3,Xl,Xl];rfl
 by_cases c2:c%4=2
 .refine⟨P.take t++[st]++P.drop (t+1),by simp;omega,λz=>su (z.mem_iff.mp (by simp)),?_⟩;ext;rw[k1,k2,Xl,Xl];rfl
 .refine⟨P.take t++[st]++P.drop t,by simp;omega,Z0 (by simp;omega),?_⟩;ext;rw[k1,k3,Xl,Xl];rfl
noncomputable def low(c:Nat):Bool:=decide (97<=c)&&decide (c<=122)
theorem jfj(n:Int):lt n=0\/low (lt n)=a7:=by
 unfold lt;have h:∀c∈letters,low c=a7:=by decide
 rw[kj];cases e:letters[n.toNat]? with
 |none=>exact .inl rfl
 |some c=>exact .inr (h c (Xg e))
theorem Nz{n:Int}(h:0<=n/\n<26):low (lt n)=a7:=by
 rcases jfj n with z|z
 .obtain⟨i,rfl⟩:∃i:Nat,n=(i:Int):=⟨n.toNat,by omega⟩
  have key:∀i:Fin 26,letters.getD i.val 0≠0:=by decide
  exact absurd z (key ⟨i,by omega⟩)
 .exact z
theorem jaj{c:Int}{m k:Nat}:∀x∈wrd c m k,low x=a7:=by
 have hl:∀x∈Zr c,low x=a7:=λx hx=>by obtain⟨k,_,rfl⟩:=Xn.mp hx;exact Nz nofun
 have hs:∀x∈Qw c (szN c),low x=a7:=λx hx=>by obtain⟨k,_,rfl⟩:=Xn.mp hx;exact Nz nofun
 intro x hx;unfold wrd at hx;split at hx
 .split at hx
  .exact hl x (eC hx)
  .exact hl x (i5 hx)
 .rcases Te.mp hx with z|z
  .exact hs x (eC z)
  .rcases xj.mp z with z|z
   .rw[z];exact Nz nofun
   .exact hs x (i5 z)
theorem K8{c:Int}{m:Nat}(hm:m<=6):(∀k,k<m->(wrd c m k).length=stN c m+k+1)\/∀k,k<m->(wrd c m k).length=szN c+1:=by
 have a:=j3n c;have l8:=Jp c;have ls:=v7 c (szN c);have st:=j2j (c:=c) hm;by_cases h:c%4<2
 .refine .inl λk hk=>?_;unfold wrd;rw[if_pos h];split
  .rw[Xj];omega
  .rw[Pj];omega
 .refine .inr λk hk=>?_;unfold wrd;rw[if_neg h,Xb,X4,Xj,Pj];omega
theorem in_words{c:Int}{m:Nat}{l:List Nat}(h:sL l∈qi c m):∃k,k<m/\wrd c m k=l:=by obtain⟨k,hk,e⟩:=Xn.mp h;exact⟨k,Xm.mp hk,j4h e⟩
theorem Eb {c:Int} {m:Nat} (hm:m<=6):("":ah)∉qi c m:=λh=>by obtain⟨k,hk,e⟩:=in_words (l:=[]) h;rcases K8 (c:=c) hm with z|z<;>(have:=z k hk;rw[e]at this;simp at this)
theorem j4y{c:Int}{m:Nat}{l:List Nat}(hx:l.all low=a6):sL l∉qi c m:=λh=>by obtain⟨k,hk,e⟩:=in_words h;have:l.all low=a7:=Xq.mpr λx hx=>jaj (c:=c) (m:=m) (k:=k) x (by rw[e];exact hx);rw[hx]at this;cases this
theorem jby {c:Int} {m:Nat} (hm:m<=6):¬(("q":ah)∈qi c m/\("qq":ah)∈qi c m/\("zq":ah)∈qi c m):=λ⟨h1,h2,h3⟩=>by
 obtain⟨k1,b1,e1⟩:=in_words (l:=[113]) h1;obtain⟨k2,b2,e2⟩:=in_words (l:=[113,113]) h2;obtain⟨k3,b3,e3⟩:=in_words (l:=[122,113]) h3;rcases K8 (c:=c) hm with z|z
 .have y2:=z k2 b2;have y3:=z k3 b3;rw[e2]at y2;rw[e3]at y3;simp at y2 y3;have:k2=k3:=by omega
  subst this;rw[e2]at e3;exact absurd e3 (by decide)
 .have y1:=z k1 b1;have y2:=z k2 b2;rw[e1]at y1;rw[e2]at y2;simp at y1 y2;omega
theorem jjd{c:Int}{m:Nat}{P:List ah}(hm:m<=6)(hp:(qi c m).Perm P):4<=(Sw.filter λw=>!P.contains w).length:=by
 have nc:∀{w:ah},w∉qi c m->P.contains w=a6:=λ{w} h=>by
  cases e:P.contains w with
  |false=>rfl
  |true=>exact absurd (hp.mem_iff.mpr (Pb.mp e)) h
 have c1:=nc (Eb (c:=c) hm);have c2:P.contains ("A":ah)=a6:=nc (j4y (l:=[65]) (by decide));have c3:P.contains ("no place":ah)=a6:=nc (j4y (l:=[110,111,32,112,108,97,99,101]) (by decide));have c4:P.contains ("q":ah)=a6\/P.contains ("qq":ah)=a6\/P.contains ("zq":ah)=a6:=by
  by_cases a:("q":ah)∈qi c m
  .by_cases b:("qq":ah)∈qi c m
   .by_cases d:("zq":ah)∈qi c m
    .exact absurd ⟨a,b,d⟩ (jby hm)
    .exact .inr (.inr (nc d))
   .exact .inr (.inl (nc b))
  .exact .inl (nc a)
 unfold Sw;simp only[jv,List.filter_nil,c1,c2,c3,jU,if_true];rcases c4 with z|z|z<;>rw[z]<;>simp only[jU,if_true]<;>(cases P.contains ("q":ah)<;>cases P.contains ("qq":ah)<;>cases P.contains ("zq":ah)<;>cases P.contains ("zqx":ah)<;>decide)
theorem jjc:T "_law_same" = a5 KL.fL_same:=by rfl
theorem W0 {n:Nat} {L:List ah} {A:List Int} (h1:L.length<=1000) (h2:A.length<=1000):evP 1000 G T (n+3) "_law_same" [qD L A,qD L A]=.val (.bl a7):=by
 refine j4g jjc 2 ?_ ?_
 .have d1:D.depL (L.map D.str)<=0:=D.depL_of λd hd=>by obtain⟨x,_,rfl⟩:=Xn.mp hd;simp[D.dep]
  have d2:D.depL (A.map D.int)<=0:=D.depL_of λd hd=>by obtain⟨x,_,rfl⟩:=Xn.mp hd;simp[D.dep]
  unfold qD;simp only[D.dep,D.depL];omega
 .unfold qD;simp only[Ja];refine⟨by simp,Y4 λd hd=>?_⟩;simp only[xj,cJ,or_false]at hd;rcases hd with rfl|rfl
  .simp only[Ja];exact⟨by simpa using h1,Y4 λd hd=>by obtain⟨x,_,rfl⟩:=Xn.mp hd;simp[Ja]⟩
  .exact j57 h2
theorem jip{L:List ah}{A:List Int}:vy (qD L A)=a7:=by unfold qD;simp only[vy,jq,M5,Jh,Bool.and_self]
theorem jc2{A:List ah}:Jj .ne (.lst (A.map D.str)) (.lst (A.map D.str))=a5 a6:=by rw[j08 (Qa _) (Qa _),Wm,decide_eq_true rfl];rfl
theorem j9v:Jj .eq (.lst [.str "NoPlace"]) (.lst [.str "NoPlace"])=a5 a7:=by rw[j09 (by simp[D.dep,D.depL]) (by simp[D.dep,D.depL])];rfl
noncomputable def S4:List ah:=["","q","zq","B"]
theorem jea:(S4.map D.str:List D)=[.str "",.str "q",.str "zq",.str "B"]:=rfl
theorem j2p {n m:Nat} {L:List ah} {a:List Int} {c:Int} (hm:1<=m/\m<=6) (hL:L.length=m) (hn:L.Nodup) (ha:a.length=2^m) (hE:("":ah)∉L) (hS:∀P:List ah,L.Perm P->4<=(Sw.filter λw=>!P.contains w).length) :
  evP 1000 G T (n+6) "_law_right" [qD L a,.int c]=.val (.bl a7):=by
 obtain⟨P,hp,eo⟩:=j7h (n:=n+4) (L:=L) (c:=c/8) hm hL;have hP:P.length=m:=by rw[<-hp.length_eq,hL]
 have hnP:P.Nodup:=hp.nodup_iff.mp hn;have p64:2^m<=64:=Xd (Pu (by decide) hm.2) (by decide);have hb:0<=c%(m:Int)/\c%(m:Int)<(m:Int):=⟨Xz _ nofun,Ph _ nofun⟩
 obtain⟨t,et⟩:∃t:Nat,c%(m:Int)=(t:Int):=⟨_,(cf hb.1).symm⟩
 have ht:t<L.length:=by omega
 have hpl:=Mz ht;have ats:=j8g ht;generalize L.getD t "" = p at hpl ats;obtain⟨j,hj⟩:∃j,L.idxOf p=j:=⟨_,rfl⟩
 have hjm:j<m:=by rw[<-hj,<-hL];exact t6 hpl
 have w1:=Io (n:=n+1) (s:=D.lst) (.inr rfl) hm hL ha hp;have w2:=Io (n:=n+1) (s:=D.tup) (.inl rfl) (a:=byR a m (pk L P)) hm hP (Vc _ _ _) hp.symm;rw[j0g ha (λr h=>j2n hP h) (λr h=>jbq hL hn hp h.1)]at w2;have w3:=Dj (n:=n+1) hm hL ha hpl hj;have w4:=Dj (n:=n+1) (a:=byR a m (xc j)) hm hL (Vc _ _ _) hpl hj;rw[j0g ha (λr h=>j2m h) (λr h=>ji0 h.1 hjm)]at w4;have w5:=Eh (n:=n+3) hm hL hn ha hpl hj;have w6:=Ou (n:=n+4) (s:=D.lst) (.inr rfl) hm hP hnP;have s1:=W0 (n:=n+2) (L:=P) (A:=byR a m (pk L P)) nofun (by rw[Vc];omega)
 have s2:=W0 (n:=n+2) (L:=L) (A:=a) nofun nofun
 have s3:=W0 (n:=n+2) (L:=L) (A:=byR a m (xc j)) nofun (by rw[Vc];omega)
 obtain⟨B,hB,nB,eB⟩:=j5m (n:=n+4) (c:=c/4096) hm hP hnP (hS P hp);have r0:=j7c (n:=n) (jbm (n:=n) (s:=D.lst) (a:=a) (.inr rfl) nofun hB λz=>nB (z.trans hp));have r1:∀R:List D,evP 1000 G T (n+5) "_law_refused" [qD L a,.lst (.str "" :: R),.int 1]=.fresh [.str "NoPlace"]:=λR=>j7b (n:=n) (j2b (n:=n) (a:=a) hE (by decide +kernel));have hEP:P.contains ("":ah)=a6:=by
  cases e:P.contains ("":ah) with
  |false=>rfl
  |true=>exact absurd (hp.mem_iff.mpr (Pb.mp e)) hE
 rw[jt (F:=O4) (by rfl) rfl];simp only[O4,Up,enter];unfold qD at *;ext;rw[at0];ext;rw[hL,et,ats];ext;erw[at0,eo,w6];rw[q9 (l:=(byR a m (pk L P)).map D.int) (by rfl) (by simp[vq];omega) ?_ (.inl rfl)];rotate_left
 .rw[vq,byR,Xc,Xc];refine ju λk hk=>zj (by ext) ?_;have e:evP 1000 G T (n+5) "_law_answer" [.tup [.tup (L.map D.str),.tup (a.map D.int)],.sct (P.zip (dg m k))]=_:=Dw (n:=n+4) (f:=λw=>rv P (dg m k) w) hm hL ha (λw hw=>O7 (hp.mem_iff.mp hw) (by rw[Q9,hP])) λw hw=>Wd (j3f m k) _;ext;simp only[bY];rw[e];ext;rfl
 ext;have nq:vy (.tup [.tup (P.map D.str),.tup ((byR a m (pk L P)).map D.int)])=a7:=jip;rw[w1,j2r,je2 nq];ext;erw[s1,jc2,at0,w2,s2,w3,w5,s3,w4,s2];by_cases h3:0<c/1024%3
 .ext
 ext;rw[eB];ext;have cm:Je (Jz [11] (ev (evP 1000 G T (n+5)) G (.cons (.cmp .notin (.var 11) (.var 3)) .nil)) (ev (evP 1000 G T (n+5)) G (.var 11)) [.val (.tup [.tup (L.map D.str),.tup (a.map D.int)]),.val (.int c),.val (.str p),.val (.lst (P.map D.str)),.own (P.map D.str),.val (.tup [.tup (P.map D.str),.tup ((byR a m (pk L P)).map D.int)]),.un,.val (.tup [.tup (P.map D.str),.tup ((byR a m (pk L P)).map D.int)]),.val (.tup [.tup (L.map D.str),.tup ((byR a m (xc j)).map D.int)]),.own (B.map D.str),.un,.un]) (S4.map D.str)=a5 ((S4.filter λw=>!P.contains w).map D.str):=by
  refine V3 (g:=D.str) (p:=λw=>!P.contains w) λw hw=>Vf (b:=!P.contains w) ?_ λ_=>?_
  .ext;rw[Vz _ (.inr rfl)];ext
  .ext
 have f4:(S4.filter λw=>!P.contains w).map D.str=.str "" :: (([("q":ah),"zq","B"]).filter λw=>!P.contains w).map D.str:=by unfold S4;rw[jv,hEP];rfl
 rw[jea,f4]at cm;have l4:((([("q":ah),"zq","B"]).filter λw=>!P.contains w).map D.str).length<=3:=by rw[xf];exact cG _ _
 generalize (([("q":ah),"zq","B"]).filter λw=>!P.contains w).map D.str=R4 at *;rw[q9 (by rfl) (by decide) cm (.inl rfl)];ext;have cw:∀{f:ah}{x z:D}{y:List D},Jv (evP 1000 G T (n+5)) f (a5 (.a [.e x,.w y,.e z]))=rcT (evP 1000 G T (n+5) f [x,.lst y,z]):=λ{f x z y}=>by rw[Fx (xs:=[.e x,.w y,.e z]) rfl];rfl
 rw[cw,r0,j9n (by rfl)];ext;rw[j9v];ext;rw[cw,r1,j9n (by rfl)];ext;rw[j9v];ext
noncomputable def depth:Nat:=8
theorem jga:T "_law_words" = a5 KW.fL_words:=by rfl
theorem jgb:T "_law_question" = a5 KW.fL_question:=by rfl
theorem lawTrue:∀ns:List Int,ns.length<=63->evP 1000 G T (depth+1) "law" [.lst (ns.map D.int)]=.val (.bl a7):=by
 intro ns hns;obtain⟨ms,hms,hml⟩:=j8x ns (a5 4) (a5 14);have qe:=Lg (fu:=1000) (n:=6) (G:=G) ja1 jga jgc jgb (ns:=ns) (a:=0) (most:=6) (by decide) (by decide);have a01:=jd9 (fu:=1000) (n:=6) (G:=G) (T:=T) jgc (ns:=ns) (a:=0) (most:=6) (by decide);have hm:=Ny (ns:=ns) (a:=0) (most:=6) (by decide);obtain⟨m,em⟩:∃m:Nat,m=V6 ns 0 6:=⟨_,rfl⟩
 have al:(Vr 1000 G T 6 ns 0 6).length=2^m:=by simp[Vr,<-em]
 rw[<-em]at hm;rw[<-em]at qe;have qe:evP 1000 G T 8 "_law_question" [.lst (ns.map D.int),.int 0,.int 6]=_:=qe;have wl:=Uv (qt ns (0+1)) m;have wn:=K9 (c:=qt ns (0+1)) hm.2;have we:=Eb (c:=qt ns (0+1)) hm.2;have ws:∀P,(qi (qt ns (0+1)) m).Perm P->_:=λP hp=>jjd hm.2 hp;generalize qi (qt ns (0+1)) m=L at *;generalize Vr 1000 G T 6 ns 0 6=a at *;have c3:evP 1000 G T 8 "_law_cell" [.lst (ns.map D.int),.int 3]=.val (.int (qt ns 3)):=Y9 (n:=7) (k:=3) ja1 (by decide);have p64:2^m<=64:=Xd (Pu (by decide) hm.2) (by decide);have d1:evP 1000 G T 8 "denied" [qD L a]=_:=M9 (n:=7) (ws:=L) (a:=a) nofun
 have d2:evP 1000 G T 8 "denied" [qD L (a.map λx=>1-x)]=_:=M9 (n:=7) (ws:=L) (a:=a.map λx=>1-x) (by simp;omega);have ea:(a.map λx=>1-x).map (λx=>1-x)=a:=by
  rw[Xc]
  conv=>rhs;rw[<-List.map_id a]
  refine t7 λx _=>?_;show 1-(1-x)=x;omega
 rw[ea]at d2;have s1:evP 1000 G T 8 "_law_same" [qD L (a.map λx=>1-x),qD L (a.map λx=>1-x)]=_:=W0 (n:=5) nofun (by simp;omega)
 have s2:evP 1000 G T 8 "_law_same" [qD L a,qD L a]=_:=W0 (n:=5) nofun nofun
 have rr:∀c:Int,evP 1000 G T 8 "_law_right" [qD L a,.int c]=_:=λc=>j2p (n:=2) hm wl wn al we ws;rw[jt (F:=j39) (by rfl) rfl];simp only[j39,j3m,enter,depth];unfold qD at *;ext;rw[qe];ext;rw[at0,at1];ext;rw[q9 (l:=(a.map λx=>1-x).map D.int) (by rfl) (by rw[xf];omega) ?_ (.inl rfl)];rotate_left
 .rw[Xc];exact ju λx hx=>zj (by ext) (by ext;rfl)
 ext;erw[d1,s1,d2,s2];rw[c3,hms];ext;rw[<-xx];refine Vi (λi ρ=>∃s4,ρ=[.val (.lst (ns.map D.int)),.val (.tup [.tup (L.map D.str),.tup (a.map D.int)]),.val (.tup [.tup (L.map D.str),.tup ((a.map λx=>1-x).map D.int)]),.un,s4]) ⟨.un,rfl⟩ ?_ ?_
 .rintro i d ρ hi ⟨s4,rfl⟩;obtain⟨z,hz,rfl⟩:=Ud hi;simp only[Qv];ext;rw[rr];ext;exact⟨_,rfl,_,rfl⟩
 .rintro ρ' ⟨s4,rfl⟩;ext
end K09
end
open PySem PySem.W PyProof.Rows
local macro_rules | `(tactic| walk_at "lf") => `(tactic| (refine' L2.lf_mk ?a ?l ?c ?k; (case a => k_is); (case l => k_is); (case c => k_is); (case k => k_is)))
set_option Elab.async false
namespace PySem.W.Fast
def tw1661275976313965334:=0
def tw3276071997451021029:=0
def tw2643102823926764181:=0
def tw12437409223154504931:=0
def tw5799037078874868057:=0
def tw16338425121446837162:=0
def tw10542847258861644475:=0
def tw18304809817265603422:=0
def tw494788180793253293:=0
def tw10670779582549383055:=0
def tw12023508976205733583:=0
def tw12027792839380820870:=0
def tw10953492350549889105:=0
def tw14982940784650560309:=0
def tw1567511562350336708:=0
def tw7948427394002783494:=0
def tw377089210103996021:=0
def tw4937873474903870547:=0
def tw6003510400549861637:=0
def tw1371355412137224278:=0
def tw10327851965304801357:=0
def tw9488987060801978478:=0
def tw726048466476821814:=0
def tw10060421647905642537:=0
def tw13851473846941215343:=0
def tw4845627675583419524:=0
def tw12084368884574651831:=0
def tw18178538951744282633:=0
def tw7736671936051615011:=0
def tw1602556185685564201:=0
def tw11035954831145542523:=0
def tw3566664511726287959:=0
def tw12177257487607306990:=0
def tw17072850423119247837:=0
def tw7783331436157576277:=0
def tw9734997348446393324:=0
def tw112386122614067996:=0
def tw2149069154508794402:=0
def tw14015872224994006864:=0
def tw11045074931702424666:=0
def tw17681432232363234279:=0
def tw5905665541831523276:=0
def tw12784944274757489623:=0
def tw13062233242084172751:=0
def tw13423000924340527663:=0
def tw16033654918625037807:=0
def tw8353646815429903142:=0
def tw14798686429628505942:=0
def tw13841493268775425513:=0
def tw4333607247284199407:=0
def tw15819581880429534873:=0
def tw7419892844766280223:=0
def tw16114545224076185018:=0
def tw8199344689582860992:=0
def tw12109747261255095559:=0
def tw9498728287516441510:=0
def tw14856207394356700946:=0
def tw6928263938506323839:=0
def tw6685450187458935193:=0
def tw5381600397857562705:=0
def tw8429512512087185767:=0
def tw7106566679884848073:=0
def tw727289670423870910:=0
def tw13209099413234547765:=0
def tw10177081519144480733:=0
def tw8791401268138114665:=0
def tw3912358714145623356:=0
def tw15843415442266658893:=0
def tw14601708829184566465:=0
def tw11927339014996206719:=0
def tw3675399231605908588:=0
def tw1207263136347552178:=0
def tw16439580808356613498:=0
def tw18016553372035627268:=0
def tw16924496835309593459:=0
def tw5838813023477972918:=0
def tw1463844900072791743:=0
def tw6688594681361693950:=0
def tw866475641833927785:=0
def tw9521292237977781306:=0
def tw705963834626630067:=0
def tw15381917455488710144:=0
def tw3518748294976065894:=0
def tw11139832426299301417:=0
def tw8645460419387998736:=0
def tw10002394946653339910:=0
def tw2157096038547676067:=0
def tw9382127747062617210:=0
def tw10894927920757665613:=0
def tw10935763989490182506:=0
def tw17641975190758300727:=0
def tw3676189215356412689:=0
def tw15466186314458682211:=0
def tw945163816716640797:=0
def tw8885592520493326791:=0
def tw3520615655707991129:=0
def tw7743407703970941023:=0
def tw12803085113685051255:=0
def tw15803750974919723709:=0
def tw7998992809534032041:=0
def tw1159353289923125206:=0
def tw2429303557505294175:=0
def tw17814519471597468131:=0
def tw821694227553745601:=0
def tw10566816098270439746:=0
def tw15566457287060401330:=0
def tw8767637118771505455:=0
def tw17384936592119198953:=0
def tw16538823109208051585:=0
def tw1718048613962656094:=0
def tw1523420645164736283:=0
def tw7590786322027232776:=0
def tw2542679255131572598:=0
def tw5750808306420050431:=0
def tw13543530730409364079:=0
def tw1721434681801374478:=0
def tw9986611139113909753:=0
def tw15888954462514705836:=0
def tw1607165621822732782:=0
def tw3350172045276340605:=0
def tw14594208428218930442:=0
def tw2333402662726264184:=0
def tw18003500495916535184:=0
def tw8947517573205007010:=0
def tw8502067055763345872:=0
def tw13473187825204171712:=0
def tw779655632292703076:=0
def tw218635583528122911:=0
def tw5952632310392177213:=0
def tw10900661034701110203:=0
def tw12520923089797237340:=0
def tw18265214985796775289:=0
def tw4846219386772265690:=0
def tw9478620738010291828:=0
def tw808962321228669301:=0
def tw8389564564342155742:=0
def tw4649856481326532144:=0
def tw3557498342075351855:=0
def tw7948724236745901161:=0
def tw7368701105745459770:=0
def tw4729585439504439057:=0
def tw3034818699473161636:=0
def tw2680270333998662083:=0
def tw8177500626142844693:=0
def tw3664244352229461320:=0
def tw14406351032825734980:=0
def tw14150991321733103228:=0
def tw261688937272554085:=0
def tw10991410361924161444:=0
def tw1657378299784748201:=0
def tw5822975318857735207:=0
def tw5657067941358658169:=0
def tw11741759076294275319:=0
def tw9232969670522157908:=0
def tw1577509821292463713:=0
def tw11877070862104582189:=0
def tw15688322796459046062:=0
def tw9118457068239395281:=0
def tw8053155395404997258:=0
def tw14322145156284971869:=0
def tw3717382482957098759:=0
def tw9529284826806350744:=0
def tw10481846198361485972:=0
def tw6023306319128600732:=0
def tw9379186581914904550:=0
def tw4278306891120887088:=0
def tw11992088879260678128:=0
def tw9203424555820223018:=0
def tw16853320241142227334:=0
def tw13048960554989524045:=0
def tw4906826454719714541:=0
def tw6818920274194718082:=0
def tw857304464716693575:=0
def tw15174248014511362538:=0
def tw16565271907322626842:=0
def tw8178928952292030462:=0
def tw14447367120711275387:=0
def tw16488326496819451319:=0
def tw5557706691337764358:=0
def tw9523067659141887038:=0
def tw469234742645672630:=0
def tw3177527343981014609:=0
def tw8379927125209994120:=0
def tw7886595488959096779:=0
def tw2390727479790852984:=0
def tw16973586795641485668:=0
def tw9214771418182201732:=0
def tw2262651483159574096:=0
def tw14621348464261794759:=0
def tw6421243329681671616:=0
def tw5389234672338375704:=0
def tw16679238531456566176:=0
def tw11319670538272833678:=0
def tw4564121805583503075:=0
def tw17806928991436985740:=0
def tw14857983266038231136:=0
def tw17283108473169076539:=0
def tw15708506536235274609:=0
def tw8074156658317897185:=0
def tw15178981741575007581:=0
def tw12999112178759081255:=0
def tw15934036676269276542:=0
def tw11496796299707841922:=0
def tw6789895581760652618:=0
def tw3744664836742267133:=0
def tw12481854101884136994:=0
def tw189535595482730142:=0
def tw11492506894893455404:=0
def tw2584143139682348729:=0
def tw16981339602490450958:=0
def tw6808397852531760908:=0
def tw5125560340657326872:=0
def tw4126035505262738294:=0
def tw3428830667422775613:=0
def tw10331353139657254228:=0
def tw2189184625388194065:=0
def tw6036530663679022500:=0
def tw12104916741394758505:=0
def tw9704892882187316973:=0
def tw3420464591297641455:=0
def tw3250758258162667508:=0
def tw12398721456016406047:=0
def tw2583244146253675597:=0
def tw18214916366684294180:=0
def tw14512419251318644379:=0
def tw16855488195402826400:=0
def tw12011118333787684587:=0
def tw16436063194692464591:=0
def tw1104623397270572746:=0
def tw8700631511219880381:=0
def tw12429244970512184861:=0
def tw11809704421407483689:=0
def tw8511599106524742937:=0
def tw13451862134051152229:=0
def tw7529394906117335122:=0
def tw11317838694429307834:=0
def tw6233315661100427936:=0
def tw6776466537851867597:=0
def tw15816402374089548363:=0
def tw9403028023642866517:=0
def tw199442009419562942:=0
def tw6017186377080438227:=0
def tw17948616073209409289:=0
def tw2662511697987671146:=0
def tw7840388912260306953:=0
def tw14720861684789285489:=0
end PySem.W.Fast
set_option maxRecDepth 100000 in
set_option maxHeartbeats 0 in
theorem PySem.Challenge.cw_leastasks_k09_denied_turned_put_in_order_holds : PySem.Challenge.rw_leastasks_k09_denied_turned_put_in_order.Holds := by
  w_on; o_law; k_head; (case hw => w_witness2)
  k_fill
  refine L2.walkL (l := PySem.Challenge.rw_leastasks_k09_denied_turned_put_in_order) (k := L2.lv (K09.depth + 1)) (x := "_law_script") (by decide) rfl rfl (ts := []) (fun w h Y => ⟨PySem.W.kIn_of Y, fun _ h => nomatch h⟩) ?tz ?F
  case tz => intro w; kernel_rfl
  case F =>
    intro w mg fa h KX Gn hmg tz
    refine' K09.head KX Gn hmg ?h0 ?h1 ?h2 ?h3 ?h4 ?h5 ?h6 ?h7 ?h8 ?h9 ?h10 ?h11 ?h12 ?h13 ?h14 ?h15 ?h16 ?h17 ?h18 ?h19 ?h20 ?h21 ?h22 ?h23 ?h24 ?h25 ?h26 ?bz tz ?gn0 ?gn1 ?ga2l ?gn2 ?exa ?xz K09.lawTrue
    (case h0 => walk_at "lf")
    (case h1 => walk_at "lf")
    (case h2 => walk_at "lf")
    (case h3 => walk_at "lf")
    (case h4 => walk_at "lf")
    (case h5 => walk_at "lf")
    (case h6 => walk_at "lf")
    (case h7 => walk_at "lf")
    (case h8 => walk_at "lf")
    (case h9 => walk_at "lf")
    (case h10 => walk_at "lf")
    (case h11 => walk_at "lf")
    (case h12 => walk_at "lf")
    (case h13 => walk_at "lf")
    (case h14 => walk_at "lf")
    (case h15 => walk_at "lf")
    (case h16 => walk_at "lf")
    (case h17 => walk_at "lf")
    (case h18 => walk_at "lf")
    (case h19 => walk_at "lf")
    (case h20 => walk_at "lf")
    (case h21 => walk_at "lf")
    (case h22 => walk_at "lf")
    (case h23 => walk_at "lf")
    (case h24 => walk_at "lf")
    (case h25 => walk_at "lf")
    (case h26 => walk_at "lf")
    (case gn0 => k_is)
    (case gn1 => k_is)
    (case gn2 => k_is)
    (case ga2l => k_is)
    (case bz => kernel_rfl)
    (case exa => kernel_rfl)
    (case xz => kernel_rfl)
#print axioms PySem.Challenge.cw_leastasks_k09_denied_turned_put_in_order_holds