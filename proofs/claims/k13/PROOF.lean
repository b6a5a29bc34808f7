import PyProof.Rows.All
import Wide.All
import OpenK.AllK
import Wide.FinOn
import Lean
import PyProof.EqAt
import PyProof.EqKinds
import PyProof.TupleCall
import PyProof.Rows.SetFrom
import KE.KDictList
import KE.KMinKey
import PyProof.ListRange
import KE.KRevIter
import PyProof.TupleOfGen
import PyProof.StrBlockL
import PyProof.Rows.StrSplitCount
import PySem.Challenge.RW_leastasks_k13_rings_and_joined
set_option Elab.async false
set_option linter.all false
set_option maxRecDepth 100000
set_option maxHeartbeats 4000000
set_option genSizeOf false
set_option genInjectivity false
open Option renaming some→aa,none→ah,getD_some→dN,isSome_some→f6,bind→gH,join_some→iq,getD_none→ir,map_some→iN
open Bool renaming false→ae,true→af,or_eq_true→cG,not_eq_true'→dH,eq_iff_iff→eN,and_false→gf,or_false→gz,and_true→jP
open PySem renaming wpAny_bind→ag,starEach→ai,Value→aj,Addr→ak,Str→ao,Shared→aq,sizeLine→ar,Expr→au,wpAny_pure→av,mainGlobals→aw,wpAny→ax,Program→ay,model→aA,eval→aB,World→aD,Around→aF,Heap→aG,swapsWith→aL,FuncData→aM,behindInMarks→aO,backTo→aP,Stmt→aQ,Pos→aR,wpAny_field→aS,attributeBase→aU,wpAny_Call_Name_kw→aV,cellsFrom→aW,foldedSetIterable→aX,Keyword→b0,keywordEach→b7,wpAny_callSpecial?_slot→bb,wpAny_holding→bc,wpAny_seqItems→be,bootBuiltins→bg,binaryOp→bh,compareOp→bj,wpAny_truthy_bool→bq,IsPair→bu,wpAny_setField_rec→bC,call_meets→bD,cLine→bE,assignEach→bF,Scope→bG,NameKind→bH,wpAny_newObj_type→bM,holding→bN,codeAny_mono→bO,backToKw→bP,wpAny_mono→bS,wpAny_call_entry→bV,reprText→bW,Builtin→c8,wpAny_passesOwn→cf,sizeLine_eq→cg,boot_len→cj,wpAny_pyIter_list→cq,codeAny→cF,JoinOk→cJ,bindArgs→cX,typeIs_str→d9,assign→de,sliceBounds→dh,ZipApart→di,Obj→dm,codeAny_builtin→dt,Env→du,strKind→dE,Tok→dF,pyNext→dQ,builtinsNs→dR,standAt→eB,IsZip→eC,draw→eQ,isTrue→eX,wpAny_execs_nil→eY,letOwnedTupleGo→eZ,wpAny_updateSeq_pair→fe,recursionLimit→fg,intItems→fh,Result→fi,IsPart→fj,GenState→fk,PassesOwn→fv,wpAny_standAt→fG,wpAny_onRaise→fH,wpAny_attempt→fJ,field→fK,wpAny_pyIter_tuple→fQ,wpAny_call→fR,typeIs_int→fS,sysModules→fU,rawInt→fV,spliced→g4,concat_meets→g6,callerA→g9,call→gb,BindsTo→gc,wpAny_pyIter_zip→gj,scanBound→gk,noFill_tuple_add→gm,numAt→gv,CmpOp→gw,Within→gB,wpAny_rule→gS,newFunctionEnv→gT,wpAny_binaryOp_repeat_ref→gZ,wpAny_comprehension_free→i4,swapsWithSole→i5,swappedStores→i6,seq_tuple_add→i7,plainId_quiet→i8,pushCells→ie,getMethod→ig,bindL→ij,bindC→ik,Arguments→ip,wpAny_typeOf→iG,seqSlot_of→iH,seqIndex_neg→iI,pyIter→iJ,getItem→iK,Fin→iL,wpAny_isTrue_Compare1→iR,builtinLookup_eq_fast→iS,wpAny_letGo→iW,seqIndex_of→iX,lookup_relabel_local→iY,intItems_at→iZ,Operator→j3,Model→ja,wpAny_Name→jK,typeLookup→jL,truthy→jM,getattributeRaised→jN,wpAny_assign_Name→jW,call_sum_walkAnyS→jX,argBest→jY,again→jZ,wpAny_isInstance→kr,wpAny_execs_cons→ku,seqIndex?→kx,DictEntry→ky,typeLookup_type→kX,pushCells_keeps→kY,Sem→kZ,wpAny_setField→lC,wpAny_newTuple→lD,wpAny_Compare1→lE,isSubtype_stop→lF,fitsIndex_both→lG,firstArgMember→lH,Params→lI,Meets→lJ,intBits_le_64→lN,evalPart_none→lO,call_list_seq→lP
open List renaming replicate→az,range→aK,drop_zero→cn,filterMap_cons→cB,drop_succ_cons→cC,any_cons→cD,set_cons_zero→cH,getElem?_cons_succ→cI,take_of_length_le→cL,take_add_one→cM,length_range→cN,take_length→cS,not_mem_nil→cT,foldl→cU,mem_append_left→cY,lookup→cZ,nil_append→d5,forIn_cons→d6,find?_cons→d7,set_cons_succ→dn,getElem?_append_right→dq,getElem?_set→dG,sum_cons→dO,range_succ_eq_map→eE,map_set→eF,map_nil→eG,of_mem_zip→eM,length_replicate→eP,mem_of_mem_take→eS,getElem?_set_ne→eU,forIn_nil→eV,getElem?_range→f7,ext_getElem?→fw,any_eq_false→fB,map_id→fW,length_zip→fX,getElem?_zip_eq_some→gn,all_cons→gx,eraseIdx_cons_succ→gC,getElem?_set_self→gI,all_map→gJ,singleton_append→gX,mem_of_mem_drop→hJ,length→hR,getElem?_mapIdx→hZ,mem_map_of_mem→i9,getD_cons_succ→ia,zip_cons_cons→iu,map_replicate→iy,forIn_toArray→iz,foldl_toArray→iA,filter_append→iB,reverse_cons→iO,pairwise_map→iP,zipIdx_cons→iT,any_toArray→iU,zipIdx_nil→jC,Nodup→lj
open Option.some renaming inj→aC
open PySem.Builtin.SmallTypes renaming nextOf→aE,ownedTupleIsFree→aJ,ownedTupleHandOut→dk
open PySem.Value renaming ref→aH,none→aZ,str→b8,bool→bo,int→br,type→cQ,isStrOf→jD,float→jR,bytes→jS
open PySem.Txt renaming split→aI,join→bZ,slice→c9,mul→iD
open PySem.Builtin.Str renaming strSliceIndices→aN,tooLong→b9,occurrences→bB,strKind→cP,glued→gr,partsBetween→lB
open False renaming elim→aT
open Or renaming inl→aY,inr→bJ
open PySem.W renaming nsIn→ba,OpenLaw→dJ,WalkO→i3,Frag→ly
open PySem.NameKind renaming free→bp,cell→bU
open PyProof.Rows renaming envOfC→bx,AllBare→eD,IntsAre→gG,cnt_cons→gU,subscriptTail_builtinR→iM,IsTup→jv,FormattedValue_plain→jA,Call_→jB,slot_tuple_getitem→jO,formatField_str→l0,boot_isinstance→l9,tail_any→lK,slicePart_none→lL,boot_zip→lM,subscriptTail→lQ
open PySem.F renaming slot_list_append→bK,type_list_append→cx,slot_tuple_iterator_next→cy,args_tuple_add_2→dr,slot_str_split→dC,entry_tuple_add→dD,slot_tuple_add→dP,args_zip_next_1→dU,entry_zip_next→eJ,slot_int_rmul→eR,args_str_split_2→fD,excBase_ValueError→fO,entry_str_split→fP,plainAttrs_str→gh,args_tuple_iterator_next_1→gi,entry_tuple_iterator_next→gq,slot_list_extend→gR,slot_str_join→ib,slot_list_pop→ic,args_object_init_3→iF,args_tuple_mul_2→iV,entry_tuple_mul→jE,args_int_rmul_2→jF,typeCall_zip_2→jH,slot_tuple_mul→jI,entry_int_rmul→jJ,newCall_zip_2→jT,fills_int_mul→jU,entry_zip_new→jV,called_zip→lA
open Sum renaming inr→bQ,inl→fC
open PySem.PassesOwn renaming never→bR,leaving→eW
open PySem.Builtin.Slice renaming slicePlaces→bX,sliceAdjust→cW,sliceApplied→fb,slicePartIndex→ko,sliceFields→kq
open PyProof.Rows.F renaming plain_set_update_loop→bY,entry_set_update_loop→dM
open PySem.Builtin.Tuple renaming tupleExact→c7,tupleTooMany→f9,tupleItemsOf→kn
open PySem.Builtin.List renaming listTooLong→cb
open ForInStep renaming yield→cu
open PySem.Str renaming ofString→cw,empty→dW,cps→iQ,join→jG,length→lz
open Nat renaming zero_add→cz,lt_succ_of_lt→cO,zero_le→d4,lt_of_le_of_lt→dw,le_of_lt→eK,mul_comm→fF,pow_succ→gW,succ_mul→kz,min_self→kA,le_of_eq→kB,log2_lt→lh
open Array renaming toList_append→cA,length_toList→d8,append_inj_right→dZ,getElem?_toList→gN,toList→jQ
open PySem.Calls renaming spliced_cons→cE,evalArgs_plain→cV,spliced_nil→dB,callWith_builtin→dY,Name_function_global→fZ
open PySem.Heap renaming SameBut→cK,ExtBut→fN,get?_update_other→gD,get?_update_self→gO
open PySem.Around renaming under_plainId→cR,under→gu,frames_deeper→gE
open Int renaming emod_nonneg→df,zero_add→dj,natCast_nonneg→fm,emod_lt_of_pos→fq,fdiv_eq_ediv_of_nonneg→gp,ediv_eq_zero_of_lt→gY,add_mul_ediv_left→i0,toNat_of_nonneg→iC,mul_assoc→k6,ne_of_gt→kE,pow_pos→lq,mul_one→lr,le_refl→lx
open Classical renaming propDecidable→dy
open Ne renaming symm→dS
open PySem.SeqAt renaming EqAt→dX,RcAt→fY
open List.cons renaming inj→eO
open PySem.Obj renaming mapSeq→fc,data_mapFields→iE
open Sum.inr renaming inj→ft
open PySem.Builtin.Dict renaming updateFrom→fE,selfAndRest→kU,pairItems→kW
open Pure renaming pure→fM
open List.Pairwise renaming nil→gd,imp_of_mem→kC,imp→kD
open PySem.EqMixed renaming ne_str_int→k7,ne_str_bool→k8,ne_int_str→k9,ne_bool_str→ka,eq_str_int→ke,eq_str_bool→kg,eq_int_str→ki,eq_bool_str→kl
open PySem.EqNone renaming ne_str_none→kF,ne_none_str→kH,ne_none_none→kI,ne_none_int→kJ,ne_none_bool→kK,ne_int_none→kL,ne_bool_none→kM,eq_str_none→kN,eq_none_str→kO,eq_none_none→kP,eq_none_int→kQ,eq_none_bool→kR,eq_int_none→kS,eq_bool_none→kT
def kh:=@List.getElem?_eq_getElem
def kj:=@PySem.Heap.get?_push_of_some
def km:=@List.mem_cons_of_mem
def xf:=@Bool.false_ne_true
def xg:=@List.length_map
def xj:=@List.getD_eq_getElem?_getD
def xm:=@List.mem_cons_self
def xn:=@List.mem_cons
def xq:=@PySem.Heap.lt_size
def xr:=@List.length_cons
def xu:=@List.size_toArray
def xx:=@PySem.Heap.get?_push_size
def X3:=@List.mem_singleton
def X4:=@List.map_cons
def X5:=@Nat.le_refl
def X6:=@List.getElem?_map
def X7:=@List.length_append
def X8:=@Nat.ne_of_lt
def Xa:=@List.map_map
def Xb:=@Bool.and_eq_true
def Xc:=@List.lookup_cons
def Xd:=@List.getElem?_eq_some_iff
def Xe:=@List.mem_map
def Xf:=@PySem.Heap.size_push
def Xg:=@List.nodup_cons
def Xh:=@Nat.le_trans
def Xi:=@List.mem_append_right
def Xj:=@List.length_take
def Xk:=@Nat.lt_of_lt_of_le
def Xl:=@List.append_nil
def Xm:=@Option.isSome_iff_exists
def Xn:=@List.mem_of_getElem?
def Xo:=@Int.toNat_natCast
def Xp:=@List.all_eq_true
def Xq:=@Bool.false_eq_true
def Xr:=@List.mem_range
def Xu:=@Nat.lt_trans
def Xv:=@Nat.le_succ
def Xw:=@PySem.W.mg_of
def Xx:=@List.getElem_mem
def Xy:=@PySem.mem_of_lookup
def Xz:=@List.map_append
def ph:=@List.length_drop
def pq:=@Nat.lt_irrefl
def P0:=@List.append_assoc
def Pa:=@List.getElem?_append_left
def Pb:=@PySem.F.plainAttrs_list
def Pg:=@List.flatMap_cons
def Ph:=@List.mem_append
def Pj:=@List.replicate_succ
def Pk:=@Nat.ne_of_gt
def Pn:=@Option.map_eq_some_iff
def Pq:=@List.mem_filterMap
def Pr:=@List.length_nil
def Pu:=@PySem.F.slot_zip_next
def Py:=@List.map_congr_left
def Pz:=@Nat.lt_succ_self
def tu:=@List.cons_append
def T4:=@List.foldl_cons
def T5:=@List.getElem?_eq_none
def T9:=@List.flatten_cons
def Tc:=@Nat.lt_of_succ_le
def k6z:=@And.intro
abbrev k70:=ly
abbrev k71:=aj→aq→Prop
abbrev k72:=List (ak×dm)
abbrev k73:=ao→Option aj
abbrev k74:=("__debug__":ao)
abbrev k75:=("__classdict__":ao)
local macro_rules | `(tactic| omega)=>`(tactic| first | with_reducible assumption | with_reducible exact Nat.le_of_lt (by assumption) | with_reducible exact Nat.le_refl _ | lia)
local macro_rules | `(nofun)=>`(by omega)
section
namespace L2
open PySem PySem.Spec PyProof.Rows
noncomputable abbrev Key:=Sum Int ao
noncomputable def Ci:Key->aj->Bool
 |.inl k,v=>Value.isInt k v
 |.inr x,v=>jD x v
noncomputable def jk8(w:aD):Key->Int
 |.inl k=>hashInt k
 |.inr x=>hashStr w x
theorem v7:∀{k:Key}{v:aj},Ci k v=af->(∃i t,k=fC i/\v=br i t)\/(∃x t,k=bQ x/\v=b8 x t)
 |.inl i,v,h=>by obtain⟨t,e⟩:=Value.isInt_shape (k:=i) (v:=v) h;exact .inl ⟨i,t,rfl,e⟩
 |.inr x,v,h=>by obtain⟨t,e⟩:=Value.isStrOf_shape (x:=x) (v:=v) h;exact .inr ⟨x,t,rfl,e⟩
theorem j44(x:ao)(t:dF):Ci (.inr x) (.str x t)=af:=by simp[Ci,jD]
theorem jeo(a b:Int):decide ((fC a:Key)=fC b)=(a==b):=by
 by_cases e:a=b
 .subst e;simp
 .have h:¬(fC a:Key)=fC b:=λq=>e (Sum.inl.inj q);rw[decide_eq_false h];exact(beq_eq_false_iff_ne.mpr e).symm
theorem jel(a b:ao):decide ((bQ a:Key)=bQ b)=decide (a=b):=by
 by_cases e:a=b
 .subst e;simp
 .have h:¬(bQ a:Key)=bQ b:=λq=>e (ft q);rw[decide_eq_false h,decide_eq_false e]
theorem jen(a:Int)(b:ao):decide ((fC a:Key)=bQ b)=ae:=decide_eq_false (λq=>nomatch q)
theorem jem(a:ao)(b:Int):decide ((bQ a:Key)=fC b)=ae:=decide_eq_false (λq=>nomatch q)
noncomputable def Yu(prog:ay)(w:aD):PySem.KeyKind prog w Key where
 is:=Ci
 hash:=jk8 w
 inj:=λv a b ha hb=>by
  rcases v7 ha with ⟨i,t,rfl,rfl⟩|⟨x,t,rfl,rfl⟩
  .rcases v7 hb with ⟨j,u,rfl,e⟩|⟨y,u,rfl,e⟩
   .injection e with e1 _;rw[e1]
   .exact nomatch e
  .rcases v7 hb with ⟨j,u,rfl,e⟩|⟨y,u,rfl,e⟩
   .exact nomatch e
   .injection e with e1 _;rw[e1]
 byValue:=λk v h=>by rcases v7 h with ⟨i,t,rfl,rfl⟩|⟨x,t,rfl,rfl⟩<;>rfl
 pyHash:=λhv h=>by
  rcases v7 hv with ⟨i,t,rfl,rfl⟩|⟨x,t,rfl,rfl⟩
  .exact wpAny_pyHash_int h
  .exact wpAny_pyHash_str h
 eqBool:=λhu hv h=>by
  rcases v7 hu with ⟨i,t,rfl,rfl⟩|⟨x,t,rfl,rfl⟩
  .rcases v7 hv with ⟨j,u,rfl,rfl⟩|⟨y,u,rfl,rfl⟩
   .rw[jeo]at h;exact wpAny_eqBool_int h
   .rw[jen]at h;exact SeqAt.EqAt.int_str i t y u _ _ _ _ h
  .rcases v7 hv with ⟨j,u,rfl,rfl⟩|⟨y,u,rfl,rfl⟩
   .rw[jem]at h;exact SeqAt.EqAt.str_int x t j u _ _ _ _ h
   .rw[jel]at h;exact wpAny_eqBool_str h
 «strs»:=λk x t v h=>by
  rcases v7 h with ⟨i,u,rfl,e⟩|⟨y,u,rfl,e⟩
  .exact nomatch e
  .injection e with e1 _;subst e1;cases v<;>rfl
theorem Rw(prog:ay)(w:aD)(x:ao)(t:dF):(Yu prog w).is (.inr x) (.str x t)=af:=j44 x t
set_option genInjectivity true in
inductive V where
 |non|bl (b:Bool)|int (i:Int)|str (x:ao)|byt (b:Array UInt8)|flt (b:UInt64)|ref (a:ak)|ty (n:String)
 deriving DecidableEq
def RelV:V->aj->Prop
 |.non,u=>u=aZ
 |.bl b,u=>u=bo b
 |.int i,u=>∃t,u=br i t
 |.str x,u=>∃t,u=b8 x t
 |.byt b,u=>∃t,u=jS b t
 |.flt b,u=>∃t,u=jR b t
 |.ref a,u=>u=aH a
 |.ty n,u=>u=cQ n
abbrev Vals:List V->List aj->Prop:=Paired RelV
theorem Vals.length{xs:List V}{us:List aj}(r:Vals xs us):xs.length=us.length:=Paired.length r
theorem Vals.get:∀{xs:List V}{us:List aj}{i:Nat}{x:V},Vals xs us->xs[i]?=aa x->∃u,us[i]?=aa u/\RelV x u
 |_,_,_,_,.nil,e=>by simp at e
 |_,_,0,_,.cons r _,e=>by simp at e;subst e;exact⟨_,rfl,r⟩
 |_,_,i+1,x,.cons _ t,e=>by obtain⟨u,h1,h2⟩:=Vals.get (i:=i) (x:=x) t (by simpa using e);exact⟨u,by simpa using h1,h2⟩
theorem Vals.set{x:V}{u:aj}(r:RelV x u):∀{xs:List V}{us:List aj}(i:Nat),Vals xs us->Vals (xs.set i x) (us.set i u)
 |_,_,_,.nil=>.nil
 |_,_,0,.cons _ t=>.cons r t
 |_,_,i+1,.cons q t=>.cons q (Vals.set r i t)
theorem Vals.append:∀{xs ys:List V}{us ws:List aj},Vals xs us->Vals ys ws->Vals (xs++ys) (us++ws)
 |_,_,_,_,.nil,s=>s
 |_,_,_,_,.cons r t,s=>.cons r (Vals.append t s)
theorem Vals.take:∀{xs:List V}{us:List aj}(n:Nat),Vals xs us->Vals (xs.take n) (us.take n)
 |_,_,0,_=>.nil
 |_,_,_+1,.nil=>.nil
 |_,_,n+1,.cons r t=>.cons r (Vals.take n t)
theorem Vals.drop:∀{xs:List V}{us:List aj}(n:Nat),Vals xs us->Vals (xs.drop n) (us.drop n)
 |_,_,0,r=>r
 |_,_,_+1,.nil=>.nil
 |_,_,n+1,.cons _ t=>Vals.drop n t
def Yk:Option V->Option aj->Prop
 |some v,aa u=>RelV v u
 |none,ah=>True
 |_,_=>False
def KV{κ:Type}:List (κ×V)->List (κ×aj)->Prop:=Paired λ(p:κ×V) (q:κ×aj)=>p.1=q.1/\RelV p.2 q.2
noncomputable def kV:Key->V
 |.inl i=>.int i
 |.inr x=>.str x
inductive HO where
 |lst (xs:List V)
 |tup (xs:List V)
 |dK (kvs:List (Key×V))|dT (kvs:List (List Key×V))
 |dI (xs:List (List Int×ak×aj)) (ep:Nat)
 |set (S:Int->Bool) (n:Nat)
 |ins (C dx:ak) (fs:List (ao×V))
 |own (x:ak)
 |xd (fs:List (ao×V))
 |met (f x:ak)
 |rng (lo hi:Int)
 |frz (o:dm) (u:HO)
 |tbl (ps:Array aj)
 |cod (q:ao)
 |ext (φ:aG->Prop)
noncomputable abbrev Hp:=ak->Option HO
noncomputable def upd(H:Hp)(a:ak)(o:HO):Hp:=λb=>if b=a then aa o else H b
theorem jr{H:Hp}{a:ak}{o:HO}:upd H a o a=aa o:=by unfold upd;rw[if_pos rfl]
theorem jf{H:Hp}{a b:ak}{o:HO}(h:b≠a):upd H a o b=H b:=by unfold upd;rw[if_neg h]
theorem j9v{H:Hp}{a:ak}{o u:HO}:upd (upd H a o) a u=upd H a u:=by funext b;unfold upd;split<;>rfl
theorem qw{H:Hp}{a b:ak}{o:HO}(h:H a=aa o)(h':H b=ah):a≠b:=by intro e;subst e;rw[h]at h';cases h'
def Zo(h:aG)(a:ak):Prop:=∀o,h.get? a=aa o->o.dict=ah
theorem Zo.new(h:aG)(xs:Array aj):Zo (h.push { cls:=.type "tuple",data:=.seq xs }) h.objs.size:=λo e=>by have z:(h.push { cls:=.type "tuple",data:=.seq xs }).get? h.objs.size=aa { cls:=.type "tuple",data:=.seq xs }:=xx _ rfl;rw[z]at e;cases e;rfl
theorem Zo.of{h:aG}{a:ak}{d:Data}{c:aj}(e:h.get? a=aa { cls:=c,data:=d }):Zo h a:=λo e'=>by rw[e]at e';cases e';rfl
def j2j(o:dm)(q:ao):Prop:=∃(vs:Array aj)(t:dF),o.data=.fields vs/\vs[1]?=aa (.str q t)
section
variable(P:ay)(w:aD)
def jm(H:Hp)(h:aG)(a:ak):HO->Prop
 |.lst xs=>xs.length<=ar/\∃(its:List aj)(n:Nat),Vals xs its/\h.get? a=aa { cls:=.type "list",data:=.seq its.toArray n }
 |.tup xs=>xs.length<=ar/\∃its:List aj,Vals xs its/\jv h a its.toArray/\Zo h a
 |.dK kvs=>kvs.length<=ar/\(a==fU)=ae/\∃vs,KV kvs vs/\h.DictOf (Yu P w) a vs
 |.dT kvs=>kvs.length<=ar/\(a==fU)=ae/\∃xs:List (List Key×ak×aj),
   Paired (λ(p:List Key×V) (q:List Key×ak×aj)=>p.1=q.1/\H q.2.1=aa (.tup (p.1.map kV))/\RelV p.2 q.2.2) kvs xs /\
   ∃o es ep,h.get? a=aa o/\o.ExactDict/\o.data=.dict es ep/\es.toList=xs.map (entryOfKey (tupleKind (Yu P w)))/\(xs.map (·.1)).Nodup
 |.dI xs ep=>xs.length<=ar/\(a==fU)=ae/\(xs.map λx=>x.1).Nodup/\∃(o:dm)(es:Array ky),h.get? a=aa o/\o.ExactDict/\o.data=.dict es ep/\es.toList=xs.map (entryOfKey (tupleKind (intKind P w)))
 |.set S n=>h.SetOf (intKind P w) a S n
 |.ins C dx fs=>H dx=aa (.own a)/\fs.length<=1000/\dx≠a/\h.get? a=aa (W.instObj C dx) /\
   ∃mA,h.Ns1 dx mA/\(∀f,Yk (fs.lookup f) (mA f))/\gB mA (fs.map (·.1))
 |.own _=>∃o,h.get? a=aa o
 |.xd fs=>∃mA,h.Ns1 a mA/\∀f,Yk (fs.lookup f) (mA f)
 |.rng lo hi=>∃t u v,h.get? a=aa { cls:=.type "range",data:=.fields #[.int lo t,.int hi u,.int 1 v] }
 |.frz o u=>h.get? a=aa o/\jm H h a u
 |.tbl ps=>h.get? a=aa { cls:=.none,data:=.fields ps }
 |.cod q=>∃ps:Array aj,h.get? a=aa (W.tabObj ps)/\TriplesOk ps.toList/\∀pos cv,codeAmong pos ps.toList=aa cv->∃(c:ak)(oc:dm),cv=.ref c/\H c=aa (.frz oc (.own 0))/\j2j oc q
 |.met f x=>h.get? a=aa (W.methodObj (.ref f) (.ref x))
 |.ext φ=>φ h/\(∃o,h.get? a=aa o)/\∀h1 h2:aG,φ h1->(∀o,h1.get? a=aa o->h2.get? a=aa o)->φ h2
def HOk(H:Hp)(h:aG):Prop:=∀a o,H a=aa o->jm P w H h a o
end
section
variable{P:ay}{w:aD}{H H':Hp}{h h':aG}{a:ak}{o:HO}
theorem jm.lt(x:jm P w H h a o):a<h.objs.size:=by
 cases o with
 |lst xs=>obtain⟨_,_,_,_,e⟩:=x;exact xq e
 |tup xs=>obtain⟨_,_,_,p,_⟩:=x;exact p.lt
 |dK kvs=>obtain⟨_,_,_,_,o,_,_,e,_⟩:=x;exact xq e
 |dT kvs=>obtain⟨_,_,_,_,o,_,_,e,_⟩:=x;exact xq e
 |dI xs ep=>obtain⟨_,_,_,o,_,e,_⟩:=x;exact xq e
 |set S n=>obtain⟨o,_,_,_,e,_⟩:=x;exact xq e
 |ins C dx fs=>obtain⟨_,_,_,e,_⟩:=x;exact xq e
 |own y=>obtain⟨_,e⟩:=x;exact xq e
 |xd fs=>obtain⟨_,⟨_,_,_,e,_⟩,_⟩:=x;exact xq e
 |rng lo hi=>obtain⟨_,_,_,e⟩:=x;exact xq e
 |frz ob u=>obtain⟨e,_⟩:=x;exact xq e
 |tbl ps=>exact xq (show h.get? a=aa _ from x)
 |cod q=>obtain⟨_,e,_⟩:=x;exact xq e
 |met f y=>exact xq (show h.get? a=aa _ from x)
 |ext φ=>obtain⟨_,⟨_,e⟩,_⟩:=x;exact xq e
theorem Paired.mapP{α β:Type}{F G:α->β->Prop}:∀{l₁:List α}{l₂:List β},Paired F l₁ l₂->(∀a b,F a b->G a b)->Paired G l₁ l₂
 |_,_,.nil,_=>.nil
 |_,_,.cons r t,f=>.cons (f _ _ r) (Paired.mapP t f)
theorem jm.stay(x:jm P w H h a o)(k:∀b u,(b=a\/H b=aa (.own a))->h.get? b=aa u->h'.get? b=aa u)
  (ho:∀b,H b=aa (.own a)->H' b=aa (.own a)) (ht:∀b xs,H b=aa (.tup xs)->H' b=aa (.tup xs)) (hz:∀b o,(∃vs,o.data=.fields vs)->H b=aa (.frz o (.own 0))->H' b=aa (.frz o (.own 0))):jm P w H' h' a o:=by
 induction o with
 |lst xs=>obtain⟨z,its,n,r,e⟩:=x;exact⟨z,its,n,r,k _ _ (.inl rfl) e⟩
 |tup xs =>obtain⟨z,its,r,⟨ob,e,c⟩,nd⟩:=x;refine⟨z,its,r,⟨ob,k _ _ (.inl rfl) e,c⟩,λo q=>?_⟩;rw[k _ _ (.inl rfl) e]at q;cases q;exact nd _ e
 |dK kvs=>obtain⟨z,y,vs,r,ob,es,ep,e,c⟩:=x;exact⟨z,y,vs,r,ob,es,ep,k _ _ (.inl rfl) e,c⟩
 |dT kvs =>obtain⟨z,y,xs,r,ob,es,ep,e,c⟩:=x;exact⟨z,y,xs,Paired.mapP r λp q z=>⟨z.1,ht _ _ z.2.1,z.2.2⟩,ob,es,ep,k _ _ (.inl rfl) e,c⟩
 |dI xs ep=>obtain⟨z,y,nd,ob,es,e,c⟩:=x;exact⟨z,y,nd,ob,es,k _ _ (.inl rfl) e,c⟩
 |set S n=>obtain⟨ob,es,ep,t,e,c⟩:=x;exact⟨ob,es,ep,t,k _ _ (.inl rfl) e,c⟩
 |ins C dx fs =>obtain⟨d,z,ne,e,mA,⟨od,es,ep,e2,c⟩,r⟩:=x;exact⟨ho _ d,z,ne,k _ _ (.inl rfl) e,mA,⟨od,es,ep,k _ _ (.inr d) e2,c⟩,r⟩
 |own y=>obtain⟨ob,e⟩:=x;exact⟨ob,k _ _ (.inl rfl) e⟩
 |xd fs=>obtain⟨mA,⟨od,es,ep,e,c⟩,r⟩:=x;exact⟨mA,⟨od,es,ep,k _ _ (.inl rfl) e,c⟩,r⟩
 |rng lo hi=>obtain⟨t,u,v,e⟩:=x;exact⟨t,u,v,k _ _ (.inl rfl) e⟩
 |frz ob u ih=>obtain⟨e,q⟩:=x;exact⟨k _ _ (.inl rfl) e,ih q⟩
 |tbl ps =>have e:h.get? a=aa { cls:=.none,data:=.fields ps }:=x;show h'.get? a=aa { cls:=.none,data:=.fields ps };exact k a _ (.inl rfl) e
 |cod q=>obtain⟨ps,e,t,c⟩:=x;exact⟨ps,k _ _ (.inl rfl) e,t,λpos cv z=>let ⟨c,oc,e1,e2,e3⟩:=c pos cv z;⟨c,oc,e1,hz _ _ (let ⟨vs,_,z,_⟩:=e3;⟨vs,z⟩) e2,e3⟩⟩
 |met f y =>have e:h.get? a=aa (W.methodObj (.ref f) (.ref y)):=x;show h'.get? a=aa (W.methodObj (.ref f) (.ref y));exact k a _ (.inl rfl) e
 |ext φ=>obtain⟨p,⟨o,e⟩,st⟩:=x;exact⟨st _ _ p λo q=>k _ _ (.inl rfl) q,⟨o,k _ _ (.inl rfl) e⟩,st⟩
theorem HOk.lt(x:HOk P w H h)(e:H a=aa o):a<h.objs.size:=(x a o e).lt
theorem HOk.fresh(x:HOk P w H h)(e:h.objs.size<=a):H a=ah:=by
 cases q:H a with
 |none=>rfl
 |some u=>exact absurd (Xk (x.lt q) e) (pq _)
theorem HOk.kept(x:HOk P w H h)(k:∀b u,h.get? b=aa u->h'.get? b=aa u):HOk P w H h':=λa o e =>(x a o e).stay (λb u _ q=>k b u q) (λ_ q=>q) (λ_ _ q=>q) λ_ _ _ q=>q
theorem HOk.laid(x:HOk P w H h)(k:∀b u,h.get? b=aa u->h'.get? b=aa u)(hp:h.objs.size<=a)(new:jm P w (upd H a o) h' a o):HOk P w (upd H a o) h':=λb u e=>by
 have hn:=x.fresh hp;by_cases hb:b=a
 .subst hb;rw[jr]at e;cases e;exact new
 .rw[jf hb]at e;exact(x b u e).stay (λc v _ q=>k c v q) (λc q=>by rw[jf (qw q hn)];exact q) (λc xs q=>by rw[jf (qw q hn)];exact q) λc _ _ q=>by rw[jf (qw q hn)];exact q
end
def Rd(H:Hp)(a:ak)(u:HO):Prop:=H a=aa u\/∃o,H a=aa (.frz o u)
theorem Rd.ok{P:ay}{w:aD}{H:Hp}{h:aG}{a:ak}{u:HO}(r:Rd H a u)(x:HOk P w H h):jm P w H h a u:=by
 rcases r with r|⟨o,r⟩
 .exact x a u r
 .obtain⟨_,q⟩:=x a _ r;exact q
def Mut:Option HO->Prop
 |some (.lst _)=>True
 |some (.dK _)=>True
 |some (.dT _)=>True
 |some (.dI _ _)=>True
 |some (.set _ _)=>True
 |some (.ins _ _ _)=>True
 |some (.ext _)=>True
 |some (.cod _)=>True
 |_=>False
section
variable{P:ay}{w:aD}{H:Hp}{h h':aG}{x e:ak}{o':HO}
theorem HOk.write(ok:HOk P w H h)(mu:Mut (H x))(he:e=x\/H e=aa (.own x))(k:∀b u,b≠e->h.get? b=aa u->h'.get? b=aa u)(heo:∃u,h'.get? e=aa u)
  (new:jm P w (upd H x o') h' x o'):HOk P w (upd H x o') h':=λb u q=>by
 have nown:∀c y,H c=aa (.own y)->c≠x:=λc y r z=>by subst z;rw[r]at mu;exact mu
 have ntup:∀c xs,H c=aa (.tup xs)->c≠x:=λc xs r z=>by subst z;rw[r]at mu;exact mu
 have nfrz:∀c o u,H c=aa (.frz o u)->c≠x:=λc o u r z=>by subst z;rw[r]at mu;exact mu
 by_cases hb:b=x
 .subst hb;rw[jr]at q;cases q;exact new
 .rw[jf hb]at q;by_cases hbe:b=e
  .have q':H b=aa (.own x):=by
    rcases he with z|z
    .exact absurd (hbe.trans z) hb
    .rw[hbe];exact z
   rw[q]at q';cases q';obtain⟨v,hv⟩:=heo;exact⟨v,by rw[hbe];exact hv⟩
  .refine(ok b u q).stay (λc v hc r=>k c v ?_ r) (λc r=>by rw[jf (nown c b r)];exact r) (λc xs r=>by rw[jf (ntup c xs r)];exact r) λc o _ r=>by rw[jf (nfrz c o _ r)];exact r
   rcases hc with rfl|hc
   .exact hbe
   .rintro rfl;rcases he with z|z
    .exact nown c b hc z
    .rw[hc]at z;cases z;exact hb rfl
end
structure Un(fs ex:List ak)(H H':Hp)(h h':aG):Prop where
 keep:∀b o,h.get? b=aa o->H b=ah->b∉fs->b∉ex->h'.get? b=aa o
 slot:∀b o,h.get? b=aa o->H b=ah->b∈fs->b∉ex->∃sl,h'.get? b=aa { o with slots:=sl }
 free:∀b o,h.get? b=aa o->H b=ah->b∉ex->H' b=ah
 there:∀b o,h.get? b=aa o->b∉ex->∃o',h'.get? b=aa o'
 tups:∀b xs,H b=aa (.tup xs)->H' b=aa (.tup xs)
 frzs:∀b o u,H b=aa (.frz o u)->H' b=aa (.frz o u)
 tbls:∀b ps,H b=aa (.tbl ps)->∃more,H' b=aa (.tbl (ps++more))
section
variable{fs fs' ex ex':List ak}{H H1 H2:Hp}{h h1 h2 h':aG}{a x e:ak}{o:HO}
theorem Un.any(u:Un fs ex H H1 h h1){b:ak}{ob:dm}(q:h.get? b=aa ob)(n:H b=ah)(hx:b∉ex):∃sl,h1.get? b=aa { ob with slots:=sl }:=by
 by_cases hb:b∈fs
 .exact u.slot b ob q n hb hx
 .exact⟨ob.slots,u.keep b ob q n hb hx⟩
theorem Un.kept(k:∀b u,h.get? b=aa u->h'.get? b=aa u):Un fs ex H H h h' :=
 ⟨λb ob q _ _ _=>k b ob q,λb ob q _ _ _=>⟨ob.slots,k b ob q⟩,λ_ _ _ n _=>n,λb ob q _=>⟨ob,k b ob q⟩,λ_ _ q=>q,λ_ _ _ q=>q,λ_ ps q=>⟨#[],by rw[q];simp⟩⟩
theorem Un.refl:Un fs ex H H h h:=Un.kept λ_ _ q=>q
theorem Un.laid(k:∀b u,h.get? b=aa u->h'.get? b=aa u)(hp:h.objs.size<=a)(hn:H a=ah):Un fs ex H (upd H a o) h h' where
 keep:=λb u q _ _ _=>k b u q
 slot:=λb u q _ _ _=>⟨u.slots,k b u q⟩
 free:=λb u q n _=>by rw[jf (X8 (Xk (xq q) hp))];exact n
 there:=λb u q _=>⟨u,k b u q⟩
 tups:=λb xs q=>by rw[jf (qw q hn)];exact q
 frzs:=λb u xs q=>by rw[jf (qw q hn)];exact q
 tbls:=λb ps q=>⟨#[],by rw[jf (qw q hn),q];simp⟩
theorem Un.write(mu:Mut (H x))(he:e=x\/H e=aa (.own x))(k:∀b u,b≠e->h.get? b=aa u->h'.get? b=aa u)(heo:∃u,h'.get? e=aa u):Un fs ex H (upd H x o) h h':=by
 have hx:∀b,H b=ah->b≠x:=λb n z=>by subst z;rw[n]at mu;exact mu
 have hb:∀b,H b=ah->b≠e:=λb n z=>by
  subst z;rcases he with r|r
  .exact hx b n r
  .rw[n]at r;cases r
 have hm:∀b u,H b=aa u->¬Mut (aa u)->b≠x:=λb u q nm z=>by subst z;rw[q]at mu;exact nm mu
 refine⟨λb u q n _ _=>k b u (hb b n) q,λb u q n _ _=>⟨u.slots,k b u (hb b n) q⟩,λb u q n _=>by rw[jf (hx b n)];exact n,λb u q _=>?_,
  λb xs q=>by rw[jf (hm b _ q λz=>z)];exact q,λb u xs q=>by rw[jf (hm b _ q λz=>z)];exact q,λb ps q=>⟨#[],by rw[jf (hm b _ q λz=>z),q];simp⟩⟩
 by_cases hbe:b=e
 .subst hbe;exact heo
 .exact⟨u,k b u hbe q⟩
end
noncomputable def trk(h:aG)(H:Hp):List ak:=(aK h.objs.size).filter λa=>(H a).isSome
noncomputable def Ue(h:aG)(H:Hp):aG:=W.hideAll h (trk h H)
theorem j4c(h:aG)(H:Hp):(Ue h H).objs.size=h.objs.size:=W.hideAll_size _ _
theorem j7r{h:aG}{H:Hp}{b:ak}{o:dm}(e:h.get? b=aa o)(n:H b=ah):(Ue h H).get? b=aa o :=
 W.hideAll_get _ e λhm=>by have q:(H b).isSome=af:=(List.mem_filter.mp hm).2;rw[n]at q;simp at q
theorem jb2{h:aG}{H:Hp}{b:ak}{o:dm}(e:(Ue h H).get? b=aa o):h.get? b=aa o/\H b=ah:=by
 have e':h.get? b=aa o:=W.of_hideAll (trk h H) e;refine⟨e',?_⟩;cases q:H b with
 |none=>rfl
 |some x =>have hm:b∈trk h H:=List.mem_filter.mpr ⟨Xr.mpr (xq e'),by simp[q]⟩;have z:(Ue h H).get? b=ah:=W.hideAll_none (trk h H) hm;rw[z]at e;cases e
noncomputable def jcc(g h:aG)(L:ak):List (ak×dm):=(aK h.objs.size).filterMap λa=>if a=L\/(g.get? a).isSome=af then ah else(h.get? a).map λo=>(a,o)
noncomputable def rest(g h:aG)(L d:ak):List (ak×dm):=(jcc g h L).filter λp=>decide (p.1≠d)
structure Mod(K:k70)(mg:k73)(base:aG):Prop where
 kin:K.In base
 glob:base.Ns aw mg
 blt:∃mb,base.Ns dR mb/\∀x:ao,x ≠ "__name__"->mb x=bg x
 nolimit:base.NoLimit
 bm:∃bm ob,mg "__builtins__" = aa (.ref bm)/\bm≠dR/\base.get? bm=aa ob/\ob.cls=.type "module"/\ob.dict=aa dR/\ob.data=.plain
structure Cx where
 prog:ay
 w:aD
 K:k70
 mg:ao->Option aj
 base:aG
 A:aF
 N:List ao
 s₀:aq
 H₀:Hp
 env:du
 outer:List du
 stack:List du
 ex:List ak
 fn:ao->Bool
 calm:Bool
 pn:List (ak×dm)
 xe:aj->aq->Prop
noncomputable def frs(l:List du):List ak:=l.filterMap (·.frame)
noncomputable abbrev Cx.fs(X:Cx):List ak:=frs X.outer
def Vis(sc:bG)(x:ao):Prop:=sc.names.lookup x=aa .local\/sc.names.lookup x=aa .cell\/sc.names.lookup x=aa .free
def Loc(sc:bG)(x:ao):Prop:=sc.names.lookup x=aa .local\/sc.names.lookup x=aa .cell
def Look(env:du)(h:aG)(m:k73)(x:ao)(u:aj):Prop :=
 (env.kindOf x=aa .local/\m x=aa u)\/((env.kindOf x=aa .cell\/env.kindOf x=aa .free)/\∃c,env.cells.lookup x=aa c/\h.IsCell c (aa u))
structure Cx.Ok(X:Cx):Prop where
 mod:Mod X.K X.mg X.base
 kind:X.env.scope.kind=.function
 glob:X.env.globals=aw
 blt:X.env.builtins=dR
 above:X.s₀.heap.objs.size<=X.env.locals
 inj:∀x y c,X.env.cells.lookup x=aa c->X.env.cells.lookup y=aa c->x=y
 has:∀x,(X.env.kindOf x=aa .cell\/X.env.kindOf x=aa .free)->∃c,X.env.cells.lookup x=aa c
 cab:∀x c,X.fn x=af->X.env.cells.lookup x=aa c->X.s₀.heap.objs.size<=c
 hd:X.calm=af->X.A.handled=ah
 frames:X.A.frames=aa X.stack
 stk:X.stack=X.outer\/(X.stack=X.env::X.outer/\X.env.frame=aa X.env.locals)
 exf:∀b∈X.ex,b≠X.env.locals/\∀x c,X.env.cells.lookup x=aa c->c≠b
 bs:∀b o,X.base.get? b=aa o->X.s₀.heap.get? b=aa o/\X.H₀ b=ah
 bsz:X.base.objs.size<=X.s₀.heap.objs.size
 noex:∀b o,X.base.get? b=aa o->b∉X.ex
 exfs:∀b∈X.ex,b∉X.fs
 funs:X.s₀.heap.FunFrames X.base X.outer
 frf:∀b∈X.fs,X.H₀ b=ah
structure Inv(X:Cx)(pins:k72)(σ:List (Option V))(H:Hp)(s:aq):Prop where
 ok:X.Ok
 os:s.os=X.s₀.os
 bare:eD s.gens
 base:Un X.fs X.ex X.H₀ H X.s₀.heap s.heap
 loc:∃m,s.heap.Ns X.env.locals m/\∀(i:Nat)(x:ao)(v:V),X.N[i]?=aa x->σ[i]?=aa (aa v)->Vis X.env.scope x->∃u,RelV v u/\Look X.env s.heap m x u
 cell:∀x c,X.env.cells.lookup x=aa c->∃v,s.heap.IsCell c v
 free:H X.env.locals=ah
 freeC:∀x c,X.env.cells.lookup x=aa c->H c=ah
 pin:∀p∈X.pn++pins,s.heap.get? p.1=aa p.2/\H p.1=ah/\p.1≠X.env.locals/\p.1∉X.fs/\∀v,p.2.data≠.cell v
 hok:HOk X.prog X.w H s.heap
 len:σ.length=X.N.length
section
variable{X:Cx}{pins:k72}{σ:List (Option V)}{H H':Hp}{s:aq}{h':aG}
theorem Cx.Ok.nofr(ok:X.Ok){b:ak}{o:dm}(e:X.base.get? b=aa o):b∉X.fs:=λhb=>by have:=(ok.funs.mem hb).1;rw[e]at this;cases this
theorem Inv.bs(I:Inv X pins σ H s):∀b o,X.base.get? b=aa o->s.heap.get? b=aa o/\H b=ah:=λb o e =>⟨I.base.keep b o (I.ok.bs b o e).1 (I.ok.bs b o e).2 (I.ok.nofr e) (I.ok.noex b o e),I.base.free b o (I.ok.bs b o e).1 (I.ok.bs b o e).2 (I.ok.noex b o e)⟩
theorem Inv.bk(I:Inv X pins σ H s):∀b o,X.base.get? b=aa o->s.heap.get? b=aa o:=λb o e=>(I.bs b o e).1
theorem Inv.mod(I:Inv X pins σ H s):Mod X.K X.mg X.base:=I.ok.mod
theorem Inv.kIn(I:Inv X pins σ H s):X.K.In s.heap:=I.ok.mod.kin.keeps I.bk
theorem Inv.lt(I:Inv X pins σ H s):X.env.locals<s.heap.objs.size:=let ⟨_,hn,_⟩:=I.loc;hn.lt
theorem Inv.sz(I:Inv X pins σ H s):X.s₀.heap.objs.size<=s.heap.objs.size:=Xh I.ok.above (eK I.lt)
theorem Inv.nofs(I:Inv X pins σ H s){a:ak}(h:s.heap.objs.size<=a):a∉X.fs:=λhb=>by obtain⟨_,o,ho,_⟩:=I.ok.funs.mem hb;exact absurd (Xk (xq ho) (Xh I.sz h)) (pq _)
theorem Inv.cne(I:Inv X pins σ H s):∀x c,X.env.cells.lookup x=aa c->c≠X.env.locals:=λx c e z=>by obtain⟨v,o,ho,hd⟩:=I.cell x c e;obtain⟨m,⟨o',es,ep,ho',hd',_⟩,_⟩:=I.loc;rw[z,ho']at ho;cases ho;rw[hd']at hd;cases hd
theorem Inv.funs(I:Inv X pins σ H s):s.heap.FunFrames X.base X.outer:=by
 have all:∀(l:List du),(∀b∈frs l,b∈X.fs)->X.s₀.heap.FunFrames X.base l->s.heap.FunFrames X.base l:=by
  intro l;induction l with
  |nil=>intro _ _;trivial
  |cons env r ih =>intro hs hl;obtain⟨hk,⟨L,o,hf,hn,ho,hd⟩,hr⟩:=hl;have hL:L∈X.fs:=hs L (by unfold frs;rw[cB,hf];exact xm);obtain⟨sl,e⟩:=I.base.slot L o ho (I.ok.frf L hL) hL λz=>I.ok.exfs L z hL;exact⟨hk,⟨L,_,hf,hn,e,hd⟩,ih (λb hb=>hs b (by unfold frs;rw[cB,hf];exact km _ hb)) hr⟩
 exact all X.outer (λ_ hb=>hb) I.ok.funs
theorem Inv.stack(I:Inv X pins σ H s):s.heap.FunFrames X.base X.stack:=by
 rcases I.ok.stk with e|⟨e,hf⟩
 .rw[e];exact I.funs
 .rw[e];obtain⟨m,hn,_⟩:=I.loc;refine .cons (by rw[I.ok.kind];decide) hf hn ?_ I.funs;exact Heap.get?_none_of_le (Xh I.ok.bsz I.ok.above)
theorem Inv.stkSub(I:Inv X pins σ H s):∀b∈frs X.stack,b∈X.env.locals::X.fs:=λb hb=>by
 rcases I.ok.stk with e|⟨e,hf⟩
 .rw[e]at hb;exact km _ hb
 .rw[e]at hb;unfold frs at hb;rw[cB,hf]at hb;exact hb
theorem Inv.stkFree(I:Inv X pins σ H s):∀b∈frs X.stack,H b=ah:=λb hb=>by
 rcases xn.mp (I.stkSub b hb)with e|hb
 .rw[e];exact I.free
 .obtain⟨_,o,ho,_⟩:=I.ok.funs.mem hb;exact I.base.free b o ho (I.ok.frf b hb) λz=>I.ok.exfs b z hb
theorem Inv.step{g':Array fk}{t':Nat}{d':Drawn}{ch:List ak}(I:Inv X pins σ H s)
  (hch:∀b∈ch,(b∈X.ex\/X.s₀.heap.objs.size<=b)/\b≠X.env.locals/\(∀x c,X.env.cells.lookup x=aa c->c≠b)/\∀p∈X.pn++pins,p.1≠b)
  (keep:∀b o,b≠X.env.locals->b∉X.fs->b∉ch->s.heap.get? b=aa o->H b=ah->h'.get? b=aa o)
  (slot:∀b o,b≠X.env.locals->b∈X.fs->b∉ch->s.heap.get? b=aa o->H b=ah->∃sl,h'.get? b=aa { o with slots:=sl }) (free:∀b o,b∉ch->s.heap.get? b=aa o->H b=ah->H' b=ah)
  (there:∀b o,b∉ch->s.heap.get? b=aa o->∃o',h'.get? b=aa o')
  (tups:∀b xs,H b=aa (.tup xs)->H' b=aa (.tup xs)) (frzs:∀b o u,H b=aa (.frz o u)->H' b=aa (.frz o u)) (tbls:∀b ps,H b=aa (.tbl ps)->∃more,H' b=aa (.tbl (ps++more)))
  (ns:∀m,s.heap.Ns X.env.locals m->h'.Ns X.env.locals m) (hok:HOk X.prog X.w H' h') (hg:eD g') :
  Inv X pins σ H' { s with heap:=h',gens:=g',drawn:=d',toks:=t' }:=by
 have neL:∀b o,X.s₀.heap.get? b=aa o->b≠X.env.locals:=λb o e=>X8 (Xk (xq e) I.ok.above);have neC:∀b o,X.s₀.heap.get? b=aa o->b∉X.ex->b∉ch:=λb o e hx hb=>by
  rcases(hch b hb).1 with z|z
  .exact hx z
  .exact absurd (Xk (xq e) z) (pq _)
 have cellK:∀x c,X.env.cells.lookup x=aa c->∀v,s.heap.IsCell c v->h'.IsCell c v:=λx c e v ⟨o,ho,hd⟩=>by
  have nch:c∉ch:=λz=>(hch c z).2.2.1 x c e rfl;by_cases hc:c∈X.fs
  .obtain⟨sl,q⟩:=slot c o (I.cne x c e) hc nch ho (I.freeC x c e);exact⟨_,q,hd⟩
  .exact⟨o,keep c o (I.cne x c e) hc nch ho (I.freeC x c e),hd⟩
 refine⟨I.ok,I.os,hg,⟨λb o e n hb hx=>?_,λb o e n hb hx=>?_,λb o e n hx=>?_,λb o e hx=>?_,λb xs e=>tups b xs (I.base.tups b xs e),λb o xs e=>frzs b o xs (I.base.frzs b o xs e),λb ps e=>?_⟩,?_,λx c e=>?_,?_,λx c e=>?_,λp hp=>?_,hok,I.len⟩
 .exact keep b o (neL b o e) hb (neC b o e hx) (I.base.keep b o e n hb hx) (I.base.free b o e n hx)
 .obtain⟨sl,e1⟩:=I.base.slot b o e n hb hx;obtain⟨sl',e2⟩:=slot b _ (neL b o e) hb (neC b o e hx) e1 (I.base.free b o e n hx);exact⟨sl',e2⟩
 .obtain⟨o',e1⟩:=I.base.there b o e hx;exact free b o' (neC b o e hx) e1 (I.base.free b o e n hx)
 .obtain⟨o',e1⟩:=I.base.there b o e hx;exact there b o' (neC b o e hx) e1
 .obtain⟨m1,e1⟩:=I.base.tbls b ps e;obtain⟨m2,e2⟩:=tbls b _ e1;exact⟨m1++m2,by rw[e2,Array.append_assoc]⟩
 .obtain⟨m,hn,hl⟩:=I.loc;refine⟨m,ns m hn,λi x v e1 e2 e3=>?_⟩;obtain⟨u,r,l⟩:=hl i x v e1 e2 e3;refine⟨u,r,?_⟩;rcases l with l|⟨k,c,e,z⟩
  .exact .inl l
  .exact .inr ⟨k,c,e,cellK x c e _ z⟩
 .obtain⟨v,z⟩:=I.cell x c e;exact⟨v,cellK x c e v z⟩
 .obtain⟨m,⟨o,_,_,ho,_⟩,_⟩:=I.loc;exact free _ o (λz=>(hch _ z).2.1 rfl) ho I.free
 .obtain⟨v,o,ho,hd⟩:=I.cell x c e;exact free c o (λz=>(hch c z).2.2.1 x c e rfl) ho (I.freeC x c e)
 .obtain⟨e,n,ne,nf,d⟩:=I.pin p hp;have nch:p.1∉ch:=λz=>(hch p.1 z).2.2.2 p hp rfl;exact⟨keep p.1 p.2 ne nf nch e n,free p.1 p.2 nch e n,ne,nf,d⟩
theorem Inv.un{t':Nat}(I:Inv X pins σ H s)(u:Un X.fs [] H H' s.heap h')(hok:HOk X.prog X.w H' h'):Inv X pins σ H' { s with heap:=h',toks:=t' }:=by
 obtain⟨m,⟨o,es,ep,ho,r⟩,_⟩:=id I.loc;obtain⟨sl,hL⟩:=u.any ho I.free (by simp);exact I.step (g':=s.gens) (d':=s.drawn) (ch:=[]) (λ_ z=>nomatch z) (λb o _ hb _ e n=>u.keep b o e n hb (by simp)) (λb o _ hb _ e n=>u.slot b o e n hb (by simp)) (λb o _ e n=>u.free b o e n (by simp)) (λb o _ e=>u.there b o e (by simp)) u.tups u.frzs u.tbls (λm' hm=>by
  obtain⟨o',es',ep',ho',r'⟩:=hm
  rw[ho]at ho';cases ho'
  exact⟨_,es',ep',hL,r'⟩) hok I.bare
theorem Inv.call{g':Array fk}{t':Nat}{d':Drawn}{ch:List ak}(I:Inv X pins σ H s)(u:Un (frs X.stack) ch H H' s.heap h')(hok:HOk X.prog X.w H' h')(hg:eD g')
  (hch:∀b∈ch,(b∈X.ex\/X.s₀.heap.objs.size<=b)/\b≠X.env.locals/\(∀x c,X.env.cells.lookup x=aa c->c≠b)/\∀p∈X.pn++pins,p.1≠b) :
  Inv X pins σ H' { s with heap:=h',gens:=g',drawn:=d',toks:=t' }:=by
 obtain⟨m,⟨o,es,ep,ho,r⟩,_⟩:=id I.loc;obtain⟨sl,hL⟩:=u.any ho I.free λz=>(hch _ z).2.1 rfl;exact I.step (ch:=ch) hch (λb o hL hb hc e n=>u.keep b o e n (λz=>(xn.mp (I.stkSub b z)).elim hL hb) hc) (λb o _ _ hc e n=>u.any e n hc) (λb o hc e n=>u.free b o e n hc) (λb o hc e=>u.there b o e hc) u.tups u.frzs u.tbls (λm' hm=>by
  obtain⟨o',es',ep',ho',r'⟩:=hm
  rw[ho]at ho';cases ho'
  exact⟨_,es',ep',hL,r'⟩) hok hg
theorem Inv.turned{t':Nat}{it:ak}(I:Inv X pins σ H s)(k:∀b o,b≠it->s.heap.get? b=aa o->h'.get? b=aa o)(hn:H it=ah)(hL:it≠X.env.locals)
  (h1:it∈X.ex\/X.s₀.heap.objs.size<=it) (h2:∀x c,X.env.cells.lookup x=aa c->c≠it) (h3:∀p∈X.pn++pins,p.1≠it):Inv X pins σ H { s with heap:=h',toks:=t' }:=by
 have nit:∀b u,H b=aa u->b≠it:=λb u e z=>by rw[z,hn]at e;cases e
 refine I.step (g':=s.gens) (d':=s.drawn) (ch:=[it]) (λb hb=>?_) (λb o _ _ hc e _=>k b o (λz=>hc (by simp[z])) e) (λb o _ _ hc e _=>⟨o.slots,k b o (λz=>hc (by simp[z])) e⟩) (λ_ _ _ _ n=>n)
  (λb o hc e=>⟨o,k b o (λz=>hc (by simp[z])) e⟩) (λ_ _ e=>e) (λ_ _ _ e=>e) (λb ps e=>⟨#[],by rw[e];simp⟩) (λm hm=>?_) (λb u e=>?_) I.bare
 .have e:b=it:=by simpa using hb
  subst e;exact⟨h1,hL,h2,h3⟩
 .obtain⟨o,es,ep,ho,r⟩:=hm;exact⟨o,es,ep,k _ o (dS hL) ho,r⟩
 .refine(I.hok b u e).stay (λc v hc q=>k c v ?_ q) (λ_ q=>q) (λ_ _ q=>q) λ_ _ _ q=>q;rcases hc with z|z
  .rw[z];exact nit b u e
  .exact nit c _ z
theorem Inv.tok(I:Inv X pins σ H s)(t:Nat):Inv X pins σ H { s with toks:=t }:=I.un (h':=s.heap) (t':=t) Un.refl I.hok
theorem Inv.kept{t':Nat}(I:Inv X pins σ H s)(k:∀b u,s.heap.get? b=aa u->h'.get? b=aa u):Inv X pins σ H { s with heap:=h',toks:=t' }:=I.un (Un.kept k) (I.hok.kept k)
theorem Inv.laid{a:ak}{o:HO}{t':Nat}(I:Inv X pins σ H s)(k:∀b u,s.heap.get? b=aa u->h'.get? b=aa u)(hp:s.heap.objs.size<=a)(new:jm X.prog X.w (upd H a o) h' a o) :
  Inv X pins σ (upd H a o) { s with heap:=h',toks:=t' }:=I.un (Un.laid k hp (I.hok.fresh hp)) (I.hok.laid k hp new)
theorem Inv.write{x e:ak}{o:HO}{t':Nat}(I:Inv X pins σ H s)(mu:Mut (H x))(he:e=x\/H e=aa (.own x))(k:∀b u,b≠e->s.heap.get? b=aa u->h'.get? b=aa u)(heo:∃u,h'.get? e=aa u)
  (new:jm X.prog X.w (upd H x o) h' x o):Inv X pins σ (upd H x o) { s with heap:=h',toks:=t' }:=I.un (Un.write mu he k heo) (I.hok.write mu he k heo new)
theorem Inv.pins_of{pins':k72}(I:Inv X pins σ H s)(h:∀p∈pins',s.heap.get? p.1=aa p.2/\H p.1=ah/\p.1≠X.env.locals/\p.1∉X.fs/\∀v,p.2.data≠.cell v):Inv X pins' σ H s :=
 ⟨I.ok,I.os,I.bare,I.base,I.loc,I.cell,I.free,I.freeC,λp hp=>(Ph.mp hp).elim (λz=>I.pin p (cY _ z)) (h p),I.hok,I.len⟩
theorem K7{N:List ao}(hN:N.Nodup){i j:Nat}{x:ao}(a:N[i]?=aa x)(b:N[j]?=aa x):i=j:=by obtain⟨h1,e1⟩:=Xd.mp a;obtain⟨h2,e2⟩:=Xd.mp b;exact(List.getElem_inj hN).mp (e1.trans e2.symm)
theorem Fb{M:ja}{A:aF}{E:k71}{i:Nat}{x:ao}{v:V}{u:aj}{Q:Unit->aq->Prop}(I:Inv X pins σ H s)(hN:X.N.Nodup)(hi:X.N[i]?=aa x)(hx:Loc X.env.scope x)(r:RelV v u)
  (h:∀s',Inv X pins (σ.set i (aa v)) H s'->(∃a,cK a s.heap s'.heap/\(a=X.env.locals\/X.env.cells.lookup x=aa a))->Q () s') (hf:X.fn x=af\/X.env.scope.names.lookup x=aa .local:=by first|exact .inl rfl|exact .inr rfl|assumption):ax M A (storeName X.env x u) Q E s:=by
 obtain⟨m,hn,hl⟩:=id I.loc;have hcls:(X.env.scope.kind==.class || (X.env.scope.kind==.module&&X.env.locals != X.env.globals))=ae:=by rw[I.ok.kind];rfl
 have hiσ:i<σ.length:=by rw[I.len];exact(Xd.mp hi).1
 have cne:=I.cne;have tracked:∀{a:ak}{h':aG},(∃o,s.heap.get? a=aa o/\H a=ah)->cK a s.heap h'->HOk X.prog X.w H h':=λ{a h'} ha hs b ob e=>by
  obtain⟨_,_,hfree⟩:=ha;refine(I.hok b ob e).stay (λc w' hc q=>(hs.2 c ?_).trans q) (λ_ q=>q) (λ_ _ q=>q) λ_ _ _ q=>q;rintro rfl;rcases hc with rfl|hc
  .rw[hfree]at e;cases e
  .rw[hfree]at hc;cases hc
 rcases hx with hk|hk
 .refine wpAny_storeName_local hk hn (λh' hn' hs=>?_) hcls;obtain⟨oL,_,_,hoL,_⟩:=id hn;refine h _ ⟨I.ok,I.os,I.bare,⟨λb o e n hb hx=>?_,λb o e n hb hx=>?_,I.base.free,λb o e hx=>?_,I.base.tups,I.base.frzs,I.base.tbls⟩,⟨_,hn',λj y v' e1 e2 e3=>?_⟩,λy c e=>?_,I.free,I.freeC,λp hp=>?_,tracked ⟨oL,hoL,I.free⟩ hs,by simpa using I.len⟩ ⟨_,hs,.inl rfl⟩
  .exact(hs.2 b (X8 (Xk (xq e) I.ok.above))).trans (I.base.keep b o e n hb hx)
  .obtain⟨sl,e1⟩:=I.base.slot b o e n hb hx;exact⟨sl,(hs.2 b (X8 (Xk (xq e) I.ok.above))).trans e1⟩
  .obtain⟨o',e1⟩:=I.base.there b o e hx;exact⟨o',(hs.2 b (X8 (Xk (xq e) I.ok.above))).trans e1⟩
  .by_cases hj:j=i
   .subst hj;rw[hi]at e1;cases e1;rw[gI hiσ]at e2;cases e2;exact⟨u,r,.inl ⟨hk,by simp⟩⟩
   .rw[eU (dS hj)]at e2;obtain⟨u',r',q⟩:=hl j y v' e1 e2 e3;refine⟨u',r',?_⟩;rcases q with ⟨k,e⟩|⟨k,c,e,z⟩
    .refine .inl ⟨k,?_⟩;have:y≠x:=λe=>hj (K7 hN e1 (e▸hi));simp[this,e]
    .exact .inr ⟨k,c,e,z.sameBut hs (cne y c e)⟩
  .obtain⟨w',z⟩:=I.cell y c e;exact⟨w',z.sameBut hs (cne y c e)⟩
  .obtain⟨e,n,ne,nf,d⟩:=I.pin p hp;exact⟨(hs.2 p.1 ne).trans e,n,ne,nf,d⟩
 .have hfn:X.fn x=af:=by
   rcases hf with z|z
   .exact z
   .rw[z]at hk;cases hk
  obtain⟨c,hc⟩:=I.ok.has x (.inl hk);obtain⟨w',z⟩:=I.cell x c hc;refine wpAny_storeName_cell I.ok.kind hk hc z (λh' hc' hs=>?_);obtain⟨oc,hoc,hocd⟩:=id z;refine h { s with heap:=h' } ⟨I.ok,I.os,I.bare,⟨λb o e n hb hx=>?_,λb o e n hb hx=>?_,I.base.free,λb o e hx=>?_,I.base.tups,I.base.frzs,I.base.tbls⟩,⟨m,hn.sameBut hs (dS (cne x c hc)),λj y v' e1 e2 e3=>?_⟩,λy c' e=>?_,I.free,I.freeC,λp hp=>?_,tracked ⟨oc,hoc,I.freeC x c hc⟩ hs,by simpa using I.len⟩ ⟨c,hs,.inr hc⟩
  .exact(hs.2 b (X8 (Xk (xq e) (I.ok.cab x c hfn hc)))).trans (I.base.keep b o e n hb hx)
  .obtain⟨sl,e1⟩:=I.base.slot b o e n hb hx;exact⟨sl,(hs.2 b (X8 (Xk (xq e) (I.ok.cab x c hfn hc)))).trans e1⟩
  .obtain⟨o',e1⟩:=I.base.there b o e hx;exact⟨o',(hs.2 b (X8 (Xk (xq e) (I.ok.cab x c hfn hc)))).trans e1⟩
  .by_cases hj:j=i
   .subst hj;rw[hi]at e1;cases e1;rw[gI hiσ]at e2;cases e2;exact⟨u,r,.inr ⟨.inl hk,c,hc,hc'⟩⟩
   .rw[eU (dS hj)]at e2;obtain⟨u',r',q⟩:=hl j y v' e1 e2 e3;refine⟨u',r',?_⟩;rcases q with q|⟨k,c',e,z'⟩
    .exact .inl q
    .refine .inr ⟨k,c',e,z'.sameBut hs ?_⟩;rintro rfl;exact hj (K7 hN e1 (I.ok.inj _ _ _ e hc▸hi))
  .by_cases hcc:c'=c
   .subst hcc;exact⟨_,hc'⟩
   .obtain⟨w2,z2⟩:=I.cell y c' e;exact⟨w2,z2.sameBut hs hcc⟩
  .obtain⟨e,n,ne,nf,d⟩:=I.pin p hp;refine⟨(hs.2 p.1 ?_).trans e,n,ne,nf,d⟩;intro q;rw[q,hoc]at e;have q':oc=p.2:=aC e;exact d w' (by rw[<-q'];exact hocd)
theorem Lh{M:ja}{A:aF}{E:k71}{i:Nat}{x:ao}{v:V}{u:aj}{Q:Unit->aq->Prop}(I:Inv X pins σ H s)(hN:X.N.Nodup)(hi:X.N[i]?=aa x)(hx:Loc X.env.scope x)(r:RelV v u)
  (h:∀s',Inv X pins (σ.set i (aa v)) H s'->Q () s') (hf:X.fn x=af\/X.env.scope.names.lookup x=aa .local:=by first|exact .inl rfl|exact .inr rfl|assumption):ax M A (storeName X.env x u) Q E s :=
 Fb I hN hi hx r (λs' I' _=>h s' I') hf
theorem Inv.call'{s':aq}{ch:List ak}(I:Inv X pins σ H s)(ho:s'.os=s.os)(u:Un (frs X.stack) ch H H' s.heap s'.heap)(hok:HOk X.prog X.w H' s'.heap)(hg:eD s'.gens)
  (hch:∀b∈ch,(b∈X.ex\/X.s₀.heap.objs.size<=b)/\b≠X.env.locals/\(∀x c,X.env.cells.lookup x=aa c->c≠b)/\∀p∈X.pn++pins,p.1≠b):Inv X pins σ H' s':=by
 obtain⟨h',g',d',t',o'⟩:=s';have e:o'=s.os:=ho;subst e;exact I.call (g':=g') (t':=t') (d':=d') u hok hg hch
end
abbrev XK:=aj->Option ak->Hp->Prop
noncomputable abbrev St:=List (Option V)
abbrev VK:=V->Hp->Prop
abbrev TE:=St->Hp->VK->Prop
abbrev TT:=St->Hp->(Bool->Hp->Prop)->Prop
abbrev TA:=St->Hp->(List V->Hp->Prop)->Prop
structure Ends where
 nx:St->Hp->Prop
 rt:VK
 bk:St->Hp->Prop:=λ_ _=>False
 ct:St->Hp->Prop:=λ_ _=>False
abbrev TS:=Ends->St->Hp->Prop
def EP(X:Cx)(pins:k72)(σ:St)(Q:VK)(u:aj)(s':aq):Prop:=∃v H',Inv X pins σ H' s'/\RelV v u/\Q v H'
def TP(X:Cx)(pins:k72)(σ:St)(Q:Bool->Hp->Prop)(b:Bool)(s':aq):Prop:=∃H',Inv X pins σ H' s'/\Q b H'
def AP(X:Cx)(pins:k72)(σ:St)(Q:List V->Hp->Prop)(us:List aj)(s':aq):Prop:=∃vs H',Inv X pins σ H' s'/\Vals vs us/\Q vs H'
def Ext(X:Cx)(H1 H2:Hp)(s':aq):Prop:=∀b,H2 b=H1 b\/∃x o v,X.env.cells.lookup x=aa b/\X.fn x=af/\H2 b=aa (.frz o (.own 0))/\s'.heap.get? b=aa o/\o.data=.cell v
theorem Ext.refl{X:Cx}{H:Hp}{s':aq}:Ext X H H s':=λ_=>.inl rfl
def SP(X:Cx)(pins:k72)(D:Ends)(f:Flow)(s':aq):Prop :=
 match f with
 |.next=>∃σ' H',Inv X pins σ' H' s'/\D.nx σ' H'
 |.brk=>∃σ' H',Inv X pins σ' H' s'/\D.bk σ' H'
 |.cont=>∃σ' H',Inv X pins σ' H' s'/\D.ct σ' H'
 |.ret u=>∃v σ' H' H2,Inv X pins σ' H' s'/\RelV v u/\Ext X H' H2 s'/\D.rt v H2
def PE(X:Cx)(e:au)(t:TE):Prop :=
 ∀(pins:k72) (s:aq) (σ:St) (H:Hp) (Q:VK),Inv X pins σ H s->t σ H Q->ax (aA X.prog X.w) X.A (aB e X.env) (EP X pins σ Q) X.xe s
def PT(X:Cx)(e:au)(t:TT):Prop :=
 ∀(pins:k72) (s:aq) (σ:St) (H:Hp) (Q:Bool->Hp->Prop),Inv X pins σ H s->t σ H Q->ax (aA X.prog X.w) X.A (eX e X.env (aB e X.env)) (TP X pins σ Q) X.xe s
def PW(X:Cx)(e:au)(t:TT):Prop :=
 ∀(whole:kZ aj)(pins:k72) (s:aq) (σ:St) (H:Hp) (Q:Bool->Hp->Prop),Inv X pins σ H s->t σ H Q->ax (aA X.prog X.w) X.A (eX e X.env whole) (TP X pins σ Q) X.xe s
def PA(X:Cx)(es:List au)(t:TA):Prop :=
 ∀(pos:aR)(pins:k72) (s:aq) (σ:St) (H:Hp) (Q:List V->Hp->Prop),Inv X pins σ H s->t σ H Q->ax (aA X.prog X.w) X.A (g4 (aP pos (ai es X.env))) (AP X pins σ Q) X.xe s
def PS(X:Cx)(st:aQ)(t:TS):Prop :=
 ∀(pins:k72) (s:aq) (σ:St) (H:Hp) (D:Ends),Inv X pins σ H s->t D σ H->ax (aA X.prog X.w) X.A (exec st X.env) (SP X pins D) X.xe s
def PSs(X:Cx)(st:List aQ)(t:TS):Prop :=
 ∀(pins:k72) (s:aq) (σ:St) (H:Hp) (D:Ends),Inv X pins σ H s->t D σ H->ax (aA X.prog X.w) X.A (execs st X.env) (SP X pins D) X.xe s
theorem thn{α:Type}{t:kZ α}{Q Q':α->aq->Prop}{M:ja}{A:aF}{E:k71}{s:aq}(h:ax M A t Q E s)(hQ:∀a s,Q a s->Q' a s):ax M A t Q' E s:=bS h hQ λ_ _ x=>x
section
variable{X:Cx}
theorem bin{a b:au}{ta tb:TE}(ha:PE X a ta)(hb:PE X b tb){pins:k72}{s:aq}{σ:St}{H:Hp}{R:V->V->Hp->Prop}(I:Inv X pins σ H s)(h:ta σ H λx H1=>tb σ H1 λy H2=>R x y H2)
  {α:Type} {Q:α->aq->Prop} {f:aj->aj->kZ α}
  (hf:∀v u s2 x y H2,Inv X pins σ H2 s2->RelV x v->RelV y u->R x y H2->ax (aA X.prog X.w) X.A (f v u) Q X.xe s2) :
  ax (aA X.prog X.w) X.A (aB a X.env) (λv s₁=>ax (aA X.prog X.w) X.A (aB b X.env) (λu s₂=>ax (aA X.prog X.w) X.A (f v u) Q X.xe s₂) X.xe s₁) X.xe s:=by
 refine thn (ha pins s σ H _ I h) λv s1 ⟨x,H1,I1,r1,q1⟩=>?_;refine thn (hb pins s1 σ H1 _ I1 q1) λu s2 ⟨y,H2,I2,r2,q2⟩=>?_;exact hf v u s2 x y H2 I2 r1 r2 q2
def jjh(i:Nat):TE:=λσ H Q=>∃v,σ[i]?=aa (aa v)/\Q v H
def tC(v:V):TE:=λ_ H Q=>Q v H
theorem jz {i:Nat} {x:ao} {pos:aR} (hN:X.N[i]?=aa x) (hv:Vis X.env.scope x) (hd:(x==k74)=ae:=by decide) (hcd:(x==k75)=ae:=by decide):PE X (.Name x pos) (jjh i):=by
 intro pins s σ H Q I h;obtain⟨v,e,h⟩:=h;obtain⟨m,hn,hl⟩:=I.loc;obtain⟨u,r,l⟩:=hl i x v hN e hv;have fin:EP X pins σ Q u s:=⟨v,H,I,r,h⟩
 rcases l with ⟨hk,hm⟩|⟨hk,c,hc,hcell⟩
 .exact jK (wpAny_loadName_local I.ok.kind hk hn hm fin) hd
 .rcases hk with hk|hk
  .exact jK (wpAny_loadName_cell I.ok.kind hk hc hcell fin) hd
  .exact jK (wpAny_loadName_free I.ok.kind hk hc hcell fin hcd) hd
theorem K1{i j pos}:PE X (.Constant (.int i) j pos) (tC (.int i)):=λ_ _ _ H _ I h=>wpAny_Constant_int ⟨.int i,H,I.tok _,⟨_,rfl⟩,h⟩
theorem jhl{b j pos}:PE X (.Constant (.bool b) j pos) (tC (.bl b)):=λ_ _ _ H _ I h=>Constant_bool ⟨.bl b,H,I,rfl,h⟩
theorem W8{x j pos}:PE X (.Constant (.str x) j pos) (tC (.str x)):=λ_ _ _ H _ I h=>Calls.Constant_str ⟨.str x,H,I.tok _,⟨_,rfl⟩,h⟩
def Gl(X:Cx)(x:ao):Prop:=X.env.kindOf x=aa .globalImplicit
theorem Ze{E:k71}{pins:k72}{s:aq}{σ:St}{H:Hp}{x:ao}{u:aj}{pos:aR}{Q:k71}(I:Inv X pins σ H s)(hg:Gl X x)(hm:X.mg x=aa u)(h:Q u s)
  (hd:(x==k74)=ae:=by decide):ax (aA X.prog X.w) X.A (aB (.Name x pos) X.env) Q E s :=
 fZ I.ok.kind hg (Calls.loadGlobal_global (by rw[I.ok.glob];exact I.mod.glob.keeps I.bk) hm h) hd
theorem Ja{E:k71}{pins:k72}{s:aq}{σ:St}{H:Hp}{x:ao}{u:aj}{pos:aR}{Q:k71}(I:Inv X pins σ H s)(hg:Gl X x)(hm:X.mg x=ah)(hv:bg x=aa u)(h:Q u s)
  (hn:x ≠ "__name__":=by decide) (hd:(x==k74)=ae:=by decide):ax (aA X.prog X.w) X.A (aB (.Name x pos) X.env) Q E s:=by
 obtain⟨mb,h1,h2⟩:=I.mod.blt;exact fZ I.ok.kind hg (Calls.loadGlobal_builtin (by rw[I.ok.glob];exact I.mod.glob.keeps I.bk) hm (by rw[I.ok.blt];exact h1.keeps I.bk) ((h2 x hn).trans hv) h) hd
theorem jas {x:ao} {v:V} {u:aj} {pos:aR} (hg:Gl X x) (hm:X.mg x=aa u) (r:RelV v u) (hd:(x==k74)=ae:=by decide):PE X (.Name x pos) (tC v) :=
 λ_ _ _ H _ I h=>Ze I hg hm ⟨v,H,I,r,h⟩ hd
theorem jat {x:ao} {v:V} {u:aj} {pos:aR} (hg:Gl X x) (hm:X.mg x=ah) (hv:bg x=aa u) (r:RelV v u) (hn:x ≠ "__name__":=by decide) (hd:(x==k74)=ae:=by decide):PE X (.Name x pos) (tC v) :=
 λ_ _ _ H _ I h=>Ja I hg hm hv ⟨v,H,I,r,h⟩ hn hd
variable{a b:au}{ta tb:TE}{pos:aR}
def PC(X:Cx)(op:gw)(a b:au)(t:TE):Prop :=
 ∀(pins:k72) (s:aq) (σ:St) (H:Hp) (Q:VK),Inv X pins σ H s->t σ H Q ->
  ax (aA X.prog X.w) X.A (aB a X.env) (λv s₁=>ax (aA X.prog X.w) X.A (aB b X.env) (λu s₂=>ax (aA X.prog X.w) X.A (bj op v u) (EP X pins σ Q) X.xe s₂) X.xe s₁) X.xe s
theorem Mj(b:au){op:gw}(h:op≠.In)(h2:op≠.NotIn):aO op b=ae:=by
 have e1:(op==CmpOp.In)=ae:=by cases op<;>first|rfl|exact absurd rfl h
 have e2:(op==CmpOp.NotIn)=ae:=by cases op<;>first|rfl|exact absurd rfl h2
 cases b<;>simp[aO,e1,e2]
def jjo(ta:TE):TE:=λσ H Q=>ta σ H λx H1=>Q (.bl (decide (x=.non))) H1
theorem RelV.none_iff{x:V}{v:aj}(r:RelV x v):(v==aZ)=decide (x=.non):=by
 cases x with
 |non=>cases r;rfl
 |bl _=>cases r;rfl
 |int _=>obtain⟨t,rfl⟩:=r;rfl
 |str _=>obtain⟨t,rfl⟩:=r;rfl
 |byt _=>obtain⟨t,rfl⟩:=r;rfl
 |flt _=>obtain⟨t,rfl⟩:=r;rfl
 |ref _=>cases r;rfl
 |ty _=>cases r;rfl
theorem j3m{j pos'}(ha:PE X a ta):PC X .Is a (.Constant .none j pos') (jjo ta):=by intro pins s σ H Q I h;refine thn (ha pins s σ H _ I h) λv s1 ⟨x,H1,I1,r1,q1⟩=>?_;exact Constant_none (is_none_gen ⟨.bl _,H1,I1,by rw[r1.none_iff];rfl,q1⟩)
def tB(t:TE):TT:=λσ H Q=>t σ H λx H1=>∃c,x=.bl c/\Q c H1
theorem jdr{op:gw}{t:TE}(h:PC X op a b t)(h1:aO op b=ae:=by first|exact Mj _ (by decide) (by decide)|rfl):PE X (.Compare a [op] [b] pos) t:=λpins s σ H Q I hw=>lE (h pins s σ H Q I hw) h1
theorem jdi{op:gw}{t:TE}(h:PC X op a b t)(h1:aO op b=ae:=by first|exact Mj _ (by decide) (by decide)|rfl):PT X (.Compare a [op] [b] pos) (tB t):=by intro pins s σ H Q I hw;refine iR (thn (h pins s σ H _ I hw) λv s1 h1=>thn h1 λu s2 h2=>thn h2 λc s3 ⟨x,H1,I1,r1,q1⟩=>?_) h1;obtain⟨d,rfl,q⟩:=q1;cases r1;exact bq ⟨H1,I1,q⟩
theorem j3e{e:au}{t:TE}(h:PE X e t)(he:∀whole,eX e X.env whole=(do let v <-whole;eB e.pos;bN [v] (jM v)):=by intro _;rfl):PT X e (tB t):=by intro pins s σ H Q I hw;refine isTrue_plain (thn (h pins s σ H _ I hw) λv s1 ⟨x,H1,I1,r1,q1⟩=>?_) (he _);obtain⟨d,rfl,q⟩:=q1;cases r1;exact bq ⟨H1,I1,q⟩
variable{tA tB':TT}{rest:List au}
def tOr(t u:TT):TT:=λσ H Q=>t σ H λc H1=>if c=af then Q af H1 else u σ H1 Q
def jjm(t:TT):TT:=λσ H Q=>t σ H λc H1=>Q (!c) H1
theorem jdh(ha:PT X a tA):PW X (.BoolOp .Or [a] pos) tA:=by
 intro wh pins s σ H Q I h;refine isTrue_or (thn (ha pins s σ H Q I h) λc s1 e=>?_);cases c with
 |false=>exact isTrue_or_nil e
 |true=>exact e
theorem jhi(ha:PT X a tA)(hb:PW X (.BoolOp .Or (b::rest) pos) tB'):PW X (.BoolOp .Or (a::b::rest) pos) (tOr tA tB'):=by
 intro wh pins s σ H Q I h;refine isTrue_or (thn (ha pins s σ H _ I h) λc s1 ⟨H1,I1,q1⟩=>?_);cases c with
 |true=>exact⟨H1,I1,q1⟩
 |false=>exact hb wh pins s1 σ H1 Q I1 q1
theorem j3f(ha:PT X a tA):PT X (.UnaryOp .Not a pos) (jjm tA):=by intro pins s σ H Q I h;exact isTrue_not (ha pins s σ H (λc H1=>Q (!c) H1) I h)
def jgz(ta tb:TE):TE:=λσ H Q=>ta σ H λx H1=>∃c,x=.bl c/\if c=af then tb σ H1 Q else Q (.bl ae) H1
def jjl(ta tb:TE):TE:=λσ H Q=>ta σ H λx H1=>∃c,x=.bl c/\if c=af then Q (.bl af) H1 else tb σ H1 Q
def jgs(ta:TE):TE:=λσ H Q=>ta σ H λx H1=>∃c,x=.bl c/\Q (.bl (!c)) H1
theorem j3l{op}{t:TE}(h:PE X a t):PE X (.BoolOp op [a] pos) t:=λpins s σ H Q I hw=>BoolOp_one (h pins s σ H Q I hw)
theorem jds(ha:PE X a ta)(hb:PE X (.BoolOp .And (b::rest) pos) tb):PE X (.BoolOp .And (a::b::rest) pos) (jgz ta tb):=by
 intro pins s σ H Q I h;refine BoolOp_and (thn (ha pins s σ H _ I h) λv s1 ⟨x,H1,I1,r1,q1⟩=>?_);obtain⟨c,rfl,q1⟩:=q1;cases r1;refine bq ?_;cases c with
 |true=>exact hb pins s1 σ H1 Q I1 q1
 |false=>exact⟨.bl ae,H1,I1,rfl,q1⟩
theorem jhk(ha:PE X a ta)(hb:PE X (.BoolOp .Or (b::rest) pos) tb):PE X (.BoolOp .Or (a::b::rest) pos) (jjl ta tb):=by
 intro pins s σ H Q I h;refine BoolOp_or (thn (ha pins s σ H _ I h) λv s1 ⟨x,H1,I1,r1,q1⟩=>?_);obtain⟨c,rfl,q1⟩:=q1;cases r1;refine bq ?_;cases c with
 |false=>exact hb pins s1 σ H1 Q I1 q1
 |true=>exact⟨.bl af,H1,I1,rfl,q1⟩
theorem jdp(ha:PE X a ta):PE X (.UnaryOp .Not a pos) (jgs ta):=by intro pins s σ H Q I h;refine UnaryOp_ (thn (ha pins s σ H _ I h) λv s1 ⟨x,H1,I1,r1,q1⟩=>?_);obtain⟨c,rfl,q1⟩:=q1;cases r1;exact not_of (bq ⟨.bl (!c),H1,I1,rfl,q1⟩)
def tIf(t:TT)(ta tb:TE):TE:=λσ H Q=>t σ H λc H1=>if c=af then ta σ H1 Q else tb σ H1 Q
theorem K3{c:au}(hc:PT X c tA)(ha:PE X a ta)(hb:PE X b tb):PE X (.IfExp c a b pos) (tIf tA ta tb):=by
 intro pins s σ H Q I h;refine wpAny_IfExp (thn (hc pins s σ H _ I h) λd s1 ⟨H1,I1,q1⟩=>?_);cases d with
 |true=>exact ha pins s1 σ H1 Q I1 q1
 |false=>exact hb pins s1 σ H1 Q I1 q1
end
def SqL(K:k70)(H:Hp)(a:ak)(xs:List V):Prop :=
 Rd H a (.lst xs) \/
  ∃(o:dm)(its:Array aj)(n:Nat),K.lookup a=aa o/\o.cls=.type "list"/\o.dict=ah/\o.data=.seq its n/\its.size<=ar/\Vals xs its.toList
def SqT(K:k70)(H:Hp)(a:ak)(xs:List V):Prop :=
 Rd H a (.tup xs) \/
  ∃(o:dm)(its:Array aj)(n:Nat),K.lookup a=aa o/\o.cls=.type "tuple"/\o.dict=ah/\o.data=.seq its n/\its.size<=ar/\Vals xs its.toList
noncomputable def jkl:aj->Option V
 |.none=>aa .non
 |.bool b=>aa (.bl b)
 |.int i _=>aa (.int i)
 |.str x _=>aa (.str x)
 |.bytes b _=>aa (.byt b)
 |.float b _=>aa (.flt b)
 |.ref a=>aa (.ref a)
 |.type n=>aa (.ty n)
 |_=>ah
theorem RelV.abs{x:V}{u:aj}(r:RelV x u):jkl u=aa x:=by
 cases x with
 |non=>cases r;rfl
 |bl _=>cases r;rfl
 |int _=>obtain⟨t,rfl⟩:=r;rfl
 |str _=>obtain⟨t,rfl⟩:=r;rfl
 |byt _=>obtain⟨t,rfl⟩:=r;rfl
 |flt _=>obtain⟨t,rfl⟩:=r;rfl
 |ref _=>cases r;rfl
 |ty _=>cases r;rfl
theorem RelV.inj{x y:V}{u:aj}(r:RelV x u)(q:RelV y u):x=y:=aC (r.abs.symm.trans q.abs)
theorem Vals.inj:∀{xs ys:List V}{us:List aj},Vals xs us->Vals ys us->xs=ys
 |_,_,_,.nil,.nil=>rfl
 |_,_,_,.cons r t,.cons r' t'=>by rw[r.inj r',Vals.inj t t']
section
variable{X:Cx}{pins:k72}{σ:St}{H:Hp}{s:aq}{a:ak}{xs ys:List V}
theorem SqL.of{K:k70}(h:H a=aa (.lst xs)):SqL K H a xs:=.inl (.inl h)
theorem Inv.list(I:Inv X pins σ H s)(h:SqL X.K H a xs):∃its:List aj,Vals xs its/\PlainL s.heap a its.toArray/\xs.length<=ar:=by
 rcases h with h|⟨o,its,n,hk,hc,hd,hs,hz,r⟩
 .obtain⟨z,its,n,r,e⟩:=h.ok I.hok;exact⟨its,r,⟨_,n,e,rfl,rfl,rfl⟩,z⟩
 .refine⟨its.toList,r,⟨o,n,I.kIn a o hk,hc,hd,by simpa using hs⟩,?_⟩;have e:=r.length;simp only[d8]at e;omega
theorem Inv.tuple(I:Inv X pins σ H s)(h:SqT X.K H a xs):∃its:List aj,Vals xs its/\jv s.heap a its.toArray/\xs.length<=ar:=by
 rcases h with h|⟨o,its,n,hk,hc,hnd,hs,hz,r⟩
 .obtain⟨z,its,r,p,_⟩:=h.ok I.hok;exact⟨its,r,p,z⟩
 .refine⟨its.toList,r,⟨o,I.kIn a o hk,hc,n,by simpa using hs⟩,?_⟩;have e:=r.length;simp only[d8]at e;omega
theorem Inv.tupD(I:Inv X pins σ H s)(h:SqT X.K H a xs):Zo s.heap a:=by
 rcases h with h|⟨o,its,n,hk,hc,hnd,hs,hz,r⟩
 .obtain⟨z,its,r,p,q⟩:=h.ok I.hok;exact q
 .intro o' e;rw[I.kIn a o hk]at e;cases e;exact hnd
theorem Inv.list_inj(I:Inv X pins σ H s)(h:SqL X.K H a xs)(h':SqL X.K H a ys):xs=ys:=by
 obtain⟨its,r,⟨o,n,e,_,_,d⟩,_⟩:=I.list h;obtain⟨its',r',⟨o',n',e',_,_,d'⟩,_⟩:=I.list h';rw[e]at e';cases e';rw[d]at d';injection d' with d1 _;have:its=its':=by simpa using congrArg jQ d1
 subst this;exact r.inj r'
theorem Inv.tuple_inj(I:Inv X pins σ H s)(h:SqT X.K H a xs)(h':SqT X.K H a ys):xs=ys:=by
 obtain⟨its,r,⟨o,e,_,n,d⟩,_⟩:=I.tuple h;obtain⟨its',r',⟨o',e',_,n',d'⟩,_⟩:=I.tuple h';rw[e]at e';cases e';rw[d]at d';injection d' with d1 _;have:its=its':=by simpa using congrArg jQ d1
 subst this;exact r.inj r'
end
noncomputable abbrev Cx.wish(X:Cx)(E:k71):Cx:={ X with xe:=E }
noncomputable abbrev Cx.nox(X:Cx):Cx:=X.wish λ_ _=>False
theorem Cx.Ok.wish{X:Cx}(ok:X.Ok)(E:k71):(X.wish E).Ok :=
 ⟨ok.mod,ok.kind,ok.glob,ok.blt,ok.above,ok.inj,ok.has,ok.cab,ok.hd,ok.frames,ok.stk,ok.exf,ok.bs,ok.bsz,ok.noex,ok.exfs,ok.funs,ok.frf⟩
theorem Cx.Ok.unwish{X:Cx}{E:k71}(ok:(X.wish E).Ok):X.Ok :=
 ⟨ok.mod,ok.kind,ok.glob,ok.blt,ok.above,ok.inj,ok.has,ok.cab,ok.hd,ok.frames,ok.stk,ok.exf,ok.bs,ok.bsz,ok.noex,ok.exfs,ok.funs,ok.frf⟩
section
variable{X:Cx}{pins:k72}{σ:St}{H:Hp}{s:aq}{E:k71}
theorem Inv.wish(I:Inv X pins σ H s)(E:k71):Inv (X.wish E) pins σ H s:=⟨I.ok.wish E,I.os,I.bare,I.base,I.loc,I.cell,I.free,I.freeC,I.pin,I.hok,I.len⟩
theorem Inv.unwish(I:Inv (X.wish E) pins σ H s):Inv X pins σ H s:=⟨I.ok.unwish,I.os,I.bare,I.base,I.loc,I.cell,I.free,I.freeC,I.pin,I.hok,I.len⟩
theorem SP.unwish{D:Ends}{f:Flow}{s':aq}(h:SP (X.wish E) pins D f s'):SP X pins D f s':=by
 cases f with
 |next=>obtain⟨σ',H',I,q⟩:=h;exact⟨σ',H',I.unwish,q⟩
 |brk=>obtain⟨σ',H',I,q⟩:=h;exact⟨σ',H',I.unwish,q⟩
 |cont=>obtain⟨σ',H',I,q⟩:=h;exact⟨σ',H',I.unwish,q⟩
 |ret u=>obtain⟨v,σ',H',H2,I,r,x,q⟩:=h;exact⟨v,σ',H',H2,I.unwish,r,x,q⟩
theorem PSs.nox{st:List aQ}{t:TS}(h:PSs X.nox st t):PSs X st t:=λpins s σ H D I hw =>bS (h pins s σ H D (I.wish _) hw) (λ_ _ q=>q.unwish) λ_ _ z=>aT z
end
section
variable{X:Cx}{st:aQ}{rest:List aQ}{t u:TS}{e:au}{te:TE}{pos:aR}
def jgt:TS:=λD σ H=>D.nx σ H
def jjj(t u:TS):TS:=λD σ H=>t { D with nx:=u D } σ H
theorem Ys:PSs X [] jgt:=λ_ _ σ H _ I h=>eY ⟨σ,H,I,h⟩
theorem qg(h1:PS X st t)(h2:PSs X rest u):PSs X (st::rest) (jjj t u):=by
 intro pins s σ H D I h;refine ku (thn (h1 pins s σ H { D with nx:=u D } I h) λf s1 q=>?_);cases f with
 |next =>obtain⟨σ',H',I',q⟩:=q;exact h2 pins s1 σ' H' D I' q
 |ret v=>exact q
 |brk=>exact q
 |cont=>exact q
theorem Yr(h1:PS X st t):PSs X [st] t:=by
 intro pins s σ H D I h;refine ku (thn (h1 pins s σ H D I h) λf s1 q=>?_);cases f with
 |next=>exact eY q
 |ret v=>exact q
 |brk=>exact q
 |cont=>exact q
theorem Inv.quiet{pins:k72}{σ:St}{H:Hp}{s:aq}(I:Inv X pins σ H s):interactive X.env=ae:=by simp[interactive,I.ok.kind]
def jgw(te:TE):TS:=λD σ H=>te σ H λ_ H1=>D.nx σ H1
theorem Qu(he:PE X e te)(hs:aL e ah pos.line X.env=pure ae:=by rfl):PS X (.Expr e pos) (jgw te):=by intro pins s σ H D I h;exact wpAny_Expr_any (thn (he pins s σ H _ I h) λv s1 ⟨x,H1,I1,r1,q1⟩=>⟨σ,H1,I1,q1⟩) I.quiet hs
def jjk(te:TE):TS:=λD σ H=>te σ H D.rt
theorem Qg(he:PE X e te):PS X (.Return (aa e) pos) (jjk te):=by intro pins s σ H D I h;exact wpAny_Return_some (thn (he pins s σ H _ I h) λv s1 ⟨x,H1,I1,r1,q1⟩=>⟨x,σ,H1,H1,I1,r1,.refl,q1⟩)
def jjp(c:TT)(t u:TS):TS:=λD σ H=>c σ H λb H1=>if b=af then t D σ H1 else u D σ H1
theorem Cg{c:au}{a b:List aQ}{tc:TT}(hc:PT X c tc)(ha:PSs X a t)(hb:PSs X b u):PS X (.If c a b pos) (jjp tc t u):=by
 intro pins s σ H D I h;refine wpAny_If (thn (hc pins s σ H _ I h) λd s1 ⟨H1,I1,q1⟩=>?_);cases d with
 |true=>exact ha pins s1 σ H1 D I1 q1
 |false=>exact hb pins s1 σ H1 D I1 q1
end
abbrev TG:=V->St->Hp->(St->Hp->Prop)->Prop
abbrev TGs:=List V->St->Hp->(St->Hp->Prop)->Prop
def PG(X:Cx)(target:au)(t:TG):Prop :=
 ∀(pins:k72) (s:aq) (σ:St) (H:Hp) (v:V) (u:aj) (Q:St->Hp->Prop),Inv X pins σ H s->RelV v u->t v σ H Q ->
  ax (aA X.prog X.w) X.A (de target X.env u) (λ_ s'=>∃σ' H',Inv X pins σ' H' s'/\Q σ' H') X.xe s
def PGs(X:Cx)(ts:List au)(t:TGs):Prop :=
 ∀(pins:k72) (s:aq) (σ:St) (H:Hp) (vs:List V) (us:List aj) (Q:St->Hp->Prop),Inv X pins σ H s->Vals vs us->t vs σ H Q ->
  ax (aA X.prog X.w) X.A (assignInOrder ((bF ts X.env).map (·.2)) us) (λ_ s'=>∃σ' H',Inv X pins σ' H' s'/\Q σ' H') X.xe s
abbrev j2g:=V->V->V->Hp->(Hp->Prop)->Prop
def jgk(X:Cx)(t:j2g):Prop :=
 ∀(pins:k72) (s:aq) (σ:St) (H:Hp) (o i v:V) (ov iv u:aj) (Q:Hp->Prop),Inv X pins σ H s->RelV o ov->RelV i iv->RelV v u->t o i v H Q ->
  ax (aA X.prog X.w) X.A (setItem ov iv u) (λ_ s'=>∃H',Inv X pins σ H' s'/\Q H') X.xe s
section
variable{X:Cx}{pos:aR}
def j9b(i:Nat):TG:=λv σ H Q=>Q (σ.set i (aa v)) H
theorem Bm{i:Nat}{x:ao}(hN:X.N.Nodup)(hi:X.N[i]?=aa x)(hx:Loc X.env.scope x)(hf:X.fn x=af\/X.env.scope.names.lookup x=aa .local:=by first|exact .inl rfl|exact .inr rfl|assumption):PG X (.Name x pos) (j9b i):=by intro pins s σ H v u Q I r h;exact jW (Lh I hN hi hx r (λs' I'=>⟨_,H,I',h⟩) hf)
def jke:TGs:=λvs σ H Q=>vs=[]/\Q σ H
def jij(t:TG)(u:TGs):TGs:=λvs σ H Q=>∃v r,vs=v::r/\t v σ H λσ' H'=>u r σ' H' Q
theorem jaq:PGs X [] jke:=by intro pins s σ H vs us Q I r h;obtain⟨e,h⟩:=h;subst e;cases r;exact assignInOrder_nil ⟨σ,H,I,h⟩
theorem Lz{e:au}{es:List au}{t:TG}{u:TGs}(h1:PG X e t)(h2:PGs X es u)
  (hs:(bF (e::es) X.env).map (·.2)=de e X.env::(bF es X.env).map (·.2):=by rfl):PGs X (e::es) (jij t u):=by
 intro pins s σ H vs us Q I r h;obtain⟨v,vr,e1,h⟩:=h;subst e1;cases r with
 |cons r rr =>rw[hs];refine assignInOrder_cons (thn (h1 pins s σ H _ _ _ I r h) λ_ s1 ⟨σ1,H1,I1,q1⟩=>?_);exact h2 pins s1 σ1 H1 _ _ Q I1 rr q1
def jkc(K:k70)(n:Nat)(t:TGs):TG:=λv σ H Q=>∃a xs,v=.ref a/\SqT K H a xs/\xs.length=n/\t xs σ H Q
theorem jdn{es:List au}{k:Nat}{t:TGs}{n:Nat}(hc:X.calm=af)(h:PGs X es t)
  (hn:(bF es X.env).length=n:=by rfl) (hst:(bF es X.env).findIdx? (·.1)=ah:=by rfl):PG X (.Tuple es k pos) (jkc X.K n t):=by
 intro pins s σ H v u Q I r hw;obtain⟨a,xs,e1,hq,hl,hw⟩:=hw;subst e1;cases r;obtain⟨its,rv,ht,hz⟩:=I.tuple hq;refine assign_Tuple_tuple (I.ok.hd hc) ht (by simp[hn,<-hl,rv.length]) hst λh' hx=>?_;have I1:Inv X pins σ H { s with heap:=h' }:=I.kept (t':=s.toks) λb o e=>hx b o (X8 (xq e)) e;exact h pins _ σ H xs _ Q I1 (by simpa using rv) hw
def jkd(to ti:TE)(t:j2g):TG:=λv σ H Q=>to σ H λo H1=>ti σ H1 λi H2=>t o i v H2 λH3=>Q σ H3
theorem jdo{o i:au}{to ti:TE}{t:j2g}(ho:PE X o to)(hi:PE X i ti)(hs:jgk X t)
  (ha:∀v,de (.Subscript o i pos) X.env v=(do
   let ov <-bN [v] (aB o X.env)
   let iv <-bN [v,ov] (aB i X.env)
   eB pos
   bN [v,ov,iv] (setItem ov iv v)
   release [v,ov,iv] []):=by intro _;rfl):PG X (.Subscript o i pos) (jkd to ti t):=by
 intro pins s σ H v u Q I r h;rw[ha];refine ag (bc (thn (ho pins s σ H _ I h) λov s1 ⟨x,H1,I1,r1,q1⟩=>?_));refine ag (bc (thn (hi pins s1 σ H1 _ I1 q1) λiv s2 ⟨y,H2,I2,r2,q2⟩=>?_));refine ag (fG (ag (bc (thn (hs pins s2 σ H2 x y v ov iv u _ I2 r1 r2 r q2) λ_ s3 ⟨H3,I3,q3⟩=>?_))));exact wpAny_release ⟨σ,H3,I3,q3⟩
def jct(te:TE)(g:TG):TS:=λD σ H=>te σ H λx H1=>g x σ H1 D.nx
theorem jdk{tg e:au}{te:TE}{g:TG}(he:PE X e te)(hg:PG X tg g)(hs:i5 [tg] e pos.line X.env=pure ae:=by rfl)(hw:i6 [tg] e X.env=pure ah:=by rfl)
  (h1:(bF [tg] X.env).map (·.2)=[de tg X.env]:=by rfl):PS X (.Assign [tg] e pos) (jct te g):=by
 intro pins s σ H D I h;refine wpAny_Assign_stores (thn (he pins s σ H _ I h) λv s1 ⟨x,H1,I1,r1,q1⟩=>?_) hs hw;rw[h1];exact thn (hg pins s1 σ H1 x v _ I1 r1 q1) λ_ s2 q=>q
theorem Qf{i:Nat}{x:ao}{e:au}{te:TE}{pos':aR}(hN:X.N.Nodup)(hi:X.N[i]?=aa x)(hx:Loc X.env.scope x)(he:PE X e te)(hs:aL e (aa (.Name x pos')) pos.line X.env=pure ae:=by rfl)(hf:X.fn x=af\/X.env.scope.names.lookup x=aa .local:=by first|exact .inl rfl|exact .inr rfl|assumption) :
  PS X (.Assign [.Name x pos'] e pos) (jct te (j9b i)):=by
 intro pins s σ H D I h;refine wpAny_Assign_Name (thn (he pins s σ H _ I h) λv s1 ⟨y,H1,I1,r1,q1⟩=>?_) hs;exact Lh I1 hN hi hx r1 (λs2 I2=>⟨_,H1,I2,q1⟩) hf
end
section
variable{X:Cx}{pos:aR}
def jcr(c:TT)(tb:TS):TS:=λD σ H=>∃W:Nat->St->Hp->Prop,(∃m,W m σ H)/\∀m σ H,W m σ H ->
 c σ H λb H1=>if b=af then ∃N:St->Hp->Prop,(∀σ' H',N σ' H'->∃m',m'<m/\W m' σ' H')/\tb { D with nx:=N,ct:=N,bk:=D.nx } σ H1 else D.nx σ H1
theorem j6m{c:au}{body:List aQ}{tc:TT}{tb:TS}(hp:fv (aA X.prog X.w) X.A X.env X.xe)(hc:PT X c tc)(hb:PSs X body tb):PS X (.While c body [] pos) (jcr tc tb):=by
 intro pins s σ H D I h;obtain⟨W,⟨m0,w0⟩,turn⟩:=h;refine wpAny_While (codeAny_whileLoop (λn s'=>∃σ' H',Inv X pins σ' H' s'/\W n σ' H') ?_ m0 ⟨σ,H,I,w0⟩);rintro n s1 ⟨σ1,H1,I1,w1⟩;refine cf hp (thn (hc pins s1 σ1 H1 _ I1 (turn n σ1 H1 w1)) λb s2 ⟨H2,I2,q2⟩=>?_);cases b with
 |true =>
  obtain⟨N,hN,q2⟩:=q2;rw[if_pos rfl];refine cf hp (thn (hb pins s2 σ1 H2 _ I2 q2) λf s3 q3=>?_);cases f with
  |next =>obtain⟨σ3,H3,I3,n3⟩:=q3;obtain⟨m',hm,w3⟩:=hN σ3 H3 n3;exact⟨m',hm,σ3,H3,I3,w3⟩
  |cont =>obtain⟨σ3,H3,I3,n3⟩:=q3;obtain⟨m',hm,w3⟩:=hN σ3 H3 n3;exact⟨m',hm,σ3,H3,I3,w3⟩
  |brk=>exact q3
  |ret v=>exact q3
 |false =>rw[if_neg xf];exact eY ⟨σ1,H2,I2,q2⟩
end
structure It where
 go:Nat->Hp->Prop
 yld:Nat->Hp->V->Hp->Prop
 stop:Nat->Hp->Prop
def Qe(X:Cx)(pins:k72)(H:Hp)(b:ak):Prop :=
 H b=ah/\b≠X.env.locals/\b∉X.fs/\(b∈X.ex\/X.s₀.heap.objs.size<=b)/\(∀x c,X.env.cells.lookup x=aa c->c≠b)/\∀p∈X.pn++pins,p.1≠b
theorem Inv.fpOk{X:Cx}{pins:k72}{σ:St}{H H':Hp}{s:aq}{b:ak}(I:Inv X pins σ H s)(hb:s.heap.objs.size<=b)(hn:H' b=ah):Qe X pins H' b:=by
 refine⟨hn,Pk (Xk I.lt hb),I.nofs hb,.inr (Xh I.sz hb),λx c e z=>?_,λp hp z=>?_⟩
 .obtain⟨v,q⟩:=I.cell x c e;exact absurd (Xk q.lt (by rw[z];exact hb)) (pq _)
 .exact absurd (Xk (xq (I.pin p hp).1) (by rw[z];exact hb)) (pq _)
structure Turn(P:ay)(w:aD)(K:k70)(tg:au)(J:It)(fp:List ak)(it:ak)(tn:Nat->aG->Prop):Prop where
 mem:it∈fp
 obj:∀i h,tn i h->∀b∈fp,∃o,h.get? b=aa o/\∀v,o.data≠.cell v
 keep:∀i h h',tn i h->(∀b∈fp,∀o,h.get? b=aa o->h'.get? b=aa o)->tn i h'
 item:∀(X:Cx),X.prog=P->X.w=w->X.K=K->X.calm=af->∀(i:Nat)(pins:k72) (s:aq) (σ:St) (H:Hp) (E:k71),Inv X pins σ H s->(∀b∈fp,Qe X pins H b)->tn i s.heap->J.go i H ->
  ax (aA P w) X.A (dQ (.ref it)) (λr s1=>∃u,r=aa u /\
   ax (aA P w) X.A (eZ tg (.ref it) u) (λ_ s2=>∃x H',Inv X pins σ H' s2/\RelV x u/\J.yld i H x H'/\tn (i+1) s2.heap/\∀b∈fp,H' b=ah) E s1) E s
 done:∀(X:Cx),X.prog=P->X.w=w->X.K=K->X.calm=af->∀(i:Nat)(pins:k72) (s:aq) (σ:St) (H:Hp) (E:k71),Inv X pins σ H s->(∀b∈fp,Qe X pins H b)->tn i s.heap->J.stop i H ->
  ax (aA P w) X.A (dQ (.ref it)) (λr s1=>r=ah/\Inv X pins σ H s1) E s
 self:∀(A:aF)(i:Nat)(s:aq)(Q:k71)(E:k71),tn i s.heap->Q (.ref it) s->ax (aA P w) A (iJ (.ref it)) Q E s
abbrev TI:=St->Hp->(It->Hp->Prop)->Prop
def PIE(X:Cx)(pins:k72)(σ:St)(tg:au)(R:It->Hp->Prop)(itv:aj)(s2:aq):Prop :=
 ∃(it:ak)(fp:List ak)(tn:Nat->aG->Prop)(J:It)(H':Hp),itv=.ref it/\Inv X pins σ H' s2/\Turn X.prog X.w X.K tg J fp it tn/\tn 0 s2.heap/\(∀b∈fp,Qe X pins H' b)/\R J H'
def PI(X:Cx)(tg iter:au)(wi:TI):Prop :=
 ∀(pins:k72) (s:aq) (σ:St) (H:Hp) (R:It->Hp->Prop),Inv X pins σ H s->wi σ H R ->
  ax (aA X.prog X.w) X.A (aB iter X.env) (λv s1=>ax (aA X.prog X.w) X.A (iJ v) (PIE X pins σ tg R) X.xe s1) X.xe s
theorem Cp{M:ja}{A:aF}{E:k71}{s:aq}{tg:au}{it:ak}{u:aj}{o:dm}{n:String}{vs:Array aj}{Q:Unit->aq->Prop}(ho:s.heap.get? it=aa o)(hc:o.cls=.type n)(hd:o.data=.fields vs)
  (hn:["enumerate","zip","dict_itemiterator","dict_reverseitemiterator","odict_iterator","itertools.zip_longest","itertools.pairwise"].contains n=ae) (hQ:Q () s):ax M A (eZ tg (.ref it) u) Q E s:=by
 unfold eZ;cases tg<;>first
  |exact av hQ
  |(cases u<;>first
    |exact av hQ
    |(refine ag (wpAny_load ho ?_);rw[hc,hd];show ax M A (if (["enumerate","zip","dict_itemiterator","dict_reverseitemiterator","odict_iterator","itertools.zip_longest","itertools.pairwise"].contains n&&vs[0]?==aa (fV _))=af then _ else _) Q E s;rw[if_neg (by intro h;rw[hn,Bool.false_and]at h;cases h)];exact av hQ))
noncomputable def Itl(K:k70)(a:ak):It :=
 ⟨λi H=>∃xs x,SqL K H a xs/\xs[i]?=aa x,λi H x H'=>H'=H/\∀xs,SqL K H a xs->xs[i]?=aa x,λi H=>∃xs,SqL K H a xs/\xs.length<=i⟩
noncomputable def Itt(K:k70)(a:ak):It :=
 ⟨λi H=>∃xs x,SqT K H a xs/\xs[i]?=aa x,λi H x H'=>H'=H/\∀xs,SqT K H a xs->xs[i]?=aa x,λi H=>∃xs,SqT K H a xs/\xs.length<=i⟩
noncomputable def Itr(lo:Int)(n:Nat):It:=⟨λi _=>i<n,λi H x H'=>H'=H/\x=.int (lo+i),λi _=>n<=i⟩
theorem j2p{P:ay}{w:aD}{K:k70}{tg:au}(a it:ak):Turn P w K tg (Itl K a) [it] it (λi h=>h.IsListIter it a i) where
 mem:=by simp
 obj:=λi h st b hb=>by
  have e:b=it:=by simpa using hb
  subst e;obtain⟨o,e,c,d⟩:=st;exact⟨o,e,λv z=>by rw[d]at z;cases z⟩
 keep:=λi h h' st k=>st.at λo e=>k it (by simp) o e
 item:=by intro X hP hw hK hc i pins s σ H E I hf st hg;subst hP hw hK;obtain⟨xs,x,hq,hx⟩:=hg;obtain⟨its,rv,p,hz⟩:=I.list hq;obtain⟨u,hu,ru⟩:=rv.get hx;obtain⟨f0,f1,f2,f3,f4,f5⟩:=hf it (by simp);refine wpAny_pyNext_list_item st p.isList (x:=u) (by simpa using hu) λh' st' sb=>?_;have I1:Inv X pins σ H { s with heap:=h' }:=I.turned (t':=s.toks) (λb o hb e=>(sb.2 b hb).trans e) f0 f1 f3 f4 f5;obtain⟨o,e,c,d⟩:=id st';exact⟨u,rfl,Cp (s:={ s with heap:=h' }) e c d (by decide) ⟨x,H,I1,ru,⟨rfl,λys hy=>by rw[I.list_inj hy hq];exact hx⟩,st',λb hb=>(hf b hb).1⟩⟩
 done:=by intro X hP hw hK hc i pins s σ H E I hf st hg;subst hP hw hK;obtain⟨xs,hq,hx⟩:=hg;obtain⟨its,rv,p,hz⟩:=I.list hq;obtain⟨f0,f1,f2,f3,f4,f5⟩:=hf it (by simp);have hl:=rv.length;exact wpAny_pyNext_list_end (I.ok.hd hc) st p.isList (by simp;omega) λh' eb=>⟨rfl,I.turned (t':=s.toks) (λb o hb e=>eb b o hb e) f0 f1 f3 f4 f5⟩
 self:=λ_ _ _ _ _ st h=>wpAny_pyIter_listiter st h
theorem j10{P:ay}{w:aD}{K:k70}{tg:au}(a it:ak):Turn P w K tg (Itt K a) [it] it (λi h=>h.IsTupleIter it a i) where
 mem:=by simp
 obj:=λi h st b hb=>by
  have e:b=it:=by simpa using hb
  subst e;obtain⟨o,e,c,d⟩:=st;exact⟨o,e,λv z=>by rw[d]at z;cases z⟩
 keep:=λi h h' st k=>st.at λo e=>k it (by simp) o e
 item:=by intro X hP hw hK hc i pins s σ H E I hf st hg;subst hP hw hK;obtain⟨xs,x,hq,hx⟩:=hg;obtain⟨its,rv,p,hz⟩:=I.tuple hq;obtain⟨u,hu,ru⟩:=rv.get hx;obtain⟨f0,f1,f2,f3,f4,f5⟩:=hf it (by simp);refine wpAny_pyNext_tuple_item st (show s.heap.IsTuple a its.toArray from p) (x:=u) (by simpa using hu) λh' st' sb=>?_;have I1:Inv X pins σ H { s with heap:=h' }:=I.turned (t':=s.toks) (λb o hb e=>(sb.2 b hb).trans e) f0 f1 f3 f4 f5;obtain⟨o,e,c,d⟩:=id st';exact⟨u,rfl,Cp (s:={ s with heap:=h' }) e c d (by decide) ⟨x,H,I1,ru,⟨rfl,λys hy=>by rw[I.tuple_inj hy hq];exact hx⟩,st',λb hb=>(hf b hb).1⟩⟩
 done:=by intro X hP hw hK hc i pins s σ H E I hf st hg;subst hP hw hK;obtain⟨xs,hq,hx⟩:=hg;obtain⟨its,rv,p,hz⟩:=I.tuple hq;obtain⟨f0,f1,f2,f3,f4,f5⟩:=hf it (by simp);have hl:=rv.length;exact wpAny_pyNext_tuple_end (I.ok.hd hc) st (show s.heap.IsTuple a its.toArray from p) (by simp;omega) λh' eb=>⟨rfl,I.turned (t':=s.toks) (λb o hb e=>eb b o hb e) f0 f1 f3 f4 f5⟩
 self:=λ_ _ _ _ _ st h=>wpAny_pyIter_tupleiter st h
theorem j11{P:ay}{w:aD}{K:k70}{tg:au}(it:ak)(lo:Int)(n:Nat):Turn P w K tg (Itr lo n) [it] it (λi h=>IsRangeIter h it (lo+(i:Nat)*1) ((n:Int)-(i:Nat)) 1) where
 mem:=by simp
 obj:=λi h st b hb=>by
  have e:b=it:=by simpa using hb
  subst e;exact⟨_,st,λv z=>by
   have z':Data.fields _=Data.cell v:=z
   cases z'⟩
 keep:=λi h h' st k=>k it (by simp) _ st
 item:=by intro X hP hw hK hc i pins s σ H E I hf st hg;subst hP hw hK;obtain⟨f0,f1,f2,f3,f4,f5⟩:=hf it (by simp);have W:=Walks.range (prog:=X.prog) (w:=X.w) (I.ok.hd hc) it lo 1 n;refine W.item i s _ _ hg st λv h' tk hv st' kk=>?_;obtain⟨t,rfl⟩:=hv;have I1:Inv X pins σ H { s with heap:=h',toks:=tk }:=I.turned (λb o hb e=>kk b o (by simpa using hb) e) f0 f1 f3 f4 f5;refine⟨_,rfl,Cp (s:={ s with heap:=h',toks:=tk }) (n:="range_iterator") st' rfl rfl (by decide) ⟨.int (lo+i),H,I1,⟨t,?_⟩,⟨rfl,rfl⟩,st',λb hb=>(hf b hb).1⟩⟩;rw[lr]
 done:=by intro X hP hw hK hc i pins s σ H E I hf st hg;subst hP hw hK;obtain⟨f0,f1,f2,f3,f4,f5⟩:=hf it (by simp);exact wpAny_pyNext_range_end (I.ok.hd hc) st (by have:n<=i:=hg;omega) λh' eb=>⟨rfl,I.turned (t':=s.toks) (λb o hb e=>eb b o hb e) f0 f1 f3 f4 f5⟩
 self:=λ_ _ _ _ _ st h=>wpAny_pyIter_rangeiter st h
section
variable{X:Cx}{tg:au}
def jig(K:k70)(tl:TE):TI:=λσ H R=>tl σ H λx H1=>∃a,x=.ref a/\(∃xs,SqL K H1 a xs)/\R (Itl K a) H1
def jka(K:k70)(tl:TE):TI:=λσ H R=>tl σ H λx H1=>∃a,x=.ref a/\(∃xs,SqT K H1 a xs)/\R (Itt K a) H1
theorem jap{l:au}{tl:TE}(hl:PE X l tl):PI X tg l (jig X.K tl):=by
 intro pins s σ H R I h;refine thn (hl pins s σ H _ I h) λv s1 ⟨x,H1,I1,r1,q1⟩=>?_;obtain⟨a,e,⟨xs,hq⟩,q⟩:=q1;subst e;cases r1;obtain⟨its,rv,p,hz⟩:=I1.list hq;refine cq p.isList ?_;refine⟨s1.heap.objs.size,[s1.heap.objs.size],_,_,H1,rfl,I1.kept (t':=s1.toks) λb o e=>kj _ e,j2p a _,⟨_,xx _ rfl,rfl,rfl⟩,λb hb=>?_,q⟩;have e:b=s1.heap.objs.size:=by simpa using hb
 subst e;exact I1.fpOk (X5 _) (I1.hok.fresh (X5 _))
theorem jdm{l:au}{tl:TE}(hl:PE X l tl):PI X tg l (jka X.K tl):=by
 intro pins s σ H R I h;refine thn (hl pins s σ H _ I h) λv s1 ⟨x,H1,I1,r1,q1⟩=>?_;obtain⟨a,e,⟨xs,hq⟩,q⟩:=q1;subst e;cases r1;obtain⟨its,rv,p,hz⟩:=I1.tuple hq;refine fQ (show s1.heap.IsTuple a its.toArray from p) ?_;refine⟨s1.heap.objs.size,[s1.heap.objs.size],_,_,H1,rfl,I1.kept (t':=s1.toks) λb o e=>kj _ e,j10 a _,⟨_,xx _ rfl,rfl,rfl⟩,λb hb=>?_,q⟩;have e:b=s1.heap.objs.size:=by simpa using hb
 subst e;exact I1.fpOk (X5 _) (I1.hok.fresh (X5 _))
theorem Lx{pins:k72}{σ:St}{H:Hp}{s:aq}{R:It->Hp->Prop}{E:k71}{lo hi:Int}{t u v:dF}{tk:Nat}(I:Inv X pins σ H s)(h1:-(2^62)<=lo)(h2:lo<2^62)(h3:-(2^62)<=hi)(h4:hi<2^62)
  (q:R (Itr lo (hi-lo).toNat) H):ax (aA X.prog X.w) X.A (iJ (.ref s.heap.objs.size)) (PIE X pins σ tg R) E { s with heap:=s.heap.push { cls:=.type "range",data:=.fields #[.int lo t,.int hi u,.int 1 v] },toks:=tk }:=by
 refine wpAny_pyIter_range (IsRange.new ..) (small_one h1 h2 h3 h4) ?_;have I1:Inv X pins σ H { s with heap:=s.heap.push { cls:=.type "range",data:=.fields #[.int lo t,.int hi u,.int 1 v] },toks:=tk }:=I.kept λb o e=>kj _ e;refine⟨(s.heap.push { cls:=.type "range",data:=.fields #[.int lo t,.int hi u,.int 1 v] }).objs.size,[(s.heap.push { cls:=.type "range",data:=.fields #[.int lo t,.int hi u,.int 1 v] }).objs.size],_,_,H,rfl,
  I1.kept (t':=tk) λb o e=>kj _ e,j11 _ lo (hi-lo).toNat,?_,λb hb=>?_,q⟩
 .have e1:lo+((0:Nat):Int)*1=lo:=by simp
  have e2:(((hi-lo).toNat:Nat):Int)-((0:Nat):Int)=Builtin.Range.rangeSize lo hi 1:=by rw[rangeSize_one];split<;>omega
  show IsRangeIter _ _ (lo+((0:Nat):Int)*1) ((((hi-lo).toNat:Nat):Int)-((0:Nat):Int)) 1;rw[e1,e2];exact xx _ rfl
 .have e:b=(s.heap.push { cls:=.type "range",data:=.fields #[.int lo t,.int hi u,.int 1 v] }).objs.size:=by simpa using hb
  subst e;exact I1.fpOk (X5 _) (I1.hok.fresh (X5 _))
def jif(ta:TA):TI:=λσ H R=>ta σ H λvs H1=>∃j:Int,vs=[.int j]/\-(2^62)<=j/\j<2^62/\R (Itr 0 j.toNat) H1
def jie(ta:TA):TI:=λσ H R=>ta σ H λvs H1=>∃i j:Int,vs=[.int i,.int j]/\(-(2^62)<=i/\i<2^62/\-(2^62)<=j/\j<2^62)/\R (Itr i (j-i).toNat) H1
theorem j3j {a:au} {ta:TA} {p pos:aR} (hg:Gl X "range") (hm:X.mg "range" = ah) (ha:PA X [a] ta) (hs:ai [a] X.env=[(ae,aB a X.env)]:=by rfl):PI X tg (.Call (.Name "range" p) [a] [] pos) (jif ta):=by
 intro pins s σ H R I h;refine jB (Ja I hg hm boot_range (callWith_type1 (thn (ha pos pins s σ H _ I h) λus s1 ⟨vs,H1,I1,r1,q1⟩=>?_) hs rfl));obtain⟨j,e,q1,q2,q⟩:=q1;subst e;cases r1 with
 |cons r rr =>cases rr;obtain⟨t,rfl⟩:=r;exact call_range_1 (Lx I1 nofun nofun q1 q2 (by simpa using q))
theorem j3i {a b:au} {ta:TA} {p pos:aR} (hg:Gl X "range") (hm:X.mg "range" = ah) (ha:PA X [a,b] ta) (hs:ai [a,b] X.env=[(ae,aB a X.env),(ae,aB b X.env)]:=by rfl) (hs2:ai [b] X.env=[(ae,aB b X.env)]:=by rfl) :
  PI X tg (.Call (.Name "range" p) [a,b] [] pos) (jie ta):=by
 intro pins s σ H R I h;refine jB (Ja I hg hm boot_range (callWith_type1 (thn (ha pos pins s σ H _ I h) λus s1 ⟨vs,H1,I1,r1,q1⟩=>?_) (by rw[hs,hs2]) (by rw[hs2];rfl)));obtain⟨i,j,e,⟨q1,q2,q3,q4⟩,q⟩:=q1;subst e;cases r1 with
 |cons r rr =>
  cases rr with
  |cons r' rr =>cases rr;obtain⟨t,rfl⟩:=r;obtain⟨t',rfl⟩:=r';exact call_range_2 (Lx I1 q1 q2 q3 q4 q)
def jjq(wi:TI)(g:TG)(tb:TS):TS:=λD σ H=>wi σ H λJ H1=>∃W:Nat->Nat->St->Hp->Prop,(∃m,W 0 m σ H1)/\∀i m σ H,W i m σ H ->
 (J.stop i H/\D.nx σ H)\/(J.go i H/\∃N:St->Hp->Prop,(∀σ' H',N σ' H'->∃m',m'<m/\W (i+1) m' σ' H')/\∀x H',J.yld i H x H'->g x σ H' λσ2 H2=>tb { D with nx:=N,ct:=N,bk:=D.nx } σ2 H2)
noncomputable def Vr(fp:List ak)(h:aG):List (ak×dm):=fp.filterMap λb=>(h.get? b).map λo=>(b,o)
theorem Z1{fp:List ak}{h:aG}{b:ak}{o:dm}(hb:b∈fp)(e:h.get? b=aa o):(b,o)∈Vr fp h:=Pq.mpr ⟨b,hb,by rw[e];rfl⟩
theorem Fo{fp:List ak}{h:aG}{p:ak×dm}(hp:p∈Vr fp h):p.1∈fp/\h.get? p.1=aa p.2:=by
 obtain⟨b,hb,e⟩:=Pq.mp hp;cases q:h.get? b with
 |none=>rw[q]at e;cases e
 |some o =>rw[q]at e;have e':(b,o)=p:=aC e;subst e';exact⟨hb,q⟩
theorem Inv.pinned{pins:k72}{σ:St}{H:Hp}{s:aq}{fp:List ak}(I:Inv X pins σ H s)(hf:∀b∈fp,Qe X pins H b)(ho:∀b∈fp,∃o,s.heap.get? b=aa o/\∀v,o.data≠.cell v):Inv X (pins++Vr fp s.heap) σ H s :=
 I.pins_of λp hp=>(Ph.mp hp).elim (λz=>I.pin p (Xi _ z)) λz=>by obtain⟨hb,e⟩:=Fo z;obtain⟨f0,f1,f2,_⟩:=hf p.1 hb;obtain⟨o,e',d⟩:=ho p.1 hb;rw[e]at e';cases e';exact⟨e,f0,f1,f2,d⟩
theorem Inv.unpinned{pins pl:k72}{σ:St}{H:Hp}{s:aq}(I:Inv X (pins++pl) σ H s):Inv X pins σ H s:=I.pins_of λp hp=>I.pin p (Xi _ (cY _ hp))
theorem jdj{iter:au}{body:List aQ}{wi:TI}{g:TG}{tb:TS}{pos:aR}(hp:fv (aA X.prog X.w) X.A X.env X.xe)(hc:X.calm=af)(hi:PI X tg iter wi)(hg:PG X tg g)(hb:PSs X body tb)
  (hs:∀x,aX iter X.env x=pure x:=by intro _;rfl):PS X (.For tg iter body [] pos) (jjq wi g tb):=by
 intro pins s σ H D I h;refine wpAny_For (thn (hi pins s σ H _ I h) λv s1 h1=>thn h1 λitv s2 h2=>?_) hs;obtain⟨it,fp,tn,J,H2,e,I2,T,st2,f2,W,⟨m0,w0⟩,turn⟩:=h2;subst e;have stat:∀{H':Hp},(∀b∈fp,H' b=ah)->∀b∈fp,Qe X pins H' b:=λhn b hb=>⟨hn b hb,(f2 b hb).2⟩
 refine codeAny_forLoop_any (λn s'=>∃i σ' H',Inv X pins σ' H' s'/\tn i s'.heap/\(∀b∈fp,H' b=ah)/\W i n σ' H') ?_ m0 ⟨0,σ,H2,I2,st2,λb hb=>(f2 b hb).1,w0⟩;rintro n s3 ⟨i,σ3,H3,I3,st3,fr3,w3⟩;rcases turn i n σ3 H3 w3 with ⟨stop,qn⟩|⟨go,N,hN,step⟩
 .refine cf hp (thn (T.done X rfl rfl rfl hc i pins s3 σ3 H3 X.xe I3 (stat fr3) st3 stop) λr s4 ⟨hr,I4⟩=>?_);subst hr;exact eY ⟨σ3,H3,I4,qn⟩
 .refine cf hp (thn (T.item X rfl rfl rfl hc i pins s3 σ3 H3 X.xe I3 (stat fr3) st3 go) λr s4 ⟨u,hr,h4⟩=>?_);subst hr;refine cf hp (thn h4 λ_ s5 ⟨x,H5,I5,r5,y5,st5,fr5⟩=>?_);have I5':=I5.pinned (stat fr5) (T.obj _ _ st5);refine cf hp (thn (hg _ s5 σ3 H5 x u _ I5' r5 (step x H5 y5)) λ_ s6 ⟨σ6,H6,I6,q6⟩=>?_);refine cf hp (thn (hb _ s6 σ6 H6 _ I6 q6) λf s7 q7=>?_);have jZ:∀{σ7:St}{H7:Hp},Inv X (pins++Vr fp s5.heap) σ7 H7 s7->N σ7 H7->∃m,m<n/\∃i σ' H',Inv X pins σ' H' s7/\tn i s7.heap/\(∀b∈fp,H' b=ah)/\W i m σ' H':=λ{σ7 H7} I7 n7=>by obtain⟨m',hm,w7⟩:=hN σ7 H7 n7;refine⟨m',hm,i+1,σ7,H7,I7.unpinned,T.keep _ _ _ st5 λb hb o e=>(I7.pin (b,o) (Xi _ (Xi _ (Z1 hb e)))).1,λb hb=>?_,w7⟩;obtain⟨o,e,d⟩:=T.obj _ _ st5 b hb;exact(I7.pin (b,o) (Xi _ (Xi _ (Z1 hb e)))).2.1
  cases f with
  |next=>obtain⟨σ7,H7,I7,n7⟩:=q7;exact jZ I7 n7
  |cont=>obtain⟨σ7,H7,I7,n7⟩:=q7;exact jZ I7 n7
  |brk=>obtain⟨σ7,H7,I7,q7⟩:=q7;exact⟨σ7,H7,I7.unpinned,q7⟩
  |ret v=>obtain⟨x7,σ7,H7,H8,I7,r7,x8,q7⟩:=q7;exact⟨x7,σ7,H7,H8,I7.unpinned,r7,x8,q7⟩
end
abbrev R2:=V->V->Hp->VK->Prop
def OpR(X:Cx)(f:aj->aj->kZ aj)(r:R2):Prop :=
 ∀(pins:k72) (s:aq) (σ:St) (H:Hp) (x y:V) (v u:aj) (Q:VK),Inv X pins σ H s->RelV x v->RelV y u->r x y H Q ->
  ax (aA X.prog X.w) X.A (f v u) (EP X pins σ Q) X.xe s
def Jh(X:Cx)(f:aj)(r:List V->Hp->VK->Prop):Prop :=
 ∀(pins:k72) (s:aq) (σ:St) (H:Hp) (xs:List V) (us:List aj) (Q:VK),Inv X pins σ H s->Vals xs us->r xs H Q ->
  ax (aA X.prog X.w) X.A (call f us) (EP X pins σ Q) X.xe s
def tOp(r:R2)(ta tb:TE):TE:=λσ H Q=>ta σ H λx H1=>tb σ H1 λy H2=>r x y H2 Q
def rI(C:Int->Int->Prop)(g:Int->Int->V):R2:=λx y H Q=>∃i j,x=.int i/\y=.int j/\C i j/\Q (g i j) H
def rI0(g:Int->Int->V):R2:=λx y H Q=>∃i j,x=.int i/\y=.int j/\Q (g i j) H
section
variable{X:Cx}{a b c:au}{ta tb tc:TE}{pos:aR}
theorem j8f(ha:PE X a ta)(hb:PE X b tb){pins:k72}{s:aq}{σ:St}{H:Hp}{R:V->V->Hp->Prop}(I:Inv X pins σ H s)
  (h:ta σ H λx H1=>tb σ H1 λy H2=>R x y H2) {Q:k71} {f:aj->aj->kZ aj}
  (hf:∀v u s2 x y H2,Inv X pins σ H2 s2->RelV x v->RelV y u->R x y H2->ax (aA X.prog X.w) X.A (f v u) Q X.xe s2) :
  ax (aA X.prog X.w) X.A (aB a X.env) (λv s₁=>ax (aA X.prog X.w) X.A (aB b X.env) (λu s₂=>ax (aA X.prog X.w) X.A (f v u) Q X.xe s₂) X.xe s₁) X.xe s:=by
 refine thn (ha pins s σ H _ I h) λv s1 ⟨x,H1,I1,r1,q1⟩=>?_;refine thn (hb pins s1 σ H1 _ I1 q1) λu s2 ⟨y,H2,I2,r2,q2⟩=>?_;exact hf v u s2 x y H2 I2 r1 r2 q2
theorem Vf{op:j3}{r:R2}(ho:OpR X (bh op) r)(ha:PE X a ta)(hb:PE X b tb):PE X (.BinOp a op b pos) (tOp r ta tb):=by intro pins s σ H Q I h;exact wpAny_BinOp (j8f ha hb I h λv u s2 x y H2 I2 rx ry q=>ho pins s2 σ H2 x y v u Q I2 rx ry q)
theorem opI{f:aj->aj->kZ aj}{C:Int->Int->Prop}{g:Int->Int->Int}
  (rule:∀(i j:Int)(t u:dF)(s:aq)(Q:k71)(E:k71),C i j->Q (.int (g i j) s.toks) { s with toks:=s.toks+1 }->ax (aA X.prog X.w) X.A (f (.int i t) (.int j u)) Q E s) :
  OpR X f (rI C λi j=>.int (g i j)):=by
 intro pins s σ H x y v u Q I rx ry h;obtain⟨i,j,rfl,rfl,hc,q⟩:=h;obtain⟨t,rfl⟩:=rx;obtain⟨t',rfl⟩:=ry;exact rule i j t t' s _ _ hc ⟨.int (g i j),H,I.tok _,⟨_,rfl⟩,q⟩
theorem j1n{f:aj->aj->kZ aj}{g:Int->Int->Int}
  (rule:∀(i j:Int)(t u:dF)(s:aq)(Q:k71)(E:k71),Q (.int (g i j) s.toks) { s with toks:=s.toks+1 }->ax (aA X.prog X.w) X.A (f (.int i t) (.int j u)) Q E s) :
  OpR X f (rI0 λi j=>.int (g i j)):=by
 intro pins s σ H x y v u Q I rx ry h;obtain⟨i,j,rfl,rfl,q⟩:=h;obtain⟨t,rfl⟩:=rx;obtain⟨t',rfl⟩:=ry;exact rule i j t t' s _ _ ⟨.int (g i j),H,I.tok _,⟨_,rfl⟩,q⟩
theorem j1o{f:aj->aj->kZ aj}{g:Int->Int->Bool}
  (rule:∀(i j:Int)(t u:dF)(s:aq)(Q:k71)(E:k71),Q (.bool (g i j)) s->ax (aA X.prog X.w) X.A (f (.int i t) (.int j u)) Q E s) :
  OpR X f (rI0 λi j=>.bl (g i j)):=by
 intro pins s σ H x y v u Q I rx ry h;obtain⟨i,j,rfl,rfl,q⟩:=h;obtain⟨t,rfl⟩:=rx;obtain⟨t',rfl⟩:=ry;exact rule i j t t' s _ _ ⟨.bl (g i j),H,I,rfl,q⟩
def j2k(i j:Int):Prop:=0<=j/\j<=1000000/\i.natAbs<2^64
def j2l(i j:Int):Prop:=(-(2^64)<i/\i<2^64)\/(-(2^64)<j/\j<2^64)
theorem j2l.ok{i j:Int}(h:j2l i j):IntMulOk i j:=by
 rcases h with ⟨h1,h2⟩|⟨h1,h2⟩
 .exact .of_left (lN h1 h2)
 .exact .of_right (lN h1 h2)
theorem j0z(k:Nat):(0:Int)<=2^k:=by rw[two_pow_cast];exact fm _
theorem j3q:OpR X (bh .Add) (rI0 λi j=>.int (i+j)):=j1n λ_ _ _ _ _ _ _ q=>add_int q
theorem jdv:OpR X (bh .Sub) (rI0 λi j=>.int (i-j)):=j1n λ_ _ _ _ _ _ _ q=>sub_int q
theorem je0:OpR X (bh .Mult) (rI j2l λi j=>.int (i*j)):=opI λ_ _ _ _ _ _ _ hc q=>mul_int q hc.ok
theorem je1:OpR X (bh .Mod) (rI (λ_ j=>0<j) λi j=>.int (i%j)):=opI λi j _ _ _ _ _ hc q=>by have h1:(0:Int)<j:=hc;exact mod_int' nofun (by rw[Int.fmod_eq_emod_of_nonneg i nofun];exact q)
theorem jdz:OpR X (bh .Pow) (rI j2k λi j=>.int (i^j.toNat)):=opI λ_ _ _ _ _ _ _ hc q=>pow_int_small hc.1 hc.2.1 hc.2.2 q
theorem jdx:OpR X (bh .LShift) (rI j2k λi j=>.int (i*2^j.toNat)):=opI λ_ _ _ _ _ _ _ hc q=>lshift_int_small hc.1 hc.2.1 hc.2.2 q
theorem jdw:OpR X (bh .RShift) (rI (λ_ j=>0<=j) λi j=>.int (i/2^j.toNat)):=opI λi j _ _ _ _ _ hc q =>rshift_int hc (by rw[gp i (j0z _)];exact q)
theorem je2:OpR X (bh .BitAnd) (rI0 λi j=>.int (Builtin.bitAnd i j)):=j1n λ_ _ _ _ _ _ _ q=>and_int q
theorem jdu:OpR X (bh .BitXor) (rI0 λi j=>.int (Builtin.bitXor i j)):=j1n λ_ _ _ _ _ _ _ q=>xor_int q
end
noncomputable def Bj:V->V->Bool
 |.non,.non=>af|.non,.int _=>af|.int _,.non=>af|.non,.bl _=>af|.bl _,.non=>af|.non,.str _=>af|.str _,.non=>af
 |.int _,.int _=>af|.bl _,.bl _=>af|.str _,.str _=>af|.byt _,.byt _=>af
 |.int _,.str _=>af|.str _,.int _=>af|.bl _,.str _=>af|.str _,.bl _=>af
 |_,_=>ae
def rEq:R2:=λx y H Q=>Bj x y=af/\Q (.bl (decide (x=y))) H
def rNe:R2:=λx y H Q=>Bj x y=af/\Q (.bl (!decide (x=y))) H
theorem j0p{i j:Int}:decide (V.int i=V.int j)=(i==j):=by rw[eN];simp
theorem j4m{i j:Bool}:decide (V.bl i=V.bl j)=(i==j):=by rw[eN];simp
theorem j0o{i j:ao}:decide (V.str i=V.str j)=(i==j):=by rw[eN];simp
theorem j0q{i j:Array UInt8}:decide (V.byt i=V.byt j)=(i.toList==j.toList):=by rw[eN];cases i;cases j;simp
section
variable{X:Cx}{a b c:au}{ta tb tc:TE}{pos:aR}
theorem jw{pins:k72}{σ:St}{H:Hp}{s:aq}{Q:VK}{k k':Bool}(I:Inv X pins σ H s)(q:Q (.bl k) H)(e:k=k'):EP X pins σ Q (.bool k') s:=by subst e;exact⟨.bl k,H,I,rfl,q⟩
theorem j92:OpR X (bj .Eq) rEq:=by
 intro pins s σ H x y v u Q I rx ry h;obtain⟨hs,q⟩:=h;cases x with
 |non =>
  cases rx;cases y with
  |non=>cases ry;exact kP (jw I q (by simp))
  |bl j=>cases ry;exact kR (jw I q (by simp))
  |int j=>obtain⟨t',rfl⟩:=ry;exact kQ (jw I q (by simp))
  |str j=>obtain⟨t',rfl⟩:=ry;exact kO (jw I q (by simp))
  |_=>exact absurd (show ae=af from hs) xf
 |bl i =>
  cases rx;cases y with
  |non=>cases ry;exact kT (jw I q (by simp))
  |bl j=>cases ry;exact eq_bool (jw I q j4m)
  |str j=>obtain⟨t',rfl⟩:=ry;exact kl (jw I q (by simp))
  |_=>exact absurd (show ae=af from hs) xf
 |int i =>
  obtain⟨t,rfl⟩:=rx;cases y with
  |non=>cases ry;exact kS (jw I q (by simp))
  |int j=>obtain⟨t',rfl⟩:=ry;exact eq_int (jw I q j0p)
  |str j=>obtain⟨t',rfl⟩:=ry;exact ki (jw I q (by simp))
  |_=>exact absurd (show ae=af from hs) xf
 |str i =>
  obtain⟨t,rfl⟩:=rx;cases y with
  |non=>cases ry;exact kN (jw I q (by simp))
  |bl j=>cases ry;exact kg (jw I q (by simp))
  |int j=>obtain⟨t',rfl⟩:=ry;exact ke (jw I q (by simp))
  |str j=>obtain⟨t',rfl⟩:=ry;exact eq_str (jw I q j0o)
  |_=>exact absurd (show ae=af from hs) xf
 |byt i =>
  obtain⟨t,rfl⟩:=rx;cases y with
  |byt j=>obtain⟨t',rfl⟩:=ry;exact W.eq_bytes (jw I q j0q)
  |_=>exact absurd (show ae=af from hs) xf
 |_=>cases y<;>exact absurd (show ae=af from hs) xf
theorem j1i:OpR X (bj .NotEq) rNe:=by
 intro pins s σ H x y v u Q I rx ry h;obtain⟨hs,q⟩:=h;cases x with
 |non =>
  cases rx;cases y with
  |non=>cases ry;exact kI (jw I q (by simp))
  |bl j=>cases ry;exact kK (jw I q (by simp))
  |int j=>obtain⟨t',rfl⟩:=ry;exact kJ (jw I q (by simp))
  |str j=>obtain⟨t',rfl⟩:=ry;exact kH (jw I q (by simp))
  |_=>exact absurd (show ae=af from hs) xf
 |bl i =>
  cases rx;cases y with
  |non=>cases ry;exact kM (jw I q (by simp))
  |bl j=>cases ry;exact ne_bool (jw I q (congrArg not j4m))
  |str j=>obtain⟨t',rfl⟩:=ry;exact ka (jw I q (by simp))
  |_=>exact absurd (show ae=af from hs) xf
 |int i =>
  obtain⟨t,rfl⟩:=rx;cases y with
  |non=>cases ry;exact kL (jw I q (by simp))
  |int j=>obtain⟨t',rfl⟩:=ry;exact ne_int (jw I q (congrArg not j0p))
  |str j=>obtain⟨t',rfl⟩:=ry;exact k9 (jw I q (by simp))
  |_=>exact absurd (show ae=af from hs) xf
 |str i =>
  obtain⟨t,rfl⟩:=rx;cases y with
  |non=>cases ry;exact kF (jw I q (by simp))
  |bl j=>cases ry;exact k8 (jw I q (by simp))
  |int j=>obtain⟨t',rfl⟩:=ry;exact k7 (jw I q (by simp))
  |str j=>obtain⟨t',rfl⟩:=ry;exact ne_str (jw I q (congrArg not j0o))
  |_=>exact absurd (show ae=af from hs) xf
 |byt i =>
  obtain⟨t,rfl⟩:=rx;cases y with
  |byt j=>obtain⟨t',rfl⟩:=ry;exact W.ne_bytes (jw I q (congrArg not j0q))
  |_=>exact absurd (show ae=af from hs) xf
 |_=>cases y<;>exact absurd (show ae=af from hs) xf
theorem j1k:OpR X (bj .Lt) (rI0 λi j=>.bl (decide (i<j))):=j1o λ_ _ _ _ _ _ _ q=>lt_int q
theorem j90:OpR X (bj .LtE) (rI0 λi j=>.bl (decide (i<=j))):=j1o λ_ _ _ _ _ _ _ q=>le_int q
theorem j91:OpR X (bj .Gt) (rI0 λi j=>.bl (decide (j<i))):=j1o λ_ _ _ _ _ _ _ q=>gt_int q
theorem j1l:OpR X (bj .GtE) (rI0 λi j=>.bl (decide (j<=i))):=j1o λ_ _ _ _ _ _ _ q=>ge_int q
theorem Ff:OpR X (bj .Lt) (λx y H Q=>∃i j,x=.str i/\y=.str j/\Q (.bl (decide (i.cps.toList<j.cps.toList))) H):=by intro pins s σ H x y v u Q I rx ry h;obtain⟨i,j,rfl,rfl,q⟩:=h;obtain⟨t,rfl⟩:=rx;obtain⟨t',rfl⟩:=ry;exact lt_str (jw I q rfl)
theorem Fg:OpR X (bj .In) (λx y H Q=>∃i j,x=.str i/\y=.str j/\Q (.bl (!(bB j i 0 j.length 1).isEmpty)) H):=by intro pins s σ H x y v u Q I rx ry h;obtain⟨i,j,rfl,rfl,q⟩:=h;obtain⟨t,rfl⟩:=rx;obtain⟨t',rfl⟩:=ry;exact in_str (jw I q rfl)
theorem z8(b:au){op:gw}(h:op≠.In:=by decide)(h2:op≠.NotIn:=by decide):aO op b=ae:=by
 have e1:(op==CmpOp.In)=ae:=by cases op<;>first|rfl|exact absurd rfl h
 have e2:(op==CmpOp.NotIn)=ae:=by cases op<;>first|rfl|exact absurd rfl h2
 cases b<;>simp[aO,e1,e2]
theorem Ji{op:gw}{r:R2}(ho:OpR X (bj op) r)(ha:PE X a ta)(hb:PE X b tb)(hm:aO op b=ae):PE X (.Compare a [op] [b] pos) (tOp r ta tb):=by intro pins s σ H Q I h;exact lE (j8f ha hb I h λv u s2 x y H2 I2 rx ry q=>ho pins s2 σ H2 x y v u Q I2 rx ry q) hm
def jgq(t:TE):TT:=λσ H Q=>t σ H λx H'=>∃k,x=.bl k/\Q k H'
theorem J5{op:gw}{r:R2}(ho:OpR X (bj op) r)(ha:PE X a ta)(hb:PE X b tb)(hm:aO op b=ae):PT X (.Compare a [op] [b] pos) (jgq (tOp r ta tb)):=by
 intro pins s σ H Q I h;refine iR (thn (ha pins s σ H _ I h) λv s1 ⟨x,H1,I1,r1,q1⟩=>thn (hb pins s1 σ H1 _ I1 q1) λu s2 ⟨y,H2,I2,r2,q2⟩ =>
  thn (ho pins s2 σ H2 x y v u _ I2 r1 r2 q2) λc s3 ⟨z,H3,I3,r3,k,e,q3⟩=>?_) hm
 subst e;cases r3;exact bq ⟨H3,I3,q3⟩
theorem Yv:(ar:Nat)<2^63:=by rw[cg];decide
theorem j1m:OpR X (bh .Add) (λx y H Q=>∃i j,x=.str i/\y=.str j/\i.length+j.length<=ar/\Q (.str (i++j)) H):=by intro pins s σ H x y v u Q I rx ry h;obtain⟨i,j,rfl,rfl,hz,q⟩:=h;obtain⟨t,rfl⟩:=rx;obtain⟨t',rfl⟩:=ry;exact add_str (λt' tk=>⟨.str (i++j),H,I.tok _,⟨_,rfl⟩,q⟩) hz
theorem vals1{x:V}{us:List aj}(r:Vals [x] us):∃u,us=[u]/\RelV x u:=by
 cases r with
 |cons r1 r2=>cases r2;exact⟨_,rfl,r1⟩
theorem vals2{x y:V}{us:List aj}(r:Vals [x,y] us):∃u w',us=[u,w']/\RelV x u/\RelV y w':=by
 cases r with
 |cons r1 r2 =>
  cases r2 with
  |cons r3 r4=>cases r4;exact⟨_,_,rfl,r1,r3⟩
theorem j55 (hc:X.calm=af):Jh X (.builtin "max") (λxs H Q=>∃i j,xs=[.int i,.int j]/\Q (.int (if j>i then j else i)) H):=by
 intro pins s σ H xs us Q I r h;obtain⟨i,j,rfl,q⟩:=h;obtain⟨u,w',rfl,⟨t,rfl⟩,⟨t',rfl⟩⟩:=vals2 r;refine max_two_ints (I.ok.hd hc) λh' tk k=>⟨_,H,I.kept k,?_,q⟩
 by_cases hj:j>i
 .rw[if_pos hj,if_pos hj];exact⟨_,rfl⟩
 .rw[if_neg hj,if_neg hj];exact⟨_,rfl⟩
theorem j53 (hc:X.calm=af):Jh X (.builtin "min") (λxs H Q=>∃i j,xs=[.int i,.int j]/\Q (.int (if j<i then j else i)) H):=by
 intro pins s σ H xs us Q I r h;obtain⟨i,j,rfl,q⟩:=h;obtain⟨u,w',rfl,⟨t,rfl⟩,⟨t',rfl⟩⟩:=vals2 r;refine min_two_ints (I.ok.hd hc) λh' tk k=>⟨_,H,I.kept k,?_,q⟩
 by_cases hj:j<i
 .rw[if_pos hj,if_pos hj];exact⟨_,rfl⟩
 .rw[if_neg hj,if_neg hj];exact⟨_,rfl⟩
theorem j58:Jh X (.type "int") (λxs H Q=>(∃i,xs=[.int i]/\Q (.int i) H)\/∃k,xs=[.bl k]/\Q (.int (if k then 1 else 0)) H):=by
 intro pins s σ H xs us Q I r h;rcases h with ⟨i,rfl,q⟩|⟨k,rfl,q⟩
 .obtain⟨u,rfl,t,rfl⟩:=vals1 r;exact call_int_int ⟨.int i,H,I,⟨_,rfl⟩,q⟩
 .obtain⟨u,rfl,r1⟩:=vals1 r;cases r1;exact call_int_bool ⟨.int (if k then 1 else 0),H,I.tok _,⟨_,rfl⟩,q⟩
end
structure ObjM(h:aG)(x dx C:ak)(mA:k73):Prop where
 obj:h.get? x=aa (W.instObj C dx)
 ns:h.Ns1 dx mA
 ne:dx≠x
theorem j3w{h:aG}{dx:ak}{mA:k73}(n:h.Ns1 dx mA):∃od,h.get? dx=aa od/\∀name,W.lookIn name od=aa (mA name):=by
 obtain⟨o,es,ep,ho,hd,hk,_,hm⟩:=n;refine⟨o,ho,λname=>?_⟩;have e:=hm name;unfold nsFind findBy at e;rw[<-Array.find?_toList]at e;unfold W.lookIn;rw[hd];dsimp only;split
 .rename_i y q;rw[q]at e;exact congrArg aa e
 .rename_i q;rw[q]at e;have a:es.toList.any (·.refKey)=ae:=by rw[fB];intro y hy;obtain⟨z,t,hkey⟩:=hk y (Array.mem_toList_iff.mp hy);simp[DictEntry.refKey,hkey]
  have a':¬es.toList.any (·.refKey)=af:=by rw[a];exact xf
  rw[if_neg a'];exact congrArg aa e
theorem ObjM.look{h:aG}{x dx C:ak}{mA:k73}(I:ObjM h x dx C mA):∃od,PySem.W.InstAt h x (W.instObj C dx) C (aa od)/\∀name,W.lookIn name od=aa (mA name) :=
 let ⟨od,ho,hl⟩:=j3w I.ns
 ⟨od,⟨I.obj,rfl,rfl,ho⟩,hl⟩
section
variable{prog:ay}{w:aD}{A:aF}{E:k71}{s:aq}{K:k70}{x dx C f:ak}{mA:k73}{name:ao}{v:aj}
theorem jbo{expr:Bool}{Q:k71}(X:K.In s.heap)(I:ObjM s.heap x dx C mA)(hg:W.plainGet K C name=af)(hh:W.hasDictIn K C=af)
  (ha:W.findIn K (.ref C) name=aa ah) (hv:mA name=aa v) (hv':W.handedIn v=af) (h:Q v { s with toks:=s.toks+1 }) :
  ax (aA prog w) A (getAttr (.ref x) name expr) Q E s:=by
 obtain⟨od,J,hl⟩:=I.look;exact W.get_value X J (W.plainGet_of hg).1 (W.findObj_own hh ha rfl (by rw[hl,hv])) hv' h
theorem j7t{pl:kZ Bool}{Q:aj×List aj->aq->Prop}(X:K.In s.heap)(I:ObjM s.heap x dx C mA)(hg:W.plainGet K C name=af)
  (hf:W.findIn K (.ref C) name=aa (aa (.ref f))) (ht:W.isFn K (.ref f)=af) (hv:mA name=ah) (h:Q (.ref f,[.ref x]) s) :
  ax (aA prog w) A (ig (.ref x) name pl) Q E s:=by
 obtain⟨od,J,hl⟩:=I.look;exact W.method_fn X J (W.plainGet_of hg).1 (W.plainGet_of hg).2 hf (beq_iff_eq.mp ht) (by show(W.lookIn name od).map (·.isSome)=aa ae;rw[hl,hv];rfl) h
theorem ja5{ns:List ao}{Q:Unit->aq->Prop}(X:K.In s.heap)(I:ObjM s.heap x dx C mA)
  (hs:W.findIn K (.ref C) "__setattr__" = aa (aa (.builtin "object.__setattr__"))) (hp:W.plainOver K C=af) (ht:W.takerIn K C name=aa ah) (hh:W.hasDictIn K C=af)
  (hw:gB mA ns) (hsz:ns.length<=ar)
  (h:∀h',ObjM h' x dx C (λy=>if y=name then aa v else mA y)->cK dx s.heap h'->Q () { s with heap:=h',toks:=s.toks+2 }) :
  ax (aA prog w) A (setAttr (.ref x) name v) Q E s:=by
 obtain⟨od,J,hl⟩:=I.look;refine W.set_plain X J hs (W.osa_open (s:={ s with toks:=s.toks+1 }) (r:=ah) X J hp ht λb=>?_);obtain⟨cd,hc,hd'⟩:=W.any_some hh;have hx:s.heap.get? x=aa ⟨.ref C,aa dx,.plain,#[]⟩:=I.obj;refine ag (av (ag (ag (wpAny_loadPart hx (ag (PySem.W.Looks.here (s:={ s with toks:=s.toks+1 }) (W.looks_clsIn X hc) ?_))))));rw[hd'];refine av (a:=aa dx) (ag (av (ag ?_)));refine wpAny_nsSet1 (s:={ s with toks:=s.toks+1 }) I.ns λh' hn2 hs2=>?_;obtain⟨oD,esD,epD,hoD,hdD,hcD⟩:=hn2.count (PySem.Within.cons name v hw);refine ag (wpAny_lookBehind hoD (by rw[hdD];exact pastItsLine_dict (Xh hcD (by rw[xr];omega))) ?_);exact av (h _ ⟨(hs2.2 _ (dS I.ne)).trans I.obj,hn2,I.ne⟩ hs2)
theorem j70{R:fi->aq->Prop}{vs:List aj}{kw:List (ao×aj)}(X:K.In s.heap)(hm:W.makesIn K C=af)
  (hi:W.findIn K (.ref C) "__init__" = aa (aa (.ref f))) (hf:W.typeIn K (.ref f)=aa (.type "function"))
  (h:cF (aA prog w) (A.under (.builtin "type.__call__" ⟨.ref C::vs,kw⟩)) (.call (.ref f) ⟨.ref (s.heap.objs.size+1)::vs,kw⟩) (PySem.W.InitBack (s.heap.objs.size+1) R)
   { s with heap:=(s.heap.push W.emptyDict).push (W.instObj C s.heap.objs.size) }) :
  cF (aA prog w) A (.call (.ref C) ⟨vs,kw⟩) R s:=by
 obtain⟨hh,g,d,t,os⟩:=s;exact W.make_core (W.makes_of X hm) (W.looks_findIn X hi) (λself=>W.bind_fn X self hf) (.inl rfl) h
end
noncomputable def Jc(f:ao)(v:V):List (ao×V)->List (ao×V)
 |[]=>[(f,v)]
 |(g,x)::r=>if g=f then(g,v)::r else(g,x)::Jc f v r
theorem Ry(f g:ao)(v:V):∀fs:List (ao×V),(Jc f v fs).lookup g=if g=f then aa v else fs.lookup g
 |[]=>by
  show cZ g [(f,v)]=_;by_cases h:g=f
  .have hb:(g==f)=af:=beq_iff_eq.mpr h;simp only[cZ,hb,if_pos h]
  .have hb:(g==f)=ae:=beq_eq_false_iff_ne.mpr h;simp only[cZ,hb,if_neg h]
 |(k,x)::r=>by
  have ih:=Ry f g v r;rw[show Jc f v ((k,x)::r)=(if k=f then(k,v)::r else(k,x)::Jc f v r)from rfl];by_cases hk:k=f
  .rw[if_pos hk];by_cases h:g=k
   .have hb:(g==k)=af:=beq_iff_eq.mpr h;simp only[cZ,hb,if_pos (h.trans hk)]
   .have hb:(g==k)=ae:=beq_eq_false_iff_ne.mpr h;simp only[cZ,hb,if_neg (λe:g=f=>h (e.trans hk.symm))]
  .rw[if_neg hk];by_cases h:g=k
   .have hb:(g==k)=af:=beq_iff_eq.mpr h;simp only[cZ,hb,if_neg (λe:g=f=>hk (h.symm.trans e))]
   .have hb:(g==k)=ae:=beq_eq_false_iff_ne.mpr h;simp only[cZ,hb];exact ih
theorem Wc(f:ao)(v:V):∀fs:List (ao×V),f∈(Jc f v fs).map (·.1)/\∀g,g∈fs.map (·.1)->g∈(Jc f v fs).map (·.1)
 |[]=>⟨by simp[Jc],λg h=>by simp at h⟩
 |(k,x)::r=>by
  obtain⟨i1,i2⟩:=Wc f v r;rw[show Jc f v ((k,x)::r)=(if k=f then(k,v)::r else(k,x)::Jc f v r)from rfl];by_cases hk:k=f
  .rw[if_pos hk];subst hk;exact⟨by simp,λg h=>by simpa using h⟩
  .rw[if_neg hk];refine⟨?_,λg h=>?_⟩
   .rw[X4];exact km _ i1
   .rw[X4]at h ⊢;rcases xn.mp h with e|e
    .exact xn.mpr (.inl e)
    .exact km _ (i2 g e)
theorem Rz(f:ao)(v:V):∀fs:List (ao×V),(Jc f v fs).length<=fs.length+1
 |[]=>by simp[Jc]
 |(k,x)::r=>by
  have ih:=Rz f v r;rw[show Jc f v ((k,x)::r)=(if k=f then(k,v)::r else(k,x)::Jc f v r)from rfl];by_cases hk:k=f
  .rw[if_pos hk,xr,xr];omega
  .rw[if_neg hk,xr,xr];omega
theorem Yk.some_of{v:V}{o:Option aj}(r:Yk (aa v) o):∃u,o=aa u/\RelV v u:=by
 cases o with
 |none=>exact(show False from r).elim
 |some u=>exact⟨u,rfl,r⟩
theorem Yk.none_of{o:Option aj}(r:Yk ah o):o=ah:=by
 cases o with
 |none=>rfl
 |some u=>exact(show False from r).elim
theorem j4d{v:V}{u:aj}(r:RelV v u):W.handedIn u=af:=by
 cases v with
 |non=>cases(show u=aZ from r);rfl
 |bl b=>cases(show u=bo b from r);rfl
 |int i=>obtain⟨t,e⟩:=(show ∃t,u=br i t from r);cases e;rfl
 |str x=>obtain⟨t,e⟩:=(show ∃t,u=b8 x t from r);cases e;rfl
 |byt b=>obtain⟨t,e⟩:=(show ∃t,u=jS b t from r);cases e;rfl
 |flt b=>obtain⟨t,e⟩:=(show ∃t,u=jR b t from r);cases e;rfl
 |ref a=>cases(show u=aH a from r);rfl
 |ty n=>cases(show u=cQ n from r);rfl
section
variable{P:ay}{w:aD}{H H':Hp}{h h':aG}{a C dx:ak}{fs fs':List (ao×V)}
theorem Bv(hok:HOk P w H h)(e:H a=aa (.ins C dx fs)):∃mA,ObjM h a dx C mA/\(∀f,Yk (fs.lookup f) (mA f))/\gB mA (fs.map (·.1))/\fs.length<=1000/\H dx=aa (.own a):=by
 obtain⟨d,z,ne,ob,mA,n,r,q⟩:=(show jm P w H h a (.ins C dx fs)from hok a _ e)
 exact⟨mA,⟨ob,n,ne⟩,r,q,z,d⟩
end
structure Cls(K:k70)(C:ak):Prop where
 pg:W.plainGet K C dW=af
 hd:W.hasDictIn K C=af
 po:W.plainOver K C=af
 sa:W.findIn K (.ref C) "__setattr__" = aa (aa (.builtin "object.__setattr__"))
theorem Cls.get{K:k70}{C:ak}(c:Cls K C)(f:ao):W.plainGet K C f=af:=c.pg
def Zb(K:k70)(C:ak)(f:ao):Prop:=W.findIn K (.ref C) f=aa ah
theorem Zb.taker{K:k70}{C:ak}{f:ao}(n:Zb K C f):W.takerIn K C f=aa ah:=by unfold W.takerIn;rw[show W.findIn K (.ref C) f=aa ah from n];rfl
structure Con(K:k70)(C:ak)(f:ao)(v:V)(u:aj):Prop where
 at_:W.findIn K (.ref C) f=aa (aa u)
 rel:RelV v u
 get:W.specialIn K u "__get__" = aa ah
 cp:W.copiedNames.contains f=ae
structure Meth(K:k70)(C:ak)(m:ao)(f:ak):Prop where
 at_:W.findIn K (.ref C) m=aa (aa (.ref f))
 fn:W.isFn K (.ref f)=af
 kp:W.keepIn K (.ref f)=af
section
variable{X:Cx}{pins:k72}{σ:St}{H:Hp}{s:aq}{a C dx:ak}{fs:List (ao×V)}{f:ao}{v:V}{A:aF}{E:k71}
theorem j21{b:Bool}{Q:k71}(I:Inv X pins σ H s)(e:H a=aa (.ins C dx fs))(c:Cls X.K C)(n:Zb X.K C f)(l:fs.lookup f=aa v)
  (h:∀u s',Inv X pins σ H s'->RelV v u->Q u s'):ax (aA X.prog X.w) A (getAttr (.ref a) f b) Q E s:=by
 obtain⟨mA,O,r,_,_,_⟩:=Bv I.hok e;obtain⟨u,hu,ru⟩:=Yk.some_of (v:=v) (o:=mA f) (by rw[<-l];exact r f);exact jbo I.kIn O (c.get f) c.hd n hu (j4d ru) (h u _ (I.tok _) ru)
theorem Om{m:ao}{g:ak}{pl:kZ Bool}{Q:aj×List aj->aq->Prop}(I:Inv X pins σ H s)(e:H a=aa (.ins C dx fs))(c:Cls X.K C)(k:Meth X.K C m g)(l:fs.lookup m=ah)
  (h:Q (.ref g,[.ref a]) s):ax (aA X.prog X.w) A (ig (.ref a) m pl) Q E s:=by
 obtain⟨mA,O,r,_,_,_⟩:=Bv I.hok e;have hn:mA m=ah:=Yk.none_of (by rw[<-l];exact r m);exact j7t I.kIn O (c.get m) k.at_ k.fn hn h
theorem j16{y:V}{u:aj}{Q:Unit->aq->Prop}(I:Inv X pins σ H s)(e:H a=aa (.ins C dx fs))(c:Cls X.K C)(n:Zb X.K C f)(hl:fs.length<1000)(ry:RelV y u)
  (h:∀s',Inv X pins σ (upd H a (.ins C dx (Jc f y fs))) s'->Q () s'):ax (aA X.prog X.w) A (setAttr (.ref a) f u) Q E s:=by
 obtain⟨mA,O,r,wi,_,ho⟩:=Bv I.hok e;have hz:(fs.map (·.1)).length<=ar:=by rw[xg,cg];omega
 refine ja5 I.kIn O c.sa c.po n.taker c.hd wi hz λh' O' sb=>h _ ?_;have hd:∃o,h'.get? dx=aa o:=let ⟨o,_,_,e',_⟩:=O'.ns;⟨o,e'⟩;refine I.write (x:=a) (e:=dx) (by rw[e];exact True.intro) (.inr ho) (λb q hb z=>(sb.2 b hb).trans z) hd ?_;refine⟨by rw[jf O.ne];exact ho,?_,O.ne,O'.obj,_,O'.ns,λg=>?_,λg hg=>?_⟩
 .have:=Rz f y fs;omega
 .show Yk ((Jc f y fs).lookup g) (if g=f then aa u else mA g);rw[Ry];by_cases q:g=f
  .rw[if_pos q,if_pos q];exact ry
  .rw[if_neg q,if_neg q];exact r g
 .by_cases q:g=f
  .rw[q];exact(Wc f y fs).1
  .refine(Wc f y fs).2 g (wi g λz=>hg ?_);show(if g=f then aa u else mA g)=ah;rw[if_neg q];exact z
theorem Inv.made(I:Inv X pins σ H s):Inv X pins σ (upd (upd H s.heap.objs.size (.own (s.heap.objs.size+1))) (s.heap.objs.size+1) (.ins C s.heap.objs.size []))
  { s with heap:=(s.heap.push W.emptyDict).push (W.instObj C s.heap.objs.size) }:=by
 have e1:(s.heap.push W.emptyDict).get? s.heap.objs.size=aa W.emptyDict:=xx s.heap rfl;have e2:((s.heap.push W.emptyDict).push (W.instObj C s.heap.objs.size)).get? (s.heap.objs.size+1)=aa (W.instObj C s.heap.objs.size):=by
  have:=xx (s.heap.push W.emptyDict) (o:=W.instObj C s.heap.objs.size) rfl
  rwa [Xf]at this
 have e3:(s.heap.push W.emptyDict).Ns s.heap.objs.size (λ_=>ah):=⟨W.emptyDict,#[],_,e1,rfl,(λe he=>absurd he (by simp)),λ_=>rfl⟩
 have I1:=I.laid (a:=s.heap.objs.size) (o:=.own (s.heap.objs.size+1)) (h':=s.heap.push W.emptyDict) (t':=s.toks) (λb u q=>kj _ q) (X5 _) ⟨_,e1⟩;refine I1.laid (a:=s.heap.objs.size+1) (o:=.ins C s.heap.objs.size []) (t':=s.toks) (λb u q=>kj _ q) (kB (Xf _ _)) ?_;have ne:s.heap.objs.size≠s.heap.objs.size+1:=X8 (Pz _);refine⟨by rw[jf ne,jr],d4 _,ne,e2,λ_=>ah,(Heap.Ns1.of_empty e3).at λo q=>kj _ q,λ_=>True.intro,λy hy=>absurd rfl hy⟩
theorem jca{prog:ay}{w:aD}{env:du}{e:au}{f:ao}{pos:aR}{s:aq}{Q:k71}(hb:aU e f env (aB e env)=aB e env)
  (h:ax (aA prog w) A (aB e env) (λo s₁=>ax (aA prog w) A (getAttr o f af) Q E s₁) E s):ax (aA prog w) A (aB (.Attribute e f pos) env) Q E s :=
 Attribute_any_ h (by rw[arm_eval_Attribute,hb])
end
def jjr(K:k70)(ta:TE)(f:ao):TE:=λσ H Q=>ta σ H λx H1=>∃a C dx fs v,x=.ref a/\H1 a=aa (.ins C dx fs)/\Cls K C/\Zb K C f/\fs.lookup f=aa v/\Q v H1
def jjv(K:k70)(ta tv:TE)(f:ao):TS:=λD σ H=>tv σ H λy H1=>ta σ H1 λx H2=>∃a C dx fs,x=.ref a/\H2 a=aa (.ins C dx fs)/\Cls K C/\Zb K C f/\fs.length<1000 /\
 D.nx σ (upd H2 a (.ins C dx (Jc f y fs)))
section
variable{X:Cx}{o e value:au}{f:ao}{pos pos' tpos:aR}{ta tv:TE}
theorem Vs(he:PE X e ta)(hb:aU e f X.env (aB e X.env)=aB e X.env):PE X (.Attribute e f pos) (jjr X.K ta f):=by intro pins s σ H Q I h;refine jca hb (thn (he pins s σ H _ I h) λu s1 ⟨x,H1,I1,rx,a,C,dx,fs,v,ex,ea,c,n,l,q⟩=>?_);subst ex;obtain rfl:u=aH a:=rx;exact j21 I1 ea c n l λu' s2 I2 ru=>⟨v,H1,I2,ru,q⟩
theorem Ly(ha:PE X o ta)(hv:PE X value tv)(hs:aL value (aa (.Attribute o f pos')) pos.line X.env=pure ae):PS X (.Assign [.Attribute o f pos'] value pos) (jjv X.K ta tv f):=by intro pins s σ H D I h;refine plainObj_wpAny_Assign_Attribute (thn (hv pins s σ H _ I h) λu s1 ⟨y,H1,I1,ry,q⟩=>thn (ha pins s1 σ H1 _ I1 q) λov s2 ⟨x,H2,I2,rx,a,C,dx,fs,ex,ea,c,n,l,q2⟩=>?_) hs;subst ex;obtain rfl:ov=aH a:=rx;exact j16 I2 ea c n l ry λs3 I3=>⟨σ,_,I3,q2⟩
end
section
variable{X:Cx}{pins:k72}{σ:St}{H:Hp}{s:aq}{A:aF}{E:k71}{Q:k71}{c:aj}{b:Bool}
inductive TyOf(K:k70)(H:Hp):V->aj->Prop where
 |non:TyOf K H .non (.type "NoneType")
 |bl (x:Bool):TyOf K H (.bl x) (.type "bool")
 |int (i:Int):TyOf K H (.int i) (.type "int")
 |str (x:ao):TyOf K H (.str x) (.type "str")
 |flt (x:UInt64):TyOf K H (.flt x) (.type "float")
 |lst {a:ak} {xs:List V} (e:H a=aa (.lst xs)):TyOf K H (.ref a) (.type "list")
 |frz {a:ak} {o:dm} {xs:List V} (e:H a=aa (.frz o (.lst xs))):TyOf K H (.ref a) (.type "list")
 |tup {a:ak} {xs:List V} (e:H a=aa (.tup xs)):TyOf K H (.ref a) (.type "tuple")
 |dK {a:ak} {kvs:List (Key×V)} (e:H a=aa (.dK kvs)):TyOf K H (.ref a) (.type "dict")
 |dT {a:ak} {kvs:List (List Key×V)} (e:H a=aa (.dT kvs)):TyOf K H (.ref a) (.type "dict")
 |ins {a C dx:ak} {fs:List (ao×V)} (e:H a=aa (.ins C dx fs)) (cl:Cls K C) (ha:W.findIn K (.ref C) "__class__" = aa (aa (.builtin "object.__class__")))
   (hn:W.specialIn K (.builtin "object.__class__") "__get__" = aa (aa (.builtin "getset_descriptor.__get__"))) (htk:W.takesIn K (.builtin "object.__class__")=aa af)
   (hm:W.mroIn K C (.type "object")=aa af):TyOf K H (.ref a) (.ref C)
end
structure Room(k:Nat)(A:aF):Prop where
 hd:A.handled=ah
 dp:A.depth+3*k+5<fg
 un:A.units+16*k+200<bE
theorem Room.mono{j k:Nat}{A:aF}(r:Room k A)(h:j<=k):Room j A:=⟨r.hd,by have:=r.dp;omega,by have:=r.un;omega⟩
theorem Room.deeper{k:Nat}{A:aF}(r:Room (k+1) A)(env:du):Room k (A.deeper env) :=
 ⟨r.hd,by have:=r.dp;show A.depth+1+3*k+5<_;omega,by have:=r.un;show A.units+3+16*k+200<_;omega⟩
theorem j1s {A:aF} {C:ak} {us:List aj} {kw:List (ao×aj)}:(A.under (.builtin "type.__call__" ⟨.ref C::us,kw⟩)).depth=A.depth+1:=by first|rfl|simp[gu,Code.weight,Code.isCreation,Code.isGuard,Code.isCaller,Code.frames,Code.isFrame,guardIds]
theorem j1r {A:aF} {C:ak} {us:List aj} {kw:List (ao×aj)}:(A.under (.builtin "type.__call__" ⟨.ref C::us,kw⟩)).units=A.units+1:=by first|rfl|simp[gu,Code.cUnits,Code.frames,Code.isFrame]
theorem Room.make {k:Nat} {A:aF} (r:Room (k+1) A) (C:ak) (us:List aj) (kw:List (ao×aj)):Room k (A.under (.builtin "type.__call__" ⟨.ref C::us,kw⟩)) :=
 ⟨r.hd,by have:=r.dp;rw[j1s];omega,by have:=r.un;rw[j1r];omega⟩
theorem Room.depth{k:Nat}{A:aF}(r:Room k A):A.depth<fg:=by have:=r.dp;omega
def jcs:TA:=λ_ H Q=>Q [] H
def jgx(ta:TE)(tr:TA):TA:=λσ H Q=>ta σ H λx H1=>tr σ H1 λxs H2=>Q (x::xs) H2
section
variable{X:Cx}{e:au}{es:List au}{te:TE}{t:TA}{pos:aR}
theorem jt:PA X [] jcs:=λ_ _ _ _ H Q I h=>dB ⟨[],H,I,.nil,h⟩
theorem j9(ha:PE X e te)(hr:PA X es t)(hs:ai (e::es) X.env=(ae,aB e X.env)::ai es X.env:=by rfl):PA X (e::es) (jgx te t):=by intro pos pins s σ H Q I h;rw[hs];show ax _ _ (g4 ((ae,aB e X.env)::aP pos (ai es X.env))) _ _ s;refine cE (thn (ha pins s σ H _ I h) λu s1 ⟨x,H1,I1,r1,q1⟩=>?_);exact thn (hr pos pins s1 σ H1 _ I1 q1) λus s2 ⟨xs,H2,I2,r2,q2⟩=>⟨x::xs,H2,I2,.cons r1 r2,q2⟩
def jji(t:TA):TE:=λσ H Q=>t σ H λxs H1=>xs.length<=ar/\∀p,H1 p=ah->Q (.ref p) (upd H1 p (.tup xs))
def jjn(t:TA):TE:=λσ H Q=>t σ H λxs H1=>xs.length<=ar/\∀p,H1 p=ah->Q (.ref p) (upd H1 p (.lst xs))
theorem j3k{x1}(h:PA X es t):PE X (.Tuple es x1 pos) (jji t):=by intro pins s σ H Q I hq;refine wpAny_Tuple_spliced (thn (h pos pins s σ H _ I hq) λus s1 ⟨xs,H1,I1,r,z,q⟩=>⟨by rw[<-r.length];exact z,?_⟩);have hf:H1 s1.heap.objs.size=ah:=I1.hok.fresh (X5 _);refine⟨.ref s1.heap.objs.size,upd H1 s1.heap.objs.size (.tup xs),I1.laid (t':=s1.toks) (λb u e=>kj _ e) (X5 _) ?_,rfl,q _ hf⟩;exact⟨z,us,r,⟨_,xx _ rfl,rfl,_,rfl⟩,Zo.new _ _⟩
theorem jdq(h:PA X es t):PE X (.List es pos) (jjn t):=by intro pins s σ H Q I hq;refine wpAny_List_spliced (thn (h pos pins s σ H _ I hq) λus s1 ⟨xs,H1,I1,r,z,q⟩=>⟨by rw[<-r.length];exact z,?_⟩);have hf:H1 s1.heap.objs.size=ah:=I1.hok.fresh (X5 _);refine⟨.ref s1.heap.objs.size,upd H1 s1.heap.objs.size (.lst xs),I1.laid (t':=s1.toks) (λb u e=>kj _ e) (X5 _) ?_,rfl,q _ hf⟩;exact⟨z,us,0,r,xx _ rfl⟩
end
abbrev Sp:=List V->Hp->VK->XK->Prop
abbrev CXT:=List du->Hp->aq->XK->aj->aq->Prop
structure Env0(P:ay)(w:aD)(K:k70)(mg:k73)(base:aG)(A:aF)(outer:List du)(s:aq)(H:Hp):Prop where
 frames:A.frames=aa outer
 mod:Mod K mg base
 bs:∀b o,base.get? b=aa o->s.heap.get? b=aa o/\H b=ah
 bsz:base.objs.size<=s.heap.objs.size
 funs:s.heap.FunFrames base outer
 frf:∀b∈frs outer,H b=ah
 hok:HOk P w H s.heap
 bare:eD s.gens
def CE(outer:List du)(P:ay)(w:aD)(H:Hp)(s:aq)(Q:VK)(u:aj)(s':aq):Prop :=
 ∃v H',s'.os=s.os/\eD s'.gens/\Un (frs outer) [] H H' s.heap s'.heap/\HOk P w H' s'.heap/\RelV v u/\Q v H'
def CR(CX:CXT)(outer:List du)(P:ay)(w:aD)(H:Hp)(s:aq)(Q:VK)(E:XK)(r:fi)(s':aq):Prop :=
 match r with
 |.ok (.ret u)=>CE outer P w H s Q u s'
 |.ok _=>False
 |.error e=>CX outer H s E e s'
structure FnOk(P:ay)(w:aD)(K:k70)(mg:k73)(base:aG)(CX:CXT)(k:Nat)(f:ak)(fd:aM)(ps:List ao)(sp:Sp):Prop where
 len:∀vs H Q E,sp vs H Q E->vs.length=ps.length
 run:∀(A:aF)(outer:List du)(s:aq)(H:Hp)(args:Args)(us:List aj)(vs:List V) (Q:VK) (E:XK),Room k A->Env0 P w K mg base A outer s H->gc s fd args (ps.zip us)->Vals vs us->sp vs H Q E ->
  cF (aA P w) A (.call (.ref f) args) (CR CX outer P w H s Q E) s
theorem FnOk.imp{P:ay}{w:aD}{K:k70}{mg:k73}{base:aG}{CX:CXT}{k:Nat}{f:ak}{fd:aM}{ps:List ao}{sp sp':Sp}(F:FnOk P w K mg base CX k f fd ps sp)
  (h:∀vs H Q E,sp' vs H Q E->sp vs H Q E):FnOk P w K mg base CX k f fd ps sp' :=
 ⟨λvs H Q E q=>F.len vs H Q E (h _ _ _ _ q),λA outer s H args us vs Q E hr he hb hv hs=>F.run A outer s H args us vs Q E hr he hb hv (h _ _ _ _ hs)⟩
theorem Env0.make{P:ay}{w:aD}{K:k70}{mg:k73}{base:aG}{A:aF}{outer:List du}{s:aq}{H:Hp}(e:Env0 P w K mg base A outer s H)(C:ak)(us:List aj)(kw:List (ao×aj)) :
  Env0 P w K mg base (A.under (.builtin "type.__call__" ⟨.ref C::us,kw⟩)) outer s H:=⟨by first|exact e.frames|(simpa [gu,Code.envs,Code.isFrame,pushEnvs]using e.frames),e.mod,e.bs,e.bsz,e.funs,e.frf,e.hok,e.bare⟩
section
variable{X:Cx}{pins:k72}{σ:St}{H:Hp}{s s':aq}
theorem Inv.env0(I:Inv X pins σ H s):Env0 X.prog X.w X.K X.mg X.base X.A X.stack s H :=
 ⟨I.ok.frames,I.ok.mod,I.bs,Xh I.ok.bsz I.sz,I.stack,I.stkFree,I.hok,I.bare⟩
theorem Inv.after{Q:VK}{u:aj}(I:Inv X pins σ H s)(h:CE X.stack X.prog X.w H s Q u s'):EP X pins σ Q u s':=by obtain⟨v,H',os,bare,un,hok,r,q⟩:=h;obtain⟨hh,g,d,t,os'⟩:=s';obtain rfl:os'=s.os:=os;exact⟨v,H',I.call (h':=hh) (g':=g) (d':=d) (t':=t) (ch:=[]) un hok bare (λb z=>absurd z (by simp)),r,q⟩
end
def jgy(sp:Sp)(dvs:List V)(E:XK)(t:TA):TE:=λσ H Q=>t σ H λvs H1=>sp (vs++dvs) H1 Q E
def jgu(C:ak)(m:ao)(sp:Sp)(dvs:List V)(E:XK)(ta:TE)(t:TA):TE:=λσ H Q=>ta σ H λx H1=>∃a dx fs,x=.ref a/\H1 a=aa (.ins C dx fs)/\fs.lookup m=ah /\
 t σ H1 λvs H2=>sp (x::(vs++dvs)) H2 Q E
def jgv(C:ak)(sp:Sp)(dvs:List V)(E:XK)(t:TA):TE:=λσ H Q=>t σ H λvs H1=>∀x dx,H1 x=ah->H1 dx=ah->dx≠x ->
 sp (.ref x::(vs++dvs)) (upd (upd H1 dx (.own x)) x (.ins C dx [])) (λv H2=>v=.non/\Q (.ref x) H2) E
def Binds(K:k70)(fd:aM)(ps:List ao)(ds:List aj):Prop :=
 ∀(s:aq)(us:List aj),K.In s.heap->(us++ds).length=ps.length->gc s fd ⟨us,[]⟩ (ps.zip (us++ds))
theorem Binds.all{K:k70}{fd:aM}{ps:List ao}(h:∀us:List aj,us.length=ps.length->cX fd ⟨us,[]⟩=pure (ps.zip us)):Binds K fd ps []:=λs us _ hl=>by rw[Xl]at hl ⊢;exact .of_eq (h us hl)
def U4(CX:CXT)(X:Cx)(E:XK):Prop:=∀(pins:k72) (σ:St) (H:Hp) (s:aq) (e:aj) (s':aq),Inv X pins σ H s->CX X.stack H s E e s'->X.xe e s'
section
variable{X:Cx}{CX:CXT}{k:Nat}{f C:ak}{fd:aM}{ps:List ao}{sp:Sp}{dvs:List V}{ds:List aj}{E:XK}{x m:ao}{p pos apos:aR}{e o:au}{es:List au}{ta:TE}{t:TA}
theorem j37{pins:k72}{σ:St}{H:Hp}{s:aq}{Q:VK}{us:List aj}{vs:List V}(F:FnOk X.prog X.w X.K X.mg X.base CX k f fd ps sp)(hr:Room k X.A)(hb:Binds X.K fd ps ds)(hd:Vals dvs ds)(hx:U4 CX X E)
  (I:Inv X pins σ H s) (r:Vals vs us) (h:sp (vs++dvs) H Q E):ax (aA X.prog X.w) X.A (call (.ref f) us) (EP X pins σ Q) X.xe s:=by
 have r2:Vals (vs++dvs) (us++ds):=r.append hd;have hl:(us++ds).length=ps.length:=by rw[<-r2.length];exact F.len _ _ _ _ h
 refine fR (bO (F.run X.A X.stack s H ⟨us,[]⟩ (us++ds) (vs++dvs) Q E hr I.env0 (hb s us I.kIn hl) r2 h) λr s' hq=>?_);cases r with
 |error e=>exact hx pins σ H s e s' I hq
 |ok fl =>
  cases fl with
  |ret u=>exact I.after hq
  |next=>exact aT hq
  |brk=>exact aT hq
  |cont=>exact aT hq
theorem Yt(F:FnOk X.prog X.w X.K X.mg X.base CX k f fd ps sp)(hr:Room k X.A)(hg:Gl X x)(hm:X.mg x=aa (.ref f))(hk:W.keepIn X.K (.ref f)=af)(hb:Binds X.K fd ps ds)(hd:Vals dvs ds)(hx:U4 CX X E)
  (ha:PA X (e::es) t) (hdb:(x==k74)=ae:=by decide) (he:ai (e::es) X.env=(ae,aB e X.env)::ai es X.env:=by rfl) (hpl:(aP pos (ai es X.env)).any (·.1)=ae:=by rfl) :
  PE X (.Call (.Name x p) (e::es) [] pos) (jgy sp dvs E t):=by
 intro pins s σ H Q I h;refine aV (Ze I hg hm ?_ hdb);refine W.callWith_K (h₀:=X.base) I.ok.mod.kin hk (thn (ha pos pins s σ H _ I h) λus s1 ⟨vs,H1,I1,r,q⟩=>⟨I1.kIn,?_⟩) he hpl;exact j37 F hr hb hd hx I1 r q
theorem Ua{pl:kZ Bool}(he:PE X o ta)(c:Cls X.K C)(hm:Meth X.K C m f)(F:FnOk X.prog X.w X.K X.mg X.base CX k f fd ps sp)(hr:Room k X.A)(hb:Binds X.K fd ps ds)(hd:Vals dvs ds)(hx:U4 CX X E)
  (ht:aB (.Call (.Attribute o m apos) [] [] pos) X.env=(do
   let ov <-aB o X.env
   eB apos.atName
   let (f,first) <-bN [ov] (ig ov m pl)
   callWith pos f first (aP pos (ai [] X.env)) (bP pos (b7 [] X.env))):=by rfl) :
  PE X (.Call (.Attribute o m apos) [] [] pos) (jgu C m sp dvs E ta jcs):=by
 intro pins s σ H Q I h;refine W.methodCall_KW (pl:=pl) (thn (he pins s σ H _ I h) λu s1 ⟨x,H1,I1,rx,a,dx,fs,ex,ea,l,q⟩=>?_) ht;subst ex;obtain rfl:u=aH a:=rx;refine Om I1 ea c hm l ?_;exact W.callWith_K0 (first:=[.ref a]) I1.kIn hm.kp (j37 (us:=[.ref a]) (vs:=[.ref a]) F hr hb hd hx I1 (.cons rfl .nil) q)
structure Mk(K:k70)(C f:ak):Prop where
 makes:W.makesIn K C=af
 init:W.findIn K (.ref C) "__init__" = aa (aa (.ref f))
 fn:W.isFn K (.ref f)=af
 kp:W.keepIn K (.ref C)=af
theorem j6b{pins:k72}{σ:St}{H:Hp}{s:aq}{Q:VK}{us:List aj}{vs:List V}(M:Mk X.K C f)(F:FnOk X.prog X.w X.K X.mg X.base CX k f fd ps sp)(hr:Room (k+1) X.A)(hb:Binds X.K fd ps ds)(hd:Vals dvs ds)
  (hx:U4 CX X E) (I:Inv X pins σ H s) (r:Vals vs us)
  (h:∀x dx,H x=ah->H dx=ah->dx≠x->sp (.ref x::(vs++dvs)) (upd (upd H dx (.own x)) x (.ins C dx [])) (λv H2=>v=.non/\Q (.ref x) H2) E) :
  ax (aA X.prog X.w) X.A (call (.ref C) us) (EP X pins σ Q) X.xe s:=by
 have hq:=h (s.heap.objs.size+1) s.heap.objs.size (I.hok.fresh (Xv _)) (I.hok.fresh (X5 _)) (X8 (Pz _));have I2:=Inv.made (C:=C) I;have r2:Vals (V.ref (s.heap.objs.size+1)::(vs++dvs)) (aH (s.heap.objs.size+1)::(us++ds)):=.cons rfl (r.append hd);have hl:(aH (s.heap.objs.size+1)::us++ds).length=ps.length:=by have e:=r2.length;rw[F.len _ _ _ _ hq]at e;exact e.symm
 refine fR (j70 (f:=f) I.kIn M.makes M.init (beq_iff_eq.mp M.fn) (bO (F.run _ X.stack _ _ ⟨aH (s.heap.objs.size+1)::us,[]⟩ (aH (s.heap.objs.size+1)::(us++ds)) _ _ E (hr.make C us [])
  (I2.env0.make C us []) (hb _ (aH (s.heap.objs.size+1)::us) I2.kIn hl) r2 hq) λr s' hq'=>?_))
 cases r with
 |error e=>exact hx pins σ _ _ e s' I2 hq'
 |ok fl =>
  cases fl with
  |ret u =>obtain⟨v,H',I3,rv,ev,q3⟩:=I2.after hq';subst ev;exact⟨rv,⟨V.ref (s.heap.objs.size+1),H',I3,rfl,q3⟩⟩
  |next=>exact aT hq'
  |brk=>exact aT hq'
  |cont=>exact aT hq'
theorem jar(M:Mk X.K C f)(F:FnOk X.prog X.w X.K X.mg X.base CX k f fd ps sp)(hr:Room (k+1) X.A)(hg:Gl X x)(hm:X.mg x=aa (.ref C))(hb:Binds X.K fd ps ds)(hd:Vals dvs ds)(hx:U4 CX X E)
  (ha:PA X (e::es) t) (hdb:(x==k74)=ae:=by decide) (he:ai (e::es) X.env=(ae,aB e X.env)::ai es X.env:=by rfl) (hpl:(aP pos (ai es X.env)).any (·.1)=ae:=by rfl) :
  PE X (.Call (.Name x p) (e::es) [] pos) (jgv C sp dvs E t):=by
 intro pins s σ H Q I h;refine aV (Ze I hg hm ?_ hdb);refine W.callWith_K (h₀:=X.base) I.ok.mod.kin M.kp (thn (ha pos pins s σ H _ I h) λus s1 ⟨vs,H1,I1,r,q⟩=>⟨I1.kIn,?_⟩) he hpl;exact j6b M F hr hb hd hx I1 r q
end
section
variable{X:Cx}{CX:CXT}{k:Nat}{f C:ak}{fd:aM}{ps ks:List ao}{sp:Sp}{E:XK}{x m:ao}{p pos apos kpos:aR}{e o:au}{es:List au}{kws:List b0}{te ta:TE}{t tk:TA}{nm:Option ao}
structure KBinds(K:k70)(fd:aM)(ps ks:List ao)(g:List aj->List aj->List aj)(gV:List V->List V->List V):Prop where
 to:∀(s:aq)(us ws:List aj),K.In s.heap->(g us ws).length=ps.length->gc s fd ⟨us,ks.zip ws⟩ (ps.zip (g us ws))
 rel:∀{vs:List V}{us:List aj}{zs:List V}{ws:List aj},Vals vs us->Vals zs ws->Vals (gV vs zs) (g us ws)
variable{g:List aj->List aj->List aj}{gV:List V->List V->List V}
end
structure FnScope(N P:List ao)(sc:bG):Prop where
 kind:sc.kind=.function
 co:sc.isCoroutine=ae
 gen:sc.isGenerator=ae
 nd:N.Nodup
 pre:N.take P.length=P
 par:∀x∈P,sc.names.lookup x=aa .local\/sc.names.lookup x=aa .cell
 nofree:∀y∈sc.names,y.2≠.free
theorem Dk{kindOf:ao->Option bH}{x:ao}:∀{binds:List (ao×aj)} {m:k73},(∀v,(x,v)∉binds)->ij kindOf binds m x=m x
 |[],_,_=>rfl
 |(n,v)::r,m,h=>by
  unfold ij;rw[Dk λw hw=>h w (km _ hw)];split
  .have:x≠n:=by rintro rfl;exact h v xm
   simp[this]
  .rfl
theorem Dm{kindOf:ao->Option bH}{x:ao}:∀{binds:List (ao×aj)} {m:k73},(∀v,(x,v)∉binds)->ik kindOf binds m x=m x
 |[],_,_=>rfl
 |(n,v)::r,m,h=>by
  unfold ik;rw[Dm λw hw=>h w (km _ hw)];split
  .rfl
  .have:x≠n:=by rintro rfl;exact h v xm
   simp[this]
theorem Dl{kindOf:ao->Option bH}{x:ao}{v:aj}:∀{P:List ao}{vs:List aj}{i:Nat}{m:k73},P.Nodup->P[i]?=aa x->vs[i]?=aa v->kindOf x=aa .local ->
  ij kindOf (P.zip vs) m x=aa v
 |[],_,_,_,_,h,_,_=>by simp at h
 |_::_,[],_,_,_,_,h,_=>by simp at h
 |p::P,w::vs,0,m,nd,h1,h2,hk=>by simp at h1 h2;subst h1;subst h2;show ij kindOf ((p,w)::P.zip vs) m p=_;unfold ij;rw[Dk λv hv=>(Xg.mp nd).1 (eM hv).1,if_pos hk];simp
 |p::P,w::vs,i+1,m,nd,h1,h2,hk=>by show ij kindOf ((p,w)::P.zip vs) m x=_;unfold ij;exact Dl (i:=i) (Xg.mp nd).2 (by simpa using h1) (by simpa using h2) hk
theorem Dn{kindOf:ao->Option bH}{x:ao}{v:aj}:∀{P:List ao}{vs:List aj}{i:Nat}{m:k73},P.Nodup->P[i]?=aa x->vs[i]?=aa v->kindOf x≠aa .local ->
  ik kindOf (P.zip vs) m x=aa v
 |[],_,_,_,_,h,_,_=>by simp at h
 |_::_,[],_,_,_,_,h,_=>by simp at h
 |p::P,w::vs,0,m,nd,h1,h2,hk=>by simp at h1 h2;subst h1;subst h2;show ik kindOf ((p,w)::P.zip vs) m p=_;unfold ik;rw[Dm λv hv=>(Xg.mp nd).1 (eM hv).1,if_neg hk];simp
 |p::P,w::vs,i+1,m,nd,h1,h2,hk=>by show ik kindOf ((p,w)::P.zip vs) m x=_;unfold ik;exact Dn (i:=i) (Xg.mp nd).2 (by simpa using h1) (by simpa using h2) hk
noncomputable def start(N:List ao)(vs:List V):St:=vs.map aa++az (N.length-vs.length) ah
noncomputable def qt(CX:CXT)(P:ay)(w:aD)(K:k70)(mg:k73)(base:aG)(N:List ao)(qual:ao)(scope:bG)(f:ak)(cd:aj)(A:aF)(outer:List du)(s:aq)(H:Hp)(E:XK):Cx where
 prog:=P
 w:=w
 K:=K
 mg:=mg
 base:=base
 A:=A.deeper (bx qual scope s.heap.objs.size f cd)
 N:=N
 s₀:=s
 H₀:=H
 env:=bx qual scope s.heap.objs.size f cd
 outer:=outer
 stack:=bx qual scope s.heap.objs.size f cd::outer
 ex:=[]
 calm:=af
 fn:=λ_=>af
 pn:=[]
 xe:=λe s'=>ax (aA P w) (A.deeper (bx qual scope s.heap.objs.size f cd)) (leaving (bx qual scope s.heap.objs.size f cd) e) (λ_ s''=>CX outer H s E e s'') (λe' s''=>CX outer H s E e' s'') s'
theorem Iw{sc:bG}{n:Nat}{x:ao}(h:sc.names.lookup x=aa .cell):∃c,(aW n sc.names []).lookup x=aa c:=by have q:=W.cellsFrom_some sc.names n [] (.inl h);exact Xm.mp q
theorem j4b{CX:CXT}{P:ay}{w:aD}{K:k70}{mg:k73}{base:aG}{N ps:List ao}{qual:ao}{scope:bG}{f:ak}{cd:aj}{A:aF}{outer:List du}{s s1:aq}{H:Hp}{E:XK}{us:List aj}{vs:List V}
  (S:FnScope N ps scope) (cm:Bool) (hd:cm=af->A.handled=ah) (e0:Env0 P w K mg base A outer s H) (hl:vs.length=ps.length) (r:Vals vs us)
  (x:InCallC s s.heap.objs.size (ij (bx qual scope s.heap.objs.size f cd).kindOf (ps.zip us) λ_=>ah) (aW (s.heap.objs.size+1) scope.names []) (ik (bx qual scope s.heap.objs.size f cd).kindOf (ps.zip us) λ_=>ah) s1) :
  Inv { qt CX P w K mg base N qual scope f cd A outer s H E with calm:=cm } [] (start N vs) H s1:=by
 have hpl:ps.length<=N.length:=by have:=congrArg hR S.pre;rw[Xj]at this;omega
 obtain⟨h1,tk,rfl,hk⟩:=x.done;have noA:∀b:ak,b∉(qt CX P w K mg base N qual scope f cd A outer s H E).ex:=λb z=>absurd (show b∈([]:List ak)from z) (by simp);refine⟨⟨e0.mod,S.kind,rfl,rfl,X5 _,λy z c h1 h2=>?_,λy hy=>?_,λy c _ h=>?_,hd,gE e0.frames,.inr ⟨rfl,rfl⟩,λb z=>absurd z (noA b),e0.bs,e0.bsz,λb _ _=>noA b,λb z=>absurd z (noA b),e0.funs,e0.frf⟩,
  rfl,e0.bare,Un.kept hk,⟨_,x.toInCall.ns,λi y v h1 h2 h3=>?_⟩,λy c h=>⟨_,x.cell y c h⟩,e0.hok.fresh (X5 _),λy c h=>?_,λp hp=>absurd (show p∈([]:k72)from hp) (by simp),e0.hok.kept hk,?_⟩
 .exact name_of_addr x.apart (Xy h1) (Xy h2)
 .have hy:scope.names.lookup y=aa .cell\/scope.names.lookup y=aa .free:=hy;rcases hy with hy|hy
  .exact Iw hy
  .exact absurd rfl (S.nofree _ (Xy hy))
 .exact eK (x.above y c (Xy h))
 .have hi:i<vs.length:=by
   unfold start at h2;by_cases hi:i<vs.length
   .exact hi
   .rw[dq (by simpa using hi)]at h2;rw[List.getElem?_replicate]at h2;split at h2<;>cases h2
  have ha:vs[i]?=aa v:=by
   unfold start at h2;rw[Pa (by simpa using hi),X6]at h2;cases e:vs[i]? with
   |none=>rw[e]at h2;cases h2
   |some a=>rw[e]at h2;cases h2;rfl
  obtain⟨u,hu,rv⟩:=r.get ha;have hp:ps[i]?=aa y:=by rw[<-S.pre,List.getElem?_take_of_lt nofun];exact h1
  have ndP:ps.Nodup:=by rw[<-S.pre];exact S.nd.sublist (List.take_sublist _ _)
  refine⟨u,rv,?_⟩;rcases S.par y (Xn hp)with k|k
  .exact .inl ⟨k,Dl ndP hp hu k⟩
  .obtain⟨c,e⟩:=Iw (n:=s.heap.objs.size+1) k;refine .inr ⟨.inl k,c,e,?_⟩;have q:=x.cell y c e;rw[Dn ndP hp hu (by show scope.names.lookup y≠_;rw[k];decide)]at q;exact q
 .exact e0.hok.fresh (eK (x.above y c (Xy h)))
 .unfold start;show _=N.length;rw[X7,xg,eP];omega
theorem Inv.extOut{X:Cx}{pins:k72}{σ:St}{H H2:Hp}{s:aq}(J:Inv X pins σ H s)(x:Ext X H H2 s):HOk X.prog X.w H2 s.heap/\(X.ex=[]->Un X.fs [] X.H₀ H2 X.s₀.heap s.heap):=by
 have old:∀b o,X.s₀.heap.get? b=aa o->H2 b=H b:=λb o e=>(x b).elim id λ⟨y,ob,v,hc,hf,_⟩=>absurd (Xk (xq e) (J.ok.cab y b hf hc)) (pq _);have trk:∀{b:ak}{u:HO},H b=aa u->H2 b=aa u:=λ{b u} e=>(x b).elim (λz=>z.trans e) λ⟨y,ob,v,hc,_⟩=>by rw[J.freeC y b hc]at e;cases e
 refine⟨λa o e=>?_,λhx=>?_⟩
 .rcases x a with z|⟨y,ob,v,_,_,e2,e3,_⟩
  .exact(J.hok a o (z▸e)).stay (λ_ _ _ q=>q) (λ_ q=>trk q) (λ_ _ q=>trk q) λ_ _ _ q=>trk q
  .rw[e2]at e;cases e;exact⟨e3,ob,e3⟩
 .have nx:∀b,b∉X.ex:=λb=>by rw[hx];simp
  exact⟨λb o e n hb _=>J.base.keep b o e n hb (nx b),λb o e n hb _=>J.base.slot b o e n hb (nx b),λb o e n _=>(old b o e).trans (J.base.free b o e n (nx b)),λb o e _=>J.base.there b o e (nx b),
   λb xs e=>trk (J.base.tups b xs e),λb o u e=>trk (J.base.frzs b o u e),λb ps e=>let ⟨m,z⟩:=J.base.tbls b ps e;⟨m,trk z⟩⟩
theorem Cr{CX:CXT}{P:ay}{w:aD}{K:k70}{mg:k73}{base:aG}{k:Nat}{f:ak}{name qual:ao}{params:ip}{body:List aQ}{scope:bG}{dV kV doc pm cdv ct oc:aj}{an od:Option ak}
  {osl:Array (Option aj)} {N ps:List ao} {sp:Sp} (lk:K.lookup f=aa ⟨oc,od,.func (W.fnOf name qual params body scope dV kV doc pm an cdv ct),osl⟩) (hcd:W.codeIn K cdv qual=af) (S:FnScope N ps scope)
  (len:∀vs H Q E,sp vs H Q E->vs.length=ps.length)
  (hbody:∀(A:aF)(outer:List du)(s:aq)(H:Hp)(vs:List V)(Q:VK)(E:XK),Room k (A.deeper (bx qual scope s.heap.objs.size f cdv))->sp vs H Q E ->
   ∃t,PSs (qt CX P w K mg base N qual scope f cdv A outer s H E) body t/\t { nx:=λ_ H'=>Q .non H',rt:=Q } (start N vs) H) :
  FnOk P w K mg base CX (k+1) f (W.fnOf name qual params body scope dV kV doc pm an cdv ct) ps sp:=by
 refine⟨len,λA outer s H args us vs Q E hr e0 hb r hsp=>?_⟩;have hl:=len _ _ _ _ hsp;have KX:K.In s.heap:=e0.mod.kin.keeps λb o e=>(e0.bs b o e).1;have lim:s.heap.NoLimit:=e0.mod.nolimit.keeps λb o e=>(e0.bs b o e).1;have hkind:∀y∈ps.zip us,scope.names.lookup y.1=aa .local\/(scope.names.lookup y.1=aa .cell/\((aW (s.heap.objs.size+1) scope.names []).lookup y.1).isSome=af):=λ⟨n,v⟩ hy=>by
  rcases S.par n (eM hy).1 with q|q
  .exact .inl q
  .exact .inr ⟨q,W.cellsFrom_some _ _ _ (.inl q)⟩
 refine codeAny_call_function hr.depth (KX _ _ lk) rfl S.co S.gen rfl (W.codeRec_of KX hcd) (hb _ _ _ _ ?_);refine wpAny_newFunctionEnv_cells S.kind hkind λenv he s1 x=>?_;subst he;refine⟨lim.keeps x.toInCall.keep,codeAny_func ?_⟩;obtain⟨t,ht,hq⟩:=hbody A outer s H vs Q E (hr.deeper _) hsp;have I:Inv (qt CX P w K mg base N qual scope f cdv A outer s H E) [] (start N vs) H s1:=j4b S af (λ_=>hr.hd) e0 hl r x;refine bS (ht [] s1 (start N vs) H _ I hq) (λfl s' hs=>?_) λe s' hs=>hs;have fin:∀{σ':St}{H':Hp}{v:V}{u:aj},Inv (qt CX P w K mg base N qual scope f cdv A outer s H E) [] σ' H' s'->RelV v u->Q v H'->CE outer P w H s Q u s' :=
  λ{σ' H' v u} J rv q=>⟨v,H',J.os,J.bare,J.base,J.hok,rv,q⟩
 cases fl with
 |ret u =>obtain⟨v,σ',H',H2,J,rv,x,q⟩:=hs;exact⟨v,H2,J.os,J.bare,(J.extOut x).2 rfl,(J.extOut x).1,rv,q⟩
 |next =>obtain⟨σ',H',J,q⟩:=hs;exact fin (v:=V.non) (u:=aZ) J rfl q
 |brk =>obtain⟨_,_,_,q⟩:=hs;exact aT q
 |cont =>obtain⟨_,_,_,q⟩:=hs;exact aT q
section
variable{X:Cx}{x:ao}{p pos:aR}{e:au}{es:List au}{t:TA}{id T:String}{r:List V->Hp->VK->Prop}
def tCB(r:List V->Hp->VK->Prop)(t:TA):TE:=λσ H Q=>t σ H λvs H1=>r vs H1 Q
theorem zc (hc:Jh X (.builtin id) r) (hg:Gl X x) (hm:X.mg x=ah) (hv:bg x=aa (.builtin id)) (ha:PA X (e::es) t) (hn:x ≠ "__name__":=by decide) (hdb:(x==k74)=ae:=by decide)
  (he:ai (e::es) X.env=(ae,aB e X.env)::ai es X.env:=by rfl) (hpl:(aP pos (ai es X.env)).any (·.1)=ae:=by rfl):PE X (.Call (.Name x p) (e::es) [] pos) (tCB r t):=by
 intro pins s σ H Q I h;refine aV (Ja I hg hm hv ?_ hn hdb);exact callWith_builtin1 (thn (ha pos pins s σ H _ I h) λus s1 ⟨vs,H1,I1,r1,q1⟩=>hc pins s1 σ H1 vs us Q I1 r1 q1) he hpl
theorem W9 (hc:Jh X (.type T) r) (hg:Gl X x) (hm:X.mg x=ah) (hv:bg x=aa (.type T)) (ha:PA X (e::es) t) (hn:x ≠ "__name__":=by decide) (hdb:(x==k74)=ae:=by decide)
  (he:ai (e::es) X.env=(ae,aB e X.env)::ai es X.env:=by rfl) (hpl:(aP pos (ai es X.env)).any (·.1)=ae:=by rfl):PE X (.Call (.Name x p) (e::es) [] pos) (tCB r t):=by
 intro pins s σ H Q I h;refine aV (Ja I hg hm hv ?_ hn hdb);exact callWith_type1 (thn (ha pos pins s σ H _ I h) λus s1 ⟨vs,H1,I1,r1,q1⟩=>hc pins s1 σ H1 vs us Q I1 r1 q1) he hpl
end
end L2
namespace HT
open PySem PyProof.Rows
noncomputable def lexLt:List Int->List Int->Bool
 |[],[]=>ae
 |[],_::_=>af
 |_::_,[]=>ae
 |x::xs,y::ys=>if x=y then lexLt xs ys else decide (x<y)
section
open PySem.SeqAt
open PySem.AutoSeq1 (wpAny_loadPart')
open PySem.MeetsSeq PySem.MeetsSeq2 PySem.MeetsSeq3
end
section
variable{prog:ay}{w:aD}{A:aF}{E:k71}{s:aq}
theorem cat_tup{t b:ak}{vs ws:List aj}{Q:k71}(ht:jv s.heap t vs.toArray)(hb:jv s.heap b ws.toArray)(hv:vs≠[])
  (h1:ws=[]->Q (.ref t) s) (h2:ws≠[]->Q (.ref s.heap.objs.size) { s with heap:=s.heap.push { cls:=.type "tuple",data:=.seq (vs++ws).toArray } })
  (hsz:vs.length+ws.length<=ar):ax (aA prog w) A (bh .Add (.ref t) (.ref b)) Q E s:=by
 obtain⟨⟨cls,dd,data,sl⟩,ho,hc,n,hd⟩:=id ht;obtain⟨⟨cls2,dd2,data2,sl2⟩,ho2,hc2,n2,hd2⟩:=id hb;simp only at hc hd hc2 hd2;subst hc hd hc2 hd2;have e:vs.toArray++ws.toArray=(vs++ws).toArray:=by simp
 by_cases hw:ws=[]
 .exact g6 ⟨_,ho,rfl⟩ ⟨_,ho2,rfl⟩ gm i7 dP dD (dr _ _)
   (tuple_addW1 t b vs.toArray ws.toArray n n2 dd dd2 sl sl2 (by simpa using hv) (by simp[hw])) ⟨ho,ho2,h1 hw⟩
 .refine g6 ⟨_,ho,rfl⟩ ⟨_,ho2,rfl⟩ gm i7 dP dD (dr _ _)
   (tuple_addW2 t b vs.toArray ws.toArray n n2 dd dd2 sl sl2 (by simpa using hv) (by simpa using hw) (by rw[xu,xu];exact hsz)) ⟨ho,ho2,?_⟩
  rw[e];exact h2 hw
noncomputable def sIx(n d:Nat):Option Int->Nat
 |none=>d
 |some v=>if v<0 then(v+(n:Int)).toNat else min v.toNat n
theorem jd6(n d:Nat)(hd:d<=n)(o:Option Int):sIx n d o<=n:=by
 cases o with
 |none=>exact hd
 |some v =>
  show(if v<0 then(v+(n:Int)).toNat else min v.toNat n)<=n;by_cases hv:v<0
  .rw[if_pos hv];omega
  .rw[if_neg hv];exact Nat.min_le_right _ _
theorem j0t(v:Int)(n d:Nat):(if v<0 then max (v+(n:Int)) 0 else min v (n:Int))=((sIx n d (aa v):Nat):Int):=by
 show(if v<0 then max (v+(n:Int)) 0 else min v (n:Int))=(((if v<0 then(v+(n:Int)).toNat else min v.toNat n):Nat):Int)
 by_cases hv:v<0
 .simp only[if_pos hv];omega
 .simp only[if_neg hv];omega
theorem j2f(lo hi:Option Int)(n:Nat):cW lo hi 1 (n:Int)=(((sIx n 0 lo:Nat):Int),((sIx n n hi:Nat):Int)):=by
 have h1:¬((1:Int)<0):=by omega
 unfold cW;simp only[h1,if_false];refine Prod.ext ?_ ?_
 .cases lo with
  |none=>rfl
  |some v=>exact j0t v n 0
 .cases hi with
  |none=>rfl
  |some v=>exact j0t v n n
theorem j1e(i j:Nat):bX (i:Int) (j:Int) 1=j-i:=by
 unfold bX;have h1:(1:Int)>0:=by omega
 simp only[h1,if_true,Int.ediv_one];split<;>omega
theorem O3{v:aj}{o:Option Int}{Q:Option Int->aq->Prop}(p:fj v o)(h:Q o s):ax (aA prog w) A (ko v) Q E s:=by
 cases p with
 |none=>exact lL h
 |int i t=>exact slicePart_int h
theorem M7{sl:ak}{vl vu:aj}{lo hi:Option Int}{n:Nat}{Q:Int×Int×Nat->aq->Prop}(hs:s.heap.IsSliceOf sl vl vu .none)(pl:fj vl lo)(pu:fj vu hi)
  (h:Q (((sIx n 0 lo:Nat):Int),1,sIx n n hi-sIx n 0 lo) s):ax (aA prog w) A (fb (.ref sl) (pure (n:Int))) Q E s:=by
 obtain⟨os,hos,hcs,hds⟩:=id hs;unfold fb kq;refine ag (ag (aS hos hds (x:=vl) rfl (ag (aS hos hds (x:=vu) rfl (ag (aS hos hds (x:=.none) rfl (av ?_)))))));refine ag (lL ?_);show ax _ _ (if ((1:Int)==0)=af then _ else _) _ _ s;rw[if_neg (by decide)];refine ag (O3 pl (ag (O3 pu (ag (av ?_)))));show ax _ _ (match cW lo hi 1 (n:Int)with|(lo,hi)=>pure (lo,(1:Int),bX lo hi 1)) _ _ s;rw[j2f lo hi n];show ax _ _ (pure (((sIx n 0 lo:Nat):Int),(1:Int),bX ((sIx n 0 lo:Nat):Int) ((sIx n n hi:Nat):Int) 1)) _ _ s;rw[j1e];exact av h
theorem j6n(xs:Array aj)(i k:Nat):((aK k).filterMap λ(m:Nat)=>xs[((i:Int)+(m:Int)*1).toNat]?).toArray=((xs.toList.drop i).take k).toArray:=by
 have e:(λ(m:Nat)=>xs[((i:Int)+(m:Int)*1).toNat]?)=λm=>xs[i+m]?:=by
  funext m
  have:((i:Int)+(m:Int)*1).toNat=i+m:=by omega
  rw[this]
 rw[e];have:=pick_run xs i k;rw[List.filterMap_map]at this;have e2:((λx=>xs[x]?) ∘ λx=>i+x)=λm=>xs[i+m]?:=rfl;rw[e2]at this;rw[this]
theorem getItem_tuple_cut{t sl:ak}{items:Array aj}{vl vu:aj}{lo hi:Option Int}{Q:k71}(ht:jv s.heap t items)(hs:s.heap.IsSliceOf sl vl vu .none)(pl:fj vl lo)(pu:fj vu hi)
  (hw:¬(sIx items.size 0 lo=0/\sIx items.size items.size hi=items.size))
  (h:Q (.ref s.heap.objs.size) { s with heap:=s.heap.push { cls:=.type "tuple",data:=.seq ((items.toList.drop (sIx items.size 0 lo)).take (sIx items.size items.size hi-sIx items.size 0 lo)).toArray } })
  (hsz:items.size<=ar):ax (aA prog w) A (iK (.ref t) (.ref sl)) Q E s:=by
 have htake:sizeOk (.seq ((items.toList.drop (sIx items.size 0 lo)).take (sIx items.size items.size hi-sIx items.size 0 lo)).toArray):=by show((items.toList.drop (sIx items.size 0 lo)).take (sIx items.size items.size hi-sIx items.size 0 lo)).toArray.size<=ar;rw[xu,Xj,ph,d8];omega
 have hj:sIx items.size items.size hi<=items.size:=jd6 _ _ (X5 _) hi;obtain⟨os,hos,hcs,hds⟩:=id hs;have hTs:s.TypeIs (.ref sl) "slice":=⟨os,hos,hcs⟩
 unfold iK
 try with_reducible refine bc ?_
 first|refine ag (av ?_)|skip
 refine ag (wpAny_sequenceKey ht.typeIs (by decide) ?_);refine ag (bb (name:=cw "__getitem__") ht.typeIs jO
  (bV jO ht.typeIs entry_tuple_getitem ?_ (args_tuple_getitem _ _)))
 show ax _ _ (kn (.ref t) >>= _) _ _ s;refine ag (tupleItemsOf_ ht ?_);refine ag (iG hTs ?_);rw[if_pos (by decide)];refine ag (M7 hs pl pu ?_);have hno:¬((((sIx items.size 0 lo:Nat):Int)==0&&(1:Int)==1&&(sIx items.size items.size hi-sIx items.size 0 lo)==items.size)=af):=by intro q;rw[Xb,Xb]at q;have q1:((sIx items.size 0 lo:Nat):Int)=0:=eq_of_beq q.1.1;have q2:sIx items.size items.size hi-sIx items.size 0 lo=items.size:=eq_of_beq q.2;exact hw ⟨by omega,by omega⟩
 show ax _ _ (if (((sIx items.size 0 lo:Nat):Int)==0&&(1:Int)==1&&(sIx items.size items.size hi-sIx items.size 0 lo)==items.size)=af then _ else _) _ _ s;rw[if_neg hno,j6n]
 first
  |exact ag (m:=c7 _) (bM (av ⟨_,rfl,av h⟩) htake)
  |exact ag (m:=c7 _) (bM (ag (av (av ⟨_,rfl,av h⟩))) htake)
  |exact ag (ag (m:=c7 _) (bM (av (av ⟨_,rfl,av h⟩)) htake))
  |exact ag (ag (m:=c7 _) (bM (av ⟨_,rfl,av h⟩) htake))
end
end HT
namespace L2
open PySem PySem.Spec PyProof.Rows
abbrev TO:=St->Hp->(Option Int->Hp->Prop)->Prop
def PO(X:Cx)(e:Option au)(t:TO):Prop :=
 ∀(pins:k72) (s:aq) (σ:St) (H:Hp) (Q:Option Int->Hp->Prop),Inv X pins σ H s->t σ H Q ->
  ax (aA X.prog X.w) X.A (evalPart e X.env) (λu s'=>∃o H',Inv X pins σ H' s'/\fj u o/\Q o H') X.xe s
def ja2:TO:=λ_ H Q=>Q ah H
def jgr(t:TE):TO:=λσ H Q=>t σ H λx H1=>∃i,x=.int i/\Q (aa i) H1
section
variable{X:Cx}{e:au}{te:TE}{lo hi:Option au}{tl th:TO}{pos p2:aR}
theorem jao:PO X ah ja2:=by intro pins s σ H Q I h;rw[lO];exact av ⟨ah,H,I,.none,h⟩
theorem jan(h:PE X e te):PO X (aa e) (jgr te):=by intro pins s σ H Q I hw;rw[evalPart_some];refine thn (h pins s σ H _ I hw) λu s1 ⟨x,H1,I1,r1,q1⟩=>?_;obtain⟨i,rfl,q⟩:=q1;obtain⟨t,rfl⟩:=r1;exact⟨aa i,H1,I1,.int i t,q⟩
def SlR(X:Cx)(r:V->Option Int->Option Int->Hp->VK->Prop):Prop :=
 ∀(pins:k72) (s:aq) (σ:St) (H:Hp) (x:V) (v vl vu:aj) (lo hi:Option Int) (sl:ak) (Q:VK),Inv X pins σ H s->RelV x v->s.heap.IsSliceOf sl vl vu .none->fj vl lo->fj vu hi->r x lo hi H Q ->
  ∃T id,jL (.type T) "__getitem__" = pure (aa (.builtin id))/\s.TypeIs v T/\ax (aA X.prog X.w) X.A (iK v (.ref sl)) (EP X pins σ Q) X.xe s
def tSl(r:V->Option Int->Option Int->Hp->VK->Prop)(te:TE)(tl th:TO):TE:=λσ H Q=>te σ H λx H1=>tl σ H1 λl H2=>th σ H2 λu H3=>r x l u H3 Q
theorem Mi{r:V->Option Int->Option Int->Hp->VK->Prop}(hr:SlR X r)(he:PE X e te)(hl:PO X lo tl)(hu:PO X hi th):PE X (.Subscript e (.Slice lo hi ah p2) pos) (tSl r te tl th):=by intro pins s σ H Q I h;refine Subscript_ (thn (he pins s σ H _ I h) λv s1 ⟨x,H1,I1,r1,q1⟩=>?_);refine wpAny_Slice (thn (hl pins s1 σ H1 _ I1 q1) λvl s2 ⟨l,H2,I2,pl,q2⟩=>thn (hu pins s2 σ H2 _ I2 q2) λvu s3 ⟨u,H3,I3,pu,q3⟩=>?_);rw[lO];refine av ?_;have I4:Inv X pins σ H3 { s3 with heap:=s3.heap.push { cls:=.type "slice",data:=.fields #[vl,vu,.none] } }:=I3.kept (t':=s3.toks) λb ob q=>kj _ q;obtain⟨T,id,hT,ht,hg⟩:=hr pins { s3 with heap:=s3.heap.push { cls:=.type "slice",data:=.fields #[vl,vu,.none] } } σ H3 x v vl vu l u s3.heap.objs.size Q I4 r1 (Heap.IsSliceOf.new ..) pl pu q3;show ax (aA X.prog X.w) X.A (lQ e (.Slice lo hi ah p2) v (.ref s3.heap.objs.size)) (EP X pins σ Q) X.xe { s3 with heap:=s3.heap.push { cls:=.type "slice",data:=.fields #[vl,vu,.none] } };exact lK (ops:=[.ref s3.heap.objs.size,v]) ht hT hg (by with_unfolding_all rfl)
noncomputable def Wl(xs:List V)(lo hi:Option Int):List V:=(xs.drop (HT.sIx xs.length 0 lo)).take (HT.sIx xs.length xs.length hi-HT.sIx xs.length 0 lo)
theorem M3(xs:List V)(lo hi:Option Int):(Wl xs lo hi).length<=xs.length:=by unfold Wl;rw[Xj,ph];omega
def jjx(K:k70):V->Option Int->Option Int->Hp->VK->Prop:=λx lo hi H Q=>∃a xs,x=.ref a/\SqT K H a xs /\
 ¬(HT.sIx xs.length 0 lo=0/\HT.sIx xs.length xs.length hi=xs.length)/\∀p,H p=ah->Q (.ref p) (upd H p (.tup (Wl xs lo hi)))
theorem jcw:SlR X (jjx X.K):=by
 intro pins s σ H x v vl vu lo hi sl Q I rx hs pl pu h;obtain⟨a,xs,rfl,hx,hw,q⟩:=h;cases rx;obtain⟨its,r,ht,hz⟩:=I.tuple hx;have hlen:its.toArray.size=xs.length:=by rw[xu];exact r.length.symm
 refine⟨"tuple",_,slot_tuple_getitem.lookup,ht.typeIs,?_⟩;refine HT.getItem_tuple_cut ht hs pl pu (by rw[hlen];exact hw) ?_ (by rw[hlen];exact hz);rw[hlen];refine⟨.ref s.heap.objs.size,_,I.laid (t':=s.toks) (o:=.tup (Wl xs lo hi)) (λb ob q=>kj _ q) (X5 _) ?_,rfl,q _ (I.hok.fresh (X5 _))⟩;exact⟨Xh (M3 xs lo hi) hz,_,(r.drop (HT.sIx xs.length 0 lo)).take (HT.sIx xs.length xs.length hi-HT.sIx xs.length 0 lo),IsTup.new _ _,Zo.new _ _⟩
def jhf(K:k70):R2:=λx y H Q=>∃a b xs ys,x=.ref a/\y=.ref b/\SqT K H a xs/\SqT K H b ys/\xs≠[]/\xs.length+ys.length<=ar /\
 (ys=[]->Q (.ref a) H)/\(ys≠[]->∀p,H p=ah->Q (.ref p) (upd H p (.tup (xs++ys))))
theorem Vals.nil_iff{xs:List V}{us:List aj}(r:Vals xs us):us=[]↔xs=[]:=by
 cases r with
 |nil=>simp
 |cons _ _=>simp
theorem jaz:OpR X (bh .Add) (jhf X.K):=by intro pins s σ H x y v u Q I rx ry h;obtain⟨a,b,xs,ys,rfl,rfl,ha,hb,hx,hz,q1,q2⟩:=h;cases rx;cases ry;obtain⟨its,r1,p1,_⟩:=I.tuple ha;obtain⟨its2,r2,p2,_⟩:=I.tuple hb;refine HT.cat_tup p1 p2 (λz=>hx (r1.nil_iff.mp z)) (λz=>⟨.ref a,H,I,rfl,q1 (r2.nil_iff.mp z)⟩) (λz=>?_) (by rw[<-r1.length,<-r2.length];exact hz);refine⟨.ref s.heap.objs.size,_,I.laid (t':=s.toks) (o:=.tup (xs++ys)) (λb ob q=>kj _ q) (X5 _) ?_,rfl,q2 (λw=>z (r2.nil_iff.mpr w)) _ (I.hok.fresh (X5 _))⟩;exact⟨by rw[X7];exact hz,_,r1.append r2,IsTup.new _ _,Zo.new _ _⟩
end
noncomputable def ixN(n:Nat)(i:Int):Option Nat:=if 0<=i then(if i<n then aa i.toNat else ah)else if -(n:Int)<=i then aa (i+n).toNat else ah
noncomputable def atI{α:Type}(xs:List α)(i:Int):Option α:=(ixN xs.length i).bind λj=>xs[j]?
theorem Bs{n:Nat}{i:Int}{j:Nat}(h:ixN n i=aa j):kx i n=aa j/\j<n/\-(n:Int)<=i/\i<n:=by
 unfold ixN at h;by_cases h0:0<=i
 .rw[if_pos h0]at h;by_cases h1:i<n
  .rw[if_pos h1]at h;have e:i.toNat=j:=aC h;exact⟨by rw[iX h0 h1,e],by omega,by omega,h1⟩
  .rw[if_neg h1]at h;cases h
 .rw[if_neg h0]at h;by_cases h1:-(n:Int)<=i
  .rw[if_pos h1]at h;have e:(i+n).toNat=j:=aC h;exact⟨by rw[iI nofun h1,e],by omega,h1,by omega⟩
  .rw[if_neg h1]at h;cases h
theorem Ni{α:Type}{xs:List α}{i:Int}{v:α}(h:atI xs i=aa v):∃j,kx i xs.length=aa j/\xs[j]?=aa v/\j<xs.length/\-(xs.length:Int)<=i/\i<xs.length:=by
 unfold atI at h;cases e:ixN xs.length i with
 |none=>rw[e]at h;cases h
 |some j =>rw[e]at h;obtain⟨h1,h2,h3,h4⟩:=Bs e;exact⟨j,h1,h,h2,h3,h4⟩
theorem U0{α:Type}{xs:List α}{j:Nat}{v:α}(h:xs[j]?=aa v):atI xs (j:Int)=aa v:=by
 have hj:j<xs.length:=(Xd.mp h).1;have e:ixN xs.length (j:Int)=aa j:=by unfold ixN;rw[if_pos nofun,if_pos nofun];simp
 unfold atI;rw[e];exact h
def Vn(b:au):Prop:=∀o i,subscripted b ae o i=operate [o,i] (iK o i)
def IxR(X:Cx)(r:R2):Prop :=
 ∀(value slice:au)(pins:k72) (s:aq) (σ:St) (H:Hp) (x y:V) (v u:aj) (Q:VK),Inv X pins σ H s->RelV x v->RelV y u->r x y H Q ->
  subscripted slice ae v u=operate [v,u] (iK v u)->ax (aA X.prog X.w) X.A (lQ value slice v u) (EP X pins σ Q) X.xe s
def MtR(X:Cx)(id:String)(r:V->List V->Hp->VK->Prop):Prop :=
 ∀(pins:k72) (s:aq) (σ:St) (H:Hp) (x:V) (xs:List V) (v:aj) (us:List aj) (Q:VK),Inv X pins σ H s->RelV x v->Vals xs us->r x xs H Q ->
  ax (aA X.prog X.w) X.A (call (.builtin id) (v::us)) (EP X pins σ Q) X.xe s
section
variable{X:Cx}{a b:au}{ta tb:TE}{pos:aR}
theorem Wy{r:R2}(hr:IxR X r)(ha:PE X a ta)(hb:PE X b tb)(hs:Vn b):PE X (.Subscript a b pos) (tOp r ta tb):=by intro pins s σ H Q I h;exact Subscript_ (j8f ha hb I h λv u s2 x y H2 I2 rx ry q=>hr a b pins s2 σ H2 x y v u Q I2 rx ry q (hs _ _))
def jdf(K:k70):R2:=λx y H Q=>∃p xs i v,x=.ref p/\y=.int i/\SqL K H p xs/\atI xs i=aa v/\Q v H
def jdd(K:k70):R2:=λx y H Q=>∃p xs i v,x=.ref p/\y=.int i/\SqT K H p xs/\atI xs i=aa v/\Q v H
def jde:R2:=λx y H Q=>∃z i c,x=.str z/\y=.int i/\z.length<=ar/\atI z.cps.toList i=aa c/\Q (.str ⟨#[c]⟩) H
theorem j0h:IxR X (jdf X.K):=by
 intro value slice pins s σ H x y v u Q I rx ry h hs;obtain⟨p,xs,i,z,rfl,rfl,hq,he,q⟩:=h;cases rx;obtain⟨t,rfl⟩:=ry;obtain⟨its,r,pl,hz⟩:=I.list hq;obtain⟨j,h1,h2,h3,h4,h5⟩:=Ni he;obtain⟨w,ew,rw'⟩:=r.get h2;have hl:=r.length;have hn:=Yv;have fin:EP X pins σ Q w s:=⟨z,H,I,rw',q⟩
 by_cases h0:0<=i
 .have hj:i.toNat=j:=by rw[iX h0 h5]at h1;exact aC h1
  exact item_listR pl.isList h0 nofun (by rw[hj];simpa using ew) fin hs
 .have hj:(i+(its.toArray.size:Int)).toNat=j:=by rw[iI nofun h4]at h1;rw[xu,<-hl];exact aC h1
  exact iM (x:=w) pl.isList.typeIs slot_list_getitem.lookup
   (wpAny_getItem_list_neg (Q:=λr s'=>r=w/\EP X pins σ Q r s') pl.isList nofun (by rw[xu]<;>omega) nofun (by rw[hj];simpa using ew) ⟨rfl,fin⟩) hs
theorem j48:IxR X (jdd X.K):=by
 intro value slice pins s σ H x y v u Q I rx ry h hs;obtain⟨p,xs,i,z,rfl,rfl,hq,he,q⟩:=h;cases rx;obtain⟨t,rfl⟩:=ry;obtain⟨its,r,pl,hz⟩:=I.tuple hq;obtain⟨j,h1,h2,h3,h4,h5⟩:=Ni he;obtain⟨w,ew,rw'⟩:=r.get h2;have hl:=r.length;have hn:=Yv;have fin:EP X pins σ Q w s:=⟨z,H,I,rw',q⟩
 exact iM (x:=w) pl.typeIs slot_tuple_getitem.lookup
  (getItem_tuple (j:=j) (Q:=λr s'=>r=w/\EP X pins σ Q r s') pl nofun nofun (by rw[xu,<-hl];exact h1) (by simpa using ew) ⟨rfl,fin⟩) hs
theorem jep:IxR X jde:=by
 intro value slice pins s σ H x y v u Q I rx ry h hs;obtain⟨z,i,c,rfl,rfl,hz,he,q⟩:=h;obtain⟨t,rfl⟩:=rx;obtain⟨t',rfl⟩:=ry;obtain⟨j,h1,h2,h3,h4,h5⟩:=Ni he;have hl:z.cps.toList.length=z.length:=by simp[lz]
 rw[hl]at h1 h4 h5;have hn:=Yv;exact lK (d9 s z t) slot_str_getitem.lookup (getItem_str (c:=c) (by
  have e1:decide (i < -(2^63:Int))=ae:=decide_eq_false nofun
  have e2:decide (i>=2^63)=ae:=decide_eq_false nofun
  rw[e1,e2,gz]) (by rw[h1];simpa using h2) ⟨.str ⟨#[c]⟩,H,I.tok _,⟨_,rfl⟩,q⟩) hs
theorem j1q(its:List aj)(n j:Nat)(u:aj):fc (·.setIfInBounds j u) { cls:=.type "list",data:=.seq its.toArray n }={ cls:=.type "list",data:=.seq (its.set j u).toArray n }:=by simp[fc]
theorem Inv.lst{pins:k72}{σ:St}{H:Hp}{s:aq}{p:ak}{xs:List V}(I:Inv X pins σ H s)(h:H p=aa (.lst xs)) :
  ∃(its:List aj)(n:Nat),Vals xs its/\s.heap.get? p=aa { cls:=.type "list",data:=.seq its.toArray n }/\xs.length<=ar:=by
 obtain⟨z,its,n,r,e⟩:=I.hok p _ h;exact⟨its,n,r,e,z⟩
theorem Inv.lstUpd{pins:k72}{σ:St}{H:Hp}{s:aq}{p:ak}{xs ys:List V}{its its':List aj}{n n':Nat}{f:dm->dm}(I:Inv X pins σ H s)(h:H p=aa (.lst xs))
  (ho:s.heap.get? p=aa { cls:=.type "list",data:=.seq its.toArray n }) (hf:f { cls:=.type "list",data:=.seq its.toArray n }={ cls:=.type "list",data:=.seq its'.toArray n' }) (r:Vals ys its') (hz:ys.length<=ar) (t:Nat) :
  Inv X pins σ (upd H p (.lst ys)) { s with heap:=s.heap.update p f,toks:=t }:=by
 have e:(s.heap.update p f).get? p=aa { cls:=.type "list",data:=.seq its'.toArray n' }:=by rw[gO f ho (by rw[hf]<;>rfl),hf]
 refine I.write (x:=p) (e:=p) (by rw[h];trivial) (.inl rfl) (λb u hb q=>(gD _ _ (dS hb)).trans q) ⟨_,e⟩ ?_;exact⟨hz,its',n',r,e⟩
def jhe:V->V->V->Hp->(Hp->Prop)->Prop:=λo i v H Q=>∃p xs k j,o=.ref p/\i=.int k/\H p=aa (.lst xs)/\ixN xs.length k=aa j/\Q (upd H p (.lst (xs.set j v)))
theorem set_list:jgk X jhe:=by
 intro pins s σ H o i v ov iv u Q I ro ri rv h;obtain⟨p,xs,k,j,rfl,rfl,hp,hj,q⟩:=h;cases ro;obtain⟨t,rfl⟩:=ri;obtain⟨its,n,r,ho,hz⟩:=I.lst hp;obtain⟨h1,h2,h3,h4⟩:=Bs hj;have hl:=r.length;have hn:=Yv;have I':Inv X pins σ (upd H p (.lst (xs.set j v))) { s with heap:=s.heap.update p (fc (·.setIfInBounds j u)) } :=
  I.lstUpd hp ho (j1q its n j u) (r.set rv j) (by rw[List.length_set];exact hz) s.toks
 by_cases h0:0<=k
 .have hk:k.toNat=j:=by rw[iX h0 h4]at h1;exact aC h1
  exact W.ki_setAt ho h0 nofun (by rw[xu,<-hl];exact h4) (by rw[hk];exact⟨_,I',q⟩)
 .have hk:(k+(its.toArray.size:Int)).toNat=j:=by rw[iI nofun h3]at h1;rw[xu,<-hl];exact aC h1
  exact W.ki_setBack ho nofun (by rw[xu,<-hl];exact h3) nofun (by rw[hk];exact⟨_,I',q⟩)
theorem Ln(lo hi:Option Int)(n:Nat):(dh lo hi ah n).1=((HT.sIx n 0 lo:Nat):Int)/\(dh lo hi ah n).2.1=((HT.sIx n n hi:Nat):Int)/\(dh lo hi ah n).2.2=1:=by
 refine⟨?_,?_,rfl⟩
 .cases lo with
  |none=>simp[dh,HT.sIx]
  |some i =>
   simp only[dh,HT.sIx,ir,show(1:Int)>0 by decide,if_true];by_cases h:i<0
   .simp only[h,if_true]<;>omega
   .simp only[h,if_false]<;>omega
 .cases hi with
  |none=>simp[dh,HT.sIx]
  |some i =>
   simp only[dh,HT.sIx,ir,show(1:Int)>0 by decide,if_true];by_cases h:i<0
   .simp only[h,if_true]<;>omega
   .simp only[h,if_false]<;>omega
theorem Du(its:List aj)(lo hi:Option Int):slicePick its.toArray lo hi ah=((its.drop (HT.sIx its.length 0 lo)).take (HT.sIx its.length its.length hi-HT.sIx its.length 0 lo)).toArray:=by obtain⟨h1,h2,h3⟩:=Ln lo hi its.toArray.size;unfold slicePick;rw[h1,h2,h3];simp only[sliceRange_one,pick_run,xu]<;>rfl
def jjz(K:k70):V->Option Int->Option Int->Hp->VK->Prop:=λx lo hi H Q=>∃a xs,x=.ref a/\SqL K H a xs/\∀p,H p=ah->Q (.ref p) (upd H p (.lst (Wl xs lo hi)))
theorem ja4:SlR X (jjz X.K):=by intro pins s σ H x v vl vu lo hi sl Q I rx hs pl pu h;obtain⟨a,xs,rfl,hx,q⟩:=h;cases rx;obtain⟨its,r,ht,hz⟩:=I.list hx;have hlen:=r.length;refine⟨"list",_,slot_list_getitem.lookup,ht.isList.typeIs,?_⟩;refine wpAny_getItem_list_slice ht.isList hs pl pu .none (by simp) ?_ (by rw[xu]<;>omega);rw[Du,<-hlen];refine⟨.ref s.heap.objs.size,_,I.laid (t':=s.toks) (o:=.lst (Wl xs lo hi)) (λb ob q=>kj _ q) (X5 _) ?_,rfl,q _ (I.hok.fresh (X5 _))⟩;exact⟨Xh (M3 xs lo hi) hz,_,0,(r.drop (HT.sIx xs.length 0 lo)).take (HT.sIx xs.length xs.length hi-HT.sIx xs.length 0 lo),xx _ rfl⟩
theorem Z8:Jh X (.builtin "len") (λxs H Q=>∃p ys,xs=[.ref p]/\(SqL X.K H p ys\/SqT X.K H p ys)/\Q (.int ys.length) H):=by
 intro pins s σ H xs us Q I r h;obtain⟨p,ys,rfl,hq,q⟩:=h;obtain⟨u,rfl,rx⟩:=vals1 r;cases rx;have hn:=Yv;rcases hq with hq|hq
 .obtain⟨its,r',pl,hz⟩:=I.list hq;have hlen:=r'.length;exact Calls.call_len_list pl.isList (by simp only[xu]<;>omega) ⟨.int ys.length,H,I.tok _,⟨s.toks+1,by rw[xu,hlen]⟩,q⟩
 .obtain⟨its,r',pl,hz⟩:=I.tuple hq;have hlen:=r'.length;exact len_tuple pl (by simp only[xu]<;>omega) ⟨.int ys.length,H,I.tok _,⟨s.toks+1,by rw[xu,hlen]⟩,q⟩
theorem Ec:Jh X (.builtin "len") (λxs H Q=>∃z,xs=[.str z]/\z.length<=ar/\Q (.int z.length) H):=by intro pins s σ H xs us Q I r h;obtain⟨z,rfl,hz,q⟩:=h;obtain⟨u,rfl,t,rfl⟩:=vals1 r;have hn:=Yv;exact len_str nofun ⟨.int z.length,H,I.tok _,⟨_,rfl⟩,q⟩
theorem Eb:Jh X (.type "list") (λxs H Q=>∃p ys,xs=[.ref p]/\(SqL X.K H p ys\/SqT X.K H p ys)/\∀l,H l=ah->Q (.ref l) (upd H l (.lst ys))):=by
 intro pins s σ H xs us Q I r h;obtain⟨p,ys,rfl,hq,q⟩:=h;obtain⟨u,rfl,rx⟩:=vals1 r;cases rx;have fin:∀(its:List aj),Vals ys its->ys.length<=ar->∀(h':aG)(c':Nat),(∀b o',s.heap.get? b=aa o'->h'.get? b=aa o') ->
   h'.get? s.heap.objs.size=aa { cls:=.type "list",dict:=ah,data:=.seq its.toArray c',slots:=#[] }->EP X pins σ Q (.ref s.heap.objs.size) { s with heap:=h' }:=λits r' hz h' c' kp e =>
  ⟨.ref s.heap.objs.size,_,I.laid (t':=s.toks) kp (X5 _) (show jm X.prog X.w _ h' _ (.lst ys) from⟨hz,its,c',r',e⟩),rfl,q _ (I.hok.fresh (X5 _))⟩
 rcases hq with hq|hq
 .obtain⟨its,r',pl,hz⟩:=I.list hq;have hlen:=r'.length;obtain⟨o,ho,hc,n,hd⟩:=pl.isList;exact lP p (.inl rfl) ho hc hd (λh' c' kp e=>fin its r' hz h' c' kp e) (by simp only[xu]<;>omega)
 .obtain⟨its,r',pl,hz⟩:=I.tuple hq;have hlen:=r'.length;obtain⟨o,ho,hc,n,hd⟩:=pl;exact lP p (.inr rfl) ho hc hd (λh' c' kp e=>fin its r' hz h' c' kp e) (by simp only[xu]<;>omega)
theorem Dy:Jh X (.type "tuple") (λxs H Q=>∃p ys,xs=[.ref p]/\((SqL X.K H p ys/\∀l,H l=ah->Q (.ref l) (upd H l (.tup ys)))\/(SqT X.K H p ys/\Q (.ref p) H))):=by
 intro pins s σ H xs us Q I r h;obtain⟨p,ys,rfl,h⟩:=h;obtain⟨u,rfl,rx⟩:=vals1 r;cases rx;rcases h with ⟨hq,q⟩|⟨hq,q⟩
 .obtain⟨its,r',pl,hz⟩:=I.list hq;have hlen:=r'.length;refine call_tuple_list pl.isList (λh' kp=>?_) (by simp only[xu]<;>omega);have I1:Inv X pins σ H { s with heap:=h' }:=I.kept (t':=s.toks) kp;have I2:Inv X pins σ (upd H h'.objs.size (.tup ys)) { s with heap:=h'.push { cls:=.type "tuple",data:=.seq its.toArray } } :=
   I1.laid (t':=s.toks) (λb o e=>kj _ e) (X5 _) (show jm X.prog X.w _ _ _ (.tup ys) from⟨hz,its,r',IsTup.new _ _,Zo.new _ _⟩)
  exact⟨.ref h'.objs.size,_,I2,rfl,q _ (I1.hok.fresh (X5 _))⟩
 .obtain⟨its,r',pl,hz⟩:=I.tuple hq;exact call_tuple_same pl ⟨.ref p,H,I,rfl,q⟩
def tyV(K:k70)(T:String)(x:V)(H:Hp):Prop:=match x with
 |.str _=>T = "str"
 |.int _=>T = "int"
 |.ref p=>(T = "list"/\∃xs,SqL K H p xs)\/(T = "tuple"/\∃xs,SqT K H p xs) \/
   (T = "dict"/\((∃kvs,H p=aa (.dK kvs))\/∃kvs,H p=aa (.dT kvs)))\/(T = "set"/\∃S n,H p=aa (.set S n))
 |_=>False
theorem jcl{pins:k72}{σ:St}{H:Hp}{s:aq}{T:String}{x:V}{v:aj}(I:Inv X pins σ H s)(r:RelV x v)(ty:tyV X.K T x H) :
  s.TypeIs v T/\∀a,v=.ref a->∃ob,s.heap.get? a=aa ob/\ob.dict=ah:=by
 cases x with
 |str z =>obtain⟨t,rfl⟩:=r;cases(show T = "str" from ty);exact⟨d9 s z t,λ_ e=>nomatch e⟩
 |int i =>obtain⟨t,rfl⟩:=r;cases(show T = "int" from ty);exact⟨fS s i t,λ_ e=>nomatch e⟩
 |ref p =>
  cases r;rcases ty with ⟨rfl,xs,hq⟩|⟨rfl,xs,hq⟩|⟨rfl,hk⟩|⟨rfl,S,n,hk⟩
  .obtain⟨its,_,pl,_⟩:=I.list hq;refine⟨pl.isList.typeIs,λa e=>?_⟩;cases e;obtain⟨o,n,e,c,hd,_⟩:=pl;exact⟨o,e,hd⟩
  .obtain⟨its,_,⟨o,e1,e2,_⟩,_⟩:=I.tuple hq;refine⟨⟨o,e1,e2⟩,λa e=>?_⟩;cases e;exact⟨o,e1,I.tupD hq o e1⟩
  .have z:∃o,s.heap.get? p=aa o/\o.ExactDict:=by
    rcases hk with ⟨kvs,hk⟩|⟨kvs,hk⟩
    .obtain⟨_,_,_,_,o,_,_,e,ex,_⟩:=I.hok p _ hk;exact⟨o,e,ex⟩
    .obtain⟨_,_,_,_,o,_,_,e,ex,_⟩:=I.hok p _ hk;exact⟨o,e,ex⟩
   obtain⟨o,e,ex⟩:=z;refine⟨⟨o,e,ex.1⟩,λa e2=>?_⟩;cases e2;exact⟨o,e,ex.2.1⟩
  .obtain⟨o,_,_,_,e,ex,_⟩:=I.hok p _ hk;refine⟨⟨o,e,ex.1⟩,λa e2=>?_⟩;cases e2;exact⟨o,e,ex.2.1⟩
 |_=>exact aT ty
def tBM(K:k70)(T:String)(r:V->List V->Hp->VK->Prop)(to:TE)(t:TA):TE:=λσ H Q=>to σ H λx H1=>tyV K T x H1/\t σ H1 λxs H2=>r x xs H2 Q
variable{o e:au}{es:List au}{to:TE}{t:TA}{name:ao}{apos cpos:aR}{T id:String}{r:V->List V->Hp->VK->Prop}
theorem Y9 (pa:PlainAttrs T) (slot:Slot T name id) (hty:typeOf (.builtin id)=pure (.type "method_descriptor")) (hm:MtR X id r) (ho:PE X o to) (ha:PA X (e::es) t)
  (hbase:aU o name X.env (aB o X.env)=aB o X.env:=by rfl)
  (hfew:((aP cpos (ai (e::es) X.env)).all (λx=>!x.1)&&(bP cpos (b7 [] X.env)).all (λx=>x.1.isSome)
   && decide ((e::es).length+([]:List b0).length+(if ([]:List b0).isEmpty then 0 else 1)<30))=af:=by rfl)
  (hline:(apos.endLine==cpos.line)=af:=by rfl) (hs:ai (e::es) X.env=(ae,aB e X.env)::ai es X.env:=by rfl) (hplain:(aP cpos (ai es X.env)).any (·.1)=ae:=by rfl) :
  PE X (.Call (.Attribute o name apos) (e::es) [] cpos) (tBM X.K T r to t):=by
 intro pins s σ H Q I h;refine wpAny_Call_method_late hbase hfew hline rfl (thn (ho pins s σ H _ I h) λv s1 ⟨x,H1,I1,r1,ty,q1⟩=>?_);obtain⟨h1,h2⟩:=jcl I1 r1 ty;refine⟨T,id,pa,slot,hty,h1,h2,?_⟩;have hA:=ha cpos pins s1 σ H1 _ I1 q1;rw[hs]at hA ⊢;refine dY (by show(ae || (aP cpos (ai es X.env)).any (·.1))=ae;rw[hplain]<;>rfl) (cV ?_);exact thn hA λus s2 ⟨vs,H2,I2,r2,q2⟩=>hm pins s2 σ H2 x vs v us Q I2 r1 r2 q2
/- xs.append(e),list.index on a module's tuple .. are MtR facts of 06m -/
end
def MtM(X:Cx)(id:String)(r:V->List V->Hp->VK->Prop):Prop :=
 ∀(pins:k72) (s:aq) (σ:St) (H:Hp) (x:V) (xs:List V) (v:aj) (us:List aj) (Q:VK),Inv X pins σ H s->RelV x v->Vals xs us->r x xs H Q ->
  ax (aA X.prog X.w) X.A (call (.builtin id) (v::us)) (EP X pins σ Q) X.xe s
theorem Vals.one{x:V}{us:List aj}(h:Vals [x] us):∃u,us=[u]/\RelV x u:=by cases h with|cons r t=>cases t;exact⟨_,rfl,r⟩
theorem Vals.two:∀{x y:V}{us:List aj},Vals [x,y] us->∃u v,us=[u,v]/\RelV x u/\RelV y v
 |_,_,_,.cons r (.cons q .nil)=>⟨_,_,rfl,r,q⟩
theorem Vals.zero:∀{us:List aj},Vals [] us->us=[]
 |_,.nil=>rfl
theorem Vals.dropLast{xs:List V}{us:List aj}(h:Vals xs us):Vals xs.dropLast us.dropLast:=by
 induction h with
 |nil=>exact .nil
 |cons r t ih =>
  cases t with
  |nil=>exact .nil
  |cons q t'=>exact .cons r ih
theorem Vals.eraseIdx:∀{xs:List V}{us:List aj}(i:Nat),Vals xs us->Vals (xs.eraseIdx i) (us.eraseIdx i)
 |_,_,_,.nil=>.nil
 |_,_,0,.cons _ t=>t
 |_,_,i+1,.cons r t=>.cons r (Vals.eraseIdx i t)
theorem Vals.reverse{xs:List V}{us:List aj}(h:Vals xs us):Vals xs.reverse us.reverse:=by
 induction h with
 |nil=>exact .nil
 |cons r t ih=>rw[iO,iO];exact Vals.append ih (.cons r .nil)
theorem Vals.rep{xs:List V}{us:List aj}(h:Vals xs us):∀k:Nat,Vals (az k xs).flatten (az k us).flatten
 |0=>.nil
 |k+1=>by rw[Pj,Pj,T9,T9];exact Vals.append h (Vals.rep h k)
theorem Fq{α:Type}:∀(l:List α)(i:Nat),(l.eraseIdx i).length<=l.length
 |[],_=>X5 _
 |_::_,0=>Xv _
 |_::r,i+1=>Nat.succ_le_succ (Fq r i)
theorem foldl_rep(its:List aj):∀(k:Nat)(acc:List aj),
  cU (λx1 x2=>x1++x2) acc.toArray (az k its.toArray)=(acc++(az k its).flatten).toArray
 |0,acc=>by simp
 |k+1,acc=>by
  have e:acc.toArray++its.toArray=(acc++its).toArray:=by simp
  have e2:(acc++its)++(az k its).flatten=acc++(az (k+1) its).flatten:=by rw[Pj,T9,P0]
  rw[<-e2,<-foldl_rep its k (acc++its),<-e,Pj,T4]
section
variable{X:Cx}{pins:k72}{σ:St}{H:Hp}{s:aq}{l b:ak}{xs ys zs:List V}
theorem Inv.lset{its its':List aj}{n:Nat}{f:Array aj->Array aj}{t':Nat}(I:Inv X pins σ H s)(hH:H l=aa (.lst xs))
  (e:s.heap.get? l=aa { cls:=.type "list",data:=.seq its.toArray n }) (hf:f its.toArray=its'.toArray) (hv:Vals ys its') (hz:ys.length<=ar) :
  Inv X pins σ (upd H l (.lst ys)) { s with heap:=s.heap.update l (fc f),toks:=t' }:=by
 have q:=PySem.IsL.update e f;rw[hf]at q;refine I.write (x:=l) (e:=l) (by rw[hH];exact trivial) (.inl rfl) (λb' u hb hu=>(gD s.heap (fc f) (dS hb)).trans hu) ⟨_,q⟩ ?_;exact⟨hz,its',_,hv,q⟩
theorem Inv.lnew{its:List aj}{t':Nat}(I:Inv X pins σ H s)(hv:Vals ys its)(hz:ys.length<=ar) :
  Inv X pins σ (upd H s.heap.objs.size (.lst ys)) { s with heap:=s.heap.push { cls:=.type "list",data:=.seq its.toArray },toks:=t' } :=
 I.laid (λ_ _ q=>kj _ q) (X5 _) ⟨hz,its,0,hv,xx _ rfl⟩
theorem Inv.fresh(I:Inv X pins σ H s):H s.heap.objs.size=ah:=I.hok.fresh (X5 _)
theorem Inv.lstM(I:Inv X pins σ H s)(hH:H l=aa (.lst xs)):xs.length<=ar/\∃(its:List aj)(n:Nat),Vals xs its/\xs.length=its.length/\s.heap.get? l=aa { cls:=.type "list",data:=.seq its.toArray n }:=by obtain⟨z,its,n,r,e⟩:=I.hok l _ hH;exact⟨z,its,n,r,r.length,e⟩
theorem K6{n:Nat}(h:n<=ar):cb n=ae:=by unfold cb;exact decide_eq_false nofun
end
section
variable{X:Cx}
def jam:V->List V->Hp->VK->Prop:=λx vs H Q=>∃l xs y,x=.ref l/\vs=[y]/\H l=aa (.lst xs)/\xs.length<ar/\Q .non (upd H l (.lst (xs++[y])))
theorem V2:MtM X "list.append" jam:=by intro pins s σ H x vs v us Q I rx rv h;obtain⟨l,xs,y,rfl,rfl,hH,hz,q⟩:=h;cases rx;obtain⟨u,rfl,ru⟩:=rv.one;obtain⟨z,its,n,r,hl,e⟩:=I.lstM hH;refine bD bK ⟨_,e,rfl⟩ F.entry_list_append (F.args_list_append_2 _ _) (PySem.list_append l its.toArray n u (by rw[xu];omega)) ⟨e,?_⟩;refine⟨.non,_,I.lset (its':=its++[u]) hH e (by simp) (r.append (.cons ru .nil)) ?_,rfl,q⟩;rw[X7,List.length_singleton];omega
def jal:V->List V->Hp->VK->Prop:=λx vs H Q=>∃l b xs zs,x=.ref l/\vs=[.ref b]/\H l=aa (.lst xs)/\H b=aa (.lst zs)/\xs.length+zs.length<=ar/\Q .non (upd H l (.lst (xs++zs)))
theorem j3t:MtM X "list.extend" jal:=by
 intro pins s σ H x vs v us Q I rx rv h;obtain⟨l,b,xs,zs,rfl,rfl,hH,hB,hz,q⟩:=h;cases rx;obtain⟨u,rfl,ru⟩:=rv.one;cases ru;obtain⟨z,its,n,r,hl,e⟩:=I.lstM hH;obtain⟨z2,its2,n2,r2,hl2,e2⟩:=I.lstM hB;have hsz:its.toArray.size+its2.toArray.size<=ar:=by rw[xu,xu];omega
 have hlong:¬(!its.toArray.isEmpty&&cb (its.toArray.size+its2.toArray.size))=af:=by rw[K6 hsz,gf];exact xf
 refine bD gR ⟨_,e,rfl⟩ F.entry_list_extend (F.args_list_extend_2 _ _)
  (AutoSeq1.list_extend_list_list_0 l its.toArray n b its2.toArray n2 hlong (by rw[xu];omega) nofun) ⟨e,e2,?_⟩
 refine⟨.non,_,I.lset (its':=its++its2) hH e (by simp) (r.append r2) ?_,rfl,q⟩;rw[X7];omega
def jdc:V->List V->Hp->VK->Prop:=λx vs H Q=>∃l xs i k y,x=.ref l/\vs=[.int i]/\H l=aa (.lst xs)/\-(2^63)<=i/\i<2^63/\kx i xs.length=aa k/\xs[k]?=aa y/\Q y (upd H l (.lst (xs.eraseIdx k)))
theorem j6w:MtM X "list.pop" jdc:=by
 intro pins s σ H x vs v us Q I rx rv h;obtain⟨l,xs,i,k,y,rfl,rfl,hH,h1,h2,hk,hy,q⟩:=h;cases rx;obtain⟨u,rfl,ru⟩:=rv.one;obtain⟨t,rfl⟩:=ru;obtain⟨z,its,n,r,hl,e⟩:=I.lstM hH;obtain⟨w,hw,rw'⟩:=r.get hy;refine bD ic ⟨_,e,rfl⟩ F.entry_list_pop (F.args_list_pop_2 _ _)
  (MeetsSeq.list_pop_at l its.toArray n i t k w (lG h1 h2) (by rw[xu,<-hl];exact hk) (by rw[<-gN];exact hw) (by rw[xu];omega)) ⟨e,?_⟩
 refine⟨y,_,I.lset (its':=its.eraseIdx k) hH e ?_ (r.eraseIdx k) ?_,rw',q⟩
 .show its.toArray.eraseIdxIfInBounds k=(its.eraseIdx k).toArray;rw[List.eraseIdxIfInBounds_toArray]
 .have:=Fq xs k;omega
def jk1:R2:=λx y H Q=>∃l k xs,x=.ref l/\y=.int k/\H l=aa (.lst xs)/\-(2^63)<=k/\k<2^63/\xs.length*k.toNat<=ar /\
 ∀p,H p=ah->Q (.ref p) (upd H p (.lst (az k.toNat xs).flatten))
theorem len_rep{α:Type}(xs:List α)(k:Nat):(az k xs).flatten.length=k*xs.length:=by
 induction k with
 |zero=>simp
 |succ k ih=>rw[Pj,T9,X7,ih,kz,Nat.add_comm]
theorem jdy:OpR X (bh .Mult) jk1:=by
 intro pins s σ H x y v u Q I rx ry h;obtain⟨l,k,xs,rfl,rfl,hH,h1,h2,hz,q⟩:=h;cases rx;obtain⟨t,rfl⟩:=ry;obtain⟨z,its,n,r,hl,e⟩:=I.lstM hH;have hlen:its.toArray.size*k.toNat<=ar:=by rw[xu,<-hl];exact hz
 have hcap:¬its.toArray.size*k.toNat>(2^63-1)/8:=by
  have:(ar:Nat)<=(2^63-1)/8:=by decide
  omega
 have hfit:¬(!Builtin.List.listFitsIndex k)=af:=by rw[lG h1 h2];exact xf
 have hlong:¬cb (its.toArray.size*k.toNat)=af:=by rw[K6 hlen];exact xf
 have hnew:cU (λx1 x2=>x1++x2) #[] (az (if its.toArray.isEmpty=af then 0 else k.toNat) its.toArray)=(az k.toNat its).flatten.toArray:=by
  have f0:∀m:Nat,cU (λx1 x2=>x1++x2) #[] (az m its.toArray)=(az m its).flatten.toArray:=λm=>by have:=foldl_rep its m [];rw[d5]at this;exact this
  rw[f0];cases its with
  |nil=>simp
  |cons a r'=>rw[if_neg (by simp)]
 refine gZ (T:="list") (U:="int") (by decide) ⟨_,e,rfl⟩ (λs'=>fS s' k t) noFill_list_mul jU eR repeat_list F.slot_int_index.lookup
  (bD eR (fS s k t) jJ (jF _ _) (int___rmul___int_list k t l its.toArray n)
   ⟨e,rfl,⟨_,e,rfl⟩,bD F.slot_list_mul ⟨_,e,rfl⟩ F.entry_list_mul (F.args_list_mul_2 _ _) (AutoListH.list___mul___list_int_3 l its.toArray n k t hfit hcap hlong) ⟨e,?_⟩⟩)
 rw[hnew];exact⟨.ref _,_,I.lnew (t':=s.toks) (r.rep k.toNat) (by rw[len_rep,fF];exact hz),rfl,q _ I.fresh⟩
end
section
variable{prog:ay}{w:aD}{A:aF}{E:k71}{s:aq}
end
section
variable{X:Cx}
end
end L2
namespace Att
open PySem PySem.W PySem.Calls PyProof.Rows
theorem Oi{P:lI}{h:aG}:∀(ns:List Int)(vs:List aj),WellAll P h vs (ns.map WData.int)->gG vs ns:=by
 intro ns;induction ns with
 |nil =>intro vs w;rw[eG]at w;cases w;exact .nil
 |cons n ns ih =>
  intro vs w;rw[X4]at w;cases w with
  |cons a b =>cases a;exact .cons _ _ (ih _ b)
theorem j33{l:dJ}{n:Nat}(hn:l.most=aa n){P:lI}{h:aG}{args:List WData}{vals:List aj}
  (hpre:l.row.toRowW.claim.pre args=af) (hwl:WellAll P h vals args) :
  ∃a vs ns,vals=[aH a]/\args=[WData.list (ns.map WData.int)]/\h.get? a=aa { cls:=.type "list",data:=.seq vs.toArray }/\gG vs ns/\ns.length<=n:=by
 have hsh:WShape.hasAll [] args [.list .int]=af:=(pre_splitW hpre).1;have hc:l.pre.holds [] { args:=args }=af:=(pre_splitW hpre).2;obtain⟨d,r,rfl,h1,h2⟩:=hasAllW_cons hsh;obtain rfl:=hasAllW_nil h2;obtain⟨xs,rfl,h3⟩:=hasW_list h1;obtain⟨ns,rfl⟩:=items_int h3;have hlen:ns.length<=n:=by
  unfold OpenLaw.pre at hc;have h4:(WTm.not (.lt (.lit (.int (n:Int))) (.len (.arg 0)))).holds [] { args:=[.list (ns.map .int)] }=af:=by have h4:=(holds_andW hc).1;rw[hn]at h4;exact h4
  have h5:=condW_of h4 (w_not (w_lt w_lit (w_len_list (w_arg rfl))));rw[xg]at h5;refine Nat.le_of_not_lt λq=>?_;have q':(n:Int)<((ns.length:Nat):Int):=by omega
  first
   |(rw[decide_eq_true q']at h5;exact absurd h5 (by decide))
   |(simp at h5;omega)
 cases hwl with
 |cons w1 w2 =>
  cases w2;cases w1 with
  |list ho hall=>exact⟨_,_,ns,rfl,rfl,ho,Oi ns _ hall,hlen⟩
theorem j3g(l:dJ)(args:List WData):l.row.toRowW.claim.post args (.bool af) args=af :=
 postW_of (r:=l.row.toRowW) (X:=(af==af))
  (show WShape.has [] (.bool af) .bool=af by first|rfl|decide|simp[WShape.has,WShape.arms,WShape.armsAll])
  (show(WTm.eq .res (.lit (.bool af))).value [] { args:=args,res:=aa (.bool af),after:=args }=aa (.bool (af==af))from w_eq_bool (w_res rfl) w_lit) rfl
theorem attach_call{l:dJ}{n:Nat}{q:ay}{loose:List ao}{XP:(ao->Option aj)->aG->Prop}{YP:aD->aG->Prop}{d:DefRec}
  (hn:l.most=aa n) (hdf:d.params.defaults=[])
  (call:∀(w:aD)(s₀ s₁:aq)(mg mb:k73)(fa:ak)(o:dm)(pm cd doc:aj)(a:ak) (vs:List aj) (ns:List Int),
   Ground q loose [] XP w s₀ mg mb s₁.heap->YP w s₁.heap ->
   s₁.heap.get? fa=aa o->o.data=.func (docDef d.name d.params d.body d.scope pm cd doc)->s₁.heap.CodeRec cd d.name->mg d.name=aa (.ref fa) ->
   s₁.heap.get? a=aa { cls:=.type "list",data:=.seq vs.toArray }->gG vs ns->ns.length<=n->s₁.gens = #[] ->
   cF (aA l.prog w) g9 (.call (.ref fa) ⟨[.ref a],[]⟩) (λr s'=>r=.ok (.ret (.bool af))/\OldK s₁.heap s'.heap/\s'.os=s₁.os/\eD s'.gens) s₁) :
  i3 q loose XP YP l.row.toRowW d [] (λf vs=>gb f vs):=by
 intro w s₀ s₁ mg mb G Y fa o pm cd doc dV kV ho hd hcd hD hmg hg args vals as hpre hlay hrd hwl hlo;obtain rfl:dV=.none:=Dflts.none hD hdf;obtain rfl:kV=.none:=Dflts.noKw hD;obtain⟨a,vs,ns,rfl,rfl,hobj,hints,hlen⟩:=j33 hn hpre hwl;refine enter_call (bO (call w s₀ s₁ mg mb fa o pm cd doc a vs ns G Y ho (fd_plain hd) hcd hmg hobj hints hlen hg) λr s' hq=>?_);obtain⟨rfl,h2,h3,h4⟩:=hq;exact⟨.inl ⟨.bool af,.bool af,[],rfl,λ_=>rfl,.bool af,j3g l _,λ_=>⟨gd,λ_ hm=>(nomatch hm)⟩⟩,h2,h3,h4⟩
section
variable{prog:ay}{w:aD}{A:aF}{E:k71}{s:aq}{K:ly}
end
end Att
namespace L2
open PySem PySem.Spec PyProof.Rows
theorem Ny:∀{vs:List aj}{ns:List Int},gG vs ns->Vals (ns.map V.int) vs
 |_,_,.nil=>.nil
 |_,_,.cons n t h=>.cons ⟨t,rfl⟩ (Ny h)
def Only(ts:List (ak×ao))(H:Hp):Prop:=(∀b,H b=ah\/(∃o xs,H b=aa (.frz o (.lst xs)))\/∃q,(b,q)∈ts/\H b=aa (.cod q))/\∀t∈ts,H t.1=aa (.cod t.2)
def j8p(ts:List (ak×ao))(h:aG):Prop:=(ts.map (·.1)).Nodup/\∀t∈ts,(∃c,PySem.W.CodeHd h c t.1)/\h.get? t.1=aa (W.tabObj #[])
theorem j04:∀{ts:List (ak×ao)} {b:ak} {q:ao},ts.lookup b=aa q->(b,q)∈ts
 |p::r,b,q,h=>by
  rw[Xc]at h;cases e:b==p.1 with
  |true=>rw[e]at h;cases h;rw[beq_iff_eq.mp e];exact xm ..
  |false=>rw[e]at h;exact km _ (j04 h)
theorem lookup_tab:∀{ts:List (ak×ao)},(ts.map (·.1)).Nodup->∀t∈ts,ts.lookup t.1=aa t.2
 |[],_,_,h=>by cases h
 |p::r,nd,t,ht=>by
  rw[X4]at nd;rcases xn.mp ht with e|ht
  .subst e;rw[Xc,beq_self_eq_true]
  .have ne:(t.1==p.1)=ae:=beq_eq_false_iff_ne.mpr λz=>(Xg.mp nd).1 (z▸i9 ht);rw[Xc,ne];exact lookup_tab (Xg.mp nd).2 t ht
theorem j75{P:ay}{w:aD}{K:k70}{mg mb:k73}{CX:CXT}{k:Nat}{fa a:ak}{fd:aM}{x:ao}{sp:Sp}{s₁:aq}{vs:List aj}{ns:List Int}{ts:List (ak×ao)}
  (KX:K.In s₁.heap) (hns:s₁.heap.Ns aw mg) (hb:s₁.heap.Ns dR mb) (hbb:∀x:ao,x ≠ "__name__"->mb x=bg x) (hlim:s₁.heap.NoLimit)
  (hbm:∃bm ob,mg "__builtins__" = aa (.ref bm)/\bm≠dR/\s₁.heap.get? bm=aa ob/\ob.cls=.type "module"/\ob.dict=aa dR/\ob.data=.plain) (hT:j8p ts s₁.heap) (hK0:W.noTabs K=af) (hg:s₁.gens = #[])
  (ha:s₁.heap.get? a=aa { cls:=.type "list",data:=.seq vs.toArray }) (hi:gG vs ns) (hl:ns.length<=ar) (hr:Room k g9)
  (F:∀base:aG,K.In base->base.Ns aw mg->FnOk P w K mg base CX k fa fd [x] sp) (hbind:∀(s:aq)(u:aj),gc s fd ⟨[u],[]⟩ [(x,u)])
  (hsp:∀H:Hp,Only ts H->SqL K H a (ns.map V.int)->sp [.ref a] H (λv H'=>v=.bl af/\∀b o,H b=aa o->H' b=aa o) λ_ _ _=>False)
  (hCX:∀H e s',CX [] H s₁ (λ_ _ _=>False) e s'->False) :
  cF (aA P w) g9 (.call (.ref fa) ⟨[.ref a],[]⟩) (λr s'=>r=.ok (.ret (.bool af))/\OldK s₁.heap s'.heap/\s'.os=s₁.os/\eD s'.gens) s₁:=by
 have rv:=Ny hi;have lenV:=hi.length;have at_:∀{q:ao}{b:ak},(b,q)∈ts->s₁.heap.get? b=aa (W.tabObj #[]):=λ{q b} h=>(hT.2 _ h).2;have core:∀H:Hp,Only ts H->SqL K H a (ns.map V.int)->HOk P w H s₁.heap->(∀b,H b≠ah->b=a\/∃q,(b,q)∈ts)->(H a≠ah->K.lookup a=ah) ->
   cF (aA P w) g9 (.call (.ref fa) ⟨[.ref a],[]⟩) (λr s'=>r=.ok (.ret (.bool af))/\OldK s₁.heap s'.heap/\s'.os=s₁.os/\eD s'.gens) s₁:=by
  intro H hO hS hok hA hK;have base_of:∀{b:ak}{o:dm},s₁.heap.get? b=aa o->H b=ah->(Ue s₁.heap H).get? b=aa o:=λe n=>j7r e n;have noA:∀{b:ak}{o:dm},s₁.heap.get? b=aa o->(∀vs n,o.data≠.seq vs n)->(∀vs,o.data≠.fields vs)->H b=ah:=λ{b o} e d d2=>by
   cases q:H b with
   |none=>rfl
   |some u =>
    rcases hA b (by rw[q];simp)with e'|⟨q',e'⟩
    .subst e';rw[ha]at e;cases e;exact absurd rfl (d _ _)
    .rw[at_ e']at e;cases e;exact absurd rfl (d2 _)
  have nsK:∀{b:ak}{m:k73},s₁.heap.Ns b m->(Ue s₁.heap H).Ns b m:=λ{b m} ⟨o,es,ep,e,d,r⟩=>⟨o,es,ep,base_of e (noA e (λ_ _ z=>by rw[d]at z;cases z) λ_ z=>by rw[d]at z;cases z),d,r⟩
  have hKb:K.In (Ue s₁.heap H):=λb o e=>base_of (KX b o e) (by
   cases q:H b with
   |none=>rfl
   |some u =>
    rcases hA b (by rw[q];simp)with e'|⟨q',e'⟩
    .subst e'
     rw[hK (by rw[q];simp)]at e;cases e
    .have e2:=KX b o e
     rw[at_ e']at e2
     have h2:=Xp.mp hK0 (b,o) (W.mem_of_lookupK e)
     cases e2
     exact absurd (show ae=af from h2) xf)
  have hM:Mod K mg (Ue s₁.heap H):=⟨hKb,nsK hns,⟨mb,nsK hb,hbb⟩,(let ⟨mc,h1,h2⟩:=hlim;⟨mc,nsK h1,h2⟩),
   let ⟨bm,ob,b1,b2,b3,b4,b5,b6⟩:=hbm;⟨bm,ob,b1,b2,base_of b3 (noA b3 (λ_ _ z=>by rw[b6]at z;cases z) λ_ z=>by rw[b6]at z;cases z),b4,b5,b6⟩⟩
  have e0:Env0 P w K mg (Ue s₁.heap H) g9 [] s₁ H:=⟨rfl,hM,λb o e=>jb2 e,kB (j4c _ _),trivial,λb hb=>absurd (show b∈([]:List ak)from hb) (by simp),hok,.of_eq hg⟩
  refine bO ((F _ hKb (nsK hns)).run g9 [] s₁ H ⟨[.ref a],[]⟩ [.ref a] [.ref a] _ _ hr e0 (hbind s₁ (.ref a)) (.cons rfl .nil) (hsp H hO hS)) λr s' h=>?_;cases r with
  |error e=>exact(hCX H e s' h).elim
  |ok fl =>
   cases fl with
   |next=>exact aT h
   |brk=>exact aT h
   |cont=>exact aT h
   |ret u =>
    obtain⟨v,H',os,bare,un,hok',r',q,sm⟩:=h;have q':v=.bl af:=q;subst q';obtain rfl:u=bo af:=r';have main:∀b o,s₁.heap.get? b=aa o->s'.heap.get? b=aa o\/((∃q,(b,q)∈ts)/\o=W.tabObj #[]/\∃ps,s'.heap.get? b=aa (W.tabObj ps)):=λb o e=>by
     cases q:H b with
     |none=>exact .inl (un.keep b o e q (by intro z;exact absurd (show b∈([]:List ak)from z) (by simp)) (by simp))
     |some u =>
      rcases hO.1 b with z|⟨ob,xs,z⟩|⟨q',hq,z⟩
      .rw[q]at z;cases z
      .have z2:=un.frzs b ob _ z;obtain⟨e1,_⟩:=hok b _ z;obtain⟨e2,_⟩:=hok' b _ z2;rw[e]at e1;cases e1;exact .inl e2
      .obtain⟨ps,e2,_⟩:=(show jm P w H' s'.heap b (.cod q')from hok' b _ (sm b _ z))
       rw[at_ hq]at e;exact .inr ⟨⟨q',hq⟩,(aC e).symm,ps,e2⟩
    refine⟨rfl,⟨λb o e=>?_,λb o e=>?_⟩,os,bare⟩
    .rcases main b o e with z|⟨⟨q,hq⟩,rfl,ps,z⟩
     .exact .inl z
     .obtain⟨c,hc⟩:=(hT.2 _ hq).1;exact .inr (.inl ⟨(hc.tab (at_ hq)).isCodeTable,rfl,#[],ps,rfl,by rw[z,Array.empty_append]⟩)
    .rcases main b o e with z|⟨_,_,ps,z⟩
     .exact⟨o,z⟩
     .exact⟨_,z⟩
 have lkT:∀b q,ts.lookup b=aa q->(b,q)∈ts:=λb q h=>j04 h;have ofT:∀t∈ts,ts.lookup t.1=aa t.2:=lookup_tab hT.1;have okT:∀(H:Hp) b q,(b,q)∈ts->jm P w H s₁.heap b (.cod q):=λH b q h=>⟨#[],at_ h,trivial,λpos cv z=>by cases z⟩
 cases hk:K.lookup a with
 |some o =>
  have e:=KX a o hk;rw[ha]at e;cases e;refine core (λb=>(ts.lookup b).map HO.cod) ⟨λb=>?_,λt ht=>by show(ts.lookup t.1).map HO.cod=_;rw[ofT t ht];rfl⟩ (.inr ⟨_,vs.toArray,_,hk,rfl,rfl,rfl,by rw[xu,lenV];exact hl,by simpa using rv⟩) (λb u z=>?_) (λb z=>?_) λz=>?_
  .cases e:ts.lookup b with
   |none=>exact .inl (by show(ts.lookup b).map HO.cod=_;rw[e];rfl)
   |some q=>exact .inr (.inr ⟨q,lkT b q e,by show(ts.lookup b).map HO.cod=_;rw[e];rfl⟩)
  .obtain⟨q,e,rfl⟩:=Pn.mp z;exact okT _ b q (lkT b q e)
  .cases e:ts.lookup b with
   |none=>exact absurd (by show(ts.lookup b).map HO.cod=_;rw[e];rfl) z
   |some q=>exact .inr ⟨q,lkT b q e⟩
  .cases e:ts.lookup a with
   |none=>exact absurd (by show(ts.lookup a).map HO.cod=_;rw[e];rfl) z
   |some q=>have:=at_ (lkT a q e);rw[ha]at this;cases this
 |none =>
  have na:∀q,(a,q)∉ts:=λq h=>by have:=at_ h;rw[ha]at this;cases this
  refine core (λb=>if b=a then aa (.frz { cls:=.type "list",data:=.seq vs.toArray } (.lst (ns.map V.int))) else(ts.lookup b).map HO.cod) ⟨λb=>?_,λt ht=>?_⟩ (.inl (.inr ⟨{ cls:=.type "list",data:=.seq vs.toArray },if_pos rfl⟩)) (λb u z=>?_) (λb z=>?_) λ_=>hk
  .by_cases hb:b=a
   .exact .inr (.inl ⟨_,_,if_pos hb⟩)
   .cases e:ts.lookup b with
    |none=>exact .inl (by show(if b=a then _ else _)=_;rw[if_neg hb,e];rfl)
    |some q=>exact .inr (.inr ⟨q,lkT b q e,by show(if b=a then _ else _)=_;rw[if_neg hb,e];rfl⟩)
  .have nb:t.1≠a:=λz=>na t.2 (z▸ht);show(if t.1=a then _ else _)=_;rw[if_neg nb,ofT t ht];rfl
  .by_cases hb:b=a
   .have z':=(if_pos hb).symm.trans z;cases z';subst hb;exact⟨ha,by rw[xg];exact hl,vs,_,rv,ha⟩
   .have z':=(if_neg hb).symm.trans z;obtain⟨q,e,rfl⟩:=Pn.mp z';exact okT _ b q (lkT b q e)
  .by_cases hb:b=a
   .exact .inl hb
   .cases e:ts.lookup b with
    |none=>exact absurd (by show(if b=a then _ else _)=_;rw[if_neg hb,e];rfl) z
    |some q=>exact .inr ⟨q,lkT b q e⟩
theorem walk_of{l:dJ}{n k:Nat}{q:ay}{loose:List ao}{XP:(ao->Option aj)->aG->Prop}{YP:aD->aG->Prop}{d:DefRec}{K:lI->k70}{CX:aD->CXT}{sp:aD->Sp}{x:ao}{ts:aD->List (ak×ao)}
  (hn:l.most=aa n) (hn2:n<=ar) (hdf:d.params.defaults=[]) (hr:Room k g9)
  (hY:∀(w:aD)(h:aG),YP w h->(K w.params).In h/\j8p (ts w) h) (hK0:∀w:aD,W.noTabs (K w.params)=af)
  (F:∀(w:aD)(mg:k73)(fa:ak)(h:aG),(K w.params).In h->h.Ns aw mg->mg d.name=aa (.ref fa) ->
   ∃fd:aM,(∀(s:aq)(u:aj),gc s fd ⟨[u],[]⟩ [(x,u)]) /\
    ∀base:aG,(K w.params).In base->base.Ns aw mg->FnOk l.prog w (K w.params) mg base (CX w) k fa fd [x] (sp w))
  (hsp:∀(w:aD)(H:Hp)(a:ak)(ns:List Int),ns.length<=n->Only (ts w) H->SqL (K w.params) H a (ns.map V.int)->sp w [.ref a] H (λv H'=>v=.bl af/\∀b o,H b=aa o->H' b=aa o) λ_ _ _=>False)
  (hCX:∀(w:aD)(H:Hp)(s:aq)(e:aj)(s':aq),CX w [] H s (λ_ _ _=>False) e s'->False) :
  i3 q loose XP YP l.row.toRowW d [] (λf vs=>gb f vs):=by
 refine Att.attach_call hn hdf λw s₀ s₁ mg mb fa o pm cd doc a vs ns G Y ho hd hcd hmg hobj hints hlen hg=>?_;obtain⟨KX,hT⟩:=hY w _ Y;obtain⟨fd,hb,hF⟩:=F w mg fa _ KX G.T.g hmg;exact j75 KX G.T.g G.T.b G.T.builtins G.T.nolimit G.T.bmain hT (hK0 w) hg hobj hints (Xh hlen hn2) hr hF hb (λH hO hS=>hsp w H a ns hlen hO hS) λH e s'=>hCX w H s₁ e s'
end L2
/- THE LAST THEOREM (shape;LID,My.* are yours):
 My.Adr: a structure of the addresses that your layer names (classes,functions);My.Txt K t: a structure (Prop) of the equations over K;
 My.txt_mk:{K} {implicit addresses ..} (e1:ba K aw "law" = aa (aa (.ref f))) (e2:K.lookup f=aa ⟨oc,od,.func (fnOf "law" "law" params body scope dV kV doc pm an cdv ct),sl⟩) (e3:codeIn K cdv "law" = af) ..:∃t,My.Txt K t
(the tactic k_is has no namespace: write k_is) -/
namespace L2
open PySem PySem.Spec PyProof.Rows
noncomputable def inClass(s:aQ)(j:Nat):aQ:=match s with
 |.ClassDef _ _ _ body _ _ _ _ _ _ _=>body.getD j (.Pass ⟨0,0,0,0⟩)
 |_=>.Pass ⟨0,0,0,0⟩
noncomputable def qy(s:aQ):ip:=match s with
 |.FunctionDef _ a _ _ _ _ _ _ _ _=>a
 |_=>{ posonlyargs:=[],args:=[],vararg:=ah,kwonlyargs:=[],kw_defaults:=[],kwarg:=ah,defaults:=[] }
noncomputable def je(s:aQ):List aQ:=match s with
 |.FunctionDef _ _ b _ _ _ _ _ _ _=>b
 |_=>[]
noncomputable def j0(s:aQ):bG:=match s with
 |.FunctionDef _ _ _ _ _ _ sc _ _ _=>sc
 |_=>{ kind:=.function,names:=[],isGenerator:=ae,isCoroutine:=ae }
noncomputable abbrev CX0:CXT:=λ_ _ _ _ _ _=>False
noncomputable abbrev E0:XK:=λ_ _ _=>False
theorem Zt{X:Cx}:U4 CX0 X E0:=λ_ _ _ _ _ _ _ h=>h.elim
structure Fun(K:k70)(x qual:ao)(st:aQ)(f:ak)(fd:aM):Prop where
 ex:∃(oc:aj)(od:Option ak)(dV kV doc pm:aj)(an:Option ak)(cdv ct:aj)(osl:Array (Option aj)),
  fd=W.fnOf x qual (qy st) (je st) (j0 st) dV kV doc pm an cdv ct/\K.lookup f=aa ⟨oc,od,.func fd,osl⟩/\W.codeIn K cdv qual=af
 kp:W.keepIn K (.ref f)=af
section
variable{P:ay}{w:aD}{K:k70}{mg:k73}{base:aG}
theorem Fun.ok{x qual:ao}{st:aQ}{f:ak}{fd:aM}{N ps:List ao}{k:Nat}{sp:Sp}(F:Fun K x qual st f fd)(S:FnScope N ps (j0 st))(len:∀vs H Q E,sp vs H Q E->vs.length=ps.length)
  (hbody:∀(cdv:aj)(A:aF)(outer:List du)(s:aq)(H:Hp)(vs:List V)(Q:VK) (E:XK),Room k (A.deeper (bx qual (j0 st) s.heap.objs.size f cdv))->sp vs H Q E ->
   ∃t,PSs (qt CX0 P w K mg base N qual (j0 st) f cdv A outer s H E).nox (je st) t/\t { nx:=λ_ H'=>Q .non H',rt:=Q } (start N vs) H):FnOk P w K mg base CX0 (k+1) f fd ps sp:=by
 obtain⟨oc,od,dV,kV,doc,pm,an,cdv,ct,osl,rfl,lk,hcd⟩:=F.ex;refine Cr lk hcd S len λA outer s H vs Q E hr hsp=>?_;obtain⟨t,h,q⟩:=hbody cdv A outer s H vs Q E hr hsp;exact⟨t,h.nox,q⟩
theorem Fun.binds{x qual:ao}{st:aQ}{f:ak}{kV doc pm:aj}{an:Option ak}{cdv ct:aj}{ps:List ao}(F:Fun K x qual st f (W.fnOf x qual (qy st) (je st) (j0 st) .none kV doc pm an cdv ct))
  (h:∀(kV doc pm:aj)(an:Option ak)(cdv ct:aj)(us:List aj),us.length=ps.length->cX (W.fnOf x qual (qy st) (je st) (j0 st) .none kV doc pm an cdv ct) ⟨us,[]⟩=pure (ps.zip us)):Binds K (W.fnOf x qual (qy st) (je st) (j0 st) .none kV doc pm an cdv ct) ps []:=.all (h kV doc pm an cdv ct)
theorem Z2{x qual:ao}{st:aQ}{f:ak}{oc:aj}{od an:Option ak}{osl:Array (Option aj)}{dV kV doc pm cdv ct:aj}(l:K.lookup f=aa ⟨oc,od,.func (W.fnOf x qual (qy st) (je st) (j0 st) dV kV doc pm an cdv ct),osl⟩)
  (c:W.codeIn K cdv qual=af) (k:W.keepIn K (.ref f)=af):Fun K x qual st f (W.fnOf x qual (qy st) (je st) (j0 st) dV kV doc pm an cdv ct):=⟨⟨oc,od,dV,kV,doc,pm,an,cdv,ct,osl,rfl,l,c⟩,k⟩
end
section
variable{X:Cx}
end
theorem Wg{A B:Prop}(h:B):if ae=af then A else B:=by rw[if_neg xf];exact h
theorem Wf{A B:Prop}(h:A):if af=af then A else B:=by rw[if_pos rfl];exact h
theorem jew{c A B:Prop}[Decidable c](h1:c->A)(h2:¬c->B):if c then A else B:=by
 by_cases h:c
 .rw[if_pos h];exact h1 h
 .rw[if_neg h];exact h2 h
def j4(H H':Hp):Prop:=∀b o,H b=aa o->H' b=aa o
theorem j4.refl(H:Hp):j4 H H:=λ_ _ h=>h
theorem j4.trans{H H1 H2:Hp}(a:j4 H H1)(b:j4 H1 H2):j4 H H2:=λc o h=>b c o (a c o h)
theorem j4.free{H H':Hp}(e:j4 H H'){l:ak}(h:H' l=ah):H l=ah:=by
 cases q:H l with
 |none=>rfl
 |some o =>rw[e l o q]at h;cases h
theorem j4.seq{K:k70}{H H':Hp}{a:ak}{xs:List V}(e:j4 H H')(h:SqL K H a xs):SqL K H' a xs:=by
 rcases h with (h|⟨o,h⟩)|h
 .exact .inl (.inl (e _ _ h))
 .exact .inl (.inr ⟨o,e _ _ h⟩)
 .exact .inr h
set_option genInjectivity true in
inductive D where
 |non
 |bl (b:Bool)
 |int (i:Int)
 |str (x:ao)
 |tup (ds:List D)
 |lst (ds:List D)
 |dct (ks:List (List Int)) (ds:List D)
 |sct (kvs:List (ao×Int))
 |fn (x:ao) (cs:List D)
noncomputable def kvI(kvs:List (ao×Int)):List (Key×V):=kvs.map λp=>(.inr p.1,.int p.2)
noncomputable def za(x:ao):ao:=x ++ ".<locals>." ++ "<lambda>"
noncomputable abbrev Tx:=ip×au×bG
noncomputable def jk6:au->Option Tx
 |.Lambda a b sc _=>aa (a,b,sc)
 |.Call _ es _ _=>match es.getLast? with
  |some (.Lambda a b sc _)=>aa (a,b,sc)
  |_=>ah
 |_=>ah
noncomputable def jei(b:List aQ):Option Tx:=match b.getLast? with
 |some (.Return (aa e) _)=>jk6 e
 |_=>ah
noncomputable def j1x(K:k70)(x:ao):Option Tx:=match W.nsIn K aw x with
 |some (aa (.ref f))=>match K.lookup f with
  |some ⟨_,_,.func fd,_⟩=>match fd.body with
   |.stmts b=>jei b
   |_=>ah
  |_=>ah
 |_=>ah
noncomputable def Zx(sc:bG):List ao:=((sc.names.filter λp=>p.2==.free).map (·.1)).reverse
def zq(H:Hp):List ak->List V->Prop
 |[],vs=>vs=[]
 |c::cs,vs=>∃v r o u,vs=v::r/\H c=aa (.frz o (.own 0))/\o.data=.cell (aa u)/\RelV v u/\zq H cs r
theorem zq.mono{H H':Hp}(g:j4 H H'):∀{cs:List ak}{vs:List V},zq H cs vs->zq H' cs vs
 |[],_,h=>h
 |_::_,_,⟨v,r,o,u,e,h,d,rv,l⟩=>⟨v,r,o,u,e,g _ _ h,d,rv,l.mono g⟩
structure LamAt(K:k70)(H:Hp)(x:ao)(a c:ak)(t:Tx)(cl:List (ao×ak))(vs:List V):Prop where
 tx:j1x K x=aa t
 fo:∃pm ctv,H a=aa (.frz (W.kla_obj "<lambda>" (za x) t.1 t.2.1 t.2.2 cl pm c ctv) (.own 0))
 co:∃oc,H c=aa (.frz oc (.own 0))/\j2j oc (za x)
 nm:cl.map (·.1)=Zx t.2.2
 nd:(cl.map (·.2)).Nodup
 cs:zq H (cl.map (·.2)) vs
theorem LamAt.mono{K:k70}{H H':Hp}{x:ao}{a c:ak}{tx:Tx}{cl:List (ao×ak)}{vs:List V}(g:j4 H H')(h:LamAt K H x a c tx cl vs):LamAt K H' x a c tx cl vs :=
 ⟨h.tx,let ⟨pm,ctv,e⟩:=h.fo;⟨pm,ctv,g _ _ e⟩,let ⟨oc,e,q⟩:=h.co;⟨oc,g _ _ e,q⟩,h.nm,h.nd,h.cs.mono g⟩
noncomputable def del(H:Hp)(A:List ak):Hp:=λb=>if b∈A then ah else H b
section
variable{H H' F:Hp}{A A':List ak}{a b:ak}{o:HO}
theorem zf(h:b∈A):del H A b=ah:=if_pos h
theorem j6(h:b∉A):del H A b=H b:=if_neg h
theorem of_del(h:del H A b=aa o):b∉A/\H b=aa o:=by
 by_cases e:b∈A
 .rw[zf e]at h;cases h
 .rw[j6 e]at h;exact⟨e,h⟩
theorem jb(g:j4 H H'):j4 (del H A) (del H' A):=λb o h=>by obtain⟨n,e⟩:=of_del h;rw[j6 n];exact g b o e
end
theorem j4.seqT{K:k70}{H H':Hp}{a:ak}{xs:List V}(e:j4 H H')(h:SqT K H a xs):SqT K H' a xs:=by
 rcases h with (h|⟨o,h⟩)|h
 .exact .inl (.inl (e _ _ h))
 .exact .inl (.inr ⟨o,e _ _ h⟩)
 .exact .inr h
mutual
def Enc(K:k70)(H:Hp):D->V->Prop
 |.non,v=>v=.non
 |.bl b,v=>v=.bl b
 |.int i,v=>v=.int i
 |.str x,v=>v=.str x
 |.tup ds,v=>∃a xs,v=.ref a/\SqT K H a xs/\j5 K H ds xs
 |.lst ds,v=>∃a xs,v=.ref a/\SqL K H a xs/\j5 K H ds xs
 |.dct ks ds,v=>∃(a:ak)(xs:List (List Int×ak×aj)) (ep:Nat) (vs:List V),v=.ref a/\H a=aa (.dI xs ep)/\ks=(xs.map λx=>x.1)/\(∀x∈xs,SqT K H x.2.1 (x.1.map V.int))/\Vals vs (xs.map λx=>x.2.2)/\j5 K H ds vs
 |.sct kvs,v=>∃a:ak,v=.ref a/\H a=aa (.dK (kvI kvs))
 |.fn x ds,v=>∃(a c:ak)(tx:Tx)(cl:List (ao×ak)) (vs:List V),v=.ref a/\LamAt K H x a c tx cl vs/\j5 K (del H (cl.map (·.2))) ds vs
def j5(K:k70)(H:Hp):List D->List V->Prop
 |[],xs=>xs=[]
 |d::ds,xs=>∃x r,xs=x::r/\Enc K H d x/\j5 K H ds r
end
mutual
theorem Enc.mono{K:k70}{H H':Hp}(g:j4 H H'):∀{d:D}{v:V},Enc K H d v->Enc K H' d v
 |.non,_,h=>h
 |.bl _,_,h=>h
 |.int _,_,h=>h
 |.str _,_,h=>h
 |.tup _,_,⟨a,xs,e,q,l⟩=>⟨a,xs,e,g.seqT q,j5.mono g l⟩
 |.lst _,_,⟨a,xs,e,q,l⟩=>⟨a,xs,e,g.seq q,j5.mono g l⟩
 |.dct _ _,_,⟨a,xs,ep,vs,e,q,ek,kt,rv,l⟩=>⟨a,xs,ep,vs,e,g _ _ q,ek,λx hx=>g.seqT (kt x hx),rv,j5.mono g l⟩
 |.sct _,_,⟨a,e,q⟩=>⟨a,e,g _ _ q⟩
 |.fn _ _,_,⟨a,c,tx,cl,vs,e,q,l⟩=>⟨a,c,tx,cl,vs,e,q.mono g,j5.mono (jb g) l⟩
theorem j5.mono{K:k70}{H H':Hp}(g:j4 H H'):∀{ds:List D}{xs:List V},j5 K H ds xs->j5 K H' ds xs
 |[],_,h=>h
 |_::_,_,⟨x,r,e,h,l⟩=>⟨x,r,e,Enc.mono g h,j5.mono g l⟩
end
section
variable{K:k70}{H H':Hp}{ds ds':List D}{xs ys:List V}
theorem j5.length:∀{ds:List D}{xs:List V},j5 K H ds xs->xs.length=ds.length
 |[],_,h=>by cases h;rfl
 |_::_,_,⟨x,r,e,_,l⟩=>by subst e;simp[j5.length l]
theorem j5.get:∀{ds:List D}{xs:List V}{i:Nat}{d:D},j5 K H ds xs->ds[i]?=aa d->∃x,xs[i]?=aa x/\Enc K H d x
 |[],_,i,d,_,e=>by simp at e
 |_::_,_,0,d,⟨x,r,e,h,_⟩,q=>by subst e;simp at q;subst q;exact⟨x,rfl,h⟩
 |_::_,_,i+1,d,⟨x,r,e,_,l⟩,q=>by subst e;simp at q;obtain⟨y,hy,hd⟩:=j5.get l q;exact⟨y,by simpa using hy,hd⟩
theorem j5.append:∀{ds ds':List D}{xs ys:List V},j5 K H ds xs->j5 K H ds' ys->j5 K H (ds++ds') (xs++ys)
 |[],_,_,_,h,h'=>by cases h;exact h'
 |_::_,_,_,_,⟨x,r,e,h,l⟩,h'=>by subst e;exact⟨x,_,rfl,h,j5.append l h'⟩
theorem j5.one{d:D}{x:V}(h:Enc K H d x):j5 K H [d] [x]:=⟨x,[],rfl,h,rfl⟩
theorem j5.set:∀{ds:List D}{xs:List V}{i:Nat}{d:D}{x:V},j5 K H ds xs->Enc K H d x->j5 K H (ds.set i d) (xs.set i x)
 |[],_,i,d,x,h,_=>by cases h;exact rfl
 |_::_,_,0,d,y,⟨x,r,e,h,l⟩,q=>by subst e;exact⟨y,r,rfl,q,l⟩
 |_::_,_,i+1,d,y,⟨x,r,e,h,l⟩,q=>by subst e;exact⟨x,_,rfl,h,j5.set l q⟩
theorem j5.take:∀{ds:List D}{xs:List V}(n:Nat),j5 K H ds xs->j5 K H (ds.take n) (xs.take n)
 |[],_,n,h=>by cases h;simp;exact rfl
 |_::_,_,0,⟨x,r,e,h,l⟩=>by simp;exact rfl
 |_::_,_,n+1,⟨x,r,e,h,l⟩=>by subst e;exact⟨x,_,rfl,h,j5.take n l⟩
theorem j5.drop:∀{ds:List D}{xs:List V}(n:Nat),j5 K H ds xs->j5 K H (ds.drop n) (xs.drop n)
 |[],_,n,h=>by cases h;simp;exact rfl
 |_::_,_,0,h=>h
 |_::_,_,n+1,⟨x,r,e,h,l⟩=>by subst e;exact j5.drop n l
theorem j5.rep{ds:List D}{xs:List V}(h:j5 K H ds xs):∀k:Nat,j5 K H (az k ds).flatten (az k xs).flatten
 |0=>rfl
 |k+1=>by rw[Pj,Pj,T9,T9];exact h.append (j5.rep h k)
theorem j5.ints(ns:List Int):j5 K H (ns.map D.int) (ns.map V.int):=by
 induction ns with
 |nil=>exact rfl
 |cons n ns ih=>exact⟨_,_,rfl,rfl,ih⟩
end
section
variable{H H' F:Hp}{A A':List ak}{a b:ak}{o:HO}
theorem J6:del H []=H:=funext λb=>if_neg (by simp)
theorem ji:j4 (del H A) H:=λ_ _ h=>(of_del h).2
theorem zb(h:∀b,b∈A'->b∈A):j4 (del H A) (del H A'):=λb o e=>by obtain⟨n,e⟩:=of_del e;rw[j6 λz=>n (h b z)];exact e
theorem Zf(h:a∈A):del (upd H a o) A=del H A:=funext λb=>by
 by_cases e:b∈A
 .rw[zf e,zf e]
 .rw[j6 e,j6 e,jf];rintro rfl;exact e h
noncomputable def mrg(A:List ak)(H F:Hp):Hp:=λb=>if b∈A then H b else F b
theorem J8(h:b∈A):mrg A H F b=H b:=if_pos h
theorem jl(h:b∉A):mrg A H F b=F b:=if_neg h
theorem Qx(h:∀a∈A,F a=ah):del (mrg A H F) A=F:=funext λb=>by
 by_cases e:b∈A
 .rw[zf e,h b e]
 .rw[j6 e,jl e]
theorem Ma(g:j4 (del H A) F):j4 H (mrg A H F):=λb o e=>by
 by_cases z:b∈A
 .rw[J8 z];exact e
 .rw[jl z];exact g b o (by rw[j6 z];exact e)
theorem j8(h:H a=ah):j4 H (upd H a o):=λb u q=>by rw[jf (qw q h)];exact q
end
def Hd(o:Option HO):Prop:=(∃xs,o=aa (.lst xs))\/∃xs ep,o=aa (.dI xs ep)
section
variable{X:Cx}{pins:k72}{σ σ':St}{H F:Hp}{s s':aq}{A:List ak}
theorem Inv.noFs(I:Inv X pins σ H s){b:ak}(hb:b∈X.fs):H b=ah:=by
 have q:b∈frs X.stack:=by
  rcases I.ok.stk with e|⟨e,_⟩
  .rw[e];exact hb
  .rw[e];have hb:b∈frs X.outer:=hb;unfold frs at hb ⊢;rw[cB];split
   .exact hb
   .exact km _ hb
 exact I.stkFree b q
theorem Inv.hide(I:Inv X pins σ H s)(hA:∀a∈A,Hd (H a)):Inv X (pins++Vr A s.heap) σ (del H A) s where
 ok:=I.ok
 os:=I.os
 bare:=I.bare
 base:={
  keep:=I.base.keep
  slot:=I.base.slot
  free:=λb o e n hx=>by
   have q:=I.base.free b o e n hx
   by_cases z:b∈A
   .exact zf z
   .rw[j6 z];exact q
  there:=I.base.there
  tups:=λb xs e=>by
   have q:=I.base.tups b xs e
   rw[j6];exact q
   intro z;rcases hA b z with ⟨ys,e'⟩|⟨ys,ep,e'⟩<;>(rw[q]at e';cases e')
  frzs:=λb o u e=>by
   have q:=I.base.frzs b o u e
   rw[j6];exact q
   intro z;rcases hA b z with ⟨ys,e'⟩|⟨ys,ep,e'⟩<;>(rw[q]at e';cases e')
  tbls:=λb ps e=>by
   obtain⟨more,q⟩:=I.base.tbls b ps e
   refine⟨more,?_⟩
   rw[j6];exact q
   intro z;rcases hA b z with ⟨ys,e'⟩|⟨ys,ep,e'⟩<;>(rw[q]at e';cases e') }
 loc:=I.loc
 cell:=I.cell
 free:=by
  by_cases z:X.env.locals∈A
  .exact zf z
  .rw[j6 z];exact I.free
 freeC:=λx c e=>by
  by_cases z:c∈A
  .exact zf z
  .rw[j6 z];exact I.freeC x c e
 pin:=λp hp=>by
  rw[<-P0]at hp;rcases Ph.mp hp with hp|hp
  .obtain⟨h1,h2,h3⟩:=I.pin p hp;refine⟨h1,?_,h3⟩;by_cases z:p.1∈A
   .exact zf z
   .rw[j6 z];exact h2
  .obtain⟨h1,h2⟩:=Fo hp;rcases hA _ h1 with ⟨xs,e⟩|⟨xs,ep,e⟩
   .refine⟨h2,zf h1,λz=>?_,λz=>?_,λv z=>?_⟩
    .rw[z,I.free]at e;cases e
    .rw[I.noFs z]at e;cases e
    .obtain⟨_,its,n,_,q⟩:=(show jm X.prog X.w H s.heap p.1 (.lst xs)from I.hok _ _ e)
     rw[h2]at q;rw[aC q]at z;cases z
   .refine⟨h2,zf h1,λz=>?_,λz=>?_,λv z=>?_⟩
    .rw[z,I.free]at e;cases e
    .rw[I.noFs z]at e;cases e
    .obtain⟨_,_,_,ob,es,q,_,qd,_⟩:=(show jm X.prog X.w H s.heap p.1 (.dI xs ep)from I.hok _ _ e)
     rw[h2]at q;rw[aC q,qd]at z;cases z
 hok:=λa o e=>by
  obtain⟨n,e⟩:=of_del e;refine jm.stay (I.hok a o e) (λb u _ q=>q) (λb q=>?_) (λb xs q=>?_) (λb _ _ q=>?_)
  .rw[j6];exact q;intro z;rcases hA b z with ⟨ys,e'⟩|⟨ys,ep,e'⟩<;>(rw[q]at e';cases e')
  .rw[j6];exact q;intro z;rcases hA b z with ⟨ys,e'⟩|⟨ys,ep,e'⟩<;>(rw[q]at e';cases e')
  .rw[j6];exact q;intro z;rcases hA b z with ⟨ys,e'⟩|⟨ys,ep,e'⟩<;>(rw[q]at e';cases e')
 len:=I.len
theorem Inv.unhide(I0:Inv X pins σ H s)(hA:∀a∈A,Hd (H a))(I:Inv X (pins++Vr A s.heap) σ' F s') :
  (∀a∈A,F a=ah)/\Inv X pins σ' (mrg A H F) s':=by
 have pinned:∀a∈A,∃o,s.heap.get? a=aa o/\s'.heap.get? a=aa o/\F a=ah:=λa ha=>by
  have ob:∃o,s.heap.get? a=aa o:=by
   rcases hA a ha with ⟨xs,e⟩|⟨xs,ep,e⟩
   .obtain⟨_,its,n,_,q⟩:=(show jm X.prog X.w H s.heap a (.lst xs)from I0.hok _ _ e)
    exact⟨_,q⟩
   .obtain⟨_,_,_,o,es,q,_⟩:=(show jm X.prog X.w H s.heap a (.dI xs ep)from I0.hok _ _ e)
    exact⟨_,q⟩
  obtain⟨o,q⟩:=ob;obtain⟨h1,h2,_⟩:=I.pin (a,_) (Xi _ (Xi _ (Z1 ha q)));exact⟨_,q,h1,h2⟩
 have hF:∀a∈A,F a=ah:=λa ha=>let ⟨_,_,_,q⟩:=pinned a ha;q;have out:∀{b:ak}{o:HO},F b=aa o->b∉A:=λ{b o} e z=>by rw[hF b z]at e;cases e
 refine⟨hF,?_⟩;exact{
  ok:=I.ok
  os:=I.os
  bare:=I.bare
  base:={
   keep:=I.base.keep
   slot:=I.base.slot
   free:=λb o e n hx=>by
    by_cases z:b∈A
    .rw[J8 z];exact I0.base.free b o e n hx
    .rw[jl z];exact I.base.free b o e n hx
   there:=I.base.there
   tups:=λb xs e=>by
    have q:=I.base.tups b xs e
    rw[jl (out q)];exact q
   frzs:=λb o u e=>by
    have q:=I.base.frzs b o u e
    rw[jl (out q)];exact q
   tbls:=λb ps e=>by
    obtain⟨more,q⟩:=I.base.tbls b ps e
    exact⟨more,by rw[jl (out q)];exact q⟩ }
  loc:=I.loc
  cell:=I.cell
  free:=by
   by_cases z:X.env.locals∈A
   .rw[J8 z];exact I0.free
   .rw[jl z];exact I.free
  freeC:=λx c e=>by
   by_cases z:c∈A
   .rw[J8 z];exact I0.freeC x c e
   .rw[jl z];exact I.freeC x c e
  pin:=λp hp=>by
   obtain⟨h1,h2,h3⟩:=I.pin p (by rw[<-P0];exact cY _ hp)
   refine⟨h1,?_,h3⟩
   by_cases z:p.1∈A
   .rw[J8 z];exact(I0.pin p hp).2.1
   .rw[jl z];exact h2
  hok:=λa o e=>by
   by_cases z:a∈A
   .rw[J8 z]at e
    obtain⟨o',q1,q2,_⟩:=pinned a z
    rcases hA a z with ⟨xs,e'⟩|⟨xs,ep,e'⟩
    .rw[e']at e;cases e
     obtain⟨hl,its,n,r,q⟩:=(show jm X.prog X.w H s.heap a (.lst xs)from I0.hok _ _ e')
     rw[q]at q1;cases q1
     exact⟨hl,its,n,r,q2⟩
    .rw[e']at e;cases e
     obtain⟨z1,z2,z3,ob,es,q,z4⟩:=(show jm X.prog X.w H s.heap a (.dI xs ep)from I0.hok _ _ e')
     rw[q]at q1;cases q1
     exact⟨z1,z2,z3,_,es,q2,z4⟩
   .rw[jl z]at e
    refine jm.stay (I.hok a o e) (λb u _ q=>q) (λb q=>?_) (λb xs q=>?_) (λb _ _ q=>?_)
    .rw[jl (out q)];exact q
    .rw[jl (out q)];exact q
    .rw[jl (out q)];exact q
  len:=I.len }
end
def Jv(X:Cx)(e:au):TE:=λσ H Q=>∀pins s,Inv X pins σ H s->ax (aA X.prog X.w) X.A (aB e X.env) (EP X pins σ Q) X.xe s
def j62(X:Cx)(e:au):TT:=λσ H Q=>∀pins s,Inv X pins σ H s->ax (aA X.prog X.w) X.A (eX e X.env (aB e X.env)) (TP X pins σ Q) X.xe s
def W4(X:Cx)(es:List au):TA:=λσ H Q=>∀pos pins s,Inv X pins σ H s->ax (aA X.prog X.w) X.A (g4 (aP pos (ai es X.env))) (AP X pins σ Q) X.xe s
def j63(X:Cx)(st:aQ):TS:=λD σ H=>∀pins s,Inv X pins σ H s->ax (aA X.prog X.w) X.A (exec st X.env) (SP X pins D) X.xe s
def Zr(X:Cx)(sts:List aQ):TS:=λD σ H=>∀pins s,Inv X pins σ H s->ax (aA X.prog X.w) X.A (execs sts X.env) (SP X pins D) X.xe s
def j64(X:Cx)(tg iter:au):TI:=λσ H R=>∀pins s,Inv X pins σ H s ->
 ax (aA X.prog X.w) X.A (aB iter X.env) (λv s1=>ax (aA X.prog X.w) X.A (iJ v) (PIE X pins σ tg R) X.xe s1) X.xe s
section
variable{X:Cx}{e tg:au}{es:List au}{st:aQ}{sts:List aQ}{σ:St}{H:Hp}
theorem peS:PE X e (Jv X e):=λpins s _ _ _ I h=>h pins s I
theorem ptS:PT X e (j62 X e):=λpins s _ _ _ I h=>h pins s I
theorem paS:PA X es (W4 X es):=λpos pins s _ _ _ I h=>h pos pins s I
theorem psS:PS X st (j63 X st):=λpins s _ _ _ I h=>h pins s I
theorem zr:PSs X sts (Zr X sts):=λpins s _ _ _ I h=>h pins s I
theorem piS:PI X tg e (j64 X tg e):=λpins s _ _ _ I h=>h pins s I
theorem PE.to{t:TE}(h:PE X e t){Q:VK}(q:t σ H Q):Jv X e σ H Q:=λpins s I=>h pins s σ H Q I q
theorem PT.to{t:TT}(h:PT X e t){Q:Bool->Hp->Prop}(q:t σ H Q):j62 X e σ H Q:=λpins s I=>h pins s σ H Q I q
theorem PA.to{t:TA}(h:PA X es t){Q:List V->Hp->Prop}(q:t σ H Q):W4 X es σ H Q:=λpos pins s I=>h pos pins s σ H Q I q
theorem PS.to{t:TS}(h:PS X st t){D:Ends}(q:t D σ H):j63 X st D σ H:=λpins s I=>h pins s σ H D I q
theorem PSs.to{t:TS}(h:PSs X sts t){D:Ends}(q:t D σ H):Zr X sts D σ H:=λpins s I=>h pins s σ H D I q
theorem PI.to{t:TI}(h:PI X tg e t){R:It->Hp->Prop}(q:t σ H R):j64 X tg e σ H R:=λpins s I=>h pins s σ H R I q
end
inductive Sl where
 |un
 |val (d:D)
 |own (a:ak) (ds:List D)
 |raw (a:ak) (o:dm) (x:ao)
noncomputable abbrev Rho:=List Sl
noncomputable def Sl.addr:Sl->Option ak
 |.own a _=>aa a
 |_=>ah
noncomputable def owns(ρ:Rho):List ak:=ρ.filterMap Sl.addr
theorem Jd{ρ:Rho}{i:Nat}{a:ak}{ds:List D}(h:ρ[i]?=aa (.own a ds)):a∈owns ρ:=Pq.mpr ⟨_,Xn h,rfl⟩
theorem Zu{ρ:Rho}{a:ak}(h:a∈owns ρ):∃(i:Nat)(ds:List D),ρ[i]?=aa (.own a ds):=by
 obtain⟨s,hs,e⟩:=Pq.mp h;obtain⟨i,hi⟩:=List.mem_iff_getElem?.mp hs;cases s with
 |own b ds=>cases e;exact⟨i,ds,hi⟩
 |un=>cases e
 |val d=>cases e
 |raw b o x=>cases e
theorem jq(s:Sl)(ρ:Rho):owns (s::ρ)=(match s.addr with|some a=>a::owns ρ|none=>owns ρ):=by unfold owns;rw[cB];cases s.addr<;>rfl
theorem jd{s:Sl}(hs:s.addr=ah):∀{ρ:Rho}{i:Nat},(owns (ρ.set i s)).Sublist (owns ρ)
 |[],_=>List.Sublist.refl _
 |x::r,0=>by
  rw[cH,jq,jq,hs];cases x.addr with
  |none=>exact List.Sublist.refl _
  |some a=>exact List.sublist_cons_self _ _
 |x::r,i+1=>by
  rw[dn,jq,jq];have ih:=jd hs (ρ:=r) (i:=i);cases x.addr with
  |none=>exact ih
  |some a=>exact ih.cons_cons a
theorem Js{a:ak}{ds ds':List D}:∀{ρ:Rho}{i:Nat},ρ[i]?=aa (.own a ds)->owns (ρ.set i (.own a ds'))=owns ρ
 |[],_,h=>by simp at h
 |x::r,0,h=>by simp at h;subst h;rw[cH,jq,jq];rfl
 |x::r,i+1,h=>by simp at h;rw[dn,jq,jq,Js h]
theorem Ru{s:Sl}(hs:s.addr=ah):∀{ρ:Rho}{i:Nat},(∀a l,ρ[i]?≠aa (.own a l))->owns (ρ.set i s)=owns ρ
 |[],_,_=>rfl
 |x::r,0,h=>by
  rw[cH,jq,jq,hs];cases x with
  |own a l=>exact absurd rfl (h a l)
  |un=>rfl
  |val d=>rfl
  |raw a o x=>rfl
 |x::r,i+1,h=>by rw[dn,jq,jq,Ru hs (λa l=>by simpa using h a l)]
theorem Jj{a:ak}{ds:List D}:∀{ρ:Rho}{i:Nat},(owns ρ).Nodup->a∉owns ρ->(owns (ρ.set i (.own a ds))).Nodup/\∀b∈owns (ρ.set i (.own a ds)),b=a\/b∈owns ρ
 |[],_,n,_=>⟨n,λb hb=>.inr hb⟩
 |x::r,0,n,h=>by
  rw[cH,jq];rw[jq]at n h;have e:(Sl.own a ds).addr=aa a:=rfl;rw[e];cases q:x.addr with
  |none =>rw[q]at n h;exact⟨Xg.mpr ⟨h,n⟩,λb hb=>(xn.mp hb).elim .inl λz=>.inr (by rw[jq,q];exact z)⟩
  |some c =>rw[q]at n h;exact⟨Xg.mpr ⟨λz=>h (km _ z),(Xg.mp n).2⟩,λb hb=>(xn.mp hb).elim .inl λz=>.inr (by rw[jq,q];exact km _ z)⟩
 |x::r,i+1,n,h=>by
  rw[dn,jq];rw[jq]at n h;cases q:x.addr with
  |none =>rw[q]at n h;obtain⟨i1,i2⟩:=Jj (ds:=ds) (i:=i) n h;exact⟨i1,λb hb=>(i2 b hb).elim .inl λz=>.inr (by rw[jq,q];exact z)⟩
  |some c =>
   rw[q]at n h;obtain⟨n1,n2⟩:=Xg.mp n;obtain⟨i1,i2⟩:=Jj (ds:=ds) (i:=i) n2 (λz=>h (km _ z));refine⟨Xg.mpr ⟨λz=>?_,i1⟩,λb hb=>?_⟩
   .rcases i2 c z with e|z
    .subst e;exact h (xm ..)
    .exact n1 z
   .rcases xn.mp hb with e|z
    .exact .inr (by rw[jq,q];exact e▸xm ..)
    .exact(i2 b z).elim .inl λz=>.inr (by rw[jq,q];exact km _ z)
theorem Vt{a:ak}{l l':List D}:∀{ρ:Rho}{i j:Nat},(owns ρ).Nodup->ρ[i]?=aa (.own a l)->ρ[j]?=aa (.own a l')->i=j
 |[],i,_,_,h,_=>by simp at h
 |x::r,0,0,_,_,_=>rfl
 |x::r,0,j+1,n,h,h'=>by simp at h h';subst h;rw[jq]at n;exact absurd (Jd h') (Xg.mp n).1
 |x::r,i+1,0,n,h,h'=>by simp at h h';subst h';rw[jq]at n;exact absurd (Jd h) (Xg.mp n).1
 |x::r,i+1,j+1,n,h,h'=>by
  simp at h h';have n':(owns r).Nodup:=by
   rw[jq]at n;cases q:x.addr with
   |none=>rw[q]at n;exact n
   |some c=>rw[q]at n;exact(Xg.mp n).2
  rw[Vt n' h h']
noncomputable def V7:List ao:=["worst_cost_of_ask","least_numbers","whole_cost_of_ask","round_numbers"]
def TabOk(K:k70)(H:Hp):Prop:=∀x∈V7,∀c P,W.tabIn K x=aa (c,P)->H P=aa (.cod (za x))
section
variable{K:k70}{H H':Hp}
theorem TabOk.mono(h:TabOk K H)(g:j4 H H'):TabOk K H':=λx hx c P e=>g _ _ (h x hx c P e)
theorem TabOk.upd{a:ak}{o u:HO}(h:TabOk K H)(e:H a=aa u)(n:∀q,u≠.cod q):TabOk K (upd H a o):=λx hx c P z=>by have q:=h x hx c P z;rw[jf];exact q;intro y;subst y;rw[e]at q;exact n _ (aC q)
theorem TabOk.del{A:List ak}(h:TabOk K H)(hA:∀a∈A,∃xs,H a=aa (.lst xs)):TabOk K (del H A):=λx hx c P z=>by have q:=h x hx c P z;rw[j6];exact q;intro y;obtain⟨xs,e⟩:=hA _ y;rw[q]at e;cases e
end
noncomputable def rfN:ao:="@"
def Cv(K:k70)(F:Hp)(a:ak)(o:dm)(x:ao):Prop:=x=rfN\/(F a=aa (.frz o (.own a))/\W.nsIn K aw x=aa (aa o.cls))
theorem Cv.mono{K:k70}{F F':Hp}{a:ak}{o:dm}{x:ao}(h:Cv K F a o x)(g:j4 F F'):Cv K F' a o x:=h.elim .inl λh=>.inr ⟨g _ _ h.1,h.2⟩
structure Rep(K:k70)(ρ:Rho)(σ:St)(H:Hp):Prop where
 len:σ.length=ρ.length
 val:∀(i:Nat)(d:D),ρ[i]?=aa (.val d)->∃v,σ[i]?=aa (aa v)/\Enc K (del H (owns ρ)) d v
 own:∀(i:Nat)(a:ak)(ds:List D),ρ[i]?=aa (.own a ds)->σ[i]?=aa (aa (.ref a))/\∃xs,H a=aa (.lst xs)/\j5 K (del H (owns ρ)) ds xs
 nd:(owns ρ).Nodup
 raw:∀(i:Nat)(a:ak)(o:dm)(x:ao),ρ[i]?=aa (.raw a o x)->σ[i]?=aa (aa (.ref a))/\Cv K (del H (owns ρ)) a o x
 tb:TabOk K H
section
variable{K:k70}{ρ ρ':Rho}{σ:St}{H H':Hp}{i:Nat}{d:D}{v:V}{a:ak}{ds ds':List D}{xs:List V}
theorem Rep.owned(R:Rep K ρ σ H):∀a∈owns ρ,∃xs,H a=aa (.lst xs):=λa h=>by obtain⟨i,ds,e⟩:=Zu h;obtain⟨_,xs,q,_⟩:=R.own i a ds e;exact⟨xs,q⟩
theorem Rep.fresh(R:Rep K ρ σ H)(h:H a=ah):a∉owns ρ:=λz=>by obtain⟨xs,e⟩:=R.owned a z;rw[h]at e;cases e
theorem Rep.grow(R:Rep K ρ σ H)(g:j4 H H'):Rep K ρ σ H' :=
 ⟨R.len,λi d e=>let ⟨v,q,h⟩:=R.val i d e;⟨v,q,h.mono (jb g)⟩,λi a ds e=>let ⟨q,xs,h,l⟩:=R.own i a ds e;⟨q,xs,g _ _ h,l.mono (jb g)⟩,R.nd,λi a o x e=>let ⟨q,h⟩:=R.raw i a o x e;⟨q,h.mono (jb g)⟩,R.tb.mono g⟩
theorem getElem?_set_of{α:Type}{l:List α}{i j:Nat}{x y:α}(h:(l.set i x)[j]?=aa y):(i=j/\y=x/\i<l.length)\/(i≠j/\l[j]?=aa y):=by
 rw[dG]at h;split at h
 .rename_i e;subst e;split at h
  .rename_i z;cases h;exact .inl ⟨rfl,rfl,z⟩
  .cases h
 .rename_i e;exact .inr ⟨e,h⟩
theorem Vp{α:Type}{l:List α}{i:Nat}{x:α}(h:i<l.length):(l.set i x)[i]?=aa x:=by simp[h]
theorem zm{α:Type}{l:List α}{i j:Nat}{x:α}(h:i≠j):(l.set i x)[j]?=l[j]?:=by simp[h]
theorem Rep.set_val(R:Rep K ρ σ H)(e:Enc K (del H (owns ρ)) d v):Rep K (ρ.set i (.val d)) (σ.set i (aa v)) H:=by
 have sub:(owns (ρ.set i (.val d))).Sublist (owns ρ):=jd rfl;have g:j4 (del H (owns ρ)) (del H (owns (ρ.set i (.val d)))):=zb λb hb=>sub.subset hb;refine⟨by simp[R.len],λj d' h=>?_,λj a ds h=>?_,sub.nodup R.nd,λj a o x h=>?_,R.tb⟩
 .rcases getElem?_set_of h with ⟨rfl,z,hl⟩|⟨n,h⟩
  .cases z;exact⟨v,Vp (by rw[R.len];exact hl),e.mono g⟩
  .obtain⟨u,q,h⟩:=R.val j d' h;exact⟨u,by rw[zm n];exact q,h.mono g⟩
 .rcases getElem?_set_of h with ⟨rfl,z,_⟩|⟨n,h⟩
  .cases z
  .obtain⟨q,xs,h,l⟩:=R.own j a ds h;exact⟨by rw[zm n];exact q,xs,h,l.mono g⟩
 .rcases getElem?_set_of h with ⟨rfl,z,_⟩|⟨n,h⟩
  .cases z
  .obtain⟨q,h⟩:=R.raw j a o x h;exact⟨by rw[zm n];exact q,h.mono g⟩
theorem Rep.set_un{v:Option V}(R:Rep K ρ σ H):Rep K (ρ.set i .un) (σ.set i v) H:=by
 have sub:(owns (ρ.set i .un)).Sublist (owns ρ):=jd rfl;have g:j4 (del H (owns ρ)) (del H (owns (ρ.set i .un))):=zb λb hb=>sub.subset hb;refine⟨by simp[R.len],λj d' h=>?_,λj a ds h=>?_,sub.nodup R.nd,λj a o x h=>?_,R.tb⟩
 .rcases getElem?_set_of h with ⟨rfl,z,hl⟩|⟨n,h⟩
  .cases z
  .obtain⟨u,q,h⟩:=R.val j d' h;exact⟨u,by rw[zm n];exact q,h.mono g⟩
 .rcases getElem?_set_of h with ⟨rfl,z,_⟩|⟨n,h⟩
  .cases z
  .obtain⟨q,xs,h,l⟩:=R.own j a ds h;exact⟨by rw[zm n];exact q,xs,h,l.mono g⟩
 .rcases getElem?_set_of h with ⟨rfl,z,_⟩|⟨n,h⟩
  .cases z
  .obtain⟨q,h⟩:=R.raw j a o x h;exact⟨by rw[zm n];exact q,h.mono g⟩
theorem Rep.set_own(R:Rep K ρ σ H)(g:j4 H H')(ha:H a=ah)(e:H' a=aa (.lst xs))(l:j5 K (del H' (a::owns ρ)) ds xs):Rep K (ρ.set i (.own a ds)) (σ.set i (aa (.ref a))) H':=by
 have na:=R.fresh ha;obtain⟨nd,sub⟩:=Jj (ds:=ds) (i:=i) R.nd na;have g1:j4 (del H' (a::owns ρ)) (del H' (owns (ρ.set i (.own a ds)))):=zb λb hb=>by
  rcases sub b hb with e|z
  .exact e▸xm ..
  .exact km _ z
 have g2:j4 (del H (owns ρ)) (del H' (a::owns ρ)):=λb o q=>by
  obtain⟨n,q⟩:=of_del q;rw[j6];exact g b o q;intro z;rcases xn.mp z with e|z
  .subst e;rw[ha]at q;cases q
  .exact n z
 refine⟨by simp[R.len],λj d' h=>?_,λj b ds' h=>?_,nd,λj b o x h=>?_,R.tb.mono g⟩
 .rcases getElem?_set_of h with ⟨rfl,z,hl⟩|⟨n,h⟩
  .cases z
  .obtain⟨u,q,h⟩:=R.val j d' h;exact⟨u,by rw[zm n];exact q,h.mono (g2.trans g1)⟩
 .rcases getElem?_set_of h with ⟨rfl,z,hl⟩|⟨n,h⟩
  .cases z;exact⟨Vp (by rw[R.len];exact hl),xs,e,l.mono g1⟩
  .obtain⟨q,ys,h,l⟩:=R.own j b ds' h;exact⟨by rw[zm n];exact q,ys,g _ _ h,l.mono (g2.trans g1)⟩
 .rcases getElem?_set_of h with ⟨rfl,z,hl⟩|⟨n,h⟩
  .cases z
  .obtain⟨q,h⟩:=R.raw j b o x h;exact⟨by rw[zm n];exact q,h.mono (g2.trans g1)⟩
theorem Rep.upd_own(R:Rep K ρ σ H)(h:ρ[i]?=aa (.own a ds))(l:j5 K (del H (owns ρ)) ds' xs):Rep K (ρ.set i (.own a ds')) σ (upd H a (.lst xs)):=by
 have eo:owns (ρ.set i (.own a ds'))=owns ρ:=Js h;have ed:del (upd H a (.lst xs)) (owns ρ)=del H (owns ρ):=Zf (Jd h);refine⟨by simp[R.len],λj d' q=>?_,λj b l' q=>?_,by rw[eo];exact R.nd,λj b o x q=>?_,let ⟨_,_,z,_⟩:=R.own i a ds h;R.tb.upd z λ_ y=>by cases y⟩
 .rw[eo,ed];rcases getElem?_set_of q with ⟨_,z,_⟩|⟨n,q⟩
  .cases z
  .exact R.val j d' q
 .rw[eo,ed];rcases getElem?_set_of q with ⟨rfl,z,_⟩|⟨n,q'⟩
  .cases z;exact⟨(R.own i a ds h).1,xs,jr,l⟩
  .obtain⟨z,ys,y,l''⟩:=R.own j b l' q';refine⟨z,ys,?_,l''⟩;have nb:b≠a:=λe=>n (Vt R.nd h (e▸q'));rw[jf nb];exact y
 .rw[eo,ed];rcases getElem?_set_of q with ⟨_,z,_⟩|⟨n,q⟩
  .cases z
  .exact R.raw j b o x q
theorem Rep.freeze(R:Rep K ρ σ H)(h:ρ[i]?=aa (.own a ds)):Rep K (ρ.set i (.val (.lst ds))) σ H:=by
 obtain⟨hs,xs,hx,l⟩:=R.own i a ds h;have sub:(owns (ρ.set i (.val (.lst ds)))).Sublist (owns ρ):=jd rfl;have g:j4 (del H (owns ρ)) (del H (owns (ρ.set i (.val (.lst ds))))):=zb λb hb=>sub.subset hb;have na:a∉owns (ρ.set i (.val (.lst ds))):=λz=>by
  obtain⟨j,l',q⟩:=Zu z;rcases getElem?_set_of q with ⟨_,z,_⟩|⟨n,q⟩
  .cases z
  .exact n (Vt R.nd h q)
 refine⟨by simp[R.len],λj d' q=>?_,λj b l' q=>?_,sub.nodup R.nd,λj b o x q=>?_,R.tb⟩
 .rcases getElem?_set_of q with ⟨rfl,z,_⟩|⟨n,q⟩
  .cases z;exact⟨_,hs,a,xs,rfl,.inl (.inl (by rw[j6 na];exact hx)),l.mono g⟩
  .obtain⟨u,q,h⟩:=R.val j d' q;exact⟨u,q,h.mono g⟩
 .rcases getElem?_set_of q with ⟨rfl,z,_⟩|⟨n,q⟩
  .cases z
  .obtain⟨q,ys,h,l⟩:=R.own j b l' q;exact⟨q,ys,h,l.mono g⟩
 .rcases getElem?_set_of q with ⟨_,z,_⟩|⟨n,q⟩
  .cases z
  .obtain⟨q,h⟩:=R.raw j b o x q;exact⟨q,h.mono g⟩
end
def DE(X:Cx)(ρ:Rho)(e:au)(d:D):Prop:=∀σ H Q,Rep X.K ρ σ H->(∀v H',j4 H H'->Enc X.K (del H' (owns ρ)) d v->Q v H')->Jv X e σ H Q
def DT(X:Cx)(ρ:Rho)(e:au)(d:D):Prop:=∀σ H Q,Rep X.K ρ σ H->(∀v H',j4 H H'->Enc X.K H' d v->Q v H')->Jv X e σ H Q
def DO(X:Cx)(ρ:Rho)(e:au)(ds:List D):Prop:=∀σ H Q,Rep X.K ρ σ H->(∀a xs H',j4 H H'->H a=ah->H' a=aa (.lst xs)->j5 X.K (del H' (a::owns ρ)) ds xs->Q (.ref a) H')->Jv X e σ H Q
def DL(X:Cx)(ρ:Rho)(e:au)(ds:List D):Prop:=∀σ H Q,Rep X.K ρ σ H->(∀a xs H',j4 H H'->H' a=aa (.lst xs)->j5 X.K (del H' (owns ρ)) ds xs->Q (.ref a) H')->Jv X e σ H Q
def DB(X:Cx)(ρ:Rho)(e:au)(b:Bool):Prop:=∀σ H Q,Rep X.K ρ σ H->(∀H',j4 H H'->Q b H')->j62 X e σ H Q
def DA(X:Cx)(ρ:Rho)(es:List au)(ds:List D):Prop:=∀σ H Q,Rep X.K ρ σ H->(∀vs H',j4 H H'->j5 X.K (del H' (owns ρ)) ds vs->Q vs H')->W4 X es σ H Q
def DTA(X:Cx)(ρ:Rho)(es:List au)(ds:List D):Prop:=∀σ H Q,Rep X.K ρ σ H->(∀vs H',j4 H H'->j5 X.K H' ds vs->Q vs H')->W4 X es σ H Q
def j61(X:Cx)(e:au):TT:=λσ H Q=>∀whole pins s,Inv X pins σ H s->ax (aA X.prog X.w) X.A (eX e X.env whole) (TP X pins σ Q) X.xe s
theorem pwS{X:Cx}{e:au}:PW X e (j61 X e):=λwhole pins s _ _ _ I h=>h whole pins s I
theorem PW.to{X:Cx}{e:au}{t:TT}{σ:St}{H:Hp}(h:PW X e t){Q:Bool->Hp->Prop}(q:t σ H Q):j61 X e σ H Q:=λwhole pins s I=>h whole pins s σ H Q I q
def DW(X:Cx)(ρ:Rho)(e:au)(b:Bool):Prop:=∀σ H Q,Rep X.K ρ σ H->(∀H',j4 H H'->Q b H')->j61 X e σ H Q
mutual
noncomputable def Qm:D->Bool
 |.lst _=>ae
 |.dct _ _=>ae
 |.sct _=>ae
 |.fn _ _=>ae
 |.tup ds=>qi ds
 |_=>af
noncomputable def qi:List D->Bool
 |[]=>af
 |d::ds=>Qm d&&qi ds
end
mutual
theorem Enc.hide{K:k70}{H:Hp}{A:List ak}(hA:∀a∈A,Hd (H a)):∀{d:D}{v:V},Qm d=af->Enc K H d v->Enc K (del H A) d v
 |.non,_,_,h=>h
 |.bl _,_,_,h=>h
 |.int _,_,_,h=>h
 |.str _,_,_,h=>h
 |.lst _,_,n,_=>by cases n
 |.dct _ _,_,n,_=>by cases n
 |.sct _,_,n,_=>by cases n
 |.fn _ _,_,n,_=>by cases n
 |.tup ds,_,n,⟨a,xs,e,q,l⟩=>by
  refine⟨a,xs,e,?_,j5.hide hA (by simpa [Qm]using n) l⟩;have out:∀{o:HO},H a=aa o->(∀ys,o≠.lst ys)->(∀ys ep,o≠.dI ys ep)->del H A a=aa o:=λ{o} h z z2=>by
   rw[j6];exact h;intro y;rcases hA a y with ⟨ys,e'⟩|⟨ys,ep,e'⟩
   .rw[h]at e';cases e';exact z ys rfl
   .rw[h]at e';cases e';exact z2 ys ep rfl
  rcases q with (q|⟨o,q⟩)|q
  .exact .inl (.inl (out q (λ_ z=>by cases z) λ_ _ z=>by cases z))
  .exact .inl (.inr ⟨o,out q (λ_ z=>by cases z) λ_ _ z=>by cases z⟩)
  .exact .inr q
theorem j5.hide{K:k70}{H:Hp}{A:List ak}(hA:∀a∈A,Hd (H a)):∀{ds:List D}{xs:List V},qi ds=af->j5 K H ds xs->j5 K (del H A) ds xs
 |[],_,_,h=>h
 |d::ds,_,n,⟨x,r,e,h,l⟩=>by
  have n':Qm d=af/\qi ds=af:=by simpa [qi]using n
  exact⟨x,r,e,Enc.hide hA n'.1 h,j5.hide hA n'.2 l⟩
end
section
variable{X:Cx}{ρ:Rho}{e a b c:au}{es:List au}{d da db:D}{ds ds':List D}{i j:Int}{pos:aR}{k:Nat}{x:ao}
theorem DE.toT(h:DE X ρ e d):DT X ρ e d:=λσ H Q R q=>h σ H Q R λv H' g l=>q v H' g (l.mono ji)
theorem DT.toE(h:DT X ρ e d)(n:Qm d=af:=by rfl):DE X ρ e d:=λσ H Q R q=>h σ H Q R λv H' g l=>q v H' g (l.hide (λa ha=>.inl ((R.grow g).owned a ha)) n)
theorem DO.toL(h:DO X ρ e ds):DL X ρ e ds:=λσ H Q R q=>h σ H Q R λa xs H' g n m l=>q a xs H' g m (l.mono (zb λb hb=>km _ hb))
theorem DO.toE(h:DO X ρ e ds):DE X ρ e (.lst ds):=λσ H Q R q=>h σ H Q R λa xs H' g n m l =>q _ H' g ⟨a,xs,rfl,.inl (.inl (by rw[j6 (R.fresh n)];exact m)),l.mono (zb λb hb=>km _ hb)⟩
theorem DL.toT(h:DL X ρ e ds):DT X ρ e (.lst ds):=λσ H Q R q=>h σ H Q R λa xs H' g m l=>q _ H' g ⟨a,xs,rfl,.inl (.inl m),l.mono ji⟩
theorem DW.toB{k:Bool}(h:DW X ρ e k):DB X ρ e k:=λσ H Q R q pins s I=>h σ H Q R q _ pins s I
theorem DA.toT(h:DA X ρ es ds):DTA X ρ es ds:=λσ H Q R q=>h σ H Q R λv H' g l=>q v H' g (l.mono ji)
theorem DE.eq(h:DE X ρ e d){d':D}(q:d=d'):DE X ρ e d':=q▸h
theorem DB.eq{b b':Bool}(h:DB X ρ e b)(q:b=b'):DB X ρ e b':=q▸h
end
section
variable{X:Cx}{ρ:Rho}{e a b c:au}{es:List au}{d da db:D}{ds ds':List D}{i j:Int}{pos p:aR}{k:Nat}{x:ao}
theorem DE.var(k:Nat)(h:ρ[k]?=aa (.val d))(hN:X.N[k]?=aa x:=by rfl)(hv:Vis X.env.scope x:=by first|exact aY rfl|exact bJ (aY rfl)|exact bJ (bJ rfl))
  (hd:(x==k74)=ae:=by decide) (hcd:(x==k75)=ae:=by decide):DE X ρ (.Name x pos) d:=λσ H Q R q=>by
 obtain⟨v,hs,en⟩:=R.val k d h;exact(jz hN hv hd hcd).to ⟨v,hs,q v H (j4.refl H) en⟩
theorem DL.var(k:Nat){l:ak}(h:ρ[k]?=aa (.own l ds))(hN:X.N[k]?=aa x:=by rfl)(hv:Vis X.env.scope x:=by first|exact aY rfl|exact bJ (aY rfl)|exact bJ (bJ rfl))
  (hd:(x==k74)=ae:=by decide) (hcd:(x==k75)=ae:=by decide):DL X ρ (.Name x pos) ds:=λσ H Q R q=>by
 obtain⟨hs,xs,m,en⟩:=R.own k l ds h;exact(jz hN hv hd hcd).to ⟨_,hs,q l xs H (j4.refl H) m en⟩
theorem DE.glob {u:aj} {v:V} (hg:Gl X x) (hm:X.mg x=aa u) (r:RelV v u) (h:∀H,Enc X.K H d v) (hd:(x==k74)=ae:=by decide):DE X ρ (.Name x pos) d :=
 λσ H Q R q=>(jas hg hm r hd).to (q v H (j4.refl H) (h _))
theorem DE.int{i:Int}{n:Nat}{pos:aR}:DE X ρ (.Constant (.int i) n pos) (.int i):=λσ H Q R q=>K1.to (q _ H (j4.refl H) rfl)
theorem DE.bl{b:Bool}{n:Nat}:DE X ρ (.Constant (.bool b) n pos) (.bl b):=λσ H Q R q=>jhl.to (q _ H (j4.refl H) rfl)
theorem DE.str{y:ao}{n:Nat}:DE X ρ (.Constant (.str y) n pos) (.str y):=λσ H Q R q=>W8.to (q _ H (j4.refl H) rfl)
theorem DE.arI0{op:j3}{g:Int->Int->Int}(ho:OpR X (bh op) (rI0 λi j=>.int (g i j)))(ha:DT X ρ a (.int i))(hb:DT X ρ b (.int j)):DE X ρ (.BinOp a op b pos) (.int (g i j)):=λσ H Q R q =>(Vf ho peS peS).to (ha σ H _ R λv H1 g1 e1=>hb σ H1 _ (R.grow g1) λu H2 g2 e2=>⟨i,j,e1,e2,q _ H2 (g1.trans g2) rfl⟩)
theorem DE.arI{op:j3}{C:Int->Int->Prop}{g:Int->Int->Int}(ho:OpR X (bh op) (rI C λi j=>.int (g i j)))(ha:DT X ρ a (.int i))(hb:DT X ρ b (.int j))(hC:C i j):DE X ρ (.BinOp a op b pos) (.int (g i j)):=λσ H Q R q =>(Vf ho peS peS).to (ha σ H _ R λv H1 g1 e1=>hb σ H1 _ (R.grow g1) λu H2 g2 e2=>⟨i,j,e1,e2,hC,q _ H2 (g1.trans g2) rfl⟩)
theorem DE.add(ha:DT X ρ a (.int i))(hb:DT X ρ b (.int j)):DE X ρ (.BinOp a .Add b pos) (.int (i+j)):=DE.arI0 j3q ha hb
theorem DE.sub(ha:DT X ρ a (.int i))(hb:DT X ρ b (.int j)):DE X ρ (.BinOp a .Sub b pos) (.int (i-j)):=DE.arI0 jdv ha hb
theorem DE.mul(ha:DT X ρ a (.int i))(hb:DT X ρ b (.int j))(h:j2l i j):DE X ρ (.BinOp a .Mult b pos) (.int (i*j)):=DE.arI je0 ha hb h
theorem DE.mod(ha:DT X ρ a (.int i))(hb:DT X ρ b (.int j))(h:0<j):DE X ρ (.BinOp a .Mod b pos) (.int (i%j)):=DE.arI je1 ha hb h
theorem DE.pow(ha:DT X ρ a (.int i))(hb:DT X ρ b (.int j))(h:j2k i j):DE X ρ (.BinOp a .Pow b pos) (.int (i^j.toNat)):=DE.arI jdz ha hb h
theorem DE.shl(ha:DT X ρ a (.int i))(hb:DT X ρ b (.int j))(h:j2k i j):DE X ρ (.BinOp a .LShift b pos) (.int (i*2^j.toNat)):=DE.arI (g:=λi j=>i*2^j.toNat) jdx ha hb h
theorem DE.cmpI{op:gw}{g:Int->Int->Bool}(ho:OpR X (bj op) (rI0 λi j=>.bl (g i j)))(hm:aO op b=ae)(ha:DT X ρ a (.int i))(hb:DT X ρ b (.int j)):DE X ρ (.Compare a [op] [b] pos) (.bl (g i j)):=λσ H Q R q =>(Ji ho peS peS hm).to (ha σ H _ R λv H1 g1 e1=>hb σ H1 _ (R.grow g1) λu H2 g2 e2=>⟨i,j,e1,e2,q _ H2 (g1.trans g2) rfl⟩)
theorem DB.cmpI{op:gw}{g:Int->Int->Bool}(ho:OpR X (bj op) (rI0 λi j=>.bl (g i j)))(hm:aO op b=ae)(ha:DT X ρ a (.int i))(hb:DT X ρ b (.int j)):DB X ρ (.Compare a [op] [b] pos) (g i j):=λσ H Q R q =>(J5 ho peS peS hm).to (ha σ H _ R λv H1 g1 e1=>hb σ H1 _ (R.grow g1) λu H2 g2 e2=>⟨i,j,e1,e2,_,rfl,q H2 (g1.trans g2)⟩)
theorem DB.lt(ha:DT X ρ a (.int i))(hb:DT X ρ b (.int j)):DB X ρ (.Compare a [.Lt] [b] pos) (decide (i<j)):=DB.cmpI j1k (z8 _) ha hb
theorem DB.le(ha:DT X ρ a (.int i))(hb:DT X ρ b (.int j)):DB X ρ (.Compare a [.LtE] [b] pos) (decide (i<=j)):=DB.cmpI j90 (z8 _) ha hb
theorem DB.gt(ha:DT X ρ a (.int i))(hb:DT X ρ b (.int j)):DB X ρ (.Compare a [.Gt] [b] pos) (decide (j<i)):=DB.cmpI j91 (z8 _) ha hb
theorem DB.ge(ha:DT X ρ a (.int i))(hb:DT X ρ b (.int j)):DB X ρ (.Compare a [.GtE] [b] pos) (decide (j<=i)):=DB.cmpI j1l (z8 _) ha hb
theorem DE.lt(ha:DT X ρ a (.int i))(hb:DT X ρ b (.int j)):DE X ρ (.Compare a [.Lt] [b] pos) (.bl (decide (i<j))):=DE.cmpI j1k (z8 _) ha hb
theorem DE.le(ha:DT X ρ a (.int i))(hb:DT X ρ b (.int j)):DE X ρ (.Compare a [.LtE] [b] pos) (.bl (decide (i<=j))):=DE.cmpI j90 (z8 _) ha hb
theorem DE.gt(ha:DT X ρ a (.int i))(hb:DT X ρ b (.int j)):DE X ρ (.Compare a [.Gt] [b] pos) (.bl (decide (j<i))):=DE.cmpI j91 (z8 _) ha hb
theorem DE.ge(ha:DT X ρ a (.int i))(hb:DT X ρ b (.int j)):DE X ρ (.Compare a [.GtE] [b] pos) (.bl (decide (j<=i))):=DE.cmpI j1l (z8 _) ha hb
noncomputable def D.sc:D->Option V
 |.non=>aa .non
 |.bl b=>aa (.bl b)
 |.int i=>aa (.int i)
 |.str x=>aa (.str x)
 |_=>ah
theorem D.sc_enc{K:k70}{H:Hp}{d:D}{u v:V}(h:d.sc=aa u)(q:Enc K H d v):v=u:=by cases d<;>simp[D.sc]at h<;>subst h<;>exact q
theorem DE.eqS{u v:V}(ha:DT X ρ a da)(hb:DT X ρ b db)(h1:da.sc=aa u:=by rfl)(h2:db.sc=aa v:=by rfl)(h:Bj u v=af:=by rfl):DE X ρ (.Compare a [.Eq] [b] pos) (.bl (decide (u=v))):=λσ H Q R q =>
 (Ji j92 peS peS (z8 _)).to (ha σ H _ R λx H1 g1 e1=>hb σ H1 _ (R.grow g1) λy H2 g2 e2=>by
  cases D.sc_enc h1 e1;cases D.sc_enc h2 e2;exact⟨h,q _ H2 (g1.trans g2) rfl⟩)
theorem DE.neS{u v:V}(ha:DT X ρ a da)(hb:DT X ρ b db)(h1:da.sc=aa u:=by rfl)(h2:db.sc=aa v:=by rfl)(h:Bj u v=af:=by rfl):DE X ρ (.Compare a [.NotEq] [b] pos) (.bl (!decide (u=v))):=λσ H Q R q =>
 (Ji j1i peS peS (z8 _)).to (ha σ H _ R λx H1 g1 e1=>hb σ H1 _ (R.grow g1) λy H2 g2 e2=>by
  cases D.sc_enc h1 e1;cases D.sc_enc h2 e2;exact⟨h,q _ H2 (g1.trans g2) rfl⟩)
theorem DB.eqS{u v:V}(ha:DT X ρ a da)(hb:DT X ρ b db)(h1:da.sc=aa u:=by rfl)(h2:db.sc=aa v:=by rfl)(h:Bj u v=af:=by rfl):DB X ρ (.Compare a [.Eq] [b] pos) (decide (u=v)):=λσ H Q R q =>
 (J5 j92 peS peS (z8 _)).to (ha σ H _ R λx H1 g1 e1=>hb σ H1 _ (R.grow g1) λy H2 g2 e2=>by
  cases D.sc_enc h1 e1;cases D.sc_enc h2 e2;exact⟨h,_,rfl,q H2 (g1.trans g2)⟩)
theorem DB.neS{u v:V}(ha:DT X ρ a da)(hb:DT X ρ b db)(h1:da.sc=aa u:=by rfl)(h2:db.sc=aa v:=by rfl)(h:Bj u v=af:=by rfl):DB X ρ (.Compare a [.NotEq] [b] pos) (!decide (u=v)):=λσ H Q R q =>
 (J5 j1i peS peS (z8 _)).to (ha σ H _ R λx H1 g1 e1=>hb σ H1 _ (R.grow g1) λy H2 g2 e2=>by
  cases D.sc_enc h1 e1;cases D.sc_enc h2 e2;exact⟨h,_,rfl,q H2 (g1.trans g2)⟩)
theorem Ul(i j:Int):decide (V.int i=V.int j)=decide (i=j):=by
 by_cases h:i=j
 .subst h;simp
 .rw[decide_eq_false h,decide_eq_false (λz=>h (V.int.inj z))]
theorem j0n(i j:Bool):decide (V.bl i=V.bl j)=(i==j):=by cases i<;>cases j<;>rfl
theorem Il(i j:ao):decide (V.str i=V.str j)=decide (i=j):=by
 by_cases h:i=j
 .subst h;simp
 .rw[decide_eq_false h,decide_eq_false (λz=>h (V.str.inj z))]
theorem DE.eqI(ha:DT X ρ a (.int i))(hb:DT X ρ b (.int j)):DE X ρ (.Compare a [.Eq] [b] pos) (.bl (decide (i=j))):=(DE.eqS ha hb).eq (by rw[Ul])
theorem DE.neI(ha:DT X ρ a (.int i))(hb:DT X ρ b (.int j)):DE X ρ (.Compare a [.NotEq] [b] pos) (.bl (!decide (i=j))):=(DE.neS ha hb).eq (by rw[Ul])
theorem DB.eqI(ha:DT X ρ a (.int i))(hb:DT X ρ b (.int j)):DB X ρ (.Compare a [.Eq] [b] pos) (decide (i=j)):=(DB.eqS ha hb).eq (by rw[Ul])
theorem DB.neI(ha:DT X ρ a (.int i))(hb:DT X ρ b (.int j)):DB X ρ (.Compare a [.NotEq] [b] pos) (!decide (i=j)):=(DB.neS ha hb).eq (by rw[Ul])
theorem DE.neB{x y:Bool}(ha:DT X ρ a (.bl x))(hb:DT X ρ b (.bl y)):DE X ρ (.Compare a [.NotEq] [b] pos) (.bl (x != y)):=(DE.neS ha hb).eq (by rw[j0n];rfl)
theorem DB.neB{x y:Bool}(ha:DT X ρ a (.bl x))(hb:DT X ρ b (.bl y)):DB X ρ (.Compare a [.NotEq] [b] pos) (x != y):=(DB.neS ha hb).eq (by rw[j0n];rfl)
noncomputable def D.isNon:D->Bool
 |.non=>af
 |_=>ae
theorem Fx{K:k70}{H:Hp}{d:D}{v:V}(q:Enc K H d v):decide (v=V.non)=d.isNon:=by
 cases d with
 |non=>cases(show v=.non from q);rfl
 |bl b=>cases(show v=.bl b from q);rfl
 |int b=>cases(show v=.int b from q);rfl
 |str b=>cases(show v=.str b from q);rfl
 |tup l=>obtain⟨a,xs,e,_⟩:=q;subst e;rfl
 |lst l=>obtain⟨a,xs,e,_⟩:=q;subst e;rfl
 |dct ks l=>obtain⟨a,xs,ep,vs,e,_⟩:=q;subst e;rfl
 |sct k=>obtain⟨a,e,_⟩:=q;subst e;rfl
 |fn x l=>obtain⟨a,c,tx,cl,vs,e,_⟩:=q;subst e;rfl
theorem DE.isN{n:Nat}{p2:aR}(ha:DT X ρ a d):DE X ρ (.Compare a [.Is] [.Constant .none n p2] pos) (.bl d.isNon):=λσ H Q R q =>(jdr (j3m peS)).to (ha σ H _ R λx H1 g1 e1=>q _ H1 g1 (by rw[Fx e1];rfl))
theorem DB.isN{n:Nat}{p2:aR}(ha:DT X ρ a d):DB X ρ (.Compare a [.Is] [.Constant .none n p2] pos) d.isNon:=λσ H Q R q =>(jdi (j3m peS)).to (ha σ H _ R λx H1 g1 e1=>⟨_,rfl,by rw[Fx e1];exact q H1 g1⟩)
theorem DB.val{k:Bool}(ha:DT X ρ a (.bl k))(he:∀whole,eX a X.env whole=(do let v <-whole;eB a.pos;bN [v] (jM v)):=by intro _;rfl):DB X ρ a k:=λσ H Q R q =>(j3e peS he).to (ha σ H _ R λx H1 g1 e1=>⟨_,e1,q H1 g1⟩)
theorem DW.or1{k:Bool}(ha:DB X ρ a k):DW X ρ (.BoolOp .Or [a] pos) k:=λσ H Q R q=>(jdh ptS).to (ha σ H Q R q)
theorem DW.or{k m:Bool}{rest:List au}(ha:DB X ρ a k)(hb:k=ae->DW X ρ (.BoolOp .Or (b::rest) pos) m):DW X ρ (.BoolOp .Or (a::b::rest) pos) (k || m):=λσ H Q R q =>
 (jhi ptS pwS).to (ha σ H _ R λH1 g1=>by
  cases k with
  |true=>exact Wf (q H1 g1)
  |false=>exact Wg (hb rfl σ H1 Q (R.grow g1) λH2 g2=>q H2 (g1.trans g2)))
theorem DB.not{k:Bool}(ha:DB X ρ a k):DB X ρ (.UnaryOp .Not a pos) (!k):=λσ H Q R q=>(j3f ptS).to (ha σ H _ R λH1 g1=>q H1 g1)
theorem DE.and{k m:Bool}{rest:List au}(ha:DT X ρ a (.bl k))(hb:k=af->DE X ρ (.BoolOp .And (b::rest) pos) (.bl m)):DE X ρ (.BoolOp .And (a::b::rest) pos) (.bl (k&&m)):=λσ H Q R q =>
 (jds peS peS).to (ha σ H _ R λx H1 g1 e1=>⟨k,e1,by
  cases k with
  |false=>exact Wg (q _ H1 g1 rfl)
  |true=>exact Wf (hb rfl σ H1 Q (R.grow g1) λv H2 g2=>q v H2 (g1.trans g2))⟩)
theorem DE.or{k m:Bool}{rest:List au}(ha:DT X ρ a (.bl k))(hb:k=ae->DE X ρ (.BoolOp .Or (b::rest) pos) (.bl m)):DE X ρ (.BoolOp .Or (a::b::rest) pos) (.bl (k || m)):=λσ H Q R q =>
 (jhk peS peS).to (ha σ H _ R λx H1 g1 e1=>⟨k,e1,by
  cases k with
  |true=>exact Wf (q _ H1 g1 rfl)
  |false=>exact Wg (hb rfl σ H1 Q (R.grow g1) λv H2 g2=>q v H2 (g1.trans g2))⟩)
theorem DE.not{k:Bool}(ha:DT X ρ a (.bl k)):DE X ρ (.UnaryOp .Not a pos) (.bl (!k)):=λσ H Q R q=>(jdp peS).to (ha σ H _ R λx H1 g1 e1=>⟨k,e1,q _ H1 g1 rfl⟩)
theorem DE.ite{k:Bool}{d':D}(hc:DB X ρ c k)(ha:k=af->DE X ρ a d)(hb:k=ae->DE X ρ b d'):DE X ρ (.IfExp c a b pos) (if k=af then d else d'):=λσ H Q R q =>
 (K3 ptS peS peS).to (hc σ H _ R λH1 g1=>by
  cases k with
  |true=>exact Wf (ha rfl σ H1 Q (R.grow g1) λv H2 g2 z=>q v H2 (g1.trans g2) (by rw[if_pos rfl];exact z))
  |false=>exact Wg (hb rfl σ H1 Q (R.grow g1) λv H2 g2 z=>q v H2 (g1.trans g2) (by rw[if_neg xf];exact z)))
theorem DA.nil:DA X ρ [] []:=λσ H Q R q=>jt.to (q [] H (j4.refl H) rfl)
theorem DA.cons(ha:DE X ρ a d)(hr:DA X ρ es ds)(hs:ai (a::es) X.env=(ae,aB a X.env)::ai es X.env:=by rfl):DA X ρ (a::es) (d::ds):=λσ H Q R q =>(j9 peS paS hs).to (ha σ H _ R λv H1 g1 e1=>hr σ H1 _ (R.grow g1) λvs H2 g2 e2=>q _ H2 (g1.trans g2) ⟨v,vs,rfl,e1.mono (jb g2),e2⟩)
theorem DTA.nil:DTA X ρ [] []:=λσ H Q R q=>jt.to (q [] H (j4.refl H) rfl)
theorem DTA.cons(ha:DT X ρ a d)(hr:DTA X ρ es ds)(hs:ai (a::es) X.env=(ae,aB a X.env)::ai es X.env:=by rfl):DTA X ρ (a::es) (d::ds):=λσ H Q R q =>(j9 peS paS hs).to (ha σ H _ R λv H1 g1 e1=>hr σ H1 _ (R.grow g1) λvs H2 g2 e2=>q _ H2 (g1.trans g2) ⟨v,vs,rfl,e1.mono g2,e2⟩)
theorem DE.tup{n:Nat}{x1}(h:DA X ρ es ds)(hl:ds.length<=ar:=by simp only[xr,Pr];decide):DE X ρ (.Tuple es x1 pos) (.tup ds):=λσ H Q R q =>(j3k paS).to (h σ H _ R λvs H1 g1 e1=>⟨by rw[e1.length];exact hl,λp hp=>q _ _ (g1.trans (j8 hp)) ⟨p,vs,rfl,.inl (.inl (by rw[j6 ((R.grow g1).fresh hp)];exact jr)),e1.mono (jb (j8 hp))⟩⟩)
theorem DO.lst(h:DA X ρ es ds)(hl:ds.length<=ar:=by simp only[xr,Pr];decide):DO X ρ (.List es pos) ds:=λσ H Q R q =>
 (jdq paS).to (h σ H _ R λvs H1 g1 e1=>⟨by rw[e1.length];exact hl,λp hp=>q p vs _ (g1.trans (j8 hp)) (g1.free hp) jr (e1.mono λb o z=>by
  obtain⟨n,z⟩:=of_del z
  rw[j6];exact j8 hp b o z
  intro y
  rcases xn.mp y with y|y
  .subst y;rw[hp]at z;cases z
  .exact n y)⟩)
theorem j5.atI{K:k70}{H:Hp}{xs:List V}(h:j5 K H ds xs)(q:atI ds i=aa d):∃x,L2.atI xs i=aa x/\Enc K H d x:=by
 unfold L2.atI at q ⊢;rw[h.length];cases z:ixN ds.length i with
 |none=>rw[z]at q;cases q
 |some k =>rw[z]at q;exact h.get q
noncomputable def cutD(ds:List D)(lo hi:Option Int):List D:=(ds.drop (HT.sIx ds.length 0 lo)).take (HT.sIx ds.length ds.length hi-HT.sIx ds.length 0 lo)
theorem j5.cut{K:k70}{H:Hp}{xs:List V}(h:j5 K H ds xs)(lo hi:Option Int):j5 K H (cutD ds lo hi) (Wl xs lo hi):=by unfold cutD Wl;rw[h.length];exact(h.drop _).take _
theorem Uk{K:k70}{H1:Hp}{A:List ak}{ds:List D}{xs:List V}{p:ak}{o:HO}(hp:H1 p=ah)(e1:j5 K (del H1 A) ds xs):j5 K (del (upd H1 p o) (p::A)) ds xs:=e1.mono λb o z=>by
 obtain⟨n,z⟩:=of_del z;rw[j6];exact j8 hp b o z;intro y;rcases xn.mp y with y|y
 .subst y;rw[hp]at z;cases z
 .exact n y
theorem DO.rep(ha:DL X ρ a ds)(hb:DT X ρ b (.int i))(h1:-(2^63)<=i)(h2:i<2^63)(hl:ds.length*i.toNat<=ar):DO X ρ (.BinOp a .Mult b pos) (az i.toNat ds).flatten:=λσ H Q R q =>
 (Vf jdy peS peS).to (ha σ H _ R λl xs H1 g1 m1 e1=>hb σ H1 _ (R.grow g1) λu H2 g2 e2 =>
  ⟨l,i,xs,rfl,e2,g2 _ _ m1,h1,h2,by rw[e1.length];exact hl,λp hp=>q p _ _ ((g1.trans g2).trans (j8 hp)) ((g1.trans g2).free hp) jr (Uk hp ((e1.mono (jb g2)).rep _))⟩)
theorem DE.lenT (ha:DT X ρ a (.tup ds)) (hm:X.mg "len" = ah) (hg:Gl X "len":=by rfl) (hs:ai [a] X.env=[(ae,aB a X.env)]:=by rfl) {p2:aR}:DE X ρ (.Call (.Name "len" p2) [a] [] pos) (.int ds.length):=λσ H Q R q =>(zc Z8 hg hm cj (j9 peS jt hs) (by decide) (by decide) hs).to (ha σ H _ R λv H1 g1 ⟨l,xs,e,sq,en⟩=>⟨l,xs,by rw[e],.inr sq,q _ H1 g1 (by rw[en.length];rfl)⟩)
theorem DE.lenL (ha:DT X ρ a (.lst ds)) (hm:X.mg "len" = ah) (hg:Gl X "len":=by rfl) (hs:ai [a] X.env=[(ae,aB a X.env)]:=by rfl) {p2:aR}:DE X ρ (.Call (.Name "len" p2) [a] [] pos) (.int ds.length):=λσ H Q R q =>(zc Z8 hg hm cj (j9 peS jt hs) (by decide) (by decide) hs).to (ha σ H _ R λv H1 g1 ⟨l,xs,e,sq,en⟩=>⟨l,xs,by rw[e],.inl sq,q _ H1 g1 (by rw[en.length];rfl)⟩)
end
def framed(sp:Sp):Sp:=λvs H Q E=>∃A:List ak,(∀a∈A,∃xs,H a=aa (.lst xs))/\sp vs (del H A) (λv F=>(∀a∈A,F a=ah)->Q v (mrg A H F)) E
theorem FnOk.framed{P:ay}{w:aD}{K:k70}{mg:k73}{base:aG}{k:Nat}{f:ak}{fd:aM}{ps:List ao}{sp:Sp}(F:FnOk P w K mg base CX0 k f fd ps sp) :
  FnOk P w K mg base CX0 k f fd ps (framed sp) where
 len:=λvs H Q E ⟨A,_,h⟩=>F.len vs _ _ _ h
 run:=by
  rintro A0 outer s H args us vs Q E hr e0 hb rv ⟨A,hA,h⟩;have nd:∀{b:ak},H b=ah->del H A b=ah:=λ{b} q=>by
   by_cases z:b∈A
   .exact zf z
   .rw[j6 z];exact q
  have out:∀{b:ak}{o:HO},H b=aa o->(∀ys,o≠.lst ys)->del H A b=aa o:=λ{b o} q z=>by rw[j6];exact q;intro y;obtain⟨ys,e'⟩:=hA b y;rw[q]at e';cases e';exact z ys rfl
  have e1:Env0 P w K mg base A0 outer s (del H A):=⟨e0.frames,e0.mod,λb o q=>⟨(e0.bs b o q).1,nd (e0.bs b o q).2⟩,e0.bsz,e0.funs,λb hb=>nd (e0.frf b hb),
   λa o q=>by
    obtain⟨_,q⟩:=of_del q
    exact jm.stay (e0.hok a o q) (λb u _ z=>z) (λb z=>out z λ_ y=>by cases y) (λb xs z=>out z λ_ y=>by cases y) (λb _ _ z=>out z λ_ y=>by cases y),e0.bare⟩
  refine bO (F.run A0 outer s (del H A) args us vs _ E hr e1 hb rv h) λr s' hq=>?_;cases r with
  |error e=>exact(show False from hq).elim
  |ok fl =>
   cases fl with
   |next=>exact(show False from hq).elim
   |brk=>exact(show False from hq).elim
   |cont=>exact(show False from hq).elim
   |ret u =>
    obtain⟨v,H',os,bare,un,hok',rel,q⟩:=(show CE outer P w (del H A) s _ u s' from hq)
    have kept:∀a∈A,∃o,s.heap.get? a=aa o/\s'.heap.get? a=aa o/\H' a=ah:=λa ha=>by
     obtain⟨xs,e⟩:=hA a ha;obtain⟨_,its,n,_,z⟩:=(show jm P w H s.heap a (.lst xs)from e0.hok _ _ e)
     have nf:a∉frs outer:=λy=>by rw[e0.frf a y]at e;cases e
     exact⟨_,z,un.keep a _ z (zf ha) nf (by simp),un.free a _ z (zf ha) (by simp)⟩
    have hF:∀a∈A,H' a=ah:=λa ha=>let ⟨_,_,_,z⟩:=kept a ha;z;have outF:∀{b:ak}{o:HO},H' b=aa o->b∉A:=λ{b o} e z=>by rw[hF b z]at e;cases e
    refine⟨v,mrg A H H',os,bare,?_,λa o e=>?_,rel,q hF⟩
    .exact{
      keep:=λb o e n=>un.keep b o e (nd n)
      slot:=λb o e n=>un.slot b o e (nd n)
      free:=λb o e n hx=>by
       by_cases z:b∈A
       .rw[J8 z];exact n
       .rw[jl z];exact un.free b o e (nd n) hx
      there:=un.there
      tups:=λb xs e=>by
       have z:=un.tups b xs (out e λ_ y=>by cases y)
       rw[jl (outF z)];exact z
      frzs:=λb o u e=>by
       have z:=un.frzs b o u (out e λ_ y=>by cases y)
       rw[jl (outF z)];exact z
      tbls:=λb ps e=>by
       obtain⟨more,z⟩:=un.tbls b ps (out e λ_ y=>by cases y)
       exact⟨more,by rw[jl (outF z)];exact z⟩ }
    .by_cases z:a∈A
     .rw[J8 z]at e;obtain⟨xs,e'⟩:=hA a z;rw[e']at e;cases e;obtain⟨hl,its,n,r,y⟩:=(show jm P w H s.heap a (.lst xs)from e0.hok _ _ e')
      obtain⟨o',q1,q2,_⟩:=kept a z;rw[y]at q1;cases q1;exact⟨hl,its,n,r,q2⟩
     .rw[jl z]at e;refine jm.stay (hok' a o e) (λb u _ q=>q) (λb q=>?_) (λb xs q=>?_) (λb _ _ q=>?_)
      .rw[jl (outF q)];exact q
      .rw[jl (outF q)];exact q
      .rw[jl (outF q)];exact q
def spP(K:k70)(S:List D->D->Prop):Sp:=λvs H Q _=>∃A ds d,TabOk K H/\(∀a∈A,∃xs,H a=aa (.lst xs))/\j5 K (del H A) ds vs/\S ds d/\∀v H',j4 H H'->Enc K (del H' A) d v->Q v H'
def spF(K:k70)(S:List D->List D->Prop):Sp:=λvs H Q _=>∃A ds l,TabOk K H/\(∀a∈A,∃xs,H a=aa (.lst xs))/\j5 K (del H A) ds vs/\S ds l /\
 ∀a xs H',j4 H H'->H a=ah->H' a=aa (.lst xs)->j5 K (del H' (a::A)) l xs->Q (.ref a) H'
def jjs(K:k70)(S:List D->D->Prop):Sp:=λvs H Q _=>∃ds d,TabOk K H/\j5 K H ds vs/\S ds d/\∀v H',j4 H H'->Enc K H' d v->Q v H'
def jju(K:k70)(S:List D->List D->Prop):Sp:=λvs H Q _=>∃ds l,TabOk K H/\j5 K H ds vs/\S ds l/\∀a xs H',j4 H H'->H a=ah->H' a=aa (.lst xs)->j5 K (del H' [a]) l xs->Q (.ref a) H'
section
variable{P:ay}{w:aD}{K:k70}{mg:k73}{base:aG}{k:Nat}{f:ak}{fd:aM}{ps:List ao}
theorem FnOk.toP{S:List D->D->Prop}(F:FnOk P w K mg base CX0 k f fd ps (jjs K S)):FnOk P w K mg base CX0 k f fd ps (spP K S) :=
 F.framed.imp λvs H Q E ⟨A,ds,d,tb,hA,en,hS,q⟩=>⟨A,hA,ds,d,tb.del hA,en,hS,λv F g e hF=>q v _ (Ma g) (by rw[Qx hF];exact e)⟩
theorem FnOk.toF{S:List D->List D->Prop}(F:FnOk P w K mg base CX0 k f fd ps (jju K S)):FnOk P w K mg base CX0 k f fd ps (spF K S) :=
 F.framed.imp λvs H Q E ⟨A,ds,l,tb,hA,en,hS,q⟩=>⟨A,hA,ds,l,tb.del hA,en,hS,λa xs F g n e l' hF=>by
  have na:a∉A:=λz=>by rw[hF a z]at e;cases e
  refine q a xs _ (Ma g) (by rw[j6 na]at n;exact n) (by rw[jl na];exact e) (l'.mono λb o z=>?_)
  obtain⟨n1,z⟩:=of_del z
  have nb:b∉A:=λy=>by rw[hF b y]at z;cases z
  rw[j6,jl nb];exact z
  intro y
  rcases xn.mp y with y|y
  .exact n1 (by rw[y];exact X3.mpr rfl)
  .exact nb y⟩
end
noncomputable def jfo:List ao:=["dearest_way","cost_on_whole","worst_table","worst_plan","foe_answer","whole_table","whole_plan","mean_price"]
noncomputable def kG(us ws:List aj):List aj:=match ws with
 |[w]=>us++[w]
 |_=>[]
noncomputable def kGV(vs zs:List V):List V:=match zs with
 |[z]=>vs++[z]
 |_=>[]
def Dfl(K:k70)(x:ao)(fd:aM)(ps:List ao):Prop:=x∈jfo->Binds K fd ps [.none]/\KBinds K fd ps ["prices"] kG kGV
structure Cal(X:Cx)(x:ao)(sp:Sp):Prop where
 ex:∃(k:Nat)(f:ak)(fd:aM)(ps:List ao),FnOk X.prog X.w X.K X.mg X.base CX0 k f fd ps sp/\Room (k+1) X.A/\X.mg x=aa (.ref f)/\W.keepIn X.K (.ref f)=af/\Binds X.K fd ps []/\Dfl X.K x fd ps
section
variable{X:Cx}{ρ:Rho}{e a:au}{es:List au}{d:D}{ds l:List D}{pos p:aR}{x:ao}
theorem DE.call{S:List D->D->Prop}(c:Cal X x (spP X.K S))(ha:DA X ρ (e::es) ds)(hS:S ds d)(hg:Gl X x:=by rfl)(hdb:(x==k74)=ae:=by decide)
  (he:ai (e::es) X.env=(ae,aB e X.env)::ai es X.env:=by rfl) (hpl:(aP pos (ai es X.env)).any (·.1)=ae:=by rfl):DE X ρ (.Call (.Name x p) (e::es) [] pos) d:=λσ H Q R q=>by
 obtain⟨k,f,fd,ps,F,hr,hm,hk,hb,_⟩:=c.ex;refine(Yt F (hr.mono (Xv _)) hg hm hk hb .nil Zt paS hdb he hpl).to (ha σ H _ R λvs H1 g1 e1=>?_);show spP X.K S (vs++[]) H1 Q E0;rw[Xl];exact⟨owns ρ,ds,d,R.tb.mono g1,(R.grow g1).owned,e1,hS,λv H2 g2 z=>q v H2 (g1.trans g2) z⟩
theorem DT.call{S:List D->D->Prop}(c:Cal X x (spP X.K S))(ha:DTA X ρ (e::es) ds)(hS:S ds d)(hg:Gl X x:=by rfl)(hdb:(x==k74)=ae:=by decide)
  (he:ai (e::es) X.env=(ae,aB e X.env)::ai es X.env:=by rfl) (hpl:(aP pos (ai es X.env)).any (·.1)=ae:=by rfl):DT X ρ (.Call (.Name x p) (e::es) [] pos) d:=λσ H Q R q=>by
 obtain⟨k,f,fd,ps,F,hr,hm,hk,hb,_⟩:=c.ex;refine(Yt F (hr.mono (Xv _)) hg hm hk hb .nil Zt paS hdb he hpl).to (ha σ H _ R λvs H1 g1 e1=>?_);show spP X.K S (vs++[]) H1 Q E0;rw[Xl];exact⟨[],ds,d,R.tb.mono g1,(λa h=>nomatch h),by rw[J6];exact e1,hS,λv H2 g2 z=>q v H2 (g1.trans g2) (by rw[J6]at z;exact z)⟩
theorem DO.call{S:List D->List D->Prop}(c:Cal X x (spF X.K S))(ha:DA X ρ (e::es) ds)(hS:S ds l)(hg:Gl X x:=by rfl)(hdb:(x==k74)=ae:=by decide)
  (he:ai (e::es) X.env=(ae,aB e X.env)::ai es X.env:=by rfl) (hpl:(aP pos (ai es X.env)).any (·.1)=ae:=by rfl):DO X ρ (.Call (.Name x p) (e::es) [] pos) l:=λσ H Q R q=>by
 obtain⟨k,f,fd,ps,F,hr,hm,hk,hb,_⟩:=c.ex;refine(Yt F (hr.mono (Xv _)) hg hm hk hb .nil Zt paS hdb he hpl).to (ha σ H _ R λvs H1 g1 e1=>?_);show spF X.K S (vs++[]) H1 Q E0;rw[Xl];exact⟨owns ρ,ds,l,R.tb.mono g1,(R.grow g1).owned,e1,hS,λa xs H2 g2 n m z=>q a xs H2 (g1.trans g2) (g1.free n) m z⟩
end
inductive Rt where
 |val (d:D)
 |fresh (ds:List D)
noncomputable def Rt.d:Rt->D
 |.val d=>d
 |.fresh l=>.lst l
structure Po where
 nx:Rho->Prop
 rt:Rt->Prop
 bk:Rho->Prop:=λ_=>False
 ct:Rho->Prop:=λ_=>False
 ex:ao->Rho->Prop:=λ_ _=>False
structure Fl(N:ak->Prop)(H:Hp)(h:aG)(e:ak)(C:aj):Prop where
 new:∀b,N b->b≠e
 free:H e=ah
 obj:∃(oe:dm)(vs:Array aj)(a0:aj),h.get? e=aa oe/\oe.cls=C/\oe.data=.fields vs/\vs[0]?=aa a0 /\
  (vs[1]?=aa .none\/∃(T:ak)(oT:dm)(ts:Array aj),vs[1]?=aa (.ref T)/\T≠e/\h.get? T=aa oT/\oT.data=.fields ts/\ts[3]?=aa .none/\H T=ah/\∀b,N b->b≠T)
def Old(X:Cx)(pins:k72)(b:ak):Prop:=(∃o,X.s₀.heap.get? b=aa o/\b∉X.ex)\/(∃p∈X.pn++pins,p.1=b)\/b=X.env.locals\/∃x,X.env.cells.lookup x=aa b
def Ws(X:Cx)(σ:St)(H:Hp)(x:ao):Prop:=∀(pins:k72) (H':Hp) (s':aq) (e:ak) (C:aj),Inv X pins σ H' s'->j4 H H'->X.mg x=aa C->Fl (Old X pins) H' s'.heap e C->X.xe (.ref e) s'
def Fr0(ρ ρ':Rho)(H H':Hp):Prop:=j4 (del H (owns ρ)) (del H' (owns ρ'))
def Nq(K:k70)(ρ:Rho)(H H':Hp)(v:V):Rt->Prop
 |.val d=>j4 (del H (owns ρ)) H'/\Enc K H' d v
 |.fresh ds=>∃a xs,v=.ref a/\j4 (del H (owns ρ)) (del H' [a])/\H' a=aa (.lst xs)/\j5 K (del H' [a]) ds xs
structure EndsOk(X:Cx)(ρ:Rho)(H:Hp)(P:Po)(E:Ends):Prop where
 nx:∀ρ' σ' H',P.nx ρ'->Rep X.K ρ' σ' H'->Fr0 ρ ρ' H H'->E.nx σ' H'
 bk:∀ρ' σ' H',P.bk ρ'->Rep X.K ρ' σ' H'->Fr0 ρ ρ' H H'->E.bk σ' H'
 ct:∀ρ' σ' H',P.ct ρ'->Rep X.K ρ' σ' H'->Fr0 ρ ρ' H H'->E.ct σ' H'
 rt:∀r v H',P.rt r->Nq X.K ρ H H' v r->E.rt v H'
 ex:∀x ρ' σ' H',P.ex x ρ'->Rep X.K ρ' σ' H'->Fr0 ρ ρ' H H'->Ws X σ' H' x
theorem Nq.step{K:k70}{ρ ρ1:Rho}{H H1 H':Hp}{v:V}{r:Rt}(f:Fr0 ρ ρ1 H H1)(h:Nq K ρ1 H1 H' v r):Nq K ρ H H' v r:=by
 cases r with
 |val d=>exact⟨f.trans h.1,h.2⟩
 |fresh ds=>obtain⟨a,xs,e,g,m,l⟩:=h;exact⟨a,xs,e,f.trans g,m,l⟩
theorem EndsOk.step{X:Cx}{ρ ρ1:Rho}{H H1:Hp}{P:Po}{E:Ends}(h:EndsOk X ρ H P E)(f:Fr0 ρ ρ1 H H1):EndsOk X ρ1 H1 P E :=
 ⟨λρ' σ' H' n R g=>h.nx ρ' σ' H' n R (f.trans g),λρ' σ' H' n R g=>h.bk ρ' σ' H' n R (f.trans g),λρ' σ' H' n R g=>h.ct ρ' σ' H' n R (f.trans g),λr v H' n g=>h.rt r v H' n (Nq.step f g),λx ρ' σ' H' n R g=>h.ex x ρ' σ' H' n R (f.trans g)⟩
theorem Fr0.grow{ρ:Rho}{H H':Hp}(g:j4 H H'):Fr0 ρ ρ H H':=jb g
theorem Fr0.refl(ρ:Rho)(H:Hp):Fr0 ρ ρ H H:=j4.refl _
theorem Fr0.drop{ρ ρ':Rho}{H:Hp}(h:∀b∈owns ρ',b∈owns ρ):Fr0 ρ ρ' H H:=zb h
theorem Fr0.new{ρ:Rho}{H H':Hp}{i:Nat}{a:ak}{ds:List D}{K:k70}{σ:St}(R:Rep K ρ σ H)(g:j4 H H')(n:H a=ah):Fr0 ρ (ρ.set i (.own a ds)) H H':=λb o q=>by
 obtain⟨nb,q⟩:=of_del q;rw[j6];exact g b o q;intro z;rcases(Jj (ds:=ds) (i:=i) R.nd (R.fresh n)).2 b z with e|z
 .subst e;rw[n]at q;cases q
 .exact nb z
def DS(X:Cx)(ρ:Rho)(st:aQ)(P:Po):Prop:=∀σ H E,Rep X.K ρ σ H->EndsOk X ρ H P E->j63 X st E σ H
def DSs(X:Cx)(ρ:Rho)(sts:List aQ)(P:Po):Prop:=∀σ H E,Rep X.K ρ σ H->EndsOk X ρ H P E->Zr X sts E σ H
section
variable{X:Cx}{ρ:Rho}{e a b c:au}{es:List au}{st:aQ}{rest sa sb body:List aQ}{P:Po}{d:D}{ds ds':List D}{pos p p1 p2 p3:aR}{x:ao}{i:Nat}
theorem DSs.nil(h:P.nx ρ):DSs X ρ [] P:=λσ H E R q=>Ys.to (q.nx ρ σ H h R (Fr0.refl ρ H))
theorem DSs.cons{N:Rho->Prop}(h1:DS X ρ st { P with nx:=N })(h2:∀ρ1,N ρ1->DSs X ρ1 rest P):DSs X ρ (st::rest) P:=λσ H E R q =>(qg psS zr).to (h1 σ H { E with nx:=Zr X rest E } R ⟨λρ' σ' H' n R' f=>h2 ρ' n σ' H' E R' (q.step f),q.bk,q.ct,q.rt,q.ex⟩)
theorem DSs.freeze(i:Nat){l:ak}(h:ρ[i]?=aa (.own l ds))(h2:DSs X (ρ.set i (.val (.lst ds))) body P):DSs X ρ body P:=λσ H E R q =>h2 σ H E (R.freeze h) (q.step (.drop λb hb=>(jd rfl).subset hb))
theorem DSs.forget(i:Nat)(h2:DSs X (ρ.set i .un) body P):DSs X ρ body P:=λσ H E R q=>by
 have z:=R.set_un (i:=i) (v:=ah);have R':Rep X.K (ρ.set i .un) σ H:=by
  have q:=R.set_un (i:=i) (v:=(σ[i]?).join);have e:σ.set i ((σ[i]?).join)=σ:=by
   apply fw;intro j;rw[dG];split
   .rename_i h;subst h;split
    .rename_i h;rw[kh h];rfl
    .rename_i h;rw[T5 nofun]
   .rfl
  rw[e]at q;exact q
 exact h2 σ H E R' (q.step (.drop λb hb=>(jd rfl).subset hb))
theorem DS.set(i:Nat)(he:DE X ρ e d)(h:P.nx (ρ.set i (.val d)))(hN:X.N.Nodup)(hi:X.N[i]?=aa x:=by rfl)(hx:Loc X.env.scope x:=by first|exact aY rfl|exact bJ rfl)
  (hs:aL e (aa (.Name x p)) pos.line X.env=pure ae:=by rfl) (hf:X.fn x=af\/X.env.scope.names.lookup x=aa .local:=by first|exact .inl rfl|exact .inr rfl):DS X ρ (.Assign [.Name x p] e pos) P:=λσ H E R q =>
 (Qf hN hi hx peS hs hf).to (he σ H _ R λv H1 g1 e1=>q.nx _ _ H1 h ((R.grow g1).set_val e1) (j4.trans (Fr0.grow g1) (Fr0.drop λb hb=>(jd rfl).subset hb)))
theorem DS.setO(i:Nat)(he:DO X ρ e ds)(h:∀l,P.nx (ρ.set i (.own l ds)))(hN:X.N.Nodup)(hi:X.N[i]?=aa x:=by rfl)(hx:Loc X.env.scope x:=by first|exact aY rfl|exact bJ rfl)
  (hs:aL e (aa (.Name x p)) pos.line X.env=pure ae:=by rfl) (hf:X.fn x=af\/X.env.scope.names.lookup x=aa .local:=by first|exact .inl rfl|exact .inr rfl):DS X ρ (.Assign [.Name x p] e pos) P:=λσ H E R q =>
 (Qf hN hi hx peS hs hf).to (he σ H _ R λl xs H1 g1 n m e1=>q.nx _ _ H1 (h l) (R.set_own g1 n m e1) (.new R g1 n))
theorem DS.if{k:Bool}(hc:DB X ρ c k)(ha:k=af->DSs X ρ sa P)(hb:k=ae->DSs X ρ sb P):DS X ρ (.If c sa sb pos) P:=λσ H E R q =>
 (Cg ptS zr zr).to (hc σ H _ R λH1 g1=>by
  cases k with
  |true=>exact Wf (ha rfl σ H1 E (R.grow g1) (q.step (.grow g1)))
  |false=>exact Wg (hb rfl σ H1 E (R.grow g1) (q.step (.grow g1))))
theorem DS.ret(he:DT X ρ e d)(h:P.rt (.val d)):DS X ρ (.Return (aa e) pos) P:=λσ H E R q =>(Qg peS).to (he σ H _ R λv H1 g1 e1=>q.rt _ v H1 h ⟨ji.trans g1,e1⟩)
theorem DS.retO(he:DO X ρ e ds)(h:P.rt (.fresh ds)):DS X ρ (.Return (aa e) pos) P:=λσ H E R q =>
 (Qg peS).to (he σ H _ R λl xs H1 g1 n m e1=>q.rt _ _ H1 h ⟨l,xs,rfl,(λb o z=>by
  obtain⟨nb,z⟩:=of_del z
  rw[j6];exact g1 b o z
  intro y;rw[X3.mp y,n]at z;cases z),m,e1.mono (zb λb hb=>by rw[X3.mp hb];exact xm ..)⟩)
theorem DS.retV(k:Nat){l:ak}(hk:ρ[k]?=aa (.own l ds))(h:P.rt (.fresh ds))(hN:X.N[k]?=aa x:=by rfl)(hv:Vis X.env.scope x:=by first|exact aY rfl|exact bJ (aY rfl)|exact bJ (bJ rfl))
  (hd:(x==k74)=ae:=by decide) (hcd:(x==k75)=ae:=by decide):DS X ρ (.Return (aa (.Name x p)) pos) P:=λσ H E R q=>by
 obtain⟨hs,xs,m,en⟩:=R.own k l ds hk;have g:j4 (del H (owns ρ)) (del H [l]):=zb λb hb=>by rw[X3.mp hb];exact Jd hk
 exact(Qg (jz hN hv hd hcd)).to ⟨_,hs,q.rt _ _ H h ⟨l,xs,rfl,g,m,en.mono g⟩⟩
theorem DS.expr(he:DT X ρ e d)(h:P.nx ρ)(hs:aL e ah pos.line X.env=pure ae:=by rfl):DS X ρ (.Expr e pos) P:=λσ H E R q =>(Qu peS hs).to (he σ H _ R λv H1 g1 e1=>q.nx ρ σ H1 h (R.grow g1) (.grow g1))
theorem Yx{σ:St}{H H':Hp}{l:ak}{o:HO}(hk:ρ[i]?=aa (.own l ds))(g:j4 H H'):Fr0 ρ (ρ.set i (.own l ds')) H (upd H' l o):=by unfold Fr0;rw[Js hk,Zf (Jd hk)];exact jb g
theorem DS.append(i:Nat){l:ak}(hk:ρ[i]?=aa (.own l ds))(he:DE X ρ e d)(hl:ds.length<ar)(h:P.nx (ρ.set i (.own l (ds++[d]))))
  (hN:X.N[i]?=aa x:=by rfl) (hv:Vis X.env.scope x:=by first|exact aY rfl|exact bJ (aY rfl)|exact bJ (bJ rfl)) (hd:(x==k74)=ae:=by decide) (hcd:(x==k75)=ae:=by decide)
  (hst:ai [e] X.env=[(ae,aB e X.env)]:=by rfl) (hline:(p1.endLine==p2.line)=af:=by rfl)
  (hbase:aU (.Name x p) "append" X.env (aB (.Name x p) X.env)=aB (.Name x p) X.env:=by rfl) (hfew:((aP p2 (ai [e] X.env)).all (λx=>!x.1)&&(bP p2 (b7 [] X.env)).all (λx=>x.1.isSome)
   && decide (([e]:List au).length+([]:List b0).length+(if ([]:List b0).isEmpty then 0 else 1)<30))=af:=by rfl)
  (hs:aL (.Call (.Attribute (.Name x p) "append" p1) [e] [] p2) ah pos.line X.env=pure ae:=by rfl) :
  DS X ρ (.Expr (.Call (.Attribute (.Name x p) "append" p1) [e] [] p2) pos) P:=λσ H E R q=>by
 obtain⟨hσ,xs,m,en⟩:=R.own i l ds hk;refine(Qu (Y9 Pb bK cx V2 (jz hN hv hd hcd) (j9 peS jt hst) hbase hfew hline hst rfl) hs).to ?_;refine⟨_,hσ,.inl ⟨rfl,xs,.inl (.inl m)⟩,he σ H _ R λv H1 g1 e1=>⟨l,xs,v,rfl,rfl,g1 _ _ m,by rw[en.length];exact hl,?_⟩⟩;exact q.nx _ σ _ h ((R.grow g1).upd_own hk ((en.mono (jb g1)).append (.one e1))) (Yx (σ:=σ) hk g1)
theorem DS.extend(i:Nat){l:ak}(hk:ρ[i]?=aa (.own l ds))(he:DO X ρ e ds')(hl:ds.length+ds'.length<=ar)(h:P.nx (ρ.set i (.own l (ds++ds'))))
  (hN:X.N[i]?=aa x:=by rfl) (hv:Vis X.env.scope x:=by first|exact aY rfl|exact bJ (aY rfl)|exact bJ (bJ rfl)) (hd:(x==k74)=ae:=by decide) (hcd:(x==k75)=ae:=by decide)
  (hst:ai [e] X.env=[(ae,aB e X.env)]:=by rfl) (hline:(p1.endLine==p2.line)=af:=by rfl)
  (hbase:aU (.Name x p) "extend" X.env (aB (.Name x p) X.env)=aB (.Name x p) X.env:=by rfl) (hfew:((aP p2 (ai [e] X.env)).all (λx=>!x.1)&&(bP p2 (b7 [] X.env)).all (λx=>x.1.isSome)
   && decide (([e]:List au).length+([]:List b0).length+(if ([]:List b0).isEmpty then 0 else 1)<30))=af:=by rfl)
  (hs:aL (.Call (.Attribute (.Name x p) "extend" p1) [e] [] p2) ah pos.line X.env=pure ae:=by rfl) :
  DS X ρ (.Expr (.Call (.Attribute (.Name x p) "extend" p1) [e] [] p2) pos) P:=λσ H E R q=>by
 obtain⟨hσ,xs,m,en⟩:=R.own i l ds hk;refine(Qu (Y9 Pb gR PySem.F.type_list_extend j3t (jz hN hv hd hcd) (j9 peS jt hst) hbase hfew hline hst rfl) hs).to ?_;refine⟨_,hσ,.inl ⟨rfl,xs,.inl (.inl m)⟩,he σ H _ R λb ys H1 g1 n1 m1 e1=>⟨l,b,xs,ys,rfl,rfl,g1 _ _ m,m1,by rw[en.length,e1.length];exact hl,?_⟩⟩;exact q.nx _ σ _ h ((R.grow g1).upd_own hk ((en.mono (jb g1)).append (e1.mono (zb λc hc=>km _ hc)))) (Yx (σ:=σ) hk g1)
def Uy(K:k70)(F:Hp)(J:It)(ds:List D):Prop:=∀(i:Nat)(H:Hp)(A:List ak),j4 F (del H A)->(∀a∈A,H a≠ah) ->
 (i<ds.length->J.go i H)/\(ds.length<=i->J.stop i H)/\∀x H',J.yld i H x H'->j4 H H'/\∀d,ds[i]?=aa d->Enc K (del H' A) d x
def DI(X:Cx)(ρ:Rho)(tg it:au)(ds:List D):Prop:=∀σ H R,Rep X.K ρ σ H->(∀J H',j4 H H'->Uy X.K (del H' (owns ρ)) J ds->R J H')->j64 X tg it σ H R
variable{tg it:au}
theorem j49{K:k70}{F:Hp}{l:ak}{xs:List V}(sq:SqL K F l xs)(en:j5 K F ds xs):Uy K F (Itl K l) ds:=λi H A g hA=>by
 have sq':SqL K H l xs:=ji.seq (g.seq sq);refine⟨λh=>?_,λh=>⟨xs,sq',by rw[en.length];exact h⟩,λx H' ⟨e,y⟩=>?_⟩
 .obtain⟨v,hv,_⟩:=en.get (kh h);exact⟨xs,v,sq',hv⟩
 .subst e;refine⟨j4.refl _,λd hd=>?_⟩;obtain⟨v,hv,ev⟩:=en.get hd;have e:=y xs sq';rw[hv]at e;cases e;exact ev.mono g
theorem j79{K:k70}{F:Hp}{l:ak}{xs:List V}(sq:SqT K F l xs)(en:j5 K F ds xs):Uy K F (Itt K l) ds:=λi H A g hA=>by
 have sq':SqT K H l xs:=ji.seqT (g.seqT sq);refine⟨λh=>?_,λh=>⟨xs,sq',by rw[en.length];exact h⟩,λx H' ⟨e,y⟩=>?_⟩
 .obtain⟨v,hv,_⟩:=en.get (kh h);exact⟨xs,v,sq',hv⟩
 .subst e;refine⟨j4.refl _,λd hd=>?_⟩;obtain⟨v,hv,ev⟩:=en.get hd;have e:=y xs sq';rw[hv]at e;cases e;exact ev.mono g
theorem DI.lst(h:DE X ρ it (.lst ds)):DI X ρ tg it ds:=λσ H R r q=>(jap peS).to (h σ H _ r λv H1 g1 ⟨l,xs,e,sq,en⟩=>⟨l,e,⟨xs,ji.seq sq⟩,q _ H1 g1 (j49 sq en)⟩)
theorem DI.tup(h:DE X ρ it (.tup ds)):DI X ρ tg it ds:=λσ H R r q=>(jdm peS).to (h σ H _ r λv H1 g1 ⟨l,xs,e,sq,en⟩=>⟨l,e,⟨xs,ji.seqT sq⟩,q _ H1 g1 (j79 sq en)⟩)
noncomputable def upto(lo:Int)(n:Nat):List D:=(aK n).map λk=>D.int (lo+(k:Nat))
theorem Og{K:k70}{F:Hp}(lo:Int)(n:Nat):Uy K F (Itr lo n) (upto lo n):=λi H A g hA=>by
 have hl:(upto lo n).length=n:=by unfold upto;rw[xg,cN]
 rw[hl];refine⟨λh=>h,λh=>h,λx H' ⟨e,y⟩=>?_⟩;subst e;refine⟨j4.refl _,λd hd=>?_⟩;unfold upto at hd;rw[X6]at hd;cases z:(aK n)[i]? with
 |none=>rw[z]at hd;cases hd
 |some k =>
  rw[z]at hd;have ek:k=i:=by have:=f7 (n:=n) (i:=i) (by have:=(Xd.mp z).1;rwa [cN]at this);rw[this]at z;exact(aC z).symm
  subst ek;cases hd;exact y
theorem DI.range1 {n:Int} (h:DT X ρ a (.int n)) (hm:X.mg "range" = ah) (h1:-(2^62)<=n) (h2:n<2^62) (hg:Gl X "range":=by rfl) (hs:ai [a] X.env=[(ae,aB a X.env)]:=by rfl):DI X ρ tg (.Call (.Name "range" p) [a] [] pos) (upto 0 n.toNat):=λσ H R r q =>(j3j hg hm (j9 peS jt hs) hs).to (h σ H _ r λv H1 g1 e=>⟨n,by rw[show v=.int n from e],h1,h2,q _ H1 g1 (Og 0 _)⟩)
theorem DI.range2 {m n:Int} (h:DT X ρ a (.int m)) (h':DT X ρ b (.int n)) (hm:X.mg "range" = ah) (h1:-(2^62)<=m) (h2:m<2^62) (h3:-(2^62)<=n) (h4:n<2^62) (hg:Gl X "range":=by rfl) (hs:ai [a,b] X.env=[(ae,aB a X.env),(ae,aB b X.env)]:=by rfl)
  (hs2:ai [b] X.env=[(ae,aB b X.env)]:=by rfl) (hs3:ai [a,b] X.env=(ae,aB a X.env)::ai [b] X.env:=by rfl):DI X ρ tg (.Call (.Name "range" p) [a,b] [] pos) (upto m (n-m).toNat):=λσ H R r q =>
 (j3i hg hm (j9 peS (j9 peS jt hs2) hs3) hs hs2).to (h σ H _ r λv H1 g1 e=>h' σ H1 _ (r.grow g1) λu H2 g2 e2=>⟨m,n,by rw[show v=.int m from e,show u=.int n from e2],⟨h1,h2,h3,h4⟩,q _ H2 (g1.trans g2) (Og m _)⟩)
def j65(X:Cx)(tg:au):TG:=λv σ H Q=>∀pins s u,Inv X pins σ H s->RelV v u->ax (aA X.prog X.w) X.A (de tg X.env u) (λ_ s'=>∃σ' H',Inv X pins σ' H' s'/\Q σ' H') X.xe s
theorem pgS:PG X tg (j65 X tg):=λpins s σ H v u Q I r h=>h pins s u I r
theorem PG.to{t:TG}{σ:St}{H:Hp}{v:V}{Q:St->Hp->Prop}(h:PG X tg t)(q:t v σ H Q):j65 X tg v σ H Q:=λpins s u I r=>h pins s σ H v u Q I r q
def DG(X:Cx)(ρ:Rho)(tg:au)(d:D)(ρ':Rho):Prop:=(∀b∈owns ρ',b∈owns ρ)/\∀σ H v Q,Rep X.K ρ σ H->Enc X.K (del H (owns ρ)) d v->(∀σ',Rep X.K ρ' σ' H->Q σ' H)->j65 X tg v σ H Q
theorem DG.name(i:Nat)(hN:X.N.Nodup)(hi:X.N[i]?=aa x:=by rfl)(hx:Loc X.env.scope x:=by first|exact aY rfl|exact bJ rfl)(hf:X.fn x=af\/X.env.scope.names.lookup x=aa .local:=by first|exact .inl rfl|exact .inr rfl):DG X ρ (.Name x p) d (ρ.set i (.val d)) :=
 ⟨λb hb=>(jd rfl).subset hb,λσ H v Q R en q=>(Bm hN hi hx hf).to (q _ (R.set_val en))⟩
theorem DS.for(W:Nat->Rho->Prop)(hi:DI X ρ tg it ds)(h0:W 0 ρ)(hs:∀i d ρ',ds[i]?=aa d->W i ρ'->∃ρ2,DG X ρ' tg d ρ2/\DSs X ρ2 body { nx:=W (i+1),rt:=P.rt,bk:=P.nx,ct:=W (i+1),ex:=P.ex })
  (hd:∀ρ',W ds.length ρ'->P.nx ρ') (hc:X.calm=af) (hp:fv (aA X.prog X.w) X.A X.env X.xe) (hf:∀x,aX it X.env x=pure x:=by intro _;rfl):DS X ρ (.For tg it body [] pos) P:=λσ H E R q=>by
 refine(jdj hp hc piS pgS zr hf).to (hi σ H _ R λJ H1 g1 ok=>?_);refine⟨λi m σ' H'=>∃ρ',W i ρ'/\Rep X.K ρ' σ' H'/\Fr0 ρ ρ' H1 H'/\m=ds.length-i/\i<=ds.length,⟨ds.length,ρ,h0,R.grow g1,Fr0.refl _ _,rfl,d4 _⟩,?_⟩;rintro i m σ' H' ⟨ρ',w,R',f,rfl,hle⟩;obtain⟨go,stop,yld⟩:=ok i H' (owns ρ') f λa ha=>by obtain⟨xs,e⟩:=R'.owned a ha;rw[e];simp
 by_cases hlt:i<ds.length
 .refine .inr ⟨go hlt,λσ2 H2=>∃ρ2,W (i+1) ρ2/\Rep X.K ρ2 σ2 H2/\Fr0 ρ ρ2 H1 H2,λσ2 H2 ⟨ρ2,w2,R2,f2⟩=>⟨ds.length-(i+1),by omega,ρ2,w2,R2,f2,rfl,hlt⟩,λx H2 y=>?_⟩;obtain⟨g2,en⟩:=yld x H2 y;obtain⟨ρ2,⟨sub,hG⟩,hB⟩:=hs i ds[i] ρ' (kh hlt) w;refine hG σ' H2 x _ (R'.grow g2) (en _ (kh hlt)) λσ3 R3=>?_;have f2:Fr0 ρ ρ2 H1 H2:=j4.trans f (j4.trans (Fr0.grow g2) (Fr0.drop sub));refine hB σ3 H2 _ R3 ⟨λρ3 σ4 H4 n R4 f4=>⟨ρ3,n,R4,f2.trans f4⟩,λρ3 σ4 H4 n R4 f4=>q.nx ρ3 σ4 H4 n R4 ((Fr0.grow g1).trans (f2.trans f4)),λρ3 σ4 H4 n R4 f4=>⟨ρ3,n,R4,f2.trans f4⟩,λr v H4 n z=>q.rt r v H4 n (Nq.step ((Fr0.grow g1).trans f2) z),λx ρ3 σ4 H4 n R4 f4=>q.ex x ρ3 σ4 H4 n R4 ((Fr0.grow g1).trans (f2.trans f4))⟩
 .have e:i=ds.length:=by omega
  subst e;exact .inl ⟨stop (X5 _),q.nx ρ' σ' H' (hd ρ' w) R' ((Fr0.grow g1).trans f)⟩
end
noncomputable def qb(N:List ao)(ds:List D):Rho:=ds.map Sl.val++az (N.length-ds.length) Sl.un
theorem Qh(N:List ao)(ds:List D):owns (qb N ds)=[]:=by
 unfold owns qb;rw[List.filterMap_append];have h1:(ds.map Sl.val).filterMap Sl.addr=[]:=List.filterMap_eq_nil_iff.mpr λs hs=>by obtain⟨d,_,rfl⟩:=Xe.mp hs;rfl
 have h2:(az (N.length-ds.length) Sl.un).filterMap Sl.addr=[]:=List.filterMap_eq_nil_iff.mpr λs hs=>by rw[(List.mem_replicate.mp hs).2];rfl
 rw[h1,h2];rfl
theorem V0{K:k70}{H:Hp}{N:List ao}{ds:List D}{vs:List V}(tb:TabOk K H)(h:j5 K H ds vs):Rep K (qb N ds) (start N vs) H:=by
 have ho:=Qh N ds;have hl:=h.length;refine⟨by unfold qb start;simp[hl],λi d e=>?_,λi a l e=>?_,by rw[ho];exact List.nodup_nil,λi a o y e=>?_,tb⟩
 .rw[ho,J6];unfold qb at e;by_cases z:i<ds.length
  .rw[Pa (by simpa using z),X6]at e;rw[kh z]at e;cases e;obtain⟨v,hv,en⟩:=h.get (kh z);refine⟨v,?_,en⟩;unfold start;rw[Pa (by rw[xg,hl];exact z),X6,hv];rfl
  .rw[dq (by simpa using z)]at e;have:=Xn e;cases(List.mem_replicate.mp this).2
 .have:=Jd e;rw[ho]at this;cases this
 .unfold qb at e;rcases Ph.mp (Xn e)with z|z
  .obtain⟨d,_,q⟩:=Xe.mp z;cases q
  .cases(List.mem_replicate.mp z).2
section
variable{P:ay}{w:aD}{K:k70}{mg:k73}{base:aG}{x qual:ao}{st:aQ}{f:ak}{fd:aM}{N ps:List ao}{k:Nat}
def Yl(K:k70)(f:ak)(cdv:aj):Prop:=∃(oc:aj)(od:Option ak)(fd:aM)(sl:Array (Option aj)),K.lookup f=aa ⟨oc,od,.func fd,sl⟩/\fd.code=cdv
theorem Fun.okC{sp:Sp}(F:Fun K x qual st f fd)(S:FnScope N ps (j0 st))(len:∀vs H Q E,sp vs H Q E->vs.length=ps.length)
  (hbody:∀(cdv:aj)(A:aF)(outer:List du)(s:aq)(H:Hp)(vs:List V)(Q:VK) (E:XK),Yl K f cdv->Room k (A.deeper (bx qual (j0 st) s.heap.objs.size f cdv))->sp vs H Q E ->
   ∃t,PSs (qt CX0 P w K mg base N qual (j0 st) f cdv A outer s H E).nox (je st) t/\t { nx:=λ_ H'=>Q .non H',rt:=Q } (start N vs) H):FnOk P w K mg base CX0 (k+1) f fd ps sp:=by
 obtain⟨oc,od,dV,kV,doc,pm,an,cdv,ct,osl,rfl,lk,hcd⟩:=F.ex;refine Cr lk hcd S len λA outer s H vs Q E hr hsp=>?_;obtain⟨t,h,q⟩:=hbody cdv A outer s H vs Q E ⟨oc,od,_,osl,lk,rfl⟩ hr hsp;exact⟨t,h.nox,q⟩
theorem Bw{S:List D->D->Prop}(F:Fun K x qual st f fd)(Sc:FnScope N ps (j0 st))(hl:∀ds d,S ds d->ds.length=ps.length)
  (hbody:∀(cdv:aj)(A:aF)(outer:List du)(s:aq)(H:Hp)(E:XK),Yl K f cdv->Room k (A.deeper (bx qual (j0 st) s.heap.objs.size f cdv))->∀ds d,S ds d ->
   DSs (qt CX0 P w K mg base N qual (j0 st) f cdv A outer s H E).nox (qb N ds) (je st) { nx:=λ_=>d=.non,rt:=λr=>r.d=d }):FnOk P w K mg base CX0 (k+1) f fd ps (spP K S):=by
 refine FnOk.toP (F.okC Sc (λvs H Q E ⟨ds,d,tb,en,hS,_⟩=>by rw[en.length];exact hl ds d hS) λcdv A outer s H vs Q E hcv hr ⟨ds,d,tb,en,hS,q⟩=>⟨_,zr,?_⟩);have ho:=Qh N ds;refine hbody cdv A outer s H E hcv hr ds d hS (start N vs) H _ (V0 tb en) ⟨λρ' σ' H' n R f=>?_,λ_ _ _ z=>z.elim,λ_ _ _ z=>z.elim,λr v H' n z=>?_,λ_ _ _ _ z=>z.elim⟩
 .subst n;unfold Fr0 at f;rw[ho,J6]at f;exact q _ H' (f.trans ji) rfl
 .cases r with
  |val d' =>cases(show d'=d from n);obtain⟨g,en'⟩:=z;rw[ho,J6]at g;exact q v H' g en'
  |fresh l =>cases(show D.lst l=d from n);obtain⟨a,xs,e,g,m,en'⟩:=z;rw[ho,J6]at g;exact q v H' (g.trans ji) ⟨a,xs,e,.inl (.inl m),en'.mono ji⟩
theorem j7v{S:List D->List D->Prop}(F:Fun K x qual st f fd)(Sc:FnScope N ps (j0 st))(hl:∀ds d,S ds d->ds.length=ps.length)
  (hbody:∀(cdv:aj)(A:aF)(outer:List du)(s:aq)(H:Hp)(E:XK),Yl K f cdv->Room k (A.deeper (bx qual (j0 st) s.heap.objs.size f cdv))->∀ds l,S ds l ->
   DSs (qt CX0 P w K mg base N qual (j0 st) f cdv A outer s H E).nox (qb N ds) (je st) { nx:=λ_=>False,rt:=λr=>r=.fresh l }):FnOk P w K mg base CX0 (k+1) f fd ps (spF K S):=by
 refine FnOk.toF (F.okC Sc (λvs H Q E ⟨ds,d,tb,en,hS,_⟩=>by rw[en.length];exact hl ds d hS) λcdv A outer s H vs Q E hcv hr ⟨ds,l,tb,en,hS,q⟩=>⟨_,zr,?_⟩);have ho:=Qh N ds;refine hbody cdv A outer s H E hcv hr ds l hS (start N vs) H _ (V0 tb en) ⟨λρ' σ' H' n R f=>n.elim,λ_ _ _ z=>z.elim,λ_ _ _ z=>z.elim,λr v H' n z=>?_,λ_ _ _ _ z=>z.elim⟩;cases(show r=.fresh l from n);obtain⟨a,xs,e,g,m,en'⟩:=z;rw[ho,J6]at g;subst e;refine q a xs H' (g.trans ji) ?_ m en';cases y:H a with
 |none=>rfl
 |some o=>have:=g a o y;rw[zf (X3.mpr rfl)]at this;cases this
end
section
variable{prog:ay}{w:aD}{A:aF}{R:fi->aq->Prop}{s:aq}
theorem Io{elt target iter:au}{ifs:List au}{scope:bG}{pos:aR}{it acc:aj}{env:du}(I:Nat->aq->Prop)
  (turn:∀n s,I n s->ax (aA prog w) A (dQ it) (λr s₁=>match r with
   |none=>R (.ok .next) s₁
   |some v=>ax (aA prog w) A (eZ target it v) (λ_ s₁'=>ax (aA prog w) A (de target env v) (λ_ s₂ =>
     ax (aA prog w) A (forIn ifs af λc r=>if r=af then do let ok <-eX c env (aB c env);pure (cu ok)else pure (cu r)) (λok s₃ =>
      if ok=af then ax (aA prog w) A (aB elt env) (λx s₄ =>
       ax (aA prog w) A (call (.builtin "list.append") [acc,x]) (λ_ s₅=>∃m,m<n/\I m s₅) (λ_ _=>False) s₄) (λ_ _=>False) s₃
      else ∃m,m<n/\I m s₃) (λ_ _=>False) s₂) (λ_ _=>False) s₁') (λ_ _=>False) s₁) (λ_ _=>False) s)
  (n:Nat) (h:I n s) :
  cF (aA prog w) A (.compLoop (.ListComp elt [⟨target,iter,ifs,0⟩] scope pos) 0 it acc env) R s:=by
 refine codeAny_loop rfl I (λn s hI=>?_) n h;show ax _ A ((compTurn (.ListComp elt [⟨target,iter,ifs,0⟩] scope pos) 0 it acc env).onRaise (λx=>do noteFrame x env;theTreesLotGoes x)) _ _ s;refine wpAny_noted ?_;rw[compTurn_list];refine ag (fG (ag (bS (turn n s hI) (λr s₁ h₁=>?_) λ_ _ h'=>h'.elim)));cases r with
 |none=>exact av h₁
 |some v =>
  refine ag (bS h₁ (λ_ s₁' h₁'=>?_) λ_ _ h'=>h'.elim);refine ag (bS h₁' (λ_ s₂ h₂=>ag (bS h₂ (λok s₃ h₃=>?_) λ_ _ h'=>h'.elim)) λ_ _ h'=>h'.elim);cases ok with
  |false=>exact av ⟨rfl,h₃⟩
  |true =>exact ag (ag (bS h₃ (λx s₄ h₄=>ag (bS h₄ (λ_ s₅ h₅=>av (av ⟨rfl,h₅⟩)) λ_ _ h'=>h'.elim)) λ_ _ h'=>h'.elim))
end
noncomputable def zu(env:du):List (ao×bH)->List (ao×ak)->List (ao×ak)
 |[],acc=>acc
 |(n,k)::r,acc=>zu env r (if k==.free then(match env.cells.lookup n with|some a=>(n,a)::acc|none=>acc)else acc)
theorem Ot{scope:bG}{env:du}(h:∀y∈scope.names,y.2=.free->(env.cells.lookup y.1).isSome=af):closureFor scope env=pure (zu env scope.names []):=by
 simp only[closureFor];have step:∀(names:List (ao×bH)) (acc:List (ao×ak)),(∀y∈names,y.2=.free->(env.cells.lookup y.1).isSome=af) ->
   (forIn names acc (λx r=>(do if (x.2==bp)=af then(do let a <-cellOf env x.1;pure (cu ((x.1,a)::r)))else pure (cu r):kZ _)):kZ _)=pure (zu env names acc):=by
  intro names;induction names with
  |nil=>intro acc _;rfl
  |cons y r ih =>
   intro acc hy;obtain⟨n,k⟩:=y;rw[d6];by_cases e:(k==bp)=af
   .have hk:k=.free:=by simpa using e
    have hs:=hy (n,k) (xm ..) hk;obtain⟨a,ha⟩:=Xm.mp hs;have hc:cellOf env n=pure a:=by unfold cellOf;rw[ha]
    simp only[e,if_true,hc,pure_bind];rw[ih _ λz hz=>hy z (km _ hz)];simp only[zu,e,if_true,ha]
   .have e':(k==bp)=ae:=by simpa using e
    simp only[e',Xq,if_false,pure_bind];rw[ih _ λz hz=>hy z (km _ hz)];simp only[zu,e',Xq,if_false]
 have:=step scope.names [] h;rw[show(forIn scope.names ([]:List (ao×ak)) λx r=>_)=_ from this];rfl
theorem Di{env:du}{y:ao}{c:ak}:∀{names:List (ao×bH)} {acc:List (ao×ak)},(∀y c,acc.lookup y=aa c->env.cells.lookup y=aa c)->(zu env names acc).lookup y=aa c->env.cells.lookup y=aa c
 |[],acc,h,q=>h y c q
 |(n,k)::r,acc,h,q=>by
  unfold zu at q;refine Di (acc:=_) ?_ q;intro z d hz;split at hz
  .split at hz
   .rename_i a ha;rw[Xc]at hz;split at hz
    .rename_i e;have e':z=n:=by simpa using e
     subst e';cases hz;exact ha
    .exact h z d hz
   .exact h z d hz
  .exact h z d hz
theorem Ou{env:du}{y:ao}:∀{names:List (ao×bH)} {acc:List (ao×ak)},(acc.lookup y).isSome=af->((zu env names acc).lookup y).isSome=af
 |[],acc,h=>h
 |(n,k)::r,acc,h=>by
  unfold zu;refine Ou ?_;split
  .split
   .rw[Xc];split
    .rfl
    .exact h
   .exact h
  .exact h
theorem Uo{env:du}{y:ao}(hs:(env.cells.lookup y).isSome=af):∀{names:List (ao×bH)} {acc:List (ao×ak)},(y,bp)∈names->((zu env names acc).lookup y).isSome=af
 |[],acc,h=>nomatch h
 |(n,k)::r,acc,h=>by
  unfold zu;rcases xn.mp h with e|h
  .cases e;refine Ou ?_;obtain⟨a,ha⟩:=Xm.mp hs;rw[if_pos (by rfl),ha];rw[Xc];simp
  .exact Uo hs h
noncomputable def Jt(scope:bG)(env:du)(N:List ao)(cs:List Nat):Bool :=
 scope.names.all (λy=>(y.2 != .cell || scope.names.lookup y.1==aa .cell)&&(y.2 != .local || scope.names.lookup y.1==aa .local)&&(y.2 != .free || ((env.cells.lookup y.1).isSome&&(env.kindOf y.1==aa .cell || env.kindOf y.1==aa .free)))) &&
 (aK N.length).all (λj=>cs.contains j || (match N[j]? with|some y=>scope.names.lookup y != aa .local&&scope.names.lookup y != aa .cell|none=>af))
theorem lookup_mem{α β:Type}[BEq α][LawfulBEq α]{l:List (α×β)}{a:α}{b:β}(h:l.lookup a=aa b):(a,b)∈l:=by
 induction l with
 |nil=>cases h
 |cons x r ih =>
  obtain⟨c,d⟩:=x;rw[Xc]at h;split at h
  .rename_i e;cases h;have e':a=c:=by simpa using e
   subst e';exact xm ..
  .exact km _ (ih h)
theorem J9{env:du}{x:ao}{k':bH}:∀{names:List (ao×bH)},
  (names.map λ(n,k)=>if (k==bp&&env.scope.kind==.function&&env.kindOf n==aa .cell) then(n,bU) else(n,k)).lookup x=aa k' ->
  ∃k,names.lookup x=aa k/\(k'=k\/(k=.free/\k'=.cell))
 |[],h=>by cases h
 |(n,k)::r,h=>by
  rw[X4]at h;rw[Xc];by_cases hc:(k==bp&&env.scope.kind==.function&&env.kindOf n==aa .cell)=af
  .dsimp only at h;rw[if_pos hc,Xc]at h;cases e:x==n with
   |true =>
    rw[e]at h;cases h;have:(k==bp)=af:=by
     cases z:k==bp with
     |true=>rfl
     |false=>rw[z]at hc;simp at hc
    exact⟨k,rfl,.inr ⟨by simpa using this,rfl⟩⟩
   |false=>rw[e]at h;exact J9 h
  .dsimp only at h;rw[if_neg hc,Xc]at h;cases e:x==n with
   |true=>rw[e]at h;cases h;exact⟨_,rfl,.inl rfl⟩
   |false=>rw[e]at h;exact J9 h
theorem Vw:∀(names:List (ao×bH)) (n:Nat) (acc:List (ao×ak)),aW n names acc=aW n names []++acc
 |[],_,_=>rfl
 |(x,k)::r,n,acc=>by
  unfold aW;split
  .rw[Vw r (n+1) ((x,n)::acc),Vw r (n+1) [(x,n)],P0];rfl
  .exact Vw r n acc
theorem Ov:∀{names:List (ao×bH)} {n:Nat} {x:ao} {c:ak},(x,c)∈aW n names []->(x,bU)∈names/\n<=c
 |[],_,_,_,h=>nomatch h
 |(y,k)::r,n,x,c,h=>by
  unfold aW at h;split at h
  .rename_i hk;rw[Vw]at h;rcases Ph.mp h with h|h
   .have q:=Ov h;exact⟨km _ q.1,Nat.le_of_succ_le q.2⟩
   .cases X3.mp h;have hk:k=bU:=by simpa using hk
    subst hk;exact⟨xm ..,X5 _⟩
  .have q:=Ov h;exact⟨km _ q.1,q.2⟩
theorem Vg{β:Type}:∀{l m:List (ao×β)} {y:ao},(l++m).lookup y=(l.lookup y).or (m.lookup y)
 |[],m,y=>rfl
 |(x,b)::r,m,y=>by
  rw[tu,Xc,Xc];split
  .rfl
  .exact Vg
theorem Dj{names:List (ao×bH)}{n:Nat}{acc:List (ao×ak)}{y:ao}{c:ak}(h:(aW n names acc).lookup y=aa c) :
  ((y,c)∈aW n names []/\(y,bU)∈names/\n<=c)\/((aW n names []).lookup y=ah/\acc.lookup y=aa c):=by
 rw[Vw,Vg]at h;cases e:(aW n names []).lookup y with
 |some c'=>rw[e]at h;cases h;have q:=lookup_mem e;exact .inl ⟨q,Ov q⟩
 |none=>rw[e]at h;exact .inr ⟨rfl,h⟩
theorem jfw{names:List (ao×bH)}{n:Nat}{acc:List (ao×ak)}{y:ao}(h:(y,bU)∉names):(aW n names acc).lookup y=acc.lookup y:=by
 rw[Vw,Vg];cases e:(aW n names []).lookup y with
 |some c'=>exact absurd (Ov (lookup_mem e)).1 h
 |none=>rfl
theorem jc4{names:List (ao×bH)}{n:Nat}{acc:List (ao×ak)}{y:ao}(h:(acc.lookup y).isSome=af):∃c,(aW n names acc).lookup y=aa c:=by
 rw[Vw,Vg];cases e:(aW n names []).lookup y with
 |some c'=>exact⟨c',rfl⟩
 |none=>obtain⟨c,hc⟩:=Xm.mp h;exact⟨c,hc⟩
theorem K8{M:ja}{A:aF}{E:k71}{s:aq}{scope:bG}{globals:ak}{closure:List (ao×ak)}{qual:ao}{env:du}{Q:du->aq->Prop}
  (hQ:Q { scope:=scope,locals:=s.heap.objs.size,globals:=globals,cells:=aW (s.heap.objs.size+1) scope.names closure,qual:=qual,func:=ah,code:=env.code,frame:=env.frame,builtins:=env.builtins }
   { s with heap:=ie (s.heap.push { cls:=.type "dict",data:=.dict #[] }) scope.names }) :
  ax M A (gT scope globals closure [] qual ah .none (aa env)) Q E s:=by
 simp only[gT,f6,if_true];refine ag (wpAny_alloc ?_);refine ag (wpAny_layCells _ (λname kind cells=>by cases hkc:kind==bU<;>simp[hkc]) _ _ _ _ ?_);rw[show({ s with heap:=s.heap.push { cls:=.type "dict",data:=.dict #[] } }:aq).heap.objs.size=s.heap.objs.size+1 from Xf ..];exact ag (av (av hQ))
noncomputable abbrev cCx(X:Cx)(scope:bG)(C:ak)(s:aq)(H:Hp)(fp:List ak)(pn:k72):Cx :=
 { X with env:=compEnvC scope (aW (C+1) scope.names (zu X.env scope.names [])) C X.env,s₀:=s,H₀:=H,outer:=X.stack,stack:=X.stack,ex:=fp,fn:=λx=>scope.names.lookup x==aa .cell,pn:=pn,xe:=λ_ _=>False }
noncomputable def Wt(scope:bG)(y:ao):Bool:=scope.names.lookup y==aa .local || scope.names.lookup y==aa .cell
theorem Zc{env:du}:∀{names:List (ao×bH)} {x:ao},names.lookup x=aa .cell ->
  (names.map λ(n,k)=>if (k==bp&&env.scope.kind==.function&&env.kindOf n==aa .cell) then(n,bU) else(n,k)).lookup x=aa .cell
 |[],_,h=>by simp at h
 |(n,k)::r,x,h=>by
  have ih:=@Zc env r x;rw[X4];cases hx:x==n with
  |true =>simp only[Xc,hx]at h;cases h;simp[Xc,hx]
  |false =>
   simp only[Xc,hx]at h;dsimp only;by_cases hc:(k==bp&&env.scope.kind==.function&&env.kindOf n==aa .cell)=af
   .rw[if_pos hc];simp only[Xc,hx];exact ih h
   .rw[if_neg hc];simp only[Xc,hx];exact ih h
theorem j02{X:Cx}{scope:bG}{C:ak}{s:aq}{H:Hp}{fp:List ak}{pn:k72}{y:ao}(h:Wt scope y=af):Loc (cCx X scope C s H fp pn).env.scope y:=by
 unfold Wt at h;rw[cG]at h;rcases h with h|h
 .exact .inl (iY (by simpa using h))
 .exact .inr (Zc (by simpa using h))
theorem j2v{X:Cx}{scope:bG}{C:ak}{s:aq}{H:Hp}{fp:List ak}{pn:k72}{y:ao}(h:Wt scope y=af):(cCx X scope C s H fp pn).fn y=af\/(cCx X scope C s H fp pn).env.scope.names.lookup y=aa .local:=by
 unfold Wt at h;rw[cG]at h;rcases h with h|h
 .exact .inr (iY (by simpa using h))
 .exact .inl h
def DTs(X:Cx)(ρ:Rho)(ifs:List au)(b:Bool):Prop:=match ifs with
 |[]=>b=af
 |[c]=>DB X ρ c b
 |_=>False
theorem DTs.nil{X:Cx}{ρ:Rho}:DTs X ρ [] af:=rfl
theorem DTs.one{X:Cx}{ρ:Rho}{c:au}{b:Bool}(h:DB X ρ c b):DTs X ρ [c] b:=h
theorem DTs.run{X:Cx}{ρ:Rho}{ifs:List au}{b:Bool}(h:DTs X ρ ifs b){pins:k72}{σ:St}{H:Hp}{s:aq}(I:Inv X pins σ H s)(R:Rep X.K ρ σ H) :
  ax (aA X.prog X.w) X.A (forIn ifs af λc r=>if r=af then do let ok <-eX c X.env (aB c X.env);pure (cu ok)else pure (cu r)) (λok s'=>ok=b/\∃H',Inv X pins σ H' s'/\j4 H H') X.xe s:=by
 match ifs,h with
 |[],h=>exact wpAny_tests_nil ⟨h.symm,H,I,j4.refl H⟩
 |[c],h=>exact wpAny_tests_one (thn (h σ H (λk H'=>k=b/\j4 H H') R (λH' g=>⟨rfl,g⟩) pins s I) λk s' ⟨H',I',e,g⟩=>⟨e,H',I',g⟩)
theorem Rep.weaken{K:k70}{ρ:Rho}{σ σ':St}{H:Hp}(R:Rep K ρ σ H)(hl:σ'.length=σ.length)(h:∀(i:Nat),ρ[i]?≠aa .un->σ'[i]?=σ[i]?):Rep K ρ σ' H :=
 ⟨by rw[hl,R.len],λi d e=>let ⟨v,q,z⟩:=R.val i d e;⟨v,by rw[h i (by rw[e];simp)];exact q,z⟩,λi a ds e=>let ⟨q,z⟩:=R.own i a ds e;⟨by rw[h i (by rw[e];simp)];exact q,z⟩,R.nd,λi a o x e=>let ⟨q,z⟩:=R.raw i a o x e;⟨by rw[h i (by rw[e];simp)];exact q,z⟩,R.tb⟩
noncomputable def mask(cs:List Nat)(σ:St):St:=σ.mapIdx λj v=>if cs.contains j then ah else v
theorem Rx(cs:List Nat)(σ:St):(mask cs σ).length=σ.length:=by unfold mask;simp
theorem j6z{cs:List Nat}{σ:St}{j:Nat}{v:V}(h:(mask cs σ)[j]?=aa (aa v)):j∉cs/\σ[j]?=aa (aa v):=by
 unfold mask at h;rw[hZ]at h;cases e:σ[j]? with
 |none=>rw[e]at h;cases h
 |some u =>
  rw[e]at h;have h':(if cs.contains j then ah else u)=aa v:=aC h;by_cases z:cs.contains j=af
  .rw[if_pos z]at h';cases h'
  .rw[if_neg z]at h';subst h';exact⟨λy=>z (by simpa using y),rfl⟩
theorem j6y{cs:List Nat}{σ:St}{j:Nat}(h:j∉cs):(mask cs σ)[j]?=σ[j]?:=by
 unfold mask;rw[hZ];cases e:σ[j]? with
 |none=>rfl
 |some u=>simp[h]
def Wk(ρ2 ρ:Rho):Prop:=∀K σ H,Rep K ρ2 σ H->Rep K ρ σ H
theorem Zg(H:Hp)(A B:List ak):del (del H A) B=del H (A++B):=funext λb=>by unfold del;by_cases h1:b∈A<;>by_cases h2:b∈B<;>simp[h1,h2]
structure Loose(X:Cx)(pins:k72)(H:Hp)(C:ak):Prop where
 free:H C=ah
 loc:C≠X.env.locals
 new:X.s₀.heap.objs.size<=C
 cell:∀x c,X.env.cells.lookup x=aa c->c≠C
 pin:∀p∈X.pn++pins,p.1≠C
section
variable{X:Cx}{pins:k72}{σ:St}{H2:Hp}{s2:aq}{ρ:Rho}{tg elt iter:au}{ifs:List au}{scope:bG}{pos:aR}{ds:List D}{cs:List Nat}{p:D->Bool}{g:D->D}
theorem Dg{J:It}{fp:List ak}{it:ak}{tn:Nat->aG->Prop}(I2:Inv X pins σ H2 s2)(R2:Rep X.K ρ σ H2)(T:Turn X.prog X.w X.K tg J fp it tn)(st2:tn 0 s2.heap)(f2:∀b∈fp,Qe X pins H2 b)
  (ok:Uy X.K (del H2 (owns ρ)) J ds) (hc:X.calm=af) (hkind:scope.kind=.function) (hok:Jt scope X.env X.N cs=af) (hcs:∀j∈cs,ρ[j]?=aa .un) (hsz:ds.length<=ar)
  (hb:∀C s H fp pn,∀d∈ds,∃ρ2,DG (cCx X scope C s H fp pn) ρ tg d ρ2/\Wk ρ2 ρ/\owns ρ2=owns ρ/\DTs (cCx X scope C s H fp pn) ρ2 ifs (p d)/\(p d=af->DE (cCx X scope C s H fp pn) ρ2 elt (g d)))
  {E:k71} {RR:aj->ak->fi->aq->Prop}
  (hRR:∀D C xs H' s' m,Inv X pins σ H' s'->j4 H2 H'->H2 D=ah->H' D=aa (.lst xs)->j5 X.K (del H' (D::owns ρ)) ((ds.filter p).map g) xs->s'.heap.Ns C m->Loose X pins H' C->RR (.ref D) C (.ok .next) s') :
  ax (aA X.prog X.w) X.A (newList []) (λacc s₃=>ax (aA X.prog X.w) X.A (gT scope X.env.globals (zu X.env scope.names []) [] X.env.qual ah .none (aa X.env)) (λcenv s₄ =>
   cF (aA X.prog X.w) X.A (.compStart (.ListComp elt [⟨tg,iter,ifs,0⟩] scope pos) 0 (.ref it) acc { cenv with scope:=relabel scope X.env }) (RR acc cenv.locals) s₄) E s₃) E s2:=by
 unfold Jt at hok;rw[Xb]at hok;obtain⟨hn,hN⟩:=hok;have hn':∀y∈scope.names,(y.2=.cell->scope.names.lookup y.1=aa .cell)/\(y.2=.free->(X.env.cells.lookup y.1).isSome=af/\(X.env.kindOf y.1=aa .cell\/X.env.kindOf y.1=aa .free)):=λy hy=>by have:=Xp.mp hn y hy;simp only[Xb,bne_iff_ne,ne_eq,cG,beq_iff_eq]at this;obtain⟨⟨a,_⟩,c⟩:=this;exact⟨λe=>a.elim (λz=>absurd e z) id,λe=>c.elim (λz=>absurd e z) id⟩
 have nocell:∀{y:ao},scope.names.lookup y=aa .free->(y,bU)∉scope.names:=λ{y} h z=>by have q:=(hn' _ z).1 rfl;rw[h]at q;cases q
 have hloc:∀(j:Nat)(y:ao),X.N[j]?=aa y->j∉cs->scope.names.lookup y≠aa .local/\scope.names.lookup y≠aa .cell:=λj y hj hc=>by
  have hlt:j<X.N.length:=(Xd.mp hj).1;have:=Xp.mp hN j (Xr.mpr hlt);rw[hj]at this;simp only[cG,Xb,bne_iff_ne,ne_eq]at this;rcases this with z|z
  .exact absurd (by simpa using z) hc
  .exact z
 have cl_of:∀{y:ao}{c:ak},(zu X.env scope.names []).lookup y=aa c->X.env.cells.lookup y=aa c:=λ{y c} h=>Di (λ_ _ z=>by cases z) h;refine bM (K8 ?_);dsimp only;generalize hH2:s2.heap.push { cls:=.type "list",dict:=ah,data:=.seq ([]:List aj).toArray }=hp2;have keep1:∀b o,hp2.get? b=aa o->(ie (hp2.push { cls:=.type "dict",data:=.dict #[] }) scope.names).get? b=aa o:=λb o e=>kY _ _ b o (kj _ e);have hns₁:(ie (hp2.push { cls:=.type "dict",data:=.dict #[] }) scope.names).Ns hp2.objs.size (λ_=>ah):=(Heap.Ns.new hp2 (.type "dict")).keeps (kY _ _);have okl:=cellsFrom_ok scope.names (hp2.push { cls:=.type "dict",data:=.dict #[] }) (hp2.objs.size+1) [] ⟨λ_ _ hm=>(nomatch hm),gd⟩ (by rw[Xf];exact X5 _);rw[Xf]at okl;generalize ie (hp2.push { cls:=.type "dict",data:=.dict #[] }) scope.names=h₁ at keep1 hns₁ okl ⊢;have hC:hp2.objs.size=s2.heap.objs.size+1:=by rw[<-hH2,Xf]
 have hDC:s2.heap.objs.size≠hp2.objs.size:=by rw[hC];exact X8 (Pz _)
 have hCle:s2.heap.objs.size<=hp2.objs.size:=by rw[hC];exact Xv _
 have below:∀b,b<s2.heap.objs.size->b≠hp2.objs.size/\b≠s2.heap.objs.size:=λb hb=>⟨by rw[hC];exact X8 (cO hb),X8 hb⟩
 have old:∀b o,s2.heap.get? b=aa o->h₁.get? b=aa o:=λb o e=>keep1 b o (hH2▸kj _ e);have hacc:h₁.get? s2.heap.objs.size=aa { cls:=.type "list",dict:=ah,data:=.seq ([]:List aj).toArray }:=keep1 _ _ (hH2▸xx _ rfl);have none_of:∀b,s2.heap.objs.size<=b->s2.heap.get? b=ah:=λb hb=>by
  cases e:s2.heap.get? b with
  |none=>rfl
  |some o'=>exact absurd (xq e) (Nat.not_lt.mpr hb)
 have hD0:H2 s2.heap.objs.size=ah:=I2.fresh;generalize hDd:s2.heap.objs.size=Dd at *;generalize hCc:hp2.objs.size=C at *;have hC0:H2 C=ah:=I2.hok.fresh (by rw[hDd];exact hCle);have pinlt:∀p∈X.pn++pins,p.1<Dd:=λp hp=>by rw[<-hDd];exact xq (I2.pin p hp).1
 have celllt:∀y c,X.env.cells.lookup y=aa c->c<Dd:=λy c h=>by obtain⟨v,o,e,_⟩:=I2.cell y c h;rw[<-hDd];exact xq e
 have loclt:X.env.locals<Dd:=by rw[<-hDd];exact I2.lt
 have fplt:∀b∈fp,b<Dd:=λb hb=>by obtain⟨o,e,_⟩:=T.obj _ _ st2 b hb;rw[<-hDd];exact xq e
 have hDlt:Dd<C:=by omega
 have cellD:∀{y:ao}{c:ak},(aW (C+1) scope.names (zu X.env scope.names [])).lookup y=aa c->((y,c)∈aW (C+1) scope.names []/\C+1<=c)\/X.env.cells.lookup y=aa c:=λ{y c} h=>by
  rcases Dj h with ⟨q,_,z⟩|⟨_,q⟩
  .exact .inl ⟨q,z⟩
  .exact .inr (cl_of q)
 have celln:∀{y:ao}{c b:ak},(aW (C+1) scope.names (zu X.env scope.names [])).lookup y=aa c->b<Dd->(∀c,X.env.cells.lookup y=aa c->c≠b)->c≠b:=λ{y c b} h hb ho=>by
  rcases cellD h with ⟨_,z⟩|q
  .exact Pk (Xu hb (Xu hDlt (Tc z)))
  .exact ho c q
 have okc:(cCx X scope C s2 H2 fp (X.pn++pins)).Ok:={
  mod:=I2.ok.mod
  kind:=hkind
  glob:=I2.ok.glob
  blt:=I2.ok.blt
  above:=by show s2.heap.objs.size<=C;rw[hDd];exact hCle
  inj:=λx y c h1 h2=>by
   rcases cellD h1 with ⟨m1,z1⟩|q1<;>rcases cellD h2 with ⟨m2,z2⟩|q2
   .exact name_of_addr okl.apart m1 m2
   .exact absurd (Xu (celllt y c q2) (Xu hDlt (Tc z1))) (pq _)
   .exact absurd (Xu (celllt x c q1) (Xu hDlt (Tc z2))) (pq _)
   .exact I2.ok.inj x y c q1 q2
  has:=λx h=>by
   have key:∀k',(relabel scope X.env).names.lookup x=aa k'->(k'=.cell\/k'=.free)->∃c,(aW (C+1) scope.names (zu X.env scope.names [])).lookup x=aa c:=λk' hk hk'=>by
    obtain⟨k,hl,e⟩:=J9 hk
    have hm:=lookup_mem hl
    have hk0:k=.free\/k=.cell:=by
     rcases e with e|e
     .subst e
      exact hk'.symm
     .exact .inl e.1
    rcases hk0 with hk0|hk0
    .subst hk0
     exact jc4 (Uo ((hn' _ hm).2 rfl).1 hm)
    .subst hk0
     exact Xm.mp (W.cellsFrom_some _ _ _ (.inl hl))
   rcases h with h|h
   .exact key _ h (.inl rfl)
   .exact key _ h (.inr rfl)
  cab:=λx c h h2=>by
   have hx:scope.names.lookup x=aa .cell:=by simpa using h
   show s2.heap.objs.size<=c
   rw[hDd]
   rcases Dj h2 with ⟨_,_,z⟩|⟨z,_⟩
   .exact eK (Xu hDlt (Tc z))
   .obtain⟨c',hc'⟩:=Xm.mp (W.cellsFrom_some scope.names (C+1) [] (.inl hx))
    rw[z]at hc';cases hc'
  hd:=I2.ok.hd
  frames:=I2.ok.frames
  stk:=.inl rfl
  exf:=λb hb=>⟨X8 (Xu (fplt b hb) hDlt),λx c h=>celln h (fplt b hb) λc q=>(f2 b hb).2.2.2.2.1 x c q⟩
  bs:=I2.bs
  bsz:=Xh I2.ok.bsz I2.sz
  noex:=λb o e hb=>by
   rcases(f2 b hb).2.2.2.1 with z|z
   .exact I2.ok.noex b o e z
   .exact absurd (xq e) (Nat.not_lt.mpr (Xh I2.ok.bsz z))
  exfs:=λb hb hf=>by
   rcases xn.mp (I2.stkSub b hf)with z|z
   .exact(f2 b hb).2.1 z
   .exact(f2 b hb).2.2.1 z
  funs:=I2.stack
  frf:=I2.stkFree }
 have hpush:HOk X.prog X.w (upd H2 Dd (.lst [])) h₁:=HOk.laid I2.hok old (by rw[hDd];exact X5 _) ⟨d4 _,[],_,.nil,hacc⟩;have I0:Inv (cCx X scope C s2 H2 fp (X.pn++pins)) [] (mask cs σ) (upd H2 Dd (.lst [])) { s2 with heap:=h₁ }:={
  ok:=okc
  os:=rfl
  bare:=I2.bare
  base:=Un.laid old (by rw[hDd];exact X5 _) hD0
  loc:=by
   refine⟨_,hns₁,λj y v hj hv hvis=>?_⟩
   obtain⟨hjc,hσ⟩:=j6z hv
   obtain⟨m,hm,hlook⟩:=I2.loc
   have key:∀k',(relabel scope X.env).names.lookup y=aa k'->scope.names.lookup y=aa .free:=λk' hk=>by
    obtain⟨k,hl,e⟩:=J9 hk
    have hmm:=lookup_mem hl
    have:k=.free:=by
     rcases e with e|e
     .subst e
      rcases hvis with z|z|z
      .have z:=hk.symm.trans z;cases z;exact absurd hl (hloc j y hj hjc).1
      .have z:=hk.symm.trans z;cases z;exact absurd hl (hloc j y hj hjc).2
      .have z:=hk.symm.trans z;cases z;rfl
     .exact e.1
    rw[hl,this]
   have hfree:scope.names.lookup y=aa .free:=by rcases hvis with z|z|z<;>exact key _ z
   have hmm:=lookup_mem hfree
   obtain⟨hs,hk⟩:=(hn' _ hmm).2 rfl
   have hvis':Vis X.env.scope y:=by rcases hk with z|z;exact .inr (.inl z);exact .inr (.inr z)
   obtain⟨u,ru,look⟩:=hlook j y v hj hσ hvis'
   refine⟨u,ru,?_⟩
   rcases look with ⟨z,_⟩|⟨_,c,hcl,hcv⟩
   .rcases hk with y'|y'<;>rw[y']at z<;>cases z
   .refine .inr ⟨?_,c,?_,?_⟩
    .rcases hvis with z|z|z
     .exfalso
      obtain⟨k,hl,e⟩:=J9 z
      rw[hfree]at hl;cases hl
      rcases e with e|e
      .cases e
      .cases e.2
     .exact .inl z
     .exact .inr z
    .obtain⟨c',hc'⟩:=Xm.mp (Uo (acc:=[]) hs hmm)
     have:=cl_of hc'
     rw[hcl]at this;cases this
     exact(jfw (nocell hfree)).trans hc'
    .obtain⟨o,e,d⟩:=hcv
     exact⟨o,old _ _ e,d⟩
  cell:=λx c h=>by
   rcases cellD h with ⟨q,_⟩|q
   .exact⟨_,(okl.empty x c q).1⟩
   .obtain⟨v,o,e,d⟩:=I2.cell x c q
    exact⟨v,o,old _ _ e,d⟩
  free:=by show upd H2 Dd (.lst []) C=ah;rw[jf (Pk hDlt)];exact hC0
  freeC:=λx c h=>by
   rcases cellD h with ⟨_,z⟩|q
   .rw[jf (Pk (Xu hDlt (Tc z)))];exact I2.hok.fresh (by rw[hDd];exact eK (Xu hDlt (Tc z)))
   .rw[jf (X8 (celllt x c q))];exact I2.freeC x c q
  pin:=λp hp=>by
   rw[Xl]at hp
   obtain⟨h1,h2,h3,h4,h5⟩:=I2.pin p hp
   have hlt:=pinlt p hp
   refine⟨old _ _ h1,by rw[jf (X8 hlt)];exact h2,X8 (Xu hlt hDlt),λz=>?_,h5⟩
   rcases xn.mp (I2.stkSub _ z)with y|y
   .exact h3 y
   .exact h4 y
  hok:=hpush
  len:=by rw[Rx];exact I2.len }
 have hDo:Dd∉owns ρ:=R2.fresh hD0;have fpok:∀{H':Hp},(∀b∈fp,H' b=ah)->∀b∈fp,Qe (cCx X scope C s2 H2 fp (X.pn++pins)) [] H' b:=λ{H'} hn b hb =>⟨hn b hb,X8 (Xu (fplt b hb) hDlt),okc.exfs b hb,.inl hb,λx c h=>celln h (fplt b hb) λc q=>(f2 b hb).2.2.2.2.1 x c q,λp hp=>by rw[Xl]at hp;exact(f2 b hb).2.2.2.2.2 p hp⟩
 have R0:Rep X.K ρ (mask cs σ) H2:=R2.weaken (Rx _ _) λj hj=>j6y λz=>hj (hcs j z);have e0:del (upd H2 Dd (.lst [])) [Dd]=H2:=by
  rw[Zf (X3.mpr rfl)]
  funext b
  by_cases z:b∈[Dd]
  .rw[zf z,X3.mp z,hD0]
  .exact j6 z
 have loop:∀s₃:aq,s₃={ s2 with heap:=h₁ } ->
   cF (aA X.prog X.w) X.A (.compLoop (.ListComp elt [⟨tg,iter,ifs,0⟩] scope pos) 0 (.ref it) (.ref Dd) (compEnvC scope (aW (C+1) scope.names (zu X.env scope.names [])) C X.env)) (RR (.ref Dd) C) s₃:=by
  rintro s₃ rfl;refine Io (λn s=>∃i σ' H' ys,Inv (cCx X scope C s2 H2 fp (X.pn++pins)) [] σ' H' s/\tn i s.heap/\(∀b∈fp,H' b=ah)/\i<=ds.length/\n=ds.length-i/\Rep X.K ρ σ' (del H' [Dd])/\j4 H2 (del H' [Dd])/\H' Dd=aa (.lst ys) /\
   j5 X.K (del H' (Dd::owns ρ)) (((ds.take i).filter p).map g) ys) ?_ ds.length
   ⟨0,mask cs σ,upd H2 Dd (.lst []),[],I0,T.keep _ _ _ st2 (λb _ o e=>old b o e),λb hb=>by rw[jf (X8 (fplt b hb))];exact(f2 b hb).1,d4 _,rfl,by rw[e0];exact R0,by rw[e0];exact j4.refl _,jr,rfl⟩
  rintro n s3 ⟨i,σ3,H3,ys,I3,st3,fr3,hle,rfl,R3,g3,m3,en3⟩;have F3:j4 (del H2 (owns ρ)) (del H3 (Dd::owns ρ)):=by
   have:del H3 (Dd::owns ρ)=del (del H3 [Dd]) (owns ρ):=by rw[Zg];rfl
   rw[this];exact jb g3
  obtain⟨go,stop,yld⟩:=ok i H3 (Dd::owns ρ) F3 λa ha=>by
   rcases xn.mp ha with e|ha
   .rw[e,m3];simp
   .obtain⟨xs,e⟩:=R3.owned a ha;rw[(of_del e).2];simp
  by_cases hlt:i<ds.length
  .refine thn (T.item (cCx X scope C s2 H2 fp (X.pn++pins)) rfl rfl rfl hc i [] s3 σ3 H3 (λ_ _=>False) I3 (fpok fr3) st3 (go hlt)) λr s4 ⟨u,hr,h4⟩=>?_;subst hr;refine thn h4 λ_ s5 ⟨x,H5,I5,r5,y5,st5,fr5⟩=>?_;obtain⟨g5,en5⟩:=yld x H5 y5;have hd:ds[i]?=aa ds[i]:=kh hlt;obtain⟨ρ2,⟨sub,hG⟩,wk,eo,hT,hE⟩:=hb C s2 H2 fp (X.pn++pins) ds[i] (Xx hlt);have m5:H5 Dd=aa (.lst ys):=g5 _ _ m3;have hA:∀a∈[Dd],Hd (H5 a):=λa ha=>.inl ⟨ys,by rw[X3.mp ha];exact m5⟩;have I5p:=I5.pinned (fpok fr5) (T.obj _ _ st5);have I5h:=I5p.hide hA;have R5:Rep X.K ρ σ3 (del H5 [Dd]):=R3.grow (jb g5);have en5':Enc X.K (del (del H5 [Dd]) (owns ρ)) ds[i] x:=by rw[Zg];exact en5 _ hd
   refine thn (hG σ3 (del H5 [Dd]) x (λσ6 F6=>F6=del H5 [Dd]/\Rep X.K ρ2 σ6 F6) R5 en5' (λσ6 R6=>⟨rfl,R6⟩) _ s5 u I5h r5) λ_ s6 ⟨σ6,F6,I6,e6,R6⟩=>?_;subst e6;refine thn (hT.run I6 R6) λokv s7 ⟨e7,F7,I7,g7⟩=>?_;subst e7;have R7:Rep X.K ρ σ6 F7:=wk _ _ _ (R6.grow g7);have g27:j4 H2 F7:=g3.trans ((jb g5).trans g7);have en7:j5 X.K (del F7 (owns ρ)) (((ds.take i).filter p).map g) ys:=en3.mono (by
    have:del H3 (Dd::owns ρ)=del (del H3 [Dd]) (owns ρ):=by rw[Zg];rfl
    rw[this];exact jb ((jb g5).trans g7))
   have jZ:∀{F:Hp}{s':aq},Inv (cCx X scope C s2 H2 fp (X.pn++pins)) ([]++Vr fp s5.heap) σ6 F s'->Inv (cCx X scope C s2 H2 fp (X.pn++pins)) [] σ6 F s'/\tn (i+1) s'.heap/\∀b∈fp,F b=ah:=λ{F s'} I=>by refine⟨I.unpinned,T.keep _ _ _ st5 λb hb o e=>(I.pin (b,o) (Xi _ (Xi _ (Z1 hb e)))).1,λb hb=>?_⟩;obtain⟨o,e,d⟩:=T.obj _ _ st5 b hb;exact(I.pin (b,o) (Xi _ (Xi _ (Z1 hb e)))).2.1
   have tk:ds.take (i+1)=ds.take i++[ds[i]]:=by rw[cM,hd];rfl
   cases hp:p ds[i] with
   |false =>
    rw[if_neg xf];obtain⟨hF,I8⟩:=I5p.unhide hA I7;obtain⟨I9,st9,fr9⟩:=jZ I8;refine⟨ds.length-(i+1),by omega,i+1,σ6,_,ys,I9,st9,fr9,hlt,rfl,by rw[Qx hF];exact R7,by rw[Qx hF];exact g27,by rw[J8 (X3.mpr rfl)];exact m5,?_⟩;have:del (mrg [Dd] H5 F7) (Dd::owns ρ)=del F7 (owns ρ):=by
     have e:del (mrg [Dd] H5 F7) (Dd::owns ρ)=del (del (mrg [Dd] H5 F7) [Dd]) (owns ρ):=by rw[Zg];rfl
     rw[e,Qx hF]
    rw[this,tk,iB];have e:[ds[i]].filter p=[]:=by simp[hp]
    rw[e,Xl];exact en7
   |true =>
    rw[if_pos rfl];refine thn (hE hp σ6 F7 (λv F8=>j4 F7 F8/\Enc X.K (del F8 (owns ρ2)) (g ds[i]) v) (R6.grow g7) (λv F8 g8 e8=>⟨g8,e8⟩) _ s7 I7) λy s8 ⟨v,F8,I8,r8,g8,e8⟩=>?_;obtain⟨hF,I8'⟩:=I5p.unhide hA I8;rw[eo]at e8;have eH:del (mrg [Dd] H5 F8) (Dd::owns ρ)=del F8 (owns ρ):=by
     have e:del (mrg [Dd] H5 F8) (Dd::owns ρ)=del (del (mrg [Dd] H5 F8) [Dd]) (owns ρ):=by rw[Zg];rfl
     rw[e,Qx hF]
    have hlen:ys.length<ar:=by have e1:=en7.length;have e2:((ds.take i).filter p).length<=(ds.take i).length:=List.length_filter_le _ _;rw[xg]at e1;rw[Xj]at e2;omega
    refine thn (V2 _ s8 σ6 (mrg [Dd] H5 F8) (.ref Dd) [v] (.ref Dd) [y] (λ_ H9=>H9=upd (mrg [Dd] H5 F8) Dd (.lst (ys++[v]))) I8' rfl (.cons r8 .nil)
     ⟨Dd,ys,v,rfl,rfl,by rw[J8 (X3.mpr rfl)];exact m5,hlen,rfl⟩) λ_ s9 ⟨_,H9,I9,_,e9⟩=>?_
    subst e9;obtain⟨I10,st10,fr10⟩:=jZ I9;have ed:del (upd (mrg [Dd] H5 F8) Dd (.lst (ys++[v]))) [Dd]=F8:=by rw[Zf (X3.mpr rfl),Qx hF]
    refine⟨ds.length-(i+1),by omega,i+1,σ6,_,ys++[v],I10,st10,fr10,hlt,rfl,by rw[ed];exact R7.grow g8,by rw[ed];exact g27.trans g8,jr,?_⟩;rw[Zf (xm ..),eH,tk,iB,Xz];have e:[ds[i]].filter p=[ds[i]]:=by simp[hp]
    rw[e];exact(en7.mono (jb g8)).append (.one e8)
  .have hi:i=ds.length:=by omega
   subst hi;refine thn (T.done (cCx X scope C s2 H2 fp (X.pn++pins)) rfl rfl rfl hc ds.length [] s3 σ3 H3 (λ_ _=>False) I3 (fpok fr3) st3 (stop (X5 _))) λr s4 ⟨hr,I4⟩=>?_;subst hr;rw[cS]at en3;obtain⟨m,hm,_⟩:=I4.loc;refine hRR Dd C ys H3 s4 m ?_ (g3.trans ji) hD0 m3 en3 hm ⟨I4.free,Pk (Xu loclt hDlt),?_,λx c h=>X8 (Xu (celllt x c h) hDlt),λp hp=>X8 (Xu (pinlt p hp) hDlt)⟩
   .exact I2.call' (ch:=fp) I4.os I4.base I4.hok I4.bare λb hb=>⟨(f2 b hb).2.2.2.1,(f2 b hb).2.1,(f2 b hb).2.2.2.2.1,(f2 b hb).2.2.2.2.2⟩
   .have:=I2.sz;omega
 exact codeAny_compStart_list (loop _ rfl) (T.self _ 0 _ _ _ (T.keep _ _ _ st2 (λb _ o e=>old b o e)) (loop _ rfl))
end
section
variable{X:Cx}{ρ:Rho}{tg elt iter:au}{ifs:List au}{scope:bG}{pos p1 spos:aR}{ds:List D}{cs:List Nat}{p:D->Bool}{g:D->D}{x:ao}{P:Po}
theorem M5{env:du}{N:List ao}(h:Jt scope env N cs=af):∀y∈scope.names,y.2=.free->(env.cells.lookup y.1).isSome=af:=λy hy e=>by unfold Jt at h;rw[Xb]at h;have:=Xp.mp h.1 y hy;simp only[Xb,bne_iff_ne,ne_eq,cG]at this;exact this.2.elim (λz=>absurd e z) λz=>z.1
theorem Wm{env:du}{N:List ao}(h:Jt scope env N cs=af):∀y∈scope.names,y.2=.local->scope.names.lookup y.1=aa .local:=λy hy e=>by unfold Jt at h;rw[Xb]at h;have:=Xp.mp h.1 y hy;simp only[Xb,bne_iff_ne,ne_eq,cG,beq_iff_eq]at this;exact this.1.2.elim (λz=>absurd e z) λz=>z
theorem Inv.loose{pins:k72}{σ:St}{H:Hp}{s:aq}{C:ak}{h':aG}(I:Inv X pins σ H s)(L:Loose X pins H C)(sb:cK C s.heap h'):Inv X pins σ H { s with heap:=h' } :=
 I.turned (t':=s.toks) (λb o hb e=>sb.extBut b o hb e) L.free L.loc (.inr L.new) L.cell L.pin
theorem DO.comp(cs:List Nat)(p:D->Bool)(g:D->D)(hi:DI X ρ tg iter ds)
  (hb:∀C s H fp pn,∀d∈ds,∃ρ2,DG (cCx X scope C s H fp pn) ρ tg d ρ2/\Wk ρ2 ρ/\owns ρ2=owns ρ/\DTs (cCx X scope C s H fp pn) ρ2 ifs (p d)/\(p d=af->DE (cCx X scope C s H fp pn) ρ2 elt (g d)))
  (hcs:∀j∈cs,ρ[j]?=aa .un) (hsz:ds.length<=ar) (hc:X.calm=af:=by rfl) (hkind:scope.kind=.function:=by rfl) (hok:Jt scope X.env X.N cs=af:=by rfl)
  (hs:∀x,aX iter X.env x=pure x:=by intro _;rfl):DO X ρ (.ListComp elt [⟨tg,iter,ifs,0⟩] scope pos) ((ds.filter p).map g):=λσ H Q R q pins s I=>by
 rw[eval_ListComp];refine i4 (use:=ah) rfl hs (Ot (M5 hok)) hkind (Wm hok) (thn (hi σ H (λJ H'=>j4 H H'/\Uy X.K (del H' (owns ρ)) J ds) R (λJ H' g1 ok=>⟨g1,ok⟩) pins s I) λv s1 h1=>thn h1 λitv s2 h2=>?_);obtain⟨it,fp,tn,J,H2,e,I2,T,st2,f2,g2,ok⟩:=h2;subst e;refine Dg (RR:=λacc C=>compPost (aA X.prog X.w) X.A X.xe ah (EP X pins σ Q) acc C) I2 (R.grow g2) T st2 f2 ok hc hkind hok hcs hsz hb ?_;intro D C xs H' s' m I' gg n m' en hm L;exact⟨m,hm,λh' sb=>⟨.ref D,H',I'.loose L sb,rfl,q D xs H' (g2.trans gg) (g2.free n) m' en⟩⟩
theorem Wk.set{i:Nat}{d:D}(h:ρ[i]?=aa .un):Wk (ρ.set i (.val d)) ρ:=λK σ H R=>by
 have q:=R.set_un (i:=i) (v:=(σ[i]?).join);have e:σ.set i ((σ[i]?).join)=σ:=by
  apply fw;intro j;rw[dG];split
  .rename_i h;subst h;split
   .rename_i h;rw[kh h];rfl
   .rename_i h;rw[T5 nofun]
  .rfl
 have e2:(ρ.set i (.val d)).set i .un=ρ:=by
  rw[List.set_set];apply fw;intro j;rw[dG];split
  .rename_i z;subst z;split
   .rw[h]
   .rename_i z;rw[T5 nofun]at h;cases h
  .rfl
 rw[e,e2]at q;exact q
theorem Rr{i:Nat}{d:D}(h:ρ[i]?=aa .un):owns (ρ.set i (.val d))=owns ρ:=Ru rfl λa l z=>by rw[h]at z;cases z
end
section
variable{prog:ay}{w:aD}{A:aF}{E:k71}{s:aq}
theorem j25{j t:ak}{k:Nat}{its:Array aj}{y:aj}{Q:k71}(hj:s.heap.IsTupleIter j t k)(ht:s.heap.IsTuple t its)(hy:its[k]?=aa y)
  (q:∀h',h'.IsTupleIter j t (k+1)->cK j s.heap h'->Q y { s with heap:=h' }):ax (aA prog w) A (aE (.ref j)) Q E s:=by
 obtain⟨o,ho,hc,hd⟩:=id hj;obtain⟨ot,hot,_,m,hdt⟩:=ht;unfold aE;refine ag (bb (name:=cw "__next__") hj.typeIs cy (bV cy hj.typeIs gq ?_ (gi _)));show ax _ _ (fK (.ref j) 0 >>= _) _ _ s;refine ag (aS ho hd (x:=.ref t) rfl ?_);show ax _ _ (if (aH t==aZ)=af then _ else _) _ _ s;rw[if_neg (show ¬((aH t==aZ)=af)from xf)];show ax _ _ (fK (.ref j) 1 >>= _) _ _ s;refine ag (aS ho hd (x:=.int k 0) rfl ?_);show ax _ _ (seqItems? (.ref t) >>= _) _ _ s;refine ag (be hot hdt ?_);simp only[Xo,hy];refine ag (lC ho hd (by simp) (av ⟨y,rfl,av (q _ ?_ (Heap.SameBut.update ..))⟩));exact⟨_,gO _ ho (Obj.isFreed_of_fields (iE hd _)),(Obj.cls_mapFields ..).trans hc,by rw[iE hd];simp[fV]⟩
theorem j4j{j t:ak}{k:Nat}{its:Array aj}{Q:k71}(hh:A.handled=ah)(hj:s.heap.IsTupleIter j t k)(ht:s.heap.IsTuple t its)(hy:its[k]?=ah)
  (q:∀h' x,fN j s.heap h'->(∃o,h'.get? x=aa o/\o.cls=.type "StopIteration")->E (.ref x) { s with heap:=h' }):ax (aA prog w) A (aE (.ref j)) Q E s:=by
 obtain⟨o,ho,hc,hd⟩:=id hj;obtain⟨ot,hot,_,m,hdt⟩:=ht;unfold aE;refine ag (bb (name:=cw "__next__") hj.typeIs cy (bV cy hj.typeIs gq ?_ (gi _)));show ax _ _ (fK (.ref j) 0 >>= _) _ _ s;refine ag (aS ho hd (x:=.ref t) rfl ?_);show ax _ _ (if (aH t==aZ)=af then _ else _) _ _ s;rw[if_neg (show ¬((aH t==aZ)=af)from xf)];show ax _ _ (fK (.ref j) 1 >>= _) _ _ s;refine ag (aS ho hd (x:=.int k 0) rfl ?_);show ax _ _ (seqItems? (.ref t) >>= _) _ _ s;refine ag (be hot hdt ?_);simp only[Xo,hy];refine ag (gS (ag (lC ho hd (by simp) ?_)));show ax _ _ (newExc (.type "StopIteration") [] >>= _) _ _ _;refine ag ?_;simp only[newExc,newTuple];refine ag (bM ?_ (by size_fits));refine ag (m:=lH _ _) (wpAny_of_eq (a:=aZ) (by first|rfl|(simp only[lH];rfl)) ?_);refine bM ?_ (by size_fits);simp only[raiseNew];refine ag (wpAny_handled ?_)
 first|rw[show A.in1.handled=ah from hh]|rw[hh]
 refine ag (av (wpAny_throw ?_));exact q _ _ (((Heap.SameBut.update ..).extBut.push _).push _) ⟨_,xx _ rfl,rfl⟩
end
def jg(lst:Bool)(h:aG)(j t:ak)(k:Nat):Prop:=if lst=af then h.IsListIter j t k else h.IsTupleIter j t k
def jh(lst:Bool)(h:aG)(t:ak)(its:Array aj):Prop:=if lst=af then h.IsList t its else h.IsTuple t its
section
variable{prog:ay}{w:aD}{A:aF}{E:k71}{s:aq}{lst:Bool}{h h':aG}{j t b:ak}{k:Nat}{its:Array aj}
theorem jg.ext(x:jg lst h j t k)(e:fN b h h')(n:j≠b):jg lst h' j t k:=by
 unfold jg at x ⊢;cases lst with
 |true=>rw[if_pos rfl]at x ⊢;exact x.extBut e n
 |false=>rw[if_neg xf]at x ⊢;exact x.extBut e n
theorem jg.stay(x:jg lst h j t k)(e:∀o,h.get? j=aa o->h'.get? j=aa o):jg lst h' j t k:=by
 unfold jg at x ⊢;cases lst with
 |true=>rw[if_pos rfl]at x ⊢;exact x.at e
 |false=>rw[if_neg xf]at x ⊢;exact x.at e
theorem jg.obj(x:jg lst h j t k):∃o,h.get? j=aa o/\∀v,o.data≠.cell v:=by
 unfold jg at x;cases lst with
 |true=>rw[if_pos rfl]at x;obtain⟨o,e,c,d⟩:=x;exact⟨o,e,λv z=>by rw[d]at z;cases z⟩
 |false=>rw[if_neg xf]at x;obtain⟨o,e,c,d⟩:=x;exact⟨o,e,λv z=>by rw[d]at z;cases z⟩
theorem jh.ext(x:jh lst h t its)(e:fN b h h')(n:t≠b):jh lst h' t its:=by
 unfold jh at x ⊢;cases lst with
 |true=>rw[if_pos rfl]at x ⊢;exact x.extBut e n
 |false=>rw[if_neg xf]at x ⊢;exact x.extBut e n
theorem Zz{y:aj}{Q:k71}(hj:jg lst s.heap j t k)(ht:jh lst s.heap t its)(hy:its[k]?=aa y)
  (q:∀h',jg lst h' j t (k+1)->cK j s.heap h'->Q y { s with heap:=h' }):ax (aA prog w) A (aE (.ref j)) Q E s:=by
 unfold jg at hj q;unfold jh at ht;cases lst with
 |true=>rw[if_pos rfl]at hj ht;simp only[if_true]at q;exact wpAny_nextOf_list_item hj ht hy q
 |false=>rw[if_neg xf]at hj ht;simp only[Xq,if_false]at q;exact j25 hj ht hy q
theorem M8{Q:k71}(hh:A.handled=ah)(hj:jg lst s.heap j t k)(ht:jh lst s.heap t its)(hy:its[k]?=ah)
  (q:∀h' x,fN j s.heap h'->(∃o,h'.get? x=aa o/\o.cls=.type "StopIteration")->E (.ref x) { s with heap:=h' }):ax (aA prog w) A (aE (.ref j)) Q E s:=by
 unfold jg at hj;unfold jh at ht;cases lst with
 |true=>rw[if_pos rfl]at hj ht;exact wpAny_nextOf_list_end hh hj ht hy q
 |false=>rw[if_neg xf]at hj ht;exact j4j hh hj ht hy q
end
section
variable{prog:ay}{w:aD}{A:aF}{E:k71}{s:aq}{l1 l2:Bool}{z TI TO i1 i2 t1 t2:ak}{k:Nat}{us vs:Array aj}{x y a b:aj}
theorem j2m{Q:k71}(D:di z TI TO i1 i2 t1 t2)(hz:eC s.heap z TI TO .none)(hTI:bu s.heap TI (.ref i1) (.ref i2))(hTO:bu s.heap TO a b)
  (h1:jg l1 s.heap i1 t1 k) (h2:jg l2 s.heap i2 t2 k) (q1:jh l1 s.heap t1 us) (q2:jh l2 s.heap t2 vs) (hx:us[k]?=aa x) (hy:vs[k]?=aa y)
  (q:∀h',eC h' z TI TO (fV s.heap.objs.size)->bu h' TO x y->jg l1 h' i1 t1 (k+1)->jg l2 h' i2 t2 (k+1)->bu h' s.heap.objs.size x y->h'.objs.size=s.heap.objs.size+1 ->
   (∀c o,c≠z->c≠TO->c≠i1->c≠i2->s.heap.get? c=aa o->h'.get? c=aa o)->Q (.ref s.heap.objs.size) { s with heap:=h' }) :
  ax (aA prog w) A (c8.«zip.__next__» ⟨[.ref z],[]⟩) (λfin s'=>∃v,fin=.done (.ret v)/\Q v s') E s:=by
 show ax _ _ (fK (.ref z) 2 >>= _) _ _ _;refine ag (aS hz rfl (x:=.bool ae) rfl ?_);show ax _ _ (fK (.ref z) 3 >>= _) _ _ _;refine ag (aS hz rfl (x:=.ref TI) rfl (ag (be hTI rfl ?_)));show ax _ _ (aJ (.ref z) >>= _) _ _ _;refine ag ?_;unfold aJ;refine ag (aS hz rfl (x:=.none) rfl (av ?_));simp only[if_true];refine ag (gS (ag (aS hz rfl (x:=.ref TO) rfl (ag (bC hz (by simp) λg₁ z₁ s₁=>?_)))));have z₁:eC g₁ z TI TO .ellipsis:=z₁;refine ag ?_;simp only[iT,jC,d6,eV];refine ag (ag (fH ?_));show ax _ _ (aE (.ref i1) >>= _) _ _ _;refine ag (Zz (h1.ext s₁.extBut D.i1z) (q1.ext s₁.extBut D.l1z) hx λg₂ h1₂ s₂=>av ?_);have o₂:bu g₂ TO a b:=s₂.extBut _ _ D.TOi1 (s₁.extBut _ _ D.TOz hTO);refine ag (be o₂ rfl (ag (fe o₂ λg₃ o₃ s₃=>?_)));have o₃:bu g₃ TO x b:=o₃;refine ag (iW (av (ag (ag (fH ?_)))));show ax _ _ (aE (.ref i2) >>= _) _ _ _;refine ag (Zz (((h2.ext s₁.extBut D.i2z).ext s₂.extBut D.i12.symm).ext s₃.extBut D.TOi2.symm) (((q2.ext s₁.extBut D.l2z).ext s₂.extBut D.l2i1).ext s₃.extBut D.l2TO) hy λg₄ h2₄ s₄=>av ?_);have o₄:bu g₄ TO x b:=s₄.extBut _ _ D.TOi2 o₃;refine ag (be o₄ rfl (ag (fe o₄ λg₅ o₅ s₅=>?_)));have o₅:bu g₅ TO x y:=o₅;refine ag (iW (av (av (ag (be o₅ rfl (ag (lD ?_)))))));have sz:g₅.objs.size=s.heap.objs.size:=by rw[s₅.1,s₄.1,s₃.1,s₂.1,s₁.1]
 have z₅:eC g₅ z TI TO .ellipsis:=s₅.extBut _ _ D.TOz.symm (s₄.extBut _ _ D.i2z.symm (s₃.extBut _ _ D.TOz.symm (s₂.extBut _ _ D.i1z.symm z₁)));have kp:∀c o,c≠z->c≠TO->c≠i1->c≠i2->s.heap.get? c=aa o->g₅.get? c=aa o:=λc o n1 n2 n3 n4 e=>s₅.extBut _ _ n2 (s₄.extBut _ _ n4 (s₃.extBut _ _ n2 (s₂.extBut _ _ n3 (s₁.extBut _ _ n1 e))));have h1₅:jg l1 g₅ i1 t1 (k+1):=((h1₂.ext s₃.extBut D.TOi1.symm).ext s₄.extBut D.i12).ext s₅.extBut D.TOi1.symm;have h2₅:jg l2 g₅ i2 t2 (k+1):=h2₄.ext s₅.extBut D.TOi2.symm;have zlt:z<g₅.objs.size:=xq z₅;show ax _ _ (dk (.ref z) (.ref g₅.objs.size) >>= _) _ _ _;refine ag ?_;unfold dk;have z₆:eC (g₅.push { cls:=.type "tuple",data:=.seq #[x,y] }) z TI TO .ellipsis:=kj _ z₅;refine ag (bC z₆ (by simp) λg₇ z₇ s₇=>?_);have z₇:eC g₇ z TI TO (fV g₅.objs.size):=z₇;refine bC z₇ (by simp) λg₈ z₈ s₈=>?_;have z₈:eC g₈ z TI TO (fV g₅.objs.size):=z₈;have up:∀c o,c≠z->g₅.get? c=aa o->g₈.get? c=aa o:=λc o n e=>s₈.extBut _ _ n (s₇.extBut _ _ n (kj _ e));have p₈:bu g₈ g₅.objs.size x y:=s₈.extBut _ _ (Pk zlt) (s₇.extBut _ _ (Pk zlt) (xx _ rfl));have e₈:g₈.objs.size=g₅.objs.size+1:=by rw[s₈.1,s₇.1,Xf]
 rw[sz]at z₈ p₈ e₈;refine av ⟨_,rfl,?_⟩;show Q (.ref g₅.objs.size) _;rw[sz];exact q g₈ z₈ (up _ _ D.TOz o₅) (h1₅.stay λo e=>up _ o D.i1z e) (h2₅.stay λo e=>up _ o D.i2z e) p₈ e₈ λc o n1 n2 n3 n4 e=>up c o n1 (kp c o n1 n2 n3 n4 e)
theorem j5f{Q:iL->aq->Prop}(hh:A.handled=ah)(D:di z TI TO i1 i2 t1 t2)(hz:eC s.heap z TI TO .none)(hTI:bu s.heap TI (.ref i1) (.ref i2))(hTO:bu s.heap TO a b)
  (h1:jg l1 s.heap i1 t1 k) (h2:jg l2 s.heap i2 t2 k) (q1:jh l1 s.heap t1 us) (q2:jh l2 s.heap t2 vs) (hend:us[k]?=ah\/vs[k]?=ah)
  (q:∀h' e,(∀c o,c≠z->c≠TO->c≠i1->c≠i2->s.heap.get? c=aa o->h'.get? c=aa o)->(∃o,h'.get? e=aa o/\o.cls=.type "StopIteration")->E (.ref e) { s with heap:=h' }) :
  ax (aA prog w) A (c8.«zip.__next__» ⟨[.ref z],[]⟩) Q E s:=by
 show ax _ _ (fK (.ref z) 2 >>= _) _ _ _;refine ag (aS hz rfl (x:=.bool ae) rfl ?_);show ax _ _ (fK (.ref z) 3 >>= _) _ _ _;refine ag (aS hz rfl (x:=.ref TI) rfl (ag (be hTI rfl ?_)));show ax _ _ (aJ (.ref z) >>= _) _ _ _;refine ag ?_;unfold aJ;refine ag (aS hz rfl (x:=.none) rfl (av ?_));simp only[if_true];refine ag (gS (ag (aS hz rfl (x:=.ref TO) rfl (ag (bC hz (by simp) λg₁ z₁ s₁=>?_)))));have z₁:eC g₁ z TI TO .ellipsis:=z₁;refine ag ?_;simp only[iT,jC,d6,eV];refine ag (ag (fH ?_));show ax _ _ (aE (.ref i1) >>= _) _ _ _;cases hx:us[k]? with
 |none =>
  refine ag (M8 hh (h1.ext s₁.extBut D.i1z) (q1.ext s₁.extBut D.l1z) hx λg₂ e s₂ he=>?_);obtain⟨oe,hoe,hce⟩:=he;have z₂:eC g₂ z TI TO .ellipsis:=s₂ _ _ D.i1z.symm z₁;have ez:e≠z:=λx=>by subst x;rw[z₂]at hoe;cases hoe;simp at hce
  exact bC z₂ (by simp) λg₃ _ s₃=>q g₃ e (λc o n1 _ n3 _ x=>s₃.extBut _ _ n1 (s₂ _ _ n3 (s₁.extBut _ _ n1 x))) ⟨oe,s₃.extBut _ _ ez hoe,hce⟩
 |some x =>
  have hy:vs[k]?=ah:=by rcases hend with h|h;rw[hx]at h;cases h;exact h
  refine ag (Zz (h1.ext s₁.extBut D.i1z) (q1.ext s₁.extBut D.l1z) hx λg₂ h1₂ s₂=>av ?_);have o₂:bu g₂ TO a b:=s₂.extBut _ _ D.TOi1 (s₁.extBut _ _ D.TOz hTO);refine ag (be o₂ rfl (ag (fe o₂ λg₃ o₃ s₃=>?_)));refine ag (iW (av (ag (ag (fH ?_)))));show ax _ _ (aE (.ref i2) >>= _) _ _ _;refine ag (M8 hh (((h2.ext s₁.extBut D.i2z).ext s₂.extBut D.i12.symm).ext s₃.extBut D.TOi2.symm) (((q2.ext s₁.extBut D.l2z).ext s₂.extBut D.l2i1).ext s₃.extBut D.l2TO) hy λg₄ e s₄ he=>?_);obtain⟨oe,hoe,hce⟩:=he;have z₄:eC g₄ z TI TO .ellipsis:=s₄ _ _ D.i2z.symm (s₃.extBut _ _ D.TOz.symm (s₂.extBut _ _ D.i1z.symm z₁));have ez:e≠z:=λx=>by subst x;rw[z₄]at hoe;cases hoe;simp at hce
  exact bC z₄ (by simp) λg₅ _ s₅=>q g₅ e (λc o n1 n2 n3 n4 x=>s₅.extBut _ _ n1 (s₄ _ _ n4 (s₃.extBut _ _ n2 (s₂.extBut _ _ n3 (s₁.extBut _ _ n1 x))))) ⟨oe,s₅.extBut _ _ ez hoe,hce⟩
theorem Wa{Q:Option aj->aq->Prop}(D:di z TI TO i1 i2 t1 t2)(hz:eC s.heap z TI TO .none)(hTI:bu s.heap TI (.ref i1) (.ref i2))(hTO:bu s.heap TO a b)
  (h1:jg l1 s.heap i1 t1 k) (h2:jg l2 s.heap i2 t2 k) (q1:jh l1 s.heap t1 us) (q2:jh l2 s.heap t2 vs) (hx:us[k]?=aa x) (hy:vs[k]?=aa y)
  (q:∀h',eC h' z TI TO (fV s.heap.objs.size)->bu h' TO x y->jg l1 h' i1 t1 (k+1)->jg l2 h' i2 t2 (k+1)->bu h' s.heap.objs.size x y->h'.objs.size=s.heap.objs.size+1 ->
   (∀c o,c≠z->c≠TO->c≠i1->c≠i2->s.heap.get? c=aa o->h'.get? c=aa o)->Q (aa (.ref s.heap.objs.size)) { s with heap:=h' }):ax (aA prog w) A (dQ (.ref z)) Q E s:=by
 have T:s.TypeIs (.ref z) "zip":=⟨_,hz,rfl⟩
 unfold dQ;exact ag (fJ (bb (name:=cw "__next__") T Pu (bV Pu T eJ
  (j2m D hz hTI hTO h1 h2 q1 q2 hx hy λh' a1 a2 a3 a4 a5 a6 a7=>av (q h' a1 a2 a3 a4 a5 a6 a7)) (dU _))))
theorem Rv{Q:Option aj->aq->Prop}(hh:A.handled=ah)(D:di z TI TO i1 i2 t1 t2)(hz:eC s.heap z TI TO .none)(hTI:bu s.heap TI (.ref i1) (.ref i2))(hTO:bu s.heap TO a b)
  (h1:jg l1 s.heap i1 t1 k) (h2:jg l2 s.heap i2 t2 k) (q1:jh l1 s.heap t1 us) (q2:jh l2 s.heap t2 vs) (hend:us[k]?=ah\/vs[k]?=ah)
  (q:∀h',(∀c o,c≠z->c≠TO->c≠i1->c≠i2->s.heap.get? c=aa o->h'.get? c=aa o)->Q ah { s with heap:=h' }):ax (aA prog w) A (dQ (.ref z)) Q E s:=by
 have T:s.TypeIs (.ref z) "zip":=⟨_,hz,rfl⟩
 unfold dQ;refine ag (fJ (bb (name:=cw "__next__") T Pu (bV Pu T eJ
  (j5f hh D hz hTI hTO h1 h2 q1 q2 hend λh' e kp he=>?_) (dU _))))
 obtain⟨o,ho,hc⟩:=he;exact ag (kr (T:="StopIteration") (b:=af) ⟨o,ho,hc⟩ lF (av (q _ kp)))
end
noncomputable def U6(lst:Bool):String:=if lst=af then "list_iterator" else "tuple_iterator"
noncomputable abbrev zh1(h:aG)(l1:Bool)(t1:ak):aG:=h.push { cls:=.type (U6 l1),data:=.fields #[.ref t1,.int 0 0] }
noncomputable abbrev zh2(h:aG)(l1 l2:Bool)(t1 t2:ak):aG:=(zh1 h l1 t1).push { cls:=.type (U6 l2),data:=.fields #[.ref t2,.int 0 0] }
noncomputable abbrev zh3(h:aG)(l1 l2:Bool)(t1 t2:ak):aG:=(zh2 h l1 l2 t1 t2).push { cls:=.type "tuple",data:=.seq #[.ref h.objs.size,.ref (zh1 h l1 t1).objs.size] }
noncomputable abbrev zh4(h:aG)(l1 l2:Bool)(t1 t2:ak):aG:=(zh3 h l1 l2 t1 t2).push { cls:=.type "tuple",data:=.seq #[.none,.none] }
noncomputable abbrev zh5(h:aG)(l1 l2:Bool)(t1 t2:ak):aG:=(zh4 h l1 l2 t1 t2).push { cls:=.type "zip",data:=.fields #[.none,.bool ae,.bool ae,.ref (zh2 h l1 l2 t1 t2).objs.size,.ref (zh3 h l1 l2 t1 t2).objs.size] }
section
variable{prog:ay}{w:aD}{A:aF}{E:k71}{s:aq}{l1 l2:Bool}{t1 t2:ak}{us vs:Array aj}
theorem Fw{lst:Bool}{t:ak}{its:Array aj}{Q:k71}(h:jh lst s.heap t its)(q:Q (.ref s.heap.objs.size) { s with heap:=zh1 s.heap lst t }):ax (aA prog w) A (iJ (.ref t)) Q E s:=by
 unfold jh at h;cases lst with
 |true=>rw[if_pos rfl]at h;exact cq h q
 |false=>rw[if_neg xf]at h;exact fQ h q
theorem jh.push{lst:Bool}{h:aG}{t:ak}{its:Array aj}(x:jh lst h t its)(o:dm):jh lst (h.push o) t its:=by
 unfold jh at x ⊢;cases lst with
 |true=>rw[if_pos rfl]at x ⊢;exact x.push o
 |false=>rw[if_neg xf]at x ⊢;exact x.push o
theorem j00 (t1 t2:ak) (us vs:Array aj):lJ (c8.«zip.__new__» ⟨[.type "zip",.ref t1,.ref t2],[]⟩) (λ_ R s=>jh l1 s.heap t1 us/\jh l2 s.heap t2 vs /\
   R (.ok (.ret (.ref (zh4 s.heap l1 l2 t1 t2).objs.size))) { s with heap:=zh5 s.heap l1 l2 t1 t2 }) :=
 .of_wp λprog w A R s h=>by
  obtain⟨hp,g,d,tk,os⟩:=s;obtain⟨h1,h2,h⟩:=h;have hsub:=sub_zip;have e1:jh l1 (Shared.heap ⟨hp,g,d,tk,os⟩) t1 us:=h1;have e2:jh l2 (Shared.heap ⟨zh1 hp l1 t1,g,d,tk,os⟩) t2 vs:=h2.push _
  wp_walk using Fw e1,Fw e2
  exact⟨_,rfl,h⟩
end
def SqB(K:k70)(lst:Bool)(H:Hp)(a:ak)(xs:List V):Prop:=if lst=af then SqL K H a xs else SqT K H a xs
section
variable{X:Cx}{pins:k72}{σ:St}{H:Hp}{s:aq}{a p:ak}{xs ys:List V}{lst:Bool}{ch:List ak}{h':aG}
theorem j4.seqB{K:k70}{H':Hp}(e:j4 H H')(h:SqB K lst H a xs):SqB K lst H' a xs:=by
 unfold SqB at h ⊢;cases lst with
 |true=>rw[if_pos rfl]at h ⊢;exact e.seq h
 |false=>rw[if_neg xf]at h ⊢;exact e.seqT h
theorem Inv.side(I:Inv X pins σ H s)(h:SqB X.K lst H a xs):∃us:List aj,Vals xs us/\jh lst s.heap a us.toArray/\xs.length<=ar:=by
 unfold SqB at h;unfold jh;cases lst with
 |true=>rw[if_pos rfl]at h;obtain⟨its,r,q,l⟩:=I.list h;exact⟨its,r,by rw[if_pos rfl];exact q.isList,l⟩
 |false=>rw[if_neg xf]at h;obtain⟨its,r,q,l⟩:=I.tuple h;exact⟨its,r,by rw[if_neg xf];exact q,l⟩
theorem Inv.side_inj(I:Inv X pins σ H s)(h:SqB X.K lst H a xs)(h':SqB X.K lst H a ys):xs=ys:=by
 unfold SqB at h h';cases lst with
 |true=>rw[if_pos rfl]at h h';exact I.list_inj h h'
 |false=>rw[if_neg xf]at h h';exact I.tuple_inj h h'
theorem Inv.chg(I:Inv X pins σ H s)(hf:∀b∈ch,Qe X pins H b)(kp:∀c o,c∉ch->s.heap.get? c=aa o->h'.get? c=aa o):Inv X pins σ H { s with heap:=h' }:=by
 refine I.step (g':=s.gens) (t':=s.toks) (d':=s.drawn) (ch:=ch) (λb hb=>⟨(hf b hb).2.2.2.1,(hf b hb).2.1,(hf b hb).2.2.2.2.1,(hf b hb).2.2.2.2.2⟩) (λb o _ _ nc e _=>kp b o nc e) (λb o _ _ nc e _=>⟨o.slots,kp b o nc e⟩)
  (λb o _ _ n=>n) (λb o nc e=>⟨o,kp b o nc e⟩) (λb xs e=>e) (λb o u e=>e) (λb ps e=>⟨#[],by rw[e];simp⟩) (λm hm=>hm.at' λo e=>kp _ o (λz=>(hf _ z).2.1 rfl) e) (λc o e=>?_) I.bare
 have out:∀{b:ak}{u:HO},H b=aa u->b∉ch:=λ{b u} q z=>by rw[(hf b z).1]at q;cases q
 refine jm.stay (I.hok c o e) (λb u hb q=>kp b u ?_ q) (λb q=>q) (λb xs q=>q) (λb _ _ q=>q);rcases hb with hb|hb
 .subst hb;exact out e
 .exact out hb
theorem Inv.chgT(I:Inv X pins σ H s)(hf:∀b∈ch,Qe X pins H b)(kp:∀c o,c∉ch->s.heap.get? c=aa o->h'.get? c=aa o){us:List aj}(rv:Vals xs us)(hl:xs.length<=ar)
  (hp:jv h' s.heap.objs.size us.toArray) (hq:Zo h' s.heap.objs.size):Inv X pins σ (upd H s.heap.objs.size (.tup xs)) { s with heap:=h' }:=by
 have hn:=I.fresh;have nz:∀{b:ak}{o:dm},s.heap.get? b=aa o->b≠s.heap.objs.size:=λ{b o} e=>X8 (xq e);have tr:∀{b:ak}{u:HO},H b=aa u->upd H s.heap.objs.size (.tup xs) b=aa u:=λ{b u} e=>by rw[jf (qw e hn)];exact e
 refine I.step (g':=s.gens) (t':=s.toks) (d':=s.drawn) (ch:=ch) (λb hb=>⟨(hf b hb).2.2.2.1,(hf b hb).2.1,(hf b hb).2.2.2.2.1,(hf b hb).2.2.2.2.2⟩) (λb o _ _ nc e _=>kp b o nc e) (λb o _ _ nc e _=>⟨o.slots,kp b o nc e⟩)
  (λb o _ e n=>by rw[jf (nz e)];exact n) (λb o nc e=>⟨o,kp b o nc e⟩) (λb xs e=>tr e) (λb o u e=>tr e) (λb ps e=>⟨#[],by rw[tr e];simp⟩) (λm hm=>hm.at' λo e=>kp _ o (λz=>(hf _ z).2.1 rfl) e) (λc o e=>?_) I.bare
 have out:∀{b:ak}{u:HO},H b=aa u->b∉ch:=λ{b u} q z=>by rw[(hf b z).1]at q;cases q
 by_cases z:c=s.heap.objs.size
 .subst z;rw[jr]at e;cases e;exact⟨hl,us,rv,hp,hq⟩
 .rw[jf z]at e;refine jm.stay (I.hok c o e) (λb u hb q=>kp b u ?_ q) (λb q=>tr q) (λb xs q=>tr q) (λb _ _ q=>tr q);rcases hb with hb|hb
  .subst hb;exact out e
  .exact out hb
end
noncomputable def Itz(K:k70)(l1 l2:Bool)(t1 t2:ak):It :=
 ⟨λi H=>∃xs ys x y,SqB K l1 H t1 xs/\SqB K l2 H t2 ys/\xs[i]?=aa x/\ys[i]?=aa y,
 λi H v H'=>∃p x y,v=.ref p/\H p=ah/\H'=upd H p (.tup [x,y])/\(∀xs,SqB K l1 H t1 xs->xs[i]?=aa x)/\∀ys,SqB K l2 H t2 ys->ys[i]?=aa y,
 λi H=>∃xs ys,SqB K l1 H t1 xs/\SqB K l2 H t2 ys/\(xs.length<=i\/ys.length<=i)⟩
theorem j5l{P:ay}{w:aD}{K:k70}{es:List au}{n:Nat}{pos:aR}{l1 l2:Bool}{z TI TO i1 i2 t1 t2:ak}(D:di z TI TO i1 i2 t1 t2) :
  Turn P w K (.Tuple es n pos) (Itz K l1 l2 t1 t2) [z,TI,TO,i1,i2] z (λi h=>eC h z TI TO .none/\bu h TI (.ref i1) (.ref i2)/\(∃a b,bu h TO a b)/\jg l1 h i1 t1 i/\jg l2 h i2 t2 i) where
 mem:=by simp
 obj:=λi h ⟨hz,hTI,⟨a,b,hTO⟩,h1,h2⟩ c hc=>by
  simp at hc;rcases hc with rfl|rfl|rfl|rfl|rfl
  .exact⟨_,hz,λv e=>by cases e⟩
  .exact⟨_,hTI,λv e=>by cases e⟩
  .exact⟨_,hTO,λv e=>by cases e⟩
  .exact h1.obj
  .exact h2.obj
 keep:=λi h h' ⟨hz,hTI,⟨a,b,hTO⟩,h1,h2⟩ k=>⟨k z (by simp) _ hz,k TI (by simp) _ hTI,⟨a,b,k TO (by simp) _ hTO⟩,h1.stay λo e=>k i1 (by simp) o e,h2.stay λo e=>k i2 (by simp) o e⟩
 item:=by
  rintro X hP hw hK hc i pins s σ H E I hf ⟨hz,hTI,⟨a,b,hTO⟩,h1,h2⟩ ⟨xs,ys,x,y,sx,sy,hx,hy⟩;subst hP hw hK;obtain⟨us,ru,qu,_⟩:=I.side sx;obtain⟨vs,rv,qv,_⟩:=I.side sy;obtain⟨u,hu,rx⟩:=ru.get hx;obtain⟨v,hv,ry⟩:=rv.get hy;refine Wa D hz hTI hTO h1 h2 qu qv (by simpa using hu) (by simpa using hv) λh' z' o' j1 j2 p' sz kp=>⟨_,rfl,?_⟩
  refine wpAny_letOwnedTupleGo_zip (s:={ s with heap:=h' }) z' λh'' z'' sb=>?_;have zlt:z<s.heap.objs.size:=xq hz;have kp':∀c o,c∉[z,TO,i1,i2]->s.heap.get? c=aa o->h''.get? c=aa o:=λc o nc e=>by simp at nc;exact sb.extBut _ _ nc.1 (kp c o nc.1 nc.2.1 nc.2.2.1 nc.2.2.2 e)
  have hf':∀c∈[z,TO,i1,i2],Qe X pins H c:=λc hc=>hf c (by simp at hc ⊢;rcases hc with h|h|h|h<;>simp[h]);have pt:jv h'' s.heap.objs.size [u,v].toArray:=⟨_,sb.extBut _ _ (Pk zlt) p',rfl,_,rfl⟩
  refine⟨.ref s.heap.objs.size,_,I.chgT hf' kp' (xs:=[x,y]) (.cons rx (.cons ry .nil)) (by show 2<=ar;decide) pt (Zo.of (sb.extBut _ _ (Pk zlt) p')),rfl,⟨_,x,y,rfl,I.fresh,rfl,λws hw=>by rw[I.side_inj hw sx];exact hx,λws hw=>by rw[I.side_inj hw sy];exact hy⟩,?_,λc hc=>?_⟩
  .refine⟨z'',?_,⟨u,v,sb.extBut _ _ D.TOz o'⟩,j1.ext sb.extBut D.i1z,j2.ext sb.extBut D.i2z⟩;exact sb.extBut _ _ D.TIz (kp TI _ D.TIz D.TITO D.TIi1 D.TIi2 hTI)
  .obtain⟨o,e,_⟩:∃o,s.heap.get? c=aa o/\True:=by
    simp at hc;rcases hc with rfl|rfl|rfl|rfl|rfl
    .exact⟨_,hz,trivial⟩
    .exact⟨_,hTI,trivial⟩
    .exact⟨_,hTO,trivial⟩
    .obtain⟨o,e,_⟩:=h1.obj;exact⟨o,e,trivial⟩
    .obtain⟨o,e,_⟩:=h2.obj;exact⟨o,e,trivial⟩
   rw[jf (X8 (xq e))];exact(hf c hc).1
 done:=by
  rintro X hP hw hK hc i pins s σ H E I hf ⟨hz,hTI,⟨a,b,hTO⟩,h1,h2⟩ ⟨xs,ys,sx,sy,hend⟩;subst hP hw hK;obtain⟨us,ru,qu,_⟩:=I.side sx;obtain⟨vs,rv,qv,_⟩:=I.side sy;have e1:=ru.length;have e2:=rv.length;have hf':∀c∈[z,TO,i1,i2],Qe X pins H c:=λc hc=>hf c (by simp at hc ⊢;rcases hc with h|h|h|h<;>simp[h]);refine Rv (I.ok.hd hc) D hz hTI hTO h1 h2 qu qv ?_ λh' kp=>⟨rfl,I.chg hf' λc o nc e=>?_⟩
  .rcases hend with h|h
   .left;simp;omega
   .right;simp;omega
  .simp at nc;exact kp c o nc.1 nc.2.1 nc.2.2.1 nc.2.2.2 e
 self:=λ_ _ _ _ _ st h=>gj st.1 h
section
variable{X:Cx}{ρ:Rho}{a b:au}{es:List au}{n:Nat}{pos p q1 q2:aR}{ds ds':List D}{l1 l2:Bool}
noncomputable def D.seq(lst:Bool)(ds:List D):D:=if lst=af then .lst ds else .tup ds
theorem Ju{K:k70}{H:Hp}{lst:Bool}{v:V}(h:Enc K H (D.seq lst ds) v):∃t xs,v=.ref t/\SqB K lst H t xs/\j5 K H ds xs:=by
 unfold D.seq at h;unfold SqB;cases lst with
 |true=>rw[if_pos rfl]at h;obtain⟨t,xs,e,s,l⟩:=h;exact⟨t,xs,e,by rw[if_pos rfl];exact s,l⟩
 |false=>rw[if_neg xf]at h;obtain⟨t,xs,e,s,l⟩:=h;exact⟨t,xs,e,by rw[if_neg xf];exact s,l⟩
noncomputable def U5(ds ds':List D):List D:=(ds.zip ds').map λp=>D.tup [p.1,p.2]
theorem j78{K:k70}{F:Hp}{t1 t2:ak}{xs ys:List V}(s1:SqB K l1 F t1 xs)(s2:SqB K l2 F t2 ys)(e1:j5 K F ds xs)(e2:j5 K F ds' ys):Uy K F (Itz K l1 l2 t1 t2) (U5 ds ds'):=λi H A g hA=>by
 have s1':SqB K l1 H t1 xs:=ji.seqB (g.seqB s1);have s2':SqB K l2 H t2 ys:=ji.seqB (g.seqB s2);have hl:(U5 ds ds').length=min ds.length ds'.length:=by unfold U5;rw[xg,fX]
 refine⟨λh=>?_,λh=>⟨xs,ys,s1',s2',?_⟩,λv H' ⟨p,x,y,ev,np,eH,hx,hy⟩=>?_⟩
 .rw[hl]at h;obtain⟨x,hx,_⟩:=e1.get (kh (show i<ds.length by omega));obtain⟨y,hy,_⟩:=e2.get (kh (show i<ds'.length by omega));exact⟨xs,ys,x,y,s1',s2',hx,hy⟩
 .rw[hl]at h;rw[e1.length,e2.length];omega
 .subst eH;refine⟨j8 np,λd hd=>?_⟩;unfold U5 at hd;rw[X6]at hd;cases z:(ds.zip ds')[i]? with
  |none=>rw[z]at hd;cases hd
  |some pr =>rw[z]at hd;cases hd;obtain⟨h1,h2⟩:=List.getElem?_zip_eq_some.mp z;obtain⟨x',hx',ex⟩:=e1.get h1;obtain⟨y',hy',ey⟩:=e2.get h2;have q1:=hx xs s1';have q2:=hy ys s2';rw[hx']at q1;cases q1;rw[hy']at q2;cases q2;have pA:p∉A:=λz=>hA p z np;have gg:j4 F (del (upd H p (.tup [x,y])) A):=g.trans (jb (j8 np));exact⟨p,[x,y],ev,.inl (.inl (by rw[j6 pA];exact jr)),x,[y],rfl,ex.mono gg,y,[],rfl,ey.mono gg,rfl⟩
theorem DI.zip (l1 l2:Bool) (ha:DE X ρ a (D.seq l1 ds)) (hb:DE X ρ b (D.seq l2 ds')) (hm:X.mg "zip" = ah) (hg:Gl X "zip":=by rfl) (hs:ai [a,b] X.env=(ae,aB a X.env)::ai [b] X.env:=by rfl)
  (hs2:ai [b] X.env=(ae,aB b X.env)::ai [] X.env:=by rfl) (hpl:(aP pos (ai [b] X.env)).any (·.1)=ae:=by rfl):DI X ρ (.Tuple es n q1) (.Call (.Name "zip" p) [a,b] [] pos) (U5 ds ds'):=λσ H R r q pins s I=>by
 have args:W4 X [a,b] σ H (λvs H'=>∃v u,vs=[v,u]/\j4 H H'/\Enc X.K (del H' (owns ρ)) (D.seq l1 ds) v/\Enc X.K (del H' (owns ρ)) (D.seq l2 ds') u) :=
  (j9 peS (j9 peS jt hs2) hs).to (ha σ H _ r λv H1 g1 e1=>hb σ H1 _ (r.grow g1) λu H2 g2 e2=>⟨v,u,rfl,g1.trans g2,e1.mono (jb g2),e2⟩)
 refine jB (Ja I hg hm lM (callWith_type1 (thn (args pos pins s I) λus s1 h1=>?_) hs hpl));obtain⟨vs,H1,I1,r1,v,u,ev,g1,e1,e2⟩:=h1;subst ev;obtain⟨t1,xs,et1,sq1,en1⟩:=Ju e1;obtain⟨t2,ys,et2,sq2,en2⟩:=Ju e2;subst et1 et2;obtain⟨u1,u2,eu,ru1,ru2⟩:=r1.two;subst eu;cases ru1;cases ru2;obtain⟨w1,rw1,qw1,_⟩:=I1.side (ji.seqB sq1);obtain⟨w2,rw2,qw2,_⟩:=I1.side (ji.seqB sq2);refine callType_new lA (by decide) (jH _ _) (jT _ _) (λobj=>iF obj _ _) jV (j00 (l1:=l1) (l2:=l2) t1 t2 w1.toArray w2.toArray) ⟨qw1,qw2,?_⟩;have z1:(zh1 s1.heap l1 t1).objs.size=s1.heap.objs.size+1:=Xf ..;have z2:(zh2 s1.heap l1 l2 t1 t2).objs.size=s1.heap.objs.size+2:=by rw[Xf,z1]
 have z3:(zh3 s1.heap l1 l2 t1 t2).objs.size=s1.heap.objs.size+3:=by rw[Xf,z2]
 have z4:(zh4 s1.heap l1 l2 t1 t2).objs.size=s1.heap.objs.size+4:=by rw[Xf,z3]
 have z5:(zh5 s1.heap l1 l2 t1 t2).objs.size=s1.heap.objs.size+5:=by rw[Xf,z4]
 have b5:(zh5 s1.heap l1 l2 t1 t2).get? (zh4 s1.heap l1 l2 t1 t2).objs.size=aa _:=xx _ rfl;have b4:(zh5 s1.heap l1 l2 t1 t2).get? (zh3 s1.heap l1 l2 t1 t2).objs.size=aa _:=kj _ (xx _ rfl);have b3:(zh5 s1.heap l1 l2 t1 t2).get? (zh2 s1.heap l1 l2 t1 t2).objs.size=aa _:=kj _ (kj _ (xx _ rfl));have b2:(zh5 s1.heap l1 l2 t1 t2).get? (zh1 s1.heap l1 t1).objs.size=aa _:=kj _ (kj _ (kj _ (xx _ rfl)));have b1:(zh5 s1.heap l1 l2 t1 t2).get? s1.heap.objs.size=aa _:=kj _ (kj _ (kj _ (kj _ (xx _ rfl))));have kp:∀c o,s1.heap.get? c=aa o->(zh5 s1.heap l1 l2 t1 t2).get? c=aa o:=λc o e=>kj _ (kj _ (kj _ (kj _ (kj _ e))));show _/\_;rw[z2,z3,z4]at b5;rw[z1,z2]at b3;rw[z3]at b4;rw[z1]at b2;rw[z4];have I2:Inv X pins σ H1 { s1 with heap:=zh5 s1.heap l1 l2 t1 t2 }:=I1.kept (t':=s1.toks) kp;have lt1:t1<s1.heap.objs.size:=by
  unfold jh at qw1;cases l1 with
  |true=>rw[if_pos rfl]at qw1;obtain⟨_,e,_⟩:=qw1;exact xq e
  |false=>rw[if_neg xf]at qw1;obtain⟨_,e,_⟩:=qw1;exact xq e
 have lt2:t2<s1.heap.objs.size:=by
  unfold jh at qw2;cases l2 with
  |true=>rw[if_pos rfl]at qw2;obtain⟨_,e,_⟩:=qw2;exact xq e
  |false=>rw[if_neg xf]at qw2;obtain⟨_,e,_⟩:=qw2;exact xq e
 have side:∀{l:Bool}{j t:ak},(zh5 s1.heap l1 l2 t1 t2).get? j=aa { cls:=.type (U6 l),data:=.fields #[.ref t,.int 0 0] }->jg l (zh5 s1.heap l1 l2 t1 t2) j t 0:=λ{l j t} e=>by
  unfold jg;cases l with
  |true=>rw[if_pos rfl];exact⟨_,e,rfl,rfl⟩
  |false=>rw[if_neg xf];exact⟨_,e,rfl,rfl⟩
 refine⟨⟨_,b5,rfl⟩,gj (s:={ s1 with heap:=zh5 s1.heap l1 l2 t1 t2 }) b5 ?_⟩;refine⟨_,_,_,Itz X.K l1 l2 t1 t2,H1,rfl,I2,j5l (zipApart_new lt1 lt2),⟨b5,b3,⟨_,_,b4⟩,side b1,side b2⟩,λc hc=>?_,q _ H1 g1 (j78 sq1 sq2 en1 en2)⟩;have hc':c=s1.heap.objs.size+4\/c=s1.heap.objs.size+2\/c=s1.heap.objs.size+3\/c=s1.heap.objs.size\/c=s1.heap.objs.size+1:=by simpa using hc
 have hge:s1.heap.objs.size<=c:=by rcases hc' with e|e|e|e|e<;>rw[e]<;>first|exact X5 _|exact Nat.le_add_right _ _
 obtain⟨f0,f1,f2,f3,f4,f5⟩:=I1.fpOk hge (I1.hok.fresh hge);exact⟨f0,f1,f2,f3,f4,f5⟩
theorem DG.pair{x y:ao}(i j:Nat){d d':D}(hij:i≠j)(hN:X.N.Nodup)(hi:X.N[i]?=aa x:=by rfl)(hj:X.N[j]?=aa y:=by rfl)(hx:Loc X.env.scope x:=by first|exact aY rfl|exact bJ rfl)(hy:Loc X.env.scope y:=by first|exact aY rfl|exact bJ rfl)
  (fx:X.fn x=af\/X.env.scope.names.lookup x=aa .local:=by first|exact .inl rfl|exact .inr rfl) (fy:X.fn y=af\/X.env.scope.names.lookup y=aa .local:=by first|exact .inl rfl|exact .inr rfl) (hc:X.calm=af:=by rfl)
  (hn:(bF [.Name x q1,.Name y q2] X.env).length=2:=by rfl) (hst:(bF [.Name x q1,.Name y q2] X.env).findIdx? (·.1)=ah:=by rfl)
  (e1:(bF [.Name x q1,.Name y q2] X.env).map (·.2)=de (.Name x q1) X.env::(bF [.Name y q2] X.env).map (·.2):=by rfl) (e2:(bF [.Name y q2] X.env).map (·.2)=de (.Name y q2) X.env::(bF [] X.env).map (·.2):=by rfl) :
  DG X ρ (.Tuple [.Name x q1,.Name y q2] n pos) (.tup [d,d']) ((ρ.set i (.val d)).set j (.val d')):=by
 refine⟨λb hb=>(jd rfl).subset ((jd rfl).subset hb),λσ H v Q R en q=>?_⟩;obtain⟨t,xs,ev,sq,u,r,e,eu,u',r',e',eu',er⟩:=en;subst e e' ev er;refine(jdn hc (Lz (Bm hN hi hx fx) (Lz (Bm hN hj hy fy) jaq e2) e1) hn hst).to ⟨t,[u,u'],rfl,ji.seqT sq,rfl,u,[u'],rfl,u',[],rfl,rfl,?_⟩;refine q _ ?_;have R1:Rep X.K (ρ.set i (.val d)) (σ.set i (aa u)) H:=R.set_val eu;exact R1.set_val (eu'.mono (zb λb hb=>(jd rfl).subset hb))
end
noncomputable def D.ty:D->String
 |.non=>"NoneType"
 |.bl _=>"bool"
 |.int _=>"int"
 |.str _=>"str"
 |.tup _=>"tuple"
 |.lst _=>"list"
 |.dct _ _=>"dict"
 |.sct _=>"dict"
 |.fn _ _=>"function"
section
variable{X:Cx}{pins:k72}{σ:St}{H:Hp}{s:aq}{A:aF}{E:k71}{Q:k71}{c:aj}{b:Bool}
theorem j43 {d:D} {v:V} {u:aj} (I:Inv X pins σ H s) (en:Enc X.K H d v) (r:RelV v u) (nf:d.ty ≠ "function"):∃P:aG->Prop,PySem.W.KitX X.K u (.type d.ty) P/\P s.heap/\u≠.builtin "__main__.__loader__#opaque":=by
 cases d with
 |non=>cases(show v=.non from en);cases(show u=aZ from r);exact⟨_,W.kitx_none,trivial,λz=>nomatch z⟩
 |bl k=>cases(show v=.bl k from en);cases(show u=bo k from r);exact⟨_,W.kitx_bool,trivial,λz=>nomatch z⟩
 |int k=>cases(show v=.int k from en);obtain⟨t,q⟩:=(show ∃t,u=br k t from r);cases q;exact⟨_,W.kitx_int,trivial,λz=>nomatch z⟩
 |str k=>cases(show v=.str k from en);obtain⟨t,q⟩:=(show ∃t,u=b8 k t from r);cases q;exact⟨_,W.kitx_str,trivial,λz=>nomatch z⟩
 |tup l =>obtain⟨a,xs,e,sq,_⟩:=en;subst e;cases(show u=aH a from r);obtain⟨its,_,⟨o,h1,h2,_⟩,_⟩:=I.tuple sq;exact⟨_,W.kitx_tuple,⟨o,h1,h2⟩,λz=>nomatch z⟩
 |lst l =>obtain⟨a,xs,e,sq,_⟩:=en;subst e;cases(show u=aH a from r);obtain⟨its,_,⟨o,n,h1,h2,_⟩,_⟩:=I.list sq;exact⟨_,W.kitx_list,⟨o,h1,h2⟩,λz=>nomatch z⟩
 |dct ks l =>
  obtain⟨a,xs,ep,vs,e,hx,_⟩:=en;subst e;cases(show u=aH a from r);obtain⟨_,_,_,o,es,h1,h2,_⟩:=(show jm X.prog X.w H s.heap a (.dI xs ep)from I.hok _ _ hx)
  exact⟨_,W.kitx_dict,⟨o,h1,h2.1⟩,λz=>nomatch z⟩
 |sct k =>
  obtain⟨a,e,hx⟩:=en;subst e;cases(show u=aH a from r);obtain⟨_,_,vs,_,o,es,ep,h1,h2,_⟩:=(show jm X.prog X.w H s.heap a (.dK (kvI k))from I.hok _ _ hx)
  exact⟨_,W.kitx_dict,⟨o,h1,h2.1⟩,λz=>nomatch z⟩
 |fn x l=>exact absurd rfl nf
theorem j57:Jh X (.builtin "isinstance") (λxs H Q=>∃v d c b,xs=[v,.ty c]/\Enc X.K H d v/\d.ty ≠ "function"/\W.kitOne X.K (.type d.ty) (.type c)=aa b/\Q (.bl b) H):=by rintro pins s σ H xs us Q I r ⟨v,d,c,b,e,en,nf,k,q⟩;subst e;obtain⟨u,u',eu,r1,r2⟩:=vals2 r;subst eu;cases(show u'=cQ c from r2);obtain⟨P,Z,hp,hn⟩:=j43 I en r1 nf;exact W.kia_one Z I.kIn hp k hn λtk=>⟨.bl b,H,I.tok tk,rfl,q⟩
theorem j56:Jh X (.builtin "isinstance") (λxs H Q=>∃(v:V)(t:ak)(d:D)(cs:List String)(b:Bool),xs=[v,.ref t]/\Enc X.K H d v/\d.ty ≠ "function"/\SqT X.K H t (cs.map V.ty)/\W.kitAny X.K (.type d.ty) (cs.map cQ)=aa b/\Q (.bl b) H):=by
 rintro pins s σ H xs us Q I r ⟨v,t,d,cs,b,e,en,nf,sq,k,q⟩;subst e;obtain⟨u,u',eu,r1,r2⟩:=vals2 r;subst eu;cases(show u'=aH t from r2);obtain⟨P,Z,hp,hn⟩:=j43 I en r1 nf;obtain⟨its,rv,⟨⟨cl,dd,da,sl⟩,h1,h2,n,h3⟩,_⟩:=I.tuple sq;have h2:cl=.type "tuple":=h2;have h3:da=.seq its.toArray n:=h3;subst h2 h3;have ei:∀{cs:List String}{its:List aj},Vals (cs.map V.ty) its->its=cs.map cQ:=λ{cs}=>by
  induction cs with
  |nil=>intro its h;exact h.zero
  |cons c cs ih=>intro its h;cases h with|cons a b=>cases a;rw[ih b];rfl
 rw[ei rv]at h1;exact W.kia_tup Z I.kIn hp h1 k hn λtk=>⟨.bl b,H,I.tok tk,rfl,q⟩
end
section
variable{X:Cx}{ρ:Rho}{a b:au}{d:D}{pos p p1 p2 p3:aR}{T T1 T2:ao}{c c1 c2:String}{k:Bool}{n:Nat}
theorem j1f (hg:Gl X T) (hm:X.mg T=ah) (hv:bg T=aa (.type c)) (hn:T ≠ "__name__":=by decide) (hd:(T==k74)=ae:=by decide):PE X (.Name T p) (tC (.ty c)):=jat hg hm hv rfl hn hd
theorem DE.isi1 (ha:DT X ρ a d) (nf:d.ty ≠ "function") (hm:X.mg "isinstance" = ah) (hT:X.mg T=ah) (hv:bg T=aa (.type c)) (hk:W.kitOne X.K (.type d.ty) (.type c)=aa k) (hg:Gl X "isinstance":=by rfl) (hg2:Gl X T:=by rfl)
  (hn:T ≠ "__name__":=by decide) (hd:(T==k74)=ae:=by decide)
  (hs:ai [a,.Name T p2] X.env=(ae,aB a X.env)::ai [.Name T p2] X.env:=by rfl) (hs2:ai [.Name T p2] X.env=(ae,aB (.Name T p2) X.env)::ai [] X.env:=by rfl) (hpl:(aP pos (ai [.Name T p2] X.env)).any (·.1)=ae:=by rfl) :
  DE X ρ (.Call (.Name "isinstance" p) [a,.Name T p2] [] pos) (.bl k):=λσ H Q R q =>
 (zc j57 hg hm l9 (j9 peS (j9 (j1f hg2 hT hv hn hd) jt hs2) hs) (by decide) (by decide) hs hpl).to (ha σ H _ R λv H1 g1 e1=>⟨v,d,c,k,rfl,e1,nf,hk,q _ H1 g1 rfl⟩)
theorem DE.isi2 {m:Nat} (ha:DT X ρ a d) (nf:d.ty ≠ "function") (hm:X.mg "isinstance" = ah) (hT1:X.mg T1=ah) (hT2:X.mg T2=ah) (hv1:bg T1=aa (.type c1)) (hv2:bg T2=aa (.type c2))
  (hk:W.kitAny X.K (.type d.ty) [.type c1,.type c2]=aa k) (hg:Gl X "isinstance":=by rfl) (hg1:Gl X T1:=by rfl) (hg2:Gl X T2:=by rfl)
  (hn1:T1 ≠ "__name__":=by decide) (hd1:(T1==k74)=ae:=by decide) (hn2:T2 ≠ "__name__":=by decide) (hd2:(T2==k74)=ae:=by decide)
  (hs:ai [a,.Tuple [.Name T1 p1,.Name T2 p2] m p3] X.env=(ae,aB a X.env)::ai [.Tuple [.Name T1 p1,.Name T2 p2] m p3] X.env:=by rfl)
  (hs2:ai [.Tuple [.Name T1 p1,.Name T2 p2] m p3] X.env=(ae,aB (.Tuple [.Name T1 p1,.Name T2 p2] m p3) X.env)::ai [] X.env:=by rfl) (hpl:(aP pos (ai [.Tuple [.Name T1 p1,.Name T2 p2] m p3] X.env)).any (·.1)=ae:=by rfl)
  (hs3:ai [.Name T1 p1,.Name T2 p2] X.env=(ae,aB (.Name T1 p1) X.env)::ai [.Name T2 p2] X.env:=by rfl) (hs4:ai [.Name T2 p2] X.env=(ae,aB (.Name T2 p2) X.env)::ai [] X.env:=by rfl) :
  DE X ρ (.Call (.Name "isinstance" p) [a,.Tuple [.Name T1 p1,.Name T2 p2] m p3] [] pos) (.bl k):=λσ H Q R q =>
 (zc j56 hg hm l9 (j9 peS (j9 (j3k (j9 (j1f hg1 hT1 hv1 hn1 hd1) (j9 (j1f hg2 hT2 hv2 hn2 hd2) jt hs4) hs3)) jt hs2) hs) (by decide) (by decide) hs hpl).to
  (ha σ H _ R λv H1 g1 e1=>⟨by show 2<=ar;decide,λt ht=>⟨v,t,d,[c1,c2],k,rfl,e1.mono (j8 ht),nf,.inl (.inl jr),hk,q _ _ (g1.trans (j8 ht)) rfl⟩⟩)
end
mutual
noncomputable def deq:D->D->Bool
 |.non,.non=>af
 |.bl a,.bl b=>a==b
 |.bl a,.int b=>(if a then 1 else 0)==b
 |.int a,.bl b=>a==(if b then 1 else 0)
 |.int a,.int b=>a==b
 |.str a,.str b=>a==b
 |.tup xs,.tup ys=>v9 xs ys
 |.lst xs,.lst ys=>v9 xs ys
 |.dct k xs,.dct m ys=>decide (k=m)&&v9 xs ys
 |.sct k,.sct m=>decide (k=m)
 |_,_=>ae
noncomputable def v9:List D->List D->Bool
 |[],[]=>af
 |x::xs,y::ys=>deq x y&&v9 xs ys
 |_,_=>ae
end
theorem jfq{a b:Bool}:deq (.bl a) (.bl b)=(a==b):=(rfl)
theorem jfp{a b:Int}:deq (.int a) (.int b)=(a==b):=(rfl)
theorem Ij{a b:ao}:deq (.str a) (.str b)=(a==b):=(rfl)
theorem Ii{a b:List D}:deq (.tup a) (.tup b)=v9 a b:=(rfl)
theorem Ik{a b:List D}:deq (.lst a) (.lst b)=v9 a b:=(rfl)
theorem Vu:v9 [] []=af:=(rfl)
theorem Qw{x y:D}{xs ys:List D}:v9 (x::xs) (y::ys)=(deq x y&&v9 xs ys):=(rfl)
theorem Rg{y:D}{ys:List D}:v9 [] (y::ys)=ae:=(rfl)
theorem Rh{x:D}{xs:List D}:v9 (x::xs) []=ae:=(rfl)
mutual
noncomputable def D.dep:D->Nat
 |.tup xs=>D.depL xs+1
 |.lst xs=>D.depL xs+1
 |.dct _ _=>20000
 |.sct _=>20000
 |.fn _ _=>20000
 |_=>0
noncomputable def D.depL:List D->Nat
 |[]=>0
 |x::xs=>max x.dep (D.depL xs)
end
mutual
theorem Mr:∀d:D,d.dep<10000->deq d d=af
 |.non,_=>rfl
 |.bl b,_=>by rw[jfq];simp
 |.int i,_=>by rw[jfp];simp
 |.str x,_=>by rw[Ij];simp
 |.tup xs,h=>by rw[Ii];exact Wj xs (by simp only[D.dep]at h;omega)
 |.lst xs,h=>by rw[Ik];exact Wj xs (by simp only[D.dep]at h;omega)
 |.dct _ _,h=>by simp[D.dep]at h
 |.sct _,h=>by simp[D.dep]at h
 |.fn _ _,h=>by simp[D.dep]at h
theorem Wj:∀ds:List D,D.depL ds<10000->v9 ds ds=af
 |[],_=>rfl
 |d::ds,h=>by rw[D.depL]at h;rw[Qw,Mr d nofun,Wj ds nofun];rfl
end
theorem Vv:∀{xs ys:List D},xs.length≠ys.length->v9 xs ys=ae
 |[],[],h=>absurd rfl h
 |[],_::_,_=>by simp[Vu,Qw,Rg,Rh]
 |_::_,[],_=>by simp[Vu,Qw,Rg,Rh]
 |x::xs,y::ys,h=>by have:=Vv (xs:=xs) (ys:=ys) (by simpa using h);simp[Vu,Qw,Rg,Rh,this]
theorem Z6{f:Nat->Bool}:∀{xs ys:List D},xs.length=ys.length->(∀(j:Nat) x y,xs[j]?=aa x->ys[j]?=aa y->f j=deq x y)->(aK xs.length).all f=v9 xs ys
 |[],[],_,_=>by simp[Vu,Qw,Rg,Rh]
 |[],_::_,h,_=>by simp at h
 |_::_,[],h,_=>by simp at h
 |x::xs,y::ys,h,hf=>by have ih:=Z6 (f:=λj=>f (j+1)) (xs:=xs) (ys:=ys) (by simpa using h) (λj a b ha hb=>hf (j+1) a b (by simpa using ha) (by simpa using hb));rw[xr,eE,gx,hf 0 x y rfl rfl,gJ];simp only[Qw];rw[<-ih];rfl
section
variable{X:Cx}{pins:k72}{σ:St}{H:Hp}{s:aq}
theorem K5(I:Inv X pins σ H s){a:ak}{xs ys:List V}(h:SqT X.K H a xs)(h':SqL X.K H a ys):False:=by obtain⟨_,_,⟨o,h1,h2,_⟩,_⟩:=I.tuple h;obtain⟨_,_,⟨o',n,h1',h2',_⟩,_⟩:=I.list h';rw[h1]at h1';cases h1';rw[h2]at h2';injection h2' with e;exact absurd e (by decide)
noncomputable def D.atom:D->Option V
 |.non=>aa .non
 |.bl b=>aa (.bl b)
 |.int i=>aa (.int i)
 |.str x=>aa (.str x)
 |_=>ah
theorem Enc.at_{K:k70}{d:D}{v u:V}(h:Enc K H d v)(e:d.atom=aa u):v=u:=by
 cases d with
 |non=>cases e;exact(show v=.non from h)
 |bl b=>cases e;exact(show v=.bl b from h)
 |int i=>cases e;exact(show v=.int i from h)
 |str x=>cases e;exact(show v=.str x from h)
 |_=>cases e
theorem Enc.ref{K:k70}{d:D}{v:V}(h:Enc K H d v)(e:d.atom=ah):∃a,v=.ref a:=by
 cases d with
 |tup l=>obtain⟨a,_,e,_⟩:=h;exact⟨a,e⟩
 |lst l=>obtain⟨a,_,e,_⟩:=h;exact⟨a,e⟩
 |dct k l=>obtain⟨a,_,_,_,e,_⟩:=h;exact⟨a,e⟩
 |sct k=>obtain⟨a,e,_⟩:=h;exact⟨a,e⟩
 |fn x l=>obtain⟨a,_,_,_,_,e,_⟩:=h;exact⟨a,e⟩
 |_=>cases e
theorem j8m{d d':D}{u:V}(h:d.atom=aa u)(h':d'.atom=aa u):d=d':=by cases d<;>cases d'<;>first|(cases h;done)|(cases h';done)|(cases h;cases h';rfl)|(cases h;cases h')
theorem Ef{d:D}{a:ak}(h:d.atom=aa (.ref a)):False:=by cases d<;>cases h
theorem jf1(I:Inv X pins σ H s){d d':D}{v:V}(hd:d.dep<10000)(hd':d'.dep<10000)(h:Enc X.K H d v)(h':Enc X.K H d' v) :
  d=d'\/∃ds ds' xs,((d=.tup ds/\d'=.tup ds')\/(d=.lst ds/\d'=.lst ds'))/\j5 X.K H ds xs/\j5 X.K H ds' xs:=by
 cases e:d.atom with
 |some u =>
  have ev:=h.at_ e;subst ev;cases e':d'.atom with
  |some u'=>exact .inl (j8m e ((h'.at_ e')▸e'))
  |none=>obtain⟨a,ea⟩:=h'.ref e';subst ea;exact(Ef e).elim
 |none =>
  cases e':d'.atom with
  |some u'=>have ev:=h'.at_ e';subst ev;obtain⟨a,ea⟩:=h.ref e;subst ea;exact(Ef e').elim
  |none =>
   cases d with
   |tup ds =>
    obtain⟨a,xs,ea,sq,l⟩:=h;cases d' with
    |tup ds' =>obtain⟨a',ys,eb,sq',l'⟩:=h';rw[ea]at eb;cases eb;rw[I.tuple_inj sq' sq]at l';exact .inr ⟨ds,ds',xs,.inl ⟨rfl,rfl⟩,l,l'⟩
    |lst ds'=>obtain⟨a',ys,eb,sq',l'⟩:=h';rw[ea]at eb;cases eb;exact(K5 I sq sq').elim
    |dct _ _=>simp[D.dep]at hd'
    |sct _=>simp[D.dep]at hd'
    |fn _ _=>simp[D.dep]at hd'
    |_=>cases e'
   |lst ds =>
    obtain⟨a,xs,ea,sq,l⟩:=h;cases d' with
    |lst ds' =>obtain⟨a',ys,eb,sq',l'⟩:=h';rw[ea]at eb;cases eb;rw[I.list_inj sq' sq]at l';exact .inr ⟨ds,ds',xs,.inr ⟨rfl,rfl⟩,l,l'⟩
    |tup ds'=>obtain⟨a',ys,eb,sq',l'⟩:=h';rw[ea]at eb;cases eb;exact(K5 I sq' sq).elim
    |dct _ _=>simp[D.dep]at hd'
    |sct _=>simp[D.dep]at hd'
    |fn _ _=>simp[D.dep]at hd'
    |_=>cases e'
   |dct _ _=>simp[D.dep]at hd
   |sct _=>simp[D.dep]at hd
   |fn _ _=>simp[D.dep]at hd
   |_=>cases e
theorem j7p{n:Nat}(ih:∀{d d':D}{v:V},d.dep<=n->d.dep<10000->d'.dep<10000->Enc X.K H d v->Enc X.K H d' v->d=d'):∀{ds ds':List D}{xs:List V},D.depL ds<=n->D.depL ds<10000->D.depL ds'<10000->j5 X.K H ds xs->j5 X.K H ds' xs->ds=ds'
 |[],[],_,_,_,_,_,_=>rfl
 |[],_::_,_,_,_,_,h,⟨x,r,e,_⟩=>by cases h;cases e
 |_::_,[],_,_,_,_,⟨x,r,e,_⟩,h=>by cases h;cases e
 |d::ds,d'::ds',_,m,n1,n2,⟨x,r,e,h,l⟩,⟨x',r',e',h',l'⟩=>by subst e;cases e';rw[D.depL]at m n1 n2;rw[ih nofun nofun nofun h h',j7p ih nofun nofun nofun l l']
theorem j7o(I:Inv X pins σ H s):∀(n:Nat){d d':D}{v:V},d.dep<=n->d.dep<10000->d'.dep<10000->Enc X.K H d v->Enc X.K H d' v->d=d'
 |0,d,d',v,hn,hd,hd',h,h'=>by
  rcases jf1 I hd hd' h h' with e|⟨ds,ds',xs,⟨e,_⟩|⟨e,_⟩,_⟩
  .exact e
  .subst e;simp[D.dep]at hn
  .subst e;simp[D.dep]at hn
 |n+1,d,d',v,hn,hd,hd',h,h'=>by
  rcases jf1 I hd hd' h h' with e|⟨ds,ds',xs,⟨e,e'⟩|⟨e,e'⟩,l,l'⟩
  .exact e
  .subst e e';simp only[D.dep]at hn hd hd';rw[j7p (λa b c=>j7o I n a b c) nofun nofun nofun l l']
  .subst e e';simp only[D.dep]at hn hd hd';rw[j7p (λa b c=>j7o I n a b c) nofun nofun nofun l l']
theorem Enc.inj(I:Inv X pins σ H s){d d':D}{v:V}(hd:d.dep<10000)(hd':d'.dep<10000)(h:Enc X.K H d v)(h':Enc X.K H d' v):d=d':=j7o I d.dep (X5 _) hd hd' h h'
end
section
variable{X:Cx}{pins:k72}{σ:St}{H:Hp}{s:aq}
theorem D.depL_le:∀{ds:List D}{j:Nat}{d:D},ds[j]?=aa d->d.dep<=D.depL ds
 |[],_,_,h=>by simp at h
 |x::xs,0,d,h=>by simp at h;subst h;simp[D.depL];omega
 |x::xs,j+1,d,h=>by have:=D.depL_le (ds:=xs) (j:=j) (d:=d) (by simpa using h);simp[D.depL];omega
theorem Vl(I:Inv X pins σ H s):∀(n:Nat)(A:aF){d d':D}{v v':V}{u u':aj},d.dep<=n->A.units+n<bE->d'.dep<10000->Enc X.K H d v->RelV v u->Enc X.K H d' v'->RelV v' u' ->
  fY A s u u' (deq d d')/\dX A s u u' (deq d d')
 |0,A,d,d',v,v',u,u',hn,hu,nd,en,r,en',r'=>by
  have hu0:A.units<bE:=by omega
  cases d with
  |tup l=>simp[D.dep]at hn
  |lst l=>simp[D.dep]at hn
  |dct ks l=>simp[D.dep]at hn
  |sct k=>simp[D.dep]at hn
  |fn x l=>simp[D.dep]at hn
  |non =>
   cases(show v=.non from en);cases(show u=aZ from r);cases d' with
   |dct ks' l'=>simp[D.dep]at nd
   |sct k'=>simp[D.dep]at nd
   |fn x' l'=>simp[D.dep]at nd
   |non=>cases(show v'=.non from en');cases(show u'=aZ from r');exact⟨.none_none,.same _⟩
   |bl k=>cases(show v'=.bl k from en');cases(show u'=bo k from r');exact⟨.none_bool _,.none_bool _⟩
   |int k=>cases(show v'=.int k from en');obtain⟨t,q⟩:=(show ∃t,u'=br k t from r');subst q;exact⟨.none_int _ _,.none_int _ _⟩
   |str k=>cases(show v'=.str k from en');obtain⟨t,q⟩:=(show ∃t,u'=b8 k t from r');subst q;exact⟨.none_str _ _,.none_str _ _⟩
   |tup l=>obtain⟨a,xs,e,sq,_⟩:=en';subst e;cases(show u'=aH a from r');obtain⟨_,_,q,_⟩:=I.tuple sq;exact⟨.none_tuple q hu0,.none_tuple q hu0⟩
   |lst l=>obtain⟨a,xs,e,sq,_⟩:=en';subst e;cases(show u'=aH a from r');obtain⟨_,_,q,_⟩:=I.list sq;exact⟨.none_list q.isList hu0,.none_list q.isList hu0⟩
  |bl b =>
   cases(show v=.bl b from en);cases(show u=bo b from r);cases d' with
   |dct ks' l'=>simp[D.dep]at nd
   |sct k'=>simp[D.dep]at nd
   |fn x' l'=>simp[D.dep]at nd
   |non=>cases(show v'=.non from en');cases(show u'=aZ from r');exact⟨.bool_none _,.bool_none _⟩
   |bl k=>cases(show v'=.bl k from en');cases(show u'=bo k from r');exact⟨.bool_bool _ _,.bool_bool _ _⟩
   |int k=>cases(show v'=.int k from en');obtain⟨t,q⟩:=(show ∃t,u'=br k t from r');subst q;exact⟨.bool_int _ _ _,.bool_int _ _ _⟩
   |str k=>cases(show v'=.str k from en');obtain⟨t,q⟩:=(show ∃t,u'=b8 k t from r');subst q;exact⟨.bool_str _ _ _,.bool_str _ _ _⟩
   |tup l=>obtain⟨a,xs,e,sq,_⟩:=en';subst e;cases(show u'=aH a from r');obtain⟨_,_,q,_⟩:=I.tuple sq;exact⟨.bool_tuple _ q hu0,.bool_tuple _ q hu0⟩
   |lst l=>obtain⟨a,xs,e,sq,_⟩:=en';subst e;cases(show u'=aH a from r');obtain⟨_,_,q,_⟩:=I.list sq;exact⟨.bool_list _ q.isList hu0,.bool_list _ q.isList hu0⟩
  |int b =>
   cases(show v=.int b from en);obtain⟨tk,q0⟩:=(show ∃t,u=br b t from r);subst q0;cases d' with
   |dct ks' l'=>simp[D.dep]at nd
   |sct k'=>simp[D.dep]at nd
   |fn x' l'=>simp[D.dep]at nd
   |non=>cases(show v'=.non from en');cases(show u'=aZ from r');exact⟨.int_none _ _,.int_none _ _⟩
   |bl k=>cases(show v'=.bl k from en');cases(show u'=bo k from r');exact⟨.int_bool _ _ _,.int_bool _ _ _⟩
   |int k=>cases(show v'=.int k from en');obtain⟨t,q⟩:=(show ∃t,u'=br k t from r');subst q;exact⟨.int_int _ _ _ _,.int_int _ _ _ _⟩
   |str k=>cases(show v'=.str k from en');obtain⟨t,q⟩:=(show ∃t,u'=b8 k t from r');subst q;exact⟨.int_str _ _ _ _,.int_str _ _ _ _⟩
   |tup l=>obtain⟨a,xs,e,sq,_⟩:=en';subst e;cases(show u'=aH a from r');obtain⟨_,_,q,_⟩:=I.tuple sq;exact⟨.int_tuple _ _ q hu0,.int_tuple _ _ q hu0⟩
   |lst l=>obtain⟨a,xs,e,sq,_⟩:=en';subst e;cases(show u'=aH a from r');obtain⟨_,_,q,_⟩:=I.list sq;exact⟨.int_list _ _ q.isList hu0,.int_list _ _ q.isList hu0⟩
  |str b =>
   cases(show v=.str b from en);obtain⟨tk,q0⟩:=(show ∃t,u=b8 b t from r);subst q0;cases d' with
   |dct ks' l'=>simp[D.dep]at nd
   |sct k'=>simp[D.dep]at nd
   |fn x' l'=>simp[D.dep]at nd
   |non=>cases(show v'=.non from en');cases(show u'=aZ from r');exact⟨.str_none _ _,.str_none _ _⟩
   |bl k=>cases(show v'=.bl k from en');cases(show u'=bo k from r');exact⟨.str_bool _ _ _,.str_bool _ _ _⟩
   |int k=>cases(show v'=.int k from en');obtain⟨t,q⟩:=(show ∃t,u'=br k t from r');subst q;exact⟨.str_int _ _ _ _,.str_int _ _ _ _⟩
   |str k=>cases(show v'=.str k from en');obtain⟨t,q⟩:=(show ∃t,u'=b8 k t from r');subst q;exact⟨.str_str _ _ _ _,.str_str _ _ _ _⟩
   |tup l=>obtain⟨a,xs,e,sq,_⟩:=en';subst e;cases(show u'=aH a from r');obtain⟨_,_,q,_⟩:=I.tuple sq;exact⟨.str_tuple _ _ q hu0,.str_tuple _ _ q hu0⟩
   |lst l=>obtain⟨a,xs,e,sq,_⟩:=en';subst e;cases(show u'=aH a from r');obtain⟨_,_,q,_⟩:=I.list sq;exact⟨.str_list _ _ q.isList hu0,.str_list _ _ q.isList hu0⟩
 |n+1,A,d,d',v,v',u,u',hn,hu,nd,en,r,en',r'=>by
  have hu0:A.units<bE:=by omega
  have hu1:A.in1.units+n<bE:=by show A.units+1+n<bE;omega
  have low:d.dep<=n->fY A s u u' (deq d d')/\dX A s u u' (deq d d'):=λh=>Vl I n A h nofun nd en r en' r';cases d with
  |non=>exact low (by simp[D.dep])
  |bl b=>exact low (by simp[D.dep])
  |int b=>exact low (by simp[D.dep])
  |str b=>exact low (by simp[D.dep])
  |dct ks l=>exfalso;have:(9900:Nat)=bE:=rfl;simp only[D.dep]at hn;omega
  |sct k=>exfalso;have:(9900:Nat)=bE:=rfl;simp only[D.dep]at hn;omega
  |fn x l=>exfalso;have:(9900:Nat)=bE:=rfl;simp only[D.dep]at hn;omega
  |tup ds =>
   have hd:D.depL ds<=n:=by simp[D.dep]at hn;omega
   obtain⟨a,xs,e,sq,l⟩:=id en;subst e;cases(show u=aH a from r);obtain⟨us,rv,q,_⟩:=I.tuple sq;cases d' with
   |dct ks' l'=>simp[D.dep]at nd
   |sct k'=>simp[D.dep]at nd
   |fn x' l'=>simp[D.dep]at nd
   |non=>cases(show v'=.non from en');cases(show u'=aZ from r');exact⟨.tuple_none q hu0,.tuple_none q hu0⟩
   |bl k=>cases(show v'=.bl k from en');cases(show u'=bo k from r');exact⟨.tuple_bool _ q hu0,.tuple_bool _ q hu0⟩
   |int k=>cases(show v'=.int k from en');obtain⟨t,q'⟩:=(show ∃t,u'=br k t from r');subst q';exact⟨.tuple_int _ _ q hu0,.tuple_int _ _ q hu0⟩
   |str k=>cases(show v'=.str k from en');obtain⟨t,q'⟩:=(show ∃t,u'=b8 k t from r');subst q';exact⟨.tuple_str _ _ q hu0,.tuple_str _ _ q hu0⟩
   |lst ds'=>obtain⟨a',ys,e,sq',_⟩:=en';subst e;cases(show u'=aH a' from r');obtain⟨_,_,q',_⟩:=I.list sq';exact⟨.tuple_list q q'.isList hu0,.tuple_list q q'.isList hu0⟩
   |tup ds' =>
    obtain⟨a',ys,e,sq',l'⟩:=id en';subst e;cases(show u'=aH a' from r');obtain⟨us',rv',q',_⟩:=I.tuple sq';have e1:us.length=ds.length:=by rw[<-rv.length,l.length]
    have e2:us'.length=ds'.length:=by rw[<-rv'.length,l'.length]
    have main:fY A s (.ref a) (.ref a') (deq (.tup ds) (.tup ds')):=by
     have item:∀(j:Nat)(h1:j<us.toArray.size)(h2:j<us'.toArray.size),dX A.in1 s us.toArray[j] us'.toArray[j] (deq (ds.getD j .non) (ds'.getD j .non)):=λj h1 h2=>by
      have k1:j<ds.length:=by rw[<-e1];simpa using h1
      have k2:j<ds'.length:=by rw[<-e2];simpa using h2
      obtain⟨x,hx,ex⟩:=l.get (kh k1);obtain⟨y,hy,ey⟩:=l'.get (kh k2);obtain⟨w1,hw1,rw1⟩:=rv.get hx;obtain⟨w2,hw2,rw2⟩:=rv'.get hy;have g1:us.toArray[j]=w1:=by simp at h1 ⊢;rw[kh (by simpa using h1)]at hw1;exact aC hw1
      have g2:us'.toArray[j]=w2:=by simp at h2 ⊢;rw[kh (by simpa using h2)]at hw2;exact aC hw2
      rw[g1,g2,xj,xj,kh k1,kh k2];exact(Vl I n A.in1 (Xh (D.depL_le (kh k1)) hd) hu1 (dw (D.depL_le (kh k2)) (by simp only[D.dep]at nd;omega)) ex rw1 ey rw2).2
     have z:=SeqAt.RcAt.tuples (A:=A) (s:=s) q q' hu0 (e:=λj=>deq (ds.getD j .non) (ds'.getD j .non)) item;have ev:((aK (min us.toArray.size us'.toArray.size)).all (λj=>deq (ds.getD j .non) (ds'.getD j .non))&&us.toArray.size==us'.toArray.size)=deq (.tup ds) (.tup ds'):=by
      simp only[Ii,xu,e1,e2];by_cases hl:ds.length=ds'.length
      .rw[hl,kA,beq_self_eq_true,jP,<-hl];exact Z6 hl λj x y hx hy=>by rw[xj,xj,hx,hy];rfl
      .rw[Vv hl,beq_false_of_ne hl,gf]
     rw[ev]at z;exact z
    refine⟨main,?_⟩;by_cases ea:a=a'
    .subst ea;have e9:(9900:Nat)=bE:=rfl;rw[Enc.inj I nofun nd en en',Mr _ nd];exact .same _
    .exact .of_refs ea main
  |lst ds =>
   have hd:D.depL ds<=n:=by simp[D.dep]at hn;omega
   obtain⟨a,xs,e,sq,l⟩:=id en;subst e;cases(show u=aH a from r);obtain⟨us,rv,q0,_⟩:=I.list sq;have q:=q0.isList;cases d' with
   |dct ks' l'=>simp[D.dep]at nd
   |sct k'=>simp[D.dep]at nd
   |fn x' l'=>simp[D.dep]at nd
   |non=>cases(show v'=.non from en');cases(show u'=aZ from r');exact⟨.list_none q hu0,.list_none q hu0⟩
   |bl k=>cases(show v'=.bl k from en');cases(show u'=bo k from r');exact⟨.list_bool _ q hu0,.list_bool _ q hu0⟩
   |int k=>cases(show v'=.int k from en');obtain⟨t,q'⟩:=(show ∃t,u'=br k t from r');subst q';exact⟨.list_int _ _ q hu0,.list_int _ _ q hu0⟩
   |str k=>cases(show v'=.str k from en');obtain⟨t,q'⟩:=(show ∃t,u'=b8 k t from r');subst q';exact⟨.list_str _ _ q hu0,.list_str _ _ q hu0⟩
   |tup ds'=>obtain⟨a',ys,e,sq',_⟩:=en';subst e;cases(show u'=aH a' from r');obtain⟨_,_,q',_⟩:=I.tuple sq';exact⟨.list_tuple q q' hu0,.list_tuple q q' hu0⟩
   |lst ds' =>
    obtain⟨a',ys,e,sq',l'⟩:=id en';subst e;cases(show u'=aH a' from r');obtain⟨us',rv',q0',_⟩:=I.list sq';have q':=q0'.isList;have e1:us.length=ds.length:=by rw[<-rv.length,l.length]
    have e2:us'.length=ds'.length:=by rw[<-rv'.length,l'.length]
    have main:fY A s (.ref a) (.ref a') (deq (.lst ds) (.lst ds')):=by
     have item:∀(j:Nat)(h1:j<us.toArray.size)(h2:j<us'.toArray.size),dX A.in1 s us.toArray[j] us'.toArray[j] (deq (ds.getD j .non) (ds'.getD j .non)):=λj h1 h2=>by
      have k1:j<ds.length:=by rw[<-e1];simpa using h1
      have k2:j<ds'.length:=by rw[<-e2];simpa using h2
      obtain⟨x,hx,ex⟩:=l.get (kh k1);obtain⟨y,hy,ey⟩:=l'.get (kh k2);obtain⟨w1,hw1,rw1⟩:=rv.get hx;obtain⟨w2,hw2,rw2⟩:=rv'.get hy;have g1:us.toArray[j]=w1:=by simp at h1 ⊢;rw[kh (by simpa using h1)]at hw1;exact aC hw1
      have g2:us'.toArray[j]=w2:=by simp at h2 ⊢;rw[kh (by simpa using h2)]at hw2;exact aC hw2
      rw[g1,g2,xj,xj,kh k1,kh k2];exact(Vl I n A.in1 (Xh (D.depL_le (kh k1)) hd) hu1 (dw (D.depL_le (kh k2)) (by simp only[D.dep]at nd;omega)) ex rw1 ey rw2).2
     simp only[Ik];by_cases hl:ds.length=ds'.length
     .have z:=SeqAt.RcAt.lists (A:=A) (s:=s) q q' (by simp[e1,e2,hl]) hu0 (e:=λj=>deq (ds.getD j .non) (ds'.getD j .non)) item;have ev:(aK us.toArray.size).all (λj=>deq (ds.getD j .non) (ds'.getD j .non))=v9 ds ds':=by rw[xu,e1];exact Z6 hl λj x y hx hy=>by rw[xj,xj,hx,hy];rfl
      rw[ev]at z;exact z
     .rw[Vv hl];exact .lists_lengths q q' (by simp[e1,e2,hl]) hu0
    refine⟨main,?_⟩;by_cases ea:a=a'
    .subst ea;have e9:(9900:Nat)=bE:=rfl;rw[Enc.inj I nofun nd en en',Mr _ nd];exact .same _
    .exact .of_refs ea main
end
section
variable{X:Cx}{pins:k72}{σ:St}{H:Hp}{s:aq}{A:aF}
theorem j7b(I:Inv X pins σ H s){n:Nat}{ds ds':List D}{xs ys:List V}{us us':List aj}(l:j5 X.K H ds xs)(rv:Vals xs us)(l':j5 X.K H ds' ys)(rv':Vals ys us')(hd:D.depL ds<=n)(hu:A.units+1+n<bE)(nd:D.depL ds'<10000) :
  ∀(j:Nat)(h1:j<us.toArray.size)(h2:j<us'.toArray.size),dX A.in1 s us.toArray[j] us'.toArray[j] (deq (ds.getD j .non) (ds'.getD j .non)):=λj h1 h2=>by
 have k1:j<ds.length:=by rw[<-l.length,rv.length];simpa using h1
 have k2:j<ds'.length:=by rw[<-l'.length,rv'.length];simpa using h2
 obtain⟨x,hx,ex⟩:=l.get (kh k1);obtain⟨y,hy,ey⟩:=l'.get (kh k2);obtain⟨w1,hw1,rw1⟩:=rv.get hx;obtain⟨w2,hw2,rw2⟩:=rv'.get hy;have g1:us.toArray[j]=w1:=by simp at h1 ⊢;rw[kh (by simpa using h1)]at hw1;exact aC hw1
 have g2:us'.toArray[j]=w2:=by simp at h2 ⊢;rw[kh (by simpa using h2)]at hw2;exact aC hw2
 rw[g1,g2,xj,xj,kh k1,kh k2];exact(Vl I n A.in1 (Xh (D.depL_le (kh k1)) hd) hu (dw (D.depL_le (kh k2)) nd) ex rw1 ey rw2).2
theorem j3p(hu:X.A.units+100<bE):OpR X (bj .Eq) (λx y H Q=>∃d d',Enc X.K H d x/\Enc X.K H d' y/\d.dep<=100/\d'.dep<10000/\Q (.bl (deq d d')) H):=by rintro pins s σ H x y v u Q I rx ry ⟨d,d',en,en',hd,nd,q⟩;exact(Vl I 100 X.A hd hu nd en rx en' ry).1 X.prog X.w X.xe _ ⟨.bl (deq d d'),H,I,rfl,q⟩
theorem j3n(hu:X.A.units+100<bE):OpR X (bj .NotEq) (λx y H Q=>∃ds ds' k,Enc X.K H (D.seq k ds) x/\Enc X.K H (D.seq k ds') y/\D.depL ds<=98/\D.depL ds'<10000/\Q (.bl (!v9 ds ds')) H):=by
 rintro pins s σ H x y v u Q I rx ry ⟨ds,ds',k,en,en',hd,nd,q⟩;have h0:X.A.units<bE:=by omega
 obtain⟨t,xs,e,sq,l⟩:=Ju en;obtain⟨t',ys,e',sq',l'⟩:=Ju en';subst e e';cases rx;cases ry;obtain⟨us,rv,qs,_⟩:=I.side sq;obtain⟨us',rv',qs',_⟩:=I.side sq';have e1:us.length=ds.length:=by rw[<-rv.length,l.length]
 have e2:us'.length=ds'.length:=by rw[<-rv'.length,l'.length]
 have item:=j7b (A:=X.A) I l rv l' rv' hd nofun nd;unfold jh at qs qs';cases k with
 |true =>
  rw[if_pos rfl]at qs qs';by_cases hl:ds.length=ds'.length
  .have z:=SeqAt.RcNeAt.lists (A:=X.A) (s:=s) qs qs' (by simp[e1,e2,hl]) h0 (e:=λj=>deq (ds.getD j .non) (ds'.getD j .non)) item;have ev:(aK us.toArray.size).all (λj=>deq (ds.getD j .non) (ds'.getD j .non))=v9 ds ds':=by rw[xu,e1];exact Z6 hl λj x y hx hy=>by rw[xj,xj,hx,hy];rfl
   rw[ev]at z;exact z X.prog X.w X.xe _ ⟨.bl (!v9 ds ds'),H,I,rfl,q⟩
  .have z:=SeqAt.RcNeAt.lists_lengths (A:=X.A) (s:=s) qs qs' (by simp[e1,e2,hl]) h0;rw[Vv hl]at q;exact z X.prog X.w X.xe _ ⟨.bl af,H,I,rfl,q⟩
 |false =>
  rw[if_neg xf]at qs qs';have z:=SeqAt.RcNeAt.tuples (A:=X.A) (s:=s) qs qs' h0 (e:=λj=>deq (ds.getD j .non) (ds'.getD j .non)) item;have ev:((aK (min us.toArray.size us'.toArray.size)).all (λj=>deq (ds.getD j .non) (ds'.getD j .non))&&us.toArray.size==us'.toArray.size)=v9 ds ds':=by
   simp only[xu,e1,e2];by_cases hl:ds.length=ds'.length
   .rw[hl,kA,beq_self_eq_true,jP,<-hl];exact Z6 hl λj x y hx hy=>by rw[xj,xj,hx,hy];rfl
   .rw[Vv hl,beq_false_of_ne hl,gf]
  rw[ev]at z;exact z X.prog X.w X.xe _ ⟨.bl (!v9 ds ds'),H,I,rfl,q⟩
noncomputable def eqW(X:Cx)(H:Hp)(d:D)(y:aj):Bool:=@decide (∃e v,e.dep<10000/\Enc X.K H e v/\RelV v y/\deq e d=af) (dy _)
theorem j4i(I:Inv X pins σ H s){d e:D}{v:V}{y:aj}(he:e.dep<10000)(en:Enc X.K H e v)(r:RelV v y):eqW X H d y=deq e d:=by
 unfold eqW;cases h:deq e d with
 |true=>exact @decide_eq_true _ (dy _) ⟨e,v,he,en,r,h⟩
 |false =>refine @decide_eq_false _ (dy _) λ⟨e',v',he',en',r',h'⟩=>?_;rw[r'.inj r]at en';rw[Enc.inj I he' he en' en,h]at h';cases h'
theorem Np(I:Inv X pins σ H s){d:D}:∀{ds:List D}{xs:List V}{us:List aj},D.depL ds<10000->j5 X.K H ds xs->Vals xs us->us.any (eqW X H d)=ds.any λe=>deq e d
 |[],_,_,_,h,r=>by cases h;cases r;rfl
 |e::ds,_,_,hd,⟨x,r,eq,h,l⟩,rv=>by
  subst eq;rw[D.depL]at hd;cases rv with
  |cons a b=>rw[cD,cD,Np I nofun l b,j4i I nofun h a]
theorem Bp(I:Inv X pins σ H s){d:D}{v:V}{u:aj}(en:Enc X.K H d v)(r:RelV v u)(nd:d.dep<10000){n:Nat}(hu:A.units+n<bE):∀{ds:List D}{xs:List V}{us:List aj},D.depL ds<=n->j5 X.K H ds xs->Vals xs us->∀y∈us,dX A s y u (eqW X H d y)
 |[],_,_,_,h,rv,y,hy=>by cases h;cases rv;cases hy
 |e::ds,_,_,hd,⟨x,r',eq,h,l⟩,rv,y,hy=>by
  subst eq;have hd':e.dep<=n/\D.depL ds<=n:=by simp[D.depL]at hd;omega
  cases rv with
  |cons a b =>
   rcases xn.mp hy with rfl|hy
   .have e9:(9900:Nat)=bE:=rfl;rw[j4i I nofun h a];exact(Vl I n A hd'.1 hu nd h a en r).2
   .exact Bp I en r nd hu hd'.2 l b y hy
theorem j3o(hu:X.A.units+100<bE):OpR X (bj .In) (λx y H Q=>∃d ds k,Enc X.K H d x/\Enc X.K H (D.seq k ds) y/\D.depL ds<=98/\d.dep<10000/\Q (.bl (ds.any λe=>deq e d)) H):=by
 rintro pins s σ H x y v u Q I rx ry ⟨d,ds,k,en,en',hd,nd,q⟩;obtain⟨t,xs,e,sq,l⟩:=Ju en';subst e;cases ry;obtain⟨us,rv,qs,_⟩:=I.side sq;have me:=λy (hy:y∈us.toArray)=>Bp (A:=X.A.in1) I en rx nd (n:=98) (by show X.A.units+1+98<bE;omega) hd l rv y (by simpa using hy);have ev:us.toArray.any (eqW X H d)=ds.any λe=>deq e d:=by rw[iU];exact Np I nofun l rv
 unfold jh at qs;cases k with
 |true=>rw[if_pos rfl]at qs;exact SeqAt.in_listAt (eqW X H d) qs me (by rw[ev];exact⟨.bl _,H,I,rfl,q⟩)
 |false=>rw[if_neg xf]at qs;exact SeqAt.in_tupleAt (eqW X H d) qs me (by rw[ev];exact⟨.bl _,H,I,rfl,q⟩)
theorem Fd(hu:X.A.units+100<bE):OpR X (bj .NotIn) (λx y H Q=>∃d ds k,Enc X.K H d x/\Enc X.K H (D.seq k ds) y/\D.depL ds<=98/\d.dep<10000/\Q (.bl (!ds.any λe=>deq e d)) H):=by
 rintro pins s σ H x y v u Q I rx ry ⟨d,ds,k,en,en',hd,nd,q⟩;obtain⟨t,xs,e,sq,l⟩:=Ju en';subst e;cases ry;obtain⟨us,rv,qs,_⟩:=I.side sq;have me:=λy (hy:y∈us.toArray)=>Bp (A:=X.A.in1) I en rx nd (n:=98) (by show X.A.units+1+98<bE;omega) hd l rv y (by simpa using hy);have ev:us.toArray.any (eqW X H d)=ds.any λe=>deq e d:=by rw[iU];exact Np I nofun l rv
 unfold jh at qs;cases k with
 |true=>rw[if_pos rfl]at qs;exact SeqAt.notIn_listAt (eqW X H d) qs me (by rw[ev];exact⟨.bl _,H,I,rfl,q⟩)
 |false=>rw[if_neg xf]at qs;exact SeqAt.notIn_tupleAt (eqW X H d) qs me (by rw[ev];exact⟨.bl _,H,I,rfl,q⟩)
theorem j6s:OpR X (bh .Add) (λx y H Q=>∃a b xs ys,x=.ref a/\y=.ref b/\SqT X.K H a xs/\SqT X.K H b ys/\xs.length+ys.length<=ar /\
  (xs=[]->Q (.ref b) H)/\(xs≠[]->ys=[]->Q (.ref a) H)/\(xs≠[]->ys≠[]->∀p,H p=ah->Q (.ref p) (upd H p (.tup (xs++ys))))):=by
 rintro pins s σ H x y v u Q I rx ry ⟨a,b,xs,ys,e,e',sa,sb,hz,q1,q2,q3⟩;by_cases hx:xs=[]
 .subst e e' hx;cases rx;cases ry;obtain⟨us,ru,⟨⟨c1,d1,f1,g1⟩,h1,k1,n1,m1⟩,_⟩:=I.tuple sa;obtain⟨vs,rv,⟨⟨c2,d2,f2,g2⟩,h2,k2,n2,m2⟩,_⟩:=I.tuple sb;cases ru;have k1:c1=.type "tuple":=k1;have m1:f1=.seq ([]:List aj).toArray n1:=m1;have k2:c2=.type "tuple":=k2;have m2:f2=.seq vs.toArray n2:=m2;subst k1 m1 k2 m2;exact g6 ⟨_,h1,rfl⟩ ⟨_,h2,rfl⟩ gm i7 dP dD (dr _ _)
   (tuple_addW0 a b ([]:List aj).toArray vs.toArray n1 n2 d1 d2 g1 g2 (by simp)) ⟨h1,h2,⟨.ref b,H,I,rfl,q1 rfl⟩⟩
 .exact jaz pins s σ H x y v u Q I rx ry ⟨a,b,xs,ys,e,e',sa,sb,hx,hz,q2 hx,q3 hx⟩
theorem all_range:∀bs:List Bool,(aK bs.length).all (λi=>(bs[i]?).getD af)=bs.all id
 |[]=>rfl
 |b::bs=>by rw[xr,eE,gx,gJ,gx,<-all_range bs];rfl
theorem Eu (hc:X.calm=af):Jh X (.builtin "all") (λxs H Q=>∃(l:ak)(bs:List Bool),xs=[.ref l]/\SqL X.K H l (bs.map V.bl)/\Q (.bl (bs.all id)) H):=by
 rintro pins s σ H xs us Q I r ⟨l,bs,e,sq,q⟩;subst e;obtain⟨u,eu,ru⟩:=vals1 r;subst eu;cases ru;obtain⟨its,rv,pl,_⟩:=I.list sq;have hlt:l<s.heap.objs.size:=by obtain⟨_,_,e,_⟩:=pl;exact xq e
 have hl:its.length=bs.length:=by rw[<-rv.length,xg]
 refine call_all_walk (cq pl.isList ⟨s.heap.objs.size,[s.heap.objs.size,l],[s.heap.objs.size],its.toArray.size,_,_,λi=>(bs[i]?).getD af,rfl,Walks.list (A:=X.A.in1) (I.ok.hd hc) _ _ (X8 hlt) its.toArray,⟨⟨_,xx _ rfl,rfl,rfl⟩,pl.isList.push _⟩,?_,λh' tk kp=>?_⟩)
 .intro i v s' Q' E' hv hq;have hi:i<its.length:=by have:=Array.getElem?_eq_some_iff.mp hv;obtain⟨h,_⟩:=this;simpa using h
  have hb:i<bs.length:=by omega
  obtain⟨w1,hw,rw1⟩:=rv.get (x:=.bl bs[i]) (i:=i) (by rw[X6,kh hb];rfl);have:its.toArray[i]?=aa w1:=by simpa using hw
  rw[this]at hv;cases hv;cases rw1;simp only[kh hb,dN]at hq;exact bq hq
 .have ev:(aK its.toArray.size).all (λi=>(bs[i]?).getD af)=bs.all id:=by rw[xu,hl];exact all_range bs
  rw[ev];refine⟨.bl _,H,I.kept (t':=tk) λb o e=>kp b o ?_ (kj _ e),rfl,q⟩;intro z;rw[X3.mp z]at e;exact pq _ (xq e)
end
section
variable{X:Cx}{ρ:Rho}{a b e:au}{d d':D}{ds ds':List D}{i j:Int}{pos p p1 p2:aR}{k:Nat}{x:ao}{P:Po}
theorem DE.eqD(hu:X.A.units+100<bE)(ha:DT X ρ a d)(hb:DT X ρ b d')(hd:d.dep<=100)(nd:d'.dep<10000):DE X ρ (.Compare a [.Eq] [b] pos) (.bl (deq d d')):=λσ H Q R q =>(Ji (j3p hu) peS peS (z8 _)).to (ha σ H _ R λv H1 g1 e1=>hb σ H1 _ (R.grow g1) λu H2 g2 e2=>⟨d,d',e1.mono g2,e2,hd,nd,q _ H2 (g1.trans g2) rfl⟩)
theorem DB.eqD(hu:X.A.units+100<bE)(ha:DT X ρ a d)(hb:DT X ρ b d')(hd:d.dep<=100)(nd:d'.dep<10000):DB X ρ (.Compare a [.Eq] [b] pos) (deq d d'):=λσ H Q R q =>(J5 (j3p hu) peS peS (z8 _)).to (ha σ H _ R λv H1 g1 e1=>hb σ H1 _ (R.grow g1) λu H2 g2 e2=>⟨d,d',e1.mono g2,e2,hd,nd,_,rfl,q H2 (g1.trans g2)⟩)
theorem DB.neD(s:Bool)(hu:X.A.units+100<bE)(ha:DT X ρ a (D.seq s ds))(hb:DT X ρ b (D.seq s ds'))(hd:D.depL ds<=98)(nd:D.depL ds'<10000):DB X ρ (.Compare a [.NotEq] [b] pos) (!v9 ds ds'):=λσ H Q R q =>(J5 (j3n hu) peS peS (z8 _)).to (ha σ H _ R λv H1 g1 e1=>hb σ H1 _ (R.grow g1) λu H2 g2 e2=>⟨ds,ds',s,e1.mono g2,e2,hd,nd,_,rfl,q H2 (g1.trans g2)⟩)
theorem DB.notIn(s:Bool)(hu:X.A.units+100<bE)(ha:DT X ρ a d)(hb:DT X ρ b (D.seq s ds))(hd:D.depL ds<=98)(nd:d.dep<10000)(hm:aO .NotIn b=ae:=by with_unfolding_all rfl):DB X ρ (.Compare a [.NotIn] [b] pos) (!ds.any λe=>deq e d):=λσ H Q R q =>(J5 (Fd hu) peS peS hm).to (ha σ H _ R λv H1 g1 e1=>hb σ H1 _ (R.grow g1) λu H2 g2 e2=>⟨d,ds,s,e1.mono g2,e2,hd,nd,_,rfl,q H2 (g1.trans g2)⟩)
theorem DB.in(s:Bool)(hu:X.A.units+100<bE)(ha:DT X ρ a d)(hb:DT X ρ b (D.seq s ds))(hd:D.depL ds<=98)(nd:d.dep<10000)(hm:aO .In b=ae:=by with_unfolding_all rfl):DB X ρ (.Compare a [.In] [b] pos) (ds.any λe=>deq e d):=λσ H Q R q =>(J5 (j3o hu) peS peS hm).to (ha σ H _ R λv H1 g1 e1=>hb σ H1 _ (R.grow g1) λu H2 g2 e2=>⟨d,ds,s,e1.mono g2,e2,hd,nd,_,rfl,q H2 (g1.trans g2)⟩)
theorem DE.min (ha:DT X ρ a (.int i)) (hb:DT X ρ b (.int j)) (hm:X.mg "min" = ah) (hc:X.calm=af:=by rfl) (hg:Gl X "min":=by rfl) (hs:ai [a,b] X.env=(ae,aB a X.env)::ai [b] X.env:=by rfl) (hs2:ai [b] X.env=(ae,aB b X.env)::ai [] X.env:=by rfl)
  (hpl:(aP pos (ai [b] X.env)).any (·.1)=ae:=by rfl):DE X ρ (.Call (.Name "min" p) [a,b] [] pos) (.int (if j<i then j else i)):=λσ H Q R q =>
 (zc (j53 hc) hg hm boot_min (j9 peS (j9 peS jt hs2) hs) (by decide) (by decide) hs hpl).to (ha σ H _ R λv H1 g1 e1=>hb σ H1 _ (R.grow g1) λu H2 g2 e2=>⟨i,j,by rw[show v=.int i from e1,show u=.int j from e2],q _ H2 (g1.trans g2) rfl⟩)
theorem Mp{K:k70}{H:Hp}:∀{bs:List Bool}{xs:List V},j5 K H (bs.map D.bl) xs->xs=bs.map V.bl
 |[],_,h=>h
 |b::bs,_,⟨x,r,e,h,l⟩=>by subst e;cases(show x=.bl b from h);rw[Mp l];rfl
theorem DE.all {bs:List Bool} (ha:DT X ρ a (.lst (bs.map D.bl))) (hm:X.mg "all" = ah) (hc:X.calm=af:=by rfl) (hg:Gl X "all":=by rfl) (hs:ai [a] X.env=[(ae,aB a X.env)]:=by rfl):DE X ρ (.Call (.Name "all" p) [a] [] pos) (.bl (bs.all id)):=λσ H Q R q =>(zc (Eu hc) hg hm boot_all (j9 peS jt hs) (by decide) (by decide) hs).to (ha σ H _ R λv H1 g1 ⟨l,xs,e,sq,en⟩=>⟨l,bs,by rw[e],by rw[Mp en]at sq;exact sq,q _ H1 g1 rfl⟩)
def jd3(X:Cx)(e:Option au):TO:=λσ H Q=>∀pins s,Inv X pins σ H s->ax (aA X.prog X.w) X.A (evalPart e X.env) (λu s'=>∃o H',Inv X pins σ H' s'/\fj u o/\Q o H') X.xe s
theorem poS{e:Option au}:PO X e (jd3 X e):=λpins s σ H Q I h=>h pins s I
def DP(X:Cx)(ρ:Rho)(e:Option au)(o:Option Int):Prop:=∀σ H Q,Rep X.K ρ σ H->(∀H',j4 H H'->Q o H')->jd3 X e σ H Q
theorem DP.none:DP X ρ ah ah:=λσ H Q R q pins s I=>jao pins s σ H Q I (q H (j4.refl H))
theorem DP.some(h:DT X ρ e (.int i)):DP X ρ (aa e) (aa i):=λσ H Q R q pins s I=>jan peS pins s σ H Q I (h σ H _ R λv H1 g1 e1=>⟨i,e1,q H1 g1⟩)
variable{lo hi:Option au}{l u:Option Int}
theorem DS.setItem(m:Nat){t:ak}{n:Nat}(hk:ρ[m]?=aa (.own t ds))(he:DE X ρ e d)(hi:DT X ρ a (.int i))(hx:ixN ds.length i=aa n)(h:P.nx (ρ.set m (.own t (ds.set n d))))
  (hN:X.N[m]?=aa x:=by rfl) (hv:Vis X.env.scope x:=by first|exact aY rfl|exact bJ (aY rfl)|exact bJ (bJ rfl)) (hd:(x==k74)=ae:=by decide) (hcd:(x==k75)=ae:=by decide)
  (ha:∀v,de (.Subscript (.Name x p) a p1) X.env v=(do
   let ov <-bN [v] (aB (.Name x p) X.env)
   let iv <-bN [v,ov] (aB a X.env)
   eB p1
   bN [v,ov,iv] (setItem ov iv v)
   release [v,ov,iv] []):=by intro _;rfl)
  (hs:i5 [.Subscript (.Name x p) a p1] e pos.line X.env=pure ae:=by rfl) (hw:i6 [.Subscript (.Name x p) a p1] e X.env=pure ah:=by rfl)
  (h1:(bF [.Subscript (.Name x p) a p1] X.env).map (·.2)=[de (.Subscript (.Name x p) a p1) X.env]:=by rfl):DS X ρ (.Assign [.Subscript (.Name x p) a p1] e pos) P:=λσ H E R q=>by
 refine(jdk peS (jdo (jz hN hv hd hcd) peS set_list ha) hs hw h1).to (he σ H _ R λv H1 g1 e1=>?_);obtain⟨hσ,xs,mm,en⟩:=(R.grow g1).own m t ds hk;refine⟨_,hσ,hi σ H1 _ (R.grow g1) λu H2 g2 e2=>⟨t,xs,i,n,rfl,e2,g2 _ _ mm,by rw[en.length];exact hx,?_⟩⟩;exact q.nx _ σ _ h ((R.grow (g1.trans g2)).upd_own hk ((en.mono (jb g2)).set (e1.mono (jb g2)))) (Yx (σ:=σ) hk (g1.trans g2))
end
def jcv(K:k70)(S:List D->List D->D->List D->Prop):Sp:=λvs H Q _=>∃(a:ak)(ds l:List D)(d:D)(l':List D)(ws xs:List V),vs=ws++[.ref a]/\TabOk K H/\H a=aa (.lst xs)/\j5 K (del H [a]) l xs/\j5 K (del H [a]) ds ws/\S ds l d l' /\
 ∀v H' ys,j4 (del H [a]) (del H' [a])->H' a=aa (.lst ys)->j5 K (del H' [a]) l' ys->Enc K (del H' [a]) d v->Q v H'
section
variable{X:Cx}{ρ ρ1:Rho}{e e1 e2 e3 c:au}{st:aQ}{rest sa:List aQ}{a:ak}{d d1 d2 d3:D}{l l':List D}{k i:Nat}{x y f:ao}{p p1 p2 p3 p4 pos:aR}
end
noncomputable def j3h(eQ n:Int):Int:=if 0<n then n%60 else(eQ*48271+11)%2147483647/16
noncomputable def Mh(eQ n:Int):Int:=if 0<n then n%60/6%2 else(eQ*48271+11)%2147483647/128%2
noncomputable def Wx(n:Int):Int:=if 0<n then n/60 else n
noncomputable def Y8:Nat->List ao->Int->Int->D×Int
 |0,_,eQ,n=>(.tup [.str "tell",.int (Mh eQ n)],Wx n)
 |k+1,ws,eQ,n=>match ws[(j3h eQ n%ws.length).toNat]? with
  |none=>(.tup [.str "tell",.int (Mh eQ n)],Wx n)
  |some y=>if j3h eQ n%6=0 then(.tup [.str "tell",.int (Mh eQ n)],Wx n)
   else(.tup [.str "ask",.str y,(Y8 k (ws.filter λz=>!(z==y)) ((eQ*48271+11)%2147483647*3+1) (Wx n)).1,
     (Y8 k (ws.filter λz=>!(z==y)) ((eQ*48271+11)%2147483647*5+2) (Y8 k (ws.filter λz=>!(z==y)) ((eQ*48271+11)%2147483647*3+1) (Wx n)).2).1],
    (Y8 k (ws.filter λz=>!(z==y)) ((eQ*48271+11)%2147483647*5+2) (Y8 k (ws.filter λz=>!(z==y)) ((eQ*48271+11)%2147483647*3+1) (Wx n)).2).2)
def j8z(ds l:List D)(d:D)(l':List D):Prop:=∃(ws:List ao)(eQ n:Int)(k:Nat),ds=[.lst (ws.map D.str),.int eQ,.int k]/\l=[.int n]/\k<=5/\ws.length<=60/\d=(Y8 k ws eQ n).1/\l'=[.int (Y8 k ws eQ n).2]
section
variable{P:ay}{w:aD}{K:k70}{mg:k73}{base:aG}{x qual:ao}{st:aQ}{f:ak}{fd:aM}{N ps:List ao}{k:Nat}
end
def Fz(o:Option HO):Prop:=(∃xs,o=aa (.lst xs))\/∃oc v,o=aa (.frz oc (.own 0))/\oc.data=.cell v
theorem j4e{P:ay}{w:aD}{K:k70}{mg:k73}{base:aG}{A0:aF}{outer:List du}{s:aq}{H:Hp}{A:List ak}(e0:Env0 P w K mg base A0 outer s H)(hA:∀a∈A,Fz (H a)) :
  Env0 P w K mg base A0 outer s (del H A)/\∀(Q:VK)(E E':XK)(r:fi)(s':aq),CR CX0 outer P w (del H A) s (λv F=>(∀a∈A,F a=ah)->Q v (mrg A H F)) E r s'->CR CX0 outer P w H s Q E' r s':=by
 have nd:∀{b:ak},H b=ah->del H A b=ah:=λ{b} q=>by
  by_cases z:b∈A
  .exact zf z
  .rw[j6 z];exact q
 have out:∀{b:ak}{o:HO},H b=aa o->(∀ys,o≠.lst ys)->(∀oc v,o=.frz oc (.own 0)->oc.data≠.cell v)->b∉A:=λ{b o} q z z2 y=>by
  rcases hA b y with ⟨ys,e'⟩|⟨oc,v,e',d⟩
  .rw[q]at e';cases e';exact z ys rfl
  .rw[q]at e';cases e';exact z2 _ _ rfl d
 have e1:Env0 P w K mg base A0 outer s (del H A):=⟨e0.frames,e0.mod,λb o q=>⟨(e0.bs b o q).1,nd (e0.bs b o q).2⟩,e0.bsz,e0.funs,λb hb=>nd (e0.frf b hb),
  λa o q=>by
   obtain⟨_,q⟩:=of_del q
   exact jm.stay (e0.hok a o q) (λb u _ z=>z) (λb z=>by rw[j6 (out z (λ_ y=>by cases y) λ_ _ y=>by cases y)];exact z) (λb xs z=>by rw[j6 (out z (λ_ y=>by cases y) λ_ _ y=>by cases y)];exact z)
    (λb o ⟨vs,d⟩ z=>by rw[j6 (out z (λ_ y=>by cases y) λ_ _ y d'=>by cases y;rw[d]at d';cases d')];exact z),e0.bare⟩
 refine⟨e1,λQ E E' r s' hq=>?_⟩;cases r with
 |error e=>exact(show False from hq).elim
 |ok fl =>
  cases fl with
  |next=>exact(show False from hq).elim
  |brk=>exact(show False from hq).elim
  |cont=>exact(show False from hq).elim
  |ret u =>
   obtain⟨v,H',os,bare,un,hok',rel,q⟩:=(show CE outer P w (del H A) s _ u s' from hq)
   have kept:∀a∈A,∃o,s.heap.get? a=aa o/\s'.heap.get? a=aa o/\H' a=ah:=λa ha=>by
    have nf:a∉frs outer:=λy=>by have z:=e0.frf a y;rcases hA a ha with ⟨xs,e⟩|⟨oc,v,e,_⟩<;>(rw[z]at e;cases e)
    have ob:∃o,s.heap.get? a=aa o:=by
     rcases hA a ha with ⟨xs,e⟩|⟨oc,v,e,_⟩
     .obtain⟨_,its,n,_,z⟩:=(show jm P w H s.heap a (.lst xs)from e0.hok _ _ e);exact⟨_,z⟩
     .exact⟨_,(show jm P w H s.heap a (.frz oc (.own 0))from e0.hok _ _ e).1⟩
    obtain⟨o,z⟩:=ob;exact⟨_,z,un.keep a _ z (zf ha) nf (by simp),un.free a _ z (zf ha) (by simp)⟩
   have hF:∀a∈A,H' a=ah:=λa ha=>let ⟨_,_,_,z⟩:=kept a ha;z;have outF:∀{b:ak}{o:HO},H' b=aa o->b∉A:=λ{b o} e z=>by rw[hF b z]at e;cases e
   refine⟨v,mrg A H H',os,bare,?_,λa o e=>?_,rel,q hF⟩
   .exact{
     keep:=λb o e n=>un.keep b o e (nd n)
     slot:=λb o e n=>un.slot b o e (nd n)
     free:=λb o e n hx=>by
      by_cases z:b∈A
      .rw[J8 z];exact n
      .rw[jl z];exact un.free b o e (nd n) hx
     there:=un.there
     tups:=λb xs e=>by
      have z:=un.tups b xs (by rw[j6 (out e (λ_ y=>by cases y) λ_ _ y=>by cases y)];exact e)
      rw[jl (outF z)];exact z
     frzs:=λb o u e=>by
      by_cases y:b∈A
      .rw[J8 y];exact e
      .have z:=un.frzs b o u (by rw[j6 y];exact e)
       rw[jl y];exact z
     tbls:=λb ps e=>by
      obtain⟨more,z⟩:=un.tbls b ps (by rw[j6 (out e (λ_ y=>by cases y) λ_ _ y=>by cases y)];exact e)
      exact⟨more,by rw[jl (outF z)];exact z⟩ }
   .by_cases z:a∈A
    .rw[J8 z]at e;obtain⟨o',q1,q2,_⟩:=kept a z;rcases hA a z with ⟨xs,e'⟩|⟨oc,v,e',_⟩
     .rw[e']at e;cases e;obtain⟨hl,its,n,r,y⟩:=(show jm P w H s.heap a (.lst xs)from e0.hok _ _ e')
      rw[y]at q1;cases q1;exact⟨hl,its,n,r,q2⟩
     .rw[e']at e;cases e;have y:=(show jm P w H s.heap a (.frz oc (.own 0))from e0.hok _ _ e').1;rw[y]at q1;cases q1;exact⟨q2,_,q2⟩
    .rw[jl z]at e;refine jm.stay (hok' a o e) (λb u _ q=>q) (λb q=>?_) (λb xs q=>?_) (λb _ _ q=>?_)
     .rw[jl (outF q)];exact q
     .rw[jl (outF q)];exact q
     .rw[jl (outF q)];exact q
structure LamScope(N ps:List ao)(sc:bG):Prop where
 kind:sc.kind=.function
 co:sc.isCoroutine=ae
 gen:sc.isGenerator=ae
 nd:N.Nodup
 nm:N=Zx sc++ps
 lfr:∀x∈Zx sc,sc.names.lookup x=aa .free
 lps:∀x∈ps,sc.names.lookup x=aa .local
 nocell:∀y∈sc.names,y.2≠.cell
 cov:∀x,sc.names.lookup x=aa .free->x∈Zx sc
noncomputable def Yg(P:ay)(w:aD)(K:k70)(mg:k73)(base:aG)(N:List ao)(qual:ao)(scope:bG)(a:ak)(cd:aj)(cl:List (ao×ak))(A:aF)(outer:List du)(s:aq)(H:Hp):Cx where
 prog:=P
 w:=w
 K:=K
 mg:=mg
 base:=base
 A:=A.deeper (W.envX qual scope s.heap.objs.size a cd cl)
 N:=N
 s₀:=s
 H₀:=H
 env:=W.envX qual scope s.heap.objs.size a cd cl
 outer:=outer
 stack:=W.envX qual scope s.heap.objs.size a cd cl::outer
 ex:=[]
 calm:=af
 fn:=λ_=>ae
 pn:=[]
 xe:=λ_ _=>False
def Jm(h:aG):List ak->List V->Prop
 |[],vs=>vs=[]
 |c::cs,vs=>∃v r u,vs=v::r/\h.IsCell c (aa u)/\RelV v u/\Jm h cs r
theorem Jm.get{h:aG}:∀{cs:List ak}{vs:List V}{i:Nat}{v:V},Jm h cs vs->vs[i]?=aa v->∃c u,cs[i]?=aa c/\h.IsCell c (aa u)/\RelV v u
 |[],_,i,v,e,q=>by cases e;simp at q
 |c::cs,_,0,v,⟨x,r,u,e,h1,h2,_⟩,q=>by subst e;simp at q;subst q;exact⟨c,u,rfl,h1,h2⟩
 |c::cs,_,i+1,v,⟨x,r,u,e,_,_,l⟩,q=>by subst e;obtain⟨c',u',z1,z2⟩:=Jm.get l (i:=i) (by simpa using q);exact⟨c',u',by simpa using z1,z2⟩
theorem Jm.length{h:aG}:∀{cs:List ak}{vs:List V},Jm h cs vs->vs.length=cs.length
 |[],_,e=>by cases e;rfl
 |c::cs,_,⟨x,r,u,e,_,_,l⟩=>by subst e;simp[l.length]
theorem Jm.all{h:aG}:∀{cs:List ak}{vs:List V},Jm h cs vs->∀c∈cs,∃v,h.IsCell c v
 |c::cs,_,⟨x,r,u,e,h1,_,l⟩,b,hb=>(xn.mp hb).elim (λz=>z▸⟨_,h1⟩) (l.all b)
theorem lookup_at{α:Type}:∀{l:List (ao×α)} {i:Nat} {p:ao×α},(l.map (·.1)).Nodup->l[i]?=aa p->l.lookup p.1=aa p.2
 |[],i,p,_,h=>by simp at h
 |q::l,0,p,_,h=>by simp at h;subst h;rw[Xc,beq_self_eq_true]
 |q::l,i+1,p,nd,h=>by rw[X4]at nd;rw[cI]at h;have ne:(p.1==q.1)=ae:=beq_eq_false_iff_ne.mpr λz=>(Xg.mp nd).1 (z▸i9 (Xn h));rw[Xc,ne];exact lookup_at (Xg.mp nd).2 h
theorem j1v{ps:List ao}{us:List aj}{i:Nat}{p:ao}{u:aj}(nd:ps.Nodup)(hl:us.length=ps.length)(h1:ps[i]?=aa p)(h2:us[i]?=aa u):(ps.zip us).reverse.lookup p=aa u:=by
 have hm:(p,u)∈(ps.zip us).reverse:=List.mem_reverse.mpr (Xn (i:=i) (by rw[gn];exact⟨h1,h2⟩));have e:((ps.zip us).reverse.map (·.1))=ps.reverse:=by rw[List.map_reverse,List.map_fst_zip nofun]
 obtain⟨j,hj⟩:=List.mem_iff_getElem?.mp hm;exact lookup_at (by rw[e];exact(List.reverse_perm ps).nodup_iff.mpr nd) hj
section
variable{P:ay}{w:aD}{K:k70}{mg:k73}{base:aG}{A:aF}{outer:List du}{s:aq}{H:Hp}{x:ao}{a c:ak}{tx:Tx}{cl:List (ao×ak)}{pm ctv:aj}{cvs vs:List V}{us:List aj}{N ps:List ao}{k:Nat}{Q:VK}{E:XK}
theorem jbm{h1:aG}{tk:Nat}(hh:A.handled=ah)(e0:Env0 P w K mg base A outer s H)(S:LamScope N ps tx.2.2)(hn:cl.map (·.1)=Zx tx.2.2)(nd:(cl.map (·.2)).Nodup)(hc:Jm s.heap (cl.map (·.2)) cvs)(hf:∀q∈cl.map (·.2),H q=ah)(rv:Vals vs us)(hl:vs.length=ps.length)
  (ns:h1.Ns s.heap.objs.size λy=>(ps.zip us).reverse.lookup y) (kp:∀b o,s.heap.get? b=aa o->h1.get? b=aa o) :
  Inv (Yg P w K mg base N (za x) tx.2.2 a (.ref c) cl A outer s H) [] (start N (cvs++vs)) H { s with heap:=h1,toks:=tk }:=by
 have ndN:(Zx tx.2.2).Nodup:=by have:=S.nd;rw[S.nm]at this;exact(List.nodup_append.mp this).1
 have ndP:ps.Nodup:=by have:=S.nd;rw[S.nm]at this;exact(List.nodup_append.mp this).2.1
 have ndC:(cl.map (·.1)).Nodup:=by rw[hn];exact ndN
 have lenC:cvs.length=(Zx tx.2.2).length:=by rw[hc.length,<-hn,xg,xg]
 have lenN:N.length=(cvs++vs).length:=by rw[S.nm,X7,X7,lenC,hl]
 have noA:∀b:ak,b∉(Yg P w K mg base N (za x) tx.2.2 a (.ref c) cl A outer s H).ex:=λb z=>absurd (show b∈([]:List ak)from z) (by simp);have mem2:∀{y:ao}{q:ak},cl.lookup y=aa q->q∈cl.map (·.2):=λ{y q} h=>Xe.mpr ⟨(y,q),Xy h,rfl⟩;have inj:∀(l:List (ao×ak)),(l.map (·.2)).Nodup->∀y z q,(y,q)∈l->(z,q)∈l->y=z:=λl=>by
  induction l with
  |nil=>intro _ y z q h;cases h
  |cons p r ih =>
   intro nd y z q h1 h2;rw[X4]at nd;obtain⟨n1,n2⟩:=Xg.mp nd;rcases xn.mp h1 with e1|h1<;>rcases xn.mp h2 with e2|h2
   .rw[<-e1]at e2;cases e2;rfl
   .exact absurd (Xe.mpr ⟨(z,q),h2,by rw[<-e1]⟩) n1
   .exact absurd (Xe.mpr ⟨(y,q),h1,by rw[<-e2]⟩) n1
   .exact ih n2 y z q h1 h2
 refine⟨⟨e0.mod,S.kind,rfl,rfl,X5 _,λy z q h1 h2=>inj cl nd y z q (Xy h1) (Xy h2),λy hy=>?_,λy q h=>(by cases h),λ_=>hh,gE e0.frames,.inr ⟨rfl,rfl⟩,λb z=>absurd z (noA b),e0.bs,e0.bsz,λb _ _=>noA b,λb z=>absurd z (noA b),e0.funs,e0.frf⟩,
  rfl,e0.bare,Un.kept kp,⟨_,ns,λi y v h1 h2 h3=>?_⟩,λy q h=>?_,e0.hok.fresh (X5 _),λy q h=>hf q (mem2 h),λp hp=>absurd (show p∈([]:k72)from hp) (by simp),e0.hok.kept kp,?_⟩
 .have hy:tx.2.2.names.lookup y=aa .cell\/tx.2.2.names.lookup y=aa .free:=hy;rcases hy with hy|hy
  .exact absurd rfl (S.nocell _ (Xy hy))
  .have m:=S.cov y hy;rw[<-hn]at m;obtain⟨p,hp,e⟩:=Xe.mp m;obtain⟨i,hi⟩:=List.mem_iff_getElem?.mp hp;exact⟨p.2,by have:=lookup_at ndC hi;rw[e]at this;exact this⟩
 .have h1:N[i]?=aa y:=h1;have hi:i<(cvs++vs).length:=by rw[<-lenN];exact(Xd.mp h1).1
  have ha:(cvs++vs)[i]?=aa v:=by
   unfold start at h2;rw[Pa (by simpa using hi),X6]at h2;cases e:(cvs++vs)[i]? with
   |none=>rw[e]at h2;cases h2
   |some a=>rw[e]at h2;cases h2;rfl
  rw[S.nm]at h1;by_cases z:i<cvs.length
  .rw[Pa z]at ha;rw[Pa nofun]at h1;obtain⟨q,u,e1,e2,r⟩:=hc.get ha;refine⟨u,r,.inr ⟨.inr (S.lfr y (Xn h1)),q,?_,e2.keeps kp⟩⟩;rw[<-hn,X6]at h1;rw[X6]at e1;obtain⟨p,hp,ep⟩:=Pn.mp h1;rw[hp]at e1;have:=lookup_at ndC hp;rw[ep]at this;show cl.lookup y=aa q;rw[this];exact e1
  .rw[dq nofun]at ha h1;rw[<-lenC]at h1;obtain⟨u,hu,r⟩:=rv.get ha;exact⟨u,r,.inl ⟨S.lps y (Xn h1),j1v ndP (by rw[<-rv.length,hl]) h1 hu⟩⟩
 .obtain⟨v,z⟩:=hc.all q (mem2 h);exact⟨v,z.keeps kp⟩
 .unfold start;show _=N.length;rw[X7,xg,eP];omega
theorem j76 (hr:Room (k+1) A) (e0:Env0 P w K mg base A outer s H) (ho:s.heap.get? a=aa (W.kla_obj "<lambda>" (za x) tx.1 tx.2.1 tx.2.2 cl pm c ctv)) (hcd:s.heap.CodeRec (.ref c) (za x))
  (S:LamScope N ps tx.2.2) (hn:cl.map (·.1)=Zx tx.2.2) (nd:(cl.map (·.2)).Nodup) (hc:Jm s.heap (cl.map (·.2)) cvs) (hf:∀q∈cl.map (·.2),H q=ah)
  (hb:cX (W.kla_fn "<lambda>" (za x) tx.1 tx.2.1 tx.2.2 cl pm (.ref c) ctv) ⟨us,[]⟩=pure (ps.zip us)) (rv:Vals vs us) (hl:vs.length=ps.length)
  (body:Room k (Yg P w K mg base N (za x) tx.2.2 a (.ref c) cl A outer s H).A->Jv (Yg P w K mg base N (za x) tx.2.2 a (.ref c) cl A outer s H) tx.2.1 (start N (cvs++vs)) H Q) :
  cF (aA P w) A (.call (.ref a) ⟨us,[]⟩) (CR CX0 outer P w H s Q E) s:=by
 have lim:s.heap.NoLimit:=e0.mod.nolimit.keeps λb o e=>(e0.bs b o e).1;refine W.kla_callFunE (by have:=hr.dp;omega) ho rfl S.co S.gen rfl hcd ?_;rw[hb];refine av (wpAny_newFunctionEnv S.nocell (λy hy=>S.lps y.1 (eM (a:=y.1) (b:=y.2) hy).1) (λh1 ns sb=>⟨lim.fresh _ sb,?_⟩) S.kind);show cF _ _ (.expr tx.2.1 (W.envX (za x) tx.2.2 s.heap.objs.size a (.ref c) cl)) _ _;have kp:∀b o,s.heap.get? b=aa o->h1.get? b=aa o:=λb o e=>sb.extBut b o (X8 (xq e)) (kj _ e);have I:=jbm (x:=x) (a:=a) (c:=c) (tk:=s.toks+(ps.zip us).length) hr.hd e0 S hn nd hc hf rv hl ns kp;refine W.kla_codeExpr (bS (body (hr.deeper _) [] _ I) (λu s' ⟨v,H',J,r,q⟩=>?_) λ_ _ z=>z.elim);exact⟨v,H',J.os,J.bare,J.base,J.hok,r,q⟩
end
mutual
noncomputable def noFn:D->Bool
 |.fn _ _=>ae
 |.tup ds=>Yb ds
 |.lst ds=>Yb ds
 |.dct _ ds=>Yb ds
 |_=>af
noncomputable def Yb:List D->Bool
 |[]=>af
 |d::ds=>noFn d&&Yb ds
end
section
variable{K:k70}{H:Hp}{A:List ak}
def Cel(H:Hp)(A:List ak):Prop:=∀a∈A,∃oc v,H a=aa (.frz oc (.own 0))/\oc.data=.cell v
theorem Cel.out(hA:Cel H A){b:ak}{o:HO}(q:H b=aa o)(h:∀oc,o≠.frz oc (.own 0)):del H A b=aa o:=by rw[j6];exact q;intro y;obtain⟨oc,v,e,_⟩:=hA b y;rw[q]at e;exact h oc (aC e)
theorem Cel.seqT(hA:Cel H A){a:ak}{xs:List V}(h:SqT K H a xs):SqT K (del H A) a xs:=by
 rcases h with (h|⟨o,h⟩)|h
 .exact .inl (.inl (hA.out h λ_ z=>by cases z))
 .exact .inl (.inr ⟨o,hA.out h λ_ z=>by cases z⟩)
 .exact .inr h
theorem Cel.seq(hA:Cel H A){a:ak}{xs:List V}(h:SqL K H a xs):SqL K (del H A) a xs:=by
 rcases h with (h|⟨o,h⟩)|h
 .exact .inl (.inl (hA.out h λ_ z=>by cases z))
 .exact .inl (.inr ⟨o,hA.out h λ_ z=>by cases z⟩)
 .exact .inr h
mutual
theorem Enc.noc(hA:Cel H A):∀{d:D}{v:V},noFn d=af->Enc K H d v->Enc K (del H A) d v
 |.non,_,_,h=>h
 |.bl _,_,_,h=>h
 |.int _,_,_,h=>h
 |.str _,_,_,h=>h
 |.tup _,_,n,⟨a,xs,e,q,l⟩=>⟨a,xs,e,hA.seqT q,j5.noc hA (by simpa [noFn]using n) l⟩
 |.lst _,_,n,⟨a,xs,e,q,l⟩=>⟨a,xs,e,hA.seq q,j5.noc hA (by simpa [noFn]using n) l⟩
 |.dct _ _,_,n,⟨a,xs,ep,vs,e,q,ek,kt,rv,l⟩=>⟨a,xs,ep,vs,e,hA.out q (λ_ z=>by cases z),ek,λx hx=>hA.seqT (kt x hx),rv,j5.noc hA (by simpa [noFn]using n) l⟩
 |.sct _,_,_,⟨a,e,q⟩=>⟨a,e,hA.out q λ_ z=>by cases z⟩
 |.fn _ _,_,n,_=>by cases n
theorem j5.noc(hA:Cel H A):∀{ds:List D}{xs:List V},Yb ds=af->j5 K H ds xs->j5 K (del H A) ds xs
 |[],_,_,h=>h
 |d::ds,_,n,⟨x,r,e,h,l⟩=>by rw[Yb,Xb]at n;exact⟨x,r,e,Enc.noc hA n.1 h,j5.noc hA n.2 l⟩
end
theorem zq.cel:∀{cs:List ak}{vs:List V},zq H cs vs->Cel H cs
 |[],_,_=>λ_ h=>nomatch h
 |c::cs,_,⟨v,r,o,u,e,h,d,rv,l⟩=>λa ha=>(xn.mp ha).elim (λz=>⟨o,_,z▸h,d⟩) (l.cel a)
theorem zq.inn{P:ay}{w:aD}{h:aG}(ok:HOk P w H h):∀{cs:List ak}{vs:List V},zq H cs vs->Jm h cs vs
 |[],_,e=>e
 |c::cs,_,⟨v,r,o,u,e,q,d,rv,l⟩=>⟨v,r,u,e,⟨o,(show jm P w H h c (.frz o (.own 0))from ok _ _ q).1,d⟩,rv,l.inn ok⟩
theorem zq.of_del{B:List ak}:∀{cs:List ak}{vs:List V},zq (del H B) cs vs->zq H cs vs:=λh=>h.mono ji
theorem TabOk.fz(h:TabOk K H)(hA:∀a∈A,Fz (H a)):TabOk K (L2.del H A):=λx hx c P z=>by have q:=h x hx c P z;rw[j6];exact q;intro y;rcases hA _ y with ⟨xs,e⟩|⟨oc,v,e,_⟩<;>(rw[q]at e;cases e)
end
def j2i(P:ay)(w:aD)(K:k70)(mg:k73)(base:aG)(k:Nat)(x:ao)(S:List D->D->Prop):Prop :=
 ∀(A:aF)(outer:List du)(s:aq)(H:Hp)(a:ak)(B:List ak)(cs ds:List D) (d:D) (vs:List V) (us:List aj) (Q:VK) (E:XK),Room k A->Env0 P w K mg base A outer s H->TabOk K H->(∀b∈B,∃xs,H b=aa (.lst xs)) ->
  Enc K (del H B) (.fn x cs) (.ref a)->j5 K (del H B) ds vs->Yb ds=af->S (cs++ds) d->Vals vs us->(∀v H',j4 H H'->Enc K (del H' B) d v->Q v H')->cF (aA P w) A (.call (.ref a) ⟨us,[]⟩) (CR CX0 outer P w H s Q E) s
section
variable{P:ay}{w:aD}{K:k70}{mg:k73}{base:aG}{k:Nat}{x:ao}{S:List D->D->Prop}{tx:Tx}{N ps:List ao}
theorem jeh(ht:j1x K x=aa tx)(Sc:LamScope N ps tx.2.2)(hl:∀ds d,S ds d->ds.length=N.length)
  (hb:∀(cl:List (ao×ak)) (pm:aj) (c:ak) (ctv:aj) (us:List aj),us.length=ps.length->cX (W.kla_fn "<lambda>" (za x) tx.1 tx.2.1 tx.2.2 cl pm (.ref c) ctv) ⟨us,[]⟩=pure (ps.zip us))
  (hbody:∀(a c:ak)(cl:List (ao×ak)) (A:aF) (outer:List du) (s:aq) (H:Hp),cl.map (·.1)=Zx tx.2.2->Room k (Yg P w K mg base N (za x) tx.2.2 a (.ref c) cl A outer s H).A->∀ds d,S ds d->DT (Yg P w K mg base N (za x) tx.2.2 a (.ref c) cl A outer s H) (qb N ds) tx.2.1 d):j2i P w K mg base (k+1) x S:=by
 intro A outer s H a B cs ds d vs us Q E hr e0 tb hB en ea nf hS rv q;obtain⟨a',c,tx',cl,cvs,e,L,l⟩:=en;cases e;have et:tx'=tx:=aC (L.tx.symm.trans ht);subst et;have cs_at:zq H (cl.map (·.2)) cvs:=L.cs.of_del;have hA:∀b∈B++cl.map (·.2),Fz (H b):=λb hb=>(Ph.mp hb).elim (λz=>.inl (hB b z)) λz=>.inr (cs_at.cel b z);obtain⟨e1,back⟩:=j4e e0 hA;obtain⟨pm,ctv,hfo⟩:=L.fo;obtain⟨oc,hco,vs0,t0,hd0,hv0⟩:=L.co;have ho:=(show jm P w H s.heap a (.frz _ (.own 0))from e0.hok _ _ (of_del hfo).2).1;have hcd:s.heap.CodeRec (.ref c) (za x):=⟨c,oc,vs0,t0,rfl,(show jm P w H s.heap c (.frz oc (.own 0))from e0.hok _ _ (of_del hco).2).1,hd0,hv0⟩
 have ll:=l.length;have la:=ea.length;have hlen:=hl _ _ hS;have lenC:(cl.map (·.2)).length=(Zx tx'.2.2).length:=by rw[<-L.nm,xg,xg]
 have lcv:=(cs_at.inn e0.hok).length;have hlv:vs.length=ps.length:=by rw[Sc.nm,X7,X7]at hlen;omega
 have celB:Cel (del H B) (cl.map (·.2)):=L.cs.cel;have ea1:j5 K (del H (B++cl.map (·.2))) ds vs:=by rw[<-Zg];exact ea.noc celB nf
 have l1:j5 K (del H (B++cl.map (·.2))) cs cvs:=by rw[<-Zg];exact l
 refine bO (j76 (E:=E) (Q:=λv F=>(∀a∈B++cl.map (·.2),F a=ah)->Q v (mrg (B++cl.map (·.2)) H F)) hr e1 ho hcd Sc L.nm L.nd (cs_at.inn e0.hok) (λb hb=>zf (Xi _ hb)) (hb cl pm c ctv us (by rw[<-rv.length];exact hlv)) rv hlv λhrm=>?_) λr s' h=>back Q E E r s' h;refine hbody a c cl A outer s _ L.nm hrm (cs++ds) d hS _ _ _ (V0 (tb.fz hA) (l1.append ea1)) λv F g en' hF=>q v _ (Ma g) (en'.mono λb o z=>?_);have nb:b∉B++cl.map (·.2):=λy=>by rw[hF b y]at z;cases z
 rw[j6 (λy=>nb (cY _ y)),jl nb];exact z
end
section
variable{X:Cx}{ρ:Rho}{e:au}{es:List au}{d:D}{cs ds:List D}{pos p:aR}{x y:ao}{i k:Nat}
end
section
variable{X:Cx}{pins:k72}{σ:St}{H:Hp}{s:aq}
structure LMk(X:Cx)(x:ao):Prop where
 mem:x∈V7
 qual:X.env.qual=x ++ ".<locals>."
 code:∃c P,X.env.code=.ref c/\W.codeHdIn X.K c P=af/\W.tabIn X.K x=aa (c,P)
end
def jkp(X:Cx)(ρ:Rho):List (ao×ak)->List D->Prop
 |[],ds=>ds=[]
 |p::cl,ds=>∃(d:D)(r:List D)(i:Nat),ds=d::r/\X.N[i]?=aa p.1/\X.env.scope.names.lookup p.1=aa .cell/\X.env.cells.lookup p.1=aa p.2/\X.fn p.1=af/\ρ[i]?=aa (.val d)/\jkp X ρ cl r
section
variable{X:Cx}{pins:k72}{σ:St}{H H2:Hp}{s s2:aq}{ρ:Rho}
end
section
variable{X:Cx}{ρ:Rho}{P:Po}{x:ao}{params:ip}{body:au}{scope:bG}{cl:List (ao×ak)}{ds:List D}{pos p1 p2:aR}
end
section
variable{X:Cx}{ρ:Rho}{e a b c:au}{es:List au}{st:aQ}{rest sa sb body:List aQ}{P:Po}{d:D}{ds ds':List D}{pos p p1 p2 p3:aR}{x:ao}{i:Nat}
theorem Cal.comp{sp:Sp}{scope:bG}{C:ak}{s:aq}{H:Hp}{fp:List ak}{pn:k72}(h:Cal X x sp):Cal (cCx X scope C s H fp pn) x sp:=⟨h.ex⟩
end
theorem v6(lo:Int)(n:Nat):(upto lo n).length=n:=by unfold upto;rw[xg,cN]
theorem Ka{lo:Int}{n:Nat}{d:D}(h:d∈upto lo n):∃j:Nat,j<n/\d=.int (lo+j):=by unfold upto at h;obtain⟨j,hj,e⟩:=Xe.mp h;exact⟨j,Xr.mp hj,e.symm⟩
theorem Cz{lo:Int}{n j:Nat}{d:D}(h:(upto lo n)[j]?=aa d):j<n/\d=.int (lo+j):=by
 unfold upto at h;rw[X6]at h;cases z:(aK n)[j]? with
 |none=>rw[z]at h;cases h
 |some k =>rw[z]at h;have hl:=(Xd.mp z).1;rw[cN]at hl;have:=f7 (n:=n) (i:=j) hl;rw[this]at z;cases z;cases h;exact⟨hl,rfl⟩
section
variable{X:Cx}{ρ:Rho}{a b tg it:au}{ds ds':List D}{d:D}{i:Int}{pos:aR}
end
mutual
def J3:D->Prop
 |.tup l=>l.length<=1000/\Qi l
 |.lst l=>l.length<=1000/\Qi l
 |.dct _ _=>False
 |.sct _=>False
 |.fn _ _=>False
 |_=>True
def Qi:List D->Prop
 |[]=>True
 |d::ds=>J3 d/\Qi ds
end
theorem Ud:∀{ds:List D}{d:D},Qi ds->d∈ds->J3 d
 |x::xs,d,h,m=>by
  simp only[Qi]at h;rcases xn.mp m with e|m
  .subst e;exact h.1
  .exact Ud h.2 m
theorem Yd:∀{ds:List D},(∀d∈ds,J3 d)->Qi ds
 |[],_=>by simp only[Qi]
 |x::xs,h=>by simp only[Qi];exact⟨h x (xm ..),Yd λd m=>h d (km _ m)⟩
theorem D.depL_mem:∀{ds:List D}{d:D},d∈ds->d.dep<=D.depL ds
 |x::xs,d,m=>by
  simp only[D.depL];rcases xn.mp m with e|m
  .subst e;omega
  .have:=D.depL_mem m;omega
theorem D.depL_of{n:Nat}:∀{ds:List D},(∀d∈ds,d.dep<=n)->D.depL ds<=n
 |[],_=>by simp only[D.depL];omega
 |x::xs,h=>by simp only[D.depL];have h1:=h x (xm ..);have h2:=D.depL_of (ds:=xs) λd m=>h d (km _ m);omega
end L2
namespace L2
noncomputable def qx(b:Int):Nat->Int->List Int
 |0,_=>[]
 |i+1,n=>(n/b^i%b)::qx b i n
theorem Jf(b:Int):∀(m:Nat)(n:Int),(qx b m n).length=m
 |0,_=>rfl
 |m+1,n=>by rw[qx,xr,Jf b m n]
theorem Mq(b:Int):∀{m k:Nat}{n:Int},k<m->(qx b m n)[k]?=aa (n/b^(m-k-1)%b)
 |m+1,0,n,_=>by rw[qx];rfl
 |m+1,k+1,n,h=>by
  rw[qx,cI,Mq b nofun];have:m-k-1=m+1-(k+1)-1:=by omega
  rw[this]
end L2
end
section
namespace L2
open PySem PySem.Spec PyProof.Rows
def CX1(P:ay)(w:aD):CXT:=λouter H s E ev s'=>∃(e:ak)(C:aj)(H':Hp),ev=.ref e/\s'.os=s.os/\eD s'.gens/\Un (frs outer) [] H H' s.heap s'.heap/\HOk P w H' s'.heap /\
 Fl (λb=>∃o,s.heap.get? b=aa o) H' s'.heap e C/\E C ah H'
theorem jm.get{P:ay}{w:aD}{H:Hp}{h:aG}{a:ak}{o:HO}(x:jm P w H h a o):∃u,h.get? a=aa u:=by
 cases o with
 |lst xs=>obtain⟨_,_,_,_,e⟩:=x;exact⟨_,e⟩
 |tup xs=>obtain⟨_,_,_,⟨_,e,_⟩,_⟩:=x;exact⟨_,e⟩
 |dK kvs=>obtain⟨_,_,_,_,o,_,_,e,_⟩:=x;exact⟨_,e⟩
 |dT kvs=>obtain⟨_,_,_,_,o,_,_,e,_⟩:=x;exact⟨_,e⟩
 |dI xs ep=>obtain⟨_,_,_,o,_,e,_⟩:=x;exact⟨_,e⟩
 |set S n=>obtain⟨o,_,_,_,e,_⟩:=x;exact⟨_,e⟩
 |ins C dx fs=>obtain⟨_,_,_,e,_⟩:=x;exact⟨_,e⟩
 |own y=>obtain⟨_,e⟩:=x;exact⟨_,e⟩
 |xd fs=>obtain⟨_,⟨_,_,_,e,_⟩,_⟩:=x;exact⟨_,e⟩
 |rng lo hi=>obtain⟨_,_,_,e⟩:=x;exact⟨_,e⟩
 |frz ob u=>obtain⟨e,_⟩:=x;exact⟨_,e⟩
 |tbl ps=>exact⟨_,(show h.get? a=aa _ from x)⟩
 |cod q=>obtain⟨_,e,_⟩:=x;exact⟨_,e⟩
 |met f y=>exact⟨_,(show h.get? a=aa _ from x)⟩
 |ext φ=>obtain⟨_,⟨_,e⟩,_⟩:=x;exact⟨_,e⟩
section
variable{X:Cx}{pins:k72}{σ:St}{H:Hp}{s:aq}
theorem Inv.old(I:Inv X pins σ H s){b:ak}(h:Old X pins b):∃o,s.heap.get? b=aa o:=by
 rcases h with ⟨o,q,n⟩|⟨p,hp,rfl⟩|rfl|⟨x,e⟩
 .exact I.base.there b o q n
 .exact⟨_,(I.pin p hp).1⟩
 .obtain⟨m,⟨o,_,_,e,_⟩,_⟩:=I.loc;exact⟨o,e⟩
 .obtain⟨v,o,e,_⟩:=I.cell x b e;exact⟨o,e⟩
end
section
variable{P:ay}{w:aD}{K:k70}{mg:k73}{base:aG}{N ps:List ao}{qual:ao}{scope:bG}{f:ak}{cd:aj}{A:aF}{outer:List du}{s s':aq}{H H':Hp}{E:XK}{σ:St}{pins:k72}{e:ak}{C:aj}
theorem j08{as:List ak}{h':aG}{a0:aj}(I:Inv (qt (CX1 P w) P w K mg base N qual scope f cd A outer s H E) pins σ H' s')(F:Fl (Old (qt (CX1 P w) P w K mg base N qual scope f cd A outer s H E) pins) H' s'.heap e C)
  (hE:E C ah H') (ha:∀b,b∈as↔b∈frs (bx qual scope s.heap.objs.size f cd::outer)\/(¬(∃o,s.heap.get? b=aa o)/\H' b=ah/\b∈as)) (hfa:∀b∈frs (bx qual scope s.heap.objs.size f cd::outer),b∈as)
  (hL:Heap.LeftW (W.hideAll s'.heap as) (bx qual scope s.heap.objs.size f cd::outer) e C a0 s'.heap h'):CX1 P w outer H s E (.ref e) { s' with heap:=h' }:=by
 obtain⟨k1,k2,k3,k4⟩:=hL;have fr:∀b∈frs outer,∃o,s'.heap.get? b=aa o/\∀vs,o.data≠.fields vs:=λb hb=>by obtain⟨o,ho,hd⟩:=(I.stack.mem (show b∈frs (bx qual scope s.heap.objs.size f cd::outer)from km _ hb)).2;exact⟨o,ho,hd⟩
 have sfree:∀b∈frs (bx qual scope s.heap.objs.size f cd::outer),H' b=ah:=I.stkFree;have keep:∀b o,s'.heap.get? b=aa o->b∉as->h'.get? b=aa o:=λb o q n=>k1 b o (W.hideAll_get _ q n);have nold:∀b o,s.heap.get? b=aa o->b∉frs outer->b∉as:=λb o q n z=>by
  rcases(ha b).mp z with z|⟨z,_⟩
  .rcases xn.mp z with z|z
   .have:=xq q;rw[show b=s.heap.objs.size from z]at this;exact absurd this (pq _)
   .exact n z
  .exact z ⟨o,q⟩
 have ntrk:∀b u,H' b=aa u->b∉as:=λb u q z=>by
  rcases(ha b).mp z with z|⟨_,z,_⟩
  .rw[sfree b z]at q;cases q
  .rw[z]at q;cases q
 have slot:∀b∈frs outer,∀o,s'.heap.get? b=aa o->∃sl,h'.get? b=aa { o with slots:=sl }:=λb hb o q=>by obtain⟨o',ho,hd⟩:=fr b hb;rw[q]at ho;cases ho;exact k4 b o q hd
 have un:=I.base;refine⟨e,C,H',rfl,I.os,I.bare,⟨λb o q n hb _=>keep b o (un.keep b o q n hb (λz=>nomatch z)) (nold b o q hb),λb o q n hb _=>?_,λb o q n _=>un.free b o q n (λz=>nomatch z),λb o q _=>?_,un.tups,un.frzs,un.tbls⟩,
  λa o q=>(I.hok a o q).stay (λb u hb r=>keep b u r ?_) (λ_ z=>z) (λ_ _ z=>z) λ_ _ _ z=>z,?_,hE⟩
 .obtain⟨sl,q'⟩:=un.slot b o q n hb (λz=>nomatch z);obtain⟨sl',q2⟩:=slot b hb _ q';exact⟨sl',q2⟩
 .obtain⟨o',q'⟩:=un.there b o q (λz=>nomatch z);by_cases hb:b∈frs outer
  .obtain⟨sl,q2⟩:=slot b hb _ q';exact⟨_,q2⟩
  .exact⟨_,keep b o' q' (nold b o q hb)⟩
 .rcases hb with rfl|hb
  .exact ntrk _ _ q
  .exact ntrk _ _ hb
 .obtain⟨oe,vs,T,oT,ts,he,⟨hc,h0⟩,hd,h1,hnT,hTe,hT,hdT,h3⟩:=k3;refine⟨λb ⟨o,q⟩=>F.new b (.inl ⟨o,q,λz=>nomatch z⟩),F.free,oe,vs,a0,he,hc,hd,h0,.inr ⟨T,oT,ts,h1,hTe,hT,hdT,h3,?_,λb ⟨o,q⟩ z=>?_⟩⟩
  .cases r:H' T with
   |none=>rfl
   |some u =>obtain⟨ob,q⟩:=(I.hok T u r).get;rw[W.hideAll_get _ q (ntrk T u r)]at hnT;cases hnT
  .subst z;obtain⟨o',q'⟩:=un.there b o q (λz=>nomatch z);by_cases hb:b∈frs outer
   .obtain⟨o2,q2,nf⟩:=fr b hb;obtain⟨sl,q3⟩:=slot b hb o2 q2;rw[q3]at hT;cases hT;exact nf ts hdT
   .rw[W.hideAll_get _ q' (nold b o q hb)]at hnT;cases hnT
theorem Ft(I:Inv (qt (CX1 P w) P w K mg base N qual scope f cd A outer s H E) pins σ H' s')(F:Fl (Old (qt (CX1 P w) P w K mg base N qual scope f cd A outer s H E) pins) H' s'.heap e C)(hE:E C ah H') :
  (qt (CX1 P w) P w K mg base N qual scope f cd A outer s H E).xe (.ref e) s':=by
 obtain⟨oe,vs,a0,he,hc,hd,h0,hT⟩:=F.obj;have hsN:∀b,(∃o,s.heap.get? b=aa o)->Old (qt (CX1 P w) P w K mg base N qual scope f cd A outer s H E) pins b:=λb ⟨o,q⟩=>.inl ⟨o,q,λz=>nomatch z⟩;have hin:∀(as:List ak),(∀b∈frs (bx qual scope s.heap.objs.size f cd::outer),b∈as)->∀env∈bx qual scope s.heap.objs.size f cd::outer,∀a,env.frame=aa a->a∈as:=λas h env he a ha=>h a (Pq.mpr ⟨env,he,ha⟩);subst hc;rcases hT with h1|⟨T,oT,ts,h1,hTe,hT,hdT,h3,hTf,hTn⟩
 .let as:=e::frs (bx qual scope s.heap.objs.size f cd::outer)
  have hfa:∀b∈frs (bx qual scope s.heap.objs.size f cd::outer),b∈as:=λb hb=>km _ hb;refine wpAny_leaving_firstW (base:=W.hideAll s'.heap as) I.ok.frames (W.funFrames_hide I.stack (hin as hfa)) rfl he (λb o q=>W.of_hideAll _ q) (W.hideAll_none _ (xm ..)) hd h1 h0 λh' hL =>j08 I F hE (λb=>⟨λz=>?_,λz=>z.elim (hfa b) λz=>z.2.2⟩) hfa hL
  rcases xn.mp z with e1|z'
  .subst e1;exact .inr ⟨λq=>F.new _ (hsN _ q) rfl,F.free,z⟩
  .exact .inl z'
 .let as:=e::T::frs (bx qual scope s.heap.objs.size f cd::outer)
  have hfa:∀b∈frs (bx qual scope s.heap.objs.size f cd::outer),b∈as:=λb hb=>km _ (km _ hb);refine wpAny_leaving_nextW (base:=W.hideAll s'.heap as) (a0:=a0) I.ok.frames (W.funFrames_hide I.stack (hin as hfa)) rfl ⟨oe,vs,T,oT,ts,he,⟨rfl,h0⟩,hd,h1,W.hideAll_none _ (km _ (xm ..)),hTe,hT,hdT,h3⟩
   (λb o q=>W.of_hideAll _ q) (W.hideAll_none _ (xm ..)) λh' hL =>
   j08 I F hE (λb=>⟨λz=>?_,λz=>z.elim (hfa b) λz=>z.2.2⟩) hfa hL
  rcases xn.mp z with e1|z'
  .subst e1;exact .inr ⟨λq=>F.new _ (hsN _ q) rfl,F.free,z⟩
  .rcases xn.mp z' with e1|z2
   .subst e1;exact .inr ⟨λq=>hTn _ (hsN _ q) rfl,hTf,z⟩
   .exact .inl z2
end
def spX(K:k70)(mg:k73)(S:List D->ao->Prop):Sp:=λvs H _ E=>∃ds x C,TabOk K H/\j5 K H ds vs/\S ds x/\mg x=aa C/\∀H',j4 H H'->E C ah H'
section
variable{P:ay}{w:aD}{K:k70}{mg:k73}{base:aG}{x qual:ao}{st:aQ}{f:ak}{fd:aM}{N ps:List ao}{k:Nat}
theorem j4g{S:List D->ao->Prop}(F:Fun K x qual st f fd)(Sc:FnScope N ps (j0 st))(hl:∀ds y,S ds y->ds.length=ps.length)
  (hbody:∀(cdv:aj)(A:aF)(outer:List du)(s:aq)(H:Hp)(E:XK),Yl K f cdv->Room k (A.deeper (bx qual (j0 st) s.heap.objs.size f cdv))->∀ds y,S ds y ->
   DSs (qt (CX1 P w) P w K mg base N qual (j0 st) f cdv A outer s H E) (qb N ds) (je st) { nx:=λ_=>False,rt:=λ_=>False,ex:=λz _=>z=y }):FnOk P w K mg base (CX1 P w) (k+1) f fd ps (spX K mg S):=by
 obtain⟨oc,od,dV,kV,doc,pm,an,cdv,ct,osl,rfl,lk,hcd⟩:=F.ex;refine Cr lk hcd Sc (λvs H Q E ⟨ds,y,C,tb,en,hS,_⟩=>by rw[en.length];exact hl ds y hS) λA outer s H vs Q E hr ⟨ds,y,C,tb,en,hS,hC,hE⟩=>⟨_,zr,?_⟩
 have ho:=Qh N ds;refine hbody cdv A outer s H E ⟨oc,od,_,osl,lk,rfl⟩ hr ds y hS (start N vs) H _ (V0 tb en) ⟨λρ' σ' H' n R f=>n.elim,λ_ _ _ z=>z.elim,λ_ _ _ z=>z.elim,λr v H' n z=>n.elim,λz ρ' σ' H' n R g=>?_⟩;cases(show z=y from n);intro pins H2 s' e C' I g2 hC' Fe;cases hC.symm.trans hC';unfold Fr0 at g;rw[ho,J6]at g;exact Ft I Fe (hE H2 ((g.trans ji).trans g2))
end
def DX(X:Cx)(ρ:Rho)(e:au)(x:ao):Prop:=∀σ H Q,Rep X.K ρ σ H->Ws X σ H x->Jv X e σ H Q
def DXA(X:Cx)(ρ:Rho)(es:List au)(x:ao):Prop:=∀σ H Q,Rep X.K ρ σ H->Ws X σ H x->W4 X es σ H Q
structure CalX(X:Cx)(x:ao)(sp:Sp):Prop where
 ex:∃(k:Nat)(f:ak)(fd:aM)(ps:List ao),FnOk X.prog X.w X.K X.mg X.base (CX1 X.prog X.w) k f fd ps sp/\Room k X.A/\X.mg x=aa (.ref f)/\W.keepIn X.K (.ref f)=af/\Binds X.K fd ps []
section
variable{X:Cx}{ρ:Rho}{e:au}{es:List au}{f x:ao}{ds:List D}{p pos:aR}{C:aj}
theorem DX.call {S:List D->ao->Prop} (c:CalX X f (spX X.K X.mg S)) (ha:DTA X ρ (e::es) ds) (hS:S ds x) (hC:X.mg x=aa C) (hg:Gl X f) (hdb:(f==k74)=ae)
  (he:ai (e::es) X.env=(ae,aB e X.env)::ai es X.env) (hpl:(aP pos (ai es X.env)).any (·.1)=ae):DX X ρ (.Call (.Name f p) (e::es) [] pos) x:=λσ H Q R k pins s I=>by
 obtain⟨n,fa,fd,ps,F,hr,hm,hk,hb⟩:=c.ex;refine aV (Ze I hg hm ?_ hdb);refine W.callWith_K (h₀:=X.base) I.ok.mod.kin hk (thn (ha σ H (λvs H1=>j4 H H1/\j5 X.K H1 ds vs) R (λvs H1 g e=>⟨g,e⟩) pos pins s I) λus s1 ⟨vs,H1,I1,r,g,en⟩=>⟨I1.kIn,?_⟩) he hpl;have sp:spX X.K X.mg S vs H1 (λ_ _=>False) (λC' _ H'=>C'=C/\j4 H1 H'):=⟨ds,x,C,R.tb.mono g,en,hS,hC,λH' g=>⟨rfl,g⟩⟩
 have hl:us.length=ps.length:=by rw[<-r.length];exact F.len _ _ _ _ sp
 have hb':=hb s1 us I1.kIn (by rw[Xl];exact hl);rw[Xl]at hb';refine fR (bO (F.run X.A X.stack s1 H1 ⟨us,[]⟩ us vs _ _ hr I1.env0 hb' r sp) λr s' hq=>?_);cases r with
 |error ev =>obtain⟨e,C',H',rfl,os,bare,un,hok,fl,rfl,g'⟩:=hq;have I':Inv X pins σ H' s':=I1.call' os un hok bare (λb z=>nomatch z);refine k pins H' s' e C' I' (g.trans g') hC ⟨λb hb=>fl.new b (I1.old hb),fl.free,?_⟩;obtain⟨oe,ws,a0,q1,q2,q3,q4,q5⟩:=fl.obj;refine⟨oe,ws,a0,q1,q2,q3,q4,q5.imp id ?_⟩;rintro⟨T,oT,ts,z1,z2,z3,z4,z5,z6,z7⟩;exact⟨T,oT,ts,z1,z2,z3,z4,z5,z6,λb hb=>z7 b (I1.old hb)⟩
 |ok fl =>
  cases fl with
  |ret u=>obtain⟨_,_,_,_,_,_,_,z⟩:=hq;exact z.elim
  |next=>exact aT hq
  |brk=>exact aT hq
  |cont=>exact aT hq
end
section
variable{X:Cx}{ρ:Rho}{e:au}{es:List au}{x:ao}{d:D}{p pos np cpos:aR}{P:Po}{i:Int}{y:ao}{ys:List ao}
theorem DE.fmtI(ha:DT X ρ e (.int i))(hi:i.natAbs.log2<1920):DE X ρ (.FormattedValue e (-1) ah pos) (.str (toString i)):=λσ H Q R q pins s I=>by
 refine jA (thn (ha σ H (λv H1=>v=.int i/\j4 H H1) R (λv H1 g e=>⟨e,g⟩) pins s I) λu s1 ⟨v,H1,I1,r,ev,g⟩=>?_);subst ev;obtain⟨t,rfl⟩:=(show ∃t,u=br i t from r)
 exact formatField_int_small hi ⟨.str (toString i),H1,I1.un (t':=s1.toks+1+1) Un.refl I1.hok,⟨_,rfl⟩,q _ H1 g rfl⟩
theorem DE.fmtS(ha:DT X ρ e (.str y))(hy:y.length<=ar):DE X ρ (.FormattedValue e (-1) ah pos) (.str y):=λσ H Q R q pins s I=>by
 refine jA (thn (ha σ H (λv H1=>v=.str y/\j4 H H1) R (λv H1 g e=>⟨e,g⟩) pins s I) λu s1 ⟨v,H1,I1,r,ev,g⟩=>?_);subst ev;obtain⟨t,rfl⟩:=(show ∃t,u=b8 y t from r)
 exact l0 (λt' tk=>⟨.str y,H1,I1.un (t':=tk) Un.refl I1.hok,⟨_,rfl⟩,q _ H1 g rfl⟩) hy
noncomputable def Ck(out:ao):List ao->ao
 |[]=>out
 |y::ys=>Ck (out++y) ys
def DPs(X:Cx)(ρ:Rho):List au->List ao->Prop
 |[],[]=>True
 |e::es,y::ys=>DE X ρ e (.str y)/\DPs X ρ es ys
 |_,_=>False
theorem Ko:∀{es:List au}{ys:List ao}{out:ao}{n:Nat}{pins:k72} {σ:St} {H0 H:Hp} {s:aq} {Q:VK},DPs X ρ es ys->(∀y∈ys,y.length<=2000)->out.length+2000*ys.length<=ar->Inv X pins σ H s->Rep X.K ρ σ H->j4 H0 H ->
  (∀H',j4 H0 H'->Q (.str (Ck out ys)) H')->ax (aA X.prog X.w) X.A (joinParts out (evalEach es X.env)) (EP X pins σ Q) X.xe s
 |[],[],out,n,pins,σ,H0,H,s,Q,_,_,hl,I,R,g,q=>joinParts_nil ⟨.str out,H,I.un (t':=s.toks+1) Un.refl I.hok,⟨_,rfl⟩,q H g⟩ (by have:=hl;omega)
 |e::es,y::ys,out,n,pins,σ,H0,H,s,Q,hp,hy,hl,I,R,g,q=>by
  have hy0:=hy y (xm ..);rw[xr]at hl;refine joinParts_cons (thn (hp.1 σ H (λv H1=>v=.str y/\j4 H H1) R (λv H1 g e=>⟨e,g⟩) pins s I) λu s1 ⟨v,H1,I1,r,ev,g1⟩=>?_);subst ev;obtain⟨t,rfl⟩:=(show ∃t,u=b8 y t from r)
  have hz:(out++y).length<=out.length+2000:=by rw[strLen_append];omega
  exact⟨by omega,Ko (n:=n) hp.2 (λz hz=>hy z (km _ hz)) nofun I1 (R.grow g1) (g.trans g1) q⟩
 |[],_::_,_,_,_,_,_,_,_,_,h,_,_,_,_,_,_=>h.elim
 |_::_,[],_,_,_,_,_,_,_,_,h,_,_,_,_,_,_=>h.elim
theorem DE.joined{a b:au}(h:DPs X ρ (a::b::es) ys)(hy:∀y∈ys,y.length<=2000)(hl:ys.length<=1000):DE X ρ (.JoinedStr (a::b::es) pos) (.str (Ck dW ys)):=λσ H Q R q pins s I =>
 JoinedStr_many (Ko (n:=0) (out:=dW) h hy (by
  have e:Str.empty.length=0:=rfl
  rw[e,cg];omega) I R (j4.refl H) λH' g=>q _ H' g rfl)
theorem jbu{Q:VK}{σ:St}{H:Hp}(he:Jv X e σ H Q)(hs:ai [e] X.env=[(ae,aB e X.env)]):W4 X [e] σ H (λvs H'=>∃v,vs=[v]/\Q v H') :=
 (j9 (es:=[]) peS jt hs).to λpins s I=>thn (he pins s I) λu s' ⟨v,H',I',r,q⟩=>⟨v,H',I',r,⟨v,rfl,q⟩⟩
theorem DS.raise{C:ak}{bm bmN:List aj}{newId B Bn nid initId inN:String}(O:OwnCls x C bm newId X.mg X.base)(Fn:ExcBaseFacts Bn newId inN bmN)(hBn:bm.contains (.type Bn)=af)(FB:ExcBaseFacts B nid initId bm)(hc:X.calm=af)
  (ha:∀σ H,Rep X.K ρ σ H->Jv X e σ H λ_ H'=>j4 H H') (hP:P.ex x ρ) (hg:Gl X x) (hdb:(x==k74)=ae) (he:ai [e] X.env=[(ae,aB e X.env)])
  : DS X ρ (.Raise (aa (.Call (.Name x np) [e] [] cpos)) ah pos) P:=λσ H E R q pins s I=>by
 obtain⟨tl,N,nm,qn,bs,hdct,sn,sub,ab,col,dd,k0,k1,k2,k3,k5,mN,hC,hN,hni,T⟩:=O.obj;refine wpAny_Raise_call_subU (C:=C) (nm:=nm) (q:=qn) (N:=N) (bs:=bs) (bm:=tl) (hdct:=hdct) (sn:=sn) (sub:=sub) (ab:=ab) (col:=col) (dd:=dd) (k0:=k0) (k1:=k1) (k2:=k2) (k3:=k3) (k5:=k5)
  Fn hBn FB (mN:=mN) (T.hasType FB.hasBase) (I.ok.hd hc) (by rw[he];rfl) hni (Ze I hg O.bound ⟨rfl,?_⟩ hdb)
 have hsp:=jbu (ha σ H R) he cpos pins s I;rw[he]at hsp ⊢;refine cV (thn hsp λus s2 ⟨vs,H1,I1,r,v,ev,g⟩=>⟨rfl,?_,I1.bk _ _ hC,hN.keeps I1.bk,T.keeps I1.bk,λh' e' hm=>?_⟩)
 .show us.length<=ar;rw[<-r.length,ev];show 1<=ar;rw[cg];omega
 .have nold:∀b,(∃o,s2.heap.get? b=aa o)->b≠e':=λb ⟨o,q⟩ z=>by rw[z,hm.new]at q;cases q
  obtain⟨t,ht,_,_⟩:=hm.there;refine q.ex x ρ σ H hP R (Fr0.refl _ _) pins H1 { s2 with heap:=h' } e' (.ref C) (I1.un (t':=s2.toks) (Un.kept hm.keeps) (I1.hok.kept hm.keeps)) g O.bound ⟨λb hb=>nold b (I1.old hb),?_,_,_,_,ht,rfl,rfl,rfl,.inl rfl⟩;cases z:H1 e' with
  |none=>rfl
  |some u=>exact absurd rfl (nold e' (I1.hok e' u z).get)
end
structure FlT(N:ak->Prop)(H:Hp)(h:aG)(e:ak)(C fl:aj):Prop where
 new:∀b,N b->b≠e
 free:H e=ah
 obj:∃(oe:dm)(vs:Array aj)(a0:aj)(T:ak)(oT:dm)(ts:Array aj),h.get? e=aa oe/\oe.cls=C/\oe.data=.fields vs/\vs[0]?=aa a0/\vs[1]?=aa (.ref T)/\T≠e/\h.get? T=aa oT/\oT.data=.fields ts/\ts[3]?=aa fl /\
  H T=ah/\∀b,N b->b≠T
section
variable{X:Cx}{pins:k72}{σ:St}{H:Hp}{s:aq}{e:ak}{C fl:aj}{M:ja}{A:aF}{E:k71}
end
end L2
end
section
namespace PySem.W
open PySem PySem.Spec PySem.Calls PyProof.Rows Builtin Builtin.ObjectAttr Builtin.Getset_descriptor
section
variable{prog:ay}{w:aD}{A:aF}{E:k71}{h:aG}{g:Array fk}{d:Drawn}{t:Nat}{os:OsState}{K:ly}{e C:ak}
end
end PySem.W
end
section
namespace L2
open PySem PySem.Spec PyProof.Rows
noncomputable def J0:List ao:=["WrongSize","NoAsk","NoWord","Twice","WrongAnswers","Unlike","NoPlace","NoText","WrongPrices","WrongWeights","NoPlan"]
noncomputable def bmV:List aj:=[.type "ValueError",.type "Exception",.type "BaseException",.type "object"]
noncomputable def j5h(K:k70)(C:ak):Bool:=W.findIn K (.ref C) "__getattribute__" == aa (aa (.builtin "BaseException.__getattribute__"))&&(W.findIn K (.ref C) "__getattr__" == aa ah&&(W.subIn K (.ref C) (.type "BaseException")==aa af &&
 (W.findIn K (.ref C) "__class__" == aa (aa (.builtin "object.__class__"))&&(W.mroIn K C (.type "object")==aa af&&((W.clsIn K C).isSome&&W.excIn K C bmV "ValueError.__new__")))))
noncomputable def R9(K:k70):Bool:=J0.all λx=>match W.nsIn K aw x with
 |some (aa (.ref C))=>j5h K C&&(W.kitOne K (.ref C) (.type "ValueError")==aa af&&((match W.nsIn K aw "AskError" with
   |some (aa a)=>W.exmOne K (.ref C) a==aa af
   |_=>ae)&&J0.all λc=>match W.nsIn K aw c with
   |some (aa v)=>W.kitOne K (.ref C) v==aa (x==c)
   |_=>af))
 |some (aa _)=>ae
 |_=>af
structure XcOk(K:k70)(C:ak):Prop where
 ga:W.findIn K (.ref C) "__getattribute__" = aa (aa (.builtin "BaseException.__getattribute__"))
 gt:W.findIn K (.ref C) "__getattr__" = aa ah
 sub:W.subIn K (.ref C) (.type "BaseException")=aa af
 cls:W.findIn K (.ref C) "__class__" = aa (aa (.builtin "object.__class__"))
 mro:W.mroIn K C (.type "object")=aa af
 is:(W.clsIn K C).isSome=af
 exc:W.excIn K C bmV "ValueError.__new__" = af
theorem j9s{K:k70}{C:ak}(h:j5h K C=af):XcOk K C:=by unfold j5h at h;simp only[Xb,beq_iff_eq]at h;exact⟨h.1,h.2.1,h.2.2.1,h.2.2.2.1,h.2.2.2.2.1,h.2.2.2.2.2.1,h.2.2.2.2.2.2⟩
structure ExOne(K:k70)(x:ao)(C:ak):Prop where
 ok:XcOk K C
 val:W.kitOne K (.ref C) (.type "ValueError")=aa af
 ask:∃a,W.nsIn K aw "AskError" = aa (aa a)/\W.exmOne K (.ref C) a=aa af
 one:∀c∈J0,∀v,W.nsIn K aw c=aa (aa v)->W.kitOne K (.ref C) v=aa (x==c)
theorem j7x{K:k70}(h:R9 K=af){x:ao}{o:aj}(hx:x∈J0)(e:W.nsIn K aw x=aa (aa o)):∃C,o=.ref C/\ExOne K x C:=by
 have q:=Xp.mp h x hx;rw[e]at q;cases o with
 |ref C =>
  refine⟨C,rfl,?_⟩;dsimp only at q;simp only[Xb,beq_iff_eq]at q;obtain⟨q1,q2,q3,q4⟩:=q;refine⟨j9s q1,q2,?_,λc hc v ev=>?_⟩
  .split at q3
   .rename_i a ea;exact⟨a,ea,beq_iff_eq.mp q3⟩
   .cases q3
  .have z:=Xp.mp q4 c hc;rw[ev]at z;exact beq_iff_eq.mp z
 |_=>cases q
theorem jax{K:k70}{h₀:aG}{C:ak}{bmB:List aj}{newId:String}{x:ao}{mg:k73}(X:K.In h₀)(hb:mg x=aa (.ref C))(q:W.excIn K C bmB newId=af):OwnCls x C bmB newId mg h₀:=by
 refine⟨hb,?_⟩;unfold W.excIn at q;split at q
 .rename_i dd cd sl ho;split at q
  .rename_i C' bm k0 k1 k2 k3 n k5 hm hs;simp only[Xb,beq_iff_eq,dH]at q;obtain⟨⟨⟨⟨⟨rfl,rfl⟩,hdel⟩,ht⟩,hok⟩,hni⟩:=q;obtain⟨nm,bs,mro,ns,qn,hd,sn,sub,ab,col,del⟩:=cd;dsimp only at hm hdel hok hni;subst hm hdel;have hsl:sl = #[k0,k1,k2,k3,aa (.builtin n),k5]:=by obtain⟨l⟩:=sl;simp only at hs;rw[hs]
   subst hsl;exact⟨bm,ns,nm,qn,bs,hd,sn,sub,ab,col,dd,k0,k1,k2,k3,k5,_,X _ _ ho,.of_isNs (W.isNs_of_in X hok),W.nsMap_none_of_in X hok hni,W.tail_of_in X ht⟩
  .cases q
 .cases q
theorem DS.raiseE{X:Cx}{ρ:Rho}{e:au}{x:ao}{o:aj}{np cpos pos:aR}{P:Po}(ha:R9 X.K=af)(hx:x∈J0)(hn:W.nsIn X.K aw x=aa (aa o))(hb:X.mg x=aa o)(hK:X.K.In X.base)(hc:X.calm=af)
  (he:∀σ H,Rep X.K ρ σ H->Jv X e σ H λ_ H'=>j4 H H') (hP:P.ex x ρ) (hg:Gl X x) (hdb:(x==k74)=ae) (hs:ai [e] X.env=[(ae,aB e X.env)]):DS X ρ (.Raise (aa (.Call (.Name x np) [e] [] cpos)) ah pos) P:=by
 obtain⟨C,rfl,F⟩:=j7x ha hx hn;exact DS.raise (jax hK hb F.ok.exc) fO (by decide +kernel) fO hc he hP hg hdb hs
section
variable{X:Cx}{pins pins':k72}{σ:St}{H:Hp}{s:aq}{xe:k71}{e:ak}
noncomputable abbrev Cx.hnd(X:Cx)(e:ak):Cx:={ X with A:=X.A.mark (aa (.ref e)),calm:=ae,xe:=λ_ _=>False }
end
section
variable{X:Cx}{ρ:Rho}{i:Nat}{a:ak}{o:dm}{x y c c1 c2:ao}{p p1 p2 p3 p4 p5 pos:aR}{k:Bool}
end
structure KindsP(P:ay)(w:aD)(K:k70)(mg:k73)(base:aG)(f x:ao)(l:List D):Prop where
 ex:∃fa:ak,mg f=aa (.ref fa)/\W.keepIn K (.ref fa)=af/\∀(A:aF)(outer:List du)(s:aq)(H:Hp)(e:ak)(o:dm),A.depth+4<fg->A.units+150<bE->Env0 P w K mg base A outer s H->TabOk K H ->
  H e=aa (.frz o (.own e))->W.nsIn K aw x=aa (aa o.cls) ->
  cF (aA P w) A (.call (.ref fa) ⟨[.ref e],[]⟩) (CR CX0 outer P w H s (λv H'=>∃a xs,v=.ref a/\j4 H H'/\H a=ah/\H' a=aa (.lst xs)/\j5 K (del H' [a]) l xs) E0) s
 nl:qi l=af
abbrev Kinds(X:Cx)(f x:ao)(l:List D):Prop:=KindsP X.prog X.w X.K X.mg X.base f x l
section
variable{X:Cx}{ρ:Rho}{i j:Nat}{e:ak}{o:dm}{f x n k A:ao}{l:List D}{P:Po}{body:List aQ}{p p1 p2 p3 p4 p5 pos hpos:aR}
end
section
variable{X:Cx}{ρ:Rho}{i j:Nat}{f n k:ao}{P:Po}{body:List aQ}{p p1 p2 p3 p4 p5 pos hpos:aR}
end
section
variable{P:ay}{w:aD}{K:k70}{mg:k73}{base:aG}{f:ak}{g x pn:ao}{st:aQ}{fd:aM}{N:List ao}{l:List D}
end
section
variable{X:Cx}
def jjy:V->Option Int->Option Int->Hp->VK->Prop:=λx lo hi H Q=>∃z,x=.str z/\z.length<=ar/\Q (.str (c9 z lo hi)) H
theorem part_of{v:aj}{o:Option Int}(h:fj v o):∃l:Option (Int×dF),v=partValue l/\l.map (·.1)=o:=by
 cases h with
 |none=>exact⟨ah,rfl,rfl⟩
 |int i t=>exact⟨aa (i,t),rfl,rfl⟩
theorem jcx:SlR X jjy:=by intro pins s σ H x v vl vu lo hi sl Q I rx hs pl pu h;obtain⟨z,ex,hz,q⟩:=h;subst ex;obtain⟨t,ev⟩:=rx;subst ev;obtain⟨l,el,ml⟩:=part_of pl;obtain⟨u,eu,mu⟩:=part_of pu;subst el eu ml mu;obtain⟨o,h1,h2,h3⟩:=hs;refine⟨"str",_,PySem.F.slot_str_getitem.lookup,d9 s z t,wpAny_getItem_str_slice (l:=l) (u:=u) (st:=ah) ⟨o,h1,h2,h3⟩ rfl ?_⟩;exact post_val_or_str ⟨Xh (Txt.slice_le z _ _) hz,λt' k=>⟨.str _,H,I.tok k,⟨_,rfl⟩,q⟩⟩
theorem j05:∀{ts:List ao}{us:List aj},Vals (ts.map V.str) us->∃l:List (ao×dF),us=strValues l/\l.map (·.1)=ts
 |[],_,r=>by cases r;exact⟨[],rfl,rfl⟩
 |t::ts,_,r=>by
  cases r with
  |cons a b =>obtain⟨k,e⟩:=a;obtain⟨l,e1,e2⟩:=j05 b;subst e e1 e2;exact⟨(t,k)::l,rfl,rfl⟩
theorem jb3:MtR X "str.join" (λx vs H Q=>∃(sep:ao)(l:ak)(ts:List ao),x=.str sep/\vs=[.ref l]/\SqL X.K H l (ts.map V.str)/\cJ sep ts=af/\Q (.str (bZ sep ts)) H):=by rintro pins s σ H x vs v us Q I rx rv ⟨sep,l,ts,e,e',sq,hok,q⟩;subst e e';obtain⟨t,ev⟩:=rx;subst ev;obtain⟨u,eu,ru⟩:=rv.one;subst eu;cases ru;obtain⟨its,ri,pl,_⟩:=I.list sq;obtain⟨ps,e1,e2⟩:=j05 ri;subst e1 e2;unfold cJ at hok;rw[dH]at hok;exact bD ib (d9 _ _ _) F.entry_str_join (F.args_str_join_2 _ _) (meets_str_join_list sep t l ps hok) ⟨pl.isList,post_join ps ⟨joinFit_length hok,λt' k=>⟨.str _,H,I.tok k,⟨_,rfl⟩,q⟩⟩⟩
theorem j50 (hc:X.calm=af):Jh X (.builtin "sum") (λxs H Q=>∃(lst:Bool)(l:ak)(ns:List Int),xs=[.ref l]/\SqB X.K lst H l (ns.map V.int)/\Q (.int ns.sum) H):=by
 rintro pins s σ H xs us Q I r ⟨lst,l,ns,e,sq,q⟩;subst e;obtain⟨u,eu,ru⟩:=vals1 r;subst eu;cases ru;obtain⟨its,rv,pl,_⟩:=I.side sq;have hl:its.length=ns.length:=by rw[<-rv.length,xg]
 have val:∀i v,its.toArray[i]?=aa v->∃t,v=br (ns.getD i 0) t:=by
  intro i v hv;have hi:i<its.length:=by obtain⟨h,_⟩:=Array.getElem?_eq_some_iff.mp hv;simpa using h
  have hi':i<ns.length:=by omega
  obtain⟨w1,hw,rw1⟩:=rv.get (x:=.int (ns.getD i 0)) (i:=i) (by rw[X6,kh hi',xj,kh hi'];rfl);have:its.toArray[i]?=aa w1:=by simpa using hw
  rw[this]at hv;cases hv;exact rw1
 have tot:preSum (λi=>ns.getD i 0) its.toArray.size=ns.sum:=by rw[preSum_getD,cL (by rw[xu];omega)]
 have fin:∀(o:dm)(s':aq)(t':dF),Moved [s.heap.objs.size] (λa b=>b=a) { s with heap:=s.heap.push o } s'->EP X pins σ Q (.int (preSum (λi=>ns.getD i 0) its.toArray.size) t') s':=λo s' t' mv=>by obtain⟨hh,gg,dd,tt,oo⟩:=s';obtain⟨m1,m2,m3,m4,m5⟩:=mv;cases m2;cases m3;cases m4;rw[tot];refine⟨.int _,H,I.kept (t':=tt) λb o e=>m1 b o ?_ (kj _ e),⟨_,rfl⟩,q⟩;intro z;rw[X3.mp z]at e;exact pq _ (xq e)
 unfold jh at pl;cases lst with
 |true =>
  rw[if_pos rfl]at pl;have hlt:l<s.heap.objs.size:=by obtain⟨_,e,_⟩:=pl;exact xq e
  refine jX (cq pl ⟨s.heap.objs.size,[s.heap.objs.size,l],[s.heap.objs.size],_,its.toArray.size,_,_,λi=>ns.getD i 0,rfl,(Walks.list (A:=X.A.in1) (I.ok.hd hc) _ _ (X8 hlt) its.toArray).toS,⟨⟨_,xx _ rfl,rfl,rfl⟩,pl.push _⟩,?_,val,λs' t' mv=>fin _ s' t' mv⟩);intro b hb;show b<(s.heap.push _).objs.size;rw[Xf];rcases xn.mp hb with z|z
  .rw[z];exact Pz _
  .rw[X3.mp z];exact cO hlt
 |false =>
  rw[if_neg xf]at pl;have hlt:l<s.heap.objs.size:=by obtain⟨_,e,_⟩:=pl;exact xq e
  refine jX (fQ pl ⟨s.heap.objs.size,[s.heap.objs.size,l],[s.heap.objs.size],_,its.toArray.size,_,_,λi=>ns.getD i 0,rfl,(Walks.tuple (A:=X.A.in1) (I.ok.hd hc) _ _ (X8 hlt) its.toArray).toS,⟨⟨_,xx _ rfl,rfl,rfl⟩,pl.push _⟩,?_,val,λs' t' mv=>fin _ s' t' mv⟩);intro b hb;show b<(s.heap.push _).objs.size;rw[Xf];rcases xn.mp hb with z|z
  .rw[z];exact Pz _
  .rw[X3.mp z];exact cO hlt
end
section
variable{X:Cx}{ρ:Rho}{a b e:au}{ds:List D}{i j:Int}{pos p p1 p2:aR}{y z:ao}{lo hi:Option au}{l u:Option Int}
theorem Wi{K:k70}{H:Hp}:∀{ts:List ao}{xs:List V},j5 K H (ts.map D.str) xs->xs=ts.map V.str
 |[],_,h=>h
 |t::ts,_,⟨x,r,e,h,l⟩=>by subst e;cases(show x=.str t from h);rw[Wi l];rfl
theorem Q9{K:k70}{H:Hp}:∀{ts:List Int}{xs:List V},j5 K H (ts.map D.int) xs->xs=ts.map V.int
 |[],_,h=>h
 |t::ts,_,⟨x,r,e,h,l⟩=>by subst e;cases(show x=.int t from h);rw[Q9 l];rfl
theorem DE.lenS (ha:DT X ρ a (.str y)) (hy:y.length<=ar) (hm:X.mg "len" = ah) (hg:Gl X "len") (hs:ai [a] X.env=[(ae,aB a X.env)]):DE X ρ (.Call (.Name "len" p) [a] [] pos) (.int y.length):=λσ H Q R q =>(zc Ec hg hm cj (j9 peS jt hs) (by decide) (by decide) hs).to (ha σ H _ R λv H1 g1 e1=>⟨y,by rw[show v=.str y from e1],hy,q _ H1 g1 rfl⟩)
theorem DE.catS(ha:DT X ρ a (.str y))(hb:DT X ρ b (.str z))(hl:y.length+z.length<=ar):DE X ρ (.BinOp a .Add b pos) (.str (y++z)):=λσ H Q R q =>(Vf j1m peS peS).to (ha σ H _ R λv H1 g1 e1=>hb σ H1 _ (R.grow g1) λu H2 g2 e2=>⟨y,z,e1,e2,hl,q _ H2 (g1.trans g2) rfl⟩)
theorem DE.ixC{c:Nat}(ha:DT X ρ a (.str y))(hb:DT X ρ b (.int i))(hy:y.length<=ar)(h:L2.atI y.cps.toList i=aa c)(hs:Vn b):DE X ρ (.Subscript a b pos) (.str ⟨#[c]⟩):=λσ H Q R q =>(Wy jep peS peS hs).to (ha σ H _ R λv H1 g1 e1=>hb σ H1 _ (R.grow g1) λu H2 g2 e2=>⟨y,i,c,e1,e2,hy,h,q _ H2 (g1.trans g2) rfl⟩)
theorem DE.sliceS(ha:DT X ρ a (.str y))(hl:DP X ρ lo l)(hu:DP X ρ hi u)(hy:y.length<=ar):DE X ρ (.Subscript a (.Slice lo hi ah p2) pos) (.str (c9 y l u)):=λσ H Q R q =>(Mi jcx peS poS poS).to (ha σ H _ R λv H1 g1 e1=>hl σ H1 _ (R.grow g1) λH2 g2=>hu σ H2 _ (R.grow (g1.trans g2)) λH3 g3=>⟨y,e1,hy,q _ H3 (g1.trans (g2.trans g3)) rfl⟩)
theorem DE.int1 {k:Bool} (ha:DT X ρ a (.bl k)) (hm:X.mg "int" = ah) (hg:Gl X "int") (hs:ai [a] X.env=[(ae,aB a X.env)]):DE X ρ (.Call (.Name "int" p) [a] [] pos) (.int (if k then 1 else 0)):=λσ H Q R q =>(W9 j58 hg hm boot_int (j9 peS jt hs) (by decide) (by decide) hs).to (ha σ H _ R λv H1 g1 e1=>.inr ⟨k,by rw[show v=.bl k from e1],q _ H1 g1 rfl⟩)
theorem DE.sum (lst:Bool) {ns:List Int} (ha:DT X ρ a (D.seq lst (ns.map D.int))) (hm:X.mg "sum" = ah) (hc:X.calm=af) (hg:Gl X "sum") (hs:ai [a] X.env=[(ae,aB a X.env)]):DE X ρ (.Call (.Name "sum" p) [a] [] pos) (.int ns.sum):=λσ H Q R q =>
 (zc (j50 hc) hg hm boot_sum (j9 peS jt hs) (by decide) (by decide) hs).to (ha σ H _ R λv H1 g1 e1=>by
  obtain⟨t,xs,ev,sq,en⟩:=Ju e1
  subst ev
  rw[Q9 en]at sq
  exact⟨lst,t,ns,rfl,sq,q _ H1 g1 rfl⟩)
theorem DE.join{sep:ao}{ts:List ao}{n:Nat}{p0:aR}(ha:DT X ρ a (.lst (ts.map D.str)))(hok:cJ sep ts=af)
  (hfew:((aP p2 (ai [a] X.env)).all (λx=>!x.1)&&(bP p2 (b7 [] X.env)).all (λx=>x.1.isSome)&&decide (([a]:List au).length+([]:List b0).length+(if ([]:List b0).isEmpty then 0 else 1)<30))=af)
  (hbase:aU (.Constant (.str sep) n p0) "join" X.env (aB (.Constant (.str sep) n p0) X.env)=aB (.Constant (.str sep) n p0) X.env)
  (hline:(p1.endLine==p2.line)=af) (hs:ai [a] X.env=(ae,aB a X.env)::ai [] X.env):DE X ρ (.Call (.Attribute (.Constant (.str sep) n p0) "join" p1) [a] [] p2) (.str (bZ sep ts)):=λσ H Q R q =>
 (Y9 gh ib PySem.F.type_str_join jb3 W8 (j9 peS jt hs) hbase hfew hline hs rfl).to ⟨rfl,ha σ H _ R λv H1 g1 ⟨t,xs,e,sq,en⟩=>⟨sep,t,ts,rfl,by rw[e],by rw[Wi en]at sq;exact sq,hok,q _ H1 g1 rfl⟩⟩
end
section
variable{prog:ay}{w:aD}{A:aF}{lst:Bool}{j t:ak}{its:Array aj}
end
section
variable{X:Cx}{ρ:Rho}{a b:au}{es:List au}{n:Nat}{pos p q1 q2:aR}{ds ds':List D}{lst:Bool}
noncomputable def j24(ds:List D):List D:=ds.zipIdx.map λp=>D.tup [.int (p.2:Int),p.1]
end
section
variable{X:Cx}
theorem j6r:OpR X (bh .FloorDiv) (rI (λ_ j=>0<j/\j<18446744073709551616) λi j=>.int (i/j)):=opI λi j _ _ _ _ _ hc q=>by
 have e:i/j=i.fdiv j:=by rw[gp _ nofun]
 refine floordiv_int nofun (by rw[<-e];exact q) (.inl (PyProof.noPylong_of_log2 ?_))
 have h2:(2:Nat)^64=18446744073709551616:=by decide
 have:=(lh (n:=j.natAbs) (k:=64) nofun).mpr (by rw[h2];omega);omega
end
section
variable{X:Cx}{ρ:Rho}{a b e:au}{d d':D}{ds:List D}{i j:Int}{pos p p1 p2:aR}{P:Po}
theorem DE.fdivB(ha:DT X ρ a (.int i))(hb:DT X ρ b (.int j))(h:0<j/\j<18446744073709551616):DE X ρ (.BinOp a .FloorDiv b pos) (.int (i/j)):=DE.arI (g:=λi j=>i/j) j6r ha hb h
end
noncomputable def ddS(acc:List ao)(v:ao):List ao:=if acc.any (· == v)=af then acc else acc++[v]
noncomputable def dd(ts:List ao):List ao:=ts.foldl ddS []
theorem jc2(ts:List ao)(v:ao):dd (ts++[v])=ddS (dd ts) v:=by simp[dd]
theorem Im:∀(ts acc:List ao),(ts.foldl ddS acc).length<=acc.length+ts.length
 |[],acc=>by simp
 |v::ts,acc=>by
  have h:=Im ts (ddS acc v);have h2:(ddS acc v).length<=acc.length+1:=by unfold ddS;split<;>simp
  rw[T4,xr];omega
def Qd(P:ay)(w:aD)(h:aG)(S:ak)(ts:List ao):Prop:=h.SetOf (dE P w) S (λk=>(dd ts).any (· == k)) (dd ts).length
section
variable{P:ay}{w:aD}{A:aF}{I S:ak}{fp wr:List ak}{Gn:Array fk->Array fk->Prop}{Pv:Nat->aj->Prop}{St:Nat->aq->Prop}{ts:List ao}
theorem Qd.stay{h h':aG}(x:Qd P w h S ts)(k:∀o,h.get? S=aa o->h'.get? S=aa o):Qd P w h' S ts:=by obtain⟨o,es,ep,t,ho,r⟩:=x;exact⟨o,es,ep,t,k o ho,r⟩
theorem Qd.more{h:aG}{v:ao}(x:h.SetOf (dE P w) S (λk=>(dd ts).any (· == k) || decide (k=v)) (if (dd ts).any (· == v)=af then(dd ts).length else(dd ts).length+1)):Qd P w h S (ts++[v]):=by
 unfold Qd;rw[jc2];have e1:(λk=>(ddS (dd ts) v).any (· == k))=λk=>(dd ts).any (· == k) || decide (k=v):=by
  funext k
  unfold ddS;by_cases h1:(dd ts).any (· == v)=af
  .rw[if_pos h1];by_cases h2:k=v
   .subst h2;rw[h1];rfl
   .rw[decide_eq_false h2,gz]
  .rw[if_neg h1,List.any_append];congr 1;by_cases h2:k=v
   .subst h2;simp
   .have:¬v=k:=λz=>h2 z.symm;simp[h2,this]
 have e2:(ddS (dd ts) v).length=if (dd ts).any (· == v)=af then(dd ts).length else(dd ts).length+1:=by unfold ddS;split<;>simp
 rw[e1,e2];exact x
theorem fill{R:fi->aq->Prop}(W:WalksS P w A.in1 I fp wr Gn ts.length Pv St)(out:S∉fp)(hv:∀i v,Pv i v->∃x t,ts[i]?=aa x/\v=.str x t)(room:ts.length+1<gk):∀(r i:Nat)(q:aq),i+r=ts.length->St i q->Qd P w q.heap S (ts.take i) ->
  (∀q',Moved (S::wr) Gn q q'->Qd P w q'.heap S ts->R (.ok (.ret .none)) q')->cF (aA P w) A (.builtin "set.update.loop" ⟨[.ref S,.ref I],[]⟩) R q:=by
 have outw:S∉wr:=λz=>out (W.sub S z);have wider:∀b∈wr,b∈S::wr:=λb z=>km S z;intro r;induction r with
 |zero =>intro i q hi st fu fin;have e:i=ts.length:=hi;subst e;refine dt dM ?_;rw[cR bY _];refine ag (m:=dQ (.ref I)) (W.done q _ _ st λq' mv=>?_);refine av (fin q' (mv.mono wider) ?_);rw[cS]at fu;exact fu.stay λo z=>mv.heap S o outw z
 |succ r ih =>
  intro i q hi st fu fin;have lt:i<ts.length:=by omega
  refine dt dM ?_;rw[cR bY _];refine ag (m:=dQ (.ref I)) (W.item i q _ _ lt st λv q' pv st' mv=>?_);obtain⟨x,t,hx,ev⟩:=hv i v pv;subst ev;have fu':Qd P w q'.heap S (ts.take i):=fu.stay λo z=>mv.heap S o outw z;refine ag (m:=bN [b8 x t] (setAdd S (.str x t))) (bc ?_);unfold setAdd;refine bc (ag ((dE P w).pyHash (k:=x) (strKind_is P w x t) ?_));have small:(dd (ts.take i)).length+1<gk:=by
   have:=Im (ts.take i) [];have e:(dd (ts.take i)).length<=i:=by
    have:([]:List ao).length+(ts.take i).length<=i:=by rw[Xj,Pr];omega
    exact Xh (Im (ts.take i) []) this
   omega
  refine wpAny_setAddHashed_of (knd:=dE P w) (strKind_is P w x t) rfl fu' small λh' sb full2=>?_;have next:Qd P w h' S (ts.take (i+1)):=by rw[cM,hx];exact Qd.more full2
  refine av ⟨i8 bY _,ih (i+1) _ nofun (W.frame _ q' _ _ st' (Xv _) λb hb o e=>?_) next λq2 mv2 full3=>?_⟩
  .have ne:b≠S:=λz=>out (z▸hb);rw[sb.2 b ne];exact e
  .refine fin q2 (Moved.trans W.gtrans ((mv.mono wider).then_heap (Xv _) λb o hb e=>?_) mv2) full3;have ne:b≠S:=λz=>hb (by rw[z];exact xm ..);rw[sb.2 b ne];exact e
end
section
variable{P:ay}{w:aD}{A:aF}{E:k71}{s:aq}
noncomputable abbrev Jk(led:Bool):dm:={ cls:=.type "set",dict:=ah,data:=.set #[] 0 (.fresh 0 0 led) }
theorem j7q{led:Bool}{l:ak}{its:Array aj}{ts:List ao}{X:iL->aq->Prop}{Y:k71}(hh:A.handled=ah)(hl:s.heap.IsList l its)(hts:∀(i:Nat)(v:aj),its[i]?=aa v->∃x t,ts[i]?=aa x/\v=.str x t)(hn:its.size=ts.length)(room:ts.length+1<gk)
  (q:∀h' tk,Qd P w h' s.heap.objs.size ts->(∀b o,b<s.heap.objs.size->s.heap.get? b=aa o->h'.get? b=aa o)->X (.done (.ret .none)) { s with heap:=h',toks:=tk }) :
  ax (aA P w) A.in1 (c8.«set.__init__» ⟨[.ref s.heap.objs.size,.ref l],[]⟩) X Y { s with heap:=s.heap.push (Jk led) }:=by
 obtain⟨⟨oc,od,oda,os⟩,e1,e2,n,e3⟩:=hl;have e2:oc=.type "list":=e2;have e3:oda=.seq its n:=e3;subst e2 e3;have here:(s.heap.push (Jk led)).get? s.heap.objs.size=aa (Jk led):=xx _ rfl;have lst:(s.heap.push (Jk led)).get? l=aa { cls:=.type "list",dict:=od,data:=.seq its n,slots:=os }:=kj _ e1;have ne1:=PySem.F.sub_list_set;have ne2:=PySem.F.sub_list_frozenset;have ne3:(cQ "list" == cQ "dict")=ae:=by decide
 have isl:(s.heap.push (Jk led)).IsList l its:=⟨_,lst,rfl,n,rfl⟩
 unfold c8.«set.__init__» noKeywords Builtin.Frozenset.updateFrom;generalize keep:iJ=PI
 wp_walk
 subst keep;refine cq isl (ag (wpAny_runValue ?_));have lt:l<s.heap.objs.size:=xq e1;have sz:(s.heap.push (Jk led)).objs.size=s.heap.objs.size+1:=Xf ..;have walk:=(Walks.list (prog:=P) (w:=w) (A:=A.in1.in1) (by simp[hh]) (s.heap.push (Jk led)).objs.size l (by rw[sz];exact X8 (cO lt)) its).toS;rw[hn]at walk;refine fill (ts:=ts) (S:=s.heap.objs.size) walk (λz=>?_) hts room ts.length 0 { s with heap:=(s.heap.push (Jk led)).push { cls:=.type "list_iterator",data:=.fields #[.ref l,.int 0 0] } } nofun ⟨⟨_,xx _ rfl,rfl,rfl⟩,isl.push _⟩ ?_ λq' mv full=>?_
 .rw[sz]at z;rcases xn.mp z with z|z
  .exact X8 (Pz _) z
  .exact Pk lt (X3.mp z)
 .have z:Qd P w (s.heap.push (Jk led)) s.heap.objs.size []:=(setObjOf_fresh (knd:=dE P w) led).setOf here (by unfold gk;omega);exact z.stay λo e=>kj _ e
 .obtain⟨h',g',d',tk',os'⟩:=q';obtain⟨m1,m2,m3,m4,m5⟩:=mv;cases m2;cases m3;cases m4;refine av (av (q h' tk' full λb o hb e=>m1 b o ?_ (kj _ (kj _ e))));intro z;rw[sz]at z;rcases xn.mp z with z|z
  .exact X8 hb z
  .exact X8 (cO hb) (X3.mp z)
theorem j51{l:ak}{its:Array aj}{ts:List ao}{Q:k71}(hh:A.handled=ah)(hl:s.heap.IsList l its)(hts:∀(i:Nat)(v:aj),its[i]?=aa v->∃x t,ts[i]?=aa x/\v=.str x t)(hn:its.size=ts.length)(room:ts.length+1<gk)
  (q:∀h' tk,Qd P w h' s.heap.objs.size ts->(∀b o,b<s.heap.objs.size->s.heap.get? b=aa o->h'.get? b=aa o)->Q (.ref s.heap.objs.size) { s with heap:=h',toks:=tk }):ax (aA P w) A (call (.type "set") [.ref l]) Q E s:=by
 have cs:=PySem.F.called_set;obtain⟨c0,tl0,hm0⟩:=cs.mro;have m1:=cs.made;have m2:=cs.sub;have m3:=cs.notType;have m4:=cs.canCreate;have m5:=PySem.F.typeCall_set_1 (.ref l);refine fR (codeAny_of_tree (?_:ax _ _ (callAny (.type "set") _) _ _ _));refine av ⟨Code.quiet_builtin _ (by decide +kernel),dt PySem.F.entry_type_call ?_⟩;rw[Around.under_plain (weight_type_call_type "set" [.ref l] []) rfl]
 repeat (any_goals (first|assumption|wp_step))
 refine bO (PySem.code_set_new_1 (.ref l) (E:=E) (Q₁:=λo q1=>∃led:Bool,o=.ref s.heap.objs.size/\q1={ s with heap:=s.heap.push (Jk led) }) λled=>⟨led,rfl,rfl⟩) λr q1 hr=>?_;cases r with
 |error e=>exact hr
 |ok fl =>
  cases fl with
  |ret o =>
   obtain⟨led,eo,eq1⟩:=hr;subst eo eq1;have ty:Shared.TypeIs { s with heap:=s.heap.push (Jk led) } (.ref s.heap.objs.size) "set":=⟨_,xx _ rfl,rfl⟩
   have m6:=cs.init.lookup;have m7:=cs.init.bind (.ref s.heap.objs.size)
   repeat (any_goals (first|assumption|wp_step))
   refine bO (codeAny_call_builtin (R:=wants (λr q2=>r=.none/\∃h' tk,q2={ s with heap:=h',toks:=tk }/\Qd P w h' s.heap.objs.size ts/\∀b o,b<s.heap.objs.size->s.heap.get? b=aa o->h'.get? b=aa o) E) cs.init.plain PySem.F.entry_set_init (PySem.check_set_init_1 ty ?_)) λr2 q2 hr2=>?_
   .exact j7q (led:=led) (by simp[hh]) hl hts hn room λh' tk full old=>⟨rfl,h',tk,rfl,full,old⟩
   .cases r2 with
    |error e=>exact hr2
    |ok fl2 =>
     cases fl2 with
     |ret r3 =>
      obtain⟨e3,h',tk,e4,full,old⟩:=hr2;subst e3 e4
      repeat (any_goals (first|assumption|wp_step))
      exact q _ _ full old
     |_=>exact hr2.elim
  |_=>exact hr.elim
end
section
variable{X:Cx}{ρ:Rho}{a:au}{p p1 p2 pos:aR}
theorem DE.lenSet {ts:List ao} (ha:DT X ρ a (.lst (ts.map D.str))) (hc:X.calm=af) (room:ts.length+1<4096) (hm:X.mg "len" = ah) (hm2:X.mg "set" = ah) (hg:Gl X "len") (hg2:Gl X "set") (hs:ai [a] X.env=[(ae,aB a X.env)])
  (hs2:ai [.Call (.Name "set" p1) [a] [] p2] X.env=[(ae,aB (.Call (.Name "set" p1) [a] [] p2) X.env)]):DE X ρ (.Call (.Name "len" p) [.Call (.Name "set" p1) [a] [] p2] [] pos) (.int (dd ts).length):=λσ H Q R q pins s I=>by
 have inner:ax (aA X.prog X.w) X.A (aB (.Call (.Name "set" p1) [a] [] p2) X.env) (λu s2=>∃(S:ak)(H1:Hp),u=.ref S/\Inv X pins σ H1 s2/\j4 H H1/\Qd X.prog X.w s2.heap S ts) X.xe s:=by
  refine aV (Ja I hg2 hm2 boot_set ?_);refine callWith_type1 (thn ((j9 (es:=[]) peS jt hs).to (σ:=σ) (H:=H) (Q:=λvs H1=>∃(l:ak)(xs:List V),vs=[.ref l]/\j4 H H1/\SqL X.K H1 l xs/\j5 X.K H1 (ts.map D.str) xs) (ha σ H _ R λv H1 g ⟨l,xs,e,sq,en⟩=>⟨l,xs,by rw[e],g,sq,en⟩) p2 pins s I) λus s1 ⟨vs,H1,I1,r,l,xs,ev,g,sq,en⟩=>?_) hs rfl;subst ev;obtain⟨u,eu,r1⟩:=vals1 r;subst eu;cases(show u=aH l from r1);obtain⟨its,rv,pl,_⟩:=I1.list sq;rw[Wi en]at rv;have hlen:its.toArray.size=ts.length:=by rw[xu,<-rv.length,xg]
  refine j51 (ts:=ts) (I1.ok.hd hc) pl.isList (λi v hv=>?_) hlen (by show ts.length+1<4096;exact room) λh' tk full old=>?_
  .have hi:i<ts.length:=by have:=(Array.getElem?_eq_some_iff.mp hv).1;omega
   obtain⟨w1,hw,t,ew⟩:=rv.get (x:=.str ts[i]) (i:=i) (by rw[X6,kh hi];rfl);have:its.toArray[i]?=aa w1:=by simpa using hw
   rw[this]at hv;cases hv;exact⟨ts[i],t,kh hi,ew⟩
  .exact⟨_,H1,rfl,I1.kept (t':=tk) λb o e=>old b o (xq e) e,g,full⟩
 refine aV (Ja I hg hm cj ?_);refine dY (by rw[hs2];rfl) (cV ?_);show ax _ _ (g4 ((ae,aB _ X.env)::aP pos [])) _ _ s;refine cE (thn inner λu s2 h2=>dB ?_);obtain⟨S,H1,rfl,I2,g,⟨o,es,ep,t,ho,hex,hd,hel,hmem,hb,hf,hn⟩⟩:=h2;refine call_len_set ho hex hd hf ?_ ?_
 .have:es.size<4096:=hb;omega
 .rw[hn];exact⟨.int _,H1,I2.tok _,⟨_,rfl⟩,q _ H1 g rfl⟩
end
section
variable{prog:ay}{w:aD}{A:aF}{E:k71}{s:aq}{d it vw:ak}{od:dm}{es:Array ky}{ep i:Nat}{ok ov:aj}
end
noncomputable def jet(ks:List (List Int))(ds:List D):List D:=(ks.zip ds).map λp=>D.tup [.tup (p.1.map D.int),p.2]
section
variable{X:Cx}{ρ:Rho}{a b:au}{es:List au}{n:Nat}{pos p p1 p2 q1:aR}{ks:List (List Int)}{ds:List D}{k:List Int}
theorem any_range:∀bs:List Bool,(aK bs.length).any (λi=>(bs[i]?).getD af)=bs.any id
 |[]=>rfl
 |b::bs=>by rw[xr,eE,cD,List.any_map,cD,<-any_range bs];rfl
theorem Et (hc:X.calm=af):Jh X (.builtin "any") (λxs H Q=>∃(l:ak)(bs:List Bool),xs=[.ref l]/\SqL X.K H l (bs.map V.bl)/\Q (.bl (bs.any id)) H):=by
 intro pins s σ H xs us Q I r ⟨l,bs,e,sq,q⟩;subst e;obtain⟨u,eu,ru⟩:=vals1 r;subst eu;cases ru;obtain⟨its,rv,pl,_⟩:=I.list sq;have hlt:l<s.heap.objs.size:=by obtain⟨_,_,e,_⟩:=pl;exact xq e
 have hl:its.length=bs.length:=by rw[<-rv.length,xg]
 refine call_any_walk (cq pl.isList ⟨s.heap.objs.size,[s.heap.objs.size,l],[s.heap.objs.size],its.toArray.size,_,_,λi=>(bs[i]?).getD af,rfl,Walks.list (A:=X.A.in1) (I.ok.hd hc) _ _ (X8 hlt) its.toArray,⟨⟨_,xx _ rfl,rfl,rfl⟩,pl.isList.push _⟩,?_,λh' tk kp=>?_⟩)
 .intro i v s' Q' E' hv hq;have hi:i<its.length:=by have:=Array.getElem?_eq_some_iff.mp hv;obtain⟨h,_⟩:=this;simpa using h
  have hb:i<bs.length:=by omega
  obtain⟨w1,hw,rw1⟩:=rv.get (x:=.bl bs[i]) (i:=i) (by rw[X6,kh hb];rfl);have:its.toArray[i]?=aa w1:=by simpa using hw
  rw[this]at hv;cases hv;cases rw1;simp only[kh hb,dN]at hq;exact bq hq
 .have ev:(aK its.toArray.size).any (λi=>(bs[i]?).getD af)=bs.any id:=by rw[xu,hl];exact any_range bs
  rw[ev];refine⟨.bl _,H,I.kept (t':=tk) λb o e=>kp b o ?_ (kj _ e),rfl,q⟩;intro z;rw[X3.mp z]at e;exact pq _ (xq e)
theorem DE.any {bs:List Bool} (ha:DT X ρ a (.lst (bs.map D.bl))) (hm:X.mg "any" = ah) (hc:X.calm=af) (hg:Gl X "any") (hs:ai [a] X.env=[(ae,aB a X.env)]):DE X ρ (.Call (.Name "any" p) [a] [] pos) (.bl (bs.any id)):=λσ H Q R q =>(zc (Et hc) hg hm boot_any (j9 peS jt hs) (by decide) (by decide) hs).to (ha σ H _ R λv H1 g1 ⟨l,xs,e,sq,en⟩=>⟨l,bs,by rw[e],by rw[Mp en]at sq;exact sq,q _ H1 g1 rfl⟩)
end
section
variable{X:Cx}{pos pos':aR}{o i value:au}{td ty tv:TE}
theorem Inv.bigD{pins:k72}{σ:St}{H:Hp}{s:aq}(I:Inv X pins σ H s):fU<s.heap.objs.size:=by have h:aw<s.heap.objs.size:=(I.mod.glob.keeps I.bk).lt;exact Xu (by decide) h
end
section
variable{X:Cx}{ρ:Rho}{it e:au}{P:Po}{ds:List D}{x t y:Nat}{nx nt ny:ao}{n8:Nat}{p1 p2 p3 p4 p5 p6 p7 p8 p9 p10 p11 p12 p13 p14 p15 p16 p17 p18:aR}
end
noncomputable def j9g:List (List Int)->List D->List Int->Option D
 |k'::ks,d::ds,k=>if k'=k then aa d else j9g ks ds k
 |_,_,_=>ah
section
variable{X:Cx}{ρ:Rho}{a b:au}{d:D}{ds:List D}{ks:List (List Int)}{k:List Int}{pos p p1 p2 p3:aR}
end
section
variable{prog:ay}{w:aD}{A:aF}{E:k71}{s:aq}{d it vw:ak}{od:dm}{es:Array ky}{ep i:Nat}
end
section
variable{prog:ay}{w:aD}{A:aF}{E:k71}{s:aq}{T:String}{r d:ak}{n:Nat}{P:Nat->aj->Prop}{OK:aG->Prop}
end
section
variable{X:Cx}{ρ:Rho}{a:au}{ds:List D}{ks:List (List Int)}{pos p p1 p2:aR}
end
section
variable{X:Cx}{ρ:Rho}{it e1 e2:au}{P:Po}{ds:List D}{x t y:Nat}{nx nt ny:ao}{p1 p2 p3 p4 p5 p6 p10 p11 p12 p14 p16 p17 p18:aR}
end
section
variable{X:Cx}{ρ:Rho}{a e:au}{l:List D}{d:D}{p1 pos:aR}
noncomputable def ixD(d:D):List D->Option Nat
 |[]=>ah
 |x::r=>if deq x d=af then aa 0 else(ixD d r).map (· + 1)
end
section
variable{X:Cx}{pins:k72}{σ:St}{H:Hp}{l q S I:ak}{xs:List V}{R:fi->aq->Prop}
end
section
variable{X:Cx}{ρ:Rho}{σ:St}{H:Hp}{q:ak}{f:ao}{l:List D}{xs:List V}{kf:Nat->Int}{a:au}{d:D}{p p1 pk pos:aR}
end
section
variable{X:Cx}{pins:k72}{σ:St}{H:Hp}{l S I:ak}{xs:List V}{R:fi->aq->Prop}
end
noncomputable def jhu(l:List (List Int))(i j:Nat):Bool:=HT.lexLt (l.getD i []) (l.getD j [])
section
variable{X:Cx}{ρ:Rho}{a:au}{l:List (List Int)}{k:List Int}{p pos:aR}
end
section
variable{X:Cx}{ρ:Rho}{it e2:au}{P:Po}{ds:List D}{x t:Nat}{nx nt:ao}{p1 p2 p3 p4 p10 p11 p12 p14 p16 p17 p18:aR}
end
noncomputable def jk5(p q:Int×List Int):Bool:=if p.1=q.1 then HT.lexLt p.2 q.2 else decide (p.1<q.1)
noncomputable def jk4(l:List (Int×List Int))(i j:Nat):Bool:=jk5 (l.getD i (0,[])) (l.getD j (0,[]))
noncomputable def pairD(p:Int×List Int):D:=.tup [.int p.1,.tup (p.2.map D.int)]
section
open PySem.SeqAt
open PySem.AutoSeq1 (wpAny_loadPart')
open PySem.MeetsSeq PySem.MeetsSeq2 PySem.MeetsSeq3
end
section
variable{X:Cx}{ρ:Rho}{a:au}{l:List (Int×List Int)}{k:Int×List Int}{p pos:aR}
end
section
variable{X:Cx}{ρ:Rho}{a:au}{p p1 p2 pos:aR}
end
noncomputable def Z5(kvs:List (ao×Int))(k:ao):Option Int:=(kvs.find? λp=>decide (p.1=k)).map λp=>p.2
noncomputable def Nb(kvs:List (ao×Int))(k:ao):Bool:=kvs.any λp=>decide (p.1=k)
noncomputable def dput(kvs:List (ao×Int))(k:ao)(n:Int):List (ao×Int):=if Nb kvs k=af then kvs.map λp=>if p.1=k then(p.1,n)else p else kvs++[(k,n)]
theorem Yw{p:ao×Int}{kvs:List (ao×Int)}{vs:List (Key×aj)}(r:KV (kvI (p::kvs)) vs):∃t qs,vs=(.inr p.1,.int p.2 t)::qs/\KV (kvI kvs) qs:=by
 have r':KV ((.inr p.1,.int p.2)::kvI kvs) vs:=r;unfold KV at r';cases r' with
 |@cons _ q _ qs h t =>
  obtain⟨h1,h2⟩:=h;obtain⟨q1,q2⟩:=q;obtain⟨tk,e⟩:=(show ∃t,q2=br p.2 t from h2)
  have h1:bQ p.1=q1:=h1;subst h1 e;exact⟨tk,qs,rfl,t⟩
theorem Kh:∀{kvs:List (ao×Int)} {vs:List (Key×aj)},KV (kvI kvs) vs->vs.length=kvs.length
 |[],vs,r=>by have r':KV ([]:List (Key×V)) vs:=r;unfold KV at r';cases r';rfl
 |p::kvs,vs,r=>by obtain⟨t,qs,e,r'⟩:=Yw r;subst e;rw[xr,xr,Kh r']
theorem Kg{vs:List (Key×aj)}(r:KV (kvI []) vs):vs=[]:=by have:=Kh r;exact List.length_eq_zero_iff.mp this
theorem j41{k:ao}{n:Int}:∀{kvs:List (ao×Int)} {vs:List (Key×aj)},KV (kvI kvs) vs->Z5 kvs k=aa n->∃t,valueAt vs (.inr k)=aa (.int n t)
 |[],_,_,h=>by cases h
 |p::kvs,vs,r,h=>by
  obtain⟨t,qs,e,r'⟩:=Yw r;subst e;unfold Z5 at h;rw[d7]at h;by_cases z:p.1=k
  .rw[decide_eq_true z]at h;cases h;exact⟨t,by simp[valueAt,d7,z]⟩
  .rw[decide_eq_false z]at h;obtain⟨t',e'⟩:=j41 (kvs:=kvs) r' h;refine⟨t',?_⟩;rw[<-e'];have z':¬((bQ p.1:Key)=bQ k):=λy=>z (ft y);simp[valueAt,d7,z']
theorem j42{k:ao}:∀{kvs:List (ao×Int)} {vs:List (Key×aj)},KV (kvI kvs) vs->(vs.any λkv=>decide (kv.1=(bQ k:Key)))=Nb kvs k
 |[],_,r=>by rw[Kg r];rfl
 |p::kvs,vs,r=>by
  obtain⟨t,qs,e,r'⟩:=Yw r;subst e;have ih:=j42 (k:=k) r';unfold Nb at ih ⊢;rw[cD,cD,ih];congr 1;by_cases z:p.1=k
  .simp[z]
  .have z':¬((bQ p.1:Key)=bQ k):=λy=>z (ft y);rw[decide_eq_false z,decide_eq_false z']
theorem j0c{k:ao}{n:Int}{u:aj}(ru:RelV (.int n) u):∀{kvs:List (ao×Int)} {vs:List (Key×aj)},KV (kvI kvs) vs ->
  KV (kvI (kvs.map λp=>if p.1=k then(p.1,n)else p)) (vs.map λkv=>if kv.1=(bQ k:Key) then(kv.1,u)else kv)
 |[],_,r=>by rw[Kg r];exact Paired.nil
 |p::kvs,vs,r=>by
  obtain⟨t,qs,e,r'⟩:=Yw r;subst e;have ih:=j0c (k:=k) ru r';by_cases z:p.1=k
  .have z':(bQ p.1:Key)=bQ k:=congrArg _ z;rw[X4,X4,if_pos z,if_pos z'];exact Paired.cons ⟨rfl,ru⟩ ih
  .have z':¬((bQ p.1:Key)=bQ k):=λy=>z (ft y);rw[X4,X4,if_neg z,if_neg z'];exact Paired.cons ⟨rfl,t,rfl⟩ ih
theorem j0b{p:ao×Int}{u:aj}(ru:RelV (.int p.2) u):∀{kvs:List (ao×Int)} {vs:List (Key×aj)},KV (kvI kvs) vs->KV (kvI (kvs++[p])) (vs++[(.inr p.1,u)])
 |[],_,r=>by rw[Kg r];exact Paired.cons ⟨rfl,ru⟩ Paired.nil
 |q::kvs,vs,r=>by obtain⟨t,qs,e,r'⟩:=Yw r;subst e;exact Paired.cons ⟨rfl,t,rfl⟩ (j0b ru r')
theorem jek{k:ao}{n:Int}{u:aj}{kvs:List (ao×Int)}{vs:List (Key×aj)}(r:KV (kvI kvs) vs)(ru:RelV (.int n) u):KV (kvI (dput kvs k n)) (stored vs (.inr k) u):=by
 unfold dput stored;rw[j42 r];by_cases z:Nb kvs k=af
 .rw[if_pos z,if_pos z];exact j0c ru r
 .rw[if_neg z,if_neg z];exact j0b (p:=(k,n)) ru r
section
variable{X:Cx}{ρ:Rho}{a b e k:au}{rest:List aQ}{P:Po}{kvs:List (ao×Int)}{z:ao}{n:Int}{i j:Nat}{nx ny:ao}{pos pos' p p1 p2 p3 p4 p5 p6 p7 p8:aR}{td ty tv:TE}{o value:au}
theorem j9f{pins:k72}{σ:St}{H:Hp}{s:aq}{d:ak}(I:Inv X pins σ H s)(hx:H d=aa (.dK (kvI kvs))):kvs.length<=ar/\(d==fU)=ae/\∃vs,KV (kvI kvs) vs/\s.heap.DictOf (Yu X.prog X.w) d vs:=by
 obtain⟨z1,z2,z3⟩:=(show jm X.prog X.w H s.heap d (.dK (kvI kvs))from I.hok _ _ hx)
 exact⟨by simpa [kvI]using z1,z2,z3⟩
theorem ji6:IxR X (λx y H Q=>∃(d:ak)(kvs:List (ao×Int)) (k:ao) (n:Int),x=.ref d/\y=.str k/\H d=aa (.dK (kvI kvs))/\Z5 kvs k=aa n/\Q (.int n) H):=by intro value slice pins s σ H x y v u Q I rx ry h hs;obtain⟨d,kvs,k,n,rfl,rfl,hx,hv,q⟩:=h;cases rx;obtain⟨t,rfl⟩:=ry;obtain⟨hz,hd,vs,rel,dd⟩:=j9f I hx;obtain⟨t',hw⟩:=j41 rel hv;exact lK dd.typeIs slot_dict_getitem.lookup (wpAny_getItem_of (Rw X.prog X.w k t) dd.mapOf hw ⟨.int n,H,I.tok _,⟨_,rfl⟩,q⟩) hs
theorem DE.dix(ha:DT X ρ a (.sct kvs))(hb:DT X ρ b (.str z))(h:Z5 kvs z=aa n)(hs:Vn b):DE X ρ (.Subscript a b pos) (.int n):=λσ H Q R q =>(Wy ji6 peS peS hs).to (ha σ H _ R λv H1 g1 ⟨d,e,hx⟩=>hb σ H1 _ (R.grow g1) λu H2 g2 e2=>⟨d,kvs,z,n,e,e2,g2 _ _ hx,h,q _ H2 (g1.trans g2) rfl⟩)
end
theorem Dp:jL (.type "zip") "__getattr__" = pure ah:=by rw[kX,iS];kernel_rfl
theorem j0y:jL (.type "zip") "keys" = pure ah:=by rw[kX,iS];kernel_rfl
theorem Eh:entryFor table "zip.__getattribute__" = aa c8.«object.__getattribute__» :=
 entryFor_alias (id':="object.__getattribute__") (by kernel_rfl) (by decide +kernel) (by decide +kernel) (by kernel_rfl)
theorem j9w(a:ak)(fs:Array aj)(u:dF) :
  lJ (c8.«object.__getattribute__» ⟨[.ref a,.str "keys" u],[]⟩) (λA R s=>s.heap.get? a=aa { cls:=.type "zip",dict:=ah,data:=.fields fs,slots:=#[] }/\raisesAttr (.ref a) "keys" A R s) :=
 Meets.of_wp λprog w A R s hs=>by
  obtain⟨hp,g,d,tk,os⟩:=s;obtain⟨hx,hs⟩:=hs;have hT:(⟨hp,g,d,tk,os⟩:aq).TypeIs (.ref a) "zip":=⟨_,hx,rfl⟩
  have hmiss:=j0y;have hname:(["__module__","__name__","__qualname__","__doc__","__annotations__"]:List ao).contains ("keys":ao)=ae:=by decide
  unfold c8.«object.__getattribute__»
  repeat (any_goals (first|assumption|wp_step))
  try simp only[hname,Xq,if_false]
  repeat (any_goals (first|assumption|wp_step))
  exact wpAny_raiseAttrError hs.1 hs.2 (attrMsg_fits (by decide +kernel) (by size_fits))
section
variable{prog:ay}{w:aD}{A:aF}{E:k71}{s:aq}
theorem j9x{a:ak}{fs:Array aj}{Q:Option aj->aq->Prop}(hx:s.heap.get? a=aa { cls:=.type "zip",dict:=ah,data:=.fields fs,slots:=#[] })(hA:A.handled=ah)
  (h:∀h' tk,(∀b o,s.heap.get? b=aa o->h'.get? b=aa o)->Q ah { s with heap:=h',toks:=tk }):ax (aA prog w) A (getAttr? (.ref a) "keys") Q E s:=by
 obtain⟨hp,g,d,tk,os⟩:=s;have hT:∀tk',(⟨hp,g,d,tk',os⟩:aq).TypeIs (.ref a) "zip":=λ_=>⟨_,hx,rfl⟩
 have f1:=sub_AttributeError;have f3:=F.slot_zip_getattribute.lookup;have f4:=F.slot_zip_getattribute.bind (.ref a);have f5:=Dp;unfold getAttr? getAttrBy? getAttrBy
 repeat (any_goals (first|assumption|exact hT _|((with_reducible show ax _ _ (call (Value.builtin "zip.__getattribute__") _ _) _ _ _);refine bD F.slot_zip_getattribute (hT _) Eh (F.args_zip_getattribute_2 _ _) (j9w a fs _) ⟨hx,hA,λh' tk' e hx'=>?_⟩)|wp_step))
 obtain⟨t',u',he⟩:=hx'.there;show ax _ _ (jN _ _ _ _ _ _ _) _ _ _;unfold jN
 repeat (any_goals (first|assumption|wp_step))
 all_goals exact h _ _ hx'.keeps
end
abbrev Y4(h:aG)(z TI TO p:ak)(f:Bool):Prop:=h.get? z=aa { cls:=.type "zip",dict:=ah,data:=.fields #[fV p,.bool f,.bool ae,.ref TI,.ref TO],slots:=#[] }
section
variable{prog:ay}{w:aD}{A:aF}{E:k71}{s:aq}{l1 l2:Bool}{z TI TO i1 i2 t1 t2 p:ak}{f:Bool}{op:dm}{k:Nat}{us vs:Array aj}{x y a b:aj}
theorem Nr{Q:Bool->aq->Prop}(hz:Y4 s.heap z TI TO p f)(hp:s.heap.get? p=aa op)(q:∀h',Y4 h' z TI TO p af->cK z s.heap h'->Q ae { s with heap:=h' }) :
  ax (aA prog w) A (aJ (.ref z)) Q E s:=by
 unfold aJ;refine ag (aS hz rfl (x:=fV p) rfl ?_);show ax _ _ (loadIfAlive ((p:Int).toNat) >>= _) _ _ _;rw[Xo];refine ag (W.kdx_alive hp ?_);simp only[Option.isNone_some,Xq,if_false];refine ag (aS hz rfl (x:=.bool f) rfl ?_);cases f with
 |true =>rw[if_neg (show ¬((bo af != bo af)=af)from xf)];exact av (q _ hz (Heap.SameBut.refl _ _))
 |false =>rw[if_pos (show(bo ae != bo af)=af from rfl)];exact ag (bC hz (by simp) λg zg sg=>av (q g zg sg))
theorem j2n{Q:k71}(D:di z TI TO i1 i2 t1 t2)(hz:Y4 s.heap z TI TO p f)(hp:s.heap.get? p=aa op)(hTI:bu s.heap TI (.ref i1) (.ref i2))
  (h1:jg l1 s.heap i1 t1 k) (h2:jg l2 s.heap i2 t2 k) (q1:jh l1 s.heap t1 us) (q2:jh l2 s.heap t2 vs) (hx:us[k]?=aa x) (hy:vs[k]?=aa y)
  (q:∀h',Y4 h' z TI TO p af->jg l1 h' i1 t1 (k+1)->jg l2 h' i2 t2 (k+1)->bu h' s.heap.objs.size x y->h'.objs.size=s.heap.objs.size+1 ->
   (∀c o,c≠z->c≠i1->c≠i2->s.heap.get? c=aa o->h'.get? c=aa o)->Q (.ref s.heap.objs.size) { s with heap:=h' }) :
  ax (aA prog w) A (c8.«zip.__next__» ⟨[.ref z],[]⟩) (λfin s'=>∃v,fin=.done (.ret v)/\Q v s') E s:=by
 show ax _ _ (fK (.ref z) 2 >>= _) _ _ _;refine ag (aS hz rfl (x:=.bool ae) rfl ?_);show ax _ _ (fK (.ref z) 3 >>= _) _ _ _;refine ag (aS hz rfl (x:=.ref TI) rfl (ag (be hTI rfl ?_)));show ax _ _ (aJ (.ref z) >>= _) _ _ _;refine ag (Nr hz hp λg₁ z₁ s₁=>?_);simp only[Xq,if_false];refine ag ?_;simp only[iz,d6,eV];refine ag (ag (bc ?_));show ax _ _ (aE (.ref i1) >>= _) _ _ _;refine ag (Zz (h1.ext s₁.extBut D.i1z) (q1.ext s₁.extBut D.l1z) hx λg₂ h1₂ s₂=>av ?_);refine av (ag (ag (bc ?_)));show ax _ _ (aE (.ref i2) >>= _) _ _ _;refine ag (Zz ((h2.ext s₁.extBut D.i2z).ext s₂.extBut D.i12.symm) ((q2.ext s₁.extBut D.l2z).ext s₂.extBut D.l2i1) hy λg₃ h2₃ s₃=>av ?_);refine av (av ?_);refine ag (lD (hsz:=by show(2:Nat)<=ar;decide) (av ⟨_,rfl,?_⟩));have sz:g₃.objs.size=s.heap.objs.size:=by rw[s₃.1,s₂.1,s₁.1]
 have z₃:Y4 g₃ z TI TO p af:=s₃.extBut _ _ D.i2z.symm (s₂.extBut _ _ D.i1z.symm z₁);have up:∀c o,g₃.get? c=aa o->(g₃.push { cls:=.type "tuple",data:=.seq #[x,y] }).get? c=aa o:=λc o e=>kj _ e;have h1₃:jg l1 g₃ i1 t1 (k+1):=h1₂.ext s₃.extBut D.i12;have pr:bu (g₃.push { cls:=.type "tuple",data:=.seq #[x,y] }) s.heap.objs.size x y:=by rw[<-sz];exact xx _ rfl
 have szp:(g₃.push { cls:=.type "tuple",data:=.seq #[x,y] }).objs.size=s.heap.objs.size+1:=by rw[Xf,sz]
 show Q (.ref g₃.objs.size) _;rw[sz];exact q _ (up _ _ z₃) (h1₃.stay λo e=>up _ o e) (h2₃.stay λo e=>up _ o e) pr szp λc o n1 n2 n3 e=>up _ _ (s₃.extBut _ _ n3 (s₂.extBut _ _ n2 (s₁.extBut _ _ n1 e)))
theorem j5g{Q:iL->aq->Prop}(hh:A.handled=ah)(D:di z TI TO i1 i2 t1 t2)(hz:Y4 s.heap z TI TO p f)(hp:s.heap.get? p=aa op)(hTI:bu s.heap TI (.ref i1) (.ref i2))
  (h1:jg l1 s.heap i1 t1 k) (q1:jh l1 s.heap t1 us) (hx:us[k]?=ah)
  (q:∀h' e,(∀c o,c≠z->c≠i1->c≠i2->s.heap.get? c=aa o->h'.get? c=aa o)->(∃o,h'.get? e=aa o/\o.cls=.type "StopIteration")->E (.ref e) { s with heap:=h' }) :
  ax (aA prog w) A (c8.«zip.__next__» ⟨[.ref z],[]⟩) Q E s:=by
 show ax _ _ (fK (.ref z) 2 >>= _) _ _ _;refine ag (aS hz rfl (x:=.bool ae) rfl ?_);show ax _ _ (fK (.ref z) 3 >>= _) _ _ _;refine ag (aS hz rfl (x:=.ref TI) rfl (ag (be hTI rfl ?_)));show ax _ _ (aJ (.ref z) >>= _) _ _ _;refine ag (Nr hz hp λg₁ z₁ s₁=>?_);simp only[Xq,if_false];refine ag ?_;simp only[iz,d6,eV];refine ag (ag (bc ?_));show ax _ _ (aE (.ref i1) >>= _) _ _ _;exact ag (M8 hh (h1.ext s₁.extBut D.i1z) (q1.ext s₁.extBut D.l1z) hx λg₂ e s₂ he=>q g₂ e (λc o n1 n2 _ z=>s₂ _ _ n2 (s₁.extBut _ _ n1 z)) he)
def ZS(z TI TO i1 i2 t1 t2:ak)(l1 l2:Bool)(k:Nat)(h:aG):Prop :=
 (eC h z TI TO .none/\(∃a b,bu h TO a b)\/∃(p:ak)(f:Bool)(op:dm),Y4 h z TI TO p f/\h.get? p=aa op/\p≠z/\p≠TO/\p≠i1/\p≠i2)/\bu h TI (.ref i1) (.ref i2)/\jg l1 h i1 t1 k/\jg l2 h i2 t2 k
theorem j9r{Q:Option aj->aq->Prop}(D:di z TI TO i1 i2 t1 t2)(S:ZS z TI TO i1 i2 t1 t2 l1 l2 k s.heap)(q1:jh l1 s.heap t1 us)(q2:jh l2 s.heap t2 vs)(hx:us[k]?=aa x)(hy:vs[k]?=aa y)
  (q:∀h',ZS z TI TO i1 i2 t1 t2 l1 l2 (k+1) h'->bu h' s.heap.objs.size x y->(∀c o,c∉[z,TO,i1,i2]->s.heap.get? c=aa o->h'.get? c=aa o)->Q (aa (.ref s.heap.objs.size)) { s with heap:=h' }):ax (aA prog w) A (dQ (.ref z)) Q E s:=by
 obtain⟨S,S1,S2,S3⟩:=S;have nz:∀{c o},s.heap.get? c=aa o->s.heap.objs.size≠c:=λe=>Pk (xq e);obtain⟨o1,g1,_⟩:=S2.obj;obtain⟨o2,g2,_⟩:=S3.obj;rcases S with ⟨hz,a,b,hTO⟩|⟨p,f,op,hz,hp,np1,np2,np3,np4⟩
 .refine Wa D hz S1 hTO S2 S3 q1 q2 hx hy λh' a1 a2 a3 a4 a5 a6 a7=>q h' ⟨.inr ⟨s.heap.objs.size,ae,_,a1,a5,nz hz,nz hTO,nz g1,nz g2⟩,a7 _ _ D.TIz D.TITO D.TIi1 D.TIi2 S1,a3,a4⟩ a5 λc o nc e=>?_;simp at nc;exact a7 c o nc.1 nc.2.1 nc.2.2.1 nc.2.2.2 e
 .have T:s.TypeIs (.ref z) "zip":=⟨_,hz,rfl⟩
  unfold dQ;refine ag (fJ (bb (name:=cw "__next__") T Pu (bV Pu T eJ
   (j2n D hz hp S1 S2 S3 q1 q2 hx hy λh' a1 a3 a4 a5 a6 a7=>av (q h' ⟨.inr ⟨p,af,op,a1,a7 _ _ np1 np3 np4 hp,np1,np2,np3,np4⟩,a7 _ _ D.TIz D.TIi1 D.TIi2 S1,a3,a4⟩ a5 λc o nc e=>?_)) (dU _))))
  simp at nc;exact a7 c o nc.1 nc.2.2.1 nc.2.2.2 e
theorem jcg{Q:Option aj->aq->Prop}(hh:A.handled=ah)(D:di z TI TO i1 i2 t1 t2)(S:ZS z TI TO i1 i2 t1 t2 l1 l2 k s.heap)(q1:jh l1 s.heap t1 us)(q2:jh l2 s.heap t2 vs)(hx:us[k]?=ah)
  (q:∀h',(∀c o,c∉[z,TO,i1,i2]->s.heap.get? c=aa o->h'.get? c=aa o)->Q ah { s with heap:=h' }):ax (aA prog w) A (dQ (.ref z)) Q E s:=by
 obtain⟨S,S1,S2,S3⟩:=S;rcases S with ⟨hz,a,b,hTO⟩|⟨p,f,op,hz,hp,np1,np2,np3,np4⟩
 .refine Rv hh D hz S1 hTO S2 S3 q1 q2 (.inl hx) λh' kp=>q h' λc o nc e=>?_;simp at nc;exact kp c o nc.1 nc.2.1 nc.2.2.1 nc.2.2.2 e
 .have T:s.TypeIs (.ref z) "zip":=⟨_,hz,rfl⟩
  unfold dQ;refine ag (fJ (bb (name:=cw "__next__") T Pu (bV Pu T eJ
   (j5g hh D hz hp S1 S2 q1 hx λh' e kp he=>?_) (dU _))))
  obtain⟨o,ho,hc⟩:=he;refine ag (kr (T:="StopIteration") (b:=af) ⟨o,ho,hc⟩ lF (av (q _ λc o nc e=>?_)));simp at nc;exact kp c o nc.1 nc.2.2.1 nc.2.2.2 e
end
theorem Jg:plainId "dict.update.loop" = af:=by decide +kernel
theorem Vc:entryFor table "dict.update.loop" = aa c8.«dict.update.loop»:=entryFor_of_tree (by kernel_rfl)
theorem j81{kvs:List (ao×Int)}{k:ao}{n:Int}(h:Nb kvs k=ae):dput kvs k n=kvs++[(k,n)]:=by unfold dput;rw[if_neg (by rw[h];simp)]
theorem j5w{ks:List ao}{ns:List Int}{k:Nat}{x:ao}{y:Int}(hn:ks.Nodup)(hx:ks[k]?=aa x)(hy:ns[k]?=aa y):dput ((ks.zip ns).take k) x y=(ks.zip ns).take (k+1):=by
 have hz:(ks.zip ns)[k]?=aa (x,y):=by rw[gn];exact⟨hx,hy⟩
 rw[cM,hz,j81]
 .rfl
 .unfold Nb;rw[fB];intro p hp hc;obtain⟨i,hi,e⟩:=List.mem_iff_getElem.mp hp;have hi':i<k:=by simp at hi;omega
  rw[List.getElem_take]at e;have hi2:i<(ks.zip ns).length:=by simp at hi ⊢;omega
  have hi3:i<ks.length:=by simp at hi2;omega
  have ek:ks[i]?=aa p.1:=by rw[<-e,List.getElem_zip];exact kh hi3
  have hc:p.1=x:=of_decide_eq_true hc;rw[hc]at ek;have hk3:=(Xd.mp hx).1;have:=(List.getElem?_inj hi3 hn).mp (ek.trans hx.symm);omega
section
variable{X:Cx}{pins:k72}{σ:St}{z TI TO i1 i2 t1 t2 d:ak}{l1 l2:Bool}{ks:List ao}{ns:List Int}{A:aF}{R:fi->aq->Prop}
theorem jgo(hh:A.handled=ah)(D:di z TI TO i1 i2 t1 t2)(hn:ks.Nodup)(hkn:ks.length=ns.length)(hls:ks.length<=ar){H:Hp}(hd:H d=ah)(s1:SqB X.K l1 H t1 (ks.map V.str))(s2:SqB X.K l2 H t2 (ns.map V.int)) :
  ∀(n k:Nat)(s:aq),ks.length-k=n->k<=ks.length->Inv X pins σ (upd H d (.dK (kvI ((ks.zip ns).take k)))) s->(∀c∈[z,TO,i1,i2],Qe X pins (upd H d (.dK (kvI []))) c)->(∀c∈[z,TI,TO,i1,i2],c≠d)->ZS z TI TO i1 i2 t1 t2 l1 l2 k s.heap ->
   (∀s',Inv X pins σ (upd H d (.dK (kvI (ks.zip ns)))) s'->R (.ok (.ret .none)) s')->cF (aA X.prog X.w) A (.builtin "dict.update.loop" ⟨[.ref d,.ref z,fV (k:Int),.none],[]⟩) R s:=by
 intro n;induction n with
 |zero =>
  intro k s hk hle I hf hne S fin;have ek:k=ks.length:=by omega
  have gs:j4 H (upd H d (.dK (kvI ((ks.zip ns).take k)))):=j8 hd;obtain⟨us,ru,qu,_⟩:=I.side (gs.seqB s1);obtain⟨vs,rv,qv,_⟩:=I.side (gs.seqB s2);have lu:=ru.length;rw[xg]at lu;have hf':∀c∈[z,TO,i1,i2],Qe X pins (upd H d (.dK (kvI ((ks.zip ns).take k)))) c:=λc hc=>by obtain⟨f0,f1⟩:=hf c hc;have nd:c≠d:=hne c (by simp at hc ⊢;rcases hc with h|h|h|h<;>simp[h]);rw[jf nd]at f0;exact⟨by rw[jf nd];exact f0,f1⟩
  refine dt Vc ?_;rw[cR Jg _];unfold c8.«dict.update.loop»;refine ag (jcg (A:=A.in1) hh D S qu qv (by simp;omega) λh' kp=>?_);have I2:Inv X pins σ (upd H d (.dK (kvI ((ks.zip ns).take k)))) { s with heap:=h' }:=I.chg hf' kp;rw[cL (by rw[fX];omega)]at I2;exact ag (av (av (fin _ I2)))
 |succ n ih =>
  intro k s hk hle I hf hne S fin;have hlt:k<ks.length:=by omega
  have gs:j4 H (upd H d (.dK (kvI ((ks.zip ns).take k)))):=j8 hd;obtain⟨us,ru,qu,_⟩:=I.side (gs.seqB s1);obtain⟨vs,rv,qv,_⟩:=I.side (gs.seqB s2);have hf':∀c∈[z,TO,i1,i2],Qe X pins (upd H d (.dK (kvI ((ks.zip ns).take k)))) c:=λc hc=>by obtain⟨f0,f1⟩:=hf c hc;have nd:c≠d:=hne c (by simp at hc ⊢;rcases hc with h|h|h|h<;>simp[h]);rw[jf nd]at f0;exact⟨by rw[jf nd];exact f0,f1⟩
  have hkx:ks[k]?=aa ks[k]:=kh hlt;have hlt2:k<ns.length:=by omega
  have hky:ns[k]?=aa ns[k]:=kh hlt2;obtain⟨u,hu,rx⟩:=ru.get (i:=k) (x:=.str ks[k]) (by rw[X6,hkx];rfl);obtain⟨v,hv,ry⟩:=rv.get (i:=k) (x:=.int ns[k]) (by rw[X6,hky];rfl);obtain⟨t,rfl⟩:=(show ∃t,u=b8 ks[k] t from rx)
  refine dt Vc ?_;rw[cR Jg _];unfold c8.«dict.update.loop»;refine ag (j9r (A:=A.in1) D S qu qv (by simpa using hu) (by simpa using hv) λh' S' pr kp=>?_);have I2:Inv X pins σ (upd H d (.dK (kvI ((ks.zip ns).take k)))) { s with heap:=h' }:=I.chg hf' kp;refine ag (bc ?_);refine ag (wpAny_tryCatch ?_);unfold kW;refine ag (iG (T:="tuple") ⟨_,pr,rfl⟩ ?_);rw[if_pos (by decide)];refine ag (be pr rfl (av ?_));show ax _ _ (bN _ (dictSet d (.str ks[k] t) v)) _ _ _;refine bc ?_;obtain⟨hz,hdm,ws,rel,dd⟩:=j9f I2 (d:=d) jr;refine wpAny_dictSet_pairs (hsz:=by rw[Kh rel];exact hz) (Rw X.prog X.w ks[k] t) dd λh'' dd' sb=>?_;have he:∃q,h''.get? d=aa q:=let ⟨q,_,_,hq,_⟩:=dd';⟨q,hq⟩;have hl':((ks.zip ns).take (k+1)).length<=ar:=by rw[Xj,fX];omega
  have kv':=jek (k:=ks[k]) rel ry;rw[j5w hn hkx hky]at kv';have I3:Inv X pins σ (upd H d (.dK (kvI ((ks.zip ns).take (k+1))))) { s with heap:=h'',toks:=s.toks+1 }:=by
   have:=I2.write (h':=h'') (x:=d) (e:=d) (o:=.dK (kvI ((ks.zip ns).take (k+1)))) (t':=s.toks+1) (by rw[jr];exact True.intro) (.inl rfl) (λb q hb z=>(sb.2 b hb).trans z) he ⟨by simpa [kvI]using hl',hdm,_,kv',dd'⟩
   rwa [j9v]at this
  refine av ⟨i8 Jg _,?_⟩;have ek:((k:Int)+1)=((k+1:Nat):Int):=by push_cast;rfl
  rw[ek];have ne_d:∀c o,h'.get? c=aa o->c≠d->h''.get? c=aa o:=λc o e nc=>(sb.2 c nc).trans e;refine ih (k+1) _ nofun nofun I3 hf hne ?_ fin;obtain⟨Sa,S1,S2,S3⟩:=S';refine⟨?_,ne_d _ _ S1 (hne _ (by simp)),S2.stay λo e=>ne_d _ o e (hne _ (by simp)),S3.stay λo e=>ne_d _ o e (hne _ (by simp))⟩;rcases Sa with ⟨a,b,c,e⟩|⟨p,f,op,a,b,r⟩
  .exact .inl ⟨ne_d _ _ a (hne _ (by simp)),b,c,ne_d _ _ e (hne _ (by simp))⟩
  .refine .inr ⟨p,f,?_⟩;by_cases zp:p=d
   .subst zp;obtain⟨q,hq⟩:=he;exact⟨q,ne_d _ _ a (hne _ (by simp)),hq,r⟩
   .exact⟨op,ne_d _ _ a (hne _ (by simp)),ne_d _ _ b zp,r⟩
end
section
variable{X:Cx}{ρ:Rho}{a b:au}{ks:List ao}{ns:List Int}{p p2 p3 p4:aR}
theorem ne5(n:Nat):n+4≠n+5/\n+2≠n+5/\n+3≠n+5/\n≠n+5/\n+1≠n+5:=by omega
theorem Oo{K:k70}{H:Hp}:∀{ks:List ao}{xs:List V},j5 K H (ks.map D.str) xs->xs=ks.map V.str
 |[],_,h=>h
 |k::ks,_,⟨x,r,e,h,l⟩=>by have h:x=.str k:=h;subst e h;rw[Oo l];rfl
theorem DE.dzip (l1 l2:Bool) (ha:DE X ρ a (D.seq l1 (ks.map D.str))) (hb:DE X ρ b (D.seq l2 (ns.map D.int))) (hn:ks.Nodup) (hkn:ks.length=ns.length) (hls:ks.length<=ar) (hc:X.calm=af) (hm:X.mg "dict" = ah) (hmz:X.mg "zip" = ah) (hg:Gl X "dict") (hgz:Gl X "zip")
  (hs0:ai [.Call (.Name "zip" p2) [a,b] [] p3] X.env=(ae,aB (.Call (.Name "zip" p2) [a,b] [] p3) X.env)::ai [] X.env) (hs:ai [a,b] X.env=(ae,aB a X.env)::ai [b] X.env) (hs2:ai [b] X.env=(ae,aB b X.env)::ai [] X.env) :
  DE X ρ (.Call (.Name "dict" p) [.Call (.Name "zip" p2) [a,b] [] p3] [] p4) (.sct (ks.zip ns)):=λσ H Q r q pins s I=>by
 have args:W4 X [a,b] σ H (λvs H'=>∃v u,vs=[v,u]/\j4 H H'/\Enc X.K (del H' (owns ρ)) (D.seq l1 (ks.map D.str)) v/\Enc X.K (del H' (owns ρ)) (D.seq l2 (ns.map D.int)) u) :=
  (j9 peS (j9 peS jt hs2) hs).to (ha σ H _ r λv H1 g1 e1=>hb σ H1 _ (r.grow g1) λu H2 g2 e2=>⟨v,u,rfl,g1.trans g2,e1.mono (jb g2),e2⟩)
 have hpl:(aP p3 (ai [b] X.env)).any (·.1)=ae:=by rw[hs2];rfl
 refine jB (Ja I hg hm boot_dict (callWith_type1 ?_ hs0 (by rfl)));rw[hs0];show ax _ _ (g4 ((ae,aB (.Call (.Name "zip" p2) [a,b] [] p3) X.env)::aP p4 (ai [] X.env))) _ _ s;refine cE ?_;refine jB (Ja I hgz hmz lM (callWith_type1 (thn (args p3 pins s I) λus s1 h1=>?_) hs hpl));obtain⟨vs,H1,I1,r1,v,u,ev,g1,e1,e2⟩:=h1;subst ev;obtain⟨t1,xs,et1,sq1,en1⟩:=Ju e1;obtain⟨t2,ys,et2,sq2,en2⟩:=Ju e2;subst et1 et2;obtain⟨u1,u2,eu,ru1,ru2⟩:=r1.two;subst eu;cases ru1;cases ru2;obtain⟨w1,rw1,qw1,_⟩:=I1.side (ji.seqB sq1);obtain⟨w2,rw2,qw2,_⟩:=I1.side (ji.seqB sq2);refine callType_new lA (by decide) (jH _ _) (jT _ _) (λobj=>iF obj _ _) jV (j00 (l1:=l1) (l2:=l2) t1 t2 w1.toArray w2.toArray) ⟨qw1,qw2,?_⟩;have z1:(zh1 s1.heap l1 t1).objs.size=s1.heap.objs.size+1:=Xf ..;have z2:(zh2 s1.heap l1 l2 t1 t2).objs.size=s1.heap.objs.size+2:=by rw[Xf,z1]
 have z3:(zh3 s1.heap l1 l2 t1 t2).objs.size=s1.heap.objs.size+3:=by rw[Xf,z2]
 have z4:(zh4 s1.heap l1 l2 t1 t2).objs.size=s1.heap.objs.size+4:=by rw[Xf,z3]
 have z5:(zh5 s1.heap l1 l2 t1 t2).objs.size=s1.heap.objs.size+5:=by rw[Xf,z4]
 have b5:(zh5 s1.heap l1 l2 t1 t2).get? (zh4 s1.heap l1 l2 t1 t2).objs.size=aa _:=xx _ rfl;have b4:(zh5 s1.heap l1 l2 t1 t2).get? (zh3 s1.heap l1 l2 t1 t2).objs.size=aa _:=kj _ (xx _ rfl);have b3:(zh5 s1.heap l1 l2 t1 t2).get? (zh2 s1.heap l1 l2 t1 t2).objs.size=aa _:=kj _ (kj _ (xx _ rfl));have b2:(zh5 s1.heap l1 l2 t1 t2).get? (zh1 s1.heap l1 t1).objs.size=aa _:=kj _ (kj _ (kj _ (xx _ rfl)));have b1:(zh5 s1.heap l1 l2 t1 t2).get? s1.heap.objs.size=aa _:=kj _ (kj _ (kj _ (kj _ (xx _ rfl))));have kp:∀c o,s1.heap.get? c=aa o->(zh5 s1.heap l1 l2 t1 t2).get? c=aa o:=λc o e=>kj _ (kj _ (kj _ (kj _ (kj _ e))));show _/\_;rw[z2,z3,z4]at b5;rw[z1,z2]at b3;rw[z3]at b4;rw[z1]at b2;rw[z4];have I2:Inv X pins σ H1 { s1 with heap:=zh5 s1.heap l1 l2 t1 t2 }:=I1.kept (t':=s1.toks) kp;have lt1:t1<s1.heap.objs.size:=by
  unfold jh at qw1;cases l1 with
  |true=>rw[if_pos rfl]at qw1;obtain⟨_,e,_⟩:=qw1;exact xq e
  |false=>rw[if_neg xf]at qw1;obtain⟨_,e,_⟩:=qw1;exact xq e
 have lt2:t2<s1.heap.objs.size:=by
  unfold jh at qw2;cases l2 with
  |true=>rw[if_pos rfl]at qw2;obtain⟨_,e,_⟩:=qw2;exact xq e
  |false=>rw[if_neg xf]at qw2;obtain⟨_,e,_⟩:=qw2;exact xq e
 have side:∀{l:Bool}{j t:ak},(zh5 s1.heap l1 l2 t1 t2).get? j=aa { cls:=.type (U6 l),data:=.fields #[.ref t,.int 0 0] }->jg l (zh5 s1.heap l1 l2 t1 t2) j t 0:=λ{l j t} e=>by
  unfold jg;cases l with
  |true=>rw[if_pos rfl];exact⟨_,e,rfl,rfl⟩
  |false=>rw[if_neg xf];exact⟨_,e,rfl,rfl⟩
 refine⟨⟨_,b5,rfl⟩,dB ?_⟩;have ex1:=Oo en1;have ex2:=Q9 en2;subst ex1 ex2;have sq1':=(ji (A:=owns ρ)).seqB sq1;have sq2':=(ji (A:=owns ρ)).seqB sq2;have sd1:=side (l:=l1) b1;have sd2:=side (l:=l2) b2;have fpk:∀c,s1.heap.objs.size<=c->c<s1.heap.objs.size+5->Qe X pins (upd H1 (s1.heap.objs.size+5) (.dK (kvI []))) c:=λc h5 h6=>I1.fpOk h5 (by rw[jf (X8 h6)];exact I1.hok.fresh h5);clear side;generalize hgen:zh5 s1.heap l1 l2 t1 t2=hz at *;have hh:X.A.handled=ah:=I.ok.hd hc;have bz:=b5;show ax (aA X.prog X.w) X.A (gb (.type "dict") [.ref (s1.heap.objs.size+4)]) _ _ { s1 with heap:=hz };refine callType_codes (Q₁:=λobj s₁=>obj=.ref hz.objs.size/\s₁={ s1 with heap:=hz.push { cls:=.type "dict",data:=.dict #[] } }) F.kt_called_dict (F.kt_typeCall_dict_1 _) F.entry_dict_init (kt_code_dict_new _ ⟨rfl,rfl⟩) ?_;rintro obj s₁ ⟨rfl,rfl⟩;have hnew:(hz.push { cls:=.type "dict",data:=.dict #[] }).DictOf (Yu X.prog X.w) hz.objs.size []:=Heap.DictOf.new hz;have up:∀c o,hz.get? c=aa o->(hz.push { cls:=.type "dict",data:=.dict #[] }).get? c=aa o:=λc o e=>kj _ e;refine⟨hnew.typeIs,F.args_dict_init_2 _ _,?_⟩;unfold c8.«dict.__init__»;refine ag ?_;unfold kU;refine ag (wpAny_notOrdered_dict hnew.typeIs ?_);show ax _ _ (pure (hz.objs.size,[aH (s1.heap.objs.size+4)])) _ _ _;refine av ?_;show ax _ _ (fE "dict.__init__" hz.objs.size (.ref (s1.heap.objs.size+4)) [] .none) _ _ _;unfold fE;refine ag (iG (T:="zip") ⟨_,up _ _ bz,rfl⟩ ?_);rw[if_pos (by decide)];refine ag (j9x (up _ _ bz) hh λh' tk kp=>?_);rw[if_pos (by rfl)];refine ag (gS ?_);refine ag (gj (TI:=s1.heap.objs.size+2) (TO:=s1.heap.objs.size+3) (f0:=.none) (kp _ _ (up _ _ bz)) ?_);refine av ⟨i8 Jg _,?_⟩;have I3:Inv X pins σ (upd H1 hz.objs.size (.dK (kvI []))) { s1 with heap:=h',toks:=tk } :=
  I2.laid (a:=hz.objs.size) (h':=h') (o:=.dK (kvI [])) (t':=tk) (λb o e=>kp _ _ (up _ _ e)) (X5 _) ⟨d4 _,beq_eq_false_iff_ne.mpr (dS (X8 I2.bigD)),[],Paired.nil,hnew.keep kp⟩
 have nd:H1 hz.objs.size=ah:=I2.hok.fresh (X5 _);rw[z5]at I3 nd ⊢;refine jgo (A:=X.A.in1) (R:=wants (λr s₂=>r=aZ/\EP X pins σ Q (aH (s1.heap.objs.size+5)) s₂) X.xe) (H:=H1) (l1:=l1) (l2:=l2) (show X.A.in1.handled=ah from hh) (zipApart_new lt1 lt2) hn hkn hls nd sq1' sq2' ks.length 0 _ nofun (d4 _) (by rw[List.take_zero];exact I3) (λc hc=>?_) (λc hc=>?_) ⟨.inl ⟨kp _ _ (up _ _ bz),_,_,kp _ _ (up _ _ b4)⟩,kp _ _ (up _ _ b3),sd1.stay λo e=>kp _ _ (up _ _ e),sd2.stay λo e=>kp _ _ (up _ _ e)⟩ λs' I'=>?_
 .exact fpk c (by simp at hc;rcases hc with e|e|e|e<;>rw[e]<;>omega) (by simp at hc;rcases hc with e|e|e|e<;>rw[e]<;>omega)
 .simp at hc;have n5:=ne5 s1.heap.objs.size;rcases hc with e|e|e|e|e<;>rw[e]
  .exact n5.1
  .exact n5.2.1
  .exact n5.2.2.1
  .exact n5.2.2.2.1
  .exact n5.2.2.2.2
 .exact⟨rfl,.ref (s1.heap.objs.size+5),_,I',rfl,q _ _ (g1.trans (j8 nd)) ⟨_,rfl,by rw[j6 ((r.grow g1).fresh nd)];exact jr⟩⟩
end
section
variable{X:Cx}{ρ:Rho}{a e:au}{es:List au}{x:ao}{d:D}{p p1 p2 pos:aR}{y:ao}{ds:List D}
theorem Mw{M:ja}{A:aF}{E:k71}{s:aq}{env:du}{value:au}{pos:aR}{Q:k71}
  (h:ax M A (aB value env) (λv s₁=>ax M A (pyReprObj v) (λr s₂=>ax M A (formatField r dW) Q E s₂) E s₁) E s) :
  ax M A (aB (.FormattedValue value 114 ah pos) env) Q E s:=by
 rw[arm_eval_FormattedValue];refine ag (bS h (λv s₁ h₁=>?_) λ_ _ x=>x);refine ag (fG ?_);show ax _ _ (do let v' <-bN [v] (pyReprObj v);formatField v' dW) Q E s₁;exact ag (bc h₁)
theorem DE.fmtR(ha:DT X ρ e (.str y))(hy:(bW y).length<=ar):DE X ρ (.FormattedValue e 114 ah pos) (.str (bW y)):=λσ H Q R q pins s I=>by
 refine Mw (thn (ha σ H (λv H1=>v=.str y/\j4 H H1) R (λv H1 g e=>⟨e,g⟩) pins s I) λu s1 ⟨v,H1,I1,r,ev,g⟩=>?_);subst ev;obtain⟨t,rfl⟩:=(show ∃t,u=b8 y t from r)
 refine wpAny_pyReprObj_gives (d9 s1 y t) F.slot_str_repr F.entry_str_repr (F.args_str_repr_1 _) (gives_str_repr y t) ?_ rfl hy;exact l0 (λt' tk=>⟨.str (bW y),H1,I1.un (t':=tk) Un.refl I1.hok,⟨_,rfl⟩,q _ H1 g rfl⟩) hy
theorem Ws.grow{σ:St}{H H':Hp}(k:Ws X σ H x)(g:j4 H H'):Ws X σ H' x:=λpins H2 s' e C I g2 hC Fe=>k pins H2 s' e C I (g.trans g2) hC Fe
theorem DXA.head(ha:DX X ρ a x)(hs:ai (a::es) X.env=(ae,aB a X.env)::ai es X.env):DXA X ρ (a::es) x:=λσ H Q R k =>(j9 peS paS hs).to (ha σ H _ R k)
theorem DXA.tail(ha:DT X ρ a d)(h:DXA X ρ es x)(hs:ai (a::es) X.env=(ae,aB a X.env)::ai es X.env):DXA X ρ (a::es) x:=λσ H Q R k =>(j9 peS paS hs).to (ha σ H _ R λv H1 g _=>h σ H1 _ (R.grow g) (k.grow g))
theorem DX.args {f:ao} (ha:DXA X ρ (e::es) x) (hg:Gl X f) (hdb:(f==k74)=ae) {fa:ak} (hfa:X.mg f=aa (.ref fa)) (hk:W.keepIn X.K (.ref fa)=af)
  (he:ai (e::es) X.env=(ae,aB e X.env)::ai es X.env) (hpl:(aP pos (ai es X.env)).any (·.1)=ae):DX X ρ (.Call (.Name f p) (e::es) [] pos) x:=λσ H Q R k pins s I=>by
 refine aV (Ze I hg hfa ?_ hdb);exact W.callWith_K (h₀:=X.base) I.ok.mod.kin hk (thn (ha σ H (λ_ _=>False) R k pos pins s I) λus s1 ⟨vs,H1,I1,r,z⟩=>z.elim) he hpl
end
noncomputable def Ub:List Int->Int
 |[]=>0
 |a::r=>r.foldl max a
theorem j72:∀(r:List Int)(a:Int),a<=r.foldl max a
 |[],a=>lx a
 |b::r,a=>by rw[T4];have:=j72 r (max a b);omega
theorem Dc:∀(r:List Int)(a:Int),r.foldl max a∈a::r/\∀b∈a::r,b<=r.foldl max a
 |[],a=>⟨X3.mpr rfl,λb hb=>by rw[X3.mp hb];exact lx _⟩
 |c::r,a=>by
  rw[T4];obtain⟨h1,h2⟩:=Dc r (max a c);refine⟨?_,λb hb=>?_⟩
  .rcases xn.mp h1 with z|z
   .rw[z];by_cases q:a<=c
    .rw[Int.max_eq_right q];exact km _ xm
    .rw[Int.max_eq_left nofun];exact xm
   .exact km _ (km _ z)
  .have l:=h2 (max a c) xm;rcases xn.mp hb with z|z
   .rw[z];omega
   .rcases xn.mp z with z|z
    .rw[z];omega
    .exact h2 b (km _ z)
theorem Kc{ns:List Int}(h:ns≠[]):Ub ns∈ns/\∀b∈ns,b<=Ub ns:=by
 cases ns with
 |nil=>exact absurd rfl h
 |cons a r=>exact Dc r a
theorem jb5{ns:List Int}{M:Int}(h1:M∈ns)(h2:∀a∈ns,a<=M):Ub ns=M:=by
 have hn:ns≠[]:=λe=>by rw[e]at h1;exact nomatch h1
 obtain⟨a,b⟩:=Kc hn;have:=h2 _ a;have:=b _ h1;omega
noncomputable def Wb(ns:List Int):Int:=-Ub (ns.map λn=>-n)
theorem j6x{ns:List Int}(h:ns≠[]):Wb ns∈ns/\∀b∈ns,Wb ns<=b:=by
 obtain⟨h1,h2⟩:=Kc (ns:=ns.map λn=>-n) (by simpa using h);obtain⟨a,ha,e⟩:=Xe.mp h1;unfold Wb;refine⟨?_,λb hb=>?_⟩
 .rw[<-e,Int.neg_neg];exact ha
 .have:=h2 _ (Xe.mpr ⟨b,hb,rfl⟩);omega
theorem jb4{ns:List Int}{M:Int}(h1:M∈ns)(h2:∀a∈ns,M<=a):Wb ns=M:=by
 obtain⟨a,b⟩:=j6x (ns:=ns) λe=>by rw[e]at h1;exact nomatch h1
 have:=h2 _ a;have:=b _ h1;omega
section
variable{X:Cx}{ρ:Rho}{a b e:au}{es:List au}{x y:ao}{d:D}{i j:Int}{p p1 p2 p3 p4 pk pos:aR}{ds:List D}
theorem j8q{pins:k72}{s:aq}{σ:St}{H:Hp}{l:ak}{ns:List Int}(I:Inv X pins σ H s)(sq:SqL X.K H l (ns.map V.int))(hne:ns≠[]):∃zs,s.heap.IsList l (fh zs)/\0<zs.size/\zs.size=ns.length/\∀i,i<zs.size->gv zs i=ns.getD i 0:=by
 obtain⟨its,rv,pl,_⟩:=I.list sq;have hl:its.length=ns.length:=by rw[<-rv.length,xg]
 have val:∀(i:Nat)(v:aj),its[i]?=aa v->∃t,v=br (ns.getD i 0) t:=by
  intro i v hv;have hi:i<its.length:=(Xd.mp hv).1;have hi':i<ns.length:=by omega
  obtain⟨w1,hw,rw1⟩:=rv.get (x:=.int (ns.getD i 0)) (i:=i) (by rw[X6,kh hi',xj,kh hi'];rfl);rw[hw]at hv;cases hv;exact rw1
 have hall:AllInts its.toArray:=by intro v hv;obtain⟨i,hi,e⟩:=List.mem_iff_getElem.mp (show v∈its by simpa using hv);obtain⟨t,e'⟩:=val i v (by rw[kh hi,e]);exact⟨_,t,e'⟩
 obtain⟨zs,hz⟩:=hall.items;have pl':=pl.isList;rw[hz]at pl';have hsz:0<zs.size:=by
  have:its.toArray.size=(fh zs).size:=by rw[hz]
  have h1:0<ns.length:=List.length_pos_iff.mpr hne;simp[fh]at this;omega
 have hns:∀i,i<zs.size->gv zs i=ns.getD i 0:=by
  intro i hi;obtain⟨v1,e1⟩:∃v,(fh zs)[i]?=aa v:=⟨_,Array.getElem?_eq_getElem (by simpa [fh]using hi)⟩
  obtain⟨t,ht⟩:=iZ e1;rw[<-hz]at e1;obtain⟨t',ht'⟩:=val i _ (by simpa using e1);rw[ht]at ht';exact(Value.int.inj ht').1
 have len:zs.size=ns.length:=by
  have:its.toArray.size=(fh zs).size:=by rw[hz]
  simp[fh]at this;omega
 exact⟨zs,pl',hsz,len,hns⟩
theorem j54 (hc:X.calm=af):Jh X (.builtin "max") (λxs H Q=>∃(l:ak)(ns:List Int),xs=[.ref l]/\SqL X.K H l (ns.map V.int)/\ns≠[]/\Q (.int (Ub ns)) H):=by
 rintro pins s σ H xs us Q I r ⟨l,ns,e,sq,hne,q⟩;subst e;obtain⟨u,eu,ru⟩:=vals1 r;subst eu;cases ru;obtain⟨zs,pl',hsz,len,hns⟩:=j8q I sq hne;refine max_intList (I.ok.hd hc) pl' hsz λv h' tk hv hk=>?_;obtain⟨t,rfl⟩:=iZ hv;obtain⟨h1,h2⟩:=argBest_gt (gv zs) (zs.size-1);have hM:Ub ns=gv zs (jY (λi j=>decide (gv zs i>gv zs j)) (zs.size-1)):=by
  refine jb5 ?_ λc hc=>?_
  .rw[hns _ nofun];rw[xj,kh nofun];exact Xx _
  .obtain⟨k,hk,rfl⟩:=List.mem_iff_getElem.mp hc;have:=h2 k nofun
   rw[hns k nofun,xj,kh hk]at this;exact this
 rw[hM]at q;exact⟨.int _,H,I.kept hk,⟨t,rfl⟩,q⟩
theorem j52 (hc:X.calm=af):Jh X (.builtin "min") (λxs H Q=>∃(l:ak)(ns:List Int),xs=[.ref l]/\SqL X.K H l (ns.map V.int)/\ns≠[]/\Q (.int (Wb ns)) H):=by
 rintro pins s σ H xs us Q I r ⟨l,ns,e,sq,hne,q⟩;subst e;obtain⟨u,eu,ru⟩:=vals1 r;subst eu;cases ru;obtain⟨zs,pl',hsz,len,hns⟩:=j8q I sq hne;refine min_intList (I.ok.hd hc) pl' hsz λv h' tk hv hk=>?_;obtain⟨t,rfl⟩:=iZ hv;obtain⟨h1,h2⟩:=argBest_lt (gv zs) (zs.size-1);have hM:Wb ns=gv zs (jY (λi j=>decide (gv zs i<gv zs j)) (zs.size-1)):=by
  refine jb4 ?_ λc hc=>?_
  .rw[hns _ nofun];rw[xj,kh nofun];exact Xx _
  .obtain⟨k,hk,rfl⟩:=List.mem_iff_getElem.mp hc;have:=h2 k nofun
   rw[hns k nofun,xj,kh hk]at this;exact this
 rw[hM]at q;exact⟨.int _,H,I.kept hk,⟨t,rfl⟩,q⟩
theorem DE.max2 (ha:DT X ρ a (.int i)) (hb:DT X ρ b (.int j)) (hm:X.mg "max" = ah) (hc:X.calm=af) (hg:Gl X "max") (hs:ai [a,b] X.env=(ae,aB a X.env)::ai [b] X.env) (hs2:ai [b] X.env=(ae,aB b X.env)::ai [] X.env)
  (hpl:(aP pos (ai [b] X.env)).any (·.1)=ae):DE X ρ (.Call (.Name "max" p) [a,b] [] pos) (.int (if j>i then j else i)):=λσ H Q R q =>
 (zc (j55 hc) hg hm boot_max (j9 peS (j9 peS jt hs2) hs) (by decide) (by decide) hs hpl).to (ha σ H _ R λv H1 g1 e1=>hb σ H1 _ (R.grow g1) λu H2 g2 e2=>⟨i,j,by rw[show v=.int i from e1,show u=.int j from e2],q _ H2 (g1.trans g2) rfl⟩)
theorem DE.maxL {ns:List Int} (ha:DT X ρ a (.lst (ns.map D.int))) (hn:ns≠[]) (hm:X.mg "max" = ah) (hc:X.calm=af) (hg:Gl X "max") (hs:ai [a] X.env=[(ae,aB a X.env)]):DE X ρ (.Call (.Name "max" p) [a] [] pos) (.int (Ub ns)):=λσ H Q R q =>(zc (j54 hc) hg hm boot_max (j9 peS jt hs) (by decide) (by decide) hs).to (ha σ H _ R λv H1 g1 ⟨l,xs,e,sq,en⟩=>⟨l,ns,by rw[e],by rw[Q9 en]at sq;exact sq,hn,q _ H1 g1 rfl⟩)
theorem DE.minL {ns:List Int} (ha:DT X ρ a (.lst (ns.map D.int))) (hn:ns≠[]) (hm:X.mg "min" = ah) (hc:X.calm=af) (hg:Gl X "min") (hs:ai [a] X.env=[(ae,aB a X.env)]):DE X ρ (.Call (.Name "min" p) [a] [] pos) (.int (Wb ns)):=λσ H Q R q =>(zc (j52 hc) hg hm boot_min (j9 peS jt hs) (by decide) (by decide) hs).to (ha σ H _ R λv H1 g1 ⟨l,xs,e,sq,en⟩=>⟨l,ns,by rw[e],by rw[Q9 en]at sq;exact sq,hn,q _ H1 g1 rfl⟩)
theorem DX.dzip (ha:DXA X ρ [a,b] y) (hm:X.mg "dict" = ah) (hmz:X.mg "zip" = ah) (hg:Gl X "dict") (hgz:Gl X "zip")
  (hs0:ai [.Call (.Name "zip" p2) [a,b] [] p3] X.env=(ae,aB (.Call (.Name "zip" p2) [a,b] [] p3) X.env)::ai [] X.env) (hs:ai [a,b] X.env=(ae,aB a X.env)::ai [b] X.env) (hs2:ai [b] X.env=(ae,aB b X.env)::ai [] X.env) :
  DX X ρ (.Call (.Name "dict" p) [.Call (.Name "zip" p2) [a,b] [] p3] [] p4) y:=λσ H Q R k pins s I=>by
 have hpl:(aP p3 (ai [b] X.env)).any (·.1)=ae:=by rw[hs2];rfl
 refine jB (Ja I hg hm boot_dict (callWith_type1 ?_ hs0 (by rfl)));rw[hs0];show ax _ _ (g4 ((ae,aB (.Call (.Name "zip" p2) [a,b] [] p3) X.env)::aP p4 (ai [] X.env))) _ _ s;refine cE ?_;exact jB (Ja I hgz hmz lM (callWith_type1 (thn (ha σ H (λ_ _=>False) R k p3 pins s I) λus s1 ⟨vs,H1,I1,r,z⟩=>z.elim) hs hpl))
end
theorem j5.getE{K:k70}{H:Hp}:∀{ds:List D}{xs:List V}{k:Nat}{d:D},j5 K H ds xs->ds[k]?=aa d->∃y,xs[k]?=aa y/\Enc K H d y/\j5 K H (ds.eraseIdx k) (xs.eraseIdx k)
 |[],_,_,_,_,h=>by simp at h
 |c::ds,xs,0,d,⟨v,r,e,ev,l⟩,h=>by rw[List.getElem?_cons_zero]at h;cases h;subst e;exact⟨v,rfl,ev,l⟩
 |c::ds,xs,k+1,d,⟨v,r,e,ev,l⟩,h=>by rw[cI]at h;subst e;obtain⟨y,h1,h2,h3⟩:=j5.getE l h;exact⟨y,by rw[cI];exact h1,h2,⟨v,r.eraseIdx k,rfl,ev,h3⟩⟩
section
variable{X:Cx}{ρ:Rho}{p1 p2 p3 p4 p5 p6 q1 pos:aR}
theorem DS.apop{i w k:Nat}{x u:ao}{l l2:ak}{ds es:List D}{z:Int}{d:D}{e:au}{P:Po}(hk:ρ[i]?=aa (.own l ds))(hk2:ρ[w]?=aa (.own l2 es))(ne:i≠w)(he:DE X ρ e (.int z))(hz:ixN es.length z=aa k)(hd':es[k]?=aa d)(hl:ds.length<ar)(hes:es.length<=1000000)
  (h:P.nx ((ρ.set w (.own l2 (es.eraseIdx k))).set i (.own l (ds++[d]))))
  (hN:X.N[i]?=aa x) (hv:Vis X.env.scope x) (hd:(x==k74)=ae) (hcd:(x==k75)=ae) (hN2:X.N[w]?=aa u) (hv2:Vis X.env.scope u) (hd2:(u==k74)=ae) (hcd2:(u==k75)=ae)
  (hst:ai [e] X.env=[(ae,aB e X.env)]) (hst1:ai [.Call (.Attribute (.Name u p4) "pop" p5) [e] [] p6] X.env=[(ae,aB (.Call (.Attribute (.Name u p4) "pop" p5) [e] [] p6) X.env)])
  (hline:(p2.endLine==p3.line)=af) (hline2:(p5.endLine==p6.line)=af)
  (hbase:aU (.Name x p1) "append" X.env (aB (.Name x p1) X.env)=aB (.Name x p1) X.env) (hbase2:aU (.Name u p4) "pop" X.env (aB (.Name u p4) X.env)=aB (.Name u p4) X.env)
  (hfew:((aP p3 (ai [.Call (.Attribute (.Name u p4) "pop" p5) [e] [] p6] X.env)).all (λx=>!x.1)&&(bP p3 (b7 [] X.env)).all (λx=>x.1.isSome)
   && decide (([.Call (.Attribute (.Name u p4) "pop" p5) [e] [] p6]:List au).length+([]:List b0).length+(if ([]:List b0).isEmpty then 0 else 1)<30))=af)
  (hfew2:((aP p6 (ai [e] X.env)).all (λx=>!x.1)&&(bP p6 (b7 [] X.env)).all (λx=>x.1.isSome)
   && decide (([e]:List au).length+([]:List b0).length+(if ([]:List b0).isEmpty then 0 else 1)<30))=af)
  (hs:aL (.Call (.Attribute (.Name x p1) "append" p2) [.Call (.Attribute (.Name u p4) "pop" p5) [e] [] p6] [] p3) ah pos.line X.env=pure ae) :
  DS X ρ (.Expr (.Call (.Attribute (.Name x p1) "append" p2) [.Call (.Attribute (.Name u p4) "pop" p5) [e] [] p6] [] p3) pos) P:=λσ H E R q=>by
 obtain⟨hσ,xs,m,en⟩:=R.own i l ds hk;obtain⟨hσ2,ys,m2,en2⟩:=R.own w l2 es hk2;have hp:=Y9 (X:=X) (apos:=p5) (cpos:=p6) Pb ic PySem.F.type_list_pop j6w (jz (pos:=p4) hN2 hv2 hd2 hcd2) (j9 (peS (e:=e)) jt hst) hbase2 hfew2 hline2 hst rfl;refine(Qu (Y9 Pb bK cx V2 (jz hN hv hd hcd) (j9 hp jt hst1) hbase hfew hline hst1 rfl) hs).to ?_;refine⟨_,hσ,.inl ⟨rfl,xs,.inl (.inl m)⟩,⟨_,hσ2,.inl ⟨rfl,ys,.inl (.inl m2)⟩,he σ H _ R λv H1 g1 e1=>?_⟩⟩;have e1:v=.int z:=e1;subst e1;obtain⟨s1,s2,s3,s4⟩:=Bs hz;obtain⟨y,gy,ey,el⟩:=(en2.mono (jb g1)).getE hd';have R1:=(R.grow g1).upd_own hk2 el;have hi:(ρ.set w (.own l2 (es.eraseIdx k)))[i]?=aa (.own l ds):=by rw[eU (dS ne)];exact hk
 obtain⟨_,xs',m',en'⟩:=R1.own i l ds hi;have p63:(2:Int)^63=9223372036854775808:=by decide
 refine⟨l2,ys,z,k,y,rfl,rfl,g1 _ _ m2,by rw[p63];omega,by rw[p63];omega,by rw[en2.length];exact s1,gy,?_⟩;refine⟨l,xs',y,rfl,rfl,m',by rw[en'.length];exact hl,?_⟩;exact q.nx _ σ _ h (R1.upd_own hi (en'.append (.one (by rw[Js hk2,Zf (Jd hk2)];exact ey)))) (j4.trans (Yx (σ:=σ) hk2 g1) (Yx (σ:=σ) hi (j4.refl _)))
end
section
variable{X:Cx}{ρ:Rho}{p1 p2 p3 p4 p5 p6 q1 pos:aR}
end
noncomputable def ch1(c:Nat):ao:=⟨#[c]⟩
noncomputable def chs(y:ao):List D:=y.cps.toList.map λc=>D.str (ch1 c)
noncomputable def ascii(y:ao):Bool:=y.cps.all (· < 128)
noncomputable def Its(y:ao):It:=⟨λi _=>i<y.cps.size,λi H x H'=>H'=H/\∃c,y.cps[i]?=aa c/\x=.str (ch1 c),λi _=>y.cps.size<=i⟩
theorem j5m {P:ay} {w:aD} {K:k70} {tg:au} (it:ak) (y:ao) (t:dF):Turn P w K tg (Its y) [it] it (λi h=>h.IsStrIter it "str_ascii_iterator" y t i) where
 mem:=by simp
 obj:=λi h st b hb=>by
  have e:b=it:=by simpa using hb
  subst e;obtain⟨o,e,c,d⟩:=st;exact⟨o,e,λv z=>by rw[d]at z;cases z⟩
 keep:=λi h h' st k=>let ⟨o,e,r⟩:=st;⟨o,k it (by simp) o e,r⟩
 item:=by intro X hP hw hK hc i pins s σ H E I hf st hg;subst hP hw hK;obtain⟨f0,f1,f2,f3,f4,f5⟩:=hf it (by simp);have W:=Walks.strAscii (prog:=X.prog) (w:=X.w) (I.ok.hd hc) it y t;refine W.item i s _ _ hg st λv h' tk hv st' kk=>?_;obtain⟨c,u,hcu,rfl⟩:=hv;have I1:Inv X pins σ H { s with heap:=h',toks:=tk }:=I.turned (λb o hb e=>kk b o (by simpa using hb) e) f0 f1 f3 f4 f5;obtain⟨o,e,oc,d⟩:=id st';exact⟨_,rfl,Cp (s:={ s with heap:=h',toks:=tk }) e oc d (by decide) ⟨.str (ch1 c),H,I1,⟨u,rfl⟩,⟨rfl,c,hcu,rfl⟩,st',λb hb=>(hf b hb).1⟩⟩
 done:=by intro X hP hw hK hc i pins s σ H E I hf st hg;subst hP hw hK;obtain⟨f0,f1,f2,f3,f4,f5⟩:=hf it (by simp);exact wpAny_pyNext_ascii_end (I.ok.hd hc) st (by have:y.cps.size<=i:=hg;simp;omega) λh' eb=>⟨rfl,I.turned (t':=s.toks) (λb o hb e=>eb b o hb e) f0 f1 f3 f4 f5⟩
 self:=λ_ _ _ _ _ st h=>wpAny_pyIter_striter_ascii st h
section
variable{X:Cx}{ρ:Rho}{a b c e tg it:au}{y z:ao}{i j k:Int}{p p2 pos:aR}
theorem j7a{K:k70}{F:Hp}(y:ao):Uy K F (Its y) (chs y):=λi H A g hA=>by
 have hl:(chs y).length=y.cps.size:=by unfold chs;rw[xg,d8]
 rw[hl];refine⟨λh=>h,λh=>h,λx H' ⟨e,c,hc,ex⟩=>?_⟩;subst e ex;refine⟨j4.refl _,λd hd=>?_⟩;unfold chs at hd;rw[X6,gN,hc]at hd;cases hd;rfl
theorem DI.str(h:DT X ρ it (.str y))(ha:ascii y=af):DI X ρ tg it (chs y):=λσ H R r q pins s I=>by
 refine thn (h σ H (λv H1=>v=.str y/\j4 H H1) r (λv H1 g e=>⟨e,g⟩) pins s I) λv s1 ⟨x,H1,I1,r1,ex,g1⟩=>?_;subst ex;obtain⟨t,rfl⟩:=(show ∃t,v=b8 y t from r1)
 refine wpAny_pyIter_ascii ha ?_;refine⟨s1.heap.objs.size,[s1.heap.objs.size],_,_,H1,rfl,I1.kept (t':=s1.toks) λb o e=>kj _ e,j5m _ y t,⟨_,xx _ rfl,rfl,rfl⟩,λb hb=>?_,q _ H1 g1 (j7a y)⟩;have e:b=s1.heap.objs.size:=by simpa using hb
 subst e;exact I1.fpOk (X5 _) (I1.hok.fresh (X5 _))
noncomputable def inS(y z:ao):Bool:=!(bB z y 0 z.length 1).isEmpty
theorem Fj:OpR X (bj .Gt) (λx y H Q=>∃i j,x=.str i/\y=.str j/\Q (.bl (decide (j.cps.toList<i.cps.toList))) H):=by intro pins s σ H x y v u Q I rx ry h;obtain⟨i,j,rfl,rfl,q⟩:=h;obtain⟨t,rfl⟩:=rx;obtain⟨t',rfl⟩:=ry;exact P.gt_str (jw I q rfl)
theorem DE.ltS(ha:DT X ρ a (.str y))(hb:DT X ρ b (.str z)):DE X ρ (.Compare a [.Lt] [b] pos) (.bl (decide (y.cps.toList<z.cps.toList))):=λσ H Q R q =>(Ji Ff peS peS (z8 _)).to (ha σ H _ R λv H1 g1 e1=>hb σ H1 _ (R.grow g1) λu H2 g2 e2=>⟨y,z,e1,e2,q _ H2 (g1.trans g2) rfl⟩)
theorem DB.ltS(ha:DT X ρ a (.str y))(hb:DT X ρ b (.str z)):DB X ρ (.Compare a [.Lt] [b] pos) (decide (y.cps.toList<z.cps.toList)):=λσ H Q R q =>(J5 Ff peS peS (z8 _)).to (ha σ H _ R λv H1 g1 e1=>hb σ H1 _ (R.grow g1) λu H2 g2 e2=>⟨y,z,e1,e2,_,rfl,q H2 (g1.trans g2)⟩)
theorem DE.gtS(ha:DT X ρ a (.str y))(hb:DT X ρ b (.str z)):DE X ρ (.Compare a [.Gt] [b] pos) (.bl (decide (z.cps.toList<y.cps.toList))):=λσ H Q R q =>(Ji Fj peS peS (z8 _)).to (ha σ H _ R λv H1 g1 e1=>hb σ H1 _ (R.grow g1) λu H2 g2 e2=>⟨y,z,e1,e2,q _ H2 (g1.trans g2) rfl⟩)
theorem DB.gtS(ha:DT X ρ a (.str y))(hb:DT X ρ b (.str z)):DB X ρ (.Compare a [.Gt] [b] pos) (decide (z.cps.toList<y.cps.toList)):=λσ H Q R q =>(J5 Fj peS peS (z8 _)).to (ha σ H _ R λv H1 g1 e1=>hb σ H1 _ (R.grow g1) λu H2 g2 e2=>⟨y,z,e1,e2,_,rfl,q H2 (g1.trans g2)⟩)
theorem DE.inS(ha:DT X ρ a (.str y))(hb:DT X ρ b (.str z))(hm:aO .In b=ae):DE X ρ (.Compare a [.In] [b] pos) (.bl (inS y z)):=λσ H Q R q =>(Ji Fg peS peS hm).to (ha σ H _ R λv H1 g1 e1=>hb σ H1 _ (R.grow g1) λu H2 g2 e2=>⟨y,z,e1,e2,q _ H2 (g1.trans g2) rfl⟩)
theorem DB.inS(ha:DT X ρ a (.str y))(hb:DT X ρ b (.str z))(hm:aO .In b=ae):DB X ρ (.Compare a [.In] [b] pos) (inS y z):=λσ H Q R q =>(J5 Fg peS peS hm).to (ha σ H _ R λv H1 g1 e1=>hb σ H1 _ (R.grow g1) λu H2 g2 e2=>⟨y,z,e1,e2,_,rfl,q H2 (g1.trans g2)⟩)
theorem mulOk_of(h1:1<=k/\k<=1000)(h2:y.length<=1000):MulOk y k:=by
 refine⟨?_,λ_ _=>?_,λ_ _=>?_⟩
 .simp;omega
 .have:(1000:Int)<=(2^63-1)/k:=Int.le_ediv_of_mul_le nofun nofun
  omega
 .have hk:k.toNat<=1000:=by omega
  have:y.length*k.toNat<=1000000:=Nat.mul_le_mul h2 hk;unfold b9;rw[cg];simp;omega
theorem j1j:OpR X (bh .Mult) (λx y H Q=>∃i k,x=.str i/\y=.int k/\MulOk i k/\Q (.str (iD i k)) H):=by intro pins s σ H x y v u Q I rx ry h;obtain⟨i,k,rfl,rfl,hm,q⟩:=h;obtain⟨t,rfl⟩:=rx;obtain⟨t',rfl⟩:=ry;exact SB.mul hm λt' tk=>⟨.str _,H,I.un (t':=tk) Un.refl I.hok,⟨_,rfl⟩,q⟩
theorem DE.mulS(ha:DT X ρ a (.str y))(hb:DT X ρ b (.int k))(h1:1<=k/\k<=1000)(h2:y.length<=1000):DE X ρ (.BinOp a .Mult b pos) (.str (iD y k)):=λσ H Q R q =>(Vf j1j peS peS).to (ha σ H _ R λv H1 g1 e1=>hb σ H1 _ (R.grow g1) λu H2 g2 e2=>⟨y,k,e1,e2,mulOk_of h1 h2,q _ H2 (g1.trans g2) rfl⟩)
end
section
variable{X:Cx}{pins:k72}{σ:St}{H:Hp}{l S I:ak}{xs:List V}{R:fi->aq->Prop}{dv:aj}
end
section
variable{X:Cx}{ρ:Rho}{a b c:au}{ns:List Int}{i j k:Int}{n:Nat}{p p1 pk pos:aR}
end
section
variable{X:Cx}{ρ ρ1 ρ':Rho}{e c:au}{ss sa sb:List aQ}{is is2:List Nat}{d:D}{i:Nat}{x:ao}{p pos:aR}
def DMs(X:Cx)(ρ ρ':Rho)(is:List Nat)(ss:List aQ):Prop:=∀(σ:St)(H:Hp)(E:Ends),Rep X.K ρ σ H->(∀σ' H',j4 H H'->Rep X.K ρ' σ' H'->(∀j,j∉is->σ'[j]?=σ[j]?)->E.nx σ' H')->Zr X ss E σ H
def DMt(X:Cx)(ρ ρ':Rho)(is:List Nat)(full tl:List aQ):Prop:=∀(σ:St)(H:Hp)(E:Ends),Rep X.K ρ σ H->(∀σ' H',j4 H H'->Rep X.K ρ' σ' H'->(∀j,j∉is->σ'[j]?=σ[j]?)->Zr X tl E σ' H')->Zr X full E σ H
variable{tl:List aQ}
end
def Kp(ρ ρ':Rho)(is:List Nat):Prop:=(∀b∈owns ρ',b∈owns ρ)/\∀j,j∉is->ρ'[j]?=ρ[j]?
section
variable{X:Cx}{ρ ρ1 ρ':Rho}{is js:List Nat}{i:Nat}{d:D}
end
noncomputable def jk9:HO->Bool
 |.ins _ _ _=>af
 |_=>ae
def Jz(H H':Hp):Prop:=∀b o,H b=aa o->jk9 o=ae->H' b=aa o
theorem Jz.del{H H':Hp}{A:List ak}(g:Jz H H'):Jz (del H A) (del H' A):=λb o h n=>by obtain⟨nb,e⟩:=of_del h;rw[j6 nb];exact g b o e n
theorem Jz.seq{K:k70}{H H':Hp}{a:ak}{xs:List V}(g:Jz H H')(h:SqL K H a xs):SqL K H' a xs:=by
 rcases h with (h|⟨o,h⟩)|h
 .exact .inl (.inl (g _ _ h rfl))
 .exact .inl (.inr ⟨o,g _ _ h rfl⟩)
 .exact .inr h
theorem Jz.seqT{K:k70}{H H':Hp}{a:ak}{xs:List V}(g:Jz H H')(h:SqT K H a xs):SqT K H' a xs:=by
 rcases h with (h|⟨o,h⟩)|h
 .exact .inl (.inl (g _ _ h rfl))
 .exact .inl (.inr ⟨o,g _ _ h rfl⟩)
 .exact .inr h
theorem zq.monoN{H H':Hp}(g:Jz H H'):∀{cs:List ak}{vs:List V},zq H cs vs->zq H' cs vs
 |[],_,h=>h
 |_::_,_,⟨v,r,o,u,e,h,d,rv,l⟩=>⟨v,r,o,u,e,g _ _ h rfl,d,rv,l.monoN g⟩
theorem LamAt.monoN{K:k70}{H H':Hp}{x:ao}{a c:ak}{tx:Tx}{cl:List (ao×ak)}{vs:List V}(g:Jz H H')(h:LamAt K H x a c tx cl vs):LamAt K H' x a c tx cl vs :=
 ⟨h.tx,let ⟨pm,ctv,e⟩:=h.fo;⟨pm,ctv,g _ _ e rfl⟩,let ⟨oc,e,q⟩:=h.co;⟨oc,g _ _ e rfl,q⟩,h.nm,h.nd,h.cs.monoN g⟩
mutual
theorem Enc.monoN{K:k70}{H H':Hp}(g:Jz H H'):∀{d:D}{v:V},Enc K H d v->Enc K H' d v
 |.non,_,h=>h
 |.bl _,_,h=>h
 |.int _,_,h=>h
 |.str _,_,h=>h
 |.tup _,_,⟨a,xs,e,q,l⟩=>⟨a,xs,e,g.seqT q,j5.monoN g l⟩
 |.lst _,_,⟨a,xs,e,q,l⟩=>⟨a,xs,e,g.seq q,j5.monoN g l⟩
 |.dct _ _,_,⟨a,xs,ep,vs,e,q,ek,kt,rv,l⟩=>⟨a,xs,ep,vs,e,g _ _ q rfl,ek,λx hx=>g.seqT (kt x hx),rv,j5.monoN g l⟩
 |.sct _,_,⟨a,e,q⟩=>⟨a,e,g _ _ q rfl⟩
 |.fn _ _,_,⟨a,c,tx,cl,vs,e,q,l⟩=>⟨a,c,tx,cl,vs,e,q.monoN g,j5.monoN g.del l⟩
theorem j5.monoN{K:k70}{H H':Hp}(g:Jz H H'):∀{ds:List D}{xs:List V},j5 K H ds xs->j5 K H' ds xs
 |[],_,h=>h
 |_::_,_,⟨x,r,e,h,l⟩=>⟨x,r,e,Enc.monoN g h,j5.monoN g l⟩
end
theorem Rep.monoN{K:k70}{ρ:Rho}{σ:St}{H H':Hp}(R:Rep K ρ σ H)(g:Jz H H'):Rep K ρ σ H' :=
 ⟨R.len,λi d e=>let ⟨v,q,h⟩:=R.val i d e;⟨v,q,h.monoN g.del⟩,λi a ds e=>let ⟨q,xs,h,l⟩:=R.own i a ds e;⟨q,xs,g _ _ h rfl,l.monoN g.del⟩,R.nd,λi a o x e=>let ⟨q,h⟩:=R.raw i a o x e;⟨q,h.elim .inl λh=>.inr ⟨g.del _ _ h.1 rfl,h.2⟩⟩,λx hx c P e=>g _ _ (R.tb x hx c P e) rfl⟩
noncomputable def pcF(b:ak)(k:Int):List (ao×V):=[("standing",.ref b),("spot",.int k)]
structure Ob where
 a:ak
 dx:ak
 b:ak
structure PcAt(C:ak)(H:Hp)(o:Ob)(ls:List ao)(k:Nat):Prop where
 ob:H o.a=aa (.ins C o.dx (pcF o.b (k:Int)))
 li:H o.b=aa (.lst (ls.map V.str))
def But(a:ak)(H H':Hp):Prop:=∀b o,b≠a->H b=aa o->H' b=aa o
theorem K4 (b:ak) (k:Int):(pcF b k).lookup ("standing":ao)=aa (.ref b):=by unfold pcF;rfl
theorem O8 (b:ak) (k:Int):(pcF b k).lookup ("spot":ao)=aa (.int k):=by
 unfold pcF;rw[Xc];have:(("spot":ao)==("standing":ao))=ae:=by decide +kernel
 rw[this];rfl
theorem O9 (b:ak) (k:Int) {m:ao} (h1:(m==("standing":ao))=ae) (h2:(m==("spot":ao))=ae):(pcF b k).lookup m=ah:=by unfold pcF;rw[Xc,h1,Xc,h2];rfl
theorem jaw (b:ak) (k j:Int):Jc "spot" (.int j) (pcF b k)=pcF b j:=by
 have z:¬(("standing":ao) = "spot"):=by decide +kernel
 show(if ("standing":ao) = "spot" then _ else(("standing":ao),V.ref b)::(if ("spot":ao) = "spot" then[(("spot":ao),V.int j)]else _))=pcF b j;rw[if_neg z,if_pos rfl];rfl
theorem j6o (b:ak):Jc "spot" (.int 0) (Jc "standing" (.ref b) [])=pcF b 0:=by
 have z:¬(("standing":ao) = "spot"):=by decide +kernel
 show(if ("standing":ao) = "spot" then _ else(("standing":ao),V.ref b)::Jc "spot" (.int 0) [])=pcF b 0;rw[if_neg z];rfl
theorem PcAt.stay{C:ak}{H H':Hp}{o:Ob}{ls:List ao}{k:Nat}(h:PcAt C H o ls k)(g:j4 H H'):PcAt C H' o ls k:=⟨g _ _ h.ob,g _ _ h.li⟩
structure PcT(K:k70)(mg:k73)(C fA fT fL fI:ak):Prop where
 cl:Cls K C
 nS:Zb K C "standing"
 nP:Zb K C "spot"
 mA:Meth K C "ahead" fA
 mT:Meth K C "taken" fT
 mL:Meth K C "all_taken" fL
 mkI:Mk K C fI
 mgC:mg "Pieces" = aa (.ref C)
 len:mg "len" = ah
def Wu(C:ak):Sp:=λvs H Q _=>∃(o:Ob)(ls:List ao)(k:Nat),vs=[.ref o.a]/\PcAt C H o ls k/\Q (.str (ls.getD k "")) H
def Bg(C:ak):Sp:=λvs H Q _=>∃(o:Ob)(ls:List ao)(k:Nat),vs=[.ref o.a]/\PcAt C H o ls k/\∀H',PcAt C H' o ls (k+1)->But o.a H H'->Q (.str (ls.getD k "")) H'
def j15(C:ak):Sp:=λvs H Q _=>∃(o:Ob)(ls:List ao)(k:Nat),vs=[.ref o.a]/\PcAt C H o ls k/\Q (.bl (decide (ls.length<=k))) H
section
variable{P:ay}{w:aD}{K:k70}{mg:k73}{base:aG}{C fA fT fL fI f:ak}{fd fdA:aM}{st:aQ}
noncomputable def j5c(n:Nat)(p1 p2 p3 p4 p5 p6 p7 p8 p9 p10 p11 p12 p13 p14 p15 p16:aR):List aQ :=
 [.If (.Compare (.Attribute (.Name "self" p1) "spot" p2) [.Lt] [.Call (.Name "len" p3) [.Attribute (.Name "self" p4) "standing" p5] [] p6] p7) [.Return (aa (.Subscript (.Attribute (.Name "self" p8) "standing" p9) (.Attribute (.Name "self" p10) "spot" p11) p12)) p13] [] p14,
 .Return (aa (.Constant (.str "") n p15)) p16]
theorem jbq {ls:List ao} {k:Nat} (h:k<ls.length):(ls.map V.str)[k]?=aa (.str (ls.getD k "")):=by rw[X6,kh h,xj,kh h];rfl
theorem j6u {n:Nat} {p1 p2 p3 p4 p5 p6 p7 p8 p9 p10 p11 p12 p13 p14 p15 p16:aR} (F:Fun K "ahead" "Pieces.ahead" st f fd) (T:PcT K mg C fA fT fL fI) (S:FnScope ["self"] ["self"] (j0 st)) (hb:je st=j5c n p1 p2 p3 p4 p5 p6 p7 p8 p9 p10 p11 p12 p13 p14 p15 p16)
  (hv:Vis (j0 st) "self") (hg:(j0 st).names.lookup ("len":ao)=aa .globalImplicit):FnOk P w K mg base CX0 1 f fd ["self"] (Wu C):=by
 refine F.ok S (λvs H Q E h=>?_) (λcdv A outer s H vs Q E hr h=>?_)
 .obtain⟨a,ls,k,rfl,_⟩:=h;rfl
 .obtain⟨⟨a,dx,b⟩,ls,k,rfl,⟨h1,h2⟩,q⟩:=h;rw[hb];refine⟨_,qg (Cg (J5 j1k (Vs (jz (i:=0) rfl hv) rfl) (zc Z8 hg T.len cj (j9 (Vs (jz (i:=0) rfl hv) rfl) jt)) (z8 _)) (Yr (Qg (Wy j0h (Vs (jz (i:=0) rfl hv) rfl) (Vs (jz (i:=0) rfl hv) rfl) (λ_ _=>rfl)))) Ys) (Yr (Qg W8)),?_⟩;refine⟨_,rfl,a,C,dx,_,_,rfl,h1,T.cl,T.nP,O8 _ _,_,rfl,a,C,dx,_,_,rfl,h1,T.cl,T.nS,K4 _ _,b,_,rfl,.inl (SqL.of h2),_,_,rfl,rfl,_,rfl,?_⟩;rw[xg];refine jew (λhc=>?_) (λhc=>?_)
  .have hlt:k<ls.length:=by have:=of_decide_eq_true hc;omega
   exact⟨_,rfl,a,C,dx,_,_,rfl,h1,T.cl,T.nS,K4 _ _,_,rfl,a,C,dx,_,_,rfl,h1,T.cl,T.nP,O8 _ _,b,_,(k:Int),_,rfl,rfl,SqL.of h2,U0 (jbq hlt),q⟩
  .have hlt:¬k<ls.length:=λz=>hc (decide_eq_true nofun);have e:ls.getD k "" = "":=by rw[xj,T5 nofun];rfl
   rw[e]at q;exact q
def Qa(X:Cx)(o:au)(m:ao)(apos pos:aR):Prop:=∃pl:kZ Bool,aB (.Call (.Attribute o m apos) [] [] pos) X.env=(do
   let ov <-aB o X.env
   eB apos.atName
   let (f,first) <-bN [ov] (ig ov m pl)
   callWith pos f first (aP pos (ai [] X.env)) (bP pos (b7 [] X.env)))
noncomputable def j2w(n:Nat)(p1 p2 p3 p4 p5 p6 p7 p8 p9 p10 p11 p12 p13 p14:aR):List aQ :=
 [.Assign [.Name "piece" p1] (.Call (.Attribute (.Name "self" p2) "ahead" p3) [] [] p4) p5,
 .Assign [.Attribute (.Name "self" p6) "spot" p7] (.BinOp (.Attribute (.Name "self" p8) "spot" p9) .Add (.Constant (.int 1) n p10) p11) p12,
 .Return (aa (.Name "piece" p13)) p14]
theorem j6t {n:Nat} {p1 p2 p3 p4 p5 p6 p7 p8 p9 p10 p11 p12 p13 p14:aR} (F:Fun K "taken" "Pieces.taken" st f fd) (T:PcT K mg C fA fT fL fI) (S:FnScope ["self","piece"] ["self"] (j0 st)) (hb:je st=j2w n p1 p2 p3 p4 p5 p6 p7 p8 p9 p10 p11 p12 p13 p14)
  (hv:Vis (j0 st) "self") (hl:(j0 st).names.lookup ("piece":ao)=aa .local) (hm:∀cdv A outer s H E,Qa (qt CX0 P w K mg base ["self","piece"] "Pieces.taken" (j0 st) f cdv A outer s H E).nox (.Name "self" p2) "ahead" p3 p4)
  (GA:FnOk P w K mg base CX0 1 fA fdA ["self"] (Wu C)) (bA:Binds K fdA ["self"] []):FnOk P w K mg base CX0 2 f fd ["self"] (Bg C):=by
 refine F.ok S (λvs H Q E h=>?_) (λcdv A outer s H vs Q E hr h=>?_)
 .obtain⟨a,ls,k,rfl,_⟩:=h;rfl
 .obtain⟨⟨a,dx,b⟩,ls,k,rfl,⟨h1,h2⟩,q⟩:=h;rw[hb];obtain⟨pl,ht⟩:=hm cdv A outer s H E;refine⟨_,qg (Qf (i:=1) S.nd rfl (aY hl) (Ua (jz (i:=0) rfl hv) T.cl T.mA GA hr bA .nil Zt ht)) (qg (Ly (jz (i:=0) rfl hv) (Vf j3q (Vs (jz (i:=0) rfl hv) rfl) K1) rfl) (Yr (Qg (jz (i:=1) rfl (aY hl))))),?_⟩;have h1:H a=aa (.ins C dx (pcF b (k:Int))):=h1;have h2:H b=aa (.lst (ls.map V.str)):=h2;refine⟨_,rfl,a,dx,_,rfl,h1,O9 _ _ (by decide +kernel) (by decide +kernel),⟨a,dx,b⟩,ls,k,rfl,⟨h1,h2⟩,?_⟩;refine⟨_,rfl,a,C,dx,_,_,rfl,h1,T.cl,T.nP,O8 _ _,_,_,rfl,rfl,_,rfl,a,C,dx,_,rfl,h1,T.cl,T.nP,(by show 2<1000;decide),_,rfl,?_⟩;have nb:b≠a:=λz=>by rw[z,h1]at h2;cases h2
  refine q _ ⟨?_,by show upd H a _ b=_;rw[jf nb];exact h2⟩ (λc o n hc=>by rw[jf n];exact hc);show upd H a _ a=_;rw[jr,jaw];rfl
noncomputable def allB(p1 p2 p3 p4 p5 p6 p7 p8:aR):List aQ:=[.Return (aa (.Compare (.Attribute (.Name "self" p1) "spot" p2) [.GtE] [.Call (.Name "len" p3) [.Attribute (.Name "self" p4) "standing" p5] [] p6] p7)) p8]
theorem je3 {p1 p2 p3 p4 p5 p6 p7 p8:aR} (F:Fun K "all_taken" "Pieces.all_taken" st f fd) (T:PcT K mg C fA fT fL fI) (S:FnScope ["self"] ["self"] (j0 st)) (hb:je st=allB p1 p2 p3 p4 p5 p6 p7 p8)
  (hv:Vis (j0 st) "self") (hg:(j0 st).names.lookup ("len":ao)=aa .globalImplicit):FnOk P w K mg base CX0 1 f fd ["self"] (j15 C):=by
 refine F.ok S (λvs H Q E h=>?_) (λcdv A outer s H vs Q E hr h=>?_)
 .obtain⟨a,ls,k,rfl,_⟩:=h;rfl
 .obtain⟨⟨a,dx,b⟩,ls,k,rfl,⟨h1,h2⟩,q⟩:=h;rw[hb];refine⟨_,Yr (Qg (Ji j1l (Vs (jz (i:=0) rfl hv) rfl) (zc Z8 hg T.len cj (j9 (Vs (jz (i:=0) rfl hv) rfl) jt)) (Mj _ (by decide) (by decide)))),?_⟩;refine⟨_,rfl,a,C,dx,_,_,rfl,h1,T.cl,T.nP,O8 _ _,_,rfl,a,C,dx,_,_,rfl,h1,T.cl,T.nS,K4 _ _,b,_,rfl,.inl (SqL.of h2),_,_,rfl,rfl,?_⟩;rw[xg];have e:decide (((ls.length:Nat):Int)<=((k:Nat):Int))=decide (ls.length<=k):=by
   by_cases z:ls.length<=k
   .rw[decide_eq_true z,decide_eq_true nofun]
   .rw[decide_eq_false z,decide_eq_false nofun]
  rw[<-e]at q;exact q
end
theorem Nx:∀(tk:Nat)(xs:List ao),Vals (xs.map V.str) (strsFrom tk xs)
 |_,[]=>.nil
 |tk,x::r=>.cons ⟨tk,rfl⟩ (Nx (tk+1) r)
section
variable{X:Cx}{ρ:Rho}{a:au}{p1 p2 p3:aR}{y:ao}
theorem j6v:MtR X "str.split" (λx vs H Q=>∃z,x=.str z/\vs=[.str " "]/\z.length<=100000/\(aI z " ").length<=ar/\∀p,H p=ah->Q (.ref p) (upd H p (.lst ((aI z " ").map V.str)))):=by
 rintro pins s σ H x vs v us Q I rx rv ⟨z,e,e',hz,hl,q⟩;subst e e';obtain⟨t,rfl⟩:=(show ∃t,v=b8 z t from rx)
 obtain⟨u,eu,ru⟩:=rv.one;subst eu;obtain⟨t2,rfl⟩:=(show ∃t,u=b8 " " t from ru)
 have lay:∀(its:List aj)(tk:Nat),Vals ((aI z " ").map V.str) its->Inv X pins σ (upd H s.heap.objs.size (.lst ((aI z " ").map V.str))) { s with heap:=s.heap.push { cls:=.type "list",data:=.seq its.toArray },toks:=tk }:=λits tk hv =>I.laid (t':=tk) (λb o e=>kj _ e) (X5 _) ⟨by rw[xg];exact hl,its,0,hv,xx _ rfl⟩
 have fr:H s.heap.objs.size=ah:=I.hok.fresh (X5 _);have hsz:z.length<=ar:=by rw[cg];omega
 have hy:((" ":ao).length==0)=ae:=by decide
 by_cases h1:(decide (z.length<(" ":ao).length) || decide (cP z<cP (" ":ao)))=af
 .have es:aI z " " = [z]:=if_pos h1;refine bD dC (d9 _ _ _) fP (fD _ _) (meets_str_split_cannot_occur z " " t t2 h1) ?_;exact⟨.ref s.heap.objs.size,_,lay _ _ (by rw[es];exact .cons ⟨t,rfl⟩ .nil),rfl,q _ fr⟩
 .have h1:(decide (z.length<(" ":ao).length) || decide (cP z<cP (" ":ao)))=ae:=by simpa using h1
  by_cases h2:(bB z " " 0 z.length (z.length+1)).isEmpty=af
  .have es:aI z " " = [z]:=by unfold aI;rw[if_neg (by rw[h1];decide),if_pos h2]
   refine bD dC (d9 _ _ _) fP (fD _ _) (meets_str_split_not_found z " " t t2 h1 hy h2) ?_;exact⟨.ref s.heap.objs.size,_,lay _ _ (by rw[es];exact .cons ⟨t,rfl⟩ .nil),rfl,q _ fr⟩
  .have h2:(bB z " " 0 z.length (z.length+1)).isEmpty=ae:=by simpa using h2
   have es:aI z " " = lB z (bB z " " 0 z.length (z.length+1)) (" ":ao).length:=by unfold aI;rw[if_neg (by rw[h1];decide),if_neg (by rw[h2];decide)]
   refine bD dC (d9 _ _ _) fP (fD _ _) (meets_str_split_sep z " " t t2 h1 hy h2 hsz (by rw[<-es];exact hl)) ?_;exact⟨.ref s.heap.objs.size,_,lay _ _ (by rw[es];exact Nx _ _),rfl,q _ fr⟩
end
section
variable{P:ay}{w:aD}{K:k70}{mg:k73}{base:aG}{C fA fT fL fI f:ak}{fd:aM}{st:aQ}
noncomputable def j99(n n2:Nat)(p1 p2 p3 p4 p5 p6 p7 p8 p9 p10 p11:aR):List aQ :=
 [.Assign [.Attribute (.Name "self" p1) "standing" p2] (.Call (.Attribute (.Name "text" p3) "split" p4) [.Constant (.str " ") n p5] [] p6) p7,
 .Assign [.Attribute (.Name "self" p8) "spot" p9] (.Constant (.int 0) n2 p10) p11]
def Bh(C:ak):Sp:=λvs H Q _=>∃(a dx:ak)(t:ao),vs=[.ref a,.str t]/\H a=aa (.ins C dx [])/\t.length<=100000/\(aI t " ").length<=ar/\∀b H',H b=ah->PcAt C H' ⟨a,dx,b⟩ (aI t " ") 0->But a H H'->Q .non H'
theorem jb1 {n n2:Nat} {p1 p2 p3 p4 p5 p6 p7 p8 p9 p10 p11:aR} (F:Fun K "__init__" "Pieces.__init__" st f fd) (T:PcT K mg C fA fT fL fI) (S:FnScope ["self","text"] ["self","text"] (j0 st)) (hb:je st=j99 n n2 p1 p2 p3 p4 p5 p6 p7 p8 p9 p10 p11)
  (hv:Vis (j0 st) "self") (ht:Vis (j0 st) "text") (hl:(p4.endLine==p6.line)=af):FnOk P w K mg base CX0 1 f fd ["self","text"] (Bh C):=by
 refine F.ok S (λvs H Q E h=>?_) (λcdv A outer s H vs Q E hr h=>?_)
 .obtain⟨a,dx,t,rfl,_⟩:=h;rfl
 .obtain⟨a,dx,t,rfl,h1,hz,hn,q⟩:=h;rw[hb];refine⟨_,qg (Ly (jz (i:=0) rfl hv) (Y9 gh dC PySem.F.type_str_split j6v (jz (i:=1) rfl ht) (j9 W8 jt) rfl rfl hl) rfl) (Yr (Ly (jz (i:=0) rfl hv) K1 rfl)),?_⟩;refine⟨_,rfl,rfl,t,rfl,rfl,hz,hn,λb hb'=>?_⟩;have nab:a≠b:=qw h1 hb';refine⟨_,rfl,a,C,dx,[],rfl,(by rw[jf nab];exact h1),T.cl,T.nS,(by show 0<1000;decide),_,rfl,a,C,dx,_,rfl,jr,T.cl,T.nP,(by show 1<1000;decide),?_⟩;refine q b _ hb' ⟨by show upd _ a _ a=_;rw[jr,j6o];rfl,by show upd _ a _ b=_;rw[jf nab.symm,jf nab.symm,jr]⟩ λc o n hc=>?_;rw[jf n,jf n,jf (qw hc hb')];exact hc
end
structure Pm where
 nx:Rho->Nat->Prop
 rt:D->Nat->Prop
 ex:ao->Rho->Prop
def FrM(a:ak)(ρ ρ':Rho)(H H':Hp):Prop:=j4 (del H (a::owns ρ)) (del H' (a::owns ρ'))
structure EndsM(X:Cx)(C:ak)(o:Ob)(ls:List ao)(ρ:Rho)(H:Hp)(P:Pm)(E:Ends):Prop where
 nx:∀ρ' k' σ' H',P.nx ρ' k'->Rep X.K ρ' σ' H'->PcAt C (del H' (owns ρ')) o ls k'->FrM o.a ρ ρ' H H'->E.nx σ' H'
 rt:∀d k' v H',P.rt d k'->PcAt C H' o ls k'->j4 (del H (o.a::owns ρ)) (del H' [o.a])->Enc X.K H' d v->E.rt v H'
 ex:∀x ρ' σ' H',P.ex x ρ'->Rep X.K ρ' σ' H'->FrM o.a ρ ρ' H H'->Ws X σ' H' x
structure PcX(X:Cx)(C:ak):Prop where
 ex:∃(fA fT fL fI:ak)(dA dT dL dI:aM),PcT X.K X.mg C fA fT fL fI/\(FnOk X.prog X.w X.K X.mg X.base CX0 1 fA dA ["self"] (Wu C)/\Binds X.K dA ["self"] []) /\
  (FnOk X.prog X.w X.K X.mg X.base CX0 2 fT dT ["self"] (Bg C)/\Binds X.K dT ["self"] [])/\(FnOk X.prog X.w X.K X.mg X.base CX0 1 fL dL ["self"] (j15 C)/\Binds X.K dL ["self"] []) /\
  (FnOk X.prog X.w X.K X.mg X.base CX0 1 fI dI ["self","text"] (Bh C)/\Binds X.K dI ["self","text"] [])/\Room 3 X.A
def MSs(X:Cx)(C:ak)(o:Ob)(ls:List ao)(ρ:Rho)(k:Nat)(sts:List aQ)(P:Pm):Prop :=
 ∀σ H E,Rep X.K ρ σ H->PcAt C (del H (owns ρ)) o ls k->EndsM X C o ls ρ H P E->Zr X sts E σ H
section
variable{X:Cx}{C:ak}{o:Ob}{ls:List ao}{ρ ρ1:Rho}{H H1 H':Hp}{P:Pm}{E:Ends}{k k':Nat}{st:aQ}{rest:List aQ}{σ:St}
theorem FrM.trans{a:ak}{ρ2:Rho}{H2:Hp}(f:FrM a ρ ρ1 H H1)(g:FrM a ρ1 ρ2 H1 H2):FrM a ρ ρ2 H H2:=j4.trans f g
theorem FrM.of0{a:ak}(f:Fr0 ρ ρ1 H H1):FrM a ρ ρ1 H H1:=λb u z=>by
 obtain⟨nb,z⟩:=of_del z;have nb2:b∉owns ρ:=λy=>nb (km _ y);obtain⟨n1,z1⟩:=of_del (f b u (by rw[j6 nb2];exact z));rw[j6];exact z1;intro y;rcases xn.mp y with e|y
 .exact nb (by rw[e];exact xm)
 .exact n1 y
theorem FrM.but{a:ak}(h:But a H H'):FrM a ρ ρ H H':=λb u z=>by obtain⟨nb,z⟩:=of_del z;rw[j6 nb];exact h b u (λy=>nb (by rw[y];exact xm)) z
theorem EndsM.step(h:EndsM X C o ls ρ H P E)(f:FrM o.a ρ ρ1 H H1):EndsM X C o ls ρ1 H1 P E :=
 ⟨λρ' k' σ' H' n R pc g=>h.nx ρ' k' σ' H' n R pc (f.trans g),λd k' v H' n pc g e=>h.rt d k' v H' n pc (j4.trans f g) e,λx ρ' σ' H' n R g=>h.ex x ρ' σ' H' n R (f.trans g)⟩
theorem PcAt.nin(h:PcAt C (del H (owns ρ)) o ls k):o.a∉owns ρ/\o.b∉owns ρ:=⟨(of_del h.ob).1,(of_del h.li).1⟩
theorem PcAt.all(h:PcAt C (del H (owns ρ)) o ls k):PcAt C H o ls k:=h.stay ji
theorem PcAt.in'(h:PcAt C H' o ls k')(h0:PcAt C (del H (owns ρ)) o ls k)(sub:∀b∈owns ρ1,b∈owns ρ):PcAt C (del H' (owns ρ1)) o ls k' :=
 ⟨by rw[j6 λz=>h0.nin.1 (sub _ z)];exact h.ob,by rw[j6 λz=>h0.nin.2 (sub _ z)];exact h.li⟩
theorem Jz.but{a dx:ak}{fs:List (ao×V)}(h:H a=aa (.ins C dx fs))(b:But a H H'):Jz H H':=λc u hc n=>b c u (λz=>by rw[z,h]at hc;cases hc;cases n) hc
theorem But.ofDel{a:ak}(g:j4 (del H [a]) (del H' [a])):But a H H':=λc u n hc=>(of_del (g c u (by rw[j6 (by simpa using n)];exact hc))).2
theorem MSs.plain{N:Rho->Prop}(h1:DS X ρ st { nx:=N,rt:=λr=>∃d,r=.val d/\P.rt d k,ex:=P.ex })(h2:∀ρ1,N ρ1->MSs X C o ls ρ1 k rest P):MSs X C o ls ρ k (st::rest) P:=λσ H E R pc q =>
 (qg psS zr).to (h1 σ H { E with nx:=Zr X rest E } R ⟨λρ' σ' H' n R' f=>h2 ρ' n σ' H' E R' (pc.stay f) (q.step (.of0 f)),λ_ _ _ n=>n.elim,λ_ _ _ n=>n.elim,
  λr v H' ⟨d,e,n⟩ z=>by
   subst e
   obtain⟨g,en⟩:=z
   refine q.rt d k v H' n (pc.stay g) (λb u y=>?_) en
   obtain⟨nb,y⟩:=of_del y
   rw[j6 (by intro z;exact nb (by rw[X3.mp z];exact xm))]
   exact g b u (by rw[j6 λz=>nb (km _ z)];exact y),
  λx ρ' σ' H' n R' f=>q.ex x ρ' σ' H' n R' (.of0 f)⟩)
theorem MSs.nil(h:P.nx ρ k):MSs X C o ls ρ k [] P:=λσ H E R pc q=>Ys.to (q.nx ρ k σ H h R pc (.of0 (Fr0.refl ρ H)))
theorem MSs.ife{c:au}{sa:List aQ}{b:Bool}{pos:aR}(hc:DB X ρ c b)(ha:b=af->MSs X C o ls ρ k sa { P with nx:=λ_ _=>False })(hb:b=ae->MSs X C o ls ρ k rest P):MSs X C o ls ρ k (.If c sa [] pos::rest) P:=λσ H E R pc q=>by
 refine(qg (Cg ptS zr zr) zr).to (hc σ H _ R λH1 g1=>?_);have pc1:PcAt C (del H1 (owns ρ)) o ls k:=pc.stay (jb g1);have q1:=q.step (.of0 (Fr0.grow g1));cases b with
 |true=>exact Wf (ha rfl σ H1 _ (R.grow g1) pc1 ⟨λ_ _ _ _ n=>n.elim,q1.rt,q1.ex⟩)
 |false=>exact Wg (Ys.to (hb rfl σ H1 E (R.grow g1) pc1 q1))
section
variable{pi i:Nat}{ob:dm}{x y:ao}{p py p1 p2 pos:aR}
theorem U7 {Q:VK} (T:PcX X C) (hp:ρ[pi]?=aa (.raw o.a ob rfN)) (hpN:X.N[pi]?=aa y) (hv:Vis X.env.scope y) (hd:(y==k74)=ae) (hcd:(y==k75)=ae) (mc:Qa X (.Name y py) "taken" p1 p2)
  (R:Rep X.K ρ σ H) (pc:PcAt C (del H (owns ρ)) o ls k) (q:∀H',Rep X.K ρ σ H'->PcAt C (del H' (owns ρ)) o ls (k+1)->FrM o.a ρ ρ H H'->Q (.str (ls.getD k "")) H'):Jv X (.Call (.Attribute (.Name y py) "taken" p1) [] [] p2) σ H Q:=by
 obtain⟨fA,fT,fL,fI,dA,dT,dL,dI,T,_,⟨GT,bT⟩,_,_,hr⟩:=T.ex;obtain⟨pl,ht⟩:=mc;refine(Ua (jz hpN hv hd hcd) T.cl T.mT GT (hr.mono (by decide)) bT .nil Zt ht).to ⟨_,(R.raw pi _ _ _ hp).1,o.a,o.dx,_,rfl,pc.all.ob,O9 _ _ (by decide +kernel) (by decide +kernel),o,ls,k,rfl,pc.all,λH' pc' bt=>?_⟩;exact q H' (R.monoN (.but pc.all.ob bt)) (pc'.in' pc λ_ h=>h) (.but bt)
theorem MSs.take (T:PcX X C) (hp:ρ[pi]?=aa (.raw o.a ob rfN)) (hpN:X.N[pi]?=aa y) (hv:Vis X.env.scope y) (hd:(y==k74)=ae) (hcd:(y==k75)=ae) (mc:Qa X (.Name y py) "taken" p1 p2)
  (hN:X.N.Nodup) (hi:X.N[i]?=aa x) (hx:Loc X.env.scope x) (hs:aL (.Call (.Attribute (.Name y py) "taken" p1) [] [] p2) (aa (.Name x p)) pos.line X.env=pure ae) (hf:X.fn x=af\/X.env.scope.names.lookup x=aa .local)
  (h2:MSs X C o ls (ρ.set i (.val (.str (ls.getD k "")))) (k+1) rest P):MSs X C o ls ρ k (.Assign [.Name x p] (.Call (.Attribute (.Name y py) "taken" p1) [] [] p2) pos::rest) P:=λσ H E R pc q =>
 (qg (Qf hN hi hx peS hs hf) zr).to (U7 T hp hpN hv hd hcd mc R pc λH' R' pc' f=>h2 _ H' E (R'.set_val rfl) (pc'.stay (zb λb hb=>(jd rfl).subset hb)) (q.step (f.trans (.of0 (Fr0.drop λb hb=>(jd rfl).subset hb)))))
theorem MSs.takeE (T:PcX X C) (hp:ρ[pi]?=aa (.raw o.a ob rfN)) (hpN:X.N[pi]?=aa y) (hv:Vis X.env.scope y) (hd:(y==k74)=ae) (hcd:(y==k75)=ae) (mc:Qa X (.Name y py) "taken" p1 p2)
  (hs:aL (.Call (.Attribute (.Name y py) "taken" p1) [] [] p2) ah pos.line X.env=pure ae)
  (h2:MSs X C o ls ρ (k+1) rest P):MSs X C o ls ρ k (.Expr (.Call (.Attribute (.Name y py) "taken" p1) [] [] p2) pos::rest) P:=λσ H E R pc q =>
 (qg (Qu peS hs) zr).to (U7 T hp hpN hv hd hcd mc R pc λH' R' pc' f=>h2 _ H' E R' pc' (q.step f))
theorem MSs.takeIf {c e:au} {b:Bool} {d:D} {pi2:aR} (T:PcX X C) (hp:ρ[pi]?=aa (.raw o.a ob rfN)) (hpN:X.N[pi]?=aa y) (hv:Vis X.env.scope y) (hd:(y==k74)=ae) (hcd:(y==k75)=ae) (mc:Qa X (.Name y py) "taken" p1 p2)
  (hN:X.N.Nodup) (hi:X.N[i]?=aa x) (hx:Loc X.env.scope x) (hs:aL (.IfExp c (.Call (.Attribute (.Name y py) "taken" p1) [] [] p2) e pi2) (aa (.Name x p)) pos.line X.env=pure ae) (hf:X.fn x=af\/X.env.scope.names.lookup x=aa .local)
  (hc:DB X ρ c b) (he:b=ae->DE X ρ e d) (h2:b=af->MSs X C o ls (ρ.set i (.val (.str (ls.getD k "")))) (k+1) rest P) (h3:b=ae->MSs X C o ls (ρ.set i (.val d)) k rest P) :
  MSs X C o ls ρ k (.Assign [.Name x p] (.IfExp c (.Call (.Attribute (.Name y py) "taken" p1) [] [] p2) e pi2) pos::rest) P:=λσ H E R pc q=>by
 refine(qg (Qf hN hi hx (K3 ptS peS peS) hs hf) zr).to (hc σ H _ R λH1 g1=>?_);have pc1:PcAt C (del H1 (owns ρ)) o ls k:=pc.stay (jb g1);have q1:=q.step (.of0 (Fr0.grow g1));cases b with
 |true=>exact Wf (U7 T hp hpN hv hd hcd mc (R.grow g1) pc1 λH' R' pc' f=>h2 rfl _ H' E (R'.set_val rfl) (pc'.stay (zb λb hb=>(jd rfl).subset hb)) (q1.step (f.trans (.of0 (Fr0.drop λb hb=>(jd rfl).subset hb)))))
 |false=>exact Wg (he rfl σ H1 _ (R.grow g1) λv H2 g2 en=>h3 rfl _ H2 E (((R.grow g1).grow g2).set_val en) ((pc1.stay (jb g2)).stay (zb λb hb=>(jd rfl).subset hb)) (q1.step ((FrM.of0 (Fr0.grow g2)).trans (.of0 (Fr0.drop λb hb=>(jd rfl).subset hb)))))
theorem MSs.whl{z:ao}{n:Nat}{body:List aQ}{p3 p4:aR}(T:PcX X C)(W:Nat->Rho->Nat->Prop)(m:Nat)(h0:W m ρ k)(hpo:fv (aA X.prog X.w) X.A X.env X.xe)
  (hpN:X.N[pi]?=aa y) (hv:Vis X.env.scope y) (hd:(y==k74)=ae) (hcd:(y==k75)=ae) (mc:Qa X (.Name y py) "ahead" p1 p2)
  (hs:∀m ρ' k',W m ρ' k'->(∃ob,ρ'[pi]?=aa (.raw o.a ob rfN))/\(ls.getD k' "" ≠ z->MSs X C o ls ρ' k' body { P with nx:=λρ2 k2=>∃m2,m2<m/\W m2 ρ2 k2 })/\(ls.getD k' "" = z->MSs X C o ls ρ' k' rest P)) :
  MSs X C o ls ρ k (.While (.Compare (.Call (.Attribute (.Name y py) "ahead" p1) [] [] p2) [.NotEq] [.Constant (.str z) n p3] p4) body [] pos::rest) P:=λσ H E R pc q=>by
 obtain⟨fA,fT,fL,fI,dA,dT,dL,dI,T,⟨GA,bA⟩,_,_,_,hr⟩:=T.ex;obtain⟨pl,ht⟩:=mc;refine(qg (j6m hpo (J5 j1i (Ua (jz hpN hv hd hcd) T.cl T.mA GA (hr.mono (by decide)) bA .nil Zt ht) W8 (z8 _)) zr) zr).to ?_;refine⟨λm σ' H'=>∃ρ' k',W m ρ' k'/\Rep X.K ρ' σ' H'/\PcAt C (del H' (owns ρ')) o ls k'/\FrM o.a ρ ρ' H H',⟨m,ρ,k,h0,R,pc,.of0 (Fr0.refl _ _)⟩,?_⟩;rintro m σ' H' ⟨ρ',k',w,R',pc',f⟩;obtain⟨⟨ob,hp⟩,hb,he⟩:=hs m ρ' k' w;refine⟨_,(R'.raw pi _ _ _ hp).1,o.a,o.dx,_,rfl,pc'.all.ob,O9 _ _ (by decide +kernel) (by decide +kernel),o,ls,k',rfl,pc'.all,rfl,_,rfl,?_⟩;refine jew (λhc=>?_) (λhc=>?_)
 .have hz:ls.getD k' "" ≠ z:=λe=>by rw[e]at hc;simp at hc
  refine⟨λσ2 H2=>∃ρ2 k2,(∃m2,m2<m/\W m2 ρ2 k2)/\Rep X.K ρ2 σ2 H2/\PcAt C (del H2 (owns ρ2)) o ls k2/\FrM o.a ρ ρ2 H H2,λσ2 H2 ⟨ρ2,k2,⟨m2,hlt,w2⟩,R2,pc2,f2⟩=>⟨m2,hlt,ρ2,k2,w2,R2,pc2,f2⟩,?_⟩;have q':=q.step f;exact hb hz σ' H' _ R' pc' ⟨λρ2 k2 σ2 H2 n R2 pc2 f2=>⟨ρ2,k2,n,R2,pc2,f.trans f2⟩,λd k2 v H2 n pc2 g e=>q'.rt d k2 v H2 n pc2 g e,λx ρ2 σ2 H2 n R2 g=>q'.ex x ρ2 σ2 H2 n R2 g⟩
 .have hz:ls.getD k' "" = z:=by
   have:decide (V.str (ls.getD k' "")=V.str z)=af:=by simpa using hc
   exact V.str.inj (of_decide_eq_true this)
  exact he hz σ' H' E R' pc' (q.step f)
end
end
def jjt(K:k70)(C:ak)(S:List ao->Nat->List D->D->Nat->Prop):Sp:=λvs H Q _=>∃(o:Ob)(ls:List ao)(k:Nat)(ds:List D)(d:D)(k':Nat)(ws:List V),vs=.ref o.a::ws/\TabOk K H/\PcAt C H o ls k/\j5 K H ds ws/\S ls k ds d k' /\
 ∀v H',PcAt C H' o ls k'->j4 (del H [o.a]) (del H' [o.a])->Enc K H' d v->Q v H'
def spM(K:k70)(C:ak)(S:List ao->Nat->List D->D->Nat->Prop):Sp:=λvs H Q _=>∃(A:List ak)(o:Ob)(ls:List ao)(k:Nat)(ds:List D)(d:D)(k':Nat) (ws:List V),vs=.ref o.a::ws/\TabOk K H/\(∀a∈A,∃xs,H a=aa (.lst xs))/\PcAt C (del H A) o ls k/\j5 K (del H A) ds ws/\S ls k ds d k' /\
 ∀v H',PcAt C (del H' A) o ls k'->j4 (del H [o.a]) (del H' [o.a])->Enc K (del H' A) d v->Q v H'
def j14(K:k70)(mg:k73)(C:ak)(S:List ao->Nat->List D->ao->Prop):Sp:=λvs H _ E=>∃(o:Ob)(ls:List ao)(k:Nat)(ds:List D)(x:ao)(V:aj)(ws:List L2.V),vs=.ref o.a::ws/\TabOk K H/\PcAt C H o ls k/\j5 K H ds ws/\S ls k ds x/\mg x=aa V /\
 ∀H',j4 (del H [o.a]) (del H' [o.a])->E V ah H'
section
variable{P:ay}{w:aD}{K:k70}{mg:k73}{base:aG}{n:Nat}{f C:ak}{fd:aM}{ps:List ao}
theorem FnOk.toM{S:List ao->Nat->List D->D->Nat->Prop}(F:FnOk P w K mg base CX0 n f fd ps (jjt K C S)):FnOk P w K mg base CX0 n f fd ps (spM K C S) :=
 F.framed.imp λvs H Q E ⟨A,o,ls,k,ds,d,k',ws,e,tb,hA,pc,en,hS,q⟩=>⟨A,hA,o,ls,k,ds,d,k',ws,e,tb.del hA,pc,en,hS,λv F pc' g e' hF=>by
  refine q v _ (by rw[Qx hF];exact pc') (λb u z=>?_) (by rw[Qx hF];exact e')
  obtain⟨nb,z⟩:=of_del z
  rw[j6 nb]
  by_cases y:b∈A
  .rw[J8 y];exact z
  .rw[jl y]
   exact(of_del (g b u (by rw[j6 nb,j6 y];exact z))).2⟩
end
structure CalM(X:Cx)(f:ao)(C:ak)(S:List ao->Nat->List D->D->Nat->Prop):Prop where
 ex:∃(n:Nat)(fa:ak)(fd:aM)(ps:List ao),FnOk X.prog X.w X.K X.mg X.base CX0 n fa fd ps (spM X.K C S)/\Room n X.A/\X.mg f=aa (.ref fa)/\W.keepIn X.K (.ref fa)=af/\Binds X.K fd ps []
structure CalMX(X:Cx)(f:ao)(C:ak)(S:List ao->Nat->List D->ao->Prop):Prop where
 ex:∃(n:Nat)(fa:ak)(fd:aM)(ps:List ao),FnOk X.prog X.w X.K X.mg X.base (CX1 X.prog X.w) n fa fd ps (j14 X.K X.mg C S)/\Room n X.A/\X.mg f=aa (.ref fa)/\W.keepIn X.K (.ref fa)=af/\Binds X.K fd ps []
section
variable{X:Cx}{C:ak}{o:Ob}{ls:List ao}{ρ ρ1:Rho}{H H1 H':Hp}{P:Pm}{E:Ends}{k k':Nat}{st:aQ}{rest:List aQ}{σ:St}{pi i:Nat}{ob:dm}{x y f:ao}{p py pf p1 p2 pos:aR}{es:List au}{ds:List D}{d:D}
structure MC(X:Cx)(pi:Nat)(f:ao)(es:List au)(c:au):Prop where
 ex:∃(y:ao)(pf py pos:aR),c=.Call (.Name f pf) (.Name y py::es) [] pos/\X.N[pi]?=aa y/\Vis X.env.scope y/\(y==k74)=ae/\(y==k75)=ae/\Gl X f/\(f==k74)=ae /\
  ai (.Name y py::es) X.env=(ae,aB (.Name y py) X.env)::ai es X.env/\(aP pos (ai es X.env)).any (·.1)=ae
theorem W3{S:List ao->Nat->List D->D->Nat->Prop}{c:au}{Q:VK}(cl:CalM X f C S)(m:MC X pi f es c)(hp:ρ[pi]?=aa (.raw o.a ob rfN))(ha:DA X ρ es ds)(hS:S ls k ds d k')
  (R:Rep X.K ρ σ H) (pc:PcAt C (del H (owns ρ)) o ls k) (q:∀v H',Rep X.K ρ σ H'->PcAt C (del H' (owns ρ)) o ls k'->FrM o.a ρ ρ H H'->Enc X.K (del H' (owns ρ)) d v->Q v H'):Jv X c σ H Q:=by
 obtain⟨y,pf,py,pos,rfl,hpN,hv,hd,hcd,hg,hdb,he,hpl⟩:=m.ex;obtain⟨n,fa,fd,ps,F,hr,hm,hk,hb⟩:=cl.ex;refine(Yt F hr hg hm hk hb .nil Zt (j9 (jz hpN hv hd hcd) paS he) hdb he hpl).to ⟨_,(R.raw pi _ _ _ hp).1,ha σ H _ R λvs H1 g1 e1=>?_⟩;show spM X.K C S ((.ref o.a::vs)++[]) H1 Q E0;rw[Xl];have R1:=R.grow g1;have pc1:PcAt C (del H1 (owns ρ)) o ls k:=pc.stay (jb g1);refine⟨owns ρ,o,ls,k,ds,d,k',vs,rfl,R1.tb,R1.owned,pc1,e1,hS,λv H' pc' g en=>?_⟩;have bt:=But.ofDel g;exact q v H' (R1.monoN (.but pc1.all.ob bt)) pc' ((FrM.of0 (Fr0.grow g1)).trans (.but bt)) en
theorem MSs.callS{S:List ao->Nat->List D->D->Nat->Prop}{c:au}(cl:CalM X f C S)(m:MC X pi f es c)(hp:ρ[pi]?=aa (.raw o.a ob rfN))(ha:DA X ρ es ds)(hS:S ls k ds d k')
  (hN:X.N.Nodup) (hi:X.N[i]?=aa x) (hx:Loc X.env.scope x) (hs:aL c (aa (.Name x p)) pos.line X.env=fM ae) (hf:X.fn x=af\/X.env.scope.names.lookup x=aa .local)
  (h2:MSs X C o ls (ρ.set i (.val d)) k' rest P):MSs X C o ls ρ k (.Assign [.Name x p] c pos::rest) P:=λσ H E R pc q =>
 (qg (Qf hN hi hx peS hs hf) zr).to (W3 cl m hp ha hS R pc λv H' R' pc' f en=>h2 _ H' E (R'.set_val en) (pc'.stay (zb λb hb=>(jd rfl).subset hb)) (q.step (f.trans (.of0 (Fr0.drop λb hb=>(jd rfl).subset hb)))))
theorem MSs.retC{S:List ao->Nat->List D->D->Nat->Prop}{c:au}(cl:CalM X f C S)(m:MC X pi f es c)(hp:ρ[pi]?=aa (.raw o.a ob rfN))(ha:DA X ρ es ds)(hS:S ls k ds d k')
  (h2:P.rt d k'):MSs X C o ls ρ k (.Return (aa c) pos::rest) P:=λσ H E R pc q =>
 (qg (Qg peS) zr).to (W3 cl m hp ha hS R pc λv H' R' pc' f en=>q.rt d k' v H' h2 pc'.all (λb u z=>by
  obtain⟨nb,z⟩:=of_del z
  obtain⟨_,z1⟩:=of_del (f b u (by rw[j6 nb];exact z))
  rw[j6 (by intro y;exact nb (by rw[X3.mp y];exact xm))]
  exact z1) (en.mono ji))
theorem MSs.appC{S:List ao->Nat->List D->D->Nat->Prop}{c:au}{l:ak}{acc:List D}{p3:aR}(cl:CalM X f C S)(m:MC X pi f es c)(hp:ρ[pi]?=aa (.raw o.a ob rfN))(ha:DA X ρ es ds)(hS:S ls k ds d k')
  (hk:ρ[i]?=aa (.own l acc)) (hl:acc.length<ar) (hN:X.N[i]?=aa x) (hv:Vis X.env.scope x) (hd:(x==k74)=ae) (hcd:(x==k75)=ae)
  (hst:ai [c] X.env=[(ae,aB c X.env)]) (hline:(p1.endLine==p2.line)=af) (hbase:aU (.Name x p) "append" X.env (aB (.Name x p) X.env)=aB (.Name x p) X.env)
  (hfew:((aP p2 (ai [c] X.env)).all (λx=>!x.1)&&(bP p2 (b7 [] X.env)).all (λx=>x.1.isSome)&&decide (([c]:List au).length+([]:List b0).length+(if ([]:List b0).isEmpty then 0 else 1)<30))=af)
  (hs:aL (.Call (.Attribute (.Name x p) "append" p1) [c] [] p2) ah pos.line X.env=fM ae)
  (h2:MSs X C o ls (ρ.set i (.own l (acc++[d]))) k' rest P):MSs X C o ls ρ k (.Expr (.Call (.Attribute (.Name x p) "append" p1) [c] [] p2) pos::rest) P:=λσ H E R pc q=>by
 obtain⟨hσ,xs,mm,en⟩:=R.own i l acc hk;refine(qg (Qu (Y9 Pb bK cx V2 (jz hN hv hd hcd) (j9 peS jt hst) hbase hfew hline hst rfl) hs) zr).to ?_;refine⟨_,hσ,.inl ⟨rfl,xs,.inl (.inl mm)⟩,W3 cl m hp ha hS R pc λv H' R' pc' f en'=>?_⟩;obtain⟨hσ',xs',mm',enx⟩:=R'.own i l acc hk;refine⟨l,xs',v,rfl,rfl,mm',by rw[enx.length];exact hl,?_⟩;have R2:=R'.upd_own hk (enx.append (.one en'));refine h2 σ _ E R2 ?_ (q.step (f.trans (.of0 ?_)))
 .rw[Js hk,Zf (Jd hk)];exact pc'
 .exact Yx (σ:=σ) hk (j4.refl _)
theorem U8{S:List ao->Nat->List D->ao->Prop}{c:au}{Q:VK}{z:ao}{V:aj}(cl:CalMX X f C S)(m:MC X pi f es c)(hp:ρ[pi]?=aa (.raw o.a ob rfN))(ha:DTA X ρ es ds)(hS:S ls k ds z)(hC:X.mg z=aa V)
  (R:Rep X.K ρ σ H) (pc:PcAt C (del H (owns ρ)) o ls k) (q:∀H',Rep X.K ρ σ H'->FrM o.a ρ ρ H H'->Ws X σ H' z):Jv X c σ H Q:=λpins s I=>by
 obtain⟨y,pf,py,pos,rfl,hpN,hv,hd,hcd,hg,hdb,he,hpl⟩:=m.ex;obtain⟨n,fa,fd,ps,F,hr,hm,hk,hb⟩:=cl.ex;refine aV (Ze I hg hm ?_ hdb);refine W.callWith_K (h₀:=X.base) I.ok.mod.kin hk (thn ((j9 (jz hpN hv hd hcd) paS he).to (σ:=σ) (H:=H) (Q:=λvs H1=>∃ws,vs=.ref o.a::ws/\j4 H H1/\j5 X.K H1 ds ws) ⟨_,(R.raw pi _ _ _ hp).1,ha σ H _ R λvs H1 g e=>⟨vs,rfl,g,e⟩⟩ pos pins s I) λus s1 ⟨vs,H1,I1,r,ws,evs,g,en⟩=>⟨I1.kIn,?_⟩) he hpl;subst evs;have R1:=R.grow g;have pc1:PcAt C (del H1 (owns ρ)) o ls k:=pc.stay (jb g);have sp:j14 X.K X.mg C S (.ref o.a::ws) H1 (λ_ _=>False) (λC' _ H'=>C'=V/\j4 (del H1 [o.a]) (del H' [o.a])):=⟨o,ls,k,ds,z,V,ws,rfl,R1.tb,pc1.all,en,hS,hC,λH' g=>⟨rfl,g⟩⟩
 have hl:us.length=ps.length:=by rw[<-r.length];exact F.len _ _ _ _ sp
 have hb':=hb s1 us I1.kIn (by rw[Xl];exact hl);rw[Xl]at hb';refine fR (bO (F.run X.A X.stack s1 H1 ⟨us,[]⟩ us _ _ _ hr I1.env0 hb' r sp) λr s' hq=>?_);cases r with
 |error ev =>obtain⟨e,C',H',rfl,os,bare,un,hok,fl,rfl,g'⟩:=hq;have I':Inv X pins σ H' s':=I1.call' os un hok bare (λb z=>nomatch z);have bt:=But.ofDel g';refine q H' (R1.monoN (.but pc1.all.ob bt)) ((FrM.of0 (Fr0.grow g)).trans (.but bt)) pins H' s' e C' I' (j4.refl _) hC ⟨λb hb=>fl.new b (I1.old hb),fl.free,?_⟩;obtain⟨oe,ws,a0,q1,q2,q3,q4,q5⟩:=fl.obj;refine⟨oe,ws,a0,q1,q2,q3,q4,q5.imp id ?_⟩;rintro⟨T,oT,ts,z1,z2,z3,z4,z5,z6,z7⟩;exact⟨T,oT,ts,z1,z2,z3,z4,z5,z6,λb hb=>z7 b (I1.old hb)⟩
 |ok fl =>
  cases fl with
  |ret u=>obtain⟨_,_,_,_,_,_,_,z⟩:=hq;exact z.elim
  |next=>exact aT hq
  |brk=>exact aT hq
  |cont=>exact aT hq
theorem MSs.callSX{S:List ao->Nat->List D->ao->Prop}{c:au}{z:ao}{V:aj}(cl:CalMX X f C S)(m:MC X pi f es c)(hp:ρ[pi]?=aa (.raw o.a ob rfN))(ha:DTA X ρ es ds)(hS:S ls k ds z)(hC:X.mg z=aa V)
  (hN:X.N.Nodup) (hi:X.N[i]?=aa x) (hx:Loc X.env.scope x) (hs:aL c (aa (.Name x p)) pos.line X.env=fM ae) (hf:X.fn x=af\/X.env.scope.names.lookup x=aa .local)
  (h2:P.ex z ρ):MSs X C o ls ρ k (.Assign [.Name x p] c pos::rest) P:=λσ H E R pc q =>
 (qg (Qf hN hi hx peS hs hf) zr).to (U8 cl m hp ha hS hC R pc λH' R' f=>q.ex z ρ σ H' h2 R' f)
theorem MSs.retCX{S:List ao->Nat->List D->ao->Prop}{c:au}{z:ao}{V:aj}(cl:CalMX X f C S)(m:MC X pi f es c)(hp:ρ[pi]?=aa (.raw o.a ob rfN))(ha:DTA X ρ es ds)(hS:S ls k ds z)(hC:X.mg z=aa V)
  (h2:P.ex z ρ):MSs X C o ls ρ k (.Return (aa c) pos::rest) P:=λσ H E R pc q =>
 (qg (Qg peS) zr).to (U8 cl m hp ha hS hC R pc λH' R' f=>q.ex z ρ σ H' h2 R' f)
theorem MSs.appCX{S:List ao->Nat->List D->ao->Prop}{c:au}{z:ao}{V:aj}{l:ak}{acc:List D}(cl:CalMX X f C S)(m:MC X pi f es c)(hp:ρ[pi]?=aa (.raw o.a ob rfN))(ha:DTA X ρ es ds)(hS:S ls k ds z)(hC:X.mg z=aa V)
  (hk:ρ[i]?=aa (.own l acc)) (hN:X.N[i]?=aa x) (hv:Vis X.env.scope x) (hd:(x==k74)=ae) (hcd:(x==k75)=ae)
  (hst:ai [c] X.env=[(ae,aB c X.env)]) (hline:(p1.endLine==p2.line)=af) (hbase:aU (.Name x p) "append" X.env (aB (.Name x p) X.env)=aB (.Name x p) X.env)
  (hfew:((aP p2 (ai [c] X.env)).all (λx=>!x.1)&&(bP p2 (b7 [] X.env)).all (λx=>x.1.isSome)&&decide (([c]:List au).length+([]:List b0).length+(if ([]:List b0).isEmpty then 0 else 1)<30))=af)
  (hs:aL (.Call (.Attribute (.Name x p) "append" p1) [c] [] p2) ah pos.line X.env=fM ae)
  (h2:P.ex z ρ):MSs X C o ls ρ k (.Expr (.Call (.Attribute (.Name x p) "append" p1) [c] [] p2) pos::rest) P:=λσ H E R pc q=>by
 obtain⟨hσ,xs,mm,en⟩:=R.own i l acc hk;refine(qg (Qu (Y9 Pb bK cx V2 (jz hN hv hd hcd) (j9 peS jt hst) hbase hfew hline hst rfl) hs) zr).to ?_;exact⟨_,hσ,.inl ⟨rfl,xs,.inl (.inl mm)⟩,U8 cl m hp ha hS hC R pc λH' R' f=>q.ex z ρ σ H' h2 R' f⟩
end
section
variable{X:Cx}{C:ak}{o:Ob}{ls:List ao}{ρ ρ1:Rho}{H H1 H':Hp}{P:Pm}{E:Ends}{k k':Nat}{st:aQ}{sa rest:List aQ}{σ:St}{pi i:Nat}{ob:dm}{x y f:ao}{p py pf p1 p2 p3 p4 pos:aR}{es:List au}{ds:List D}{d:D}
theorem MSs.ifAll (T:PcX X C) (hp:ρ[pi]?=aa (.raw o.a ob rfN)) (hpN:X.N[pi]?=aa y) (hv:Vis X.env.scope y) (hd:(y==k74)=ae) (hcd:(y==k75)=ae) (mc:Qa X (.Name y py) "all_taken" p1 p2)
  (he:∀whole,eX (.Call (.Attribute (.Name y py) "all_taken" p1) [] [] p2) X.env whole=(do let v <-whole;eB (Expr.Call (.Attribute (.Name y py) "all_taken" p1) [] [] p2).pos;bN [v] (jM v)))
  (ha:¬ls.length<=k->MSs X C o ls ρ k sa { P with nx:=λ_ _=>False }) (hb:ls.length<=k->MSs X C o ls ρ k rest P):MSs X C o ls ρ k (.If (.UnaryOp .Not (.Call (.Attribute (.Name y py) "all_taken" p1) [] [] p2) p3) sa [] pos::rest) P:=λσ H E R pc q=>by
 obtain⟨fA,fT,fL,fI,dA,dT,dL,dI,T,_,_,⟨GL,bL⟩,_,hr⟩:=T.ex;obtain⟨pl,ht⟩:=mc;refine(qg (Cg (j3f (j3e (Ua (jz hpN hv hd hcd) T.cl T.mL GL (hr.mono (by decide)) bL .nil Zt ht) he)) zr zr) zr).to ?_;refine⟨_,(R.raw pi _ _ _ hp).1,o.a,o.dx,_,rfl,pc.all.ob,O9 _ _ (by decide +kernel) (by decide +kernel),o,ls,k,rfl,pc.all,_,rfl,?_⟩;by_cases z:ls.length<=k
 .rw[decide_eq_true z];exact Wg (Ys.to (hb z σ H E R pc q))
 .rw[decide_eq_false z];exact Wf (ha z σ H _ R pc ⟨λ_ _ _ _ n=>n.elim,q.rt,q.ex⟩)
theorem Rep.set_rf{K:k70}{a:ak}{o:dm}(R:Rep K ρ σ H):Rep K (ρ.set i (.raw a o rfN)) (σ.set i (aa (.ref a))) H:=by
 have sub:(owns (ρ.set i (.raw a o rfN))).Sublist (owns ρ):=jd rfl;have g:j4 (del H (owns ρ)) (del H (owns (ρ.set i (.raw a o rfN)))):=zb λb hb=>sub.subset hb;refine⟨by simp[R.len],λj d' h=>?_,λj a ds h=>?_,sub.nodup R.nd,λj a' o' x' h=>?_,R.tb⟩
 .rcases getElem?_set_of h with ⟨rfl,z,hl⟩|⟨n,h⟩
  .cases z
  .obtain⟨u,q,h⟩:=R.val j d' h;exact⟨u,by rw[zm n];exact q,h.mono g⟩
 .rcases getElem?_set_of h with ⟨rfl,z,_⟩|⟨n,h⟩
  .cases z
  .obtain⟨q,xs,h,l⟩:=R.own j a ds h;exact⟨by rw[zm n];exact q,xs,h,l.mono g⟩
 .rcases getElem?_set_of h with ⟨rfl,z,hl⟩|⟨n,h⟩
  .cases z;exact⟨Vp (by rw[R.len];exact hl),.inl rfl⟩
  .obtain⟨q,h⟩:=R.raw j a' o' x' h;exact⟨by rw[zm n];exact q,h.mono g⟩
noncomputable def dOb:dm:={ cls:=.none }
theorem DSs.make {Q:Po} {te:au} {t:ao} (T:PcX X C) (ht:DT X ρ te (.str t)) (h1:t.length<=100000) (h2:(aI t " ").length<=ar) (hg:Gl X "Pieces") (hst:ai [te] X.env=(ae,aB te X.env)::ai [] X.env) (hpl:(aP p2 (ai [] X.env)).any (·.1)=ae)
  (hN:X.N.Nodup) (hi:X.N[pi]?=aa y) (hx:Loc X.env.scope y) (hs:aL (.Call (.Name "Pieces" p1) [te] [] p2) (aa (.Name y py)) pos.line X.env=fM ae) (hf:X.fn y=af\/X.env.scope.names.lookup y=aa .local)
  (h:∀o:Ob,MSs X C o (aI t " ") (ρ.set pi (.raw o.a dOb rfN)) 0 rest { nx:=λρ' _=>Q.nx ρ',rt:=λd _=>Q.rt (.val d),ex:=Q.ex }) :
  DSs X ρ (.Assign [.Name y py] (.Call (.Name "Pieces" p1) [te] [] p2) pos::rest) Q:=λσ H E R q=>by
 obtain⟨fA,fT,fL,fI,dA,dT,dL,dI,T,_,_,_,⟨GI,bI⟩,hr⟩:=T.ex;refine(qg (Qf hN hi hx (jar T.mkI GI (hr.mono (by decide)) hg T.mgC bI .nil Zt (j9 peS jt hst) (by decide) hst hpl) hs hf) zr).to (ht σ H _ R λv H1 g1 e1=>?_);rw[show v=.str t from e1];intro x dx nx ndx nex;refine⟨x,dx,t,rfl,jr,h1,h2,λb H' nb pc bt=>⟨rfl,?_⟩⟩;have s0:j4 H1 (upd (upd H1 dx (.own x)) x (.ins C dx [])):=λb o e=>by rw[jf (qw e nx),jf (qw e ndx)];exact e
 have s1:j4 H1 H':=λb o e=>bt b o (qw e nx) (s0 b o e);have R1:=R.grow (g1.trans s1);have sub:(owns (ρ.set pi (.raw x dOb rfN))).Sublist (owns ρ):=jd rfl;have nin:∀c,H1 c=ah->c∉owns (ρ.set pi (.raw x dOb rfN)):=λc hc z=>(R.grow g1).fresh hc (sub.subset z);have nb1:H1 b=ah:=s0.free nb;have fr:Fr0 ρ (ρ.set pi (.raw x dOb rfN)) H H':=j4.trans (Fr0.grow (g1.trans s1)) (Fr0.drop λb hb=>sub.subset hb);refine h ⟨x,dx,b⟩ _ H' E R1.set_rf ⟨?_,?_⟩ ⟨λρ' k' σ' H2 n R' pc' f=>?_,λd k' v H2 n pc' g en=>?_,λz ρ' σ' H2 n R' f=>?_⟩
 .rw[j6 (nin x nx)];exact pc.ob
 .rw[j6 (nin b nb1)];exact pc.li
 .refine q.nx ρ' σ' H2 n R' λc u z=>?_;obtain⟨n1,z1⟩:=of_del (fr c u z);have ncx:c≠x:=λe=>by obtain⟨_,y⟩:=of_del z;rw[e,g1.free nx]at y;cases y
  obtain⟨n2,z2⟩:=of_del (f c u (by rw[j6 (by intro y;rcases xn.mp y with e|e;exact ncx e;exact n1 e)];exact z1));rw[j6 λy=>n2 (km _ y)];exact z2
 .refine q.rt _ v H2 n ⟨λc u z=>?_,en⟩;obtain⟨n1,z1⟩:=of_del (fr c u z);have ncx:c≠x:=λe=>by obtain⟨_,y⟩:=of_del z;rw[e,g1.free nx]at y;cases y
  exact(of_del (g c u (by rw[j6 (by intro y;rcases xn.mp y with e|e;exact ncx e;exact n1 e)];exact z1))).2
 .refine q.ex z ρ' σ' H2 n R' λc u z=>?_;obtain⟨n1,z1⟩:=of_del (fr c u z);have ncx:c≠x:=λe=>by obtain⟨_,y⟩:=of_del z;rw[e,g1.free nx]at y;cases y
  obtain⟨n2,z2⟩:=of_del (f c u (by rw[j6 (by intro y;rcases xn.mp y with e|e;exact ncx e;exact n1 e)];exact z1));rw[j6 λy=>n2 (km _ y)];exact z2
end
noncomputable def startM(N:List ao)(a:ak)(ds:List D):Rho:=(qb N (.int 0::ds)).set 0 (.raw a dOb rfN)
theorem O6{K:k70}{H:Hp}{N:List ao}{ds:List D}{ws:List V}{a:ak}(tb:TabOk K H)(h:j5 K H ds ws):Rep K (startM N a ds) (start N (.ref a::ws)) H :=
 (V0 (N:=N) tb (show j5 K H (.int 0::ds) (.int 0::ws) from⟨.int 0,ws,rfl,rfl,h⟩)).set_rf (i:=0) (a:=a) (o:=dOb)
theorem Rq(N:List ao)(a:ak)(ds:List D):owns (startM N a ds)=[]:=by have h:(owns (startM N a ds)).Sublist (owns (qb N (.int 0::ds))):=jd rfl;rw[Qh]at h;exact List.sublist_nil.mp h
section
variable{P:ay}{w:aD}{K:k70}{mg:k73}{base:aG}{x qual:ao}{st:aQ}{f C:ak}{fd:aM}{N ps:List ao}{n:Nat}
theorem jkf{S:List ao->Nat->List D->D->Nat->Prop}(F:Fun K x qual st f fd)(Sc:FnScope N ps (j0 st))(hl:∀ls k ds d k',S ls k ds d k'->ds.length+1=ps.length)
  (hbody:∀(cdv:aj)(A:aF)(outer:List du)(s:aq)(H:Hp)(E:XK),Yl K f cdv->Room n (A.deeper (bx qual (j0 st) s.heap.objs.size f cdv))->∀o ls k ds d k',S ls k ds d k' ->
   MSs (qt CX0 P w K mg base N qual (j0 st) f cdv A outer s H E).nox C o ls (startM N o.a ds) k (je st) { nx:=λ_ _=>False,rt:=λd2 k2=>d2=d/\k2=k',ex:=λ_ _=>False }):FnOk P w K mg base CX0 (n+1) f fd ps (spM K C S):=by
 refine FnOk.toM (F.okC Sc (λvs H Q E ⟨o,ls,k,ds,d,k',ws,e,tb,pc,en,hS,_⟩=>by rw[e,xr,en.length];exact hl ls k ds d k' hS) λcdv A outer s H vs Q E hcv hr ⟨o,ls,k,ds,d,k',ws,e,tb,pc,en,hS,q⟩=>⟨_,zr,?_⟩);subst e;have ho:=Rq N o.a ds;refine hbody cdv A outer s H E hcv hr o ls k ds d k' hS _ H _ (O6 tb en) (by rw[ho,J6];exact pc) ⟨λ_ _ _ _ z=>z.elim,λd2 k2 v H' ⟨e1,e2⟩ pc' g en'=>?_,λ_ _ _ _ z=>z.elim⟩;subst e1 e2;rw[ho]at g;exact q v H' pc' g en'
theorem jik{S:List ao->Nat->List D->ao->Prop}(F:Fun K x qual st f fd)(Sc:FnScope N ps (j0 st))(hl:∀ls k ds y,S ls k ds y->ds.length+1=ps.length)
  (hbody:∀(cdv:aj)(A:aF)(outer:List du)(s:aq)(H:Hp)(E:XK),Yl K f cdv->Room n (A.deeper (bx qual (j0 st) s.heap.objs.size f cdv))->∀o ls k ds y,S ls k ds y ->
   MSs (qt (CX1 P w) P w K mg base N qual (j0 st) f cdv A outer s H E) C o ls (startM N o.a ds) k (je st) { nx:=λ_ _=>False,rt:=λ_ _=>False,ex:=λz _=>z=y }):FnOk P w K mg base (CX1 P w) (n+1) f fd ps (j14 K mg C S):=by
 obtain⟨oc,od,dV,kV,doc,pm,an,cdv,ct,osl,rfl,lk,hcd⟩:=F.ex;refine Cr lk hcd Sc (λvs H Q E ⟨o,ls,k,ds,y,V,ws,e,tb,pc,en,hS,_⟩=>by rw[e,xr,en.length];exact hl ls k ds y hS) λA outer s H vs Q E hr ⟨o,ls,k,ds,y,V,ws,e,tb,pc,en,hS,hC,hE⟩=>⟨_,zr,?_⟩
 subst e;have ho:=Rq N o.a ds;refine hbody cdv A outer s H E ⟨oc,od,_,osl,lk,rfl⟩ hr o ls k ds y hS _ H _ (O6 tb en) (by rw[ho,J6];exact pc) ⟨λ_ _ _ _ z=>z.elim,λ_ _ _ _ z=>z.elim,λz ρ' σ' H' n R g=>?_⟩;cases(show z=y from n);intro pins H2 s' e C' I g2 hC' Fe;cases hC.symm.trans hC';unfold FrM at g;rw[ho]at g;refine Ft I Fe (hE H2 λb u z=>?_);obtain⟨nb,z⟩:=of_del z;obtain⟨_,z1⟩:=of_del (g b u (by rw[j6 nb];exact z));rw[j6 nb];exact g2 b u z1
end
section
variable{X:Cx}{ρ:Rho}{a:au}{p p1 p2 pos:aR}
theorem ints_of:∀(ns:List Int)(its:List aj),Vals (ns.map V.int) its->gG its ns
 |[],_,.nil=>.nil
 |_::ns,_,.cons ⟨_,e⟩ t=>by subst e;exact .cons _ _ (ints_of ns _ t)
noncomputable def ddI(ns:List Int):List Int:=firstMet (λi=>ns.getD i 0) ns.length
theorem DE.lenSetI {ns:List Int} (ha:DT X ρ a (.lst (ns.map D.int))) (hc:X.calm=af) (room:ns.length+1<4096) (hm:X.mg "len" = ah) (hm2:X.mg "set" = ah) (hg:Gl X "len") (hg2:Gl X "set") (hs:ai [a] X.env=[(ae,aB a X.env)])
  (hs2:ai [.Call (.Name "set" p1) [a] [] p2] X.env=[(ae,aB (.Call (.Name "set" p1) [a] [] p2) X.env)]):DE X ρ (.Call (.Name "len" p) [.Call (.Name "set" p1) [a] [] p2] [] pos) (.int (ddI ns).length):=λσ H Q R q pins s I=>by
 have inner:ax (aA X.prog X.w) X.A (aB (.Call (.Name "set" p1) [a] [] p2) X.env) (λu s2=>∃(S:ak)(H1:Hp),u=.ref S/\Inv X pins σ H1 s2/\j4 H H1/\s2.heap.SetOf (intKind X.prog X.w) S (λk'=>(ddI ns).any (· == k')) (ddI ns).length) X.xe s:=by
  refine aV (Ja I hg2 hm2 boot_set ?_);refine callWith_type1 (thn ((j9 (es:=[]) peS jt hs).to (σ:=σ) (H:=H) (Q:=λvs H1=>∃(l:ak)(xs:List V),vs=[.ref l]/\j4 H H1/\SqL X.K H1 l xs/\j5 X.K H1 (ns.map D.int) xs) (ha σ H _ R λv H1 g ⟨l,xs,e,sq,en⟩=>⟨l,xs,by rw[e],g,sq,en⟩) p2 pins s I) λus s1 ⟨vs,H1,I1,r,l,xs,ev,g,sq,en⟩=>?_) hs rfl;subst ev;obtain⟨u,eu,r1⟩:=vals1 r;subst eu;cases(show u=aH l from r1);obtain⟨its,rv,pl,_⟩:=I1.list sq;rw[Q9 en]at rv;have hlen:its.toArray.size=ns.length:=by rw[xu,<-rv.length,xg]
  refine call_set_list (ns:=ns) (I1.ok.hd hc) pl.isList ?_ (by rw[hlen];show ns.length+1<4096;exact room) λh' tk full old=>?_
  .exact ints_of ns its rv
  .rw[hlen]at full;exact⟨_,H1,rfl,I1.kept (t':=tk) λb o e=>old b o (xq e) e,g,full⟩
 refine aV (Ja I hg hm cj ?_);refine dY (by rw[hs2];rfl) (cV ?_);show ax _ _ (g4 ((ae,aB _ X.env)::aP pos [])) _ _ s;refine cE (thn inner λu s2 h2=>dB ?_);obtain⟨S,H1,rfl,I2,g,⟨o,es,ep,t,ho,hex,hd,hel,hmem,hb,hf,hn⟩⟩:=h2;refine call_len_set ho hex hd hf ?_ ?_
 .have:es.size<4096:=hb;omega
 .rw[hn];exact⟨.int _,H1,I2.tok _,⟨_,rfl⟩,q _ H1 g rfl⟩
theorem DO.callT {S:List D->List D->Prop} {x:ao} {e:au} {es:List au} {ds l:List D} (c:Cal X x (spF X.K S)) (ha:DTA X ρ (e::es) ds) (hS:S ds l) (hn:qi l=af) (hg:Gl X x) (hdb:(x==k74)=ae)
  (he:ai (e::es) X.env=(ae,aB e X.env)::ai es X.env) (hpl:(aP pos (ai es X.env)).any (·.1)=ae):DO X ρ (.Call (.Name x p) (e::es) [] pos) l:=λσ H Q R q=>by
 obtain⟨k,f,fd,ps,F,hr,hm,hk,hb,_⟩:=c.ex;refine(Yt F (hr.mono (Xv _)) hg hm hk hb .nil Zt paS hdb he hpl).to (ha σ H _ R λvs H1 g1 e1=>?_);show spF X.K S (vs++[]) H1 Q E0;rw[Xl];exact⟨[],ds,l,R.tb.mono g1,(λa h=>nomatch h),by rw[J6];exact e1,hS,λa xs H2 g2 n m z=>q a xs H2 (g1.trans g2) (g1.free n) m ((z.mono ji).hide (λc hc=>by
  rcases xn.mp hc with z|z
  .rw[z];exact .inl ⟨xs,m⟩
  .exact .inl ((R.grow (g1.trans g2)).owned c z)) hn)⟩
end
end L2
end
section
namespace L2
noncomputable def step(acc:List (List Int))(f:List Int):List (List Int):=acc.flatMap λa=>f.map λx=>a++[x]
noncomputable def zy(fs:List (List Int)):List (List Int):=fs.foldl step [[]]
noncomputable def jhj:List (List Int)->List (List Int)
 |[]=>[[]]
 |f::fs=>f.flatMap λx=>(jhj fs).map (x :: ·)
noncomputable def Ql:Nat->List (List Int)
 |0=>[[]]
 |m+1=>(Ql m).map (0 :: ·)++(Ql m).map (1 :: ·)
theorem W6:∀m,(Ql m).length=2^m
 |0=>rfl
 |m+1=>by rw[Ql,X7,xg,xg,W6 m,gW];omega
theorem Ih{b:Int}(hb:0<b)(n c:Int):∀{i m:Nat},i<=m->qx b i (n+b^m*c)=qx b i n
 |0,m,_=>rfl
 |i+1,m,h=>by
  rw[qx,qx,Ih hb n c nofun];congr 1;obtain⟨k,rfl⟩:∃k,m=i+(k+1):=⟨m-i-1,by omega⟩
  have hp:b^i≠0:=kE (lq hb);rw[Int.pow_add,k6,i0 _ _ hp,Int.pow_succ,Int.mul_comm (b^k) b,k6,Int.add_mul_emod_self_left]
theorem Mg:∀m:Nat,(aK (2^m)).map (λn=>qx 2 m ((n:Nat):Int))=Ql m
 |0=>rfl
 |m+1=>by
  have e:2^(m+1)=2^m+2^m:=by rw[gW];omega
  rw[e,List.range_add,Xz,Ql,<-Mg m,Xa,Xa,Xa];have pc:((2^m:Nat):Int)=(2:Int)^m:=by simp
  congr 1
  .apply Py;intro n hn;have hn':n<2^m:=Xr.mp hn;show qx 2 (m+1) (n:Int)=0::qx 2 m (n:Int);rw[qx];congr 1;have h0:(n:Int)/2^m=0:=gY nofun (by rw[<-pc];omega)
   rw[h0];rfl
  .apply Py;intro n hn;have hn':n<2^m:=Xr.mp hn;show qx 2 (m+1) ((2^m+n:Nat):Int)=1::qx 2 m (n:Int);have e1:((2^m+n:Nat):Int)=(n:Int)+2^m*1:=by rw[Int.natCast_add,pc,lr,Int.add_comm]
   rw[e1,qx,Ih (by decide) _ _ (X5 m)];congr 1;have hp:(2:Int)^m≠0:=kE (lq (by decide));have h0:(n:Int)/2^m=0:=gY nofun (by rw[<-pc];omega)
   rw[i0 _ _ hp,h0];rfl
noncomputable def fits:List Int->List Int->Bool
 |t::ts,x::xs=>(t==2 || t==x)&&fits ts xs
 |_,_=>af
end L2
end
section
namespace L2
open PySem
inductive Sv where
 |un
 |val (d:D)
 |own (l:List D)
 |exc (x:ao)
noncomputable abbrev En:=List Sv
set_option genInjectivity true in
inductive Rk where
 |e (d:D)
 |o (l:List D)
 |w (l:List D)
 |t (d:D)
noncomputable def Rk.d:Rk->D
 |.e d=>d
 |.o l=>.lst l
 |.w l=>.lst l
 |.t d=>d
noncomputable def Rk.st:Rk->Option D
 |.e d=>aa d
 |.o l=>aa (.lst l)
 |.w l=>ah
 |.t d=>if Qm d=af then aa d else ah
noncomputable def Rk.sq:Rk->Option (Bool×List D)
 |.e (.lst l)=>aa (af,l)
 |.e (.tup l)=>aa (ae,l)
 |.o l=>aa (af,l)
 |.w l=>aa (af,l)
 |_=>ah
noncomputable def Rk.lw:Rk->Option (List D)
 |.o l=>aa l
 |.w l=>aa l
 |_=>ah
inductive Rc where
 |val (d:D)
 |fresh (l:List D)
 |err (x:ao)
 |lval (d:D)
 |mval (d:D) (k:Nat)
 |merr (x:ao)
 |no
noncomputable def Rc.rk:Rc->Option Rk
 |.val d=>aa (.e d)
 |.fresh l=>aa (.o l)
 |_=>ah
inductive Bop where
 |add|sub|mul|fdiv|mod|pow|shl|shr|band|bxor
inductive Cop where
 |lt|le|gt|ge|eq|ne|isin|notin
inductive Bf where
 |len|min|max|all|tuple|list|sum|int|any|sorted
inductive Mf where
 |count
inductive Ex where
 |lit (d:D)
 |var (i:Nat)
 |glob (x:ao)
 |bin (op:Bop) (a b:Ex)
 |cmp (op:Cop) (a b:Ex)
 |isN (a:Ex)
 |and (a b:Ex)
 |or (a b:Ex)
 |not (a:Ex)
 |ite (c a b:Ex)
 |nil
 |cons (a b:Ex)
 |tup (es:Ex)
 |lst (es:Ex)
 |ix (a b:Ex)
 |sl (a lo hi:Ex)
 |call (f:ao) (es:Ex)
 |blt (f:Bf) (es:Ex)
 |isi (a:Ex) (ts:List String)
 |comp (is:List Nat) (elt it cond:Ex)
 |seq (a:Ex)
 |range (es:Ex)
 |zip (a b:Ex)
 |fst (es:Ex)
 |join (sep:ao) (a:Ex)
 |lset (a:Ex)
 |lrng (a:Ex)
 |dzip (a b:Ex)
 |callD (f:ao) (es:Ex)
 |chn (a b c:Ex)
 |che (a b c:Ex)
 |maxD (a:Ex)
 |callK (f:ao) (es a:Ex)
 |dix (a b:Ex)
 |dnil
 |rpr (a:Ex)
 |upr (a:Ex)
 |din (a b:Ex)
 |items (a:Ex)
 |callV (i:Nat) (es:Ex)
 |dget (a b:Ex)
 |dvals (a:Ex)
 |minT (a:Ex)
set_option genInjectivity true in
inductive W where
 |v (r:Rk)
 |a (rs:List Rk)
 |i (ds:List D)
noncomputable def jj(n:Nat):Bool:=decide (n<=ar)
noncomputable def binI:Bop->Int->Int->Option Int
 |.add,i,j=>aa (i+j)
 |.sub,i,j=>aa (i-j)
 |.mul,i,j=>if (-(2^64)<i/\i<2^64)\/(-(2^64)<j/\j<2^64)then aa (i*j)else ah
 |.fdiv,i,j=>if 0<j/\j<18446744073709551616 then aa (i/j)else ah
 |.mod,i,j=>if 0<j then aa (i%j)else ah
 |.pow,i,j=>if 0<=j/\j<=1000000/\i.natAbs<2^64 then aa (i^j.toNat)else ah
 |.shl,i,j=>if 0<=j/\j<=1000000/\i.natAbs<2^64 then aa (i*2^j.toNat)else ah
 |.shr,i,j=>if 0<=j then aa (i/2^j.toNat)else ah
 |.band,i,j=>aa (Builtin.bitAnd i j)
 |.bxor,i,j=>aa (Builtin.bitXor i j)
noncomputable def Us(op:Bop)(a b:Rk):Option Rk :=
 match a.d,b.d with
 |.int i,.int j=>(binI op i j).map λk=>.e (.int k)
 |.str y,.str z=>match op with
  |.add=>if jj (y.length+z.length)=af then aa (.e (.str (y++z)))else ah
  |_=>ah
 |.str y,.int k=>match op with
  |.mul=>if (1<=k/\k<=1000)/\y.length<=1000 then aa (.e (.str (iD y k)))else ah
  |_=>ah
 |_,_=>match op,a.sq,b.sq,b.d with
  |.add,aa (af,l),aa (af,m),_=>if jj (l.length+m.length)=af then aa (.o (l++m))else ah
  |.add,aa (ae,l),aa (ae,m),_=>if jj (l.length+m.length)=af then aa (.e (.tup (l++m)))else ah
  |.mul,aa (ae,l),_,.int k=>if 1<=k/\k<2^63/\l.isEmpty=ae/\jj (l.length*k.toNat)=af then aa (.e (.tup (az k.toNat l).flatten))else ah
  |.mul,_,_,.int k=>match a.lw with
   |some l=>if -(2^63)<=k/\k<2^63/\jj (l.length*k.toNat)=af then aa (.o (az k.toNat l).flatten)else ah
   |none=>ah
  |_,_,_,_=>ah
noncomputable def cmpI:Cop->Int->Int->Option Bool
 |.lt,i,j=>aa (decide (i<j))
 |.le,i,j=>aa (decide (i<=j))
 |.gt,i,j=>aa (decide (j<i))
 |.ge,i,j=>aa (decide (j<=i))
 |.eq,i,j=>aa (decide (i=j))
 |.ne,i,j=>aa (!decide (i=j))
 |_,_,_=>ah
noncomputable def D.sqv:D->Option (Bool×List D)
 |.lst l=>aa (af,l)
 |.tup l=>aa (ae,l)
 |_=>ah
noncomputable def Jp(op:Cop)(a b:D):Option Bool :=
 match op,a,b with
 |op,.int i,.int j=>cmpI op i j
 |.eq,a,b=>if a.dep<=90/\b.dep<=90 then aa (deq a b)else ah
 |.ne,.bl a,.bl b=>aa (a != b)
 |.ne,.str a,.str b=>aa (!decide (a=b))
 |.ne,.non,.non=>aa ae
 |.ne,.lst l,.lst m=>if D.depL l<=90/\D.depL m<=90 then aa (!v9 l m)else ah
 |.ne,.tup l,.tup m=>if D.depL l<=90/\D.depL m<=90 then aa (!v9 l m)else ah
 |.isin,.str a,.str b=>aa (inS a b)
 |.lt,.str a,.str b=>aa (decide (a.cps.toList<b.cps.toList))
 |.gt,.str a,.str b=>aa (decide (b.cps.toList<a.cps.toList))
 |.isin,a,b=>match b.sqv with
  |some (_,l)=>if D.depL l<=90/\a.dep<=90 then aa (l.any λe=>deq e a)else ah
  |none=>ah
 |.notin,a,b=>match b.sqv with
  |some (_,l)=>if D.depL l<=90/\a.dep<=90 then aa (!l.any λe=>deq e a)else ah
  |none=>ah
 |_,_,_=>ah
noncomputable def boolsOf:List D->Option (List Bool)
 |[]=>aa []
 |.bl b::r=>(boolsOf r).map (b :: ·)
 |_::_=>ah
noncomputable def intsOf:List D->Option (List Int)
 |[]=>aa []
 |.int b::r=>(intsOf r).map (b :: ·)
 |_::_=>ah
noncomputable def strsOf:List D->Option (List ao)
 |[]=>aa []
 |.str b::r=>(strsOf r).map (b :: ·)
 |_::_=>ah
noncomputable def V9:Bf->List Rk->Option Rk
 |.len,[a]=>match a.d with
  |.lst l=>aa (.e (.int l.length))
  |.tup l=>aa (.e (.int l.length))
  |.str y=>if jj y.length=af then aa (.e (.int y.length))else ah
  |_=>ah
 |.min,[a,b]=>match a.d,b.d with
  |.int i,.int j=>aa (.e (.int (if j<i then j else i)))
  |_,_=>ah
 |.max,[a,b]=>match a.d,b.d with
  |.int i,.int j=>aa (.e (.int (if j>i then j else i)))
  |_,_=>ah
 |.max,[a]=>match a.d with
  |.lst l=>match intsOf l with
   |some ns=>if ns.isEmpty=ae then aa (.e (.int (Ub ns)))else ah
   |none=>ah
  |_=>ah
 |.min,[a]=>match a.d with
  |.lst l=>match intsOf l with
   |some ns=>if ns.isEmpty=ae then aa (.e (.int (Wb ns)))else ah
   |none=>ah
  |_=>ah
 |.all,[a]=>match a.d with
  |.lst l=>(boolsOf l).map λbs=>.e (.bl (bs.all id))
  |_=>ah
 |.any,[a]=>match a.d with
  |.lst l=>(boolsOf l).map λbs=>.e (.bl (bs.any id))
  |_=>ah
 |.tuple,[a]=>match a.sq with
  |some (_,l)=>aa (.e (.tup l))
  |none=>ah
 |.list,[a]=>match a.sq with
  |some (_,l)=>aa (.o l)
  |none=>ah
 |.sum,[a]=>match a.d with
  |.lst l=>(intsOf l).map λns=>.e (.int ns.sum)
  |.tup l=>(intsOf l).map λns=>.e (.int ns.sum)
  |_=>ah
 |.int,[a]=>match a.d with
  |.bl k=>aa (.e (.int (if k then 1 else 0)))
  |_=>ah
 |_,_=>ah
noncomputable def qp(t c:String):Option Bool :=
 if t = "function" then ah else
 if c = "int" then aa (t == "int" || t == "bool") else
 if c = "bool" then aa (t == "bool") else
 if c = "str" then aa (t == "str") else
 if c = "list" then aa (t == "list") else
 if c = "tuple" then aa (t == "tuple")else ah
noncomputable def jy(d:D):List String->Option Bool
 |[]=>aa ae
 |c::cs=>match qp d.ty c,jy d cs with
  |some a,aa b=>aa (a || b)
  |_,_=>ah
noncomputable def zj:List Nat->D->En->Option En
 |[i],d,ρ=>aa (ρ.set i (.val d))
 |[i,j],d,ρ=>match d with
  |.tup [a,b]=>aa ((ρ.set i (.val a)).set j (.val b))
  |_=>ah
 |[i,j,k],d,ρ=>match d with
  |.tup [a,.tup [b,c]]=>aa (((ρ.set i (.val a)).set j (.val b)).set k (.val c))
  |_=>ah
 |[i,j,k,_],d,ρ=>match d with
  |.tup [a,b,c]=>aa (((ρ.set i (.val a)).set j (.val b)).set k (.val c))
  |_=>ah
 |_,_,_=>ah
noncomputable def Cq(is:List Nat)(ρ:En):Bool:=is.all λi=>match ρ[i]? with
 |some .un=>af
 |_=>ae
noncomputable def Jx(f:D->Option (Option D)):List D->Option (List D)
 |[]=>aa []
 |d::ds=>match f d,Jx f ds with
  |some (aa x),aa xs=>aa (x::xs)
  |some ah,aa xs=>aa xs
  |_,_=>ah
noncomputable def vd:List Rk->Option (List D)
 |[]=>aa []
 |r::rs=>match r.st,vd rs with
  |some d,aa ds=>aa (d::ds)
  |_,_=>ah
noncomputable def W.one:W->Option Rk
 |.v r=>aa r
 |_=>ah
noncomputable def W.args:W->Option (List Rk)
 |.a rs=>aa rs
 |_=>ah
noncomputable def W.it:W->Option (List D)
 |.i ds=>aa ds
 |_=>ah
noncomputable def Q5:Option W->Option (Option Int)
 |some (.a [])=>aa ah
 |some (.a [r])=>match r.d with
  |.int i=>aa (aa i)
  |_=>ah
 |_=>ah
noncomputable def truth:Option W->Option Bool
 |some (.v r)=>match r.d with
  |.bl k=>aa k
  |_=>ah
 |_=>ah
noncomputable def j7u:Ex->Option Nat
 |.seq (.var i)=>aa i
 |_=>ah
noncomputable def frz(t:Ex)(ρ:En):En:=match j7u t with
 |some i=>match ρ[i]? with
  |some (.own l)=>ρ.set i (.val (.lst l))
  |_=>ρ
 |none=>ρ
noncomputable def Jb(t:Ex)(ρ:En):Bool:=match j7u t with
 |some i=>match ρ[i]? with
  |some (.own _)=>af
  |_=>ae
 |none=>ae
noncomputable def Zq:D->Option ao
 |.int i=>if -18446744073709551616<i/\i<18446744073709551616 then aa (cw (toString i))else ah
 |.str y=>if y.length<=2000 then aa y else ah
 |_=>ah
noncomputable def Q8:List Rk->Option (List ao)
 |[]=>aa []
 |r::rs=>match Zq r.d,Q8 rs with
  |some y,aa ys=>aa (y::ys)
  |_,_=>ah
noncomputable def bang(x:ao):ao:=("!":ao)++x
noncomputable def qm(f:ao):ao:=("??":ao)++f
noncomputable def mq(f:ao):ao:=("@":ao)++f
noncomputable def tupI:D->Option (List Int)
 |.tup l=>intsOf l
 |_=>ah
noncomputable def j1p(kf:D->Option Int):D->Int->List D->Option D
 |b,_,[]=>aa b
 |b,kb,d::ds=>match kf d with
  |some k=>if k<kb then j1p kf d k ds else j1p kf b kb ds
  |none=>ah
noncomputable def j8t:List D->Option (List (List Int))
 |[]=>aa []
 |d::ds=>match tupI d,j8t ds with
  |some k,aa ks=>aa (k::ks)
  |_,_=>ah
noncomputable def prI:D->Option (Int×List Int)
 |.tup [.int a,d]=>(tupI d).map λk=>(a,k)
 |_=>ah
noncomputable def jdl:List D->Option (List (Int×List Int))
 |[]=>aa []
 |d::ds=>match prI d,jdl ds with
  |some k,aa ks=>aa (k::ks)
  |_,_=>ah
noncomputable def Rc.lv:Rc->Option W
 |.lval d=>aa (.v (.e d))
 |_=>ah
noncomputable def j22(w:Option W):Option W:=match w with
 |some (.a rs)=>if rs.length<=1000 then(Q8 rs).map λys=>.v (.e (.str (Ck dW ys)))else ah
 |_=>ah
noncomputable def jje(w:Option W):Option W:=match w with
 |some (.v x)=>match x.d with
  |.str y=>if y.length<=1000 then aa (.v (.e (.str (PySem.Txt.upper y))))else ah
  |_=>ah
 |_=>ah
noncomputable def Ox(s:Option Sv):Option W:=match s with
 |some (.val d)=>aa (.v (.e d))
 |some (.own l)=>aa (.v (.w l))
 |_=>ah
noncomputable def blW(i:Option Bool):Option W:=i.map λk=>.v (.e (.bl k))
noncomputable def rkW(r:Option Rk):Option W:=r.map .v
noncomputable def Qc(op:Bop)(a b:Option W):Option W:=match a,b with
 |some (.v x),aa (.v y)=>rkW (Us op x y)
 |_,_=>ah
noncomputable def Nf(op:Cop)(a b:Option W):Option W:=match a,b with
 |some (.v x),aa (.v y)=>blW (Jp op x.d y.d)
 |_,_=>ah
noncomputable def consW(a b:Option W):Option W:=match a,b with
 |some (.v x),aa (.a xs)=>aa (.a (x::xs))
 |_,_=>ah
noncomputable def Vo(a:Option W):Option W:=match a with
 |some (.a rs)=>match vd rs with
  |some ds=>if jj ds.length=af then aa (.v (.e (.tup ds)))else ah
  |none=>ah
 |_=>ah
noncomputable def Uc(a:Option W):Option W:=match a with
 |some (.a rs)=>match vd rs with
  |some ds=>if jj ds.length=af then aa (.v (.o ds))else ah
  |none=>ah
 |_=>ah
noncomputable def ixW(a b:Option W):Option W:=match a,b with
 |some (.v x),aa (.v y)=>match x.sq,y.d with
  |some (_,l),.int i=>(atI l i).map λd=>.v (.e d)
  |none,.int i=>match x.d with
   |.str z=>if jj z.length=af then(atI z.cps.toList i).map λc=>.v (.e (.str ⟨#[c]⟩))else ah
   |_=>ah
  |_,_=>ah
 |_,_=>ah
noncomputable def Ye(sep:ao)(a:Option W):Option W:=match a with
 |some (.v x)=>match x.d with
  |.lst l=>match strsOf l with
   |some ts=>if cJ sep ts=af then aa (.v (.e (.str (bZ sep ts))))else ah
   |none=>ah
  |_=>ah
 |_=>ah
noncomputable def jhs(a:Option W):Option W:=match a with
 |some (.v y)=>match y.d with
  |.int n=>if 0<=n/\n<=1000000 then aa (.v (.o ((aK n.toNat).map λ(i:Nat)=>D.int (i:Int))))else ah
  |_=>ah
 |_=>ah
noncomputable def j1u(a:Option W):Option W:=match a with
 |some (.v x)=>match x.d with
  |.lst l=>match strsOf l with
   |some ts=>if ts.length<4000 then aa (.v (.e (.int (dd ts).length)))else ah
   |none=>match intsOf l with
    |some ns=>if ns.length<4000 then aa (.v (.e (.int (ddI ns).length)))else ah
    |none=>ah
  |_=>ah
 |_=>ah
noncomputable def Jy(Γ:ao->List D->Rc)(f:ao)(a:Option W):Option W:=match a with
 |some (.a rs)=>match vd rs with
  |some ds=>rkW (Γ f ds).rk
  |none=>match Γ f (rs.map Rk.d) with
   |.val d=>aa (.v (.t d))
   |.fresh l=>if qi l=af then aa (.v (.o l))else ah
   |_=>ah
 |_=>ah
noncomputable def J4(f:Bf)(a:Option W):Option W:=match a with
 |some (.a rs)=>rkW (V9 f rs)
 |_=>ah
noncomputable def Bu(a:Option W)(ts:List String):Option W:=match a with
 |some (.v x)=>blW (jy x.d ts)
 |_=>ah
noncomputable def W2(a:Option W):Option W:=match a with
 |some (.v (.e (.lst l)))=>aa (.i l)
 |some (.v (.e (.tup l)))=>aa (.i l)
 |some (.v (.o l))=>aa (.i l)
 |some (.v (.e (.str y)))=>if ascii y=af then aa (.i (chs y))else ah
 |_=>ah
noncomputable def W7(a:Option W):Option W:=match a with
 |some (.a [x])=>match x.d with
  |.int n=>if -(2^62)<=n/\n<2^62 then aa (.i (upto 0 n.toNat))else ah
  |_=>ah
 |some (.a [x,y])=>match x.d,y.d with
  |.int m,.int n=>if -(2^62)<=m/\m<2^62/\-(2^62)<=n/\n<2^62 then aa (.i (upto m (n-m).toNat))else ah
  |_,_=>ah
 |_=>ah
noncomputable def j5e(a b:Option W):Option W:=match a,b with
 |some (.v x),aa (.v y)=>match x.st,y.st with
  |some (.lst l),aa (.lst m)=>aa (.i (U5 l m))
  |some (.lst l),aa (.tup m)=>aa (.i (U5 l m))
  |some (.tup l),aa (.lst m)=>aa (.i (U5 l m))
  |some (.tup l),aa (.tup m)=>aa (.i (U5 l m))
  |_,_=>ah
 |_,_=>ah
noncomputable def jkg(a b:Option W):Option W:=match a,b with
 |some (.v x),aa (.v y)=>match x.d,y.d with
  |.tup l,.dct ks _=>(intsOf l).map λk=>.v (.e (.bl (ks.contains k)))
  |_,_=>ah
 |_,_=>ah
noncomputable def jes(a:Option W):Option W:=match a with
 |some (.v (.e (.dct ks ds)))=>aa (.i (jet ks ds))
 |_=>ah
noncomputable def Ra(a b:Option W):Option W:=match a,b with
 |some (.v x),aa (.v y)=>match x.st.bind D.sqv,y.st.bind D.sqv with
  |some (_,l),aa (_,m)=>match strsOf l,intsOf m with
   |some ks,aa ns=>if ks.Nodup/\ks.length=ns.length/\jj ks.length=af then aa (.v (.e (.sct (ks.zip ns))))else ah
   |_,_=>ah
  |_,_=>ah
 |_,_=>ah
noncomputable def jkj(a b c:Option W):Option W:=match a,b,c with
 |some (.v x),aa (.v y),aa (.v z)=>match x.d,y.d,z.d with
  |.int i,.int j,.int k=>aa (.v (.e (.bl (decide (i<=j)&&decide (j<=k)))))
  |_,_,_=>ah
 |_,_,_=>ah
noncomputable def jhr(a:Option W):Option W:=match a with
 |some (.v x)=>match x.d with
  |.lst l=>match intsOf l with
   |some ns=>aa (.v (.e (.int (Ub ns))))
   |none=>ah
  |_=>ah
 |_=>ah
noncomputable def jki(a b c:Option W):Option W:=match a,b,c with
 |some (.v x),aa (.v y),aa (.v z)=>match x.d,y.d,z.d with
  |.int i,.int j,.int k=>aa (.v (.e (.bl (decide (i<j)&&decide (j<k)))))
  |_,_,_=>ah
 |_,_,_=>ah
noncomputable def jfz(Γ:ao->List D->Rc)(s:Option Sv)(a:Option W):Option W:=match s,a with
 |some (.val (.fn x cs)),aa (.a rs)=>match vd rs with
  |some ds=>if Yb ds=af then(Γ (za x) (cs++ds)).lv else ah
  |none=>ah
 |_,_=>ah
noncomputable def jiq(a b:Option W):Option W:=match a,b with
 |some (.v (.e (.dct ks ds))),aa (.v y)=>match tupI y.d with
  |some k=>(j9g ks ds k).map λd=>.v (.e d)
  |none=>ah
 |_,_=>ah
noncomputable def jfm(a:Option W):Option W:=match a with
 |some (.v (.e (.dct _ ds)))=>aa (.v (.e (.tup ds)))
 |_=>ah
noncomputable def jho(a:Option W):Option W:=match a with
 |some (.v x)=>match x.d with
  |.lst l=>match j8t l with
   |some ks=>(ks[jY (jhu ks) (ks.length-1)]?).map λk=>.v (.t (.tup (k.map D.int)))
   |none=>match jdl l with
    |some ps=>(ps[jY (jk4 ps) (ps.length-1)]?).map λk=>.v (.t (pairD k))
    |none=>ah
  |_=>ah
 |_=>ah
noncomputable def N8(a b:Option W):Option W:=match a,b with
 |some (.v x),aa (.v y)=>match x.d,y.d with
  |.sct kvs,.str k=>(Z5 kvs k).map λn=>.v (.e (.int n))
  |_,_=>ah
 |_,_=>ah
noncomputable def ev(Γ:ao->List D->Rc)(G:ao->Option D):Ex->En->Option W
 |.lit d,_=>aa (.v (.e d))
 |.var i,ρ=>Ox ρ[i]?
 |.glob x,_=>(G x).map λd=>.v (.e d)
 |.bin op a b,ρ=>Qc op (ev Γ G a ρ) (ev Γ G b ρ)
 |.cmp op a b,ρ=>Nf op (ev Γ G a ρ) (ev Γ G b ρ)
 |.isN a,ρ=>match ev Γ G a ρ with
  |some (.v x)=>aa (.v (.e (.bl x.d.isNon)))
  |_=>ah
 |.and a b,ρ=>match truth (ev Γ G a ρ) with
  |some ae=>aa (.v (.e (.bl ae)))
  |some af=>(truth (ev Γ G b ρ)).map λk=>.v (.e (.bl k))
  |none=>ah
 |.or a b,ρ=>match truth (ev Γ G a ρ) with
  |some af=>aa (.v (.e (.bl af)))
  |some ae=>(truth (ev Γ G b ρ)).map λk=>.v (.e (.bl k))
  |none=>ah
 |.not a,ρ=>(truth (ev Γ G a ρ)).map λk=>.v (.e (.bl (!k)))
 |.ite c a b,ρ=>match truth (ev Γ G c ρ) with
  |some af=>match ev Γ G a ρ with
   |some (.v x)=>x.st.map λd=>.v (.e d)
   |_=>ah
  |some ae=>match ev Γ G b ρ with
   |some (.v x)=>x.st.map λd=>.v (.e d)
   |_=>ah
  |none=>ah
 |.nil,_=>aa (.a [])
 |.cons a b,ρ=>consW (ev Γ G a ρ) (ev Γ G b ρ)
 |.tup es,ρ=>Vo (ev Γ G es ρ)
 |.lst es,ρ=>Uc (ev Γ G es ρ)
 |.ix a b,ρ=>ixW (ev Γ G a ρ) (ev Γ G b ρ)
 |.sl a lo hi,ρ=>match ev Γ G a ρ,Q5 (ev Γ G lo ρ),Q5 (ev Γ G hi ρ) with
  |some (.v x),aa l,aa h=>match x.sq with
   |some (af,ds)=>aa (.v (.o (cutD ds l h)))
   |some (ae,ds)=>if HT.sIx ds.length 0 l=0/\HT.sIx ds.length ds.length h=ds.length then ah else aa (.v (.e (.tup (cutD ds l h))))
   |none=>match x.d with
    |.str z=>if jj z.length=af then aa (.v (.e (.str (c9 z l h))))else ah
    |_=>ah
  |_,_,_=>ah
 |.call f es,ρ=>Jy Γ f (ev Γ G es ρ)
 |.blt f es,ρ=>J4 f (ev Γ G es ρ)
 |.isi a ts,ρ=>Bu (ev Γ G a ρ) ts
 |.comp is elt it cond,ρ=>match ev Γ G it (frz it ρ) with
  |some (.i ds)=>if Cq is (frz it ρ)=af/\jj ds.length=af then
    (Jx (λd=>match zj is d (frz it ρ) with
     |none=>ah
     |some ρ2=>match ev Γ G cond ρ2 with
      |some (.a [])=>match ev Γ G elt ρ2 with
       |some (.v x)=>x.st.map aa
       |_=>ah
      |some (.a [y])=>match y.d with
       |.bl af=>match ev Γ G elt ρ2 with
        |some (.v x)=>x.st.map aa
        |_=>ah
       |.bl ae=>aa ah
       |_=>ah
      |_=>ah) ds).bind λl=>if (Jb it ρ && !qi l)=af then ah else aa (.v (.o l))
   else ah
  |_=>ah
 |.seq a,ρ=>W2 (ev Γ G a ρ)
 |.chn a b c,ρ=>jki (ev Γ G a ρ) (ev Γ G b ρ) (ev Γ G c ρ)
 |.che a b c,ρ=>jkj (ev Γ G a ρ) (ev Γ G b ρ) (ev Γ G c ρ)
 |.maxD a,ρ=>jhr (ev Γ G a ρ)
 |.range es,ρ=>W7 (ev Γ G es ρ)
 |.zip a b,ρ=>j5e (ev Γ G a ρ) (ev Γ G b ρ)
 |.fst es,ρ=>j22 (ev Γ G es ρ)
 |.join sep a,ρ=>Ye sep (ev Γ G a ρ)
 |.dzip a b,ρ=>Ra (ev Γ G a ρ) (ev Γ G b ρ)
 |.callD f es,ρ=>match ev Γ G es ρ with
  |some (.a rs)=>match vd rs with
   |some ds=>match Γ f (ds++[.non]) with
    |.val d=>aa (.v (.e d))
    |_=>ah
   |none=>ah
  |_=>ah
 |.callK f es a,ρ=>match ev Γ G es ρ,ev Γ G a ρ with
  |some (.a rs),aa (.v x)=>match vd rs,x.st with
   |some ds,aa d'=>match Γ f (ds++[d']) with
    |.val d=>aa (.v (.e d))
    |_=>ah
   |_,_=>ah
  |_,_=>ah
 |.dix a b,ρ=>N8 (ev Γ G a ρ) (ev Γ G b ρ)
 |.dnil,_=>aa (.v (.e (.sct [])))
 |.rpr a,ρ=>match ev Γ G a ρ with
  |some (.v x)=>match x.d with
   |.str y=>if (bW y).length<=2000 then aa (.v (.e (.str (bW y))))else ah
   |_=>ah
  |_=>ah
 |.upr a,ρ=>jje (ev Γ G a ρ)
 |.lrng a,ρ=>jhs (ev Γ G a ρ)
 |.lset a,ρ=>j1u (ev Γ G a ρ)
 |.din a b,ρ=>jkg (ev Γ G a ρ) (ev Γ G b ρ)
 |.items a,ρ=>jes (ev Γ G a ρ)
 |.callV i es,ρ=>jfz Γ ρ[i]? (ev Γ G es ρ)
 |.dget a b,ρ=>jiq (ev Γ G a ρ) (ev Γ G b ρ)
 |.dvals a,ρ=>jfm (ev Γ G a ρ)
 |.minT a,ρ=>jho (ev Γ G a ρ)
section
variable{Γ:ao->List D->Rc}{G:ao->Option D}{ρ:En}
theorem Cw{d}:ev Γ G (.lit d) ρ=(aa (.v (.e d))):=(rfl)
theorem jiw{i}:ev Γ G (.var i) ρ=(Ox ρ[i]?):=(rfl)
theorem jga{x}:ev Γ G (.glob x) ρ=((G x).map λd=>.v (.e d)):=(rfl)
theorem jj4{op a b}:ev Γ G (.bin op a b) ρ=(Qc op (ev Γ G a ρ) (ev Γ G b ρ)):=(rfl)
theorem j9n{op a b}:ev Γ G (.cmp op a b) ρ=(Nf op (ev Γ G a ρ) (ev Γ G b ρ)):=(rfl)
theorem j9m{a}:ev Γ G (.isN a) ρ=(match ev Γ G a ρ with
  |some (.v x)=>aa (.v (.e (.bl x.d.isNon)))
  |_=>ah):=(rfl)
theorem jj5{a b}:ev Γ G (.and a b) ρ=(match truth (ev Γ G a ρ) with
  |some ae=>aa (.v (.e (.bl ae)))
  |some af=>(truth (ev Γ G b ρ)).map λk=>.v (.e (.bl k))
  |none=>ah):=(rfl)
theorem jg7{a b}:ev Γ G (.or a b) ρ=(match truth (ev Γ G a ρ) with
  |some af=>aa (.v (.e (.bl af)))
  |some ae=>(truth (ev Γ G b ρ)).map λk=>.v (.e (.bl k))
  |none=>ah):=(rfl)
theorem j9k{a}:ev Γ G (.not a) ρ=((truth (ev Γ G a ρ)).map λk=>.v (.e (.bl (!k)))):=(rfl)
theorem jj1{c a b}:ev Γ G (.ite c a b) ρ=(match truth (ev Γ G c ρ) with
  |some af=>match ev Γ G a ρ with
   |some (.v x)=>x.st.map λd=>.v (.e d)
   |_=>ah
  |some ae=>match ev Γ G b ρ with
   |some (.v x)=>x.st.map λd=>.v (.e d)
   |_=>ah
  |none=>ah):=(rfl)
theorem Uw:ev Γ G (.nil) ρ=(aa (.a [])):=(rfl)
theorem U3{a b}:ev Γ G (.cons a b) ρ=(consW (ev Γ G a ρ) (ev Γ G b ρ)):=(rfl)
theorem jix{es}:ev Γ G (.tup es) ρ=(Vo (ev Γ G es ρ)):=(rfl)
theorem jj0{es}:ev Γ G (.lst es) ρ=(Uc (ev Γ G es ρ)):=(rfl)
theorem jkn{a b}:ev Γ G (.ix a b) ρ=(ixW (ev Γ G a ρ) (ev Γ G b ρ)):=(rfl)
theorem jkm{a lo hi}:ev Γ G (.sl a lo hi) ρ=(match ev Γ G a ρ,Q5 (ev Γ G lo ρ),Q5 (ev Γ G hi ρ) with
  |some (.v x),aa l,aa h=>match x.sq with
   |some (af,ds)=>aa (.v (.o (cutD ds l h)))
   |some (ae,ds)=>if HT.sIx ds.length 0 l=0/\HT.sIx ds.length ds.length h=ds.length then ah else aa (.v (.e (.tup (cutD ds l h))))
   |none=>match x.d with
    |.str z=>if jj z.length=af then aa (.v (.e (.str (c9 z l h))))else ah
    |_=>ah
  |_,_,_=>ah):=(rfl)
theorem jgd{f es}:ev Γ G (.call f es) ρ=(Jy Γ f (ev Γ G es ρ)):=(rfl)
theorem Ux{f es}:ev Γ G (.blt f es) ρ=(J4 f (ev Γ G es ρ)):=(rfl)
theorem j9l{a ts}:ev Γ G (.isi a ts) ρ=(Bu (ev Γ G a ρ) ts):=(rfl)
theorem jgc{is elt it cond}:ev Γ G (.comp is elt it cond) ρ=(match ev Γ G it (frz it ρ) with
  |some (.i ds)=>if Cq is (frz it ρ)=af/\jj ds.length=af then
    (Jx (λd=>match zj is d (frz it ρ) with
     |none=>ah
     |some ρ2=>match ev Γ G cond ρ2 with
      |some (.a [])=>match ev Γ G elt ρ2 with
       |some (.v x)=>x.st.map aa
       |_=>ah
      |some (.a [y])=>match y.d with
       |.bl af=>match ev Γ G elt ρ2 with
        |some (.v x)=>x.st.map aa
        |_=>ah
       |.bl ae=>aa ah
       |_=>ah
      |_=>ah) ds).bind λl=>if (Jb it ρ && !qi l)=af then ah else aa (.v (.o l))
   else ah
  |_=>ah):=(rfl)
theorem jiy{a}:ev Γ G (.seq a) ρ=(W2 (ev Γ G a ρ)):=(rfl)
theorem jce{es}:ev Γ G (.range es) ρ=(W7 (ev Γ G es ρ)):=(rfl)
theorem jiv{a b}:ev Γ G (.zip a b) ρ=(j5e (ev Γ G a ρ) (ev Γ G b ρ)):=(rfl)
theorem jj2{es}:ev Γ G (.fst es) ρ=(j22 (ev Γ G es ρ)):=(rfl)
theorem jg9{sep a}:ev Γ G (.join sep a) ρ=(Ye sep (ev Γ G a ρ)):=(rfl)
theorem jgb{a b}:ev Γ G (.dzip a b) ρ=(Ra (ev Γ G a ρ) (ev Γ G b ρ)):=(rfl)
theorem jj3{a b}:ev Γ G (.dix a b) ρ=(N8 (ev Γ G a ρ) (ev Γ G b ρ)):=(rfl)
theorem jiz{a}:ev Γ G (.rpr a) ρ=(match ev Γ G a ρ with
  |some (.v x)=>match x.d with
   |.str y=>if (bW y).length<=2000 then aa (.v (.e (.str (bW y))))else ah
   |_=>ah
  |_=>ah):=(rfl)
theorem jg8{a}:ev Γ G (.lset a) ρ=(j1u (ev Γ G a ρ)):=(rfl)
end
noncomputable def er(Γ:ao->List D->Rc)(G:ao->Option D):Ex->En->Option ao
 |.call f es,ρ=>match er Γ G es ρ with
  |some x=>if (G (qm f)).isSome=af then aa x else ah
  |none=>match ev Γ G es ρ with
   |some (.a rs)=>match Γ f (rs.map Rk.d) with
    |.err x=>if (G (bang x)).isSome=af then aa x else ah
    |_=>ah
   |_=>ah
 |.cons a b,ρ=>match er Γ G a ρ with
  |some x=>aa x
  |none=>match ev Γ G a ρ with
   |some (.v _)=>er Γ G b ρ
   |_=>ah
 |.ix a _,ρ=>er Γ G a ρ
 |.dzip a b,ρ=>match er Γ G a ρ with
  |some x=>aa x
  |none=>match ev Γ G a ρ with
   |some (.v _)=>er Γ G b ρ
   |_=>ah
 |_,_=>ah
end L2
end
section
namespace L2
open PySem PySem.Spec PyProof.Rows
def DM(X:Cx)(ρ:Rho)(e:au)(s:Bool)(ds:List D):Prop:=∀σ H Q,Rep X.K ρ σ H->(∀a xs H',j4 H H'->SqB X.K s H' a xs->j5 X.K (del H' (owns ρ)) ds xs->Q (.ref a) H')->Jv X e σ H Q
section
variable{X:Cx}{ρ:Rho}{e a b c:au}{es:List au}{d:D}{ds ds':List D}{i j:Int}{pos p p2:aR}{k:Nat}{x:ao}{s:Bool}
theorem jh1{K:k70}{H:Hp}{a:ak}{xs:List V}(h:SqL K H a xs):SqB K af H a xs:=by unfold SqB;rw[if_pos rfl];exact h
theorem Yo{K:k70}{H:Hp}{a:ak}{xs:List V}(h:SqB K af H a xs):SqL K H a xs:=by unfold SqB at h;rw[if_pos rfl]at h;exact h
theorem Q0{K:k70}{H:Hp}{a:ak}{xs:List V}(h:SqB K ae H a xs):SqT K H a xs:=by unfold SqB at h;rw[if_neg xf]at h;exact h
theorem DE.toM(h:DE X ρ e (D.seq s ds)):DM X ρ e s ds:=λσ H Q R q=>h σ H Q R λv H1 g1 e1=>by obtain⟨t,xs,ev,sq,en⟩:=Ju e1;subst ev;exact q t xs H1 g1 (ji.seqB sq) en
theorem DL.toM(h:DL X ρ e ds):DM X ρ e af ds:=λσ H Q R q=>h σ H Q R λt xs H1 g1 m en=>q t xs H1 g1 (jh1 (.inl (.inl m))) en
theorem DO.toM(h:DO X ρ e ds):DM X ρ e af ds:=h.toL.toM
def Has(X:Cx)(ρ:Rho)(e:au):Rk->Prop
 |.e d=>DE X ρ e d
 |.o l=>DO X ρ e l
 |.w l=>DL X ρ e l
 |.t d=>DT X ρ e d
theorem Has.toT:∀{r:Rk},Has X ρ e r->DT X ρ e r.d
 |.e _,h=>DE.toT h
 |.o _,h=>DL.toT (DO.toL h)
 |.w _,h=>DL.toT h
 |.t _,h=>h
theorem Has.toE:∀{r:Rk}{d:D},Has X ρ e r->r.st=aa d->DE X ρ e d
 |.e _,_,h,q=>by cases q;exact h
 |.o _,_,h,q=>by cases q;exact DO.toE h
 |.w _,_,h,q=>by cases q
 |.t d',d,h,q=>by
  have q:(if Qm d'=af then aa d' else ah)=aa d:=q;by_cases z:Qm d'=af
  .rw[if_pos z]at q;cases q;exact DT.toE h z
  .rw[if_neg z]at q;cases q
theorem Has.toM:∀{r:Rk}{s:Bool}{l:List D},Has X ρ e r->r.sq=aa (s,l)->DM X ρ e s l
 |.e (.lst l),_,_,h,q=>by cases q;exact DE.toM (s:=af) h
 |.e (.tup l),_,_,h,q=>by cases q;exact DE.toM (s:=ae) h
 |.e .non,_,_,_,q=>by cases q
 |.e (.bl _),_,_,_,q=>by cases q
 |.e (.int _),_,_,_,q=>by cases q
 |.e (.str _),_,_,_,q=>by cases q
 |.o l,_,_,h,q=>by cases q;exact DO.toM h
 |.w l,_,_,h,q=>by cases q;exact DL.toM h
 |.t _,_,_,_,q=>by cases q
theorem jb0:OpR X (bh .Add) (λx y H Q=>∃l b xs zs,x=.ref l/\y=.ref b/\SqL X.K H l xs/\SqL X.K H b zs/\xs.length+zs.length<=ar/\∀p,H p=ah->Q (.ref p) (upd H p (.lst (xs++zs)))):=by
 intro pins s σ H x y v u Q I rx ry h;obtain⟨l,b,xs,zs,e1,e2,hH,hB,hz,q⟩:=h;subst e1 e2;cases rx;cases ry;obtain⟨us,ru,⟨⟨c1,d1,f1,g1⟩,n1,h1,k1,w1,m1⟩,_⟩:=I.list hH;obtain⟨vs,rv,⟨⟨c2,d2,f2,g2⟩,n2,h2,k2,w2,m2⟩,_⟩:=I.list hB;have k1:c1=.type "list":=k1;have m1:f1=.seq us.toArray n1:=m1;have k2:c2=.type "list":=k2;have m2:f2=.seq vs.toArray n2:=m2;subst k1 m1 k2 m2;have l1:=ru.length;have l2:=rv.length;have ea:us.toArray++vs.toArray=(us++vs).toArray:=by simp
 refine g6 ⟨_,h1,rfl⟩ ⟨_,h2,rfl⟩ noFill_list_add seq_list_add PySem.F.slot_list_add PySem.F.entry_list_add (PySem.F.args_list_add_2 _ _)
  (list_addW l b us.toArray vs.toArray n1 n2 d1 d2 g1 g2 (by rw[xu,xu,<-l1,<-l2];exact hz)) ⟨h1,h2,?_⟩
 rw[ea];exact⟨.ref _,_,I.lnew (t':=s.toks) (ru.append rv) (by rw[X7];exact hz),rfl,q _ I.fresh⟩
theorem DO.catM(ha:DM X ρ a af ds)(hb:DM X ρ b af ds')(hl:ds.length+ds'.length<=ar):DO X ρ (.BinOp a .Add b pos) (ds++ds'):=λσ H Q R q =>
 (Vf jb0 peS peS).to (ha σ H _ R λl xs H1 g1 s1 e1=>hb σ H1 _ (R.grow g1) λl' ys H2 g2 s2 e2 =>
  ⟨l,l',xs,ys,rfl,rfl,g2.seq (Yo s1),Yo s2,by rw[e1.length,e2.length];exact hl,λp hp=>q p _ _ ((g1.trans g2).trans (j8 hp)) ((g1.trans g2).free hp) jr (Uk hp ((e1.mono (jb g2)).append e2))⟩)
theorem DE.catTM(ha:DM X ρ a ae ds)(hb:DM X ρ b ae ds')(hl:ds.length+ds'.length<=ar):DE X ρ (.BinOp a .Add b pos) (.tup (ds++ds')):=λσ H Q R q =>
 (Vf j6s peS peS).to (ha σ H _ R λt xs H1 g1 sq l=>hb σ H1 _ (R.grow g1) λt' ys H2 g2 sq' l'=>by
  have l2:=l.mono (jb g2)
  have enT:∀{t:ak}{xs:List V}{ds:List D},SqT X.K H2 t xs->j5 X.K (del H2 (owns ρ)) ds xs->Enc X.K (del H2 (owns ρ)) (.tup ds) (.ref t):=λ{t xs ds} sq l=>by
   refine⟨t,xs,rfl,?_,l⟩
   have ow:=(R.grow (g1.trans g2)).owned
   have out:∀{o:HO},H2 t=aa o->(∀zs,o≠.lst zs)->del H2 (owns ρ) t=aa o:=λ{o} h z=>by
    rw[j6];exact h
    intro y;obtain⟨zs,e'⟩:=ow t y;rw[h]at e';cases e';exact z zs rfl
   rcases sq with (h|⟨o,h⟩)|h
   .exact .inl (.inl (out h λ_ z=>by cases z))
   .exact .inl (.inr ⟨o,out h λ_ z=>by cases z⟩)
   .exact .inr h
  refine⟨t,t',xs,ys,rfl,rfl,g2.seqT (Q0 sq),Q0 sq',by rw[l.length,l'.length];exact hl,λh=>?_,λh h'=>?_,λh h' p hp=>?_⟩
  .subst h
   cases ds with
   |nil=>exact q _ H2 (g1.trans g2) (enT (Q0 sq') l')
   |cons _ _=>have:=l.length;cases this
  .subst h'
   cases ds' with
   |nil=>exact q _ H2 (g1.trans g2) (by rw[Xl];exact enT (g2.seqT (Q0 sq)) l2)
   |cons _ _=>have:=l'.length;cases this
  .have np:p∉owns ρ:=(R.grow (g1.trans g2)).fresh hp
   exact q _ _ ((g1.trans g2).trans (j8 hp)) ⟨p,xs++ys,rfl,.inl (.inl (by rw[j6 np];exact jr)),(l2.append l').mono (jb (j8 hp))⟩)
theorem DE.ixM(ha:DM X ρ a s ds)(hb:DT X ρ b (.int i))(h:L2.atI ds i=aa d)(hs:Vn b):DE X ρ (.Subscript a b pos) d:=by
 cases s with
 |true=>exact λσ H Q R q=>(Wy j0h peS peS hs).to (ha σ H _ R λl xs H1 g1 sq en=>hb σ H1 _ (R.grow g1) λu H2 g2 e2=>by
   obtain⟨y,hy,ey⟩:=en.atI h
   exact⟨l,xs,i,y,rfl,e2,g2.seq (Yo sq),hy,q y H2 (g1.trans g2) (ey.mono (jb g2))⟩)
 |false=>exact λσ H Q R q=>(Wy j48 peS peS hs).to (ha σ H _ R λl xs H1 g1 sq en=>hb σ H1 _ (R.grow g1) λu H2 g2 e2=>by
   obtain⟨y,hy,ey⟩:=en.atI h
   exact⟨l,xs,i,y,rfl,e2,g2.seqT (Q0 sq),hy,q y H2 (g1.trans g2) (ey.mono (jb g2))⟩)
variable{lo hi:Option au}{l u:Option Int}
theorem DO.sliceM(ha:DM X ρ a af ds)(hl:DP X ρ lo l)(hu:DP X ρ hi u):DO X ρ (.Subscript a (.Slice lo hi ah p2) pos) (cutD ds l u):=λσ H Q R q =>
 (Mi ja4 peS poS poS).to (ha σ H _ R λt xs H1 g1 sq en=>hl σ H1 _ (R.grow g1) λH2 g2=>hu σ H2 _ (R.grow (g1.trans g2)) λH3 g3=>⟨t,xs,rfl,(g2.trans g3).seq (Yo sq),λp hp =>
  q p _ _ ((g1.trans (g2.trans g3)).trans (j8 hp)) ((g1.trans (g2.trans g3)).free hp) jr (Uk hp ((en.mono (jb (g2.trans g3))).cut l u))⟩)
theorem DE.sliceM(ha:DM X ρ a ae ds)(hl:DP X ρ lo l)(hu:DP X ρ hi u)(hw:¬(HT.sIx ds.length 0 l=0/\HT.sIx ds.length ds.length u=ds.length)):DE X ρ (.Subscript a (.Slice lo hi ah p2) pos) (.tup (cutD ds l u)):=λσ H Q R q =>
 (Mi jcw peS poS poS).to (ha σ H _ R λt xs H1 g1 sq en=>hl σ H1 _ (R.grow g1) λH2 g2=>hu σ H2 _ (R.grow (g1.trans g2)) λH3 g3=>⟨t,xs,rfl,(g2.trans g3).seqT (Q0 sq),by rw[en.length];exact hw,λp hp =>
  q _ _ ((g1.trans (g2.trans g3)).trans (j8 hp)) ⟨p,_,rfl,.inl (.inl (by rw[j6 ((R.grow (g1.trans (g2.trans g3))).fresh hp)];exact jr)),((en.mono (jb (g2.trans g3))).cut l u).mono (jb (j8 hp))⟩⟩)
theorem DE.tupM (ha:DM X ρ a s ds) (hm:X.mg "tuple" = ah) (hg:Gl X "tuple") (hs:ai [a] X.env=[(ae,aB a X.env)]):DE X ρ (.Call (.Name "tuple" p) [a] [] pos) (.tup ds):=λσ H Q R q =>
 (W9 Dy hg hm boot_tuple (j9 peS jt hs) (by decide) (by decide) hs).to (ha σ H _ R λl xs H1 g1 sq en=>by
  cases s with
  |true =>
   refine⟨l,xs,rfl,.inl ⟨Yo sq,λt ht=>?_⟩⟩
   have nt:t∉owns ρ:=(R.grow g1).fresh ht
   exact q _ _ (g1.trans (j8 ht)) ⟨t,xs,rfl,.inl (.inl (by rw[j6 nt];exact jr)),en.mono (jb (j8 ht))⟩
  |false =>
   refine⟨l,xs,rfl,.inr ⟨Q0 sq,?_⟩⟩
   refine q _ _ g1 ⟨l,xs,rfl,?_,en⟩
   have ow:=(R.grow g1).owned
   have out:∀{o:HO},H1 l=aa o->(∀zs,o≠.lst zs)->del H1 (owns ρ) l=aa o:=λ{o} h z=>by
    rw[j6];exact h
    intro y;obtain⟨zs,e'⟩:=ow l y;rw[h]at e';cases e';exact z zs rfl
   rcases Q0 sq with (h|⟨o,h⟩)|h
   .exact .inl (.inl (out h λ_ z=>by cases z))
   .exact .inl (.inr ⟨o,out h λ_ z=>by cases z⟩)
   .exact .inr h)
theorem DO.listM (ha:DM X ρ a s ds) (hm:X.mg "list" = ah) (hg:Gl X "list") (hs:ai [a] X.env=[(ae,aB a X.env)]):DO X ρ (.Call (.Name "list" p) [a] [] pos) ds:=λσ H Q R q =>
 (W9 Eb hg hm boot_list (j9 peS jt hs) (by decide) (by decide) hs).to (ha σ H _ R λl xs H1 g1 sq en =>
  ⟨l,xs,rfl,(by cases s with|true=>exact .inl (Yo sq)|false=>exact .inr (Q0 sq)),λp hp=>q p _ _ (g1.trans (j8 hp)) (g1.free hp) jr (Uk hp en)⟩)
end
theorem Bo:fillsNumberSlot (.type "tuple") "mul" = pure ae :=
 PySem.fillsNumberSlot_seq (id:="tuple.__mul__") (r:=aa (.builtin "tuple.__rmul__")) PySem.F.slot_tuple_mul.lookup (by decide +kernel) PySem.F.slot_tuple_rmul.lookup (by decide +kernel)
theorem jak:seqRepeat? (.type "tuple")=pure (aa (.builtin "tuple.__mul__")):=by
 unfold seqRepeat?;rw[iH (T:="tuple") (name:="__mul__") (id:="tuple.__mul__") PySem.F.slot_tuple_mul.lookup (by decide +kernel),
  iH (T:="tuple") (name:="__rmul__") (id:="tuple.__rmul__") PySem.F.slot_tuple_rmul.lookup (by decide +kernel)]
 rfl
section
variable(a:Int)(t:dF)(l:ak)(its:Array aj)(n:Nat)(d1:Option ak)(sl:Array (Option aj))
theorem Ku:lJ (c8.«int.__rmul__» ⟨[.int a t,.ref l],[]⟩) (λ_ R s=>s.heap.get? l=aa ⟨.type "tuple",d1,.seq its n,sl⟩/\R (.ok (.ret Value.notImplemented)) s) :=
 .of_wp λ_ _ _ _ s h=>by
  obtain⟨_,_,_,_,_⟩:=s;obtain⟨hl,h⟩:=h
  wp_walk
  exact⟨_,rfl,h⟩
theorem j5p:lJ (c8.«tuple.__mul__» ⟨[.ref l,.int 1 t],[]⟩) (λ_ R s=>s.heap.get? l=aa ⟨.type "tuple",d1,.seq its n,sl⟩/\R (.ok (.ret (.ref l))) s) :=
 .of_wp λ_ _ _ _ s h=>by
  obtain⟨_,_,_,_,_⟩:=s;obtain⟨hl,h⟩:=h
  wp_walk
  exact⟨_,rfl,h⟩
theorem j5o(h0:its.isEmpty=ae)(h1:1<a)(h2:a<2^63)(hz:its.size*a.toNat<=ar) :
  lJ (c8.«tuple.__mul__» ⟨[.ref l,.int a t],[]⟩) (λ_ R s=>s.heap.get? l=aa ⟨.type "tuple",d1,.seq its n,sl⟩ /\
   R (.ok (.ret (.ref s.heap.objs.size))) { s with heap:=s.heap.push { cls:=.type "tuple",data:=.seq (cU (λx y=>x++y) #[] (az a.toNat its)) } }) :=
 .of_wp λ_ _ _ _ s h=>by
  obtain⟨_,_,_,_,_⟩:=s;obtain⟨hl,h⟩:=h;have c1:(decide (a < -2^63) || decide (a>=2^63))=ae:=by rw[decide_eq_false nofun,decide_eq_false nofun];rfl
  have c2:(its.isEmpty || a==1)=ae:=by rw[h0,beq_eq_false_iff_ne.mpr nofun];rfl
  have c3:(decide (a<=0) || its.isEmpty)=ae:=by rw[h0,decide_eq_false nofun];rfl
  have ea:((its.size*a.toNat:Nat):Int)=(its.size:Int)*a:=by rw[Int.natCast_mul,iC nofun]
  have hz':(its.size:Int)*a<=(ar:Int):=by rw[<-ea];exact Int.ofNat_le.mpr hz
  have c4:¬(its.size:Int)*a>(2^63-1)/8:=by
   have:(ar:Int)<=(2^63-1)/8:=by decide
   omega
  have c5:f9 ((its.size:Int)*a)=ae:=by unfold f9;exact decide_eq_false nofun
  have c6:(cU (λx y=>x++y) #[] (az a.toNat its)).size<=ar:=by rw[AutoListH.size_joined,Array.size_empty,cz,fF];exact hz
  wp_walk
  rw[c1]
  wp_walk
  rw[c2]
  wp_walk
  rw[c3]
  wp_walk
  rw[if_neg c4]
  wp_walk
  exact⟨_,rfl,h⟩
end
theorem jay{X:Cx}:OpR X (bh .Mult) (λx y H Q=>∃a k xs,x=.ref a/\y=.int k/\SqT X.K H a xs/\xs≠[]/\1<=k/\k<2^63/\xs.length*k.toNat<=ar /\
  (k=1->Q (.ref a) H)/\(1<k->∀p,H p=ah->Q (.ref p) (upd H p (.tup (az k.toNat xs).flatten)))):=by
 intro pins s σ H x y v u Q I rx ry h;obtain⟨a,k,xs,e1,e2,sq,hne,h1,h2,hz,q1,q2⟩:=h;subst e1 e2;cases rx;obtain⟨t,e⟩:=ry;subst e;obtain⟨us,ru,⟨⟨c1,d1,f1,g1⟩,p1,k1,n1,m1⟩,_⟩:=I.tuple sq;have k1:c1=.type "tuple":=k1;have m1:f1=.seq us.toArray n1:=m1;subst k1 m1;have lu:=ru.length;have hne':us.toArray.isEmpty=ae:=by
  cases us with
  |nil=>cases ru;exact absurd rfl hne
  |cons _ _=>simp
 refine gZ (T:="tuple") (U:="int") (by decide) ⟨_,p1,rfl⟩ (λs'=>fS s' k t) Bo jU eR jak F.slot_int_index.lookup
  (bD eR (fS s k t) jJ (jF _ _) (Ku k t a us.toArray n1 d1 g1) ⟨p1,rfl,⟨_,p1,rfl⟩,?_⟩)
 by_cases hk:k=1
 .subst hk;exact bD jI ⟨_,p1,rfl⟩ jE (iV _ _) (j5p t a us.toArray n1 d1 g1) ⟨p1,⟨.ref a,H,I,rfl,q1 rfl⟩⟩
 .have hz':us.toArray.size*k.toNat<=ar:=by rw[xu,<-lu];exact hz
  refine bD jI ⟨_,p1,rfl⟩ jE (iV _ _) (j5o k t a us.toArray n1 d1 g1 hne' nofun h2 hz') ⟨p1,?_⟩;have hnew:cU (λx1 x2=>x1++x2) #[] (az k.toNat us.toArray)=(az k.toNat us).flatten.toArray:=by have:=foldl_rep us k.toNat [];rw[d5]at this;exact this
  rw[hnew];refine⟨.ref _,_,I.laid (t':=s.toks) (λb o e=>kj _ e) (X5 _) ?_,rfl,q2 nofun _ I.fresh⟩;exact⟨by rw[len_rep,fF];exact hz,_,ru.rep k.toNat,IsTup.new _ _,Zo.new _ _⟩
theorem DE.repT{X:Cx}{ρ:Rho}{a b:au}{ds:List D}{k:Int}{pos:aR}(ha:DM X ρ a ae ds)(hb:DT X ρ b (.int k))(hne:ds≠[])(h1:1<=k)(h2:k<2^63)(hl:ds.length*k.toNat<=ar) :
  DE X ρ (.BinOp a .Mult b pos) (.tup (az k.toNat ds).flatten):=λσ H Q R q =>
 (Vf jay peS peS).to (ha σ H _ R λt xs H1 g1 sq l=>hb σ H1 _ (R.grow g1) λu H2 g2 e2=>by
  have l2:=l.mono (jb g2)
  refine⟨t,k,xs,rfl,e2,g2.seqT (Q0 sq),?_,h1,h2,by rw[l.length];exact hl,λh=>?_,λh p hp=>?_⟩
  .intro z;subst z
   cases ds with
   |nil=>exact hne rfl
   |cons _ _=>have:=l.length;cases this
  .subst h
   have e:(az (1:Int).toNat ds).flatten=ds:=by simp
   rw[e]at q
   refine q _ H2 (g1.trans g2) ⟨t,xs,rfl,?_,l2⟩
   have ow:=(R.grow (g1.trans g2)).owned
   have out:∀{o:HO},H2 t=aa o->(∀zs,o≠.lst zs)->del H2 (owns ρ) t=aa o:=λ{o} h z=>by
    rw[j6];exact h
    intro y;obtain⟨zs,e'⟩:=ow t y;rw[h]at e';cases e';exact z zs rfl
   rcases g2.seqT (Q0 sq)with (h|⟨o,h⟩)|h
   .exact .inl (.inl (out h λ_ z=>by cases z))
   .exact .inl (.inr ⟨o,out h λ_ z=>by cases z⟩)
   .exact .inr h
  .have np:p∉owns ρ:=(R.grow (g1.trans g2)).fresh hp
   exact q _ _ ((g1.trans g2).trans (j8 hp)) ⟨p,_,rfl,.inl (.inl (by rw[j6 np];exact jr)),(l2.rep k.toNat).mono (jb (j8 hp))⟩)
section
variable{X:Cx}{ρ:Rho}{a:au}{m k:Bool}{d:D}{n:Nat}{pos p2:aR}
end
end L2
end
section
namespace PySem
open Sem (wp)
namespace F
end F
section
variable{prog:ay}{w:aD}{A:aF}{E:k71}{s:aq}{I:ak}{fp wr:List ak}{G:Array fk->Array fk->Prop}{n:Nat}{P:Nat->aj->Prop}{St:Nat->aq->Prop}
end
end PySem
namespace L2
open PySem PySem.Spec PyProof.Rows
section
variable{X:Cx}{ρ:Rho}{a:au}{ds:List D}{p p1 p2 p3 pos:aR}
end
noncomputable def Sl.abs:Sl->Sv
 |.un=>.un
 |.val d=>.val d
 |.own _ l=>.own l
 |.raw _ _ x=>.exc x
noncomputable def j7(ρ:Rho):En:=ρ.map Sl.abs
theorem Mu{ρ:Rho}{i:Nat}:(j7 ρ)[i]?=(ρ[i]?).map Sl.abs:=X6 ..
theorem Mt{ρ:Rho}{i:Nat}{d:D}(h:(j7 ρ)[i]?=aa (.val d)):ρ[i]?=aa (.val d):=by
 rw[Mu]at h;cases e:ρ[i]? with
 |none=>rw[e]at h;cases h
 |some s=>rw[e]at h;cases s<;>cases h;rfl
theorem jcd{ρ:Rho}{i:Nat}(h:(j7 ρ)[i]?=aa .un):ρ[i]?=aa .un:=by
 rw[Mu]at h;cases e:ρ[i]? with
 |none=>rw[e]at h;cases h
 |some s=>rw[e]at h;cases s<;>cases h;rfl
theorem vo{ρ:Rho}{i:Nat}{l:List D}(h:(j7 ρ)[i]?=aa (.own l)):∃a,ρ[i]?=aa (.own a l):=by
 rw[Mu]at h;cases e:ρ[i]? with
 |none=>rw[e]at h;cases h
 |some s=>rw[e]at h;cases s<;>cases h;exact⟨_,rfl⟩
theorem jk{ρ:Rho}{i:Nat}{s:Sl}:j7 (ρ.set i s)=(j7 ρ).set i s.abs:=eF ..
noncomputable def Bop.op:Bop->j3
 |.add=>.Add
 |.sub=>.Sub
 |.mul=>.Mult
 |.fdiv=>.FloorDiv
 |.mod=>.Mod
 |.pow=>.Pow
 |.shl=>.LShift
 |.shr=>.RShift
 |.band=>.BitAnd
 |.bxor=>.BitXor
noncomputable def Cop.op:Cop->gw
 |.lt=>.Lt
 |.le=>.LtE
 |.gt=>.Gt
 |.ge=>.GtE
 |.eq=>.Eq
 |.ne=>.NotEq
 |.isin=>.In
 |.notin=>.NotIn
noncomputable def Bf.name:Bf->ao
 |.len=>"len"
 |.min=>"min"
 |.max=>"max"
 |.all=>"all"
 |.tuple=>"tuple"
 |.list=>"list"
 |.sum=>"sum"
 |.int=>"int"
 |.any=>"any"
 |.sorted=>"sorted"
noncomputable def V5:List ao:=["len","min","max","all","tuple","list","sum","int","any","sorted","isinstance","bool","str","range","zip","enumerate","reversed","ValueError","set","dict"]
noncomputable def V3(x:ao):Bool:=x.cps.toList.head?==aa 33 || x.cps.toList.head?==aa 63
inductive Nd where
 |e (x:au)
 |b (x:au)
 |w (x:au)
 |a (xs:List au)
 |i (tg it:au)
 |o (x:Option au)
 |c (xs:List au)
 |p (xs:List au)
structure Cok(X:Cx)(G:ao->Option D):Prop where
 un':X.A.units+100<bE
 un:X.calm=af->X.A.units+150<bE
 dp:X.calm=af->X.A.depth+4<fg
 bt:∀x∈V5,X.mg x=ah
 gl:∀x d,V3 x=ae->G x=aa d->∃u v,X.mg x=aa u/\RelV v u/\∀H,Enc X.K H d v
 nd:X.N.Nodup
 po:fv (aA X.prog X.w) X.A X.env X.xe
 ea:R9 X.K=af
 ec:∀x d,G (bang x)=aa d->x∈J0/\∃o,W.nsIn X.K aw x=aa (aa o)
 el:G "?" = aa (.bl af)->∀c∈J0,∃v,W.nsIn X.K aw c=aa (aa v)
 kin:X.K.In X.base
 ns:X.base.Ns aw X.mg
 kd:∀x l,G (bang x)=aa (.lst l)->Kinds X "_law_kinds" x l
 fn:∀f d,G (qm f)=aa d->∃fa,X.mg f=aa (.ref fa)/\W.keepIn X.K (.ref fa)=af
 pl:∀d,G (qm "_law_plan")=aa d->Cal X "_law_plan" (jcv X.K j8z)
 pc:∀d,G (qm "Pieces")=aa d->∃C,X.mg "Pieces" = aa (.ref C)/\PcX X C
 lm:∀x∈V7,X.env.qual=x ++ ".<locals>."->∃c P,X.env.code=.ref c/\W.codeHdIn X.K c P=af/\W.tabIn X.K x=aa (c,P)
def Gok(X:Cx)(Γ:ao->List D->Rc):Prop:=∀f ds,match Γ f ds with
 |.val d=>Cal X f (spP X.K λds' d'=>ds'=ds/\d'=d)
 |.fresh l=>Cal X f (spF X.K λds' l'=>ds'=ds/\l'=l)
 |.err x=>CalX X f (spX X.K X.mg λds' y=>ds'=ds/\y=x)
 |.lval d=>∀x,f=za x->∃k,Room k X.A/\j2i X.prog X.w X.K X.mg X.base k x λds' d'=>ds'=ds/\d'=d
 |.mval d k'=>∀g ls (k:Nat) ds',f=mq g->ds=.lst (ls.map D.str)::.int (k:Int)::ds'->∀C,X.mg "Pieces" = aa (.ref C)->CalM X g C λls2 k2 ds2 d2 k2'=>ls2=ls/\k2=k/\ds2=ds'/\d2=d/\k2'=k'
 |.merr x=>∀g ls (k:Nat) ds',f=mq g->ds=.lst (ls.map D.str)::.int (k:Int)::ds'->∀C,X.mg "Pieces" = aa (.ref C)->CalMX X g C λls2 k2 ds2 x2=>ls2=ls/\k2=k/\ds2=ds'/\x2=x
 |.no=>True
theorem Cok.comp{X:Cx}{G:ao->Option D}{scope:bG}{C:ak}{s:aq}{H:Hp}{fp:List ak}{pn:k72}(h:Cok X G):Cok (cCx X scope C s H fp pn) G:=⟨h.un',h.un,h.dp,h.bt,h.gl,h.nd,bR,h.ea,h.ec,h.el,h.kin,h.ns,h.kd,h.fn,λd e=>Cal.comp (h.pl d e),λd e=>let ⟨C,h1,h2⟩:=h.pc d e;⟨C,h1,⟨h2.ex⟩⟩,h.lm⟩
theorem Gok.comp{X:Cx}{Γ:ao->List D->Rc}{scope:bG}{C:ak}{s:aq}{H:Hp}{fp:List ak}{pn:k72}(h:Gok X Γ):Gok (cCx X scope C s H fp pn) Γ:=λf ds=>by
 have q:=h f ds;cases e:Γ f ds with
 |val d=>rw[e]at q;exact Cal.comp q
 |fresh l=>rw[e]at q;exact Cal.comp q
 |err x=>rw[e]at q;exact⟨q.ex⟩
 |lval d=>rw[e]at q;exact q
 |mval d k=>rw[e]at q;exact λg ls k ds' h1 h2 C h3=>⟨(q g ls k ds' h1 h2 C h3).ex⟩
 |merr x=>rw[e]at q;exact λg ls k ds' h1 h2 C h3=>⟨(q g ls k ds' h1 h2 C h3).ex⟩
 |no=>trivial
inductive HasA(X:Cx)(ρ:Rho):List au->List Rk->Prop where
 |nil:HasA X ρ [] []
 |cons {a:au} {es:List au} {r:Rk} {rs:List Rk} (hs:ai (a::es) X.env=(ae,aB a X.env)::ai es X.env):Has X ρ a r->HasA X ρ es rs->HasA X ρ (a::es) (r::rs)
section
variable{X:Cx}{ρ:Rho}{es:List au}{rs:List Rk}
theorem HasA.toA:∀{es:List au}{rs:List Rk}{ds:List D},HasA X ρ es rs->vd rs=aa ds->DA X ρ es ds
 |_,_,_,.nil,q=>by cases q;exact DA.nil
 |_,_,ds,.cons (r:=r) (rs:=rs) hs h t,q=>by
  unfold vd at q;cases e1:r.st with
  |none=>rw[e1]at q;cases q
  |some d =>
   cases e2:vd rs with
   |none=>rw[e1,e2]at q;cases q
   |some ds'=>rw[e1,e2]at q;cases q;exact DA.cons (h.toE e1) (t.toA e2) hs
theorem HasA.toT:∀{es:List au}{rs:List Rk},HasA X ρ es rs->DTA X ρ es (rs.map Rk.d)
 |_,_,.nil=>DTA.nil
 |_,_,.cons hs h t=>DTA.cons h.toT t.toT hs
theorem DO.unfrz{e:au}{i:Nat}{a:ak}{l ds:List D}(hk:ρ[i]?=aa (.own a l))(h:DO X (ρ.set i (.val (.lst l))) e ds)(hn:qi ds=af):DO X ρ e ds:=λσ H Q R q =>
 h σ H Q (R.freeze hk) λb xs H' g n m en=>q b xs H' g n m ((en.mono ji).hide (λc hc=>by
  rcases xn.mp hc with z|z
  .rw[z];exact .inl ⟨xs,m⟩
  .exact .inl ((R.grow g).owned c z)) hn)
end
theorem Oq{f:D->Option (Option D)}:∀{ds l:List D},Jx f ds=aa l ->
  l=(ds.filter (λd=>(f d).join.isSome)).map (λd=>(f d).join.getD .non)/\∀d∈ds,∃o,f d=aa o
 |[],l,h=>by cases h;exact⟨rfl,λd hd=>nomatch hd⟩
 |d::ds,l,h=>by
  unfold Jx at h;cases e1:f d with
  |none=>rw[e1]at h;cases h
  |some o =>
   cases e2:Jx f ds with
   |none=>rw[e1,e2]at h;cases o<;>cases h
   |some xs =>
    rw[e1,e2]at h;obtain⟨q1,q2⟩:=Oq e2;have mem:∀d'∈d::ds,∃o,f d'=aa o:=λd' hd=>by
     rcases xn.mp hd with z|z
     .subst z;exact⟨o,e1⟩
     .exact q2 d' z
    cases o with
    |none=>cases h;exact⟨by rw[List.filter_cons_of_neg (by rw[e1];simp)];exact q1,mem⟩
    |some x=>cases h;exact⟨by rw[List.filter_cons_of_pos (by rw[e1];rfl),X4,<-q1,e1];rfl,mem⟩
section
variable{X:Cx}{ρ:Rho}{a b:au}{d da db:D}{ds ds':List D}{pos:aR}{k:Bool}
theorem j4a {t c:String} (h:qp t c=aa k):t ≠ "function":=λz=>by unfold qp at h;rw[if_pos z]at h;cases h
theorem j0d{K:k70}{c:String}(h:qp d.ty c=aa k):W.kitOne K (.type d.ty) (.type c)=aa k:=by
 have nf:d.ty ≠ "function":=j4a h;unfold qp at h;rw[if_neg nf]at h;by_cases h1:c = "int"
 .subst h1;cases d<;>first|exact absurd rfl nf|(simp[D.ty]at h;subst h;kernel_rfl)
 rw[if_neg h1]at h;by_cases h2:c = "bool"
 .subst h2;cases d<;>first|exact absurd rfl nf|(simp[D.ty]at h;subst h;kernel_rfl)
 rw[if_neg h2]at h;by_cases h3:c = "str"
 .subst h3;cases d<;>first|exact absurd rfl nf|(simp[D.ty]at h;subst h;kernel_rfl)
 rw[if_neg h3]at h;by_cases h4:c = "list"
 .subst h4;cases d<;>first|exact absurd rfl nf|(simp[D.ty]at h;subst h;kernel_rfl)
 rw[if_neg h4]at h;by_cases h5:c = "tuple"
 .subst h5;cases d<;>first|exact absurd rfl nf|(simp[D.ty]at h;subst h;kernel_rfl)
 rw[if_neg h5]at h;cases h
theorem j0l {c:String} {cs:List String} (h:jy d (c::cs)=aa k):d.ty ≠ "function":=by
 unfold jy at h;split at h
 .rename_i e _;exact j4a e
 .cases h
theorem Kl{K:k70}:∀{cs:List String}{k:Bool},jy d cs=aa k->W.kitAny K (.type d.ty) (cs.map cQ)=aa k
 |[],k,h=>by cases h;rfl
 |c::cs,k,h=>by
  unfold jy at h;cases e1:qp d.ty c with
  |none=>rw[e1]at h;cases h
  |some x =>
   cases e2:jy d cs with
   |none=>rw[e1,e2]at h;cases h
   |some y =>
    rw[e1,e2]at h;cases h;rw[X4,W.kitAny,j0d e1];cases x with
    |true=>simp
    |false=>simp;exact Kl e2
theorem DE.neD(s:Bool)(hu:X.A.units+100<bE)(ha:DT X ρ a (D.seq s ds))(hb:DT X ρ b (D.seq s ds'))(hd:D.depL ds<=98)(nd:D.depL ds'<10000):DE X ρ (.Compare a [.NotEq] [b] pos) (.bl (!v9 ds ds')):=λσ H Q R q =>(Ji (j3n hu) peS peS (z8 _)).to (ha σ H _ R λv H1 g1 e1=>hb σ H1 _ (R.grow g1) λu H2 g2 e2=>⟨ds,ds',s,e1.mono g2,e2,hd,nd,q _ H2 (g1.trans g2) rfl⟩)
theorem DE.notIn(s:Bool)(hu:X.A.units+100<bE)(ha:DT X ρ a d)(hb:DT X ρ b (D.seq s ds))(hd:D.depL ds<=98)(nd:d.dep<10000)(hm:aO .NotIn b=ae):DE X ρ (.Compare a [.NotIn] [b] pos) (.bl (!ds.any λe=>deq e d)):=λσ H Q R q =>(Ji (Fd hu) peS peS hm).to (ha σ H _ R λv H1 g1 e1=>hb σ H1 _ (R.grow g1) λu H2 g2 e2=>⟨d,ds,s,e1.mono g2,e2,hd,nd,q _ H2 (g1.trans g2) rfl⟩)
theorem DE.in(s:Bool)(hu:X.A.units+100<bE)(ha:DT X ρ a d)(hb:DT X ρ b (D.seq s ds))(hd:D.depL ds<=98)(nd:d.dep<10000)(hm:aO .In b=ae):DE X ρ (.Compare a [.In] [b] pos) (.bl (ds.any λe=>deq e d)):=λσ H Q R q =>(Ji (j3o hu) peS peS hm).to (ha σ H _ R λv H1 g1 e1=>hb σ H1 _ (R.grow g1) λu H2 g2 e2=>⟨d,ds,s,e1.mono g2,e2,hd,nd,q _ H2 (g1.trans g2) rfl⟩)
theorem Be:∀{b:D}{s:Bool}{l:List D},b.sqv=aa (s,l)->b=D.seq s l
 |.lst _,_,_,h=>by cases h;rfl
 |.dct _ _,_,_,h=>by cases h
 |.sct _,_,_,h=>by cases h
 |.fn _ _,_,_,h=>by cases h
 |.tup _,_,_,h=>by cases h;rfl
 |.non,_,_,h=>by cases h
 |.bl _,_,_,h=>by cases h
 |.int _,_,_,h=>by cases h
 |.str _,_,_,h=>by cases h
theorem j29{op:Cop}{i j:Int}(h:cmpI op i j=aa k)(ha:DT X ρ a (.int i))(hb:DT X ρ b (.int j)):DE X ρ (.Compare a [op.op] [b] pos) (.bl k)/\DB X ρ (.Compare a [op.op] [b] pos) k:=by
 cases op<;>(first|(cases h;done)|skip)
 .cases h;exact⟨DE.lt ha hb,DB.lt ha hb⟩
 .cases h;exact⟨DE.le ha hb,DB.le ha hb⟩
 .cases h;exact⟨DE.gt ha hb,DB.gt ha hb⟩
 .cases h;exact⟨DE.ge ha hb,DB.ge ha hb⟩
 .cases h;exact⟨DE.eqI ha hb,DB.eqI ha hb⟩
 .cases h;exact⟨DE.neI ha hb,DB.neI ha hb⟩
theorem Dh{op:Cop}(hu:X.A.units+100<bE)(h:Jp op da db=aa k)(ha:DT X ρ a da)(hb:DT X ρ b db)(hm:aO op.op b=ae) :
  DE X ρ (.Compare a [op.op] [b] pos) (.bl k)/\DB X ρ (.Compare a [op.op] [b] pos) k:=by
 have inn:∀{r:Bool->Bool},(match db.sqv with|some (_,l)=>if D.depL l<=90/\da.dep<=90 then aa (r (l.any λe=>deq e da))else ah|none=>ah)=aa k->∃s l,DT X ρ b (D.seq s l)/\D.depL l<=98/\da.dep<10000/\k=r (l.any λe=>deq e da):=λ{r} h=>by
  cases e:db.sqv with
  |none=>rw[e]at h;cases h
  |some p =>
   obtain⟨s,l⟩:=p;rw[e]at h;have h:(if D.depL l<=90/\da.dep<=90 then aa (r (l.any λe=>deq e da))else ah)=aa k:=h;by_cases z:D.depL l<=90/\da.dep<=90
   .rw[if_pos z]at h;cases h;exact⟨s,l,Be e▸hb,by omega,by omega,rfl⟩
   .rw[if_neg z]at h;cases h
 unfold Jp at h;split at h
 .exact j29 h ha hb
 .by_cases z:da.dep<=90/\db.dep<=90
  .rw[if_pos z]at h;cases h;exact⟨DE.eqD hu ha hb nofun nofun,DB.eqD hu ha hb nofun nofun⟩
  .rw[if_neg z]at h;cases h
 .cases h;exact⟨DE.neB ha hb,DB.neB ha hb⟩
 .cases h;exact⟨(DE.neS ha hb).eq (by rw[Il]),(DB.neS ha hb).eq (by rw[Il])⟩
 .cases h;exact⟨(DE.neS ha hb).eq (by simp),(DB.neS ha hb).eq (by simp)⟩
 .rename_i l m;by_cases z:D.depL l<=90/\D.depL m<=90
  .rw[if_pos z]at h;cases h;exact⟨DE.neD af hu ha hb nofun nofun,DB.neD af hu ha hb nofun nofun⟩
  .rw[if_neg z]at h;cases h
 .rename_i l m;by_cases z:D.depL l<=90/\D.depL m<=90
  .rw[if_pos z]at h;cases h;exact⟨DE.neD ae hu ha hb nofun nofun,DB.neD ae hu ha hb nofun nofun⟩
  .rw[if_neg z]at h;cases h
 .cases h;exact⟨DE.inS ha hb hm,DB.inS ha hb hm⟩
 .cases h;exact⟨DE.ltS ha hb,DB.ltS ha hb⟩
 .cases h;exact⟨DE.gtS ha hb,DB.gtS ha hb⟩
 .obtain⟨s,l,hb,hd,nd,e⟩:=inn (r:=id) h;subst e;exact⟨DE.in s hu ha hb hd nd hm,DB.in s hu ha hb hd nd hm⟩
 .obtain⟨s,l,hb,hd,nd,e⟩:=inn (r:=(!·)) h;subst e;exact⟨DE.notIn s hu ha hb hd nd hm,DB.notIn s hu ha hb hd nd hm⟩
 .cases h
theorem DE.shr{i j:Int}(ha:DT X ρ a (.int i))(hb:DT X ρ b (.int j))(h:0<=j):DE X ρ (.BinOp a .RShift b pos) (.int (i/2^j.toNat)):=DE.arI (g:=λi j=>i/2^j.toNat) jdw ha hb h
theorem ju{α:Type}{c:Prop}[Decidable c]{x y:α}(h:(if c then aa x else ah)=aa y):c/\x=y:=by
 by_cases z:c
 .rw[if_pos z]at h;exact⟨z,aC h⟩
 .rw[if_neg z]at h;cases h
theorem j2b{op:Bop}{i j n:Int}(h:binI op i j=aa n)(ha:DT X ρ a (.int i))(hb:DT X ρ b (.int j)):DE X ρ (.BinOp a op.op b pos) (.int n):=by
 cases op
 .cases h;exact DE.add ha hb
 .cases h;exact DE.sub ha hb
 .obtain⟨z,e⟩:=ju h;subst e;exact DE.mul ha hb z
 .obtain⟨z,e⟩:=ju h;subst e;exact DE.fdivB ha hb z
 .obtain⟨z,e⟩:=ju h;subst e;exact DE.mod ha hb z
 .obtain⟨z,e⟩:=ju h;subst e;exact DE.pow ha hb z
 .obtain⟨z,e⟩:=ju h;subst e;exact DE.shl ha hb z
 .obtain⟨z,e⟩:=ju h;subst e;exact DE.shr ha hb z
 .cases h;exact DE.arI0 je2 ha hb
 .cases h;exact DE.arI0 jdu ha hb
theorem ql{n:Nat}(h:jj n=af):n<=ar:=of_decide_eq_true h
end
section
variable{X:Cx}{ρ:Rho}{a b e:au}{es:List au}{d:D}{pos p:aR}
theorem Has.lw:∀{r:Rk}{l:List D},Has X ρ a r->r.lw=aa l->DL X ρ a l
 |.o l,_,h,q=>by cases q;exact DO.toL h
 |.w l,_,h,q=>by cases q;exact h
 |.e _,_,_,q=>by cases q
 |.t _,_,_,q=>by cases q
theorem j59{op:Bop}{x y r:Rk}(h:Us op x y=aa r)(ha:Has X ρ a x)(hb:Has X ρ b y):Has X ρ (.BinOp a op.op b pos) r:=by
 unfold Us at h;split at h
 .rename_i i j e1 e2;cases z:binI op i j with
  |none=>rw[z]at h;cases h
  |some n=>rw[z]at h;cases h;exact j2b z (e1▸ha.toT) (e2▸hb.toT)
 .rename_i y z e1 e2;split at h
  .obtain⟨q,e⟩:=ju h;subst e;exact DE.catS (e1▸ha.toT) (e2▸hb.toT) (ql q)
  .cases h
 .rename_i y k e1 e2;split at h
  .obtain⟨q,e⟩:=ju h;subst e;exact DE.mulS (e1▸ha.toT) (e2▸hb.toT) q.1 q.2
  .cases h
 .split at h
  .rename_i l m _ e1 e2;obtain⟨z,q⟩:=ju h;subst q;exact DO.catM (ha.toM e1) (hb.toM e2) (ql z)
  .rename_i l m _ e1 e2;obtain⟨z,q⟩:=ju h;subst q;exact DE.catTM (ha.toM e1) (hb.toM e2) (ql z)
  .rename_i l k _ _ e1 e3;obtain⟨z,q⟩:=ju h;subst q;exact DE.repT (ha.toM e1) (e3▸hb.toT) (λe=>by subst e;exact absurd z.2.2.1 (by simp)) z.1 z.2.1 (ql z.2.2.2)
  .rename_i k _ _ _ e3 _;cases e:x.lw with
   |none=>rw[e]at h;cases h
   |some l =>rw[e]at h;obtain⟨z,q⟩:=ju h;subst q;exact DO.rep (ha.lw e) (e3▸hb.toT) z.1 z.2.1 (ql z.2.2)
  .cases h
theorem Uq:∀{l:List D}{bs:List Bool},boolsOf l=aa bs->l=bs.map D.bl
 |[],_,h=>by cases h;rfl
 |.bl b::r,bs,h=>by
  unfold boolsOf at h;cases e:boolsOf r with
  |none=>rw[e]at h;cases h
  |some q=>rw[e]at h;cases h;rw[Uq e];rfl
 |.non::_,_,h=>by cases h
 |.int _::_,_,h=>by cases h
 |.str _::_,_,h=>by cases h
 |.tup _::_,_,h=>by cases h
 |.lst _::_,_,h=>by cases h
 |.dct _ _::_,_,h=>by cases h
 |.sct _::_,_,h=>by cases h
 |.fn _ _::_,_,h=>by cases h
theorem Q3:∀{l:List D}{bs:List Int},intsOf l=aa bs->l=bs.map D.int
 |[],_,h=>by cases h;rfl
 |.int b::r,bs,h=>by
  unfold intsOf at h;cases e:intsOf r with
  |none=>rw[e]at h;cases h
  |some q=>rw[e]at h;cases h;rw[Q3 e];rfl
 |.non::_,_,h=>by cases h
 |.bl _::_,_,h=>by cases h
 |.str _::_,_,h=>by cases h
 |.tup _::_,_,h=>by cases h
 |.lst _::_,_,h=>by cases h
 |.dct _ _::_,_,h=>by cases h
 |.sct _::_,_,h=>by cases h
 |.fn _ _::_,_,h=>by cases h
theorem Y7:∀{l:List D}{bs:List ao},strsOf l=aa bs->l=bs.map D.str
 |[],_,h=>by cases h;rfl
 |.str b::r,bs,h=>by
  unfold strsOf at h;cases e:strsOf r with
  |none=>rw[e]at h;cases h
  |some q=>rw[e]at h;cases h;rw[Y7 e];rfl
 |.non::_,_,h=>by cases h
 |.bl _::_,_,h=>by cases h
 |.int _::_,_,h=>by cases h
 |.tup _::_,_,h=>by cases h
 |.lst _::_,_,h=>by cases h
 |.dct _ _::_,_,h=>by cases h
 |.sct _::_,_,h=>by cases h
 |.fn _ _::_,_,h=>by cases h
theorem vh{w:Option W}{k:Bool}(h:truth w=aa k):∃r,w=aa (.v r)/\r.d=.bl k:=by
 unfold truth at h;split at h
 .rename_i r;split at h
  .rename_i q e;cases h;exact⟨r,rfl,e⟩
  .cases h
 .cases h
def Eg(X:Cx)(ρ:Rho):List au->List Rk->Prop
 |[],[]=>True
 |e::es,r::rs=>(∀y,Zq r.d=aa y->DE X ρ e (.str y))/\Eg X ρ es rs
 |_,_=>False
theorem Eg.all{X:Cx}{ρ:Rho}:∀{es:List au}{rs:List Rk}{ys:List ao},Eg X ρ es rs->Q8 rs=aa ys->DPs X ρ es ys/\ys.length=rs.length
 |[],[],ys,_,q=>by cases q;exact⟨trivial,rfl⟩
 |e::es,r::rs,ys,h,q=>by
  unfold Q8 at q;cases e1:Zq r.d with
  |none=>rw[e1]at q;cases q
  |some y =>
   cases e2:Q8 rs with
   |none=>rw[e1,e2]at q;cases q
   |some ys' =>rw[e1,e2]at q;cases q;obtain⟨z1,z2⟩:=Eg.all h.2 e2;exact⟨⟨h.1 y e1,z1⟩,by rw[xr,xr,z2]⟩
 |[],_::_,_,h,_=>h.elim
 |_::_,[],_,h,_=>h.elim
theorem log2_small{i:Int}(h:-18446744073709551616<i/\i<18446744073709551616):i.natAbs.log2<1920:=by
 by_cases z:i.natAbs=0
 .rw[z];decide
 .have e:(2:Nat)^64=18446744073709551616:=by decide
  have:i.natAbs.log2<64:=(lh z).mpr (by rw[e];omega);omega
theorem j30{d:D}{y:ao}(h:Zq d=aa y):y.length<=2000:=by
 cases d with
 |int i =>
  simp only[Zq]at h;split at h
  .rename_i q;cases h;have:=int_text_length_le (k:=1920) (by decide) (log2_small q);rw[PySem.ofString_length];omega
  .cases h
 |str z =>
  simp only[Zq]at h;split at h
  .rename_i q;cases h;exact q
  .cases h
 |_=>cases h
theorem Rp:∀{rs:List Rk}{ys:List ao},Q8 rs=aa ys->∀y∈ys,y.length<=2000
 |[],_,q=>by cases q;exact λy hy=>nomatch hy
 |r::rs,ys,q=>by
  unfold Q8 at q;cases e1:Zq r.d with
  |none=>rw[e1]at q;cases q
  |some y =>
   cases e2:Q8 rs with
   |none=>rw[e1,e2]at q;cases q
   |some ys' =>
    rw[e1,e2]at q;cases q;intro z hz;rcases xn.mp hz with rfl|hz
    .exact j30 e1
    .exact Rp e2 z hz
theorem DE.fmt{X:Cx}{ρ:Rho}{a:au}{d:D}{y:ao}{pos:aR}(ha:DT X ρ a d)(h:Zq d=aa y):DE X ρ (.FormattedValue a (-1) ah pos) (.str y):=by
 cases d with
 |int i =>
  simp only[Zq]at h;split at h
  .rename_i q;cases h;exact DE.fmtI ha (log2_small q)
  .cases h
 |str z =>
  simp only[Zq]at h;split at h
  .rename_i q;cases h;exact DE.fmtS ha (by rw[cg];omega)
  .cases h
 |_=>cases h
def jgl(Γ:ao->List D->Rc)(G:ao->Option D)(X:Cx)(t:Ex):Nd->Prop
 |.e e=>∀ρ r,ev Γ G t (j7 ρ)=aa (.v r)->Has X ρ e r
 |.b e=>∀ρ k,truth (ev Γ G t (j7 ρ))=aa k->DB X ρ e k
 |.w e=>∀ρ k,truth (ev Γ G t (j7 ρ))=aa k->DW X ρ e k
 |.a es=>∀ρ rs,ev Γ G t (j7 ρ)=aa (.a rs)->HasA X ρ es rs
 |.i tg it=>∀ρ ds,ev Γ G t (j7 ρ)=aa (.i ds)->DI X ρ tg it ds
 |.o e=>∀ρ o,Q5 (ev Γ G t (j7 ρ))=aa o->DP X ρ e o
 |.p es=>∀ρ rs,ev Γ G t (j7 ρ)=aa (.a rs)->Eg X ρ es rs
 |.c ifs=>∀ρ,(ev Γ G t (j7 ρ)=aa (.a [])->DTs X ρ ifs af)/\∀y k,ev Γ G t (j7 ρ)=aa (.a [y])->y.d=.bl k->DTs X ρ ifs k
end
section
variable{Γ:ao->List D->Rc}{G:ao->Option D}{X:Cx}
theorem M4{is:List Nat}{elt' it' c':Ex}{elt it tg:au}{ifs:List au}{scope:bG}{ρ:Rho}{r:Rk}
  (hit:∀ρ ds,ev Γ G it' (j7 ρ)=aa (.i ds)->DI X ρ tg it ds)
  (hb:∀ρ d ρ2,zj is d (j7 ρ)=aa ρ2->(∀j∈is,ρ[j]?=aa .un)->∃ρ',j7 ρ'=ρ2/\Wk ρ' ρ/\owns ρ'=owns ρ/\∀C s H fp pn,DG (cCx X scope C s H fp pn) ρ tg d ρ')
  (he:∀C s H fp pn ρ r,ev Γ G elt' (j7 ρ)=aa (.v r)->Has (cCx X scope C s H fp pn) ρ elt r)
  (hc:∀C s H fp pn ρ,(ev Γ G c' (j7 ρ)=aa (.a [])->DTs (cCx X scope C s H fp pn) ρ ifs af)/\∀y k,ev Γ G c' (j7 ρ)=aa (.a [y])->y.d=.bl k->DTs (cCx X scope C s H fp pn) ρ ifs k)
  (h:ev Γ G (.comp is elt' it' c') (j7 ρ)=aa (.v r)):∃(l:List D)(ρf:Rho)(ds:List D)(pr:D->Bool)(g:D->D),r=.o l/\l=(ds.filter pr).map g /\
   (ρf=ρ\/(qi l=af/\∃(i:Nat)(a:ak)(l':List D),ρ[i]?=aa (.own a l')/\ρf=ρ.set i (.val (.lst l'))))/\DI X ρf tg it ds/\(∀j∈is,ρf[j]?=aa .un)/\ds.length<=ar /\
   (∀C s H fp pn,∀d∈ds,∃ρ2,DG (cCx X scope C s H fp pn) ρf tg d ρ2/\Wk ρ2 ρf/\owns ρ2=owns ρf/\DTs (cCx X scope C s H fp pn) ρ2 ifs (pr d)/\(pr d=af->DE (cCx X scope C s H fp pn) ρ2 elt (g d))):=by
 have fr:∃ρf,j7 ρf=frz it' (j7 ρ)/\((Jb it' (j7 ρ)=ae/\ρf=ρ)\/(Jb it' (j7 ρ)=af/\∃i a l,ρ[i]?=aa (.own a l)/\ρf=ρ.set i (.val (.lst l)))):=by
  by_cases z:Jb it' (j7 ρ)=af
  .unfold Jb at z;split at z
   .rename_i i ei;split at z
    .rename_i l e;obtain⟨a,q⟩:=vo e;refine⟨ρ.set i (.val (.lst l)),?_,.inr ⟨?_,i,a,l,q,rfl⟩⟩
     .rw[jk];simp only[frz,ei,e,Sl.abs]
     .simp only[Jb,ei,e]
    .cases z
   .cases z
  .have z':Jb it' (j7 ρ)=ae:=by simpa using z
   refine⟨ρ,?_,.inl ⟨z',rfl⟩⟩;unfold frz;split
   .rename_i i ei;split
    .rename_i l e;simp only[Jb,ei,e]at z';cases z'
    .rfl
   .rfl
 obtain⟨ρf,ef,fr⟩:=fr;rw[jgc]at h;rw[<-ef]at h;split at h
 .rename_i ds hds;split at h
  .rename_i hz;obtain⟨hfree,hlen⟩:=hz;generalize hf:(λd=>_:D->Option (Option D))=f at h;cases hl:Jx f ds with
   |none=>rw[hl]at h;cases h
   |some l =>
    rw[hl]at h;have h:(if (Jb it' (j7 ρ) && !qi l)=af then ah else aa (W.v (.o l)))=aa (.v r):=h;by_cases zz:(Jb it' (j7 ρ) && !qi l)=af
    .rw[if_pos zz]at h;cases h
    .rw[if_neg zz]at h;cases h;obtain⟨el,hmem⟩:=Oq hl;have hun:∀j∈is,ρf[j]?=aa .un:=λj hj=>by
      have:=Xp.mp hfree j hj;split at this
      .rename_i e;exact jcd e
      .cases this
     refine⟨l,ρf,ds,_,_,rfl,el,?_,hit ρf ds hds,hun,ql hlen,λC s H fp pn d hd=>?_⟩
     .rcases fr with ⟨_,e⟩|⟨e1,i,a,l',hk,e⟩
      .exact .inl e
      .exact .inr ⟨by rw[e1]at zz;simpa using zz,i,a,l',hk,e⟩
     ·
      obtain⟨o,ho⟩:=hmem d hd;rw[<-hf]at ho ⊢;dsimp only at ho ⊢;cases hb2:zj is d (j7 ρf) with
      |none=>rw[hb2]at ho;cases ho
      |some ρ2 =>
       obtain⟨ρ',e',wk,ow,dg⟩:=hb ρf d ρ2 hb2 hun;subst e';refine⟨ρ',dg C s H fp pn,wk,ow,?_⟩;rw[hb2]at ho;dsimp only at ho ⊢;cases hcv:ev Γ G c' (j7 ρ') with
       |none=>rw[hcv]at ho;cases ho
       |some w =>
        rw[hcv]at ho;split at ho
        .rename_i hw;cases hw;cases hev:ev Γ G elt' (j7 ρ') with
         |none=>rw[hev]at ho;cases ho
         |some w =>
          rw[hev]at ho;cases w with
          |i _=>cases ho
          |a _=>cases ho
          |v x =>
           dsimp only at ho ⊢;cases hst:x.st with
           |none=>rw[hst]at ho;cases ho
           |some y =>simp only[hst,iN,iq,f6,dN];exact⟨((hc C s H fp pn ρ').1 hcv),λ_=>(he C s H fp pn ρ' x hev).toE hst⟩
        .rename_i y hw;cases hw;split at ho
         .rename_i e1;cases hev:ev Γ G elt' (j7 ρ') with
          |none=>rw[hev]at ho;cases ho
          |some w =>
           rw[hev]at ho;cases w with
           |i _=>cases ho
           |a _=>cases ho
           |v x =>
            dsimp only at ho ⊢;cases hst:x.st with
            |none=>rw[hst]at ho;cases ho
            |some z =>simp only[e1,hst,iN,iq,f6,dN];exact⟨(hc C s H fp pn ρ').2 y af hcv e1,λ_=>(he C s H fp pn ρ' x hev).toE hst⟩
         .rename_i e1;simp only[e1,Option.join,gH];exact⟨(hc C s H fp pn ρ').2 y ae hcv e1,λz=>by cases z⟩
         .cases ho
        .cases ho
  .cases h
 .cases h
theorem j27{is:List Nat}{elt' it' c':Ex}{elt it tg:au}{ifs:List au}{scope:bG}{p:aR}{ρ:Rho}{r:Rk}(hq:X.calm=af)(hX:Cok X G)
  (hit:∀ρ ds,ev Γ G it' (j7 ρ)=aa (.i ds)->DI X ρ tg it ds) (hkind:scope.kind=.function) (hok:Jt scope X.env X.N is=af) (hs:∀x,aX it X.env x=pure x)
  (hb:∀ρ d ρ2,zj is d (j7 ρ)=aa ρ2->(∀j∈is,ρ[j]?=aa .un)->∃ρ',j7 ρ'=ρ2/\Wk ρ' ρ/\owns ρ'=owns ρ/\∀C s H fp pn,DG (cCx X scope C s H fp pn) ρ tg d ρ')
  (he:∀C s H fp pn ρ r,ev Γ G elt' (j7 ρ)=aa (.v r)->Has (cCx X scope C s H fp pn) ρ elt r)
  (hc:∀C s H fp pn ρ,(ev Γ G c' (j7 ρ)=aa (.a [])->DTs (cCx X scope C s H fp pn) ρ ifs af)/\∀y k,ev Γ G c' (j7 ρ)=aa (.a [y])->y.d=.bl k->DTs (cCx X scope C s H fp pn) ρ ifs k)
  (h:ev Γ G (.comp is elt' it' c') (j7 ρ)=aa (.v r)):∃l,r=.o l/\DO X ρ (.ListComp elt [⟨tg,it,ifs,0⟩] scope p) l:=by
 obtain⟨l,ρf,ds,pr,g,er,el,hf,hi,hun,hz,hb'⟩:=M4 hit hb he hc h;refine⟨l,er,?_⟩;have main:DO X ρf (.ListComp elt [⟨tg,it,ifs,0⟩] scope p) ((ds.filter pr).map g):=DO.comp is _ _ hi hb' hun hz hq hkind hok hs;rw[<-el]at main;rcases hf with e|⟨hn,i,a,l',hk,e⟩
 .subst e;exact main
 .subst e;exact DO.unfrz hk main hn
end
section
variable{X:Cx}{ρ:Rho}{a b e:au}{es:List au}{d:D}{pos p:aR}
theorem Has.map(h:∀σ H Q,Jv X a σ H Q->Jv X e σ H Q):∀{r:Rk},Has X ρ a r->Has X ρ e r
 |.e _,q=>λσ H Q R z=>h σ H Q (q σ H Q R z)
 |.o _,q=>λσ H Q R z=>h σ H Q (q σ H Q R z)
 |.w _,q=>λσ H Q R z=>h σ H Q (q σ H Q R z)
 |.t _,q=>λσ H Q R z=>h σ H Q (q σ H Q R z)
theorem Has.bl{r:Rk}{k:Bool}(h:Has X ρ a r)(e:r.d=.bl k):DE X ρ a (.bl k):=DT.toE (e▸h.toT)
theorem Q6{f:Bf}{rs:List Rk}{r:Rk}{p2:aR}{G:ao->Option D}(c:Cok X G)(hq:f=.min\/f=.all\/f=.sum\/f=.any\/f=.max->X.calm=af)(hg:Gl X f.name)(h:V9 f rs=aa r)(ha:HasA X ρ es rs):Has X ρ (.Call (.Name f.name p) es [] p2) r:=by
 have one:∀{x:Rk},HasA X ρ es [x]->∃e,es=[e]/\Has X ρ e x/\ai [e] X.env=[(ae,aB e X.env)]:=λ{x} h=>by cases h with|cons hs h t=>cases t;exact⟨_,rfl,h,hs⟩
 have two:∀{x y:Rk},HasA X ρ es [x,y]->∃e f,es=[e,f]/\Has X ρ e x/\Has X ρ f y/\ai [e,f] X.env=(ae,aB e X.env)::ai [f] X.env/\ai [f] X.env=[(ae,aB f X.env)]:=λ{x y} h=>by cases h with|cons hs h t=>cases t with|cons hs2 h2 t2=>cases t2;exact⟨_,_,rfl,h,h2,hs,hs2⟩
 unfold V9 at h;split at h
 .rename_i x;obtain⟨e,ee,hx,hs⟩:=one ha;subst ee;split at h
  .rename_i l el;cases h;exact DE.lenL (el▸hx.toT) (c.bt _ (by decide)) hg hs
  .rename_i l el;cases h;exact DE.lenT (el▸hx.toT) (c.bt _ (by decide)) hg hs
  .rename_i y el;obtain⟨z,q⟩:=ju h;subst q;exact DE.lenS (el▸hx.toT) (ql z) (c.bt _ (by decide)) hg hs
  .cases h
 .rename_i x y;obtain⟨e,f,ee,hx,hy,hs,hs2⟩:=two ha;subst ee;split at h
  .rename_i i j ei ej;cases h;exact DE.min (ei▸hx.toT) (ej▸hy.toT) (c.bt _ (by decide)) (hq (.inl rfl)) hg hs hs2 (by rw[hs2];rfl)
  .cases h
 .rename_i x y;obtain⟨e,f,ee,hx,hy,hs,hs2⟩:=two ha;subst ee;split at h
  .rename_i i j ei ej;cases h;exact DE.max2 (ei▸hx.toT) (ej▸hy.toT) (c.bt _ (by decide)) (hq (.inr (.inr (.inr (.inr rfl))))) hg hs hs2 (by rw[hs2];rfl)
  .cases h
 .rename_i x;obtain⟨e,ee,hx,hs⟩:=one ha;subst ee;split at h
  .rename_i l el;split at h
   .rename_i ns en;obtain⟨z,q⟩:=ju h;cases q;have:=Q3 en;subst this;exact DE.maxL (el▸hx.toT) (λz'=>by subst z';simp at z) (c.bt _ (by decide)) (hq (.inr (.inr (.inr (.inr rfl))))) hg hs
   .cases h
  .cases h
 .rename_i x;obtain⟨e,ee,hx,hs⟩:=one ha;subst ee;split at h
  .rename_i l el;split at h
   .rename_i ns en;obtain⟨z,q⟩:=ju h;cases q;have:=Q3 en;subst this;exact DE.minL (el▸hx.toT) (λz'=>by subst z';simp at z) (c.bt _ (by decide)) (hq (.inl rfl)) hg hs
   .cases h
  .cases h
 .rename_i x;obtain⟨e,ee,hx,hs⟩:=one ha;subst ee;split at h
  .rename_i l el;cases q:boolsOf l with
   |none=>rw[q]at h;cases h
   |some bs =>rw[q]at h;cases h;have:=Uq q;subst this;exact DE.all (el▸hx.toT) (c.bt _ (by decide)) (hq (.inr (.inl rfl))) hg hs
  .cases h
 .rename_i x;obtain⟨e,ee,hx,hs⟩:=one ha;subst ee;split at h
  .rename_i l el;cases q:boolsOf l with
   |none=>rw[q]at h;cases h
   |some bs =>rw[q]at h;cases h;have:=Uq q;subst this;exact DE.any (el▸hx.toT) (c.bt _ (by decide)) (hq (.inr (.inr (.inr (.inl rfl))))) hg hs
  .cases h
 .rename_i x;obtain⟨e,ee,hx,hs⟩:=one ha;subst ee;split at h
  .rename_i s l el;cases h;exact DE.tupM (hx.toM el) (c.bt _ (by decide)) hg hs
  .cases h
 .rename_i x;obtain⟨e,ee,hx,hs⟩:=one ha;subst ee;split at h
  .rename_i s l el;cases h;exact DO.listM (hx.toM el) (c.bt _ (by decide)) hg hs
  .cases h
 .rename_i x;obtain⟨e,ee,hx,hs⟩:=one ha;subst ee;split at h
  .rename_i l el;cases q:intsOf l with
   |none=>rw[q]at h;cases h
   |some ns =>rw[q]at h;cases h;have:=Q3 q;subst this;exact DE.sum af (show DT X ρ e (.lst (ns.map D.int))from el▸hx.toT) (c.bt _ (by decide)) (hq (.inr (.inr (.inl rfl)))) hg hs
  .rename_i l el;cases q:intsOf l with
   |none=>rw[q]at h;cases h
   |some ns =>rw[q]at h;cases h;have:=Q3 q;subst this;exact DE.sum ae (show DT X ρ e (.tup (ns.map D.int))from el▸hx.toT) (c.bt _ (by decide)) (hq (.inr (.inr (.inl rfl)))) hg hs
  .cases h
 .rename_i x;obtain⟨e,ee,hx,hs⟩:=one ha;subst ee;split at h
  .rename_i k el;cases h;exact DE.int1 (el▸hx.toT) (c.bt _ (by decide)) hg hs
  .cases h
 .cases h
end
section
variable{Γ:ao->List D->Rc}{G:ao->Option D}{X:Cx}
theorem j2a {ρ:Rho} {f:ao} {e:au} {es:List au} {rs:List Rk} {r:Rk} {p p2:aR} (g:Gok X Γ) (hg:Gl X f) (hdb:(f==k74)=ae) (he:ai (e::es) X.env=(ae,aB e X.env)::ai es X.env)
  (hpl:(aP p2 (ai es X.env)).any (·.1)=ae) (ha:HasA X ρ (e::es) rs)
  (h:(match vd rs with|some ds=>(Γ f ds).rk.map W.v|none=>match Γ f (rs.map Rk.d)with|.val d=>aa (.v (.t d))|.fresh l=>if qi l=af then aa (.v (.o l))else ah|_=>ah)=aa (.v r)):Has X ρ (.Call (.Name f p) (e::es) [] p2) r:=by
 split at h
 .rename_i ds hds;have q:=g f ds;cases z:Γ f ds with
  |val d=>rw[z]at h q;cases h;exact DE.call q (ha.toA hds) ⟨rfl,rfl⟩ hg hdb he hpl
  |fresh l=>rw[z]at h q;cases h;exact DO.call q (ha.toA hds) ⟨rfl,rfl⟩ hg hdb he hpl
  |err x=>rw[z]at h;cases h
  |lval d=>rw[z]at h;cases h
  |mval d k=>rw[z]at h;cases h
  |merr x=>rw[z]at h;cases h
  |no=>rw[z]at h;cases h
 .have q:=g f (rs.map Rk.d);split at h
  .rename_i d z;rw[z]at q;cases h;exact DT.call q ha.toT ⟨rfl,rfl⟩ hg hdb he hpl
  .rename_i l z;rw[z]at q;obtain⟨hn,e1⟩:=ju h;cases e1;exact DO.callT q ha.toT ⟨rfl,rfl⟩ hn hg hdb he hpl
  .cases h
theorem jd8{a:Ex}{ρ:En}{r:Rk}(h:ev Γ G (.rpr a) ρ=aa (.v r)):∃x y,ev Γ G a ρ=aa (.v x)/\x.d=.str y/\(bW y).length<=2000/\r=.e (.str (bW y)):=by
 rw[jiz]at h;split at h
 .rename_i x ex;split at h
  .rename_i y ey;split at h
   .rename_i hl;cases h;exact⟨x,y,ex,ey,hl,rfl⟩
   .cases h
  .cases h
 .cases h
end
def XM(X:Cx)(ρ:Rho)(y:ao):Nd->Prop
 |.e e=>DX X ρ e y
 |.a es=>DXA X ρ es y
 |_=>True
structure Tr(X:Cx)(t:Ex)(nd:Nd):Prop where
 m:∀(Γ:ao->List D->Rc)(G:ao->Option D),Cok X G->Gok X Γ->jgl Γ G X t nd
 x:∀(Γ:ao->List D->Rc)(G:ao->Option D),Cok X G->Gok X Γ->∀ρ y,er Γ G t (j7 ρ)=aa y->XM X ρ y nd
theorem Tr.int:∀{X:Cx}{i:Int}{n:Nat}{p:aR},Tr X (.lit (.int i)) (.e (.Constant (.int i) n p)):=by intro _ _ _ _;refine⟨λΓ G=>?_,λ_ _ _ _ _ _ h=>nomatch h⟩;intro _ _ ρ r h;simp only[Cw]at h;cases h;exact DE.int
theorem Tr.bl:∀{X:Cx}{b:Bool}{n:Nat}{p:aR},Tr X (.lit (.bl b)) (.e (.Constant (.bool b) n p)):=by intro _ _ _ _;refine⟨λΓ G=>?_,λ_ _ _ _ _ _ h=>nomatch h⟩;intro _ _ ρ r h;simp only[Cw]at h;cases h;exact DE.bl
theorem Tr.str:∀{X:Cx}{y:ao}{n:Nat}{p:aR},Tr X (.lit (.str y)) (.e (.Constant (.str y) n p)):=by intro _ _ _ _;refine⟨λΓ G=>?_,λ_ _ _ _ _ _ h=>nomatch h⟩;intro _ _ ρ r h;simp only[Cw]at h;cases h;exact DE.str
theorem Tr.var:∀{X:Cx}{k:Nat}{x:ao}{p:aR}(hN:X.N[k]?=aa x) (hv:Vis X.env.scope x) (hd:(x==k74)=ae) (hcd:(x==k75)=ae),Tr X (.var k) (.e (.Name x p)):=by
 intro _ _ _ _ hN hv hd hcd;refine⟨λΓ G=>?_,λ_ _ _ _ _ _ h=>nomatch h⟩;intro _ _ ρ r h;simp only[jiw,Ox]at h;split at h
 .rename_i e;cases h;exact DE.var _ (Mt e) hN hv hd hcd
 .rename_i e;cases h;obtain⟨a,q⟩:=vo e;exact DL.var _ q hN hv hd hcd
 .cases h
theorem Tr.glob:∀{X:Cx}{x:ao}{p:aR}(hg:Gl X x)(hd:(x==k74)=ae) (hb:V3 x=ae),Tr X (.glob x) (.e (.Name x p)):=by
 intro _ _ _ hg hd hb;refine⟨λΓ G=>?_,λ_ _ _ _ _ _ h=>nomatch h⟩;rename_i X x p;intro c _ ρ r h;simp only[jga]at h;cases e:G x with
 |none=>rw[e]at h;cases h
 |some d=>rw[e]at h;cases h;obtain⟨u,v,hm,r,q⟩:=c.gl x d hb e;exact DE.glob hg hm r q hd
theorem Tr.bin:∀{X:Cx}{op:Bop}{a' b':Ex}{a b:au}{p:aR},Tr X a' (.e a)->Tr X b' (.e b)->Tr X (.bin op a' b') (.e (.BinOp a op.op b p)):=by
 intro _ _ _ _ _ _ _ q0 q1;refine⟨λΓ G=>?_,λ_ _ _ _ _ _ h=>nomatch h⟩;have iha:=q0.m Γ G;have ihb:=q1.m Γ G;intro c g ρ r h;simp only[jj4,Qc]at h;split at h
 .rename_i x y ex ey;cases e:Us _ x y with
  |none=>rw[e]at h;cases h
  |some z=>rw[e]at h;cases h;exact j59 e (iha c g ρ x ex) (ihb c g ρ y ey)
 .cases h
theorem Tr.cmp:∀{X:Cx}{op:Cop}{a' b':Ex}{a b:au}{p:aR}(hm:aO op.op b=ae),Tr X a' (.e a)->Tr X b' (.e b)->Tr X (.cmp op a' b') (.e (.Compare a [op.op] [b] p)):=by
 intro _ _ _ _ _ _ _ hm q0 q1;refine⟨λΓ G=>?_,λ_ _ _ _ _ _ h=>nomatch h⟩;have iha:=q0.m Γ G;have ihb:=q1.m Γ G;intro c g ρ r h;simp only[j9n,Nf]at h;split at h
 .rename_i x y ex ey;cases e:Jp _ x.d y.d with
  |none=>rw[e]at h;cases h
  |some z=>rw[e]at h;cases h;exact(Dh c.un' e (iha c g ρ x ex).toT (ihb c g ρ y ey).toT hm).1
 .cases h
theorem Tr.bcmp:∀{X:Cx}{op:Cop}{a' b':Ex}{a b:au}{p:aR}(hm:aO op.op b=ae),Tr X a' (.e a)->Tr X b' (.e b)->Tr X (.cmp op a' b') (.b (.Compare a [op.op] [b] p)):=by
 intro _ _ _ _ _ _ _ hm q0 q1;refine⟨λΓ G=>?_,λ_ _ _ _ _ _ _=>trivial⟩;have iha:=q0.m Γ G;have ihb:=q1.m Γ G;intro c g ρ k h;obtain⟨r,h,hk⟩:=vh h;simp only[j9n,Nf]at h;split at h
 .rename_i x y ex ey;cases e:Jp _ x.d y.d with
  |none=>rw[e]at h;cases h
  |some z=>rw[e]at h;cases h;cases hk;exact(Dh c.un' e (iha c g ρ x ex).toT (ihb c g ρ y ey).toT hm).2
 .cases h
theorem Tr.isN:∀{X:Cx}{a':Ex}{a:au}{n:Nat}{p p2:aR},Tr X a' (.e a)->Tr X (.isN a') (.e (.Compare a [.Is] [.Constant .none n p2] p)):=by
 intro _ _ _ _ _ _ q0;refine⟨λΓ G=>?_,λ_ _ _ _ _ _ h=>nomatch h⟩;have iha:=q0.m Γ G;intro c g ρ r h;simp only[j9m]at h;split at h
 .rename_i x ex;cases h;exact DE.isN (iha c g ρ x ex).toT
 .cases h
theorem Tr.bisN:∀{X:Cx}{a':Ex}{a:au}{n:Nat}{p p2:aR},Tr X a' (.e a)->Tr X (.isN a') (.b (.Compare a [.Is] [.Constant .none n p2] p)):=by
 intro _ _ _ _ _ _ q0;refine⟨λΓ G=>?_,λ_ _ _ _ _ _ _=>trivial⟩;have iha:=q0.m Γ G;intro c g ρ k h;obtain⟨r,h,hk⟩:=vh h;simp only[j9m]at h;split at h
 .rename_i x ex;cases h;cases hk;exact DB.isN (iha c g ρ x ex).toT
 .cases h
theorem Tr.one:∀{X:Cx}{a':Ex}{a:au}{op:BoolOp}{p:aR},Tr X a' (.e a)->Tr X a' (.e (.BoolOp op [a] p)):=by intro _ _ _ _ _ q0;refine⟨λΓ G=>?_,λΓ G c g ρ y h σ H Q R k=>(j3l peS).to (q0.x Γ G c g ρ y h σ H Q R k)⟩;have iha:=q0.m Γ G;intro c g ρ r h;exact Has.map (λσ H Q q=>(j3l peS).to q) (iha c g ρ r h)
theorem Tr.and:∀{X:Cx}{a' t':Ex}{a b:au}{rest:List au}{p:aR},Tr X a' (.e a)->Tr X t' (.e (.BoolOp .And (b::rest) p))->Tr X (.and a' t') (.e (.BoolOp .And (a::b::rest) p)):=by
 intro _ _ _ _ _ _ _ q0 q1;refine⟨λΓ G=>?_,λ_ _ _ _ _ _ h=>nomatch h⟩;have iha:=q0.m Γ G;have ihb:=q1.m Γ G;intro c g ρ r h;simp only[jj5]at h;split at h
 .rename_i e;cases h;obtain⟨x,ex,ed⟩:=vh e;exact(DE.and (m:=ae) ((iha c g ρ x ex).bl ed).toT λz=>by cases z)
 .rename_i e;obtain⟨x,ex,ed⟩:=vh e;cases e2:truth (ev Γ G _ (j7 ρ)) with
  |none=>rw[e2]at h;cases h
  |some k =>rw[e2]at h;cases h;obtain⟨y,ey,fd⟩:=vh e2;exact(DE.and ((iha c g ρ x ex).bl ed).toT λ_=>(ihb c g ρ y ey).bl fd).eq (by simp)
 .cases h
theorem Tr.or:∀{X:Cx}{a' t':Ex}{a b:au}{rest:List au}{p:aR},Tr X a' (.e a)->Tr X t' (.e (.BoolOp .Or (b::rest) p))->Tr X (.or a' t') (.e (.BoolOp .Or (a::b::rest) p)):=by
 intro _ _ _ _ _ _ _ q0 q1;refine⟨λΓ G=>?_,λ_ _ _ _ _ _ h=>nomatch h⟩;have iha:=q0.m Γ G;have ihb:=q1.m Γ G;intro c g ρ r h;simp only[jg7]at h;split at h
 .rename_i e;cases h;obtain⟨x,ex,ed⟩:=vh e;exact(DE.or (m:=ae) ((iha c g ρ x ex).bl ed).toT λz=>by cases z)
 .rename_i e;obtain⟨x,ex,ed⟩:=vh e;cases e2:truth (ev Γ G _ (j7 ρ)) with
  |none=>rw[e2]at h;cases h
  |some k =>rw[e2]at h;cases h;obtain⟨y,ey,fd⟩:=vh e2;exact(DE.or ((iha c g ρ x ex).bl ed).toT λ_=>(ihb c g ρ y ey).bl fd).eq (by simp)
 .cases h
theorem Tr.not:∀{X:Cx}{a':Ex}{a:au}{p:aR},Tr X a' (.e a)->Tr X (.not a') (.e (.UnaryOp .Not a p)):=by
 intro _ _ _ _ q0;refine⟨λΓ G=>?_,λ_ _ _ _ _ _ h=>nomatch h⟩;have iha:=q0.m Γ G;intro c g ρ r h;simp only[j9k]at h;cases e:truth (ev Γ G _ (j7 ρ)) with
 |none=>rw[e]at h;cases h
 |some k =>rw[e]at h;cases h;obtain⟨x,ex,ed⟩:=vh e;exact DE.not ((iha c g ρ x ex).bl ed).toT
theorem Tr.wor1:∀{X:Cx}{a':Ex}{a:au}{p:aR},Tr X a' (.b a)->Tr X a' (.w (.BoolOp .Or [a] p)):=by intro _ _ _ _ q0;refine⟨λΓ G=>?_,λ_ _ _ _ _ _ _=>trivial⟩;have iha:=q0.m Γ G;intro c g ρ k h;exact DW.or1 (iha c g ρ k h)
theorem Tr.wor:∀{X:Cx}{a' t':Ex}{a b:au}{rest:List au}{p:aR},Tr X a' (.b a)->Tr X t' (.w (.BoolOp .Or (b::rest) p))->Tr X (.or a' t') (.w (.BoolOp .Or (a::b::rest) p)):=by
 intro _ _ _ _ _ _ _ q0 q1;refine⟨λΓ G=>?_,λ_ _ _ _ _ _ _=>trivial⟩;have iha:=q0.m Γ G;have ihb:=q1.m Γ G;intro c g ρ k h;obtain⟨r,h,hk⟩:=vh h;simp only[jg7]at h;split at h
 .rename_i e;cases h;cases hk;exact DW.or (m:=ae) (iha c g ρ af e) λz=>by cases z
 .rename_i e;cases e2:truth (ev Γ G _ (j7 ρ)) with
  |none=>rw[e2]at h;cases h
  |some m =>rw[e2]at h;cases h;cases hk;have q:=DW.or (iha c g ρ ae e) λ_=>ihb c g ρ _ e2;rw[Bool.false_or]at q;exact q
 .cases h
theorem Tr.bw:∀{X:Cx}{a':Ex}{op:BoolOp}{es:List au}{p:aR},Tr X a' (.w (.BoolOp op es p))->Tr X a' (.b (.BoolOp op es p)):=by intro _ _ _ _ _ q0;refine⟨λΓ G=>?_,λ_ _ _ _ _ _ _=>trivial⟩;have iha:=q0.m Γ G;intro c g ρ k h;exact DW.toB (iha c g ρ k h)
theorem Tr.bnot:∀{X:Cx}{a':Ex}{a:au}{p:aR},Tr X a' (.b a)->Tr X (.not a') (.b (.UnaryOp .Not a p)):=by
 intro _ _ _ _ q0;refine⟨λΓ G=>?_,λ_ _ _ _ _ _ _=>trivial⟩;have iha:=q0.m Γ G;intro c g ρ k h;obtain⟨r,h,hk⟩:=vh h;simp only[j9k]at h;cases e:truth (ev Γ G _ (j7 ρ)) with
 |none=>rw[e]at h;cases h
 |some m=>rw[e]at h;cases h;cases hk;exact DB.not (iha c g ρ m e)
theorem Tr.bval:∀{X:Cx}{a':Ex}{a:au}(he:∀whole,eX a X.env whole=(do let v <-whole;eB a.pos;bN [v] (jM v))),Tr X a' (.e a)->Tr X a' (.b a):=by intro _ _ _ he q0;refine⟨λΓ G=>?_,λ_ _ _ _ _ _ _=>trivial⟩;have iha:=q0.m Γ G;intro c g ρ k h;obtain⟨r,h,hk⟩:=vh h;exact DB.val ((iha c g ρ r h).bl hk).toT he
theorem Tr.ite:∀{X:Cx}{c' a' b':Ex}{c a b:au}{p:aR},Tr X c' (.b c)->Tr X a' (.e a)->Tr X b' (.e b)->Tr X (.ite c' a' b') (.e (.IfExp c a b p)):=by
 intro _ _ _ _ _ _ _ _ q0 q1 q2;refine⟨λΓ G=>?_,λ_ _ _ _ _ _ h=>nomatch h⟩;have ihc:=q0.m Γ G;have iha:=q1.m Γ G;have ihb:=q2.m Γ G;intro c g ρ r h;simp only[jj1]at h;split at h
 .rename_i e;split at h
  .rename_i x ex;cases es:x.st with
   |none=>rw[es]at h;cases h
   |some d=>rw[es]at h;cases h;exact(DE.ite (d':=d) (ihc c g ρ af e) (λ_=>(iha c g ρ x ex).toE es) λz=>by cases z).eq (by simp)
  .cases h
 .rename_i e;split at h
  .rename_i x ex;cases es:x.st with
   |none=>rw[es]at h;cases h
   |some d=>rw[es]at h;cases h;exact(DE.ite (d:=d) (ihc c g ρ ae e) (λz=>by cases z) λ_=>(ihb c g ρ x ex).toE es).eq (by simp)
  .cases h
 .cases h
theorem Tr.nil:∀{X:Cx},Tr X .nil (.a []):=by intro _;refine⟨λΓ G=>?_,λ_ _ _ _ _ _ h=>nomatch h⟩;intro c g ρ rs h;simp only[Uw]at h;cases h;exact .nil
theorem Tr.cons:∀{X:Cx}{a' b':Ex}{a:au}{es:List au}(hs:ai (a::es) X.env=(ae,aB a X.env)::ai es X.env),Tr X a' (.e a)->Tr X b' (.a es)->Tr X (.cons a' b') (.a (a::es)):=by
 intro _ _ _ _ _ hs q0 q1;refine⟨λΓ G=>?_,λΓ G=>?_⟩
 .have iha:=q0.m Γ G;have ihb:=q1.m Γ G;intro c g ρ rs h;simp only[U3,consW]at h;split at h
  .rename_i x xs ex exs;cases h;exact .cons hs (iha c g ρ x ex) (ihb c g ρ xs exs)
  .cases h
 .skip
  intro c g ρ y h;rw[er]at h;split at h
  .rename_i x ex;cases h;exact DXA.head (q0.x Γ G c g ρ _ ex) hs
  split at h
  .rename_i r ez;exact DXA.tail (q0.m Γ G c g ρ r ez).toT (q1.x Γ G c g ρ y h) hs
  .cases h
theorem Tr.tup:∀{X:Cx}{es':Ex}{es:List au}{n:Nat}{p:aR},Tr X es' (.a es)->Tr X (.tup es') (.e (.Tuple es n p)):=by
 intro _ _ _ _ _ q0;refine⟨λΓ G=>?_,λ_ _ _ _ _ _ h=>nomatch h⟩;have iha:=q0.m Γ G;intro c g ρ r h;simp only[jix,Vo]at h;split at h
 .rename_i rs ers;split at h
  .rename_i ds hds;obtain⟨z,q⟩:=ju h;cases q;exact DE.tup (n:=0) ((iha c g ρ rs ers).toA hds) (ql z)
  .cases h
 .cases h
theorem Tr.lst:∀{X:Cx}{es':Ex}{es:List au}{p:aR},Tr X es' (.a es)->Tr X (.lst es') (.e (.List es p)):=by
 intro _ _ _ _ q0;refine⟨λΓ G=>?_,λ_ _ _ _ _ _ h=>nomatch h⟩;have iha:=q0.m Γ G;intro c g ρ r h;simp only[jj0,Uc]at h;split at h
 .rename_i rs ers;split at h
  .rename_i ds hds;obtain⟨z,q⟩:=ju h;cases q;exact DO.lst ((iha c g ρ rs ers).toA hds) (ql z)
  .cases h
 .cases h
theorem Tr.ix:∀{X:Cx}{a' b':Ex}{a b:au}{p:aR}(hs:Vn b),Tr X a' (.e a)->Tr X b' (.e b)->Tr X (.ix a' b') (.e (.Subscript a b p)):=by
 intro _ _ _ _ _ _ hs q0 q1;refine⟨λΓ G=>?_,λΓ G c g ρ y h σ H Q R k=>(Wy j48 peS peS hs).to (q0.x Γ G c g ρ y (by rw[er]at h;exact h) σ H _ R k)⟩;have iha:=q0.m Γ G;have ihb:=q1.m Γ G;intro c g ρ r h;simp only[jkn,ixW]at h;split at h
 .rename_i x y ex ey;split at h
  .rename_i s l i hx hy;cases z:atI l i with
   |none=>rw[z]at h;cases h
   |some d=>rw[z]at h;cases h;exact DE.ixM ((iha c g ρ x ex).toM hx) (hy▸(ihb c g ρ y ey).toT) z hs
  .rename_i i hx hy;split at h
   .rename_i y' ed;split at h
    .rename_i hl;cases z:atI y'.cps.toList i with
     |none=>rw[z]at h;cases h
     |some d=>rw[z]at h;cases h;exact DE.ixC (ed▸(iha c g ρ x ex).toT) (hy▸(ihb c g ρ y ey).toT) (ql hl) z hs
    .cases h
   .cases h
  .cases h
 .cases h
theorem Tr.oN:∀{X:Cx},Tr X .nil (.o ah):=by intro _;refine⟨λΓ G=>?_,λ_ _ _ _ _ _ _=>trivial⟩;intro c g ρ o h;simp only[Uw,Q5]at h;cases h;exact DP.none
theorem Tr.oS:∀{X:Cx}{a':Ex}{a:au},Tr X a' (.e a)->Tr X (.cons a' .nil) (.o (aa a)):=by
 intro _ _ _ q0;refine⟨λΓ G=>?_,λ_ _ _ _ _ _ _=>trivial⟩;have iha:=q0.m Γ G;intro c g ρ o h;simp only[U3,Uw,consW]at h;split at h
 .rename_i x xs ex exs;cases exs;simp only[Q5]at h;split at h
  .rename_i i ei;cases h;exact DP.some (ei▸(iha c g ρ x ex).toT)
  .cases h
 .cases h
theorem Tr.sl:∀{X:Cx}{a' l' h':Ex}{a:au}{lo hi:Option au}{p p2:aR},Tr X a' (.e a)->Tr X l' (.o lo)->Tr X h' (.o hi)->Tr X (.sl a' l' h') (.e (.Subscript a (.Slice lo hi ah p2) p)):=by
 intro _ _ _ _ _ _ _ _ _ q0 q1 q2;refine⟨λΓ G=>?_,λ_ _ _ _ _ _ h=>nomatch h⟩;have iha:=q0.m Γ G;have ihl:=q1.m Γ G;have ihh:=q2.m Γ G;intro c g ρ r h;simp only[jkm]at h;split at h
 .rename_i x l hh ex el eh;split at h
  .rename_i ds e;cases h;exact DO.sliceM ((iha c g ρ x ex).toM e) (ihl c g ρ l el) (ihh c g ρ hh eh)
  .rename_i ds e;split at h
   .cases h
   .rename_i z;cases h;exact DE.sliceM ((iha c g ρ x ex).toM e) (ihl c g ρ l el) (ihh c g ρ hh eh) z
  .split at h
   .rename_i y' ed;obtain⟨z,q⟩:=ju h;cases q;exact DE.sliceS (ed▸(iha c g ρ x ex).toT) (ihl c g ρ l el) (ihh c g ρ hh eh) (ql z)
   .cases h
 .cases h
theorem Tr.call:∀{X:Cx}{f:ao}{es':Ex}{e:au}{es:List au}{p p2:aR}(hg:Gl X f) (hdb:(f==k74)=ae) (he:ai (e::es) X.env=(ae,aB e X.env)::ai es X.env) (hpl:(aP p2 (ai es X.env)).any (·.1)=ae),Tr X es' (.a (e::es))->Tr X (.call f es') (.e (.Call (.Name f p) (e::es) [] p2)):=by
 intro _ f _ _ _ _ _ hg hdb he hpl q0;refine⟨λΓ G=>?_,λΓ G=>?_⟩
 .have iha:=q0.m Γ G;intro c g ρ r h;simp only[jgd,Jy]at h;split at h
  .rename_i rs ers;exact j2a g hg hdb he hpl (iha c g ρ rs ers) h
  .cases h
 .skip
  intro c g ρ y h;rw[er]at h;split at h
  .rename_i x ex;split at h
   .rename_i hz;cases h;obtain⟨d,hd⟩:=Xm.mp hz;obtain⟨fa,hfa,hk⟩:=c.fn _ d hd;exact DX.args (q0.x Γ G c g ρ _ ex) hg hdb hfa hk he hpl
   .cases h
  split at h
  .rename_i rs ers;split at h
   .rename_i z ez;split at h
    .rename_i hz;cases h;have q:=g f (rs.map Rk.d);rw[ez]at q;obtain⟨d,hd⟩:=Xm.mp hz;obtain⟨_,o,ho⟩:=c.ec _ d hd;exact DX.call q (q0.m Γ G c g ρ rs ers).toT ⟨rfl,rfl⟩ (W.mg_of c.kin c.ns ho) hg hdb he hpl
    .cases h
   .cases h
  .cases h
theorem Tr.len:∀{X:Cx}{es':Ex}{e:au}{p p2:aR}(hg:Gl X "len"),Tr X es' (.a [e])->Tr X (.blt .len es') (.e (.Call (.Name "len" p) [e] [] p2)):=by
 intro _ _ _ _ _ hg q0;refine⟨λΓ G=>?_,λ_ _ _ _ _ _ h=>nomatch h⟩;have iha:=q0.m Γ G;intro c g ρ r h;simp only[Ux,J4]at h;split at h
 .rename_i rs ers;cases e:V9 _ rs with
  |none=>rw[e]at h;cases h
  |some x=>rw[e]at h;cases h;exact Q6 (f:=.len) c (λz=>by rcases z with z|z|z|z|z<;>cases z) hg e (iha c g ρ rs ers)
 .cases h
theorem Tr.all:∀{X:Cx}{es':Ex}{e:au}{p p2:aR}(hq:X.calm=af)(hg:Gl X "all"),Tr X es' (.a [e])->Tr X (.blt .all es') (.e (.Call (.Name "all" p) [e] [] p2)):=by
 intro _ _ _ _ _ hq hg q0;refine⟨λΓ G=>?_,λ_ _ _ _ _ _ h=>nomatch h⟩;have iha:=q0.m Γ G;intro c g ρ r h;simp only[Ux,J4]at h;split at h
 .rename_i rs ers;cases e:V9 _ rs with
  |none=>rw[e]at h;cases h
  |some x=>rw[e]at h;cases h;exact Q6 (f:=.all) c (λ_=>hq) hg e (iha c g ρ rs ers)
 .cases h
theorem Tr.tuple:∀{X:Cx}{es':Ex}{e:au}{p p2:aR}(hg:Gl X "tuple"),Tr X es' (.a [e])->Tr X (.blt .tuple es') (.e (.Call (.Name "tuple" p) [e] [] p2)):=by
 intro _ _ _ _ _ hg q0;refine⟨λΓ G=>?_,λ_ _ _ _ _ _ h=>nomatch h⟩;have iha:=q0.m Γ G;intro c g ρ r h;simp only[Ux,J4]at h;split at h
 .rename_i rs ers;cases e:V9 _ rs with
  |none=>rw[e]at h;cases h
  |some x=>rw[e]at h;cases h;exact Q6 (f:=.tuple) c (λz=>by rcases z with z|z|z|z|z<;>cases z) hg e (iha c g ρ rs ers)
 .cases h
theorem Tr.list:∀{X:Cx}{es':Ex}{e:au}{p p2:aR}(hg:Gl X "list"),Tr X es' (.a [e])->Tr X (.blt .list es') (.e (.Call (.Name "list" p) [e] [] p2)):=by
 intro _ _ _ _ _ hg q0;refine⟨λΓ G=>?_,λ_ _ _ _ _ _ h=>nomatch h⟩;have iha:=q0.m Γ G;intro c g ρ r h;simp only[Ux,J4]at h;split at h
 .rename_i rs ers;cases e:V9 _ rs with
  |none=>rw[e]at h;cases h
  |some x=>rw[e]at h;cases h;exact Q6 (f:=.list) c (λz=>by rcases z with z|z|z|z|z<;>cases z) hg e (iha c g ρ rs ers)
 .cases h
theorem Tr.min:∀{X:Cx}{es':Ex}{e f:au}{p p2:aR}(hq:X.calm=af)(hg:Gl X "min"),Tr X es' (.a [e,f])->Tr X (.blt .min es') (.e (.Call (.Name "min" p) [e,f] [] p2)):=by
 intro _ _ _ _ _ _ hq hg q0;refine⟨λΓ G=>?_,λ_ _ _ _ _ _ h=>nomatch h⟩;have iha:=q0.m Γ G;intro c g ρ r h;simp only[Ux,J4]at h;split at h
 .rename_i rs ers;cases e:V9 _ rs with
  |none=>rw[e]at h;cases h
  |some x=>rw[e]at h;cases h;exact Q6 (f:=.min) c (λ_=>hq) hg e (iha c g ρ rs ers)
 .cases h
theorem Tr.sum:∀{X:Cx}{es':Ex}{e:au}{p p2:aR}(hq:X.calm=af)(hg:Gl X "sum"),Tr X es' (.a [e])->Tr X (.blt .sum es') (.e (.Call (.Name "sum" p) [e] [] p2)):=by
 intro _ _ _ _ _ hq hg q0;refine⟨λΓ G=>?_,λ_ _ _ _ _ _ h=>nomatch h⟩;have iha:=q0.m Γ G;intro c g ρ r h;simp only[Ux,J4]at h;split at h
 .rename_i rs ers;cases e:V9 _ rs with
  |none=>rw[e]at h;cases h
  |some x=>rw[e]at h;cases h;exact Q6 (f:=.sum) c (λ_=>hq) hg e (iha c g ρ rs ers)
 .cases h
theorem Tr.intc:∀{X:Cx}{es':Ex}{e:au}{p p2:aR}(hg:Gl X "int"),Tr X es' (.a [e])->Tr X (.blt .int es') (.e (.Call (.Name "int" p) [e] [] p2)):=by
 intro _ _ _ _ _ hg q0;refine⟨λΓ G=>?_,λ_ _ _ _ _ _ h=>nomatch h⟩;have iha:=q0.m Γ G;intro c g ρ r h;simp only[Ux,J4]at h;split at h
 .rename_i rs ers;cases e:V9 _ rs with
  |none=>rw[e]at h;cases h
  |some x=>rw[e]at h;cases h;exact Q6 (f:=.int) c (λz=>by rcases z with z|z|z|z|z<;>cases z) hg e (iha c g ρ rs ers)
 .cases h
theorem Tr.join:∀{X:Cx}{a':Ex}{a:au}{sep:ao}{n:Nat}{p0 p1 p2:aR}(hbase:aU (.Constant (.str sep) n p0) "join" X.env (aB (.Constant (.str sep) n p0) X.env)=aB (.Constant (.str sep) n p0) X.env) (hfew:((aP p2 (ai [a] X.env)).all (λx=>!x.1)&&(bP p2 (b7 [] X.env)).all (λx=>x.1.isSome)&&decide (([a]:List au).length+([]:List b0).length+(if ([]:List b0).isEmpty then 0 else 1)<30))=af) (hline:(p1.endLine==p2.line)=af) (hs:ai [a] X.env=(ae,aB a X.env)::ai [] X.env),Tr X a' (.e a)->Tr X (.join sep a') (.e (.Call (.Attribute (.Constant (.str sep) n p0) "join" p1) [a] [] p2)):=by
 intro _ _ _ _ _ _ _ _ hbase hfew hline hs q0;refine⟨λΓ G=>?_,λ_ _ _ _ _ _ h=>nomatch h⟩;have iha:=q0.m Γ G;intro c g ρ r h;simp only[jg9,Ye]at h;split at h
 .rename_i x ex;split at h
  .rename_i l el;split at h
   .rename_i ts et;obtain⟨z,q⟩:=ju h;cases q;have:=Y7 et;subst this;exact DE.join (el▸(iha c g ρ x ex).toT) z hfew hbase hline hs
   .cases h
  .cases h
 .cases h
theorem Tr.lset:∀{X:Cx}{a':Ex}{a:au}{p p1 p2 pos:aR}(hq:X.calm=af)(hg:Gl X "len") (hg2:Gl X "set") (hs:ai [a] X.env=[(ae,aB a X.env)]) (hs2:ai [.Call (.Name "set" p1) [a] [] p2] X.env=[(ae,aB (.Call (.Name "set" p1) [a] [] p2) X.env)]),Tr X a' (.e a)->Tr X (.lset a') (.e (.Call (.Name "len" p) [.Call (.Name "set" p1) [a] [] p2] [] pos)):=by
 intro _ _ _ _ _ _ _ hq hg hg2 hs hs2 q0;refine⟨λΓ G=>?_,λ_ _ _ _ _ _ h=>nomatch h⟩;have iha:=q0.m Γ G;intro c g ρ r h;simp only[jg8,j1u]at h;split at h
 .rename_i x ex;split at h
  .rename_i l el;split at h
   .rename_i ts et;obtain⟨z,q⟩:=ju h;cases q;have:=Y7 et;subst this;exact DE.lenSet (el▸(iha c g ρ x ex).toT) hq nofun (c.bt _ (by decide)) (c.bt _ (by decide)) hg hg2 hs hs2
   .split at h
    .rename_i ts et;obtain⟨z,q⟩:=ju h;cases q;have:=Q3 et;subst this;exact DE.lenSetI (el▸(iha c g ρ x ex).toT) hq nofun (c.bt _ (by decide)) (c.bt _ (by decide)) hg hg2 hs hs2
    .cases h
  .cases h
 .cases h
theorem Tr.dzip:∀{X:Cx}{a' b':Ex}{a b:au}{p p2 p3 p4:aR}(hq:X.calm=af)(hg:Gl X "dict") (hgz:Gl X "zip") (hs0:ai [.Call (.Name "zip" p2) [a,b] [] p3] X.env=(ae,aB (.Call (.Name "zip" p2) [a,b] [] p3) X.env)::ai [] X.env) (hs:ai [a,b] X.env=(ae,aB a X.env)::ai [b] X.env) (hs2:ai [b] X.env=(ae,aB b X.env)::ai [] X.env),Tr X a' (.e a)->Tr X b' (.e b)->Tr X (.dzip a' b') (.e (.Call (.Name "dict" p) [.Call (.Name "zip" p2) [a,b] [] p3] [] p4)):=by
 intro _ _ _ _ _ _ _ _ _ hq hg hgz hs0 hs hs2 q0 q1;refine⟨λΓ G=>?_,λΓ G=>?_⟩
 .have iha:=q0.m Γ G;have ihb:=q1.m Γ G;intro c g ρ r h;simp only[jgb,Ra]at h;split at h
  .rename_i x y ex ey;split at h
   .rename_i t1 l t2 m el em;split at h
    .rename_i ks ns ek en;obtain⟨z,q⟩:=ju h;cases q;have e1:=Y7 ek;have e2:=Q3 en;subst e1 e2;obtain⟨d1,f1,g1⟩:=Option.bind_eq_some_iff.mp el;obtain⟨d2,f2,g2⟩:=Option.bind_eq_some_iff.mp em;have s1:=Be g1;have s2:=Be g2;subst s1 s2;exact DE.dzip t1 t2 ((iha c g ρ x ex).toE f1) ((ihb c g ρ y ey).toE f2) z.1 z.2.1 (ql z.2.2) hq (c.bt _ (by decide)) (c.bt _ (by decide)) hg hgz hs0 hs hs2
    .cases h
   .cases h
  .cases h
 .skip
  intro c g ρ y h;rw[er]at h;split at h
  .rename_i x ex;cases h;exact DX.dzip (DXA.head (q0.x Γ G c g ρ _ ex) hs) (c.bt _ (by decide)) (c.bt _ (by decide)) hg hgz hs0 hs hs2
  split at h
  .rename_i r ez;exact DX.dzip (DXA.tail (q0.m Γ G c g ρ r ez).toT (DXA.head (q1.x Γ G c g ρ y h) hs2) hs) (c.bt _ (by decide)) (c.bt _ (by decide)) hg hgz hs0 hs hs2
  .cases h
theorem Tr.dix:∀{X:Cx}{a' b':Ex}{a b:au}{p:aR}(hs:Vn b),Tr X a' (.e a)->Tr X b' (.e b)->Tr X (.dix a' b') (.e (.Subscript a b p)):=by
 intro _ _ _ _ _ _ hs q0 q1;refine⟨λΓ G=>?_,λ_ _ _ _ _ _ h=>nomatch h⟩;have iha:=q0.m Γ G;have ihb:=q1.m Γ G;intro c g ρ r h;simp only[jj3,N8]at h;split at h
 .rename_i x y ex ey;split at h
  .rename_i kvs k ek eky;cases e:Z5 kvs k with
   |none=>rw[e]at h;cases h
   |some n=>rw[e]at h;cases h;exact DE.dix (ek▸(iha c g ρ x ex).toT) (eky▸(ihb c g ρ y ey).toT) e hs
  .cases h
 .cases h
theorem Tr.isi1:∀{X:Cx}{a':Ex}{a:au}{T:ao}{c:String}{p p1 p2:aR}(hT:T∈V5) (hv:bg T=aa (.type c)) (hg:Gl X "isinstance") (hg2:Gl X T) (hn:T ≠ "__name__") (hd:(T==k74)=ae) (hs:ai [a,.Name T p1] X.env=(ae,aB a X.env)::ai [.Name T p1] X.env),Tr X a' (.e a)->Tr X (.isi a' [c]) (.e (.Call (.Name "isinstance" p) [a,.Name T p1] [] p2)):=by
 intro _ _ _ _ _ _ _ _ hT hv hg hg2 hn hd hs q0;refine⟨λΓ G=>?_,λ_ _ _ _ _ _ h=>nomatch h⟩;have iha:=q0.m Γ G;intro c g ρ r h;simp only[j9l,Bu]at h;split at h
 .rename_i x ex;cases e:jy x.d _ with
  |none=>rw[e]at h;cases h
  |some k =>
   rw[e]at h;cases h;refine DE.isi1 (iha c g ρ x ex).toT (j0l e) (c.bt _ (by decide)) (c.bt _ hT) hv ?_ hg hg2 hn hd hs rfl rfl;simp only[jy]at e;split at e
   .rename_i k1 k2 e1 e2;cases e2;cases e;rw[gz];exact j0d e1
   .cases e
 .cases h
theorem Tr.isi2:∀{X:Cx}{a':Ex}{a:au}{T U:ao}{c d:String}{n:Nat}{p p1 p2 p3 p4:aR} (hT:T∈V5) (hU:U∈V5) (hv:bg T=aa (.type c)) (hw:bg U=aa (.type d)) (hg:Gl X "isinstance") (hg1:Gl X T) (hg2:Gl X U) (hn:T ≠ "__name__") (hd:(T==k74)=ae) (hn2:U ≠ "__name__") (hd2:(U==k74)=ae) (hs:ai [a,.Tuple [.Name T p1,.Name U p3] n p4] X.env=(ae,aB a X.env)::ai [.Tuple [.Name T p1,.Name U p3] n p4] X.env),Tr X a' (.e a)->Tr X (.isi a' [c,d]) (.e (.Call (.Name "isinstance" p) [a,.Tuple [.Name T p1,.Name U p3] n p4] [] p2)):=by
 intro _ _ _ _ _ _ _ _ _ _ _ _ _ hT hU hv hw hg hg1 hg2 hn hd hn2 hd2 hs q0;refine⟨λΓ G=>?_,λ_ _ _ _ _ _ h=>nomatch h⟩;have iha:=q0.m Γ G;intro c g ρ r h;simp only[j9l,Bu]at h;split at h
 .rename_i x ex;cases e:jy x.d _ with
  |none=>rw[e]at h;cases h
  |some k =>rw[e]at h;cases h;exact DE.isi2 (iha c g ρ x ex).toT (j0l e) (c.bt _ (by decide)) (c.bt _ hT) (c.bt _ hU) hv hw (Kl e) hg hg1 hg2 hn hd hn2 hd2 hs rfl rfl rfl rfl
 .cases h
theorem Tr.c0:∀{X:Cx},Tr X .nil (.c []):=by intro _;refine⟨λΓ G=>?_,λ_ _ _ _ _ _ _=>trivial⟩;intro c g ρ;exact⟨λ_=>DTs.nil,λy k h=>by simp only[Uw]at h;cases h⟩
theorem Tr.c1:∀{X:Cx}{c':Ex}{c:au},Tr X c' (.b c)->Tr X (.cons c' .nil) (.c [c]):=by
 intro _ _ _ q0;refine⟨λΓ G=>?_,λ_ _ _ _ _ _ _=>trivial⟩;have iha:=q0.m Γ G;intro c g ρ;refine⟨λh=>?_,λy k h hk=>DTs.one ?_⟩
 .simp only[U3,Uw,consW]at h;split at h<;>cases h
 .simp only[U3,Uw,consW]at h;split at h
  .rename_i x xs ex exs;cases exs;cases h;exact iha c g ρ k (by rw[ex];simp only[truth,hk])
  .cases h
theorem Tr.comp1:∀{X:Cx}{i:Nat}{y:ao}{py p:aR}{elt' it' c':Ex}{elt it:au}{ifs:List au} {scope:bG} (hq:X.calm=af) (hi:X.N[i]?=aa y) (hl:Wt scope y=af) (hkind:scope.kind=.function) (hok:Jt scope X.env X.N [i]=af) (hs:∀x,aX it X.env x=pure x),Tr X it' (.i (.Name y py) it)->(∀C s H fp pn,Tr (cCx X scope C s H fp pn) elt' (.e elt))->(∀C s H fp pn,Tr (cCx X scope C s H fp pn) c' (.c ifs))->Tr X (.comp [i] elt' it' c') (.e (.ListComp elt [⟨.Name y py,it,ifs,0⟩] scope p)):=by
 intro _ _ _ _ _ _ _ _ _ _ _ _ hq hi hl hkind hok hs q0 q1 q2;refine⟨λΓ G=>?_,λ_ _ _ _ _ _ h=>nomatch h⟩;have ihi:=q0.m Γ G;have ihe:=λC s H fp pn=>(q1 C s H fp pn).m Γ G;have ihc:=λC s H fp pn=>(q2 C s H fp pn).m Γ G;intro c g ρ r h;obtain⟨l,e,q⟩:=j27 hq c (λρ ds z=>ihi c g ρ ds z) hkind hok hs (λρ d ρ2 hb hun=>by
  simp only[zj]at hb
  cases hb
  have hu:=hun _ (X3.mpr rfl)
  exact⟨_,jk,Wk.set hu,Rr hu,λC s H fp pn=>DG.name _ c.nd hi (j02 hl) (j2v hl)⟩)
  (λC s H fp pn ρ r z=>ihe C s H fp pn c.comp g.comp ρ r z) (λC s H fp pn ρ=>ihc C s H fp pn c.comp g.comp ρ) h
 subst e;exact q
theorem Tr.seq:∀{X:Cx}{a':Ex}{tg a:au},Tr X a' (.e a)->Tr X (.seq a') (.i tg a):=by
 intro _ _ _ _ q0;refine⟨λΓ G=>?_,λ_ _ _ _ _ _ _=>trivial⟩;have iha:=q0.m Γ G;intro c g ρ ds h;simp only[jiy,W2]at h;split at h
 .rename_i l e;cases h;exact DI.lst (iha c g ρ _ e)
 .rename_i l e;cases h;exact DI.tup (iha c g ρ _ e)
 .rename_i l e;cases h;exact DI.lst (DO.toE (iha c g ρ _ e))
 .rename_i y e;obtain⟨z,q⟩:=ju h;cases q;exact DI.str (iha c g ρ _ e).toT z
 .cases h
theorem Tr.range:∀{X:Cx}{es':Ex}{tg:au}{es:List au}{p p2:aR}(hg:Gl X "range"),Tr X es' (.a es)->Tr X (.range es') (.i tg (.Call (.Name "range" p) es [] p2)):=by
 intro _ _ _ _ _ _ hg q0;refine⟨λΓ G=>?_,λ_ _ _ _ _ _ _=>trivial⟩;have iha:=q0.m Γ G;intro c g ρ ds h;simp only[jce,W7]at h;split at h
 .rename_i x ex;have q:=iha c g ρ _ ex;cases q with|cons hs hx t =>
  cases t;split at h
  .rename_i n en;obtain⟨z,q⟩:=ju h;cases q;exact DI.range1 (en▸hx.toT) (c.bt _ (by decide)) z.1 z.2 hg hs
  .cases h
 .rename_i x y ex;have q:=iha c g ρ _ ex;cases q with|cons hs hx t =>
  cases t with|cons hs2 hy t2 =>
  cases t2;split at h
  .rename_i m n em en;obtain⟨z,q⟩:=ju h;cases q;exact DI.range2 (em▸hx.toT) (en▸hy.toT) (c.bt _ (by decide)) z.1 z.2.1 z.2.2.1 z.2.2.2 hg (by rw[hs,hs2];rfl) hs2 hs
  .cases h
 .cases h
theorem Tr.zip:∀{X:Cx}{a' b':Ex}{a b:au}{es:List au}{n:Nat}{p p2 pt:aR}(hg:Gl X "zip") (hs:ai [a,b] X.env=(ae,aB a X.env)::ai [b] X.env) (hs2:ai [b] X.env=(ae,aB b X.env)::ai [] X.env),Tr X a' (.e a)->Tr X b' (.e b)->Tr X (.zip a' b') (.i (.Tuple es n pt) (.Call (.Name "zip" p) [a,b] [] p2)):=by
 intro _ _ _ _ _ _ _ _ _ _ hg hs hs2 q0 q1;refine⟨λΓ G=>?_,λ_ _ _ _ _ _ _=>trivial⟩;have iha:=q0.m Γ G;have ihb:=q1.m Γ G;intro c g ρ ds h;simp only[jiv,j5e]at h;split at h
 .rename_i x y ex ey;have ha:=iha c g ρ x ex;have hb:=ihb c g ρ y ey;have pl:∀{p2:aR},(aP p2 (ai [_] _)).any (·.1)=ae:=λ{p2}=>by rw[hs2];rfl
  split at h
  .rename_i l m e1 e2;cases h;exact DI.zip af af (ha.toE e1) (hb.toE e2) (c.bt _ (by decide)) hg hs hs2 pl
  .rename_i l m e1 e2;cases h;exact DI.zip af ae (ha.toE e1) (hb.toE e2) (c.bt _ (by decide)) hg hs hs2 pl
  .rename_i l m e1 e2;cases h;exact DI.zip ae af (ha.toE e1) (hb.toE e2) (c.bt _ (by decide)) hg hs hs2 pl
  .rename_i l m e1 e2;cases h;exact DI.zip ae ae (ha.toE e1) (hb.toE e2) (c.bt _ (by decide)) hg hs hs2 pl
  .cases h
 .cases h
theorem Tr.p0:∀{X:Cx},Tr X .nil (.p []):=by intro _;refine⟨λΓ G=>?_,λ_ _ _ _ _ _ _=>trivial⟩;intro c g ρ rs h;simp only[Uw]at h;cases h;trivial
theorem Tr.pC:∀{X:Cx}{y:ao}{n:Nat}{p:aR}{b':Ex}{es:List au},Tr X b' (.p es)->Tr X (.cons (.lit (.str y)) b') (.p (.Constant (.str y) n p::es)):=by
 intro _ _ _ _ _ _ q0;refine⟨λΓ G=>?_,λ_ _ _ _ _ _ _=>trivial⟩;have ihb:=q0.m Γ G;intro c g ρ rs h;simp only[U3,Cw,consW]at h;split at h
 .rename_i x xs ex exs;cases h;cases ex;refine⟨λz hz=>?_,ihb c g ρ xs exs⟩;have hz:(if _ then aa _ else ah)=aa z:=hz;split at hz
  .cases hz;exact DE.str
  .cases hz
 .cases h
theorem Tr.pR:∀{X:Cx}{a' b':Ex}{a:au}{p:aR}{es:List au},Tr X a' (.e a)->Tr X b' (.p es)->Tr X (.cons (.rpr a') b') (.p (.FormattedValue a 114 ah p::es)):=by
 intro _ a' b' _ _ _ q0 q1;refine⟨λΓ G=>?_,λ_ _ _ _ _ _ _=>trivial⟩;have iha:=q0.m Γ G;have ihb:=q1.m Γ G;intro c g ρ rs h;rw[ev]at h;unfold consW at h;split at h
 .rename_i x xs ex exs;cases h;obtain⟨z,w,ez,ew,hl,rfl⟩:=jd8 ex;refine⟨λy hy=>?_,ihb c g ρ xs exs⟩;have hy:(if (bW w).length<=2000 then aa (bW w)else ah)=aa y:=hy;rw[if_pos hl]at hy;cases hy;exact DE.fmtR (ew▸(iha c g ρ z ez).toT) (Xh hl (by decide))
 .cases h
theorem Tr.pF:∀{X:Cx}{a' b':Ex}{a:au}{p:aR}{es:List au},Tr X a' (.e a)->Tr X b' (.p es)->Tr X (.cons a' b') (.p (.FormattedValue a (-1) ah p::es)):=by
 intro _ _ _ _ _ _ q0 q1;refine⟨λΓ G=>?_,λ_ _ _ _ _ _ _=>trivial⟩;have iha:=q0.m Γ G;have ihb:=q1.m Γ G;intro c g ρ rs h;simp only[U3,consW]at h;split at h
 .rename_i x xs ex exs;cases h;exact⟨λy hy=>DE.fmt (iha c g ρ x ex).toT hy,ihb c g ρ xs exs⟩
 .cases h
theorem Tr.fst:∀{X:Cx}{es':Ex}{a b:au}{es:List au}{p:aR},Tr X es' (.p (a::b::es))->Tr X (.fst es') (.e (.JoinedStr (a::b::es) p)):=by
 intro _ _ _ _ _ _ q0;refine⟨λΓ G=>?_,λ_ _ _ _ _ _ h=>nomatch h⟩;have ih:=q0.m Γ G;intro c g ρ r h;simp only[jj2,j22]at h;split at h
 .rename_i rs ers;split at h
  .rename_i hl;cases e:Q8 rs with
   |none=>rw[e]at h;cases h
   |some ys =>rw[e]at h;cases h;obtain⟨z1,z2⟩:=(ih c g ρ rs ers).all e;exact DE.joined z1 (Rp e) (by rw[z2];exact hl)
  .cases h
 .cases h
section
variable{Γ:ao->List D->Rc}{G:ao->Option D}{X:Cx}
theorem sound{t:Ex}{nd:Nd}(h:Tr X t nd):Cok X G->Gok X Γ->jgl Γ G X t nd:=h.m Γ G
theorem Lj{t:Ex}{nd:Nd}(h:Tr X t nd):Cok X G->Gok X Γ->∀ρ y,er Γ G t (j7 ρ)=aa y->XM X ρ y nd:=h.x Γ G
end
inductive Px where
 |nop
 |set (i:Nat) (e:Ex) (r:Px)
 |keep (i:Nat) (r:Px)
 |ifRet (c e:Ex) (r:Px)
 |ifRai (c:Ex) (x:ao) (m:Ex) (r:Px)
 |ifCal (c:Ex) (f:ao) (es:Ex) (r:Px)
 |ret (e:Ex)
 |take (i:Nat) (r:Px)
 |takeE (r:Px)
 |takeIf (i:Nat) (c e:Ex) (r:Px)
 |callS (i:Nat) (f:ao) (es:Ex) (r:Px)
 |appC (i:Nat) (f:ao) (es:Ex) (r:Px)
 |whlA (y:ao) (b r:Px)
 |ifAll (x:ao) (m:Ex) (r:Px)
inductive Sx where
 |nop
 |seq (a b:Sx)
 |set (i:Nat) (e:Ex)
 |mov (i j:Nat)
 |expr (e:Ex)
 |ret (e:Ex)
 |retV (i:Nat)
 |ife (c:Ex) (a b:Sx)
 |loop (is:List Nat) (it:Ex) (body:Sx)
 |app (i:Nat) (e:Ex)
 |ext (i:Nat) (e:Ex)
 |put (i:Nat) (k e:Ex)
 |fgt (i:Nat)
 |keep (i:Nat)
 |dcp (i j:Nat) (k e:Ex)
 |taken (h q:Nat) (a b c t:Ex)
 |unp (i j:Nat) (e:Ex)
 |dmake (x t y:Nat) (it e:Ex)
 |ioN (es e:Ex)
 |retL (x:ao) (is:List Nat)
 |retC (f x:ao) (a b:Ex) (is:List Nat)
 |nmake (x t y:Nat) (it e1 e2:Ex)
 |pop3 (i j k w:Nat)
 |apop (i w:Nat) (e:Ex)
 |wmake (x t:Nat) (it e:Ex)
 |lent (h:Nat) (ea eb:Ex) (mid b:Sx)
 |lend (k p f:Nat) (b r:Sx)
 |px (p:Px)
 |newP (pi:Nat) (te:Ex) (p:Px)
 |raise (x:ao) (e:Ex)
 |fail
inductive So where
 |next (ρ:En)
 |ret (r:Rc)
 |brk (ρ:En)
 |cnt (ρ:En)
 |err (x:ao) (ρ:En)
 |no
noncomputable def orE(o:So)(x:Option ao)(ρ:En):So:=match o with
 |.no=>match x with
  |some y=>.err y ρ
  |none=>.no
 |o=>o
noncomputable def vf(f:D->En->So):List D->En->So
 |[],ρ=>.next ρ
 |d::ds,ρ=>match f d ρ with
  |.next ρ'=>vf f ds ρ'
  |.cnt ρ'=>vf f ds ρ'
  |.brk ρ'=>.next ρ'
  |.ret r=>.ret r
  |.err x ρ'=>.err x ρ'
  |.no=>.no
noncomputable def j2o(c:En->Option Bool)(f:En->So):Nat->En->So
 |0,_=>.no
 |n+1,ρ=>match c ρ with
  |some ae=>.next ρ
  |some af=>match f ρ with
   |.next ρ'=>j2o c f n ρ'
   |.cnt ρ'=>j2o c f n ρ'
   |.brk ρ'=>.next ρ'
   |.ret r=>.ret r
   |.err x ρ'=>.err x ρ'
   |.no=>.no
  |none=>.no
noncomputable def stOf:Option W->Option D
 |some (.v x)=>x.st
 |_=>ah
noncomputable def j26(f:En->Option D)(t y:Nat):List D->En->List (List Int)->List D->Option (List (List Int)×List D)
 |[],_,ks,vs=>aa (ks,vs)
 |d::ds,ρ,ks,vs=>match d with
  |.tup l=>match intsOf l,f (ρ.set t (.val d)) with
   |some k,aa d'=>if d'.isNon=af then j26 f t y ds ((ρ.set t (.val d)).set y (.val d')) ks vs
    else if ks.contains k=ae/\ks.length<ar then j26 f t y ds ((ρ.set t (.val d)).set y (.val d')) (ks++[k]) (vs++[d'])else ah
   |_,_=>ah
  |_=>ah
noncomputable def j93(f1 f2:En->Option D)(x t y:Nat):List D->En->List (List Int)->List Int->Option (List (List Int)×List Int)
 |[],_,ks,ns=>aa (ks,ns)
 |d::ds,ρ,ks,ns=>match d with
  |.tup l=>match intsOf l,f1 (ρ.set t (.val d)) with
   |some k,aa d1=>match f2 (((ρ.set t (.val d)).set y (.val d1)).set x (.val (.dct ks (ns.map D.int)))) with
    |some (.int n)=>if ks.contains k=ae/\ks.length<ar then j93 f1 f2 x t y ds ((ρ.set t (.val d)).set y (.val d1)) (ks++[k]) (ns++[n])else ah
    |_=>ah
   |_,_=>ah
  |_=>ah
noncomputable def j8r(f2:En->Option D)(x t:Nat):List D->En->List (List Int)->List Int->Option (List (List Int)×List Int)
 |[],_,ks,ns=>aa (ks,ns)
 |d::ds,ρ,ks,ns=>match d with
  |.tup l=>match intsOf l,f2 ((ρ.set t (.val d)).set x (.val (.dct ks (ns.map D.int)))) with
   |some k,aa (.int n)=>if ks.contains k=ae/\ks.length<ar then j8r f2 x t ds (ρ.set t (.val d)) (ks++[k]) (ns++[n])else ah
   |_,_=>ah
  |_=>ah
noncomputable def Cy(ρ:En):List Nat->Option (List D)
 |[]=>aa []
 |i::is=>match ρ[i]?,Cy ρ is with
  |some (.val d),aa ds=>aa (d::ds)
  |_,_=>ah
noncomputable def M9(i:Nat)(w:Option W)(ρ:En):So:=match w with
 |some (.v (.o l))=>.next (ρ.set i (.own l))
 |some (.v x)=>match x.st with
  |some d=>.next (ρ.set i (.val d))
  |none=>.no
 |_=>.no
noncomputable def retS(w:Option W):So:=match w with
 |some (.v (.o l))=>.ret (.fresh l)
 |some (.v x)=>.ret (.val x.d)
 |_=>.no
noncomputable def Ww(s:Option Sv):So:=match s with
 |some (.own l)=>.ret (.fresh l)
 |some (.val d)=>.ret (.val d)
 |_=>.no
noncomputable def K9(i j:Nat)(s:Option Sv)(ρ:En):So:=match s with
 |some (.own l)=>if i=j then .no else .next ((ρ.set j .un).set i (.own l))
 |some (.val d)=>.next (ρ.set i (.val d))
 |_=>.no
noncomputable def Ig(w:Option W)(ρ:En):So:=match w with
 |some (.v _)=>.next ρ
 |_=>.no
noncomputable def Nm(i:Nat)(s:Option Sv)(w:Option W)(ρ:En):So:=match s,w with
 |some (.own l),aa (.v x)=>match x.st with
  |some d=>if l.length<ar then .next (ρ.set i (.own (l++[d])))else .no
  |none=>.no
 |_,_=>.no
noncomputable def N6(i:Nat)(s:Option Sv)(w:Option W)(ρ:En):So:=match s,w with
 |some (.own l),aa (.v (.o m))=>if jj (l.length+m.length)=af then .next (ρ.set i (.own (l++m)))else .no
 |_,_=>.no
noncomputable def Bl(i:Nat)(s:Option Sv)(k w:Option W)(ρ:En):So:=match s,k,w with
 |some (.own l),aa (.v y),aa (.v x)=>match y.d,x.st with
  |.int j,aa d=>match ixN l.length j with
   |some n=>.next (ρ.set i (.own (l.set n d)))
   |none=>.no
  |_,_=>.no
 |_,_,_=>.no
noncomputable def j6l(x:ao)(w:Option W)(d:Option D)(ρ:En):So:=match w,d with
 |some (.v _),aa _=>.err x ρ
 |_,_=>.no
noncomputable def jjf(i j:Nat)(d:Option D)(ρ:En):So:=match d with
 |some (.tup [d,d'])=>if i=j then .no else .next ((ρ.set i (.val d)).set j (.val d'))
 |_=>.no
noncomputable def j1y(i:Nat)(v:Option Sv)(ρ:En):So:=match v with
 |some (.own l)=>.next (ρ.set i (.val (.lst l)))
 |some (.val _)=>.next ρ
 |_=>.no
noncomputable def jkh(i j:Nat)(v:Option Sv)(k e:Option W)(ρ:En):So:=if i≠j/\i<ρ.length then match v with
  |some (.val (.sct kvs))=>match k,e with
   |some (.v y),aa (.v x)=>match y.d,x.d with
    |.str z,.int n=>if kvs.length<ar then .next (ρ.set i (.val (.sct (dput kvs z n))))else .no
    |_,_=>.no
   |_,_=>.no
  |_=>.no
 else .no
noncomputable def jh6(x:ao)(v:Option (List D)):So:=match v with
 |some ds=>.ret (.val (.fn x ds))
 |none=>.no
noncomputable def jh8(r:Rc):So:=match r with
 |.val d=>if noFn d=af then .ret (.val d)else .no
 |_=>.no
noncomputable def jh7(Γ:ao->List D->Rc)(f x:ao)(v:Option (List D))(a b:Option W):So:=match v,a,b with
 |some ds,aa (.v u),aa (.v v)=>jh8 (Γ f [u.d,v.d,.fn x ds])
 |_,_,_=>.no
noncomputable def popS(i j k w:Nat)(s:Option Sv)(ρ:En):So:=match s with
 |some (.own l)=>match l.getLast? with
  |some (.tup [a,b,c])=>.next ((((ρ.set w (.own l.dropLast)).set i (.val a)).set j (.val b)).set k (.val c))
  |_=>.no
 |_=>.no
noncomputable def Rm(i w:Nat)(s t:Option Sv)(x:Option W)(ρ:En):So:=match s,t,x with
 |some (.own l),aa (.own m),aa (.v y)=>match y.st with
  |some (.int z)=>match ixN m.length z with
   |some k=>match m[k]? with
    |some d=>if i≠w/\l.length<ar/\m.length<=1000000 then .next ((ρ.set w (.own (m.eraseIdx k))).set i (.own (l++[d])))else .no
    |none=>.no
   |none=>.no
  |_=>.no
 |_,_,_=>.no
noncomputable def Uu:Sx->List Nat
 |.seq a b=>Uu a++Uu b
 |.set i _=>[i]
 |.ife _ a b=>Uu a++Uu b
 |_=>[]
noncomputable def W5(Γ:ao->List D->Rc)(G:ao->Option D):Sx->En->Option En
 |.nop,ρ=>aa ρ
 |.seq a b,ρ=>match W5 Γ G a ρ with
  |some r=>W5 Γ G b r
  |none=>ah
 |.set i e,ρ=>match stOf (ev Γ G e ρ) with
  |some d=>aa (ρ.set i (.val d))
  |none=>ah
 |.ife c a b,ρ=>match truth (ev Γ G c ρ) with
  |some af=>W5 Γ G a ρ
  |some ae=>W5 Γ G b ρ
  |none=>ah
 |_,_=>ah
noncomputable def plainS:Sv->Bool
 |.val _=>af
 |.un=>af
 |_=>ae
noncomputable def j97(s:Option Sv)(t:Bool):Sv:=match s with
 |some (.val d)=>if t=af then(if Qm d=af then .val d else .un)else .val d
 |_=>.un
noncomputable def jhw(h:Nat)(is:List Nat)(ρ r:En):En:=(aK ρ.length).map λj=>if j=h then .un else if j∈is then j97 r[j]? af else j97 ρ[j]? ae
noncomputable def jhv(h:Nat)(is:List Nat)(ρ:En)(a:Option D)(b:Option W)(m:En->Option En)(k:En->So):So:=match a,b with
 |some d0,aa (.v (.o lb))=>match m (ρ.set h (.val (.lst [d0,.lst lb]))) with
  |some r=>if h<ρ.length/\h∉is/\r.length=ρ.length/\r.all plainS=af then k (jhw h is ρ r)else .no
  |none=>.no
 |_,_=>.no
noncomputable def j96(m:D->En->Option En):List D->En->Option En
 |[],ρ=>aa ρ
 |d::ds,ρ=>match m d ρ with
  |some ρ'=>j96 m ds ρ'
  |none=>ah
noncomputable def bindM(is:List Nat)(m:En->Option En)(d:D)(ρ:En):Option En:=match zj is d ρ with
 |some ρ2=>m ρ2
 |none=>ah
noncomputable def jhx(k p f:Nat)(is:List Nat)(s:Option Sv)(ρ:En)(m:D->En->Option En)(r:En->So):So:=match s with
 |some (.own l)=>if qi l=af/\f∉is/\f≠k/\f≠p then match j96 m (j24 l) ρ with
   |some ρ'=>r (ρ'.set f (.own []))
   |none=>.no
  else .no
 |_=>.no
inductive Sm where
 |next (ρ:En) (k:Nat)
 |ret (d:D) (k:Nat)
 |err (x:ao) (ρ:En)
 |no
noncomputable def Qz(f g:En->Nat->Sm)(y:ao)(ls:List ao):Nat->En->Nat->Sm
 |0,_,_=>.no
 |n+1,ρ,k=>if ls.getD k "" = y then g ρ k else match f ρ k with
  |.next ρ' k'=>Qz f g y ls n ρ' k'
  |.ret d k'=>.ret d k'
  |.err x ρ'=>.err x ρ'
  |.no=>.no
noncomputable def Vh(Γ:ao->List D->Rc)(ls:List ao)(f:ao)(a:Option W)(k:Nat):Rc:=match a with
 |some (.a rs)=>match vd rs with
  |some ds=>Γ (mq f) (.lst (ls.map D.str)::.int (k:Int)::ds)
  |none=>.no
 |_=>.no
noncomputable def j17(i:Nat)(w:Option W)(ρ:En)(r:En->Sm):Sm:=match w with
 |some (.v (.o l))=>r (ρ.set i (.own l))
 |some (.v x)=>match x.st with
  |some d=>r (ρ.set i (.val d))
  |none=>.no
 |_=>.no
noncomputable def ji3(i:Nat)(s:Option Sv)(ρ:En)(r:En->Sm):Sm:=match s with
 |some (.own l)=>r (ρ.set i (.val (.lst l)))
 |some (.val _)=>r ρ
 |_=>.no
noncomputable def Bk(w:Option W)(k:Nat):Sm:=match w with
 |some (.v (.o _))=>.no
 |some (.v x)=>.ret x.d k
 |_=>.no
noncomputable def U9(x:ao)(w:Option W)(d:Option D)(ρ:En):Sm:=match w,d with
 |some (.v _),aa _=>.err x ρ
 |_,_=>.no
noncomputable def ifP(c:Option Bool)(a b:Sm):Sm:=match c with
 |some af=>a
 |some ae=>b
 |none=>.no
noncomputable def Up(G:ao->Option D)(r:Rc)(ρ:En)(f:D->Nat->Sm):Sm:=match r with
 |.mval d k=>f d k
 |.merr x=>if (G (bang x)).isSome=af then .err x ρ else .no
 |_=>.no
noncomputable def j2e(i:Nat)(s:Option Sv)(ρ:En)(d:D)(r:En->Sm):Sm:=match s with
 |some (.own l)=>if l.length<ar then r (ρ.set i (.own (l++[d])))else .no
 |_=>.no
noncomputable def j1h(s:Option Sv)(r:Sm):Sm:=match s with
 |some (.own _)=>r
 |_=>.no
noncomputable def j0x(i:Nat)(d:Option D)(ρ:En)(r:En->Sm):Sm:=match d with
 |some d=>r (ρ.set i (.val d))
 |none=>.no
noncomputable def jc(fu:Nat)(Γ:ao->List D->Rc)(G:ao->Option D)(ls:List ao):Px->En->Nat->Sm
 |.nop,ρ,k=>.next ρ k
 |.set i e r,ρ,k=>j17 i (ev Γ G e ρ) ρ λρ=>jc fu Γ G ls r ρ k
 |.keep i r,ρ,k=>ji3 i ρ[i]? ρ λρ=>jc fu Γ G ls r ρ k
 |.ifRet c e r,ρ,k=>ifP (truth (ev Γ G c ρ)) (Bk (ev Γ G e ρ) k) (jc fu Γ G ls r ρ k)
 |.ifRai c x m r,ρ,k=>ifP (truth (ev Γ G c ρ)) (U9 x (ev Γ G m ρ) (G (bang x)) ρ) (jc fu Γ G ls r ρ k)
 |.ifCal c f es r,ρ,k=>ifP (truth (ev Γ G c ρ)) (Up G (Vh Γ ls f (ev Γ G es ρ) k) ρ Sm.ret) (jc fu Γ G ls r ρ k)
 |.ret e,ρ,k=>Bk (ev Γ G e ρ) k
 |.take i r,ρ,k=>jc fu Γ G ls r (ρ.set i (.val (.str (ls.getD k "")))) (k+1)
 |.takeE r,ρ,k=>jc fu Γ G ls r ρ (k+1)
 |.takeIf i c e r,ρ,k=>ifP (truth (ev Γ G c ρ)) (jc fu Γ G ls r (ρ.set i (.val (.str (ls.getD k "")))) (k+1)) (j0x i (stOf (ev Γ G e ρ)) ρ λρ=>jc fu Γ G ls r ρ k)
 |.callS i f es r,ρ,k=>Up G (Vh Γ ls f (ev Γ G es ρ) k) ρ λd k'=>jc fu Γ G ls r (ρ.set i (.val d)) k'
 |.appC i f es r,ρ,k=>j1h ρ[i]? (Up G (Vh Γ ls f (ev Γ G es ρ) k) ρ λd k'=>j2e i ρ[i]? ρ d λρ=>jc fu Γ G ls r ρ k')
 |.whlA y b r,ρ,k=>Qz (λρ k=>jc fu Γ G ls b ρ k) (λρ k=>jc fu Γ G ls r ρ k) y ls fu ρ k
 |.ifAll x m r,ρ,k=>if ls.length<=k then jc fu Γ G ls r ρ k else U9 x (ev Γ G m ρ) (G (bang x)) ρ
noncomputable def pxS(l k:Option Sv)(r:List ao->Nat->Sm):So:=match l,k with
 |some (.val (.lst l)),aa (.val (.int k))=>match strsOf l with
  |some ls=>if 0<=k then match r ls k.toNat with
    |.ret d k'=>.ret (.mval d k')
    |.err x _=>.ret (.merr x)
    |_=>.no
   else .no
  |none=>.no
 |_,_=>.no
noncomputable def newS(b:Bool)(w:Option W)(g:Option D)(r:List ao->Sm):So:=match b,w,g with
 |true,aa (.v x),aa _=>match x.d with
  |.str t=>if t.length<=100000/\jj (aI t " ").length=af then match r (aI t " ") with
    |.next ρ' _=>.next ρ'
    |.ret d _=>.ret (.val d)
    |.err x ρ'=>.err x ρ'
    |.no=>.no
   else .no
  |_=>.no
 |_,_,_=>.no
noncomputable def run(fu:Nat)(Γ:ao->List D->Rc)(G:ao->Option D):Sx->En->So
 |.nop,ρ=>.next ρ
 |.seq a b,ρ=>match run fu Γ G a ρ with
  |.next ρ'=>run fu Γ G b ρ'
  |o=>o
 |.set i e,ρ=>orE (M9 i (ev Γ G e ρ) ρ) (er Γ G e ρ) ρ
 |.mov i j,ρ=>K9 i j ρ[j]? ρ
 |.expr e,ρ=>orE (Ig (ev Γ G e ρ) ρ) (er Γ G e ρ) ρ
 |.ret e,ρ=>orE (retS (ev Γ G e ρ)) (er Γ G e ρ) ρ
 |.retV i,ρ=>Ww ρ[i]?
 |.ife c a b,ρ=>match truth (ev Γ G c ρ) with
  |some af=>run fu Γ G a ρ
  |some ae=>run fu Γ G b ρ
  |none=>.no
 |.loop is it body,ρ=>match ev Γ G it (frz it ρ) with
  |some (.i ds)=>vf (λd ρ=>match zj is d ρ with
   |some ρ2=>run fu Γ G body ρ2
   |none=>.no) ds (frz it ρ)
  |_=>.no
 |.app i e,ρ=>Nm i ρ[i]? (ev Γ G e ρ) ρ
 |.ext i e,ρ=>N6 i ρ[i]? (ev Γ G e ρ) ρ
 |.put i k e,ρ=>Bl i ρ[i]? (ev Γ G k ρ) (ev Γ G e ρ) ρ
 |.fgt i,ρ=>.next (ρ.set i .un)
 |.keep i,ρ=>j1y i ρ[i]? ρ
 |.px p,ρ=>pxS ρ[0]? ρ[1]? λls k=>jc fu Γ G ls p (.exc rfN::ρ.drop 2) k
 |.newP pi te p,ρ=>newS (decide (pi<ρ.length)) (ev Γ G te ρ) (G (qm "Pieces")) λls=>jc fu Γ G ls p (ρ.set pi (.exc rfN)) 0
 |.lend k p f b r,ρ=>jhx k p f (Uu b) ρ[f]? ρ (bindM [k,p] (W5 Γ G b)) (run fu Γ G r)
 |.lent h ea eb mid b,ρ=>jhv h (Uu mid) ρ (stOf (ev Γ G ea ρ)) (ev Γ G eb ρ) (W5 Γ G mid) (run fu Γ G b)
 |.dcp i j k e,ρ=>jkh i j ρ[j]? (ev Γ G k (ρ.set i .un)) (ev Γ G e (ρ.set i .un)) ρ
 |.taken h q a b e t,ρ=>if h≠q/\h<ρ.length then match ev Γ G a ρ,ev Γ G b ρ with
   |some (.v (.o la)),aa (.v (.o lb))=>match ev Γ G e (ρ.set h (.val (.lst [.lst la,.lst lb]))) with
    |some (.v x)=>match x.st with
     |some d=>if Qm d=af/\truth (ev Γ G t ((ρ.set h (.val (.lst [.lst la,.lst lb]))).set q (.val d)))=aa ae then .next ((ρ.set h (.val (.lst [.lst la.reverse,.lst []]))).set q (.val d))else .no
     |none=>.no
    |_=>.no
   |_,_=>.no
  else .no
 |.unp i j e,ρ=>jjf i j (stOf (ev Γ G e ρ)) ρ
 |.dmake x t y it e,ρ=>if x<ρ.length/\t<ρ.length/\y<ρ.length/\x≠t/\x≠y/\t≠y then match ev Γ G it (ρ.set x .un) with
   |some (.i ds)=>match j26 (λρ=>stOf (ev Γ G e ρ)) t y ds (ρ.set x .un) [] [] with
    |some r=>.ret (.val (.dct r.1 r.2))
    |none=>.no
   |_=>.no
  else .no
 |.ioN es e,ρ=>match G (qm "_law_plan"),ev Γ G es ρ,ev Γ G e ρ with
  |some _,aa (.a [x,y,z]),aa (.v (.o [.int n]))=>match x.d,y.d,z.d with
   |.lst ls,.int eQ,.int k=>match strsOf ls with
    |some ws=>if 0<=k/\k<=5/\ws.length<=60 then .ret (.val (Y8 k.toNat ws eQ n).1)else .no
    |none=>.no
   |_,_,_=>.no
  |_,_,_=>.no
 |.retL x is,ρ=>jh6 x (Cy ρ is)
 |.retC f x a b is,ρ=>jh7 Γ f x (Cy ρ is) (ev Γ G a ρ) (ev Γ G b ρ)
 |.nmake x t y it e1 e2,ρ=>if x<ρ.length/\t<ρ.length/\y<ρ.length/\x≠t/\x≠y/\t≠y then match ev Γ G it (ρ.set x .un) with
   |some (.i ds)=>match j93 (λρ=>stOf (ev Γ G e1 ρ)) (λρ=>stOf (ev Γ G e2 ρ)) x t y ds (ρ.set x .un) [] [] with
    |some r=>.ret (.val (.dct r.1 (r.2.map D.int)))
    |none=>.no
   |_=>.no
  else .no
 |.wmake x t it e,ρ=>if x<ρ.length/\t<ρ.length/\x≠t then match ev Γ G it (ρ.set x .un) with
   |some (.i ds)=>match j8r (λρ=>stOf (ev Γ G e ρ)) x t ds (ρ.set x .un) [] [] with
    |some r=>.ret (.val (.dct r.1 (r.2.map D.int)))
    |none=>.no
   |_=>.no
  else .no
 |.apop i w e,ρ=>Rm i w ρ[i]? ρ[w]? (ev Γ G e ρ) ρ
 |.pop3 i j k w,ρ=>popS i j k w ρ[w]? ρ
 |.raise x e,ρ=>j6l x (ev Γ G e ρ) (G (bang x)) ρ
 |.fail,_=>.no
section
variable{Γ:ao->List D->Rc}{G:ao->Option D}{ρ:En}{fu:Nat}
theorem j2h{a b}:run fu Γ G (.seq a b) ρ=(match run fu Γ G a ρ with
  |.next ρ'=>run fu Γ G b ρ'
  |o=>o):=(rfl)
theorem j9o{i e}:run fu Γ G (.set i e) ρ=(orE (M9 i (ev Γ G e ρ) ρ) (er Γ G e ρ) ρ):=(rfl)
theorem jj7{i j}:run fu Γ G (.mov i j) ρ=(K9 i j ρ[j]? ρ):=(rfl)
theorem jgi{e}:run fu Γ G (.expr e) ρ=(orE (Ig (ev Γ G e ρ) ρ) (er Γ G e ρ) ρ):=(rfl)
theorem j9p{e}:run fu Γ G (.ret e) ρ=(orE (retS (ev Γ G e ρ)) (er Γ G e ρ) ρ):=(rfl)
theorem jge{i}:run fu Γ G (.retV i) ρ=(Ww ρ[i]?):=(rfl)
theorem jj8{c a b}:run fu Γ G (.ife c a b) ρ=(match truth (ev Γ G c ρ) with
  |some af=>run fu Γ G a ρ
  |some ae=>run fu Γ G b ρ
  |none=>.no):=(rfl)
theorem jgg{is it body}:run fu Γ G (.loop is it body) ρ=(match ev Γ G it (frz it ρ) with
  |some (.i ds)=>vf (λd ρ=>match zj is d ρ with
   |some ρ2=>run fu Γ G body ρ2
   |none=>.no) ds (frz it ρ)
  |_=>.no):=(rfl)
theorem jjb{i e}:run fu Γ G (.app i e) ρ=(Nm i ρ[i]? (ev Γ G e ρ) ρ):=(rfl)
theorem jja{i e}:run fu Γ G (.ext i e) ρ=(N6 i ρ[i]? (ev Γ G e ρ) ρ):=(rfl)
theorem jj6{i k e}:run fu Γ G (.put i k e) ρ=(Bl i ρ[i]? (ev Γ G k ρ) (ev Γ G e ρ) ρ):=(rfl)
theorem jj9{i}:run fu Γ G (.fgt i) ρ=(.next (ρ.set i .un)):=(rfl)
theorem jgh{i}:run fu Γ G (.keep i) ρ=(j1y i ρ[i]? ρ):=(rfl)
theorem jgf {pi te p}:run fu Γ G (.newP pi te p) ρ=(newS (decide (pi<ρ.length)) (ev Γ G te ρ) (G (qm "Pieces")) λls=>jc fu Γ G ls p (ρ.set pi (.exc rfN)) 0):=(rfl)
theorem jgj{i w e}:run fu Γ G (.apop i w e) ρ=(Rm i w ρ[i]? ρ[w]? (ev Γ G e ρ) ρ):=(rfl)
theorem jcf{x e}:run fu Γ G (.raise x e) ρ=(j6l x (ev Γ G e ρ) (G (bang x)) ρ):=(rfl)
end
def jkq(X:Cx):List (ao×ak)->List Nat->Prop
 |[],is=>is=[]
 |p::cl,is=>∃(i:Nat)(r:List Nat),is=i::r/\X.N[i]?=aa p.1/\X.env.scope.names.lookup p.1=aa .cell/\X.env.cells.lookup p.1=aa p.2/\X.fn p.1=af/\jkq X cl r
inductive Ns where
 |s (st:aQ)
 |ss (sts:List aQ)
def TMs(X:Cx)(b:Sx)(ss:List aQ):Prop:=∀(Γ:ao->List D->Rc)(G:ao->Option D),Cok X G->Gok X Γ->∀(ρ:Rho)(r:En),W5 Γ G b (j7 ρ)=aa r->∃ρ',j7 ρ'=r/\DMs X ρ ρ' (Uu b) ss/\Kp ρ ρ' (Uu b)
def TMt(X:Cx)(b:Sx)(full tl:List aQ):Prop:=∀(Γ:ao->List D->Rc)(G:ao->Option D),Cok X G->Gok X Γ->∀(ρ:Rho)(r:En),W5 Γ G b (j7 ρ)=aa r->∃ρ',j7 ρ'=r/\DMt X ρ ρ' (Uu b) full tl
def Za(pi:Nat)(o:Ob)(s:Sm)(P:Pm):Prop:=match s with
 |.next ρ' k=>∀ρ2,j7 ρ2=ρ'->(∃ob,ρ2[pi]?=aa (.raw o.a ob rfN))->P.nx ρ2 k
 |.ret d k=>P.rt d k
 |.err x ρ'=>∀ρ2,j7 ρ2=ρ'->P.ex x ρ2
 |.no=>False
def MP(X:Cx)(pi:Nat)(p:Px)(sts:List aQ):Prop:=∀(fu:Nat)(Γ:ao->List D->Rc)(G:ao->Option D),Cok X G->Gok X Γ->∀C,X.mg "Pieces" = aa (.ref C)->PcX X C->∀(o:Ob)(ls:List ao)(ρ:Rho)(k:Nat)(P:Pm),
 (∃ob,ρ[pi]?=aa (.raw o.a ob rfN))->Za pi o (jc fu Γ G ls p (j7 ρ) k) P->MSs X C o ls ρ k sts P
noncomputable def Rt.rc:Rt->Rc
 |.val d=>.val d
 |.fresh l=>.fresh l
def Yh(o:So)(P:Po):Prop:=match o with
 |.next ρ'=>∀ρ2,j7 ρ2=ρ'->P.nx ρ2
 |.ret r=>∀x:Rt,x.rc=r->P.rt x
 |.brk ρ'=>∀ρ2,j7 ρ2=ρ'->P.bk ρ2
 |.cnt ρ'=>∀ρ2,j7 ρ2=ρ'->P.ct ρ2
 |.err x ρ'=>∀ρ2,j7 ρ2=ρ'->P.ex x ρ2
 |.no=>False
theorem Y6{o:So}{x:Option ao}{ρ:En}{P:Po}(h:Yh (orE o x ρ) P):Yh o P\/∃y,x=aa y/\∀ρ2,j7 ρ2=ρ->P.ex y ρ2:=by
 cases o with
 |no =>
  cases x with
  |none=>exact h.elim
  |some y=>exact .inr ⟨y,rfl,h⟩
 |_=>exact .inl h
def j9q(fu:Nat)(Γ:ao->List D->Rc)(G:ao->Option D)(X:Cx)(t:Sx):Ns->Prop
 |.s st=>∀ρ P,Yh (run fu Γ G t (j7 ρ)) P->DS X ρ st P
 |.ss sts=>∀ρ P,Yh (run fu Γ G t (j7 ρ)) P->DSs X ρ sts P
section
variable{K:k70}{ρ:Rho}{σ:St}{H:Hp}{i j:Nat}{a:ak}{l:List D}
theorem Rep.move(R:Rep K ρ σ H)(hj:ρ[j]?=aa (.own a l))(hij:i≠j):Rep K ((ρ.set j .un).set i (.own a l)) (σ.set i (aa (.ref a))) H:=by
 have s1:(owns (ρ.set j .un)).Sublist (owns ρ):=jd rfl;have na:a∉owns (ρ.set j .un):=λz=>by
  obtain⟨k,l',q⟩:=Zu z;rcases getElem?_set_of q with ⟨_,z,_⟩|⟨n,q⟩
  .cases z
  .exact n (Vt R.nd hj q)
 obtain⟨nd,sub⟩:=Jj (ds:=l) (i:=i) (s1.nodup R.nd) na;have g:j4 (del H (owns ρ)) (del H (owns ((ρ.set j .un).set i (.own a l)))):=zb λb hb=>by
  rcases sub b hb with e|z
  .exact e▸Jd hj
  .exact s1.subset z
 refine⟨by simp[R.len],λk d' h=>?_,λk b ds' h=>?_,nd,λk b o x h=>?_,R.tb⟩
 .rcases getElem?_set_of h with ⟨rfl,z,_⟩|⟨n,h⟩
  .cases z
  .rcases getElem?_set_of h with ⟨rfl,z,_⟩|⟨n2,h⟩
   .cases z
   .obtain⟨u,q,e⟩:=R.val k d' h;exact⟨u,by rw[zm n];exact q,e.mono g⟩
 .rcases getElem?_set_of h with ⟨rfl,z,hl⟩|⟨n,h⟩
  .cases z;obtain⟨_,xs,hx,en⟩:=R.own j a l hj;exact⟨Vp (by rw[R.len];simpa using hl),xs,hx,en.mono g⟩
  .rcases getElem?_set_of h with ⟨rfl,z,_⟩|⟨n2,h⟩
   .cases z
   .obtain⟨q,xs,hx,en⟩:=R.own k b ds' h;exact⟨by rw[zm n];exact q,xs,hx,en.mono g⟩
 .rcases getElem?_set_of h with ⟨rfl,z,_⟩|⟨n,h⟩
  .cases z
  .rcases getElem?_set_of h with ⟨rfl,z,_⟩|⟨n2,h⟩
   .cases z
   .obtain⟨q,h⟩:=R.raw k b o x h;exact⟨by rw[zm n];exact q,h.mono g⟩
end
section
variable{X:Cx}{ρ:Rho}{e a b c:au}{es:List au}{st:aQ}{rest sa sb body:List aQ}{P:Po}{d:D}{ds ds':List D}{pos p p1 p2 p3:aR}{x y:ao}{i j:Nat}
theorem DS.freeze(i:Nat){l:ak}(h:ρ[i]?=aa (.own l ds))(h2:DS X (ρ.set i (.val (.lst ds))) st P):DS X ρ st P:=λσ H E R q =>h2 σ H E (R.freeze h) (q.step (.drop λb hb=>(jd rfl).subset hb))
theorem DS.mov{l:ak}(hk:ρ[j]?=aa (.own l ds))(hij:i≠j)(h:P.nx ((ρ.set j .un).set i (.own l ds)))(hN:X.N.Nodup)(hi:X.N[i]?=aa x)(hj:X.N[j]?=aa y)(hx:Loc X.env.scope x)
  (hf:X.fn x=af\/X.env.scope.names.lookup x=aa .local) (hv:Vis X.env.scope y) (hd:(y==k74)=ae) (hcd:(y==k75)=ae):DS X ρ (.Assign [.Name x p] (.Name y p1) pos) P:=λσ H E R q=>by
 obtain⟨hs,xs,m,en⟩:=R.own j l ds hk;refine(Qf hN hi hx (jz hj hv hd hcd) rfl hf).to ⟨_,hs,q.nx _ _ H h (R.move hk hij) (.drop λb hb=>?_)⟩;have s1:(owns (ρ.set j .un)).Sublist (owns ρ):=jd rfl;have na:l∉owns (ρ.set j .un):=λz=>by
  obtain⟨k,l',q⟩:=Zu z;rcases getElem?_set_of q with ⟨_,z,_⟩|⟨n,q⟩
  .cases z
  .exact n (Vt R.nd hk q)
 rcases(Jj (ds:=ds) (i:=i) (s1.nodup R.nd) na).2 b hb with z|z
 .exact z▸Jd hk
 .exact s1.subset z
theorem DS.setCf{ρf:Rho}{tg elt iter:au}{ifs:List au}{scope:bG}{spos:aR}(i:Nat)(cs:List Nat)(pr:D->Bool)(g:D->D)(hfr:∀K σ H,Rep K ρ σ H->Rep K ρf σ H)(hno:ρf=ρ\/qi ((ds.filter pr).map g)=af)(hi:DI X ρf tg iter ds)
  (hb:∀C s H fp pn,∀d∈ds,∃ρ2,DG (cCx X scope C s H fp pn) ρf tg d ρ2/\Wk ρ2 ρf/\owns ρ2=owns ρf/\DTs (cCx X scope C s H fp pn) ρ2 ifs (pr d)/\(pr d=af->DE (cCx X scope C s H fp pn) ρ2 elt (g d)))
  (h:∀l,P.nx (ρ.set i (.own l ((ds.filter pr).map g)))) (hN:X.N.Nodup) (hcs:∀j∈cs,ρf[j]?=aa .un) (hsz:ds.length<=ar) (hX:X.N[i]?=aa x) (hx:Loc X.env.scope x)
  (hf:X.fn x=af\/X.env.scope.names.lookup x=aa .local)
  (hsw:aL (.ListComp elt [⟨tg,iter,ifs,0⟩] scope pos) (aa (.Name x p1)) spos.line X.env=pure af)
  (hc:X.calm=af) (hkind:scope.kind=.function) (hok:Jt scope X.env X.N cs=af)
  (hs:∀x,aX iter X.env x=pure x):DS X ρ (.Assign [.Name x p1] (.ListComp elt [⟨tg,iter,ifs,0⟩] scope pos) spos) P:=λσ H E R q pins s I=>by
 have Rf:=hfr _ _ _ R;rw[exec_Assign_Name_used _ _ _ _ hsw];refine ag (fG (ag ?_));show ax _ X.A (do let _ <-comprehension (.ListComp elt [⟨tg,iter,ifs,0⟩] scope pos) scope X.env _ (newList []) ae (aB iter X.env) (aa (de (.Name x p1) X.env))) _ _ s;refine ag (bS (i4 (use:=aa (de (.Name x p1) X.env)) (Q:=λ_ s'=>SP X pins E .next s') rfl hs (Ot (M5 hok)) hkind (Wm hok)
  (thn (hi σ H (λJ H'=>j4 H H'/\Uy X.K (del H' (owns ρf)) J ds) Rf (λJ H' g1 ok=>⟨g1,ok⟩) pins s I) λv s1 h1=>thn h1 λitv s2 h2=>?_)) (λ_ s' hq=>av (av hq)) λ_ _ e=>e)
 obtain⟨it,fp,tn,J,H2,e,I2,T,st2,f2,g2,ok⟩:=h2;subst e;refine Dg (RR:=λacc C=>compPost (aA X.prog X.w) X.A X.xe (aa (de (.Name x p1) X.env)) (λ_ s'=>SP X pins E .next s') acc C) I2 (Rf.grow g2) T st2 f2 ok hc hkind hok hcs hsz hb ?_;intro D C xs H' s' m I' gg n m' en hm L;show ax _ X.A (de (.Name x p1) X.env (.ref D)) _ _ _;refine jW (Fb I' hN hX hx (v:=.ref D) rfl (λs'' I'' ⟨a,sb,ha⟩=>?_) hf);have hCa:C≠a:=by
  rcases ha with e|e
  .rw[e];exact L.loc
  .exact dS (L.cell x a e)
 have en':j5 X.K (del H' (D::owns ρ)) ((ds.filter pr).map g) xs:=by
  rcases hno with e|e
  .rw[e]at en;exact en
  .exact(en.mono ji).hide (λc hc=>by
    rcases xn.mp hc with z|z
    .rw[z];exact .inl ⟨xs,m'⟩
    .exact .inl ((R.grow (g2.trans gg)).owned c z)) e
 refine⟨m,hm.sameBut sb hCa,λh' sb'=>⟨σ.set i (aa (.ref D)),H',I''.loose L sb',?_⟩⟩;exact q.nx _ _ H' (h D) (R.set_own (g2.trans gg) (g2.free n) m' en') (Fr0.new R (g2.trans gg) (g2.free n))
end
section
variable{fu:Nat}{Γ:ao->List D->Rc}{G:ao->Option D}{X:Cx}{P:Po}
theorem bind1{i:Nat}{y:ao}{p:aR}(nd:X.N.Nodup)(hi:X.N[i]?=aa y)(hx:Loc X.env.scope y)(hf:X.fn y=af\/X.env.scope.names.lookup y=aa .local) :
  ∀ρ d ρ2,zj [i] d (j7 ρ)=aa ρ2->∃ρ',j7 ρ'=ρ2/\DG X ρ (.Name y p) d ρ':=λρ d ρ2 h=>by
 simp only[zj]at h;cases h;exact⟨_,jk,DG.name _ nd hi hx hf⟩
theorem jit{i j:Nat}{x y:ao}{n:Nat}{p q pt:aR}(hc:X.calm=af)(hij:i≠j)(nd:X.N.Nodup)(hi:X.N[i]?=aa x)(hj:X.N[j]?=aa y)(hx:Loc X.env.scope x)(hy:Loc X.env.scope y)
  (hf:X.fn x=af\/X.env.scope.names.lookup x=aa .local) (hg:X.fn y=af\/X.env.scope.names.lookup y=aa .local) :
  ∀ρ d ρ2,zj [i,j] d (j7 ρ)=aa ρ2->∃ρ',j7 ρ'=ρ2/\DG X ρ (.Tuple [.Name x p,.Name y q] n pt) d ρ':=λρ d ρ2 h=>by
 simp only[zj]at h;split at h
 .rename_i a b;cases h;exact⟨(ρ.set i (.val a)).set j (.val b),by rw[jk,jk];rfl,DG.pair _ _ hij nd hi hj hx hy hf hg hc⟩
 .cases h
theorem DS.setX{e:au}{x y:ao}{i:Nat}{p pos:aR}{ρ:Rho}(he:DX X ρ e y)(h:P.ex y ρ)(hN:X.N.Nodup)(hi:X.N[i]?=aa x)(hx:Loc X.env.scope x)(hs:aL e (aa (.Name x p)) pos.line X.env=pure ae)(hf:X.fn x=af\/X.env.scope.names.lookup x=aa .local) :
  DS X ρ (.Assign [.Name x p] e pos) P:=λσ H E R q=>(Qf hN hi hx peS hs hf).to (he σ H _ R (q.ex y ρ σ H h R (Fr0.refl _ _)))
theorem DS.exprX{e:au}{y:ao}{pos:aR}{ρ:Rho}(he:DX X ρ e y)(h:P.ex y ρ)(hs:aL e ah pos.line X.env=pure ae):DS X ρ (.Expr e pos) P:=λσ H E R q =>(Qu peS hs).to (he σ H _ R (q.ex y ρ σ H h R (Fr0.refl _ _)))
theorem DS.retX{e:au}{y:ao}{pos:aR}{ρ:Rho}(he:DX X ρ e y)(h:P.ex y ρ):DS X ρ (.Return (aa e) pos) P:=λσ H E R q =>(Qg peS).to (he σ H _ R (q.ex y ρ σ H h R (Fr0.refl _ _)))
theorem Oa{is:List Nat}{it':Ex}{b:Sx}{it tg:au}{body:List aQ}{pos:aR}{ρ:Rho}(hq:X.calm=af)(c:Cok X G)(hs:∀x,aX it X.env x=pure x)
  (hb:∀ρ d ρ2,zj is d (j7 ρ)=aa ρ2->∃ρ',j7 ρ'=ρ2/\DG X ρ tg d ρ') (hi:∀ρ ds,ev Γ G it' (j7 ρ)=aa (.i ds)->DI X ρ tg it ds)
  (ih:∀ρ P,Yh (run fu Γ G b (j7 ρ)) P->DSs X ρ body P) (h:Yh (run fu Γ G (.loop is it' b) (j7 ρ)) P):DS X ρ (.For tg it body [] pos) P:=by
 have main:∀ρf:Rho,j7 ρf=frz it' (j7 ρ)->DS X ρf (.For tg it body [] pos) P:=λρf ef=>by
  rw[jgg]at h;rw[<-ef]at h;split at h
  .rename_i ds hds;generalize hf:(λd ρ=>_:D->En->So)=f at h;refine DS.for (ds:=ds) (λi ρ'=>Yh (vf f (ds.drop i) (j7 ρ')) P) (hi ρf ds hds) (by rw[cn];exact h) (λi d ρ' hd w=>?_) (λρ' w=>?_) hq c.po hs
   .have hdr:ds.drop i=d::ds.drop (i+1):=by obtain⟨hlt,e⟩:=Xd.mp hd;rw[List.drop_eq_getElem_cons hlt,e]
    rw[hdr,vf]at w;have ef2:f d (j7 ρ')=match zj is d (j7 ρ')with|some ρ2=>run fu Γ G b ρ2|none=>.no:=by rw[<-hf]<;>rfl
    rw[ef2]at w;cases hb2:zj is d (j7 ρ') with
    |none=>rw[hb2]at w;exact w.elim
    |some ρ2 =>
     rw[hb2]at w;obtain⟨ρ3,e3,dg⟩:=hb ρ' d ρ2 hb2;refine⟨ρ3,dg,ih ρ3 _ ?_⟩;rw[e3];dsimp only at w;cases ho:run fu Γ G b ρ2 with
     |next ρ4=>rw[ho]at w;exact λρ5 e=>by rw[<-e]at w;exact w
     |cnt ρ4=>rw[ho]at w;exact λρ5 e=>by rw[<-e]at w;exact w
     |brk ρ4=>rw[ho]at w;exact w
     |ret r=>rw[ho]at w;exact w
     |err x ρ4=>rw[ho]at w;exact w
     |no=>rw[ho]at w;exact w
   .rw[List.drop_length,vf]at w;exact w ρ' rfl
  .exact h.elim
 by_cases z:Jb it' (j7 ρ)=af
 .unfold Jb at z;split at z
  .rename_i i ei;split at z
   .rename_i l e;obtain⟨a,q⟩:=vo e;refine DS.freeze i q (main _ ?_);rw[jk];simp only[frz,ei,e,Sl.abs]
   .cases z
  .cases z
 .have z':Jb it' (j7 ρ)=ae:=by simpa using z
  refine main ρ ?_;unfold frz;split
  .rename_i i ei;split
   .rename_i l e;simp only[Jb,ei,e]at z';cases z'
   .rfl
  .rfl
theorem j18{is:List Nat}{elt' it' c':Ex}{elt it tg:au}{ifs:List au}{scope:bG}{p p1 pos:aR}{k:Nat}{z:ao}{ρ:Rho}(hq:X.calm=af)(hX:Cok X G)
  (hk:X.N[k]?=aa z) (hx:Loc X.env.scope z) (hf:X.fn z=af\/X.env.scope.names.lookup z=aa .local)
  (hsw:aL (.ListComp elt [⟨tg,it,ifs,0⟩] scope p) (aa (.Name z p1)) pos.line X.env=pure af)
  (hit:∀ρ ds,ev Γ G it' (j7 ρ)=aa (.i ds)->DI X ρ tg it ds) (hkind:scope.kind=.function) (hok:Jt scope X.env X.N is=af) (hs:∀x,aX it X.env x=pure x)
  (hb:∀ρ d ρ2,zj is d (j7 ρ)=aa ρ2->(∀j∈is,ρ[j]?=aa .un)->∃ρ',j7 ρ'=ρ2/\Wk ρ' ρ/\owns ρ'=owns ρ/\∀C s H fp pn,DG (cCx X scope C s H fp pn) ρ tg d ρ')
  (he:∀C s H fp pn ρ r,ev Γ G elt' (j7 ρ)=aa (.v r)->Has (cCx X scope C s H fp pn) ρ elt r)
  (hc:∀C s H fp pn ρ,(ev Γ G c' (j7 ρ)=aa (.a [])->DTs (cCx X scope C s H fp pn) ρ ifs af)/\∀y k,ev Γ G c' (j7 ρ)=aa (.a [y])->y.d=.bl k->DTs (cCx X scope C s H fp pn) ρ ifs k)
  (h:Yh (run fu Γ G (.set k (.comp is elt' it' c')) (j7 ρ)) P):DS X ρ (.Assign [.Name z p1] (.ListComp elt [⟨tg,it,ifs,0⟩] scope p) pos) P:=by
 rw[j9o]at h;unfold M9 at h;have h:=(Y6 h).resolve_right λ⟨y,ey,_⟩=>by simp only[er]at ey;cases ey
 cases e:ev Γ G (.comp is elt' it' c') (j7 ρ) with
 |none=>rw[e]at h;exact h.elim
 |some w =>
  rw[e]at h;cases w with
  |a _=>exact h.elim
  |i _=>exact h.elim
  |v r =>
   obtain⟨l,ρf,ds,pr,g,er,el,hfz,hi,hun,hz,hb'⟩:=M4 hit hb he hc e;subst er;refine DS.setCf (ρf:=ρf) k is pr g ?_ ?_ hi hb' (λa=>?_) hX.nd hun hz hk hx hf hsw hq hkind hok hs
   .rcases hfz with e|⟨_,i,a,l',q,e⟩
    .subst e;exact λ_ _ _ R=>R
    .subst e;exact λ_ _ _ R=>R.freeze q
   .rcases hfz with e|⟨n,_⟩
    .exact .inl e
    .exact .inr (el▸n)
   .rw[<-el];exact h _ jk
theorem ja3{w:Option W}{d:D}(h:stOf w=aa d):∃z,w=aa (.v z)/\z.st=aa d:=by
 unfold stOf at h;split at h
 .exact⟨_,rfl,h⟩
 .cases h
end
structure Ts(X:Cx)(t:Sx)(nd:Ns):Prop where
 m:∀(fu:Nat)(Γ:ao->List D->Rc)(G:ao->Option D),Cok X G->Gok X Γ->j9q fu Γ G X t nd
theorem Ts.nil:∀{X:Cx},Ts X .nop (.ss []):=by intro _;refine⟨λfu Γ G=>?_⟩;intro c g ρ P h;exact DSs.nil (h ρ rfl)
theorem Ts.cons:∀{X:Cx}{a b:Sx}{st:aQ}{rest:List aQ},Ts X a (.s st)->Ts X b (.ss rest)->Ts X (.seq a b) (.ss (st::rest)):=by
 intro _ _ _ _ _ q0 q1;refine⟨λfu Γ G=>?_⟩;have iha:=q0.m fu Γ G;have ihb:=q1.m fu Γ G;intro c g ρ P h;rw[j2h]at h;split at h
 .rename_i ρ' e;exact DSs.cons (N:=λρ1=>j7 ρ1=ρ') (iha c g ρ _ (by rw[e];exact λρ2 z=>z)) λρ1 z=>ihb c g ρ1 P (by rw[z];exact h)
 .rename_i o hn;refine DSs.cons (N:=λ_=>False) (iha c g ρ _ ?_) λ_ z=>z.elim;cases e:run fu Γ G _ (j7 ρ) with
  |next ρ'=>exact absurd e (hn ρ')
  |ret r=>rw[e]at h;exact h
  |err x r=>rw[e]at h;exact h
  |brk r=>rw[e]at h;exact h
  |cnt r=>rw[e]at h;exact h
  |no=>rw[e]at h;exact h
theorem Ts.fgt:∀{X:Cx}{i:Nat}{b:Sx}{sts:List aQ},Ts X b (.ss sts)->Ts X (.seq (.fgt i) b) (.ss sts):=by intro _ _ _ _ q0;refine⟨λfu Γ G=>?_⟩;have ih:=q0.m fu Γ G;intro c g ρ P h;simp only[j2h,jj9]at h;exact DSs.forget _ (ih c g _ P (by rw[jk];exact h))
theorem Ts.newP:∀{X:Cx}{pi:Nat}{y:ao}{te':Ex}{p:Px}{te:au}{rest:List aQ} {py p1 p2 pos:aR} (hg:Gl X "Pieces") (hst:ai [te] X.env=(ae,aB te X.env)::ai [] X.env) (hpl:(aP p2 (ai [] X.env)).any (·.1)=ae) (hi:X.N[pi]?=aa y) (hx:Loc X.env.scope y) (hs:aL (.Call (.Name "Pieces" p1) [te] [] p2) (aa (.Name y py)) pos.line X.env=pure ae) (hf:X.fn y=af\/X.env.scope.names.lookup y=aa .local),Tr X te' (.e te)->MP X pi p rest->Ts X (.newP pi te' p) (.ss (.Assign [.Name y py] (.Call (.Name "Pieces" p1) [te] [] p2) pos::rest)):=by
 intro _ pi y te' p te rest py p1 p2 pos hg hst hpl hi hx hs hf hte hm;refine⟨λfu Γ G=>?_⟩;intro c g ρ P h;rw[jgf]at h;unfold newS at h;split at h
 .rename_i x d eb ex eg;have hl:pi<ρ.length:=by have:=of_decide_eq_true eb;unfold j7 at this;rw[xg]at this;exact this
  split at h
  .rename_i t et;split at h
   .rename_i hc;obtain⟨C,hC,T⟩:=c.pc d eg;dsimp only at h;refine DSs.make T (et▸(sound hte c g ρ x ex).toT) hc.1 (ql hc.2) hg hst hpl c.nd hi hx hs hf λo=>?_;refine hm fu Γ G c g C hC T o _ _ 0 _ ⟨dOb,Vp hl⟩ ?_;rw[jk];show Za pi o (jc fu Γ G (aI t " ") p ((j7 ρ).set pi (.exc rfN)) 0) _;cases z:jc fu Γ G (aI t " ") p ((j7 ρ).set pi (.exc rfN)) 0 with
    |next ρ' k=>rw[z]at h;exact λρ2 e _=>h ρ2 e
    |ret d k=>rw[z]at h;exact h (.val d) rfl
    |err x ρ'=>rw[z]at h;exact h
    |no=>rw[z]at h;exact h
   .exact h.elim
  .exact h.elim
 .exact h.elim
theorem Ts.keep:∀{X:Cx}{i:Nat}{b:Sx}{sts:List aQ},Ts X b (.ss sts)->Ts X (.seq (.keep i) b) (.ss sts):=by
 intro _ i _ _ q0;refine⟨λfu Γ G=>?_⟩;have ih:=q0.m fu Γ G;intro c g ρ P h;simp only[j2h,jgh,j1y]at h;cases e:(j7 ρ)[i]? with
 |none=>rw[e]at h;exact h.elim
 |some v =>
  rw[e]at h;cases v with
  |own l =>obtain⟨a,q⟩:=vo e;exact DSs.freeze _ q (ih c g _ P (by rw[jk];exact h))
  |un=>exact h.elim
  |val d=>exact ih c g ρ P h
  |exc x=>exact h.elim
theorem Ts.set:∀{X:Cx}{i:Nat}{x:ao}{e':Ex}{e:au}{p pos:aR}(hi:X.N[i]?=aa x) (hx:Loc X.env.scope x) (hs:aL e (aa (.Name x p)) pos.line X.env=pure ae) (hf:X.fn x=af\/X.env.scope.names.lookup x=aa .local),Tr X e' (.e e)->Ts X (.set i e') (.s (.Assign [.Name x p] e pos)):=by
 intro _ _ _ _ _ _ _ hi hx hs hf he;refine⟨λfu Γ G=>?_⟩;intro c g ρ P h;have S:=sound he c g;rw[j9o]at h;unfold M9 at h;rcases Y6 h with h|⟨y,ey,hP⟩
 rotate_left
 .exact DS.setX (Lj he c g ρ y ey) (hP ρ rfl) c.nd hi hx hs hf
 split at h
 .rename_i l e;exact DS.setO _ (S ρ _ e) (λa=>h _ jk) c.nd hi hx hs hf
 .rename_i r hn e;split at h
  .rename_i d hd;exact DS.set _ ((S ρ _ e).toE hd) (h _ jk) c.nd hi hx hs hf
  .exact h.elim
 .exact h.elim
theorem Ts.setC1:∀{X:Cx}{k i:Nat}{z y:ao}{py p p1 pos:aR}{elt' it' c':Ex}{elt it:au}{ifs:List au} {scope:bG} (hq:X.calm=af) (hk:X.N[k]?=aa z) (hx:Loc X.env.scope z) (hf:X.fn z=af\/X.env.scope.names.lookup z=aa .local) (hsw:aL (.ListComp elt [⟨.Name y py,it,ifs,0⟩] scope p) (aa (.Name z p1)) pos.line X.env=pure af) (hi:X.N[i]?=aa y) (hl:Wt scope y=af) (hkind:scope.kind=.function) (hok:Jt scope X.env X.N [i]=af) (hs:∀x,aX it X.env x=pure x),Tr X it' (.i (.Name y py) it)->(∀C s H fp pn,Tr (cCx X scope C s H fp pn) elt' (.e elt))->(∀C s H fp pn,Tr (cCx X scope C s H fp pn) c' (.c ifs))->Ts X (.set k (.comp [i] elt' it' c')) (.s (.Assign [.Name z p1] (.ListComp elt [⟨.Name y py,it,ifs,0⟩] scope p) pos)):=by
 intro _ _ _ _ _ _ _ _ _ _ _ _ _ _ _ _ hq hk hx hf hsw hi hl hkind hok hs hit he hc;refine⟨λfu Γ G=>?_⟩;intro c g ρ P h;exact j18 hq c hk hx hf hsw (λρ ds z=>sound hit c g ρ ds z) hkind hok hs (λρ d ρ2 hb hun=>by
  simp only[zj]at hb
  cases hb
  have hu:=hun _ (X3.mpr rfl)
  exact⟨_,jk,Wk.set hu,Rr hu,λC s H fp pn=>DG.name _ c.nd hi (j02 hl) (j2v hl)⟩)
  (λC s H fp pn ρ r z=>sound (he C s H fp pn) c.comp g.comp ρ r z) (λC s H fp pn ρ=>sound (hc C s H fp pn) c.comp g.comp ρ) h
theorem Ts.mov:∀{X:Cx}{i j:Nat}{x y:ao}{p q pos:aR}(hi:X.N[i]?=aa x) (hj:X.N[j]?=aa y) (hx:Loc X.env.scope x) (hf:X.fn x=af\/X.env.scope.names.lookup x=aa .local) (hv:Vis X.env.scope y) (hd:(y==k74)=ae) (hcd:(y==k75)=ae),Ts X (.mov i j) (.s (.Assign [.Name x p] (.Name y q) pos)):=by
 intro _ _ _ _ _ _ _ _ hi hj hx hf hv hd hcd;refine⟨λfu Γ G=>?_⟩;intro c g ρ P h;rw[jj7]at h;unfold K9 at h;split at h
 .rename_i l e;obtain⟨a,q⟩:=vo e;split at h
  .exact h.elim
  .rename_i hij;exact DS.mov q hij (h _ (by rw[jk,jk];rfl)) c.nd hi hj hx hf hv hd hcd
 .rename_i d e;exact DS.set _ (DE.var _ (Mt e) hj hv hd hcd) (h _ jk) c.nd hi hx rfl hf
 .exact h.elim
theorem Ts.expr:∀{X:Cx}{e':Ex}{e:au}{pos:aR}(hs:aL e ah pos.line X.env=pure ae),Tr X e' (.e e)->Ts X (.expr e') (.s (.Expr e pos)):=by
 intro _ _ _ _ hs he;refine⟨λfu Γ G=>?_⟩;intro c g ρ P h;rw[jgi]at h;unfold Ig at h;rcases Y6 h with h|⟨y,ey,hP⟩
 rotate_left
 .exact DS.exprX (Lj he c g ρ y ey) (hP ρ rfl) hs
 split at h
 .rename_i r e;exact DS.expr (sound he c g ρ r e).toT (h ρ rfl) hs
 .exact h.elim
theorem Ts.ret:∀{X:Cx}{e':Ex}{e:au}{pos:aR},Tr X e' (.e e)->Ts X (.ret e') (.s (.Return (aa e) pos)):=by
 intro _ _ _ _ he;refine⟨λfu Γ G=>?_⟩;intro c g ρ P h;rw[j9p]at h;unfold retS at h;rcases Y6 h with h|⟨y,ey,hP⟩
 rotate_left
 .exact DS.retX (Lj he c g ρ y ey) (hP ρ rfl)
 split at h
 .rename_i l e;exact DS.retO (sound he c g ρ _ e) (h _ rfl)
 .rename_i r hn e;exact DS.ret (sound he c g ρ _ e).toT (h _ rfl)
 .exact h.elim
theorem Ts.retV:∀{X:Cx}{i:Nat}{x:ao}{p pos:aR}(hi:X.N[i]?=aa x) (hv:Vis X.env.scope x) (hd:(x==k74)=ae) (hcd:(x==k75)=ae),Ts X (.retV i) (.s (.Return (aa (.Name x p)) pos)):=by
 intro _ _ _ _ _ hi hv hd hcd;refine⟨λfu Γ G=>?_⟩;intro c g ρ P h;rw[jge]at h;unfold Ww at h;split at h
 .rename_i l e;obtain⟨a,q⟩:=vo e;exact DS.retV _ q (h _ rfl) hi hv hd hcd
 .rename_i d e;exact DS.ret (DE.toT (DE.var _ (Mt e) hi hv hd hcd)) (h _ rfl)
 .exact h.elim
theorem Ts.ife:∀{X:Cx}{c':Ex}{a b:Sx}{c:au}{sa sb:List aQ}{pos:aR},Tr X c' (.b c)->Ts X a (.ss sa)->Ts X b (.ss sb)->Ts X (.ife c' a b) (.s (.If c sa sb pos)):=by
 intro _ _ _ _ _ _ _ _ hc q1 q2;refine⟨λfu Γ G=>?_⟩;have iha:=q1.m fu Γ G;have ihb:=q2.m fu Γ G;intro c g ρ P h;rw[jj8]at h;split at h
 .rename_i e;exact DS.if (sound hc c g ρ af e) (λ_=>iha c g ρ P h) λz=>by cases z
 .rename_i e;exact DS.if (sound hc c g ρ ae e) (λz=>by cases z) λ_=>ihb c g ρ P h
 .exact h.elim
theorem Ts.for1:∀{X:Cx}{i:Nat}{y:ao}{it':Ex}{b:Sx}{it:au}{body:List aQ} {p pos:aR} (hq:X.calm=af) (hi:X.N[i]?=aa y) (hx:Loc X.env.scope y) (hf:X.fn y=af\/X.env.scope.names.lookup y=aa .local) (hs:∀x,aX it X.env x=pure x),Tr X it' (.i (.Name y p) it)->Ts X b (.ss body)->Ts X (.loop [i] it' b) (.s (.For (.Name y p) it body [] pos)):=by intro _ _ _ _ _ _ _ _ _ hq hi hx hf hs hit q1;refine⟨λfu Γ G=>?_⟩;have ih:=q1.m fu Γ G;intro c g ρ P h;exact Oa hq c hs (bind1 c.nd hi hx hf) (λρ ds z=>sound hit c g ρ ds z) (ih c g) h
theorem Ts.for2:∀{X:Cx}{i j:Nat}{x y:ao}{it':Ex}{b:Sx}{it:au}{body:List aQ} {n:Nat} {p q pt pos:aR} (hq:X.calm=af) (hij:i≠j) (hi:X.N[i]?=aa x) (hj:X.N[j]?=aa y) (hx:Loc X.env.scope x) (hy:Loc X.env.scope y) (hf:X.fn x=af\/X.env.scope.names.lookup x=aa .local) (hg:X.fn y=af\/X.env.scope.names.lookup y=aa .local) (hs:∀x,aX it X.env x=pure x),Tr X it' (.i (.Tuple [.Name x p,.Name y q] n pt) it)->Ts X b (.ss body)->Ts X (.loop [i,j] it' b) (.s (.For (.Tuple [.Name x p,.Name y q] n pt) it body [] pos)):=by intro _ _ _ _ _ _ _ _ _ _ _ _ _ _ hq hij hi hj hx hy hf hg hs hit q1;refine⟨λfu Γ G=>?_⟩;have ih:=q1.m fu Γ G;intro c g ρ P h;exact Oa hq c hs (jit hq hij c.nd hi hj hx hy hf hg) (λρ ds z=>sound hit c g ρ ds z) (ih c g) h
theorem Ts.app:∀{X:Cx}{i:Nat}{x:ao}{e':Ex}{e:au}{p p1 p2 pos:aR}(hN:X.N[i]?=aa x) (hv:Vis X.env.scope x) (hd:(x==k74)=ae) (hcd:(x==k75)=ae) (hst:ai [e] X.env=[(ae,aB e X.env)]) (hline:(p1.endLine==p2.line)=af) (hbase:aU (.Name x p) "append" X.env (aB (.Name x p) X.env)=aB (.Name x p) X.env) (hfew:((aP p2 (ai [e] X.env)).all (λx=>!x.1)&&(bP p2 (b7 [] X.env)).all (λx=>x.1.isSome)&&decide (([e]:List au).length+([]:List b0).length+(if ([]:List b0).isEmpty then 0 else 1)<30))=af),Tr X e' (.e e)->Ts X (.app i e') (.s (.Expr (.Call (.Attribute (.Name x p) "append" p1) [e] [] p2) pos)):=by
 intro _ _ _ _ _ _ _ _ _ hN hv hd hcd hst hline hbase hfew he;refine⟨λfu Γ G=>?_⟩;intro c g ρ P h;rw[jjb]at h;unfold Nm at h;split at h
 .rename_i l x el ex;obtain⟨a,q⟩:=vo el;split at h
  .rename_i d hd';split at h
   .rename_i hz;exact DS.append _ q ((sound he c g ρ x ex).toE hd') hz (h _ jk) hN hv hd hcd hst hline hbase hfew rfl
   .exact h.elim
  .exact h.elim
 .exact h.elim
theorem Ts.ext:∀{X:Cx}{i:Nat}{x:ao}{e':Ex}{e:au}{p p1 p2 pos:aR}(hN:X.N[i]?=aa x) (hv:Vis X.env.scope x) (hd:(x==k74)=ae) (hcd:(x==k75)=ae) (hst:ai [e] X.env=[(ae,aB e X.env)]) (hline:(p1.endLine==p2.line)=af) (hbase:aU (.Name x p) "extend" X.env (aB (.Name x p) X.env)=aB (.Name x p) X.env) (hfew:((aP p2 (ai [e] X.env)).all (λx=>!x.1)&&(bP p2 (b7 [] X.env)).all (λx=>x.1.isSome)&&decide (([e]:List au).length+([]:List b0).length+(if ([]:List b0).isEmpty then 0 else 1)<30))=af),Tr X e' (.e e)->Ts X (.ext i e') (.s (.Expr (.Call (.Attribute (.Name x p) "extend" p1) [e] [] p2) pos)):=by
 intro _ _ _ _ _ _ _ _ _ hN hv hd hcd hst hline hbase hfew he;refine⟨λfu Γ G=>?_⟩;intro c g ρ P h;rw[jja]at h;unfold N6 at h;split at h
 .rename_i l m el ex;obtain⟨a,q⟩:=vo el;split at h
  .rename_i hz;exact DS.extend _ q (sound he c g ρ _ ex) (ql hz) (h _ jk) hN hv hd hcd hst hline hbase hfew rfl
  .exact h.elim
 .exact h.elim
theorem Ts.put:∀{X:Cx}{i:Nat}{x:ao}{k' e':Ex}{k e:au}{p p1 pos:aR}(hN:X.N[i]?=aa x) (hv:Vis X.env.scope x) (hd:(x==k74)=ae) (hcd:(x==k75)=ae) (ha:∀v,de (.Subscript (.Name x p) k p1) X.env v=(do
    let ov <-bN [v] (aB (.Name x p) X.env)
    let iv <-bN [v,ov] (aB k X.env)
    eB p1
    bN [v,ov,iv] (setItem ov iv v)
    release [v,ov,iv] [])) (hs:i5 [.Subscript (.Name x p) k p1] e pos.line X.env=pure ae) (hw:i6 [.Subscript (.Name x p) k p1] e X.env=pure ah),Tr X k' (.e k)->Tr X e' (.e e)->Ts X (.put i k' e') (.s (.Assign [.Subscript (.Name x p) k p1] e pos)):=by
 intro _ _ _ _ _ _ _ _ _ _ hN hv hd hcd ha hs hw hk he;refine⟨λfu Γ G=>?_⟩;intro c g ρ P h;rw[jj6]at h;unfold Bl at h;split at h
 .rename_i l y x el ey ex;obtain⟨a,q⟩:=vo el;split at h
  .rename_i j d ej ed;split at h
   .rename_i n en;exact DS.setItem _ q ((sound he c g ρ x ex).toE ed) (ej▸(sound hk c g ρ y ey).toT) en (h _ jk) hN hv hd hcd ha hs hw rfl
   .exact h.elim
  .exact h.elim
 .exact h.elim
theorem Ts.apop:∀{X:Cx}{i w:Nat}{x u:ao}{e':Ex}{e:au}{p1 p2 p3 p4 p5 p6 pos:aR}(hN:X.N[i]?=aa x) (hv:Vis X.env.scope x) (hd:(x==k74)=ae) (hcd:(x==k75)=ae) (hN2:X.N[w]?=aa u) (hv2:Vis X.env.scope u) (hd2:(u==k74)=ae) (hcd2:(u==k75)=ae) (hst:ai [e] X.env=[(ae,aB e X.env)]) (hst1:ai [.Call (.Attribute (.Name u p4) "pop" p5) [e] [] p6] X.env=[(ae,aB (.Call (.Attribute (.Name u p4) "pop" p5) [e] [] p6) X.env)]) (hline:(p2.endLine==p3.line)=af) (hline2:(p5.endLine==p6.line)=af) (hbase:aU (.Name x p1) "append" X.env (aB (.Name x p1) X.env)=aB (.Name x p1) X.env) (hbase2:aU (.Name u p4) "pop" X.env (aB (.Name u p4) X.env)=aB (.Name u p4) X.env) (hfew:((aP p3 (ai [.Call (.Attribute (.Name u p4) "pop" p5) [e] [] p6] X.env)).all (λx=>!x.1)&&(bP p3 (b7 [] X.env)).all (λx=>x.1.isSome)&&decide (([.Call (.Attribute (.Name u p4) "pop" p5) [e] [] p6]:List au).length+([]:List b0).length+(if ([]:List b0).isEmpty then 0 else 1)<30))=af) (hfew2:((aP p6 (ai [e] X.env)).all (λx=>!x.1)&&(bP p6 (b7 [] X.env)).all (λx=>x.1.isSome)&&decide (([e]:List au).length+([]:List b0).length+(if ([]:List b0).isEmpty then 0 else 1)<30))=af) (hs:aL (.Call (.Attribute (.Name x p1) "append" p2) [.Call (.Attribute (.Name u p4) "pop" p5) [e] [] p6] [] p3) ah pos.line X.env=pure ae),Tr X e' (.e e)->Ts X (.apop i w e') (.s (.Expr (.Call (.Attribute (.Name x p1) "append" p2) [.Call (.Attribute (.Name u p4) "pop" p5) [e] [] p6] [] p3) pos)):=by
 intro _ _ _ _ _ _ _ _ _ _ _ _ _ _ hN hv hd hcd hN2 hv2 hd2 hcd2 hst hst1 hline hline2 hbase hbase2 hfew hfew2 hs he;refine⟨λfu Γ G=>?_⟩;intro c g ρ P h;rw[jgj]at h;unfold Rm at h;split at h
 .rename_i l m y el em ey;obtain⟨a,q⟩:=vo el;obtain⟨b,q2⟩:=vo em;split at h
  .rename_i z ez;split at h
   .rename_i k ek;split at h
    .rename_i d ed;split at h
     .rename_i hc;exact DS.apop q q2 hc.1 ((sound he c g ρ y ey).toE ez) ek ed hc.2.1 hc.2.2 (h _ (by rw[jk,jk];rfl)) hN hv hd hcd hN2 hv2 hd2 hcd2 hst hst1 hline hline2 hbase hbase2 hfew hfew2 hs
     .exact h.elim
    .exact h.elim
   .exact h.elim
  .exact h.elim
 .exact h.elim
theorem Ts.raise:∀{X:Cx}{x:ao}{e':Ex}{e:au}{np cpos pos:aR}(hq:X.calm=af)(hg:Gl X x) (hdb:(x==k74)=ae) (hs:ai [e] X.env=[(ae,aB e X.env)]),Tr X e' (.e e)->Ts X (.raise x e') (.s (.Raise (aa (.Call (.Name x np) [e] [] cpos)) ah pos)):=by
 intro _ _ _ _ _ _ _ hq hg hdb hs he;refine⟨λfu Γ G=>?_⟩;intro c g ρ P h;rw[jcf]at h;unfold j6l at h;split at h
 .rename_i r d er eg;obtain⟨hx,o,ho⟩:=c.ec _ _ eg;exact DS.raiseE c.ea hx ho (W.mg_of c.kin c.ns ho) c.kin hq (λσ H R=>(sound he c g ρ r er).toT σ H _ R λv H' g' _=>g') (h ρ rfl) hg hdb hs
 .exact h.elim
section
theorem Yp{fu:Nat}{Γ:ao->List D->Rc}{G:ao->Option D}{X:Cx}{t:Sx}{nd:Ns}(h:Ts X t nd):Cok X G->Gok X Γ->j9q fu Γ G X t nd:=h.m fu Γ G
end
section
variable{X:Cx}{pi i:Nat}{x y f:ao}{c' e' m' es':Ex}{c e m cl:au}{es:List au}{r b:Px}{st:aQ}{sa rest:List aQ}{p py p1 p2 p3 p4 p5 pos:aR}{ρ:Rho}{o:Ob}
theorem Vq{s:Sl}(h:∃ob,ρ[pi]?=aa (.raw o.a ob rfN))(hip:i≠pi):∃ob,(ρ.set i s)[pi]?=aa (.raw o.a ob rfN):=let ⟨ob,h⟩:=h;⟨ob,by rw[zm hip];exact h⟩
theorem MP.nop:MP X pi .nop []:=λfu Γ G c g C hC T o ls ρ k P hp h=>MSs.nil (h ρ rfl hp)
theorem MP.set(hip:i≠pi)(hi:X.N[i]?=aa x)(hx:Loc X.env.scope x)(hs:aL e (aa (.Name x p)) pos.line X.env=pure ae)(hf:X.fn x=af\/X.env.scope.names.lookup x=aa .local)(he:Tr X e' (.e e))(hr:MP X pi r rest) :
  MP X pi (.set i e' r) (.Assign [.Name x p] e pos::rest):=λfu Γ G c g C hC T o ls ρ k P hp h=>by
 rw[jc]at h;unfold j17 at h;split at h
 .rename_i l el;refine MSs.plain (N:=λρ1=>∃a,ρ1=ρ.set i (.own a l)) (DS.setO i (sound he c g ρ (.o l) el) (λa=>⟨a,rfl⟩) c.nd hi hx hs hf) λρ1 ⟨a,e1⟩=>?_;subst e1;exact hr fu Γ G c g C hC T o ls _ k P (Vq hp hip) (by rw[jk];exact h)
 .rename_i w x' hn el;split at h
  .rename_i d ed;refine MSs.plain (N:=(· = ρ.set i (.val d))) (DS.set i ((sound he c g ρ x' el).toE ed) rfl c.nd hi hx hs hf) λρ1 e1=>?_;subst e1;exact hr fu Γ G c g C hC T o ls _ k P (Vq hp hip) (by rw[jk];exact h)
  .exact h.elim
 .exact h.elim
theorem MP.ret_ms{Γ:ao->List D->Rc}{G:ao->Option D}{C:ak}{ls:List ao}{k:Nat}{P:Pm}(he:Tr X e' (.e e))(c:Cok X G)(g:Gok X Γ)(h:Za pi o (Bk (ev Γ G e' (j7 ρ)) k) P):MSs X C o ls ρ k (.Return (aa e) pos::rest) P:=by
 unfold Bk at h;split at h
 .exact h.elim
 .rename_i w x' hn el;exact MSs.plain (N:=λ_=>False) (DS.ret (sound he c g ρ x' el).toT ⟨_,rfl,h⟩) λ_ z=>z.elim
 .exact h.elim
theorem MP.ret(he:Tr X e' (.e e)):MP X pi (.ret e') (.Return (aa e) pos::rest):=λfu Γ G c g C hC T o ls ρ k P hp h=>by rw[jc]at h;exact MP.ret_ms (pi:=pi) he c g h
theorem MP.rai_ms {Γ:ao->List D->Rc} {G:ao->Option D} {C:ak} {ls:List ao} {k:Nat} {P:Pm} {np cpos:aR} (hq:X.calm=af) (hg:Gl X x) (hdb:(x==k74)=ae) (hs:ai [m] X.env=[(ae,aB m X.env)]) (he:Tr X m' (.e m)) (c:Cok X G) (g:Gok X Γ)
  (h:Za pi o (U9 x (ev Γ G m' (j7 ρ)) (G (bang x)) (j7 ρ)) P):MSs X C o ls ρ k (.Raise (aa (.Call (.Name x np) [m] [] cpos)) ah pos::rest) P:=by
 unfold U9 at h;split at h
 .rename_i r d er eg;obtain⟨hx,o,ho⟩:=c.ec _ _ eg;exact MSs.plain (N:=λ_=>False) (DS.raiseE c.ea hx ho (W.mg_of c.kin c.ns ho) c.kin hq (λσ H R=>(sound he c g ρ r er).toT σ H _ R λv H' g' _=>g') (h ρ rfl) hg hdb hs) λ_ z=>z.elim
 .exact h.elim
theorem j3c{x:ao}{w:Option W}{d:Option D}{ρ:En}{P:Pm}(h:Za pi o (U9 x w d ρ) P):Za pi o (U9 x w d ρ) { P with nx:=λ_ _=>False }:=by
 unfold U9 at h ⊢;split at h
 .exact h
 .exact h
theorem MP.ifRai {np cpos:aR} (hq:X.calm=af) (hg:Gl X x) (hdb:(x==k74)=ae) (hs:ai [m] X.env=[(ae,aB m X.env)]) (hc:Tr X c' (.b c)) (he:Tr X m' (.e m)) (hr:MP X pi r rest) :
  MP X pi (.ifRai c' x m' r) (.If c [.Raise (aa (.Call (.Name x np) [m] [] cpos)) ah p] [] pos::rest):=λfu Γ G cc g C hC T o ls ρ k P hp h=>by
 rw[jc]at h;unfold ifP at h;split at h
 .rename_i et;exact MSs.ife (sound hc cc g ρ af et) (λ_=>MP.rai_ms (pi:=pi) hq hg hdb hs he cc g (j3c h)) λz=>by cases z
 .rename_i et;exact MSs.ife (sound hc cc g ρ ae et) (λz=>by cases z) λ_=>hr fu Γ G cc g C hC T o ls ρ k P hp h
 .exact h.elim
theorem MP.ifAll {np cpos:aR} (hq:X.calm=af) (hg:Gl X x) (hdb:(x==k74)=ae) (hs:ai [m] X.env=[(ae,aB m X.env)]) (hpN:X.N[pi]?=aa y) (hv:Vis X.env.scope y) (hd:(y==k74)=ae) (hcd:(y==k75)=ae) (mc:Qa X (.Name y py) "all_taken" p1 p2)
  (ht:∀whole,eX (.Call (.Attribute (.Name y py) "all_taken" p1) [] [] p2) X.env whole=(do let v <-whole;eB (Expr.Call (.Attribute (.Name y py) "all_taken" p1) [] [] p2).pos;bN [v] (jM v))) (he:Tr X m' (.e m)) (hr:MP X pi r rest) :
  MP X pi (.ifAll x m' r) (.If (.UnaryOp .Not (.Call (.Attribute (.Name y py) "all_taken" p1) [] [] p2) p3) [.Raise (aa (.Call (.Name x np) [m] [] cpos)) ah p] [] pos::rest):=λfu Γ G cc g C hC T o ls ρ k P hp h=>by
 rw[jc]at h;obtain⟨ob,hp'⟩:=hp;refine MSs.ifAll T hp' hpN hv hd hcd mc ht (λz=>?_) λz=>?_
 .rw[if_neg z]at h;exact MP.rai_ms (pi:=pi) hq hg hdb hs he cc g (j3c h)
 .rw[if_pos z]at h;exact hr fu Γ G cc g C hC T o ls ρ k P ⟨ob,hp'⟩ h
theorem MP.take (hip:i≠pi) (hpN:X.N[pi]?=aa y) (hv:Vis X.env.scope y) (hd:(y==k74)=ae) (hcd:(y==k75)=ae) (mc:Qa X (.Name y py) "taken" p1 p2)
  (hi:X.N[i]?=aa x) (hx:Loc X.env.scope x) (hs:aL (.Call (.Attribute (.Name y py) "taken" p1) [] [] p2) (aa (.Name x p)) pos.line X.env=pure ae) (hf:X.fn x=af\/X.env.scope.names.lookup x=aa .local) (hr:MP X pi r rest) :
  MP X pi (.take i r) (.Assign [.Name x p] (.Call (.Attribute (.Name y py) "taken" p1) [] [] p2) pos::rest):=λfu Γ G cc g C hC T o ls ρ k P hp h=>by
 rw[jc]at h;obtain⟨ob,hp'⟩:=id hp;exact MSs.take T hp' hpN hv hd hcd mc cc.nd hi hx hs hf (hr fu Γ G cc g C hC T o ls _ (k+1) P (Vq hp hip) (by rw[jk];exact h))
theorem MP.takeE (hpN:X.N[pi]?=aa y) (hv:Vis X.env.scope y) (hd:(y==k74)=ae) (hcd:(y==k75)=ae) (mc:Qa X (.Name y py) "taken" p1 p2)
  (hs:aL (.Call (.Attribute (.Name y py) "taken" p1) [] [] p2) ah pos.line X.env=pure ae) (hr:MP X pi r rest) :
  MP X pi (.takeE r) (.Expr (.Call (.Attribute (.Name y py) "taken" p1) [] [] p2) pos::rest):=λfu Γ G cc g C hC T o ls ρ k P hp h=>by
 rw[jc]at h;obtain⟨ob,hp'⟩:=id hp;exact MSs.takeE T hp' hpN hv hd hcd mc hs (hr fu Γ G cc g C hC T o ls _ (k+1) P hp h)
theorem MP.takeIf (hip:i≠pi) (hpN:X.N[pi]?=aa y) (hv:Vis X.env.scope y) (hd:(y==k74)=ae) (hcd:(y==k75)=ae) (mc:Qa X (.Name y py) "taken" p1 p2)
  (hi:X.N[i]?=aa x) (hx:Loc X.env.scope x) (hs:aL (.IfExp c (.Call (.Attribute (.Name y py) "taken" p1) [] [] p2) e p3) (aa (.Name x p)) pos.line X.env=pure ae) (hf:X.fn x=af\/X.env.scope.names.lookup x=aa .local)
  (hc:Tr X c' (.b c)) (he:Tr X e' (.e e)) (hr:MP X pi r rest) :
  MP X pi (.takeIf i c' e' r) (.Assign [.Name x p] (.IfExp c (.Call (.Attribute (.Name y py) "taken" p1) [] [] p2) e p3) pos::rest):=λfu Γ G cc g C hC T o ls ρ k P hp h=>by
 rw[jc]at h;obtain⟨ob,hp'⟩:=id hp;unfold ifP at h;split at h
 .rename_i et;exact MSs.takeIf (d:=.non) T hp' hpN hv hd hcd mc cc.nd hi hx hs hf (sound hc cc g ρ af et) (λz=>by cases z) (λ_=>hr fu Γ G cc g C hC T o ls _ (k+1) P (Vq hp hip) (by rw[jk];exact h)) λz=>by cases z
 .rename_i et;unfold j0x at h;split at h
  .rename_i d ed;obtain⟨z,ez,ed⟩:=ja3 ed;exact MSs.takeIf (d:=d) T hp' hpN hv hd hcd mc cc.nd hi hx hs hf (sound hc cc g ρ ae et) (λ_=>(sound he cc g ρ z ez).toE ed) (λz=>by cases z) λ_=>hr fu Γ G cc g C hC T o ls _ k P (Vq hp hip) (by rw[jk];exact h)
  .exact h.elim
 .exact h.elim
theorem Wo {Γ:ao->List D->Rc} {G:ao->Option D} {C:ak} {ls:List ao} {k:Nat} {P:Pm} {F:D->Nat->Sm} (cc:Cok X G) (g:Gok X Γ) (hC:X.mg "Pieces" = aa (.ref C)) (ha:Tr X es' (.a es)) (h:Za pi o (Up G (Vh Γ ls f (ev Γ G es' (j7 ρ)) k) (j7 ρ) F) P) :
  (∃ds d k',DA X ρ es ds/\(CalM X f C λls2 k2 ds2 d2 k2'=>ls2=ls/\k2=k/\ds2=ds/\d2=d/\k2'=k')/\Za pi o (F d k') P) \/
  (∃ds z V,DTA X ρ es ds/\(CalMX X f C λls2 k2 ds2 x2=>ls2=ls/\k2=k/\ds2=ds/\x2=z)/\X.mg z=aa V/\P.ex z ρ):=by
 unfold Vh at h;split at h
 .rename_i rs ers;split at h
  .rename_i ds eds;have A:=sound ha cc g ρ rs ers;have q:=g (mq f) (.lst (ls.map D.str)::.int (k:Int)::ds);unfold Up at h;split at h
   .rename_i d k' z;rw[z]at q;exact .inl ⟨ds,d,k',A.toA eds,q f ls k ds rfl rfl C hC,h⟩
   .rename_i z ez;split at h
    .rename_i hz;rw[ez]at q;obtain⟨d,hd⟩:=Xm.mp hz;obtain⟨hx,V,hV⟩:=cc.ec _ _ hd;exact .inr ⟨ds,z,V,(A.toA eds).toT,q f ls k ds rfl rfl C hC,W.mg_of cc.kin cc.ns hV,h ρ rfl⟩
    .exact h.elim
   .exact h.elim
  .exact h.elim
 .exact h.elim
theorem MP.callS(hip:i≠pi)(mm:MC X pi f es cl)(hi:X.N[i]?=aa x)(hx:Loc X.env.scope x)(hs:aL cl (aa (.Name x p)) pos.line X.env=pure ae)(hf:X.fn x=af\/X.env.scope.names.lookup x=aa .local)(ha:Tr X es' (.a es))(hr:MP X pi r rest) :
  MP X pi (.callS i f es' r) (.Assign [.Name x p] cl pos::rest):=λfu Γ G cc g C hC T o ls ρ k P hp h=>by
 rw[jc]at h;obtain⟨ob,hp'⟩:=id hp;rcases Wo cc g hC ha h with ⟨ds,d,k',A,cm,h⟩|⟨ds,z,V,A,cm,hV,h⟩
 .exact MSs.callS cm mm hp' A ⟨rfl,rfl,rfl,rfl,rfl⟩ cc.nd hi hx hs hf (hr fu Γ G cc g C hC T o ls _ k' P (Vq hp hip) (by rw[jk];exact h))
 .exact MSs.callSX cm mm hp' A ⟨rfl,rfl,rfl,rfl⟩ hV cc.nd hi hx hs hf h
theorem MP.ifCal(mm:MC X pi f es cl)(hc:Tr X c' (.b c))(ha:Tr X es' (.a es))(hr:MP X pi r rest):MP X pi (.ifCal c' f es' r) (.If c [.Return (aa cl) p] [] pos::rest):=λfu Γ G cc g C hC T o ls ρ k P hp h=>by
 rw[jc]at h;obtain⟨ob,hp'⟩:=id hp;unfold ifP at h;split at h
 .rename_i et;refine MSs.ife (sound hc cc g ρ af et) (λ_=>?_) λz=>by cases z
  rcases Wo cc g hC ha h with ⟨ds,d,k',A,cm,h⟩|⟨ds,z,V,A,cm,hV,h⟩
  .exact MSs.retC cm mm hp' A ⟨rfl,rfl,rfl,rfl,rfl⟩ h
  .exact MSs.retCX cm mm hp' A ⟨rfl,rfl,rfl,rfl⟩ hV h
 .rename_i et;exact MSs.ife (sound hc cc g ρ ae et) (λz=>by cases z) λ_=>hr fu Γ G cc g C hC T o ls ρ k P hp h
 .exact h.elim
theorem MP.appC (hip:i≠pi) (mm:MC X pi f es cl) (hN:X.N[i]?=aa x) (hv:Vis X.env.scope x) (hd:(x==k74)=ae) (hcd:(x==k75)=ae)
  (hst:ai [cl] X.env=[(ae,aB cl X.env)]) (hline:(p1.endLine==p2.line)=af) (hbase:aU (.Name x p) "append" X.env (aB (.Name x p) X.env)=aB (.Name x p) X.env)
  (hfew:((aP p2 (ai [cl] X.env)).all (λx=>!x.1)&&(bP p2 (b7 [] X.env)).all (λx=>x.1.isSome)&&decide (([cl]:List au).length+([]:List b0).length+(if ([]:List b0).isEmpty then 0 else 1)<30))=af)
  (hs:aL (.Call (.Attribute (.Name x p) "append" p1) [cl] [] p2) ah pos.line X.env=pure ae) (ha:Tr X es' (.a es)) (hr:MP X pi r rest) :
  MP X pi (.appC i f es' r) (.Expr (.Call (.Attribute (.Name x p) "append" p1) [cl] [] p2) pos::rest):=λfu Γ G cc g C hC T o ls ρ k P hp h=>by
 rw[jc]at h;obtain⟨ob,hp'⟩:=id hp;unfold j1h at h;split at h
 .rename_i l el;obtain⟨a,q⟩:=vo el;rcases Wo cc g hC ha h with ⟨ds,d,k',A,cm,h⟩|⟨ds,z,V,A,cm,hV,h⟩
  .unfold j2e at h;rw[el]at h;dsimp only at h;split at h
   .rename_i hl;exact MSs.appC (p3:=p) cm mm hp' A ⟨rfl,rfl,rfl,rfl,rfl⟩ q hl hN hv hd hcd hst hline hbase hfew hs (hr fu Γ G cc g C hC T o ls _ k' P (Vq hp hip) (by rw[jk];exact h))
   .exact h.elim
  .exact MSs.appCX cm mm hp' A ⟨rfl,rfl,rfl,rfl⟩ hV q hN hv hd hcd hst hline hbase hfew hs h
 .exact h.elim
theorem MP.whlA {z:ao} {n:Nat} {body:List aQ} (hpN:X.N[pi]?=aa y) (hv:Vis X.env.scope y) (hd:(y==k74)=ae) (hcd:(y==k75)=ae) (mc:Qa X (.Name y py) "ahead" p1 p2)
  (hb:MP X pi b body) (hr:MP X pi r rest) :
  MP X pi (.whlA z b r) (.While (.Compare (.Call (.Attribute (.Name y py) "ahead" p1) [] [] p2) [.NotEq] [.Constant (.str z) n p3] p4) body [] pos::rest):=λfu Γ G cc g C hC T o ls ρ k P hp h=>by
 rw[jc]at h;refine MSs.whl T (λm ρ' k'=>(∃ob,ρ'[pi]?=aa (.raw o.a ob rfN))/\Za pi o (Qz (λρ k=>jc fu Γ G ls b ρ k) (λρ k=>jc fu Γ G ls r ρ k) z ls m (j7 ρ') k') P) fu ⟨hp,h⟩ cc.po hpN hv hd hcd mc λm ρ' k' ⟨hp',w⟩=>⟨hp',λhz=>?_,λhz=>?_⟩
 .cases m with
  |zero=>exact w.elim
  |succ m =>
   unfold Qz at w;rw[if_neg hz]at w;refine hb fu Γ G cc g C hC T o ls ρ' k' _ hp' ?_;cases e:jc fu Γ G ls b (j7 ρ') k' with
   |next ρ2 k2=>rw[e]at w;exact λρ3 e3 hp3=>⟨m,Pz m,hp3,by rw[e3];exact w⟩
   |ret d k2=>rw[e]at w;exact w
   |err x ρ2=>rw[e]at w;exact w
   |no=>rw[e]at w;exact w
 .cases m with
  |zero=>exact w.elim
  |succ m =>unfold Qz at w;rw[if_pos hz]at w;exact hr fu Γ G cc g C hC T o ls ρ' k' P hp' w
end
structure Fi where
 n:Nat
 nn:Nat
 body:Sx
 lam:Bool
noncomputable def jej:Rc->Rc
 |.val d=>.lval d
 |_=>.no
noncomputable def fin:So->Rc
 |.ret r=>r
 |.next _=>.val .non
 |.err x _=>.err x
 |_=>.no
noncomputable def enter(F:Fi)(ds:List D):En:=ds.map Sv.val++az (F.nn-F.n) Sv.un
noncomputable def evP(fu:Nat)(G:ao->Option D)(T:ao->Option Fi):Nat->ao->List D->Rc
 |0,_,_=>.no
 |n+1,f,ds=>match T f with
  |none=>.no
  |some F=>if ds.length=F.n then(if F.lam=af then jej (fin (run fu (evP fu G T n) G F.body (enter F ds)))else fin (run fu (evP fu G T n) G F.body (enter F ds)))else .no
structure Lk(P:ay)(w:aD)(K:k70)(mg:k73)(base:aG)(x:ao)(F:Fi):Prop where
 ex:∃(st:aQ)(f:ak)(fd:aM)(N ps:List ao),Fun K x x st f fd/\FnScope N ps (j0 st)/\ps.length=F.n/\N.length=F.nn/\Binds K fd ps []/\Dfl K x fd ps/\mg x=aa (.ref f) /\
  ∀(cdv:aj)(A:aF)(outer:List du)(s:aq)(H:Hp)(E:XK)(xe:k71),Ts ((qt CX0 P w K mg base N x (j0 st) f cdv A outer s H E).wish xe) F.body (.ss (je st))
structure LkL(P:ay)(w:aD)(K:k70)(mg:k73)(base:aG)(x:ao)(F:Fi):Prop where
 ex:∃(tx:Tx)(N ps:List ao)(e:Ex),j1x K x=aa tx/\LamScope N ps tx.2.2/\N.length=F.n/\F.nn=F.n/\F.body=.ret e /\
  (∀(cl:List (ao×ak)) (pm:aj) (c:ak) (ctv:aj) (us:List aj),us.length=ps.length->cX (W.kla_fn "<lambda>" (za x) tx.1 tx.2.1 tx.2.2 cl pm (.ref c) ctv) ⟨us,[]⟩=pure (ps.zip us)) /\
  ∀(a c:ak)(cl:List (ao×ak)) (A:aF) (outer:List du) (s:aq) (H:Hp),Tr (Yg P w K mg base N (za x) tx.2.2 a (.ref c) cl A outer s H) e (.e tx.2.1)
def Mv(P:ay)(w:aD)(K:k70)(mg:k73)(base:aG)(C:ak):Prop:=∃(fA fT fL fI:ak)(dA dT dL dI:aM),PcT K mg C fA fT fL fI/\(FnOk P w K mg base CX0 1 fA dA ["self"] (Wu C)/\Binds K dA ["self"] []) /\
  (FnOk P w K mg base CX0 2 fT dT ["self"] (Bg C)/\Binds K dT ["self"] [])/\(FnOk P w K mg base CX0 1 fL dL ["self"] (j15 C)/\Binds K dL ["self"] [])/\(FnOk P w K mg base CX0 1 fI dI ["self","text"] (Bh C)/\Binds K dI ["self","text"] [])
structure LkP(P:ay)(w:aD)(K:k70)(mg:k73)(base:aG)(x:ao)(F:Fi):Prop where
 ex:∃(g:ao)(p:Px)(st:aQ)(f:ak)(fd:aM)(N ps:List ao),x=mq g/\F.body=.px p/\Fun K g g st f fd/\FnScope N ps (j0 st)/\ps.length+1=F.n/\N.length+1=F.nn/\0<ps.length/\ps.length<=N.length/\Binds K fd ps []/\mg g=aa (.ref f)/\(∃C,mg "Pieces" = aa (.ref C)/\Mv P w K mg base C) /\
  ∀(cdv:aj)(A:aF)(outer:List du)(s:aq)(H:Hp)(E:XK)(xe:k71),MP ((qt CX0 P w K mg base N g (j0 st) f cdv A outer s H E).wish xe) 0 p (je st)
def LkF(P:ay)(w:aD)(K:k70)(mg:k73)(base:aG)(f:ao)(F:Fi):Prop:=(F.lam=ae->(Lk P w K mg base f F/\f.cps.toList.getLast?≠aa 62/\f.cps.toList.head?≠aa 64)\/LkP P w K mg base f F)/\(F.lam=af->∃x,f=za x/\LkL P w K mg base x F)
def j5d(P:ay)(w:aD)(K:k70)(mg:k73)(base:aG):Prop:=∃(f:ak)(fd:aM)(ps:List ao),FnOk P w K mg base CX0 11 f fd ps (jcv K j8z)/\mg "_law_plan" = aa (.ref f)/\W.keepIn K (.ref f)=af/\Binds K fd ps []/\Dfl K "_law_plan" fd ps
structure Tb(P:ay)(w:aD)(K:k70)(mg:k73)(base:aG)(G:ao->Option D):Prop where
 bt:∀x∈V5,mg x=ah
 gl:∀x d,V3 x=ae->G x=aa d->∃u v,mg x=aa u/\RelV v u/\∀H,Enc K H d v
 ea:R9 K=af
 ec:∀x d,G (bang x)=aa d->x∈J0/\∃o,W.nsIn K aw x=aa (aa o)
 el:G "?" = aa (.bl af)->∀c∈J0,∃v,W.nsIn K aw c=aa (aa v)
 kin:K.In base
 ns:base.Ns aw mg
 kd:∀x l,G (bang x)=aa (.lst l)->KindsP P w K mg base "_law_kinds" x l
 fn:∀f d,G (qm f)=aa d->∃fa,mg f=aa (.ref fa)/\W.keepIn K (.ref fa)=af
 pl:∀d,G (qm "_law_plan")=aa d->j5d P w K mg base
 pc:∀d,G (qm "Pieces")=aa d->∃C,mg "Pieces" = aa (.ref C)/\Mv P w K mg base C
 lm:∀x∈V7,∀f cdv,mg x=aa (.ref f)->Yl K f cdv->∃c Pt,cdv=.ref c/\W.codeHdIn K c Pt=af/\W.tabIn K x=aa (c,Pt)
structure LkH(P:ay)(w:aD)(K:k70)(mg:k73)(base:aG)(x:ao)(F:Fi):Prop where
 ex:∃(st:aQ)(f:ak)(fd:aM)(N:List ao)(p:ao),Fun K x x st f fd/\FnScope N [p] (j0 st)/\1<=N.length/\N.length=F.nn/\Binds K fd [p] []/\mg x=aa (.ref f) /\
  ∀(cdv:aj)(A:aF)(outer:List du)(s:aq)(H:Hp),Ts { (qt CX0 P w K mg base N x (j0 st) f cdv A outer s H E0).nox with calm:=ae } F.body (.ss (je st))
section
variable{P:ay}{w:aD}{K:k70}{mg:k73}{base:aG}{fu:Nat}{G:ao->Option D}{T:ao->Option Fi}
theorem Uv{N:List ao}{ds:List D}{F:Fi}(h1:ds.length=F.n)(h2:N.length=F.nn):j7 (qb N ds)=enter F ds:=by unfold j7 qb enter;rw[Xz,Xa,iy,h1,h2];rfl
theorem Wq(y:ao):(bang y).cps.toList.head?=aa 33:=by unfold bang;show(("!":ao).cps++y.cps).toList.head?=aa 33;rw[cA];rfl
theorem j0a(y:ao):(mq y).cps.toList.head?=aa 64:=by unfold mq;show(("@":ao).cps++y.cps).toList.head?=aa 64;rw[cA];rfl
theorem je7{x y:ao}(h:mq x=mq y):x=y:=by unfold mq at h;have h:(⟨("@":ao).cps++x.cps⟩:ao)=⟨("@":ao).cps++y.cps⟩:=h;have h:=congrArg iQ h;have e:x.cps=y.cps:=dZ h rfl;cases x;cases y;cases e;rfl
theorem j06:∀ls:List ao,strsOf (ls.map D.str)=aa ls
 |[]=>rfl
 |_::l=>by rw[X4,strsOf,j06 l];rfl
theorem Ez{N:List ao}{a:ak}{ds:List D}{F:Fi}{ls:List D}{k:Int}(h1:ds.length+2=F.n)(h2:N.length+1=F.nn):j7 (startM N a ds)=.exc rfN::(enter F (.lst ls::.int k::ds)).drop 2:=by
 have e:N.length-(ds.length+1)=F.nn-F.n:=by omega
 unfold startM;rw[jk];unfold j7 qb enter;rw[Xz,Xa,iy];simp only[X4,tu,cH,cC,cn,xr,e];rfl
theorem jc9 (y:ao):bang y ≠ "?":=λh=>by have:=Wq y;rw[h]at this;exact absurd this (by decide)
theorem j07(y:ao):(qm y).cps.toList.head?=aa 63:=by unfold qm;show(("??":ao).cps++y.cps).toList.head?=aa 63;rw[cA];rfl
theorem jhh (y:ao):qm y ≠ "?":=λh=>by
 have e:((qm y).cps.toList.drop 1).head?=aa 63:=by unfold qm;show((("??":ao).cps++y.cps).toList.drop 1).head?=aa 63;rw[cA];rfl
 rw[h]at e;exact absurd e (by decide)
theorem jdg{x y:ao}(h:qm x=qm y):x=y:=by unfold qm at h;have h:(⟨("??":ao).cps++x.cps⟩:ao)=⟨("??":ao).cps++y.cps⟩:=h;have h:=congrArg iQ h;have e:x.cps=y.cps:=dZ h rfl;cases x;cases y;cases e;rfl
theorem j0u(x y:ao):bang x≠qm y:=λh=>by have:=Wq x;rw[h,j07]at this;exact absurd this (by decide)
theorem Rj{x y z:ao}(h:x++z=y++z):x=y:=by have h:(⟨x.cps++z.cps⟩:ao)=⟨y.cps++z.cps⟩:=h;have h:=congrArg iQ h;have e:x.cps=y.cps:=Array.append_inj_left' h rfl;cases x;cases y;cases e;rfl
theorem j77{x y:ao}(h:za x=za y):x=y:=Rj (Rj h)
theorem Fv(x:ao):(za x).cps.toList.getLast?=aa 62:=by unfold za;show(((x ++ ".<locals>.").cps)++("<lambda>":ao).cps).toList.getLast?=aa 62;rw[cA,List.getLast?_append];rfl
theorem j1w(x:ao):za x∉V7:=λh=>by
 have e:=Fv x
 revert e
 unfold V7 at h;rcases xn.mp h with h|h
 .rw[h];decide
 rcases xn.mp h with h|h
 .rw[h];decide
 rcases xn.mp h with h|h
 .rw[h];decide
 .rw[X3.mp h];decide
theorem jd9{fu:Nat}{Γ:ao->List D->Rc}{G:ao->Option D}{e:Ex}{ρ:En}{d:D}(h:fin (run fu Γ G (.ret e) ρ)=.val d):∃r,ev Γ G e ρ=aa (.v r)/\r.d=d:=by
 rw[j9p]at h;cases z:ev Γ G e ρ with
 |none=>rw[z]at h;cases y:er Γ G e ρ<;>(rw[y]at h;cases h)
 |some w =>
  cases w with
  |v r =>
   rw[z]at h;cases r with
   |o l=>cases h
   |e d=>cases h;exact⟨_,rfl,rfl⟩
   |w l=>cases h;exact⟨_,rfl,rfl⟩
   |t d=>cases h;exact⟨_,rfl,rfl⟩
  |a l=>rw[z]at h;cases y:er Γ G e ρ<;>(rw[y]at h;cases h)
  |i l=>rw[z]at h;cases y:er Γ G e ρ<;>(rw[y]at h;cases h)
theorem j1g{C:ak}(h:Mv P w K mg base C){X:Cx}{n:Nat}(h1:X.prog=P)(h2:X.w=w)(h3:X.K=K)(h4:X.mg=mg)(h5:X.base=base)(hn:12<=n)(hr:Room n X.A):PcX X C:=by subst h1 h2 h3 h4 h5;obtain⟨fA,fT,fL,fI,dA,dT,dL,dI,a,b,c,d,e⟩:=h;exact⟨fA,fT,fL,fI,dA,dT,dL,dI,a,b,c,d,e,hr.mono nofun⟩
theorem Z7 (t:Tb P w K mg base G) {X:Cx} {n:Nat} (h1:X.prog=P) (h2:X.w=w) (h3:X.K=K) (h4:X.mg=mg) (h5:X.base=base) (hn:12<=n) (hr:Room n X.A) (nd:X.N.Nodup) (po:fv (aA X.prog X.w) X.A X.env X.xe) (hlm:∀x∈V7,X.env.qual=x ++ ".<locals>."->∃c P,X.env.code=.ref c/\W.codeHdIn K c P=af/\W.tabIn K x=aa (c,P)):Cok X G:=by subst h1 h2 h3 h4 h5;exact⟨by have:=hr.un;omega,(λ_=>by have:=hr.un;omega),(λ_=>by have:=hr.dp;omega),t.bt,t.gl,nd,po,t.ea,t.ec,t.el,t.kin,t.ns,t.kd,t.fn,λd e=>let ⟨f,fd,ps,F,h1,h2,h3,h4⟩:=t.pl d e;⟨11,f,fd,ps,F,hr.mono hn,h1,h2,h3,h4⟩,λd e=>let ⟨C,h1,h2⟩:=t.pc d e;⟨C,h1,j1g h2 rfl rfl rfl rfl rfl hn hr⟩,hlm⟩
theorem Yc (t:Tb P w K mg base G) {g:ao} {f:ak} {cdv:aj} {env:du} (hm:mg g=aa (.ref f)) (hcv:Yl K f cdv) (hq:env.qual=g ++ ".<locals>.") (hc:env.code=cdv):∀x∈V7,env.qual=x ++ ".<locals>."->∃c P,env.code=.ref c/\W.codeHdIn K c P=af/\W.tabIn K x=aa (c,P):=λx hx e=>by have eg:=Rj (hq.symm.trans e);subst eg;rw[hc];exact t.lm _ hx f cdv hm hcv
noncomputable def lv:Nat->Nat
 |0=>12
 |n+1=>lv n+2
theorem Qn:∀n,12<=lv n+1
 |0=>by decide
 |n+1=>by have:=Qn n;unfold lv;omega
theorem O7(hT:∀x F,T x=aa F->LkF P w K mg base x F)(t:Tb P w K mg base G):∀(n:Nat)(x:ao)(ds:List D),
  ∃(f:ak)(fd:aM)(ps:List ao),match evP fu G T n x ds with
   |.val d=>FnOk P w K mg base CX0 (lv n) f fd ps (spP K λds' d'=>ds'=ds/\d'=d)/\mg x=aa (.ref f)/\W.keepIn K (.ref f)=af/\Binds K fd ps []/\Dfl K x fd ps
   |.fresh l=>FnOk P w K mg base CX0 (lv n) f fd ps (spF K λds' l'=>ds'=ds/\l'=l)/\mg x=aa (.ref f)/\W.keepIn K (.ref f)=af/\Binds K fd ps []/\Dfl K x fd ps
   |.err y=>FnOk P w K mg base (CX1 P w) (lv n) f fd ps (spX K mg λds' z=>ds'=ds/\z=y)/\mg x=aa (.ref f)/\W.keepIn K (.ref f)=af/\Binds K fd ps []
   |.lval d=>∀y,x=za y->j2i P w K mg base (lv n) y λds' d'=>ds'=ds/\d'=d
   |.mval d k'=>∀g ls (k:Nat) ds',x=mq g->ds=.lst (ls.map D.str)::.int (k:Int)::ds'->∀C,mg "Pieces" = aa (.ref C)->FnOk P w K mg base CX0 (lv n) f fd ps (spM K C λls2 k2 ds2 d2 k2'=>ls2=ls/\k2=k/\ds2=ds'/\d2=d/\k2'=k')/\mg g=aa (.ref f)/\W.keepIn K (.ref f)=af/\Binds K fd ps []
   |.merr y=>∀g ls (k:Nat) ds',x=mq g->ds=.lst (ls.map D.str)::.int (k:Int)::ds'->∀C,mg "Pieces" = aa (.ref C)->FnOk P w K mg base (CX1 P w) (lv n) f fd ps (j14 K mg C λls2 k2 ds2 x2=>ls2=ls/\k2=k/\ds2=ds'/\x2=y)/\mg g=aa (.ref f)/\W.keepIn K (.ref f)=af/\Binds K fd ps []
   |.no=>True
 |0,x,ds=>⟨0,W.fnOf x x { posonlyargs:=[],args:=[],vararg:=ah,kwonlyargs:=[],kw_defaults:=[],kwarg:=ah,defaults:=[] } [] { kind:=.function,names:=[],isGenerator:=ae,isCoroutine:=ae } .none .none .none .none ah .none .none,[],trivial⟩
 |n+1,x,ds=>by
  have ih:=O7 hT t n;cases hF:T x with
  |none =>
   obtain⟨f,fd,ps,_⟩:=ih x ds;refine⟨f,fd,ps,?_⟩;have e:evP fu G T (n+1) x ds=.no:=by simp only[evP,hF]
   rw[e];trivial
  |some F =>
   have gok:∀{X:Cx},X.prog=P->X.w=w->X.K=K->X.mg=mg->X.base=base->Room (lv n+1) X.A->Gok X (evP fu G T n):=λ{X} h1 h2 h3 h4 h5 hr g ds'=>by
    subst h1 h2 h3 h4 h5;obtain⟨f',fd',ps',q⟩:=ih g ds';cases z:evP fu G T n g ds' with
    |val d=>rw[z]at q;exact⟨lv n,f',fd',ps',q.1,hr,q.2.1,q.2.2.1,q.2.2.2⟩
    |fresh l=>rw[z]at q;exact⟨lv n,f',fd',ps',q.1,hr,q.2.1,q.2.2.1,q.2.2.2⟩
    |err y=>rw[z]at q;exact⟨lv n,f',fd',ps',q.1,hr.mono (Xv _),q.2.1,q.2.2.1,q.2.2.2⟩
    |lval d=>rw[z]at q;exact λy hy=>⟨lv n,hr.mono (Xv _),q y hy⟩
    |mval d k=>rw[z]at q;exact λg' ls k ds'' h1 h2 C h3=>let ⟨a,b⟩:=q g' ls k ds'' h1 h2 C h3;⟨⟨lv n,f',fd',ps',a,hr.mono (Xv _),b⟩⟩
    |merr y=>rw[z]at q;exact λg' ls k ds'' h1 h2 C h3=>let ⟨a,b⟩:=q g' ls k ds'' h1 h2 C h3;⟨⟨lv n,f',fd',ps',a,hr.mono (Xv _),b⟩⟩
    |no=>trivial
   cases hlam:F.lam with
   |true =>
    obtain⟨f,fd,ps,_⟩:=ih x ds;refine⟨f,fd,ps,?_⟩;by_cases hl:ds.length=F.n
    .have e:evP fu G T (n+1) x ds=jej (fin (run fu (evP fu G T n) G F.body (enter F ds))):=by simp only[evP,hF,if_pos hl,hlam,if_true]
     rw[e];obtain⟨y,ey,L⟩:=(hT x F hF).2 hlam;obtain⟨tx,N,ps,ex,htx,hsc,hN,hnn,hbd,hba,htr⟩:=L.ex;cases ho:fin (run fu (evP fu G T n) G F.body (enter F ds)) with
     |val d =>intro y' hy';have eyy:y=y':=j77 (ey.symm.trans hy');subst eyy;refine jeh (k:=lv n+1) htx hsc (λds' d' h=>by rw[h.1,hl,hN]) hba λa c cl A outer s H hcl hr ds' d' ⟨e1,e2⟩=>?_;subst e1 e2;have ab:j7 (qb N ds')=enter F ds':=Uv hl (by rw[hN,hnn]);rw[hbd,<-ab]at ho;obtain⟨r,er,ed⟩:=jd9 ho;exact ed▸(sound (htr a c cl A outer s H) (Z7 t rfl rfl rfl rfl rfl (Qn _) hr hsc.nd bR λz hz hq=>absurd (Rj hq▸hz) (j1w y)) (gok rfl rfl rfl rfl rfl hr) (qb N ds') r er).toT
     |fresh l=>trivial
     |err z=>trivial
     |lval z=>trivial
     |mval z k=>trivial
     |merr z=>trivial
     |no=>trivial
    .have e:evP fu G T (n+1) x ds=.no:=by simp only[evP,hF,if_neg hl]
     rw[e];trivial
   |false =>
   rcases(hT x F hF).1 hlam with ⟨L,hlast,hhead⟩|L
   rotate_left
   .obtain⟨g0,p,st,f,fd,N,ps,hxg,hbody,hfun,hsc,hps,hN,hp0,hpN,hb,hm,⟨C0,hC0,hPc⟩,hmp⟩:=L.ex;refine⟨f,fd,ps,?_⟩;by_cases hl:ds.length=F.n
    .have e:evP fu G T (n+1) x ds=fin (run fu (evP fu G T n) G F.body (enter F ds)):=by simp only[evP,hF,if_pos hl,hlam,Xq,if_false]
     rw[e,hbody,run];cases ho:pxS (enter F ds)[0]? (enter F ds)[1]? λls k=>jc fu (evP fu G T n) G ls p (.exc rfN::(enter F ds).drop 2) k with
     |next ρ' =>
      exfalso;unfold pxS at ho
      repeat' split at ho
      all_goals cases ho
     |brk _=>trivial
     |cnt _=>trivial
     |no=>trivial
     |err y ρ' =>
      exfalso;unfold pxS at ho
      repeat' split at ho
      all_goals cases ho
     |ret r =>
      have key:∀g ls (k:Nat) ds',x=mq g->ds=.lst (ls.map D.str)::.int (k:Int)::ds'->g0=g/\ds'.length+1=ps.length/\∀a:ak,
        (∀d k',r=.mval d k'->jc fu (evP fu G T n) G ls p (j7 (startM N a ds')) k=.ret d k')/\(∀y,r=.merr y->∃ρ',jc fu (evP fu G T n) G ls p (j7 (startM N a ds')) k=.err y ρ'):=λg ls k ds' h1 h2=>by
       refine⟨je7 (hxg.symm.trans h1),?_,λa=>?_⟩
       .rw[h2]at hl;simp only[xr]at hl;omega
       rw[Ez (F:=F) (ls:=ls.map D.str) (k:=(k:Int)) (by rw[h2]at hl;simp only[xr]at hl;omega) hN,<-h2];have e0:(enter F ds)[0]?=aa (.val (.lst (ls.map D.str))):=by rw[h2];rfl
       have e1:(enter F ds)[1]?=aa (.val (.int (k:Int))):=by rw[h2];rfl
       rw[e0,e1]at ho;unfold pxS at ho;simp only[j06,Xo,fm,if_true]at ho;split at ho
       .rename_i d k' z;cases ho;exact⟨λd2 k2 q=>(by cases q;exact z),λy q=>(by cases q)⟩
       .rename_i y ρ' z;cases ho;exact⟨λd2 k2 q=>(by cases q),λy q=>(by cases q;exact⟨_,z⟩)⟩
       .cases ho
      have sh:(∃d k',r=.mval d k')\/∃y,r=.merr y:=by
       unfold pxS at ho
       repeat' split at ho
       all_goals (cases ho)
       .exact .inl ⟨_,_,rfl⟩
       .exact .inr ⟨_,rfl⟩
      rcases sh with ⟨d,k',er⟩|⟨y,er⟩
      .subst er;intro g ls k ds' h1 h2 C hC;obtain⟨eg,hl2,kk⟩:=key g ls k ds' h1 h2;subst eg;cases hC0.symm.trans hC;refine⟨jkf (n:=lv n+1) hfun hsc (λls2 k2 ds2 d2 k2' h=>by rw[h.2.2.1,hl2]) λcdv A outer s H E hcv hr o ls2 k2 ds2 d2 k2' h=>?_,hm,hfun.kp,hb⟩;obtain⟨rfl,rfl,rfl,rfl,rfl⟩:=h;have ck:=Z7 t (X:=(qt CX0 P w K mg base N g0 (j0 st) f cdv A outer s H E).nox) rfl rfl rfl rfl rfl (Qn _) hr hsc.nd bR (Yc t hm hcv rfl rfl);refine hmp cdv A outer s H E _ fu (evP fu G T n) G ck (gok rfl rfl rfl rfl rfl hr) C0 hC0 (j1g hPc rfl rfl rfl rfl rfl (Qn _) hr) o _ _ _ _ ⟨dOb,?_⟩ ?_
       .unfold startM;exact Vp (by unfold qb;rw[X7,xg,xr];omega)
       .rw[(kk o.a).1 _ _ rfl];exact⟨rfl,rfl⟩
      .subst er;intro g ls k ds' h1 h2 C hC;obtain⟨eg,hl2,kk⟩:=key g ls k ds' h1 h2;subst eg;cases hC0.symm.trans hC;refine⟨jik (n:=lv n+1) hfun hsc (λls2 k2 ds2 y2 h=>by rw[h.2.2.1,hl2]) λcdv A outer s H E hcv hr o ls2 k2 ds2 y2 h=>?_,hm,hfun.kp,hb⟩;obtain⟨rfl,rfl,rfl,rfl⟩:=h;have ck:=Z7 t (X:=qt (CX1 P w) P w K mg base N g0 (j0 st) f cdv A outer s H E) rfl rfl rfl rfl rfl (Qn _) hr hsc.nd eW (Yc t hm hcv rfl rfl);refine hmp cdv A outer s H E (qt (CX1 P w) P w K mg base N g0 (j0 st) f cdv A outer s H E).xe fu (evP fu G T n) G ck (gok rfl rfl rfl rfl rfl hr) C0 hC0 (j1g hPc rfl rfl rfl rfl rfl (Qn _) hr) o _ _ _ _ ⟨dOb,?_⟩ ?_
       .unfold startM;exact Vp (by unfold qb;rw[X7,xg,xr];omega)
       .obtain⟨ρ',z⟩:=(kk o.a).2 _ rfl;rw[z];exact λ_ _=>rfl
    .have e:evP fu G T (n+1) x ds=.no:=by simp only[evP,hF,if_neg hl]
     rw[e];trivial
   obtain⟨st,f,fd,N,ps,hfun,hsc,hps,hN,hb,hdf,hm,hts⟩:=L.ex;refine⟨f,fd,ps,?_⟩;by_cases hl:ds.length=F.n
   .have e:evP fu G T (n+1) x ds=fin (run fu (evP fu G T n) G F.body (enter F ds)):=by simp only[evP,hF,if_pos hl,hlam,Xq,if_false]
    have ab:j7 (qb N ds)=enter F ds:=Uv hl hN;cases ho:run fu (evP fu G T n) G F.body (enter F ds) with
    |next ρ' =>rw[e,ho];refine⟨Bw (k:=lv n+1) hfun hsc (λds' d' h=>by rw[h.1,hl,hps]) λcdv A outer s H E hcv hr ds' d' ⟨e1,e2⟩=>?_,hm,hfun.kp,hb,hdf⟩;subst e1 e2;refine Yp (fu:=fu) (hts cdv A outer s H E _) (Z7 t rfl rfl rfl rfl rfl (Qn _) hr hsc.nd bR (Yc t hm hcv rfl rfl)) (gok rfl rfl rfl rfl rfl hr) (qb N ds') _ ?_;rw[ab,ho];exact λ_ _=>rfl
    |ret r =>
     rw[e,ho];cases r with
     |no=>trivial
     |lval d=>exact λy hy=>absurd (hy▸Fv y) hlast
     |mval d k=>exact λg _ _ _ hy=>absurd (hy▸j0a g) hhead
     |merr d=>exact λg _ _ _ hy=>absurd (hy▸j0a g) hhead
     |err y =>refine⟨j4g (k:=lv n+1) hfun hsc (λds' d' h=>by rw[h.1,hl,hps]) λcdv A outer s H E hcv hr ds' y' ⟨e1,e2⟩=>?_,hm,hfun.kp,hb⟩;subst e1 e2;refine Yp (X:=qt (CX1 P w) P w K mg base N x (j0 st) f cdv A outer s H E) (fu:=fu) (hts cdv A outer s H E (qt (CX1 P w) P w K mg base N x (j0 st) f cdv A outer s H E).xe) (Z7 t rfl rfl rfl rfl rfl (Qn _) hr hsc.nd eW (Yc t hm hcv rfl rfl)) (gok rfl rfl rfl rfl rfl hr) (qb N ds') _ ?_;rw[ab,ho];intro z hz;cases z<;>cases hz
     |val d =>
      refine⟨Bw (k:=lv n+1) hfun hsc (λds' d' h=>by rw[h.1,hl,hps]) λcdv A outer s H E hcv hr ds' d' ⟨e1,e2⟩=>?_,hm,hfun.kp,hb,hdf⟩;subst e1 e2;refine Yp (fu:=fu) (hts cdv A outer s H E _) (Z7 t rfl rfl rfl rfl rfl (Qn _) hr hsc.nd bR (Yc t hm hcv rfl rfl)) (gok rfl rfl rfl rfl rfl hr) (qb N ds') _ ?_;rw[ab,ho];intro y hy;cases y with
      |val d=>cases hy;rfl
      |fresh l=>cases hy
     |fresh l =>
      refine⟨j7v (k:=lv n+1) hfun hsc (λds' d' h=>by rw[h.1,hl,hps]) λcdv A outer s H E hcv hr ds' d' ⟨e1,e2⟩=>?_,hm,hfun.kp,hb,hdf⟩;subst e1 e2;refine Yp (fu:=fu) (hts cdv A outer s H E _) (Z7 t rfl rfl rfl rfl rfl (Qn _) hr hsc.nd bR (Yc t hm hcv rfl rfl)) (gok rfl rfl rfl rfl rfl hr) (qb N ds') _ ?_;rw[ab,ho];intro y hy;cases y with
      |val d=>cases hy
      |fresh l=>cases hy;rfl
    |err y ρ' =>rw[e,ho];refine⟨j4g (k:=lv n+1) hfun hsc (λds' d' h=>by rw[h.1,hl,hps]) λcdv A outer s H E hcv hr ds' y' ⟨e1,e2⟩=>?_,hm,hfun.kp,hb⟩;subst e1 e2;refine Yp (X:=qt (CX1 P w) P w K mg base N x (j0 st) f cdv A outer s H E) (fu:=fu) (hts cdv A outer s H E (qt (CX1 P w) P w K mg base N x (j0 st) f cdv A outer s H E).xe) (Z7 t rfl rfl rfl rfl rfl (Qn _) hr hsc.nd eW (Yc t hm hcv rfl rfl)) (gok rfl rfl rfl rfl rfl hr) (qb N ds') _ ?_;rw[ab,ho];exact λ_ _=>rfl
    |brk _=>rw[e,ho];trivial
    |cnt _=>rw[e,ho];trivial
    |no=>rw[e,ho];trivial
   .have e:evP fu G T (n+1) x ds=.no:=by simp only[evP,hF,if_neg hl]
    rw[e];trivial
end
noncomputable def Gof(gs:List (ao×D))(q:Bool)(xs:List (ao×List D))(fs:List ao)(x:ao):Option D :=
 if V3 x=af then(if x = "?" then(if q=af then aa (.bl af)else ah) else((xs.find? λp=>bang p.1==x).map λp=>.lst p.2).or (if (fs.any λf=>qm f==x)=af then aa .non else ah))else gs.lookup x
theorem j8l{x y:ao}(h:bang x=bang y):x=y:=by unfold bang at h;have h:(⟨("!":ao).cps++x.cps⟩:ao)=⟨("!":ao).cps++y.cps⟩:=h;have h:=congrArg iQ h;have e:x.cps=y.cps:=dZ h rfl;cases x;cases y;cases e;rfl
theorem Ey(x:ao):V3 (bang x)=af:=by unfold V3;rw[Wq];rfl
theorem j5b(x:ao):V3 (qm x)=af:=by unfold V3;rw[j07];rfl
theorem Kw{gs:List (ao×D)}{q:Bool}{xs:List (ao×List D)}{fs:List ao}{x:ao}{d:D}(h:Gof gs q xs fs (bang x)=aa d):∃p∈xs,p.1=x/\d=.lst p.2:=by
 unfold Gof at h;rw[if_pos (Ey x),if_neg (jc9 x)]at h;have hn:(fs.any λf=>qm f==bang x)=ae:=by rw[fB];intro f _ e;exact j0u x f (beq_iff_eq.mp e).symm
 rw[hn,if_neg (by decide),Option.or_none]at h;obtain⟨p,hp,rfl⟩:=Pn.mp h;have z:=List.find?_some (p:=λp:ao×List D=>bang p.1==bang x) hp;exact⟨p,List.mem_of_find?_eq_some hp,j8l (beq_iff_eq.mp z),rfl⟩
theorem Kv{gs:List (ao×D)}{q:Bool}{xs:List (ao×List D)}{fs:List ao}{x:ao}{d:D}(h:Gof gs q xs fs (qm x)=aa d):x∈fs:=by
 unfold Gof at h;rw[if_pos (j5b x),if_neg (jhh x)]at h;have hn:(xs.find? λp=>bang p.1==qm x)=ah:=by rw[List.find?_eq_none];intro p _ e;exact j0u p.1 x (beq_iff_eq.mp e)
 rw[hn,Option.map_none,Option.none_or]at h;split at h
 .rename_i z;obtain⟨f,hf,e⟩:=List.any_eq_true.mp z;exact jdg (beq_iff_eq.mp e)▸hf
 .cases h
theorem jgp{P:ay}{w:aD}{K:k70}{mg:k73}{base:aG}{gs:List (ao×D)}{q:Bool}{xs:List (ao×List D)}{fs:List ao}(bt:∀x∈V5,mg x=ah)
  (gl:∀x d,gs.lookup x=aa d->∃u v,mg x=aa u/\RelV v u/\∀H,Enc K H d v) (ea:R9 K=af) (hx:∀p∈xs,p.1∈J0/\∃o,W.nsIn K aw p.1=aa (aa o))
  (el:q=af->∀c∈J0,∃v,W.nsIn K aw c=aa (aa v)) (kin:K.In base) (ns:base.Ns aw mg) (fn:∀f∈fs,∃fa,mg f=aa (.ref fa)/\W.keepIn K (.ref fa)=af) (kd:∀p∈xs,KindsP P w K mg base "_law_kinds" p.1 p.2) (lm:∀x∈V7,∀f cdv,mg x=aa (.ref f)->Yl K f cdv->∃c Pt,cdv=.ref c/\W.codeHdIn K c Pt=af/\W.tabIn K x=aa (c,Pt)) (pl:("_law_plan":ao)∈fs->j5d P w K mg base:=by exact λh=>absurd h (by decide)) (pc:("Pieces":ao)∈fs->∃C,mg "Pieces" = aa (.ref C)/\Mv P w K mg base C:=by exact λh=>absurd h (by decide)):Tb P w K mg base (Gof gs q xs fs):=by
 refine⟨bt,λx d hb h=>?_,ea,λx d h=>?_,λh=>el ?_,kin,ns,λx l h=>?_,λf d h=>fn f (Kv h),λd h=>pl (Kv h),λd h=>pc (Kv h),lm⟩
 .unfold Gof at h;rw[if_neg (by rw[hb];decide)]at h;exact gl x d h
 .obtain⟨p,hp,rfl,_⟩:=Kw h;exact hx p hp
 .unfold Gof at h;rw[if_pos (by decide),if_pos rfl]at h;split at h
  .rename_i z;exact z
  .cases h
 .obtain⟨p,hp,rfl,e⟩:=Kw h;cases e;exact kd p hp
def Ca(K:k70):Sp:=λvs H Q _=>∃(a:ak)(ns:List Int),vs=[.ref a]/\TabOk K H/\SqL K H a (ns.map V.int)/\ns.length<=63/\∀H':Hp,j4 H H'->Q (.bl af) H'
theorem Er{K:k70}{H:Hp}{a:ak}{ns:List Int}(h:SqL K H a (ns.map V.int)):j5 K H [.lst (ns.map D.int)] [.ref a] :=
 ⟨_,[],rfl,⟨a,_,rfl,h,j5.ints ns⟩,rfl⟩
theorem jeg{P:ay}{w:aD}{K:k70}{mg:k73}{base:aG}{fu:Nat}{G:ao->Option D}{T:ao->Option Fi}{n:Nat}{x p:ao}{fa:ak}{st:aQ}{F:Fi}
  (hT:∀x F,T x=aa F->LkF P w K mg base x F) (t:Tb P w K mg base G)
  (hx:T x=aa F) (hlam:F.lam=ae) (hm:mg x=aa (.ref fa)) {fd:aM} (hfun:Fun K x x st fa fd) (N:List ao) (hsc:FnScope N [p] (j0 st)) (h1:F.n=1) (hN:N.length=F.nn)
  (hts:∀(cdv:aj)(A:aF)(outer:List du)(s:aq)(H:Hp)(E:XK)(xe:k71),Ts ((qt CX0 P w K mg base N x (j0 st) fa cdv A outer s H E).wish xe) F.body (.ss (je st)))
  (hlaw:∀ns:List Int,ns.length<=63->evP fu G T (n+1) x [.lst (ns.map D.int)]=.val (.bl af)):FnOk P w K mg base CX0 (lv (n+1)) fa fd [p] (Ca K):=by
 have S:FnOk P w K mg base CX0 (lv (n+1)) fa fd [p] (spP K λds d=>∃ns:List Int,ns.length<=63/\ds=[.lst (ns.map D.int)]/\d=.bl af):=by
  refine Bw (k:=lv n+1) hfun hsc (λds d ⟨ns,_,h,_⟩=>by rw[h];rfl) λcdv A outer s H E hcv hr ds d ⟨ns,hns,e1,e2⟩=>?_;subst e1 e2;have e:=hlaw ns hns;simp only[evP,hx,h1,hlam,Xq,if_false,xr,Pr,if_true]at e;have ab:j7 (qb N [D.lst (ns.map D.int)])=enter F [D.lst (ns.map D.int)]:=Uv (by rw[h1];rfl) hN;have g:Gok (qt CX0 P w K mg base N x (j0 st) fa cdv A outer s H E).nox (evP fu G T n):=λg ds'=>by
   obtain⟨f',fd',ps',q⟩:=O7 (fu:=fu) hT t n g ds';cases z:evP fu G T n g ds' with
   |val d=>rw[z]at q;exact⟨lv n,f',fd',ps',q.1,hr,q.2.1,q.2.2.1,q.2.2.2⟩
   |fresh l=>rw[z]at q;exact⟨lv n,f',fd',ps',q.1,hr,q.2.1,q.2.2.1,q.2.2.2⟩
   |err y=>rw[z]at q;exact⟨lv n,f',fd',ps',q.1,hr.mono (Xv _),q.2.1,q.2.2.1,q.2.2.2⟩
   |lval d=>rw[z]at q;exact λy hy=>⟨lv n,hr.mono (Xv _),q y hy⟩
   |mval d k=>rw[z]at q;exact λg' ls k ds'' h1 h2 C h3=>let ⟨a,b⟩:=q g' ls k ds'' h1 h2 C h3;⟨⟨lv n,f',fd',ps',a,hr.mono (Xv _),b⟩⟩
   |merr y=>rw[z]at q;exact λg' ls k ds'' h1 h2 C h3=>let ⟨a,b⟩:=q g' ls k ds'' h1 h2 C h3;⟨⟨lv n,f',fd',ps',a,hr.mono (Xv _),b⟩⟩
   |no=>trivial
  refine Yp (fu:=fu) (hts cdv A outer s H E _) (Z7 t rfl rfl rfl rfl rfl (Qn _) hr hsc.nd bR (Yc t hm hcv rfl rfl)) g (qb N _) _ ?_;rw[ab];cases ho:run fu (evP fu G T n) G F.body (enter F [D.lst (ns.map D.int)]) with
  |ret r =>
   rw[ho]at e;have e:r=.val (.bl af):=e;subst e;intro y hy;cases y with
   |val d=>cases hy;rfl
   |fresh l=>cases hy
  |next ρ'=>rw[ho]at e;cases e
  |brk _=>rw[ho]at e;cases e
  |cnt _=>rw[ho]at e;cases e
  |err _ _=>rw[ho]at e;cases e
  |no=>rw[ho]at e;cases e
 refine S.imp λvs H Q E ⟨a,ns,hv,tb,hS,hl,k⟩=>?_;subst hv;exact⟨[],_,_,tb,(λa h=>nomatch h),by rw[J6];exact Er hS,⟨ns,hl,rfl,rfl⟩,λv H' g e=>by cases(show v=.bl af from e);exact k H' g⟩
noncomputable def Dz(K:k70):List (ak×ao):=V7.filterMap λx=>(W.tabIn K x).map λq=>(q.2,za x)
noncomputable def tOk(K:k70)(ts:List ak):Bool:=(V7.all λx=>match W.nsIn K aw x with
  |some ah=>af
  |_=>match W.tabIn K x with
   |some (c,P)=>W.codeHdIn K c P&&ts.contains P
   |none=>ae)&&W.noTabs K&&decide ((Dz K).map (·.1)).Nodup
theorem ja1{K:k70}{ts:List ak}{h:aG}(hk:tOk K ts=af)(X:K.In h)(ht:∀P∈ts,h.get? P=aa (W.tabObj #[])):j8p (Dz K) h:=by
 unfold tOk at hk;rw[Xb,Xb]at hk;refine⟨of_decide_eq_true hk.2,λt hm=>?_⟩;obtain⟨x,hx,e⟩:=Pq.mp hm;obtain⟨⟨c,P⟩,e1,e2⟩:=Pn.mp e;subst e2;have z:=Xp.mp hk.1.1 x hx;split at z
 .rename_i y;exfalso;unfold W.tabIn at e1;rw[y]at e1;cases e1
 .rw[e1]at z;have z:(W.codeHdIn K c P&&ts.contains P)=af:=z;rw[Xb]at z;exact⟨⟨c,W.codeHd_of_K X z.1⟩,ht P (by simpa using z.2)⟩
theorem jht{K:k70}{ts:List ak}{h:aG}{mg:k73}(hk:tOk K ts=af)(X:K.In h)(Gn:h.Ns aw mg):∀x∈V7,∀f cdv,mg x=aa (.ref f)->Yl K f cdv->∃c Pt,cdv=.ref c/\W.codeHdIn K c Pt=af/\W.tabIn K x=aa (c,Pt):=λx hx f cdv hm hcv=>by
 unfold tOk at hk;rw[Xb,Xb]at hk;have z:=Xp.mp hk.1.1 x hx;split at z
 .rename_i y;rw[W.mg_none_of X Gn y]at hm;cases hm
 .split at z
  .rename_i c P e;rw[Xb]at z;refine⟨c,P,?_,z.1,e⟩;obtain⟨oc,od,fd,sl,e3,e4⟩:=hcv;unfold W.tabIn at e;split at e
   .rename_i f' hf;have e5:=W.mg_of X Gn hf;rw[hm]at e5;cases e5;rw[e3]at e;dsimp only at e;split at e
    .rename_i c' hc;split at e
     .split at e
      .cases e;rw[<-e4];exact hc
      .cases e
     .cases e
    .cases e
   .cases e
  .cases z
theorem jcq{K:k70}{H:Hp}(hO:Only (Dz K) H):TabOk K H:=λx hx c P e=>hO.2 (P,za x) (Pq.mpr ⟨x,hx,by rw[e];rfl⟩)
theorem j3r{K:k70}{ts:List ak}(hk:tOk K ts=af):W.noTabs K=af:=by unfold tOk at hk;rw[Xb,Xb]at hk;exact hk.1.2
theorem walkL{l:dJ}{q:ay}{loose:List ao}{XP:(ao->Option aj)->aG->Prop}{YP:aD->aG->Prop}{d:DefRec}{K:lI->k70}{k:Nat}{x:ao}{ts:List ak}(hk:k<=100)(hn:l.most=aa 63)(hdf:d.params.defaults=[])
  (hY:∀(w:aD)(h:aG),YP w h->(K w.params).In h/\∀P∈ts,h.get? P=aa (W.tabObj #[])) (hK:∀w:aD,tOk (K w.params) ts=af)
  (F:∀(w:aD)(mg:k73)(fa:ak)(h:aG),(K w.params).In h->h.Ns aw mg->mg d.name=aa (.ref fa)->tOk (K w.params) ts=af ->
   ∃fd:aM,(∀(s:aq)(u:aj),gc s fd ⟨[u],[]⟩ [(x,u)])/\∀base:aG,(K w.params).In base->base.Ns aw mg->FnOk l.prog w (K w.params) mg base CX0 k fa fd [x] (Ca (K w.params))) :
  i3 q loose XP YP l.row.toRowW d [] (λf vs=>gb f vs) :=
 L2.walk_of (n:=63) (k:=k) (x:=x) (CX:=λ_=>CX0) (sp:=λw=>Ca (K w.params)) (ts:=λw=>Dz (K w.params)) hn (by decide) hdf
  (Room.mono (k:=100) ⟨rfl,by decide,by decide⟩ hk) (λw h Y=>⟨(hY w h Y).1,ja1 (hK w) (hY w h Y).1 (hY w h Y).2⟩) (λw=>j3r (hK w)) (λw mg fa h X G m=>F w mg fa h X G m (hK w)) (λw H a ns hl hO hS=>⟨a,ns,rfl,jcq hO,hS,hl,λH' g=>⟨rfl,g⟩⟩) λ_ _ _ _ _ z=>z
def Lf(K:k70)(x:ao)(st:aQ):Prop:=∃(f:ak)(oc:aj)(od:Option ak)(kV dc pm:aj)(an:Option ak)(cd ct:aj)(sl:Array (Option aj)),W.nsIn K aw x=aa (aa (.ref f)) /\
 K.lookup f=aa ⟨oc,od,.func (W.fnOf x x (qy st) (je st) (j0 st) .none kV dc pm an cd ct),sl⟩/\W.codeIn K cd x=af/\W.keepIn K (.ref f)=af
def TrT(P:ay)(w:aD)(K:k70)(mg:k73)(base:aG)(x:ao)(N:List ao)(st:aQ)(b:Sx):Prop :=
 ∀(f:ak)(cdv:aj)(A:aF)(outer:List du)(s:aq)(H:Hp)(E:XK) (xe:k71),Ts ((qt CX0 P w K mg base N x (j0 st) f cdv A outer s H E).wish xe) b (.ss (je st))
noncomputable def bOk(K:k70):Bool:=V5.all λx=>match W.nsIn K aw x with
 |some ah=>af
 |_=>ae
section
variable{P:ay}{w:aD}{K:k70}{mg:k73}{base h:aG}{x:ao}{st:aQ}{N ps:List ao}{F:Fi}
theorem j9i(X:K.In h)(Gn:h.Ns aw mg)(hb:bOk K=af):∀x∈V5,mg x=ah:=λx hx=>by
 have z:=Xp.mp hb x hx;split at z
 .rename_i e;exact W.mg_none_of X Gn e
 .cases z
theorem qj(L:Lf K x st)(X:K.In h)(Gn:h.Ns aw mg)(t:TrT P w K mg base x N st F.body)(ps:List ao)(sc:FnScope N ps (j0 st))(h1:ps.length=F.n)(h2:N.length=F.nn)
  (hb:∀(kV doc pm:aj)(an:Option ak)(cdv ct:aj)(us:List aj),us.length=ps.length->cX (W.fnOf x x (qy st) (je st) (j0 st) .none kV doc pm an cdv ct) ⟨us,[]⟩=pure (ps.zip us)) (hd:x∉jfo):Lk P w K mg base x F:=by
 obtain⟨f,oc,od,kV,dc,pm,an,cd,ct,sl,a,l,c,k⟩:=L;exact⟨st,f,_,N,ps,Z2 l c k,sc,h1,h2,(Z2 l c k).binds hb,λz=>absurd z hd,W.mg_of X Gn a,t f⟩
theorem lkF(L:Lk P w K mg base x F)(h:F.lam=ae)(hn:x.cps.toList.getLast?≠aa 62)(hh:x.cps.toList.head?≠aa 64):LkF P w K mg base x F:=⟨λ_=>.inl ⟨L,hn,hh⟩,λz=>by rw[h]at z;cases z⟩
theorem us1{us:List aj}(h:us.length=1):∃a,us=[a]:=by match us,h with|[a],_=>exact⟨a,rfl⟩
theorem us2{us:List aj}(h:us.length=2):∃a b,us=[a,b]:=by match us,h with|[a,b],_=>exact⟨a,b,rfl⟩
theorem us3{us:List aj}(h:us.length=3):∃a b c,us=[a,b,c]:=by match us,h with|[a,b,c],_=>exact⟨a,b,c,rfl⟩
end
theorem lf_mk{K:k70}{x:ao}{st:aQ}{f:ak}{oc:aj}{od:Option ak}{kV dc pm:aj}{an:Option ak}{cd ct:aj}{sl:Array (Option aj)}(a:W.nsIn K aw x=aa (aa (.ref f)))
  (l:K.lookup f=aa ⟨oc,od,.func (W.fnOf x x (qy st) (je st) (j0 st) .none kV dc pm an cd ct),sl⟩) (c:W.codeIn K cd x=af) (k:W.keepIn K (.ref f)=af):Lf K x st:=⟨f,oc,od,kV,dc,pm,an,cd,ct,sl,a,l,c,k⟩
structure PcS(P:ay)(w:aD)(K:k70)(mg:k73)(base:aG)(sI sA sT sL:aQ):Prop where
 scI:FnScope ["self","text"] ["self","text"] (j0 sI)
 scA:FnScope ["self"] ["self"] (j0 sA)
 scT:FnScope ["self","piece"] ["self"] (j0 sT)
 scL:FnScope ["self"] ["self"] (j0 sL)
 boI:∃(n n2:Nat)(p1 p2 p3 p4 p5 p6 p7 p8 p9 p10 p11:aR),je sI=j99 n n2 p1 p2 p3 p4 p5 p6 p7 p8 p9 p10 p11/\(p4.endLine==p6.line)=af
 boA:∃(n:Nat)(p1 p2 p3 p4 p5 p6 p7 p8 p9 p10 p11 p12 p13 p14 p15 p16:aR),je sA=j5c n p1 p2 p3 p4 p5 p6 p7 p8 p9 p10 p11 p12 p13 p14 p15 p16
 boT:∃(n:Nat)(p1 p2 p3 p4 p5 p6 p7 p8 p9 p10 p11 p12 p13 p14:aR),je sT=j2w n p1 p2 p3 p4 p5 p6 p7 p8 p9 p10 p11 p12 p13 p14/\∀f cdv A outer s H E,Qa (qt CX0 P w K mg base ["self","piece"] "Pieces.taken" (j0 sT) f cdv A outer s H E).nox (.Name "self" p2) "ahead" p3 p4
 boL:∃(p1 p2 p3 p4 p5 p6 p7 p8:aR),je sL=allB p1 p2 p3 p4 p5 p6 p7 p8
 vi:Vis (j0 sI) "self"/\Vis (j0 sI) "text"/\Vis (j0 sA) "self"/\Vis (j0 sT) "self"/\Vis (j0 sL) "self"
 na:(j0 sA).names.lookup ("len":ao)=aa .globalImplicit/\(j0 sT).names.lookup ("piece":ao)=aa .local/\(j0 sL).names.lookup ("len":ao)=aa .globalImplicit
 biI:∀(kV doc pm:aj)(an:Option ak)(cdv ct:aj)(us:List aj),us.length=2->cX (W.fnOf "__init__" "Pieces.__init__" (qy sI) (je sI) (j0 sI) .none kV doc pm an cdv ct) ⟨us,[]⟩=pure ((["self","text"]:List ao).zip us)
 biA:∀(kV doc pm:aj)(an:Option ak)(cdv ct:aj)(us:List aj),us.length=1->cX (W.fnOf "ahead" "Pieces.ahead" (qy sA) (je sA) (j0 sA) .none kV doc pm an cdv ct) ⟨us,[]⟩=pure ((["self"]:List ao).zip us)
 biT:∀(kV doc pm:aj)(an:Option ak)(cdv ct:aj)(us:List aj),us.length=1->cX (W.fnOf "taken" "Pieces.taken" (qy sT) (je sT) (j0 sT) .none kV doc pm an cdv ct) ⟨us,[]⟩=pure ((["self"]:List ao).zip us)
 biL:∀(kV doc pm:aj)(an:Option ak)(cdv ct:aj)(us:List aj),us.length=1->cX (W.fnOf "all_taken" "Pieces.all_taken" (qy sL) (je sL) (j0 sL) .none kV doc pm an cdv ct) ⟨us,[]⟩=pure ((["self"]:List ao).zip us)
def Lm(K:k70)(C f:ak)(x q:ao)(st:aQ):Prop:=∃(oc:aj)(od:Option ak)(kV dc pm:aj)(an:Option ak)(cd ct:aj)(sl:Array (Option aj)),W.findIn K (.ref C) x=aa (aa (.ref f))/\W.isFn K (.ref f)=af /\
 K.lookup f=aa ⟨oc,od,.func (W.fnOf x q (qy st) (je st) (j0 st) .none kV dc pm an cd ct),sl⟩/\W.codeIn K cd q=af/\W.keepIn K (.ref f)=af
theorem lm_mk{K:k70}{C f:ak}{x q:ao}{st:aQ}{oc:aj}{od:Option ak}{kV dc pm:aj}{an:Option ak}{cd ct:aj}{sl:Array (Option aj)}(a:W.findIn K (.ref C) x=aa (aa (.ref f)))(i:W.isFn K (.ref f)=af)
  (l:K.lookup f=aa ⟨oc,od,.func (W.fnOf x q (qy st) (je st) (j0 st) .none kV dc pm an cd ct),sl⟩) (c:W.codeIn K cd q=af) (k:W.keepIn K (.ref f)=af):∃f,Lm K C f x q st:=⟨f,oc,od,kV,dc,pm,an,cd,ct,sl,a,i,l,c,k⟩
structure PcH(K:k70)(C:ak)(sI sA sT sL:aQ):Prop where
 at_:W.nsIn K aw "Pieces" = aa (aa (.ref C))
 pg:W.plainGet K C dW=af
 hd:W.hasDictIn K C=af
 po:W.plainOver K C=af
 sa:W.findIn K (.ref C) "__setattr__" = aa (aa (.builtin "object.__setattr__"))
 mk_:W.makesIn K C=af
 kc:W.keepIn K (.ref C)=af
 nS:W.findIn K (.ref C) "standing" = aa ah
 nP:W.findIn K (.ref C) "spot" = aa ah
 mI:∃f,Lm K C f "__init__" "Pieces.__init__" sI
 mA:∃f,Lm K C f "ahead" "Pieces.ahead" sA
 mT:∃f,Lm K C f "taken" "Pieces.taken" sT
 mL:∃f,Lm K C f "all_taken" "Pieces.all_taken" sL
theorem jhm {P:ay} {w:aD} {K:k70} {mg:k73} {base h:aG} {C:ak} {sI sA sT sL:aQ} (S:PcS P w K mg base sI sA sT sL) (hH:PcH K C sI sA sT sL) (X:K.In h) (Gn:h.Ns aw mg) (bt:mg "len" = ah) :
  ∃C,mg "Pieces" = aa (.ref C)/\Mv P w K mg base C:=by
 obtain⟨scI,scA,scT,scL,⟨n,n2,q1,q2,q3,q4,q5,q6,q7,q8,q9,q10,q11,eI,hlI⟩,⟨nA,a1,a2,a3,a4,a5,a6,a7,a8,a9,a10,a11,a12,a13,a14,a15,a16,eA⟩,⟨nT,t1,t2,t3,t4,t5,t6,t7,t8,t9,t10,t11,t12,t13,t14,eT,hmT⟩,⟨l1,l2,l3,l4,l5,l6,l7,l8,eL⟩,⟨v1,v2,v3,v4,v5⟩,⟨g1,g2,g3⟩,biI,biA,biT,biL⟩:=S;obtain⟨atC,pg,hd,po,sa,mk,kc,nS,nP,⟨fI,ocI,odI,kVI,dcI,pmI,anI,cdI,ctI,slI,fiI,fnI,lkI,coI,kpI⟩,⟨fA,ocA,odA,kVA,dcA,pmA,anA,cdA,ctA,slA,fiA,fnA,lkA,coA,kpA⟩,⟨fT,ocT,odT,kVT,dcT,pmT,anT,cdT,ctT,slT,fiT,fnT,lkT,coT,kpT⟩,⟨fL,ocL,odL,kVL,dcL,pmL,anL,cdL,ctL,slL,fiL,fnL,lkL,coL,kpL⟩⟩:=hH;have mgC:=W.mg_of X Gn atC;have T:PcT K mg C fA fT fL fI:=⟨⟨pg,hd,po,sa⟩,nS,nP,⟨fiA,fnA,kpA⟩,⟨fiT,fnT,kpT⟩,⟨fiL,fnL,kpL⟩,⟨mk,fiI,fnI,kc⟩,mgC,bt⟩
 have FI:=Z2 (st:=sI) lkI coI kpI;have FA:=Z2 (st:=sA) lkA coA kpA;have FT:=Z2 (st:=sT) lkT coT kpT;have FL:=Z2 (st:=sL) lkL coL kpL;have GA:=j6u (P:=P) (w:=w) (mg:=mg) (base:=base) FA T scA eA v3 g1;have bA:=FA.binds (ps:=["self"]) biA;exact⟨C,mgC,fA,fT,fL,fI,_,_,_,_,T,⟨GA,bA⟩,⟨j6t FT T scT eT v4 g2 (λcdv A outer s H E=>hmT fT cdv A outer s H E) GA bA,FT.binds (ps:=["self"]) biT⟩,⟨je3 FL T scL eL v5 g3,FL.binds (ps:=["self"]) biL⟩,⟨jb1 FI T scI eI v1 v2 hlI,FI.binds (ps:=["self","text"]) biI⟩⟩
def TrM(P:ay)(w:aD)(K:k70)(mg:k73)(base:aG)(x:ao)(N:List ao)(st:aQ)(p:Px):Prop :=
 ∀(f:ak)(cdv:aj)(A:aF)(outer:List du)(s:aq)(H:Hp)(E:XK) (xe:k71),MP ((qt CX0 P w K mg base N x (j0 st) f cdv A outer s H E).wish xe) 0 p (je st)
section
variable{P:ay}{w:aD}{K:k70}{mg:k73}{base h:aG}{x g:ao}{st:aQ}{N ps:List ao}{F:Fi}{p:Px}
theorem j3x(hx:x=mq g)(L:Lf K g st)(X:K.In h)(Gn:h.Ns aw mg)(t:TrM P w K mg base g N st p)(ps:List ao)(sc:FnScope N ps (j0 st))(hF:F.body=.px p)(hl:F.lam=ae)(h1:ps.length+1=F.n)(h2:N.length+1=F.nn)(h3:0<ps.length)(h4:ps.length<=N.length)
  (hb:∀(kV doc pm:aj)(an:Option ak)(cdv ct:aj)(us:List aj),us.length=ps.length->cX (W.fnOf g g (qy st) (je st) (j0 st) .none kV doc pm an cdv ct) ⟨us,[]⟩=pure (ps.zip us)) (pc:∃C,mg "Pieces" = aa (.ref C)/\Mv P w K mg base C):LkF P w K mg base x F:=by
 obtain⟨f,oc,od,kV,dc,pm,an,cd,ct,sl,a,l,c,k⟩:=L;exact⟨λ_=>.inr ⟨g,p,st,f,_,N,ps,hx,hF,Z2 l c k,sc,h1,h2,h3,h4,(Z2 l c k).binds hb,W.mg_of X Gn a,pc,t f⟩,λz=>by rw[hl]at z;cases z⟩
theorem jhg {C:ak} {sI sA sT sL:aQ} (H:PcH K C sI sA sT sL) (X:K.In h) (Gn:h.Ns aw mg):∃fa,mg "Pieces" = aa (.ref fa)/\W.keepIn K (.ref fa)=af:=⟨C,W.mg_of X Gn H.at_,H.kc⟩
end
end L2
end
section
namespace L2
open PySem (Str sizeLine argBest)
theorem vz{n:Nat}(h:n<=1000000):n<=ar:=Xh h (by decide)
theorem lt_size{n:Nat}(h:n<=1000000):n<ar:=dw h (by decide)
noncomputable def Lr(o:So)(f:En->So):So:=match o with
 |.next ρ=>f ρ
 |o=>o
noncomputable def ifS(c:Option Bool)(f g:En->So)(ρ:En):So:=match c with
 |some af=>f ρ
 |some ae=>g ρ
 |none=>.no
noncomputable def Ur(is:List Nat)(f:En->So)(d:D)(ρ:En):So:=match zj is d ρ with
 |some ρ2=>f ρ2
 |none=>.no
noncomputable def j95(is:List Nat)(w:Option W)(f:En->So)(ρ:En):So:=match w with
 |some (.i ds)=>vf (Ur is f) ds ρ
 |_=>.no
section
variable{fu:Nat}{Γ:ao->List D->Rc}{G:ao->Option D}{ρ:En}{i j:Nat}{e c k:Ex}{a b:Sx}{is:List Nat}
theorem jac:run fu Γ G .nop ρ=.next ρ:=(rfl)
theorem ja9:run fu Γ G (.seq a b) ρ=Lr (run fu Γ G a ρ) (run fu Γ G b):=(rfl)
theorem ja8:run fu Γ G (.set i e) ρ=orE (M9 i (ev Γ G e ρ) ρ) (er Γ G e ρ) ρ:=(rfl)
theorem jad:run fu Γ G (.mov i j) ρ=K9 i j ρ[j]? ρ:=(rfl)
theorem j6d:run fu Γ G (.expr e) ρ=orE (Ig (ev Γ G e ρ) ρ) (er Γ G e ρ) ρ:=(rfl)
theorem jaa:run fu Γ G (.ret e) ρ=orE (retS (ev Γ G e ρ)) (er Γ G e ρ) ρ:=(rfl)
theorem j6q{ρ':En}{x:Option ao}:orE (.next ρ') x ρ=.next ρ':=(rfl)
theorem j09{r:Rc}{x:Option ao}:orE (.ret r) x ρ=.ret r:=(rfl)
theorem jfg:ev Γ G (.fst e) ρ=j22 (ev Γ G e ρ):=(rfl)
noncomputable def jjw(w:Option W):Option W:=match w with
 |some (.v x)=>match x.d with
  |.str y=>if (bW y).length<=2000 then aa (.v (.e (.str (bW y))))else ah
  |_=>ah
 |_=>ah
theorem jf8:ev Γ G (.rpr e) ρ=jjw (ev Γ G e ρ):=(rfl)
theorem j69:run fu Γ G (.retV i) ρ=Ww ρ[i]?:=(rfl)
theorem jae:run fu Γ G (.ife c a b) ρ=ifS (truth (ev Γ G c ρ)) (run fu Γ G a) (run fu Γ G b) ρ:=(rfl)
theorem j6c:run fu Γ G (.loop is e a) ρ=j95 is (ev Γ G e (frz e ρ)) (run fu Γ G a) (frz e ρ):=(rfl)
theorem jah:run fu Γ G (.app i e) ρ=Nm i ρ[i]? (ev Γ G e ρ) ρ:=(rfl)
theorem jag:run fu Γ G (.ext i e) ρ=N6 i ρ[i]? (ev Γ G e ρ) ρ:=(rfl)
theorem jab:run fu Γ G (.put i k e) ρ=Bl i ρ[i]? (ev Γ G k ρ) (ev Γ G e ρ) ρ:=(rfl)
theorem jcu{d:D}:stOf (aa (.v (.e d)))=aa d:=(rfl)
theorem j6e{w:Nat}{e:Ex}:run fu Γ G (.apop i w e) ρ=Rm i w ρ[i]? ρ[w]? (ev Γ G e ρ) ρ:=(rfl)
theorem jcb{w k:Nat}{l m:List D}{z:Int}{d:D}(hz:ixN m.length z=aa k)(hd:m[k]?=aa d)(h:i≠w)(hl:l.length<=1000000)(hm:m.length<=1000000):Rm i w (aa (.own l)) (aa (.own m)) (aa (.v (.e (.int z)))) ρ=.next ((ρ.set w (.own (m.eraseIdx k))).set i (.own (l++[d]))):=by simp only[Rm,Rk.st,hz,hd];rw[if_pos ⟨h,lt_size hl,hm⟩]
theorem jaf:run fu Γ G (.fgt i) ρ=.next (ρ.set i .un):=(rfl)
end
section
variable{f g:En->So}{ρ:En}{i j:Nat}{d:D}{l m:List D}{r:Rc}{x:Rk}
theorem j32:Lr (.next ρ) f=f ρ:=(rfl)
theorem Lq:Lr (.ret r) f=.ret r:=(rfl)
theorem jia:ifS (aa af) f g ρ=f ρ:=(rfl)
theorem jib:ifS (aa ae) f g ρ=g ρ:=(rfl)
theorem jcy:M9 i (aa (.v (.o l))) ρ=.next (ρ.set i (.own l)):=(rfl)
theorem jcz:M9 i (aa (.v (.e d))) ρ=.next (ρ.set i (.val d)):=(rfl)
theorem jda:retS (aa (.v (.o l)))=.ret (.fresh l):=(rfl)
theorem j3b:retS (aa (.v (.e d)))=.ret (.val d):=(rfl)
theorem jaj:Ww (aa (.own l))=.ret (.fresh l):=(rfl)
theorem jai:Ww (aa (.val d))=.ret (.val d):=(rfl)
theorem je8(h:i≠j):K9 i j (aa (.own l)) ρ=.next ((ρ.set j .un).set i (.own l)):=if_neg h
theorem jf4:Ig (aa (.v x)) ρ=.next ρ:=(rfl)
theorem Zh:Ur [i] f d ρ=f (ρ.set i (.val d)):=(rfl)
theorem jb8{is:List Nat}{ds:List D}:j95 is (aa (.i ds)) f ρ=vf (Ur is f) ds ρ:=(rfl)
theorem jg3(h:l.length<=1000000):Nm i (aa (.own l)) (aa (.v (.e d))) ρ=.next (ρ.set i (.own (l++[d]))):=by simp[Nm,Rk.st,lt_size h]
theorem jf3(h:l.length+m.length<=1000000):N6 i (aa (.own l)) (aa (.v (.o m))) ρ=.next (ρ.set i (.own (l++m))):=by simp[N6,jj,vz h]
theorem j3d{j:Int}{n:Nat}(h:ixN l.length j=aa n):Bl i (aa (.own l)) (aa (.v (.e (.int j)))) (aa (.v (.e d))) ρ=.next (ρ.set i (.own (l.set n d))):=by simp[Bl,Rk.st,Rk.d,h]
theorem j0m:fin (.ret r)=r:=(rfl)
theorem j7w:fin (.next ρ)=.val .non:=(rfl)
theorem qe{fu:Nat}{G:ao->Option D}{T:ao->Option Fi}{n:Nat}{f:ao}{ds:List D}{F:Fi}(h:T f=aa F)(hl:ds.length=F.n)(hla:F.lam=ae:=by rfl):evP fu G T (n+1) f ds=fin (run fu (evP fu G T n) G F.body (enter F ds)):=by simp only[evP,h,if_pos hl,hla,Xq,if_false]
end
theorem Qv{f:D->En->So}(W:Nat->En->Prop):∀{ds:List D}{ρ:En}{k:Nat},W k ρ->(∀i d ρ,ds[i]?=aa d->W (k+i) ρ->∃ρ',f d ρ=.next ρ'/\W (k+i+1) ρ')->∃ρ',vf f ds ρ=.next ρ'/\W (k+ds.length) ρ'
 |[],ρ,k,h0,_=>⟨ρ,rfl,h0⟩
 |d::ds,ρ,k,h0,hs=>by
  obtain⟨ρ1,e1,w1⟩:=hs 0 d ρ rfl h0;obtain⟨ρ2,e2,w2⟩:=Qv (f:=f) W (ds:=ds) (k:=k+1) w1 λi d' ρ' hi w=>by have:=hs (i+1) d' ρ' (by simpa using hi) (by rw[show k+(i+1)=k+1+i by omega];exact w);rw[show k+(i+1)+1=k+1+i+1 by omega]at this;exact this
  refine⟨ρ2,?_,by rw[xr,show k+(ds.length+1)=k+1+ds.length by omega];exact w2⟩;rw[vf,e1];exact e2
theorem Ke{f:D->En->So}(W:Nat->En){ds:List D}{ρ:En}(h0:ρ=W 0)(hs:∀i d,ds[i]?=aa d->f d (W i)=.next (W (i+1))):vf f ds ρ=.next (W ds.length):=by
 obtain⟨ρ',e,w⟩:=Qv (f:=f) (λi ρ=>ρ=W i) (k:=0) (ds:=ds) (ρ:=W 0) rfl λi d ρ hi w=>⟨W (0+i+1),by rw[w,cz];exact hs i d hi,rfl⟩
 rw[h0,e,w,cz]
theorem j60{f:D->En->So}{ds:List D}{ρ:En}{g:En->So}{r:Rc}(W:Nat->En->Prop)(h0:W 0 ρ)(hs:∀i d ρ,ds[i]?=aa d->W i ρ->∃ρ',f d ρ=.next ρ'/\W (i+1) ρ')(hk:∀ρ',W ds.length ρ'->fin (g ρ')=r) :
  fin (Lr (vf f ds ρ) g)=r:=by
 obtain⟨ρ',e,w⟩:=Qv (f:=f) W (k:=0) (ds:=ds) (ρ:=ρ) h0 λi d ρ hi w=>by rw[cz]at w ⊢;exact hs i d ρ hi w
 rw[e];rw[cz]at w;exact hk ρ' w
theorem j31{f:D->En->So}{ds:List D}{ρ:En}{g:En->So}{Q:En->Prop}(W:Nat->En->Prop)(h0:W 0 ρ)(hs:∀i d ρ,ds[i]?=aa d->W i ρ->∃ρ',f d ρ=.next ρ'/\W (i+1) ρ')
  (hk:∀ρ',W ds.length ρ'->∃ρ2,g ρ'=.next ρ2/\Q ρ2):∃ρ2,Lr (vf f ds ρ) g=.next ρ2/\Q ρ2:=by
 obtain⟨ρ',e,w⟩:=Qv (f:=f) W (k:=0) (ds:=ds) (ρ:=ρ) h0 λi d ρ hi w=>by rw[cz]at w ⊢;exact hs i d ρ hi w
 rw[e];rw[cz]at w;exact hk ρ' w
theorem j3v{f:D->En->So}{ρ:En}:vf f [] ρ=.next ρ:=(rfl)
theorem Oc{f:D->En->So}{d:D}{ds:List D}{ρ ρ':En}(h:f d ρ=.next ρ'):vf f (d::ds) ρ=vf f ds ρ':=by rw[vf,h]
noncomputable def j9a(d:Option D):Option W:=d.map λd=>.v (.e d)
noncomputable def j7n(i:Option Int):Option W:=i.map λk=>.v (.e (.int k))
noncomputable def jez(a:Option W):Option W:=match a with
 |some (.v x)=>aa (.v (.e (.bl x.d.isNon)))
 |_=>ah
noncomputable def j8o(k:Option Bool)(f:En->Option W)(ρ:En):Option W:=match k with
 |some ae=>aa (.v (.e (.bl ae)))
 |some af=>blW (truth (f ρ))
 |none=>ah
noncomputable def orW(k:Option Bool)(f:En->Option W)(ρ:En):Option W:=match k with
 |some af=>aa (.v (.e (.bl af)))
 |some ae=>blW (truth (f ρ))
 |none=>ah
noncomputable def je5(k:Option Bool):Option W:=k.map λk=>.v (.e (.bl (!k)))
noncomputable def stW(a:Option W):Option W:=match a with
 |some (.v x)=>x.st.map λd=>.v (.e d)
 |_=>ah
noncomputable def j7d(k:Option Bool)(f g:En->Option W)(ρ:En):Option W:=match k with
 |some af=>stW (f ρ)
 |some ae=>stW (g ρ)
 |none=>ah
noncomputable def slW(a:Option W)(l h:Option (Option Int)):Option W:=match a,l,h with
 |some (.v x),aa l,aa h=>match x.sq with
  |some (af,ds)=>aa (.v (.o (cutD ds l h)))
  |some (ae,ds)=>if HT.sIx ds.length 0 l=0/\HT.sIx ds.length ds.length h=ds.length then ah else aa (.v (.e (.tup (cutD ds l h))))
  |none=>match x.d with
   |.str z=>if jj z.length=af then aa (.v (.e (.str (c9 z l h))))else ah
   |_=>ah
 |_,_,_=>ah
noncomputable def Vd(is:List Nat)(c e:En->Option W)(ρ:En)(d:D):Option (Option D):=match zj is d ρ with
 |none=>ah
 |some ρ2=>match c ρ2 with
  |some (.a [])=>match e ρ2 with
   |some (.v x)=>x.st.map aa
   |_=>ah
  |some (.a [y])=>match y.d with
   |.bl af=>match e ρ2 with
    |some (.v x)=>x.st.map aa
    |_=>ah
   |.bl ae=>aa ah
   |_=>ah
  |_=>ah
noncomputable def j28(is:List Nat)(w:Option W)(c e:En->Option W)(z:Bool)(ρ:En):Option W:=match w with
 |some (.i ds)=>if Cq is ρ=af/\jj ds.length=af then(Jx (Vd is c e ρ) ds).bind λl=>if (z && !qi l)=af then ah else aa (.v (.o l))else ah
 |_=>ah
section
variable{Γ:ao->List D->Rc}{G:ao->Option D}{ρ:En}{a b c e:Ex}{op:Bop}{cp:Cop}{x f:ao}{i:Nat}{d:D}
theorem jfc:ev Γ G (.lit d) ρ=aa (.v (.e d)):=(rfl)
theorem jf5:ev Γ G (.var i) ρ=Ox ρ[i]?:=(rfl)
theorem jbw:ev Γ G (.glob x) ρ=j9a (G x):=(rfl)
theorem jfk:ev Γ G (.bin op a b) ρ=Qc op (ev Γ G a ρ) (ev Γ G b ρ):=(rfl)
theorem jfi:ev Γ G (.cmp cp a b) ρ=Nf cp (ev Γ G a ρ) (ev Γ G b ρ):=(rfl)
theorem jff:ev Γ G (.isN a) ρ=jez (ev Γ G a ρ):=(rfl)
theorem jfl:ev Γ G (.and a b) ρ=j8o (truth (ev Γ G a ρ)) (ev Γ G b) ρ:=(rfl)
theorem jim:ev Γ G (.or a b) ρ=orW (truth (ev Γ G a ρ)) (ev Γ G b) ρ:=(rfl)
theorem jf9:ev Γ G (.not a) ρ=je5 (truth (ev Γ G a ρ)):=(rfl)
theorem jfd:ev Γ G (.ite c a b) ρ=j7d (truth (ev Γ G c ρ)) (ev Γ G a) (ev Γ G b) ρ:=(rfl)
theorem jfa:ev Γ G .nil ρ=aa (.a []):=(rfl)
theorem jby:ev Γ G (.cons a b) ρ=consW (ev Γ G a ρ) (ev Γ G b ρ):=(rfl)
theorem jf6:ev Γ G (.tup a) ρ=Vo (ev Γ G a ρ):=(rfl)
theorem jfb:ev Γ G (.lst a) ρ=Uc (ev Γ G a ρ):=(rfl)
theorem jin:ev Γ G (.ix a b) ρ=ixW (ev Γ G a ρ) (ev Γ G b ρ):=(rfl)
theorem jil:ev Γ G (.sl a b c) ρ=slW (ev Γ G a ρ) (Q5 (ev Γ G b ρ)) (Q5 (ev Γ G c ρ)):=(rfl)
theorem jbv{sep:ao}:ev Γ G (.join sep a) ρ=Ye sep (ev Γ G a ρ):=(rfl)
theorem j84{y z:ao}:Jp .isin (.str y) (.str z)=aa (inS y z):=(rfl)
theorem jd1{y:ao}(h:ascii y=af):W2 (aa (.v (.e (.str y))))=aa (.i (chs y)):=if_pos h
theorem jbx{b:Ex}:ev Γ G (.dzip a b) ρ=Ra (ev Γ G a ρ) (ev Γ G b ρ):=(rfl)
theorem jfh{b:Ex}:ev Γ G (.dix a b) ρ=N8 (ev Γ G a ρ) (ev Γ G b ρ):=(rfl)
theorem jfn{kvs:List (ao×Int)}{k:ao}{n:Int}(h:Z5 kvs k=aa n):N8 (aa (.v (.e (.sct kvs)))) (aa (.v (.e (.str k))))=aa (.v (.e (.int n))):=by simp only[N8,Rk.d,h];rfl
theorem jc0:ev Γ G (.call f a) ρ=Jy Γ f (ev Γ G a ρ):=(rfl)
theorem jfj{f:Bf}:ev Γ G (.blt f a) ρ=J4 f (ev Γ G a ρ):=(rfl)
theorem jfe{ts:List String}:ev Γ G (.isi a ts) ρ=Bu (ev Γ G a ρ) ts:=(rfl)
theorem jbz{is:List Nat}:ev Γ G (.comp is e a c) ρ=j28 is (ev Γ G a (frz a ρ)) (ev Γ G c) (ev Γ G e) (Jb a ρ) (frz a ρ):=(rfl)
theorem jf7:ev Γ G (.seq a) ρ=W2 (ev Γ G a ρ):=(rfl)
theorem j7y:ev Γ G (.range a) ρ=W7 (ev Γ G a ρ):=(rfl)
end
section
variable{x y:Rk}{d:D}{i j k:Int}{l m:List D}{b:Bool}{f g:En->Option W}{ρ:En}{xs:List Rk}{op:Bop}{cp:Cop}
theorem jci:Ox (aa (.val d))=aa (.v (.e d)):=(rfl)
theorem jcj:Ox (aa (.own l))=aa (.v (.w l)):=(rfl)
theorem jbn:j9a (aa d)=aa (.v (.e d)):=(rfl)
theorem jf0:j7n (aa i)=aa (.v (.e (.int i))):=(rfl)
theorem jir:blW (aa b)=aa (.v (.e (.bl b))):=(rfl)
theorem jg1:Qc op (aa (.v (.e (.int i)))) (aa (.v (.e (.int j))))=j7n (binI op i j):=by simp only[Qc,Us,Rk.d,j7n,rkW];cases binI op i j<;>rfl
theorem j8k:binI .add i j=aa (i+j):=(rfl)
theorem j8g:binI .sub i j=aa (i-j):=(rfl)
theorem j8i(h:(-18446744073709551616<i/\i<18446744073709551616)\/(-18446744073709551616<j/\j<18446744073709551616)):binI .mul i j=aa (i*j):=if_pos h
theorem j5a(h:0<j/\j<18446744073709551616):binI .fdiv i j=aa (i/j):=if_pos h
theorem j8j(h:0<j):binI .mod i j=aa (i%j):=if_pos h
theorem j8h(h:0<=j/\j<=1000000/\i.natAbs<18446744073709551616):binI .shl i j=aa (i*2^j.toNat):=if_pos h
theorem jfy(h:l.length+m.length<=1000000):Qc .add (aa (.v (.o l))) (aa (.v (.w m)))=aa (.v (.o (l++m))):=by simp[Qc,Us,Rk.d,Rk.sq,jj,vz h,rkW]
theorem jfx(h:l.length+m.length<=1000000):Qc .add (aa (.v (.e (.tup l)))) (aa (.v (.e (.tup m))))=aa (.v (.e (.tup (l++m)))):=by simp[Qc,Us,Rk.d,Rk.sq,jj,vz h,rkW]
theorem jh9(h:-9223372036854775808<=k/\k<9223372036854775808)(h2:l.length*k.toNat<=1000000):Qc .mul (aa (.v (.o l))) (aa (.v (.e (.int k))))=aa (.v (.o (az k.toNat l).flatten)):=by simp only[Qc,Us,Rk.d,Rk.sq,Rk.lw];rw[if_pos ⟨h.1,h.2,decide_eq_true (vz h2)⟩];rfl
theorem jfr:Nf cp (aa (.v x)) (aa (.v y))=blW (Jp cp x.d y.d):=(rfl)
theorem d_e:(Rk.e d).d=d:=(rfl)
theorem d_o:(Rk.o l).d=.lst l:=(rfl)
theorem d_w:(Rk.w l).d=.lst l:=(rfl)
theorem jfs:Jp cp (.int i) (.int j)=cmpI cp i j:=by cases cp<;>rfl
theorem j83{a b:Bool}:Jp .ne (.bl a) (.bl b)=aa (a != b):=(rfl)
theorem j87{a b:Bool}:Jp .eq (.bl a) (.bl b)=aa (a==b):=(rfl)
theorem j86(h:(D.lst l).dep<=90)(h2:(D.lst m).dep<=90):Jp .eq (.lst l) (.lst m)=aa (v9 l m):=by simp[Jp,h,h2,Ii,Ik]
theorem j85{a b:ao}:Jp .eq (.str a) (.str b)=aa (a==b):=by simp[Jp,D.dep,Ij]
theorem j4z:Jp .eq (.lst []) (.lst [])=aa (v9 [] []):=j86 (by simp[D.dep,D.depL]) (by simp[D.dep,D.depL])
theorem j4p(h:i<j):cmpI .lt i j=aa af:=by simp[cmpI,h]
theorem j4q(h:j<=i):cmpI .lt i j=aa ae:=by simp[cmpI];omega
theorem j4r(h:i<=j):cmpI .le i j=aa af:=by simp[cmpI,h]
theorem j4s(h:j<i):cmpI .le i j=aa ae:=by simp[cmpI];omega
theorem j4t(h:j<i):cmpI .gt i j=aa af:=by simp[cmpI,h]
theorem j4u(h:i<=j):cmpI .gt i j=aa ae:=by simp[cmpI];omega
theorem j4v(h:j<=i):cmpI .ge i j=aa af:=by simp[cmpI,h]
theorem j4w(h:i<j):cmpI .ge i j=aa ae:=by simp[cmpI];omega
theorem j4x(h:i=j):cmpI .eq i j=aa af:=by simp[cmpI,h]
theorem j4y(h:i≠j):cmpI .eq i j=aa ae:=by simp[cmpI,h]
theorem j0s:cmpI .eq i j=aa (decide (i=j)):=(rfl)
theorem jey:jez (aa (.v x))=aa (.v (.e (.bl x.d.isNon))):=(rfl)
theorem j9z:truth (aa (.v (.e (.bl b))))=aa b:=(rfl)
theorem j5q:truth (aa (.v (.t (.bl b))))=aa b:=(rfl)
theorem jg6:j8o (aa ae) f ρ=aa (.v (.e (.bl ae))):=(rfl)
theorem jg5:j8o (aa af) f ρ=blW (truth (f ρ)):=(rfl)
theorem jhn:orW (aa ae) f ρ=blW (truth (f ρ)):=(rfl)
theorem je4:je5 (aa b)=aa (.v (.e (.bl (!b)))):=(rfl)
theorem jh0:stW (aa (.v (.e d)))=aa (.v (.e d)):=(rfl)
theorem jeu:j7d (aa af) f g ρ=stW (f ρ):=(rfl)
theorem jev:j7d (aa ae) f g ρ=stW (g ρ):=(rfl)
theorem jc3:consW (aa (.v x)) (aa (.a xs))=aa (.a (x::xs)):=(rfl)
theorem Lb(h:vd xs=aa l)(hl:l.length<=1000000):Vo (aa (.a xs))=aa (.v (.e (.tup l))):=by simp[Vo,h,jj,vz hl]
theorem jec(h:vd xs=aa l)(hl:l.length<=1000000):Uc (aa (.a xs))=aa (.v (.o l)):=by simp[Uc,h,jj,vz hl]
theorem jcp:Vo (aa (.a []))=aa (.v (.e (.tup []))):=by simp[Vo,vd,jj]
theorem jco{a:D}:Vo (aa (.a [.e a]))=aa (.v (.e (.tup [a]))):=Lb rfl (by simp)
theorem jcn{a b:D}:Vo (aa (.a [.e a,.e b]))=aa (.v (.e (.tup [a,b]))):=Lb rfl (by simp)
theorem jee:Uc (aa (.a []))=aa (.v (.o [])):=by simp[Uc,vd,jj]
theorem jed{a:D}:Uc (aa (.a [.e a]))=aa (.v (.o [a])):=jec rfl (by simp)
theorem jcm{a b c:D}:Vo (aa (.a [.e a,.e b,.e c]))=aa (.v (.e (.tup [a,b,c]))):=Lb rfl (by simp)
noncomputable def Cm(o:Option D):Option W:=o.map λd=>.v (.e d)
theorem j0j:Cm (aa d)=aa (.v (.e d)):=(rfl)
theorem jer:ixW (aa (.v (.e (.lst l)))) (aa (.v (.e (.int i))))=Cm (atI l i):=(rfl)
theorem jeq:ixW (aa (.v (.e (.tup l)))) (aa (.v (.e (.int i))))=Cm (atI l i):=(rfl)
theorem ji7:ixW (aa (.v (.w l))) (aa (.v (.e (.int i))))=Cm (atI l i):=(rfl)
noncomputable def jfv(c:Option Nat):Option W:=match c with
 |some c=>aa (.v (.e (.str ⟨#[c]⟩)))
 |none=>ah
theorem jfu{c:Nat}:jfv (aa c)=aa (.v (.e (.str ⟨#[c]⟩))):=(rfl)
theorem ji8{z:ao}(h:z.length<=1000000):ixW (aa (.v (.e (.str z)))) (aa (.v (.e (.int i))))=jfv (atI z.cps.toList i):=by simp only[ixW,Rk.sq,Rk.d,jj,vz h,decide_true,if_true];cases atI z.cps.toList i<;>rfl
theorem jh3{z:ao}{lo hi:Option Int}(h:z.length<=1000000):slW (aa (.v (.e (.str z)))) (aa lo) (aa hi)=aa (.v (.e (.str (c9 z lo hi)))):=by simp only[slW,Rk.sq,Rk.d,jj,vz h,decide_true,if_true]
theorem Iz{y z:ao}(h:y.length+z.length<=1000000):Qc .add (aa (.v (.e (.str y)))) (aa (.v (.e (.str z))))=aa (.v (.e (.str (y++z)))):=by simp[Qc,Us,Rk.d,jj,vz h,rkW]
theorem ji0{z:ao}(h:z.length<=1000000):J4 .len (aa (.a [.e (.str z)]))=aa (.v (.e (.int z.length))):=by simp only[J4,V9,Rk.d,jj,vz h,decide_true,if_true];rfl
theorem j1z{ns:List Int}:intsOf (ns.map D.int)=aa ns:=by
 induction ns with
 |nil=>rfl
 |cons b bs ih=>rw[X4,intsOf,ih];rfl
theorem Ve{ns:List ao}:strsOf (ns.map D.str)=aa ns:=by
 induction ns with
 |nil=>rfl
 |cons b bs ih=>rw[X4,strsOf,ih];rfl
theorem j0f{sep:ao}{ts:List ao}(h:cJ sep ts=af):Ye sep (aa (.v (.o (ts.map D.str))))=aa (.v (.e (.str (bZ sep ts)))):=by simp only[Ye,Rk.d,Ve,h,if_true]
theorem j8e:Q5 (aa (.a []))=aa ah:=(rfl)
theorem j8d:Q5 (aa (.a [.e (.int i)]))=aa (aa i):=(rfl)
variable{lo hi:Option Int}
variable{Γ:ao->List D->Rc}{fn:ao}
noncomputable def rcW(r:Rc):Option W:=match r with
 |.val d=>aa (.v (.e d))
 |.fresh l=>aa (.v (.o l))
 |_=>ah
theorem jha:rcW (.val d)=aa (.v (.e d)):=(rfl)
theorem jhb:rcW (.fresh l)=aa (.v (.o l)):=(rfl)
theorem Yy(h:vd xs=aa l):Jy Γ fn (aa (.a xs))=rcW (Γ fn l):=by simp only[Jy,h];cases Γ fn l<;>rfl
theorem jc7{a:D}:Jy Γ fn (aa (.a [.e a]))=rcW (Γ fn [a]):=Yy rfl
theorem jc6{a b:D}:Jy Γ fn (aa (.a [.e a,.e b]))=rcW (Γ fn [a,b]):=Yy rfl
theorem jc5{a b c:D}:Jy Γ fn (aa (.a [.e a,.e b,.e c]))=rcW (Γ fn [a,b,c]):=Yy rfl
theorem j8b:Jy Γ fn (aa (.a [.o l]))=rcW (Γ fn [.lst l]):=Yy rfl
theorem j8c{a:D}:Jy Γ fn (aa (.a [.e a,.o l]))=rcW (Γ fn [a,.lst l]):=Yy rfl
noncomputable def rcT(r:Rc):Option W:=match r with
 |.val d=>aa (.v (.t d))
 |.fresh l=>if qi l=af then aa (.v (.o l))else ah
 |_=>ah
theorem jhc:rcT (.val d)=aa (.v (.t d)):=(rfl)
theorem jhd{l:List D}(h:qi l=af):rcT (.fresh l)=aa (.v (.o l)):=if_pos h
theorem Ng(h:vd xs=ah):Jy Γ fn (aa (.a xs))=rcT (Γ fn (xs.map Rk.d)):=by simp only[Jy,h];cases Γ fn (xs.map Rk.d)<;>rfl
theorem j8a:Jy Γ fn (aa (.a [.w m]))=rcT (Γ fn [.lst m]):=Ng rfl
theorem ji1:J4 .len (aa (.a [.e (.lst l)]))=aa (.v (.e (.int l.length))):=(rfl)
theorem jhz:J4 .len (aa (.a [.e (.tup l)]))=aa (.v (.e (.int l.length))):=(rfl)
theorem jhy:J4 .len (aa (.a [.w l]))=aa (.v (.e (.int l.length))):=(rfl)
theorem je9:J4 .min (aa (.a [.e (.int i),.e (.int j)]))=aa (.v (.e (.int (if j<i then j else i)))):=(rfl)
theorem j9y:J4 .tuple (aa (.a [.w l]))=aa (.v (.e (.tup l))):=(rfl)
theorem j5n:J4 .tuple (aa (.a [.e (.lst l)]))=aa (.v (.e (.tup l))):=(rfl)
theorem jef:J4 .list (aa (.a [.w l]))=aa (.v (.o l)):=(rfl)
theorem Ew{bs:List Bool}:boolsOf (bs.map D.bl)=aa bs:=by
 induction bs with
 |nil=>rfl
 |cons b bs ih=>rw[X4,boolsOf,ih];rfl
theorem jiu{bs:List Bool}:J4 .all (aa (.a [.o (bs.map D.bl)]))=aa (.v (.e (.bl (bs.all id)))):=by simp only[J4,V9,Rk.d,Ew];rfl
theorem jex{ts:List String}:Bu (aa (.v x)) ts=blW (jy x.d ts):=(rfl)
theorem ja7:W2 (aa (.v (.e (.lst l))))=aa (.i l):=(rfl)
theorem ja6:W2 (aa (.v (.e (.tup l))))=aa (.i l):=(rfl)
theorem jd2:W2 (aa (.v (.o l)))=aa (.i l):=(rfl)
theorem j6k(h:-4611686018427387904<=i/\i<4611686018427387904):W7 (aa (.a [.e (.int i)]))=aa (.i (upto 0 i.toNat)):=if_pos h
theorem zx{is:List Nat}{c e:En->Option W}{z:Bool}{ds l:List D}(hf:Cq is ρ=af)(hl:ds.length<=1000000)(h:Jx (Vd is c e ρ) ds=aa l)(hz:z=ae\/qi l=af):j28 is (aa (.i ds)) c e z ρ=aa (.v (.o l)):=by simp only[j28,hf,jj,vz hl,decide_true,and_self,if_true,h,gH];rcases hz with z|z<;>simp[z]
theorem vy{i:Nat}{c e:En->Option W}(hc:c (ρ.set i (.val d))=aa (.a [])){d':D}(he:e (ρ.set i (.val d))=aa (.v (.e d'))):Vd [i] c e ρ d=aa (aa d'):=by simp[Vd,zj,hc,he,Rk.st]
theorem La{i:Nat}{c e:En->Option W}{b:Bool}{d':D}(hc:c (ρ.set i (.val d))=aa (.a [.e (.bl b)]))(he:b=af->e (ρ.set i (.val d))=aa (.v (.e d'))):Vd [i] c e ρ d=aa (if b=af then aa d' else ah):=by
 cases b with
 |true=>simp[Vd,zj,hc,he rfl,Rk.st,Rk.d]
 |false=>simp[Vd,zj,hc,Rk.d]
theorem V6{α:Type}{xs:List α}{n:Nat}{x:α}(h:xs[n]?=aa x):atI xs (n:Int)=aa x:=U0 h
end
section
theorem j7g:jy .non ["list","tuple"]=aa ae:=by simp[jy,qp,D.ty]
theorem j7j {b:Bool}:jy (.bl b) ["list","tuple"]=aa ae:=by simp[jy,qp,D.ty]
theorem jbh {b:Bool}:jy (.bl b) ["bool"]=aa af:=by simp[jy,qp,D.ty]
theorem jbc {b:Bool}:jy (.bl b) ["str"]=aa ae:=by simp[jy,qp,D.ty]
theorem j7m {b:Bool}:jy (.bl b) ["int","str"]=aa af:=by simp[jy,qp,D.ty]
theorem j7i {i:Int}:jy (.int i) ["list","tuple"]=aa ae:=by simp[jy,qp,D.ty]
theorem jbg {i:Int}:jy (.int i) ["bool"]=aa ae:=by simp[jy,qp,D.ty]
theorem jbb {i:Int}:jy (.int i) ["str"]=aa ae:=by simp[jy,qp,D.ty]
theorem j7l {i:Int}:jy (.int i) ["int","str"]=aa af:=by simp[jy,qp,D.ty]
theorem j7f {z:ao}:jy (.str z) ["list","tuple"]=aa ae:=by simp[jy,qp,D.ty]
theorem jbf {z:ao}:jy (.str z) ["bool"]=aa ae:=by simp[jy,qp,D.ty]
theorem jba {z:ao}:jy (.str z) ["str"]=aa af:=by simp[jy,qp,D.ty]
theorem j7k {z:ao}:jy (.str z) ["int","str"]=aa af:=by simp[jy,qp,D.ty]
theorem j7e {l:List D}:jy (.tup l) ["list","tuple"]=aa af:=by simp[jy,qp,D.ty]
theorem jbd {l:List D}:jy (.tup l) ["list"]=aa ae:=by simp[jy,qp,D.ty]
theorem j7h {l:List D}:jy (.lst l) ["list","tuple"]=aa af:=by simp[jy,qp,D.ty]
theorem jbe {l:List D}:jy (.lst l) ["list"]=aa af:=by simp[jy,qp,D.ty]
theorem jbj:D.isNon .non=af:=(rfl)
theorem jbl{b:Bool}:D.isNon (.bl b)=ae:=(rfl)
theorem jbk{i:Int}:D.isNon (.int i)=ae:=(rfl)
theorem jbi{z:ao}:D.isNon (.str z)=ae:=(rfl)
end
section
noncomputable abbrev Wh(r:List Int):D:=.tup (r.map .int)
noncomputable abbrev Z4(rs:List (List Int)):List D:=rs.map Wh
theorem qz{α:Type}{f:D->Option (Option D)}{h g:α->D}{L:List α}(q:∀x∈L,f (h x)=aa (aa (g x))):Jx f (L.map h)=aa (L.map g):=by
 induction L with
 |nil=>rfl
 |cons x L ih=>rw[X4,Jx,q x (xm ..),ih λy hy=>q y (km _ hy)];rfl
theorem Um{f:D->Option (Option D)}:∀{ds:List D},(∀d∈ds,f d=aa ah)->Jx f ds=aa []
 |[],_=>rfl
 |d::ds,h=>by rw[Jx,h d (xm ..),Um λd hd=>h d (km _ hd)]
theorem take_snoc{α:Type}{l:List α}{i:Nat}{x:α}(h:l[i]?=aa x):l.take (i+1)=l.take i++[x]:=by rw[cM,h];rfl
theorem Ky{α β:Type}{f:α->β}{l:List α}{i:Nat}{y:β}(h:(l.map f)[i]?=aa y):∃x,l[i]?=aa x/\y=f x:=by
 rw[X6]at h;cases e:l[i]? with
 |none=>rw[e]at h;cases h
 |some x=>rw[e]at h;cases h;exact⟨x,rfl,rfl⟩
theorem j7c{α:Type}{c:Prop}[Decidable c]{x:α}:(if c then x else x)=x:=by split<;>rfl
theorem j3y{l:List D}(h:J3 (.tup l)):l.length<=1000/\Qi l:=by simpa [J3]using h
theorem j40{l:List D}(h:J3 (.lst l)):l.length<=1000/\Qi l:=by simpa [J3]using h
end
section
theorem Df(p:List Int):D.depL (p.map D.int)=0:=by
 induction p with
 |nil=>rfl
 |cons t ts ih=>simp[D.depL,D.dep,ih]
end
section
variable{fu:Nat}{Γ:ao->List D->Rc}{G:ao->Option D}{ls:List ao}{ρ:En}{i j k:Nat}{e c es m:Ex}{f x y:ao}{b r:Px}
theorem jd7{p:Px}:run fu Γ G (.px p) ρ=pxS ρ[0]? ρ[1]? λls k=>jc fu Γ G ls p (.exc rfN::ρ.drop 2) k:=(rfl)
theorem j6a {p:Px}:run fu Γ G (.newP i e p) ρ=newS (decide (i<ρ.length)) (ev Γ G e ρ) (G (qm "Pieces")) λls=>jc fu Γ G ls p (ρ.set i (.exc rfN)) 0:=(rfl)
noncomputable def j9c:Sm->So
 |.ret d k'=>.ret (.mval d k')
 |.err x _=>.ret (.merr x)
 |_=>.no
noncomputable def j9d:Sm->So
 |.next ρ' _=>.next ρ'
 |.ret d _=>.ret (.val d)
 |.err x ρ'=>.err x ρ'
 |.no=>.no
theorem jbr{d:D}:j9c (.ret d k)=.ret (.mval d k):=(rfl)
theorem jbs{d:D}:j9d (.ret d k)=.ret (.val d):=(rfl)
theorem Ce{g:List ao->Nat->Sm}:pxS (aa (.val (.lst (ls.map D.str)))) (aa (.val (.int (k:Int)))) g=j9c (g ls k):=by simp only[pxS,Ve,fm,if_true,Xo];cases g ls k<;>rfl
theorem je6 {t:ao} {d:D} {g:List ao->Sm} (h1:t.length<=100000) (h2:(aI t " ").length<=1000000):newS af (aa (.v (.e (.str t)))) (aa d) g=j9d (g (aI t " ")):=by
 have z:jj (aI t " ").length=af:=by simp[jj,vz h2]
 simp only[newS,Rk.d];rw[if_pos ⟨h1,z⟩];cases g (aI t " ")<;>rfl
theorem j6h:jc fu Γ G ls .nop ρ k=.next ρ k:=by rw[jc]
theorem j6f:jc fu Γ G ls (.set i e r) ρ k=j17 i (ev Γ G e ρ) ρ λρ=>jc fu Γ G ls r ρ k:=by rw[jc]
theorem j1a:jc fu Γ G ls (.ifRai c x m r) ρ k=ifP (truth (ev Γ G c ρ)) (U9 x (ev Γ G m ρ) (G (bang x)) ρ) (jc fu Γ G ls r ρ k):=by rw[jc]
theorem j1b:jc fu Γ G ls (.ifCal c f es r) ρ k=ifP (truth (ev Γ G c ρ)) (Up G (Vh Γ ls f (ev Γ G es ρ) k) ρ Sm.ret) (jc fu Γ G ls r ρ k):=by rw[jc]
theorem j6g:jc fu Γ G ls (.ret e) ρ k=Bk (ev Γ G e ρ) k:=by rw[jc]
theorem j39:jc fu Γ G ls (.take i r) ρ k=jc fu Γ G ls r (ρ.set i (.val (.str (ls.getD k "")))) (k+1):=by rw[jc]
theorem j19:jc fu Γ G ls (.takeE r) ρ k=jc fu Γ G ls r ρ (k+1):=by rw[jc]
theorem Em:jc fu Γ G ls (.takeIf i c e r) ρ k=ifP (truth (ev Γ G c ρ)) (jc fu Γ G ls r (ρ.set i (.val (.str (ls.getD k "")))) (k+1)) (j0x i (stOf (ev Γ G e ρ)) ρ λρ=>jc fu Γ G ls r ρ k):=by rw[jc]
theorem j1d:jc fu Γ G ls (.callS i f es r) ρ k=Up G (Vh Γ ls f (ev Γ G es ρ) k) ρ λd k'=>jc fu Γ G ls r (ρ.set i (.val d)) k':=by rw[jc]
theorem j3a:jc fu Γ G ls (.appC i f es r) ρ k=j1h ρ[i]? (Up G (Vh Γ ls f (ev Γ G es ρ) k) ρ λd k'=>j2e i ρ[i]? ρ d λρ=>jc fu Γ G ls r ρ k'):=by rw[jc]
theorem j38:jc fu Γ G ls (.whlA y b r) ρ k=Qz (λρ k=>jc fu Γ G ls b ρ k) (λρ k=>jc fu Γ G ls r ρ k) y ls fu ρ k:=by rw[jc]
theorem j1c:jc fu Γ G ls (.ifAll x m r) ρ k=if ls.length<=k then jc fu Γ G ls r ρ k else U9 x (ev Γ G m ρ) (G (bang x)) ρ:=by rw[jc]
theorem jd0{l:List D}{g:En->Sm}:j17 i (aa (.v (.o l))) ρ g=g (ρ.set i (.own l)):=(rfl)
theorem jdb{d:D}:Bk (aa (.v (.e d))) k=.ret d k:=(rfl)
theorem jic{a b:Sm}:ifP (aa af) a b=a:=(rfl)
theorem jid{a b:Sm}:ifP (aa ae) a b=b:=(rfl)
theorem jg0{d:D}{g:D->Nat->Sm}:Up G (.mval d k) ρ g=g d k:=(rfl)
theorem jc8{d:D}:Vh Γ ls f (aa (.a [.e d])) k=Γ (mq f) [.lst (ls.map D.str),.int (k:Int),d]:=(rfl)
theorem jg4{l:List D}{d:D}{g:En->Sm}(h:l.length<=1000000):j2e i (aa (.own l)) ρ d g=g (ρ.set i (.own (l++[d]))):=if_pos (lt_size h)
theorem jdt{l:List D}{s:Sm}:j1h (aa (.own l)) s=s:=(rfl)
theorem jck{d:D}{g:En->Sm}:j0x i (aa d) ρ g=g (ρ.set i (.val d)):=(rfl)
theorem mget {ls:List ao} {k:Nat} {x:ao} (h:ls[k]?=aa x):ls.getD k "" = x:=by rw[xj,h];rfl
end
end L2
end
section
open PySem (Str)
open L2
noncomputable def jii:=(k6z (k6z (k6z (k6z (k6z (k6z (k6z @jac @jd7) (k6z @j6a (k6z @jbr @jbs))) (k6z (k6z @j6h (k6z @j6f @j1a)) (k6z @j1b (k6z @j6g @j39)))) (k6z (k6z (k6z @j19 (k6z @Em @j1d)) (k6z @j3a (k6z @jd0 @jdb))) (k6z (k6z @jic (k6z @jid @jg0)) (k6z @jc8 (k6z @jg4 @jdt))))) (k6z (k6z (k6z (k6z @jck (k6z @ja9 @ja8)) (k6z @jad (k6z @j6d @jaa))) (k6z (k6z @j69 (k6z @jae @j6c)) (k6z @jah (k6z @jag @jab)))) (k6z (k6z (k6z @jaf (k6z @j6e @jbx)) (k6z @j84 (k6z @jfh @jf8))) (k6z (k6z @j6q (k6z @jfg @j09)) (k6z @j32 (k6z @Lq @jia)))))) (k6z (k6z (k6z (k6z (k6z @jib (k6z @jcy @jcz)) (k6z @jda (k6z @j3b @jaj))) (k6z (k6z @jai (k6z @je8 @jf4)) (k6z @jb8 (k6z @jg3 @jf3)))) (k6z (k6z (k6z @j0m (k6z @j7w @jfc)) (k6z @jf5 (k6z @jbw @jfk))) (k6z (k6z @jfi (k6z @jff @jfl)) (k6z @jim (k6z @jf9 @jfd))))) (k6z (k6z (k6z (k6z @jfa (k6z @jby @jf6)) (k6z @jfb (k6z @jin @jil))) (k6z (k6z @jc0 (k6z @jfj @jfe)) (k6z @jbz (k6z @jf7 @j7y)))) (k6z (k6z (k6z @jci (k6z @jcj @jbn)) (k6z @jf0 (k6z @jir @jg1))) (k6z (k6z @j8k (k6z @j8g @j8i)) (k6z @j5a (k6z @j8j @j8h))))))) (k6z (k6z (k6z (k6z (k6z (k6z @jfy (k6z @jfx @jh9)) (k6z @jfr (k6z @d_e @d_o))) (k6z (k6z @d_w (k6z @jfs @j83)) (k6z @j87 (k6z @j85 @j4z)))) (k6z (k6z (k6z @j7c (k6z @j4p @j4q)) (k6z @j4r (k6z @j4s @j4t))) (k6z (k6z @j4u (k6z @j4v @j4w)) (k6z @j4x (k6z @j4y @jey))))) (k6z (k6z (k6z (k6z @j9z (k6z @j5q @jg6)) (k6z @jg5 (k6z @jhn @je4))) (k6z (k6z @jh0 (k6z @jeu @jev)) (k6z @jc3 (k6z @jcp @jco)))) (k6z (k6z (k6z @jcn (k6z @jee @jed)) (k6z @jcm (k6z @j0j @jer))) (k6z (k6z @jeq (k6z @ji7 @j8e)) (k6z @j8d (k6z @jha @jhb)))))) (k6z (k6z (k6z (k6z (k6z @jhc (k6z @jc7 @jc6)) (k6z @jc5 (k6z @j8b @j8c))) (k6z (k6z @j8a (k6z @ji1 @jhz)) (k6z @jhy (k6z @je9 @j9y)))) (k6z (k6z (k6z @j5n (k6z @jef @jiu)) (k6z @jex (k6z @ja7 @ja6))) (k6z (k6z @jd2 (k6z @j6k @jbv)) (k6z @jcu (k6z @jfu @ji8))))) (k6z (k6z (k6z (k6z @jh3 (k6z @Iz @ji0)) (k6z @j7g (k6z @j7j @jbh))) (k6z (k6z @jbc (k6z @j7m @j7i)) (k6z @jbg (k6z @jbb @j7l)))) (k6z (k6z (k6z @j7f (k6z @jbf @jba)) (k6z @j7k (k6z @j7e @jbd))) (k6z (k6z @j7h (k6z @jbe @jbj)) (k6z @jbl (k6z @jbk @jbi))))))))
local macro_rules | `(tactic| walk_at "go")=>`(tactic| try simp (disch:=first | omega | assumption | (simp only [List.length_map,List.length_append,List.length_cons,List.length_nil,List.length_take,List.length_drop,List.length_reverse] <;> omega)) only [jii,Vu,beq_self_eq_true,frz,Jb,j7u,List.getElem?_cons_zero,List.getElem?_cons_succ,List.set_cons_zero,List.set_cons_succ,List.map_cons,List.map_nil,List.cons_append,List.nil_append,List.replicate,List.length_map,List.length_append,List.length_cons,List.length_nil,Bool.not_true,Bool.not_false,bne_self_eq_false,Nat.reduceSub,Nat.reduceAdd,Int.reduceToNat,Int.reducePow])
local macro_rules | `(tactic| ext)=>`(tactic| walk_at "go")
local macro_rules | `(tactic| erw [$r])=>`(tactic| (rw [$r]; ext)) | `(tactic| erw [$r,$rs,*])=>`(tactic| (rw [$r]; ext; erw [$rs,*]))
namespace KL
noncomputable def J1:Sx:=(.seq (.set 1 (.lst (.cons (.tup .nil) .nil))) (.seq (.loop [2] (.seq (.var 0)) (.seq (.set 3 (.lst .nil)) (.seq (.loop [4] (.seq (.var 1)) (.seq (.ext 3 (.comp [5] (.bin .add (.var 4) (.tup (.cons (.var 5) .nil))) (.seq (.var 2)) .nil)) .nop)) (.seq (.mov 1 3) .nop)))) (.seq (.retV 1) .nop)))
noncomputable def fP_all_choices:Fi:=⟨1,6,J1,ae⟩
noncomputable def Vm:Sx:=(.seq (.ife (.cmp .lt (.var 1) (.blt .len (.cons (.var 0) .nil))) (.seq (.ret (.ix (.var 0) (.var 1))) .nop) .nop) (.seq (.set 2 (.bin .add (.lit (.int 70001)) (.bin .mul (.bin .mul (.lit (.int 911)) (.var 1)) (.var 1)))) (.seq (.ife (.cmp .gt (.blt .len (.cons (.var 0) .nil)) (.lit (.int 0))) (.seq (.set 2 (.bin .add (.var 2) (.bin .mul (.bin .mod (.ix (.var 0) (.lit (.int 0))) (.lit (.int 9973))) (.bin .add (.bin .mul (.lit (.int 3)) (.var 1)) (.lit (.int 1)))))) .nop) .nop) (.seq (.retV 2) .nop))))
noncomputable def fL_cell:Fi:=⟨2,3,Vm,ae⟩
noncomputable def Zk:Sx:=(.seq (.ife (.isi (.var 1) ["list","tuple"]) (.seq (.ife (.or (.cmp .ne (.isi (.var 0) ["list"]) (.isi (.var 1) ["list"])) (.not (.isi (.var 0) ["list","tuple"]))) (.seq (.ret (.lit (.bl ae))) .nop) .nop) (.seq (.set 2 (.comp [3] (.var 3) (.range (.cons (.blt .min (.cons (.blt .len (.cons (.var 0) .nil)) (.cons (.blt .len (.cons (.var 1) .nil)) .nil))) .nil)) (.cons (.not (.call "_law_same" (.cons (.ix (.var 0) (.var 3)) (.cons (.ix (.var 1) (.var 3)) .nil)))) .nil))) (.seq (.ret (.and (.cmp .eq (.blt .len (.cons (.var 0) .nil)) (.blt .len (.cons (.var 1) .nil))) (.cmp .eq (.var 2) (.lst .nil)))) .nop))) .nop) (.seq (.ife (.isN (.var 1)) (.seq (.ret (.isN (.var 0))) .nop) .nop) (.seq (.ife (.or (.cmp .ne (.isi (.var 0) ["bool"]) (.isi (.var 1) ["bool"])) (.cmp .ne (.isi (.var 0) ["str"]) (.isi (.var 1) ["str"]))) (.seq (.ret (.lit (.bl ae))) .nop) .nop) (.seq (.ret (.and (.isi (.var 0) ["int","str"]) (.cmp .eq (.var 0) (.var 1)))) .nop))))
noncomputable def fL_same:Fi:=⟨2,4,Zk,ae⟩
noncomputable def Yz:Sx:=(.seq (.set 2 (.lst .nil)) (.seq (.loop [3] (.range (.cons (.var 0) .nil)) (.seq (.app 2 (.bin .mod (.bin .fdiv (.var 1) (.bin .shl (.lit (.int 1)) (.bin .sub (.bin .sub (.var 0) (.var 3)) (.lit (.int 1))))) (.lit (.int 2)))) .nop)) (.seq (.ret (.blt .tuple (.cons (.var 2) .nil))) .nop)))
noncomputable def fL_row:Fi:=⟨2,4,Yz,ae⟩
section
variable{G:ao->Option D}{T:ao->Option Fi}
noncomputable def vg(ns:List Int)(k:Nat):Int:=match ns[k]? with
 |some v=>v
 |none=>match ns with
  |[]=>70001+911*k*k
  |v::_=>70001+911*k*k+v%9973*(3*k+1)
theorem Wn {fu n:Nat} (hT:T "_law_cell" = aa fL_cell) {ns:List Int} {k:Nat} (hk:k<=100):evP fu G T (n+1) "_law_cell" [.lst (ns.map .int),.int k]=.val (.int (vg ns k)):=by
 rw[qe (F:=fL_cell) hT rfl];simp only[fL_cell,Vm,enter];by_cases h:k<ns.length
 .have e:atI (ns.map D.int) (k:Int)=aa (.int ns[k]):=V6 (by simp[h]);have q:vg ns k=ns[k]:=by simp[vg,h]
  ext;simp only[e,j0j,j3b,j09,Lq,j0m,q]
 .cases ns with
  |nil =>ext;simp[vg]
  |cons v r =>
   have e:atI (D.int v::r.map D.int) 0=aa (.int v):=by simp[atI,ixN]
   have q:vg (v::r) k=70001+911*k*k+v%9973*(3*k+1):=by unfold vg;rw[T5 nofun]
   rw[X4];rw[xr]at h;ext;simp only[e];ext;rw[q]
theorem j6j {fu n m:Nat} (hT:T "_law_row" = aa fL_row) {z:Int} (hm:m<=6):evP fu G T (n+1) "_law_row" [.int m,.int z]=.val (.tup ((qx 2 m z).map .int)):=by
 rw[qe (F:=fL_row) hT rfl];simp only[fL_row,Yz,enter];ext;rw[Ke (λi=>[.val (.int m),.val (.int z),.own (((qx 2 m z).take i).map .int),if i=0 then .un else .val (.int ((i:Int)-1))]) (by simp[qx])]
 .ext;rw[v6,Xo,cL (by rw[Jf];omega)]
 .intro i d hi;obtain⟨h1,rfl⟩:=Cz hi;have hl:(qx 2 m z).length=m:=Jf 2 m z;have hp:0<(2:Int)^((m:Int)-(0+i)-1).toNat/\(2:Int)^((m:Int)-(0+i)-1).toNat<=32:=by
   have:((m:Int)-(0+i)-1).toNat<=5:=by omega
   generalize ((m:Int)-(0+i)-1).toNat=t at *;have:t=0\/t=1\/t=2\/t=3\/t=4\/t=5:=by omega
   rcases this with e|e|e|e|e|e<;>subst e<;>decide
  simp only[Zh];ext;rw[cM,Mq 2 (show i<m by omega)];have et:((m:Int)-(0+i)-1).toNat=m-i-1:=by omega
  simp[et]
theorem j5x(f:List Int):step [] f=[]:=rfl
theorem j2z(acc:List (List Int))(a f:List Int):step (acc++[a]) f=step acc f++f.map λx=>a++[x]:=by simp[step]
theorem Iu(fs:List (List Int))(f:List Int):zy (fs++[f])=step (zy fs) f:=by simp[zy]
theorem Li(acc:List (List Int)){f:List Int}{k:Nat}(h:f.length<=k):(step acc f).length<=acc.length*k:=by
 unfold step;induction acc with
 |nil=>simp
 |cons a acc ih =>rw[Pg,X7,xg,xr,kz];omega
theorem Es{fs:List (List Int)}{k:Nat}(h:∀f∈fs,f.length<=k):(zy fs).length<=k^fs.length:=by
 have go:∀(fs acc:List (List Int)),(∀f∈fs,f.length<=k)->(fs.foldl step acc).length<=acc.length*k^fs.length:=by
  intro fs;induction fs with
  |nil=>intro acc _;simp
  |cons f fs ih =>intro acc hf;have h1:=ih (step acc f) λg hg=>hf g (km _ hg);have h2:=Li acc (hf f (xm ..));rw[T4,xr,gW,fF (k^fs.length) k,<-Nat.mul_assoc];exact Xh h1 (Nat.mul_le_mul_right _ h2)
 have:=go fs [[]] h;simpa [zy]using this
theorem Iv{fs:List (List Int)}{r:List Int}(h:r∈zy fs):r.length=fs.length:=by
 have go:∀(fs acc:List (List Int)) (k:Nat),(∀a∈acc,a.length=k)->∀r∈fs.foldl step acc,r.length=k+fs.length:=by
  intro fs;induction fs with
  |nil=>intro acc k ha r hr;exact ha r hr
  |cons f fs ih =>
   intro acc k ha r hr;have:=ih (step acc f) (k+1) (λa hm=>by
    obtain⟨b,hb,hx⟩:=List.mem_flatMap.mp hm
    obtain⟨x,_,rfl⟩:=Xe.mp hx
    rw[X7,ha b hb];rfl) r hr
   rw[this,xr];omega
 have:=go fs [[]] 0 (λa ha=>by rw[X3.mp ha];rfl) r h;omega
theorem Ir {fu n:Nat} (hT:T "all_choices" = aa fP_all_choices) {fs:List (List Int)} (hf:∀f∈fs,f.length<=3) (hl:fs.length<=6):evP fu G T (n+1) "all_choices" [.lst (Z4 fs)]=.fresh (Z4 (zy fs)):=by
 rw[qe (F:=fP_all_choices) hT rfl];simp only[fP_all_choices,J1,enter];ext;have small:∀i,(zy (fs.take i)).length<=729:=λi=>by
  have h:=Es (fs:=fs.take i) (k:=3) λf hm=>hf f (eS hm);have h2:(fs.take i).length<=6:=by rw[Xj];omega
  exact Xh h (Nat.pow_le_pow_right (by decide) h2)
 refine j60 (λi ρ=>∃s2 s4,ρ=[.val (.lst (Z4 fs)),.own (Z4 (zy (fs.take i))),s2,.un,s4,.un]) ⟨.un,.un,by simp[zy,Z4,Wh]⟩ ?_ ?_
 .rintro i d ρ hi ⟨s2,s4,rfl⟩;obtain⟨f,hfi,rfl⟩:=Ky hi;have hf3:f.length<=3:=hf f (Xn hfi);have sm:=small i;simp only[Zh];ext;refine j31 (λj ρ=>∃s4,ρ=[.val (.lst (Z4 fs)),.val (.lst (Z4 (zy (fs.take i)))),.val (Wh f),.own (Z4 (step ((zy (fs.take i)).take j) f)),s4,.un]) ⟨s4,by simp[j5x]⟩ ?_ ?_
  .rintro j d ρ hj ⟨s4,rfl⟩;obtain⟨a,haj,rfl⟩:=Ky hj;have hs:=Li ((zy (fs.take i)).take j) hf3;have hs2:((zy (fs.take i)).take j).length<=729:=by rw[Xj];omega
   have ha:a.length<=6:=by have:=Iv (Xn haj);rw[Xj]at this;omega
   simp only[Zh];ext;rw[zx (l:=(f.map λx=>Wh (a++[x]))) (by rfl) ?_ ?_ (.inl rfl)]
   .ext;refine⟨_,rfl,.val (Wh a),?_⟩;rw[take_snoc haj,j2z];simp only[Z4,Xz,Xa];rfl
   .simp only[xg];omega
   .refine qz λx _=>vy (by ext) ?_;ext;simp
  .rintro ρ' ⟨s4,rfl⟩;ext;refine⟨_,rfl,.val (Wh f),s4,?_⟩;rw[take_snoc hfi,Iu,cS]
 .rintro ρ' ⟨s2,s4,rfl⟩;ext;rw[cS]
theorem j34 {fu:Nat} (hT:T "_law_same" = aa fL_same):∀(k:Nat){x:D}{n:Nat},x.dep<=k->J3 x->evP fu G T (n+k+1) "_law_same" [x,x]=.val (.bl af):=by
 intro k;induction k with
 |zero =>
  intro x n hk hx;rw[qe (F:=fL_same) hT rfl];simp only[fL_same,Zk,enter];cases x with
  |tup l=>simp[D.dep]at hk
  |lst l=>simp[D.dep]at hk
  |dct ks l=>simp[D.dep]at hk
  |sct k=>simp[D.dep]at hk
  |fn x l=>simp[D.dep]at hk
  |non=>ext
  |bl b=>ext
  |int i=>ext
  |str z=>ext
 |succ k ih =>
  intro x n hk hx;have ih':∀{x:D},x.dep<=k->J3 x->evP fu G T (n+(k+1)) "_law_same" [x,x]=.val (.bl af):=λh1 h2=>ih h1 h2;rw[qe (F:=fL_same) hT rfl];simp only[fL_same,Zk,enter];cases x with
  |dct ks l=>exact aT (by simpa [J3]using hx)
  |sct k=>exact aT (by simpa [J3]using hx)
  |fn x l=>exact aT (by simpa [J3]using hx)
  |tup l =>
   obtain⟨hl,hx⟩:=j3y hx;have hk:D.depL l<=k:=by simp only[D.dep]at hk;omega
   ext;rw[Xo,zx (l:=[]) (by rfl) (by rw[v6];omega) ?_ (.inl rfl)]
   .ext
   .refine Um λd hd=>?_;obtain⟨j,hj,rfl⟩:=Ka hd;have hg:atI l (0+(j:Int))=aa l[j]:=by rw[dj];exact V6 (kh hj)
    have hm:l[j]∈l:=Xx hj;refine La (b:=ae) (d':=.non) ?_ λz=>by cases z
    ext;simp only[hg];ext;rw[ih' (Xh (D.depL_mem hm) hk) (Ud hx hm)];ext
  |lst l =>
   obtain⟨hl,hx⟩:=j40 hx;have hk:D.depL l<=k:=by simp only[D.dep]at hk;omega
   ext;rw[Xo,zx (l:=[]) (by rfl) (by rw[v6];omega) ?_ (.inl rfl)]
   .ext
   .refine Um λd hd=>?_;obtain⟨j,hj,rfl⟩:=Ka hd;have hg:atI l (0+(j:Int))=aa l[j]:=by rw[dj];exact V6 (kh hj)
    have hm:l[j]∈l:=Xx hj;refine La (b:=ae) (d':=.non) ?_ λz=>by cases z
    ext;simp only[hg];ext;rw[ih' (Xh (D.depL_mem hm) hk) (Ud hx hm)];ext
  |non=>ext
  |bl b=>ext
  |int i=>ext
  |str z=>ext
theorem j3z{r:List Int}(h:r.length<=1000):J3 (Wh r):=by
 simp only[J3,xg];refine⟨h,Yd λd hd=>?_⟩;obtain⟨i,_,rfl⟩:=Xe.mp hd
 trivial
theorem Qq(n:Nat):upto 0 n=(aK n).map λ(k:Nat)=>D.int (0+(k:Int)):=rfl
theorem jbp{p:List Int}{k:Nat}(h:k<p.length):atI (p.map D.int) (0+(k:Int))=aa (.int (p.getD k 0)):=by rw[dj];refine V6 ?_;rw[X6,kh h,xj,kh h];rfl
end
end KL
namespace KV
open PySem
noncomputable def letters:List Nat:=[109,100,107,98,118,113,104,122,99,103,114,110,97,112,120,111,108,115,105,101,102,119,116,121,106,117]
theorem jb6:("mdkbvqhzcgrnapxolsiefwtyju":ao).cps.toList=letters:=by decide +kernel
noncomputable def lt(n:Int):Nat:=letters.getD n.toNat 0
noncomputable def sL(l:List Nat):ao:=⟨l.toArray⟩
theorem jx{l:List Nat}:(sL l).length=l.length:=by simp[sL,lz]
theorem Yq{l m:List Nat}(h:sL l=sL m):l=m:=by have:=congrArg (λz=>z.cps.toList) h;simpa [sL]using this
theorem vq{l m:List Nat}:sL l++sL m=sL (l++m):=by show(⟨l.toArray++m.toArray⟩:ao)=_;simp[sL]
theorem Oe:∀l:List Nat,bZ ("":ao) (l.map λc=>(⟨#[c]⟩:ao))=sL l:=by
 intro l;show gr _ _=_;rw[StrLaws.glued_eq_join];induction l with
 |nil=>rfl
 |cons a r ih =>
  cases r with
  |nil=>rfl
  |cons b r =>
   rw[X4,X4,jG,<-X4 (f:=λc=>(⟨#[c]⟩:ao)),ih]
   .show(⟨(#[a] ++ #[])++(b::r).toArray⟩:ao)=⟨(a::b::r).toArray⟩
    simp
   .intro z;cases z
theorem Lw{l:List Nat}:(sL l).cps.toList=l:=by simp[sL]
theorem Oj{k n:Nat}:aN ah (aa (k:Int)) 1 n=aN (aa ((0:Nat):Int)) (aa (k:Int)) 1 n:=by
 have e:max (0:Int) (min 0 (n:Int))=0:=by omega
 simp[aN,e]
theorem Ol{k n:Nat}:aN (aa (k:Int)) ah 1 n=aN (aa (k:Int)) (aa (n:Int)) 1 n:=by
 have e:max (0:Int) (min (n:Int) (n:Int))=n:=by omega
 have e2:¬((n:Int)<0):=by omega
 simp[aN,e,e2]
theorem Lp{l:List Nat}{a b:Nat}{lo hi:Option Int}(he:aN lo hi 1 (sL l).length=aN (aa (a:Int)) (aa (b:Int)) 1 (sL l).length)(hab:a<=b)(hb:b<=l.length):c9 (sL l) lo hi=sL ((l.drop a).take (b-a)):=by
 have hb':b<=(sL l).length:=by rw[jx];exact hb
 have q:=StrLaws.sliced_plain (sL l) hab hb';rw[Lw]at q;have e1:=StrLaws.strSliceIndices_plain hab hb';unfold c9;rw[he];by_cases h:((1:Int)==1&&(aN (aa (a:Int)) (aa (b:Int)) 1 (sL l).length).length==(sL l).length)=af
 .rw[if_pos h];rw[e1,jx,xg,cN]at h;have:b-a=l.length:=by simpa using h
  have ha:a=0:=by omega
  subst ha;rw[this,cn,cS]
 .rw[if_neg h,q];rfl
theorem O1{l:List Nat}{k:Nat}(h:k<=l.length):c9 (sL l) ah (aa (k:Int))=sL (l.take k):=by rw[Lp (a:=0) (b:=k) Oj (d4 _) h];simp
theorem O2{l:List Nat}{k:Nat}(h:k<=l.length):c9 (sL l) (aa (k:Int)) ah=sL (l.drop k):=by rw[Lp (a:=k) (b:=l.length) (by rw[Ol,jx]) h (X5 _),cL (by rw[ph];omega)]
theorem We {l:List Nat} (h:l.length<=100):cJ ("":ao) (l.map λc=>(⟨#[c]⟩:ao))=af:=by
 unfold cJ;rw[dH];have e:∀(r:List Nat)(k:Nat),(r.map λc=>(⟨#[c]⟩:ao)).foldl (λ(x:Nat) (y:ao)=>x+y.length+("":ao).length) k=k+r.length:=by
  intro r;induction r with
  |nil=>intro k;rfl
  |cons a r ih =>intro k;rw[X4,T4,ih,xr];show k+1+0+r.length=_;omega
 show b9 _=ae;have:=e l 0;rw[iA];show b9 (cU (λ(x:Nat) (y:ao)=>x+y.length+("":ao).length) 0 _)=ae;rw[this];unfold b9;simp;have:=cg;omega
noncomputable def Zv(c:Int):List Nat:=(aK 8).map λ(k:Nat)=>lt (c/(4+5*(k:Int))%26)
noncomputable def Z0(c:Int)(s:Nat):List Nat:=(aK s).map λ(k:Nat)=>lt ((c/32+3*(k:Int)*(k:Int)+(k:Int))%26)
theorem J2(c:Int):(Zv c).length=8:=by simp[Zv]
theorem z9(c:Int)(s:Nat):(Z0 c s).length=s:=by simp[Z0]
noncomputable def stN(c:Int)(m:Nat):Nat:=(c/8%(9-(m:Int))).toNat
noncomputable def szN(c:Int):Nat:=(c/4%8).toNat
noncomputable def atN(c:Int):Nat:=(c/512%((szN c:Int)+1)).toNat
noncomputable def wrd(c:Int)(m k:Nat):List Nat :=
 if c%4<2 then(if c%4=0 then(Zv c).take (stN c m+k+1) else(Zv c).drop (8-stN c m-k-1))
 else(Z0 c (szN c)).take (atN c)++lt ((c/9+7*(k:Int))%26)::(Z0 c (szN c)).drop (atN c)
noncomputable def Qy(c:Int)(m:Nat):List ao:=(aK m).map λ(k:Nat)=>sL (wrd c m k)
theorem jeb{a b:Int}(ha:0<=a/\a<26)(hb:0<=b/\b<26)(h:lt a=lt b):a=b:=by
 obtain⟨i,rfl⟩:∃i:Nat,a=(i:Int):=⟨a.toNat,by omega⟩
 obtain⟨j,rfl⟩:∃j:Nat,b=(j:Int):=⟨b.toNat,by omega⟩
 have key:∀i j:Fin 26,letters.getD i.val 0=letters.getD j.val 0->i=j:=by decide +kernel
 have:=key ⟨i,by omega⟩ ⟨j,by omega⟩ h;have:=congrArg Fin.val this;simp at this;omega
theorem j13{c:Int}{m:Nat}(h:m<=6):stN c m+m<=8:=by unfold stN;have h1:=df (c/8) (show(9-(m:Int))≠0 by omega);have h2:=fq (c/8) (show(0:Int)<9-(m:Int)by omega);omega
theorem Cu(c:Int):atN c<=szN c/\szN c<=7:=by unfold atN;have h1:=df (c/512) (show((szN c:Int)+1)≠0 by omega);have h2:=fq (c/512) (show(0:Int)<(szN c:Int)+1 by omega);refine⟨by omega,?_⟩;unfold szN;omega
theorem j9t{c:Int}{m k:Nat}(hm:m<=6)(hk:k<m):1<=(wrd c m k).length/\(wrd c m k).length<=8:=by
 have s:=j13 (c:=c) hm;have a:=Cu c;have l8:=J2 c;have ls:=z9 c (szN c);unfold wrd;split
 .split
  .rw[Xj];omega
  .rw[ph];omega
 .rw[X7,xr,Xj,ph];omega
theorem j9u{c:Int}{m i j:Nat}(hm:m<=6)(hi:i<m)(hj:j<m)(h:wrd c m i=wrd c m j):i=j:=by
 have s:=j13 (c:=c) hm;have a:=Cu c;have l8:=J2 c;have ls:=z9 c (szN c);unfold wrd at h;split at h
 .split at h
  .have:=congrArg hR h;rw[Xj,Xj]at this;omega
  .have:=congrArg hR h;rw[ph,ph]at this;omega
 .have h2:=List.append_cancel_left h;have h3:=(eO h2).1;have:=jeb nofun nofun h3;omega
end KV
open PySem (Str)
open L2
namespace KW
open KL KV PySem
noncomputable def Zj:Sx:=(.seq (.set 2 (.lit (.str "mdkbvqhzcgrnapxolsiefwtyju"))) (.seq (.ife (.cmp .lt (.bin .mod (.var 0) (.lit (.int 4))) (.lit (.int 2))) (.seq (.set 3 (.join "" (.comp [4] (.ix (.var 2) (.bin .mod (.bin .fdiv (.var 0) (.bin .add (.lit (.int 4)) (.bin .mul (.lit (.int 5)) (.var 4)))) (.lit (.int 26)))) (.range (.cons (.lit (.int 8)) .nil)) .nil))) (.seq (.set 5 (.bin .mod (.bin .fdiv (.var 0) (.lit (.int 8))) (.bin .sub (.lit (.int 9)) (.var 1)))) (.seq (.ife (.cmp .eq (.bin .mod (.var 0) (.lit (.int 4))) (.lit (.int 0))) (.seq (.ret (.comp [4] (.sl (.var 3) .nil (.cons (.bin .add (.bin .add (.var 5) (.var 4)) (.lit (.int 1))) .nil)) (.range (.cons (.var 1) .nil)) .nil)) .nop) .nop) (.seq (.ret (.comp [4] (.sl (.var 3) (.cons (.bin .sub (.bin .sub (.bin .sub (.lit (.int 8)) (.var 5)) (.var 4)) (.lit (.int 1))) .nil) .nil) (.range (.cons (.var 1) .nil)) .nil)) .nop)))) .nop) (.seq (.set 6 (.bin .mod (.bin .fdiv (.var 0) (.lit (.int 4))) (.lit (.int 8)))) (.seq (.set 7 (.join "" (.comp [4] (.ix (.var 2) (.bin .mod (.bin .add (.bin .add (.bin .fdiv (.var 0) (.lit (.int 32))) (.bin .mul (.bin .mul (.lit (.int 3)) (.var 4)) (.var 4))) (.var 4)) (.lit (.int 26)))) (.range (.cons (.var 6) .nil)) .nil))) (.seq (.set 8 (.bin .mod (.bin .fdiv (.var 0) (.lit (.int 512))) (.bin .add (.var 6) (.lit (.int 1))))) (.seq (.ret (.comp [4] (.bin .add (.bin .add (.sl (.var 7) .nil (.cons (.var 8) .nil)) (.ix (.var 2) (.bin .mod (.bin .add (.bin .fdiv (.var 0) (.lit (.int 9))) (.bin .mul (.lit (.int 7)) (.var 4))) (.lit (.int 26))))) (.sl (.var 7) (.cons (.var 8) .nil) .nil)) (.range (.cons (.var 1) .nil)) .nil)) .nop))))))
noncomputable def fL_words:Fi:=⟨2,9,Zj,ae⟩
section
variable{G:ao->Option D}{T:ao->Option Fi}
theorem j1t {n:Int} (h:0<=n/\n<26):atI ("mdkbvqhzcgrnapxolsiefwtyju":ao).cps.toList n=aa (lt n):=by
 obtain⟨k,rfl⟩:∃k:Nat,n=(k:Int):=⟨n.toNat,by omega⟩
 have hk:k<letters.length:=by show k<26;omega
 rw[jb6];refine V6 ?_;unfold lt;rw[kh hk,Xo,xj,kh hk];rfl
theorem ji2:("mdkbvqhzcgrnapxolsiefwtyju":ao).length<=1000000:=by decide +kernel
theorem j0w {fu n m:Nat} (hT:T "_law_words" = aa fL_words) {c:Int} (hm:1<=m/\m<=6):evP fu G T (n+1) "_law_words" [.int c,.int m]=.fresh ((Qy c m).map D.str):=by
 rw[qe (F:=fL_words) hT rfl];simp only[fL_words,Zj,enter];have ll:=ji2;by_cases h:c%4<2
 .ext;rw[zx (l:=((Zv c).map λx=>(⟨#[x]⟩:ao)).map D.str) (by rfl) (by rw[v6];decide) ?_ (.inl rfl)];rotate_left
  .rw[Qq,Zv,Xa,Xa];refine qz λk hk'=>vy (by ext) ?_;have hk:=Xr.mp hk';ext;rw[j1t nofun];ext;simp
  rw[j0f (We (by rw[J2];decide)),Oe];have st:=j13 (c:=c) hm.2;obtain⟨s,hs⟩:∃s:Nat,s=stN c m:=⟨_,rfl⟩
  have es:c/8%(9-(m:Int))=(s:Int):=by rw[hs];unfold stN;have:=df (c/8) (show(9-(m:Int))≠0 by omega);omega
  have lg:(sL (Zv c)).length=8:=by rw[jx,J2]
  by_cases h0:c%4=0
  .ext;rw[es,zx (l:=(Qy c m).map D.str) (by rfl) (by rw[v6];omega) ?_ (.inl rfl)]
   .ext
   .rw[Xo,Qq,Qy,Xa];refine qz λk hk'=>vy (by ext) ?_;have hk:=Xr.mp hk';ext;have e:(s:Int)+(0+(k:Int))+1=((s+k+1:Nat):Int):=by omega
    have hh:wrd c m k=(Zv c).take (stN c m+k+1):=by unfold wrd;rw[if_pos h,if_pos h0]
    rw[e,O1 (by rw[J2];omega)];simp only[Function.comp,hh,hs]
  .ext;rw[es,zx (l:=(Qy c m).map D.str) (by rfl) (by rw[v6];omega) ?_ (.inl rfl)]
   .ext
   .rw[Xo,Qq,Qy,Xa];refine qz λk hk'=>vy (by ext) ?_;have hk:=Xr.mp hk';ext;have e:8-(s:Int)-(0+(k:Int))-1=((8-s-k-1:Nat):Int):=by omega
    have hh:wrd c m k=(Zv c).drop (8-stN c m-k-1):=by unfold wrd;rw[if_pos h,if_neg h0]
    rw[e,O2 (by rw[J2];omega)];simp only[Function.comp,hh,hs]
 .have a:=Cu c;obtain⟨s,hs⟩:∃s:Nat,s=szN c:=⟨_,rfl⟩
  have es:c/4%8=(s:Int):=by rw[hs];unfold szN;omega
  obtain⟨q,hq⟩:∃q:Nat,q=atN c:=⟨_,rfl⟩
  have eq:c/512%((s:Int)+1)=(q:Int):=by rw[hq];unfold atN;have:=df (c/512) (show((s:Int)+1)≠0 by omega);rw[<-hs];omega
  ext;rw[es,zx (l:=((Z0 c s).map λx=>(⟨#[x]⟩:ao)).map D.str) (by rfl) (by rw[v6];omega) ?_ (.inl rfl)];rotate_left
  .rw[Xo,Qq,Z0,Xa,Xa];refine qz λk hk'=>vy (by ext) ?_;have hk:=Xr.mp hk';ext;rw[j1t nofun];ext;simp
  rw[j0f (We (by rw[z9];omega)),Oe];have lg:(sL (Z0 c s)).length=s:=by rw[jx,z9]
  ext;rw[eq,zx (l:=(Qy c m).map D.str) (by rfl) (by rw[v6];omega) ?_ (.inl rfl)]
  .ext
  .rw[Xo,Qq,Qy,Xa];refine qz λk hk'=>vy (by ext) ?_;have hk:=Xr.mp hk';ext;rw[j1t nofun];ext;rw[O1 (by rw[z9];omega),O2 (by rw[z9];omega)];have e1:(⟨#[lt ((c/9+7*(0+(k:Int)))%26)]⟩:ao)=sL [lt ((c/9+7*(0+(k:Int)))%26)]:=rfl;have l1:(sL ((Z0 c s).take q)).length=q:=by rw[jx,Xj,z9];omega
   have l2:(sL ((Z0 c s).drop q)).length=s-q:=by rw[jx,ph,z9]
   have l3:(sL [lt ((c/9+7*(0+(k:Int)))%26)]).length=1:=rfl;have l4:(sL ((Z0 c s).take q)++sL [lt ((c/9+7*(0+(k:Int)))%26)]).length=q+1:=by rw[vq,jx,X7,Xj,z9,xr,Pr];omega
   rw[e1];ext;rw[vq,vq];simp only[Function.comp,wrd,h,if_false,<-hs,<-hq,P0,gX,dj]
theorem jis{row:List Int}(h01:∀x∈row,x=0\/x=1)(k:Nat):row.getD k 0=0\/row.getD k 0=1:=by
 rw[xj];cases h:row[k]? with
 |none=>exact .inl rfl
 |some v=>exact h01 v (Xn h)
theorem jip(m:Nat)(z:Int):∀x∈qx 2 m z,x=0\/x=1:=by
 intro x hx;obtain⟨i,hi⟩:=List.mem_iff_getElem?.mp hx;have hl:i<m:=by have:=(Xd.mp hi).1;rw[Jf]at this;exact this
 rw[Mq 2 hl]at hi;cases hi;omega
end
end KW
namespace KB
open PySem KV PyProof.Rows
noncomputable def jn:List (List Nat)->List Nat
 |[]=>[]
 |[x]=>x
 |x::r=>x++32::jn r
theorem Br{x:List Nat}{r:List (List Nat)}(h:r≠[]):jn (x::r)=x++32::jn r:=by
 cases r with
 |nil=>exact absurd rfl h
 |cons y r=>rfl
theorem Zw{x y:List Nat}{r:List (List Nat)}:jn (x::y::r)=x++32::jn (y::r):=rfl
theorem j68:(" ":ao)=sL [32]:=by decide +kernel
theorem O5(x:ao):sL x.cps.toList=x:=by cases x;simp[sL]
theorem Wz:∀ls:List (List Nat),jG " " (ls.map sL)=sL (jn ls)
 |[]=>rfl
 |[x]=>rfl
 |x::y::r=>by
  rw[X4,X4,jG,<-X4 (f:=sL),Wz (y::r),j68,vq,vq,Zw]
  .congr 1;simp
  .intro z;cases z
theorem j0e (ls:List (List Nat)):bZ " " (ls.map sL)=sL (jn ls):=by show gr _ _=_;rw[StrLaws.glued_eq_join,Wz]
theorem j0r(c:Nat):∀a b:List Nat,cnt c (a++b)=cnt c a+cnt c b
 |[],b=>by rw[d5,cnt_nil];omega
 |x::a,b=>by rw[tu,gU,gU,j0r c a b];omega
theorem Ip(c:Nat):∀a:List Nat,0<=cnt c a
 |[]=>by rw[cnt_nil];omega
 |x::a=>by have:=Ip c a;rw[gU];split<;>omega
theorem j9h{c:Nat}:∀{a:List Nat},cnt c a=0->c∉a
 |[],_=>by simp
 |x::a,h=>by
  rw[gU]at h;have:=Ip c a;split at h
  .omega
  .rename_i z;have:=j9h (c:=c) (a:=a) nofun
   simp only[xn,not_or];exact⟨λq=>z q.symm,this⟩
theorem j4o:∀ls:List (List Nat),ls≠[]->cnt 32 (jn ls)=(ls.map (cnt 32)).sum+(ls.length:Int)-1
 |[],h=>absurd rfl h
 |[x],_=>by simp[jn]
 |x::y::r,_=>by rw[Zw,j0r,gU,if_pos rfl,j4o (y::r) (by intro z;cases z)];simp only[X4,dO,xr];omega
theorem j2x:∀{l:List Int},(∀x∈l,0<=x)->0<=l.sum
 |[],_=>by simp
 |a::l,h=>by rw[dO];have:=j2x λy hy=>h y (km _ hy);have:=h a xm;omega
theorem j8v:∀{l:List Int},(∀x∈l,0<=x)->l.sum=0->∀x∈l,x=0
 |[],_,_,_,h=>absurd h (by simp)
 |a::l,h,e,x,hx=>by
  rw[dO]at e;have h1:=h a xm;have h2:0<=l.sum:=by exact j2x λy hy=>h y (km _ hy)
  rcases xn.mp hx with rfl|hx
  .omega
  .exact j8v (λy hy=>h y (km _ hy)) nofun x hx
def bf(ls:List (List Nat)):Prop:=∀l∈ls,32∉l
theorem j4n:∀{a b c d:List Nat},32∉a->32∉c->a++32::b=c++32::d->a=c/\b=d
 |[],b,[],d,_,_,h=>by simpa using h
 |[],b,x::c,d,_,hc,h=>by have:=(eO h).1;exact absurd (xn.mpr (.inl this)) hc
 |x::a,b,[],d,ha,_,h=>by have:=(eO h).1;exact absurd (xn.mpr (.inl this.symm)) ha
 |x::a,b,y::c,d,ha,hc,h=>by obtain⟨h1,h2⟩:=eO h;obtain⟨e1,e2⟩:=j4n (a:=a) (c:=c) (λz=>ha (km _ z)) (λz=>hc (km _ z)) h2;exact⟨by rw[h1,e1],e2⟩
theorem j47:∀{ls ms:List (List Nat)},ls≠[]->ms≠[]->bf ls->bf ms->jn ls=jn ms->ls=ms
 |[],_,h,_,_,_,_=>absurd rfl h
 |_,[],_,h,_,_,_=>absurd rfl h
 |[x],[y],_,_,_,_,h=>by rw[show x=y from h]
 |[x],y::z::r,_,_,h1,_,h=>by rw[Zw]at h;exact absurd (show 32∈x from by rw[show x=_ from h];simp) (h1 x xm)
 |x::z::r,[y],_,_,_,h1,h=>by rw[Zw]at h;exact absurd (show 32∈y from by rw[<-show _=y from h];simp) (h1 y xm)
 |x::z::r,y::u::s,_,_,h1,h2,h=>by rw[Zw,Zw]at h;obtain⟨e1,e2⟩:=j4n (h1 x xm) (h2 y xm) h;rw[e1,j47 (by intro q;cases q) (by intro q;cases q) (λl hl=>h1 l (km _ hl)) (λl hl=>h2 l (km _ hl)) e2]
theorem j5z (x:ao):∃ls:List (List Nat),aI x " " = ls.map sL/\ls≠[]/\bf ls/\sL (jn ls)=x:=by
 have hl:=split_len x 32;have hj:=StrLaws.join_split x " ";rw[show(⟨#[32]⟩:ao) = " " from by decide +kernel]at hl;refine⟨(aI x " ").map λs=>s.cps.toList,?_,?_,?_,?_⟩
 .rw[Xa];exact(fW _).symm.trans (Py λs _=>(O5 s).symm)
 .intro h;have:=split_pos x " ";rw[List.map_eq_nil_iff.mp h]at this;exact absurd this (by decide)
 .have e:sL (jn ((aI x " ").map λs=>s.cps.toList))=x:=by rw[<-Wz,Xa];rw[show(aI x " ").map (sL ∘ λs=>s.cps.toList)=aI x " " from(Py λs _=>O5 s).trans (fW _)];exact hj
  have hne:(aI x " ").map (λs=>s.cps.toList)≠[]:=by intro h;have:=split_pos x " ";rw[List.map_eq_nil_iff.mp h]at this;exact absurd this (by decide)
  have hc:=j4o _ hne;have e2:x.cps.toList=jn ((aI x " ").map λs=>s.cps.toList):=by rw[<-e,Lw,e]
  rw[<-e2,xg]at hc;have h0:(((aI x " ").map λs=>s.cps.toList).map (cnt 32)).sum=0:=by omega
  intro l hl';exact j9h (j8v (λy hy=>by obtain⟨z,_,rfl⟩:=Xe.mp hy;exact Ip _ _) h0 _ (Xe.mpr ⟨l,hl',rfl⟩))
 .rw[<-Wz,Xa];rw[show(aI x " ").map (sL ∘ λs=>s.cps.toList)=aI x " " from(Py λs _=>O5 s).trans (fW _)];exact hj
theorem j5y {ls:List (List Nat)} (h:ls≠[]) (hb:bf ls):aI (sL (jn ls)) " " = ls.map sL:=by obtain⟨ms,e,hm,hb2,ej⟩:=j5z (sL (jn ls));rw[e,j47 hm h hb2 hb (Yq ej)]
theorem Kr:∀{ls ms:List (List Nat)},ls≠[]->ms≠[]->jn (ls++ms)=jn ls++32::jn ms
 |[],_,h,_=>absurd rfl h
 |[x],ms,_,h=>by rw[gX,Br h];rfl
 |x::y::r,ms,_,h=>by rw[tu,tu,Zw,<-tu,Kr (by intro q;cases q) h,Zw];simp
theorem j0g{α:Type}{f:α->List (List Nat)}:∀{as:List α},(∀a∈as,f a≠[])->jn (as.map λa=>jn (f a))=jn (as.flatMap f)
 |[],_=>rfl
 |[a],_=>by simp[jn]
 |a::b::r,h=>by
  have hb:(b::r).flatMap f≠[]:=by rw[Pg];intro z;exact h b (km _ xm) (List.append_eq_nil_iff.mp z).1
  rw[X4,Br (by simp),j0g (as:=b::r) λx hx=>h x (km _ hx),Pg (x:=a),Kr (h a xm) hb]
end KB
section
namespace K13
open PySem PySem.Spec PyProof.Rows L2
noncomputable def top(i:Nat):aQ:=PySem.Challenge.pw_leastasks_k13_rings_and_joined.main.body.getD i (.Pass ⟨0,0,0,0⟩)
noncomputable def Vj:Sx:=(.seq (.ret (.and (.cmp .ge (.blt .len (.cons (.var 0) .nil)) (.lit (.int 1))) (.and (.cmp .le (.blt .len (.cons (.var 0) .nil)) (.glob "LONGEST_WORD")) (.call "is_made_of" (.cons (.var 0) (.cons (.glob "LETTERS") .nil)))))) .nop)
noncomputable def Uh:Fi:=⟨1,1,Vj,ae⟩
noncomputable def Qo:Sx:=(.seq (.ret (.blt .all (.cons (.comp [2] (.cmp .isin (.var 2) (.var 1)) (.seq (.var 0)) .nil) .nil))) .nop)
noncomputable def V8:Fi:=⟨2,3,Qo,ae⟩
noncomputable def Vi:Sx:=(.seq (.expr (.call "refuse_wrong_size" (.cons (.var 0) .nil))) (.seq (.ret (.call "all_choices" (.cons (.bin .mul (.lst (.cons (.glob "ANSWERS") .nil)) (.var 0)) .nil))) .nop))
noncomputable def Ug:Fi:=⟨1,1,Vi,ae⟩
noncomputable def Va:Sx:=(.seq (.ret (.call "number_of" (.cons (.var 0) (.cons (.blt .len (.cons (.glob "ANSWERS") .nil)) .nil)))) .nop)
noncomputable def Dv:Fi:=⟨1,1,Va,ae⟩
noncomputable def vp:Sx:=(.seq (.ife (.or (.cmp .lt (.var 0) (.glob "FEWEST_PLACES")) (.cmp .gt (.var 0) (.glob "MOST_PLACES"))) (.seq (.raise "WrongSize" (.fst (.cons (.lit (.str "there are ")) (.cons (.glob "FEWEST_PLACES") (.cons (.lit (.str " to ")) (.cons (.glob "MOST_PLACES") (.cons (.lit (.str " places, not ")) (.cons (.var 0) .nil)))))))) .nop) .nop) .nop)
noncomputable def Jo:Fi:=⟨1,1,vp,ae⟩
noncomputable def J1:Sx:=(.seq (.set 1 (.lst (.cons (.tup .nil) .nil))) (.seq (.loop [2] (.seq (.var 0)) (.seq (.set 3 (.lst .nil)) (.seq (.loop [4] (.seq (.var 1)) (.seq (.ext 3 (.comp [5] (.bin .add (.var 4) (.tup (.cons (.var 5) .nil))) (.seq (.var 2)) .nil)) .nop)) (.seq (.mov 1 3) .nop)))) (.seq (.retV 1) .nop)))
noncomputable def fP_all_choices:Fi:=⟨1,6,J1,ae⟩
noncomputable def Vz:Sx:=(.seq (.set 2 (.lit (.int 0))) (.seq (.loop [3] (.seq (.var 0)) (.seq (.set 2 (.bin .add (.bin .mul (.var 2) (.var 1)) (.var 3))) .nop)) (.seq (.retV 2) .nop)))
noncomputable def Ib:Fi:=⟨2,4,Vz,ae⟩
noncomputable def v8:Sx:=(.seq (.expr (.call "refuse_wrong_size" (.cons (.blt .len (.cons (.var 0) .nil)) .nil))) (.seq (.set 1 (.lst .nil)) (.seq (.loop [2] (.seq (.var 0)) (.seq (.ife (.not (.call "is_word" (.cons (.var 2) .nil))) (.seq (.raise "NoWord" (.fst (.cons (.rpr (.var 2)) (.cons (.lit (.str " is no word of one to eight small letters")) .nil)))) .nop) .nop) (.seq (.ife (.cmp .isin (.var 2) (.var 1)) (.seq (.raise "Twice" (.fst (.cons (.lit (.str "the place ")) (.cons (.rpr (.var 2)) (.cons (.lit (.str " stands twice")) .nil))))) .nop) .nop) (.seq (.app 1 (.var 2)) .nop)))) .nop)))
noncomputable def Je:Fi:=⟨1,3,v8,ae⟩
noncomputable def Qt:Sx:=(.seq (.ret (.bin .add (.call "row_number" (.cons (.bin .mul (.tup (.cons (.lit (.int 1)) .nil)) (.var 0)) .nil)) (.lit (.int 1)))) .nop)
noncomputable def Ml:Fi:=⟨1,1,Qt,ae⟩
noncomputable def Jq:Sx:=(.seq (.expr (.call "refuse_wrong_places" (.cons (.var 1) .nil))) (.seq (.set 2 (.call "form_of" (.cons (.var 0) .nil))) (.seq (.ife (.not (.call "keeps_to" (.cons (.var 2) (.cons (.var 1) .nil)))) (.seq (.raise "NoPlace" (.lit (.str "the text has a word that is none of the places"))) .nop) .nop) (.seq (.set 3 (.comp [4] (.call "said_by" (.cons (.var 2) (.cons (.dzip (.var 1) (.var 4)) .nil))) (.seq (.call "rows_of" (.cons (.blt .len (.cons (.var 1) .nil)) .nil))) .nil)) (.seq (.ret (.tup (.cons (.blt .tuple (.cons (.var 1) .nil)) (.cons (.blt .tuple (.cons (.var 3) .nil)) .nil)))) .nop)))))
noncomputable def Qs:Fi:=⟨2,5,Jq,ae⟩
noncomputable def Vk:Sx:=(.newP 1 (.var 0) (.callS 2 "form_taken" (.cons (.lit (.int 0)) .nil) (.ifAll "NoText" (.lit (.str "something stands behind the form")) (.ret (.var 2)))))
noncomputable def Ui:Fi:=⟨1,3,Vk,ae⟩
noncomputable def Qp:Sx:=(.px (.take 2 (.ifCal (.cmp .eq (.var 2) (.lit (.str "("))) "bracketed_taken" (.cons (.bin .add (.var 1) (.lit (.int 1))) .nil) (.ifRai (.not (.call "is_word" (.cons (.var 2) .nil))) "NoText" (.fst (.cons (.rpr (.var 2)) (.cons (.lit (.str " stands where a form is wanted")) .nil))) (.ret (.tup (.cons (.glob "PLACE") (.cons (.var 2) (.cons (.tup .nil) .nil)))))))))
noncomputable def vm:Fi:=⟨3,4,Qp,ae⟩
noncomputable def V4:Sx:=(.px (.ifRai (.cmp .gt (.var 1) (.glob "MOST_BRACKETS")) "NoText" (.fst (.cons (.lit (.str "more than ")) (.cons (.glob "MOST_BRACKETS") (.cons (.lit (.str " brackets stand unclosed at once")) .nil)))) (.take 2 (.ifRai (.cmp .notin (.var 2) (.glob "KINDS")) "NoText" (.fst (.cons (.rpr (.var 2)) (.cons (.lit (.str " is no kind")) .nil))) (.takeIf 3 (.call "wants_own" (.cons (.var 2) .nil)) (.lit (.str "")) (.set 4 (.lst .nil) (.whlA ")" (.appC 4 "form_taken" (.cons (.var 1) .nil) .nop) (.takeE (.ifRai (.or (.not (.call "takes_count" (.cons (.var 2) (.cons (.blt .len (.cons (.var 4) .nil)) .nil)))) (.not (.call "takes_own" (.cons (.var 2) (.cons (.var 3) (.cons (.blt .len (.cons (.var 4) .nil)) .nil)))))) "NoText" (.fst (.cons (.rpr (.var 2)) (.cons (.lit (.str " has not what it wants")) .nil))) (.ret (.tup (.cons (.var 2) (.cons (.var 3) (.cons (.blt .tuple (.cons (.var 4) .nil)) .nil))))))))))))))
noncomputable def Q4:Fi:=⟨3,6,V4,ae⟩
noncomputable def Vx:Sx:=(.seq (.ret (.or (.cmp .eq (.var 0) (.lit (.str "table"))) (.cmp .isin (.var 0) (.glob "COUNTING_KINDS")))) .nop)
noncomputable def Kz:Fi:=⟨1,1,Vx,ae⟩
noncomputable def Zi:Sx:=(.seq (.ife (.cmp .eq (.var 0) (.lit (.str "not"))) (.seq (.ret (.cmp .eq (.var 1) (.lit (.int 1)))) .nop) .nop) (.seq (.ife (.cmp .eq (.var 0) (.lit (.str "table"))) (.seq (.ret (.and (.cmp .ge (.var 1) (.lit (.int 1))) (.cmp .le (.var 1) (.glob "MOST_TABLE_FORMS")))) .nop) .nop) (.seq (.ife (.cmp .isin (.var 0) (.glob "TYING_KINDS")) (.seq (.ret (.cmp .eq (.var 1) (.blt .len (.cons (.glob "TIES") .nil)))) .nop) .nop) (.seq (.ret (.cmp .ge (.var 1) (.lit (.int 1)))) .nop))))
noncomputable def Bx:Fi:=⟨2,2,Zi,ae⟩
noncomputable def Vy:Sx:=(.seq (.ife (.cmp .eq (.var 0) (.lit (.str "table"))) (.seq (.ret (.and (.cmp .eq (.blt .len (.cons (.var 1) .nil)) (.call "count_of_rows" (.cons (.var 2) .nil))) (.call "is_made_of" (.cons (.var 1) (.cons (.lit (.str "01")) .nil))))) .nop) .nop) (.seq (.ife (.cmp .isin (.var 0) (.glob "COUNTING_KINDS")) (.seq (.ret (.call "is_number" (.cons (.var 1) .nil))) .nop) .nop) (.seq (.ret (.lit (.bl af))) .nop)))
noncomputable def Ia:Fi:=⟨3,3,Vy,ae⟩
noncomputable def Y0:Sx:=(.seq (.ife (.not (.call "is_made_of" (.cons (.var 0) (.cons (.lit (.str "0123456789")) .nil)))) (.seq (.ret (.lit (.bl ae))) .nop) .nop) (.seq (.ret (.or (.cmp .eq (.blt .len (.cons (.var 0) .nil)) (.lit (.int 1))) (.and (.cmp .eq (.blt .len (.cons (.var 0) .nil)) (.lit (.int 2))) (.cmp .ne (.ix (.var 0) (.lit (.int 0))) (.lit (.str "0")))))) .nop))
noncomputable def Ie:Fi:=⟨1,1,Y0,ae⟩
noncomputable def Qk:Sx:=(.seq (.ife (.cmp .eq (.ix (.var 0) (.lit (.int 0))) (.glob "PLACE")) (.seq (.ret (.cmp .isin (.ix (.var 0) (.lit (.int 1))) (.var 1))) .nop) .nop) (.seq (.ret (.blt .all (.cons (.comp [2] (.call "keeps_to" (.cons (.var 2) (.cons (.var 1) .nil))) (.seq (.ix (.var 0) (.lit (.int 2)))) .nil) .nil))) .nop))
noncomputable def Qj:Fi:=⟨2,3,Qk,ae⟩
noncomputable def Z9:Sx:=(.seq (.ife (.cmp .eq (.ix (.var 0) (.lit (.int 0))) (.glob "PLACE")) (.seq (.ret (.dix (.var 1) (.ix (.var 0) (.lit (.int 1))))) .nop) .nop) (.seq (.set 2 (.comp [3] (.call "said_by" (.cons (.var 3) (.cons (.var 1) .nil))) (.seq (.ix (.var 0) (.lit (.int 2)))) .nil)) (.seq (.ret (.ite (.call "says_yes" (.cons (.ix (.var 0) (.lit (.int 0))) (.cons (.ix (.var 0) (.lit (.int 1))) (.cons (.var 2) .nil)))) (.lit (.int 1)) (.lit (.int 0)))) .nop)))
noncomputable def Z3:Fi:=⟨2,4,Z9,ae⟩
noncomputable def Zy:Sx:=(.seq (.ife (.cmp .eq (.var 0) (.lit (.str "not"))) (.seq (.ret (.cmp .eq (.ix (.var 2) (.lit (.int 0))) (.lit (.int 0)))) .nop) .nop) (.seq (.ife (.cmp .eq (.var 0) (.lit (.str "all"))) (.seq (.ret (.cmp .eq (.blt .sum (.cons (.var 2) .nil)) (.blt .len (.cons (.var 2) .nil)))) .nop) .nop) (.seq (.ife (.cmp .eq (.var 0) (.lit (.str "any"))) (.seq (.ret (.cmp .ge (.blt .sum (.cons (.var 2) .nil)) (.lit (.int 1)))) .nop) .nop) (.seq (.ife (.cmp .eq (.var 0) (.lit (.str "odd"))) (.seq (.ret (.cmp .eq (.bin .mod (.blt .sum (.cons (.var 2) .nil)) (.lit (.int 2))) (.lit (.int 1)))) .nop) .nop) (.seq (.ife (.cmp .eq (.var 0) (.lit (.str "least"))) (.seq (.ret (.cmp .ge (.blt .sum (.cons (.var 2) .nil)) (.blt .int (.cons (.var 1) .nil)))) .nop) .nop) (.seq (.ife (.cmp .eq (.var 0) (.lit (.str "just"))) (.seq (.ret (.cmp .eq (.blt .sum (.cons (.var 2) .nil)) (.blt .int (.cons (.var 1) .nil)))) .nop) .nop) (.seq (.ife (.cmp .eq (.var 0) (.lit (.str "table"))) (.seq (.ret (.cmp .eq (.ix (.var 1) (.call "row_number" (.cons (.var 2) .nil))) (.lit (.str "1")))) .nop) .nop) (.seq (.ife (.cmp .eq (.var 0) (.lit (.str "ring"))) (.seq (.ret (.call "has_ring" (.cons (.var 2) .nil))) .nop) .nop) (.seq (.ret (.cmp .eq (.call "count_of_clusters" (.cons (.var 2) .nil)) (.lit (.int 1)))) .nop)))))))))
noncomputable def Yi:Fi:=⟨3,3,Zy,ae⟩
noncomputable def Yj:Sx:=(.seq (.ret (.cmp .gt (.blt .sum (.cons (.var 0) .nil)) (.bin .sub (.blt .len (.cons (.glob "TIED_SPOTS") .nil)) (.call "count_of_clusters" (.cons (.var 0) .nil))))) .nop)
noncomputable def Ep:Fi:=⟨1,1,Yj,ae⟩
noncomputable def Jr:Sx:=(.seq (.set 1 (.blt .list (.cons (.glob "TIED_SPOTS") .nil))) (.seq (.loop [2,3] (.zip (.glob "TIES") (.var 0)) (.seq (.ife (.cmp .eq (.var 3) (.lit (.int 1))) (.seq (.set 1 (.call "marks_tied" (.cons (.var 1) (.cons (.ix (.var 1) (.ix (.var 2) (.lit (.int 0)))) (.cons (.ix (.var 1) (.ix (.var 2) (.lit (.int 1)))) .nil))))) .nop) .nop) .nop)) (.seq (.ret (.lset (.var 1))) .nop)))
noncomputable def Uj:Fi:=⟨1,4,Jr,ae⟩
noncomputable def Vb:Sx:=(.seq (.ret (.comp [3] (.ite (.cmp .eq (.var 3) (.var 2)) (.var 1) (.var 3)) (.seq (.var 0)) .nil)) .nop)
noncomputable def Dw:Fi:=⟨3,4,Vb,ae⟩
noncomputable def Vm:Sx:=(.seq (.ife (.cmp .lt (.var 1) (.blt .len (.cons (.var 0) .nil))) (.seq (.ret (.ix (.var 0) (.var 1))) .nop) .nop) (.seq (.set 2 (.bin .add (.lit (.int 70001)) (.bin .mul (.bin .mul (.lit (.int 911)) (.var 1)) (.var 1)))) (.seq (.ife (.cmp .gt (.blt .len (.cons (.var 0) .nil)) (.lit (.int 0))) (.seq (.set 2 (.bin .add (.var 2) (.bin .mul (.bin .mod (.ix (.var 0) (.lit (.int 0))) (.lit (.int 9973))) (.bin .add (.bin .mul (.lit (.int 3)) (.var 1)) (.lit (.int 1)))))) .nop) .nop) (.seq (.retV 2) .nop))))
noncomputable def fL_cell:Fi:=⟨2,3,Vm,ae⟩
noncomputable def Zj:Sx:=(.seq (.set 2 (.lit (.str "mdkbvqhzcgrnapxolsiefwtyju"))) (.seq (.ife (.cmp .lt (.bin .mod (.var 0) (.lit (.int 4))) (.lit (.int 2))) (.seq (.set 3 (.join "" (.comp [4] (.ix (.var 2) (.bin .mod (.bin .fdiv (.var 0) (.bin .add (.lit (.int 4)) (.bin .mul (.lit (.int 5)) (.var 4)))) (.lit (.int 26)))) (.range (.cons (.lit (.int 8)) .nil)) .nil))) (.seq (.set 5 (.bin .mod (.bin .fdiv (.var 0) (.lit (.int 8))) (.bin .sub (.lit (.int 9)) (.var 1)))) (.seq (.ife (.cmp .eq (.bin .mod (.var 0) (.lit (.int 4))) (.lit (.int 0))) (.seq (.ret (.comp [4] (.sl (.var 3) .nil (.cons (.bin .add (.bin .add (.var 5) (.var 4)) (.lit (.int 1))) .nil)) (.range (.cons (.var 1) .nil)) .nil)) .nop) .nop) (.seq (.ret (.comp [4] (.sl (.var 3) (.cons (.bin .sub (.bin .sub (.bin .sub (.lit (.int 8)) (.var 5)) (.var 4)) (.lit (.int 1))) .nil) .nil) (.range (.cons (.var 1) .nil)) .nil)) .nop)))) .nop) (.seq (.set 6 (.bin .mod (.bin .fdiv (.var 0) (.lit (.int 4))) (.lit (.int 8)))) (.seq (.set 7 (.join "" (.comp [4] (.ix (.var 2) (.bin .mod (.bin .add (.bin .add (.bin .fdiv (.var 0) (.lit (.int 32))) (.bin .mul (.bin .mul (.lit (.int 3)) (.var 4)) (.var 4))) (.var 4)) (.lit (.int 26)))) (.range (.cons (.var 6) .nil)) .nil))) (.seq (.set 8 (.bin .mod (.bin .fdiv (.var 0) (.lit (.int 512))) (.bin .add (.var 6) (.lit (.int 1))))) (.seq (.ret (.comp [4] (.bin .add (.bin .add (.sl (.var 7) .nil (.cons (.var 8) .nil)) (.ix (.var 2) (.bin .mod (.bin .add (.bin .fdiv (.var 0) (.lit (.int 9))) (.bin .mul (.lit (.int 7)) (.var 4))) (.lit (.int 26))))) (.sl (.var 7) (.cons (.var 8) .nil) .nil)) (.range (.cons (.var 1) .nil)) .nil)) .nop))))))
noncomputable def fL_words:Fi:=⟨2,9,Zj,ae⟩
noncomputable def Zk:Sx:=(.seq (.ife (.isi (.var 1) ["list","tuple"]) (.seq (.ife (.or (.cmp .ne (.isi (.var 0) ["list"]) (.isi (.var 1) ["list"])) (.not (.isi (.var 0) ["list","tuple"]))) (.seq (.ret (.lit (.bl ae))) .nop) .nop) (.seq (.set 2 (.comp [3] (.var 3) (.range (.cons (.blt .min (.cons (.blt .len (.cons (.var 0) .nil)) (.cons (.blt .len (.cons (.var 1) .nil)) .nil))) .nil)) (.cons (.not (.call "_law_same" (.cons (.ix (.var 0) (.var 3)) (.cons (.ix (.var 1) (.var 3)) .nil)))) .nil))) (.seq (.ret (.and (.cmp .eq (.blt .len (.cons (.var 0) .nil)) (.blt .len (.cons (.var 1) .nil))) (.cmp .eq (.var 2) (.lst .nil)))) .nop))) .nop) (.seq (.ife (.isN (.var 1)) (.seq (.ret (.isN (.var 0))) .nop) .nop) (.seq (.ife (.or (.cmp .ne (.isi (.var 0) ["bool"]) (.isi (.var 1) ["bool"])) (.cmp .ne (.isi (.var 0) ["str"]) (.isi (.var 1) ["str"]))) (.seq (.ret (.lit (.bl ae))) .nop) .nop) (.seq (.ret (.and (.isi (.var 0) ["int","str"]) (.cmp .eq (.var 0) (.var 1)))) .nop))))
noncomputable def fL_same:Fi:=⟨2,4,Zk,ae⟩
noncomputable def Yz:Sx:=(.seq (.set 2 (.lst .nil)) (.seq (.loop [3] (.range (.cons (.var 0) .nil)) (.seq (.app 2 (.bin .mod (.bin .fdiv (.var 1) (.bin .shl (.lit (.int 1)) (.bin .sub (.bin .sub (.var 0) (.var 3)) (.lit (.int 1))))) (.lit (.int 2)))) .nop)) (.seq (.ret (.blt .tuple (.cons (.var 2) .nil))) .nop)))
noncomputable def fL_row:Fi:=⟨2,4,Yz,ae⟩
noncomputable def Ut:Sx:=(.seq (.fgt 3) (.seq (.set 2 (.comp [3] (.var 3) (.range (.cons (.var 1) .nil)) .nil)) (.seq (.set 4 (.lst .nil)) (.seq (.set 5 (.bin .mod (.var 0) (.lit (.int 2147483647)))) (.seq (.loop [3] (.range (.cons (.var 1) .nil)) (.seq (.set 5 (.bin .mod (.bin .add (.bin .add (.bin .mul (.var 5) (.lit (.int 48271))) (.bin .mul (.lit (.int 7)) (.var 3))) (.lit (.int 1))) (.lit (.int 2147483647)))) (.seq (.apop 4 2 (.bin .mod (.bin .fdiv (.var 5) (.lit (.int 32))) (.blt .len (.cons (.var 2) .nil)))) .nop))) (.seq (.retV 4) .nop))))))
noncomputable def Mm:Fi:=⟨2,6,Ut,ae⟩
noncomputable def Nh:Sx:=(.seq (.set 1 (.lst (.cons (.lst (.cons (.lit (.int 0)) (.cons (.lit (.int 1)) (.cons (.lit (.int 3)) .nil)))) (.cons (.lst (.cons (.lit (.int 0)) (.cons (.lit (.int 2)) (.cons (.lit (.int 4)) .nil)))) (.cons (.lst (.cons (.lit (.int 1)) (.cons (.lit (.int 2)) (.cons (.lit (.int 5)) .nil)))) (.cons (.lst (.cons (.lit (.int 3)) (.cons (.lit (.int 4)) (.cons (.lit (.int 5)) .nil)))) (.cons (.lst (.cons (.lit (.int 0)) (.cons (.lit (.int 3)) (.cons (.lit (.int 5)) (.cons (.lit (.int 2)) .nil))))) (.cons (.lst (.cons (.lit (.int 0)) (.cons (.lit (.int 4)) (.cons (.lit (.int 5)) (.cons (.lit (.int 1)) .nil))))) (.cons (.lst (.cons (.lit (.int 1)) (.cons (.lit (.int 3)) (.cons (.lit (.int 4)) (.cons (.lit (.int 2)) .nil))))) .nil))))))))) (.seq (.keep 1) (.seq (.ret (.cmp .gt (.blt .len (.cons (.comp [2] (.var 2) (.seq (.var 1)) (.cons (.cmp .eq (.blt .len (.cons (.comp [3] (.var 3) (.seq (.var 2)) (.cons (.not (.ix (.var 0) (.var 3))) .nil)) .nil)) (.lit (.int 0))) .nil)) .nil)) (.lit (.int 0)))) .nop)))
noncomputable def jbt:Fi:=⟨1,4,Nh,ae⟩
noncomputable def Wr:Sx:=(.seq (.set 1 (.lst (.cons (.lst (.cons (.lit (.int 0)) (.cons (.lit (.int 1)) (.cons (.lit (.int 2)) .nil)))) (.cons (.lst (.cons (.lit (.int 0)) (.cons (.lit (.int 3)) (.cons (.lit (.int 4)) .nil)))) (.cons (.lst (.cons (.lit (.int 1)) (.cons (.lit (.int 3)) (.cons (.lit (.int 5)) .nil)))) (.cons (.lst (.cons (.lit (.int 2)) (.cons (.lit (.int 4)) (.cons (.lit (.int 5)) .nil)))) (.cons (.lst (.cons (.lit (.int 1)) (.cons (.lit (.int 2)) (.cons (.lit (.int 3)) (.cons (.lit (.int 4)) .nil))))) (.cons (.lst (.cons (.lit (.int 0)) (.cons (.lit (.int 2)) (.cons (.lit (.int 3)) (.cons (.lit (.int 5)) .nil))))) (.cons (.lst (.cons (.lit (.int 0)) (.cons (.lit (.int 1)) (.cons (.lit (.int 4)) (.cons (.lit (.int 5)) .nil))))) .nil))))))))) (.seq (.keep 1) (.seq (.ret (.cmp .eq (.blt .len (.cons (.comp [2] (.var 2) (.seq (.var 1)) (.cons (.cmp .eq (.blt .len (.cons (.comp [3] (.var 3) (.seq (.var 2)) (.cons (.ix (.var 0) (.var 3)) .nil)) .nil)) (.lit (.int 0))) .nil)) .nil)) (.lit (.int 0)))) .nop)))
noncomputable def j4h:Fi:=⟨1,4,Wr,ae⟩
noncomputable def Ri:Sx:=(.seq (.set 3 (.comp [4] (.cmp .eq (.ix (.var 0) (.var 4)) (.lit (.int 1))) (.seq (.var 1)) .nil)) (.seq (.ife (.cmp .lt (.var 2) (.lit (.int 6))) (.seq (.put 3 (.var 2) (.not (.ix (.var 3) (.var 2)))) .nop) .nop) (.seq (.retV 3) .nop)))
noncomputable def By:Fi:=⟨3,5,Ri,ae⟩
noncomputable def j2c:Sx:=(.seq (.set 1 (.call "_law_words" (.cons (.call "_law_cell" (.cons (.var 0) (.cons (.lit (.int 0)) .nil))) (.cons (.lit (.int 6)) .nil)))) (.seq (.set 2 (.call "_law_order" (.cons (.call "_law_cell" (.cons (.var 0) (.cons (.lit (.int 1)) .nil))) (.cons (.lit (.int 6)) .nil)))) (.seq (.set 3 (.bin .mod (.call "_law_cell" (.cons (.var 0) (.cons (.lit (.int 2)) .nil))) (.lit (.int 12)))) (.seq (.set 4 (.comp [5] (.ix (.var 1) (.var 5)) (.seq (.var 2)) .nil)) (.seq (.ife (.cmp .lt (.var 3) (.lit (.int 6))) (.seq (.put 4 (.var 3) (.bin .add (.bin .add (.lit (.str "( not ")) (.ix (.var 4) (.var 3))) (.lit (.str " )")))) .nop) .nop) (.seq (.set 6 (.lst .nil)) (.seq (.set 7 (.lst .nil)) (.seq (.loop [8] (.range (.cons (.lit (.int 64)) .nil)) (.seq (.set 9 (.call "_law_ties" (.cons (.call "_law_row" (.cons (.lit (.int 6)) (.cons (.var 8) .nil))) (.cons (.var 2) (.cons (.var 3) .nil))))) (.seq (.app 6 (.blt .int (.cons (.call "_law_ring" (.cons (.var 9) .nil)) .nil))) (.seq (.app 7 (.blt .int (.cons (.call "_law_joined" (.cons (.var 9) .nil)) .nil))) .nop)))) (.seq (.set 10 (.call "question_read" (.cons (.bin .add (.bin .add (.lit (.str "( ring ")) (.join " " (.var 4))) (.lit (.str " )"))) (.cons (.blt .list (.cons (.var 1) .nil)) .nil)))) (.seq (.set 11 (.call "question_read" (.cons (.bin .add (.bin .add (.lit (.str "( joined ")) (.join " " (.var 4))) (.lit (.str " )"))) (.cons (.blt .list (.cons (.var 1) .nil)) .nil)))) (.seq (.ife (.not (.call "_law_same" (.cons (.var 10) (.cons (.tup (.cons (.blt .tuple (.cons (.var 1) .nil)) (.cons (.blt .tuple (.cons (.var 6) .nil)) .nil))) .nil)))) (.seq (.ret (.lit (.bl ae))) .nop) .nop) (.seq (.ret (.call "_law_same" (.cons (.var 11) (.cons (.tup (.cons (.blt .tuple (.cons (.var 1) .nil)) (.cons (.blt .tuple (.cons (.var 7) .nil)) .nil))) .nil)))) .nop))))))))))))
noncomputable def j23:Fi:=⟨1,12,j2c,ae⟩
noncomputable def tbl:List (ao×Fi):=("is_word",Uh)::("is_made_of",V8)::("rows_of",Ug)::("row_number",Dv)::("refuse_wrong_size",Jo)::("all_choices",fP_all_choices)::("number_of",Ib)::("refuse_wrong_places",Je)::("count_of_rows",Ml)::("question_read",Qs)::("form_of",Ui)::("@form_taken",vm)::("@bracketed_taken",Q4)::("wants_own",Kz)::("takes_count",Bx)::("takes_own",Ia)::("is_number",Ie)::("keeps_to",Qj)::("said_by",Z3)::("says_yes",Yi)::("has_ring",Ep)::("count_of_clusters",Uj)::("marks_tied",Dw)::("_law_cell",fL_cell)::("_law_words",fL_words)::("_law_same",fL_same)::("_law_row",fL_row)::("_law_order",Mm)::("_law_ring",jbt)::("_law_joined",j4h)::("_law_ties",By)::("law",j23)::[]
noncomputable def T(x:ao):Option Fi:=tbl.lookup x
noncomputable def gs:List (ao×D):=[("LETTERS",.str "abcdefghijklmnopqrstuvwxyz"),("LONGEST_WORD",.int 8),("FEWEST_PLACES",.int 1),("MOST_PLACES",.int 6),("ANSWERS",.tup [.int 0,.int 1]),("KINDS",.tup [.str "not",.str "all",.str "any",.str "odd",.str "least",.str "just",.str "table",.str "ring",.str "joined"]),("COUNTING_KINDS",.tup [.str "least",.str "just"]),("TYING_KINDS",.tup [.str "ring",.str "joined"]),("PLACE",.str "place"),("MOST_BRACKETS",.int 8),("MOST_TABLE_FORMS",.int 4),("TIED_SPOTS",.tup [.int 0,.int 1,.int 2,.int 3]),("TIES",.tup [.tup [.int 0,.int 1],.tup [.int 0,.int 2],.tup [.int 0,.int 3],.tup [.int 1,.int 2],.tup [.int 1,.int 3],.tup [.int 2,.int 3]])]
noncomputable def xs:List (ao×List D):=[]
noncomputable def qs:List ao:=["Pieces"]
noncomputable abbrev G:ao->Option D:=Gof gs ae xs qs
end K13
end
section
open PySem PySem.Spec PyProof.Rows L2
local macro_rules | `(tactic| walk_at "vis")=>`(tactic| first | exact Or.inl rfl | exact Or.inr (Or.inl rfl) | exact Or.inr (Or.inr rfl))
local macro_rules | `(tactic| walk_at "loc")=>`(tactic| first | exact Or.inl rfl | exact Or.inr rfl)
local macro_rules | `(tactic| walk_at "cap")=>`(tactic| repeat (first | exact rfl | refine ⟨_,_,rfl,by rfl,by rfl,by rfl,by rfl,?_⟩))
local macro_rules | `(tactic| walk_at "ts")=>`(tactic| first
 |exact Tr.int|exact Tr.bl|exact Tr.str
 |exact Tr.var (by rfl) (by walk_at "vis") (by decide) (by decide)|exact Tr.glob (by rfl) (by decide) (by decide)
 |refine Tr.bin ?_ ?_|refine Tr.cmp (by rfl) ?_ ?_|refine Tr.bcmp (by rfl) ?_ ?_|refine Tr.isN ?_|refine Tr.bisN ?_|refine Tr.isNN ?_|refine Tr.bisNN ?_
 |refine Tr.and ?_ ?_|refine Tr.or ?_ ?_|refine Tr.one ?_|refine Tr.not ?_
 |refine Tr.wand ?_ ?_|refine Tr.wor ?_ ?_|refine Tr.wand1 ?_|refine Tr.wor1 ?_|refine Tr.bw ?_|refine Tr.bnot ?_
 |refine Tr.ite ?_ ?_ ?_|exact Tr.nil|refine Tr.cons (by rfl) ?_ ?_|refine Tr.tup ?_|refine Tr.lst ?_
 |refine Tr.ix (by intro _ _;rfl) ?_ ?_|exact Tr.oN|refine Tr.oS ?_|refine Tr.sl ?_ ?_ ?_
 |refine Tr.call (by rfl) (by decide) (by rfl) (by rfl) ?_
 |refine Tr.dzip (by rfl) (by rfl) (by rfl) (by rfl) (by rfl) (by rfl) ?_ ?_|refine Tr.dix (by intro _ _;rfl) ?_ ?_|refine Tr.lset (by rfl) (by rfl) (by rfl) (by rfl) (by rfl) ?_|refine Tr.len (by rfl) ?_|refine Tr.all (by rfl) (by rfl) ?_|refine Tr.tuple (by rfl) ?_|refine Tr.list (by rfl) ?_|refine Tr.min (by rfl) (by rfl) ?_
 |refine Tr.sum (by rfl) (by rfl) ?_|refine Tr.intc (by rfl) ?_|refine Tr.join (by rfl) (by rfl) (by rfl) (by rfl) ?_|refine Tr.lset (by rfl) (by rfl) (by rfl) (by rfl) (by rfl) ?_
 |refine Tr.isi1 (by decide) (by decide +kernel) (by rfl) (by rfl) (by decide) (by decide) (by rfl) ?_
 |refine Tr.isi2 (by decide) (by decide) (by decide +kernel) (by decide +kernel) (by rfl) (by rfl) (by rfl) (by decide) (by decide) (by decide) (by decide) (by rfl) ?_
 |exact Tr.c0|refine Tr.c1 ?_
 |refine Tr.comp1 (by rfl) (by rfl) (by rfl) (by rfl) (by rfl) (by intro _;rfl) ?_ ?_ ?_
 |refine Tr.seq ?_|refine Tr.range (by rfl) ?_|refine Tr.zip (by rfl) (by rfl) (by rfl) ?_ ?_
 |exact Tr.p0|refine Tr.pC ?_|refine Tr.pR ?_ ?_|refine Tr.pF ?_ ?_|refine Tr.fst ?_
 |refine Tr.bval (by intro _;rfl) ?_
 |refine' Ts.lend (by rfl) (by decide) (by rfl) (by rfl) (by walk_at "loc") (by walk_at "loc") (by exact aY rfl) (by exact aY rfl) (by intro _;rfl) (by rfl) (by rfl) (by rfl) (by walk_at "vis") (by decide) (by decide) (by rfl) (by rfl) ?_ ?_|refine' Ts.lent (by rfl) (by walk_at "loc") (by walk_at "vis") (by exact aY rfl) (by decide) (by decide) (by rfl) (by rfl) (by rfl) ?_ ?_ ?_ ?_ ?_|refine TMt.set (by rfl) (by walk_at "loc") (by rfl) (by exact aY rfl) ?_ ?_|refine TMt.ife ?_ ?_ ?_ ?_|exact TMt.nil|exact TMs.nil|exact TMs.fail|refine TMs.set (by rfl) (by walk_at "loc") (by rfl) (by exact aY rfl) ?_ ?_|refine TMs.ife ?_ ?_ ?_ ?_|exact⟨rfl,rfl,rfl,λ_ _=>rfl⟩
 |exact Ts.nil|refine Ts.fgt ?_|refine Ts.keep ?_|refine Ts.cons ?_ ?_|exact Ts.pass|exact Ts.doc|exact Ts.fail
 |exact Ts.mov (by rfl) (by rfl) (by walk_at "loc") (by exact aY rfl) (by walk_at "vis") (by decide) (by decide)
 |refine Ts.setC1 (by rfl) (by rfl) (by walk_at "loc") (by exact aY rfl) (by rfl) (by rfl) (by rfl) (by rfl) (by rfl) (by intro _;rfl) ?_ ?_ ?_
 |refine Ts.set (by rfl) (by walk_at "loc") (by rfl) (by exact aY rfl) ?_
 |exact Ts.retV (by rfl) (by walk_at "vis") (by decide) (by decide)|refine Ts.ret ?_
 |refine Ts.ife ?_ ?_ ?_|refine Ts.for1 (by rfl) (by rfl) (by walk_at "loc") (by exact aY rfl) (by intro _;rfl) ?_ ?_
 |refine Ts.for2 (by rfl) (by decide) (by rfl) (by rfl) (by walk_at "loc") (by walk_at "loc") (by exact aY rfl) (by exact aY rfl) (by intro _;rfl) ?_ ?_
 |refine Ts.apop (by rfl) (by walk_at "vis") (by decide) (by decide) (by rfl) (by walk_at "vis") (by decide) (by decide) (by rfl) (by rfl) (by rfl) (by rfl) (by rfl) (by rfl) (by rfl) (by rfl) (by rfl) ?_
 |refine Ts.app (by rfl) (by walk_at "vis") (by decide) (by decide) (by rfl) (by rfl) (by rfl) (by rfl) ?_
 |refine Ts.ext (by rfl) (by walk_at "vis") (by decide) (by decide) (by rfl) (by rfl) (by rfl) (by rfl) ?_
 |refine Ts.put (by rfl) (by walk_at "vis") (by decide) (by decide) (by intro _;rfl) (by rfl) (by rfl) ?_ ?_
 |refine Ts.raise (by rfl) (by rfl) (by decide) (by rfl) ?_
 |refine Ts.expr (by rfl) ?_
 |refine Ts.newP (by rfl) (by rfl) (by rfl) (by rfl) (by walk_at "loc") (by rfl) (by exact aY rfl) ?_ ?_
 |exact MP.nop|refine MP.keep (by decide) ?_
 |refine MP.setC (by decide) (by rfl) (by rfl) (by walk_at "loc") (by exact aY rfl) (by rfl) (by rfl) (by rfl) (by rfl) (by rfl) (by intro _;rfl) ?_ ?_ ?_ ?_
 |refine MP.set (by decide) (by rfl) (by walk_at "loc") (by rfl) (by exact aY rfl) ?_ ?_
 |refine MP.ret ?_|refine MP.ifRet ?_ ?_ ?_
 |refine MP.ifAll (by rfl) (by rfl) (by decide) (by rfl) (by rfl) (by walk_at "vis") (by decide) (by decide) (by exact⟨_,rfl⟩) (by intro _;rfl) ?_ ?_
 |refine MP.ifRai (by rfl) (by rfl) (by decide) (by rfl) ?_ ?_ ?_
 |refine MP.takeIf (by decide) (by rfl) (by walk_at "vis") (by decide) (by decide) (by exact⟨_,rfl⟩) (by rfl) (by walk_at "loc") (by rfl) (by exact aY rfl) ?_ ?_ ?_
 |refine MP.take (by decide) (by rfl) (by walk_at "vis") (by decide) (by decide) (by exact⟨_,rfl⟩) (by rfl) (by walk_at "loc") (by rfl) (by exact aY rfl) ?_
 |refine MP.takeE (by rfl) (by walk_at "vis") (by decide) (by decide) (by exact⟨_,rfl⟩) (by rfl) ?_
 |refine MP.callS (by decide) (by exact⟨_,_,_,_,rfl,by rfl,by walk_at "vis",by decide,by decide,by rfl,by decide,by rfl,by rfl⟩) (by rfl) (by walk_at "loc") (by rfl) (by exact aY rfl) ?_ ?_
 |refine MP.ifCal (by exact⟨_,_,_,_,rfl,by rfl,by walk_at "vis",by decide,by decide,by rfl,by decide,by rfl,by rfl⟩) ?_ ?_ ?_
 |refine MP.appC (by decide) (by exact⟨_,_,_,_,rfl,by rfl,by walk_at "vis",by decide,by decide,by rfl,by decide,by rfl,by rfl⟩) (by rfl) (by walk_at "vis") (by decide) (by decide) (by rfl) (by rfl) (by rfl) (by rfl) (by rfl) ?_ ?_
 |refine MP.whlA (by rfl) (by walk_at "vis") (by decide) (by decide) (by exact⟨_,rfl⟩) ?_ ?_
 |intro C s H fp pn
 |intro pn xe)
local macro_rules | `(tactic| walk_at "bnd")=>`(tactic| (intro _ _ _ _ _ _ us hl; first | (obtain ⟨_,e⟩:=us1 hl; subst e; rfl) | (obtain ⟨_,_,e⟩:=us2 hl; subst e; rfl) | (obtain ⟨_,_,_,e⟩:=us3 hl; subst e; rfl)))
local macro_rules | `(tactic| walk_at "sc")=>`(tactic| exact ⟨rfl,rfl,rfl,by decide +kernel,rfl,by decide +kernel,by decide +kernel⟩)
local macro_rules | `(tactic| walk_at "lk")=>`(tactic| first | walk_at "sc" | walk_at "bnd" | decide)
namespace K13
section
variable{P:ay}{w:aD}{K:k70}{mg:k73}{base:aG}
theorem pcS:PcS P w K mg base (inClass (top 12) 0) (inClass (top 12) 1) (inClass (top 12) 2) (inClass (top 12) 3) :=
 ⟨by walk_at "sc",by walk_at "sc",by walk_at "sc",by walk_at "sc",⟨_,_,_,_,_,_,_,_,_,_,_,_,_,rfl,rfl⟩,⟨_,_,_,_,_,_,_,_,_,_,_,_,_,_,_,_,_,rfl⟩,⟨_,_,_,_,_,_,_,_,_,_,_,_,_,_,_,rfl,λf cdv A outer s H E=>⟨_,rfl⟩⟩,⟨_,_,_,_,_,_,_,_,rfl⟩,⟨by walk_at "vis",by walk_at "vis",by walk_at "vis",by walk_at "vis",by walk_at "vis"⟩,⟨rfl,rfl,rfl⟩,(by intro _ _ _ _ _ _ us hl;obtain⟨_,_,e⟩:=us2 hl;subst e;rfl),(by intro _ _ _ _ _ _ us hl;obtain⟨_,e⟩:=us1 hl;subst e;rfl),(by intro _ _ _ _ _ _ us hl;obtain⟨_,e⟩:=us1 hl;subst e;rfl),(by intro _ _ _ _ _ _ us hl;obtain⟨_,e⟩:=us1 hl;subst e;rfl)⟩
theorem Ek:TrT P w K mg base "is_word" ["piece"] (top 10) Vj:=by
 intro f cdv A outer s H E xe;unfold Vj
 repeat' (walk_at "ts")
theorem Bb:TrT P w K mg base "is_made_of" ["piece","signs","sign"] (top 11) Qo:=by
 intro f cdv A outer s H E xe;unfold Qo
 repeat' (walk_at "ts")
theorem Ej:TrT P w K mg base "rows_of" ["many"] (top 17) Vi:=by
 intro f cdv A outer s H E xe;unfold Vi
 repeat' (walk_at "ts")
theorem Oz:TrT P w K mg base "row_number" ["row"] (top 18) Va:=by
 intro f cdv A outer s H E xe;unfold Va
 repeat' (walk_at "ts")
theorem Ym:TrT P w K mg base "refuse_wrong_size" ["many"] (top 19) vp:=by
 intro f cdv A outer s H E xe;unfold vp
 repeat' (walk_at "ts")
theorem Mz:TrT P w K mg base "all_choices" ["figures_by_spot","chosen","figures","longer","ahead","figure"] (top 20) J1:=by
 intro f cdv A outer s H E xe;unfold J1
 repeat' (walk_at "ts")
theorem Ds:TrT P w K mg base "number_of" ["figures","base","number","figure"] (top 21) Vz:=by
 intro f cdv A outer s H E xe;unfold Vz
 repeat' (walk_at "ts")
theorem Y5:TrT P w K mg base "refuse_wrong_places" ["places","ahead","place"] (top 23) v8:=by
 intro f cdv A outer s H E xe;unfold v8
 repeat' (walk_at "ts")
theorem Ro:TrT P w K mg base "count_of_rows" ["many"] (top 24) Qt:=by
 intro f cdv A outer s H E xe;unfold Qt
 repeat' (walk_at "ts")
theorem Rn:TrT P w K mg base "question_read" ["text","places","form","answers","row"] (top 34) Jq:=by
 intro f cdv A outer s H E xe;unfold Jq
 repeat' (walk_at "ts")
theorem El:TrT P w K mg base "form_of" ["text","pieces","form"] (top 35) Vk:=by
 intro f cdv A outer s H E xe;unfold Vk
 repeat' (walk_at "ts")
noncomputable def Uz:Px:=(.take 2 (.ifCal (.cmp .eq (.var 2) (.lit (.str "("))) "bracketed_taken" (.cons (.bin .add (.var 1) (.lit (.int 1))) .nil) (.ifRai (.not (.call "is_word" (.cons (.var 2) .nil))) "NoText" (.fst (.cons (.rpr (.var 2)) (.cons (.lit (.str " stands where a form is wanted")) .nil))) (.ret (.tup (.cons (.glob "PLACE") (.cons (.var 2) (.cons (.tup .nil) .nil))))))))
theorem Bc:TrM P w K mg base "form_taken" ["pieces","brackets","piece"] (top 36) Uz:=by
 intro f cdv A outer s H E xe;unfold Uz
 repeat' (walk_at "ts")
noncomputable def V1:Px:=(.ifRai (.cmp .gt (.var 1) (.glob "MOST_BRACKETS")) "NoText" (.fst (.cons (.lit (.str "more than ")) (.cons (.glob "MOST_BRACKETS") (.cons (.lit (.str " brackets stand unclosed at once")) .nil)))) (.take 2 (.ifRai (.cmp .notin (.var 2) (.glob "KINDS")) "NoText" (.fst (.cons (.rpr (.var 2)) (.cons (.lit (.str " is no kind")) .nil))) (.takeIf 3 (.call "wants_own" (.cons (.var 2) .nil)) (.lit (.str "")) (.set 4 (.lst .nil) (.whlA ")" (.appC 4 "form_taken" (.cons (.var 1) .nil) .nop) (.takeE (.ifRai (.or (.not (.call "takes_count" (.cons (.var 2) (.cons (.blt .len (.cons (.var 4) .nil)) .nil)))) (.not (.call "takes_own" (.cons (.var 2) (.cons (.var 3) (.cons (.blt .len (.cons (.var 4) .nil)) .nil)))))) "NoText" (.fst (.cons (.rpr (.var 2)) (.cons (.lit (.str " has not what it wants")) .nil))) (.ret (.tup (.cons (.var 2) (.cons (.var 3) (.cons (.blt .tuple (.cons (.var 4) .nil)) .nil)))))))))))))
theorem W0:TrM P w K mg base "bracketed_taken" ["pieces","brackets","kind","own","forms"] (top 37) V1:=by
 intro f cdv A outer s H E xe;unfold V1
 repeat' (walk_at "ts")
theorem Dq:TrT P w K mg base "wants_own" ["kind"] (top 38) Vx:=by
 intro f cdv A outer s H E xe;unfold Vx
 repeat' (walk_at "ts")
theorem Mx:TrT P w K mg base "takes_count" ["kind","count"] (top 39) Zi:=by
 intro f cdv A outer s H E xe;unfold Zi
 repeat' (walk_at "ts")
theorem Dr:TrT P w K mg base "takes_own" ["kind","own","count"] (top 40) Vy:=by
 intro f cdv A outer s H E xe;unfold Vy
 repeat' (walk_at "ts")
theorem Dt:TrT P w K mg base "is_number" ["piece"] (top 41) Y0:=by
 intro f cdv A outer s H E xe;unfold Y0
 repeat' (walk_at "ts")
theorem Le:TrT P w K mg base "keeps_to" ["form","places","inner"] (top 42) Qk:=by
 intro f cdv A outer s H E xe;unfold Qk
 repeat' (walk_at "ts")
theorem Ei:TrT P w K mg base "said_by" ["form","numbers","said","inner"] (top 43) Z9:=by
 intro f cdv A outer s H E xe;unfold Z9
 repeat' (walk_at "ts")
theorem Ld:TrT P w K mg base "says_yes" ["kind","own","said"] (top 44) Zy:=by
 intro f cdv A outer s H E xe;unfold Zy
 repeat' (walk_at "ts")
theorem Lg:TrT P w K mg base "has_ring" ["said"] (top 45) Yj:=by
 intro f cdv A outer s H E xe;unfold Yj
 repeat' (walk_at "ts")
theorem Yn:TrT P w K mg base "count_of_clusters" ["said","marks","tie","number"] (top 46) Jr:=by
 intro f cdv A outer s H E xe;unfold Jr
 repeat' (walk_at "ts")
theorem Ba:TrT P w K mg base "marks_tied" ["marks","one","other","mark"] (top 47) Vb:=by
 intro f cdv A outer s H E xe;unfold Vb
 repeat' (walk_at "ts")
theorem j5u:TrT P w K mg base "_law_cell" ["_law_script","_law_k","_law_spare"] (top 49) Vm:=by
 intro f cdv A outer s H E xe;unfold Vm
 repeat' (walk_at "ts")
theorem j2q:TrT P w K mg base "_law_words" ["_law_cell_here","_law_many","_law_letters","_law_long","_law_k","_law_start","_law_size","_law_stem","_law_at"] (top 50) Zj:=by
 intro f cdv A outer s H E xe;unfold Zj
 repeat' (walk_at "ts")
theorem j5s:TrT P w K mg base "_law_same" ["_law_found","_law_due","_law_unlike","_law_k"] (top 51) Zk:=by
 intro f cdv A outer s H E xe;unfold Zk
 repeat' (walk_at "ts")
theorem ja0:TrT P w K mg base "_law_row" ["_law_many","_law_number","_law_row_here","_law_k"] (top 52) Yz:=by
 intro f cdv A outer s H E xe;unfold Yz
 repeat' (walk_at "ts")
theorem j2r:TrT P w K mg base "_law_order" ["_law_cell_here","_law_many","_law_left","_law_k","_law_order_here","_law_draw"] (top 53) Ut:=by
 intro f cdv A outer s H E xe;unfold Ut
 repeat' (walk_at "ts")
theorem j5t:TrT P w K mg base "_law_ring" ["_law_ties_here","_law_rings","_law_ring_here","_law_k"] (top 54) Nh:=by
 intro f cdv A outer s H E xe;unfold Nh
 repeat' (walk_at "ts")
theorem j12:TrT P w K mg base "_law_joined" ["_law_ties_here","_law_cuts","_law_cut","_law_k"] (top 55) Wr:=by
 intro f cdv A outer s H E xe;unfold Wr
 repeat' (walk_at "ts")
theorem j5r:TrT P w K mg base "_law_ties" ["_law_row_here","_law_order_here","_law_bent","_law_ties_here","_law_spot"] (top 56) Ri:=by
 intro f cdv A outer s H E xe;unfold Ri
 repeat' (walk_at "ts")
theorem j8u:TrT P w K mg base "law" ["_law_script","_law_places","_law_order_here","_law_bent","_law_told","_law_spot","_law_rings","_law_joins","_law_number","_law_ties_here","_law_found","_law_other"] (top 57) j2c:=by
 intro f cdv A outer s H E xe;unfold j2c
 repeat' (walk_at "ts")
end
set_option maxHeartbeats 0 in
theorem head {l:dJ} {w:aD} {K:k70} {h:aG} {mg:k73} {fa:ak} (X:K.In h) (Gn:h.Ns aw mg) (hfa:mg "law" = aa (.ref fa))
  (h0:Lf K "is_word" (top 10))
  (h1:Lf K "is_made_of" (top 11))
  (h2:Lf K "rows_of" (top 17))
  (h3:Lf K "row_number" (top 18))
  (h4:Lf K "refuse_wrong_size" (top 19))
  (h5:Lf K "all_choices" (top 20))
  (h6:Lf K "number_of" (top 21))
  (h7:Lf K "refuse_wrong_places" (top 23))
  (h8:Lf K "count_of_rows" (top 24))
  (h9:Lf K "question_read" (top 34))
  (h10:Lf K "form_of" (top 35))
  (h11:Lf K "form_taken" (top 36))
  (h12:Lf K "bracketed_taken" (top 37))
  (h13:Lf K "wants_own" (top 38))
  (h14:Lf K "takes_count" (top 39))
  (h15:Lf K "takes_own" (top 40))
  (h16:Lf K "is_number" (top 41))
  (h17:Lf K "keeps_to" (top 42))
  (h18:Lf K "said_by" (top 43))
  (h19:Lf K "says_yes" (top 44))
  (h20:Lf K "has_ring" (top 45))
  (h21:Lf K "count_of_clusters" (top 46))
  (h22:Lf K "marks_tied" (top 47))
  (h23:Lf K "_law_cell" (top 49))
  (h24:Lf K "_law_words" (top 50))
  (h25:Lf K "_law_same" (top 51))
  (h26:Lf K "_law_row" (top 52))
  (h27:Lf K "_law_order" (top 53))
  (h28:Lf K "_law_ring" (top 54))
  (h29:Lf K "_law_joined" (top 55))
  (h30:Lf K "_law_ties" (top 56))
  (h31:Lf K "law" (top 57))
  (bz:bOk K=af) {ts:List ak} (tz:tOk K ts=af)
  {gt0:dF} {gt1:dF} {gt2:dF} {gt3:dF} {gt5:dF} {gt6:dF} {ga4:ak} {ga4n:Nat} {ga4s:Array (Option aj)} {gt8:dF} {gt9:dF} {gt10:dF} {gt11:dF} {gt12:dF} {gt13:dF} {gt14:dF} {gt15:dF} {gt16:dF} {ga7:ak} {ga7n:Nat} {ga7s:Array (Option aj)} {gt18:dF} {gt19:dF} {ga17:ak} {ga17n:Nat} {ga17s:Array (Option aj)} {gt21:dF} {gt22:dF} {ga20:ak} {ga20n:Nat} {ga20s:Array (Option aj)} {gt23:dF} {gt24:dF} {gt25:dF} {gt27:dF} {gt28:dF} {gt29:dF} {gt30:dF} {ga26:ak} {ga26n:Nat} {ga26s:Array (Option aj)} {gt33:dF} {gt34:dF} {ga32:ak} {ga32n:Nat} {ga32s:Array (Option aj)} {gt36:dF} {gt37:dF} {ga35:ak} {ga35n:Nat} {ga35s:Array (Option aj)} {gt39:dF} {gt40:dF} {ga38:ak} {ga38n:Nat} {ga38s:Array (Option aj)} {gt42:dF} {gt43:dF} {ga41:ak} {ga41n:Nat} {ga41s:Array (Option aj)} {gt45:dF} {gt46:dF} {ga44:ak} {ga44n:Nat} {ga44s:Array (Option aj)} {gt48:dF} {gt49:dF} {ga47:ak} {ga47n:Nat} {ga47s:Array (Option aj)} {ga31:ak} {ga31n:Nat} {ga31s:Array (Option aj)}
  (gn0:ba K aw "LETTERS" = aa (aa (.str "abcdefghijklmnopqrstuvwxyz" gt0))) (gn1:ba K aw "LONGEST_WORD" = aa (aa (.int 8 gt1))) (gn2:ba K aw "FEWEST_PLACES" = aa (aa (.int 1 gt2))) (gn3:ba K aw "MOST_PLACES" = aa (aa (.int 6 gt3))) (ga4l:K.lookup ga4=aa ⟨.type "tuple",ah,.seq #[.int 0 gt5,.int 1 gt6] ga4n,ga4s⟩) (gn4:ba K aw "ANSWERS" = aa (aa (.ref ga4))) (ga7l:K.lookup ga7=aa ⟨.type "tuple",ah,.seq #[.str "not" gt8,.str "all" gt9,.str "any" gt10,.str "odd" gt11,.str "least" gt12,.str "just" gt13,.str "table" gt14,.str "ring" gt15,.str "joined" gt16] ga7n,ga7s⟩) (gn5:ba K aw "KINDS" = aa (aa (.ref ga7))) (ga17l:K.lookup ga17=aa ⟨.type "tuple",ah,.seq #[.str "least" gt18,.str "just" gt19] ga17n,ga17s⟩) (gn6:ba K aw "COUNTING_KINDS" = aa (aa (.ref ga17))) (ga20l:K.lookup ga20=aa ⟨.type "tuple",ah,.seq #[.str "ring" gt21,.str "joined" gt22] ga20n,ga20s⟩) (gn7:ba K aw "TYING_KINDS" = aa (aa (.ref ga20))) (gn8:ba K aw "PLACE" = aa (aa (.str "place" gt23))) (gn9:ba K aw "MOST_BRACKETS" = aa (aa (.int 8 gt24))) (gn10:ba K aw "MOST_TABLE_FORMS" = aa (aa (.int 4 gt25))) (ga26l:K.lookup ga26=aa ⟨.type "tuple",ah,.seq #[.int 0 gt27,.int 1 gt28,.int 2 gt29,.int 3 gt30] ga26n,ga26s⟩) (gn11:ba K aw "TIED_SPOTS" = aa (aa (.ref ga26))) (ga32l:K.lookup ga32=aa ⟨.type "tuple",ah,.seq #[.int 0 gt33,.int 1 gt34] ga32n,ga32s⟩) (ga35l:K.lookup ga35=aa ⟨.type "tuple",ah,.seq #[.int 0 gt36,.int 2 gt37] ga35n,ga35s⟩) (ga38l:K.lookup ga38=aa ⟨.type "tuple",ah,.seq #[.int 0 gt39,.int 3 gt40] ga38n,ga38s⟩) (ga41l:K.lookup ga41=aa ⟨.type "tuple",ah,.seq #[.int 1 gt42,.int 2 gt43] ga41n,ga41s⟩) (ga44l:K.lookup ga44=aa ⟨.type "tuple",ah,.seq #[.int 1 gt45,.int 3 gt46] ga44n,ga44s⟩) (ga47l:K.lookup ga47=aa ⟨.type "tuple",ah,.seq #[.int 2 gt48,.int 3 gt49] ga47n,ga47s⟩) (ga31l:K.lookup ga31=aa ⟨.type "tuple",ah,.seq #[.ref ga32,.ref ga35,.ref ga38,.ref ga41,.ref ga44,.ref ga47] ga31n,ga31s⟩) (gn12:ba K aw "TIES" = aa (aa (.ref ga31)))
  (exa:R9 K=af)
  {C:ak} (hpc:PcH K C (inClass (top 12) 0) (inClass (top 12) 1) (inClass (top 12) 2) (inClass (top 12) 3))
  {fu n:Nat} (hlaw:∀ns:List Int,ns.length<=63->evP fu G T (n+1) "law" [.lst (ns.map D.int)]=.val (.bl af)) :
  ∃fd:aM,(∀(s:aq)(v:aj),gc s fd ⟨[v],[]⟩ [("_law_script",v)])/\∀base:aG,K.In base->base.Ns aw mg->FnOk l.prog w K mg base CX0 (lv (n+1)) fa fd ["_law_script"] (Ca K):=by
 have hL:=h31;obtain⟨f,oc,od,kV,dc,pm,an,cd,ct,sl,a,lk,c,k⟩:=hL;have e:=hfa.symm.trans (Xw X Gn a);cases e;refine⟨PySem.W.fnOf "law" "law" (qy (top 57)) (je (top 57)) (j0 (top 57)) .none kV dc pm an cd ct,λs v=>.of_eq rfl,λbase hKb hNb=>?_⟩;have pcm:∃C,mg "Pieces" = aa (.ref C)/\Mv l.prog w K mg base C:=jhm pcS hpc X Gn (j9i X Gn bz "len" (by decide));have hT:∀x F,T x=aa F->LkF l.prog w K mg base x F:=λx F hx=>by
  have all:∀p∈tbl,LkF l.prog w K mg base p.1 p.2:=by
   intro p hp;simp only[tbl,xn,cT,or_false]at hp;rcases hp with rfl|rfl|rfl|rfl|rfl|rfl|rfl|rfl|rfl|rfl|rfl|rfl|rfl|rfl|rfl|rfl|rfl|rfl|rfl|rfl|rfl|rfl|rfl|rfl|rfl|rfl|rfl|rfl|rfl|rfl|rfl|rfl
   .refine lkF (qj h0 X Gn Ek ["piece"] ?_ rfl rfl ?_ ?_) rfl ?_ ?_<;>walk_at "lk"
   .refine lkF (qj h1 X Gn Bb ["piece","signs"] ?_ rfl rfl ?_ ?_) rfl ?_ ?_<;>walk_at "lk"
   .refine lkF (qj h2 X Gn Ej ["many"] ?_ rfl rfl ?_ ?_) rfl ?_ ?_<;>walk_at "lk"
   .refine lkF (qj h3 X Gn Oz ["row"] ?_ rfl rfl ?_ ?_) rfl ?_ ?_<;>walk_at "lk"
   .refine lkF (qj h4 X Gn Ym ["many"] ?_ rfl rfl ?_ ?_) rfl ?_ ?_<;>walk_at "lk"
   .refine lkF (qj h5 X Gn Mz ["figures_by_spot"] ?_ rfl rfl ?_ ?_) rfl ?_ ?_<;>walk_at "lk"
   .refine lkF (qj h6 X Gn Ds ["figures","base"] ?_ rfl rfl ?_ ?_) rfl ?_ ?_<;>walk_at "lk"
   .refine lkF (qj h7 X Gn Y5 ["places"] ?_ rfl rfl ?_ ?_) rfl ?_ ?_<;>walk_at "lk"
   .refine lkF (qj h8 X Gn Ro ["many"] ?_ rfl rfl ?_ ?_) rfl ?_ ?_<;>walk_at "lk"
   .refine lkF (qj h9 X Gn Rn ["text","places"] ?_ rfl rfl ?_ ?_) rfl ?_ ?_<;>walk_at "lk"
   .refine lkF (qj h10 X Gn El ["text"] ?_ rfl rfl ?_ ?_) rfl ?_ ?_<;>walk_at "lk"
   .exact j3x (g:="form_taken") (by decide +kernel) h11 X Gn Bc ["pieces","brackets"] (by walk_at "sc") rfl rfl rfl rfl (by decide) (by decide) (by walk_at "bnd") pcm
   .exact j3x (g:="bracketed_taken") (by decide +kernel) h12 X Gn W0 ["pieces","brackets"] (by walk_at "sc") rfl rfl rfl rfl (by decide) (by decide) (by walk_at "bnd") pcm
   .refine lkF (qj h13 X Gn Dq ["kind"] ?_ rfl rfl ?_ ?_) rfl ?_ ?_<;>walk_at "lk"
   .refine lkF (qj h14 X Gn Mx ["kind","count"] ?_ rfl rfl ?_ ?_) rfl ?_ ?_<;>walk_at "lk"
   .refine lkF (qj h15 X Gn Dr ["kind","own","count"] ?_ rfl rfl ?_ ?_) rfl ?_ ?_<;>walk_at "lk"
   .refine lkF (qj h16 X Gn Dt ["piece"] ?_ rfl rfl ?_ ?_) rfl ?_ ?_<;>walk_at "lk"
   .refine lkF (qj h17 X Gn Le ["form","places"] ?_ rfl rfl ?_ ?_) rfl ?_ ?_<;>walk_at "lk"
   .refine lkF (qj h18 X Gn Ei ["form","numbers"] ?_ rfl rfl ?_ ?_) rfl ?_ ?_<;>walk_at "lk"
   .refine lkF (qj h19 X Gn Ld ["kind","own","said"] ?_ rfl rfl ?_ ?_) rfl ?_ ?_<;>walk_at "lk"
   .refine lkF (qj h20 X Gn Lg ["said"] ?_ rfl rfl ?_ ?_) rfl ?_ ?_<;>walk_at "lk"
   .refine lkF (qj h21 X Gn Yn ["said"] ?_ rfl rfl ?_ ?_) rfl ?_ ?_<;>walk_at "lk"
   .refine lkF (qj h22 X Gn Ba ["marks","one","other"] ?_ rfl rfl ?_ ?_) rfl ?_ ?_<;>walk_at "lk"
   .refine lkF (qj h23 X Gn j5u ["_law_script","_law_k"] ?_ rfl rfl ?_ ?_) rfl ?_ ?_<;>walk_at "lk"
   .refine lkF (qj h24 X Gn j2q ["_law_cell_here","_law_many"] ?_ rfl rfl ?_ ?_) rfl ?_ ?_<;>walk_at "lk"
   .refine lkF (qj h25 X Gn j5s ["_law_found","_law_due"] ?_ rfl rfl ?_ ?_) rfl ?_ ?_<;>walk_at "lk"
   .refine lkF (qj h26 X Gn ja0 ["_law_many","_law_number"] ?_ rfl rfl ?_ ?_) rfl ?_ ?_<;>walk_at "lk"
   .refine lkF (qj h27 X Gn j2r ["_law_cell_here","_law_many"] ?_ rfl rfl ?_ ?_) rfl ?_ ?_<;>walk_at "lk"
   .refine lkF (qj h28 X Gn j5t ["_law_ties_here"] ?_ rfl rfl ?_ ?_) rfl ?_ ?_<;>walk_at "lk"
   .refine lkF (qj h29 X Gn j12 ["_law_ties_here"] ?_ rfl rfl ?_ ?_) rfl ?_ ?_<;>walk_at "lk"
   .refine lkF (qj h30 X Gn j5r ["_law_row_here","_law_order_here","_law_bent"] ?_ rfl rfl ?_ ?_) rfl ?_ ?_<;>walk_at "lk"
   .refine lkF (qj h31 X Gn j8u ["_law_script"] ?_ rfl rfl ?_ ?_) rfl ?_ ?_<;>walk_at "lk"
  exact all (x,F) (lookup_mem hx)
 have bt:=j9i X Gn bz;have gl:∀x d,gs.lookup x=aa d->∃u v,mg x=aa u/\RelV v u/\∀H,Enc K H d v:=by
  intro x d hx;have hm:=lookup_mem hx;simp only[gs,xn,cT,or_false,Prod.mk.injEq]at hm;rcases hm with ⟨e1,e2⟩|⟨e1,e2⟩|⟨e1,e2⟩|⟨e1,e2⟩|⟨e1,e2⟩|⟨e1,e2⟩|⟨e1,e2⟩|⟨e1,e2⟩|⟨e1,e2⟩|⟨e1,e2⟩|⟨e1,e2⟩|⟨e1,e2⟩|⟨e1,e2⟩
  .subst e1 e2;exact⟨.str "abcdefghijklmnopqrstuvwxyz" gt0,.str "abcdefghijklmnopqrstuvwxyz",Xw X Gn gn0,⟨_,rfl⟩,λ_=>rfl⟩
  .subst e1 e2;exact⟨.int 8 gt1,.int 8,Xw X Gn gn1,⟨_,rfl⟩,λ_=>rfl⟩
  .subst e1 e2;exact⟨.int 1 gt2,.int 1,Xw X Gn gn2,⟨_,rfl⟩,λ_=>rfl⟩
  .subst e1 e2;exact⟨.int 6 gt3,.int 6,Xw X Gn gn3,⟨_,rfl⟩,λ_=>rfl⟩
  .subst e1 e2;exact⟨.ref ga4,.ref ga4,Xw X Gn gn4,rfl,λH=>⟨ga4,[.int 0,.int 1],rfl,.inr ⟨_,_,_,ga4l,rfl,rfl,rfl,(by show 2<=ar;decide),(.cons ⟨_,rfl⟩ (.cons ⟨_,rfl⟩ .nil))⟩,⟨_,_,rfl,rfl,⟨_,_,rfl,rfl,rfl⟩⟩⟩⟩
  .subst e1 e2;exact⟨.ref ga7,.ref ga7,Xw X Gn gn5,rfl,λH=>⟨ga7,[.str "not",.str "all",.str "any",.str "odd",.str "least",.str "just",.str "table",.str "ring",.str "joined"],rfl,.inr ⟨_,_,_,ga7l,rfl,rfl,rfl,(by show 9<=ar;decide),(.cons ⟨_,rfl⟩ (.cons ⟨_,rfl⟩ (.cons ⟨_,rfl⟩ (.cons ⟨_,rfl⟩ (.cons ⟨_,rfl⟩ (.cons ⟨_,rfl⟩ (.cons ⟨_,rfl⟩ (.cons ⟨_,rfl⟩ (.cons ⟨_,rfl⟩ .nil)))))))))⟩,⟨_,_,rfl,rfl,⟨_,_,rfl,rfl,⟨_,_,rfl,rfl,⟨_,_,rfl,rfl,⟨_,_,rfl,rfl,⟨_,_,rfl,rfl,⟨_,_,rfl,rfl,⟨_,_,rfl,rfl,⟨_,_,rfl,rfl,rfl⟩⟩⟩⟩⟩⟩⟩⟩⟩⟩⟩
  .subst e1 e2;exact⟨.ref ga17,.ref ga17,Xw X Gn gn6,rfl,λH=>⟨ga17,[.str "least",.str "just"],rfl,.inr ⟨_,_,_,ga17l,rfl,rfl,rfl,(by show 2<=ar;decide),(.cons ⟨_,rfl⟩ (.cons ⟨_,rfl⟩ .nil))⟩,⟨_,_,rfl,rfl,⟨_,_,rfl,rfl,rfl⟩⟩⟩⟩
  .subst e1 e2;exact⟨.ref ga20,.ref ga20,Xw X Gn gn7,rfl,λH=>⟨ga20,[.str "ring",.str "joined"],rfl,.inr ⟨_,_,_,ga20l,rfl,rfl,rfl,(by show 2<=ar;decide),(.cons ⟨_,rfl⟩ (.cons ⟨_,rfl⟩ .nil))⟩,⟨_,_,rfl,rfl,⟨_,_,rfl,rfl,rfl⟩⟩⟩⟩
  .subst e1 e2;exact⟨.str "place" gt23,.str "place",Xw X Gn gn8,⟨_,rfl⟩,λ_=>rfl⟩
  .subst e1 e2;exact⟨.int 8 gt24,.int 8,Xw X Gn gn9,⟨_,rfl⟩,λ_=>rfl⟩
  .subst e1 e2;exact⟨.int 4 gt25,.int 4,Xw X Gn gn10,⟨_,rfl⟩,λ_=>rfl⟩
  .subst e1 e2;exact⟨.ref ga26,.ref ga26,Xw X Gn gn11,rfl,λH=>⟨ga26,[.int 0,.int 1,.int 2,.int 3],rfl,.inr ⟨_,_,_,ga26l,rfl,rfl,rfl,(by show 4<=ar;decide),(.cons ⟨_,rfl⟩ (.cons ⟨_,rfl⟩ (.cons ⟨_,rfl⟩ (.cons ⟨_,rfl⟩ .nil))))⟩,⟨_,_,rfl,rfl,⟨_,_,rfl,rfl,⟨_,_,rfl,rfl,⟨_,_,rfl,rfl,rfl⟩⟩⟩⟩⟩⟩
  .subst e1 e2;exact⟨.ref ga31,.ref ga31,Xw X Gn gn12,rfl,λH=>⟨ga31,[.ref ga32,.ref ga35,.ref ga38,.ref ga41,.ref ga44,.ref ga47],rfl,.inr ⟨_,_,_,ga31l,rfl,rfl,rfl,(by show 6<=ar;decide),(.cons rfl (.cons rfl (.cons rfl (.cons rfl (.cons rfl (.cons rfl .nil))))))⟩,⟨_,_,rfl,(λH=>⟨ga32,[.int 0,.int 1],rfl,.inr ⟨_,_,_,ga32l,rfl,rfl,rfl,(by show 2<=ar;decide),(.cons ⟨_,rfl⟩ (.cons ⟨_,rfl⟩ .nil))⟩,⟨_,_,rfl,rfl,⟨_,_,rfl,rfl,rfl⟩⟩⟩) H,⟨_,_,rfl,(λH=>⟨ga35,[.int 0,.int 2],rfl,.inr ⟨_,_,_,ga35l,rfl,rfl,rfl,(by show 2<=ar;decide),(.cons ⟨_,rfl⟩ (.cons ⟨_,rfl⟩ .nil))⟩,⟨_,_,rfl,rfl,⟨_,_,rfl,rfl,rfl⟩⟩⟩) H,⟨_,_,rfl,(λH=>⟨ga38,[.int 0,.int 3],rfl,.inr ⟨_,_,_,ga38l,rfl,rfl,rfl,(by show 2<=ar;decide),(.cons ⟨_,rfl⟩ (.cons ⟨_,rfl⟩ .nil))⟩,⟨_,_,rfl,rfl,⟨_,_,rfl,rfl,rfl⟩⟩⟩) H,⟨_,_,rfl,(λH=>⟨ga41,[.int 1,.int 2],rfl,.inr ⟨_,_,_,ga41l,rfl,rfl,rfl,(by show 2<=ar;decide),(.cons ⟨_,rfl⟩ (.cons ⟨_,rfl⟩ .nil))⟩,⟨_,_,rfl,rfl,⟨_,_,rfl,rfl,rfl⟩⟩⟩) H,⟨_,_,rfl,(λH=>⟨ga44,[.int 1,.int 3],rfl,.inr ⟨_,_,_,ga44l,rfl,rfl,rfl,(by show 2<=ar;decide),(.cons ⟨_,rfl⟩ (.cons ⟨_,rfl⟩ .nil))⟩,⟨_,_,rfl,rfl,⟨_,_,rfl,rfl,rfl⟩⟩⟩) H,⟨_,_,rfl,(λH=>⟨ga47,[.int 2,.int 3],rfl,.inr ⟨_,_,_,ga47l,rfl,rfl,rfl,(by show 2<=ar;decide),(.cons ⟨_,rfl⟩ (.cons ⟨_,rfl⟩ .nil))⟩,⟨_,_,rfl,rfl,⟨_,_,rfl,rfl,rfl⟩⟩⟩) H,rfl⟩⟩⟩⟩⟩⟩⟩⟩
 have qn:∀f∈qs,∃fa,mg f=aa (.ref fa)/\PySem.W.keepIn K (.ref fa)=af:=by
  intro f hf;simp only[qs,xn,cT,or_false]at hf;rcases hf with rfl
  .exact jhg hpc X Gn
 have tb:Tb l.prog w K mg base G:=jgp bt gl exa (λp hp=>nomatch hp) (λz=>by cases z) hKb hNb qn (λp hp=>nomatch hp) (jht tz X Gn) (pc:=λ_=>pcm);exact jeg hT tb (F:=j23) (by rfl) rfl hfa (Z2 lk c k) _ (by walk_at "sc") rfl rfl (j8u _) hlaw
end K13
end
open PySem (Str sizeLine argBest)
open L2
namespace K13
open KL KW KV KB
theorem j4l(a:List ao):D.depL (a.map D.str)<=90:=by
 induction a with
 |nil=>simp[D.depL]
 |cons x a ih=>rw[X4,D.depL];simp[D.dep];exact ih
theorem gF:G "FEWEST_PLACES" = aa (.int 1):=by rfl
theorem gM:G "MOST_PLACES" = aa (.int 6):=by rfl
theorem gL:G "LETTERS" = aa (.str "abcdefghijklmnopqrstuvwxyz"):=by rfl
theorem gW8:G "LONGEST_WORD" = aa (.int 8):=by rfl
noncomputable def low(c:Nat):Bool:=decide (97<=c)&&decide (c<=122)
noncomputable def isW(l:List Nat):Bool:=(decide (1<=l.length)&&decide (l.length<=8))&&l.all low
def asc(l:List Nat):Prop:=∀c∈l,c<128
theorem ji9 {c:Nat} (h:c<128):inS (ch1 c) "abcdefghijklmnopqrstuvwxyz" = low c:=by
 have key:∀i:Fin 128,inS (ch1 i.val) "abcdefghijklmnopqrstuvwxyz" = low i.val:=by decide +kernel
 exact key ⟨c,h⟩
theorem jg2{l:List Nat}(h:asc l):ascii (sL l)=af:=by unfold ascii sL;rw[Array.all_eq_true'];intro c hc;simpa using h c (by simpa using hc)
theorem jft{l:List Nat}:chs (sL l)=l.map λc=>D.str (ch1 c):=by unfold chs;rw[Lw]
theorem j3u {n:Nat} {l:List Nat} (h:asc l) (hl:l.length<=1000):evP 1000 G T (n+1) "is_made_of" [.str (sL l),.str "abcdefghijklmnopqrstuvwxyz"]=.val (.bl (l.all low)):=by
 rw[qe (F:=V8) (by rfl) rfl];simp only[V8,Qo,enter];ext;rw[jd1 (jg2 h),jft,zx (l:=(l.map low).map D.bl) (by rfl) (by rw[xg];omega) ?_ (.inl rfl)]
 .ext;rw[gJ];rfl
 .rw[Xa];refine qz λc hc=>vy (by ext) ?_;ext;rw[ji9 (h c hc)];rfl
theorem Nt {n:Nat} {l:List Nat} (h:asc l) (hl:l.length<=1000):evP 1000 G T (n+2) "is_word" [.str (sL l)]=.val (.bl (isW l)):=by
 rw[qe (F:=Uh) (by rfl) rfl];simp only[Uh,Vj,enter];have sl:(sL l).length=l.length:=jx;have sl':(sL l).length<=1000000:=by omega
 by_cases h1:1<=l.length
 .by_cases h2:l.length<=8
  .ext;simp only[gW8];ext;simp only[gL];ext;rw[j3u h hl];ext;simp[isW,h1,h2]
  .ext;simp only[gW8];ext;simp[isW,h1,h2]
 .ext;simp[isW,h1]
noncomputable abbrev tx(l:List Nat):D:=.str (sL l)
theorem jc1(L:List (List Nat)):D.depL (L.map tx)<=90:=by have:=j4l (L.map sL);rw[Xa]at this;exact this
theorem j0k{L:List (List Nat)}{l:List Nat}(s:List D->D)(hs:s=D.tup\/s=D.lst):Jp .isin (tx l) (s (L.map tx))=aa (L.contains l):=by
 have e:(L.map tx).any (λe=>deq e (tx l))=L.contains l:=by
  induction L with
  |nil=>rfl
  |cons x L ih =>
   rw[X4,cD,ih,List.contains_cons,Ij];congr 1;by_cases z:x=l
   .subst z;simp
   .have h1:(sL x==sL l)=ae:=by simpa using λq=>z (Yq q)
    have h2:(l==x)=ae:=by simpa using λq=>z q.symm
    rw[h1,h2]
 have d:=jc1 L;have d2:(tx l).dep<=90:=by simp[D.dep]
 rcases hs with rfl|rfl
 .show(if D.depL (L.map tx)<=90/\(tx l).dep<=90 then aa ((L.map tx).any λe=>deq e (tx l))else ah)=_;rw[if_pos ⟨d,d2⟩,e]
 .show(if D.depL (L.map tx)<=90/\(tx l).dep<=90 then aa ((L.map tx).any λe=>deq e (tx l))else ah)=_;rw[if_pos ⟨d,d2⟩,e]
theorem jea(n:Int):lt n=0\/low (lt n)=af:=by
 unfold lt;have h:∀c∈letters,low c=af:=by decide
 rw[xj];cases e:letters[n.toNat]? with
 |none=>exact .inl rfl
 |some c=>exact .inr (h c (Xn e))
theorem Bq{n:Int}(h:0<=n/\n<26):low (lt n)=af:=by
 rcases jea n with z|z
 .obtain⟨i,rfl⟩:∃i:Nat,n=(i:Int):=⟨n.toNat,by omega⟩
  have key:∀i:Fin 26,letters.getD i.val 0≠0:=by decide
  exact absurd z (key ⟨i,by omega⟩)
 .exact z
theorem jb7{c:Nat}(h:low c=af):c<128:=by unfold low at h;rw[Xb]at h;have:=of_decide_eq_true h.2;omega
theorem j01{c:Int}{m k:Nat}:∀x∈wrd c m k,low x=af:=by
 have hl:∀x∈Zv c,low x=af:=λx hx=>by obtain⟨k,_,rfl⟩:=Xe.mp hx;exact Bq nofun
 have hs:∀x∈Z0 c (szN c),low x=af:=λx hx=>by obtain⟨k,_,rfl⟩:=Xe.mp hx;exact Bq nofun
 intro x hx;unfold wrd at hx;split at hx
 .split at hx
  .exact hl x (eS hx)
  .exact hl x (hJ hx)
 .rcases Ph.mp hx with z|z
  .exact hs x (eS z)
  .rcases xn.mp z with z|z
   .rw[z];exact Bq nofun
   .exact hs x (hJ z)
theorem j5i{c:Int}{m k:Nat}:(wrd c m k).length<=8:=by
 have a:=Cu c;have l8:=J2 c;have ls:=z9 c (szN c);unfold wrd;split
 .split
  .rw[Xj];omega
  .rw[ph];omega
 .rw[X7,xr,Xj,ph];omega
noncomputable def wL(c:Int)(m:Nat):List (List Nat):=(aK m).map λk=>wrd c m k
theorem j5j(c:Int)(m:Nat):(Qy c m).map D.str=(wL c m).map tx:=by unfold Qy wL;rw[Xa,Xa];rfl
theorem j8s(c:Int)(m:Nat):∀l∈wL c m,asc l/\l.length<=100:=λl hl=>by obtain⟨k,_,rfl⟩:=Xe.mp hl;exact⟨λx hx=>jb7 (j01 x hx),Xh j5i (by decide)⟩
theorem jch{c:Int}{m:Nat}(hm:m<=6):∀l∈wL c m,isW l=af:=λl hl=>by obtain⟨k,hk,rfl⟩:=Xe.mp hl;have h:=j9t (c:=c) hm (Xr.mp hk);unfold isW;rw[decide_eq_true h.1,decide_eq_true h.2,Bool.and_self,Bool.true_and,Xp];exact j01
theorem j5k{c:Int}{m:Nat}(hm:m<=6):(wL c m).Nodup:=by unfold wL;unfold lj;rw[iP];exact kC (λhi hj h e=>h (j9u hm (Xr.mp hi) (Xr.mp hj) e)) (List.nodup_range (n:=m))
theorem Df(l:List Int):D.depL (l.map D.int)<=0:=D.depL_of λd hd=>by obtain⟨x,_,rfl⟩:=Xe.mp hd;simp[D.dep]
theorem j82(L:List (List Nat)):D.depL (L.map tx)<=0:=D.depL_of λd hd=>by obtain⟨x,_,rfl⟩:=Xe.mp hd;simp[D.dep]
theorem j71{L:List (List Nat)}(h:L.length<=1000):J3 (.tup (L.map tx)):=by simp only[J3];refine⟨by rw[xg];exact h,Yd λd hd=>?_⟩;obtain⟨x,_,rfl⟩:=Xe.mp hd;simp[J3]
noncomputable def qT(L:List (List Nat))(A:List Int):D:=.tup [.tup (L.map tx),.tup (A.map D.int)]
theorem placesOk {n:Nat} {P:D} (hT:∀l:List Nat,asc l->l.length<=100->evP 1000 G T n "is_word" [tx l]=.val (.bl (isW l))):∀(r pre:List (List Nat)) (s:Sv),pre.length+r.length<=200->(∀l∈r,(asc l/\l.length<=100)/\isW l=af)->(pre++r).Nodup ->
  ∃s',vf (Ur [2] (run 1000 (evP 1000 G T n) G (.seq (.ife (.not (.call "is_word" (.cons (.var 2) .nil))) (.seq (.raise "NoWord" (.fst (.cons (.rpr (.var 2)) (.cons (.lit (.str " is no word of one to eight small letters")) .nil)))) .nop) .nop) (.seq (.ife (.cmp .isin (.var 2) (.var 1)) (.seq (.raise "Twice" (.fst (.cons (.lit (.str "the place ")) (.cons (.rpr (.var 2)) (.cons (.lit (.str " stands twice")) .nil))))) .nop) .nop) (.seq (.app 1 (.var 2)) .nop))))) (r.map tx) [.val P,.own (pre.map tx),s]=.next [.val P,.own ((pre++r).map tx),s']
 |[],pre,s,_,_,_=>⟨s,by rw[eG,j3v,Xl]⟩
 |l::r,pre,s,hl,hr,hn=>by
  obtain⟨⟨ha,hb⟩,hw⟩:=hr l (xm ..);have w:=hT l ha hb;rw[hw]at w;have ii:=j0k (L:=pre) (l:=l) D.lst (.inr rfl);have hc:pre.contains l=ae:=by
   have:l∉pre:=λz=>by rw[List.nodup_append]at hn;exact hn.2.2 l z l (xm ..) rfl
   simpa using this
  rw[hc]at ii;have ih:=placesOk (n:=n) (P:=P) hT r (pre++[l]) (.val (tx l)) (by rw[X7];simp at hl ⊢;omega) (λx hx=>hr x (km _ hx)) (by rw[P0];exact hn);have hpl:(pre.map tx).length<=1000:=by rw[xg];simp at hl;omega
  rw[X4,Oc (ρ':=[.val P,.own ((pre++[l]).map tx),.val (tx l)])]
  .rw[P0]at ih;exact ih
  .simp only[Zh];ext;erw[w,ii];rw[Xz];rfl
theorem j8w {n:Nat} {m:Int} (hm:1<=m/\m<=6):evP 1000 G T (n+1) "refuse_wrong_size" [.int m]=.val .non:=by rw[qe (F:=Jo) (by rfl) rfl];simp only[Jo,vp,enter];ext;simp only[gF];ext;simp only[gM];ext
theorem jh4 {n:Nat} {L:List (List Nat)} (h1:1<=L.length/\L.length<=6) (hw:∀l∈L,isW l=af) (ho:∀l∈L,asc l/\l.length<=100) (hn:L.Nodup):evP 1000 G T (n+3) "refuse_wrong_places" [.lst (L.map tx)]=.val .non:=by rw[qe (F:=Je) (by rfl) rfl];simp only[Je,v8,enter];ext;rw[j8w nofun];ext;obtain⟨s',e⟩:=placesOk (n:=n+2) (P:=.lst (L.map tx)) (λl ha hl=>Nt ha nofun) L [] .un (by simp;omega) (λl hl=>⟨ho l hl,hw l hl⟩) (by simpa using hn);rw[d5]at e;rw[show([]:List D)=([]:List (List Nat)).map tx from rfl,e];ext
theorem j20:T "_law_cell" = aa KL.fL_cell:=by rfl
theorem jih:T "_law_same" = aa KL.fL_same:=by rfl
theorem j7s:T "all_choices" = aa KL.fP_all_choices:=by rfl
theorem jf2:T "_law_words" = aa KW.fL_words:=by rfl
theorem jkb:T "_law_row" = aa KL.fL_row:=by rfl
theorem gA:G "ANSWERS" = aa (.tup [.int 0,.int 1]):=by rfl
noncomputable def Nk:Rc->Option Bool
 |.val (.bl b)=>aa b
 |_=>ah
theorem Nj{r:Rc}{b:Bool}(h:(Nk r==aa b)=af):r=.val (.bl b):=by
 unfold Nk at h;split at h
 .have:=beq_iff_eq.mp h;cases this;rfl
 .cases h
noncomputable def b2i(b:Bool):Int:=if b then 1 else 0
noncomputable def isR(k:ao):Bool:=k == "ring"
noncomputable def Kf(k:ao)(l:List Bool):Rc:=evP 1000 G T 12 (if isR k then "_law_ring" else "_law_joined") [.lst (l.map D.bl)]
noncomputable def j67(k:ao)(l:List Bool):Rc:=evP 1000 G T 10 "says_yes" [.str k,.str "",.lst (l.map λb=>D.int (b2i b))]
noncomputable def Zd(k:ao)(l:List Bool):Bool:=(Nk (Kf k l)).getD ae
noncomputable def chk(k:ao)(l:List Bool):Bool:=Nk (Kf k l)==aa (Zd k l)&&Nk (j67 k l)==aa (Zd k l)
theorem j88:∀a b c d e f:Bool,chk "ring" [a,b,c,d,e,f]=af:=by decide +kernel
theorem j89:∀a b c d e f:Bool,chk "joined" [a,b,c,d,e,f]=af:=by decide +kernel
theorem six{l:List Bool}(h:l.length=6):∃a b c d e f,l=[a,b,c,d,e,f]:=by match l,h with|[a,b,c,d,e,f],_=>exact⟨a,b,c,d,e,f,rfl⟩
theorem M6 {k:ao} (hk:k = "ring"\/k = "joined") {l:List Bool} (h:l.length=6):Kf k l=.val (.bl (Zd k l))/\j67 k l=.val (.bl (Zd k l)):=by
 obtain⟨a,b,c,d,e,f,rfl⟩:=six h;have z:chk k [a,b,c,d,e,f]=af:=by
  rcases hk with rfl|rfl
  .exact j88 a b c d e f
  .exact j89 a b c d e f
 unfold chk at z;rw[Xb]at z;exact⟨Nj z.1,Nj z.2⟩
theorem Ks{n:Nat}{z:Int}(h:0<=z/\z<n):ixN n z=aa z.toNat:=by unfold ixN;rw[if_pos h.1,if_pos h.2]
theorem De{α β:Type}(f:α->β):∀(l:List α)(k:Nat),(l.map f).eraseIdx k=(l.eraseIdx k).map f
 |[],_=>rfl
 |_::_,0=>rfl
 |x::l,k+1=>by rw[X4,gC,gC,X4,De f l k]
noncomputable def oD(k:Nat):D:=.int (k:Int)
theorem j6p {n:Nat} {c:Int}:∃os:List Nat,os.length=6/\(∀o∈os,o<6)/\evP 1000 G T (n+1) "_law_order" [.int c,.int 6]=.fresh (os.map oD):=by
 obtain⟨ρ',e1,d,s3,left,out,er,h1,h2,h3,h4⟩:=Qv (f:=Ur [3] (run 1000 (evP 1000 G T n) G (.seq (.set 5 (.bin .mod (.bin .add (.bin .add (.bin .mul (.var 5) (.lit (.int 48271))) (.bin .mul (.lit (.int 7)) (.var 3))) (.lit (.int 1))) (.lit (.int 2147483647)))) (.seq (.apop 4 2 (.bin .mod (.bin .fdiv (.var 5) (.lit (.int 32))) (.blt .len (.cons (.var 2) .nil)))) .nop))))
   (λi ρ=>∃(d:Int)(s3:Sv)(left out:List Nat),ρ=[.val (.int c),.val (.int 6),.own (left.map oD),s3,.own (out.map oD),.val (.int d)]/\left.length+i=6/\out.length=i/\(∀o∈left,o<6)/\∀o∈out,o<6)
   (ds:=upto 0 6) (ρ:=[.val (.int c),.val (.int 6),.own ((aK 6).map oD),.un,.own [],.val (.int (c%2147483647))]) (k:=0) ⟨_,_,aK 6,[],rfl,rfl,rfl,λo h=>Xr.mp h,λo h=>nomatch h⟩ λi x ρ hi ⟨d,s3,left,out,er,h1,h2,h3,h4⟩=>by
  have hi6:i<6:=by have:=(Xd.mp hi).1;simpa [upto]using this
  obtain⟨z,ex⟩:∃z:Int,x=.int z:=by rw[Qq,X6]at hi;obtain⟨y,_,e⟩:=Pn.mp hi;exact⟨_,e.symm⟩
  subst er ex;have hl:0<left.length:=by omega
  obtain⟨u,eu⟩:∃u:Int,u=(d*48271+7*z+1)%2147483647:=⟨_,rfl⟩
  have hb:0<=u/32%(left.length:Int)/\u/32%(left.length:Int)<(left.length:Int):=⟨df _ nofun,fq _ nofun⟩
  obtain⟨k,ek⟩:∃k:Nat,k=(u/32%(left.length:Int)).toNat:=⟨_,rfl⟩
  have hk:k<left.length:=by omega
  refine⟨[.val (.int c),.val (.int 6),.own ((left.eraseIdx k).map oD),.val (.int z),.own ((out++[left[k]]).map oD),.val (.int u)],?_,u,.val (.int z),left.eraseIdx k,out++[left[k]],rfl,?_,?_,λo ho=>h3 o (List.mem_of_mem_eraseIdx ho),λo ho=>?_⟩
  .simp only[Zh];ext;rw[<-eu];rw[jcb (k:=k) (d:=oD left[k]) (by rw[xg,Ks hb,ek]) (by rw[X6,kh hk];rfl) (by decide) (by rw[xg];omega) (by rw[xg];omega)];ext;rw[De,Xz];rfl
  .rw[List.length_eraseIdx_of_lt hk];omega
  .rw[X7];simp;omega
  .rcases Ph.mp ho with z|z
   .exact h4 o z
   .rw[X3.mp z];exact h3 _ (Xx hk)
 refine⟨out,by simpa [upto]using h2,h4,?_⟩;rw[qe (F:=Mm) (by rfl) rfl];simp only[Mm,Ut,enter];ext;rw[zx (l:=(aK 6).map oD) (by rfl) (by simp[upto]) (by rfl) (.inl rfl)];ext;rw[e1,er];ext
theorem ixC{l:List Int}{k:Nat}(h:k<l.length):atI (l.map D.int) (k:Int)=aa (.int (l.getD k 0)):=by
 have:=jbp h
 rwa [dj]at this
noncomputable def Jw(row:List Int)(os:List Nat)(b:Int):List Bool:=if b<6 then(os.map λo=>decide (row.getD o 0=1)).set b.toNat (!(os.map λo=>decide (row.getD o 0=1)).getD b.toNat ae)else os.map λo=>decide (row.getD o 0=1)
theorem Nz{row:List Int}{os:List Nat}{b:Int}:(Jw row os b).length=os.length:=by unfold Jw;split<;>simp
theorem Fp:∀l:List Bool,qi (l.map D.bl)=af
 |[]=>rfl
 |_::l=>by rw[X4,qi,Fp l];rfl
theorem j2u {n:Nat} {row:List Int} {os:List Nat} {b:Int} (hr:row.length=6) (ho:os.length=6) (h6:∀o∈os,o<6) (hb:0<=b/\b<12):evP 1000 G T (n+1) "_law_ties" [.tup (row.map D.int),.lst (os.map oD),.int b]=.fresh ((Jw row os b).map D.bl):=by
 rw[qe (F:=By) (by rfl) rfl];simp only[By,Ri,enter];ext;rw[zx (l:=(os.map λo=>decide (row.getD o 0=1)).map D.bl) (by rfl) (by rw[xg];omega) ?_ (.inl rfl)]
 .ext;unfold Jw;by_cases h:b<6
  .ext;rw[if_pos h];have hx:atI ((os.map λo=>decide (row.getD o 0=1)).map D.bl) b=aa (.bl ((os.map λo=>decide (row.getD o 0=1)).getD b.toNat ae)):=by
    have e:b=((b.toNat:Nat):Int):=by omega
    have hl:b.toNat<(os.map λo=>decide (row.getD o 0=1)).length:=by rw[xg];omega
    rw[e,Xo];rw[xj,kh hl];exact U0 (by rw[X6,kh hl];rfl)
   erw[hx,j3d (n:=b.toNat) (Ks (by simp only[xg];omega))];rw[eF]
  .ext;rw[if_neg h]
 .rw[Xa];refine qz λo hoo=>vy (by ext) ?_;have:=h6 o hoo;unfold oD;ext;rw[ixC nofun];ext;rw[j0s];rfl
theorem gP:G "PLACE" = aa (.str "place"):=by rfl
theorem gMB:G "MOST_BRACKETS" = aa (.int 8):=by rfl
theorem gK:G "KINDS" = aa (.tup [.str "not",.str "all",.str "any",.str "odd",.str "least",.str "just",.str "table",.str "ring",.str "joined"]):=by rfl
noncomputable abbrev It:=Bool×List Nat
noncomputable def lp:List Nat:=[40]
noncomputable def rp:List Nat:=[41]
noncomputable def nt:List Nat:=[110,111,116]
theorem lpS:("(":ao)=sL lp:=by decide +kernel
theorem rpS:(")":ao)=sL rp:=by decide +kernel
theorem ntS:("not":ao)=sL nt:=by decide +kernel
noncomputable def pcs:It->List (List Nat)
 |(af,w)=>[lp,nt,w,rp]
 |(ae,w)=>[w]
noncomputable def plD(w:List Nat):D:=.tup [.str "place",tx w,.tup []]
noncomputable def frm:It->D
 |(af,w)=>.tup [.str "not",.str "",.tup [plD w]]
 |(ae,w)=>plD w
section
variable{ls:List ao}{j:Nat}{x:List Nat}{r a b:List (List Nat)}
theorem Rb(h:ls.drop j=(x::r).map sL):ls[j]?=aa (sL x):=by
 have:(ls.drop j)[0]?=aa (sL x):=by rw[h];rfl
 rwa [List.getElem?_drop,Nat.add_zero]at this
theorem j4k(h:ls.drop j=(a++b).map sL):ls.drop (j+a.length)=b.map sL:=by rw[<-List.drop_drop,h,Xz,List.drop_left' (by rw[xg])]
theorem j80(h:ls.drop j=(x::r).map sL):ls.drop (j+1)=r.map sL:=j4k (a:=[x]) h
end
theorem Oh{w:List Nat}(h:isW w=af):w≠lp/\w≠rp/\32∉w:=by
 unfold isW at h;rw[Xb]at h;have z:∀c∈w,low c=af:=Xp.mp h.2;refine⟨λe=>?_,λe=>?_,λe=>?_⟩
 .have:=z 40 (by rw[e];exact xm);exact absurd this (by decide)
 .have:=z 41 (by rw[e];exact xm);exact absurd this (by decide)
 .exact absurd (z 32 e) (by decide)
theorem jd5{a b:List Nat}(h:a≠b):(sL a==sL b)=ae:=by simpa using λq=>h (Yq q)
structure Wd(v:List Nat):Prop where
 w:isW v=af
 a:asc v
 l:v.length<=100
theorem Fy {n j:Nat} {b:Int} {ls:List ao} {w:List Nat} {r:List (List Nat)} (hd:ls.drop j=(w::r).map sL) (h:Wd w):evP 1000 G T (n+4) (mq "form_taken") [.lst (ls.map D.str),.int (j:Int),.int b]=.mval (plD w) (j+1):=by have z:=jd5 (Oh h.w).1;rw[qe (F:=vm) (by rfl) rfl];simp only[vm,Qp,enter];ext;rw[Ce];simp only[cC,cn];ext;rw[mget (Rb hd),lpS,z];ext;rw[Nt h.a (by have:=h.l;omega),h.w];ext;simp only[gP];ext;rfl
theorem Nv {n:Nat} {bk:Int} {ls:List ao} {e0 e2 e3:Sv} {g:En->Nat->Sm}:∀(its:List It)(j:Nat)(acc:List D)(m:Nat)(rest:List (List Nat)),its.length<m->acc.length+its.length<=1000->(∀it∈its,(∀j r,ls.drop j=(pcs it++r).map sL->evP 1000 G T n (mq "form_taken") [.lst (ls.map D.str),.int (j:Int),.int bk]=.mval (frm it) (j+(pcs it).length))/\∃x t,pcs it=x::t/\x≠rp) ->
  ls.drop j=(its.flatMap pcs++rp::rest).map sL ->
  Qz (λρ k=>jc 1000 (evP 1000 G T n) G ls (.appC 4 "form_taken" (.cons (.var 1) .nil) .nop) ρ k) g ")" ls m [e0,.val (.int bk),e2,e3,.own acc] j=g [e0,.val (.int bk),e2,e3,.own (acc++its.map frm)] (j+(its.flatMap pcs).length)
 |[],j,acc,m,rest,hm,_,_,hd=>by
  obtain⟨m,rfl⟩:∃q,m=q+1:=⟨m-1,by simp at hm;omega⟩
  unfold Qz;rw[if_pos (by rw[mget (Rb hd),rpS])];simp
 |it::its,j,acc,m,rest,hm,hl,hF,hd=>by
  obtain⟨m,rfl⟩:∃q,m=q+1:=⟨m-1,by simp at hm;omega⟩
  obtain⟨f1,x,t,ex,hx⟩:=hF it (xm ..);rw[Pg,P0]at hd;have hd0:=hd;rw[ex,tu]at hd0;have hlen:acc.length<=1000:=by simp at hl;omega
  unfold Qz;rw[if_neg (by rw[mget (Rb hd0),rpS];exact λq=>hx (Yq q))];have e:jc 1000 (evP 1000 G T n) G ls (.appC 4 "form_taken" (.cons (.var 1) .nil) .nop) [e0,.val (.int bk),e2,e3,.own acc] j=.next [e0,.val (.int bk),e2,e3,.own (acc++[frm it])] (j+(pcs it).length):=by ext;rw[f1 j _ hd];ext
  rw[e];dsimp only;rw[Nv its (j+(pcs it).length) (acc++[frm it]) m rest (by simp at hm;omega) (by simp at hl ⊢;omega) (λi hi=>hF i (km _ hi)) (j4k hd)];rw[P0,Pg,X7,Nat.add_assoc];rfl
theorem Ed {n j:Nat} {bk:Int} {ls:List ao} {kd:List Nat} {its:List It} {rest:List (List Nat)} (hb:bk<=8) (hk:Jp .notin (tx kd) (.tup [.str "not",.str "all",.str "any",.str "odd",.str "least",.str "just",.str "table",.str "ring",.str "joined"])=aa ae)
  (hw:evP 1000 G T n "wants_own" [tx kd]=.val (.bl ae)) (hc:evP 1000 G T n "takes_count" [tx kd,.int its.length]=.val (.bl af)) (ho:evP 1000 G T n "takes_own" [tx kd,.str "",.int its.length]=.val (.bl af)) (hl:its.length<=100)
  (hF:∀it∈its,(∀j r,ls.drop j=(pcs it++r).map sL->evP 1000 G T n (mq "form_taken") [.lst (ls.map D.str),.int (j:Int),.int bk]=.mval (frm it) (j+(pcs it).length))/\∃x t,pcs it=x::t/\x≠rp)
  (hd:ls.drop j=(kd::(its.flatMap pcs++rp::rest)).map sL):evP 1000 G T (n+1) (mq "bracketed_taken") [.lst (ls.map D.str),.int (j:Int),.int bk]=.mval (.tup [tx kd,.str "",.tup (its.map frm)]) (j+1+(its.flatMap pcs).length+1):=by
 rw[qe (F:=Q4) (by rfl) rfl];simp only[Q4,V4,enter];ext;rw[Ce];simp only[cC,cn];ext;simp only[gMB];ext;rw[mget (Rb hd)];simp only[gK];ext;erw[hk,hw];rw[j38,Nv its (j+1) [] 1000 rest nofun (by simp;omega) hF (j80 hd)];erw[d5,hc,ho]
theorem Q7{n:Nat}{f:ao}{ds:List D}{b:Bool}(h:(Nk (evP 1000 G T n f ds)==aa b)=af):evP 1000 G T n f ds=.val (.bl b):=Nj h
theorem jk3:evP 1000 G T 6 "takes_count" [tx nt,.int (1:Nat)]=.val (.bl af):=Q7 (by decide +kernel)
theorem jk2:evP 1000 G T 6 "takes_own" [tx nt,.str "",.int (1:Nat)]=.val (.bl af):=Q7 (by decide +kernel)
theorem j4f {j:Nat} {bk:Int} {ls:List ao} {it:It} {r:List (List Nat)} (hb:bk+1<=8) (h:Wd it.2) (hd:ls.drop j=(pcs it++r).map sL):evP 1000 G T 8 (mq "form_taken") [.lst (ls.map D.str),.int (j:Int),.int bk]=.mval (frm it) (j+(pcs it).length):=by
 obtain⟨t,w⟩:=it;cases t with
 |false=>exact Fy (n:=4) hd h
 |true =>
  have hd1:ls.drop j=(lp::nt::(([(ae,w)]:List It).flatMap pcs++rp::r)).map sL:=hd;have bs:=Ed (n:=6) (j:=j+1) (bk:=bk+1) (kd:=nt) (its:=[(ae,w)]) (rest:=r) hb (by decide +kernel) (Q7 (by decide +kernel)) jk3 jk2 (by simp) (λit hit=>by
   rw[X3.mp hit]
   exact⟨λj r hd=>Fy (n:=2) hd h,w,[],rfl,(Oh h.w).2.1⟩) (j80 hd1)
  rw[qe (F:=vm) (by rfl) rfl];simp only[vm,Qp,enter];ext;rw[Ce];simp only[cC,cn];ext;rw[mget (Rb hd1),lpS];ext;rw[bs];ext;simp only[frm,pcs,X4,eG,Pg,List.flatMap_nil,Xl,xr,Pr];rw[ntS]
theorem Kq:∀ls:List (List Nat),(jn ls).length<=(ls.map λl=>l.length+1).sum
 |[]=>by simp[jn]
 |[x]=>by simp[jn]
 |x::y::r=>by rw[Zw,X4,dO];have:=Kq (y::r);simp only[X7,xr]at this ⊢;omega
theorem j2y{ls:List (List Nat)}{c:Nat}(h:∀l∈ls,l.length<=c):(ls.map λl=>l.length+1).sum<=(c+1)*ls.length:=by
 induction ls with
 |nil=>simp
 |cons x ls ih =>rw[X4,dO,xr,Nat.mul_add];have:=ih λl hl=>h l (km _ hl);have:=h x (xm ..);omega
theorem jau{it:It}{x:List Nat}(h:x∈pcs it):x=lp\/x=nt\/x=rp\/x=it.2:=by
 obtain⟨t,w⟩:=it;cases t
 .rw[X3.mp h];exact .inr (.inr (.inr rfl))
 .simp only[pcs,xn,cT,or_false]at h;rcases h with h|h|h|h
  .exact .inl h
  .exact .inr (.inl h)
  .exact .inr (.inr (.inr h))
  .exact .inr (.inr (.inl h))
theorem jav(its:List It):(its.flatMap pcs).length<=4*its.length:=by
 induction its with
 |nil=>simp
 |cons it its ih =>
  rw[Pg,X7,xr];have:(pcs it).length<=4:=by obtain⟨t,w⟩:=it;cases t<;>simp[pcs]
  omega
noncomputable def whole(kd:List Nat)(its:List It):List (List Nat):=lp::kd::(its.flatMap pcs++[rp])
theorem Nu{kd:List Nat}{its:List It}{x:List Nat}(h:x∈whole kd its):x=lp\/x=nt\/x=rp\/x=kd\/∃it∈its,x=it.2:=by
 unfold whole at h;rcases xn.mp h with h|h
 .exact .inl h
 rcases xn.mp h with h|h
 .exact .inr (.inr (.inr (.inl h)))
 rcases Ph.mp h with h|h
 .obtain⟨it,hi,hx⟩:=List.mem_flatMap.mp h;rcases jau hx with z|z|z|z
  .exact .inl z
  .exact .inr (.inl z)
  .exact .inr (.inr (.inl z))
  .exact .inr (.inr (.inr (.inr ⟨it,hi,z⟩)))
 .exact .inr (.inr (.inl (X3.mp h)))
theorem gQ:G (qm "Pieces")=aa .non:=by rfl
theorem Eo {kd:List Nat} {its:List It} (hl:its.length=6) (hk:kd.length<=8/\32∉kd) (h0:Jp .notin (tx kd) (.tup [.str "not",.str "all",.str "any",.str "odd",.str "least",.str "just",.str "table",.str "ring",.str "joined"])=aa ae)
  (hw:evP 1000 G T 8 "wants_own" [tx kd]=.val (.bl ae)) (hc:evP 1000 G T 8 "takes_count" [tx kd,.int 6]=.val (.bl af)) (ho:evP 1000 G T 8 "takes_own" [tx kd,.str "",.int 6]=.val (.bl af)) (hW:∀it∈its,Wd it.2) :
  evP 1000 G T 11 "form_of" [.str (sL (jn (whole kd its)))]=.val (.tup [tx kd,.str "",.tup (its.map frm)]):=by
 have nb:bf (whole kd its):=λx hx=>by
  rcases Nu hx with z|z|z|z|⟨it,hi,z⟩
  .rw[z];decide
  .rw[z];decide
  .rw[z];decide
  .rw[z];exact hk.2
  .rw[z];exact(Oh (hW it hi).w).2.2
 have sp:=j5y (ls:=whole kd its) (by unfold whole;intro q;cases q) nb;have ln:(whole kd its).length<=27:=by have:=jav its;unfold whole;simp only[xr,X7,Pr];omega
 have lt:(sL (jn (whole kd its))).length<=100000:=by
  rw[jx];have h1:=Kq (whole kd its);have h2:=j2y (ls:=whole kd its) (c:=100) λx hx=>by
   rcases Nu hx with z|z|z|z|⟨it,hi,z⟩
   .rw[z];decide
   .rw[z];decide
   .rw[z];decide
   .rw[z];omega
   .rw[z];exact(hW it hi).l
  omega
 have hd:((whole kd its).map sL).drop 0=(lp::kd::(its.flatMap pcs++rp::[])).map sL:=rfl;have bs:=Ed (n:=8) (j:=0+1) (bk:=0+1) (kd:=kd) (its:=its) (rest:=[]) (by decide) h0 hw (by rw[hl];exact hc) (by rw[hl];exact ho) nofun (λit hit=>⟨λj r hd=>j4f (by decide) (hW it hit) hd,by
   obtain⟨t,w⟩:=it
   cases t
   .exact⟨w,[],rfl,(Oh (hW _ hit).w).2.1⟩
   .exact⟨lp,_,rfl,by decide⟩⟩) (j80 hd)
 have top:evP 1000 G T 10 (mq "form_taken") [.lst (((whole kd its).map sL).map D.str),.int ((0:Nat):Int),.int 0]=.mval (.tup [tx kd,.str "",.tup (its.map frm)]) (whole kd its).length:=by rw[qe (F:=vm) (by rfl) rfl];simp only[vm,Qp,enter];ext;rw[Ce];simp only[cC,cn];ext;rw[mget (Rb hd),lpS];ext;rw[bs];ext;congr 1;unfold whole;simp only[xr,X7,Pr];omega
 rw[qe (F:=Ui) (by rfl) rfl];simp only[Ui,Vk,enter];ext;rw[gQ,show decide (1<(2+1))=af from rfl,je6 lt (by rw[sp,xg];omega),sp];ext;rw[top];ext;rw[j1c,if_pos (by rw[xg];exact X5 _)];ext
theorem Ow{a b c:D}:atI [a,b,c] 0=aa a:=rfl
theorem j2d{a b c:D}:atI [a,b,c] 1=aa b:=rfl
theorem j9j{a b c:D}:atI [a,b,c] 2=aa c:=rfl
theorem Od {n:Nat} {w:List Nat} {L:List (List Nat)} (h:w∈L):evP 1000 G T (n+1) "keeps_to" [plD w,.lst (L.map tx)]=.val (.bl af):=by rw[qe (F:=Qj) (by rfl) rfl];simp only[Qj,Qk,enter,plD];ext;rw[Ow];simp only[gP];ext;rw[j2d];ext;rw[j0k (L:=L) (l:=w) D.lst (.inr rfl),List.contains_iff_mem.mpr h];ext
theorem Km {n:Nat} {k:ao} {fs:List D} {L:List (List Nat)} (hk:(k == "place")=ae) (hl:fs.length<=1000) (h:∀f∈fs,evP 1000 G T n "keeps_to" [f,.lst (L.map tx)]=.val (.bl af)):evP 1000 G T (n+1) "keeps_to" [.tup [.str k,.str "",.tup fs],.lst (L.map tx)]=.val (.bl af):=by
 rw[qe (F:=Qj) (by rfl) rfl];simp only[Qj,Qk,enter];ext;rw[Ow];simp only[gP];ext;erw[hk,j9j];rw[zx (l:=(fs.map λ_=>af).map D.bl) (by rfl) nofun ?_ (.inl rfl)]
 .ext;rw[Xp.mpr λb hb=>by obtain⟨_,_,e⟩:=Xe.mp hb;exact e▸rfl]
 .rw[Xa];have:=qz (α:=D) (h:=id) (g:=λ_=>D.bl af) (L:=fs) (f:=Vd [2] (ev (evP 1000 G T n) G .nil) (ev (evP 1000 G T n) G (.call "keeps_to" (.cons (.var 2) (.cons (.var 1) .nil)))) [.val (.tup [.str k,.str "",.tup fs]),.val (.lst (L.map tx)),.un]) λf hf=>vy (by ext) (by
   ext
   rw[show id f=f from rfl,h f hf]
   ext)
  rw[fW]at this;exact this
theorem j45 {n:Nat} {it:It} {L:List (List Nat)} (h:it.2∈L):evP 1000 G T (n+2) "keeps_to" [frm it,.lst (L.map tx)]=.val (.bl af):=by
 obtain⟨t,w⟩:=it;cases t with
 |false=>exact Od h
 |true=>exact Km (by decide +kernel) (by simp) λf hf=>by rw[X3.mp hf];exact Od h
noncomputable def iv(f:List Nat->Int)(it:It):Int:=if it.1 then(if f it.2=0 then 1 else 0)else f it.2
theorem O4 {n:Nat} {w:List Nat} {kv:List (ao×Int)} {v:Int} (h:Z5 kv (sL w)=aa v):evP 1000 G T (n+1) "said_by" [plD w,.sct kv]=.val (.int v):=by rw[qe (F:=Z3) (by rfl) rfl];simp only[Z3,Z9,enter,plD];ext;rw[Ow];simp only[gP];ext;erw[j2d,jfn h]
theorem Ls {n:Nat} {k:ao} {fs:List D} {kv:List (ao×Int)} {vs:List Int} {b:Bool} (hk:(k == "place")=ae) (hl:fs.length<=1000) (h:Jx (Vd [3] (ev (evP 1000 G T n) G .nil) (ev (evP 1000 G T n) G (.call "said_by" (.cons (.var 3) (.cons (.var 1) .nil)))) [.val (.tup [.str k,.str "",.tup fs]),.val (.sct kv),.un,.un]) fs=aa (vs.map D.int))
  (hs:evP 1000 G T n "says_yes" [.str k,.str "",.lst (vs.map D.int)]=.val (.bl b)):evP 1000 G T (n+1) "said_by" [.tup [.str k,.str "",.tup fs],.sct kv]=.val (.int (b2i b)):=by
 rw[qe (F:=Z3) (by rfl) rfl];simp only[Z3,Z9,enter];ext;rw[Ow];simp only[gP];ext;erw[hk,j9j,zx (l:=vs.map D.int) (by rfl) nofun h (.inl rfl)];rw[Ow,j2d];ext;rw[Ng (xs:=[.e (.str k),.e (.str ""),.w (vs.map D.int)]) rfl];simp only[X4,eG,d_e,d_w];rw[hs];cases b
 .ext;rfl
 .ext;rfl
theorem j66 {n:Nat} {v:Int}:evP 1000 G T (n+1) "says_yes" [.str "not",.str "",.lst [.int v]]=.val (.bl (decide (v=0))):=by rw[qe (F:=Yi) (by rfl) rfl];simp only[Yi,Zy,enter];ext;rw[show atI [D.int v] 0=aa (.int v)from rfl];ext;rw[j0s];rfl
theorem j35 {n:Nat} {it:It} {kv:List (ao×Int)} {f:List Nat->Int} (h:Z5 kv (sL it.2)=aa (f it.2)):evP 1000 G T (n+2) "said_by" [frm it,.sct kv]=.val (.int (iv f it)):=by
 obtain⟨t,w⟩:=it;cases t with
 |false=>exact O4 h
 |true =>
  have:=Ls (n:=n+1) (k:="not") (fs:=[plD w]) (kv:=kv) (vs:=[f w]) (b:=decide (f w=0)) (by decide +kernel) (by simp) (qz (α:=D) (h:=id) (g:=λ_=>.int (f w)) (L:=[plD w]) λd hd=>by
   rw[X3.mp hd]
   exact vy (by ext) (by
    ext
    rw[show id (plD w)=plD w from rfl,O4 h]
    ext)) j66
  rw[show frm (af,w)=.tup [.str "not",.str "",.tup [plD w]]from rfl,this];unfold iv b2i;by_cases z:f w=0<;>simp[z]
theorem j36 {kd:List Nat} {k:ao} (hk:k = "ring"\/k = "joined") (ek:sL kd=k) {its:List It} {kv:List (ao×Int)} {f:List Nat->Int} {l:List Bool} (hl:l.length=6) (h:∀it∈its,Z5 kv (sL it.2)=aa (f it.2)) (hv:its.map (iv f)=l.map b2i) (h6:its.length<=1000) :
  evP 1000 G T 11 "said_by" [.tup [tx kd,.str "",.tup (its.map frm)],.sct kv]=.val (.int (b2i (Zd k l))):=by
 have ts:=(M6 hk hl).2;unfold j67 at ts;have:=Ls (n:=10) (k:=k) (fs:=its.map frm) (kv:=kv) (vs:=its.map (iv f)) (b:=Zd k l) (by rcases hk with rfl|rfl<;>decide +kernel) (by rw[xg];exact h6) (by
  rw[Xa]
  exact qz λit hit=>vy (by ext) (by
   ext
   rw[j35 (n:=8) (h it hit)]
   ext
   rfl)) (by rw[hv,Xa];exact ts)
 rw[<-this,<-ek]
theorem jh5 {n:Nat}:evP 1000 G T (n+2) "rows_of" [.int 6]=.fresh (Z4 (Ql 6)):=by
 rw[qe (F:=Ug) (by rfl) rfl];simp only[Ug,Vi,enter];ext;rw[j8w (n:=n) nofun];ext;simp only[gA];ext;rw[show([[D.tup [.int 0,.int 1]],[D.tup [.int 0,.int 1]],[D.tup [.int 0,.int 1]],[D.tup [.int 0,.int 1]],[D.tup [.int 0,.int 1]],[D.tup [.int 0,.int 1]]]:List (List D)).flatten=Z4 (az 6 [0,1])from rfl,Ir j7s (λf hf=>by rw[(List.mem_replicate.mp hf).2];decide) (by rw[eP];omega)];ext;have hc:zy [[0,1],[0,1],[0,1],[0,1],[0,1],[0,1]]=Ql 6:=by decide +kernel
 rw[hc]
theorem N7:∀{L:List (List Nat)} {r:List Int} {i:Nat},L.Nodup->L.length=r.length->i<L.length->Z5 ((L.map sL).zip r) (sL (L.getD i []))=aa (r.getD i 0)
 |[],_,i,_,_,h=>absurd h (Nat.not_lt_zero _)
 |x::L,[],i,_,h,_=>by simp at h
 |x::L,a::r,0,_,_,_=>by unfold Z5;rw[X4,iu,d7];simp
 |x::L,a::r,i+1,hn,hl,hi=>by
  have hx:x≠L.getD i []:=λe=>by
   have:L.getD i []∈L:=by rw[xj,kh (by simpa using hi)];exact Xx _
   exact(Xg.mp hn).1 (e▸this)
  have ih:=N7 (L:=L) (r:=r) (i:=i) (Xg.mp hn).2 (by simpa using hl) (by simpa using hi);unfold Z5 at ih ⊢;rw[X4,iu,ia,d7,ia];rw[show decide (sL x=sL (L.getD i []))=ae from decide_eq_false λq=>hx (Yq q)];exact ih
noncomputable def base(L:List (List Nat))(os:List Nat):List It:=os.map λo=>(ae,L.getD o [])
noncomputable def Jl(L:List (List Nat))(os:List Nat)(b:Int):List It:=if b<6 then(base L os).set b.toNat (af,((base L os).getD b.toNat (ae,[])).2)else base L os
theorem j0i{L:List (List Nat)}{os:List Nat}{b:Int}:(Jl L os b).length=os.length:=by unfold Jl;split<;>simp[base]
theorem Ms{L:List (List Nat)}{os:List Nat}{k:Nat}(h:k<os.length):(base L os).getD k (ae,[])=(ae,L.getD os[k] []):=by unfold base;rw[xj,X6,kh h];rfl
theorem Bt{L:List (List Nat)}{os:List Nat}{b:Int}(hb:0<=b)(ho:os.length=6){it:It}(h:it∈Jl L os b):∃o∈os,it.2=L.getD o []:=by
 have base_mem:∀it:It,it∈base L os->∃o∈os,it.2=L.getD o []:=λit h=>by obtain⟨o,ho,rfl⟩:=Xe.mp h;exact⟨o,ho,rfl⟩
 unfold Jl at h;split at h
 .rename_i hb6;rcases List.mem_or_eq_of_mem_set h with h|h
  .exact base_mem it h
  .have hk:b.toNat<os.length:=by omega
   rw[Ms hk]at h;rw[h];exact⟨_,Xx hk,rfl⟩
 .exact base_mem it h
theorem jb9{L:List (List Nat)}{os:List Nat}{b:Int}{row:List Int}{f:List Nat->Int}(hb:0<=b)(ho:os.length=6)(hf:∀o∈os,f (L.getD o [])=row.getD o 0)(h01:∀x∈row,x=0\/x=1):(Jl L os b).map (iv f)=(Jw row os b).map b2i:=by
 have v01:=λk=>jis h01 k;have hbase:(base L os).map (iv f)=(os.map λo=>decide (row.getD o 0=1)).map b2i:=by unfold base;rw[Xa,Xa];refine Py λo hoo=>?_;show iv f (ae,L.getD o [])=b2i (decide (row.getD o 0=1));unfold iv b2i;simp only[Xq,if_false];rw[hf o hoo];rcases v01 o with z|z<;>rw[z]<;>rfl
 unfold Jl Jw;by_cases h6:b<6
 .rw[if_pos h6,if_pos h6,eF,eF,hbase];have hk:b.toNat<os.length:=by omega
  congr 1;rw[Ms hk,xj (l:=os.map _),X6,kh hk];show iv f (af,L.getD os[b.toNat] [])=b2i (!decide (row.getD os[b.toNat] 0=1));unfold iv b2i;simp only[if_true];rw[hf _ (Xx hk)];rcases v01 os[b.toNat]with z|z<;>rw[z]<;>rfl
 .rw[if_neg h6,if_neg h6,hbase]
structure Kd(k:ao)(kd:List Nat):Prop where
 hk:k = "ring"\/k = "joined"
 e:sL kd=k
 l:kd.length<=8/\32∉kd
 h0:Jp .notin (tx kd) (.tup [.str "not",.str "all",.str "any",.str "odd",.str "least",.str "just",.str "table",.str "ring",.str "joined"])=aa ae
 hw:evP 1000 G T 8 "wants_own" [tx kd]=.val (.bl ae)
 hc:evP 1000 G T 8 "takes_count" [tx kd,.int 6]=.val (.bl af)
 ho:evP 1000 G T 8 "takes_own" [tx kd,.str "",.int 6]=.val (.bl af)
theorem ji4:Kd "ring" [114,105,110,103]:=⟨.inl rfl,by decide +kernel,by decide,by decide +kernel,Q7 (by decide +kernel),Q7 (by decide +kernel),Q7 (by decide +kernel)⟩
theorem ji5:Kd "joined" [106,111,105,110,101,100]:=⟨.inr rfl,by decide +kernel,by decide,by decide +kernel,Q7 (by decide +kernel),Q7 (by decide +kernel),Q7 (by decide +kernel)⟩
theorem j6i{row:List Int}(h:row∈Ql 6):row.length=6/\∀x∈row,x=0\/x=1:=by rw[<-Mg]at h;obtain⟨n,_,rfl⟩:=Xe.mp h;exact⟨Jf _ _ _,jip 6 n⟩
theorem getD_mem{L:List (List Nat)}{o:Nat}(h:o<L.length):L.getD o []∈L:=by rw[xj,kh h];exact Xx h
theorem j8x{k:ao}{kd:List Nat}(K:Kd k kd){L:List (List Nat)}{os:List Nat}{b:Int}(hL:L.length=6)(hW:∀l∈L,Wd l)(hn:L.Nodup)(ho:os.length=6)(h6:∀o∈os,o<6)(hb:0<=b) :
  evP 1000 G T 12 "question_read" [.str (sL (jn (whole kd (Jl L os b)))),.lst (L.map tx)]=.val (.tup [.tup (L.map tx),.tup ((Ql 6).map λrow=>D.int (b2i (Zd k (Jw row os b))))]):=by
 have il:(Jl L os b).length=6:=by rw[j0i,ho]
 have iw:∀it∈Jl L os b,it.2∈L:=λit hi=>by obtain⟨o,h1,e⟩:=Bt hb ho hi;rw[e];exact getD_mem (by rw[hL];exact h6 o h1)
 have ff:=Eo (its:=Jl L os b) il K.l K.h0 K.hw K.hc K.ho λit hi=>hW _ (iw it hi);have kk:=Km (n:=10) (k:=sL kd) (fs:=(Jl L os b).map frm) (L:=L) (by rw[K.e];rcases K.hk with rfl|rfl<;>decide +kernel) (by rw[xg];omega) λf hf=>by obtain⟨it,hi,rfl⟩:=Xe.mp hf;exact j45 (n:=8) (iw it hi)
 have hls:(L.map tx).length<=1000:=by rw[xg];omega
 rw[qe (F:=Qs) (by rfl) rfl];simp only[Qs,Jq,enter];ext;erw[jh4 (n:=8) nofun (λl hl=>(hW l hl).w) (λl hl=>⟨(hW l hl).a,(hW l hl).l⟩) hn,ff,kk];rw[show(L.length:Int)=6 from by rw[hL];rfl,jh5 (n:=9)];ext;rw[zx (l:=(Ql 6).map λrow=>D.int (b2i (Zd k (Jw row os b)))) (by rfl) (by rw[xg,W6];decide) ?_ (.inl rfl)]
 .ext
 .refine qz λrow hr=>vy (by ext) ?_;obtain⟨rl,r01⟩:=j6i hr;have dz:Ra (aa (.v (.e (.lst (L.map tx))))) (aa (.v (.e (Wh row))))=aa (.v (.e (.sct ((L.map sL).zip row)))):=by
   have e1:strsOf (L.map tx)=aa (L.map sL):=by rw[show L.map tx=(L.map sL).map D.str from by rw[Xa];rfl];exact Ve
   have hnd:(L.map sL).Nodup:=by unfold lj;rw[iP];exact kD (λh e=>h (Yq e)) hn
   simp only[Ra,Rk.st,gH,D.sqv,e1,j1z];rw[if_pos ⟨hnd,by rw[xg];omega,by simp only[jj,xg,hL];exact decide_eq_true (vz (by decide))⟩]
  ext;rw[dz];ext;rw[j36 K.hk K.e (kv:=(L.map sL).zip row) (f:=λw=>(Z5 ((L.map sL).zip row) (sL w)).getD 0) (l:=Jw row os b) (by rw[Nz,ho]) (λit hi=>?_) (jb9 hb ho (λo hoo=>?_) r01) nofun]
  .ext
  .obtain⟨o,h1,e⟩:=Bt hb ho hi;rw[e,N7 hn nofun (by rw[hL];exact h6 o h1)];rfl
  .rw[N7 hn nofun (by rw[hL];exact h6 o hoo)];rfl
theorem j46{sep:ao}{ts:List ao}(hs:sep.length<=10)(h:∀t∈ts,t.length<=200)(hl:ts.length<=1000):cJ sep ts=af:=by
 unfold cJ;rw[dH];have e:∀(r:List ao)(k:Nat),(∀t∈r,t.length<=200)->r.foldl (λ(x:Nat) (y:ao)=>x+y.length+sep.length) k<=k+210*r.length:=by
  intro r;induction r with
  |nil=>intro k _;simp
  |cons a r ih =>intro k h;rw[T4,xr];have:=ih (k+a.length+sep.length) λt ht=>h t (km _ ht);have:=h a (xm ..);omega
 have:=e ts 0 h;show b9 _=ae;rw[iA];show b9 (cU (λ(x:Nat) (y:ao)=>x+y.length+sep.length) 0 _)=ae;unfold b9;simp only[decide_eq_false_iff_not];have:=cg;omega
theorem R8{sep:ao}{ts:List ao}(h:cJ sep ts=af):Ye sep (aa (.v (.w (ts.map D.str))))=aa (.v (.e (.str (bZ sep ts)))):=by simp only[Ye,Rk.d,Ve,h,if_true]
theorem j98{k:Bool}:J4 .int (aa (.a [.t (.bl k)]))=aa (.v (.e (.int (if k then 1 else 0)))):=(rfl)
theorem j8y(it:It):pcs it≠[]:=by obtain⟨t,w⟩:=it;cases t<;>(intro h;cases h)
noncomputable def J7(it:It):ao:=sL (jn (pcs it))
theorem j03 {kd:List Nat} {its:List It} (h:its≠[]):sL (40::32::(kd++[32]))++bZ " " (its.map J7) ++ " )" = sL (jn (whole kd its)):=by
 have hf:its.flatMap pcs≠[]:=by
  cases its with
  |nil=>exact absurd rfl h
  |cons it its =>rw[Pg];intro z;exact j8y it (List.append_eq_nil_iff.mp z).1
 have e1:its.map J7=(its.map λit=>jn (pcs it)).map sL:=by rw[Xa];rfl
 rw[e1,j0e,j0g (f:=pcs) λa _=>j8y a,show(" )":ao)=sL [32,41]from by decide +kernel,vq,vq];congr 1;unfold whole;rw[Zw,Br (by intro z;exact absurd (List.append_eq_nil_iff.mp z).2 (by intro q;cases q)),Kr hf (by intro q;cases q)];simp[lp,rp,jn]
theorem notS {w:List Nat}:("( not ":ao)++sL w++(" )":ao)=J7 (af,w):=by rw[show("( not ":ao)=sL [40,32,110,111,116,32]from by decide +kernel,show(" )":ao)=sL [32,41]from by decide +kernel,vq,vq];rfl
theorem j2s{L:List (List Nat)}{os:List Nat}:(base L os).map (λit=>D.str (J7 it))=os.map λo=>tx (L.getD o []):=by unfold base;rw[Xa];rfl
theorem j5v{it:It}(h:it.2.length<=100):(J7 it).length<=200:=by
 obtain⟨t,w⟩:=it;unfold J7;rw[jx];cases t
 .show w.length<=200;have:w.length<=100:=h;omega
 .have:w.length<=100:=h;simp[pcs,jn,lp,rp,nt];omega
noncomputable def depth:Nat:=12
noncomputable def Zn(k:ao)(os:List Nat)(b:Int)(i:Nat):List Int:=(aK i).map λn=>b2i (Zd k (Jw (qx 2 6 ((n:Nat):Int)) os b))
theorem j8n{k:ao}{os:List Nat}{b:Int}:((Ql 6).map λrow=>D.int (b2i (Zd k (Jw row os b))))=(Zn k os b 64).map D.int:=by rw[<-Mg,Xa];unfold Zn;rw[Xa];rfl
theorem Do{k:ao}{os:List Nat}{b:Int}{i:Nat}:Zn k os b (i+1)=Zn k os b i++[b2i (Zd k (Jw (qx 2 6 (i:Int)) os b))]:=by unfold Zn;rw[List.range_succ,Xz];rfl
theorem Zm{k:ao}{os:List Nat}{b:Int}{i:Nat}:(Zn k os b i).length=i:=by simp[Zn]
theorem j73 {l:List Bool} (h:l.length=6):evP 1000 G T 12 "_law_ring" [.lst (l.map D.bl)]=.val (.bl (Zd "ring" l)):=by have:=(M6 (k:="ring") (.inl rfl) h).1;unfold Kf at this;rw[show isR "ring" = af from by decide +kernel,if_pos rfl]at this;exact this
theorem j74 {l:List Bool} (h:l.length=6):evP 1000 G T 12 "_law_joined" [.lst (l.map D.bl)]=.val (.bl (Zd "joined" l)):=by have:=(M6 (k:="joined") (.inr rfl) h).1;unfold Kf at this;rw[show isR "joined" = ae from by decide +kernel,if_neg (by decide)]at this;exact this
theorem loop_spec{ns:List Int}{L:List (List Nat)}{os:List Nat}{b:Int}{told:List D}(ho:os.length=6)(h6:∀o∈os,o<6)(hb:0<=b/\b<12) :
  ∃s8 s9:Sv,vf (Ur [8] (run 1000 (evP 1000 G T 12) G (.seq (.set 9 (.call "_law_ties" (.cons (.call "_law_row" (.cons (.lit (.int 6)) (.cons (.var 8) .nil))) (.cons (.var 2) (.cons (.var 3) .nil))))) (.seq (.app 6 (.blt .int (.cons (.call "_law_ring" (.cons (.var 9) .nil)) .nil))) (.seq (.app 7 (.blt .int (.cons (.call "_law_joined" (.cons (.var 9) .nil)) .nil))) .nop))))) (upto 0 64)
   [.val (.lst (ns.map D.int)),.own (L.map tx),.own (os.map oD),.val (.int b),.own told,.un,.own [],.own [],.un,.un,.un,.un] =
   .next [.val (.lst (ns.map D.int)),.own (L.map tx),.own (os.map oD),.val (.int b),.own told,.un,.own ((Zn "ring" os b 64).map D.int),.own ((Zn "joined" os b 64).map D.int),s8,s9,.un,.un]:=by
 obtain⟨ρ',e1,s8,s9,er⟩:=Qv (f:=Ur [8] (run 1000 (evP 1000 G T 12) G (.seq (.set 9 (.call "_law_ties" (.cons (.call "_law_row" (.cons (.lit (.int 6)) (.cons (.var 8) .nil))) (.cons (.var 2) (.cons (.var 3) .nil))))) (.seq (.app 6 (.blt .int (.cons (.call "_law_ring" (.cons (.var 9) .nil)) .nil))) (.seq (.app 7 (.blt .int (.cons (.call "_law_joined" (.cons (.var 9) .nil)) .nil))) .nop)))))
   (λi ρ=>∃s8 s9:Sv,ρ=[.val (.lst (ns.map D.int)),.own (L.map tx),.own (os.map oD),.val (.int b),.own told,.un,.own ((Zn "ring" os b i).map D.int),.own ((Zn "joined" os b i).map D.int),s8,s9,.un,.un])
   (ds:=upto 0 64) (k:=0) (ρ:=[.val (.lst (ns.map D.int)),.own (L.map tx),.own (os.map oD),.val (.int b),.own told,.un,.own [],.own [],.un,.un,.un,.un]) ⟨_,_,rfl⟩ λi x ρ hi ⟨s8,s9,er⟩=>by
  rw[cz]at er ⊢;have hi6:i<64:=by have:=(Xd.mp hi).1;simpa [upto]using this
  have ex:x=.int (i:Int):=by rw[Qq,X6,f7 hi6]at hi;cases hi;show D.int (0+(i:Int))=_;rw[dj]
  subst er ex;have tl:(Jw (qx 2 6 (i:Int)) os b).length=6:=by rw[Nz,ho]
  have l1:(Zn "ring" os b i).length<=1000:=by rw[Zm];omega
  have l2:(Zn "joined" os b i).length<=1000:=by rw[Zm];omega
  refine⟨_,?_,.val (.int (i:Int)),.own ((Jw (qx 2 6 (i:Int)) os b).map D.bl),rfl⟩;simp only[Zh];ext;rw[show evP 1000 G T 12 "_law_row" [.int 6,.int (i:Int)]=.val (.tup ((qx 2 6 (i:Int)).map D.int))from j6j (n:=11) (m:=6) jkb (by decide)];ext;rw[Ng (xs:=[.e (.tup ((qx 2 6 (i:Int)).map D.int)),.w (os.map oD),.e (.int b)]) rfl];simp only[X4,eG,d_e,d_w];rw[j2u (n:=11) (Jf _ _ _) ho h6 hb,jhd (Fp _)];ext;erw[j73 tl,j98,j74 tl,j98];rw[Do,Do,Xz,Xz];rfl
 refine⟨s8,s9,?_⟩;rw[e1,er];rfl
theorem j3s(L:List (List Nat)):qi (L.map tx)=af:=by
 induction L with
 |nil=>rfl
 |cons l L ih=>simp[qi,Qm,ih]
theorem jd4 {n:Nat} {L:List (List Nat)} {A:List Int} (h1:L.length<=1000) (h2:A.length<=1000):evP 1000 G T (n+3) "_law_same" [qT L A,qT L A]=.val (.bl af):=by
 refine j34 jih 2 ?_ ?_
 .have:=j82 L;have:=Df A;unfold qT;simp only[D.dep,D.depL];omega
 .unfold qT;simp only[J3];refine⟨by simp,Yd λd hd=>?_⟩;simp only[xn,cT,or_false]at hd;rcases hd with rfl|rfl
  .exact j71 h1
  .exact j3z h2
theorem Wv {n:Nat} {L:List (List Nat)} {A:List Int} (h1:L.length<=1000) (h2:A.length<=1000):evP 1000 G T (n+3) "_law_same" [.tup [.tup (L.map tx),.tup (A.map D.int)],.tup [.tup (L.map tx),.tup (A.map D.int)]]=.val (.bl af):=jd4 h1 h2
theorem len_app(a b:ao):(a++b).length=a.length+b.length:=by rw[<-O5 a,<-O5 b,vq,jx,jx,jx,X7]
theorem Ea{a b c:ao}(h:a.length+b.length+c.length<=1000000):Qc .add (Qc .add (aa (.v (.e (.str a)))) (aa (.v (.e (.str b))))) (aa (.v (.e (.str c))))=aa (.v (.e (.str (a++b++c)))):=by rw[Iz nofun,Iz (by rw[len_app];omega)]
theorem Cd:("( ring ":ao)=sL (40::32::([114,105,110,103]++[32])):=by decide +kernel
theorem Cj:("( joined ":ao)=sL (40::32::([106,111,105,110,101,100]++[32])):=by decide +kernel
theorem j2t {its:List It} (h:∀t∈its.map J7,t.length<=200) (hl:its.length<=100):(bZ " " (its.map J7)).length<=100000:=by
 have e1:its.map J7=(its.map λit=>jn (pcs it)).map sL:=by rw[Xa];rfl
 rw[e1,j0e,jx];have h1:=Kq (its.map λit=>jn (pcs it));have h2:=j2y (ls:=its.map λit=>jn (pcs it)) (c:=200) λl hl'=>by
  obtain⟨it,hi,rfl⟩:=Xe.mp hl';have:=h (J7 it) (Xe.mpr ⟨it,hi,rfl⟩);unfold J7 at this
  rwa [jx]at this
 rw[xg]at h2;omega
theorem jgn{c:Int}:∀l∈wL c 6,Wd l:=λl hl=>⟨jch (by decide) l hl,(j8s c 6 l hl).1,(j8s c 6 l hl).2⟩
theorem lawTrue:∀ns:List Int,ns.length<=63->evP 1000 G T (depth+1) "law" [.lst (ns.map D.int)]=.val (.bl af):=by
 intro ns hns;rw[qe (F:=j23) (by rfl) rfl];simp only[j23,j2c,enter,depth];have c0:evP 1000 G T 12 "_law_cell" [.lst (ns.map D.int),.int 0]=.val (.int (vg ns 0)):=Wn (n:=11) (k:=0) j20 (by decide);have c1:evP 1000 G T 12 "_law_cell" [.lst (ns.map D.int),.int 1]=.val (.int (vg ns 1)):=Wn (n:=11) (k:=1) j20 (by decide);have c2:evP 1000 G T 12 "_law_cell" [.lst (ns.map D.int),.int 2]=.val (.int (vg ns 2)):=Wn (n:=11) (k:=2) j20 (by decide);have ww:evP 1000 G T 12 "_law_words" [.int (vg ns 0),.int 6]=.fresh ((wL (vg ns 0) 6).map tx):=by rw[<-j5j];exact j0w (n:=11) (m:=6) jf2 (by decide)
 obtain⟨os,ho,h6,eo⟩:=j6p (n:=11) (c:=vg ns 1);have hW:=jgn (c:=vg ns 0);have hn:=j5k (c:=vg ns 0) (m:=6) (by decide);have hL:(wL (vg ns 0) 6).length=6:=by simp[wL]
 generalize wL (vg ns 0) 6=L at *;obtain⟨b,eb⟩:∃b:Int,b=vg ns 2%12:=⟨_,rfl⟩
 have hb:0<=b/\b<12:=by omega
 have q1:=j8x ji4 (b:=b) hL hW hn ho h6 hb.1;have q2:=j8x ji5 (b:=b) hL hW hn ho h6 hb.1;rw[j8n]at q1 q2;have il:(Jl L os b).length=6:=by rw[j0i,ho]
 have ine:Jl L os b≠[]:=λz=>by rw[z]at il;cases il
 have il2:∀t∈(Jl L os b).map J7,t.length<=200:=λt ht=>by obtain⟨it,hi,rfl⟩:=Xe.mp ht;obtain⟨o,h1,e⟩:=Bt hb.1 ho hi;exact j5v (by rw[e];exact(hW _ (getD_mem (by rw[hL];exact h6 o h1))).l)
 have tj:=j2t il2 nofun
 have jo:=j46 (sep:=" ") (ts:=(Jl L os b).map J7) (by decide +kernel) il2 (by rw[xg];omega);ext;erw[c0,ww,c1,eo,c2];rw[<-eb];rw[zx (l:=(os.map λo=>L.getD o []).map tx) (by rfl) (by rw[xg];omega) ?_ (.inr (j3s _))]
 .have tb:((os.map λo=>L.getD o []).map tx)=(base L os).map (λit=>D.str (J7 it)):=by rw[j2s,Xa];rfl
  have tl:((os.map λo=>L.getD o []).map tx).length=6:=by rw[xg,xg,ho]
  obtain⟨s8,s9,lp⟩:=loop_spec (ns:=ns) (L:=L) (os:=os) (b:=b) (told:=((Jl L os b).map J7).map D.str) ho h6 hb;have t1:=j03 (kd:=[114,105,110,103]) (its:=Jl L os b) ine;have t2:=j03 (kd:=[106,111,105,110,101,100]) (its:=Jl L os b) ine;have tt:((Jl L os b).map J7).map D.str=if b<6 then((os.map λo=>L.getD o []).map tx).set b.toNat (.str (J7 (af,((base L os).getD b.toNat (ae,[])).2))) else(os.map λo=>L.getD o []).map tx:=by
   rw[tb,Xa];unfold Jl;split
   .rw[eF];rfl
   .rfl
  by_cases h:b<6
  .rw[if_pos h]at tt;have hk:b.toNat<os.length:=by omega
   have hx:=U0 (xs:=(os.map λo=>L.getD o []).map tx) (j:=b.toNat) (v:=tx (L.getD os[b.toNat] [])) (by rw[X6,X6,kh hk];rfl);rw[iC hb.1]at hx;rw[Ms hk]at tt;ext;rw[hx];ext;have hw:=(hW _ (getD_mem (L:=L) (o:=os[b.toNat]) (by rw[hL];exact h6 _ (Xx hk)))).l;rw[Ea (a:="( not ") (b:=sL (L.getD os[b.toNat] [])) (c:=" )") (by rw[jx,show(" )":ao).length=2 from by decide +kernel,show("( not ":ao).length=6 from by decide +kernel];omega),notS];rw[j3d (n:=b.toNat) (Ks (by rw[tl];omega)),<-tt];ext;rw[lp];ext;rw[R8 jo,Ea (by rw[Cd,jx,show(" )":ao).length=2 from by decide +kernel];simp;omega),Cd,t1];ext;rw[q1];ext;rw[R8 jo,Ea (by rw[Cj,jx,show(" )":ao).length=2 from by decide +kernel];simp;omega),Cj,t2];ext;erw[q2,Wv (n:=9) nofun (by rw[Zm];omega),Wv (n:=9) nofun (by rw[Zm];omega)]
  .rw[if_neg h]at tt;ext;rw[<-tt];rw[lp];ext;rw[R8 jo,Ea (by rw[Cd,jx,show(" )":ao).length=2 from by decide +kernel];simp;omega),Cd,t1];ext;rw[q1];ext;rw[R8 jo,Ea (by rw[Cj,jx,show(" )":ao).length=2 from by decide +kernel];simp;omega),Cj,t2];ext;erw[q2,Wv (n:=9) nofun (by rw[Zm];omega),Wv (n:=9) nofun (by rw[Zm];omega)]
 .rw[Xa];refine qz λo hoo=>vy (by ext) ?_;have:=h6 o hoo;unfold oD;ext;rw[U0 (v:=tx (L.getD o [])) (by rw[X6,xj,kh nofun];rfl)];ext;rfl
end K13
end
open PySem PySem.W PyProof.Rows
local macro_rules | `(tactic| walk_at "lf") => `(tactic| (refine' L2.lf_mk ?a ?l ?c ?k; (case a => k_is); (case l => k_is); (case c => k_is); (case k => k_is)))
local macro_rules | `(tactic| walk_at "lm") => `(tactic| (refine' L2.lm_mk ?a ?i ?l ?c ?k; (case a => k_is); (case i => k_is); (case l => k_is); (case c => k_is); (case k => k_is)))
set_option Elab.async false
namespace PySem.W.Fast
def tw5632663719397068924:=0
def tw15314343508771986878:=0
def tw8616320407602145376:=0
def tw12919568116885288399:=0
def tw2724512995368630324:=0
def tw5328307453959490776:=0
def tw12701941941127408015:=0
def tw4531983020400879368:=0
def tw3975602003477815633:=0
def tw8477455458351392496:=0
def tw13329735380928589205:=0
def tw16753305761149139785:=0
def tw1215268836484650330:=0
def tw16267996872521678473:=0
def tw2331722234188766378:=0
def tw16386391947807966363:=0
def tw14843818903431785470:=0
def tw17220851779177428563:=0
def tw13727195431738884457:=0
def tw5579233632950982867:=0
def tw539973054393693923:=0
def tw4233577187873927100:=0
def tw4841080529330610649:=0
def tw10693751857654189289:=0
def tw2842926941318464858:=0
def tw10623549657146088291:=0
def tw6914385753311742085:=0
def tw17434019708703574967:=0
def tw12119670836499846575:=0
def tw18209697545915318417:=0
def tw6551071860846305708:=0
def tw1435980166142440460:=0
def tw1780309965404096715:=0
def tw4284568969062192938:=0
def tw14409149699467459522:=0
def tw14907141846466794296:=0
def tw2001100420171648617:=0
def tw3499386327871861184:=0
def tw6374827541712908755:=0
def tw9206984412979314348:=0
def tw13175453201310945319:=0
def tw13174504091390507159:=0
def tw10294904729185384661:=0
def tw15758006183386680123:=0
def tw13056951069613809277:=0
def tw1063323537487830055:=0
def tw15632108417263472646:=0
def tw17097513685754631126:=0
def tw10629863882869585040:=0
def tw15649178091911979587:=0
def tw3293396006492304622:=0
def tw15900887798637642121:=0
def tw9374422047085123496:=0
def tw17560146268427973951:=0
def tw8237852800149317687:=0
def tw15185047705069979382:=0
def tw3523242859439789749:=0
def tw8424278143831531369:=0
def tw3546187879024843568:=0
def tw18147374379979341300:=0
def tw9195391156446973915:=0
def tw11514466885373982186:=0
def tw2420248011873216794:=0
def tw16273279550933132197:=0
def tw11390189219144961472:=0
def tw13564552648139065421:=0
def tw2487363575563283679:=0
def tw12777628308219428951:=0
def tw17159913783926461916:=0
def tw15626117029003855083:=0
def tw8029151955303832052:=0
def tw16759258463883999532:=0
def tw14271333838073986751:=0
def tw2834748466999084484:=0
def tw10364153433661125495:=0
def tw12735222515689424453:=0
def tw720073918344075322:=0
def tw5116398491591360983:=0
def tw1765273718207894932:=0
def tw13470866939904770735:=0
def tw17863353096813664048:=0
def tw17182175828837995769:=0
def tw1068297446637972486:=0
def tw12392871195087808203:=0
def tw9047078264776119276:=0
def tw8714309651582388565:=0
def tw1128006654064912675:=0
def tw4883035350318743524:=0
def tw5666389206966934101:=0
def tw17030258941456053853:=0
def tw17207886061003465285:=0
def tw7820264418319792371:=0
def tw10530036726887817093:=0
def tw2650331039419641416:=0
def tw10599430676886801901:=0
def tw16336945449434718308:=0
def tw17815596723957620991:=0
def tw8864809123300303790:=0
def tw11517277327606144962:=0
def tw17954815841663525557:=0
end PySem.W.Fast
set_option maxRecDepth 100000 in
set_option maxHeartbeats 0 in
theorem PySem.Challenge.cw_leastasks_k13_rings_and_joined_holds : PySem.Challenge.rw_leastasks_k13_rings_and_joined.Holds := by
  w_on; o_law; k_head; (case hw => w_witness2)
  k_fill
  refine L2.walkL (l := PySem.Challenge.rw_leastasks_k13_rings_and_joined) (k := L2.lv (K13.depth + 1)) (x := "_law_script") (by decide) rfl rfl (ts := []) (fun w h Y => ⟨PySem.W.kIn_of Y, fun _ h => nomatch h⟩) ?tz ?F
  case tz => intro w; kernel_rfl
  case F =>
    intro w mg fa h KX Gn hmg tz
    refine' K13.head KX Gn hmg ?h0 ?h1 ?h2 ?h3 ?h4 ?h5 ?h6 ?h7 ?h8 ?h9 ?h10 ?h11 ?h12 ?h13 ?h14 ?h15 ?h16 ?h17 ?h18 ?h19 ?h20 ?h21 ?h22 ?h23 ?h24 ?h25 ?h26 ?h27 ?h28 ?h29 ?h30 ?h31 ?bz tz ?gn0 ?gn1 ?gn2 ?gn3 ?ga4l ?gn4 ?ga7l ?gn5 ?ga17l ?gn6 ?ga20l ?gn7 ?gn8 ?gn9 ?gn10 ?ga26l ?gn11 ?ga32l ?ga35l ?ga38l ?ga41l ?ga44l ?ga47l ?ga31l ?gn12 ?exa ?hpc K13.lawTrue
    (case h0 => walk_at "lf")
    (case h1 => walk_at "lf")
    (case h2 => walk_at "lf")
    (case h3 => walk_at "lf")
    (case h4 => walk_at "lf")
    (case h5 => walk_at "lf")
    (case h6 => walk_at "lf")
    (case h7 => walk_at "lf")
    (case h8 => walk_at "lf")
    (case h9 => walk_at "lf")
    (case h10 => walk_at "lf")
    (case h11 => walk_at "lf")
    (case h12 => walk_at "lf")
    (case h13 => walk_at "lf")
    (case h14 => walk_at "lf")
    (case h15 => walk_at "lf")
    (case h16 => walk_at "lf")
    (case h17 => walk_at "lf")
    (case h18 => walk_at "lf")
    (case h19 => walk_at "lf")
    (case h20 => walk_at "lf")
    (case h21 => walk_at "lf")
    (case h22 => walk_at "lf")
    (case h23 => walk_at "lf")
    (case h24 => walk_at "lf")
    (case h25 => walk_at "lf")
    (case h26 => walk_at "lf")
    (case h27 => walk_at "lf")
    (case h28 => walk_at "lf")
    (case h29 => walk_at "lf")
    (case h30 => walk_at "lf")
    (case h31 => walk_at "lf")
    (case gn0 => k_is)
    (case gn1 => k_is)
    (case gn2 => k_is)
    (case gn3 => k_is)
    (case gn4 => k_is)
    (case gn5 => k_is)
    (case gn6 => k_is)
    (case gn7 => k_is)
    (case gn8 => k_is)
    (case gn9 => k_is)
    (case gn10 => k_is)
    (case gn11 => k_is)
    (case gn12 => k_is)
    (case ga31l => k_is)
    (case ga47l => k_is)
    (case ga44l => k_is)
    (case ga41l => k_is)
    (case ga38l => k_is)
    (case ga35l => k_is)
    (case ga32l => k_is)
    (case ga26l => k_is)
    (case ga20l => k_is)
    (case ga17l => k_is)
    (case ga7l => k_is)
    (case ga4l => k_is)
    (case bz => kernel_rfl)
    (case exa => kernel_rfl)
    (case hpc => (refine' L2.PcH.mk ?at_ ?pg ?hd ?po ?sa ?mk_ ?kc ?nS ?nP ?mI ?mA ?mT ?mL; (case at_ => k_is); (case pg => k_is); (case hd => k_is); (case po => k_is); (case sa => k_is); (case mk_ => k_is); (case kc => k_is); (case nS => k_is); (case nP => k_is); (case mI => walk_at "lm"); (case mA => walk_at "lm"); (case mT => walk_at "lm"); (case mL => walk_at "lm")))
#print axioms PySem.Challenge.cw_leastasks_k13_rings_and_joined_holds