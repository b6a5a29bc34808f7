import PyProof.Rows.All
import Wide.All
import OpenK.AllK
import Wide.FinOn
import Lean
import PyProof.EqAt
import PyProof.EqKinds
import PyProof.TupleCall
import PyProof.Rows.SetFrom
import KE.KDictList
import KE.KMinKey
import PyProof.ListRange
import KE.KIntText
import KE.KRevIter
import PyProof.TupleOfGen
import PyProof.StrBlockL
import PyProof.Rows.StrSplitCount
import PySem.Challenge.RW_leastasks_k12_forms_say
set_option Elab.async false
set_option linter.all false
set_option maxRecDepth 100000
set_option maxHeartbeats 4000000
set_option genSizeOf false
set_option genInjectivity false
open Option renaming some→aa,none→ah,isSome_some→cZ,getD_none→fb,bind→fj,map_some→fB,isSome_none→gU,join_some→il
open Bool renaming false→ae,true→af,not_eq_true'→dC,eq_iff_iff→eB,and_false→fX,or_false→gq,true_and→jI,and_true→jJ
open PySem renaming wpAny_bind→ag,starEach→ai,Value→aj,Addr→ak,Str→ao,Shared→aq,Expr→ar,sizeLine→au,wpAny_pure→av,mainGlobals→aw,wpAny→ax,Program→ay,model→aA,eval→aB,World→aD,Around→aG,Heap→aH,FuncData→aL,swapsWith→aN,behindInMarks→aO,Pos→aP,Stmt→aQ,wpAny_field→aR,backTo→aT,wpAny_Call_Name_kw→aU,cellsFrom→aX,attributeBase→aY,foldedSetIterable→aZ,wpAny_holding→b0,assignEach→bb,wpAny_callSpecial?_slot→bc,wpAny_seqItems→be,bootBuiltins→bg,binaryOp→bh,compareOp→bj,IsPair→br,Keyword→bu,keywordEach→bB,wpAny_setField_rec→bD,call_meets→bE,cLine→bF,Scope→bG,NameKind→bH,wpAny_truthy_bool→bK,wpAny_pyIter_list→bM,wpAny_newObj_type→bN,codeAny_mono→bO,wpAny_mono→bR,Builtin→bV,wpAny_call_entry→bW,reprText→bX,wpAny_passesOwn→cf,sizeLine_eq→cg,boot_len→cj,JoinOk→cq,codeAny→cF,backToKw→cK,bindArgs→cQ,typeIs_str→cX,sliceBounds→d5,intText?→d6,ZipApart→d7,Env→d9,pyNext→dj,codeAny_builtin→dk,Obj→dm,strKind→dy,Tok→dz,builtinsNs→dG,holding→dP,IsZip→dQ,draw→dW,assign→dX,PassesOwn→eF,isTrue→eN,wpAny_execs_nil→eO,letOwnedTupleGo→eP,wpAny_updateSeq_pair→eU,recursionLimit→eV,rawInt→eW,intItems→eX,Result→eY,IsPart→eZ,GenState→f6,wpAny_standAt→fm,wpAny_onRaise→fq,wpAny_attempt→ft,field→fv,wpAny_pyIter_tuple→fE,wpAny_call→fF,typeIs_int→fG,sysModules→fH,standAt→fP,spliced→fQ,concat_meets→fR,callerA→fS,call→fU,BindsTo→fV,wpAny_pyIter_zip→g6,scanBound→g9,noFill_tuple_add→gc,numAt→gm,CmpOp→gn,Within→gr,wpAny_rule→gD,newFunctionEnv→gE,wpAny_binaryOp_repeat_ref→gT,wpAny_comprehension_free→hR,swapsWithSole→hZ,swappedStores→i0,seq_tuple_add→i3,plainId_quiet→i4,pushCells→ia,getMethod→ib,bindL→ic,bindC→ie,Arguments→ig,wpAny_typeOf→iz,wpAny_pyNext_list_item→iA,seqSlot_of→iB,pyIter→iC,getItem→iD,callType_new→iE,Fin→iF,wpAny_pyNext_list_end→iK,wpAny_isTrue_Compare1→iL,builtinLookup_eq_fast→iM,wpAny_letGo→iQ,lookup_relabel_local→iR,intItems_at→iS,Operator→iT,Model→iU,wpAny_Name→jD,typeLookup→jE,truthy→jF,getattributeRaised→jG,wpAny_pyIter_enum→jQ,wpAny_assign_Name→jR,call_sum_walkAnyS→jS,argBest→jT,again→jU,Meets→jV,wpAny_isInstance→kn,wpAny_execs_cons→ko,DictEntry→kr,typeLookup_type→kT,pushCells_keeps→kU,Sem→kW,wpAny_setField→lB,wpAny_newTuple→lC,wpAny_Compare1→lD,isSubtype_stop→lE,firstArgMember→lF,Params→lG,intBits_le_64→lK,evalPart_none→lL,call_list_seq→lM,assignInOrder→lN
open List renaming replicate→az,range→aK,drop_zero→cn,filterMap_cons→cA,any_cons→cB,length_nil→cG,set_cons_zero→cH,foldl→cN,mem_of_mem_take→cR,mem_append_left→cS,lookup→cT,forIn_cons→cU,find?_cons→cV,drop_succ_cons→cY,map_nil→d4,set_cons_succ→de,getElem?_append_right→df,getElem?_set→dB,not_mem_nil→dJ,range_succ_eq_map→dS,of_mem_zip→dZ,length_replicate→eE,mem_of_mem_drop→eJ,forIn_nil→eK,ext_getElem?→fc,any_eq_false→fe,map_id→fJ,length_zip→fK,getElem?_zip_eq_some→gd,drop_eq_getElem_cons→gf,all_cons→gp,getElem?_cons_succ→gu,filter_cons_of_pos→gv,filter_cons_of_neg→gw,getElem?_set_self→gz,all_map→gB,singleton_append→gJ,length_filter_le→gN,length→gW,getElem?_set_ne→gX,getElem?_mapIdx→gY,mem_map_of_mem→i6,getElem?_range→i7,getD_cons_succ→i8,zip_cons_cons→ip,map_replicate→iq,forIn_toArray→ir,foldl_toArray→iu,filter_append→iv,reverse_cons→iH,pairwise_map→iI,zipIdx_cons→iN,any_toArray→iO,zipIdx_nil→iX,sum_append→iY,Nodup→l9
open Option.some renaming inj→aC
open PySem.Builtin.SmallTypes renaming nextOf→aE,ownedTupleIsFree→aJ,ownedTupleHandOut→d8
open PySem.Txt renaming split→aF,slice→c8,join→cD,mul→iw
open PySem.Value renaming ref→aI,none→b7,str→b8,bool→bo,int→bq,type→cC,isStrOf→iZ,float→jL,bytes→jM
open PySem.Builtin.Str renaming strSliceIndices→aM,tooLong→b9,occurrences→bC,strKind→cL,glued→gj,partsBetween→lA
open False renaming elim→aS
open Or renaming inl→aV,inr→bJ
open PySem.Str renaming ofString→aW,empty→dM,cps→iJ,join→jv,length→ly
open PySem.W renaming nsIn→ba,OpenLaw→dD,WalkO→hJ,Frag→lx
open PySem.NameKind renaming free→bp,cell→bS
open PyProof.Rows renaming envOfC→bx,AllBare→dR,IntsAre→gy,cnt_cons→gG,IsTup→ij,Call_→ik,subscriptTail_builtinR→iG,FormattedValue_plain→iV,slot_tuple_getitem→jH,formatField_str→kX,boot_isinstance→kY,tail_any→lH,slicePart_none→lI,boot_zip→lJ,subscriptTail→lO
open Sum renaming inr→bP,inl→fg
open PySem.PassesOwn renaming never→bQ,leaving→eM
open PySem.Heap renaming SameBut→bU,ExtBut→dt
open PySem.Builtin.Slice renaming slicePlaces→bY,sliceAdjust→cP,sliceApplied→eR,slicePartIndex→kg,sliceFields→ki
open PyProof.Rows.F renaming plain_set_update_loop→bZ,entry_set_update_loop→dE
open PySem.Builtin.Tuple renaming tupleExact→c7,tupleTooMany→eQ,tupleItemsOf→ke
open PySem.Builtin.List renaming listTooLong→c9
open Nat renaming pow_le_pow_right→cu,lt_of_le_of_lt→dn,le_of_lt→dY,mul_comm→fk,pow_succ→gH,mul_le_mul_right→i5,le_add_right→iW,succ_mul→ku,min_self→kx,le_of_eq→ky,log2_lt→kZ
open PySem.AutoSeq1 renaming wpAny_loadPart'→cw
open ForInStep renaming yield→cx
open PySem.F renaming slot_tuple_iterator_next→cy,slot_list_append→cI,type_list_append→dh,args_tuple_add_2→di,slot_str_split→du,entry_tuple_add→dw,slot_tuple_add→dF,args_zip_next_1→dH,entry_zip_next→dU,slot_int_rmul→eG,args_str_split_2→fh,excBase_ValueError→fC,entry_str_split→fD,plainAttrs_str→fZ,args_tuple_iterator_next_1→g4,entry_tuple_iterator_next→gi,slot_list_extend→gC,slot_list_clear→gS,slot_str_join→i9,args_object_init_3→iy,args_tuple_mul_2→iP,entry_tuple_mul→j3,args_int_rmul_2→ja,typeCall_zip_2→jA,slot_tuple_mul→jB,entry_int_rmul→jC,newCall_zip_2→jN,fills_int_mul→jO,entry_zip_new→jP,called_zip→lz
open Array renaming toList_append→cz,length_toList→cW,append_inj_right→dO,toList→jK
open PySem.Calls renaming spliced_cons→cE,callWith_builtin→cJ,evalArgs_plain→cO,spliced_nil→dr,Name_function_global→fO
open PySem.Around renaming under_plainId→cM,under→gk,frames_deeper→gx
open Classical renaming propDecidable→dq
open PySem.SeqAt renaming EqAt→dN,RcAt→fM
open Ne renaming symm→eC
open List.cons renaming inj→eD
open Int renaming natCast_nonneg→f7,fdiv_eq_ediv_of_nonneg→gh,zero_add→gO,ediv_eq_zero_of_lt→gR,add_mul_ediv_left→gZ,mul_assoc→jW,ne_of_gt→kB,pow_pos→lh,one_mul→lj,mul_one→lq,le_refl→lr
open Sum.inr renaming inj→f9
open PySem.Builtin.Dict renaming updateFrom→fi,selfAndRest→kR,pairItems→kS
open Pure renaming pure→fw
open PySem.Heap.SameBut renaming update→fN,refl→fY
open List.Pairwise renaming nil→fW,imp_of_mem→kz,imp→kA
open PySem.EqMixed renaming ne_str_int→jX,ne_str_bool→jY,ne_int_str→jZ,ne_bool_str→k6,eq_str_int→k7,eq_str_bool→k8,eq_int_str→k9,eq_bool_str→ka
open PySem.EqNone renaming ne_str_none→kC,ne_none_str→kD,ne_none_none→kE,ne_none_int→kF,ne_none_bool→kH,ne_int_none→kI,ne_bool_none→kJ,eq_str_none→kK,eq_none_str→kL,eq_none_none→kM,eq_none_int→kN,eq_none_bool→kO,eq_int_none→kP,eq_bool_none→kQ
def kh:=@List.getElem?_eq_getElem
def kj:=@PySem.Heap.get?_push_of_some
def km:=@List.length_map
def xf:=@List.mem_cons_of_mem
def xj:=@Bool.false_ne_true
def xm:=@List.mem_cons_self
def xn:=@List.getD_eq_getElem?_getD
def xq:=@PySem.Heap.lt_size
def xr:=@List.mem_cons
def xu:=@PySem.Heap.get?_push_size
def xx:=@List.length_cons
def X3:=@List.mem_singleton
def X4:=@List.size_toArray
def X5:=@List.map_cons
def X6:=@Nat.le_refl
def X7:=@List.length_append
def X8:=@Nat.ne_of_lt
def Xa:=@List.getElem?_map
def Xb:=@Bool.and_eq_true
def Xc:=@List.map_map
def Xd:=@List.mem_map
def Xe:=@List.getElem?_eq_some_iff
def Xf:=@Nat.le_trans
def Xg:=@List.lookup_cons
def Xh:=@Int.toNat_natCast
def Xi:=@PySem.Heap.size_push
def Xj:=@List.length_take
def Xk:=@List.nodup_cons
def Xl:=@List.mem_of_getElem?
def Xm:=@List.mem_append_right
def Xn:=@Nat.lt_of_lt_of_le
def Xo:=@List.append_nil
def Xp:=@Option.isSome_iff_exists
def Xq:=@List.all_eq_true
def Xr:=@Bool.false_eq_true
def Xu:=@Option.getD_some
def Xv:=@Option.map_eq_some_iff
def Xw:=@List.mem_range
def Xx:=@List.mem_append
def Xy:=@Nat.lt_trans
def Xz:=@PySem.W.mg_of
def ph:=@Bool.or_eq_true
def pq:=@Nat.le_succ
def P0:=@List.length_drop
def Pa:=@PySem.mem_of_lookup
def Pb:=@List.replicate_succ
def Pg:=@Nat.ne_of_gt
def Ph:=@List.map_append
def Pj:=@Nat.lt_irrefl
def Pk:=@List.append_assoc
def Pn:=@List.getElem?_append_left
def Pq:=@Nat.lt_succ_self
def Pr:=@List.length_range
def Pu:=@List.getElem_mem
def Py:=@List.mem_filterMap
def Pz:=@List.foldl_cons
def tu:=@PySem.F.slot_zip_next
def T3:=@Int.emod_nonneg
def T4:=@List.flatten_cons
def T5:=@List.take_add_one
def T6:=@List.flatMap_cons
def T7:=@List.sum_cons
def T8:=@PySem.F.plainAttrs_list
def T9:=@List.map_congr_left
def Tc:=@List.cons_append
def Td:=@List.take_length
def Te:=@Nat.zero_le
def Tf:=@List.take_of_length_le
def Th:=@Nat.zero_add
def Ti:=@Int.emod_lt_of_pos
def Tj:=@List.nil_append
def Tn:=@List.getElem?_eq_none
def Tu:=@Nat.lt_succ_of_lt
def Tv:=@Nat.lt_of_succ_le
def k7f:=@And.intro
abbrev k7g:=lx
abbrev k7h:=aj→aq→Prop
abbrev k7i:=List (ak×dm)
abbrev k7j:=ao→Option aj
abbrev k7k:=("__debug__":ao)
abbrev k7l:=("__classdict__":ao)
local macro_rules | `(tactic| omega)=>`(tactic| first | with_reducible assumption | with_reducible exact Nat.le_of_lt (by assumption) | with_reducible exact Nat.le_refl _ | lia)
local macro_rules | `(nofun)=>`(by omega)
section
namespace L2
open PySem PySem.Spec PyProof.Rows
noncomputable abbrev Key:=Sum Int ao
noncomputable def Lq:Key->aj->Bool
 |.inl k,v=>Value.isInt k v
 |.inr x,v=>iZ x v
noncomputable def jmn(w:aD):Key->Int
 |.inl k=>hashInt k
 |.inr x=>hashStr w x
theorem vz:∀{k:Key}{v:aj},Lq k v=af->(∃i t,k=fg i/\v=bq i t)\/(∃x t,k=bP x/\v=b8 x t)
 |.inl i,v,h=>by obtain⟨t,e⟩:=Value.isInt_shape (k:=i) (v:=v) h;exact .inl ⟨i,t,rfl,e⟩
 |.inr x,v,h=>by obtain⟨t,e⟩:=Value.isStrOf_shape (x:=x) (v:=v) h;exact .inr ⟨x,t,rfl,e⟩
theorem j4x(x:ao)(t:dz):Lq (.inr x) (.str x t)=af:=by simp[Lq,iZ]
theorem jgl(a b:Int):decide ((fg a:Key)=fg b)=(a==b):=by
 by_cases e:a=b
 .subst e;simp
 .have h:¬(fg a:Key)=fg b:=λq=>e (Sum.inl.inj q);rw[decide_eq_false h];exact(beq_eq_false_iff_ne.mpr e).symm
theorem jgi(a b:ao):decide ((bP a:Key)=bP b)=decide (a=b):=by
 by_cases e:a=b
 .subst e;simp
 .have h:¬(bP a:Key)=bP b:=λq=>e (f9 q);rw[decide_eq_false h,decide_eq_false e]
theorem jgk(a:Int)(b:ao):decide ((fg a:Key)=bP b)=ae:=decide_eq_false (λq=>nomatch q)
theorem jgj(a:ao)(b:Int):decide ((bP a:Key)=fg b)=ae:=decide_eq_false (λq=>nomatch q)
noncomputable def Uj(prog:ay)(w:aD):PySem.KeyKind prog w Key where
 is:=Lq
 hash:=jmn w
 inj:=λv a b ha hb=>by
  rcases vz ha with ⟨i,t,rfl,rfl⟩|⟨x,t,rfl,rfl⟩
  .rcases vz hb with ⟨j,u,rfl,e⟩|⟨y,u,rfl,e⟩
   .injection e with e1 _;rw[e1]
   .exact nomatch e
  .rcases vz hb with ⟨j,u,rfl,e⟩|⟨y,u,rfl,e⟩
   .exact nomatch e
   .injection e with e1 _;rw[e1]
 byValue:=λk v h=>by rcases vz h with ⟨i,t,rfl,rfl⟩|⟨x,t,rfl,rfl⟩<;>rfl
 pyHash:=λhv h=>by
  rcases vz hv with ⟨i,t,rfl,rfl⟩|⟨x,t,rfl,rfl⟩
  .exact wpAny_pyHash_int h
  .exact wpAny_pyHash_str h
 eqBool:=λhu hv h=>by
  rcases vz hu with ⟨i,t,rfl,rfl⟩|⟨x,t,rfl,rfl⟩
  .rcases vz hv with ⟨j,u,rfl,rfl⟩|⟨y,u,rfl,rfl⟩
   .rw[jgl]at h;exact wpAny_eqBool_int h
   .rw[jgk]at h;exact SeqAt.EqAt.int_str i t y u _ _ _ _ h
  .rcases vz hv with ⟨j,u,rfl,rfl⟩|⟨y,u,rfl,rfl⟩
   .rw[jgj]at h;exact SeqAt.EqAt.str_int x t j u _ _ _ _ h
   .rw[jgi]at h;exact wpAny_eqBool_str h
 «strs»:=λk x t v h=>by
  rcases vz h with ⟨i,u,rfl,e⟩|⟨y,u,rfl,e⟩
  .exact nomatch e
  .injection e with e1 _;subst e1;cases v<;>rfl
theorem O2(prog:ay)(w:aD)(x:ao)(t:dz):(Uj prog w).is (.inr x) (.str x t)=af:=j4x x t
set_option genInjectivity true in
inductive V where
 |non|bl (b:Bool)|int (i:Int)|str (x:ao)|byt (b:Array UInt8)|flt (b:UInt64)|ref (a:ak)|ty (n:String)
 deriving DecidableEq
def RelV:V->aj->Prop
 |.non,u=>u=b7
 |.bl b,u=>u=bo b
 |.int i,u=>∃t,u=bq i t
 |.str x,u=>∃t,u=b8 x t
 |.byt b,u=>∃t,u=jM b t
 |.flt b,u=>∃t,u=jL b t
 |.ref a,u=>u=aI a
 |.ty n,u=>u=cC n
abbrev Vals:List V->List aj->Prop:=Paired RelV
theorem Vals.length{xs:List V}{us:List aj}(r:Vals xs us):xs.length=us.length:=Paired.length r
theorem Vals.get:∀{xs:List V}{us:List aj}{i:Nat}{x:V},Vals xs us->xs[i]?=aa x->∃u,us[i]?=aa u/\RelV x u
 |_,_,_,_,.nil,e=>by simp at e
 |_,_,0,_,.cons r _,e=>by simp at e;subst e;exact⟨_,rfl,r⟩
 |_,_,i+1,x,.cons _ t,e=>by obtain⟨u,h1,h2⟩:=Vals.get (i:=i) (x:=x) t (by simpa using e);exact⟨u,by simpa using h1,h2⟩
theorem Vals.append:∀{xs ys:List V}{us ws:List aj},Vals xs us->Vals ys ws->Vals (xs++ys) (us++ws)
 |_,_,_,_,.nil,s=>s
 |_,_,_,_,.cons r t,s=>.cons r (Vals.append t s)
theorem Vals.take:∀{xs:List V}{us:List aj}(n:Nat),Vals xs us->Vals (xs.take n) (us.take n)
 |_,_,0,_=>.nil
 |_,_,_+1,.nil=>.nil
 |_,_,n+1,.cons r t=>.cons r (Vals.take n t)
theorem Vals.drop:∀{xs:List V}{us:List aj}(n:Nat),Vals xs us->Vals (xs.drop n) (us.drop n)
 |_,_,0,r=>r
 |_,_,_+1,.nil=>.nil
 |_,_,n+1,.cons _ t=>Vals.drop n t
def U7:Option V->Option aj->Prop
 |some v,aa u=>RelV v u
 |none,ah=>True
 |_,_=>False
def KV{κ:Type}:List (κ×V)->List (κ×aj)->Prop:=Paired λ(p:κ×V) (q:κ×aj)=>p.1=q.1/\RelV p.2 q.2
noncomputable def kV:Key->V
 |.inl i=>.int i
 |.inr x=>.str x
inductive HO where
 |lst (xs:List V)
 |tup (xs:List V)
 |dK (kvs:List (Key×V))|dT (kvs:List (List Key×V))
 |dI (xs:List (List Int×ak×aj)) (ep:Nat)
 |set (S:Int->Bool) (n:Nat)
 |ins (C dx:ak) (fs:List (ao×V))
 |own (x:ak)
 |xd (fs:List (ao×V))
 |met (f x:ak)
 |rng (lo hi:Int)
 |frz (o:dm) (u:HO)
 |tbl (ps:Array aj)
 |cod (q:ao)
 |ext (φ:aH->Prop)
noncomputable abbrev Hp:=ak->Option HO
noncomputable def upd(H:Hp)(a:ak)(o:HO):Hp:=λb=>if b=a then aa o else H b
theorem ju{H:Hp}{a:ak}{o:HO}:upd H a o a=aa o:=by unfold upd;rw[if_pos rfl]
theorem ji{H:Hp}{a b:ak}{o:HO}(h:b≠a):upd H a o b=H b:=by unfold upd;rw[if_neg h]
theorem jb5{H:Hp}{a:ak}{o u:HO}:upd (upd H a o) a u=upd H a u:=by funext b;unfold upd;split<;>rfl
theorem z8{H:Hp}{a b:ak}{o:HO}(h:H a=aa o)(h':H b=ah):a≠b:=by intro e;subst e;rw[h]at h';cases h'
def Zj(h:aH)(a:ak):Prop:=∀o,h.get? a=aa o->o.dict=ah
theorem Zj.new(h:aH)(xs:Array aj):Zj (h.push { cls:=.type "tuple",data:=.seq xs }) h.objs.size:=λo e=>by have z:(h.push { cls:=.type "tuple",data:=.seq xs }).get? h.objs.size=aa { cls:=.type "tuple",data:=.seq xs }:=xu _ rfl;rw[z]at e;cases e;rfl
theorem Zj.of{h:aH}{a:ak}{d:Data}{c:aj}(e:h.get? a=aa { cls:=c,data:=d }):Zj h a:=λo e'=>by rw[e]at e';cases e';rfl
def j3h(o:dm)(q:ao):Prop:=∃(vs:Array aj)(t:dz),o.data=.fields vs/\vs[1]?=aa (.str q t)
section
variable(P:ay)(w:aD)
def jw(H:Hp)(h:aH)(a:ak):HO->Prop
 |.lst xs=>xs.length<=au/\∃(its:List aj)(n:Nat),Vals xs its/\h.get? a=aa { cls:=.type "list",data:=.seq its.toArray n }
 |.tup xs=>xs.length<=au/\∃its:List aj,Vals xs its/\ij h a its.toArray/\Zj h a
 |.dK kvs=>kvs.length<=au/\(a==fH)=ae/\∃vs,KV kvs vs/\h.DictOf (Uj P w) a vs
 |.dT kvs=>kvs.length<=au/\(a==fH)=ae/\∃xs:List (List Key×ak×aj),
   Paired (λ(p:List Key×V) (q:List Key×ak×aj)=>p.1=q.1/\H q.2.1=aa (.tup (p.1.map kV))/\RelV p.2 q.2.2) kvs xs /\
   ∃o es ep,h.get? a=aa o/\o.ExactDict/\o.data=.dict es ep/\es.toList=xs.map (entryOfKey (tupleKind (Uj P w)))/\(xs.map (·.1)).Nodup
 |.dI xs ep=>xs.length<=au/\(a==fH)=ae/\(xs.map λx=>x.1).Nodup/\∃(o:dm)(es:Array kr),h.get? a=aa o/\o.ExactDict/\o.data=.dict es ep/\es.toList=xs.map (entryOfKey (tupleKind (intKind P w)))
 |.set S n=>h.SetOf (intKind P w) a S n
 |.ins C dx fs=>H dx=aa (.own a)/\fs.length<=1000/\dx≠a/\h.get? a=aa (W.instObj C dx) /\
   ∃mA,h.Ns1 dx mA/\(∀f,U7 (fs.lookup f) (mA f))/\gr mA (fs.map (·.1))
 |.own _=>∃o,h.get? a=aa o
 |.xd fs=>∃mA,h.Ns1 a mA/\∀f,U7 (fs.lookup f) (mA f)
 |.rng lo hi=>∃t u v,h.get? a=aa { cls:=.type "range",data:=.fields #[.int lo t,.int hi u,.int 1 v] }
 |.frz o u=>h.get? a=aa o/\jw H h a u
 |.tbl ps=>h.get? a=aa { cls:=.none,data:=.fields ps }
 |.cod q=>∃ps:Array aj,h.get? a=aa (W.tabObj ps)/\TriplesOk ps.toList/\∀pos cv,codeAmong pos ps.toList=aa cv->∃(c:ak)(oc:dm),cv=.ref c/\H c=aa (.frz oc (.own 0))/\j3h oc q
 |.met f x=>h.get? a=aa (W.methodObj (.ref f) (.ref x))
 |.ext φ=>φ h/\(∃o,h.get? a=aa o)/\∀h1 h2:aH,φ h1->(∀o,h1.get? a=aa o->h2.get? a=aa o)->φ h2
def HOk(H:Hp)(h:aH):Prop:=∀a o,H a=aa o->jw P w H h a o
end
section
variable{P:ay}{w:aD}{H H':Hp}{h h':aH}{a:ak}{o:HO}
theorem jw.lt(x:jw P w H h a o):a<h.objs.size:=by
 cases o with
 |lst xs=>obtain⟨_,_,_,_,e⟩:=x;exact xq e
 |tup xs=>obtain⟨_,_,_,p,_⟩:=x;exact p.lt
 |dK kvs=>obtain⟨_,_,_,_,o,_,_,e,_⟩:=x;exact xq e
 |dT kvs=>obtain⟨_,_,_,_,o,_,_,e,_⟩:=x;exact xq e
 |dI xs ep=>obtain⟨_,_,_,o,_,e,_⟩:=x;exact xq e
 |set S n=>obtain⟨o,_,_,_,e,_⟩:=x;exact xq e
 |ins C dx fs=>obtain⟨_,_,_,e,_⟩:=x;exact xq e
 |own y=>obtain⟨_,e⟩:=x;exact xq e
 |xd fs=>obtain⟨_,⟨_,_,_,e,_⟩,_⟩:=x;exact xq e
 |rng lo hi=>obtain⟨_,_,_,e⟩:=x;exact xq e
 |frz ob u=>obtain⟨e,_⟩:=x;exact xq e
 |tbl ps=>exact xq (show h.get? a=aa _ from x)
 |cod q=>obtain⟨_,e,_⟩:=x;exact xq e
 |met f y=>exact xq (show h.get? a=aa _ from x)
 |ext φ=>obtain⟨_,⟨_,e⟩,_⟩:=x;exact xq e
theorem Paired.mapP{α β:Type}{F G:α->β->Prop}:∀{l₁:List α}{l₂:List β},Paired F l₁ l₂->(∀a b,F a b->G a b)->Paired G l₁ l₂
 |_,_,.nil,_=>.nil
 |_,_,.cons r t,f=>.cons (f _ _ r) (Paired.mapP t f)
theorem jw.stay(x:jw P w H h a o)(k:∀b u,(b=a\/H b=aa (.own a))->h.get? b=aa u->h'.get? b=aa u)
  (ho:∀b,H b=aa (.own a)->H' b=aa (.own a)) (ht:∀b xs,H b=aa (.tup xs)->H' b=aa (.tup xs)) (hz:∀b o,(∃vs,o.data=.fields vs)->H b=aa (.frz o (.own 0))->H' b=aa (.frz o (.own 0))):jw P w H' h' a o:=by
 induction o with
 |lst xs=>obtain⟨z,its,n,r,e⟩:=x;exact⟨z,its,n,r,k _ _ (.inl rfl) e⟩
 |tup xs =>obtain⟨z,its,r,⟨ob,e,c⟩,nd⟩:=x;refine⟨z,its,r,⟨ob,k _ _ (.inl rfl) e,c⟩,λo q=>?_⟩;rw[k _ _ (.inl rfl) e]at q;cases q;exact nd _ e
 |dK kvs=>obtain⟨z,y,vs,r,ob,es,ep,e,c⟩:=x;exact⟨z,y,vs,r,ob,es,ep,k _ _ (.inl rfl) e,c⟩
 |dT kvs =>obtain⟨z,y,xs,r,ob,es,ep,e,c⟩:=x;exact⟨z,y,xs,Paired.mapP r λp q z=>⟨z.1,ht _ _ z.2.1,z.2.2⟩,ob,es,ep,k _ _ (.inl rfl) e,c⟩
 |dI xs ep=>obtain⟨z,y,nd,ob,es,e,c⟩:=x;exact⟨z,y,nd,ob,es,k _ _ (.inl rfl) e,c⟩
 |set S n=>obtain⟨ob,es,ep,t,e,c⟩:=x;exact⟨ob,es,ep,t,k _ _ (.inl rfl) e,c⟩
 |ins C dx fs =>obtain⟨d,z,ne,e,mA,⟨od,es,ep,e2,c⟩,r⟩:=x;exact⟨ho _ d,z,ne,k _ _ (.inl rfl) e,mA,⟨od,es,ep,k _ _ (.inr d) e2,c⟩,r⟩
 |own y=>obtain⟨ob,e⟩:=x;exact⟨ob,k _ _ (.inl rfl) e⟩
 |xd fs=>obtain⟨mA,⟨od,es,ep,e,c⟩,r⟩:=x;exact⟨mA,⟨od,es,ep,k _ _ (.inl rfl) e,c⟩,r⟩
 |rng lo hi=>obtain⟨t,u,v,e⟩:=x;exact⟨t,u,v,k _ _ (.inl rfl) e⟩
 |frz ob u ih=>obtain⟨e,q⟩:=x;exact⟨k _ _ (.inl rfl) e,ih q⟩
 |tbl ps =>have e:h.get? a=aa { cls:=.none,data:=.fields ps }:=x;show h'.get? a=aa { cls:=.none,data:=.fields ps };exact k a _ (.inl rfl) e
 |cod q=>obtain⟨ps,e,t,c⟩:=x;exact⟨ps,k _ _ (.inl rfl) e,t,λpos cv z=>let ⟨c,oc,e1,e2,e3⟩:=c pos cv z;⟨c,oc,e1,hz _ _ (let ⟨vs,_,z,_⟩:=e3;⟨vs,z⟩) e2,e3⟩⟩
 |met f y =>have e:h.get? a=aa (W.methodObj (.ref f) (.ref y)):=x;show h'.get? a=aa (W.methodObj (.ref f) (.ref y));exact k a _ (.inl rfl) e
 |ext φ=>obtain⟨p,⟨o,e⟩,st⟩:=x;exact⟨st _ _ p λo q=>k _ _ (.inl rfl) q,⟨o,k _ _ (.inl rfl) e⟩,st⟩
theorem HOk.lt(x:HOk P w H h)(e:H a=aa o):a<h.objs.size:=(x a o e).lt
theorem HOk.fresh(x:HOk P w H h)(e:h.objs.size<=a):H a=ah:=by
 cases q:H a with
 |none=>rfl
 |some u=>exact absurd (Xn (x.lt q) e) (Pj _)
theorem HOk.kept(x:HOk P w H h)(k:∀b u,h.get? b=aa u->h'.get? b=aa u):HOk P w H h':=λa o e =>(x a o e).stay (λb u _ q=>k b u q) (λ_ q=>q) (λ_ _ q=>q) λ_ _ _ q=>q
theorem HOk.laid(x:HOk P w H h)(k:∀b u,h.get? b=aa u->h'.get? b=aa u)(hp:h.objs.size<=a)(new:jw P w (upd H a o) h' a o):HOk P w (upd H a o) h':=λb u e=>by
 have hn:=x.fresh hp;by_cases hb:b=a
 .subst hb;rw[ju]at e;cases e;exact new
 .rw[ji hb]at e;exact(x b u e).stay (λc v _ q=>k c v q) (λc q=>by rw[ji (z8 q hn)];exact q) (λc xs q=>by rw[ji (z8 q hn)];exact q) λc _ _ q=>by rw[ji (z8 q hn)];exact q
end
def Rd(H:Hp)(a:ak)(u:HO):Prop:=H a=aa u\/∃o,H a=aa (.frz o u)
theorem Rd.ok{P:ay}{w:aD}{H:Hp}{h:aH}{a:ak}{u:HO}(r:Rd H a u)(x:HOk P w H h):jw P w H h a u:=by
 rcases r with r|⟨o,r⟩
 .exact x a u r
 .obtain⟨_,q⟩:=x a _ r;exact q
def Mut:Option HO->Prop
 |some (.lst _)=>True
 |some (.dK _)=>True
 |some (.dT _)=>True
 |some (.dI _ _)=>True
 |some (.set _ _)=>True
 |some (.ins _ _ _)=>True
 |some (.ext _)=>True
 |some (.cod _)=>True
 |_=>False
section
variable{P:ay}{w:aD}{H:Hp}{h h':aH}{x e:ak}{o':HO}
theorem HOk.write(ok:HOk P w H h)(mu:Mut (H x))(he:e=x\/H e=aa (.own x))(k:∀b u,b≠e->h.get? b=aa u->h'.get? b=aa u)(heo:∃u,h'.get? e=aa u)
  (new:jw P w (upd H x o') h' x o'):HOk P w (upd H x o') h':=λb u q=>by
 have nown:∀c y,H c=aa (.own y)->c≠x:=λc y r z=>by subst z;rw[r]at mu;exact mu
 have ntup:∀c xs,H c=aa (.tup xs)->c≠x:=λc xs r z=>by subst z;rw[r]at mu;exact mu
 have nfrz:∀c o u,H c=aa (.frz o u)->c≠x:=λc o u r z=>by subst z;rw[r]at mu;exact mu
 by_cases hb:b=x
 .subst hb;rw[ju]at q;cases q;exact new
 .rw[ji hb]at q;by_cases hbe:b=e
  .have q':H b=aa (.own x):=by
    rcases he with z|z
    .exact absurd (hbe.trans z) hb
    .rw[hbe];exact z
   rw[q]at q';cases q';obtain⟨v,hv⟩:=heo;exact⟨v,by rw[hbe];exact hv⟩
  .refine(ok b u q).stay (λc v hc r=>k c v ?_ r) (λc r=>by rw[ji (nown c b r)];exact r) (λc xs r=>by rw[ji (ntup c xs r)];exact r) λc o _ r=>by rw[ji (nfrz c o _ r)];exact r
   rcases hc with rfl|hc
   .exact hbe
   .rintro rfl;rcases he with z|z
    .exact nown c b hc z
    .rw[hc]at z;cases z;exact hb rfl
end
structure Un(fs ex:List ak)(H H':Hp)(h h':aH):Prop where
 keep:∀b o,h.get? b=aa o->H b=ah->b∉fs->b∉ex->h'.get? b=aa o
 slot:∀b o,h.get? b=aa o->H b=ah->b∈fs->b∉ex->∃sl,h'.get? b=aa { o with slots:=sl }
 free:∀b o,h.get? b=aa o->H b=ah->b∉ex->H' b=ah
 there:∀b o,h.get? b=aa o->b∉ex->∃o',h'.get? b=aa o'
 tups:∀b xs,H b=aa (.tup xs)->H' b=aa (.tup xs)
 frzs:∀b o u,H b=aa (.frz o u)->H' b=aa (.frz o u)
 tbls:∀b ps,H b=aa (.tbl ps)->∃more,H' b=aa (.tbl (ps++more))
section
variable{fs fs' ex ex':List ak}{H H1 H2:Hp}{h h1 h2 h':aH}{a x e:ak}{o:HO}
theorem Un.any(u:Un fs ex H H1 h h1){b:ak}{ob:dm}(q:h.get? b=aa ob)(n:H b=ah)(hx:b∉ex):∃sl,h1.get? b=aa { ob with slots:=sl }:=by
 by_cases hb:b∈fs
 .exact u.slot b ob q n hb hx
 .exact⟨ob.slots,u.keep b ob q n hb hx⟩
theorem Un.kept(k:∀b u,h.get? b=aa u->h'.get? b=aa u):Un fs ex H H h h' :=
 ⟨λb ob q _ _ _=>k b ob q,λb ob q _ _ _=>⟨ob.slots,k b ob q⟩,λ_ _ _ n _=>n,λb ob q _=>⟨ob,k b ob q⟩,λ_ _ q=>q,λ_ _ _ q=>q,λ_ ps q=>⟨#[],by rw[q];simp⟩⟩
theorem Un.refl:Un fs ex H H h h:=Un.kept λ_ _ q=>q
theorem Un.laid(k:∀b u,h.get? b=aa u->h'.get? b=aa u)(hp:h.objs.size<=a)(hn:H a=ah):Un fs ex H (upd H a o) h h' where
 keep:=λb u q _ _ _=>k b u q
 slot:=λb u q _ _ _=>⟨u.slots,k b u q⟩
 free:=λb u q n _=>by rw[ji (X8 (Xn (xq q) hp))];exact n
 there:=λb u q _=>⟨u,k b u q⟩
 tups:=λb xs q=>by rw[ji (z8 q hn)];exact q
 frzs:=λb u xs q=>by rw[ji (z8 q hn)];exact q
 tbls:=λb ps q=>⟨#[],by rw[ji (z8 q hn),q];simp⟩
theorem Un.write(mu:Mut (H x))(he:e=x\/H e=aa (.own x))(k:∀b u,b≠e->h.get? b=aa u->h'.get? b=aa u)(heo:∃u,h'.get? e=aa u):Un fs ex H (upd H x o) h h':=by
 have hx:∀b,H b=ah->b≠x:=λb n z=>by subst z;rw[n]at mu;exact mu
 have hb:∀b,H b=ah->b≠e:=λb n z=>by
  subst z;rcases he with r|r
  .exact hx b n r
  .rw[n]at r;cases r
 have hm:∀b u,H b=aa u->¬Mut (aa u)->b≠x:=λb u q nm z=>by subst z;rw[q]at mu;exact nm mu
 refine⟨λb u q n _ _=>k b u (hb b n) q,λb u q n _ _=>⟨u.slots,k b u (hb b n) q⟩,λb u q n _=>by rw[ji (hx b n)];exact n,λb u q _=>?_,
  λb xs q=>by rw[ji (hm b _ q λz=>z)];exact q,λb u xs q=>by rw[ji (hm b _ q λz=>z)];exact q,λb ps q=>⟨#[],by rw[ji (hm b _ q λz=>z),q];simp⟩⟩
 by_cases hbe:b=e
 .subst hbe;exact heo
 .exact⟨u,k b u hbe q⟩
end
noncomputable def trk(h:aH)(H:Hp):List ak:=(aK h.objs.size).filter λa=>(H a).isSome
noncomputable def Wa(h:aH)(H:Hp):aH:=W.hideAll h (trk h H)
theorem j57(h:aH)(H:Hp):(Wa h H).objs.size=h.objs.size:=W.hideAll_size _ _
theorem j8z{h:aH}{H:Hp}{b:ak}{o:dm}(e:h.get? b=aa o)(n:H b=ah):(Wa h H).get? b=aa o :=
 W.hideAll_get _ e λhm=>by have q:(H b).isSome=af:=(List.mem_filter.mp hm).2;rw[n]at q;simp at q
theorem jcc{h:aH}{H:Hp}{b:ak}{o:dm}(e:(Wa h H).get? b=aa o):h.get? b=aa o/\H b=ah:=by
 have e':h.get? b=aa o:=W.of_hideAll (trk h H) e;refine⟨e',?_⟩;cases q:H b with
 |none=>rfl
 |some x =>have hm:b∈trk h H:=List.mem_filter.mpr ⟨Xw.mpr (xq e'),by simp[q]⟩;have z:(Wa h H).get? b=ah:=W.hideAll_none (trk h H) hm;rw[z]at e;cases e
noncomputable def jdz(g h:aH)(L:ak):List (ak×dm):=(aK h.objs.size).filterMap λa=>if a=L\/(g.get? a).isSome=af then ah else(h.get? a).map λo=>(a,o)
noncomputable def rest(g h:aH)(L d:ak):List (ak×dm):=(jdz g h L).filter λp=>decide (p.1≠d)
structure Mod(K:k7g)(mg:k7j)(base:aH):Prop where
 kin:K.In base
 glob:base.Ns aw mg
 blt:∃mb,base.Ns dG mb/\∀x:ao,x ≠ "__name__"->mb x=bg x
 nolimit:base.NoLimit
 bm:∃bm ob,mg "__builtins__" = aa (.ref bm)/\bm≠dG/\base.get? bm=aa ob/\ob.cls=.type "module"/\ob.dict=aa dG/\ob.data=.plain
structure Cx where
 prog:ay
 w:aD
 K:k7g
 mg:ao->Option aj
 base:aH
 A:aG
 N:List ao
 s₀:aq
 H₀:Hp
 env:d9
 outer:List d9
 stack:List d9
 ex:List ak
 fn:ao->Bool
 calm:Bool
 pn:List (ak×dm)
 xe:aj->aq->Prop
noncomputable def frs(l:List d9):List ak:=l.filterMap (·.frame)
noncomputable abbrev Cx.fs(X:Cx):List ak:=frs X.outer
def Vis(sc:bG)(x:ao):Prop:=sc.names.lookup x=aa .local\/sc.names.lookup x=aa .cell\/sc.names.lookup x=aa .free
def Loc(sc:bG)(x:ao):Prop:=sc.names.lookup x=aa .local\/sc.names.lookup x=aa .cell
def Look(env:d9)(h:aH)(m:k7j)(x:ao)(u:aj):Prop :=
 (env.kindOf x=aa .local/\m x=aa u)\/((env.kindOf x=aa .cell\/env.kindOf x=aa .free)/\∃c,env.cells.lookup x=aa c/\h.IsCell c (aa u))
structure Cx.Ok(X:Cx):Prop where
 mod:Mod X.K X.mg X.base
 kind:X.env.scope.kind=.function
 glob:X.env.globals=aw
 blt:X.env.builtins=dG
 above:X.s₀.heap.objs.size<=X.env.locals
 inj:∀x y c,X.env.cells.lookup x=aa c->X.env.cells.lookup y=aa c->x=y
 has:∀x,(X.env.kindOf x=aa .cell\/X.env.kindOf x=aa .free)->∃c,X.env.cells.lookup x=aa c
 cab:∀x c,X.fn x=af->X.env.cells.lookup x=aa c->X.s₀.heap.objs.size<=c
 hd:X.calm=af->X.A.handled=ah
 frames:X.A.frames=aa X.stack
 stk:X.stack=X.outer\/(X.stack=X.env::X.outer/\X.env.frame=aa X.env.locals)
 exf:∀b∈X.ex,b≠X.env.locals/\∀x c,X.env.cells.lookup x=aa c->c≠b
 bs:∀b o,X.base.get? b=aa o->X.s₀.heap.get? b=aa o/\X.H₀ b=ah
 bsz:X.base.objs.size<=X.s₀.heap.objs.size
 noex:∀b o,X.base.get? b=aa o->b∉X.ex
 exfs:∀b∈X.ex,b∉X.fs
 funs:X.s₀.heap.FunFrames X.base X.outer
 frf:∀b∈X.fs,X.H₀ b=ah
structure Inv(X:Cx)(pins:k7i)(σ:List (Option V))(H:Hp)(s:aq):Prop where
 ok:X.Ok
 os:s.os=X.s₀.os
 bare:dR s.gens
 base:Un X.fs X.ex X.H₀ H X.s₀.heap s.heap
 loc:∃m,s.heap.Ns X.env.locals m/\∀(i:Nat)(x:ao)(v:V),X.N[i]?=aa x->σ[i]?=aa (aa v)->Vis X.env.scope x->∃u,RelV v u/\Look X.env s.heap m x u
 cell:∀x c,X.env.cells.lookup x=aa c->∃v,s.heap.IsCell c v
 free:H X.env.locals=ah
 freeC:∀x c,X.env.cells.lookup x=aa c->H c=ah
 pin:∀p∈X.pn++pins,s.heap.get? p.1=aa p.2/\H p.1=ah/\p.1≠X.env.locals/\p.1∉X.fs/\∀v,p.2.data≠.cell v
 hok:HOk X.prog X.w H s.heap
 len:σ.length=X.N.length
section
variable{X:Cx}{pins:k7i}{σ:List (Option V)}{H H':Hp}{s:aq}{h':aH}
theorem Cx.Ok.nofr(ok:X.Ok){b:ak}{o:dm}(e:X.base.get? b=aa o):b∉X.fs:=λhb=>by have:=(ok.funs.mem hb).1;rw[e]at this;cases this
theorem Inv.bs(I:Inv X pins σ H s):∀b o,X.base.get? b=aa o->s.heap.get? b=aa o/\H b=ah:=λb o e =>⟨I.base.keep b o (I.ok.bs b o e).1 (I.ok.bs b o e).2 (I.ok.nofr e) (I.ok.noex b o e),I.base.free b o (I.ok.bs b o e).1 (I.ok.bs b o e).2 (I.ok.noex b o e)⟩
theorem Inv.bk(I:Inv X pins σ H s):∀b o,X.base.get? b=aa o->s.heap.get? b=aa o:=λb o e=>(I.bs b o e).1
theorem Inv.mod(I:Inv X pins σ H s):Mod X.K X.mg X.base:=I.ok.mod
theorem Inv.kIn(I:Inv X pins σ H s):X.K.In s.heap:=I.ok.mod.kin.keeps I.bk
theorem Inv.lt(I:Inv X pins σ H s):X.env.locals<s.heap.objs.size:=let ⟨_,hn,_⟩:=I.loc;hn.lt
theorem Inv.sz(I:Inv X pins σ H s):X.s₀.heap.objs.size<=s.heap.objs.size:=Xf I.ok.above (dY I.lt)
theorem Inv.nofs(I:Inv X pins σ H s){a:ak}(h:s.heap.objs.size<=a):a∉X.fs:=λhb=>by obtain⟨_,o,ho,_⟩:=I.ok.funs.mem hb;exact absurd (Xn (xq ho) (Xf I.sz h)) (Pj _)
theorem Inv.cne(I:Inv X pins σ H s):∀x c,X.env.cells.lookup x=aa c->c≠X.env.locals:=λx c e z=>by obtain⟨v,o,ho,hd⟩:=I.cell x c e;obtain⟨m,⟨o',es,ep,ho',hd',_⟩,_⟩:=I.loc;rw[z,ho']at ho;cases ho;rw[hd']at hd;cases hd
theorem Inv.funs(I:Inv X pins σ H s):s.heap.FunFrames X.base X.outer:=by
 have all:∀(l:List d9),(∀b∈frs l,b∈X.fs)->X.s₀.heap.FunFrames X.base l->s.heap.FunFrames X.base l:=by
  intro l;induction l with
  |nil=>intro _ _;trivial
  |cons env r ih =>intro hs hl;obtain⟨hk,⟨L,o,hf,hn,ho,hd⟩,hr⟩:=hl;have hL:L∈X.fs:=hs L (by unfold frs;rw[cA,hf];exact xm);obtain⟨sl,e⟩:=I.base.slot L o ho (I.ok.frf L hL) hL λz=>I.ok.exfs L z hL;exact⟨hk,⟨L,_,hf,hn,e,hd⟩,ih (λb hb=>hs b (by unfold frs;rw[cA,hf];exact xf _ hb)) hr⟩
 exact all X.outer (λ_ hb=>hb) I.ok.funs
theorem Inv.stack(I:Inv X pins σ H s):s.heap.FunFrames X.base X.stack:=by
 rcases I.ok.stk with e|⟨e,hf⟩
 .rw[e];exact I.funs
 .rw[e];obtain⟨m,hn,_⟩:=I.loc;refine .cons (by rw[I.ok.kind];decide) hf hn ?_ I.funs;exact Heap.get?_none_of_le (Xf I.ok.bsz I.ok.above)
theorem Inv.stkSub(I:Inv X pins σ H s):∀b∈frs X.stack,b∈X.env.locals::X.fs:=λb hb=>by
 rcases I.ok.stk with e|⟨e,hf⟩
 .rw[e]at hb;exact xf _ hb
 .rw[e]at hb;unfold frs at hb;rw[cA,hf]at hb;exact hb
theorem Inv.stkFree(I:Inv X pins σ H s):∀b∈frs X.stack,H b=ah:=λb hb=>by
 rcases xr.mp (I.stkSub b hb)with e|hb
 .rw[e];exact I.free
 .obtain⟨_,o,ho,_⟩:=I.ok.funs.mem hb;exact I.base.free b o ho (I.ok.frf b hb) λz=>I.ok.exfs b z hb
theorem Inv.step{g':Array f6}{t':Nat}{d':Drawn}{ch:List ak}(I:Inv X pins σ H s)
  (hch:∀b∈ch,(b∈X.ex\/X.s₀.heap.objs.size<=b)/\b≠X.env.locals/\(∀x c,X.env.cells.lookup x=aa c->c≠b)/\∀p∈X.pn++pins,p.1≠b)
  (keep:∀b o,b≠X.env.locals->b∉X.fs->b∉ch->s.heap.get? b=aa o->H b=ah->h'.get? b=aa o)
  (slot:∀b o,b≠X.env.locals->b∈X.fs->b∉ch->s.heap.get? b=aa o->H b=ah->∃sl,h'.get? b=aa { o with slots:=sl }) (free:∀b o,b∉ch->s.heap.get? b=aa o->H b=ah->H' b=ah)
  (there:∀b o,b∉ch->s.heap.get? b=aa o->∃o',h'.get? b=aa o')
  (tups:∀b xs,H b=aa (.tup xs)->H' b=aa (.tup xs)) (frzs:∀b o u,H b=aa (.frz o u)->H' b=aa (.frz o u)) (tbls:∀b ps,H b=aa (.tbl ps)->∃more,H' b=aa (.tbl (ps++more)))
  (ns:∀m,s.heap.Ns X.env.locals m->h'.Ns X.env.locals m) (hok:HOk X.prog X.w H' h') (hg:dR g') :
  Inv X pins σ H' { s with heap:=h',gens:=g',drawn:=d',toks:=t' }:=by
 have neL:∀b o,X.s₀.heap.get? b=aa o->b≠X.env.locals:=λb o e=>X8 (Xn (xq e) I.ok.above);have neC:∀b o,X.s₀.heap.get? b=aa o->b∉X.ex->b∉ch:=λb o e hx hb=>by
  rcases(hch b hb).1 with z|z
  .exact hx z
  .exact absurd (Xn (xq e) z) (Pj _)
 have cellK:∀x c,X.env.cells.lookup x=aa c->∀v,s.heap.IsCell c v->h'.IsCell c v:=λx c e v ⟨o,ho,hd⟩=>by
  have nch:c∉ch:=λz=>(hch c z).2.2.1 x c e rfl;by_cases hc:c∈X.fs
  .obtain⟨sl,q⟩:=slot c o (I.cne x c e) hc nch ho (I.freeC x c e);exact⟨_,q,hd⟩
  .exact⟨o,keep c o (I.cne x c e) hc nch ho (I.freeC x c e),hd⟩
 refine⟨I.ok,I.os,hg,⟨λb o e n hb hx=>?_,λb o e n hb hx=>?_,λb o e n hx=>?_,λb o e hx=>?_,λb xs e=>tups b xs (I.base.tups b xs e),λb o xs e=>frzs b o xs (I.base.frzs b o xs e),λb ps e=>?_⟩,?_,λx c e=>?_,?_,λx c e=>?_,λp hp=>?_,hok,I.len⟩
 .exact keep b o (neL b o e) hb (neC b o e hx) (I.base.keep b o e n hb hx) (I.base.free b o e n hx)
 .obtain⟨sl,e1⟩:=I.base.slot b o e n hb hx;obtain⟨sl',e2⟩:=slot b _ (neL b o e) hb (neC b o e hx) e1 (I.base.free b o e n hx);exact⟨sl',e2⟩
 .obtain⟨o',e1⟩:=I.base.there b o e hx;exact free b o' (neC b o e hx) e1 (I.base.free b o e n hx)
 .obtain⟨o',e1⟩:=I.base.there b o e hx;exact there b o' (neC b o e hx) e1
 .obtain⟨m1,e1⟩:=I.base.tbls b ps e;obtain⟨m2,e2⟩:=tbls b _ e1;exact⟨m1++m2,by rw[e2,Array.append_assoc]⟩
 .obtain⟨m,hn,hl⟩:=I.loc;refine⟨m,ns m hn,λi x v e1 e2 e3=>?_⟩;obtain⟨u,r,l⟩:=hl i x v e1 e2 e3;refine⟨u,r,?_⟩;rcases l with l|⟨k,c,e,z⟩
  .exact .inl l
  .exact .inr ⟨k,c,e,cellK x c e _ z⟩
 .obtain⟨v,z⟩:=I.cell x c e;exact⟨v,cellK x c e v z⟩
 .obtain⟨m,⟨o,_,_,ho,_⟩,_⟩:=I.loc;exact free _ o (λz=>(hch _ z).2.1 rfl) ho I.free
 .obtain⟨v,o,ho,hd⟩:=I.cell x c e;exact free c o (λz=>(hch c z).2.2.1 x c e rfl) ho (I.freeC x c e)
 .obtain⟨e,n,ne,nf,d⟩:=I.pin p hp;have nch:p.1∉ch:=λz=>(hch p.1 z).2.2.2 p hp rfl;exact⟨keep p.1 p.2 ne nf nch e n,free p.1 p.2 nch e n,ne,nf,d⟩
theorem Inv.un{t':Nat}(I:Inv X pins σ H s)(u:Un X.fs [] H H' s.heap h')(hok:HOk X.prog X.w H' h'):Inv X pins σ H' { s with heap:=h',toks:=t' }:=by
 obtain⟨m,⟨o,es,ep,ho,r⟩,_⟩:=id I.loc;obtain⟨sl,hL⟩:=u.any ho I.free (by simp);exact I.step (g':=s.gens) (d':=s.drawn) (ch:=[]) (λ_ z=>nomatch z) (λb o _ hb _ e n=>u.keep b o e n hb (by simp)) (λb o _ hb _ e n=>u.slot b o e n hb (by simp)) (λb o _ e n=>u.free b o e n (by simp)) (λb o _ e=>u.there b o e (by simp)) u.tups u.frzs u.tbls (λm' hm=>by
  obtain⟨o',es',ep',ho',r'⟩:=hm
  rw[ho]at ho';cases ho'
  exact⟨_,es',ep',hL,r'⟩) hok I.bare
theorem Inv.call{g':Array f6}{t':Nat}{d':Drawn}{ch:List ak}(I:Inv X pins σ H s)(u:Un (frs X.stack) ch H H' s.heap h')(hok:HOk X.prog X.w H' h')(hg:dR g')
  (hch:∀b∈ch,(b∈X.ex\/X.s₀.heap.objs.size<=b)/\b≠X.env.locals/\(∀x c,X.env.cells.lookup x=aa c->c≠b)/\∀p∈X.pn++pins,p.1≠b) :
  Inv X pins σ H' { s with heap:=h',gens:=g',drawn:=d',toks:=t' }:=by
 obtain⟨m,⟨o,es,ep,ho,r⟩,_⟩:=id I.loc;obtain⟨sl,hL⟩:=u.any ho I.free λz=>(hch _ z).2.1 rfl;exact I.step (ch:=ch) hch (λb o hL hb hc e n=>u.keep b o e n (λz=>(xr.mp (I.stkSub b z)).elim hL hb) hc) (λb o _ _ hc e n=>u.any e n hc) (λb o hc e n=>u.free b o e n hc) (λb o hc e=>u.there b o e hc) u.tups u.frzs u.tbls (λm' hm=>by
  obtain⟨o',es',ep',ho',r'⟩:=hm
  rw[ho]at ho';cases ho'
  exact⟨_,es',ep',hL,r'⟩) hok hg
theorem Inv.turned{t':Nat}{it:ak}(I:Inv X pins σ H s)(k:∀b o,b≠it->s.heap.get? b=aa o->h'.get? b=aa o)(hn:H it=ah)(hL:it≠X.env.locals)
  (h1:it∈X.ex\/X.s₀.heap.objs.size<=it) (h2:∀x c,X.env.cells.lookup x=aa c->c≠it) (h3:∀p∈X.pn++pins,p.1≠it):Inv X pins σ H { s with heap:=h',toks:=t' }:=by
 have nit:∀b u,H b=aa u->b≠it:=λb u e z=>by rw[z,hn]at e;cases e
 refine I.step (g':=s.gens) (d':=s.drawn) (ch:=[it]) (λb hb=>?_) (λb o _ _ hc e _=>k b o (λz=>hc (by simp[z])) e) (λb o _ _ hc e _=>⟨o.slots,k b o (λz=>hc (by simp[z])) e⟩) (λ_ _ _ _ n=>n)
  (λb o hc e=>⟨o,k b o (λz=>hc (by simp[z])) e⟩) (λ_ _ e=>e) (λ_ _ _ e=>e) (λb ps e=>⟨#[],by rw[e];simp⟩) (λm hm=>?_) (λb u e=>?_) I.bare
 .have e:b=it:=by simpa using hb
  subst e;exact⟨h1,hL,h2,h3⟩
 .obtain⟨o,es,ep,ho,r⟩:=hm;exact⟨o,es,ep,k _ o (eC hL) ho,r⟩
 .refine(I.hok b u e).stay (λc v hc q=>k c v ?_ q) (λ_ q=>q) (λ_ _ q=>q) λ_ _ _ q=>q;rcases hc with z|z
  .rw[z];exact nit b u e
  .exact nit c _ z
theorem Inv.tok(I:Inv X pins σ H s)(t:Nat):Inv X pins σ H { s with toks:=t }:=I.un (h':=s.heap) (t':=t) Un.refl I.hok
theorem Inv.kept{t':Nat}(I:Inv X pins σ H s)(k:∀b u,s.heap.get? b=aa u->h'.get? b=aa u):Inv X pins σ H { s with heap:=h',toks:=t' }:=I.un (Un.kept k) (I.hok.kept k)
theorem Inv.laid{a:ak}{o:HO}{t':Nat}(I:Inv X pins σ H s)(k:∀b u,s.heap.get? b=aa u->h'.get? b=aa u)(hp:s.heap.objs.size<=a)(new:jw X.prog X.w (upd H a o) h' a o) :
  Inv X pins σ (upd H a o) { s with heap:=h',toks:=t' }:=I.un (Un.laid k hp (I.hok.fresh hp)) (I.hok.laid k hp new)
theorem Inv.write{x e:ak}{o:HO}{t':Nat}(I:Inv X pins σ H s)(mu:Mut (H x))(he:e=x\/H e=aa (.own x))(k:∀b u,b≠e->s.heap.get? b=aa u->h'.get? b=aa u)(heo:∃u,h'.get? e=aa u)
  (new:jw X.prog X.w (upd H x o) h' x o):Inv X pins σ (upd H x o) { s with heap:=h',toks:=t' }:=I.un (Un.write mu he k heo) (I.hok.write mu he k heo new)
theorem Inv.pins_of{pins':k7i}(I:Inv X pins σ H s)(h:∀p∈pins',s.heap.get? p.1=aa p.2/\H p.1=ah/\p.1≠X.env.locals/\p.1∉X.fs/\∀v,p.2.data≠.cell v):Inv X pins' σ H s :=
 ⟨I.ok,I.os,I.bare,I.base,I.loc,I.cell,I.free,I.freeC,λp hp=>(Xx.mp hp).elim (λz=>I.pin p (cS _ z)) (h p),I.hok,I.len⟩
theorem Ky{N:List ao}(hN:N.Nodup){i j:Nat}{x:ao}(a:N[i]?=aa x)(b:N[j]?=aa x):i=j:=by obtain⟨h1,e1⟩:=Xe.mp a;obtain⟨h2,e2⟩:=Xe.mp b;exact(List.getElem_inj hN).mp (e1.trans e2.symm)
theorem Dm{M:iU}{A:aG}{E:k7h}{i:Nat}{x:ao}{v:V}{u:aj}{Q:Unit->aq->Prop}(I:Inv X pins σ H s)(hN:X.N.Nodup)(hi:X.N[i]?=aa x)(hx:Loc X.env.scope x)(r:RelV v u)
  (h:∀s',Inv X pins (σ.set i (aa v)) H s'->(∃a,bU a s.heap s'.heap/\(a=X.env.locals\/X.env.cells.lookup x=aa a))->Q () s') (hf:X.fn x=af\/X.env.scope.names.lookup x=aa .local:=by first|exact .inl rfl|exact .inr rfl|assumption):ax M A (storeName X.env x u) Q E s:=by
 obtain⟨m,hn,hl⟩:=id I.loc;have hcls:(X.env.scope.kind==.class || (X.env.scope.kind==.module&&X.env.locals != X.env.globals))=ae:=by rw[I.ok.kind];rfl
 have hiσ:i<σ.length:=by rw[I.len];exact(Xe.mp hi).1
 have cne:=I.cne;have tracked:∀{a:ak}{h':aH},(∃o,s.heap.get? a=aa o/\H a=ah)->bU a s.heap h'->HOk X.prog X.w H h':=λ{a h'} ha hs b ob e=>by
  obtain⟨_,_,hfree⟩:=ha;refine(I.hok b ob e).stay (λc w' hc q=>(hs.2 c ?_).trans q) (λ_ q=>q) (λ_ _ q=>q) λ_ _ _ q=>q;rintro rfl;rcases hc with rfl|hc
  .rw[hfree]at e;cases e
  .rw[hfree]at hc;cases hc
 rcases hx with hk|hk
 .refine wpAny_storeName_local hk hn (λh' hn' hs=>?_) hcls;obtain⟨oL,_,_,hoL,_⟩:=id hn;refine h _ ⟨I.ok,I.os,I.bare,⟨λb o e n hb hx=>?_,λb o e n hb hx=>?_,I.base.free,λb o e hx=>?_,I.base.tups,I.base.frzs,I.base.tbls⟩,⟨_,hn',λj y v' e1 e2 e3=>?_⟩,λy c e=>?_,I.free,I.freeC,λp hp=>?_,tracked ⟨oL,hoL,I.free⟩ hs,by simpa using I.len⟩ ⟨_,hs,.inl rfl⟩
  .exact(hs.2 b (X8 (Xn (xq e) I.ok.above))).trans (I.base.keep b o e n hb hx)
  .obtain⟨sl,e1⟩:=I.base.slot b o e n hb hx;exact⟨sl,(hs.2 b (X8 (Xn (xq e) I.ok.above))).trans e1⟩
  .obtain⟨o',e1⟩:=I.base.there b o e hx;exact⟨o',(hs.2 b (X8 (Xn (xq e) I.ok.above))).trans e1⟩
  .by_cases hj:j=i
   .subst hj;rw[hi]at e1;cases e1;rw[gz hiσ]at e2;cases e2;exact⟨u,r,.inl ⟨hk,by simp⟩⟩
   .rw[gX (eC hj)]at e2;obtain⟨u',r',q⟩:=hl j y v' e1 e2 e3;refine⟨u',r',?_⟩;rcases q with ⟨k,e⟩|⟨k,c,e,z⟩
    .refine .inl ⟨k,?_⟩;have:y≠x:=λe=>hj (Ky hN e1 (e▸hi));simp[this,e]
    .exact .inr ⟨k,c,e,z.sameBut hs (cne y c e)⟩
  .obtain⟨w',z⟩:=I.cell y c e;exact⟨w',z.sameBut hs (cne y c e)⟩
  .obtain⟨e,n,ne,nf,d⟩:=I.pin p hp;exact⟨(hs.2 p.1 ne).trans e,n,ne,nf,d⟩
 .have hfn:X.fn x=af:=by
   rcases hf with z|z
   .exact z
   .rw[z]at hk;cases hk
  obtain⟨c,hc⟩:=I.ok.has x (.inl hk);obtain⟨w',z⟩:=I.cell x c hc;refine wpAny_storeName_cell I.ok.kind hk hc z (λh' hc' hs=>?_);obtain⟨oc,hoc,hocd⟩:=id z;refine h { s with heap:=h' } ⟨I.ok,I.os,I.bare,⟨λb o e n hb hx=>?_,λb o e n hb hx=>?_,I.base.free,λb o e hx=>?_,I.base.tups,I.base.frzs,I.base.tbls⟩,⟨m,hn.sameBut hs (eC (cne x c hc)),λj y v' e1 e2 e3=>?_⟩,λy c' e=>?_,I.free,I.freeC,λp hp=>?_,tracked ⟨oc,hoc,I.freeC x c hc⟩ hs,by simpa using I.len⟩ ⟨c,hs,.inr hc⟩
  .exact(hs.2 b (X8 (Xn (xq e) (I.ok.cab x c hfn hc)))).trans (I.base.keep b o e n hb hx)
  .obtain⟨sl,e1⟩:=I.base.slot b o e n hb hx;exact⟨sl,(hs.2 b (X8 (Xn (xq e) (I.ok.cab x c hfn hc)))).trans e1⟩
  .obtain⟨o',e1⟩:=I.base.there b o e hx;exact⟨o',(hs.2 b (X8 (Xn (xq e) (I.ok.cab x c hfn hc)))).trans e1⟩
  .by_cases hj:j=i
   .subst hj;rw[hi]at e1;cases e1;rw[gz hiσ]at e2;cases e2;exact⟨u,r,.inr ⟨.inl hk,c,hc,hc'⟩⟩
   .rw[gX (eC hj)]at e2;obtain⟨u',r',q⟩:=hl j y v' e1 e2 e3;refine⟨u',r',?_⟩;rcases q with q|⟨k,c',e,z'⟩
    .exact .inl q
    .refine .inr ⟨k,c',e,z'.sameBut hs ?_⟩;rintro rfl;exact hj (Ky hN e1 (I.ok.inj _ _ _ e hc▸hi))
  .by_cases hcc:c'=c
   .subst hcc;exact⟨_,hc'⟩
   .obtain⟨w2,z2⟩:=I.cell y c' e;exact⟨w2,z2.sameBut hs hcc⟩
  .obtain⟨e,n,ne,nf,d⟩:=I.pin p hp;refine⟨(hs.2 p.1 ?_).trans e,n,ne,nf,d⟩;intro q;rw[q,hoc]at e;have q':oc=p.2:=aC e;exact d w' (by rw[<-q'];exact hocd)
theorem Ka{M:iU}{A:aG}{E:k7h}{i:Nat}{x:ao}{v:V}{u:aj}{Q:Unit->aq->Prop}(I:Inv X pins σ H s)(hN:X.N.Nodup)(hi:X.N[i]?=aa x)(hx:Loc X.env.scope x)(r:RelV v u)
  (h:∀s',Inv X pins (σ.set i (aa v)) H s'->Q () s') (hf:X.fn x=af\/X.env.scope.names.lookup x=aa .local:=by first|exact .inl rfl|exact .inr rfl|assumption):ax M A (storeName X.env x u) Q E s :=
 Dm I hN hi hx r (λs' I' _=>h s' I') hf
theorem Inv.call'{s':aq}{ch:List ak}(I:Inv X pins σ H s)(ho:s'.os=s.os)(u:Un (frs X.stack) ch H H' s.heap s'.heap)(hok:HOk X.prog X.w H' s'.heap)(hg:dR s'.gens)
  (hch:∀b∈ch,(b∈X.ex\/X.s₀.heap.objs.size<=b)/\b≠X.env.locals/\(∀x c,X.env.cells.lookup x=aa c->c≠b)/\∀p∈X.pn++pins,p.1≠b):Inv X pins σ H' s':=by
 obtain⟨h',g',d',t',o'⟩:=s';have e:o'=s.os:=ho;subst e;exact I.call (g':=g') (t':=t') (d':=d') u hok hg hch
end
abbrev XK:=aj->Option ak->Hp->Prop
noncomputable abbrev St:=List (Option V)
abbrev VK:=V->Hp->Prop
abbrev TE:=St->Hp->VK->Prop
abbrev TT:=St->Hp->(Bool->Hp->Prop)->Prop
abbrev TA:=St->Hp->(List V->Hp->Prop)->Prop
structure Ends where
 nx:St->Hp->Prop
 rt:VK
 bk:St->Hp->Prop:=λ_ _=>False
 ct:St->Hp->Prop:=λ_ _=>False
abbrev TS:=Ends->St->Hp->Prop
def EP(X:Cx)(pins:k7i)(σ:St)(Q:VK)(u:aj)(s':aq):Prop:=∃v H',Inv X pins σ H' s'/\RelV v u/\Q v H'
def TP(X:Cx)(pins:k7i)(σ:St)(Q:Bool->Hp->Prop)(b:Bool)(s':aq):Prop:=∃H',Inv X pins σ H' s'/\Q b H'
def AP(X:Cx)(pins:k7i)(σ:St)(Q:List V->Hp->Prop)(us:List aj)(s':aq):Prop:=∃vs H',Inv X pins σ H' s'/\Vals vs us/\Q vs H'
def Ext(X:Cx)(H1 H2:Hp)(s':aq):Prop:=∀b,H2 b=H1 b\/∃x o v,X.env.cells.lookup x=aa b/\X.fn x=af/\H2 b=aa (.frz o (.own 0))/\s'.heap.get? b=aa o/\o.data=.cell v
theorem Ext.refl{X:Cx}{H:Hp}{s':aq}:Ext X H H s':=λ_=>.inl rfl
def SP(X:Cx)(pins:k7i)(D:Ends)(f:Flow)(s':aq):Prop :=
 match f with
 |.next=>∃σ' H',Inv X pins σ' H' s'/\D.nx σ' H'
 |.brk=>∃σ' H',Inv X pins σ' H' s'/\D.bk σ' H'
 |.cont=>∃σ' H',Inv X pins σ' H' s'/\D.ct σ' H'
 |.ret u=>∃v σ' H' H2,Inv X pins σ' H' s'/\RelV v u/\Ext X H' H2 s'/\D.rt v H2
def PE(X:Cx)(e:ar)(t:TE):Prop :=
 ∀(pins:k7i) (s:aq) (σ:St) (H:Hp) (Q:VK),Inv X pins σ H s->t σ H Q->ax (aA X.prog X.w) X.A (aB e X.env) (EP X pins σ Q) X.xe s
def PT(X:Cx)(e:ar)(t:TT):Prop :=
 ∀(pins:k7i) (s:aq) (σ:St) (H:Hp) (Q:Bool->Hp->Prop),Inv X pins σ H s->t σ H Q->ax (aA X.prog X.w) X.A (eN e X.env (aB e X.env)) (TP X pins σ Q) X.xe s
def PW(X:Cx)(e:ar)(t:TT):Prop :=
 ∀(whole:kW aj)(pins:k7i) (s:aq) (σ:St) (H:Hp) (Q:Bool->Hp->Prop),Inv X pins σ H s->t σ H Q->ax (aA X.prog X.w) X.A (eN e X.env whole) (TP X pins σ Q) X.xe s
def PA(X:Cx)(es:List ar)(t:TA):Prop :=
 ∀(pos:aP)(pins:k7i) (s:aq) (σ:St) (H:Hp) (Q:List V->Hp->Prop),Inv X pins σ H s->t σ H Q->ax (aA X.prog X.w) X.A (fQ (aT pos (ai es X.env))) (AP X pins σ Q) X.xe s
def PS(X:Cx)(st:aQ)(t:TS):Prop :=
 ∀(pins:k7i) (s:aq) (σ:St) (H:Hp) (D:Ends),Inv X pins σ H s->t D σ H->ax (aA X.prog X.w) X.A (exec st X.env) (SP X pins D) X.xe s
def PSs(X:Cx)(st:List aQ)(t:TS):Prop :=
 ∀(pins:k7i) (s:aq) (σ:St) (H:Hp) (D:Ends),Inv X pins σ H s->t D σ H->ax (aA X.prog X.w) X.A (execs st X.env) (SP X pins D) X.xe s
theorem thn{α:Type}{t:kW α}{Q Q':α->aq->Prop}{M:iU}{A:aG}{E:k7h}{s:aq}(h:ax M A t Q E s)(hQ:∀a s,Q a s->Q' a s):ax M A t Q' E s:=bR h hQ λ_ _ x=>x
section
variable{X:Cx}
theorem bin{a b:ar}{ta tb:TE}(ha:PE X a ta)(hb:PE X b tb){pins:k7i}{s:aq}{σ:St}{H:Hp}{R:V->V->Hp->Prop}(I:Inv X pins σ H s)(h:ta σ H λx H1=>tb σ H1 λy H2=>R x y H2)
  {α:Type} {Q:α->aq->Prop} {f:aj->aj->kW α}
  (hf:∀v u s2 x y H2,Inv X pins σ H2 s2->RelV x v->RelV y u->R x y H2->ax (aA X.prog X.w) X.A (f v u) Q X.xe s2) :
  ax (aA X.prog X.w) X.A (aB a X.env) (λv s₁=>ax (aA X.prog X.w) X.A (aB b X.env) (λu s₂=>ax (aA X.prog X.w) X.A (f v u) Q X.xe s₂) X.xe s₁) X.xe s:=by
 refine thn (ha pins s σ H _ I h) λv s1 ⟨x,H1,I1,r1,q1⟩=>?_;refine thn (hb pins s1 σ H1 _ I1 q1) λu s2 ⟨y,H2,I2,r2,q2⟩=>?_;exact hf v u s2 x y H2 I2 r1 r2 q2
def jlr(i:Nat):TE:=λσ H Q=>∃v,σ[i]?=aa (aa v)/\Q v H
def tC(v:V):TE:=λ_ H Q=>Q v H
theorem qi {i:Nat} {x:ao} {pos:aP} (hN:X.N[i]?=aa x) (hv:Vis X.env.scope x) (hd:(x==k7k)=ae:=by decide) (hcd:(x==k7l)=ae:=by decide):PE X (.Name x pos) (jlr i):=by
 intro pins s σ H Q I h;obtain⟨v,e,h⟩:=h;obtain⟨m,hn,hl⟩:=I.loc;obtain⟨u,r,l⟩:=hl i x v hN e hv;have fin:EP X pins σ Q u s:=⟨v,H,I,r,h⟩
 rcases l with ⟨hk,hm⟩|⟨hk,c,hc,hcell⟩
 .exact jD (wpAny_loadName_local I.ok.kind hk hn hm fin) hd
 .rcases hk with hk|hk
  .exact jD (wpAny_loadName_cell I.ok.kind hk hc hcell fin) hd
  .exact jD (wpAny_loadName_free I.ok.kind hk hc hcell fin hcd) hd
theorem Kr{i j pos}:PE X (.Constant (.int i) j pos) (tC (.int i)):=λ_ _ _ H _ I h=>wpAny_Constant_int ⟨.int i,H,I.tok _,⟨_,rfl⟩,h⟩
theorem jjo{b j pos}:PE X (.Constant (.bool b) j pos) (tC (.bl b)):=λ_ _ _ H _ I h=>Constant_bool ⟨.bl b,H,I,rfl,h⟩
theorem Rh{x j pos}:PE X (.Constant (.str x) j pos) (tC (.str x)):=λ_ _ _ H _ I h=>Calls.Constant_str ⟨.str x,H,I.tok _,⟨_,rfl⟩,h⟩
def Gl(X:Cx)(x:ao):Prop:=X.env.kindOf x=aa .globalImplicit
theorem Zr{E:k7h}{pins:k7i}{s:aq}{σ:St}{H:Hp}{x:ao}{u:aj}{pos:aP}{Q:k7h}(I:Inv X pins σ H s)(hg:Gl X x)(hm:X.mg x=aa u)(h:Q u s)
  (hd:(x==k7k)=ae:=by decide):ax (aA X.prog X.w) X.A (aB (.Name x pos) X.env) Q E s :=
 fO I.ok.kind hg (Calls.loadGlobal_global (by rw[I.ok.glob];exact I.mod.glob.keeps I.bk) hm h) hd
theorem J7{E:k7h}{pins:k7i}{s:aq}{σ:St}{H:Hp}{x:ao}{u:aj}{pos:aP}{Q:k7h}(I:Inv X pins σ H s)(hg:Gl X x)(hm:X.mg x=ah)(hv:bg x=aa u)(h:Q u s)
  (hn:x ≠ "__name__":=by decide) (hd:(x==k7k)=ae:=by decide):ax (aA X.prog X.w) X.A (aB (.Name x pos) X.env) Q E s:=by
 obtain⟨mb,h1,h2⟩:=I.mod.blt;exact fO I.ok.kind hg (Calls.loadGlobal_builtin (by rw[I.ok.glob];exact I.mod.glob.keeps I.bk) hm (by rw[I.ok.blt];exact h1.keeps I.bk) ((h2 x hn).trans hv) h) hd
theorem jc3 {x:ao} {v:V} {u:aj} {pos:aP} (hg:Gl X x) (hm:X.mg x=aa u) (r:RelV v u) (hd:(x==k7k)=ae:=by decide):PE X (.Name x pos) (tC v) :=
 λ_ _ _ H _ I h=>Zr I hg hm ⟨v,H,I,r,h⟩ hd
theorem jc4 {x:ao} {v:V} {u:aj} {pos:aP} (hg:Gl X x) (hm:X.mg x=ah) (hv:bg x=aa u) (r:RelV v u) (hn:x ≠ "__name__":=by decide) (hd:(x==k7k)=ae:=by decide):PE X (.Name x pos) (tC v) :=
 λ_ _ _ H _ I h=>J7 I hg hm hv ⟨v,H,I,r,h⟩ hn hd
variable{a b:ar}{ta tb:TE}{pos:aP}
def PC(X:Cx)(op:gn)(a b:ar)(t:TE):Prop :=
 ∀(pins:k7i) (s:aq) (σ:St) (H:Hp) (Q:VK),Inv X pins σ H s->t σ H Q ->
  ax (aA X.prog X.w) X.A (aB a X.env) (λv s₁=>ax (aA X.prog X.w) X.A (aB b X.env) (λu s₂=>ax (aA X.prog X.w) X.A (bj op v u) (EP X pins σ Q) X.xe s₂) X.xe s₁) X.xe s
theorem Oh(b:ar){op:gn}(h:op≠.In)(h2:op≠.NotIn):aO op b=ae:=by
 have e1:(op==CmpOp.In)=ae:=by cases op<;>first|rfl|exact absurd rfl h
 have e2:(op==CmpOp.NotIn)=ae:=by cases op<;>first|rfl|exact absurd rfl h2
 cases b<;>simp[aO,e1,e2]
def jly(ta:TE):TE:=λσ H Q=>ta σ H λx H1=>Q (.bl (decide (x=.non))) H1
theorem RelV.none_iff{x:V}{v:aj}(r:RelV x v):(v==b7)=decide (x=.non):=by
 cases x with
 |non=>cases r;rfl
 |bl _=>cases r;rfl
 |int _=>obtain⟨t,rfl⟩:=r;rfl
 |str _=>obtain⟨t,rfl⟩:=r;rfl
 |byt _=>obtain⟨t,rfl⟩:=r;rfl
 |flt _=>obtain⟨t,rfl⟩:=r;rfl
 |ref _=>cases r;rfl
 |ty _=>cases r;rfl
theorem j4g{j pos'}(ha:PE X a ta):PC X .Is a (.Constant .none j pos') (jly ta):=by intro pins s σ H Q I h;refine thn (ha pins s σ H _ I h) λv s1 ⟨x,H1,I1,r1,q1⟩=>?_;exact Constant_none (is_none_gen ⟨.bl _,H1,I1,by rw[r1.none_iff];rfl,q1⟩)
def tB(t:TE):TT:=λσ H Q=>t σ H λx H1=>∃c,x=.bl c/\Q c H1
theorem jfl{op:gn}{t:TE}(h:PC X op a b t)(h1:aO op b=ae:=by first|exact Oh _ (by decide) (by decide)|rfl):PE X (.Compare a [op] [b] pos) t:=λpins s σ H Q I hw=>lD (h pins s σ H Q I hw) h1
theorem jfd{op:gn}{t:TE}(h:PC X op a b t)(h1:aO op b=ae:=by first|exact Oh _ (by decide) (by decide)|rfl):PT X (.Compare a [op] [b] pos) (tB t):=by intro pins s σ H Q I hw;refine iL (thn (h pins s σ H _ I hw) λv s1 h1=>thn h1 λu s2 h2=>thn h2 λc s3 ⟨x,H1,I1,r1,q1⟩=>?_) h1;obtain⟨d,rfl,q⟩:=q1;cases r1;exact bK ⟨H1,I1,q⟩
theorem j48{e:ar}{t:TE}(h:PE X e t)(he:∀whole,eN e X.env whole=(do let v <-whole;fP e.pos;dP [v] (jF v)):=by intro _;rfl):PT X e (tB t):=by intro pins s σ H Q I hw;refine isTrue_plain (thn (h pins s σ H _ I hw) λv s1 ⟨x,H1,I1,r1,q1⟩=>?_) (he _);obtain⟨d,rfl,q⟩:=q1;cases r1;exact bK ⟨H1,I1,q⟩
variable{tA tB':TT}{rest:List ar}
def jm3(t u:TT):TT:=λσ H Q=>t σ H λc H1=>if c=af then u σ H1 Q else Q ae H1
def tOr(t u:TT):TT:=λσ H Q=>t σ H λc H1=>if c=af then Q af H1 else u σ H1 Q
def jlw(t:TT):TT:=λσ H Q=>t σ H λc H1=>Q (!c) H1
theorem jby(ha:PT X a tA):PW X (.BoolOp .And [a] pos) tA:=by
 intro wh pins s σ H Q I h;refine isTrue_and (thn (ha pins s σ H Q I h) λc s1 e=>?_);cases c with
 |true=>exact isTrue_and_nil e
 |false=>exact e
theorem jfb(ha:PT X a tA):PW X (.BoolOp .Or [a] pos) tA:=by
 intro wh pins s σ H Q I h;refine isTrue_or (thn (ha pins s σ H Q I h) λc s1 e=>?_);cases c with
 |false=>exact isTrue_or_nil e
 |true=>exact e
theorem jfc(ha:PT X a tA)(hb:PW X (.BoolOp .And (b::rest) pos) tB'):PW X (.BoolOp .And (a::b::rest) pos) (jm3 tA tB'):=by
 intro wh pins s σ H Q I h;refine isTrue_and (thn (ha pins s σ H _ I h) λc s1 ⟨H1,I1,q1⟩=>?_);cases c with
 |true=>exact hb wh pins s1 σ H1 Q I1 q1
 |false=>exact⟨H1,I1,q1⟩
theorem jjm(ha:PT X a tA)(hb:PW X (.BoolOp .Or (b::rest) pos) tB'):PW X (.BoolOp .Or (a::b::rest) pos) (tOr tA tB'):=by
 intro wh pins s σ H Q I h;refine isTrue_or (thn (ha pins s σ H _ I h) λc s1 ⟨H1,I1,q1⟩=>?_);cases c with
 |true=>exact⟨H1,I1,q1⟩
 |false=>exact hb wh pins s1 σ H1 Q I1 q1
theorem j49(ha:PT X a tA):PT X (.UnaryOp .Not a pos) (jlw tA):=by intro pins s σ H Q I h;exact isTrue_not (ha pins s σ H (λc H1=>Q (!c) H1) I h)
def jj5(ta tb:TE):TE:=λσ H Q=>ta σ H λx H1=>∃c,x=.bl c/\if c=af then tb σ H1 Q else Q (.bl ae) H1
def jlv(ta tb:TE):TE:=λσ H Q=>ta σ H λx H1=>∃c,x=.bl c/\if c=af then Q (.bl af) H1 else tb σ H1 Q
theorem j4f{op}{t:TE}(h:PE X a t):PE X (.BoolOp op [a] pos) t:=λpins s σ H Q I hw=>BoolOp_one (h pins s σ H Q I hw)
theorem jfn(ha:PE X a ta)(hb:PE X (.BoolOp .And (b::rest) pos) tb):PE X (.BoolOp .And (a::b::rest) pos) (jj5 ta tb):=by
 intro pins s σ H Q I h;refine BoolOp_and (thn (ha pins s σ H _ I h) λv s1 ⟨x,H1,I1,r1,q1⟩=>?_);obtain⟨c,rfl,q1⟩:=q1;cases r1;refine bK ?_;cases c with
 |true=>exact hb pins s1 σ H1 Q I1 q1
 |false=>exact⟨.bl ae,H1,I1,rfl,q1⟩
theorem jjn(ha:PE X a ta)(hb:PE X (.BoolOp .Or (b::rest) pos) tb):PE X (.BoolOp .Or (a::b::rest) pos) (jlv ta tb):=by
 intro pins s σ H Q I h;refine BoolOp_or (thn (ha pins s σ H _ I h) λv s1 ⟨x,H1,I1,r1,q1⟩=>?_);obtain⟨c,rfl,q1⟩:=q1;cases r1;refine bK ?_;cases c with
 |false=>exact hb pins s1 σ H1 Q I1 q1
 |true=>exact⟨.bl af,H1,I1,rfl,q1⟩
def tIf(t:TT)(ta tb:TE):TE:=λσ H Q=>t σ H λc H1=>if c=af then ta σ H1 Q else tb σ H1 Q
theorem Ks{c:ar}(hc:PT X c tA)(ha:PE X a ta)(hb:PE X b tb):PE X (.IfExp c a b pos) (tIf tA ta tb):=by
 intro pins s σ H Q I h;refine wpAny_IfExp (thn (hc pins s σ H _ I h) λd s1 ⟨H1,I1,q1⟩=>?_);cases d with
 |true=>exact ha pins s1 σ H1 Q I1 q1
 |false=>exact hb pins s1 σ H1 Q I1 q1
end
def SqL(K:k7g)(H:Hp)(a:ak)(xs:List V):Prop :=
 Rd H a (.lst xs) \/
  ∃(o:dm)(its:Array aj)(n:Nat),K.lookup a=aa o/\o.cls=.type "list"/\o.dict=ah/\o.data=.seq its n/\its.size<=au/\Vals xs its.toList
def SqT(K:k7g)(H:Hp)(a:ak)(xs:List V):Prop :=
 Rd H a (.tup xs) \/
  ∃(o:dm)(its:Array aj)(n:Nat),K.lookup a=aa o/\o.cls=.type "tuple"/\o.dict=ah/\o.data=.seq its n/\its.size<=au/\Vals xs its.toList
noncomputable def jn2:aj->Option V
 |.none=>aa .non
 |.bool b=>aa (.bl b)
 |.int i _=>aa (.int i)
 |.str x _=>aa (.str x)
 |.bytes b _=>aa (.byt b)
 |.float b _=>aa (.flt b)
 |.ref a=>aa (.ref a)
 |.type n=>aa (.ty n)
 |_=>ah
theorem RelV.abs{x:V}{u:aj}(r:RelV x u):jn2 u=aa x:=by
 cases x with
 |non=>cases r;rfl
 |bl _=>cases r;rfl
 |int _=>obtain⟨t,rfl⟩:=r;rfl
 |str _=>obtain⟨t,rfl⟩:=r;rfl
 |byt _=>obtain⟨t,rfl⟩:=r;rfl
 |flt _=>obtain⟨t,rfl⟩:=r;rfl
 |ref _=>cases r;rfl
 |ty _=>cases r;rfl
theorem RelV.inj{x y:V}{u:aj}(r:RelV x u)(q:RelV y u):x=y:=aC (r.abs.symm.trans q.abs)
theorem Vals.inj:∀{xs ys:List V}{us:List aj},Vals xs us->Vals ys us->xs=ys
 |_,_,_,.nil,.nil=>rfl
 |_,_,_,.cons r t,.cons r' t'=>by rw[r.inj r',Vals.inj t t']
section
variable{X:Cx}{pins:k7i}{σ:St}{H:Hp}{s:aq}{a:ak}{xs ys:List V}
theorem SqL.of{K:k7g}(h:H a=aa (.lst xs)):SqL K H a xs:=.inl (.inl h)
theorem Inv.list(I:Inv X pins σ H s)(h:SqL X.K H a xs):∃its:List aj,Vals xs its/\PlainL s.heap a its.toArray/\xs.length<=au:=by
 rcases h with h|⟨o,its,n,hk,hc,hd,hs,hz,r⟩
 .obtain⟨z,its,n,r,e⟩:=h.ok I.hok;exact⟨its,r,⟨_,n,e,rfl,rfl,rfl⟩,z⟩
 .refine⟨its.toList,r,⟨o,n,I.kIn a o hk,hc,hd,by simpa using hs⟩,?_⟩;have e:=r.length;simp only[cW]at e;omega
theorem Inv.tuple(I:Inv X pins σ H s)(h:SqT X.K H a xs):∃its:List aj,Vals xs its/\ij s.heap a its.toArray/\xs.length<=au:=by
 rcases h with h|⟨o,its,n,hk,hc,hnd,hs,hz,r⟩
 .obtain⟨z,its,r,p,_⟩:=h.ok I.hok;exact⟨its,r,p,z⟩
 .refine⟨its.toList,r,⟨o,I.kIn a o hk,hc,n,by simpa using hs⟩,?_⟩;have e:=r.length;simp only[cW]at e;omega
theorem Inv.tupD(I:Inv X pins σ H s)(h:SqT X.K H a xs):Zj s.heap a:=by
 rcases h with h|⟨o,its,n,hk,hc,hnd,hs,hz,r⟩
 .obtain⟨z,its,r,p,q⟩:=h.ok I.hok;exact q
 .intro o' e;rw[I.kIn a o hk]at e;cases e;exact hnd
theorem Inv.list_inj(I:Inv X pins σ H s)(h:SqL X.K H a xs)(h':SqL X.K H a ys):xs=ys:=by
 obtain⟨its,r,⟨o,n,e,_,_,d⟩,_⟩:=I.list h;obtain⟨its',r',⟨o',n',e',_,_,d'⟩,_⟩:=I.list h';rw[e]at e';cases e';rw[d]at d';injection d' with d1 _;have:its=its':=by simpa using congrArg jK d1
 subst this;exact r.inj r'
theorem Inv.tuple_inj(I:Inv X pins σ H s)(h:SqT X.K H a xs)(h':SqT X.K H a ys):xs=ys:=by
 obtain⟨its,r,⟨o,e,_,n,d⟩,_⟩:=I.tuple h;obtain⟨its',r',⟨o',e',_,n',d'⟩,_⟩:=I.tuple h';rw[e]at e';cases e';rw[d]at d';injection d' with d1 _;have:its=its':=by simpa using congrArg jK d1
 subst this;exact r.inj r'
end
noncomputable abbrev Cx.wish(X:Cx)(E:k7h):Cx:={ X with xe:=E }
noncomputable abbrev Cx.nox(X:Cx):Cx:=X.wish λ_ _=>False
theorem Cx.Ok.wish{X:Cx}(ok:X.Ok)(E:k7h):(X.wish E).Ok :=
 ⟨ok.mod,ok.kind,ok.glob,ok.blt,ok.above,ok.inj,ok.has,ok.cab,ok.hd,ok.frames,ok.stk,ok.exf,ok.bs,ok.bsz,ok.noex,ok.exfs,ok.funs,ok.frf⟩
theorem Cx.Ok.unwish{X:Cx}{E:k7h}(ok:(X.wish E).Ok):X.Ok :=
 ⟨ok.mod,ok.kind,ok.glob,ok.blt,ok.above,ok.inj,ok.has,ok.cab,ok.hd,ok.frames,ok.stk,ok.exf,ok.bs,ok.bsz,ok.noex,ok.exfs,ok.funs,ok.frf⟩
section
variable{X:Cx}{pins:k7i}{σ:St}{H:Hp}{s:aq}{E:k7h}
theorem Inv.wish(I:Inv X pins σ H s)(E:k7h):Inv (X.wish E) pins σ H s:=⟨I.ok.wish E,I.os,I.bare,I.base,I.loc,I.cell,I.free,I.freeC,I.pin,I.hok,I.len⟩
theorem Inv.unwish(I:Inv (X.wish E) pins σ H s):Inv X pins σ H s:=⟨I.ok.unwish,I.os,I.bare,I.base,I.loc,I.cell,I.free,I.freeC,I.pin,I.hok,I.len⟩
theorem SP.unwish{D:Ends}{f:Flow}{s':aq}(h:SP (X.wish E) pins D f s'):SP X pins D f s':=by
 cases f with
 |next=>obtain⟨σ',H',I,q⟩:=h;exact⟨σ',H',I.unwish,q⟩
 |brk=>obtain⟨σ',H',I,q⟩:=h;exact⟨σ',H',I.unwish,q⟩
 |cont=>obtain⟨σ',H',I,q⟩:=h;exact⟨σ',H',I.unwish,q⟩
 |ret u=>obtain⟨v,σ',H',H2,I,r,x,q⟩:=h;exact⟨v,σ',H',H2,I.unwish,r,x,q⟩
theorem PSs.nox{st:List aQ}{t:TS}(h:PSs X.nox st t):PSs X st t:=λpins s σ H D I hw =>bR (h pins s σ H D (I.wish _) hw) (λ_ _ q=>q.unwish) λ_ _ z=>aS z
end
section
variable{X:Cx}{st:aQ}{rest:List aQ}{t u:TS}{e:ar}{te:TE}{pos:aP}
def jiz:TS:=λD σ H=>D.nx σ H
def jlt(t u:TS):TS:=λD σ H=>t { D with nx:=u D } σ H
theorem Uh:PSs X [] jiz:=λ_ _ σ H _ I h=>eO ⟨σ,H,I,h⟩
theorem qp(h1:PS X st t)(h2:PSs X rest u):PSs X (st::rest) (jlt t u):=by
 intro pins s σ H D I h;refine ko (thn (h1 pins s σ H { D with nx:=u D } I h) λf s1 q=>?_);cases f with
 |next =>obtain⟨σ',H',I',q⟩:=q;exact h2 pins s1 σ' H' D I' q
 |ret v=>exact q
 |brk=>exact q
 |cont=>exact q
theorem Ug(h1:PS X st t):PSs X [st] t:=by
 intro pins s σ H D I h;refine ko (thn (h1 pins s σ H D I h) λf s1 q=>?_);cases f with
 |next=>exact eO q
 |ret v=>exact q
 |brk=>exact q
 |cont=>exact q
theorem Inv.quiet{pins:k7i}{σ:St}{H:Hp}{s:aq}(I:Inv X pins σ H s):interactive X.env=ae:=by simp[interactive,I.ok.kind]
def jj2(te:TE):TS:=λD σ H=>te σ H λ_ H1=>D.nx σ H1
theorem Z5(he:PE X e te)(hs:aN e ah pos.line X.env=pure ae:=by rfl):PS X (.Expr e pos) (jj2 te):=by intro pins s σ H D I h;exact wpAny_Expr_any (thn (he pins s σ H _ I h) λv s1 ⟨x,H1,I1,r1,q1⟩=>⟨σ,H1,I1,q1⟩) I.quiet hs
def jlu(te:TE):TS:=λD σ H=>te σ H D.rt
theorem Qs(he:PE X e te):PS X (.Return (aa e) pos) (jlu te):=by intro pins s σ H D I h;exact wpAny_Return_some (thn (he pins s σ H _ I h) λv s1 ⟨x,H1,I1,r1,q1⟩=>⟨x,σ,H1,H1,I1,r1,.refl,q1⟩)
def jlz(c:TT)(t u:TS):TS:=λD σ H=>c σ H λb H1=>if b=af then t D σ H1 else u D σ H1
theorem Lp{c:ar}{a b:List aQ}{tc:TT}(hc:PT X c tc)(ha:PSs X a t)(hb:PSs X b u):PS X (.If c a b pos) (jlz tc t u):=by
 intro pins s σ H D I h;refine wpAny_If (thn (hc pins s σ H _ I h) λd s1 ⟨H1,I1,q1⟩=>?_);cases d with
 |true=>exact ha pins s1 σ H1 D I1 q1
 |false=>exact hb pins s1 σ H1 D I1 q1
end
abbrev TG:=V->St->Hp->(St->Hp->Prop)->Prop
abbrev TGs:=List V->St->Hp->(St->Hp->Prop)->Prop
def PG(X:Cx)(target:ar)(t:TG):Prop :=
 ∀(pins:k7i) (s:aq) (σ:St) (H:Hp) (v:V) (u:aj) (Q:St->Hp->Prop),Inv X pins σ H s->RelV v u->t v σ H Q ->
  ax (aA X.prog X.w) X.A (dX target X.env u) (λ_ s'=>∃σ' H',Inv X pins σ' H' s'/\Q σ' H') X.xe s
def PGs(X:Cx)(ts:List ar)(t:TGs):Prop :=
 ∀(pins:k7i) (s:aq) (σ:St) (H:Hp) (vs:List V) (us:List aj) (Q:St->Hp->Prop),Inv X pins σ H s->Vals vs us->t vs σ H Q ->
  ax (aA X.prog X.w) X.A (lN ((bb ts X.env).map (·.2)) us) (λ_ s'=>∃σ' H',Inv X pins σ' H' s'/\Q σ' H') X.xe s
section
variable{X:Cx}{pos:aP}
def jai(i:Nat):TG:=λv σ H Q=>Q (σ.set i (aa v)) H
theorem Vx{i:Nat}{x:ao}(hN:X.N.Nodup)(hi:X.N[i]?=aa x)(hx:Loc X.env.scope x)(hf:X.fn x=af\/X.env.scope.names.lookup x=aa .local:=by first|exact .inl rfl|exact .inr rfl|assumption):PG X (.Name x pos) (jai i):=by intro pins s σ H v u Q I r h;exact jR (Ka I hN hi hx r (λs' I'=>⟨_,H,I',h⟩) hf)
def jmt:TGs:=λvs σ H Q=>vs=[]/\Q σ H
def jkr(t:TG)(u:TGs):TGs:=λvs σ H Q=>∃v r,vs=v::r/\t v σ H λσ' H'=>u r σ' H' Q
theorem j0u:PGs X [] jmt:=by intro pins s σ H vs us Q I r h;obtain⟨e,h⟩:=h;subst e;cases r;exact assignInOrder_nil ⟨σ,H,I,h⟩
theorem Yd{e:ar}{es:List ar}{t:TG}{u:TGs}(h1:PG X e t)(h2:PGs X es u)
  (hs:(bb (e::es) X.env).map (·.2)=dX e X.env::(bb es X.env).map (·.2):=by rfl):PGs X (e::es) (jkr t u):=by
 intro pins s σ H vs us Q I r h;obtain⟨v,vr,e1,h⟩:=h;subst e1;cases r with
 |cons r rr =>rw[hs];refine assignInOrder_cons (thn (h1 pins s σ H _ _ _ I r h) λ_ s1 ⟨σ1,H1,I1,q1⟩=>?_);exact h2 pins s1 σ1 H1 _ _ Q I1 rr q1
def jms(K:k7g)(n:Nat)(t:TGs):TG:=λv σ H Q=>∃a xs,v=.ref a/\SqT K H a xs/\xs.length=n/\t xs σ H Q
theorem jfi{es:List ar}{k:Nat}{t:TGs}{n:Nat}(hc:X.calm=af)(h:PGs X es t)
  (hn:(bb es X.env).length=n:=by rfl) (hst:(bb es X.env).findIdx? (·.1)=ah:=by rfl):PG X (.Tuple es k pos) (jms X.K n t):=by
 intro pins s σ H v u Q I r hw;obtain⟨a,xs,e1,hq,hl,hw⟩:=hw;subst e1;cases r;obtain⟨its,rv,ht,hz⟩:=I.tuple hq;refine assign_Tuple_tuple (I.ok.hd hc) ht (by simp[hn,<-hl,rv.length]) hst λh' hx=>?_;have I1:Inv X pins σ H { s with heap:=h' }:=I.kept (t':=s.toks) λb o e=>hx b o (X8 (xq e)) e;exact h pins _ σ H xs _ Q I1 (by simpa using rv) hw
def jej(te:TE)(g:TG):TS:=λD σ H=>te σ H λx H1=>g x σ H1 D.nx
theorem jff{tg e:ar}{te:TE}{g:TG}(he:PE X e te)(hg:PG X tg g)(hs:hZ [tg] e pos.line X.env=pure ae:=by rfl)(hw:i0 [tg] e X.env=pure ah:=by rfl)
  (h1:(bb [tg] X.env).map (·.2)=[dX tg X.env]:=by rfl):PS X (.Assign [tg] e pos) (jej te g):=by
 intro pins s σ H D I h;refine wpAny_Assign_stores (thn (he pins s σ H _ I h) λv s1 ⟨x,H1,I1,r1,q1⟩=>?_) hs hw;rw[h1];exact thn (hg pins s1 σ H1 x v _ I1 r1 q1) λ_ s2 q=>q
theorem Qq{i:Nat}{x:ao}{e:ar}{te:TE}{pos':aP}(hN:X.N.Nodup)(hi:X.N[i]?=aa x)(hx:Loc X.env.scope x)(he:PE X e te)(hs:aN e (aa (.Name x pos')) pos.line X.env=pure ae:=by rfl)(hf:X.fn x=af\/X.env.scope.names.lookup x=aa .local:=by first|exact .inl rfl|exact .inr rfl|assumption) :
  PS X (.Assign [.Name x pos'] e pos) (jej te (jai i)):=by
 intro pins s σ H D I h;refine wpAny_Assign_Name (thn (he pins s σ H _ I h) λv s1 ⟨y,H1,I1,r1,q1⟩=>?_) hs;exact Ka I1 hN hi hx r1 (λs2 I2=>⟨_,H1,I2,q1⟩) hf
end
section
variable{X:Cx}{pos:aP}
def jeh(c:TT)(tb:TS):TS:=λD σ H=>∃W:Nat->St->Hp->Prop,(∃m,W m σ H)/\∀m σ H,W m σ H ->
 c σ H λb H1=>if b=af then ∃N:St->Hp->Prop,(∀σ' H',N σ' H'->∃m',m'<m/\W m' σ' H')/\tb { D with nx:=N,ct:=N,bk:=D.nx } σ H1 else D.nx σ H1
theorem Ko{c:ar}{body:List aQ}{tc:TT}{tb:TS}(hp:eF (aA X.prog X.w) X.A X.env X.xe)(hc:PT X c tc)(hb:PSs X body tb):PS X (.While c body [] pos) (jeh tc tb):=by
 intro pins s σ H D I h;obtain⟨W,⟨m0,w0⟩,turn⟩:=h;refine wpAny_While (codeAny_whileLoop (λn s'=>∃σ' H',Inv X pins σ' H' s'/\W n σ' H') ?_ m0 ⟨σ,H,I,w0⟩);rintro n s1 ⟨σ1,H1,I1,w1⟩;refine cf hp (thn (hc pins s1 σ1 H1 _ I1 (turn n σ1 H1 w1)) λb s2 ⟨H2,I2,q2⟩=>?_);cases b with
 |true =>
  obtain⟨N,hN,q2⟩:=q2;rw[if_pos rfl];refine cf hp (thn (hb pins s2 σ1 H2 _ I2 q2) λf s3 q3=>?_);cases f with
  |next =>obtain⟨σ3,H3,I3,n3⟩:=q3;obtain⟨m',hm,w3⟩:=hN σ3 H3 n3;exact⟨m',hm,σ3,H3,I3,w3⟩
  |cont =>obtain⟨σ3,H3,I3,n3⟩:=q3;obtain⟨m',hm,w3⟩:=hN σ3 H3 n3;exact⟨m',hm,σ3,H3,I3,w3⟩
  |brk=>exact q3
  |ret v=>exact q3
 |false =>rw[if_neg xj];exact eO ⟨σ1,H2,I2,q2⟩
end
structure It where
 go:Nat->Hp->Prop
 yld:Nat->Hp->V->Hp->Prop
 stop:Nat->Hp->Prop
def Qp(X:Cx)(pins:k7i)(H:Hp)(b:ak):Prop :=
 H b=ah/\b≠X.env.locals/\b∉X.fs/\(b∈X.ex\/X.s₀.heap.objs.size<=b)/\(∀x c,X.env.cells.lookup x=aa c->c≠b)/\∀p∈X.pn++pins,p.1≠b
theorem Inv.fpOk{X:Cx}{pins:k7i}{σ:St}{H H':Hp}{s:aq}{b:ak}(I:Inv X pins σ H s)(hb:s.heap.objs.size<=b)(hn:H' b=ah):Qp X pins H' b:=by
 refine⟨hn,Pg (Xn I.lt hb),I.nofs hb,.inr (Xf I.sz hb),λx c e z=>?_,λp hp z=>?_⟩
 .obtain⟨v,q⟩:=I.cell x c e;exact absurd (Xn q.lt (by rw[z];exact hb)) (Pj _)
 .exact absurd (Xn (xq (I.pin p hp).1) (by rw[z];exact hb)) (Pj _)
structure Turn(P:ay)(w:aD)(K:k7g)(tg:ar)(J:It)(fp:List ak)(it:ak)(tn:Nat->aH->Prop):Prop where
 mem:it∈fp
 obj:∀i h,tn i h->∀b∈fp,∃o,h.get? b=aa o/\∀v,o.data≠.cell v
 keep:∀i h h',tn i h->(∀b∈fp,∀o,h.get? b=aa o->h'.get? b=aa o)->tn i h'
 item:∀(X:Cx),X.prog=P->X.w=w->X.K=K->X.calm=af->∀(i:Nat)(pins:k7i) (s:aq) (σ:St) (H:Hp) (E:k7h),Inv X pins σ H s->(∀b∈fp,Qp X pins H b)->tn i s.heap->J.go i H ->
  ax (aA P w) X.A (dj (.ref it)) (λr s1=>∃u,r=aa u /\
   ax (aA P w) X.A (eP tg (.ref it) u) (λ_ s2=>∃x H',Inv X pins σ H' s2/\RelV x u/\J.yld i H x H'/\tn (i+1) s2.heap/\∀b∈fp,H' b=ah) E s1) E s
 done:∀(X:Cx),X.prog=P->X.w=w->X.K=K->X.calm=af->∀(i:Nat)(pins:k7i) (s:aq) (σ:St) (H:Hp) (E:k7h),Inv X pins σ H s->(∀b∈fp,Qp X pins H b)->tn i s.heap->J.stop i H ->
  ax (aA P w) X.A (dj (.ref it)) (λr s1=>r=ah/\Inv X pins σ H s1) E s
 self:∀(A:aG)(i:Nat)(s:aq)(Q:k7h)(E:k7h),tn i s.heap->Q (.ref it) s->ax (aA P w) A (iC (.ref it)) Q E s
abbrev TI:=St->Hp->(It->Hp->Prop)->Prop
def PIE(X:Cx)(pins:k7i)(σ:St)(tg:ar)(R:It->Hp->Prop)(itv:aj)(s2:aq):Prop :=
 ∃(it:ak)(fp:List ak)(tn:Nat->aH->Prop)(J:It)(H':Hp),itv=.ref it/\Inv X pins σ H' s2/\Turn X.prog X.w X.K tg J fp it tn/\tn 0 s2.heap/\(∀b∈fp,Qp X pins H' b)/\R J H'
def PI(X:Cx)(tg iter:ar)(wi:TI):Prop :=
 ∀(pins:k7i) (s:aq) (σ:St) (H:Hp) (R:It->Hp->Prop),Inv X pins σ H s->wi σ H R ->
  ax (aA X.prog X.w) X.A (aB iter X.env) (λv s1=>ax (aA X.prog X.w) X.A (iC v) (PIE X pins σ tg R) X.xe s1) X.xe s
theorem Lw{M:iU}{A:aG}{E:k7h}{s:aq}{tg:ar}{it:ak}{u:aj}{o:dm}{n:String}{vs:Array aj}{Q:Unit->aq->Prop}(ho:s.heap.get? it=aa o)(hc:o.cls=.type n)(hd:o.data=.fields vs)
  (hn:["enumerate","zip","dict_itemiterator","dict_reverseitemiterator","odict_iterator","itertools.zip_longest","itertools.pairwise"].contains n=ae) (hQ:Q () s):ax M A (eP tg (.ref it) u) Q E s:=by
 unfold eP;cases tg<;>first
  |exact av hQ
  |(cases u<;>first
    |exact av hQ
    |(refine ag (wpAny_load ho ?_);rw[hc,hd];show ax M A (if (["enumerate","zip","dict_itemiterator","dict_reverseitemiterator","odict_iterator","itertools.zip_longest","itertools.pairwise"].contains n&&vs[0]?==aa (eW _))=af then _ else _) Q E s;rw[if_neg (by intro h;rw[hn,Bool.false_and]at h;cases h)];exact av hQ))
noncomputable def Itl(K:k7g)(a:ak):It :=
 ⟨λi H=>∃xs x,SqL K H a xs/\xs[i]?=aa x,λi H x H'=>H'=H/\∀xs,SqL K H a xs->xs[i]?=aa x,λi H=>∃xs,SqL K H a xs/\xs.length<=i⟩
noncomputable def Itt(K:k7g)(a:ak):It :=
 ⟨λi H=>∃xs x,SqT K H a xs/\xs[i]?=aa x,λi H x H'=>H'=H/\∀xs,SqT K H a xs->xs[i]?=aa x,λi H=>∃xs,SqT K H a xs/\xs.length<=i⟩
noncomputable def Itr(lo:Int)(n:Nat):It:=⟨λi _=>i<n,λi H x H'=>H'=H/\x=.int (lo+i),λi _=>n<=i⟩
theorem j3n{P:ay}{w:aD}{K:k7g}{tg:ar}(a it:ak):Turn P w K tg (Itl K a) [it] it (λi h=>h.IsListIter it a i) where
 mem:=by simp
 obj:=λi h st b hb=>by
  have e:b=it:=by simpa using hb
  subst e;obtain⟨o,e,c,d⟩:=st;exact⟨o,e,λv z=>by rw[d]at z;cases z⟩
 keep:=λi h h' st k=>st.at λo e=>k it (by simp) o e
 item:=by intro X hP hw hK hc i pins s σ H E I hf st hg;subst hP hw hK;obtain⟨xs,x,hq,hx⟩:=hg;obtain⟨its,rv,p,hz⟩:=I.list hq;obtain⟨u,hu,ru⟩:=rv.get hx;obtain⟨f0,f1,f2,f3,f4,f5⟩:=hf it (by simp);refine iA st p.isList (x:=u) (by simpa using hu) λh' st' sb=>?_;have I1:Inv X pins σ H { s with heap:=h' }:=I.turned (t':=s.toks) (λb o hb e=>(sb.2 b hb).trans e) f0 f1 f3 f4 f5;obtain⟨o,e,c,d⟩:=id st';exact⟨u,rfl,Lw (s:={ s with heap:=h' }) e c d (by decide) ⟨x,H,I1,ru,⟨rfl,λys hy=>by rw[I.list_inj hy hq];exact hx⟩,st',λb hb=>(hf b hb).1⟩⟩
 done:=by intro X hP hw hK hc i pins s σ H E I hf st hg;subst hP hw hK;obtain⟨xs,hq,hx⟩:=hg;obtain⟨its,rv,p,hz⟩:=I.list hq;obtain⟨f0,f1,f2,f3,f4,f5⟩:=hf it (by simp);have hl:=rv.length;exact iK (I.ok.hd hc) st p.isList (by simp;omega) λh' eb=>⟨rfl,I.turned (t':=s.toks) (λb o hb e=>eb b o hb e) f0 f1 f3 f4 f5⟩
 self:=λ_ _ _ _ _ st h=>wpAny_pyIter_listiter st h
theorem j1p{P:ay}{w:aD}{K:k7g}{tg:ar}(a it:ak):Turn P w K tg (Itt K a) [it] it (λi h=>h.IsTupleIter it a i) where
 mem:=by simp
 obj:=λi h st b hb=>by
  have e:b=it:=by simpa using hb
  subst e;obtain⟨o,e,c,d⟩:=st;exact⟨o,e,λv z=>by rw[d]at z;cases z⟩
 keep:=λi h h' st k=>st.at λo e=>k it (by simp) o e
 item:=by intro X hP hw hK hc i pins s σ H E I hf st hg;subst hP hw hK;obtain⟨xs,x,hq,hx⟩:=hg;obtain⟨its,rv,p,hz⟩:=I.tuple hq;obtain⟨u,hu,ru⟩:=rv.get hx;obtain⟨f0,f1,f2,f3,f4,f5⟩:=hf it (by simp);refine wpAny_pyNext_tuple_item st (show s.heap.IsTuple a its.toArray from p) (x:=u) (by simpa using hu) λh' st' sb=>?_;have I1:Inv X pins σ H { s with heap:=h' }:=I.turned (t':=s.toks) (λb o hb e=>(sb.2 b hb).trans e) f0 f1 f3 f4 f5;obtain⟨o,e,c,d⟩:=id st';exact⟨u,rfl,Lw (s:={ s with heap:=h' }) e c d (by decide) ⟨x,H,I1,ru,⟨rfl,λys hy=>by rw[I.tuple_inj hy hq];exact hx⟩,st',λb hb=>(hf b hb).1⟩⟩
 done:=by intro X hP hw hK hc i pins s σ H E I hf st hg;subst hP hw hK;obtain⟨xs,hq,hx⟩:=hg;obtain⟨its,rv,p,hz⟩:=I.tuple hq;obtain⟨f0,f1,f2,f3,f4,f5⟩:=hf it (by simp);have hl:=rv.length;exact wpAny_pyNext_tuple_end (I.ok.hd hc) st (show s.heap.IsTuple a its.toArray from p) (by simp;omega) λh' eb=>⟨rfl,I.turned (t':=s.toks) (λb o hb e=>eb b o hb e) f0 f1 f3 f4 f5⟩
 self:=λ_ _ _ _ _ st h=>wpAny_pyIter_tupleiter st h
theorem j1q{P:ay}{w:aD}{K:k7g}{tg:ar}(it:ak)(lo:Int)(n:Nat):Turn P w K tg (Itr lo n) [it] it (λi h=>IsRangeIter h it (lo+(i:Nat)*1) ((n:Int)-(i:Nat)) 1) where
 mem:=by simp
 obj:=λi h st b hb=>by
  have e:b=it:=by simpa using hb
  subst e;exact⟨_,st,λv z=>by
   have z':Data.fields _=Data.cell v:=z
   cases z'⟩
 keep:=λi h h' st k=>k it (by simp) _ st
 item:=by intro X hP hw hK hc i pins s σ H E I hf st hg;subst hP hw hK;obtain⟨f0,f1,f2,f3,f4,f5⟩:=hf it (by simp);have W:=Walks.range (prog:=X.prog) (w:=X.w) (I.ok.hd hc) it lo 1 n;refine W.item i s _ _ hg st λv h' tk hv st' kk=>?_;obtain⟨t,rfl⟩:=hv;have I1:Inv X pins σ H { s with heap:=h',toks:=tk }:=I.turned (λb o hb e=>kk b o (by simpa using hb) e) f0 f1 f3 f4 f5;refine⟨_,rfl,Lw (s:={ s with heap:=h',toks:=tk }) (n:="range_iterator") st' rfl rfl (by decide) ⟨.int (lo+i),H,I1,⟨t,?_⟩,⟨rfl,rfl⟩,st',λb hb=>(hf b hb).1⟩⟩;rw[lq]
 done:=by intro X hP hw hK hc i pins s σ H E I hf st hg;subst hP hw hK;obtain⟨f0,f1,f2,f3,f4,f5⟩:=hf it (by simp);exact wpAny_pyNext_range_end (I.ok.hd hc) st (by have:n<=i:=hg;omega) λh' eb=>⟨rfl,I.turned (t':=s.toks) (λb o hb e=>eb b o hb e) f0 f1 f3 f4 f5⟩
 self:=λ_ _ _ _ _ st h=>wpAny_pyIter_rangeiter st h
section
variable{X:Cx}{tg:ar}
def jkn(K:k7g)(tl:TE):TI:=λσ H R=>tl σ H λx H1=>∃a,x=.ref a/\(∃xs,SqL K H1 a xs)/\R (Itl K a) H1
def jmq(K:k7g)(tl:TE):TI:=λσ H R=>tl σ H λx H1=>∃a,x=.ref a/\(∃xs,SqT K H1 a xs)/\R (Itt K a) H1
theorem jc1{l:ar}{tl:TE}(hl:PE X l tl):PI X tg l (jkn X.K tl):=by
 intro pins s σ H R I h;refine thn (hl pins s σ H _ I h) λv s1 ⟨x,H1,I1,r1,q1⟩=>?_;obtain⟨a,e,⟨xs,hq⟩,q⟩:=q1;subst e;cases r1;obtain⟨its,rv,p,hz⟩:=I1.list hq;refine bM p.isList ?_;refine⟨s1.heap.objs.size,[s1.heap.objs.size],_,_,H1,rfl,I1.kept (t':=s1.toks) λb o e=>kj _ e,j3n a _,⟨_,xu _ rfl,rfl,rfl⟩,λb hb=>?_,q⟩;have e:b=s1.heap.objs.size:=by simpa using hb
 subst e;exact I1.fpOk (X6 _) (I1.hok.fresh (X6 _))
theorem jfh{l:ar}{tl:TE}(hl:PE X l tl):PI X tg l (jmq X.K tl):=by
 intro pins s σ H R I h;refine thn (hl pins s σ H _ I h) λv s1 ⟨x,H1,I1,r1,q1⟩=>?_;obtain⟨a,e,⟨xs,hq⟩,q⟩:=q1;subst e;cases r1;obtain⟨its,rv,p,hz⟩:=I1.tuple hq;refine fE (show s1.heap.IsTuple a its.toArray from p) ?_;refine⟨s1.heap.objs.size,[s1.heap.objs.size],_,_,H1,rfl,I1.kept (t':=s1.toks) λb o e=>kj _ e,j1p a _,⟨_,xu _ rfl,rfl,rfl⟩,λb hb=>?_,q⟩;have e:b=s1.heap.objs.size:=by simpa using hb
 subst e;exact I1.fpOk (X6 _) (I1.hok.fresh (X6 _))
theorem Km{pins:k7i}{σ:St}{H:Hp}{s:aq}{R:It->Hp->Prop}{E:k7h}{lo hi:Int}{t u v:dz}{tk:Nat}(I:Inv X pins σ H s)(h1:-(2^62)<=lo)(h2:lo<2^62)(h3:-(2^62)<=hi)(h4:hi<2^62)
  (q:R (Itr lo (hi-lo).toNat) H):ax (aA X.prog X.w) X.A (iC (.ref s.heap.objs.size)) (PIE X pins σ tg R) E { s with heap:=s.heap.push { cls:=.type "range",data:=.fields #[.int lo t,.int hi u,.int 1 v] },toks:=tk }:=by
 refine wpAny_pyIter_range (IsRange.new ..) (small_one h1 h2 h3 h4) ?_;have I1:Inv X pins σ H { s with heap:=s.heap.push { cls:=.type "range",data:=.fields #[.int lo t,.int hi u,.int 1 v] },toks:=tk }:=I.kept λb o e=>kj _ e;refine⟨(s.heap.push { cls:=.type "range",data:=.fields #[.int lo t,.int hi u,.int 1 v] }).objs.size,[(s.heap.push { cls:=.type "range",data:=.fields #[.int lo t,.int hi u,.int 1 v] }).objs.size],_,_,H,rfl,
  I1.kept (t':=tk) λb o e=>kj _ e,j1q _ lo (hi-lo).toNat,?_,λb hb=>?_,q⟩
 .have e1:lo+((0:Nat):Int)*1=lo:=by simp
  have e2:(((hi-lo).toNat:Nat):Int)-((0:Nat):Int)=Builtin.Range.rangeSize lo hi 1:=by rw[rangeSize_one];split<;>omega
  show IsRangeIter _ _ (lo+((0:Nat):Int)*1) ((((hi-lo).toNat:Nat):Int)-((0:Nat):Int)) 1;rw[e1,e2];exact xu _ rfl
 .have e:b=(s.heap.push { cls:=.type "range",data:=.fields #[.int lo t,.int hi u,.int 1 v] }).objs.size:=by simpa using hb
  subst e;exact I1.fpOk (X6 _) (I1.hok.fresh (X6 _))
def jkm(ta:TA):TI:=λσ H R=>ta σ H λvs H1=>∃j:Int,vs=[.int j]/\-(2^62)<=j/\j<2^62/\R (Itr 0 j.toNat) H1
def jkl(ta:TA):TI:=λσ H R=>ta σ H λvs H1=>∃i j:Int,vs=[.int i,.int j]/\(-(2^62)<=i/\i<2^62/\-(2^62)<=j/\j<2^62)/\R (Itr i (j-i).toNat) H1
theorem j4d {a:ar} {ta:TA} {p pos:aP} (hg:Gl X "range") (hm:X.mg "range" = ah) (ha:PA X [a] ta) (hs:ai [a] X.env=[(ae,aB a X.env)]:=by rfl):PI X tg (.Call (.Name "range" p) [a] [] pos) (jkm ta):=by
 intro pins s σ H R I h;refine ik (J7 I hg hm boot_range (callWith_type1 (thn (ha pos pins s σ H _ I h) λus s1 ⟨vs,H1,I1,r1,q1⟩=>?_) hs rfl));obtain⟨j,e,q1,q2,q⟩:=q1;subst e;cases r1 with
 |cons r rr =>cases rr;obtain⟨t,rfl⟩:=r;exact call_range_1 (Km I1 nofun nofun q1 q2 (by simpa using q))
theorem j4c {a b:ar} {ta:TA} {p pos:aP} (hg:Gl X "range") (hm:X.mg "range" = ah) (ha:PA X [a,b] ta) (hs:ai [a,b] X.env=[(ae,aB a X.env),(ae,aB b X.env)]:=by rfl) (hs2:ai [b] X.env=[(ae,aB b X.env)]:=by rfl) :
  PI X tg (.Call (.Name "range" p) [a,b] [] pos) (jkl ta):=by
 intro pins s σ H R I h;refine ik (J7 I hg hm boot_range (callWith_type1 (thn (ha pos pins s σ H _ I h) λus s1 ⟨vs,H1,I1,r1,q1⟩=>?_) (by rw[hs,hs2]) (by rw[hs2];rfl)));obtain⟨i,j,e,⟨q1,q2,q3,q4⟩,q⟩:=q1;subst e;cases r1 with
 |cons r rr =>
  cases rr with
  |cons r' rr =>cases rr;obtain⟨t,rfl⟩:=r;obtain⟨t',rfl⟩:=r';exact call_range_2 (Km I1 q1 q2 q3 q4 q)
def jm0(wi:TI)(g:TG)(tb:TS):TS:=λD σ H=>wi σ H λJ H1=>∃W:Nat->Nat->St->Hp->Prop,(∃m,W 0 m σ H1)/\∀i m σ H,W i m σ H ->
 (J.stop i H/\D.nx σ H)\/(J.go i H/\∃N:St->Hp->Prop,(∀σ' H',N σ' H'->∃m',m'<m/\W (i+1) m' σ' H')/\∀x H',J.yld i H x H'->g x σ H' λσ2 H2=>tb { D with nx:=N,ct:=N,bk:=D.nx } σ2 H2)
noncomputable def Yc(fp:List ak)(h:aH):List (ak×dm):=fp.filterMap λb=>(h.get? b).map λo=>(b,o)
theorem Za{fp:List ak}{h:aH}{b:ak}{o:dm}(hb:b∈fp)(e:h.get? b=aa o):(b,o)∈Yc fp h:=Py.mpr ⟨b,hb,by rw[e];rfl⟩
theorem Dt{fp:List ak}{h:aH}{p:ak×dm}(hp:p∈Yc fp h):p.1∈fp/\h.get? p.1=aa p.2:=by
 obtain⟨b,hb,e⟩:=Py.mp hp;cases q:h.get? b with
 |none=>rw[q]at e;cases e
 |some o =>rw[q]at e;have e':(b,o)=p:=aC e;subst e';exact⟨hb,q⟩
theorem Inv.pinned{pins:k7i}{σ:St}{H:Hp}{s:aq}{fp:List ak}(I:Inv X pins σ H s)(hf:∀b∈fp,Qp X pins H b)(ho:∀b∈fp,∃o,s.heap.get? b=aa o/\∀v,o.data≠.cell v):Inv X (pins++Yc fp s.heap) σ H s :=
 I.pins_of λp hp=>(Xx.mp hp).elim (λz=>I.pin p (Xm _ z)) λz=>by obtain⟨hb,e⟩:=Dt z;obtain⟨f0,f1,f2,_⟩:=hf p.1 hb;obtain⟨o,e',d⟩:=ho p.1 hb;rw[e]at e';cases e';exact⟨e,f0,f1,f2,d⟩
theorem Inv.unpinned{pins pl:k7i}{σ:St}{H:Hp}{s:aq}(I:Inv X (pins++pl) σ H s):Inv X pins σ H s:=I.pins_of λp hp=>I.pin p (Xm _ (cS _ hp))
theorem jfe{iter:ar}{body:List aQ}{wi:TI}{g:TG}{tb:TS}{pos:aP}(hp:eF (aA X.prog X.w) X.A X.env X.xe)(hc:X.calm=af)(hi:PI X tg iter wi)(hg:PG X tg g)(hb:PSs X body tb)
  (hs:∀x,aZ iter X.env x=pure x:=by intro _;rfl):PS X (.For tg iter body [] pos) (jm0 wi g tb):=by
 intro pins s σ H D I h;refine wpAny_For (thn (hi pins s σ H _ I h) λv s1 h1=>thn h1 λitv s2 h2=>?_) hs;obtain⟨it,fp,tn,J,H2,e,I2,T,st2,f2,W,⟨m0,w0⟩,turn⟩:=h2;subst e;have stat:∀{H':Hp},(∀b∈fp,H' b=ah)->∀b∈fp,Qp X pins H' b:=λhn b hb=>⟨hn b hb,(f2 b hb).2⟩
 refine codeAny_forLoop_any (λn s'=>∃i σ' H',Inv X pins σ' H' s'/\tn i s'.heap/\(∀b∈fp,H' b=ah)/\W i n σ' H') ?_ m0 ⟨0,σ,H2,I2,st2,λb hb=>(f2 b hb).1,w0⟩;rintro n s3 ⟨i,σ3,H3,I3,st3,fr3,w3⟩;rcases turn i n σ3 H3 w3 with ⟨stop,qn⟩|⟨go,N,hN,step⟩
 .refine cf hp (thn (T.done X rfl rfl rfl hc i pins s3 σ3 H3 X.xe I3 (stat fr3) st3 stop) λr s4 ⟨hr,I4⟩=>?_);subst hr;exact eO ⟨σ3,H3,I4,qn⟩
 .refine cf hp (thn (T.item X rfl rfl rfl hc i pins s3 σ3 H3 X.xe I3 (stat fr3) st3 go) λr s4 ⟨u,hr,h4⟩=>?_);subst hr;refine cf hp (thn h4 λ_ s5 ⟨x,H5,I5,r5,y5,st5,fr5⟩=>?_);have I5':=I5.pinned (stat fr5) (T.obj _ _ st5);refine cf hp (thn (hg _ s5 σ3 H5 x u _ I5' r5 (step x H5 y5)) λ_ s6 ⟨σ6,H6,I6,q6⟩=>?_);refine cf hp (thn (hb _ s6 σ6 H6 _ I6 q6) λf s7 q7=>?_);have jU:∀{σ7:St}{H7:Hp},Inv X (pins++Yc fp s5.heap) σ7 H7 s7->N σ7 H7->∃m,m<n/\∃i σ' H',Inv X pins σ' H' s7/\tn i s7.heap/\(∀b∈fp,H' b=ah)/\W i m σ' H':=λ{σ7 H7} I7 n7=>by obtain⟨m',hm,w7⟩:=hN σ7 H7 n7;refine⟨m',hm,i+1,σ7,H7,I7.unpinned,T.keep _ _ _ st5 λb hb o e=>(I7.pin (b,o) (Xm _ (Xm _ (Za hb e)))).1,λb hb=>?_,w7⟩;obtain⟨o,e,d⟩:=T.obj _ _ st5 b hb;exact(I7.pin (b,o) (Xm _ (Xm _ (Za hb e)))).2.1
  cases f with
  |next=>obtain⟨σ7,H7,I7,n7⟩:=q7;exact jU I7 n7
  |cont=>obtain⟨σ7,H7,I7,n7⟩:=q7;exact jU I7 n7
  |brk=>obtain⟨σ7,H7,I7,q7⟩:=q7;exact⟨σ7,H7,I7.unpinned,q7⟩
  |ret v=>obtain⟨x7,σ7,H7,H8,I7,r7,x8,q7⟩:=q7;exact⟨x7,σ7,H7,H8,I7.unpinned,r7,x8,q7⟩
end
abbrev R2:=V->V->Hp->VK->Prop
def OpR(X:Cx)(f:aj->aj->kW aj)(r:R2):Prop :=
 ∀(pins:k7i) (s:aq) (σ:St) (H:Hp) (x y:V) (v u:aj) (Q:VK),Inv X pins σ H s->RelV x v->RelV y u->r x y H Q ->
  ax (aA X.prog X.w) X.A (f v u) (EP X pins σ Q) X.xe s
def J9(X:Cx)(f:aj)(r:List V->Hp->VK->Prop):Prop :=
 ∀(pins:k7i) (s:aq) (σ:St) (H:Hp) (xs:List V) (us:List aj) (Q:VK),Inv X pins σ H s->Vals xs us->r xs H Q ->
  ax (aA X.prog X.w) X.A (call f us) (EP X pins σ Q) X.xe s
def tOp(r:R2)(ta tb:TE):TE:=λσ H Q=>ta σ H λx H1=>tb σ H1 λy H2=>r x y H2 Q
def rI(C:Int->Int->Prop)(g:Int->Int->V):R2:=λx y H Q=>∃i j,x=.int i/\y=.int j/\C i j/\Q (g i j) H
def rI0(g:Int->Int->V):R2:=λx y H Q=>∃i j,x=.int i/\y=.int j/\Q (g i j) H
section
variable{X:Cx}{a b c:ar}{ta tb tc:TE}{pos:aP}
theorem j9m(ha:PE X a ta)(hb:PE X b tb){pins:k7i}{s:aq}{σ:St}{H:Hp}{R:V->V->Hp->Prop}(I:Inv X pins σ H s)
  (h:ta σ H λx H1=>tb σ H1 λy H2=>R x y H2) {Q:k7h} {f:aj->aj->kW aj}
  (hf:∀v u s2 x y H2,Inv X pins σ H2 s2->RelV x v->RelV y u->R x y H2->ax (aA X.prog X.w) X.A (f v u) Q X.xe s2) :
  ax (aA X.prog X.w) X.A (aB a X.env) (λv s₁=>ax (aA X.prog X.w) X.A (aB b X.env) (λu s₂=>ax (aA X.prog X.w) X.A (f v u) Q X.xe s₂) X.xe s₁) X.xe s:=by
 refine thn (ha pins s σ H _ I h) λv s1 ⟨x,H1,I1,r1,q1⟩=>?_;refine thn (hb pins s1 σ H1 _ I1 q1) λu s2 ⟨y,H2,I2,r2,q2⟩=>?_;exact hf v u s2 x y H2 I2 r1 r2 q2
theorem Vm{op:iT}{r:R2}(ho:OpR X (bh op) r)(ha:PE X a ta)(hb:PE X b tb):PE X (.BinOp a op b pos) (tOp r ta tb):=by intro pins s σ H Q I h;exact wpAny_BinOp (j9m ha hb I h λv u s2 x y H2 I2 rx ry q=>ho pins s2 σ H2 x y v u Q I2 rx ry q)
theorem opI{f:aj->aj->kW aj}{C:Int->Int->Prop}{g:Int->Int->Int}
  (rule:∀(i j:Int)(t u:dz)(s:aq)(Q:k7h)(E:k7h),C i j->Q (.int (g i j) s.toks) { s with toks:=s.toks+1 }->ax (aA X.prog X.w) X.A (f (.int i t) (.int j u)) Q E s) :
  OpR X f (rI C λi j=>.int (g i j)):=by
 intro pins s σ H x y v u Q I rx ry h;obtain⟨i,j,rfl,rfl,hc,q⟩:=h;obtain⟨t,rfl⟩:=rx;obtain⟨t',rfl⟩:=ry;exact rule i j t t' s _ _ hc ⟨.int (g i j),H,I.tok _,⟨_,rfl⟩,q⟩
theorem j2k{f:aj->aj->kW aj}{g:Int->Int->Int}
  (rule:∀(i j:Int)(t u:dz)(s:aq)(Q:k7h)(E:k7h),Q (.int (g i j) s.toks) { s with toks:=s.toks+1 }->ax (aA X.prog X.w) X.A (f (.int i t) (.int j u)) Q E s) :
  OpR X f (rI0 λi j=>.int (g i j)):=by
 intro pins s σ H x y v u Q I rx ry h;obtain⟨i,j,rfl,rfl,q⟩:=h;obtain⟨t,rfl⟩:=rx;obtain⟨t',rfl⟩:=ry;exact rule i j t t' s _ _ ⟨.int (g i j),H,I.tok _,⟨_,rfl⟩,q⟩
theorem j2l{f:aj->aj->kW aj}{g:Int->Int->Bool}
  (rule:∀(i j:Int)(t u:dz)(s:aq)(Q:k7h)(E:k7h),Q (.bool (g i j)) s->ax (aA X.prog X.w) X.A (f (.int i t) (.int j u)) Q E s) :
  OpR X f (rI0 λi j=>.bl (g i j)):=by
 intro pins s σ H x y v u Q I rx ry h;obtain⟨i,j,rfl,rfl,q⟩:=h;obtain⟨t,rfl⟩:=rx;obtain⟨t',rfl⟩:=ry;exact rule i j t t' s _ _ ⟨.bl (g i j),H,I,rfl,q⟩
def j3i(i j:Int):Prop:=0<=j/\j<=1000000/\i.natAbs<2^64
def j3j(i j:Int):Prop:=(-(2^64)<i/\i<2^64)\/(-(2^64)<j/\j<2^64)
theorem j3j.ok{i j:Int}(h:j3j i j):IntMulOk i j:=by
 rcases h with ⟨h1,h2⟩|⟨h1,h2⟩
 .exact .of_left (lK h1 h2)
 .exact .of_right (lK h1 h2)
theorem j1o(k:Nat):(0:Int)<=2^k:=by rw[two_pow_cast];exact f7 _
theorem j4k:OpR X (bh .Add) (rI0 λi j=>.int (i+j)):=j2k λ_ _ _ _ _ _ _ q=>add_int q
theorem jfr:OpR X (bh .Sub) (rI0 λi j=>.int (i-j)):=j2k λ_ _ _ _ _ _ _ q=>sub_int q
theorem jfw:OpR X (bh .Mult) (rI j3j λi j=>.int (i*j)):=opI λ_ _ _ _ _ _ _ hc q=>mul_int q hc.ok
theorem jfx:OpR X (bh .Mod) (rI (λ_ j=>0<j) λi j=>.int (i%j)):=opI λi j _ _ _ _ _ hc q=>by have h1:(0:Int)<j:=hc;exact mod_int' nofun (by rw[Int.fmod_eq_emod_of_nonneg i nofun];exact q)
theorem jfv:OpR X (bh .Pow) (rI j3i λi j=>.int (i^j.toNat)):=opI λ_ _ _ _ _ _ _ hc q=>pow_int_small hc.1 hc.2.1 hc.2.2 q
theorem jft:OpR X (bh .LShift) (rI j3i λi j=>.int (i*2^j.toNat)):=opI λ_ _ _ _ _ _ _ hc q=>lshift_int_small hc.1 hc.2.1 hc.2.2 q
theorem jfs:OpR X (bh .RShift) (rI (λ_ j=>0<=j) λi j=>.int (i/2^j.toNat)):=opI λi j _ _ _ _ _ hc q =>rshift_int hc (by rw[gh i (j1o _)];exact q)
theorem jfy:OpR X (bh .BitAnd) (rI0 λi j=>.int (Builtin.bitAnd i j)):=j2k λ_ _ _ _ _ _ _ q=>and_int q
theorem jfq:OpR X (bh .BitXor) (rI0 λi j=>.int (Builtin.bitXor i j)):=j2k λ_ _ _ _ _ _ _ q=>xor_int q
end
noncomputable def Nv:V->V->Bool
 |.non,.non=>af|.non,.int _=>af|.int _,.non=>af|.non,.bl _=>af|.bl _,.non=>af|.non,.str _=>af|.str _,.non=>af
 |.int _,.int _=>af|.bl _,.bl _=>af|.str _,.str _=>af|.byt _,.byt _=>af
 |.int _,.str _=>af|.str _,.int _=>af|.bl _,.str _=>af|.str _,.bl _=>af
 |_,_=>ae
def rEq:R2:=λx y H Q=>Nv x y=af/\Q (.bl (decide (x=y))) H
def rNe:R2:=λx y H Q=>Nv x y=af/\Q (.bl (!decide (x=y))) H
theorem j1d{i j:Int}:decide (V.int i=V.int j)=(i==j):=by rw[eB];simp
theorem j5n{i j:Bool}:decide (V.bl i=V.bl j)=(i==j):=by rw[eB];simp
theorem j1c{i j:ao}:decide (V.str i=V.str j)=(i==j):=by rw[eB];simp
theorem j1e{i j:Array UInt8}:decide (V.byt i=V.byt j)=(i.toList==j.toList):=by rw[eB];cases i;cases j;simp
section
variable{X:Cx}{a b c:ar}{ta tb tc:TE}{pos:aP}
theorem qb{pins:k7i}{σ:St}{H:Hp}{s:aq}{Q:VK}{k k':Bool}(I:Inv X pins σ H s)(q:Q (.bl k) H)(e:k=k'):EP X pins σ Q (.bool k') s:=by subst e;exact⟨.bl k,H,I,rfl,q⟩
theorem ja6:OpR X (bj .Eq) rEq:=by
 intro pins s σ H x y v u Q I rx ry h;obtain⟨hs,q⟩:=h;cases x with
 |non =>
  cases rx;cases y with
  |non=>cases ry;exact kM (qb I q (by simp))
  |bl j=>cases ry;exact kO (qb I q (by simp))
  |int j=>obtain⟨t',rfl⟩:=ry;exact kN (qb I q (by simp))
  |str j=>obtain⟨t',rfl⟩:=ry;exact kL (qb I q (by simp))
  |_=>exact absurd (show ae=af from hs) xj
 |bl i =>
  cases rx;cases y with
  |non=>cases ry;exact kQ (qb I q (by simp))
  |bl j=>cases ry;exact eq_bool (qb I q j5n)
  |str j=>obtain⟨t',rfl⟩:=ry;exact ka (qb I q (by simp))
  |_=>exact absurd (show ae=af from hs) xj
 |int i =>
  obtain⟨t,rfl⟩:=rx;cases y with
  |non=>cases ry;exact kP (qb I q (by simp))
  |int j=>obtain⟨t',rfl⟩:=ry;exact eq_int (qb I q j1d)
  |str j=>obtain⟨t',rfl⟩:=ry;exact k9 (qb I q (by simp))
  |_=>exact absurd (show ae=af from hs) xj
 |str i =>
  obtain⟨t,rfl⟩:=rx;cases y with
  |non=>cases ry;exact kK (qb I q (by simp))
  |bl j=>cases ry;exact k8 (qb I q (by simp))
  |int j=>obtain⟨t',rfl⟩:=ry;exact k7 (qb I q (by simp))
  |str j=>obtain⟨t',rfl⟩:=ry;exact eq_str (qb I q j1c)
  |_=>exact absurd (show ae=af from hs) xj
 |byt i =>
  obtain⟨t,rfl⟩:=rx;cases y with
  |byt j=>obtain⟨t',rfl⟩:=ry;exact W.eq_bytes (qb I q j1e)
  |_=>exact absurd (show ae=af from hs) xj
 |_=>cases y<;>exact absurd (show ae=af from hs) xj
theorem j2f:OpR X (bj .NotEq) rNe:=by
 intro pins s σ H x y v u Q I rx ry h;obtain⟨hs,q⟩:=h;cases x with
 |non =>
  cases rx;cases y with
  |non=>cases ry;exact kE (qb I q (by simp))
  |bl j=>cases ry;exact kH (qb I q (by simp))
  |int j=>obtain⟨t',rfl⟩:=ry;exact kF (qb I q (by simp))
  |str j=>obtain⟨t',rfl⟩:=ry;exact kD (qb I q (by simp))
  |_=>exact absurd (show ae=af from hs) xj
 |bl i =>
  cases rx;cases y with
  |non=>cases ry;exact kJ (qb I q (by simp))
  |bl j=>cases ry;exact ne_bool (qb I q (congrArg not j5n))
  |str j=>obtain⟨t',rfl⟩:=ry;exact k6 (qb I q (by simp))
  |_=>exact absurd (show ae=af from hs) xj
 |int i =>
  obtain⟨t,rfl⟩:=rx;cases y with
  |non=>cases ry;exact kI (qb I q (by simp))
  |int j=>obtain⟨t',rfl⟩:=ry;exact ne_int (qb I q (congrArg not j1d))
  |str j=>obtain⟨t',rfl⟩:=ry;exact jZ (qb I q (by simp))
  |_=>exact absurd (show ae=af from hs) xj
 |str i =>
  obtain⟨t,rfl⟩:=rx;cases y with
  |non=>cases ry;exact kC (qb I q (by simp))
  |bl j=>cases ry;exact jY (qb I q (by simp))
  |int j=>obtain⟨t',rfl⟩:=ry;exact jX (qb I q (by simp))
  |str j=>obtain⟨t',rfl⟩:=ry;exact ne_str (qb I q (congrArg not j1c))
  |_=>exact absurd (show ae=af from hs) xj
 |byt i =>
  obtain⟨t,rfl⟩:=rx;cases y with
  |byt j=>obtain⟨t',rfl⟩:=ry;exact W.ne_bytes (qb I q (congrArg not j1e))
  |_=>exact absurd (show ae=af from hs) xj
 |_=>cases y<;>exact absurd (show ae=af from hs) xj
theorem j2h:OpR X (bj .Lt) (rI0 λi j=>.bl (decide (i<j))):=j2l λ_ _ _ _ _ _ _ q=>lt_int q
theorem ja4:OpR X (bj .LtE) (rI0 λi j=>.bl (decide (i<=j))):=j2l λ_ _ _ _ _ _ _ q=>le_int q
theorem ja5:OpR X (bj .Gt) (rI0 λi j=>.bl (decide (j<i))):=j2l λ_ _ _ _ _ _ _ q=>gt_int q
theorem j2i:OpR X (bj .GtE) (rI0 λi j=>.bl (decide (j<=i))):=j2l λ_ _ _ _ _ _ _ q=>ge_int q
theorem Dq:OpR X (bj .Lt) (λx y H Q=>∃i j,x=.str i/\y=.str j/\Q (.bl (decide (i.cps.toList<j.cps.toList))) H):=by intro pins s σ H x y v u Q I rx ry h;obtain⟨i,j,rfl,rfl,q⟩:=h;obtain⟨t,rfl⟩:=rx;obtain⟨t',rfl⟩:=ry;exact lt_str (qb I q rfl)
theorem Dr:OpR X (bj .In) (λx y H Q=>∃i j,x=.str i/\y=.str j/\Q (.bl (!(bC j i 0 j.length 1).isEmpty)) H):=by intro pins s σ H x y v u Q I rx ry h;obtain⟨i,j,rfl,rfl,q⟩:=h;obtain⟨t,rfl⟩:=rx;obtain⟨t',rfl⟩:=ry;exact in_str (qb I q rfl)
theorem zb(b:ar){op:gn}(h:op≠.In:=by decide)(h2:op≠.NotIn:=by decide):aO op b=ae:=by
 have e1:(op==CmpOp.In)=ae:=by cases op<;>first|rfl|exact absurd rfl h
 have e2:(op==CmpOp.NotIn)=ae:=by cases op<;>first|rfl|exact absurd rfl h2
 cases b<;>simp[aO,e1,e2]
theorem Jo{op:gn}{r:R2}(ho:OpR X (bj op) r)(ha:PE X a ta)(hb:PE X b tb)(hm:aO op b=ae):PE X (.Compare a [op] [b] pos) (tOp r ta tb):=by intro pins s σ H Q I h;exact lD (j9m ha hb I h λv u s2 x y H2 I2 rx ry q=>ho pins s2 σ H2 x y v u Q I2 rx ry q) hm
def jix(t:TE):TT:=λσ H Q=>t σ H λx H'=>∃k,x=.bl k/\Q k H'
theorem Jb{op:gn}{r:R2}(ho:OpR X (bj op) r)(ha:PE X a ta)(hb:PE X b tb)(hm:aO op b=ae):PT X (.Compare a [op] [b] pos) (jix (tOp r ta tb)):=by
 intro pins s σ H Q I h;refine iL (thn (ha pins s σ H _ I h) λv s1 ⟨x,H1,I1,r1,q1⟩=>thn (hb pins s1 σ H1 _ I1 q1) λu s2 ⟨y,H2,I2,r2,q2⟩ =>
  thn (ho pins s2 σ H2 x y v u _ I2 r1 r2 q2) λc s3 ⟨z,H3,I3,r3,k,e,q3⟩=>?_) hm
 subst e;cases r3;exact bK ⟨H3,I3,q3⟩
theorem Rm:(au:Nat)<2^63:=by rw[cg];decide
theorem j2j:OpR X (bh .Add) (λx y H Q=>∃i j,x=.str i/\y=.str j/\i.length+j.length<=au/\Q (.str (i++j)) H):=by intro pins s σ H x y v u Q I rx ry h;obtain⟨i,j,rfl,rfl,hz,q⟩:=h;obtain⟨t,rfl⟩:=rx;obtain⟨t',rfl⟩:=ry;exact add_str (λt' tk=>⟨.str (i++j),H,I.tok _,⟨_,rfl⟩,q⟩) hz
theorem vals1{x:V}{us:List aj}(r:Vals [x] us):∃u,us=[u]/\RelV x u:=by
 cases r with
 |cons r1 r2=>cases r2;exact⟨_,rfl,r1⟩
theorem vals2{x y:V}{us:List aj}(r:Vals [x,y] us):∃u w',us=[u,w']/\RelV x u/\RelV y w':=by
 cases r with
 |cons r1 r2 =>
  cases r2 with
  |cons r3 r4=>cases r4;exact⟨_,_,rfl,r1,r3⟩
theorem j69 (hc:X.calm=af):J9 X (.builtin "max") (λxs H Q=>∃i j,xs=[.int i,.int j]/\Q (.int (if j>i then j else i)) H):=by
 intro pins s σ H xs us Q I r h;obtain⟨i,j,rfl,q⟩:=h;obtain⟨u,w',rfl,⟨t,rfl⟩,⟨t',rfl⟩⟩:=vals2 r;refine max_two_ints (I.ok.hd hc) λh' tk k=>⟨_,H,I.kept k,?_,q⟩
 by_cases hj:j>i
 .rw[if_pos hj,if_pos hj];exact⟨_,rfl⟩
 .rw[if_neg hj,if_neg hj];exact⟨_,rfl⟩
theorem j67 (hc:X.calm=af):J9 X (.builtin "min") (λxs H Q=>∃i j,xs=[.int i,.int j]/\Q (.int (if j<i then j else i)) H):=by
 intro pins s σ H xs us Q I r h;obtain⟨i,j,rfl,q⟩:=h;obtain⟨u,w',rfl,⟨t,rfl⟩,⟨t',rfl⟩⟩:=vals2 r;refine min_two_ints (I.ok.hd hc) λh' tk k=>⟨_,H,I.kept k,?_,q⟩
 by_cases hj:j<i
 .rw[if_pos hj,if_pos hj];exact⟨_,rfl⟩
 .rw[if_neg hj,if_neg hj];exact⟨_,rfl⟩
theorem j6c:J9 X (.type "int") (λxs H Q=>(∃i,xs=[.int i]/\Q (.int i) H)\/∃k,xs=[.bl k]/\Q (.int (if k then 1 else 0)) H):=by
 intro pins s σ H xs us Q I r h;rcases h with ⟨i,rfl,q⟩|⟨k,rfl,q⟩
 .obtain⟨u,rfl,t,rfl⟩:=vals1 r;exact call_int_int ⟨.int i,H,I,⟨_,rfl⟩,q⟩
 .obtain⟨u,rfl,r1⟩:=vals1 r;cases r1;exact call_int_bool ⟨.int (if k then 1 else 0),H,I.tok _,⟨_,rfl⟩,q⟩
theorem Et:J9 X (.type "str") (λxs H Q=>∃i,xs=[.int i]/\i.natAbs.log2<1920/\Q (.str (toString i)) H):=by intro pins s σ H xs us Q I r h;obtain⟨i,rfl,hz,q⟩:=h;obtain⟨u,rfl,t,rfl⟩:=vals1 r;exact PySem.P.str_of_int hz ⟨.str _,H,I.tok _,⟨_,rfl⟩,q⟩
end
structure ObjM(h:aH)(x dx C:ak)(mA:k7j):Prop where
 obj:h.get? x=aa (W.instObj C dx)
 ns:h.Ns1 dx mA
 ne:dx≠x
theorem j4p{h:aH}{dx:ak}{mA:k7j}(n:h.Ns1 dx mA):∃od,h.get? dx=aa od/\∀name,W.lookIn name od=aa (mA name):=by
 obtain⟨o,es,ep,ho,hd,hk,_,hm⟩:=n;refine⟨o,ho,λname=>?_⟩;have e:=hm name;unfold nsFind findBy at e;rw[<-Array.find?_toList]at e;unfold W.lookIn;rw[hd];dsimp only;split
 .rename_i y q;rw[q]at e;exact congrArg aa e
 .rename_i q;rw[q]at e;have a:es.toList.any (·.refKey)=ae:=by rw[fe];intro y hy;obtain⟨z,t,hkey⟩:=hk y (Array.mem_toList_iff.mp hy);simp[DictEntry.refKey,hkey]
  have a':¬es.toList.any (·.refKey)=af:=by rw[a];exact xj
  rw[if_neg a'];exact congrArg aa e
theorem ObjM.look{h:aH}{x dx C:ak}{mA:k7j}(I:ObjM h x dx C mA):∃od,PySem.W.InstAt h x (W.instObj C dx) C (aa od)/\∀name,W.lookIn name od=aa (mA name) :=
 let ⟨od,ho,hl⟩:=j4p I.ns
 ⟨od,⟨I.obj,rfl,rfl,ho⟩,hl⟩
section
variable{prog:ay}{w:aD}{A:aG}{E:k7h}{s:aq}{K:k7g}{x dx C f:ak}{mA:k7j}{name:ao}{v:aj}
theorem jd8{expr:Bool}{Q:k7h}(X:K.In s.heap)(I:ObjM s.heap x dx C mA)(hg:W.plainGet K C name=af)(hh:W.hasDictIn K C=af)
  (ha:W.findIn K (.ref C) name=aa ah) (hv:mA name=aa v) (hv':W.handedIn v=af) (h:Q v { s with toks:=s.toks+1 }) :
  ax (aA prog w) A (getAttr (.ref x) name expr) Q E s:=by
 obtain⟨od,J,hl⟩:=I.look;exact W.get_value X J (W.plainGet_of hg).1 (W.findObj_own hh ha rfl (by rw[hl,hv])) hv' h
theorem j91{pl:kW Bool}{Q:aj×List aj->aq->Prop}(X:K.In s.heap)(I:ObjM s.heap x dx C mA)(hg:W.plainGet K C name=af)
  (hf:W.findIn K (.ref C) name=aa (aa (.ref f))) (ht:W.isFn K (.ref f)=af) (hv:mA name=ah) (h:Q (.ref f,[.ref x]) s) :
  ax (aA prog w) A (ib (.ref x) name pl) Q E s:=by
 obtain⟨od,J,hl⟩:=I.look;exact W.method_fn X J (W.plainGet_of hg).1 (W.plainGet_of hg).2 hf (beq_iff_eq.mp ht) (by show(W.lookIn name od).map (·.isSome)=aa ae;rw[hl,hv];rfl) h
theorem jbf{ns:List ao}{Q:Unit->aq->Prop}(X:K.In s.heap)(I:ObjM s.heap x dx C mA)
  (hs:W.findIn K (.ref C) "__setattr__" = aa (aa (.builtin "object.__setattr__"))) (hp:W.plainOver K C=af) (ht:W.takerIn K C name=aa ah) (hh:W.hasDictIn K C=af)
  (hw:gr mA ns) (hsz:ns.length<=au)
  (h:∀h',ObjM h' x dx C (λy=>if y=name then aa v else mA y)->bU dx s.heap h'->Q () { s with heap:=h',toks:=s.toks+2 }) :
  ax (aA prog w) A (setAttr (.ref x) name v) Q E s:=by
 obtain⟨od,J,hl⟩:=I.look;refine W.set_plain X J hs (W.osa_open (s:={ s with toks:=s.toks+1 }) (r:=ah) X J hp ht λb=>?_);obtain⟨cd,hc,hd'⟩:=W.any_some hh;have hx:s.heap.get? x=aa ⟨.ref C,aa dx,.plain,#[]⟩:=I.obj;refine ag (av (ag (ag (wpAny_loadPart hx (ag (PySem.W.Looks.here (s:={ s with toks:=s.toks+1 }) (W.looks_clsIn X hc) ?_))))));rw[hd'];refine av (a:=aa dx) (ag (av (ag ?_)));refine wpAny_nsSet1 (s:={ s with toks:=s.toks+1 }) I.ns λh' hn2 hs2=>?_;obtain⟨oD,esD,epD,hoD,hdD,hcD⟩:=hn2.count (PySem.Within.cons name v hw);refine ag (wpAny_lookBehind hoD (by rw[hdD];exact pastItsLine_dict (Xf hcD (by rw[xx];omega))) ?_);exact av (h _ ⟨(hs2.2 _ (eC I.ne)).trans I.obj,hn2,I.ne⟩ hs2)
theorem j87{R:eY->aq->Prop}{vs:List aj}{kw:List (ao×aj)}(X:K.In s.heap)(hm:W.makesIn K C=af)
  (hi:W.findIn K (.ref C) "__init__" = aa (aa (.ref f))) (hf:W.typeIn K (.ref f)=aa (.type "function"))
  (h:cF (aA prog w) (A.under (.builtin "type.__call__" ⟨.ref C::vs,kw⟩)) (.call (.ref f) ⟨.ref (s.heap.objs.size+1)::vs,kw⟩) (PySem.W.InitBack (s.heap.objs.size+1) R)
   { s with heap:=(s.heap.push W.emptyDict).push (W.instObj C s.heap.objs.size) }) :
  cF (aA prog w) A (.call (.ref C) ⟨vs,kw⟩) R s:=by
 obtain⟨hh,g,d,t,os⟩:=s;exact W.make_core (W.makes_of X hm) (W.looks_findIn X hi) (λself=>W.bind_fn X self hf) (.inl rfl) h
end
noncomputable def Jg(f:ao)(v:V):List (ao×V)->List (ao×V)
 |[]=>[(f,v)]
 |(g,x)::r=>if g=f then(g,v)::r else(g,x)::Jg f v r
theorem O4(f g:ao)(v:V):∀fs:List (ao×V),(Jg f v fs).lookup g=if g=f then aa v else fs.lookup g
 |[]=>by
  show cT g [(f,v)]=_;by_cases h:g=f
  .have hb:(g==f)=af:=beq_iff_eq.mpr h;simp only[cT,hb,if_pos h]
  .have hb:(g==f)=ae:=beq_eq_false_iff_ne.mpr h;simp only[cT,hb,if_neg h]
 |(k,x)::r=>by
  have ih:=O4 f g v r;rw[show Jg f v ((k,x)::r)=(if k=f then(k,v)::r else(k,x)::Jg f v r)from rfl];by_cases hk:k=f
  .rw[if_pos hk];by_cases h:g=k
   .have hb:(g==k)=af:=beq_iff_eq.mpr h;simp only[cT,hb,if_pos (h.trans hk)]
   .have hb:(g==k)=ae:=beq_eq_false_iff_ne.mpr h;simp only[cT,hb,if_neg (λe:g=f=>h (e.trans hk.symm))]
  .rw[if_neg hk];by_cases h:g=k
   .have hb:(g==k)=af:=beq_iff_eq.mpr h;simp only[cT,hb,if_neg (λe:g=f=>hk (h.symm.trans e))]
   .have hb:(g==k)=ae:=beq_eq_false_iff_ne.mpr h;simp only[cT,hb];exact ih
theorem Rn(f:ao)(v:V):∀fs:List (ao×V),f∈(Jg f v fs).map (·.1)/\∀g,g∈fs.map (·.1)->g∈(Jg f v fs).map (·.1)
 |[]=>⟨by simp[Jg],λg h=>by simp at h⟩
 |(k,x)::r=>by
  obtain⟨i1,i2⟩:=Rn f v r;rw[show Jg f v ((k,x)::r)=(if k=f then(k,v)::r else(k,x)::Jg f v r)from rfl];by_cases hk:k=f
  .rw[if_pos hk];subst hk;exact⟨by simp,λg h=>by simpa using h⟩
  .rw[if_neg hk];refine⟨?_,λg h=>?_⟩
   .rw[X5];exact xf _ i1
   .rw[X5]at h ⊢;rcases xr.mp h with e|e
    .exact xr.mpr (.inl e)
    .exact xf _ (i2 g e)
theorem O5(f:ao)(v:V):∀fs:List (ao×V),(Jg f v fs).length<=fs.length+1
 |[]=>by simp[Jg]
 |(k,x)::r=>by
  have ih:=O5 f v r;rw[show Jg f v ((k,x)::r)=(if k=f then(k,v)::r else(k,x)::Jg f v r)from rfl];by_cases hk:k=f
  .rw[if_pos hk,xx,xx];omega
  .rw[if_neg hk,xx,xx];omega
theorem U7.some_of{v:V}{o:Option aj}(r:U7 (aa v) o):∃u,o=aa u/\RelV v u:=by
 cases o with
 |none=>exact(show False from r).elim
 |some u=>exact⟨u,rfl,r⟩
theorem U7.none_of{o:Option aj}(r:U7 ah o):o=ah:=by
 cases o with
 |none=>rfl
 |some u=>exact(show False from r).elim
theorem j58{v:V}{u:aj}(r:RelV v u):W.handedIn u=af:=by
 cases v with
 |non=>cases(show u=b7 from r);rfl
 |bl b=>cases(show u=bo b from r);rfl
 |int i=>obtain⟨t,e⟩:=(show ∃t,u=bq i t from r);cases e;rfl
 |str x=>obtain⟨t,e⟩:=(show ∃t,u=b8 x t from r);cases e;rfl
 |byt b=>obtain⟨t,e⟩:=(show ∃t,u=jM b t from r);cases e;rfl
 |flt b=>obtain⟨t,e⟩:=(show ∃t,u=jL b t from r);cases e;rfl
 |ref a=>cases(show u=aI a from r);rfl
 |ty n=>cases(show u=cC n from r);rfl
section
variable{P:ay}{w:aD}{H H':Hp}{h h':aH}{a C dx:ak}{fs fs':List (ao×V)}
theorem Fq(hok:HOk P w H h)(e:H a=aa (.ins C dx fs)):∃mA,ObjM h a dx C mA/\(∀f,U7 (fs.lookup f) (mA f))/\gr mA (fs.map (·.1))/\fs.length<=1000/\H dx=aa (.own a):=by
 obtain⟨d,z,ne,ob,mA,n,r,q⟩:=(show jw P w H h a (.ins C dx fs)from hok a _ e)
 exact⟨mA,⟨ob,n,ne⟩,r,q,z,d⟩
end
structure Cls(K:k7g)(C:ak):Prop where
 pg:W.plainGet K C dM=af
 hd:W.hasDictIn K C=af
 po:W.plainOver K C=af
 sa:W.findIn K (.ref C) "__setattr__" = aa (aa (.builtin "object.__setattr__"))
theorem Cls.get{K:k7g}{C:ak}(c:Cls K C)(f:ao):W.plainGet K C f=af:=c.pg
def Zn(K:k7g)(C:ak)(f:ao):Prop:=W.findIn K (.ref C) f=aa ah
theorem Zn.taker{K:k7g}{C:ak}{f:ao}(n:Zn K C f):W.takerIn K C f=aa ah:=by unfold W.takerIn;rw[show W.findIn K (.ref C) f=aa ah from n];rfl
structure Con(K:k7g)(C:ak)(f:ao)(v:V)(u:aj):Prop where
 at_:W.findIn K (.ref C) f=aa (aa u)
 rel:RelV v u
 get:W.specialIn K u "__get__" = aa ah
 cp:W.copiedNames.contains f=ae
structure Meth(K:k7g)(C:ak)(m:ao)(f:ak):Prop where
 at_:W.findIn K (.ref C) m=aa (aa (.ref f))
 fn:W.isFn K (.ref f)=af
 kp:W.keepIn K (.ref f)=af
section
variable{X:Cx}{pins:k7i}{σ:St}{H:Hp}{s:aq}{a C dx:ak}{fs:List (ao×V)}{f:ao}{v:V}{A:aG}{E:k7h}
theorem j2w{b:Bool}{Q:k7h}(I:Inv X pins σ H s)(e:H a=aa (.ins C dx fs))(c:Cls X.K C)(n:Zn X.K C f)(l:fs.lookup f=aa v)
  (h:∀u s',Inv X pins σ H s'->RelV v u->Q u s'):ax (aA X.prog X.w) A (getAttr (.ref a) f b) Q E s:=by
 obtain⟨mA,O,r,_,_,_⟩:=Fq I.hok e;obtain⟨u,hu,ru⟩:=U7.some_of (v:=v) (o:=mA f) (by rw[<-l];exact r f);exact jd8 I.kIn O (c.get f) c.hd n hu (j58 ru) (h u _ (I.tok _) ru)
theorem Bw{m:ao}{g:ak}{pl:kW Bool}{Q:aj×List aj->aq->Prop}(I:Inv X pins σ H s)(e:H a=aa (.ins C dx fs))(c:Cls X.K C)(k:Meth X.K C m g)(l:fs.lookup m=ah)
  (h:Q (.ref g,[.ref a]) s):ax (aA X.prog X.w) A (ib (.ref a) m pl) Q E s:=by
 obtain⟨mA,O,r,_,_,_⟩:=Fq I.hok e;have hn:mA m=ah:=U7.none_of (by rw[<-l];exact r m);exact j91 I.kIn O (c.get m) k.at_ k.fn hn h
theorem j1v{y:V}{u:aj}{Q:Unit->aq->Prop}(I:Inv X pins σ H s)(e:H a=aa (.ins C dx fs))(c:Cls X.K C)(n:Zn X.K C f)(hl:fs.length<1000)(ry:RelV y u)
  (h:∀s',Inv X pins σ (upd H a (.ins C dx (Jg f y fs))) s'->Q () s'):ax (aA X.prog X.w) A (setAttr (.ref a) f u) Q E s:=by
 obtain⟨mA,O,r,wi,_,ho⟩:=Fq I.hok e;have hz:(fs.map (·.1)).length<=au:=by rw[km,cg];omega
 refine jbf I.kIn O c.sa c.po n.taker c.hd wi hz λh' O' sb=>h _ ?_;have hd:∃o,h'.get? dx=aa o:=let ⟨o,_,_,e',_⟩:=O'.ns;⟨o,e'⟩;refine I.write (x:=a) (e:=dx) (by rw[e];exact True.intro) (.inr ho) (λb q hb z=>(sb.2 b hb).trans z) hd ?_;refine⟨by rw[ji O.ne];exact ho,?_,O.ne,O'.obj,_,O'.ns,λg=>?_,λg hg=>?_⟩
 .have:=O5 f y fs;omega
 .show U7 ((Jg f y fs).lookup g) (if g=f then aa u else mA g);rw[O4];by_cases q:g=f
  .rw[if_pos q,if_pos q];exact ry
  .rw[if_neg q,if_neg q];exact r g
 .by_cases q:g=f
  .rw[q];exact(Rn f y fs).1
  .refine(Rn f y fs).2 g (wi g λz=>hg ?_);show(if g=f then aa u else mA g)=ah;rw[if_neg q];exact z
theorem Inv.made(I:Inv X pins σ H s):Inv X pins σ (upd (upd H s.heap.objs.size (.own (s.heap.objs.size+1))) (s.heap.objs.size+1) (.ins C s.heap.objs.size []))
  { s with heap:=(s.heap.push W.emptyDict).push (W.instObj C s.heap.objs.size) }:=by
 have e1:(s.heap.push W.emptyDict).get? s.heap.objs.size=aa W.emptyDict:=xu s.heap rfl;have e2:((s.heap.push W.emptyDict).push (W.instObj C s.heap.objs.size)).get? (s.heap.objs.size+1)=aa (W.instObj C s.heap.objs.size):=by
  have:=xu (s.heap.push W.emptyDict) (o:=W.instObj C s.heap.objs.size) rfl
  rwa [Xi]at this
 have e3:(s.heap.push W.emptyDict).Ns s.heap.objs.size (λ_=>ah):=⟨W.emptyDict,#[],_,e1,rfl,(λe he=>absurd he (by simp)),λ_=>rfl⟩
 have I1:=I.laid (a:=s.heap.objs.size) (o:=.own (s.heap.objs.size+1)) (h':=s.heap.push W.emptyDict) (t':=s.toks) (λb u q=>kj _ q) (X6 _) ⟨_,e1⟩;refine I1.laid (a:=s.heap.objs.size+1) (o:=.ins C s.heap.objs.size []) (t':=s.toks) (λb u q=>kj _ q) (ky (Xi _ _)) ?_;have ne:s.heap.objs.size≠s.heap.objs.size+1:=X8 (Pq _);refine⟨by rw[ji ne,ju],Te _,ne,e2,λ_=>ah,(Heap.Ns1.of_empty e3).at λo q=>kj _ q,λ_=>True.intro,λy hy=>absurd rfl hy⟩
theorem jdy{prog:ay}{w:aD}{env:d9}{e:ar}{f:ao}{pos:aP}{s:aq}{Q:k7h}(hb:aY e f env (aB e env)=aB e env)
  (h:ax (aA prog w) A (aB e env) (λo s₁=>ax (aA prog w) A (getAttr o f af) Q E s₁) E s):ax (aA prog w) A (aB (.Attribute e f pos) env) Q E s :=
 Attribute_any_ h (by rw[arm_eval_Attribute,hb])
end
def jm1(K:k7g)(ta:TE)(f:ao):TE:=λσ H Q=>ta σ H λx H1=>∃a C dx fs v,x=.ref a/\H1 a=aa (.ins C dx fs)/\Cls K C/\Zn K C f/\fs.lookup f=aa v/\Q v H1
def jm8(K:k7g)(ta tv:TE)(f:ao):TS:=λD σ H=>tv σ H λy H1=>ta σ H1 λx H2=>∃a C dx fs,x=.ref a/\H2 a=aa (.ins C dx fs)/\Cls K C/\Zn K C f/\fs.length<1000 /\
 D.nx σ (upd H2 a (.ins C dx (Jg f y fs)))
section
variable{X:Cx}{o e value:ar}{f:ao}{pos pos' tpos:aP}{ta tv:TE}
theorem Ye(he:PE X e ta)(hb:aY e f X.env (aB e X.env)=aB e X.env):PE X (.Attribute e f pos) (jm1 X.K ta f):=by intro pins s σ H Q I h;refine jdy hb (thn (he pins s σ H _ I h) λu s1 ⟨x,H1,I1,rx,a,C,dx,fs,v,ex,ea,c,n,l,q⟩=>?_);subst ex;obtain rfl:u=aI a:=rx;exact j2w I1 ea c n l λu' s2 I2 ru=>⟨v,H1,I2,ru,q⟩
theorem Kq(ha:PE X o ta)(hv:PE X value tv)(hs:aN value (aa (.Attribute o f pos')) pos.line X.env=pure ae):PS X (.Assign [.Attribute o f pos'] value pos) (jm8 X.K ta tv f):=by intro pins s σ H D I h;refine plainObj_wpAny_Assign_Attribute (thn (hv pins s σ H _ I h) λu s1 ⟨y,H1,I1,ry,q⟩=>thn (ha pins s1 σ H1 _ I1 q) λov s2 ⟨x,H2,I2,rx,a,C,dx,fs,ex,ea,c,n,l,q2⟩=>?_) hs;subst ex;obtain rfl:ov=aI a:=rx;exact j1v I2 ea c n l ry λs3 I3=>⟨σ,_,I3,q2⟩
end
section
variable{X:Cx}{pins:k7i}{σ:St}{H:Hp}{s:aq}{A:aG}{E:k7h}{Q:k7h}{c:aj}{b:Bool}
inductive TyOf(K:k7g)(H:Hp):V->aj->Prop where
 |non:TyOf K H .non (.type "NoneType")
 |bl (x:Bool):TyOf K H (.bl x) (.type "bool")
 |int (i:Int):TyOf K H (.int i) (.type "int")
 |str (x:ao):TyOf K H (.str x) (.type "str")
 |flt (x:UInt64):TyOf K H (.flt x) (.type "float")
 |lst {a:ak} {xs:List V} (e:H a=aa (.lst xs)):TyOf K H (.ref a) (.type "list")
 |frz {a:ak} {o:dm} {xs:List V} (e:H a=aa (.frz o (.lst xs))):TyOf K H (.ref a) (.type "list")
 |tup {a:ak} {xs:List V} (e:H a=aa (.tup xs)):TyOf K H (.ref a) (.type "tuple")
 |dK {a:ak} {kvs:List (Key×V)} (e:H a=aa (.dK kvs)):TyOf K H (.ref a) (.type "dict")
 |dT {a:ak} {kvs:List (List Key×V)} (e:H a=aa (.dT kvs)):TyOf K H (.ref a) (.type "dict")
 |ins {a C dx:ak} {fs:List (ao×V)} (e:H a=aa (.ins C dx fs)) (cl:Cls K C) (ha:W.findIn K (.ref C) "__class__" = aa (aa (.builtin "object.__class__")))
   (hn:W.specialIn K (.builtin "object.__class__") "__get__" = aa (aa (.builtin "getset_descriptor.__get__"))) (htk:W.takesIn K (.builtin "object.__class__")=aa af)
   (hm:W.mroIn K C (.type "object")=aa af):TyOf K H (.ref a) (.ref C)
end
structure Room(k:Nat)(A:aG):Prop where
 hd:A.handled=ah
 dp:A.depth+3*k+5<eV
 un:A.units+16*k+200<bF
theorem Room.mono{j k:Nat}{A:aG}(r:Room k A)(h:j<=k):Room j A:=⟨r.hd,by have:=r.dp;omega,by have:=r.un;omega⟩
theorem Room.deeper{k:Nat}{A:aG}(r:Room (k+1) A)(env:d9):Room k (A.deeper env) :=
 ⟨r.hd,by have:=r.dp;show A.depth+1+3*k+5<_;omega,by have:=r.un;show A.units+3+16*k+200<_;omega⟩
theorem j2p {A:aG} {C:ak} {us:List aj} {kw:List (ao×aj)}:(A.under (.builtin "type.__call__" ⟨.ref C::us,kw⟩)).depth=A.depth+1:=by first|rfl|simp[gk,Code.weight,Code.isCreation,Code.isGuard,Code.isCaller,Code.frames,Code.isFrame,guardIds]
theorem j2o {A:aG} {C:ak} {us:List aj} {kw:List (ao×aj)}:(A.under (.builtin "type.__call__" ⟨.ref C::us,kw⟩)).units=A.units+1:=by first|rfl|simp[gk,Code.cUnits,Code.frames,Code.isFrame]
theorem Room.make {k:Nat} {A:aG} (r:Room (k+1) A) (C:ak) (us:List aj) (kw:List (ao×aj)):Room k (A.under (.builtin "type.__call__" ⟨.ref C::us,kw⟩)) :=
 ⟨r.hd,by have:=r.dp;rw[j2p];omega,by have:=r.un;rw[j2o];omega⟩
theorem Room.depth{k:Nat}{A:aG}(r:Room k A):A.depth<eV:=by have:=r.dp;omega
def jei:TA:=λ_ H Q=>Q [] H
def jj3(ta:TE)(tr:TA):TA:=λσ H Q=>ta σ H λx H1=>tr σ H1 λxs H2=>Q (x::xs) H2
section
variable{X:Cx}{e:ar}{es:List ar}{te:TE}{t:TA}{pos:aP}
theorem jx:PA X [] jei:=λ_ _ _ _ H Q I h=>dr ⟨[],H,I,.nil,h⟩
theorem jc(ha:PE X e te)(hr:PA X es t)(hs:ai (e::es) X.env=(ae,aB e X.env)::ai es X.env:=by rfl):PA X (e::es) (jj3 te t):=by intro pos pins s σ H Q I h;rw[hs];show ax _ _ (fQ ((ae,aB e X.env)::aT pos (ai es X.env))) _ _ s;refine cE (thn (ha pins s σ H _ I h) λu s1 ⟨x,H1,I1,r1,q1⟩=>?_);exact thn (hr pos pins s1 σ H1 _ I1 q1) λus s2 ⟨xs,H2,I2,r2,q2⟩=>⟨x::xs,H2,I2,.cons r1 r2,q2⟩
def jls(t:TA):TE:=λσ H Q=>t σ H λxs H1=>xs.length<=au/\∀p,H1 p=ah->Q (.ref p) (upd H1 p (.tup xs))
def jlx(t:TA):TE:=λσ H Q=>t σ H λxs H1=>xs.length<=au/\∀p,H1 p=ah->Q (.ref p) (upd H1 p (.lst xs))
theorem j4e{x1}(h:PA X es t):PE X (.Tuple es x1 pos) (jls t):=by intro pins s σ H Q I hq;refine wpAny_Tuple_spliced (thn (h pos pins s σ H _ I hq) λus s1 ⟨xs,H1,I1,r,z,q⟩=>⟨by rw[<-r.length];exact z,?_⟩);have hf:H1 s1.heap.objs.size=ah:=I1.hok.fresh (X6 _);refine⟨.ref s1.heap.objs.size,upd H1 s1.heap.objs.size (.tup xs),I1.laid (t':=s1.toks) (λb u e=>kj _ e) (X6 _) ?_,rfl,q _ hf⟩;exact⟨z,us,r,⟨_,xu _ rfl,rfl,_,rfl⟩,Zj.new _ _⟩
theorem jfk(h:PA X es t):PE X (.List es pos) (jlx t):=by intro pins s σ H Q I hq;refine wpAny_List_spliced (thn (h pos pins s σ H _ I hq) λus s1 ⟨xs,H1,I1,r,z,q⟩=>⟨by rw[<-r.length];exact z,?_⟩);have hf:H1 s1.heap.objs.size=ah:=I1.hok.fresh (X6 _);refine⟨.ref s1.heap.objs.size,upd H1 s1.heap.objs.size (.lst xs),I1.laid (t':=s1.toks) (λb u e=>kj _ e) (X6 _) ?_,rfl,q _ hf⟩;exact⟨z,us,0,r,xu _ rfl⟩
end
abbrev Sp:=List V->Hp->VK->XK->Prop
abbrev CXT:=List d9->Hp->aq->XK->aj->aq->Prop
structure Env0(P:ay)(w:aD)(K:k7g)(mg:k7j)(base:aH)(A:aG)(outer:List d9)(s:aq)(H:Hp):Prop where
 frames:A.frames=aa outer
 mod:Mod K mg base
 bs:∀b o,base.get? b=aa o->s.heap.get? b=aa o/\H b=ah
 bsz:base.objs.size<=s.heap.objs.size
 funs:s.heap.FunFrames base outer
 frf:∀b∈frs outer,H b=ah
 hok:HOk P w H s.heap
 bare:dR s.gens
def CE(outer:List d9)(P:ay)(w:aD)(H:Hp)(s:aq)(Q:VK)(u:aj)(s':aq):Prop :=
 ∃v H',s'.os=s.os/\dR s'.gens/\Un (frs outer) [] H H' s.heap s'.heap/\HOk P w H' s'.heap/\RelV v u/\Q v H'
def CR(CX:CXT)(outer:List d9)(P:ay)(w:aD)(H:Hp)(s:aq)(Q:VK)(E:XK)(r:eY)(s':aq):Prop :=
 match r with
 |.ok (.ret u)=>CE outer P w H s Q u s'
 |.ok _=>False
 |.error e=>CX outer H s E e s'
structure FnOk(P:ay)(w:aD)(K:k7g)(mg:k7j)(base:aH)(CX:CXT)(k:Nat)(f:ak)(fd:aL)(ps:List ao)(sp:Sp):Prop where
 len:∀vs H Q E,sp vs H Q E->vs.length=ps.length
 run:∀(A:aG)(outer:List d9)(s:aq)(H:Hp)(args:Args)(us:List aj)(vs:List V) (Q:VK) (E:XK),Room k A->Env0 P w K mg base A outer s H->fV s fd args (ps.zip us)->Vals vs us->sp vs H Q E ->
  cF (aA P w) A (.call (.ref f) args) (CR CX outer P w H s Q E) s
theorem FnOk.imp{P:ay}{w:aD}{K:k7g}{mg:k7j}{base:aH}{CX:CXT}{k:Nat}{f:ak}{fd:aL}{ps:List ao}{sp sp':Sp}(F:FnOk P w K mg base CX k f fd ps sp)
  (h:∀vs H Q E,sp' vs H Q E->sp vs H Q E):FnOk P w K mg base CX k f fd ps sp' :=
 ⟨λvs H Q E q=>F.len vs H Q E (h _ _ _ _ q),λA outer s H args us vs Q E hr he hb hv hs=>F.run A outer s H args us vs Q E hr he hb hv (h _ _ _ _ hs)⟩
theorem Env0.make{P:ay}{w:aD}{K:k7g}{mg:k7j}{base:aH}{A:aG}{outer:List d9}{s:aq}{H:Hp}(e:Env0 P w K mg base A outer s H)(C:ak)(us:List aj)(kw:List (ao×aj)) :
  Env0 P w K mg base (A.under (.builtin "type.__call__" ⟨.ref C::us,kw⟩)) outer s H:=⟨by first|exact e.frames|(simpa [gk,Code.envs,Code.isFrame,pushEnvs]using e.frames),e.mod,e.bs,e.bsz,e.funs,e.frf,e.hok,e.bare⟩
section
variable{X:Cx}{pins:k7i}{σ:St}{H:Hp}{s s':aq}
theorem Inv.env0(I:Inv X pins σ H s):Env0 X.prog X.w X.K X.mg X.base X.A X.stack s H :=
 ⟨I.ok.frames,I.ok.mod,I.bs,Xf I.ok.bsz I.sz,I.stack,I.stkFree,I.hok,I.bare⟩
theorem Inv.after{Q:VK}{u:aj}(I:Inv X pins σ H s)(h:CE X.stack X.prog X.w H s Q u s'):EP X pins σ Q u s':=by obtain⟨v,H',os,bare,un,hok,r,q⟩:=h;obtain⟨hh,g,d,t,os'⟩:=s';obtain rfl:os'=s.os:=os;exact⟨v,H',I.call (h':=hh) (g':=g) (d':=d) (t':=t) (ch:=[]) un hok bare (λb z=>absurd z (by simp)),r,q⟩
end
def jj4(sp:Sp)(dvs:List V)(E:XK)(t:TA):TE:=λσ H Q=>t σ H λvs H1=>sp (vs++dvs) H1 Q E
def jj0(C:ak)(m:ao)(sp:Sp)(dvs:List V)(E:XK)(ta:TE)(t:TA):TE:=λσ H Q=>ta σ H λx H1=>∃a dx fs,x=.ref a/\H1 a=aa (.ins C dx fs)/\fs.lookup m=ah /\
 t σ H1 λvs H2=>sp (x::(vs++dvs)) H2 Q E
def jj1(C:ak)(sp:Sp)(dvs:List V)(E:XK)(t:TA):TE:=λσ H Q=>t σ H λvs H1=>∀x dx,H1 x=ah->H1 dx=ah->dx≠x ->
 sp (.ref x::(vs++dvs)) (upd (upd H1 dx (.own x)) x (.ins C dx [])) (λv H2=>v=.non/\Q (.ref x) H2) E
def Binds(K:k7g)(fd:aL)(ps:List ao)(ds:List aj):Prop :=
 ∀(s:aq)(us:List aj),K.In s.heap->(us++ds).length=ps.length->fV s fd ⟨us,[]⟩ (ps.zip (us++ds))
theorem Binds.all{K:k7g}{fd:aL}{ps:List ao}(h:∀us:List aj,us.length=ps.length->cQ fd ⟨us,[]⟩=pure (ps.zip us)):Binds K fd ps []:=λs us _ hl=>by rw[Xo]at hl ⊢;exact .of_eq (h us hl)
def Us(CX:CXT)(X:Cx)(E:XK):Prop:=∀(pins:k7i) (σ:St) (H:Hp) (s:aq) (e:aj) (s':aq),Inv X pins σ H s->CX X.stack H s E e s'->X.xe e s'
section
variable{X:Cx}{CX:CXT}{k:Nat}{f C:ak}{fd:aL}{ps:List ao}{sp:Sp}{dvs:List V}{ds:List aj}{E:XK}{x m:ao}{p pos apos:aP}{e o:ar}{es:List ar}{ta:TE}{t:TA}
theorem j42{pins:k7i}{σ:St}{H:Hp}{s:aq}{Q:VK}{us:List aj}{vs:List V}(F:FnOk X.prog X.w X.K X.mg X.base CX k f fd ps sp)(hr:Room k X.A)(hb:Binds X.K fd ps ds)(hd:Vals dvs ds)(hx:Us CX X E)
  (I:Inv X pins σ H s) (r:Vals vs us) (h:sp (vs++dvs) H Q E):ax (aA X.prog X.w) X.A (call (.ref f) us) (EP X pins σ Q) X.xe s:=by
 have r2:Vals (vs++dvs) (us++ds):=r.append hd;have hl:(us++ds).length=ps.length:=by rw[<-r2.length];exact F.len _ _ _ _ h
 refine fF (bO (F.run X.A X.stack s H ⟨us,[]⟩ (us++ds) (vs++dvs) Q E hr I.env0 (hb s us I.kIn hl) r2 h) λr s' hq=>?_);cases r with
 |error e=>exact hx pins σ H s e s' I hq
 |ok fl =>
  cases fl with
  |ret u=>exact I.after hq
  |next=>exact aS hq
  |brk=>exact aS hq
  |cont=>exact aS hq
theorem Ui(F:FnOk X.prog X.w X.K X.mg X.base CX k f fd ps sp)(hr:Room k X.A)(hg:Gl X x)(hm:X.mg x=aa (.ref f))(hk:W.keepIn X.K (.ref f)=af)(hb:Binds X.K fd ps ds)(hd:Vals dvs ds)(hx:Us CX X E)
  (ha:PA X (e::es) t) (hdb:(x==k7k)=ae:=by decide) (he:ai (e::es) X.env=(ae,aB e X.env)::ai es X.env:=by rfl) (hpl:(aT pos (ai es X.env)).any (·.1)=ae:=by rfl) :
  PE X (.Call (.Name x p) (e::es) [] pos) (jj4 sp dvs E t):=by
 intro pins s σ H Q I h;refine aU (Zr I hg hm ?_ hdb);refine W.callWith_K (h₀:=X.base) I.ok.mod.kin hk (thn (ha pos pins s σ H _ I h) λus s1 ⟨vs,H1,I1,r,q⟩=>⟨I1.kIn,?_⟩) he hpl;exact j42 F hr hb hd hx I1 r q
theorem W4{pl:kW Bool}(he:PE X o ta)(c:Cls X.K C)(hm:Meth X.K C m f)(F:FnOk X.prog X.w X.K X.mg X.base CX k f fd ps sp)(hr:Room k X.A)(hb:Binds X.K fd ps ds)(hd:Vals dvs ds)(hx:Us CX X E)
  (ht:aB (.Call (.Attribute o m apos) [] [] pos) X.env=(do
   let ov <-aB o X.env
   fP apos.atName
   let (f,first) <-dP [ov] (ib ov m pl)
   callWith pos f first (aT pos (ai [] X.env)) (cK pos (bB [] X.env))):=by rfl) :
  PE X (.Call (.Attribute o m apos) [] [] pos) (jj0 C m sp dvs E ta jei):=by
 intro pins s σ H Q I h;refine W.methodCall_KW (pl:=pl) (thn (he pins s σ H _ I h) λu s1 ⟨x,H1,I1,rx,a,dx,fs,ex,ea,l,q⟩=>?_) ht;subst ex;obtain rfl:u=aI a:=rx;refine Bw I1 ea c hm l ?_;exact W.callWith_K0 (first:=[.ref a]) I1.kIn hm.kp (j42 (us:=[.ref a]) (vs:=[.ref a]) F hr hb hd hx I1 (.cons rfl .nil) q)
structure Mk(K:k7g)(C f:ak):Prop where
 makes:W.makesIn K C=af
 init:W.findIn K (.ref C) "__init__" = aa (aa (.ref f))
 fn:W.isFn K (.ref f)=af
 kp:W.keepIn K (.ref C)=af
theorem j7i{pins:k7i}{σ:St}{H:Hp}{s:aq}{Q:VK}{us:List aj}{vs:List V}(M:Mk X.K C f)(F:FnOk X.prog X.w X.K X.mg X.base CX k f fd ps sp)(hr:Room (k+1) X.A)(hb:Binds X.K fd ps ds)(hd:Vals dvs ds)
  (hx:Us CX X E) (I:Inv X pins σ H s) (r:Vals vs us)
  (h:∀x dx,H x=ah->H dx=ah->dx≠x->sp (.ref x::(vs++dvs)) (upd (upd H dx (.own x)) x (.ins C dx [])) (λv H2=>v=.non/\Q (.ref x) H2) E) :
  ax (aA X.prog X.w) X.A (call (.ref C) us) (EP X pins σ Q) X.xe s:=by
 have hq:=h (s.heap.objs.size+1) s.heap.objs.size (I.hok.fresh (pq _)) (I.hok.fresh (X6 _)) (X8 (Pq _));have I2:=Inv.made (C:=C) I;have r2:Vals (V.ref (s.heap.objs.size+1)::(vs++dvs)) (aI (s.heap.objs.size+1)::(us++ds)):=.cons rfl (r.append hd);have hl:(aI (s.heap.objs.size+1)::us++ds).length=ps.length:=by have e:=r2.length;rw[F.len _ _ _ _ hq]at e;exact e.symm
 refine fF (j87 (f:=f) I.kIn M.makes M.init (beq_iff_eq.mp M.fn) (bO (F.run _ X.stack _ _ ⟨aI (s.heap.objs.size+1)::us,[]⟩ (aI (s.heap.objs.size+1)::(us++ds)) _ _ E (hr.make C us [])
  (I2.env0.make C us []) (hb _ (aI (s.heap.objs.size+1)::us) I2.kIn hl) r2 hq) λr s' hq'=>?_))
 cases r with
 |error e=>exact hx pins σ _ _ e s' I2 hq'
 |ok fl =>
  cases fl with
  |ret u =>obtain⟨v,H',I3,rv,ev,q3⟩:=I2.after hq';subst ev;exact⟨rv,⟨V.ref (s.heap.objs.size+1),H',I3,rfl,q3⟩⟩
  |next=>exact aS hq'
  |brk=>exact aS hq'
  |cont=>exact aS hq'
theorem jc2(M:Mk X.K C f)(F:FnOk X.prog X.w X.K X.mg X.base CX k f fd ps sp)(hr:Room (k+1) X.A)(hg:Gl X x)(hm:X.mg x=aa (.ref C))(hb:Binds X.K fd ps ds)(hd:Vals dvs ds)(hx:Us CX X E)
  (ha:PA X (e::es) t) (hdb:(x==k7k)=ae:=by decide) (he:ai (e::es) X.env=(ae,aB e X.env)::ai es X.env:=by rfl) (hpl:(aT pos (ai es X.env)).any (·.1)=ae:=by rfl) :
  PE X (.Call (.Name x p) (e::es) [] pos) (jj1 C sp dvs E t):=by
 intro pins s σ H Q I h;refine aU (Zr I hg hm ?_ hdb);refine W.callWith_K (h₀:=X.base) I.ok.mod.kin M.kp (thn (ha pos pins s σ H _ I h) λus s1 ⟨vs,H1,I1,r,q⟩=>⟨I1.kIn,?_⟩) he hpl;exact j7i M F hr hb hd hx I1 r q
end
section
variable{X:Cx}{CX:CXT}{k:Nat}{f C:ak}{fd:aL}{ps ks:List ao}{sp:Sp}{E:XK}{x m:ao}{p pos apos kpos:aP}{e o:ar}{es:List ar}{kws:List bu}{te ta:TE}{t tk:TA}{nm:Option ao}
structure KBinds(K:k7g)(fd:aL)(ps ks:List ao)(g:List aj->List aj->List aj)(gV:List V->List V->List V):Prop where
 to:∀(s:aq)(us ws:List aj),K.In s.heap->(g us ws).length=ps.length->fV s fd ⟨us,ks.zip ws⟩ (ps.zip (g us ws))
 rel:∀{vs:List V}{us:List aj}{zs:List V}{ws:List aj},Vals vs us->Vals zs ws->Vals (gV vs zs) (g us ws)
variable{g:List aj->List aj->List aj}{gV:List V->List V->List V}
end
structure FnScope(N P:List ao)(sc:bG):Prop where
 kind:sc.kind=.function
 co:sc.isCoroutine=ae
 gen:sc.isGenerator=ae
 nd:N.Nodup
 pre:N.take P.length=P
 par:∀x∈P,sc.names.lookup x=aa .local\/sc.names.lookup x=aa .cell
 nofree:∀y∈sc.names,y.2≠.free
theorem Cp{kindOf:ao->Option bH}{x:ao}:∀{binds:List (ao×aj)} {m:k7j},(∀v,(x,v)∉binds)->ic kindOf binds m x=m x
 |[],_,_=>rfl
 |(n,v)::r,m,h=>by
  unfold ic;rw[Cp λw hw=>h w (xf _ hw)];split
  .have:x≠n:=by rintro rfl;exact h v xm
   simp[this]
  .rfl
theorem Cr{kindOf:ao->Option bH}{x:ao}:∀{binds:List (ao×aj)} {m:k7j},(∀v,(x,v)∉binds)->ie kindOf binds m x=m x
 |[],_,_=>rfl
 |(n,v)::r,m,h=>by
  unfold ie;rw[Cr λw hw=>h w (xf _ hw)];split
  .rfl
  .have:x≠n:=by rintro rfl;exact h v xm
   simp[this]
theorem Cq{kindOf:ao->Option bH}{x:ao}{v:aj}:∀{P:List ao}{vs:List aj}{i:Nat}{m:k7j},P.Nodup->P[i]?=aa x->vs[i]?=aa v->kindOf x=aa .local ->
  ic kindOf (P.zip vs) m x=aa v
 |[],_,_,_,_,h,_,_=>by simp at h
 |_::_,[],_,_,_,_,h,_=>by simp at h
 |p::P,w::vs,0,m,nd,h1,h2,hk=>by simp at h1 h2;subst h1;subst h2;show ic kindOf ((p,w)::P.zip vs) m p=_;unfold ic;rw[Cp λv hv=>(Xk.mp nd).1 (dZ hv).1,if_pos hk];simp
 |p::P,w::vs,i+1,m,nd,h1,h2,hk=>by show ic kindOf ((p,w)::P.zip vs) m x=_;unfold ic;exact Cq (i:=i) (Xk.mp nd).2 (by simpa using h1) (by simpa using h2) hk
theorem Cu{kindOf:ao->Option bH}{x:ao}{v:aj}:∀{P:List ao}{vs:List aj}{i:Nat}{m:k7j},P.Nodup->P[i]?=aa x->vs[i]?=aa v->kindOf x≠aa .local ->
  ie kindOf (P.zip vs) m x=aa v
 |[],_,_,_,_,h,_,_=>by simp at h
 |_::_,[],_,_,_,_,h,_=>by simp at h
 |p::P,w::vs,0,m,nd,h1,h2,hk=>by simp at h1 h2;subst h1;subst h2;show ie kindOf ((p,w)::P.zip vs) m p=_;unfold ie;rw[Cr λv hv=>(Xk.mp nd).1 (dZ hv).1,if_neg hk];simp
 |p::P,w::vs,i+1,m,nd,h1,h2,hk=>by show ie kindOf ((p,w)::P.zip vs) m x=_;unfold ie;exact Cu (i:=i) (Xk.mp nd).2 (by simpa using h1) (by simpa using h2) hk
noncomputable def start(N:List ao)(vs:List V):St:=vs.map aa++az (N.length-vs.length) ah
noncomputable def qz(CX:CXT)(P:ay)(w:aD)(K:k7g)(mg:k7j)(base:aH)(N:List ao)(qual:ao)(scope:bG)(f:ak)(cd:aj)(A:aG)(outer:List d9)(s:aq)(H:Hp)(E:XK):Cx where
 prog:=P
 w:=w
 K:=K
 mg:=mg
 base:=base
 A:=A.deeper (bx qual scope s.heap.objs.size f cd)
 N:=N
 s₀:=s
 H₀:=H
 env:=bx qual scope s.heap.objs.size f cd
 outer:=outer
 stack:=bx qual scope s.heap.objs.size f cd::outer
 ex:=[]
 calm:=af
 fn:=λ_=>af
 pn:=[]
 xe:=λe s'=>ax (aA P w) (A.deeper (bx qual scope s.heap.objs.size f cd)) (leaving (bx qual scope s.heap.objs.size f cd) e) (λ_ s''=>CX outer H s E e s'') (λe' s''=>CX outer H s E e' s'') s'
theorem Es{sc:bG}{n:Nat}{x:ao}(h:sc.names.lookup x=aa .cell):∃c,(aX n sc.names []).lookup x=aa c:=by have q:=W.cellsFrom_some sc.names n [] (.inl h);exact Xp.mp q
theorem j56{CX:CXT}{P:ay}{w:aD}{K:k7g}{mg:k7j}{base:aH}{N ps:List ao}{qual:ao}{scope:bG}{f:ak}{cd:aj}{A:aG}{outer:List d9}{s s1:aq}{H:Hp}{E:XK}{us:List aj}{vs:List V}
  (S:FnScope N ps scope) (cm:Bool) (hd:cm=af->A.handled=ah) (e0:Env0 P w K mg base A outer s H) (hl:vs.length=ps.length) (r:Vals vs us)
  (x:InCallC s s.heap.objs.size (ic (bx qual scope s.heap.objs.size f cd).kindOf (ps.zip us) λ_=>ah) (aX (s.heap.objs.size+1) scope.names []) (ie (bx qual scope s.heap.objs.size f cd).kindOf (ps.zip us) λ_=>ah) s1) :
  Inv { qz CX P w K mg base N qual scope f cd A outer s H E with calm:=cm } [] (start N vs) H s1:=by
 have hpl:ps.length<=N.length:=by have:=congrArg gW S.pre;rw[Xj]at this;omega
 obtain⟨h1,tk,rfl,hk⟩:=x.done;have noA:∀b:ak,b∉(qz CX P w K mg base N qual scope f cd A outer s H E).ex:=λb z=>absurd (show b∈([]:List ak)from z) (by simp);refine⟨⟨e0.mod,S.kind,rfl,rfl,X6 _,λy z c h1 h2=>?_,λy hy=>?_,λy c _ h=>?_,hd,gx e0.frames,.inr ⟨rfl,rfl⟩,λb z=>absurd z (noA b),e0.bs,e0.bsz,λb _ _=>noA b,λb z=>absurd z (noA b),e0.funs,e0.frf⟩,
  rfl,e0.bare,Un.kept hk,⟨_,x.toInCall.ns,λi y v h1 h2 h3=>?_⟩,λy c h=>⟨_,x.cell y c h⟩,e0.hok.fresh (X6 _),λy c h=>?_,λp hp=>absurd (show p∈([]:k7i)from hp) (by simp),e0.hok.kept hk,?_⟩
 .exact name_of_addr x.apart (Pa h1) (Pa h2)
 .have hy:scope.names.lookup y=aa .cell\/scope.names.lookup y=aa .free:=hy;rcases hy with hy|hy
  .exact Es hy
  .exact absurd rfl (S.nofree _ (Pa hy))
 .exact dY (x.above y c (Pa h))
 .have hi:i<vs.length:=by
   unfold start at h2;by_cases hi:i<vs.length
   .exact hi
   .rw[df (by simpa using hi)]at h2;rw[List.getElem?_replicate]at h2;split at h2<;>cases h2
  have ha:vs[i]?=aa v:=by
   unfold start at h2;rw[Pn (by simpa using hi),Xa]at h2;cases e:vs[i]? with
   |none=>rw[e]at h2;cases h2
   |some a=>rw[e]at h2;cases h2;rfl
  obtain⟨u,hu,rv⟩:=r.get ha;have hp:ps[i]?=aa y:=by rw[<-S.pre,List.getElem?_take_of_lt nofun];exact h1
  have ndP:ps.Nodup:=by rw[<-S.pre];exact S.nd.sublist (List.take_sublist _ _)
  refine⟨u,rv,?_⟩;rcases S.par y (Xl hp)with k|k
  .exact .inl ⟨k,Cq ndP hp hu k⟩
  .obtain⟨c,e⟩:=Es (n:=s.heap.objs.size+1) k;refine .inr ⟨.inl k,c,e,?_⟩;have q:=x.cell y c e;rw[Cu ndP hp hu (by show scope.names.lookup y≠_;rw[k];decide)]at q;exact q
 .exact e0.hok.fresh (dY (x.above y c (Pa h)))
 .unfold start;show _=N.length;rw[X7,km,eE];omega
theorem Inv.extOut{X:Cx}{pins:k7i}{σ:St}{H H2:Hp}{s:aq}(J:Inv X pins σ H s)(x:Ext X H H2 s):HOk X.prog X.w H2 s.heap/\(X.ex=[]->Un X.fs [] X.H₀ H2 X.s₀.heap s.heap):=by
 have old:∀b o,X.s₀.heap.get? b=aa o->H2 b=H b:=λb o e=>(x b).elim id λ⟨y,ob,v,hc,hf,_⟩=>absurd (Xn (xq e) (J.ok.cab y b hf hc)) (Pj _);have trk:∀{b:ak}{u:HO},H b=aa u->H2 b=aa u:=λ{b u} e=>(x b).elim (λz=>z.trans e) λ⟨y,ob,v,hc,_⟩=>by rw[J.freeC y b hc]at e;cases e
 refine⟨λa o e=>?_,λhx=>?_⟩
 .rcases x a with z|⟨y,ob,v,_,_,e2,e3,_⟩
  .exact(J.hok a o (z▸e)).stay (λ_ _ _ q=>q) (λ_ q=>trk q) (λ_ _ q=>trk q) λ_ _ _ q=>trk q
  .rw[e2]at e;cases e;exact⟨e3,ob,e3⟩
 .have nx:∀b,b∉X.ex:=λb=>by rw[hx];simp
  exact⟨λb o e n hb _=>J.base.keep b o e n hb (nx b),λb o e n hb _=>J.base.slot b o e n hb (nx b),λb o e n _=>(old b o e).trans (J.base.free b o e n (nx b)),λb o e _=>J.base.there b o e (nx b),
   λb xs e=>trk (J.base.tups b xs e),λb o u e=>trk (J.base.frzs b o u e),λb ps e=>let ⟨m,z⟩:=J.base.tbls b ps e;⟨m,trk z⟩⟩
theorem Ly{CX:CXT}{P:ay}{w:aD}{K:k7g}{mg:k7j}{base:aH}{k:Nat}{f:ak}{name qual:ao}{params:ig}{body:List aQ}{scope:bG}{dV kV doc pm cdv ct oc:aj}{an od:Option ak}
  {osl:Array (Option aj)} {N ps:List ao} {sp:Sp} (lk:K.lookup f=aa ⟨oc,od,.func (W.fnOf name qual params body scope dV kV doc pm an cdv ct),osl⟩) (hcd:W.codeIn K cdv qual=af) (S:FnScope N ps scope)
  (len:∀vs H Q E,sp vs H Q E->vs.length=ps.length)
  (hbody:∀(A:aG)(outer:List d9)(s:aq)(H:Hp)(vs:List V)(Q:VK)(E:XK),Room k (A.deeper (bx qual scope s.heap.objs.size f cdv))->sp vs H Q E ->
   ∃t,PSs (qz CX P w K mg base N qual scope f cdv A outer s H E) body t/\t { nx:=λ_ H'=>Q .non H',rt:=Q } (start N vs) H) :
  FnOk P w K mg base CX (k+1) f (W.fnOf name qual params body scope dV kV doc pm an cdv ct) ps sp:=by
 refine⟨len,λA outer s H args us vs Q E hr e0 hb r hsp=>?_⟩;have hl:=len _ _ _ _ hsp;have KX:K.In s.heap:=e0.mod.kin.keeps λb o e=>(e0.bs b o e).1;have lim:s.heap.NoLimit:=e0.mod.nolimit.keeps λb o e=>(e0.bs b o e).1;have hkind:∀y∈ps.zip us,scope.names.lookup y.1=aa .local\/(scope.names.lookup y.1=aa .cell/\((aX (s.heap.objs.size+1) scope.names []).lookup y.1).isSome=af):=λ⟨n,v⟩ hy=>by
  rcases S.par n (dZ hy).1 with q|q
  .exact .inl q
  .exact .inr ⟨q,W.cellsFrom_some _ _ _ (.inl q)⟩
 refine codeAny_call_function hr.depth (KX _ _ lk) rfl S.co S.gen rfl (W.codeRec_of KX hcd) (hb _ _ _ _ ?_);refine wpAny_newFunctionEnv_cells S.kind hkind λenv he s1 x=>?_;subst he;refine⟨lim.keeps x.toInCall.keep,codeAny_func ?_⟩;obtain⟨t,ht,hq⟩:=hbody A outer s H vs Q E (hr.deeper _) hsp;have I:Inv (qz CX P w K mg base N qual scope f cdv A outer s H E) [] (start N vs) H s1:=j56 S af (λ_=>hr.hd) e0 hl r x;refine bR (ht [] s1 (start N vs) H _ I hq) (λfl s' hs=>?_) λe s' hs=>hs;have fin:∀{σ':St}{H':Hp}{v:V}{u:aj},Inv (qz CX P w K mg base N qual scope f cdv A outer s H E) [] σ' H' s'->RelV v u->Q v H'->CE outer P w H s Q u s' :=
  λ{σ' H' v u} J rv q=>⟨v,H',J.os,J.bare,J.base,J.hok,rv,q⟩
 cases fl with
 |ret u =>obtain⟨v,σ',H',H2,J,rv,x,q⟩:=hs;exact⟨v,H2,J.os,J.bare,(J.extOut x).2 rfl,(J.extOut x).1,rv,q⟩
 |next =>obtain⟨σ',H',J,q⟩:=hs;exact fin (v:=V.non) (u:=b7) J rfl q
 |brk =>obtain⟨_,_,_,q⟩:=hs;exact aS q
 |cont =>obtain⟨_,_,_,q⟩:=hs;exact aS q
section
variable{X:Cx}{x:ao}{p pos:aP}{e:ar}{es:List ar}{t:TA}{id T:String}{r:List V->Hp->VK->Prop}
def tCB(r:List V->Hp->VK->Prop)(t:TA):TE:=λσ H Q=>t σ H λvs H1=>r vs H1 Q
theorem v8 (hc:J9 X (.builtin id) r) (hg:Gl X x) (hm:X.mg x=ah) (hv:bg x=aa (.builtin id)) (ha:PA X (e::es) t) (hn:x ≠ "__name__":=by decide) (hdb:(x==k7k)=ae:=by decide)
  (he:ai (e::es) X.env=(ae,aB e X.env)::ai es X.env:=by rfl) (hpl:(aT pos (ai es X.env)).any (·.1)=ae:=by rfl):PE X (.Call (.Name x p) (e::es) [] pos) (tCB r t):=by
 intro pins s σ H Q I h;refine aU (J7 I hg hm hv ?_ hn hdb);exact callWith_builtin1 (thn (ha pos pins s σ H _ I h) λus s1 ⟨vs,H1,I1,r1,q1⟩=>hc pins s1 σ H1 vs us Q I1 r1 q1) he hpl
theorem V6 (hc:J9 X (.type T) r) (hg:Gl X x) (hm:X.mg x=ah) (hv:bg x=aa (.type T)) (ha:PA X (e::es) t) (hn:x ≠ "__name__":=by decide) (hdb:(x==k7k)=ae:=by decide)
  (he:ai (e::es) X.env=(ae,aB e X.env)::ai es X.env:=by rfl) (hpl:(aT pos (ai es X.env)).any (·.1)=ae:=by rfl):PE X (.Call (.Name x p) (e::es) [] pos) (tCB r t):=by
 intro pins s σ H Q I h;refine aU (J7 I hg hm hv ?_ hn hdb);exact callWith_type1 (thn (ha pos pins s σ H _ I h) λus s1 ⟨vs,H1,I1,r1,q1⟩=>hc pins s1 σ H1 vs us Q I1 r1 q1) he hpl
end
end L2
namespace HT
open PySem PyProof.Rows
noncomputable def lexLt:List Int->List Int->Bool
 |[],[]=>ae
 |[],_::_=>af
 |_::_,[]=>ae
 |x::xs,y::ys=>if x=y then lexLt xs ys else decide (x<y)
section
open PySem.SeqAt
open PySem.AutoSeq1 (wpAny_loadPart')
open PySem.MeetsSeq PySem.MeetsSeq2 PySem.MeetsSeq3
end
section
variable{prog:ay}{w:aD}{A:aG}{E:k7h}{s:aq}
theorem cat_tup{t b:ak}{vs ws:List aj}{Q:k7h}(ht:ij s.heap t vs.toArray)(hb:ij s.heap b ws.toArray)(hv:vs≠[])
  (h1:ws=[]->Q (.ref t) s) (h2:ws≠[]->Q (.ref s.heap.objs.size) { s with heap:=s.heap.push { cls:=.type "tuple",data:=.seq (vs++ws).toArray } })
  (hsz:vs.length+ws.length<=au):ax (aA prog w) A (bh .Add (.ref t) (.ref b)) Q E s:=by
 obtain⟨⟨cls,dd,data,sl⟩,ho,hc,n,hd⟩:=id ht;obtain⟨⟨cls2,dd2,data2,sl2⟩,ho2,hc2,n2,hd2⟩:=id hb;simp only at hc hd hc2 hd2;subst hc hd hc2 hd2;have e:vs.toArray++ws.toArray=(vs++ws).toArray:=by simp
 by_cases hw:ws=[]
 .exact fR ⟨_,ho,rfl⟩ ⟨_,ho2,rfl⟩ gc i3 dF dw (di _ _)
   (tuple_addW1 t b vs.toArray ws.toArray n n2 dd dd2 sl sl2 (by simpa using hv) (by simp[hw])) ⟨ho,ho2,h1 hw⟩
 .refine fR ⟨_,ho,rfl⟩ ⟨_,ho2,rfl⟩ gc i3 dF dw (di _ _)
   (tuple_addW2 t b vs.toArray ws.toArray n n2 dd dd2 sl sl2 (by simpa using hv) (by simpa using hw) (by rw[X4,X4];exact hsz)) ⟨ho,ho2,?_⟩
  rw[e];exact h2 hw
noncomputable def sIx(n d:Nat):Option Int->Nat
 |none=>d
 |some v=>if v<0 then(v+(n:Int)).toNat else min v.toNat n
theorem jez(n d:Nat)(hd:d<=n)(o:Option Int):sIx n d o<=n:=by
 cases o with
 |none=>exact hd
 |some v =>
  show(if v<0 then(v+(n:Int)).toNat else min v.toNat n)<=n;by_cases hv:v<0
  .rw[if_pos hv];omega
  .rw[if_neg hv];exact Nat.min_le_right _ _
theorem j1h(v:Int)(n d:Nat):(if v<0 then max (v+(n:Int)) 0 else min v (n:Int))=((sIx n d (aa v):Nat):Int):=by
 show(if v<0 then max (v+(n:Int)) 0 else min v (n:Int))=(((if v<0 then(v+(n:Int)).toNat else min v.toNat n):Nat):Int)
 by_cases hv:v<0
 .simp only[if_pos hv];omega
 .simp only[if_neg hv];omega
theorem j3e(lo hi:Option Int)(n:Nat):cP lo hi 1 (n:Int)=(((sIx n 0 lo:Nat):Int),((sIx n n hi:Nat):Int)):=by
 have h1:¬((1:Int)<0):=by omega
 unfold cP;simp only[h1,if_false];refine Prod.ext ?_ ?_
 .cases lo with
  |none=>rfl
  |some v=>exact j1h v n 0
 .cases hi with
  |none=>rfl
  |some v=>exact j1h v n n
theorem j2b(i j:Nat):bY (i:Int) (j:Int) 1=j-i:=by
 unfold bY;have h1:(1:Int)>0:=by omega
 simp only[h1,if_true,Int.ediv_one];split<;>omega
theorem Bh{v:aj}{o:Option Int}{Q:Option Int->aq->Prop}(p:eZ v o)(h:Q o s):ax (aA prog w) A (kg v) Q E s:=by
 cases p with
 |none=>exact lI h
 |int i t=>exact slicePart_int h
theorem Oc{sl:ak}{vl vu:aj}{lo hi:Option Int}{n:Nat}{Q:Int×Int×Nat->aq->Prop}(hs:s.heap.IsSliceOf sl vl vu .none)(pl:eZ vl lo)(pu:eZ vu hi)
  (h:Q (((sIx n 0 lo:Nat):Int),1,sIx n n hi-sIx n 0 lo) s):ax (aA prog w) A (eR (.ref sl) (pure (n:Int))) Q E s:=by
 obtain⟨os,hos,hcs,hds⟩:=id hs;unfold eR ki;refine ag (ag (aR hos hds (x:=vl) rfl (ag (aR hos hds (x:=vu) rfl (ag (aR hos hds (x:=.none) rfl (av ?_)))))));refine ag (lI ?_);show ax _ _ (if ((1:Int)==0)=af then _ else _) _ _ s;rw[if_neg (by decide)];refine ag (Bh pl (ag (Bh pu (ag (av ?_)))));show ax _ _ (match cP lo hi 1 (n:Int)with|(lo,hi)=>pure (lo,(1:Int),bY lo hi 1)) _ _ s;rw[j3e lo hi n];show ax _ _ (pure (((sIx n 0 lo:Nat):Int),(1:Int),bY ((sIx n 0 lo:Nat):Int) ((sIx n n hi:Nat):Int) 1)) _ _ s;rw[j2b];exact av h
theorem j7v(xs:Array aj)(i k:Nat):((aK k).filterMap λ(m:Nat)=>xs[((i:Int)+(m:Int)*1).toNat]?).toArray=((xs.toList.drop i).take k).toArray:=by
 have e:(λ(m:Nat)=>xs[((i:Int)+(m:Int)*1).toNat]?)=λm=>xs[i+m]?:=by
  funext m
  have:((i:Int)+(m:Int)*1).toNat=i+m:=by omega
  rw[this]
 rw[e];have:=pick_run xs i k;rw[List.filterMap_map]at this;have e2:((λx=>xs[x]?) ∘ λx=>i+x)=λm=>xs[i+m]?:=rfl;rw[e2]at this;rw[this]
theorem getItem_tuple_cut{t sl:ak}{items:Array aj}{vl vu:aj}{lo hi:Option Int}{Q:k7h}(ht:ij s.heap t items)(hs:s.heap.IsSliceOf sl vl vu .none)(pl:eZ vl lo)(pu:eZ vu hi)
  (hw:¬(sIx items.size 0 lo=0/\sIx items.size items.size hi=items.size))
  (h:Q (.ref s.heap.objs.size) { s with heap:=s.heap.push { cls:=.type "tuple",data:=.seq ((items.toList.drop (sIx items.size 0 lo)).take (sIx items.size items.size hi-sIx items.size 0 lo)).toArray } })
  (hsz:items.size<=au):ax (aA prog w) A (iD (.ref t) (.ref sl)) Q E s:=by
 have htake:sizeOk (.seq ((items.toList.drop (sIx items.size 0 lo)).take (sIx items.size items.size hi-sIx items.size 0 lo)).toArray):=by show((items.toList.drop (sIx items.size 0 lo)).take (sIx items.size items.size hi-sIx items.size 0 lo)).toArray.size<=au;rw[X4,Xj,P0,cW];omega
 have hj:sIx items.size items.size hi<=items.size:=jez _ _ (X6 _) hi;obtain⟨os,hos,hcs,hds⟩:=id hs;have hTs:s.TypeIs (.ref sl) "slice":=⟨os,hos,hcs⟩
 unfold iD
 try with_reducible refine b0 ?_
 first|refine ag (av ?_)|skip
 refine ag (wpAny_sequenceKey ht.typeIs (by decide) ?_);refine ag (bc (name:=aW "__getitem__") ht.typeIs jH
  (bW jH ht.typeIs entry_tuple_getitem ?_ (args_tuple_getitem _ _)))
 show ax _ _ (ke (.ref t) >>= _) _ _ s;refine ag (tupleItemsOf_ ht ?_);refine ag (iz hTs ?_);rw[if_pos (by decide)];refine ag (Oc hs pl pu ?_);have hno:¬((((sIx items.size 0 lo:Nat):Int)==0&&(1:Int)==1&&(sIx items.size items.size hi-sIx items.size 0 lo)==items.size)=af):=by intro q;rw[Xb,Xb]at q;have q1:((sIx items.size 0 lo:Nat):Int)=0:=eq_of_beq q.1.1;have q2:sIx items.size items.size hi-sIx items.size 0 lo=items.size:=eq_of_beq q.2;exact hw ⟨by omega,by omega⟩
 show ax _ _ (if (((sIx items.size 0 lo:Nat):Int)==0&&(1:Int)==1&&(sIx items.size items.size hi-sIx items.size 0 lo)==items.size)=af then _ else _) _ _ s;rw[if_neg hno,j7v]
 first
  |exact ag (m:=c7 _) (bN (av ⟨_,rfl,av h⟩) htake)
  |exact ag (m:=c7 _) (bN (ag (av (av ⟨_,rfl,av h⟩))) htake)
  |exact ag (ag (m:=c7 _) (bN (av (av ⟨_,rfl,av h⟩)) htake))
  |exact ag (ag (m:=c7 _) (bN (av ⟨_,rfl,av h⟩) htake))
end
end HT
namespace L2
open PySem PySem.Spec PyProof.Rows
abbrev TO:=St->Hp->(Option Int->Hp->Prop)->Prop
def PO(X:Cx)(e:Option ar)(t:TO):Prop :=
 ∀(pins:k7i) (s:aq) (σ:St) (H:Hp) (Q:Option Int->Hp->Prop),Inv X pins σ H s->t σ H Q ->
  ax (aA X.prog X.w) X.A (evalPart e X.env) (λu s'=>∃o H',Inv X pins σ H' s'/\eZ u o/\Q o H') X.xe s
def jbd:TO:=λ_ H Q=>Q ah H
def jiy(t:TE):TO:=λσ H Q=>t σ H λx H1=>∃i,x=.int i/\Q (aa i) H1
section
variable{X:Cx}{e:ar}{te:TE}{lo hi:Option ar}{tl th:TO}{pos p2:aP}
theorem jc0:PO X ah jbd:=by intro pins s σ H Q I h;rw[lL];exact av ⟨ah,H,I,.none,h⟩
theorem jbz(h:PE X e te):PO X (aa e) (jiy te):=by intro pins s σ H Q I hw;rw[evalPart_some];refine thn (h pins s σ H _ I hw) λu s1 ⟨x,H1,I1,r1,q1⟩=>?_;obtain⟨i,rfl,q⟩:=q1;obtain⟨t,rfl⟩:=r1;exact⟨aa i,H1,I1,.int i t,q⟩
def SlR(X:Cx)(r:V->Option Int->Option Int->Hp->VK->Prop):Prop :=
 ∀(pins:k7i) (s:aq) (σ:St) (H:Hp) (x:V) (v vl vu:aj) (lo hi:Option Int) (sl:ak) (Q:VK),Inv X pins σ H s->RelV x v->s.heap.IsSliceOf sl vl vu .none->eZ vl lo->eZ vu hi->r x lo hi H Q ->
  ∃T id,jE (.type T) "__getitem__" = pure (aa (.builtin id))/\s.TypeIs v T/\ax (aA X.prog X.w) X.A (iD v (.ref sl)) (EP X pins σ Q) X.xe s
def tSl(r:V->Option Int->Option Int->Hp->VK->Prop)(te:TE)(tl th:TO):TE:=λσ H Q=>te σ H λx H1=>tl σ H1 λl H2=>th σ H2 λu H3=>r x l u H3 Q
theorem Og{r:V->Option Int->Option Int->Hp->VK->Prop}(hr:SlR X r)(he:PE X e te)(hl:PO X lo tl)(hu:PO X hi th):PE X (.Subscript e (.Slice lo hi ah p2) pos) (tSl r te tl th):=by intro pins s σ H Q I h;refine Subscript_ (thn (he pins s σ H _ I h) λv s1 ⟨x,H1,I1,r1,q1⟩=>?_);refine wpAny_Slice (thn (hl pins s1 σ H1 _ I1 q1) λvl s2 ⟨l,H2,I2,pl,q2⟩=>thn (hu pins s2 σ H2 _ I2 q2) λvu s3 ⟨u,H3,I3,pu,q3⟩=>?_);rw[lL];refine av ?_;have I4:Inv X pins σ H3 { s3 with heap:=s3.heap.push { cls:=.type "slice",data:=.fields #[vl,vu,.none] } }:=I3.kept (t':=s3.toks) λb ob q=>kj _ q;obtain⟨T,id,hT,ht,hg⟩:=hr pins { s3 with heap:=s3.heap.push { cls:=.type "slice",data:=.fields #[vl,vu,.none] } } σ H3 x v vl vu l u s3.heap.objs.size Q I4 r1 (Heap.IsSliceOf.new ..) pl pu q3;show ax (aA X.prog X.w) X.A (lO e (.Slice lo hi ah p2) v (.ref s3.heap.objs.size)) (EP X pins σ Q) X.xe { s3 with heap:=s3.heap.push { cls:=.type "slice",data:=.fields #[vl,vu,.none] } };exact lH (ops:=[.ref s3.heap.objs.size,v]) ht hT hg (by with_unfolding_all rfl)
noncomputable def Rr(xs:List V)(lo hi:Option Int):List V:=(xs.drop (HT.sIx xs.length 0 lo)).take (HT.sIx xs.length xs.length hi-HT.sIx xs.length 0 lo)
theorem O6(xs:List V)(lo hi:Option Int):(Rr xs lo hi).length<=xs.length:=by unfold Rr;rw[Xj,P0];omega
def jma(K:k7g):V->Option Int->Option Int->Hp->VK->Prop:=λx lo hi H Q=>∃a xs,x=.ref a/\SqT K H a xs /\
 ¬(HT.sIx xs.length 0 lo=0/\HT.sIx xs.length xs.length hi=xs.length)/\∀p,H p=ah->Q (.ref p) (upd H p (.tup (Rr xs lo hi)))
theorem jeo:SlR X (jma X.K):=by
 intro pins s σ H x v vl vu lo hi sl Q I rx hs pl pu h;obtain⟨a,xs,rfl,hx,hw,q⟩:=h;cases rx;obtain⟨its,r,ht,hz⟩:=I.tuple hx;have hlen:its.toArray.size=xs.length:=by rw[X4];exact r.length.symm
 refine⟨"tuple",_,slot_tuple_getitem.lookup,ht.typeIs,?_⟩;refine HT.getItem_tuple_cut ht hs pl pu (by rw[hlen];exact hw) ?_ (by rw[hlen];exact hz);rw[hlen];refine⟨.ref s.heap.objs.size,_,I.laid (t':=s.toks) (o:=.tup (Rr xs lo hi)) (λb ob q=>kj _ q) (X6 _) ?_,rfl,q _ (I.hok.fresh (X6 _))⟩;exact⟨Xf (O6 xs lo hi) hz,_,(r.drop (HT.sIx xs.length 0 lo)).take (HT.sIx xs.length xs.length hi-HT.sIx xs.length 0 lo),IsTup.new _ _,Zj.new _ _⟩
def jji(K:k7g):R2:=λx y H Q=>∃a b xs ys,x=.ref a/\y=.ref b/\SqT K H a xs/\SqT K H b ys/\xs≠[]/\xs.length+ys.length<=au /\
 (ys=[]->Q (.ref a) H)/\(ys≠[]->∀p,H p=ah->Q (.ref p) (upd H p (.tup (xs++ys))))
theorem Vals.nil_iff{xs:List V}{us:List aj}(r:Vals xs us):us=[]↔xs=[]:=by
 cases r with
 |nil=>simp
 |cons _ _=>simp
theorem jc9:OpR X (bh .Add) (jji X.K):=by intro pins s σ H x y v u Q I rx ry h;obtain⟨a,b,xs,ys,rfl,rfl,ha,hb,hx,hz,q1,q2⟩:=h;cases rx;cases ry;obtain⟨its,r1,p1,_⟩:=I.tuple ha;obtain⟨its2,r2,p2,_⟩:=I.tuple hb;refine HT.cat_tup p1 p2 (λz=>hx (r1.nil_iff.mp z)) (λz=>⟨.ref a,H,I,rfl,q1 (r2.nil_iff.mp z)⟩) (λz=>?_) (by rw[<-r1.length,<-r2.length];exact hz);refine⟨.ref s.heap.objs.size,_,I.laid (t':=s.toks) (o:=.tup (xs++ys)) (λb ob q=>kj _ q) (X6 _) ?_,rfl,q2 (λw=>z (r2.nil_iff.mpr w)) _ (I.hok.fresh (X6 _))⟩;exact⟨by rw[X7];exact hz,_,r1.append r2,IsTup.new _ _,Zj.new _ _⟩
end
noncomputable def ixN(n:Nat)(i:Int):Option Nat:=if 0<=i then(if i<n then aa i.toNat else ah)else if -(n:Int)<=i then aa (i+n).toNat else ah
noncomputable def atI{α:Type}(xs:List α)(i:Int):Option α:=(ixN xs.length i).bind λj=>xs[j]?
theorem jcr{n:Nat}{i:Int}{j:Nat}(h:ixN n i=aa j):seqIndex? i n=aa j/\j<n/\-(n:Int)<=i/\i<n:=by
 unfold ixN at h;by_cases h0:0<=i
 .rw[if_pos h0]at h;by_cases h1:i<n
  .rw[if_pos h1]at h;have e:i.toNat=j:=aC h;exact⟨by rw[seqIndex_of h0 h1,e],by omega,by omega,h1⟩
  .rw[if_neg h1]at h;cases h
 .rw[if_neg h0]at h;by_cases h1:-(n:Int)<=i
  .rw[if_pos h1]at h;have e:(i+n).toNat=j:=aC h;exact⟨by rw[seqIndex_neg nofun h1,e],by omega,h1,by omega⟩
  .rw[if_neg h1]at h;cases h
theorem Dh{α:Type}{xs:List α}{i:Int}{v:α}(h:atI xs i=aa v):∃j,seqIndex? i xs.length=aa j/\xs[j]?=aa v/\j<xs.length/\-(xs.length:Int)<=i/\i<xs.length:=by
 unfold atI at h;cases e:ixN xs.length i with
 |none=>rw[e]at h;cases h
 |some j =>rw[e]at h;obtain⟨h1,h2,h3,h4⟩:=jcr e;exact⟨j,h1,h,h2,h3,h4⟩
theorem Mr{α:Type}{xs:List α}{j:Nat}{v:α}(h:xs[j]?=aa v):atI xs (j:Int)=aa v:=by
 have hj:j<xs.length:=(Xe.mp h).1;have e:ixN xs.length (j:Int)=aa j:=by unfold ixN;rw[if_pos nofun,if_pos nofun];simp
 unfold atI;rw[e];exact h
def Y4(b:ar):Prop:=∀o i,subscripted b ae o i=operate [o,i] (iD o i)
def IxR(X:Cx)(r:R2):Prop :=
 ∀(value slice:ar)(pins:k7i) (s:aq) (σ:St) (H:Hp) (x y:V) (v u:aj) (Q:VK),Inv X pins σ H s->RelV x v->RelV y u->r x y H Q ->
  subscripted slice ae v u=operate [v,u] (iD v u)->ax (aA X.prog X.w) X.A (lO value slice v u) (EP X pins σ Q) X.xe s
def MtR(X:Cx)(id:String)(r:V->List V->Hp->VK->Prop):Prop :=
 ∀(pins:k7i) (s:aq) (σ:St) (H:Hp) (x:V) (xs:List V) (v:aj) (us:List aj) (Q:VK),Inv X pins σ H s->RelV x v->Vals xs us->r x xs H Q ->
  ax (aA X.prog X.w) X.A (call (.builtin id) (v::us)) (EP X pins σ Q) X.xe s
section
variable{X:Cx}{a b:ar}{ta tb:TE}{pos:aP}
theorem M7{r:R2}(hr:IxR X r)(ha:PE X a ta)(hb:PE X b tb)(hs:Y4 b):PE X (.Subscript a b pos) (tOp r ta tb):=by intro pins s σ H Q I h;exact Subscript_ (j9m ha hb I h λv u s2 x y H2 I2 rx ry q=>hr a b pins s2 σ H2 x y v u Q I2 rx ry q (hs _ _))
def jf8(K:k7g):R2:=λx y H Q=>∃p xs i v,x=.ref p/\y=.int i/\SqL K H p xs/\atI xs i=aa v/\Q v H
def jf6(K:k7g):R2:=λx y H Q=>∃p xs i v,x=.ref p/\y=.int i/\SqT K H p xs/\atI xs i=aa v/\Q v H
def jf7:R2:=λx y H Q=>∃z i c,x=.str z/\y=.int i/\z.length<=au/\atI z.cps.toList i=aa c/\Q (.str ⟨#[c]⟩) H
theorem j15:IxR X (jf8 X.K):=by
 intro value slice pins s σ H x y v u Q I rx ry h hs;obtain⟨p,xs,i,z,rfl,rfl,hq,he,q⟩:=h;cases rx;obtain⟨t,rfl⟩:=ry;obtain⟨its,r,pl,hz⟩:=I.list hq;obtain⟨j,h1,h2,h3,h4,h5⟩:=Dh he;obtain⟨w,ew,rw'⟩:=r.get h2;have hl:=r.length;have hn:=Rm;have fin:EP X pins σ Q w s:=⟨z,H,I,rw',q⟩
 by_cases h0:0<=i
 .have hj:i.toNat=j:=by rw[seqIndex_of h0 h5]at h1;exact aC h1
  exact item_listR pl.isList h0 nofun (by rw[hj];simpa using ew) fin hs
 .have hj:(i+(its.toArray.size:Int)).toNat=j:=by rw[seqIndex_neg nofun h4]at h1;rw[X4,<-hl];exact aC h1
  exact iG (x:=w) pl.isList.typeIs slot_list_getitem.lookup
   (wpAny_getItem_list_neg (Q:=λr s'=>r=w/\EP X pins σ Q r s') pl.isList nofun (by rw[X4]<;>omega) nofun (by rw[hj];simpa using ew) ⟨rfl,fin⟩) hs
theorem j52:IxR X (jf6 X.K):=by
 intro value slice pins s σ H x y v u Q I rx ry h hs;obtain⟨p,xs,i,z,rfl,rfl,hq,he,q⟩:=h;cases rx;obtain⟨t,rfl⟩:=ry;obtain⟨its,r,pl,hz⟩:=I.tuple hq;obtain⟨j,h1,h2,h3,h4,h5⟩:=Dh he;obtain⟨w,ew,rw'⟩:=r.get h2;have hl:=r.length;have hn:=Rm;have fin:EP X pins σ Q w s:=⟨z,H,I,rw',q⟩
 exact iG (x:=w) pl.typeIs slot_tuple_getitem.lookup
  (getItem_tuple (j:=j) (Q:=λr s'=>r=w/\EP X pins σ Q r s') pl nofun nofun (by rw[X4,<-hl];exact h1) (by simpa using ew) ⟨rfl,fin⟩) hs
theorem jgn:IxR X jf7:=by
 intro value slice pins s σ H x y v u Q I rx ry h hs;obtain⟨z,i,c,rfl,rfl,hz,he,q⟩:=h;obtain⟨t,rfl⟩:=rx;obtain⟨t',rfl⟩:=ry;obtain⟨j,h1,h2,h3,h4,h5⟩:=Dh he;have hl:z.cps.toList.length=z.length:=by simp[ly]
 rw[hl]at h1 h4 h5;have hn:=Rm;exact lH (cX s z t) slot_str_getitem.lookup (getItem_str (c:=c) (by
  have e1:decide (i < -(2^63:Int))=ae:=decide_eq_false nofun
  have e2:decide (i>=2^63)=ae:=decide_eq_false nofun
  rw[e1,e2,gq]) (by rw[h1];simpa using h2) ⟨.str ⟨#[c]⟩,H,I.tok _,⟨_,rfl⟩,q⟩) hs
theorem Kf(lo hi:Option Int)(n:Nat):(d5 lo hi ah n).1=((HT.sIx n 0 lo:Nat):Int)/\(d5 lo hi ah n).2.1=((HT.sIx n n hi:Nat):Int)/\(d5 lo hi ah n).2.2=1:=by
 refine⟨?_,?_,rfl⟩
 .cases lo with
  |none=>simp[d5,HT.sIx]
  |some i =>
   simp only[d5,HT.sIx,fb,show(1:Int)>0 by decide,if_true];by_cases h:i<0
   .simp only[h,if_true]<;>omega
   .simp only[h,if_false]<;>omega
 .cases hi with
  |none=>simp[d5,HT.sIx]
  |some i =>
   simp only[d5,HT.sIx,fb,show(1:Int)>0 by decide,if_true];by_cases h:i<0
   .simp only[h,if_true]<;>omega
   .simp only[h,if_false]<;>omega
theorem Lb(its:List aj)(lo hi:Option Int):slicePick its.toArray lo hi ah=((its.drop (HT.sIx its.length 0 lo)).take (HT.sIx its.length its.length hi-HT.sIx its.length 0 lo)).toArray:=by obtain⟨h1,h2,h3⟩:=Kf lo hi its.toArray.size;unfold slicePick;rw[h1,h2,h3];simp only[sliceRange_one,pick_run,X4]<;>rfl
def jmc(K:k7g):V->Option Int->Option Int->Hp->VK->Prop:=λx lo hi H Q=>∃a xs,x=.ref a/\SqL K H a xs/\∀p,H p=ah->Q (.ref p) (upd H p (.lst (Rr xs lo hi)))
theorem jbe:SlR X (jmc X.K):=by intro pins s σ H x v vl vu lo hi sl Q I rx hs pl pu h;obtain⟨a,xs,rfl,hx,q⟩:=h;cases rx;obtain⟨its,r,ht,hz⟩:=I.list hx;have hlen:=r.length;refine⟨"list",_,slot_list_getitem.lookup,ht.isList.typeIs,?_⟩;refine wpAny_getItem_list_slice ht.isList hs pl pu .none (by simp) ?_ (by rw[X4]<;>omega);rw[Lb,<-hlen];refine⟨.ref s.heap.objs.size,_,I.laid (t':=s.toks) (o:=.lst (Rr xs lo hi)) (λb ob q=>kj _ q) (X6 _) ?_,rfl,q _ (I.hok.fresh (X6 _))⟩;exact⟨Xf (O6 xs lo hi) hz,_,0,(r.drop (HT.sIx xs.length 0 lo)).take (HT.sIx xs.length xs.length hi-HT.sIx xs.length 0 lo),xu _ rfl⟩
theorem Zf:J9 X (.builtin "len") (λxs H Q=>∃p ys,xs=[.ref p]/\(SqL X.K H p ys\/SqT X.K H p ys)/\Q (.int ys.length) H):=by
 intro pins s σ H xs us Q I r h;obtain⟨p,ys,rfl,hq,q⟩:=h;obtain⟨u,rfl,rx⟩:=vals1 r;cases rx;have hn:=Rm;rcases hq with hq|hq
 .obtain⟨its,r',pl,hz⟩:=I.list hq;have hlen:=r'.length;exact Calls.call_len_list pl.isList (by simp only[X4]<;>omega) ⟨.int ys.length,H,I.tok _,⟨s.toks+1,by rw[X4,hlen]⟩,q⟩
 .obtain⟨its,r',pl,hz⟩:=I.tuple hq;have hlen:=r'.length;exact len_tuple pl (by simp only[X4]<;>omega) ⟨.int ys.length,H,I.tok _,⟨s.toks+1,by rw[X4,hlen]⟩,q⟩
theorem Ew:J9 X (.builtin "len") (λxs H Q=>∃z,xs=[.str z]/\z.length<=au/\Q (.int z.length) H):=by intro pins s σ H xs us Q I r h;obtain⟨z,rfl,hz,q⟩:=h;obtain⟨u,rfl,t,rfl⟩:=vals1 r;have hn:=Rm;exact len_str nofun ⟨.int z.length,H,I.tok _,⟨_,rfl⟩,q⟩
theorem Eu:J9 X (.type "list") (λxs H Q=>∃p ys,xs=[.ref p]/\(SqL X.K H p ys\/SqT X.K H p ys)/\∀l,H l=ah->Q (.ref l) (upd H l (.lst ys))):=by
 intro pins s σ H xs us Q I r h;obtain⟨p,ys,rfl,hq,q⟩:=h;obtain⟨u,rfl,rx⟩:=vals1 r;cases rx;have fin:∀(its:List aj),Vals ys its->ys.length<=au->∀(h':aH)(c':Nat),(∀b o',s.heap.get? b=aa o'->h'.get? b=aa o') ->
   h'.get? s.heap.objs.size=aa { cls:=.type "list",dict:=ah,data:=.seq its.toArray c',slots:=#[] }->EP X pins σ Q (.ref s.heap.objs.size) { s with heap:=h' }:=λits r' hz h' c' kp e =>
  ⟨.ref s.heap.objs.size,_,I.laid (t':=s.toks) kp (X6 _) (show jw X.prog X.w _ h' _ (.lst ys) from⟨hz,its,c',r',e⟩),rfl,q _ (I.hok.fresh (X6 _))⟩
 rcases hq with hq|hq
 .obtain⟨its,r',pl,hz⟩:=I.list hq;have hlen:=r'.length;obtain⟨o,ho,hc,n,hd⟩:=pl.isList;exact lM p (.inl rfl) ho hc hd (λh' c' kp e=>fin its r' hz h' c' kp e) (by simp only[X4]<;>omega)
 .obtain⟨its,r',pl,hz⟩:=I.tuple hq;have hlen:=r'.length;obtain⟨o,ho,hc,n,hd⟩:=pl;exact lM p (.inr rfl) ho hc hd (λh' c' kp e=>fin its r' hz h' c' kp e) (by simp only[X4]<;>omega)
theorem Lh:J9 X (.type "tuple") (λxs H Q=>∃p ys,xs=[.ref p]/\((SqL X.K H p ys/\∀l,H l=ah->Q (.ref l) (upd H l (.tup ys)))\/(SqT X.K H p ys/\Q (.ref p) H))):=by
 intro pins s σ H xs us Q I r h;obtain⟨p,ys,rfl,h⟩:=h;obtain⟨u,rfl,rx⟩:=vals1 r;cases rx;rcases h with ⟨hq,q⟩|⟨hq,q⟩
 .obtain⟨its,r',pl,hz⟩:=I.list hq;have hlen:=r'.length;refine call_tuple_list pl.isList (λh' kp=>?_) (by simp only[X4]<;>omega);have I1:Inv X pins σ H { s with heap:=h' }:=I.kept (t':=s.toks) kp;have I2:Inv X pins σ (upd H h'.objs.size (.tup ys)) { s with heap:=h'.push { cls:=.type "tuple",data:=.seq its.toArray } } :=
   I1.laid (t':=s.toks) (λb o e=>kj _ e) (X6 _) (show jw X.prog X.w _ _ _ (.tup ys) from⟨hz,its,r',IsTup.new _ _,Zj.new _ _⟩)
  exact⟨.ref h'.objs.size,_,I2,rfl,q _ (I1.hok.fresh (X6 _))⟩
 .obtain⟨its,r',pl,hz⟩:=I.tuple hq;exact call_tuple_same pl ⟨.ref p,H,I,rfl,q⟩
def tyV(K:k7g)(T:String)(x:V)(H:Hp):Prop:=match x with
 |.str _=>T = "str"
 |.int _=>T = "int"
 |.ref p=>(T = "list"/\∃xs,SqL K H p xs)\/(T = "tuple"/\∃xs,SqT K H p xs) \/
   (T = "dict"/\((∃kvs,H p=aa (.dK kvs))\/∃kvs,H p=aa (.dT kvs)))\/(T = "set"/\∃S n,H p=aa (.set S n))
 |_=>False
theorem j3m{pins:k7i}{σ:St}{H:Hp}{s:aq}{T:String}{x:V}{v:aj}(I:Inv X pins σ H s)(r:RelV x v)(ty:tyV X.K T x H) :
  s.TypeIs v T/\∀a,v=.ref a->∃ob,s.heap.get? a=aa ob/\ob.dict=ah:=by
 cases x with
 |str z =>obtain⟨t,rfl⟩:=r;cases(show T = "str" from ty);exact⟨cX s z t,λ_ e=>nomatch e⟩
 |int i =>obtain⟨t,rfl⟩:=r;cases(show T = "int" from ty);exact⟨fG s i t,λ_ e=>nomatch e⟩
 |ref p =>
  cases r;rcases ty with ⟨rfl,xs,hq⟩|⟨rfl,xs,hq⟩|⟨rfl,hk⟩|⟨rfl,S,n,hk⟩
  .obtain⟨its,_,pl,_⟩:=I.list hq;refine⟨pl.isList.typeIs,λa e=>?_⟩;cases e;obtain⟨o,n,e,c,hd,_⟩:=pl;exact⟨o,e,hd⟩
  .obtain⟨its,_,⟨o,e1,e2,_⟩,_⟩:=I.tuple hq;refine⟨⟨o,e1,e2⟩,λa e=>?_⟩;cases e;exact⟨o,e1,I.tupD hq o e1⟩
  .have z:∃o,s.heap.get? p=aa o/\o.ExactDict:=by
    rcases hk with ⟨kvs,hk⟩|⟨kvs,hk⟩
    .obtain⟨_,_,_,_,o,_,_,e,ex,_⟩:=I.hok p _ hk;exact⟨o,e,ex⟩
    .obtain⟨_,_,_,_,o,_,_,e,ex,_⟩:=I.hok p _ hk;exact⟨o,e,ex⟩
   obtain⟨o,e,ex⟩:=z;refine⟨⟨o,e,ex.1⟩,λa e2=>?_⟩;cases e2;exact⟨o,e,ex.2.1⟩
  .obtain⟨o,_,_,_,e,ex,_⟩:=I.hok p _ hk;refine⟨⟨o,e,ex.1⟩,λa e2=>?_⟩;cases e2;exact⟨o,e,ex.2.1⟩
 |_=>exact aS ty
def jm2(K:k7g)(T:String)(r:V->List V->Hp->VK->Prop)(to:TE):TE:=λσ H Q=>to σ H λx H1=>tyV K T x H1/\r x [] H1 Q
def tBM(K:k7g)(T:String)(r:V->List V->Hp->VK->Prop)(to:TE)(t:TA):TE:=λσ H Q=>to σ H λx H1=>tyV K T x H1/\t σ H1 λxs H2=>r x xs H2 Q
variable{o e:ar}{es:List ar}{to:TE}{t:TA}{name:ao}{apos cpos:aP}{T id:String}{r:V->List V->Hp->VK->Prop}
theorem jfm (pa:PlainAttrs T) (slot:Slot T name id) (hty:typeOf (.builtin id)=pure (.type "method_descriptor")) (hm:MtR X id r) (ho:PE X o to)
  (hbase:aY o name X.env (aB o X.env)=aB o X.env:=by rfl) (hline:(apos.endLine==cpos.line)=af:=by rfl):PE X (.Call (.Attribute o name apos) [] [] cpos) (jm2 X.K T r to):=by
 intro pins s σ H Q I h;refine wpAny_Call_method0_late hbase hline (thn (ho pins s σ H _ I h) λv s1 ⟨x,H1,I1,r1,ty,q1⟩=>?_);obtain⟨h1,h2⟩:=j3m I1 r1 ty;exact⟨T,id,pa,slot,hty,h1,h2,cJ rfl (PySem.evalArgs_none (hm pins s1 σ H1 x [] v [] Q I1 r1 .nil q1))⟩
theorem M8 (pa:PlainAttrs T) (slot:Slot T name id) (hty:typeOf (.builtin id)=pure (.type "method_descriptor")) (hm:MtR X id r) (ho:PE X o to) (ha:PA X (e::es) t)
  (hbase:aY o name X.env (aB o X.env)=aB o X.env:=by rfl)
  (hfew:((aT cpos (ai (e::es) X.env)).all (λx=>!x.1)&&(cK cpos (bB [] X.env)).all (λx=>x.1.isSome)
   && decide ((e::es).length+([]:List bu).length+(if ([]:List bu).isEmpty then 0 else 1)<30))=af:=by rfl)
  (hline:(apos.endLine==cpos.line)=af:=by rfl) (hs:ai (e::es) X.env=(ae,aB e X.env)::ai es X.env:=by rfl) (hplain:(aT cpos (ai es X.env)).any (·.1)=ae:=by rfl) :
  PE X (.Call (.Attribute o name apos) (e::es) [] cpos) (tBM X.K T r to t):=by
 intro pins s σ H Q I h;refine wpAny_Call_method_late hbase hfew hline rfl (thn (ho pins s σ H _ I h) λv s1 ⟨x,H1,I1,r1,ty,q1⟩=>?_);obtain⟨h1,h2⟩:=j3m I1 r1 ty;refine⟨T,id,pa,slot,hty,h1,h2,?_⟩;have hA:=ha cpos pins s1 σ H1 _ I1 q1;rw[hs]at hA ⊢;refine cJ (by show(ae || (aT cpos (ai es X.env)).any (·.1))=ae;rw[hplain]<;>rfl) (cO ?_);exact thn hA λus s2 ⟨vs,H2,I2,r2,q2⟩=>hm pins s2 σ H2 x vs v us Q I2 r1 r2 q2
/- xs.append(e),list.index on a module's tuple .. are MtR facts of 06m -/
end
def MtM(X:Cx)(id:String)(r:V->List V->Hp->VK->Prop):Prop :=
 ∀(pins:k7i) (s:aq) (σ:St) (H:Hp) (x:V) (xs:List V) (v:aj) (us:List aj) (Q:VK),Inv X pins σ H s->RelV x v->Vals xs us->r x xs H Q ->
  ax (aA X.prog X.w) X.A (call (.builtin id) (v::us)) (EP X pins σ Q) X.xe s
theorem Vals.one{x:V}{us:List aj}(h:Vals [x] us):∃u,us=[u]/\RelV x u:=by cases h with|cons r t=>cases t;exact⟨_,rfl,r⟩
theorem Vals.two:∀{x y:V}{us:List aj},Vals [x,y] us->∃u v,us=[u,v]/\RelV x u/\RelV y v
 |_,_,_,.cons r (.cons q .nil)=>⟨_,_,rfl,r,q⟩
theorem Vals.zero:∀{us:List aj},Vals [] us->us=[]
 |_,.nil=>rfl
theorem Vals.dropLast{xs:List V}{us:List aj}(h:Vals xs us):Vals xs.dropLast us.dropLast:=by
 induction h with
 |nil=>exact .nil
 |cons r t ih =>
  cases t with
  |nil=>exact .nil
  |cons q t'=>exact .cons r ih
theorem Vals.reverse{xs:List V}{us:List aj}(h:Vals xs us):Vals xs.reverse us.reverse:=by
 induction h with
 |nil=>exact .nil
 |cons r t ih=>rw[iH,iH];exact Vals.append ih (.cons r .nil)
theorem Vals.rep{xs:List V}{us:List aj}(h:Vals xs us):∀k:Nat,Vals (az k xs).flatten (az k us).flatten
 |0=>.nil
 |k+1=>by rw[Pb,Pb,T4,T4];exact Vals.append h (Vals.rep h k)
theorem foldl_rep(its:List aj):∀(k:Nat)(acc:List aj),
  cN (λx1 x2=>x1++x2) acc.toArray (az k its.toArray)=(acc++(az k its).flatten).toArray
 |0,acc=>by simp
 |k+1,acc=>by
  have e:acc.toArray++its.toArray=(acc++its).toArray:=by simp
  have e2:(acc++its)++(az k its).flatten=acc++(az (k+1) its).flatten:=by rw[Pb,T4,Pk]
  rw[<-e2,<-foldl_rep its k (acc++its),<-e,Pb,Pz]
section
variable{X:Cx}{pins:k7i}{σ:St}{H:Hp}{s:aq}{l b:ak}{xs ys zs:List V}
theorem Inv.lset{its its':List aj}{n:Nat}{f:Array aj->Array aj}{t':Nat}(I:Inv X pins σ H s)(hH:H l=aa (.lst xs))
  (e:s.heap.get? l=aa { cls:=.type "list",data:=.seq its.toArray n }) (hf:f its.toArray=its'.toArray) (hv:Vals ys its') (hz:ys.length<=au) :
  Inv X pins σ (upd H l (.lst ys)) { s with heap:=s.heap.update l (Obj.mapSeq f),toks:=t' }:=by
 have q:=PySem.IsL.update e f;rw[hf]at q;refine I.write (x:=l) (e:=l) (by rw[hH];exact trivial) (.inl rfl) (λb' u hb hu=>(Heap.get?_update_other s.heap (Obj.mapSeq f) (eC hb)).trans hu) ⟨_,q⟩ ?_;exact⟨hz,its',_,hv,q⟩
theorem Inv.lnew{its:List aj}{t':Nat}(I:Inv X pins σ H s)(hv:Vals ys its)(hz:ys.length<=au) :
  Inv X pins σ (upd H s.heap.objs.size (.lst ys)) { s with heap:=s.heap.push { cls:=.type "list",data:=.seq its.toArray },toks:=t' } :=
 I.laid (λ_ _ q=>kj _ q) (X6 _) ⟨hz,its,0,hv,xu _ rfl⟩
theorem Inv.fresh(I:Inv X pins σ H s):H s.heap.objs.size=ah:=I.hok.fresh (X6 _)
theorem Inv.lstM(I:Inv X pins σ H s)(hH:H l=aa (.lst xs)):xs.length<=au/\∃(its:List aj)(n:Nat),Vals xs its/\xs.length=its.length/\s.heap.get? l=aa { cls:=.type "list",data:=.seq its.toArray n }:=by obtain⟨z,its,n,r,e⟩:=I.hok l _ hH;exact⟨z,its,n,r,r.length,e⟩
theorem Kw{n:Nat}(h:n<=au):c9 n=ae:=by unfold c9;exact decide_eq_false nofun
end
section
variable{X:Cx}
def jbx:V->List V->Hp->VK->Prop:=λx vs H Q=>∃l xs y,x=.ref l/\vs=[y]/\H l=aa (.lst xs)/\xs.length<au/\Q .non (upd H l (.lst (xs++[y])))
theorem Yv:MtM X "list.append" jbx:=by intro pins s σ H x vs v us Q I rx rv h;obtain⟨l,xs,y,rfl,rfl,hH,hz,q⟩:=h;cases rx;obtain⟨u,rfl,ru⟩:=rv.one;obtain⟨z,its,n,r,hl,e⟩:=I.lstM hH;refine bE cI ⟨_,e,rfl⟩ F.entry_list_append (F.args_list_append_2 _ _) (PySem.list_append l its.toArray n u (by rw[X4];omega)) ⟨e,?_⟩;refine⟨.non,_,I.lset (its':=its++[u]) hH e (by simp) (r.append (.cons ru .nil)) ?_,rfl,q⟩;rw[X7,List.length_singleton];omega
def jbw:V->List V->Hp->VK->Prop:=λx vs H Q=>∃l b xs zs,x=.ref l/\vs=[.ref b]/\H l=aa (.lst xs)/\H b=aa (.lst zs)/\xs.length+zs.length<=au/\Q .non (upd H l (.lst (xs++zs)))
theorem j4m:MtM X "list.extend" jbw:=by
 intro pins s σ H x vs v us Q I rx rv h;obtain⟨l,b,xs,zs,rfl,rfl,hH,hB,hz,q⟩:=h;cases rx;obtain⟨u,rfl,ru⟩:=rv.one;cases ru;obtain⟨z,its,n,r,hl,e⟩:=I.lstM hH;obtain⟨z2,its2,n2,r2,hl2,e2⟩:=I.lstM hB;have hsz:its.toArray.size+its2.toArray.size<=au:=by rw[X4,X4];omega
 have hlong:¬(!its.toArray.isEmpty&&c9 (its.toArray.size+its2.toArray.size))=af:=by rw[Kw hsz,fX];exact xj
 refine bE gC ⟨_,e,rfl⟩ F.entry_list_extend (F.args_list_extend_2 _ _)
  (AutoSeq1.list_extend_list_list_0 l its.toArray n b its2.toArray n2 hlong (by rw[X4];omega) nofun) ⟨e,e2,?_⟩
 refine⟨.non,_,I.lset (its':=its++its2) hH e (by simp) (r.append r2) ?_,rfl,q⟩;rw[X7];omega
def jf9:V->List V->Hp->VK->Prop:=λx vs H Q=>∃l xs,x=.ref l/\vs=[]/\H l=aa (.lst xs)/\Q .non (upd H l (.lst []))
theorem j83:MtM X "list.clear" jf9:=by intro pins s σ H x vs v us Q I rx rv h;obtain⟨l,xs,rfl,rfl,hH,q⟩:=h;cases rx;have hus:=rv.zero;subst hus;obtain⟨z,its,n,r,hl,e⟩:=I.lstM hH;refine bE gS ⟨_,e,rfl⟩ F.entry_list_clear (F.args_list_clear_1 _) (AutoSeq1.list_clear_list_0 l its.toArray n (by rw[X4];omega)) ⟨e,?_⟩;exact⟨.non,_,I.lset (its':=[]) (ys:=[]) hH e rfl .nil (Te _),rfl,q⟩
def jme:R2:=λx y H Q=>∃l k xs,x=.ref l/\y=.int k/\H l=aa (.lst xs)/\-(2^63)<=k/\k<2^63/\xs.length*k.toNat<=au /\
 ∀p,H p=ah->Q (.ref p) (upd H p (.lst (az k.toNat xs).flatten))
theorem len_rep{α:Type}(xs:List α)(k:Nat):(az k xs).flatten.length=k*xs.length:=by
 induction k with
 |zero=>simp
 |succ k ih=>rw[Pb,T4,X7,ih,ku,Nat.add_comm]
theorem jfu:OpR X (bh .Mult) jme:=by
 intro pins s σ H x y v u Q I rx ry h;obtain⟨l,k,xs,rfl,rfl,hH,h1,h2,hz,q⟩:=h;cases rx;obtain⟨t,rfl⟩:=ry;obtain⟨z,its,n,r,hl,e⟩:=I.lstM hH;have hlen:its.toArray.size*k.toNat<=au:=by rw[X4,<-hl];exact hz
 have hcap:¬its.toArray.size*k.toNat>(2^63-1)/8:=by
  have:(au:Nat)<=(2^63-1)/8:=by decide
  omega
 have hfit:¬(!Builtin.List.listFitsIndex k)=af:=by rw[fitsIndex_both h1 h2];exact xj
 have hlong:¬c9 (its.toArray.size*k.toNat)=af:=by rw[Kw hlen];exact xj
 have hnew:cN (λx1 x2=>x1++x2) #[] (az (if its.toArray.isEmpty=af then 0 else k.toNat) its.toArray)=(az k.toNat its).flatten.toArray:=by
  have f0:∀m:Nat,cN (λx1 x2=>x1++x2) #[] (az m its.toArray)=(az m its).flatten.toArray:=λm=>by have:=foldl_rep its m [];rw[Tj]at this;exact this
  rw[f0];cases its with
  |nil=>simp
  |cons a r'=>rw[if_neg (by simp)]
 refine gT (T:="list") (U:="int") (by decide) ⟨_,e,rfl⟩ (λs'=>fG s' k t) noFill_list_mul jO eG repeat_list F.slot_int_index.lookup
  (bE eG (fG s k t) jC (ja _ _) (int___rmul___int_list k t l its.toArray n)
   ⟨e,rfl,⟨_,e,rfl⟩,bE F.slot_list_mul ⟨_,e,rfl⟩ F.entry_list_mul (F.args_list_mul_2 _ _) (AutoListH.list___mul___list_int_3 l its.toArray n k t hfit hcap hlong) ⟨e,?_⟩⟩)
 rw[hnew];exact⟨.ref _,_,I.lnew (t':=s.toks) (r.rep k.toNat) (by rw[len_rep,fk];exact hz),rfl,q _ I.fresh⟩
end
section
variable{prog:ay}{w:aD}{A:aG}{E:k7h}{s:aq}
end
section
variable{X:Cx}
end
end L2
namespace Att
open PySem PySem.W PySem.Calls PyProof.Rows
theorem Bt{P:lG}{h:aH}:∀(ns:List Int)(vs:List aj),WellAll P h vs (ns.map WData.int)->gy vs ns:=by
 intro ns;induction ns with
 |nil =>intro vs w;rw[d4]at w;cases w;exact .nil
 |cons n ns ih =>
  intro vs w;rw[X5]at w;cases w with
  |cons a b =>cases a;exact .cons _ _ (ih _ b)
theorem j40{l:dD}{n:Nat}(hn:l.most=aa n){P:lG}{h:aH}{args:List WData}{vals:List aj}
  (hpre:l.row.toRowW.claim.pre args=af) (hwl:WellAll P h vals args) :
  ∃a vs ns,vals=[aI a]/\args=[WData.list (ns.map WData.int)]/\h.get? a=aa { cls:=.type "list",data:=.seq vs.toArray }/\gy vs ns/\ns.length<=n:=by
 have hsh:WShape.hasAll [] args [.list .int]=af:=(pre_splitW hpre).1;have hc:l.pre.holds [] { args:=args }=af:=(pre_splitW hpre).2;obtain⟨d,r,rfl,h1,h2⟩:=hasAllW_cons hsh;obtain rfl:=hasAllW_nil h2;obtain⟨xs,rfl,h3⟩:=hasW_list h1;obtain⟨ns,rfl⟩:=items_int h3;have hlen:ns.length<=n:=by
  unfold OpenLaw.pre at hc;have h4:(WTm.not (.lt (.lit (.int (n:Int))) (.len (.arg 0)))).holds [] { args:=[.list (ns.map .int)] }=af:=by have h4:=(holds_andW hc).1;rw[hn]at h4;exact h4
  have h5:=condW_of h4 (w_not (w_lt w_lit (w_len_list (w_arg rfl))));rw[km]at h5;refine Nat.le_of_not_lt λq=>?_;have q':(n:Int)<((ns.length:Nat):Int):=by omega
  first
   |(rw[decide_eq_true q']at h5;exact absurd h5 (by decide))
   |(simp at h5;omega)
 cases hwl with
 |cons w1 w2 =>
  cases w2;cases w1 with
  |list ho hall=>exact⟨_,_,ns,rfl,rfl,ho,Bt ns _ hall,hlen⟩
theorem j4a(l:dD)(args:List WData):l.row.toRowW.claim.post args (.bool af) args=af :=
 postW_of (r:=l.row.toRowW) (X:=(af==af))
  (show WShape.has [] (.bool af) .bool=af by first|rfl|decide|simp[WShape.has,WShape.arms,WShape.armsAll])
  (show(WTm.eq .res (.lit (.bool af))).value [] { args:=args,res:=aa (.bool af),after:=args }=aa (.bool (af==af))from w_eq_bool (w_res rfl) w_lit) rfl
theorem attach_call{l:dD}{n:Nat}{q:ay}{loose:List ao}{XP:(ao->Option aj)->aH->Prop}{YP:aD->aH->Prop}{d:DefRec}
  (hn:l.most=aa n) (hdf:d.params.defaults=[])
  (call:∀(w:aD)(s₀ s₁:aq)(mg mb:k7j)(fa:ak)(o:dm)(pm cd doc:aj)(a:ak) (vs:List aj) (ns:List Int),
   Ground q loose [] XP w s₀ mg mb s₁.heap->YP w s₁.heap ->
   s₁.heap.get? fa=aa o->o.data=.func (docDef d.name d.params d.body d.scope pm cd doc)->s₁.heap.CodeRec cd d.name->mg d.name=aa (.ref fa) ->
   s₁.heap.get? a=aa { cls:=.type "list",data:=.seq vs.toArray }->gy vs ns->ns.length<=n->s₁.gens = #[] ->
   cF (aA l.prog w) fS (.call (.ref fa) ⟨[.ref a],[]⟩) (λr s'=>r=.ok (.ret (.bool af))/\OldK s₁.heap s'.heap/\s'.os=s₁.os/\dR s'.gens) s₁) :
  hJ q loose XP YP l.row.toRowW d [] (λf vs=>fU f vs):=by
 intro w s₀ s₁ mg mb G Y fa o pm cd doc dV kV ho hd hcd hD hmg hg args vals as hpre hlay hrd hwl hlo;obtain rfl:dV=.none:=Dflts.none hD hdf;obtain rfl:kV=.none:=Dflts.noKw hD;obtain⟨a,vs,ns,rfl,rfl,hobj,hints,hlen⟩:=j40 hn hpre hwl;refine enter_call (bO (call w s₀ s₁ mg mb fa o pm cd doc a vs ns G Y ho (fd_plain hd) hcd hmg hobj hints hlen hg) λr s' hq=>?_);obtain⟨rfl,h2,h3,h4⟩:=hq;exact⟨.inl ⟨.bool af,.bool af,[],rfl,λ_=>rfl,.bool af,j4a l _,λ_=>⟨fW,λ_ hm=>(nomatch hm)⟩⟩,h2,h3,h4⟩
section
variable{prog:ay}{w:aD}{A:aG}{E:k7h}{s:aq}{K:lx}
end
end Att
namespace L2
open PySem PySem.Spec PyProof.Rows
theorem Dl:∀{vs:List aj}{ns:List Int},gy vs ns->Vals (ns.map V.int) vs
 |_,_,.nil=>.nil
 |_,_,.cons n t h=>.cons ⟨t,rfl⟩ (Dl h)
def Only(ts:List (ak×ao))(H:Hp):Prop:=(∀b,H b=ah\/(∃o xs,H b=aa (.frz o (.lst xs)))\/∃q,(b,q)∈ts/\H b=aa (.cod q))/\∀t∈ts,H t.1=aa (.cod t.2)
def j9v(ts:List (ak×ao))(h:aH):Prop:=(ts.map (·.1)).Nodup/\∀t∈ts,(∃c,PySem.W.CodeHd h c t.1)/\h.get? t.1=aa (W.tabObj #[])
theorem j0m:∀{ts:List (ak×ao)} {b:ak} {q:ao},ts.lookup b=aa q->(b,q)∈ts
 |p::r,b,q,h=>by
  rw[Xg]at h;cases e:b==p.1 with
  |true=>rw[e]at h;cases h;rw[beq_iff_eq.mp e];exact xm ..
  |false=>rw[e]at h;exact xf _ (j0m h)
theorem lookup_tab:∀{ts:List (ak×ao)},(ts.map (·.1)).Nodup->∀t∈ts,ts.lookup t.1=aa t.2
 |[],_,_,h=>by cases h
 |p::r,nd,t,ht=>by
  rw[X5]at nd;rcases xr.mp ht with e|ht
  .subst e;rw[Xg,beq_self_eq_true]
  .have ne:(t.1==p.1)=ae:=beq_eq_false_iff_ne.mpr λz=>(Xk.mp nd).1 (z▸i6 ht);rw[Xg,ne];exact lookup_tab (Xk.mp nd).2 t ht
theorem j8c{P:ay}{w:aD}{K:k7g}{mg mb:k7j}{CX:CXT}{k:Nat}{fa a:ak}{fd:aL}{x:ao}{sp:Sp}{s₁:aq}{vs:List aj}{ns:List Int}{ts:List (ak×ao)}
  (KX:K.In s₁.heap) (hns:s₁.heap.Ns aw mg) (hb:s₁.heap.Ns dG mb) (hbb:∀x:ao,x ≠ "__name__"->mb x=bg x) (hlim:s₁.heap.NoLimit)
  (hbm:∃bm ob,mg "__builtins__" = aa (.ref bm)/\bm≠dG/\s₁.heap.get? bm=aa ob/\ob.cls=.type "module"/\ob.dict=aa dG/\ob.data=.plain) (hT:j9v ts s₁.heap) (hK0:W.noTabs K=af) (hg:s₁.gens = #[])
  (ha:s₁.heap.get? a=aa { cls:=.type "list",data:=.seq vs.toArray }) (hi:gy vs ns) (hl:ns.length<=au) (hr:Room k fS)
  (F:∀base:aH,K.In base->base.Ns aw mg->FnOk P w K mg base CX k fa fd [x] sp) (hbind:∀(s:aq)(u:aj),fV s fd ⟨[u],[]⟩ [(x,u)])
  (hsp:∀H:Hp,Only ts H->SqL K H a (ns.map V.int)->sp [.ref a] H (λv H'=>v=.bl af/\∀b o,H b=aa o->H' b=aa o) λ_ _ _=>False)
  (hCX:∀H e s',CX [] H s₁ (λ_ _ _=>False) e s'->False) :
  cF (aA P w) fS (.call (.ref fa) ⟨[.ref a],[]⟩) (λr s'=>r=.ok (.ret (.bool af))/\OldK s₁.heap s'.heap/\s'.os=s₁.os/\dR s'.gens) s₁:=by
 have rv:=Dl hi;have lenV:=hi.length;have at_:∀{q:ao}{b:ak},(b,q)∈ts->s₁.heap.get? b=aa (W.tabObj #[]):=λ{q b} h=>(hT.2 _ h).2;have core:∀H:Hp,Only ts H->SqL K H a (ns.map V.int)->HOk P w H s₁.heap->(∀b,H b≠ah->b=a\/∃q,(b,q)∈ts)->(H a≠ah->K.lookup a=ah) ->
   cF (aA P w) fS (.call (.ref fa) ⟨[.ref a],[]⟩) (λr s'=>r=.ok (.ret (.bool af))/\OldK s₁.heap s'.heap/\s'.os=s₁.os/\dR s'.gens) s₁:=by
  intro H hO hS hok hA hK;have base_of:∀{b:ak}{o:dm},s₁.heap.get? b=aa o->H b=ah->(Wa s₁.heap H).get? b=aa o:=λe n=>j8z e n;have noA:∀{b:ak}{o:dm},s₁.heap.get? b=aa o->(∀vs n,o.data≠.seq vs n)->(∀vs,o.data≠.fields vs)->H b=ah:=λ{b o} e d d2=>by
   cases q:H b with
   |none=>rfl
   |some u =>
    rcases hA b (by rw[q];simp)with e'|⟨q',e'⟩
    .subst e';rw[ha]at e;cases e;exact absurd rfl (d _ _)
    .rw[at_ e']at e;cases e;exact absurd rfl (d2 _)
  have nsK:∀{b:ak}{m:k7j},s₁.heap.Ns b m->(Wa s₁.heap H).Ns b m:=λ{b m} ⟨o,es,ep,e,d,r⟩=>⟨o,es,ep,base_of e (noA e (λ_ _ z=>by rw[d]at z;cases z) λ_ z=>by rw[d]at z;cases z),d,r⟩
  have hKb:K.In (Wa s₁.heap H):=λb o e=>base_of (KX b o e) (by
   cases q:H b with
   |none=>rfl
   |some u =>
    rcases hA b (by rw[q];simp)with e'|⟨q',e'⟩
    .subst e'
     rw[hK (by rw[q];simp)]at e;cases e
    .have e2:=KX b o e
     rw[at_ e']at e2
     have h2:=Xq.mp hK0 (b,o) (W.mem_of_lookupK e)
     cases e2
     exact absurd (show ae=af from h2) xj)
  have hM:Mod K mg (Wa s₁.heap H):=⟨hKb,nsK hns,⟨mb,nsK hb,hbb⟩,(let ⟨mc,h1,h2⟩:=hlim;⟨mc,nsK h1,h2⟩),
   let ⟨bm,ob,b1,b2,b3,b4,b5,b6⟩:=hbm;⟨bm,ob,b1,b2,base_of b3 (noA b3 (λ_ _ z=>by rw[b6]at z;cases z) λ_ z=>by rw[b6]at z;cases z),b4,b5,b6⟩⟩
  have e0:Env0 P w K mg (Wa s₁.heap H) fS [] s₁ H:=⟨rfl,hM,λb o e=>jcc e,ky (j57 _ _),trivial,λb hb=>absurd (show b∈([]:List ak)from hb) (by simp),hok,.of_eq hg⟩
  refine bO ((F _ hKb (nsK hns)).run fS [] s₁ H ⟨[.ref a],[]⟩ [.ref a] [.ref a] _ _ hr e0 (hbind s₁ (.ref a)) (.cons rfl .nil) (hsp H hO hS)) λr s' h=>?_;cases r with
  |error e=>exact(hCX H e s' h).elim
  |ok fl =>
   cases fl with
   |next=>exact aS h
   |brk=>exact aS h
   |cont=>exact aS h
   |ret u =>
    obtain⟨v,H',os,bare,un,hok',r',q,sm⟩:=h;have q':v=.bl af:=q;subst q';obtain rfl:u=bo af:=r';have main:∀b o,s₁.heap.get? b=aa o->s'.heap.get? b=aa o\/((∃q,(b,q)∈ts)/\o=W.tabObj #[]/\∃ps,s'.heap.get? b=aa (W.tabObj ps)):=λb o e=>by
     cases q:H b with
     |none=>exact .inl (un.keep b o e q (by intro z;exact absurd (show b∈([]:List ak)from z) (by simp)) (by simp))
     |some u =>
      rcases hO.1 b with z|⟨ob,xs,z⟩|⟨q',hq,z⟩
      .rw[q]at z;cases z
      .have z2:=un.frzs b ob _ z;obtain⟨e1,_⟩:=hok b _ z;obtain⟨e2,_⟩:=hok' b _ z2;rw[e]at e1;cases e1;exact .inl e2
      .obtain⟨ps,e2,_⟩:=(show jw P w H' s'.heap b (.cod q')from hok' b _ (sm b _ z))
       rw[at_ hq]at e;exact .inr ⟨⟨q',hq⟩,(aC e).symm,ps,e2⟩
    refine⟨rfl,⟨λb o e=>?_,λb o e=>?_⟩,os,bare⟩
    .rcases main b o e with z|⟨⟨q,hq⟩,rfl,ps,z⟩
     .exact .inl z
     .obtain⟨c,hc⟩:=(hT.2 _ hq).1;exact .inr (.inl ⟨(hc.tab (at_ hq)).isCodeTable,rfl,#[],ps,rfl,by rw[z,Array.empty_append]⟩)
    .rcases main b o e with z|⟨_,_,ps,z⟩
     .exact⟨o,z⟩
     .exact⟨_,z⟩
 have lkT:∀b q,ts.lookup b=aa q->(b,q)∈ts:=λb q h=>j0m h;have ofT:∀t∈ts,ts.lookup t.1=aa t.2:=lookup_tab hT.1;have okT:∀(H:Hp) b q,(b,q)∈ts->jw P w H s₁.heap b (.cod q):=λH b q h=>⟨#[],at_ h,trivial,λpos cv z=>by cases z⟩
 cases hk:K.lookup a with
 |some o =>
  have e:=KX a o hk;rw[ha]at e;cases e;refine core (λb=>(ts.lookup b).map HO.cod) ⟨λb=>?_,λt ht=>by show(ts.lookup t.1).map HO.cod=_;rw[ofT t ht];rfl⟩ (.inr ⟨_,vs.toArray,_,hk,rfl,rfl,rfl,by rw[X4,lenV];exact hl,by simpa using rv⟩) (λb u z=>?_) (λb z=>?_) λz=>?_
  .cases e:ts.lookup b with
   |none=>exact .inl (by show(ts.lookup b).map HO.cod=_;rw[e];rfl)
   |some q=>exact .inr (.inr ⟨q,lkT b q e,by show(ts.lookup b).map HO.cod=_;rw[e];rfl⟩)
  .obtain⟨q,e,rfl⟩:=Xv.mp z;exact okT _ b q (lkT b q e)
  .cases e:ts.lookup b with
   |none=>exact absurd (by show(ts.lookup b).map HO.cod=_;rw[e];rfl) z
   |some q=>exact .inr ⟨q,lkT b q e⟩
  .cases e:ts.lookup a with
   |none=>exact absurd (by show(ts.lookup a).map HO.cod=_;rw[e];rfl) z
   |some q=>have:=at_ (lkT a q e);rw[ha]at this;cases this
 |none =>
  have na:∀q,(a,q)∉ts:=λq h=>by have:=at_ h;rw[ha]at this;cases this
  refine core (λb=>if b=a then aa (.frz { cls:=.type "list",data:=.seq vs.toArray } (.lst (ns.map V.int))) else(ts.lookup b).map HO.cod) ⟨λb=>?_,λt ht=>?_⟩ (.inl (.inr ⟨{ cls:=.type "list",data:=.seq vs.toArray },if_pos rfl⟩)) (λb u z=>?_) (λb z=>?_) λ_=>hk
  .by_cases hb:b=a
   .exact .inr (.inl ⟨_,_,if_pos hb⟩)
   .cases e:ts.lookup b with
    |none=>exact .inl (by show(if b=a then _ else _)=_;rw[if_neg hb,e];rfl)
    |some q=>exact .inr (.inr ⟨q,lkT b q e,by show(if b=a then _ else _)=_;rw[if_neg hb,e];rfl⟩)
  .have nb:t.1≠a:=λz=>na t.2 (z▸ht);show(if t.1=a then _ else _)=_;rw[if_neg nb,ofT t ht];rfl
  .by_cases hb:b=a
   .have z':=(if_pos hb).symm.trans z;cases z';subst hb;exact⟨ha,by rw[km];exact hl,vs,_,rv,ha⟩
   .have z':=(if_neg hb).symm.trans z;obtain⟨q,e,rfl⟩:=Xv.mp z';exact okT _ b q (lkT b q e)
  .by_cases hb:b=a
   .exact .inl hb
   .cases e:ts.lookup b with
    |none=>exact absurd (by show(if b=a then _ else _)=_;rw[if_neg hb,e];rfl) z
    |some q=>exact .inr ⟨q,lkT b q e⟩
theorem walk_of{l:dD}{n k:Nat}{q:ay}{loose:List ao}{XP:(ao->Option aj)->aH->Prop}{YP:aD->aH->Prop}{d:DefRec}{K:lG->k7g}{CX:aD->CXT}{sp:aD->Sp}{x:ao}{ts:aD->List (ak×ao)}
  (hn:l.most=aa n) (hn2:n<=au) (hdf:d.params.defaults=[]) (hr:Room k fS)
  (hY:∀(w:aD)(h:aH),YP w h->(K w.params).In h/\j9v (ts w) h) (hK0:∀w:aD,W.noTabs (K w.params)=af)
  (F:∀(w:aD)(mg:k7j)(fa:ak)(h:aH),(K w.params).In h->h.Ns aw mg->mg d.name=aa (.ref fa) ->
   ∃fd:aL,(∀(s:aq)(u:aj),fV s fd ⟨[u],[]⟩ [(x,u)]) /\
    ∀base:aH,(K w.params).In base->base.Ns aw mg->FnOk l.prog w (K w.params) mg base (CX w) k fa fd [x] (sp w))
  (hsp:∀(w:aD)(H:Hp)(a:ak)(ns:List Int),ns.length<=n->Only (ts w) H->SqL (K w.params) H a (ns.map V.int)->sp w [.ref a] H (λv H'=>v=.bl af/\∀b o,H b=aa o->H' b=aa o) λ_ _ _=>False)
  (hCX:∀(w:aD)(H:Hp)(s:aq)(e:aj)(s':aq),CX w [] H s (λ_ _ _=>False) e s'->False) :
  hJ q loose XP YP l.row.toRowW d [] (λf vs=>fU f vs):=by
 refine Att.attach_call hn hdf λw s₀ s₁ mg mb fa o pm cd doc a vs ns G Y ho hd hcd hmg hobj hints hlen hg=>?_;obtain⟨KX,hT⟩:=hY w _ Y;obtain⟨fd,hb,hF⟩:=F w mg fa _ KX G.T.g hmg;exact j8c KX G.T.g G.T.b G.T.builtins G.T.nolimit G.T.bmain hT (hK0 w) hg hobj hints (Xf hlen hn2) hr hF hb (λH hO hS=>hsp w H a ns hlen hO hS) λH e s'=>hCX w H s₁ e s'
end L2
/- THE LAST THEOREM (shape;LID,My.* are yours):
 My.Adr: a structure of the addresses that your layer names (classes,functions);My.Txt K t: a structure (Prop) of the equations over K;
 My.txt_mk:{K} {implicit addresses ..} (e1:ba K aw "law" = aa (aa (.ref f))) (e2:K.lookup f=aa ⟨oc,od,.func (fnOf "law" "law" params body scope dV kV doc pm an cdv ct),sl⟩) (e3:codeIn K cdv "law" = af) ..:∃t,My.Txt K t
(the tactic k_is has no namespace: write k_is) -/
namespace L2
open PySem PySem.Spec PyProof.Rows
noncomputable def inClass(s:aQ)(j:Nat):aQ:=match s with
 |.ClassDef _ _ _ body _ _ _ _ _ _ _=>body.getD j (.Pass ⟨0,0,0,0⟩)
 |_=>.Pass ⟨0,0,0,0⟩
noncomputable def za(s:aQ):ig:=match s with
 |.FunctionDef _ a _ _ _ _ _ _ _ _=>a
 |_=>{ posonlyargs:=[],args:=[],vararg:=ah,kwonlyargs:=[],kw_defaults:=[],kwarg:=ah,defaults:=[] }
noncomputable def jg(s:aQ):List aQ:=match s with
 |.FunctionDef _ _ b _ _ _ _ _ _ _=>b
 |_=>[]
noncomputable def j0(s:aQ):bG:=match s with
 |.FunctionDef _ _ _ _ _ _ sc _ _ _=>sc
 |_=>{ kind:=.function,names:=[],isGenerator:=ae,isCoroutine:=ae }
noncomputable abbrev CX0:CXT:=λ_ _ _ _ _ _=>False
noncomputable abbrev E0:XK:=λ_ _ _=>False
theorem V0{X:Cx}:Us CX0 X E0:=λ_ _ _ _ _ _ _ h=>h.elim
structure Fun(K:k7g)(x qual:ao)(st:aQ)(f:ak)(fd:aL):Prop where
 ex:∃(oc:aj)(od:Option ak)(dV kV doc pm:aj)(an:Option ak)(cdv ct:aj)(osl:Array (Option aj)),
  fd=W.fnOf x qual (za st) (jg st) (j0 st) dV kV doc pm an cdv ct/\K.lookup f=aa ⟨oc,od,.func fd,osl⟩/\W.codeIn K cdv qual=af
 kp:W.keepIn K (.ref f)=af
section
variable{P:ay}{w:aD}{K:k7g}{mg:k7j}{base:aH}
theorem Fun.ok{x qual:ao}{st:aQ}{f:ak}{fd:aL}{N ps:List ao}{k:Nat}{sp:Sp}(F:Fun K x qual st f fd)(S:FnScope N ps (j0 st))(len:∀vs H Q E,sp vs H Q E->vs.length=ps.length)
  (hbody:∀(cdv:aj)(A:aG)(outer:List d9)(s:aq)(H:Hp)(vs:List V)(Q:VK) (E:XK),Room k (A.deeper (bx qual (j0 st) s.heap.objs.size f cdv))->sp vs H Q E ->
   ∃t,PSs (qz CX0 P w K mg base N qual (j0 st) f cdv A outer s H E).nox (jg st) t/\t { nx:=λ_ H'=>Q .non H',rt:=Q } (start N vs) H):FnOk P w K mg base CX0 (k+1) f fd ps sp:=by
 obtain⟨oc,od,dV,kV,doc,pm,an,cdv,ct,osl,rfl,lk,hcd⟩:=F.ex;refine Ly lk hcd S len λA outer s H vs Q E hr hsp=>?_;obtain⟨t,h,q⟩:=hbody cdv A outer s H vs Q E hr hsp;exact⟨t,h.nox,q⟩
theorem Fun.binds{x qual:ao}{st:aQ}{f:ak}{kV doc pm:aj}{an:Option ak}{cdv ct:aj}{ps:List ao}(F:Fun K x qual st f (W.fnOf x qual (za st) (jg st) (j0 st) .none kV doc pm an cdv ct))
  (h:∀(kV doc pm:aj)(an:Option ak)(cdv ct:aj)(us:List aj),us.length=ps.length->cQ (W.fnOf x qual (za st) (jg st) (j0 st) .none kV doc pm an cdv ct) ⟨us,[]⟩=pure (ps.zip us)):Binds K (W.fnOf x qual (za st) (jg st) (j0 st) .none kV doc pm an cdv ct) ps []:=.all (h kV doc pm an cdv ct)
theorem Zb{x qual:ao}{st:aQ}{f:ak}{oc:aj}{od an:Option ak}{osl:Array (Option aj)}{dV kV doc pm cdv ct:aj}(l:K.lookup f=aa ⟨oc,od,.func (W.fnOf x qual (za st) (jg st) (j0 st) dV kV doc pm an cdv ct),osl⟩)
  (c:W.codeIn K cdv qual=af) (k:W.keepIn K (.ref f)=af):Fun K x qual st f (W.fnOf x qual (za st) (jg st) (j0 st) dV kV doc pm an cdv ct):=⟨⟨oc,od,dV,kV,doc,pm,an,cdv,ct,osl,rfl,l,c⟩,k⟩
end
section
variable{X:Cx}
end
theorem U3{A B:Prop}(h:B):if ae=af then A else B:=by rw[if_neg xj];exact h
theorem U0{A B:Prop}(h:A):if af=af then A else B:=by rw[if_pos rfl];exact h
theorem jgu{c A B:Prop}[Decidable c](h1:c->A)(h2:¬c->B):if c then A else B:=by
 by_cases h:c
 .rw[if_pos h];exact h1 h
 .rw[if_neg h];exact h2 h
def j4(H H':Hp):Prop:=∀b o,H b=aa o->H' b=aa o
theorem j4.refl(H:Hp):j4 H H:=λ_ _ h=>h
theorem j4.trans{H H1 H2:Hp}(a:j4 H H1)(b:j4 H1 H2):j4 H H2:=λc o h=>b c o (a c o h)
theorem j4.free{H H':Hp}(e:j4 H H'){l:ak}(h:H' l=ah):H l=ah:=by
 cases q:H l with
 |none=>rfl
 |some o =>rw[e l o q]at h;cases h
theorem j4.seq{K:k7g}{H H':Hp}{a:ak}{xs:List V}(e:j4 H H')(h:SqL K H a xs):SqL K H' a xs:=by
 rcases h with (h|⟨o,h⟩)|h
 .exact .inl (.inl (e _ _ h))
 .exact .inl (.inr ⟨o,e _ _ h⟩)
 .exact .inr h
set_option genInjectivity true in
inductive D where
 |non
 |bl (b:Bool)
 |int (i:Int)
 |str (x:ao)
 |tup (ds:List D)
 |lst (ds:List D)
 |dct (ks:List (List Int)) (ds:List D)
 |sct (kvs:List (ao×Int))
 |fn (x:ao) (cs:List D)
noncomputable def kvI(kvs:List (ao×Int)):List (Key×V):=kvs.map λp=>(.inr p.1,.int p.2)
noncomputable def zx(x:ao):ao:=x ++ ".<locals>." ++ "<lambda>"
noncomputable abbrev Tx:=ig×ar×bG
noncomputable def jml:ar->Option Tx
 |.Lambda a b sc _=>aa (a,b,sc)
 |.Call _ es _ _=>match es.getLast? with
  |some (.Lambda a b sc _)=>aa (a,b,sc)
  |_=>ah
 |_=>ah
noncomputable def jgf(b:List aQ):Option Tx:=match b.getLast? with
 |some (.Return (aa e) _)=>jml e
 |_=>ah
noncomputable def j2u(K:k7g)(x:ao):Option Tx:=match W.nsIn K aw x with
 |some (aa (.ref f))=>match K.lookup f with
  |some ⟨_,_,.func fd,_⟩=>match fd.body with
   |.stmts b=>jgf b
   |_=>ah
  |_=>ah
 |_=>ah
noncomputable def V3(sc:bG):List ao:=((sc.names.filter λp=>p.2==.free).map (·.1)).reverse
def vm(H:Hp):List ak->List V->Prop
 |[],vs=>vs=[]
 |c::cs,vs=>∃v r o u,vs=v::r/\H c=aa (.frz o (.own 0))/\o.data=.cell (aa u)/\RelV v u/\vm H cs r
theorem vm.mono{H H':Hp}(g:j4 H H'):∀{cs:List ak}{vs:List V},vm H cs vs->vm H' cs vs
 |[],_,h=>h
 |_::_,_,⟨v,r,o,u,e,h,d,rv,l⟩=>⟨v,r,o,u,e,g _ _ h,d,rv,l.mono g⟩
structure LamAt(K:k7g)(H:Hp)(x:ao)(a c:ak)(t:Tx)(cl:List (ao×ak))(vs:List V):Prop where
 tx:j2u K x=aa t
 fo:∃pm ctv,H a=aa (.frz (W.kla_obj "<lambda>" (zx x) t.1 t.2.1 t.2.2 cl pm c ctv) (.own 0))
 co:∃oc,H c=aa (.frz oc (.own 0))/\j3h oc (zx x)
 nm:cl.map (·.1)=V3 t.2.2
 nd:(cl.map (·.2)).Nodup
 cs:vm H (cl.map (·.2)) vs
theorem LamAt.mono{K:k7g}{H H':Hp}{x:ao}{a c:ak}{tx:Tx}{cl:List (ao×ak)}{vs:List V}(g:j4 H H')(h:LamAt K H x a c tx cl vs):LamAt K H' x a c tx cl vs :=
 ⟨h.tx,let ⟨pm,ctv,e⟩:=h.fo;⟨pm,ctv,g _ _ e⟩,let ⟨oc,e,q⟩:=h.co;⟨oc,g _ _ e,q⟩,h.nm,h.nd,h.cs.mono g⟩
noncomputable def del(H:Hp)(A:List ak):Hp:=λb=>if b∈A then ah else H b
section
variable{H H' F:Hp}{A A':List ak}{a b:ak}{o:HO}
theorem v9(h:b∈A):del H A b=ah:=if_pos h
theorem j5(h:b∉A):del H A b=H b:=if_neg h
theorem of_del(h:del H A b=aa o):b∉A/\H b=aa o:=by
 by_cases e:b∈A
 .rw[v9 e]at h;cases h
 .rw[j5 e]at h;exact⟨e,h⟩
theorem jf(g:j4 H H'):j4 (del H A) (del H' A):=λb o h=>by obtain⟨n,e⟩:=of_del h;rw[j5 n];exact g b o e
end
theorem j4.seqT{K:k7g}{H H':Hp}{a:ak}{xs:List V}(e:j4 H H')(h:SqT K H a xs):SqT K H' a xs:=by
 rcases h with (h|⟨o,h⟩)|h
 .exact .inl (.inl (e _ _ h))
 .exact .inl (.inr ⟨o,e _ _ h⟩)
 .exact .inr h
mutual
def Enc(K:k7g)(H:Hp):D->V->Prop
 |.non,v=>v=.non
 |.bl b,v=>v=.bl b
 |.int i,v=>v=.int i
 |.str x,v=>v=.str x
 |.tup ds,v=>∃a xs,v=.ref a/\SqT K H a xs/\j6 K H ds xs
 |.lst ds,v=>∃a xs,v=.ref a/\SqL K H a xs/\j6 K H ds xs
 |.dct ks ds,v=>∃(a:ak)(xs:List (List Int×ak×aj)) (ep:Nat) (vs:List V),v=.ref a/\H a=aa (.dI xs ep)/\ks=(xs.map λx=>x.1)/\(∀x∈xs,SqT K H x.2.1 (x.1.map V.int))/\Vals vs (xs.map λx=>x.2.2)/\j6 K H ds vs
 |.sct kvs,v=>∃a:ak,v=.ref a/\H a=aa (.dK (kvI kvs))
 |.fn x ds,v=>∃(a c:ak)(tx:Tx)(cl:List (ao×ak)) (vs:List V),v=.ref a/\LamAt K H x a c tx cl vs/\j6 K (del H (cl.map (·.2))) ds vs
def j6(K:k7g)(H:Hp):List D->List V->Prop
 |[],xs=>xs=[]
 |d::ds,xs=>∃x r,xs=x::r/\Enc K H d x/\j6 K H ds r
end
mutual
theorem Enc.mono{K:k7g}{H H':Hp}(g:j4 H H'):∀{d:D}{v:V},Enc K H d v->Enc K H' d v
 |.non,_,h=>h
 |.bl _,_,h=>h
 |.int _,_,h=>h
 |.str _,_,h=>h
 |.tup _,_,⟨a,xs,e,q,l⟩=>⟨a,xs,e,g.seqT q,j6.mono g l⟩
 |.lst _,_,⟨a,xs,e,q,l⟩=>⟨a,xs,e,g.seq q,j6.mono g l⟩
 |.dct _ _,_,⟨a,xs,ep,vs,e,q,ek,kt,rv,l⟩=>⟨a,xs,ep,vs,e,g _ _ q,ek,λx hx=>g.seqT (kt x hx),rv,j6.mono g l⟩
 |.sct _,_,⟨a,e,q⟩=>⟨a,e,g _ _ q⟩
 |.fn _ _,_,⟨a,c,tx,cl,vs,e,q,l⟩=>⟨a,c,tx,cl,vs,e,q.mono g,j6.mono (jf g) l⟩
theorem j6.mono{K:k7g}{H H':Hp}(g:j4 H H'):∀{ds:List D}{xs:List V},j6 K H ds xs->j6 K H' ds xs
 |[],_,h=>h
 |_::_,_,⟨x,r,e,h,l⟩=>⟨x,r,e,Enc.mono g h,j6.mono g l⟩
end
section
variable{K:k7g}{H H':Hp}{ds ds':List D}{xs ys:List V}
theorem j6.length:∀{ds:List D}{xs:List V},j6 K H ds xs->xs.length=ds.length
 |[],_,h=>by cases h;rfl
 |_::_,_,⟨x,r,e,_,l⟩=>by subst e;simp[j6.length l]
theorem j6.get:∀{ds:List D}{xs:List V}{i:Nat}{d:D},j6 K H ds xs->ds[i]?=aa d->∃x,xs[i]?=aa x/\Enc K H d x
 |[],_,i,d,_,e=>by simp at e
 |_::_,_,0,d,⟨x,r,e,h,_⟩,q=>by subst e;simp at q;subst q;exact⟨x,rfl,h⟩
 |_::_,_,i+1,d,⟨x,r,e,_,l⟩,q=>by subst e;simp at q;obtain⟨y,hy,hd⟩:=j6.get l q;exact⟨y,by simpa using hy,hd⟩
theorem j6.append:∀{ds ds':List D}{xs ys:List V},j6 K H ds xs->j6 K H ds' ys->j6 K H (ds++ds') (xs++ys)
 |[],_,_,_,h,h'=>by cases h;exact h'
 |_::_,_,_,_,⟨x,r,e,h,l⟩,h'=>by subst e;exact⟨x,_,rfl,h,j6.append l h'⟩
theorem j6.one{d:D}{x:V}(h:Enc K H d x):j6 K H [d] [x]:=⟨x,[],rfl,h,rfl⟩
theorem j6.take:∀{ds:List D}{xs:List V}(n:Nat),j6 K H ds xs->j6 K H (ds.take n) (xs.take n)
 |[],_,n,h=>by cases h;simp;exact rfl
 |_::_,_,0,⟨x,r,e,h,l⟩=>by simp;exact rfl
 |_::_,_,n+1,⟨x,r,e,h,l⟩=>by subst e;exact⟨x,_,rfl,h,j6.take n l⟩
theorem j6.drop:∀{ds:List D}{xs:List V}(n:Nat),j6 K H ds xs->j6 K H (ds.drop n) (xs.drop n)
 |[],_,n,h=>by cases h;simp;exact rfl
 |_::_,_,0,h=>h
 |_::_,_,n+1,⟨x,r,e,h,l⟩=>by subst e;exact j6.drop n l
theorem j6.rep{ds:List D}{xs:List V}(h:j6 K H ds xs):∀k:Nat,j6 K H (az k ds).flatten (az k xs).flatten
 |0=>rfl
 |k+1=>by rw[Pb,Pb,T4,T4];exact h.append (j6.rep h k)
theorem j6.ints(ns:List Int):j6 K H (ns.map D.int) (ns.map V.int):=by
 induction ns with
 |nil=>exact rfl
 |cons n ns ih=>exact⟨_,_,rfl,rfl,ih⟩
end
section
variable{H H' F:Hp}{A A':List ak}{a b:ak}{o:HO}
theorem Jc:del H []=H:=funext λb=>if_neg (by simp)
theorem jj:j4 (del H A) H:=λ_ _ h=>(of_del h).2
theorem z9(h:∀b,b∈A'->b∈A):j4 (del H A) (del H A'):=λb o e=>by obtain⟨n,e⟩:=of_del e;rw[j5 λz=>n (h b z)];exact e
theorem Vy(h:a∈A):del (upd H a o) A=del H A:=funext λb=>by
 by_cases e:b∈A
 .rw[v9 e,v9 e]
 .rw[j5 e,j5 e,ji];rintro rfl;exact e h
noncomputable def mrg(A:List ak)(H F:Hp):Hp:=λb=>if b∈A then H b else F b
theorem Jd(h:b∈A):mrg A H F b=H b:=if_pos h
theorem jt(h:b∉A):mrg A H F b=F b:=if_neg h
theorem Z7(h:∀a∈A,F a=ah):del (mrg A H F) A=F:=funext λb=>by
 by_cases e:b∈A
 .rw[v9 e,h b e]
 .rw[j5 e,jt e]
theorem Od(g:j4 (del H A) F):j4 H (mrg A H F):=λb o e=>by
 by_cases z:b∈A
 .rw[Jd z];exact e
 .rw[jt z];exact g b o (by rw[j5 z];exact e)
theorem j8(h:H a=ah):j4 H (upd H a o):=λb u q=>by rw[ji (z8 q h)];exact q
end
def Hd(o:Option HO):Prop:=(∃xs,o=aa (.lst xs))\/∃xs ep,o=aa (.dI xs ep)
section
variable{X:Cx}{pins:k7i}{σ σ':St}{H F:Hp}{s s':aq}{A:List ak}
theorem Inv.noFs(I:Inv X pins σ H s){b:ak}(hb:b∈X.fs):H b=ah:=by
 have q:b∈frs X.stack:=by
  rcases I.ok.stk with e|⟨e,_⟩
  .rw[e];exact hb
  .rw[e];have hb:b∈frs X.outer:=hb;unfold frs at hb ⊢;rw[cA];split
   .exact hb
   .exact xf _ hb
 exact I.stkFree b q
theorem Inv.hide(I:Inv X pins σ H s)(hA:∀a∈A,Hd (H a)):Inv X (pins++Yc A s.heap) σ (del H A) s where
 ok:=I.ok
 os:=I.os
 bare:=I.bare
 base:={
  keep:=I.base.keep
  slot:=I.base.slot
  free:=λb o e n hx=>by
   have q:=I.base.free b o e n hx
   by_cases z:b∈A
   .exact v9 z
   .rw[j5 z];exact q
  there:=I.base.there
  tups:=λb xs e=>by
   have q:=I.base.tups b xs e
   rw[j5];exact q
   intro z;rcases hA b z with ⟨ys,e'⟩|⟨ys,ep,e'⟩<;>(rw[q]at e';cases e')
  frzs:=λb o u e=>by
   have q:=I.base.frzs b o u e
   rw[j5];exact q
   intro z;rcases hA b z with ⟨ys,e'⟩|⟨ys,ep,e'⟩<;>(rw[q]at e';cases e')
  tbls:=λb ps e=>by
   obtain⟨more,q⟩:=I.base.tbls b ps e
   refine⟨more,?_⟩
   rw[j5];exact q
   intro z;rcases hA b z with ⟨ys,e'⟩|⟨ys,ep,e'⟩<;>(rw[q]at e';cases e') }
 loc:=I.loc
 cell:=I.cell
 free:=by
  by_cases z:X.env.locals∈A
  .exact v9 z
  .rw[j5 z];exact I.free
 freeC:=λx c e=>by
  by_cases z:c∈A
  .exact v9 z
  .rw[j5 z];exact I.freeC x c e
 pin:=λp hp=>by
  rw[<-Pk]at hp;rcases Xx.mp hp with hp|hp
  .obtain⟨h1,h2,h3⟩:=I.pin p hp;refine⟨h1,?_,h3⟩;by_cases z:p.1∈A
   .exact v9 z
   .rw[j5 z];exact h2
  .obtain⟨h1,h2⟩:=Dt hp;rcases hA _ h1 with ⟨xs,e⟩|⟨xs,ep,e⟩
   .refine⟨h2,v9 h1,λz=>?_,λz=>?_,λv z=>?_⟩
    .rw[z,I.free]at e;cases e
    .rw[I.noFs z]at e;cases e
    .obtain⟨_,its,n,_,q⟩:=(show jw X.prog X.w H s.heap p.1 (.lst xs)from I.hok _ _ e)
     rw[h2]at q;rw[aC q]at z;cases z
   .refine⟨h2,v9 h1,λz=>?_,λz=>?_,λv z=>?_⟩
    .rw[z,I.free]at e;cases e
    .rw[I.noFs z]at e;cases e
    .obtain⟨_,_,_,ob,es,q,_,qd,_⟩:=(show jw X.prog X.w H s.heap p.1 (.dI xs ep)from I.hok _ _ e)
     rw[h2]at q;rw[aC q,qd]at z;cases z
 hok:=λa o e=>by
  obtain⟨n,e⟩:=of_del e;refine jw.stay (I.hok a o e) (λb u _ q=>q) (λb q=>?_) (λb xs q=>?_) (λb _ _ q=>?_)
  .rw[j5];exact q;intro z;rcases hA b z with ⟨ys,e'⟩|⟨ys,ep,e'⟩<;>(rw[q]at e';cases e')
  .rw[j5];exact q;intro z;rcases hA b z with ⟨ys,e'⟩|⟨ys,ep,e'⟩<;>(rw[q]at e';cases e')
  .rw[j5];exact q;intro z;rcases hA b z with ⟨ys,e'⟩|⟨ys,ep,e'⟩<;>(rw[q]at e';cases e')
 len:=I.len
theorem Inv.unhide(I0:Inv X pins σ H s)(hA:∀a∈A,Hd (H a))(I:Inv X (pins++Yc A s.heap) σ' F s') :
  (∀a∈A,F a=ah)/\Inv X pins σ' (mrg A H F) s':=by
 have pinned:∀a∈A,∃o,s.heap.get? a=aa o/\s'.heap.get? a=aa o/\F a=ah:=λa ha=>by
  have ob:∃o,s.heap.get? a=aa o:=by
   rcases hA a ha with ⟨xs,e⟩|⟨xs,ep,e⟩
   .obtain⟨_,its,n,_,q⟩:=(show jw X.prog X.w H s.heap a (.lst xs)from I0.hok _ _ e)
    exact⟨_,q⟩
   .obtain⟨_,_,_,o,es,q,_⟩:=(show jw X.prog X.w H s.heap a (.dI xs ep)from I0.hok _ _ e)
    exact⟨_,q⟩
  obtain⟨o,q⟩:=ob;obtain⟨h1,h2,_⟩:=I.pin (a,_) (Xm _ (Xm _ (Za ha q)));exact⟨_,q,h1,h2⟩
 have hF:∀a∈A,F a=ah:=λa ha=>let ⟨_,_,_,q⟩:=pinned a ha;q;have out:∀{b:ak}{o:HO},F b=aa o->b∉A:=λ{b o} e z=>by rw[hF b z]at e;cases e
 refine⟨hF,?_⟩;exact{
  ok:=I.ok
  os:=I.os
  bare:=I.bare
  base:={
   keep:=I.base.keep
   slot:=I.base.slot
   free:=λb o e n hx=>by
    by_cases z:b∈A
    .rw[Jd z];exact I0.base.free b o e n hx
    .rw[jt z];exact I.base.free b o e n hx
   there:=I.base.there
   tups:=λb xs e=>by
    have q:=I.base.tups b xs e
    rw[jt (out q)];exact q
   frzs:=λb o u e=>by
    have q:=I.base.frzs b o u e
    rw[jt (out q)];exact q
   tbls:=λb ps e=>by
    obtain⟨more,q⟩:=I.base.tbls b ps e
    exact⟨more,by rw[jt (out q)];exact q⟩ }
  loc:=I.loc
  cell:=I.cell
  free:=by
   by_cases z:X.env.locals∈A
   .rw[Jd z];exact I0.free
   .rw[jt z];exact I.free
  freeC:=λx c e=>by
   by_cases z:c∈A
   .rw[Jd z];exact I0.freeC x c e
   .rw[jt z];exact I.freeC x c e
  pin:=λp hp=>by
   obtain⟨h1,h2,h3⟩:=I.pin p (by rw[<-Pk];exact cS _ hp)
   refine⟨h1,?_,h3⟩
   by_cases z:p.1∈A
   .rw[Jd z];exact(I0.pin p hp).2.1
   .rw[jt z];exact h2
  hok:=λa o e=>by
   by_cases z:a∈A
   .rw[Jd z]at e
    obtain⟨o',q1,q2,_⟩:=pinned a z
    rcases hA a z with ⟨xs,e'⟩|⟨xs,ep,e'⟩
    .rw[e']at e;cases e
     obtain⟨hl,its,n,r,q⟩:=(show jw X.prog X.w H s.heap a (.lst xs)from I0.hok _ _ e')
     rw[q]at q1;cases q1
     exact⟨hl,its,n,r,q2⟩
    .rw[e']at e;cases e
     obtain⟨z1,z2,z3,ob,es,q,z4⟩:=(show jw X.prog X.w H s.heap a (.dI xs ep)from I0.hok _ _ e')
     rw[q]at q1;cases q1
     exact⟨z1,z2,z3,_,es,q2,z4⟩
   .rw[jt z]at e
    refine jw.stay (I.hok a o e) (λb u _ q=>q) (λb q=>?_) (λb xs q=>?_) (λb _ _ q=>?_)
    .rw[jt (out q)];exact q
    .rw[jt (out q)];exact q
    .rw[jt (out q)];exact q
  len:=I.len }
end
def Q6(X:Cx)(e:ar):TE:=λσ H Q=>∀pins s,Inv X pins σ H s->ax (aA X.prog X.w) X.A (aB e X.env) (EP X pins σ Q) X.xe s
def j77(X:Cx)(e:ar):TT:=λσ H Q=>∀pins s,Inv X pins σ H s->ax (aA X.prog X.w) X.A (eN e X.env (aB e X.env)) (TP X pins σ Q) X.xe s
def Uz(X:Cx)(es:List ar):TA:=λσ H Q=>∀pos pins s,Inv X pins σ H s->ax (aA X.prog X.w) X.A (fQ (aT pos (ai es X.env))) (AP X pins σ Q) X.xe s
def j78(X:Cx)(st:aQ):TS:=λD σ H=>∀pins s,Inv X pins σ H s->ax (aA X.prog X.w) X.A (exec st X.env) (SP X pins D) X.xe s
def Zz(X:Cx)(sts:List aQ):TS:=λD σ H=>∀pins s,Inv X pins σ H s->ax (aA X.prog X.w) X.A (execs sts X.env) (SP X pins D) X.xe s
def j79(X:Cx)(tg iter:ar):TI:=λσ H R=>∀pins s,Inv X pins σ H s ->
 ax (aA X.prog X.w) X.A (aB iter X.env) (λv s1=>ax (aA X.prog X.w) X.A (iC v) (PIE X pins σ tg R) X.xe s1) X.xe s
section
variable{X:Cx}{e tg:ar}{es:List ar}{st:aQ}{sts:List aQ}{σ:St}{H:Hp}
theorem peS:PE X e (Q6 X e):=λpins s _ _ _ I h=>h pins s I
theorem ptS:PT X e (j77 X e):=λpins s _ _ _ I h=>h pins s I
theorem paS:PA X es (Uz X es):=λpos pins s _ _ _ I h=>h pos pins s I
theorem psS:PS X st (j78 X st):=λpins s _ _ _ I h=>h pins s I
theorem v7:PSs X sts (Zz X sts):=λpins s _ _ _ I h=>h pins s I
theorem piS:PI X tg e (j79 X tg e):=λpins s _ _ _ I h=>h pins s I
theorem PE.to{t:TE}(h:PE X e t){Q:VK}(q:t σ H Q):Q6 X e σ H Q:=λpins s I=>h pins s σ H Q I q
theorem PT.to{t:TT}(h:PT X e t){Q:Bool->Hp->Prop}(q:t σ H Q):j77 X e σ H Q:=λpins s I=>h pins s σ H Q I q
theorem PA.to{t:TA}(h:PA X es t){Q:List V->Hp->Prop}(q:t σ H Q):Uz X es σ H Q:=λpos pins s I=>h pos pins s σ H Q I q
theorem PS.to{t:TS}(h:PS X st t){D:Ends}(q:t D σ H):j78 X st D σ H:=λpins s I=>h pins s σ H D I q
theorem PSs.to{t:TS}(h:PSs X sts t){D:Ends}(q:t D σ H):Zz X sts D σ H:=λpins s I=>h pins s σ H D I q
theorem PI.to{t:TI}(h:PI X tg e t){R:It->Hp->Prop}(q:t σ H R):j79 X tg e σ H R:=λpins s I=>h pins s σ H R I q
end
inductive Sl where
 |un
 |val (d:D)
 |own (a:ak) (ds:List D)
 |raw (a:ak) (o:dm) (x:ao)
noncomputable abbrev Rho:=List Sl
noncomputable def Sl.addr:Sl->Option ak
 |.own a _=>aa a
 |_=>ah
noncomputable def owns(ρ:Rho):List ak:=ρ.filterMap Sl.addr
theorem Jt{ρ:Rho}{i:Nat}{a:ak}{ds:List D}(h:ρ[i]?=aa (.own a ds)):a∈owns ρ:=Py.mpr ⟨_,Xl h,rfl⟩
theorem V1{ρ:Rho}{a:ak}(h:a∈owns ρ):∃(i:Nat)(ds:List D),ρ[i]?=aa (.own a ds):=by
 obtain⟨s,hs,e⟩:=Py.mp h;obtain⟨i,hi⟩:=List.mem_iff_getElem?.mp hs;cases s with
 |own b ds=>cases e;exact⟨i,ds,hi⟩
 |un=>cases e
 |val d=>cases e
 |raw b o x=>cases e
theorem jy(s:Sl)(ρ:Rho):owns (s::ρ)=(match s.addr with|some a=>a::owns ρ|none=>owns ρ):=by unfold owns;rw[cA];cases s.addr<;>rfl
theorem j9{s:Sl}(hs:s.addr=ah):∀{ρ:Rho}{i:Nat},(owns (ρ.set i s)).Sublist (owns ρ)
 |[],_=>List.Sublist.refl _
 |x::r,0=>by
  rw[cH,jy,jy,hs];cases x.addr with
  |none=>exact List.Sublist.refl _
  |some a=>exact List.sublist_cons_self _ _
 |x::r,i+1=>by
  rw[de,jy,jy];have ih:=j9 hs (ρ:=r) (i:=i);cases x.addr with
  |none=>exact ih
  |some a=>exact ih.cons_cons a
theorem Qx{a:ak}{ds ds':List D}:∀{ρ:Rho}{i:Nat},ρ[i]?=aa (.own a ds)->owns (ρ.set i (.own a ds'))=owns ρ
 |[],_,h=>by simp at h
 |x::r,0,h=>by simp at h;subst h;rw[cH,jy,jy];rfl
 |x::r,i+1,h=>by simp at h;rw[de,jy,jy,Qx h]
theorem Mz{s:Sl}(hs:s.addr=ah):∀{ρ:Rho}{i:Nat},(∀a l,ρ[i]?≠aa (.own a l))->owns (ρ.set i s)=owns ρ
 |[],_,_=>rfl
 |x::r,0,h=>by
  rw[cH,jy,jy,hs];cases x with
  |own a l=>exact absurd rfl (h a l)
  |un=>rfl
  |val d=>rfl
  |raw a o x=>rfl
 |x::r,i+1,h=>by rw[de,jy,jy,Mz hs (λa l=>by simpa using h a l)]
theorem Jp{a:ak}{ds:List D}:∀{ρ:Rho}{i:Nat},(owns ρ).Nodup->a∉owns ρ->(owns (ρ.set i (.own a ds))).Nodup/\∀b∈owns (ρ.set i (.own a ds)),b=a\/b∈owns ρ
 |[],_,n,_=>⟨n,λb hb=>.inr hb⟩
 |x::r,0,n,h=>by
  rw[cH,jy];rw[jy]at n h;have e:(Sl.own a ds).addr=aa a:=rfl;rw[e];cases q:x.addr with
  |none =>rw[q]at n h;exact⟨Xk.mpr ⟨h,n⟩,λb hb=>(xr.mp hb).elim .inl λz=>.inr (by rw[jy,q];exact z)⟩
  |some c =>rw[q]at n h;exact⟨Xk.mpr ⟨λz=>h (xf _ z),(Xk.mp n).2⟩,λb hb=>(xr.mp hb).elim .inl λz=>.inr (by rw[jy,q];exact xf _ z)⟩
 |x::r,i+1,n,h=>by
  rw[de,jy];rw[jy]at n h;cases q:x.addr with
  |none =>rw[q]at n h;obtain⟨i1,i2⟩:=Jp (ds:=ds) (i:=i) n h;exact⟨i1,λb hb=>(i2 b hb).elim .inl λz=>.inr (by rw[jy,q];exact z)⟩
  |some c =>
   rw[q]at n h;obtain⟨n1,n2⟩:=Xk.mp n;obtain⟨i1,i2⟩:=Jp (ds:=ds) (i:=i) n2 (λz=>h (xf _ z));refine⟨Xk.mpr ⟨λz=>?_,i1⟩,λb hb=>?_⟩
   .rcases i2 c z with e|z
    .subst e;exact h (xm ..)
    .exact n1 z
   .rcases xr.mp hb with e|z
    .exact .inr (by rw[jy,q];exact e▸xm ..)
    .exact(i2 b z).elim .inl λz=>.inr (by rw[jy,q];exact xf _ z)
theorem Yg{a:ak}{l l':List D}:∀{ρ:Rho}{i j:Nat},(owns ρ).Nodup->ρ[i]?=aa (.own a l)->ρ[j]?=aa (.own a l')->i=j
 |[],i,_,_,h,_=>by simp at h
 |x::r,0,0,_,_,_=>rfl
 |x::r,0,j+1,n,h,h'=>by simp at h h';subst h;rw[jy]at n;exact absurd (Jt h') (Xk.mp n).1
 |x::r,i+1,0,n,h,h'=>by simp at h h';subst h';rw[jy]at n;exact absurd (Jt h) (Xk.mp n).1
 |x::r,i+1,j+1,n,h,h'=>by
  simp at h h';have n':(owns r).Nodup:=by
   rw[jy]at n;cases q:x.addr with
   |none=>rw[q]at n;exact n
   |some c=>rw[q]at n;exact(Xk.mp n).2
  rw[Yg n' h h']
noncomputable def Vf:List ao:=["worst_cost_of_ask","least_numbers","whole_cost_of_ask","round_numbers"]
def TabOk(K:k7g)(H:Hp):Prop:=∀x∈Vf,∀c P,W.tabIn K x=aa (c,P)->H P=aa (.cod (zx x))
section
variable{K:k7g}{H H':Hp}
theorem TabOk.mono(h:TabOk K H)(g:j4 H H'):TabOk K H':=λx hx c P e=>g _ _ (h x hx c P e)
theorem TabOk.upd{a:ak}{o u:HO}(h:TabOk K H)(e:H a=aa u)(n:∀q,u≠.cod q):TabOk K (upd H a o):=λx hx c P z=>by have q:=h x hx c P z;rw[ji];exact q;intro y;subst y;rw[e]at q;exact n _ (aC q)
theorem TabOk.del{A:List ak}(h:TabOk K H)(hA:∀a∈A,∃xs,H a=aa (.lst xs)):TabOk K (del H A):=λx hx c P z=>by have q:=h x hx c P z;rw[j5];exact q;intro y;obtain⟨xs,e⟩:=hA _ y;rw[q]at e;cases e
end
noncomputable def rfN:ao:="@"
def K1(K:k7g)(F:Hp)(a:ak)(o:dm)(x:ao):Prop:=x=rfN\/(F a=aa (.frz o (.own a))/\W.nsIn K aw x=aa (aa o.cls))
theorem K1.mono{K:k7g}{F F':Hp}{a:ak}{o:dm}{x:ao}(h:K1 K F a o x)(g:j4 F F'):K1 K F' a o x:=h.elim .inl λh=>.inr ⟨g _ _ h.1,h.2⟩
structure Rep(K:k7g)(ρ:Rho)(σ:St)(H:Hp):Prop where
 len:σ.length=ρ.length
 val:∀(i:Nat)(d:D),ρ[i]?=aa (.val d)->∃v,σ[i]?=aa (aa v)/\Enc K (del H (owns ρ)) d v
 own:∀(i:Nat)(a:ak)(ds:List D),ρ[i]?=aa (.own a ds)->σ[i]?=aa (aa (.ref a))/\∃xs,H a=aa (.lst xs)/\j6 K (del H (owns ρ)) ds xs
 nd:(owns ρ).Nodup
 raw:∀(i:Nat)(a:ak)(o:dm)(x:ao),ρ[i]?=aa (.raw a o x)->σ[i]?=aa (aa (.ref a))/\K1 K (del H (owns ρ)) a o x
 tb:TabOk K H
section
variable{K:k7g}{ρ ρ':Rho}{σ:St}{H H':Hp}{i:Nat}{d:D}{v:V}{a:ak}{ds ds':List D}{xs:List V}
theorem Rep.owned(R:Rep K ρ σ H):∀a∈owns ρ,∃xs,H a=aa (.lst xs):=λa h=>by obtain⟨i,ds,e⟩:=V1 h;obtain⟨_,xs,q,_⟩:=R.own i a ds e;exact⟨xs,q⟩
theorem Rep.fresh(R:Rep K ρ σ H)(h:H a=ah):a∉owns ρ:=λz=>by obtain⟨xs,e⟩:=R.owned a z;rw[h]at e;cases e
theorem Rep.grow(R:Rep K ρ σ H)(g:j4 H H'):Rep K ρ σ H' :=
 ⟨R.len,λi d e=>let ⟨v,q,h⟩:=R.val i d e;⟨v,q,h.mono (jf g)⟩,λi a ds e=>let ⟨q,xs,h,l⟩:=R.own i a ds e;⟨q,xs,g _ _ h,l.mono (jf g)⟩,R.nd,λi a o x e=>let ⟨q,h⟩:=R.raw i a o x e;⟨q,h.mono (jf g)⟩,R.tb.mono g⟩
theorem getElem?_set_of{α:Type}{l:List α}{i j:Nat}{x y:α}(h:(l.set i x)[j]?=aa y):(i=j/\y=x/\i<l.length)\/(i≠j/\l[j]?=aa y):=by
 rw[dB]at h;split at h
 .rename_i e;subst e;split at h
  .rename_i z;cases h;exact .inl ⟨rfl,rfl,z⟩
  .cases h
 .rename_i e;exact .inr ⟨e,h⟩
theorem Y8{α:Type}{l:List α}{i:Nat}{x:α}(h:i<l.length):(l.set i x)[i]?=aa x:=by simp[h]
theorem vg{α:Type}{l:List α}{i j:Nat}{x:α}(h:i≠j):(l.set i x)[j]?=l[j]?:=by simp[h]
theorem Rep.set_val(R:Rep K ρ σ H)(e:Enc K (del H (owns ρ)) d v):Rep K (ρ.set i (.val d)) (σ.set i (aa v)) H:=by
 have sub:(owns (ρ.set i (.val d))).Sublist (owns ρ):=j9 rfl;have g:j4 (del H (owns ρ)) (del H (owns (ρ.set i (.val d)))):=z9 λb hb=>sub.subset hb;refine⟨by simp[R.len],λj d' h=>?_,λj a ds h=>?_,sub.nodup R.nd,λj a o x h=>?_,R.tb⟩
 .rcases getElem?_set_of h with ⟨rfl,z,hl⟩|⟨n,h⟩
  .cases z;exact⟨v,Y8 (by rw[R.len];exact hl),e.mono g⟩
  .obtain⟨u,q,h⟩:=R.val j d' h;exact⟨u,by rw[vg n];exact q,h.mono g⟩
 .rcases getElem?_set_of h with ⟨rfl,z,_⟩|⟨n,h⟩
  .cases z
  .obtain⟨q,xs,h,l⟩:=R.own j a ds h;exact⟨by rw[vg n];exact q,xs,h,l.mono g⟩
 .rcases getElem?_set_of h with ⟨rfl,z,_⟩|⟨n,h⟩
  .cases z
  .obtain⟨q,h⟩:=R.raw j a o x h;exact⟨by rw[vg n];exact q,h.mono g⟩
theorem Rep.set_un{v:Option V}(R:Rep K ρ σ H):Rep K (ρ.set i .un) (σ.set i v) H:=by
 have sub:(owns (ρ.set i .un)).Sublist (owns ρ):=j9 rfl;have g:j4 (del H (owns ρ)) (del H (owns (ρ.set i .un))):=z9 λb hb=>sub.subset hb;refine⟨by simp[R.len],λj d' h=>?_,λj a ds h=>?_,sub.nodup R.nd,λj a o x h=>?_,R.tb⟩
 .rcases getElem?_set_of h with ⟨rfl,z,hl⟩|⟨n,h⟩
  .cases z
  .obtain⟨u,q,h⟩:=R.val j d' h;exact⟨u,by rw[vg n];exact q,h.mono g⟩
 .rcases getElem?_set_of h with ⟨rfl,z,_⟩|⟨n,h⟩
  .cases z
  .obtain⟨q,xs,h,l⟩:=R.own j a ds h;exact⟨by rw[vg n];exact q,xs,h,l.mono g⟩
 .rcases getElem?_set_of h with ⟨rfl,z,_⟩|⟨n,h⟩
  .cases z
  .obtain⟨q,h⟩:=R.raw j a o x h;exact⟨by rw[vg n];exact q,h.mono g⟩
theorem Rep.set_own(R:Rep K ρ σ H)(g:j4 H H')(ha:H a=ah)(e:H' a=aa (.lst xs))(l:j6 K (del H' (a::owns ρ)) ds xs):Rep K (ρ.set i (.own a ds)) (σ.set i (aa (.ref a))) H':=by
 have na:=R.fresh ha;obtain⟨nd,sub⟩:=Jp (ds:=ds) (i:=i) R.nd na;have g1:j4 (del H' (a::owns ρ)) (del H' (owns (ρ.set i (.own a ds)))):=z9 λb hb=>by
  rcases sub b hb with e|z
  .exact e▸xm ..
  .exact xf _ z
 have g2:j4 (del H (owns ρ)) (del H' (a::owns ρ)):=λb o q=>by
  obtain⟨n,q⟩:=of_del q;rw[j5];exact g b o q;intro z;rcases xr.mp z with e|z
  .subst e;rw[ha]at q;cases q
  .exact n z
 refine⟨by simp[R.len],λj d' h=>?_,λj b ds' h=>?_,nd,λj b o x h=>?_,R.tb.mono g⟩
 .rcases getElem?_set_of h with ⟨rfl,z,hl⟩|⟨n,h⟩
  .cases z
  .obtain⟨u,q,h⟩:=R.val j d' h;exact⟨u,by rw[vg n];exact q,h.mono (g2.trans g1)⟩
 .rcases getElem?_set_of h with ⟨rfl,z,hl⟩|⟨n,h⟩
  .cases z;exact⟨Y8 (by rw[R.len];exact hl),xs,e,l.mono g1⟩
  .obtain⟨q,ys,h,l⟩:=R.own j b ds' h;exact⟨by rw[vg n];exact q,ys,g _ _ h,l.mono (g2.trans g1)⟩
 .rcases getElem?_set_of h with ⟨rfl,z,hl⟩|⟨n,h⟩
  .cases z
  .obtain⟨q,h⟩:=R.raw j b o x h;exact⟨by rw[vg n];exact q,h.mono (g2.trans g1)⟩
theorem Rep.upd_own(R:Rep K ρ σ H)(h:ρ[i]?=aa (.own a ds))(l:j6 K (del H (owns ρ)) ds' xs):Rep K (ρ.set i (.own a ds')) σ (upd H a (.lst xs)):=by
 have eo:owns (ρ.set i (.own a ds'))=owns ρ:=Qx h;have ed:del (upd H a (.lst xs)) (owns ρ)=del H (owns ρ):=Vy (Jt h);refine⟨by simp[R.len],λj d' q=>?_,λj b l' q=>?_,by rw[eo];exact R.nd,λj b o x q=>?_,let ⟨_,_,z,_⟩:=R.own i a ds h;R.tb.upd z λ_ y=>by cases y⟩
 .rw[eo,ed];rcases getElem?_set_of q with ⟨_,z,_⟩|⟨n,q⟩
  .cases z
  .exact R.val j d' q
 .rw[eo,ed];rcases getElem?_set_of q with ⟨rfl,z,_⟩|⟨n,q'⟩
  .cases z;exact⟨(R.own i a ds h).1,xs,ju,l⟩
  .obtain⟨z,ys,y,l''⟩:=R.own j b l' q';refine⟨z,ys,?_,l''⟩;have nb:b≠a:=λe=>n (Yg R.nd h (e▸q'));rw[ji nb];exact y
 .rw[eo,ed];rcases getElem?_set_of q with ⟨_,z,_⟩|⟨n,q⟩
  .cases z
  .exact R.raw j b o x q
theorem Rep.freeze(R:Rep K ρ σ H)(h:ρ[i]?=aa (.own a ds)):Rep K (ρ.set i (.val (.lst ds))) σ H:=by
 obtain⟨hs,xs,hx,l⟩:=R.own i a ds h;have sub:(owns (ρ.set i (.val (.lst ds)))).Sublist (owns ρ):=j9 rfl;have g:j4 (del H (owns ρ)) (del H (owns (ρ.set i (.val (.lst ds))))):=z9 λb hb=>sub.subset hb;have na:a∉owns (ρ.set i (.val (.lst ds))):=λz=>by
  obtain⟨j,l',q⟩:=V1 z;rcases getElem?_set_of q with ⟨_,z,_⟩|⟨n,q⟩
  .cases z
  .exact n (Yg R.nd h q)
 refine⟨by simp[R.len],λj d' q=>?_,λj b l' q=>?_,sub.nodup R.nd,λj b o x q=>?_,R.tb⟩
 .rcases getElem?_set_of q with ⟨rfl,z,_⟩|⟨n,q⟩
  .cases z;exact⟨_,hs,a,xs,rfl,.inl (.inl (by rw[j5 na];exact hx)),l.mono g⟩
  .obtain⟨u,q,h⟩:=R.val j d' q;exact⟨u,q,h.mono g⟩
 .rcases getElem?_set_of q with ⟨rfl,z,_⟩|⟨n,q⟩
  .cases z
  .obtain⟨q,ys,h,l⟩:=R.own j b l' q;exact⟨q,ys,h,l.mono g⟩
 .rcases getElem?_set_of q with ⟨_,z,_⟩|⟨n,q⟩
  .cases z
  .obtain⟨q,h⟩:=R.raw j b o x q;exact⟨q,h.mono g⟩
end
def DE(X:Cx)(ρ:Rho)(e:ar)(d:D):Prop:=∀σ H Q,Rep X.K ρ σ H->(∀v H',j4 H H'->Enc X.K (del H' (owns ρ)) d v->Q v H')->Q6 X e σ H Q
def DT(X:Cx)(ρ:Rho)(e:ar)(d:D):Prop:=∀σ H Q,Rep X.K ρ σ H->(∀v H',j4 H H'->Enc X.K H' d v->Q v H')->Q6 X e σ H Q
def DO(X:Cx)(ρ:Rho)(e:ar)(ds:List D):Prop:=∀σ H Q,Rep X.K ρ σ H->(∀a xs H',j4 H H'->H a=ah->H' a=aa (.lst xs)->j6 X.K (del H' (a::owns ρ)) ds xs->Q (.ref a) H')->Q6 X e σ H Q
def DL(X:Cx)(ρ:Rho)(e:ar)(ds:List D):Prop:=∀σ H Q,Rep X.K ρ σ H->(∀a xs H',j4 H H'->H' a=aa (.lst xs)->j6 X.K (del H' (owns ρ)) ds xs->Q (.ref a) H')->Q6 X e σ H Q
def DB(X:Cx)(ρ:Rho)(e:ar)(b:Bool):Prop:=∀σ H Q,Rep X.K ρ σ H->(∀H',j4 H H'->Q b H')->j77 X e σ H Q
def DA(X:Cx)(ρ:Rho)(es:List ar)(ds:List D):Prop:=∀σ H Q,Rep X.K ρ σ H->(∀vs H',j4 H H'->j6 X.K (del H' (owns ρ)) ds vs->Q vs H')->Uz X es σ H Q
def DTA(X:Cx)(ρ:Rho)(es:List ar)(ds:List D):Prop:=∀σ H Q,Rep X.K ρ σ H->(∀vs H',j4 H H'->j6 X.K H' ds vs->Q vs H')->Uz X es σ H Q
def j76(X:Cx)(e:ar):TT:=λσ H Q=>∀whole pins s,Inv X pins σ H s->ax (aA X.prog X.w) X.A (eN e X.env whole) (TP X pins σ Q) X.xe s
theorem pwS{X:Cx}{e:ar}:PW X e (j76 X e):=λwhole pins s _ _ _ I h=>h whole pins s I
theorem PW.to{X:Cx}{e:ar}{t:TT}{σ:St}{H:Hp}(h:PW X e t){Q:Bool->Hp->Prop}(q:t σ H Q):j76 X e σ H Q:=λwhole pins s I=>h whole pins s σ H Q I q
def DW(X:Cx)(ρ:Rho)(e:ar)(b:Bool):Prop:=∀σ H Q,Rep X.K ρ σ H->(∀H',j4 H H'->Q b H')->j76 X e σ H Q
mutual
noncomputable def Jl:D->Bool
 |.lst _=>ae
 |.dct _ _=>ae
 |.sct _=>ae
 |.fn _ _=>ae
 |.tup ds=>qj ds
 |_=>af
noncomputable def qj:List D->Bool
 |[]=>af
 |d::ds=>Jl d&&qj ds
end
mutual
theorem Enc.hide{K:k7g}{H:Hp}{A:List ak}(hA:∀a∈A,Hd (H a)):∀{d:D}{v:V},Jl d=af->Enc K H d v->Enc K (del H A) d v
 |.non,_,_,h=>h
 |.bl _,_,_,h=>h
 |.int _,_,_,h=>h
 |.str _,_,_,h=>h
 |.lst _,_,n,_=>by cases n
 |.dct _ _,_,n,_=>by cases n
 |.sct _,_,n,_=>by cases n
 |.fn _ _,_,n,_=>by cases n
 |.tup ds,_,n,⟨a,xs,e,q,l⟩=>by
  refine⟨a,xs,e,?_,j6.hide hA (by simpa [Jl]using n) l⟩;have out:∀{o:HO},H a=aa o->(∀ys,o≠.lst ys)->(∀ys ep,o≠.dI ys ep)->del H A a=aa o:=λ{o} h z z2=>by
   rw[j5];exact h;intro y;rcases hA a y with ⟨ys,e'⟩|⟨ys,ep,e'⟩
   .rw[h]at e';cases e';exact z ys rfl
   .rw[h]at e';cases e';exact z2 ys ep rfl
  rcases q with (q|⟨o,q⟩)|q
  .exact .inl (.inl (out q (λ_ z=>by cases z) λ_ _ z=>by cases z))
  .exact .inl (.inr ⟨o,out q (λ_ z=>by cases z) λ_ _ z=>by cases z⟩)
  .exact .inr q
theorem j6.hide{K:k7g}{H:Hp}{A:List ak}(hA:∀a∈A,Hd (H a)):∀{ds:List D}{xs:List V},qj ds=af->j6 K H ds xs->j6 K (del H A) ds xs
 |[],_,_,h=>h
 |d::ds,_,n,⟨x,r,e,h,l⟩=>by
  have n':Jl d=af/\qj ds=af:=by simpa [qj]using n
  exact⟨x,r,e,Enc.hide hA n'.1 h,j6.hide hA n'.2 l⟩
end
section
variable{X:Cx}{ρ:Rho}{e a b c:ar}{es:List ar}{d da db:D}{ds ds':List D}{i j:Int}{pos:aP}{k:Nat}{x:ao}
theorem DE.toT(h:DE X ρ e d):DT X ρ e d:=λσ H Q R q=>h σ H Q R λv H' g l=>q v H' g (l.mono jj)
theorem DT.toE(h:DT X ρ e d)(n:Jl d=af:=by rfl):DE X ρ e d:=λσ H Q R q=>h σ H Q R λv H' g l=>q v H' g (l.hide (λa ha=>.inl ((R.grow g).owned a ha)) n)
theorem DO.toL(h:DO X ρ e ds):DL X ρ e ds:=λσ H Q R q=>h σ H Q R λa xs H' g n m l=>q a xs H' g m (l.mono (z9 λb hb=>xf _ hb))
theorem DO.toE(h:DO X ρ e ds):DE X ρ e (.lst ds):=λσ H Q R q=>h σ H Q R λa xs H' g n m l =>q _ H' g ⟨a,xs,rfl,.inl (.inl (by rw[j5 (R.fresh n)];exact m)),l.mono (z9 λb hb=>xf _ hb)⟩
theorem DL.toT(h:DL X ρ e ds):DT X ρ e (.lst ds):=λσ H Q R q=>h σ H Q R λa xs H' g m l=>q _ H' g ⟨a,xs,rfl,.inl (.inl m),l.mono jj⟩
theorem DW.toB{k:Bool}(h:DW X ρ e k):DB X ρ e k:=λσ H Q R q pins s I=>h σ H Q R q _ pins s I
theorem DA.toT(h:DA X ρ es ds):DTA X ρ es ds:=λσ H Q R q=>h σ H Q R λv H' g l=>q v H' g (l.mono jj)
theorem DE.eq(h:DE X ρ e d){d':D}(q:d=d'):DE X ρ e d':=q▸h
theorem DB.eq{b b':Bool}(h:DB X ρ e b)(q:b=b'):DB X ρ e b':=q▸h
end
section
variable{X:Cx}{ρ:Rho}{e a b c:ar}{es:List ar}{d da db:D}{ds ds':List D}{i j:Int}{pos p:aP}{k:Nat}{x:ao}
theorem DE.var(k:Nat)(h:ρ[k]?=aa (.val d))(hN:X.N[k]?=aa x:=by rfl)(hv:Vis X.env.scope x:=by first|exact aV rfl|exact bJ (aV rfl)|exact bJ (bJ rfl))
  (hd:(x==k7k)=ae:=by decide) (hcd:(x==k7l)=ae:=by decide):DE X ρ (.Name x pos) d:=λσ H Q R q=>by
 obtain⟨v,hs,en⟩:=R.val k d h;exact(qi hN hv hd hcd).to ⟨v,hs,q v H (j4.refl H) en⟩
theorem DL.var(k:Nat){l:ak}(h:ρ[k]?=aa (.own l ds))(hN:X.N[k]?=aa x:=by rfl)(hv:Vis X.env.scope x:=by first|exact aV rfl|exact bJ (aV rfl)|exact bJ (bJ rfl))
  (hd:(x==k7k)=ae:=by decide) (hcd:(x==k7l)=ae:=by decide):DL X ρ (.Name x pos) ds:=λσ H Q R q=>by
 obtain⟨hs,xs,m,en⟩:=R.own k l ds h;exact(qi hN hv hd hcd).to ⟨_,hs,q l xs H (j4.refl H) m en⟩
theorem DE.glob {u:aj} {v:V} (hg:Gl X x) (hm:X.mg x=aa u) (r:RelV v u) (h:∀H,Enc X.K H d v) (hd:(x==k7k)=ae:=by decide):DE X ρ (.Name x pos) d :=
 λσ H Q R q=>(jc3 hg hm r hd).to (q v H (j4.refl H) (h _))
theorem DE.int{i:Int}{n:Nat}{pos:aP}:DE X ρ (.Constant (.int i) n pos) (.int i):=λσ H Q R q=>Kr.to (q _ H (j4.refl H) rfl)
theorem DE.bl{b:Bool}{n:Nat}:DE X ρ (.Constant (.bool b) n pos) (.bl b):=λσ H Q R q=>jjo.to (q _ H (j4.refl H) rfl)
theorem DE.str{y:ao}{n:Nat}:DE X ρ (.Constant (.str y) n pos) (.str y):=λσ H Q R q=>Rh.to (q _ H (j4.refl H) rfl)
theorem DE.arI0{op:iT}{g:Int->Int->Int}(ho:OpR X (bh op) (rI0 λi j=>.int (g i j)))(ha:DT X ρ a (.int i))(hb:DT X ρ b (.int j)):DE X ρ (.BinOp a op b pos) (.int (g i j)):=λσ H Q R q =>(Vm ho peS peS).to (ha σ H _ R λv H1 g1 e1=>hb σ H1 _ (R.grow g1) λu H2 g2 e2=>⟨i,j,e1,e2,q _ H2 (g1.trans g2) rfl⟩)
theorem DE.arI{op:iT}{C:Int->Int->Prop}{g:Int->Int->Int}(ho:OpR X (bh op) (rI C λi j=>.int (g i j)))(ha:DT X ρ a (.int i))(hb:DT X ρ b (.int j))(hC:C i j):DE X ρ (.BinOp a op b pos) (.int (g i j)):=λσ H Q R q =>(Vm ho peS peS).to (ha σ H _ R λv H1 g1 e1=>hb σ H1 _ (R.grow g1) λu H2 g2 e2=>⟨i,j,e1,e2,hC,q _ H2 (g1.trans g2) rfl⟩)
theorem DE.add(ha:DT X ρ a (.int i))(hb:DT X ρ b (.int j)):DE X ρ (.BinOp a .Add b pos) (.int (i+j)):=DE.arI0 j4k ha hb
theorem DE.sub(ha:DT X ρ a (.int i))(hb:DT X ρ b (.int j)):DE X ρ (.BinOp a .Sub b pos) (.int (i-j)):=DE.arI0 jfr ha hb
theorem DE.mul(ha:DT X ρ a (.int i))(hb:DT X ρ b (.int j))(h:j3j i j):DE X ρ (.BinOp a .Mult b pos) (.int (i*j)):=DE.arI jfw ha hb h
theorem DE.mod(ha:DT X ρ a (.int i))(hb:DT X ρ b (.int j))(h:0<j):DE X ρ (.BinOp a .Mod b pos) (.int (i%j)):=DE.arI jfx ha hb h
theorem DE.pow(ha:DT X ρ a (.int i))(hb:DT X ρ b (.int j))(h:j3i i j):DE X ρ (.BinOp a .Pow b pos) (.int (i^j.toNat)):=DE.arI jfv ha hb h
theorem DE.shl(ha:DT X ρ a (.int i))(hb:DT X ρ b (.int j))(h:j3i i j):DE X ρ (.BinOp a .LShift b pos) (.int (i*2^j.toNat)):=DE.arI (g:=λi j=>i*2^j.toNat) jft ha hb h
theorem DE.cmpI{op:gn}{g:Int->Int->Bool}(ho:OpR X (bj op) (rI0 λi j=>.bl (g i j)))(hm:aO op b=ae)(ha:DT X ρ a (.int i))(hb:DT X ρ b (.int j)):DE X ρ (.Compare a [op] [b] pos) (.bl (g i j)):=λσ H Q R q =>(Jo ho peS peS hm).to (ha σ H _ R λv H1 g1 e1=>hb σ H1 _ (R.grow g1) λu H2 g2 e2=>⟨i,j,e1,e2,q _ H2 (g1.trans g2) rfl⟩)
theorem DB.cmpI{op:gn}{g:Int->Int->Bool}(ho:OpR X (bj op) (rI0 λi j=>.bl (g i j)))(hm:aO op b=ae)(ha:DT X ρ a (.int i))(hb:DT X ρ b (.int j)):DB X ρ (.Compare a [op] [b] pos) (g i j):=λσ H Q R q =>(Jb ho peS peS hm).to (ha σ H _ R λv H1 g1 e1=>hb σ H1 _ (R.grow g1) λu H2 g2 e2=>⟨i,j,e1,e2,_,rfl,q H2 (g1.trans g2)⟩)
theorem DB.lt(ha:DT X ρ a (.int i))(hb:DT X ρ b (.int j)):DB X ρ (.Compare a [.Lt] [b] pos) (decide (i<j)):=DB.cmpI j2h (zb _) ha hb
theorem DB.le(ha:DT X ρ a (.int i))(hb:DT X ρ b (.int j)):DB X ρ (.Compare a [.LtE] [b] pos) (decide (i<=j)):=DB.cmpI ja4 (zb _) ha hb
theorem DB.gt(ha:DT X ρ a (.int i))(hb:DT X ρ b (.int j)):DB X ρ (.Compare a [.Gt] [b] pos) (decide (j<i)):=DB.cmpI ja5 (zb _) ha hb
theorem DB.ge(ha:DT X ρ a (.int i))(hb:DT X ρ b (.int j)):DB X ρ (.Compare a [.GtE] [b] pos) (decide (j<=i)):=DB.cmpI j2i (zb _) ha hb
theorem DE.lt(ha:DT X ρ a (.int i))(hb:DT X ρ b (.int j)):DE X ρ (.Compare a [.Lt] [b] pos) (.bl (decide (i<j))):=DE.cmpI j2h (zb _) ha hb
theorem DE.le(ha:DT X ρ a (.int i))(hb:DT X ρ b (.int j)):DE X ρ (.Compare a [.LtE] [b] pos) (.bl (decide (i<=j))):=DE.cmpI ja4 (zb _) ha hb
theorem DE.gt(ha:DT X ρ a (.int i))(hb:DT X ρ b (.int j)):DE X ρ (.Compare a [.Gt] [b] pos) (.bl (decide (j<i))):=DE.cmpI ja5 (zb _) ha hb
theorem DE.ge(ha:DT X ρ a (.int i))(hb:DT X ρ b (.int j)):DE X ρ (.Compare a [.GtE] [b] pos) (.bl (decide (j<=i))):=DE.cmpI j2i (zb _) ha hb
noncomputable def D.sc:D->Option V
 |.non=>aa .non
 |.bl b=>aa (.bl b)
 |.int i=>aa (.int i)
 |.str x=>aa (.str x)
 |_=>ah
theorem D.sc_enc{K:k7g}{H:Hp}{d:D}{u v:V}(h:d.sc=aa u)(q:Enc K H d v):v=u:=by cases d<;>simp[D.sc]at h<;>subst h<;>exact q
theorem DE.eqS{u v:V}(ha:DT X ρ a da)(hb:DT X ρ b db)(h1:da.sc=aa u:=by rfl)(h2:db.sc=aa v:=by rfl)(h:Nv u v=af:=by rfl):DE X ρ (.Compare a [.Eq] [b] pos) (.bl (decide (u=v))):=λσ H Q R q =>
 (Jo ja6 peS peS (zb _)).to (ha σ H _ R λx H1 g1 e1=>hb σ H1 _ (R.grow g1) λy H2 g2 e2=>by
  cases D.sc_enc h1 e1;cases D.sc_enc h2 e2;exact⟨h,q _ H2 (g1.trans g2) rfl⟩)
theorem DE.neS{u v:V}(ha:DT X ρ a da)(hb:DT X ρ b db)(h1:da.sc=aa u:=by rfl)(h2:db.sc=aa v:=by rfl)(h:Nv u v=af:=by rfl):DE X ρ (.Compare a [.NotEq] [b] pos) (.bl (!decide (u=v))):=λσ H Q R q =>
 (Jo j2f peS peS (zb _)).to (ha σ H _ R λx H1 g1 e1=>hb σ H1 _ (R.grow g1) λy H2 g2 e2=>by
  cases D.sc_enc h1 e1;cases D.sc_enc h2 e2;exact⟨h,q _ H2 (g1.trans g2) rfl⟩)
theorem DB.eqS{u v:V}(ha:DT X ρ a da)(hb:DT X ρ b db)(h1:da.sc=aa u:=by rfl)(h2:db.sc=aa v:=by rfl)(h:Nv u v=af:=by rfl):DB X ρ (.Compare a [.Eq] [b] pos) (decide (u=v)):=λσ H Q R q =>
 (Jb ja6 peS peS (zb _)).to (ha σ H _ R λx H1 g1 e1=>hb σ H1 _ (R.grow g1) λy H2 g2 e2=>by
  cases D.sc_enc h1 e1;cases D.sc_enc h2 e2;exact⟨h,_,rfl,q H2 (g1.trans g2)⟩)
theorem DB.neS{u v:V}(ha:DT X ρ a da)(hb:DT X ρ b db)(h1:da.sc=aa u:=by rfl)(h2:db.sc=aa v:=by rfl)(h:Nv u v=af:=by rfl):DB X ρ (.Compare a [.NotEq] [b] pos) (!decide (u=v)):=λσ H Q R q =>
 (Jb j2f peS peS (zb _)).to (ha σ H _ R λx H1 g1 e1=>hb σ H1 _ (R.grow g1) λy H2 g2 e2=>by
  cases D.sc_enc h1 e1;cases D.sc_enc h2 e2;exact⟨h,_,rfl,q H2 (g1.trans g2)⟩)
theorem Wi(i j:Int):decide (V.int i=V.int j)=decide (i=j):=by
 by_cases h:i=j
 .subst h;simp
 .rw[decide_eq_false h,decide_eq_false (λz=>h (V.int.inj z))]
theorem j1b(i j:Bool):decide (V.bl i=V.bl j)=(i==j):=by cases i<;>cases j<;>rfl
theorem Ei(i j:ao):decide (V.str i=V.str j)=decide (i=j):=by
 by_cases h:i=j
 .subst h;simp
 .rw[decide_eq_false h,decide_eq_false (λz=>h (V.str.inj z))]
theorem DE.eqI(ha:DT X ρ a (.int i))(hb:DT X ρ b (.int j)):DE X ρ (.Compare a [.Eq] [b] pos) (.bl (decide (i=j))):=(DE.eqS ha hb).eq (by rw[Wi])
theorem DE.neI(ha:DT X ρ a (.int i))(hb:DT X ρ b (.int j)):DE X ρ (.Compare a [.NotEq] [b] pos) (.bl (!decide (i=j))):=(DE.neS ha hb).eq (by rw[Wi])
theorem DB.eqI(ha:DT X ρ a (.int i))(hb:DT X ρ b (.int j)):DB X ρ (.Compare a [.Eq] [b] pos) (decide (i=j)):=(DB.eqS ha hb).eq (by rw[Wi])
theorem DB.neI(ha:DT X ρ a (.int i))(hb:DT X ρ b (.int j)):DB X ρ (.Compare a [.NotEq] [b] pos) (!decide (i=j)):=(DB.neS ha hb).eq (by rw[Wi])
theorem DE.neB{x y:Bool}(ha:DT X ρ a (.bl x))(hb:DT X ρ b (.bl y)):DE X ρ (.Compare a [.NotEq] [b] pos) (.bl (x != y)):=(DE.neS ha hb).eq (by rw[j1b];rfl)
theorem DB.neB{x y:Bool}(ha:DT X ρ a (.bl x))(hb:DT X ρ b (.bl y)):DB X ρ (.Compare a [.NotEq] [b] pos) (x != y):=(DB.neS ha hb).eq (by rw[j1b];rfl)
noncomputable def D.isNon:D->Bool
 |.non=>af
 |_=>ae
theorem Ca{K:k7g}{H:Hp}{d:D}{v:V}(q:Enc K H d v):decide (v=V.non)=d.isNon:=by
 cases d with
 |non=>cases(show v=.non from q);rfl
 |bl b=>cases(show v=.bl b from q);rfl
 |int b=>cases(show v=.int b from q);rfl
 |str b=>cases(show v=.str b from q);rfl
 |tup l=>obtain⟨a,xs,e,_⟩:=q;subst e;rfl
 |lst l=>obtain⟨a,xs,e,_⟩:=q;subst e;rfl
 |dct ks l=>obtain⟨a,xs,ep,vs,e,_⟩:=q;subst e;rfl
 |sct k=>obtain⟨a,e,_⟩:=q;subst e;rfl
 |fn x l=>obtain⟨a,c,tx,cl,vs,e,_⟩:=q;subst e;rfl
theorem DE.isN{n:Nat}{p2:aP}(ha:DT X ρ a d):DE X ρ (.Compare a [.Is] [.Constant .none n p2] pos) (.bl d.isNon):=λσ H Q R q =>(jfl (j4g peS)).to (ha σ H _ R λx H1 g1 e1=>q _ H1 g1 (by rw[Ca e1];rfl))
theorem DB.isN{n:Nat}{p2:aP}(ha:DT X ρ a d):DB X ρ (.Compare a [.Is] [.Constant .none n p2] pos) d.isNon:=λσ H Q R q =>(jfd (j4g peS)).to (ha σ H _ R λx H1 g1 e1=>⟨_,rfl,by rw[Ca e1];exact q H1 g1⟩)
theorem DB.val{k:Bool}(ha:DT X ρ a (.bl k))(he:∀whole,eN a X.env whole=(do let v <-whole;fP a.pos;dP [v] (jF v)):=by intro _;rfl):DB X ρ a k:=λσ H Q R q =>(j48 peS he).to (ha σ H _ R λx H1 g1 e1=>⟨_,e1,q H1 g1⟩)
theorem DW.and1{k:Bool}(ha:DB X ρ a k):DW X ρ (.BoolOp .And [a] pos) k:=λσ H Q R q=>(jby ptS).to (ha σ H Q R q)
theorem DW.or1{k:Bool}(ha:DB X ρ a k):DW X ρ (.BoolOp .Or [a] pos) k:=λσ H Q R q=>(jfb ptS).to (ha σ H Q R q)
theorem DW.and{k m:Bool}{rest:List ar}(ha:DB X ρ a k)(hb:k=af->DW X ρ (.BoolOp .And (b::rest) pos) m):DW X ρ (.BoolOp .And (a::b::rest) pos) (k&&m):=λσ H Q R q =>
 (jfc ptS pwS).to (ha σ H _ R λH1 g1=>by
  cases k with
  |false=>exact U3 (q H1 g1)
  |true=>exact U0 (hb rfl σ H1 Q (R.grow g1) λH2 g2=>q H2 (g1.trans g2)))
theorem DW.or{k m:Bool}{rest:List ar}(ha:DB X ρ a k)(hb:k=ae->DW X ρ (.BoolOp .Or (b::rest) pos) m):DW X ρ (.BoolOp .Or (a::b::rest) pos) (k || m):=λσ H Q R q =>
 (jjm ptS pwS).to (ha σ H _ R λH1 g1=>by
  cases k with
  |true=>exact U0 (q H1 g1)
  |false=>exact U3 (hb rfl σ H1 Q (R.grow g1) λH2 g2=>q H2 (g1.trans g2)))
theorem DB.not{k:Bool}(ha:DB X ρ a k):DB X ρ (.UnaryOp .Not a pos) (!k):=λσ H Q R q=>(j49 ptS).to (ha σ H _ R λH1 g1=>q H1 g1)
theorem DE.and{k m:Bool}{rest:List ar}(ha:DT X ρ a (.bl k))(hb:k=af->DE X ρ (.BoolOp .And (b::rest) pos) (.bl m)):DE X ρ (.BoolOp .And (a::b::rest) pos) (.bl (k&&m)):=λσ H Q R q =>
 (jfn peS peS).to (ha σ H _ R λx H1 g1 e1=>⟨k,e1,by
  cases k with
  |false=>exact U3 (q _ H1 g1 rfl)
  |true=>exact U0 (hb rfl σ H1 Q (R.grow g1) λv H2 g2=>q v H2 (g1.trans g2))⟩)
theorem DE.or{k m:Bool}{rest:List ar}(ha:DT X ρ a (.bl k))(hb:k=ae->DE X ρ (.BoolOp .Or (b::rest) pos) (.bl m)):DE X ρ (.BoolOp .Or (a::b::rest) pos) (.bl (k || m)):=λσ H Q R q =>
 (jjn peS peS).to (ha σ H _ R λx H1 g1 e1=>⟨k,e1,by
  cases k with
  |true=>exact U0 (q _ H1 g1 rfl)
  |false=>exact U3 (hb rfl σ H1 Q (R.grow g1) λv H2 g2=>q v H2 (g1.trans g2))⟩)
theorem DE.ite{k:Bool}{d':D}(hc:DB X ρ c k)(ha:k=af->DE X ρ a d)(hb:k=ae->DE X ρ b d'):DE X ρ (.IfExp c a b pos) (if k=af then d else d'):=λσ H Q R q =>
 (Ks ptS peS peS).to (hc σ H _ R λH1 g1=>by
  cases k with
  |true=>exact U0 (ha rfl σ H1 Q (R.grow g1) λv H2 g2 z=>q v H2 (g1.trans g2) (by rw[if_pos rfl];exact z))
  |false=>exact U3 (hb rfl σ H1 Q (R.grow g1) λv H2 g2 z=>q v H2 (g1.trans g2) (by rw[if_neg xj];exact z)))
theorem DA.nil:DA X ρ [] []:=λσ H Q R q=>jx.to (q [] H (j4.refl H) rfl)
theorem DA.cons(ha:DE X ρ a d)(hr:DA X ρ es ds)(hs:ai (a::es) X.env=(ae,aB a X.env)::ai es X.env:=by rfl):DA X ρ (a::es) (d::ds):=λσ H Q R q =>(jc peS paS hs).to (ha σ H _ R λv H1 g1 e1=>hr σ H1 _ (R.grow g1) λvs H2 g2 e2=>q _ H2 (g1.trans g2) ⟨v,vs,rfl,e1.mono (jf g2),e2⟩)
theorem DTA.nil:DTA X ρ [] []:=λσ H Q R q=>jx.to (q [] H (j4.refl H) rfl)
theorem DTA.cons(ha:DT X ρ a d)(hr:DTA X ρ es ds)(hs:ai (a::es) X.env=(ae,aB a X.env)::ai es X.env:=by rfl):DTA X ρ (a::es) (d::ds):=λσ H Q R q =>(jc peS paS hs).to (ha σ H _ R λv H1 g1 e1=>hr σ H1 _ (R.grow g1) λvs H2 g2 e2=>q _ H2 (g1.trans g2) ⟨v,vs,rfl,e1.mono g2,e2⟩)
theorem DE.tup{n:Nat}{x1}(h:DA X ρ es ds)(hl:ds.length<=au:=by simp only[xx,cG];decide):DE X ρ (.Tuple es x1 pos) (.tup ds):=λσ H Q R q =>(j4e paS).to (h σ H _ R λvs H1 g1 e1=>⟨by rw[e1.length];exact hl,λp hp=>q _ _ (g1.trans (j8 hp)) ⟨p,vs,rfl,.inl (.inl (by rw[j5 ((R.grow g1).fresh hp)];exact ju)),e1.mono (jf (j8 hp))⟩⟩)
theorem DO.lst(h:DA X ρ es ds)(hl:ds.length<=au:=by simp only[xx,cG];decide):DO X ρ (.List es pos) ds:=λσ H Q R q =>
 (jfk paS).to (h σ H _ R λvs H1 g1 e1=>⟨by rw[e1.length];exact hl,λp hp=>q p vs _ (g1.trans (j8 hp)) (g1.free hp) ju (e1.mono λb o z=>by
  obtain⟨n,z⟩:=of_del z
  rw[j5];exact j8 hp b o z
  intro y
  rcases xr.mp y with y|y
  .subst y;rw[hp]at z;cases z
  .exact n y)⟩)
theorem j6.atI{K:k7g}{H:Hp}{xs:List V}(h:j6 K H ds xs)(q:atI ds i=aa d):∃x,L2.atI xs i=aa x/\Enc K H d x:=by
 unfold L2.atI at q ⊢;rw[h.length];cases z:ixN ds.length i with
 |none=>rw[z]at q;cases q
 |some k =>rw[z]at q;exact h.get q
noncomputable def cutD(ds:List D)(lo hi:Option Int):List D:=(ds.drop (HT.sIx ds.length 0 lo)).take (HT.sIx ds.length ds.length hi-HT.sIx ds.length 0 lo)
theorem j6.cut{K:k7g}{H:Hp}{xs:List V}(h:j6 K H ds xs)(lo hi:Option Int):j6 K H (cutD ds lo hi) (Rr xs lo hi):=by unfold cutD Rr;rw[h.length];exact(h.drop _).take _
theorem Wg{K:k7g}{H1:Hp}{A:List ak}{ds:List D}{xs:List V}{p:ak}{o:HO}(hp:H1 p=ah)(e1:j6 K (del H1 A) ds xs):j6 K (del (upd H1 p o) (p::A)) ds xs:=e1.mono λb o z=>by
 obtain⟨n,z⟩:=of_del z;rw[j5];exact j8 hp b o z;intro y;rcases xr.mp y with y|y
 .subst y;rw[hp]at z;cases z
 .exact n y
theorem DO.rep(ha:DL X ρ a ds)(hb:DT X ρ b (.int i))(h1:-(2^63)<=i)(h2:i<2^63)(hl:ds.length*i.toNat<=au):DO X ρ (.BinOp a .Mult b pos) (az i.toNat ds).flatten:=λσ H Q R q =>
 (Vm jfu peS peS).to (ha σ H _ R λl xs H1 g1 m1 e1=>hb σ H1 _ (R.grow g1) λu H2 g2 e2 =>
  ⟨l,i,xs,rfl,e2,g2 _ _ m1,h1,h2,by rw[e1.length];exact hl,λp hp=>q p _ _ ((g1.trans g2).trans (j8 hp)) ((g1.trans g2).free hp) ju (Wg hp ((e1.mono (jf g2)).rep _))⟩)
theorem DE.lenT (ha:DT X ρ a (.tup ds)) (hm:X.mg "len" = ah) (hg:Gl X "len":=by rfl) (hs:ai [a] X.env=[(ae,aB a X.env)]:=by rfl) {p2:aP}:DE X ρ (.Call (.Name "len" p2) [a] [] pos) (.int ds.length):=λσ H Q R q =>(v8 Zf hg hm cj (jc peS jx hs) (by decide) (by decide) hs).to (ha σ H _ R λv H1 g1 ⟨l,xs,e,sq,en⟩=>⟨l,xs,by rw[e],.inr sq,q _ H1 g1 (by rw[en.length];rfl)⟩)
theorem DE.lenL (ha:DT X ρ a (.lst ds)) (hm:X.mg "len" = ah) (hg:Gl X "len":=by rfl) (hs:ai [a] X.env=[(ae,aB a X.env)]:=by rfl) {p2:aP}:DE X ρ (.Call (.Name "len" p2) [a] [] pos) (.int ds.length):=λσ H Q R q =>(v8 Zf hg hm cj (jc peS jx hs) (by decide) (by decide) hs).to (ha σ H _ R λv H1 g1 ⟨l,xs,e,sq,en⟩=>⟨l,xs,by rw[e],.inl sq,q _ H1 g1 (by rw[en.length];rfl)⟩)
end
def framed(sp:Sp):Sp:=λvs H Q E=>∃A:List ak,(∀a∈A,∃xs,H a=aa (.lst xs))/\sp vs (del H A) (λv F=>(∀a∈A,F a=ah)->Q v (mrg A H F)) E
theorem FnOk.framed{P:ay}{w:aD}{K:k7g}{mg:k7j}{base:aH}{k:Nat}{f:ak}{fd:aL}{ps:List ao}{sp:Sp}(F:FnOk P w K mg base CX0 k f fd ps sp) :
  FnOk P w K mg base CX0 k f fd ps (framed sp) where
 len:=λvs H Q E ⟨A,_,h⟩=>F.len vs _ _ _ h
 run:=by
  rintro A0 outer s H args us vs Q E hr e0 hb rv ⟨A,hA,h⟩;have nd:∀{b:ak},H b=ah->del H A b=ah:=λ{b} q=>by
   by_cases z:b∈A
   .exact v9 z
   .rw[j5 z];exact q
  have out:∀{b:ak}{o:HO},H b=aa o->(∀ys,o≠.lst ys)->del H A b=aa o:=λ{b o} q z=>by rw[j5];exact q;intro y;obtain⟨ys,e'⟩:=hA b y;rw[q]at e';cases e';exact z ys rfl
  have e1:Env0 P w K mg base A0 outer s (del H A):=⟨e0.frames,e0.mod,λb o q=>⟨(e0.bs b o q).1,nd (e0.bs b o q).2⟩,e0.bsz,e0.funs,λb hb=>nd (e0.frf b hb),
   λa o q=>by
    obtain⟨_,q⟩:=of_del q
    exact jw.stay (e0.hok a o q) (λb u _ z=>z) (λb z=>out z λ_ y=>by cases y) (λb xs z=>out z λ_ y=>by cases y) (λb _ _ z=>out z λ_ y=>by cases y),e0.bare⟩
  refine bO (F.run A0 outer s (del H A) args us vs _ E hr e1 hb rv h) λr s' hq=>?_;cases r with
  |error e=>exact(show False from hq).elim
  |ok fl =>
   cases fl with
   |next=>exact(show False from hq).elim
   |brk=>exact(show False from hq).elim
   |cont=>exact(show False from hq).elim
   |ret u =>
    obtain⟨v,H',os,bare,un,hok',rel,q⟩:=(show CE outer P w (del H A) s _ u s' from hq)
    have kept:∀a∈A,∃o,s.heap.get? a=aa o/\s'.heap.get? a=aa o/\H' a=ah:=λa ha=>by
     obtain⟨xs,e⟩:=hA a ha;obtain⟨_,its,n,_,z⟩:=(show jw P w H s.heap a (.lst xs)from e0.hok _ _ e)
     have nf:a∉frs outer:=λy=>by rw[e0.frf a y]at e;cases e
     exact⟨_,z,un.keep a _ z (v9 ha) nf (by simp),un.free a _ z (v9 ha) (by simp)⟩
    have hF:∀a∈A,H' a=ah:=λa ha=>let ⟨_,_,_,z⟩:=kept a ha;z;have outF:∀{b:ak}{o:HO},H' b=aa o->b∉A:=λ{b o} e z=>by rw[hF b z]at e;cases e
    refine⟨v,mrg A H H',os,bare,?_,λa o e=>?_,rel,q hF⟩
    .exact{
      keep:=λb o e n=>un.keep b o e (nd n)
      slot:=λb o e n=>un.slot b o e (nd n)
      free:=λb o e n hx=>by
       by_cases z:b∈A
       .rw[Jd z];exact n
       .rw[jt z];exact un.free b o e (nd n) hx
      there:=un.there
      tups:=λb xs e=>by
       have z:=un.tups b xs (out e λ_ y=>by cases y)
       rw[jt (outF z)];exact z
      frzs:=λb o u e=>by
       have z:=un.frzs b o u (out e λ_ y=>by cases y)
       rw[jt (outF z)];exact z
      tbls:=λb ps e=>by
       obtain⟨more,z⟩:=un.tbls b ps (out e λ_ y=>by cases y)
       exact⟨more,by rw[jt (outF z)];exact z⟩ }
    .by_cases z:a∈A
     .rw[Jd z]at e;obtain⟨xs,e'⟩:=hA a z;rw[e']at e;cases e;obtain⟨hl,its,n,r,y⟩:=(show jw P w H s.heap a (.lst xs)from e0.hok _ _ e')
      obtain⟨o',q1,q2,_⟩:=kept a z;rw[y]at q1;cases q1;exact⟨hl,its,n,r,q2⟩
     .rw[jt z]at e;refine jw.stay (hok' a o e) (λb u _ q=>q) (λb q=>?_) (λb xs q=>?_) (λb _ _ q=>?_)
      .rw[jt (outF q)];exact q
      .rw[jt (outF q)];exact q
      .rw[jt (outF q)];exact q
def spP(K:k7g)(S:List D->D->Prop):Sp:=λvs H Q _=>∃A ds d,TabOk K H/\(∀a∈A,∃xs,H a=aa (.lst xs))/\j6 K (del H A) ds vs/\S ds d/\∀v H',j4 H H'->Enc K (del H' A) d v->Q v H'
def spF(K:k7g)(S:List D->List D->Prop):Sp:=λvs H Q _=>∃A ds l,TabOk K H/\(∀a∈A,∃xs,H a=aa (.lst xs))/\j6 K (del H A) ds vs/\S ds l /\
 ∀a xs H',j4 H H'->H a=ah->H' a=aa (.lst xs)->j6 K (del H' (a::A)) l xs->Q (.ref a) H'
def jm5(K:k7g)(S:List D->D->Prop):Sp:=λvs H Q _=>∃ds d,TabOk K H/\j6 K H ds vs/\S ds d/\∀v H',j4 H H'->Enc K H' d v->Q v H'
def jm7(K:k7g)(S:List D->List D->Prop):Sp:=λvs H Q _=>∃ds l,TabOk K H/\j6 K H ds vs/\S ds l/\∀a xs H',j4 H H'->H a=ah->H' a=aa (.lst xs)->j6 K (del H' [a]) l xs->Q (.ref a) H'
section
variable{P:ay}{w:aD}{K:k7g}{mg:k7j}{base:aH}{k:Nat}{f:ak}{fd:aL}{ps:List ao}
theorem FnOk.toP{S:List D->D->Prop}(F:FnOk P w K mg base CX0 k f fd ps (jm5 K S)):FnOk P w K mg base CX0 k f fd ps (spP K S) :=
 F.framed.imp λvs H Q E ⟨A,ds,d,tb,hA,en,hS,q⟩=>⟨A,hA,ds,d,tb.del hA,en,hS,λv F g e hF=>q v _ (Od g) (by rw[Z7 hF];exact e)⟩
theorem FnOk.toF{S:List D->List D->Prop}(F:FnOk P w K mg base CX0 k f fd ps (jm7 K S)):FnOk P w K mg base CX0 k f fd ps (spF K S) :=
 F.framed.imp λvs H Q E ⟨A,ds,l,tb,hA,en,hS,q⟩=>⟨A,hA,ds,l,tb.del hA,en,hS,λa xs F g n e l' hF=>by
  have na:a∉A:=λz=>by rw[hF a z]at e;cases e
  refine q a xs _ (Od g) (by rw[j5 na]at n;exact n) (by rw[jt na];exact e) (l'.mono λb o z=>?_)
  obtain⟨n1,z⟩:=of_del z
  have nb:b∉A:=λy=>by rw[hF b y]at z;cases z
  rw[j5,jt nb];exact z
  intro y
  rcases xr.mp y with y|y
  .exact n1 (by rw[y];exact X3.mpr rfl)
  .exact nb y⟩
end
noncomputable def jhp:List ao:=["dearest_way","cost_on_whole","worst_table","worst_plan","foe_answer","whole_table","whole_plan","mean_price"]
noncomputable def kG(us ws:List aj):List aj:=match ws with
 |[w]=>us++[w]
 |_=>[]
noncomputable def kGV(vs zs:List V):List V:=match zs with
 |[z]=>vs++[z]
 |_=>[]
def Dfl(K:k7g)(x:ao)(fd:aL)(ps:List ao):Prop:=x∈jhp->Binds K fd ps [.none]/\KBinds K fd ps ["prices"] kG kGV
structure Cal(X:Cx)(x:ao)(sp:Sp):Prop where
 ex:∃(k:Nat)(f:ak)(fd:aL)(ps:List ao),FnOk X.prog X.w X.K X.mg X.base CX0 k f fd ps sp/\Room (k+1) X.A/\X.mg x=aa (.ref f)/\W.keepIn X.K (.ref f)=af/\Binds X.K fd ps []/\Dfl X.K x fd ps
section
variable{X:Cx}{ρ:Rho}{e a:ar}{es:List ar}{d:D}{ds l:List D}{pos p:aP}{x:ao}
theorem DE.call{S:List D->D->Prop}(c:Cal X x (spP X.K S))(ha:DA X ρ (e::es) ds)(hS:S ds d)(hg:Gl X x:=by rfl)(hdb:(x==k7k)=ae:=by decide)
  (he:ai (e::es) X.env=(ae,aB e X.env)::ai es X.env:=by rfl) (hpl:(aT pos (ai es X.env)).any (·.1)=ae:=by rfl):DE X ρ (.Call (.Name x p) (e::es) [] pos) d:=λσ H Q R q=>by
 obtain⟨k,f,fd,ps,F,hr,hm,hk,hb,_⟩:=c.ex;refine(Ui F (hr.mono (pq _)) hg hm hk hb .nil V0 paS hdb he hpl).to (ha σ H _ R λvs H1 g1 e1=>?_);show spP X.K S (vs++[]) H1 Q E0;rw[Xo];exact⟨owns ρ,ds,d,R.tb.mono g1,(R.grow g1).owned,e1,hS,λv H2 g2 z=>q v H2 (g1.trans g2) z⟩
theorem DT.call{S:List D->D->Prop}(c:Cal X x (spP X.K S))(ha:DTA X ρ (e::es) ds)(hS:S ds d)(hg:Gl X x:=by rfl)(hdb:(x==k7k)=ae:=by decide)
  (he:ai (e::es) X.env=(ae,aB e X.env)::ai es X.env:=by rfl) (hpl:(aT pos (ai es X.env)).any (·.1)=ae:=by rfl):DT X ρ (.Call (.Name x p) (e::es) [] pos) d:=λσ H Q R q=>by
 obtain⟨k,f,fd,ps,F,hr,hm,hk,hb,_⟩:=c.ex;refine(Ui F (hr.mono (pq _)) hg hm hk hb .nil V0 paS hdb he hpl).to (ha σ H _ R λvs H1 g1 e1=>?_);show spP X.K S (vs++[]) H1 Q E0;rw[Xo];exact⟨[],ds,d,R.tb.mono g1,(λa h=>nomatch h),by rw[Jc];exact e1,hS,λv H2 g2 z=>q v H2 (g1.trans g2) (by rw[Jc]at z;exact z)⟩
theorem DO.call{S:List D->List D->Prop}(c:Cal X x (spF X.K S))(ha:DA X ρ (e::es) ds)(hS:S ds l)(hg:Gl X x:=by rfl)(hdb:(x==k7k)=ae:=by decide)
  (he:ai (e::es) X.env=(ae,aB e X.env)::ai es X.env:=by rfl) (hpl:(aT pos (ai es X.env)).any (·.1)=ae:=by rfl):DO X ρ (.Call (.Name x p) (e::es) [] pos) l:=λσ H Q R q=>by
 obtain⟨k,f,fd,ps,F,hr,hm,hk,hb,_⟩:=c.ex;refine(Ui F (hr.mono (pq _)) hg hm hk hb .nil V0 paS hdb he hpl).to (ha σ H _ R λvs H1 g1 e1=>?_);show spF X.K S (vs++[]) H1 Q E0;rw[Xo];exact⟨owns ρ,ds,l,R.tb.mono g1,(R.grow g1).owned,e1,hS,λa xs H2 g2 n m z=>q a xs H2 (g1.trans g2) (g1.free n) m z⟩
end
inductive Rt where
 |val (d:D)
 |fresh (ds:List D)
noncomputable def Rt.d:Rt->D
 |.val d=>d
 |.fresh l=>.lst l
structure Po where
 nx:Rho->Prop
 rt:Rt->Prop
 bk:Rho->Prop:=λ_=>False
 ct:Rho->Prop:=λ_=>False
 ex:ao->Rho->Prop:=λ_ _=>False
structure Fl(N:ak->Prop)(H:Hp)(h:aH)(e:ak)(C:aj):Prop where
 new:∀b,N b->b≠e
 free:H e=ah
 obj:∃(oe:dm)(vs:Array aj)(a0:aj),h.get? e=aa oe/\oe.cls=C/\oe.data=.fields vs/\vs[0]?=aa a0 /\
  (vs[1]?=aa .none\/∃(T:ak)(oT:dm)(ts:Array aj),vs[1]?=aa (.ref T)/\T≠e/\h.get? T=aa oT/\oT.data=.fields ts/\ts[3]?=aa .none/\H T=ah/\∀b,N b->b≠T)
def Old(X:Cx)(pins:k7i)(b:ak):Prop:=(∃o,X.s₀.heap.get? b=aa o/\b∉X.ex)\/(∃p∈X.pn++pins,p.1=b)\/b=X.env.locals\/∃x,X.env.cells.lookup x=aa b
def Rz(X:Cx)(σ:St)(H:Hp)(x:ao):Prop:=∀(pins:k7i) (H':Hp) (s':aq) (e:ak) (C:aj),Inv X pins σ H' s'->j4 H H'->X.mg x=aa C->Fl (Old X pins) H' s'.heap e C->X.xe (.ref e) s'
def Fr0(ρ ρ':Rho)(H H':Hp):Prop:=j4 (del H (owns ρ)) (del H' (owns ρ'))
def Ow(K:k7g)(ρ:Rho)(H H':Hp)(v:V):Rt->Prop
 |.val d=>j4 (del H (owns ρ)) H'/\Enc K H' d v
 |.fresh ds=>∃a xs,v=.ref a/\j4 (del H (owns ρ)) (del H' [a])/\H' a=aa (.lst xs)/\j6 K (del H' [a]) ds xs
structure EndsOk(X:Cx)(ρ:Rho)(H:Hp)(P:Po)(E:Ends):Prop where
 nx:∀ρ' σ' H',P.nx ρ'->Rep X.K ρ' σ' H'->Fr0 ρ ρ' H H'->E.nx σ' H'
 bk:∀ρ' σ' H',P.bk ρ'->Rep X.K ρ' σ' H'->Fr0 ρ ρ' H H'->E.bk σ' H'
 ct:∀ρ' σ' H',P.ct ρ'->Rep X.K ρ' σ' H'->Fr0 ρ ρ' H H'->E.ct σ' H'
 rt:∀r v H',P.rt r->Ow X.K ρ H H' v r->E.rt v H'
 ex:∀x ρ' σ' H',P.ex x ρ'->Rep X.K ρ' σ' H'->Fr0 ρ ρ' H H'->Rz X σ' H' x
theorem Ow.step{K:k7g}{ρ ρ1:Rho}{H H1 H':Hp}{v:V}{r:Rt}(f:Fr0 ρ ρ1 H H1)(h:Ow K ρ1 H1 H' v r):Ow K ρ H H' v r:=by
 cases r with
 |val d=>exact⟨f.trans h.1,h.2⟩
 |fresh ds=>obtain⟨a,xs,e,g,m,l⟩:=h;exact⟨a,xs,e,f.trans g,m,l⟩
theorem EndsOk.step{X:Cx}{ρ ρ1:Rho}{H H1:Hp}{P:Po}{E:Ends}(h:EndsOk X ρ H P E)(f:Fr0 ρ ρ1 H H1):EndsOk X ρ1 H1 P E :=
 ⟨λρ' σ' H' n R g=>h.nx ρ' σ' H' n R (f.trans g),λρ' σ' H' n R g=>h.bk ρ' σ' H' n R (f.trans g),λρ' σ' H' n R g=>h.ct ρ' σ' H' n R (f.trans g),λr v H' n g=>h.rt r v H' n (Ow.step f g),λx ρ' σ' H' n R g=>h.ex x ρ' σ' H' n R (f.trans g)⟩
theorem Fr0.grow{ρ:Rho}{H H':Hp}(g:j4 H H'):Fr0 ρ ρ H H':=jf g
theorem Fr0.refl(ρ:Rho)(H:Hp):Fr0 ρ ρ H H:=j4.refl _
theorem Fr0.drop{ρ ρ':Rho}{H:Hp}(h:∀b∈owns ρ',b∈owns ρ):Fr0 ρ ρ' H H:=z9 h
theorem Fr0.new{ρ:Rho}{H H':Hp}{i:Nat}{a:ak}{ds:List D}{K:k7g}{σ:St}(R:Rep K ρ σ H)(g:j4 H H')(n:H a=ah):Fr0 ρ (ρ.set i (.own a ds)) H H':=λb o q=>by
 obtain⟨nb,q⟩:=of_del q;rw[j5];exact g b o q;intro z;rcases(Jp (ds:=ds) (i:=i) R.nd (R.fresh n)).2 b z with e|z
 .subst e;rw[n]at q;cases q
 .exact nb z
def DS(X:Cx)(ρ:Rho)(st:aQ)(P:Po):Prop:=∀σ H E,Rep X.K ρ σ H->EndsOk X ρ H P E->j78 X st E σ H
def DSs(X:Cx)(ρ:Rho)(sts:List aQ)(P:Po):Prop:=∀σ H E,Rep X.K ρ σ H->EndsOk X ρ H P E->Zz X sts E σ H
section
variable{X:Cx}{ρ:Rho}{e a b c:ar}{es:List ar}{st:aQ}{rest sa sb body:List aQ}{P:Po}{d:D}{ds ds':List D}{pos p p1 p2 p3:aP}{x:ao}{i:Nat}
theorem DSs.nil(h:P.nx ρ):DSs X ρ [] P:=λσ H E R q=>Uh.to (q.nx ρ σ H h R (Fr0.refl ρ H))
theorem DSs.cons{N:Rho->Prop}(h1:DS X ρ st { P with nx:=N })(h2:∀ρ1,N ρ1->DSs X ρ1 rest P):DSs X ρ (st::rest) P:=λσ H E R q =>(qp psS v7).to (h1 σ H { E with nx:=Zz X rest E } R ⟨λρ' σ' H' n R' f=>h2 ρ' n σ' H' E R' (q.step f),q.bk,q.ct,q.rt,q.ex⟩)
theorem DSs.freeze(i:Nat){l:ak}(h:ρ[i]?=aa (.own l ds))(h2:DSs X (ρ.set i (.val (.lst ds))) body P):DSs X ρ body P:=λσ H E R q =>h2 σ H E (R.freeze h) (q.step (.drop λb hb=>(j9 rfl).subset hb))
theorem DSs.forget(i:Nat)(h2:DSs X (ρ.set i .un) body P):DSs X ρ body P:=λσ H E R q=>by
 have z:=R.set_un (i:=i) (v:=ah);have R':Rep X.K (ρ.set i .un) σ H:=by
  have q:=R.set_un (i:=i) (v:=(σ[i]?).join);have e:σ.set i ((σ[i]?).join)=σ:=by
   apply fc;intro j;rw[dB];split
   .rename_i h;subst h;split
    .rename_i h;rw[kh h];rfl
    .rename_i h;rw[Tn nofun]
   .rfl
  rw[e]at q;exact q
 exact h2 σ H E R' (q.step (.drop λb hb=>(j9 rfl).subset hb))
theorem DS.set(i:Nat)(he:DE X ρ e d)(h:P.nx (ρ.set i (.val d)))(hN:X.N.Nodup)(hi:X.N[i]?=aa x:=by rfl)(hx:Loc X.env.scope x:=by first|exact aV rfl|exact bJ rfl)
  (hs:aN e (aa (.Name x p)) pos.line X.env=pure ae:=by rfl) (hf:X.fn x=af\/X.env.scope.names.lookup x=aa .local:=by first|exact .inl rfl|exact .inr rfl):DS X ρ (.Assign [.Name x p] e pos) P:=λσ H E R q =>
 (Qq hN hi hx peS hs hf).to (he σ H _ R λv H1 g1 e1=>q.nx _ _ H1 h ((R.grow g1).set_val e1) (j4.trans (Fr0.grow g1) (Fr0.drop λb hb=>(j9 rfl).subset hb)))
theorem DS.setO(i:Nat)(he:DO X ρ e ds)(h:∀l,P.nx (ρ.set i (.own l ds)))(hN:X.N.Nodup)(hi:X.N[i]?=aa x:=by rfl)(hx:Loc X.env.scope x:=by first|exact aV rfl|exact bJ rfl)
  (hs:aN e (aa (.Name x p)) pos.line X.env=pure ae:=by rfl) (hf:X.fn x=af\/X.env.scope.names.lookup x=aa .local:=by first|exact .inl rfl|exact .inr rfl):DS X ρ (.Assign [.Name x p] e pos) P:=λσ H E R q =>
 (Qq hN hi hx peS hs hf).to (he σ H _ R λl xs H1 g1 n m e1=>q.nx _ _ H1 (h l) (R.set_own g1 n m e1) (.new R g1 n))
theorem DS.if{k:Bool}(hc:DB X ρ c k)(ha:k=af->DSs X ρ sa P)(hb:k=ae->DSs X ρ sb P):DS X ρ (.If c sa sb pos) P:=λσ H E R q =>
 (Lp ptS v7 v7).to (hc σ H _ R λH1 g1=>by
  cases k with
  |true=>exact U0 (ha rfl σ H1 E (R.grow g1) (q.step (.grow g1)))
  |false=>exact U3 (hb rfl σ H1 E (R.grow g1) (q.step (.grow g1))))
theorem DS.ret(he:DT X ρ e d)(h:P.rt (.val d)):DS X ρ (.Return (aa e) pos) P:=λσ H E R q =>(Qs peS).to (he σ H _ R λv H1 g1 e1=>q.rt _ v H1 h ⟨jj.trans g1,e1⟩)
theorem DS.retO(he:DO X ρ e ds)(h:P.rt (.fresh ds)):DS X ρ (.Return (aa e) pos) P:=λσ H E R q =>
 (Qs peS).to (he σ H _ R λl xs H1 g1 n m e1=>q.rt _ _ H1 h ⟨l,xs,rfl,(λb o z=>by
  obtain⟨nb,z⟩:=of_del z
  rw[j5];exact g1 b o z
  intro y;rw[X3.mp y,n]at z;cases z),m,e1.mono (z9 λb hb=>by rw[X3.mp hb];exact xm ..)⟩)
theorem DS.retV(k:Nat){l:ak}(hk:ρ[k]?=aa (.own l ds))(h:P.rt (.fresh ds))(hN:X.N[k]?=aa x:=by rfl)(hv:Vis X.env.scope x:=by first|exact aV rfl|exact bJ (aV rfl)|exact bJ (bJ rfl))
  (hd:(x==k7k)=ae:=by decide) (hcd:(x==k7l)=ae:=by decide):DS X ρ (.Return (aa (.Name x p)) pos) P:=λσ H E R q=>by
 obtain⟨hs,xs,m,en⟩:=R.own k l ds hk;have g:j4 (del H (owns ρ)) (del H [l]):=z9 λb hb=>by rw[X3.mp hb];exact Jt hk
 exact(Qs (qi hN hv hd hcd)).to ⟨_,hs,q.rt _ _ H h ⟨l,xs,rfl,g,m,en.mono g⟩⟩
theorem DS.expr(he:DT X ρ e d)(h:P.nx ρ)(hs:aN e ah pos.line X.env=pure ae:=by rfl):DS X ρ (.Expr e pos) P:=λσ H E R q =>(Z5 peS hs).to (he σ H _ R λv H1 g1 e1=>q.nx ρ σ H1 h (R.grow g1) (.grow g1))
theorem Bx{σ:St}{H H':Hp}{l:ak}{o:HO}(hk:ρ[i]?=aa (.own l ds))(g:j4 H H'):Fr0 ρ (ρ.set i (.own l ds')) H (upd H' l o):=by unfold Fr0;rw[Qx hk,Vy (Jt hk)];exact jf g
theorem DS.append(i:Nat){l:ak}(hk:ρ[i]?=aa (.own l ds))(he:DE X ρ e d)(hl:ds.length<au)(h:P.nx (ρ.set i (.own l (ds++[d]))))
  (hN:X.N[i]?=aa x:=by rfl) (hv:Vis X.env.scope x:=by first|exact aV rfl|exact bJ (aV rfl)|exact bJ (bJ rfl)) (hd:(x==k7k)=ae:=by decide) (hcd:(x==k7l)=ae:=by decide)
  (hst:ai [e] X.env=[(ae,aB e X.env)]:=by rfl) (hline:(p1.endLine==p2.line)=af:=by rfl)
  (hbase:aY (.Name x p) "append" X.env (aB (.Name x p) X.env)=aB (.Name x p) X.env:=by rfl) (hfew:((aT p2 (ai [e] X.env)).all (λx=>!x.1)&&(cK p2 (bB [] X.env)).all (λx=>x.1.isSome)
   && decide (([e]:List ar).length+([]:List bu).length+(if ([]:List bu).isEmpty then 0 else 1)<30))=af:=by rfl)
  (hs:aN (.Call (.Attribute (.Name x p) "append" p1) [e] [] p2) ah pos.line X.env=pure ae:=by rfl) :
  DS X ρ (.Expr (.Call (.Attribute (.Name x p) "append" p1) [e] [] p2) pos) P:=λσ H E R q=>by
 obtain⟨hσ,xs,m,en⟩:=R.own i l ds hk;refine(Z5 (M8 T8 cI dh Yv (qi hN hv hd hcd) (jc peS jx hst) hbase hfew hline hst rfl) hs).to ?_;refine⟨_,hσ,.inl ⟨rfl,xs,.inl (.inl m)⟩,he σ H _ R λv H1 g1 e1=>⟨l,xs,v,rfl,rfl,g1 _ _ m,by rw[en.length];exact hl,?_⟩⟩;exact q.nx _ σ _ h ((R.grow g1).upd_own hk ((en.mono (jf g1)).append (.one e1))) (Bx (σ:=σ) hk g1)
theorem DS.extend(i:Nat){l:ak}(hk:ρ[i]?=aa (.own l ds))(he:DO X ρ e ds')(hl:ds.length+ds'.length<=au)(h:P.nx (ρ.set i (.own l (ds++ds'))))
  (hN:X.N[i]?=aa x:=by rfl) (hv:Vis X.env.scope x:=by first|exact aV rfl|exact bJ (aV rfl)|exact bJ (bJ rfl)) (hd:(x==k7k)=ae:=by decide) (hcd:(x==k7l)=ae:=by decide)
  (hst:ai [e] X.env=[(ae,aB e X.env)]:=by rfl) (hline:(p1.endLine==p2.line)=af:=by rfl)
  (hbase:aY (.Name x p) "extend" X.env (aB (.Name x p) X.env)=aB (.Name x p) X.env:=by rfl) (hfew:((aT p2 (ai [e] X.env)).all (λx=>!x.1)&&(cK p2 (bB [] X.env)).all (λx=>x.1.isSome)
   && decide (([e]:List ar).length+([]:List bu).length+(if ([]:List bu).isEmpty then 0 else 1)<30))=af:=by rfl)
  (hs:aN (.Call (.Attribute (.Name x p) "extend" p1) [e] [] p2) ah pos.line X.env=pure ae:=by rfl) :
  DS X ρ (.Expr (.Call (.Attribute (.Name x p) "extend" p1) [e] [] p2) pos) P:=λσ H E R q=>by
 obtain⟨hσ,xs,m,en⟩:=R.own i l ds hk;refine(Z5 (M8 T8 gC PySem.F.type_list_extend j4m (qi hN hv hd hcd) (jc peS jx hst) hbase hfew hline hst rfl) hs).to ?_;refine⟨_,hσ,.inl ⟨rfl,xs,.inl (.inl m)⟩,he σ H _ R λb ys H1 g1 n1 m1 e1=>⟨l,b,xs,ys,rfl,rfl,g1 _ _ m,m1,by rw[en.length,e1.length];exact hl,?_⟩⟩;exact q.nx _ σ _ h ((R.grow g1).upd_own hk ((en.mono (jf g1)).append (e1.mono (z9 λc hc=>xf _ hc)))) (Bx (σ:=σ) hk g1)
theorem DS.clear(i:Nat){l:ak}(hk:ρ[i]?=aa (.own l ds))(h:P.nx (ρ.set i (.own l [])))
  (hN:X.N[i]?=aa x:=by rfl) (hv:Vis X.env.scope x:=by first|exact aV rfl|exact bJ (aV rfl)|exact bJ (bJ rfl)) (hd:(x==k7k)=ae:=by decide) (hcd:(x==k7l)=ae:=by decide)
  (hline:(p1.endLine==p2.line)=af:=by rfl) (hbase:aY (.Name x p) "clear" X.env (aB (.Name x p) X.env)=aB (.Name x p) X.env:=by rfl)
  (hs:aN (.Call (.Attribute (.Name x p) "clear" p1) [] [] p2) ah pos.line X.env=pure ae:=by rfl) :
  DS X ρ (.Expr (.Call (.Attribute (.Name x p) "clear" p1) [] [] p2) pos) P:=λσ H E R q=>by
 obtain⟨hσ,xs,m,en⟩:=R.own i l ds hk;refine(Z5 (jfm T8 gS PySem.F.type_list_clear j83 (qi hN hv hd hcd) hbase hline) hs).to ?_;exact⟨_,hσ,.inl ⟨rfl,xs,.inl (.inl m)⟩,l,xs,rfl,rfl,m,q.nx _ σ _ h (R.upd_own hk rfl) (Bx (σ:=σ) hk (j4.refl H))⟩
def U8(K:k7g)(F:Hp)(J:It)(ds:List D):Prop:=∀(i:Nat)(H:Hp)(A:List ak),j4 F (del H A)->(∀a∈A,H a≠ah) ->
 (i<ds.length->J.go i H)/\(ds.length<=i->J.stop i H)/\∀x H',J.yld i H x H'->j4 H H'/\∀d,ds[i]?=aa d->Enc K (del H' A) d x
def DI(X:Cx)(ρ:Rho)(tg it:ar)(ds:List D):Prop:=∀σ H R,Rep X.K ρ σ H->(∀J H',j4 H H'->U8 X.K (del H' (owns ρ)) J ds->R J H')->j79 X tg it σ H R
variable{tg it:ar}
theorem j53{K:k7g}{F:Hp}{l:ak}{xs:List V}(sq:SqL K F l xs)(en:j6 K F ds xs):U8 K F (Itl K l) ds:=λi H A g hA=>by
 have sq':SqL K H l xs:=jj.seq (g.seq sq);refine⟨λh=>?_,λh=>⟨xs,sq',by rw[en.length];exact h⟩,λx H' ⟨e,y⟩=>?_⟩
 .obtain⟨v,hv,_⟩:=en.get (kh h);exact⟨xs,v,sq',hv⟩
 .subst e;refine⟨j4.refl _,λd hd=>?_⟩;obtain⟨v,hv,ev⟩:=en.get hd;have e:=y xs sq';rw[hv]at e;cases e;exact ev.mono g
theorem j8h{K:k7g}{F:Hp}{l:ak}{xs:List V}(sq:SqT K F l xs)(en:j6 K F ds xs):U8 K F (Itt K l) ds:=λi H A g hA=>by
 have sq':SqT K H l xs:=jj.seqT (g.seqT sq);refine⟨λh=>?_,λh=>⟨xs,sq',by rw[en.length];exact h⟩,λx H' ⟨e,y⟩=>?_⟩
 .obtain⟨v,hv,_⟩:=en.get (kh h);exact⟨xs,v,sq',hv⟩
 .subst e;refine⟨j4.refl _,λd hd=>?_⟩;obtain⟨v,hv,ev⟩:=en.get hd;have e:=y xs sq';rw[hv]at e;cases e;exact ev.mono g
theorem DI.lst(h:DE X ρ it (.lst ds)):DI X ρ tg it ds:=λσ H R r q=>(jc1 peS).to (h σ H _ r λv H1 g1 ⟨l,xs,e,sq,en⟩=>⟨l,e,⟨xs,jj.seq sq⟩,q _ H1 g1 (j53 sq en)⟩)
theorem DI.tup(h:DE X ρ it (.tup ds)):DI X ρ tg it ds:=λσ H R r q=>(jfh peS).to (h σ H _ r λv H1 g1 ⟨l,xs,e,sq,en⟩=>⟨l,e,⟨xs,jj.seqT sq⟩,q _ H1 g1 (j8h sq en)⟩)
noncomputable def upto(lo:Int)(n:Nat):List D:=(aK n).map λk=>D.int (lo+(k:Nat))
theorem Bs{K:k7g}{F:Hp}(lo:Int)(n:Nat):U8 K F (Itr lo n) (upto lo n):=λi H A g hA=>by
 have hl:(upto lo n).length=n:=by unfold upto;rw[km,Pr]
 rw[hl];refine⟨λh=>h,λh=>h,λx H' ⟨e,y⟩=>?_⟩;subst e;refine⟨j4.refl _,λd hd=>?_⟩;unfold upto at hd;rw[Xa]at hd;cases z:(aK n)[i]? with
 |none=>rw[z]at hd;cases hd
 |some k =>
  rw[z]at hd;have ek:k=i:=by have:=i7 (n:=n) (i:=i) (by have:=(Xe.mp z).1;rwa [Pr]at this);rw[this]at z;exact(aC z).symm
  subst ek;cases hd;exact y
theorem DI.range1 {n:Int} (h:DT X ρ a (.int n)) (hm:X.mg "range" = ah) (h1:-(2^62)<=n) (h2:n<2^62) (hg:Gl X "range":=by rfl) (hs:ai [a] X.env=[(ae,aB a X.env)]:=by rfl):DI X ρ tg (.Call (.Name "range" p) [a] [] pos) (upto 0 n.toNat):=λσ H R r q =>(j4d hg hm (jc peS jx hs) hs).to (h σ H _ r λv H1 g1 e=>⟨n,by rw[show v=.int n from e],h1,h2,q _ H1 g1 (Bs 0 _)⟩)
theorem DI.range2 {m n:Int} (h:DT X ρ a (.int m)) (h':DT X ρ b (.int n)) (hm:X.mg "range" = ah) (h1:-(2^62)<=m) (h2:m<2^62) (h3:-(2^62)<=n) (h4:n<2^62) (hg:Gl X "range":=by rfl) (hs:ai [a,b] X.env=[(ae,aB a X.env),(ae,aB b X.env)]:=by rfl)
  (hs2:ai [b] X.env=[(ae,aB b X.env)]:=by rfl) (hs3:ai [a,b] X.env=(ae,aB a X.env)::ai [b] X.env:=by rfl):DI X ρ tg (.Call (.Name "range" p) [a,b] [] pos) (upto m (n-m).toNat):=λσ H R r q =>
 (j4c hg hm (jc peS (jc peS jx hs2) hs3) hs hs2).to (h σ H _ r λv H1 g1 e=>h' σ H1 _ (r.grow g1) λu H2 g2 e2=>⟨m,n,by rw[show v=.int m from e,show u=.int n from e2],⟨h1,h2,h3,h4⟩,q _ H2 (g1.trans g2) (Bs m _)⟩)
def j7a(X:Cx)(tg:ar):TG:=λv σ H Q=>∀pins s u,Inv X pins σ H s->RelV v u->ax (aA X.prog X.w) X.A (dX tg X.env u) (λ_ s'=>∃σ' H',Inv X pins σ' H' s'/\Q σ' H') X.xe s
theorem pgS:PG X tg (j7a X tg):=λpins s σ H v u Q I r h=>h pins s u I r
theorem PG.to{t:TG}{σ:St}{H:Hp}{v:V}{Q:St->Hp->Prop}(h:PG X tg t)(q:t v σ H Q):j7a X tg v σ H Q:=λpins s u I r=>h pins s σ H v u Q I r q
def DG(X:Cx)(ρ:Rho)(tg:ar)(d:D)(ρ':Rho):Prop:=(∀b∈owns ρ',b∈owns ρ)/\∀σ H v Q,Rep X.K ρ σ H->Enc X.K (del H (owns ρ)) d v->(∀σ',Rep X.K ρ' σ' H->Q σ' H)->j7a X tg v σ H Q
theorem DG.name(i:Nat)(hN:X.N.Nodup)(hi:X.N[i]?=aa x:=by rfl)(hx:Loc X.env.scope x:=by first|exact aV rfl|exact bJ rfl)(hf:X.fn x=af\/X.env.scope.names.lookup x=aa .local:=by first|exact .inl rfl|exact .inr rfl):DG X ρ (.Name x p) d (ρ.set i (.val d)) :=
 ⟨λb hb=>(j9 rfl).subset hb,λσ H v Q R en q=>(Vx hN hi hx hf).to (q _ (R.set_val en))⟩
theorem DS.for(W:Nat->Rho->Prop)(hi:DI X ρ tg it ds)(h0:W 0 ρ)(hs:∀i d ρ',ds[i]?=aa d->W i ρ'->∃ρ2,DG X ρ' tg d ρ2/\DSs X ρ2 body { nx:=W (i+1),rt:=P.rt,bk:=P.nx,ct:=W (i+1),ex:=P.ex })
  (hd:∀ρ',W ds.length ρ'->P.nx ρ') (hc:X.calm=af) (hp:eF (aA X.prog X.w) X.A X.env X.xe) (hf:∀x,aZ it X.env x=pure x:=by intro _;rfl):DS X ρ (.For tg it body [] pos) P:=λσ H E R q=>by
 refine(jfe hp hc piS pgS v7 hf).to (hi σ H _ R λJ H1 g1 ok=>?_);refine⟨λi m σ' H'=>∃ρ',W i ρ'/\Rep X.K ρ' σ' H'/\Fr0 ρ ρ' H1 H'/\m=ds.length-i/\i<=ds.length,⟨ds.length,ρ,h0,R.grow g1,Fr0.refl _ _,rfl,Te _⟩,?_⟩;rintro i m σ' H' ⟨ρ',w,R',f,rfl,hle⟩;obtain⟨go,stop,yld⟩:=ok i H' (owns ρ') f λa ha=>by obtain⟨xs,e⟩:=R'.owned a ha;rw[e];simp
 by_cases hlt:i<ds.length
 .refine .inr ⟨go hlt,λσ2 H2=>∃ρ2,W (i+1) ρ2/\Rep X.K ρ2 σ2 H2/\Fr0 ρ ρ2 H1 H2,λσ2 H2 ⟨ρ2,w2,R2,f2⟩=>⟨ds.length-(i+1),by omega,ρ2,w2,R2,f2,rfl,hlt⟩,λx H2 y=>?_⟩;obtain⟨g2,en⟩:=yld x H2 y;obtain⟨ρ2,⟨sub,hG⟩,hB⟩:=hs i ds[i] ρ' (kh hlt) w;refine hG σ' H2 x _ (R'.grow g2) (en _ (kh hlt)) λσ3 R3=>?_;have f2:Fr0 ρ ρ2 H1 H2:=j4.trans f (j4.trans (Fr0.grow g2) (Fr0.drop sub));refine hB σ3 H2 _ R3 ⟨λρ3 σ4 H4 n R4 f4=>⟨ρ3,n,R4,f2.trans f4⟩,λρ3 σ4 H4 n R4 f4=>q.nx ρ3 σ4 H4 n R4 ((Fr0.grow g1).trans (f2.trans f4)),λρ3 σ4 H4 n R4 f4=>⟨ρ3,n,R4,f2.trans f4⟩,λr v H4 n z=>q.rt r v H4 n (Ow.step ((Fr0.grow g1).trans f2) z),λx ρ3 σ4 H4 n R4 f4=>q.ex x ρ3 σ4 H4 n R4 ((Fr0.grow g1).trans (f2.trans f4))⟩
 .have e:i=ds.length:=by omega
  subst e;exact .inl ⟨stop (X6 _),q.nx ρ' σ' H' (hd ρ' w) R' ((Fr0.grow g1).trans f)⟩
end
noncomputable def qg(N:List ao)(ds:List D):Rho:=ds.map Sl.val++az (N.length-ds.length) Sl.un
theorem Qt(N:List ao)(ds:List D):owns (qg N ds)=[]:=by
 unfold owns qg;rw[List.filterMap_append];have h1:(ds.map Sl.val).filterMap Sl.addr=[]:=List.filterMap_eq_nil_iff.mpr λs hs=>by obtain⟨d,_,rfl⟩:=Xd.mp hs;rfl
 have h2:(az (N.length-ds.length) Sl.un).filterMap Sl.addr=[]:=List.filterMap_eq_nil_iff.mpr λs hs=>by rw[(List.mem_replicate.mp hs).2];rfl
 rw[h1,h2];rfl
theorem V4{K:k7g}{H:Hp}{N:List ao}{ds:List D}{vs:List V}(tb:TabOk K H)(h:j6 K H ds vs):Rep K (qg N ds) (start N vs) H:=by
 have ho:=Qt N ds;have hl:=h.length;refine⟨by unfold qg start;simp[hl],λi d e=>?_,λi a l e=>?_,by rw[ho];exact List.nodup_nil,λi a o y e=>?_,tb⟩
 .rw[ho,Jc];unfold qg at e;by_cases z:i<ds.length
  .rw[Pn (by simpa using z),Xa]at e;rw[kh z]at e;cases e;obtain⟨v,hv,en⟩:=h.get (kh z);refine⟨v,?_,en⟩;unfold start;rw[Pn (by rw[km,hl];exact z),Xa,hv];rfl
  .rw[df (by simpa using z)]at e;have:=Xl e;cases(List.mem_replicate.mp this).2
 .have:=Jt e;rw[ho]at this;cases this
 .unfold qg at e;rcases Xx.mp (Xl e)with z|z
  .obtain⟨d,_,q⟩:=Xd.mp z;cases q
  .cases(List.mem_replicate.mp z).2
section
variable{P:ay}{w:aD}{K:k7g}{mg:k7j}{base:aH}{x qual:ao}{st:aQ}{f:ak}{fd:aL}{N ps:List ao}{k:Nat}
def U9(K:k7g)(f:ak)(cdv:aj):Prop:=∃(oc:aj)(od:Option ak)(fd:aL)(sl:Array (Option aj)),K.lookup f=aa ⟨oc,od,.func fd,sl⟩/\fd.code=cdv
theorem Fun.okC{sp:Sp}(F:Fun K x qual st f fd)(S:FnScope N ps (j0 st))(len:∀vs H Q E,sp vs H Q E->vs.length=ps.length)
  (hbody:∀(cdv:aj)(A:aG)(outer:List d9)(s:aq)(H:Hp)(vs:List V)(Q:VK) (E:XK),U9 K f cdv->Room k (A.deeper (bx qual (j0 st) s.heap.objs.size f cdv))->sp vs H Q E ->
   ∃t,PSs (qz CX0 P w K mg base N qual (j0 st) f cdv A outer s H E).nox (jg st) t/\t { nx:=λ_ H'=>Q .non H',rt:=Q } (start N vs) H):FnOk P w K mg base CX0 (k+1) f fd ps sp:=by
 obtain⟨oc,od,dV,kV,doc,pm,an,cdv,ct,osl,rfl,lk,hcd⟩:=F.ex;refine Ly lk hcd S len λA outer s H vs Q E hr hsp=>?_;obtain⟨t,h,q⟩:=hbody cdv A outer s H vs Q E ⟨oc,od,_,osl,lk,rfl⟩ hr hsp;exact⟨t,h.nox,q⟩
theorem Ft{S:List D->D->Prop}(F:Fun K x qual st f fd)(Sc:FnScope N ps (j0 st))(hl:∀ds d,S ds d->ds.length=ps.length)
  (hbody:∀(cdv:aj)(A:aG)(outer:List d9)(s:aq)(H:Hp)(E:XK),U9 K f cdv->Room k (A.deeper (bx qual (j0 st) s.heap.objs.size f cdv))->∀ds d,S ds d ->
   DSs (qz CX0 P w K mg base N qual (j0 st) f cdv A outer s H E).nox (qg N ds) (jg st) { nx:=λ_=>d=.non,rt:=λr=>r.d=d }):FnOk P w K mg base CX0 (k+1) f fd ps (spP K S):=by
 refine FnOk.toP (F.okC Sc (λvs H Q E ⟨ds,d,tb,en,hS,_⟩=>by rw[en.length];exact hl ds d hS) λcdv A outer s H vs Q E hcv hr ⟨ds,d,tb,en,hS,q⟩=>⟨_,v7,?_⟩);have ho:=Qt N ds;refine hbody cdv A outer s H E hcv hr ds d hS (start N vs) H _ (V4 tb en) ⟨λρ' σ' H' n R f=>?_,λ_ _ _ z=>z.elim,λ_ _ _ z=>z.elim,λr v H' n z=>?_,λ_ _ _ _ z=>z.elim⟩
 .subst n;unfold Fr0 at f;rw[ho,Jc]at f;exact q _ H' (f.trans jj) rfl
 .cases r with
  |val d' =>cases(show d'=d from n);obtain⟨g,en'⟩:=z;rw[ho,Jc]at g;exact q v H' g en'
  |fresh l =>cases(show D.lst l=d from n);obtain⟨a,xs,e,g,m,en'⟩:=z;rw[ho,Jc]at g;exact q v H' (g.trans jj) ⟨a,xs,e,.inl (.inl m),en'.mono jj⟩
theorem j93{S:List D->List D->Prop}(F:Fun K x qual st f fd)(Sc:FnScope N ps (j0 st))(hl:∀ds d,S ds d->ds.length=ps.length)
  (hbody:∀(cdv:aj)(A:aG)(outer:List d9)(s:aq)(H:Hp)(E:XK),U9 K f cdv->Room k (A.deeper (bx qual (j0 st) s.heap.objs.size f cdv))->∀ds l,S ds l ->
   DSs (qz CX0 P w K mg base N qual (j0 st) f cdv A outer s H E).nox (qg N ds) (jg st) { nx:=λ_=>False,rt:=λr=>r=.fresh l }):FnOk P w K mg base CX0 (k+1) f fd ps (spF K S):=by
 refine FnOk.toF (F.okC Sc (λvs H Q E ⟨ds,d,tb,en,hS,_⟩=>by rw[en.length];exact hl ds d hS) λcdv A outer s H vs Q E hcv hr ⟨ds,l,tb,en,hS,q⟩=>⟨_,v7,?_⟩);have ho:=Qt N ds;refine hbody cdv A outer s H E hcv hr ds l hS (start N vs) H _ (V4 tb en) ⟨λρ' σ' H' n R f=>n.elim,λ_ _ _ z=>z.elim,λ_ _ _ z=>z.elim,λr v H' n z=>?_,λ_ _ _ _ z=>z.elim⟩;cases(show r=.fresh l from n);obtain⟨a,xs,e,g,m,en'⟩:=z;rw[ho,Jc]at g;subst e;refine q a xs H' (g.trans jj) ?_ m en';cases y:H a with
 |none=>rfl
 |some o=>have:=g a o y;rw[v9 (X3.mpr rfl)]at this;cases this
end
section
variable{prog:ay}{w:aD}{A:aG}{R:eY->aq->Prop}{s:aq}
theorem Ek{elt target iter:ar}{ifs:List ar}{scope:bG}{pos:aP}{it acc:aj}{env:d9}(I:Nat->aq->Prop)
  (turn:∀n s,I n s->ax (aA prog w) A (dj it) (λr s₁=>match r with
   |none=>R (.ok .next) s₁
   |some v=>ax (aA prog w) A (eP target it v) (λ_ s₁'=>ax (aA prog w) A (dX target env v) (λ_ s₂ =>
     ax (aA prog w) A (forIn ifs af λc r=>if r=af then do let ok <-eN c env (aB c env);pure (cx ok)else pure (cx r)) (λok s₃ =>
      if ok=af then ax (aA prog w) A (aB elt env) (λx s₄ =>
       ax (aA prog w) A (call (.builtin "list.append") [acc,x]) (λ_ s₅=>∃m,m<n/\I m s₅) (λ_ _=>False) s₄) (λ_ _=>False) s₃
      else ∃m,m<n/\I m s₃) (λ_ _=>False) s₂) (λ_ _=>False) s₁') (λ_ _=>False) s₁) (λ_ _=>False) s)
  (n:Nat) (h:I n s) :
  cF (aA prog w) A (.compLoop (.ListComp elt [⟨target,iter,ifs,0⟩] scope pos) 0 it acc env) R s:=by
 refine codeAny_loop rfl I (λn s hI=>?_) n h;show ax _ A ((compTurn (.ListComp elt [⟨target,iter,ifs,0⟩] scope pos) 0 it acc env).onRaise (λx=>do noteFrame x env;theTreesLotGoes x)) _ _ s;refine wpAny_noted ?_;rw[compTurn_list];refine ag (fm (ag (bR (turn n s hI) (λr s₁ h₁=>?_) λ_ _ h'=>h'.elim)));cases r with
 |none=>exact av h₁
 |some v =>
  refine ag (bR h₁ (λ_ s₁' h₁'=>?_) λ_ _ h'=>h'.elim);refine ag (bR h₁' (λ_ s₂ h₂=>ag (bR h₂ (λok s₃ h₃=>?_) λ_ _ h'=>h'.elim)) λ_ _ h'=>h'.elim);cases ok with
  |false=>exact av ⟨rfl,h₃⟩
  |true =>exact ag (ag (bR h₃ (λx s₄ h₄=>ag (bR h₄ (λ_ s₅ h₅=>av (av ⟨rfl,h₅⟩)) λ_ _ h'=>h'.elim)) λ_ _ h'=>h'.elim))
end
noncomputable def vp(env:d9):List (ao×bH)->List (ao×ak)->List (ao×ak)
 |[],acc=>acc
 |(n,k)::r,acc=>vp env r (if k==.free then(match env.cells.lookup n with|some a=>(n,a)::acc|none=>acc)else acc)
theorem Nb{scope:bG}{env:d9}(h:∀y∈scope.names,y.2=.free->(env.cells.lookup y.1).isSome=af):closureFor scope env=pure (vp env scope.names []):=by
 simp only[closureFor];have step:∀(names:List (ao×bH)) (acc:List (ao×ak)),(∀y∈names,y.2=.free->(env.cells.lookup y.1).isSome=af) ->
   (forIn names acc (λx r=>(do if (x.2==bp)=af then(do let a <-cellOf env x.1;pure (cx ((x.1,a)::r)))else pure (cx r):kW _)):kW _)=pure (vp env names acc):=by
  intro names;induction names with
  |nil=>intro acc _;rfl
  |cons y r ih =>
   intro acc hy;obtain⟨n,k⟩:=y;rw[cU];by_cases e:(k==bp)=af
   .have hk:k=.free:=by simpa using e
    have hs:=hy (n,k) (xm ..) hk;obtain⟨a,ha⟩:=Xp.mp hs;have hc:cellOf env n=pure a:=by unfold cellOf;rw[ha]
    simp only[e,if_true,hc,pure_bind];rw[ih _ λz hz=>hy z (xf _ hz)];simp only[vp,e,if_true,ha]
   .have e':(k==bp)=ae:=by simpa using e
    simp only[e',Xr,if_false,pure_bind];rw[ih _ λz hz=>hy z (xf _ hz)];simp only[vp,e',Xr,if_false]
 have:=step scope.names [] h;rw[show(forIn scope.names ([]:List (ao×ak)) λx r=>_)=_ from this];rfl
theorem Ck{env:d9}{y:ao}{c:ak}:∀{names:List (ao×bH)} {acc:List (ao×ak)},(∀y c,acc.lookup y=aa c->env.cells.lookup y=aa c)->(vp env names acc).lookup y=aa c->env.cells.lookup y=aa c
 |[],acc,h,q=>h y c q
 |(n,k)::r,acc,h,q=>by
  unfold vp at q;refine Ck (acc:=_) ?_ q;intro z d hz;split at hz
  .split at hz
   .rename_i a ha;rw[Xg]at hz;split at hz
    .rename_i e;have e':z=n:=by simpa using e
     subst e';cases hz;exact ha
    .exact h z d hz
   .exact h z d hz
  .exact h z d hz
theorem Nf{env:d9}{y:ao}:∀{names:List (ao×bH)} {acc:List (ao×ak)},(acc.lookup y).isSome=af->((vp env names acc).lookup y).isSome=af
 |[],acc,h=>h
 |(n,k)::r,acc,h=>by
  unfold vp;refine Nf ?_;split
  .split
   .rw[Xg];split
    .rfl
    .exact h
   .exact h
  .exact h
theorem Wl{env:d9}{y:ao}(hs:(env.cells.lookup y).isSome=af):∀{names:List (ao×bH)} {acc:List (ao×ak)},(y,bp)∈names->((vp env names acc).lookup y).isSome=af
 |[],acc,h=>nomatch h
 |(n,k)::r,acc,h=>by
  unfold vp;rcases xr.mp h with e|h
  .cases e;refine Nf ?_;obtain⟨a,ha⟩:=Xp.mp hs;rw[if_pos (by rfl),ha];rw[Xg];simp
  .exact Wl hs h
noncomputable def Q0(scope:bG)(env:d9)(N:List ao)(cs:List Nat):Bool :=
 scope.names.all (λy=>(y.2 != .cell || scope.names.lookup y.1==aa .cell)&&(y.2 != .local || scope.names.lookup y.1==aa .local)&&(y.2 != .free || ((env.cells.lookup y.1).isSome&&(env.kindOf y.1==aa .cell || env.kindOf y.1==aa .free)))) &&
 (aK N.length).all (λj=>cs.contains j || (match N[j]? with|some y=>scope.names.lookup y != aa .local&&scope.names.lookup y != aa .cell|none=>af))
theorem lookup_mem{α β:Type}[BEq α][LawfulBEq α]{l:List (α×β)}{a:α}{b:β}(h:l.lookup a=aa b):(a,b)∈l:=by
 induction l with
 |nil=>cases h
 |cons x r ih =>
  obtain⟨c,d⟩:=x;rw[Xg]at h;split at h
  .rename_i e;cases h;have e':a=c:=by simpa using e
   subst e';exact xm ..
  .exact xf _ (ih h)
theorem Je{env:d9}{x:ao}{k':bH}:∀{names:List (ao×bH)},
  (names.map λ(n,k)=>if (k==bp&&env.scope.kind==.function&&env.kindOf n==aa .cell) then(n,bS) else(n,k)).lookup x=aa k' ->
  ∃k,names.lookup x=aa k/\(k'=k\/(k=.free/\k'=.cell))
 |[],h=>by cases h
 |(n,k)::r,h=>by
  rw[X5]at h;rw[Xg];by_cases hc:(k==bp&&env.scope.kind==.function&&env.kindOf n==aa .cell)=af
  .dsimp only at h;rw[if_pos hc,Xg]at h;cases e:x==n with
   |true =>
    rw[e]at h;cases h;have:(k==bp)=af:=by
     cases z:k==bp with
     |true=>rfl
     |false=>rw[z]at hc;simp at hc
    exact⟨k,rfl,.inr ⟨by simpa using this,rfl⟩⟩
   |false=>rw[e]at h;exact Je h
  .dsimp only at h;rw[if_neg hc,Xg]at h;cases e:x==n with
   |true=>rw[e]at h;cases h;exact⟨_,rfl,.inl rfl⟩
   |false=>rw[e]at h;exact Je h
theorem Yl:∀(names:List (ao×bH)) (n:Nat) (acc:List (ao×ak)),aX n names acc=aX n names []++acc
 |[],_,_=>rfl
 |(x,k)::r,n,acc=>by
  unfold aX;split
  .rw[Yl r (n+1) ((x,n)::acc),Yl r (n+1) [(x,n)],Pk];rfl
  .exact Yl r n acc
theorem Ng:∀{names:List (ao×bH)} {n:Nat} {x:ao} {c:ak},(x,c)∈aX n names []->(x,bS)∈names/\n<=c
 |[],_,_,_,h=>nomatch h
 |(y,k)::r,n,x,c,h=>by
  unfold aX at h;split at h
  .rename_i hk;rw[Yl]at h;rcases Xx.mp h with h|h
   .have q:=Ng h;exact⟨xf _ q.1,Nat.le_of_succ_le q.2⟩
   .cases X3.mp h;have hk:k=bS:=by simpa using hk
    subst hk;exact⟨xm ..,X6 _⟩
  .have q:=Ng h;exact⟨xf _ q.1,q.2⟩
theorem Vo{β:Type}:∀{l m:List (ao×β)} {y:ao},(l++m).lookup y=(l.lookup y).or (m.lookup y)
 |[],m,y=>rfl
 |(x,b)::r,m,y=>by
  rw[Tc,Xg,Xg];split
  .rfl
  .exact Vo
theorem Cm{names:List (ao×bH)}{n:Nat}{acc:List (ao×ak)}{y:ao}{c:ak}(h:(aX n names acc).lookup y=aa c) :
  ((y,c)∈aX n names []/\(y,bS)∈names/\n<=c)\/((aX n names []).lookup y=ah/\acc.lookup y=aa c):=by
 rw[Yl,Vo]at h;cases e:(aX n names []).lookup y with
 |some c'=>rw[e]at h;cases h;have q:=lookup_mem e;exact .inl ⟨q,Ng q⟩
 |none=>rw[e]at h;exact .inr ⟨rfl,h⟩
theorem jhx{names:List (ao×bH)}{n:Nat}{acc:List (ao×ak)}{y:ao}(h:(y,bS)∉names):(aX n names acc).lookup y=acc.lookup y:=by
 rw[Yl,Vo];cases e:(aX n names []).lookup y with
 |some c'=>exact absurd (Ng (lookup_mem e)).1 h
 |none=>rfl
theorem jds{names:List (ao×bH)}{n:Nat}{acc:List (ao×ak)}{y:ao}(h:(acc.lookup y).isSome=af):∃c,(aX n names acc).lookup y=aa c:=by
 rw[Yl,Vo];cases e:(aX n names []).lookup y with
 |some c'=>exact⟨c',rfl⟩
 |none=>obtain⟨c,hc⟩:=Xp.mp h;exact⟨c,hc⟩
theorem Kz{M:iU}{A:aG}{E:k7h}{s:aq}{scope:bG}{globals:ak}{closure:List (ao×ak)}{qual:ao}{env:d9}{Q:d9->aq->Prop}
  (hQ:Q { scope:=scope,locals:=s.heap.objs.size,globals:=globals,cells:=aX (s.heap.objs.size+1) scope.names closure,qual:=qual,func:=ah,code:=env.code,frame:=env.frame,builtins:=env.builtins }
   { s with heap:=ia (s.heap.push { cls:=.type "dict",data:=.dict #[] }) scope.names }) :
  ax M A (gE scope globals closure [] qual ah .none (aa env)) Q E s:=by
 simp only[gE,cZ,if_true];refine ag (wpAny_alloc ?_);refine ag (wpAny_layCells _ (λname kind cells=>by cases hkc:kind==bS<;>simp[hkc]) _ _ _ _ ?_);rw[show({ s with heap:=s.heap.push { cls:=.type "dict",data:=.dict #[] } }:aq).heap.objs.size=s.heap.objs.size+1 from Xi ..];exact ag (av (av hQ))
noncomputable abbrev cCx(X:Cx)(scope:bG)(C:ak)(s:aq)(H:Hp)(fp:List ak)(pn:k7i):Cx :=
 { X with env:=compEnvC scope (aX (C+1) scope.names (vp X.env scope.names [])) C X.env,s₀:=s,H₀:=H,outer:=X.stack,stack:=X.stack,ex:=fp,fn:=λx=>scope.names.lookup x==aa .cell,pn:=pn,xe:=λ_ _=>False }
noncomputable def M3(scope:bG)(y:ao):Bool:=scope.names.lookup y==aa .local || scope.names.lookup y==aa .cell
theorem Zo{env:d9}:∀{names:List (ao×bH)} {x:ao},names.lookup x=aa .cell ->
  (names.map λ(n,k)=>if (k==bp&&env.scope.kind==.function&&env.kindOf n==aa .cell) then(n,bS) else(n,k)).lookup x=aa .cell
 |[],_,h=>by simp at h
 |(n,k)::r,x,h=>by
  have ih:=@Zo env r x;rw[X5];cases hx:x==n with
  |true =>simp only[Xg,hx]at h;cases h;simp[Xg,hx]
  |false =>
   simp only[Xg,hx]at h;dsimp only;by_cases hc:(k==bp&&env.scope.kind==.function&&env.kindOf n==aa .cell)=af
   .rw[if_pos hc];simp only[Xg,hx];exact ih h
   .rw[if_neg hc];simp only[Xg,hx];exact ih h
theorem j0l{X:Cx}{scope:bG}{C:ak}{s:aq}{H:Hp}{fp:List ak}{pn:k7i}{y:ao}(h:M3 scope y=af):Loc (cCx X scope C s H fp pn).env.scope y:=by
 unfold M3 at h;rw[ph]at h;rcases h with h|h
 .exact .inl (iR (by simpa using h))
 .exact .inr (Zo (by simpa using h))
theorem j3s{X:Cx}{scope:bG}{C:ak}{s:aq}{H:Hp}{fp:List ak}{pn:k7i}{y:ao}(h:M3 scope y=af):(cCx X scope C s H fp pn).fn y=af\/(cCx X scope C s H fp pn).env.scope.names.lookup y=aa .local:=by
 unfold M3 at h;rw[ph]at h;rcases h with h|h
 .exact .inr (iR (by simpa using h))
 .exact .inl h
def DTs(X:Cx)(ρ:Rho)(ifs:List ar)(b:Bool):Prop:=match ifs with
 |[]=>b=af
 |[c]=>DB X ρ c b
 |_=>False
theorem DTs.nil{X:Cx}{ρ:Rho}:DTs X ρ [] af:=rfl
theorem DTs.one{X:Cx}{ρ:Rho}{c:ar}{b:Bool}(h:DB X ρ c b):DTs X ρ [c] b:=h
theorem DTs.run{X:Cx}{ρ:Rho}{ifs:List ar}{b:Bool}(h:DTs X ρ ifs b){pins:k7i}{σ:St}{H:Hp}{s:aq}(I:Inv X pins σ H s)(R:Rep X.K ρ σ H) :
  ax (aA X.prog X.w) X.A (forIn ifs af λc r=>if r=af then do let ok <-eN c X.env (aB c X.env);pure (cx ok)else pure (cx r)) (λok s'=>ok=b/\∃H',Inv X pins σ H' s'/\j4 H H') X.xe s:=by
 match ifs,h with
 |[],h=>exact wpAny_tests_nil ⟨h.symm,H,I,j4.refl H⟩
 |[c],h=>exact wpAny_tests_one (thn (h σ H (λk H'=>k=b/\j4 H H') R (λH' g=>⟨rfl,g⟩) pins s I) λk s' ⟨H',I',e,g⟩=>⟨e,H',I',g⟩)
theorem Rep.weaken{K:k7g}{ρ:Rho}{σ σ':St}{H:Hp}(R:Rep K ρ σ H)(hl:σ'.length=σ.length)(h:∀(i:Nat),ρ[i]?≠aa .un->σ'[i]?=σ[i]?):Rep K ρ σ' H :=
 ⟨by rw[hl,R.len],λi d e=>let ⟨v,q,z⟩:=R.val i d e;⟨v,by rw[h i (by rw[e];simp)];exact q,z⟩,λi a ds e=>let ⟨q,z⟩:=R.own i a ds e;⟨by rw[h i (by rw[e];simp)];exact q,z⟩,R.nd,λi a o x e=>let ⟨q,z⟩:=R.raw i a o x e;⟨by rw[h i (by rw[e];simp)];exact q,z⟩,R.tb⟩
noncomputable def mask(cs:List Nat)(σ:St):St:=σ.mapIdx λj v=>if cs.contains j then ah else v
theorem O3(cs:List Nat)(σ:St):(mask cs σ).length=σ.length:=by unfold mask;simp
theorem j86{cs:List Nat}{σ:St}{j:Nat}{v:V}(h:(mask cs σ)[j]?=aa (aa v)):j∉cs/\σ[j]?=aa (aa v):=by
 unfold mask at h;rw[gY]at h;cases e:σ[j]? with
 |none=>rw[e]at h;cases h
 |some u =>
  rw[e]at h;have h':(if cs.contains j then ah else u)=aa v:=aC h;by_cases z:cs.contains j=af
  .rw[if_pos z]at h';cases h'
  .rw[if_neg z]at h';subst h';exact⟨λy=>z (by simpa using y),rfl⟩
theorem j85{cs:List Nat}{σ:St}{j:Nat}(h:j∉cs):(mask cs σ)[j]?=σ[j]?:=by
 unfold mask;rw[gY];cases e:σ[j]? with
 |none=>rfl
 |some u=>simp[h]
def Wk(ρ2 ρ:Rho):Prop:=∀K σ H,Rep K ρ2 σ H->Rep K ρ σ H
theorem Zt(H:Hp)(A B:List ak):del (del H A) B=del H (A++B):=funext λb=>by unfold del;by_cases h1:b∈A<;>by_cases h2:b∈B<;>simp[h1,h2]
structure Loose(X:Cx)(pins:k7i)(H:Hp)(C:ak):Prop where
 free:H C=ah
 loc:C≠X.env.locals
 new:X.s₀.heap.objs.size<=C
 cell:∀x c,X.env.cells.lookup x=aa c->c≠C
 pin:∀p∈X.pn++pins,p.1≠C
section
variable{X:Cx}{pins:k7i}{σ:St}{H2:Hp}{s2:aq}{ρ:Rho}{tg elt iter:ar}{ifs:List ar}{scope:bG}{pos:aP}{ds:List D}{cs:List Nat}{p:D->Bool}{g:D->D}
theorem Ci{J:It}{fp:List ak}{it:ak}{tn:Nat->aH->Prop}(I2:Inv X pins σ H2 s2)(R2:Rep X.K ρ σ H2)(T:Turn X.prog X.w X.K tg J fp it tn)(st2:tn 0 s2.heap)(f2:∀b∈fp,Qp X pins H2 b)
  (ok:U8 X.K (del H2 (owns ρ)) J ds) (hc:X.calm=af) (hkind:scope.kind=.function) (hok:Q0 scope X.env X.N cs=af) (hcs:∀j∈cs,ρ[j]?=aa .un) (hsz:ds.length<=au)
  (hb:∀C s H fp pn,∀d∈ds,∃ρ2,DG (cCx X scope C s H fp pn) ρ tg d ρ2/\Wk ρ2 ρ/\owns ρ2=owns ρ/\DTs (cCx X scope C s H fp pn) ρ2 ifs (p d)/\(p d=af->DE (cCx X scope C s H fp pn) ρ2 elt (g d)))
  {E:k7h} {RR:aj->ak->eY->aq->Prop}
  (hRR:∀D C xs H' s' m,Inv X pins σ H' s'->j4 H2 H'->H2 D=ah->H' D=aa (.lst xs)->j6 X.K (del H' (D::owns ρ)) ((ds.filter p).map g) xs->s'.heap.Ns C m->Loose X pins H' C->RR (.ref D) C (.ok .next) s') :
  ax (aA X.prog X.w) X.A (newList []) (λacc s₃=>ax (aA X.prog X.w) X.A (gE scope X.env.globals (vp X.env scope.names []) [] X.env.qual ah .none (aa X.env)) (λcenv s₄ =>
   cF (aA X.prog X.w) X.A (.compStart (.ListComp elt [⟨tg,iter,ifs,0⟩] scope pos) 0 (.ref it) acc { cenv with scope:=relabel scope X.env }) (RR acc cenv.locals) s₄) E s₃) E s2:=by
 unfold Q0 at hok;rw[Xb]at hok;obtain⟨hn,hN⟩:=hok;have hn':∀y∈scope.names,(y.2=.cell->scope.names.lookup y.1=aa .cell)/\(y.2=.free->(X.env.cells.lookup y.1).isSome=af/\(X.env.kindOf y.1=aa .cell\/X.env.kindOf y.1=aa .free)):=λy hy=>by have:=Xq.mp hn y hy;simp only[Xb,bne_iff_ne,ne_eq,ph,beq_iff_eq]at this;obtain⟨⟨a,_⟩,c⟩:=this;exact⟨λe=>a.elim (λz=>absurd e z) id,λe=>c.elim (λz=>absurd e z) id⟩
 have nocell:∀{y:ao},scope.names.lookup y=aa .free->(y,bS)∉scope.names:=λ{y} h z=>by have q:=(hn' _ z).1 rfl;rw[h]at q;cases q
 have hloc:∀(j:Nat)(y:ao),X.N[j]?=aa y->j∉cs->scope.names.lookup y≠aa .local/\scope.names.lookup y≠aa .cell:=λj y hj hc=>by
  have hlt:j<X.N.length:=(Xe.mp hj).1;have:=Xq.mp hN j (Xw.mpr hlt);rw[hj]at this;simp only[ph,Xb,bne_iff_ne,ne_eq]at this;rcases this with z|z
  .exact absurd (by simpa using z) hc
  .exact z
 have cl_of:∀{y:ao}{c:ak},(vp X.env scope.names []).lookup y=aa c->X.env.cells.lookup y=aa c:=λ{y c} h=>Ck (λ_ _ z=>by cases z) h;refine bN (Kz ?_);dsimp only;generalize hH2:s2.heap.push { cls:=.type "list",dict:=ah,data:=.seq ([]:List aj).toArray }=hp2;have keep1:∀b o,hp2.get? b=aa o->(ia (hp2.push { cls:=.type "dict",data:=.dict #[] }) scope.names).get? b=aa o:=λb o e=>kU _ _ b o (kj _ e);have hns₁:(ia (hp2.push { cls:=.type "dict",data:=.dict #[] }) scope.names).Ns hp2.objs.size (λ_=>ah):=(Heap.Ns.new hp2 (.type "dict")).keeps (kU _ _);have okl:=cellsFrom_ok scope.names (hp2.push { cls:=.type "dict",data:=.dict #[] }) (hp2.objs.size+1) [] ⟨λ_ _ hm=>(nomatch hm),fW⟩ (by rw[Xi];exact X6 _);rw[Xi]at okl;generalize ia (hp2.push { cls:=.type "dict",data:=.dict #[] }) scope.names=h₁ at keep1 hns₁ okl ⊢;have hC:hp2.objs.size=s2.heap.objs.size+1:=by rw[<-hH2,Xi]
 have hDC:s2.heap.objs.size≠hp2.objs.size:=by rw[hC];exact X8 (Pq _)
 have hCle:s2.heap.objs.size<=hp2.objs.size:=by rw[hC];exact pq _
 have below:∀b,b<s2.heap.objs.size->b≠hp2.objs.size/\b≠s2.heap.objs.size:=λb hb=>⟨by rw[hC];exact X8 (Tu hb),X8 hb⟩
 have old:∀b o,s2.heap.get? b=aa o->h₁.get? b=aa o:=λb o e=>keep1 b o (hH2▸kj _ e);have hacc:h₁.get? s2.heap.objs.size=aa { cls:=.type "list",dict:=ah,data:=.seq ([]:List aj).toArray }:=keep1 _ _ (hH2▸xu _ rfl);have none_of:∀b,s2.heap.objs.size<=b->s2.heap.get? b=ah:=λb hb=>by
  cases e:s2.heap.get? b with
  |none=>rfl
  |some o'=>exact absurd (xq e) (Nat.not_lt.mpr hb)
 have hD0:H2 s2.heap.objs.size=ah:=I2.fresh;generalize hDd:s2.heap.objs.size=Dd at *;generalize hCc:hp2.objs.size=C at *;have hC0:H2 C=ah:=I2.hok.fresh (by rw[hDd];exact hCle);have pinlt:∀p∈X.pn++pins,p.1<Dd:=λp hp=>by rw[<-hDd];exact xq (I2.pin p hp).1
 have celllt:∀y c,X.env.cells.lookup y=aa c->c<Dd:=λy c h=>by obtain⟨v,o,e,_⟩:=I2.cell y c h;rw[<-hDd];exact xq e
 have loclt:X.env.locals<Dd:=by rw[<-hDd];exact I2.lt
 have fplt:∀b∈fp,b<Dd:=λb hb=>by obtain⟨o,e,_⟩:=T.obj _ _ st2 b hb;rw[<-hDd];exact xq e
 have hDlt:Dd<C:=by omega
 have cellD:∀{y:ao}{c:ak},(aX (C+1) scope.names (vp X.env scope.names [])).lookup y=aa c->((y,c)∈aX (C+1) scope.names []/\C+1<=c)\/X.env.cells.lookup y=aa c:=λ{y c} h=>by
  rcases Cm h with ⟨q,_,z⟩|⟨_,q⟩
  .exact .inl ⟨q,z⟩
  .exact .inr (cl_of q)
 have celln:∀{y:ao}{c b:ak},(aX (C+1) scope.names (vp X.env scope.names [])).lookup y=aa c->b<Dd->(∀c,X.env.cells.lookup y=aa c->c≠b)->c≠b:=λ{y c b} h hb ho=>by
  rcases cellD h with ⟨_,z⟩|q
  .exact Pg (Xy hb (Xy hDlt (Tv z)))
  .exact ho c q
 have okc:(cCx X scope C s2 H2 fp (X.pn++pins)).Ok:={
  mod:=I2.ok.mod
  kind:=hkind
  glob:=I2.ok.glob
  blt:=I2.ok.blt
  above:=by show s2.heap.objs.size<=C;rw[hDd];exact hCle
  inj:=λx y c h1 h2=>by
   rcases cellD h1 with ⟨m1,z1⟩|q1<;>rcases cellD h2 with ⟨m2,z2⟩|q2
   .exact name_of_addr okl.apart m1 m2
   .exact absurd (Xy (celllt y c q2) (Xy hDlt (Tv z1))) (Pj _)
   .exact absurd (Xy (celllt x c q1) (Xy hDlt (Tv z2))) (Pj _)
   .exact I2.ok.inj x y c q1 q2
  has:=λx h=>by
   have key:∀k',(relabel scope X.env).names.lookup x=aa k'->(k'=.cell\/k'=.free)->∃c,(aX (C+1) scope.names (vp X.env scope.names [])).lookup x=aa c:=λk' hk hk'=>by
    obtain⟨k,hl,e⟩:=Je hk
    have hm:=lookup_mem hl
    have hk0:k=.free\/k=.cell:=by
     rcases e with e|e
     .subst e
      exact hk'.symm
     .exact .inl e.1
    rcases hk0 with hk0|hk0
    .subst hk0
     exact jds (Wl ((hn' _ hm).2 rfl).1 hm)
    .subst hk0
     exact Xp.mp (W.cellsFrom_some _ _ _ (.inl hl))
   rcases h with h|h
   .exact key _ h (.inl rfl)
   .exact key _ h (.inr rfl)
  cab:=λx c h h2=>by
   have hx:scope.names.lookup x=aa .cell:=by simpa using h
   show s2.heap.objs.size<=c
   rw[hDd]
   rcases Cm h2 with ⟨_,_,z⟩|⟨z,_⟩
   .exact dY (Xy hDlt (Tv z))
   .obtain⟨c',hc'⟩:=Xp.mp (W.cellsFrom_some scope.names (C+1) [] (.inl hx))
    rw[z]at hc';cases hc'
  hd:=I2.ok.hd
  frames:=I2.ok.frames
  stk:=.inl rfl
  exf:=λb hb=>⟨X8 (Xy (fplt b hb) hDlt),λx c h=>celln h (fplt b hb) λc q=>(f2 b hb).2.2.2.2.1 x c q⟩
  bs:=I2.bs
  bsz:=Xf I2.ok.bsz I2.sz
  noex:=λb o e hb=>by
   rcases(f2 b hb).2.2.2.1 with z|z
   .exact I2.ok.noex b o e z
   .exact absurd (xq e) (Nat.not_lt.mpr (Xf I2.ok.bsz z))
  exfs:=λb hb hf=>by
   rcases xr.mp (I2.stkSub b hf)with z|z
   .exact(f2 b hb).2.1 z
   .exact(f2 b hb).2.2.1 z
  funs:=I2.stack
  frf:=I2.stkFree }
 have hpush:HOk X.prog X.w (upd H2 Dd (.lst [])) h₁:=HOk.laid I2.hok old (by rw[hDd];exact X6 _) ⟨Te _,[],_,.nil,hacc⟩;have I0:Inv (cCx X scope C s2 H2 fp (X.pn++pins)) [] (mask cs σ) (upd H2 Dd (.lst [])) { s2 with heap:=h₁ }:={
  ok:=okc
  os:=rfl
  bare:=I2.bare
  base:=Un.laid old (by rw[hDd];exact X6 _) hD0
  loc:=by
   refine⟨_,hns₁,λj y v hj hv hvis=>?_⟩
   obtain⟨hjc,hσ⟩:=j86 hv
   obtain⟨m,hm,hlook⟩:=I2.loc
   have key:∀k',(relabel scope X.env).names.lookup y=aa k'->scope.names.lookup y=aa .free:=λk' hk=>by
    obtain⟨k,hl,e⟩:=Je hk
    have hmm:=lookup_mem hl
    have:k=.free:=by
     rcases e with e|e
     .subst e
      rcases hvis with z|z|z
      .have z:=hk.symm.trans z;cases z;exact absurd hl (hloc j y hj hjc).1
      .have z:=hk.symm.trans z;cases z;exact absurd hl (hloc j y hj hjc).2
      .have z:=hk.symm.trans z;cases z;rfl
     .exact e.1
    rw[hl,this]
   have hfree:scope.names.lookup y=aa .free:=by rcases hvis with z|z|z<;>exact key _ z
   have hmm:=lookup_mem hfree
   obtain⟨hs,hk⟩:=(hn' _ hmm).2 rfl
   have hvis':Vis X.env.scope y:=by rcases hk with z|z;exact .inr (.inl z);exact .inr (.inr z)
   obtain⟨u,ru,look⟩:=hlook j y v hj hσ hvis'
   refine⟨u,ru,?_⟩
   rcases look with ⟨z,_⟩|⟨_,c,hcl,hcv⟩
   .rcases hk with y'|y'<;>rw[y']at z<;>cases z
   .refine .inr ⟨?_,c,?_,?_⟩
    .rcases hvis with z|z|z
     .exfalso
      obtain⟨k,hl,e⟩:=Je z
      rw[hfree]at hl;cases hl
      rcases e with e|e
      .cases e
      .cases e.2
     .exact .inl z
     .exact .inr z
    .obtain⟨c',hc'⟩:=Xp.mp (Wl (acc:=[]) hs hmm)
     have:=cl_of hc'
     rw[hcl]at this;cases this
     exact(jhx (nocell hfree)).trans hc'
    .obtain⟨o,e,d⟩:=hcv
     exact⟨o,old _ _ e,d⟩
  cell:=λx c h=>by
   rcases cellD h with ⟨q,_⟩|q
   .exact⟨_,(okl.empty x c q).1⟩
   .obtain⟨v,o,e,d⟩:=I2.cell x c q
    exact⟨v,o,old _ _ e,d⟩
  free:=by show upd H2 Dd (.lst []) C=ah;rw[ji (Pg hDlt)];exact hC0
  freeC:=λx c h=>by
   rcases cellD h with ⟨_,z⟩|q
   .rw[ji (Pg (Xy hDlt (Tv z)))];exact I2.hok.fresh (by rw[hDd];exact dY (Xy hDlt (Tv z)))
   .rw[ji (X8 (celllt x c q))];exact I2.freeC x c q
  pin:=λp hp=>by
   rw[Xo]at hp
   obtain⟨h1,h2,h3,h4,h5⟩:=I2.pin p hp
   have hlt:=pinlt p hp
   refine⟨old _ _ h1,by rw[ji (X8 hlt)];exact h2,X8 (Xy hlt hDlt),λz=>?_,h5⟩
   rcases xr.mp (I2.stkSub _ z)with y|y
   .exact h3 y
   .exact h4 y
  hok:=hpush
  len:=by rw[O3];exact I2.len }
 have hDo:Dd∉owns ρ:=R2.fresh hD0;have fpok:∀{H':Hp},(∀b∈fp,H' b=ah)->∀b∈fp,Qp (cCx X scope C s2 H2 fp (X.pn++pins)) [] H' b:=λ{H'} hn b hb =>⟨hn b hb,X8 (Xy (fplt b hb) hDlt),okc.exfs b hb,.inl hb,λx c h=>celln h (fplt b hb) λc q=>(f2 b hb).2.2.2.2.1 x c q,λp hp=>by rw[Xo]at hp;exact(f2 b hb).2.2.2.2.2 p hp⟩
 have R0:Rep X.K ρ (mask cs σ) H2:=R2.weaken (O3 _ _) λj hj=>j85 λz=>hj (hcs j z);have e0:del (upd H2 Dd (.lst [])) [Dd]=H2:=by
  rw[Vy (X3.mpr rfl)]
  funext b
  by_cases z:b∈[Dd]
  .rw[v9 z,X3.mp z,hD0]
  .exact j5 z
 have loop:∀s₃:aq,s₃={ s2 with heap:=h₁ } ->
   cF (aA X.prog X.w) X.A (.compLoop (.ListComp elt [⟨tg,iter,ifs,0⟩] scope pos) 0 (.ref it) (.ref Dd) (compEnvC scope (aX (C+1) scope.names (vp X.env scope.names [])) C X.env)) (RR (.ref Dd) C) s₃:=by
  rintro s₃ rfl;refine Ek (λn s=>∃i σ' H' ys,Inv (cCx X scope C s2 H2 fp (X.pn++pins)) [] σ' H' s/\tn i s.heap/\(∀b∈fp,H' b=ah)/\i<=ds.length/\n=ds.length-i/\Rep X.K ρ σ' (del H' [Dd])/\j4 H2 (del H' [Dd])/\H' Dd=aa (.lst ys) /\
   j6 X.K (del H' (Dd::owns ρ)) (((ds.take i).filter p).map g) ys) ?_ ds.length
   ⟨0,mask cs σ,upd H2 Dd (.lst []),[],I0,T.keep _ _ _ st2 (λb _ o e=>old b o e),λb hb=>by rw[ji (X8 (fplt b hb))];exact(f2 b hb).1,Te _,rfl,by rw[e0];exact R0,by rw[e0];exact j4.refl _,ju,rfl⟩
  rintro n s3 ⟨i,σ3,H3,ys,I3,st3,fr3,hle,rfl,R3,g3,m3,en3⟩;have F3:j4 (del H2 (owns ρ)) (del H3 (Dd::owns ρ)):=by
   have:del H3 (Dd::owns ρ)=del (del H3 [Dd]) (owns ρ):=by rw[Zt];rfl
   rw[this];exact jf g3
  obtain⟨go,stop,yld⟩:=ok i H3 (Dd::owns ρ) F3 λa ha=>by
   rcases xr.mp ha with e|ha
   .rw[e,m3];simp
   .obtain⟨xs,e⟩:=R3.owned a ha;rw[(of_del e).2];simp
  by_cases hlt:i<ds.length
  .refine thn (T.item (cCx X scope C s2 H2 fp (X.pn++pins)) rfl rfl rfl hc i [] s3 σ3 H3 (λ_ _=>False) I3 (fpok fr3) st3 (go hlt)) λr s4 ⟨u,hr,h4⟩=>?_;subst hr;refine thn h4 λ_ s5 ⟨x,H5,I5,r5,y5,st5,fr5⟩=>?_;obtain⟨g5,en5⟩:=yld x H5 y5;have hd:ds[i]?=aa ds[i]:=kh hlt;obtain⟨ρ2,⟨sub,hG⟩,wk,eo,hT,hE⟩:=hb C s2 H2 fp (X.pn++pins) ds[i] (Pu hlt);have m5:H5 Dd=aa (.lst ys):=g5 _ _ m3;have hA:∀a∈[Dd],Hd (H5 a):=λa ha=>.inl ⟨ys,by rw[X3.mp ha];exact m5⟩;have I5p:=I5.pinned (fpok fr5) (T.obj _ _ st5);have I5h:=I5p.hide hA;have R5:Rep X.K ρ σ3 (del H5 [Dd]):=R3.grow (jf g5);have en5':Enc X.K (del (del H5 [Dd]) (owns ρ)) ds[i] x:=by rw[Zt];exact en5 _ hd
   refine thn (hG σ3 (del H5 [Dd]) x (λσ6 F6=>F6=del H5 [Dd]/\Rep X.K ρ2 σ6 F6) R5 en5' (λσ6 R6=>⟨rfl,R6⟩) _ s5 u I5h r5) λ_ s6 ⟨σ6,F6,I6,e6,R6⟩=>?_;subst e6;refine thn (hT.run I6 R6) λokv s7 ⟨e7,F7,I7,g7⟩=>?_;subst e7;have R7:Rep X.K ρ σ6 F7:=wk _ _ _ (R6.grow g7);have g27:j4 H2 F7:=g3.trans ((jf g5).trans g7);have en7:j6 X.K (del F7 (owns ρ)) (((ds.take i).filter p).map g) ys:=en3.mono (by
    have:del H3 (Dd::owns ρ)=del (del H3 [Dd]) (owns ρ):=by rw[Zt];rfl
    rw[this];exact jf ((jf g5).trans g7))
   have jU:∀{F:Hp}{s':aq},Inv (cCx X scope C s2 H2 fp (X.pn++pins)) ([]++Yc fp s5.heap) σ6 F s'->Inv (cCx X scope C s2 H2 fp (X.pn++pins)) [] σ6 F s'/\tn (i+1) s'.heap/\∀b∈fp,F b=ah:=λ{F s'} I=>by refine⟨I.unpinned,T.keep _ _ _ st5 λb hb o e=>(I.pin (b,o) (Xm _ (Xm _ (Za hb e)))).1,λb hb=>?_⟩;obtain⟨o,e,d⟩:=T.obj _ _ st5 b hb;exact(I.pin (b,o) (Xm _ (Xm _ (Za hb e)))).2.1
   have tk:ds.take (i+1)=ds.take i++[ds[i]]:=by rw[T5,hd];rfl
   cases hp:p ds[i] with
   |false =>
    rw[if_neg xj];obtain⟨hF,I8⟩:=I5p.unhide hA I7;obtain⟨I9,st9,fr9⟩:=jU I8;refine⟨ds.length-(i+1),by omega,i+1,σ6,_,ys,I9,st9,fr9,hlt,rfl,by rw[Z7 hF];exact R7,by rw[Z7 hF];exact g27,by rw[Jd (X3.mpr rfl)];exact m5,?_⟩;have:del (mrg [Dd] H5 F7) (Dd::owns ρ)=del F7 (owns ρ):=by
     have e:del (mrg [Dd] H5 F7) (Dd::owns ρ)=del (del (mrg [Dd] H5 F7) [Dd]) (owns ρ):=by rw[Zt];rfl
     rw[e,Z7 hF]
    rw[this,tk,iv];have e:[ds[i]].filter p=[]:=by simp[hp]
    rw[e,Xo];exact en7
   |true =>
    rw[if_pos rfl];refine thn (hE hp σ6 F7 (λv F8=>j4 F7 F8/\Enc X.K (del F8 (owns ρ2)) (g ds[i]) v) (R6.grow g7) (λv F8 g8 e8=>⟨g8,e8⟩) _ s7 I7) λy s8 ⟨v,F8,I8,r8,g8,e8⟩=>?_;obtain⟨hF,I8'⟩:=I5p.unhide hA I8;rw[eo]at e8;have eH:del (mrg [Dd] H5 F8) (Dd::owns ρ)=del F8 (owns ρ):=by
     have e:del (mrg [Dd] H5 F8) (Dd::owns ρ)=del (del (mrg [Dd] H5 F8) [Dd]) (owns ρ):=by rw[Zt];rfl
     rw[e,Z7 hF]
    have hlen:ys.length<au:=by have e1:=en7.length;have e2:((ds.take i).filter p).length<=(ds.take i).length:=gN _ _;rw[km]at e1;rw[Xj]at e2;omega
    refine thn (Yv _ s8 σ6 (mrg [Dd] H5 F8) (.ref Dd) [v] (.ref Dd) [y] (λ_ H9=>H9=upd (mrg [Dd] H5 F8) Dd (.lst (ys++[v]))) I8' rfl (.cons r8 .nil)
     ⟨Dd,ys,v,rfl,rfl,by rw[Jd (X3.mpr rfl)];exact m5,hlen,rfl⟩) λ_ s9 ⟨_,H9,I9,_,e9⟩=>?_
    subst e9;obtain⟨I10,st10,fr10⟩:=jU I9;have ed:del (upd (mrg [Dd] H5 F8) Dd (.lst (ys++[v]))) [Dd]=F8:=by rw[Vy (X3.mpr rfl),Z7 hF]
    refine⟨ds.length-(i+1),by omega,i+1,σ6,_,ys++[v],I10,st10,fr10,hlt,rfl,by rw[ed];exact R7.grow g8,by rw[ed];exact g27.trans g8,ju,?_⟩;rw[Vy (xm ..),eH,tk,iv,Ph];have e:[ds[i]].filter p=[ds[i]]:=by simp[hp]
    rw[e];exact(en7.mono (jf g8)).append (.one e8)
  .have hi:i=ds.length:=by omega
   subst hi;refine thn (T.done (cCx X scope C s2 H2 fp (X.pn++pins)) rfl rfl rfl hc ds.length [] s3 σ3 H3 (λ_ _=>False) I3 (fpok fr3) st3 (stop (X6 _))) λr s4 ⟨hr,I4⟩=>?_;subst hr;rw[Td]at en3;obtain⟨m,hm,_⟩:=I4.loc;refine hRR Dd C ys H3 s4 m ?_ (g3.trans jj) hD0 m3 en3 hm ⟨I4.free,Pg (Xy loclt hDlt),?_,λx c h=>X8 (Xy (celllt x c h) hDlt),λp hp=>X8 (Xy (pinlt p hp) hDlt)⟩
   .exact I2.call' (ch:=fp) I4.os I4.base I4.hok I4.bare λb hb=>⟨(f2 b hb).2.2.2.1,(f2 b hb).2.1,(f2 b hb).2.2.2.2.1,(f2 b hb).2.2.2.2.2⟩
   .have:=I2.sz;omega
 exact codeAny_compStart_list (loop _ rfl) (T.self _ 0 _ _ _ (T.keep _ _ _ st2 (λb _ o e=>old b o e)) (loop _ rfl))
end
section
variable{X:Cx}{ρ:Rho}{tg elt iter:ar}{ifs:List ar}{scope:bG}{pos p1 spos:aP}{ds:List D}{cs:List Nat}{p:D->Bool}{g:D->D}{x:ao}{P:Po}
theorem O8{env:d9}{N:List ao}(h:Q0 scope env N cs=af):∀y∈scope.names,y.2=.free->(env.cells.lookup y.1).isSome=af:=λy hy e=>by unfold Q0 at h;rw[Xb]at h;have:=Xq.mp h.1 y hy;simp only[Xb,bne_iff_ne,ne_eq,ph]at this;exact this.2.elim (λz=>absurd e z) λz=>z.1
theorem Ru{env:d9}{N:List ao}(h:Q0 scope env N cs=af):∀y∈scope.names,y.2=.local->scope.names.lookup y.1=aa .local:=λy hy e=>by unfold Q0 at h;rw[Xb]at h;have:=Xq.mp h.1 y hy;simp only[Xb,bne_iff_ne,ne_eq,ph,beq_iff_eq]at this;exact this.1.2.elim (λz=>absurd e z) λz=>z
theorem Inv.loose{pins:k7i}{σ:St}{H:Hp}{s:aq}{C:ak}{h':aH}(I:Inv X pins σ H s)(L:Loose X pins H C)(sb:bU C s.heap h'):Inv X pins σ H { s with heap:=h' } :=
 I.turned (t':=s.toks) (λb o hb e=>sb.extBut b o hb e) L.free L.loc (.inr L.new) L.cell L.pin
theorem DO.comp(cs:List Nat)(p:D->Bool)(g:D->D)(hi:DI X ρ tg iter ds)
  (hb:∀C s H fp pn,∀d∈ds,∃ρ2,DG (cCx X scope C s H fp pn) ρ tg d ρ2/\Wk ρ2 ρ/\owns ρ2=owns ρ/\DTs (cCx X scope C s H fp pn) ρ2 ifs (p d)/\(p d=af->DE (cCx X scope C s H fp pn) ρ2 elt (g d)))
  (hcs:∀j∈cs,ρ[j]?=aa .un) (hsz:ds.length<=au) (hc:X.calm=af:=by rfl) (hkind:scope.kind=.function:=by rfl) (hok:Q0 scope X.env X.N cs=af:=by rfl)
  (hs:∀x,aZ iter X.env x=pure x:=by intro _;rfl):DO X ρ (.ListComp elt [⟨tg,iter,ifs,0⟩] scope pos) ((ds.filter p).map g):=λσ H Q R q pins s I=>by
 rw[eval_ListComp];refine hR (use:=ah) rfl hs (Nb (O8 hok)) hkind (Ru hok) (thn (hi σ H (λJ H'=>j4 H H'/\U8 X.K (del H' (owns ρ)) J ds) R (λJ H' g1 ok=>⟨g1,ok⟩) pins s I) λv s1 h1=>thn h1 λitv s2 h2=>?_);obtain⟨it,fp,tn,J,H2,e,I2,T,st2,f2,g2,ok⟩:=h2;subst e;refine Ci (RR:=λacc C=>compPost (aA X.prog X.w) X.A X.xe ah (EP X pins σ Q) acc C) I2 (R.grow g2) T st2 f2 ok hc hkind hok hcs hsz hb ?_;intro D C xs H' s' m I' gg n m' en hm L;exact⟨m,hm,λh' sb=>⟨.ref D,H',I'.loose L sb,rfl,q D xs H' (g2.trans gg) (g2.free n) m' en⟩⟩
theorem Wk.set{i:Nat}{d:D}(h:ρ[i]?=aa .un):Wk (ρ.set i (.val d)) ρ:=λK σ H R=>by
 have q:=R.set_un (i:=i) (v:=(σ[i]?).join);have e:σ.set i ((σ[i]?).join)=σ:=by
  apply fc;intro j;rw[dB];split
  .rename_i h;subst h;split
   .rename_i h;rw[kh h];rfl
   .rename_i h;rw[Tn nofun]
  .rfl
 have e2:(ρ.set i (.val d)).set i .un=ρ:=by
  rw[List.set_set];apply fc;intro j;rw[dB];split
  .rename_i z;subst z;split
   .rw[h]
   .rename_i z;rw[Tn nofun]at h;cases h
  .rfl
 rw[e,e2]at q;exact q
theorem Mx{i:Nat}{d:D}(h:ρ[i]?=aa .un):owns (ρ.set i (.val d))=owns ρ:=Mz rfl λa l z=>by rw[h]at z;cases z
end
section
variable{prog:ay}{w:aD}{A:aG}{E:k7h}{s:aq}
theorem j32{j t:ak}{k:Nat}{its:Array aj}{y:aj}{Q:k7h}(hj:s.heap.IsTupleIter j t k)(ht:s.heap.IsTuple t its)(hy:its[k]?=aa y)
  (q:∀h',h'.IsTupleIter j t (k+1)->bU j s.heap h'->Q y { s with heap:=h' }):ax (aA prog w) A (aE (.ref j)) Q E s:=by
 obtain⟨o,ho,hc,hd⟩:=id hj;obtain⟨ot,hot,_,m,hdt⟩:=ht;unfold aE;refine ag (bc (name:=aW "__next__") hj.typeIs cy (bW cy hj.typeIs gi ?_ (g4 _)));show ax _ _ (fv (.ref j) 0 >>= _) _ _ s;refine ag (aR ho hd (x:=.ref t) rfl ?_);show ax _ _ (if (aI t==b7)=af then _ else _) _ _ s;rw[if_neg (show ¬((aI t==b7)=af)from xj)];show ax _ _ (fv (.ref j) 1 >>= _) _ _ s;refine ag (aR ho hd (x:=.int k 0) rfl ?_);show ax _ _ (seqItems? (.ref t) >>= _) _ _ s;refine ag (be hot hdt ?_);simp only[Xh,hy];refine ag (lB ho hd (by simp) (av ⟨y,rfl,av (q _ ?_ (fN ..))⟩));exact⟨_,Heap.get?_update_self _ ho (Obj.isFreed_of_fields (Obj.data_mapFields hd _)),(Obj.cls_mapFields ..).trans hc,by rw[Obj.data_mapFields hd];simp[eW]⟩
theorem j5h{j t:ak}{k:Nat}{its:Array aj}{Q:k7h}(hh:A.handled=ah)(hj:s.heap.IsTupleIter j t k)(ht:s.heap.IsTuple t its)(hy:its[k]?=ah)
  (q:∀h' x,dt j s.heap h'->(∃o,h'.get? x=aa o/\o.cls=.type "StopIteration")->E (.ref x) { s with heap:=h' }):ax (aA prog w) A (aE (.ref j)) Q E s:=by
 obtain⟨o,ho,hc,hd⟩:=id hj;obtain⟨ot,hot,_,m,hdt⟩:=ht;unfold aE;refine ag (bc (name:=aW "__next__") hj.typeIs cy (bW cy hj.typeIs gi ?_ (g4 _)));show ax _ _ (fv (.ref j) 0 >>= _) _ _ s;refine ag (aR ho hd (x:=.ref t) rfl ?_);show ax _ _ (if (aI t==b7)=af then _ else _) _ _ s;rw[if_neg (show ¬((aI t==b7)=af)from xj)];show ax _ _ (fv (.ref j) 1 >>= _) _ _ s;refine ag (aR ho hd (x:=.int k 0) rfl ?_);show ax _ _ (seqItems? (.ref t) >>= _) _ _ s;refine ag (be hot hdt ?_);simp only[Xh,hy];refine ag (gD (ag (lB ho hd (by simp) ?_)));show ax _ _ (newExc (.type "StopIteration") [] >>= _) _ _ _;refine ag ?_;simp only[newExc,newTuple];refine ag (bN ?_ (by size_fits));refine ag (m:=lF _ _) (wpAny_of_eq (a:=b7) (by first|rfl|(simp only[lF];rfl)) ?_);refine bN ?_ (by size_fits);simp only[raiseNew];refine ag (wpAny_handled ?_)
 first|rw[show A.in1.handled=ah from hh]|rw[hh]
 refine ag (av (wpAny_throw ?_));exact q _ _ (((fN ..).extBut.push _).push _) ⟨_,xu _ rfl,rfl⟩
end
def jh(lst:Bool)(h:aH)(j t:ak)(k:Nat):Prop:=if lst=af then h.IsListIter j t k else h.IsTupleIter j t k
def je(lst:Bool)(h:aH)(t:ak)(its:Array aj):Prop:=if lst=af then h.IsList t its else h.IsTuple t its
section
variable{prog:ay}{w:aD}{A:aG}{E:k7h}{s:aq}{lst:Bool}{h h':aH}{j t b:ak}{k:Nat}{its:Array aj}
theorem jh.ext(x:jh lst h j t k)(e:dt b h h')(n:j≠b):jh lst h' j t k:=by
 unfold jh at x ⊢;cases lst with
 |true=>rw[if_pos rfl]at x ⊢;exact x.extBut e n
 |false=>rw[if_neg xj]at x ⊢;exact x.extBut e n
theorem jh.stay(x:jh lst h j t k)(e:∀o,h.get? j=aa o->h'.get? j=aa o):jh lst h' j t k:=by
 unfold jh at x ⊢;cases lst with
 |true=>rw[if_pos rfl]at x ⊢;exact x.at e
 |false=>rw[if_neg xj]at x ⊢;exact x.at e
theorem jh.obj(x:jh lst h j t k):∃o,h.get? j=aa o/\∀v,o.data≠.cell v:=by
 unfold jh at x;cases lst with
 |true=>rw[if_pos rfl]at x;obtain⟨o,e,c,d⟩:=x;exact⟨o,e,λv z=>by rw[d]at z;cases z⟩
 |false=>rw[if_neg xj]at x;obtain⟨o,e,c,d⟩:=x;exact⟨o,e,λv z=>by rw[d]at z;cases z⟩
theorem je.ext(x:je lst h t its)(e:dt b h h')(n:t≠b):je lst h' t its:=by
 unfold je at x ⊢;cases lst with
 |true=>rw[if_pos rfl]at x ⊢;exact x.extBut e n
 |false=>rw[if_neg xj]at x ⊢;exact x.extBut e n
theorem Z3{y:aj}{Q:k7h}(hj:jh lst s.heap j t k)(ht:je lst s.heap t its)(hy:its[k]?=aa y)
  (q:∀h',jh lst h' j t (k+1)->bU j s.heap h'->Q y { s with heap:=h' }):ax (aA prog w) A (aE (.ref j)) Q E s:=by
 unfold jh at hj q;unfold je at ht;cases lst with
 |true=>rw[if_pos rfl]at hj ht;simp only[if_true]at q;exact wpAny_nextOf_list_item hj ht hy q
 |false=>rw[if_neg xj]at hj ht;simp only[Xr,if_false]at q;exact j32 hj ht hy q
theorem Y7{Q:k7h}(hh:A.handled=ah)(hj:jh lst s.heap j t k)(ht:je lst s.heap t its)(hy:its[k]?=ah)
  (q:∀h' x,dt j s.heap h'->(∃o,h'.get? x=aa o/\o.cls=.type "StopIteration")->E (.ref x) { s with heap:=h' }):ax (aA prog w) A (aE (.ref j)) Q E s:=by
 unfold jh at hj;unfold je at ht;cases lst with
 |true=>rw[if_pos rfl]at hj ht;exact wpAny_nextOf_list_end hh hj ht hy q
 |false=>rw[if_neg xj]at hj ht;exact j5h hh hj ht hy q
end
section
variable{prog:ay}{w:aD}{A:aG}{E:k7h}{s:aq}{l1 l2:Bool}{z TI TO i1 i2 t1 t2:ak}{k:Nat}{us vs:Array aj}{x y a b:aj}
theorem j3k{Q:k7h}(D:d7 z TI TO i1 i2 t1 t2)(hz:dQ s.heap z TI TO .none)(hTI:br s.heap TI (.ref i1) (.ref i2))(hTO:br s.heap TO a b)
  (h1:jh l1 s.heap i1 t1 k) (h2:jh l2 s.heap i2 t2 k) (q1:je l1 s.heap t1 us) (q2:je l2 s.heap t2 vs) (hx:us[k]?=aa x) (hy:vs[k]?=aa y)
  (q:∀h',dQ h' z TI TO (eW s.heap.objs.size)->br h' TO x y->jh l1 h' i1 t1 (k+1)->jh l2 h' i2 t2 (k+1)->br h' s.heap.objs.size x y->h'.objs.size=s.heap.objs.size+1 ->
   (∀c o,c≠z->c≠TO->c≠i1->c≠i2->s.heap.get? c=aa o->h'.get? c=aa o)->Q (.ref s.heap.objs.size) { s with heap:=h' }) :
  ax (aA prog w) A (bV.«zip.__next__» ⟨[.ref z],[]⟩) (λfin s'=>∃v,fin=.done (.ret v)/\Q v s') E s:=by
 show ax _ _ (fv (.ref z) 2 >>= _) _ _ _;refine ag (aR hz rfl (x:=.bool ae) rfl ?_);show ax _ _ (fv (.ref z) 3 >>= _) _ _ _;refine ag (aR hz rfl (x:=.ref TI) rfl (ag (be hTI rfl ?_)));show ax _ _ (aJ (.ref z) >>= _) _ _ _;refine ag ?_;unfold aJ;refine ag (aR hz rfl (x:=.none) rfl (av ?_));simp only[if_true];refine ag (gD (ag (aR hz rfl (x:=.ref TO) rfl (ag (bD hz (by simp) λg₁ z₁ s₁=>?_)))));have z₁:dQ g₁ z TI TO .ellipsis:=z₁;refine ag ?_;simp only[iN,iX,cU,eK];refine ag (ag (fq ?_));show ax _ _ (aE (.ref i1) >>= _) _ _ _;refine ag (Z3 (h1.ext s₁.extBut D.i1z) (q1.ext s₁.extBut D.l1z) hx λg₂ h1₂ s₂=>av ?_);have o₂:br g₂ TO a b:=s₂.extBut _ _ D.TOi1 (s₁.extBut _ _ D.TOz hTO);refine ag (be o₂ rfl (ag (eU o₂ λg₃ o₃ s₃=>?_)));have o₃:br g₃ TO x b:=o₃;refine ag (iQ (av (ag (ag (fq ?_)))));show ax _ _ (aE (.ref i2) >>= _) _ _ _;refine ag (Z3 (((h2.ext s₁.extBut D.i2z).ext s₂.extBut D.i12.symm).ext s₃.extBut D.TOi2.symm) (((q2.ext s₁.extBut D.l2z).ext s₂.extBut D.l2i1).ext s₃.extBut D.l2TO) hy λg₄ h2₄ s₄=>av ?_);have o₄:br g₄ TO x b:=s₄.extBut _ _ D.TOi2 o₃;refine ag (be o₄ rfl (ag (eU o₄ λg₅ o₅ s₅=>?_)));have o₅:br g₅ TO x y:=o₅;refine ag (iQ (av (av (ag (be o₅ rfl (ag (lC ?_)))))));have sz:g₅.objs.size=s.heap.objs.size:=by rw[s₅.1,s₄.1,s₃.1,s₂.1,s₁.1]
 have z₅:dQ g₅ z TI TO .ellipsis:=s₅.extBut _ _ D.TOz.symm (s₄.extBut _ _ D.i2z.symm (s₃.extBut _ _ D.TOz.symm (s₂.extBut _ _ D.i1z.symm z₁)));have kp:∀c o,c≠z->c≠TO->c≠i1->c≠i2->s.heap.get? c=aa o->g₅.get? c=aa o:=λc o n1 n2 n3 n4 e=>s₅.extBut _ _ n2 (s₄.extBut _ _ n4 (s₃.extBut _ _ n2 (s₂.extBut _ _ n3 (s₁.extBut _ _ n1 e))));have h1₅:jh l1 g₅ i1 t1 (k+1):=((h1₂.ext s₃.extBut D.TOi1.symm).ext s₄.extBut D.i12).ext s₅.extBut D.TOi1.symm;have h2₅:jh l2 g₅ i2 t2 (k+1):=h2₄.ext s₅.extBut D.TOi2.symm;have zlt:z<g₅.objs.size:=xq z₅;show ax _ _ (d8 (.ref z) (.ref g₅.objs.size) >>= _) _ _ _;refine ag ?_;unfold d8;have z₆:dQ (g₅.push { cls:=.type "tuple",data:=.seq #[x,y] }) z TI TO .ellipsis:=kj _ z₅;refine ag (bD z₆ (by simp) λg₇ z₇ s₇=>?_);have z₇:dQ g₇ z TI TO (eW g₅.objs.size):=z₇;refine bD z₇ (by simp) λg₈ z₈ s₈=>?_;have z₈:dQ g₈ z TI TO (eW g₅.objs.size):=z₈;have up:∀c o,c≠z->g₅.get? c=aa o->g₈.get? c=aa o:=λc o n e=>s₈.extBut _ _ n (s₇.extBut _ _ n (kj _ e));have p₈:br g₈ g₅.objs.size x y:=s₈.extBut _ _ (Pg zlt) (s₇.extBut _ _ (Pg zlt) (xu _ rfl));have e₈:g₈.objs.size=g₅.objs.size+1:=by rw[s₈.1,s₇.1,Xi]
 rw[sz]at z₈ p₈ e₈;refine av ⟨_,rfl,?_⟩;show Q (.ref g₅.objs.size) _;rw[sz];exact q g₈ z₈ (up _ _ D.TOz o₅) (h1₅.stay λo e=>up _ o D.i1z e) (h2₅.stay λo e=>up _ o D.i2z e) p₈ e₈ λc o n1 n2 n3 n4 e=>up c o n1 (kp c o n1 n2 n3 n4 e)
theorem j6k{Q:iF->aq->Prop}(hh:A.handled=ah)(D:d7 z TI TO i1 i2 t1 t2)(hz:dQ s.heap z TI TO .none)(hTI:br s.heap TI (.ref i1) (.ref i2))(hTO:br s.heap TO a b)
  (h1:jh l1 s.heap i1 t1 k) (h2:jh l2 s.heap i2 t2 k) (q1:je l1 s.heap t1 us) (q2:je l2 s.heap t2 vs) (hend:us[k]?=ah\/vs[k]?=ah)
  (q:∀h' e,(∀c o,c≠z->c≠TO->c≠i1->c≠i2->s.heap.get? c=aa o->h'.get? c=aa o)->(∃o,h'.get? e=aa o/\o.cls=.type "StopIteration")->E (.ref e) { s with heap:=h' }) :
  ax (aA prog w) A (bV.«zip.__next__» ⟨[.ref z],[]⟩) Q E s:=by
 show ax _ _ (fv (.ref z) 2 >>= _) _ _ _;refine ag (aR hz rfl (x:=.bool ae) rfl ?_);show ax _ _ (fv (.ref z) 3 >>= _) _ _ _;refine ag (aR hz rfl (x:=.ref TI) rfl (ag (be hTI rfl ?_)));show ax _ _ (aJ (.ref z) >>= _) _ _ _;refine ag ?_;unfold aJ;refine ag (aR hz rfl (x:=.none) rfl (av ?_));simp only[if_true];refine ag (gD (ag (aR hz rfl (x:=.ref TO) rfl (ag (bD hz (by simp) λg₁ z₁ s₁=>?_)))));have z₁:dQ g₁ z TI TO .ellipsis:=z₁;refine ag ?_;simp only[iN,iX,cU,eK];refine ag (ag (fq ?_));show ax _ _ (aE (.ref i1) >>= _) _ _ _;cases hx:us[k]? with
 |none =>
  refine ag (Y7 hh (h1.ext s₁.extBut D.i1z) (q1.ext s₁.extBut D.l1z) hx λg₂ e s₂ he=>?_);obtain⟨oe,hoe,hce⟩:=he;have z₂:dQ g₂ z TI TO .ellipsis:=s₂ _ _ D.i1z.symm z₁;have ez:e≠z:=λx=>by subst x;rw[z₂]at hoe;cases hoe;simp at hce
  exact bD z₂ (by simp) λg₃ _ s₃=>q g₃ e (λc o n1 _ n3 _ x=>s₃.extBut _ _ n1 (s₂ _ _ n3 (s₁.extBut _ _ n1 x))) ⟨oe,s₃.extBut _ _ ez hoe,hce⟩
 |some x =>
  have hy:vs[k]?=ah:=by rcases hend with h|h;rw[hx]at h;cases h;exact h
  refine ag (Z3 (h1.ext s₁.extBut D.i1z) (q1.ext s₁.extBut D.l1z) hx λg₂ h1₂ s₂=>av ?_);have o₂:br g₂ TO a b:=s₂.extBut _ _ D.TOi1 (s₁.extBut _ _ D.TOz hTO);refine ag (be o₂ rfl (ag (eU o₂ λg₃ o₃ s₃=>?_)));refine ag (iQ (av (ag (ag (fq ?_)))));show ax _ _ (aE (.ref i2) >>= _) _ _ _;refine ag (Y7 hh (((h2.ext s₁.extBut D.i2z).ext s₂.extBut D.i12.symm).ext s₃.extBut D.TOi2.symm) (((q2.ext s₁.extBut D.l2z).ext s₂.extBut D.l2i1).ext s₃.extBut D.l2TO) hy λg₄ e s₄ he=>?_);obtain⟨oe,hoe,hce⟩:=he;have z₄:dQ g₄ z TI TO .ellipsis:=s₄ _ _ D.i2z.symm (s₃.extBut _ _ D.TOz.symm (s₂.extBut _ _ D.i1z.symm z₁));have ez:e≠z:=λx=>by subst x;rw[z₄]at hoe;cases hoe;simp at hce
  exact bD z₄ (by simp) λg₅ _ s₅=>q g₅ e (λc o n1 n2 n3 n4 x=>s₅.extBut _ _ n1 (s₄ _ _ n4 (s₃.extBut _ _ n2 (s₂.extBut _ _ n3 (s₁.extBut _ _ n1 x))))) ⟨oe,s₅.extBut _ _ ez hoe,hce⟩
theorem Ri{Q:Option aj->aq->Prop}(D:d7 z TI TO i1 i2 t1 t2)(hz:dQ s.heap z TI TO .none)(hTI:br s.heap TI (.ref i1) (.ref i2))(hTO:br s.heap TO a b)
  (h1:jh l1 s.heap i1 t1 k) (h2:jh l2 s.heap i2 t2 k) (q1:je l1 s.heap t1 us) (q2:je l2 s.heap t2 vs) (hx:us[k]?=aa x) (hy:vs[k]?=aa y)
  (q:∀h',dQ h' z TI TO (eW s.heap.objs.size)->br h' TO x y->jh l1 h' i1 t1 (k+1)->jh l2 h' i2 t2 (k+1)->br h' s.heap.objs.size x y->h'.objs.size=s.heap.objs.size+1 ->
   (∀c o,c≠z->c≠TO->c≠i1->c≠i2->s.heap.get? c=aa o->h'.get? c=aa o)->Q (aa (.ref s.heap.objs.size)) { s with heap:=h' }):ax (aA prog w) A (dj (.ref z)) Q E s:=by
 have T:s.TypeIs (.ref z) "zip":=⟨_,hz,rfl⟩
 unfold dj;exact ag (ft (bc (name:=aW "__next__") T tu (bW tu T dU
  (j3k D hz hTI hTO h1 h2 q1 q2 hx hy λh' a1 a2 a3 a4 a5 a6 a7=>av (q h' a1 a2 a3 a4 a5 a6 a7)) (dH _))))
theorem O1{Q:Option aj->aq->Prop}(hh:A.handled=ah)(D:d7 z TI TO i1 i2 t1 t2)(hz:dQ s.heap z TI TO .none)(hTI:br s.heap TI (.ref i1) (.ref i2))(hTO:br s.heap TO a b)
  (h1:jh l1 s.heap i1 t1 k) (h2:jh l2 s.heap i2 t2 k) (q1:je l1 s.heap t1 us) (q2:je l2 s.heap t2 vs) (hend:us[k]?=ah\/vs[k]?=ah)
  (q:∀h',(∀c o,c≠z->c≠TO->c≠i1->c≠i2->s.heap.get? c=aa o->h'.get? c=aa o)->Q ah { s with heap:=h' }):ax (aA prog w) A (dj (.ref z)) Q E s:=by
 have T:s.TypeIs (.ref z) "zip":=⟨_,hz,rfl⟩
 unfold dj;refine ag (ft (bc (name:=aW "__next__") T tu (bW tu T dU
  (j6k hh D hz hTI hTO h1 h2 q1 q2 hend λh' e kp he=>?_) (dH _))))
 obtain⟨o,ho,hc⟩:=he;exact ag (kn (T:="StopIteration") (b:=af) ⟨o,ho,hc⟩ lE (av (q _ kp)))
end
noncomputable def Uv(lst:Bool):String:=if lst=af then "list_iterator" else "tuple_iterator"
noncomputable abbrev zh1(h:aH)(l1:Bool)(t1:ak):aH:=h.push { cls:=.type (Uv l1),data:=.fields #[.ref t1,.int 0 0] }
noncomputable abbrev zh2(h:aH)(l1 l2:Bool)(t1 t2:ak):aH:=(zh1 h l1 t1).push { cls:=.type (Uv l2),data:=.fields #[.ref t2,.int 0 0] }
noncomputable abbrev zh3(h:aH)(l1 l2:Bool)(t1 t2:ak):aH:=(zh2 h l1 l2 t1 t2).push { cls:=.type "tuple",data:=.seq #[.ref h.objs.size,.ref (zh1 h l1 t1).objs.size] }
noncomputable abbrev zh4(h:aH)(l1 l2:Bool)(t1 t2:ak):aH:=(zh3 h l1 l2 t1 t2).push { cls:=.type "tuple",data:=.seq #[.none,.none] }
noncomputable abbrev zh5(h:aH)(l1 l2:Bool)(t1 t2:ak):aH:=(zh4 h l1 l2 t1 t2).push { cls:=.type "zip",data:=.fields #[.none,.bool ae,.bool ae,.ref (zh2 h l1 l2 t1 t2).objs.size,.ref (zh3 h l1 l2 t1 t2).objs.size] }
section
variable{prog:ay}{w:aD}{A:aG}{E:k7h}{s:aq}{l1 l2:Bool}{t1 t2:ak}{us vs:Array aj}
theorem V9{lst:Bool}{t:ak}{its:Array aj}{Q:k7h}(h:je lst s.heap t its)(q:Q (.ref s.heap.objs.size) { s with heap:=zh1 s.heap lst t }):ax (aA prog w) A (iC (.ref t)) Q E s:=by
 unfold je at h;cases lst with
 |true=>rw[if_pos rfl]at h;exact bM h q
 |false=>rw[if_neg xj]at h;exact fE h q
theorem je.push{lst:Bool}{h:aH}{t:ak}{its:Array aj}(x:je lst h t its)(o:dm):je lst (h.push o) t its:=by
 unfold je at x ⊢;cases lst with
 |true=>rw[if_pos rfl]at x ⊢;exact x.push o
 |false=>rw[if_neg xj]at x ⊢;exact x.push o
theorem j0j (t1 t2:ak) (us vs:Array aj):jV (bV.«zip.__new__» ⟨[.type "zip",.ref t1,.ref t2],[]⟩) (λ_ R s=>je l1 s.heap t1 us/\je l2 s.heap t2 vs /\
   R (.ok (.ret (.ref (zh4 s.heap l1 l2 t1 t2).objs.size))) { s with heap:=zh5 s.heap l1 l2 t1 t2 }) :=
 .of_wp λprog w A R s h=>by
  obtain⟨hp,g,d,tk,os⟩:=s;obtain⟨h1,h2,h⟩:=h;have hsub:=sub_zip;have e1:je l1 (Shared.heap ⟨hp,g,d,tk,os⟩) t1 us:=h1;have e2:je l2 (Shared.heap ⟨zh1 hp l1 t1,g,d,tk,os⟩) t2 vs:=h2.push _
  wp_walk using V9 e1,V9 e2
  exact⟨_,rfl,h⟩
end
def SqB(K:k7g)(lst:Bool)(H:Hp)(a:ak)(xs:List V):Prop:=if lst=af then SqL K H a xs else SqT K H a xs
section
variable{X:Cx}{pins:k7i}{σ:St}{H:Hp}{s:aq}{a p:ak}{xs ys:List V}{lst:Bool}{ch:List ak}{h':aH}
theorem j4.seqB{K:k7g}{H':Hp}(e:j4 H H')(h:SqB K lst H a xs):SqB K lst H' a xs:=by
 unfold SqB at h ⊢;cases lst with
 |true=>rw[if_pos rfl]at h ⊢;exact e.seq h
 |false=>rw[if_neg xj]at h ⊢;exact e.seqT h
theorem Inv.side(I:Inv X pins σ H s)(h:SqB X.K lst H a xs):∃us:List aj,Vals xs us/\je lst s.heap a us.toArray/\xs.length<=au:=by
 unfold SqB at h;unfold je;cases lst with
 |true=>rw[if_pos rfl]at h;obtain⟨its,r,q,l⟩:=I.list h;exact⟨its,r,by rw[if_pos rfl];exact q.isList,l⟩
 |false=>rw[if_neg xj]at h;obtain⟨its,r,q,l⟩:=I.tuple h;exact⟨its,r,by rw[if_neg xj];exact q,l⟩
theorem Inv.side_inj(I:Inv X pins σ H s)(h:SqB X.K lst H a xs)(h':SqB X.K lst H a ys):xs=ys:=by
 unfold SqB at h h';cases lst with
 |true=>rw[if_pos rfl]at h h';exact I.list_inj h h'
 |false=>rw[if_neg xj]at h h';exact I.tuple_inj h h'
theorem Inv.chg(I:Inv X pins σ H s)(hf:∀b∈ch,Qp X pins H b)(kp:∀c o,c∉ch->s.heap.get? c=aa o->h'.get? c=aa o):Inv X pins σ H { s with heap:=h' }:=by
 refine I.step (g':=s.gens) (t':=s.toks) (d':=s.drawn) (ch:=ch) (λb hb=>⟨(hf b hb).2.2.2.1,(hf b hb).2.1,(hf b hb).2.2.2.2.1,(hf b hb).2.2.2.2.2⟩) (λb o _ _ nc e _=>kp b o nc e) (λb o _ _ nc e _=>⟨o.slots,kp b o nc e⟩)
  (λb o _ _ n=>n) (λb o nc e=>⟨o,kp b o nc e⟩) (λb xs e=>e) (λb o u e=>e) (λb ps e=>⟨#[],by rw[e];simp⟩) (λm hm=>hm.at' λo e=>kp _ o (λz=>(hf _ z).2.1 rfl) e) (λc o e=>?_) I.bare
 have out:∀{b:ak}{u:HO},H b=aa u->b∉ch:=λ{b u} q z=>by rw[(hf b z).1]at q;cases q
 refine jw.stay (I.hok c o e) (λb u hb q=>kp b u ?_ q) (λb q=>q) (λb xs q=>q) (λb _ _ q=>q);rcases hb with hb|hb
 .subst hb;exact out e
 .exact out hb
theorem Inv.chgT(I:Inv X pins σ H s)(hf:∀b∈ch,Qp X pins H b)(kp:∀c o,c∉ch->s.heap.get? c=aa o->h'.get? c=aa o){us:List aj}(rv:Vals xs us)(hl:xs.length<=au)
  (hp:ij h' s.heap.objs.size us.toArray) (hq:Zj h' s.heap.objs.size):Inv X pins σ (upd H s.heap.objs.size (.tup xs)) { s with heap:=h' }:=by
 have hn:=I.fresh;have nz:∀{b:ak}{o:dm},s.heap.get? b=aa o->b≠s.heap.objs.size:=λ{b o} e=>X8 (xq e);have tr:∀{b:ak}{u:HO},H b=aa u->upd H s.heap.objs.size (.tup xs) b=aa u:=λ{b u} e=>by rw[ji (z8 e hn)];exact e
 refine I.step (g':=s.gens) (t':=s.toks) (d':=s.drawn) (ch:=ch) (λb hb=>⟨(hf b hb).2.2.2.1,(hf b hb).2.1,(hf b hb).2.2.2.2.1,(hf b hb).2.2.2.2.2⟩) (λb o _ _ nc e _=>kp b o nc e) (λb o _ _ nc e _=>⟨o.slots,kp b o nc e⟩)
  (λb o _ e n=>by rw[ji (nz e)];exact n) (λb o nc e=>⟨o,kp b o nc e⟩) (λb xs e=>tr e) (λb o u e=>tr e) (λb ps e=>⟨#[],by rw[tr e];simp⟩) (λm hm=>hm.at' λo e=>kp _ o (λz=>(hf _ z).2.1 rfl) e) (λc o e=>?_) I.bare
 have out:∀{b:ak}{u:HO},H b=aa u->b∉ch:=λ{b u} q z=>by rw[(hf b z).1]at q;cases q
 by_cases z:c=s.heap.objs.size
 .subst z;rw[ju]at e;cases e;exact⟨hl,us,rv,hp,hq⟩
 .rw[ji z]at e;refine jw.stay (I.hok c o e) (λb u hb q=>kp b u ?_ q) (λb q=>tr q) (λb xs q=>tr q) (λb _ _ q=>tr q);rcases hb with hb|hb
  .subst hb;exact out e
  .exact out hb
end
noncomputable def Itz(K:k7g)(l1 l2:Bool)(t1 t2:ak):It :=
 ⟨λi H=>∃xs ys x y,SqB K l1 H t1 xs/\SqB K l2 H t2 ys/\xs[i]?=aa x/\ys[i]?=aa y,
 λi H v H'=>∃p x y,v=.ref p/\H p=ah/\H'=upd H p (.tup [x,y])/\(∀xs,SqB K l1 H t1 xs->xs[i]?=aa x)/\∀ys,SqB K l2 H t2 ys->ys[i]?=aa y,
 λi H=>∃xs ys,SqB K l1 H t1 xs/\SqB K l2 H t2 ys/\(xs.length<=i\/ys.length<=i)⟩
theorem j6r{P:ay}{w:aD}{K:k7g}{es:List ar}{n:Nat}{pos:aP}{l1 l2:Bool}{z TI TO i1 i2 t1 t2:ak}(D:d7 z TI TO i1 i2 t1 t2) :
  Turn P w K (.Tuple es n pos) (Itz K l1 l2 t1 t2) [z,TI,TO,i1,i2] z (λi h=>dQ h z TI TO .none/\br h TI (.ref i1) (.ref i2)/\(∃a b,br h TO a b)/\jh l1 h i1 t1 i/\jh l2 h i2 t2 i) where
 mem:=by simp
 obj:=λi h ⟨hz,hTI,⟨a,b,hTO⟩,h1,h2⟩ c hc=>by
  simp at hc;rcases hc with rfl|rfl|rfl|rfl|rfl
  .exact⟨_,hz,λv e=>by cases e⟩
  .exact⟨_,hTI,λv e=>by cases e⟩
  .exact⟨_,hTO,λv e=>by cases e⟩
  .exact h1.obj
  .exact h2.obj
 keep:=λi h h' ⟨hz,hTI,⟨a,b,hTO⟩,h1,h2⟩ k=>⟨k z (by simp) _ hz,k TI (by simp) _ hTI,⟨a,b,k TO (by simp) _ hTO⟩,h1.stay λo e=>k i1 (by simp) o e,h2.stay λo e=>k i2 (by simp) o e⟩
 item:=by
  rintro X hP hw hK hc i pins s σ H E I hf ⟨hz,hTI,⟨a,b,hTO⟩,h1,h2⟩ ⟨xs,ys,x,y,sx,sy,hx,hy⟩;subst hP hw hK;obtain⟨us,ru,qu,_⟩:=I.side sx;obtain⟨vs,rv,qv,_⟩:=I.side sy;obtain⟨u,hu,rx⟩:=ru.get hx;obtain⟨v,hv,ry⟩:=rv.get hy;refine Ri D hz hTI hTO h1 h2 qu qv (by simpa using hu) (by simpa using hv) λh' z' o' j1 j2 p' sz kp=>⟨_,rfl,?_⟩
  refine wpAny_letOwnedTupleGo_zip (s:={ s with heap:=h' }) z' λh'' z'' sb=>?_;have zlt:z<s.heap.objs.size:=xq hz;have kp':∀c o,c∉[z,TO,i1,i2]->s.heap.get? c=aa o->h''.get? c=aa o:=λc o nc e=>by simp at nc;exact sb.extBut _ _ nc.1 (kp c o nc.1 nc.2.1 nc.2.2.1 nc.2.2.2 e)
  have hf':∀c∈[z,TO,i1,i2],Qp X pins H c:=λc hc=>hf c (by simp at hc ⊢;rcases hc with h|h|h|h<;>simp[h]);have pt:ij h'' s.heap.objs.size [u,v].toArray:=⟨_,sb.extBut _ _ (Pg zlt) p',rfl,_,rfl⟩
  refine⟨.ref s.heap.objs.size,_,I.chgT hf' kp' (xs:=[x,y]) (.cons rx (.cons ry .nil)) (by show 2<=au;decide) pt (Zj.of (sb.extBut _ _ (Pg zlt) p')),rfl,⟨_,x,y,rfl,I.fresh,rfl,λws hw=>by rw[I.side_inj hw sx];exact hx,λws hw=>by rw[I.side_inj hw sy];exact hy⟩,?_,λc hc=>?_⟩
  .refine⟨z'',?_,⟨u,v,sb.extBut _ _ D.TOz o'⟩,j1.ext sb.extBut D.i1z,j2.ext sb.extBut D.i2z⟩;exact sb.extBut _ _ D.TIz (kp TI _ D.TIz D.TITO D.TIi1 D.TIi2 hTI)
  .obtain⟨o,e,_⟩:∃o,s.heap.get? c=aa o/\True:=by
    simp at hc;rcases hc with rfl|rfl|rfl|rfl|rfl
    .exact⟨_,hz,trivial⟩
    .exact⟨_,hTI,trivial⟩
    .exact⟨_,hTO,trivial⟩
    .obtain⟨o,e,_⟩:=h1.obj;exact⟨o,e,trivial⟩
    .obtain⟨o,e,_⟩:=h2.obj;exact⟨o,e,trivial⟩
   rw[ji (X8 (xq e))];exact(hf c hc).1
 done:=by
  rintro X hP hw hK hc i pins s σ H E I hf ⟨hz,hTI,⟨a,b,hTO⟩,h1,h2⟩ ⟨xs,ys,sx,sy,hend⟩;subst hP hw hK;obtain⟨us,ru,qu,_⟩:=I.side sx;obtain⟨vs,rv,qv,_⟩:=I.side sy;have e1:=ru.length;have e2:=rv.length;have hf':∀c∈[z,TO,i1,i2],Qp X pins H c:=λc hc=>hf c (by simp at hc ⊢;rcases hc with h|h|h|h<;>simp[h]);refine O1 (I.ok.hd hc) D hz hTI hTO h1 h2 qu qv ?_ λh' kp=>⟨rfl,I.chg hf' λc o nc e=>?_⟩
  .rcases hend with h|h
   .left;simp;omega
   .right;simp;omega
  .simp at nc;exact kp c o nc.1 nc.2.1 nc.2.2.1 nc.2.2.2 e
 self:=λ_ _ _ _ _ st h=>g6 st.1 h
section
variable{X:Cx}{ρ:Rho}{a b:ar}{es:List ar}{n:Nat}{pos p q1 q2:aP}{ds ds':List D}{l1 l2:Bool}
noncomputable def D.seq(lst:Bool)(ds:List D):D:=if lst=af then .lst ds else .tup ds
theorem Jr{K:k7g}{H:Hp}{lst:Bool}{v:V}(h:Enc K H (D.seq lst ds) v):∃t xs,v=.ref t/\SqB K lst H t xs/\j6 K H ds xs:=by
 unfold D.seq at h;unfold SqB;cases lst with
 |true=>rw[if_pos rfl]at h;obtain⟨t,xs,e,s,l⟩:=h;exact⟨t,xs,e,by rw[if_pos rfl];exact s,l⟩
 |false=>rw[if_neg xj]at h;obtain⟨t,xs,e,s,l⟩:=h;exact⟨t,xs,e,by rw[if_neg xj];exact s,l⟩
noncomputable def Ut(ds ds':List D):List D:=(ds.zip ds').map λp=>D.tup [p.1,p.2]
theorem j8g{K:k7g}{F:Hp}{t1 t2:ak}{xs ys:List V}(s1:SqB K l1 F t1 xs)(s2:SqB K l2 F t2 ys)(e1:j6 K F ds xs)(e2:j6 K F ds' ys):U8 K F (Itz K l1 l2 t1 t2) (Ut ds ds'):=λi H A g hA=>by
 have s1':SqB K l1 H t1 xs:=jj.seqB (g.seqB s1);have s2':SqB K l2 H t2 ys:=jj.seqB (g.seqB s2);have hl:(Ut ds ds').length=min ds.length ds'.length:=by unfold Ut;rw[km,fK]
 refine⟨λh=>?_,λh=>⟨xs,ys,s1',s2',?_⟩,λv H' ⟨p,x,y,ev,np,eH,hx,hy⟩=>?_⟩
 .rw[hl]at h;obtain⟨x,hx,_⟩:=e1.get (kh (show i<ds.length by omega));obtain⟨y,hy,_⟩:=e2.get (kh (show i<ds'.length by omega));exact⟨xs,ys,x,y,s1',s2',hx,hy⟩
 .rw[hl]at h;rw[e1.length,e2.length];omega
 .subst eH;refine⟨j8 np,λd hd=>?_⟩;unfold Ut at hd;rw[Xa]at hd;cases z:(ds.zip ds')[i]? with
  |none=>rw[z]at hd;cases hd
  |some pr =>rw[z]at hd;cases hd;obtain⟨h1,h2⟩:=List.getElem?_zip_eq_some.mp z;obtain⟨x',hx',ex⟩:=e1.get h1;obtain⟨y',hy',ey⟩:=e2.get h2;have q1:=hx xs s1';have q2:=hy ys s2';rw[hx']at q1;cases q1;rw[hy']at q2;cases q2;have pA:p∉A:=λz=>hA p z np;have gg:j4 F (del (upd H p (.tup [x,y])) A):=g.trans (jf (j8 np));exact⟨p,[x,y],ev,.inl (.inl (by rw[j5 pA];exact ju)),x,[y],rfl,ex.mono gg,y,[],rfl,ey.mono gg,rfl⟩
theorem DI.zip (l1 l2:Bool) (ha:DE X ρ a (D.seq l1 ds)) (hb:DE X ρ b (D.seq l2 ds')) (hm:X.mg "zip" = ah) (hg:Gl X "zip":=by rfl) (hs:ai [a,b] X.env=(ae,aB a X.env)::ai [b] X.env:=by rfl)
  (hs2:ai [b] X.env=(ae,aB b X.env)::ai [] X.env:=by rfl) (hpl:(aT pos (ai [b] X.env)).any (·.1)=ae:=by rfl):DI X ρ (.Tuple es n q1) (.Call (.Name "zip" p) [a,b] [] pos) (Ut ds ds'):=λσ H R r q pins s I=>by
 have args:Uz X [a,b] σ H (λvs H'=>∃v u,vs=[v,u]/\j4 H H'/\Enc X.K (del H' (owns ρ)) (D.seq l1 ds) v/\Enc X.K (del H' (owns ρ)) (D.seq l2 ds') u) :=
  (jc peS (jc peS jx hs2) hs).to (ha σ H _ r λv H1 g1 e1=>hb σ H1 _ (r.grow g1) λu H2 g2 e2=>⟨v,u,rfl,g1.trans g2,e1.mono (jf g2),e2⟩)
 refine ik (J7 I hg hm lJ (callWith_type1 (thn (args pos pins s I) λus s1 h1=>?_) hs hpl));obtain⟨vs,H1,I1,r1,v,u,ev,g1,e1,e2⟩:=h1;subst ev;obtain⟨t1,xs,et1,sq1,en1⟩:=Jr e1;obtain⟨t2,ys,et2,sq2,en2⟩:=Jr e2;subst et1 et2;obtain⟨u1,u2,eu,ru1,ru2⟩:=r1.two;subst eu;cases ru1;cases ru2;obtain⟨w1,rw1,qw1,_⟩:=I1.side (jj.seqB sq1);obtain⟨w2,rw2,qw2,_⟩:=I1.side (jj.seqB sq2);refine iE lz (by decide) (jA _ _) (jN _ _) (λobj=>iy obj _ _) jP (j0j (l1:=l1) (l2:=l2) t1 t2 w1.toArray w2.toArray) ⟨qw1,qw2,?_⟩;have z1:(zh1 s1.heap l1 t1).objs.size=s1.heap.objs.size+1:=Xi ..;have z2:(zh2 s1.heap l1 l2 t1 t2).objs.size=s1.heap.objs.size+2:=by rw[Xi,z1]
 have z3:(zh3 s1.heap l1 l2 t1 t2).objs.size=s1.heap.objs.size+3:=by rw[Xi,z2]
 have z4:(zh4 s1.heap l1 l2 t1 t2).objs.size=s1.heap.objs.size+4:=by rw[Xi,z3]
 have z5:(zh5 s1.heap l1 l2 t1 t2).objs.size=s1.heap.objs.size+5:=by rw[Xi,z4]
 have b5:(zh5 s1.heap l1 l2 t1 t2).get? (zh4 s1.heap l1 l2 t1 t2).objs.size=aa _:=xu _ rfl;have b4:(zh5 s1.heap l1 l2 t1 t2).get? (zh3 s1.heap l1 l2 t1 t2).objs.size=aa _:=kj _ (xu _ rfl);have b3:(zh5 s1.heap l1 l2 t1 t2).get? (zh2 s1.heap l1 l2 t1 t2).objs.size=aa _:=kj _ (kj _ (xu _ rfl));have b2:(zh5 s1.heap l1 l2 t1 t2).get? (zh1 s1.heap l1 t1).objs.size=aa _:=kj _ (kj _ (kj _ (xu _ rfl)));have b1:(zh5 s1.heap l1 l2 t1 t2).get? s1.heap.objs.size=aa _:=kj _ (kj _ (kj _ (kj _ (xu _ rfl))));have kp:∀c o,s1.heap.get? c=aa o->(zh5 s1.heap l1 l2 t1 t2).get? c=aa o:=λc o e=>kj _ (kj _ (kj _ (kj _ (kj _ e))));show _/\_;rw[z2,z3,z4]at b5;rw[z1,z2]at b3;rw[z3]at b4;rw[z1]at b2;rw[z4];have I2:Inv X pins σ H1 { s1 with heap:=zh5 s1.heap l1 l2 t1 t2 }:=I1.kept (t':=s1.toks) kp;have lt1:t1<s1.heap.objs.size:=by
  unfold je at qw1;cases l1 with
  |true=>rw[if_pos rfl]at qw1;obtain⟨_,e,_⟩:=qw1;exact xq e
  |false=>rw[if_neg xj]at qw1;obtain⟨_,e,_⟩:=qw1;exact xq e
 have lt2:t2<s1.heap.objs.size:=by
  unfold je at qw2;cases l2 with
  |true=>rw[if_pos rfl]at qw2;obtain⟨_,e,_⟩:=qw2;exact xq e
  |false=>rw[if_neg xj]at qw2;obtain⟨_,e,_⟩:=qw2;exact xq e
 have side:∀{l:Bool}{j t:ak},(zh5 s1.heap l1 l2 t1 t2).get? j=aa { cls:=.type (Uv l),data:=.fields #[.ref t,.int 0 0] }->jh l (zh5 s1.heap l1 l2 t1 t2) j t 0:=λ{l j t} e=>by
  unfold jh;cases l with
  |true=>rw[if_pos rfl];exact⟨_,e,rfl,rfl⟩
  |false=>rw[if_neg xj];exact⟨_,e,rfl,rfl⟩
 refine⟨⟨_,b5,rfl⟩,g6 (s:={ s1 with heap:=zh5 s1.heap l1 l2 t1 t2 }) b5 ?_⟩;refine⟨_,_,_,Itz X.K l1 l2 t1 t2,H1,rfl,I2,j6r (zipApart_new lt1 lt2),⟨b5,b3,⟨_,_,b4⟩,side b1,side b2⟩,λc hc=>?_,q _ H1 g1 (j8g sq1 sq2 en1 en2)⟩;have hc':c=s1.heap.objs.size+4\/c=s1.heap.objs.size+2\/c=s1.heap.objs.size+3\/c=s1.heap.objs.size\/c=s1.heap.objs.size+1:=by simpa using hc
 have hge:s1.heap.objs.size<=c:=by rcases hc' with e|e|e|e|e<;>rw[e]<;>first|exact X6 _|exact iW _ _
 obtain⟨f0,f1,f2,f3,f4,f5⟩:=I1.fpOk hge (I1.hok.fresh hge);exact⟨f0,f1,f2,f3,f4,f5⟩
theorem DG.pair{x y:ao}(i j:Nat){d d':D}(hij:i≠j)(hN:X.N.Nodup)(hi:X.N[i]?=aa x:=by rfl)(hj:X.N[j]?=aa y:=by rfl)(hx:Loc X.env.scope x:=by first|exact aV rfl|exact bJ rfl)(hy:Loc X.env.scope y:=by first|exact aV rfl|exact bJ rfl)
  (fx:X.fn x=af\/X.env.scope.names.lookup x=aa .local:=by first|exact .inl rfl|exact .inr rfl) (fy:X.fn y=af\/X.env.scope.names.lookup y=aa .local:=by first|exact .inl rfl|exact .inr rfl) (hc:X.calm=af:=by rfl)
  (hn:(bb [.Name x q1,.Name y q2] X.env).length=2:=by rfl) (hst:(bb [.Name x q1,.Name y q2] X.env).findIdx? (·.1)=ah:=by rfl)
  (e1:(bb [.Name x q1,.Name y q2] X.env).map (·.2)=dX (.Name x q1) X.env::(bb [.Name y q2] X.env).map (·.2):=by rfl) (e2:(bb [.Name y q2] X.env).map (·.2)=dX (.Name y q2) X.env::(bb [] X.env).map (·.2):=by rfl) :
  DG X ρ (.Tuple [.Name x q1,.Name y q2] n pos) (.tup [d,d']) ((ρ.set i (.val d)).set j (.val d')):=by
 refine⟨λb hb=>(j9 rfl).subset ((j9 rfl).subset hb),λσ H v Q R en q=>?_⟩;obtain⟨t,xs,ev,sq,u,r,e,eu,u',r',e',eu',er⟩:=en;subst e e' ev er;refine(jfi hc (Yd (Vx hN hi hx fx) (Yd (Vx hN hj hy fy) j0u e2) e1) hn hst).to ⟨t,[u,u'],rfl,jj.seqT sq,rfl,u,[u'],rfl,u',[],rfl,rfl,?_⟩;refine q _ ?_;have R1:Rep X.K (ρ.set i (.val d)) (σ.set i (aa u)) H:=R.set_val eu;exact R1.set_val (eu'.mono (z9 λb hb=>(j9 rfl).subset hb))
end
noncomputable def D.ty:D->String
 |.non=>"NoneType"
 |.bl _=>"bool"
 |.int _=>"int"
 |.str _=>"str"
 |.tup _=>"tuple"
 |.lst _=>"list"
 |.dct _ _=>"dict"
 |.sct _=>"dict"
 |.fn _ _=>"function"
section
variable{X:Cx}{pins:k7i}{σ:St}{H:Hp}{s:aq}{A:aG}{E:k7h}{Q:k7h}{c:aj}{b:Bool}
theorem j4w {d:D} {v:V} {u:aj} (I:Inv X pins σ H s) (en:Enc X.K H d v) (r:RelV v u) (nf:d.ty ≠ "function"):∃P:aH->Prop,PySem.W.KitX X.K u (.type d.ty) P/\P s.heap/\u≠.builtin "__main__.__loader__#opaque":=by
 cases d with
 |non=>cases(show v=.non from en);cases(show u=b7 from r);exact⟨_,W.kitx_none,trivial,λz=>nomatch z⟩
 |bl k=>cases(show v=.bl k from en);cases(show u=bo k from r);exact⟨_,W.kitx_bool,trivial,λz=>nomatch z⟩
 |int k=>cases(show v=.int k from en);obtain⟨t,q⟩:=(show ∃t,u=bq k t from r);cases q;exact⟨_,W.kitx_int,trivial,λz=>nomatch z⟩
 |str k=>cases(show v=.str k from en);obtain⟨t,q⟩:=(show ∃t,u=b8 k t from r);cases q;exact⟨_,W.kitx_str,trivial,λz=>nomatch z⟩
 |tup l =>obtain⟨a,xs,e,sq,_⟩:=en;subst e;cases(show u=aI a from r);obtain⟨its,_,⟨o,h1,h2,_⟩,_⟩:=I.tuple sq;exact⟨_,W.kitx_tuple,⟨o,h1,h2⟩,λz=>nomatch z⟩
 |lst l =>obtain⟨a,xs,e,sq,_⟩:=en;subst e;cases(show u=aI a from r);obtain⟨its,_,⟨o,n,h1,h2,_⟩,_⟩:=I.list sq;exact⟨_,W.kitx_list,⟨o,h1,h2⟩,λz=>nomatch z⟩
 |dct ks l =>
  obtain⟨a,xs,ep,vs,e,hx,_⟩:=en;subst e;cases(show u=aI a from r);obtain⟨_,_,_,o,es,h1,h2,_⟩:=(show jw X.prog X.w H s.heap a (.dI xs ep)from I.hok _ _ hx)
  exact⟨_,W.kitx_dict,⟨o,h1,h2.1⟩,λz=>nomatch z⟩
 |sct k =>
  obtain⟨a,e,hx⟩:=en;subst e;cases(show u=aI a from r);obtain⟨_,_,vs,_,o,es,ep,h1,h2,_⟩:=(show jw X.prog X.w H s.heap a (.dK (kvI k))from I.hok _ _ hx)
  exact⟨_,W.kitx_dict,⟨o,h1,h2.1⟩,λz=>nomatch z⟩
 |fn x l=>exact absurd rfl nf
theorem j6b:J9 X (.builtin "isinstance") (λxs H Q=>∃v d c b,xs=[v,.ty c]/\Enc X.K H d v/\d.ty ≠ "function"/\W.kitOne X.K (.type d.ty) (.type c)=aa b/\Q (.bl b) H):=by rintro pins s σ H xs us Q I r ⟨v,d,c,b,e,en,nf,k,q⟩;subst e;obtain⟨u,u',eu,r1,r2⟩:=vals2 r;subst eu;cases(show u'=cC c from r2);obtain⟨P,Z,hp,hn⟩:=j4w I en r1 nf;exact W.kia_one Z I.kIn hp k hn λtk=>⟨.bl b,H,I.tok tk,rfl,q⟩
theorem j6a:J9 X (.builtin "isinstance") (λxs H Q=>∃(v:V)(t:ak)(d:D)(cs:List String)(b:Bool),xs=[v,.ref t]/\Enc X.K H d v/\d.ty ≠ "function"/\SqT X.K H t (cs.map V.ty)/\W.kitAny X.K (.type d.ty) (cs.map cC)=aa b/\Q (.bl b) H):=by
 rintro pins s σ H xs us Q I r ⟨v,t,d,cs,b,e,en,nf,sq,k,q⟩;subst e;obtain⟨u,u',eu,r1,r2⟩:=vals2 r;subst eu;cases(show u'=aI t from r2);obtain⟨P,Z,hp,hn⟩:=j4w I en r1 nf;obtain⟨its,rv,⟨⟨cl,dd,da,sl⟩,h1,h2,n,h3⟩,_⟩:=I.tuple sq;have h2:cl=.type "tuple":=h2;have h3:da=.seq its.toArray n:=h3;subst h2 h3;have ei:∀{cs:List String}{its:List aj},Vals (cs.map V.ty) its->its=cs.map cC:=λ{cs}=>by
  induction cs with
  |nil=>intro its h;exact h.zero
  |cons c cs ih=>intro its h;cases h with|cons a b=>cases a;rw[ih b];rfl
 rw[ei rv]at h1;exact W.kia_tup Z I.kIn hp h1 k hn λtk=>⟨.bl b,H,I.tok tk,rfl,q⟩
end
section
variable{X:Cx}{ρ:Rho}{a b:ar}{d:D}{pos p p1 p2 p3:aP}{T T1 T2:ao}{c c1 c2:String}{k:Bool}{n:Nat}
theorem j2c (hg:Gl X T) (hm:X.mg T=ah) (hv:bg T=aa (.type c)) (hn:T ≠ "__name__":=by decide) (hd:(T==k7k)=ae:=by decide):PE X (.Name T p) (tC (.ty c)):=jc4 hg hm hv rfl hn hd
theorem DE.isi1 (ha:DT X ρ a d) (nf:d.ty ≠ "function") (hm:X.mg "isinstance" = ah) (hT:X.mg T=ah) (hv:bg T=aa (.type c)) (hk:W.kitOne X.K (.type d.ty) (.type c)=aa k) (hg:Gl X "isinstance":=by rfl) (hg2:Gl X T:=by rfl)
  (hn:T ≠ "__name__":=by decide) (hd:(T==k7k)=ae:=by decide)
  (hs:ai [a,.Name T p2] X.env=(ae,aB a X.env)::ai [.Name T p2] X.env:=by rfl) (hs2:ai [.Name T p2] X.env=(ae,aB (.Name T p2) X.env)::ai [] X.env:=by rfl) (hpl:(aT pos (ai [.Name T p2] X.env)).any (·.1)=ae:=by rfl) :
  DE X ρ (.Call (.Name "isinstance" p) [a,.Name T p2] [] pos) (.bl k):=λσ H Q R q =>
 (v8 j6b hg hm kY (jc peS (jc (j2c hg2 hT hv hn hd) jx hs2) hs) (by decide) (by decide) hs hpl).to (ha σ H _ R λv H1 g1 e1=>⟨v,d,c,k,rfl,e1,nf,hk,q _ H1 g1 rfl⟩)
theorem DE.isi2 {m:Nat} (ha:DT X ρ a d) (nf:d.ty ≠ "function") (hm:X.mg "isinstance" = ah) (hT1:X.mg T1=ah) (hT2:X.mg T2=ah) (hv1:bg T1=aa (.type c1)) (hv2:bg T2=aa (.type c2))
  (hk:W.kitAny X.K (.type d.ty) [.type c1,.type c2]=aa k) (hg:Gl X "isinstance":=by rfl) (hg1:Gl X T1:=by rfl) (hg2:Gl X T2:=by rfl)
  (hn1:T1 ≠ "__name__":=by decide) (hd1:(T1==k7k)=ae:=by decide) (hn2:T2 ≠ "__name__":=by decide) (hd2:(T2==k7k)=ae:=by decide)
  (hs:ai [a,.Tuple [.Name T1 p1,.Name T2 p2] m p3] X.env=(ae,aB a X.env)::ai [.Tuple [.Name T1 p1,.Name T2 p2] m p3] X.env:=by rfl)
  (hs2:ai [.Tuple [.Name T1 p1,.Name T2 p2] m p3] X.env=(ae,aB (.Tuple [.Name T1 p1,.Name T2 p2] m p3) X.env)::ai [] X.env:=by rfl) (hpl:(aT pos (ai [.Tuple [.Name T1 p1,.Name T2 p2] m p3] X.env)).any (·.1)=ae:=by rfl)
  (hs3:ai [.Name T1 p1,.Name T2 p2] X.env=(ae,aB (.Name T1 p1) X.env)::ai [.Name T2 p2] X.env:=by rfl) (hs4:ai [.Name T2 p2] X.env=(ae,aB (.Name T2 p2) X.env)::ai [] X.env:=by rfl) :
  DE X ρ (.Call (.Name "isinstance" p) [a,.Tuple [.Name T1 p1,.Name T2 p2] m p3] [] pos) (.bl k):=λσ H Q R q =>
 (v8 j6a hg hm kY (jc peS (jc (j4e (jc (j2c hg1 hT1 hv1 hn1 hd1) (jc (j2c hg2 hT2 hv2 hn2 hd2) jx hs4) hs3)) jx hs2) hs) (by decide) (by decide) hs hpl).to
  (ha σ H _ R λv H1 g1 e1=>⟨by show 2<=au;decide,λt ht=>⟨v,t,d,[c1,c2],k,rfl,e1.mono (j8 ht),nf,.inl (.inl ju),hk,q _ _ (g1.trans (j8 ht)) rfl⟩⟩)
end
mutual
noncomputable def deq:D->D->Bool
 |.non,.non=>af
 |.bl a,.bl b=>a==b
 |.bl a,.int b=>(if a then 1 else 0)==b
 |.int a,.bl b=>a==(if b then 1 else 0)
 |.int a,.int b=>a==b
 |.str a,.str b=>a==b
 |.tup xs,.tup ys=>vy xs ys
 |.lst xs,.lst ys=>vy xs ys
 |.dct k xs,.dct m ys=>decide (k=m)&&vy xs ys
 |.sct k,.sct m=>decide (k=m)
 |_,_=>ae
noncomputable def vy:List D->List D->Bool
 |[],[]=>af
 |x::xs,y::ys=>deq x y&&vy xs ys
 |_,_=>ae
end
theorem jhr{a b:Bool}:deq (.bl a) (.bl b)=(a==b):=(rfl)
theorem jhq{a b:Int}:deq (.int a) (.int b)=(a==b):=(rfl)
theorem Ef{a b:ao}:deq (.str a) (.str b)=(a==b):=(rfl)
theorem Ed{a b:List D}:deq (.tup a) (.tup b)=vy a b:=(rfl)
theorem Eg{a b:List D}:deq (.lst a) (.lst b)=vy a b:=(rfl)
theorem Yj:vy [] []=af:=(rfl)
theorem Z6{x y:D}{xs ys:List D}:vy (x::xs) (y::ys)=(deq x y&&vy xs ys):=(rfl)
theorem Ml{y:D}{ys:List D}:vy [] (y::ys)=ae:=(rfl)
theorem Mm{x:D}{xs:List D}:vy (x::xs) []=ae:=(rfl)
mutual
noncomputable def D.dep:D->Nat
 |.tup xs=>D.depL xs+1
 |.lst xs=>D.depL xs+1
 |.dct _ _=>20000
 |.sct _=>20000
 |.fn _ _=>20000
 |_=>0
noncomputable def D.depL:List D->Nat
 |[]=>0
 |x::xs=>max x.dep (D.depL xs)
end
mutual
theorem Oq:∀d:D,d.dep<10000->deq d d=af
 |.non,_=>rfl
 |.bl b,_=>by rw[jhr];simp
 |.int i,_=>by rw[jhq];simp
 |.str x,_=>by rw[Ef];simp
 |.tup xs,h=>by rw[Ed];exact Yy xs (by simp only[D.dep]at h;omega)
 |.lst xs,h=>by rw[Eg];exact Yy xs (by simp only[D.dep]at h;omega)
 |.dct _ _,h=>by simp[D.dep]at h
 |.sct _,h=>by simp[D.dep]at h
 |.fn _ _,h=>by simp[D.dep]at h
theorem Yy:∀ds:List D,D.depL ds<10000->vy ds ds=af
 |[],_=>rfl
 |d::ds,h=>by rw[D.depL]at h;rw[Z6,Oq d nofun,Yy ds nofun];rfl
end
theorem Yk:∀{xs ys:List D},xs.length≠ys.length->vy xs ys=ae
 |[],[],h=>absurd rfl h
 |[],_::_,_=>by simp[Yj,Z6,Ml,Mm]
 |_::_,[],_=>by simp[Yj,Z6,Ml,Mm]
 |x::xs,y::ys,h=>by have:=Yk (xs:=xs) (ys:=ys) (by simpa using h);simp[Yj,Z6,Ml,Mm,this]
theorem Zd{f:Nat->Bool}:∀{xs ys:List D},xs.length=ys.length->(∀(j:Nat) x y,xs[j]?=aa x->ys[j]?=aa y->f j=deq x y)->(aK xs.length).all f=vy xs ys
 |[],[],_,_=>by simp[Yj,Z6,Ml,Mm]
 |[],_::_,h,_=>by simp at h
 |_::_,[],h,_=>by simp at h
 |x::xs,y::ys,h,hf=>by have ih:=Zd (f:=λj=>f (j+1)) (xs:=xs) (ys:=ys) (by simpa using h) (λj a b ha hb=>hf (j+1) a b (by simpa using ha) (by simpa using hb));rw[xx,dS,gp,hf 0 x y rfl rfl,gB];simp only[Z6];rw[<-ih];rfl
section
variable{X:Cx}{pins:k7i}{σ:St}{H:Hp}{s:aq}
theorem Kv(I:Inv X pins σ H s){a:ak}{xs ys:List V}(h:SqT X.K H a xs)(h':SqL X.K H a ys):False:=by obtain⟨_,_,⟨o,h1,h2,_⟩,_⟩:=I.tuple h;obtain⟨_,_,⟨o',n,h1',h2',_⟩,_⟩:=I.list h';rw[h1]at h1';cases h1';rw[h2]at h2';injection h2' with e;exact absurd e (by decide)
noncomputable def D.atom:D->Option V
 |.non=>aa .non
 |.bl b=>aa (.bl b)
 |.int i=>aa (.int i)
 |.str x=>aa (.str x)
 |_=>ah
theorem Enc.at_{K:k7g}{d:D}{v u:V}(h:Enc K H d v)(e:d.atom=aa u):v=u:=by
 cases d with
 |non=>cases e;exact(show v=.non from h)
 |bl b=>cases e;exact(show v=.bl b from h)
 |int i=>cases e;exact(show v=.int i from h)
 |str x=>cases e;exact(show v=.str x from h)
 |_=>cases e
theorem Enc.ref{K:k7g}{d:D}{v:V}(h:Enc K H d v)(e:d.atom=ah):∃a,v=.ref a:=by
 cases d with
 |tup l=>obtain⟨a,_,e,_⟩:=h;exact⟨a,e⟩
 |lst l=>obtain⟨a,_,e,_⟩:=h;exact⟨a,e⟩
 |dct k l=>obtain⟨a,_,_,_,e,_⟩:=h;exact⟨a,e⟩
 |sct k=>obtain⟨a,e,_⟩:=h;exact⟨a,e⟩
 |fn x l=>obtain⟨a,_,_,_,_,e,_⟩:=h;exact⟨a,e⟩
 |_=>cases e
theorem j9t{d d':D}{u:V}(h:d.atom=aa u)(h':d'.atom=aa u):d=d':=by cases d<;>cases d'<;>first|(cases h;done)|(cases h';done)|(cases h;cases h';rfl)|(cases h;cases h')
theorem j00{d:D}{a:ak}(h:d.atom=aa (.ref a)):False:=by cases d<;>cases h
theorem jgz(I:Inv X pins σ H s){d d':D}{v:V}(hd:d.dep<10000)(hd':d'.dep<10000)(h:Enc X.K H d v)(h':Enc X.K H d' v) :
  d=d'\/∃ds ds' xs,((d=.tup ds/\d'=.tup ds')\/(d=.lst ds/\d'=.lst ds'))/\j6 X.K H ds xs/\j6 X.K H ds' xs:=by
 cases e:d.atom with
 |some u =>
  have ev:=h.at_ e;subst ev;cases e':d'.atom with
  |some u'=>exact .inl (j9t e ((h'.at_ e')▸e'))
  |none=>obtain⟨a,ea⟩:=h'.ref e';subst ea;exact(j00 e).elim
 |none =>
  cases e':d'.atom with
  |some u'=>have ev:=h'.at_ e';subst ev;obtain⟨a,ea⟩:=h.ref e;subst ea;exact(j00 e').elim
  |none =>
   cases d with
   |tup ds =>
    obtain⟨a,xs,ea,sq,l⟩:=h;cases d' with
    |tup ds' =>obtain⟨a',ys,eb,sq',l'⟩:=h';rw[ea]at eb;cases eb;rw[I.tuple_inj sq' sq]at l';exact .inr ⟨ds,ds',xs,.inl ⟨rfl,rfl⟩,l,l'⟩
    |lst ds'=>obtain⟨a',ys,eb,sq',l'⟩:=h';rw[ea]at eb;cases eb;exact(Kv I sq sq').elim
    |dct _ _=>simp[D.dep]at hd'
    |sct _=>simp[D.dep]at hd'
    |fn _ _=>simp[D.dep]at hd'
    |_=>cases e'
   |lst ds =>
    obtain⟨a,xs,ea,sq,l⟩:=h;cases d' with
    |lst ds' =>obtain⟨a',ys,eb,sq',l'⟩:=h';rw[ea]at eb;cases eb;rw[I.list_inj sq' sq]at l';exact .inr ⟨ds,ds',xs,.inr ⟨rfl,rfl⟩,l,l'⟩
    |tup ds'=>obtain⟨a',ys,eb,sq',l'⟩:=h';rw[ea]at eb;cases eb;exact(Kv I sq' sq).elim
    |dct _ _=>simp[D.dep]at hd'
    |sct _=>simp[D.dep]at hd'
    |fn _ _=>simp[D.dep]at hd'
    |_=>cases e'
   |dct _ _=>simp[D.dep]at hd
   |sct _=>simp[D.dep]at hd
   |fn _ _=>simp[D.dep]at hd
   |_=>cases e
theorem j8x{n:Nat}(ih:∀{d d':D}{v:V},d.dep<=n->d.dep<10000->d'.dep<10000->Enc X.K H d v->Enc X.K H d' v->d=d'):∀{ds ds':List D}{xs:List V},D.depL ds<=n->D.depL ds<10000->D.depL ds'<10000->j6 X.K H ds xs->j6 X.K H ds' xs->ds=ds'
 |[],[],_,_,_,_,_,_=>rfl
 |[],_::_,_,_,_,_,h,⟨x,r,e,_⟩=>by cases h;cases e
 |_::_,[],_,_,_,_,⟨x,r,e,_⟩,h=>by cases h;cases e
 |d::ds,d'::ds',_,m,n1,n2,⟨x,r,e,h,l⟩,⟨x',r',e',h',l'⟩=>by subst e;cases e';rw[D.depL]at m n1 n2;rw[ih nofun nofun nofun h h',j8x ih nofun nofun nofun l l']
theorem j8w(I:Inv X pins σ H s):∀(n:Nat){d d':D}{v:V},d.dep<=n->d.dep<10000->d'.dep<10000->Enc X.K H d v->Enc X.K H d' v->d=d'
 |0,d,d',v,hn,hd,hd',h,h'=>by
  rcases jgz I hd hd' h h' with e|⟨ds,ds',xs,⟨e,_⟩|⟨e,_⟩,_⟩
  .exact e
  .subst e;simp[D.dep]at hn
  .subst e;simp[D.dep]at hn
 |n+1,d,d',v,hn,hd,hd',h,h'=>by
  rcases jgz I hd hd' h h' with e|⟨ds,ds',xs,⟨e,e'⟩|⟨e,e'⟩,l,l'⟩
  .exact e
  .subst e e';simp only[D.dep]at hn hd hd';rw[j8x (λa b c=>j8w I n a b c) nofun nofun nofun l l']
  .subst e e';simp only[D.dep]at hn hd hd';rw[j8x (λa b c=>j8w I n a b c) nofun nofun nofun l l']
theorem Enc.inj(I:Inv X pins σ H s){d d':D}{v:V}(hd:d.dep<10000)(hd':d'.dep<10000)(h:Enc X.K H d v)(h':Enc X.K H d' v):d=d':=j8w I d.dep (X6 _) hd hd' h h'
end
section
variable{X:Cx}{pins:k7i}{σ:St}{H:Hp}{s:aq}
theorem D.depL_le:∀{ds:List D}{j:Nat}{d:D},ds[j]?=aa d->d.dep<=D.depL ds
 |[],_,_,h=>by simp at h
 |x::xs,0,d,h=>by simp at h;subst h;simp[D.depL];omega
 |x::xs,j+1,d,h=>by have:=D.depL_le (ds:=xs) (j:=j) (d:=d) (by simpa using h);simp[D.depL];omega
theorem Vw(I:Inv X pins σ H s):∀(n:Nat)(A:aG){d d':D}{v v':V}{u u':aj},d.dep<=n->A.units+n<bF->d'.dep<10000->Enc X.K H d v->RelV v u->Enc X.K H d' v'->RelV v' u' ->
  fM A s u u' (deq d d')/\dN A s u u' (deq d d')
 |0,A,d,d',v,v',u,u',hn,hu,nd,en,r,en',r'=>by
  have hu0:A.units<bF:=by omega
  cases d with
  |tup l=>simp[D.dep]at hn
  |lst l=>simp[D.dep]at hn
  |dct ks l=>simp[D.dep]at hn
  |sct k=>simp[D.dep]at hn
  |fn x l=>simp[D.dep]at hn
  |non =>
   cases(show v=.non from en);cases(show u=b7 from r);cases d' with
   |dct ks' l'=>simp[D.dep]at nd
   |sct k'=>simp[D.dep]at nd
   |fn x' l'=>simp[D.dep]at nd
   |non=>cases(show v'=.non from en');cases(show u'=b7 from r');exact⟨.none_none,.same _⟩
   |bl k=>cases(show v'=.bl k from en');cases(show u'=bo k from r');exact⟨.none_bool _,.none_bool _⟩
   |int k=>cases(show v'=.int k from en');obtain⟨t,q⟩:=(show ∃t,u'=bq k t from r');subst q;exact⟨.none_int _ _,.none_int _ _⟩
   |str k=>cases(show v'=.str k from en');obtain⟨t,q⟩:=(show ∃t,u'=b8 k t from r');subst q;exact⟨.none_str _ _,.none_str _ _⟩
   |tup l=>obtain⟨a,xs,e,sq,_⟩:=en';subst e;cases(show u'=aI a from r');obtain⟨_,_,q,_⟩:=I.tuple sq;exact⟨.none_tuple q hu0,.none_tuple q hu0⟩
   |lst l=>obtain⟨a,xs,e,sq,_⟩:=en';subst e;cases(show u'=aI a from r');obtain⟨_,_,q,_⟩:=I.list sq;exact⟨.none_list q.isList hu0,.none_list q.isList hu0⟩
  |bl b =>
   cases(show v=.bl b from en);cases(show u=bo b from r);cases d' with
   |dct ks' l'=>simp[D.dep]at nd
   |sct k'=>simp[D.dep]at nd
   |fn x' l'=>simp[D.dep]at nd
   |non=>cases(show v'=.non from en');cases(show u'=b7 from r');exact⟨.bool_none _,.bool_none _⟩
   |bl k=>cases(show v'=.bl k from en');cases(show u'=bo k from r');exact⟨.bool_bool _ _,.bool_bool _ _⟩
   |int k=>cases(show v'=.int k from en');obtain⟨t,q⟩:=(show ∃t,u'=bq k t from r');subst q;exact⟨.bool_int _ _ _,.bool_int _ _ _⟩
   |str k=>cases(show v'=.str k from en');obtain⟨t,q⟩:=(show ∃t,u'=b8 k t from r');subst q;exact⟨.bool_str _ _ _,.bool_str _ _ _⟩
   |tup l=>obtain⟨a,xs,e,sq,_⟩:=en';subst e;cases(show u'=aI a from r');obtain⟨_,_,q,_⟩:=I.tuple sq;exact⟨.bool_tuple _ q hu0,.bool_tuple _ q hu0⟩
   |lst l=>obtain⟨a,xs,e,sq,_⟩:=en';subst e;cases(show u'=aI a from r');obtain⟨_,_,q,_⟩:=I.list sq;exact⟨.bool_list _ q.isList hu0,.bool_list _ q.isList hu0⟩
  |int b =>
   cases(show v=.int b from en);obtain⟨tk,q0⟩:=(show ∃t,u=bq b t from r);subst q0;cases d' with
   |dct ks' l'=>simp[D.dep]at nd
   |sct k'=>simp[D.dep]at nd
   |fn x' l'=>simp[D.dep]at nd
   |non=>cases(show v'=.non from en');cases(show u'=b7 from r');exact⟨.int_none _ _,.int_none _ _⟩
   |bl k=>cases(show v'=.bl k from en');cases(show u'=bo k from r');exact⟨.int_bool _ _ _,.int_bool _ _ _⟩
   |int k=>cases(show v'=.int k from en');obtain⟨t,q⟩:=(show ∃t,u'=bq k t from r');subst q;exact⟨.int_int _ _ _ _,.int_int _ _ _ _⟩
   |str k=>cases(show v'=.str k from en');obtain⟨t,q⟩:=(show ∃t,u'=b8 k t from r');subst q;exact⟨.int_str _ _ _ _,.int_str _ _ _ _⟩
   |tup l=>obtain⟨a,xs,e,sq,_⟩:=en';subst e;cases(show u'=aI a from r');obtain⟨_,_,q,_⟩:=I.tuple sq;exact⟨.int_tuple _ _ q hu0,.int_tuple _ _ q hu0⟩
   |lst l=>obtain⟨a,xs,e,sq,_⟩:=en';subst e;cases(show u'=aI a from r');obtain⟨_,_,q,_⟩:=I.list sq;exact⟨.int_list _ _ q.isList hu0,.int_list _ _ q.isList hu0⟩
  |str b =>
   cases(show v=.str b from en);obtain⟨tk,q0⟩:=(show ∃t,u=b8 b t from r);subst q0;cases d' with
   |dct ks' l'=>simp[D.dep]at nd
   |sct k'=>simp[D.dep]at nd
   |fn x' l'=>simp[D.dep]at nd
   |non=>cases(show v'=.non from en');cases(show u'=b7 from r');exact⟨.str_none _ _,.str_none _ _⟩
   |bl k=>cases(show v'=.bl k from en');cases(show u'=bo k from r');exact⟨.str_bool _ _ _,.str_bool _ _ _⟩
   |int k=>cases(show v'=.int k from en');obtain⟨t,q⟩:=(show ∃t,u'=bq k t from r');subst q;exact⟨.str_int _ _ _ _,.str_int _ _ _ _⟩
   |str k=>cases(show v'=.str k from en');obtain⟨t,q⟩:=(show ∃t,u'=b8 k t from r');subst q;exact⟨.str_str _ _ _ _,.str_str _ _ _ _⟩
   |tup l=>obtain⟨a,xs,e,sq,_⟩:=en';subst e;cases(show u'=aI a from r');obtain⟨_,_,q,_⟩:=I.tuple sq;exact⟨.str_tuple _ _ q hu0,.str_tuple _ _ q hu0⟩
   |lst l=>obtain⟨a,xs,e,sq,_⟩:=en';subst e;cases(show u'=aI a from r');obtain⟨_,_,q,_⟩:=I.list sq;exact⟨.str_list _ _ q.isList hu0,.str_list _ _ q.isList hu0⟩
 |n+1,A,d,d',v,v',u,u',hn,hu,nd,en,r,en',r'=>by
  have hu0:A.units<bF:=by omega
  have hu1:A.in1.units+n<bF:=by show A.units+1+n<bF;omega
  have low:d.dep<=n->fM A s u u' (deq d d')/\dN A s u u' (deq d d'):=λh=>Vw I n A h nofun nd en r en' r';cases d with
  |non=>exact low (by simp[D.dep])
  |bl b=>exact low (by simp[D.dep])
  |int b=>exact low (by simp[D.dep])
  |str b=>exact low (by simp[D.dep])
  |dct ks l=>exfalso;have:(9900:Nat)=bF:=rfl;simp only[D.dep]at hn;omega
  |sct k=>exfalso;have:(9900:Nat)=bF:=rfl;simp only[D.dep]at hn;omega
  |fn x l=>exfalso;have:(9900:Nat)=bF:=rfl;simp only[D.dep]at hn;omega
  |tup ds =>
   have hd:D.depL ds<=n:=by simp[D.dep]at hn;omega
   obtain⟨a,xs,e,sq,l⟩:=id en;subst e;cases(show u=aI a from r);obtain⟨us,rv,q,_⟩:=I.tuple sq;cases d' with
   |dct ks' l'=>simp[D.dep]at nd
   |sct k'=>simp[D.dep]at nd
   |fn x' l'=>simp[D.dep]at nd
   |non=>cases(show v'=.non from en');cases(show u'=b7 from r');exact⟨.tuple_none q hu0,.tuple_none q hu0⟩
   |bl k=>cases(show v'=.bl k from en');cases(show u'=bo k from r');exact⟨.tuple_bool _ q hu0,.tuple_bool _ q hu0⟩
   |int k=>cases(show v'=.int k from en');obtain⟨t,q'⟩:=(show ∃t,u'=bq k t from r');subst q';exact⟨.tuple_int _ _ q hu0,.tuple_int _ _ q hu0⟩
   |str k=>cases(show v'=.str k from en');obtain⟨t,q'⟩:=(show ∃t,u'=b8 k t from r');subst q';exact⟨.tuple_str _ _ q hu0,.tuple_str _ _ q hu0⟩
   |lst ds'=>obtain⟨a',ys,e,sq',_⟩:=en';subst e;cases(show u'=aI a' from r');obtain⟨_,_,q',_⟩:=I.list sq';exact⟨.tuple_list q q'.isList hu0,.tuple_list q q'.isList hu0⟩
   |tup ds' =>
    obtain⟨a',ys,e,sq',l'⟩:=id en';subst e;cases(show u'=aI a' from r');obtain⟨us',rv',q',_⟩:=I.tuple sq';have e1:us.length=ds.length:=by rw[<-rv.length,l.length]
    have e2:us'.length=ds'.length:=by rw[<-rv'.length,l'.length]
    have main:fM A s (.ref a) (.ref a') (deq (.tup ds) (.tup ds')):=by
     have item:∀(j:Nat)(h1:j<us.toArray.size)(h2:j<us'.toArray.size),dN A.in1 s us.toArray[j] us'.toArray[j] (deq (ds.getD j .non) (ds'.getD j .non)):=λj h1 h2=>by
      have k1:j<ds.length:=by rw[<-e1];simpa using h1
      have k2:j<ds'.length:=by rw[<-e2];simpa using h2
      obtain⟨x,hx,ex⟩:=l.get (kh k1);obtain⟨y,hy,ey⟩:=l'.get (kh k2);obtain⟨w1,hw1,rw1⟩:=rv.get hx;obtain⟨w2,hw2,rw2⟩:=rv'.get hy;have g1:us.toArray[j]=w1:=by simp at h1 ⊢;rw[kh (by simpa using h1)]at hw1;exact aC hw1
      have g2:us'.toArray[j]=w2:=by simp at h2 ⊢;rw[kh (by simpa using h2)]at hw2;exact aC hw2
      rw[g1,g2,xn,xn,kh k1,kh k2];exact(Vw I n A.in1 (Xf (D.depL_le (kh k1)) hd) hu1 (dn (D.depL_le (kh k2)) (by simp only[D.dep]at nd;omega)) ex rw1 ey rw2).2
     have z:=SeqAt.RcAt.tuples (A:=A) (s:=s) q q' hu0 (e:=λj=>deq (ds.getD j .non) (ds'.getD j .non)) item;have ev:((aK (min us.toArray.size us'.toArray.size)).all (λj=>deq (ds.getD j .non) (ds'.getD j .non))&&us.toArray.size==us'.toArray.size)=deq (.tup ds) (.tup ds'):=by
      simp only[Ed,X4,e1,e2];by_cases hl:ds.length=ds'.length
      .rw[hl,kx,beq_self_eq_true,jJ,<-hl];exact Zd hl λj x y hx hy=>by rw[xn,xn,hx,hy];rfl
      .rw[Yk hl,beq_false_of_ne hl,fX]
     rw[ev]at z;exact z
    refine⟨main,?_⟩;by_cases ea:a=a'
    .subst ea;have e9:(9900:Nat)=bF:=rfl;rw[Enc.inj I nofun nd en en',Oq _ nd];exact .same _
    .exact .of_refs ea main
  |lst ds =>
   have hd:D.depL ds<=n:=by simp[D.dep]at hn;omega
   obtain⟨a,xs,e,sq,l⟩:=id en;subst e;cases(show u=aI a from r);obtain⟨us,rv,q0,_⟩:=I.list sq;have q:=q0.isList;cases d' with
   |dct ks' l'=>simp[D.dep]at nd
   |sct k'=>simp[D.dep]at nd
   |fn x' l'=>simp[D.dep]at nd
   |non=>cases(show v'=.non from en');cases(show u'=b7 from r');exact⟨.list_none q hu0,.list_none q hu0⟩
   |bl k=>cases(show v'=.bl k from en');cases(show u'=bo k from r');exact⟨.list_bool _ q hu0,.list_bool _ q hu0⟩
   |int k=>cases(show v'=.int k from en');obtain⟨t,q'⟩:=(show ∃t,u'=bq k t from r');subst q';exact⟨.list_int _ _ q hu0,.list_int _ _ q hu0⟩
   |str k=>cases(show v'=.str k from en');obtain⟨t,q'⟩:=(show ∃t,u'=b8 k t from r');subst q';exact⟨.list_str _ _ q hu0,.list_str _ _ q hu0⟩
   |tup ds'=>obtain⟨a',ys,e,sq',_⟩:=en';subst e;cases(show u'=aI a' from r');obtain⟨_,_,q',_⟩:=I.tuple sq';exact⟨.list_tuple q q' hu0,.list_tuple q q' hu0⟩
   |lst ds' =>
    obtain⟨a',ys,e,sq',l'⟩:=id en';subst e;cases(show u'=aI a' from r');obtain⟨us',rv',q0',_⟩:=I.list sq';have q':=q0'.isList;have e1:us.length=ds.length:=by rw[<-rv.length,l.length]
    have e2:us'.length=ds'.length:=by rw[<-rv'.length,l'.length]
    have main:fM A s (.ref a) (.ref a') (deq (.lst ds) (.lst ds')):=by
     have item:∀(j:Nat)(h1:j<us.toArray.size)(h2:j<us'.toArray.size),dN A.in1 s us.toArray[j] us'.toArray[j] (deq (ds.getD j .non) (ds'.getD j .non)):=λj h1 h2=>by
      have k1:j<ds.length:=by rw[<-e1];simpa using h1
      have k2:j<ds'.length:=by rw[<-e2];simpa using h2
      obtain⟨x,hx,ex⟩:=l.get (kh k1);obtain⟨y,hy,ey⟩:=l'.get (kh k2);obtain⟨w1,hw1,rw1⟩:=rv.get hx;obtain⟨w2,hw2,rw2⟩:=rv'.get hy;have g1:us.toArray[j]=w1:=by simp at h1 ⊢;rw[kh (by simpa using h1)]at hw1;exact aC hw1
      have g2:us'.toArray[j]=w2:=by simp at h2 ⊢;rw[kh (by simpa using h2)]at hw2;exact aC hw2
      rw[g1,g2,xn,xn,kh k1,kh k2];exact(Vw I n A.in1 (Xf (D.depL_le (kh k1)) hd) hu1 (dn (D.depL_le (kh k2)) (by simp only[D.dep]at nd;omega)) ex rw1 ey rw2).2
     simp only[Eg];by_cases hl:ds.length=ds'.length
     .have z:=SeqAt.RcAt.lists (A:=A) (s:=s) q q' (by simp[e1,e2,hl]) hu0 (e:=λj=>deq (ds.getD j .non) (ds'.getD j .non)) item;have ev:(aK us.toArray.size).all (λj=>deq (ds.getD j .non) (ds'.getD j .non))=vy ds ds':=by rw[X4,e1];exact Zd hl λj x y hx hy=>by rw[xn,xn,hx,hy];rfl
      rw[ev]at z;exact z
     .rw[Yk hl];exact .lists_lengths q q' (by simp[e1,e2,hl]) hu0
    refine⟨main,?_⟩;by_cases ea:a=a'
    .subst ea;have e9:(9900:Nat)=bF:=rfl;rw[Enc.inj I nofun nd en en',Oq _ nd];exact .same _
    .exact .of_refs ea main
end
section
variable{X:Cx}{pins:k7i}{σ:St}{H:Hp}{s:aq}{A:aG}
theorem j8j(I:Inv X pins σ H s){n:Nat}{ds ds':List D}{xs ys:List V}{us us':List aj}(l:j6 X.K H ds xs)(rv:Vals xs us)(l':j6 X.K H ds' ys)(rv':Vals ys us')(hd:D.depL ds<=n)(hu:A.units+1+n<bF)(nd:D.depL ds'<10000) :
  ∀(j:Nat)(h1:j<us.toArray.size)(h2:j<us'.toArray.size),dN A.in1 s us.toArray[j] us'.toArray[j] (deq (ds.getD j .non) (ds'.getD j .non)):=λj h1 h2=>by
 have k1:j<ds.length:=by rw[<-l.length,rv.length];simpa using h1
 have k2:j<ds'.length:=by rw[<-l'.length,rv'.length];simpa using h2
 obtain⟨x,hx,ex⟩:=l.get (kh k1);obtain⟨y,hy,ey⟩:=l'.get (kh k2);obtain⟨w1,hw1,rw1⟩:=rv.get hx;obtain⟨w2,hw2,rw2⟩:=rv'.get hy;have g1:us.toArray[j]=w1:=by simp at h1 ⊢;rw[kh (by simpa using h1)]at hw1;exact aC hw1
 have g2:us'.toArray[j]=w2:=by simp at h2 ⊢;rw[kh (by simpa using h2)]at hw2;exact aC hw2
 rw[g1,g2,xn,xn,kh k1,kh k2];exact(Vw I n A.in1 (Xf (D.depL_le (kh k1)) hd) hu (dn (D.depL_le (kh k2)) nd) ex rw1 ey rw2).2
theorem j4j(hu:X.A.units+100<bF):OpR X (bj .Eq) (λx y H Q=>∃d d',Enc X.K H d x/\Enc X.K H d' y/\d.dep<=100/\d'.dep<10000/\Q (.bl (deq d d')) H):=by rintro pins s σ H x y v u Q I rx ry ⟨d,d',en,en',hd,nd,q⟩;exact(Vw I 100 X.A hd hu nd en rx en' ry).1 X.prog X.w X.xe _ ⟨.bl (deq d d'),H,I,rfl,q⟩
theorem j4h(hu:X.A.units+100<bF):OpR X (bj .NotEq) (λx y H Q=>∃ds ds' k,Enc X.K H (D.seq k ds) x/\Enc X.K H (D.seq k ds') y/\D.depL ds<=98/\D.depL ds'<10000/\Q (.bl (!vy ds ds')) H):=by
 rintro pins s σ H x y v u Q I rx ry ⟨ds,ds',k,en,en',hd,nd,q⟩;have h0:X.A.units<bF:=by omega
 obtain⟨t,xs,e,sq,l⟩:=Jr en;obtain⟨t',ys,e',sq',l'⟩:=Jr en';subst e e';cases rx;cases ry;obtain⟨us,rv,qs,_⟩:=I.side sq;obtain⟨us',rv',qs',_⟩:=I.side sq';have e1:us.length=ds.length:=by rw[<-rv.length,l.length]
 have e2:us'.length=ds'.length:=by rw[<-rv'.length,l'.length]
 have item:=j8j (A:=X.A) I l rv l' rv' hd nofun nd;unfold je at qs qs';cases k with
 |true =>
  rw[if_pos rfl]at qs qs';by_cases hl:ds.length=ds'.length
  .have z:=SeqAt.RcNeAt.lists (A:=X.A) (s:=s) qs qs' (by simp[e1,e2,hl]) h0 (e:=λj=>deq (ds.getD j .non) (ds'.getD j .non)) item;have ev:(aK us.toArray.size).all (λj=>deq (ds.getD j .non) (ds'.getD j .non))=vy ds ds':=by rw[X4,e1];exact Zd hl λj x y hx hy=>by rw[xn,xn,hx,hy];rfl
   rw[ev]at z;exact z X.prog X.w X.xe _ ⟨.bl (!vy ds ds'),H,I,rfl,q⟩
  .have z:=SeqAt.RcNeAt.lists_lengths (A:=X.A) (s:=s) qs qs' (by simp[e1,e2,hl]) h0;rw[Yk hl]at q;exact z X.prog X.w X.xe _ ⟨.bl af,H,I,rfl,q⟩
 |false =>
  rw[if_neg xj]at qs qs';have z:=SeqAt.RcNeAt.tuples (A:=X.A) (s:=s) qs qs' h0 (e:=λj=>deq (ds.getD j .non) (ds'.getD j .non)) item;have ev:((aK (min us.toArray.size us'.toArray.size)).all (λj=>deq (ds.getD j .non) (ds'.getD j .non))&&us.toArray.size==us'.toArray.size)=vy ds ds':=by
   simp only[X4,e1,e2];by_cases hl:ds.length=ds'.length
   .rw[hl,kx,beq_self_eq_true,jJ,<-hl];exact Zd hl λj x y hx hy=>by rw[xn,xn,hx,hy];rfl
   .rw[Yk hl,beq_false_of_ne hl,fX]
  rw[ev]at z;exact z X.prog X.w X.xe _ ⟨.bl (!vy ds ds'),H,I,rfl,q⟩
noncomputable def eqW(X:Cx)(H:Hp)(d:D)(y:aj):Bool:=@decide (∃e v,e.dep<10000/\Enc X.K H e v/\RelV v y/\deq e d=af) (dq _)
theorem j5e(I:Inv X pins σ H s){d e:D}{v:V}{y:aj}(he:e.dep<10000)(en:Enc X.K H e v)(r:RelV v y):eqW X H d y=deq e d:=by
 unfold eqW;cases h:deq e d with
 |true=>exact @decide_eq_true _ (dq _) ⟨e,v,he,en,r,h⟩
 |false =>refine @decide_eq_false _ (dq _) λ⟨e',v',he',en',r',h'⟩=>?_;rw[r'.inj r]at en';rw[Enc.inj I he' he en' en,h]at h';cases h'
theorem Di(I:Inv X pins σ H s){d:D}:∀{ds:List D}{xs:List V}{us:List aj},D.depL ds<10000->j6 X.K H ds xs->Vals xs us->us.any (eqW X H d)=ds.any λe=>deq e d
 |[],_,_,_,h,r=>by cases h;cases r;rfl
 |e::ds,_,_,hd,⟨x,r,eq,h,l⟩,rv=>by
  subst eq;rw[D.depL]at hd;cases rv with
  |cons a b=>rw[cB,cB,Di I nofun l b,j5e I nofun h a]
theorem Fb(I:Inv X pins σ H s){d:D}{v:V}{u:aj}(en:Enc X.K H d v)(r:RelV v u)(nd:d.dep<10000){n:Nat}(hu:A.units+n<bF):∀{ds:List D}{xs:List V}{us:List aj},D.depL ds<=n->j6 X.K H ds xs->Vals xs us->∀y∈us,dN A s y u (eqW X H d y)
 |[],_,_,_,h,rv,y,hy=>by cases h;cases rv;cases hy
 |e::ds,_,_,hd,⟨x,r',eq,h,l⟩,rv,y,hy=>by
  subst eq;have hd':e.dep<=n/\D.depL ds<=n:=by simp[D.depL]at hd;omega
  cases rv with
  |cons a b =>
   rcases xr.mp hy with rfl|hy
   .have e9:(9900:Nat)=bF:=rfl;rw[j5e I nofun h a];exact(Vw I n A hd'.1 hu nd h a en r).2
   .exact Fb I en r nd hu hd'.2 l b y hy
theorem j4i(hu:X.A.units+100<bF):OpR X (bj .In) (λx y H Q=>∃d ds k,Enc X.K H d x/\Enc X.K H (D.seq k ds) y/\D.depL ds<=98/\d.dep<10000/\Q (.bl (ds.any λe=>deq e d)) H):=by
 rintro pins s σ H x y v u Q I rx ry ⟨d,ds,k,en,en',hd,nd,q⟩;obtain⟨t,xs,e,sq,l⟩:=Jr en';subst e;cases ry;obtain⟨us,rv,qs,_⟩:=I.side sq;have me:=λy (hy:y∈us.toArray)=>Fb (A:=X.A.in1) I en rx nd (n:=98) (by show X.A.units+1+98<bF;omega) hd l rv y (by simpa using hy);have ev:us.toArray.any (eqW X H d)=ds.any λe=>deq e d:=by rw[iO];exact Di I nofun l rv
 unfold je at qs;cases k with
 |true=>rw[if_pos rfl]at qs;exact SeqAt.in_listAt (eqW X H d) qs me (by rw[ev];exact⟨.bl _,H,I,rfl,q⟩)
 |false=>rw[if_neg xj]at qs;exact SeqAt.in_tupleAt (eqW X H d) qs me (by rw[ev];exact⟨.bl _,H,I,rfl,q⟩)
theorem Dp(hu:X.A.units+100<bF):OpR X (bj .NotIn) (λx y H Q=>∃d ds k,Enc X.K H d x/\Enc X.K H (D.seq k ds) y/\D.depL ds<=98/\d.dep<10000/\Q (.bl (!ds.any λe=>deq e d)) H):=by
 rintro pins s σ H x y v u Q I rx ry ⟨d,ds,k,en,en',hd,nd,q⟩;obtain⟨t,xs,e,sq,l⟩:=Jr en';subst e;cases ry;obtain⟨us,rv,qs,_⟩:=I.side sq;have me:=λy (hy:y∈us.toArray)=>Fb (A:=X.A.in1) I en rx nd (n:=98) (by show X.A.units+1+98<bF;omega) hd l rv y (by simpa using hy);have ev:us.toArray.any (eqW X H d)=ds.any λe=>deq e d:=by rw[iO];exact Di I nofun l rv
 unfold je at qs;cases k with
 |true=>rw[if_pos rfl]at qs;exact SeqAt.notIn_listAt (eqW X H d) qs me (by rw[ev];exact⟨.bl _,H,I,rfl,q⟩)
 |false=>rw[if_neg xj]at qs;exact SeqAt.notIn_tupleAt (eqW X H d) qs me (by rw[ev];exact⟨.bl _,H,I,rfl,q⟩)
theorem j7z:OpR X (bh .Add) (λx y H Q=>∃a b xs ys,x=.ref a/\y=.ref b/\SqT X.K H a xs/\SqT X.K H b ys/\xs.length+ys.length<=au /\
  (xs=[]->Q (.ref b) H)/\(xs≠[]->ys=[]->Q (.ref a) H)/\(xs≠[]->ys≠[]->∀p,H p=ah->Q (.ref p) (upd H p (.tup (xs++ys))))):=by
 rintro pins s σ H x y v u Q I rx ry ⟨a,b,xs,ys,e,e',sa,sb,hz,q1,q2,q3⟩;by_cases hx:xs=[]
 .subst e e' hx;cases rx;cases ry;obtain⟨us,ru,⟨⟨c1,d1,f1,g1⟩,h1,k1,n1,m1⟩,_⟩:=I.tuple sa;obtain⟨vs,rv,⟨⟨c2,d2,f2,g2⟩,h2,k2,n2,m2⟩,_⟩:=I.tuple sb;cases ru;have k1:c1=.type "tuple":=k1;have m1:f1=.seq ([]:List aj).toArray n1:=m1;have k2:c2=.type "tuple":=k2;have m2:f2=.seq vs.toArray n2:=m2;subst k1 m1 k2 m2;exact fR ⟨_,h1,rfl⟩ ⟨_,h2,rfl⟩ gc i3 dF dw (di _ _)
   (tuple_addW0 a b ([]:List aj).toArray vs.toArray n1 n2 d1 d2 g1 g2 (by simp)) ⟨h1,h2,⟨.ref b,H,I,rfl,q1 rfl⟩⟩
 .exact jc9 pins s σ H x y v u Q I rx ry ⟨a,b,xs,ys,e,e',sa,sb,hx,hz,q2 hx,q3 hx⟩
theorem all_range:∀bs:List Bool,(aK bs.length).all (λi=>(bs[i]?).getD af)=bs.all id
 |[]=>rfl
 |b::bs=>by rw[xx,dS,gp,gB,gp,<-all_range bs];rfl
theorem j0e (hc:X.calm=af):J9 X (.builtin "all") (λxs H Q=>∃(l:ak)(bs:List Bool),xs=[.ref l]/\SqL X.K H l (bs.map V.bl)/\Q (.bl (bs.all id)) H):=by
 rintro pins s σ H xs us Q I r ⟨l,bs,e,sq,q⟩;subst e;obtain⟨u,eu,ru⟩:=vals1 r;subst eu;cases ru;obtain⟨its,rv,pl,_⟩:=I.list sq;have hlt:l<s.heap.objs.size:=by obtain⟨_,_,e,_⟩:=pl;exact xq e
 have hl:its.length=bs.length:=by rw[<-rv.length,km]
 refine call_all_walk (bM pl.isList ⟨s.heap.objs.size,[s.heap.objs.size,l],[s.heap.objs.size],its.toArray.size,_,_,λi=>(bs[i]?).getD af,rfl,Walks.list (A:=X.A.in1) (I.ok.hd hc) _ _ (X8 hlt) its.toArray,⟨⟨_,xu _ rfl,rfl,rfl⟩,pl.isList.push _⟩,?_,λh' tk kp=>?_⟩)
 .intro i v s' Q' E' hv hq;have hi:i<its.length:=by have:=Array.getElem?_eq_some_iff.mp hv;obtain⟨h,_⟩:=this;simpa using h
  have hb:i<bs.length:=by omega
  obtain⟨w1,hw,rw1⟩:=rv.get (x:=.bl bs[i]) (i:=i) (by rw[Xa,kh hb];rfl);have:its.toArray[i]?=aa w1:=by simpa using hw
  rw[this]at hv;cases hv;cases rw1;simp only[kh hb,Xu]at hq;exact bK hq
 .have ev:(aK its.toArray.size).all (λi=>(bs[i]?).getD af)=bs.all id:=by rw[X4,hl];exact all_range bs
  rw[ev];refine⟨.bl _,H,I.kept (t':=tk) λb o e=>kp b o ?_ (kj _ e),rfl,q⟩;intro z;rw[X3.mp z]at e;exact Pj _ (xq e)
end
section
variable{X:Cx}{ρ:Rho}{a b e:ar}{d d':D}{ds ds':List D}{i j:Int}{pos p p1 p2:aP}{k:Nat}{x:ao}{P:Po}
theorem DE.eqD(hu:X.A.units+100<bF)(ha:DT X ρ a d)(hb:DT X ρ b d')(hd:d.dep<=100)(nd:d'.dep<10000):DE X ρ (.Compare a [.Eq] [b] pos) (.bl (deq d d')):=λσ H Q R q =>(Jo (j4j hu) peS peS (zb _)).to (ha σ H _ R λv H1 g1 e1=>hb σ H1 _ (R.grow g1) λu H2 g2 e2=>⟨d,d',e1.mono g2,e2,hd,nd,q _ H2 (g1.trans g2) rfl⟩)
theorem DB.eqD(hu:X.A.units+100<bF)(ha:DT X ρ a d)(hb:DT X ρ b d')(hd:d.dep<=100)(nd:d'.dep<10000):DB X ρ (.Compare a [.Eq] [b] pos) (deq d d'):=λσ H Q R q =>(Jb (j4j hu) peS peS (zb _)).to (ha σ H _ R λv H1 g1 e1=>hb σ H1 _ (R.grow g1) λu H2 g2 e2=>⟨d,d',e1.mono g2,e2,hd,nd,_,rfl,q H2 (g1.trans g2)⟩)
theorem DB.neD(s:Bool)(hu:X.A.units+100<bF)(ha:DT X ρ a (D.seq s ds))(hb:DT X ρ b (D.seq s ds'))(hd:D.depL ds<=98)(nd:D.depL ds'<10000):DB X ρ (.Compare a [.NotEq] [b] pos) (!vy ds ds'):=λσ H Q R q =>(Jb (j4h hu) peS peS (zb _)).to (ha σ H _ R λv H1 g1 e1=>hb σ H1 _ (R.grow g1) λu H2 g2 e2=>⟨ds,ds',s,e1.mono g2,e2,hd,nd,_,rfl,q H2 (g1.trans g2)⟩)
theorem DB.notIn(s:Bool)(hu:X.A.units+100<bF)(ha:DT X ρ a d)(hb:DT X ρ b (D.seq s ds))(hd:D.depL ds<=98)(nd:d.dep<10000)(hm:aO .NotIn b=ae:=by with_unfolding_all rfl):DB X ρ (.Compare a [.NotIn] [b] pos) (!ds.any λe=>deq e d):=λσ H Q R q =>(Jb (Dp hu) peS peS hm).to (ha σ H _ R λv H1 g1 e1=>hb σ H1 _ (R.grow g1) λu H2 g2 e2=>⟨d,ds,s,e1.mono g2,e2,hd,nd,_,rfl,q H2 (g1.trans g2)⟩)
theorem DB.in(s:Bool)(hu:X.A.units+100<bF)(ha:DT X ρ a d)(hb:DT X ρ b (D.seq s ds))(hd:D.depL ds<=98)(nd:d.dep<10000)(hm:aO .In b=ae:=by with_unfolding_all rfl):DB X ρ (.Compare a [.In] [b] pos) (ds.any λe=>deq e d):=λσ H Q R q =>(Jb (j4i hu) peS peS hm).to (ha σ H _ R λv H1 g1 e1=>hb σ H1 _ (R.grow g1) λu H2 g2 e2=>⟨d,ds,s,e1.mono g2,e2,hd,nd,_,rfl,q H2 (g1.trans g2)⟩)
theorem DE.min (ha:DT X ρ a (.int i)) (hb:DT X ρ b (.int j)) (hm:X.mg "min" = ah) (hc:X.calm=af:=by rfl) (hg:Gl X "min":=by rfl) (hs:ai [a,b] X.env=(ae,aB a X.env)::ai [b] X.env:=by rfl) (hs2:ai [b] X.env=(ae,aB b X.env)::ai [] X.env:=by rfl)
  (hpl:(aT pos (ai [b] X.env)).any (·.1)=ae:=by rfl):DE X ρ (.Call (.Name "min" p) [a,b] [] pos) (.int (if j<i then j else i)):=λσ H Q R q =>
 (v8 (j67 hc) hg hm boot_min (jc peS (jc peS jx hs2) hs) (by decide) (by decide) hs hpl).to (ha σ H _ R λv H1 g1 e1=>hb σ H1 _ (R.grow g1) λu H2 g2 e2=>⟨i,j,by rw[show v=.int i from e1,show u=.int j from e2],q _ H2 (g1.trans g2) rfl⟩)
theorem Om{K:k7g}{H:Hp}:∀{bs:List Bool}{xs:List V},j6 K H (bs.map D.bl) xs->xs=bs.map V.bl
 |[],_,h=>h
 |b::bs,_,⟨x,r,e,h,l⟩=>by subst e;cases(show x=.bl b from h);rw[Om l];rfl
theorem DE.all {bs:List Bool} (ha:DT X ρ a (.lst (bs.map D.bl))) (hm:X.mg "all" = ah) (hc:X.calm=af:=by rfl) (hg:Gl X "all":=by rfl) (hs:ai [a] X.env=[(ae,aB a X.env)]:=by rfl):DE X ρ (.Call (.Name "all" p) [a] [] pos) (.bl (bs.all id)):=λσ H Q R q =>(v8 (j0e hc) hg hm boot_all (jc peS jx hs) (by decide) (by decide) hs).to (ha σ H _ R λv H1 g1 ⟨l,xs,e,sq,en⟩=>⟨l,bs,by rw[e],by rw[Om en]at sq;exact sq,q _ H1 g1 rfl⟩)
def jew(X:Cx)(e:Option ar):TO:=λσ H Q=>∀pins s,Inv X pins σ H s->ax (aA X.prog X.w) X.A (evalPart e X.env) (λu s'=>∃o H',Inv X pins σ H' s'/\eZ u o/\Q o H') X.xe s
theorem poS{e:Option ar}:PO X e (jew X e):=λpins s σ H Q I h=>h pins s I
def DP(X:Cx)(ρ:Rho)(e:Option ar)(o:Option Int):Prop:=∀σ H Q,Rep X.K ρ σ H->(∀H',j4 H H'->Q o H')->jew X e σ H Q
theorem DP.none:DP X ρ ah ah:=λσ H Q R q pins s I=>jc0 pins s σ H Q I (q H (j4.refl H))
theorem DP.some(h:DT X ρ e (.int i)):DP X ρ (aa e) (aa i):=λσ H Q R q pins s I=>jbz peS pins s σ H Q I (h σ H _ R λv H1 g1 e1=>⟨i,e1,q H1 g1⟩)
variable{lo hi:Option ar}{l u:Option Int}
end
def jen(K:k7g)(S:List D->List D->D->List D->Prop):Sp:=λvs H Q _=>∃(a:ak)(ds l:List D)(d:D)(l':List D)(ws xs:List V),vs=ws++[.ref a]/\TabOk K H/\H a=aa (.lst xs)/\j6 K (del H [a]) l xs/\j6 K (del H [a]) ds ws/\S ds l d l' /\
 ∀v H' ys,j4 (del H [a]) (del H' [a])->H' a=aa (.lst ys)->j6 K (del H' [a]) l' ys->Enc K (del H' [a]) d v->Q v H'
section
variable{X:Cx}{ρ ρ1:Rho}{e e1 e2 e3 c:ar}{st:aQ}{rest sa:List aQ}{a:ak}{d d1 d2 d3:D}{l l':List D}{k i:Nat}{x y f:ao}{p p1 p2 p3 p4 pos:aP}
end
noncomputable def j4b(dW n:Int):Int:=if 0<n then n%60 else(dW*48271+11)%2147483647/16
noncomputable def Oe(dW n:Int):Int:=if 0<n then n%60/6%2 else(dW*48271+11)%2147483647/128%2
noncomputable def M6(n:Int):Int:=if 0<n then n/60 else n
noncomputable def Yt:Nat->List ao->Int->Int->D×Int
 |0,_,dW,n=>(.tup [.str "tell",.int (Oe dW n)],M6 n)
 |k+1,ws,dW,n=>match ws[(j4b dW n%ws.length).toNat]? with
  |none=>(.tup [.str "tell",.int (Oe dW n)],M6 n)
  |some y=>if j4b dW n%6=0 then(.tup [.str "tell",.int (Oe dW n)],M6 n)
   else(.tup [.str "ask",.str y,(Yt k (ws.filter λz=>!(z==y)) ((dW*48271+11)%2147483647*3+1) (M6 n)).1,
     (Yt k (ws.filter λz=>!(z==y)) ((dW*48271+11)%2147483647*5+2) (Yt k (ws.filter λz=>!(z==y)) ((dW*48271+11)%2147483647*3+1) (M6 n)).2).1],
    (Yt k (ws.filter λz=>!(z==y)) ((dW*48271+11)%2147483647*5+2) (Yt k (ws.filter λz=>!(z==y)) ((dW*48271+11)%2147483647*3+1) (M6 n)).2).2)
def ja3(ds l:List D)(d:D)(l':List D):Prop:=∃(ws:List ao)(dW n:Int)(k:Nat),ds=[.lst (ws.map D.str),.int dW,.int k]/\l=[.int n]/\k<=5/\ws.length<=60/\d=(Yt k ws dW n).1/\l'=[.int (Yt k ws dW n).2]
section
variable{P:ay}{w:aD}{K:k7g}{mg:k7j}{base:aH}{x qual:ao}{st:aQ}{f:ak}{fd:aL}{N ps:List ao}{k:Nat}
end
def Fz(o:Option HO):Prop:=(∃xs,o=aa (.lst xs))\/∃oc v,o=aa (.frz oc (.own 0))/\oc.data=.cell v
theorem j59{P:ay}{w:aD}{K:k7g}{mg:k7j}{base:aH}{A0:aG}{outer:List d9}{s:aq}{H:Hp}{A:List ak}(e0:Env0 P w K mg base A0 outer s H)(hA:∀a∈A,Fz (H a)) :
  Env0 P w K mg base A0 outer s (del H A)/\∀(Q:VK)(E E':XK)(r:eY)(s':aq),CR CX0 outer P w (del H A) s (λv F=>(∀a∈A,F a=ah)->Q v (mrg A H F)) E r s'->CR CX0 outer P w H s Q E' r s':=by
 have nd:∀{b:ak},H b=ah->del H A b=ah:=λ{b} q=>by
  by_cases z:b∈A
  .exact v9 z
  .rw[j5 z];exact q
 have out:∀{b:ak}{o:HO},H b=aa o->(∀ys,o≠.lst ys)->(∀oc v,o=.frz oc (.own 0)->oc.data≠.cell v)->b∉A:=λ{b o} q z z2 y=>by
  rcases hA b y with ⟨ys,e'⟩|⟨oc,v,e',d⟩
  .rw[q]at e';cases e';exact z ys rfl
  .rw[q]at e';cases e';exact z2 _ _ rfl d
 have e1:Env0 P w K mg base A0 outer s (del H A):=⟨e0.frames,e0.mod,λb o q=>⟨(e0.bs b o q).1,nd (e0.bs b o q).2⟩,e0.bsz,e0.funs,λb hb=>nd (e0.frf b hb),
  λa o q=>by
   obtain⟨_,q⟩:=of_del q
   exact jw.stay (e0.hok a o q) (λb u _ z=>z) (λb z=>by rw[j5 (out z (λ_ y=>by cases y) λ_ _ y=>by cases y)];exact z) (λb xs z=>by rw[j5 (out z (λ_ y=>by cases y) λ_ _ y=>by cases y)];exact z)
    (λb o ⟨vs,d⟩ z=>by rw[j5 (out z (λ_ y=>by cases y) λ_ _ y d'=>by cases y;rw[d]at d';cases d')];exact z),e0.bare⟩
 refine⟨e1,λQ E E' r s' hq=>?_⟩;cases r with
 |error e=>exact(show False from hq).elim
 |ok fl =>
  cases fl with
  |next=>exact(show False from hq).elim
  |brk=>exact(show False from hq).elim
  |cont=>exact(show False from hq).elim
  |ret u =>
   obtain⟨v,H',os,bare,un,hok',rel,q⟩:=(show CE outer P w (del H A) s _ u s' from hq)
   have kept:∀a∈A,∃o,s.heap.get? a=aa o/\s'.heap.get? a=aa o/\H' a=ah:=λa ha=>by
    have nf:a∉frs outer:=λy=>by have z:=e0.frf a y;rcases hA a ha with ⟨xs,e⟩|⟨oc,v,e,_⟩<;>(rw[z]at e;cases e)
    have ob:∃o,s.heap.get? a=aa o:=by
     rcases hA a ha with ⟨xs,e⟩|⟨oc,v,e,_⟩
     .obtain⟨_,its,n,_,z⟩:=(show jw P w H s.heap a (.lst xs)from e0.hok _ _ e);exact⟨_,z⟩
     .exact⟨_,(show jw P w H s.heap a (.frz oc (.own 0))from e0.hok _ _ e).1⟩
    obtain⟨o,z⟩:=ob;exact⟨_,z,un.keep a _ z (v9 ha) nf (by simp),un.free a _ z (v9 ha) (by simp)⟩
   have hF:∀a∈A,H' a=ah:=λa ha=>let ⟨_,_,_,z⟩:=kept a ha;z;have outF:∀{b:ak}{o:HO},H' b=aa o->b∉A:=λ{b o} e z=>by rw[hF b z]at e;cases e
   refine⟨v,mrg A H H',os,bare,?_,λa o e=>?_,rel,q hF⟩
   .exact{
     keep:=λb o e n=>un.keep b o e (nd n)
     slot:=λb o e n=>un.slot b o e (nd n)
     free:=λb o e n hx=>by
      by_cases z:b∈A
      .rw[Jd z];exact n
      .rw[jt z];exact un.free b o e (nd n) hx
     there:=un.there
     tups:=λb xs e=>by
      have z:=un.tups b xs (by rw[j5 (out e (λ_ y=>by cases y) λ_ _ y=>by cases y)];exact e)
      rw[jt (outF z)];exact z
     frzs:=λb o u e=>by
      by_cases y:b∈A
      .rw[Jd y];exact e
      .have z:=un.frzs b o u (by rw[j5 y];exact e)
       rw[jt y];exact z
     tbls:=λb ps e=>by
      obtain⟨more,z⟩:=un.tbls b ps (by rw[j5 (out e (λ_ y=>by cases y) λ_ _ y=>by cases y)];exact e)
      exact⟨more,by rw[jt (outF z)];exact z⟩ }
   .by_cases z:a∈A
    .rw[Jd z]at e;obtain⟨o',q1,q2,_⟩:=kept a z;rcases hA a z with ⟨xs,e'⟩|⟨oc,v,e',_⟩
     .rw[e']at e;cases e;obtain⟨hl,its,n,r,y⟩:=(show jw P w H s.heap a (.lst xs)from e0.hok _ _ e')
      rw[y]at q1;cases q1;exact⟨hl,its,n,r,q2⟩
     .rw[e']at e;cases e;have y:=(show jw P w H s.heap a (.frz oc (.own 0))from e0.hok _ _ e').1;rw[y]at q1;cases q1;exact⟨q2,_,q2⟩
    .rw[jt z]at e;refine jw.stay (hok' a o e) (λb u _ q=>q) (λb q=>?_) (λb xs q=>?_) (λb _ _ q=>?_)
     .rw[jt (outF q)];exact q
     .rw[jt (outF q)];exact q
     .rw[jt (outF q)];exact q
structure LamScope(N ps:List ao)(sc:bG):Prop where
 kind:sc.kind=.function
 co:sc.isCoroutine=ae
 gen:sc.isGenerator=ae
 nd:N.Nodup
 nm:N=V3 sc++ps
 lfr:∀x∈V3 sc,sc.names.lookup x=aa .free
 lps:∀x∈ps,sc.names.lookup x=aa .local
 nocell:∀y∈sc.names,y.2≠.cell
 cov:∀x,sc.names.lookup x=aa .free->x∈V3 sc
noncomputable def Yz(P:ay)(w:aD)(K:k7g)(mg:k7j)(base:aH)(N:List ao)(qual:ao)(scope:bG)(a:ak)(cd:aj)(cl:List (ao×ak))(A:aG)(outer:List d9)(s:aq)(H:Hp):Cx where
 prog:=P
 w:=w
 K:=K
 mg:=mg
 base:=base
 A:=A.deeper (W.envX qual scope s.heap.objs.size a cd cl)
 N:=N
 s₀:=s
 H₀:=H
 env:=W.envX qual scope s.heap.objs.size a cd cl
 outer:=outer
 stack:=W.envX qual scope s.heap.objs.size a cd cl::outer
 ex:=[]
 calm:=af
 fn:=λ_=>ae
 pn:=[]
 xe:=λ_ _=>False
def Js(h:aH):List ak->List V->Prop
 |[],vs=>vs=[]
 |c::cs,vs=>∃v r u,vs=v::r/\h.IsCell c (aa u)/\RelV v u/\Js h cs r
theorem Js.get{h:aH}:∀{cs:List ak}{vs:List V}{i:Nat}{v:V},Js h cs vs->vs[i]?=aa v->∃c u,cs[i]?=aa c/\h.IsCell c (aa u)/\RelV v u
 |[],_,i,v,e,q=>by cases e;simp at q
 |c::cs,_,0,v,⟨x,r,u,e,h1,h2,_⟩,q=>by subst e;simp at q;subst q;exact⟨c,u,rfl,h1,h2⟩
 |c::cs,_,i+1,v,⟨x,r,u,e,_,_,l⟩,q=>by subst e;obtain⟨c',u',z1,z2⟩:=Js.get l (i:=i) (by simpa using q);exact⟨c',u',by simpa using z1,z2⟩
theorem Js.length{h:aH}:∀{cs:List ak}{vs:List V},Js h cs vs->vs.length=cs.length
 |[],_,e=>by cases e;rfl
 |c::cs,_,⟨x,r,u,e,_,_,l⟩=>by subst e;simp[l.length]
theorem Js.all{h:aH}:∀{cs:List ak}{vs:List V},Js h cs vs->∀c∈cs,∃v,h.IsCell c v
 |c::cs,_,⟨x,r,u,e,h1,_,l⟩,b,hb=>(xr.mp hb).elim (λz=>z▸⟨_,h1⟩) (l.all b)
theorem lookup_at{α:Type}:∀{l:List (ao×α)} {i:Nat} {p:ao×α},(l.map (·.1)).Nodup->l[i]?=aa p->l.lookup p.1=aa p.2
 |[],i,p,_,h=>by simp at h
 |q::l,0,p,_,h=>by simp at h;subst h;rw[Xg,beq_self_eq_true]
 |q::l,i+1,p,nd,h=>by rw[X5]at nd;rw[gu]at h;have ne:(p.1==q.1)=ae:=beq_eq_false_iff_ne.mpr λz=>(Xk.mp nd).1 (z▸i6 (Xl h));rw[Xg,ne];exact lookup_at (Xk.mp nd).2 h
theorem j2s{ps:List ao}{us:List aj}{i:Nat}{p:ao}{u:aj}(nd:ps.Nodup)(hl:us.length=ps.length)(h1:ps[i]?=aa p)(h2:us[i]?=aa u):(ps.zip us).reverse.lookup p=aa u:=by
 have hm:(p,u)∈(ps.zip us).reverse:=List.mem_reverse.mpr (Xl (i:=i) (by rw[gd];exact⟨h1,h2⟩));have e:((ps.zip us).reverse.map (·.1))=ps.reverse:=by rw[List.map_reverse,List.map_fst_zip nofun]
 obtain⟨j,hj⟩:=List.mem_iff_getElem?.mp hm;exact lookup_at (by rw[e];exact(List.reverse_perm ps).nodup_iff.mpr nd) hj
section
variable{P:ay}{w:aD}{K:k7g}{mg:k7j}{base:aH}{A:aG}{outer:List d9}{s:aq}{H:Hp}{x:ao}{a c:ak}{tx:Tx}{cl:List (ao×ak)}{pm ctv:aj}{cvs vs:List V}{us:List aj}{N ps:List ao}{k:Nat}{Q:VK}{E:XK}
theorem jd4{h1:aH}{tk:Nat}(hh:A.handled=ah)(e0:Env0 P w K mg base A outer s H)(S:LamScope N ps tx.2.2)(hn:cl.map (·.1)=V3 tx.2.2)(nd:(cl.map (·.2)).Nodup)(hc:Js s.heap (cl.map (·.2)) cvs)(hf:∀q∈cl.map (·.2),H q=ah)(rv:Vals vs us)(hl:vs.length=ps.length)
  (ns:h1.Ns s.heap.objs.size λy=>(ps.zip us).reverse.lookup y) (kp:∀b o,s.heap.get? b=aa o->h1.get? b=aa o) :
  Inv (Yz P w K mg base N (zx x) tx.2.2 a (.ref c) cl A outer s H) [] (start N (cvs++vs)) H { s with heap:=h1,toks:=tk }:=by
 have ndN:(V3 tx.2.2).Nodup:=by have:=S.nd;rw[S.nm]at this;exact(List.nodup_append.mp this).1
 have ndP:ps.Nodup:=by have:=S.nd;rw[S.nm]at this;exact(List.nodup_append.mp this).2.1
 have ndC:(cl.map (·.1)).Nodup:=by rw[hn];exact ndN
 have lenC:cvs.length=(V3 tx.2.2).length:=by rw[hc.length,<-hn,km,km]
 have lenN:N.length=(cvs++vs).length:=by rw[S.nm,X7,X7,lenC,hl]
 have noA:∀b:ak,b∉(Yz P w K mg base N (zx x) tx.2.2 a (.ref c) cl A outer s H).ex:=λb z=>absurd (show b∈([]:List ak)from z) (by simp);have mem2:∀{y:ao}{q:ak},cl.lookup y=aa q->q∈cl.map (·.2):=λ{y q} h=>Xd.mpr ⟨(y,q),Pa h,rfl⟩;have inj:∀(l:List (ao×ak)),(l.map (·.2)).Nodup->∀y z q,(y,q)∈l->(z,q)∈l->y=z:=λl=>by
  induction l with
  |nil=>intro _ y z q h;cases h
  |cons p r ih =>
   intro nd y z q h1 h2;rw[X5]at nd;obtain⟨n1,n2⟩:=Xk.mp nd;rcases xr.mp h1 with e1|h1<;>rcases xr.mp h2 with e2|h2
   .rw[<-e1]at e2;cases e2;rfl
   .exact absurd (Xd.mpr ⟨(z,q),h2,by rw[<-e1]⟩) n1
   .exact absurd (Xd.mpr ⟨(y,q),h1,by rw[<-e2]⟩) n1
   .exact ih n2 y z q h1 h2
 refine⟨⟨e0.mod,S.kind,rfl,rfl,X6 _,λy z q h1 h2=>inj cl nd y z q (Pa h1) (Pa h2),λy hy=>?_,λy q h=>(by cases h),λ_=>hh,gx e0.frames,.inr ⟨rfl,rfl⟩,λb z=>absurd z (noA b),e0.bs,e0.bsz,λb _ _=>noA b,λb z=>absurd z (noA b),e0.funs,e0.frf⟩,
  rfl,e0.bare,Un.kept kp,⟨_,ns,λi y v h1 h2 h3=>?_⟩,λy q h=>?_,e0.hok.fresh (X6 _),λy q h=>hf q (mem2 h),λp hp=>absurd (show p∈([]:k7i)from hp) (by simp),e0.hok.kept kp,?_⟩
 .have hy:tx.2.2.names.lookup y=aa .cell\/tx.2.2.names.lookup y=aa .free:=hy;rcases hy with hy|hy
  .exact absurd rfl (S.nocell _ (Pa hy))
  .have m:=S.cov y hy;rw[<-hn]at m;obtain⟨p,hp,e⟩:=Xd.mp m;obtain⟨i,hi⟩:=List.mem_iff_getElem?.mp hp;exact⟨p.2,by have:=lookup_at ndC hi;rw[e]at this;exact this⟩
 .have h1:N[i]?=aa y:=h1;have hi:i<(cvs++vs).length:=by rw[<-lenN];exact(Xe.mp h1).1
  have ha:(cvs++vs)[i]?=aa v:=by
   unfold start at h2;rw[Pn (by simpa using hi),Xa]at h2;cases e:(cvs++vs)[i]? with
   |none=>rw[e]at h2;cases h2
   |some a=>rw[e]at h2;cases h2;rfl
  rw[S.nm]at h1;by_cases z:i<cvs.length
  .rw[Pn z]at ha;rw[Pn nofun]at h1;obtain⟨q,u,e1,e2,r⟩:=hc.get ha;refine⟨u,r,.inr ⟨.inr (S.lfr y (Xl h1)),q,?_,e2.keeps kp⟩⟩;rw[<-hn,Xa]at h1;rw[Xa]at e1;obtain⟨p,hp,ep⟩:=Xv.mp h1;rw[hp]at e1;have:=lookup_at ndC hp;rw[ep]at this;show cl.lookup y=aa q;rw[this];exact e1
  .rw[df nofun]at ha h1;rw[<-lenC]at h1;obtain⟨u,hu,r⟩:=rv.get ha;exact⟨u,r,.inl ⟨S.lps y (Xl h1),j2s ndP (by rw[<-rv.length,hl]) h1 hu⟩⟩
 .obtain⟨v,z⟩:=hc.all q (mem2 h);exact⟨v,z.keeps kp⟩
 .unfold start;show _=N.length;rw[X7,km,eE];omega
theorem j8d (hr:Room (k+1) A) (e0:Env0 P w K mg base A outer s H) (ho:s.heap.get? a=aa (W.kla_obj "<lambda>" (zx x) tx.1 tx.2.1 tx.2.2 cl pm c ctv)) (hcd:s.heap.CodeRec (.ref c) (zx x))
  (S:LamScope N ps tx.2.2) (hn:cl.map (·.1)=V3 tx.2.2) (nd:(cl.map (·.2)).Nodup) (hc:Js s.heap (cl.map (·.2)) cvs) (hf:∀q∈cl.map (·.2),H q=ah)
  (hb:cQ (W.kla_fn "<lambda>" (zx x) tx.1 tx.2.1 tx.2.2 cl pm (.ref c) ctv) ⟨us,[]⟩=pure (ps.zip us)) (rv:Vals vs us) (hl:vs.length=ps.length)
  (body:Room k (Yz P w K mg base N (zx x) tx.2.2 a (.ref c) cl A outer s H).A->Q6 (Yz P w K mg base N (zx x) tx.2.2 a (.ref c) cl A outer s H) tx.2.1 (start N (cvs++vs)) H Q) :
  cF (aA P w) A (.call (.ref a) ⟨us,[]⟩) (CR CX0 outer P w H s Q E) s:=by
 have lim:s.heap.NoLimit:=e0.mod.nolimit.keeps λb o e=>(e0.bs b o e).1;refine W.kla_callFunE (by have:=hr.dp;omega) ho rfl S.co S.gen rfl hcd ?_;rw[hb];refine av (wpAny_newFunctionEnv S.nocell (λy hy=>S.lps y.1 (dZ (a:=y.1) (b:=y.2) hy).1) (λh1 ns sb=>⟨lim.fresh _ sb,?_⟩) S.kind);show cF _ _ (.expr tx.2.1 (W.envX (zx x) tx.2.2 s.heap.objs.size a (.ref c) cl)) _ _;have kp:∀b o,s.heap.get? b=aa o->h1.get? b=aa o:=λb o e=>sb.extBut b o (X8 (xq e)) (kj _ e);have I:=jd4 (x:=x) (a:=a) (c:=c) (tk:=s.toks+(ps.zip us).length) hr.hd e0 S hn nd hc hf rv hl ns kp;refine W.kla_codeExpr (bR (body (hr.deeper _) [] _ I) (λu s' ⟨v,H',J,r,q⟩=>?_) λ_ _ z=>z.elim);exact⟨v,H',J.os,J.bare,J.base,J.hok,r,q⟩
end
mutual
noncomputable def noFn:D->Bool
 |.fn _ _=>ae
 |.tup ds=>Yu ds
 |.lst ds=>Yu ds
 |.dct _ ds=>Yu ds
 |_=>af
noncomputable def Yu:List D->Bool
 |[]=>af
 |d::ds=>noFn d&&Yu ds
end
section
variable{K:k7g}{H:Hp}{A:List ak}
def Cel(H:Hp)(A:List ak):Prop:=∀a∈A,∃oc v,H a=aa (.frz oc (.own 0))/\oc.data=.cell v
theorem Cel.out(hA:Cel H A){b:ak}{o:HO}(q:H b=aa o)(h:∀oc,o≠.frz oc (.own 0)):del H A b=aa o:=by rw[j5];exact q;intro y;obtain⟨oc,v,e,_⟩:=hA b y;rw[q]at e;exact h oc (aC e)
theorem Cel.seqT(hA:Cel H A){a:ak}{xs:List V}(h:SqT K H a xs):SqT K (del H A) a xs:=by
 rcases h with (h|⟨o,h⟩)|h
 .exact .inl (.inl (hA.out h λ_ z=>by cases z))
 .exact .inl (.inr ⟨o,hA.out h λ_ z=>by cases z⟩)
 .exact .inr h
theorem Cel.seq(hA:Cel H A){a:ak}{xs:List V}(h:SqL K H a xs):SqL K (del H A) a xs:=by
 rcases h with (h|⟨o,h⟩)|h
 .exact .inl (.inl (hA.out h λ_ z=>by cases z))
 .exact .inl (.inr ⟨o,hA.out h λ_ z=>by cases z⟩)
 .exact .inr h
mutual
theorem Enc.noc(hA:Cel H A):∀{d:D}{v:V},noFn d=af->Enc K H d v->Enc K (del H A) d v
 |.non,_,_,h=>h
 |.bl _,_,_,h=>h
 |.int _,_,_,h=>h
 |.str _,_,_,h=>h
 |.tup _,_,n,⟨a,xs,e,q,l⟩=>⟨a,xs,e,hA.seqT q,j6.noc hA (by simpa [noFn]using n) l⟩
 |.lst _,_,n,⟨a,xs,e,q,l⟩=>⟨a,xs,e,hA.seq q,j6.noc hA (by simpa [noFn]using n) l⟩
 |.dct _ _,_,n,⟨a,xs,ep,vs,e,q,ek,kt,rv,l⟩=>⟨a,xs,ep,vs,e,hA.out q (λ_ z=>by cases z),ek,λx hx=>hA.seqT (kt x hx),rv,j6.noc hA (by simpa [noFn]using n) l⟩
 |.sct _,_,_,⟨a,e,q⟩=>⟨a,e,hA.out q λ_ z=>by cases z⟩
 |.fn _ _,_,n,_=>by cases n
theorem j6.noc(hA:Cel H A):∀{ds:List D}{xs:List V},Yu ds=af->j6 K H ds xs->j6 K (del H A) ds xs
 |[],_,_,h=>h
 |d::ds,_,n,⟨x,r,e,h,l⟩=>by rw[Yu,Xb]at n;exact⟨x,r,e,Enc.noc hA n.1 h,j6.noc hA n.2 l⟩
end
theorem vm.cel:∀{cs:List ak}{vs:List V},vm H cs vs->Cel H cs
 |[],_,_=>λ_ h=>nomatch h
 |c::cs,_,⟨v,r,o,u,e,h,d,rv,l⟩=>λa ha=>(xr.mp ha).elim (λz=>⟨o,_,z▸h,d⟩) (l.cel a)
theorem vm.inn{P:ay}{w:aD}{h:aH}(ok:HOk P w H h):∀{cs:List ak}{vs:List V},vm H cs vs->Js h cs vs
 |[],_,e=>e
 |c::cs,_,⟨v,r,o,u,e,q,d,rv,l⟩=>⟨v,r,u,e,⟨o,(show jw P w H h c (.frz o (.own 0))from ok _ _ q).1,d⟩,rv,l.inn ok⟩
theorem vm.of_del{B:List ak}:∀{cs:List ak}{vs:List V},vm (del H B) cs vs->vm H cs vs:=λh=>h.mono jj
theorem TabOk.fz(h:TabOk K H)(hA:∀a∈A,Fz (H a)):TabOk K (L2.del H A):=λx hx c P z=>by have q:=h x hx c P z;rw[j5];exact q;intro y;rcases hA _ y with ⟨xs,e⟩|⟨oc,v,e,_⟩<;>(rw[q]at e;cases e)
end
def j3g(P:ay)(w:aD)(K:k7g)(mg:k7j)(base:aH)(k:Nat)(x:ao)(S:List D->D->Prop):Prop :=
 ∀(A:aG)(outer:List d9)(s:aq)(H:Hp)(a:ak)(B:List ak)(cs ds:List D) (d:D) (vs:List V) (us:List aj) (Q:VK) (E:XK),Room k A->Env0 P w K mg base A outer s H->TabOk K H->(∀b∈B,∃xs,H b=aa (.lst xs)) ->
  Enc K (del H B) (.fn x cs) (.ref a)->j6 K (del H B) ds vs->Yu ds=af->S (cs++ds) d->Vals vs us->(∀v H',j4 H H'->Enc K (del H' B) d v->Q v H')->cF (aA P w) A (.call (.ref a) ⟨us,[]⟩) (CR CX0 outer P w H s Q E) s
section
variable{P:ay}{w:aD}{K:k7g}{mg:k7j}{base:aH}{k:Nat}{x:ao}{S:List D->D->Prop}{tx:Tx}{N ps:List ao}
theorem jge(ht:j2u K x=aa tx)(Sc:LamScope N ps tx.2.2)(hl:∀ds d,S ds d->ds.length=N.length)
  (hb:∀(cl:List (ao×ak)) (pm:aj) (c:ak) (ctv:aj) (us:List aj),us.length=ps.length->cQ (W.kla_fn "<lambda>" (zx x) tx.1 tx.2.1 tx.2.2 cl pm (.ref c) ctv) ⟨us,[]⟩=pure (ps.zip us))
  (hbody:∀(a c:ak)(cl:List (ao×ak)) (A:aG) (outer:List d9) (s:aq) (H:Hp),cl.map (·.1)=V3 tx.2.2->Room k (Yz P w K mg base N (zx x) tx.2.2 a (.ref c) cl A outer s H).A->∀ds d,S ds d->DT (Yz P w K mg base N (zx x) tx.2.2 a (.ref c) cl A outer s H) (qg N ds) tx.2.1 d):j3g P w K mg base (k+1) x S:=by
 intro A outer s H a B cs ds d vs us Q E hr e0 tb hB en ea nf hS rv q;obtain⟨a',c,tx',cl,cvs,e,L,l⟩:=en;cases e;have et:tx'=tx:=aC (L.tx.symm.trans ht);subst et;have cs_at:vm H (cl.map (·.2)) cvs:=L.cs.of_del;have hA:∀b∈B++cl.map (·.2),Fz (H b):=λb hb=>(Xx.mp hb).elim (λz=>.inl (hB b z)) λz=>.inr (cs_at.cel b z);obtain⟨e1,back⟩:=j59 e0 hA;obtain⟨pm,ctv,hfo⟩:=L.fo;obtain⟨oc,hco,vs0,t0,hd0,hv0⟩:=L.co;have ho:=(show jw P w H s.heap a (.frz _ (.own 0))from e0.hok _ _ (of_del hfo).2).1;have hcd:s.heap.CodeRec (.ref c) (zx x):=⟨c,oc,vs0,t0,rfl,(show jw P w H s.heap c (.frz oc (.own 0))from e0.hok _ _ (of_del hco).2).1,hd0,hv0⟩
 have ll:=l.length;have la:=ea.length;have hlen:=hl _ _ hS;have lenC:(cl.map (·.2)).length=(V3 tx'.2.2).length:=by rw[<-L.nm,km,km]
 have lcv:=(cs_at.inn e0.hok).length;have hlv:vs.length=ps.length:=by rw[Sc.nm,X7,X7]at hlen;omega
 have celB:Cel (del H B) (cl.map (·.2)):=L.cs.cel;have ea1:j6 K (del H (B++cl.map (·.2))) ds vs:=by rw[<-Zt];exact ea.noc celB nf
 have l1:j6 K (del H (B++cl.map (·.2))) cs cvs:=by rw[<-Zt];exact l
 refine bO (j8d (E:=E) (Q:=λv F=>(∀a∈B++cl.map (·.2),F a=ah)->Q v (mrg (B++cl.map (·.2)) H F)) hr e1 ho hcd Sc L.nm L.nd (cs_at.inn e0.hok) (λb hb=>v9 (Xm _ hb)) (hb cl pm c ctv us (by rw[<-rv.length];exact hlv)) rv hlv λhrm=>?_) λr s' h=>back Q E E r s' h;refine hbody a c cl A outer s _ L.nm hrm (cs++ds) d hS _ _ _ (V4 (tb.fz hA) (l1.append ea1)) λv F g en' hF=>q v _ (Od g) (en'.mono λb o z=>?_);have nb:b∉B++cl.map (·.2):=λy=>by rw[hF b y]at z;cases z
 rw[j5 (λy=>nb (cS _ y)),jt nb];exact z
end
section
variable{X:Cx}{ρ:Rho}{e:ar}{es:List ar}{d:D}{cs ds:List D}{pos p:aP}{x y:ao}{i k:Nat}
end
section
variable{X:Cx}{pins:k7i}{σ:St}{H:Hp}{s:aq}
structure LMk(X:Cx)(x:ao):Prop where
 mem:x∈Vf
 qual:X.env.qual=x ++ ".<locals>."
 code:∃c P,X.env.code=.ref c/\W.codeHdIn X.K c P=af/\W.tabIn X.K x=aa (c,P)
def Own(X:Cx)(cs:List ak):Prop:=∀c∈cs,∃y,X.env.cells.lookup y=aa c/\X.fn y=af
end
def jn6(X:Cx)(ρ:Rho):List (ao×ak)->List D->Prop
 |[],ds=>ds=[]
 |p::cl,ds=>∃(d:D)(r:List D)(i:Nat),ds=d::r/\X.N[i]?=aa p.1/\X.env.scope.names.lookup p.1=aa .cell/\X.env.cells.lookup p.1=aa p.2/\X.fn p.1=af/\ρ[i]?=aa (.val d)/\jn6 X ρ cl r
section
variable{X:Cx}{pins:k7i}{σ:St}{H H2:Hp}{s s2:aq}{ρ:Rho}
end
section
variable{X:Cx}{ρ:Rho}{P:Po}{x:ao}{params:ig}{body:ar}{scope:bG}{cl:List (ao×ak)}{ds:List D}{pos p1 p2:aP}
end
section
variable{X:Cx}{ρ:Rho}{e a b c:ar}{es:List ar}{st:aQ}{rest sa sb body:List aQ}{P:Po}{d:D}{ds ds':List D}{pos p p1 p2 p3:aP}{x:ao}{i:Nat}
theorem Cal.comp{sp:Sp}{scope:bG}{C:ak}{s:aq}{H:Hp}{fp:List ak}{pn:k7i}(h:Cal X x sp):Cal (cCx X scope C s H fp pn) x sp:=⟨h.ex⟩
end
theorem zm(lo:Int)(n:Nat):(upto lo n).length=n:=by unfold upto;rw[km,Pr]
theorem Ib{lo:Int}{n:Nat}{d:D}(h:d∈upto lo n):∃j:Nat,j<n/\d=.int (lo+j):=by unfold upto at h;obtain⟨j,hj,e⟩:=Xd.mp h;exact⟨j,Xw.mp hj,e.symm⟩
theorem K5{lo:Int}{n j:Nat}{d:D}(h:(upto lo n)[j]?=aa d):j<n/\d=.int (lo+j):=by
 unfold upto at h;rw[Xa]at h;cases z:(aK n)[j]? with
 |none=>rw[z]at h;cases h
 |some k =>rw[z]at h;have hl:=(Xe.mp z).1;rw[Pr]at hl;have:=i7 (n:=n) (i:=j) hl;rw[this]at z;cases z;cases h;exact⟨hl,rfl⟩
section
variable{X:Cx}{ρ:Rho}{a b tg it:ar}{ds ds':List D}{d:D}{i:Int}{pos:aP}
end
mutual
def J8:D->Prop
 |.tup l=>l.length<=1000/\Qu l
 |.lst l=>l.length<=1000/\Qu l
 |.dct _ _=>False
 |.sct _=>False
 |.fn _ _=>False
 |_=>True
def Qu:List D->Prop
 |[]=>True
 |d::ds=>J8 d/\Qu ds
end
theorem W7:∀{ds:List D}{d:D},Qu ds->d∈ds->J8 d
 |x::xs,d,h,m=>by
  simp only[Qu]at h;rcases xr.mp m with e|m
  .subst e;exact h.1
  .exact W7 h.2 m
theorem Yx:∀{ds:List D},(∀d∈ds,J8 d)->Qu ds
 |[],_=>by simp only[Qu]
 |x::xs,h=>by simp only[Qu];exact⟨h x (xm ..),Yx λd m=>h d (xf _ m)⟩
theorem D.depL_mem:∀{ds:List D}{d:D},d∈ds->d.dep<=D.depL ds
 |x::xs,d,m=>by
  simp only[D.depL];rcases xr.mp m with e|m
  .subst e;omega
  .have:=D.depL_mem m;omega
theorem D.depL_of{n:Nat}:∀{ds:List D},(∀d∈ds,d.dep<=n)->D.depL ds<=n
 |[],_=>by simp only[D.depL];omega
 |x::xs,h=>by simp only[D.depL];have h1:=h x (xm ..);have h2:=D.depL_of (ds:=xs) λd m=>h d (xf _ m);omega
end L2
namespace L2
noncomputable def zc(b:Int):Nat->Int->List Int
 |0,_=>[]
 |i+1,n=>(n/b^i%b)::zc b i n
theorem Ji(b:Int):∀(m:Nat)(n:Int),(zc b m n).length=m
 |0,_=>rfl
 |m+1,n=>by rw[zc,xx,Ji b m n]
theorem Oo(b:Int):∀{m k:Nat}{n:Int},k<m->(zc b m n)[k]?=aa (n/b^(m-k-1)%b)
 |m+1,0,n,_=>by rw[zc];rfl
 |m+1,k+1,n,h=>by
  rw[zc,gu,Oo b nofun];have:m-k-1=m+1-(k+1)-1:=by omega
  rw[this]
end L2
end
section
namespace L2
open PySem PySem.Spec PyProof.Rows
def CX1(P:ay)(w:aD):CXT:=λouter H s E ev s'=>∃(e:ak)(C:aj)(H':Hp),ev=.ref e/\s'.os=s.os/\dR s'.gens/\Un (frs outer) [] H H' s.heap s'.heap/\HOk P w H' s'.heap /\
 Fl (λb=>∃o,s.heap.get? b=aa o) H' s'.heap e C/\E C ah H'
theorem jw.get{P:ay}{w:aD}{H:Hp}{h:aH}{a:ak}{o:HO}(x:jw P w H h a o):∃u,h.get? a=aa u:=by
 cases o with
 |lst xs=>obtain⟨_,_,_,_,e⟩:=x;exact⟨_,e⟩
 |tup xs=>obtain⟨_,_,_,⟨_,e,_⟩,_⟩:=x;exact⟨_,e⟩
 |dK kvs=>obtain⟨_,_,_,_,o,_,_,e,_⟩:=x;exact⟨_,e⟩
 |dT kvs=>obtain⟨_,_,_,_,o,_,_,e,_⟩:=x;exact⟨_,e⟩
 |dI xs ep=>obtain⟨_,_,_,o,_,e,_⟩:=x;exact⟨_,e⟩
 |set S n=>obtain⟨o,_,_,_,e,_⟩:=x;exact⟨_,e⟩
 |ins C dx fs=>obtain⟨_,_,_,e,_⟩:=x;exact⟨_,e⟩
 |own y=>obtain⟨_,e⟩:=x;exact⟨_,e⟩
 |xd fs=>obtain⟨_,⟨_,_,_,e,_⟩,_⟩:=x;exact⟨_,e⟩
 |rng lo hi=>obtain⟨_,_,_,e⟩:=x;exact⟨_,e⟩
 |frz ob u=>obtain⟨e,_⟩:=x;exact⟨_,e⟩
 |tbl ps=>exact⟨_,(show h.get? a=aa _ from x)⟩
 |cod q=>obtain⟨_,e,_⟩:=x;exact⟨_,e⟩
 |met f y=>exact⟨_,(show h.get? a=aa _ from x)⟩
 |ext φ=>obtain⟨_,⟨_,e⟩,_⟩:=x;exact⟨_,e⟩
section
variable{X:Cx}{pins:k7i}{σ:St}{H:Hp}{s:aq}
theorem Inv.old(I:Inv X pins σ H s){b:ak}(h:Old X pins b):∃o,s.heap.get? b=aa o:=by
 rcases h with ⟨o,q,n⟩|⟨p,hp,rfl⟩|rfl|⟨x,e⟩
 .exact I.base.there b o q n
 .exact⟨_,(I.pin p hp).1⟩
 .obtain⟨m,⟨o,_,_,e,_⟩,_⟩:=I.loc;exact⟨o,e⟩
 .obtain⟨v,o,e,_⟩:=I.cell x b e;exact⟨o,e⟩
end
section
variable{P:ay}{w:aD}{K:k7g}{mg:k7j}{base:aH}{N ps:List ao}{qual:ao}{scope:bG}{f:ak}{cd:aj}{A:aG}{outer:List d9}{s s':aq}{H H':Hp}{E:XK}{σ:St}{pins:k7i}{e:ak}{C:aj}
theorem j0w{as:List ak}{h':aH}{a0:aj}(I:Inv (qz (CX1 P w) P w K mg base N qual scope f cd A outer s H E) pins σ H' s')(F:Fl (Old (qz (CX1 P w) P w K mg base N qual scope f cd A outer s H E) pins) H' s'.heap e C)
  (hE:E C ah H') (ha:∀b,b∈as↔b∈frs (bx qual scope s.heap.objs.size f cd::outer)\/(¬(∃o,s.heap.get? b=aa o)/\H' b=ah/\b∈as)) (hfa:∀b∈frs (bx qual scope s.heap.objs.size f cd::outer),b∈as)
  (hL:Heap.LeftW (W.hideAll s'.heap as) (bx qual scope s.heap.objs.size f cd::outer) e C a0 s'.heap h'):CX1 P w outer H s E (.ref e) { s' with heap:=h' }:=by
 obtain⟨k1,k2,k3,k4⟩:=hL;have fr:∀b∈frs outer,∃o,s'.heap.get? b=aa o/\∀vs,o.data≠.fields vs:=λb hb=>by obtain⟨o,ho,hd⟩:=(I.stack.mem (show b∈frs (bx qual scope s.heap.objs.size f cd::outer)from xf _ hb)).2;exact⟨o,ho,hd⟩
 have sfree:∀b∈frs (bx qual scope s.heap.objs.size f cd::outer),H' b=ah:=I.stkFree;have keep:∀b o,s'.heap.get? b=aa o->b∉as->h'.get? b=aa o:=λb o q n=>k1 b o (W.hideAll_get _ q n);have nold:∀b o,s.heap.get? b=aa o->b∉frs outer->b∉as:=λb o q n z=>by
  rcases(ha b).mp z with z|⟨z,_⟩
  .rcases xr.mp z with z|z
   .have:=xq q;rw[show b=s.heap.objs.size from z]at this;exact absurd this (Pj _)
   .exact n z
  .exact z ⟨o,q⟩
 have ntrk:∀b u,H' b=aa u->b∉as:=λb u q z=>by
  rcases(ha b).mp z with z|⟨_,z,_⟩
  .rw[sfree b z]at q;cases q
  .rw[z]at q;cases q
 have slot:∀b∈frs outer,∀o,s'.heap.get? b=aa o->∃sl,h'.get? b=aa { o with slots:=sl }:=λb hb o q=>by obtain⟨o',ho,hd⟩:=fr b hb;rw[q]at ho;cases ho;exact k4 b o q hd
 have un:=I.base;refine⟨e,C,H',rfl,I.os,I.bare,⟨λb o q n hb _=>keep b o (un.keep b o q n hb (λz=>nomatch z)) (nold b o q hb),λb o q n hb _=>?_,λb o q n _=>un.free b o q n (λz=>nomatch z),λb o q _=>?_,un.tups,un.frzs,un.tbls⟩,
  λa o q=>(I.hok a o q).stay (λb u hb r=>keep b u r ?_) (λ_ z=>z) (λ_ _ z=>z) λ_ _ _ z=>z,?_,hE⟩
 .obtain⟨sl,q'⟩:=un.slot b o q n hb (λz=>nomatch z);obtain⟨sl',q2⟩:=slot b hb _ q';exact⟨sl',q2⟩
 .obtain⟨o',q'⟩:=un.there b o q (λz=>nomatch z);by_cases hb:b∈frs outer
  .obtain⟨sl,q2⟩:=slot b hb _ q';exact⟨_,q2⟩
  .exact⟨_,keep b o' q' (nold b o q hb)⟩
 .rcases hb with rfl|hb
  .exact ntrk _ _ q
  .exact ntrk _ _ hb
 .obtain⟨oe,vs,T,oT,ts,he,⟨hc,h0⟩,hd,h1,hnT,hTe,hT,hdT,h3⟩:=k3;refine⟨λb ⟨o,q⟩=>F.new b (.inl ⟨o,q,λz=>nomatch z⟩),F.free,oe,vs,a0,he,hc,hd,h0,.inr ⟨T,oT,ts,h1,hTe,hT,hdT,h3,?_,λb ⟨o,q⟩ z=>?_⟩⟩
  .cases r:H' T with
   |none=>rfl
   |some u =>obtain⟨ob,q⟩:=(I.hok T u r).get;rw[W.hideAll_get _ q (ntrk T u r)]at hnT;cases hnT
  .subst z;obtain⟨o',q'⟩:=un.there b o q (λz=>nomatch z);by_cases hb:b∈frs outer
   .obtain⟨o2,q2,nf⟩:=fr b hb;obtain⟨sl,q3⟩:=slot b hb o2 q2;rw[q3]at hT;cases hT;exact nf ts hdT
   .rw[W.hideAll_get _ q' (nold b o q hb)]at hnT;cases hnT
theorem Dw(I:Inv (qz (CX1 P w) P w K mg base N qual scope f cd A outer s H E) pins σ H' s')(F:Fl (Old (qz (CX1 P w) P w K mg base N qual scope f cd A outer s H E) pins) H' s'.heap e C)(hE:E C ah H') :
  (qz (CX1 P w) P w K mg base N qual scope f cd A outer s H E).xe (.ref e) s':=by
 obtain⟨oe,vs,a0,he,hc,hd,h0,hT⟩:=F.obj;have hsN:∀b,(∃o,s.heap.get? b=aa o)->Old (qz (CX1 P w) P w K mg base N qual scope f cd A outer s H E) pins b:=λb ⟨o,q⟩=>.inl ⟨o,q,λz=>nomatch z⟩;have hin:∀(as:List ak),(∀b∈frs (bx qual scope s.heap.objs.size f cd::outer),b∈as)->∀env∈bx qual scope s.heap.objs.size f cd::outer,∀a,env.frame=aa a->a∈as:=λas h env he a ha=>h a (Py.mpr ⟨env,he,ha⟩);subst hc;rcases hT with h1|⟨T,oT,ts,h1,hTe,hT,hdT,h3,hTf,hTn⟩
 .let as:=e::frs (bx qual scope s.heap.objs.size f cd::outer)
  have hfa:∀b∈frs (bx qual scope s.heap.objs.size f cd::outer),b∈as:=λb hb=>xf _ hb;refine wpAny_leaving_firstW (base:=W.hideAll s'.heap as) I.ok.frames (W.funFrames_hide I.stack (hin as hfa)) rfl he (λb o q=>W.of_hideAll _ q) (W.hideAll_none _ (xm ..)) hd h1 h0 λh' hL =>j0w I F hE (λb=>⟨λz=>?_,λz=>z.elim (hfa b) λz=>z.2.2⟩) hfa hL
  rcases xr.mp z with e1|z'
  .subst e1;exact .inr ⟨λq=>F.new _ (hsN _ q) rfl,F.free,z⟩
  .exact .inl z'
 .let as:=e::T::frs (bx qual scope s.heap.objs.size f cd::outer)
  have hfa:∀b∈frs (bx qual scope s.heap.objs.size f cd::outer),b∈as:=λb hb=>xf _ (xf _ hb);refine wpAny_leaving_nextW (base:=W.hideAll s'.heap as) (a0:=a0) I.ok.frames (W.funFrames_hide I.stack (hin as hfa)) rfl ⟨oe,vs,T,oT,ts,he,⟨rfl,h0⟩,hd,h1,W.hideAll_none _ (xf _ (xm ..)),hTe,hT,hdT,h3⟩
   (λb o q=>W.of_hideAll _ q) (W.hideAll_none _ (xm ..)) λh' hL =>
   j0w I F hE (λb=>⟨λz=>?_,λz=>z.elim (hfa b) λz=>z.2.2⟩) hfa hL
  rcases xr.mp z with e1|z'
  .subst e1;exact .inr ⟨λq=>F.new _ (hsN _ q) rfl,F.free,z⟩
  .rcases xr.mp z' with e1|z2
   .subst e1;exact .inr ⟨λq=>hTn _ (hsN _ q) rfl,hTf,z⟩
   .exact .inl z2
end
def spX(K:k7g)(mg:k7j)(S:List D->ao->Prop):Sp:=λvs H _ E=>∃ds x C,TabOk K H/\j6 K H ds vs/\S ds x/\mg x=aa C/\∀H',j4 H H'->E C ah H'
section
variable{P:ay}{w:aD}{K:k7g}{mg:k7j}{base:aH}{x qual:ao}{st:aQ}{f:ak}{fd:aL}{N ps:List ao}{k:Nat}
theorem j5c{S:List D->ao->Prop}(F:Fun K x qual st f fd)(Sc:FnScope N ps (j0 st))(hl:∀ds y,S ds y->ds.length=ps.length)
  (hbody:∀(cdv:aj)(A:aG)(outer:List d9)(s:aq)(H:Hp)(E:XK),U9 K f cdv->Room k (A.deeper (bx qual (j0 st) s.heap.objs.size f cdv))->∀ds y,S ds y ->
   DSs (qz (CX1 P w) P w K mg base N qual (j0 st) f cdv A outer s H E) (qg N ds) (jg st) { nx:=λ_=>False,rt:=λ_=>False,ex:=λz _=>z=y }):FnOk P w K mg base (CX1 P w) (k+1) f fd ps (spX K mg S):=by
 obtain⟨oc,od,dV,kV,doc,pm,an,cdv,ct,osl,rfl,lk,hcd⟩:=F.ex;refine Ly lk hcd Sc (λvs H Q E ⟨ds,y,C,tb,en,hS,_⟩=>by rw[en.length];exact hl ds y hS) λA outer s H vs Q E hr ⟨ds,y,C,tb,en,hS,hC,hE⟩=>⟨_,v7,?_⟩
 have ho:=Qt N ds;refine hbody cdv A outer s H E ⟨oc,od,_,osl,lk,rfl⟩ hr ds y hS (start N vs) H _ (V4 tb en) ⟨λρ' σ' H' n R f=>n.elim,λ_ _ _ z=>z.elim,λ_ _ _ z=>z.elim,λr v H' n z=>n.elim,λz ρ' σ' H' n R g=>?_⟩;cases(show z=y from n);intro pins H2 s' e C' I g2 hC' Fe;cases hC.symm.trans hC';unfold Fr0 at g;rw[ho,Jc]at g;exact Dw I Fe (hE H2 ((g.trans jj).trans g2))
end
def DX(X:Cx)(ρ:Rho)(e:ar)(x:ao):Prop:=∀σ H Q,Rep X.K ρ σ H->Rz X σ H x->Q6 X e σ H Q
def DXA(X:Cx)(ρ:Rho)(es:List ar)(x:ao):Prop:=∀σ H Q,Rep X.K ρ σ H->Rz X σ H x->Uz X es σ H Q
structure CalX(X:Cx)(x:ao)(sp:Sp):Prop where
 ex:∃(k:Nat)(f:ak)(fd:aL)(ps:List ao),FnOk X.prog X.w X.K X.mg X.base (CX1 X.prog X.w) k f fd ps sp/\Room k X.A/\X.mg x=aa (.ref f)/\W.keepIn X.K (.ref f)=af/\Binds X.K fd ps []
section
variable{X:Cx}{ρ:Rho}{e:ar}{es:List ar}{f x:ao}{ds:List D}{p pos:aP}{C:aj}
theorem DX.call {S:List D->ao->Prop} (c:CalX X f (spX X.K X.mg S)) (ha:DTA X ρ (e::es) ds) (hS:S ds x) (hC:X.mg x=aa C) (hg:Gl X f) (hdb:(f==k7k)=ae)
  (he:ai (e::es) X.env=(ae,aB e X.env)::ai es X.env) (hpl:(aT pos (ai es X.env)).any (·.1)=ae):DX X ρ (.Call (.Name f p) (e::es) [] pos) x:=λσ H Q R k pins s I=>by
 obtain⟨n,fa,fd,ps,F,hr,hm,hk,hb⟩:=c.ex;refine aU (Zr I hg hm ?_ hdb);refine W.callWith_K (h₀:=X.base) I.ok.mod.kin hk (thn (ha σ H (λvs H1=>j4 H H1/\j6 X.K H1 ds vs) R (λvs H1 g e=>⟨g,e⟩) pos pins s I) λus s1 ⟨vs,H1,I1,r,g,en⟩=>⟨I1.kIn,?_⟩) he hpl;have sp:spX X.K X.mg S vs H1 (λ_ _=>False) (λC' _ H'=>C'=C/\j4 H1 H'):=⟨ds,x,C,R.tb.mono g,en,hS,hC,λH' g=>⟨rfl,g⟩⟩
 have hl:us.length=ps.length:=by rw[<-r.length];exact F.len _ _ _ _ sp
 have hb':=hb s1 us I1.kIn (by rw[Xo];exact hl);rw[Xo]at hb';refine fF (bO (F.run X.A X.stack s1 H1 ⟨us,[]⟩ us vs _ _ hr I1.env0 hb' r sp) λr s' hq=>?_);cases r with
 |error ev =>obtain⟨e,C',H',rfl,os,bare,un,hok,fl,rfl,g'⟩:=hq;have I':Inv X pins σ H' s':=I1.call' os un hok bare (λb z=>nomatch z);refine k pins H' s' e C' I' (g.trans g') hC ⟨λb hb=>fl.new b (I1.old hb),fl.free,?_⟩;obtain⟨oe,ws,a0,q1,q2,q3,q4,q5⟩:=fl.obj;refine⟨oe,ws,a0,q1,q2,q3,q4,q5.imp id ?_⟩;rintro⟨T,oT,ts,z1,z2,z3,z4,z5,z6,z7⟩;exact⟨T,oT,ts,z1,z2,z3,z4,z5,z6,λb hb=>z7 b (I1.old hb)⟩
 |ok fl =>
  cases fl with
  |ret u=>obtain⟨_,_,_,_,_,_,_,z⟩:=hq;exact z.elim
  |next=>exact aS hq
  |brk=>exact aS hq
  |cont=>exact aS hq
end
section
variable{X:Cx}{ρ:Rho}{e:ar}{es:List ar}{x:ao}{d:D}{p pos np cpos:aP}{P:Po}{i:Int}{y:ao}{ys:List ao}
theorem DE.fmtI(ha:DT X ρ e (.int i))(hi:i.natAbs.log2<1920):DE X ρ (.FormattedValue e (-1) ah pos) (.str (toString i)):=λσ H Q R q pins s I=>by
 refine iV (thn (ha σ H (λv H1=>v=.int i/\j4 H H1) R (λv H1 g e=>⟨e,g⟩) pins s I) λu s1 ⟨v,H1,I1,r,ev,g⟩=>?_);subst ev;obtain⟨t,rfl⟩:=(show ∃t,u=bq i t from r)
 exact formatField_int_small hi ⟨.str (toString i),H1,I1.un (t':=s1.toks+1+1) Un.refl I1.hok,⟨_,rfl⟩,q _ H1 g rfl⟩
theorem DE.fmtS(ha:DT X ρ e (.str y))(hy:y.length<=au):DE X ρ (.FormattedValue e (-1) ah pos) (.str y):=λσ H Q R q pins s I=>by
 refine iV (thn (ha σ H (λv H1=>v=.str y/\j4 H H1) R (λv H1 g e=>⟨e,g⟩) pins s I) λu s1 ⟨v,H1,I1,r,ev,g⟩=>?_);subst ev;obtain⟨t,rfl⟩:=(show ∃t,u=b8 y t from r)
 exact kX (λt' tk=>⟨.str y,H1,I1.un (t':=tk) Un.refl I1.hok,⟨_,rfl⟩,q _ H1 g rfl⟩) hy
noncomputable def Lr(out:ao):List ao->ao
 |[]=>out
 |y::ys=>Lr (out++y) ys
def DPs(X:Cx)(ρ:Rho):List ar->List ao->Prop
 |[],[]=>True
 |e::es,y::ys=>DE X ρ e (.str y)/\DPs X ρ es ys
 |_,_=>False
theorem Il:∀{es:List ar}{ys:List ao}{out:ao}{n:Nat}{pins:k7i} {σ:St} {H0 H:Hp} {s:aq} {Q:VK},DPs X ρ es ys->(∀y∈ys,y.length<=10000)->out.length+10000*ys.length<=au->Inv X pins σ H s->Rep X.K ρ σ H->j4 H0 H ->
  (∀H',j4 H0 H'->Q (.str (Lr out ys)) H')->ax (aA X.prog X.w) X.A (joinParts out (evalEach es X.env)) (EP X pins σ Q) X.xe s
 |[],[],out,n,pins,σ,H0,H,s,Q,_,_,hl,I,R,g,q=>joinParts_nil ⟨.str out,H,I.un (t':=s.toks+1) Un.refl I.hok,⟨_,rfl⟩,q H g⟩ (by have:=hl;omega)
 |e::es,y::ys,out,n,pins,σ,H0,H,s,Q,hp,hy,hl,I,R,g,q=>by
  have hy0:=hy y (xm ..);rw[xx]at hl;refine joinParts_cons (thn (hp.1 σ H (λv H1=>v=.str y/\j4 H H1) R (λv H1 g e=>⟨e,g⟩) pins s I) λu s1 ⟨v,H1,I1,r,ev,g1⟩=>?_);subst ev;obtain⟨t,rfl⟩:=(show ∃t,u=b8 y t from r)
  have hz:(out++y).length<=out.length+10000:=by rw[strLen_append];omega
  exact⟨by omega,Il (n:=n) hp.2 (λz hz=>hy z (xf _ hz)) nofun I1 (R.grow g1) (g.trans g1) q⟩
 |[],_::_,_,_,_,_,_,_,_,_,h,_,_,_,_,_,_=>h.elim
 |_::_,[],_,_,_,_,_,_,_,_,h,_,_,_,_,_,_=>h.elim
theorem DE.joined{a b:ar}(h:DPs X ρ (a::b::es) ys)(hy:∀y∈ys,y.length<=10000)(hl:ys.length<=1000):DE X ρ (.JoinedStr (a::b::es) pos) (.str (Lr dM ys)):=λσ H Q R q pins s I =>
 JoinedStr_many (Il (n:=0) (out:=dM) h hy (by
  have e:Str.empty.length=0:=rfl
  rw[e,cg];omega) I R (j4.refl H) λH' g=>q _ H' g rfl)
theorem jde{Q:VK}{σ:St}{H:Hp}(he:Q6 X e σ H Q)(hs:ai [e] X.env=[(ae,aB e X.env)]):Uz X [e] σ H (λvs H'=>∃v,vs=[v]/\Q v H') :=
 (jc (es:=[]) peS jx hs).to λpins s I=>thn (he pins s I) λu s' ⟨v,H',I',r,q⟩=>⟨v,H',I',r,⟨v,rfl,q⟩⟩
theorem DS.raise{C:ak}{bm bmN:List aj}{newId B Bn nid initId inN:String}(O:OwnCls x C bm newId X.mg X.base)(Fn:ExcBaseFacts Bn newId inN bmN)(hBn:bm.contains (.type Bn)=af)(FB:ExcBaseFacts B nid initId bm)(hc:X.calm=af)
  (ha:∀σ H,Rep X.K ρ σ H->Q6 X e σ H λ_ H'=>j4 H H') (hP:P.ex x ρ) (hg:Gl X x) (hdb:(x==k7k)=ae) (he:ai [e] X.env=[(ae,aB e X.env)])
  : DS X ρ (.Raise (aa (.Call (.Name x np) [e] [] cpos)) ah pos) P:=λσ H E R q pins s I=>by
 obtain⟨tl,N,nm,qn,bs,hdct,sn,sub,ab,col,dd,k0,k1,k2,k3,k5,mN,hC,hN,hni,T⟩:=O.obj;refine wpAny_Raise_call_subU (C:=C) (nm:=nm) (q:=qn) (N:=N) (bs:=bs) (bm:=tl) (hdct:=hdct) (sn:=sn) (sub:=sub) (ab:=ab) (col:=col) (dd:=dd) (k0:=k0) (k1:=k1) (k2:=k2) (k3:=k3) (k5:=k5)
  Fn hBn FB (mN:=mN) (T.hasType FB.hasBase) (I.ok.hd hc) (by rw[he];rfl) hni (Zr I hg O.bound ⟨rfl,?_⟩ hdb)
 have hsp:=jde (ha σ H R) he cpos pins s I;rw[he]at hsp ⊢;refine cO (thn hsp λus s2 ⟨vs,H1,I1,r,v,ev,g⟩=>⟨rfl,?_,I1.bk _ _ hC,hN.keeps I1.bk,T.keeps I1.bk,λh' e' hm=>?_⟩)
 .show us.length<=au;rw[<-r.length,ev];show 1<=au;rw[cg];omega
 .have nold:∀b,(∃o,s2.heap.get? b=aa o)->b≠e':=λb ⟨o,q⟩ z=>by rw[z,hm.new]at q;cases q
  obtain⟨t,ht,_,_⟩:=hm.there;refine q.ex x ρ σ H hP R (Fr0.refl _ _) pins H1 { s2 with heap:=h' } e' (.ref C) (I1.un (t':=s2.toks) (Un.kept hm.keeps) (I1.hok.kept hm.keeps)) g O.bound ⟨λb hb=>nold b (I1.old hb),?_,_,_,_,ht,rfl,rfl,rfl,.inl rfl⟩;cases z:H1 e' with
  |none=>rfl
  |some u=>exact absurd rfl (nold e' (I1.hok e' u z).get)
end
structure FlT(N:ak->Prop)(H:Hp)(h:aH)(e:ak)(C fl:aj):Prop where
 new:∀b,N b->b≠e
 free:H e=ah
 obj:∃(oe:dm)(vs:Array aj)(a0:aj)(T:ak)(oT:dm)(ts:Array aj),h.get? e=aa oe/\oe.cls=C/\oe.data=.fields vs/\vs[0]?=aa a0/\vs[1]?=aa (.ref T)/\T≠e/\h.get? T=aa oT/\oT.data=.fields ts/\ts[3]?=aa fl /\
  H T=ah/\∀b,N b->b≠T
section
variable{X:Cx}{pins:k7i}{σ:St}{H:Hp}{s:aq}{e:ak}{C fl:aj}{M:iU}{A:aG}{E:k7h}
end
end L2
end
section
namespace PySem.W
open PySem PySem.Spec PySem.Calls PyProof.Rows Builtin Builtin.ObjectAttr Builtin.Getset_descriptor
section
variable{prog:ay}{w:aD}{A:aG}{E:k7h}{h:aH}{g:Array f6}{d:Drawn}{t:Nat}{os:OsState}{K:lx}{e C:ak}
end
end PySem.W
end
section
namespace L2
open PySem PySem.Spec PyProof.Rows
noncomputable def J4:List ao:=["WrongSize","NoAsk","NoWord","Twice","WrongAnswers","Unlike","NoPlace","NoText","WrongPrices","WrongWeights","NoPlan"]
noncomputable def bmV:List aj:=[.type "ValueError",.type "Exception",.type "BaseException",.type "object"]
noncomputable def j6m(K:k7g)(C:ak):Bool:=W.findIn K (.ref C) "__getattribute__" == aa (aa (.builtin "BaseException.__getattribute__"))&&(W.findIn K (.ref C) "__getattr__" == aa ah&&(W.subIn K (.ref C) (.type "BaseException")==aa af &&
 (W.findIn K (.ref C) "__class__" == aa (aa (.builtin "object.__class__"))&&(W.mroIn K C (.type "object")==aa af&&((W.clsIn K C).isSome&&W.excIn K C bmV "ValueError.__new__")))))
noncomputable def Mi(K:k7g):Bool:=J4.all λx=>match W.nsIn K aw x with
 |some (aa (.ref C))=>j6m K C&&(W.kitOne K (.ref C) (.type "ValueError")==aa af&&((match W.nsIn K aw "AskError" with
   |some (aa a)=>W.exmOne K (.ref C) a==aa af
   |_=>ae)&&J4.all λc=>match W.nsIn K aw c with
   |some (aa v)=>W.kitOne K (.ref C) v==aa (x==c)
   |_=>af))
 |some (aa _)=>ae
 |_=>af
structure XcOk(K:k7g)(C:ak):Prop where
 ga:W.findIn K (.ref C) "__getattribute__" = aa (aa (.builtin "BaseException.__getattribute__"))
 gt:W.findIn K (.ref C) "__getattr__" = aa ah
 sub:W.subIn K (.ref C) (.type "BaseException")=aa af
 cls:W.findIn K (.ref C) "__class__" = aa (aa (.builtin "object.__class__"))
 mro:W.mroIn K C (.type "object")=aa af
 is:(W.clsIn K C).isSome=af
 exc:W.excIn K C bmV "ValueError.__new__" = af
theorem jb0{K:k7g}{C:ak}(h:j6m K C=af):XcOk K C:=by unfold j6m at h;simp only[Xb,beq_iff_eq]at h;exact⟨h.1,h.2.1,h.2.2.1,h.2.2.2.1,h.2.2.2.2.1,h.2.2.2.2.2.1,h.2.2.2.2.2.2⟩
structure ExOne(K:k7g)(x:ao)(C:ak):Prop where
 ok:XcOk K C
 val:W.kitOne K (.ref C) (.type "ValueError")=aa af
 ask:∃a,W.nsIn K aw "AskError" = aa (aa a)/\W.exmOne K (.ref C) a=aa af
 one:∀c∈J4,∀v,W.nsIn K aw c=aa (aa v)->W.kitOne K (.ref C) v=aa (x==c)
theorem j95{K:k7g}(h:Mi K=af){x:ao}{o:aj}(hx:x∈J4)(e:W.nsIn K aw x=aa (aa o)):∃C,o=.ref C/\ExOne K x C:=by
 have q:=Xq.mp h x hx;rw[e]at q;cases o with
 |ref C =>
  refine⟨C,rfl,?_⟩;dsimp only at q;simp only[Xb,beq_iff_eq]at q;obtain⟨q1,q2,q3,q4⟩:=q;refine⟨jb0 q1,q2,?_,λc hc v ev=>?_⟩
  .split at q3
   .rename_i a ea;exact⟨a,ea,beq_iff_eq.mp q3⟩
   .cases q3
  .have z:=Xq.mp q4 c hc;rw[ev]at z;exact beq_iff_eq.mp z
 |_=>cases q
theorem jc7{K:k7g}{h₀:aH}{C:ak}{bmB:List aj}{newId:String}{x:ao}{mg:k7j}(X:K.In h₀)(hb:mg x=aa (.ref C))(q:W.excIn K C bmB newId=af):OwnCls x C bmB newId mg h₀:=by
 refine⟨hb,?_⟩;unfold W.excIn at q;split at q
 .rename_i dd cd sl ho;split at q
  .rename_i C' bm k0 k1 k2 k3 n k5 hm hs;simp only[Xb,beq_iff_eq,dC]at q;obtain⟨⟨⟨⟨⟨rfl,rfl⟩,hdel⟩,ht⟩,hok⟩,hni⟩:=q;obtain⟨nm,bs,mro,ns,qn,hd,sn,sub,ab,col,del⟩:=cd;dsimp only at hm hdel hok hni;subst hm hdel;have hsl:sl = #[k0,k1,k2,k3,aa (.builtin n),k5]:=by obtain⟨l⟩:=sl;simp only at hs;rw[hs]
   subst hsl;exact⟨bm,ns,nm,qn,bs,hd,sn,sub,ab,col,dd,k0,k1,k2,k3,k5,_,X _ _ ho,.of_isNs (W.isNs_of_in X hok),W.nsMap_none_of_in X hok hni,W.tail_of_in X ht⟩
  .cases q
 .cases q
theorem DS.raiseE{X:Cx}{ρ:Rho}{e:ar}{x:ao}{o:aj}{np cpos pos:aP}{P:Po}(ha:Mi X.K=af)(hx:x∈J4)(hn:W.nsIn X.K aw x=aa (aa o))(hb:X.mg x=aa o)(hK:X.K.In X.base)(hc:X.calm=af)
  (he:∀σ H,Rep X.K ρ σ H->Q6 X e σ H λ_ H'=>j4 H H') (hP:P.ex x ρ) (hg:Gl X x) (hdb:(x==k7k)=ae) (hs:ai [e] X.env=[(ae,aB e X.env)]):DS X ρ (.Raise (aa (.Call (.Name x np) [e] [] cpos)) ah pos) P:=by
 obtain⟨C,rfl,F⟩:=j95 ha hx hn;exact DS.raise (jc7 hK hb F.ok.exc) fC (by decide +kernel) fC hc he hP hg hdb hs
section
variable{X:Cx}{pins pins':k7i}{σ:St}{H:Hp}{s:aq}{xe:k7h}{e:ak}
noncomputable abbrev Cx.hnd(X:Cx)(e:ak):Cx:={ X with A:=X.A.mark (aa (.ref e)),calm:=ae,xe:=λ_ _=>False }
end
section
variable{X:Cx}{ρ:Rho}{i:Nat}{a:ak}{o:dm}{x y c c1 c2:ao}{p p1 p2 p3 p4 p5 pos:aP}{k:Bool}
end
structure KindsP(P:ay)(w:aD)(K:k7g)(mg:k7j)(base:aH)(f x:ao)(l:List D):Prop where
 ex:∃fa:ak,mg f=aa (.ref fa)/\W.keepIn K (.ref fa)=af/\∀(A:aG)(outer:List d9)(s:aq)(H:Hp)(e:ak)(o:dm),A.depth+4<eV->A.units+150<bF->Env0 P w K mg base A outer s H->TabOk K H ->
  H e=aa (.frz o (.own e))->W.nsIn K aw x=aa (aa o.cls) ->
  cF (aA P w) A (.call (.ref fa) ⟨[.ref e],[]⟩) (CR CX0 outer P w H s (λv H'=>∃a xs,v=.ref a/\j4 H H'/\H a=ah/\H' a=aa (.lst xs)/\j6 K (del H' [a]) l xs) E0) s
 nl:qj l=af
abbrev Kinds(X:Cx)(f x:ao)(l:List D):Prop:=KindsP X.prog X.w X.K X.mg X.base f x l
section
variable{X:Cx}{ρ:Rho}{i j:Nat}{e:ak}{o:dm}{f x n k A:ao}{l:List D}{P:Po}{body:List aQ}{p p1 p2 p3 p4 p5 pos hpos:aP}
end
section
variable{X:Cx}{ρ:Rho}{i j:Nat}{f n k:ao}{P:Po}{body:List aQ}{p p1 p2 p3 p4 p5 pos hpos:aP}
end
section
variable{P:ay}{w:aD}{K:k7g}{mg:k7j}{base:aH}{f:ak}{g x pn:ao}{st:aQ}{fd:aL}{N:List ao}{l:List D}
end
section
variable{X:Cx}
def jmb:V->Option Int->Option Int->Hp->VK->Prop:=λx lo hi H Q=>∃z,x=.str z/\z.length<=au/\Q (.str (c8 z lo hi)) H
theorem part_of{v:aj}{o:Option Int}(h:eZ v o):∃l:Option (Int×dz),v=partValue l/\l.map (·.1)=o:=by
 cases h with
 |none=>exact⟨ah,rfl,rfl⟩
 |int i t=>exact⟨aa (i,t),rfl,rfl⟩
theorem jep:SlR X jmb:=by intro pins s σ H x v vl vu lo hi sl Q I rx hs pl pu h;obtain⟨z,ex,hz,q⟩:=h;subst ex;obtain⟨t,ev⟩:=rx;subst ev;obtain⟨l,el,ml⟩:=part_of pl;obtain⟨u,eu,mu⟩:=part_of pu;subst el eu ml mu;obtain⟨o,h1,h2,h3⟩:=hs;refine⟨"str",_,PySem.F.slot_str_getitem.lookup,cX s z t,wpAny_getItem_str_slice (l:=l) (u:=u) (st:=ah) ⟨o,h1,h2,h3⟩ rfl ?_⟩;exact post_val_or_str ⟨Xf (Txt.slice_le z _ _) hz,λt' k=>⟨.str _,H,I.tok k,⟨_,rfl⟩,q⟩⟩
theorem j0p:∀{ts:List ao}{us:List aj},Vals (ts.map V.str) us->∃l:List (ao×dz),us=strValues l/\l.map (·.1)=ts
 |[],_,r=>by cases r;exact⟨[],rfl,rfl⟩
 |t::ts,_,r=>by
  cases r with
  |cons a b =>obtain⟨k,e⟩:=a;obtain⟨l,e1,e2⟩:=j0p b;subst e e1 e2;exact⟨(t,k)::l,rfl,rfl⟩
theorem jcd:MtR X "str.join" (λx vs H Q=>∃(sep:ao)(l:ak)(ts:List ao),x=.str sep/\vs=[.ref l]/\SqL X.K H l (ts.map V.str)/\cq sep ts=af/\Q (.str (cD sep ts)) H):=by rintro pins s σ H x vs v us Q I rx rv ⟨sep,l,ts,e,e',sq,hok,q⟩;subst e e';obtain⟨t,ev⟩:=rx;subst ev;obtain⟨u,eu,ru⟩:=rv.one;subst eu;cases ru;obtain⟨its,ri,pl,_⟩:=I.list sq;obtain⟨ps,e1,e2⟩:=j0p ri;subst e1 e2;unfold cq at hok;rw[dC]at hok;exact bE i9 (cX _ _ _) F.entry_str_join (F.args_str_join_2 _ _) (meets_str_join_list sep t l ps hok) ⟨pl.isList,post_join ps ⟨joinFit_length hok,λt' k=>⟨.str _,H,I.tok k,⟨_,rfl⟩,q⟩⟩⟩
theorem j64 (hc:X.calm=af):J9 X (.builtin "sum") (λxs H Q=>∃(lst:Bool)(l:ak)(ns:List Int),xs=[.ref l]/\SqB X.K lst H l (ns.map V.int)/\Q (.int ns.sum) H):=by
 rintro pins s σ H xs us Q I r ⟨lst,l,ns,e,sq,q⟩;subst e;obtain⟨u,eu,ru⟩:=vals1 r;subst eu;cases ru;obtain⟨its,rv,pl,_⟩:=I.side sq;have hl:its.length=ns.length:=by rw[<-rv.length,km]
 have val:∀i v,its.toArray[i]?=aa v->∃t,v=bq (ns.getD i 0) t:=by
  intro i v hv;have hi:i<its.length:=by obtain⟨h,_⟩:=Array.getElem?_eq_some_iff.mp hv;simpa using h
  have hi':i<ns.length:=by omega
  obtain⟨w1,hw,rw1⟩:=rv.get (x:=.int (ns.getD i 0)) (i:=i) (by rw[Xa,kh hi',xn,kh hi'];rfl);have:its.toArray[i]?=aa w1:=by simpa using hw
  rw[this]at hv;cases hv;exact rw1
 have tot:preSum (λi=>ns.getD i 0) its.toArray.size=ns.sum:=by rw[preSum_getD,Tf (by rw[X4];omega)]
 have fin:∀(o:dm)(s':aq)(t':dz),Moved [s.heap.objs.size] (λa b=>b=a) { s with heap:=s.heap.push o } s'->EP X pins σ Q (.int (preSum (λi=>ns.getD i 0) its.toArray.size) t') s':=λo s' t' mv=>by obtain⟨hh,gg,dd,tt,oo⟩:=s';obtain⟨m1,m2,m3,m4,m5⟩:=mv;cases m2;cases m3;cases m4;rw[tot];refine⟨.int _,H,I.kept (t':=tt) λb o e=>m1 b o ?_ (kj _ e),⟨_,rfl⟩,q⟩;intro z;rw[X3.mp z]at e;exact Pj _ (xq e)
 unfold je at pl;cases lst with
 |true =>
  rw[if_pos rfl]at pl;have hlt:l<s.heap.objs.size:=by obtain⟨_,e,_⟩:=pl;exact xq e
  refine jS (bM pl ⟨s.heap.objs.size,[s.heap.objs.size,l],[s.heap.objs.size],_,its.toArray.size,_,_,λi=>ns.getD i 0,rfl,(Walks.list (A:=X.A.in1) (I.ok.hd hc) _ _ (X8 hlt) its.toArray).toS,⟨⟨_,xu _ rfl,rfl,rfl⟩,pl.push _⟩,?_,val,λs' t' mv=>fin _ s' t' mv⟩);intro b hb;show b<(s.heap.push _).objs.size;rw[Xi];rcases xr.mp hb with z|z
  .rw[z];exact Pq _
  .rw[X3.mp z];exact Tu hlt
 |false =>
  rw[if_neg xj]at pl;have hlt:l<s.heap.objs.size:=by obtain⟨_,e,_⟩:=pl;exact xq e
  refine jS (fE pl ⟨s.heap.objs.size,[s.heap.objs.size,l],[s.heap.objs.size],_,its.toArray.size,_,_,λi=>ns.getD i 0,rfl,(Walks.tuple (A:=X.A.in1) (I.ok.hd hc) _ _ (X8 hlt) its.toArray).toS,⟨⟨_,xu _ rfl,rfl,rfl⟩,pl.push _⟩,?_,val,λs' t' mv=>fin _ s' t' mv⟩);intro b hb;show b<(s.heap.push _).objs.size;rw[Xi];rcases xr.mp hb with z|z
  .rw[z];exact Pq _
  .rw[X3.mp z];exact Tu hlt
end
section
variable{X:Cx}{ρ:Rho}{a b e:ar}{ds:List D}{i j:Int}{pos p p1 p2:aP}{y z:ao}{lo hi:Option ar}{l u:Option Int}
theorem Rq{K:k7g}{H:Hp}:∀{ts:List ao}{xs:List V},j6 K H (ts.map D.str) xs->xs=ts.map V.str
 |[],_,h=>h
 |t::ts,_,⟨x,r,e,h,l⟩=>by subst e;cases(show x=.str t from h);rw[Rq l];rfl
theorem Qk{K:k7g}{H:Hp}:∀{ts:List Int}{xs:List V},j6 K H (ts.map D.int) xs->xs=ts.map V.int
 |[],_,h=>h
 |t::ts,_,⟨x,r,e,h,l⟩=>by subst e;cases(show x=.int t from h);rw[Qk l];rfl
theorem DE.lenS (ha:DT X ρ a (.str y)) (hy:y.length<=au) (hm:X.mg "len" = ah) (hg:Gl X "len") (hs:ai [a] X.env=[(ae,aB a X.env)]):DE X ρ (.Call (.Name "len" p) [a] [] pos) (.int y.length):=λσ H Q R q =>(v8 Ew hg hm cj (jc peS jx hs) (by decide) (by decide) hs).to (ha σ H _ R λv H1 g1 e1=>⟨y,by rw[show v=.str y from e1],hy,q _ H1 g1 rfl⟩)
theorem DE.catS(ha:DT X ρ a (.str y))(hb:DT X ρ b (.str z))(hl:y.length+z.length<=au):DE X ρ (.BinOp a .Add b pos) (.str (y++z)):=λσ H Q R q =>(Vm j2j peS peS).to (ha σ H _ R λv H1 g1 e1=>hb σ H1 _ (R.grow g1) λu H2 g2 e2=>⟨y,z,e1,e2,hl,q _ H2 (g1.trans g2) rfl⟩)
theorem DE.ixC{c:Nat}(ha:DT X ρ a (.str y))(hb:DT X ρ b (.int i))(hy:y.length<=au)(h:L2.atI y.cps.toList i=aa c)(hs:Y4 b):DE X ρ (.Subscript a b pos) (.str ⟨#[c]⟩):=λσ H Q R q =>(M7 jgn peS peS hs).to (ha σ H _ R λv H1 g1 e1=>hb σ H1 _ (R.grow g1) λu H2 g2 e2=>⟨y,i,c,e1,e2,hy,h,q _ H2 (g1.trans g2) rfl⟩)
theorem DE.sliceS(ha:DT X ρ a (.str y))(hl:DP X ρ lo l)(hu:DP X ρ hi u)(hy:y.length<=au):DE X ρ (.Subscript a (.Slice lo hi ah p2) pos) (.str (c8 y l u)):=λσ H Q R q =>(Og jep peS poS poS).to (ha σ H _ R λv H1 g1 e1=>hl σ H1 _ (R.grow g1) λH2 g2=>hu σ H2 _ (R.grow (g1.trans g2)) λH3 g3=>⟨y,e1,hy,q _ H3 (g1.trans (g2.trans g3)) rfl⟩)
theorem DE.int1 {k:Bool} (ha:DT X ρ a (.bl k)) (hm:X.mg "int" = ah) (hg:Gl X "int") (hs:ai [a] X.env=[(ae,aB a X.env)]):DE X ρ (.Call (.Name "int" p) [a] [] pos) (.int (if k then 1 else 0)):=λσ H Q R q =>(V6 j6c hg hm boot_int (jc peS jx hs) (by decide) (by decide) hs).to (ha σ H _ R λv H1 g1 e1=>.inr ⟨k,by rw[show v=.bl k from e1],q _ H1 g1 rfl⟩)
theorem DE.sum (lst:Bool) {ns:List Int} (ha:DT X ρ a (D.seq lst (ns.map D.int))) (hm:X.mg "sum" = ah) (hc:X.calm=af) (hg:Gl X "sum") (hs:ai [a] X.env=[(ae,aB a X.env)]):DE X ρ (.Call (.Name "sum" p) [a] [] pos) (.int ns.sum):=λσ H Q R q =>
 (v8 (j64 hc) hg hm boot_sum (jc peS jx hs) (by decide) (by decide) hs).to (ha σ H _ R λv H1 g1 e1=>by
  obtain⟨t,xs,ev,sq,en⟩:=Jr e1
  subst ev
  rw[Qk en]at sq
  exact⟨lst,t,ns,rfl,sq,q _ H1 g1 rfl⟩)
theorem DE.join{sep:ao}{ts:List ao}{n:Nat}{p0:aP}(ha:DT X ρ a (.lst (ts.map D.str)))(hok:cq sep ts=af)
  (hfew:((aT p2 (ai [a] X.env)).all (λx=>!x.1)&&(cK p2 (bB [] X.env)).all (λx=>x.1.isSome)&&decide (([a]:List ar).length+([]:List bu).length+(if ([]:List bu).isEmpty then 0 else 1)<30))=af)
  (hbase:aY (.Constant (.str sep) n p0) "join" X.env (aB (.Constant (.str sep) n p0) X.env)=aB (.Constant (.str sep) n p0) X.env)
  (hline:(p1.endLine==p2.line)=af) (hs:ai [a] X.env=(ae,aB a X.env)::ai [] X.env):DE X ρ (.Call (.Attribute (.Constant (.str sep) n p0) "join" p1) [a] [] p2) (.str (cD sep ts)):=λσ H Q R q =>
 (M8 fZ i9 PySem.F.type_str_join jcd Rh (jc peS jx hs) hbase hfew hline hs rfl).to ⟨rfl,ha σ H _ R λv H1 g1 ⟨t,xs,e,sq,en⟩=>⟨sep,t,ts,rfl,by rw[e],by rw[Rq en]at sq;exact sq,hok,q _ H1 g1 rfl⟩⟩
end
section
variable{prog:ay}{w:aD}{A:aG}{lst:Bool}{j t:ak}{its:Array aj}
theorem j31(hh:A.handled=ah)(hne:t≠j):Draws prog w A j [j,t] its.size (λi v=>its[i]?=aa v) (λi h=>jh lst h j t i/\je lst h t its) where
 live:=λ_ _ st=>by obtain⟨o,e,_⟩:=st.1.obj;exact⟨o,e⟩
 frame:=λ_ h h' st hk=>⟨st.1.stay λo e=>hk j (by simp) o e,by
  have q:=st.2
  unfold je at q ⊢
  cases lst with
  |true=>rw[if_pos rfl]at q ⊢;exact q.at λo e=>hk t (by simp) o e
  |false=>rw[if_neg xj]at q ⊢;exact q.at λo e=>hk t (by simp) o e⟩
 item:=λi s Q E hi st hQ=>Z3 st.1 st.2 (y:=its[i]) (by simp[hi]) λh' hit' hs'=>hQ _ h' s.toks (by simp[hi]) ⟨hit',st.2.ext hs'.extBut hne⟩ hs'
 done:=λs Q E st hE=>Y7 hh st.1 st.2 (by simp) hE
theorem j5g{n:Nat}(hh:A.handled=ah)(hne:t≠j)(hn:its[n]?=ah):Draws prog w A j [j,t] n (λi v=>its[i]?=aa v) (λi h=>i=n/\jh lst h j t i/\je lst h t its) where
 live:=λ_ _ st=>by obtain⟨o,e,_⟩:=st.2.1.obj;exact⟨o,e⟩
 frame:=λ_ h h' st hk=>⟨st.1,st.2.1.stay λo e=>hk j (by simp) o e,by
  have q:=st.2.2
  unfold je at q ⊢
  cases lst with
  |true=>rw[if_pos rfl]at q ⊢;exact q.at λo e=>hk t (by simp) o e
  |false=>rw[if_neg xj]at q ⊢;exact q.at λo e=>hk t (by simp) o e⟩
 item:=λi s Q E hi st hQ=>absurd st.1 (X8 hi)
 done:=λs Q E st hE=>Y7 hh st.2.1 st.2.2 hn hE
end
noncomputable abbrev eh2(h:aH)(lst:Bool)(t:ak):aH:=(zh1 h lst t).push { cls:=.type "enumerate",data:=.fields #[.none,.bool ae,.ref h.objs.size,eW 0,.none,.none] }
theorem j97 {lst:Bool} (t:ak) (its:Array aj):jV (bV.«enumerate.__new__» ⟨[.type "enumerate",.ref t],[]⟩) (λ_ R s=>je lst s.heap t its/\R (.ok (.ret (.ref (zh1 s.heap lst t).objs.size))) { s with heap:=eh2 s.heap lst t }) :=
 .of_wp λprog w A R s h=>by
  obtain⟨hp,g,d,tk,os⟩:=s;obtain⟨h1,h⟩:=h;have hsub:=sub_enumerate;have e1:je lst (Shared.heap ⟨hp,g,d,tk,os⟩) t its:=h1;have ld:∃o:dm,hp.get? t=aa o:=by
   unfold je at e1;cases lst with
   |true=>rw[if_pos rfl]at e1;obtain⟨o,e,_⟩:=e1;exact⟨o,e⟩
   |false=>rw[if_neg xj]at e1;obtain⟨o,e,_⟩:=e1;exact⟨o,e⟩
  obtain⟨o,ho⟩:=ld
  wp_walk using cw ho
  refine wpAny_stack_any λstk=>?_;refine av ?_;split
  .rename_i cl _ _ _ _ _;cases(cl==cC "enumerate")
   .wp_walk using cw ho,V9 e1
    exact⟨_,rfl,h⟩
   .wp_walk using cw ho,V9 e1
    exact⟨_,rfl,h⟩
  .wp_walk using cw ho,V9 e1
   exact⟨_,rfl,h⟩
noncomputable def Ite(K:k7g)(lst:Bool)(t:ak):It :=
 ⟨λi H=>∃xs x,SqB K lst H t xs/\xs[i]?=aa x,
 λi H v H'=>∃p x,v=.ref p/\H p=ah/\H'=upd H p (.tup [.int (i:Int),x])/\∀xs,SqB K lst H t xs->xs[i]?=aa x,
 λi H=>∃xs,SqB K lst H t xs/\xs.length<=i⟩
theorem j3o{P:ay}{w:aD}{K:k7g}{es:List ar}{n:Nat}{pos:aP}{lst:Bool}{z j t:ak}(hzj:z≠j)(hzt:z≠t)(htj:t≠j) :
  Turn P w K (.Tuple es n pos) (Ite K lst t) [z,j] z (λi h=>(∃old,IsEnum h z j (i:Nat) old)/\jh lst h j t i) where
 mem:=by simp
 obj:=λi h ⟨⟨old,hz⟩,h1⟩ c hc=>by
  simp at hc;rcases hc with rfl|rfl
  .exact⟨_,hz,λv e=>by cases e⟩
  .exact h1.obj
 keep:=λi h h' ⟨⟨old,hz⟩,h1⟩ k=>⟨⟨old,k z (by simp) _ hz⟩,h1.stay λo e=>k j (by simp) o e⟩
 item:=by
  rintro X hP hw hK hc i pins s σ H E I hf ⟨⟨old,hz⟩,h1⟩ ⟨xs,x,sx,hx⟩;subst hP hw hK;obtain⟨us,ru,qu,_⟩:=I.side sx;obtain⟨u,hu,rx⟩:=ru.get hx;have hlt:i<us.toArray.size:=by obtain⟨h,_⟩:=Xe.mp hu;simpa using h
  refine wpAny_pyNext_enum_itemD (j31 (A:=X.A.in1) (I.ok.hd hc) htj) hz ⟨h1,qu⟩ hlt hzj (by simp[hzj,hzt]) λv h' tk hv ho st ht sz kp=>⟨_,rfl,?_⟩
  have ev:u=v:=by
   have:us.toArray[i]?=aa u:=by simpa using hu
   rw[this]at hv;exact aC hv
  subst ev;refine wpAny_letOwnedTupleGo_enum (s:={ s with heap:=h',toks:=tk+1 }) ho λh'' z'' sb=>?_
  replace sb:bU z h' h'':=sb
  have zlt:z<s.heap.objs.size:=xq hz;have kp':∀c o,c∉[z,j]->s.heap.get? c=aa o->h''.get? c=aa o:=λc o nc e=>by simp at nc;exact sb.extBut _ _ nc.1 (kp c o nc.1 nc.2 e)
  have pt:ij h'' s.heap.objs.size [.int i tk,u].toArray:=⟨_,sb.extBut _ _ (Pg zlt) ht,rfl,_,rfl⟩
  have I2:=(I.chgT hf kp' (xs:=[.int (i:Int),x]) (.cons ⟨tk,rfl⟩ (.cons rx .nil)) (by show 2<=au;decide) pt (Zj.of (sb.extBut _ _ (Pg zlt) ht))).tok (tk+1);refine⟨.ref s.heap.objs.size,_,I2,rfl,⟨_,x,rfl,I.fresh,rfl,λws hw=>by rw[I.side_inj hw sx];exact hx⟩,⟨⟨u,?_⟩,st.1.ext sb.extBut (eC hzj)⟩,λc hc=>?_⟩
  .have e:((i+1:Nat):Int)=(i:Int)+1:=by push_cast;rfl
   rw[e];exact z''
  .obtain⟨o,e⟩:∃o,s.heap.get? c=aa o:=by
    simp at hc;rcases hc with rfl|rfl
    .exact⟨_,hz⟩
    .obtain⟨o,e,_⟩:=h1.obj;exact⟨o,e⟩
   rw[ji (X8 (xq e))];exact(hf c hc).1
 done:=by
  rintro X hP hw hK hc i pins s σ H E I hf ⟨⟨old,hz⟩,h1⟩ ⟨xs,sx,hend⟩;subst hP hw hK;obtain⟨us,ru,qu,_⟩:=I.side sx;have e1:=ru.length;have hn:us.toArray[i]?=ah:=by simp;omega
  refine wpAny_pyNext_enum_endD (j5g (A:=X.A.in1) (I.ok.hd hc) htj hn) hz ⟨rfl,h1,qu⟩ λh' kp=>⟨rfl,I.chg hf λc o nc e=>?_⟩
  simp at nc;exact kp c o nc.2 e
 self:=λ_ _ _ _ _ ⟨⟨old,hz⟩,_⟩ h=>jQ hz h
section
variable{X:Cx}{ρ:Rho}{a b:ar}{es:List ar}{n:Nat}{pos p q1 q2:aP}{ds ds':List D}{lst:Bool}
noncomputable def Vr(ds:List D):List D:=ds.zipIdx.map λp=>D.tup [.int (p.2:Int),p.1]
theorem j5f{i:Nat}:(Vr ds)[i]?=(ds[i]?).map λd=>D.tup [.int (i:Int),d]:=by unfold Vr;rw[Xa,List.getElem?_zipIdx];cases ds[i]?<;>simp
theorem j54{K:k7g}{F:Hp}{t:ak}{xs:List V}(s1:SqB K lst F t xs)(e1:j6 K F ds xs):U8 K F (Ite K lst t) (Vr ds):=λi H A g hA=>by
 have s1':SqB K lst H t xs:=jj.seqB (g.seqB s1);have hl:(Vr ds).length=ds.length:=by unfold Vr;rw[km,List.length_zipIdx]
 refine⟨λh=>?_,λh=>⟨xs,s1',?_⟩,λv H' ⟨p,x,ev,np,eH,hx⟩=>?_⟩
 .rw[hl]at h;obtain⟨x,hx,_⟩:=e1.get (kh h);exact⟨xs,x,s1',hx⟩
 .rw[hl]at h;rw[e1.length];exact h
 .subst eH;refine⟨j8 np,λd hd=>?_⟩;rw[j5f]at hd;cases z:ds[i]? with
  |none=>rw[z]at hd;cases hd
  |some d1 =>rw[z]at hd;cases hd;obtain⟨x',hx',ex⟩:=e1.get z;have q1:=hx xs s1';rw[hx']at q1;have q1:=aC q1;subst q1;have pA:p∉A:=λz=>hA p z np;have gg:j4 F (del (upd H p (.tup [.int (i:Int),x'])) A):=g.trans (jf (j8 np));exact⟨p,[.int (i:Int),x'],ev,.inl (.inl (by rw[j5 pA];exact ju)),.int (i:Int),[x'],rfl,rfl,x',[],rfl,ex.mono gg,rfl⟩
theorem DI.enum (lst:Bool) (ha:DE X ρ a (D.seq lst ds)) (hm:X.mg "enumerate" = ah) (hg:Gl X "enumerate") (hs:ai [a] X.env=[(ae,aB a X.env)]):DI X ρ (.Tuple es n q1) (.Call (.Name "enumerate" p) [a] [] pos) (Vr ds):=λσ H R r q pins s I=>by
 have args:Uz X [a] σ H (λvs H'=>∃v,vs=[v]/\j4 H H'/\Enc X.K (del H' (owns ρ)) (D.seq lst ds) v) :=
  (jc peS jx hs).to (ha σ H _ r λv H1 g1 e1=>⟨v,rfl,g1,e1⟩)
 refine ik (J7 I hg hm boot_enumerate (callWith_type1 (thn (args pos pins s I) λus s1 h1=>?_) hs rfl));obtain⟨vs,H1,I1,r1,v,ev,g1,e1⟩:=h1;subst ev;obtain⟨t,xs,et,sq,en⟩:=Jr e1;subst et;obtain⟨u1,eu,ru1⟩:=r1.one;subst eu;cases ru1;obtain⟨w1,rw1,qw1,_⟩:=I1.side (jj.seqB sq);refine iE F.called_enumerate (by decide) (F.typeCall_enumerate_1 _) (F.newCall_enumerate_1 _) (λobj=>F.args_object_init_2 obj _) F.entry_enumerate_new (j97 (lst:=lst) t w1.toArray) ⟨qw1,?_⟩;have z1:(zh1 s1.heap lst t).objs.size=s1.heap.objs.size+1:=Xi ..;have b2:(eh2 s1.heap lst t).get? (zh1 s1.heap lst t).objs.size=aa _:=xu _ rfl;have b1:(eh2 s1.heap lst t).get? s1.heap.objs.size=aa _:=kj _ (xu _ rfl);have kp:∀c o,s1.heap.get? c=aa o->(eh2 s1.heap lst t).get? c=aa o:=λc o e=>kj _ (kj _ e);show _/\_;rw[z1]at b2 ⊢;have I2:Inv X pins σ H1 { s1 with heap:=eh2 s1.heap lst t }:=I1.kept (t':=s1.toks) kp;have lt1:t<s1.heap.objs.size:=by
  unfold je at qw1;cases lst with
  |true=>rw[if_pos rfl]at qw1;obtain⟨_,e,_⟩:=qw1;exact xq e
  |false=>rw[if_neg xj]at qw1;obtain⟨_,e,_⟩:=qw1;exact xq e
 have side:jh lst (eh2 s1.heap lst t) s1.heap.objs.size t 0:=by
  unfold jh;cases lst with
  |true=>rw[if_pos rfl];exact⟨_,b1,rfl,rfl⟩
  |false=>rw[if_neg xj];exact⟨_,b1,rfl,rfl⟩
 refine⟨⟨_,b2,rfl⟩,jQ (s:={ s1 with heap:=eh2 s1.heap lst t }) b2 ?_⟩;refine⟨_,_,_,Ite X.K lst t,H1,rfl,I2,j3o (j:=s1.heap.objs.size) (Nat.succ_ne_self _) (Pg (Tu lt1)) (X8 lt1),⟨⟨_,b2⟩,side⟩,λc hc=>?_,q _ H1 g1 (j54 sq en)⟩;have hc':c=s1.heap.objs.size+1\/c=s1.heap.objs.size:=by simpa using hc
 have hge:s1.heap.objs.size<=c:=by rcases hc' with e|e<;>rw[e]<;>first|exact X6 _|exact iW _ _
 obtain⟨f0,f1,f2,f3,f4,f5⟩:=I1.fpOk hge (I1.hok.fresh hge);exact⟨f0,f1,f2,f3,f4,f5⟩
end
section
variable{X:Cx}
theorem j7y:OpR X (bh .FloorDiv) (rI (λ_ j=>0<j/\j<18446744073709551616) λi j=>.int (i/j)):=opI λi j _ _ _ _ _ hc q=>by
 have e:i/j=i.fdiv j:=by rw[gh _ nofun]
 refine floordiv_int nofun (by rw[<-e];exact q) (.inl (PyProof.noPylong_of_log2 ?_))
 have h2:(2:Nat)^64=18446744073709551616:=by decide
 have:=(kZ (n:=j.natAbs) (k:=64) nofun).mpr (by rw[h2];omega);omega
end
section
variable{X:Cx}{ρ:Rho}{a b e:ar}{d d':D}{ds:List D}{i j:Int}{pos p p1 p2:aP}{P:Po}
theorem DE.fdivB(ha:DT X ρ a (.int i))(hb:DT X ρ b (.int j))(h:0<j/\j<18446744073709551616):DE X ρ (.BinOp a .FloorDiv b pos) (.int (i/j)):=DE.arI (g:=λi j=>i/j) j7y ha hb h
end
noncomputable def ddS(acc:List ao)(v:ao):List ao:=if acc.any (· == v)=af then acc else acc++[v]
noncomputable def dd(ts:List ao):List ao:=ts.foldl ddS []
theorem jdo(ts:List ao)(v:ao):dd (ts++[v])=ddS (dd ts) v:=by simp[dd]
theorem Ej:∀(ts acc:List ao),(ts.foldl ddS acc).length<=acc.length+ts.length
 |[],acc=>by simp
 |v::ts,acc=>by
  have h:=Ej ts (ddS acc v);have h2:(ddS acc v).length<=acc.length+1:=by unfold ddS;split<;>simp
  rw[Pz,xx];omega
def Qo(P:ay)(w:aD)(h:aH)(S:ak)(ts:List ao):Prop:=h.SetOf (dy P w) S (λk=>(dd ts).any (· == k)) (dd ts).length
section
variable{P:ay}{w:aD}{A:aG}{I S:ak}{fp wr:List ak}{Gn:Array f6->Array f6->Prop}{Pv:Nat->aj->Prop}{St:Nat->aq->Prop}{ts:List ao}
theorem Qo.stay{h h':aH}(x:Qo P w h S ts)(k:∀o,h.get? S=aa o->h'.get? S=aa o):Qo P w h' S ts:=by obtain⟨o,es,ep,t,ho,r⟩:=x;exact⟨o,es,ep,t,k o ho,r⟩
theorem Qo.more{h:aH}{v:ao}(x:h.SetOf (dy P w) S (λk=>(dd ts).any (· == k) || decide (k=v)) (if (dd ts).any (· == v)=af then(dd ts).length else(dd ts).length+1)):Qo P w h S (ts++[v]):=by
 unfold Qo;rw[jdo];have e1:(λk=>(ddS (dd ts) v).any (· == k))=λk=>(dd ts).any (· == k) || decide (k=v):=by
  funext k
  unfold ddS;by_cases h1:(dd ts).any (· == v)=af
  .rw[if_pos h1];by_cases h2:k=v
   .subst h2;rw[h1];rfl
   .rw[decide_eq_false h2,gq]
  .rw[if_neg h1,List.any_append];congr 1;by_cases h2:k=v
   .subst h2;simp
   .have:¬v=k:=λz=>h2 z.symm;simp[h2,this]
 have e2:(ddS (dd ts) v).length=if (dd ts).any (· == v)=af then(dd ts).length else(dd ts).length+1:=by unfold ddS;split<;>simp
 rw[e1,e2];exact x
theorem fill{R:eY->aq->Prop}(W:WalksS P w A.in1 I fp wr Gn ts.length Pv St)(out:S∉fp)(hv:∀i v,Pv i v->∃x t,ts[i]?=aa x/\v=.str x t)(room:ts.length+1<g9):∀(r i:Nat)(q:aq),i+r=ts.length->St i q->Qo P w q.heap S (ts.take i) ->
  (∀q',Moved (S::wr) Gn q q'->Qo P w q'.heap S ts->R (.ok (.ret .none)) q')->cF (aA P w) A (.builtin "set.update.loop" ⟨[.ref S,.ref I],[]⟩) R q:=by
 have outw:S∉wr:=λz=>out (W.sub S z);have wider:∀b∈wr,b∈S::wr:=λb z=>xf S z;intro r;induction r with
 |zero =>intro i q hi st fu fin;have e:i=ts.length:=hi;subst e;refine dk dE ?_;rw[cM bZ _];refine ag (m:=dj (.ref I)) (W.done q _ _ st λq' mv=>?_);refine av (fin q' (mv.mono wider) ?_);rw[Td]at fu;exact fu.stay λo z=>mv.heap S o outw z
 |succ r ih =>
  intro i q hi st fu fin;have lt:i<ts.length:=by omega
  refine dk dE ?_;rw[cM bZ _];refine ag (m:=dj (.ref I)) (W.item i q _ _ lt st λv q' pv st' mv=>?_);obtain⟨x,t,hx,ev⟩:=hv i v pv;subst ev;have fu':Qo P w q'.heap S (ts.take i):=fu.stay λo z=>mv.heap S o outw z;refine ag (m:=dP [b8 x t] (setAdd S (.str x t))) (b0 ?_);unfold setAdd;refine b0 (ag ((dy P w).pyHash (k:=x) (strKind_is P w x t) ?_));have small:(dd (ts.take i)).length+1<g9:=by
   have:=Ej (ts.take i) [];have e:(dd (ts.take i)).length<=i:=by
    have:([]:List ao).length+(ts.take i).length<=i:=by rw[Xj,cG];omega
    exact Xf (Ej (ts.take i) []) this
   omega
  refine wpAny_setAddHashed_of (knd:=dy P w) (strKind_is P w x t) rfl fu' small λh' sb full2=>?_;have next:Qo P w h' S (ts.take (i+1)):=by rw[T5,hx];exact Qo.more full2
  refine av ⟨i4 bZ _,ih (i+1) _ nofun (W.frame _ q' _ _ st' (pq _) λb hb o e=>?_) next λq2 mv2 full3=>?_⟩
  .have ne:b≠S:=λz=>out (z▸hb);rw[sb.2 b ne];exact e
  .refine fin q2 (Moved.trans W.gtrans ((mv.mono wider).then_heap (pq _) λb o hb e=>?_) mv2) full3;have ne:b≠S:=λz=>hb (by rw[z];exact xm ..);rw[sb.2 b ne];exact e
end
section
variable{P:ay}{w:aD}{A:aG}{E:k7h}{s:aq}
noncomputable abbrev Jq(led:Bool):dm:={ cls:=.type "set",dict:=ah,data:=.set #[] 0 (.fresh 0 0 led) }
theorem j8y{led:Bool}{l:ak}{its:Array aj}{ts:List ao}{X:iF->aq->Prop}{Y:k7h}(hh:A.handled=ah)(hl:s.heap.IsList l its)(hts:∀(i:Nat)(v:aj),its[i]?=aa v->∃x t,ts[i]?=aa x/\v=.str x t)(hn:its.size=ts.length)(room:ts.length+1<g9)
  (q:∀h' tk,Qo P w h' s.heap.objs.size ts->(∀b o,b<s.heap.objs.size->s.heap.get? b=aa o->h'.get? b=aa o)->X (.done (.ret .none)) { s with heap:=h',toks:=tk }) :
  ax (aA P w) A.in1 (bV.«set.__init__» ⟨[.ref s.heap.objs.size,.ref l],[]⟩) X Y { s with heap:=s.heap.push (Jq led) }:=by
 obtain⟨⟨oc,od,oda,os⟩,e1,e2,n,e3⟩:=hl;have e2:oc=.type "list":=e2;have e3:oda=.seq its n:=e3;subst e2 e3;have here:(s.heap.push (Jq led)).get? s.heap.objs.size=aa (Jq led):=xu _ rfl;have lst:(s.heap.push (Jq led)).get? l=aa { cls:=.type "list",dict:=od,data:=.seq its n,slots:=os }:=kj _ e1;have ne1:=PySem.F.sub_list_set;have ne2:=PySem.F.sub_list_frozenset;have ne3:(cC "list" == cC "dict")=ae:=by decide
 have isl:(s.heap.push (Jq led)).IsList l its:=⟨_,lst,rfl,n,rfl⟩
 unfold bV.«set.__init__» noKeywords Builtin.Frozenset.updateFrom;generalize keep:iC=PI
 wp_walk
 subst keep;refine bM isl (ag (wpAny_runValue ?_));have lt:l<s.heap.objs.size:=xq e1;have sz:(s.heap.push (Jq led)).objs.size=s.heap.objs.size+1:=Xi ..;have walk:=(Walks.list (prog:=P) (w:=w) (A:=A.in1.in1) (by simp[hh]) (s.heap.push (Jq led)).objs.size l (by rw[sz];exact X8 (Tu lt)) its).toS;rw[hn]at walk;refine fill (ts:=ts) (S:=s.heap.objs.size) walk (λz=>?_) hts room ts.length 0 { s with heap:=(s.heap.push (Jq led)).push { cls:=.type "list_iterator",data:=.fields #[.ref l,.int 0 0] } } nofun ⟨⟨_,xu _ rfl,rfl,rfl⟩,isl.push _⟩ ?_ λq' mv full=>?_
 .rw[sz]at z;rcases xr.mp z with z|z
  .exact X8 (Pq _) z
  .exact Pg lt (X3.mp z)
 .have z:Qo P w (s.heap.push (Jq led)) s.heap.objs.size []:=(setObjOf_fresh (knd:=dy P w) led).setOf here (by unfold g9;omega);exact z.stay λo e=>kj _ e
 .obtain⟨h',g',d',tk',os'⟩:=q';obtain⟨m1,m2,m3,m4,m5⟩:=mv;cases m2;cases m3;cases m4;refine av (av (q h' tk' full λb o hb e=>m1 b o ?_ (kj _ (kj _ e))));intro z;rw[sz]at z;rcases xr.mp z with z|z
  .exact X8 hb z
  .exact X8 (Tu hb) (X3.mp z)
theorem j65{l:ak}{its:Array aj}{ts:List ao}{Q:k7h}(hh:A.handled=ah)(hl:s.heap.IsList l its)(hts:∀(i:Nat)(v:aj),its[i]?=aa v->∃x t,ts[i]?=aa x/\v=.str x t)(hn:its.size=ts.length)(room:ts.length+1<g9)
  (q:∀h' tk,Qo P w h' s.heap.objs.size ts->(∀b o,b<s.heap.objs.size->s.heap.get? b=aa o->h'.get? b=aa o)->Q (.ref s.heap.objs.size) { s with heap:=h',toks:=tk }):ax (aA P w) A (call (.type "set") [.ref l]) Q E s:=by
 have cs:=PySem.F.called_set;obtain⟨c0,tl0,hm0⟩:=cs.mro;have m1:=cs.made;have m2:=cs.sub;have m3:=cs.notType;have m4:=cs.canCreate;have m5:=PySem.F.typeCall_set_1 (.ref l);refine fF (codeAny_of_tree (?_:ax _ _ (callAny (.type "set") _) _ _ _));refine av ⟨Code.quiet_builtin _ (by decide +kernel),dk PySem.F.entry_type_call ?_⟩;rw[Around.under_plain (weight_type_call_type "set" [.ref l] []) rfl]
 repeat (any_goals (first|assumption|wp_step))
 refine bO (PySem.code_set_new_1 (.ref l) (E:=E) (Q₁:=λo q1=>∃led:Bool,o=.ref s.heap.objs.size/\q1={ s with heap:=s.heap.push (Jq led) }) λled=>⟨led,rfl,rfl⟩) λr q1 hr=>?_;cases r with
 |error e=>exact hr
 |ok fl =>
  cases fl with
  |ret o =>
   obtain⟨led,eo,eq1⟩:=hr;subst eo eq1;have ty:Shared.TypeIs { s with heap:=s.heap.push (Jq led) } (.ref s.heap.objs.size) "set":=⟨_,xu _ rfl,rfl⟩
   have m6:=cs.init.lookup;have m7:=cs.init.bind (.ref s.heap.objs.size)
   repeat (any_goals (first|assumption|wp_step))
   refine bO (codeAny_call_builtin (R:=wants (λr q2=>r=.none/\∃h' tk,q2={ s with heap:=h',toks:=tk }/\Qo P w h' s.heap.objs.size ts/\∀b o,b<s.heap.objs.size->s.heap.get? b=aa o->h'.get? b=aa o) E) cs.init.plain PySem.F.entry_set_init (PySem.check_set_init_1 ty ?_)) λr2 q2 hr2=>?_
   .exact j8y (led:=led) (by simp[hh]) hl hts hn room λh' tk full old=>⟨rfl,h',tk,rfl,full,old⟩
   .cases r2 with
    |error e=>exact hr2
    |ok fl2 =>
     cases fl2 with
     |ret r3 =>
      obtain⟨e3,h',tk,e4,full,old⟩:=hr2;subst e3 e4
      repeat (any_goals (first|assumption|wp_step))
      exact q _ _ full old
     |_=>exact hr2.elim
  |_=>exact hr.elim
end
section
variable{X:Cx}{ρ:Rho}{a:ar}{p p1 p2 pos:aP}
theorem DE.lenSet {ts:List ao} (ha:DT X ρ a (.lst (ts.map D.str))) (hc:X.calm=af) (room:ts.length+1<4096) (hm:X.mg "len" = ah) (hm2:X.mg "set" = ah) (hg:Gl X "len") (hg2:Gl X "set") (hs:ai [a] X.env=[(ae,aB a X.env)])
  (hs2:ai [.Call (.Name "set" p1) [a] [] p2] X.env=[(ae,aB (.Call (.Name "set" p1) [a] [] p2) X.env)]):DE X ρ (.Call (.Name "len" p) [.Call (.Name "set" p1) [a] [] p2] [] pos) (.int (dd ts).length):=λσ H Q R q pins s I=>by
 have inner:ax (aA X.prog X.w) X.A (aB (.Call (.Name "set" p1) [a] [] p2) X.env) (λu s2=>∃(S:ak)(H1:Hp),u=.ref S/\Inv X pins σ H1 s2/\j4 H H1/\Qo X.prog X.w s2.heap S ts) X.xe s:=by
  refine aU (J7 I hg2 hm2 boot_set ?_);refine callWith_type1 (thn ((jc (es:=[]) peS jx hs).to (σ:=σ) (H:=H) (Q:=λvs H1=>∃(l:ak)(xs:List V),vs=[.ref l]/\j4 H H1/\SqL X.K H1 l xs/\j6 X.K H1 (ts.map D.str) xs) (ha σ H _ R λv H1 g ⟨l,xs,e,sq,en⟩=>⟨l,xs,by rw[e],g,sq,en⟩) p2 pins s I) λus s1 ⟨vs,H1,I1,r,l,xs,ev,g,sq,en⟩=>?_) hs rfl;subst ev;obtain⟨u,eu,r1⟩:=vals1 r;subst eu;cases(show u=aI l from r1);obtain⟨its,rv,pl,_⟩:=I1.list sq;rw[Rq en]at rv;have hlen:its.toArray.size=ts.length:=by rw[X4,<-rv.length,km]
  refine j65 (ts:=ts) (I1.ok.hd hc) pl.isList (λi v hv=>?_) hlen (by show ts.length+1<4096;exact room) λh' tk full old=>?_
  .have hi:i<ts.length:=by have:=(Array.getElem?_eq_some_iff.mp hv).1;omega
   obtain⟨w1,hw,t,ew⟩:=rv.get (x:=.str ts[i]) (i:=i) (by rw[Xa,kh hi];rfl);have:its.toArray[i]?=aa w1:=by simpa using hw
   rw[this]at hv;cases hv;exact⟨ts[i],t,kh hi,ew⟩
  .exact⟨_,H1,rfl,I1.kept (t':=tk) λb o e=>old b o (xq e) e,g,full⟩
 refine aU (J7 I hg hm cj ?_);refine cJ (by rw[hs2];rfl) (cO ?_);show ax _ _ (fQ ((ae,aB _ X.env)::aT pos [])) _ _ s;refine cE (thn inner λu s2 h2=>dr ?_);obtain⟨S,H1,rfl,I2,g,⟨o,es,ep,t,ho,hex,hd,hel,hmem,hb,hf,hn⟩⟩:=h2;refine call_len_set ho hex hd hf ?_ ?_
 .have:es.size<4096:=hb;omega
 .rw[hn];exact⟨.int _,H1,I2.tok _,⟨_,rfl⟩,q _ H1 g rfl⟩
end
section
variable{prog:ay}{w:aD}{A:aG}{E:k7h}{s:aq}{d it vw:ak}{od:dm}{es:Array kr}{ep i:Nat}{ok ov:aj}
end
noncomputable def jgr(ks:List (List Int))(ds:List D):List D:=(ks.zip ds).map λp=>D.tup [.tup (p.1.map D.int),p.2]
section
variable{X:Cx}{ρ:Rho}{a b:ar}{es:List ar}{n:Nat}{pos p p1 p2 q1:aP}{ks:List (List Int)}{ds:List D}{k:List Int}
theorem any_range:∀bs:List Bool,(aK bs.length).any (λi=>(bs[i]?).getD af)=bs.any id
 |[]=>rfl
 |b::bs=>by rw[xx,dS,cB,List.any_map,cB,<-any_range bs];rfl
theorem j0d (hc:X.calm=af):J9 X (.builtin "any") (λxs H Q=>∃(l:ak)(bs:List Bool),xs=[.ref l]/\SqL X.K H l (bs.map V.bl)/\Q (.bl (bs.any id)) H):=by
 intro pins s σ H xs us Q I r ⟨l,bs,e,sq,q⟩;subst e;obtain⟨u,eu,ru⟩:=vals1 r;subst eu;cases ru;obtain⟨its,rv,pl,_⟩:=I.list sq;have hlt:l<s.heap.objs.size:=by obtain⟨_,_,e,_⟩:=pl;exact xq e
 have hl:its.length=bs.length:=by rw[<-rv.length,km]
 refine call_any_walk (bM pl.isList ⟨s.heap.objs.size,[s.heap.objs.size,l],[s.heap.objs.size],its.toArray.size,_,_,λi=>(bs[i]?).getD af,rfl,Walks.list (A:=X.A.in1) (I.ok.hd hc) _ _ (X8 hlt) its.toArray,⟨⟨_,xu _ rfl,rfl,rfl⟩,pl.isList.push _⟩,?_,λh' tk kp=>?_⟩)
 .intro i v s' Q' E' hv hq;have hi:i<its.length:=by have:=Array.getElem?_eq_some_iff.mp hv;obtain⟨h,_⟩:=this;simpa using h
  have hb:i<bs.length:=by omega
  obtain⟨w1,hw,rw1⟩:=rv.get (x:=.bl bs[i]) (i:=i) (by rw[Xa,kh hb];rfl);have:its.toArray[i]?=aa w1:=by simpa using hw
  rw[this]at hv;cases hv;cases rw1;simp only[kh hb,Xu]at hq;exact bK hq
 .have ev:(aK its.toArray.size).any (λi=>(bs[i]?).getD af)=bs.any id:=by rw[X4,hl];exact any_range bs
  rw[ev];refine⟨.bl _,H,I.kept (t':=tk) λb o e=>kp b o ?_ (kj _ e),rfl,q⟩;intro z;rw[X3.mp z]at e;exact Pj _ (xq e)
theorem DE.any {bs:List Bool} (ha:DT X ρ a (.lst (bs.map D.bl))) (hm:X.mg "any" = ah) (hc:X.calm=af) (hg:Gl X "any") (hs:ai [a] X.env=[(ae,aB a X.env)]):DE X ρ (.Call (.Name "any" p) [a] [] pos) (.bl (bs.any id)):=λσ H Q R q =>(v8 (j0d hc) hg hm boot_any (jc peS jx hs) (by decide) (by decide) hs).to (ha σ H _ R λv H1 g1 ⟨l,xs,e,sq,en⟩=>⟨l,bs,by rw[e],by rw[Om en]at sq;exact sq,q _ H1 g1 rfl⟩)
end
section
variable{X:Cx}{pos pos':aP}{o i value:ar}{td ty tv:TE}
theorem Inv.bigD{pins:k7i}{σ:St}{H:Hp}{s:aq}(I:Inv X pins σ H s):fH<s.heap.objs.size:=by have h:aw<s.heap.objs.size:=(I.mod.glob.keeps I.bk).lt;exact Xy (by decide) h
end
section
variable{X:Cx}{ρ:Rho}{it e:ar}{P:Po}{ds:List D}{x t y:Nat}{nx nt ny:ao}{n8:Nat}{p1 p2 p3 p4 p5 p6 p7 p8 p9 p10 p11 p12 p13 p14 p15 p16 p17 p18:aP}
end
noncomputable def jan:List (List Int)->List D->List Int->Option D
 |k'::ks,d::ds,k=>if k'=k then aa d else jan ks ds k
 |_,_,_=>ah
section
variable{X:Cx}{ρ:Rho}{a b:ar}{d:D}{ds:List D}{ks:List (List Int)}{k:List Int}{pos p p1 p2 p3:aP}
end
section
variable{prog:ay}{w:aD}{A:aG}{E:k7h}{s:aq}{d it vw:ak}{od:dm}{es:Array kr}{ep i:Nat}
end
section
variable{prog:ay}{w:aD}{A:aG}{E:k7h}{s:aq}{T:String}{r d:ak}{n:Nat}{P:Nat->aj->Prop}{OK:aH->Prop}
end
section
variable{X:Cx}{ρ:Rho}{a:ar}{ds:List D}{ks:List (List Int)}{pos p p1 p2:aP}
end
section
variable{X:Cx}{ρ:Rho}{it e1 e2:ar}{P:Po}{ds:List D}{x t y:Nat}{nx nt ny:ao}{p1 p2 p3 p4 p5 p6 p10 p11 p12 p14 p16 p17 p18:aP}
end
section
variable{X:Cx}{ρ:Rho}{a e:ar}{l:List D}{d:D}{p1 pos:aP}
noncomputable def ixD(d:D):List D->Option Nat
 |[]=>ah
 |x::r=>if deq x d=af then aa 0 else(ixD d r).map (· + 1)
end
section
variable{X:Cx}{pins:k7i}{σ:St}{H:Hp}{l q S I:ak}{xs:List V}{R:eY->aq->Prop}
end
section
variable{X:Cx}{ρ:Rho}{σ:St}{H:Hp}{q:ak}{f:ao}{l:List D}{xs:List V}{kf:Nat->Int}{a:ar}{d:D}{p p1 pk pos:aP}
end
section
variable{X:Cx}{pins:k7i}{σ:St}{H:Hp}{l S I:ak}{xs:List V}{R:eY->aq->Prop}
end
noncomputable def jk1(l:List (List Int))(i j:Nat):Bool:=HT.lexLt (l.getD i []) (l.getD j [])
section
variable{X:Cx}{ρ:Rho}{a:ar}{l:List (List Int)}{k:List Int}{p pos:aP}
end
section
variable{X:Cx}{ρ:Rho}{it e2:ar}{P:Po}{ds:List D}{x t:Nat}{nx nt:ao}{p1 p2 p3 p4 p10 p11 p12 p14 p16 p17 p18:aP}
end
noncomputable def jmk(p q:Int×List Int):Bool:=if p.1=q.1 then HT.lexLt p.2 q.2 else decide (p.1<q.1)
noncomputable def jmj(l:List (Int×List Int))(i j:Nat):Bool:=jmk (l.getD i (0,[])) (l.getD j (0,[]))
noncomputable def pairD(p:Int×List Int):D:=.tup [.int p.1,.tup (p.2.map D.int)]
section
open PySem.SeqAt
open PySem.AutoSeq1 (wpAny_loadPart')
open PySem.MeetsSeq PySem.MeetsSeq2 PySem.MeetsSeq3
end
section
variable{X:Cx}{ρ:Rho}{a:ar}{l:List (Int×List Int)}{k:Int×List Int}{p pos:aP}
end
section
variable{X:Cx}{ρ:Rho}{a:ar}{p p1 p2 pos:aP}
end
noncomputable def Yi(kvs:List (ao×Int))(k:ao):Option Int:=(kvs.find? λp=>decide (p.1=k)).map λp=>p.2
noncomputable def Dc(kvs:List (ao×Int))(k:ao):Bool:=kvs.any λp=>decide (p.1=k)
noncomputable def dput(kvs:List (ao×Int))(k:ao)(n:Int):List (ao×Int):=if Dc kvs k=af then kvs.map λp=>if p.1=k then(p.1,n)else p else kvs++[(k,n)]
theorem Ul{p:ao×Int}{kvs:List (ao×Int)}{vs:List (Key×aj)}(r:KV (kvI (p::kvs)) vs):∃t qs,vs=(.inr p.1,.int p.2 t)::qs/\KV (kvI kvs) qs:=by
 have r':KV ((.inr p.1,.int p.2)::kvI kvs) vs:=r;unfold KV at r';cases r' with
 |@cons _ q _ qs h t =>
  obtain⟨h1,h2⟩:=h;obtain⟨q1,q2⟩:=q;obtain⟨tk,e⟩:=(show ∃t,q2=bq p.2 t from h2)
  have h1:bP p.1=q1:=h1;subst h1 e;exact⟨tk,qs,rfl,t⟩
theorem Ij:∀{kvs:List (ao×Int)} {vs:List (Key×aj)},KV (kvI kvs) vs->vs.length=kvs.length
 |[],vs,r=>by have r':KV ([]:List (Key×V)) vs:=r;unfold KV at r';cases r';rfl
 |p::kvs,vs,r=>by obtain⟨t,qs,e,r'⟩:=Ul r;subst e;rw[xx,xx,Ij r']
theorem Ii{vs:List (Key×aj)}(r:KV (kvI []) vs):vs=[]:=by have:=Ij r;exact List.length_eq_zero_iff.mp this
theorem j4u{k:ao}{n:Int}:∀{kvs:List (ao×Int)} {vs:List (Key×aj)},KV (kvI kvs) vs->Yi kvs k=aa n->∃t,valueAt vs (.inr k)=aa (.int n t)
 |[],_,_,h=>by cases h
 |p::kvs,vs,r,h=>by
  obtain⟨t,qs,e,r'⟩:=Ul r;subst e;unfold Yi at h;rw[cV]at h;by_cases z:p.1=k
  .rw[decide_eq_true z]at h;cases h;exact⟨t,by simp[valueAt,cV,z]⟩
  .rw[decide_eq_false z]at h;obtain⟨t',e'⟩:=j4u (kvs:=kvs) r' h;refine⟨t',?_⟩;rw[<-e'];have z':¬((bP p.1:Key)=bP k):=λy=>z (f9 y);simp[valueAt,cV,z']
theorem j4v{k:ao}:∀{kvs:List (ao×Int)} {vs:List (Key×aj)},KV (kvI kvs) vs->(vs.any λkv=>decide (kv.1=(bP k:Key)))=Dc kvs k
 |[],_,r=>by rw[Ii r];rfl
 |p::kvs,vs,r=>by
  obtain⟨t,qs,e,r'⟩:=Ul r;subst e;have ih:=j4v (k:=k) r';unfold Dc at ih ⊢;rw[cB,cB,ih];congr 1;by_cases z:p.1=k
  .simp[z]
  .have z':¬((bP p.1:Key)=bP k):=λy=>z (f9 y);rw[decide_eq_false z,decide_eq_false z']
theorem j11{k:ao}{n:Int}{u:aj}(ru:RelV (.int n) u):∀{kvs:List (ao×Int)} {vs:List (Key×aj)},KV (kvI kvs) vs ->
  KV (kvI (kvs.map λp=>if p.1=k then(p.1,n)else p)) (vs.map λkv=>if kv.1=(bP k:Key) then(kv.1,u)else kv)
 |[],_,r=>by rw[Ii r];exact Paired.nil
 |p::kvs,vs,r=>by
  obtain⟨t,qs,e,r'⟩:=Ul r;subst e;have ih:=j11 (k:=k) ru r';by_cases z:p.1=k
  .have z':(bP p.1:Key)=bP k:=congrArg _ z;rw[X5,X5,if_pos z,if_pos z'];exact Paired.cons ⟨rfl,ru⟩ ih
  .have z':¬((bP p.1:Key)=bP k):=λy=>z (f9 y);rw[X5,X5,if_neg z,if_neg z'];exact Paired.cons ⟨rfl,t,rfl⟩ ih
theorem j10{p:ao×Int}{u:aj}(ru:RelV (.int p.2) u):∀{kvs:List (ao×Int)} {vs:List (Key×aj)},KV (kvI kvs) vs->KV (kvI (kvs++[p])) (vs++[(.inr p.1,u)])
 |[],_,r=>by rw[Ii r];exact Paired.cons ⟨rfl,ru⟩ Paired.nil
 |q::kvs,vs,r=>by obtain⟨t,qs,e,r'⟩:=Ul r;subst e;exact Paired.cons ⟨rfl,t,rfl⟩ (j10 ru r')
theorem jgh{k:ao}{n:Int}{u:aj}{kvs:List (ao×Int)}{vs:List (Key×aj)}(r:KV (kvI kvs) vs)(ru:RelV (.int n) u):KV (kvI (dput kvs k n)) (stored vs (.inr k) u):=by
 unfold dput stored;rw[j4v r];by_cases z:Dc kvs k=af
 .rw[if_pos z,if_pos z];exact j11 ru r
 .rw[if_neg z,if_neg z];exact j10 (p:=(k,n)) ru r
section
variable{X:Cx}{ρ:Rho}{a b e k:ar}{rest:List aQ}{P:Po}{kvs:List (ao×Int)}{z:ao}{n:Int}{i j:Nat}{nx ny:ao}{pos pos' p p1 p2 p3 p4 p5 p6 p7 p8:aP}{td ty tv:TE}{o value:ar}
theorem jam{pins:k7i}{σ:St}{H:Hp}{s:aq}{d:ak}(I:Inv X pins σ H s)(hx:H d=aa (.dK (kvI kvs))):kvs.length<=au/\(d==fH)=ae/\∃vs,KV (kvI kvs) vs/\s.heap.DictOf (Uj X.prog X.w) d vs:=by
 obtain⟨z1,z2,z3⟩:=(show jw X.prog X.w H s.heap d (.dK (kvI kvs))from I.hok _ _ hx)
 exact⟨by simpa [kvI]using z1,z2,z3⟩
theorem jkb:IxR X (λx y H Q=>∃(d:ak)(kvs:List (ao×Int)) (k:ao) (n:Int),x=.ref d/\y=.str k/\H d=aa (.dK (kvI kvs))/\Yi kvs k=aa n/\Q (.int n) H):=by intro value slice pins s σ H x y v u Q I rx ry h hs;obtain⟨d,kvs,k,n,rfl,rfl,hx,hv,q⟩:=h;cases rx;obtain⟨t,rfl⟩:=ry;obtain⟨hz,hd,vs,rel,dd⟩:=jam I hx;obtain⟨t',hw⟩:=j4u rel hv;exact lH dd.typeIs slot_dict_getitem.lookup (wpAny_getItem_of (O2 X.prog X.w k t) dd.mapOf hw ⟨.int n,H,I.tok _,⟨_,rfl⟩,q⟩) hs
theorem DE.dix(ha:DT X ρ a (.sct kvs))(hb:DT X ρ b (.str z))(h:Yi kvs z=aa n)(hs:Y4 b):DE X ρ (.Subscript a b pos) (.int n):=λσ H Q R q =>(M7 jkb peS peS hs).to (ha σ H _ R λv H1 g1 ⟨d,e,hx⟩=>hb σ H1 _ (R.grow g1) λu H2 g2 e2=>⟨d,kvs,z,n,e,e2,g2 _ _ hx,h,q _ H2 (g1.trans g2) rfl⟩)
end
theorem Cv:jE (.type "zip") "__getattr__" = pure ah:=by rw[kT,iM];kernel_rfl
theorem j1n:jE (.type "zip") "keys" = pure ah:=by rw[kT,iM];kernel_rfl
theorem j03:entryFor table "zip.__getattribute__" = aa bV.«object.__getattribute__» :=
 entryFor_alias (id':="object.__getattribute__") (by kernel_rfl) (by decide +kernel) (by decide +kernel) (by kernel_rfl)
theorem jb7(a:ak)(fs:Array aj)(u:dz) :
  jV (bV.«object.__getattribute__» ⟨[.ref a,.str "keys" u],[]⟩) (λA R s=>s.heap.get? a=aa { cls:=.type "zip",dict:=ah,data:=.fields fs,slots:=#[] }/\raisesAttr (.ref a) "keys" A R s) :=
 Meets.of_wp λprog w A R s hs=>by
  obtain⟨hp,g,d,tk,os⟩:=s;obtain⟨hx,hs⟩:=hs;have hT:(⟨hp,g,d,tk,os⟩:aq).TypeIs (.ref a) "zip":=⟨_,hx,rfl⟩
  have hmiss:=j1n;have hname:(["__module__","__name__","__qualname__","__doc__","__annotations__"]:List ao).contains ("keys":ao)=ae:=by decide
  unfold bV.«object.__getattribute__»
  repeat (any_goals (first|assumption|wp_step))
  try simp only[hname,Xr,if_false]
  repeat (any_goals (first|assumption|wp_step))
  exact wpAny_raiseAttrError hs.1 hs.2 (attrMsg_fits (by decide +kernel) (by size_fits))
section
variable{prog:ay}{w:aD}{A:aG}{E:k7h}{s:aq}
theorem jb8{a:ak}{fs:Array aj}{Q:Option aj->aq->Prop}(hx:s.heap.get? a=aa { cls:=.type "zip",dict:=ah,data:=.fields fs,slots:=#[] })(hA:A.handled=ah)
  (h:∀h' tk,(∀b o,s.heap.get? b=aa o->h'.get? b=aa o)->Q ah { s with heap:=h',toks:=tk }):ax (aA prog w) A (getAttr? (.ref a) "keys") Q E s:=by
 obtain⟨hp,g,d,tk,os⟩:=s;have hT:∀tk',(⟨hp,g,d,tk',os⟩:aq).TypeIs (.ref a) "zip":=λ_=>⟨_,hx,rfl⟩
 have f1:=sub_AttributeError;have f3:=F.slot_zip_getattribute.lookup;have f4:=F.slot_zip_getattribute.bind (.ref a);have f5:=Cv;unfold getAttr? getAttrBy? getAttrBy
 repeat (any_goals (first|assumption|exact hT _|((with_reducible show ax _ _ (call (Value.builtin "zip.__getattribute__") _ _) _ _ _);refine bE F.slot_zip_getattribute (hT _) j03 (F.args_zip_getattribute_2 _ _) (jb7 a fs _) ⟨hx,hA,λh' tk' e hx'=>?_⟩)|wp_step))
 obtain⟨t',u',he⟩:=hx'.there;show ax _ _ (jG _ _ _ _ _ _ _) _ _ _;unfold jG
 repeat (any_goals (first|assumption|wp_step))
 all_goals exact h _ _ hx'.keeps
end
abbrev Yp(h:aH)(z TI TO p:ak)(f:Bool):Prop:=h.get? z=aa { cls:=.type "zip",dict:=ah,data:=.fields #[eW p,.bool f,.bool ae,.ref TI,.ref TO],slots:=#[] }
section
variable{prog:ay}{w:aD}{A:aG}{E:k7h}{s:aq}{l1 l2:Bool}{z TI TO i1 i2 t1 t2 p:ak}{f:Bool}{op:dm}{k:Nat}{us vs:Array aj}{x y a b:aj}
theorem Dj{Q:Bool->aq->Prop}(hz:Yp s.heap z TI TO p f)(hp:s.heap.get? p=aa op)(q:∀h',Yp h' z TI TO p af->bU z s.heap h'->Q ae { s with heap:=h' }) :
  ax (aA prog w) A (aJ (.ref z)) Q E s:=by
 unfold aJ;refine ag (aR hz rfl (x:=eW p) rfl ?_);show ax _ _ (loadIfAlive ((p:Int).toNat) >>= _) _ _ _;rw[Xh];refine ag (W.kdx_alive hp ?_);simp only[Option.isNone_some,Xr,if_false];refine ag (aR hz rfl (x:=.bool f) rfl ?_);cases f with
 |true =>rw[if_neg (show ¬((bo af != bo af)=af)from xj)];exact av (q _ hz (fY _ _))
 |false =>rw[if_pos (show(bo ae != bo af)=af from rfl)];exact ag (bD hz (by simp) λg zg sg=>av (q g zg sg))
theorem j3l{Q:k7h}(D:d7 z TI TO i1 i2 t1 t2)(hz:Yp s.heap z TI TO p f)(hp:s.heap.get? p=aa op)(hTI:br s.heap TI (.ref i1) (.ref i2))
  (h1:jh l1 s.heap i1 t1 k) (h2:jh l2 s.heap i2 t2 k) (q1:je l1 s.heap t1 us) (q2:je l2 s.heap t2 vs) (hx:us[k]?=aa x) (hy:vs[k]?=aa y)
  (q:∀h',Yp h' z TI TO p af->jh l1 h' i1 t1 (k+1)->jh l2 h' i2 t2 (k+1)->br h' s.heap.objs.size x y->h'.objs.size=s.heap.objs.size+1 ->
   (∀c o,c≠z->c≠i1->c≠i2->s.heap.get? c=aa o->h'.get? c=aa o)->Q (.ref s.heap.objs.size) { s with heap:=h' }) :
  ax (aA prog w) A (bV.«zip.__next__» ⟨[.ref z],[]⟩) (λfin s'=>∃v,fin=.done (.ret v)/\Q v s') E s:=by
 show ax _ _ (fv (.ref z) 2 >>= _) _ _ _;refine ag (aR hz rfl (x:=.bool ae) rfl ?_);show ax _ _ (fv (.ref z) 3 >>= _) _ _ _;refine ag (aR hz rfl (x:=.ref TI) rfl (ag (be hTI rfl ?_)));show ax _ _ (aJ (.ref z) >>= _) _ _ _;refine ag (Dj hz hp λg₁ z₁ s₁=>?_);simp only[Xr,if_false];refine ag ?_;simp only[ir,cU,eK];refine ag (ag (b0 ?_));show ax _ _ (aE (.ref i1) >>= _) _ _ _;refine ag (Z3 (h1.ext s₁.extBut D.i1z) (q1.ext s₁.extBut D.l1z) hx λg₂ h1₂ s₂=>av ?_);refine av (ag (ag (b0 ?_)));show ax _ _ (aE (.ref i2) >>= _) _ _ _;refine ag (Z3 ((h2.ext s₁.extBut D.i2z).ext s₂.extBut D.i12.symm) ((q2.ext s₁.extBut D.l2z).ext s₂.extBut D.l2i1) hy λg₃ h2₃ s₃=>av ?_);refine av (av ?_);refine ag (lC (hsz:=by show(2:Nat)<=au;decide) (av ⟨_,rfl,?_⟩));have sz:g₃.objs.size=s.heap.objs.size:=by rw[s₃.1,s₂.1,s₁.1]
 have z₃:Yp g₃ z TI TO p af:=s₃.extBut _ _ D.i2z.symm (s₂.extBut _ _ D.i1z.symm z₁);have up:∀c o,g₃.get? c=aa o->(g₃.push { cls:=.type "tuple",data:=.seq #[x,y] }).get? c=aa o:=λc o e=>kj _ e;have h1₃:jh l1 g₃ i1 t1 (k+1):=h1₂.ext s₃.extBut D.i12;have pr:br (g₃.push { cls:=.type "tuple",data:=.seq #[x,y] }) s.heap.objs.size x y:=by rw[<-sz];exact xu _ rfl
 have szp:(g₃.push { cls:=.type "tuple",data:=.seq #[x,y] }).objs.size=s.heap.objs.size+1:=by rw[Xi,sz]
 show Q (.ref g₃.objs.size) _;rw[sz];exact q _ (up _ _ z₃) (h1₃.stay λo e=>up _ o e) (h2₃.stay λo e=>up _ o e) pr szp λc o n1 n2 n3 e=>up _ _ (s₃.extBut _ _ n3 (s₂.extBut _ _ n2 (s₁.extBut _ _ n1 e)))
theorem j6l{Q:iF->aq->Prop}(hh:A.handled=ah)(D:d7 z TI TO i1 i2 t1 t2)(hz:Yp s.heap z TI TO p f)(hp:s.heap.get? p=aa op)(hTI:br s.heap TI (.ref i1) (.ref i2))
  (h1:jh l1 s.heap i1 t1 k) (q1:je l1 s.heap t1 us) (hx:us[k]?=ah)
  (q:∀h' e,(∀c o,c≠z->c≠i1->c≠i2->s.heap.get? c=aa o->h'.get? c=aa o)->(∃o,h'.get? e=aa o/\o.cls=.type "StopIteration")->E (.ref e) { s with heap:=h' }) :
  ax (aA prog w) A (bV.«zip.__next__» ⟨[.ref z],[]⟩) Q E s:=by
 show ax _ _ (fv (.ref z) 2 >>= _) _ _ _;refine ag (aR hz rfl (x:=.bool ae) rfl ?_);show ax _ _ (fv (.ref z) 3 >>= _) _ _ _;refine ag (aR hz rfl (x:=.ref TI) rfl (ag (be hTI rfl ?_)));show ax _ _ (aJ (.ref z) >>= _) _ _ _;refine ag (Dj hz hp λg₁ z₁ s₁=>?_);simp only[Xr,if_false];refine ag ?_;simp only[ir,cU,eK];refine ag (ag (b0 ?_));show ax _ _ (aE (.ref i1) >>= _) _ _ _;exact ag (Y7 hh (h1.ext s₁.extBut D.i1z) (q1.ext s₁.extBut D.l1z) hx λg₂ e s₂ he=>q g₂ e (λc o n1 n2 _ z=>s₂ _ _ n2 (s₁.extBut _ _ n1 z)) he)
def ZS(z TI TO i1 i2 t1 t2:ak)(l1 l2:Bool)(k:Nat)(h:aH):Prop :=
 (dQ h z TI TO .none/\(∃a b,br h TO a b)\/∃(p:ak)(f:Bool)(op:dm),Yp h z TI TO p f/\h.get? p=aa op/\p≠z/\p≠TO/\p≠i1/\p≠i2)/\br h TI (.ref i1) (.ref i2)/\jh l1 h i1 t1 k/\jh l2 h i2 t2 k
theorem jaz{Q:Option aj->aq->Prop}(D:d7 z TI TO i1 i2 t1 t2)(S:ZS z TI TO i1 i2 t1 t2 l1 l2 k s.heap)(q1:je l1 s.heap t1 us)(q2:je l2 s.heap t2 vs)(hx:us[k]?=aa x)(hy:vs[k]?=aa y)
  (q:∀h',ZS z TI TO i1 i2 t1 t2 l1 l2 (k+1) h'->br h' s.heap.objs.size x y->(∀c o,c∉[z,TO,i1,i2]->s.heap.get? c=aa o->h'.get? c=aa o)->Q (aa (.ref s.heap.objs.size)) { s with heap:=h' }):ax (aA prog w) A (dj (.ref z)) Q E s:=by
 obtain⟨S,S1,S2,S3⟩:=S;have nz:∀{c o},s.heap.get? c=aa o->s.heap.objs.size≠c:=λe=>Pg (xq e);obtain⟨o1,g1,_⟩:=S2.obj;obtain⟨o2,g2,_⟩:=S3.obj;rcases S with ⟨hz,a,b,hTO⟩|⟨p,f,op,hz,hp,np1,np2,np3,np4⟩
 .refine Ri D hz S1 hTO S2 S3 q1 q2 hx hy λh' a1 a2 a3 a4 a5 a6 a7=>q h' ⟨.inr ⟨s.heap.objs.size,ae,_,a1,a5,nz hz,nz hTO,nz g1,nz g2⟩,a7 _ _ D.TIz D.TITO D.TIi1 D.TIi2 S1,a3,a4⟩ a5 λc o nc e=>?_;simp at nc;exact a7 c o nc.1 nc.2.1 nc.2.2.1 nc.2.2.2 e
 .have T:s.TypeIs (.ref z) "zip":=⟨_,hz,rfl⟩
  unfold dj;refine ag (ft (bc (name:=aW "__next__") T tu (bW tu T dU
   (j3l D hz hp S1 S2 S3 q1 q2 hx hy λh' a1 a3 a4 a5 a6 a7=>av (q h' ⟨.inr ⟨p,af,op,a1,a7 _ _ np1 np3 np4 hp,np1,np2,np3,np4⟩,a7 _ _ D.TIz D.TIi1 D.TIi2 S1,a3,a4⟩ a5 λc o nc e=>?_)) (dH _))))
  simp at nc;exact a7 c o nc.1 nc.2.2.1 nc.2.2.2 e
theorem je3{Q:Option aj->aq->Prop}(hh:A.handled=ah)(D:d7 z TI TO i1 i2 t1 t2)(S:ZS z TI TO i1 i2 t1 t2 l1 l2 k s.heap)(q1:je l1 s.heap t1 us)(q2:je l2 s.heap t2 vs)(hx:us[k]?=ah)
  (q:∀h',(∀c o,c∉[z,TO,i1,i2]->s.heap.get? c=aa o->h'.get? c=aa o)->Q ah { s with heap:=h' }):ax (aA prog w) A (dj (.ref z)) Q E s:=by
 obtain⟨S,S1,S2,S3⟩:=S;rcases S with ⟨hz,a,b,hTO⟩|⟨p,f,op,hz,hp,np1,np2,np3,np4⟩
 .refine O1 hh D hz S1 hTO S2 S3 q1 q2 (.inl hx) λh' kp=>q h' λc o nc e=>?_;simp at nc;exact kp c o nc.1 nc.2.1 nc.2.2.1 nc.2.2.2 e
 .have T:s.TypeIs (.ref z) "zip":=⟨_,hz,rfl⟩
  unfold dj;refine ag (ft (bc (name:=aW "__next__") T tu (bW tu T dU
   (j6l hh D hz hp S1 S2 q1 hx λh' e kp he=>?_) (dH _))))
  obtain⟨o,ho,hc⟩:=he;refine ag (kn (T:="StopIteration") (b:=af) ⟨o,ho,hc⟩ lE (av (q _ λc o nc e=>?_)));simp at nc;exact kp c o nc.1 nc.2.2.1 nc.2.2.2 e
end
theorem Jk:plainId "dict.update.loop" = af:=by decide +kernel
theorem Vj:entryFor table "dict.update.loop" = aa bV.«dict.update.loop»:=entryFor_of_tree (by kernel_rfl)
theorem j99{kvs:List (ao×Int)}{k:ao}{n:Int}(h:Dc kvs k=ae):dput kvs k n=kvs++[(k,n)]:=by unfold dput;rw[if_neg (by rw[h];simp)]
theorem j72{ks:List ao}{ns:List Int}{k:Nat}{x:ao}{y:Int}(hn:ks.Nodup)(hx:ks[k]?=aa x)(hy:ns[k]?=aa y):dput ((ks.zip ns).take k) x y=(ks.zip ns).take (k+1):=by
 have hz:(ks.zip ns)[k]?=aa (x,y):=by rw[gd];exact⟨hx,hy⟩
 rw[T5,hz,j99]
 .rfl
 .unfold Dc;rw[fe];intro p hp hc;obtain⟨i,hi,e⟩:=List.mem_iff_getElem.mp hp;have hi':i<k:=by simp at hi;omega
  rw[List.getElem_take]at e;have hi2:i<(ks.zip ns).length:=by simp at hi ⊢;omega
  have hi3:i<ks.length:=by simp at hi2;omega
  have ek:ks[i]?=aa p.1:=by rw[<-e,List.getElem_zip];exact kh hi3
  have hc:p.1=x:=of_decide_eq_true hc;rw[hc]at ek;have hk3:=(Xe.mp hx).1;have:=(List.getElem?_inj hi3 hn).mp (ek.trans hx.symm);omega
section
variable{X:Cx}{pins:k7i}{σ:St}{z TI TO i1 i2 t1 t2 d:ak}{l1 l2:Bool}{ks:List ao}{ns:List Int}{A:aG}{R:eY->aq->Prop}
theorem jit(hh:A.handled=ah)(D:d7 z TI TO i1 i2 t1 t2)(hn:ks.Nodup)(hkn:ks.length=ns.length)(hls:ks.length<=au){H:Hp}(hd:H d=ah)(s1:SqB X.K l1 H t1 (ks.map V.str))(s2:SqB X.K l2 H t2 (ns.map V.int)) :
  ∀(n k:Nat)(s:aq),ks.length-k=n->k<=ks.length->Inv X pins σ (upd H d (.dK (kvI ((ks.zip ns).take k)))) s->(∀c∈[z,TO,i1,i2],Qp X pins (upd H d (.dK (kvI []))) c)->(∀c∈[z,TI,TO,i1,i2],c≠d)->ZS z TI TO i1 i2 t1 t2 l1 l2 k s.heap ->
   (∀s',Inv X pins σ (upd H d (.dK (kvI (ks.zip ns)))) s'->R (.ok (.ret .none)) s')->cF (aA X.prog X.w) A (.builtin "dict.update.loop" ⟨[.ref d,.ref z,eW (k:Int),.none],[]⟩) R s:=by
 intro n;induction n with
 |zero =>
  intro k s hk hle I hf hne S fin;have ek:k=ks.length:=by omega
  have gs:j4 H (upd H d (.dK (kvI ((ks.zip ns).take k)))):=j8 hd;obtain⟨us,ru,qu,_⟩:=I.side (gs.seqB s1);obtain⟨vs,rv,qv,_⟩:=I.side (gs.seqB s2);have lu:=ru.length;rw[km]at lu;have hf':∀c∈[z,TO,i1,i2],Qp X pins (upd H d (.dK (kvI ((ks.zip ns).take k)))) c:=λc hc=>by obtain⟨f0,f1⟩:=hf c hc;have nd:c≠d:=hne c (by simp at hc ⊢;rcases hc with h|h|h|h<;>simp[h]);rw[ji nd]at f0;exact⟨by rw[ji nd];exact f0,f1⟩
  refine dk Vj ?_;rw[cM Jk _];unfold bV.«dict.update.loop»;refine ag (je3 (A:=A.in1) hh D S qu qv (by simp;omega) λh' kp=>?_);have I2:Inv X pins σ (upd H d (.dK (kvI ((ks.zip ns).take k)))) { s with heap:=h' }:=I.chg hf' kp;rw[Tf (by rw[fK];omega)]at I2;exact ag (av (av (fin _ I2)))
 |succ n ih =>
  intro k s hk hle I hf hne S fin;have hlt:k<ks.length:=by omega
  have gs:j4 H (upd H d (.dK (kvI ((ks.zip ns).take k)))):=j8 hd;obtain⟨us,ru,qu,_⟩:=I.side (gs.seqB s1);obtain⟨vs,rv,qv,_⟩:=I.side (gs.seqB s2);have hf':∀c∈[z,TO,i1,i2],Qp X pins (upd H d (.dK (kvI ((ks.zip ns).take k)))) c:=λc hc=>by obtain⟨f0,f1⟩:=hf c hc;have nd:c≠d:=hne c (by simp at hc ⊢;rcases hc with h|h|h|h<;>simp[h]);rw[ji nd]at f0;exact⟨by rw[ji nd];exact f0,f1⟩
  have hkx:ks[k]?=aa ks[k]:=kh hlt;have hlt2:k<ns.length:=by omega
  have hky:ns[k]?=aa ns[k]:=kh hlt2;obtain⟨u,hu,rx⟩:=ru.get (i:=k) (x:=.str ks[k]) (by rw[Xa,hkx];rfl);obtain⟨v,hv,ry⟩:=rv.get (i:=k) (x:=.int ns[k]) (by rw[Xa,hky];rfl);obtain⟨t,rfl⟩:=(show ∃t,u=b8 ks[k] t from rx)
  refine dk Vj ?_;rw[cM Jk _];unfold bV.«dict.update.loop»;refine ag (jaz (A:=A.in1) D S qu qv (by simpa using hu) (by simpa using hv) λh' S' pr kp=>?_);have I2:Inv X pins σ (upd H d (.dK (kvI ((ks.zip ns).take k)))) { s with heap:=h' }:=I.chg hf' kp;refine ag (b0 ?_);refine ag (wpAny_tryCatch ?_);unfold kS;refine ag (iz (T:="tuple") ⟨_,pr,rfl⟩ ?_);rw[if_pos (by decide)];refine ag (be pr rfl (av ?_));show ax _ _ (dP _ (dictSet d (.str ks[k] t) v)) _ _ _;refine b0 ?_;obtain⟨hz,hdm,ws,rel,dd⟩:=jam I2 (d:=d) ju;refine wpAny_dictSet_pairs (hsz:=by rw[Ij rel];exact hz) (O2 X.prog X.w ks[k] t) dd λh'' dd' sb=>?_;have he:∃q,h''.get? d=aa q:=let ⟨q,_,_,hq,_⟩:=dd';⟨q,hq⟩;have hl':((ks.zip ns).take (k+1)).length<=au:=by rw[Xj,fK];omega
  have kv':=jgh (k:=ks[k]) rel ry;rw[j72 hn hkx hky]at kv';have I3:Inv X pins σ (upd H d (.dK (kvI ((ks.zip ns).take (k+1))))) { s with heap:=h'',toks:=s.toks+1 }:=by
   have:=I2.write (h':=h'') (x:=d) (e:=d) (o:=.dK (kvI ((ks.zip ns).take (k+1)))) (t':=s.toks+1) (by rw[ju];exact True.intro) (.inl rfl) (λb q hb z=>(sb.2 b hb).trans z) he ⟨by simpa [kvI]using hl',hdm,_,kv',dd'⟩
   rwa [jb5]at this
  refine av ⟨i4 Jk _,?_⟩;have ek:((k:Int)+1)=((k+1:Nat):Int):=by push_cast;rfl
  rw[ek];have ne_d:∀c o,h'.get? c=aa o->c≠d->h''.get? c=aa o:=λc o e nc=>(sb.2 c nc).trans e;refine ih (k+1) _ nofun nofun I3 hf hne ?_ fin;obtain⟨Sa,S1,S2,S3⟩:=S';refine⟨?_,ne_d _ _ S1 (hne _ (by simp)),S2.stay λo e=>ne_d _ o e (hne _ (by simp)),S3.stay λo e=>ne_d _ o e (hne _ (by simp))⟩;rcases Sa with ⟨a,b,c,e⟩|⟨p,f,op,a,b,r⟩
  .exact .inl ⟨ne_d _ _ a (hne _ (by simp)),b,c,ne_d _ _ e (hne _ (by simp))⟩
  .refine .inr ⟨p,f,?_⟩;by_cases zp:p=d
   .subst zp;obtain⟨q,hq⟩:=he;exact⟨q,ne_d _ _ a (hne _ (by simp)),hq,r⟩
   .exact⟨op,ne_d _ _ a (hne _ (by simp)),ne_d _ _ b zp,r⟩
end
section
variable{X:Cx}{ρ:Rho}{a b:ar}{ks:List ao}{ns:List Int}{p p2 p3 p4:aP}
theorem ne5(n:Nat):n+4≠n+5/\n+2≠n+5/\n+3≠n+5/\n≠n+5/\n+1≠n+5:=by omega
theorem N5{K:k7g}{H:Hp}:∀{ks:List ao}{xs:List V},j6 K H (ks.map D.str) xs->xs=ks.map V.str
 |[],_,h=>h
 |k::ks,_,⟨x,r,e,h,l⟩=>by have h:x=.str k:=h;subst e h;rw[N5 l];rfl
theorem DE.dzip (l1 l2:Bool) (ha:DE X ρ a (D.seq l1 (ks.map D.str))) (hb:DE X ρ b (D.seq l2 (ns.map D.int))) (hn:ks.Nodup) (hkn:ks.length=ns.length) (hls:ks.length<=au) (hc:X.calm=af) (hm:X.mg "dict" = ah) (hmz:X.mg "zip" = ah) (hg:Gl X "dict") (hgz:Gl X "zip")
  (hs0:ai [.Call (.Name "zip" p2) [a,b] [] p3] X.env=(ae,aB (.Call (.Name "zip" p2) [a,b] [] p3) X.env)::ai [] X.env) (hs:ai [a,b] X.env=(ae,aB a X.env)::ai [b] X.env) (hs2:ai [b] X.env=(ae,aB b X.env)::ai [] X.env) :
  DE X ρ (.Call (.Name "dict" p) [.Call (.Name "zip" p2) [a,b] [] p3] [] p4) (.sct (ks.zip ns)):=λσ H Q r q pins s I=>by
 have args:Uz X [a,b] σ H (λvs H'=>∃v u,vs=[v,u]/\j4 H H'/\Enc X.K (del H' (owns ρ)) (D.seq l1 (ks.map D.str)) v/\Enc X.K (del H' (owns ρ)) (D.seq l2 (ns.map D.int)) u) :=
  (jc peS (jc peS jx hs2) hs).to (ha σ H _ r λv H1 g1 e1=>hb σ H1 _ (r.grow g1) λu H2 g2 e2=>⟨v,u,rfl,g1.trans g2,e1.mono (jf g2),e2⟩)
 have hpl:(aT p3 (ai [b] X.env)).any (·.1)=ae:=by rw[hs2];rfl
 refine ik (J7 I hg hm boot_dict (callWith_type1 ?_ hs0 (by rfl)));rw[hs0];show ax _ _ (fQ ((ae,aB (.Call (.Name "zip" p2) [a,b] [] p3) X.env)::aT p4 (ai [] X.env))) _ _ s;refine cE ?_;refine ik (J7 I hgz hmz lJ (callWith_type1 (thn (args p3 pins s I) λus s1 h1=>?_) hs hpl));obtain⟨vs,H1,I1,r1,v,u,ev,g1,e1,e2⟩:=h1;subst ev;obtain⟨t1,xs,et1,sq1,en1⟩:=Jr e1;obtain⟨t2,ys,et2,sq2,en2⟩:=Jr e2;subst et1 et2;obtain⟨u1,u2,eu,ru1,ru2⟩:=r1.two;subst eu;cases ru1;cases ru2;obtain⟨w1,rw1,qw1,_⟩:=I1.side (jj.seqB sq1);obtain⟨w2,rw2,qw2,_⟩:=I1.side (jj.seqB sq2);refine iE lz (by decide) (jA _ _) (jN _ _) (λobj=>iy obj _ _) jP (j0j (l1:=l1) (l2:=l2) t1 t2 w1.toArray w2.toArray) ⟨qw1,qw2,?_⟩;have z1:(zh1 s1.heap l1 t1).objs.size=s1.heap.objs.size+1:=Xi ..;have z2:(zh2 s1.heap l1 l2 t1 t2).objs.size=s1.heap.objs.size+2:=by rw[Xi,z1]
 have z3:(zh3 s1.heap l1 l2 t1 t2).objs.size=s1.heap.objs.size+3:=by rw[Xi,z2]
 have z4:(zh4 s1.heap l1 l2 t1 t2).objs.size=s1.heap.objs.size+4:=by rw[Xi,z3]
 have z5:(zh5 s1.heap l1 l2 t1 t2).objs.size=s1.heap.objs.size+5:=by rw[Xi,z4]
 have b5:(zh5 s1.heap l1 l2 t1 t2).get? (zh4 s1.heap l1 l2 t1 t2).objs.size=aa _:=xu _ rfl;have b4:(zh5 s1.heap l1 l2 t1 t2).get? (zh3 s1.heap l1 l2 t1 t2).objs.size=aa _:=kj _ (xu _ rfl);have b3:(zh5 s1.heap l1 l2 t1 t2).get? (zh2 s1.heap l1 l2 t1 t2).objs.size=aa _:=kj _ (kj _ (xu _ rfl));have b2:(zh5 s1.heap l1 l2 t1 t2).get? (zh1 s1.heap l1 t1).objs.size=aa _:=kj _ (kj _ (kj _ (xu _ rfl)));have b1:(zh5 s1.heap l1 l2 t1 t2).get? s1.heap.objs.size=aa _:=kj _ (kj _ (kj _ (kj _ (xu _ rfl))));have kp:∀c o,s1.heap.get? c=aa o->(zh5 s1.heap l1 l2 t1 t2).get? c=aa o:=λc o e=>kj _ (kj _ (kj _ (kj _ (kj _ e))));show _/\_;rw[z2,z3,z4]at b5;rw[z1,z2]at b3;rw[z3]at b4;rw[z1]at b2;rw[z4];have I2:Inv X pins σ H1 { s1 with heap:=zh5 s1.heap l1 l2 t1 t2 }:=I1.kept (t':=s1.toks) kp;have lt1:t1<s1.heap.objs.size:=by
  unfold je at qw1;cases l1 with
  |true=>rw[if_pos rfl]at qw1;obtain⟨_,e,_⟩:=qw1;exact xq e
  |false=>rw[if_neg xj]at qw1;obtain⟨_,e,_⟩:=qw1;exact xq e
 have lt2:t2<s1.heap.objs.size:=by
  unfold je at qw2;cases l2 with
  |true=>rw[if_pos rfl]at qw2;obtain⟨_,e,_⟩:=qw2;exact xq e
  |false=>rw[if_neg xj]at qw2;obtain⟨_,e,_⟩:=qw2;exact xq e
 have side:∀{l:Bool}{j t:ak},(zh5 s1.heap l1 l2 t1 t2).get? j=aa { cls:=.type (Uv l),data:=.fields #[.ref t,.int 0 0] }->jh l (zh5 s1.heap l1 l2 t1 t2) j t 0:=λ{l j t} e=>by
  unfold jh;cases l with
  |true=>rw[if_pos rfl];exact⟨_,e,rfl,rfl⟩
  |false=>rw[if_neg xj];exact⟨_,e,rfl,rfl⟩
 refine⟨⟨_,b5,rfl⟩,dr ?_⟩;have ex1:=N5 en1;have ex2:=Qk en2;subst ex1 ex2;have sq1':=(jj (A:=owns ρ)).seqB sq1;have sq2':=(jj (A:=owns ρ)).seqB sq2;have sd1:=side (l:=l1) b1;have sd2:=side (l:=l2) b2;have fpk:∀c,s1.heap.objs.size<=c->c<s1.heap.objs.size+5->Qp X pins (upd H1 (s1.heap.objs.size+5) (.dK (kvI []))) c:=λc h5 h6=>I1.fpOk h5 (by rw[ji (X8 h6)];exact I1.hok.fresh h5);clear side;generalize hgen:zh5 s1.heap l1 l2 t1 t2=hz at *;have hh:X.A.handled=ah:=I.ok.hd hc;have bz:=b5;show ax (aA X.prog X.w) X.A (fU (.type "dict") [.ref (s1.heap.objs.size+4)]) _ _ { s1 with heap:=hz };refine callType_codes (Q₁:=λobj s₁=>obj=.ref hz.objs.size/\s₁={ s1 with heap:=hz.push { cls:=.type "dict",data:=.dict #[] } }) F.kt_called_dict (F.kt_typeCall_dict_1 _) F.entry_dict_init (kt_code_dict_new _ ⟨rfl,rfl⟩) ?_;rintro obj s₁ ⟨rfl,rfl⟩;have hnew:(hz.push { cls:=.type "dict",data:=.dict #[] }).DictOf (Uj X.prog X.w) hz.objs.size []:=Heap.DictOf.new hz;have up:∀c o,hz.get? c=aa o->(hz.push { cls:=.type "dict",data:=.dict #[] }).get? c=aa o:=λc o e=>kj _ e;refine⟨hnew.typeIs,F.args_dict_init_2 _ _,?_⟩;unfold bV.«dict.__init__»;refine ag ?_;unfold kR;refine ag (wpAny_notOrdered_dict hnew.typeIs ?_);show ax _ _ (pure (hz.objs.size,[aI (s1.heap.objs.size+4)])) _ _ _;refine av ?_;show ax _ _ (fi "dict.__init__" hz.objs.size (.ref (s1.heap.objs.size+4)) [] .none) _ _ _;unfold fi;refine ag (iz (T:="zip") ⟨_,up _ _ bz,rfl⟩ ?_);rw[if_pos (by decide)];refine ag (jb8 (up _ _ bz) hh λh' tk kp=>?_);rw[if_pos (by rfl)];refine ag (gD ?_);refine ag (g6 (TI:=s1.heap.objs.size+2) (TO:=s1.heap.objs.size+3) (f0:=.none) (kp _ _ (up _ _ bz)) ?_);refine av ⟨i4 Jk _,?_⟩;have I3:Inv X pins σ (upd H1 hz.objs.size (.dK (kvI []))) { s1 with heap:=h',toks:=tk } :=
  I2.laid (a:=hz.objs.size) (h':=h') (o:=.dK (kvI [])) (t':=tk) (λb o e=>kp _ _ (up _ _ e)) (X6 _) ⟨Te _,beq_eq_false_iff_ne.mpr (eC (X8 I2.bigD)),[],Paired.nil,hnew.keep kp⟩
 have nd:H1 hz.objs.size=ah:=I2.hok.fresh (X6 _);rw[z5]at I3 nd ⊢;refine jit (A:=X.A.in1) (R:=wants (λr s₂=>r=b7/\EP X pins σ Q (aI (s1.heap.objs.size+5)) s₂) X.xe) (H:=H1) (l1:=l1) (l2:=l2) (show X.A.in1.handled=ah from hh) (zipApart_new lt1 lt2) hn hkn hls nd sq1' sq2' ks.length 0 _ nofun (Te _) (by rw[List.take_zero];exact I3) (λc hc=>?_) (λc hc=>?_) ⟨.inl ⟨kp _ _ (up _ _ bz),_,_,kp _ _ (up _ _ b4)⟩,kp _ _ (up _ _ b3),sd1.stay λo e=>kp _ _ (up _ _ e),sd2.stay λo e=>kp _ _ (up _ _ e)⟩ λs' I'=>?_
 .exact fpk c (by simp at hc;rcases hc with e|e|e|e<;>rw[e]<;>omega) (by simp at hc;rcases hc with e|e|e|e<;>rw[e]<;>omega)
 .simp at hc;have n5:=ne5 s1.heap.objs.size;rcases hc with e|e|e|e|e<;>rw[e]
  .exact n5.1
  .exact n5.2.1
  .exact n5.2.2.1
  .exact n5.2.2.2.1
  .exact n5.2.2.2.2
 .exact⟨rfl,.ref (s1.heap.objs.size+5),_,I',rfl,q _ _ (g1.trans (j8 nd)) ⟨_,rfl,by rw[j5 ((r.grow g1).fresh nd)];exact ju⟩⟩
end
section
variable{X:Cx}{ρ:Rho}{a e:ar}{es:List ar}{x:ao}{d:D}{p p1 p2 pos:aP}{y:ao}{ds:List D}
theorem Oz{M:iU}{A:aG}{E:k7h}{s:aq}{env:d9}{value:ar}{pos:aP}{Q:k7h}
  (h:ax M A (aB value env) (λv s₁=>ax M A (pyReprObj v) (λr s₂=>ax M A (formatField r dM) Q E s₂) E s₁) E s) :
  ax M A (aB (.FormattedValue value 114 ah pos) env) Q E s:=by
 rw[arm_eval_FormattedValue];refine ag (bR h (λv s₁ h₁=>?_) λ_ _ x=>x);refine ag (fm ?_);show ax _ _ (do let v' <-dP [v] (pyReprObj v);formatField v' dM) Q E s₁;exact ag (b0 h₁)
theorem DE.fmtR(ha:DT X ρ e (.str y))(hy:(bX y).length<=au):DE X ρ (.FormattedValue e 114 ah pos) (.str (bX y)):=λσ H Q R q pins s I=>by
 refine Oz (thn (ha σ H (λv H1=>v=.str y/\j4 H H1) R (λv H1 g e=>⟨e,g⟩) pins s I) λu s1 ⟨v,H1,I1,r,ev,g⟩=>?_);subst ev;obtain⟨t,rfl⟩:=(show ∃t,u=b8 y t from r)
 refine wpAny_pyReprObj_gives (cX s1 y t) F.slot_str_repr F.entry_str_repr (F.args_str_repr_1 _) (gives_str_repr y t) ?_ rfl hy;exact kX (λt' tk=>⟨.str (bX y),H1,I1.un (t':=tk) Un.refl I1.hok,⟨_,rfl⟩,q _ H1 g rfl⟩) hy
theorem Rz.grow{σ:St}{H H':Hp}(k:Rz X σ H x)(g:j4 H H'):Rz X σ H' x:=λpins H2 s' e C I g2 hC Fe=>k pins H2 s' e C I (g.trans g2) hC Fe
theorem DXA.head(ha:DX X ρ a x)(hs:ai (a::es) X.env=(ae,aB a X.env)::ai es X.env):DXA X ρ (a::es) x:=λσ H Q R k =>(jc peS paS hs).to (ha σ H _ R k)
theorem DXA.tail(ha:DT X ρ a d)(h:DXA X ρ es x)(hs:ai (a::es) X.env=(ae,aB a X.env)::ai es X.env):DXA X ρ (a::es) x:=λσ H Q R k =>(jc peS paS hs).to (ha σ H _ R λv H1 g _=>h σ H1 _ (R.grow g) (k.grow g))
theorem DX.args {f:ao} (ha:DXA X ρ (e::es) x) (hg:Gl X f) (hdb:(f==k7k)=ae) {fa:ak} (hfa:X.mg f=aa (.ref fa)) (hk:W.keepIn X.K (.ref fa)=af)
  (he:ai (e::es) X.env=(ae,aB e X.env)::ai es X.env) (hpl:(aT pos (ai es X.env)).any (·.1)=ae):DX X ρ (.Call (.Name f p) (e::es) [] pos) x:=λσ H Q R k pins s I=>by
 refine aU (Zr I hg hfa ?_ hdb);exact W.callWith_K (h₀:=X.base) I.ok.mod.kin hk (thn (ha σ H (λ_ _=>False) R k pos pins s I) λus s1 ⟨vs,H1,I1,r,z⟩=>z.elim) he hpl
end
noncomputable def W6:List Int->Int
 |[]=>0
 |a::r=>r.foldl max a
theorem j8b:∀(r:List Int)(a:Int),a<=r.foldl max a
 |[],a=>lr a
 |b::r,a=>by rw[Pz];have:=j8b r (max a b);omega
theorem Cd:∀(r:List Int)(a:Int),r.foldl max a∈a::r/\∀b∈a::r,b<=r.foldl max a
 |[],a=>⟨X3.mpr rfl,λb hb=>by rw[X3.mp hb];exact lr _⟩
 |c::r,a=>by
  rw[Pz];obtain⟨h1,h2⟩:=Cd r (max a c);refine⟨?_,λb hb=>?_⟩
  .rcases xr.mp h1 with z|z
   .rw[z];by_cases q:a<=c
    .rw[Int.max_eq_right q];exact xf _ xm
    .rw[Int.max_eq_left nofun];exact xm
   .exact xf _ (xf _ z)
  .have l:=h2 (max a c) xm;rcases xr.mp hb with z|z
   .rw[z];omega
   .rcases xr.mp z with z|z
    .rw[z];omega
    .exact h2 b (xf _ z)
theorem Ig{ns:List Int}(h:ns≠[]):W6 ns∈ns/\∀b∈ns,b<=W6 ns:=by
 cases ns with
 |nil=>exact absurd rfl h
 |cons a r=>exact Cd r a
theorem jcf{ns:List Int}{M:Int}(h1:M∈ns)(h2:∀a∈ns,a<=M):W6 ns=M:=by
 have hn:ns≠[]:=λe=>by rw[e]at h1;exact nomatch h1
 obtain⟨a,b⟩:=Ig hn;have:=h2 _ a;have:=b _ h1;omega
noncomputable def Rj(ns:List Int):Int:=-W6 (ns.map λn=>-n)
theorem j84{ns:List Int}(h:ns≠[]):Rj ns∈ns/\∀b∈ns,Rj ns<=b:=by
 obtain⟨h1,h2⟩:=Ig (ns:=ns.map λn=>-n) (by simpa using h);obtain⟨a,ha,e⟩:=Xd.mp h1;unfold Rj;refine⟨?_,λb hb=>?_⟩
 .rw[<-e,Int.neg_neg];exact ha
 .have:=h2 _ (Xd.mpr ⟨b,hb,rfl⟩);omega
theorem jce{ns:List Int}{M:Int}(h1:M∈ns)(h2:∀a∈ns,M<=a):Rj ns=M:=by
 obtain⟨a,b⟩:=j84 (ns:=ns) λe=>by rw[e]at h1;exact nomatch h1
 have:=h2 _ a;have:=b _ h1;omega
section
variable{X:Cx}{ρ:Rho}{a b e:ar}{es:List ar}{x y:ao}{d:D}{i j:Int}{p p1 p2 p3 p4 pk pos:aP}{ds:List D}
theorem j9x{pins:k7i}{s:aq}{σ:St}{H:Hp}{l:ak}{ns:List Int}(I:Inv X pins σ H s)(sq:SqL X.K H l (ns.map V.int))(hne:ns≠[]):∃zs,s.heap.IsList l (eX zs)/\0<zs.size/\zs.size=ns.length/\∀i,i<zs.size->gm zs i=ns.getD i 0:=by
 obtain⟨its,rv,pl,_⟩:=I.list sq;have hl:its.length=ns.length:=by rw[<-rv.length,km]
 have val:∀(i:Nat)(v:aj),its[i]?=aa v->∃t,v=bq (ns.getD i 0) t:=by
  intro i v hv;have hi:i<its.length:=(Xe.mp hv).1;have hi':i<ns.length:=by omega
  obtain⟨w1,hw,rw1⟩:=rv.get (x:=.int (ns.getD i 0)) (i:=i) (by rw[Xa,kh hi',xn,kh hi'];rfl);rw[hw]at hv;cases hv;exact rw1
 have hall:AllInts its.toArray:=by intro v hv;obtain⟨i,hi,e⟩:=List.mem_iff_getElem.mp (show v∈its by simpa using hv);obtain⟨t,e'⟩:=val i v (by rw[kh hi,e]);exact⟨_,t,e'⟩
 obtain⟨zs,hz⟩:=hall.items;have pl':=pl.isList;rw[hz]at pl';have hsz:0<zs.size:=by
  have:its.toArray.size=(eX zs).size:=by rw[hz]
  have h1:0<ns.length:=List.length_pos_iff.mpr hne;simp[eX]at this;omega
 have hns:∀i,i<zs.size->gm zs i=ns.getD i 0:=by
  intro i hi;obtain⟨v1,e1⟩:∃v,(eX zs)[i]?=aa v:=⟨_,Array.getElem?_eq_getElem (by simpa [eX]using hi)⟩
  obtain⟨t,ht⟩:=iS e1;rw[<-hz]at e1;obtain⟨t',ht'⟩:=val i _ (by simpa using e1);rw[ht]at ht';exact(Value.int.inj ht').1
 have len:zs.size=ns.length:=by
  have:its.toArray.size=(eX zs).size:=by rw[hz]
  simp[eX]at this;omega
 exact⟨zs,pl',hsz,len,hns⟩
theorem j68 (hc:X.calm=af):J9 X (.builtin "max") (λxs H Q=>∃(l:ak)(ns:List Int),xs=[.ref l]/\SqL X.K H l (ns.map V.int)/\ns≠[]/\Q (.int (W6 ns)) H):=by
 rintro pins s σ H xs us Q I r ⟨l,ns,e,sq,hne,q⟩;subst e;obtain⟨u,eu,ru⟩:=vals1 r;subst eu;cases ru;obtain⟨zs,pl',hsz,len,hns⟩:=j9x I sq hne;refine max_intList (I.ok.hd hc) pl' hsz λv h' tk hv hk=>?_;obtain⟨t,rfl⟩:=iS hv;obtain⟨h1,h2⟩:=argBest_gt (gm zs) (zs.size-1);have hM:W6 ns=gm zs (jT (λi j=>decide (gm zs i>gm zs j)) (zs.size-1)):=by
  refine jcf ?_ λc hc=>?_
  .rw[hns _ nofun];rw[xn,kh nofun];exact Pu _
  .obtain⟨k,hk,rfl⟩:=List.mem_iff_getElem.mp hc;have:=h2 k nofun
   rw[hns k nofun,xn,kh hk]at this;exact this
 rw[hM]at q;exact⟨.int _,H,I.kept hk,⟨t,rfl⟩,q⟩
theorem j66 (hc:X.calm=af):J9 X (.builtin "min") (λxs H Q=>∃(l:ak)(ns:List Int),xs=[.ref l]/\SqL X.K H l (ns.map V.int)/\ns≠[]/\Q (.int (Rj ns)) H):=by
 rintro pins s σ H xs us Q I r ⟨l,ns,e,sq,hne,q⟩;subst e;obtain⟨u,eu,ru⟩:=vals1 r;subst eu;cases ru;obtain⟨zs,pl',hsz,len,hns⟩:=j9x I sq hne;refine min_intList (I.ok.hd hc) pl' hsz λv h' tk hv hk=>?_;obtain⟨t,rfl⟩:=iS hv;obtain⟨h1,h2⟩:=argBest_lt (gm zs) (zs.size-1);have hM:Rj ns=gm zs (jT (λi j=>decide (gm zs i<gm zs j)) (zs.size-1)):=by
  refine jce ?_ λc hc=>?_
  .rw[hns _ nofun];rw[xn,kh nofun];exact Pu _
  .obtain⟨k,hk,rfl⟩:=List.mem_iff_getElem.mp hc;have:=h2 k nofun
   rw[hns k nofun,xn,kh hk]at this;exact this
 rw[hM]at q;exact⟨.int _,H,I.kept hk,⟨t,rfl⟩,q⟩
theorem DE.max2 (ha:DT X ρ a (.int i)) (hb:DT X ρ b (.int j)) (hm:X.mg "max" = ah) (hc:X.calm=af) (hg:Gl X "max") (hs:ai [a,b] X.env=(ae,aB a X.env)::ai [b] X.env) (hs2:ai [b] X.env=(ae,aB b X.env)::ai [] X.env)
  (hpl:(aT pos (ai [b] X.env)).any (·.1)=ae):DE X ρ (.Call (.Name "max" p) [a,b] [] pos) (.int (if j>i then j else i)):=λσ H Q R q =>
 (v8 (j69 hc) hg hm boot_max (jc peS (jc peS jx hs2) hs) (by decide) (by decide) hs hpl).to (ha σ H _ R λv H1 g1 e1=>hb σ H1 _ (R.grow g1) λu H2 g2 e2=>⟨i,j,by rw[show v=.int i from e1,show u=.int j from e2],q _ H2 (g1.trans g2) rfl⟩)
theorem DE.maxL {ns:List Int} (ha:DT X ρ a (.lst (ns.map D.int))) (hn:ns≠[]) (hm:X.mg "max" = ah) (hc:X.calm=af) (hg:Gl X "max") (hs:ai [a] X.env=[(ae,aB a X.env)]):DE X ρ (.Call (.Name "max" p) [a] [] pos) (.int (W6 ns)):=λσ H Q R q =>(v8 (j68 hc) hg hm boot_max (jc peS jx hs) (by decide) (by decide) hs).to (ha σ H _ R λv H1 g1 ⟨l,xs,e,sq,en⟩=>⟨l,ns,by rw[e],by rw[Qk en]at sq;exact sq,hn,q _ H1 g1 rfl⟩)
theorem DE.minL {ns:List Int} (ha:DT X ρ a (.lst (ns.map D.int))) (hn:ns≠[]) (hm:X.mg "min" = ah) (hc:X.calm=af) (hg:Gl X "min") (hs:ai [a] X.env=[(ae,aB a X.env)]):DE X ρ (.Call (.Name "min" p) [a] [] pos) (.int (Rj ns)):=λσ H Q R q =>(v8 (j66 hc) hg hm boot_min (jc peS jx hs) (by decide) (by decide) hs).to (ha σ H _ R λv H1 g1 ⟨l,xs,e,sq,en⟩=>⟨l,ns,by rw[e],by rw[Qk en]at sq;exact sq,hn,q _ H1 g1 rfl⟩)
theorem DX.dzip (ha:DXA X ρ [a,b] y) (hm:X.mg "dict" = ah) (hmz:X.mg "zip" = ah) (hg:Gl X "dict") (hgz:Gl X "zip")
  (hs0:ai [.Call (.Name "zip" p2) [a,b] [] p3] X.env=(ae,aB (.Call (.Name "zip" p2) [a,b] [] p3) X.env)::ai [] X.env) (hs:ai [a,b] X.env=(ae,aB a X.env)::ai [b] X.env) (hs2:ai [b] X.env=(ae,aB b X.env)::ai [] X.env) :
  DX X ρ (.Call (.Name "dict" p) [.Call (.Name "zip" p2) [a,b] [] p3] [] p4) y:=λσ H Q R k pins s I=>by
 have hpl:(aT p3 (ai [b] X.env)).any (·.1)=ae:=by rw[hs2];rfl
 refine ik (J7 I hg hm boot_dict (callWith_type1 ?_ hs0 (by rfl)));rw[hs0];show ax _ _ (fQ ((ae,aB (.Call (.Name "zip" p2) [a,b] [] p3) X.env)::aT p4 (ai [] X.env))) _ _ s;refine cE ?_;exact ik (J7 I hgz hmz lJ (callWith_type1 (thn (ha σ H (λ_ _=>False) R k p3 pins s I) λus s1 ⟨vs,H1,I1,r,z⟩=>z.elim) hs hpl))
end
section
variable{X:Cx}{ρ:Rho}{p1 p2 p3 p4 p5 p6 q1 pos:aP}
end
section
variable{X:Cx}{ρ:Rho}{p1 p2 p3 p4 p5 p6 q1 pos:aP}
end
noncomputable def ch1(c:Nat):ao:=⟨#[c]⟩
noncomputable def chs(y:ao):List D:=y.cps.toList.map λc=>D.str (ch1 c)
noncomputable def ascii(y:ao):Bool:=y.cps.all (· < 128)
noncomputable def Its(y:ao):It:=⟨λi _=>i<y.cps.size,λi H x H'=>H'=H/\∃c,y.cps[i]?=aa c/\x=.str (ch1 c),λi _=>y.cps.size<=i⟩
theorem j6s {P:ay} {w:aD} {K:k7g} {tg:ar} (it:ak) (y:ao) (t:dz):Turn P w K tg (Its y) [it] it (λi h=>h.IsStrIter it "str_ascii_iterator" y t i) where
 mem:=by simp
 obj:=λi h st b hb=>by
  have e:b=it:=by simpa using hb
  subst e;obtain⟨o,e,c,d⟩:=st;exact⟨o,e,λv z=>by rw[d]at z;cases z⟩
 keep:=λi h h' st k=>let ⟨o,e,r⟩:=st;⟨o,k it (by simp) o e,r⟩
 item:=by intro X hP hw hK hc i pins s σ H E I hf st hg;subst hP hw hK;obtain⟨f0,f1,f2,f3,f4,f5⟩:=hf it (by simp);have W:=Walks.strAscii (prog:=X.prog) (w:=X.w) (I.ok.hd hc) it y t;refine W.item i s _ _ hg st λv h' tk hv st' kk=>?_;obtain⟨c,u,hcu,rfl⟩:=hv;have I1:Inv X pins σ H { s with heap:=h',toks:=tk }:=I.turned (λb o hb e=>kk b o (by simpa using hb) e) f0 f1 f3 f4 f5;obtain⟨o,e,oc,d⟩:=id st';exact⟨_,rfl,Lw (s:={ s with heap:=h',toks:=tk }) e oc d (by decide) ⟨.str (ch1 c),H,I1,⟨u,rfl⟩,⟨rfl,c,hcu,rfl⟩,st',λb hb=>(hf b hb).1⟩⟩
 done:=by intro X hP hw hK hc i pins s σ H E I hf st hg;subst hP hw hK;obtain⟨f0,f1,f2,f3,f4,f5⟩:=hf it (by simp);exact wpAny_pyNext_ascii_end (I.ok.hd hc) st (by have:y.cps.size<=i:=hg;simp;omega) λh' eb=>⟨rfl,I.turned (t':=s.toks) (λb o hb e=>eb b o hb e) f0 f1 f3 f4 f5⟩
 self:=λ_ _ _ _ _ st h=>wpAny_pyIter_striter_ascii st h
section
variable{X:Cx}{ρ:Rho}{a b c e tg it:ar}{y z:ao}{i j k:Int}{p p2 pos:aP}
theorem j8i{K:k7g}{F:Hp}(y:ao):U8 K F (Its y) (chs y):=λi H A g hA=>by
 have hl:(chs y).length=y.cps.size:=by unfold chs;rw[km,cW]
 rw[hl];refine⟨λh=>h,λh=>h,λx H' ⟨e,c,hc,ex⟩=>?_⟩;subst e ex;refine⟨j4.refl _,λd hd=>?_⟩;unfold chs at hd;rw[Xa,Array.getElem?_toList,hc]at hd;cases hd;rfl
theorem DI.str(h:DT X ρ it (.str y))(ha:ascii y=af):DI X ρ tg it (chs y):=λσ H R r q pins s I=>by
 refine thn (h σ H (λv H1=>v=.str y/\j4 H H1) r (λv H1 g e=>⟨e,g⟩) pins s I) λv s1 ⟨x,H1,I1,r1,ex,g1⟩=>?_;subst ex;obtain⟨t,rfl⟩:=(show ∃t,v=b8 y t from r1)
 refine wpAny_pyIter_ascii ha ?_;refine⟨s1.heap.objs.size,[s1.heap.objs.size],_,_,H1,rfl,I1.kept (t':=s1.toks) λb o e=>kj _ e,j6s _ y t,⟨_,xu _ rfl,rfl,rfl⟩,λb hb=>?_,q _ H1 g1 (j8i y)⟩;have e:b=s1.heap.objs.size:=by simpa using hb
 subst e;exact I1.fpOk (X6 _) (I1.hok.fresh (X6 _))
noncomputable def inS(y z:ao):Bool:=!(bC z y 0 z.length 1).isEmpty
theorem Ds:OpR X (bj .Gt) (λx y H Q=>∃i j,x=.str i/\y=.str j/\Q (.bl (decide (j.cps.toList<i.cps.toList))) H):=by intro pins s σ H x y v u Q I rx ry h;obtain⟨i,j,rfl,rfl,q⟩:=h;obtain⟨t,rfl⟩:=rx;obtain⟨t',rfl⟩:=ry;exact P.gt_str (qb I q rfl)
theorem DE.ltS(ha:DT X ρ a (.str y))(hb:DT X ρ b (.str z)):DE X ρ (.Compare a [.Lt] [b] pos) (.bl (decide (y.cps.toList<z.cps.toList))):=λσ H Q R q =>(Jo Dq peS peS (zb _)).to (ha σ H _ R λv H1 g1 e1=>hb σ H1 _ (R.grow g1) λu H2 g2 e2=>⟨y,z,e1,e2,q _ H2 (g1.trans g2) rfl⟩)
theorem DB.ltS(ha:DT X ρ a (.str y))(hb:DT X ρ b (.str z)):DB X ρ (.Compare a [.Lt] [b] pos) (decide (y.cps.toList<z.cps.toList)):=λσ H Q R q =>(Jb Dq peS peS (zb _)).to (ha σ H _ R λv H1 g1 e1=>hb σ H1 _ (R.grow g1) λu H2 g2 e2=>⟨y,z,e1,e2,_,rfl,q H2 (g1.trans g2)⟩)
theorem DE.gtS(ha:DT X ρ a (.str y))(hb:DT X ρ b (.str z)):DE X ρ (.Compare a [.Gt] [b] pos) (.bl (decide (z.cps.toList<y.cps.toList))):=λσ H Q R q =>(Jo Ds peS peS (zb _)).to (ha σ H _ R λv H1 g1 e1=>hb σ H1 _ (R.grow g1) λu H2 g2 e2=>⟨y,z,e1,e2,q _ H2 (g1.trans g2) rfl⟩)
theorem DB.gtS(ha:DT X ρ a (.str y))(hb:DT X ρ b (.str z)):DB X ρ (.Compare a [.Gt] [b] pos) (decide (z.cps.toList<y.cps.toList)):=λσ H Q R q =>(Jb Ds peS peS (zb _)).to (ha σ H _ R λv H1 g1 e1=>hb σ H1 _ (R.grow g1) λu H2 g2 e2=>⟨y,z,e1,e2,_,rfl,q H2 (g1.trans g2)⟩)
theorem DE.inS(ha:DT X ρ a (.str y))(hb:DT X ρ b (.str z))(hm:aO .In b=ae):DE X ρ (.Compare a [.In] [b] pos) (.bl (inS y z)):=λσ H Q R q =>(Jo Dr peS peS hm).to (ha σ H _ R λv H1 g1 e1=>hb σ H1 _ (R.grow g1) λu H2 g2 e2=>⟨y,z,e1,e2,q _ H2 (g1.trans g2) rfl⟩)
theorem DB.inS(ha:DT X ρ a (.str y))(hb:DT X ρ b (.str z))(hm:aO .In b=ae):DB X ρ (.Compare a [.In] [b] pos) (inS y z):=λσ H Q R q =>(Jb Dr peS peS hm).to (ha σ H _ R λv H1 g1 e1=>hb σ H1 _ (R.grow g1) λu H2 g2 e2=>⟨y,z,e1,e2,_,rfl,q H2 (g1.trans g2)⟩)
theorem mulOk_of(h1:1<=k/\k<=1000)(h2:y.length<=1000):MulOk y k:=by
 refine⟨?_,λ_ _=>?_,λ_ _=>?_⟩
 .simp;omega
 .have:(1000:Int)<=(2^63-1)/k:=Int.le_ediv_of_mul_le nofun nofun
  omega
 .have hk:k.toNat<=1000:=by omega
  have:y.length*k.toNat<=1000000:=Nat.mul_le_mul h2 hk;unfold b9;rw[cg];simp;omega
theorem j2g:OpR X (bh .Mult) (λx y H Q=>∃i k,x=.str i/\y=.int k/\MulOk i k/\Q (.str (iw i k)) H):=by intro pins s σ H x y v u Q I rx ry h;obtain⟨i,k,rfl,rfl,hm,q⟩:=h;obtain⟨t,rfl⟩:=rx;obtain⟨t',rfl⟩:=ry;exact SB.mul hm λt' tk=>⟨.str _,H,I.un (t':=tk) Un.refl I.hok,⟨_,rfl⟩,q⟩
theorem DE.mulS(ha:DT X ρ a (.str y))(hb:DT X ρ b (.int k))(h1:1<=k/\k<=1000)(h2:y.length<=1000):DE X ρ (.BinOp a .Mult b pos) (.str (iw y k)):=λσ H Q R q =>(Vm j2g peS peS).to (ha σ H _ R λv H1 g1 e1=>hb σ H1 _ (R.grow g1) λu H2 g2 e2=>⟨y,k,e1,e2,mulOk_of h1 h2,q _ H2 (g1.trans g2) rfl⟩)
end
section
variable{X:Cx}{pins:k7i}{σ:St}{H:Hp}{l S I:ak}{xs:List V}{R:eY->aq->Prop}{dv:aj}
end
section
variable{X:Cx}{ρ:Rho}{a b c:ar}{ns:List Int}{i j k:Int}{n:Nat}{p p1 pk pos:aP}
end
section
variable{X:Cx}{ρ ρ1 ρ':Rho}{e c:ar}{ss sa sb:List aQ}{is is2:List Nat}{d:D}{i:Nat}{x:ao}{p pos:aP}
def DMs(X:Cx)(ρ ρ':Rho)(is:List Nat)(ss:List aQ):Prop:=∀(σ:St)(H:Hp)(E:Ends),Rep X.K ρ σ H->(∀σ' H',j4 H H'->Rep X.K ρ' σ' H'->(∀j,j∉is->σ'[j]?=σ[j]?)->E.nx σ' H')->Zz X ss E σ H
def DMt(X:Cx)(ρ ρ':Rho)(is:List Nat)(full tl:List aQ):Prop:=∀(σ:St)(H:Hp)(E:Ends),Rep X.K ρ σ H->(∀σ' H',j4 H H'->Rep X.K ρ' σ' H'->(∀j,j∉is->σ'[j]?=σ[j]?)->Zz X tl E σ' H')->Zz X full E σ H
variable{tl:List aQ}
end
def Kp(ρ ρ':Rho)(is:List Nat):Prop:=(∀b∈owns ρ',b∈owns ρ)/\∀j,j∉is->ρ'[j]?=ρ[j]?
section
variable{X:Cx}{ρ ρ1 ρ':Rho}{is js:List Nat}{i:Nat}{d:D}
end
noncomputable def jmo:HO->Bool
 |.ins _ _ _=>af
 |_=>ae
def Q8(H H':Hp):Prop:=∀b o,H b=aa o->jmo o=ae->H' b=aa o
theorem Q8.del{H H':Hp}{A:List ak}(g:Q8 H H'):Q8 (del H A) (del H' A):=λb o h n=>by obtain⟨nb,e⟩:=of_del h;rw[j5 nb];exact g b o e n
theorem Q8.seq{K:k7g}{H H':Hp}{a:ak}{xs:List V}(g:Q8 H H')(h:SqL K H a xs):SqL K H' a xs:=by
 rcases h with (h|⟨o,h⟩)|h
 .exact .inl (.inl (g _ _ h rfl))
 .exact .inl (.inr ⟨o,g _ _ h rfl⟩)
 .exact .inr h
theorem Q8.seqT{K:k7g}{H H':Hp}{a:ak}{xs:List V}(g:Q8 H H')(h:SqT K H a xs):SqT K H' a xs:=by
 rcases h with (h|⟨o,h⟩)|h
 .exact .inl (.inl (g _ _ h rfl))
 .exact .inl (.inr ⟨o,g _ _ h rfl⟩)
 .exact .inr h
theorem vm.monoN{H H':Hp}(g:Q8 H H'):∀{cs:List ak}{vs:List V},vm H cs vs->vm H' cs vs
 |[],_,h=>h
 |_::_,_,⟨v,r,o,u,e,h,d,rv,l⟩=>⟨v,r,o,u,e,g _ _ h rfl,d,rv,l.monoN g⟩
theorem LamAt.monoN{K:k7g}{H H':Hp}{x:ao}{a c:ak}{tx:Tx}{cl:List (ao×ak)}{vs:List V}(g:Q8 H H')(h:LamAt K H x a c tx cl vs):LamAt K H' x a c tx cl vs :=
 ⟨h.tx,let ⟨pm,ctv,e⟩:=h.fo;⟨pm,ctv,g _ _ e rfl⟩,let ⟨oc,e,q⟩:=h.co;⟨oc,g _ _ e rfl,q⟩,h.nm,h.nd,h.cs.monoN g⟩
mutual
theorem Enc.monoN{K:k7g}{H H':Hp}(g:Q8 H H'):∀{d:D}{v:V},Enc K H d v->Enc K H' d v
 |.non,_,h=>h
 |.bl _,_,h=>h
 |.int _,_,h=>h
 |.str _,_,h=>h
 |.tup _,_,⟨a,xs,e,q,l⟩=>⟨a,xs,e,g.seqT q,j6.monoN g l⟩
 |.lst _,_,⟨a,xs,e,q,l⟩=>⟨a,xs,e,g.seq q,j6.monoN g l⟩
 |.dct _ _,_,⟨a,xs,ep,vs,e,q,ek,kt,rv,l⟩=>⟨a,xs,ep,vs,e,g _ _ q rfl,ek,λx hx=>g.seqT (kt x hx),rv,j6.monoN g l⟩
 |.sct _,_,⟨a,e,q⟩=>⟨a,e,g _ _ q rfl⟩
 |.fn _ _,_,⟨a,c,tx,cl,vs,e,q,l⟩=>⟨a,c,tx,cl,vs,e,q.monoN g,j6.monoN g.del l⟩
theorem j6.monoN{K:k7g}{H H':Hp}(g:Q8 H H'):∀{ds:List D}{xs:List V},j6 K H ds xs->j6 K H' ds xs
 |[],_,h=>h
 |_::_,_,⟨x,r,e,h,l⟩=>⟨x,r,e,Enc.monoN g h,j6.monoN g l⟩
end
theorem Rep.monoN{K:k7g}{ρ:Rho}{σ:St}{H H':Hp}(R:Rep K ρ σ H)(g:Q8 H H'):Rep K ρ σ H' :=
 ⟨R.len,λi d e=>let ⟨v,q,h⟩:=R.val i d e;⟨v,q,h.monoN g.del⟩,λi a ds e=>let ⟨q,xs,h,l⟩:=R.own i a ds e;⟨q,xs,g _ _ h rfl,l.monoN g.del⟩,R.nd,λi a o x e=>let ⟨q,h⟩:=R.raw i a o x e;⟨q,h.elim .inl λh=>.inr ⟨g.del _ _ h.1 rfl,h.2⟩⟩,λx hx c P e=>g _ _ (R.tb x hx c P e) rfl⟩
noncomputable def pcF(b:ak)(k:Int):List (ao×V):=[("standing",.ref b),("spot",.int k)]
structure Ob where
 a:ak
 dx:ak
 b:ak
structure PcAt(C:ak)(H:Hp)(o:Ob)(ls:List ao)(k:Nat):Prop where
 ob:H o.a=aa (.ins C o.dx (pcF o.b (k:Int)))
 li:H o.b=aa (.lst (ls.map V.str))
def But(a:ak)(H H':Hp):Prop:=∀b o,b≠a->H b=aa o->H' b=aa o
theorem Ku (b:ak) (k:Int):(pcF b k).lookup ("standing":ao)=aa (.ref b):=by unfold pcF;rfl
theorem Bm (b:ak) (k:Int):(pcF b k).lookup ("spot":ao)=aa (.int k):=by
 unfold pcF;rw[Xg];have:(("spot":ao)==("standing":ao))=ae:=by decide +kernel
 rw[this];rfl
theorem Bo (b:ak) (k:Int) {m:ao} (h1:(m==("standing":ao))=ae) (h2:(m==("spot":ao))=ae):(pcF b k).lookup m=ah:=by unfold pcF;rw[Xg,h1,Xg,h2];rfl
theorem jc5 (b:ak) (k j:Int):Jg "spot" (.int j) (pcF b k)=pcF b j:=by
 have z:¬(("standing":ao) = "spot"):=by decide +kernel
 show(if ("standing":ao) = "spot" then _ else(("standing":ao),V.ref b)::(if ("spot":ao) = "spot" then[(("spot":ao),V.int j)]else _))=pcF b j;rw[if_neg z,if_pos rfl];rfl
theorem j7w (b:ak):Jg "spot" (.int 0) (Jg "standing" (.ref b) [])=pcF b 0:=by
 have z:¬(("standing":ao) = "spot"):=by decide +kernel
 show(if ("standing":ao) = "spot" then _ else(("standing":ao),V.ref b)::Jg "spot" (.int 0) [])=pcF b 0;rw[if_neg z];rfl
theorem PcAt.stay{C:ak}{H H':Hp}{o:Ob}{ls:List ao}{k:Nat}(h:PcAt C H o ls k)(g:j4 H H'):PcAt C H' o ls k:=⟨g _ _ h.ob,g _ _ h.li⟩
structure PcT(K:k7g)(mg:k7j)(C fA fT fL fI:ak):Prop where
 cl:Cls K C
 nS:Zn K C "standing"
 nP:Zn K C "spot"
 mA:Meth K C "ahead" fA
 mT:Meth K C "taken" fT
 mL:Meth K C "all_taken" fL
 mkI:Mk K C fI
 mgC:mg "Pieces" = aa (.ref C)
 len:mg "len" = ah
def M4(C:ak):Sp:=λvs H Q _=>∃(o:Ob)(ls:List ao)(k:Nat),vs=[.ref o.a]/\PcAt C H o ls k/\Q (.str (ls.getD k "")) H
def Nt(C:ak):Sp:=λvs H Q _=>∃(o:Ob)(ls:List ao)(k:Nat),vs=[.ref o.a]/\PcAt C H o ls k/\∀H',PcAt C H' o ls (k+1)->But o.a H H'->Q (.str (ls.getD k "")) H'
def j1u(C:ak):Sp:=λvs H Q _=>∃(o:Ob)(ls:List ao)(k:Nat),vs=[.ref o.a]/\PcAt C H o ls k/\Q (.bl (decide (ls.length<=k))) H
section
variable{P:ay}{w:aD}{K:k7g}{mg:k7j}{base:aH}{C fA fT fL fI f:ak}{fd fdA:aL}{st:aQ}
noncomputable def j6h(n:Nat)(p1 p2 p3 p4 p5 p6 p7 p8 p9 p10 p11 p12 p13 p14 p15 p16:aP):List aQ :=
 [.If (.Compare (.Attribute (.Name "self" p1) "spot" p2) [.Lt] [.Call (.Name "len" p3) [.Attribute (.Name "self" p4) "standing" p5] [] p6] p7) [.Return (aa (.Subscript (.Attribute (.Name "self" p8) "standing" p9) (.Attribute (.Name "self" p10) "spot" p11) p12)) p13] [] p14,
 .Return (aa (.Constant (.str "") n p15)) p16]
theorem jd9 {ls:List ao} {k:Nat} (h:k<ls.length):(ls.map V.str)[k]?=aa (.str (ls.getD k "")):=by rw[Xa,kh h,xn,kh h];rfl
theorem j81 {n:Nat} {p1 p2 p3 p4 p5 p6 p7 p8 p9 p10 p11 p12 p13 p14 p15 p16:aP} (F:Fun K "ahead" "Pieces.ahead" st f fd) (T:PcT K mg C fA fT fL fI) (S:FnScope ["self"] ["self"] (j0 st)) (hb:jg st=j6h n p1 p2 p3 p4 p5 p6 p7 p8 p9 p10 p11 p12 p13 p14 p15 p16)
  (hv:Vis (j0 st) "self") (hg:(j0 st).names.lookup ("len":ao)=aa .globalImplicit):FnOk P w K mg base CX0 1 f fd ["self"] (M4 C):=by
 refine F.ok S (λvs H Q E h=>?_) (λcdv A outer s H vs Q E hr h=>?_)
 .obtain⟨a,ls,k,rfl,_⟩:=h;rfl
 .obtain⟨⟨a,dx,b⟩,ls,k,rfl,⟨h1,h2⟩,q⟩:=h;rw[hb];refine⟨_,qp (Lp (Jb j2h (Ye (qi (i:=0) rfl hv) rfl) (v8 Zf hg T.len cj (jc (Ye (qi (i:=0) rfl hv) rfl) jx)) (zb _)) (Ug (Qs (M7 j15 (Ye (qi (i:=0) rfl hv) rfl) (Ye (qi (i:=0) rfl hv) rfl) (λ_ _=>rfl)))) Uh) (Ug (Qs Rh)),?_⟩;refine⟨_,rfl,a,C,dx,_,_,rfl,h1,T.cl,T.nP,Bm _ _,_,rfl,a,C,dx,_,_,rfl,h1,T.cl,T.nS,Ku _ _,b,_,rfl,.inl (SqL.of h2),_,_,rfl,rfl,_,rfl,?_⟩;rw[km];refine jgu (λhc=>?_) (λhc=>?_)
  .have hlt:k<ls.length:=by have:=of_decide_eq_true hc;omega
   exact⟨_,rfl,a,C,dx,_,_,rfl,h1,T.cl,T.nS,Ku _ _,_,rfl,a,C,dx,_,_,rfl,h1,T.cl,T.nP,Bm _ _,b,_,(k:Int),_,rfl,rfl,SqL.of h2,Mr (jd9 hlt),q⟩
  .have hlt:¬k<ls.length:=λz=>hc (decide_eq_true nofun);have e:ls.getD k "" = "":=by rw[xn,Tn nofun];rfl
   rw[e]at q;exact q
def Ql(X:Cx)(o:ar)(m:ao)(apos pos:aP):Prop:=∃pl:kW Bool,aB (.Call (.Attribute o m apos) [] [] pos) X.env=(do
   let ov <-aB o X.env
   fP apos.atName
   let (f,first) <-dP [ov] (ib ov m pl)
   callWith pos f first (aT pos (ai [] X.env)) (cK pos (bB [] X.env)))
noncomputable def j3t(n:Nat)(p1 p2 p3 p4 p5 p6 p7 p8 p9 p10 p11 p12 p13 p14:aP):List aQ :=
 [.Assign [.Name "piece" p1] (.Call (.Attribute (.Name "self" p2) "ahead" p3) [] [] p4) p5,
 .Assign [.Attribute (.Name "self" p6) "spot" p7] (.BinOp (.Attribute (.Name "self" p8) "spot" p9) .Add (.Constant (.int 1) n p10) p11) p12,
 .Return (aa (.Name "piece" p13)) p14]
theorem j80 {n:Nat} {p1 p2 p3 p4 p5 p6 p7 p8 p9 p10 p11 p12 p13 p14:aP} (F:Fun K "taken" "Pieces.taken" st f fd) (T:PcT K mg C fA fT fL fI) (S:FnScope ["self","piece"] ["self"] (j0 st)) (hb:jg st=j3t n p1 p2 p3 p4 p5 p6 p7 p8 p9 p10 p11 p12 p13 p14)
  (hv:Vis (j0 st) "self") (hl:(j0 st).names.lookup ("piece":ao)=aa .local) (hm:∀cdv A outer s H E,Ql (qz CX0 P w K mg base ["self","piece"] "Pieces.taken" (j0 st) f cdv A outer s H E).nox (.Name "self" p2) "ahead" p3 p4)
  (GA:FnOk P w K mg base CX0 1 fA fdA ["self"] (M4 C)) (bA:Binds K fdA ["self"] []):FnOk P w K mg base CX0 2 f fd ["self"] (Nt C):=by
 refine F.ok S (λvs H Q E h=>?_) (λcdv A outer s H vs Q E hr h=>?_)
 .obtain⟨a,ls,k,rfl,_⟩:=h;rfl
 .obtain⟨⟨a,dx,b⟩,ls,k,rfl,⟨h1,h2⟩,q⟩:=h;rw[hb];obtain⟨pl,ht⟩:=hm cdv A outer s H E;refine⟨_,qp (Qq (i:=1) S.nd rfl (aV hl) (W4 (qi (i:=0) rfl hv) T.cl T.mA GA hr bA .nil V0 ht)) (qp (Kq (qi (i:=0) rfl hv) (Vm j4k (Ye (qi (i:=0) rfl hv) rfl) Kr) rfl) (Ug (Qs (qi (i:=1) rfl (aV hl))))),?_⟩;have h1:H a=aa (.ins C dx (pcF b (k:Int))):=h1;have h2:H b=aa (.lst (ls.map V.str)):=h2;refine⟨_,rfl,a,dx,_,rfl,h1,Bo _ _ (by decide +kernel) (by decide +kernel),⟨a,dx,b⟩,ls,k,rfl,⟨h1,h2⟩,?_⟩;refine⟨_,rfl,a,C,dx,_,_,rfl,h1,T.cl,T.nP,Bm _ _,_,_,rfl,rfl,_,rfl,a,C,dx,_,rfl,h1,T.cl,T.nP,(by show 2<1000;decide),_,rfl,?_⟩;have nb:b≠a:=λz=>by rw[z,h1]at h2;cases h2
  refine q _ ⟨?_,by show upd H a _ b=_;rw[ji nb];exact h2⟩ (λc o n hc=>by rw[ji n];exact hc);show upd H a _ a=_;rw[ju,jc5];rfl
noncomputable def allB(p1 p2 p3 p4 p5 p6 p7 p8:aP):List aQ:=[.Return (aa (.Compare (.Attribute (.Name "self" p1) "spot" p2) [.GtE] [.Call (.Name "len" p3) [.Attribute (.Name "self" p4) "standing" p5] [] p6] p7)) p8]
theorem jfz {p1 p2 p3 p4 p5 p6 p7 p8:aP} (F:Fun K "all_taken" "Pieces.all_taken" st f fd) (T:PcT K mg C fA fT fL fI) (S:FnScope ["self"] ["self"] (j0 st)) (hb:jg st=allB p1 p2 p3 p4 p5 p6 p7 p8)
  (hv:Vis (j0 st) "self") (hg:(j0 st).names.lookup ("len":ao)=aa .globalImplicit):FnOk P w K mg base CX0 1 f fd ["self"] (j1u C):=by
 refine F.ok S (λvs H Q E h=>?_) (λcdv A outer s H vs Q E hr h=>?_)
 .obtain⟨a,ls,k,rfl,_⟩:=h;rfl
 .obtain⟨⟨a,dx,b⟩,ls,k,rfl,⟨h1,h2⟩,q⟩:=h;rw[hb];refine⟨_,Ug (Qs (Jo j2i (Ye (qi (i:=0) rfl hv) rfl) (v8 Zf hg T.len cj (jc (Ye (qi (i:=0) rfl hv) rfl) jx)) (Oh _ (by decide) (by decide)))),?_⟩;refine⟨_,rfl,a,C,dx,_,_,rfl,h1,T.cl,T.nP,Bm _ _,_,rfl,a,C,dx,_,_,rfl,h1,T.cl,T.nS,Ku _ _,b,_,rfl,.inl (SqL.of h2),_,_,rfl,rfl,?_⟩;rw[km];have e:decide (((ls.length:Nat):Int)<=((k:Nat):Int))=decide (ls.length<=k):=by
   by_cases z:ls.length<=k
   .rw[decide_eq_true z,decide_eq_true nofun]
   .rw[decide_eq_false z,decide_eq_false nofun]
  rw[<-e]at q;exact q
end
theorem Dk:∀(tk:Nat)(xs:List ao),Vals (xs.map V.str) (strsFrom tk xs)
 |_,[]=>.nil
 |tk,x::r=>.cons ⟨tk,rfl⟩ (Dk (tk+1) r)
section
variable{X:Cx}{ρ:Rho}{a:ar}{p1 p2 p3:aP}{y:ao}
theorem j82:MtR X "str.split" (λx vs H Q=>∃z,x=.str z/\vs=[.str " "]/\z.length<=100000/\(aF z " ").length<=au/\∀p,H p=ah->Q (.ref p) (upd H p (.lst ((aF z " ").map V.str)))):=by
 rintro pins s σ H x vs v us Q I rx rv ⟨z,e,e',hz,hl,q⟩;subst e e';obtain⟨t,rfl⟩:=(show ∃t,v=b8 z t from rx)
 obtain⟨u,eu,ru⟩:=rv.one;subst eu;obtain⟨t2,rfl⟩:=(show ∃t,u=b8 " " t from ru)
 have lay:∀(its:List aj)(tk:Nat),Vals ((aF z " ").map V.str) its->Inv X pins σ (upd H s.heap.objs.size (.lst ((aF z " ").map V.str))) { s with heap:=s.heap.push { cls:=.type "list",data:=.seq its.toArray },toks:=tk }:=λits tk hv =>I.laid (t':=tk) (λb o e=>kj _ e) (X6 _) ⟨by rw[km];exact hl,its,0,hv,xu _ rfl⟩
 have fr:H s.heap.objs.size=ah:=I.hok.fresh (X6 _);have hsz:z.length<=au:=by rw[cg];omega
 have hy:((" ":ao).length==0)=ae:=by decide
 by_cases h1:(decide (z.length<(" ":ao).length) || decide (cL z<cL (" ":ao)))=af
 .have es:aF z " " = [z]:=if_pos h1;refine bE du (cX _ _ _) fD (fh _ _) (meets_str_split_cannot_occur z " " t t2 h1) ?_;exact⟨.ref s.heap.objs.size,_,lay _ _ (by rw[es];exact .cons ⟨t,rfl⟩ .nil),rfl,q _ fr⟩
 .have h1:(decide (z.length<(" ":ao).length) || decide (cL z<cL (" ":ao)))=ae:=by simpa using h1
  by_cases h2:(bC z " " 0 z.length (z.length+1)).isEmpty=af
  .have es:aF z " " = [z]:=by unfold aF;rw[if_neg (by rw[h1];decide),if_pos h2]
   refine bE du (cX _ _ _) fD (fh _ _) (meets_str_split_not_found z " " t t2 h1 hy h2) ?_;exact⟨.ref s.heap.objs.size,_,lay _ _ (by rw[es];exact .cons ⟨t,rfl⟩ .nil),rfl,q _ fr⟩
  .have h2:(bC z " " 0 z.length (z.length+1)).isEmpty=ae:=by simpa using h2
   have es:aF z " " = lA z (bC z " " 0 z.length (z.length+1)) (" ":ao).length:=by unfold aF;rw[if_neg (by rw[h1];decide),if_neg (by rw[h2];decide)]
   refine bE du (cX _ _ _) fD (fh _ _) (meets_str_split_sep z " " t t2 h1 hy h2 hsz (by rw[<-es];exact hl)) ?_;exact⟨.ref s.heap.objs.size,_,lay _ _ (by rw[es];exact Dk _ _),rfl,q _ fr⟩
end
section
variable{P:ay}{w:aD}{K:k7g}{mg:k7j}{base:aH}{C fA fT fL fI f:ak}{fd:aL}{st:aQ}
noncomputable def jag(n n2:Nat)(p1 p2 p3 p4 p5 p6 p7 p8 p9 p10 p11:aP):List aQ :=
 [.Assign [.Attribute (.Name "self" p1) "standing" p2] (.Call (.Attribute (.Name "text" p3) "split" p4) [.Constant (.str " ") n p5] [] p6) p7,
 .Assign [.Attribute (.Name "self" p8) "spot" p9] (.Constant (.int 0) n2 p10) p11]
def Nu(C:ak):Sp:=λvs H Q _=>∃(a dx:ak)(t:ao),vs=[.ref a,.str t]/\H a=aa (.ins C dx [])/\t.length<=100000/\(aF t " ").length<=au/\∀b H',H b=ah->PcAt C H' ⟨a,dx,b⟩ (aF t " ") 0->But a H H'->Q .non H'
theorem jcb {n n2:Nat} {p1 p2 p3 p4 p5 p6 p7 p8 p9 p10 p11:aP} (F:Fun K "__init__" "Pieces.__init__" st f fd) (T:PcT K mg C fA fT fL fI) (S:FnScope ["self","text"] ["self","text"] (j0 st)) (hb:jg st=jag n n2 p1 p2 p3 p4 p5 p6 p7 p8 p9 p10 p11)
  (hv:Vis (j0 st) "self") (ht:Vis (j0 st) "text") (hl:(p4.endLine==p6.line)=af):FnOk P w K mg base CX0 1 f fd ["self","text"] (Nu C):=by
 refine F.ok S (λvs H Q E h=>?_) (λcdv A outer s H vs Q E hr h=>?_)
 .obtain⟨a,dx,t,rfl,_⟩:=h;rfl
 .obtain⟨a,dx,t,rfl,h1,hz,hn,q⟩:=h;rw[hb];refine⟨_,qp (Kq (qi (i:=0) rfl hv) (M8 fZ du PySem.F.type_str_split j82 (qi (i:=1) rfl ht) (jc Rh jx) rfl rfl hl) rfl) (Ug (Kq (qi (i:=0) rfl hv) Kr rfl)),?_⟩;refine⟨_,rfl,rfl,t,rfl,rfl,hz,hn,λb hb'=>?_⟩;have nab:a≠b:=z8 h1 hb';refine⟨_,rfl,a,C,dx,[],rfl,(by rw[ji nab];exact h1),T.cl,T.nS,(by show 0<1000;decide),_,rfl,a,C,dx,_,rfl,ju,T.cl,T.nP,(by show 1<1000;decide),?_⟩;refine q b _ hb' ⟨by show upd _ a _ a=_;rw[ju,j7w];rfl,by show upd _ a _ b=_;rw[ji nab.symm,ji nab.symm,ju]⟩ λc o n hc=>?_;rw[ji n,ji n,ji (z8 hc hb')];exact hc
end
structure Pm where
 nx:Rho->Nat->Prop
 rt:D->Nat->Prop
 ex:ao->Rho->Prop
def FrM(a:ak)(ρ ρ':Rho)(H H':Hp):Prop:=j4 (del H (a::owns ρ)) (del H' (a::owns ρ'))
structure EndsM(X:Cx)(C:ak)(o:Ob)(ls:List ao)(ρ:Rho)(H:Hp)(P:Pm)(E:Ends):Prop where
 nx:∀ρ' k' σ' H',P.nx ρ' k'->Rep X.K ρ' σ' H'->PcAt C (del H' (owns ρ')) o ls k'->FrM o.a ρ ρ' H H'->E.nx σ' H'
 rt:∀d k' v H',P.rt d k'->PcAt C H' o ls k'->j4 (del H (o.a::owns ρ)) (del H' [o.a])->Enc X.K H' d v->E.rt v H'
 ex:∀x ρ' σ' H',P.ex x ρ'->Rep X.K ρ' σ' H'->FrM o.a ρ ρ' H H'->Rz X σ' H' x
structure PcX(X:Cx)(C:ak):Prop where
 ex:∃(fA fT fL fI:ak)(dA dT dL dI:aL),PcT X.K X.mg C fA fT fL fI/\(FnOk X.prog X.w X.K X.mg X.base CX0 1 fA dA ["self"] (M4 C)/\Binds X.K dA ["self"] []) /\
  (FnOk X.prog X.w X.K X.mg X.base CX0 2 fT dT ["self"] (Nt C)/\Binds X.K dT ["self"] [])/\(FnOk X.prog X.w X.K X.mg X.base CX0 1 fL dL ["self"] (j1u C)/\Binds X.K dL ["self"] []) /\
  (FnOk X.prog X.w X.K X.mg X.base CX0 1 fI dI ["self","text"] (Nu C)/\Binds X.K dI ["self","text"] [])/\Room 3 X.A
def MSs(X:Cx)(C:ak)(o:Ob)(ls:List ao)(ρ:Rho)(k:Nat)(sts:List aQ)(P:Pm):Prop :=
 ∀σ H E,Rep X.K ρ σ H->PcAt C (del H (owns ρ)) o ls k->EndsM X C o ls ρ H P E->Zz X sts E σ H
section
variable{X:Cx}{C:ak}{o:Ob}{ls:List ao}{ρ ρ1:Rho}{H H1 H':Hp}{P:Pm}{E:Ends}{k k':Nat}{st:aQ}{rest:List aQ}{σ:St}
theorem FrM.trans{a:ak}{ρ2:Rho}{H2:Hp}(f:FrM a ρ ρ1 H H1)(g:FrM a ρ1 ρ2 H1 H2):FrM a ρ ρ2 H H2:=j4.trans f g
theorem FrM.of0{a:ak}(f:Fr0 ρ ρ1 H H1):FrM a ρ ρ1 H H1:=λb u z=>by
 obtain⟨nb,z⟩:=of_del z;have nb2:b∉owns ρ:=λy=>nb (xf _ y);obtain⟨n1,z1⟩:=of_del (f b u (by rw[j5 nb2];exact z));rw[j5];exact z1;intro y;rcases xr.mp y with e|y
 .exact nb (by rw[e];exact xm)
 .exact n1 y
theorem FrM.but{a:ak}(h:But a H H'):FrM a ρ ρ H H':=λb u z=>by obtain⟨nb,z⟩:=of_del z;rw[j5 nb];exact h b u (λy=>nb (by rw[y];exact xm)) z
theorem EndsM.step(h:EndsM X C o ls ρ H P E)(f:FrM o.a ρ ρ1 H H1):EndsM X C o ls ρ1 H1 P E :=
 ⟨λρ' k' σ' H' n R pc g=>h.nx ρ' k' σ' H' n R pc (f.trans g),λd k' v H' n pc g e=>h.rt d k' v H' n pc (j4.trans f g) e,λx ρ' σ' H' n R g=>h.ex x ρ' σ' H' n R (f.trans g)⟩
theorem PcAt.nin(h:PcAt C (del H (owns ρ)) o ls k):o.a∉owns ρ/\o.b∉owns ρ:=⟨(of_del h.ob).1,(of_del h.li).1⟩
theorem PcAt.all(h:PcAt C (del H (owns ρ)) o ls k):PcAt C H o ls k:=h.stay jj
theorem PcAt.in'(h:PcAt C H' o ls k')(h0:PcAt C (del H (owns ρ)) o ls k)(sub:∀b∈owns ρ1,b∈owns ρ):PcAt C (del H' (owns ρ1)) o ls k' :=
 ⟨by rw[j5 λz=>h0.nin.1 (sub _ z)];exact h.ob,by rw[j5 λz=>h0.nin.2 (sub _ z)];exact h.li⟩
theorem Q8.but{a dx:ak}{fs:List (ao×V)}(h:H a=aa (.ins C dx fs))(b:But a H H'):Q8 H H':=λc u hc n=>b c u (λz=>by rw[z,h]at hc;cases hc;cases n) hc
theorem But.ofDel{a:ak}(g:j4 (del H [a]) (del H' [a])):But a H H':=λc u n hc=>(of_del (g c u (by rw[j5 (by simpa using n)];exact hc))).2
theorem MSs.plain{N:Rho->Prop}(h1:DS X ρ st { nx:=N,rt:=λr=>∃d,r=.val d/\P.rt d k,ex:=P.ex })(h2:∀ρ1,N ρ1->MSs X C o ls ρ1 k rest P):MSs X C o ls ρ k (st::rest) P:=λσ H E R pc q =>
 (qp psS v7).to (h1 σ H { E with nx:=Zz X rest E } R ⟨λρ' σ' H' n R' f=>h2 ρ' n σ' H' E R' (pc.stay f) (q.step (.of0 f)),λ_ _ _ n=>n.elim,λ_ _ _ n=>n.elim,
  λr v H' ⟨d,e,n⟩ z=>by
   subst e
   obtain⟨g,en⟩:=z
   refine q.rt d k v H' n (pc.stay g) (λb u y=>?_) en
   obtain⟨nb,y⟩:=of_del y
   rw[j5 (by intro z;exact nb (by rw[X3.mp z];exact xm))]
   exact g b u (by rw[j5 λz=>nb (xf _ z)];exact y),
  λx ρ' σ' H' n R' f=>q.ex x ρ' σ' H' n R' (.of0 f)⟩)
theorem MSs.nil(h:P.nx ρ k):MSs X C o ls ρ k [] P:=λσ H E R pc q=>Uh.to (q.nx ρ k σ H h R pc (.of0 (Fr0.refl ρ H)))
theorem MSs.ife{c:ar}{sa:List aQ}{b:Bool}{pos:aP}(hc:DB X ρ c b)(ha:b=af->MSs X C o ls ρ k sa { P with nx:=λ_ _=>False })(hb:b=ae->MSs X C o ls ρ k rest P):MSs X C o ls ρ k (.If c sa [] pos::rest) P:=λσ H E R pc q=>by
 refine(qp (Lp ptS v7 v7) v7).to (hc σ H _ R λH1 g1=>?_);have pc1:PcAt C (del H1 (owns ρ)) o ls k:=pc.stay (jf g1);have q1:=q.step (.of0 (Fr0.grow g1));cases b with
 |true=>exact U0 (ha rfl σ H1 _ (R.grow g1) pc1 ⟨λ_ _ _ _ n=>n.elim,q1.rt,q1.ex⟩)
 |false=>exact U3 (Uh.to (hb rfl σ H1 E (R.grow g1) pc1 q1))
section
variable{pi i:Nat}{ob:dm}{x y:ao}{p py p1 p2 pos:aP}
theorem Ux {Q:VK} (T:PcX X C) (hp:ρ[pi]?=aa (.raw o.a ob rfN)) (hpN:X.N[pi]?=aa y) (hv:Vis X.env.scope y) (hd:(y==k7k)=ae) (hcd:(y==k7l)=ae) (mc:Ql X (.Name y py) "taken" p1 p2)
  (R:Rep X.K ρ σ H) (pc:PcAt C (del H (owns ρ)) o ls k) (q:∀H',Rep X.K ρ σ H'->PcAt C (del H' (owns ρ)) o ls (k+1)->FrM o.a ρ ρ H H'->Q (.str (ls.getD k "")) H'):Q6 X (.Call (.Attribute (.Name y py) "taken" p1) [] [] p2) σ H Q:=by
 obtain⟨fA,fT,fL,fI,dA,dT,dL,dI,T,_,⟨GT,bT⟩,_,_,hr⟩:=T.ex;obtain⟨pl,ht⟩:=mc;refine(W4 (qi hpN hv hd hcd) T.cl T.mT GT (hr.mono (by decide)) bT .nil V0 ht).to ⟨_,(R.raw pi _ _ _ hp).1,o.a,o.dx,_,rfl,pc.all.ob,Bo _ _ (by decide +kernel) (by decide +kernel),o,ls,k,rfl,pc.all,λH' pc' bt=>?_⟩;exact q H' (R.monoN (.but pc.all.ob bt)) (pc'.in' pc λ_ h=>h) (.but bt)
theorem MSs.take (T:PcX X C) (hp:ρ[pi]?=aa (.raw o.a ob rfN)) (hpN:X.N[pi]?=aa y) (hv:Vis X.env.scope y) (hd:(y==k7k)=ae) (hcd:(y==k7l)=ae) (mc:Ql X (.Name y py) "taken" p1 p2)
  (hN:X.N.Nodup) (hi:X.N[i]?=aa x) (hx:Loc X.env.scope x) (hs:aN (.Call (.Attribute (.Name y py) "taken" p1) [] [] p2) (aa (.Name x p)) pos.line X.env=pure ae) (hf:X.fn x=af\/X.env.scope.names.lookup x=aa .local)
  (h2:MSs X C o ls (ρ.set i (.val (.str (ls.getD k "")))) (k+1) rest P):MSs X C o ls ρ k (.Assign [.Name x p] (.Call (.Attribute (.Name y py) "taken" p1) [] [] p2) pos::rest) P:=λσ H E R pc q =>
 (qp (Qq hN hi hx peS hs hf) v7).to (Ux T hp hpN hv hd hcd mc R pc λH' R' pc' f=>h2 _ H' E (R'.set_val rfl) (pc'.stay (z9 λb hb=>(j9 rfl).subset hb)) (q.step (f.trans (.of0 (Fr0.drop λb hb=>(j9 rfl).subset hb)))))
theorem MSs.takeE (T:PcX X C) (hp:ρ[pi]?=aa (.raw o.a ob rfN)) (hpN:X.N[pi]?=aa y) (hv:Vis X.env.scope y) (hd:(y==k7k)=ae) (hcd:(y==k7l)=ae) (mc:Ql X (.Name y py) "taken" p1 p2)
  (hs:aN (.Call (.Attribute (.Name y py) "taken" p1) [] [] p2) ah pos.line X.env=pure ae)
  (h2:MSs X C o ls ρ (k+1) rest P):MSs X C o ls ρ k (.Expr (.Call (.Attribute (.Name y py) "taken" p1) [] [] p2) pos::rest) P:=λσ H E R pc q =>
 (qp (Z5 peS hs) v7).to (Ux T hp hpN hv hd hcd mc R pc λH' R' pc' f=>h2 _ H' E R' pc' (q.step f))
theorem MSs.takeIf {c e:ar} {b:Bool} {d:D} {pi2:aP} (T:PcX X C) (hp:ρ[pi]?=aa (.raw o.a ob rfN)) (hpN:X.N[pi]?=aa y) (hv:Vis X.env.scope y) (hd:(y==k7k)=ae) (hcd:(y==k7l)=ae) (mc:Ql X (.Name y py) "taken" p1 p2)
  (hN:X.N.Nodup) (hi:X.N[i]?=aa x) (hx:Loc X.env.scope x) (hs:aN (.IfExp c (.Call (.Attribute (.Name y py) "taken" p1) [] [] p2) e pi2) (aa (.Name x p)) pos.line X.env=pure ae) (hf:X.fn x=af\/X.env.scope.names.lookup x=aa .local)
  (hc:DB X ρ c b) (he:b=ae->DE X ρ e d) (h2:b=af->MSs X C o ls (ρ.set i (.val (.str (ls.getD k "")))) (k+1) rest P) (h3:b=ae->MSs X C o ls (ρ.set i (.val d)) k rest P) :
  MSs X C o ls ρ k (.Assign [.Name x p] (.IfExp c (.Call (.Attribute (.Name y py) "taken" p1) [] [] p2) e pi2) pos::rest) P:=λσ H E R pc q=>by
 refine(qp (Qq hN hi hx (Ks ptS peS peS) hs hf) v7).to (hc σ H _ R λH1 g1=>?_);have pc1:PcAt C (del H1 (owns ρ)) o ls k:=pc.stay (jf g1);have q1:=q.step (.of0 (Fr0.grow g1));cases b with
 |true=>exact U0 (Ux T hp hpN hv hd hcd mc (R.grow g1) pc1 λH' R' pc' f=>h2 rfl _ H' E (R'.set_val rfl) (pc'.stay (z9 λb hb=>(j9 rfl).subset hb)) (q1.step (f.trans (.of0 (Fr0.drop λb hb=>(j9 rfl).subset hb)))))
 |false=>exact U3 (he rfl σ H1 _ (R.grow g1) λv H2 g2 en=>h3 rfl _ H2 E (((R.grow g1).grow g2).set_val en) ((pc1.stay (jf g2)).stay (z9 λb hb=>(j9 rfl).subset hb)) (q1.step ((FrM.of0 (Fr0.grow g2)).trans (.of0 (Fr0.drop λb hb=>(j9 rfl).subset hb)))))
theorem MSs.whl{z:ao}{n:Nat}{body:List aQ}{p3 p4:aP}(T:PcX X C)(W:Nat->Rho->Nat->Prop)(m:Nat)(h0:W m ρ k)(hpo:eF (aA X.prog X.w) X.A X.env X.xe)
  (hpN:X.N[pi]?=aa y) (hv:Vis X.env.scope y) (hd:(y==k7k)=ae) (hcd:(y==k7l)=ae) (mc:Ql X (.Name y py) "ahead" p1 p2)
  (hs:∀m ρ' k',W m ρ' k'->(∃ob,ρ'[pi]?=aa (.raw o.a ob rfN))/\(ls.getD k' "" ≠ z->MSs X C o ls ρ' k' body { P with nx:=λρ2 k2=>∃m2,m2<m/\W m2 ρ2 k2 })/\(ls.getD k' "" = z->MSs X C o ls ρ' k' rest P)) :
  MSs X C o ls ρ k (.While (.Compare (.Call (.Attribute (.Name y py) "ahead" p1) [] [] p2) [.NotEq] [.Constant (.str z) n p3] p4) body [] pos::rest) P:=λσ H E R pc q=>by
 obtain⟨fA,fT,fL,fI,dA,dT,dL,dI,T,⟨GA,bA⟩,_,_,_,hr⟩:=T.ex;obtain⟨pl,ht⟩:=mc;refine(qp (Ko hpo (Jb j2f (W4 (qi hpN hv hd hcd) T.cl T.mA GA (hr.mono (by decide)) bA .nil V0 ht) Rh (zb _)) v7) v7).to ?_;refine⟨λm σ' H'=>∃ρ' k',W m ρ' k'/\Rep X.K ρ' σ' H'/\PcAt C (del H' (owns ρ')) o ls k'/\FrM o.a ρ ρ' H H',⟨m,ρ,k,h0,R,pc,.of0 (Fr0.refl _ _)⟩,?_⟩;rintro m σ' H' ⟨ρ',k',w,R',pc',f⟩;obtain⟨⟨ob,hp⟩,hb,he⟩:=hs m ρ' k' w;refine⟨_,(R'.raw pi _ _ _ hp).1,o.a,o.dx,_,rfl,pc'.all.ob,Bo _ _ (by decide +kernel) (by decide +kernel),o,ls,k',rfl,pc'.all,rfl,_,rfl,?_⟩;refine jgu (λhc=>?_) (λhc=>?_)
 .have hz:ls.getD k' "" ≠ z:=λe=>by rw[e]at hc;simp at hc
  refine⟨λσ2 H2=>∃ρ2 k2,(∃m2,m2<m/\W m2 ρ2 k2)/\Rep X.K ρ2 σ2 H2/\PcAt C (del H2 (owns ρ2)) o ls k2/\FrM o.a ρ ρ2 H H2,λσ2 H2 ⟨ρ2,k2,⟨m2,hlt,w2⟩,R2,pc2,f2⟩=>⟨m2,hlt,ρ2,k2,w2,R2,pc2,f2⟩,?_⟩;have q':=q.step f;exact hb hz σ' H' _ R' pc' ⟨λρ2 k2 σ2 H2 n R2 pc2 f2=>⟨ρ2,k2,n,R2,pc2,f.trans f2⟩,λd k2 v H2 n pc2 g e=>q'.rt d k2 v H2 n pc2 g e,λx ρ2 σ2 H2 n R2 g=>q'.ex x ρ2 σ2 H2 n R2 g⟩
 .have hz:ls.getD k' "" = z:=by
   have:decide (V.str (ls.getD k' "")=V.str z)=af:=by simpa using hc
   exact V.str.inj (of_decide_eq_true this)
  exact he hz σ' H' E R' pc' (q.step f)
end
end
def jm6(K:k7g)(C:ak)(S:List ao->Nat->List D->D->Nat->Prop):Sp:=λvs H Q _=>∃(o:Ob)(ls:List ao)(k:Nat)(ds:List D)(d:D)(k':Nat)(ws:List V),vs=.ref o.a::ws/\TabOk K H/\PcAt C H o ls k/\j6 K H ds ws/\S ls k ds d k' /\
 ∀v H',PcAt C H' o ls k'->j4 (del H [o.a]) (del H' [o.a])->Enc K H' d v->Q v H'
def spM(K:k7g)(C:ak)(S:List ao->Nat->List D->D->Nat->Prop):Sp:=λvs H Q _=>∃(A:List ak)(o:Ob)(ls:List ao)(k:Nat)(ds:List D)(d:D)(k':Nat) (ws:List V),vs=.ref o.a::ws/\TabOk K H/\(∀a∈A,∃xs,H a=aa (.lst xs))/\PcAt C (del H A) o ls k/\j6 K (del H A) ds ws/\S ls k ds d k' /\
 ∀v H',PcAt C (del H' A) o ls k'->j4 (del H [o.a]) (del H' [o.a])->Enc K (del H' A) d v->Q v H'
def j1t(K:k7g)(mg:k7j)(C:ak)(S:List ao->Nat->List D->ao->Prop):Sp:=λvs H _ E=>∃(o:Ob)(ls:List ao)(k:Nat)(ds:List D)(x:ao)(V:aj)(ws:List L2.V),vs=.ref o.a::ws/\TabOk K H/\PcAt C H o ls k/\j6 K H ds ws/\S ls k ds x/\mg x=aa V /\
 ∀H',j4 (del H [o.a]) (del H' [o.a])->E V ah H'
section
variable{P:ay}{w:aD}{K:k7g}{mg:k7j}{base:aH}{n:Nat}{f C:ak}{fd:aL}{ps:List ao}
theorem FnOk.toM{S:List ao->Nat->List D->D->Nat->Prop}(F:FnOk P w K mg base CX0 n f fd ps (jm6 K C S)):FnOk P w K mg base CX0 n f fd ps (spM K C S) :=
 F.framed.imp λvs H Q E ⟨A,o,ls,k,ds,d,k',ws,e,tb,hA,pc,en,hS,q⟩=>⟨A,hA,o,ls,k,ds,d,k',ws,e,tb.del hA,pc,en,hS,λv F pc' g e' hF=>by
  refine q v _ (by rw[Z7 hF];exact pc') (λb u z=>?_) (by rw[Z7 hF];exact e')
  obtain⟨nb,z⟩:=of_del z
  rw[j5 nb]
  by_cases y:b∈A
  .rw[Jd y];exact z
  .rw[jt y]
   exact(of_del (g b u (by rw[j5 nb,j5 y];exact z))).2⟩
end
structure CalM(X:Cx)(f:ao)(C:ak)(S:List ao->Nat->List D->D->Nat->Prop):Prop where
 ex:∃(n:Nat)(fa:ak)(fd:aL)(ps:List ao),FnOk X.prog X.w X.K X.mg X.base CX0 n fa fd ps (spM X.K C S)/\Room n X.A/\X.mg f=aa (.ref fa)/\W.keepIn X.K (.ref fa)=af/\Binds X.K fd ps []
structure CalMX(X:Cx)(f:ao)(C:ak)(S:List ao->Nat->List D->ao->Prop):Prop where
 ex:∃(n:Nat)(fa:ak)(fd:aL)(ps:List ao),FnOk X.prog X.w X.K X.mg X.base (CX1 X.prog X.w) n fa fd ps (j1t X.K X.mg C S)/\Room n X.A/\X.mg f=aa (.ref fa)/\W.keepIn X.K (.ref fa)=af/\Binds X.K fd ps []
section
variable{X:Cx}{C:ak}{o:Ob}{ls:List ao}{ρ ρ1:Rho}{H H1 H':Hp}{P:Pm}{E:Ends}{k k':Nat}{st:aQ}{rest:List aQ}{σ:St}{pi i:Nat}{ob:dm}{x y f:ao}{p py pf p1 p2 pos:aP}{es:List ar}{ds:List D}{d:D}
structure MC(X:Cx)(pi:Nat)(f:ao)(es:List ar)(c:ar):Prop where
 ex:∃(y:ao)(pf py pos:aP),c=.Call (.Name f pf) (.Name y py::es) [] pos/\X.N[pi]?=aa y/\Vis X.env.scope y/\(y==k7k)=ae/\(y==k7l)=ae/\Gl X f/\(f==k7k)=ae /\
  ai (.Name y py::es) X.env=(ae,aB (.Name y py) X.env)::ai es X.env/\(aT pos (ai es X.env)).any (·.1)=ae
theorem R9{S:List ao->Nat->List D->D->Nat->Prop}{c:ar}{Q:VK}(cl:CalM X f C S)(m:MC X pi f es c)(hp:ρ[pi]?=aa (.raw o.a ob rfN))(ha:DA X ρ es ds)(hS:S ls k ds d k')
  (R:Rep X.K ρ σ H) (pc:PcAt C (del H (owns ρ)) o ls k) (q:∀v H',Rep X.K ρ σ H'->PcAt C (del H' (owns ρ)) o ls k'->FrM o.a ρ ρ H H'->Enc X.K (del H' (owns ρ)) d v->Q v H'):Q6 X c σ H Q:=by
 obtain⟨y,pf,py,pos,rfl,hpN,hv,hd,hcd,hg,hdb,he,hpl⟩:=m.ex;obtain⟨n,fa,fd,ps,F,hr,hm,hk,hb⟩:=cl.ex;refine(Ui F hr hg hm hk hb .nil V0 (jc (qi hpN hv hd hcd) paS he) hdb he hpl).to ⟨_,(R.raw pi _ _ _ hp).1,ha σ H _ R λvs H1 g1 e1=>?_⟩;show spM X.K C S ((.ref o.a::vs)++[]) H1 Q E0;rw[Xo];have R1:=R.grow g1;have pc1:PcAt C (del H1 (owns ρ)) o ls k:=pc.stay (jf g1);refine⟨owns ρ,o,ls,k,ds,d,k',vs,rfl,R1.tb,R1.owned,pc1,e1,hS,λv H' pc' g en=>?_⟩;have bt:=But.ofDel g;exact q v H' (R1.monoN (.but pc1.all.ob bt)) pc' ((FrM.of0 (Fr0.grow g1)).trans (.but bt)) en
theorem MSs.callS{S:List ao->Nat->List D->D->Nat->Prop}{c:ar}(cl:CalM X f C S)(m:MC X pi f es c)(hp:ρ[pi]?=aa (.raw o.a ob rfN))(ha:DA X ρ es ds)(hS:S ls k ds d k')
  (hN:X.N.Nodup) (hi:X.N[i]?=aa x) (hx:Loc X.env.scope x) (hs:aN c (aa (.Name x p)) pos.line X.env=fw ae) (hf:X.fn x=af\/X.env.scope.names.lookup x=aa .local)
  (h2:MSs X C o ls (ρ.set i (.val d)) k' rest P):MSs X C o ls ρ k (.Assign [.Name x p] c pos::rest) P:=λσ H E R pc q =>
 (qp (Qq hN hi hx peS hs hf) v7).to (R9 cl m hp ha hS R pc λv H' R' pc' f en=>h2 _ H' E (R'.set_val en) (pc'.stay (z9 λb hb=>(j9 rfl).subset hb)) (q.step (f.trans (.of0 (Fr0.drop λb hb=>(j9 rfl).subset hb)))))
theorem MSs.retC{S:List ao->Nat->List D->D->Nat->Prop}{c:ar}(cl:CalM X f C S)(m:MC X pi f es c)(hp:ρ[pi]?=aa (.raw o.a ob rfN))(ha:DA X ρ es ds)(hS:S ls k ds d k')
  (h2:P.rt d k'):MSs X C o ls ρ k (.Return (aa c) pos::rest) P:=λσ H E R pc q =>
 (qp (Qs peS) v7).to (R9 cl m hp ha hS R pc λv H' R' pc' f en=>q.rt d k' v H' h2 pc'.all (λb u z=>by
  obtain⟨nb,z⟩:=of_del z
  obtain⟨_,z1⟩:=of_del (f b u (by rw[j5 nb];exact z))
  rw[j5 (by intro y;exact nb (by rw[X3.mp y];exact xm))]
  exact z1) (en.mono jj))
theorem MSs.appC{S:List ao->Nat->List D->D->Nat->Prop}{c:ar}{l:ak}{acc:List D}{p3:aP}(cl:CalM X f C S)(m:MC X pi f es c)(hp:ρ[pi]?=aa (.raw o.a ob rfN))(ha:DA X ρ es ds)(hS:S ls k ds d k')
  (hk:ρ[i]?=aa (.own l acc)) (hl:acc.length<au) (hN:X.N[i]?=aa x) (hv:Vis X.env.scope x) (hd:(x==k7k)=ae) (hcd:(x==k7l)=ae)
  (hst:ai [c] X.env=[(ae,aB c X.env)]) (hline:(p1.endLine==p2.line)=af) (hbase:aY (.Name x p) "append" X.env (aB (.Name x p) X.env)=aB (.Name x p) X.env)
  (hfew:((aT p2 (ai [c] X.env)).all (λx=>!x.1)&&(cK p2 (bB [] X.env)).all (λx=>x.1.isSome)&&decide (([c]:List ar).length+([]:List bu).length+(if ([]:List bu).isEmpty then 0 else 1)<30))=af)
  (hs:aN (.Call (.Attribute (.Name x p) "append" p1) [c] [] p2) ah pos.line X.env=fw ae)
  (h2:MSs X C o ls (ρ.set i (.own l (acc++[d]))) k' rest P):MSs X C o ls ρ k (.Expr (.Call (.Attribute (.Name x p) "append" p1) [c] [] p2) pos::rest) P:=λσ H E R pc q=>by
 obtain⟨hσ,xs,mm,en⟩:=R.own i l acc hk;refine(qp (Z5 (M8 T8 cI dh Yv (qi hN hv hd hcd) (jc peS jx hst) hbase hfew hline hst rfl) hs) v7).to ?_;refine⟨_,hσ,.inl ⟨rfl,xs,.inl (.inl mm)⟩,R9 cl m hp ha hS R pc λv H' R' pc' f en'=>?_⟩;obtain⟨hσ',xs',mm',enx⟩:=R'.own i l acc hk;refine⟨l,xs',v,rfl,rfl,mm',by rw[enx.length];exact hl,?_⟩;have R2:=R'.upd_own hk (enx.append (.one en'));refine h2 σ _ E R2 ?_ (q.step (f.trans (.of0 ?_)))
 .rw[Qx hk,Vy (Jt hk)];exact pc'
 .exact Bx (σ:=σ) hk (j4.refl _)
theorem Uy{S:List ao->Nat->List D->ao->Prop}{c:ar}{Q:VK}{z:ao}{V:aj}(cl:CalMX X f C S)(m:MC X pi f es c)(hp:ρ[pi]?=aa (.raw o.a ob rfN))(ha:DTA X ρ es ds)(hS:S ls k ds z)(hC:X.mg z=aa V)
  (R:Rep X.K ρ σ H) (pc:PcAt C (del H (owns ρ)) o ls k) (q:∀H',Rep X.K ρ σ H'->FrM o.a ρ ρ H H'->Rz X σ H' z):Q6 X c σ H Q:=λpins s I=>by
 obtain⟨y,pf,py,pos,rfl,hpN,hv,hd,hcd,hg,hdb,he,hpl⟩:=m.ex;obtain⟨n,fa,fd,ps,F,hr,hm,hk,hb⟩:=cl.ex;refine aU (Zr I hg hm ?_ hdb);refine W.callWith_K (h₀:=X.base) I.ok.mod.kin hk (thn ((jc (qi hpN hv hd hcd) paS he).to (σ:=σ) (H:=H) (Q:=λvs H1=>∃ws,vs=.ref o.a::ws/\j4 H H1/\j6 X.K H1 ds ws) ⟨_,(R.raw pi _ _ _ hp).1,ha σ H _ R λvs H1 g e=>⟨vs,rfl,g,e⟩⟩ pos pins s I) λus s1 ⟨vs,H1,I1,r,ws,evs,g,en⟩=>⟨I1.kIn,?_⟩) he hpl;subst evs;have R1:=R.grow g;have pc1:PcAt C (del H1 (owns ρ)) o ls k:=pc.stay (jf g);have sp:j1t X.K X.mg C S (.ref o.a::ws) H1 (λ_ _=>False) (λC' _ H'=>C'=V/\j4 (del H1 [o.a]) (del H' [o.a])):=⟨o,ls,k,ds,z,V,ws,rfl,R1.tb,pc1.all,en,hS,hC,λH' g=>⟨rfl,g⟩⟩
 have hl:us.length=ps.length:=by rw[<-r.length];exact F.len _ _ _ _ sp
 have hb':=hb s1 us I1.kIn (by rw[Xo];exact hl);rw[Xo]at hb';refine fF (bO (F.run X.A X.stack s1 H1 ⟨us,[]⟩ us _ _ _ hr I1.env0 hb' r sp) λr s' hq=>?_);cases r with
 |error ev =>obtain⟨e,C',H',rfl,os,bare,un,hok,fl,rfl,g'⟩:=hq;have I':Inv X pins σ H' s':=I1.call' os un hok bare (λb z=>nomatch z);have bt:=But.ofDel g';refine q H' (R1.monoN (.but pc1.all.ob bt)) ((FrM.of0 (Fr0.grow g)).trans (.but bt)) pins H' s' e C' I' (j4.refl _) hC ⟨λb hb=>fl.new b (I1.old hb),fl.free,?_⟩;obtain⟨oe,ws,a0,q1,q2,q3,q4,q5⟩:=fl.obj;refine⟨oe,ws,a0,q1,q2,q3,q4,q5.imp id ?_⟩;rintro⟨T,oT,ts,z1,z2,z3,z4,z5,z6,z7⟩;exact⟨T,oT,ts,z1,z2,z3,z4,z5,z6,λb hb=>z7 b (I1.old hb)⟩
 |ok fl =>
  cases fl with
  |ret u=>obtain⟨_,_,_,_,_,_,_,z⟩:=hq;exact z.elim
  |next=>exact aS hq
  |brk=>exact aS hq
  |cont=>exact aS hq
theorem MSs.callSX{S:List ao->Nat->List D->ao->Prop}{c:ar}{z:ao}{V:aj}(cl:CalMX X f C S)(m:MC X pi f es c)(hp:ρ[pi]?=aa (.raw o.a ob rfN))(ha:DTA X ρ es ds)(hS:S ls k ds z)(hC:X.mg z=aa V)
  (hN:X.N.Nodup) (hi:X.N[i]?=aa x) (hx:Loc X.env.scope x) (hs:aN c (aa (.Name x p)) pos.line X.env=fw ae) (hf:X.fn x=af\/X.env.scope.names.lookup x=aa .local)
  (h2:P.ex z ρ):MSs X C o ls ρ k (.Assign [.Name x p] c pos::rest) P:=λσ H E R pc q =>
 (qp (Qq hN hi hx peS hs hf) v7).to (Uy cl m hp ha hS hC R pc λH' R' f=>q.ex z ρ σ H' h2 R' f)
theorem MSs.retCX{S:List ao->Nat->List D->ao->Prop}{c:ar}{z:ao}{V:aj}(cl:CalMX X f C S)(m:MC X pi f es c)(hp:ρ[pi]?=aa (.raw o.a ob rfN))(ha:DTA X ρ es ds)(hS:S ls k ds z)(hC:X.mg z=aa V)
  (h2:P.ex z ρ):MSs X C o ls ρ k (.Return (aa c) pos::rest) P:=λσ H E R pc q =>
 (qp (Qs peS) v7).to (Uy cl m hp ha hS hC R pc λH' R' f=>q.ex z ρ σ H' h2 R' f)
theorem MSs.appCX{S:List ao->Nat->List D->ao->Prop}{c:ar}{z:ao}{V:aj}{l:ak}{acc:List D}(cl:CalMX X f C S)(m:MC X pi f es c)(hp:ρ[pi]?=aa (.raw o.a ob rfN))(ha:DTA X ρ es ds)(hS:S ls k ds z)(hC:X.mg z=aa V)
  (hk:ρ[i]?=aa (.own l acc)) (hN:X.N[i]?=aa x) (hv:Vis X.env.scope x) (hd:(x==k7k)=ae) (hcd:(x==k7l)=ae)
  (hst:ai [c] X.env=[(ae,aB c X.env)]) (hline:(p1.endLine==p2.line)=af) (hbase:aY (.Name x p) "append" X.env (aB (.Name x p) X.env)=aB (.Name x p) X.env)
  (hfew:((aT p2 (ai [c] X.env)).all (λx=>!x.1)&&(cK p2 (bB [] X.env)).all (λx=>x.1.isSome)&&decide (([c]:List ar).length+([]:List bu).length+(if ([]:List bu).isEmpty then 0 else 1)<30))=af)
  (hs:aN (.Call (.Attribute (.Name x p) "append" p1) [c] [] p2) ah pos.line X.env=fw ae)
  (h2:P.ex z ρ):MSs X C o ls ρ k (.Expr (.Call (.Attribute (.Name x p) "append" p1) [c] [] p2) pos::rest) P:=λσ H E R pc q=>by
 obtain⟨hσ,xs,mm,en⟩:=R.own i l acc hk;refine(qp (Z5 (M8 T8 cI dh Yv (qi hN hv hd hcd) (jc peS jx hst) hbase hfew hline hst rfl) hs) v7).to ?_;exact⟨_,hσ,.inl ⟨rfl,xs,.inl (.inl mm)⟩,Uy cl m hp ha hS hC R pc λH' R' f=>q.ex z ρ σ H' h2 R' f⟩
end
section
variable{X:Cx}{C:ak}{o:Ob}{ls:List ao}{ρ ρ1:Rho}{H H1 H':Hp}{P:Pm}{E:Ends}{k k':Nat}{st:aQ}{sa rest:List aQ}{σ:St}{pi i:Nat}{ob:dm}{x y f:ao}{p py pf p1 p2 p3 p4 pos:aP}{es:List ar}{ds:List D}{d:D}
theorem MSs.ifAll (T:PcX X C) (hp:ρ[pi]?=aa (.raw o.a ob rfN)) (hpN:X.N[pi]?=aa y) (hv:Vis X.env.scope y) (hd:(y==k7k)=ae) (hcd:(y==k7l)=ae) (mc:Ql X (.Name y py) "all_taken" p1 p2)
  (he:∀whole,eN (.Call (.Attribute (.Name y py) "all_taken" p1) [] [] p2) X.env whole=(do let v <-whole;fP (Expr.Call (.Attribute (.Name y py) "all_taken" p1) [] [] p2).pos;dP [v] (jF v)))
  (ha:¬ls.length<=k->MSs X C o ls ρ k sa { P with nx:=λ_ _=>False }) (hb:ls.length<=k->MSs X C o ls ρ k rest P):MSs X C o ls ρ k (.If (.UnaryOp .Not (.Call (.Attribute (.Name y py) "all_taken" p1) [] [] p2) p3) sa [] pos::rest) P:=λσ H E R pc q=>by
 obtain⟨fA,fT,fL,fI,dA,dT,dL,dI,T,_,_,⟨GL,bL⟩,_,hr⟩:=T.ex;obtain⟨pl,ht⟩:=mc;refine(qp (Lp (j49 (j48 (W4 (qi hpN hv hd hcd) T.cl T.mL GL (hr.mono (by decide)) bL .nil V0 ht) he)) v7 v7) v7).to ?_;refine⟨_,(R.raw pi _ _ _ hp).1,o.a,o.dx,_,rfl,pc.all.ob,Bo _ _ (by decide +kernel) (by decide +kernel),o,ls,k,rfl,pc.all,_,rfl,?_⟩;by_cases z:ls.length<=k
 .rw[decide_eq_true z];exact U3 (Uh.to (hb z σ H E R pc q))
 .rw[decide_eq_false z];exact U0 (ha z σ H _ R pc ⟨λ_ _ _ _ n=>n.elim,q.rt,q.ex⟩)
theorem Rep.set_rf{K:k7g}{a:ak}{o:dm}(R:Rep K ρ σ H):Rep K (ρ.set i (.raw a o rfN)) (σ.set i (aa (.ref a))) H:=by
 have sub:(owns (ρ.set i (.raw a o rfN))).Sublist (owns ρ):=j9 rfl;have g:j4 (del H (owns ρ)) (del H (owns (ρ.set i (.raw a o rfN)))):=z9 λb hb=>sub.subset hb;refine⟨by simp[R.len],λj d' h=>?_,λj a ds h=>?_,sub.nodup R.nd,λj a' o' x' h=>?_,R.tb⟩
 .rcases getElem?_set_of h with ⟨rfl,z,hl⟩|⟨n,h⟩
  .cases z
  .obtain⟨u,q,h⟩:=R.val j d' h;exact⟨u,by rw[vg n];exact q,h.mono g⟩
 .rcases getElem?_set_of h with ⟨rfl,z,_⟩|⟨n,h⟩
  .cases z
  .obtain⟨q,xs,h,l⟩:=R.own j a ds h;exact⟨by rw[vg n];exact q,xs,h,l.mono g⟩
 .rcases getElem?_set_of h with ⟨rfl,z,hl⟩|⟨n,h⟩
  .cases z;exact⟨Y8 (by rw[R.len];exact hl),.inl rfl⟩
  .obtain⟨q,h⟩:=R.raw j a' o' x' h;exact⟨by rw[vg n];exact q,h.mono g⟩
noncomputable def dOb:dm:={ cls:=.none }
theorem DSs.make {Q:Po} {te:ar} {t:ao} (T:PcX X C) (ht:DT X ρ te (.str t)) (h1:t.length<=100000) (h2:(aF t " ").length<=au) (hg:Gl X "Pieces") (hst:ai [te] X.env=(ae,aB te X.env)::ai [] X.env) (hpl:(aT p2 (ai [] X.env)).any (·.1)=ae)
  (hN:X.N.Nodup) (hi:X.N[pi]?=aa y) (hx:Loc X.env.scope y) (hs:aN (.Call (.Name "Pieces" p1) [te] [] p2) (aa (.Name y py)) pos.line X.env=fw ae) (hf:X.fn y=af\/X.env.scope.names.lookup y=aa .local)
  (h:∀o:Ob,MSs X C o (aF t " ") (ρ.set pi (.raw o.a dOb rfN)) 0 rest { nx:=λρ' _=>Q.nx ρ',rt:=λd _=>Q.rt (.val d),ex:=Q.ex }) :
  DSs X ρ (.Assign [.Name y py] (.Call (.Name "Pieces" p1) [te] [] p2) pos::rest) Q:=λσ H E R q=>by
 obtain⟨fA,fT,fL,fI,dA,dT,dL,dI,T,_,_,_,⟨GI,bI⟩,hr⟩:=T.ex;refine(qp (Qq hN hi hx (jc2 T.mkI GI (hr.mono (by decide)) hg T.mgC bI .nil V0 (jc peS jx hst) (by decide) hst hpl) hs hf) v7).to (ht σ H _ R λv H1 g1 e1=>?_);rw[show v=.str t from e1];intro x dx nx ndx nex;refine⟨x,dx,t,rfl,ju,h1,h2,λb H' nb pc bt=>⟨rfl,?_⟩⟩;have s0:j4 H1 (upd (upd H1 dx (.own x)) x (.ins C dx [])):=λb o e=>by rw[ji (z8 e nx),ji (z8 e ndx)];exact e
 have s1:j4 H1 H':=λb o e=>bt b o (z8 e nx) (s0 b o e);have R1:=R.grow (g1.trans s1);have sub:(owns (ρ.set pi (.raw x dOb rfN))).Sublist (owns ρ):=j9 rfl;have nin:∀c,H1 c=ah->c∉owns (ρ.set pi (.raw x dOb rfN)):=λc hc z=>(R.grow g1).fresh hc (sub.subset z);have nb1:H1 b=ah:=s0.free nb;have fr:Fr0 ρ (ρ.set pi (.raw x dOb rfN)) H H':=j4.trans (Fr0.grow (g1.trans s1)) (Fr0.drop λb hb=>sub.subset hb);refine h ⟨x,dx,b⟩ _ H' E R1.set_rf ⟨?_,?_⟩ ⟨λρ' k' σ' H2 n R' pc' f=>?_,λd k' v H2 n pc' g en=>?_,λz ρ' σ' H2 n R' f=>?_⟩
 .rw[j5 (nin x nx)];exact pc.ob
 .rw[j5 (nin b nb1)];exact pc.li
 .refine q.nx ρ' σ' H2 n R' λc u z=>?_;obtain⟨n1,z1⟩:=of_del (fr c u z);have ncx:c≠x:=λe=>by obtain⟨_,y⟩:=of_del z;rw[e,g1.free nx]at y;cases y
  obtain⟨n2,z2⟩:=of_del (f c u (by rw[j5 (by intro y;rcases xr.mp y with e|e;exact ncx e;exact n1 e)];exact z1));rw[j5 λy=>n2 (xf _ y)];exact z2
 .refine q.rt _ v H2 n ⟨λc u z=>?_,en⟩;obtain⟨n1,z1⟩:=of_del (fr c u z);have ncx:c≠x:=λe=>by obtain⟨_,y⟩:=of_del z;rw[e,g1.free nx]at y;cases y
  exact(of_del (g c u (by rw[j5 (by intro y;rcases xr.mp y with e|e;exact ncx e;exact n1 e)];exact z1))).2
 .refine q.ex z ρ' σ' H2 n R' λc u z=>?_;obtain⟨n1,z1⟩:=of_del (fr c u z);have ncx:c≠x:=λe=>by obtain⟨_,y⟩:=of_del z;rw[e,g1.free nx]at y;cases y
  obtain⟨n2,z2⟩:=of_del (f c u (by rw[j5 (by intro y;rcases xr.mp y with e|e;exact ncx e;exact n1 e)];exact z1));rw[j5 λy=>n2 (xf _ y)];exact z2
end
noncomputable def startM(N:List ao)(a:ak)(ds:List D):Rho:=(qg N (.int 0::ds)).set 0 (.raw a dOb rfN)
theorem Bk{K:k7g}{H:Hp}{N:List ao}{ds:List D}{ws:List V}{a:ak}(tb:TabOk K H)(h:j6 K H ds ws):Rep K (startM N a ds) (start N (.ref a::ws)) H :=
 (V4 (N:=N) tb (show j6 K H (.int 0::ds) (.int 0::ws) from⟨.int 0,ws,rfl,rfl,h⟩)).set_rf (i:=0) (a:=a) (o:=dOb)
theorem Mw(N:List ao)(a:ak)(ds:List D):owns (startM N a ds)=[]:=by have h:(owns (startM N a ds)).Sublist (owns (qg N (.int 0::ds))):=j9 rfl;rw[Qt]at h;exact List.sublist_nil.mp h
section
variable{P:ay}{w:aD}{K:k7g}{mg:k7j}{base:aH}{x qual:ao}{st:aQ}{f C:ak}{fd:aL}{N ps:List ao}{n:Nat}
theorem jmv{S:List ao->Nat->List D->D->Nat->Prop}(F:Fun K x qual st f fd)(Sc:FnScope N ps (j0 st))(hl:∀ls k ds d k',S ls k ds d k'->ds.length+1=ps.length)
  (hbody:∀(cdv:aj)(A:aG)(outer:List d9)(s:aq)(H:Hp)(E:XK),U9 K f cdv->Room n (A.deeper (bx qual (j0 st) s.heap.objs.size f cdv))->∀o ls k ds d k',S ls k ds d k' ->
   MSs (qz CX0 P w K mg base N qual (j0 st) f cdv A outer s H E).nox C o ls (startM N o.a ds) k (jg st) { nx:=λ_ _=>False,rt:=λd2 k2=>d2=d/\k2=k',ex:=λ_ _=>False }):FnOk P w K mg base CX0 (n+1) f fd ps (spM K C S):=by
 refine FnOk.toM (F.okC Sc (λvs H Q E ⟨o,ls,k,ds,d,k',ws,e,tb,pc,en,hS,_⟩=>by rw[e,xx,en.length];exact hl ls k ds d k' hS) λcdv A outer s H vs Q E hcv hr ⟨o,ls,k,ds,d,k',ws,e,tb,pc,en,hS,q⟩=>⟨_,v7,?_⟩);subst e;have ho:=Mw N o.a ds;refine hbody cdv A outer s H E hcv hr o ls k ds d k' hS _ H _ (Bk tb en) (by rw[ho,Jc];exact pc) ⟨λ_ _ _ _ z=>z.elim,λd2 k2 v H' ⟨e1,e2⟩ pc' g en'=>?_,λ_ _ _ _ z=>z.elim⟩;subst e1 e2;rw[ho]at g;exact q v H' pc' g en'
theorem jks{S:List ao->Nat->List D->ao->Prop}(F:Fun K x qual st f fd)(Sc:FnScope N ps (j0 st))(hl:∀ls k ds y,S ls k ds y->ds.length+1=ps.length)
  (hbody:∀(cdv:aj)(A:aG)(outer:List d9)(s:aq)(H:Hp)(E:XK),U9 K f cdv->Room n (A.deeper (bx qual (j0 st) s.heap.objs.size f cdv))->∀o ls k ds y,S ls k ds y ->
   MSs (qz (CX1 P w) P w K mg base N qual (j0 st) f cdv A outer s H E) C o ls (startM N o.a ds) k (jg st) { nx:=λ_ _=>False,rt:=λ_ _=>False,ex:=λz _=>z=y }):FnOk P w K mg base (CX1 P w) (n+1) f fd ps (j1t K mg C S):=by
 obtain⟨oc,od,dV,kV,doc,pm,an,cdv,ct,osl,rfl,lk,hcd⟩:=F.ex;refine Ly lk hcd Sc (λvs H Q E ⟨o,ls,k,ds,y,V,ws,e,tb,pc,en,hS,_⟩=>by rw[e,xx,en.length];exact hl ls k ds y hS) λA outer s H vs Q E hr ⟨o,ls,k,ds,y,V,ws,e,tb,pc,en,hS,hC,hE⟩=>⟨_,v7,?_⟩
 subst e;have ho:=Mw N o.a ds;refine hbody cdv A outer s H E ⟨oc,od,_,osl,lk,rfl⟩ hr o ls k ds y hS _ H _ (Bk tb en) (by rw[ho,Jc];exact pc) ⟨λ_ _ _ _ z=>z.elim,λ_ _ _ _ z=>z.elim,λz ρ' σ' H' n R g=>?_⟩;cases(show z=y from n);intro pins H2 s' e C' I g2 hC' Fe;cases hC.symm.trans hC';unfold FrM at g;rw[ho]at g;refine Dw I Fe (hE H2 λb u z=>?_);obtain⟨nb,z⟩:=of_del z;obtain⟨_,z1⟩:=of_del (g b u (by rw[j5 nb];exact z));rw[j5 nb];exact g2 b u z1
end
section
variable{X:Cx}{ρ:Rho}{a:ar}{p p1 p2 pos:aP}
theorem ints_of:∀(ns:List Int)(its:List aj),Vals (ns.map V.int) its->gy its ns
 |[],_,.nil=>.nil
 |_::ns,_,.cons ⟨_,e⟩ t=>by subst e;exact .cons _ _ (ints_of ns _ t)
noncomputable def ddI(ns:List Int):List Int:=firstMet (λi=>ns.getD i 0) ns.length
theorem DE.lenSetI {ns:List Int} (ha:DT X ρ a (.lst (ns.map D.int))) (hc:X.calm=af) (room:ns.length+1<4096) (hm:X.mg "len" = ah) (hm2:X.mg "set" = ah) (hg:Gl X "len") (hg2:Gl X "set") (hs:ai [a] X.env=[(ae,aB a X.env)])
  (hs2:ai [.Call (.Name "set" p1) [a] [] p2] X.env=[(ae,aB (.Call (.Name "set" p1) [a] [] p2) X.env)]):DE X ρ (.Call (.Name "len" p) [.Call (.Name "set" p1) [a] [] p2] [] pos) (.int (ddI ns).length):=λσ H Q R q pins s I=>by
 have inner:ax (aA X.prog X.w) X.A (aB (.Call (.Name "set" p1) [a] [] p2) X.env) (λu s2=>∃(S:ak)(H1:Hp),u=.ref S/\Inv X pins σ H1 s2/\j4 H H1/\s2.heap.SetOf (intKind X.prog X.w) S (λk'=>(ddI ns).any (· == k')) (ddI ns).length) X.xe s:=by
  refine aU (J7 I hg2 hm2 boot_set ?_);refine callWith_type1 (thn ((jc (es:=[]) peS jx hs).to (σ:=σ) (H:=H) (Q:=λvs H1=>∃(l:ak)(xs:List V),vs=[.ref l]/\j4 H H1/\SqL X.K H1 l xs/\j6 X.K H1 (ns.map D.int) xs) (ha σ H _ R λv H1 g ⟨l,xs,e,sq,en⟩=>⟨l,xs,by rw[e],g,sq,en⟩) p2 pins s I) λus s1 ⟨vs,H1,I1,r,l,xs,ev,g,sq,en⟩=>?_) hs rfl;subst ev;obtain⟨u,eu,r1⟩:=vals1 r;subst eu;cases(show u=aI l from r1);obtain⟨its,rv,pl,_⟩:=I1.list sq;rw[Qk en]at rv;have hlen:its.toArray.size=ns.length:=by rw[X4,<-rv.length,km]
  refine call_set_list (ns:=ns) (I1.ok.hd hc) pl.isList ?_ (by rw[hlen];show ns.length+1<4096;exact room) λh' tk full old=>?_
  .exact ints_of ns its rv
  .rw[hlen]at full;exact⟨_,H1,rfl,I1.kept (t':=tk) λb o e=>old b o (xq e) e,g,full⟩
 refine aU (J7 I hg hm cj ?_);refine cJ (by rw[hs2];rfl) (cO ?_);show ax _ _ (fQ ((ae,aB _ X.env)::aT pos [])) _ _ s;refine cE (thn inner λu s2 h2=>dr ?_);obtain⟨S,H1,rfl,I2,g,⟨o,es,ep,t,ho,hex,hd,hel,hmem,hb,hf,hn⟩⟩:=h2;refine call_len_set ho hex hd hf ?_ ?_
 .have:es.size<4096:=hb;omega
 .rw[hn];exact⟨.int _,H1,I2.tok _,⟨_,rfl⟩,q _ H1 g rfl⟩
theorem DO.callT {S:List D->List D->Prop} {x:ao} {e:ar} {es:List ar} {ds l:List D} (c:Cal X x (spF X.K S)) (ha:DTA X ρ (e::es) ds) (hS:S ds l) (hn:qj l=af) (hg:Gl X x) (hdb:(x==k7k)=ae)
  (he:ai (e::es) X.env=(ae,aB e X.env)::ai es X.env) (hpl:(aT pos (ai es X.env)).any (·.1)=ae):DO X ρ (.Call (.Name x p) (e::es) [] pos) l:=λσ H Q R q=>by
 obtain⟨k,f,fd,ps,F,hr,hm,hk,hb,_⟩:=c.ex;refine(Ui F (hr.mono (pq _)) hg hm hk hb .nil V0 paS hdb he hpl).to (ha σ H _ R λvs H1 g1 e1=>?_);show spF X.K S (vs++[]) H1 Q E0;rw[Xo];exact⟨[],ds,l,R.tb.mono g1,(λa h=>nomatch h),by rw[Jc];exact e1,hS,λa xs H2 g2 n m z=>q a xs H2 (g1.trans g2) (g1.free n) m ((z.mono jj).hide (λc hc=>by
  rcases xr.mp hc with z|z
  .rw[z];exact .inl ⟨xs,m⟩
  .exact .inl ((R.grow (g1.trans g2)).owned c z)) hn)⟩
end
section
variable{X:Cx}{ρ:Rho}{a:ar}{p p1 p2 p3 pos:aP}{y:ao}{i n:Int}
theorem Li:J9 X (.type "int") (λxs H Q=>∃y n,xs=[.str y]/\d6 y=aa n/\y.length<=640/\Q (.int n) H):=by intro pins s σ H xs us Q I r h;obtain⟨y,n,rfl,hn,hl,q⟩:=h;obtain⟨u,rfl,t,rfl⟩:=vals1 r;exact PySem.W.KIN.call_text hn hl ⟨.int n,H,I.tok _,⟨_,rfl⟩,q⟩
theorem DE.intS (ha:DT X ρ a (.str y)) (hn:d6 y=aa n) (hl:y.length<=640) (hm:X.mg "int" = ah) (hg:Gl X "int") (hs:ai [a] X.env=[(ae,aB a X.env)]):DE X ρ (.Call (.Name "int" p) [a] [] pos) (.int n):=λσ H Q R q =>(V6 Li hg hm boot_int (jc peS jx hs) (by decide) (by decide) hs).to (ha σ H _ R λv H1 g1 e1=>⟨y,n,by rw[show v=.str y from e1],hn,hl,q _ H1 g1 rfl⟩)
theorem DE.strI (ha:DT X ρ a (.int i)) (hi:i.natAbs.log2<1920) (hm:X.mg "str" = ah) (hg:Gl X "str") (hs:ai [a] X.env=[(ae,aB a X.env)]):DE X ρ (.Call (.Name "str" p) [a] [] pos) (.str (toString i)):=λσ H Q R q =>(V6 Et hg hm boot_str (jc peS jx hs) (by decide) (by decide) hs).to (ha σ H _ R λv H1 g1 e1=>⟨i,by rw[show v=.int i from e1],hi,q _ H1 g1 rfl⟩)
end
section
variable{prog:ay}{w:aD}{A:aG}{E:k7h}{s:aq}
theorem Ce{it t:ak}{items:Array aj}(hne:t≠it):∀(n i:Nat)(s:aq)(Q:List aj->aq->Prop),s.heap.IsListIter it t i->s.heap.IsList t items->i+n<=items.size ->
  (∀h',h'.IsListIter it t (i+n)->bU it s.heap h'->Q ((items.toList.drop i).take n) { s with heap:=h' })->ax (aA prog w) A (dW (.ref it) n) Q E s
 |0,i,s,Q,hit,_,_,hQ=>by show ax _ _ (pure []) Q E s;exact av (by simpa using hQ s.heap hit (fY ..))
 |n+1,i,s,Q,hit,ht,hle,hQ=>by
  have hlt:i<items.size:=by omega
  show ax _ _ (dj (.ref it) >>= _) Q E s;refine ag (iA hit ht (x:=items[i]) (by simp[hlt]) λh₁ hit₁ hs₁=>?_);refine ag (b0 (Ce hne n (i+1) _ _ hit₁ (ht.extBut hs₁.extBut hne) nofun λh₂ hit₂ hs₂=>av ?_));have hd:items.toList.drop i=items[i]::items.toList.drop (i+1):=by simp[gf,hlt]
  have:=hQ h₂ (by rw[show i+(n+1)=i+1+n by omega];exact hit₂) (hs₁.trans hs₂);rw[hd,List.take_succ_cons]at this;exact this
theorem O9{t:ak}{items:Array aj}{Q:List aj->aq->Prop}(hh:A.handled=ah)(ht:s.heap.IsList t items)
  (hQ:∀h',dt s.heap.objs.size s.heap h'->Q items.toList { s with heap:=h' }):ax (aA prog w) A (unpackItems (.ref t) items.size ah) Q E s:=by
 have hlt:t≠s.heap.objs.size:=by obtain⟨o,ho,_⟩:=ht;exact X8 (xq ho)
 unfold unpackItems;refine ag ?_;unfold notIterableAtAll;refine ag (wpAny_specialOf ht.typeIs slot_list_iter.lookup ?_);refine av ?_;simp only[Xr,if_false];refine ag (b0 (bM ht ?_));refine ag (b0 (Ce hlt items.size 0 _ _ ⟨_,xu _ rfl,rfl,rfl⟩ (ht.push _) nofun λh₁ hit₁ hs₁=>?_));have hall:List.take items.size (List.drop 0 items.toList)=items.toList:=by rw[cn];exact Tf (by simp)
 rw[hall];rw[if_neg (by simp)];have ht₁:h₁.IsList t items:=(ht.push _).extBut hs₁.extBut hlt;refine ag (b0 (iK hh hit₁ ht₁ (by simp) λh₂ he₂=>?_));simp only[gU,Xr,if_false];exact av (hQ h₂ λb o hb e=>he₂ b o hb (hs₁.extBut b o hb (kj _ e)))
theorem j0h{env:d9}{elts:List ar}{x1:Nat}{pos:aP}{t:ak}{items:Array aj}{Q:Unit->aq->Prop}(hh:A.handled=ah)(ht:s.heap.IsList t items)
  (hn:(bb elts env).length=items.size) (hstar:(bb elts env).findIdx? (·.1)=ah)
  (h:∀h',dt s.heap.objs.size s.heap h'->ax (aA prog w) A (lN ((bb elts env).map (·.2)) items.toList) Q E { s with heap:=h' }) :
  ax (aA prog w) A (dX (.Tuple elts x1 pos) env (.ref t)) Q E s:=by
 rw[arm_assign_Tuple];refine ag (fm ?_);unfold unpack;rw[hn,hstar];exact ag (b0 (O9 hh ht h))
end
section
variable{X:Cx}{ρ:Rho}{p1 p2 p3 q1 pos:aP}{n:Nat}
def jmu(K:k7g)(n:Nat)(t:TGs):TG:=λv σ H Q=>∃a xs,v=.ref a/\SqL K H a xs/\xs.length=n/\t xs σ H Q
theorem jfj{es:List ar}{k:Nat}{t:TGs}{n:Nat}(hc:X.calm=af)(h:PGs X es t)
  (hn:(bb es X.env).length=n:=by rfl) (hst:(bb es X.env).findIdx? (·.1)=ah:=by rfl):PG X (.Tuple es k pos) (jmu X.K n t):=by
 intro pins s σ H v u Q I r hw;obtain⟨a,xs,e1,hq,hl,hw⟩:=hw;subst e1;cases r;obtain⟨its,rv,⟨o,m,ho,hoc,_,hod⟩,hz⟩:=I.list hq;refine j0h (I.ok.hd hc) ⟨o,ho,hoc,m,hod⟩ (by simp[hn,<-hl,rv.length]) hst λh' hx=>?_;have I1:Inv X pins σ H { s with heap:=h' }:=I.kept (t':=s.toks) λb o e=>hx b o (X8 (xq e)) e;exact h pins _ σ H xs _ Q I1 (by simpa using rv) hw
theorem DS.unp3{i j k:Nat}{x y z:ao}{e:ar}{P:Po}{d d' d'':D}(he:DE X ρ e (.lst [d,d',d'']))(h:P.nx (((ρ.set i (.val d)).set j (.val d')).set k (.val d'')))(hc:X.calm=af)(hN:X.N.Nodup)(hi:X.N[i]?=aa x)(hj:X.N[j]?=aa y)(hk:X.N[k]?=aa z)
  (hx:Loc X.env.scope x) (hy:Loc X.env.scope y) (hz:Loc X.env.scope z)
  (fx:X.fn x=af\/X.env.scope.names.lookup x=aa .local) (fy:X.fn y=af\/X.env.scope.names.lookup y=aa .local) (fz:X.fn z=af\/X.env.scope.names.lookup z=aa .local)
  (hs:hZ [.Tuple [.Name x p1,.Name y p2,.Name z p3] n q1] e pos.line X.env=pure ae) (hw:i0 [.Tuple [.Name x p1,.Name y p2,.Name z p3] n q1] e X.env=pure ah) :
  DS X ρ (.Assign [.Tuple [.Name x p1,.Name y p2,.Name z p3] n q1] e pos) P:=λσ H E R q=>by
 refine(jff peS pgS hs hw).to (he σ H _ R λv H1 g1 e1=>?_);obtain⟨t,xs,ev,sq,u,r,e,eu,u',r',e',eu',u'',r'',e'',eu'',er⟩:=e1;subst e e' e'' ev er;have R0:=R.grow g1;refine(jfj hc (Yd (Vx hN hi hx fx) (Yd (Vx hN hj hy fy) (Yd (Vx hN hk hz fz) j0u rfl) rfl) rfl) rfl rfl).to ⟨t,[u,u',u''],rfl,jj.seq sq,rfl,u,[u',u''],rfl,u',[u''],rfl,u'',[],rfl,rfl,?_⟩;have R1:Rep X.K (ρ.set i (.val d)) (σ.set i (aa u)) H1:=R0.set_val eu;have R2:Rep X.K ((ρ.set i (.val d)).set j (.val d')) ((σ.set i (aa u)).set j (aa u')) H1:=R1.set_val (eu'.mono (z9 λb hb=>(j9 rfl).subset hb));have R3:=R2.set_val (i:=k) (eu''.mono (z9 λb hb=>(j9 rfl).subset ((j9 rfl).subset hb)));exact q.nx _ _ H1 h R3 (j4.trans (Fr0.grow g1) (Fr0.drop λb hb=>(j9 rfl).subset ((j9 rfl).subset ((j9 rfl).subset hb))))
end
end L2
end
section
namespace L2
noncomputable def step(acc:List (List Int))(f:List Int):List (List Int):=acc.flatMap λa=>f.map λx=>a++[x]
noncomputable def zy(fs:List (List Int)):List (List Int):=fs.foldl step [[]]
noncomputable def W3:List (List Int)->List (List Int)
 |[]=>[[]]
 |f::fs=>f.flatMap λx=>(W3 fs).map (x :: ·)
theorem By:∀(fs:List (List Int)) (acc:List (List Int)),fs.foldl step acc=acc.flatMap λa=>(W3 fs).map (a ++ ·)
 |[],acc=>by simp[W3]
 |f::fs,acc=>by
  rw[Pz,By fs,step,List.flatMap_assoc];congr 1
  funext a
  rw[W3,List.map_flatMap,List.flatMap_map];congr 1
  funext x
  rw[Xc];congr 1
  funext r
  simp
theorem j38(fs:List (List Int)):zy fs=W3 fs:=by rw[zy,By];simp
noncomputable def Qi:Nat->List (List Int)
 |0=>[[]]
 |m+1=>(Qi m).map (0 :: ·)++(Qi m).map (1 :: ·)
theorem Rb:∀m,(Qi m).length=2^m
 |0=>rfl
 |m+1=>by rw[Qi,X7,km,km,Rb m,gH];omega
theorem Ec{b:Int}(hb:0<b)(n c:Int):∀{i m:Nat},i<=m->zc b i (n+b^m*c)=zc b i n
 |0,m,_=>rfl
 |i+1,m,h=>by
  rw[zc,zc,Ec hb n c nofun];congr 1;obtain⟨k,rfl⟩:∃k,m=i+(k+1):=⟨m-i-1,by omega⟩
  have hp:b^i≠0:=kB (lh hb);rw[Int.pow_add,jW,gZ _ _ hp,Int.pow_succ,Int.mul_comm (b^k) b,jW,Int.add_mul_emod_self_left]
theorem W0:∀m:Nat,(aK (2^m)).map (λn=>zc 2 m ((n:Nat):Int))=Qi m
 |0=>rfl
 |m+1=>by
  have e:2^(m+1)=2^m+2^m:=by rw[gH];omega
  rw[e,List.range_add,Ph,Qi,<-W0 m,Xc,Xc,Xc];have pc:((2^m:Nat):Int)=(2:Int)^m:=by simp
  congr 1
  .apply T9;intro n hn;have hn':n<2^m:=Xw.mp hn;show zc 2 (m+1) (n:Int)=0::zc 2 m (n:Int);rw[zc];congr 1;have h0:(n:Int)/2^m=0:=gR nofun (by rw[<-pc];omega)
   rw[h0];rfl
  .apply T9;intro n hn;have hn':n<2^m:=Xw.mp hn;show zc 2 (m+1) ((2^m+n:Nat):Int)=1::zc 2 m (n:Int);have e1:((2^m+n:Nat):Int)=(n:Int)+2^m*1:=by rw[Int.natCast_add,pc,lq,Int.add_comm]
   rw[e1,zc,Ec (by decide) _ _ (X6 m)];congr 1;have hp:(2:Int)^m≠0:=kB (lh (by decide));have h0:(n:Int)/2^m=0:=gR nofun (by rw[<-pc];omega)
   rw[gZ _ _ hp,h0];rfl
noncomputable def fits:List Int->List Int->Bool
 |t::ts,x::xs=>(t==2 || t==x)&&fits ts xs
 |_,_=>af
end L2
end
section
namespace L2
open PySem
inductive Sv where
 |un
 |val (d:D)
 |own (l:List D)
 |exc (x:ao)
noncomputable abbrev En:=List Sv
set_option genInjectivity true in
inductive Rk where
 |e (d:D)
 |o (l:List D)
 |w (l:List D)
 |t (d:D)
noncomputable def Rk.d:Rk->D
 |.e d=>d
 |.o l=>.lst l
 |.w l=>.lst l
 |.t d=>d
noncomputable def Rk.st:Rk->Option D
 |.e d=>aa d
 |.o l=>aa (.lst l)
 |.w l=>ah
 |.t d=>if Jl d=af then aa d else ah
noncomputable def Rk.sq:Rk->Option (Bool×List D)
 |.e (.lst l)=>aa (af,l)
 |.e (.tup l)=>aa (ae,l)
 |.o l=>aa (af,l)
 |.w l=>aa (af,l)
 |_=>ah
noncomputable def Rk.lw:Rk->Option (List D)
 |.o l=>aa l
 |.w l=>aa l
 |_=>ah
inductive Rc where
 |val (d:D)
 |fresh (l:List D)
 |err (x:ao)
 |lval (d:D)
 |mval (d:D) (k:Nat)
 |merr (x:ao)
 |no
noncomputable def Rc.rk:Rc->Option Rk
 |.val d=>aa (.e d)
 |.fresh l=>aa (.o l)
 |_=>ah
inductive Bop where
 |add|sub|mul|fdiv|mod|pow|shl|shr|band|bxor
inductive Cop where
 |lt|le|gt|ge|eq|ne|isin|notin
inductive Bf where
 |len|min|max|all|tuple|list|sum|int|any|sorted
inductive Mf where
 |count
inductive Ex where
 |lit (d:D)
 |var (i:Nat)
 |glob (x:ao)
 |bin (op:Bop) (a b:Ex)
 |cmp (op:Cop) (a b:Ex)
 |isN (a:Ex)
 |and (a b:Ex)
 |or (a b:Ex)
 |not (a:Ex)
 |ite (c a b:Ex)
 |nil
 |cons (a b:Ex)
 |tup (es:Ex)
 |lst (es:Ex)
 |ix (a b:Ex)
 |sl (a lo hi:Ex)
 |call (f:ao) (es:Ex)
 |blt (f:Bf) (es:Ex)
 |isi (a:Ex) (ts:List String)
 |comp (is:List Nat) (elt it cond:Ex)
 |seq (a:Ex)
 |range (es:Ex)
 |zip (a b:Ex)
 |fst (es:Ex)
 |join (sep:ao) (a:Ex)
 |enum (a:Ex)
 |lset (a:Ex)
 |lrng (a:Ex)
 |dzip (a b:Ex)
 |callD (f:ao) (es:Ex)
 |chn (a b c:Ex)
 |che (a b c:Ex)
 |maxD (a:Ex)
 |callK (f:ao) (es a:Ex)
 |dix (a b:Ex)
 |dnil
 |rpr (a:Ex)
 |upr (a:Ex)
 |spl (a:Ex)
 |sti (a:Ex)
 |din (a b:Ex)
 |items (a:Ex)
 |callV (i:Nat) (es:Ex)
 |dget (a b:Ex)
 |dvals (a:Ex)
 |minT (a:Ex)
set_option genInjectivity true in
inductive W where
 |v (r:Rk)
 |a (rs:List Rk)
 |i (ds:List D)
noncomputable def jm(n:Nat):Bool:=decide (n<=au)
noncomputable def binI:Bop->Int->Int->Option Int
 |.add,i,j=>aa (i+j)
 |.sub,i,j=>aa (i-j)
 |.mul,i,j=>if (-(2^64)<i/\i<2^64)\/(-(2^64)<j/\j<2^64)then aa (i*j)else ah
 |.fdiv,i,j=>if 0<j/\j<18446744073709551616 then aa (i/j)else ah
 |.mod,i,j=>if 0<j then aa (i%j)else ah
 |.pow,i,j=>if 0<=j/\j<=1000000/\i.natAbs<2^64 then aa (i^j.toNat)else ah
 |.shl,i,j=>if 0<=j/\j<=1000000/\i.natAbs<2^64 then aa (i*2^j.toNat)else ah
 |.shr,i,j=>if 0<=j then aa (i/2^j.toNat)else ah
 |.band,i,j=>aa (Builtin.bitAnd i j)
 |.bxor,i,j=>aa (Builtin.bitXor i j)
noncomputable def U4(op:Bop)(a b:Rk):Option Rk :=
 match a.d,b.d with
 |.int i,.int j=>(binI op i j).map λk=>.e (.int k)
 |.str y,.str z=>match op with
  |.add=>if jm (y.length+z.length)=af then aa (.e (.str (y++z)))else ah
  |_=>ah
 |.str y,.int k=>match op with
  |.mul=>if (1<=k/\k<=1000)/\y.length<=1000 then aa (.e (.str (iw y k)))else ah
  |_=>ah
 |_,_=>match op,a.sq,b.sq,b.d with
  |.add,aa (af,l),aa (af,m),_=>if jm (l.length+m.length)=af then aa (.o (l++m))else ah
  |.add,aa (ae,l),aa (ae,m),_=>if jm (l.length+m.length)=af then aa (.e (.tup (l++m)))else ah
  |.mul,aa (ae,l),_,.int k=>if 1<=k/\k<2^63/\l.isEmpty=ae/\jm (l.length*k.toNat)=af then aa (.e (.tup (az k.toNat l).flatten))else ah
  |.mul,_,_,.int k=>match a.lw with
   |some l=>if -(2^63)<=k/\k<2^63/\jm (l.length*k.toNat)=af then aa (.o (az k.toNat l).flatten)else ah
   |none=>ah
  |_,_,_,_=>ah
noncomputable def cmpI:Cop->Int->Int->Option Bool
 |.lt,i,j=>aa (decide (i<j))
 |.le,i,j=>aa (decide (i<=j))
 |.gt,i,j=>aa (decide (j<i))
 |.ge,i,j=>aa (decide (j<=i))
 |.eq,i,j=>aa (decide (i=j))
 |.ne,i,j=>aa (!decide (i=j))
 |_,_,_=>ah
noncomputable def D.sqv:D->Option (Bool×List D)
 |.lst l=>aa (af,l)
 |.tup l=>aa (ae,l)
 |_=>ah
noncomputable def Ja(op:Cop)(a b:D):Option Bool :=
 match op,a,b with
 |op,.int i,.int j=>cmpI op i j
 |.eq,a,b=>if a.dep<=90/\b.dep<=90 then aa (deq a b)else ah
 |.ne,.bl a,.bl b=>aa (a != b)
 |.ne,.str a,.str b=>aa (!decide (a=b))
 |.ne,.non,.non=>aa ae
 |.ne,.lst l,.lst m=>if D.depL l<=90/\D.depL m<=90 then aa (!vy l m)else ah
 |.ne,.tup l,.tup m=>if D.depL l<=90/\D.depL m<=90 then aa (!vy l m)else ah
 |.isin,.str a,.str b=>aa (inS a b)
 |.lt,.str a,.str b=>aa (decide (a.cps.toList<b.cps.toList))
 |.gt,.str a,.str b=>aa (decide (b.cps.toList<a.cps.toList))
 |.isin,a,b=>match b.sqv with
  |some (_,l)=>if D.depL l<=90/\a.dep<=90 then aa (l.any λe=>deq e a)else ah
  |none=>ah
 |.notin,a,b=>match b.sqv with
  |some (_,l)=>if D.depL l<=90/\a.dep<=90 then aa (!l.any λe=>deq e a)else ah
  |none=>ah
 |_,_,_=>ah
noncomputable def boolsOf:List D->Option (List Bool)
 |[]=>aa []
 |.bl b::r=>(boolsOf r).map (b :: ·)
 |_::_=>ah
noncomputable def intsOf:List D->Option (List Int)
 |[]=>aa []
 |.int b::r=>(intsOf r).map (b :: ·)
 |_::_=>ah
noncomputable def strsOf:List D->Option (List ao)
 |[]=>aa []
 |.str b::r=>(strsOf r).map (b :: ·)
 |_::_=>ah
noncomputable def Zg:Bf->List Rk->Option Rk
 |.len,[a]=>match a.d with
  |.lst l=>aa (.e (.int l.length))
  |.tup l=>aa (.e (.int l.length))
  |.str y=>if jm y.length=af then aa (.e (.int y.length))else ah
  |_=>ah
 |.min,[a,b]=>match a.d,b.d with
  |.int i,.int j=>aa (.e (.int (if j<i then j else i)))
  |_,_=>ah
 |.max,[a,b]=>match a.d,b.d with
  |.int i,.int j=>aa (.e (.int (if j>i then j else i)))
  |_,_=>ah
 |.max,[a]=>match a.d with
  |.lst l=>match intsOf l with
   |some ns=>if ns.isEmpty=ae then aa (.e (.int (W6 ns)))else ah
   |none=>ah
  |_=>ah
 |.min,[a]=>match a.d with
  |.lst l=>match intsOf l with
   |some ns=>if ns.isEmpty=ae then aa (.e (.int (Rj ns)))else ah
   |none=>ah
  |_=>ah
 |.all,[a]=>match a.d with
  |.lst l=>(boolsOf l).map λbs=>.e (.bl (bs.all id))
  |_=>ah
 |.any,[a]=>match a.d with
  |.lst l=>(boolsOf l).map λbs=>.e (.bl (bs.any id))
  |_=>ah
 |.tuple,[a]=>match a.sq with
  |some (_,l)=>aa (.e (.tup l))
  |none=>ah
 |.list,[a]=>match a.sq with
  |some (_,l)=>aa (.o l)
  |none=>ah
 |.sum,[a]=>match a.d with
  |.lst l=>(intsOf l).map λns=>.e (.int ns.sum)
  |.tup l=>(intsOf l).map λns=>.e (.int ns.sum)
  |_=>ah
 |.int,[a]=>match a.d with
  |.bl k=>aa (.e (.int (if k then 1 else 0)))
  |.str y=>if y.length<=640 then(d6 y).map λn=>.e (.int n)else ah
  |_=>ah
 |_,_=>ah
noncomputable def qy(t c:String):Option Bool :=
 if t = "function" then ah else
 if c = "int" then aa (t == "int" || t == "bool") else
 if c = "bool" then aa (t == "bool") else
 if c = "str" then aa (t == "str") else
 if c = "list" then aa (t == "list") else
 if c = "tuple" then aa (t == "tuple")else ah
noncomputable def qe(d:D):List String->Option Bool
 |[]=>aa ae
 |c::cs=>match qy d.ty c,qe d cs with
  |some a,aa b=>aa (a || b)
  |_,_=>ah
noncomputable def vf:List Nat->D->En->Option En
 |[i],d,ρ=>aa (ρ.set i (.val d))
 |[i,j],d,ρ=>match d with
  |.tup [a,b]=>aa ((ρ.set i (.val a)).set j (.val b))
  |_=>ah
 |[i,j,k],d,ρ=>match d with
  |.tup [a,.tup [b,c]]=>aa (((ρ.set i (.val a)).set j (.val b)).set k (.val c))
  |_=>ah
 |[i,j,k,_],d,ρ=>match d with
  |.tup [a,b,c]=>aa (((ρ.set i (.val a)).set j (.val b)).set k (.val c))
  |_=>ah
 |_,_,_=>ah
noncomputable def Lx(is:List Nat)(ρ:En):Bool:=is.all λi=>match ρ[i]? with
 |some .un=>af
 |_=>ae
noncomputable def Jm(f:D->Option (Option D)):List D->Option (List D)
 |[]=>aa []
 |d::ds=>match f d,Jm f ds with
  |some (aa x),aa xs=>aa (x::xs)
  |some ah,aa xs=>aa xs
  |_,_=>ah
noncomputable def J0:List Rk->Option (List D)
 |[]=>aa []
 |r::rs=>match r.st,J0 rs with
  |some d,aa ds=>aa (d::ds)
  |_,_=>ah
noncomputable def W.one:W->Option Rk
 |.v r=>aa r
 |_=>ah
noncomputable def W.args:W->Option (List Rk)
 |.a rs=>aa rs
 |_=>ah
noncomputable def W.it:W->Option (List D)
 |.i ds=>aa ds
 |_=>ah
noncomputable def Qf:Option W->Option (Option Int)
 |some (.a [])=>aa ah
 |some (.a [r])=>match r.d with
  |.int i=>aa (aa i)
  |_=>ah
 |_=>ah
noncomputable def truth:Option W->Option Bool
 |some (.v r)=>match r.d with
  |.bl k=>aa k
  |_=>ah
 |_=>ah
noncomputable def j92:Ex->Option Nat
 |.seq (.var i)=>aa i
 |.enum (.var i)=>aa i
 |_=>ah
noncomputable def frz(t:Ex)(ρ:En):En:=match j92 t with
 |some i=>match ρ[i]? with
  |some (.own l)=>ρ.set i (.val (.lst l))
  |_=>ρ
 |none=>ρ
noncomputable def Jf(t:Ex)(ρ:En):Bool:=match j92 t with
 |some i=>match ρ[i]? with
  |some (.own _)=>af
  |_=>ae
 |none=>ae
noncomputable def Zy:D->Option ao
 |.int i=>if -18446744073709551616<i/\i<18446744073709551616 then aa (aW (toString i))else ah
 |.str y=>if y.length<=10000 then aa y else ah
 |_=>ah
noncomputable def Qh:List Rk->Option (List ao)
 |[]=>aa []
 |r::rs=>match Zy r.d,Qh rs with
  |some y,aa ys=>aa (y::ys)
  |_,_=>ah
noncomputable def bang(x:ao):ao:=("!":ao)++x
noncomputable def qm(f:ao):ao:=("??":ao)++f
noncomputable def mq(f:ao):ao:=("@":ao)++f
noncomputable def tupI:D->Option (List Int)
 |.tup l=>intsOf l
 |_=>ah
noncomputable def j2n(kf:D->Option Int):D->Int->List D->Option D
 |b,_,[]=>aa b
 |b,kb,d::ds=>match kf d with
  |some k=>if k<kb then j2n kf d k ds else j2n kf b kb ds
  |none=>ah
noncomputable def ja0:List D->Option (List (List Int))
 |[]=>aa []
 |d::ds=>match tupI d,ja0 ds with
  |some k,aa ks=>aa (k::ks)
  |_,_=>ah
noncomputable def prI:D->Option (Int×List Int)
 |.tup [.int a,d]=>(tupI d).map λk=>(a,k)
 |_=>ah
noncomputable def jfg:List D->Option (List (Int×List Int))
 |[]=>aa []
 |d::ds=>match prI d,jfg ds with
  |some k,aa ks=>aa (k::ks)
  |_,_=>ah
noncomputable def Rc.lv:Rc->Option W
 |.lval d=>aa (.v (.e d))
 |_=>ah
noncomputable def j2x(w:Option W):Option W:=match w with
 |some (.a rs)=>if rs.length<=1000 then(Qh rs).map λys=>.v (.e (.str (Lr dM ys)))else ah
 |_=>ah
noncomputable def jm4(w:Option W):Option W:=match w with
 |some (.v x)=>match x.d with
  |.str y=>if y.length<=100000/\jm (aF y " ").length=af then aa (.v (.o ((aF y " ").map D.str)))else ah
  |_=>ah
 |_=>ah
noncomputable def Kc(w:Option W):Option W:=match w with
 |some (.v x)=>match x.d with
  |.int i=>if -18446744073709551616<i/\i<18446744073709551616 then aa (.v (.e (.str (aW (toString i)))))else ah
  |_=>ah
 |_=>ah
noncomputable def jlo(w:Option W):Option W:=match w with
 |some (.v x)=>match x.d with
  |.str y=>if y.length<=1000 then aa (.v (.e (.str (PySem.Txt.upper y))))else ah
  |_=>ah
 |_=>ah
noncomputable def Ni(s:Option Sv):Option W:=match s with
 |some (.val d)=>aa (.v (.e d))
 |some (.own l)=>aa (.v (.w l))
 |_=>ah
noncomputable def blW(i:Option Bool):Option W:=i.map λk=>.v (.e (.bl k))
noncomputable def rkW(r:Option Rk):Option W:=r.map .v
noncomputable def Q7(op:Bop)(a b:Option W):Option W:=match a,b with
 |some (.v x),aa (.v y)=>rkW (U4 op x y)
 |_,_=>ah
noncomputable def De(op:Cop)(a b:Option W):Option W:=match a,b with
 |some (.v x),aa (.v y)=>blW (Ja op x.d y.d)
 |_,_=>ah
noncomputable def consW(a b:Option W):Option W:=match a,b with
 |some (.v x),aa (.a xs)=>aa (.a (x::xs))
 |_,_=>ah
noncomputable def Y6(a:Option W):Option W:=match a with
 |some (.a rs)=>match J0 rs with
  |some ds=>if jm ds.length=af then aa (.v (.e (.tup ds)))else ah
  |none=>ah
 |_=>ah
noncomputable def Zq(a:Option W):Option W:=match a with
 |some (.a rs)=>match J0 rs with
  |some ds=>if jm ds.length=af then aa (.v (.o ds))else ah
  |none=>ah
 |_=>ah
noncomputable def ixW(a b:Option W):Option W:=match a,b with
 |some (.v x),aa (.v y)=>match x.sq,y.d with
  |some (_,l),.int i=>(atI l i).map λd=>.v (.e d)
  |none,.int i=>match x.d with
   |.str z=>if jm z.length=af then(atI z.cps.toList i).map λc=>.v (.e (.str ⟨#[c]⟩))else ah
   |_=>ah
  |_,_=>ah
 |_,_=>ah
noncomputable def Vp(sep:ao)(a:Option W):Option W:=match a with
 |some (.v x)=>match x.d with
  |.lst l=>match strsOf l with
   |some ts=>if cq sep ts=af then aa (.v (.e (.str (cD sep ts))))else ah
   |none=>ah
  |_=>ah
 |_=>ah
noncomputable def jjz(a:Option W):Option W:=match a with
 |some (.v y)=>match y.d with
  |.int n=>if 0<=n/\n<=1000000 then aa (.v (.o ((aK n.toNat).map λ(i:Nat)=>D.int (i:Int))))else ah
  |_=>ah
 |_=>ah
noncomputable def j2r(a:Option W):Option W:=match a with
 |some (.v x)=>match x.d with
  |.lst l=>match strsOf l with
   |some ts=>if ts.length<4000 then aa (.v (.e (.int (dd ts).length)))else ah
   |none=>match intsOf l with
    |some ns=>if ns.length<4000 then aa (.v (.e (.int (ddI ns).length)))else ah
    |none=>ah
  |_=>ah
 |_=>ah
noncomputable def j30(a:Option W):Option W:=match a with
 |some (.v x)=>match x.st with
  |some (.lst l)=>aa (.i (Vr l))
  |some (.tup l)=>aa (.i (Vr l))
  |_=>ah
 |_=>ah
noncomputable def Jv(Γ:ao->List D->Rc)(f:ao)(a:Option W):Option W:=match a with
 |some (.a rs)=>match J0 rs with
  |some ds=>rkW (Γ f ds).rk
  |none=>match Γ f (rs.map Rk.d) with
   |.val d=>aa (.v (.t d))
   |.fresh l=>if qj l=af then aa (.v (.o l))else ah
   |_=>ah
 |_=>ah
noncomputable def vd(f:Bf)(a:Option W):Option W:=match a with
 |some (.a rs)=>rkW (Zg f rs)
 |_=>ah
noncomputable def Fp(a:Option W)(ts:List String):Option W:=match a with
 |some (.v x)=>blW (qe x.d ts)
 |_=>ah
noncomputable def R8(a:Option W):Option W:=match a with
 |some (.v (.e (.lst l)))=>aa (.i l)
 |some (.v (.e (.tup l)))=>aa (.i l)
 |some (.v (.o l))=>aa (.i l)
 |some (.v (.e (.str y)))=>if ascii y=af then aa (.i (chs y))else ah
 |_=>ah
noncomputable def Rg(a:Option W):Option W:=match a with
 |some (.a [x])=>match x.d with
  |.int n=>if -(2^62)<=n/\n<2^62 then aa (.i (upto 0 n.toNat))else ah
  |_=>ah
 |some (.a [x,y])=>match x.d,y.d with
  |.int m,.int n=>if -(2^62)<=m/\m<2^62/\-(2^62)<=n/\n<2^62 then aa (.i (upto m (n-m).toNat))else ah
  |_,_=>ah
 |_=>ah
noncomputable def j6j(a b:Option W):Option W:=match a,b with
 |some (.v x),aa (.v y)=>match x.st,y.st with
  |some (.lst l),aa (.lst m)=>aa (.i (Ut l m))
  |some (.lst l),aa (.tup m)=>aa (.i (Ut l m))
  |some (.tup l),aa (.lst m)=>aa (.i (Ut l m))
  |some (.tup l),aa (.tup m)=>aa (.i (Ut l m))
  |_,_=>ah
 |_,_=>ah
noncomputable def jmw(a b:Option W):Option W:=match a,b with
 |some (.v x),aa (.v y)=>match x.d,y.d with
  |.tup l,.dct ks _=>(intsOf l).map λk=>.v (.e (.bl (ks.contains k)))
  |_,_=>ah
 |_,_=>ah
noncomputable def jgq(a:Option W):Option W:=match a with
 |some (.v (.e (.dct ks ds)))=>aa (.i (jgr ks ds))
 |_=>ah
noncomputable def Wh(a b:Option W):Option W:=match a,b with
 |some (.v x),aa (.v y)=>match x.st.bind D.sqv,y.st.bind D.sqv with
  |some (_,l),aa (_,m)=>match strsOf l,intsOf m with
   |some ks,aa ns=>if ks.Nodup/\ks.length=ns.length/\jm ks.length=af then aa (.v (.e (.sct (ks.zip ns))))else ah
   |_,_=>ah
  |_,_=>ah
 |_,_=>ah
noncomputable def jn0(a b c:Option W):Option W:=match a,b,c with
 |some (.v x),aa (.v y),aa (.v z)=>match x.d,y.d,z.d with
  |.int i,.int j,.int k=>aa (.v (.e (.bl (decide (i<=j)&&decide (j<=k)))))
  |_,_,_=>ah
 |_,_,_=>ah
noncomputable def jjx(a:Option W):Option W:=match a with
 |some (.v x)=>match x.d with
  |.lst l=>match intsOf l with
   |some ns=>aa (.v (.e (.int (W6 ns))))
   |none=>ah
  |_=>ah
 |_=>ah
noncomputable def jmz(a b c:Option W):Option W:=match a,b,c with
 |some (.v x),aa (.v y),aa (.v z)=>match x.d,y.d,z.d with
  |.int i,.int j,.int k=>aa (.v (.e (.bl (decide (i<j)&&decide (j<k)))))
  |_,_,_=>ah
 |_,_,_=>ah
noncomputable def ji1(Γ:ao->List D->Rc)(s:Option Sv)(a:Option W):Option W:=match s,a with
 |some (.val (.fn x cs)),aa (.a rs)=>match J0 rs with
  |some ds=>if Yu ds=af then(Γ (zx x) (cs++ds)).lv else ah
  |none=>ah
 |_,_=>ah
noncomputable def jkx(a b:Option W):Option W:=match a,b with
 |some (.v (.e (.dct ks ds))),aa (.v y)=>match tupI y.d with
  |some k=>(jan ks ds k).map λd=>.v (.e d)
  |none=>ah
 |_,_=>ah
noncomputable def jhn(a:Option W):Option W:=match a with
 |some (.v (.e (.dct _ ds)))=>aa (.v (.e (.tup ds)))
 |_=>ah
noncomputable def jju(a:Option W):Option W:=match a with
 |some (.v x)=>match x.d with
  |.lst l=>match ja0 l with
   |some ks=>(ks[jT (jk1 ks) (ks.length-1)]?).map λk=>.v (.t (.tup (k.map D.int)))
   |none=>match jfg l with
    |some ps=>(ps[jT (jmj ps) (ps.length-1)]?).map λk=>.v (.t (pairD k))
    |none=>ah
  |_=>ah
 |_=>ah
noncomputable def Fy(a b:Option W):Option W:=match a,b with
 |some (.v x),aa (.v y)=>match x.d,y.d with
  |.sct kvs,.str k=>(Yi kvs k).map λn=>.v (.e (.int n))
  |_,_=>ah
 |_,_=>ah
noncomputable def ev(Γ:ao->List D->Rc)(G:ao->Option D):Ex->En->Option W
 |.lit d,_=>aa (.v (.e d))
 |.var i,ρ=>Ni ρ[i]?
 |.glob x,_=>(G x).map λd=>.v (.e d)
 |.bin op a b,ρ=>Q7 op (ev Γ G a ρ) (ev Γ G b ρ)
 |.cmp op a b,ρ=>De op (ev Γ G a ρ) (ev Γ G b ρ)
 |.isN a,ρ=>match ev Γ G a ρ with
  |some (.v x)=>aa (.v (.e (.bl x.d.isNon)))
  |_=>ah
 |.and a b,ρ=>match truth (ev Γ G a ρ) with
  |some ae=>aa (.v (.e (.bl ae)))
  |some af=>(truth (ev Γ G b ρ)).map λk=>.v (.e (.bl k))
  |none=>ah
 |.or a b,ρ=>match truth (ev Γ G a ρ) with
  |some af=>aa (.v (.e (.bl af)))
  |some ae=>(truth (ev Γ G b ρ)).map λk=>.v (.e (.bl k))
  |none=>ah
 |.not a,ρ=>(truth (ev Γ G a ρ)).map λk=>.v (.e (.bl (!k)))
 |.ite c a b,ρ=>match truth (ev Γ G c ρ) with
  |some af=>match ev Γ G a ρ with
   |some (.v x)=>x.st.map λd=>.v (.e d)
   |_=>ah
  |some ae=>match ev Γ G b ρ with
   |some (.v x)=>x.st.map λd=>.v (.e d)
   |_=>ah
  |none=>ah
 |.nil,_=>aa (.a [])
 |.cons a b,ρ=>consW (ev Γ G a ρ) (ev Γ G b ρ)
 |.tup es,ρ=>Y6 (ev Γ G es ρ)
 |.lst es,ρ=>Zq (ev Γ G es ρ)
 |.ix a b,ρ=>ixW (ev Γ G a ρ) (ev Γ G b ρ)
 |.sl a lo hi,ρ=>match ev Γ G a ρ,Qf (ev Γ G lo ρ),Qf (ev Γ G hi ρ) with
  |some (.v x),aa l,aa h=>match x.sq with
   |some (af,ds)=>aa (.v (.o (cutD ds l h)))
   |some (ae,ds)=>if HT.sIx ds.length 0 l=0/\HT.sIx ds.length ds.length h=ds.length then ah else aa (.v (.e (.tup (cutD ds l h))))
   |none=>match x.d with
    |.str z=>if jm z.length=af then aa (.v (.e (.str (c8 z l h))))else ah
    |_=>ah
  |_,_,_=>ah
 |.call f es,ρ=>Jv Γ f (ev Γ G es ρ)
 |.blt f es,ρ=>vd f (ev Γ G es ρ)
 |.isi a ts,ρ=>Fp (ev Γ G a ρ) ts
 |.comp is elt it cond,ρ=>match ev Γ G it (frz it ρ) with
  |some (.i ds)=>if Lx is (frz it ρ)=af/\jm ds.length=af then
    (Jm (λd=>match vf is d (frz it ρ) with
     |none=>ah
     |some ρ2=>match ev Γ G cond ρ2 with
      |some (.a [])=>match ev Γ G elt ρ2 with
       |some (.v x)=>x.st.map aa
       |_=>ah
      |some (.a [y])=>match y.d with
       |.bl af=>match ev Γ G elt ρ2 with
        |some (.v x)=>x.st.map aa
        |_=>ah
       |.bl ae=>aa ah
       |_=>ah
      |_=>ah) ds).bind λl=>if (Jf it ρ && !qj l)=af then ah else aa (.v (.o l))
   else ah
  |_=>ah
 |.seq a,ρ=>R8 (ev Γ G a ρ)
 |.chn a b c,ρ=>jmz (ev Γ G a ρ) (ev Γ G b ρ) (ev Γ G c ρ)
 |.che a b c,ρ=>jn0 (ev Γ G a ρ) (ev Γ G b ρ) (ev Γ G c ρ)
 |.maxD a,ρ=>jjx (ev Γ G a ρ)
 |.range es,ρ=>Rg (ev Γ G es ρ)
 |.zip a b,ρ=>j6j (ev Γ G a ρ) (ev Γ G b ρ)
 |.fst es,ρ=>j2x (ev Γ G es ρ)
 |.join sep a,ρ=>Vp sep (ev Γ G a ρ)
 |.enum a,ρ=>j30 (ev Γ G a ρ)
 |.dzip a b,ρ=>Wh (ev Γ G a ρ) (ev Γ G b ρ)
 |.callD f es,ρ=>match ev Γ G es ρ with
  |some (.a rs)=>match J0 rs with
   |some ds=>match Γ f (ds++[.non]) with
    |.val d=>aa (.v (.e d))
    |_=>ah
   |none=>ah
  |_=>ah
 |.callK f es a,ρ=>match ev Γ G es ρ,ev Γ G a ρ with
  |some (.a rs),aa (.v x)=>match J0 rs,x.st with
   |some ds,aa d'=>match Γ f (ds++[d']) with
    |.val d=>aa (.v (.e d))
    |_=>ah
   |_,_=>ah
  |_,_=>ah
 |.dix a b,ρ=>Fy (ev Γ G a ρ) (ev Γ G b ρ)
 |.dnil,_=>aa (.v (.e (.sct [])))
 |.rpr a,ρ=>match ev Γ G a ρ with
  |some (.v x)=>match x.d with
   |.str y=>if (bX y).length<=2000 then aa (.v (.e (.str (bX y))))else ah
   |_=>ah
  |_=>ah
 |.upr a,ρ=>jlo (ev Γ G a ρ)
 |.spl a,ρ=>jm4 (ev Γ G a ρ)
 |.sti a,ρ=>Kc (ev Γ G a ρ)
 |.lrng a,ρ=>jjz (ev Γ G a ρ)
 |.lset a,ρ=>j2r (ev Γ G a ρ)
 |.din a b,ρ=>jmw (ev Γ G a ρ) (ev Γ G b ρ)
 |.items a,ρ=>jgq (ev Γ G a ρ)
 |.callV i es,ρ=>ji1 Γ ρ[i]? (ev Γ G es ρ)
 |.dget a b,ρ=>jkx (ev Γ G a ρ) (ev Γ G b ρ)
 |.dvals a,ρ=>jhn (ev Γ G a ρ)
 |.minT a,ρ=>jju (ev Γ G a ρ)
section
variable{Γ:ao->List D->Rc}{G:ao->Option D}{ρ:En}
theorem K3{d}:ev Γ G (.lit d) ρ=(aa (.v (.e d))):=(rfl)
theorem jl4{i}:ev Γ G (.var i) ρ=(Ni ρ[i]?):=(rfl)
theorem jid{x}:ev Γ G (.glob x) ρ=((G x).map λd=>.v (.e d)):=(rfl)
theorem jle{op a b}:ev Γ G (.bin op a b) ρ=(Q7 op (ev Γ G a ρ) (ev Γ G b ρ)):=(rfl)
theorem jau{op a b}:ev Γ G (.cmp op a b) ρ=(De op (ev Γ G a ρ) (ev Γ G b ρ)):=(rfl)
theorem jat{a}:ev Γ G (.isN a) ρ=(match ev Γ G a ρ with
  |some (.v x)=>aa (.v (.e (.bl x.d.isNon)))
  |_=>ah):=(rfl)
theorem jav{a b}:ev Γ G (.and a b) ρ=(match truth (ev Γ G a ρ) with
  |some ae=>aa (.v (.e (.bl ae)))
  |some af=>(truth (ev Γ G b ρ)).map λk=>.v (.e (.bl k))
  |none=>ah):=(rfl)
theorem jia{a b}:ev Γ G (.or a b) ρ=(match truth (ev Γ G a ρ) with
  |some af=>aa (.v (.e (.bl af)))
  |some ae=>(truth (ev Γ G b ρ)).map λk=>.v (.e (.bl k))
  |none=>ah):=(rfl)
theorem jl9{a}:ev Γ G (.not a) ρ=((truth (ev Γ G a ρ)).map λk=>.v (.e (.bl (!k)))):=(rfl)
theorem jlb{c a b}:ev Γ G (.ite c a b) ρ=(match truth (ev Γ G c ρ) with
  |some af=>match ev Γ G a ρ with
   |some (.v x)=>x.st.map λd=>.v (.e d)
   |_=>ah
  |some ae=>match ev Γ G b ρ with
   |some (.v x)=>x.st.map λd=>.v (.e d)
   |_=>ah
  |none=>ah):=(rfl)
theorem Wu:ev Γ G (.nil) ρ=(aa (.a [])):=(rfl)
theorem Ur{a b}:ev Γ G (.cons a b) ρ=(consW (ev Γ G a ρ) (ev Γ G b ρ)):=(rfl)
theorem jl5{es}:ev Γ G (.tup es) ρ=(Y6 (ev Γ G es ρ)):=(rfl)
theorem jla{es}:ev Γ G (.lst es) ρ=(Zq (ev Γ G es ρ)):=(rfl)
theorem jn4{a b}:ev Γ G (.ix a b) ρ=(ixW (ev Γ G a ρ) (ev Γ G b ρ)):=(rfl)
theorem jn3{a lo hi}:ev Γ G (.sl a lo hi) ρ=(match ev Γ G a ρ,Qf (ev Γ G lo ρ),Qf (ev Γ G hi ρ) with
  |some (.v x),aa l,aa h=>match x.sq with
   |some (af,ds)=>aa (.v (.o (cutD ds l h)))
   |some (ae,ds)=>if HT.sIx ds.length 0 l=0/\HT.sIx ds.length ds.length h=ds.length then ah else aa (.v (.e (.tup (cutD ds l h))))
   |none=>match x.d with
    |.str z=>if jm z.length=af then aa (.v (.e (.str (c8 z l h))))else ah
    |_=>ah
  |_,_,_=>ah):=(rfl)
theorem jih{f es}:ev Γ G (.call f es) ρ=(Jv Γ f (ev Γ G es ρ)):=(rfl)
theorem Wv{f es}:ev Γ G (.blt f es) ρ=(vd f (ev Γ G es ρ)):=(rfl)
theorem jas{a ts}:ev Γ G (.isi a ts) ρ=(Fp (ev Γ G a ρ) ts):=(rfl)
theorem jig{is elt it cond}:ev Γ G (.comp is elt it cond) ρ=(match ev Γ G it (frz it ρ) with
  |some (.i ds)=>if Lx is (frz it ρ)=af/\jm ds.length=af then
    (Jm (λd=>match vf is d (frz it ρ) with
     |none=>ah
     |some ρ2=>match ev Γ G cond ρ2 with
      |some (.a [])=>match ev Γ G elt ρ2 with
       |some (.v x)=>x.st.map aa
       |_=>ah
      |some (.a [y])=>match y.d with
       |.bl af=>match ev Γ G elt ρ2 with
        |some (.v x)=>x.st.map aa
        |_=>ah
       |.bl ae=>aa ah
       |_=>ah
      |_=>ah) ds).bind λl=>if (Jf it ρ && !qj l)=af then ah else aa (.v (.o l))
   else ah
  |_=>ah):=(rfl)
theorem jl7{a}:ev Γ G (.seq a) ρ=(R8 (ev Γ G a ρ)):=(rfl)
theorem je1{es}:ev Γ G (.range es) ρ=(Rg (ev Γ G es ρ)):=(rfl)
theorem jl3{a b}:ev Γ G (.zip a b) ρ=(j6j (ev Γ G a ρ) (ev Γ G b ρ)):=(rfl)
theorem jlc{es}:ev Γ G (.fst es) ρ=(j2x (ev Γ G es ρ)):=(rfl)
theorem jic{sep a}:ev Γ G (.join sep a) ρ=(Vp sep (ev Γ G a ρ)):=(rfl)
theorem jie{a}:ev Γ G (.enum a) ρ=(j30 (ev Γ G a ρ)):=(rfl)
theorem jif{a b}:ev Γ G (.dzip a b) ρ=(Wh (ev Γ G a ρ) (ev Γ G b ρ)):=(rfl)
theorem jld{a b}:ev Γ G (.dix a b) ρ=(Fy (ev Γ G a ρ) (ev Γ G b ρ)):=(rfl)
theorem jl8{a}:ev Γ G (.rpr a) ρ=(match ev Γ G a ρ with
  |some (.v x)=>match x.d with
   |.str y=>if (bX y).length<=2000 then aa (.v (.e (.str (bX y))))else ah
   |_=>ah
  |_=>ah):=(rfl)
theorem jl6{a}:ev Γ G (.sti a) ρ=(Kc (ev Γ G a ρ)):=(rfl)
theorem jib{a}:ev Γ G (.lset a) ρ=(j2r (ev Γ G a ρ)):=(rfl)
end
noncomputable def er(Γ:ao->List D->Rc)(G:ao->Option D):Ex->En->Option ao
 |.call f es,ρ=>match er Γ G es ρ with
  |some x=>if (G (qm f)).isSome=af then aa x else ah
  |none=>match ev Γ G es ρ with
   |some (.a rs)=>match Γ f (rs.map Rk.d) with
    |.err x=>if (G (bang x)).isSome=af then aa x else ah
    |_=>ah
   |_=>ah
 |.cons a b,ρ=>match er Γ G a ρ with
  |some x=>aa x
  |none=>match ev Γ G a ρ with
   |some (.v _)=>er Γ G b ρ
   |_=>ah
 |.ix a _,ρ=>er Γ G a ρ
 |.dzip a b,ρ=>match er Γ G a ρ with
  |some x=>aa x
  |none=>match ev Γ G a ρ with
   |some (.v _)=>er Γ G b ρ
   |_=>ah
 |_,_=>ah
end L2
end
section
namespace L2
open PySem PySem.Spec PyProof.Rows
def DM(X:Cx)(ρ:Rho)(e:ar)(s:Bool)(ds:List D):Prop:=∀σ H Q,Rep X.K ρ σ H->(∀a xs H',j4 H H'->SqB X.K s H' a xs->j6 X.K (del H' (owns ρ)) ds xs->Q (.ref a) H')->Q6 X e σ H Q
section
variable{X:Cx}{ρ:Rho}{e a b c:ar}{es:List ar}{d:D}{ds ds':List D}{i j:Int}{pos p p2:aP}{k:Nat}{x:ao}{s:Bool}
theorem jj7{K:k7g}{H:Hp}{a:ak}{xs:List V}(h:SqL K H a xs):SqB K af H a xs:=by unfold SqB;rw[if_pos rfl];exact h
theorem Uc{K:k7g}{H:Hp}{a:ak}{xs:List V}(h:SqB K af H a xs):SqL K H a xs:=by unfold SqB at h;rw[if_pos rfl]at h;exact h
theorem Qc{K:k7g}{H:Hp}{a:ak}{xs:List V}(h:SqB K ae H a xs):SqT K H a xs:=by unfold SqB at h;rw[if_neg xj]at h;exact h
theorem DE.toM(h:DE X ρ e (D.seq s ds)):DM X ρ e s ds:=λσ H Q R q=>h σ H Q R λv H1 g1 e1=>by obtain⟨t,xs,ev,sq,en⟩:=Jr e1;subst ev;exact q t xs H1 g1 (jj.seqB sq) en
theorem DL.toM(h:DL X ρ e ds):DM X ρ e af ds:=λσ H Q R q=>h σ H Q R λt xs H1 g1 m en=>q t xs H1 g1 (jj7 (.inl (.inl m))) en
theorem DO.toM(h:DO X ρ e ds):DM X ρ e af ds:=h.toL.toM
def Has(X:Cx)(ρ:Rho)(e:ar):Rk->Prop
 |.e d=>DE X ρ e d
 |.o l=>DO X ρ e l
 |.w l=>DL X ρ e l
 |.t d=>DT X ρ e d
theorem Has.toT:∀{r:Rk},Has X ρ e r->DT X ρ e r.d
 |.e _,h=>DE.toT h
 |.o _,h=>DL.toT (DO.toL h)
 |.w _,h=>DL.toT h
 |.t _,h=>h
theorem Has.toE:∀{r:Rk}{d:D},Has X ρ e r->r.st=aa d->DE X ρ e d
 |.e _,_,h,q=>by cases q;exact h
 |.o _,_,h,q=>by cases q;exact DO.toE h
 |.w _,_,h,q=>by cases q
 |.t d',d,h,q=>by
  have q:(if Jl d'=af then aa d' else ah)=aa d:=q;by_cases z:Jl d'=af
  .rw[if_pos z]at q;cases q;exact DT.toE h z
  .rw[if_neg z]at q;cases q
theorem Has.toM:∀{r:Rk}{s:Bool}{l:List D},Has X ρ e r->r.sq=aa (s,l)->DM X ρ e s l
 |.e (.lst l),_,_,h,q=>by cases q;exact DE.toM (s:=af) h
 |.e (.tup l),_,_,h,q=>by cases q;exact DE.toM (s:=ae) h
 |.e .non,_,_,_,q=>by cases q
 |.e (.bl _),_,_,_,q=>by cases q
 |.e (.int _),_,_,_,q=>by cases q
 |.e (.str _),_,_,_,q=>by cases q
 |.o l,_,_,h,q=>by cases q;exact DO.toM h
 |.w l,_,_,h,q=>by cases q;exact DL.toM h
 |.t _,_,_,_,q=>by cases q
theorem jca:OpR X (bh .Add) (λx y H Q=>∃l b xs zs,x=.ref l/\y=.ref b/\SqL X.K H l xs/\SqL X.K H b zs/\xs.length+zs.length<=au/\∀p,H p=ah->Q (.ref p) (upd H p (.lst (xs++zs)))):=by
 intro pins s σ H x y v u Q I rx ry h;obtain⟨l,b,xs,zs,e1,e2,hH,hB,hz,q⟩:=h;subst e1 e2;cases rx;cases ry;obtain⟨us,ru,⟨⟨c1,d1,f1,g1⟩,n1,h1,k1,w1,m1⟩,_⟩:=I.list hH;obtain⟨vs,rv,⟨⟨c2,d2,f2,g2⟩,n2,h2,k2,w2,m2⟩,_⟩:=I.list hB;have k1:c1=.type "list":=k1;have m1:f1=.seq us.toArray n1:=m1;have k2:c2=.type "list":=k2;have m2:f2=.seq vs.toArray n2:=m2;subst k1 m1 k2 m2;have l1:=ru.length;have l2:=rv.length;have ea:us.toArray++vs.toArray=(us++vs).toArray:=by simp
 refine fR ⟨_,h1,rfl⟩ ⟨_,h2,rfl⟩ noFill_list_add seq_list_add PySem.F.slot_list_add PySem.F.entry_list_add (PySem.F.args_list_add_2 _ _)
  (list_addW l b us.toArray vs.toArray n1 n2 d1 d2 g1 g2 (by rw[X4,X4,<-l1,<-l2];exact hz)) ⟨h1,h2,?_⟩
 rw[ea];exact⟨.ref _,_,I.lnew (t':=s.toks) (ru.append rv) (by rw[X7];exact hz),rfl,q _ I.fresh⟩
theorem DO.catM(ha:DM X ρ a af ds)(hb:DM X ρ b af ds')(hl:ds.length+ds'.length<=au):DO X ρ (.BinOp a .Add b pos) (ds++ds'):=λσ H Q R q =>
 (Vm jca peS peS).to (ha σ H _ R λl xs H1 g1 s1 e1=>hb σ H1 _ (R.grow g1) λl' ys H2 g2 s2 e2 =>
  ⟨l,l',xs,ys,rfl,rfl,g2.seq (Uc s1),Uc s2,by rw[e1.length,e2.length];exact hl,λp hp=>q p _ _ ((g1.trans g2).trans (j8 hp)) ((g1.trans g2).free hp) ju (Wg hp ((e1.mono (jf g2)).append e2))⟩)
theorem DE.catTM(ha:DM X ρ a ae ds)(hb:DM X ρ b ae ds')(hl:ds.length+ds'.length<=au):DE X ρ (.BinOp a .Add b pos) (.tup (ds++ds')):=λσ H Q R q =>
 (Vm j7z peS peS).to (ha σ H _ R λt xs H1 g1 sq l=>hb σ H1 _ (R.grow g1) λt' ys H2 g2 sq' l'=>by
  have l2:=l.mono (jf g2)
  have enT:∀{t:ak}{xs:List V}{ds:List D},SqT X.K H2 t xs->j6 X.K (del H2 (owns ρ)) ds xs->Enc X.K (del H2 (owns ρ)) (.tup ds) (.ref t):=λ{t xs ds} sq l=>by
   refine⟨t,xs,rfl,?_,l⟩
   have ow:=(R.grow (g1.trans g2)).owned
   have out:∀{o:HO},H2 t=aa o->(∀zs,o≠.lst zs)->del H2 (owns ρ) t=aa o:=λ{o} h z=>by
    rw[j5];exact h
    intro y;obtain⟨zs,e'⟩:=ow t y;rw[h]at e';cases e';exact z zs rfl
   rcases sq with (h|⟨o,h⟩)|h
   .exact .inl (.inl (out h λ_ z=>by cases z))
   .exact .inl (.inr ⟨o,out h λ_ z=>by cases z⟩)
   .exact .inr h
  refine⟨t,t',xs,ys,rfl,rfl,g2.seqT (Qc sq),Qc sq',by rw[l.length,l'.length];exact hl,λh=>?_,λh h'=>?_,λh h' p hp=>?_⟩
  .subst h
   cases ds with
   |nil=>exact q _ H2 (g1.trans g2) (enT (Qc sq') l')
   |cons _ _=>have:=l.length;cases this
  .subst h'
   cases ds' with
   |nil=>exact q _ H2 (g1.trans g2) (by rw[Xo];exact enT (g2.seqT (Qc sq)) l2)
   |cons _ _=>have:=l'.length;cases this
  .have np:p∉owns ρ:=(R.grow (g1.trans g2)).fresh hp
   exact q _ _ ((g1.trans g2).trans (j8 hp)) ⟨p,xs++ys,rfl,.inl (.inl (by rw[j5 np];exact ju)),(l2.append l').mono (jf (j8 hp))⟩)
theorem DE.ixM(ha:DM X ρ a s ds)(hb:DT X ρ b (.int i))(h:L2.atI ds i=aa d)(hs:Y4 b):DE X ρ (.Subscript a b pos) d:=by
 cases s with
 |true=>exact λσ H Q R q=>(M7 j15 peS peS hs).to (ha σ H _ R λl xs H1 g1 sq en=>hb σ H1 _ (R.grow g1) λu H2 g2 e2=>by
   obtain⟨y,hy,ey⟩:=en.atI h
   exact⟨l,xs,i,y,rfl,e2,g2.seq (Uc sq),hy,q y H2 (g1.trans g2) (ey.mono (jf g2))⟩)
 |false=>exact λσ H Q R q=>(M7 j52 peS peS hs).to (ha σ H _ R λl xs H1 g1 sq en=>hb σ H1 _ (R.grow g1) λu H2 g2 e2=>by
   obtain⟨y,hy,ey⟩:=en.atI h
   exact⟨l,xs,i,y,rfl,e2,g2.seqT (Qc sq),hy,q y H2 (g1.trans g2) (ey.mono (jf g2))⟩)
variable{lo hi:Option ar}{l u:Option Int}
theorem DO.sliceM(ha:DM X ρ a af ds)(hl:DP X ρ lo l)(hu:DP X ρ hi u):DO X ρ (.Subscript a (.Slice lo hi ah p2) pos) (cutD ds l u):=λσ H Q R q =>
 (Og jbe peS poS poS).to (ha σ H _ R λt xs H1 g1 sq en=>hl σ H1 _ (R.grow g1) λH2 g2=>hu σ H2 _ (R.grow (g1.trans g2)) λH3 g3=>⟨t,xs,rfl,(g2.trans g3).seq (Uc sq),λp hp =>
  q p _ _ ((g1.trans (g2.trans g3)).trans (j8 hp)) ((g1.trans (g2.trans g3)).free hp) ju (Wg hp ((en.mono (jf (g2.trans g3))).cut l u))⟩)
theorem DE.sliceM(ha:DM X ρ a ae ds)(hl:DP X ρ lo l)(hu:DP X ρ hi u)(hw:¬(HT.sIx ds.length 0 l=0/\HT.sIx ds.length ds.length u=ds.length)):DE X ρ (.Subscript a (.Slice lo hi ah p2) pos) (.tup (cutD ds l u)):=λσ H Q R q =>
 (Og jeo peS poS poS).to (ha σ H _ R λt xs H1 g1 sq en=>hl σ H1 _ (R.grow g1) λH2 g2=>hu σ H2 _ (R.grow (g1.trans g2)) λH3 g3=>⟨t,xs,rfl,(g2.trans g3).seqT (Qc sq),by rw[en.length];exact hw,λp hp =>
  q _ _ ((g1.trans (g2.trans g3)).trans (j8 hp)) ⟨p,_,rfl,.inl (.inl (by rw[j5 ((R.grow (g1.trans (g2.trans g3))).fresh hp)];exact ju)),((en.mono (jf (g2.trans g3))).cut l u).mono (jf (j8 hp))⟩⟩)
theorem DE.tupM (ha:DM X ρ a s ds) (hm:X.mg "tuple" = ah) (hg:Gl X "tuple") (hs:ai [a] X.env=[(ae,aB a X.env)]):DE X ρ (.Call (.Name "tuple" p) [a] [] pos) (.tup ds):=λσ H Q R q =>
 (V6 Lh hg hm boot_tuple (jc peS jx hs) (by decide) (by decide) hs).to (ha σ H _ R λl xs H1 g1 sq en=>by
  cases s with
  |true =>
   refine⟨l,xs,rfl,.inl ⟨Uc sq,λt ht=>?_⟩⟩
   have nt:t∉owns ρ:=(R.grow g1).fresh ht
   exact q _ _ (g1.trans (j8 ht)) ⟨t,xs,rfl,.inl (.inl (by rw[j5 nt];exact ju)),en.mono (jf (j8 ht))⟩
  |false =>
   refine⟨l,xs,rfl,.inr ⟨Qc sq,?_⟩⟩
   refine q _ _ g1 ⟨l,xs,rfl,?_,en⟩
   have ow:=(R.grow g1).owned
   have out:∀{o:HO},H1 l=aa o->(∀zs,o≠.lst zs)->del H1 (owns ρ) l=aa o:=λ{o} h z=>by
    rw[j5];exact h
    intro y;obtain⟨zs,e'⟩:=ow l y;rw[h]at e';cases e';exact z zs rfl
   rcases Qc sq with (h|⟨o,h⟩)|h
   .exact .inl (.inl (out h λ_ z=>by cases z))
   .exact .inl (.inr ⟨o,out h λ_ z=>by cases z⟩)
   .exact .inr h)
theorem DO.listM (ha:DM X ρ a s ds) (hm:X.mg "list" = ah) (hg:Gl X "list") (hs:ai [a] X.env=[(ae,aB a X.env)]):DO X ρ (.Call (.Name "list" p) [a] [] pos) ds:=λσ H Q R q =>
 (V6 Eu hg hm boot_list (jc peS jx hs) (by decide) (by decide) hs).to (ha σ H _ R λl xs H1 g1 sq en =>
  ⟨l,xs,rfl,(by cases s with|true=>exact .inl (Uc sq)|false=>exact .inr (Qc sq)),λp hp=>q p _ _ (g1.trans (j8 hp)) (g1.free hp) ju (Wg hp en)⟩)
end
theorem Nz:fillsNumberSlot (.type "tuple") "mul" = pure ae :=
 PySem.fillsNumberSlot_seq (id:="tuple.__mul__") (r:=aa (.builtin "tuple.__rmul__")) PySem.F.slot_tuple_mul.lookup (by decide +kernel) PySem.F.slot_tuple_rmul.lookup (by decide +kernel)
theorem jbv:seqRepeat? (.type "tuple")=pure (aa (.builtin "tuple.__mul__")):=by
 unfold seqRepeat?;rw[iB (T:="tuple") (name:="__mul__") (id:="tuple.__mul__") PySem.F.slot_tuple_mul.lookup (by decide +kernel),
  iB (T:="tuple") (name:="__rmul__") (id:="tuple.__rmul__") PySem.F.slot_tuple_rmul.lookup (by decide +kernel)]
 rfl
section
variable(a:Int)(t:dz)(l:ak)(its:Array aj)(n:Nat)(d1:Option ak)(sl:Array (Option aj))
theorem Io:jV (bV.«int.__rmul__» ⟨[.int a t,.ref l],[]⟩) (λ_ R s=>s.heap.get? l=aa ⟨.type "tuple",d1,.seq its n,sl⟩/\R (.ok (.ret Value.notImplemented)) s) :=
 .of_wp λ_ _ _ _ s h=>by
  obtain⟨_,_,_,_,_⟩:=s;obtain⟨hl,h⟩:=h
  wp_walk
  exact⟨_,rfl,h⟩
theorem j6v:jV (bV.«tuple.__mul__» ⟨[.ref l,.int 1 t],[]⟩) (λ_ R s=>s.heap.get? l=aa ⟨.type "tuple",d1,.seq its n,sl⟩/\R (.ok (.ret (.ref l))) s) :=
 .of_wp λ_ _ _ _ s h=>by
  obtain⟨_,_,_,_,_⟩:=s;obtain⟨hl,h⟩:=h
  wp_walk
  exact⟨_,rfl,h⟩
theorem j6u(h0:its.isEmpty=ae)(h1:1<a)(h2:a<2^63)(hz:its.size*a.toNat<=au) :
  jV (bV.«tuple.__mul__» ⟨[.ref l,.int a t],[]⟩) (λ_ R s=>s.heap.get? l=aa ⟨.type "tuple",d1,.seq its n,sl⟩ /\
   R (.ok (.ret (.ref s.heap.objs.size))) { s with heap:=s.heap.push { cls:=.type "tuple",data:=.seq (cN (λx y=>x++y) #[] (az a.toNat its)) } }) :=
 .of_wp λ_ _ _ _ s h=>by
  obtain⟨_,_,_,_,_⟩:=s;obtain⟨hl,h⟩:=h;have c1:(decide (a < -2^63) || decide (a>=2^63))=ae:=by rw[decide_eq_false nofun,decide_eq_false nofun];rfl
  have c2:(its.isEmpty || a==1)=ae:=by rw[h0,beq_eq_false_iff_ne.mpr nofun];rfl
  have c3:(decide (a<=0) || its.isEmpty)=ae:=by rw[h0,decide_eq_false nofun];rfl
  have ea:((its.size*a.toNat:Nat):Int)=(its.size:Int)*a:=by rw[Int.natCast_mul,Int.toNat_of_nonneg nofun]
  have hz':(its.size:Int)*a<=(au:Int):=by rw[<-ea];exact Int.ofNat_le.mpr hz
  have c4:¬(its.size:Int)*a>(2^63-1)/8:=by
   have:(au:Int)<=(2^63-1)/8:=by decide
   omega
  have c5:eQ ((its.size:Int)*a)=ae:=by unfold eQ;exact decide_eq_false nofun
  have c6:(cN (λx y=>x++y) #[] (az a.toNat its)).size<=au:=by rw[AutoListH.size_joined,Array.size_empty,Th,fk];exact hz
  wp_walk
  rw[c1]
  wp_walk
  rw[c2]
  wp_walk
  rw[c3]
  wp_walk
  rw[if_neg c4]
  wp_walk
  exact⟨_,rfl,h⟩
end
theorem jc8{X:Cx}:OpR X (bh .Mult) (λx y H Q=>∃a k xs,x=.ref a/\y=.int k/\SqT X.K H a xs/\xs≠[]/\1<=k/\k<2^63/\xs.length*k.toNat<=au /\
  (k=1->Q (.ref a) H)/\(1<k->∀p,H p=ah->Q (.ref p) (upd H p (.tup (az k.toNat xs).flatten)))):=by
 intro pins s σ H x y v u Q I rx ry h;obtain⟨a,k,xs,e1,e2,sq,hne,h1,h2,hz,q1,q2⟩:=h;subst e1 e2;cases rx;obtain⟨t,e⟩:=ry;subst e;obtain⟨us,ru,⟨⟨c1,d1,f1,g1⟩,p1,k1,n1,m1⟩,_⟩:=I.tuple sq;have k1:c1=.type "tuple":=k1;have m1:f1=.seq us.toArray n1:=m1;subst k1 m1;have lu:=ru.length;have hne':us.toArray.isEmpty=ae:=by
  cases us with
  |nil=>cases ru;exact absurd rfl hne
  |cons _ _=>simp
 refine gT (T:="tuple") (U:="int") (by decide) ⟨_,p1,rfl⟩ (λs'=>fG s' k t) Nz jO eG jbv F.slot_int_index.lookup
  (bE eG (fG s k t) jC (ja _ _) (Io k t a us.toArray n1 d1 g1) ⟨p1,rfl,⟨_,p1,rfl⟩,?_⟩)
 by_cases hk:k=1
 .subst hk;exact bE jB ⟨_,p1,rfl⟩ j3 (iP _ _) (j6v t a us.toArray n1 d1 g1) ⟨p1,⟨.ref a,H,I,rfl,q1 rfl⟩⟩
 .have hz':us.toArray.size*k.toNat<=au:=by rw[X4,<-lu];exact hz
  refine bE jB ⟨_,p1,rfl⟩ j3 (iP _ _) (j6u k t a us.toArray n1 d1 g1 hne' nofun h2 hz') ⟨p1,?_⟩;have hnew:cN (λx1 x2=>x1++x2) #[] (az k.toNat us.toArray)=(az k.toNat us).flatten.toArray:=by have:=foldl_rep us k.toNat [];rw[Tj]at this;exact this
  rw[hnew];refine⟨.ref _,_,I.laid (t':=s.toks) (λb o e=>kj _ e) (X6 _) ?_,rfl,q2 nofun _ I.fresh⟩;exact⟨by rw[len_rep,fk];exact hz,_,ru.rep k.toNat,IsTup.new _ _,Zj.new _ _⟩
theorem DE.repT{X:Cx}{ρ:Rho}{a b:ar}{ds:List D}{k:Int}{pos:aP}(ha:DM X ρ a ae ds)(hb:DT X ρ b (.int k))(hne:ds≠[])(h1:1<=k)(h2:k<2^63)(hl:ds.length*k.toNat<=au) :
  DE X ρ (.BinOp a .Mult b pos) (.tup (az k.toNat ds).flatten):=λσ H Q R q =>
 (Vm jc8 peS peS).to (ha σ H _ R λt xs H1 g1 sq l=>hb σ H1 _ (R.grow g1) λu H2 g2 e2=>by
  have l2:=l.mono (jf g2)
  refine⟨t,k,xs,rfl,e2,g2.seqT (Qc sq),?_,h1,h2,by rw[l.length];exact hl,λh=>?_,λh p hp=>?_⟩
  .intro z;subst z
   cases ds with
   |nil=>exact hne rfl
   |cons _ _=>have:=l.length;cases this
  .subst h
   have e:(az (1:Int).toNat ds).flatten=ds:=by simp
   rw[e]at q
   refine q _ H2 (g1.trans g2) ⟨t,xs,rfl,?_,l2⟩
   have ow:=(R.grow (g1.trans g2)).owned
   have out:∀{o:HO},H2 t=aa o->(∀zs,o≠.lst zs)->del H2 (owns ρ) t=aa o:=λ{o} h z=>by
    rw[j5];exact h
    intro y;obtain⟨zs,e'⟩:=ow t y;rw[h]at e';cases e';exact z zs rfl
   rcases g2.seqT (Qc sq)with (h|⟨o,h⟩)|h
   .exact .inl (.inl (out h λ_ z=>by cases z))
   .exact .inl (.inr ⟨o,out h λ_ z=>by cases z⟩)
   .exact .inr h
  .have np:p∉owns ρ:=(R.grow (g1.trans g2)).fresh hp
   exact q _ _ ((g1.trans g2).trans (j8 hp)) ⟨p,_,rfl,.inl (.inl (by rw[j5 np];exact ju)),(l2.rep k.toNat).mono (jf (j8 hp))⟩)
section
variable{X:Cx}{ρ:Rho}{a:ar}{m k:Bool}{d:D}{n:Nat}{pos p2:aP}
end
end L2
end
section
namespace PySem
open Sem (wp)
namespace F
end F
section
variable{prog:ay}{w:aD}{A:aG}{E:k7h}{s:aq}{I:ak}{fp wr:List ak}{G:Array f6->Array f6->Prop}{n:Nat}{P:Nat->aj->Prop}{St:Nat->aq->Prop}
end
end PySem
namespace L2
open PySem PySem.Spec PyProof.Rows
section
variable{X:Cx}{ρ:Rho}{a:ar}{ds:List D}{p p1 p2 p3 pos:aP}
end
noncomputable def Sl.abs:Sl->Sv
 |.un=>.un
 |.val d=>.val d
 |.own _ l=>.own l
 |.raw _ _ x=>.exc x
noncomputable def j7(ρ:Rho):En:=ρ.map Sl.abs
theorem Ov{ρ:Rho}{i:Nat}:(j7 ρ)[i]?=(ρ[i]?).map Sl.abs:=Xa ..
theorem Ou{ρ:Rho}{i:Nat}{d:D}(h:(j7 ρ)[i]?=aa (.val d)):ρ[i]?=aa (.val d):=by
 rw[Ov]at h;cases e:ρ[i]? with
 |none=>rw[e]at h;cases h
 |some s=>rw[e]at h;cases s<;>cases h;rfl
theorem je0{ρ:Rho}{i:Nat}(h:(j7 ρ)[i]?=aa .un):ρ[i]?=aa .un:=by
 rw[Ov]at h;cases e:ρ[i]? with
 |none=>rw[e]at h;cases h
 |some s=>rw[e]at h;cases s<;>cases h;rfl
theorem Jj{ρ:Rho}{i:Nat}{l:List D}(h:(j7 ρ)[i]?=aa (.own l)):∃a,ρ[i]?=aa (.own a l):=by
 rw[Ov]at h;cases e:ρ[i]? with
 |none=>rw[e]at h;cases h
 |some s=>rw[e]at h;cases s<;>cases h;exact⟨_,rfl⟩
theorem jq{ρ:Rho}{i:Nat}{s:Sl}:j7 (ρ.set i s)=(j7 ρ).set i s.abs:=List.map_set ..
noncomputable def Bop.op:Bop->iT
 |.add=>.Add
 |.sub=>.Sub
 |.mul=>.Mult
 |.fdiv=>.FloorDiv
 |.mod=>.Mod
 |.pow=>.Pow
 |.shl=>.LShift
 |.shr=>.RShift
 |.band=>.BitAnd
 |.bxor=>.BitXor
noncomputable def Cop.op:Cop->gn
 |.lt=>.Lt
 |.le=>.LtE
 |.gt=>.Gt
 |.ge=>.GtE
 |.eq=>.Eq
 |.ne=>.NotEq
 |.isin=>.In
 |.notin=>.NotIn
noncomputable def Bf.name:Bf->ao
 |.len=>"len"
 |.min=>"min"
 |.max=>"max"
 |.all=>"all"
 |.tuple=>"tuple"
 |.list=>"list"
 |.sum=>"sum"
 |.int=>"int"
 |.any=>"any"
 |.sorted=>"sorted"
noncomputable def Vc:List ao:=["len","min","max","all","tuple","list","sum","int","any","sorted","isinstance","bool","str","range","zip","enumerate","reversed","ValueError","set","dict"]
noncomputable def Va(x:ao):Bool:=x.cps.toList.head?==aa 33 || x.cps.toList.head?==aa 63
inductive Nd where
 |e (x:ar)
 |b (x:ar)
 |w (x:ar)
 |a (xs:List ar)
 |i (tg it:ar)
 |o (x:Option ar)
 |c (xs:List ar)
 |p (xs:List ar)
structure Cok(X:Cx)(G:ao->Option D):Prop where
 un':X.A.units+100<bF
 un:X.calm=af->X.A.units+150<bF
 dp:X.calm=af->X.A.depth+4<eV
 bt:∀x∈Vc,X.mg x=ah
 gl:∀x d,Va x=ae->G x=aa d->∃u v,X.mg x=aa u/\RelV v u/\∀H,Enc X.K H d v
 nd:X.N.Nodup
 po:eF (aA X.prog X.w) X.A X.env X.xe
 ea:Mi X.K=af
 ec:∀x d,G (bang x)=aa d->x∈J4/\∃o,W.nsIn X.K aw x=aa (aa o)
 el:G "?" = aa (.bl af)->∀c∈J4,∃v,W.nsIn X.K aw c=aa (aa v)
 kin:X.K.In X.base
 ns:X.base.Ns aw X.mg
 kd:∀x l,G (bang x)=aa (.lst l)->Kinds X "_law_kinds" x l
 fn:∀f d,G (qm f)=aa d->∃fa,X.mg f=aa (.ref fa)/\W.keepIn X.K (.ref fa)=af
 pl:∀d,G (qm "_law_plan")=aa d->Cal X "_law_plan" (jen X.K ja3)
 pc:∀d,G (qm "Pieces")=aa d->∃C,X.mg "Pieces" = aa (.ref C)/\PcX X C
 lm:∀x∈Vf,X.env.qual=x ++ ".<locals>."->∃c P,X.env.code=.ref c/\W.codeHdIn X.K c P=af/\W.tabIn X.K x=aa (c,P)
def Gok(X:Cx)(Γ:ao->List D->Rc):Prop:=∀f ds,match Γ f ds with
 |.val d=>Cal X f (spP X.K λds' d'=>ds'=ds/\d'=d)
 |.fresh l=>Cal X f (spF X.K λds' l'=>ds'=ds/\l'=l)
 |.err x=>CalX X f (spX X.K X.mg λds' y=>ds'=ds/\y=x)
 |.lval d=>∀x,f=zx x->∃k,Room k X.A/\j3g X.prog X.w X.K X.mg X.base k x λds' d'=>ds'=ds/\d'=d
 |.mval d k'=>∀g ls (k:Nat) ds',f=mq g->ds=.lst (ls.map D.str)::.int (k:Int)::ds'->∀C,X.mg "Pieces" = aa (.ref C)->CalM X g C λls2 k2 ds2 d2 k2'=>ls2=ls/\k2=k/\ds2=ds'/\d2=d/\k2'=k'
 |.merr x=>∀g ls (k:Nat) ds',f=mq g->ds=.lst (ls.map D.str)::.int (k:Int)::ds'->∀C,X.mg "Pieces" = aa (.ref C)->CalMX X g C λls2 k2 ds2 x2=>ls2=ls/\k2=k/\ds2=ds'/\x2=x
 |.no=>True
theorem Cok.comp{X:Cx}{G:ao->Option D}{scope:bG}{C:ak}{s:aq}{H:Hp}{fp:List ak}{pn:k7i}(h:Cok X G):Cok (cCx X scope C s H fp pn) G:=⟨h.un',h.un,h.dp,h.bt,h.gl,h.nd,bQ,h.ea,h.ec,h.el,h.kin,h.ns,h.kd,h.fn,λd e=>Cal.comp (h.pl d e),λd e=>let ⟨C,h1,h2⟩:=h.pc d e;⟨C,h1,⟨h2.ex⟩⟩,h.lm⟩
theorem Gok.comp{X:Cx}{Γ:ao->List D->Rc}{scope:bG}{C:ak}{s:aq}{H:Hp}{fp:List ak}{pn:k7i}(h:Gok X Γ):Gok (cCx X scope C s H fp pn) Γ:=λf ds=>by
 have q:=h f ds;cases e:Γ f ds with
 |val d=>rw[e]at q;exact Cal.comp q
 |fresh l=>rw[e]at q;exact Cal.comp q
 |err x=>rw[e]at q;exact⟨q.ex⟩
 |lval d=>rw[e]at q;exact q
 |mval d k=>rw[e]at q;exact λg ls k ds' h1 h2 C h3=>⟨(q g ls k ds' h1 h2 C h3).ex⟩
 |merr x=>rw[e]at q;exact λg ls k ds' h1 h2 C h3=>⟨(q g ls k ds' h1 h2 C h3).ex⟩
 |no=>trivial
inductive HasA(X:Cx)(ρ:Rho):List ar->List Rk->Prop where
 |nil:HasA X ρ [] []
 |cons {a:ar} {es:List ar} {r:Rk} {rs:List Rk} (hs:ai (a::es) X.env=(ae,aB a X.env)::ai es X.env):Has X ρ a r->HasA X ρ es rs->HasA X ρ (a::es) (r::rs)
section
variable{X:Cx}{ρ:Rho}{es:List ar}{rs:List Rk}
theorem HasA.toA:∀{es:List ar}{rs:List Rk}{ds:List D},HasA X ρ es rs->J0 rs=aa ds->DA X ρ es ds
 |_,_,_,.nil,q=>by cases q;exact DA.nil
 |_,_,ds,.cons (r:=r) (rs:=rs) hs h t,q=>by
  unfold J0 at q;cases e1:r.st with
  |none=>rw[e1]at q;cases q
  |some d =>
   cases e2:J0 rs with
   |none=>rw[e1,e2]at q;cases q
   |some ds'=>rw[e1,e2]at q;cases q;exact DA.cons (h.toE e1) (t.toA e2) hs
theorem HasA.toT:∀{es:List ar}{rs:List Rk},HasA X ρ es rs->DTA X ρ es (rs.map Rk.d)
 |_,_,.nil=>DTA.nil
 |_,_,.cons hs h t=>DTA.cons h.toT t.toT hs
theorem DO.unfrz{e:ar}{i:Nat}{a:ak}{l ds:List D}(hk:ρ[i]?=aa (.own a l))(h:DO X (ρ.set i (.val (.lst l))) e ds)(hn:qj ds=af):DO X ρ e ds:=λσ H Q R q =>
 h σ H Q (R.freeze hk) λb xs H' g n m en=>q b xs H' g n m ((en.mono jj).hide (λc hc=>by
  rcases xr.mp hc with z|z
  .rw[z];exact .inl ⟨xs,m⟩
  .exact .inl ((R.grow g).owned c z)) hn)
end
theorem N6{f:D->Option (Option D)}:∀{ds l:List D},Jm f ds=aa l ->
  l=(ds.filter (λd=>(f d).join.isSome)).map (λd=>(f d).join.getD .non)/\∀d∈ds,∃o,f d=aa o
 |[],l,h=>by cases h;exact⟨rfl,λd hd=>nomatch hd⟩
 |d::ds,l,h=>by
  unfold Jm at h;cases e1:f d with
  |none=>rw[e1]at h;cases h
  |some o =>
   cases e2:Jm f ds with
   |none=>rw[e1,e2]at h;cases o<;>cases h
   |some xs =>
    rw[e1,e2]at h;obtain⟨q1,q2⟩:=N6 e2;have mem:∀d'∈d::ds,∃o,f d'=aa o:=λd' hd=>by
     rcases xr.mp hd with z|z
     .subst z;exact⟨o,e1⟩
     .exact q2 d' z
    cases o with
    |none=>cases h;exact⟨by rw[gw (by rw[e1];simp)];exact q1,mem⟩
    |some x=>cases h;exact⟨by rw[gv (by rw[e1];rfl),X5,<-q1,e1];rfl,mem⟩
section
variable{X:Cx}{ρ:Rho}{a b:ar}{d da db:D}{ds ds':List D}{pos:aP}{k:Bool}
theorem j55 {t c:String} (h:qy t c=aa k):t ≠ "function":=λz=>by unfold qy at h;rw[if_pos z]at h;cases h
theorem j12{K:k7g}{c:String}(h:qy d.ty c=aa k):W.kitOne K (.type d.ty) (.type c)=aa k:=by
 have nf:d.ty ≠ "function":=j55 h;unfold qy at h;rw[if_neg nf]at h;by_cases h1:c = "int"
 .subst h1;cases d<;>first|exact absurd rfl nf|(simp[D.ty]at h;subst h;kernel_rfl)
 rw[if_neg h1]at h;by_cases h2:c = "bool"
 .subst h2;cases d<;>first|exact absurd rfl nf|(simp[D.ty]at h;subst h;kernel_rfl)
 rw[if_neg h2]at h;by_cases h3:c = "str"
 .subst h3;cases d<;>first|exact absurd rfl nf|(simp[D.ty]at h;subst h;kernel_rfl)
 rw[if_neg h3]at h;by_cases h4:c = "list"
 .subst h4;cases d<;>first|exact absurd rfl nf|(simp[D.ty]at h;subst h;kernel_rfl)
 rw[if_neg h4]at h;by_cases h5:c = "tuple"
 .subst h5;cases d<;>first|exact absurd rfl nf|(simp[D.ty]at h;subst h;kernel_rfl)
 rw[if_neg h5]at h;cases h
theorem j18 {c:String} {cs:List String} (h:qe d (c::cs)=aa k):d.ty ≠ "function":=by
 unfold qe at h;split at h
 .rename_i e _;exact j55 e
 .cases h
theorem Ik{K:k7g}:∀{cs:List String}{k:Bool},qe d cs=aa k->W.kitAny K (.type d.ty) (cs.map cC)=aa k
 |[],k,h=>by cases h;rfl
 |c::cs,k,h=>by
  unfold qe at h;cases e1:qy d.ty c with
  |none=>rw[e1]at h;cases h
  |some x =>
   cases e2:qe d cs with
   |none=>rw[e1,e2]at h;cases h
   |some y =>
    rw[e1,e2]at h;cases h;rw[X5,W.kitAny,j12 e1];cases x with
    |true=>simp
    |false=>simp;exact Ik e2
theorem DE.neD(s:Bool)(hu:X.A.units+100<bF)(ha:DT X ρ a (D.seq s ds))(hb:DT X ρ b (D.seq s ds'))(hd:D.depL ds<=98)(nd:D.depL ds'<10000):DE X ρ (.Compare a [.NotEq] [b] pos) (.bl (!vy ds ds')):=λσ H Q R q =>(Jo (j4h hu) peS peS (zb _)).to (ha σ H _ R λv H1 g1 e1=>hb σ H1 _ (R.grow g1) λu H2 g2 e2=>⟨ds,ds',s,e1.mono g2,e2,hd,nd,q _ H2 (g1.trans g2) rfl⟩)
theorem DE.notIn(s:Bool)(hu:X.A.units+100<bF)(ha:DT X ρ a d)(hb:DT X ρ b (D.seq s ds))(hd:D.depL ds<=98)(nd:d.dep<10000)(hm:aO .NotIn b=ae):DE X ρ (.Compare a [.NotIn] [b] pos) (.bl (!ds.any λe=>deq e d)):=λσ H Q R q =>(Jo (Dp hu) peS peS hm).to (ha σ H _ R λv H1 g1 e1=>hb σ H1 _ (R.grow g1) λu H2 g2 e2=>⟨d,ds,s,e1.mono g2,e2,hd,nd,q _ H2 (g1.trans g2) rfl⟩)
theorem DE.in(s:Bool)(hu:X.A.units+100<bF)(ha:DT X ρ a d)(hb:DT X ρ b (D.seq s ds))(hd:D.depL ds<=98)(nd:d.dep<10000)(hm:aO .In b=ae):DE X ρ (.Compare a [.In] [b] pos) (.bl (ds.any λe=>deq e d)):=λσ H Q R q =>(Jo (j4i hu) peS peS hm).to (ha σ H _ R λv H1 g1 e1=>hb σ H1 _ (R.grow g1) λu H2 g2 e2=>⟨d,ds,s,e1.mono g2,e2,hd,nd,q _ H2 (g1.trans g2) rfl⟩)
theorem Nr:∀{b:D}{s:Bool}{l:List D},b.sqv=aa (s,l)->b=D.seq s l
 |.lst _,_,_,h=>by cases h;rfl
 |.dct _ _,_,_,h=>by cases h
 |.sct _,_,_,h=>by cases h
 |.fn _ _,_,_,h=>by cases h
 |.tup _,_,_,h=>by cases h;rfl
 |.non,_,_,h=>by cases h
 |.bl _,_,_,h=>by cases h
 |.int _,_,_,h=>by cases h
 |.str _,_,_,h=>by cases h
theorem j37{op:Cop}{i j:Int}(h:cmpI op i j=aa k)(ha:DT X ρ a (.int i))(hb:DT X ρ b (.int j)):DE X ρ (.Compare a [op.op] [b] pos) (.bl k)/\DB X ρ (.Compare a [op.op] [b] pos) k:=by
 cases op<;>(first|(cases h;done)|skip)
 .cases h;exact⟨DE.lt ha hb,DB.lt ha hb⟩
 .cases h;exact⟨DE.le ha hb,DB.le ha hb⟩
 .cases h;exact⟨DE.gt ha hb,DB.gt ha hb⟩
 .cases h;exact⟨DE.ge ha hb,DB.ge ha hb⟩
 .cases h;exact⟨DE.eqI ha hb,DB.eqI ha hb⟩
 .cases h;exact⟨DE.neI ha hb,DB.neI ha hb⟩
theorem Cj{op:Cop}(hu:X.A.units+100<bF)(h:Ja op da db=aa k)(ha:DT X ρ a da)(hb:DT X ρ b db)(hm:aO op.op b=ae) :
  DE X ρ (.Compare a [op.op] [b] pos) (.bl k)/\DB X ρ (.Compare a [op.op] [b] pos) k:=by
 have inn:∀{r:Bool->Bool},(match db.sqv with|some (_,l)=>if D.depL l<=90/\da.dep<=90 then aa (r (l.any λe=>deq e da))else ah|none=>ah)=aa k->∃s l,DT X ρ b (D.seq s l)/\D.depL l<=98/\da.dep<10000/\k=r (l.any λe=>deq e da):=λ{r} h=>by
  cases e:db.sqv with
  |none=>rw[e]at h;cases h
  |some p =>
   obtain⟨s,l⟩:=p;rw[e]at h;have h:(if D.depL l<=90/\da.dep<=90 then aa (r (l.any λe=>deq e da))else ah)=aa k:=h;by_cases z:D.depL l<=90/\da.dep<=90
   .rw[if_pos z]at h;cases h;exact⟨s,l,Nr e▸hb,by omega,by omega,rfl⟩
   .rw[if_neg z]at h;cases h
 unfold Ja at h;split at h
 .exact j37 h ha hb
 .by_cases z:da.dep<=90/\db.dep<=90
  .rw[if_pos z]at h;cases h;exact⟨DE.eqD hu ha hb nofun nofun,DB.eqD hu ha hb nofun nofun⟩
  .rw[if_neg z]at h;cases h
 .cases h;exact⟨DE.neB ha hb,DB.neB ha hb⟩
 .cases h;exact⟨(DE.neS ha hb).eq (by rw[Ei]),(DB.neS ha hb).eq (by rw[Ei])⟩
 .cases h;exact⟨(DE.neS ha hb).eq (by simp),(DB.neS ha hb).eq (by simp)⟩
 .rename_i l m;by_cases z:D.depL l<=90/\D.depL m<=90
  .rw[if_pos z]at h;cases h;exact⟨DE.neD af hu ha hb nofun nofun,DB.neD af hu ha hb nofun nofun⟩
  .rw[if_neg z]at h;cases h
 .rename_i l m;by_cases z:D.depL l<=90/\D.depL m<=90
  .rw[if_pos z]at h;cases h;exact⟨DE.neD ae hu ha hb nofun nofun,DB.neD ae hu ha hb nofun nofun⟩
  .rw[if_neg z]at h;cases h
 .cases h;exact⟨DE.inS ha hb hm,DB.inS ha hb hm⟩
 .cases h;exact⟨DE.ltS ha hb,DB.ltS ha hb⟩
 .cases h;exact⟨DE.gtS ha hb,DB.gtS ha hb⟩
 .obtain⟨s,l,hb,hd,nd,e⟩:=inn (r:=id) h;subst e;exact⟨DE.in s hu ha hb hd nd hm,DB.in s hu ha hb hd nd hm⟩
 .obtain⟨s,l,hb,hd,nd,e⟩:=inn (r:=(!·)) h;subst e;exact⟨DE.notIn s hu ha hb hd nd hm,DB.notIn s hu ha hb hd nd hm⟩
 .cases h
theorem DE.shr{i j:Int}(ha:DT X ρ a (.int i))(hb:DT X ρ b (.int j))(h:0<=j):DE X ρ (.BinOp a .RShift b pos) (.int (i/2^j.toNat)):=DE.arI (g:=λi j=>i/2^j.toNat) jfs ha hb h
theorem jz{α:Type}{c:Prop}[Decidable c]{x y:α}(h:(if c then aa x else ah)=aa y):c/\x=y:=by
 by_cases z:c
 .rw[if_pos z]at h;exact⟨z,aC h⟩
 .rw[if_neg z]at h;cases h
theorem j3a{op:Bop}{i j n:Int}(h:binI op i j=aa n)(ha:DT X ρ a (.int i))(hb:DT X ρ b (.int j)):DE X ρ (.BinOp a op.op b pos) (.int n):=by
 cases op
 .cases h;exact DE.add ha hb
 .cases h;exact DE.sub ha hb
 .obtain⟨z,e⟩:=jz h;subst e;exact DE.mul ha hb z
 .obtain⟨z,e⟩:=jz h;subst e;exact DE.fdivB ha hb z
 .obtain⟨z,e⟩:=jz h;subst e;exact DE.mod ha hb z
 .obtain⟨z,e⟩:=jz h;subst e;exact DE.pow ha hb z
 .obtain⟨z,e⟩:=jz h;subst e;exact DE.shl ha hb z
 .obtain⟨z,e⟩:=jz h;subst e;exact DE.shr ha hb z
 .cases h;exact DE.arI0 jfy ha hb
 .cases h;exact DE.arI0 jfq ha hb
theorem qx{n:Nat}(h:jm n=af):n<=au:=of_decide_eq_true h
end
section
variable{X:Cx}{ρ:Rho}{a b e:ar}{es:List ar}{d:D}{pos p:aP}
theorem Has.lw:∀{r:Rk}{l:List D},Has X ρ a r->r.lw=aa l->DL X ρ a l
 |.o l,_,h,q=>by cases q;exact DO.toL h
 |.w l,_,h,q=>by cases q;exact h
 |.e _,_,_,q=>by cases q
 |.t _,_,_,q=>by cases q
theorem j6d{op:Bop}{x y r:Rk}(h:U4 op x y=aa r)(ha:Has X ρ a x)(hb:Has X ρ b y):Has X ρ (.BinOp a op.op b pos) r:=by
 unfold U4 at h;split at h
 .rename_i i j e1 e2;cases z:binI op i j with
  |none=>rw[z]at h;cases h
  |some n=>rw[z]at h;cases h;exact j3a z (e1▸ha.toT) (e2▸hb.toT)
 .rename_i y z e1 e2;split at h
  .obtain⟨q,e⟩:=jz h;subst e;exact DE.catS (e1▸ha.toT) (e2▸hb.toT) (qx q)
  .cases h
 .rename_i y k e1 e2;split at h
  .obtain⟨q,e⟩:=jz h;subst e;exact DE.mulS (e1▸ha.toT) (e2▸hb.toT) q.1 q.2
  .cases h
 .split at h
  .rename_i l m _ e1 e2;obtain⟨z,q⟩:=jz h;subst q;exact DO.catM (ha.toM e1) (hb.toM e2) (qx z)
  .rename_i l m _ e1 e2;obtain⟨z,q⟩:=jz h;subst q;exact DE.catTM (ha.toM e1) (hb.toM e2) (qx z)
  .rename_i l k _ _ e1 e3;obtain⟨z,q⟩:=jz h;subst q;exact DE.repT (ha.toM e1) (e3▸hb.toT) (λe=>by subst e;exact absurd z.2.2.1 (by simp)) z.1 z.2.1 (qx z.2.2.2)
  .rename_i k _ _ _ e3 _;cases e:x.lw with
   |none=>rw[e]at h;cases h
   |some l =>rw[e]at h;obtain⟨z,q⟩:=jz h;subst q;exact DO.rep (ha.lw e) (e3▸hb.toT) z.1 z.2.1 (qx z.2.2)
  .cases h
theorem Wn:∀{l:List D}{bs:List Bool},boolsOf l=aa bs->l=bs.map D.bl
 |[],_,h=>by cases h;rfl
 |.bl b::r,bs,h=>by
  unfold boolsOf at h;cases e:boolsOf r with
  |none=>rw[e]at h;cases h
  |some q=>rw[e]at h;cases h;rw[Wn e];rfl
 |.non::_,_,h=>by cases h
 |.int _::_,_,h=>by cases h
 |.str _::_,_,h=>by cases h
 |.tup _::_,_,h=>by cases h
 |.lst _::_,_,h=>by cases h
 |.dct _ _::_,_,h=>by cases h
 |.sct _::_,_,h=>by cases h
 |.fn _ _::_,_,h=>by cases h
theorem Qd:∀{l:List D}{bs:List Int},intsOf l=aa bs->l=bs.map D.int
 |[],_,h=>by cases h;rfl
 |.int b::r,bs,h=>by
  unfold intsOf at h;cases e:intsOf r with
  |none=>rw[e]at h;cases h
  |some q=>rw[e]at h;cases h;rw[Qd e];rfl
 |.non::_,_,h=>by cases h
 |.bl _::_,_,h=>by cases h
 |.str _::_,_,h=>by cases h
 |.tup _::_,_,h=>by cases h
 |.lst _::_,_,h=>by cases h
 |.dct _ _::_,_,h=>by cases h
 |.sct _::_,_,h=>by cases h
 |.fn _ _::_,_,h=>by cases h
theorem Ys:∀{l:List D}{bs:List ao},strsOf l=aa bs->l=bs.map D.str
 |[],_,h=>by cases h;rfl
 |.str b::r,bs,h=>by
  unfold strsOf at h;cases e:strsOf r with
  |none=>rw[e]at h;cases h
  |some q=>rw[e]at h;cases h;rw[Ys e];rfl
 |.non::_,_,h=>by cases h
 |.bl _::_,_,h=>by cases h
 |.int _::_,_,h=>by cases h
 |.tup _::_,_,h=>by cases h
 |.lst _::_,_,h=>by cases h
 |.dct _ _::_,_,h=>by cases h
 |.sct _::_,_,h=>by cases h
 |.fn _ _::_,_,h=>by cases h
theorem J2{w:Option W}{k:Bool}(h:truth w=aa k):∃r,w=aa (.v r)/\r.d=.bl k:=by
 unfold truth at h;split at h
 .rename_i r;split at h
  .rename_i q e;cases h;exact⟨r,rfl,e⟩
  .cases h
 .cases h
def j01(X:Cx)(ρ:Rho):List ar->List Rk->Prop
 |[],[]=>True
 |e::es,r::rs=>(∀y,Zy r.d=aa y->DE X ρ e (.str y))/\j01 X ρ es rs
 |_,_=>False
theorem j01.all{X:Cx}{ρ:Rho}:∀{es:List ar}{rs:List Rk}{ys:List ao},j01 X ρ es rs->Qh rs=aa ys->DPs X ρ es ys/\ys.length=rs.length
 |[],[],ys,_,q=>by cases q;exact⟨trivial,rfl⟩
 |e::es,r::rs,ys,h,q=>by
  unfold Qh at q;cases e1:Zy r.d with
  |none=>rw[e1]at q;cases q
  |some y =>
   cases e2:Qh rs with
   |none=>rw[e1,e2]at q;cases q
   |some ys' =>rw[e1,e2]at q;cases q;obtain⟨z1,z2⟩:=j01.all h.2 e2;exact⟨⟨h.1 y e1,z1⟩,by rw[xx,xx,z2]⟩
 |[],_::_,_,h,_=>h.elim
 |_::_,[],_,h,_=>h.elim
theorem log2_small{i:Int}(h:-18446744073709551616<i/\i<18446744073709551616):i.natAbs.log2<1920:=by
 by_cases z:i.natAbs=0
 .rw[z];decide
 .have e:(2:Nat)^64=18446744073709551616:=by decide
  have:i.natAbs.log2<64:=(kZ z).mpr (by rw[e];omega);omega
theorem j3x{d:D}{y:ao}(h:Zy d=aa y):y.length<=10000:=by
 cases d with
 |int i =>
  simp only[Zy]at h;split at h
  .rename_i q;cases h;have:=int_text_length_le (k:=1920) (by decide) (log2_small q);rw[PySem.ofString_length];omega
  .cases h
 |str z =>
  simp only[Zy]at h;split at h
  .rename_i q;cases h;exact q
  .cases h
 |_=>cases h
theorem Mv:∀{rs:List Rk}{ys:List ao},Qh rs=aa ys->∀y∈ys,y.length<=10000
 |[],_,q=>by cases q;exact λy hy=>nomatch hy
 |r::rs,ys,q=>by
  unfold Qh at q;cases e1:Zy r.d with
  |none=>rw[e1]at q;cases q
  |some y =>
   cases e2:Qh rs with
   |none=>rw[e1,e2]at q;cases q
   |some ys' =>
    rw[e1,e2]at q;cases q;intro z hz;rcases xr.mp hz with rfl|hz
    .exact j3x e1
    .exact Mv e2 z hz
theorem DE.fmt{X:Cx}{ρ:Rho}{a:ar}{d:D}{y:ao}{pos:aP}(ha:DT X ρ a d)(h:Zy d=aa y):DE X ρ (.FormattedValue a (-1) ah pos) (.str y):=by
 cases d with
 |int i =>
  simp only[Zy]at h;split at h
  .rename_i q;cases h;exact DE.fmtI ha (log2_small q)
  .cases h
 |str z =>
  simp only[Zy]at h;split at h
  .rename_i q;cases h;exact DE.fmtS ha (by rw[cg];omega)
  .cases h
 |_=>cases h
def jio(Γ:ao->List D->Rc)(G:ao->Option D)(X:Cx)(t:Ex):Nd->Prop
 |.e e=>∀ρ r,ev Γ G t (j7 ρ)=aa (.v r)->Has X ρ e r
 |.b e=>∀ρ k,truth (ev Γ G t (j7 ρ))=aa k->DB X ρ e k
 |.w e=>∀ρ k,truth (ev Γ G t (j7 ρ))=aa k->DW X ρ e k
 |.a es=>∀ρ rs,ev Γ G t (j7 ρ)=aa (.a rs)->HasA X ρ es rs
 |.i tg it=>∀ρ ds,ev Γ G t (j7 ρ)=aa (.i ds)->DI X ρ tg it ds
 |.o e=>∀ρ o,Qf (ev Γ G t (j7 ρ))=aa o->DP X ρ e o
 |.p es=>∀ρ rs,ev Γ G t (j7 ρ)=aa (.a rs)->j01 X ρ es rs
 |.c ifs=>∀ρ,(ev Γ G t (j7 ρ)=aa (.a [])->DTs X ρ ifs af)/\∀y k,ev Γ G t (j7 ρ)=aa (.a [y])->y.d=.bl k->DTs X ρ ifs k
end
section
variable{Γ:ao->List D->Rc}{G:ao->Option D}{X:Cx}
theorem O7{is:List Nat}{elt' it' c':Ex}{elt it tg:ar}{ifs:List ar}{scope:bG}{ρ:Rho}{r:Rk}
  (hit:∀ρ ds,ev Γ G it' (j7 ρ)=aa (.i ds)->DI X ρ tg it ds)
  (hb:∀ρ d ρ2,vf is d (j7 ρ)=aa ρ2->(∀j∈is,ρ[j]?=aa .un)->∃ρ',j7 ρ'=ρ2/\Wk ρ' ρ/\owns ρ'=owns ρ/\∀C s H fp pn,DG (cCx X scope C s H fp pn) ρ tg d ρ')
  (he:∀C s H fp pn ρ r,ev Γ G elt' (j7 ρ)=aa (.v r)->Has (cCx X scope C s H fp pn) ρ elt r)
  (hc:∀C s H fp pn ρ,(ev Γ G c' (j7 ρ)=aa (.a [])->DTs (cCx X scope C s H fp pn) ρ ifs af)/\∀y k,ev Γ G c' (j7 ρ)=aa (.a [y])->y.d=.bl k->DTs (cCx X scope C s H fp pn) ρ ifs k)
  (h:ev Γ G (.comp is elt' it' c') (j7 ρ)=aa (.v r)):∃(l:List D)(ρf:Rho)(ds:List D)(pr:D->Bool)(g:D->D),r=.o l/\l=(ds.filter pr).map g /\
   (ρf=ρ\/(qj l=af/\∃(i:Nat)(a:ak)(l':List D),ρ[i]?=aa (.own a l')/\ρf=ρ.set i (.val (.lst l'))))/\DI X ρf tg it ds/\(∀j∈is,ρf[j]?=aa .un)/\ds.length<=au /\
   (∀C s H fp pn,∀d∈ds,∃ρ2,DG (cCx X scope C s H fp pn) ρf tg d ρ2/\Wk ρ2 ρf/\owns ρ2=owns ρf/\DTs (cCx X scope C s H fp pn) ρ2 ifs (pr d)/\(pr d=af->DE (cCx X scope C s H fp pn) ρ2 elt (g d))):=by
 have fr:∃ρf,j7 ρf=frz it' (j7 ρ)/\((Jf it' (j7 ρ)=ae/\ρf=ρ)\/(Jf it' (j7 ρ)=af/\∃i a l,ρ[i]?=aa (.own a l)/\ρf=ρ.set i (.val (.lst l)))):=by
  by_cases z:Jf it' (j7 ρ)=af
  .unfold Jf at z;split at z
   .rename_i i ei;split at z
    .rename_i l e;obtain⟨a,q⟩:=Jj e;refine⟨ρ.set i (.val (.lst l)),?_,.inr ⟨?_,i,a,l,q,rfl⟩⟩
     .rw[jq];simp only[frz,ei,e,Sl.abs]
     .simp only[Jf,ei,e]
    .cases z
   .cases z
  .have z':Jf it' (j7 ρ)=ae:=by simpa using z
   refine⟨ρ,?_,.inl ⟨z',rfl⟩⟩;unfold frz;split
   .rename_i i ei;split
    .rename_i l e;simp only[Jf,ei,e]at z';cases z'
    .rfl
   .rfl
 obtain⟨ρf,ef,fr⟩:=fr;rw[jig]at h;rw[<-ef]at h;split at h
 .rename_i ds hds;split at h
  .rename_i hz;obtain⟨hfree,hlen⟩:=hz;generalize hf:(λd=>_:D->Option (Option D))=f at h;cases hl:Jm f ds with
   |none=>rw[hl]at h;cases h
   |some l =>
    rw[hl]at h;have h:(if (Jf it' (j7 ρ) && !qj l)=af then ah else aa (W.v (.o l)))=aa (.v r):=h;by_cases zz:(Jf it' (j7 ρ) && !qj l)=af
    .rw[if_pos zz]at h;cases h
    .rw[if_neg zz]at h;cases h;obtain⟨el,hmem⟩:=N6 hl;have hun:∀j∈is,ρf[j]?=aa .un:=λj hj=>by
      have:=Xq.mp hfree j hj;split at this
      .rename_i e;exact je0 e
      .cases this
     refine⟨l,ρf,ds,_,_,rfl,el,?_,hit ρf ds hds,hun,qx hlen,λC s H fp pn d hd=>?_⟩
     .rcases fr with ⟨_,e⟩|⟨e1,i,a,l',hk,e⟩
      .exact .inl e
      .exact .inr ⟨by rw[e1]at zz;simpa using zz,i,a,l',hk,e⟩
     ·
      obtain⟨o,ho⟩:=hmem d hd;rw[<-hf]at ho ⊢;dsimp only at ho ⊢;cases hb2:vf is d (j7 ρf) with
      |none=>rw[hb2]at ho;cases ho
      |some ρ2 =>
       obtain⟨ρ',e',wk,ow,dg⟩:=hb ρf d ρ2 hb2 hun;subst e';refine⟨ρ',dg C s H fp pn,wk,ow,?_⟩;rw[hb2]at ho;dsimp only at ho ⊢;cases hcv:ev Γ G c' (j7 ρ') with
       |none=>rw[hcv]at ho;cases ho
       |some w =>
        rw[hcv]at ho;split at ho
        .rename_i hw;cases hw;cases hev:ev Γ G elt' (j7 ρ') with
         |none=>rw[hev]at ho;cases ho
         |some w =>
          rw[hev]at ho;cases w with
          |i _=>cases ho
          |a _=>cases ho
          |v x =>
           dsimp only at ho ⊢;cases hst:x.st with
           |none=>rw[hst]at ho;cases ho
           |some y =>simp only[hst,fB,il,cZ,Xu];exact⟨((hc C s H fp pn ρ').1 hcv),λ_=>(he C s H fp pn ρ' x hev).toE hst⟩
        .rename_i y hw;cases hw;split at ho
         .rename_i e1;cases hev:ev Γ G elt' (j7 ρ') with
          |none=>rw[hev]at ho;cases ho
          |some w =>
           rw[hev]at ho;cases w with
           |i _=>cases ho
           |a _=>cases ho
           |v x =>
            dsimp only at ho ⊢;cases hst:x.st with
            |none=>rw[hst]at ho;cases ho
            |some z =>simp only[e1,hst,fB,il,cZ,Xu];exact⟨(hc C s H fp pn ρ').2 y af hcv e1,λ_=>(he C s H fp pn ρ' x hev).toE hst⟩
         .rename_i e1;simp only[e1,Option.join,fj];exact⟨(hc C s H fp pn ρ').2 y ae hcv e1,λz=>by cases z⟩
         .cases ho
        .cases ho
  .cases h
 .cases h
theorem j35{is:List Nat}{elt' it' c':Ex}{elt it tg:ar}{ifs:List ar}{scope:bG}{p:aP}{ρ:Rho}{r:Rk}(hq:X.calm=af)(hX:Cok X G)
  (hit:∀ρ ds,ev Γ G it' (j7 ρ)=aa (.i ds)->DI X ρ tg it ds) (hkind:scope.kind=.function) (hok:Q0 scope X.env X.N is=af) (hs:∀x,aZ it X.env x=pure x)
  (hb:∀ρ d ρ2,vf is d (j7 ρ)=aa ρ2->(∀j∈is,ρ[j]?=aa .un)->∃ρ',j7 ρ'=ρ2/\Wk ρ' ρ/\owns ρ'=owns ρ/\∀C s H fp pn,DG (cCx X scope C s H fp pn) ρ tg d ρ')
  (he:∀C s H fp pn ρ r,ev Γ G elt' (j7 ρ)=aa (.v r)->Has (cCx X scope C s H fp pn) ρ elt r)
  (hc:∀C s H fp pn ρ,(ev Γ G c' (j7 ρ)=aa (.a [])->DTs (cCx X scope C s H fp pn) ρ ifs af)/\∀y k,ev Γ G c' (j7 ρ)=aa (.a [y])->y.d=.bl k->DTs (cCx X scope C s H fp pn) ρ ifs k)
  (h:ev Γ G (.comp is elt' it' c') (j7 ρ)=aa (.v r)):∃l,r=.o l/\DO X ρ (.ListComp elt [⟨tg,it,ifs,0⟩] scope p) l:=by
 obtain⟨l,ρf,ds,pr,g,er,el,hf,hi,hun,hz,hb'⟩:=O7 hit hb he hc h;refine⟨l,er,?_⟩;have main:DO X ρf (.ListComp elt [⟨tg,it,ifs,0⟩] scope p) ((ds.filter pr).map g):=DO.comp is _ _ hi hb' hun hz hq hkind hok hs;rw[<-el]at main;rcases hf with e|⟨hn,i,a,l',hk,e⟩
 .subst e;exact main
 .subst e;exact DO.unfrz hk main hn
end
section
variable{X:Cx}{ρ:Rho}{a b e:ar}{es:List ar}{d:D}{pos p:aP}
theorem Has.map(h:∀σ H Q,Q6 X a σ H Q->Q6 X e σ H Q):∀{r:Rk},Has X ρ a r->Has X ρ e r
 |.e _,q=>λσ H Q R z=>h σ H Q (q σ H Q R z)
 |.o _,q=>λσ H Q R z=>h σ H Q (q σ H Q R z)
 |.w _,q=>λσ H Q R z=>h σ H Q (q σ H Q R z)
 |.t _,q=>λσ H Q R z=>h σ H Q (q σ H Q R z)
theorem Has.bl{r:Rk}{k:Bool}(h:Has X ρ a r)(e:r.d=.bl k):DE X ρ a (.bl k):=DT.toE (e▸h.toT)
theorem Qg{f:Bf}{rs:List Rk}{r:Rk}{p2:aP}{G:ao->Option D}(c:Cok X G)(hq:f=.min\/f=.all\/f=.sum\/f=.any\/f=.max->X.calm=af)(hg:Gl X f.name)(h:Zg f rs=aa r)(ha:HasA X ρ es rs):Has X ρ (.Call (.Name f.name p) es [] p2) r:=by
 have one:∀{x:Rk},HasA X ρ es [x]->∃e,es=[e]/\Has X ρ e x/\ai [e] X.env=[(ae,aB e X.env)]:=λ{x} h=>by cases h with|cons hs h t=>cases t;exact⟨_,rfl,h,hs⟩
 have two:∀{x y:Rk},HasA X ρ es [x,y]->∃e f,es=[e,f]/\Has X ρ e x/\Has X ρ f y/\ai [e,f] X.env=(ae,aB e X.env)::ai [f] X.env/\ai [f] X.env=[(ae,aB f X.env)]:=λ{x y} h=>by cases h with|cons hs h t=>cases t with|cons hs2 h2 t2=>cases t2;exact⟨_,_,rfl,h,h2,hs,hs2⟩
 unfold Zg at h;split at h
 .rename_i x;obtain⟨e,ee,hx,hs⟩:=one ha;subst ee;split at h
  .rename_i l el;cases h;exact DE.lenL (el▸hx.toT) (c.bt _ (by decide)) hg hs
  .rename_i l el;cases h;exact DE.lenT (el▸hx.toT) (c.bt _ (by decide)) hg hs
  .rename_i y el;obtain⟨z,q⟩:=jz h;subst q;exact DE.lenS (el▸hx.toT) (qx z) (c.bt _ (by decide)) hg hs
  .cases h
 .rename_i x y;obtain⟨e,f,ee,hx,hy,hs,hs2⟩:=two ha;subst ee;split at h
  .rename_i i j ei ej;cases h;exact DE.min (ei▸hx.toT) (ej▸hy.toT) (c.bt _ (by decide)) (hq (.inl rfl)) hg hs hs2 (by rw[hs2];rfl)
  .cases h
 .rename_i x y;obtain⟨e,f,ee,hx,hy,hs,hs2⟩:=two ha;subst ee;split at h
  .rename_i i j ei ej;cases h;exact DE.max2 (ei▸hx.toT) (ej▸hy.toT) (c.bt _ (by decide)) (hq (.inr (.inr (.inr (.inr rfl))))) hg hs hs2 (by rw[hs2];rfl)
  .cases h
 .rename_i x;obtain⟨e,ee,hx,hs⟩:=one ha;subst ee;split at h
  .rename_i l el;split at h
   .rename_i ns en;obtain⟨z,q⟩:=jz h;cases q;have:=Qd en;subst this;exact DE.maxL (el▸hx.toT) (λz'=>by subst z';simp at z) (c.bt _ (by decide)) (hq (.inr (.inr (.inr (.inr rfl))))) hg hs
   .cases h
  .cases h
 .rename_i x;obtain⟨e,ee,hx,hs⟩:=one ha;subst ee;split at h
  .rename_i l el;split at h
   .rename_i ns en;obtain⟨z,q⟩:=jz h;cases q;have:=Qd en;subst this;exact DE.minL (el▸hx.toT) (λz'=>by subst z';simp at z) (c.bt _ (by decide)) (hq (.inl rfl)) hg hs
   .cases h
  .cases h
 .rename_i x;obtain⟨e,ee,hx,hs⟩:=one ha;subst ee;split at h
  .rename_i l el;cases q:boolsOf l with
   |none=>rw[q]at h;cases h
   |some bs =>rw[q]at h;cases h;have:=Wn q;subst this;exact DE.all (el▸hx.toT) (c.bt _ (by decide)) (hq (.inr (.inl rfl))) hg hs
  .cases h
 .rename_i x;obtain⟨e,ee,hx,hs⟩:=one ha;subst ee;split at h
  .rename_i l el;cases q:boolsOf l with
   |none=>rw[q]at h;cases h
   |some bs =>rw[q]at h;cases h;have:=Wn q;subst this;exact DE.any (el▸hx.toT) (c.bt _ (by decide)) (hq (.inr (.inr (.inr (.inl rfl))))) hg hs
  .cases h
 .rename_i x;obtain⟨e,ee,hx,hs⟩:=one ha;subst ee;split at h
  .rename_i s l el;cases h;exact DE.tupM (hx.toM el) (c.bt _ (by decide)) hg hs
  .cases h
 .rename_i x;obtain⟨e,ee,hx,hs⟩:=one ha;subst ee;split at h
  .rename_i s l el;cases h;exact DO.listM (hx.toM el) (c.bt _ (by decide)) hg hs
  .cases h
 .rename_i x;obtain⟨e,ee,hx,hs⟩:=one ha;subst ee;split at h
  .rename_i l el;cases q:intsOf l with
   |none=>rw[q]at h;cases h
   |some ns =>rw[q]at h;cases h;have:=Qd q;subst this;exact DE.sum af (show DT X ρ e (.lst (ns.map D.int))from el▸hx.toT) (c.bt _ (by decide)) (hq (.inr (.inr (.inl rfl)))) hg hs
  .rename_i l el;cases q:intsOf l with
   |none=>rw[q]at h;cases h
   |some ns =>rw[q]at h;cases h;have:=Qd q;subst this;exact DE.sum ae (show DT X ρ e (.tup (ns.map D.int))from el▸hx.toT) (c.bt _ (by decide)) (hq (.inr (.inr (.inl rfl)))) hg hs
  .cases h
 .rename_i x;obtain⟨e,ee,hx,hs⟩:=one ha;subst ee;split at h
  .rename_i k el;cases h;exact DE.int1 (el▸hx.toT) (c.bt _ (by decide)) hg hs
  .rename_i y el;split at h
   .rename_i hl;obtain⟨n,hn,rfl⟩:=Xv.mp h;exact DE.intS (el▸hx.toT) hn hl (c.bt _ (by decide)) hg hs
   .cases h
  .cases h
 .cases h
end
section
variable{Γ:ao->List D->Rc}{G:ao->Option D}{X:Cx}
theorem j39 {ρ:Rho} {f:ao} {e:ar} {es:List ar} {rs:List Rk} {r:Rk} {p p2:aP} (g:Gok X Γ) (hg:Gl X f) (hdb:(f==k7k)=ae) (he:ai (e::es) X.env=(ae,aB e X.env)::ai es X.env)
  (hpl:(aT p2 (ai es X.env)).any (·.1)=ae) (ha:HasA X ρ (e::es) rs)
  (h:(match J0 rs with|some ds=>(Γ f ds).rk.map W.v|none=>match Γ f (rs.map Rk.d)with|.val d=>aa (.v (.t d))|.fresh l=>if qj l=af then aa (.v (.o l))else ah|_=>ah)=aa (.v r)):Has X ρ (.Call (.Name f p) (e::es) [] p2) r:=by
 split at h
 .rename_i ds hds;have q:=g f ds;cases z:Γ f ds with
  |val d=>rw[z]at h q;cases h;exact DE.call q (ha.toA hds) ⟨rfl,rfl⟩ hg hdb he hpl
  |fresh l=>rw[z]at h q;cases h;exact DO.call q (ha.toA hds) ⟨rfl,rfl⟩ hg hdb he hpl
  |err x=>rw[z]at h;cases h
  |lval d=>rw[z]at h;cases h
  |mval d k=>rw[z]at h;cases h
  |merr x=>rw[z]at h;cases h
  |no=>rw[z]at h;cases h
 .have q:=g f (rs.map Rk.d);split at h
  .rename_i d z;rw[z]at q;cases h;exact DT.call q ha.toT ⟨rfl,rfl⟩ hg hdb he hpl
  .rename_i l z;rw[z]at q;obtain⟨hn,e1⟩:=jz h;cases e1;exact DO.callT q ha.toT ⟨rfl,rfl⟩ hn hg hdb he hpl
  .cases h
theorem jf1{a:Ex}{ρ:En}{r:Rk}(h:ev Γ G (.rpr a) ρ=aa (.v r)):∃x y,ev Γ G a ρ=aa (.v x)/\x.d=.str y/\(bX y).length<=2000/\r=.e (.str (bX y)):=by
 rw[jl8]at h;split at h
 .rename_i x ex;split at h
  .rename_i y ey;split at h
   .rename_i hl;cases h;exact⟨x,y,ex,ey,hl,rfl⟩
   .cases h
  .cases h
 .cases h
end
def XM(X:Cx)(ρ:Rho)(y:ao):Nd->Prop
 |.e e=>DX X ρ e y
 |.a es=>DXA X ρ es y
 |_=>True
structure Tr(X:Cx)(t:Ex)(nd:Nd):Prop where
 m:∀(Γ:ao->List D->Rc)(G:ao->Option D),Cok X G->Gok X Γ->jio Γ G X t nd
 x:∀(Γ:ao->List D->Rc)(G:ao->Option D),Cok X G->Gok X Γ->∀ρ y,er Γ G t (j7 ρ)=aa y->XM X ρ y nd
theorem Tr.int:∀{X:Cx}{i:Int}{n:Nat}{p:aP},Tr X (.lit (.int i)) (.e (.Constant (.int i) n p)):=by intro _ _ _ _;refine⟨λΓ G=>?_,λ_ _ _ _ _ _ h=>nomatch h⟩;intro _ _ ρ r h;simp only[K3]at h;cases h;exact DE.int
theorem Tr.bl:∀{X:Cx}{b:Bool}{n:Nat}{p:aP},Tr X (.lit (.bl b)) (.e (.Constant (.bool b) n p)):=by intro _ _ _ _;refine⟨λΓ G=>?_,λ_ _ _ _ _ _ h=>nomatch h⟩;intro _ _ ρ r h;simp only[K3]at h;cases h;exact DE.bl
theorem Tr.str:∀{X:Cx}{y:ao}{n:Nat}{p:aP},Tr X (.lit (.str y)) (.e (.Constant (.str y) n p)):=by intro _ _ _ _;refine⟨λΓ G=>?_,λ_ _ _ _ _ _ h=>nomatch h⟩;intro _ _ ρ r h;simp only[K3]at h;cases h;exact DE.str
theorem Tr.var:∀{X:Cx}{k:Nat}{x:ao}{p:aP}(hN:X.N[k]?=aa x) (hv:Vis X.env.scope x) (hd:(x==k7k)=ae) (hcd:(x==k7l)=ae),Tr X (.var k) (.e (.Name x p)):=by
 intro _ _ _ _ hN hv hd hcd;refine⟨λΓ G=>?_,λ_ _ _ _ _ _ h=>nomatch h⟩;intro _ _ ρ r h;simp only[jl4,Ni]at h;split at h
 .rename_i e;cases h;exact DE.var _ (Ou e) hN hv hd hcd
 .rename_i e;cases h;obtain⟨a,q⟩:=Jj e;exact DL.var _ q hN hv hd hcd
 .cases h
theorem Tr.glob:∀{X:Cx}{x:ao}{p:aP}(hg:Gl X x)(hd:(x==k7k)=ae) (hb:Va x=ae),Tr X (.glob x) (.e (.Name x p)):=by
 intro _ _ _ hg hd hb;refine⟨λΓ G=>?_,λ_ _ _ _ _ _ h=>nomatch h⟩;rename_i X x p;intro c _ ρ r h;simp only[jid]at h;cases e:G x with
 |none=>rw[e]at h;cases h
 |some d=>rw[e]at h;cases h;obtain⟨u,v,hm,r,q⟩:=c.gl x d hb e;exact DE.glob hg hm r q hd
theorem Tr.bin:∀{X:Cx}{op:Bop}{a' b':Ex}{a b:ar}{p:aP},Tr X a' (.e a)->Tr X b' (.e b)->Tr X (.bin op a' b') (.e (.BinOp a op.op b p)):=by
 intro _ _ _ _ _ _ _ q0 q1;refine⟨λΓ G=>?_,λ_ _ _ _ _ _ h=>nomatch h⟩;have iha:=q0.m Γ G;have ihb:=q1.m Γ G;intro c g ρ r h;simp only[jle,Q7]at h;split at h
 .rename_i x y ex ey;cases e:U4 _ x y with
  |none=>rw[e]at h;cases h
  |some z=>rw[e]at h;cases h;exact j6d e (iha c g ρ x ex) (ihb c g ρ y ey)
 .cases h
theorem Tr.cmp:∀{X:Cx}{op:Cop}{a' b':Ex}{a b:ar}{p:aP}(hm:aO op.op b=ae),Tr X a' (.e a)->Tr X b' (.e b)->Tr X (.cmp op a' b') (.e (.Compare a [op.op] [b] p)):=by
 intro _ _ _ _ _ _ _ hm q0 q1;refine⟨λΓ G=>?_,λ_ _ _ _ _ _ h=>nomatch h⟩;have iha:=q0.m Γ G;have ihb:=q1.m Γ G;intro c g ρ r h;simp only[jau,De]at h;split at h
 .rename_i x y ex ey;cases e:Ja _ x.d y.d with
  |none=>rw[e]at h;cases h
  |some z=>rw[e]at h;cases h;exact(Cj c.un' e (iha c g ρ x ex).toT (ihb c g ρ y ey).toT hm).1
 .cases h
theorem Tr.bcmp:∀{X:Cx}{op:Cop}{a' b':Ex}{a b:ar}{p:aP}(hm:aO op.op b=ae),Tr X a' (.e a)->Tr X b' (.e b)->Tr X (.cmp op a' b') (.b (.Compare a [op.op] [b] p)):=by
 intro _ _ _ _ _ _ _ hm q0 q1;refine⟨λΓ G=>?_,λ_ _ _ _ _ _ _=>trivial⟩;have iha:=q0.m Γ G;have ihb:=q1.m Γ G;intro c g ρ k h;obtain⟨r,h,hk⟩:=J2 h;simp only[jau,De]at h;split at h
 .rename_i x y ex ey;cases e:Ja _ x.d y.d with
  |none=>rw[e]at h;cases h
  |some z=>rw[e]at h;cases h;cases hk;exact(Cj c.un' e (iha c g ρ x ex).toT (ihb c g ρ y ey).toT hm).2
 .cases h
theorem Tr.isN:∀{X:Cx}{a':Ex}{a:ar}{n:Nat}{p p2:aP},Tr X a' (.e a)->Tr X (.isN a') (.e (.Compare a [.Is] [.Constant .none n p2] p)):=by
 intro _ _ _ _ _ _ q0;refine⟨λΓ G=>?_,λ_ _ _ _ _ _ h=>nomatch h⟩;have iha:=q0.m Γ G;intro c g ρ r h;simp only[jat]at h;split at h
 .rename_i x ex;cases h;exact DE.isN (iha c g ρ x ex).toT
 .cases h
theorem Tr.bisN:∀{X:Cx}{a':Ex}{a:ar}{n:Nat}{p p2:aP},Tr X a' (.e a)->Tr X (.isN a') (.b (.Compare a [.Is] [.Constant .none n p2] p)):=by
 intro _ _ _ _ _ _ q0;refine⟨λΓ G=>?_,λ_ _ _ _ _ _ _=>trivial⟩;have iha:=q0.m Γ G;intro c g ρ k h;obtain⟨r,h,hk⟩:=J2 h;simp only[jat]at h;split at h
 .rename_i x ex;cases h;cases hk;exact DB.isN (iha c g ρ x ex).toT
 .cases h
theorem Tr.one:∀{X:Cx}{a':Ex}{a:ar}{op:BoolOp}{p:aP},Tr X a' (.e a)->Tr X a' (.e (.BoolOp op [a] p)):=by intro _ _ _ _ _ q0;refine⟨λΓ G=>?_,λΓ G c g ρ y h σ H Q R k=>(j4f peS).to (q0.x Γ G c g ρ y h σ H Q R k)⟩;have iha:=q0.m Γ G;intro c g ρ r h;exact Has.map (λσ H Q q=>(j4f peS).to q) (iha c g ρ r h)
theorem Tr.and:∀{X:Cx}{a' t':Ex}{a b:ar}{rest:List ar}{p:aP},Tr X a' (.e a)->Tr X t' (.e (.BoolOp .And (b::rest) p))->Tr X (.and a' t') (.e (.BoolOp .And (a::b::rest) p)):=by
 intro _ _ _ _ _ _ _ q0 q1;refine⟨λΓ G=>?_,λ_ _ _ _ _ _ h=>nomatch h⟩;have iha:=q0.m Γ G;have ihb:=q1.m Γ G;intro c g ρ r h;simp only[jav]at h;split at h
 .rename_i e;cases h;obtain⟨x,ex,ed⟩:=J2 e;exact(DE.and (m:=ae) ((iha c g ρ x ex).bl ed).toT λz=>by cases z)
 .rename_i e;obtain⟨x,ex,ed⟩:=J2 e;cases e2:truth (ev Γ G _ (j7 ρ)) with
  |none=>rw[e2]at h;cases h
  |some k =>rw[e2]at h;cases h;obtain⟨y,ey,fd⟩:=J2 e2;exact(DE.and ((iha c g ρ x ex).bl ed).toT λ_=>(ihb c g ρ y ey).bl fd).eq (by simp)
 .cases h
theorem Tr.or:∀{X:Cx}{a' t':Ex}{a b:ar}{rest:List ar}{p:aP},Tr X a' (.e a)->Tr X t' (.e (.BoolOp .Or (b::rest) p))->Tr X (.or a' t') (.e (.BoolOp .Or (a::b::rest) p)):=by
 intro _ _ _ _ _ _ _ q0 q1;refine⟨λΓ G=>?_,λ_ _ _ _ _ _ h=>nomatch h⟩;have iha:=q0.m Γ G;have ihb:=q1.m Γ G;intro c g ρ r h;simp only[jia]at h;split at h
 .rename_i e;cases h;obtain⟨x,ex,ed⟩:=J2 e;exact(DE.or (m:=ae) ((iha c g ρ x ex).bl ed).toT λz=>by cases z)
 .rename_i e;obtain⟨x,ex,ed⟩:=J2 e;cases e2:truth (ev Γ G _ (j7 ρ)) with
  |none=>rw[e2]at h;cases h
  |some k =>rw[e2]at h;cases h;obtain⟨y,ey,fd⟩:=J2 e2;exact(DE.or ((iha c g ρ x ex).bl ed).toT λ_=>(ihb c g ρ y ey).bl fd).eq (by simp)
 .cases h
theorem Tr.wand1:∀{X:Cx}{a':Ex}{a:ar}{p:aP},Tr X a' (.b a)->Tr X a' (.w (.BoolOp .And [a] p)):=by intro _ _ _ _ q0;refine⟨λΓ G=>?_,λ_ _ _ _ _ _ _=>trivial⟩;have iha:=q0.m Γ G;intro c g ρ k h;exact DW.and1 (iha c g ρ k h)
theorem Tr.wor1:∀{X:Cx}{a':Ex}{a:ar}{p:aP},Tr X a' (.b a)->Tr X a' (.w (.BoolOp .Or [a] p)):=by intro _ _ _ _ q0;refine⟨λΓ G=>?_,λ_ _ _ _ _ _ _=>trivial⟩;have iha:=q0.m Γ G;intro c g ρ k h;exact DW.or1 (iha c g ρ k h)
theorem Tr.wand:∀{X:Cx}{a' t':Ex}{a b:ar}{rest:List ar}{p:aP},Tr X a' (.b a)->Tr X t' (.w (.BoolOp .And (b::rest) p))->Tr X (.and a' t') (.w (.BoolOp .And (a::b::rest) p)):=by
 intro _ _ _ _ _ _ _ q0 q1;refine⟨λΓ G=>?_,λ_ _ _ _ _ _ _=>trivial⟩;have iha:=q0.m Γ G;have ihb:=q1.m Γ G;intro c g ρ k h;obtain⟨r,h,hk⟩:=J2 h;simp only[jav]at h;split at h
 .rename_i e;cases h;cases hk;exact DW.and (m:=ae) (iha c g ρ ae e) λz=>by cases z
 .rename_i e;cases e2:truth (ev Γ G _ (j7 ρ)) with
  |none=>rw[e2]at h;cases h
  |some m =>rw[e2]at h;cases h;cases hk;have q:=DW.and (iha c g ρ af e) λ_=>ihb c g ρ _ e2;rw[jI]at q;exact q
 .cases h
theorem Tr.wor:∀{X:Cx}{a' t':Ex}{a b:ar}{rest:List ar}{p:aP},Tr X a' (.b a)->Tr X t' (.w (.BoolOp .Or (b::rest) p))->Tr X (.or a' t') (.w (.BoolOp .Or (a::b::rest) p)):=by
 intro _ _ _ _ _ _ _ q0 q1;refine⟨λΓ G=>?_,λ_ _ _ _ _ _ _=>trivial⟩;have iha:=q0.m Γ G;have ihb:=q1.m Γ G;intro c g ρ k h;obtain⟨r,h,hk⟩:=J2 h;simp only[jia]at h;split at h
 .rename_i e;cases h;cases hk;exact DW.or (m:=ae) (iha c g ρ af e) λz=>by cases z
 .rename_i e;cases e2:truth (ev Γ G _ (j7 ρ)) with
  |none=>rw[e2]at h;cases h
  |some m =>rw[e2]at h;cases h;cases hk;have q:=DW.or (iha c g ρ ae e) λ_=>ihb c g ρ _ e2;rw[Bool.false_or]at q;exact q
 .cases h
theorem Tr.bw:∀{X:Cx}{a':Ex}{op:BoolOp}{es:List ar}{p:aP},Tr X a' (.w (.BoolOp op es p))->Tr X a' (.b (.BoolOp op es p)):=by intro _ _ _ _ _ q0;refine⟨λΓ G=>?_,λ_ _ _ _ _ _ _=>trivial⟩;have iha:=q0.m Γ G;intro c g ρ k h;exact DW.toB (iha c g ρ k h)
theorem Tr.bnot:∀{X:Cx}{a':Ex}{a:ar}{p:aP},Tr X a' (.b a)->Tr X (.not a') (.b (.UnaryOp .Not a p)):=by
 intro _ _ _ _ q0;refine⟨λΓ G=>?_,λ_ _ _ _ _ _ _=>trivial⟩;have iha:=q0.m Γ G;intro c g ρ k h;obtain⟨r,h,hk⟩:=J2 h;simp only[jl9]at h;cases e:truth (ev Γ G _ (j7 ρ)) with
 |none=>rw[e]at h;cases h
 |some m=>rw[e]at h;cases h;cases hk;exact DB.not (iha c g ρ m e)
theorem Tr.bval:∀{X:Cx}{a':Ex}{a:ar}(he:∀whole,eN a X.env whole=(do let v <-whole;fP a.pos;dP [v] (jF v))),Tr X a' (.e a)->Tr X a' (.b a):=by intro _ _ _ he q0;refine⟨λΓ G=>?_,λ_ _ _ _ _ _ _=>trivial⟩;have iha:=q0.m Γ G;intro c g ρ k h;obtain⟨r,h,hk⟩:=J2 h;exact DB.val ((iha c g ρ r h).bl hk).toT he
theorem Tr.ite:∀{X:Cx}{c' a' b':Ex}{c a b:ar}{p:aP},Tr X c' (.b c)->Tr X a' (.e a)->Tr X b' (.e b)->Tr X (.ite c' a' b') (.e (.IfExp c a b p)):=by
 intro _ _ _ _ _ _ _ _ q0 q1 q2;refine⟨λΓ G=>?_,λ_ _ _ _ _ _ h=>nomatch h⟩;have ihc:=q0.m Γ G;have iha:=q1.m Γ G;have ihb:=q2.m Γ G;intro c g ρ r h;simp only[jlb]at h;split at h
 .rename_i e;split at h
  .rename_i x ex;cases es:x.st with
   |none=>rw[es]at h;cases h
   |some d=>rw[es]at h;cases h;exact(DE.ite (d':=d) (ihc c g ρ af e) (λ_=>(iha c g ρ x ex).toE es) λz=>by cases z).eq (by simp)
  .cases h
 .rename_i e;split at h
  .rename_i x ex;cases es:x.st with
   |none=>rw[es]at h;cases h
   |some d=>rw[es]at h;cases h;exact(DE.ite (d:=d) (ihc c g ρ ae e) (λz=>by cases z) λ_=>(ihb c g ρ x ex).toE es).eq (by simp)
  .cases h
 .cases h
theorem Tr.nil:∀{X:Cx},Tr X .nil (.a []):=by intro _;refine⟨λΓ G=>?_,λ_ _ _ _ _ _ h=>nomatch h⟩;intro c g ρ rs h;simp only[Wu]at h;cases h;exact .nil
theorem Tr.cons:∀{X:Cx}{a' b':Ex}{a:ar}{es:List ar}(hs:ai (a::es) X.env=(ae,aB a X.env)::ai es X.env),Tr X a' (.e a)->Tr X b' (.a es)->Tr X (.cons a' b') (.a (a::es)):=by
 intro _ _ _ _ _ hs q0 q1;refine⟨λΓ G=>?_,λΓ G=>?_⟩
 .have iha:=q0.m Γ G;have ihb:=q1.m Γ G;intro c g ρ rs h;simp only[Ur,consW]at h;split at h
  .rename_i x xs ex exs;cases h;exact .cons hs (iha c g ρ x ex) (ihb c g ρ xs exs)
  .cases h
 .skip
  intro c g ρ y h;rw[er]at h;split at h
  .rename_i x ex;cases h;exact DXA.head (q0.x Γ G c g ρ _ ex) hs
  split at h
  .rename_i r ez;exact DXA.tail (q0.m Γ G c g ρ r ez).toT (q1.x Γ G c g ρ y h) hs
  .cases h
theorem Tr.tup:∀{X:Cx}{es':Ex}{es:List ar}{n:Nat}{p:aP},Tr X es' (.a es)->Tr X (.tup es') (.e (.Tuple es n p)):=by
 intro _ _ _ _ _ q0;refine⟨λΓ G=>?_,λ_ _ _ _ _ _ h=>nomatch h⟩;have iha:=q0.m Γ G;intro c g ρ r h;simp only[jl5,Y6]at h;split at h
 .rename_i rs ers;split at h
  .rename_i ds hds;obtain⟨z,q⟩:=jz h;cases q;exact DE.tup (n:=0) ((iha c g ρ rs ers).toA hds) (qx z)
  .cases h
 .cases h
theorem Tr.lst:∀{X:Cx}{es':Ex}{es:List ar}{p:aP},Tr X es' (.a es)->Tr X (.lst es') (.e (.List es p)):=by
 intro _ _ _ _ q0;refine⟨λΓ G=>?_,λ_ _ _ _ _ _ h=>nomatch h⟩;have iha:=q0.m Γ G;intro c g ρ r h;simp only[jla,Zq]at h;split at h
 .rename_i rs ers;split at h
  .rename_i ds hds;obtain⟨z,q⟩:=jz h;cases q;exact DO.lst ((iha c g ρ rs ers).toA hds) (qx z)
  .cases h
 .cases h
theorem Tr.ix:∀{X:Cx}{a' b':Ex}{a b:ar}{p:aP}(hs:Y4 b),Tr X a' (.e a)->Tr X b' (.e b)->Tr X (.ix a' b') (.e (.Subscript a b p)):=by
 intro _ _ _ _ _ _ hs q0 q1;refine⟨λΓ G=>?_,λΓ G c g ρ y h σ H Q R k=>(M7 j52 peS peS hs).to (q0.x Γ G c g ρ y (by rw[er]at h;exact h) σ H _ R k)⟩;have iha:=q0.m Γ G;have ihb:=q1.m Γ G;intro c g ρ r h;simp only[jn4,ixW]at h;split at h
 .rename_i x y ex ey;split at h
  .rename_i s l i hx hy;cases z:atI l i with
   |none=>rw[z]at h;cases h
   |some d=>rw[z]at h;cases h;exact DE.ixM ((iha c g ρ x ex).toM hx) (hy▸(ihb c g ρ y ey).toT) z hs
  .rename_i i hx hy;split at h
   .rename_i y' ed;split at h
    .rename_i hl;cases z:atI y'.cps.toList i with
     |none=>rw[z]at h;cases h
     |some d=>rw[z]at h;cases h;exact DE.ixC (ed▸(iha c g ρ x ex).toT) (hy▸(ihb c g ρ y ey).toT) (qx hl) z hs
    .cases h
   .cases h
  .cases h
 .cases h
theorem Tr.oN:∀{X:Cx},Tr X .nil (.o ah):=by intro _;refine⟨λΓ G=>?_,λ_ _ _ _ _ _ _=>trivial⟩;intro c g ρ o h;simp only[Wu,Qf]at h;cases h;exact DP.none
theorem Tr.oS:∀{X:Cx}{a':Ex}{a:ar},Tr X a' (.e a)->Tr X (.cons a' .nil) (.o (aa a)):=by
 intro _ _ _ q0;refine⟨λΓ G=>?_,λ_ _ _ _ _ _ _=>trivial⟩;have iha:=q0.m Γ G;intro c g ρ o h;simp only[Ur,Wu,consW]at h;split at h
 .rename_i x xs ex exs;cases exs;simp only[Qf]at h;split at h
  .rename_i i ei;cases h;exact DP.some (ei▸(iha c g ρ x ex).toT)
  .cases h
 .cases h
theorem Tr.sl:∀{X:Cx}{a' l' h':Ex}{a:ar}{lo hi:Option ar}{p p2:aP},Tr X a' (.e a)->Tr X l' (.o lo)->Tr X h' (.o hi)->Tr X (.sl a' l' h') (.e (.Subscript a (.Slice lo hi ah p2) p)):=by
 intro _ _ _ _ _ _ _ _ _ q0 q1 q2;refine⟨λΓ G=>?_,λ_ _ _ _ _ _ h=>nomatch h⟩;have iha:=q0.m Γ G;have ihl:=q1.m Γ G;have ihh:=q2.m Γ G;intro c g ρ r h;simp only[jn3]at h;split at h
 .rename_i x l hh ex el eh;split at h
  .rename_i ds e;cases h;exact DO.sliceM ((iha c g ρ x ex).toM e) (ihl c g ρ l el) (ihh c g ρ hh eh)
  .rename_i ds e;split at h
   .cases h
   .rename_i z;cases h;exact DE.sliceM ((iha c g ρ x ex).toM e) (ihl c g ρ l el) (ihh c g ρ hh eh) z
  .split at h
   .rename_i y' ed;obtain⟨z,q⟩:=jz h;cases q;exact DE.sliceS (ed▸(iha c g ρ x ex).toT) (ihl c g ρ l el) (ihh c g ρ hh eh) (qx z)
   .cases h
 .cases h
theorem Tr.call:∀{X:Cx}{f:ao}{es':Ex}{e:ar}{es:List ar}{p p2:aP}(hg:Gl X f) (hdb:(f==k7k)=ae) (he:ai (e::es) X.env=(ae,aB e X.env)::ai es X.env) (hpl:(aT p2 (ai es X.env)).any (·.1)=ae),Tr X es' (.a (e::es))->Tr X (.call f es') (.e (.Call (.Name f p) (e::es) [] p2)):=by
 intro _ f _ _ _ _ _ hg hdb he hpl q0;refine⟨λΓ G=>?_,λΓ G=>?_⟩
 .have iha:=q0.m Γ G;intro c g ρ r h;simp only[jih,Jv]at h;split at h
  .rename_i rs ers;exact j39 g hg hdb he hpl (iha c g ρ rs ers) h
  .cases h
 .skip
  intro c g ρ y h;rw[er]at h;split at h
  .rename_i x ex;split at h
   .rename_i hz;cases h;obtain⟨d,hd⟩:=Xp.mp hz;obtain⟨fa,hfa,hk⟩:=c.fn _ d hd;exact DX.args (q0.x Γ G c g ρ _ ex) hg hdb hfa hk he hpl
   .cases h
  split at h
  .rename_i rs ers;split at h
   .rename_i z ez;split at h
    .rename_i hz;cases h;have q:=g f (rs.map Rk.d);rw[ez]at q;obtain⟨d,hd⟩:=Xp.mp hz;obtain⟨_,o,ho⟩:=c.ec _ d hd;exact DX.call q (q0.m Γ G c g ρ rs ers).toT ⟨rfl,rfl⟩ (W.mg_of c.kin c.ns ho) hg hdb he hpl
    .cases h
   .cases h
  .cases h
theorem Tr.len:∀{X:Cx}{es':Ex}{e:ar}{p p2:aP}(hg:Gl X "len"),Tr X es' (.a [e])->Tr X (.blt .len es') (.e (.Call (.Name "len" p) [e] [] p2)):=by
 intro _ _ _ _ _ hg q0;refine⟨λΓ G=>?_,λ_ _ _ _ _ _ h=>nomatch h⟩;have iha:=q0.m Γ G;intro c g ρ r h;simp only[Wv,vd]at h;split at h
 .rename_i rs ers;cases e:Zg _ rs with
  |none=>rw[e]at h;cases h
  |some x=>rw[e]at h;cases h;exact Qg (f:=.len) c (λz=>by rcases z with z|z|z|z|z<;>cases z) hg e (iha c g ρ rs ers)
 .cases h
theorem Tr.all:∀{X:Cx}{es':Ex}{e:ar}{p p2:aP}(hq:X.calm=af)(hg:Gl X "all"),Tr X es' (.a [e])->Tr X (.blt .all es') (.e (.Call (.Name "all" p) [e] [] p2)):=by
 intro _ _ _ _ _ hq hg q0;refine⟨λΓ G=>?_,λ_ _ _ _ _ _ h=>nomatch h⟩;have iha:=q0.m Γ G;intro c g ρ r h;simp only[Wv,vd]at h;split at h
 .rename_i rs ers;cases e:Zg _ rs with
  |none=>rw[e]at h;cases h
  |some x=>rw[e]at h;cases h;exact Qg (f:=.all) c (λ_=>hq) hg e (iha c g ρ rs ers)
 .cases h
theorem Tr.tuple:∀{X:Cx}{es':Ex}{e:ar}{p p2:aP}(hg:Gl X "tuple"),Tr X es' (.a [e])->Tr X (.blt .tuple es') (.e (.Call (.Name "tuple" p) [e] [] p2)):=by
 intro _ _ _ _ _ hg q0;refine⟨λΓ G=>?_,λ_ _ _ _ _ _ h=>nomatch h⟩;have iha:=q0.m Γ G;intro c g ρ r h;simp only[Wv,vd]at h;split at h
 .rename_i rs ers;cases e:Zg _ rs with
  |none=>rw[e]at h;cases h
  |some x=>rw[e]at h;cases h;exact Qg (f:=.tuple) c (λz=>by rcases z with z|z|z|z|z<;>cases z) hg e (iha c g ρ rs ers)
 .cases h
theorem Tr.list:∀{X:Cx}{es':Ex}{e:ar}{p p2:aP}(hg:Gl X "list"),Tr X es' (.a [e])->Tr X (.blt .list es') (.e (.Call (.Name "list" p) [e] [] p2)):=by
 intro _ _ _ _ _ hg q0;refine⟨λΓ G=>?_,λ_ _ _ _ _ _ h=>nomatch h⟩;have iha:=q0.m Γ G;intro c g ρ r h;simp only[Wv,vd]at h;split at h
 .rename_i rs ers;cases e:Zg _ rs with
  |none=>rw[e]at h;cases h
  |some x=>rw[e]at h;cases h;exact Qg (f:=.list) c (λz=>by rcases z with z|z|z|z|z<;>cases z) hg e (iha c g ρ rs ers)
 .cases h
theorem Tr.min:∀{X:Cx}{es':Ex}{e f:ar}{p p2:aP}(hq:X.calm=af)(hg:Gl X "min"),Tr X es' (.a [e,f])->Tr X (.blt .min es') (.e (.Call (.Name "min" p) [e,f] [] p2)):=by
 intro _ _ _ _ _ _ hq hg q0;refine⟨λΓ G=>?_,λ_ _ _ _ _ _ h=>nomatch h⟩;have iha:=q0.m Γ G;intro c g ρ r h;simp only[Wv,vd]at h;split at h
 .rename_i rs ers;cases e:Zg _ rs with
  |none=>rw[e]at h;cases h
  |some x=>rw[e]at h;cases h;exact Qg (f:=.min) c (λ_=>hq) hg e (iha c g ρ rs ers)
 .cases h
theorem Tr.sum:∀{X:Cx}{es':Ex}{e:ar}{p p2:aP}(hq:X.calm=af)(hg:Gl X "sum"),Tr X es' (.a [e])->Tr X (.blt .sum es') (.e (.Call (.Name "sum" p) [e] [] p2)):=by
 intro _ _ _ _ _ hq hg q0;refine⟨λΓ G=>?_,λ_ _ _ _ _ _ h=>nomatch h⟩;have iha:=q0.m Γ G;intro c g ρ r h;simp only[Wv,vd]at h;split at h
 .rename_i rs ers;cases e:Zg _ rs with
  |none=>rw[e]at h;cases h
  |some x=>rw[e]at h;cases h;exact Qg (f:=.sum) c (λ_=>hq) hg e (iha c g ρ rs ers)
 .cases h
theorem Tr.intc:∀{X:Cx}{es':Ex}{e:ar}{p p2:aP}(hg:Gl X "int"),Tr X es' (.a [e])->Tr X (.blt .int es') (.e (.Call (.Name "int" p) [e] [] p2)):=by
 intro _ _ _ _ _ hg q0;refine⟨λΓ G=>?_,λ_ _ _ _ _ _ h=>nomatch h⟩;have iha:=q0.m Γ G;intro c g ρ r h;simp only[Wv,vd]at h;split at h
 .rename_i rs ers;cases e:Zg _ rs with
  |none=>rw[e]at h;cases h
  |some x=>rw[e]at h;cases h;exact Qg (f:=.int) c (λz=>by rcases z with z|z|z|z|z<;>cases z) hg e (iha c g ρ rs ers)
 .cases h
theorem Tr.join:∀{X:Cx}{a':Ex}{a:ar}{sep:ao}{n:Nat}{p0 p1 p2:aP}(hbase:aY (.Constant (.str sep) n p0) "join" X.env (aB (.Constant (.str sep) n p0) X.env)=aB (.Constant (.str sep) n p0) X.env) (hfew:((aT p2 (ai [a] X.env)).all (λx=>!x.1)&&(cK p2 (bB [] X.env)).all (λx=>x.1.isSome)&&decide (([a]:List ar).length+([]:List bu).length+(if ([]:List bu).isEmpty then 0 else 1)<30))=af) (hline:(p1.endLine==p2.line)=af) (hs:ai [a] X.env=(ae,aB a X.env)::ai [] X.env),Tr X a' (.e a)->Tr X (.join sep a') (.e (.Call (.Attribute (.Constant (.str sep) n p0) "join" p1) [a] [] p2)):=by
 intro _ _ _ _ _ _ _ _ hbase hfew hline hs q0;refine⟨λΓ G=>?_,λ_ _ _ _ _ _ h=>nomatch h⟩;have iha:=q0.m Γ G;intro c g ρ r h;simp only[jic,Vp]at h;split at h
 .rename_i x ex;split at h
  .rename_i l el;split at h
   .rename_i ts et;obtain⟨z,q⟩:=jz h;cases q;have:=Ys et;subst this;exact DE.join (el▸(iha c g ρ x ex).toT) z hfew hbase hline hs
   .cases h
  .cases h
 .cases h
theorem Tr.lset:∀{X:Cx}{a':Ex}{a:ar}{p p1 p2 pos:aP}(hq:X.calm=af)(hg:Gl X "len") (hg2:Gl X "set") (hs:ai [a] X.env=[(ae,aB a X.env)]) (hs2:ai [.Call (.Name "set" p1) [a] [] p2] X.env=[(ae,aB (.Call (.Name "set" p1) [a] [] p2) X.env)]),Tr X a' (.e a)->Tr X (.lset a') (.e (.Call (.Name "len" p) [.Call (.Name "set" p1) [a] [] p2] [] pos)):=by
 intro _ _ _ _ _ _ _ hq hg hg2 hs hs2 q0;refine⟨λΓ G=>?_,λ_ _ _ _ _ _ h=>nomatch h⟩;have iha:=q0.m Γ G;intro c g ρ r h;simp only[jib,j2r]at h;split at h
 .rename_i x ex;split at h
  .rename_i l el;split at h
   .rename_i ts et;obtain⟨z,q⟩:=jz h;cases q;have:=Ys et;subst this;exact DE.lenSet (el▸(iha c g ρ x ex).toT) hq nofun (c.bt _ (by decide)) (c.bt _ (by decide)) hg hg2 hs hs2
   .split at h
    .rename_i ts et;obtain⟨z,q⟩:=jz h;cases q;have:=Qd et;subst this;exact DE.lenSetI (el▸(iha c g ρ x ex).toT) hq nofun (c.bt _ (by decide)) (c.bt _ (by decide)) hg hg2 hs hs2
    .cases h
  .cases h
 .cases h
theorem Tr.dzip:∀{X:Cx}{a' b':Ex}{a b:ar}{p p2 p3 p4:aP}(hq:X.calm=af)(hg:Gl X "dict") (hgz:Gl X "zip") (hs0:ai [.Call (.Name "zip" p2) [a,b] [] p3] X.env=(ae,aB (.Call (.Name "zip" p2) [a,b] [] p3) X.env)::ai [] X.env) (hs:ai [a,b] X.env=(ae,aB a X.env)::ai [b] X.env) (hs2:ai [b] X.env=(ae,aB b X.env)::ai [] X.env),Tr X a' (.e a)->Tr X b' (.e b)->Tr X (.dzip a' b') (.e (.Call (.Name "dict" p) [.Call (.Name "zip" p2) [a,b] [] p3] [] p4)):=by
 intro _ _ _ _ _ _ _ _ _ hq hg hgz hs0 hs hs2 q0 q1;refine⟨λΓ G=>?_,λΓ G=>?_⟩
 .have iha:=q0.m Γ G;have ihb:=q1.m Γ G;intro c g ρ r h;simp only[jif,Wh]at h;split at h
  .rename_i x y ex ey;split at h
   .rename_i t1 l t2 m el em;split at h
    .rename_i ks ns ek en;obtain⟨z,q⟩:=jz h;cases q;have e1:=Ys ek;have e2:=Qd en;subst e1 e2;obtain⟨d1,f1,g1⟩:=Option.bind_eq_some_iff.mp el;obtain⟨d2,f2,g2⟩:=Option.bind_eq_some_iff.mp em;have s1:=Nr g1;have s2:=Nr g2;subst s1 s2;exact DE.dzip t1 t2 ((iha c g ρ x ex).toE f1) ((ihb c g ρ y ey).toE f2) z.1 z.2.1 (qx z.2.2) hq (c.bt _ (by decide)) (c.bt _ (by decide)) hg hgz hs0 hs hs2
    .cases h
   .cases h
  .cases h
 .skip
  intro c g ρ y h;rw[er]at h;split at h
  .rename_i x ex;cases h;exact DX.dzip (DXA.head (q0.x Γ G c g ρ _ ex) hs) (c.bt _ (by decide)) (c.bt _ (by decide)) hg hgz hs0 hs hs2
  split at h
  .rename_i r ez;exact DX.dzip (DXA.tail (q0.m Γ G c g ρ r ez).toT (DXA.head (q1.x Γ G c g ρ y h) hs2) hs) (c.bt _ (by decide)) (c.bt _ (by decide)) hg hgz hs0 hs hs2
  .cases h
theorem Tr.dix:∀{X:Cx}{a' b':Ex}{a b:ar}{p:aP}(hs:Y4 b),Tr X a' (.e a)->Tr X b' (.e b)->Tr X (.dix a' b') (.e (.Subscript a b p)):=by
 intro _ _ _ _ _ _ hs q0 q1;refine⟨λΓ G=>?_,λ_ _ _ _ _ _ h=>nomatch h⟩;have iha:=q0.m Γ G;have ihb:=q1.m Γ G;intro c g ρ r h;simp only[jld,Fy]at h;split at h
 .rename_i x y ex ey;split at h
  .rename_i kvs k ek eky;cases e:Yi kvs k with
   |none=>rw[e]at h;cases h
   |some n=>rw[e]at h;cases h;exact DE.dix (ek▸(iha c g ρ x ex).toT) (eky▸(ihb c g ρ y ey).toT) e hs
  .cases h
 .cases h
theorem Tr.enum:∀{X:Cx}{a':Ex}{a:ar}{es:List ar}{n:Nat}{p p2 pt:aP}(hg:Gl X "enumerate") (hs:ai [a] X.env=[(ae,aB a X.env)]),Tr X a' (.e a)->Tr X (.enum a') (.i (.Tuple es n pt) (.Call (.Name "enumerate" p) [a] [] p2)):=by
 intro _ _ _ _ _ _ _ _ hg hs q0;refine⟨λΓ G=>?_,λ_ _ _ _ _ _ _=>trivial⟩;have iha:=q0.m Γ G;intro c g ρ ds h;simp only[jie,j30]at h;split at h
 .rename_i x ex;have ha:=iha c g ρ x ex;split at h
  .rename_i l e1;cases h;exact DI.enum af (ha.toE e1) (c.bt _ (by decide)) hg hs
  .rename_i l e1;cases h;exact DI.enum ae (ha.toE e1) (c.bt _ (by decide)) hg hs
  .cases h
 .cases h
theorem Tr.isi1:∀{X:Cx}{a':Ex}{a:ar}{T:ao}{c:String}{p p1 p2:aP}(hT:T∈Vc) (hv:bg T=aa (.type c)) (hg:Gl X "isinstance") (hg2:Gl X T) (hn:T ≠ "__name__") (hd:(T==k7k)=ae) (hs:ai [a,.Name T p1] X.env=(ae,aB a X.env)::ai [.Name T p1] X.env),Tr X a' (.e a)->Tr X (.isi a' [c]) (.e (.Call (.Name "isinstance" p) [a,.Name T p1] [] p2)):=by
 intro _ _ _ _ _ _ _ _ hT hv hg hg2 hn hd hs q0;refine⟨λΓ G=>?_,λ_ _ _ _ _ _ h=>nomatch h⟩;have iha:=q0.m Γ G;intro c g ρ r h;simp only[jas,Fp]at h;split at h
 .rename_i x ex;cases e:qe x.d _ with
  |none=>rw[e]at h;cases h
  |some k =>
   rw[e]at h;cases h;refine DE.isi1 (iha c g ρ x ex).toT (j18 e) (c.bt _ (by decide)) (c.bt _ hT) hv ?_ hg hg2 hn hd hs rfl rfl;simp only[qe]at e;split at e
   .rename_i k1 k2 e1 e2;cases e2;cases e;rw[gq];exact j12 e1
   .cases e
 .cases h
theorem Tr.isi2:∀{X:Cx}{a':Ex}{a:ar}{T U:ao}{c d:String}{n:Nat}{p p1 p2 p3 p4:aP} (hT:T∈Vc) (hU:U∈Vc) (hv:bg T=aa (.type c)) (hw:bg U=aa (.type d)) (hg:Gl X "isinstance") (hg1:Gl X T) (hg2:Gl X U) (hn:T ≠ "__name__") (hd:(T==k7k)=ae) (hn2:U ≠ "__name__") (hd2:(U==k7k)=ae) (hs:ai [a,.Tuple [.Name T p1,.Name U p3] n p4] X.env=(ae,aB a X.env)::ai [.Tuple [.Name T p1,.Name U p3] n p4] X.env),Tr X a' (.e a)->Tr X (.isi a' [c,d]) (.e (.Call (.Name "isinstance" p) [a,.Tuple [.Name T p1,.Name U p3] n p4] [] p2)):=by
 intro _ _ _ _ _ _ _ _ _ _ _ _ _ hT hU hv hw hg hg1 hg2 hn hd hn2 hd2 hs q0;refine⟨λΓ G=>?_,λ_ _ _ _ _ _ h=>nomatch h⟩;have iha:=q0.m Γ G;intro c g ρ r h;simp only[jas,Fp]at h;split at h
 .rename_i x ex;cases e:qe x.d _ with
  |none=>rw[e]at h;cases h
  |some k =>rw[e]at h;cases h;exact DE.isi2 (iha c g ρ x ex).toT (j18 e) (c.bt _ (by decide)) (c.bt _ hT) (c.bt _ hU) hv hw (Ik e) hg hg1 hg2 hn hd hn2 hd2 hs rfl rfl rfl rfl
 .cases h
theorem Tr.c0:∀{X:Cx},Tr X .nil (.c []):=by intro _;refine⟨λΓ G=>?_,λ_ _ _ _ _ _ _=>trivial⟩;intro c g ρ;exact⟨λ_=>DTs.nil,λy k h=>by simp only[Wu]at h;cases h⟩
theorem Tr.c1:∀{X:Cx}{c':Ex}{c:ar},Tr X c' (.b c)->Tr X (.cons c' .nil) (.c [c]):=by
 intro _ _ _ q0;refine⟨λΓ G=>?_,λ_ _ _ _ _ _ _=>trivial⟩;have iha:=q0.m Γ G;intro c g ρ;refine⟨λh=>?_,λy k h hk=>DTs.one ?_⟩
 .simp only[Ur,Wu,consW]at h;split at h<;>cases h
 .simp only[Ur,Wu,consW]at h;split at h
  .rename_i x xs ex exs;cases exs;cases h;exact iha c g ρ k (by rw[ex];simp only[truth,hk])
  .cases h
theorem Tr.comp1:∀{X:Cx}{i:Nat}{y:ao}{py p:aP}{elt' it' c':Ex}{elt it:ar}{ifs:List ar} {scope:bG} (hq:X.calm=af) (hi:X.N[i]?=aa y) (hl:M3 scope y=af) (hkind:scope.kind=.function) (hok:Q0 scope X.env X.N [i]=af) (hs:∀x,aZ it X.env x=pure x),Tr X it' (.i (.Name y py) it)->(∀C s H fp pn,Tr (cCx X scope C s H fp pn) elt' (.e elt))->(∀C s H fp pn,Tr (cCx X scope C s H fp pn) c' (.c ifs))->Tr X (.comp [i] elt' it' c') (.e (.ListComp elt [⟨.Name y py,it,ifs,0⟩] scope p)):=by
 intro _ _ _ _ _ _ _ _ _ _ _ _ hq hi hl hkind hok hs q0 q1 q2;refine⟨λΓ G=>?_,λ_ _ _ _ _ _ h=>nomatch h⟩;have ihi:=q0.m Γ G;have ihe:=λC s H fp pn=>(q1 C s H fp pn).m Γ G;have ihc:=λC s H fp pn=>(q2 C s H fp pn).m Γ G;intro c g ρ r h;obtain⟨l,e,q⟩:=j35 hq c (λρ ds z=>ihi c g ρ ds z) hkind hok hs (λρ d ρ2 hb hun=>by
  simp only[vf]at hb
  cases hb
  have hu:=hun _ (X3.mpr rfl)
  exact⟨_,jq,Wk.set hu,Mx hu,λC s H fp pn=>DG.name _ c.nd hi (j0l hl) (j3s hl)⟩)
  (λC s H fp pn ρ r z=>ihe C s H fp pn c.comp g.comp ρ r z) (λC s H fp pn ρ=>ihc C s H fp pn c.comp g.comp ρ) h
 subst e;exact q
theorem Tr.seq:∀{X:Cx}{a':Ex}{tg a:ar},Tr X a' (.e a)->Tr X (.seq a') (.i tg a):=by
 intro _ _ _ _ q0;refine⟨λΓ G=>?_,λ_ _ _ _ _ _ _=>trivial⟩;have iha:=q0.m Γ G;intro c g ρ ds h;simp only[jl7,R8]at h;split at h
 .rename_i l e;cases h;exact DI.lst (iha c g ρ _ e)
 .rename_i l e;cases h;exact DI.tup (iha c g ρ _ e)
 .rename_i l e;cases h;exact DI.lst (DO.toE (iha c g ρ _ e))
 .rename_i y e;obtain⟨z,q⟩:=jz h;cases q;exact DI.str (iha c g ρ _ e).toT z
 .cases h
theorem Tr.range:∀{X:Cx}{es':Ex}{tg:ar}{es:List ar}{p p2:aP}(hg:Gl X "range"),Tr X es' (.a es)->Tr X (.range es') (.i tg (.Call (.Name "range" p) es [] p2)):=by
 intro _ _ _ _ _ _ hg q0;refine⟨λΓ G=>?_,λ_ _ _ _ _ _ _=>trivial⟩;have iha:=q0.m Γ G;intro c g ρ ds h;simp only[je1,Rg]at h;split at h
 .rename_i x ex;have q:=iha c g ρ _ ex;cases q with|cons hs hx t =>
  cases t;split at h
  .rename_i n en;obtain⟨z,q⟩:=jz h;cases q;exact DI.range1 (en▸hx.toT) (c.bt _ (by decide)) z.1 z.2 hg hs
  .cases h
 .rename_i x y ex;have q:=iha c g ρ _ ex;cases q with|cons hs hx t =>
  cases t with|cons hs2 hy t2 =>
  cases t2;split at h
  .rename_i m n em en;obtain⟨z,q⟩:=jz h;cases q;exact DI.range2 (em▸hx.toT) (en▸hy.toT) (c.bt _ (by decide)) z.1 z.2.1 z.2.2.1 z.2.2.2 hg (by rw[hs,hs2];rfl) hs2 hs
  .cases h
 .cases h
theorem Tr.zip:∀{X:Cx}{a' b':Ex}{a b:ar}{es:List ar}{n:Nat}{p p2 pt:aP}(hg:Gl X "zip") (hs:ai [a,b] X.env=(ae,aB a X.env)::ai [b] X.env) (hs2:ai [b] X.env=(ae,aB b X.env)::ai [] X.env),Tr X a' (.e a)->Tr X b' (.e b)->Tr X (.zip a' b') (.i (.Tuple es n pt) (.Call (.Name "zip" p) [a,b] [] p2)):=by
 intro _ _ _ _ _ _ _ _ _ _ hg hs hs2 q0 q1;refine⟨λΓ G=>?_,λ_ _ _ _ _ _ _=>trivial⟩;have iha:=q0.m Γ G;have ihb:=q1.m Γ G;intro c g ρ ds h;simp only[jl3,j6j]at h;split at h
 .rename_i x y ex ey;have ha:=iha c g ρ x ex;have hb:=ihb c g ρ y ey;have pl:∀{p2:aP},(aT p2 (ai [_] _)).any (·.1)=ae:=λ{p2}=>by rw[hs2];rfl
  split at h
  .rename_i l m e1 e2;cases h;exact DI.zip af af (ha.toE e1) (hb.toE e2) (c.bt _ (by decide)) hg hs hs2 pl
  .rename_i l m e1 e2;cases h;exact DI.zip af ae (ha.toE e1) (hb.toE e2) (c.bt _ (by decide)) hg hs hs2 pl
  .rename_i l m e1 e2;cases h;exact DI.zip ae af (ha.toE e1) (hb.toE e2) (c.bt _ (by decide)) hg hs hs2 pl
  .rename_i l m e1 e2;cases h;exact DI.zip ae ae (ha.toE e1) (hb.toE e2) (c.bt _ (by decide)) hg hs hs2 pl
  .cases h
 .cases h
theorem Tr.p0:∀{X:Cx},Tr X .nil (.p []):=by intro _;refine⟨λΓ G=>?_,λ_ _ _ _ _ _ _=>trivial⟩;intro c g ρ rs h;simp only[Wu]at h;cases h;trivial
theorem Tr.pC:∀{X:Cx}{y:ao}{n:Nat}{p:aP}{b':Ex}{es:List ar},Tr X b' (.p es)->Tr X (.cons (.lit (.str y)) b') (.p (.Constant (.str y) n p::es)):=by
 intro _ _ _ _ _ _ q0;refine⟨λΓ G=>?_,λ_ _ _ _ _ _ _=>trivial⟩;have ihb:=q0.m Γ G;intro c g ρ rs h;simp only[Ur,K3,consW]at h;split at h
 .rename_i x xs ex exs;cases h;cases ex;refine⟨λz hz=>?_,ihb c g ρ xs exs⟩;have hz:(if _ then aa _ else ah)=aa z:=hz;split at hz
  .cases hz;exact DE.str
  .cases hz
 .cases h
theorem Tr.pR:∀{X:Cx}{a' b':Ex}{a:ar}{p:aP}{es:List ar},Tr X a' (.e a)->Tr X b' (.p es)->Tr X (.cons (.rpr a') b') (.p (.FormattedValue a 114 ah p::es)):=by
 intro _ a' b' _ _ _ q0 q1;refine⟨λΓ G=>?_,λ_ _ _ _ _ _ _=>trivial⟩;have iha:=q0.m Γ G;have ihb:=q1.m Γ G;intro c g ρ rs h;rw[ev]at h;unfold consW at h;split at h
 .rename_i x xs ex exs;cases h;obtain⟨z,w,ez,ew,hl,rfl⟩:=jf1 ex;refine⟨λy hy=>?_,ihb c g ρ xs exs⟩;have hy:(if (bX w).length<=10000 then aa (bX w)else ah)=aa y:=hy;rw[if_pos (Xf hl (by decide))]at hy;cases hy;exact DE.fmtR (ew▸(iha c g ρ z ez).toT) (Xf hl (by decide))
 .cases h
theorem Tr.sti:∀{X:Cx}{a':Ex}{a:ar}{p pos:aP}(hg:Gl X "str") (hs:ai [a] X.env=[(ae,aB a X.env)]),Tr X a' (.e a)->Tr X (.sti a') (.e (.Call (.Name "str" p) [a] [] pos)):=by
 intro _ _ _ _ _ hg hs q0;refine⟨λΓ G=>?_,λ_ _ _ _ _ _ h=>nomatch h⟩;have iha:=q0.m Γ G;intro c g ρ r h;simp only[jl6,Kc]at h;split at h
 .rename_i x ex;split at h
  .rename_i i ei;obtain⟨z,q⟩:=jz h;cases q;exact DE.strI (ei▸(iha c g ρ x ex).toT) (log2_small z) (c.bt _ (by decide)) hg hs
  .cases h
 .cases h
theorem Tr.pF:∀{X:Cx}{a' b':Ex}{a:ar}{p:aP}{es:List ar},Tr X a' (.e a)->Tr X b' (.p es)->Tr X (.cons a' b') (.p (.FormattedValue a (-1) ah p::es)):=by
 intro _ _ _ _ _ _ q0 q1;refine⟨λΓ G=>?_,λ_ _ _ _ _ _ _=>trivial⟩;have iha:=q0.m Γ G;have ihb:=q1.m Γ G;intro c g ρ rs h;simp only[Ur,consW]at h;split at h
 .rename_i x xs ex exs;cases h;exact⟨λy hy=>DE.fmt (iha c g ρ x ex).toT hy,ihb c g ρ xs exs⟩
 .cases h
theorem Tr.fst:∀{X:Cx}{es':Ex}{a b:ar}{es:List ar}{p:aP},Tr X es' (.p (a::b::es))->Tr X (.fst es') (.e (.JoinedStr (a::b::es) p)):=by
 intro _ _ _ _ _ _ q0;refine⟨λΓ G=>?_,λ_ _ _ _ _ _ h=>nomatch h⟩;have ih:=q0.m Γ G;intro c g ρ r h;simp only[jlc,j2x]at h;split at h
 .rename_i rs ers;split at h
  .rename_i hl;cases e:Qh rs with
   |none=>rw[e]at h;cases h
   |some ys =>rw[e]at h;cases h;obtain⟨z1,z2⟩:=(ih c g ρ rs ers).all e;exact DE.joined z1 (Mv e) (by rw[z2];exact hl)
  .cases h
 .cases h
section
variable{Γ:ao->List D->Rc}{G:ao->Option D}{X:Cx}
theorem sound{t:Ex}{nd:Nd}(h:Tr X t nd):Cok X G->Gok X Γ->jio Γ G X t nd:=h.m Γ G
theorem Ke{t:Ex}{nd:Nd}(h:Tr X t nd):Cok X G->Gok X Γ->∀ρ y,er Γ G t (j7 ρ)=aa y->XM X ρ y nd:=h.x Γ G
end
inductive Px where
 |nop
 |set (i:Nat) (e:Ex) (r:Px)
 |keep (i:Nat) (r:Px)
 |ifRet (c e:Ex) (r:Px)
 |ifRai (c:Ex) (x:ao) (m:Ex) (r:Px)
 |ifCal (c:Ex) (f:ao) (es:Ex) (r:Px)
 |ret (e:Ex)
 |take (i:Nat) (r:Px)
 |takeE (r:Px)
 |takeIf (i:Nat) (c e:Ex) (r:Px)
 |callS (i:Nat) (f:ao) (es:Ex) (r:Px)
 |appC (i:Nat) (f:ao) (es:Ex) (r:Px)
 |whlA (y:ao) (b r:Px)
 |ifAll (x:ao) (m:Ex) (r:Px)
inductive Sx where
 |nop
 |seq (a b:Sx)
 |set (i:Nat) (e:Ex)
 |mov (i j:Nat)
 |expr (e:Ex)
 |ret (e:Ex)
 |retV (i:Nat)
 |ife (c:Ex) (a b:Sx)
 |loop (is:List Nat) (it:Ex) (body:Sx)
 |whl (c:Ex) (body:Sx)
 |app (i:Nat) (e:Ex)
 |ext (i:Nat) (e:Ex)
 |clr (i:Nat)
 |fgt (i:Nat)
 |keep (i:Nat)
 |dcp (i j:Nat) (k e:Ex)
 |taken (h q:Nat) (a b c t:Ex)
 |unp (i j:Nat) (e:Ex)
 |unp3 (i j k:Nat) (e:Ex)
 |dmake (x t y:Nat) (it e:Ex)
 |ioN (es e:Ex)
 |retL (x:ao) (is:List Nat)
 |retC (f x:ao) (a b:Ex) (is:List Nat)
 |nmake (x t y:Nat) (it e1 e2:Ex)
 |pop3 (i j k w:Nat)
 |apop (i w:Nat) (e:Ex)
 |wmake (x t:Nat) (it e:Ex)
 |lent (h:Nat) (ea eb:Ex) (mid b:Sx)
 |lend (k p f:Nat) (b r:Sx)
 |px (p:Px)
 |newP (pi:Nat) (te:Ex) (p:Px)
 |raise (x:ao) (e:Ex)
 |fail
inductive So where
 |next (ρ:En)
 |ret (r:Rc)
 |brk (ρ:En)
 |cnt (ρ:En)
 |err (x:ao) (ρ:En)
 |no
noncomputable def orE(o:So)(x:Option ao)(ρ:En):So:=match o with
 |.no=>match x with
  |some y=>.err y ρ
  |none=>.no
 |o=>o
noncomputable def vo(f:D->En->So):List D->En->So
 |[],ρ=>.next ρ
 |d::ds,ρ=>match f d ρ with
  |.next ρ'=>vo f ds ρ'
  |.cnt ρ'=>vo f ds ρ'
  |.brk ρ'=>.next ρ'
  |.ret r=>.ret r
  |.err x ρ'=>.err x ρ'
  |.no=>.no
noncomputable def Y5(c:En->Option Bool)(f:En->So):Nat->En->So
 |0,_=>.no
 |n+1,ρ=>match c ρ with
  |some ae=>.next ρ
  |some af=>match f ρ with
   |.next ρ'=>Y5 c f n ρ'
   |.cnt ρ'=>Y5 c f n ρ'
   |.brk ρ'=>.next ρ'
   |.ret r=>.ret r
   |.err x ρ'=>.err x ρ'
   |.no=>.no
  |none=>.no
noncomputable def stOf:Option W->Option D
 |some (.v x)=>x.st
 |_=>ah
noncomputable def j34(f:En->Option D)(t y:Nat):List D->En->List (List Int)->List D->Option (List (List Int)×List D)
 |[],_,ks,vs=>aa (ks,vs)
 |d::ds,ρ,ks,vs=>match d with
  |.tup l=>match intsOf l,f (ρ.set t (.val d)) with
   |some k,aa d'=>if d'.isNon=af then j34 f t y ds ((ρ.set t (.val d)).set y (.val d')) ks vs
    else if ks.contains k=ae/\ks.length<au then j34 f t y ds ((ρ.set t (.val d)).set y (.val d')) (ks++[k]) (vs++[d'])else ah
   |_,_=>ah
  |_=>ah
noncomputable def ja7(f1 f2:En->Option D)(x t y:Nat):List D->En->List (List Int)->List Int->Option (List (List Int)×List Int)
 |[],_,ks,ns=>aa (ks,ns)
 |d::ds,ρ,ks,ns=>match d with
  |.tup l=>match intsOf l,f1 (ρ.set t (.val d)) with
   |some k,aa d1=>match f2 (((ρ.set t (.val d)).set y (.val d1)).set x (.val (.dct ks (ns.map D.int)))) with
    |some (.int n)=>if ks.contains k=ae/\ks.length<au then ja7 f1 f2 x t y ds ((ρ.set t (.val d)).set y (.val d1)) (ks++[k]) (ns++[n])else ah
    |_=>ah
   |_,_=>ah
  |_=>ah
noncomputable def j9y(f2:En->Option D)(x t:Nat):List D->En->List (List Int)->List Int->Option (List (List Int)×List Int)
 |[],_,ks,ns=>aa (ks,ns)
 |d::ds,ρ,ks,ns=>match d with
  |.tup l=>match intsOf l,f2 ((ρ.set t (.val d)).set x (.val (.dct ks (ns.map D.int)))) with
   |some k,aa (.int n)=>if ks.contains k=ae/\ks.length<au then j9y f2 x t ds (ρ.set t (.val d)) (ks++[k]) (ns++[n])else ah
   |_,_=>ah
  |_=>ah
noncomputable def K4(ρ:En):List Nat->Option (List D)
 |[]=>aa []
 |i::is=>match ρ[i]?,K4 ρ is with
  |some (.val d),aa ds=>aa (d::ds)
  |_,_=>ah
noncomputable def Uw(i:Nat)(w:Option W)(ρ:En):So:=match w with
 |some (.v (.o l))=>.next (ρ.set i (.own l))
 |some (.v x)=>match x.st with
  |some d=>.next (ρ.set i (.val d))
  |none=>.no
 |_=>.no
noncomputable def retS(w:Option W):So:=match w with
 |some (.v (.o l))=>.ret (.fresh l)
 |some (.v x)=>.ret (.val x.d)
 |_=>.no
noncomputable def M5(s:Option Sv):So:=match s with
 |some (.own l)=>.ret (.fresh l)
 |some (.val d)=>.ret (.val d)
 |_=>.no
noncomputable def Ia(i j:Nat)(s:Option Sv)(ρ:En):So:=match s with
 |some (.own l)=>if i=j then .no else .next ((ρ.set j .un).set i (.own l))
 |some (.val d)=>.next (ρ.set i (.val d))
 |_=>.no
noncomputable def Eb(w:Option W)(ρ:En):So:=match w with
 |some (.v _)=>.next ρ
 |_=>.no
noncomputable def Ry(i:Nat)(s:Option Sv)(w:Option W)(ρ:En):So:=match s,w with
 |some (.own l),aa (.v x)=>match x.st with
  |some d=>if l.length<au then .next (ρ.set i (.own (l++[d])))else .no
  |none=>.no
 |_,_=>.no
noncomputable def Fx(i:Nat)(s:Option Sv)(w:Option W)(ρ:En):So:=match s,w with
 |some (.own l),aa (.v (.o m))=>if jm (l.length+m.length)=af then .next (ρ.set i (.own (l++m)))else .no
 |_,_=>.no
noncomputable def Em(i:Nat)(s:Option Sv)(ρ:En):So:=match s with
 |some (.own l)=>.next (ρ.set i (.own []))
 |_=>.no
noncomputable def j7u(x:ao)(w:Option W)(d:Option D)(ρ:En):So:=match w,d with
 |some (.v _),aa _=>.err x ρ
 |_,_=>.no
noncomputable def jlp(i j:Nat)(d:Option D)(ρ:En):So:=match d with
 |some (.tup [d,d'])=>if i=j then .no else .next ((ρ.set i (.val d)).set j (.val d'))
 |_=>.no
noncomputable def Bb(i j k:Nat)(d:Option D)(ρ:En):So:=match d with
 |some (.lst [a,b,c])=>.next (((ρ.set i (.val a)).set j (.val b)).set k (.val c))
 |_=>.no
noncomputable def Ma(i:Nat)(v:Option Sv)(ρ:En):So:=match v with
 |some (.own l)=>.next (ρ.set i (.val (.lst l)))
 |some (.val _)=>.next ρ
 |_=>.no
noncomputable def jmy(i j:Nat)(v:Option Sv)(k e:Option W)(ρ:En):So:=if i≠j/\i<ρ.length then match v with
  |some (.val (.sct kvs))=>match k,e with
   |some (.v y),aa (.v x)=>match y.d,x.d with
    |.str z,.int n=>if kvs.length<au then .next (ρ.set i (.val (.sct (dput kvs z n))))else .no
    |_,_=>.no
   |_,_=>.no
  |_=>.no
 else .no
noncomputable def jjc(x:ao)(v:Option (List D)):So:=match v with
 |some ds=>.ret (.val (.fn x ds))
 |none=>.no
noncomputable def jje(r:Rc):So:=match r with
 |.val d=>if noFn d=af then .ret (.val d)else .no
 |_=>.no
noncomputable def jjd(Γ:ao->List D->Rc)(f x:ao)(v:Option (List D))(a b:Option W):So:=match v,a,b with
 |some ds,aa (.v u),aa (.v v)=>jje (Γ f [u.d,v.d,.fn x ds])
 |_,_,_=>.no
noncomputable def popS(i j k w:Nat)(s:Option Sv)(ρ:En):So:=match s with
 |some (.own l)=>match l.getLast? with
  |some (.tup [a,b,c])=>.next ((((ρ.set w (.own l.dropLast)).set i (.val a)).set j (.val b)).set k (.val c))
  |_=>.no
 |_=>.no
noncomputable def jl1(i w:Nat)(s t:Option Sv)(x:Option W)(ρ:En):So:=match s,t,x with
 |some (.own l),aa (.own m),aa (.v y)=>match y.st with
  |some (.int z)=>match ixN m.length z with
   |some k=>match m[k]? with
    |some d=>if i≠w/\l.length<au/\m.length<=1000000 then .next ((ρ.set w (.own (m.eraseIdx k))).set i (.own (l++[d])))else .no
    |none=>.no
   |none=>.no
  |_=>.no
 |_,_,_=>.no
noncomputable def Wr:Sx->List Nat
 |.seq a b=>Wr a++Wr b
 |.set i _=>[i]
 |.ife _ a b=>Wr a++Wr b
 |_=>[]
noncomputable def Ra(Γ:ao->List D->Rc)(G:ao->Option D):Sx->En->Option En
 |.nop,ρ=>aa ρ
 |.seq a b,ρ=>match Ra Γ G a ρ with
  |some r=>Ra Γ G b r
  |none=>ah
 |.set i e,ρ=>match stOf (ev Γ G e ρ) with
  |some d=>aa (ρ.set i (.val d))
  |none=>ah
 |.ife c a b,ρ=>match truth (ev Γ G c ρ) with
  |some af=>Ra Γ G a ρ
  |some ae=>Ra Γ G b ρ
  |none=>ah
 |_,_=>ah
noncomputable def plainS:Sv->Bool
 |.val _=>af
 |.un=>af
 |_=>ae
noncomputable def jab(s:Option Sv)(t:Bool):Sv:=match s with
 |some (.val d)=>if t=af then(if Jl d=af then .val d else .un)else .val d
 |_=>.un
noncomputable def jk3(h:Nat)(is:List Nat)(ρ r:En):En:=(aK ρ.length).map λj=>if j=h then .un else if j∈is then jab r[j]? af else jab ρ[j]? ae
noncomputable def jk2(h:Nat)(is:List Nat)(ρ:En)(a:Option D)(b:Option W)(m:En->Option En)(k:En->So):So:=match a,b with
 |some d0,aa (.v (.o lb))=>match m (ρ.set h (.val (.lst [d0,.lst lb]))) with
  |some r=>if h<ρ.length/\h∉is/\r.length=ρ.length/\r.all plainS=af then k (jk3 h is ρ r)else .no
  |none=>.no
 |_,_=>.no
noncomputable def jaa(m:D->En->Option En):List D->En->Option En
 |[],ρ=>aa ρ
 |d::ds,ρ=>match m d ρ with
  |some ρ'=>jaa m ds ρ'
  |none=>ah
noncomputable def bindM(is:List Nat)(m:En->Option En)(d:D)(ρ:En):Option En:=match vf is d ρ with
 |some ρ2=>m ρ2
 |none=>ah
noncomputable def jk4(k p f:Nat)(is:List Nat)(s:Option Sv)(ρ:En)(m:D->En->Option En)(r:En->So):So:=match s with
 |some (.own l)=>if qj l=af/\f∉is/\f≠k/\f≠p then match jaa m (Vr l) ρ with
   |some ρ'=>r (ρ'.set f (.own []))
   |none=>.no
  else .no
 |_=>.no
inductive Sm where
 |next (ρ:En) (k:Nat)
 |ret (d:D) (k:Nat)
 |err (x:ao) (ρ:En)
 |no
noncomputable def Z8(f g:En->Nat->Sm)(y:ao)(ls:List ao):Nat->En->Nat->Sm
 |0,_,_=>.no
 |n+1,ρ,k=>if ls.getD k "" = y then g ρ k else match f ρ k with
  |.next ρ' k'=>Z8 f g y ls n ρ' k'
  |.ret d k'=>.ret d k'
  |.err x ρ'=>.err x ρ'
  |.no=>.no
noncomputable def Vs(Γ:ao->List D->Rc)(ls:List ao)(f:ao)(a:Option W)(k:Nat):Rc:=match a with
 |some (.a rs)=>match J0 rs with
  |some ds=>Γ (mq f) (.lst (ls.map D.str)::.int (k:Int)::ds)
  |none=>.no
 |_=>.no
noncomputable def j1w(i:Nat)(w:Option W)(ρ:En)(r:En->Sm):Sm:=match w with
 |some (.v (.o l))=>r (ρ.set i (.own l))
 |some (.v x)=>match x.st with
  |some d=>r (ρ.set i (.val d))
  |none=>.no
 |_=>.no
noncomputable def jk8(i:Nat)(s:Option Sv)(ρ:En)(r:En->Sm):Sm:=match s with
 |some (.own l)=>r (ρ.set i (.val (.lst l)))
 |some (.val _)=>r ρ
 |_=>.no
noncomputable def Nx(w:Option W)(k:Nat):Sm:=match w with
 |some (.v (.o _))=>.no
 |some (.v x)=>.ret x.d k
 |_=>.no
noncomputable def W2(x:ao)(w:Option W)(d:Option D)(ρ:En):Sm:=match w,d with
 |some (.v _),aa _=>.err x ρ
 |_,_=>.no
noncomputable def ifP(c:Option Bool)(a b:Sm):Sm:=match c with
 |some af=>a
 |some ae=>b
 |none=>.no
noncomputable def Wm(G:ao->Option D)(r:Rc)(ρ:En)(f:D->Nat->Sm):Sm:=match r with
 |.mval d k=>f d k
 |.merr x=>if (G (bang x)).isSome=af then .err x ρ else .no
 |_=>.no
noncomputable def j3d(i:Nat)(s:Option Sv)(ρ:En)(d:D)(r:En->Sm):Sm:=match s with
 |some (.own l)=>if l.length<au then r (ρ.set i (.own (l++[d])))else .no
 |_=>.no
noncomputable def j2e(s:Option Sv)(r:Sm):Sm:=match s with
 |some (.own _)=>r
 |_=>.no
noncomputable def j1m(i:Nat)(d:Option D)(ρ:En)(r:En->Sm):Sm:=match d with
 |some d=>r (ρ.set i (.val d))
 |none=>.no
noncomputable def jd(fu:Nat)(Γ:ao->List D->Rc)(G:ao->Option D)(ls:List ao):Px->En->Nat->Sm
 |.nop,ρ,k=>.next ρ k
 |.set i e r,ρ,k=>j1w i (ev Γ G e ρ) ρ λρ=>jd fu Γ G ls r ρ k
 |.keep i r,ρ,k=>jk8 i ρ[i]? ρ λρ=>jd fu Γ G ls r ρ k
 |.ifRet c e r,ρ,k=>ifP (truth (ev Γ G c ρ)) (Nx (ev Γ G e ρ) k) (jd fu Γ G ls r ρ k)
 |.ifRai c x m r,ρ,k=>ifP (truth (ev Γ G c ρ)) (W2 x (ev Γ G m ρ) (G (bang x)) ρ) (jd fu Γ G ls r ρ k)
 |.ifCal c f es r,ρ,k=>ifP (truth (ev Γ G c ρ)) (Wm G (Vs Γ ls f (ev Γ G es ρ) k) ρ Sm.ret) (jd fu Γ G ls r ρ k)
 |.ret e,ρ,k=>Nx (ev Γ G e ρ) k
 |.take i r,ρ,k=>jd fu Γ G ls r (ρ.set i (.val (.str (ls.getD k "")))) (k+1)
 |.takeE r,ρ,k=>jd fu Γ G ls r ρ (k+1)
 |.takeIf i c e r,ρ,k=>ifP (truth (ev Γ G c ρ)) (jd fu Γ G ls r (ρ.set i (.val (.str (ls.getD k "")))) (k+1)) (j1m i (stOf (ev Γ G e ρ)) ρ λρ=>jd fu Γ G ls r ρ k)
 |.callS i f es r,ρ,k=>Wm G (Vs Γ ls f (ev Γ G es ρ) k) ρ λd k'=>jd fu Γ G ls r (ρ.set i (.val d)) k'
 |.appC i f es r,ρ,k=>j2e ρ[i]? (Wm G (Vs Γ ls f (ev Γ G es ρ) k) ρ λd k'=>j3d i ρ[i]? ρ d λρ=>jd fu Γ G ls r ρ k')
 |.whlA y b r,ρ,k=>Z8 (λρ k=>jd fu Γ G ls b ρ k) (λρ k=>jd fu Γ G ls r ρ k) y ls fu ρ k
 |.ifAll x m r,ρ,k=>if ls.length<=k then jd fu Γ G ls r ρ k else W2 x (ev Γ G m ρ) (G (bang x)) ρ
noncomputable def pxS(l k:Option Sv)(r:List ao->Nat->Sm):So:=match l,k with
 |some (.val (.lst l)),aa (.val (.int k))=>match strsOf l with
  |some ls=>if 0<=k then match r ls k.toNat with
    |.ret d k'=>.ret (.mval d k')
    |.err x _=>.ret (.merr x)
    |_=>.no
   else .no
  |none=>.no
 |_,_=>.no
noncomputable def newS(b:Bool)(w:Option W)(g:Option D)(r:List ao->Sm):So:=match b,w,g with
 |true,aa (.v x),aa _=>match x.d with
  |.str t=>if t.length<=100000/\jm (aF t " ").length=af then match r (aF t " ") with
    |.next ρ' _=>.next ρ'
    |.ret d _=>.ret (.val d)
    |.err x ρ'=>.err x ρ'
    |.no=>.no
   else .no
  |_=>.no
 |_,_,_=>.no
noncomputable def run(fu:Nat)(Γ:ao->List D->Rc)(G:ao->Option D):Sx->En->So
 |.nop,ρ=>.next ρ
 |.seq a b,ρ=>match run fu Γ G a ρ with
  |.next ρ'=>run fu Γ G b ρ'
  |o=>o
 |.set i e,ρ=>orE (Uw i (ev Γ G e ρ) ρ) (er Γ G e ρ) ρ
 |.mov i j,ρ=>Ia i j ρ[j]? ρ
 |.expr e,ρ=>orE (Eb (ev Γ G e ρ) ρ) (er Γ G e ρ) ρ
 |.ret e,ρ=>orE (retS (ev Γ G e ρ)) (er Γ G e ρ) ρ
 |.retV i,ρ=>M5 ρ[i]?
 |.ife c a b,ρ=>match truth (ev Γ G c ρ) with
  |some af=>run fu Γ G a ρ
  |some ae=>run fu Γ G b ρ
  |none=>.no
 |.loop is it body,ρ=>match ev Γ G it (frz it ρ) with
  |some (.i ds)=>vo (λd ρ=>match vf is d ρ with
   |some ρ2=>run fu Γ G body ρ2
   |none=>.no) ds (frz it ρ)
  |_=>.no
 |.whl c body,ρ=>Y5 (λρ=>truth (ev Γ G c ρ)) (λρ=>run fu Γ G body ρ) fu ρ
 |.app i e,ρ=>Ry i ρ[i]? (ev Γ G e ρ) ρ
 |.ext i e,ρ=>Fx i ρ[i]? (ev Γ G e ρ) ρ
 |.clr i,ρ=>Em i ρ[i]? ρ
 |.fgt i,ρ=>.next (ρ.set i .un)
 |.keep i,ρ=>Ma i ρ[i]? ρ
 |.px p,ρ=>pxS ρ[0]? ρ[1]? λls k=>jd fu Γ G ls p (.exc rfN::ρ.drop 2) k
 |.newP pi te p,ρ=>newS (decide (pi<ρ.length)) (ev Γ G te ρ) (G (qm "Pieces")) λls=>jd fu Γ G ls p (ρ.set pi (.exc rfN)) 0
 |.lend k p f b r,ρ=>jk4 k p f (Wr b) ρ[f]? ρ (bindM [k,p] (Ra Γ G b)) (run fu Γ G r)
 |.lent h ea eb mid b,ρ=>jk2 h (Wr mid) ρ (stOf (ev Γ G ea ρ)) (ev Γ G eb ρ) (Ra Γ G mid) (run fu Γ G b)
 |.dcp i j k e,ρ=>jmy i j ρ[j]? (ev Γ G k (ρ.set i .un)) (ev Γ G e (ρ.set i .un)) ρ
 |.taken h q a b e t,ρ=>if h≠q/\h<ρ.length then match ev Γ G a ρ,ev Γ G b ρ with
   |some (.v (.o la)),aa (.v (.o lb))=>match ev Γ G e (ρ.set h (.val (.lst [.lst la,.lst lb]))) with
    |some (.v x)=>match x.st with
     |some d=>if Jl d=af/\truth (ev Γ G t ((ρ.set h (.val (.lst [.lst la,.lst lb]))).set q (.val d)))=aa ae then .next ((ρ.set h (.val (.lst [.lst la.reverse,.lst []]))).set q (.val d))else .no
     |none=>.no
    |_=>.no
   |_,_=>.no
  else .no
 |.unp i j e,ρ=>jlp i j (stOf (ev Γ G e ρ)) ρ
 |.unp3 i j k e,ρ=>Bb i j k (stOf (ev Γ G e ρ)) ρ
 |.dmake x t y it e,ρ=>if x<ρ.length/\t<ρ.length/\y<ρ.length/\x≠t/\x≠y/\t≠y then match ev Γ G it (ρ.set x .un) with
   |some (.i ds)=>match j34 (λρ=>stOf (ev Γ G e ρ)) t y ds (ρ.set x .un) [] [] with
    |some r=>.ret (.val (.dct r.1 r.2))
    |none=>.no
   |_=>.no
  else .no
 |.ioN es e,ρ=>match G (qm "_law_plan"),ev Γ G es ρ,ev Γ G e ρ with
  |some _,aa (.a [x,y,z]),aa (.v (.o [.int n]))=>match x.d,y.d,z.d with
   |.lst ls,.int dW,.int k=>match strsOf ls with
    |some ws=>if 0<=k/\k<=5/\ws.length<=60 then .ret (.val (Yt k.toNat ws dW n).1)else .no
    |none=>.no
   |_,_,_=>.no
  |_,_,_=>.no
 |.retL x is,ρ=>jjc x (K4 ρ is)
 |.retC f x a b is,ρ=>jjd Γ f x (K4 ρ is) (ev Γ G a ρ) (ev Γ G b ρ)
 |.nmake x t y it e1 e2,ρ=>if x<ρ.length/\t<ρ.length/\y<ρ.length/\x≠t/\x≠y/\t≠y then match ev Γ G it (ρ.set x .un) with
   |some (.i ds)=>match ja7 (λρ=>stOf (ev Γ G e1 ρ)) (λρ=>stOf (ev Γ G e2 ρ)) x t y ds (ρ.set x .un) [] [] with
    |some r=>.ret (.val (.dct r.1 (r.2.map D.int)))
    |none=>.no
   |_=>.no
  else .no
 |.wmake x t it e,ρ=>if x<ρ.length/\t<ρ.length/\x≠t then match ev Γ G it (ρ.set x .un) with
   |some (.i ds)=>match j9y (λρ=>stOf (ev Γ G e ρ)) x t ds (ρ.set x .un) [] [] with
    |some r=>.ret (.val (.dct r.1 (r.2.map D.int)))
    |none=>.no
   |_=>.no
  else .no
 |.apop i w e,ρ=>jl1 i w ρ[i]? ρ[w]? (ev Γ G e ρ) ρ
 |.pop3 i j k w,ρ=>popS i j k w ρ[w]? ρ
 |.raise x e,ρ=>j7u x (ev Γ G e ρ) (G (bang x)) ρ
 |.fail,_=>.no
section
variable{Γ:ao->List D->Rc}{G:ao->Option D}{ρ:En}{fu:Nat}
theorem j3f{a b}:run fu Γ G (.seq a b) ρ=(match run fu Γ G a ρ with
  |.next ρ'=>run fu Γ G b ρ'
  |o=>o):=(rfl)
theorem jaw{i e}:run fu Γ G (.set i e) ρ=(orE (Uw i (ev Γ G e ρ) ρ) (er Γ G e ρ) ρ):=(rfl)
theorem jlg{i j}:run fu Γ G (.mov i j) ρ=(Ia i j ρ[j]? ρ):=(rfl)
theorem jin{e}:run fu Γ G (.expr e) ρ=(orE (Eb (ev Γ G e ρ) ρ) (er Γ G e ρ) ρ):=(rfl)
theorem jax{e}:run fu Γ G (.ret e) ρ=(orE (retS (ev Γ G e ρ)) (er Γ G e ρ) ρ):=(rfl)
theorem jij{i}:run fu Γ G (.retV i) ρ=(M5 ρ[i]?):=(rfl)
theorem jlh{c a b}:run fu Γ G (.ife c a b) ρ=(match truth (ev Γ G c ρ) with
  |some af=>run fu Γ G a ρ
  |some ae=>run fu Γ G b ρ
  |none=>.no):=(rfl)
theorem jil{is it body}:run fu Γ G (.loop is it body) ρ=(match ev Γ G it (frz it ρ) with
  |some (.i ds)=>vo (λd ρ=>match vf is d ρ with
   |some ρ2=>run fu Γ G body ρ2
   |none=>.no) ds (frz it ρ)
  |_=>.no):=(rfl)
theorem jlf{c body}:run fu Γ G (.whl c body) ρ=(Y5 (λρ=>truth (ev Γ G c ρ)) (λρ=>run fu Γ G body ρ) fu ρ):=(rfl)
theorem jll{i e}:run fu Γ G (.app i e) ρ=(Ry i ρ[i]? (ev Γ G e ρ) ρ):=(rfl)
theorem jlj{i e}:run fu Γ G (.ext i e) ρ=(Fx i ρ[i]? (ev Γ G e ρ) ρ):=(rfl)
theorem jlk{i}:run fu Γ G (.clr i) ρ=(Em i ρ[i]? ρ):=(rfl)
theorem jli{i}:run fu Γ G (.fgt i) ρ=(.next (ρ.set i .un)):=(rfl)
theorem jim{i}:run fu Γ G (.keep i) ρ=(Ma i ρ[i]? ρ):=(rfl)
theorem jik {pi te p}:run fu Γ G (.newP pi te p) ρ=(newS (decide (pi<ρ.length)) (ev Γ G te ρ) (G (qm "Pieces")) λls=>jd fu Γ G ls p (ρ.set pi (.exc rfN)) 0):=(rfl)
theorem jii{i j k e}:run fu Γ G (.unp3 i j k e) ρ=(Bb i j k (stOf (ev Γ G e ρ)) ρ):=(rfl)
theorem je2{x e}:run fu Γ G (.raise x e) ρ=(j7u x (ev Γ G e ρ) (G (bang x)) ρ):=(rfl)
end
def jn7(X:Cx):List (ao×ak)->List Nat->Prop
 |[],is=>is=[]
 |p::cl,is=>∃(i:Nat)(r:List Nat),is=i::r/\X.N[i]?=aa p.1/\X.env.scope.names.lookup p.1=aa .cell/\X.env.cells.lookup p.1=aa p.2/\X.fn p.1=af/\jn7 X cl r
inductive Ns where
 |s (st:aQ)
 |ss (sts:List aQ)
def TMs(X:Cx)(b:Sx)(ss:List aQ):Prop:=∀(Γ:ao->List D->Rc)(G:ao->Option D),Cok X G->Gok X Γ->∀(ρ:Rho)(r:En),Ra Γ G b (j7 ρ)=aa r->∃ρ',j7 ρ'=r/\DMs X ρ ρ' (Wr b) ss/\Kp ρ ρ' (Wr b)
def TMt(X:Cx)(b:Sx)(full tl:List aQ):Prop:=∀(Γ:ao->List D->Rc)(G:ao->Option D),Cok X G->Gok X Γ->∀(ρ:Rho)(r:En),Ra Γ G b (j7 ρ)=aa r->∃ρ',j7 ρ'=r/\DMt X ρ ρ' (Wr b) full tl
def Zk(pi:Nat)(o:Ob)(s:Sm)(P:Pm):Prop:=match s with
 |.next ρ' k=>∀ρ2,j7 ρ2=ρ'->(∃ob,ρ2[pi]?=aa (.raw o.a ob rfN))->P.nx ρ2 k
 |.ret d k=>P.rt d k
 |.err x ρ'=>∀ρ2,j7 ρ2=ρ'->P.ex x ρ2
 |.no=>False
def MP(X:Cx)(pi:Nat)(p:Px)(sts:List aQ):Prop:=∀(fu:Nat)(Γ:ao->List D->Rc)(G:ao->Option D),Cok X G->Gok X Γ->∀C,X.mg "Pieces" = aa (.ref C)->PcX X C->∀(o:Ob)(ls:List ao)(ρ:Rho)(k:Nat)(P:Pm),
 (∃ob,ρ[pi]?=aa (.raw o.a ob rfN))->Zk pi o (jd fu Γ G ls p (j7 ρ) k) P->MSs X C o ls ρ k sts P
noncomputable def Rt.rc:Rt->Rc
 |.val d=>.val d
 |.fresh l=>.fresh l
def Zm(o:So)(P:Po):Prop:=match o with
 |.next ρ'=>∀ρ2,j7 ρ2=ρ'->P.nx ρ2
 |.ret r=>∀x:Rt,x.rc=r->P.rt x
 |.brk ρ'=>∀ρ2,j7 ρ2=ρ'->P.bk ρ2
 |.cnt ρ'=>∀ρ2,j7 ρ2=ρ'->P.ct ρ2
 |.err x ρ'=>∀ρ2,j7 ρ2=ρ'->P.ex x ρ2
 |.no=>False
theorem Yr{o:So}{x:Option ao}{ρ:En}{P:Po}(h:Zm (orE o x ρ) P):Zm o P\/∃y,x=aa y/\∀ρ2,j7 ρ2=ρ->P.ex y ρ2:=by
 cases o with
 |no =>
  cases x with
  |none=>exact h.elim
  |some y=>exact .inr ⟨y,rfl,h⟩
 |_=>exact .inl h
def jay(fu:Nat)(Γ:ao->List D->Rc)(G:ao->Option D)(X:Cx)(t:Sx):Ns->Prop
 |.s st=>∀ρ P,Zm (run fu Γ G t (j7 ρ)) P->DS X ρ st P
 |.ss sts=>∀ρ P,Zm (run fu Γ G t (j7 ρ)) P->DSs X ρ sts P
section
variable{K:k7g}{ρ:Rho}{σ:St}{H:Hp}{i j:Nat}{a:ak}{l:List D}
theorem Rep.move(R:Rep K ρ σ H)(hj:ρ[j]?=aa (.own a l))(hij:i≠j):Rep K ((ρ.set j .un).set i (.own a l)) (σ.set i (aa (.ref a))) H:=by
 have s1:(owns (ρ.set j .un)).Sublist (owns ρ):=j9 rfl;have na:a∉owns (ρ.set j .un):=λz=>by
  obtain⟨k,l',q⟩:=V1 z;rcases getElem?_set_of q with ⟨_,z,_⟩|⟨n,q⟩
  .cases z
  .exact n (Yg R.nd hj q)
 obtain⟨nd,sub⟩:=Jp (ds:=l) (i:=i) (s1.nodup R.nd) na;have g:j4 (del H (owns ρ)) (del H (owns ((ρ.set j .un).set i (.own a l)))):=z9 λb hb=>by
  rcases sub b hb with e|z
  .exact e▸Jt hj
  .exact s1.subset z
 refine⟨by simp[R.len],λk d' h=>?_,λk b ds' h=>?_,nd,λk b o x h=>?_,R.tb⟩
 .rcases getElem?_set_of h with ⟨rfl,z,_⟩|⟨n,h⟩
  .cases z
  .rcases getElem?_set_of h with ⟨rfl,z,_⟩|⟨n2,h⟩
   .cases z
   .obtain⟨u,q,e⟩:=R.val k d' h;exact⟨u,by rw[vg n];exact q,e.mono g⟩
 .rcases getElem?_set_of h with ⟨rfl,z,hl⟩|⟨n,h⟩
  .cases z;obtain⟨_,xs,hx,en⟩:=R.own j a l hj;exact⟨Y8 (by rw[R.len];simpa using hl),xs,hx,en.mono g⟩
  .rcases getElem?_set_of h with ⟨rfl,z,_⟩|⟨n2,h⟩
   .cases z
   .obtain⟨q,xs,hx,en⟩:=R.own k b ds' h;exact⟨by rw[vg n];exact q,xs,hx,en.mono g⟩
 .rcases getElem?_set_of h with ⟨rfl,z,_⟩|⟨n,h⟩
  .cases z
  .rcases getElem?_set_of h with ⟨rfl,z,_⟩|⟨n2,h⟩
   .cases z
   .obtain⟨q,h⟩:=R.raw k b o x h;exact⟨by rw[vg n];exact q,h.mono g⟩
end
section
variable{X:Cx}{ρ:Rho}{e a b c:ar}{es:List ar}{st:aQ}{rest sa sb body:List aQ}{P:Po}{d:D}{ds ds':List D}{pos p p1 p2 p3:aP}{x y:ao}{i j:Nat}
theorem DS.freeze(i:Nat){l:ak}(h:ρ[i]?=aa (.own l ds))(h2:DS X (ρ.set i (.val (.lst ds))) st P):DS X ρ st P:=λσ H E R q =>h2 σ H E (R.freeze h) (q.step (.drop λb hb=>(j9 rfl).subset hb))
theorem DS.mov{l:ak}(hk:ρ[j]?=aa (.own l ds))(hij:i≠j)(h:P.nx ((ρ.set j .un).set i (.own l ds)))(hN:X.N.Nodup)(hi:X.N[i]?=aa x)(hj:X.N[j]?=aa y)(hx:Loc X.env.scope x)
  (hf:X.fn x=af\/X.env.scope.names.lookup x=aa .local) (hv:Vis X.env.scope y) (hd:(y==k7k)=ae) (hcd:(y==k7l)=ae):DS X ρ (.Assign [.Name x p] (.Name y p1) pos) P:=λσ H E R q=>by
 obtain⟨hs,xs,m,en⟩:=R.own j l ds hk;refine(Qq hN hi hx (qi hj hv hd hcd) rfl hf).to ⟨_,hs,q.nx _ _ H h (R.move hk hij) (.drop λb hb=>?_)⟩;have s1:(owns (ρ.set j .un)).Sublist (owns ρ):=j9 rfl;have na:l∉owns (ρ.set j .un):=λz=>by
  obtain⟨k,l',q⟩:=V1 z;rcases getElem?_set_of q with ⟨_,z,_⟩|⟨n,q⟩
  .cases z
  .exact n (Yg R.nd hk q)
 rcases(Jp (ds:=ds) (i:=i) (s1.nodup R.nd) na).2 b hb with z|z
 .exact z▸Jt hk
 .exact s1.subset z
theorem DS.whileN(W:Nat->Rho->Prop)(n:Nat)(h0:W n ρ)(hs:∀m ρ',W m ρ'->∃k,DB X ρ' c k/\(k=af->DSs X ρ' body { nx:=λρ2=>∃m2,m2<m/\W m2 ρ2,rt:=P.rt,bk:=P.nx,ct:=λρ2=>∃m2,m2<m/\W m2 ρ2,ex:=P.ex })/\(k=ae->P.nx ρ'))
  (hp:eF (aA X.prog X.w) X.A X.env X.xe):DS X ρ (.While c body [] pos) P:=λσ H E R q=>by
 refine(Ko hp ptS v7).to ?_;refine⟨λm σ' H'=>∃ρ',W m ρ'/\Rep X.K ρ' σ' H'/\Fr0 ρ ρ' H H',⟨n,ρ,h0,R,Fr0.refl _ _⟩,?_⟩;rintro m σ' H' ⟨ρ',w,R',f⟩;obtain⟨k,hk,ht,hf⟩:=hs m ρ' w;refine hk σ' H' _ R' λH1 g1=>?_;have f1:Fr0 ρ ρ' H H1:=j4.trans f (Fr0.grow g1);cases k with
 |false=>exact U3 (q.nx ρ' σ' H1 (hf rfl) (R'.grow g1) f1)
 |true =>refine U0 ⟨λσ2 H2=>∃ρ2,(∃m2,m2<m/\W m2 ρ2)/\Rep X.K ρ2 σ2 H2/\Fr0 ρ ρ2 H H2,λσ2 H2 ⟨ρ2,⟨m2,hlt,w2⟩,R2,f2⟩=>⟨m2,hlt,ρ2,w2,R2,f2⟩,?_⟩;exact ht rfl σ' H1 _ (R'.grow g1) ⟨λρ3 σ4 H4 n R4 f4=>⟨ρ3,n,R4,f1.trans f4⟩,λρ3 σ4 H4 n R4 f4=>q.nx ρ3 σ4 H4 n R4 (f1.trans f4),λρ3 σ4 H4 n R4 f4=>⟨ρ3,n,R4,f1.trans f4⟩,λr v H4 n z=>q.rt r v H4 n (Ow.step f1 z),λx ρ3 σ4 H4 n R4 f4=>q.ex x ρ3 σ4 H4 n R4 (f1.trans f4)⟩
theorem DS.setCf{ρf:Rho}{tg elt iter:ar}{ifs:List ar}{scope:bG}{spos:aP}(i:Nat)(cs:List Nat)(pr:D->Bool)(g:D->D)(hfr:∀K σ H,Rep K ρ σ H->Rep K ρf σ H)(hno:ρf=ρ\/qj ((ds.filter pr).map g)=af)(hi:DI X ρf tg iter ds)
  (hb:∀C s H fp pn,∀d∈ds,∃ρ2,DG (cCx X scope C s H fp pn) ρf tg d ρ2/\Wk ρ2 ρf/\owns ρ2=owns ρf/\DTs (cCx X scope C s H fp pn) ρ2 ifs (pr d)/\(pr d=af->DE (cCx X scope C s H fp pn) ρ2 elt (g d)))
  (h:∀l,P.nx (ρ.set i (.own l ((ds.filter pr).map g)))) (hN:X.N.Nodup) (hcs:∀j∈cs,ρf[j]?=aa .un) (hsz:ds.length<=au) (hX:X.N[i]?=aa x) (hx:Loc X.env.scope x)
  (hf:X.fn x=af\/X.env.scope.names.lookup x=aa .local)
  (hsw:aN (.ListComp elt [⟨tg,iter,ifs,0⟩] scope pos) (aa (.Name x p1)) spos.line X.env=pure af)
  (hc:X.calm=af) (hkind:scope.kind=.function) (hok:Q0 scope X.env X.N cs=af)
  (hs:∀x,aZ iter X.env x=pure x):DS X ρ (.Assign [.Name x p1] (.ListComp elt [⟨tg,iter,ifs,0⟩] scope pos) spos) P:=λσ H E R q pins s I=>by
 have Rf:=hfr _ _ _ R;rw[exec_Assign_Name_used _ _ _ _ hsw];refine ag (fm (ag ?_));show ax _ X.A (do let _ <-comprehension (.ListComp elt [⟨tg,iter,ifs,0⟩] scope pos) scope X.env _ (newList []) ae (aB iter X.env) (aa (dX (.Name x p1) X.env))) _ _ s;refine ag (bR (hR (use:=aa (dX (.Name x p1) X.env)) (Q:=λ_ s'=>SP X pins E .next s') rfl hs (Nb (O8 hok)) hkind (Ru hok)
  (thn (hi σ H (λJ H'=>j4 H H'/\U8 X.K (del H' (owns ρf)) J ds) Rf (λJ H' g1 ok=>⟨g1,ok⟩) pins s I) λv s1 h1=>thn h1 λitv s2 h2=>?_)) (λ_ s' hq=>av (av hq)) λ_ _ e=>e)
 obtain⟨it,fp,tn,J,H2,e,I2,T,st2,f2,g2,ok⟩:=h2;subst e;refine Ci (RR:=λacc C=>compPost (aA X.prog X.w) X.A X.xe (aa (dX (.Name x p1) X.env)) (λ_ s'=>SP X pins E .next s') acc C) I2 (Rf.grow g2) T st2 f2 ok hc hkind hok hcs hsz hb ?_;intro D C xs H' s' m I' gg n m' en hm L;show ax _ X.A (dX (.Name x p1) X.env (.ref D)) _ _ _;refine jR (Dm I' hN hX hx (v:=.ref D) rfl (λs'' I'' ⟨a,sb,ha⟩=>?_) hf);have hCa:C≠a:=by
  rcases ha with e|e
  .rw[e];exact L.loc
  .exact eC (L.cell x a e)
 have en':j6 X.K (del H' (D::owns ρ)) ((ds.filter pr).map g) xs:=by
  rcases hno with e|e
  .rw[e]at en;exact en
  .exact(en.mono jj).hide (λc hc=>by
    rcases xr.mp hc with z|z
    .rw[z];exact .inl ⟨xs,m'⟩
    .exact .inl ((R.grow (g2.trans gg)).owned c z)) e
 refine⟨m,hm.sameBut sb hCa,λh' sb'=>⟨σ.set i (aa (.ref D)),H',I''.loose L sb',?_⟩⟩;exact q.nx _ _ H' (h D) (R.set_own (g2.trans gg) (g2.free n) m' en') (Fr0.new R (g2.trans gg) (g2.free n))
end
section
variable{fu:Nat}{Γ:ao->List D->Rc}{G:ao->Option D}{X:Cx}{P:Po}
theorem bind1{i:Nat}{y:ao}{p:aP}(nd:X.N.Nodup)(hi:X.N[i]?=aa y)(hx:Loc X.env.scope y)(hf:X.fn y=af\/X.env.scope.names.lookup y=aa .local) :
  ∀ρ d ρ2,vf [i] d (j7 ρ)=aa ρ2->∃ρ',j7 ρ'=ρ2/\DG X ρ (.Name y p) d ρ':=λρ d ρ2 h=>by
 simp only[vf]at h;cases h;exact⟨_,jq,DG.name _ nd hi hx hf⟩
theorem jl0{i j:Nat}{x y:ao}{n:Nat}{p q pt:aP}(hc:X.calm=af)(hij:i≠j)(nd:X.N.Nodup)(hi:X.N[i]?=aa x)(hj:X.N[j]?=aa y)(hx:Loc X.env.scope x)(hy:Loc X.env.scope y)
  (hf:X.fn x=af\/X.env.scope.names.lookup x=aa .local) (hg:X.fn y=af\/X.env.scope.names.lookup y=aa .local) :
  ∀ρ d ρ2,vf [i,j] d (j7 ρ)=aa ρ2->∃ρ',j7 ρ'=ρ2/\DG X ρ (.Tuple [.Name x p,.Name y q] n pt) d ρ':=λρ d ρ2 h=>by
 simp only[vf]at h;split at h
 .rename_i a b;cases h;exact⟨(ρ.set i (.val a)).set j (.val b),by rw[jq,jq];rfl,DG.pair _ _ hij nd hi hj hx hy hf hg hc⟩
 .cases h
theorem DS.setX{e:ar}{x y:ao}{i:Nat}{p pos:aP}{ρ:Rho}(he:DX X ρ e y)(h:P.ex y ρ)(hN:X.N.Nodup)(hi:X.N[i]?=aa x)(hx:Loc X.env.scope x)(hs:aN e (aa (.Name x p)) pos.line X.env=pure ae)(hf:X.fn x=af\/X.env.scope.names.lookup x=aa .local) :
  DS X ρ (.Assign [.Name x p] e pos) P:=λσ H E R q=>(Qq hN hi hx peS hs hf).to (he σ H _ R (q.ex y ρ σ H h R (Fr0.refl _ _)))
theorem DS.exprX{e:ar}{y:ao}{pos:aP}{ρ:Rho}(he:DX X ρ e y)(h:P.ex y ρ)(hs:aN e ah pos.line X.env=pure ae):DS X ρ (.Expr e pos) P:=λσ H E R q =>(Z5 peS hs).to (he σ H _ R (q.ex y ρ σ H h R (Fr0.refl _ _)))
theorem DS.retX{e:ar}{y:ao}{pos:aP}{ρ:Rho}(he:DX X ρ e y)(h:P.ex y ρ):DS X ρ (.Return (aa e) pos) P:=λσ H E R q =>(Qs peS).to (he σ H _ R (q.ex y ρ σ H h R (Fr0.refl _ _)))
theorem Bp{is:List Nat}{it':Ex}{b:Sx}{it tg:ar}{body:List aQ}{pos:aP}{ρ:Rho}(hq:X.calm=af)(c:Cok X G)(hs:∀x,aZ it X.env x=pure x)
  (hb:∀ρ d ρ2,vf is d (j7 ρ)=aa ρ2->∃ρ',j7 ρ'=ρ2/\DG X ρ tg d ρ') (hi:∀ρ ds,ev Γ G it' (j7 ρ)=aa (.i ds)->DI X ρ tg it ds)
  (ih:∀ρ P,Zm (run fu Γ G b (j7 ρ)) P->DSs X ρ body P) (h:Zm (run fu Γ G (.loop is it' b) (j7 ρ)) P):DS X ρ (.For tg it body [] pos) P:=by
 have main:∀ρf:Rho,j7 ρf=frz it' (j7 ρ)->DS X ρf (.For tg it body [] pos) P:=λρf ef=>by
  rw[jil]at h;rw[<-ef]at h;split at h
  .rename_i ds hds;generalize hf:(λd ρ=>_:D->En->So)=f at h;refine DS.for (ds:=ds) (λi ρ'=>Zm (vo f (ds.drop i) (j7 ρ')) P) (hi ρf ds hds) (by rw[cn];exact h) (λi d ρ' hd w=>?_) (λρ' w=>?_) hq c.po hs
   .have hdr:ds.drop i=d::ds.drop (i+1):=by obtain⟨hlt,e⟩:=Xe.mp hd;rw[gf hlt,e]
    rw[hdr,vo]at w;have ef2:f d (j7 ρ')=match vf is d (j7 ρ')with|some ρ2=>run fu Γ G b ρ2|none=>.no:=by rw[<-hf]<;>rfl
    rw[ef2]at w;cases hb2:vf is d (j7 ρ') with
    |none=>rw[hb2]at w;exact w.elim
    |some ρ2 =>
     rw[hb2]at w;obtain⟨ρ3,e3,dg⟩:=hb ρ' d ρ2 hb2;refine⟨ρ3,dg,ih ρ3 _ ?_⟩;rw[e3];dsimp only at w;cases ho:run fu Γ G b ρ2 with
     |next ρ4=>rw[ho]at w;exact λρ5 e=>by rw[<-e]at w;exact w
     |cnt ρ4=>rw[ho]at w;exact λρ5 e=>by rw[<-e]at w;exact w
     |brk ρ4=>rw[ho]at w;exact w
     |ret r=>rw[ho]at w;exact w
     |err x ρ4=>rw[ho]at w;exact w
     |no=>rw[ho]at w;exact w
   .rw[List.drop_length,vo]at w;exact w ρ' rfl
  .exact h.elim
 by_cases z:Jf it' (j7 ρ)=af
 .unfold Jf at z;split at z
  .rename_i i ei;split at z
   .rename_i l e;obtain⟨a,q⟩:=Jj e;refine DS.freeze i q (main _ ?_);rw[jq];simp only[frz,ei,e,Sl.abs]
   .cases z
  .cases z
 .have z':Jf it' (j7 ρ)=ae:=by simpa using z
  refine main ρ ?_;unfold frz;split
  .rename_i i ei;split
   .rename_i l e;simp only[Jf,ei,e]at z';cases z'
   .rfl
  .rfl
theorem j02{c':Ex}{b:Sx}{cd:ar}{body:List aQ}{pos:aP}{ρ:Rho}(c:Cok X G)(hc:∀ρ k,truth (ev Γ G c' (j7 ρ))=aa k->DB X ρ cd k)
  (ih:∀ρ P,Zm (run fu Γ G b (j7 ρ)) P->DSs X ρ body P) (h:Zm (run fu Γ G (.whl c' b) (j7 ρ)) P):DS X ρ (.While cd body [] pos) P:=by
 rw[jlf]at h;refine DS.whileN (λn ρ'=>Zm (Y5 (λρ=>truth (ev Γ G c' ρ)) (λρ=>run fu Γ G b ρ) n (j7 ρ')) P) fu h (λm ρ' w=>?_) c.po;cases m with
 |zero=>rw[Y5]at w;exact w.elim
 |succ m =>
  rw[Y5]at w;split at w
  .rename_i e;exact⟨ae,hc ρ' ae e,(λz=>by cases z),λ_=>w ρ' rfl⟩
  .rename_i e;refine⟨af,hc ρ' af e,λ_=>ih ρ' _ ?_,λz=>by cases z⟩;cases ho:run fu Γ G b (j7 ρ') with
   |next ρ4=>rw[ho]at w;exact λρ5 e=>⟨m,Pq _,by rw[<-e]at w;exact w⟩
   |cnt ρ4=>rw[ho]at w;exact λρ5 e=>⟨m,Pq _,by rw[<-e]at w;exact w⟩
   |brk ρ4=>rw[ho]at w;exact w
   |ret r=>rw[ho]at w;exact w
   |err x ρ4=>rw[ho]at w;exact w
   |no=>rw[ho]at w;exact w
  .exact w.elim
theorem j1x{is:List Nat}{elt' it' c':Ex}{elt it tg:ar}{ifs:List ar}{scope:bG}{p p1 pos:aP}{k:Nat}{z:ao}{ρ:Rho}(hq:X.calm=af)(hX:Cok X G)
  (hk:X.N[k]?=aa z) (hx:Loc X.env.scope z) (hf:X.fn z=af\/X.env.scope.names.lookup z=aa .local)
  (hsw:aN (.ListComp elt [⟨tg,it,ifs,0⟩] scope p) (aa (.Name z p1)) pos.line X.env=pure af)
  (hit:∀ρ ds,ev Γ G it' (j7 ρ)=aa (.i ds)->DI X ρ tg it ds) (hkind:scope.kind=.function) (hok:Q0 scope X.env X.N is=af) (hs:∀x,aZ it X.env x=pure x)
  (hb:∀ρ d ρ2,vf is d (j7 ρ)=aa ρ2->(∀j∈is,ρ[j]?=aa .un)->∃ρ',j7 ρ'=ρ2/\Wk ρ' ρ/\owns ρ'=owns ρ/\∀C s H fp pn,DG (cCx X scope C s H fp pn) ρ tg d ρ')
  (he:∀C s H fp pn ρ r,ev Γ G elt' (j7 ρ)=aa (.v r)->Has (cCx X scope C s H fp pn) ρ elt r)
  (hc:∀C s H fp pn ρ,(ev Γ G c' (j7 ρ)=aa (.a [])->DTs (cCx X scope C s H fp pn) ρ ifs af)/\∀y k,ev Γ G c' (j7 ρ)=aa (.a [y])->y.d=.bl k->DTs (cCx X scope C s H fp pn) ρ ifs k)
  (h:Zm (run fu Γ G (.set k (.comp is elt' it' c')) (j7 ρ)) P):DS X ρ (.Assign [.Name z p1] (.ListComp elt [⟨tg,it,ifs,0⟩] scope p) pos) P:=by
 rw[jaw]at h;unfold Uw at h;have h:=(Yr h).resolve_right λ⟨y,ey,_⟩=>by simp only[er]at ey;cases ey
 cases e:ev Γ G (.comp is elt' it' c') (j7 ρ) with
 |none=>rw[e]at h;exact h.elim
 |some w =>
  rw[e]at h;cases w with
  |a _=>exact h.elim
  |i _=>exact h.elim
  |v r =>
   obtain⟨l,ρf,ds,pr,g,er,el,hfz,hi,hun,hz,hb'⟩:=O7 hit hb he hc e;subst er;refine DS.setCf (ρf:=ρf) k is pr g ?_ ?_ hi hb' (λa=>?_) hX.nd hun hz hk hx hf hsw hq hkind hok hs
   .rcases hfz with e|⟨_,i,a,l',q,e⟩
    .subst e;exact λ_ _ _ R=>R
    .subst e;exact λ_ _ _ R=>R.freeze q
   .rcases hfz with e|⟨n,_⟩
    .exact .inl e
    .exact .inr (el▸n)
   .rw[<-el];exact h _ jq
theorem j0r{w:Option W}{d:D}(h:stOf w=aa d):∃z,w=aa (.v z)/\z.st=aa d:=by
 unfold stOf at h;split at h
 .exact⟨_,rfl,h⟩
 .cases h
end
structure Ts(X:Cx)(t:Sx)(nd:Ns):Prop where
 m:∀(fu:Nat)(Γ:ao->List D->Rc)(G:ao->Option D),Cok X G->Gok X Γ->jay fu Γ G X t nd
theorem Ts.nil:∀{X:Cx},Ts X .nop (.ss []):=by intro _;refine⟨λfu Γ G=>?_⟩;intro c g ρ P h;exact DSs.nil (h ρ rfl)
theorem Ts.cons:∀{X:Cx}{a b:Sx}{st:aQ}{rest:List aQ},Ts X a (.s st)->Ts X b (.ss rest)->Ts X (.seq a b) (.ss (st::rest)):=by
 intro _ _ _ _ _ q0 q1;refine⟨λfu Γ G=>?_⟩;have iha:=q0.m fu Γ G;have ihb:=q1.m fu Γ G;intro c g ρ P h;rw[j3f]at h;split at h
 .rename_i ρ' e;exact DSs.cons (N:=λρ1=>j7 ρ1=ρ') (iha c g ρ _ (by rw[e];exact λρ2 z=>z)) λρ1 z=>ihb c g ρ1 P (by rw[z];exact h)
 .rename_i o hn;refine DSs.cons (N:=λ_=>False) (iha c g ρ _ ?_) λ_ z=>z.elim;cases e:run fu Γ G _ (j7 ρ) with
  |next ρ'=>exact absurd e (hn ρ')
  |ret r=>rw[e]at h;exact h
  |err x r=>rw[e]at h;exact h
  |brk r=>rw[e]at h;exact h
  |cnt r=>rw[e]at h;exact h
  |no=>rw[e]at h;exact h
theorem Ts.fgt:∀{X:Cx}{i:Nat}{b:Sx}{sts:List aQ},Ts X b (.ss sts)->Ts X (.seq (.fgt i) b) (.ss sts):=by intro _ _ _ _ q0;refine⟨λfu Γ G=>?_⟩;have ih:=q0.m fu Γ G;intro c g ρ P h;simp only[j3f,jli]at h;exact DSs.forget _ (ih c g _ P (by rw[jq];exact h))
theorem Ts.newP:∀{X:Cx}{pi:Nat}{y:ao}{te':Ex}{p:Px}{te:ar}{rest:List aQ} {py p1 p2 pos:aP} (hg:Gl X "Pieces") (hst:ai [te] X.env=(ae,aB te X.env)::ai [] X.env) (hpl:(aT p2 (ai [] X.env)).any (·.1)=ae) (hi:X.N[pi]?=aa y) (hx:Loc X.env.scope y) (hs:aN (.Call (.Name "Pieces" p1) [te] [] p2) (aa (.Name y py)) pos.line X.env=pure ae) (hf:X.fn y=af\/X.env.scope.names.lookup y=aa .local),Tr X te' (.e te)->MP X pi p rest->Ts X (.newP pi te' p) (.ss (.Assign [.Name y py] (.Call (.Name "Pieces" p1) [te] [] p2) pos::rest)):=by
 intro _ pi y te' p te rest py p1 p2 pos hg hst hpl hi hx hs hf hte hm;refine⟨λfu Γ G=>?_⟩;intro c g ρ P h;rw[jik]at h;unfold newS at h;split at h
 .rename_i x d eb ex eg;have hl:pi<ρ.length:=by have:=of_decide_eq_true eb;unfold j7 at this;rw[km]at this;exact this
  split at h
  .rename_i t et;split at h
   .rename_i hc;obtain⟨C,hC,T⟩:=c.pc d eg;dsimp only at h;refine DSs.make T (et▸(sound hte c g ρ x ex).toT) hc.1 (qx hc.2) hg hst hpl c.nd hi hx hs hf λo=>?_;refine hm fu Γ G c g C hC T o _ _ 0 _ ⟨dOb,Y8 hl⟩ ?_;rw[jq];show Zk pi o (jd fu Γ G (aF t " ") p ((j7 ρ).set pi (.exc rfN)) 0) _;cases z:jd fu Γ G (aF t " ") p ((j7 ρ).set pi (.exc rfN)) 0 with
    |next ρ' k=>rw[z]at h;exact λρ2 e _=>h ρ2 e
    |ret d k=>rw[z]at h;exact h (.val d) rfl
    |err x ρ'=>rw[z]at h;exact h
    |no=>rw[z]at h;exact h
   .exact h.elim
  .exact h.elim
 .exact h.elim
theorem Ts.keep:∀{X:Cx}{i:Nat}{b:Sx}{sts:List aQ},Ts X b (.ss sts)->Ts X (.seq (.keep i) b) (.ss sts):=by
 intro _ i _ _ q0;refine⟨λfu Γ G=>?_⟩;have ih:=q0.m fu Γ G;intro c g ρ P h;simp only[j3f,jim,Ma]at h;cases e:(j7 ρ)[i]? with
 |none=>rw[e]at h;exact h.elim
 |some v =>
  rw[e]at h;cases v with
  |own l =>obtain⟨a,q⟩:=Jj e;exact DSs.freeze _ q (ih c g _ P (by rw[jq];exact h))
  |un=>exact h.elim
  |val d=>exact ih c g ρ P h
  |exc x=>exact h.elim
theorem Ts.set:∀{X:Cx}{i:Nat}{x:ao}{e':Ex}{e:ar}{p pos:aP}(hi:X.N[i]?=aa x) (hx:Loc X.env.scope x) (hs:aN e (aa (.Name x p)) pos.line X.env=pure ae) (hf:X.fn x=af\/X.env.scope.names.lookup x=aa .local),Tr X e' (.e e)->Ts X (.set i e') (.s (.Assign [.Name x p] e pos)):=by
 intro _ _ _ _ _ _ _ hi hx hs hf he;refine⟨λfu Γ G=>?_⟩;intro c g ρ P h;have S:=sound he c g;rw[jaw]at h;unfold Uw at h;rcases Yr h with h|⟨y,ey,hP⟩
 rotate_left
 .exact DS.setX (Ke he c g ρ y ey) (hP ρ rfl) c.nd hi hx hs hf
 split at h
 .rename_i l e;exact DS.setO _ (S ρ _ e) (λa=>h _ jq) c.nd hi hx hs hf
 .rename_i r hn e;split at h
  .rename_i d hd;exact DS.set _ ((S ρ _ e).toE hd) (h _ jq) c.nd hi hx hs hf
  .exact h.elim
 .exact h.elim
theorem Ts.setC1:∀{X:Cx}{k i:Nat}{z y:ao}{py p p1 pos:aP}{elt' it' c':Ex}{elt it:ar}{ifs:List ar} {scope:bG} (hq:X.calm=af) (hk:X.N[k]?=aa z) (hx:Loc X.env.scope z) (hf:X.fn z=af\/X.env.scope.names.lookup z=aa .local) (hsw:aN (.ListComp elt [⟨.Name y py,it,ifs,0⟩] scope p) (aa (.Name z p1)) pos.line X.env=pure af) (hi:X.N[i]?=aa y) (hl:M3 scope y=af) (hkind:scope.kind=.function) (hok:Q0 scope X.env X.N [i]=af) (hs:∀x,aZ it X.env x=pure x),Tr X it' (.i (.Name y py) it)->(∀C s H fp pn,Tr (cCx X scope C s H fp pn) elt' (.e elt))->(∀C s H fp pn,Tr (cCx X scope C s H fp pn) c' (.c ifs))->Ts X (.set k (.comp [i] elt' it' c')) (.s (.Assign [.Name z p1] (.ListComp elt [⟨.Name y py,it,ifs,0⟩] scope p) pos)):=by
 intro _ _ _ _ _ _ _ _ _ _ _ _ _ _ _ _ hq hk hx hf hsw hi hl hkind hok hs hit he hc;refine⟨λfu Γ G=>?_⟩;intro c g ρ P h;exact j1x hq c hk hx hf hsw (λρ ds z=>sound hit c g ρ ds z) hkind hok hs (λρ d ρ2 hb hun=>by
  simp only[vf]at hb
  cases hb
  have hu:=hun _ (X3.mpr rfl)
  exact⟨_,jq,Wk.set hu,Mx hu,λC s H fp pn=>DG.name _ c.nd hi (j0l hl) (j3s hl)⟩)
  (λC s H fp pn ρ r z=>sound (he C s H fp pn) c.comp g.comp ρ r z) (λC s H fp pn ρ=>sound (hc C s H fp pn) c.comp g.comp ρ) h
theorem Ts.mov:∀{X:Cx}{i j:Nat}{x y:ao}{p q pos:aP}(hi:X.N[i]?=aa x) (hj:X.N[j]?=aa y) (hx:Loc X.env.scope x) (hf:X.fn x=af\/X.env.scope.names.lookup x=aa .local) (hv:Vis X.env.scope y) (hd:(y==k7k)=ae) (hcd:(y==k7l)=ae),Ts X (.mov i j) (.s (.Assign [.Name x p] (.Name y q) pos)):=by
 intro _ _ _ _ _ _ _ _ hi hj hx hf hv hd hcd;refine⟨λfu Γ G=>?_⟩;intro c g ρ P h;rw[jlg]at h;unfold Ia at h;split at h
 .rename_i l e;obtain⟨a,q⟩:=Jj e;split at h
  .exact h.elim
  .rename_i hij;exact DS.mov q hij (h _ (by rw[jq,jq];rfl)) c.nd hi hj hx hf hv hd hcd
 .rename_i d e;exact DS.set _ (DE.var _ (Ou e) hj hv hd hcd) (h _ jq) c.nd hi hx rfl hf
 .exact h.elim
theorem Ts.expr:∀{X:Cx}{e':Ex}{e:ar}{pos:aP}(hs:aN e ah pos.line X.env=pure ae),Tr X e' (.e e)->Ts X (.expr e') (.s (.Expr e pos)):=by
 intro _ _ _ _ hs he;refine⟨λfu Γ G=>?_⟩;intro c g ρ P h;rw[jin]at h;unfold Eb at h;rcases Yr h with h|⟨y,ey,hP⟩
 rotate_left
 .exact DS.exprX (Ke he c g ρ y ey) (hP ρ rfl) hs
 split at h
 .rename_i r e;exact DS.expr (sound he c g ρ r e).toT (h ρ rfl) hs
 .exact h.elim
theorem Ts.ret:∀{X:Cx}{e':Ex}{e:ar}{pos:aP},Tr X e' (.e e)->Ts X (.ret e') (.s (.Return (aa e) pos)):=by
 intro _ _ _ _ he;refine⟨λfu Γ G=>?_⟩;intro c g ρ P h;rw[jax]at h;unfold retS at h;rcases Yr h with h|⟨y,ey,hP⟩
 rotate_left
 .exact DS.retX (Ke he c g ρ y ey) (hP ρ rfl)
 split at h
 .rename_i l e;exact DS.retO (sound he c g ρ _ e) (h _ rfl)
 .rename_i r hn e;exact DS.ret (sound he c g ρ _ e).toT (h _ rfl)
 .exact h.elim
theorem Ts.retV:∀{X:Cx}{i:Nat}{x:ao}{p pos:aP}(hi:X.N[i]?=aa x) (hv:Vis X.env.scope x) (hd:(x==k7k)=ae) (hcd:(x==k7l)=ae),Ts X (.retV i) (.s (.Return (aa (.Name x p)) pos)):=by
 intro _ _ _ _ _ hi hv hd hcd;refine⟨λfu Γ G=>?_⟩;intro c g ρ P h;rw[jij]at h;unfold M5 at h;split at h
 .rename_i l e;obtain⟨a,q⟩:=Jj e;exact DS.retV _ q (h _ rfl) hi hv hd hcd
 .rename_i d e;exact DS.ret (DE.toT (DE.var _ (Ou e) hi hv hd hcd)) (h _ rfl)
 .exact h.elim
theorem Ts.ife:∀{X:Cx}{c':Ex}{a b:Sx}{c:ar}{sa sb:List aQ}{pos:aP},Tr X c' (.b c)->Ts X a (.ss sa)->Ts X b (.ss sb)->Ts X (.ife c' a b) (.s (.If c sa sb pos)):=by
 intro _ _ _ _ _ _ _ _ hc q1 q2;refine⟨λfu Γ G=>?_⟩;have iha:=q1.m fu Γ G;have ihb:=q2.m fu Γ G;intro c g ρ P h;rw[jlh]at h;split at h
 .rename_i e;exact DS.if (sound hc c g ρ af e) (λ_=>iha c g ρ P h) λz=>by cases z
 .rename_i e;exact DS.if (sound hc c g ρ ae e) (λz=>by cases z) λ_=>ihb c g ρ P h
 .exact h.elim
theorem Ts.for1:∀{X:Cx}{i:Nat}{y:ao}{it':Ex}{b:Sx}{it:ar}{body:List aQ} {p pos:aP} (hq:X.calm=af) (hi:X.N[i]?=aa y) (hx:Loc X.env.scope y) (hf:X.fn y=af\/X.env.scope.names.lookup y=aa .local) (hs:∀x,aZ it X.env x=pure x),Tr X it' (.i (.Name y p) it)->Ts X b (.ss body)->Ts X (.loop [i] it' b) (.s (.For (.Name y p) it body [] pos)):=by intro _ _ _ _ _ _ _ _ _ hq hi hx hf hs hit q1;refine⟨λfu Γ G=>?_⟩;have ih:=q1.m fu Γ G;intro c g ρ P h;exact Bp hq c hs (bind1 c.nd hi hx hf) (λρ ds z=>sound hit c g ρ ds z) (ih c g) h
theorem Ts.for2:∀{X:Cx}{i j:Nat}{x y:ao}{it':Ex}{b:Sx}{it:ar}{body:List aQ} {n:Nat} {p q pt pos:aP} (hq:X.calm=af) (hij:i≠j) (hi:X.N[i]?=aa x) (hj:X.N[j]?=aa y) (hx:Loc X.env.scope x) (hy:Loc X.env.scope y) (hf:X.fn x=af\/X.env.scope.names.lookup x=aa .local) (hg:X.fn y=af\/X.env.scope.names.lookup y=aa .local) (hs:∀x,aZ it X.env x=pure x),Tr X it' (.i (.Tuple [.Name x p,.Name y q] n pt) it)->Ts X b (.ss body)->Ts X (.loop [i,j] it' b) (.s (.For (.Tuple [.Name x p,.Name y q] n pt) it body [] pos)):=by intro _ _ _ _ _ _ _ _ _ _ _ _ _ _ hq hij hi hj hx hy hf hg hs hit q1;refine⟨λfu Γ G=>?_⟩;have ih:=q1.m fu Γ G;intro c g ρ P h;exact Bp hq c hs (jl0 hq hij c.nd hi hj hx hy hf hg) (λρ ds z=>sound hit c g ρ ds z) (ih c g) h
theorem Ts.whl:∀{X:Cx}{c':Ex}{b:Sx}{c:ar}{body:List aQ}{pos:aP},Tr X c' (.b c)->Ts X b (.ss body)->Ts X (.whl c' b) (.s (.While c body [] pos)):=by intro _ _ _ _ _ _ hc q1;refine⟨λfu Γ G=>?_⟩;have ih:=q1.m fu Γ G;intro c g ρ P h;exact j02 c (λρ k z=>sound hc c g ρ k z) (ih c g) h
theorem Ts.app:∀{X:Cx}{i:Nat}{x:ao}{e':Ex}{e:ar}{p p1 p2 pos:aP}(hN:X.N[i]?=aa x) (hv:Vis X.env.scope x) (hd:(x==k7k)=ae) (hcd:(x==k7l)=ae) (hst:ai [e] X.env=[(ae,aB e X.env)]) (hline:(p1.endLine==p2.line)=af) (hbase:aY (.Name x p) "append" X.env (aB (.Name x p) X.env)=aB (.Name x p) X.env) (hfew:((aT p2 (ai [e] X.env)).all (λx=>!x.1)&&(cK p2 (bB [] X.env)).all (λx=>x.1.isSome)&&decide (([e]:List ar).length+([]:List bu).length+(if ([]:List bu).isEmpty then 0 else 1)<30))=af),Tr X e' (.e e)->Ts X (.app i e') (.s (.Expr (.Call (.Attribute (.Name x p) "append" p1) [e] [] p2) pos)):=by
 intro _ _ _ _ _ _ _ _ _ hN hv hd hcd hst hline hbase hfew he;refine⟨λfu Γ G=>?_⟩;intro c g ρ P h;rw[jll]at h;unfold Ry at h;split at h
 .rename_i l x el ex;obtain⟨a,q⟩:=Jj el;split at h
  .rename_i d hd';split at h
   .rename_i hz;exact DS.append _ q ((sound he c g ρ x ex).toE hd') hz (h _ jq) hN hv hd hcd hst hline hbase hfew rfl
   .exact h.elim
  .exact h.elim
 .exact h.elim
theorem Ts.ext:∀{X:Cx}{i:Nat}{x:ao}{e':Ex}{e:ar}{p p1 p2 pos:aP}(hN:X.N[i]?=aa x) (hv:Vis X.env.scope x) (hd:(x==k7k)=ae) (hcd:(x==k7l)=ae) (hst:ai [e] X.env=[(ae,aB e X.env)]) (hline:(p1.endLine==p2.line)=af) (hbase:aY (.Name x p) "extend" X.env (aB (.Name x p) X.env)=aB (.Name x p) X.env) (hfew:((aT p2 (ai [e] X.env)).all (λx=>!x.1)&&(cK p2 (bB [] X.env)).all (λx=>x.1.isSome)&&decide (([e]:List ar).length+([]:List bu).length+(if ([]:List bu).isEmpty then 0 else 1)<30))=af),Tr X e' (.e e)->Ts X (.ext i e') (.s (.Expr (.Call (.Attribute (.Name x p) "extend" p1) [e] [] p2) pos)):=by
 intro _ _ _ _ _ _ _ _ _ hN hv hd hcd hst hline hbase hfew he;refine⟨λfu Γ G=>?_⟩;intro c g ρ P h;rw[jlj]at h;unfold Fx at h;split at h
 .rename_i l m el ex;obtain⟨a,q⟩:=Jj el;split at h
  .rename_i hz;exact DS.extend _ q (sound he c g ρ _ ex) (qx hz) (h _ jq) hN hv hd hcd hst hline hbase hfew rfl
  .exact h.elim
 .exact h.elim
theorem Ts.clr:∀{X:Cx}{i:Nat}{x:ao}{p p1 p2 pos:aP}(hN:X.N[i]?=aa x) (hv:Vis X.env.scope x) (hd:(x==k7k)=ae) (hcd:(x==k7l)=ae) (hline:(p1.endLine==p2.line)=af) (hbase:aY (.Name x p) "clear" X.env (aB (.Name x p) X.env)=aB (.Name x p) X.env),Ts X (.clr i) (.s (.Expr (.Call (.Attribute (.Name x p) "clear" p1) [] [] p2) pos)):=by
 intro _ _ _ _ _ _ _ hN hv hd hcd hline hbase;refine⟨λfu Γ G=>?_⟩;intro c g ρ P h;rw[jlk]at h;unfold Em at h;split at h
 .rename_i l e;obtain⟨a,q⟩:=Jj e;exact DS.clear _ q (h _ jq) hN hv hd hcd hline hbase rfl
 .exact h.elim
theorem Ts.unp3:∀{X:Cx}{i j k:Nat}{x y z:ao}{e':Ex}{e:ar}{p1 p2 p3 q1 pos:aP}{n:Nat} (hq:X.calm=af) (hi:X.N[i]?=aa x) (hj:X.N[j]?=aa y) (hk:X.N[k]?=aa z) (hx:Loc X.env.scope x) (hy:Loc X.env.scope y) (hz:Loc X.env.scope z) (fx:X.fn x=af\/X.env.scope.names.lookup x=aa .local) (fy:X.fn y=af\/X.env.scope.names.lookup y=aa .local) (fz:X.fn z=af\/X.env.scope.names.lookup z=aa .local) (hs:hZ [.Tuple [.Name x p1,.Name y p2,.Name z p3] n q1] e pos.line X.env=pure ae) (hw:i0 [.Tuple [.Name x p1,.Name y p2,.Name z p3] n q1] e X.env=pure ah),Tr X e' (.e e)->Ts X (.unp3 i j k e') (.s (.Assign [.Tuple [.Name x p1,.Name y p2,.Name z p3] n q1] e pos)):=by
 intro _ _ _ _ _ _ _ _ _ _ _ _ _ _ _ hq hi hj hk hx hy hz fx fy fz hs hw he;refine⟨λfu Γ G=>?_⟩;intro c g ρ P h;rw[jii]at h;unfold Bb at h;split at h
 .rename_i d d' d'' ed;obtain⟨z,ez,ed⟩:=j0r ed;exact DS.unp3 ((sound he c g ρ z ez).toE ed) (h _ (by rw[jq,jq,jq];rfl)) hq c.nd hi hj hk hx hy hz fx fy fz hs hw
 .exact h.elim
theorem Ts.raise:∀{X:Cx}{x:ao}{e':Ex}{e:ar}{np cpos pos:aP}(hq:X.calm=af)(hg:Gl X x) (hdb:(x==k7k)=ae) (hs:ai [e] X.env=[(ae,aB e X.env)]),Tr X e' (.e e)->Ts X (.raise x e') (.s (.Raise (aa (.Call (.Name x np) [e] [] cpos)) ah pos)):=by
 intro _ _ _ _ _ _ _ hq hg hdb hs he;refine⟨λfu Γ G=>?_⟩;intro c g ρ P h;rw[je2]at h;unfold j7u at h;split at h
 .rename_i r d er eg;obtain⟨hx,o,ho⟩:=c.ec _ _ eg;exact DS.raiseE c.ea hx ho (W.mg_of c.kin c.ns ho) c.kin hq (λσ H R=>(sound he c g ρ r er).toT σ H _ R λv H' g' _=>g') (h ρ rfl) hg hdb hs
 .exact h.elim
section
theorem Ud{fu:Nat}{Γ:ao->List D->Rc}{G:ao->Option D}{X:Cx}{t:Sx}{nd:Ns}(h:Ts X t nd):Cok X G->Gok X Γ->jay fu Γ G X t nd:=h.m fu Γ G
end
section
variable{X:Cx}{pi i:Nat}{x y f:ao}{c' e' m' es':Ex}{c e m cl:ar}{es:List ar}{r b:Px}{st:aQ}{sa rest:List aQ}{p py p1 p2 p3 p4 p5 pos:aP}{ρ:Rho}{o:Ob}
theorem Yb{s:Sl}(h:∃ob,ρ[pi]?=aa (.raw o.a ob rfN))(hip:i≠pi):∃ob,(ρ.set i s)[pi]?=aa (.raw o.a ob rfN):=let ⟨ob,h⟩:=h;⟨ob,by rw[vg hip];exact h⟩
theorem MP.nop:MP X pi .nop []:=λfu Γ G c g C hC T o ls ρ k P hp h=>MSs.nil (h ρ rfl hp)
theorem MP.set(hip:i≠pi)(hi:X.N[i]?=aa x)(hx:Loc X.env.scope x)(hs:aN e (aa (.Name x p)) pos.line X.env=pure ae)(hf:X.fn x=af\/X.env.scope.names.lookup x=aa .local)(he:Tr X e' (.e e))(hr:MP X pi r rest) :
  MP X pi (.set i e' r) (.Assign [.Name x p] e pos::rest):=λfu Γ G c g C hC T o ls ρ k P hp h=>by
 rw[jd]at h;unfold j1w at h;split at h
 .rename_i l el;refine MSs.plain (N:=λρ1=>∃a,ρ1=ρ.set i (.own a l)) (DS.setO i (sound he c g ρ (.o l) el) (λa=>⟨a,rfl⟩) c.nd hi hx hs hf) λρ1 ⟨a,e1⟩=>?_;subst e1;exact hr fu Γ G c g C hC T o ls _ k P (Yb hp hip) (by rw[jq];exact h)
 .rename_i w x' hn el;split at h
  .rename_i d ed;refine MSs.plain (N:=(· = ρ.set i (.val d))) (DS.set i ((sound he c g ρ x' el).toE ed) rfl c.nd hi hx hs hf) λρ1 e1=>?_;subst e1;exact hr fu Γ G c g C hC T o ls _ k P (Yb hp hip) (by rw[jq];exact h)
  .exact h.elim
 .exact h.elim
theorem MP.ret_ms{Γ:ao->List D->Rc}{G:ao->Option D}{C:ak}{ls:List ao}{k:Nat}{P:Pm}(he:Tr X e' (.e e))(c:Cok X G)(g:Gok X Γ)(h:Zk pi o (Nx (ev Γ G e' (j7 ρ)) k) P):MSs X C o ls ρ k (.Return (aa e) pos::rest) P:=by
 unfold Nx at h;split at h
 .exact h.elim
 .rename_i w x' hn el;exact MSs.plain (N:=λ_=>False) (DS.ret (sound he c g ρ x' el).toT ⟨_,rfl,h⟩) λ_ z=>z.elim
 .exact h.elim
theorem MP.ret(he:Tr X e' (.e e)):MP X pi (.ret e') (.Return (aa e) pos::rest):=λfu Γ G c g C hC T o ls ρ k P hp h=>by rw[jd]at h;exact MP.ret_ms (pi:=pi) he c g h
theorem MP.rai_ms {Γ:ao->List D->Rc} {G:ao->Option D} {C:ak} {ls:List ao} {k:Nat} {P:Pm} {np cpos:aP} (hq:X.calm=af) (hg:Gl X x) (hdb:(x==k7k)=ae) (hs:ai [m] X.env=[(ae,aB m X.env)]) (he:Tr X m' (.e m)) (c:Cok X G) (g:Gok X Γ)
  (h:Zk pi o (W2 x (ev Γ G m' (j7 ρ)) (G (bang x)) (j7 ρ)) P):MSs X C o ls ρ k (.Raise (aa (.Call (.Name x np) [m] [] cpos)) ah pos::rest) P:=by
 unfold W2 at h;split at h
 .rename_i r d er eg;obtain⟨hx,o,ho⟩:=c.ec _ _ eg;exact MSs.plain (N:=λ_=>False) (DS.raiseE c.ea hx ho (W.mg_of c.kin c.ns ho) c.kin hq (λσ H R=>(sound he c g ρ r er).toT σ H _ R λv H' g' _=>g') (h ρ rfl) hg hdb hs) λ_ z=>z.elim
 .exact h.elim
theorem j47{x:ao}{w:Option W}{d:Option D}{ρ:En}{P:Pm}(h:Zk pi o (W2 x w d ρ) P):Zk pi o (W2 x w d ρ) { P with nx:=λ_ _=>False }:=by
 unfold W2 at h ⊢;split at h
 .exact h
 .exact h
theorem MP.ifRai {np cpos:aP} (hq:X.calm=af) (hg:Gl X x) (hdb:(x==k7k)=ae) (hs:ai [m] X.env=[(ae,aB m X.env)]) (hc:Tr X c' (.b c)) (he:Tr X m' (.e m)) (hr:MP X pi r rest) :
  MP X pi (.ifRai c' x m' r) (.If c [.Raise (aa (.Call (.Name x np) [m] [] cpos)) ah p] [] pos::rest):=λfu Γ G cc g C hC T o ls ρ k P hp h=>by
 rw[jd]at h;unfold ifP at h;split at h
 .rename_i et;exact MSs.ife (sound hc cc g ρ af et) (λ_=>MP.rai_ms (pi:=pi) hq hg hdb hs he cc g (j47 h)) λz=>by cases z
 .rename_i et;exact MSs.ife (sound hc cc g ρ ae et) (λz=>by cases z) λ_=>hr fu Γ G cc g C hC T o ls ρ k P hp h
 .exact h.elim
theorem MP.ifAll {np cpos:aP} (hq:X.calm=af) (hg:Gl X x) (hdb:(x==k7k)=ae) (hs:ai [m] X.env=[(ae,aB m X.env)]) (hpN:X.N[pi]?=aa y) (hv:Vis X.env.scope y) (hd:(y==k7k)=ae) (hcd:(y==k7l)=ae) (mc:Ql X (.Name y py) "all_taken" p1 p2)
  (ht:∀whole,eN (.Call (.Attribute (.Name y py) "all_taken" p1) [] [] p2) X.env whole=(do let v <-whole;fP (Expr.Call (.Attribute (.Name y py) "all_taken" p1) [] [] p2).pos;dP [v] (jF v))) (he:Tr X m' (.e m)) (hr:MP X pi r rest) :
  MP X pi (.ifAll x m' r) (.If (.UnaryOp .Not (.Call (.Attribute (.Name y py) "all_taken" p1) [] [] p2) p3) [.Raise (aa (.Call (.Name x np) [m] [] cpos)) ah p] [] pos::rest):=λfu Γ G cc g C hC T o ls ρ k P hp h=>by
 rw[jd]at h;obtain⟨ob,hp'⟩:=hp;refine MSs.ifAll T hp' hpN hv hd hcd mc ht (λz=>?_) λz=>?_
 .rw[if_neg z]at h;exact MP.rai_ms (pi:=pi) hq hg hdb hs he cc g (j47 h)
 .rw[if_pos z]at h;exact hr fu Γ G cc g C hC T o ls ρ k P ⟨ob,hp'⟩ h
theorem MP.take (hip:i≠pi) (hpN:X.N[pi]?=aa y) (hv:Vis X.env.scope y) (hd:(y==k7k)=ae) (hcd:(y==k7l)=ae) (mc:Ql X (.Name y py) "taken" p1 p2)
  (hi:X.N[i]?=aa x) (hx:Loc X.env.scope x) (hs:aN (.Call (.Attribute (.Name y py) "taken" p1) [] [] p2) (aa (.Name x p)) pos.line X.env=pure ae) (hf:X.fn x=af\/X.env.scope.names.lookup x=aa .local) (hr:MP X pi r rest) :
  MP X pi (.take i r) (.Assign [.Name x p] (.Call (.Attribute (.Name y py) "taken" p1) [] [] p2) pos::rest):=λfu Γ G cc g C hC T o ls ρ k P hp h=>by
 rw[jd]at h;obtain⟨ob,hp'⟩:=id hp;exact MSs.take T hp' hpN hv hd hcd mc cc.nd hi hx hs hf (hr fu Γ G cc g C hC T o ls _ (k+1) P (Yb hp hip) (by rw[jq];exact h))
theorem MP.takeE (hpN:X.N[pi]?=aa y) (hv:Vis X.env.scope y) (hd:(y==k7k)=ae) (hcd:(y==k7l)=ae) (mc:Ql X (.Name y py) "taken" p1 p2)
  (hs:aN (.Call (.Attribute (.Name y py) "taken" p1) [] [] p2) ah pos.line X.env=pure ae) (hr:MP X pi r rest) :
  MP X pi (.takeE r) (.Expr (.Call (.Attribute (.Name y py) "taken" p1) [] [] p2) pos::rest):=λfu Γ G cc g C hC T o ls ρ k P hp h=>by
 rw[jd]at h;obtain⟨ob,hp'⟩:=id hp;exact MSs.takeE T hp' hpN hv hd hcd mc hs (hr fu Γ G cc g C hC T o ls _ (k+1) P hp h)
theorem MP.takeIf (hip:i≠pi) (hpN:X.N[pi]?=aa y) (hv:Vis X.env.scope y) (hd:(y==k7k)=ae) (hcd:(y==k7l)=ae) (mc:Ql X (.Name y py) "taken" p1 p2)
  (hi:X.N[i]?=aa x) (hx:Loc X.env.scope x) (hs:aN (.IfExp c (.Call (.Attribute (.Name y py) "taken" p1) [] [] p2) e p3) (aa (.Name x p)) pos.line X.env=pure ae) (hf:X.fn x=af\/X.env.scope.names.lookup x=aa .local)
  (hc:Tr X c' (.b c)) (he:Tr X e' (.e e)) (hr:MP X pi r rest) :
  MP X pi (.takeIf i c' e' r) (.Assign [.Name x p] (.IfExp c (.Call (.Attribute (.Name y py) "taken" p1) [] [] p2) e p3) pos::rest):=λfu Γ G cc g C hC T o ls ρ k P hp h=>by
 rw[jd]at h;obtain⟨ob,hp'⟩:=id hp;unfold ifP at h;split at h
 .rename_i et;exact MSs.takeIf (d:=.non) T hp' hpN hv hd hcd mc cc.nd hi hx hs hf (sound hc cc g ρ af et) (λz=>by cases z) (λ_=>hr fu Γ G cc g C hC T o ls _ (k+1) P (Yb hp hip) (by rw[jq];exact h)) λz=>by cases z
 .rename_i et;unfold j1m at h;split at h
  .rename_i d ed;obtain⟨z,ez,ed⟩:=j0r ed;exact MSs.takeIf (d:=d) T hp' hpN hv hd hcd mc cc.nd hi hx hs hf (sound hc cc g ρ ae et) (λ_=>(sound he cc g ρ z ez).toE ed) (λz=>by cases z) λ_=>hr fu Γ G cc g C hC T o ls _ k P (Yb hp hip) (by rw[jq];exact h)
  .exact h.elim
 .exact h.elim
theorem Rv {Γ:ao->List D->Rc} {G:ao->Option D} {C:ak} {ls:List ao} {k:Nat} {P:Pm} {F:D->Nat->Sm} (cc:Cok X G) (g:Gok X Γ) (hC:X.mg "Pieces" = aa (.ref C)) (ha:Tr X es' (.a es)) (h:Zk pi o (Wm G (Vs Γ ls f (ev Γ G es' (j7 ρ)) k) (j7 ρ) F) P) :
  (∃ds d k',DA X ρ es ds/\(CalM X f C λls2 k2 ds2 d2 k2'=>ls2=ls/\k2=k/\ds2=ds/\d2=d/\k2'=k')/\Zk pi o (F d k') P) \/
  (∃ds z V,DTA X ρ es ds/\(CalMX X f C λls2 k2 ds2 x2=>ls2=ls/\k2=k/\ds2=ds/\x2=z)/\X.mg z=aa V/\P.ex z ρ):=by
 unfold Vs at h;split at h
 .rename_i rs ers;split at h
  .rename_i ds eds;have A:=sound ha cc g ρ rs ers;have q:=g (mq f) (.lst (ls.map D.str)::.int (k:Int)::ds);unfold Wm at h;split at h
   .rename_i d k' z;rw[z]at q;exact .inl ⟨ds,d,k',A.toA eds,q f ls k ds rfl rfl C hC,h⟩
   .rename_i z ez;split at h
    .rename_i hz;rw[ez]at q;obtain⟨d,hd⟩:=Xp.mp hz;obtain⟨hx,V,hV⟩:=cc.ec _ _ hd;exact .inr ⟨ds,z,V,(A.toA eds).toT,q f ls k ds rfl rfl C hC,W.mg_of cc.kin cc.ns hV,h ρ rfl⟩
    .exact h.elim
   .exact h.elim
  .exact h.elim
 .exact h.elim
theorem MP.callS(hip:i≠pi)(mm:MC X pi f es cl)(hi:X.N[i]?=aa x)(hx:Loc X.env.scope x)(hs:aN cl (aa (.Name x p)) pos.line X.env=pure ae)(hf:X.fn x=af\/X.env.scope.names.lookup x=aa .local)(ha:Tr X es' (.a es))(hr:MP X pi r rest) :
  MP X pi (.callS i f es' r) (.Assign [.Name x p] cl pos::rest):=λfu Γ G cc g C hC T o ls ρ k P hp h=>by
 rw[jd]at h;obtain⟨ob,hp'⟩:=id hp;rcases Rv cc g hC ha h with ⟨ds,d,k',A,cm,h⟩|⟨ds,z,V,A,cm,hV,h⟩
 .exact MSs.callS cm mm hp' A ⟨rfl,rfl,rfl,rfl,rfl⟩ cc.nd hi hx hs hf (hr fu Γ G cc g C hC T o ls _ k' P (Yb hp hip) (by rw[jq];exact h))
 .exact MSs.callSX cm mm hp' A ⟨rfl,rfl,rfl,rfl⟩ hV cc.nd hi hx hs hf h
theorem MP.ifCal(mm:MC X pi f es cl)(hc:Tr X c' (.b c))(ha:Tr X es' (.a es))(hr:MP X pi r rest):MP X pi (.ifCal c' f es' r) (.If c [.Return (aa cl) p] [] pos::rest):=λfu Γ G cc g C hC T o ls ρ k P hp h=>by
 rw[jd]at h;obtain⟨ob,hp'⟩:=id hp;unfold ifP at h;split at h
 .rename_i et;refine MSs.ife (sound hc cc g ρ af et) (λ_=>?_) λz=>by cases z
  rcases Rv cc g hC ha h with ⟨ds,d,k',A,cm,h⟩|⟨ds,z,V,A,cm,hV,h⟩
  .exact MSs.retC cm mm hp' A ⟨rfl,rfl,rfl,rfl,rfl⟩ h
  .exact MSs.retCX cm mm hp' A ⟨rfl,rfl,rfl,rfl⟩ hV h
 .rename_i et;exact MSs.ife (sound hc cc g ρ ae et) (λz=>by cases z) λ_=>hr fu Γ G cc g C hC T o ls ρ k P hp h
 .exact h.elim
theorem MP.appC (hip:i≠pi) (mm:MC X pi f es cl) (hN:X.N[i]?=aa x) (hv:Vis X.env.scope x) (hd:(x==k7k)=ae) (hcd:(x==k7l)=ae)
  (hst:ai [cl] X.env=[(ae,aB cl X.env)]) (hline:(p1.endLine==p2.line)=af) (hbase:aY (.Name x p) "append" X.env (aB (.Name x p) X.env)=aB (.Name x p) X.env)
  (hfew:((aT p2 (ai [cl] X.env)).all (λx=>!x.1)&&(cK p2 (bB [] X.env)).all (λx=>x.1.isSome)&&decide (([cl]:List ar).length+([]:List bu).length+(if ([]:List bu).isEmpty then 0 else 1)<30))=af)
  (hs:aN (.Call (.Attribute (.Name x p) "append" p1) [cl] [] p2) ah pos.line X.env=pure ae) (ha:Tr X es' (.a es)) (hr:MP X pi r rest) :
  MP X pi (.appC i f es' r) (.Expr (.Call (.Attribute (.Name x p) "append" p1) [cl] [] p2) pos::rest):=λfu Γ G cc g C hC T o ls ρ k P hp h=>by
 rw[jd]at h;obtain⟨ob,hp'⟩:=id hp;unfold j2e at h;split at h
 .rename_i l el;obtain⟨a,q⟩:=Jj el;rcases Rv cc g hC ha h with ⟨ds,d,k',A,cm,h⟩|⟨ds,z,V,A,cm,hV,h⟩
  .unfold j3d at h;rw[el]at h;dsimp only at h;split at h
   .rename_i hl;exact MSs.appC (p3:=p) cm mm hp' A ⟨rfl,rfl,rfl,rfl,rfl⟩ q hl hN hv hd hcd hst hline hbase hfew hs (hr fu Γ G cc g C hC T o ls _ k' P (Yb hp hip) (by rw[jq];exact h))
   .exact h.elim
  .exact MSs.appCX cm mm hp' A ⟨rfl,rfl,rfl,rfl⟩ hV q hN hv hd hcd hst hline hbase hfew hs h
 .exact h.elim
theorem MP.whlA {z:ao} {n:Nat} {body:List aQ} (hpN:X.N[pi]?=aa y) (hv:Vis X.env.scope y) (hd:(y==k7k)=ae) (hcd:(y==k7l)=ae) (mc:Ql X (.Name y py) "ahead" p1 p2)
  (hb:MP X pi b body) (hr:MP X pi r rest) :
  MP X pi (.whlA z b r) (.While (.Compare (.Call (.Attribute (.Name y py) "ahead" p1) [] [] p2) [.NotEq] [.Constant (.str z) n p3] p4) body [] pos::rest):=λfu Γ G cc g C hC T o ls ρ k P hp h=>by
 rw[jd]at h;refine MSs.whl T (λm ρ' k'=>(∃ob,ρ'[pi]?=aa (.raw o.a ob rfN))/\Zk pi o (Z8 (λρ k=>jd fu Γ G ls b ρ k) (λρ k=>jd fu Γ G ls r ρ k) z ls m (j7 ρ') k') P) fu ⟨hp,h⟩ cc.po hpN hv hd hcd mc λm ρ' k' ⟨hp',w⟩=>⟨hp',λhz=>?_,λhz=>?_⟩
 .cases m with
  |zero=>exact w.elim
  |succ m =>
   unfold Z8 at w;rw[if_neg hz]at w;refine hb fu Γ G cc g C hC T o ls ρ' k' _ hp' ?_;cases e:jd fu Γ G ls b (j7 ρ') k' with
   |next ρ2 k2=>rw[e]at w;exact λρ3 e3 hp3=>⟨m,Pq m,hp3,by rw[e3];exact w⟩
   |ret d k2=>rw[e]at w;exact w
   |err x ρ2=>rw[e]at w;exact w
   |no=>rw[e]at w;exact w
 .cases m with
  |zero=>exact w.elim
  |succ m =>unfold Z8 at w;rw[if_pos hz]at w;exact hr fu Γ G cc g C hC T o ls ρ' k' P hp' w
end
structure Fi where
 n:Nat
 nn:Nat
 body:Sx
 lam:Bool
noncomputable def jgg:Rc->Rc
 |.val d=>.lval d
 |_=>.no
noncomputable def fin:So->Rc
 |.ret r=>r
 |.next _=>.val .non
 |.err x _=>.err x
 |_=>.no
noncomputable def enter(F:Fi)(ds:List D):En:=ds.map Sv.val++az (F.nn-F.n) Sv.un
noncomputable def evP(fu:Nat)(G:ao->Option D)(T:ao->Option Fi):Nat->ao->List D->Rc
 |0,_,_=>.no
 |n+1,f,ds=>match T f with
  |none=>.no
  |some F=>if ds.length=F.n then(if F.lam=af then jgg (fin (run fu (evP fu G T n) G F.body (enter F ds)))else fin (run fu (evP fu G T n) G F.body (enter F ds)))else .no
structure Lk(P:ay)(w:aD)(K:k7g)(mg:k7j)(base:aH)(x:ao)(F:Fi):Prop where
 ex:∃(st:aQ)(f:ak)(fd:aL)(N ps:List ao),Fun K x x st f fd/\FnScope N ps (j0 st)/\ps.length=F.n/\N.length=F.nn/\Binds K fd ps []/\Dfl K x fd ps/\mg x=aa (.ref f) /\
  ∀(cdv:aj)(A:aG)(outer:List d9)(s:aq)(H:Hp)(E:XK)(xe:k7h),Ts ((qz CX0 P w K mg base N x (j0 st) f cdv A outer s H E).wish xe) F.body (.ss (jg st))
structure LkL(P:ay)(w:aD)(K:k7g)(mg:k7j)(base:aH)(x:ao)(F:Fi):Prop where
 ex:∃(tx:Tx)(N ps:List ao)(e:Ex),j2u K x=aa tx/\LamScope N ps tx.2.2/\N.length=F.n/\F.nn=F.n/\F.body=.ret e /\
  (∀(cl:List (ao×ak)) (pm:aj) (c:ak) (ctv:aj) (us:List aj),us.length=ps.length->cQ (W.kla_fn "<lambda>" (zx x) tx.1 tx.2.1 tx.2.2 cl pm (.ref c) ctv) ⟨us,[]⟩=pure (ps.zip us)) /\
  ∀(a c:ak)(cl:List (ao×ak)) (A:aG) (outer:List d9) (s:aq) (H:Hp),Tr (Yz P w K mg base N (zx x) tx.2.2 a (.ref c) cl A outer s H) e (.e tx.2.1)
def Ox(P:ay)(w:aD)(K:k7g)(mg:k7j)(base:aH)(C:ak):Prop:=∃(fA fT fL fI:ak)(dA dT dL dI:aL),PcT K mg C fA fT fL fI/\(FnOk P w K mg base CX0 1 fA dA ["self"] (M4 C)/\Binds K dA ["self"] []) /\
  (FnOk P w K mg base CX0 2 fT dT ["self"] (Nt C)/\Binds K dT ["self"] [])/\(FnOk P w K mg base CX0 1 fL dL ["self"] (j1u C)/\Binds K dL ["self"] [])/\(FnOk P w K mg base CX0 1 fI dI ["self","text"] (Nu C)/\Binds K dI ["self","text"] [])
structure LkP(P:ay)(w:aD)(K:k7g)(mg:k7j)(base:aH)(x:ao)(F:Fi):Prop where
 ex:∃(g:ao)(p:Px)(st:aQ)(f:ak)(fd:aL)(N ps:List ao),x=mq g/\F.body=.px p/\Fun K g g st f fd/\FnScope N ps (j0 st)/\ps.length+1=F.n/\N.length+1=F.nn/\0<ps.length/\ps.length<=N.length/\Binds K fd ps []/\mg g=aa (.ref f)/\(∃C,mg "Pieces" = aa (.ref C)/\Ox P w K mg base C) /\
  ∀(cdv:aj)(A:aG)(outer:List d9)(s:aq)(H:Hp)(E:XK)(xe:k7h),MP ((qz CX0 P w K mg base N g (j0 st) f cdv A outer s H E).wish xe) 0 p (jg st)
def LkF(P:ay)(w:aD)(K:k7g)(mg:k7j)(base:aH)(f:ao)(F:Fi):Prop:=(F.lam=ae->(Lk P w K mg base f F/\f.cps.toList.getLast?≠aa 62/\f.cps.toList.head?≠aa 64)\/LkP P w K mg base f F)/\(F.lam=af->∃x,f=zx x/\LkL P w K mg base x F)
def j6i(P:ay)(w:aD)(K:k7g)(mg:k7j)(base:aH):Prop:=∃(f:ak)(fd:aL)(ps:List ao),FnOk P w K mg base CX0 11 f fd ps (jen K ja3)/\mg "_law_plan" = aa (.ref f)/\W.keepIn K (.ref f)=af/\Binds K fd ps []/\Dfl K "_law_plan" fd ps
structure Tb(P:ay)(w:aD)(K:k7g)(mg:k7j)(base:aH)(G:ao->Option D):Prop where
 bt:∀x∈Vc,mg x=ah
 gl:∀x d,Va x=ae->G x=aa d->∃u v,mg x=aa u/\RelV v u/\∀H,Enc K H d v
 ea:Mi K=af
 ec:∀x d,G (bang x)=aa d->x∈J4/\∃o,W.nsIn K aw x=aa (aa o)
 el:G "?" = aa (.bl af)->∀c∈J4,∃v,W.nsIn K aw c=aa (aa v)
 kin:K.In base
 ns:base.Ns aw mg
 kd:∀x l,G (bang x)=aa (.lst l)->KindsP P w K mg base "_law_kinds" x l
 fn:∀f d,G (qm f)=aa d->∃fa,mg f=aa (.ref fa)/\W.keepIn K (.ref fa)=af
 pl:∀d,G (qm "_law_plan")=aa d->j6i P w K mg base
 pc:∀d,G (qm "Pieces")=aa d->∃C,mg "Pieces" = aa (.ref C)/\Ox P w K mg base C
 lm:∀x∈Vf,∀f cdv,mg x=aa (.ref f)->U9 K f cdv->∃c Pt,cdv=.ref c/\W.codeHdIn K c Pt=af/\W.tabIn K x=aa (c,Pt)
structure LkH(P:ay)(w:aD)(K:k7g)(mg:k7j)(base:aH)(x:ao)(F:Fi):Prop where
 ex:∃(st:aQ)(f:ak)(fd:aL)(N:List ao)(p:ao),Fun K x x st f fd/\FnScope N [p] (j0 st)/\1<=N.length/\N.length=F.nn/\Binds K fd [p] []/\mg x=aa (.ref f) /\
  ∀(cdv:aj)(A:aG)(outer:List d9)(s:aq)(H:Hp),Ts { (qz CX0 P w K mg base N x (j0 st) f cdv A outer s H E0).nox with calm:=ae } F.body (.ss (jg st))
section
variable{P:ay}{w:aD}{K:k7g}{mg:k7j}{base:aH}{fu:Nat}{G:ao->Option D}{T:ao->Option Fi}
theorem Wt{N:List ao}{ds:List D}{F:Fi}(h1:ds.length=F.n)(h2:N.length=F.nn):j7 (qg N ds)=enter F ds:=by unfold j7 qg enter;rw[Ph,Xc,iq,h1,h2];rfl
theorem Rw(y:ao):(bang y).cps.toList.head?=aa 33:=by unfold bang;show(("!":ao).cps++y.cps).toList.head?=aa 33;rw[cz];rfl
theorem j0y(y:ao):(mq y).cps.toList.head?=aa 64:=by unfold mq;show(("@":ao).cps++y.cps).toList.head?=aa 64;rw[cz];rfl
theorem jg3{x y:ao}(h:mq x=mq y):x=y:=by unfold mq at h;have h:(⟨("@":ao).cps++x.cps⟩:ao)=⟨("@":ao).cps++y.cps⟩:=h;have h:=congrArg iJ h;have e:x.cps=y.cps:=dO h rfl;cases x;cases y;cases e;rfl
theorem j0q:∀ls:List ao,strsOf (ls.map D.str)=aa ls
 |[]=>rfl
 |_::l=>by rw[X5,strsOf,j0q l];rfl
theorem j0i{N:List ao}{a:ak}{ds:List D}{F:Fi}{ls:List D}{k:Int}(h1:ds.length+2=F.n)(h2:N.length+1=F.nn):j7 (startM N a ds)=.exc rfN::(enter F (.lst ls::.int k::ds)).drop 2:=by
 have e:N.length-(ds.length+1)=F.nn-F.n:=by omega
 unfold startM;rw[jq];unfold j7 qg enter;rw[Ph,Xc,iq];simp only[X5,Tc,cH,cY,cn,xx,e];rfl
theorem jdx (y:ao):bang y ≠ "?":=λh=>by have:=Rw y;rw[h]at this;exact absurd this (by decide)
theorem j0t(y:ao):(qm y).cps.toList.head?=aa 63:=by unfold qm;show(("??":ao).cps++y.cps).toList.head?=aa 63;rw[cz];rfl
theorem jjl (y:ao):qm y ≠ "?":=λh=>by
 have e:((qm y).cps.toList.drop 1).head?=aa 63:=by unfold qm;show((("??":ao).cps++y.cps).toList.drop 1).head?=aa 63;rw[cz];rfl
 rw[h]at e;exact absurd e (by decide)
theorem jfa{x y:ao}(h:qm x=qm y):x=y:=by unfold qm at h;have h:(⟨("??":ao).cps++x.cps⟩:ao)=⟨("??":ao).cps++y.cps⟩:=h;have h:=congrArg iJ h;have e:x.cps=y.cps:=dO h rfl;cases x;cases y;cases e;rfl
theorem j1i(x y:ao):bang x≠qm y:=λh=>by have:=Rw x;rw[h,j0t]at this;exact absurd this (by decide)
theorem Ms{x y z:ao}(h:x++z=y++z):x=y:=by have h:(⟨x.cps++z.cps⟩:ao)=⟨y.cps++z.cps⟩:=h;have h:=congrArg iJ h;have e:x.cps=y.cps:=Array.append_inj_left' h rfl;cases x;cases y;cases e;rfl
theorem j8e{x y:ao}(h:zx x=zx y):x=y:=Ms (Ms h)
theorem Dy(x:ao):(zx x).cps.toList.getLast?=aa 62:=by unfold zx;show(((x ++ ".<locals>.").cps)++("<lambda>":ao).cps).toList.getLast?=aa 62;rw[cz,List.getLast?_append];rfl
theorem j2t(x:ao):zx x∉Vf:=λh=>by
 have e:=Dy x
 revert e
 unfold Vf at h;rcases xr.mp h with h|h
 .rw[h];decide
 rcases xr.mp h with h|h
 .rw[h];decide
 rcases xr.mp h with h|h
 .rw[h];decide
 .rw[X3.mp h];decide
theorem jf3{fu:Nat}{Γ:ao->List D->Rc}{G:ao->Option D}{e:Ex}{ρ:En}{d:D}(h:fin (run fu Γ G (.ret e) ρ)=.val d):∃r,ev Γ G e ρ=aa (.v r)/\r.d=d:=by
 rw[jax]at h;cases z:ev Γ G e ρ with
 |none=>rw[z]at h;cases y:er Γ G e ρ<;>(rw[y]at h;cases h)
 |some w =>
  cases w with
  |v r =>
   rw[z]at h;cases r with
   |o l=>cases h
   |e d=>cases h;exact⟨_,rfl,rfl⟩
   |w l=>cases h;exact⟨_,rfl,rfl⟩
   |t d=>cases h;exact⟨_,rfl,rfl⟩
  |a l=>rw[z]at h;cases y:er Γ G e ρ<;>(rw[y]at h;cases h)
  |i l=>rw[z]at h;cases y:er Γ G e ρ<;>(rw[y]at h;cases h)
theorem j2d{C:ak}(h:Ox P w K mg base C){X:Cx}{n:Nat}(h1:X.prog=P)(h2:X.w=w)(h3:X.K=K)(h4:X.mg=mg)(h5:X.base=base)(hn:12<=n)(hr:Room n X.A):PcX X C:=by subst h1 h2 h3 h4 h5;obtain⟨fA,fT,fL,fI,dA,dT,dL,dI,a,b,c,d,e⟩:=h;exact⟨fA,fT,fL,fI,dA,dT,dL,dI,a,b,c,d,e,hr.mono nofun⟩
theorem Ze (t:Tb P w K mg base G) {X:Cx} {n:Nat} (h1:X.prog=P) (h2:X.w=w) (h3:X.K=K) (h4:X.mg=mg) (h5:X.base=base) (hn:12<=n) (hr:Room n X.A) (nd:X.N.Nodup) (po:eF (aA X.prog X.w) X.A X.env X.xe) (hlm:∀x∈Vf,X.env.qual=x ++ ".<locals>."->∃c P,X.env.code=.ref c/\W.codeHdIn K c P=af/\W.tabIn K x=aa (c,P)):Cok X G:=by subst h1 h2 h3 h4 h5;exact⟨by have:=hr.un;omega,(λ_=>by have:=hr.un;omega),(λ_=>by have:=hr.dp;omega),t.bt,t.gl,nd,po,t.ea,t.ec,t.el,t.kin,t.ns,t.kd,t.fn,λd e=>let ⟨f,fd,ps,F,h1,h2,h3,h4⟩:=t.pl d e;⟨11,f,fd,ps,F,hr.mono hn,h1,h2,h3,h4⟩,λd e=>let ⟨C,h1,h2⟩:=t.pc d e;⟨C,h1,j2d h2 rfl rfl rfl rfl rfl hn hr⟩,hlm⟩
theorem Yw (t:Tb P w K mg base G) {g:ao} {f:ak} {cdv:aj} {env:d9} (hm:mg g=aa (.ref f)) (hcv:U9 K f cdv) (hq:env.qual=g ++ ".<locals>.") (hc:env.code=cdv):∀x∈Vf,env.qual=x ++ ".<locals>."->∃c P,env.code=.ref c/\W.codeHdIn K c P=af/\W.tabIn K x=aa (c,P):=λx hx e=>by have eg:=Ms (hq.symm.trans e);subst eg;rw[hc];exact t.lm _ hx f cdv hm hcv
noncomputable def lv:Nat->Nat
 |0=>12
 |n+1=>lv n+2
theorem Qy:∀n,12<=lv n+1
 |0=>by decide
 |n+1=>by have:=Qy n;unfold lv;omega
theorem Bl(hT:∀x F,T x=aa F->LkF P w K mg base x F)(t:Tb P w K mg base G):∀(n:Nat)(x:ao)(ds:List D),
  ∃(f:ak)(fd:aL)(ps:List ao),match evP fu G T n x ds with
   |.val d=>FnOk P w K mg base CX0 (lv n) f fd ps (spP K λds' d'=>ds'=ds/\d'=d)/\mg x=aa (.ref f)/\W.keepIn K (.ref f)=af/\Binds K fd ps []/\Dfl K x fd ps
   |.fresh l=>FnOk P w K mg base CX0 (lv n) f fd ps (spF K λds' l'=>ds'=ds/\l'=l)/\mg x=aa (.ref f)/\W.keepIn K (.ref f)=af/\Binds K fd ps []/\Dfl K x fd ps
   |.err y=>FnOk P w K mg base (CX1 P w) (lv n) f fd ps (spX K mg λds' z=>ds'=ds/\z=y)/\mg x=aa (.ref f)/\W.keepIn K (.ref f)=af/\Binds K fd ps []
   |.lval d=>∀y,x=zx y->j3g P w K mg base (lv n) y λds' d'=>ds'=ds/\d'=d
   |.mval d k'=>∀g ls (k:Nat) ds',x=mq g->ds=.lst (ls.map D.str)::.int (k:Int)::ds'->∀C,mg "Pieces" = aa (.ref C)->FnOk P w K mg base CX0 (lv n) f fd ps (spM K C λls2 k2 ds2 d2 k2'=>ls2=ls/\k2=k/\ds2=ds'/\d2=d/\k2'=k')/\mg g=aa (.ref f)/\W.keepIn K (.ref f)=af/\Binds K fd ps []
   |.merr y=>∀g ls (k:Nat) ds',x=mq g->ds=.lst (ls.map D.str)::.int (k:Int)::ds'->∀C,mg "Pieces" = aa (.ref C)->FnOk P w K mg base (CX1 P w) (lv n) f fd ps (j1t K mg C λls2 k2 ds2 x2=>ls2=ls/\k2=k/\ds2=ds'/\x2=y)/\mg g=aa (.ref f)/\W.keepIn K (.ref f)=af/\Binds K fd ps []
   |.no=>True
 |0,x,ds=>⟨0,W.fnOf x x { posonlyargs:=[],args:=[],vararg:=ah,kwonlyargs:=[],kw_defaults:=[],kwarg:=ah,defaults:=[] } [] { kind:=.function,names:=[],isGenerator:=ae,isCoroutine:=ae } .none .none .none .none ah .none .none,[],trivial⟩
 |n+1,x,ds=>by
  have ih:=Bl hT t n;cases hF:T x with
  |none =>
   obtain⟨f,fd,ps,_⟩:=ih x ds;refine⟨f,fd,ps,?_⟩;have e:evP fu G T (n+1) x ds=.no:=by simp only[evP,hF]
   rw[e];trivial
  |some F =>
   have gok:∀{X:Cx},X.prog=P->X.w=w->X.K=K->X.mg=mg->X.base=base->Room (lv n+1) X.A->Gok X (evP fu G T n):=λ{X} h1 h2 h3 h4 h5 hr g ds'=>by
    subst h1 h2 h3 h4 h5;obtain⟨f',fd',ps',q⟩:=ih g ds';cases z:evP fu G T n g ds' with
    |val d=>rw[z]at q;exact⟨lv n,f',fd',ps',q.1,hr,q.2.1,q.2.2.1,q.2.2.2⟩
    |fresh l=>rw[z]at q;exact⟨lv n,f',fd',ps',q.1,hr,q.2.1,q.2.2.1,q.2.2.2⟩
    |err y=>rw[z]at q;exact⟨lv n,f',fd',ps',q.1,hr.mono (pq _),q.2.1,q.2.2.1,q.2.2.2⟩
    |lval d=>rw[z]at q;exact λy hy=>⟨lv n,hr.mono (pq _),q y hy⟩
    |mval d k=>rw[z]at q;exact λg' ls k ds'' h1 h2 C h3=>let ⟨a,b⟩:=q g' ls k ds'' h1 h2 C h3;⟨⟨lv n,f',fd',ps',a,hr.mono (pq _),b⟩⟩
    |merr y=>rw[z]at q;exact λg' ls k ds'' h1 h2 C h3=>let ⟨a,b⟩:=q g' ls k ds'' h1 h2 C h3;⟨⟨lv n,f',fd',ps',a,hr.mono (pq _),b⟩⟩
    |no=>trivial
   cases hlam:F.lam with
   |true =>
    obtain⟨f,fd,ps,_⟩:=ih x ds;refine⟨f,fd,ps,?_⟩;by_cases hl:ds.length=F.n
    .have e:evP fu G T (n+1) x ds=jgg (fin (run fu (evP fu G T n) G F.body (enter F ds))):=by simp only[evP,hF,if_pos hl,hlam,if_true]
     rw[e];obtain⟨y,ey,L⟩:=(hT x F hF).2 hlam;obtain⟨tx,N,ps,ex,htx,hsc,hN,hnn,hbd,hba,htr⟩:=L.ex;cases ho:fin (run fu (evP fu G T n) G F.body (enter F ds)) with
     |val d =>intro y' hy';have eyy:y=y':=j8e (ey.symm.trans hy');subst eyy;refine jge (k:=lv n+1) htx hsc (λds' d' h=>by rw[h.1,hl,hN]) hba λa c cl A outer s H hcl hr ds' d' ⟨e1,e2⟩=>?_;subst e1 e2;have ab:j7 (qg N ds')=enter F ds':=Wt hl (by rw[hN,hnn]);rw[hbd,<-ab]at ho;obtain⟨r,er,ed⟩:=jf3 ho;exact ed▸(sound (htr a c cl A outer s H) (Ze t rfl rfl rfl rfl rfl (Qy _) hr hsc.nd bQ λz hz hq=>absurd (Ms hq▸hz) (j2t y)) (gok rfl rfl rfl rfl rfl hr) (qg N ds') r er).toT
     |fresh l=>trivial
     |err z=>trivial
     |lval z=>trivial
     |mval z k=>trivial
     |merr z=>trivial
     |no=>trivial
    .have e:evP fu G T (n+1) x ds=.no:=by simp only[evP,hF,if_neg hl]
     rw[e];trivial
   |false =>
   rcases(hT x F hF).1 hlam with ⟨L,hlast,hhead⟩|L
   rotate_left
   .obtain⟨g0,p,st,f,fd,N,ps,hxg,hbody,hfun,hsc,hps,hN,hp0,hpN,hb,hm,⟨C0,hC0,hPc⟩,hmp⟩:=L.ex;refine⟨f,fd,ps,?_⟩;by_cases hl:ds.length=F.n
    .have e:evP fu G T (n+1) x ds=fin (run fu (evP fu G T n) G F.body (enter F ds)):=by simp only[evP,hF,if_pos hl,hlam,Xr,if_false]
     rw[e,hbody,run];cases ho:pxS (enter F ds)[0]? (enter F ds)[1]? λls k=>jd fu (evP fu G T n) G ls p (.exc rfN::(enter F ds).drop 2) k with
     |next ρ' =>
      exfalso;unfold pxS at ho
      repeat' split at ho
      all_goals cases ho
     |brk _=>trivial
     |cnt _=>trivial
     |no=>trivial
     |err y ρ' =>
      exfalso;unfold pxS at ho
      repeat' split at ho
      all_goals cases ho
     |ret r =>
      have key:∀g ls (k:Nat) ds',x=mq g->ds=.lst (ls.map D.str)::.int (k:Int)::ds'->g0=g/\ds'.length+1=ps.length/\∀a:ak,
        (∀d k',r=.mval d k'->jd fu (evP fu G T n) G ls p (j7 (startM N a ds')) k=.ret d k')/\(∀y,r=.merr y->∃ρ',jd fu (evP fu G T n) G ls p (j7 (startM N a ds')) k=.err y ρ'):=λg ls k ds' h1 h2=>by
       refine⟨jg3 (hxg.symm.trans h1),?_,λa=>?_⟩
       .rw[h2]at hl;simp only[xx]at hl;omega
       rw[j0i (F:=F) (ls:=ls.map D.str) (k:=(k:Int)) (by rw[h2]at hl;simp only[xx]at hl;omega) hN,<-h2];have e0:(enter F ds)[0]?=aa (.val (.lst (ls.map D.str))):=by rw[h2];rfl
       have e1:(enter F ds)[1]?=aa (.val (.int (k:Int))):=by rw[h2];rfl
       rw[e0,e1]at ho;unfold pxS at ho;simp only[j0q,Xh,f7,if_true]at ho;split at ho
       .rename_i d k' z;cases ho;exact⟨λd2 k2 q=>(by cases q;exact z),λy q=>(by cases q)⟩
       .rename_i y ρ' z;cases ho;exact⟨λd2 k2 q=>(by cases q),λy q=>(by cases q;exact⟨_,z⟩)⟩
       .cases ho
      have sh:(∃d k',r=.mval d k')\/∃y,r=.merr y:=by
       unfold pxS at ho
       repeat' split at ho
       all_goals (cases ho)
       .exact .inl ⟨_,_,rfl⟩
       .exact .inr ⟨_,rfl⟩
      rcases sh with ⟨d,k',er⟩|⟨y,er⟩
      .subst er;intro g ls k ds' h1 h2 C hC;obtain⟨eg,hl2,kk⟩:=key g ls k ds' h1 h2;subst eg;cases hC0.symm.trans hC;refine⟨jmv (n:=lv n+1) hfun hsc (λls2 k2 ds2 d2 k2' h=>by rw[h.2.2.1,hl2]) λcdv A outer s H E hcv hr o ls2 k2 ds2 d2 k2' h=>?_,hm,hfun.kp,hb⟩;obtain⟨rfl,rfl,rfl,rfl,rfl⟩:=h;have ck:=Ze t (X:=(qz CX0 P w K mg base N g0 (j0 st) f cdv A outer s H E).nox) rfl rfl rfl rfl rfl (Qy _) hr hsc.nd bQ (Yw t hm hcv rfl rfl);refine hmp cdv A outer s H E _ fu (evP fu G T n) G ck (gok rfl rfl rfl rfl rfl hr) C0 hC0 (j2d hPc rfl rfl rfl rfl rfl (Qy _) hr) o _ _ _ _ ⟨dOb,?_⟩ ?_
       .unfold startM;exact Y8 (by unfold qg;rw[X7,km,xx];omega)
       .rw[(kk o.a).1 _ _ rfl];exact⟨rfl,rfl⟩
      .subst er;intro g ls k ds' h1 h2 C hC;obtain⟨eg,hl2,kk⟩:=key g ls k ds' h1 h2;subst eg;cases hC0.symm.trans hC;refine⟨jks (n:=lv n+1) hfun hsc (λls2 k2 ds2 y2 h=>by rw[h.2.2.1,hl2]) λcdv A outer s H E hcv hr o ls2 k2 ds2 y2 h=>?_,hm,hfun.kp,hb⟩;obtain⟨rfl,rfl,rfl,rfl⟩:=h;have ck:=Ze t (X:=qz (CX1 P w) P w K mg base N g0 (j0 st) f cdv A outer s H E) rfl rfl rfl rfl rfl (Qy _) hr hsc.nd eM (Yw t hm hcv rfl rfl);refine hmp cdv A outer s H E (qz (CX1 P w) P w K mg base N g0 (j0 st) f cdv A outer s H E).xe fu (evP fu G T n) G ck (gok rfl rfl rfl rfl rfl hr) C0 hC0 (j2d hPc rfl rfl rfl rfl rfl (Qy _) hr) o _ _ _ _ ⟨dOb,?_⟩ ?_
       .unfold startM;exact Y8 (by unfold qg;rw[X7,km,xx];omega)
       .obtain⟨ρ',z⟩:=(kk o.a).2 _ rfl;rw[z];exact λ_ _=>rfl
    .have e:evP fu G T (n+1) x ds=.no:=by simp only[evP,hF,if_neg hl]
     rw[e];trivial
   obtain⟨st,f,fd,N,ps,hfun,hsc,hps,hN,hb,hdf,hm,hts⟩:=L.ex;refine⟨f,fd,ps,?_⟩;by_cases hl:ds.length=F.n
   .have e:evP fu G T (n+1) x ds=fin (run fu (evP fu G T n) G F.body (enter F ds)):=by simp only[evP,hF,if_pos hl,hlam,Xr,if_false]
    have ab:j7 (qg N ds)=enter F ds:=Wt hl hN;cases ho:run fu (evP fu G T n) G F.body (enter F ds) with
    |next ρ' =>rw[e,ho];refine⟨Ft (k:=lv n+1) hfun hsc (λds' d' h=>by rw[h.1,hl,hps]) λcdv A outer s H E hcv hr ds' d' ⟨e1,e2⟩=>?_,hm,hfun.kp,hb,hdf⟩;subst e1 e2;refine Ud (fu:=fu) (hts cdv A outer s H E _) (Ze t rfl rfl rfl rfl rfl (Qy _) hr hsc.nd bQ (Yw t hm hcv rfl rfl)) (gok rfl rfl rfl rfl rfl hr) (qg N ds') _ ?_;rw[ab,ho];exact λ_ _=>rfl
    |ret r =>
     rw[e,ho];cases r with
     |no=>trivial
     |lval d=>exact λy hy=>absurd (hy▸Dy y) hlast
     |mval d k=>exact λg _ _ _ hy=>absurd (hy▸j0y g) hhead
     |merr d=>exact λg _ _ _ hy=>absurd (hy▸j0y g) hhead
     |err y =>refine⟨j5c (k:=lv n+1) hfun hsc (λds' d' h=>by rw[h.1,hl,hps]) λcdv A outer s H E hcv hr ds' y' ⟨e1,e2⟩=>?_,hm,hfun.kp,hb⟩;subst e1 e2;refine Ud (X:=qz (CX1 P w) P w K mg base N x (j0 st) f cdv A outer s H E) (fu:=fu) (hts cdv A outer s H E (qz (CX1 P w) P w K mg base N x (j0 st) f cdv A outer s H E).xe) (Ze t rfl rfl rfl rfl rfl (Qy _) hr hsc.nd eM (Yw t hm hcv rfl rfl)) (gok rfl rfl rfl rfl rfl hr) (qg N ds') _ ?_;rw[ab,ho];intro z hz;cases z<;>cases hz
     |val d =>
      refine⟨Ft (k:=lv n+1) hfun hsc (λds' d' h=>by rw[h.1,hl,hps]) λcdv A outer s H E hcv hr ds' d' ⟨e1,e2⟩=>?_,hm,hfun.kp,hb,hdf⟩;subst e1 e2;refine Ud (fu:=fu) (hts cdv A outer s H E _) (Ze t rfl rfl rfl rfl rfl (Qy _) hr hsc.nd bQ (Yw t hm hcv rfl rfl)) (gok rfl rfl rfl rfl rfl hr) (qg N ds') _ ?_;rw[ab,ho];intro y hy;cases y with
      |val d=>cases hy;rfl
      |fresh l=>cases hy
     |fresh l =>
      refine⟨j93 (k:=lv n+1) hfun hsc (λds' d' h=>by rw[h.1,hl,hps]) λcdv A outer s H E hcv hr ds' d' ⟨e1,e2⟩=>?_,hm,hfun.kp,hb,hdf⟩;subst e1 e2;refine Ud (fu:=fu) (hts cdv A outer s H E _) (Ze t rfl rfl rfl rfl rfl (Qy _) hr hsc.nd bQ (Yw t hm hcv rfl rfl)) (gok rfl rfl rfl rfl rfl hr) (qg N ds') _ ?_;rw[ab,ho];intro y hy;cases y with
      |val d=>cases hy
      |fresh l=>cases hy;rfl
    |err y ρ' =>rw[e,ho];refine⟨j5c (k:=lv n+1) hfun hsc (λds' d' h=>by rw[h.1,hl,hps]) λcdv A outer s H E hcv hr ds' y' ⟨e1,e2⟩=>?_,hm,hfun.kp,hb⟩;subst e1 e2;refine Ud (X:=qz (CX1 P w) P w K mg base N x (j0 st) f cdv A outer s H E) (fu:=fu) (hts cdv A outer s H E (qz (CX1 P w) P w K mg base N x (j0 st) f cdv A outer s H E).xe) (Ze t rfl rfl rfl rfl rfl (Qy _) hr hsc.nd eM (Yw t hm hcv rfl rfl)) (gok rfl rfl rfl rfl rfl hr) (qg N ds') _ ?_;rw[ab,ho];exact λ_ _=>rfl
    |brk _=>rw[e,ho];trivial
    |cnt _=>rw[e,ho];trivial
    |no=>rw[e,ho];trivial
   .have e:evP fu G T (n+1) x ds=.no:=by simp only[evP,hF,if_neg hl]
    rw[e];trivial
end
noncomputable def Gof(gs:List (ao×D))(q:Bool)(xs:List (ao×List D))(fs:List ao)(x:ao):Option D :=
 if Va x=af then(if x = "?" then(if q=af then aa (.bl af)else ah) else((xs.find? λp=>bang p.1==x).map λp=>.lst p.2).or (if (fs.any λf=>qm f==x)=af then aa .non else ah))else gs.lookup x
theorem j9s{x y:ao}(h:bang x=bang y):x=y:=by unfold bang at h;have h:(⟨("!":ao).cps++x.cps⟩:ao)=⟨("!":ao).cps++y.cps⟩:=h;have h:=congrArg iJ h;have e:x.cps=y.cps:=dO h rfl;cases x;cases y;cases e;rfl
theorem j0g(x:ao):Va (bang x)=af:=by unfold Va;rw[Rw];rfl
theorem j6f(x:ao):Va (qm x)=af:=by unfold Va;rw[j0t];rfl
theorem Ir{gs:List (ao×D)}{q:Bool}{xs:List (ao×List D)}{fs:List ao}{x:ao}{d:D}(h:Gof gs q xs fs (bang x)=aa d):∃p∈xs,p.1=x/\d=.lst p.2:=by
 unfold Gof at h;rw[if_pos (j0g x),if_neg (jdx x)]at h;have hn:(fs.any λf=>qm f==bang x)=ae:=by rw[fe];intro f _ e;exact j1i x f (beq_iff_eq.mp e).symm
 rw[hn,if_neg (by decide),Option.or_none]at h;obtain⟨p,hp,rfl⟩:=Xv.mp h;have z:=List.find?_some (p:=λp:ao×List D=>bang p.1==bang x) hp;exact⟨p,List.mem_of_find?_eq_some hp,j9s (beq_iff_eq.mp z),rfl⟩
theorem Ip{gs:List (ao×D)}{q:Bool}{xs:List (ao×List D)}{fs:List ao}{x:ao}{d:D}(h:Gof gs q xs fs (qm x)=aa d):x∈fs:=by
 unfold Gof at h;rw[if_pos (j6f x),if_neg (jjl x)]at h;have hn:(xs.find? λp=>bang p.1==qm x)=ah:=by rw[List.find?_eq_none];intro p _ e;exact j1i p.1 x (beq_iff_eq.mp e)
 rw[hn,Option.map_none,Option.none_or]at h;split at h
 .rename_i z;obtain⟨f,hf,e⟩:=List.any_eq_true.mp z;exact jfa (beq_iff_eq.mp e)▸hf
 .cases h
theorem jiu{P:ay}{w:aD}{K:k7g}{mg:k7j}{base:aH}{gs:List (ao×D)}{q:Bool}{xs:List (ao×List D)}{fs:List ao}(bt:∀x∈Vc,mg x=ah)
  (gl:∀x d,gs.lookup x=aa d->∃u v,mg x=aa u/\RelV v u/\∀H,Enc K H d v) (ea:Mi K=af) (hx:∀p∈xs,p.1∈J4/\∃o,W.nsIn K aw p.1=aa (aa o))
  (el:q=af->∀c∈J4,∃v,W.nsIn K aw c=aa (aa v)) (kin:K.In base) (ns:base.Ns aw mg) (fn:∀f∈fs,∃fa,mg f=aa (.ref fa)/\W.keepIn K (.ref fa)=af) (kd:∀p∈xs,KindsP P w K mg base "_law_kinds" p.1 p.2) (lm:∀x∈Vf,∀f cdv,mg x=aa (.ref f)->U9 K f cdv->∃c Pt,cdv=.ref c/\W.codeHdIn K c Pt=af/\W.tabIn K x=aa (c,Pt)) (pl:("_law_plan":ao)∈fs->j6i P w K mg base:=by exact λh=>absurd h (by decide)) (pc:("Pieces":ao)∈fs->∃C,mg "Pieces" = aa (.ref C)/\Ox P w K mg base C:=by exact λh=>absurd h (by decide)):Tb P w K mg base (Gof gs q xs fs):=by
 refine⟨bt,λx d hb h=>?_,ea,λx d h=>?_,λh=>el ?_,kin,ns,λx l h=>?_,λf d h=>fn f (Ip h),λd h=>pl (Ip h),λd h=>pc (Ip h),lm⟩
 .unfold Gof at h;rw[if_neg (by rw[hb];decide)]at h;exact gl x d h
 .obtain⟨p,hp,rfl,_⟩:=Ir h;exact hx p hp
 .unfold Gof at h;rw[if_pos (by decide),if_pos rfl]at h;split at h
  .rename_i z;exact z
  .cases h
 .obtain⟨p,hp,rfl,e⟩:=Ir h;cases e;exact kd p hp
def Ln(K:k7g):Sp:=λvs H Q _=>∃(a:ak)(ns:List Int),vs=[.ref a]/\TabOk K H/\SqL K H a (ns.map V.int)/\ns.length<=63/\∀H':Hp,j4 H H'->Q (.bl af) H'
theorem j0b{K:k7g}{H:Hp}{a:ak}{ns:List Int}(h:SqL K H a (ns.map V.int)):j6 K H [.lst (ns.map D.int)] [.ref a] :=
 ⟨_,[],rfl,⟨a,_,rfl,h,j6.ints ns⟩,rfl⟩
theorem jgd{P:ay}{w:aD}{K:k7g}{mg:k7j}{base:aH}{fu:Nat}{G:ao->Option D}{T:ao->Option Fi}{n:Nat}{x p:ao}{fa:ak}{st:aQ}{F:Fi}
  (hT:∀x F,T x=aa F->LkF P w K mg base x F) (t:Tb P w K mg base G)
  (hx:T x=aa F) (hlam:F.lam=ae) (hm:mg x=aa (.ref fa)) {fd:aL} (hfun:Fun K x x st fa fd) (N:List ao) (hsc:FnScope N [p] (j0 st)) (h1:F.n=1) (hN:N.length=F.nn)
  (hts:∀(cdv:aj)(A:aG)(outer:List d9)(s:aq)(H:Hp)(E:XK)(xe:k7h),Ts ((qz CX0 P w K mg base N x (j0 st) fa cdv A outer s H E).wish xe) F.body (.ss (jg st)))
  (hlaw:∀ns:List Int,ns.length<=63->evP fu G T (n+1) x [.lst (ns.map D.int)]=.val (.bl af)):FnOk P w K mg base CX0 (lv (n+1)) fa fd [p] (Ln K):=by
 have S:FnOk P w K mg base CX0 (lv (n+1)) fa fd [p] (spP K λds d=>∃ns:List Int,ns.length<=63/\ds=[.lst (ns.map D.int)]/\d=.bl af):=by
  refine Ft (k:=lv n+1) hfun hsc (λds d ⟨ns,_,h,_⟩=>by rw[h];rfl) λcdv A outer s H E hcv hr ds d ⟨ns,hns,e1,e2⟩=>?_;subst e1 e2;have e:=hlaw ns hns;simp only[evP,hx,h1,hlam,Xr,if_false,xx,cG,if_true]at e;have ab:j7 (qg N [D.lst (ns.map D.int)])=enter F [D.lst (ns.map D.int)]:=Wt (by rw[h1];rfl) hN;have g:Gok (qz CX0 P w K mg base N x (j0 st) fa cdv A outer s H E).nox (evP fu G T n):=λg ds'=>by
   obtain⟨f',fd',ps',q⟩:=Bl (fu:=fu) hT t n g ds';cases z:evP fu G T n g ds' with
   |val d=>rw[z]at q;exact⟨lv n,f',fd',ps',q.1,hr,q.2.1,q.2.2.1,q.2.2.2⟩
   |fresh l=>rw[z]at q;exact⟨lv n,f',fd',ps',q.1,hr,q.2.1,q.2.2.1,q.2.2.2⟩
   |err y=>rw[z]at q;exact⟨lv n,f',fd',ps',q.1,hr.mono (pq _),q.2.1,q.2.2.1,q.2.2.2⟩
   |lval d=>rw[z]at q;exact λy hy=>⟨lv n,hr.mono (pq _),q y hy⟩
   |mval d k=>rw[z]at q;exact λg' ls k ds'' h1 h2 C h3=>let ⟨a,b⟩:=q g' ls k ds'' h1 h2 C h3;⟨⟨lv n,f',fd',ps',a,hr.mono (pq _),b⟩⟩
   |merr y=>rw[z]at q;exact λg' ls k ds'' h1 h2 C h3=>let ⟨a,b⟩:=q g' ls k ds'' h1 h2 C h3;⟨⟨lv n,f',fd',ps',a,hr.mono (pq _),b⟩⟩
   |no=>trivial
  refine Ud (fu:=fu) (hts cdv A outer s H E _) (Ze t rfl rfl rfl rfl rfl (Qy _) hr hsc.nd bQ (Yw t hm hcv rfl rfl)) g (qg N _) _ ?_;rw[ab];cases ho:run fu (evP fu G T n) G F.body (enter F [D.lst (ns.map D.int)]) with
  |ret r =>
   rw[ho]at e;have e:r=.val (.bl af):=e;subst e;intro y hy;cases y with
   |val d=>cases hy;rfl
   |fresh l=>cases hy
  |next ρ'=>rw[ho]at e;cases e
  |brk _=>rw[ho]at e;cases e
  |cnt _=>rw[ho]at e;cases e
  |err _ _=>rw[ho]at e;cases e
  |no=>rw[ho]at e;cases e
 refine S.imp λvs H Q E ⟨a,ns,hv,tb,hS,hl,k⟩=>?_;subst hv;exact⟨[],_,_,tb,(λa h=>nomatch h),by rw[Jc];exact j0b hS,⟨ns,hl,rfl,rfl⟩,λv H' g e=>by cases(show v=.bl af from e);exact k H' g⟩
noncomputable def Lj(K:k7g):List (ak×ao):=Vf.filterMap λx=>(W.tabIn K x).map λq=>(q.2,zx x)
noncomputable def tOk(K:k7g)(ts:List ak):Bool:=(Vf.all λx=>match W.nsIn K aw x with
  |some ah=>af
  |_=>match W.tabIn K x with
   |some (c,P)=>W.codeHdIn K c P&&ts.contains P
   |none=>ae)&&W.noTabs K&&decide ((Lj K).map (·.1)).Nodup
theorem jbc{K:k7g}{ts:List ak}{h:aH}(hk:tOk K ts=af)(X:K.In h)(ht:∀P∈ts,h.get? P=aa (W.tabObj #[])):j9v (Lj K) h:=by
 unfold tOk at hk;rw[Xb,Xb]at hk;refine⟨of_decide_eq_true hk.2,λt hm=>?_⟩;obtain⟨x,hx,e⟩:=Py.mp hm;obtain⟨⟨c,P⟩,e1,e2⟩:=Xv.mp e;subst e2;have z:=Xq.mp hk.1.1 x hx;split at z
 .rename_i y;exfalso;unfold W.tabIn at e1;rw[y]at e1;cases e1
 .rw[e1]at z;have z:(W.codeHdIn K c P&&ts.contains P)=af:=z;rw[Xb]at z;exact⟨⟨c,W.codeHd_of_K X z.1⟩,ht P (by simpa using z.2)⟩
theorem jk0{K:k7g}{ts:List ak}{h:aH}{mg:k7j}(hk:tOk K ts=af)(X:K.In h)(Gn:h.Ns aw mg):∀x∈Vf,∀f cdv,mg x=aa (.ref f)->U9 K f cdv->∃c Pt,cdv=.ref c/\W.codeHdIn K c Pt=af/\W.tabIn K x=aa (c,Pt):=λx hx f cdv hm hcv=>by
 unfold tOk at hk;rw[Xb,Xb]at hk;have z:=Xq.mp hk.1.1 x hx;split at z
 .rename_i y;rw[W.mg_none_of X Gn y]at hm;cases hm
 .split at z
  .rename_i c P e;rw[Xb]at z;refine⟨c,P,?_,z.1,e⟩;obtain⟨oc,od,fd,sl,e3,e4⟩:=hcv;unfold W.tabIn at e;split at e
   .rename_i f' hf;have e5:=W.mg_of X Gn hf;rw[hm]at e5;cases e5;rw[e3]at e;dsimp only at e;split at e
    .rename_i c' hc;split at e
     .split at e
      .cases e;rw[<-e4];exact hc
      .cases e
     .cases e
    .cases e
   .cases e
  .cases z
theorem jeg{K:k7g}{H:Hp}(hO:Only (Lj K) H):TabOk K H:=λx hx c P e=>hO.2 (P,zx x) (Py.mpr ⟨x,hx,by rw[e];rfl⟩)
theorem j4l{K:k7g}{ts:List ak}(hk:tOk K ts=af):W.noTabs K=af:=by unfold tOk at hk;rw[Xb,Xb]at hk;exact hk.1.2
theorem walkL{l:dD}{q:ay}{loose:List ao}{XP:(ao->Option aj)->aH->Prop}{YP:aD->aH->Prop}{d:DefRec}{K:lG->k7g}{k:Nat}{x:ao}{ts:List ak}(hk:k<=100)(hn:l.most=aa 63)(hdf:d.params.defaults=[])
  (hY:∀(w:aD)(h:aH),YP w h->(K w.params).In h/\∀P∈ts,h.get? P=aa (W.tabObj #[])) (hK:∀w:aD,tOk (K w.params) ts=af)
  (F:∀(w:aD)(mg:k7j)(fa:ak)(h:aH),(K w.params).In h->h.Ns aw mg->mg d.name=aa (.ref fa)->tOk (K w.params) ts=af ->
   ∃fd:aL,(∀(s:aq)(u:aj),fV s fd ⟨[u],[]⟩ [(x,u)])/\∀base:aH,(K w.params).In base->base.Ns aw mg->FnOk l.prog w (K w.params) mg base CX0 k fa fd [x] (Ln (K w.params))) :
  hJ q loose XP YP l.row.toRowW d [] (λf vs=>fU f vs) :=
 L2.walk_of (n:=63) (k:=k) (x:=x) (CX:=λ_=>CX0) (sp:=λw=>Ln (K w.params)) (ts:=λw=>Lj (K w.params)) hn (by decide) hdf
  (Room.mono (k:=100) ⟨rfl,by decide,by decide⟩ hk) (λw h Y=>⟨(hY w h Y).1,jbc (hK w) (hY w h Y).1 (hY w h Y).2⟩) (λw=>j4l (hK w)) (λw mg fa h X G m=>F w mg fa h X G m (hK w)) (λw H a ns hl hO hS=>⟨a,ns,rfl,jeg hO,hS,hl,λH' g=>⟨rfl,g⟩⟩) λ_ _ _ _ _ z=>z
def Lf(K:k7g)(x:ao)(st:aQ):Prop:=∃(f:ak)(oc:aj)(od:Option ak)(kV dc pm:aj)(an:Option ak)(cd ct:aj)(sl:Array (Option aj)),W.nsIn K aw x=aa (aa (.ref f)) /\
 K.lookup f=aa ⟨oc,od,.func (W.fnOf x x (za st) (jg st) (j0 st) .none kV dc pm an cd ct),sl⟩/\W.codeIn K cd x=af/\W.keepIn K (.ref f)=af
def TrT(P:ay)(w:aD)(K:k7g)(mg:k7j)(base:aH)(x:ao)(N:List ao)(st:aQ)(b:Sx):Prop :=
 ∀(f:ak)(cdv:aj)(A:aG)(outer:List d9)(s:aq)(H:Hp)(E:XK) (xe:k7h),Ts ((qz CX0 P w K mg base N x (j0 st) f cdv A outer s H E).wish xe) b (.ss (jg st))
noncomputable def bOk(K:k7g):Bool:=Vc.all λx=>match W.nsIn K aw x with
 |some ah=>af
 |_=>ae
section
variable{P:ay}{w:aD}{K:k7g}{mg:k7j}{base h:aH}{x:ao}{st:aQ}{N ps:List ao}{F:Fi}
theorem jaq(X:K.In h)(Gn:h.Ns aw mg)(hb:bOk K=af):∀x∈Vc,mg x=ah:=λx hx=>by
 have z:=Xq.mp hb x hx;split at z
 .rename_i e;exact W.mg_none_of X Gn e
 .cases z
theorem ql(L:Lf K x st)(X:K.In h)(Gn:h.Ns aw mg)(t:TrT P w K mg base x N st F.body)(ps:List ao)(sc:FnScope N ps (j0 st))(h1:ps.length=F.n)(h2:N.length=F.nn)
  (hb:∀(kV doc pm:aj)(an:Option ak)(cdv ct:aj)(us:List aj),us.length=ps.length->cQ (W.fnOf x x (za st) (jg st) (j0 st) .none kV doc pm an cdv ct) ⟨us,[]⟩=pure (ps.zip us)) (hd:x∉jhp):Lk P w K mg base x F:=by
 obtain⟨f,oc,od,kV,dc,pm,an,cd,ct,sl,a,l,c,k⟩:=L;exact⟨st,f,_,N,ps,Zb l c k,sc,h1,h2,(Zb l c k).binds hb,λz=>absurd z hd,W.mg_of X Gn a,t f⟩
theorem lkF(L:Lk P w K mg base x F)(h:F.lam=ae)(hn:x.cps.toList.getLast?≠aa 62)(hh:x.cps.toList.head?≠aa 64):LkF P w K mg base x F:=⟨λ_=>.inl ⟨L,hn,hh⟩,λz=>by rw[h]at z;cases z⟩
theorem us1{us:List aj}(h:us.length=1):∃a,us=[a]:=by match us,h with|[a],_=>exact⟨a,rfl⟩
theorem us2{us:List aj}(h:us.length=2):∃a b,us=[a,b]:=by match us,h with|[a,b],_=>exact⟨a,b,rfl⟩
theorem us3{us:List aj}(h:us.length=3):∃a b c,us=[a,b,c]:=by match us,h with|[a,b,c],_=>exact⟨a,b,c,rfl⟩
theorem us4{us:List aj}(h:us.length=4):∃a b c d,us=[a,b,c,d]:=by match us,h with|[a,b,c,d],_=>exact⟨a,b,c,d,rfl⟩
end
theorem lf_mk{K:k7g}{x:ao}{st:aQ}{f:ak}{oc:aj}{od:Option ak}{kV dc pm:aj}{an:Option ak}{cd ct:aj}{sl:Array (Option aj)}(a:W.nsIn K aw x=aa (aa (.ref f)))
  (l:K.lookup f=aa ⟨oc,od,.func (W.fnOf x x (za st) (jg st) (j0 st) .none kV dc pm an cd ct),sl⟩) (c:W.codeIn K cd x=af) (k:W.keepIn K (.ref f)=af):Lf K x st:=⟨f,oc,od,kV,dc,pm,an,cd,ct,sl,a,l,c,k⟩
structure PcS(P:ay)(w:aD)(K:k7g)(mg:k7j)(base:aH)(sI sA sT sL:aQ):Prop where
 scI:FnScope ["self","text"] ["self","text"] (j0 sI)
 scA:FnScope ["self"] ["self"] (j0 sA)
 scT:FnScope ["self","piece"] ["self"] (j0 sT)
 scL:FnScope ["self"] ["self"] (j0 sL)
 boI:∃(n n2:Nat)(p1 p2 p3 p4 p5 p6 p7 p8 p9 p10 p11:aP),jg sI=jag n n2 p1 p2 p3 p4 p5 p6 p7 p8 p9 p10 p11/\(p4.endLine==p6.line)=af
 boA:∃(n:Nat)(p1 p2 p3 p4 p5 p6 p7 p8 p9 p10 p11 p12 p13 p14 p15 p16:aP),jg sA=j6h n p1 p2 p3 p4 p5 p6 p7 p8 p9 p10 p11 p12 p13 p14 p15 p16
 boT:∃(n:Nat)(p1 p2 p3 p4 p5 p6 p7 p8 p9 p10 p11 p12 p13 p14:aP),jg sT=j3t n p1 p2 p3 p4 p5 p6 p7 p8 p9 p10 p11 p12 p13 p14/\∀f cdv A outer s H E,Ql (qz CX0 P w K mg base ["self","piece"] "Pieces.taken" (j0 sT) f cdv A outer s H E).nox (.Name "self" p2) "ahead" p3 p4
 boL:∃(p1 p2 p3 p4 p5 p6 p7 p8:aP),jg sL=allB p1 p2 p3 p4 p5 p6 p7 p8
 vi:Vis (j0 sI) "self"/\Vis (j0 sI) "text"/\Vis (j0 sA) "self"/\Vis (j0 sT) "self"/\Vis (j0 sL) "self"
 na:(j0 sA).names.lookup ("len":ao)=aa .globalImplicit/\(j0 sT).names.lookup ("piece":ao)=aa .local/\(j0 sL).names.lookup ("len":ao)=aa .globalImplicit
 biI:∀(kV doc pm:aj)(an:Option ak)(cdv ct:aj)(us:List aj),us.length=2->cQ (W.fnOf "__init__" "Pieces.__init__" (za sI) (jg sI) (j0 sI) .none kV doc pm an cdv ct) ⟨us,[]⟩=pure ((["self","text"]:List ao).zip us)
 biA:∀(kV doc pm:aj)(an:Option ak)(cdv ct:aj)(us:List aj),us.length=1->cQ (W.fnOf "ahead" "Pieces.ahead" (za sA) (jg sA) (j0 sA) .none kV doc pm an cdv ct) ⟨us,[]⟩=pure ((["self"]:List ao).zip us)
 biT:∀(kV doc pm:aj)(an:Option ak)(cdv ct:aj)(us:List aj),us.length=1->cQ (W.fnOf "taken" "Pieces.taken" (za sT) (jg sT) (j0 sT) .none kV doc pm an cdv ct) ⟨us,[]⟩=pure ((["self"]:List ao).zip us)
 biL:∀(kV doc pm:aj)(an:Option ak)(cdv ct:aj)(us:List aj),us.length=1->cQ (W.fnOf "all_taken" "Pieces.all_taken" (za sL) (jg sL) (j0 sL) .none kV doc pm an cdv ct) ⟨us,[]⟩=pure ((["self"]:List ao).zip us)
def Lm(K:k7g)(C f:ak)(x q:ao)(st:aQ):Prop:=∃(oc:aj)(od:Option ak)(kV dc pm:aj)(an:Option ak)(cd ct:aj)(sl:Array (Option aj)),W.findIn K (.ref C) x=aa (aa (.ref f))/\W.isFn K (.ref f)=af /\
 K.lookup f=aa ⟨oc,od,.func (W.fnOf x q (za st) (jg st) (j0 st) .none kV dc pm an cd ct),sl⟩/\W.codeIn K cd q=af/\W.keepIn K (.ref f)=af
theorem lm_mk{K:k7g}{C f:ak}{x q:ao}{st:aQ}{oc:aj}{od:Option ak}{kV dc pm:aj}{an:Option ak}{cd ct:aj}{sl:Array (Option aj)}(a:W.findIn K (.ref C) x=aa (aa (.ref f)))(i:W.isFn K (.ref f)=af)
  (l:K.lookup f=aa ⟨oc,od,.func (W.fnOf x q (za st) (jg st) (j0 st) .none kV dc pm an cd ct),sl⟩) (c:W.codeIn K cd q=af) (k:W.keepIn K (.ref f)=af):∃f,Lm K C f x q st:=⟨f,oc,od,kV,dc,pm,an,cd,ct,sl,a,i,l,c,k⟩
structure PcH(K:k7g)(C:ak)(sI sA sT sL:aQ):Prop where
 at_:W.nsIn K aw "Pieces" = aa (aa (.ref C))
 pg:W.plainGet K C dM=af
 hd:W.hasDictIn K C=af
 po:W.plainOver K C=af
 sa:W.findIn K (.ref C) "__setattr__" = aa (aa (.builtin "object.__setattr__"))
 mk_:W.makesIn K C=af
 kc:W.keepIn K (.ref C)=af
 nS:W.findIn K (.ref C) "standing" = aa ah
 nP:W.findIn K (.ref C) "spot" = aa ah
 mI:∃f,Lm K C f "__init__" "Pieces.__init__" sI
 mA:∃f,Lm K C f "ahead" "Pieces.ahead" sA
 mT:∃f,Lm K C f "taken" "Pieces.taken" sT
 mL:∃f,Lm K C f "all_taken" "Pieces.all_taken" sL
theorem jjp {P:ay} {w:aD} {K:k7g} {mg:k7j} {base h:aH} {C:ak} {sI sA sT sL:aQ} (S:PcS P w K mg base sI sA sT sL) (hH:PcH K C sI sA sT sL) (X:K.In h) (Gn:h.Ns aw mg) (bt:mg "len" = ah) :
  ∃C,mg "Pieces" = aa (.ref C)/\Ox P w K mg base C:=by
 obtain⟨scI,scA,scT,scL,⟨n,n2,q1,q2,q3,q4,q5,q6,q7,q8,q9,q10,q11,eI,hlI⟩,⟨nA,a1,a2,a3,a4,a5,a6,a7,a8,a9,a10,a11,a12,a13,a14,a15,a16,eA⟩,⟨nT,t1,t2,t3,t4,t5,t6,t7,t8,t9,t10,t11,t12,t13,t14,eT,hmT⟩,⟨l1,l2,l3,l4,l5,l6,l7,l8,eL⟩,⟨v1,v2,v3,v4,v5⟩,⟨g1,g2,g3⟩,biI,biA,biT,biL⟩:=S;obtain⟨atC,pg,hd,po,sa,mk,kc,nS,nP,⟨fI,ocI,odI,kVI,dcI,pmI,anI,cdI,ctI,slI,fiI,fnI,lkI,coI,kpI⟩,⟨fA,ocA,odA,kVA,dcA,pmA,anA,cdA,ctA,slA,fiA,fnA,lkA,coA,kpA⟩,⟨fT,ocT,odT,kVT,dcT,pmT,anT,cdT,ctT,slT,fiT,fnT,lkT,coT,kpT⟩,⟨fL,ocL,odL,kVL,dcL,pmL,anL,cdL,ctL,slL,fiL,fnL,lkL,coL,kpL⟩⟩:=hH;have mgC:=W.mg_of X Gn atC;have T:PcT K mg C fA fT fL fI:=⟨⟨pg,hd,po,sa⟩,nS,nP,⟨fiA,fnA,kpA⟩,⟨fiT,fnT,kpT⟩,⟨fiL,fnL,kpL⟩,⟨mk,fiI,fnI,kc⟩,mgC,bt⟩
 have FI:=Zb (st:=sI) lkI coI kpI;have FA:=Zb (st:=sA) lkA coA kpA;have FT:=Zb (st:=sT) lkT coT kpT;have FL:=Zb (st:=sL) lkL coL kpL;have GA:=j81 (P:=P) (w:=w) (mg:=mg) (base:=base) FA T scA eA v3 g1;have bA:=FA.binds (ps:=["self"]) biA;exact⟨C,mgC,fA,fT,fL,fI,_,_,_,_,T,⟨GA,bA⟩,⟨j80 FT T scT eT v4 g2 (λcdv A outer s H E=>hmT fT cdv A outer s H E) GA bA,FT.binds (ps:=["self"]) biT⟩,⟨jfz FL T scL eL v5 g3,FL.binds (ps:=["self"]) biL⟩,⟨jcb FI T scI eI v1 v2 hlI,FI.binds (ps:=["self","text"]) biI⟩⟩
def TrM(P:ay)(w:aD)(K:k7g)(mg:k7j)(base:aH)(x:ao)(N:List ao)(st:aQ)(p:Px):Prop :=
 ∀(f:ak)(cdv:aj)(A:aG)(outer:List d9)(s:aq)(H:Hp)(E:XK) (xe:k7h),MP ((qz CX0 P w K mg base N x (j0 st) f cdv A outer s H E).wish xe) 0 p (jg st)
section
variable{P:ay}{w:aD}{K:k7g}{mg:k7j}{base h:aH}{x g:ao}{st:aQ}{N ps:List ao}{F:Fi}{p:Px}
theorem j4q(hx:x=mq g)(L:Lf K g st)(X:K.In h)(Gn:h.Ns aw mg)(t:TrM P w K mg base g N st p)(ps:List ao)(sc:FnScope N ps (j0 st))(hF:F.body=.px p)(hl:F.lam=ae)(h1:ps.length+1=F.n)(h2:N.length+1=F.nn)(h3:0<ps.length)(h4:ps.length<=N.length)
  (hb:∀(kV doc pm:aj)(an:Option ak)(cdv ct:aj)(us:List aj),us.length=ps.length->cQ (W.fnOf g g (za st) (jg st) (j0 st) .none kV doc pm an cdv ct) ⟨us,[]⟩=pure (ps.zip us)) (pc:∃C,mg "Pieces" = aa (.ref C)/\Ox P w K mg base C):LkF P w K mg base x F:=by
 obtain⟨f,oc,od,kV,dc,pm,an,cd,ct,sl,a,l,c,k⟩:=L;exact⟨λ_=>.inr ⟨g,p,st,f,_,N,ps,hx,hF,Zb l c k,sc,h1,h2,h3,h4,(Zb l c k).binds hb,W.mg_of X Gn a,pc,t f⟩,λz=>by rw[hl]at z;cases z⟩
theorem jjk {C:ak} {sI sA sT sL:aQ} (H:PcH K C sI sA sT sL) (X:K.In h) (Gn:h.Ns aw mg):∃fa,mg "Pieces" = aa (.ref fa)/\W.keepIn K (.ref fa)=af:=⟨C,W.mg_of X Gn H.at_,H.kc⟩
end
end L2
end
section
namespace L2
open PySem (Str sizeLine argBest)
theorem J1{n:Nat}(h:n<=1000000):n<=au:=Xf h (by decide)
theorem lt_size{n:Nat}(h:n<=1000000):n<au:=dn h (by decide)
noncomputable def Ve(o:So)(f:En->So):So:=match o with
 |.next ρ=>f ρ
 |o=>o
noncomputable def ifS(c:Option Bool)(f g:En->So)(ρ:En):So:=match c with
 |some af=>f ρ
 |some ae=>g ρ
 |none=>.no
noncomputable def Mp(is:List Nat)(f:En->So)(d:D)(ρ:En):So:=match vf is d ρ with
 |some ρ2=>f ρ2
 |none=>.no
noncomputable def ja9(is:List Nat)(w:Option W)(f:En->So)(ρ:En):So:=match w with
 |some (.i ds)=>vo (Mp is f) ds ρ
 |_=>.no
section
variable{fu:Nat}{Γ:ao->List D->Rc}{G:ao->Option D}{ρ:En}{i j:Nat}{e c k:Ex}{a b:Sx}{is:List Nat}
theorem jbl:run fu Γ G .nop ρ=.next ρ:=(rfl)
theorem j0s:run fu Γ G (.seq a b) ρ=Ve (run fu Γ G a ρ) (run fu Γ G b):=(rfl)
theorem jbj:run fu Γ G (.set i e) ρ=orE (Uw i (ev Γ G e ρ) ρ) (er Γ G e ρ) ρ:=(rfl)
theorem jbm:run fu Γ G (.mov i j) ρ=Ia i j ρ[j]? ρ:=(rfl)
theorem j7l:run fu Γ G (.expr e) ρ=orE (Eb (ev Γ G e ρ) ρ) (er Γ G e ρ) ρ:=(rfl)
theorem jbk:run fu Γ G (.ret e) ρ=orE (retS (ev Γ G e ρ)) (er Γ G e ρ) ρ:=(rfl)
theorem j7x{ρ':En}{x:Option ao}:orE (.next ρ') x ρ=.next ρ':=(rfl)
theorem j0x{r:Rc}{x:Option ao}:orE (.ret r) x ρ=.ret r:=(rfl)
theorem jhh:ev Γ G (.fst e) ρ=j2x (ev Γ G e ρ):=(rfl)
noncomputable def jm9(w:Option W):Option W:=match w with
 |some (.v x)=>match x.d with
  |.str y=>if (bX y).length<=2000 then aa (.v (.e (.str (bX y))))else ah
  |_=>ah
 |_=>ah
theorem jh9:ev Γ G (.rpr e) ρ=jm9 (ev Γ G e ρ):=(rfl)
theorem j7g:run fu Γ G (.retV i) ρ=M5 ρ[i]?:=(rfl)
theorem jbn:run fu Γ G (.ife c a b) ρ=ifS (truth (ev Γ G c ρ)) (run fu Γ G a) (run fu Γ G b) ρ:=(rfl)
theorem j7j:run fu Γ G (.loop is e a) ρ=ja9 is (ev Γ G e (frz e ρ)) (run fu Γ G a) (frz e ρ):=(rfl)
theorem jbr:run fu Γ G (.app i e) ρ=Ry i ρ[i]? (ev Γ G e ρ) ρ:=(rfl)
theorem jbp:run fu Γ G (.ext i e) ρ=Fx i ρ[i]? (ev Γ G e ρ) ρ:=(rfl)
theorem jbq:run fu Γ G (.clr i) ρ=Em i ρ[i]? ρ:=(rfl)
theorem j7f{k:Nat}:run fu Γ G (.unp3 i j k e) ρ=Bb i j k (stOf (ev Γ G e ρ)) ρ:=(rfl)
theorem jb6{k:Nat}{a b c:D}:Bb i j k (aa (.lst [a,b,c])) ρ=.next (((ρ.set i (.val a)).set j (.val b)).set k (.val c)):=(rfl)
theorem jem{d:D}:stOf (aa (.v (.e d)))=aa d:=(rfl)
theorem j4y{d:D}:Ma i (aa (.val d)) ρ=.next ρ:=(rfl)
theorem j7k:run fu Γ G (.keep i) ρ=Ma i ρ[i]? ρ:=(rfl)
theorem j4z{l:List D}:Ma i (aa (.own l)) ρ=.next (ρ.set i (.val (.lst l))):=(rfl)
theorem jbo:run fu Γ G (.fgt i) ρ=.next (ρ.set i .un):=(rfl)
end
section
variable{f g:En->So}{ρ:En}{i j:Nat}{d:D}{l m:List D}{r:Rc}{x:Rk}
theorem Dn:Ve (.next ρ) f=f ρ:=(rfl)
theorem Kh:Ve (.ret r) f=.ret r:=(rfl)
theorem jkh:ifS (aa af) f g ρ=f ρ:=(rfl)
theorem jki:ifS (aa ae) f g ρ=g ρ:=(rfl)
theorem jes:Uw i (aa (.v (.o l))) ρ=.next (ρ.set i (.own l)):=(rfl)
theorem jet:Uw i (aa (.v (.e d))) ρ=.next (ρ.set i (.val d)):=(rfl)
theorem jer(h:Jl d=af):Uw i (aa (.v (.t d))) ρ=.next (ρ.set i (.val d)):=by simp[Uw,Rk.st,h]
theorem jf4:retS (aa (.v (.o l)))=.ret (.fresh l):=(rfl)
theorem j46:retS (aa (.v (.e d)))=.ret (.val d):=(rfl)
theorem jbu:M5 (aa (.own l))=.ret (.fresh l):=(rfl)
theorem jbt:M5 (aa (.val d))=.ret (.val d):=(rfl)
theorem jg4(h:i≠j):Ia i j (aa (.own l)) ρ=.next ((ρ.set j .un).set i (.own l)):=if_neg h
theorem jh4:Eb (aa (.v x)) ρ=.next ρ:=(rfl)
theorem Q4:Mp [i] f d ρ=f (ρ.set i (.val d)):=(rfl)
theorem jck{is:List Nat}{ds:List D}:ja9 is (aa (.i ds)) f ρ=vo (Mp is f) ds ρ:=(rfl)
theorem ji6(h:l.length<=1000000):Ry i (aa (.own l)) (aa (.v (.e d))) ρ=.next (ρ.set i (.own (l++[d]))):=by simp[Ry,Rk.st,lt_size h]
theorem ji5(h:l.length<=1000000):Ry i (aa (.own l)) (aa (.v (.o m))) ρ=.next (ρ.set i (.own (l++[.lst m]))):=by simp[Ry,Rk.st,lt_size h]
theorem jh3(h:l.length+m.length<=1000000):Fx i (aa (.own l)) (aa (.v (.o m))) ρ=.next (ρ.set i (.own (l++m))):=by simp[Fx,jm,J1 h]
theorem jhu:Em i (aa (.own l)) ρ=.next (ρ.set i (.own [])):=(rfl)
theorem j19:fin (.ret r)=r:=(rfl)
theorem j94:fin (.next ρ)=.val .non:=(rfl)
theorem jr{fu:Nat}{G:ao->Option D}{T:ao->Option Fi}{n:Nat}{f:ao}{ds:List D}{F:Fi}(h:T f=aa F)(hl:ds.length=F.n)(hla:F.lam=ae:=by rfl):evP fu G T (n+1) f ds=fin (run fu (evP fu G T n) G F.body (enter F ds)):=by simp only[evP,h,if_pos hl,hla,Xr,if_false]
end
theorem V8{f:D->En->So}(W:Nat->En->Prop):∀{ds:List D}{ρ:En}{k:Nat},W k ρ->(∀i d ρ,ds[i]?=aa d->W (k+i) ρ->∃ρ',f d ρ=.next ρ'/\W (k+i+1) ρ')->∃ρ',vo f ds ρ=.next ρ'/\W (k+ds.length) ρ'
 |[],ρ,k,h0,_=>⟨ρ,rfl,h0⟩
 |d::ds,ρ,k,h0,hs=>by
  obtain⟨ρ1,e1,w1⟩:=hs 0 d ρ rfl h0;obtain⟨ρ2,e2,w2⟩:=V8 (f:=f) W (ds:=ds) (k:=k+1) w1 λi d' ρ' hi w=>by have:=hs (i+1) d' ρ' (by simpa using hi) (by rw[show k+(i+1)=k+1+i by omega];exact w);rw[show k+(i+1)+1=k+1+i+1 by omega]at this;exact this
  refine⟨ρ2,?_,by rw[xx,show k+(ds.length+1)=k+1+ds.length by omega];exact w2⟩;rw[vo,e1];exact e2
theorem Ih{f:D->En->So}(W:Nat->En){ds:List D}{ρ:En}(h0:ρ=W 0)(hs:∀i d,ds[i]?=aa d->f d (W i)=.next (W (i+1))):vo f ds ρ=.next (W ds.length):=by
 obtain⟨ρ',e,w⟩:=V8 (f:=f) (λi ρ=>ρ=W i) (k:=0) (ds:=ds) (ρ:=W 0) rfl λi d ρ hi w=>⟨W (0+i+1),by rw[w,Th];exact hs i d hi,rfl⟩
 rw[h0,e,w,Th]
theorem Y9{f:D->En->So}{ds:List D}{ρ:En}{g:En->So}{r:Rc}(W:Nat->En->Prop)(h0:W 0 ρ)(hs:∀i d ρ,ds[i]?=aa d->W i ρ->∃ρ',f d ρ=.next ρ'/\W (i+1) ρ')(hk:∀ρ',W ds.length ρ'->fin (g ρ')=r) :
  fin (Ve (vo f ds ρ) g)=r:=by
 obtain⟨ρ',e,w⟩:=V8 (f:=f) W (k:=0) (ds:=ds) (ρ:=ρ) h0 λi d ρ hi w=>by rw[Th]at w ⊢;exact hs i d ρ hi w
 rw[e];rw[Th]at w;exact hk ρ' w
theorem j3y{f:D->En->So}{ds:List D}{ρ:En}{g:En->So}{Q:En->Prop}(W:Nat->En->Prop)(h0:W 0 ρ)(hs:∀i d ρ,ds[i]?=aa d->W i ρ->∃ρ',f d ρ=.next ρ'/\W (i+1) ρ')
  (hk:∀ρ',W ds.length ρ'->∃ρ2,g ρ'=.next ρ2/\Q ρ2):∃ρ2,Ve (vo f ds ρ) g=.next ρ2/\Q ρ2:=by
 obtain⟨ρ',e,w⟩:=V8 (f:=f) W (k:=0) (ds:=ds) (ρ:=ρ) h0 λi d ρ hi w=>by rw[Th]at w ⊢;exact hs i d ρ hi w
 rw[e];rw[Th]at w;exact hk ρ' w
theorem j4o{f:D->En->So}{ρ:En}:vo f [] ρ=.next ρ:=(rfl)
theorem Bq{f:D->En->So}{d:D}{ds:List D}{ρ ρ':En}(h:f d ρ=.next ρ'):vo f (d::ds) ρ=vo f ds ρ':=by rw[vo,h]
noncomputable def jah(d:Option D):Option W:=d.map λd=>.v (.e d)
noncomputable def j8v(i:Option Int):Option W:=i.map λk=>.v (.e (.int k))
noncomputable def jgx(a:Option W):Option W:=match a with
 |some (.v x)=>aa (.v (.e (.bl x.d.isNon)))
 |_=>ah
noncomputable def j9u(k:Option Bool)(f:En->Option W)(ρ:En):Option W:=match k with
 |some ae=>aa (.v (.e (.bl ae)))
 |some af=>blW (truth (f ρ))
 |none=>ah
noncomputable def orW(k:Option Bool)(f:En->Option W)(ρ:En):Option W:=match k with
 |some af=>aa (.v (.e (.bl af)))
 |some ae=>blW (truth (f ρ))
 |none=>ah
noncomputable def jg1(k:Option Bool):Option W:=k.map λk=>.v (.e (.bl (!k)))
noncomputable def stW(a:Option W):Option W:=match a with
 |some (.v x)=>x.st.map λd=>.v (.e d)
 |_=>ah
noncomputable def j8l(k:Option Bool)(f g:En->Option W)(ρ:En):Option W:=match k with
 |some af=>stW (f ρ)
 |some ae=>stW (g ρ)
 |none=>ah
noncomputable def slW(a:Option W)(l h:Option (Option Int)):Option W:=match a,l,h with
 |some (.v x),aa l,aa h=>match x.sq with
  |some (af,ds)=>aa (.v (.o (cutD ds l h)))
  |some (ae,ds)=>if HT.sIx ds.length 0 l=0/\HT.sIx ds.length ds.length h=ds.length then ah else aa (.v (.e (.tup (cutD ds l h))))
  |none=>match x.d with
   |.str z=>if jm z.length=af then aa (.v (.e (.str (c8 z l h))))else ah
   |_=>ah
 |_,_,_=>ah
noncomputable def Vk(is:List Nat)(c e:En->Option W)(ρ:En)(d:D):Option (Option D):=match vf is d ρ with
 |none=>ah
 |some ρ2=>match c ρ2 with
  |some (.a [])=>match e ρ2 with
   |some (.v x)=>x.st.map aa
   |_=>ah
  |some (.a [y])=>match y.d with
   |.bl af=>match e ρ2 with
    |some (.v x)=>x.st.map aa
    |_=>ah
   |.bl ae=>aa ah
   |_=>ah
  |_=>ah
noncomputable def j36(is:List Nat)(w:Option W)(c e:En->Option W)(z:Bool)(ρ:En):Option W:=match w with
 |some (.i ds)=>if Lx is ρ=af/\jm ds.length=af then(Jm (Vk is c e ρ) ds).bind λl=>if (z && !qj l)=af then ah else aa (.v (.o l))else ah
 |_=>ah
section
variable{Γ:ao->List D->Rc}{G:ao->Option D}{ρ:En}{a b c e:Ex}{op:Bop}{cp:Cop}{x f:ao}{i:Nat}{d:D}
theorem jhd:ev Γ G (.lit d) ρ=aa (.v (.e d)):=(rfl)
theorem jh5:ev Γ G (.var i) ρ=Ni ρ[i]?:=(rfl)
theorem jdg:ev Γ G (.glob x) ρ=jah (G x):=(rfl)
theorem jhl:ev Γ G (.bin op a b) ρ=Q7 op (ev Γ G a ρ) (ev Γ G b ρ):=(rfl)
theorem jhj:ev Γ G (.cmp cp a b) ρ=De cp (ev Γ G a ρ) (ev Γ G b ρ):=(rfl)
theorem jhg:ev Γ G (.isN a) ρ=jgx (ev Γ G a ρ):=(rfl)
theorem jhm:ev Γ G (.and a b) ρ=j9u (truth (ev Γ G a ρ)) (ev Γ G b) ρ:=(rfl)
theorem jku:ev Γ G (.or a b) ρ=orW (truth (ev Γ G a ρ)) (ev Γ G b) ρ:=(rfl)
theorem jha:ev Γ G (.not a) ρ=jg1 (truth (ev Γ G a ρ)):=(rfl)
theorem jhe:ev Γ G (.ite c a b) ρ=j8l (truth (ev Γ G c ρ)) (ev Γ G a) (ev Γ G b) ρ:=(rfl)
theorem jhb:ev Γ G .nil ρ=aa (.a []):=(rfl)
theorem jdi:ev Γ G (.cons a b) ρ=consW (ev Γ G a ρ) (ev Γ G b ρ):=(rfl)
theorem jh6:ev Γ G (.tup a) ρ=Y6 (ev Γ G a ρ):=(rfl)
theorem jhc:ev Γ G (.lst a) ρ=Zq (ev Γ G a ρ):=(rfl)
theorem jkv:ev Γ G (.ix a b) ρ=ixW (ev Γ G a ρ) (ev Γ G b ρ):=(rfl)
theorem jkt:ev Γ G (.sl a b c) ρ=slW (ev Γ G a ρ) (Qf (ev Γ G b ρ)) (Qf (ev Γ G c ρ)):=(rfl)
theorem jdf{sep:ao}:ev Γ G (.join sep a) ρ=Vp sep (ev Γ G a ρ):=(rfl)
theorem j9d{y z:ao}:Ja .isin (.str y) (.str z)=aa (inS y z):=(rfl)
theorem j3z{y:ao}(h:ascii y=af):R8 (aa (.v (.e (.str y))))=aa (.i (chs y)):=if_pos h
theorem jdh{b:Ex}:ev Γ G (.dzip a b) ρ=Wh (ev Γ G a ρ) (ev Γ G b ρ):=(rfl)
theorem jhi{b:Ex}:ev Γ G (.dix a b) ρ=Fy (ev Γ G a ρ) (ev Γ G b ρ):=(rfl)
theorem jho{kvs:List (ao×Int)}{k:ao}{n:Int}(h:Yi kvs k=aa n):Fy (aa (.v (.e (.sct kvs)))) (aa (.v (.e (.str k))))=aa (.v (.e (.int n))):=by simp only[Fy,Rk.d,h];rfl
theorem jdk:ev Γ G (.call f a) ρ=Jv Γ f (ev Γ G a ρ):=(rfl)
theorem jhk{f:Bf}:ev Γ G (.blt f a) ρ=vd f (ev Γ G a ρ):=(rfl)
theorem jhf{ts:List String}:ev Γ G (.isi a ts) ρ=Fp (ev Γ G a ρ) ts:=(rfl)
theorem jdj{is:List Nat}:ev Γ G (.comp is e a c) ρ=j36 is (ev Γ G a (frz a ρ)) (ev Γ G c) (ev Γ G e) (Jf a ρ) (frz a ρ):=(rfl)
theorem jh8:ev Γ G (.seq a) ρ=R8 (ev Γ G a ρ):=(rfl)
theorem j96:ev Γ G (.range a) ρ=Rg (ev Γ G a ρ):=(rfl)
end
section
variable{x y:Rk}{d:D}{i j k:Int}{l m:List D}{b:Bool}{f g:En->Option W}{ρ:En}{xs:List Rk}{op:Bop}{cp:Cop}
theorem je7:Ni (aa (.val d))=aa (.v (.e d)):=(rfl)
theorem je8:Ni (aa (.own l))=aa (.v (.w l)):=(rfl)
theorem jd7:jah (aa d)=aa (.v (.e d)):=(rfl)
theorem jgy:j8v (aa i)=aa (.v (.e (.int i))):=(rfl)
theorem jkz:blW (aa b)=aa (.v (.e (.bl b))):=(rfl)
theorem ji4:Q7 op (aa (.v (.e (.int i)))) (aa (.v (.e (.int j))))=j8v (binI op i j):=by simp only[Q7,U4,Rk.d,j8v,rkW];cases binI op i j<;>rfl
theorem j9r:binI .add i j=aa (i+j):=(rfl)
theorem j9n:binI .sub i j=aa (i-j):=(rfl)
theorem j9p(h:(-18446744073709551616<i/\i<18446744073709551616)\/(-18446744073709551616<j/\j<18446744073709551616)):binI .mul i j=aa (i*j):=if_pos h
theorem j6e(h:0<j/\j<18446744073709551616):binI .fdiv i j=aa (i/j):=if_pos h
theorem j9q(h:0<j):binI .mod i j=aa (i%j):=if_pos h
theorem j9o(h:0<=j/\j<=1000000/\i.natAbs<18446744073709551616):binI .shl i j=aa (i*2^j.toNat):=if_pos h
theorem ji0(h:l.length+m.length<=1000000):Q7 .add (aa (.v (.o l))) (aa (.v (.w m)))=aa (.v (.o (l++m))):=by simp[Q7,U4,Rk.d,Rk.sq,jm,J1 h,rkW]
theorem jhy(h:l.length+m.length<=1000000):Q7 .add (aa (.v (.w l))) (aa (.v (.o m)))=aa (.v (.o (l++m))):=by simp[Q7,U4,Rk.d,Rk.sq,jm,J1 h,rkW]
theorem jhz(h:l.length+m.length<=1000000):Q7 .add (aa (.v (.e (.tup l)))) (aa (.v (.e (.tup m))))=aa (.v (.e (.tup (l++m)))):=by simp[Q7,U4,Rk.d,Rk.sq,jm,J1 h,rkW]
theorem jjf(h:-9223372036854775808<=k/\k<9223372036854775808)(h2:l.length*k.toNat<=1000000):Q7 .mul (aa (.v (.o l))) (aa (.v (.e (.int k))))=aa (.v (.o (az k.toNat l).flatten)):=by simp only[Q7,U4,Rk.d,Rk.sq,Rk.lw];rw[if_pos ⟨h.1,h.2,decide_eq_true (J1 h2)⟩];rfl
theorem jhs:De cp (aa (.v x)) (aa (.v y))=blW (Ja cp x.d y.d):=(rfl)
theorem d_e:(Rk.e d).d=d:=(rfl)
theorem d_o:(Rk.o l).d=.lst l:=(rfl)
theorem d_w:(Rk.w l).d=.lst l:=(rfl)
theorem d_t:(Rk.t d).d=d:=(rfl)
theorem jht:Ja cp (.int i) (.int j)=cmpI cp i j:=by cases cp<;>rfl
theorem j9c{a b:Bool}:Ja .ne (.bl a) (.bl b)=aa (a != b):=(rfl)
theorem j9g{a b:Bool}:Ja .eq (.bl a) (.bl b)=aa (a==b):=(rfl)
theorem j9f(h:(D.lst l).dep<=90)(h2:(D.lst m).dep<=90):Ja .eq (.lst l) (.lst m)=aa (vy l m):=by simp[Ja,h,h2,Ed,Eg]
theorem j9b(h:D.depL l<=90)(h2:D.depL m<=90):Ja .ne (.lst l) (.lst m)=aa (!vy l m):=by simp[Ja,h,h2]
theorem j9e{a b:ao}:Ja .eq (.str a) (.str b)=aa (a==b):=by simp[Ja,D.dep,Ef]
theorem j60:Ja .eq (.lst []) (.lst [])=aa (vy [] []):=j9f (by simp[D.dep,D.depL]) (by simp[D.dep,D.depL])
theorem j5q(h:i<j):cmpI .lt i j=aa af:=by simp[cmpI,h]
theorem j5r(h:j<=i):cmpI .lt i j=aa ae:=by simp[cmpI];omega
theorem j5s(h:i<=j):cmpI .le i j=aa af:=by simp[cmpI,h]
theorem j5t(h:j<i):cmpI .le i j=aa ae:=by simp[cmpI];omega
theorem j5u(h:j<i):cmpI .gt i j=aa af:=by simp[cmpI,h]
theorem j5v(h:i<=j):cmpI .gt i j=aa ae:=by simp[cmpI];omega
theorem j5w(h:j<=i):cmpI .ge i j=aa af:=by simp[cmpI,h]
theorem j5x(h:i<j):cmpI .ge i j=aa ae:=by simp[cmpI];omega
theorem j5y(h:i=j):cmpI .eq i j=aa af:=by simp[cmpI,h]
theorem j5z(h:i≠j):cmpI .eq i j=aa ae:=by simp[cmpI,h]
theorem Df:cmpI .gt i j=aa (decide (j<i)):=(rfl)
theorem j9a:cmpI .ge i j=aa (decide (j<=i)):=(rfl)
theorem vh:cmpI .eq i j=aa (decide (i=j)):=(rfl)
theorem jgw:jgx (aa (.v x))=aa (.v (.e (.bl x.d.isNon))):=(rfl)
theorem jba:truth (aa (.v (.e (.bl b))))=aa b:=(rfl)
theorem j6w:truth (aa (.v (.t (.bl b))))=aa b:=(rfl)
theorem ji9:j9u (aa ae) f ρ=aa (.v (.e (.bl ae))):=(rfl)
theorem ji8:j9u (aa af) f ρ=blW (truth (f ρ)):=(rfl)
theorem jjs:orW (aa af) f ρ=aa (.v (.e (.bl af))):=(rfl)
theorem jjt:orW (aa ae) f ρ=blW (truth (f ρ)):=(rfl)
theorem jg0:jg1 (aa b)=aa (.v (.e (.bl (!b)))):=(rfl)
theorem jj6:stW (aa (.v (.e d)))=aa (.v (.e d)):=(rfl)
theorem jgs:j8l (aa af) f g ρ=stW (f ρ):=(rfl)
theorem jgt:j8l (aa ae) f g ρ=stW (g ρ):=(rfl)
theorem jdq:consW (aa (.v x)) (aa (.a xs))=aa (.a (x::xs)):=(rfl)
theorem K6(h:J0 xs=aa l)(hl:l.length<=1000000):Y6 (aa (.a xs))=aa (.v (.e (.tup l))):=by simp[Y6,h,jm,J1 hl]
theorem Uk(h:J0 xs=aa l)(hl:l.length<=1000000):Zq (aa (.a xs))=aa (.v (.o l)):=by simp[Zq,h,jm,J1 hl]
theorem jee:Y6 (aa (.a []))=aa (.v (.e (.tup []))):=by simp[Y6,J0,jm]
theorem jed{a:D}:Y6 (aa (.a [.e a]))=aa (.v (.e (.tup [a]))):=K6 rfl (by simp)
theorem jec{a b:D}:Y6 (aa (.a [.e a,.e b]))=aa (.v (.e (.tup [a,b]))):=K6 rfl (by simp)
theorem jgc:Zq (aa (.a []))=aa (.v (.o [])):=by simp[Zq,J0,jm]
theorem jgb{a:D}:Zq (aa (.a [.e a]))=aa (.v (.o [a])):=Uk rfl (by simp)
theorem jga{a b:D}:Zq (aa (.a [.e a,.e b]))=aa (.v (.o [a,b])):=Uk rfl (by simp)
theorem jg9{a b c:D}:Zq (aa (.a [.e a,.e b,.e c]))=aa (.v (.o [a,b,c])):=Uk rfl (by simp)
theorem jeb{a b c:D}:Y6 (aa (.a [.e a,.e b,.e c]))=aa (.v (.e (.tup [a,b,c]))):=K6 rfl (by simp)
noncomputable def Ls(o:Option D):Option W:=o.map λd=>.v (.e d)
theorem j16:Ls (aa d)=aa (.v (.e d)):=(rfl)
theorem jgp:ixW (aa (.v (.e (.lst l)))) (aa (.v (.e (.int i))))=Ls (atI l i):=(rfl)
theorem jgo:ixW (aa (.v (.e (.tup l)))) (aa (.v (.e (.int i))))=Ls (atI l i):=(rfl)
theorem jkd:ixW (aa (.v (.o l))) (aa (.v (.e (.int i))))=Ls (atI l i):=(rfl)
noncomputable def jhw(c:Option Nat):Option W:=match c with
 |some c=>aa (.v (.e (.str ⟨#[c]⟩)))
 |none=>ah
theorem jhv{c:Nat}:jhw (aa c)=aa (.v (.e (.str ⟨#[c]⟩))):=(rfl)
theorem jkc{z:ao}(h:z.length<=1000000):ixW (aa (.v (.e (.str z)))) (aa (.v (.e (.int i))))=jhw (atI z.cps.toList i):=by simp only[ixW,Rk.sq,Rk.d,jm,J1 h,decide_true,if_true];cases atI z.cps.toList i<;>rfl
theorem jja{z:ao}{lo hi:Option Int}(h:z.length<=1000000):slW (aa (.v (.e (.str z)))) (aa lo) (aa hi)=aa (.v (.e (.str (c8 z lo hi)))):=by simp only[slW,Rk.sq,Rk.d,jm,J1 h,decide_true,if_true]
theorem j63{y z:ao}(h:y.length+z.length<=1000000):Q7 .add (aa (.v (.e (.str y)))) (aa (.v (.e (.str z))))=aa (.v (.e (.str (y++z)))):=by simp[Q7,U4,Rk.d,jm,J1 h,rkW]
theorem jk6{z:ao}(h:z.length<=1000000):vd .len (aa (.a [.e (.str z)]))=aa (.v (.e (.int z.length))):=by simp only[vd,Zg,Rk.d,jm,J1 h,decide_true,if_true];rfl
theorem jke{k:Bool}:vd .int (aa (.a [.e (.bl k)]))=aa (.v (.e (.int (if k then 1 else 0)))):=(rfl)
theorem W9{ns:List Int}:intsOf (ns.map D.int)=aa ns:=by
 induction ns with
 |nil=>rfl
 |cons b bs ih=>rw[X5,intsOf,ih];rfl
theorem Vl{ns:List ao}:strsOf (ns.map D.str)=aa ns:=by
 induction ns with
 |nil=>rfl
 |cons b bs ih=>rw[X5,strsOf,ih];rfl
theorem jek{ns:List Int}:vd .sum (aa (.a [.e (.lst (ns.map D.int))]))=aa (.v (.e (.int ns.sum))):=by simp only[vd,Zg,Rk.d,W9];rfl
theorem Fj{sep:ao}{ts:List ao}(h:cq sep ts=af):Vp sep (aa (.v (.o (ts.map D.str))))=aa (.v (.e (.str (cD sep ts)))):=by simp only[Vp,Rk.d,Vl,h,if_true]
theorem j9l:Qf (aa (.a []))=aa ah:=(rfl)
theorem j9k:Qf (aa (.a [.e (.int i)]))=aa (aa i):=(rfl)
variable{lo hi:Option Int}
theorem jeq:slW (aa (.v (.e (.lst l)))) (aa lo) (aa hi)=aa (.v (.o (cutD l lo hi))):=(rfl)
theorem jj9:slW (aa (.v (.w l))) (aa lo) (aa hi)=aa (.v (.o (cutD l lo hi))):=(rfl)
variable{Γ:ao->List D->Rc}{fn:ao}
noncomputable def rcW(r:Rc):Option W:=match r with
 |.val d=>aa (.v (.e d))
 |.fresh l=>aa (.v (.o l))
 |_=>ah
theorem jjg:rcW (.val d)=aa (.v (.e d)):=(rfl)
theorem jjh:rcW (.fresh l)=aa (.v (.o l)):=(rfl)
theorem Uo(h:J0 xs=aa l):Jv Γ fn (aa (.a xs))=rcW (Γ fn l):=by simp only[Jv,h];cases Γ fn l<;>rfl
theorem jdv{a:D}:Jv Γ fn (aa (.a [.e a]))=rcW (Γ fn [a]):=Uo rfl
theorem jdu{a b:D}:Jv Γ fn (aa (.a [.e a,.e b]))=rcW (Γ fn [a,b]):=Uo rfl
theorem jdt{a b c:D}:Jv Γ fn (aa (.a [.e a,.e b,.e c]))=rcW (Γ fn [a,b,c]):=Uo rfl
theorem j9i:Jv Γ fn (aa (.a [.o l]))=rcW (Γ fn [.lst l]):=Uo rfl
noncomputable def rcT(r:Rc):Option W:=match r with
 |.val d=>aa (.v (.t d))
 |.fresh l=>if qj l=af then aa (.v (.o l))else ah
 |_=>ah
theorem j29:rcT (.val d)=aa (.v (.t d)):=(rfl)
theorem Dg(h:J0 xs=ah):Jv Γ fn (aa (.a xs))=rcT (Γ fn (xs.map Rk.d)):=by simp only[Jv,h];cases Γ fn (xs.map Rk.d)<;>rfl
theorem Ey:Jv Γ fn (aa (.a [.e d,.w m]))=rcT (Γ fn [d,.lst m]):=Dg rfl
theorem j9h:Jv Γ fn (aa (.a [.w m]))=rcT (Γ fn [.lst m]):=Dg rfl
theorem jad:vd .len (aa (.a [.e (.lst l)]))=aa (.v (.e (.int l.length))):=(rfl)
theorem jac:vd .len (aa (.a [.e (.tup l)]))=aa (.v (.e (.int l.length))):=(rfl)
theorem jk7:vd .len (aa (.a [.o l]))=aa (.v (.e (.int l.length))):=(rfl)
theorem jk5:vd .len (aa (.a [.w l]))=aa (.v (.e (.int l.length))):=(rfl)
theorem jg5:vd .min (aa (.a [.e (.int i),.e (.int j)]))=aa (.v (.e (.int (if j<i then j else i)))):=(rfl)
theorem jb9:vd .tuple (aa (.a [.w l]))=aa (.v (.e (.tup l))):=(rfl)
theorem j6t:vd .tuple (aa (.a [.e (.lst l)]))=aa (.v (.e (.tup l))):=(rfl)
theorem jcl:vd .list (aa (.a [.e (.lst l)]))=aa (.v (.o l)):=(rfl)
theorem j0f{bs:List Bool}:boolsOf (bs.map D.bl)=aa bs:=by
 induction bs with
 |nil=>rfl
 |cons b bs ih=>rw[X5,boolsOf,ih];rfl
theorem jl2{bs:List Bool}:vd .all (aa (.a [.o (bs.map D.bl)]))=aa (.v (.e (.bl (bs.all id)))):=by simp only[vd,Zg,Rk.d,j0f];rfl
theorem jgv{ts:List String}:Fp (aa (.v x)) ts=blW (qe x.d ts):=(rfl)
theorem jbh:R8 (aa (.v (.e (.lst l))))=aa (.i l):=(rfl)
theorem jbg:R8 (aa (.v (.e (.tup l))))=aa (.i l):=(rfl)
theorem jev:R8 (aa (.v (.o l)))=aa (.i l):=(rfl)
theorem j7t(h:-4611686018427387904<=i/\i<4611686018427387904):Rg (aa (.a [.e (.int i)]))=aa (.i (upto 0 i.toNat)):=if_pos h
theorem zj{is:List Nat}{c e:En->Option W}{z:Bool}{ds l:List D}(hf:Lx is ρ=af)(hl:ds.length<=1000000)(h:Jm (Vk is c e ρ) ds=aa l)(hz:z=ae\/qj l=af):j36 is (aa (.i ds)) c e z ρ=aa (.v (.o l)):=by simp only[j36,hf,jm,J1 hl,decide_true,and_self,if_true,h,fj];rcases hz with z|z<;>simp[z]
theorem vq{i:Nat}{c e:En->Option W}(hc:c (ρ.set i (.val d))=aa (.a [])){d':D}(he:e (ρ.set i (.val d))=aa (.v (.e d'))):Vk [i] c e ρ d=aa (aa d'):=by simp[Vk,vf,hc,he,Rk.st]
theorem Oa{i:Nat}{c e:En->Option W}{b:Bool}{d':D}(hc:c (ρ.set i (.val d))=aa (.a [.e (.bl b)]))(he:b=af->e (ρ.set i (.val d))=aa (.v (.e d'))):Vk [i] c e ρ d=aa (if b=af then aa d' else ah):=by
 cases b with
 |true=>simp[Vk,vf,hc,he rfl,Rk.st,Rk.d]
 |false=>simp[Vk,vf,hc,Rk.d]
theorem Vd{α:Type}{xs:List α}{n:Nat}{x:α}(h:xs[n]?=aa x):atI xs (n:Int)=aa x:=Mr h
end
section
theorem j8o:qe .non ["list","tuple"]=aa ae:=by simp[qe,qy,D.ty]
theorem j8r {b:Bool}:qe (.bl b) ["list","tuple"]=aa ae:=by simp[qe,qy,D.ty]
theorem jcz {b:Bool}:qe (.bl b) ["bool"]=aa af:=by simp[qe,qy,D.ty]
theorem jcu {b:Bool}:qe (.bl b) ["str"]=aa ae:=by simp[qe,qy,D.ty]
theorem j8u {b:Bool}:qe (.bl b) ["int","str"]=aa af:=by simp[qe,qy,D.ty]
theorem j8q {i:Int}:qe (.int i) ["list","tuple"]=aa ae:=by simp[qe,qy,D.ty]
theorem jcy {i:Int}:qe (.int i) ["bool"]=aa ae:=by simp[qe,qy,D.ty]
theorem jct {i:Int}:qe (.int i) ["str"]=aa ae:=by simp[qe,qy,D.ty]
theorem j8t {i:Int}:qe (.int i) ["int","str"]=aa af:=by simp[qe,qy,D.ty]
theorem j8n {z:ao}:qe (.str z) ["list","tuple"]=aa ae:=by simp[qe,qy,D.ty]
theorem jcx {z:ao}:qe (.str z) ["bool"]=aa ae:=by simp[qe,qy,D.ty]
theorem jcs {z:ao}:qe (.str z) ["str"]=aa af:=by simp[qe,qy,D.ty]
theorem j8s {z:ao}:qe (.str z) ["int","str"]=aa af:=by simp[qe,qy,D.ty]
theorem j8m {l:List D}:qe (.tup l) ["list","tuple"]=aa af:=by simp[qe,qy,D.ty]
theorem jcv {l:List D}:qe (.tup l) ["list"]=aa ae:=by simp[qe,qy,D.ty]
theorem j8p {l:List D}:qe (.lst l) ["list","tuple"]=aa af:=by simp[qe,qy,D.ty]
theorem jcw {l:List D}:qe (.lst l) ["list"]=aa af:=by simp[qe,qy,D.ty]
theorem jd1:D.isNon .non=af:=(rfl)
theorem jd3{b:Bool}:D.isNon (.bl b)=ae:=(rfl)
theorem jd2{i:Int}:D.isNon (.int i)=ae:=(rfl)
theorem jd0{z:ao}:D.isNon (.str z)=ae:=(rfl)
end
section
noncomputable abbrev Qn(r:List Int):D:=.tup (r.map .int)
noncomputable abbrev Qz(rs:List (List Int)):List D:=rs.map Qn
theorem qt{α:Type}{f:D->Option (Option D)}{h g:α->D}{L:List α}(q:∀x∈L,f (h x)=aa (aa (g x))):Jm f (L.map h)=aa (L.map g):=by
 induction L with
 |nil=>rfl
 |cons x L ih=>rw[X5,Jm,q x (xm ..),ih λy hy=>q y (xf _ hy)];rfl
theorem Lg{α:Type}{f:D->Option (Option D)}{h g:α->D}{p:α->Bool}{L:List α}(q:∀x∈L,f (h x)=aa (if p x=af then aa (g x)else ah)):Jm f (L.map h)=aa ((L.filter p).map g):=by
 induction L with
 |nil=>rfl
 |cons x L ih =>
  rw[X5,Jm,q x (xm ..),ih λy hy=>q y (xf _ hy)];by_cases z:p x=af
  .rw[if_pos z,gv z];rfl
  .rw[if_neg z,gw z]
theorem Wj{f:D->Option (Option D)}:∀{ds:List D},(∀d∈ds,f d=aa ah)->Jm f ds=aa []
 |[],_=>rfl
 |d::ds,h=>by rw[Jm,h d (xm ..),Wj λd hd=>h d (xf _ hd)]
theorem take_snoc{α:Type}{l:List α}{i:Nat}{x:α}(h:l[i]?=aa x):l.take (i+1)=l.take i++[x]:=by rw[T5,h];rfl
theorem Iu{α β:Type}{f:α->β}{l:List α}{i:Nat}{y:β}(h:(l.map f)[i]?=aa y):∃x,l[i]?=aa x/\y=f x:=by
 rw[Xa]at h;cases e:l[i]? with
 |none=>rw[e]at h;cases h
 |some x=>rw[e]at h;cases h;exact⟨x,rfl,rfl⟩
theorem j8k{α:Type}{c:Prop}[Decidable c]{x:α}:(if c then x else x)=x:=by split<;>rfl
theorem j4r{l:List D}(h:J8 (.tup l)):l.length<=1000/\Qu l:=by simpa [J8]using h
theorem j4t{l:List D}(h:J8 (.lst l)):l.length<=1000/\Qu l:=by simpa [J8]using h
end
section
theorem Cg(p:List Int):D.depL (p.map D.int)=0:=by
 induction p with
 |nil=>rfl
 |cons t ts ih=>simp[D.depL,D.dep,ih]
end
section
variable{fu:Nat}{Γ:ao->List D->Rc}{G:ao->Option D}{ls:List ao}{ρ:En}{i j k:Nat}{e c es m:Ex}{f x y:ao}{b r:Px}
theorem jf0{p:Px}:run fu Γ G (.px p) ρ=pxS ρ[0]? ρ[1]? λls k=>jd fu Γ G ls p (.exc rfN::ρ.drop 2) k:=(rfl)
theorem j7h {p:Px}:run fu Γ G (.newP i e p) ρ=newS (decide (i<ρ.length)) (ev Γ G e ρ) (G (qm "Pieces")) λls=>jd fu Γ G ls p (ρ.set i (.exc rfN)) 0:=(rfl)
noncomputable def jaj:Sm->So
 |.ret d k'=>.ret (.mval d k')
 |.err x _=>.ret (.merr x)
 |_=>.no
noncomputable def jak:Sm->So
 |.next ρ' _=>.next ρ'
 |.ret d _=>.ret (.val d)
 |.err x ρ'=>.err x ρ'
 |.no=>.no
theorem jda{d:D}:jaj (.ret d k)=.ret (.mval d k):=(rfl)
theorem jdb{d:D}:jak (.ret d k)=.ret (.val d):=(rfl)
theorem j2a{g:List ao->Nat->Sm}:pxS (aa (.val (.lst (ls.map D.str)))) (aa (.val (.int (k:Int)))) g=jaj (g ls k):=by simp only[pxS,Vl,f7,if_true,Xh];cases g ls k<;>rfl
theorem jg2 {t:ao} {d:D} {g:List ao->Sm} (h1:t.length<=100000) (h2:(aF t " ").length<=1000000):newS af (aa (.v (.e (.str t)))) (aa d) g=jak (g (aF t " ")):=by
 have z:jm (aF t " ").length=af:=by simp[jm,J1 h2]
 simp only[newS,Rk.d];rw[if_pos ⟨h1,z⟩];cases g (aF t " ")<;>rfl
theorem j7o:jd fu Γ G ls .nop ρ k=.next ρ k:=by rw[jd]
theorem j7m:jd fu Γ G ls (.set i e r) ρ k=j1w i (ev Γ G e ρ) ρ λρ=>jd fu Γ G ls r ρ k:=by rw[jd]
theorem j22:jd fu Γ G ls (.ifRai c x m r) ρ k=ifP (truth (ev Γ G c ρ)) (W2 x (ev Γ G m ρ) (G (bang x)) ρ) (jd fu Γ G ls r ρ k):=by rw[jd]
theorem j23:jd fu Γ G ls (.ifCal c f es r) ρ k=ifP (truth (ev Γ G c ρ)) (Wm G (Vs Γ ls f (ev Γ G es ρ) k) ρ Sm.ret) (jd fu Γ G ls r ρ k):=by rw[jd]
theorem j7n:jd fu Γ G ls (.ret e) ρ k=Nx (ev Γ G e ρ) k:=by rw[jd]
theorem j43:jd fu Γ G ls (.take i r) ρ k=jd fu Γ G ls r (ρ.set i (.val (.str (ls.getD k "")))) (k+1):=by rw[jd]
theorem j21:jd fu Γ G ls (.takeE r) ρ k=jd fu Γ G ls r ρ (k+1):=by rw[jd]
theorem j08:jd fu Γ G ls (.takeIf i c e r) ρ k=ifP (truth (ev Γ G c ρ)) (jd fu Γ G ls r (ρ.set i (.val (.str (ls.getD k "")))) (k+1)) (j1m i (stOf (ev Γ G e ρ)) ρ λρ=>jd fu Γ G ls r ρ k):=by rw[jd]
theorem j25:jd fu Γ G ls (.callS i f es r) ρ k=Wm G (Vs Γ ls f (ev Γ G es ρ) k) ρ λd k'=>jd fu Γ G ls r (ρ.set i (.val d)) k':=by rw[jd]
theorem j44:jd fu Γ G ls (.appC i f es r) ρ k=j2e ρ[i]? (Wm G (Vs Γ ls f (ev Γ G es ρ) k) ρ λd k'=>j3d i ρ[i]? ρ d λρ=>jd fu Γ G ls r ρ k'):=by rw[jd]
theorem Do:jd fu Γ G ls (.whlA y b r) ρ k=Z8 (λρ k=>jd fu Γ G ls b ρ k) (λρ k=>jd fu Γ G ls r ρ k) y ls fu ρ k:=by rw[jd]
theorem j24:jd fu Γ G ls (.ifAll x m r) ρ k=if ls.length<=k then jd fu Γ G ls r ρ k else W2 x (ev Γ G m ρ) (G (bang x)) ρ:=by rw[jd]
theorem jeu{l:List D}{g:En->Sm}:j1w i (aa (.v (.o l))) ρ g=g (ρ.set i (.own l)):=(rfl)
theorem jf5{d:D}:Nx (aa (.v (.e d))) k=.ret d k:=(rfl)
theorem jkj{a b:Sm}:ifP (aa af) a b=a:=(rfl)
theorem jkk{a b:Sm}:ifP (aa ae) a b=b:=(rfl)
theorem ji2{d:D}{g:D->Nat->Sm}:Wm G (.mval d k) ρ g=g d k:=(rfl)
theorem jdw{d:D}:Vs Γ ls f (aa (.a [.e d])) k=Γ (mq f) [.lst (ls.map D.str),.int (k:Int),d]:=(rfl)
theorem ji7{l:List D}{d:D}{g:En->Sm}(h:l.length<=1000000):j3d i (aa (.own l)) ρ d g=g (ρ.set i (.own (l++[d]))):=if_pos (lt_size h)
theorem jfp{l:List D}{s:Sm}:j2e (aa (.own l)) s=s:=(rfl)
theorem je9{d:D}{g:En->Sm}:j1m i (aa d) ρ g=g (ρ.set i (.val d)):=(rfl)
theorem mget {ls:List ao} {k:Nat} {x:ao} (h:ls[k]?=aa x):ls.getD k "" = x:=by rw[xn,h];rfl
end
section
variable{Γ:ao->List D->Rc}{G:ao->Option D}{ρ:En}{a:Ex}
theorem jh7:ev Γ G (.sti a) ρ=Kc (ev Γ G a ρ):=(rfl)
theorem j3v{i:Int}(h:-18446744073709551616<i/\i<18446744073709551616):Kc (aa (.v (.e (.int i))))=aa (.v (.e (.str (aW (toString i))))):=if_pos h
theorem jaf{y:ao}{n:Int}(h:y.length<=640)(hn:d6 y=aa n):vd .int (aa (.a [.e (.str y)]))=aa (.v (.e (.int n))):=by simp only[vd,Zg,Rk.d,h,if_true,hn,fB];rfl
end
end L2
end
section
open PySem (Str)
open L2
noncomputable def jkq:=(k7f (k7f (k7f (k7f (k7f (k7f (k7f @jbl (k7f @jh7 @j3v)) (k7f @jf0 (k7f @j7h @jda))) (k7f (k7f @jdb (k7f @j7o @j7m)) (k7f (k7f @j22 @j23) (k7f @j7n @j43)))) (k7f (k7f (k7f @j21 (k7f @j08 @j25)) (k7f @j44 (k7f @jeu @jf5))) (k7f (k7f @jkj (k7f @jkk @ji2)) (k7f (k7f @jdw @ji7) (k7f @jfp @je9))))) (k7f (k7f (k7f (k7f @j0s (k7f @jbj @jbm)) (k7f @j7l (k7f @jbk @j7g))) (k7f (k7f @jbn (k7f @j7j @jbr)) (k7f (k7f @jbp @jbq) (k7f @jbo @j7k)))) (k7f (k7f (k7f @j4z (k7f @j4y @jdh)) (k7f @j9d (k7f @jhi @jh9))) (k7f (k7f @j7x (k7f @jhh @j0x)) (k7f (k7f @Dn @Kh) (k7f @jkh @jki)))))) (k7f (k7f (k7f (k7f (k7f @jes (k7f @jet @jf4)) (k7f @j46 (k7f @jbu @jbt))) (k7f (k7f @jg4 (k7f @jh4 @jck)) (k7f (k7f @ji6 @ji5) (k7f @jh3 @jhu)))) (k7f (k7f (k7f @j19 (k7f @j94 @jhd)) (k7f @jh5 (k7f @jdg @jhl))) (k7f (k7f @jhj (k7f @jhg @jhm)) (k7f (k7f @jku @jha) (k7f @jhe @jhb))))) (k7f (k7f (k7f (k7f @jdi (k7f @jh6 @jhc)) (k7f @jkv (k7f @jkt @jdk))) (k7f (k7f @jhk (k7f @jhf @jdj)) (k7f (k7f @jh8 @j96) (k7f @je7 @je8)))) (k7f (k7f (k7f @jd7 (k7f @jgy @jkz)) (k7f @ji4 (k7f @j9r @j9n))) (k7f (k7f @j9p (k7f @j6e @j9q)) (k7f (k7f @j9o @ji0) (k7f @jhy @jhz))))))) (k7f (k7f (k7f (k7f (k7f (k7f @jjf (k7f @jhs @d_e)) (k7f @d_o (k7f @d_w @d_t))) (k7f (k7f @jht (k7f @j9c @j9g)) (k7f (k7f @j9e @j60) (k7f @j8k @j5q)))) (k7f (k7f (k7f @j5r (k7f @j5s @j5t)) (k7f @j5u (k7f @j5v @j5w))) (k7f (k7f @j5x (k7f @j5y @j5z)) (k7f (k7f @jgw @jba) (k7f @j6w @ji9))))) (k7f (k7f (k7f (k7f @ji8 (k7f @jjs @jjt)) (k7f @jg0 (k7f @jj6 @jgs))) (k7f (k7f @jgt (k7f @jdq @jee)) (k7f (k7f @jed @jec) (k7f @jgc @jgb)))) (k7f (k7f (k7f @jga (k7f @jg9 @jeb)) (k7f @j16 (k7f @jgp @jgo))) (k7f (k7f @jkd (k7f @j9l @j9k)) (k7f (k7f @jeq @jj9) (k7f @jjg @jjh)))))) (k7f (k7f (k7f (k7f (k7f @j29 (k7f @jdv @jdu)) (k7f @jdt (k7f @j9i @Ey))) (k7f (k7f @j9h (k7f @jad @jac)) (k7f (k7f @jk7 @jk5) (k7f @jg5 @jb9)))) (k7f (k7f (k7f @j6t (k7f @jcl @jl2)) (k7f @jgv (k7f @jbh @jbg))) (k7f (k7f @jev (k7f @j7t @jdf)) (k7f (k7f @j7f @jb6) (k7f @jem @jhv))))) (k7f (k7f (k7f (k7f @jkc (k7f @jja @j63)) (k7f @jk6 (k7f @jke @jek))) (k7f (k7f @j8o (k7f @j8r @jcz)) (k7f (k7f @jcu @j8u) (k7f @j8q @jcy)))) (k7f (k7f (k7f @jct (k7f @j8t @j8n)) (k7f (k7f @jcx @jcs) (k7f @j8s @j8m))) (k7f (k7f @jcv (k7f @j8p @jcw)) (k7f (k7f @jd1 @jd3) (k7f @jd2 @jd0))))))))
local macro_rules | `(tactic| walk_at "go")=>`(tactic| try simp (disch:=first | omega | assumption | (simp only [List.length_map,List.length_append,List.length_cons,List.length_nil,List.length_take,List.length_drop,List.length_reverse] <;> omega)) only [jkq,Yj,beq_self_eq_true,frz,Jf,j92,List.getElem?_cons_zero,List.getElem?_cons_succ,List.set_cons_zero,List.set_cons_succ,List.map_cons,List.map_nil,List.cons_append,List.nil_append,List.replicate,List.length_map,List.length_append,List.length_cons,List.length_nil,Bool.not_true,Bool.not_false,bne_self_eq_false,Nat.reduceSub,Nat.reduceAdd,Int.reduceToNat,Int.reducePow])
local macro_rules | `(tactic| ext)=>`(tactic| walk_at "go")
local macro_rules | `(tactic| erw [$r])=>`(tactic| (rw [$r]; ext)) | `(tactic| erw [$r,$rs,*])=>`(tactic| (rw [$r]; ext; erw [$rs,*]))
namespace KL
noncomputable def J5:Sx:=(.seq (.set 1 (.lst (.cons (.tup .nil) .nil))) (.seq (.loop [2] (.seq (.var 0)) (.seq (.set 3 (.lst .nil)) (.seq (.loop [4] (.seq (.var 1)) (.seq (.ext 3 (.comp [5] (.bin .add (.var 4) (.tup (.cons (.var 5) .nil))) (.seq (.var 2)) .nil)) .nop)) (.seq (.mov 1 3) .nop)))) (.seq (.retV 1) .nop)))
noncomputable def fP_all_choices:Fi:=⟨1,6,J5,ae⟩
noncomputable def Y0:Sx:=(.seq (.ife (.cmp .lt (.var 1) (.blt .len (.cons (.var 0) .nil))) (.seq (.ret (.ix (.var 0) (.var 1))) .nop) .nop) (.seq (.set 2 (.bin .add (.lit (.int 70001)) (.bin .mul (.bin .mul (.lit (.int 911)) (.var 1)) (.var 1)))) (.seq (.ife (.cmp .gt (.blt .len (.cons (.var 0) .nil)) (.lit (.int 0))) (.seq (.set 2 (.bin .add (.var 2) (.bin .mul (.bin .mod (.ix (.var 0) (.lit (.int 0))) (.lit (.int 9973))) (.bin .add (.bin .mul (.lit (.int 3)) (.var 1)) (.lit (.int 1)))))) .nop) .nop) (.seq (.retV 2) .nop))))
noncomputable def fL_cell:Fi:=⟨2,3,Y0,ae⟩
noncomputable def Zw:Sx:=(.seq (.ife (.isi (.var 1) ["list","tuple"]) (.seq (.ife (.or (.cmp .ne (.isi (.var 0) ["list"]) (.isi (.var 1) ["list"])) (.not (.isi (.var 0) ["list","tuple"]))) (.seq (.ret (.lit (.bl ae))) .nop) .nop) (.seq (.set 2 (.comp [3] (.var 3) (.range (.cons (.blt .min (.cons (.blt .len (.cons (.var 0) .nil)) (.cons (.blt .len (.cons (.var 1) .nil)) .nil))) .nil)) (.cons (.not (.call "_law_same" (.cons (.ix (.var 0) (.var 3)) (.cons (.ix (.var 1) (.var 3)) .nil)))) .nil))) (.seq (.ret (.and (.cmp .eq (.blt .len (.cons (.var 0) .nil)) (.blt .len (.cons (.var 1) .nil))) (.cmp .eq (.var 2) (.lst .nil)))) .nop))) .nop) (.seq (.ife (.isN (.var 1)) (.seq (.ret (.isN (.var 0))) .nop) .nop) (.seq (.ife (.or (.cmp .ne (.isi (.var 0) ["bool"]) (.isi (.var 1) ["bool"])) (.cmp .ne (.isi (.var 0) ["str"]) (.isi (.var 1) ["str"]))) (.seq (.ret (.lit (.bl ae))) .nop) .nop) (.seq (.ret (.and (.isi (.var 0) ["int","str"]) (.cmp .eq (.var 0) (.var 1)))) .nop))))
noncomputable def fL_same:Fi:=⟨2,4,Zw,ae⟩
noncomputable def Uq:Sx:=(.seq (.set 2 (.lst .nil)) (.seq (.loop [3] (.range (.cons (.var 0) .nil)) (.seq (.app 2 (.bin .mod (.bin .fdiv (.var 1) (.bin .shl (.lit (.int 1)) (.bin .sub (.bin .sub (.var 0) (.var 3)) (.lit (.int 1))))) (.lit (.int 2)))) .nop)) (.seq (.ret (.blt .tuple (.cons (.var 2) .nil))) .nop)))
noncomputable def fL_row:Fi:=⟨2,4,Uq,ae⟩
section
variable{G:ao->Option D}{T:ao->Option Fi}
noncomputable def zf(ns:List Int)(k:Nat):Int:=match ns[k]? with
 |some v=>v
 |none=>match ns with
  |[]=>70001+911*k*k
  |v::_=>70001+911*k*k+v%9973*(3*k+1)
theorem j62 {fu n:Nat} (hT:T "_law_cell" = aa fL_cell) {ns:List Int} {k:Nat} (hk:k<=100):evP fu G T (n+1) "_law_cell" [.lst (ns.map .int),.int k]=.val (.int (zf ns k)):=by
 rw[jr (F:=fL_cell) hT rfl];simp only[fL_cell,Y0,enter];by_cases h:k<ns.length
 .have e:atI (ns.map D.int) (k:Int)=aa (.int ns[k]):=Vd (by simp[h]);have q:zf ns k=ns[k]:=by simp[zf,h]
  ext;simp only[e,j16,j46,j0x,Kh,j19,q]
 .cases ns with
  |nil =>ext;simp[zf]
  |cons v r =>
   have e:atI (D.int v::r.map D.int) 0=aa (.int v):=by simp[atI,ixN]
   have q:zf (v::r) k=70001+911*k*k+v%9973*(3*k+1):=by unfold zf;rw[Tn nofun]
   rw[X5];rw[xx]at h;ext;simp only[e];ext;rw[q]
theorem j7p {fu n m:Nat} (hT:T "_law_row" = aa fL_row) {z:Int} (hm:m<=6):evP fu G T (n+1) "_law_row" [.int m,.int z]=.val (.tup ((zc 2 m z).map .int)):=by
 rw[jr (F:=fL_row) hT rfl];simp only[fL_row,Uq,enter];ext;rw[Ih (λi=>[.val (.int m),.val (.int z),.own (((zc 2 m z).take i).map .int),if i=0 then .un else .val (.int ((i:Int)-1))]) (by simp[zc])]
 .ext;rw[zm,Xh,Tf (by rw[Ji];omega)]
 .intro i d hi;obtain⟨h1,rfl⟩:=K5 hi;have hl:(zc 2 m z).length=m:=Ji 2 m z;have hp:0<(2:Int)^((m:Int)-(0+i)-1).toNat/\(2:Int)^((m:Int)-(0+i)-1).toNat<=32:=by
   have:((m:Int)-(0+i)-1).toNat<=5:=by omega
   generalize ((m:Int)-(0+i)-1).toNat=t at *;have:t=0\/t=1\/t=2\/t=3\/t=4\/t=5:=by omega
   rcases this with e|e|e|e|e|e<;>subst e<;>decide
  simp only[Q4];ext;rw[T5,Oo 2 (show i<m by omega)];have et:((m:Int)-(0+i)-1).toNat=m-i-1:=by omega
  simp[et]
theorem j73(f:List Int):step [] f=[]:=rfl
theorem j3w(acc:List (List Int))(a f:List Int):step (acc++[a]) f=step acc f++f.map λx=>a++[x]:=by simp[step]
theorem Ep(fs:List (List Int))(f:List Int):zy (fs++[f])=step (zy fs) f:=by simp[zy]
theorem Kd(acc:List (List Int)){f:List Int}{k:Nat}(h:f.length<=k):(step acc f).length<=acc.length*k:=by
 unfold step;induction acc with
 |nil=>simp
 |cons a acc ih =>rw[T6,X7,km,xx,ku];omega
theorem j0c{fs:List (List Int)}{k:Nat}(h:∀f∈fs,f.length<=k):(zy fs).length<=k^fs.length:=by
 have go:∀(fs acc:List (List Int)),(∀f∈fs,f.length<=k)->(fs.foldl step acc).length<=acc.length*k^fs.length:=by
  intro fs;induction fs with
  |nil=>intro acc _;simp
  |cons f fs ih =>intro acc hf;have h1:=ih (step acc f) λg hg=>hf g (xf _ hg);have h2:=Kd acc (hf f (xm ..));rw[Pz,xx,gH,fk (k^fs.length) k,<-Nat.mul_assoc];exact Xf h1 (i5 _ h2)
 have:=go fs [[]] h;simpa [zy]using this
theorem Er{fs:List (List Int)}{r:List Int}(h:r∈zy fs):r.length=fs.length:=by
 have go:∀(fs acc:List (List Int)) (k:Nat),(∀a∈acc,a.length=k)->∀r∈fs.foldl step acc,r.length=k+fs.length:=by
  intro fs;induction fs with
  |nil=>intro acc k ha r hr;exact ha r hr
  |cons f fs ih =>
   intro acc k ha r hr;have:=ih (step acc f) (k+1) (λa hm=>by
    obtain⟨b,hb,hx⟩:=List.mem_flatMap.mp hm
    obtain⟨x,_,rfl⟩:=Xd.mp hx
    rw[X7,ha b hb];rfl) r hr
   rw[this,xx];omega
 have:=go fs [[]] 0 (λa ha=>by rw[X3.mp ha];rfl) r h;omega
theorem Eo {fu n:Nat} (hT:T "all_choices" = aa fP_all_choices) {fs:List (List Int)} (hf:∀f∈fs,f.length<=3) (hl:fs.length<=6):evP fu G T (n+1) "all_choices" [.lst (Qz fs)]=.fresh (Qz (zy fs)):=by
 rw[jr (F:=fP_all_choices) hT rfl];simp only[fP_all_choices,J5,enter];ext;have small:∀i,(zy (fs.take i)).length<=729:=λi=>by
  have h:=j0c (fs:=fs.take i) (k:=3) λf hm=>hf f (cR hm);have h2:(fs.take i).length<=6:=by rw[Xj];omega
  exact Xf h (cu (by decide) h2)
 refine Y9 (λi ρ=>∃s2 s4,ρ=[.val (.lst (Qz fs)),.own (Qz (zy (fs.take i))),s2,.un,s4,.un]) ⟨.un,.un,by simp[zy,Qz,Qn]⟩ ?_ ?_
 .rintro i d ρ hi ⟨s2,s4,rfl⟩;obtain⟨f,hfi,rfl⟩:=Iu hi;have hf3:f.length<=3:=hf f (Xl hfi);have sm:=small i;simp only[Q4];ext;refine j3y (λj ρ=>∃s4,ρ=[.val (.lst (Qz fs)),.val (.lst (Qz (zy (fs.take i)))),.val (Qn f),.own (Qz (step ((zy (fs.take i)).take j) f)),s4,.un]) ⟨s4,by simp[j73]⟩ ?_ ?_
  .rintro j d ρ hj ⟨s4,rfl⟩;obtain⟨a,haj,rfl⟩:=Iu hj;have hs:=Kd ((zy (fs.take i)).take j) hf3;have hs2:((zy (fs.take i)).take j).length<=729:=by rw[Xj];omega
   have ha:a.length<=6:=by have:=Er (Xl haj);rw[Xj]at this;omega
   simp only[Q4];ext;rw[zj (l:=(f.map λx=>Qn (a++[x]))) (by rfl) ?_ ?_ (.inl rfl)]
   .ext;refine⟨_,rfl,.val (Qn a),?_⟩;rw[take_snoc haj,j3w];simp only[Qz,Ph,Xc];rfl
   .simp only[km];omega
   .refine qt λx _=>vq (by ext) ?_;ext;simp
  .rintro ρ' ⟨s4,rfl⟩;ext;refine⟨_,rfl,.val (Qn f),s4,?_⟩;rw[take_snoc hfi,Ep,Td]
 .rintro ρ' ⟨s2,s4,rfl⟩;ext;rw[Td]
theorem j41 {fu:Nat} (hT:T "_law_same" = aa fL_same):∀(k:Nat){x:D}{n:Nat},x.dep<=k->J8 x->evP fu G T (n+k+1) "_law_same" [x,x]=.val (.bl af):=by
 intro k;induction k with
 |zero =>
  intro x n hk hx;rw[jr (F:=fL_same) hT rfl];simp only[fL_same,Zw,enter];cases x with
  |tup l=>simp[D.dep]at hk
  |lst l=>simp[D.dep]at hk
  |dct ks l=>simp[D.dep]at hk
  |sct k=>simp[D.dep]at hk
  |fn x l=>simp[D.dep]at hk
  |non=>ext
  |bl b=>ext
  |int i=>ext
  |str z=>ext
 |succ k ih =>
  intro x n hk hx;have ih':∀{x:D},x.dep<=k->J8 x->evP fu G T (n+(k+1)) "_law_same" [x,x]=.val (.bl af):=λh1 h2=>ih h1 h2;rw[jr (F:=fL_same) hT rfl];simp only[fL_same,Zw,enter];cases x with
  |dct ks l=>exact aS (by simpa [J8]using hx)
  |sct k=>exact aS (by simpa [J8]using hx)
  |fn x l=>exact aS (by simpa [J8]using hx)
  |tup l =>
   obtain⟨hl,hx⟩:=j4r hx;have hk:D.depL l<=k:=by simp only[D.dep]at hk;omega
   ext;rw[Xh,zj (l:=[]) (by rfl) (by rw[zm];omega) ?_ (.inl rfl)]
   .ext
   .refine Wj λd hd=>?_;obtain⟨j,hj,rfl⟩:=Ib hd;have hg:atI l (0+(j:Int))=aa l[j]:=by rw[gO];exact Vd (kh hj)
    have hm:l[j]∈l:=Pu hj;refine Oa (b:=ae) (d':=.non) ?_ λz=>by cases z
    ext;simp only[hg];ext;rw[ih' (Xf (D.depL_mem hm) hk) (W7 hx hm)];ext
  |lst l =>
   obtain⟨hl,hx⟩:=j4t hx;have hk:D.depL l<=k:=by simp only[D.dep]at hk;omega
   ext;rw[Xh,zj (l:=[]) (by rfl) (by rw[zm];omega) ?_ (.inl rfl)]
   .ext
   .refine Wj λd hd=>?_;obtain⟨j,hj,rfl⟩:=Ib hd;have hg:atI l (0+(j:Int))=aa l[j]:=by rw[gO];exact Vd (kh hj)
    have hm:l[j]∈l:=Pu hj;refine Oa (b:=ae) (d':=.non) ?_ λz=>by cases z
    ext;simp only[hg];ext;rw[ih' (Xf (D.depL_mem hm) hk) (W7 hx hm)];ext
  |non=>ext
  |bl b=>ext
  |int i=>ext
  |str z=>ext
theorem j4s{r:List Int}(h:r.length<=1000):J8 (Qn r):=by
 simp only[J8,km];refine⟨h,Yx λd hd=>?_⟩;obtain⟨i,_,rfl⟩:=Xd.mp hd
 trivial
theorem Qa(n:Nat):upto 0 n=(aK n).map λ(k:Nat)=>D.int (0+(k:Int)):=rfl
end
end KL
namespace KV
open PySem
noncomputable def letters:List Nat:=[109,100,107,98,118,113,104,122,99,103,114,110,97,112,120,111,108,115,105,101,102,119,116,121,106,117]
theorem jci:("mdkbvqhzcgrnapxolsiefwtyju":ao).cps.toList=letters:=by decide +kernel
noncomputable def lt(n:Int):Nat:=letters.getD n.toNat 0
noncomputable def sL(l:List Nat):ao:=⟨l.toArray⟩
theorem qw{l:List Nat}:(sL l).length=l.length:=by simp[sL,ly]
theorem Ue{l m:List Nat}(h:sL l=sL m):l=m:=by have:=congrArg (λz=>z.cps.toList) h;simpa [sL]using this
theorem Z4{l m:List Nat}:sL l++sL m=sL (l++m):=by show(⟨l.toArray++m.toArray⟩:ao)=_;simp[sL]
theorem W8:∀l:List Nat,cD ("":ao) (l.map λc=>(⟨#[c]⟩:ao))=sL l:=by
 intro l;show gj _ _=_;rw[StrLaws.glued_eq_join];induction l with
 |nil=>rfl
 |cons a r ih =>
  cases r with
  |nil=>rfl
  |cons b r =>
   rw[X5,X5,jv,<-X5 (f:=λc=>(⟨#[c]⟩:ao)),ih]
   .show(⟨(#[a] ++ #[])++(b::r).toArray⟩:ao)=⟨(a::b::r).toArray⟩
    simp
   .intro z;cases z
theorem Bj{l:List Nat}:(sL l).cps.toList=l:=by simp[sL]
theorem Bu{k n:Nat}:aM ah (aa (k:Int)) 1 n=aM (aa ((0:Nat):Int)) (aa (k:Int)) 1 n:=by
 have e:max (0:Int) (min 0 (n:Int))=0:=by omega
 simp[aM,e]
theorem Bv{k n:Nat}:aM (aa (k:Int)) ah 1 n=aM (aa (k:Int)) (aa (n:Int)) 1 n:=by
 have e:max (0:Int) (min (n:Int) (n:Int))=n:=by omega
 have e2:¬((n:Int)<0):=by omega
 simp[aM,e,e2]
theorem Kg{l:List Nat}{a b:Nat}{lo hi:Option Int}(he:aM lo hi 1 (sL l).length=aM (aa (a:Int)) (aa (b:Int)) 1 (sL l).length)(hab:a<=b)(hb:b<=l.length):c8 (sL l) lo hi=sL ((l.drop a).take (b-a)):=by
 have hb':b<=(sL l).length:=by rw[qw];exact hb
 have q:=StrLaws.sliced_plain (sL l) hab hb';rw[Bj]at q;have e1:=StrLaws.strSliceIndices_plain hab hb';unfold c8;rw[he];by_cases h:((1:Int)==1&&(aM (aa (a:Int)) (aa (b:Int)) 1 (sL l).length).length==(sL l).length)=af
 .rw[if_pos h];rw[e1,qw,km,Pr]at h;have:b-a=l.length:=by simpa using h
  have ha:a=0:=by omega
  subst ha;rw[this,cn,Td]
 .rw[if_neg h,q];rfl
theorem Be{l:List Nat}{k:Nat}(h:k<=l.length):c8 (sL l) ah (aa (k:Int))=sL (l.take k):=by rw[Kg (a:=0) (b:=k) Bu (Te _) h];simp
theorem Bg{l:List Nat}{k:Nat}(h:k<=l.length):c8 (sL l) (aa (k:Int)) ah=sL (l.drop k):=by rw[Kg (a:=k) (b:=l.length) (by rw[Bv,qw]) h (X6 _),Tf (by rw[P0];omega)]
theorem Ro {l:List Nat} (h:l.length<=100):cq ("":ao) (l.map λc=>(⟨#[c]⟩:ao))=af:=by
 unfold cq;rw[dC];have e:∀(r:List Nat)(k:Nat),(r.map λc=>(⟨#[c]⟩:ao)).foldl (λ(x:Nat) (y:ao)=>x+y.length+("":ao).length) k=k+r.length:=by
  intro r;induction r with
  |nil=>intro k;rfl
  |cons a r ih =>intro k;rw[X5,Pz,ih,xx];show k+1+0+r.length=_;omega
 show b9 _=ae;have:=e l 0;rw[iu];show b9 (cN (λ(x:Nat) (y:ao)=>x+y.length+("":ao).length) 0 _)=ae;rw[this];unfold b9;simp;have:=cg;omega
noncomputable def V2(c:Int):List Nat:=(aK 8).map λ(k:Nat)=>lt (c/(4+5*(k:Int))%26)
noncomputable def Z9(c:Int)(s:Nat):List Nat:=(aK s).map λ(k:Nat)=>lt ((c/32+3*(k:Int)*(k:Int)+(k:Int))%26)
theorem J6(c:Int):(V2 c).length=8:=by simp[V2]
theorem zq(c:Int)(s:Nat):(Z9 c s).length=s:=by simp[Z9]
noncomputable def stN(c:Int)(m:Nat):Nat:=(c/8%(9-(m:Int))).toNat
noncomputable def szN(c:Int):Nat:=(c/4%8).toNat
noncomputable def atN(c:Int):Nat:=(c/512%((szN c:Int)+1)).toNat
noncomputable def wrd(c:Int)(m k:Nat):List Nat :=
 if c%4<2 then(if c%4=0 then(V2 c).take (stN c m+k+1) else(V2 c).drop (8-stN c m-k-1))
 else(Z9 c (szN c)).take (atN c)++lt ((c/9+7*(k:Int))%26)::(Z9 c (szN c)).drop (atN c)
noncomputable def Q9(c:Int)(m:Nat):List ao:=(aK m).map λ(k:Nat)=>sL (wrd c m k)
theorem jg8{a b:Int}(ha:0<=a/\a<26)(hb:0<=b/\b<26)(h:lt a=lt b):a=b:=by
 obtain⟨i,rfl⟩:∃i:Nat,a=(i:Int):=⟨a.toNat,by omega⟩
 obtain⟨j,rfl⟩:∃j:Nat,b=(j:Int):=⟨b.toNat,by omega⟩
 have key:∀i j:Fin 26,letters.getD i.val 0=letters.getD j.val 0->i=j:=by decide +kernel
 have:=key ⟨i,by omega⟩ ⟨j,by omega⟩ h;have:=congrArg Fin.val this;simp at this;omega
theorem j1s{c:Int}{m:Nat}(h:m<=6):stN c m+m<=8:=by unfold stN;have h1:=T3 (c/8) (show(9-(m:Int))≠0 by omega);have h2:=Ti (c/8) (show(0:Int)<9-(m:Int)by omega);omega
theorem Lz(c:Int):atN c<=szN c/\szN c<=7:=by unfold atN;have h1:=T3 (c/512) (show((szN c:Int)+1)≠0 by omega);have h2:=Ti (c/512) (show(0:Int)<(szN c:Int)+1 by omega);refine⟨by omega,?_⟩;unfold szN;omega
theorem jb1{c:Int}{m k:Nat}(hm:m<=6)(hk:k<m):1<=(wrd c m k).length/\(wrd c m k).length<=8:=by
 have s:=j1s (c:=c) hm;have a:=Lz c;have l8:=J6 c;have ls:=zq c (szN c);unfold wrd;split
 .split
  .rw[Xj];omega
  .rw[P0];omega
 .rw[X7,xx,Xj,P0];omega
theorem jb2{c:Int}{m i j:Nat}(hm:m<=6)(hi:i<m)(hj:j<m)(h:wrd c m i=wrd c m j):i=j:=by
 have s:=j1s (c:=c) hm;have a:=Lz c;have l8:=J6 c;have ls:=zq c (szN c);unfold wrd at h;split at h
 .split at h
  .have:=congrArg gW h;rw[Xj,Xj]at this;omega
  .have:=congrArg gW h;rw[P0,P0]at this;omega
 .have h2:=List.append_cancel_left h;have h3:=(eD h2).1;have:=jg8 nofun nofun h3;omega
end KV
open PySem (Str)
open L2
namespace KW
open KL KV PySem
noncomputable def Z2:Sx:=(.seq (.set 2 (.lit (.str "mdkbvqhzcgrnapxolsiefwtyju"))) (.seq (.ife (.cmp .lt (.bin .mod (.var 0) (.lit (.int 4))) (.lit (.int 2))) (.seq (.set 3 (.join "" (.comp [4] (.ix (.var 2) (.bin .mod (.bin .fdiv (.var 0) (.bin .add (.lit (.int 4)) (.bin .mul (.lit (.int 5)) (.var 4)))) (.lit (.int 26)))) (.range (.cons (.lit (.int 8)) .nil)) .nil))) (.seq (.set 5 (.bin .mod (.bin .fdiv (.var 0) (.lit (.int 8))) (.bin .sub (.lit (.int 9)) (.var 1)))) (.seq (.ife (.cmp .eq (.bin .mod (.var 0) (.lit (.int 4))) (.lit (.int 0))) (.seq (.ret (.comp [4] (.sl (.var 3) .nil (.cons (.bin .add (.bin .add (.var 5) (.var 4)) (.lit (.int 1))) .nil)) (.range (.cons (.var 1) .nil)) .nil)) .nop) .nop) (.seq (.ret (.comp [4] (.sl (.var 3) (.cons (.bin .sub (.bin .sub (.bin .sub (.lit (.int 8)) (.var 5)) (.var 4)) (.lit (.int 1))) .nil) .nil) (.range (.cons (.var 1) .nil)) .nil)) .nop)))) .nop) (.seq (.set 6 (.bin .mod (.bin .fdiv (.var 0) (.lit (.int 4))) (.lit (.int 8)))) (.seq (.set 7 (.join "" (.comp [4] (.ix (.var 2) (.bin .mod (.bin .add (.bin .add (.bin .fdiv (.var 0) (.lit (.int 32))) (.bin .mul (.bin .mul (.lit (.int 3)) (.var 4)) (.var 4))) (.var 4)) (.lit (.int 26)))) (.range (.cons (.var 6) .nil)) .nil))) (.seq (.set 8 (.bin .mod (.bin .fdiv (.var 0) (.lit (.int 512))) (.bin .add (.var 6) (.lit (.int 1))))) (.seq (.ret (.comp [4] (.bin .add (.bin .add (.sl (.var 7) .nil (.cons (.var 8) .nil)) (.ix (.var 2) (.bin .mod (.bin .add (.bin .fdiv (.var 0) (.lit (.int 9))) (.bin .mul (.lit (.int 7)) (.var 4))) (.lit (.int 26))))) (.sl (.var 7) (.cons (.var 8) .nil) .nil)) (.range (.cons (.var 1) .nil)) .nil)) .nop))))))
noncomputable def fL_words:Fi:=⟨2,9,Z2,ae⟩
section
variable{G:ao->Option D}{T:ao->Option Fi}
theorem j2q {n:Int} (h:0<=n/\n<26):atI ("mdkbvqhzcgrnapxolsiefwtyju":ao).cps.toList n=aa (lt n):=by
 obtain⟨k,rfl⟩:∃k:Nat,n=(k:Int):=⟨n.toNat,by omega⟩
 have hk:k<letters.length:=by show k<26;omega
 rw[jci];refine Vd ?_;unfold lt;rw[kh hk,Xh,xn,kh hk];rfl
theorem jae:("mdkbvqhzcgrnapxolsiefwtyju":ao).length<=1000000:=by decide +kernel
theorem j6o {fu n m:Nat} (hT:T "_law_words" = aa fL_words) {c:Int} (h:¬c%4<2) (hm:m<=10):evP fu G T (n+1) "_law_words" [.int c,.int m]=.fresh ((Q9 c m).map D.str):=by
 rw[jr (F:=fL_words) hT rfl];simp only[fL_words,Z2,enter];have ll:=jae;have a:=Lz c;obtain⟨s,hs⟩:∃s:Nat,s=szN c:=⟨_,rfl⟩
 have es:c/4%8=(s:Int):=by rw[hs];unfold szN;omega
 obtain⟨q,hq⟩:∃q:Nat,q=atN c:=⟨_,rfl⟩
 have eq:c/512%((s:Int)+1)=(q:Int):=by rw[hq];unfold atN;have:=T3 (c/512) (show((s:Int)+1)≠0 by omega);rw[<-hs];omega
 ext;rw[es,zj (l:=((Z9 c s).map λx=>(⟨#[x]⟩:ao)).map D.str) (by rfl) (by rw[zm];omega) ?_ (.inl rfl)];rotate_left
 .rw[Xh,Qa,Z9,Xc,Xc];refine qt λk hk'=>vq (by ext) ?_;have hk:=Xw.mp hk';ext;rw[j2q nofun];ext;simp
 rw[Fj (Ro (by rw[zq];omega)),W8];have lg:(sL (Z9 c s)).length=s:=by rw[qw,zq]
 ext;rw[eq,zj (l:=(Q9 c m).map D.str) (by rfl) (by rw[zm];omega) ?_ (.inl rfl)]
 .ext
 .rw[Xh,Qa,Q9,Xc];refine qt λk hk'=>vq (by ext) ?_;have hk:=Xw.mp hk';ext;rw[j2q nofun];ext;rw[Be (by rw[zq];omega),Bg (by rw[zq];omega)];have e1:(⟨#[lt ((c/9+7*(0+(k:Int)))%26)]⟩:ao)=sL [lt ((c/9+7*(0+(k:Int)))%26)]:=rfl;have l1:(sL ((Z9 c s).take q)).length=q:=by rw[qw,Xj,zq];omega
  have l2:(sL ((Z9 c s).drop q)).length=s-q:=by rw[qw,P0,zq]
  have l3:(sL [lt ((c/9+7*(0+(k:Int)))%26)]).length=1:=rfl;have l4:(sL ((Z9 c s).take q)++sL [lt ((c/9+7*(0+(k:Int)))%26)]).length=q+1:=by rw[Z4,qw,X7,Xj,zq,xx,cG];omega
  rw[e1];ext;rw[Z4,Z4];simp only[Function.comp,wrd,h,if_false,<-hs,<-hq,Pk,gJ,gO]
theorem j1k {fu n m:Nat} (hT:T "_law_words" = aa fL_words) {c:Int} (hm:1<=m/\m<=6):evP fu G T (n+1) "_law_words" [.int c,.int m]=.fresh ((Q9 c m).map D.str):=by
 by_cases h:c%4<2
 .rw[jr (F:=fL_words) hT rfl];simp only[fL_words,Z2,enter];have ll:=jae;ext;rw[zj (l:=((V2 c).map λx=>(⟨#[x]⟩:ao)).map D.str) (by rfl) (by rw[zm];decide) ?_ (.inl rfl)];rotate_left
  .rw[Qa,V2,Xc,Xc];refine qt λk hk'=>vq (by ext) ?_;have hk:=Xw.mp hk';ext;rw[j2q nofun];ext;simp
  rw[Fj (Ro (by rw[J6];decide)),W8];have st:=j1s (c:=c) hm.2;obtain⟨s,hs⟩:∃s:Nat,s=stN c m:=⟨_,rfl⟩
  have es:c/8%(9-(m:Int))=(s:Int):=by rw[hs];unfold stN;have:=T3 (c/8) (show(9-(m:Int))≠0 by omega);omega
  have lg:(sL (V2 c)).length=8:=by rw[qw,J6]
  by_cases h0:c%4=0
  .ext;rw[es,zj (l:=(Q9 c m).map D.str) (by rfl) (by rw[zm];omega) ?_ (.inl rfl)]
   .ext
   .rw[Xh,Qa,Q9,Xc];refine qt λk hk'=>vq (by ext) ?_;have hk:=Xw.mp hk';ext;have e:(s:Int)+(0+(k:Int))+1=((s+k+1:Nat):Int):=by omega
    have hh:wrd c m k=(V2 c).take (stN c m+k+1):=by unfold wrd;rw[if_pos h,if_pos h0]
    rw[e,Be (by rw[J6];omega)];simp only[Function.comp,hh,hs]
  .ext;rw[es,zj (l:=(Q9 c m).map D.str) (by rfl) (by rw[zm];omega) ?_ (.inl rfl)]
   .ext
   .rw[Xh,Qa,Q9,Xc];refine qt λk hk'=>vq (by ext) ?_;have hk:=Xw.mp hk';ext;have e:8-(s:Int)-(0+(k:Int))-1=((8-s-k-1:Nat):Int):=by omega
    have hh:wrd c m k=(V2 c).drop (8-stN c m-k-1):=by unfold wrd;rw[if_pos h,if_neg h0]
    rw[e,Bg (by rw[J6];omega)];simp only[Function.comp,hh,hs]
 .exact j6o hT h nofun
theorem jkw(m:Nat)(z:Int):∀x∈zc 2 m z,x=0\/x=1:=by
 intro x hx;obtain⟨i,hi⟩:=List.mem_iff_getElem?.mp hx;have hl:i<m:=by have:=(Xe.mp hi).1;rw[Ji]at this;exact this
 rw[Oo 2 hl]at hi;cases hi;omega
end
end KW
namespace KB
open PySem KV PyProof.Rows
noncomputable def jn:List (List Nat)->List Nat
 |[]=>[]
 |[x]=>x
 |x::r=>x++32::jn r
theorem j14{x:List Nat}{r:List (List Nat)}(h:r≠[]):jn (x::r)=x++32::jn r:=by
 cases r with
 |nil=>exact absurd rfl h
 |cons y r=>rfl
theorem Vq{x y:List Nat}{r:List (List Nat)}:jn (x::y::r)=x++32::jn (y::r):=rfl
theorem j7e:(" ":ao)=sL [32]:=by decide +kernel
theorem j20(x:ao):sL x.cps.toList=x:=by cases x;simp[sL]
theorem Mg:∀ls:List (List Nat),jv " " (ls.map sL)=sL (jn ls)
 |[]=>rfl
 |[x]=>rfl
 |x::y::r=>by
  rw[X5,X5,jv,<-X5 (f:=sL),Mg (y::r),j7e,Z4,Z4,Vq]
  .congr 1;simp
  .intro z;cases z
theorem jco (ls:List (List Nat)):cD " " (ls.map sL)=sL (jn ls):=by show gj _ _=_;rw[StrLaws.glued_eq_join,Mg]
theorem j1g(c:Nat):∀a b:List Nat,cnt c (a++b)=cnt c a+cnt c b
 |[],b=>by rw[Tj,cnt_nil];omega
 |x::a,b=>by rw[Tc,gG,gG,j1g c a b];omega
theorem El(c:Nat):∀a:List Nat,0<=cnt c a
 |[]=>by rw[cnt_nil];omega
 |x::a=>by have:=El c a;rw[gG];split<;>omega
theorem jap{c:Nat}:∀{a:List Nat},cnt c a=0->c∉a
 |[],_=>by simp
 |x::a,h=>by
  rw[gG]at h;have:=El c a;split at h
  .omega
  .rename_i z;have:=jap (c:=c) (a:=a) nofun
   simp only[xr,not_or];exact⟨λq=>z q.symm,this⟩
theorem j5p:∀ls:List (List Nat),ls≠[]->cnt 32 (jn ls)=(ls.map (cnt 32)).sum+(ls.length:Int)-1
 |[],h=>absurd rfl h
 |[x],_=>by simp[jn]
 |x::y::r,_=>by rw[Vq,j1g,gG,if_pos rfl,j5p (y::r) (by intro z;cases z)];simp only[X5,T7,xx];omega
theorem j3u:∀{l:List Int},(∀x∈l,0<=x)->0<=l.sum
 |[],_=>by simp
 |a::l,h=>by rw[T7];have:=j3u λy hy=>h y (xf _ hy);have:=h a xm;omega
theorem ja2:∀{l:List Int},(∀x∈l,0<=x)->l.sum=0->∀x∈l,x=0
 |[],_,_,_,h=>absurd h (by simp)
 |a::l,h,e,x,hx=>by
  rw[T7]at e;have h1:=h a xm;have h2:0<=l.sum:=by exact j3u λy hy=>h y (xf _ hy)
  rcases xr.mp hx with rfl|hx
  .omega
  .exact ja2 (λy hy=>h y (xf _ hy)) nofun x hx
def bf(ls:List (List Nat)):Prop:=∀l∈ls,32∉l
theorem j5o:∀{a b c d:List Nat},32∉a->32∉c->a++32::b=c++32::d->a=c/\b=d
 |[],b,[],d,_,_,h=>by simpa using h
 |[],b,x::c,d,_,hc,h=>by have:=(eD h).1;exact absurd (xr.mpr (.inl this)) hc
 |x::a,b,[],d,ha,_,h=>by have:=(eD h).1;exact absurd (xr.mpr (.inl this.symm)) ha
 |x::a,b,y::c,d,ha,hc,h=>by obtain⟨h1,h2⟩:=eD h;obtain⟨e1,e2⟩:=j5o (a:=a) (c:=c) (λz=>ha (xf _ z)) (λz=>hc (xf _ z)) h2;exact⟨by rw[h1,e1],e2⟩
theorem j51:∀{ls ms:List (List Nat)},ls≠[]->ms≠[]->bf ls->bf ms->jn ls=jn ms->ls=ms
 |[],_,h,_,_,_,_=>absurd rfl h
 |_,[],_,h,_,_,_=>absurd rfl h
 |[x],[y],_,_,_,_,h=>by rw[show x=y from h]
 |[x],y::z::r,_,_,h1,_,h=>by rw[Vq]at h;exact absurd (show 32∈x from by rw[show x=_ from h];simp) (h1 x xm)
 |x::z::r,[y],_,_,_,h1,h=>by rw[Vq]at h;exact absurd (show 32∈y from by rw[<-show _=y from h];simp) (h1 y xm)
 |x::z::r,y::u::s,_,_,h1,h2,h=>by rw[Vq,Vq]at h;obtain⟨e1,e2⟩:=j5o (h1 x xm) (h2 y xm) h;rw[e1,j51 (by intro q;cases q) (by intro q;cases q) (λl hl=>h1 l (xf _ hl)) (λl hl=>h2 l (xf _ hl)) e2]
theorem j75 (x:ao):∃ls:List (List Nat),aF x " " = ls.map sL/\ls≠[]/\bf ls/\sL (jn ls)=x:=by
 have hl:=split_len x 32;have hj:=StrLaws.join_split x " ";rw[show(⟨#[32]⟩:ao) = " " from by decide +kernel]at hl;refine⟨(aF x " ").map λs=>s.cps.toList,?_,?_,?_,?_⟩
 .rw[Xc];exact(fJ _).symm.trans (T9 λs _=>(j20 s).symm)
 .intro h;have:=split_pos x " ";rw[List.map_eq_nil_iff.mp h]at this;exact absurd this (by decide)
 .have e:sL (jn ((aF x " ").map λs=>s.cps.toList))=x:=by rw[<-Mg,Xc];rw[show(aF x " ").map (sL ∘ λs=>s.cps.toList)=aF x " " from(T9 λs _=>j20 s).trans (fJ _)];exact hj
  have hne:(aF x " ").map (λs=>s.cps.toList)≠[]:=by intro h;have:=split_pos x " ";rw[List.map_eq_nil_iff.mp h]at this;exact absurd this (by decide)
  have hc:=j5p _ hne;have e2:x.cps.toList=jn ((aF x " ").map λs=>s.cps.toList):=by rw[<-e,Bj,e]
  rw[<-e2,km]at hc;have h0:(((aF x " ").map λs=>s.cps.toList).map (cnt 32)).sum=0:=by omega
  intro l hl';exact jap (ja2 (λy hy=>by obtain⟨z,_,rfl⟩:=Xd.mp hy;exact El _ _) h0 _ (Xd.mpr ⟨l,hl',rfl⟩))
 .rw[<-Mg,Xc];rw[show(aF x " ").map (sL ∘ λs=>s.cps.toList)=aF x " " from(T9 λs _=>j20 s).trans (fJ _)];exact hj
theorem j74 {ls:List (List Nat)} (h:ls≠[]) (hb:bf ls):aF (sL (jn ls)) " " = ls.map sL:=by obtain⟨ms,e,hm,hb2,ej⟩:=j75 (sL (jn ls));rw[e,j51 hm h hb2 hb (Ue ej)]
theorem Rp:∀{ls ms:List (List Nat)},ls≠[]->ms≠[]->jn (ls++ms)=jn ls++32::jn ms
 |[],_,h,_=>absurd rfl h
 |[x],ms,_,h=>by rw[gJ,j14 h];rfl
 |x::y::r,ms,_,h=>by rw[Tc,Tc,Vq,<-Tc,Rp (by intro q;cases q) h,Vq];simp
theorem j13{α:Type}{f:α->List (List Nat)}:∀{as:List α},(∀a∈as,f a≠[])->jn (as.map λa=>jn (f a))=jn (as.flatMap f)
 |[],_=>rfl
 |[a],_=>by simp[jn]
 |a::b::r,h=>by
  have hb:(b::r).flatMap f≠[]:=by rw[T6];intro z;exact h b (xf _ xm) (List.append_eq_nil_iff.mp z).1
  rw[X5,j14 (by simp),j13 (as:=b::r) λx hx=>h x (xf _ hx),T6 (x:=a),Rp (h a xm) hb]
end KB
section
namespace K12
open PySem PySem.Spec PyProof.Rows L2
noncomputable def top(i:Nat):aQ:=PySem.Challenge.pw_leastasks_k12_forms_say.main.body.getD i (.Pass ⟨0,0,0,0⟩)
noncomputable def Vu:Sx:=(.seq (.ret (.and (.cmp .ge (.blt .len (.cons (.var 0) .nil)) (.lit (.int 1))) (.and (.cmp .le (.blt .len (.cons (.var 0) .nil)) (.glob "LONGEST_WORD")) (.call "is_made_of" (.cons (.var 0) (.cons (.glob "LETTERS") .nil)))))) .nop)
noncomputable def Wc:Fi:=⟨1,1,Vu,ae⟩
noncomputable def Q3:Sx:=(.seq (.ret (.blt .all (.cons (.comp [2] (.cmp .isin (.var 2) (.var 1)) (.seq (.var 0)) .nil) .nil))) .nop)
noncomputable def Jy:Fi:=⟨2,3,Q3,ae⟩
noncomputable def Vt:Sx:=(.seq (.expr (.call "refuse_wrong_size" (.cons (.var 0) .nil))) (.seq (.ret (.call "all_choices" (.cons (.bin .mul (.lst (.cons (.glob "ANSWERS") .nil)) (.var 0)) .nil))) .nop))
noncomputable def Wb:Fi:=⟨1,1,Vt,ae⟩
noncomputable def Vg:Sx:=(.seq (.ret (.call "number_of" (.cons (.var 0) (.cons (.blt .len (.cons (.glob "ANSWERS") .nil)) .nil)))) .nop)
noncomputable def Ld:Fi:=⟨1,1,Vg,ae⟩
noncomputable def J3:Sx:=(.seq (.ife (.or (.cmp .lt (.var 0) (.glob "FEWEST_PLACES")) (.cmp .gt (.var 0) (.glob "MOST_PLACES"))) (.seq (.raise "WrongSize" (.fst (.cons (.lit (.str "there are ")) (.cons (.glob "FEWEST_PLACES") (.cons (.lit (.str " to ")) (.cons (.glob "MOST_PLACES") (.cons (.lit (.str " places, not ")) (.cons (.var 0) .nil)))))))) .nop) .nop) .nop)
noncomputable def Ju:Fi:=⟨1,1,J3,ae⟩
noncomputable def J5:Sx:=(.seq (.set 1 (.lst (.cons (.tup .nil) .nil))) (.seq (.loop [2] (.seq (.var 0)) (.seq (.set 3 (.lst .nil)) (.seq (.loop [4] (.seq (.var 1)) (.seq (.ext 3 (.comp [5] (.bin .add (.var 4) (.tup (.cons (.var 5) .nil))) (.seq (.var 2)) .nil)) .nop)) (.seq (.mov 1 3) .nop)))) (.seq (.retV 1) .nop)))
noncomputable def fP_all_choices:Fi:=⟨1,6,J5,ae⟩
noncomputable def Yn:Sx:=(.seq (.set 2 (.lit (.int 0))) (.seq (.loop [3] (.seq (.var 0)) (.seq (.set 2 (.bin .add (.bin .mul (.var 2) (.var 1)) (.var 3))) .nop)) (.seq (.retV 2) .nop)))
noncomputable def Iz:Fi:=⟨2,4,Yn,ae⟩
noncomputable def zu:Sx:=(.seq (.expr (.call "refuse_wrong_size" (.cons (.blt .len (.cons (.var 0) .nil)) .nil))) (.seq (.set 1 (.lst .nil)) (.seq (.loop [2] (.seq (.var 0)) (.seq (.ife (.not (.call "is_word" (.cons (.var 2) .nil))) (.seq (.raise "NoWord" (.fst (.cons (.rpr (.var 2)) (.cons (.lit (.str " is no word of one to eight small letters")) .nil)))) .nop) .nop) (.seq (.ife (.cmp .isin (.var 2) (.var 1)) (.seq (.raise "Twice" (.fst (.cons (.lit (.str "the place ")) (.cons (.rpr (.var 2)) (.cons (.lit (.str " stands twice")) .nil))))) .nop) .nop) (.seq (.app 1 (.var 2)) .nop)))) .nop)))
noncomputable def zr:Fi:=⟨1,3,zu,ae⟩
noncomputable def Z1:Sx:=(.seq (.ret (.bin .add (.call "row_number" (.cons (.bin .mul (.tup (.cons (.lit (.int 1)) .nil)) (.var 0)) .nil)) (.lit (.int 1)))) .nop)
noncomputable def Oi:Fi:=⟨1,1,Z1,ae⟩
noncomputable def Jw:Sx:=(.seq (.expr (.call "refuse_wrong_places" (.cons (.var 1) .nil))) (.seq (.set 2 (.call "form_of" (.cons (.var 0) .nil))) (.seq (.ife (.not (.call "keeps_to" (.cons (.var 2) (.cons (.var 1) .nil)))) (.seq (.raise "NoPlace" (.lit (.str "the text has a word that is none of the places"))) .nop) .nop) (.seq (.set 3 (.comp [4] (.call "said_by" (.cons (.var 2) (.cons (.dzip (.var 1) (.var 4)) .nil))) (.seq (.call "rows_of" (.cons (.blt .len (.cons (.var 1) .nil)) .nil))) .nil)) (.seq (.ret (.tup (.cons (.blt .tuple (.cons (.var 1) .nil)) (.cons (.blt .tuple (.cons (.var 3) .nil)) .nil)))) .nop)))))
noncomputable def Z0:Fi:=⟨2,5,Jw,ae⟩
noncomputable def Vv:Sx:=(.newP 1 (.var 0) (.callS 2 "form_taken" (.cons (.lit (.int 0)) .nil) (.ifAll "NoText" (.lit (.str "something stands behind the form")) (.ret (.var 2)))))
noncomputable def We:Fi:=⟨1,3,Vv,ae⟩
noncomputable def Vi:Sx:=(.px (.take 2 (.ifCal (.cmp .eq (.var 2) (.lit (.str "("))) "bracketed_taken" (.cons (.bin .add (.var 1) (.lit (.int 1))) .nil) (.ifRai (.not (.call "is_word" (.cons (.var 2) .nil))) "NoText" (.fst (.cons (.rpr (.var 2)) (.cons (.lit (.str " stands where a form is wanted")) .nil))) (.ret (.tup (.cons (.glob "PLACE") (.cons (.var 2) (.cons (.tup .nil) .nil)))))))))
noncomputable def Jz:Fi:=⟨3,4,Vi,ae⟩
noncomputable def Vb:Sx:=(.px (.ifRai (.cmp .gt (.var 1) (.glob "MOST_BRACKETS")) "NoText" (.fst (.cons (.lit (.str "more than ")) (.cons (.glob "MOST_BRACKETS") (.cons (.lit (.str " brackets stand unclosed at once")) .nil)))) (.take 2 (.ifRai (.cmp .notin (.var 2) (.glob "KINDS")) "NoText" (.fst (.cons (.rpr (.var 2)) (.cons (.lit (.str " is no kind")) .nil))) (.takeIf 3 (.call "wants_own" (.cons (.var 2) .nil)) (.lit (.str "")) (.set 4 (.lst .nil) (.whlA ")" (.appC 4 "form_taken" (.cons (.var 1) .nil) .nop) (.takeE (.ifRai (.or (.not (.call "takes_count" (.cons (.var 2) (.cons (.blt .len (.cons (.var 4) .nil)) .nil)))) (.not (.call "takes_own" (.cons (.var 2) (.cons (.var 3) (.cons (.blt .len (.cons (.var 4) .nil)) .nil)))))) "NoText" (.fst (.cons (.rpr (.var 2)) (.cons (.lit (.str " has not what it wants")) .nil))) (.ret (.tup (.cons (.var 2) (.cons (.var 3) (.cons (.blt .tuple (.cons (.var 4) .nil)) .nil))))))))))))))
noncomputable def Qe:Fi:=⟨3,6,Vb,ae⟩
noncomputable def Ym:Sx:=(.seq (.ret (.or (.cmp .eq (.var 0) (.lit (.str "table"))) (.cmp .isin (.var 0) (.glob "COUNTING_KINDS")))) .nop)
noncomputable def Iw:Fi:=⟨1,1,Ym,ae⟩
noncomputable def Zu:Sx:=(.seq (.ife (.cmp .eq (.var 0) (.lit (.str "not"))) (.seq (.ret (.cmp .eq (.var 1) (.lit (.int 1)))) .nop) .nop) (.seq (.ife (.cmp .eq (.var 0) (.lit (.str "table"))) (.seq (.ret (.and (.cmp .ge (.var 1) (.lit (.int 1))) (.cmp .le (.var 1) (.glob "MOST_TABLE_FORMS")))) .nop) .nop) (.seq (.ife (.cmp .isin (.var 0) (.glob "TYING_KINDS")) (.seq (.ret (.cmp .eq (.var 1) (.blt .len (.cons (.glob "TIES") .nil)))) .nop) .nop) (.seq (.ret (.cmp .ge (.var 1) (.lit (.int 1)))) .nop))))
noncomputable def Fv:Fi:=⟨2,2,Zu,ae⟩
noncomputable def Zh:Sx:=(.seq (.ife (.cmp .eq (.var 0) (.lit (.str "table"))) (.seq (.ret (.and (.cmp .eq (.blt .len (.cons (.var 1) .nil)) (.call "count_of_rows" (.cons (.var 2) .nil))) (.call "is_made_of" (.cons (.var 1) (.cons (.lit (.str "01")) .nil))))) .nop) .nop) (.seq (.ife (.cmp .isin (.var 0) (.glob "COUNTING_KINDS")) (.seq (.ret (.call "is_number" (.cons (.var 1) .nil))) .nop) .nop) (.seq (.ret (.lit (.bl af))) .nop)))
noncomputable def Yh:Fi:=⟨3,3,Zh,ae⟩
noncomputable def Yo:Sx:=(.seq (.ife (.not (.call "is_made_of" (.cons (.var 0) (.cons (.lit (.str "0123456789")) .nil)))) (.seq (.ret (.lit (.bl ae))) .nop) .nop) (.seq (.ret (.or (.cmp .eq (.blt .len (.cons (.var 0) .nil)) (.lit (.int 1))) (.and (.cmp .eq (.blt .len (.cons (.var 0) .nil)) (.lit (.int 2))) (.cmp .ne (.ix (.var 0) (.lit (.int 0))) (.lit (.str "0")))))) .nop))
noncomputable def Ea:Fi:=⟨1,1,Yo,ae⟩
noncomputable def Qw:Sx:=(.seq (.ife (.cmp .eq (.ix (.var 0) (.lit (.int 0))) (.glob "PLACE")) (.seq (.ret (.cmp .isin (.ix (.var 0) (.lit (.int 1))) (.var 1))) .nop) .nop) (.seq (.ret (.blt .all (.cons (.comp [2] (.call "keeps_to" (.cons (.var 2) (.cons (.var 1) .nil))) (.seq (.ix (.var 0) (.lit (.int 2)))) .nil) .nil))) .nop))
noncomputable def Qv:Fi:=⟨2,3,Qw,ae⟩
noncomputable def Zi:Sx:=(.seq (.ife (.cmp .eq (.ix (.var 0) (.lit (.int 0))) (.glob "PLACE")) (.seq (.ret (.dix (.var 1) (.ix (.var 0) (.lit (.int 1))))) .nop) .nop) (.seq (.set 2 (.comp [3] (.call "said_by" (.cons (.var 3) (.cons (.var 1) .nil))) (.seq (.ix (.var 0) (.lit (.int 2)))) .nil)) (.seq (.ret (.ite (.call "says_yes" (.cons (.ix (.var 0) (.lit (.int 0))) (.cons (.ix (.var 0) (.lit (.int 1))) (.cons (.var 2) .nil)))) (.lit (.int 1)) (.lit (.int 0)))) .nop)))
noncomputable def Zc:Fi:=⟨2,4,Zi,ae⟩
noncomputable def Q5:Sx:=(.seq (.ife (.cmp .eq (.var 0) (.lit (.str "not"))) (.seq (.ret (.cmp .eq (.ix (.var 2) (.lit (.int 0))) (.lit (.int 0)))) .nop) .nop) (.seq (.ife (.cmp .eq (.var 0) (.lit (.str "all"))) (.seq (.ret (.cmp .eq (.blt .sum (.cons (.var 2) .nil)) (.blt .len (.cons (.var 2) .nil)))) .nop) .nop) (.seq (.ife (.cmp .eq (.var 0) (.lit (.str "any"))) (.seq (.ret (.cmp .ge (.blt .sum (.cons (.var 2) .nil)) (.lit (.int 1)))) .nop) .nop) (.seq (.ife (.cmp .eq (.var 0) (.lit (.str "odd"))) (.seq (.ret (.cmp .eq (.bin .mod (.blt .sum (.cons (.var 2) .nil)) (.lit (.int 2))) (.lit (.int 1)))) .nop) .nop) (.seq (.ife (.cmp .eq (.var 0) (.lit (.str "least"))) (.seq (.ret (.cmp .ge (.blt .sum (.cons (.var 2) .nil)) (.blt .int (.cons (.var 1) .nil)))) .nop) .nop) (.seq (.ife (.cmp .eq (.var 0) (.lit (.str "just"))) (.seq (.ret (.cmp .eq (.blt .sum (.cons (.var 2) .nil)) (.blt .int (.cons (.var 1) .nil)))) .nop) .nop) (.seq (.ife (.cmp .eq (.var 0) (.lit (.str "table"))) (.seq (.ret (.cmp .eq (.ix (.var 1) (.call "row_number" (.cons (.var 2) .nil))) (.lit (.str "1")))) .nop) .nop) (.seq (.ife (.cmp .eq (.var 0) (.lit (.str "ring"))) (.seq (.ret (.call "has_ring" (.cons (.var 2) .nil))) .nop) .nop) (.seq (.ret (.cmp .eq (.call "count_of_clusters" (.cons (.var 2) .nil)) (.lit (.int 1)))) .nop)))))))))
noncomputable def Jh:Fi:=⟨3,3,Q5,ae⟩
noncomputable def U5:Sx:=(.seq (.ret (.cmp .gt (.blt .sum (.cons (.var 0) .nil)) (.bin .sub (.blt .len (.cons (.glob "TIED_SPOTS") .nil)) (.call "count_of_clusters" (.cons (.var 0) .nil))))) .nop)
noncomputable def j0a:Fi:=⟨1,1,U5,ae⟩
noncomputable def Jx:Sx:=(.seq (.set 1 (.blt .list (.cons (.glob "TIED_SPOTS") .nil))) (.seq (.loop [2,3] (.zip (.glob "TIES") (.var 0)) (.seq (.ife (.cmp .eq (.var 3) (.lit (.int 1))) (.seq (.set 1 (.call "marks_tied" (.cons (.var 1) (.cons (.ix (.var 1) (.ix (.var 2) (.lit (.int 0)))) (.cons (.ix (.var 1) (.ix (.var 2) (.lit (.int 1)))) .nil))))) .nop) .nop) .nop)) (.seq (.ret (.lset (.var 1))) .nop)))
noncomputable def Wf:Fi:=⟨1,4,Jx,ae⟩
noncomputable def Vh:Sx:=(.seq (.ret (.comp [3] (.ite (.cmp .eq (.var 3) (.var 2)) (.var 1) (.var 3)) (.seq (.var 0)) .nil)) .nop)
noncomputable def Le:Fi:=⟨3,4,Vh,ae⟩
noncomputable def Y0:Sx:=(.seq (.ife (.cmp .lt (.var 1) (.blt .len (.cons (.var 0) .nil))) (.seq (.ret (.ix (.var 0) (.var 1))) .nop) .nop) (.seq (.set 2 (.bin .add (.lit (.int 70001)) (.bin .mul (.bin .mul (.lit (.int 911)) (.var 1)) (.var 1)))) (.seq (.ife (.cmp .gt (.blt .len (.cons (.var 0) .nil)) (.lit (.int 0))) (.seq (.set 2 (.bin .add (.var 2) (.bin .mul (.bin .mod (.ix (.var 0) (.lit (.int 0))) (.lit (.int 9973))) (.bin .add (.bin .mul (.lit (.int 3)) (.var 1)) (.lit (.int 1)))))) .nop) .nop) (.seq (.retV 2) .nop))))
noncomputable def fL_cell:Fi:=⟨2,3,Y0,ae⟩
noncomputable def Z2:Sx:=(.seq (.set 2 (.lit (.str "mdkbvqhzcgrnapxolsiefwtyju"))) (.seq (.ife (.cmp .lt (.bin .mod (.var 0) (.lit (.int 4))) (.lit (.int 2))) (.seq (.set 3 (.join "" (.comp [4] (.ix (.var 2) (.bin .mod (.bin .fdiv (.var 0) (.bin .add (.lit (.int 4)) (.bin .mul (.lit (.int 5)) (.var 4)))) (.lit (.int 26)))) (.range (.cons (.lit (.int 8)) .nil)) .nil))) (.seq (.set 5 (.bin .mod (.bin .fdiv (.var 0) (.lit (.int 8))) (.bin .sub (.lit (.int 9)) (.var 1)))) (.seq (.ife (.cmp .eq (.bin .mod (.var 0) (.lit (.int 4))) (.lit (.int 0))) (.seq (.ret (.comp [4] (.sl (.var 3) .nil (.cons (.bin .add (.bin .add (.var 5) (.var 4)) (.lit (.int 1))) .nil)) (.range (.cons (.var 1) .nil)) .nil)) .nop) .nop) (.seq (.ret (.comp [4] (.sl (.var 3) (.cons (.bin .sub (.bin .sub (.bin .sub (.lit (.int 8)) (.var 5)) (.var 4)) (.lit (.int 1))) .nil) .nil) (.range (.cons (.var 1) .nil)) .nil)) .nop)))) .nop) (.seq (.set 6 (.bin .mod (.bin .fdiv (.var 0) (.lit (.int 4))) (.lit (.int 8)))) (.seq (.set 7 (.join "" (.comp [4] (.ix (.var 2) (.bin .mod (.bin .add (.bin .add (.bin .fdiv (.var 0) (.lit (.int 32))) (.bin .mul (.bin .mul (.lit (.int 3)) (.var 4)) (.var 4))) (.var 4)) (.lit (.int 26)))) (.range (.cons (.var 6) .nil)) .nil))) (.seq (.set 8 (.bin .mod (.bin .fdiv (.var 0) (.lit (.int 512))) (.bin .add (.var 6) (.lit (.int 1))))) (.seq (.ret (.comp [4] (.bin .add (.bin .add (.sl (.var 7) .nil (.cons (.var 8) .nil)) (.ix (.var 2) (.bin .mod (.bin .add (.bin .fdiv (.var 0) (.lit (.int 9))) (.bin .mul (.lit (.int 7)) (.var 4))) (.lit (.int 26))))) (.sl (.var 7) (.cons (.var 8) .nil) .nil)) (.range (.cons (.var 1) .nil)) .nil)) .nop))))))
noncomputable def fL_words:Fi:=⟨2,9,Z2,ae⟩
noncomputable def Zw:Sx:=(.seq (.ife (.isi (.var 1) ["list","tuple"]) (.seq (.ife (.or (.cmp .ne (.isi (.var 0) ["list"]) (.isi (.var 1) ["list"])) (.not (.isi (.var 0) ["list","tuple"]))) (.seq (.ret (.lit (.bl ae))) .nop) .nop) (.seq (.set 2 (.comp [3] (.var 3) (.range (.cons (.blt .min (.cons (.blt .len (.cons (.var 0) .nil)) (.cons (.blt .len (.cons (.var 1) .nil)) .nil))) .nil)) (.cons (.not (.call "_law_same" (.cons (.ix (.var 0) (.var 3)) (.cons (.ix (.var 1) (.var 3)) .nil)))) .nil))) (.seq (.ret (.and (.cmp .eq (.blt .len (.cons (.var 0) .nil)) (.blt .len (.cons (.var 1) .nil))) (.cmp .eq (.var 2) (.lst .nil)))) .nop))) .nop) (.seq (.ife (.isN (.var 1)) (.seq (.ret (.isN (.var 0))) .nop) .nop) (.seq (.ife (.or (.cmp .ne (.isi (.var 0) ["bool"]) (.isi (.var 1) ["bool"])) (.cmp .ne (.isi (.var 0) ["str"]) (.isi (.var 1) ["str"]))) (.seq (.ret (.lit (.bl ae))) .nop) .nop) (.seq (.ret (.and (.isi (.var 0) ["int","str"]) (.cmp .eq (.var 0) (.var 1)))) .nop))))
noncomputable def fL_same:Fi:=⟨2,4,Zw,ae⟩
noncomputable def Wq:Sx:=(.seq (.ret (.bin .fdiv (.bin .mod (.bin .mul (.bin .add (.bin .mod (.var 0) (.lit (.int 2147483647))) (.lit (.int 11))) (.bin .add (.bin .add (.lit (.int 48271)) (.bin .mul (.lit (.int 614)) (.var 1))) (.bin .mul (.bin .mul (.lit (.int 2)) (.var 1)) (.var 1)))) (.lit (.int 2147483647))) (.lit (.int 8)))) .nop)
noncomputable def Ol:Fi:=⟨2,2,Wq,ae⟩
noncomputable def Mq:Sx:=(.seq (.ife (.or (.cmp .eq (.var 1) (.lit (.int 0))) (.and (.cmp .eq (.bin .mod (.var 0) (.lit (.int 5))) (.lit (.int 0))) (.not (.var 2)))) (.seq (.ret (.lst (.cons (.lit (.str "place")) (.cons (.bin .mod (.bin .fdiv (.var 0) (.lit (.int 5))) (.var 3)) (.cons (.lst .nil) .nil))))) .nop) .nop) (.seq (.set 4 (.ix (.lst (.cons (.lit (.str "not")) (.cons (.lit (.str "all")) (.cons (.lit (.str "any")) (.cons (.lit (.str "odd")) (.cons (.lit (.str "least")) (.cons (.lit (.str "just")) (.cons (.lit (.str "table")) (.cons (.lit (.str "ring")) (.cons (.lit (.str "joined")) .nil)))))))))) (.bin .mod (.bin .fdiv (.var 0) (.lit (.int 5))) (.lit (.int 9))))) (.seq (.set 5 (.bin .add (.lit (.int 1)) (.bin .mod (.bin .fdiv (.var 0) (.lit (.int 45))) (.lit (.int 3))))) (.seq (.ife (.cmp .eq (.var 4) (.lit (.str "not"))) (.seq (.set 5 (.lit (.int 1))) .nop) .nop) (.seq (.ife (.cmp .eq (.var 4) (.lit (.str "table"))) (.seq (.set 5 (.bin .add (.lit (.int 1)) (.bin .mod (.bin .fdiv (.var 0) (.lit (.int 45))) (.lit (.int 4))))) .nop) .nop) (.seq (.ife (.or (.cmp .eq (.var 4) (.lit (.str "ring"))) (.cmp .eq (.var 4) (.lit (.str "joined")))) (.seq (.set 5 (.lit (.int 6))) .nop) .nop) (.seq (.set 6 (.bin .mod (.bin .fdiv (.var 0) (.lit (.int 135))) (.var 5))) (.seq (.set 7 (.lst .nil)) (.seq (.loop [8] (.range (.cons (.var 5) .nil)) (.seq (.set 9 (.bin .fdiv (.bin .sub (.var 1) (.lit (.int 1))) (.lit (.int 4)))) (.seq (.ife (.cmp .eq (.var 8) (.var 6)) (.seq (.set 9 (.bin .sub (.var 1) (.lit (.int 1)))) .nop) .nop) (.seq (.app 7 (.call "_law_form" (.cons (.call "_law_mixed" (.cons (.var 0) (.cons (.bin .add (.var 8) (.var 1)) .nil))) (.cons (.var 9) (.cons (.and (.var 2) (.cmp .eq (.var 8) (.var 6))) (.cons (.var 3) .nil)))))) .nop)))) (.seq (.set 10 (.ix (.lst (.cons (.bin .mod (.bin .fdiv (.var 0) (.lit (.int 810))) (.bin .add (.var 5) (.lit (.int 3)))) (.cons (.bin .mod (.bin .fdiv (.var 0) (.lit (.int 810))) (.lit (.int 100))) .nil))) (.blt .int (.cons (.cmp .eq (.bin .mod (.bin .fdiv (.var 0) (.lit (.int 7))) (.lit (.int 8))) (.lit (.int 3))) .nil)))) (.seq (.keep 10) (.seq (.ife (.cmp .eq (.var 4) (.lit (.str "table"))) (.seq (.fgt 8) (.seq (.set 10 (.comp [8] (.bin .mod (.call "_law_mixed" (.cons (.var 0) (.cons (.bin .add (.lit (.int 20)) (.var 8)) .nil))) (.lit (.int 2))) (.range (.cons (.bin .shl (.lit (.int 1)) (.var 5)) .nil)) .nil)) (.seq (.keep 10) .nop))) .nop) (.seq (.keep 7) (.seq (.ret (.lst (.cons (.var 4) (.cons (.var 10) (.cons (.var 7) .nil))))) .nop))))))))))))))
noncomputable def Mh:Fi:=⟨4,11,Mq,ae⟩
noncomputable def Zv:Sx:=(.seq (.unp3 2 3 4 (.var 0)) (.seq (.ife (.cmp .eq (.var 2) (.lit (.str "place"))) (.seq (.ret (.ix (.var 1) (.var 3))) .nop) .nop) (.seq (.set 5 (.lst (.cons (.lit (.str "(")) (.cons (.var 2) .nil)))) (.seq (.ife (.or (.cmp .eq (.var 2) (.lit (.str "least"))) (.cmp .eq (.var 2) (.lit (.str "just")))) (.seq (.app 5 (.sti (.var 3))) .nop) .nop) (.seq (.ife (.cmp .eq (.var 2) (.lit (.str "table"))) (.seq (.fgt 6) (.seq (.app 5 (.join "" (.comp [6] (.sti (.var 6)) (.seq (.var 3)) .nil))) .nop)) .nop) (.seq (.loop [6] (.seq (.var 4)) (.seq (.app 5 (.call "_law_text" (.cons (.var 6) (.cons (.var 1) .nil)))) .nop)) (.seq (.ret (.bin .add (.join " " (.var 5)) (.lit (.str " )")))) .nop)))))))
noncomputable def Qj:Fi:=⟨2,7,Zv,ae⟩
noncomputable def Rx:Sx:=(.seq (.set 1 (.lst (.cons (.tup (.cons (.lit (.int 0)) (.cons (.lit (.int 1)) .nil))) (.cons (.tup (.cons (.lit (.int 0)) (.cons (.lit (.int 2)) .nil))) (.cons (.tup (.cons (.lit (.int 0)) (.cons (.lit (.int 3)) .nil))) (.cons (.tup (.cons (.lit (.int 1)) (.cons (.lit (.int 2)) .nil))) (.cons (.tup (.cons (.lit (.int 1)) (.cons (.lit (.int 3)) .nil))) (.cons (.tup (.cons (.lit (.int 2)) (.cons (.lit (.int 3)) .nil))) .nil)))))))) (.seq (.set 2 (.lst (.cons (.lit (.int 0)) (.cons (.lit (.int 1)) (.cons (.lit (.int 2)) (.cons (.lit (.int 3)) .nil)))))) (.seq (.set 3 (.lit (.int 0))) (.seq (.whl (.cmp .gt (.blt .len (.cons (.var 2) .nil)) (.lit (.int 0))) (.seq (.set 4 (.lst (.cons (.ix (.var 2) (.lit (.int 0))) .nil))) (.seq (.loop [5] (.range (.cons (.lit (.int 3)) .nil)) (.seq (.loop [6,7] (.enum (.var 1)) (.seq (.ife (.and (.ix (.var 0) (.var 6)) (.cmp .ne (.cmp .isin (.ix (.var 7) (.lit (.int 0))) (.var 4)) (.cmp .isin (.ix (.var 7) (.lit (.int 1))) (.var 4)))) (.seq (.set 4 (.bin .add (.var 4) (.comp [8] (.var 8) (.seq (.var 7)) (.cons (.cmp .notin (.var 8) (.var 4)) .nil)))) .nop) .nop) .nop)) .nop)) (.seq (.set 2 (.comp [8] (.var 8) (.seq (.var 2)) (.cons (.cmp .notin (.var 8) (.var 4)) .nil))) (.seq (.set 3 (.bin .add (.var 3) (.lit (.int 1)))) .nop))))) (.seq (.retV 3) .nop)))))
noncomputable def j5d:Fi:=⟨1,9,Rx,ae⟩
noncomputable def Up:Sx:=(.seq (.unp3 2 3 4 (.var 0)) (.seq (.ife (.cmp .eq (.var 2) (.lit (.str "place"))) (.seq (.ret (.cmp .eq (.ix (.var 1) (.var 3)) (.lit (.int 1)))) .nop) .nop) (.seq (.fgt 6) (.seq (.set 5 (.comp [6] (.call "_law_says" (.cons (.var 6) (.cons (.var 1) .nil))) (.seq (.var 4)) .nil)) (.seq (.fgt 6) (.seq (.set 7 (.blt .len (.cons (.comp [6] (.var 6) (.seq (.var 5)) (.cons (.var 6) .nil)) .nil))) (.seq (.ife (.cmp .eq (.var 2) (.lit (.str "not"))) (.seq (.ret (.cmp .eq (.var 7) (.lit (.int 0)))) .nop) .nop) (.seq (.ife (.or (.cmp .eq (.var 2) (.lit (.str "all"))) (.cmp .eq (.var 2) (.lit (.str "any")))) (.seq (.ret (.or (.cmp .eq (.var 7) (.blt .len (.cons (.var 5) .nil))) (.and (.cmp .eq (.var 2) (.lit (.str "any"))) (.cmp .gt (.var 7) (.lit (.int 0)))))) .nop) .nop) (.seq (.ife (.cmp .eq (.var 2) (.lit (.str "odd"))) (.seq (.ret (.cmp .eq (.bin .mod (.var 7) (.lit (.int 2))) (.lit (.int 1)))) .nop) .nop) (.seq (.ife (.or (.cmp .eq (.var 2) (.lit (.str "least"))) (.cmp .eq (.var 2) (.lit (.str "just")))) (.seq (.ret (.or (.cmp .eq (.var 7) (.var 3)) (.and (.cmp .eq (.var 2) (.lit (.str "least"))) (.cmp .gt (.var 7) (.var 3))))) .nop) .nop) (.seq (.ife (.cmp .eq (.var 2) (.lit (.str "table"))) (.seq (.set 8 (.lit (.int 0))) (.seq (.loop [6] (.seq (.var 5)) (.seq (.set 8 (.bin .add (.bin .mul (.lit (.int 2)) (.var 8)) (.blt .int (.cons (.var 6) .nil)))) .nop)) (.seq (.ret (.cmp .eq (.ix (.var 3) (.var 8)) (.lit (.int 1)))) .nop))) .nop) (.seq (.ife (.cmp .eq (.var 2) (.lit (.str "joined"))) (.seq (.ret (.cmp .eq (.call "_law_groups" (.cons (.var 5) .nil)) (.lit (.int 1)))) .nop) .nop) (.seq (.ret (.cmp .gt (.var 7) (.bin .sub (.lit (.int 4)) (.call "_law_groups" (.cons (.var 5) .nil))))) .nop)))))))))))))
noncomputable def Um:Fi:=⟨2,9,Up,ae⟩
noncomputable def Uq:Sx:=(.seq (.set 2 (.lst .nil)) (.seq (.loop [3] (.range (.cons (.var 0) .nil)) (.seq (.app 2 (.bin .mod (.bin .fdiv (.var 1) (.bin .shl (.lit (.int 1)) (.bin .sub (.bin .sub (.var 0) (.var 3)) (.lit (.int 1))))) (.lit (.int 2)))) .nop)) (.seq (.ret (.blt .tuple (.cons (.var 2) .nil))) .nop)))
noncomputable def fL_row:Fi:=⟨2,4,Uq,ae⟩
noncomputable def Wo:Sx:=(.seq (.set 2 (.blt .len (.cons (.var 1) .nil))) (.seq (.set 3 (.comp [4] (.blt .int (.cons (.call "_law_says" (.cons (.var 0) (.cons (.call "_law_row" (.cons (.var 2) (.cons (.var 4) .nil))) .nil))) .nil)) (.range (.cons (.bin .shl (.lit (.int 1)) (.var 2)) .nil)) .nil)) (.seq (.set 5 (.blt .list (.cons (.var 1) .nil))) (.seq (.set 6 (.call "question_read" (.cons (.call "_law_text" (.cons (.var 0) (.cons (.var 1) .nil))) (.cons (.var 5) .nil)))) (.seq (.ife (.cmp .ne (.var 5) (.var 1)) (.seq (.ret (.lit (.bl ae))) .nop) .nop) (.seq (.clr 5) (.seq (.ret (.call "_law_same" (.cons (.var 6) (.cons (.tup (.cons (.blt .tuple (.cons (.var 1) .nil)) (.cons (.blt .tuple (.cons (.var 3) .nil)) .nil))) .nil)))) .nop)))))))
noncomputable def Oj:Fi:=⟨2,7,Wo,ae⟩
noncomputable def j3b:Sx:=(.seq (.set 1 (.bin .add (.lit (.int 1)) (.bin .mod (.call "_law_cell" (.cons (.var 0) (.cons (.lit (.int 0)) .nil))) (.lit (.int 6))))) (.seq (.set 2 (.call "_law_words" (.cons (.call "_law_cell" (.cons (.var 0) (.cons (.lit (.int 1)) .nil))) (.cons (.var 1) .nil)))) (.seq (.set 3 (.call "_law_cell" (.cons (.var 0) (.cons (.lit (.int 2)) .nil)))) (.seq (.set 4 (.lst (.cons (.call "_law_form" (.cons (.bin .fdiv (.var 3) (.lit (.int 9))) (.cons (.bin .mod (.var 3) (.lit (.int 9))) (.cons (.cmp .eq (.bin .mod (.bin .fdiv (.var 3) (.lit (.int 9))) (.lit (.int 2))) (.lit (.int 0))) (.cons (.var 1) .nil))))) .nil))) (.seq (.loop [3] (.seq (.sl (.var 0) (.cons (.lit (.int 3)) .nil) (.cons (.lit (.int 7)) .nil))) (.seq (.app 4 (.call "_law_form" (.cons (.call "_law_mixed" (.cons (.var 3) (.cons (.lit (.int 90)) .nil))) (.cons (.bin .add (.lit (.int 1)) (.bin .mod (.var 3) (.lit (.int 3)))) (.cons (.lit (.bl af)) (.cons (.var 1) .nil)))))) .nop)) (.seq (.loop [5] (.seq (.bin .add (.var 4) (.sl (.var 4) .nil (.cons (.lit (.int 1)) .nil)))) (.seq (.ife (.not (.call "_law_right" (.cons (.var 5) (.cons (.var 2) .nil)))) (.seq (.ret (.lit (.bl ae))) .nop) .nop) .nop)) (.seq (.ret (.lit (.bl af))) .nop)))))))
noncomputable def j2y:Fi:=⟨1,6,j3b,ae⟩
noncomputable def tbl:List (ao×Fi):=("is_word",Wc)::("is_made_of",Jy)::("rows_of",Wb)::("row_number",Ld)::("refuse_wrong_size",Ju)::("all_choices",fP_all_choices)::("number_of",Iz)::("refuse_wrong_places",zr)::("count_of_rows",Oi)::("question_read",Z0)::("form_of",We)::("@form_taken",Jz)::("@bracketed_taken",Qe)::("wants_own",Iw)::("takes_count",Fv)::("takes_own",Yh)::("is_number",Ea)::("keeps_to",Qv)::("said_by",Zc)::("says_yes",Jh)::("has_ring",j0a)::("count_of_clusters",Wf)::("marks_tied",Le)::("_law_cell",fL_cell)::("_law_words",fL_words)::("_law_same",fL_same)::("_law_mixed",Ol)::("_law_form",Mh)::("_law_text",Qj)::("_law_groups",j5d)::("_law_says",Um)::("_law_row",fL_row)::("_law_right",Oj)::("law",j2y)::[]
noncomputable def T(x:ao):Option Fi:=tbl.lookup x
noncomputable def gs:List (ao×D):=[("LETTERS",.str "abcdefghijklmnopqrstuvwxyz"),("LONGEST_WORD",.int 8),("FEWEST_PLACES",.int 1),("MOST_PLACES",.int 6),("ANSWERS",.tup [.int 0,.int 1]),("KINDS",.tup [.str "not",.str "all",.str "any",.str "odd",.str "least",.str "just",.str "table",.str "ring",.str "joined"]),("COUNTING_KINDS",.tup [.str "least",.str "just"]),("TYING_KINDS",.tup [.str "ring",.str "joined"]),("PLACE",.str "place"),("MOST_BRACKETS",.int 8),("MOST_TABLE_FORMS",.int 4),("TIED_SPOTS",.tup [.int 0,.int 1,.int 2,.int 3]),("TIES",.tup [.tup [.int 0,.int 1],.tup [.int 0,.int 2],.tup [.int 0,.int 3],.tup [.int 1,.int 2],.tup [.int 1,.int 3],.tup [.int 2,.int 3]])]
noncomputable def xs:List (ao×List D):=[]
noncomputable def qs:List ao:=["Pieces"]
noncomputable abbrev G:ao->Option D:=Gof gs ae xs qs
end K12
end
section
open PySem PySem.Spec PyProof.Rows L2
local macro_rules | `(tactic| walk_at "vis")=>`(tactic| first | exact Or.inl rfl | exact Or.inr (Or.inl rfl) | exact Or.inr (Or.inr rfl))
local macro_rules | `(tactic| walk_at "loc")=>`(tactic| first | exact Or.inl rfl | exact Or.inr rfl)
local macro_rules | `(tactic| walk_at "cap")=>`(tactic| repeat (first | exact rfl | refine ⟨_,_,rfl,by rfl,by rfl,by rfl,by rfl,?_⟩))
local macro_rules | `(tactic| walk_at "ts")=>`(tactic| first
 |exact Tr.int|exact Tr.bl|exact Tr.str
 |exact Tr.var (by rfl) (by walk_at "vis") (by decide) (by decide)|exact Tr.glob (by rfl) (by decide) (by decide)
 |refine Tr.bin ?_ ?_|refine Tr.cmp (by rfl) ?_ ?_|refine Tr.bcmp (by rfl) ?_ ?_|refine Tr.isN ?_|refine Tr.bisN ?_|refine Tr.isNN ?_|refine Tr.bisNN ?_
 |refine Tr.and ?_ ?_|refine Tr.or ?_ ?_|refine Tr.one ?_|refine Tr.not ?_
 |refine Tr.wand ?_ ?_|refine Tr.wor ?_ ?_|refine Tr.wand1 ?_|refine Tr.wor1 ?_|refine Tr.bw ?_|refine Tr.bnot ?_
 |refine Tr.ite ?_ ?_ ?_|exact Tr.nil|refine Tr.cons (by rfl) ?_ ?_|refine Tr.tup ?_|refine Tr.lst ?_
 |refine Tr.ix (by intro _ _;rfl) ?_ ?_|exact Tr.oN|refine Tr.oS ?_|refine Tr.sl ?_ ?_ ?_
 |refine Tr.call (by rfl) (by decide) (by rfl) (by rfl) ?_
 |refine Tr.dzip (by rfl) (by rfl) (by rfl) (by rfl) (by rfl) (by rfl) ?_ ?_|refine Tr.dix (by intro _ _;rfl) ?_ ?_|refine Tr.lset (by rfl) (by rfl) (by rfl) (by rfl) (by rfl) ?_|refine Tr.len (by rfl) ?_|refine Tr.all (by rfl) (by rfl) ?_|refine Tr.tuple (by rfl) ?_|refine Tr.list (by rfl) ?_|refine Tr.min (by rfl) (by rfl) ?_
 |refine Tr.sum (by rfl) (by rfl) ?_|refine Tr.intc (by rfl) ?_|refine Tr.join (by rfl) (by rfl) (by rfl) (by rfl) ?_|refine Tr.lset (by rfl) (by rfl) (by rfl) (by rfl) (by rfl) ?_|refine Tr.enum (by rfl) (by rfl) ?_
 |refine Tr.isi1 (by decide) (by decide +kernel) (by rfl) (by rfl) (by decide) (by decide) (by rfl) ?_
 |refine Tr.isi2 (by decide) (by decide) (by decide +kernel) (by decide +kernel) (by rfl) (by rfl) (by rfl) (by decide) (by decide) (by decide) (by decide) (by rfl) ?_
 |exact Tr.c0|refine Tr.c1 ?_
 |refine Tr.comp1 (by rfl) (by rfl) (by rfl) (by rfl) (by rfl) (by intro _;rfl) ?_ ?_ ?_
 |refine Tr.sti (by rfl) (by rfl) ?_
 |refine Tr.seq ?_|refine Tr.range (by rfl) ?_|refine Tr.zip (by rfl) (by rfl) (by rfl) ?_ ?_
 |exact Tr.p0|refine Tr.pC ?_|refine Tr.pR ?_ ?_|refine Tr.pF ?_ ?_|refine Tr.fst ?_
 |refine Tr.bval (by intro _;rfl) ?_
 |refine Ts.unp3 (by rfl) (by rfl) (by rfl) (by rfl) (by walk_at "loc") (by walk_at "loc") (by walk_at "loc") (by exact aV rfl) (by exact aV rfl) (by exact aV rfl) (by rfl) (by rfl) ?_
 |refine' Ts.lend (by rfl) (by decide) (by rfl) (by rfl) (by walk_at "loc") (by walk_at "loc") (by exact aV rfl) (by exact aV rfl) (by intro _;rfl) (by rfl) (by rfl) (by rfl) (by walk_at "vis") (by decide) (by decide) (by rfl) (by rfl) ?_ ?_|refine' Ts.lent (by rfl) (by walk_at "loc") (by walk_at "vis") (by exact aV rfl) (by decide) (by decide) (by rfl) (by rfl) (by rfl) ?_ ?_ ?_ ?_ ?_|refine TMt.set (by rfl) (by walk_at "loc") (by rfl) (by exact aV rfl) ?_ ?_|refine TMt.ife ?_ ?_ ?_ ?_|exact TMt.nil|exact TMs.nil|exact TMs.fail|refine TMs.set (by rfl) (by walk_at "loc") (by rfl) (by exact aV rfl) ?_ ?_|refine TMs.ife ?_ ?_ ?_ ?_|exact⟨rfl,rfl,rfl,λ_ _=>rfl⟩
 |exact Ts.nil|refine Ts.fgt ?_|refine Ts.keep ?_|refine Ts.cons ?_ ?_|exact Ts.pass|exact Ts.doc|exact Ts.fail
 |exact Ts.mov (by rfl) (by rfl) (by walk_at "loc") (by exact aV rfl) (by walk_at "vis") (by decide) (by decide)
 |refine Ts.setC1 (by rfl) (by rfl) (by walk_at "loc") (by exact aV rfl) (by rfl) (by rfl) (by rfl) (by rfl) (by rfl) (by intro _;rfl) ?_ ?_ ?_
 |refine Ts.set (by rfl) (by walk_at "loc") (by rfl) (by exact aV rfl) ?_
 |exact Ts.retV (by rfl) (by walk_at "vis") (by decide) (by decide)|refine Ts.ret ?_
 |refine Ts.ife ?_ ?_ ?_|refine Ts.for1 (by rfl) (by rfl) (by walk_at "loc") (by exact aV rfl) (by intro _;rfl) ?_ ?_
 |refine Ts.for2 (by rfl) (by decide) (by rfl) (by rfl) (by walk_at "loc") (by walk_at "loc") (by exact aV rfl) (by exact aV rfl) (by intro _;rfl) ?_ ?_
 |refine Ts.whl ?_ ?_
 |refine Ts.app (by rfl) (by walk_at "vis") (by decide) (by decide) (by rfl) (by rfl) (by rfl) (by rfl) ?_
 |refine Ts.ext (by rfl) (by walk_at "vis") (by decide) (by decide) (by rfl) (by rfl) (by rfl) (by rfl) ?_
 |exact Ts.clr (by rfl) (by walk_at "vis") (by decide) (by decide) (by rfl) (by rfl)
 |refine Ts.raise (by rfl) (by rfl) (by decide) (by rfl) ?_
 |refine Ts.expr (by rfl) ?_
 |refine Ts.newP (by rfl) (by rfl) (by rfl) (by rfl) (by walk_at "loc") (by rfl) (by exact aV rfl) ?_ ?_
 |exact MP.nop|refine MP.keep (by decide) ?_
 |refine MP.setC (by decide) (by rfl) (by rfl) (by walk_at "loc") (by exact aV rfl) (by rfl) (by rfl) (by rfl) (by rfl) (by rfl) (by intro _;rfl) ?_ ?_ ?_ ?_
 |refine MP.set (by decide) (by rfl) (by walk_at "loc") (by rfl) (by exact aV rfl) ?_ ?_
 |refine MP.ret ?_|refine MP.ifRet ?_ ?_ ?_
 |refine MP.ifAll (by rfl) (by rfl) (by decide) (by rfl) (by rfl) (by walk_at "vis") (by decide) (by decide) (by exact⟨_,rfl⟩) (by intro _;rfl) ?_ ?_
 |refine MP.ifRai (by rfl) (by rfl) (by decide) (by rfl) ?_ ?_ ?_
 |refine MP.takeIf (by decide) (by rfl) (by walk_at "vis") (by decide) (by decide) (by exact⟨_,rfl⟩) (by rfl) (by walk_at "loc") (by rfl) (by exact aV rfl) ?_ ?_ ?_
 |refine MP.take (by decide) (by rfl) (by walk_at "vis") (by decide) (by decide) (by exact⟨_,rfl⟩) (by rfl) (by walk_at "loc") (by rfl) (by exact aV rfl) ?_
 |refine MP.takeE (by rfl) (by walk_at "vis") (by decide) (by decide) (by exact⟨_,rfl⟩) (by rfl) ?_
 |refine MP.callS (by decide) (by exact⟨_,_,_,_,rfl,by rfl,by walk_at "vis",by decide,by decide,by rfl,by decide,by rfl,by rfl⟩) (by rfl) (by walk_at "loc") (by rfl) (by exact aV rfl) ?_ ?_
 |refine MP.ifCal (by exact⟨_,_,_,_,rfl,by rfl,by walk_at "vis",by decide,by decide,by rfl,by decide,by rfl,by rfl⟩) ?_ ?_ ?_
 |refine MP.appC (by decide) (by exact⟨_,_,_,_,rfl,by rfl,by walk_at "vis",by decide,by decide,by rfl,by decide,by rfl,by rfl⟩) (by rfl) (by walk_at "vis") (by decide) (by decide) (by rfl) (by rfl) (by rfl) (by rfl) (by rfl) ?_ ?_
 |refine MP.whlA (by rfl) (by walk_at "vis") (by decide) (by decide) (by exact⟨_,rfl⟩) ?_ ?_
 |intro C s H fp pn
 |intro pn xe)
local macro_rules | `(tactic| walk_at "bnd")=>`(tactic| (intro _ _ _ _ _ _ us hl; first | (obtain ⟨_,e⟩:=us1 hl; subst e; rfl) | (obtain ⟨_,_,e⟩:=us2 hl; subst e; rfl) | (obtain ⟨_,_,_,e⟩:=us3 hl; subst e; rfl) | (obtain ⟨_,_,_,_,e⟩:=us4 hl; subst e; rfl)))
local macro_rules | `(tactic| walk_at "sc")=>`(tactic| exact ⟨rfl,rfl,rfl,by decide +kernel,rfl,by decide +kernel,by decide +kernel⟩)
local macro_rules | `(tactic| walk_at "lk")=>`(tactic| first | walk_at "sc" | walk_at "bnd" | decide)
namespace K12
section
variable{P:ay}{w:aD}{K:k7g}{mg:k7j}{base:aH}
theorem pcS:PcS P w K mg base (inClass (top 12) 0) (inClass (top 12) 1) (inClass (top 12) 2) (inClass (top 12) 3) :=
 ⟨by walk_at "sc",by walk_at "sc",by walk_at "sc",by walk_at "sc",⟨_,_,_,_,_,_,_,_,_,_,_,_,_,rfl,rfl⟩,⟨_,_,_,_,_,_,_,_,_,_,_,_,_,_,_,_,_,rfl⟩,⟨_,_,_,_,_,_,_,_,_,_,_,_,_,_,_,rfl,λf cdv A outer s H E=>⟨_,rfl⟩⟩,⟨_,_,_,_,_,_,_,_,rfl⟩,⟨by walk_at "vis",by walk_at "vis",by walk_at "vis",by walk_at "vis",by walk_at "vis"⟩,⟨rfl,rfl,rfl⟩,(by intro _ _ _ _ _ _ us hl;obtain⟨_,_,e⟩:=us2 hl;subst e;rfl),(by intro _ _ _ _ _ _ us hl;obtain⟨_,e⟩:=us1 hl;subst e;rfl),(by intro _ _ _ _ _ _ us hl;obtain⟨_,e⟩:=us1 hl;subst e;rfl),(by intro _ _ _ _ _ _ us hl;obtain⟨_,e⟩:=us1 hl;subst e;rfl)⟩
theorem j06:TrT P w K mg base "is_word" ["piece"] (top 10) Vu:=by
 intro f cdv A outer s H E xe;unfold Vu
 repeat' (walk_at "ts")
theorem Nm:TrT P w K mg base "is_made_of" ["piece","signs","sign"] (top 11) Q3:=by
 intro f cdv A outer s H E xe;unfold Q3
 repeat' (walk_at "ts")
theorem j05:TrT P w K mg base "rows_of" ["many"] (top 17) Vt:=by
 intro f cdv A outer s H E xe;unfold Vt
 repeat' (walk_at "ts")
theorem Nj:TrT P w K mg base "row_number" ["row"] (top 18) Vg:=by
 intro f cdv A outer s H E xe;unfold Vg
 repeat' (walk_at "ts")
theorem Ua:TrT P w K mg base "refuse_wrong_size" ["many"] (top 19) J3:=by
 intro f cdv A outer s H E xe;unfold J3
 repeat' (walk_at "ts")
theorem Bd:TrT P w K mg base "all_choices" ["figures_by_spot","chosen","figures","longer","ahead","figure"] (top 20) J5:=by
 intro f cdv A outer s H E xe;unfold J5
 repeat' (walk_at "ts")
theorem Cz:TrT P w K mg base "number_of" ["figures","base","number","figure"] (top 21) Yn:=by
 intro f cdv A outer s H E xe;unfold Yn
 repeat' (walk_at "ts")
theorem Yq:TrT P w K mg base "refuse_wrong_places" ["places","ahead","place"] (top 23) zu:=by
 intro f cdv A outer s H E xe;unfold zu
 repeat' (walk_at "ts")
theorem Mu:TrT P w K mg base "count_of_rows" ["many"] (top 24) Z1:=by
 intro f cdv A outer s H E xe;unfold Z1
 repeat' (walk_at "ts")
theorem Mt:TrT P w K mg base "question_read" ["text","places","form","answers","row"] (top 34) Jw:=by
 intro f cdv A outer s H E xe;unfold Jw
 repeat' (walk_at "ts")
theorem j07:TrT P w K mg base "form_of" ["text","pieces","form"] (top 35) Vv:=by
 intro f cdv A outer s H E xe;unfold Vv
 repeat' (walk_at "ts")
noncomputable def Ww:Px:=(.take 2 (.ifCal (.cmp .eq (.var 2) (.lit (.str "("))) "bracketed_taken" (.cons (.bin .add (.var 1) (.lit (.int 1))) .nil) (.ifRai (.not (.call "is_word" (.cons (.var 2) .nil))) "NoText" (.fst (.cons (.rpr (.var 2)) (.cons (.lit (.str " stands where a form is wanted")) .nil))) (.ret (.tup (.cons (.glob "PLACE") (.cons (.var 2) (.cons (.tup .nil) .nil))))))))
theorem Np:TrM P w K mg base "form_taken" ["pieces","brackets","piece"] (top 36) Ww:=by
 intro f cdv A outer s H E xe;unfold Ww
 repeat' (walk_at "ts")
noncomputable def V7:Px:=(.ifRai (.cmp .gt (.var 1) (.glob "MOST_BRACKETS")) "NoText" (.fst (.cons (.lit (.str "more than ")) (.cons (.glob "MOST_BRACKETS") (.cons (.lit (.str " brackets stand unclosed at once")) .nil)))) (.take 2 (.ifRai (.cmp .notin (.var 2) (.glob "KINDS")) "NoText" (.fst (.cons (.rpr (.var 2)) (.cons (.lit (.str " is no kind")) .nil))) (.takeIf 3 (.call "wants_own" (.cons (.var 2) .nil)) (.lit (.str "")) (.set 4 (.lst .nil) (.whlA ")" (.appC 4 "form_taken" (.cons (.var 1) .nil) .nop) (.takeE (.ifRai (.or (.not (.call "takes_count" (.cons (.var 2) (.cons (.blt .len (.cons (.var 4) .nil)) .nil)))) (.not (.call "takes_own" (.cons (.var 2) (.cons (.var 3) (.cons (.blt .len (.cons (.var 4) .nil)) .nil)))))) "NoText" (.fst (.cons (.rpr (.var 2)) (.cons (.lit (.str " has not what it wants")) .nil))) (.ret (.tup (.cons (.var 2) (.cons (.var 3) (.cons (.blt .tuple (.cons (.var 4) .nil)) .nil)))))))))))))
theorem Wx:TrM P w K mg base "bracketed_taken" ["pieces","brackets","kind","own","forms"] (top 37) V7:=by
 intro f cdv A outer s H E xe;unfold V7
 repeat' (walk_at "ts")
theorem Cw:TrT P w K mg base "wants_own" ["kind"] (top 38) Ym:=by
 intro f cdv A outer s H E xe;unfold Ym
 repeat' (walk_at "ts")
theorem Bc:TrT P w K mg base "takes_count" ["kind","count"] (top 39) Zu:=by
 intro f cdv A outer s H E xe;unfold Zu
 repeat' (walk_at "ts")
theorem Cy:TrT P w K mg base "takes_own" ["kind","own","count"] (top 40) Zh:=by
 intro f cdv A outer s H E xe;unfold Zh
 repeat' (walk_at "ts")
theorem La:TrT P w K mg base "is_number" ["piece"] (top 41) Yo:=by
 intro f cdv A outer s H E xe;unfold Yo
 repeat' (walk_at "ts")
theorem K8:TrT P w K mg base "keeps_to" ["form","places","inner"] (top 42) Qw:=by
 intro f cdv A outer s H E xe;unfold Qw
 repeat' (walk_at "ts")
theorem j04:TrT P w K mg base "said_by" ["form","numbers","said","inner"] (top 43) Zi:=by
 intro f cdv A outer s H E xe;unfold Zi
 repeat' (walk_at "ts")
theorem K7:TrT P w K mg base "says_yes" ["kind","own","said"] (top 44) Q5:=by
 intro f cdv A outer s H E xe;unfold Q5
 repeat' (walk_at "ts")
theorem K9:TrT P w K mg base "has_ring" ["said"] (top 45) U5:=by
 intro f cdv A outer s H E xe;unfold U5
 repeat' (walk_at "ts")
theorem Ub:TrT P w K mg base "count_of_clusters" ["said","marks","tie","number"] (top 46) Jx:=by
 intro f cdv A outer s H E xe;unfold Jx
 repeat' (walk_at "ts")
theorem Nk:TrT P w K mg base "marks_tied" ["marks","one","other","mark"] (top 47) Vh:=by
 intro f cdv A outer s H E xe;unfold Vh
 repeat' (walk_at "ts")
theorem j71:TrT P w K mg base "_law_cell" ["_law_script","_law_k","_law_spare"] (top 49) Y0:=by
 intro f cdv A outer s H E xe;unfold Y0
 repeat' (walk_at "ts")
theorem j3p:TrT P w K mg base "_law_words" ["_law_cell_here","_law_many","_law_letters","_law_long","_law_k","_law_start","_law_size","_law_stem","_law_at"] (top 50) Z2:=by
 intro f cdv A outer s H E xe;unfold Z2
 repeat' (walk_at "ts")
theorem j6z:TrT P w K mg base "_law_same" ["_law_found","_law_due","_law_unlike","_law_k"] (top 51) Zw:=by
 intro f cdv A outer s H E xe;unfold Zw
 repeat' (walk_at "ts")
theorem j3r:TrT P w K mg base "_law_mixed" ["_law_cell_here","_law_k"] (top 52) Wq:=by
 intro f cdv A outer s H E xe;unfold Wq
 repeat' (walk_at "ts")
theorem j70:TrT P w K mg base "_law_form" ["_law_cell_here","_law_deep","_law_must","_law_many","_law_kind","_law_count","_law_chosen","_law_forms","_law_k","_law_less","_law_want"] (top 53) Mq:=by
 intro f cdv A outer s H E xe;unfold Mq
 repeat' (walk_at "ts")
theorem j6x:TrT P w K mg base "_law_text" ["_law_form_here","_law_places","_law_kind","_law_want","_law_forms","_law_pieces","_law_one"] (top 54) Zv:=by
 intro f cdv A outer s H E xe;unfold Zv
 repeat' (walk_at "ts")
theorem j1r:TrT P w K mg base "_law_groups" ["_law_ties","_law_pairs","_law_left","_law_count","_law_met","_law_turn","_law_k","_law_pair","_law_one"] (top 55) Rx:=by
 intro f cdv A outer s H E xe;unfold Rx
 repeat' (walk_at "ts")
theorem j6y:TrT P w K mg base "_law_says" ["_law_form_here","_law_row_here","_law_kind","_law_want","_law_forms","_law_some","_law_one","_law_yeses","_law_at"] (top 56) Up:=by
 intro f cdv A outer s H E xe;unfold Up
 repeat' (walk_at "ts")
theorem jbb:TrT P w K mg base "_law_row" ["_law_many","_law_number","_law_row_here","_law_k"] (top 57) Uq:=by
 intro f cdv A outer s H E xe;unfold Uq
 repeat' (walk_at "ts")
theorem j3q:TrT P w K mg base "_law_right" ["_law_form_here","_law_places","_law_many","_law_answers","_law_number","_law_handed","_law_found"] (top 58) Wo:=by
 intro f cdv A outer s H E xe;unfold Wo
 repeat' (walk_at "ts")
theorem ja1:TrT P w K mg base "law" ["_law_script","_law_many","_law_places","_law_cell_here","_law_forms","_law_form_here"] (top 59) j3b:=by
 intro f cdv A outer s H E xe;unfold j3b
 repeat' (walk_at "ts")
end
set_option maxHeartbeats 0 in
theorem head {l:dD} {w:aD} {K:k7g} {h:aH} {mg:k7j} {fa:ak} (X:K.In h) (Gn:h.Ns aw mg) (hfa:mg "law" = aa (.ref fa))
  (h0:Lf K "is_word" (top 10))
  (h1:Lf K "is_made_of" (top 11))
  (h2:Lf K "rows_of" (top 17))
  (h3:Lf K "row_number" (top 18))
  (h4:Lf K "refuse_wrong_size" (top 19))
  (h5:Lf K "all_choices" (top 20))
  (h6:Lf K "number_of" (top 21))
  (h7:Lf K "refuse_wrong_places" (top 23))
  (h8:Lf K "count_of_rows" (top 24))
  (h9:Lf K "question_read" (top 34))
  (h10:Lf K "form_of" (top 35))
  (h11:Lf K "form_taken" (top 36))
  (h12:Lf K "bracketed_taken" (top 37))
  (h13:Lf K "wants_own" (top 38))
  (h14:Lf K "takes_count" (top 39))
  (h15:Lf K "takes_own" (top 40))
  (h16:Lf K "is_number" (top 41))
  (h17:Lf K "keeps_to" (top 42))
  (h18:Lf K "said_by" (top 43))
  (h19:Lf K "says_yes" (top 44))
  (h20:Lf K "has_ring" (top 45))
  (h21:Lf K "count_of_clusters" (top 46))
  (h22:Lf K "marks_tied" (top 47))
  (h23:Lf K "_law_cell" (top 49))
  (h24:Lf K "_law_words" (top 50))
  (h25:Lf K "_law_same" (top 51))
  (h26:Lf K "_law_mixed" (top 52))
  (h27:Lf K "_law_form" (top 53))
  (h28:Lf K "_law_text" (top 54))
  (h29:Lf K "_law_groups" (top 55))
  (h30:Lf K "_law_says" (top 56))
  (h31:Lf K "_law_row" (top 57))
  (h32:Lf K "_law_right" (top 58))
  (h33:Lf K "law" (top 59))
  (bz:bOk K=af) {ts:List ak} (tz:tOk K ts=af)
  {gt0:dz} {gt1:dz} {gt2:dz} {gt3:dz} {gt5:dz} {gt6:dz} {ga4:ak} {ga4n:Nat} {ga4s:Array (Option aj)} {gt8:dz} {gt9:dz} {gt10:dz} {gt11:dz} {gt12:dz} {gt13:dz} {gt14:dz} {gt15:dz} {gt16:dz} {ga7:ak} {ga7n:Nat} {ga7s:Array (Option aj)} {gt18:dz} {gt19:dz} {ga17:ak} {ga17n:Nat} {ga17s:Array (Option aj)} {gt21:dz} {gt22:dz} {ga20:ak} {ga20n:Nat} {ga20s:Array (Option aj)} {gt23:dz} {gt24:dz} {gt25:dz} {gt27:dz} {gt28:dz} {gt29:dz} {gt30:dz} {ga26:ak} {ga26n:Nat} {ga26s:Array (Option aj)} {gt33:dz} {gt34:dz} {ga32:ak} {ga32n:Nat} {ga32s:Array (Option aj)} {gt36:dz} {gt37:dz} {ga35:ak} {ga35n:Nat} {ga35s:Array (Option aj)} {gt39:dz} {gt40:dz} {ga38:ak} {ga38n:Nat} {ga38s:Array (Option aj)} {gt42:dz} {gt43:dz} {ga41:ak} {ga41n:Nat} {ga41s:Array (Option aj)} {gt45:dz} {gt46:dz} {ga44:ak} {ga44n:Nat} {ga44s:Array (Option aj)} {gt48:dz} {gt49:dz} {ga47:ak} {ga47n:Nat} {ga47s:Array (Option aj)} {ga31:ak} {ga31n:Nat} {ga31s:Array (Option aj)}
  (gn0:ba K aw "LETTERS" = aa (aa (.str "abcdefghijklmnopqrstuvwxyz" gt0))) (gn1:ba K aw "LONGEST_WORD" = aa (aa (.int 8 gt1))) (gn2:ba K aw "FEWEST_PLACES" = aa (aa (.int 1 gt2))) (gn3:ba K aw "MOST_PLACES" = aa (aa (.int 6 gt3))) (ga4l:K.lookup ga4=aa ⟨.type "tuple",ah,.seq #[.int 0 gt5,.int 1 gt6] ga4n,ga4s⟩) (gn4:ba K aw "ANSWERS" = aa (aa (.ref ga4))) (ga7l:K.lookup ga7=aa ⟨.type "tuple",ah,.seq #[.str "not" gt8,.str "all" gt9,.str "any" gt10,.str "odd" gt11,.str "least" gt12,.str "just" gt13,.str "table" gt14,.str "ring" gt15,.str "joined" gt16] ga7n,ga7s⟩) (gn5:ba K aw "KINDS" = aa (aa (.ref ga7))) (ga17l:K.lookup ga17=aa ⟨.type "tuple",ah,.seq #[.str "least" gt18,.str "just" gt19] ga17n,ga17s⟩) (gn6:ba K aw "COUNTING_KINDS" = aa (aa (.ref ga17))) (ga20l:K.lookup ga20=aa ⟨.type "tuple",ah,.seq #[.str "ring" gt21,.str "joined" gt22] ga20n,ga20s⟩) (gn7:ba K aw "TYING_KINDS" = aa (aa (.ref ga20))) (gn8:ba K aw "PLACE" = aa (aa (.str "place" gt23))) (gn9:ba K aw "MOST_BRACKETS" = aa (aa (.int 8 gt24))) (gn10:ba K aw "MOST_TABLE_FORMS" = aa (aa (.int 4 gt25))) (ga26l:K.lookup ga26=aa ⟨.type "tuple",ah,.seq #[.int 0 gt27,.int 1 gt28,.int 2 gt29,.int 3 gt30] ga26n,ga26s⟩) (gn11:ba K aw "TIED_SPOTS" = aa (aa (.ref ga26))) (ga32l:K.lookup ga32=aa ⟨.type "tuple",ah,.seq #[.int 0 gt33,.int 1 gt34] ga32n,ga32s⟩) (ga35l:K.lookup ga35=aa ⟨.type "tuple",ah,.seq #[.int 0 gt36,.int 2 gt37] ga35n,ga35s⟩) (ga38l:K.lookup ga38=aa ⟨.type "tuple",ah,.seq #[.int 0 gt39,.int 3 gt40] ga38n,ga38s⟩) (ga41l:K.lookup ga41=aa ⟨.type "tuple",ah,.seq #[.int 1 gt42,.int 2 gt43] ga41n,ga41s⟩) (ga44l:K.lookup ga44=aa ⟨.type "tuple",ah,.seq #[.int 1 gt45,.int 3 gt46] ga44n,ga44s⟩) (ga47l:K.lookup ga47=aa ⟨.type "tuple",ah,.seq #[.int 2 gt48,.int 3 gt49] ga47n,ga47s⟩) (ga31l:K.lookup ga31=aa ⟨.type "tuple",ah,.seq #[.ref ga32,.ref ga35,.ref ga38,.ref ga41,.ref ga44,.ref ga47] ga31n,ga31s⟩) (gn12:ba K aw "TIES" = aa (aa (.ref ga31)))
  (exa:Mi K=af)
  {C:ak} (hpc:PcH K C (inClass (top 12) 0) (inClass (top 12) 1) (inClass (top 12) 2) (inClass (top 12) 3))
  {fu n:Nat} (hlaw:∀ns:List Int,ns.length<=63->evP fu G T (n+1) "law" [.lst (ns.map D.int)]=.val (.bl af)) :
  ∃fd:aL,(∀(s:aq)(v:aj),fV s fd ⟨[v],[]⟩ [("_law_script",v)])/\∀base:aH,K.In base->base.Ns aw mg->FnOk l.prog w K mg base CX0 (lv (n+1)) fa fd ["_law_script"] (Ln K):=by
 have hL:=h33;obtain⟨f,oc,od,kV,dc,pm,an,cd,ct,sl,a,lk,c,k⟩:=hL;have e:=hfa.symm.trans (Xz X Gn a);cases e;refine⟨PySem.W.fnOf "law" "law" (za (top 59)) (jg (top 59)) (j0 (top 59)) .none kV dc pm an cd ct,λs v=>.of_eq rfl,λbase hKb hNb=>?_⟩;have pcm:∃C,mg "Pieces" = aa (.ref C)/\Ox l.prog w K mg base C:=jjp pcS hpc X Gn (jaq X Gn bz "len" (by decide));have hT:∀x F,T x=aa F->LkF l.prog w K mg base x F:=λx F hx=>by
  have all:∀p∈tbl,LkF l.prog w K mg base p.1 p.2:=by
   intro p hp;simp only[tbl,xr,dJ,or_false]at hp;rcases hp with rfl|rfl|rfl|rfl|rfl|rfl|rfl|rfl|rfl|rfl|rfl|rfl|rfl|rfl|rfl|rfl|rfl|rfl|rfl|rfl|rfl|rfl|rfl|rfl|rfl|rfl|rfl|rfl|rfl|rfl|rfl|rfl|rfl|rfl
   .refine lkF (ql h0 X Gn j06 ["piece"] ?_ rfl rfl ?_ ?_) rfl ?_ ?_<;>walk_at "lk"
   .refine lkF (ql h1 X Gn Nm ["piece","signs"] ?_ rfl rfl ?_ ?_) rfl ?_ ?_<;>walk_at "lk"
   .refine lkF (ql h2 X Gn j05 ["many"] ?_ rfl rfl ?_ ?_) rfl ?_ ?_<;>walk_at "lk"
   .refine lkF (ql h3 X Gn Nj ["row"] ?_ rfl rfl ?_ ?_) rfl ?_ ?_<;>walk_at "lk"
   .refine lkF (ql h4 X Gn Ua ["many"] ?_ rfl rfl ?_ ?_) rfl ?_ ?_<;>walk_at "lk"
   .refine lkF (ql h5 X Gn Bd ["figures_by_spot"] ?_ rfl rfl ?_ ?_) rfl ?_ ?_<;>walk_at "lk"
   .refine lkF (ql h6 X Gn Cz ["figures","base"] ?_ rfl rfl ?_ ?_) rfl ?_ ?_<;>walk_at "lk"
   .refine lkF (ql h7 X Gn Yq ["places"] ?_ rfl rfl ?_ ?_) rfl ?_ ?_<;>walk_at "lk"
   .refine lkF (ql h8 X Gn Mu ["many"] ?_ rfl rfl ?_ ?_) rfl ?_ ?_<;>walk_at "lk"
   .refine lkF (ql h9 X Gn Mt ["text","places"] ?_ rfl rfl ?_ ?_) rfl ?_ ?_<;>walk_at "lk"
   .refine lkF (ql h10 X Gn j07 ["text"] ?_ rfl rfl ?_ ?_) rfl ?_ ?_<;>walk_at "lk"
   .exact j4q (g:="form_taken") (by decide +kernel) h11 X Gn Np ["pieces","brackets"] (by walk_at "sc") rfl rfl rfl rfl (by decide) (by decide) (by walk_at "bnd") pcm
   .exact j4q (g:="bracketed_taken") (by decide +kernel) h12 X Gn Wx ["pieces","brackets"] (by walk_at "sc") rfl rfl rfl rfl (by decide) (by decide) (by walk_at "bnd") pcm
   .refine lkF (ql h13 X Gn Cw ["kind"] ?_ rfl rfl ?_ ?_) rfl ?_ ?_<;>walk_at "lk"
   .refine lkF (ql h14 X Gn Bc ["kind","count"] ?_ rfl rfl ?_ ?_) rfl ?_ ?_<;>walk_at "lk"
   .refine lkF (ql h15 X Gn Cy ["kind","own","count"] ?_ rfl rfl ?_ ?_) rfl ?_ ?_<;>walk_at "lk"
   .refine lkF (ql h16 X Gn La ["piece"] ?_ rfl rfl ?_ ?_) rfl ?_ ?_<;>walk_at "lk"
   .refine lkF (ql h17 X Gn K8 ["form","places"] ?_ rfl rfl ?_ ?_) rfl ?_ ?_<;>walk_at "lk"
   .refine lkF (ql h18 X Gn j04 ["form","numbers"] ?_ rfl rfl ?_ ?_) rfl ?_ ?_<;>walk_at "lk"
   .refine lkF (ql h19 X Gn K7 ["kind","own","said"] ?_ rfl rfl ?_ ?_) rfl ?_ ?_<;>walk_at "lk"
   .refine lkF (ql h20 X Gn K9 ["said"] ?_ rfl rfl ?_ ?_) rfl ?_ ?_<;>walk_at "lk"
   .refine lkF (ql h21 X Gn Ub ["said"] ?_ rfl rfl ?_ ?_) rfl ?_ ?_<;>walk_at "lk"
   .refine lkF (ql h22 X Gn Nk ["marks","one","other"] ?_ rfl rfl ?_ ?_) rfl ?_ ?_<;>walk_at "lk"
   .refine lkF (ql h23 X Gn j71 ["_law_script","_law_k"] ?_ rfl rfl ?_ ?_) rfl ?_ ?_<;>walk_at "lk"
   .refine lkF (ql h24 X Gn j3p ["_law_cell_here","_law_many"] ?_ rfl rfl ?_ ?_) rfl ?_ ?_<;>walk_at "lk"
   .refine lkF (ql h25 X Gn j6z ["_law_found","_law_due"] ?_ rfl rfl ?_ ?_) rfl ?_ ?_<;>walk_at "lk"
   .refine lkF (ql h26 X Gn j3r ["_law_cell_here","_law_k"] ?_ rfl rfl ?_ ?_) rfl ?_ ?_<;>walk_at "lk"
   .refine lkF (ql h27 X Gn j70 ["_law_cell_here","_law_deep","_law_must","_law_many"] ?_ rfl rfl ?_ ?_) rfl ?_ ?_<;>walk_at "lk"
   .refine lkF (ql h28 X Gn j6x ["_law_form_here","_law_places"] ?_ rfl rfl ?_ ?_) rfl ?_ ?_<;>walk_at "lk"
   .refine lkF (ql h29 X Gn j1r ["_law_ties"] ?_ rfl rfl ?_ ?_) rfl ?_ ?_<;>walk_at "lk"
   .refine lkF (ql h30 X Gn j6y ["_law_form_here","_law_row_here"] ?_ rfl rfl ?_ ?_) rfl ?_ ?_<;>walk_at "lk"
   .refine lkF (ql h31 X Gn jbb ["_law_many","_law_number"] ?_ rfl rfl ?_ ?_) rfl ?_ ?_<;>walk_at "lk"
   .refine lkF (ql h32 X Gn j3q ["_law_form_here","_law_places"] ?_ rfl rfl ?_ ?_) rfl ?_ ?_<;>walk_at "lk"
   .refine lkF (ql h33 X Gn ja1 ["_law_script"] ?_ rfl rfl ?_ ?_) rfl ?_ ?_<;>walk_at "lk"
  exact all (x,F) (lookup_mem hx)
 have bt:=jaq X Gn bz;have gl:∀x d,gs.lookup x=aa d->∃u v,mg x=aa u/\RelV v u/\∀H,Enc K H d v:=by
  intro x d hx;have hm:=lookup_mem hx;simp only[gs,xr,dJ,or_false,Prod.mk.injEq]at hm;rcases hm with ⟨e1,e2⟩|⟨e1,e2⟩|⟨e1,e2⟩|⟨e1,e2⟩|⟨e1,e2⟩|⟨e1,e2⟩|⟨e1,e2⟩|⟨e1,e2⟩|⟨e1,e2⟩|⟨e1,e2⟩|⟨e1,e2⟩|⟨e1,e2⟩|⟨e1,e2⟩
  .subst e1 e2;exact⟨.str "abcdefghijklmnopqrstuvwxyz" gt0,.str "abcdefghijklmnopqrstuvwxyz",Xz X Gn gn0,⟨_,rfl⟩,λ_=>rfl⟩
  .subst e1 e2;exact⟨.int 8 gt1,.int 8,Xz X Gn gn1,⟨_,rfl⟩,λ_=>rfl⟩
  .subst e1 e2;exact⟨.int 1 gt2,.int 1,Xz X Gn gn2,⟨_,rfl⟩,λ_=>rfl⟩
  .subst e1 e2;exact⟨.int 6 gt3,.int 6,Xz X Gn gn3,⟨_,rfl⟩,λ_=>rfl⟩
  .subst e1 e2;exact⟨.ref ga4,.ref ga4,Xz X Gn gn4,rfl,λH=>⟨ga4,[.int 0,.int 1],rfl,.inr ⟨_,_,_,ga4l,rfl,rfl,rfl,(by show 2<=au;decide),(.cons ⟨_,rfl⟩ (.cons ⟨_,rfl⟩ .nil))⟩,⟨_,_,rfl,rfl,⟨_,_,rfl,rfl,rfl⟩⟩⟩⟩
  .subst e1 e2;exact⟨.ref ga7,.ref ga7,Xz X Gn gn5,rfl,λH=>⟨ga7,[.str "not",.str "all",.str "any",.str "odd",.str "least",.str "just",.str "table",.str "ring",.str "joined"],rfl,.inr ⟨_,_,_,ga7l,rfl,rfl,rfl,(by show 9<=au;decide),(.cons ⟨_,rfl⟩ (.cons ⟨_,rfl⟩ (.cons ⟨_,rfl⟩ (.cons ⟨_,rfl⟩ (.cons ⟨_,rfl⟩ (.cons ⟨_,rfl⟩ (.cons ⟨_,rfl⟩ (.cons ⟨_,rfl⟩ (.cons ⟨_,rfl⟩ .nil)))))))))⟩,⟨_,_,rfl,rfl,⟨_,_,rfl,rfl,⟨_,_,rfl,rfl,⟨_,_,rfl,rfl,⟨_,_,rfl,rfl,⟨_,_,rfl,rfl,⟨_,_,rfl,rfl,⟨_,_,rfl,rfl,⟨_,_,rfl,rfl,rfl⟩⟩⟩⟩⟩⟩⟩⟩⟩⟩⟩
  .subst e1 e2;exact⟨.ref ga17,.ref ga17,Xz X Gn gn6,rfl,λH=>⟨ga17,[.str "least",.str "just"],rfl,.inr ⟨_,_,_,ga17l,rfl,rfl,rfl,(by show 2<=au;decide),(.cons ⟨_,rfl⟩ (.cons ⟨_,rfl⟩ .nil))⟩,⟨_,_,rfl,rfl,⟨_,_,rfl,rfl,rfl⟩⟩⟩⟩
  .subst e1 e2;exact⟨.ref ga20,.ref ga20,Xz X Gn gn7,rfl,λH=>⟨ga20,[.str "ring",.str "joined"],rfl,.inr ⟨_,_,_,ga20l,rfl,rfl,rfl,(by show 2<=au;decide),(.cons ⟨_,rfl⟩ (.cons ⟨_,rfl⟩ .nil))⟩,⟨_,_,rfl,rfl,⟨_,_,rfl,rfl,rfl⟩⟩⟩⟩
  .subst e1 e2;exact⟨.str "place" gt23,.str "place",Xz X Gn gn8,⟨_,rfl⟩,λ_=>rfl⟩
  .subst e1 e2;exact⟨.int 8 gt24,.int 8,Xz X Gn gn9,⟨_,rfl⟩,λ_=>rfl⟩
  .subst e1 e2;exact⟨.int 4 gt25,.int 4,Xz X Gn gn10,⟨_,rfl⟩,λ_=>rfl⟩
  .subst e1 e2;exact⟨.ref ga26,.ref ga26,Xz X Gn gn11,rfl,λH=>⟨ga26,[.int 0,.int 1,.int 2,.int 3],rfl,.inr ⟨_,_,_,ga26l,rfl,rfl,rfl,(by show 4<=au;decide),(.cons ⟨_,rfl⟩ (.cons ⟨_,rfl⟩ (.cons ⟨_,rfl⟩ (.cons ⟨_,rfl⟩ .nil))))⟩,⟨_,_,rfl,rfl,⟨_,_,rfl,rfl,⟨_,_,rfl,rfl,⟨_,_,rfl,rfl,rfl⟩⟩⟩⟩⟩⟩
  .subst e1 e2;exact⟨.ref ga31,.ref ga31,Xz X Gn gn12,rfl,λH=>⟨ga31,[.ref ga32,.ref ga35,.ref ga38,.ref ga41,.ref ga44,.ref ga47],rfl,.inr ⟨_,_,_,ga31l,rfl,rfl,rfl,(by show 6<=au;decide),(.cons rfl (.cons rfl (.cons rfl (.cons rfl (.cons rfl (.cons rfl .nil))))))⟩,⟨_,_,rfl,(λH=>⟨ga32,[.int 0,.int 1],rfl,.inr ⟨_,_,_,ga32l,rfl,rfl,rfl,(by show 2<=au;decide),(.cons ⟨_,rfl⟩ (.cons ⟨_,rfl⟩ .nil))⟩,⟨_,_,rfl,rfl,⟨_,_,rfl,rfl,rfl⟩⟩⟩) H,⟨_,_,rfl,(λH=>⟨ga35,[.int 0,.int 2],rfl,.inr ⟨_,_,_,ga35l,rfl,rfl,rfl,(by show 2<=au;decide),(.cons ⟨_,rfl⟩ (.cons ⟨_,rfl⟩ .nil))⟩,⟨_,_,rfl,rfl,⟨_,_,rfl,rfl,rfl⟩⟩⟩) H,⟨_,_,rfl,(λH=>⟨ga38,[.int 0,.int 3],rfl,.inr ⟨_,_,_,ga38l,rfl,rfl,rfl,(by show 2<=au;decide),(.cons ⟨_,rfl⟩ (.cons ⟨_,rfl⟩ .nil))⟩,⟨_,_,rfl,rfl,⟨_,_,rfl,rfl,rfl⟩⟩⟩) H,⟨_,_,rfl,(λH=>⟨ga41,[.int 1,.int 2],rfl,.inr ⟨_,_,_,ga41l,rfl,rfl,rfl,(by show 2<=au;decide),(.cons ⟨_,rfl⟩ (.cons ⟨_,rfl⟩ .nil))⟩,⟨_,_,rfl,rfl,⟨_,_,rfl,rfl,rfl⟩⟩⟩) H,⟨_,_,rfl,(λH=>⟨ga44,[.int 1,.int 3],rfl,.inr ⟨_,_,_,ga44l,rfl,rfl,rfl,(by show 2<=au;decide),(.cons ⟨_,rfl⟩ (.cons ⟨_,rfl⟩ .nil))⟩,⟨_,_,rfl,rfl,⟨_,_,rfl,rfl,rfl⟩⟩⟩) H,⟨_,_,rfl,(λH=>⟨ga47,[.int 2,.int 3],rfl,.inr ⟨_,_,_,ga47l,rfl,rfl,rfl,(by show 2<=au;decide),(.cons ⟨_,rfl⟩ (.cons ⟨_,rfl⟩ .nil))⟩,⟨_,_,rfl,rfl,⟨_,_,rfl,rfl,rfl⟩⟩⟩) H,rfl⟩⟩⟩⟩⟩⟩⟩⟩
 have qn:∀f∈qs,∃fa,mg f=aa (.ref fa)/\PySem.W.keepIn K (.ref fa)=af:=by
  intro f hf;simp only[qs,xr,dJ,or_false]at hf;rcases hf with rfl
  .exact jjk hpc X Gn
 have tb:Tb l.prog w K mg base G:=jiu bt gl exa (λp hp=>nomatch hp) (λz=>by cases z) hKb hNb qn (λp hp=>nomatch hp) (jk0 tz X Gn) (pc:=λ_=>pcm);exact jgd hT tb (F:=j2y) (by rfl) rfl hfa (Zb lk c k) _ (by walk_at "sc") rfl rfl (ja1 _) hlaw
end K12
end
open PySem (Str sizeLine argBest)
open L2
namespace K12
open KL KW KV KB
theorem j5m(a:List ao):D.depL (a.map D.str)<=90:=by
 induction a with
 |nil=>simp[D.depL]
 |cons x a ih=>rw[X5,D.depL];simp[D.dep];exact ih
theorem gF:G "FEWEST_PLACES" = aa (.int 1):=by rfl
theorem gM:G "MOST_PLACES" = aa (.int 6):=by rfl
theorem gL:G "LETTERS" = aa (.str "abcdefghijklmnopqrstuvwxyz"):=by rfl
theorem gW8:G "LONGEST_WORD" = aa (.int 8):=by rfl
noncomputable def low(c:Nat):Bool:=decide (97<=c)&&decide (c<=122)
noncomputable def isW(l:List Nat):Bool:=(decide (1<=l.length)&&decide (l.length<=8))&&l.all low
def asc(l:List Nat):Prop:=∀c∈l,c<128
theorem jkf {c:Nat} (h:c<128):inS (ch1 c) "abcdefghijklmnopqrstuvwxyz" = low c:=by
 have key:∀i:Fin 128,inS (ch1 i.val) "abcdefghijklmnopqrstuvwxyz" = low i.val:=by decide +kernel
 exact key ⟨c,h⟩
theorem j6g{l:List Nat}(h:asc l):ascii (sL l)=af:=by unfold ascii sL;rw[Array.all_eq_true'];intro c hc;simpa using h c (by simpa using hc)
theorem j61{l:List Nat}:chs (sL l)=l.map λc=>D.str (ch1 c):=by unfold chs;rw[Bj]
theorem j4n {n:Nat} {l:List Nat} (h:asc l) (hl:l.length<=1000):evP 1000 G T (n+1) "is_made_of" [.str (sL l),.str "abcdefghijklmnopqrstuvwxyz"]=.val (.bl (l.all low)):=by
 rw[jr (F:=Jy) (by rfl) rfl];simp only[Jy,Q3,enter];ext;rw[j3z (j6g h),j61,zj (l:=(l.map low).map D.bl) (by rfl) (by rw[km];omega) ?_ (.inl rfl)]
 .ext;rw[gB];rfl
 .rw[Xc];refine qt λc hc=>vq (by ext) ?_;ext;rw[jkf (h c hc)];rfl
theorem Wy {n:Nat} {l:List Nat} (h:asc l) (hl:l.length<=1000):evP 1000 G T (n+2) "is_word" [.str (sL l)]=.val (.bl (isW l)):=by
 rw[jr (F:=Wc) (by rfl) rfl];simp only[Wc,Vu,enter];have sl:(sL l).length=l.length:=qw;have sl':(sL l).length<=1000000:=by omega
 by_cases h1:1<=l.length
 .by_cases h2:l.length<=8
  .ext;simp only[gW8];ext;simp only[gL];ext;rw[j4n h hl];ext;simp[isW,h1,h2]
  .ext;simp only[gW8];ext;simp[isW,h1,h2]
 .ext;simp[isW,h1]
noncomputable abbrev tx(l:List Nat):D:=.str (sL l)
theorem jdn(L:List (List Nat)):D.depL (L.map tx)<=90:=by have:=j5m (L.map sL);rw[Xc]at this;exact this
theorem j17{L:List (List Nat)}{l:List Nat}(s:List D->D)(hs:s=D.tup\/s=D.lst):Ja .isin (tx l) (s (L.map tx))=aa (L.contains l):=by
 have e:(L.map tx).any (λe=>deq e (tx l))=L.contains l:=by
  induction L with
  |nil=>rfl
  |cons x L ih =>
   rw[X5,cB,ih,List.contains_cons,Ef];congr 1;by_cases z:x=l
   .subst z;simp
   .have h1:(sL x==sL l)=ae:=by simpa using λq=>z (Ue q)
    have h2:(l==x)=ae:=by simpa using λq=>z q.symm
    rw[h1,h2]
 have d:=jdn L;have d2:(tx l).dep<=90:=by simp[D.dep]
 rcases hs with rfl|rfl
 .show(if D.depL (L.map tx)<=90/\(tx l).dep<=90 then aa ((L.map tx).any λe=>deq e (tx l))else ah)=_;rw[if_pos ⟨d,d2⟩,e]
 .show(if D.depL (L.map tx)<=90/\(tx l).dep<=90 then aa ((L.map tx).any λe=>deq e (tx l))else ah)=_;rw[if_pos ⟨d,d2⟩,e]
theorem jg7(n:Int):lt n=0\/low (lt n)=af:=by
 unfold lt;have h:∀c∈letters,low c=af:=by decide
 rw[xn];cases e:letters[n.toNat]? with
 |none=>exact .inl rfl
 |some c=>exact .inr (h c (Xl e))
theorem Ff{n:Int}(h:0<=n/\n<26):low (lt n)=af:=by
 rcases jg7 n with z|z
 .obtain⟨i,rfl⟩:∃i:Nat,n=(i:Int):=⟨n.toNat,by omega⟩
  have key:∀i:Fin 26,letters.getD i.val 0≠0:=by decide
  exact absurd z (key ⟨i,by omega⟩)
 .exact z
theorem jcj{c:Nat}(h:low c=af):c<128:=by unfold low at h;rw[Xb]at h;have:=of_decide_eq_true h.2;omega
theorem j0k{c:Int}{m k:Nat}:∀x∈wrd c m k,low x=af:=by
 have hl:∀x∈V2 c,low x=af:=λx hx=>by obtain⟨k,_,rfl⟩:=Xd.mp hx;exact Ff nofun
 have hs:∀x∈Z9 c (szN c),low x=af:=λx hx=>by obtain⟨k,_,rfl⟩:=Xd.mp hx;exact Ff nofun
 intro x hx;unfold wrd at hx;split at hx
 .split at hx
  .exact hl x (cR hx)
  .exact hl x (eJ hx)
 .rcases Xx.mp hx with z|z
  .exact hs x (cR z)
  .rcases xr.mp z with z|z
   .rw[z];exact Ff nofun
   .exact hs x (eJ z)
theorem j6n{c:Int}{m k:Nat}:(wrd c m k).length<=8:=by
 have a:=Lz c;have l8:=J6 c;have ls:=zq c (szN c);unfold wrd;split
 .split
  .rw[Xj];omega
  .rw[P0];omega
 .rw[X7,xx,Xj,P0];omega
noncomputable def wL(c:Int)(m:Nat):List (List Nat):=(aK m).map λk=>wrd c m k
theorem j6p(c:Int)(m:Nat):(Q9 c m).map D.str=(wL c m).map tx:=by unfold Q9 wL;rw[Xc,Xc];rfl
theorem jis(c:Int)(m:Nat):∀l∈wL c m,asc l/\l.length<=100:=λl hl=>by obtain⟨k,_,rfl⟩:=Xd.mp hl;exact⟨λx hx=>jcj (j0k x hx),Xf j6n (by decide)⟩
theorem je6{c:Int}{m:Nat}(hm:m<=6):∀l∈wL c m,isW l=af:=λl hl=>by obtain⟨k,hk,rfl⟩:=Xd.mp hl;have h:=jb1 (c:=c) hm (Xw.mp hk);unfold isW;rw[decide_eq_true h.1,decide_eq_true h.2,Bool.and_self,jI,Xq];exact j0k
theorem j6q{c:Int}{m:Nat}(hm:m<=6):(wL c m).Nodup:=by unfold wL;unfold l9;rw[iI];exact kz (λhi hj h e=>h (jb2 hm (Xw.mp hi) (Xw.mp hj) e)) (List.nodup_range (n:=m))
theorem Cg(l:List Int):D.depL (l.map D.int)<=0:=D.depL_of λd hd=>by obtain⟨x,_,rfl⟩:=Xd.mp hd;simp[D.dep]
theorem Eh(L:List (List Nat)):D.depL (L.map tx)<=0:=D.depL_of λd hd=>by obtain⟨x,_,rfl⟩:=Xd.mp hd;simp[D.dep]
theorem j8a{L:List (List Nat)}(h:L.length<=1000):J8 (.tup (L.map tx)):=by simp only[J8];refine⟨by rw[km];exact h,Yx λd hd=>?_⟩;obtain⟨x,_,rfl⟩:=Xd.mp hd;simp[J8]
noncomputable def qT(L:List (List Nat))(A:List Int):D:=.tup [.tup (L.map tx),.tup (A.map D.int)]
theorem placesOk {n:Nat} {P:D} (hT:∀l:List Nat,asc l->l.length<=100->evP 1000 G T n "is_word" [tx l]=.val (.bl (isW l))):∀(r pre:List (List Nat)) (s:Sv),pre.length+r.length<=200->(∀l∈r,(asc l/\l.length<=100)/\isW l=af)->(pre++r).Nodup ->
  ∃s',vo (Mp [2] (run 1000 (evP 1000 G T n) G (.seq (.ife (.not (.call "is_word" (.cons (.var 2) .nil))) (.seq (.raise "NoWord" (.fst (.cons (.rpr (.var 2)) (.cons (.lit (.str " is no word of one to eight small letters")) .nil)))) .nop) .nop) (.seq (.ife (.cmp .isin (.var 2) (.var 1)) (.seq (.raise "Twice" (.fst (.cons (.lit (.str "the place ")) (.cons (.rpr (.var 2)) (.cons (.lit (.str " stands twice")) .nil))))) .nop) .nop) (.seq (.app 1 (.var 2)) .nop))))) (r.map tx) [.val P,.own (pre.map tx),s]=.next [.val P,.own ((pre++r).map tx),s']
 |[],pre,s,_,_,_=>⟨s,by rw[d4,j4o,Xo]⟩
 |l::r,pre,s,hl,hr,hn=>by
  obtain⟨⟨ha,hb⟩,hw⟩:=hr l (xm ..);have w:=hT l ha hb;rw[hw]at w;have ii:=j17 (L:=pre) (l:=l) D.lst (.inr rfl);have hc:pre.contains l=ae:=by
   have:l∉pre:=λz=>by rw[List.nodup_append]at hn;exact hn.2.2 l z l (xm ..) rfl
   simpa using this
  rw[hc]at ii;have ih:=placesOk (n:=n) (P:=P) hT r (pre++[l]) (.val (tx l)) (by rw[X7];simp at hl ⊢;omega) (λx hx=>hr x (xf _ hx)) (by rw[Pk];exact hn);have hpl:(pre.map tx).length<=1000:=by rw[km];simp at hl;omega
  rw[X5,Bq (ρ':=[.val P,.own ((pre++[l]).map tx),.val (tx l)])]
  .rw[Pk]at ih;exact ih
  .simp only[Q4];ext;erw[w,ii];rw[Ph];rfl
theorem j26 {n:Nat} {m:Int} (hm:1<=m/\m<=6):evP 1000 G T (n+1) "refuse_wrong_size" [.int m]=.val .non:=by rw[jr (F:=Ju) (by rfl) rfl];simp only[Ju,J3,enter];ext;simp only[gF];ext;simp only[gM];ext
theorem jjb {n:Nat} {L:List (List Nat)} (h1:1<=L.length/\L.length<=6) (hw:∀l∈L,isW l=af) (ho:∀l∈L,asc l/\l.length<=100) (hn:L.Nodup):evP 1000 G T (n+3) "refuse_wrong_places" [.lst (L.map tx)]=.val .non:=by rw[jr (F:=zr) (by rfl) rfl];simp only[zr,zu,enter];ext;rw[j26 nofun];ext;obtain⟨s',e⟩:=placesOk (n:=n+2) (P:=.lst (L.map tx)) (λl ha hl=>Wy ha nofun) L [] .un (by simp;omega) (λl hl=>⟨ho l hl,hw l hl⟩) (by simpa using hn);rw[Tj]at e;rw[show([]:List D)=([]:List (List Nat)).map tx from rfl,e];ext
theorem gP:G "PLACE" = aa (.str "place"):=by rfl
theorem gMB:G "MOST_BRACKETS" = aa (.int 8):=by rfl
theorem gK:G "KINDS" = aa (.tup [.str "not",.str "all",.str "any",.str "odd",.str "least",.str "just",.str "table",.str "ring",.str "joined"]):=by rfl
noncomputable def lp:List Nat:=[40]
noncomputable def rp:List Nat:=[41]
noncomputable def nt:List Nat:=[110,111,116]
theorem lpS:("(":ao)=sL lp:=by decide +kernel
theorem rpS:(")":ao)=sL rp:=by decide +kernel
noncomputable def plD(w:List Nat):D:=.tup [.str "place",tx w,.tup []]
section
variable{ls:List ao}{j:Nat}{x:List Nat}{r a b:List (List Nat)}
theorem Mj(h:ls.drop j=(x::r).map sL):ls[j]?=aa (sL x):=by
 have:(ls.drop j)[0]?=aa (sL x):=by rw[h];rfl
 rwa [List.getElem?_drop,Nat.add_zero]at this
theorem j5i(h:ls.drop j=(a++b).map sL):ls.drop (j+a.length)=b.map sL:=by rw[<-List.drop_drop,h,Ph,List.drop_left' (by rw[km])]
theorem j33(h:ls.drop j=(x::r).map sL):ls.drop (j+1)=r.map sL:=j5i (a:=[x]) h
end
theorem Im{w:List Nat}(h:isW w=af):w≠lp/\w≠rp/\32∉w:=by
 unfold isW at h;rw[Xb]at h;have z:∀c∈w,low c=af:=Xq.mp h.2;refine⟨λe=>?_,λe=>?_,λe=>?_⟩
 .have:=z 40 (by rw[e];exact xm);exact absurd this (by decide)
 .have:=z 41 (by rw[e];exact xm);exact absurd this (by decide)
 .exact absurd (z 32 e) (by decide)
theorem jey{a b:List Nat}(h:a≠b):(sL a==sL b)=ae:=by simpa using λq=>h (Ue q)
structure Wd(v:List Nat):Prop where
 w:isW v=af
 a:asc v
 l:v.length<=100
theorem j5a {n j:Nat} {b:Int} {ls:List ao} {w:List Nat} {r:List (List Nat)} (hd:ls.drop j=(w::r).map sL) (h:Wd w):evP 1000 G T (n+4) (mq "form_taken") [.lst (ls.map D.str),.int (j:Int),.int b]=.mval (plD w) (j+1):=by have z:=jey (Im h.w).1;rw[jr (F:=Jz) (by rfl) rfl];simp only[Jz,Vi,enter];ext;rw[j2a];simp only[cY,cn];ext;rw[mget (Mj hd),lpS,z];ext;rw[Wy h.a (by have:=h.l;omega),h.w];ext;simp only[gP];ext;rfl
theorem Wz {α:Type} {pcs:α->List (List Nat)} {frm:α->D} {n:Nat} {bk:Int} {ls:List ao} {e0 e2 e3:Sv} {g:En->Nat->Sm}:∀(its:List α)(j:Nat)(acc:List D)(m:Nat)(rest:List (List Nat)),its.length<m->acc.length+its.length<=1000->(∀it∈its,(∀j r,ls.drop j=(pcs it++r).map sL->evP 1000 G T n (mq "form_taken") [.lst (ls.map D.str),.int (j:Int),.int bk]=.mval (frm it) (j+(pcs it).length))/\∃x t,pcs it=x::t/\x≠rp) ->
  ls.drop j=(its.flatMap pcs++rp::rest).map sL ->
  Z8 (λρ k=>jd 1000 (evP 1000 G T n) G ls (.appC 4 "form_taken" (.cons (.var 1) .nil) .nop) ρ k) g ")" ls m [e0,.val (.int bk),e2,e3,.own acc] j=g [e0,.val (.int bk),e2,e3,.own (acc++its.map frm)] (j+(its.flatMap pcs).length)
 |[],j,acc,m,rest,hm,_,_,hd=>by
  obtain⟨m,rfl⟩:∃q,m=q+1:=⟨m-1,by simp at hm;omega⟩
  unfold Z8;rw[if_pos (by rw[mget (Mj hd),rpS])];simp
 |it::its,j,acc,m,rest,hm,hl,hF,hd=>by
  obtain⟨m,rfl⟩:∃q,m=q+1:=⟨m-1,by simp at hm;omega⟩
  obtain⟨f1,x,t,ex,hx⟩:=hF it (xm ..);rw[T6,Pk]at hd;have hd0:=hd;rw[ex,Tc]at hd0;have hlen:acc.length<=1000:=by simp at hl;omega
  unfold Z8;rw[if_neg (by rw[mget (Mj hd0),rpS];exact λq=>hx (Ue q))];have e:jd 1000 (evP 1000 G T n) G ls (.appC 4 "form_taken" (.cons (.var 1) .nil) .nop) [e0,.val (.int bk),e2,e3,.own acc] j=.next [e0,.val (.int bk),e2,e3,.own (acc++[frm it])] (j+(pcs it).length):=by ext;rw[f1 j _ hd];ext
  rw[e];dsimp only;rw[Wz its (j+(pcs it).length) (acc++[frm it]) m rest (by simp at hm;omega) (by simp at hl ⊢;omega) (λi hi=>hF i (xf _ hi)) (j5i hd)];rw[Pk,T6,X7,Nat.add_assoc];rfl
theorem eS:("":ao)=sL []:=by decide +kernel
theorem j9j {α:Type} {pcs:α->List (List Nat)} {frm:α->D} {n j:Nat} {bk:Int} {ls:List ao} {kd:List Nat} {ow:Option (List Nat)} {its:List α} {rest:List (List Nat)} (hb:bk<=8) (hk:Ja .notin (tx kd) (.tup [.str "not",.str "all",.str "any",.str "odd",.str "least",.str "just",.str "table",.str "ring",.str "joined"])=aa ae)
  (hw:evP 1000 G T n "wants_own" [tx kd]=.val (.bl ow.isSome)) (hc:evP 1000 G T n "takes_count" [tx kd,.int its.length]=.val (.bl af)) (ho:evP 1000 G T n "takes_own" [tx kd,tx (ow.getD []),.int its.length]=.val (.bl af)) (hl:its.length<=100)
  (hF:∀it∈its,(∀j r,ls.drop j=(pcs it++r).map sL->evP 1000 G T n (mq "form_taken") [.lst (ls.map D.str),.int (j:Int),.int bk]=.mval (frm it) (j+(pcs it).length))/\∃x t,pcs it=x::t/\x≠rp)
  (hd:ls.drop j=(kd::(ow.toList++(its.flatMap pcs++rp::rest))).map sL):evP 1000 G T (n+1) (mq "bracketed_taken") [.lst (ls.map D.str),.int (j:Int),.int bk]=.mval (.tup [tx kd,tx (ow.getD []),.tup (its.map frm)]) (j+1+ow.toList.length+(its.flatMap pcs).length+1):=by
 rw[jr (F:=Qe) (by rfl) rfl];simp only[Qe,Vb,enter];ext;rw[j2a];simp only[cY,cn];ext;simp only[gMB];ext;rw[mget (Mj hd)];simp only[gK];ext;rw[hk];ext;rw[hw];cases ow with
 |none =>rw[gU];ext;rw[Do,Wz its (j+1) [] 1000 rest nofun (by simp;omega) hF (j33 hd)];erw[Tj,hc];rw[fb,show tx []=D.str "" from congrArg D.str eS.symm]at ho ⊢;rw[ho];ext;rfl
 |some w =>have hd1:ls.drop (j+1)=(w::(its.flatMap pcs++rp::rest)).map sL:=j33 hd;erw[cZ,mget (Mj hd1)];rw[Do,Wz its (j+1+1) [] 1000 rest nofun (by simp;omega) hF (j33 hd1)];erw[Tj,hc];rw[Xu]at ho ⊢;rw[ho];ext;rfl
structure KdOk(n:Nat)(kd:List Nat)(ow:Option (List Nat))(c:Nat):Prop where
 hk:Ja .notin (tx kd) (.tup [.str "not",.str "all",.str "any",.str "odd",.str "least",.str "just",.str "table",.str "ring",.str "joined"])=aa ae
 hw:evP 1000 G T n "wants_own" [tx kd]=.val (.bl ow.isSome)
 hc:evP 1000 G T n "takes_count" [tx kd,.int c]=.val (.bl af)
 ho:evP 1000 G T n "takes_own" [tx kd,tx (ow.getD []),.int c]=.val (.bl af)
section
variable{α:Type}{pcs:α->List (List Nat)}{frm:α->D}
noncomputable def brP(pcs:α->List (List Nat))(kd:List Nat)(ow:Option (List Nat))(its:List α):List (List Nat):=lp::kd::(ow.toList++(its.flatMap pcs++[rp]))
noncomputable def brF(frm:α->D)(kd:List Nat)(ow:Option (List Nat))(its:List α):D:=.tup [tx kd,tx (ow.getD []),.tup (its.map frm)]
def Reads(n:Nat)(bk:Int)(ps:List (List Nat))(d:D):Prop:=(∀(ls:List ao)(j:Nat)(r:List (List Nat)),ls.drop j=(ps++r).map sL->evP 1000 G T n (mq "form_taken") [.lst (ls.map D.str),.int (j:Int),.int bk]=.mval d (j+ps.length))/\∃x t,ps=x::t/\x≠rp
theorem j28{n:Nat}{bk:Int}{w:List Nat}(h:Wd w):Reads (n+4) bk [w] (plD w):=⟨λls j r hd=>j5a hd h,w,[],rfl,(Im h.w).2.1⟩
theorem j7s{n:Nat}{bk:Int}{kd:List Nat}{ow:Option (List Nat)}{its:List α}(hb:bk+1<=8)(K:KdOk n kd ow its.length)(hl:its.length<=100)(hF:∀it∈its,Reads n (bk+1) (pcs it) (frm it)):Reads (n+2) bk (brP pcs kd ow its) (brF frm kd ow its):=by
 refine⟨λls j r hd=>?_,lp,_,rfl,by decide⟩;have hd1:ls.drop j=(lp::kd::(ow.toList++(its.flatMap pcs++rp::r))).map sL:=by rw[hd];unfold brP;simp
 have bs:=j9j (n:=n) (j:=j+1) (bk:=bk+1) (kd:=kd) (its:=its) (rest:=r) hb K.hk K.hw K.hc K.ho hl (λit hit=>⟨λj r hd=>(hF it hit).1 ls j r hd,(hF it hit).2⟩) (j33 hd1);rw[jr (F:=Jz) (by rfl) rfl];simp only[Jz,Vi,enter];ext;rw[j2a];simp only[cY,cn];ext;rw[mget (Mj hd1),lpS];ext;rw[bs];ext;unfold brF brP;congr 1;simp only[xx,X7,cG];omega
end
noncomputable def Ws:Rc->Option Bool
 |.val (.bl b)=>aa b
 |_=>ah
noncomputable def asInt:Rc->Option Int
 |.val (.int b)=>aa b
 |_=>ah
theorem Zx{r:Rc}{b:Bool}(h:(Ws r==aa b)=af):r=.val (.bl b):=by
 have:=beq_iff_eq.mp h;unfold Ws at this;split at this
 .cases this;rfl
 .cases this
theorem Ot{r:Rc}{b:Int}(h:(asInt r==aa b)=af):r=.val (.int b):=by
 have:=beq_iff_eq.mp h;unfold asInt at this;split at this
 .cases this;rfl
 .cases this
noncomputable def b2i(b:Bool):Int:=if b then 1 else 0
noncomputable def kds:List (List Nat):=[nt,[97,108,108],[97,110,121],[111,100,100],[108,101,97,115,116],[106,117,115,116],[116,97,98,108,101],[114,105,110,103],[106,111,105,110,101,100]]
theorem jb3 (n:Nat):∀i:Fin 9,evP 1000 G T (n+1) "wants_own" [tx (kds.getD i.val [])]=.val (.bl (decide (4<=i.val/\i.val<=6))):=λi=>Zx (of_decide_eq_true (p:=∀i:Fin 9,(Ws (evP 1000 G T (n+1) "wants_own" [tx (kds.getD i.val [])])==aa (decide (4<=i.val/\i.val<=6)))=af) (by kernel_rfl) i)
noncomputable def cnt(i c:Nat):Bool:=if i=0 then c==1 else if i=6 then decide (1<=c/\c<=4)else if 7<=i then c==6 else decide (1<=c/\c<=3)
theorem jdp (n:Nat):∀(i:Fin 9)(c:Fin 7),cnt i.val c.val=af->evP 1000 G T (n+1) "takes_count" [tx (kds.getD i.val []),.int c.val]=.val (.bl af):=λi c h=>Zx (of_decide_eq_true (p:=∀(i:Fin 9)(c:Fin 7),cnt i.val c.val=af->(Ws (evP 1000 G T (n+1) "takes_count" [tx (kds.getD i.val []),.int c.val])==aa af)=af) (by kernel_rfl) i c h)
theorem jcm:∀i:Fin 9,Ja .notin (tx (kds.getD i.val [])) (.tup [.str "not",.str "all",.str "any",.str "odd",.str "least",.str "just",.str "table",.str "ring",.str "joined"])=aa ae:=by decide +kernel
theorem Ny:∀i:Fin 9,(sL (kds.getD i.val [])==("place":ao))=ae:=by decide +kernel
noncomputable def V5(i:Nat):Bool:=decide (i<4) || decide (i=7) || decide (i=8)
theorem jjr (n:Nat) (c:Int):∀i:Fin 9,V5 i.val=af->evP 1000 G T (n+1) "takes_own" [tx (kds.getD i.val []),tx [],.int c]=.val (.bl af):=λi h=>Zx (of_decide_eq_true (p:=∀i:Fin 9,V5 i.val=af->(Ws (evP 1000 G T (n+1) "takes_own" [tx (kds.getD i.val []),tx [],.int c])==aa af)=af) (by kernel_rfl) i h)
noncomputable def dg(k:Nat):List Nat:=if k<10 then[48+k] else[48+k/10,48+k%10]
theorem j0v (n:Nat) (c:Int):∀(i:Fin 2)(k:Fin 100),evP 1000 G T (n+3) "takes_own" [tx (kds.getD (4+i.val) []),tx (dg k.val),.int c]=.val (.bl af):=λi k=>Zx (of_decide_eq_true (p:=∀(i:Fin 2)(k:Fin 100),(Ws (evP 1000 G T (n+3) "takes_own" [tx (kds.getD (4+i.val) []),tx (dg k.val),.int c])==aa af)=af) (by kernel_rfl) i k)
theorem jdm:∀k:Fin 100,aW (toString ((k.val:Nat):Int))=sL (dg k.val):=by decide +kernel
theorem j5l:∀k:Fin 100,d6 (sL (dg k.val))=aa ((k.val:Nat):Int):=by decide +kernel
noncomputable def gI(l:List Bool):Int:=(asInt (evP 1000 G T 1 "_law_groups" [.lst (l.map D.bl)])).getD 0
noncomputable def yes(l:List Bool):Nat:=(l.filter id).length
noncomputable def chk(n:Nat)(l:List Bool):Bool:=asInt (evP 1000 G T (n+1) "_law_groups" [.lst (l.map D.bl)])==aa (gI l)&&(Ws (evP 1000 G T (n+4) "says_yes" [tx (kds.getD 7 []),tx [],.lst ((l.map b2i).map D.int)])==aa (decide ((yes l:Int)>4-gI l))&&Ws (evP 1000 G T (n+4) "says_yes" [tx (kds.getD 8 []),tx [],.lst ((l.map b2i).map D.int)])==aa (decide (gI l=1)))
theorem jdr(n:Nat):∀a b c d e f:Bool,chk n [a,b,c,d,e,f]=af:=of_decide_eq_true (by kernel_rfl)
theorem six{l:List Bool}(h:l.length=6):∃a b c d e f,l=[a,b,c,d,e,f]:=by
 match l,h with
 |[a,b,c,d,e,f],_=>exact⟨a,b,c,d,e,f,rfl⟩
theorem Uu (n:Nat) {l:List Bool} (h:l.length=6):evP 1000 G T (n+1) "_law_groups" [.lst (l.map D.bl)]=.val (.int (gI l))/\evP 1000 G T (n+4) "says_yes" [tx (kds.getD 7 []),tx [],.lst ((l.map b2i).map D.int)]=.val (.bl (decide ((yes l:Int)>4-gI l)))/\evP 1000 G T (n+4) "says_yes" [tx (kds.getD 8 []),tx [],.lst ((l.map b2i).map D.int)]=.val (.bl (decide (gI l=1))):=by obtain⟨a,b,c,d,e,f,rfl⟩:=six h;have:=jdr n a b c d e f;unfold chk at this;rw[Xb,Xb]at this;exact⟨Ot this.1,Zx this.2.1,Zx this.2.2⟩
theorem gA:G "ANSWERS" = aa (.tup [.int 0,.int 1]):=by rfl
noncomputable def vl(l:List Bool):Nat:=l.foldl (λa b=>2*a+(if b then 1 else 0)) 0
noncomputable def sf(i:Nat)(want:Int)(bs:List Int)(l:List Bool):Bool:=match i with
 |0=>decide ((yes l:Int)=0)
 |1=>decide ((yes l:Int)=(l.length:Int))
 |2=>decide ((yes l:Int)>0)
 |3=>decide ((yes l:Int)%2=1)
 |4=>decide ((yes l:Int)>=want)
 |5=>decide ((yes l:Int)=want)
 |6=>decide (bs.getD (vl l) 0=1)
 |7=>decide ((yes l:Int)>4-gI l)
 |_=>decide (gI l=1)
noncomputable def bls:Nat->List (List Bool)
 |0=>[[]]
 |n+1=>(bls n).flatMap λl=>[ae::l,af::l]
theorem Fd:∀{n:Nat}{l:List Bool},l.length=n->l∈bls n
 |0,l,h=>by rw[List.length_eq_zero_iff.mp h];simp[bls]
 |n+1,[],h=>by simp at h
 |n+1,b::l,h=>by have ih:=Fd (n:=n) (l:=l) (by simpa using h);unfold bls;rw[List.mem_flatMap];refine⟨l,ih,?_⟩;cases b<;>simp
theorem j7c (n:Nat):∀(i:Fin 4)(c:Fin 3),∀l∈bls (c.val+1),cnt i.val (c.val+1)=af->evP 1000 G T (n+1) "says_yes" [tx (kds.getD i.val []),tx [],.lst ((l.map b2i).map D.int)]=.val (.bl (sf i.val 0 [] l)):=λi c l hl h=>Zx (of_decide_eq_true (p:=∀(i:Fin 4)(c:Fin 3),∀l∈bls (c.val+1),cnt i.val (c.val+1)=af->(Ws (evP 1000 G T (n+1) "says_yes" [tx (kds.getD i.val []),tx [],.lst ((l.map b2i).map D.int)])==aa (sf i.val 0 [] l))=af) (by kernel_rfl) i c l hl h)
theorem j7q (n:Nat):∀(c:Fin 4),∀l∈bls (c.val+1),evP 1000 G T (n+2) "row_number" [.lst ((l.map b2i).map D.int)]=.val (.int (vl l)):=λc l hl=>Ot (of_decide_eq_true (p:=∀(c:Fin 4),∀l∈bls (c.val+1),(asInt (evP 1000 G T (n+2) "row_number" [.lst ((l.map b2i).map D.int)])==aa ((vl l:Nat):Int))=af) (by kernel_rfl) c l hl)
theorem j45 (n:Nat):∀c:Fin 4,evP 1000 G T (n+3) "count_of_rows" [.int ((c.val+1:Nat):Int)]=.val (.int ((2^(c.val+1):Nat):Int)):=λc=>Ot (of_decide_eq_true (p:=∀c:Fin 4,(asInt (evP 1000 G T (n+3) "count_of_rows" [.int ((c.val+1:Nat):Int)])==aa ((2^(c.val+1):Nat):Int))=af) (by kernel_rfl) c)
theorem j9z:∀(c:Fin 4),∀l∈bls (c.val+1),vl l<2^(c.val+1):=by decide +kernel
theorem j0n(l:List Bool):(l.map b2i).sum=(yes l:Int):=by
 unfold yes;induction l with
 |nil=>rfl
 |cons b l ih =>
  rw[X5,T7,ih];cases b
  .simp[b2i]
  .simp[b2i];omega
theorem Kl {n:Nat} {l:List Bool} (k:Fin 100):evP 1000 G T (n+1) "says_yes" [tx (kds.getD 4 []),tx (dg k.val),.lst ((l.map b2i).map D.int)]=.val (.bl (sf 4 k.val [] l))/\evP 1000 G T (n+1) "says_yes" [tx (kds.getD 5 []),tx (dg k.val),.lst ((l.map b2i).map D.int)]=.val (.bl (sf 5 k.val [] l)):=by
 have dl:(sL (dg k.val)).length<=640:=by rw[qw];unfold dg;split<;>simp
 constructor
 .rw[jr (F:=Jh) (by rfl) rfl];simp only[Jh,Q5,enter];ext;erw[show(sL (kds.getD 4 [])==("not":ao))=ae from by decide +kernel,show(sL (kds.getD 4 [])==("all":ao))=ae from by decide +kernel,show(sL (kds.getD 4 [])==("any":ao))=ae from by decide +kernel,show(sL (kds.getD 4 [])==("odd":ao))=ae from by decide +kernel,show(sL (kds.getD 4 [])==("least":ao))=af from by decide +kernel,jaf dl (j5l k)];rw[j0n];rw[j9a]
  try ext
  rfl
 .rw[jr (F:=Jh) (by rfl) rfl];simp only[Jh,Q5,enter];ext;erw[show(sL (kds.getD 5 [])==("not":ao))=ae from by decide +kernel,show(sL (kds.getD 5 [])==("all":ao))=ae from by decide +kernel,show(sL (kds.getD 5 [])==("any":ao))=ae from by decide +kernel,show(sL (kds.getD 5 [])==("odd":ao))=ae from by decide +kernel,show(sL (kds.getD 5 [])==("least":ao))=ae from by decide +kernel,show(sL (kds.getD 5 [])==("just":ao))=af from by decide +kernel,jaf dl (j5l k)];rw[j0n,vh]
  try ext
  rfl
noncomputable def tb(bs:List Int):List Nat:=bs.map λb=>if b=1 then 49 else 48
theorem jiv{bs:List Int}{v:Nat}(h:v<bs.length):atI (sL (tb bs)).cps.toList (v:Int)=aa (if bs.getD v 0=1 then 49 else 48):=by refine Vd ?_;rw[Bj,tb,Xa,kh h,xn,kh h];rfl
theorem jmp {c:Nat} (h:c=48\/c=49):inS (ch1 c) "01" = af:=by rcases h with rfl|rfl<;>decide +kernel
theorem tb_mem{bs:List Int}{c:Nat}(h:c∈tb bs):c=48\/c=49:=by
 obtain⟨b,_,rfl⟩:=Xd.mp h;split
 .exact .inr rfl
 .exact .inl rfl
theorem jef{bs:List Int}:asc (tb bs):=λc hc=>by rcases tb_mem hc with rfl|rfl<;>decide
theorem jg6 {n:Nat} {bs:List Int} (hl:bs.length<=100):evP 1000 G T (n+1) "is_made_of" [tx (tb bs),.str "01"]=.val (.bl af):=by
 have ll:(tb bs).length=bs.length:=by unfold tb;simp
 rw[jr (F:=Jy) (by rfl) rfl];simp only[Jy,Q3,enter];ext;rw[j3z (j6g jef),j61,zj (l:=((tb bs).map λ_=>af).map D.bl) (by rfl) (by rw[km];omega) ?_ (.inl rfl)]
 .ext;rw[Xq.mpr λb hb=>by obtain⟨_,_,e⟩:=Xd.mp hb;exact e▸rfl]
 .rw[Xc];refine qt λc hc=>vq (by ext) ?_;ext;rw[jmp (tb_mem hc)];rfl
theorem jc6 {n:Nat} {bs:List Int} (c:Fin 4) (hl:bs.length=2^(c.val+1)):evP 1000 G T (n+4) "takes_own" [tx (kds.getD 6 []),tx (tb bs),.int ((c.val+1:Nat):Int)]=.val (.bl af):=by
 have ll:(sL (tb bs)).length=bs.length:=by rw[qw];unfold tb;simp
 have p2:∀c:Fin 4,2^(c.val+1)<=16:=by decide
 have:=p2 c;rw[jr (F:=Yh) (by rfl) rfl];simp only[Yh,Zh,enter];ext;rw[show(sL (kds.getD 6 [])==("table":ao))=af from by decide +kernel];ext;rw[j45,ll,hl];ext;rw[jg6 nofun];ext
theorem j7b {n:Nat} {bs:List Int} {l:List Bool} (c:Fin 4) (hb:bs.length=2^(c.val+1)) (hl:l∈bls (c.val+1)):evP 1000 G T (n+3) "says_yes" [tx (kds.getD 6 []),tx (tb bs),.lst ((l.map b2i).map D.int)]=.val (.bl (sf 6 0 bs l)):=by
 have v:=j9z c l hl;have ll:(sL (tb bs)).length<=1000000:=by
  have p2:∀c:Fin 4,2^(c.val+1)<=16:=by decide
  have:=p2 c;rw[qw];unfold tb;rw[km];omega
 rw[jr (F:=Jh) (by rfl) rfl];simp only[Jh,Q5,enter];ext;erw[show(sL (kds.getD 6 [])==("not":ao))=ae from by decide +kernel,show(sL (kds.getD 6 [])==("all":ao))=ae from by decide +kernel,show(sL (kds.getD 6 [])==("any":ao))=ae from by decide +kernel,show(sL (kds.getD 6 [])==("odd":ao))=ae from by decide +kernel,show(sL (kds.getD 6 [])==("least":ao))=ae from by decide +kernel,show(sL (kds.getD 6 [])==("just":ao))=ae from by decide +kernel,show(sL (kds.getD 6 [])==("table":ao))=af from by decide +kernel,j7q n c l hl,jiv nofun];unfold sf;by_cases z:bs.getD (vl l) 0=1
 .rw[if_pos z,decide_eq_true z,show((⟨#[49]⟩:ao) == "1")=af from by decide +kernel];rfl
 .rw[if_neg z,decide_eq_false z,show((⟨#[48]⟩:ao) == "1")=ae from by decide +kernel];rfl
theorem Dz{sep:ao}{ts:List ao}(hs:sep.length<=10)(h:∀t∈ts,t.length<=10000)(hl:ts.length<=100):cq sep ts=af:=by
 unfold cq;rw[dC];have e:∀(r:List ao)(k:Nat),(∀t∈r,t.length<=10000)->r.foldl (λ(x:Nat) (y:ao)=>x+y.length+sep.length) k<=k+10010*r.length:=by
  intro r;induction r with
  |nil=>intro k _;simp
  |cons a r ih =>intro k h;rw[Pz,xx];have:=ih (k+a.length+sep.length) λt ht=>h t (xf _ ht);have:=h a (xm ..);omega
 have:=e ts 0 h;show b9 _=ae;rw[iu];show b9 (cN (λ(x:Nat) (y:ao)=>x+y.length+sep.length) 0 _)=ae;unfold b9;simp only[decide_eq_false_iff_not];have:=cg;omega
theorem jcq{sep:ao}{ts:List ao}(h:cq sep ts=af):Vp sep (aa (.v (.w (ts.map D.str))))=aa (.v (.e (.str (cD sep ts)))):=by simp only[Vp,Rk.d,Vl,h,if_true]
theorem Br:∀ls:List (List Nat),(jn ls).length<=(ls.map λl=>l.length+1).sum
 |[]=>by simp[jn]
 |[x]=>by simp[jn]
 |x::y::r=>by rw[Vq,X5,T7];have:=Br (y::r);simp only[X7,xx]at this ⊢;omega
noncomputable def wt(ls:List (List Nat)):Nat:=(ls.map λl=>l.length+1).sum
theorem Ba(a b:List (List Nat)):wt (a++b)=wt a+wt b:=by unfold wt;rw[Ph,iY]
theorem jl(ls:List (List Nat)):(sL (jn ls)).length<=wt ls:=by rw[qw];exact Br ls
theorem Nh{a b c:D}:atI [a,b,c] 0=aa a:=rfl
theorem j3c{a b c:D}:atI [a,b,c] 1=aa b:=rfl
theorem jar{a b c:D}:atI [a,b,c] 2=aa c:=rfl
def Keeps(n:Nat)(s:List D->D)(L:List (List Nat))(d:D):Prop:=evP 1000 G T n "keeps_to" [d,s (L.map tx)]=.val (.bl af)
theorem j2v{n:Nat}{w:List Nat}{s:List D->D}(hs:s=D.tup\/s=D.lst){L:List (List Nat)}(h:w∈L):Keeps (n+1) s L (plD w):=by unfold Keeps;rw[jr (F:=Qv) (by rfl) rfl];simp only[Qv,Qw,enter,plD];ext;rw[Nh];simp only[gP];ext;rw[j3c];ext;rw[j17 (L:=L) (l:=w) s hs,List.contains_iff_mem.mpr h];ext
theorem j8f {n:Nat} {k:ao} {o:D} {fs:List D} {s:List D->D} {L:List (List Nat)} (hk:(k == "place")=ae) (hl:fs.length<=1000) (h:∀f∈fs,Keeps n s L f):Keeps (n+1) s L (.tup [.str k,o,.tup fs]):=by
 unfold Keeps at h ⊢;rw[jr (F:=Qv) (by rfl) rfl];simp only[Qv,Qw,enter];ext;rw[Nh];simp only[gP];ext;erw[hk,jar];rw[zj (l:=(fs.map λ_=>af).map D.bl) (by rfl) nofun ?_ (.inl rfl)]
 .ext;rw[Xq.mpr λb hb=>by obtain⟨_,_,e⟩:=Xd.mp hb;exact e▸rfl]
 .rw[Xc];have:=qt (α:=D) (h:=id) (g:=λ_=>D.bl af) (L:=fs) (f:=Vk [2] (ev (evP 1000 G T n) G .nil) (ev (evP 1000 G T n) G (.call "keeps_to" (.cons (.var 2) (.cons (.var 1) .nil)))) [.val (.tup [.str k,o,.tup fs]),.val (s (L.map tx)),.un]) λf hf=>vq (by ext) (by
   ext
   rw[show id f=f from rfl,h f hf]
   ext)
  rw[fJ]at this;exact this
theorem jcn {α:Type} {n:Nat} {frm:α->D} {kd:List Nat} {ow:Option (List Nat)} {its:List α} {s:List D->D} {L:List (List Nat)} (hk:(sL kd==("place":ao))=ae) (hl:its.length<=1000) (h:∀it∈its,Keeps n s L (frm it)):Keeps (n+1) s L (brF frm kd ow its) :=
 j8f hk (by rw[km];exact hl) λf hf=>by obtain⟨it,hi,rfl⟩:=Xd.mp hf;exact h it hi
def U6(n:Nat)(kv:List (ao×Int))(d:D)(v:Int):Prop:=evP 1000 G T n "said_by" [d,.sct kv]=.val (.int v)
theorem j1z{n:Nat}{w:List Nat}{kv:List (ao×Int)}{v:Int}(h:Yi kv (sL w)=aa v):U6 (n+1) kv (plD w) v:=by unfold U6;rw[jr (F:=Zc) (by rfl) rfl];simp only[Zc,Zi,enter,plD];ext;rw[Nh];simp only[gP];ext;erw[j3c,jho h]
theorem j7d {n:Nat} {k:ao} {o:D} {fs:List D} {kv:List (ao×Int)} {vs:List Int} {b:Bool} (hk:(k == "place")=ae) (hl:fs.length<=1000) (h:Jm (Vk [3] (ev (evP 1000 G T n) G .nil) (ev (evP 1000 G T n) G (.call "said_by" (.cons (.var 3) (.cons (.var 1) .nil)))) [.val (.tup [.str k,o,.tup fs]),.val (.sct kv),.un,.un]) fs=aa (vs.map D.int))
  (hs:evP 1000 G T n "says_yes" [.str k,o,.lst (vs.map D.int)]=.val (.bl b)):U6 (n+1) kv (.tup [.str k,o,.tup fs]) (b2i b):=by
 unfold U6;rw[jr (F:=Zc) (by rfl) rfl];simp only[Zc,Zi,enter];ext;rw[Nh];simp only[gP];ext;erw[hk,jar,zj (l:=vs.map D.int) (by rfl) nofun h (.inl rfl)];rw[Nh,j3c];ext;rw[Dg (xs:=[.e (.str k),.e o,.w (vs.map D.int)]) rfl];simp only[X5,d4,d_e,d_w];rw[hs];cases b
 .ext;rfl
 .ext;rfl
theorem jbi {α:Type} {n:Nat} {frm:α->D} {kd:List Nat} {ow:Option (List Nat)} {its:List α} {kv:List (ao×Int)} {v:α->Int} {b:Bool} (hk:(sL kd==("place":ao))=ae) (hl:its.length<=1000) (h:∀it∈its,U6 n kv (frm it) (v it))
  (hs:evP 1000 G T n "says_yes" [tx kd,tx (ow.getD []),.lst ((its.map v).map D.int)]=.val (.bl b)):U6 (n+1) kv (brF frm kd ow its) (b2i b) :=
 j7d hk (by rw[km];exact hl) (by
  rw[Xc]
  exact qt λit hit=>vq (by ext) (by
   ext
   rw[h it hit]
   ext
   rfl)) hs
structure Fo where
 ps:List (List Nat)
 d:D
 f:D
 g:List Int->Bool
def r01(m:Nat)(row:List Int):Prop:=row.length=m/\∀x∈row,x=0\/x=1
structure Good(L:List (List Nat))(h W:Nat)(x:Fo):Prop where
 r:∀(n:Nat)(bk:Int),bk+(h:Int)<=8->Reads (n+2*h+4) bk x.ps x.d
 b:bf x.ps
 k:∀(n:Nat){s:List D->D},(s=D.tup\/s=D.lst)->Keeps (n+h+1) s L x.d
 s:∀(n:Nat)(row:List Int),r01 L.length row->U6 (n+h+5) ((L.map sL).zip row) x.d (b2i (x.g row))
 t:∀n:Nat,evP 1000 G T (n+h+1) "_law_text" [x.f,.lst (L.map tx)]=.val (tx (jn x.ps))
 l:∀(n:Nat)(row:List Int),r01 L.length row->evP 1000 G T (n+h+2) "_law_says" [x.f,Qn row]=.val (.bl (x.g row))
 w:wt x.ps<=W
theorem good_mono{L:List (List Nat)}{h h' W W':Nat}{x:Fo}(q:Good L h W x)(hh:h<=h')(hw:W<=W'):Good L h' W' x where
 r:=λn bk hb=>by
  have:=q.r (n+2*(h'-h)) bk nofun
  rwa [show n+2*(h'-h)+2*h+4=n+2*h'+4 from by omega]at this
 b:=q.b
 k:=λn {s} hs=>by
  have:=q.k (n+(h'-h)) hs
  rwa [show n+(h'-h)+h+1=n+h'+1 from by omega]at this
 s:=λn row hr=>by
  have:=q.s (n+(h'-h)) row hr
  rwa [show n+(h'-h)+h+5=n+h'+5 from by omega]at this
 t:=λn=>by
  have:=q.t (n+(h'-h))
  rwa [show n+(h'-h)+h+1=n+h'+1 from by omega]at this
 l:=λn row hr=>by
  have:=q.l (n+(h'-h)) row hr
  rwa [show n+(h'-h)+h+2=n+h'+2 from by omega]at this
 w:=Xf q.w hw
theorem j1a:∀{L:List (List Nat)} {r:List Int} {i:Nat},L.Nodup->L.length=r.length->i<L.length->Yi ((L.map sL).zip r) (sL (L.getD i []))=aa (r.getD i 0)
 |[],_,i,_,_,h=>absurd h (Nat.not_lt_zero _)
 |x::L,[],i,_,h,_=>by simp at h
 |x::L,a::r,0,_,_,_=>by unfold Yi;rw[X5,ip,cV];simp
 |x::L,a::r,i+1,hn,hl,hi=>by
  have hx:x≠L.getD i []:=λe=>by
   have:L.getD i []∈L:=by rw[xn,kh (by simpa using hi)];exact Pu _
   exact(Xk.mp hn).1 (e▸this)
  have ih:=j1a (L:=L) (r:=r) (i:=i) (Xk.mp hn).2 (by simpa using hl) (by simpa using hi);unfold Yi at ih ⊢;rw[X5,ip,i8,cV,i8];rw[show decide (sL x=sL (L.getD i []))=ae from decide_eq_false λq=>hx (Ue q)];exact ih
theorem Iv{L:List (List Nat)}{k:Nat}(h:k<L.length):atI (L.map tx) (k:Int)=aa (tx (L.getD k [])) :=
 Mr (by rw[Xa,xn,kh h];rfl)
theorem jh1{p:List Int}{k:Nat}(h:k<p.length):atI (p.map D.int) (k:Int)=aa (.int (p.getD k 0)) :=
 Mr (by rw[Xa,xn,kh h];rfl)
theorem getD_mem{L:List (List Nat)}{o:Nat}(h:o<L.length):L.getD o []∈L:=by rw[xn,kh h];exact Pu _
noncomputable def plF(k:Nat):D:=.lst [.str "place",.int (k:Int),.lst []]
theorem j88 {n k:Nat} {L:List (List Nat)} (hk:k<L.length):evP 1000 G T (n+1) "_law_text" [plF k,.lst (L.map tx)]=.val (tx (L.getD k [])):=by rw[jr (F:=Qj) (by rfl) rfl];simp only[Qj,Zv,enter,plF];ext;rw[Iv hk];ext
theorem j89 {n k:Nat} {row:List Int} (hk:k<row.length):evP 1000 G T (n+1) "_law_says" [plF k,Qn row]=.val (.bl (decide (row.getD k 0=1))):=by
 rw[jr (F:=Um) (by rfl) rfl];simp only[Um,Up,enter,plF];ext;rw[jh1 hk];ext;rw[vh]
 try ext
theorem jd5{L:List (List Nat)}{k:Nat}(hk:k<L.length)(hw:∀l∈L,Wd l)(h8:∀l∈L,l.length<=8)(hn:L.Nodup):Good L 0 9 ⟨[L.getD k []],plD (L.getD k []),plF k,λrow=>decide (row.getD k 0=1)⟩ where
 r:=λn bk _=>j28 (hw _ (getD_mem hk))
 b:=λl hl=>by rw[X3.mp hl];exact(Im (hw _ (getD_mem hk)).w).2.2
 k:=λn s hs=>j2v hs (getD_mem hk)
 s:=λn row hr=>by
  have hb:row.getD k 0=0\/row.getD k 0=1:=by rw[xn,kh (by rw[hr.1];exact hk)];exact hr.2 _ (Pu _)
  have e:b2i (decide (row.getD k 0=1))=row.getD k 0:=by rcases hb with z|z<;>rw[z]<;>rfl
  dsimp only;rw[e];exact j1z (j1a hn hr.1.symm hk)
 t:=λn=>by rw[j88 hk];rfl
 l:=λn row hr=>j89 (n:=n+1) (by rw[hr.1];exact hk)
 w:=by have:=h8 _ (getD_mem hk);show(L.getD k []).length+1+0<=9;omega
theorem jka{α:Type}{f:α->List (List Nat)}{pre:List (List Nat)}{xs:List α}(hp:pre≠[])(hx:xs≠[])(hf:∀a∈xs,f a≠[]):jn (pre++xs.map λx=>jn (f x))++[32,41]=jn (pre++(xs.flatMap f++[rp])):=by
 have hm:xs.flatMap f≠[]:=by
  cases xs with
  |nil=>exact absurd rfl hx
  |cons a r =>rw[T6];intro z;exact hf a (xm ..) (List.append_eq_nil_iff.mp z).1
 rw[Rp hp (by simpa using hx),j13 hf,Rp hp (by simp),Rp hm (by simp)];simp[jn,rp]
theorem jea(ls:List (List Nat)):ls.map tx=(ls.map sL).map D.str:=by rw[Xc];rfl
theorem jjq:(" )":ao)=sL [32,41]:=by decide +kernel
noncomputable def Qm(kd:List Nat)(ow:Option (List Nat)):List (List Nat):=lp::kd::ow.toList
theorem ji3{α:Type}{f:α->List (List Nat)}{kd:List Nat}{ow:Option (List Nat)}{xs:List α}:brP f kd ow xs=Qm kd ow++(xs.flatMap f++[rp]):=by unfold brP Qm;simp
theorem jcp{kd:List Nat}{ow:Option (List Nat)}{xs:List Fo}(hk:kd.length<=20)(ho:(ow.getD []).length<=20)(hx:xs≠[])(h6:xs.length<=6)(hn:∀x∈xs,x.ps≠[])(hw:∀x∈xs,wt x.ps<=3000) :
  Q7 .add (Vp " " (aa (.v (.w ((Qm kd ow++xs.map λx=>jn x.ps).map tx))))) (aa (.v (.e (.str " )"))))=aa (.v (.e (tx (jn (brP Fo.ps kd ow xs))))):=by
 have ol:ow.toList.length<=1:=by cases ow<;>simp
 have pl:∀l∈Qm kd ow++xs.map λx=>jn x.ps,l.length<=3000:=λl hl=>by
  rcases Xx.mp hl with z|z
  .rcases xr.mp z with rfl|z
   .decide
   .rcases xr.mp z with rfl|z
    .omega
    .cases ow with
     |none=>cases z
     |some w =>rw[Xu]at ho;rw[X3.mp z];omega
  .obtain⟨x,hx,rfl⟩:=Xd.mp z;have:=Br x.ps;have:=hw x hx;unfold wt at this;omega
 have ll:(Qm kd ow++xs.map λx=>jn x.ps).length<=9:=by unfold Qm;simp only[X7,xx,km];omega
 have jo:=Dz (sep:=" ") (ts:=(Qm kd ow++xs.map λx=>jn x.ps).map sL) (by decide +kernel) (λt ht=>by
  obtain⟨l,hl,rfl⟩:=Xd.mp ht
  rw[qw]
  have:=pl l hl
  omega) (by rw[km];omega)
 have jb:(sL (jn (Qm kd ow++xs.map λx=>jn x.ps))).length<=100000:=by
  rw[qw];refine Xf (Br _) ?_;have:∀{ls:List (List Nat)},(∀l∈ls,l.length<=3000)->(ls.map λl=>l.length+1).sum<=3001*ls.length:=λ{ls} h=>by
   induction ls with
   |nil=>simp
   |cons a r ih =>have h1:=h a (xm ..);have h2:=ih λl hl=>h l (xf _ hl);rw[X5,T7,xx];omega
  have:=this pl;omega
 rw[jea,jcq jo,jco,j63 (by rw[show(" )":ao).length=2 from by decide +kernel];omega),jjq,Z4,jka (by simp[Qm]) hx hn,ji3]
theorem Ez{b:Int}(h:b=0\/b=1):aW (toString b)=sL [if b=1 then 49 else 48]:=by rcases h with rfl|rfl<;>decide +kernel
theorem j50:∀{bs:List Int},(∀b∈bs,b=0\/b=1)->cD "" (bs.map λb=>aW (toString b))=sL (tb bs):=λ{bs} h=>by
 have e:(bs.map λb=>aW (toString b))=(tb bs).map λx=>(⟨#[x]⟩:ao):=by unfold tb;rw[Xc];exact T9 λb hb=>by rw[Ez (h b hb)];rfl
 rw[e,W8]
theorem jiw:(sL (kds.getD 6 [])==("place":ao))=ae/\(sL (kds.getD 6 [])==("least":ao))=ae/\(sL (kds.getD 6 [])==("just":ao))=ae/\(sL (kds.getD 6 [])==("table":ao))=af:=by decide +kernel
theorem jmg:∀i:Fin 2,((sL (kds.getD (4+i.val) [])==("least":ao))=af\/((sL (kds.getD (4+i.val) [])==("least":ao))=ae/\(sL (kds.getD (4+i.val) [])==("just":ao))=af))/\(sL (kds.getD (4+i.val) [])==("place":ao))=ae/\(sL (kds.getD (4+i.val) [])==("table":ao))=ae/\(kds.getD (4+i.val) []).length<=6:=by decide +kernel
theorem j5k:∀k:Fin 100,(dg k.val).length<=2:=by decide
theorem jmh:∀i:Fin 9,V5 i.val=af->(sL (kds.getD i.val [])==("least":ao))=ae/\(sL (kds.getD i.val [])==("just":ao))=ae/\(sL (kds.getD i.val [])==("table":ao))=ae:=by decide +kernel
theorem kd_len:∀i:Fin 9,(kds.getD i.val []).length<=6:=by decide
theorem lpT:D.str "(" = tx lp:=congrArg D.str lpS
theorem Vn {n:Nat} {L:List (List Nat)} {xs:List Fo} (hx:∀x∈xs,evP 1000 G T n "_law_text" [x.f,.lst (L.map tx)]=.val (tx (jn x.ps))) (h0:xs≠[]) (h6:xs.length<=6) (hn:∀x∈xs,x.ps≠[]) (hw:∀x∈xs,wt x.ps<=3000) {kd:List Nat} {ow:Option (List Nat)} {v0 v2 v3 v4 v6:Sv} (hk:kd.length<=20) (ho:(ow.getD []).length<=20):fin (Ve (vo (Mp [6] (run 1000 (evP 1000 G T n) G (.seq (.app 5 (.call "_law_text" (.cons (.var 6) (.cons (.var 1) .nil)))) .nop))) (xs.map Fo.f) [v0,.val (.lst (L.map tx)),v2,v3,v4,.own ((Qm kd ow).map tx),v6]) (run 1000 (evP 1000 G T n) G (.seq (.ret (.bin .add (.join " " (.var 5)) (.lit (.str " )")))) .nop)))=.val (tx (jn (brP Fo.ps kd ow xs))):=by
 have pl:(Qm kd ow).length<=3:=by unfold Qm;cases ow<;>simp
 refine Y9 (λj ρ=>∃s6:Sv,ρ=[v0,.val (.lst (L.map tx)),v2,v3,v4,.own ((Qm kd ow++(xs.take j).map λx=>jn x.ps).map tx),s6]) ⟨v6,by simp⟩ ?_ ?_
 .rintro j d ρ hj ⟨s6,rfl⟩;rw[Xa]at hj;obtain⟨x,hj',rfl⟩:=Xv.mp hj;have hxm:=Xl hj';have hl:((Qm kd ow++(xs.take j).map λx=>jn x.ps).map tx).length<=1000:=by rw[km,X7,km,Xj];omega
  simp only[Q4];ext;rw[hx x hxm];ext;refine⟨_,rfl,.val x.f,?_⟩;rw[T5,hj'];simp
 .rintro ρ' ⟨s6,rfl⟩;rw[km,Td];ext;rw[jcp hk ho h0 h6 hn hw];ext
theorem jch {n:Nat} {L:List (List Nat)} {xs:List Fo} (hx:∀x∈xs,evP 1000 G T n "_law_text" [x.f,.lst (L.map tx)]=.val (tx (jn x.ps))) (h0:xs≠[]) (h6:xs.length<=6) (hn:∀x∈xs,x.ps≠[]) (hw:∀x∈xs,wt x.ps<=3000) {want:D} (i:Fin 9) (hp:V5 i.val=af):evP 1000 G T (n+1) "_law_text" [.lst [tx (kds.getD i.val []),want,.lst (xs.map Fo.f)],.lst (L.map tx)]=.val (tx (jn (brP Fo.ps (kds.getD i.val []) ah xs))):=by obtain⟨e1,e2,e3⟩:=jmh i hp;have e0:=Ny i;have kl:=kd_len i;rw[jr (F:=Qj) (by rfl) rfl];simp only[Qj,Zv,enter];ext;erw[e0,e1,e2,e3];rw[lpT];exact Vn hx h0 h6 hn hw (ow:=ah) nofun (by simp)
theorem j0z {n:Nat} {L:List (List Nat)} {xs:List Fo} (hx:∀x∈xs,evP 1000 G T n "_law_text" [x.f,.lst (L.map tx)]=.val (tx (jn x.ps))) (h0:xs≠[]) (h6:xs.length<=6) (hn:∀x∈xs,x.ps≠[]) (hw:∀x∈xs,wt x.ps<=3000) (i:Fin 2) (k:Fin 100):evP 1000 G T (n+1) "_law_text" [.lst [tx (kds.getD (4+i.val) []),.int (k.val:Nat),.lst (xs.map Fo.f)],.lst (L.map tx)]=.val (tx (jn (brP Fo.ps (kds.getD (4+i.val) []) (aa (dg k.val)) xs))):=by
 obtain⟨e1,e0,e3,kl⟩:=jmg i;have dl:=j5k k;have tt:=jdm k;have kk:=k.isLt;have go:∀{x:ao},x=sL (dg k.val)->[D.str "(",tx (kds.getD (4+i.val) []),D.str x]=(Qm (kds.getD (4+i.val) []) (aa (dg k.val))).map tx:=λ{x} h=>by rw[lpT,h];rfl
 rw[jr (F:=Qj) (by rfl) rfl];simp only[Qj,Zv,enter];ext;rw[e0];ext;rcases e1 with e1|⟨e1,e2⟩
 .erw[e1,e3];rw[go tt];exact Vn hx h0 h6 hn hw (ow:=aa (dg k.val)) nofun (by rw[Xu];omega)
 .erw[e1,e2,e3];rw[go tt];exact Vn hx h0 h6 hn hw (ow:=aa (dg k.val)) nofun (by rw[Xu];omega)
theorem jcg {n:Nat} {L:List (List Nat)} {xs:List Fo} (hx:∀x∈xs,evP 1000 G T n "_law_text" [x.f,.lst (L.map tx)]=.val (tx (jn x.ps))) (h0:xs≠[]) (h6:xs.length<=6) (hn:∀x∈xs,x.ps≠[]) (hw:∀x∈xs,wt x.ps<=3000) {bs:List Int} (hb:∀b∈bs,b=0\/b=1) (hl:bs.length<=16):evP 1000 G T (n+1) "_law_text" [.lst [tx (kds.getD 6 []),.lst (bs.map D.int),.lst (xs.map Fo.f)],.lst (L.map tx)]=.val (tx (jn (brP Fo.ps (kds.getD 6 []) (aa (tb bs)) xs))):=by
 obtain⟨e0,e1,e2,e3⟩:=jiw;have tl:(tb bs).length=bs.length:=by unfold tb;simp
 have go:[D.str "(",tx (kds.getD 6 []),D.str (sL (tb bs))]=(Qm (kds.getD 6 []) (aa (tb bs))).map tx:=by rw[lpT];rfl
 have jk:cq "" (bs.map λb=>aW (toString b))=af:=Dz (by decide +kernel) (λt ht=>by
  obtain⟨b,hb',rfl⟩:=Xd.mp ht
  rw[Ez (hb b hb'),qw]
  simp) (by rw[km];omega)
 rw[jr (F:=Qj) (by rfl) rfl];simp only[Qj,Zv,enter];ext;erw[e0,e1,e2,e3];rw[zj (l:=(bs.map λb=>aW (toString b)).map D.str) (by rfl) (by rw[km];omega) ?_ (.inl rfl)]
 .rw[Fj jk,j50 hb];ext;rw[go];exact Vn hx h0 h6 hn hw (ow:=aa (tb bs)) (by decide) (by rw[Xu];omega)
 .rw[Xc];refine qt λb hb'=>vq (by ext) ?_;ext;rw[j3v (by rcases hb b hb' with rfl|rfl<;>decide)];ext;rfl
theorem Dv:∀l:List Bool,qj (l.map D.bl)=af
 |[]=>rfl
 |b::l=>by simp[qj,Jl,Dv l]
theorem jb4{l:List Bool}{b:Bool}:((vl (l++[b]):Nat):Int)=2*((vl l:Nat):Int)+b2i b:=by unfold vl;rw[List.foldl_append];cases b<;>simp[b2i]
theorem jel{a b:Int}:Q7 .sub (aa (.v (.e (.int a)))) (aa (.v (.t (.int b))))=aa (.v (.e (.int (a-b)))):=by rfl
theorem j1y{a:So}{f g:En->So}:Ve (Ve a f) g=Ve a (λρ=>Ve (f ρ) g):=by cases a<;>rfl
theorem je4(l:List Bool):yes l<=l.length:=gN _ _
theorem jjy {n:Nat} {row:List Int} {xs:List Fo} (hx:∀x∈xs,evP 1000 G T n "_law_says" [x.f,Qn row]=.val (.bl (x.g row))) (h6:xs.length<=6) (hn:1<=n) (h1:1<=xs.length) {want:D} {wn:Int} {bs:List Int} (i:Nat) (hi:i<9)
  (w1:i=4\/i=5->want=.int wn) (w2:i=6->want=.lst (bs.map D.int)/\vl (xs.map λx=>x.g row)<bs.length) (w3:7<=i->xs.length=6):evP 1000 G T (n+1) "_law_says" [.lst [tx (kds.getD i []),want,.lst (xs.map Fo.f)],Qn row]=.val (.bl (sf i wn bs (xs.map λx=>x.g row))):=by
 have e0:(sL (kds.getD i [])==("place":ao))=ae:=Ny ⟨i,hi⟩;rw[jr (F:=Um) (by rfl) rfl];simp only[Um,Up,enter];ext;rw[e0];ext;rw[zj (l:=(xs.map λx=>x.g row).map D.bl) (by rfl) (by rw[km];omega) ?_ (.inl rfl)];rotate_left
 .rw[Xc];refine qt λx hx'=>vq (by ext) ?_;ext;rw[hx x hx'];ext;rfl
 have w3':7<=i->(xs.map λx=>x.g row).length=6:=λh=>by rw[km];exact w3 h
 have l1:1<=(xs.map λx=>x.g row).length:=by rw[km];exact h1
 have ll:(xs.map λx=>x.g row).length<=6:=by rw[km];exact h6
 generalize (xs.map λx=>x.g row)=l at *;have yl:=je4 l;have ye:(l.filter id).length=yes l:=rfl;ext;rw[zj (l:=(l.filter id).map D.bl) (by rfl) (by rw[km];omega) ?_ (.inr (Dv _))];rotate_left
 .refine Lg (p:=id) λb hb=>Oa (b:=b) (by ext) λ_=>by ext
 ext
 try rw[ye]
 rcases(by omega:i=0\/i=1\/i=2\/i=3\/i=4\/i=5\/i=6\/i=7\/i=8)with rfl|rfl|rfl|rfl|rfl|rfl|rfl|rfl|rfl
 .erw[show(sL (kds.getD 0 [])==("not":ao))=af from by decide +kernel,vh];rfl
 .erw[show(sL (kds.getD 1 [])==("not":ao))=ae from by decide +kernel,show(sL (kds.getD 1 [])==("all":ao))=af from by decide +kernel];rw[vh];by_cases z:(yes l:Int)=(l.length:Int)
  .rw[decide_eq_true z];ext;exact congrArg (λb=>Rc.val (D.bl b)) (decide_eq_true z).symm
  .erw[decide_eq_false z,show(sL (kds.getD 1 [])==("any":ao))=ae from by decide +kernel];exact congrArg (λb=>Rc.val (D.bl b)) (decide_eq_false z).symm
 .erw[show(sL (kds.getD 2 [])==("not":ao))=ae from by decide +kernel,show(sL (kds.getD 2 [])==("all":ao))=ae from by decide +kernel,show(sL (kds.getD 2 [])==("any":ao))=af from by decide +kernel];rw[vh];by_cases z:(yes l:Int)=(l.length:Int)
  .rw[decide_eq_true z];ext;exact congrArg (λb=>Rc.val (D.bl b)) (decide_eq_true (p:=(yes l:Int)>0) nofun).symm
  .erw[decide_eq_false z,show(sL (kds.getD 2 [])==("any":ao))=af from by decide +kernel,Df];rfl
 .erw[show(sL (kds.getD 3 [])==("not":ao))=ae from by decide +kernel,show(sL (kds.getD 3 [])==("all":ao))=ae from by decide +kernel,show(sL (kds.getD 3 [])==("any":ao))=ae from by decide +kernel,show(sL (kds.getD 3 [])==("odd":ao))=af from by decide +kernel,vh];rfl
 .erw[show(sL (kds.getD 4 [])==("not":ao))=ae from by decide +kernel,show(sL (kds.getD 4 [])==("all":ao))=ae from by decide +kernel,show(sL (kds.getD 4 [])==("any":ao))=ae from by decide +kernel,show(sL (kds.getD 4 [])==("odd":ao))=ae from by decide +kernel,show(sL (kds.getD 4 [])==("least":ao))=af from by decide +kernel,w1 (.inl rfl)];by_cases z:(yes l:Int)=wn
  .rw[vh,decide_eq_true z];ext;exact congrArg (λb=>Rc.val (D.bl b)) (decide_eq_true (p:=(yes l:Int)>=wn) nofun).symm
  .rw[vh,decide_eq_false z];ext;erw[show(sL (kds.getD 4 [])==("least":ao))=af from by decide +kernel,Df];refine congrArg (λb=>Rc.val (D.bl b)) (decide_eq_decide.mpr ?_);show(yes l:Int)>wn↔(yes l:Int)>=wn;omega
 .erw[show(sL (kds.getD 5 [])==("not":ao))=ae from by decide +kernel,show(sL (kds.getD 5 [])==("all":ao))=ae from by decide +kernel,show(sL (kds.getD 5 [])==("any":ao))=ae from by decide +kernel,show(sL (kds.getD 5 [])==("odd":ao))=ae from by decide +kernel,show(sL (kds.getD 5 [])==("least":ao))=ae from by decide +kernel,show(sL (kds.getD 5 [])==("just":ao))=af from by decide +kernel,w1 (.inr rfl)];by_cases z:(yes l:Int)=wn
  .rw[vh,decide_eq_true z];ext;exact congrArg (λb=>Rc.val (D.bl b)) (decide_eq_true z).symm
  .rw[vh,decide_eq_false z];ext;rw[show(sL (kds.getD 5 [])==("least":ao))=ae from by decide +kernel];ext;exact congrArg (λb=>Rc.val (D.bl b)) (decide_eq_false z).symm
 .erw[show(sL (kds.getD 6 [])==("not":ao))=ae from by decide +kernel,show(sL (kds.getD 6 [])==("all":ao))=ae from by decide +kernel,show(sL (kds.getD 6 [])==("any":ao))=ae from by decide +kernel,show(sL (kds.getD 6 [])==("odd":ao))=ae from by decide +kernel,show(sL (kds.getD 6 [])==("least":ao))=ae from by decide +kernel,show(sL (kds.getD 6 [])==("just":ao))=ae from by decide +kernel,show(sL (kds.getD 6 [])==("table":ao))=af from by decide +kernel];obtain⟨hw,hv⟩:=w2 rfl;subst hw;rw[j1y];refine Y9 (λj ρ=>∃s6:Sv,ρ=[.val (.lst [tx (kds.getD 6 []),.lst (bs.map D.int),.lst (xs.map Fo.f)]),.val (Qn row),.val (tx (kds.getD 6 [])),.val (.lst (bs.map D.int)),.val (.lst (xs.map Fo.f)),.val (.lst (l.map D.bl)),s6,.val (.int (yes l)),.val (.int (vl (l.take j)))]) ⟨.un,rfl⟩ ?_ ?_
  .rintro j d ρ hj ⟨s6,rfl⟩;rw[Xa]at hj;obtain⟨b,hb,rfl⟩:=Xv.mp hj;have e:((vl (l.take (j+1)):Nat):Int)=2*((vl (l.take j):Nat):Int)+b2i b:=by rw[T5,hb];exact jb4
   simp only[Q4];ext;rw[e];cases b
   .exact⟨_,rfl,_,rfl⟩
   .exact⟨_,rfl,_,rfl⟩
  .rintro ρ' ⟨s6,rfl⟩;rw[km,Td];ext;erw[jh1 hv,vh];rfl
 .erw[show(sL (kds.getD 7 [])==("not":ao))=ae from by decide +kernel,show(sL (kds.getD 7 [])==("all":ao))=ae from by decide +kernel,show(sL (kds.getD 7 [])==("any":ao))=ae from by decide +kernel,show(sL (kds.getD 7 [])==("odd":ao))=ae from by decide +kernel,show(sL (kds.getD 7 [])==("least":ao))=ae from by decide +kernel,show(sL (kds.getD 7 [])==("just":ao))=ae from by decide +kernel,show(sL (kds.getD 7 [])==("table":ao))=ae from by decide +kernel,show(sL (kds.getD 7 [])==("joined":ao))=ae from by decide +kernel];obtain⟨k,rfl⟩:∃k,n=k+1:=⟨n-1,by omega⟩
  rw[(Uu k (w3' nofun)).1,j29,jel];ext;rw[Df];ext;rfl
 .erw[show(sL (kds.getD 8 [])==("not":ao))=ae from by decide +kernel,show(sL (kds.getD 8 [])==("all":ao))=ae from by decide +kernel,show(sL (kds.getD 8 [])==("any":ao))=ae from by decide +kernel,show(sL (kds.getD 8 [])==("odd":ao))=ae from by decide +kernel,show(sL (kds.getD 8 [])==("least":ao))=ae from by decide +kernel,show(sL (kds.getD 8 [])==("just":ao))=ae from by decide +kernel,show(sL (kds.getD 8 [])==("table":ao))=ae from by decide +kernel,show(sL (kds.getD 8 [])==("joined":ao))=af from by decide +kernel];obtain⟨k,rfl⟩:∃k,n=k+1:=⟨n-1,by omega⟩
  rw[(Uu k (w3' nofun)).1,j29];ext;rw[vh];ext;rfl
def Own(i c:Nat)(want:D)(wn:Int)(bs:List Int)(ow:Option (List Nat)):Prop :=
 (V5 i=af/\ow=ah)\/((i=4\/i=5)/\∃k:Fin 100,want=.int (k.val:Nat)/\wn=((k.val:Nat):Int)/\ow=aa (dg k.val))\/(i=6/\want=.lst (bs.map D.int)/\(∀b∈bs,b=0\/b=1)/\bs.length=2^c/\ow=aa (tb bs))
theorem N7{i c:Nat}(h:cnt i c=af):1<=c/\c<=6:=by
 unfold cnt at h;split at h
 .have:=beq_iff_eq.mp h;omega
 .split at h
  .have:=of_decide_eq_true h;omega
  .split at h
   .have:=beq_iff_eq.mp h;omega
   .have:=of_decide_eq_true h;omega
theorem N8{c:Nat}(h:cnt 6 c=af):c<=4:=by unfold cnt at h;have:=of_decide_eq_true (show decide (1<=c/\c<=4)=af from h);omega
theorem jao{i c:Nat}(hi:7<=i)(h:cnt i c=af):c=6:=by unfold cnt at h;rw[if_neg nofun,if_neg nofun,if_pos hi]at h;exact beq_iff_eq.mp h
theorem jky{i c:Nat}(hi:i<4)(h:cnt i c=af):c<=3:=by
 unfold cnt at h;split at h
 .have:=beq_iff_eq.mp h;omega
 .rw[if_neg nofun,if_neg nofun]at h;have:=of_decide_eq_true h;omega
theorem jk9{n i c:Nat}{want:D}{wn:Int}{bs:List Int}{ow:Option (List Nat)}(hi:i<9)(hc:cnt i c=af)(O:Own i c want wn bs ow):KdOk (n+4) (kds.getD i []) ow c:=by
 have cb:=N7 hc;refine⟨jcm ⟨i,hi⟩,?_,jdp (n+3) ⟨i,hi⟩ ⟨c,by omega⟩ hc,?_⟩
 .have w:=jb3 (n+3) ⟨i,hi⟩;rw[show ow.isSome=decide (4<=i/\i<=6)from ?_]
  .exact w
  .rcases O with ⟨h,rfl⟩|⟨h,k,_,_,rfl⟩|⟨h,_,_,_,rfl⟩
   .refine(decide_eq_false λz=>?_).symm;unfold V5 at h;rw[ph,ph,decide_eq_true_eq,decide_eq_true_eq,decide_eq_true_eq]at h;omega
   .exact(decide_eq_true nofun).symm
   .exact(decide_eq_true nofun).symm
 .rcases O with ⟨h,rfl⟩|⟨h,k,_,_,rfl⟩|⟨h,_,_,hb,rfl⟩
  .exact jjr (n+3) c ⟨i,hi⟩ h
  .rcases h with rfl|rfl
   .exact j0v (n+1) c 0 k
   .exact j0v (n+1) c 1 k
  .subst h;have c4:=N8 hc;have:=jc6 (n:=n) (bs:=bs) ⟨c-1,by omega⟩ (by show bs.length=2^(c-1+1);rw[show c-1+1=c from by omega];exact hb);rw[show c-1+1=c from by omega]at this;exact this
theorem jiq {n i:Nat} {want:D} {wn:Int} {bs:List Int} {ow:Option (List Nat)} {l:List Bool} (hi:i<9) (hc:cnt i l.length=af) (O:Own i l.length want wn bs ow):evP 1000 G T (n+4) "says_yes" [tx (kds.getD i []),tx (ow.getD []),.lst ((l.map b2i).map D.int)]=.val (.bl (sf i wn bs l)):=by
 have cb:=N7 hc;have mb:∀c,c+1=l.length->l∈bls (c+1):=λc h=>Fd h.symm;rcases O with ⟨h,rfl⟩|⟨h,k,_,rfl,rfl⟩|⟨h,_,_,hb,rfl⟩
 .by_cases h4:i<4
  .have c3:=jky h4 hc;have:=j7c (n+3) ⟨i,h4⟩ ⟨l.length-1,by omega⟩ l (mb _ (by show l.length-1+1=l.length;omega)) (by show cnt i (l.length-1+1)=af;rw[show l.length-1+1=l.length from by omega];exact hc);have t2:evP 1000 G T (n+4) "says_yes" [tx (kds.getD i []),tx [],.lst ((l.map b2i).map D.int)]=.val (.bl (sf i 0 [] l)):=this;have e:sf i 0 [] l=sf i wn bs l:=by rcases(by omega:i=0\/i=1\/i=2\/i=3)with rfl|rfl|rfl|rfl<;>rfl
   rw[e]at t2;exact t2
  .unfold V5 at h;rw[ph,ph,decide_eq_true_eq,decide_eq_true_eq,decide_eq_true_eq]at h;have l6:=jao nofun hc;rcases(by omega:i=7\/i=8)with rfl|rfl
   .exact(Uu n l6).2.1
   .exact(Uu n l6).2.2
 .rcases h with rfl|rfl
  .exact(Kl (n:=n+3) k).1
  .exact(Kl (n:=n+3) k).2
 .subst h;have c4:=N8 hc;exact j7b (n:=n+1) ⟨l.length-1,by omega⟩ (by show bs.length=2^(l.length-1+1);rw[show l.length-1+1=l.length from by omega];exact hb) (mb _ (by show l.length-1+1=l.length;omega))
theorem jmi:∀i:Fin 9,32∉kds.getD i.val []:=by decide
theorem jmx:∀k:Fin 100,32∉dg k.val:=by decide
theorem jfo{i c:Nat}{want:D}{wn:Int}{bs:List Int}{ow:Option (List Nat)}(O:Own i c want wn bs ow)(hc:cnt i c=af):(∀w∈ow.toList,32∉w)/\(ow.getD []).length<=16:=by
 rcases O with ⟨h,rfl⟩|⟨h,k,_,_,rfl⟩|⟨h,_,_,hb,rfl⟩
 .exact⟨λw hw=>(by cases hw),by simp⟩
 .refine⟨λw hw=>?_,?_⟩
  .rw[X3.mp hw];exact jmx k
  .have:=j5k k;rw[Xu];omega
 .subst h;refine⟨λw hw=>?_,?_⟩
  .rw[X3.mp hw];intro z;rcases tb_mem z with q|q<;>cases q
  .have c4:=N8 hc;have:=cu (n:=2) (by decide) c4;rw[Xu];unfold tb;rw[km,hb];exact this
theorem j7r{n:Nat}{bk:Int}{ps:List (List Nat)}{d:D}(h:Reads n bk ps d):ps≠[]:=by obtain⟨x,t,e,_⟩:=h.2;rw[e];intro z;cases z
noncomputable def brO(i:Nat)(want:D)(wn:Int)(bs:List Int)(ow:Option (List Nat))(xs:List Fo):Fo:=⟨brP Fo.ps (kds.getD i []) ow xs,brF Fo.d (kds.getD i []) ow xs,.lst [tx (kds.getD i []),want,.lst (xs.map Fo.f)],λrow=>sf i wn bs (xs.map λx=>x.g row)⟩
theorem je5:∀{ow:Option (List Nat)},(ow.getD []).length<=16->wt ow.toList<=17
 |none,_=>by simp[wt]
 |some w,h=>by rw[Xu]at h;show w.length+1+0<=17;omega
theorem jd6{L:List (List Nat)}{h W:Nat}{xs:List Fo}(i:Nat)(hi:i<9){want:D}{wn:Int}{bs:List Int}{ow:Option (List Nat)}(hx:∀x∈xs,Good L h 3000 x)(h8:h<8)(hc:cnt i xs.length=af)(O:Own i xs.length want wn bs ow)(hW:28+(xs.map λx=>wt x.ps).sum<=W):Good L (h+1) W (brO i want wn bs ow xs):=by
 have cb:=N7 hc;have o32:=jfo O hc;have kl:=kd_len ⟨i,hi⟩;have kl:(kds.getD i []).length<=6:=kl;have n32:32∉kds.getD i []:=jmi ⟨i,hi⟩;have pk:(sL (kds.getD i [])==("place":ao))=ae:=Ny ⟨i,hi⟩;have hne:∀x∈xs,x.ps≠[]:=λx hx'=>j7r ((hx x hx').r 0 0 nofun);have h0:xs≠[]:=by intro z;rw[z]at cb;simp at cb
 have hw3:∀x∈xs,wt x.ps<=3000:=λx hx'=>(hx x hx').w;refine⟨λn bk hb=>?_,?_,λn s hs=>?_,λn row hr=>?_,λn=>?_,λn row hr=>?_,?_⟩
 .have:=j7s (n:=n+2*h+4) (bk:=bk) (pcs:=Fo.ps) (frm:=Fo.d) (its:=xs) nofun (jk9 hi hc O) nofun λx hx'=>(hx x hx').r n (bk+1) nofun
  rwa [show n+2*h+4+2=n+2*(h+1)+4 from by omega]at this
 .intro l hl;show 32∉l;rcases xr.mp hl with rfl|hl
  .decide
  .rcases xr.mp hl with rfl|hl
   .exact n32
   .rcases Xx.mp hl with hl|hl
    .exact o32.1 l hl
    .rcases Xx.mp hl with hl|hl
     .obtain⟨x,hx',hl⟩:=List.mem_flatMap.mp hl;exact(hx x hx').b l hl
     .rw[X3.mp hl];decide
 .have:=jcn (n:=n+h+1) (frm:=Fo.d) (ow:=ow) (its:=xs) (s:=s) (L:=L) pk nofun λx hx'=>(hx x hx').k n hs;exact this
 .have e:(xs.map λx=>b2i (x.g row))=(xs.map λx=>x.g row).map b2i:=by rw[Xc];rfl
  have l1:(xs.map λx=>x.g row).length=xs.length:=km ..;have y:=jiq (n:=n+h+1) (l:=xs.map λx=>x.g row) hi (by rw[l1];exact hc) (by rw[l1];exact O);rw[<-e]at y;have y:evP 1000 G T (n+h+5) "says_yes" [tx (kds.getD i []),tx (ow.getD []),.lst ((xs.map λx=>b2i (x.g row)).map D.int)]=.val (.bl (sf i wn bs (xs.map λx=>x.g row))):=y;have sb:U6 (n+h+6) ((L.map sL).zip row) (brF Fo.d (kds.getD i []) ow xs) (b2i (sf i wn bs (xs.map λx=>x.g row))):=jbi (n:=n+h+5) (frm:=Fo.d) (v:=λx=>b2i (x.g row)) pk nofun (λx hx'=>(hx x hx').s n row hr) y;rw[show n+(h+1)+5=n+h+6 from by omega];exact sb
 .have ht:∀x∈xs,evP 1000 G T (n+h+1) "_law_text" [x.f,.lst (L.map tx)]=.val (tx (jn x.ps)):=λx hx'=>(hx x hx').t n;have ol:=o32.2;rcases O with ⟨z,rfl⟩|⟨z,k,rfl,_,rfl⟩|⟨z,rfl,hb,hbl,rfl⟩
  .have:=jch ht h0 nofun hne hw3 (want:=want) ⟨i,hi⟩ z;rw[show n+(h+1)+1=n+h+1+1 from by omega];exact this
  .rcases z with rfl|rfl
   .have:=j0z ht h0 nofun hne hw3 0 k;rw[show n+(h+1)+1=n+h+1+1 from by omega];exact this
   .have:=j0z ht h0 nofun hne hw3 1 k;rw[show n+(h+1)+1=n+h+1+1 from by omega];exact this
  .subst z;rw[show n+(h+1)+1=n+h+1+1 from by omega];refine jcg ht h0 nofun hne hw3 hb ?_;rw[Xu]at ol;unfold tb at ol
   rwa [km]at ol
 .have hl:∀x∈xs,evP 1000 G T (n+h+2) "_law_says" [x.f,Qn row]=.val (.bl (x.g row)):=λx hx'=>(hx x hx').l n row hr;rw[show n+(h+1)+2=n+h+2+1 from by omega];refine jjy hl nofun nofun nofun i hi (λz=>?_) (λz=>?_) λz=>jao z hc
  .rcases O with ⟨q,_⟩|⟨_,k,rfl,rfl,_⟩|⟨q,_⟩
   .rcases z with rfl|rfl<;>cases q
   .rfl
   .omega
  .subst z;rcases O with ⟨q,_⟩|⟨q,_⟩|⟨_,q1,_,q2,_⟩
   .cases q
   .omega
   .have c4:=N8 hc;have v:=j9z ⟨xs.length-1,by omega⟩ (xs.map λx=>x.g row) (Fd (by rw[km];show xs.length=xs.length-1+1;omega));refine⟨q1,?_⟩;rw[q2];have e:xs.length-1+1=xs.length:=by omega
    have v:vl (xs.map λx=>x.g row)<2^(xs.length-1+1):=v
    rwa [e]at v
 .have e1:=je5 o32.2;have e2:wt (xs.flatMap Fo.ps)=(xs.map λx=>wt x.ps).sum:=by
   clear hW O hc hx hne h0 hw3 cb;induction xs with
   |nil=>rfl
   |cons x r ih=>rw[T6,Ba,ih,X5,T7]
  have e3:wt (brP Fo.ps (kds.getD i []) ow xs)=2+((kds.getD i []).length+1)+(wt ow.toList+(wt (xs.flatMap Fo.ps)+2)):=by unfold brP;rw[show lp::kds.getD i []::(ow.toList++(xs.flatMap Fo.ps++[rp]))=[lp,kds.getD i []]++(ow.toList++(xs.flatMap Fo.ps++[rp]))from rfl,Ba,Ba,Ba];simp[wt,lp,rp]
  show wt (brP Fo.ps (kds.getD i []) ow xs)<=W;omega
theorem jgm:[D.str "not",D.str "all",D.str "any",D.str "odd",D.str "least",D.str "just",D.str "table",D.str "ring",D.str "joined"]=kds.map tx:=by
 have h:[("not":ao),"all","any","odd","least","just","table","ring","joined"]=kds.map sL:=by decide +kernel
 have:=congrArg (List.map D.str) h;rw[Xc]at this;exact this
theorem kq:∀i:Fin 9,(sL (kds.getD i.val [])==("not":ao))=decide (i.val=0)/\(sL (kds.getD i.val [])==("table":ao))=decide (i.val=6)/\(sL (kds.getD i.val [])==("ring":ao))=decide (i.val=7)/\(sL (kds.getD i.val [])==("joined":ao))=decide (i.val=8):=by decide +kernel
noncomputable def mx(c k:Int):Int:=(c%2147483647+11)*(48271+614*k+2*k*k)%2147483647/8
theorem W5 {n:Nat} {c k:Int} (hk:0<=k/\k<=100):evP 1000 G T (n+1) "_law_mixed" [.int c,.int k]=.val (.int (mx c k)):=by rw[jr (F:=Ol) (by rfl) rfl];simp only[Ol,Wq,enter];have hc:=T3 c (b:=2147483647) (by decide);have hc2:=Ti c (b:=2147483647) (by decide);ext;rfl
theorem M9:Zq (aa (.a [.e (.str "not"),.e (.str "all"),.e (.str "any"),.e (.str "odd"),.e (.str "least"),.e (.str "just"),.e (.str "table"),.e (.str "ring"),.e (.str "joined")]))=aa (.v (.o (kds.map tx))):=by rw[<-jgm];exact Uk rfl (by simp)
noncomputable def fmB:Sx:=(.seq (.set 9 (.bin .fdiv (.bin .sub (.var 1) (.lit (.int 1))) (.lit (.int 4)))) (.seq (.ife (.cmp .eq (.var 8) (.var 6)) (.seq (.set 9 (.bin .sub (.var 1) (.lit (.int 1)))) .nop) .nop) (.seq (.app 7 (.call "_law_form" (.cons (.call "_law_mixed" (.cons (.var 0) (.cons (.bin .add (.var 8) (.var 1)) .nil))) (.cons (.var 9) (.cons (.and (.var 2) (.cmp .eq (.var 8) (.var 6))) (.cons (.var 3) .nil)))))) .nop)))
noncomputable def fmR:Sx:=(.seq (.set 10 (.ix (.lst (.cons (.bin .mod (.bin .fdiv (.var 0) (.lit (.int 810))) (.bin .add (.var 5) (.lit (.int 3)))) (.cons (.bin .mod (.bin .fdiv (.var 0) (.lit (.int 810))) (.lit (.int 100))) .nil))) (.blt .int (.cons (.cmp .eq (.bin .mod (.bin .fdiv (.var 0) (.lit (.int 7))) (.lit (.int 8))) (.lit (.int 3))) .nil)))) (.seq (.keep 10) (.seq (.ife (.cmp .eq (.var 4) (.lit (.str "table"))) (.seq (.fgt 8) (.seq (.set 10 (.comp [8] (.bin .mod (.call "_law_mixed" (.cons (.var 0) (.cons (.bin .add (.lit (.int 20)) (.var 8)) .nil))) (.lit (.int 2))) (.range (.cons (.bin .shl (.lit (.int 1)) (.var 5)) .nil)) .nil)) (.seq (.keep 10) .nop))) .nop) (.seq (.keep 7) (.seq (.ret (.lst (.cons (.var 4) (.cons (.var 10) (.cons (.var 7) .nil))))) .nop)))))
noncomputable def fmI:Sx:=(.ife (.or (.cmp .eq (.var 1) (.lit (.int 0))) (.and (.cmp .eq (.bin .mod (.var 0) (.lit (.int 5))) (.lit (.int 0))) (.not (.var 2)))) (.seq (.ret (.lst (.cons (.lit (.str "place")) (.cons (.bin .mod (.bin .fdiv (.var 0) (.lit (.int 5))) (.var 3)) (.cons (.lst .nil) .nil))))) .nop) .nop)
noncomputable def fmS:Sx:=(.seq (.set 4 (.ix (.lst (.cons (.lit (.str "not")) (.cons (.lit (.str "all")) (.cons (.lit (.str "any")) (.cons (.lit (.str "odd")) (.cons (.lit (.str "least")) (.cons (.lit (.str "just")) (.cons (.lit (.str "table")) (.cons (.lit (.str "ring")) (.cons (.lit (.str "joined")) .nil)))))))))) (.bin .mod (.bin .fdiv (.var 0) (.lit (.int 5))) (.lit (.int 9))))) (.seq (.set 5 (.bin .add (.lit (.int 1)) (.bin .mod (.bin .fdiv (.var 0) (.lit (.int 45))) (.lit (.int 3))))) (.seq (.ife (.cmp .eq (.var 4) (.lit (.str "not"))) (.seq (.set 5 (.lit (.int 1))) .nop) .nop) (.seq (.ife (.cmp .eq (.var 4) (.lit (.str "table"))) (.seq (.set 5 (.bin .add (.lit (.int 1)) (.bin .mod (.bin .fdiv (.var 0) (.lit (.int 45))) (.lit (.int 4))))) .nop) .nop) (.seq (.ife (.or (.cmp .eq (.var 4) (.lit (.str "ring"))) (.cmp .eq (.var 4) (.lit (.str "joined")))) (.seq (.set 5 (.lit (.int 6))) .nop) .nop) (.seq (.set 6 (.bin .mod (.bin .fdiv (.var 0) (.lit (.int 135))) (.var 5))) (.seq (.set 7 (.lst .nil)) (.seq (.loop [8] (.range (.cons (.var 5) .nil)) (.seq (.set 9 (.bin .fdiv (.bin .sub (.var 1) (.lit (.int 1))) (.lit (.int 4)))) (.seq (.ife (.cmp .eq (.var 8) (.var 6)) (.seq (.set 9 (.bin .sub (.var 1) (.lit (.int 1)))) .nop) .nop) (.seq (.app 7 (.call "_law_form" (.cons (.call "_law_mixed" (.cons (.var 0) (.cons (.bin .add (.var 8) (.var 1)) .nil))) (.cons (.var 9) (.cons (.and (.var 2) (.cmp .eq (.var 8) (.var 6))) (.cons (.var 3) .nil)))))) .nop)))) (.seq (.set 10 (.ix (.lst (.cons (.bin .mod (.bin .fdiv (.var 0) (.lit (.int 810))) (.bin .add (.var 5) (.lit (.int 3)))) (.cons (.bin .mod (.bin .fdiv (.var 0) (.lit (.int 810))) (.lit (.int 100))) .nil))) (.blt .int (.cons (.cmp .eq (.bin .mod (.bin .fdiv (.var 0) (.lit (.int 7))) (.lit (.int 8))) (.lit (.int 3))) .nil)))) (.seq (.keep 10) (.seq (.ife (.cmp .eq (.var 4) (.lit (.str "table"))) (.seq (.fgt 8) (.seq (.set 10 (.comp [8] (.bin .mod (.call "_law_mixed" (.cons (.var 0) (.cons (.bin .add (.lit (.int 20)) (.var 8)) .nil))) (.lit (.int 2))) (.range (.cons (.bin .shl (.lit (.int 1)) (.var 5)) .nil)) .nil)) (.seq (.keep 10) .nop))) .nop) (.seq (.keep 7) (.seq (.ret (.lst (.cons (.var 4) (.cons (.var 10) (.cons (.var 7) .nil))))) .nop)))))))))))))
theorem jkg{N d:Nat}{c m:Int}{must:Bool}(hm:must=af\/c%5≠0):run 1000 (evP 1000 G T N) G fmI [.val (.int c),.val (.int ((d+1:Nat):Int)),.val (.bl must),.val (.int m),.un,.un,.un,.un,.un,.un,.un]=.next [.val (.int c),.val (.int ((d+1:Nat):Int)),.val (.bl must),.val (.int m),.un,.un,.un,.un,.un,.un,.un]:=by
 have d0:((d+1:Nat):Int)≠0:=by omega
 unfold fmI;rcases hm with rfl|hz
 .by_cases z:c%5=0
  .ext
  .ext
 .ext
theorem jdc {N d:Nat} {c m:Int} {must:Bool} (hm:must=af\/c%5≠0):∃i cc:Nat,i<9/\cnt i cc=af/\evP 1000 G T (N+1) "_law_form" [.int c,.int ((d+1:Nat):Int),.bl must,.int m]=fin (Ve (vo (Mp [8] (run 1000 (evP 1000 G T N) G fmB)) (upto 0 (cc:Int).toNat) [.val (.int c),.val (.int ((d+1:Nat):Int)),.val (.bl must),.val (.int m),.val (tx (kds.getD i [])),.val (.int (cc:Int)),.val (.int (c/135%(cc:Int))),.own [],.un,.un,.un]) (run 1000 (evP 1000 G T N) G fmR)):=by
 obtain⟨i,hi,ei⟩:∃i:Nat,i<9/\c/5%9=(i:Int):=⟨(c/5%9).toNat,by omega,by omega⟩
 obtain⟨q0,q6,q7,q8⟩:=kq ⟨i,hi⟩;have q0:(sL (kds.getD i [])==("not":ao))=decide (i=0):=q0;have q6:(sL (kds.getD i [])==("table":ao))=decide (i=6):=q6;have q7:(sL (kds.getD i [])==("ring":ao))=decide (i=7):=q7;have q8:(sL (kds.getD i [])==("joined":ao))=decide (i=8):=q8;obtain⟨c3,h3,e3⟩:∃c3:Nat,(1<=c3/\c3<=3)/\1+c/45%3=(c3:Int):=⟨(1+c/45%3).toNat,by omega,by omega⟩
 obtain⟨c4,h4,e4⟩:∃c4:Nat,(1<=c4/\c4<=4)/\1+c/45%4=(c4:Int):=⟨(1+c/45%4).toNat,by omega,by omega⟩
 have st:evP 1000 G T (N+1) "_law_form" [.int c,.int ((d+1:Nat):Int),.bl must,.int m]=fin (run 1000 (evP 1000 G T N) G fmS [.val (.int c),.val (.int ((d+1:Nat):Int)),.val (.bl must),.val (.int m),.un,.un,.un,.un,.un,.un,.un]):=by rw[jr (F:=Mh) (by rfl) rfl];show fin (run 1000 (evP 1000 G T N) G (.seq fmI fmS) [.val (.int c),.val (.int ((d+1:Nat):Int)),.val (.bl must),.val (.int m),.un,.un,.un,.un,.un,.un,.un])=_;rw[j0s,jkg hm,Dn]
 rw[st];unfold fmS;by_cases h0:i=0
 .refine⟨i,1,hi,by rw[h0];rfl,?_⟩;ext;rw[M9];ext;rw[ei,Iv (L:=kds) hi];ext;rw[q0,decide_eq_true h0];ext;rw[q6,decide_eq_false nofun];ext;rw[q7,decide_eq_false nofun];ext;rw[q8,decide_eq_false nofun];ext;rfl
 .by_cases h6:i=6
  .refine⟨i,c4,hi,by subst h6;exact decide_eq_true h4,?_⟩;ext;rw[M9];ext;rw[ei,Iv (L:=kds) hi];ext;rw[q0,decide_eq_false h0];ext;rw[q6,decide_eq_true h6];ext;rw[e4,q7,decide_eq_false nofun];ext;rw[q8,decide_eq_false nofun];ext;rfl
  .by_cases h7:7<=i
   .refine⟨i,6,hi,by rcases(by omega:i=7\/i=8)with rfl|rfl<;>rfl,?_⟩;ext;rw[M9];ext;rw[ei,Iv (L:=kds) hi];ext;rw[q0,decide_eq_false h0];ext;rw[q6,decide_eq_false h6];ext;rw[q7];by_cases z:i=7
    .rw[decide_eq_true z];ext;rfl
    .rw[decide_eq_false z];ext;rw[q8,decide_eq_true nofun];ext;rfl
   .refine⟨i,c3,hi,by unfold cnt;rw[if_neg h0,if_neg h6,if_neg h7];exact decide_eq_true h3,?_⟩;ext;rw[M9];ext;rw[ei,Iv (L:=kds) hi];ext;rw[e3,q0,decide_eq_false h0];ext;rw[q6,decide_eq_false h6];ext;rw[q7,decide_eq_false nofun];ext;rw[q8,decide_eq_false nofun];ext;rfl
theorem j09{f:D->En->So}{ds:List D}{ρ:En}{g:En->So}{Q:Rc->Prop}(W:Nat->En->Prop)(h0:W 0 ρ)(hs:∀i d ρ,ds[i]?=aa d->W i ρ->∃ρ',f d ρ=.next ρ'/\W (i+1) ρ')(hk:∀ρ',W ds.length ρ'->Q (fin (g ρ'))):Q (fin (Ve (vo f ds ρ) g)):=by
 obtain⟨ρ',e,w⟩:=V8 (f:=f) W (k:=0) (ds:=ds) (ρ:=ρ) h0 λi d ρ hi w=>by rw[Th]at w ⊢;exact hs i d ρ hi w
 rw[e];rw[Th]at w;exact hk ρ' w
noncomputable def wl(d:Nat):Nat:=[9,91,173,255,337,911,1485,2059,2633].getD d 0
theorem j1l:∀d:Fin 9,9<=wl d.val/\wl d.val<=3000/\wl (d.val/4)<=3000:=by decide
theorem jir:∀d:Fin 8,28+(6*wl (d.val/4)+wl d.val)<=wl (d.val+1):=by decide
theorem Fg{a b:D}{l:List D}:Zq (aa (.a [.e a,.e b,.o l]))=aa (.v (.o [a,b,.lst l])):=Uk rfl (by simp)
theorem jdd {N:Nat} {c m:Int} {deep:Nat} {must:Bool} (hm:0<m) (h:deep=0\/(c%5=0/\must=ae)):evP 1000 G T (N+1) "_law_form" [.int c,.int (deep:Int),.bl must,.int m]=.fresh [.str "place",.int (c/5%m),.lst []]:=by
 rw[jr (F:=Mh) (by rfl) rfl];simp only[Mh,Mq,enter];rcases h with rfl|⟨h1,rfl⟩
 .ext;rw[Fg];ext
 .by_cases z:(deep:Int)=0
  .ext;rw[Fg];ext
  .ext;rw[Fg];ext
theorem Vz{Γ:ao->List D->Rc}{f:ao}{a b c d:D}:Jv Γ f (aa (.a [.e a,.e b,.e c,.e d]))=rcW (Γ f [a,b,c,d]):=Uo rfl
theorem j5b {L:List (List Nat)} (hL:1<=L.length/\L.length<=6) (hw:∀l∈L,Wd l) (h8:∀l∈L,l.length<=8) (hn:L.Nodup):∀(deep:Nat),deep<=8->∀(n:Nat)(c:Int)(must:Bool),∃(x:Fo)(l:List D),evP 1000 G T (n+deep+2) "_law_form" [.int c,.int (deep:Int),.bl must,.int (L.length:Int)]=.fresh l/\x.f=.lst l/\Good L deep (wl deep) x:=by
 intro deep;induction deep using Nat.strongRecOn with
 |ind deep ih =>
 intro hd n c must;by_cases hp:deep=0\/(c%5=0/\must=ae)
 .obtain⟨k,hk,ek⟩:∃k:Nat,k<L.length/\c/5%(L.length:Int)=(k:Int):=by
   have h1:=T3 (c/5) (b:=(L.length:Int)) nofun
   have h2:=Ti (c/5) (b:=(L.length:Int)) nofun
   exact⟨(c/5%(L.length:Int)).toNat,by omega,by omega⟩
  refine⟨_,_,jdd (N:=n+deep+1) nofun hp,?_,good_mono (jd5 hk hw h8 hn) (Te _) (j1l ⟨deep,by omega⟩).1⟩;rw[ek];rfl
 obtain⟨d,rfl⟩:∃d,deep=d+1:=⟨deep-1,by omega⟩
 have hm:must=af\/c%5≠0:=by
  cases must with
  |true=>exact .inl rfl
  |false=>exact .inr λz=>hp (.inr ⟨z,rfl⟩)
 obtain⟨i,cc,hi,hc,e⟩:=jdc (N:=n+d+2) (d:=d) (c:=c) (m:=(L.length:Int)) (must:=must) hm;have cb:=N7 hc;obtain⟨ch,hch,ech⟩:∃ch:Nat,ch<cc/\c/135%(cc:Int)=(ch:Int):=by
  have h1:=T3 (c/135) (b:=(cc:Int)) nofun
  have h2:=Ti (c/135) (b:=(cc:Int)) nofun
  exact⟨(c/135%(cc:Int)).toNat,by omega,by omega⟩
 have w1:=j1l ⟨d,by omega⟩;have w2:=jir ⟨d,by omega⟩;have w1:9<=wl d/\wl d<=3000/\wl (d/4)<=3000:=w1;have w2:28+(6*wl (d/4)+wl d)<=wl (d+1):=w2;have e:evP 1000 G T (n+(d+1)+2) "_law_form" [.int c,.int ((d+1:Nat):Int),.bl must,.int (L.length:Int)]=_:=e;rw[e,ech,Xh,Qa];refine j09 (Q:=λr=>∃(x:Fo)(l:List D),r=.fresh l/\x.f=.lst l/\Good L (d+1) (wl (d+1)) x) (λk ρ=>∃(xs:List Fo)(s8 s9:Sv),ρ=[.val (.int c),.val (.int ((d+1:Nat):Int)),.val (.bl must),.val (.int (L.length:Int)),.val (tx (kds.getD i [])),.val (.int (cc:Int)),.val (.int (ch:Int)),.own (xs.map Fo.f),s8,s9,.un]/\xs.length=k/\(∀x∈xs,Good L d 3000 x)/\(xs.map λx=>wt x.ps).sum<=k*wl (d/4)+(if ch<k then wl d else 0)) ⟨[],.un,.un,rfl,rfl,(λx hx=>by cases hx),by simp⟩ ?_ ?_
 .rintro k dd ρ hk ⟨xs,s8,s9,rfl,xl,xg,xw⟩;rw[Xa]at hk;obtain⟨k',hk',rfl⟩:=Xv.mp hk;obtain⟨hlt,ek⟩:=Xe.mp hk';rw[List.getElem_range]at ek;subst ek;rw[Pr]at hlt;have ed:((d+1:Nat):Int)-1=(d:Int):=by omega
  have ed4:(d:Int)/4=((d/4:Nat):Int):=by omega
  have ms:evP 1000 G T (n+d+2) "_law_mixed" [.int c,.int (0+(k:Int)+((d+1:Nat):Int))]=.val (.int (mx c (0+(k:Int)+((d+1:Nat):Int)))):=W5 (n:=n+d+1) nofun
  have xl':(xs.map Fo.f).length<=1000:=by rw[km];omega
  simp only[Q4];unfold fmB;ext;rw[ed];have fin':∀{x:Fo}{l:List D}{D':Nat}{s9:Sv},x.f=.lst l->Good L D' (wl D') x->D'<=d->wl D'<=3000->wl D'<=wl (d/4)+(if ch<k+1 then wl d else 0)-(if ch<k then wl d else 0)->∃(xs':List Fo)(s8 s9':Sv),[Sv.val (D.int c),.val (.int ((d+1:Nat):Int)),.val (.bl must),.val (.int (L.length:Int)),.val (tx (kds.getD i [])),.val (.int (cc:Int)),.val (.int (ch:Int)),.own (xs.map Fo.f++[.lst l]),.val (.int (0+(k:Int))),s9,.un]=[.val (.int c),.val (.int ((d+1:Nat):Int)),.val (.bl must),.val (.int (L.length:Int)),.val (tx (kds.getD i [])),.val (.int (cc:Int)),.val (.int (ch:Int)),.own (xs'.map Fo.f),s8,s9',.un]/\xs'.length=k+1/\(∀x∈xs',Good L d 3000 x)/\(xs'.map λx=>wt x.ps).sum<=(k+1)*wl (d/4)+(if ch<k+1 then wl d else 0):=λ{x l D' s9} ef g hD h3 hW=>by
   refine⟨xs++[x],_,_,by rw[Ph,X5,d4,ef],by rw[X7,xl];rfl,λy hy=>?_,?_⟩
   .rcases Xx.mp hy with z|z
    .exact xg y z
    .rw[X3.mp z];exact good_mono g hD h3
   .have:=g.w;rw[Ph,iY,X5,d4,T7,List.sum_nil,Nat.add_mul];have:(if ch<k then wl d else 0)<=(if ch<k+1 then wl d else 0):=by
     by_cases z:ch<k
     .rw[if_pos z,if_pos nofun];exact X6 _
     .rw[if_neg z];exact Te _
    omega
  by_cases hkc:k=ch
  .have hW:wl d<=wl (d/4)+(if ch<k+1 then wl d else 0)-(if ch<k then wl d else 0):=by rw[if_pos nofun,if_neg nofun];omega
   rw[vh,decide_eq_true nofun];ext;rw[ed,ms];cases must with
   |false =>
    obtain⟨x,l,ex,ef,g⟩:=ih d nofun nofun n (mx c (0+(k:Int)+((d+1:Nat):Int))) ae;ext
    try rw[Vz]
    rw[ex];ext;exact⟨_,rfl,fin' ef g (X6 _) w1.2.1 hW⟩
   |true =>
    obtain⟨x,l,ex,ef,g⟩:=ih d nofun nofun n (mx c (0+(k:Int)+((d+1:Nat):Int))) af;ext
    try rw[Vz]
    rw[ex];ext;exact⟨_,rfl,fin' ef g (X6 _) w1.2.1 hW⟩
  .have hW:wl (d/4)<=wl (d/4)+(if ch<k+1 then wl d else 0)-(if ch<k then wl d else 0):=by
    by_cases z:ch<k
    .rw[if_pos z,if_pos nofun];omega
    .rw[if_neg z];omega
   have le:n+(d-d/4)+d/4+2=n+d+2:=by omega
   rw[vh,decide_eq_false nofun];ext;rw[ms,ed4];cases must with
   |false =>
    obtain⟨x,l,ex,ef,g⟩:=ih (d/4) nofun nofun (n+(d-d/4)) (mx c (0+(k:Int)+((d+1:Nat):Int))) ae;rw[le]at ex;ext
    try rw[Vz]
    rw[ex];ext;exact⟨_,rfl,fin' ef g nofun w1.2.2 hW⟩
   |true =>
    obtain⟨x,l,ex,ef,g⟩:=ih (d/4) nofun nofun (n+(d-d/4)) (mx c (0+(k:Int)+((d+1:Nat):Int))) ae;rw[le]at ex;ext
    try rw[Vz]
    rw[ex];ext;exact⟨_,rfl,fin' ef g nofun w1.2.2 hW⟩
 .rintro ρ' ⟨xs,s8,s9,rfl,xl,xg,xw⟩;rw[km,Pr]at xl xw;have hc':cnt i xs.length=af:=by rw[xl];exact hc
  have hW:28+(xs.map λx=>wt x.ps).sum<=wl (d+1):=by rw[if_pos hch]at xw;have:=i5 (wl (d/4)) cb.2;omega
  have gb:=λ{want:D} {wn:Int} {bs:List Int} {ow:Option (List Nat)} (O:Own i cc want wn bs ow)=>jd6 (L:=L) (h:=d) (W:=wl (d+1)) (xs:=xs) i hi (want:=want) (wn:=wn) (bs:=bs) (ow:=ow) xg nofun hc' (by rw[xl];exact O) hW;have q6:(sL (kds.getD i [])==("table":ao))=decide (i=6):=(kq ⟨i,hi⟩).2.1;have xl':(xs.map Fo.f).length<=1000:=by rw[km];omega
  obtain⟨k,hk⟩:∃k:Fin 100,atI [D.int (c/810%((cc:Int)+3)),.int (c/810%100)] (if decide (c/7%8=3)=af then 1 else 0)=aa (.int ((k.val:Nat):Int)):=by
   have h1:=T3 (c/810) (b:=(cc:Int)+3) nofun
   have h2:=Ti (c/810) (b:=(cc:Int)+3) nofun
   by_cases z:c/7%8=3
   .rw[if_pos (decide_eq_true z)];refine⟨⟨(c/810%100).toNat,by omega⟩,?_⟩;show aa _=aa _;congr 2;show _=(((c/810%100).toNat:Nat):Int)
    omega
   .rw[if_neg (by rw[decide_eq_false z];decide)];refine⟨⟨(c/810%((cc:Int)+3)).toNat,by omega⟩,?_⟩;show aa _=aa _;congr 2;show _=(((c/810%((cc:Int)+3)).toNat:Nat):Int)
    omega
  unfold fmR;ext;erw[vh,hk];rw[q6];by_cases h6:i=6
  .have c4:cc<=4:=N8 (by rw[<-h6];exact hc);have p4:2^cc<=16:=cu (n:=2) (by decide) c4;have p4':(1:Int)*2^((cc:Int)).toNat=((2^cc:Nat):Int):=by rw[Xh,lj];simp
   have b01:∀b∈(aK (2^cc)).map λ(k:Nat)=>mx c (20+(0+(k:Int)))%2,b=0\/b=1:=λb hb=>by obtain⟨k,_,rfl⟩:=Xd.mp hb;exact Int.emod_two_eq _
   have bl:((aK (2^cc)).map λ(k:Nat)=>mx c (20+(0+(k:Int)))%2).length=2^cc:=by simp
   erw[decide_eq_true h6,p4'];rw[Xh,zj (l:=((aK (2^cc)).map λ(k:Nat)=>mx c (20+(0+(k:Int)))%2).map D.int) (by rfl) (by rw[zm];omega) ?_ (.inl rfl)]
   .ext;exact⟨_,_,rfl,rfl,gb (wn:=0) (.inr (.inr ⟨h6,rfl,b01,bl,rfl⟩))⟩
   .rw[Qa,Xc];refine qt λk hk'=>vq (by ext) ?_;have hk2:=Xw.mp hk';ext;rw[W5 (n:=n+d+1) nofun];ext;rfl
  .rw[decide_eq_false h6];ext;by_cases h4:i=4\/i=5
   .exact⟨_,_,rfl,rfl,gb (bs:=[]) (.inr (.inl ⟨h4,k,rfl,rfl,rfl⟩))⟩
   .exact⟨_,_,rfl,rfl,gb (wn:=0) (bs:=[]) (.inl ⟨by unfold V5;rw[ph,ph,decide_eq_true_eq,decide_eq_true_eq,decide_eq_true_eq];omega,rfl⟩)⟩
theorem jkp:T "_law_cell" = aa KL.fL_cell:=by rfl
theorem jko:T "_law_same" = aa KL.fL_same:=by rfl
theorem j90:T "all_choices" = aa KL.fP_all_choices:=by rfl
theorem jh0:T "_law_words" = aa KW.fL_words:=by rfl
theorem jmr:T "_law_row" = aa KL.fL_row:=by rfl
theorem jbs {n m:Nat} (h:1<=m/\m<=6):evP 1000 G T (n+2) "rows_of" [.int m]=.fresh (Qz (Qi m)):=by
 rw[jr (F:=Wb) (by rfl) rfl];simp only[Wb,Vt,enter];ext;rw[j26 (n:=n) nofun];ext;simp only[gA];have hrep:(az (m:Int).toNat [D.tup [.int 0,.int 1]]).flatten=Qz (az m [0,1]):=by
  rw[Xh];have:∀k:Nat,(az k [D.tup [.int 0,.int 1]]).flatten=Qz (az k [0,1]):=by
   intro k;induction k with
   |zero=>rfl
   |succ k ih=>rw[Pb,T4,ih];rfl
  exact this m
 ext;rw[hrep,Eo j90 (λf hf=>by rw[(List.mem_replicate.mp hf).2];decide) (by rw[eE];omega)];ext;have hc:zy (az m [0,1])=Qi m:=by
  rw[j38];have:∀k:Nat,W3 (az k [0,1])=Qi k:=by
   intro k;induction k with
   |zero=>rfl
   |succ k ih=>rw[Pb,W3,ih,Qi];simp
  exact this m
 rw[hc]
theorem jf2 {n:Nat} {s:List D->D} (hs:s=D.tup\/s=D.lst) {L:List (List Nat)} (h1:1<=L.length/\L.length<=6) (hw:∀l∈L,Wd l) (hn:L.Nodup):evP 1000 G T (n+3) "refuse_wrong_places" [s (L.map tx)]=.val .non:=by
 rcases hs with rfl|rfl
 .rw[jr (F:=zr) (by rfl) rfl];simp only[zr,zu,enter];ext;rw[j26 nofun];ext;obtain⟨s',e⟩:=placesOk (n:=n+2) (P:=.tup (L.map tx)) (λl ha hl=>Wy ha nofun) L [] .un (by simp;omega) (λl hl=>⟨⟨(hw l hl).a,(hw l hl).l⟩,(hw l hl).w⟩) (by simpa using hn);rw[Tj]at e;rw[show([]:List D)=([]:List (List Nat)).map tx from rfl,e];ext
 .exact jjb h1 (λl hl=>(hw l hl).w) (λl hl=>⟨(hw l hl).a,(hw l hl).l⟩) hn
theorem gQ:G (qm "Pieces")=aa .non:=by rfl
theorem jh2 {n:Nat} {ps:List (List Nat)} {d:D} (R:Reads n 0 ps d) (hb:bf ps) (hl:wt ps<=100000):evP 1000 G T (n+1) "form_of" [.str (sL (jn ps))]=.val d:=by
 have hne:ps≠[]:=by obtain⟨x,t,e,_⟩:=R.2;rw[e];intro z;cases z
 have sp:=j74 hne hb;have hlen:ps.length<=wt ps:=by
  clear R hb hl hne sp;unfold wt;induction ps with
  |nil=>simp
  |cons x ps ih=>rw[X5,T7,xx];omega
 have top:=R.1 (ps.map sL) 0 [] (by rw[Xo];rfl);rw[jr (F:=We) (by rfl) rfl];simp only[We,Vv,enter];ext;rw[gQ,show decide (1<(2+1))=af from rfl,jg2 (Xf (jl ps) hl) (by rw[sp,km];omega),sp];ext;rw[show((0:Nat):Int)=0 from rfl]at top ⊢;rw[top];ext;rw[j24,if_pos (by rw[km];omega)];ext
theorem j0o{L:List (List Nat)}:strsOf (L.map tx)=aa (L.map sL):=by rw[show L.map tx=(L.map sL).map D.str from by rw[Xc];rfl];exact Vl
theorem jdl{s:List D->D}(hs:s=D.tup\/s=D.lst){L:List (List Nat)}{row:List Int}(hn:L.Nodup)(hl:L.length=row.length)(h6:L.length<=6):Wh (aa (.v (.e (s (L.map tx))))) (aa (.v (.e (Qn row))))=aa (.v (.e (.sct ((L.map sL).zip row)))):=by
 have hnd:(L.map sL).Nodup:=by unfold l9;rw[iI];exact kA (λh e=>h (Ue e)) hn
 have hc:(L.map sL).Nodup/\(L.map sL).length=row.length/\jm (L.map sL).length=af:=⟨hnd,by rw[km];omega,by simp only[jm,km];exact decide_eq_true (J1 nofun)⟩
 rcases hs with rfl|rfl
 .simp only[Wh,Rk.st,fj,D.sqv,j0o,W9];rw[if_pos hc]
 .simp only[Wh,Rk.st,fj,D.sqv,j0o,W9];rw[if_pos hc]
theorem jjj{n m:Nat}{s:List D->D}(hs:s=D.tup\/s=D.lst){L:List (List Nat)}{ps:List (List Nat)}{d:D}{g:List Int->Int}(hm:1<=m/\m<=6)(hL:L.length=m)(hw:∀l∈L,Wd l)(hn:L.Nodup)(R:Reads (n+10) 0 ps d)(hb:bf ps)(hl:wt ps<=100000)(K:Keeps (n+11) s L d)
  (S:∀row∈Qi m,U6 (n+11) ((L.map sL).zip row) d (g row)):evP 1000 G T (n+12) "question_read" [.str (sL (jn ps)),s (L.map tx)]=.val (.tup [.tup (L.map tx),.tup ((Qi m).map λrow=>D.int (g row))]):=by
 have ff:=jh2 R hb hl;have rp:=jf2 (n:=n+8) hs nofun hw hn;have ln:vd .len (aa (.a [.e (s (L.map tx))]))=aa (.v (.e (.int (m:Int)))):=by
  rcases hs with rfl|rfl
  .rw[jac,km,hL]
  .rw[jad,km,hL]
 have tp:vd .tuple (aa (.a [.e (s (L.map tx))]))=aa (.v (.e (.tup (L.map tx)))):=by rcases hs with rfl|rfl<;>rfl
 unfold Keeps at K;rw[jr (F:=Z0) (by rfl) rfl];simp only[Z0,Jw,enter];ext;erw[rp,ff,K,ln,jbs (n:=n+9) hm];rw[zj (l:=(Qi m).map λrow=>D.int (g row)) (by rfl) (by rw[km,Rb];have:2^m<=2^6:=cu (by decide) hm.2;omega) ?_ (.inl rfl)]
 .ext;rw[tp];ext
 .refine qt λrow hr=>vq (by ext) ?_;have rl:row.length=m:=by rw[<-W0]at hr;obtain⟨k,_,rfl⟩:=Xd.mp hr;exact Ji _ _ _
  have sr:=S row hr;unfold U6 at sr;ext;erw[jdl hs hn nofun nofun,sr]
theorem jex {n:Nat} {L:List (List Nat)} {A:List Int} (h1:L.length<=1000) (h2:A.length<=1000):evP 1000 G T (n+3) "_law_same" [qT L A,qT L A]=.val (.bl af):=by
 refine j41 jko 2 ?_ ?_
 .have:=Eh L;have:=Cg A;unfold qT;simp only[D.dep,D.depL];omega
 .unfold qT;simp only[J8];refine⟨by simp,Yx λd hd=>?_⟩;simp only[xr,dJ,or_false]at hd;rcases hd with rfl|rfl
  .exact j8a h1
  .exact j4s h2
theorem Du:∀L:List (List Nat),qj (L.map tx)=af
 |[]=>rfl
 |x::L=>by simp[qj,Jl,Du L]
theorem j2m(l:List Int):qj (l.map D.int)=af:=by
 induction l with
 |nil=>rfl
 |cons x l ih=>simp[qj,Jl,ih]
theorem j5j{m:Nat}{z:Int}:r01 m (zc 2 m z):=⟨Ji ..,jkw m z⟩
theorem j27 {n:Nat} {L:List (List Nat)} {h W:Nat} {x:Fo} (g:Good L h W x) (h8:h<=8) (hW:W<=100000) (hL:1<=L.length/\L.length<=6) (hw:∀l∈L,Wd l) (hn:L.Nodup):evP 1000 G T (n+23) "_law_right" [x.f,.lst (L.map tx)]=.val (.bl af):=by
 have g:=good_mono g h8 (X6 W);have p64:2^L.length<=64:=cu (n:=2) (j:=6) (by decide) hL.2;have tt:evP 1000 G T (n+22) "_law_text" [x.f,.lst (L.map tx)]=.val (tx (jn x.ps)):=g.t (n+13);have ss:∀k:Nat,evP 1000 G T (n+22) "_law_says" [x.f,Qn (zc 2 L.length (k:Int))]=.val (.bl (x.g (zc 2 L.length (k:Int)))):=λk=>g.l (n+12) _ j5j;have rs:∀k:Nat,evP 1000 G T (n+22) "_law_row" [.int (L.length:Int),.int (k:Int)]=.val (Qn (zc 2 L.length (k:Int))):=λk=>j7p (n:=n+21) jmr hL.2;have qr:=jjj (n:=n+10) (m:=L.length) (s:=D.lst) (.inr rfl) (g:=λrow=>b2i (x.g row)) hL rfl hw hn (g.r n 0 nofun) g.b (Xf g.w hW) (g.k (n+12) (.inr rfl)) (λrow hr=>by
  refine g.s (n+8) row ?_
  rw[<-W0]at hr
  obtain⟨k,_,rfl⟩:=Xd.mp hr
  exact j5j)
 obtain⟨A,hA⟩:∃A:List Int,A=(aK (2^L.length)).map λ(k:Nat)=>b2i (x.g (zc 2 L.length (k:Int))):=⟨_,rfl⟩
 have qr:evP 1000 G T (n+22) "question_read" [tx (jn x.ps),.lst (L.map tx)]=.val (.tup [.tup (L.map tx),.tup (A.map D.int)]):=by rw[hA,Xc];rw[<-W0,Xc]at qr;exact qr
 have sq:evP 1000 G T (n+22) "_law_same" [.tup [.tup (L.map tx),.tup (A.map D.int)],.tup [.tup (L.map tx),.tup (A.map D.int)]]=.val (.bl af):=jex (n:=n+19) nofun (by rw[hA,km,Pr];omega)
 have ns':Ja .ne (.lst (L.map tx)) (.lst (L.map tx))=aa ae:=by
  have:=Eh L;rw[j9b nofun nofun,Yy]
  .rfl
  .omega
 obtain⟨M,hM⟩:∃M:Nat,M=2^L.length:=⟨_,rfl⟩
 have p4':(1:Int)*2^((L.length:Int)).toNat=(M:Int):=by rw[hM,Xh,lj];simp
 rw[<-hM]at p64 hA;rw[jr (F:=Oj) (by rfl) rfl];simp only[Oj,Wo,enter];ext;rw[p4'];ext;rw[Xh,zj (l:=A.map D.int) (by rfl) (by rw[zm];omega) ?_ (.inl rfl)];rotate_left
 .rw[Qa,hA,Xc];refine qt λk hk=>vq (by ext) ?_;ext;rw[show(0:Int)+(k:Int)=(k:Int)from by omega,rs k];ext;rw[ss k];ext;rfl
 ext;rw[tt];ext
 try rw[Ey]
 erw[qr,jer (by simp[Jl,qj,Du,j2m]),ns']
 try rw[sq]
 ext
theorem Ie{l:List D}{a b:Option Int}{d:D}(h:d∈cutD l a b):d∈l:=by unfold cutD at h;exact eJ (cR h)
theorem j1f{l:List D}{a b:Option Int}:(cutD l a b).length<=l.length:=by unfold cutD;rw[Xj,P0];omega
noncomputable def depth:Nat:=23
theorem lawTrue:∀ns:List Int,ns.length<=63->evP 1000 G T (depth+1) "law" [.lst (ns.map D.int)]=.val (.bl af):=by
 intro ns hns;rw[jr (F:=j2y) (by rfl) rfl];simp only[j2y,j3b,enter,depth];have ce:∀k:Nat,k<=100->evP 1000 G T 23 "_law_cell" [.lst (ns.map D.int),.int (k:Nat)]=.val (.int (zf ns k)):=λk hk=>j62 (n:=22) jkp hk;have c0:evP 1000 G T 23 "_law_cell" [.lst (ns.map D.int),.int 0]=.val (.int (zf ns 0)):=ce 0 nofun
 have c1:evP 1000 G T 23 "_law_cell" [.lst (ns.map D.int),.int 1]=.val (.int (zf ns 1)):=ce 1 nofun
 have c2:evP 1000 G T 23 "_law_cell" [.lst (ns.map D.int),.int 2]=.val (.int (zf ns 2)):=ce 2 nofun
 obtain⟨m,hm,em⟩:∃m:Nat,(1<=m/\m<=6)/\1+zf ns 0%6=(m:Int):=⟨(1+zf ns 0%6).toNat,by omega,by omega⟩
 have wd:evP 1000 G T 23 "_law_words" [.int (zf ns 1),.int m]=.fresh ((Q9 (zf ns 1) m).map D.str):=j1k (n:=22) jh0 hm;rw[j6p]at wd;have wlen:(wL (zf ns 1) m).length=m:=by unfold wL;simp
 have ww:=je6 (c:=zf ns 1) hm.2;have wn:=j6q (c:=zf ns 1) hm.2;have wo:=jis (zf ns 1) m;generalize wL (zf ns 1) m=L at *;subst wlen;have hw:∀l∈L,Wd l:=λl hl=>⟨ww l hl,(wo l hl).1,(wo l hl).2⟩
 have h8:∀l∈L,l.length<=8:=λl hl=>by have:=ww l hl;unfold isW at this;rw[Xb,Xb,decide_eq_true_eq,decide_eq_true_eq]at this;exact this.1.2
 have w3:∀d,d<=8->wl d<=3000:=λd hd=>(j1l ⟨d,by omega⟩).2.1;have fs:∀(d:Nat)(c:Int)(b:Bool),d<=8->∃(x:Fo)(l:List D),evP 1000 G T 23 "_law_form" [.int c,.int (d:Int),.bl b,.int (L.length:Int)]=.fresh l/\x.f=.lst l/\Good L 8 3000 x:=λd c b hd=>by obtain⟨x,l,e,ef,g⟩:=j5b hm hw h8 wn d hd (21-d) c b;rw[show 21-d+d+2=23 from by omega]at e;exact⟨x,l,e,ef,good_mono g hd (w3 d hd)⟩
 have rt:∀{x:Fo},Good L 8 3000 x->evP 1000 G T 23 "_law_right" [x.f,.lst (L.map tx)]=.val (.bl af):=λ{x} g=>j27 (n:=0) g (X6 _) (by decide) hm hw wn;obtain⟨d0,hd0,ed0⟩:∃d0:Nat,d0<=8/\zf ns 2%9=(d0:Int):=⟨(zf ns 2%9).toNat,by omega,by omega⟩
 obtain⟨x0,l0,e0,ef0,g0⟩:=fs d0 (zf ns 2/9) (decide (zf ns 2/9%2=0)) hd0;ext;erw[c0,em,c1,wd,c2,vh];rw[ed0]
 try rw[Vz]
 erw[e0,Uk (l:=[.lst l0]) rfl (by simp)];rw[<-ef0];have cl:(cutD (ns.map D.int) (aa 3) (aa 7)).length<=63:=Xf j1f (by rw[km];exact hns);refine Y9 (λk ρ=>∃(xs:List Fo)(s3:Sv),ρ=[.val (.lst (ns.map D.int)),.val (.int (L.length:Int)),.own (L.map tx),s3,.own (xs.map Fo.f),.un]/\xs.length=k+1/\∀x∈xs,Good L 8 3000 x) ⟨[x0],_,rfl,rfl,λx hx=>by rw[X3.mp hx];exact g0⟩ ?_ ?_
 .rintro k d ρ hk ⟨xs,s3,rfl,xl,xg⟩;have hkl:=(Xe.mp hk).1;obtain⟨c,_,rfl⟩:=Xd.mp (Ie (Xl hk));obtain⟨d1,hd1,ed1⟩:∃d1:Nat,d1<=8/\1+c%3=(d1:Int):=⟨(1+c%3).toNat,by omega,by omega⟩
  have ms:evP 1000 G T 23 "_law_mixed" [.int c,.int 90]=.val (.int (mx c 90)):=W5 (n:=22) nofun
  obtain⟨x,l,e,ef,g⟩:=fs d1 (mx c 90) af hd1;have xl':(xs.map Fo.f).length<=1000:=by rw[km];omega
  simp only[Q4];ext;rw[ms];ext;rw[ed1]
  try rw[Vz]
  rw[e];ext;refine⟨_,rfl,xs++[x],.val (.int c),?_,?_,λy hy=>?_⟩
  .rw[Ph,X5,d4,ef]
  .rw[X7,xl];rfl
  .rcases Xx.mp hy with z|z
   .exact xg y z
   .rw[X3.mp z];exact g
 rintro ρ' ⟨xs,s3,rfl,xl,xg⟩;have xl':(xs.map Fo.f).length<=1000:=by rw[km];omega
 have cl2:(cutD (xs.map Fo.f) ah (aa 1)).length<=1000:=Xf j1f xl';ext;refine Y9 (λ_ ρ=>∃s5:Sv,ρ=[.val (.lst (ns.map D.int)),.val (.int (L.length:Int)),.own (L.map tx),s3,.own (xs.map Fo.f),s5]) ⟨.un,rfl⟩ ?_ ?_
 .rintro k d ρ hk ⟨s5,rfl⟩;obtain⟨x,hx,rfl⟩:∃x∈xs,x.f=d:=by
   rcases Xx.mp (Xl hk)with z|z
   .exact Xd.mp z
   .exact Xd.mp (Ie z)
  simp only[Q4];ext;rw[rt (xg x hx)];ext;exact⟨_,rfl,_,rfl⟩
 .rintro ρ' ⟨s5,rfl⟩;ext
end K12
end
open PySem PySem.W PyProof.Rows
local macro_rules | `(tactic| walk_at "lf") => `(tactic| (refine' L2.lf_mk ?a ?l ?c ?k; (case a => k_is); (case l => k_is); (case c => k_is); (case k => k_is)))
local macro_rules | `(tactic| walk_at "lm") => `(tactic| (refine' L2.lm_mk ?a ?i ?l ?c ?k; (case a => k_is); (case i => k_is); (case l => k_is); (case c => k_is); (case k => k_is)))
set_option Elab.async false
namespace PySem.W.Fast
def tw5987380310992540694:=0
def tw9684648109141396672:=0
def tw2477793833794518701:=0
def tw6013686905857471451:=0
def tw1648214204546309969:=0
def tw8612040371891515383:=0
def tw13607404299084638849:=0
def tw834205768681004584:=0
def tw9256968357372773375:=0
def tw1881927931303778364:=0
def tw13882176557648059100:=0
def tw1731314643138062945:=0
def tw5665205757482000048:=0
def tw15380715317860654635:=0
def tw634878552447144339:=0
def tw11757959980732083070:=0
def tw2948468229987200894:=0
def tw13792180012898659476:=0
def tw3085786971811618957:=0
def tw10114010511562094921:=0
def tw13928828401666884253:=0
def tw10480076673728149421:=0
def tw7863212419493736696:=0
def tw2984153450535625218:=0
def tw11309450870098443195:=0
def tw6287007838563620664:=0
def tw18233435486290439431:=0
def tw407807456580642471:=0
def tw6756161213225259671:=0
def tw6749929760081630268:=0
def tw13486757260697700777:=0
def tw8213334917994094065:=0
def tw1175423683907076260:=0
def tw6504393800147789843:=0
def tw13317811707573099532:=0
def tw2519934194077422214:=0
def tw14534249367864023512:=0
def tw5382519203294064153:=0
def tw6119500563673538262:=0
def tw13482550750439450048:=0
def tw1562031167286669996:=0
def tw8054712223659474859:=0
def tw2248720031046406843:=0
def tw10208821791875002507:=0
def tw276867141074951303:=0
def tw16336554644962612080:=0
def tw7250837656388037222:=0
def tw11704014617103400115:=0
def tw2141681107410759776:=0
def tw10757771939082983825:=0
def tw10985127177075201325:=0
def tw15878185413030081602:=0
def tw9966938204077065658:=0
def tw9594023006018656068:=0
def tw12383654956887089216:=0
def tw11636584777051436567:=0
def tw15331596271684100394:=0
def tw10109693729457943981:=0
def tw8869159748907785041:=0
def tw6370669836189011464:=0
def tw99925682138416961:=0
def tw17237112090468018028:=0
def tw18379590277963811265:=0
def tw12862992170492734870:=0
def tw8700053181849789111:=0
def tw4813122655146536513:=0
def tw13891985241425536279:=0
def tw3278415883398638991:=0
def tw1967210423001007483:=0
def tw10388184095522281021:=0
def tw3628007971609960633:=0
def tw4425640696020932193:=0
def tw5654874212374255761:=0
def tw9316630106847660474:=0
def tw10064874536420892741:=0
def tw14549619968136910111:=0
def tw7813630852640380805:=0
def tw12741780138422048490:=0
def tw17273621858640138069:=0
def tw9444704644793047432:=0
def tw1753652125428607939:=0
def tw4403676609472329042:=0
def tw15663458792869520272:=0
def tw12882741089238897779:=0
def tw3527403035042362675:=0
def tw4471332576216907463:=0
def tw6264259863897359949:=0
def tw8118958874686831972:=0
def tw8349792811476720390:=0
def tw6583372569998946795:=0
def tw15966549302440320215:=0
def tw1689557509082504244:=0
def tw13834189446152108429:=0
def tw5009409567805905510:=0
def tw2039106639761081162:=0
def tw918561721933342716:=0
def tw15474653721229391532:=0
def tw17246636571911139411:=0
def tw5881839360089029331:=0
def tw187790112238556408:=0
def tw18382113115558475551:=0
def tw1058973612296092690:=0
def tw17607579977299976742:=0
end PySem.W.Fast
set_option maxRecDepth 100000 in
set_option maxHeartbeats 0 in
theorem PySem.Challenge.cw_leastasks_k12_forms_say_holds : PySem.Challenge.rw_leastasks_k12_forms_say.Holds := by
  w_on; o_law; k_head; (case hw => w_witness2)
  k_fill
  refine L2.walkL (l := PySem.Challenge.rw_leastasks_k12_forms_say) (k := L2.lv (K12.depth + 1)) (x := "_law_script") (by decide) rfl rfl (ts := []) (fun w h Y => ⟨PySem.W.kIn_of Y, fun _ h => nomatch h⟩) ?tz ?F
  case tz => intro w; kernel_rfl
  case F =>
    intro w mg fa h KX Gn hmg tz
    refine' K12.head KX Gn hmg ?h0 ?h1 ?h2 ?h3 ?h4 ?h5 ?h6 ?h7 ?h8 ?h9 ?h10 ?h11 ?h12 ?h13 ?h14 ?h15 ?h16 ?h17 ?h18 ?h19 ?h20 ?h21 ?h22 ?h23 ?h24 ?h25 ?h26 ?h27 ?h28 ?h29 ?h30 ?h31 ?h32 ?h33 ?bz tz ?gn0 ?gn1 ?gn2 ?gn3 ?ga4l ?gn4 ?ga7l ?gn5 ?ga17l ?gn6 ?ga20l ?gn7 ?gn8 ?gn9 ?gn10 ?ga26l ?gn11 ?ga32l ?ga35l ?ga38l ?ga41l ?ga44l ?ga47l ?ga31l ?gn12 ?exa ?hpc K12.lawTrue
    (case h0 => walk_at "lf")
    (case h1 => walk_at "lf")
    (case h2 => walk_at "lf")
    (case h3 => walk_at "lf")
    (case h4 => walk_at "lf")
    (case h5 => walk_at "lf")
    (case h6 => walk_at "lf")
    (case h7 => walk_at "lf")
    (case h8 => walk_at "lf")
    (case h9 => walk_at "lf")
    (case h10 => walk_at "lf")
    (case h11 => walk_at "lf")
    (case h12 => walk_at "lf")
    (case h13 => walk_at "lf")
    (case h14 => walk_at "lf")
    (case h15 => walk_at "lf")
    (case h16 => walk_at "lf")
    (case h17 => walk_at "lf")
    (case h18 => walk_at "lf")
    (case h19 => walk_at "lf")
    (case h20 => walk_at "lf")
    (case h21 => walk_at "lf")
    (case h22 => walk_at "lf")
    (case h23 => walk_at "lf")
    (case h24 => walk_at "lf")
    (case h25 => walk_at "lf")
    (case h26 => walk_at "lf")
    (case h27 => walk_at "lf")
    (case h28 => walk_at "lf")
    (case h29 => walk_at "lf")
    (case h30 => walk_at "lf")
    (case h31 => walk_at "lf")
    (case h32 => walk_at "lf")
    (case h33 => walk_at "lf")
    (case gn0 => k_is)
    (case gn1 => k_is)
    (case gn2 => k_is)
    (case gn3 => k_is)
    (case gn4 => k_is)
    (case gn5 => k_is)
    (case gn6 => k_is)
    (case gn7 => k_is)
    (case gn8 => k_is)
    (case gn9 => k_is)
    (case gn10 => k_is)
    (case gn11 => k_is)
    (case gn12 => k_is)
    (case ga31l => k_is)
    (case ga47l => k_is)
    (case ga44l => k_is)
    (case ga41l => k_is)
    (case ga38l => k_is)
    (case ga35l => k_is)
    (case ga32l => k_is)
    (case ga26l => k_is)
    (case ga20l => k_is)
    (case ga17l => k_is)
    (case ga7l => k_is)
    (case ga4l => k_is)
    (case bz => kernel_rfl)
    (case exa => kernel_rfl)
    (case hpc => (refine' L2.PcH.mk ?at_ ?pg ?hd ?po ?sa ?mk_ ?kc ?nS ?nP ?mI ?mA ?mT ?mL; (case at_ => k_is); (case pg => k_is); (case hd => k_is); (case po => k_is); (case sa => k_is); (case mk_ => k_is); (case kc => k_is); (case nS => k_is); (case nP => k_is); (case mI => walk_at "lm"); (case mA => walk_at "lm"); (case mT => walk_at "lm"); (case mL => walk_at "lm")))
#print axioms PySem.Challenge.cw_leastasks_k12_forms_say_holds