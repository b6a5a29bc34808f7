import PyProof.Rows.All
import Wide.All
import OpenK.AllK
import Wide.FinOn
import Lean
import PyProof.EqAt
import PyProof.EqKinds
import PyProof.TupleCall
import PyProof.Rows.SetFrom
import KE.KDictList
import KE.KMinKey
import PyProof.ListRange
import KE.KIntText
import PyProof.ReprRoads
import PyProof.Rows.TupTab
import KE.KRevIter
import PyProof.TupleOfGen
import PyProof.StrBlockL
import PySem.Challenge.RW_leastasks_k47_whole_lies_settled
set_option Elab.async false
set_option linter.all false
set_option maxRecDepth 100000
set_option maxHeartbeats 4000000
set_option genSizeOf false
set_option genInjectivity false
open Option renaming some→a8,none→ae,isSome_some→eF,join_some→ip,getD_none→iq,map_some→iE,bind→jO
open Bool renaming false→a9,true→aa,eq_iff_iff→cj,not_eq_true'→di,and_false→g9,false_and→jG,true_and→jP,or_false→jQ,false_or→jR,and_true→jS
open PySem renaming wpAny_bind→af,starEach→ah,Addr→ai,Value→aj,Shared→ao,Str→aq,Expr→ar,sizeLine→av,wpAny_pure→aw,wpAny→ax,Program→ay,mainGlobals→az,model→aC,World→aD,eval→aE,Heap→aF,Around→aG,behindInMarks→aH,foldedSetIterable→aK,FuncData→aL,Pos→aM,Stmt→aN,swapsWith→aO,cellsFrom→aP,backTo→aR,cLine→aS,compareOp→aT,wpAny_Call_Name_kw→aU,wpAny_field→aW,wpAny_seqItems→aX,binaryOp→aY,Scope→b8,argBest→bf,Keyword→bg,attributeBase→bh,wpAny_mono→bo,NameKind→bp,wpAny_truthy_bool→bu,wpAny_pyIter_list→bx,wpAny_newObj_type→bA,wpAny_callSpecial?_slot→bD,keywordEach→bH,wpAny_setField_rec→bJ,codeAny→bK,assignEach→bL,IsPair→bR,call_meets→cb,codeAny_mono→cg,sizeLine_eq→cn,boot_len→cu,codeAny_builtin→cy,reprText→cG,wpAny_call_entry→cL,wpAny_holding→cO,wpAny_letGo→cQ,sliceBounds→cR,backToKw→cS,Env→cT,wpAny_passesOwn→d4,Obj→d7,strKind→de,Builtin→df,newFunctionEnv→dz,builtinsNs→dB,wpAny_comprehension_free→dN,pyNext→dO,plainId_quiet→dP,IsZip→dU,wpAny_pyNext_list_item→dZ,bootBuiltins→eA,Result→eB,letOwnedTupleGo→eE,wpAny_updateSeq_pair→eR,wpAny_tryCatch→eS,recursionLimit→eT,intItems→eU,bindArgs→eV,assign→eW,JoinOk→eX,IsPart→eY,GenState→eZ,intKind→f9,wpAny_onRaise→fm,wpAny_pyIter_tuple→fC,typeIs_str→fD,typeIs_int→fE,tupleKind_room_in1→fF,sysModules→fG,isTrue→fH,intText?→fU,draw→fV,concat_meets→fW,callerA→fX,BindsTo→fY,tupleKind→gf,seqItems?→gi,scanBound→gj,rawInt→gk,noFill_tuple_add→gn,numAt→gx,CmpOp→gy,wpAny_updateSeq→gC,wpAny_loadPart'→gD,wpAny_execs_nil→gE,holding→gL,ZipApart→gW,Model→gX,wpAny_binaryOp_repeat_ref→hJ,wpAny_standAt→i5,seq_tuple_add→i6,call→i7,Tok→i8,pushCells→ib,field→ic,bindL→ie,bindC→ig,again→ij,PassesOwn→ik,Arguments→il,spliced→iy,seqSlot_of→iz,relabel→iA,pyIter→iB,getItem→iC,wpAny_pyNext_list_end→iK,wpAny_isTrue_Compare1→iL,richCompare→iQ,lookup_relabel_local→iR,intItems_at→iS,compEnvC→iT,atKey→iU,Operator→iV,Meets→iW,wpAny_rule→jK,wpAny_call→jL,wpAny_Name→jM,wpAny_pyIter_enum→jW,wpAny_assign_Name→jX,newList→jY,call_sum_walkAnyS→jZ,wpAny_pyIter_zip→kv,wpAny_forIn_list→kx,wpAny_execs_cons→ky,rule→kz,DictEntry→kA,pushCells_keeps→kZ,Fin→l5,wpAny_setField→lz,wpAny_Compare1→lA,firstArgMember→lB,compPost→lC,Sem→lD,Params→lE,wpAny_attempt→lK,intBits_le_64→lL,eval_ListComp→lM,evalPart_none→lN,call_list_seq→lO
open List renaming replicate→au,range→aA,map_nil→bT,filterMap_cons→bZ,filter_cons_of_neg→cq,getElem?_set_self→cz,not_mem_nil→cC,foldl→cD,any_cons→cJ,map_congr_left→cM,nodup_nil→cV,getElem?_append_right→cW,contains_cons→cX,getElem?_set→dh,sum_cons→dm,getElem?_cons_succ→dD,filter_cons_of_pos→dE,take_of_length_le→dJ,range_succ_eq_map→dM,of_mem_zip→dR,mem_map_of_mem→eG,length_zipIdx→eO,filter_append→eP,drop_length→fq,cons_append→fv,length→fJ,nil_append→fK,forIn_cons→fM,filter_nil→fN,take_zero→fZ,forIn_nil→g4,foldl_nil→g6,getElem?_zip_eq_some→gp,exists_mem_of_ne_nil→gq,drop_eq_getElem_cons→gr,all_cons→gB,getElem?_replicate→gH,sum_replicate_nat→gN,set_set→gO,length_pos_of_mem→gP,getElem?_set_ne→hU,getElem?_mapIdx→hZ,getElem_of_mem→i9,zip_cons_cons→ir,reverse_cons→iF,foldl_append→iG,zipIdx_cons→iM,range'_succ→iN,any_toArray→iO,zipIdx_nil→iY,range_succ→iZ,mem_zipIdx→j3,map_const'→ja,length_zip→jv,find?_cons→jA,drop_zero→jF,any_map→k6,all_map→k7,range'→kE
open Option.some renaming inj→aB
open PySem.Builtin.SmallTypes renaming nextOf→aI,ownedTupleIsFree→b7,ownedTupleHandOut→cU
open PySem.Builtin.Str renaming strSliceIndices→aJ,tooLong→cA,occurrences→fj,glued→ly
open PySem.Value renaming ref→aQ,none→aZ,str→bj,int→br,bool→bQ,type→fP,notImplemented→gQ,isInt→jU
open Or renaming inl→aV,inr→bP
open PySem.NameKind renaming free→b9,cell→bC
open Ne renaming symm→ba
open False renaming elim→bc
open PyProof.Rows renaming envOfC→bq,IntsAre→cH,AllBare→dH,seqObj→f6,FormattedValue_plain→f7,IsTup→gz,subscriptTail_builtinR→iD,slot_tuple_getitem→jN,get?_update_seq→l6,formatField_str→l7,tail_any→lF,slicePart_none→lG,boot_min→lH,boot_max→lI,subscriptTail→lP,Constant_none→lQ
open PySem.PassesOwn renaming never→bB,leaving→gJ
open PySem.Builtin.Slice renaming slicePlaces→bE,sliceAdjust→cF,sliceApplied→eM,slicePartIndex→kr,sliceFields→ku
open PyProof.Rows.F renaming plain_set_update_loop→bF,entry_set_update_loop→dk
open PySem.Heap.SameBut renaming update→bG
open PySem.Builtin.Tuple renaming tupleExact→bI,tupleTooMany→eK,tupleItemsOf→ko,tupleCompareSizes→kq
open PySem.Txt renaming slice→bM,join→dY,mul→iu,split→lJ
open PySem.Builtin.List renaming listTooLong→bN
open PySem.Around renaming under_plainId→bO,frames_deeper→gK
open PySem.AutoSeq1 renaming wpAny_loadPart'→bS
open Function renaming comp→bU
open ForInStep renaming yield→bV
open PySem.F renaming slot_tuple_iterator_next→bW,args_tuple_add_2→cZ,plainAttrs_list→d8,entry_tuple_add→d9,slot_tuple_add→du,entry_min_loop→dy,slot_zip_next→dW,slot_int_rmul→dX,excBase_ValueError→fB,args_tuple_iterator_next_1→gb,entry_tuple_iterator_next→gv,slot_tuple_index→gR,slot_list_extend→gT,slot_list_append→gU,slot_list_index→gZ,slot_str_join→ia,args_tuple_mul_2→iP,entry_tuple_mul→jC,args_zip_next_1→jD,args_int_rmul_2→jE,slot_tuple_mul→jH,entry_zip_next→jI,entry_int_rmul→jJ,fills_int_mul→jV
open Nat renaming lt_succ_self→bX,lt_of_le_of_lt→d5,le_of_lt→dQ,pow_succ→ff,mul_comm→fg,lt_or_ge→fh,le_add_right→iX,succ_mul→kB,min_self→kC,le_of_eq→kD,log2_lt→l9
open Array renaming toList_append→bY,length_toList→cK,append_inj_right→dG,toList→jT
open PySem.W renaming nsIn→cf,OpenLaw→dj,WalkO→i4,Frag→lj
open PySem.SeqAt renaming EqAt→cB,RcAt→fQ
open PySem.Calls renaming evalArgs_plain→cE,callWith_builtin→dF,spliced_cons→eJ,spliced_nil→eQ,Name_function_global→fR
open PySem.Heap renaming SameBut→cN,ExtBut→fw
open PySem.Str renaming ofString→cP,empty→eC,cps→iI,length→lq
open PySem.Obj renaming mapSeq→cY,data_mapFields→iw
open Classical renaming propDecidable→d6
open Int renaming one_mul→dn,le_refl→dr,ediv_eq_zero_of_lt→dS,pow_pos→fO,fdiv_eq_ediv_of_nonneg→gu,zero_add→gY,add_mul_ediv_left→i3,natCast_nonneg→iH,mul_assoc→k8,pow_succ→kF,ne_of_gt→kH,mul_comm→kI,add_zero→kJ,mul_one→lh
open PySem.PyData renaming int→dC,showableAll→eD,hasDictAll→eN,depthAll→fi,showable→iv,hasDict→iJ,depth→jB
open Sum renaming inr→fc,inl→fe
open PySem.EqMixed renaming ne_str_int→k9,ne_str_bool→ka,ne_int_str→kc,ne_bool_str→ke,eq_str_int→kg,eq_str_bool→ki,eq_int_str→kl,eq_bool_str→kn
open PySem.EqNone renaming ne_str_none→kK,ne_none_str→kL,ne_none_none→kM,ne_none_int→kN,ne_none_bool→kO,ne_int_none→kP,ne_bool_none→kQ,eq_str_none→kR,eq_none_str→kS,eq_none_none→kT,eq_none_int→kU,eq_none_bool→kW,eq_int_none→kX,eq_bool_none→kY
def kh:=@List.getElem?_eq_getElem
def kj:=@List.getD_eq_getElem?_getD
def km:=@List.length_map
def xf:=@Bool.false_ne_true
def xg:=@PySem.Heap.get?_push_of_some
def xj:=@List.mem_singleton
def xm:=@List.mem_cons_of_mem
def xn:=@PySem.Heap.lt_size
def xq:=@List.getElem?_map
def xr:=@List.getElem?_eq_some_iff
def xu:=@List.mem_cons
def xx:=@Nat.le_refl
def X3:=@List.mem_cons_self
def X4:=@List.size_toArray
def X5:=@List.map_cons
def X6:=@List.length_cons
def X7:=@PySem.Heap.get?_push_size
def X8:=@Nat.ne_of_lt
def Xa:=@List.mem_append_right
def Xb:=@Bool.and_eq_true
def Xc:=@List.mem_range
def Xd:=@Int.toNat_natCast
def Xe:=@List.length_append
def Xf:=@List.length_range
def Xg:=@List.map_map
def Xh:=@Nat.le_trans
def Xi:=@List.lookup_cons
def Xj:=@List.mem_of_getElem?
def Xk:=@List.mem_map
def Xl:=@List.map_append
def Xm:=@Option.map_eq_some_iff
def Xn:=@List.nodup_cons
def Xo:=@Nat.lt_of_lt_of_le
def Xp:=@List.length_take
def Xq:=@List.append_nil
def Xr:=@List.contains_iff_mem
def Xu:=@List.mem_append_left
def Xv:=@Option.isSome_iff_exists
def Xw:=@List.set_cons_zero
def Xx:=@List.set_cons_succ
def Xy:=@Nat.lt_trans
def Xz:=@List.getElem?_eq_none
def ph:=@List.replicate_succ
def pq:=@List.getElem?_range
def Pa:=@List.all_eq_true
def Pb:=@PySem.Heap.size_push
def Pg:=@Int.emod_nonneg
def Ph:=@List.getElem_mem
def Pj:=@Nat.zero_le
def Pk:=@List.mem_append
def Pn:=@Nat.ne_of_gt
def Pq:=@Int.emod_lt_of_pos
def Pr:=@Nat.pow_le_pow_right
def Pu:=@Nat.le_succ
def Py:=@PySem.mem_of_lookup
def Pz:=@Bool.false_eq_true
def t6:=@Nat.lt_irrefl
def t7:=@PySem.F.plain_min_loop
def t8:=@List.take_add_one
def tu:=@List.getElem?_append_left
def T3:=@List.length_nil
def T4:=@List.take_length
def T5:=@List.flatten_cons
def T6:=@List.mem_filter
def T7:=@List.foldl_cons
def T8:=@Nat.zero_add
def T9:=@List.mem_filterMap
def Tc:=@List.length_replicate
def Td:=@List.length_filter_le
def Te:=@List.map_replicate
def Tf:=@List.map_singleton
def Tg:=@Bool.or_eq_true
def Th:=@List.eq_nil_iff_forall_not_mem
def Ti:=@List.append_assoc
def Tj:=@List.length_drop
def Tn:=@Option.getD_some
def Tq:=@List.length_singleton
def Tw:=@PySem.W.mg_of
def Tz:=@List.ext_getElem?
def sr:=@Nat.lt_succ_of_lt
def su:=@Nat.lt_of_succ_le
def k7e:=@And.intro
abbrev k7f:=lj
abbrev k7g:=aj→ao→Prop
abbrev k7h:=List (ai×d7)
abbrev k7i:=aq→Option aj
abbrev k7j:=("__debug__":aq)
abbrev k7k:=("__classdict__":aq)
local macro_rules | `(tactic| omega)=>`(tactic| first | with_reducible assumption | with_reducible exact Nat.le_of_lt (by assumption) | with_reducible exact Nat.le_refl _ | lia)
local macro_rules | `(nofun)=>`(by omega)
section
namespace L2
open PySem PySem.Spec PyProof.Rows
noncomputable abbrev Key:=Sum Int aq
noncomputable def j8h:Key->aj->Bool
 |.inl k,v=>jU k v
 |.inr x,v=>Value.isStrOf x v
noncomputable def jj0(w:aD):Key->Int
 |.inl k=>hashInt k
 |.inr x=>hashStr w x
theorem zy:∀{k:Key}{v:aj},j8h k v=aa->(∃i t,k=fe i/\v=br i t)\/(∃x t,k=fc x/\v=bj x t)
 |.inl i,v,h=>by obtain⟨t,e⟩:=Value.isInt_shape (k:=i) (v:=v) h;exact .inl ⟨i,t,rfl,e⟩
 |.inr x,v,h=>by obtain⟨t,e⟩:=Value.isStrOf_shape (x:=x) (v:=v) h;exact .inr ⟨x,t,rfl,e⟩
theorem jdo(a b:Int):decide ((fe a:Key)=fe b)=(a==b):=by
 by_cases e:a=b
 .subst e;simp
 .have h:¬(fe a:Key)=fe b:=λq=>e (Sum.inl.inj q);rw[decide_eq_false h];exact(beq_eq_false_iff_ne.mpr e).symm
theorem jdl(a b:aq):decide ((fc a:Key)=fc b)=decide (a=b):=by
 by_cases e:a=b
 .subst e;simp
 .have h:¬(fc a:Key)=fc b:=λq=>e (Sum.inr.inj q);rw[decide_eq_false h,decide_eq_false e]
theorem jdn(a:Int)(b:aq):decide ((fe a:Key)=fc b)=a9:=decide_eq_false (λq=>nomatch q)
theorem jdm(a:aq)(b:Int):decide ((fc a:Key)=fe b)=a9:=decide_eq_false (λq=>nomatch q)
noncomputable def j1d(prog:ay)(w:aD):PySem.KeyKind prog w Key where
 is:=j8h
 hash:=jj0 w
 inj:=λv a b ha hb=>by
  rcases zy ha with ⟨i,t,rfl,rfl⟩|⟨x,t,rfl,rfl⟩
  .rcases zy hb with ⟨j,u,rfl,e⟩|⟨y,u,rfl,e⟩
   .injection e with e1 _;rw[e1]
   .exact nomatch e
  .rcases zy hb with ⟨j,u,rfl,e⟩|⟨y,u,rfl,e⟩
   .exact nomatch e
   .injection e with e1 _;rw[e1]
 byValue:=λk v h=>by rcases zy h with ⟨i,t,rfl,rfl⟩|⟨x,t,rfl,rfl⟩<;>rfl
 pyHash:=λhv h=>by
  rcases zy hv with ⟨i,t,rfl,rfl⟩|⟨x,t,rfl,rfl⟩
  .exact wpAny_pyHash_int h
  .exact wpAny_pyHash_str h
 eqBool:=λhu hv h=>by
  rcases zy hu with ⟨i,t,rfl,rfl⟩|⟨x,t,rfl,rfl⟩
  .rcases zy hv with ⟨j,u,rfl,rfl⟩|⟨y,u,rfl,rfl⟩
   .rw[jdo]at h;exact wpAny_eqBool_int h
   .rw[jdn]at h;exact SeqAt.EqAt.int_str i t y u _ _ _ _ h
  .rcases zy hv with ⟨j,u,rfl,rfl⟩|⟨y,u,rfl,rfl⟩
   .rw[jdm]at h;exact SeqAt.EqAt.str_int x t j u _ _ _ _ h
   .rw[jdl]at h;exact wpAny_eqBool_str h
 «strs»:=λk x t v h=>by
  rcases zy h with ⟨i,u,rfl,e⟩|⟨y,u,rfl,e⟩
  .exact nomatch e
  .injection e with e1 _;subst e1;cases v<;>rfl
set_option genInjectivity true in
inductive V where
 |non|bl (b:Bool)|int (i:Int)|str (x:aq)|byt (b:Array UInt8)|flt (b:UInt64)|ref (a:ai)|ty (n:String)
 deriving DecidableEq
def RelV:V->aj->Prop
 |.non,u=>u=aZ
 |.bl b,u=>u=bQ b
 |.int i,u=>∃t,u=br i t
 |.str x,u=>∃t,u=bj x t
 |.byt b,u=>∃t,u=Value.bytes b t
 |.flt b,u=>∃t,u=Value.float b t
 |.ref a,u=>u=aQ a
 |.ty n,u=>u=fP n
abbrev Vals:List V->List aj->Prop:=Paired RelV
theorem Vals.length{xs:List V}{us:List aj}(r:Vals xs us):xs.length=us.length:=Paired.length r
theorem Vals.get:∀{xs:List V}{us:List aj}{i:Nat}{x:V},Vals xs us->xs[i]?=a8 x->∃u,us[i]?=a8 u/\RelV x u
 |_,_,_,_,.nil,e=>by simp at e
 |_,_,0,_,.cons r _,e=>by simp at e;subst e;exact⟨_,rfl,r⟩
 |_,_,i+1,x,.cons _ t,e=>by obtain⟨u,h1,h2⟩:=Vals.get (i:=i) (x:=x) t (by simpa using e);exact⟨u,by simpa using h1,h2⟩
theorem Vals.append:∀{xs ys:List V}{us ws:List aj},Vals xs us->Vals ys ws->Vals (xs++ys) (us++ws)
 |_,_,_,_,.nil,s=>s
 |_,_,_,_,.cons r t,s=>.cons r (Vals.append t s)
theorem Vals.take:∀{xs:List V}{us:List aj}(n:Nat),Vals xs us->Vals (xs.take n) (us.take n)
 |_,_,0,_=>.nil
 |_,_,_+1,.nil=>.nil
 |_,_,n+1,.cons r t=>.cons r (Vals.take n t)
theorem Vals.drop:∀{xs:List V}{us:List aj}(n:Nat),Vals xs us->Vals (xs.drop n) (us.drop n)
 |_,_,0,r=>r
 |_,_,_+1,.nil=>.nil
 |_,_,n+1,.cons _ t=>Vals.drop n t
def jfa:Option V->Option aj->Prop
 |some v,a8 u=>RelV v u
 |none,ae=>True
 |_,_=>False
def KV{κ:Type}:List (κ×V)->List (κ×aj)->Prop:=Paired λ(p:κ×V) (q:κ×aj)=>p.1=q.1/\RelV p.2 q.2
noncomputable def kV:Key->V
 |.inl i=>.int i
 |.inr x=>.str x
inductive HO where
 |lst (xs:List V)
 |tup (xs:List V)
 |dK (kvs:List (Key×V))|dT (kvs:List (List Key×V))
 |dI (xs:List (List Int×ai×aj)) (ep:Nat)
 |set (S:Int->Bool) (n:Nat)
 |ins (C dx:ai) (fs:List (aq×V))
 |own (x:ai)
 |xd (fs:List (aq×V))
 |met (f x:ai)
 |rng (lo hi:Int)
 |frz (o:d7) (u:HO)
 |tbl (ps:Array aj)
 |cod (q:aq)
 |ext (φ:aF->Prop)
noncomputable abbrev Hp:=ai->Option HO
noncomputable def upd(H:Hp)(a:ai)(o:HO):Hp:=λb=>if b=a then a8 o else H b
theorem jb{H:Hp}{a:ai}{o:HO}:upd H a o a=a8 o:=by unfold upd;rw[if_pos rfl]
theorem je{H:Hp}{a b:ai}{o:HO}(h:b≠a):upd H a o b=H b:=by unfold upd;rw[if_neg h]
theorem j8x{H:Hp}{a:ai}{o u:HO}:upd (upd H a o) a u=upd H a u:=by funext b;unfold upd;split<;>rfl
theorem J6{H:Hp}{a b:ai}{o:HO}(h:H a=a8 o)(h':H b=ae):a≠b:=by intro e;subst e;rw[h]at h';cases h'
def Zm(h:aF)(a:ai):Prop:=∀o,h.get? a=a8 o->o.dict=ae
theorem Zm.new(h:aF)(xs:Array aj):Zm (h.push { cls:=.type "tuple",data:=.seq xs }) h.objs.size:=λo e=>by have z:(h.push { cls:=.type "tuple",data:=.seq xs }).get? h.objs.size=a8 { cls:=.type "tuple",data:=.seq xs }:=X7 _ rfl;rw[z]at e;cases e;rfl
theorem Zm.of{h:aF}{a:ai}{d:Data}{c:aj}(e:h.get? a=a8 { cls:=c,data:=d }):Zm h a:=λo e'=>by rw[e]at e';cases e';rfl
def j3d(o:d7)(q:aq):Prop:=∃(vs:Array aj)(t:i8),o.data=.fields vs/\vs[1]?=a8 (.str q t)
section
variable(P:ay)(w:aD)
def jo(H:Hp)(h:aF)(a:ai):HO->Prop
 |.lst xs=>xs.length<=av/\∃(its:List aj)(n:Nat),Vals xs its/\h.get? a=a8 { cls:=.type "list",data:=.seq its.toArray n }
 |.tup xs=>xs.length<=av/\∃its:List aj,Vals xs its/\gz h a its.toArray/\Zm h a
 |.dK kvs=>kvs.length<=av/\(a==fG)=a9/\∃vs,KV kvs vs/\h.DictOf (j1d P w) a vs
 |.dT kvs=>kvs.length<=av/\(a==fG)=a9/\∃xs:List (List Key×ai×aj),
   Paired (λ(p:List Key×V) (q:List Key×ai×aj)=>p.1=q.1/\H q.2.1=a8 (.tup (p.1.map kV))/\RelV p.2 q.2.2) kvs xs /\
   ∃o es ep,h.get? a=a8 o/\o.ExactDict/\o.data=.dict es ep/\es.toList=xs.map (entryOfKey (gf (j1d P w)))/\(xs.map (·.1)).Nodup
 |.dI xs ep=>xs.length<=av/\(a==fG)=a9/\(xs.map λx=>x.1).Nodup/\∃(o:d7)(es:Array kA),h.get? a=a8 o/\o.ExactDict/\o.data=.dict es ep/\es.toList=xs.map (entryOfKey (gf (f9 P w)))
 |.set S n=>h.SetOf (f9 P w) a S n
 |.ins C dx fs=>H dx=a8 (.own a)/\fs.length<=1000/\dx≠a/\h.get? a=a8 (W.instObj C dx) /\
   ∃mA,h.Ns1 dx mA/\(∀f,jfa (fs.lookup f) (mA f))/\PySem.Within mA (fs.map (·.1))
 |.own _=>∃o,h.get? a=a8 o
 |.xd fs=>∃mA,h.Ns1 a mA/\∀f,jfa (fs.lookup f) (mA f)
 |.rng lo hi=>∃t u v,h.get? a=a8 { cls:=.type "range",data:=.fields #[.int lo t,.int hi u,.int 1 v] }
 |.frz o u=>h.get? a=a8 o/\jo H h a u
 |.tbl ps=>h.get? a=a8 { cls:=.none,data:=.fields ps }
 |.cod q=>∃ps:Array aj,h.get? a=a8 (W.tabObj ps)/\TriplesOk ps.toList/\∀pos cv,codeAmong pos ps.toList=a8 cv->∃(c:ai)(oc:d7),cv=.ref c/\H c=a8 (.frz oc (.own 0))/\j3d oc q
 |.met f x=>h.get? a=a8 (W.methodObj (.ref f) (.ref x))
 |.ext φ=>φ h/\(∃o,h.get? a=a8 o)/\∀h1 h2:aF,φ h1->(∀o,h1.get? a=a8 o->h2.get? a=a8 o)->φ h2
def HOk(H:Hp)(h:aF):Prop:=∀a o,H a=a8 o->jo P w H h a o
end
section
variable{P:ay}{w:aD}{H H':Hp}{h h':aF}{a:ai}{o:HO}
theorem jo.lt(x:jo P w H h a o):a<h.objs.size:=by
 cases o with
 |lst xs=>obtain⟨_,_,_,_,e⟩:=x;exact xn e
 |tup xs=>obtain⟨_,_,_,p,_⟩:=x;exact p.lt
 |dK kvs=>obtain⟨_,_,_,_,o,_,_,e,_⟩:=x;exact xn e
 |dT kvs=>obtain⟨_,_,_,_,o,_,_,e,_⟩:=x;exact xn e
 |dI xs ep=>obtain⟨_,_,_,o,_,e,_⟩:=x;exact xn e
 |set S n=>obtain⟨o,_,_,_,e,_⟩:=x;exact xn e
 |ins C dx fs=>obtain⟨_,_,_,e,_⟩:=x;exact xn e
 |own y=>obtain⟨_,e⟩:=x;exact xn e
 |xd fs=>obtain⟨_,⟨_,_,_,e,_⟩,_⟩:=x;exact xn e
 |rng lo hi=>obtain⟨_,_,_,e⟩:=x;exact xn e
 |frz ob u=>obtain⟨e,_⟩:=x;exact xn e
 |tbl ps=>exact xn (show h.get? a=a8 _ from x)
 |cod q=>obtain⟨_,e,_⟩:=x;exact xn e
 |met f y=>exact xn (show h.get? a=a8 _ from x)
 |ext φ=>obtain⟨_,⟨_,e⟩,_⟩:=x;exact xn e
theorem Paired.mapP{α β:Type}{F G:α->β->Prop}:∀{l₁:List α}{l₂:List β},Paired F l₁ l₂->(∀a b,F a b->G a b)->Paired G l₁ l₂
 |_,_,.nil,_=>.nil
 |_,_,.cons r t,f=>.cons (f _ _ r) (Paired.mapP t f)
theorem jo.stay(x:jo P w H h a o)(k:∀b u,(b=a\/H b=a8 (.own a))->h.get? b=a8 u->h'.get? b=a8 u)
  (ho:∀b,H b=a8 (.own a)->H' b=a8 (.own a)) (ht:∀b xs,H b=a8 (.tup xs)->H' b=a8 (.tup xs)) (hz:∀b o,(∃vs,o.data=.fields vs)->H b=a8 (.frz o (.own 0))->H' b=a8 (.frz o (.own 0))):jo P w H' h' a o:=by
 induction o with
 |lst xs=>obtain⟨z,its,n,r,e⟩:=x;exact⟨z,its,n,r,k _ _ (.inl rfl) e⟩
 |tup xs =>obtain⟨z,its,r,⟨ob,e,c⟩,nd⟩:=x;refine⟨z,its,r,⟨ob,k _ _ (.inl rfl) e,c⟩,λo q=>?_⟩;rw[k _ _ (.inl rfl) e]at q;cases q;exact nd _ e
 |dK kvs=>obtain⟨z,y,vs,r,ob,es,ep,e,c⟩:=x;exact⟨z,y,vs,r,ob,es,ep,k _ _ (.inl rfl) e,c⟩
 |dT kvs =>obtain⟨z,y,xs,r,ob,es,ep,e,c⟩:=x;exact⟨z,y,xs,Paired.mapP r λp q z=>⟨z.1,ht _ _ z.2.1,z.2.2⟩,ob,es,ep,k _ _ (.inl rfl) e,c⟩
 |dI xs ep=>obtain⟨z,y,nd,ob,es,e,c⟩:=x;exact⟨z,y,nd,ob,es,k _ _ (.inl rfl) e,c⟩
 |set S n=>obtain⟨ob,es,ep,t,e,c⟩:=x;exact⟨ob,es,ep,t,k _ _ (.inl rfl) e,c⟩
 |ins C dx fs =>obtain⟨d,z,ne,e,mA,⟨od,es,ep,e2,c⟩,r⟩:=x;exact⟨ho _ d,z,ne,k _ _ (.inl rfl) e,mA,⟨od,es,ep,k _ _ (.inr d) e2,c⟩,r⟩
 |own y=>obtain⟨ob,e⟩:=x;exact⟨ob,k _ _ (.inl rfl) e⟩
 |xd fs=>obtain⟨mA,⟨od,es,ep,e,c⟩,r⟩:=x;exact⟨mA,⟨od,es,ep,k _ _ (.inl rfl) e,c⟩,r⟩
 |rng lo hi=>obtain⟨t,u,v,e⟩:=x;exact⟨t,u,v,k _ _ (.inl rfl) e⟩
 |frz ob u ih=>obtain⟨e,q⟩:=x;exact⟨k _ _ (.inl rfl) e,ih q⟩
 |tbl ps =>have e:h.get? a=a8 { cls:=.none,data:=.fields ps }:=x;show h'.get? a=a8 { cls:=.none,data:=.fields ps };exact k a _ (.inl rfl) e
 |cod q=>obtain⟨ps,e,t,c⟩:=x;exact⟨ps,k _ _ (.inl rfl) e,t,λpos cv z=>let ⟨c,oc,e1,e2,e3⟩:=c pos cv z;⟨c,oc,e1,hz _ _ (let ⟨vs,_,z,_⟩:=e3;⟨vs,z⟩) e2,e3⟩⟩
 |met f y =>have e:h.get? a=a8 (W.methodObj (.ref f) (.ref y)):=x;show h'.get? a=a8 (W.methodObj (.ref f) (.ref y));exact k a _ (.inl rfl) e
 |ext φ=>obtain⟨p,⟨o,e⟩,st⟩:=x;exact⟨st _ _ p λo q=>k _ _ (.inl rfl) q,⟨o,k _ _ (.inl rfl) e⟩,st⟩
theorem HOk.lt(x:HOk P w H h)(e:H a=a8 o):a<h.objs.size:=(x a o e).lt
theorem HOk.fresh(x:HOk P w H h)(e:h.objs.size<=a):H a=ae:=by
 cases q:H a with
 |none=>rfl
 |some u=>exact absurd (Xo (x.lt q) e) (t6 _)
theorem HOk.kept(x:HOk P w H h)(k:∀b u,h.get? b=a8 u->h'.get? b=a8 u):HOk P w H h':=λa o e =>(x a o e).stay (λb u _ q=>k b u q) (λ_ q=>q) (λ_ _ q=>q) λ_ _ _ q=>q
theorem HOk.laid(x:HOk P w H h)(k:∀b u,h.get? b=a8 u->h'.get? b=a8 u)(hp:h.objs.size<=a)(new:jo P w (upd H a o) h' a o):HOk P w (upd H a o) h':=λb u e=>by
 have hn:=x.fresh hp;by_cases hb:b=a
 .subst hb;rw[jb]at e;cases e;exact new
 .rw[je hb]at e;exact(x b u e).stay (λc v _ q=>k c v q) (λc q=>by rw[je (J6 q hn)];exact q) (λc xs q=>by rw[je (J6 q hn)];exact q) λc _ _ q=>by rw[je (J6 q hn)];exact q
end
def Rd(H:Hp)(a:ai)(u:HO):Prop:=H a=a8 u\/∃o,H a=a8 (.frz o u)
theorem Rd.ok{P:ay}{w:aD}{H:Hp}{h:aF}{a:ai}{u:HO}(r:Rd H a u)(x:HOk P w H h):jo P w H h a u:=by
 rcases r with r|⟨o,r⟩
 .exact x a u r
 .obtain⟨_,q⟩:=x a _ r;exact q
def Mut:Option HO->Prop
 |some (.lst _)=>True
 |some (.dK _)=>True
 |some (.dT _)=>True
 |some (.dI _ _)=>True
 |some (.set _ _)=>True
 |some (.ins _ _ _)=>True
 |some (.ext _)=>True
 |some (.cod _)=>True
 |_=>False
section
variable{P:ay}{w:aD}{H:Hp}{h h':aF}{x e:ai}{o':HO}
theorem HOk.write(ok:HOk P w H h)(mu:Mut (H x))(he:e=x\/H e=a8 (.own x))(k:∀b u,b≠e->h.get? b=a8 u->h'.get? b=a8 u)(heo:∃u,h'.get? e=a8 u)
  (new:jo P w (upd H x o') h' x o'):HOk P w (upd H x o') h':=λb u q=>by
 have nown:∀c y,H c=a8 (.own y)->c≠x:=λc y r z=>by subst z;rw[r]at mu;exact mu
 have ntup:∀c xs,H c=a8 (.tup xs)->c≠x:=λc xs r z=>by subst z;rw[r]at mu;exact mu
 have nfrz:∀c o u,H c=a8 (.frz o u)->c≠x:=λc o u r z=>by subst z;rw[r]at mu;exact mu
 by_cases hb:b=x
 .subst hb;rw[jb]at q;cases q;exact new
 .rw[je hb]at q;by_cases hbe:b=e
  .have q':H b=a8 (.own x):=by
    rcases he with z|z
    .exact absurd (hbe.trans z) hb
    .rw[hbe];exact z
   rw[q]at q';cases q';obtain⟨v,hv⟩:=heo;exact⟨v,by rw[hbe];exact hv⟩
  .refine(ok b u q).stay (λc v hc r=>k c v ?_ r) (λc r=>by rw[je (nown c b r)];exact r) (λc xs r=>by rw[je (ntup c xs r)];exact r) λc o _ r=>by rw[je (nfrz c o _ r)];exact r
   rcases hc with rfl|hc
   .exact hbe
   .rintro rfl;rcases he with z|z
    .exact nown c b hc z
    .rw[hc]at z;cases z;exact hb rfl
end
structure Un(fs ex:List ai)(H H':Hp)(h h':aF):Prop where
 keep:∀b o,h.get? b=a8 o->H b=ae->b∉fs->b∉ex->h'.get? b=a8 o
 slot:∀b o,h.get? b=a8 o->H b=ae->b∈fs->b∉ex->∃sl,h'.get? b=a8 { o with slots:=sl }
 free:∀b o,h.get? b=a8 o->H b=ae->b∉ex->H' b=ae
 there:∀b o,h.get? b=a8 o->b∉ex->∃o',h'.get? b=a8 o'
 tups:∀b xs,H b=a8 (.tup xs)->H' b=a8 (.tup xs)
 frzs:∀b o u,H b=a8 (.frz o u)->H' b=a8 (.frz o u)
 tbls:∀b ps,H b=a8 (.tbl ps)->∃more,H' b=a8 (.tbl (ps++more))
section
variable{fs fs' ex ex':List ai}{H H1 H2:Hp}{h h1 h2 h':aF}{a x e:ai}{o:HO}
theorem Un.any(u:Un fs ex H H1 h h1){b:ai}{ob:d7}(q:h.get? b=a8 ob)(n:H b=ae)(hx:b∉ex):∃sl,h1.get? b=a8 { ob with slots:=sl }:=by
 by_cases hb:b∈fs
 .exact u.slot b ob q n hb hx
 .exact⟨ob.slots,u.keep b ob q n hb hx⟩
theorem Un.kept(k:∀b u,h.get? b=a8 u->h'.get? b=a8 u):Un fs ex H H h h' :=
 ⟨λb ob q _ _ _=>k b ob q,λb ob q _ _ _=>⟨ob.slots,k b ob q⟩,λ_ _ _ n _=>n,λb ob q _=>⟨ob,k b ob q⟩,λ_ _ q=>q,λ_ _ _ q=>q,λ_ ps q=>⟨#[],by rw[q];simp⟩⟩
theorem Un.refl:Un fs ex H H h h:=Un.kept λ_ _ q=>q
theorem Un.laid(k:∀b u,h.get? b=a8 u->h'.get? b=a8 u)(hp:h.objs.size<=a)(hn:H a=ae):Un fs ex H (upd H a o) h h' where
 keep:=λb u q _ _ _=>k b u q
 slot:=λb u q _ _ _=>⟨u.slots,k b u q⟩
 free:=λb u q n _=>by rw[je (X8 (Xo (xn q) hp))];exact n
 there:=λb u q _=>⟨u,k b u q⟩
 tups:=λb xs q=>by rw[je (J6 q hn)];exact q
 frzs:=λb u xs q=>by rw[je (J6 q hn)];exact q
 tbls:=λb ps q=>⟨#[],by rw[je (J6 q hn),q];simp⟩
theorem Un.write(mu:Mut (H x))(he:e=x\/H e=a8 (.own x))(k:∀b u,b≠e->h.get? b=a8 u->h'.get? b=a8 u)(heo:∃u,h'.get? e=a8 u):Un fs ex H (upd H x o) h h':=by
 have hx:∀b,H b=ae->b≠x:=λb n z=>by subst z;rw[n]at mu;exact mu
 have hb:∀b,H b=ae->b≠e:=λb n z=>by
  subst z;rcases he with r|r
  .exact hx b n r
  .rw[n]at r;cases r
 have hm:∀b u,H b=a8 u->¬Mut (a8 u)->b≠x:=λb u q nm z=>by subst z;rw[q]at mu;exact nm mu
 refine⟨λb u q n _ _=>k b u (hb b n) q,λb u q n _ _=>⟨u.slots,k b u (hb b n) q⟩,λb u q n _=>by rw[je (hx b n)];exact n,λb u q _=>?_,
  λb xs q=>by rw[je (hm b _ q λz=>z)];exact q,λb u xs q=>by rw[je (hm b _ q λz=>z)];exact q,λb ps q=>⟨#[],by rw[je (hm b _ q λz=>z),q];simp⟩⟩
 by_cases hbe:b=e
 .subst hbe;exact heo
 .exact⟨u,k b u hbe q⟩
end
noncomputable def trk(h:aF)(H:Hp):List ai:=(aA h.objs.size).filter λa=>(H a).isSome
noncomputable def W4(h:aF)(H:Hp):aF:=W.hideAll h (trk h H)
theorem j4o(h:aF)(H:Hp):(W4 h H).objs.size=h.objs.size:=W.hideAll_size _ _
theorem j6z{h:aF}{H:Hp}{b:ai}{o:d7}(e:h.get? b=a8 o)(n:H b=ae):(W4 h H).get? b=a8 o :=
 W.hideAll_get _ e λhm=>by have q:(H b).isSome=aa:=(T6.mp hm).2;rw[n]at q;simp at q
theorem ja6{h:aF}{H:Hp}{b:ai}{o:d7}(e:(W4 h H).get? b=a8 o):h.get? b=a8 o/\H b=ae:=by
 have e':h.get? b=a8 o:=W.of_hideAll (trk h H) e;refine⟨e',?_⟩;cases q:H b with
 |none=>rfl
 |some x =>have hm:b∈trk h H:=T6.mpr ⟨Xc.mpr (xn e'),by simp[q]⟩;have z:(W4 h H).get? b=ae:=W.hideAll_none (trk h H) hm;rw[z]at e;cases e
noncomputable def jbi(g h:aF)(L:ai):List (ai×d7):=(aA h.objs.size).filterMap λa=>if a=L\/(g.get? a).isSome=aa then ae else(h.get? a).map λo=>(a,o)
noncomputable def rest(g h:aF)(L d:ai):List (ai×d7):=(jbi g h L).filter λp=>decide (p.1≠d)
structure Mod(K:k7f)(mg:k7i)(base:aF):Prop where
 kin:K.In base
 glob:base.Ns az mg
 blt:∃mb,base.Ns dB mb/\∀x:aq,x ≠ "__name__"->mb x=eA x
 nolimit:base.NoLimit
 bm:∃bm ob,mg "__builtins__" = a8 (.ref bm)/\bm≠dB/\base.get? bm=a8 ob/\ob.cls=.type "module"/\ob.dict=a8 dB/\ob.data=.plain
structure Cx where
 prog:ay
 w:aD
 K:k7f
 mg:aq->Option aj
 base:aF
 A:aG
 N:List aq
 s₀:ao
 H₀:Hp
 env:cT
 outer:List cT
 stack:List cT
 ex:List ai
 fn:aq->Bool
 calm:Bool
 pn:List (ai×d7)
 xe:aj->ao->Prop
noncomputable def frs(l:List cT):List ai:=l.filterMap (·.frame)
noncomputable abbrev Cx.fs(X:Cx):List ai:=frs X.outer
def Vis(sc:b8)(x:aq):Prop:=sc.names.lookup x=a8 .local\/sc.names.lookup x=a8 .cell\/sc.names.lookup x=a8 .free
def Loc(sc:b8)(x:aq):Prop:=sc.names.lookup x=a8 .local\/sc.names.lookup x=a8 .cell
def Look(env:cT)(h:aF)(m:k7i)(x:aq)(u:aj):Prop :=
 (env.kindOf x=a8 .local/\m x=a8 u)\/((env.kindOf x=a8 .cell\/env.kindOf x=a8 .free)/\∃c,env.cells.lookup x=a8 c/\h.IsCell c (a8 u))
structure Cx.Ok(X:Cx):Prop where
 mod:Mod X.K X.mg X.base
 kind:X.env.scope.kind=.function
 glob:X.env.globals=az
 blt:X.env.builtins=dB
 above:X.s₀.heap.objs.size<=X.env.locals
 inj:∀x y c,X.env.cells.lookup x=a8 c->X.env.cells.lookup y=a8 c->x=y
 has:∀x,(X.env.kindOf x=a8 .cell\/X.env.kindOf x=a8 .free)->∃c,X.env.cells.lookup x=a8 c
 cab:∀x c,X.fn x=aa->X.env.cells.lookup x=a8 c->X.s₀.heap.objs.size<=c
 hd:X.calm=aa->X.A.handled=ae
 frames:X.A.frames=a8 X.stack
 stk:X.stack=X.outer\/(X.stack=X.env::X.outer/\X.env.frame=a8 X.env.locals)
 exf:∀b∈X.ex,b≠X.env.locals/\∀x c,X.env.cells.lookup x=a8 c->c≠b
 bs:∀b o,X.base.get? b=a8 o->X.s₀.heap.get? b=a8 o/\X.H₀ b=ae
 bsz:X.base.objs.size<=X.s₀.heap.objs.size
 noex:∀b o,X.base.get? b=a8 o->b∉X.ex
 exfs:∀b∈X.ex,b∉X.fs
 funs:X.s₀.heap.FunFrames X.base X.outer
 frf:∀b∈X.fs,X.H₀ b=ae
structure Inv(X:Cx)(pins:k7h)(σ:List (Option V))(H:Hp)(s:ao):Prop where
 ok:X.Ok
 os:s.os=X.s₀.os
 bare:dH s.gens
 base:Un X.fs X.ex X.H₀ H X.s₀.heap s.heap
 loc:∃m,s.heap.Ns X.env.locals m/\∀(i:Nat)(x:aq)(v:V),X.N[i]?=a8 x->σ[i]?=a8 (a8 v)->Vis X.env.scope x->∃u,RelV v u/\Look X.env s.heap m x u
 cell:∀x c,X.env.cells.lookup x=a8 c->∃v,s.heap.IsCell c v
 free:H X.env.locals=ae
 freeC:∀x c,X.env.cells.lookup x=a8 c->H c=ae
 pin:∀p∈X.pn++pins,s.heap.get? p.1=a8 p.2/\H p.1=ae/\p.1≠X.env.locals/\p.1∉X.fs/\∀v,p.2.data≠.cell v
 hok:HOk X.prog X.w H s.heap
 len:σ.length=X.N.length
section
variable{X:Cx}{pins:k7h}{σ:List (Option V)}{H H':Hp}{s:ao}{h':aF}
theorem Cx.Ok.nofr(ok:X.Ok){b:ai}{o:d7}(e:X.base.get? b=a8 o):b∉X.fs:=λhb=>by have:=(ok.funs.mem hb).1;rw[e]at this;cases this
theorem Inv.bs(I:Inv X pins σ H s):∀b o,X.base.get? b=a8 o->s.heap.get? b=a8 o/\H b=ae:=λb o e =>⟨I.base.keep b o (I.ok.bs b o e).1 (I.ok.bs b o e).2 (I.ok.nofr e) (I.ok.noex b o e),I.base.free b o (I.ok.bs b o e).1 (I.ok.bs b o e).2 (I.ok.noex b o e)⟩
theorem Inv.bk(I:Inv X pins σ H s):∀b o,X.base.get? b=a8 o->s.heap.get? b=a8 o:=λb o e=>(I.bs b o e).1
theorem Inv.mod(I:Inv X pins σ H s):Mod X.K X.mg X.base:=I.ok.mod
theorem Inv.kIn(I:Inv X pins σ H s):X.K.In s.heap:=I.ok.mod.kin.keeps I.bk
theorem Inv.lt(I:Inv X pins σ H s):X.env.locals<s.heap.objs.size:=let ⟨_,hn,_⟩:=I.loc;hn.lt
theorem Inv.sz(I:Inv X pins σ H s):X.s₀.heap.objs.size<=s.heap.objs.size:=Xh I.ok.above (dQ I.lt)
theorem Inv.nofs(I:Inv X pins σ H s){a:ai}(h:s.heap.objs.size<=a):a∉X.fs:=λhb=>by obtain⟨_,o,ho,_⟩:=I.ok.funs.mem hb;exact absurd (Xo (xn ho) (Xh I.sz h)) (t6 _)
theorem Inv.cne(I:Inv X pins σ H s):∀x c,X.env.cells.lookup x=a8 c->c≠X.env.locals:=λx c e z=>by obtain⟨v,o,ho,hd⟩:=I.cell x c e;obtain⟨m,⟨o',es,ep,ho',hd',_⟩,_⟩:=I.loc;rw[z,ho']at ho;cases ho;rw[hd']at hd;cases hd
theorem Inv.funs(I:Inv X pins σ H s):s.heap.FunFrames X.base X.outer:=by
 have all:∀(l:List cT),(∀b∈frs l,b∈X.fs)->X.s₀.heap.FunFrames X.base l->s.heap.FunFrames X.base l:=by
  intro l;induction l with
  |nil=>intro _ _;trivial
  |cons env r ih =>intro hs hl;obtain⟨hk,⟨L,o,hf,hn,ho,hd⟩,hr⟩:=hl;have hL:L∈X.fs:=hs L (by unfold frs;rw[bZ,hf];exact X3);obtain⟨sl,e⟩:=I.base.slot L o ho (I.ok.frf L hL) hL λz=>I.ok.exfs L z hL;exact⟨hk,⟨L,_,hf,hn,e,hd⟩,ih (λb hb=>hs b (by unfold frs;rw[bZ,hf];exact xm _ hb)) hr⟩
 exact all X.outer (λ_ hb=>hb) I.ok.funs
theorem Inv.stack(I:Inv X pins σ H s):s.heap.FunFrames X.base X.stack:=by
 rcases I.ok.stk with e|⟨e,hf⟩
 .rw[e];exact I.funs
 .rw[e];obtain⟨m,hn,_⟩:=I.loc;refine .cons (by rw[I.ok.kind];decide) hf hn ?_ I.funs;exact Heap.get?_none_of_le (Xh I.ok.bsz I.ok.above)
theorem Inv.stkSub(I:Inv X pins σ H s):∀b∈frs X.stack,b∈X.env.locals::X.fs:=λb hb=>by
 rcases I.ok.stk with e|⟨e,hf⟩
 .rw[e]at hb;exact xm _ hb
 .rw[e]at hb;unfold frs at hb;rw[bZ,hf]at hb;exact hb
theorem Inv.stkFree(I:Inv X pins σ H s):∀b∈frs X.stack,H b=ae:=λb hb=>by
 rcases xu.mp (I.stkSub b hb)with e|hb
 .rw[e];exact I.free
 .obtain⟨_,o,ho,_⟩:=I.ok.funs.mem hb;exact I.base.free b o ho (I.ok.frf b hb) λz=>I.ok.exfs b z hb
theorem Inv.step{g':Array eZ}{t':Nat}{d':Drawn}{ch:List ai}(I:Inv X pins σ H s)
  (hch:∀b∈ch,(b∈X.ex\/X.s₀.heap.objs.size<=b)/\b≠X.env.locals/\(∀x c,X.env.cells.lookup x=a8 c->c≠b)/\∀p∈X.pn++pins,p.1≠b)
  (keep:∀b o,b≠X.env.locals->b∉X.fs->b∉ch->s.heap.get? b=a8 o->H b=ae->h'.get? b=a8 o)
  (slot:∀b o,b≠X.env.locals->b∈X.fs->b∉ch->s.heap.get? b=a8 o->H b=ae->∃sl,h'.get? b=a8 { o with slots:=sl }) (free:∀b o,b∉ch->s.heap.get? b=a8 o->H b=ae->H' b=ae)
  (there:∀b o,b∉ch->s.heap.get? b=a8 o->∃o',h'.get? b=a8 o')
  (tups:∀b xs,H b=a8 (.tup xs)->H' b=a8 (.tup xs)) (frzs:∀b o u,H b=a8 (.frz o u)->H' b=a8 (.frz o u)) (tbls:∀b ps,H b=a8 (.tbl ps)->∃more,H' b=a8 (.tbl (ps++more)))
  (ns:∀m,s.heap.Ns X.env.locals m->h'.Ns X.env.locals m) (hok:HOk X.prog X.w H' h') (hg:dH g') :
  Inv X pins σ H' { s with heap:=h',gens:=g',drawn:=d',toks:=t' }:=by
 have neL:∀b o,X.s₀.heap.get? b=a8 o->b≠X.env.locals:=λb o e=>X8 (Xo (xn e) I.ok.above);have neC:∀b o,X.s₀.heap.get? b=a8 o->b∉X.ex->b∉ch:=λb o e hx hb=>by
  rcases(hch b hb).1 with z|z
  .exact hx z
  .exact absurd (Xo (xn e) z) (t6 _)
 have cellK:∀x c,X.env.cells.lookup x=a8 c->∀v,s.heap.IsCell c v->h'.IsCell c v:=λx c e v ⟨o,ho,hd⟩=>by
  have nch:c∉ch:=λz=>(hch c z).2.2.1 x c e rfl;by_cases hc:c∈X.fs
  .obtain⟨sl,q⟩:=slot c o (I.cne x c e) hc nch ho (I.freeC x c e);exact⟨_,q,hd⟩
  .exact⟨o,keep c o (I.cne x c e) hc nch ho (I.freeC x c e),hd⟩
 refine⟨I.ok,I.os,hg,⟨λb o e n hb hx=>?_,λb o e n hb hx=>?_,λb o e n hx=>?_,λb o e hx=>?_,λb xs e=>tups b xs (I.base.tups b xs e),λb o xs e=>frzs b o xs (I.base.frzs b o xs e),λb ps e=>?_⟩,?_,λx c e=>?_,?_,λx c e=>?_,λp hp=>?_,hok,I.len⟩
 .exact keep b o (neL b o e) hb (neC b o e hx) (I.base.keep b o e n hb hx) (I.base.free b o e n hx)
 .obtain⟨sl,e1⟩:=I.base.slot b o e n hb hx;obtain⟨sl',e2⟩:=slot b _ (neL b o e) hb (neC b o e hx) e1 (I.base.free b o e n hx);exact⟨sl',e2⟩
 .obtain⟨o',e1⟩:=I.base.there b o e hx;exact free b o' (neC b o e hx) e1 (I.base.free b o e n hx)
 .obtain⟨o',e1⟩:=I.base.there b o e hx;exact there b o' (neC b o e hx) e1
 .obtain⟨m1,e1⟩:=I.base.tbls b ps e;obtain⟨m2,e2⟩:=tbls b _ e1;exact⟨m1++m2,by rw[e2,Array.append_assoc]⟩
 .obtain⟨m,hn,hl⟩:=I.loc;refine⟨m,ns m hn,λi x v e1 e2 e3=>?_⟩;obtain⟨u,r,l⟩:=hl i x v e1 e2 e3;refine⟨u,r,?_⟩;rcases l with l|⟨k,c,e,z⟩
  .exact .inl l
  .exact .inr ⟨k,c,e,cellK x c e _ z⟩
 .obtain⟨v,z⟩:=I.cell x c e;exact⟨v,cellK x c e v z⟩
 .obtain⟨m,⟨o,_,_,ho,_⟩,_⟩:=I.loc;exact free _ o (λz=>(hch _ z).2.1 rfl) ho I.free
 .obtain⟨v,o,ho,hd⟩:=I.cell x c e;exact free c o (λz=>(hch c z).2.2.1 x c e rfl) ho (I.freeC x c e)
 .obtain⟨e,n,ne,nf,d⟩:=I.pin p hp;have nch:p.1∉ch:=λz=>(hch p.1 z).2.2.2 p hp rfl;exact⟨keep p.1 p.2 ne nf nch e n,free p.1 p.2 nch e n,ne,nf,d⟩
theorem Inv.un{t':Nat}(I:Inv X pins σ H s)(u:Un X.fs [] H H' s.heap h')(hok:HOk X.prog X.w H' h'):Inv X pins σ H' { s with heap:=h',toks:=t' }:=by
 obtain⟨m,⟨o,es,ep,ho,r⟩,_⟩:=id I.loc;obtain⟨sl,hL⟩:=u.any ho I.free (by simp);exact I.step (g':=s.gens) (d':=s.drawn) (ch:=[]) (λ_ z=>nomatch z) (λb o _ hb _ e n=>u.keep b o e n hb (by simp)) (λb o _ hb _ e n=>u.slot b o e n hb (by simp)) (λb o _ e n=>u.free b o e n (by simp)) (λb o _ e=>u.there b o e (by simp)) u.tups u.frzs u.tbls (λm' hm=>by
  obtain⟨o',es',ep',ho',r'⟩:=hm
  rw[ho]at ho';cases ho'
  exact⟨_,es',ep',hL,r'⟩) hok I.bare
theorem Inv.call{g':Array eZ}{t':Nat}{d':Drawn}{ch:List ai}(I:Inv X pins σ H s)(u:Un (frs X.stack) ch H H' s.heap h')(hok:HOk X.prog X.w H' h')(hg:dH g')
  (hch:∀b∈ch,(b∈X.ex\/X.s₀.heap.objs.size<=b)/\b≠X.env.locals/\(∀x c,X.env.cells.lookup x=a8 c->c≠b)/\∀p∈X.pn++pins,p.1≠b) :
  Inv X pins σ H' { s with heap:=h',gens:=g',drawn:=d',toks:=t' }:=by
 obtain⟨m,⟨o,es,ep,ho,r⟩,_⟩:=id I.loc;obtain⟨sl,hL⟩:=u.any ho I.free λz=>(hch _ z).2.1 rfl;exact I.step (ch:=ch) hch (λb o hL hb hc e n=>u.keep b o e n (λz=>(xu.mp (I.stkSub b z)).elim hL hb) hc) (λb o _ _ hc e n=>u.any e n hc) (λb o hc e n=>u.free b o e n hc) (λb o hc e=>u.there b o e hc) u.tups u.frzs u.tbls (λm' hm=>by
  obtain⟨o',es',ep',ho',r'⟩:=hm
  rw[ho]at ho';cases ho'
  exact⟨_,es',ep',hL,r'⟩) hok hg
theorem Inv.turned{t':Nat}{it:ai}(I:Inv X pins σ H s)(k:∀b o,b≠it->s.heap.get? b=a8 o->h'.get? b=a8 o)(hn:H it=ae)(hL:it≠X.env.locals)
  (h1:it∈X.ex\/X.s₀.heap.objs.size<=it) (h2:∀x c,X.env.cells.lookup x=a8 c->c≠it) (h3:∀p∈X.pn++pins,p.1≠it):Inv X pins σ H { s with heap:=h',toks:=t' }:=by
 have nit:∀b u,H b=a8 u->b≠it:=λb u e z=>by rw[z,hn]at e;cases e
 refine I.step (g':=s.gens) (d':=s.drawn) (ch:=[it]) (λb hb=>?_) (λb o _ _ hc e _=>k b o (λz=>hc (by simp[z])) e) (λb o _ _ hc e _=>⟨o.slots,k b o (λz=>hc (by simp[z])) e⟩) (λ_ _ _ _ n=>n)
  (λb o hc e=>⟨o,k b o (λz=>hc (by simp[z])) e⟩) (λ_ _ e=>e) (λ_ _ _ e=>e) (λb ps e=>⟨#[],by rw[e];simp⟩) (λm hm=>?_) (λb u e=>?_) I.bare
 .have e:b=it:=by simpa using hb
  subst e;exact⟨h1,hL,h2,h3⟩
 .obtain⟨o,es,ep,ho,r⟩:=hm;exact⟨o,es,ep,k _ o (ba hL) ho,r⟩
 .refine(I.hok b u e).stay (λc v hc q=>k c v ?_ q) (λ_ q=>q) (λ_ _ q=>q) λ_ _ _ q=>q;rcases hc with z|z
  .rw[z];exact nit b u e
  .exact nit c _ z
theorem Inv.tok(I:Inv X pins σ H s)(t:Nat):Inv X pins σ H { s with toks:=t }:=I.un (h':=s.heap) (t':=t) Un.refl I.hok
theorem Inv.kept{t':Nat}(I:Inv X pins σ H s)(k:∀b u,s.heap.get? b=a8 u->h'.get? b=a8 u):Inv X pins σ H { s with heap:=h',toks:=t' }:=I.un (Un.kept k) (I.hok.kept k)
theorem Inv.laid{a:ai}{o:HO}{t':Nat}(I:Inv X pins σ H s)(k:∀b u,s.heap.get? b=a8 u->h'.get? b=a8 u)(hp:s.heap.objs.size<=a)(new:jo X.prog X.w (upd H a o) h' a o) :
  Inv X pins σ (upd H a o) { s with heap:=h',toks:=t' }:=I.un (Un.laid k hp (I.hok.fresh hp)) (I.hok.laid k hp new)
theorem Inv.write{x e:ai}{o:HO}{t':Nat}(I:Inv X pins σ H s)(mu:Mut (H x))(he:e=x\/H e=a8 (.own x))(k:∀b u,b≠e->s.heap.get? b=a8 u->h'.get? b=a8 u)(heo:∃u,h'.get? e=a8 u)
  (new:jo X.prog X.w (upd H x o) h' x o):Inv X pins σ (upd H x o) { s with heap:=h',toks:=t' }:=I.un (Un.write mu he k heo) (I.hok.write mu he k heo new)
theorem Inv.pins_of{pins':k7h}(I:Inv X pins σ H s)(h:∀p∈pins',s.heap.get? p.1=a8 p.2/\H p.1=ae/\p.1≠X.env.locals/\p.1∉X.fs/\∀v,p.2.data≠.cell v):Inv X pins' σ H s :=
 ⟨I.ok,I.os,I.bare,I.base,I.loc,I.cell,I.free,I.freeC,λp hp=>(Pk.mp hp).elim (λz=>I.pin p (Xu _ z)) (h p),I.hok,I.len⟩
theorem Ef{N:List aq}(hN:N.Nodup){i j:Nat}{x:aq}(a:N[i]?=a8 x)(b:N[j]?=a8 x):i=j:=by obtain⟨h1,e1⟩:=xr.mp a;obtain⟨h2,e2⟩:=xr.mp b;exact(List.getElem_inj hN).mp (e1.trans e2.symm)
theorem Ce{M:gX}{A:aG}{E:k7g}{i:Nat}{x:aq}{v:V}{u:aj}{Q:Unit->ao->Prop}(I:Inv X pins σ H s)(hN:X.N.Nodup)(hi:X.N[i]?=a8 x)(hx:Loc X.env.scope x)(r:RelV v u)
  (h:∀s',Inv X pins (σ.set i (a8 v)) H s'->(∃a,cN a s.heap s'.heap/\(a=X.env.locals\/X.env.cells.lookup x=a8 a))->Q () s') (hf:X.fn x=aa\/X.env.scope.names.lookup x=a8 .local:=by first|exact .inl rfl|exact .inr rfl|assumption):ax M A (storeName X.env x u) Q E s:=by
 obtain⟨m,hn,hl⟩:=id I.loc;have hcls:(X.env.scope.kind==.class || (X.env.scope.kind==.module&&X.env.locals != X.env.globals))=a9:=by rw[I.ok.kind];rfl
 have hiσ:i<σ.length:=by rw[I.len];exact(xr.mp hi).1
 have cne:=I.cne;have tracked:∀{a:ai}{h':aF},(∃o,s.heap.get? a=a8 o/\H a=ae)->cN a s.heap h'->HOk X.prog X.w H h':=λ{a h'} ha hs b ob e=>by
  obtain⟨_,_,hfree⟩:=ha;refine(I.hok b ob e).stay (λc w' hc q=>(hs.2 c ?_).trans q) (λ_ q=>q) (λ_ _ q=>q) λ_ _ _ q=>q;rintro rfl;rcases hc with rfl|hc
  .rw[hfree]at e;cases e
  .rw[hfree]at hc;cases hc
 rcases hx with hk|hk
 .refine wpAny_storeName_local hk hn (λh' hn' hs=>?_) hcls;obtain⟨oL,_,_,hoL,_⟩:=id hn;refine h _ ⟨I.ok,I.os,I.bare,⟨λb o e n hb hx=>?_,λb o e n hb hx=>?_,I.base.free,λb o e hx=>?_,I.base.tups,I.base.frzs,I.base.tbls⟩,⟨_,hn',λj y v' e1 e2 e3=>?_⟩,λy c e=>?_,I.free,I.freeC,λp hp=>?_,tracked ⟨oL,hoL,I.free⟩ hs,by simpa using I.len⟩ ⟨_,hs,.inl rfl⟩
  .exact(hs.2 b (X8 (Xo (xn e) I.ok.above))).trans (I.base.keep b o e n hb hx)
  .obtain⟨sl,e1⟩:=I.base.slot b o e n hb hx;exact⟨sl,(hs.2 b (X8 (Xo (xn e) I.ok.above))).trans e1⟩
  .obtain⟨o',e1⟩:=I.base.there b o e hx;exact⟨o',(hs.2 b (X8 (Xo (xn e) I.ok.above))).trans e1⟩
  .by_cases hj:j=i
   .subst hj;rw[hi]at e1;cases e1;rw[cz hiσ]at e2;cases e2;exact⟨u,r,.inl ⟨hk,by simp⟩⟩
   .rw[hU (ba hj)]at e2;obtain⟨u',r',q⟩:=hl j y v' e1 e2 e3;refine⟨u',r',?_⟩;rcases q with ⟨k,e⟩|⟨k,c,e,z⟩
    .refine .inl ⟨k,?_⟩;have:y≠x:=λe=>hj (Ef hN e1 (e▸hi));simp[this,e]
    .exact .inr ⟨k,c,e,z.sameBut hs (cne y c e)⟩
  .obtain⟨w',z⟩:=I.cell y c e;exact⟨w',z.sameBut hs (cne y c e)⟩
  .obtain⟨e,n,ne,nf,d⟩:=I.pin p hp;exact⟨(hs.2 p.1 ne).trans e,n,ne,nf,d⟩
 .have hfn:X.fn x=aa:=by
   rcases hf with z|z
   .exact z
   .rw[z]at hk;cases hk
  obtain⟨c,hc⟩:=I.ok.has x (.inl hk);obtain⟨w',z⟩:=I.cell x c hc;refine wpAny_storeName_cell I.ok.kind hk hc z (λh' hc' hs=>?_);obtain⟨oc,hoc,hocd⟩:=id z;refine h { s with heap:=h' } ⟨I.ok,I.os,I.bare,⟨λb o e n hb hx=>?_,λb o e n hb hx=>?_,I.base.free,λb o e hx=>?_,I.base.tups,I.base.frzs,I.base.tbls⟩,⟨m,hn.sameBut hs (ba (cne x c hc)),λj y v' e1 e2 e3=>?_⟩,λy c' e=>?_,I.free,I.freeC,λp hp=>?_,tracked ⟨oc,hoc,I.freeC x c hc⟩ hs,by simpa using I.len⟩ ⟨c,hs,.inr hc⟩
  .exact(hs.2 b (X8 (Xo (xn e) (I.ok.cab x c hfn hc)))).trans (I.base.keep b o e n hb hx)
  .obtain⟨sl,e1⟩:=I.base.slot b o e n hb hx;exact⟨sl,(hs.2 b (X8 (Xo (xn e) (I.ok.cab x c hfn hc)))).trans e1⟩
  .obtain⟨o',e1⟩:=I.base.there b o e hx;exact⟨o',(hs.2 b (X8 (Xo (xn e) (I.ok.cab x c hfn hc)))).trans e1⟩
  .by_cases hj:j=i
   .subst hj;rw[hi]at e1;cases e1;rw[cz hiσ]at e2;cases e2;exact⟨u,r,.inr ⟨.inl hk,c,hc,hc'⟩⟩
   .rw[hU (ba hj)]at e2;obtain⟨u',r',q⟩:=hl j y v' e1 e2 e3;refine⟨u',r',?_⟩;rcases q with q|⟨k,c',e,z'⟩
    .exact .inl q
    .refine .inr ⟨k,c',e,z'.sameBut hs ?_⟩;rintro rfl;exact hj (Ef hN e1 (I.ok.inj _ _ _ e hc▸hi))
  .by_cases hcc:c'=c
   .subst hcc;exact⟨_,hc'⟩
   .obtain⟨w2,z2⟩:=I.cell y c' e;exact⟨w2,z2.sameBut hs hcc⟩
  .obtain⟨e,n,ne,nf,d⟩:=I.pin p hp;refine⟨(hs.2 p.1 ?_).trans e,n,ne,nf,d⟩;intro q;rw[q,hoc]at e;have q':oc=p.2:=aB e;exact d w' (by rw[<-q'];exact hocd)
theorem Kw{M:gX}{A:aG}{E:k7g}{i:Nat}{x:aq}{v:V}{u:aj}{Q:Unit->ao->Prop}(I:Inv X pins σ H s)(hN:X.N.Nodup)(hi:X.N[i]?=a8 x)(hx:Loc X.env.scope x)(r:RelV v u)
  (h:∀s',Inv X pins (σ.set i (a8 v)) H s'->Q () s') (hf:X.fn x=aa\/X.env.scope.names.lookup x=a8 .local:=by first|exact .inl rfl|exact .inr rfl|assumption):ax M A (storeName X.env x u) Q E s :=
 Ce I hN hi hx r (λs' I' _=>h s' I') hf
theorem Inv.call'{s':ao}{ch:List ai}(I:Inv X pins σ H s)(ho:s'.os=s.os)(u:Un (frs X.stack) ch H H' s.heap s'.heap)(hok:HOk X.prog X.w H' s'.heap)(hg:dH s'.gens)
  (hch:∀b∈ch,(b∈X.ex\/X.s₀.heap.objs.size<=b)/\b≠X.env.locals/\(∀x c,X.env.cells.lookup x=a8 c->c≠b)/\∀p∈X.pn++pins,p.1≠b):Inv X pins σ H' s':=by
 obtain⟨h',g',d',t',o'⟩:=s';have e:o'=s.os:=ho;subst e;exact I.call (g':=g') (t':=t') (d':=d') u hok hg hch
end
abbrev XK:=aj->Option ai->Hp->Prop
noncomputable abbrev St:=List (Option V)
abbrev VK:=V->Hp->Prop
abbrev TE:=St->Hp->VK->Prop
abbrev TT:=St->Hp->(Bool->Hp->Prop)->Prop
abbrev TA:=St->Hp->(List V->Hp->Prop)->Prop
structure Ends where
 nx:St->Hp->Prop
 rt:VK
 bk:St->Hp->Prop:=λ_ _=>False
 ct:St->Hp->Prop:=λ_ _=>False
abbrev TS:=Ends->St->Hp->Prop
def EP(X:Cx)(pins:k7h)(σ:St)(Q:VK)(u:aj)(s':ao):Prop:=∃v H',Inv X pins σ H' s'/\RelV v u/\Q v H'
def TP(X:Cx)(pins:k7h)(σ:St)(Q:Bool->Hp->Prop)(b:Bool)(s':ao):Prop:=∃H',Inv X pins σ H' s'/\Q b H'
def AP(X:Cx)(pins:k7h)(σ:St)(Q:List V->Hp->Prop)(us:List aj)(s':ao):Prop:=∃vs H',Inv X pins σ H' s'/\Vals vs us/\Q vs H'
def Ext(X:Cx)(H1 H2:Hp)(s':ao):Prop:=∀b,H2 b=H1 b\/∃x o v,X.env.cells.lookup x=a8 b/\X.fn x=aa/\H2 b=a8 (.frz o (.own 0))/\s'.heap.get? b=a8 o/\o.data=.cell v
theorem Ext.refl{X:Cx}{H:Hp}{s':ao}:Ext X H H s':=λ_=>.inl rfl
def SP(X:Cx)(pins:k7h)(D:Ends)(f:Flow)(s':ao):Prop :=
 match f with
 |.next=>∃σ' H',Inv X pins σ' H' s'/\D.nx σ' H'
 |.brk=>∃σ' H',Inv X pins σ' H' s'/\D.bk σ' H'
 |.cont=>∃σ' H',Inv X pins σ' H' s'/\D.ct σ' H'
 |.ret u=>∃v σ' H' H2,Inv X pins σ' H' s'/\RelV v u/\Ext X H' H2 s'/\D.rt v H2
def PE(X:Cx)(e:ar)(t:TE):Prop :=
 ∀(pins:k7h) (s:ao) (σ:St) (H:Hp) (Q:VK),Inv X pins σ H s->t σ H Q->ax (aC X.prog X.w) X.A (aE e X.env) (EP X pins σ Q) X.xe s
def PT(X:Cx)(e:ar)(t:TT):Prop :=
 ∀(pins:k7h) (s:ao) (σ:St) (H:Hp) (Q:Bool->Hp->Prop),Inv X pins σ H s->t σ H Q->ax (aC X.prog X.w) X.A (fH e X.env (aE e X.env)) (TP X pins σ Q) X.xe s
def PW(X:Cx)(e:ar)(t:TT):Prop :=
 ∀(whole:lD aj)(pins:k7h) (s:ao) (σ:St) (H:Hp) (Q:Bool->Hp->Prop),Inv X pins σ H s->t σ H Q->ax (aC X.prog X.w) X.A (fH e X.env whole) (TP X pins σ Q) X.xe s
def PA(X:Cx)(es:List ar)(t:TA):Prop :=
 ∀(pos:aM)(pins:k7h) (s:ao) (σ:St) (H:Hp) (Q:List V->Hp->Prop),Inv X pins σ H s->t σ H Q->ax (aC X.prog X.w) X.A (iy (aR pos (ah es X.env))) (AP X pins σ Q) X.xe s
def PS(X:Cx)(st:aN)(t:TS):Prop :=
 ∀(pins:k7h) (s:ao) (σ:St) (H:Hp) (D:Ends),Inv X pins σ H s->t D σ H->ax (aC X.prog X.w) X.A (exec st X.env) (SP X pins D) X.xe s
def PSs(X:Cx)(st:List aN)(t:TS):Prop :=
 ∀(pins:k7h) (s:ao) (σ:St) (H:Hp) (D:Ends),Inv X pins σ H s->t D σ H->ax (aC X.prog X.w) X.A (execs st X.env) (SP X pins D) X.xe s
theorem thn{α:Type}{t:lD α}{Q Q':α->ao->Prop}{M:gX}{A:aG}{E:k7g}{s:ao}(h:ax M A t Q E s)(hQ:∀a s,Q a s->Q' a s):ax M A t Q' E s:=bo h hQ λ_ _ x=>x
section
variable{X:Cx}
theorem bin{a b:ar}{ta tb:TE}(ha:PE X a ta)(hb:PE X b tb){pins:k7h}{s:ao}{σ:St}{H:Hp}{R:V->V->Hp->Prop}(I:Inv X pins σ H s)(h:ta σ H λx H1=>tb σ H1 λy H2=>R x y H2)
  {α:Type} {Q:α->ao->Prop} {f:aj->aj->lD α}
  (hf:∀v u s2 x y H2,Inv X pins σ H2 s2->RelV x v->RelV y u->R x y H2->ax (aC X.prog X.w) X.A (f v u) Q X.xe s2) :
  ax (aC X.prog X.w) X.A (aE a X.env) (λv s₁=>ax (aC X.prog X.w) X.A (aE b X.env) (λu s₂=>ax (aC X.prog X.w) X.A (f v u) Q X.xe s₂) X.xe s₁) X.xe s:=by
 refine thn (ha pins s σ H _ I h) λv s1 ⟨x,H1,I1,r1,q1⟩=>?_;refine thn (hb pins s1 σ H1 _ I1 q1) λu s2 ⟨y,H2,I2,r2,q2⟩=>?_;exact hf v u s2 x y H2 I2 r1 r2 q2
def ji5(i:Nat):TE:=λσ H Q=>∃v,σ[i]?=a8 (a8 v)/\Q v H
def tC(v:V):TE:=λ_ H Q=>Q v H
theorem Jr {i:Nat} {x:aq} {pos:aM} (hN:X.N[i]?=a8 x) (hv:Vis X.env.scope x) (hd:(x==k7j)=a9:=by decide) (hcd:(x==k7k)=a9:=by decide):PE X (.Name x pos) (ji5 i):=by
 intro pins s σ H Q I h;obtain⟨v,e,h⟩:=h;obtain⟨m,hn,hl⟩:=I.loc;obtain⟨u,r,l⟩:=hl i x v hN e hv;have fin:EP X pins σ Q u s:=⟨v,H,I,r,h⟩
 rcases l with ⟨hk,hm⟩|⟨hk,c,hc,hcell⟩
 .exact jM (wpAny_loadName_local I.ok.kind hk hn hm fin) hd
 .rcases hk with hk|hk
  .exact jM (wpAny_loadName_cell I.ok.kind hk hc hcell fin) hd
  .exact jM (wpAny_loadName_free I.ok.kind hk hc hcell fin hcd) hd
theorem Iv{i j pos}:PE X (.Constant (.int i) j pos) (tC (.int i)):=λ_ _ _ H _ I h=>wpAny_Constant_int ⟨.int i,H,I.tok _,⟨_,rfl⟩,h⟩
theorem jgj{b j pos}:PE X (.Constant (.bool b) j pos) (tC (.bl b)):=λ_ _ _ H _ I h=>Constant_bool ⟨.bl b,H,I,rfl,h⟩
theorem j43{j pos}:PE X (.Constant .none j pos) (tC .non):=λ_ _ _ H _ I h=>lQ ⟨.non,H,I,rfl,h⟩
theorem j41{x j pos}:PE X (.Constant (.str x) j pos) (tC (.str x)):=λ_ _ _ H _ I h=>Calls.Constant_str ⟨.str x,H,I.tok _,⟨_,rfl⟩,h⟩
def Gl(X:Cx)(x:aq):Prop:=X.env.kindOf x=a8 .globalImplicit
theorem Ut{E:k7g}{pins:k7h}{s:ao}{σ:St}{H:Hp}{x:aq}{u:aj}{pos:aM}{Q:k7g}(I:Inv X pins σ H s)(hg:Gl X x)(hm:X.mg x=a8 u)(h:Q u s)
  (hd:(x==k7j)=a9:=by decide):ax (aC X.prog X.w) X.A (aE (.Name x pos) X.env) Q E s :=
 fR I.ok.kind hg (Calls.loadGlobal_global (by rw[I.ok.glob];exact I.mod.glob.keeps I.bk) hm h) hd
theorem Qc{E:k7g}{pins:k7h}{s:ao}{σ:St}{H:Hp}{x:aq}{u:aj}{pos:aM}{Q:k7g}(I:Inv X pins σ H s)(hg:Gl X x)(hm:X.mg x=ae)(hv:eA x=a8 u)(h:Q u s)
  (hn:x ≠ "__name__":=by decide) (hd:(x==k7j)=a9:=by decide):ax (aC X.prog X.w) X.A (aE (.Name x pos) X.env) Q E s:=by
 obtain⟨mb,h1,h2⟩:=I.mod.blt;exact fR I.ok.kind hg (Calls.loadGlobal_builtin (by rw[I.ok.glob];exact I.mod.glob.keeps I.bk) hm (by rw[I.ok.blt];exact h1.keeps I.bk) ((h2 x hn).trans hv) h) hd
theorem ja0 {x:aq} {v:V} {u:aj} {pos:aM} (hg:Gl X x) (hm:X.mg x=a8 u) (r:RelV v u) (hd:(x==k7j)=a9:=by decide):PE X (.Name x pos) (tC v) :=
 λ_ _ _ H _ I h=>Ut I hg hm ⟨v,H,I,r,h⟩ hd
def t2I(ta tb:TE)(k:Int->Int->Hp->Prop):St->Hp->Prop:=λσ H=>ta σ H λx H1=>tb σ H1 λy H2=>∃i j,x=.int i/\y=.int j/\k i j H2
def jii(ta tb:TE):TE:=λσ H Q=>t2I ta tb (λi j H2=>Q (.int (i+j)) H2) σ H
variable{a b:ar}{ta tb:TE}{pos:aM}
theorem jcr(ha:PE X a ta)(hb:PE X b tb):PE X (.BinOp a .Add b pos) (jii ta tb):=by intro pins s σ H Q I h;refine wpAny_BinOp (bin ha hb I h λv u s2 x y H2 I2 rx ry q=>?_);obtain⟨i,j,rfl,rfl,q⟩:=q;obtain⟨t,rfl⟩:=rx;obtain⟨t',rfl⟩:=ry;exact add_int ⟨.int _,H2,I2.tok _,⟨_,rfl⟩,q⟩
def PC(X:Cx)(op:gy)(a b:ar)(t:TE):Prop :=
 ∀(pins:k7h) (s:ao) (σ:St) (H:Hp) (Q:VK),Inv X pins σ H s->t σ H Q ->
  ax (aC X.prog X.w) X.A (aE a X.env) (λv s₁=>ax (aC X.prog X.w) X.A (aE b X.env) (λu s₂=>ax (aC X.prog X.w) X.A (aT op v u) (EP X pins σ Q) X.xe s₂) X.xe s₁) X.xe s
theorem Oe(b:ar){op:gy}(h:op≠.In)(h2:op≠.NotIn):aH op b=a9:=by
 have e1:(op==CmpOp.In)=a9:=by cases op<;>first|rfl|exact absurd rfl h
 have e2:(op==CmpOp.NotIn)=a9:=by cases op<;>first|rfl|exact absurd rfl h2
 cases b<;>simp[aH,e1,e2]
def jid(ta:TE):TE:=λσ H Q=>ta σ H λx H1=>Q (.bl (decide (x=.non))) H1
theorem RelV.none_iff{x:V}{v:aj}(r:RelV x v):(v==aZ)=decide (x=.non):=by
 cases x with
 |non=>cases r;rfl
 |bl _=>cases r;rfl
 |int _=>obtain⟨t,rfl⟩:=r;rfl
 |str _=>obtain⟨t,rfl⟩:=r;rfl
 |byt _=>obtain⟨t,rfl⟩:=r;rfl
 |flt _=>obtain⟨t,rfl⟩:=r;rfl
 |ref _=>cases r;rfl
 |ty _=>cases r;rfl
theorem j44{j pos'}(ha:PE X a ta):PC X .Is a (.Constant .none j pos') (jid ta):=by intro pins s σ H Q I h;refine thn (ha pins s σ H _ I h) λv s1 ⟨x,H1,I1,r1,q1⟩=>?_;exact lQ (is_none_gen ⟨.bl _,H1,I1,by rw[r1.none_iff];rfl,q1⟩)
def tB(t:TE):TT:=λσ H Q=>t σ H λx H1=>∃c,x=.bl c/\Q c H1
theorem jcq{op:gy}{t:TE}(h:PC X op a b t)(h1:aH op b=a9:=by first|exact Oe _ (by decide) (by decide)|rfl):PE X (.Compare a [op] [b] pos) t:=λpins s σ H Q I hw=>lA (h pins s σ H Q I hw) h1
theorem jck{op:gy}{t:TE}(h:PC X op a b t)(h1:aH op b=a9:=by first|exact Oe _ (by decide) (by decide)|rfl):PT X (.Compare a [op] [b] pos) (tB t):=by intro pins s σ H Q I hw;refine iL (thn (h pins s σ H _ I hw) λv s1 h1=>thn h1 λu s2 h2=>thn h2 λc s3 ⟨x,H1,I1,r1,q1⟩=>?_) h1;obtain⟨d,rfl,q⟩:=q1;cases r1;exact bu ⟨H1,I1,q⟩
theorem jci{e:ar}{t:TE}(h:PE X e t)(he:∀whole,fH e X.env whole=(do let v <-whole;standAt e.pos;gL [v] (truthy v)):=by intro _;rfl):PT X e (tB t):=by intro pins s σ H Q I hw;refine isTrue_plain (thn (h pins s σ H _ I hw) λv s1 ⟨x,H1,I1,r1,q1⟩=>?_) (he _);obtain⟨d,rfl,q⟩:=q1;cases r1;exact bu ⟨H1,I1,q⟩
variable{tA tB':TT}{rest:List ar}
def jih(t u:TT):TT:=λσ H Q=>t σ H λc H1=>if c=aa then u σ H1 Q else Q a9 H1
def tOr(t u:TT):TT:=λσ H Q=>t σ H λc H1=>if c=aa then Q aa H1 else u σ H1 Q
def jia(t:TT):TT:=λσ H Q=>t σ H λc H1=>Q (!c) H1
theorem j9u(ha:PT X a tA):PW X (.BoolOp .And [a] pos) tA:=by
 intro wh pins s σ H Q I h;refine isTrue_and (thn (ha pins s σ H Q I h) λc s1 e=>?_);cases c with
 |true=>exact isTrue_and_nil e
 |false=>exact e
theorem jcg(ha:PT X a tA):PW X (.BoolOp .Or [a] pos) tA:=by
 intro wh pins s σ H Q I h;refine isTrue_or (thn (ha pins s σ H Q I h) λc s1 e=>?_);cases c with
 |false=>exact isTrue_or_nil e
 |true=>exact e
theorem jch(ha:PT X a tA)(hb:PW X (.BoolOp .And (b::rest) pos) tB'):PW X (.BoolOp .And (a::b::rest) pos) (jih tA tB'):=by
 intro wh pins s σ H Q I h;refine isTrue_and (thn (ha pins s σ H _ I h) λc s1 ⟨H1,I1,q1⟩=>?_);cases c with
 |true=>exact hb wh pins s1 σ H1 Q I1 q1
 |false=>exact⟨H1,I1,q1⟩
theorem jgf(ha:PT X a tA)(hb:PW X (.BoolOp .Or (b::rest) pos) tB'):PW X (.BoolOp .Or (a::b::rest) pos) (tOr tA tB'):=by
 intro wh pins s σ H Q I h;refine isTrue_or (thn (ha pins s σ H _ I h) λc s1 ⟨H1,I1,q1⟩=>?_);cases c with
 |true=>exact⟨H1,I1,q1⟩
 |false=>exact hb wh pins s1 σ H1 Q I1 q1
theorem jcj(ha:PT X a tA):PT X (.UnaryOp .Not a pos) (jia tA):=by intro pins s σ H Q I h;exact isTrue_not (ha pins s σ H (λc H1=>Q (!c) H1) I h)
def ji9(ta tb:TE):TE:=λσ H Q=>ta σ H λx H1=>∃c,x=.bl c/\if c=aa then Q (.bl aa) H1 else tb σ H1 Q
theorem j42{op}{t:TE}(h:PE X a t):PE X (.BoolOp op [a] pos) t:=λpins s σ H Q I hw=>BoolOp_one (h pins s σ H Q I hw)
theorem jgi(ha:PE X a ta)(hb:PE X (.BoolOp .Or (b::rest) pos) tb):PE X (.BoolOp .Or (a::b::rest) pos) (ji9 ta tb):=by
 intro pins s σ H Q I h;refine BoolOp_or (thn (ha pins s σ H _ I h) λv s1 ⟨x,H1,I1,r1,q1⟩=>?_);obtain⟨c,rfl,q1⟩:=q1;cases r1;refine bu ?_;cases c with
 |false=>exact hb pins s1 σ H1 Q I1 q1
 |true=>exact⟨.bl aa,H1,I1,rfl,q1⟩
def tIf(t:TT)(ta tb:TE):TE:=λσ H Q=>t σ H λc H1=>if c=aa then ta σ H1 Q else tb σ H1 Q
theorem Iw{c:ar}(hc:PT X c tA)(ha:PE X a ta)(hb:PE X b tb):PE X (.IfExp c a b pos) (tIf tA ta tb):=by
 intro pins s σ H Q I h;refine wpAny_IfExp (thn (hc pins s σ H _ I h) λd s1 ⟨H1,I1,q1⟩=>?_);cases d with
 |true=>exact ha pins s1 σ H1 Q I1 q1
 |false=>exact hb pins s1 σ H1 Q I1 q1
end
def SqL(K:k7f)(H:Hp)(a:ai)(xs:List V):Prop :=
 Rd H a (.lst xs) \/
  ∃(o:d7)(its:Array aj)(n:Nat),K.lookup a=a8 o/\o.cls=.type "list"/\o.dict=ae/\o.data=.seq its n/\its.size<=av/\Vals xs its.toList
def SqT(K:k7f)(H:Hp)(a:ai)(xs:List V):Prop :=
 Rd H a (.tup xs) \/
  ∃(o:d7)(its:Array aj)(n:Nat),K.lookup a=a8 o/\o.cls=.type "tuple"/\o.dict=ae/\o.data=.seq its n/\its.size<=av/\Vals xs its.toList
noncomputable def jj8:aj->Option V
 |.none=>a8 .non
 |.bool b=>a8 (.bl b)
 |.int i _=>a8 (.int i)
 |.str x _=>a8 (.str x)
 |.bytes b _=>a8 (.byt b)
 |.float b _=>a8 (.flt b)
 |.ref a=>a8 (.ref a)
 |.type n=>a8 (.ty n)
 |_=>ae
theorem RelV.abs{x:V}{u:aj}(r:RelV x u):jj8 u=a8 x:=by
 cases x with
 |non=>cases r;rfl
 |bl _=>cases r;rfl
 |int _=>obtain⟨t,rfl⟩:=r;rfl
 |str _=>obtain⟨t,rfl⟩:=r;rfl
 |byt _=>obtain⟨t,rfl⟩:=r;rfl
 |flt _=>obtain⟨t,rfl⟩:=r;rfl
 |ref _=>cases r;rfl
 |ty _=>cases r;rfl
theorem RelV.inj{x y:V}{u:aj}(r:RelV x u)(q:RelV y u):x=y:=aB (r.abs.symm.trans q.abs)
theorem Vals.inj:∀{xs ys:List V}{us:List aj},Vals xs us->Vals ys us->xs=ys
 |_,_,_,.nil,.nil=>rfl
 |_,_,_,.cons r t,.cons r' t'=>by rw[r.inj r',Vals.inj t t']
section
variable{X:Cx}{pins:k7h}{σ:St}{H:Hp}{s:ao}{a:ai}{xs ys:List V}
theorem Inv.list(I:Inv X pins σ H s)(h:SqL X.K H a xs):∃its:List aj,Vals xs its/\PlainL s.heap a its.toArray/\xs.length<=av:=by
 rcases h with h|⟨o,its,n,hk,hc,hd,hs,hz,r⟩
 .obtain⟨z,its,n,r,e⟩:=h.ok I.hok;exact⟨its,r,⟨_,n,e,rfl,rfl,rfl⟩,z⟩
 .refine⟨its.toList,r,⟨o,n,I.kIn a o hk,hc,hd,by simpa using hs⟩,?_⟩;have e:=r.length;simp only[cK]at e;omega
theorem Inv.tuple(I:Inv X pins σ H s)(h:SqT X.K H a xs):∃its:List aj,Vals xs its/\gz s.heap a its.toArray/\xs.length<=av:=by
 rcases h with h|⟨o,its,n,hk,hc,hnd,hs,hz,r⟩
 .obtain⟨z,its,r,p,_⟩:=h.ok I.hok;exact⟨its,r,p,z⟩
 .refine⟨its.toList,r,⟨o,I.kIn a o hk,hc,n,by simpa using hs⟩,?_⟩;have e:=r.length;simp only[cK]at e;omega
theorem Inv.tupD(I:Inv X pins σ H s)(h:SqT X.K H a xs):Zm s.heap a:=by
 rcases h with h|⟨o,its,n,hk,hc,hnd,hs,hz,r⟩
 .obtain⟨z,its,r,p,q⟩:=h.ok I.hok;exact q
 .intro o' e;rw[I.kIn a o hk]at e;cases e;exact hnd
theorem Inv.list_inj(I:Inv X pins σ H s)(h:SqL X.K H a xs)(h':SqL X.K H a ys):xs=ys:=by
 obtain⟨its,r,⟨o,n,e,_,_,d⟩,_⟩:=I.list h;obtain⟨its',r',⟨o',n',e',_,_,d'⟩,_⟩:=I.list h';rw[e]at e';cases e';rw[d]at d';injection d' with d1 _;have:its=its':=by simpa using congrArg jT d1
 subst this;exact r.inj r'
theorem Inv.tuple_inj(I:Inv X pins σ H s)(h:SqT X.K H a xs)(h':SqT X.K H a ys):xs=ys:=by
 obtain⟨its,r,⟨o,e,_,n,d⟩,_⟩:=I.tuple h;obtain⟨its',r',⟨o',e',_,n',d'⟩,_⟩:=I.tuple h';rw[e]at e';cases e';rw[d]at d';injection d' with d1 _;have:its=its':=by simpa using congrArg jT d1
 subst this;exact r.inj r'
end
noncomputable abbrev Cx.wish(X:Cx)(E:k7g):Cx:={ X with xe:=E }
noncomputable abbrev Cx.nox(X:Cx):Cx:=X.wish λ_ _=>False
theorem Cx.Ok.wish{X:Cx}(ok:X.Ok)(E:k7g):(X.wish E).Ok :=
 ⟨ok.mod,ok.kind,ok.glob,ok.blt,ok.above,ok.inj,ok.has,ok.cab,ok.hd,ok.frames,ok.stk,ok.exf,ok.bs,ok.bsz,ok.noex,ok.exfs,ok.funs,ok.frf⟩
theorem Cx.Ok.unwish{X:Cx}{E:k7g}(ok:(X.wish E).Ok):X.Ok :=
 ⟨ok.mod,ok.kind,ok.glob,ok.blt,ok.above,ok.inj,ok.has,ok.cab,ok.hd,ok.frames,ok.stk,ok.exf,ok.bs,ok.bsz,ok.noex,ok.exfs,ok.funs,ok.frf⟩
section
variable{X:Cx}{pins:k7h}{σ:St}{H:Hp}{s:ao}{E:k7g}
theorem Inv.wish(I:Inv X pins σ H s)(E:k7g):Inv (X.wish E) pins σ H s:=⟨I.ok.wish E,I.os,I.bare,I.base,I.loc,I.cell,I.free,I.freeC,I.pin,I.hok,I.len⟩
theorem Inv.unwish(I:Inv (X.wish E) pins σ H s):Inv X pins σ H s:=⟨I.ok.unwish,I.os,I.bare,I.base,I.loc,I.cell,I.free,I.freeC,I.pin,I.hok,I.len⟩
theorem SP.unwish{D:Ends}{f:Flow}{s':ao}(h:SP (X.wish E) pins D f s'):SP X pins D f s':=by
 cases f with
 |next=>obtain⟨σ',H',I,q⟩:=h;exact⟨σ',H',I.unwish,q⟩
 |brk=>obtain⟨σ',H',I,q⟩:=h;exact⟨σ',H',I.unwish,q⟩
 |cont=>obtain⟨σ',H',I,q⟩:=h;exact⟨σ',H',I.unwish,q⟩
 |ret u=>obtain⟨v,σ',H',H2,I,r,x,q⟩:=h;exact⟨v,σ',H',H2,I.unwish,r,x,q⟩
theorem PSs.nox{st:List aN}{t:TS}(h:PSs X.nox st t):PSs X st t:=λpins s σ H D I hw =>bo (h pins s σ H D (I.wish _) hw) (λ_ _ q=>q.unwish) λ_ _ z=>bc z
end
section
variable{X:Cx}{st:aN}{rest:List aN}{t u:TS}{e:ar}{te:TE}{pos:aM}
def jfw:TS:=λD σ H=>D.nx σ H
def ji7(t u:TS):TS:=λD σ H=>t { D with nx:=u D } σ H
theorem j1a:PSs X [] jfw:=λ_ _ σ H _ I h=>gE ⟨σ,H,I,h⟩
theorem Z1(h1:PS X st t)(h2:PSs X rest u):PSs X (st::rest) (ji7 t u):=by
 intro pins s σ H D I h;refine ky (thn (h1 pins s σ H { D with nx:=u D } I h) λf s1 q=>?_);cases f with
 |next =>obtain⟨σ',H',I',q⟩:=q;exact h2 pins s1 σ' H' D I' q
 |ret v=>exact q
 |brk=>exact q
 |cont=>exact q
theorem M5(h1:PS X st t):PSs X [st] t:=by
 intro pins s σ H D I h;refine ky (thn (h1 pins s σ H D I h) λf s1 q=>?_);cases f with
 |next=>exact gE q
 |ret v=>exact q
 |brk=>exact q
 |cont=>exact q
def jbw:TS:=λD σ H=>D.bk σ H
theorem j6a:PS X (.Break pos) jbw:=λ_ _ σ H _ I h=>wpAny_Break ⟨σ,H,I,h⟩
theorem Inv.quiet{pins:k7h}{σ:St}{H:Hp}{s:ao}(I:Inv X pins σ H s):interactive X.env=a9:=by simp[interactive,I.ok.kind]
def jfx(te:TE):TS:=λD σ H=>te σ H λ_ H1=>D.nx σ H1
theorem Uo(he:PE X e te)(hs:aO e ae pos.line X.env=pure a9:=by rfl):PS X (.Expr e pos) (jfx te):=by intro pins s σ H D I h;exact wpAny_Expr_any (thn (he pins s σ H _ I h) λv s1 ⟨x,H1,I1,r1,q1⟩=>⟨σ,H1,I1,q1⟩) I.quiet hs
def ji8(te:TE):TS:=λD σ H=>te σ H D.rt
theorem V8(he:PE X e te):PS X (.Return (a8 e) pos) (ji8 te):=by intro pins s σ H D I h;exact wpAny_Return_some (thn (he pins s σ H _ I h) λv s1 ⟨x,H1,I1,r1,q1⟩=>⟨x,σ,H1,H1,I1,r1,.refl,q1⟩)
def jie(c:TT)(t u:TS):TS:=λD σ H=>c σ H λb H1=>if b=aa then t D σ H1 else u D σ H1
theorem j87{c:ar}{a b:List aN}{tc:TT}(hc:PT X c tc)(ha:PSs X a t)(hb:PSs X b u):PS X (.If c a b pos) (jie tc t u):=by
 intro pins s σ H D I h;refine wpAny_If (thn (hc pins s σ H _ I h) λd s1 ⟨H1,I1,q1⟩=>?_);cases d with
 |true=>exact ha pins s1 σ H1 D I1 q1
 |false=>exact hb pins s1 σ H1 D I1 q1
end
abbrev TG:=V->St->Hp->(St->Hp->Prop)->Prop
abbrev TGs:=List V->St->Hp->(St->Hp->Prop)->Prop
def PG(X:Cx)(target:ar)(t:TG):Prop :=
 ∀(pins:k7h) (s:ao) (σ:St) (H:Hp) (v:V) (u:aj) (Q:St->Hp->Prop),Inv X pins σ H s->RelV v u->t v σ H Q ->
  ax (aC X.prog X.w) X.A (eW target X.env u) (λ_ s'=>∃σ' H',Inv X pins σ' H' s'/\Q σ' H') X.xe s
def PGs(X:Cx)(ts:List ar)(t:TGs):Prop :=
 ∀(pins:k7h) (s:ao) (σ:St) (H:Hp) (vs:List V) (us:List aj) (Q:St->Hp->Prop),Inv X pins σ H s->Vals vs us->t vs σ H Q ->
  ax (aC X.prog X.w) X.A (assignInOrder ((bL ts X.env).map (·.2)) us) (λ_ s'=>∃σ' H',Inv X pins σ' H' s'/\Q σ' H') X.xe s
section
variable{X:Cx}{pos:aM}
def Kg(i:Nat):TG:=λv σ H Q=>Q (σ.set i (a8 v)) H
theorem Up{i:Nat}{x:aq}(hN:X.N.Nodup)(hi:X.N[i]?=a8 x)(hx:Loc X.env.scope x)(hf:X.fn x=aa\/X.env.scope.names.lookup x=a8 .local:=by first|exact .inl rfl|exact .inr rfl|assumption):PG X (.Name x pos) (Kg i):=by intro pins s σ H v u Q I r h;exact jX (Kw I hN hi hx r (λs' I'=>⟨_,H,I',h⟩) hf)
def jj5:TGs:=λvs σ H Q=>vs=[]/\Q σ H
def jh7(t:TG)(u:TGs):TGs:=λvs σ H Q=>∃v r,vs=v::r/\t v σ H λσ' H'=>u r σ' H' Q
theorem j9z:PGs X [] jj5:=by intro pins s σ H vs us Q I r h;obtain⟨e,h⟩:=h;subst e;cases r;exact assignInOrder_nil ⟨σ,H,I,h⟩
theorem Iu{e:ar}{es:List ar}{t:TG}{u:TGs}(h1:PG X e t)(h2:PGs X es u)
  (hs:(bL (e::es) X.env).map (·.2)=eW e X.env::(bL es X.env).map (·.2):=by rfl):PGs X (e::es) (jh7 t u):=by
 intro pins s σ H vs us Q I r h;obtain⟨v,vr,e1,h⟩:=h;subst e1;cases r with
 |cons r rr =>rw[hs];refine assignInOrder_cons (thn (h1 pins s σ H _ _ _ I r h) λ_ s1 ⟨σ1,H1,I1,q1⟩=>?_);exact h2 pins s1 σ1 H1 _ _ Q I1 rr q1
def jj4(K:k7f)(n:Nat)(t:TGs):TG:=λv σ H Q=>∃a xs,v=.ref a/\SqT K H a xs/\xs.length=n/\t xs σ H Q
theorem jco{es:List ar}{k:Nat}{t:TGs}{n:Nat}(hc:X.calm=aa)(h:PGs X es t)
  (hn:(bL es X.env).length=n:=by rfl) (hst:(bL es X.env).findIdx? (·.1)=ae:=by rfl):PG X (.Tuple es k pos) (jj4 X.K n t):=by
 intro pins s σ H v u Q I r hw;obtain⟨a,xs,e1,hq,hl,hw⟩:=hw;subst e1;cases r;obtain⟨its,rv,ht,hz⟩:=I.tuple hq;refine assign_Tuple_tuple (I.ok.hd hc) ht (by simp[hn,<-hl,rv.length]) hst λh' hx=>?_;have I1:Inv X pins σ H { s with heap:=h' }:=I.kept (t':=s.toks) λb o e=>hx b o (X8 (xn e)) e;exact h pins _ σ H xs _ Q I1 (by simpa using rv) hw
def jig(te:TE)(g:TG):TS:=λD σ H=>te σ H λx H1=>g x σ H1 D.nx
theorem Um{i:Nat}{x:aq}{e:ar}{te:TE}{pos':aM}(hN:X.N.Nodup)(hi:X.N[i]?=a8 x)(hx:Loc X.env.scope x)(he:PE X e te)(hs:aO e (a8 (.Name x pos')) pos.line X.env=pure a9:=by rfl)(hf:X.fn x=aa\/X.env.scope.names.lookup x=a8 .local:=by first|exact .inl rfl|exact .inr rfl|assumption) :
  PS X (.Assign [.Name x pos'] e pos) (jig te (Kg i)):=by
 intro pins s σ H D I h;refine wpAny_Assign_Name (thn (he pins s σ H _ I h) λv s1 ⟨y,H1,I1,r1,q1⟩=>?_) hs;exact Kw I1 hN hi hx r1 (λs2 I2=>⟨_,H1,I2,q1⟩) hf
end
structure It where
 go:Nat->Hp->Prop
 yld:Nat->Hp->V->Hp->Prop
 stop:Nat->Hp->Prop
def Ja(X:Cx)(pins:k7h)(H:Hp)(b:ai):Prop :=
 H b=ae/\b≠X.env.locals/\b∉X.fs/\(b∈X.ex\/X.s₀.heap.objs.size<=b)/\(∀x c,X.env.cells.lookup x=a8 c->c≠b)/\∀p∈X.pn++pins,p.1≠b
theorem Inv.fpOk{X:Cx}{pins:k7h}{σ:St}{H H':Hp}{s:ao}{b:ai}(I:Inv X pins σ H s)(hb:s.heap.objs.size<=b)(hn:H' b=ae):Ja X pins H' b:=by
 refine⟨hn,Pn (Xo I.lt hb),I.nofs hb,.inr (Xh I.sz hb),λx c e z=>?_,λp hp z=>?_⟩
 .obtain⟨v,q⟩:=I.cell x c e;exact absurd (Xo q.lt (by rw[z];exact hb)) (t6 _)
 .exact absurd (Xo (xn (I.pin p hp).1) (by rw[z];exact hb)) (t6 _)
structure Turn(P:ay)(w:aD)(K:k7f)(tg:ar)(J:It)(fp:List ai)(it:ai)(tn:Nat->aF->Prop):Prop where
 mem:it∈fp
 obj:∀i h,tn i h->∀b∈fp,∃o,h.get? b=a8 o/\∀v,o.data≠.cell v
 keep:∀i h h',tn i h->(∀b∈fp,∀o,h.get? b=a8 o->h'.get? b=a8 o)->tn i h'
 item:∀(X:Cx),X.prog=P->X.w=w->X.K=K->X.calm=aa->∀(i:Nat)(pins:k7h) (s:ao) (σ:St) (H:Hp) (E:k7g),Inv X pins σ H s->(∀b∈fp,Ja X pins H b)->tn i s.heap->J.go i H ->
  ax (aC P w) X.A (dO (.ref it)) (λr s1=>∃u,r=a8 u /\
   ax (aC P w) X.A (eE tg (.ref it) u) (λ_ s2=>∃x H',Inv X pins σ H' s2/\RelV x u/\J.yld i H x H'/\tn (i+1) s2.heap/\∀b∈fp,H' b=ae) E s1) E s
 done:∀(X:Cx),X.prog=P->X.w=w->X.K=K->X.calm=aa->∀(i:Nat)(pins:k7h) (s:ao) (σ:St) (H:Hp) (E:k7g),Inv X pins σ H s->(∀b∈fp,Ja X pins H b)->tn i s.heap->J.stop i H ->
  ax (aC P w) X.A (dO (.ref it)) (λr s1=>r=ae/\Inv X pins σ H s1) E s
 self:∀(A:aG)(i:Nat)(s:ao)(Q:k7g)(E:k7g),tn i s.heap->Q (.ref it) s->ax (aC P w) A (iB (.ref it)) Q E s
abbrev TI:=St->Hp->(It->Hp->Prop)->Prop
def PIE(X:Cx)(pins:k7h)(σ:St)(tg:ar)(R:It->Hp->Prop)(itv:aj)(s2:ao):Prop :=
 ∃(it:ai)(fp:List ai)(tn:Nat->aF->Prop)(J:It)(H':Hp),itv=.ref it/\Inv X pins σ H' s2/\Turn X.prog X.w X.K tg J fp it tn/\tn 0 s2.heap/\(∀b∈fp,Ja X pins H' b)/\R J H'
def PI(X:Cx)(tg iter:ar)(wi:TI):Prop :=
 ∀(pins:k7h) (s:ao) (σ:St) (H:Hp) (R:It->Hp->Prop),Inv X pins σ H s->wi σ H R ->
  ax (aC X.prog X.w) X.A (aE iter X.env) (λv s1=>ax (aC X.prog X.w) X.A (iB v) (PIE X pins σ tg R) X.xe s1) X.xe s
theorem Kf{M:gX}{A:aG}{E:k7g}{s:ao}{tg:ar}{it:ai}{u:aj}{o:d7}{n:String}{vs:Array aj}{Q:Unit->ao->Prop}(ho:s.heap.get? it=a8 o)(hc:o.cls=.type n)(hd:o.data=.fields vs)
  (hn:["enumerate","zip","dict_itemiterator","dict_reverseitemiterator","odict_iterator","itertools.zip_longest","itertools.pairwise"].contains n=a9) (hQ:Q () s):ax M A (eE tg (.ref it) u) Q E s:=by
 unfold eE;cases tg<;>first
  |exact aw hQ
  |(cases u<;>first
    |exact aw hQ
    |(refine af (wpAny_load ho ?_);rw[hc,hd];show ax M A (if (["enumerate","zip","dict_itemiterator","dict_reverseitemiterator","odict_iterator","itertools.zip_longest","itertools.pairwise"].contains n&&vs[0]?==a8 (gk _))=aa then _ else _) Q E s;rw[if_neg (by intro h;rw[hn,jG]at h;cases h)];exact aw hQ))
noncomputable def Itl(K:k7f)(a:ai):It :=
 ⟨λi H=>∃xs x,SqL K H a xs/\xs[i]?=a8 x,λi H x H'=>H'=H/\∀xs,SqL K H a xs->xs[i]?=a8 x,λi H=>∃xs,SqL K H a xs/\xs.length<=i⟩
noncomputable def Itt(K:k7f)(a:ai):It :=
 ⟨λi H=>∃xs x,SqT K H a xs/\xs[i]?=a8 x,λi H x H'=>H'=H/\∀xs,SqT K H a xs->xs[i]?=a8 x,λi H=>∃xs,SqT K H a xs/\xs.length<=i⟩
noncomputable def Itr(lo:Int)(n:Nat):It:=⟨λi _=>i<n,λi H x H'=>H'=H/\x=.int (lo+i),λi _=>n<=i⟩
theorem j3i{P:ay}{w:aD}{K:k7f}{tg:ar}(a it:ai):Turn P w K tg (Itl K a) [it] it (λi h=>h.IsListIter it a i) where
 mem:=by simp
 obj:=λi h st b hb=>by
  have e:b=it:=by simpa using hb
  subst e;obtain⟨o,e,c,d⟩:=st;exact⟨o,e,λv z=>by rw[d]at z;cases z⟩
 keep:=λi h h' st k=>st.at λo e=>k it (by simp) o e
 item:=by intro X hP hw hK hc i pins s σ H E I hf st hg;subst hP hw hK;obtain⟨xs,x,hq,hx⟩:=hg;obtain⟨its,rv,p,hz⟩:=I.list hq;obtain⟨u,hu,ru⟩:=rv.get hx;obtain⟨f0,f1,f2,f3,f4,f5⟩:=hf it (by simp);refine dZ st p.isList (x:=u) (by simpa using hu) λh' st' sb=>?_;have I1:Inv X pins σ H { s with heap:=h' }:=I.turned (t':=s.toks) (λb o hb e=>(sb.2 b hb).trans e) f0 f1 f3 f4 f5;obtain⟨o,e,c,d⟩:=id st';exact⟨u,rfl,Kf (s:={ s with heap:=h' }) e c d (by decide) ⟨x,H,I1,ru,⟨rfl,λys hy=>by rw[I.list_inj hy hq];exact hx⟩,st',λb hb=>(hf b hb).1⟩⟩
 done:=by intro X hP hw hK hc i pins s σ H E I hf st hg;subst hP hw hK;obtain⟨xs,hq,hx⟩:=hg;obtain⟨its,rv,p,hz⟩:=I.list hq;obtain⟨f0,f1,f2,f3,f4,f5⟩:=hf it (by simp);have hl:=rv.length;exact iK (I.ok.hd hc) st p.isList (by simp;omega) λh' eb=>⟨rfl,I.turned (t':=s.toks) (λb o hb e=>eb b o hb e) f0 f1 f3 f4 f5⟩
 self:=λ_ _ _ _ _ st h=>wpAny_pyIter_listiter st h
theorem j1z{P:ay}{w:aD}{K:k7f}{tg:ar}(a it:ai):Turn P w K tg (Itt K a) [it] it (λi h=>h.IsTupleIter it a i) where
 mem:=by simp
 obj:=λi h st b hb=>by
  have e:b=it:=by simpa using hb
  subst e;obtain⟨o,e,c,d⟩:=st;exact⟨o,e,λv z=>by rw[d]at z;cases z⟩
 keep:=λi h h' st k=>st.at λo e=>k it (by simp) o e
 item:=by intro X hP hw hK hc i pins s σ H E I hf st hg;subst hP hw hK;obtain⟨xs,x,hq,hx⟩:=hg;obtain⟨its,rv,p,hz⟩:=I.tuple hq;obtain⟨u,hu,ru⟩:=rv.get hx;obtain⟨f0,f1,f2,f3,f4,f5⟩:=hf it (by simp);refine wpAny_pyNext_tuple_item st (show s.heap.IsTuple a its.toArray from p) (x:=u) (by simpa using hu) λh' st' sb=>?_;have I1:Inv X pins σ H { s with heap:=h' }:=I.turned (t':=s.toks) (λb o hb e=>(sb.2 b hb).trans e) f0 f1 f3 f4 f5;obtain⟨o,e,c,d⟩:=id st';exact⟨u,rfl,Kf (s:={ s with heap:=h' }) e c d (by decide) ⟨x,H,I1,ru,⟨rfl,λys hy=>by rw[I.tuple_inj hy hq];exact hx⟩,st',λb hb=>(hf b hb).1⟩⟩
 done:=by intro X hP hw hK hc i pins s σ H E I hf st hg;subst hP hw hK;obtain⟨xs,hq,hx⟩:=hg;obtain⟨its,rv,p,hz⟩:=I.tuple hq;obtain⟨f0,f1,f2,f3,f4,f5⟩:=hf it (by simp);have hl:=rv.length;exact wpAny_pyNext_tuple_end (I.ok.hd hc) st (show s.heap.IsTuple a its.toArray from p) (by simp;omega) λh' eb=>⟨rfl,I.turned (t':=s.toks) (λb o hb e=>eb b o hb e) f0 f1 f3 f4 f5⟩
 self:=λ_ _ _ _ _ st h=>wpAny_pyIter_tupleiter st h
theorem j20{P:ay}{w:aD}{K:k7f}{tg:ar}(it:ai)(lo:Int)(n:Nat):Turn P w K tg (Itr lo n) [it] it (λi h=>IsRangeIter h it (lo+(i:Nat)*1) ((n:Int)-(i:Nat)) 1) where
 mem:=by simp
 obj:=λi h st b hb=>by
  have e:b=it:=by simpa using hb
  subst e;exact⟨_,st,λv z=>by
   have z':Data.fields _=Data.cell v:=z
   cases z'⟩
 keep:=λi h h' st k=>k it (by simp) _ st
 item:=by intro X hP hw hK hc i pins s σ H E I hf st hg;subst hP hw hK;obtain⟨f0,f1,f2,f3,f4,f5⟩:=hf it (by simp);have W:=Walks.range (prog:=X.prog) (w:=X.w) (I.ok.hd hc) it lo 1 n;refine W.item i s _ _ hg st λv h' tk hv st' kk=>?_;obtain⟨t,rfl⟩:=hv;have I1:Inv X pins σ H { s with heap:=h',toks:=tk }:=I.turned (λb o hb e=>kk b o (by simpa using hb) e) f0 f1 f3 f4 f5;refine⟨_,rfl,Kf (s:={ s with heap:=h',toks:=tk }) (n:="range_iterator") st' rfl rfl (by decide) ⟨.int (lo+i),H,I1,⟨t,?_⟩,⟨rfl,rfl⟩,st',λb hb=>(hf b hb).1⟩⟩;rw[lh]
 done:=by intro X hP hw hK hc i pins s σ H E I hf st hg;subst hP hw hK;obtain⟨f0,f1,f2,f3,f4,f5⟩:=hf it (by simp);exact wpAny_pyNext_range_end (I.ok.hd hc) st (by have:n<=i:=hg;omega) λh' eb=>⟨rfl,I.turned (t':=s.toks) (λb o hb e=>eb b o hb e) f0 f1 f3 f4 f5⟩
 self:=λ_ _ _ _ _ st h=>wpAny_pyIter_rangeiter st h
section
variable{X:Cx}{tg:ar}
def jh5(K:k7f)(tl:TE):TI:=λσ H R=>tl σ H λx H1=>∃a,x=.ref a/\(∃xs,SqL K H1 a xs)/\R (Itl K a) H1
def jj3(K:k7f)(tl:TE):TI:=λσ H R=>tl σ H λx H1=>∃a,x=.ref a/\(∃xs,SqT K H1 a xs)/\R (Itt K a) H1
theorem j9y{l:ar}{tl:TE}(hl:PE X l tl):PI X tg l (jh5 X.K tl):=by
 intro pins s σ H R I h;refine thn (hl pins s σ H _ I h) λv s1 ⟨x,H1,I1,r1,q1⟩=>?_;obtain⟨a,e,⟨xs,hq⟩,q⟩:=q1;subst e;cases r1;obtain⟨its,rv,p,hz⟩:=I1.list hq;refine bx p.isList ?_;refine⟨s1.heap.objs.size,[s1.heap.objs.size],_,_,H1,rfl,I1.kept (t':=s1.toks) λb o e=>xg _ e,j3i a _,⟨_,X7 _ rfl,rfl,rfl⟩,λb hb=>?_,q⟩;have e:b=s1.heap.objs.size:=by simpa using hb
 subst e;exact I1.fpOk (xx _) (I1.hok.fresh (xx _))
theorem jcn{l:ar}{tl:TE}(hl:PE X l tl):PI X tg l (jj3 X.K tl):=by
 intro pins s σ H R I h;refine thn (hl pins s σ H _ I h) λv s1 ⟨x,H1,I1,r1,q1⟩=>?_;obtain⟨a,e,⟨xs,hq⟩,q⟩:=q1;subst e;cases r1;obtain⟨its,rv,p,hz⟩:=I1.tuple hq;refine fC (show s1.heap.IsTuple a its.toArray from p) ?_;refine⟨s1.heap.objs.size,[s1.heap.objs.size],_,_,H1,rfl,I1.kept (t':=s1.toks) λb o e=>xg _ e,j1z a _,⟨_,X7 _ rfl,rfl,rfl⟩,λb hb=>?_,q⟩;have e:b=s1.heap.objs.size:=by simpa using hb
 subst e;exact I1.fpOk (xx _) (I1.hok.fresh (xx _))
theorem Ir{pins:k7h}{σ:St}{H:Hp}{s:ao}{R:It->Hp->Prop}{E:k7g}{lo hi:Int}{t u v:i8}{tk:Nat}(I:Inv X pins σ H s)(h1:-(2^62)<=lo)(h2:lo<2^62)(h3:-(2^62)<=hi)(h4:hi<2^62)
  (q:R (Itr lo (hi-lo).toNat) H):ax (aC X.prog X.w) X.A (iB (.ref s.heap.objs.size)) (PIE X pins σ tg R) E { s with heap:=s.heap.push { cls:=.type "range",data:=.fields #[.int lo t,.int hi u,.int 1 v] },toks:=tk }:=by
 refine wpAny_pyIter_range (IsRange.new ..) (small_one h1 h2 h3 h4) ?_;have I1:Inv X pins σ H { s with heap:=s.heap.push { cls:=.type "range",data:=.fields #[.int lo t,.int hi u,.int 1 v] },toks:=tk }:=I.kept λb o e=>xg _ e;refine⟨(s.heap.push { cls:=.type "range",data:=.fields #[.int lo t,.int hi u,.int 1 v] }).objs.size,[(s.heap.push { cls:=.type "range",data:=.fields #[.int lo t,.int hi u,.int 1 v] }).objs.size],_,_,H,rfl,
  I1.kept (t':=tk) λb o e=>xg _ e,j20 _ lo (hi-lo).toNat,?_,λb hb=>?_,q⟩
 .have e1:lo+((0:Nat):Int)*1=lo:=by simp
  have e2:(((hi-lo).toNat:Nat):Int)-((0:Nat):Int)=Builtin.Range.rangeSize lo hi 1:=by rw[rangeSize_one];split<;>omega
  show IsRangeIter _ _ (lo+((0:Nat):Int)*1) ((((hi-lo).toNat:Nat):Int)-((0:Nat):Int)) 1;rw[e1,e2];exact X7 _ rfl
 .have e:b=(s.heap.push { cls:=.type "range",data:=.fields #[.int lo t,.int hi u,.int 1 v] }).objs.size:=by simpa using hb
  subst e;exact I1.fpOk (xx _) (I1.hok.fresh (xx _))
def jh4(ta:TA):TI:=λσ H R=>ta σ H λvs H1=>∃j:Int,vs=[.int j]/\-(2^62)<=j/\j<2^62/\R (Itr 0 j.toNat) H1
def jh3(ta:TA):TI:=λσ H R=>ta σ H λvs H1=>∃i j:Int,vs=[.int i,.int j]/\(-(2^62)<=i/\i<2^62/\-(2^62)<=j/\j<2^62)/\R (Itr i (j-i).toNat) H1
theorem j3z {a:ar} {ta:TA} {p pos:aM} (hg:Gl X "range") (hm:X.mg "range" = ae) (ha:PA X [a] ta) (hs:ah [a] X.env=[(a9,aE a X.env)]:=by rfl):PI X tg (.Call (.Name "range" p) [a] [] pos) (jh4 ta):=by
 intro pins s σ H R I h;refine Call_ (Qc I hg hm boot_range (callWith_type1 (thn (ha pos pins s σ H _ I h) λus s1 ⟨vs,H1,I1,r1,q1⟩=>?_) hs rfl));obtain⟨j,e,q1,q2,q⟩:=q1;subst e;cases r1 with
 |cons r rr =>cases rr;obtain⟨t,rfl⟩:=r;exact call_range_1 (Ir I1 nofun nofun q1 q2 (by simpa using q))
theorem j3y {a b:ar} {ta:TA} {p pos:aM} (hg:Gl X "range") (hm:X.mg "range" = ae) (ha:PA X [a,b] ta) (hs:ah [a,b] X.env=[(a9,aE a X.env),(a9,aE b X.env)]:=by rfl) (hs2:ah [b] X.env=[(a9,aE b X.env)]:=by rfl) :
  PI X tg (.Call (.Name "range" p) [a,b] [] pos) (jh3 ta):=by
 intro pins s σ H R I h;refine Call_ (Qc I hg hm boot_range (callWith_type1 (thn (ha pos pins s σ H _ I h) λus s1 ⟨vs,H1,I1,r1,q1⟩=>?_) (by rw[hs,hs2]) (by rw[hs2];rfl)));obtain⟨i,j,e,⟨q1,q2,q3,q4⟩,q⟩:=q1;subst e;cases r1 with
 |cons r rr =>
  cases rr with
  |cons r' rr =>cases rr;obtain⟨t,rfl⟩:=r;obtain⟨t',rfl⟩:=r';exact call_range_2 (Ir I1 q1 q2 q3 q4 q)
def jif(wi:TI)(g:TG)(tb:TS):TS:=λD σ H=>wi σ H λJ H1=>∃W:Nat->Nat->St->Hp->Prop,(∃m,W 0 m σ H1)/\∀i m σ H,W i m σ H ->
 (J.stop i H/\D.nx σ H)\/(J.go i H/\∃N:St->Hp->Prop,(∀σ' H',N σ' H'->∃m',m'<m/\W (i+1) m' σ' H')/\∀x H',J.yld i H x H'->g x σ H' λσ2 H2=>tb { D with nx:=N,ct:=N,bk:=D.nx } σ2 H2)
noncomputable def V9(fp:List ai)(h:aF):List (ai×d7):=fp.filterMap λb=>(h.get? b).map λo=>(b,o)
theorem J7{fp:List ai}{h:aF}{b:ai}{o:d7}(hb:b∈fp)(e:h.get? b=a8 o):(b,o)∈V9 fp h:=T9.mpr ⟨b,hb,by rw[e];rfl⟩
theorem Cq{fp:List ai}{h:aF}{p:ai×d7}(hp:p∈V9 fp h):p.1∈fp/\h.get? p.1=a8 p.2:=by
 obtain⟨b,hb,e⟩:=T9.mp hp;cases q:h.get? b with
 |none=>rw[q]at e;cases e
 |some o =>rw[q]at e;have e':(b,o)=p:=aB e;subst e';exact⟨hb,q⟩
theorem Inv.pinned{pins:k7h}{σ:St}{H:Hp}{s:ao}{fp:List ai}(I:Inv X pins σ H s)(hf:∀b∈fp,Ja X pins H b)(ho:∀b∈fp,∃o,s.heap.get? b=a8 o/\∀v,o.data≠.cell v):Inv X (pins++V9 fp s.heap) σ H s :=
 I.pins_of λp hp=>(Pk.mp hp).elim (λz=>I.pin p (Xa _ z)) λz=>by obtain⟨hb,e⟩:=Cq z;obtain⟨f0,f1,f2,_⟩:=hf p.1 hb;obtain⟨o,e',d⟩:=ho p.1 hb;rw[e]at e';cases e';exact⟨e,f0,f1,f2,d⟩
theorem Inv.unpinned{pins pl:k7h}{σ:St}{H:Hp}{s:ao}(I:Inv X (pins++pl) σ H s):Inv X pins σ H s:=I.pins_of λp hp=>I.pin p (Xa _ (Xu _ hp))
theorem jcl{iter:ar}{body:List aN}{wi:TI}{g:TG}{tb:TS}{pos:aM}(hp:ik (aC X.prog X.w) X.A X.env X.xe)(hc:X.calm=aa)(hi:PI X tg iter wi)(hg:PG X tg g)(hb:PSs X body tb)
  (hs:∀x,aK iter X.env x=pure x:=by intro _;rfl):PS X (.For tg iter body [] pos) (jif wi g tb):=by
 intro pins s σ H D I h;refine wpAny_For (thn (hi pins s σ H _ I h) λv s1 h1=>thn h1 λitv s2 h2=>?_) hs;obtain⟨it,fp,tn,J,H2,e,I2,T,st2,f2,W,⟨m0,w0⟩,turn⟩:=h2;subst e;have stat:∀{H':Hp},(∀b∈fp,H' b=ae)->∀b∈fp,Ja X pins H' b:=λhn b hb=>⟨hn b hb,(f2 b hb).2⟩
 refine codeAny_forLoop_any (λn s'=>∃i σ' H',Inv X pins σ' H' s'/\tn i s'.heap/\(∀b∈fp,H' b=ae)/\W i n σ' H') ?_ m0 ⟨0,σ,H2,I2,st2,λb hb=>(f2 b hb).1,w0⟩;rintro n s3 ⟨i,σ3,H3,I3,st3,fr3,w3⟩;rcases turn i n σ3 H3 w3 with ⟨stop,qn⟩|⟨go,N,hN,step⟩
 .refine d4 hp (thn (T.done X rfl rfl rfl hc i pins s3 σ3 H3 X.xe I3 (stat fr3) st3 stop) λr s4 ⟨hr,I4⟩=>?_);subst hr;exact gE ⟨σ3,H3,I4,qn⟩
 .refine d4 hp (thn (T.item X rfl rfl rfl hc i pins s3 σ3 H3 X.xe I3 (stat fr3) st3 go) λr s4 ⟨u,hr,h4⟩=>?_);subst hr;refine d4 hp (thn h4 λ_ s5 ⟨x,H5,I5,r5,y5,st5,fr5⟩=>?_);have I5':=I5.pinned (stat fr5) (T.obj _ _ st5);refine d4 hp (thn (hg _ s5 σ3 H5 x u _ I5' r5 (step x H5 y5)) λ_ s6 ⟨σ6,H6,I6,q6⟩=>?_);refine d4 hp (thn (hb _ s6 σ6 H6 _ I6 q6) λf s7 q7=>?_);have ij:∀{σ7:St}{H7:Hp},Inv X (pins++V9 fp s5.heap) σ7 H7 s7->N σ7 H7->∃m,m<n/\∃i σ' H',Inv X pins σ' H' s7/\tn i s7.heap/\(∀b∈fp,H' b=ae)/\W i m σ' H':=λ{σ7 H7} I7 n7=>by obtain⟨m',hm,w7⟩:=hN σ7 H7 n7;refine⟨m',hm,i+1,σ7,H7,I7.unpinned,T.keep _ _ _ st5 λb hb o e=>(I7.pin (b,o) (Xa _ (Xa _ (J7 hb e)))).1,λb hb=>?_,w7⟩;obtain⟨o,e,d⟩:=T.obj _ _ st5 b hb;exact(I7.pin (b,o) (Xa _ (Xa _ (J7 hb e)))).2.1
  cases f with
  |next=>obtain⟨σ7,H7,I7,n7⟩:=q7;exact ij I7 n7
  |cont=>obtain⟨σ7,H7,I7,n7⟩:=q7;exact ij I7 n7
  |brk=>obtain⟨σ7,H7,I7,q7⟩:=q7;exact⟨σ7,H7,I7.unpinned,q7⟩
  |ret v=>obtain⟨x7,σ7,H7,H8,I7,r7,x8,q7⟩:=q7;exact⟨x7,σ7,H7,H8,I7.unpinned,r7,x8,q7⟩
end
abbrev R2:=V->V->Hp->VK->Prop
def OpR(X:Cx)(f:aj->aj->lD aj)(r:R2):Prop :=
 ∀(pins:k7h) (s:ao) (σ:St) (H:Hp) (x y:V) (v u:aj) (Q:VK),Inv X pins σ H s->RelV x v->RelV y u->r x y H Q ->
  ax (aC X.prog X.w) X.A (f v u) (EP X pins σ Q) X.xe s
def UnR(X:Cx)(f:aj->lD aj)(r:V->Hp->VK->Prop):Prop :=
 ∀(pins:k7h) (s:ao) (σ:St) (H:Hp) (x:V) (v:aj) (Q:VK),Inv X pins σ H s->RelV x v->r x H Q ->
  ax (aC X.prog X.w) X.A (f v) (EP X pins σ Q) X.xe s
def Jp(X:Cx)(f:aj)(r:List V->Hp->VK->Prop):Prop :=
 ∀(pins:k7h) (s:ao) (σ:St) (H:Hp) (xs:List V) (us:List aj) (Q:VK),Inv X pins σ H s->Vals xs us->r xs H Q ->
  ax (aC X.prog X.w) X.A (call f us) (EP X pins σ Q) X.xe s
def tOp(r:R2)(ta tb:TE):TE:=λσ H Q=>ta σ H λx H1=>tb σ H1 λy H2=>r x y H2 Q
def tUn(r:V->Hp->VK->Prop)(ta:TE):TE:=λσ H Q=>ta σ H λx H1=>r x H1 Q
def rI(C:Int->Int->Prop)(g:Int->Int->V):R2:=λx y H Q=>∃i j,x=.int i/\y=.int j/\C i j/\Q (g i j) H
def rI0(g:Int->Int->V):R2:=λx y H Q=>∃i j,x=.int i/\y=.int j/\Q (g i j) H
def rU(g:Int->V):V->Hp->VK->Prop:=λx H Q=>∃i,x=.int i/\Q (g i) H
section
variable{X:Cx}{a b c:ar}{ta tb tc:TE}{pos:aM}
theorem j7o(ha:PE X a ta)(hb:PE X b tb){pins:k7h}{s:ao}{σ:St}{H:Hp}{R:V->V->Hp->Prop}(I:Inv X pins σ H s)
  (h:ta σ H λx H1=>tb σ H1 λy H2=>R x y H2) {Q:k7g} {f:aj->aj->lD aj}
  (hf:∀v u s2 x y H2,Inv X pins σ H2 s2->RelV x v->RelV y u->R x y H2->ax (aC X.prog X.w) X.A (f v u) Q X.xe s2) :
  ax (aC X.prog X.w) X.A (aE a X.env) (λv s₁=>ax (aC X.prog X.w) X.A (aE b X.env) (λu s₂=>ax (aC X.prog X.w) X.A (f v u) Q X.xe s₂) X.xe s₁) X.xe s:=by
 refine thn (ha pins s σ H _ I h) λv s1 ⟨x,H1,I1,r1,q1⟩=>?_;refine thn (hb pins s1 σ H1 _ I1 q1) λu s2 ⟨y,H2,I2,r2,q2⟩=>?_;exact hf v u s2 x y H2 I2 r1 r2 q2
theorem Yq{op:iV}{r:R2}(ho:OpR X (aY op) r)(ha:PE X a ta)(hb:PE X b tb):PE X (.BinOp a op b pos) (tOp r ta tb):=by intro pins s σ H Q I h;exact wpAny_BinOp (j7o ha hb I h λv u s2 x y H2 I2 rx ry q=>ho pins s2 σ H2 x y v u Q I2 rx ry q)
theorem jgh{op:UnaryOp}{r:V->Hp->VK->Prop}(ho:UnR X (unaryOp op) r)(ha:PE X a ta):PE X (.UnaryOp op a pos) (tUn r ta):=by intro pins s σ H Q I h;exact UnaryOp_ (thn (ha pins s σ H _ I h) λv s1 ⟨x,H1,I1,r1,q1⟩=>ho pins s1 σ H1 x v Q I1 r1 q1)
theorem opI{f:aj->aj->lD aj}{C:Int->Int->Prop}{g:Int->Int->Int}
  (kz:∀(i j:Int)(t u:i8)(s:ao)(Q:k7g)(E:k7g),C i j->Q (.int (g i j) s.toks) { s with toks:=s.toks+1 }->ax (aC X.prog X.w) X.A (f (.int i t) (.int j u)) Q E s) :
  OpR X f (rI C λi j=>.int (g i j)):=by
 intro pins s σ H x y v u Q I rx ry h;obtain⟨i,j,rfl,rfl,hc,q⟩:=h;obtain⟨t,rfl⟩:=rx;obtain⟨t',rfl⟩:=ry;exact kz i j t t' s _ _ hc ⟨.int (g i j),H,I.tok _,⟨_,rfl⟩,q⟩
theorem j2n{f:aj->aj->lD aj}{g:Int->Int->Int}
  (kz:∀(i j:Int)(t u:i8)(s:ao)(Q:k7g)(E:k7g),Q (.int (g i j) s.toks) { s with toks:=s.toks+1 }->ax (aC X.prog X.w) X.A (f (.int i t) (.int j u)) Q E s) :
  OpR X f (rI0 λi j=>.int (g i j)):=by
 intro pins s σ H x y v u Q I rx ry h;obtain⟨i,j,rfl,rfl,q⟩:=h;obtain⟨t,rfl⟩:=rx;obtain⟨t',rfl⟩:=ry;exact kz i j t t' s _ _ ⟨.int (g i j),H,I.tok _,⟨_,rfl⟩,q⟩
theorem j2o{f:aj->aj->lD aj}{g:Int->Int->Bool}
  (kz:∀(i j:Int)(t u:i8)(s:ao)(Q:k7g)(E:k7g),Q (.bool (g i j)) s->ax (aC X.prog X.w) X.A (f (.int i t) (.int j u)) Q E s) :
  OpR X f (rI0 λi j=>.bl (g i j)):=by
 intro pins s σ H x y v u Q I rx ry h;obtain⟨i,j,rfl,rfl,q⟩:=h;obtain⟨t,rfl⟩:=rx;obtain⟨t',rfl⟩:=ry;exact kz i j t t' s _ _ ⟨.bl (g i j),H,I,rfl,q⟩
def j3e(i j:Int):Prop:=0<=j/\j<=1000000/\i.natAbs<2^64
def j3f(i j:Int):Prop:=(-(2^64)<i/\i<2^64)\/(-(2^64)<j/\j<2^64)
theorem j3f.ok{i j:Int}(h:j3f i j):IntMulOk i j:=by
 rcases h with ⟨h1,h2⟩|⟨h1,h2⟩
 .exact .of_left (lL h1 h2)
 .exact .of_right (lL h1 h2)
theorem j1y(k:Nat):(0:Int)<=2^k:=by rw[two_pow_cast];exact iH _
theorem jd2:OpR X (aY .Add) (rI0 λi j=>.int (i+j)):=j2n λ_ _ _ _ _ _ _ q=>add_int q
theorem jcu:OpR X (aY .Sub) (rI0 λi j=>.int (i-j)):=j2n λ_ _ _ _ _ _ _ q=>sub_int q
theorem jcz:OpR X (aY .Mult) (rI j3f λi j=>.int (i*j)):=opI λ_ _ _ _ _ _ _ hc q=>mul_int q hc.ok
theorem jd0:OpR X (aY .Mod) (rI (λ_ j=>0<j) λi j=>.int (i%j)):=opI λi j _ _ _ _ _ hc q=>by have h1:(0:Int)<j:=hc;exact mod_int' nofun (by rw[Int.fmod_eq_emod_of_nonneg i nofun];exact q)
theorem jcy:OpR X (aY .Pow) (rI j3e λi j=>.int (i^j.toNat)):=opI λ_ _ _ _ _ _ _ hc q=>pow_int_small hc.1 hc.2.1 hc.2.2 q
theorem jcw:OpR X (aY .LShift) (rI j3e λi j=>.int (i*2^j.toNat)):=opI λ_ _ _ _ _ _ _ hc q=>lshift_int_small hc.1 hc.2.1 hc.2.2 q
theorem jcv:OpR X (aY .RShift) (rI (λ_ j=>0<=j) λi j=>.int (i/2^j.toNat)):=opI λi j _ _ _ _ _ hc q =>rshift_int hc (by rw[gu i (j1y _)];exact q)
theorem jd1:OpR X (aY .BitAnd) (rI0 λi j=>.int (Builtin.bitAnd i j)):=j2n λ_ _ _ _ _ _ _ q=>and_int q
theorem jct:OpR X (aY .BitXor) (rI0 λi j=>.int (Builtin.bitXor i j)):=j2n λ_ _ _ _ _ _ _ q=>xor_int q
theorem unI{f:aj->lD aj}{g:Int->Int}
  (kz:∀(i:Int)(t:i8)(s:ao)(Q:k7g)(E:k7g),Q (.int (g i) s.toks) { s with toks:=s.toks+1 }->ax (aC X.prog X.w) X.A (f (.int i t)) Q E s) :
  UnR X f (rU λi=>.int (g i)):=by
 intro pins s σ H x v Q I rx h;obtain⟨i,rfl,q⟩:=h;obtain⟨t,rfl⟩:=rx;exact kz i t s _ _ ⟨.int (g i),H,I.tok _,⟨_,rfl⟩,q⟩
theorem jbq:UnR X (unaryOp .USub) (rU λi=>.int (-i)):=unI λ_ _ _ _ _ q=>neg_int q
end
noncomputable def Fo:V->V->Bool
 |.non,.non=>aa|.non,.int _=>aa|.int _,.non=>aa|.non,.bl _=>aa|.bl _,.non=>aa|.non,.str _=>aa|.str _,.non=>aa
 |.int _,.int _=>aa|.bl _,.bl _=>aa|.str _,.str _=>aa|.byt _,.byt _=>aa
 |.int _,.str _=>aa|.str _,.int _=>aa|.bl _,.str _=>aa|.str _,.bl _=>aa
 |_,_=>a9
def rEq:R2:=λx y H Q=>Fo x y=aa/\Q (.bl (decide (x=y))) H
def rNe:R2:=λx y H Q=>Fo x y=aa/\Q (.bl (!decide (x=y))) H
theorem j1q{i j:Int}:decide (V.int i=V.int j)=(i==j):=by rw[cj];simp
theorem j4v{i j:Bool}:decide (V.bl i=V.bl j)=(i==j):=by rw[cj];simp
theorem j1p{i j:aq}:decide (V.str i=V.str j)=(i==j):=by rw[cj];simp
theorem j1r{i j:Array UInt8}:decide (V.byt i=V.byt j)=(i.toList==j.toList):=by rw[cj];cases i;cases j;simp
section
variable{X:Cx}{a b c:ar}{ta tb tc:TE}{pos:aM}
theorem jr{pins:k7h}{σ:St}{H:Hp}{s:ao}{Q:VK}{k k':Bool}(I:Inv X pins σ H s)(q:Q (.bl k) H)(e:k=k'):EP X pins σ Q (.bool k') s:=by subst e;exact⟨.bl k,H,I,rfl,q⟩
theorem j8c:OpR X (aT .Eq) rEq:=by
 intro pins s σ H x y v u Q I rx ry h;obtain⟨hs,q⟩:=h;cases x with
 |non =>
  cases rx;cases y with
  |non=>cases ry;exact kT (jr I q (by simp))
  |bl j=>cases ry;exact kW (jr I q (by simp))
  |int j=>obtain⟨t',rfl⟩:=ry;exact kU (jr I q (by simp))
  |str j=>obtain⟨t',rfl⟩:=ry;exact kS (jr I q (by simp))
  |_=>exact absurd (show a9=aa from hs) xf
 |bl i =>
  cases rx;cases y with
  |non=>cases ry;exact kY (jr I q (by simp))
  |bl j=>cases ry;exact eq_bool (jr I q j4v)
  |str j=>obtain⟨t',rfl⟩:=ry;exact kn (jr I q (by simp))
  |_=>exact absurd (show a9=aa from hs) xf
 |int i =>
  obtain⟨t,rfl⟩:=rx;cases y with
  |non=>cases ry;exact kX (jr I q (by simp))
  |int j=>obtain⟨t',rfl⟩:=ry;exact eq_int (jr I q j1q)
  |str j=>obtain⟨t',rfl⟩:=ry;exact kl (jr I q (by simp))
  |_=>exact absurd (show a9=aa from hs) xf
 |str i =>
  obtain⟨t,rfl⟩:=rx;cases y with
  |non=>cases ry;exact kR (jr I q (by simp))
  |bl j=>cases ry;exact ki (jr I q (by simp))
  |int j=>obtain⟨t',rfl⟩:=ry;exact kg (jr I q (by simp))
  |str j=>obtain⟨t',rfl⟩:=ry;exact eq_str (jr I q j1p)
  |_=>exact absurd (show a9=aa from hs) xf
 |byt i =>
  obtain⟨t,rfl⟩:=rx;cases y with
  |byt j=>obtain⟨t',rfl⟩:=ry;exact W.eq_bytes (jr I q j1r)
  |_=>exact absurd (show a9=aa from hs) xf
 |_=>cases y<;>exact absurd (show a9=aa from hs) xf
theorem j88:OpR X (aT .NotEq) rNe:=by
 intro pins s σ H x y v u Q I rx ry h;obtain⟨hs,q⟩:=h;cases x with
 |non =>
  cases rx;cases y with
  |non=>cases ry;exact kM (jr I q (by simp))
  |bl j=>cases ry;exact kO (jr I q (by simp))
  |int j=>obtain⟨t',rfl⟩:=ry;exact kN (jr I q (by simp))
  |str j=>obtain⟨t',rfl⟩:=ry;exact kL (jr I q (by simp))
  |_=>exact absurd (show a9=aa from hs) xf
 |bl i =>
  cases rx;cases y with
  |non=>cases ry;exact kQ (jr I q (by simp))
  |bl j=>cases ry;exact ne_bool (jr I q (congrArg not j4v))
  |str j=>obtain⟨t',rfl⟩:=ry;exact ke (jr I q (by simp))
  |_=>exact absurd (show a9=aa from hs) xf
 |int i =>
  obtain⟨t,rfl⟩:=rx;cases y with
  |non=>cases ry;exact kP (jr I q (by simp))
  |int j=>obtain⟨t',rfl⟩:=ry;exact ne_int (jr I q (congrArg not j1q))
  |str j=>obtain⟨t',rfl⟩:=ry;exact kc (jr I q (by simp))
  |_=>exact absurd (show a9=aa from hs) xf
 |str i =>
  obtain⟨t,rfl⟩:=rx;cases y with
  |non=>cases ry;exact kK (jr I q (by simp))
  |bl j=>cases ry;exact ka (jr I q (by simp))
  |int j=>obtain⟨t',rfl⟩:=ry;exact k9 (jr I q (by simp))
  |str j=>obtain⟨t',rfl⟩:=ry;exact ne_str (jr I q (congrArg not j1p))
  |_=>exact absurd (show a9=aa from hs) xf
 |byt i =>
  obtain⟨t,rfl⟩:=rx;cases y with
  |byt j=>obtain⟨t',rfl⟩:=ry;exact W.ne_bytes (jr I q (congrArg not j1r))
  |_=>exact absurd (show a9=aa from hs) xf
 |_=>cases y<;>exact absurd (show a9=aa from hs) xf
theorem j89:OpR X (aT .Lt) (rI0 λi j=>.bl (decide (i<j))):=j2o λ_ _ _ _ _ _ _ q=>lt_int q
theorem j8a:OpR X (aT .LtE) (rI0 λi j=>.bl (decide (i<=j))):=j2o λ_ _ _ _ _ _ _ q=>le_int q
theorem j8b:OpR X (aT .Gt) (rI0 λi j=>.bl (decide (j<i))):=j2o λ_ _ _ _ _ _ _ q=>gt_int q
theorem j2l:OpR X (aT .GtE) (rI0 λi j=>.bl (decide (j<=i))):=j2o λ_ _ _ _ _ _ _ q=>ge_int q
theorem Ck:OpR X (aT .Lt) (λx y H Q=>∃i j,x=.str i/\y=.str j/\Q (.bl (decide (i.cps.toList<j.cps.toList))) H):=by intro pins s σ H x y v u Q I rx ry h;obtain⟨i,j,rfl,rfl,q⟩:=h;obtain⟨t,rfl⟩:=rx;obtain⟨t',rfl⟩:=ry;exact lt_str (jr I q rfl)
theorem Cm:OpR X (aT .In) (λx y H Q=>∃i j,x=.str i/\y=.str j/\Q (.bl (!(fj j i 0 j.length 1).isEmpty)) H):=by intro pins s σ H x y v u Q I rx ry h;obtain⟨i,j,rfl,rfl,q⟩:=h;obtain⟨t,rfl⟩:=rx;obtain⟨t',rfl⟩:=ry;exact in_str (jr I q rfl)
theorem ja3:OpR X (aT .IsNot) (λx y H Q=>y=.non/\Q (.bl (!decide (x=.non))) H):=by
 intro pins s σ H x y v u Q I rx ry h;obtain⟨rfl,q⟩:=h;cases ry;refine isnot_none_gen (jr I q ?_);cases x<;>first
  |(cases rx;rfl)
  |(obtain⟨t,rfl⟩:=rx;rfl)
theorem qz(b:ar){op:gy}(h:op≠.In:=by decide)(h2:op≠.NotIn:=by decide):aH op b=a9:=by
 have e1:(op==CmpOp.In)=a9:=by cases op<;>first|rfl|exact absurd rfl h
 have e2:(op==CmpOp.NotIn)=a9:=by cases op<;>first|rfl|exact absurd rfl h2
 cases b<;>simp[aH,e1,e2]
theorem J3{op:gy}{r:R2}(ho:OpR X (aT op) r)(ha:PE X a ta)(hb:PE X b tb)(hm:aH op b=a9):PE X (.Compare a [op] [b] pos) (tOp r ta tb):=by intro pins s σ H Q I h;exact lA (j7o ha hb I h λv u s2 x y H2 I2 rx ry q=>ho pins s2 σ H2 x y v u Q I2 rx ry q) hm
def jfu(t:TE):TT:=λσ H Q=>t σ H λx H'=>∃k,x=.bl k/\Q k H'
theorem J2{op:gy}{r:R2}(ho:OpR X (aT op) r)(ha:PE X a ta)(hb:PE X b tb)(hm:aH op b=a9):PT X (.Compare a [op] [b] pos) (jfu (tOp r ta tb)):=by
 intro pins s σ H Q I h;refine iL (thn (ha pins s σ H _ I h) λv s1 ⟨x,H1,I1,r1,q1⟩=>thn (hb pins s1 σ H1 _ I1 q1) λu s2 ⟨y,H2,I2,r2,q2⟩ =>
  thn (ho pins s2 σ H2 x y v u _ I2 r1 r2 q2) λc s3 ⟨z,H3,I3,r3,k,e,q3⟩=>?_) hm
 subst e;cases r3;exact bu ⟨H3,I3,q3⟩
theorem Ur:(av:Nat)<2^63:=by rw[cn];decide
theorem j2m:OpR X (aY .Add) (λx y H Q=>∃i j,x=.str i/\y=.str j/\i.length+j.length<=av/\Q (.str (i++j)) H):=by intro pins s σ H x y v u Q I rx ry h;obtain⟨i,j,rfl,rfl,hz,q⟩:=h;obtain⟨t,rfl⟩:=rx;obtain⟨t',rfl⟩:=ry;exact add_str (λt' tk=>⟨.str (i++j),H,I.tok _,⟨_,rfl⟩,q⟩) hz
theorem vals1{x:V}{us:List aj}(r:Vals [x] us):∃u,us=[u]/\RelV x u:=by
 cases r with
 |cons r1 r2=>cases r2;exact⟨_,rfl,r1⟩
theorem vals2{x y:V}{us:List aj}(r:Vals [x,y] us):∃u w',us=[u,w']/\RelV x u/\RelV y w':=by
 cases r with
 |cons r1 r2 =>
  cases r2 with
  |cons r3 r4=>cases r4;exact⟨_,_,rfl,r1,r3⟩
theorem j5c (hc:X.calm=aa):Jp X (.builtin "max") (λxs H Q=>∃i j,xs=[.int i,.int j]/\Q (.int (if j>i then j else i)) H):=by
 intro pins s σ H xs us Q I r h;obtain⟨i,j,rfl,q⟩:=h;obtain⟨u,w',rfl,⟨t,rfl⟩,⟨t',rfl⟩⟩:=vals2 r;refine max_two_ints (I.ok.hd hc) λh' tk k=>⟨_,H,I.kept k,?_,q⟩
 by_cases hj:j>i
 .rw[if_pos hj,if_pos hj];exact⟨_,rfl⟩
 .rw[if_neg hj,if_neg hj];exact⟨_,rfl⟩
theorem j5b (hc:X.calm=aa):Jp X (.builtin "min") (λxs H Q=>∃i j,xs=[.int i,.int j]/\Q (.int (if j<i then j else i)) H):=by
 intro pins s σ H xs us Q I r h;obtain⟨i,j,rfl,q⟩:=h;obtain⟨u,w',rfl,⟨t,rfl⟩,⟨t',rfl⟩⟩:=vals2 r;refine min_two_ints (I.ok.hd hc) λh' tk k=>⟨_,H,I.kept k,?_,q⟩
 by_cases hj:j<i
 .rw[if_pos hj,if_pos hj];exact⟨_,rfl⟩
 .rw[if_neg hj,if_neg hj];exact⟨_,rfl⟩
theorem j5d:Jp X (.type "int") (λxs H Q=>(∃i,xs=[.int i]/\Q (.int i) H)\/∃k,xs=[.bl k]/\Q (.int (if k then 1 else 0)) H):=by
 intro pins s σ H xs us Q I r h;rcases h with ⟨i,rfl,q⟩|⟨k,rfl,q⟩
 .obtain⟨u,rfl,t,rfl⟩:=vals1 r;exact call_int_int ⟨.int i,H,I,⟨_,rfl⟩,q⟩
 .obtain⟨u,rfl,r1⟩:=vals1 r;cases r1;exact call_int_bool ⟨.int (if k then 1 else 0),H,I.tok _,⟨_,rfl⟩,q⟩
end
structure Cls(K:k7f)(C:ai):Prop where
 pg:W.plainGet K C eC=aa
 hd:W.hasDictIn K C=aa
 po:W.plainOver K C=aa
 sa:W.findIn K (.ref C) "__setattr__" = a8 (a8 (.builtin "object.__setattr__"))
def M3(K:k7f)(C:ai)(f:aq):Prop:=W.findIn K (.ref C) f=a8 ae
structure Meth(K:k7f)(C:ai)(m:aq)(f:ai):Prop where
 at_:W.findIn K (.ref C) m=a8 (a8 (.ref f))
 fn:W.isFn K (.ref f)=aa
 kp:W.keepIn K (.ref f)=aa
structure Room(k:Nat)(A:aG):Prop where
 hd:A.handled=ae
 dp:A.depth+3*k+5<eT
 un:A.units+16*k+200<aS
 gd:A.guards=a8 []
theorem Room.mono{j k:Nat}{A:aG}(r:Room k A)(h:j<=k):Room j A:=⟨r.hd,by have:=r.dp;omega,by have:=r.un;omega,r.gd⟩
theorem Room.deeper{k:Nat}{A:aG}(r:Room (k+1) A)(env:cT):Room k (A.deeper env) :=
 ⟨r.hd,by have:=r.dp;show A.depth+1+3*k+5<_;omega,by have:=r.un;show A.units+3+16*k+200<_;omega,r.gd⟩
theorem Room.depth{k:Nat}{A:aG}(r:Room k A):A.depth<eT:=by have:=r.dp;omega
def jib:TA:=λ_ H Q=>Q [] H
def jfz(ta:TE)(tr:TA):TA:=λσ H Q=>ta σ H λx H1=>tr σ H1 λxs H2=>Q (x::xs) H2
section
variable{X:Cx}{e:ar}{es:List ar}{te:TE}{t:TA}{pos:aM}
theorem jx:PA X [] jib:=λ_ _ _ _ H Q I h=>eQ ⟨[],H,I,.nil,h⟩
theorem jc(ha:PE X e te)(hr:PA X es t)(hs:ah (e::es) X.env=(a9,aE e X.env)::ah es X.env:=by rfl):PA X (e::es) (jfz te t):=by intro pos pins s σ H Q I h;rw[hs];show ax _ _ (iy ((a9,aE e X.env)::aR pos (ah es X.env))) _ _ s;refine eJ (thn (ha pins s σ H _ I h) λu s1 ⟨x,H1,I1,r1,q1⟩=>?_);exact thn (hr pos pins s1 σ H1 _ I1 q1) λus s2 ⟨xs,H2,I2,r2,q2⟩=>⟨x::xs,H2,I2,.cons r1 r2,q2⟩
def ji6(t:TA):TE:=λσ H Q=>t σ H λxs H1=>xs.length<=av/\∀p,H1 p=ae->Q (.ref p) (upd H1 p (.tup xs))
def jic(t:TA):TE:=λσ H Q=>t σ H λxs H1=>xs.length<=av/\∀p,H1 p=ae->Q (.ref p) (upd H1 p (.lst xs))
theorem j40{x1}(h:PA X es t):PE X (.Tuple es x1 pos) (ji6 t):=by intro pins s σ H Q I hq;refine wpAny_Tuple_spliced (thn (h pos pins s σ H _ I hq) λus s1 ⟨xs,H1,I1,r,z,q⟩=>⟨by rw[<-r.length];exact z,?_⟩);have hf:H1 s1.heap.objs.size=ae:=I1.hok.fresh (xx _);refine⟨.ref s1.heap.objs.size,upd H1 s1.heap.objs.size (.tup xs),I1.laid (t':=s1.toks) (λb u e=>xg _ e) (xx _) ?_,rfl,q _ hf⟩;exact⟨z,us,r,⟨_,X7 _ rfl,rfl,_,rfl⟩,Zm.new _ _⟩
theorem jcp(h:PA X es t):PE X (.List es pos) (jic t):=by intro pins s σ H Q I hq;refine wpAny_List_spliced (thn (h pos pins s σ H _ I hq) λus s1 ⟨xs,H1,I1,r,z,q⟩=>⟨by rw[<-r.length];exact z,?_⟩);have hf:H1 s1.heap.objs.size=ae:=I1.hok.fresh (xx _);refine⟨.ref s1.heap.objs.size,upd H1 s1.heap.objs.size (.lst xs),I1.laid (t':=s1.toks) (λb u e=>xg _ e) (xx _) ?_,rfl,q _ hf⟩;exact⟨z,us,0,r,X7 _ rfl⟩
end
abbrev Sp:=List V->Hp->VK->XK->Prop
abbrev CXT:=List cT->Hp->ao->XK->aj->ao->Prop
structure Env0(P:ay)(w:aD)(K:k7f)(mg:k7i)(base:aF)(A:aG)(outer:List cT)(s:ao)(H:Hp):Prop where
 frames:A.frames=a8 outer
 mod:Mod K mg base
 bs:∀b o,base.get? b=a8 o->s.heap.get? b=a8 o/\H b=ae
 bsz:base.objs.size<=s.heap.objs.size
 funs:s.heap.FunFrames base outer
 frf:∀b∈frs outer,H b=ae
 hok:HOk P w H s.heap
 bare:dH s.gens
def CE(outer:List cT)(P:ay)(w:aD)(H:Hp)(s:ao)(Q:VK)(u:aj)(s':ao):Prop :=
 ∃v H',s'.os=s.os/\dH s'.gens/\Un (frs outer) [] H H' s.heap s'.heap/\HOk P w H' s'.heap/\RelV v u/\Q v H'
def CR(CX:CXT)(outer:List cT)(P:ay)(w:aD)(H:Hp)(s:ao)(Q:VK)(E:XK)(r:eB)(s':ao):Prop :=
 match r with
 |.ok (.ret u)=>CE outer P w H s Q u s'
 |.ok _=>False
 |.error e=>CX outer H s E e s'
structure FnOk(P:ay)(w:aD)(K:k7f)(mg:k7i)(base:aF)(CX:CXT)(k:Nat)(f:ai)(fd:aL)(ps:List aq)(sp:Sp):Prop where
 len:∀vs H Q E,sp vs H Q E->vs.length=ps.length
 run:∀(A:aG)(outer:List cT)(s:ao)(H:Hp)(args:Args)(us:List aj)(vs:List V) (Q:VK) (E:XK),Room k A->Env0 P w K mg base A outer s H->fY s fd args (ps.zip us)->Vals vs us->sp vs H Q E ->
  bK (aC P w) A (.call (.ref f) args) (CR CX outer P w H s Q E) s
theorem FnOk.imp{P:ay}{w:aD}{K:k7f}{mg:k7i}{base:aF}{CX:CXT}{k:Nat}{f:ai}{fd:aL}{ps:List aq}{sp sp':Sp}(F:FnOk P w K mg base CX k f fd ps sp)
  (h:∀vs H Q E,sp' vs H Q E->sp vs H Q E):FnOk P w K mg base CX k f fd ps sp' :=
 ⟨λvs H Q E q=>F.len vs H Q E (h _ _ _ _ q),λA outer s H args us vs Q E hr he hb hv hs=>F.run A outer s H args us vs Q E hr he hb hv (h _ _ _ _ hs)⟩
section
variable{X:Cx}{pins:k7h}{σ:St}{H:Hp}{s s':ao}
theorem Inv.env0(I:Inv X pins σ H s):Env0 X.prog X.w X.K X.mg X.base X.A X.stack s H :=
 ⟨I.ok.frames,I.ok.mod,I.bs,Xh I.ok.bsz I.sz,I.stack,I.stkFree,I.hok,I.bare⟩
theorem Inv.after{Q:VK}{u:aj}(I:Inv X pins σ H s)(h:CE X.stack X.prog X.w H s Q u s'):EP X pins σ Q u s':=by obtain⟨v,H',os,bare,un,hok,r,q⟩:=h;obtain⟨hh,g,d,t,os'⟩:=s';obtain rfl:os'=s.os:=os;exact⟨v,H',I.call (h':=hh) (g':=g) (d':=d) (t':=t) (ch:=[]) un hok bare (λb z=>absurd z (by simp)),r,q⟩
end
def jg0(sp:Sp)(dvs:List V)(E:XK)(t:TA):TE:=λσ H Q=>t σ H λvs H1=>sp (vs++dvs) H1 Q E
def Binds(K:k7f)(fd:aL)(ps:List aq)(ds:List aj):Prop :=
 ∀(s:ao)(us:List aj),K.In s.heap->(us++ds).length=ps.length->fY s fd ⟨us,[]⟩ (ps.zip (us++ds))
theorem Binds.all{K:k7f}{fd:aL}{ps:List aq}(h:∀us:List aj,us.length=ps.length->eV fd ⟨us,[]⟩=pure (ps.zip us)):Binds K fd ps []:=λs us _ hl=>by rw[Xq]at hl ⊢;exact .of_eq (h us hl)
def j0j(CX:CXT)(X:Cx)(E:XK):Prop:=∀(pins:k7h) (σ:St) (H:Hp) (s:ao) (e:aj) (s':ao),Inv X pins σ H s->CX X.stack H s E e s'->X.xe e s'
section
variable{X:Cx}{CX:CXT}{k:Nat}{f C:ai}{fd:aL}{ps:List aq}{sp:Sp}{dvs:List V}{ds:List aj}{E:XK}{x m:aq}{p pos apos:aM}{e o:ar}{es:List ar}{ta:TE}{t:TA}
theorem jc8{pins:k7h}{σ:St}{H:Hp}{s:ao}{Q:VK}{us:List aj}{vs:List V}(F:FnOk X.prog X.w X.K X.mg X.base CX k f fd ps sp)(hr:Room k X.A)(hb:Binds X.K fd ps ds)(hd:Vals dvs ds)(hx:j0j CX X E)
  (I:Inv X pins σ H s) (r:Vals vs us) (h:sp (vs++dvs) H Q E):ax (aC X.prog X.w) X.A (call (.ref f) us) (EP X pins σ Q) X.xe s:=by
 have r2:Vals (vs++dvs) (us++ds):=r.append hd;have hl:(us++ds).length=ps.length:=by rw[<-r2.length];exact F.len _ _ _ _ h
 refine jL (cg (F.run X.A X.stack s H ⟨us,[]⟩ (us++ds) (vs++dvs) Q E hr I.env0 (hb s us I.kIn hl) r2 h) λr s' hq=>?_);cases r with
 |error e=>exact hx pins σ H s e s' I hq
 |ok fl =>
  cases fl with
  |ret u=>exact I.after hq
  |next=>exact bc hq
  |brk=>exact bc hq
  |cont=>exact bc hq
theorem Vy(F:FnOk X.prog X.w X.K X.mg X.base CX k f fd ps sp)(hr:Room k X.A)(hg:Gl X x)(hm:X.mg x=a8 (.ref f))(hk:W.keepIn X.K (.ref f)=aa)(hb:Binds X.K fd ps ds)(hd:Vals dvs ds)(hx:j0j CX X E)
  (ha:PA X (e::es) t) (hdb:(x==k7j)=a9:=by decide) (he:ah (e::es) X.env=(a9,aE e X.env)::ah es X.env:=by rfl) (hpl:(aR pos (ah es X.env)).any (·.1)=a9:=by rfl) :
  PE X (.Call (.Name x p) (e::es) [] pos) (jg0 sp dvs E t):=by
 intro pins s σ H Q I h;refine aU (Ut I hg hm ?_ hdb);refine W.callWith_K (h₀:=X.base) I.ok.mod.kin hk (thn (ha pos pins s σ H _ I h) λus s1 ⟨vs,H1,I1,r,q⟩=>⟨I1.kIn,?_⟩) he hpl;exact jc8 F hr hb hd hx I1 r q
structure Mk(K:k7f)(C f:ai):Prop where
 makes:W.makesIn K C=aa
 init:W.findIn K (.ref C) "__init__" = a8 (a8 (.ref f))
 fn:W.isFn K (.ref f)=aa
 kp:W.keepIn K (.ref C)=aa
end
section
variable{X:Cx}{CX:CXT}{k:Nat}{f C:ai}{fd:aL}{ps ks:List aq}{sp:Sp}{E:XK}{x m:aq}{p pos apos kpos:aM}{e o:ar}{es:List ar}{kws:List bg}{te ta:TE}{t tk:TA}{nm:Option aq}
structure KBinds(K:k7f)(fd:aL)(ps ks:List aq)(g:List aj->List aj->List aj)(gV:List V->List V->List V):Prop where
 to:∀(s:ao)(us ws:List aj),K.In s.heap->(g us ws).length=ps.length->fY s fd ⟨us,ks.zip ws⟩ (ps.zip (g us ws))
 rel:∀{vs:List V}{us:List aj}{zs:List V}{ws:List aj},Vals vs us->Vals zs ws->Vals (gV vs zs) (g us ws)
variable{g:List aj->List aj->List aj}{gV:List V->List V->List V}
end
structure FnScope(N P:List aq)(sc:b8):Prop where
 kind:sc.kind=.function
 co:sc.isCoroutine=a9
 gen:sc.isGenerator=a9
 nd:N.Nodup
 pre:N.take P.length=P
 par:∀x∈P,sc.names.lookup x=a8 .local\/sc.names.lookup x=a8 .cell
 nofree:∀y∈sc.names,y.2≠.free
theorem Lh{kindOf:aq->Option bp}{x:aq}:∀{binds:List (aq×aj)} {m:k7i},(∀v,(x,v)∉binds)->ie kindOf binds m x=m x
 |[],_,_=>rfl
 |(n,v)::r,m,h=>by
  unfold ie;rw[Lh λw hw=>h w (xm _ hw)];split
  .have:x≠n:=by rintro rfl;exact h v X3
   simp[this]
  .rfl
theorem Lj{kindOf:aq->Option bp}{x:aq}:∀{binds:List (aq×aj)} {m:k7i},(∀v,(x,v)∉binds)->ig kindOf binds m x=m x
 |[],_,_=>rfl
 |(n,v)::r,m,h=>by
  unfold ig;rw[Lj λw hw=>h w (xm _ hw)];split
  .rfl
  .have:x≠n:=by rintro rfl;exact h v X3
   simp[this]
theorem Li{kindOf:aq->Option bp}{x:aq}{v:aj}:∀{P:List aq}{vs:List aj}{i:Nat}{m:k7i},P.Nodup->P[i]?=a8 x->vs[i]?=a8 v->kindOf x=a8 .local ->
  ie kindOf (P.zip vs) m x=a8 v
 |[],_,_,_,_,h,_,_=>by simp at h
 |_::_,[],_,_,_,_,h,_=>by simp at h
 |p::P,w::vs,0,m,nd,h1,h2,hk=>by simp at h1 h2;subst h1;subst h2;show ie kindOf ((p,w)::P.zip vs) m p=_;unfold ie;rw[Lh λv hv=>(Xn.mp nd).1 (dR hv).1,if_pos hk];simp
 |p::P,w::vs,i+1,m,nd,h1,h2,hk=>by show ie kindOf ((p,w)::P.zip vs) m x=_;unfold ie;exact Li (i:=i) (Xn.mp nd).2 (by simpa using h1) (by simpa using h2) hk
theorem Ln{kindOf:aq->Option bp}{x:aq}{v:aj}:∀{P:List aq}{vs:List aj}{i:Nat}{m:k7i},P.Nodup->P[i]?=a8 x->vs[i]?=a8 v->kindOf x≠a8 .local ->
  ig kindOf (P.zip vs) m x=a8 v
 |[],_,_,_,_,h,_,_=>by simp at h
 |_::_,[],_,_,_,_,h,_=>by simp at h
 |p::P,w::vs,0,m,nd,h1,h2,hk=>by simp at h1 h2;subst h1;subst h2;show ig kindOf ((p,w)::P.zip vs) m p=_;unfold ig;rw[Lj λv hv=>(Xn.mp nd).1 (dR hv).1,if_neg hk];simp
 |p::P,w::vs,i+1,m,nd,h1,h2,hk=>by show ig kindOf ((p,w)::P.zip vs) m x=_;unfold ig;exact Ln (i:=i) (Xn.mp nd).2 (by simpa using h1) (by simpa using h2) hk
noncomputable def start(N:List aq)(vs:List V):St:=vs.map a8++au (N.length-vs.length) ae
noncomputable def zc(CX:CXT)(P:ay)(w:aD)(K:k7f)(mg:k7i)(base:aF)(N:List aq)(qual:aq)(scope:b8)(f:ai)(cd:aj)(A:aG)(outer:List cT)(s:ao)(H:Hp)(E:XK):Cx where
 prog:=P
 w:=w
 K:=K
 mg:=mg
 base:=base
 A:=A.deeper (bq qual scope s.heap.objs.size f cd)
 N:=N
 s₀:=s
 H₀:=H
 env:=bq qual scope s.heap.objs.size f cd
 outer:=outer
 stack:=bq qual scope s.heap.objs.size f cd::outer
 ex:=[]
 calm:=aa
 fn:=λ_=>aa
 pn:=[]
 xe:=λe s'=>ax (aC P w) (A.deeper (bq qual scope s.heap.objs.size f cd)) (leaving (bq qual scope s.heap.objs.size f cd) e) (λ_ s''=>CX outer H s E e s'') (λe' s''=>CX outer H s E e' s'') s'
theorem j0b{sc:b8}{n:Nat}{x:aq}(h:sc.names.lookup x=a8 .cell):∃c,(aP n sc.names []).lookup x=a8 c:=by have q:=W.cellsFrom_some sc.names n [] (.inl h);exact Xv.mp q
theorem j4n{CX:CXT}{P:ay}{w:aD}{K:k7f}{mg:k7i}{base:aF}{N ps:List aq}{qual:aq}{scope:b8}{f:ai}{cd:aj}{A:aG}{outer:List cT}{s s1:ao}{H:Hp}{E:XK}{us:List aj}{vs:List V}
  (S:FnScope N ps scope) (cm:Bool) (hd:cm=aa->A.handled=ae) (e0:Env0 P w K mg base A outer s H) (hl:vs.length=ps.length) (r:Vals vs us)
  (x:InCallC s s.heap.objs.size (ie (bq qual scope s.heap.objs.size f cd).kindOf (ps.zip us) λ_=>ae) (aP (s.heap.objs.size+1) scope.names []) (ig (bq qual scope s.heap.objs.size f cd).kindOf (ps.zip us) λ_=>ae) s1) :
  Inv { zc CX P w K mg base N qual scope f cd A outer s H E with calm:=cm } [] (start N vs) H s1:=by
 have hpl:ps.length<=N.length:=by have:=congrArg fJ S.pre;rw[Xp]at this;omega
 obtain⟨h1,tk,rfl,hk⟩:=x.done;have noA:∀b:ai,b∉(zc CX P w K mg base N qual scope f cd A outer s H E).ex:=λb z=>absurd (show b∈([]:List ai)from z) (by simp);refine⟨⟨e0.mod,S.kind,rfl,rfl,xx _,λy z c h1 h2=>?_,λy hy=>?_,λy c _ h=>?_,hd,gK e0.frames,.inr ⟨rfl,rfl⟩,λb z=>absurd z (noA b),e0.bs,e0.bsz,λb _ _=>noA b,λb z=>absurd z (noA b),e0.funs,e0.frf⟩,
  rfl,e0.bare,Un.kept hk,⟨_,x.toInCall.ns,λi y v h1 h2 h3=>?_⟩,λy c h=>⟨_,x.cell y c h⟩,e0.hok.fresh (xx _),λy c h=>?_,λp hp=>absurd (show p∈([]:k7h)from hp) (by simp),e0.hok.kept hk,?_⟩
 .exact name_of_addr x.apart (Py h1) (Py h2)
 .have hy:scope.names.lookup y=a8 .cell\/scope.names.lookup y=a8 .free:=hy;rcases hy with hy|hy
  .exact j0b hy
  .exact absurd rfl (S.nofree _ (Py hy))
 .exact dQ (x.above y c (Py h))
 .have hi:i<vs.length:=by
   unfold start at h2;by_cases hi:i<vs.length
   .exact hi
   .rw[cW (by simpa using hi)]at h2;rw[gH]at h2;split at h2<;>cases h2
  have ha:vs[i]?=a8 v:=by
   unfold start at h2;rw[tu (by simpa using hi),xq]at h2;cases e:vs[i]? with
   |none=>rw[e]at h2;cases h2
   |some a=>rw[e]at h2;cases h2;rfl
  obtain⟨u,hu,rv⟩:=r.get ha;have hp:ps[i]?=a8 y:=by rw[<-S.pre,List.getElem?_take_of_lt nofun];exact h1
  have ndP:ps.Nodup:=by rw[<-S.pre];exact S.nd.sublist (List.take_sublist _ _)
  refine⟨u,rv,?_⟩;rcases S.par y (Xj hp)with k|k
  .exact .inl ⟨k,Li ndP hp hu k⟩
  .obtain⟨c,e⟩:=j0b (n:=s.heap.objs.size+1) k;refine .inr ⟨.inl k,c,e,?_⟩;have q:=x.cell y c e;rw[Ln ndP hp hu (by show scope.names.lookup y≠_;rw[k];decide)]at q;exact q
 .exact e0.hok.fresh (dQ (x.above y c (Py h)))
 .unfold start;show _=N.length;rw[Xe,km,Tc];omega
theorem Inv.extOut{X:Cx}{pins:k7h}{σ:St}{H H2:Hp}{s:ao}(J:Inv X pins σ H s)(x:Ext X H H2 s):HOk X.prog X.w H2 s.heap/\(X.ex=[]->Un X.fs [] X.H₀ H2 X.s₀.heap s.heap):=by
 have old:∀b o,X.s₀.heap.get? b=a8 o->H2 b=H b:=λb o e=>(x b).elim id λ⟨y,ob,v,hc,hf,_⟩=>absurd (Xo (xn e) (J.ok.cab y b hf hc)) (t6 _);have trk:∀{b:ai}{u:HO},H b=a8 u->H2 b=a8 u:=λ{b u} e=>(x b).elim (λz=>z.trans e) λ⟨y,ob,v,hc,_⟩=>by rw[J.freeC y b hc]at e;cases e
 refine⟨λa o e=>?_,λhx=>?_⟩
 .rcases x a with z|⟨y,ob,v,_,_,e2,e3,_⟩
  .exact(J.hok a o (z▸e)).stay (λ_ _ _ q=>q) (λ_ q=>trk q) (λ_ _ q=>trk q) λ_ _ _ q=>trk q
  .rw[e2]at e;cases e;exact⟨e3,ob,e3⟩
 .have nx:∀b,b∉X.ex:=λb=>by rw[hx];simp
  exact⟨λb o e n hb _=>J.base.keep b o e n hb (nx b),λb o e n hb _=>J.base.slot b o e n hb (nx b),λb o e n _=>(old b o e).trans (J.base.free b o e n (nx b)),λb o e _=>J.base.there b o e (nx b),
   λb xs e=>trk (J.base.tups b xs e),λb o u e=>trk (J.base.frzs b o u e),λb ps e=>let ⟨m,z⟩:=J.base.tbls b ps e;⟨m,trk z⟩⟩
theorem j8j{CX:CXT}{P:ay}{w:aD}{K:k7f}{mg:k7i}{base:aF}{k:Nat}{f:ai}{name qual:aq}{params:il}{body:List aN}{scope:b8}{dV kV doc pm cdv ct oc:aj}{an od:Option ai}
  {osl:Array (Option aj)} {N ps:List aq} {sp:Sp} (lk:K.lookup f=a8 ⟨oc,od,.func (W.fnOf name qual params body scope dV kV doc pm an cdv ct),osl⟩) (hcd:W.codeIn K cdv qual=aa) (S:FnScope N ps scope)
  (len:∀vs H Q E,sp vs H Q E->vs.length=ps.length)
  (hbody:∀(A:aG)(outer:List cT)(s:ao)(H:Hp)(vs:List V)(Q:VK)(E:XK),Room k (A.deeper (bq qual scope s.heap.objs.size f cdv))->sp vs H Q E ->
   ∃t,PSs (zc CX P w K mg base N qual scope f cdv A outer s H E) body t/\t { nx:=λ_ H'=>Q .non H',rt:=Q } (start N vs) H) :
  FnOk P w K mg base CX (k+1) f (W.fnOf name qual params body scope dV kV doc pm an cdv ct) ps sp:=by
 refine⟨len,λA outer s H args us vs Q E hr e0 hb r hsp=>?_⟩;have hl:=len _ _ _ _ hsp;have KX:K.In s.heap:=e0.mod.kin.keeps λb o e=>(e0.bs b o e).1;have lim:s.heap.NoLimit:=e0.mod.nolimit.keeps λb o e=>(e0.bs b o e).1;have hkind:∀y∈ps.zip us,scope.names.lookup y.1=a8 .local\/(scope.names.lookup y.1=a8 .cell/\((aP (s.heap.objs.size+1) scope.names []).lookup y.1).isSome=aa):=λ⟨n,v⟩ hy=>by
  rcases S.par n (dR hy).1 with q|q
  .exact .inl q
  .exact .inr ⟨q,W.cellsFrom_some _ _ _ (.inl q)⟩
 refine codeAny_call_function hr.depth (KX _ _ lk) rfl S.co S.gen rfl (W.codeRec_of KX hcd) (hb _ _ _ _ ?_);refine wpAny_newFunctionEnv_cells S.kind hkind λenv he s1 x=>?_;subst he;refine⟨lim.keeps x.toInCall.keep,codeAny_func ?_⟩;obtain⟨t,ht,hq⟩:=hbody A outer s H vs Q E (hr.deeper _) hsp;have I:Inv (zc CX P w K mg base N qual scope f cdv A outer s H E) [] (start N vs) H s1:=j4n S aa (λ_=>hr.hd) e0 hl r x;refine bo (ht [] s1 (start N vs) H _ I hq) (λfl s' hs=>?_) λe s' hs=>hs;have fin:∀{σ':St}{H':Hp}{v:V}{u:aj},Inv (zc CX P w K mg base N qual scope f cdv A outer s H E) [] σ' H' s'->RelV v u->Q v H'->CE outer P w H s Q u s' :=
  λ{σ' H' v u} J rv q=>⟨v,H',J.os,J.bare,J.base,J.hok,rv,q⟩
 cases fl with
 |ret u =>obtain⟨v,σ',H',H2,J,rv,x,q⟩:=hs;exact⟨v,H2,J.os,J.bare,(J.extOut x).2 rfl,(J.extOut x).1,rv,q⟩
 |next =>obtain⟨σ',H',J,q⟩:=hs;exact fin (v:=V.non) (u:=aZ) J rfl q
 |brk =>obtain⟨_,_,_,q⟩:=hs;exact bc q
 |cont =>obtain⟨_,_,_,q⟩:=hs;exact bc q
section
variable{X:Cx}{x:aq}{p pos:aM}{e:ar}{es:List ar}{t:TA}{id T:String}{r:List V->Hp->VK->Prop}
def tCB(r:List V->Hp->VK->Prop)(t:TA):TE:=λσ H Q=>t σ H λvs H1=>r vs H1 Q
theorem v8 (hc:Jp X (.builtin id) r) (hg:Gl X x) (hm:X.mg x=ae) (hv:eA x=a8 (.builtin id)) (ha:PA X (e::es) t) (hn:x ≠ "__name__":=by decide) (hdb:(x==k7j)=a9:=by decide)
  (he:ah (e::es) X.env=(a9,aE e X.env)::ah es X.env:=by rfl) (hpl:(aR pos (ah es X.env)).any (·.1)=a9:=by rfl):PE X (.Call (.Name x p) (e::es) [] pos) (tCB r t):=by
 intro pins s σ H Q I h;refine aU (Qc I hg hm hv ?_ hn hdb);exact callWith_builtin1 (thn (ha pos pins s σ H _ I h) λus s1 ⟨vs,H1,I1,r1,q1⟩=>hc pins s1 σ H1 vs us Q I1 r1 q1) he hpl
theorem Ys (hc:Jp X (.type T) r) (hg:Gl X x) (hm:X.mg x=ae) (hv:eA x=a8 (.type T)) (ha:PA X (e::es) t) (hn:x ≠ "__name__":=by decide) (hdb:(x==k7j)=a9:=by decide)
  (he:ah (e::es) X.env=(a9,aE e X.env)::ah es X.env:=by rfl) (hpl:(aR pos (ah es X.env)).any (·.1)=a9:=by rfl):PE X (.Call (.Name x p) (e::es) [] pos) (tCB r t):=by
 intro pins s σ H Q I h;refine aU (Qc I hg hm hv ?_ hn hdb);exact callWith_type1 (thn (ha pos pins s σ H _ I h) λus s1 ⟨vs,H1,I1,r1,q1⟩=>hc pins s1 σ H1 vs us Q I1 r1 q1) he hpl
end
end L2
namespace HT
open PySem PyProof.Rows
noncomputable def lexLt:List Int->List Int->Bool
 |[],[]=>a9
 |[],_::_=>aa
 |_::_,[]=>a9
 |x::xs,y::ys=>if x=y then lexLt xs ys else decide (x<y)
theorem j2r(x y:Int)(xs ys:List Int):lexLt (x::xs) (y::ys)=if x=y then lexLt xs ys else decide (x<y):=rfl
theorem K5:lexLt [] []=a9:=rfl
theorem Dc(y:Int)(ys:List Int):lexLt [] (y::ys)=aa:=rfl
theorem De(x:Int)(xs:List Int):lexLt (x::xs) []=a9:=rfl
theorem j77(A:aG)(s:ao)(a:Int)(t:i8)(c:Int)(u:i8):∃e,cB A s (.int a t) (.int c u) e/\(e=aa↔a=c) :=
 ⟨(a==c),SeqAt.EqAt.int_int a t c u,by simp⟩
theorem j66(A:aG)(s:ao)(a:Int)(t:i8)(c:Int)(u:i8)(prog:ay)(w:aD)(E:k7g)(Q:k7g)(h:Q (.bool (decide (a<c))) s) :
  ax (aC prog w) A (iQ .Lt (.int a t) (.int c u)) Q E s :=
 (lt_int h:ax (aC prog w) A (aT .Lt (.int a t) (.int c u)) Q E s)
section
open PySem.SeqAt
open PySem.AutoSeq1 (wpAny_loadPart')
open PySem.MeetsSeq PySem.MeetsSeq2 PySem.MeetsSeq3
theorem Ls(l b:ai)(items items2:Array aj)(n n2:Nat)(dd dd2:Option ai)(sl sl2:Array (Option aj))(ns ms:List Int)(hi:cH items.toList ns)(hj:cH items2.toList ms) :
  iW (df.«tuple.__lt__» ⟨[.ref l,.ref b],[]⟩)
   (λ_ R s=>s.heap.get? l=a8 { cls:=.type "tuple",dict:=dd,data:=.seq items n,slots:=sl }/\s.heap.get? b=a8 { cls:=.type "tuple",dict:=dd2,data:=.seq items2 n2,slots:=sl2 } /\
    R (.ok (.ret (.bool (lexLt ns ms)))) s) :=
 .of_wp λprog w A R s h=>by
  obtain⟨hp,g,d,tk,os⟩:=s;obtain⟨hl,hb,h⟩:=h;have f2:=AutoSeq1.sub_tuple_tuple;have z1:items.size=ns.length:=by rw[<-hi.length];simp
  have z2:items2.size=ms.length:=by rw[<-hj.length];simp
  wp_walk using gD hl,gD hb,kx _ (λrest b s'=>b.1=ae/\s'=⟨hp,g,d,tk,os⟩/\∃(vs ws:List aj)(ns' ms':List Int),rest=vs.zip ws /\
   cH vs ns'/\cH ws ms'/\ns'.length+items2.size=ms'.length+items.size/\R (.ok (.ret (.bool (lexLt ns' ms')))) ⟨hp,g,d,tk,os⟩) _
  case turn =>
   rintro⟨y,x⟩ rest b s' ⟨hb',rfl,vs,ws,ns',ms',hz,hvi,hwi,hlen,hR⟩;cases hvi with
   |nil=>rw[List.zip_nil_left]at hz;cases hz
   |cons a t hvi' =>
    cases hwi with
    |nil=>rw[List.zip_nil_right]at hz;cases hz
    |cons c u hwi' =>
     rw[ir]at hz;injection hz with hyx hrest;injection hyx with hy hx;subst hy hx;rw[j2r]at hR;simp only[X6]at hlen;obtain⟨e,he,hiff⟩:=j77 A.in1 ⟨hp,g,d,tk,os⟩ a t c u;refine af (he prog w _ _ ?_);cases e with
     |true =>
      rw[if_pos (hiff.mp rfl)]at hR
      wp_walk
      exact⟨rfl,rfl,_,_,_,_,hrest,hvi',hwi',by omega,hR⟩
     |false =>
      rw[if_neg (λq=>absurd (hiff.mpr q) xf)]at hR;have hri:=j66 A.in1 ⟨hp,g,d,tk,os⟩ a t c u prog w
      wp_walk using hri
      exact⟨_,rfl,by simpa using hR⟩
  case fin =>
   rintro⟨b1,b2⟩ s' ⟨hb',rfl,vs,ws,ns',ms',hz,hvi,hwi,hlen,hR⟩;simp only at hb';subst hb';have hv:lexLt ns' ms'=decide (items.size<items2.size):=by
    cases hvi with
    |nil =>
     cases hwi with
     |nil =>simp only[T3]at hlen;rw[K5];exact(decide_eq_false nofun).symm
     |cons c u hw =>simp only[T3,X6]at hlen;rw[Dc];exact(decide_eq_true nofun).symm
    |cons a t hv =>
     cases hwi with
     |nil =>simp only[T3,X6]at hlen;rw[De];exact(decide_eq_false nofun).symm
     |cons c u hw =>rw[ir]at hz;cases hz
   rw[hv]at hR
   wp_walk
   exact⟨_,rfl,by simpa [kq]using hR⟩
  case h =>exact⟨rfl,rfl,items.toList,items2.toList,ns,ms,rfl,hi,hj,by omega,h⟩
end
section
variable{prog:ay}{w:aD}{A:aG}{E:k7g}{s:ao}
theorem lt_tupInts{l b:ai}{items items2:Array aj}{ns ms:List Int}{Q:k7g}(hl:gz s.heap l items)(hb:gz s.heap b items2)(hi:cH items.toList ns)(hj:cH items2.toList ms)
  (hu:A.units<aS) (h:Q (.bool (lexLt ns ms)) s):ax (aC prog w) A (aT .Lt (.ref l) (.ref b)) Q E s:=by
 obtain⟨⟨cls,dd,data,sl⟩,ho,hc,n,hd⟩:=id hl;obtain⟨⟨cls2,dd2,data2,sl2⟩,ho2,hc2,n2,hd2⟩:=id hb;simp only at hc hd hc2 hd2;subst hc hd hc2 hd2;exact richCompare_meets_room (op:=.Lt) ⟨_,ho,rfl⟩ ⟨_,ho2,rfl⟩ PySem.F.slot_tuple_lt PySem.F.entry_tuple_lt (PySem.F.args_tuple_lt_2 _ _) (Ls l b items items2 n n2 dd dd2 sl sl2 ns ms hi hj)
  ⟨ho,ho2,show bQ (lexLt ns ms)≠gQ/\Q (.bool (lexLt ns ms)) s from⟨(λx=>nomatch x),h⟩⟩ hu
theorem cat_tup{t b:ai}{vs ws:List aj}{Q:k7g}(ht:gz s.heap t vs.toArray)(hb:gz s.heap b ws.toArray)(hv:vs≠[])
  (h1:ws=[]->Q (.ref t) s) (h2:ws≠[]->Q (.ref s.heap.objs.size) { s with heap:=s.heap.push { cls:=.type "tuple",data:=.seq (vs++ws).toArray } })
  (hsz:vs.length+ws.length<=av):ax (aC prog w) A (aY .Add (.ref t) (.ref b)) Q E s:=by
 obtain⟨⟨cls,dd,data,sl⟩,ho,hc,n,hd⟩:=id ht;obtain⟨⟨cls2,dd2,data2,sl2⟩,ho2,hc2,n2,hd2⟩:=id hb;simp only at hc hd hc2 hd2;subst hc hd hc2 hd2;have e:vs.toArray++ws.toArray=(vs++ws).toArray:=by simp
 by_cases hw:ws=[]
 .exact fW ⟨_,ho,rfl⟩ ⟨_,ho2,rfl⟩ gn i6 du d9 (cZ _ _)
   (tuple_addW1 t b vs.toArray ws.toArray n n2 dd dd2 sl sl2 (by simpa using hv) (by simp[hw])) ⟨ho,ho2,h1 hw⟩
 .refine fW ⟨_,ho,rfl⟩ ⟨_,ho2,rfl⟩ gn i6 du d9 (cZ _ _)
   (tuple_addW2 t b vs.toArray ws.toArray n n2 dd dd2 sl sl2 (by simpa using hv) (by simpa using hw) (by rw[X4,X4];exact hsz)) ⟨ho,ho2,?_⟩
  rw[e];exact h2 hw
noncomputable def sIx(n d:Nat):Option Int->Nat
 |none=>d
 |some v=>if v<0 then(v+(n:Int)).toNat else min v.toNat n
theorem jc7(n d:Nat)(hd:d<=n)(o:Option Int):sIx n d o<=n:=by
 cases o with
 |none=>exact hd
 |some v =>
  show(if v<0 then(v+(n:Int)).toNat else min v.toNat n)<=n;by_cases hv:v<0
  .rw[if_pos hv];omega
  .rw[if_neg hv];exact Nat.min_le_right _ _
theorem j1t(v:Int)(n d:Nat):(if v<0 then max (v+(n:Int)) 0 else min v (n:Int))=((sIx n d (a8 v):Nat):Int):=by
 show(if v<0 then max (v+(n:Int)) 0 else min v (n:Int))=(((if v<0 then(v+(n:Int)).toNat else min v.toNat n):Nat):Int)
 by_cases hv:v<0
 .simp only[if_pos hv];omega
 .simp only[if_neg hv];omega
theorem j35(lo hi:Option Int)(n:Nat):cF lo hi 1 (n:Int)=(((sIx n 0 lo:Nat):Int),((sIx n n hi:Nat):Int)):=by
 have h1:¬((1:Int)<0):=by omega
 unfold cF;simp only[h1,if_false];refine Prod.ext ?_ ?_
 .cases lo with
  |none=>rfl
  |some v=>exact j1t v n 0
 .cases hi with
  |none=>rfl
  |some v=>exact j1t v n n
theorem j2i(i j:Nat):bE (i:Int) (j:Int) 1=j-i:=by
 unfold bE;have h1:(1:Int)>0:=by omega
 simp only[h1,if_true,Int.ediv_one];split<;>omega
theorem Bm{v:aj}{o:Option Int}{Q:Option Int->ao->Prop}(p:eY v o)(h:Q o s):ax (aC prog w) A (kr v) Q E s:=by
 cases p with
 |none=>exact lG h
 |int i t=>exact slicePart_int h
theorem O7{sl:ai}{vl vu:aj}{lo hi:Option Int}{n:Nat}{Q:Int×Int×Nat->ao->Prop}(hs:s.heap.IsSliceOf sl vl vu .none)(pl:eY vl lo)(pu:eY vu hi)
  (h:Q (((sIx n 0 lo:Nat):Int),1,sIx n n hi-sIx n 0 lo) s):ax (aC prog w) A (eM (.ref sl) (pure (n:Int))) Q E s:=by
 obtain⟨os,hos,hcs,hds⟩:=id hs;unfold eM ku;refine af (af (aW hos hds (x:=vl) rfl (af (aW hos hds (x:=vu) rfl (af (aW hos hds (x:=.none) rfl (aw ?_)))))));refine af (lG ?_);show ax _ _ (if ((1:Int)==0)=aa then _ else _) _ _ s;rw[if_neg (by decide)];refine af (Bm pl (af (Bm pu (af (aw ?_)))));show ax _ _ (match cF lo hi 1 (n:Int)with|(lo,hi)=>pure (lo,(1:Int),bE lo hi 1)) _ _ s;rw[j35 lo hi n];show ax _ _ (pure (((sIx n 0 lo:Nat):Int),(1:Int),bE ((sIx n 0 lo:Nat):Int) ((sIx n n hi:Nat):Int) 1)) _ _ s;rw[j2i];exact aw h
theorem j6b(xs:Array aj)(i k:Nat):((aA k).filterMap λ(m:Nat)=>xs[((i:Int)+(m:Int)*1).toNat]?).toArray=((xs.toList.drop i).take k).toArray:=by
 have e:(λ(m:Nat)=>xs[((i:Int)+(m:Int)*1).toNat]?)=λm=>xs[i+m]?:=by
  funext m
  have:((i:Int)+(m:Int)*1).toNat=i+m:=by omega
  rw[this]
 rw[e];have:=pick_run xs i k;rw[List.filterMap_map]at this;have e2:((λx=>xs[x]?) ∘ λx=>i+x)=λm=>xs[i+m]?:=rfl;rw[e2]at this;rw[this]
theorem getItem_tuple_cut{t sl:ai}{items:Array aj}{vl vu:aj}{lo hi:Option Int}{Q:k7g}(ht:gz s.heap t items)(hs:s.heap.IsSliceOf sl vl vu .none)(pl:eY vl lo)(pu:eY vu hi)
  (hw:¬(sIx items.size 0 lo=0/\sIx items.size items.size hi=items.size))
  (h:Q (.ref s.heap.objs.size) { s with heap:=s.heap.push { cls:=.type "tuple",data:=.seq ((items.toList.drop (sIx items.size 0 lo)).take (sIx items.size items.size hi-sIx items.size 0 lo)).toArray } })
  (hsz:items.size<=av):ax (aC prog w) A (iC (.ref t) (.ref sl)) Q E s:=by
 have htake:sizeOk (.seq ((items.toList.drop (sIx items.size 0 lo)).take (sIx items.size items.size hi-sIx items.size 0 lo)).toArray):=by show((items.toList.drop (sIx items.size 0 lo)).take (sIx items.size items.size hi-sIx items.size 0 lo)).toArray.size<=av;rw[X4,Xp,Tj,cK];omega
 have hj:sIx items.size items.size hi<=items.size:=jc7 _ _ (xx _) hi;obtain⟨os,hos,hcs,hds⟩:=id hs;have hTs:s.TypeIs (.ref sl) "slice":=⟨os,hos,hcs⟩
 unfold iC
 try with_reducible refine cO ?_
 first|refine af (aw ?_)|skip
 refine af (wpAny_sequenceKey ht.typeIs (by decide) ?_);refine af (bD (name:=cP "__getitem__") ht.typeIs jN
  (cL jN ht.typeIs entry_tuple_getitem ?_ (args_tuple_getitem _ _)))
 show ax _ _ (ko (.ref t) >>= _) _ _ s;refine af (tupleItemsOf_ ht ?_);refine af (wpAny_typeOf hTs ?_);rw[if_pos (by decide)];refine af (O7 hs pl pu ?_);have hno:¬((((sIx items.size 0 lo:Nat):Int)==0&&(1:Int)==1&&(sIx items.size items.size hi-sIx items.size 0 lo)==items.size)=aa):=by intro q;rw[Xb,Xb]at q;have q1:((sIx items.size 0 lo:Nat):Int)=0:=eq_of_beq q.1.1;have q2:sIx items.size items.size hi-sIx items.size 0 lo=items.size:=eq_of_beq q.2;exact hw ⟨by omega,by omega⟩
 show ax _ _ (if (((sIx items.size 0 lo:Nat):Int)==0&&(1:Int)==1&&(sIx items.size items.size hi-sIx items.size 0 lo)==items.size)=aa then _ else _) _ _ s;rw[if_neg hno,j6b]
 first
  |exact af (m:=bI _) (bA (aw ⟨_,rfl,aw h⟩) htake)
  |exact af (m:=bI _) (bA (af (aw (aw ⟨_,rfl,aw h⟩))) htake)
  |exact af (af (m:=bI _) (bA (aw (aw ⟨_,rfl,aw h⟩)) htake))
  |exact af (af (m:=bI _) (bA (aw ⟨_,rfl,aw h⟩) htake))
end
end HT
namespace L2
open PySem PySem.Spec PyProof.Rows
abbrev TO:=St->Hp->(Option Int->Hp->Prop)->Prop
def PO(X:Cx)(e:Option ar)(t:TO):Prop :=
 ∀(pins:k7h) (s:ao) (σ:St) (H:Hp) (Q:Option Int->Hp->Prop),Inv X pins σ H s->t σ H Q ->
  ax (aC X.prog X.w) X.A (evalPart e X.env) (λu s'=>∃o H',Inv X pins σ H' s'/\eY u o/\Q o H') X.xe s
def j96:TO:=λ_ H Q=>Q ae H
def jfv(t:TE):TO:=λσ H Q=>t σ H λx H1=>∃i,x=.int i/\Q (a8 i) H1
theorem intsAre_of{ns:List Int}:∀{us:List aj},Vals (ns.map V.int) us->cH us ns:=by
 induction ns with
 |nil=>intro us r;rw[bT]at r;cases r;exact .nil
 |cons n ns ih =>
  intro us r;rw[X5]at r;cases r with
  |cons r1 r2 =>obtain⟨t,e⟩:=r1;subst e;exact .cons n t (ih r2)
section
variable{X:Cx}{e:ar}{te:TE}{lo hi:Option ar}{tl th:TO}{pos p2:aM}
theorem j9x:PO X ae j96:=by intro pins s σ H Q I h;rw[lN];exact aw ⟨ae,H,I,.none,h⟩
theorem j9w(h:PE X e te):PO X (a8 e) (jfv te):=by intro pins s σ H Q I hw;rw[evalPart_some];refine thn (h pins s σ H _ I hw) λu s1 ⟨x,H1,I1,r1,q1⟩=>?_;obtain⟨i,rfl,q⟩:=q1;obtain⟨t,rfl⟩:=r1;exact⟨a8 i,H1,I1,.int i t,q⟩
def SlR(X:Cx)(r:V->Option Int->Option Int->Hp->VK->Prop):Prop :=
 ∀(pins:k7h) (s:ao) (σ:St) (H:Hp) (x:V) (v vl vu:aj) (lo hi:Option Int) (sl:ai) (Q:VK),Inv X pins σ H s->RelV x v->s.heap.IsSliceOf sl vl vu .none->eY vl lo->eY vu hi->r x lo hi H Q ->
  ∃T id,typeLookup (.type T) "__getitem__" = pure (a8 (.builtin id))/\s.TypeIs v T/\ax (aC X.prog X.w) X.A (iC v (.ref sl)) (EP X pins σ Q) X.xe s
def tSl(r:V->Option Int->Option Int->Hp->VK->Prop)(te:TE)(tl th:TO):TE:=λσ H Q=>te σ H λx H1=>tl σ H1 λl H2=>th σ H2 λu H3=>r x l u H3 Q
theorem Od{r:V->Option Int->Option Int->Hp->VK->Prop}(hr:SlR X r)(he:PE X e te)(hl:PO X lo tl)(hu:PO X hi th):PE X (.Subscript e (.Slice lo hi ae p2) pos) (tSl r te tl th):=by intro pins s σ H Q I h;refine Subscript_ (thn (he pins s σ H _ I h) λv s1 ⟨x,H1,I1,r1,q1⟩=>?_);refine wpAny_Slice (thn (hl pins s1 σ H1 _ I1 q1) λvl s2 ⟨l,H2,I2,pl,q2⟩=>thn (hu pins s2 σ H2 _ I2 q2) λvu s3 ⟨u,H3,I3,pu,q3⟩=>?_);rw[lN];refine aw ?_;have I4:Inv X pins σ H3 { s3 with heap:=s3.heap.push { cls:=.type "slice",data:=.fields #[vl,vu,.none] } }:=I3.kept (t':=s3.toks) λb ob q=>xg _ q;obtain⟨T,id,hT,ht,hg⟩:=hr pins { s3 with heap:=s3.heap.push { cls:=.type "slice",data:=.fields #[vl,vu,.none] } } σ H3 x v vl vu l u s3.heap.objs.size Q I4 r1 (Heap.IsSliceOf.new ..) pl pu q3;show ax (aC X.prog X.w) X.A (lP e (.Slice lo hi ae p2) v (.ref s3.heap.objs.size)) (EP X pins σ Q) X.xe { s3 with heap:=s3.heap.push { cls:=.type "slice",data:=.fields #[vl,vu,.none] } };exact lF (ops:=[.ref s3.heap.objs.size,v]) ht hT hg (by with_unfolding_all rfl)
noncomputable def Rr(xs:List V)(lo hi:Option Int):List V:=(xs.drop (HT.sIx xs.length 0 lo)).take (HT.sIx xs.length xs.length hi-HT.sIx xs.length 0 lo)
theorem O2(xs:List V)(lo hi:Option Int):(Rr xs lo hi).length<=xs.length:=by unfold Rr;rw[Xp,Tj];omega
def jio(K:k7f):V->Option Int->Option Int->Hp->VK->Prop:=λx lo hi H Q=>∃a xs,x=.ref a/\SqT K H a xs /\
 ¬(HT.sIx xs.length 0 lo=0/\HT.sIx xs.length xs.length hi=xs.length)/\∀p,H p=ae->Q (.ref p) (upd H p (.tup (Rr xs lo hi)))
theorem jby:SlR X (jio X.K):=by
 intro pins s σ H x v vl vu lo hi sl Q I rx hs pl pu h;obtain⟨a,xs,rfl,hx,hw,q⟩:=h;cases rx;obtain⟨its,r,ht,hz⟩:=I.tuple hx;have hlen:its.toArray.size=xs.length:=by rw[X4];exact r.length.symm
 refine⟨"tuple",_,slot_tuple_getitem.lookup,ht.typeIs,?_⟩;refine HT.getItem_tuple_cut ht hs pl pu (by rw[hlen];exact hw) ?_ (by rw[hlen];exact hz);rw[hlen];refine⟨.ref s.heap.objs.size,_,I.laid (t':=s.toks) (o:=.tup (Rr xs lo hi)) (λb ob q=>xg _ q) (xx _) ?_,rfl,q _ (I.hok.fresh (xx _))⟩;exact⟨Xh (O2 xs lo hi) hz,_,(r.drop (HT.sIx xs.length 0 lo)).take (HT.sIx xs.length xs.length hi-HT.sIx xs.length 0 lo),IsTup.new _ _,Zm.new _ _⟩
def jgd(K:k7f):R2:=λx y H Q=>∃a b xs ys,x=.ref a/\y=.ref b/\SqT K H a xs/\SqT K H b ys/\xs≠[]/\xs.length+ys.length<=av /\
 (ys=[]->Q (.ref a) H)/\(ys≠[]->∀p,H p=ae->Q (.ref p) (upd H p (.tup (xs++ys))))
theorem Vals.nil_iff{xs:List V}{us:List aj}(r:Vals xs us):us=[]↔xs=[]:=by
 cases r with
 |nil=>simp
 |cons _ _=>simp
theorem ja4:OpR X (aY .Add) (jgd X.K):=by intro pins s σ H x y v u Q I rx ry h;obtain⟨a,b,xs,ys,rfl,rfl,ha,hb,hx,hz,q1,q2⟩:=h;cases rx;cases ry;obtain⟨its,r1,p1,_⟩:=I.tuple ha;obtain⟨its2,r2,p2,_⟩:=I.tuple hb;refine HT.cat_tup p1 p2 (λz=>hx (r1.nil_iff.mp z)) (λz=>⟨.ref a,H,I,rfl,q1 (r2.nil_iff.mp z)⟩) (λz=>?_) (by rw[<-r1.length,<-r2.length];exact hz);refine⟨.ref s.heap.objs.size,_,I.laid (t':=s.toks) (o:=.tup (xs++ys)) (λb ob q=>xg _ q) (xx _) ?_,rfl,q2 (λw=>z (r2.nil_iff.mpr w)) _ (I.hok.fresh (xx _))⟩;exact⟨by rw[Xe];exact hz,_,r1.append r2,IsTup.new _ _,Zm.new _ _⟩
end
noncomputable def ixN(n:Nat)(i:Int):Option Nat:=if 0<=i then(if i<n then a8 i.toNat else ae)else if -(n:Int)<=i then a8 (i+n).toNat else ae
noncomputable def atI{α:Type}(xs:List α)(i:Int):Option α:=(ixN xs.length i).bind λj=>xs[j]?
theorem jan{n:Nat}{i:Int}{j:Nat}(h:ixN n i=a8 j):seqIndex? i n=a8 j/\j<n/\-(n:Int)<=i/\i<n:=by
 unfold ixN at h;by_cases h0:0<=i
 .rw[if_pos h0]at h;by_cases h1:i<n
  .rw[if_pos h1]at h;have e:i.toNat=j:=aB h;exact⟨by rw[seqIndex_of h0 h1,e],by omega,by omega,h1⟩
  .rw[if_neg h1]at h;cases h
 .rw[if_neg h0]at h;by_cases h1:-(n:Int)<=i
  .rw[if_pos h1]at h;have e:(i+n).toNat=j:=aB h;exact⟨by rw[seqIndex_neg nofun h1,e],by omega,h1,by omega⟩
  .rw[if_neg h1]at h;cases h
theorem Dt{α:Type}{xs:List α}{i:Int}{v:α}(h:atI xs i=a8 v):∃j,seqIndex? i xs.length=a8 j/\xs[j]?=a8 v/\j<xs.length/\-(xs.length:Int)<=i/\i<xs.length:=by
 unfold atI at h;cases e:ixN xs.length i with
 |none=>rw[e]at h;cases h
 |some j =>rw[e]at h;obtain⟨h1,h2,h3,h4⟩:=jan e;exact⟨j,h1,h,h2,h3,h4⟩
theorem jbg{α:Type}{xs:List α}{j:Nat}{v:α}(h:xs[j]?=a8 v):atI xs (j:Int)=a8 v:=by
 have hj:j<xs.length:=(xr.mp h).1;have e:ixN xs.length (j:Int)=a8 j:=by unfold ixN;rw[if_pos nofun,if_pos nofun];simp
 unfold atI;rw[e];exact h
def Jf(b:ar):Prop:=∀o i,subscripted b a9 o i=operate [o,i] (iC o i)
def IxR(X:Cx)(r:R2):Prop :=
 ∀(value slice:ar)(pins:k7h) (s:ao) (σ:St) (H:Hp) (x y:V) (v u:aj) (Q:VK),Inv X pins σ H s->RelV x v->RelV y u->r x y H Q ->
  subscripted slice a9 v u=operate [v,u] (iC v u)->ax (aC X.prog X.w) X.A (lP value slice v u) (EP X pins σ Q) X.xe s
def MtR(X:Cx)(id:String)(r:V->List V->Hp->VK->Prop):Prop :=
 ∀(pins:k7h) (s:ao) (σ:St) (H:Hp) (x:V) (xs:List V) (v:aj) (us:List aj) (Q:VK),Inv X pins σ H s->RelV x v->Vals xs us->r x xs H Q ->
  ax (aC X.prog X.w) X.A (call (.builtin id) (v::us)) (EP X pins σ Q) X.xe s
section
variable{X:Cx}{a b:ar}{ta tb:TE}{pos:aM}
theorem Yr{r:R2}(hr:IxR X r)(ha:PE X a ta)(hb:PE X b tb)(hs:Jf b):PE X (.Subscript a b pos) (tOp r ta tb):=by intro pins s σ H Q I h;exact Subscript_ (j7o ha hb I h λv u s2 x y H2 I2 rx ry q=>hr a b pins s2 σ H2 x y v u Q I2 rx ry q (hs _ _))
def jce(K:k7f):R2:=λx y H Q=>∃p xs i v,x=.ref p/\y=.int i/\SqL K H p xs/\atI xs i=a8 v/\Q v H
def jcc(K:k7f):R2:=λx y H Q=>∃p xs i v,x=.ref p/\y=.int i/\SqT K H p xs/\atI xs i=a8 v/\Q v H
def jcd:R2:=λx y H Q=>∃z i c,x=.str z/\y=.int i/\z.length<=av/\atI z.cps.toList i=a8 c/\Q (.str ⟨#[c]⟩) H
theorem jam:IxR X (jce X.K):=by
 intro value slice pins s σ H x y v u Q I rx ry h hs;obtain⟨p,xs,i,z,rfl,rfl,hq,he,q⟩:=h;cases rx;obtain⟨t,rfl⟩:=ry;obtain⟨its,r,pl,hz⟩:=I.list hq;obtain⟨j,h1,h2,h3,h4,h5⟩:=Dt he;obtain⟨w,ew,rw'⟩:=r.get h2;have hl:=r.length;have hn:=Ur;have fin:EP X pins σ Q w s:=⟨z,H,I,rw',q⟩
 by_cases h0:0<=i
 .have hj:i.toNat=j:=by rw[seqIndex_of h0 h5]at h1;exact aB h1
  exact item_listR pl.isList h0 nofun (by rw[hj];simpa using ew) fin hs
 .have hj:(i+(its.toArray.size:Int)).toNat=j:=by rw[seqIndex_neg nofun h4]at h1;rw[X4,<-hl];exact aB h1
  exact iD (x:=w) pl.isList.typeIs slot_list_getitem.lookup
   (wpAny_getItem_list_neg (Q:=λr s'=>r=w/\EP X pins σ Q r s') pl.isList nofun (by rw[X4]<;>omega) nofun (by rw[hj];simpa using ew) ⟨rfl,fin⟩) hs
theorem R9:IxR X (jcc X.K):=by
 intro value slice pins s σ H x y v u Q I rx ry h hs;obtain⟨p,xs,i,z,rfl,rfl,hq,he,q⟩:=h;cases rx;obtain⟨t,rfl⟩:=ry;obtain⟨its,r,pl,hz⟩:=I.tuple hq;obtain⟨j,h1,h2,h3,h4,h5⟩:=Dt he;obtain⟨w,ew,rw'⟩:=r.get h2;have hl:=r.length;have hn:=Ur;have fin:EP X pins σ Q w s:=⟨z,H,I,rw',q⟩
 exact iD (x:=w) pl.typeIs slot_tuple_getitem.lookup
  (getItem_tuple (j:=j) (Q:=λr s'=>r=w/\EP X pins σ Q r s') pl nofun nofun (by rw[X4,<-hl];exact h1) (by simpa using ew) ⟨rfl,fin⟩) hs
theorem jdp:IxR X jcd:=by
 intro value slice pins s σ H x y v u Q I rx ry h hs;obtain⟨z,i,c,rfl,rfl,hz,he,q⟩:=h;obtain⟨t,rfl⟩:=rx;obtain⟨t',rfl⟩:=ry;obtain⟨j,h1,h2,h3,h4,h5⟩:=Dt he;have hl:z.cps.toList.length=z.length:=by simp[lq]
 rw[hl]at h1 h4 h5;have hn:=Ur;exact lF (fD s z t) slot_str_getitem.lookup (getItem_str (c:=c) (by
  have e1:decide (i < -(2^63:Int))=a9:=decide_eq_false nofun
  have e2:decide (i>=2^63)=a9:=decide_eq_false nofun
  rw[e1,e2,jQ]) (by rw[h1];simpa using h2) ⟨.str ⟨#[c]⟩,H,I.tok _,⟨_,rfl⟩,q⟩) hs
theorem Ie(lo hi:Option Int)(n:Nat):(cR lo hi ae n).1=((HT.sIx n 0 lo:Nat):Int)/\(cR lo hi ae n).2.1=((HT.sIx n n hi:Nat):Int)/\(cR lo hi ae n).2.2=1:=by
 refine⟨?_,?_,rfl⟩
 .cases lo with
  |none=>simp[cR,HT.sIx]
  |some i =>
   simp only[cR,HT.sIx,iq,show(1:Int)>0 by decide,if_true];by_cases h:i<0
   .simp only[h,if_true]<;>omega
   .simp only[h,if_false]<;>omega
 .cases hi with
  |none=>simp[cR,HT.sIx]
  |some i =>
   simp only[cR,HT.sIx,iq,show(1:Int)>0 by decide,if_true];by_cases h:i<0
   .simp only[h,if_true]<;>omega
   .simp only[h,if_false]<;>omega
theorem K3(its:List aj)(lo hi:Option Int):slicePick its.toArray lo hi ae=((its.drop (HT.sIx its.length 0 lo)).take (HT.sIx its.length its.length hi-HT.sIx its.length 0 lo)).toArray:=by obtain⟨h1,h2,h3⟩:=Ie lo hi its.toArray.size;unfold slicePick;rw[h1,h2,h3];simp only[sliceRange_one,pick_run,X4]<;>rfl
def jiq(K:k7f):V->Option Int->Option Int->Hp->VK->Prop:=λx lo hi H Q=>∃a xs,x=.ref a/\SqL K H a xs/\∀p,H p=ae->Q (.ref p) (upd H p (.lst (Rr xs lo hi)))
theorem j9c:SlR X (jiq X.K):=by intro pins s σ H x v vl vu lo hi sl Q I rx hs pl pu h;obtain⟨a,xs,rfl,hx,q⟩:=h;cases rx;obtain⟨its,r,ht,hz⟩:=I.list hx;have hlen:=r.length;refine⟨"list",_,slot_list_getitem.lookup,ht.isList.typeIs,?_⟩;refine wpAny_getItem_list_slice ht.isList hs pl pu .none (by simp) ?_ (by rw[X4]<;>omega);rw[K3,<-hlen];refine⟨.ref s.heap.objs.size,_,I.laid (t':=s.toks) (o:=.lst (Rr xs lo hi)) (λb ob q=>xg _ q) (xx _) ?_,rfl,q _ (I.hok.fresh (xx _))⟩;exact⟨Xh (O2 xs lo hi) hz,_,0,(r.drop (HT.sIx xs.length 0 lo)).take (HT.sIx xs.length xs.length hi-HT.sIx xs.length 0 lo),X7 _ rfl⟩
theorem Yj:Jp X (.builtin "len") (λxs H Q=>∃p ys,xs=[.ref p]/\(SqL X.K H p ys\/SqT X.K H p ys)/\Q (.int ys.length) H):=by
 intro pins s σ H xs us Q I r h;obtain⟨p,ys,rfl,hq,q⟩:=h;obtain⟨u,rfl,rx⟩:=vals1 r;cases rx;have hn:=Ur;rcases hq with hq|hq
 .obtain⟨its,r',pl,hz⟩:=I.list hq;have hlen:=r'.length;exact Calls.call_len_list pl.isList (by simp only[X4]<;>omega) ⟨.int ys.length,H,I.tok _,⟨s.toks+1,by rw[X4,hlen]⟩,q⟩
 .obtain⟨its,r',pl,hz⟩:=I.tuple hq;have hlen:=r'.length;exact len_tuple pl (by simp only[X4]<;>omega) ⟨.int ys.length,H,I.tok _,⟨s.toks+1,by rw[X4,hlen]⟩,q⟩
theorem j0d:Jp X (.builtin "len") (λxs H Q=>∃z,xs=[.str z]/\z.length<=av/\Q (.int z.length) H):=by intro pins s σ H xs us Q I r h;obtain⟨z,rfl,hz,q⟩:=h;obtain⟨u,rfl,t,rfl⟩:=vals1 r;have hn:=Ur;exact len_str nofun ⟨.int z.length,H,I.tok _,⟨_,rfl⟩,q⟩
theorem j0c:Jp X (.type "list") (λxs H Q=>∃p ys,xs=[.ref p]/\(SqL X.K H p ys\/SqT X.K H p ys)/\∀l,H l=ae->Q (.ref l) (upd H l (.lst ys))):=by
 intro pins s σ H xs us Q I r h;obtain⟨p,ys,rfl,hq,q⟩:=h;obtain⟨u,rfl,rx⟩:=vals1 r;cases rx;have fin:∀(its:List aj),Vals ys its->ys.length<=av->∀(h':aF)(c':Nat),(∀b o',s.heap.get? b=a8 o'->h'.get? b=a8 o') ->
   h'.get? s.heap.objs.size=a8 { cls:=.type "list",dict:=ae,data:=.seq its.toArray c',slots:=#[] }->EP X pins σ Q (.ref s.heap.objs.size) { s with heap:=h' }:=λits r' hz h' c' kp e =>
  ⟨.ref s.heap.objs.size,_,I.laid (t':=s.toks) kp (xx _) (show jo X.prog X.w _ h' _ (.lst ys) from⟨hz,its,c',r',e⟩),rfl,q _ (I.hok.fresh (xx _))⟩
 rcases hq with hq|hq
 .obtain⟨its,r',pl,hz⟩:=I.list hq;have hlen:=r'.length;obtain⟨o,ho,hc,n,hd⟩:=pl.isList;exact lO p (.inl rfl) ho hc hd (λh' c' kp e=>fin its r' hz h' c' kp e) (by simp only[X4]<;>omega)
 .obtain⟨its,r',pl,hz⟩:=I.tuple hq;have hlen:=r'.length;obtain⟨o,ho,hc,n,hd⟩:=pl;exact lO p (.inr rfl) ho hc hd (λh' c' kp e=>fin its r' hz h' c' kp e) (by simp only[X4]<;>omega)
theorem K6:Jp X (.type "tuple") (λxs H Q=>∃p ys,xs=[.ref p]/\((SqL X.K H p ys/\∀l,H l=ae->Q (.ref l) (upd H l (.tup ys)))\/(SqT X.K H p ys/\Q (.ref p) H))):=by
 intro pins s σ H xs us Q I r h;obtain⟨p,ys,rfl,h⟩:=h;obtain⟨u,rfl,rx⟩:=vals1 r;cases rx;rcases h with ⟨hq,q⟩|⟨hq,q⟩
 .obtain⟨its,r',pl,hz⟩:=I.list hq;have hlen:=r'.length;refine call_tuple_list pl.isList (λh' kp=>?_) (by simp only[X4]<;>omega);have I1:Inv X pins σ H { s with heap:=h' }:=I.kept (t':=s.toks) kp;have I2:Inv X pins σ (upd H h'.objs.size (.tup ys)) { s with heap:=h'.push { cls:=.type "tuple",data:=.seq its.toArray } } :=
   I1.laid (t':=s.toks) (λb o e=>xg _ e) (xx _) (show jo X.prog X.w _ _ _ (.tup ys) from⟨hz,its,r',IsTup.new _ _,Zm.new _ _⟩)
  exact⟨.ref h'.objs.size,_,I2,rfl,q _ (I1.hok.fresh (xx _))⟩
 .obtain⟨its,r',pl,hz⟩:=I.tuple hq;exact call_tuple_same pl ⟨.ref p,H,I,rfl,q⟩
def tyV(K:k7f)(T:String)(x:V)(H:Hp):Prop:=match x with
 |.str _=>T = "str"
 |.int _=>T = "int"
 |.ref p=>(T = "list"/\∃xs,SqL K H p xs)\/(T = "tuple"/\∃xs,SqT K H p xs) \/
   (T = "dict"/\((∃kvs,H p=a8 (.dK kvs))\/∃kvs,H p=a8 (.dT kvs)))\/(T = "set"/\∃S n,H p=a8 (.set S n))
 |_=>False
theorem jbr{pins:k7h}{σ:St}{H:Hp}{s:ao}{T:String}{x:V}{v:aj}(I:Inv X pins σ H s)(r:RelV x v)(ty:tyV X.K T x H) :
  s.TypeIs v T/\∀a,v=.ref a->∃ob,s.heap.get? a=a8 ob/\ob.dict=ae:=by
 cases x with
 |str z =>obtain⟨t,rfl⟩:=r;cases(show T = "str" from ty);exact⟨fD s z t,λ_ e=>nomatch e⟩
 |int i =>obtain⟨t,rfl⟩:=r;cases(show T = "int" from ty);exact⟨fE s i t,λ_ e=>nomatch e⟩
 |ref p =>
  cases r;rcases ty with ⟨rfl,xs,hq⟩|⟨rfl,xs,hq⟩|⟨rfl,hk⟩|⟨rfl,S,n,hk⟩
  .obtain⟨its,_,pl,_⟩:=I.list hq;refine⟨pl.isList.typeIs,λa e=>?_⟩;cases e;obtain⟨o,n,e,c,hd,_⟩:=pl;exact⟨o,e,hd⟩
  .obtain⟨its,_,⟨o,e1,e2,_⟩,_⟩:=I.tuple hq;refine⟨⟨o,e1,e2⟩,λa e=>?_⟩;cases e;exact⟨o,e1,I.tupD hq o e1⟩
  .have z:∃o,s.heap.get? p=a8 o/\o.ExactDict:=by
    rcases hk with ⟨kvs,hk⟩|⟨kvs,hk⟩
    .obtain⟨_,_,_,_,o,_,_,e,ex,_⟩:=I.hok p _ hk;exact⟨o,e,ex⟩
    .obtain⟨_,_,_,_,o,_,_,e,ex,_⟩:=I.hok p _ hk;exact⟨o,e,ex⟩
   obtain⟨o,e,ex⟩:=z;refine⟨⟨o,e,ex.1⟩,λa e2=>?_⟩;cases e2;exact⟨o,e,ex.2.1⟩
  .obtain⟨o,_,_,_,e,ex,_⟩:=I.hok p _ hk;refine⟨⟨o,e,ex.1⟩,λa e2=>?_⟩;cases e2;exact⟨o,e,ex.2.1⟩
 |_=>exact bc ty
def tBM(K:k7f)(T:String)(r:V->List V->Hp->VK->Prop)(to:TE)(t:TA):TE:=λσ H Q=>to σ H λx H1=>tyV K T x H1/\t σ H1 λxs H2=>r x xs H2 Q
variable{o e:ar}{es:List ar}{to:TE}{t:TA}{name:aq}{apos cpos:aM}{T id:String}{r:V->List V->Hp->VK->Prop}
theorem Bq (pa:PlainAttrs T) (slot:Slot T name id) (hty:typeOf (.builtin id)=pure (.type "method_descriptor")) (hm:MtR X id r) (ho:PE X o to) (ha:PA X (e::es) t)
  (hbase:bh o name X.env (aE o X.env)=aE o X.env:=by rfl)
  (hfew:((aR cpos (ah (e::es) X.env)).all (λx=>!x.1)&&(cS cpos (bH [] X.env)).all (λx=>x.1.isSome)
   && decide ((e::es).length+([]:List bg).length+(if ([]:List bg).isEmpty then 0 else 1)<30))=aa:=by rfl)
  (hline:(apos.endLine==cpos.line)=aa:=by rfl) (hs:ah (e::es) X.env=(a9,aE e X.env)::ah es X.env:=by rfl) (hplain:(aR cpos (ah es X.env)).any (·.1)=a9:=by rfl) :
  PE X (.Call (.Attribute o name apos) (e::es) [] cpos) (tBM X.K T r to t):=by
 intro pins s σ H Q I h;refine wpAny_Call_method_late hbase hfew hline rfl (thn (ho pins s σ H _ I h) λv s1 ⟨x,H1,I1,r1,ty,q1⟩=>?_);obtain⟨h1,h2⟩:=jbr I1 r1 ty;refine⟨T,id,pa,slot,hty,h1,h2,?_⟩;have hA:=ha cpos pins s1 σ H1 _ I1 q1;rw[hs]at hA ⊢;refine dF (by show(a9 || (aR cpos (ah es X.env)).any (·.1))=a9;rw[hplain]<;>rfl) (cE ?_);exact thn hA λus s2 ⟨vs,H2,I2,r2,q2⟩=>hm pins s2 σ H2 x vs v us Q I2 r1 r2 q2
/- xs.append(e),list.index on a module's tuple .. are MtR facts of 06m -/
end
def MtM(X:Cx)(id:String)(r:V->List V->Hp->VK->Prop):Prop :=
 ∀(pins:k7h) (s:ao) (σ:St) (H:Hp) (x:V) (xs:List V) (v:aj) (us:List aj) (Q:VK),Inv X pins σ H s->RelV x v->Vals xs us->r x xs H Q ->
  ax (aC X.prog X.w) X.A (call (.builtin id) (v::us)) (EP X pins σ Q) X.xe s
theorem Vals.one{x:V}{us:List aj}(h:Vals [x] us):∃u,us=[u]/\RelV x u:=by cases h with|cons r t=>cases t;exact⟨_,rfl,r⟩
theorem Vals.two:∀{x y:V}{us:List aj},Vals [x,y] us->∃u v,us=[u,v]/\RelV x u/\RelV y v
 |_,_,_,.cons r (.cons q .nil)=>⟨_,_,rfl,r,q⟩
theorem Vals.reverse{xs:List V}{us:List aj}(h:Vals xs us):Vals xs.reverse us.reverse:=by
 induction h with
 |nil=>exact .nil
 |cons r t ih=>rw[iF,iF];exact Vals.append ih (.cons r .nil)
theorem Vals.rep{xs:List V}{us:List aj}(h:Vals xs us):∀k:Nat,Vals (au k xs).flatten (au k us).flatten
 |0=>.nil
 |k+1=>by rw[ph,ph,T5,T5];exact Vals.append h (Vals.rep h k)
theorem foldl_rep(its:List aj):∀(k:Nat)(acc:List aj),
  cD (λx1 x2=>x1++x2) acc.toArray (au k its.toArray)=(acc++(au k its).flatten).toArray
 |0,acc=>by simp
 |k+1,acc=>by
  have e:acc.toArray++its.toArray=(acc++its).toArray:=by simp
  have e2:(acc++its)++(au k its).flatten=acc++(au (k+1) its).flatten:=by rw[ph,T5,Ti]
  rw[<-e2,<-foldl_rep its k (acc++its),<-e,ph,T7]
section
variable{X:Cx}{pins:k7h}{σ:St}{H:Hp}{s:ao}{l b:ai}{xs ys zs:List V}
theorem Inv.lset{its its':List aj}{n:Nat}{f:Array aj->Array aj}{t':Nat}(I:Inv X pins σ H s)(hH:H l=a8 (.lst xs))
  (e:s.heap.get? l=a8 { cls:=.type "list",data:=.seq its.toArray n }) (hf:f its.toArray=its'.toArray) (hv:Vals ys its') (hz:ys.length<=av) :
  Inv X pins σ (upd H l (.lst ys)) { s with heap:=s.heap.update l (cY f),toks:=t' }:=by
 have q:=PySem.IsL.update e f;rw[hf]at q;refine I.write (x:=l) (e:=l) (by rw[hH];exact trivial) (.inl rfl) (λb' u hb hu=>(Heap.get?_update_other s.heap (cY f) (ba hb)).trans hu) ⟨_,q⟩ ?_;exact⟨hz,its',_,hv,q⟩
theorem Inv.lnew{its:List aj}{t':Nat}(I:Inv X pins σ H s)(hv:Vals ys its)(hz:ys.length<=av) :
  Inv X pins σ (upd H s.heap.objs.size (.lst ys)) { s with heap:=s.heap.push { cls:=.type "list",data:=.seq its.toArray },toks:=t' } :=
 I.laid (λ_ _ q=>xg _ q) (xx _) ⟨hz,its,0,hv,X7 _ rfl⟩
theorem Inv.fresh(I:Inv X pins σ H s):H s.heap.objs.size=ae:=I.hok.fresh (xx _)
theorem Inv.lstM(I:Inv X pins σ H s)(hH:H l=a8 (.lst xs)):xs.length<=av/\∃(its:List aj)(n:Nat),Vals xs its/\xs.length=its.length/\s.heap.get? l=a8 { cls:=.type "list",data:=.seq its.toArray n }:=by obtain⟨z,its,n,r,e⟩:=I.hok l _ hH;exact⟨z,its,n,r,r.length,e⟩
theorem Ec{n:Nat}(h:n<=av):bN n=a9:=by unfold bN;exact decide_eq_false nofun
end
section
variable{X:Cx}
def j9t:V->List V->Hp->VK->Prop:=λx vs H Q=>∃l xs y,x=.ref l/\vs=[y]/\H l=a8 (.lst xs)/\xs.length<av/\Q .non (upd H l (.lst (xs++[y])))
theorem Ww:MtM X "list.append" j9t:=by intro pins s σ H x vs v us Q I rx rv h;obtain⟨l,xs,y,rfl,rfl,hH,hz,q⟩:=h;cases rx;obtain⟨u,rfl,ru⟩:=rv.one;obtain⟨z,its,n,r,hl,e⟩:=I.lstM hH;refine cb gU ⟨_,e,rfl⟩ F.entry_list_append (F.args_list_append_2 _ _) (PySem.list_append l its.toArray n u (by rw[X4];omega)) ⟨e,?_⟩;refine⟨.non,_,I.lset (its':=its++[u]) hH e (by simp) (r.append (.cons ru .nil)) ?_,rfl,q⟩;rw[Xe,Tq];omega
def j9s:V->List V->Hp->VK->Prop:=λx vs H Q=>∃l b xs zs,x=.ref l/\vs=[.ref b]/\H l=a8 (.lst xs)/\H b=a8 (.lst zs)/\xs.length+zs.length<=av/\Q .non (upd H l (.lst (xs++zs)))
theorem j4e:MtM X "list.extend" j9s:=by
 intro pins s σ H x vs v us Q I rx rv h;obtain⟨l,b,xs,zs,rfl,rfl,hH,hB,hz,q⟩:=h;cases rx;obtain⟨u,rfl,ru⟩:=rv.one;cases ru;obtain⟨z,its,n,r,hl,e⟩:=I.lstM hH;obtain⟨z2,its2,n2,r2,hl2,e2⟩:=I.lstM hB;have hsz:its.toArray.size+its2.toArray.size<=av:=by rw[X4,X4];omega
 have hlong:¬(!its.toArray.isEmpty&&bN (its.toArray.size+its2.toArray.size))=aa:=by rw[Ec hsz,g9];exact xf
 refine cb gT ⟨_,e,rfl⟩ F.entry_list_extend (F.args_list_extend_2 _ _)
  (AutoSeq1.list_extend_list_list_0 l its.toArray n b its2.toArray n2 hlong (by rw[X4];omega) nofun) ⟨e,e2,?_⟩
 refine⟨.non,_,I.lset (its':=its++its2) hH e (by simp) (r.append r2) ?_,rfl,q⟩;rw[Xe];omega
def jis:R2:=λx y H Q=>∃l k xs,x=.ref l/\y=.int k/\H l=a8 (.lst xs)/\-(2^63)<=k/\k<2^63/\xs.length*k.toNat<=av /\
 ∀p,H p=ae->Q (.ref p) (upd H p (.lst (au k.toNat xs).flatten))
theorem len_rep{α:Type}(xs:List α)(k:Nat):(au k xs).flatten.length=k*xs.length:=by
 induction k with
 |zero=>simp
 |succ k ih=>rw[ph,T5,Xe,ih,kB,Nat.add_comm]
theorem jcx:OpR X (aY .Mult) jis:=by
 intro pins s σ H x y v u Q I rx ry h;obtain⟨l,k,xs,rfl,rfl,hH,h1,h2,hz,q⟩:=h;cases rx;obtain⟨t,rfl⟩:=ry;obtain⟨z,its,n,r,hl,e⟩:=I.lstM hH;have hlen:its.toArray.size*k.toNat<=av:=by rw[X4,<-hl];exact hz
 have hcap:¬its.toArray.size*k.toNat>(2^63-1)/8:=by
  have:(av:Nat)<=(2^63-1)/8:=by decide
  omega
 have hfit:¬(!Builtin.List.listFitsIndex k)=aa:=by rw[fitsIndex_both h1 h2];exact xf
 have hlong:¬bN (its.toArray.size*k.toNat)=aa:=by rw[Ec hlen];exact xf
 have hnew:cD (λx1 x2=>x1++x2) #[] (au (if its.toArray.isEmpty=aa then 0 else k.toNat) its.toArray)=(au k.toNat its).flatten.toArray:=by
  have f0:∀m:Nat,cD (λx1 x2=>x1++x2) #[] (au m its.toArray)=(au m its).flatten.toArray:=λm=>by have:=foldl_rep its m [];rw[fK]at this;exact this
  rw[f0];cases its with
  |nil=>simp
  |cons a r'=>rw[if_neg (by simp)]
 refine hJ (T:="list") (U:="int") (by decide) ⟨_,e,rfl⟩ (λs'=>fE s' k t) noFill_list_mul jV dX repeat_list F.slot_int_index.lookup
  (cb dX (fE s k t) jJ (jE _ _) (int___rmul___int_list k t l its.toArray n)
   ⟨e,rfl,⟨_,e,rfl⟩,cb F.slot_list_mul ⟨_,e,rfl⟩ F.entry_list_mul (F.args_list_mul_2 _ _) (AutoListH.list___mul___list_int_3 l its.toArray n k t hfit hcap hlong) ⟨e,?_⟩⟩)
 rw[hnew];exact⟨.ref _,_,I.lnew (t':=s.toks) (r.rep k.toNat) (by rw[len_rep,fg];exact hz),rfl,q _ I.fresh⟩
end
end L2
namespace Att
open PySem PySem.W PySem.Calls PyProof.Rows
theorem Bx{P:lE}{h:aF}:∀(ns:List Int)(vs:List aj),WellAll P h vs (ns.map WData.int)->cH vs ns:=by
 intro ns;induction ns with
 |nil =>intro vs w;rw[bT]at w;cases w;exact .nil
 |cons n ns ih =>
  intro vs w;rw[X5]at w;cases w with
  |cons a b =>cases a;exact .cons _ _ (ih _ b)
theorem j3r{l:dj}{n:Nat}(hn:l.most=a8 n){P:lE}{h:aF}{args:List WData}{vals:List aj}
  (hpre:l.row.toRowW.claim.pre args=aa) (hwl:WellAll P h vals args) :
  ∃a vs ns,vals=[aQ a]/\args=[WData.list (ns.map WData.int)]/\h.get? a=a8 { cls:=.type "list",data:=.seq vs.toArray }/\cH vs ns/\ns.length<=n:=by
 have hsh:WShape.hasAll [] args [.list .int]=aa:=(pre_splitW hpre).1;have hc:l.pre.holds [] { args:=args }=aa:=(pre_splitW hpre).2;obtain⟨d,r,rfl,h1,h2⟩:=hasAllW_cons hsh;obtain rfl:=hasAllW_nil h2;obtain⟨xs,rfl,h3⟩:=hasW_list h1;obtain⟨ns,rfl⟩:=items_int h3;have hlen:ns.length<=n:=by
  unfold OpenLaw.pre at hc;have h4:(WTm.not (.lt (.lit (.int (n:Int))) (.len (.arg 0)))).holds [] { args:=[.list (ns.map .int)] }=aa:=by have h4:=(holds_andW hc).1;rw[hn]at h4;exact h4
  have h5:=condW_of h4 (w_not (w_lt w_lit (w_len_list (w_arg rfl))));rw[km]at h5;refine Nat.le_of_not_lt λq=>?_;have q':(n:Int)<((ns.length:Nat):Int):=by omega
  first
   |(rw[decide_eq_true q']at h5;exact absurd h5 (by decide))
   |(simp at h5;omega)
 cases hwl with
 |cons w1 w2 =>
  cases w2;cases w1 with
  |list ho hall=>exact⟨_,_,ns,rfl,rfl,ho,Bx ns _ hall,hlen⟩
theorem j3v(l:dj)(args:List WData):l.row.toRowW.claim.post args (.bool aa) args=aa :=
 postW_of (r:=l.row.toRowW) (X:=(aa==aa))
  (show WShape.has [] (.bool aa) .bool=aa by first|rfl|decide|simp[WShape.has,WShape.arms,WShape.armsAll])
  (show(WTm.eq .res (.lit (.bool aa))).value [] { args:=args,res:=a8 (.bool aa),after:=args }=a8 (.bool (aa==aa))from w_eq_bool (w_res rfl) w_lit) rfl
theorem attach_call{l:dj}{n:Nat}{q:ay}{loose:List aq}{XP:(aq->Option aj)->aF->Prop}{YP:aD->aF->Prop}{d:DefRec}
  (hn:l.most=a8 n) (hdf:d.params.defaults=[])
  (call:∀(w:aD)(s₀ s₁:ao)(mg mb:k7i)(fa:ai)(o:d7)(pm cd doc:aj)(a:ai) (vs:List aj) (ns:List Int),
   Ground q loose [] XP w s₀ mg mb s₁.heap->YP w s₁.heap ->
   s₁.heap.get? fa=a8 o->o.data=.func (docDef d.name d.params d.body d.scope pm cd doc)->s₁.heap.CodeRec cd d.name->mg d.name=a8 (.ref fa) ->
   s₁.heap.get? a=a8 { cls:=.type "list",data:=.seq vs.toArray }->cH vs ns->ns.length<=n->s₁.gens = #[] ->
   bK (aC l.prog w) fX (.call (.ref fa) ⟨[.ref a],[]⟩) (λr s'=>r=.ok (.ret (.bool aa))/\OldK s₁.heap s'.heap/\s'.os=s₁.os/\dH s'.gens) s₁) :
  i4 q loose XP YP l.row.toRowW d [] (λf vs=>i7 f vs):=by
 intro w s₀ s₁ mg mb G Y fa o pm cd doc dV kV ho hd hcd hD hmg hg args vals as hpre hlay hrd hwl hlo;obtain rfl:dV=.none:=Dflts.none hD hdf;obtain rfl:kV=.none:=Dflts.noKw hD;obtain⟨a,vs,ns,rfl,rfl,hobj,hints,hlen⟩:=j3r hn hpre hwl;refine enter_call (cg (call w s₀ s₁ mg mb fa o pm cd doc a vs ns G Y ho (fd_plain hd) hcd hmg hobj hints hlen hg) λr s' hq=>?_);obtain⟨rfl,h2,h3,h4⟩:=hq;exact⟨.inl ⟨.bool aa,.bool aa,[],rfl,λ_=>rfl,.bool aa,j3v l _,λ_=>⟨List.Pairwise.nil,λ_ hm=>(nomatch hm)⟩⟩,h2,h3,h4⟩
end Att
namespace L2
open PySem PySem.Spec PyProof.Rows
theorem Cd:∀{vs:List aj}{ns:List Int},cH vs ns->Vals (ns.map V.int) vs
 |_,_,.nil=>.nil
 |_,_,.cons n t h=>.cons ⟨t,rfl⟩ (Cd h)
def Only(ts:List (ai×aq))(H:Hp):Prop:=(∀b,H b=ae\/(∃o xs,H b=a8 (.frz o (.lst xs)))\/∃q,(b,q)∈ts/\H b=a8 (.cod q))/\∀t∈ts,H t.1=a8 (.cod t.2)
def j81(ts:List (ai×aq))(h:aF):Prop:=(ts.map (·.1)).Nodup/\∀t∈ts,(∃c,PySem.W.CodeHd h c t.1)/\h.get? t.1=a8 (W.tabObj #[])
theorem j13:∀{ts:List (ai×aq)} {b:ai} {q:aq},ts.lookup b=a8 q->(b,q)∈ts
 |p::r,b,q,h=>by
  rw[Xi]at h;cases e:b==p.1 with
  |true=>rw[e]at h;cases h;rw[beq_iff_eq.mp e];exact X3 ..
  |false=>rw[e]at h;exact xm _ (j13 h)
theorem lookup_tab:∀{ts:List (ai×aq)},(ts.map (·.1)).Nodup->∀t∈ts,ts.lookup t.1=a8 t.2
 |[],_,_,h=>by cases h
 |p::r,nd,t,ht=>by
  rw[X5]at nd;rcases xu.mp ht with e|ht
  .subst e;rw[Xi,beq_self_eq_true]
  .have ne:(t.1==p.1)=a9:=beq_eq_false_iff_ne.mpr λz=>(Xn.mp nd).1 (z▸eG ht);rw[Xi,ne];exact lookup_tab (Xn.mp nd).2 t ht
theorem j6n{P:ay}{w:aD}{K:k7f}{mg mb:k7i}{CX:CXT}{k:Nat}{fa a:ai}{fd:aL}{x:aq}{sp:Sp}{s₁:ao}{vs:List aj}{ns:List Int}{ts:List (ai×aq)}
  (KX:K.In s₁.heap) (hns:s₁.heap.Ns az mg) (hb:s₁.heap.Ns dB mb) (hbb:∀x:aq,x ≠ "__name__"->mb x=eA x) (hlim:s₁.heap.NoLimit)
  (hbm:∃bm ob,mg "__builtins__" = a8 (.ref bm)/\bm≠dB/\s₁.heap.get? bm=a8 ob/\ob.cls=.type "module"/\ob.dict=a8 dB/\ob.data=.plain) (hT:j81 ts s₁.heap) (hK0:W.noTabs K=aa) (hg:s₁.gens = #[])
  (ha:s₁.heap.get? a=a8 { cls:=.type "list",data:=.seq vs.toArray }) (hi:cH vs ns) (hl:ns.length<=av) (hr:Room k fX)
  (F:∀base:aF,K.In base->base.Ns az mg->FnOk P w K mg base CX k fa fd [x] sp) (hbind:∀(s:ao)(u:aj),fY s fd ⟨[u],[]⟩ [(x,u)])
  (hsp:∀H:Hp,Only ts H->SqL K H a (ns.map V.int)->sp [.ref a] H (λv H'=>v=.bl aa/\∀b o,H b=a8 o->H' b=a8 o) λ_ _ _=>False)
  (hCX:∀H e s',CX [] H s₁ (λ_ _ _=>False) e s'->False) :
  bK (aC P w) fX (.call (.ref fa) ⟨[.ref a],[]⟩) (λr s'=>r=.ok (.ret (.bool aa))/\OldK s₁.heap s'.heap/\s'.os=s₁.os/\dH s'.gens) s₁:=by
 have rv:=Cd hi;have lenV:=hi.length;have at_:∀{q:aq}{b:ai},(b,q)∈ts->s₁.heap.get? b=a8 (W.tabObj #[]):=λ{q b} h=>(hT.2 _ h).2;have core:∀H:Hp,Only ts H->SqL K H a (ns.map V.int)->HOk P w H s₁.heap->(∀b,H b≠ae->b=a\/∃q,(b,q)∈ts)->(H a≠ae->K.lookup a=ae) ->
   bK (aC P w) fX (.call (.ref fa) ⟨[.ref a],[]⟩) (λr s'=>r=.ok (.ret (.bool aa))/\OldK s₁.heap s'.heap/\s'.os=s₁.os/\dH s'.gens) s₁:=by
  intro H hO hS hok hA hK;have base_of:∀{b:ai}{o:d7},s₁.heap.get? b=a8 o->H b=ae->(W4 s₁.heap H).get? b=a8 o:=λe n=>j6z e n;have noA:∀{b:ai}{o:d7},s₁.heap.get? b=a8 o->(∀vs n,o.data≠.seq vs n)->(∀vs,o.data≠.fields vs)->H b=ae:=λ{b o} e d d2=>by
   cases q:H b with
   |none=>rfl
   |some u =>
    rcases hA b (by rw[q];simp)with e'|⟨q',e'⟩
    .subst e';rw[ha]at e;cases e;exact absurd rfl (d _ _)
    .rw[at_ e']at e;cases e;exact absurd rfl (d2 _)
  have nsK:∀{b:ai}{m:k7i},s₁.heap.Ns b m->(W4 s₁.heap H).Ns b m:=λ{b m} ⟨o,es,ep,e,d,r⟩=>⟨o,es,ep,base_of e (noA e (λ_ _ z=>by rw[d]at z;cases z) λ_ z=>by rw[d]at z;cases z),d,r⟩
  have hKb:K.In (W4 s₁.heap H):=λb o e=>base_of (KX b o e) (by
   cases q:H b with
   |none=>rfl
   |some u =>
    rcases hA b (by rw[q];simp)with e'|⟨q',e'⟩
    .subst e'
     rw[hK (by rw[q];simp)]at e;cases e
    .have e2:=KX b o e
     rw[at_ e']at e2
     have h2:=Pa.mp hK0 (b,o) (W.mem_of_lookupK e)
     cases e2
     exact absurd (show a9=aa from h2) xf)
  have hM:Mod K mg (W4 s₁.heap H):=⟨hKb,nsK hns,⟨mb,nsK hb,hbb⟩,(let ⟨mc,h1,h2⟩:=hlim;⟨mc,nsK h1,h2⟩),
   let ⟨bm,ob,b1,b2,b3,b4,b5,b6⟩:=hbm;⟨bm,ob,b1,b2,base_of b3 (noA b3 (λ_ _ z=>by rw[b6]at z;cases z) λ_ z=>by rw[b6]at z;cases z),b4,b5,b6⟩⟩
  have e0:Env0 P w K mg (W4 s₁.heap H) fX [] s₁ H:=⟨rfl,hM,λb o e=>ja6 e,kD (j4o _ _),trivial,λb hb=>absurd (show b∈([]:List ai)from hb) (by simp),hok,.of_eq hg⟩
  refine cg ((F _ hKb (nsK hns)).run fX [] s₁ H ⟨[.ref a],[]⟩ [.ref a] [.ref a] _ _ hr e0 (hbind s₁ (.ref a)) (.cons rfl .nil) (hsp H hO hS)) λr s' h=>?_;cases r with
  |error e=>exact(hCX H e s' h).elim
  |ok fl =>
   cases fl with
   |next=>exact bc h
   |brk=>exact bc h
   |cont=>exact bc h
   |ret u =>
    obtain⟨v,H',os,bare,un,hok',r',q,sm⟩:=h;have q':v=.bl aa:=q;subst q';obtain rfl:u=bQ aa:=r';have main:∀b o,s₁.heap.get? b=a8 o->s'.heap.get? b=a8 o\/((∃q,(b,q)∈ts)/\o=W.tabObj #[]/\∃ps,s'.heap.get? b=a8 (W.tabObj ps)):=λb o e=>by
     cases q:H b with
     |none=>exact .inl (un.keep b o e q (by intro z;exact absurd (show b∈([]:List ai)from z) (by simp)) (by simp))
     |some u =>
      rcases hO.1 b with z|⟨ob,xs,z⟩|⟨q',hq,z⟩
      .rw[q]at z;cases z
      .have z2:=un.frzs b ob _ z;obtain⟨e1,_⟩:=hok b _ z;obtain⟨e2,_⟩:=hok' b _ z2;rw[e]at e1;cases e1;exact .inl e2
      .obtain⟨ps,e2,_⟩:=(show jo P w H' s'.heap b (.cod q')from hok' b _ (sm b _ z))
       rw[at_ hq]at e;exact .inr ⟨⟨q',hq⟩,(aB e).symm,ps,e2⟩
    refine⟨rfl,⟨λb o e=>?_,λb o e=>?_⟩,os,bare⟩
    .rcases main b o e with z|⟨⟨q,hq⟩,rfl,ps,z⟩
     .exact .inl z
     .obtain⟨c,hc⟩:=(hT.2 _ hq).1;exact .inr (.inl ⟨(hc.tab (at_ hq)).isCodeTable,rfl,#[],ps,rfl,by rw[z,Array.empty_append]⟩)
    .rcases main b o e with z|⟨_,_,ps,z⟩
     .exact⟨o,z⟩
     .exact⟨_,z⟩
 have lkT:∀b q,ts.lookup b=a8 q->(b,q)∈ts:=λb q h=>j13 h;have ofT:∀t∈ts,ts.lookup t.1=a8 t.2:=lookup_tab hT.1;have okT:∀(H:Hp) b q,(b,q)∈ts->jo P w H s₁.heap b (.cod q):=λH b q h=>⟨#[],at_ h,trivial,λpos cv z=>by cases z⟩
 cases hk:K.lookup a with
 |some o =>
  have e:=KX a o hk;rw[ha]at e;cases e;refine core (λb=>(ts.lookup b).map HO.cod) ⟨λb=>?_,λt ht=>by show(ts.lookup t.1).map HO.cod=_;rw[ofT t ht];rfl⟩ (.inr ⟨_,vs.toArray,_,hk,rfl,rfl,rfl,by rw[X4,lenV];exact hl,by simpa using rv⟩) (λb u z=>?_) (λb z=>?_) λz=>?_
  .cases e:ts.lookup b with
   |none=>exact .inl (by show(ts.lookup b).map HO.cod=_;rw[e];rfl)
   |some q=>exact .inr (.inr ⟨q,lkT b q e,by show(ts.lookup b).map HO.cod=_;rw[e];rfl⟩)
  .obtain⟨q,e,rfl⟩:=Xm.mp z;exact okT _ b q (lkT b q e)
  .cases e:ts.lookup b with
   |none=>exact absurd (by show(ts.lookup b).map HO.cod=_;rw[e];rfl) z
   |some q=>exact .inr ⟨q,lkT b q e⟩
  .cases e:ts.lookup a with
   |none=>exact absurd (by show(ts.lookup a).map HO.cod=_;rw[e];rfl) z
   |some q=>have:=at_ (lkT a q e);rw[ha]at this;cases this
 |none =>
  have na:∀q,(a,q)∉ts:=λq h=>by have:=at_ h;rw[ha]at this;cases this
  refine core (λb=>if b=a then a8 (.frz { cls:=.type "list",data:=.seq vs.toArray } (.lst (ns.map V.int))) else(ts.lookup b).map HO.cod) ⟨λb=>?_,λt ht=>?_⟩ (.inl (.inr ⟨{ cls:=.type "list",data:=.seq vs.toArray },if_pos rfl⟩)) (λb u z=>?_) (λb z=>?_) λ_=>hk
  .by_cases hb:b=a
   .exact .inr (.inl ⟨_,_,if_pos hb⟩)
   .cases e:ts.lookup b with
    |none=>exact .inl (by show(if b=a then _ else _)=_;rw[if_neg hb,e];rfl)
    |some q=>exact .inr (.inr ⟨q,lkT b q e,by show(if b=a then _ else _)=_;rw[if_neg hb,e];rfl⟩)
  .have nb:t.1≠a:=λz=>na t.2 (z▸ht);show(if t.1=a then _ else _)=_;rw[if_neg nb,ofT t ht];rfl
  .by_cases hb:b=a
   .have z':=(if_pos hb).symm.trans z;cases z';subst hb;exact⟨ha,by rw[km];exact hl,vs,_,rv,ha⟩
   .have z':=(if_neg hb).symm.trans z;obtain⟨q,e,rfl⟩:=Xm.mp z';exact okT _ b q (lkT b q e)
  .by_cases hb:b=a
   .exact .inl hb
   .cases e:ts.lookup b with
    |none=>exact absurd (by show(if b=a then _ else _)=_;rw[if_neg hb,e];rfl) z
    |some q=>exact .inr ⟨q,lkT b q e⟩
theorem walk_of{l:dj}{n k:Nat}{q:ay}{loose:List aq}{XP:(aq->Option aj)->aF->Prop}{YP:aD->aF->Prop}{d:DefRec}{K:lE->k7f}{CX:aD->CXT}{sp:aD->Sp}{x:aq}{ts:aD->List (ai×aq)}
  (hn:l.most=a8 n) (hn2:n<=av) (hdf:d.params.defaults=[]) (hr:Room k fX)
  (hY:∀(w:aD)(h:aF),YP w h->(K w.params).In h/\j81 (ts w) h) (hK0:∀w:aD,W.noTabs (K w.params)=aa)
  (F:∀(w:aD)(mg:k7i)(fa:ai)(h:aF),(K w.params).In h->h.Ns az mg->mg d.name=a8 (.ref fa) ->
   ∃fd:aL,(∀(s:ao)(u:aj),fY s fd ⟨[u],[]⟩ [(x,u)]) /\
    ∀base:aF,(K w.params).In base->base.Ns az mg->FnOk l.prog w (K w.params) mg base (CX w) k fa fd [x] (sp w))
  (hsp:∀(w:aD)(H:Hp)(a:ai)(ns:List Int),ns.length<=n->Only (ts w) H->SqL (K w.params) H a (ns.map V.int)->sp w [.ref a] H (λv H'=>v=.bl aa/\∀b o,H b=a8 o->H' b=a8 o) λ_ _ _=>False)
  (hCX:∀(w:aD)(H:Hp)(s:ao)(e:aj)(s':ao),CX w [] H s (λ_ _ _=>False) e s'->False) :
  i4 q loose XP YP l.row.toRowW d [] (λf vs=>i7 f vs):=by
 refine Att.attach_call hn hdf λw s₀ s₁ mg mb fa o pm cd doc a vs ns G Y ho hd hcd hmg hobj hints hlen hg=>?_;obtain⟨KX,hT⟩:=hY w _ Y;obtain⟨fd,hb,hF⟩:=F w mg fa _ KX G.T.g hmg;exact j6n KX G.T.g G.T.b G.T.builtins G.T.nolimit G.T.bmain hT (hK0 w) hg hobj hints (Xh hlen hn2) hr hF hb (λH hO hS=>hsp w H a ns hlen hO hS) λH e s'=>hCX w H s₁ e s'
end L2
/- THE LAST THEOREM (shape;LID,My.* are yours):
 My.Adr: a structure of the addresses that your layer names (classes,functions);My.Txt K t: a structure (Prop) of the equations over K;
 My.txt_mk:{K} {implicit addresses ..} (e1:cf K az "law" = a8 (a8 (.ref f))) (e2:K.lookup f=a8 ⟨oc,od,.func (fnOf "law" "law" params body scope dV kV doc pm an cdv ct),sl⟩) (e3:codeIn K cdv "law" = aa) ..:∃t,My.Txt K t
(the tactic k_is has no namespace: write k_is) -/
namespace L2
open PySem PySem.Spec PyProof.Rows
noncomputable def vp(s:aN):il:=match s with
 |.FunctionDef _ a _ _ _ _ _ _ _ _=>a
 |_=>{ posonlyargs:=[],args:=[],vararg:=ae,kwonlyargs:=[],kw_defaults:=[],kwarg:=ae,defaults:=[] }
noncomputable def jy(s:aN):List aN:=match s with
 |.FunctionDef _ _ b _ _ _ _ _ _ _=>b
 |_=>[]
noncomputable def j7(s:aN):b8:=match s with
 |.FunctionDef _ _ _ _ _ _ sc _ _ _=>sc
 |_=>{ kind:=.function,names:=[],isGenerator:=a9,isCoroutine:=a9 }
noncomputable abbrev CX0:CXT:=λ_ _ _ _ _ _=>False
noncomputable abbrev E0:XK:=λ_ _ _=>False
theorem M7{X:Cx}:j0j CX0 X E0:=λ_ _ _ _ _ _ _ h=>h.elim
structure Fun(K:k7f)(x qual:aq)(st:aN)(f:ai)(fd:aL):Prop where
 ex:∃(oc:aj)(od:Option ai)(dV kV doc pm:aj)(an:Option ai)(cdv ct:aj)(osl:Array (Option aj)),
  fd=W.fnOf x qual (vp st) (jy st) (j7 st) dV kV doc pm an cdv ct/\K.lookup f=a8 ⟨oc,od,.func fd,osl⟩/\W.codeIn K cdv qual=aa
 kp:W.keepIn K (.ref f)=aa
section
variable{P:ay}{w:aD}{K:k7f}{mg:k7i}{base:aF}
theorem Fun.binds{x qual:aq}{st:aN}{f:ai}{kV doc pm:aj}{an:Option ai}{cdv ct:aj}{ps:List aq}(F:Fun K x qual st f (W.fnOf x qual (vp st) (jy st) (j7 st) .none kV doc pm an cdv ct))
  (h:∀(kV doc pm:aj)(an:Option ai)(cdv ct:aj)(us:List aj),us.length=ps.length->eV (W.fnOf x qual (vp st) (jy st) (j7 st) .none kV doc pm an cdv ct) ⟨us,[]⟩=pure (ps.zip us)):Binds K (W.fnOf x qual (vp st) (jy st) (j7 st) .none kV doc pm an cdv ct) ps []:=.all (h kV doc pm an cdv ct)
theorem Rb{x qual:aq}{st:aN}{f:ai}{oc:aj}{od an:Option ai}{osl:Array (Option aj)}{dV kV doc pm cdv ct:aj}(l:K.lookup f=a8 ⟨oc,od,.func (W.fnOf x qual (vp st) (jy st) (j7 st) dV kV doc pm an cdv ct),osl⟩)
  (c:W.codeIn K cdv qual=aa) (k:W.keepIn K (.ref f)=aa):Fun K x qual st f (W.fnOf x qual (vp st) (jy st) (j7 st) dV kV doc pm an cdv ct):=⟨⟨oc,od,dV,kV,doc,pm,an,cdv,ct,osl,rfl,l,c⟩,k⟩
end
theorem Dg{A B:Prop}(h:B):if a9=aa then A else B:=by rw[if_neg xf];exact h
theorem Df{A B:Prop}(h:A):if aa=aa then A else B:=by rw[if_pos rfl];exact h
def j0(H H':Hp):Prop:=∀b o,H b=a8 o->H' b=a8 o
theorem j0.refl(H:Hp):j0 H H:=λ_ _ h=>h
theorem j0.trans{H H1 H2:Hp}(a:j0 H H1)(b:j0 H1 H2):j0 H H2:=λc o h=>b c o (a c o h)
theorem j0.free{H H':Hp}(e:j0 H H'){l:ai}(h:H' l=ae):H l=ae:=by
 cases q:H l with
 |none=>rfl
 |some o =>rw[e l o q]at h;cases h
theorem j0.seq{K:k7f}{H H':Hp}{a:ai}{xs:List V}(e:j0 H H')(h:SqL K H a xs):SqL K H' a xs:=by
 rcases h with (h|⟨o,h⟩)|h
 .exact .inl (.inl (e _ _ h))
 .exact .inl (.inr ⟨o,e _ _ h⟩)
 .exact .inr h
set_option genInjectivity true in
inductive D where
 |non
 |bl (b:Bool)
 |int (i:Int)
 |str (x:aq)
 |tup (ds:List D)
 |lst (ds:List D)
 |dct (ks:List (List Int)) (ds:List D)
 |sct (kvs:List (aq×Int))
 |fn (x:aq) (cs:List D)
noncomputable def kvI(kvs:List (aq×Int)):List (Key×V):=kvs.map λp=>(.inr p.1,.int p.2)
noncomputable def za(x:aq):aq:=x ++ ".<locals>." ++ "<lambda>"
noncomputable abbrev Tx:=il×ar×b8
noncomputable def jiy:ar->Option Tx
 |.Lambda a b sc _=>a8 (a,b,sc)
 |.Call _ es _ _=>match es.getLast? with
  |some (.Lambda a b sc _)=>a8 (a,b,sc)
  |_=>ae
 |_=>ae
noncomputable def jdj(b:List aN):Option Tx:=match b.getLast? with
 |some (.Return (a8 e) _)=>jiy e
 |_=>ae
noncomputable def j2t(K:k7f)(x:aq):Option Tx:=match W.nsIn K az x with
 |some (a8 (.ref f))=>match K.lookup f with
  |some ⟨_,_,.func fd,_⟩=>match fd.body with
   |.stmts b=>jdj b
   |_=>ae
  |_=>ae
 |_=>ae
noncomputable def V4(sc:b8):List aq:=((sc.names.filter λp=>p.2==.free).map (·.1)).reverse
def vy(H:Hp):List ai->List V->Prop
 |[],vs=>vs=[]
 |c::cs,vs=>∃v r o u,vs=v::r/\H c=a8 (.frz o (.own 0))/\o.data=.cell (a8 u)/\RelV v u/\vy H cs r
theorem vy.mono{H H':Hp}(g:j0 H H'):∀{cs:List ai}{vs:List V},vy H cs vs->vy H' cs vs
 |[],_,h=>h
 |_::_,_,⟨v,r,o,u,e,h,d,rv,l⟩=>⟨v,r,o,u,e,g _ _ h,d,rv,l.mono g⟩
structure LamAt(K:k7f)(H:Hp)(x:aq)(a c:ai)(t:Tx)(cl:List (aq×ai))(vs:List V):Prop where
 tx:j2t K x=a8 t
 fo:∃pm ctv,H a=a8 (.frz (W.kla_obj "<lambda>" (za x) t.1 t.2.1 t.2.2 cl pm c ctv) (.own 0))
 co:∃oc,H c=a8 (.frz oc (.own 0))/\j3d oc (za x)
 nm:cl.map (·.1)=V4 t.2.2
 nd:(cl.map (·.2)).Nodup
 cs:vy H (cl.map (·.2)) vs
theorem LamAt.mono{K:k7f}{H H':Hp}{x:aq}{a c:ai}{tx:Tx}{cl:List (aq×ai)}{vs:List V}(g:j0 H H')(h:LamAt K H x a c tx cl vs):LamAt K H' x a c tx cl vs :=
 ⟨h.tx,let ⟨pm,ctv,e⟩:=h.fo;⟨pm,ctv,g _ _ e⟩,let ⟨oc,e,q⟩:=h.co;⟨oc,g _ _ e,q⟩,h.nm,h.nd,h.cs.mono g⟩
noncomputable def del(H:Hp)(A:List ai):Hp:=λb=>if b∈A then ae else H b
section
variable{H H' F:Hp}{A A':List ai}{a b:ai}{o:HO}
theorem ql(h:b∈A):del H A b=ae:=if_pos h
theorem j9(h:b∉A):del H A b=H b:=if_neg h
theorem of_del(h:del H A b=a8 o):b∉A/\H b=a8 o:=by
 by_cases e:b∈A
 .rw[ql e]at h;cases h
 .rw[j9 e]at h;exact⟨e,h⟩
theorem jd(g:j0 H H'):j0 (del H A) (del H' A):=λb o h=>by obtain⟨n,e⟩:=of_del h;rw[j9 n];exact g b o e
end
theorem j0.seqT{K:k7f}{H H':Hp}{a:ai}{xs:List V}(e:j0 H H')(h:SqT K H a xs):SqT K H' a xs:=by
 rcases h with (h|⟨o,h⟩)|h
 .exact .inl (.inl (e _ _ h))
 .exact .inl (.inr ⟨o,e _ _ h⟩)
 .exact .inr h
mutual
def Enc(K:k7f)(H:Hp):D->V->Prop
 |.non,v=>v=.non
 |.bl b,v=>v=.bl b
 |.int i,v=>v=.int i
 |.str x,v=>v=.str x
 |.tup ds,v=>∃a xs,v=.ref a/\SqT K H a xs/\j4 K H ds xs
 |.lst ds,v=>∃a xs,v=.ref a/\SqL K H a xs/\j4 K H ds xs
 |.dct ks ds,v=>∃(a:ai)(xs:List (List Int×ai×aj)) (ep:Nat) (vs:List V),v=.ref a/\H a=a8 (.dI xs ep)/\ks=(xs.map λx=>x.1)/\(∀x∈xs,SqT K H x.2.1 (x.1.map V.int))/\Vals vs (xs.map λx=>x.2.2)/\j4 K H ds vs
 |.sct kvs,v=>∃a:ai,v=.ref a/\H a=a8 (.dK (kvI kvs))
 |.fn x ds,v=>∃(a c:ai)(tx:Tx)(cl:List (aq×ai)) (vs:List V),v=.ref a/\LamAt K H x a c tx cl vs/\j4 K (del H (cl.map (·.2))) ds vs
def j4(K:k7f)(H:Hp):List D->List V->Prop
 |[],xs=>xs=[]
 |d::ds,xs=>∃x r,xs=x::r/\Enc K H d x/\j4 K H ds r
end
mutual
theorem Enc.mono{K:k7f}{H H':Hp}(g:j0 H H'):∀{d:D}{v:V},Enc K H d v->Enc K H' d v
 |.non,_,h=>h
 |.bl _,_,h=>h
 |.int _,_,h=>h
 |.str _,_,h=>h
 |.tup _,_,⟨a,xs,e,q,l⟩=>⟨a,xs,e,g.seqT q,j4.mono g l⟩
 |.lst _,_,⟨a,xs,e,q,l⟩=>⟨a,xs,e,g.seq q,j4.mono g l⟩
 |.dct _ _,_,⟨a,xs,ep,vs,e,q,ek,kt,rv,l⟩=>⟨a,xs,ep,vs,e,g _ _ q,ek,λx hx=>g.seqT (kt x hx),rv,j4.mono g l⟩
 |.sct _,_,⟨a,e,q⟩=>⟨a,e,g _ _ q⟩
 |.fn _ _,_,⟨a,c,tx,cl,vs,e,q,l⟩=>⟨a,c,tx,cl,vs,e,q.mono g,j4.mono (jd g) l⟩
theorem j4.mono{K:k7f}{H H':Hp}(g:j0 H H'):∀{ds:List D}{xs:List V},j4 K H ds xs->j4 K H' ds xs
 |[],_,h=>h
 |_::_,_,⟨x,r,e,h,l⟩=>⟨x,r,e,Enc.mono g h,j4.mono g l⟩
end
section
variable{K:k7f}{H H':Hp}{ds ds':List D}{xs ys:List V}
theorem j4.length:∀{ds:List D}{xs:List V},j4 K H ds xs->xs.length=ds.length
 |[],_,h=>by cases h;rfl
 |_::_,_,⟨x,r,e,_,l⟩=>by subst e;simp[j4.length l]
theorem j4.get:∀{ds:List D}{xs:List V}{i:Nat}{d:D},j4 K H ds xs->ds[i]?=a8 d->∃x,xs[i]?=a8 x/\Enc K H d x
 |[],_,i,d,_,e=>by simp at e
 |_::_,_,0,d,⟨x,r,e,h,_⟩,q=>by subst e;simp at q;subst q;exact⟨x,rfl,h⟩
 |_::_,_,i+1,d,⟨x,r,e,_,l⟩,q=>by subst e;simp at q;obtain⟨y,hy,hd⟩:=j4.get l q;exact⟨y,by simpa using hy,hd⟩
theorem j4.get':∀{ds:List D}{xs:List V}{i:Nat}{x:V},j4 K H ds xs->xs[i]?=a8 x->∃d,ds[i]?=a8 d/\Enc K H d x
 |[],_,i,d,h,e=>by cases h;simp at e
 |d::_,_,0,y,⟨x,r,e,h,_⟩,q=>by subst e;simp at q;subst q;exact⟨d,rfl,h⟩
 |_::_,_,i+1,y,⟨x,r,e,_,l⟩,q=>by subst e;simp at q;obtain⟨y,hy,hd⟩:=j4.get' l q;exact⟨y,by simpa using hy,hd⟩
theorem j4.append:∀{ds ds':List D}{xs ys:List V},j4 K H ds xs->j4 K H ds' ys->j4 K H (ds++ds') (xs++ys)
 |[],_,_,_,h,h'=>by cases h;exact h'
 |_::_,_,_,_,⟨x,r,e,h,l⟩,h'=>by subst e;exact⟨x,_,rfl,h,j4.append l h'⟩
theorem j4.one{d:D}{x:V}(h:Enc K H d x):j4 K H [d] [x]:=⟨x,[],rfl,h,rfl⟩
theorem j4.take:∀{ds:List D}{xs:List V}(n:Nat),j4 K H ds xs->j4 K H (ds.take n) (xs.take n)
 |[],_,n,h=>by cases h;simp;exact rfl
 |_::_,_,0,⟨x,r,e,h,l⟩=>by simp;exact rfl
 |_::_,_,n+1,⟨x,r,e,h,l⟩=>by subst e;exact⟨x,_,rfl,h,j4.take n l⟩
theorem j4.drop:∀{ds:List D}{xs:List V}(n:Nat),j4 K H ds xs->j4 K H (ds.drop n) (xs.drop n)
 |[],_,n,h=>by cases h;simp;exact rfl
 |_::_,_,0,h=>h
 |_::_,_,n+1,⟨x,r,e,h,l⟩=>by subst e;exact j4.drop n l
theorem j4.rep{ds:List D}{xs:List V}(h:j4 K H ds xs):∀k:Nat,j4 K H (au k ds).flatten (au k xs).flatten
 |0=>rfl
 |k+1=>by rw[ph,ph,T5,T5];exact h.append (j4.rep h k)
theorem j4.ints(ns:List Int):j4 K H (ns.map D.int) (ns.map V.int):=by
 induction ns with
 |nil=>exact rfl
 |cons n ns ih=>exact⟨_,_,rfl,rfl,ih⟩
end
section
variable{H H' F:Hp}{A A':List ai}{a b:ai}{o:HO}
theorem qg:del H []=H:=funext λb=>if_neg (by simp)
theorem jm:j0 (del H A) H:=λ_ _ h=>(of_del h).2
theorem vo(h:∀b,b∈A'->b∈A):j0 (del H A) (del H A'):=λb o e=>by obtain⟨n,e⟩:=of_del e;rw[j9 λz=>n (h b z)];exact e
theorem Zw(h:a∈A):del (upd H a o) A=del H A:=funext λb=>by
 by_cases e:b∈A
 .rw[ql e,ql e]
 .rw[j9 e,j9 e,je];rintro rfl;exact e h
noncomputable def mrg(A:List ai)(H F:Hp):Hp:=λb=>if b∈A then H b else F b
theorem vz(h:b∈A):mrg A H F b=H b:=if_pos h
theorem ji(h:b∉A):mrg A H F b=F b:=if_neg h
theorem Zx(h:∀a∈A,F a=ae):del (mrg A H F) A=F:=funext λb=>by
 by_cases e:b∈A
 .rw[ql e,h b e]
 .rw[j9 e,ji e]
theorem Oa(g:j0 (del H A) F):j0 H (mrg A H F):=λb o e=>by
 by_cases z:b∈A
 .rw[vz z];exact e
 .rw[ji z];exact g b o (by rw[j9 z];exact e)
theorem j8(h:H a=ae):j0 H (upd H a o):=λb u q=>by rw[je (J6 q h)];exact q
end
def Hd(o:Option HO):Prop:=(∃xs,o=a8 (.lst xs))\/∃xs ep,o=a8 (.dI xs ep)
section
variable{X:Cx}{pins:k7h}{σ σ':St}{H F:Hp}{s s':ao}{A:List ai}
theorem Inv.noFs(I:Inv X pins σ H s){b:ai}(hb:b∈X.fs):H b=ae:=by
 have q:b∈frs X.stack:=by
  rcases I.ok.stk with e|⟨e,_⟩
  .rw[e];exact hb
  .rw[e];have hb:b∈frs X.outer:=hb;unfold frs at hb ⊢;rw[bZ];split
   .exact hb
   .exact xm _ hb
 exact I.stkFree b q
theorem Inv.hide(I:Inv X pins σ H s)(hA:∀a∈A,Hd (H a)):Inv X (pins++V9 A s.heap) σ (del H A) s where
 ok:=I.ok
 os:=I.os
 bare:=I.bare
 base:={
  keep:=I.base.keep
  slot:=I.base.slot
  free:=λb o e n hx=>by
   have q:=I.base.free b o e n hx
   by_cases z:b∈A
   .exact ql z
   .rw[j9 z];exact q
  there:=I.base.there
  tups:=λb xs e=>by
   have q:=I.base.tups b xs e
   rw[j9];exact q
   intro z;rcases hA b z with ⟨ys,e'⟩|⟨ys,ep,e'⟩<;>(rw[q]at e';cases e')
  frzs:=λb o u e=>by
   have q:=I.base.frzs b o u e
   rw[j9];exact q
   intro z;rcases hA b z with ⟨ys,e'⟩|⟨ys,ep,e'⟩<;>(rw[q]at e';cases e')
  tbls:=λb ps e=>by
   obtain⟨more,q⟩:=I.base.tbls b ps e
   refine⟨more,?_⟩
   rw[j9];exact q
   intro z;rcases hA b z with ⟨ys,e'⟩|⟨ys,ep,e'⟩<;>(rw[q]at e';cases e') }
 loc:=I.loc
 cell:=I.cell
 free:=by
  by_cases z:X.env.locals∈A
  .exact ql z
  .rw[j9 z];exact I.free
 freeC:=λx c e=>by
  by_cases z:c∈A
  .exact ql z
  .rw[j9 z];exact I.freeC x c e
 pin:=λp hp=>by
  rw[<-Ti]at hp;rcases Pk.mp hp with hp|hp
  .obtain⟨h1,h2,h3⟩:=I.pin p hp;refine⟨h1,?_,h3⟩;by_cases z:p.1∈A
   .exact ql z
   .rw[j9 z];exact h2
  .obtain⟨h1,h2⟩:=Cq hp;rcases hA _ h1 with ⟨xs,e⟩|⟨xs,ep,e⟩
   .refine⟨h2,ql h1,λz=>?_,λz=>?_,λv z=>?_⟩
    .rw[z,I.free]at e;cases e
    .rw[I.noFs z]at e;cases e
    .obtain⟨_,its,n,_,q⟩:=(show jo X.prog X.w H s.heap p.1 (.lst xs)from I.hok _ _ e)
     rw[h2]at q;rw[aB q]at z;cases z
   .refine⟨h2,ql h1,λz=>?_,λz=>?_,λv z=>?_⟩
    .rw[z,I.free]at e;cases e
    .rw[I.noFs z]at e;cases e
    .obtain⟨_,_,_,ob,es,q,_,qd,_⟩:=(show jo X.prog X.w H s.heap p.1 (.dI xs ep)from I.hok _ _ e)
     rw[h2]at q;rw[aB q,qd]at z;cases z
 hok:=λa o e=>by
  obtain⟨n,e⟩:=of_del e;refine jo.stay (I.hok a o e) (λb u _ q=>q) (λb q=>?_) (λb xs q=>?_) (λb _ _ q=>?_)
  .rw[j9];exact q;intro z;rcases hA b z with ⟨ys,e'⟩|⟨ys,ep,e'⟩<;>(rw[q]at e';cases e')
  .rw[j9];exact q;intro z;rcases hA b z with ⟨ys,e'⟩|⟨ys,ep,e'⟩<;>(rw[q]at e';cases e')
  .rw[j9];exact q;intro z;rcases hA b z with ⟨ys,e'⟩|⟨ys,ep,e'⟩<;>(rw[q]at e';cases e')
 len:=I.len
theorem Inv.unhide(I0:Inv X pins σ H s)(hA:∀a∈A,Hd (H a))(I:Inv X (pins++V9 A s.heap) σ' F s') :
  (∀a∈A,F a=ae)/\Inv X pins σ' (mrg A H F) s':=by
 have pinned:∀a∈A,∃o,s.heap.get? a=a8 o/\s'.heap.get? a=a8 o/\F a=ae:=λa ha=>by
  have ob:∃o,s.heap.get? a=a8 o:=by
   rcases hA a ha with ⟨xs,e⟩|⟨xs,ep,e⟩
   .obtain⟨_,its,n,_,q⟩:=(show jo X.prog X.w H s.heap a (.lst xs)from I0.hok _ _ e)
    exact⟨_,q⟩
   .obtain⟨_,_,_,o,es,q,_⟩:=(show jo X.prog X.w H s.heap a (.dI xs ep)from I0.hok _ _ e)
    exact⟨_,q⟩
  obtain⟨o,q⟩:=ob;obtain⟨h1,h2,_⟩:=I.pin (a,_) (Xa _ (Xa _ (J7 ha q)));exact⟨_,q,h1,h2⟩
 have hF:∀a∈A,F a=ae:=λa ha=>let ⟨_,_,_,q⟩:=pinned a ha;q;have out:∀{b:ai}{o:HO},F b=a8 o->b∉A:=λ{b o} e z=>by rw[hF b z]at e;cases e
 refine⟨hF,?_⟩;exact{
  ok:=I.ok
  os:=I.os
  bare:=I.bare
  base:={
   keep:=I.base.keep
   slot:=I.base.slot
   free:=λb o e n hx=>by
    by_cases z:b∈A
    .rw[vz z];exact I0.base.free b o e n hx
    .rw[ji z];exact I.base.free b o e n hx
   there:=I.base.there
   tups:=λb xs e=>by
    have q:=I.base.tups b xs e
    rw[ji (out q)];exact q
   frzs:=λb o u e=>by
    have q:=I.base.frzs b o u e
    rw[ji (out q)];exact q
   tbls:=λb ps e=>by
    obtain⟨more,q⟩:=I.base.tbls b ps e
    exact⟨more,by rw[ji (out q)];exact q⟩ }
  loc:=I.loc
  cell:=I.cell
  free:=by
   by_cases z:X.env.locals∈A
   .rw[vz z];exact I0.free
   .rw[ji z];exact I.free
  freeC:=λx c e=>by
   by_cases z:c∈A
   .rw[vz z];exact I0.freeC x c e
   .rw[ji z];exact I.freeC x c e
  pin:=λp hp=>by
   obtain⟨h1,h2,h3⟩:=I.pin p (by rw[<-Ti];exact Xu _ hp)
   refine⟨h1,?_,h3⟩
   by_cases z:p.1∈A
   .rw[vz z];exact(I0.pin p hp).2.1
   .rw[ji z];exact h2
  hok:=λa o e=>by
   by_cases z:a∈A
   .rw[vz z]at e
    obtain⟨o',q1,q2,_⟩:=pinned a z
    rcases hA a z with ⟨xs,e'⟩|⟨xs,ep,e'⟩
    .rw[e']at e;cases e
     obtain⟨hl,its,n,r,q⟩:=(show jo X.prog X.w H s.heap a (.lst xs)from I0.hok _ _ e')
     rw[q]at q1;cases q1
     exact⟨hl,its,n,r,q2⟩
    .rw[e']at e;cases e
     obtain⟨z1,z2,z3,ob,es,q,z4⟩:=(show jo X.prog X.w H s.heap a (.dI xs ep)from I0.hok _ _ e')
     rw[q]at q1;cases q1
     exact⟨z1,z2,z3,_,es,q2,z4⟩
   .rw[ji z]at e
    refine jo.stay (I.hok a o e) (λb u _ q=>q) (λb q=>?_) (λb xs q=>?_) (λb _ _ q=>?_)
    .rw[ji (out q)];exact q
    .rw[ji (out q)];exact q
    .rw[ji (out q)];exact q
  len:=I.len }
end
def Jb(X:Cx)(e:ar):TE:=λσ H Q=>∀pins s,Inv X pins σ H s->ax (aC X.prog X.w) X.A (aE e X.env) (EP X pins σ Q) X.xe s
def Ff(X:Cx)(e:ar):TT:=λσ H Q=>∀pins s,Inv X pins σ H s->ax (aC X.prog X.w) X.A (fH e X.env (aE e X.env)) (TP X pins σ Q) X.xe s
def Y5(X:Cx)(es:List ar):TA:=λσ H Q=>∀pos pins s,Inv X pins σ H s->ax (aC X.prog X.w) X.A (iy (aR pos (ah es X.env))) (AP X pins σ Q) X.xe s
def Fg(X:Cx)(st:aN):TS:=λD σ H=>∀pins s,Inv X pins σ H s->ax (aC X.prog X.w) X.A (exec st X.env) (SP X pins D) X.xe s
def V2(X:Cx)(sts:List aN):TS:=λD σ H=>∀pins s,Inv X pins σ H s->ax (aC X.prog X.w) X.A (execs sts X.env) (SP X pins D) X.xe s
def Fj(X:Cx)(tg iter:ar):TI:=λσ H R=>∀pins s,Inv X pins σ H s ->
 ax (aC X.prog X.w) X.A (aE iter X.env) (λv s1=>ax (aC X.prog X.w) X.A (iB v) (PIE X pins σ tg R) X.xe s1) X.xe s
section
variable{X:Cx}{e tg:ar}{es:List ar}{st:aN}{sts:List aN}{σ:St}{H:Hp}
theorem peS:PE X e (Jb X e):=λpins s _ _ _ I h=>h pins s I
theorem ptS:PT X e (Ff X e):=λpins s _ _ _ I h=>h pins s I
theorem paS:PA X es (Y5 X es):=λpos pins s _ _ _ I h=>h pos pins s I
theorem psS:PS X st (Fg X st):=λpins s _ _ _ I h=>h pins s I
theorem Vj:PSs X sts (V2 X sts):=λpins s _ _ _ I h=>h pins s I
theorem piS:PI X tg e (Fj X tg e):=λpins s _ _ _ I h=>h pins s I
theorem PE.to{t:TE}(h:PE X e t){Q:VK}(q:t σ H Q):Jb X e σ H Q:=λpins s I=>h pins s σ H Q I q
theorem PT.to{t:TT}(h:PT X e t){Q:Bool->Hp->Prop}(q:t σ H Q):Ff X e σ H Q:=λpins s I=>h pins s σ H Q I q
theorem PA.to{t:TA}(h:PA X es t){Q:List V->Hp->Prop}(q:t σ H Q):Y5 X es σ H Q:=λpos pins s I=>h pos pins s σ H Q I q
theorem PS.to{t:TS}(h:PS X st t){D:Ends}(q:t D σ H):Fg X st D σ H:=λpins s I=>h pins s σ H D I q
theorem PSs.to{t:TS}(h:PSs X sts t){D:Ends}(q:t D σ H):V2 X sts D σ H:=λpins s I=>h pins s σ H D I q
theorem PI.to{t:TI}(h:PI X tg e t){R:It->Hp->Prop}(q:t σ H R):Fj X tg e σ H R:=λpins s I=>h pins s σ H R I q
theorem j2d{A:List ai}{Q Q':VK}(hA:∀a∈A,Hd (H a))(h:Jb X e σ (del H A) Q')(hq:∀v F,Q' v F->(∀a∈A,F a=ae)->Q v (mrg A H F)):Jb X e σ H Q :=
 λpins s I=>thn (h _ s (I.hide hA)) λv s' ⟨x,F,I',r,q⟩=>let ⟨n,I2⟩:=I.unhide hA I';⟨x,_,I2,r,hq x F q n⟩
theorem j2a{A:List ai}{Q Q':Bool->Hp->Prop}(hA:∀a∈A,Hd (H a))(h:Ff X e σ (del H A) Q')(hq:∀v F,Q' v F->(∀a∈A,F a=ae)->Q v (mrg A H F)):Ff X e σ H Q :=
 λpins s I=>thn (h _ s (I.hide hA)) λv s' ⟨F,I',q⟩=>let ⟨n,I2⟩:=I.unhide hA I';⟨_,I2,hq v F q n⟩
theorem j2c{A:List ai}{R R':It->Hp->Prop}(hA:∀a∈A,Hd (H a))(h:Fj X tg e σ (del H A) R')(hq:∀J F,R' J F->(∀a∈A,F a=ae)->R J (mrg A H F)):Fj X tg e σ H R :=
 λpins s I=>thn (h _ s (I.hide hA)) λv s' h1=>thn h1 λitv s2 ⟨it,fp,tn,J,F,e,I',T,t0,fk,q⟩=>by
  obtain⟨n,I2⟩:=I.unhide hA I';refine⟨it,fp,tn,J,_,e,I2,T,t0,λb hb=>?_,hq J F q n⟩;obtain⟨f0,f1,f2,f3,f4,f5⟩:=fk b hb;refine⟨?_,f1,f2,f3,f4,λp hp=>f5 p (by rw[<-Ti];exact Xu _ hp)⟩;by_cases z:b∈A
  .exfalso;have ob:∃o,s.heap.get? b=a8 o:=by
    rcases hA b z with ⟨xs,e⟩|⟨xs,ep,e⟩
    .obtain⟨_,its,n,_,q⟩:=(show jo X.prog X.w H s.heap b (.lst xs)from I.hok _ _ e)
     exact⟨_,q⟩
    .obtain⟨_,_,_,o,es,q,_⟩:=(show jo X.prog X.w H s.heap b (.dI xs ep)from I.hok _ _ e)
     exact⟨_,q⟩
   obtain⟨o,q⟩:=ob;exact f5 (b,o) (Xa _ (Xa _ (J7 z q))) rfl
  .rw[ji z];exact f0
end
inductive Sl where
 |un
 |val (d:D)
 |own (a:ai) (ds:List D)
 |raw (a:ai) (o:d7) (x:aq)
noncomputable abbrev Rho:=List Sl
noncomputable def Sl.addr:Sl->Option ai
 |.own a _=>a8 a
 |_=>ae
noncomputable def owns(ρ:Rho):List ai:=ρ.filterMap Sl.addr
theorem Q9{ρ:Rho}{i:Nat}{a:ai}{ds:List D}(h:ρ[i]?=a8 (.own a ds)):a∈owns ρ:=T9.mpr ⟨_,Xj h,rfl⟩
theorem V3{ρ:Rho}{a:ai}(h:a∈owns ρ):∃(i:Nat)(ds:List D),ρ[i]?=a8 (.own a ds):=by
 obtain⟨s,hs,e⟩:=T9.mp h;obtain⟨i,hi⟩:=List.mem_iff_getElem?.mp hs;cases s with
 |own b ds=>cases e;exact⟨i,ds,hi⟩
 |un=>cases e
 |val d=>cases e
 |raw b o x=>cases e
theorem jn(s:Sl)(ρ:Rho):owns (s::ρ)=(match s.addr with|some a=>a::owns ρ|none=>owns ρ):=by unfold owns;rw[bZ];cases s.addr<;>rfl
theorem jg{s:Sl}(hs:s.addr=ae):∀{ρ:Rho}{i:Nat},(owns (ρ.set i s)).Sublist (owns ρ)
 |[],_=>List.Sublist.refl _
 |x::r,0=>by
  rw[Xw,jn,jn,hs];cases x.addr with
  |none=>exact List.Sublist.refl _
  |some a=>exact List.sublist_cons_self _ _
 |x::r,i+1=>by
  rw[Xx,jn,jn];have ih:=jg hs (ρ:=r) (i:=i);cases x.addr with
  |none=>exact ih
  |some a=>exact ih.cons_cons a
theorem Vk{a:ai}{ds ds':List D}:∀{ρ:Rho}{i:Nat},ρ[i]?=a8 (.own a ds)->owns (ρ.set i (.own a ds'))=owns ρ
 |[],_,h=>by simp at h
 |x::r,0,h=>by simp at h;subst h;rw[Xw,jn,jn];rfl
 |x::r,i+1,h=>by simp at h;rw[Xx,jn,jn,Vk h]
theorem Mx{s:Sl}(hs:s.addr=ae):∀{ρ:Rho}{i:Nat},(∀a l,ρ[i]?≠a8 (.own a l))->owns (ρ.set i s)=owns ρ
 |[],_,_=>rfl
 |x::r,0,h=>by
  rw[Xw,jn,jn,hs];cases x with
  |own a l=>exact absurd rfl (h a l)
  |un=>rfl
  |val d=>rfl
  |raw a o x=>rfl
 |x::r,i+1,h=>by rw[Xx,jn,jn,Mx hs (λa l=>by simpa using h a l)]
theorem Jc{a:ai}{ds:List D}:∀{ρ:Rho}{i:Nat},(owns ρ).Nodup->a∉owns ρ->(owns (ρ.set i (.own a ds))).Nodup/\∀b∈owns (ρ.set i (.own a ds)),b=a\/b∈owns ρ
 |[],_,n,_=>⟨n,λb hb=>.inr hb⟩
 |x::r,0,n,h=>by
  rw[Xw,jn];rw[jn]at n h;have e:(Sl.own a ds).addr=a8 a:=rfl;rw[e];cases q:x.addr with
  |none =>rw[q]at n h;exact⟨Xn.mpr ⟨h,n⟩,λb hb=>(xu.mp hb).elim .inl λz=>.inr (by rw[jn,q];exact z)⟩
  |some c =>rw[q]at n h;exact⟨Xn.mpr ⟨λz=>h (xm _ z),(Xn.mp n).2⟩,λb hb=>(xu.mp hb).elim .inl λz=>.inr (by rw[jn,q];exact xm _ z)⟩
 |x::r,i+1,n,h=>by
  rw[Xx,jn];rw[jn]at n h;cases q:x.addr with
  |none =>rw[q]at n h;obtain⟨i1,i2⟩:=Jc (ds:=ds) (i:=i) n h;exact⟨i1,λb hb=>(i2 b hb).elim .inl λz=>.inr (by rw[jn,q];exact z)⟩
  |some c =>
   rw[q]at n h;obtain⟨n1,n2⟩:=Xn.mp n;obtain⟨i1,i2⟩:=Jc (ds:=ds) (i:=i) n2 (λz=>h (xm _ z));refine⟨Xn.mpr ⟨λz=>?_,i1⟩,λb hb=>?_⟩
   .rcases i2 c z with e|z
    .subst e;exact h (X3 ..)
    .exact n1 z
   .rcases xu.mp hb with e|z
    .exact .inr (by rw[jn,q];exact e▸X3 ..)
    .exact(i2 b z).elim .inl λz=>.inr (by rw[jn,q];exact xm _ z)
theorem Y7{a:ai}{l l':List D}:∀{ρ:Rho}{i j:Nat},(owns ρ).Nodup->ρ[i]?=a8 (.own a l)->ρ[j]?=a8 (.own a l')->i=j
 |[],i,_,_,h,_=>by simp at h
 |x::r,0,0,_,_,_=>rfl
 |x::r,0,j+1,n,h,h'=>by simp at h h';subst h;rw[jn]at n;exact absurd (Q9 h') (Xn.mp n).1
 |x::r,i+1,0,n,h,h'=>by simp at h h';subst h';rw[jn]at n;exact absurd (Q9 h) (Xn.mp n).1
 |x::r,i+1,j+1,n,h,h'=>by
  simp at h h';have n':(owns r).Nodup:=by
   rw[jn]at n;cases q:x.addr with
   |none=>rw[q]at n;exact n
   |some c=>rw[q]at n;exact(Xn.mp n).2
  rw[Y7 n' h h']
noncomputable def Vl:List aq:=["worst_cost_of_ask","least_numbers","whole_cost_of_ask","round_numbers"]
def TabOk(K:k7f)(H:Hp):Prop:=∀x∈Vl,∀c P,W.tabIn K x=a8 (c,P)->H P=a8 (.cod (za x))
section
variable{K:k7f}{H H':Hp}
theorem TabOk.mono(h:TabOk K H)(g:j0 H H'):TabOk K H':=λx hx c P e=>g _ _ (h x hx c P e)
theorem TabOk.upd{a:ai}{o u:HO}(h:TabOk K H)(e:H a=a8 u)(n:∀q,u≠.cod q):TabOk K (upd H a o):=λx hx c P z=>by have q:=h x hx c P z;rw[je];exact q;intro y;subst y;rw[e]at q;exact n _ (aB q)
theorem TabOk.del{A:List ai}(h:TabOk K H)(hA:∀a∈A,∃xs,H a=a8 (.lst xs)):TabOk K (del H A):=λx hx c P z=>by have q:=h x hx c P z;rw[j9];exact q;intro y;obtain⟨xs,e⟩:=hA _ y;rw[q]at e;cases e
end
noncomputable def rfN:aq:="@"
def Kh(K:k7f)(F:Hp)(a:ai)(o:d7)(x:aq):Prop:=x=rfN\/(F a=a8 (.frz o (.own a))/\W.nsIn K az x=a8 (a8 o.cls))
theorem Kh.mono{K:k7f}{F F':Hp}{a:ai}{o:d7}{x:aq}(h:Kh K F a o x)(g:j0 F F'):Kh K F' a o x:=h.elim .inl λh=>.inr ⟨g _ _ h.1,h.2⟩
structure Rep(K:k7f)(ρ:Rho)(σ:St)(H:Hp):Prop where
 len:σ.length=ρ.length
 val:∀(i:Nat)(d:D),ρ[i]?=a8 (.val d)->∃v,σ[i]?=a8 (a8 v)/\Enc K (del H (owns ρ)) d v
 own:∀(i:Nat)(a:ai)(ds:List D),ρ[i]?=a8 (.own a ds)->σ[i]?=a8 (a8 (.ref a))/\∃xs,H a=a8 (.lst xs)/\j4 K (del H (owns ρ)) ds xs
 nd:(owns ρ).Nodup
 raw:∀(i:Nat)(a:ai)(o:d7)(x:aq),ρ[i]?=a8 (.raw a o x)->σ[i]?=a8 (a8 (.ref a))/\Kh K (del H (owns ρ)) a o x
 tb:TabOk K H
section
variable{K:k7f}{ρ ρ':Rho}{σ:St}{H H':Hp}{i:Nat}{d:D}{v:V}{a:ai}{ds ds':List D}{xs:List V}
theorem Rep.owned(R:Rep K ρ σ H):∀a∈owns ρ,∃xs,H a=a8 (.lst xs):=λa h=>by obtain⟨i,ds,e⟩:=V3 h;obtain⟨_,xs,q,_⟩:=R.own i a ds e;exact⟨xs,q⟩
theorem Rep.fresh(R:Rep K ρ σ H)(h:H a=ae):a∉owns ρ:=λz=>by obtain⟨xs,e⟩:=R.owned a z;rw[h]at e;cases e
theorem Rep.grow(R:Rep K ρ σ H)(g:j0 H H'):Rep K ρ σ H' :=
 ⟨R.len,λi d e=>let ⟨v,q,h⟩:=R.val i d e;⟨v,q,h.mono (jd g)⟩,λi a ds e=>let ⟨q,xs,h,l⟩:=R.own i a ds e;⟨q,xs,g _ _ h,l.mono (jd g)⟩,R.nd,λi a o x e=>let ⟨q,h⟩:=R.raw i a o x e;⟨q,h.mono (jd g)⟩,R.tb.mono g⟩
theorem getElem?_set_of{α:Type}{l:List α}{i j:Nat}{x y:α}(h:(l.set i x)[j]?=a8 y):(i=j/\y=x/\i<l.length)\/(i≠j/\l[j]?=a8 y):=by
 rw[dh]at h;split at h
 .rename_i e;subst e;split at h
  .rename_i z;cases h;exact .inl ⟨rfl,rfl,z⟩
  .cases h
 .rename_i e;exact .inr ⟨e,h⟩
theorem Jq{α:Type}{l:List α}{i:Nat}{x:α}(h:i<l.length):(l.set i x)[i]?=a8 x:=by simp[h]
theorem qb{α:Type}{l:List α}{i j:Nat}{x:α}(h:i≠j):(l.set i x)[j]?=l[j]?:=by simp[h]
theorem Rep.set_val(R:Rep K ρ σ H)(e:Enc K (del H (owns ρ)) d v):Rep K (ρ.set i (.val d)) (σ.set i (a8 v)) H:=by
 have sub:(owns (ρ.set i (.val d))).Sublist (owns ρ):=jg rfl;have g:j0 (del H (owns ρ)) (del H (owns (ρ.set i (.val d)))):=vo λb hb=>sub.subset hb;refine⟨by simp[R.len],λj d' h=>?_,λj a ds h=>?_,sub.nodup R.nd,λj a o x h=>?_,R.tb⟩
 .rcases getElem?_set_of h with ⟨rfl,z,hl⟩|⟨n,h⟩
  .cases z;exact⟨v,Jq (by rw[R.len];exact hl),e.mono g⟩
  .obtain⟨u,q,h⟩:=R.val j d' h;exact⟨u,by rw[qb n];exact q,h.mono g⟩
 .rcases getElem?_set_of h with ⟨rfl,z,_⟩|⟨n,h⟩
  .cases z
  .obtain⟨q,xs,h,l⟩:=R.own j a ds h;exact⟨by rw[qb n];exact q,xs,h,l.mono g⟩
 .rcases getElem?_set_of h with ⟨rfl,z,_⟩|⟨n,h⟩
  .cases z
  .obtain⟨q,h⟩:=R.raw j a o x h;exact⟨by rw[qb n];exact q,h.mono g⟩
theorem Rep.set_un{v:Option V}(R:Rep K ρ σ H):Rep K (ρ.set i .un) (σ.set i v) H:=by
 have sub:(owns (ρ.set i .un)).Sublist (owns ρ):=jg rfl;have g:j0 (del H (owns ρ)) (del H (owns (ρ.set i .un))):=vo λb hb=>sub.subset hb;refine⟨by simp[R.len],λj d' h=>?_,λj a ds h=>?_,sub.nodup R.nd,λj a o x h=>?_,R.tb⟩
 .rcases getElem?_set_of h with ⟨rfl,z,hl⟩|⟨n,h⟩
  .cases z
  .obtain⟨u,q,h⟩:=R.val j d' h;exact⟨u,by rw[qb n];exact q,h.mono g⟩
 .rcases getElem?_set_of h with ⟨rfl,z,_⟩|⟨n,h⟩
  .cases z
  .obtain⟨q,xs,h,l⟩:=R.own j a ds h;exact⟨by rw[qb n];exact q,xs,h,l.mono g⟩
 .rcases getElem?_set_of h with ⟨rfl,z,_⟩|⟨n,h⟩
  .cases z
  .obtain⟨q,h⟩:=R.raw j a o x h;exact⟨by rw[qb n];exact q,h.mono g⟩
theorem Rep.set_own(R:Rep K ρ σ H)(g:j0 H H')(ha:H a=ae)(e:H' a=a8 (.lst xs))(l:j4 K (del H' (a::owns ρ)) ds xs):Rep K (ρ.set i (.own a ds)) (σ.set i (a8 (.ref a))) H':=by
 have na:=R.fresh ha;obtain⟨nd,sub⟩:=Jc (ds:=ds) (i:=i) R.nd na;have g1:j0 (del H' (a::owns ρ)) (del H' (owns (ρ.set i (.own a ds)))):=vo λb hb=>by
  rcases sub b hb with e|z
  .exact e▸X3 ..
  .exact xm _ z
 have g2:j0 (del H (owns ρ)) (del H' (a::owns ρ)):=λb o q=>by
  obtain⟨n,q⟩:=of_del q;rw[j9];exact g b o q;intro z;rcases xu.mp z with e|z
  .subst e;rw[ha]at q;cases q
  .exact n z
 refine⟨by simp[R.len],λj d' h=>?_,λj b ds' h=>?_,nd,λj b o x h=>?_,R.tb.mono g⟩
 .rcases getElem?_set_of h with ⟨rfl,z,hl⟩|⟨n,h⟩
  .cases z
  .obtain⟨u,q,h⟩:=R.val j d' h;exact⟨u,by rw[qb n];exact q,h.mono (g2.trans g1)⟩
 .rcases getElem?_set_of h with ⟨rfl,z,hl⟩|⟨n,h⟩
  .cases z;exact⟨Jq (by rw[R.len];exact hl),xs,e,l.mono g1⟩
  .obtain⟨q,ys,h,l⟩:=R.own j b ds' h;exact⟨by rw[qb n];exact q,ys,g _ _ h,l.mono (g2.trans g1)⟩
 .rcases getElem?_set_of h with ⟨rfl,z,hl⟩|⟨n,h⟩
  .cases z
  .obtain⟨q,h⟩:=R.raw j b o x h;exact⟨by rw[qb n];exact q,h.mono (g2.trans g1)⟩
theorem Rep.upd_own(R:Rep K ρ σ H)(h:ρ[i]?=a8 (.own a ds))(l:j4 K (del H (owns ρ)) ds' xs):Rep K (ρ.set i (.own a ds')) σ (upd H a (.lst xs)):=by
 have eo:owns (ρ.set i (.own a ds'))=owns ρ:=Vk h;have ed:del (upd H a (.lst xs)) (owns ρ)=del H (owns ρ):=Zw (Q9 h);refine⟨by simp[R.len],λj d' q=>?_,λj b l' q=>?_,by rw[eo];exact R.nd,λj b o x q=>?_,let ⟨_,_,z,_⟩:=R.own i a ds h;R.tb.upd z λ_ y=>by cases y⟩
 .rw[eo,ed];rcases getElem?_set_of q with ⟨_,z,_⟩|⟨n,q⟩
  .cases z
  .exact R.val j d' q
 .rw[eo,ed];rcases getElem?_set_of q with ⟨rfl,z,_⟩|⟨n,q'⟩
  .cases z;exact⟨(R.own i a ds h).1,xs,jb,l⟩
  .obtain⟨z,ys,y,l''⟩:=R.own j b l' q';refine⟨z,ys,?_,l''⟩;have nb:b≠a:=λe=>n (Y7 R.nd h (e▸q'));rw[je nb];exact y
 .rw[eo,ed];rcases getElem?_set_of q with ⟨_,z,_⟩|⟨n,q⟩
  .cases z
  .exact R.raw j b o x q
theorem Rep.freeze(R:Rep K ρ σ H)(h:ρ[i]?=a8 (.own a ds)):Rep K (ρ.set i (.val (.lst ds))) σ H:=by
 obtain⟨hs,xs,hx,l⟩:=R.own i a ds h;have sub:(owns (ρ.set i (.val (.lst ds)))).Sublist (owns ρ):=jg rfl;have g:j0 (del H (owns ρ)) (del H (owns (ρ.set i (.val (.lst ds))))):=vo λb hb=>sub.subset hb;have na:a∉owns (ρ.set i (.val (.lst ds))):=λz=>by
  obtain⟨j,l',q⟩:=V3 z;rcases getElem?_set_of q with ⟨_,z,_⟩|⟨n,q⟩
  .cases z
  .exact n (Y7 R.nd h q)
 refine⟨by simp[R.len],λj d' q=>?_,λj b l' q=>?_,sub.nodup R.nd,λj b o x q=>?_,R.tb⟩
 .rcases getElem?_set_of q with ⟨rfl,z,_⟩|⟨n,q⟩
  .cases z;exact⟨_,hs,a,xs,rfl,.inl (.inl (by rw[j9 na];exact hx)),l.mono g⟩
  .obtain⟨u,q,h⟩:=R.val j d' q;exact⟨u,q,h.mono g⟩
 .rcases getElem?_set_of q with ⟨rfl,z,_⟩|⟨n,q⟩
  .cases z
  .obtain⟨q,ys,h,l⟩:=R.own j b l' q;exact⟨q,ys,h,l.mono g⟩
 .rcases getElem?_set_of q with ⟨_,z,_⟩|⟨n,q⟩
  .cases z
  .obtain⟨q,h⟩:=R.raw j b o x q;exact⟨q,h.mono g⟩
end
def DE(X:Cx)(ρ:Rho)(e:ar)(d:D):Prop:=∀σ H Q,Rep X.K ρ σ H->(∀v H',j0 H H'->Enc X.K (del H' (owns ρ)) d v->Q v H')->Jb X e σ H Q
def DT(X:Cx)(ρ:Rho)(e:ar)(d:D):Prop:=∀σ H Q,Rep X.K ρ σ H->(∀v H',j0 H H'->Enc X.K H' d v->Q v H')->Jb X e σ H Q
def DO(X:Cx)(ρ:Rho)(e:ar)(ds:List D):Prop:=∀σ H Q,Rep X.K ρ σ H->(∀a xs H',j0 H H'->H a=ae->H' a=a8 (.lst xs)->j4 X.K (del H' (a::owns ρ)) ds xs->Q (.ref a) H')->Jb X e σ H Q
def DL(X:Cx)(ρ:Rho)(e:ar)(ds:List D):Prop:=∀σ H Q,Rep X.K ρ σ H->(∀a xs H',j0 H H'->H' a=a8 (.lst xs)->j4 X.K (del H' (owns ρ)) ds xs->Q (.ref a) H')->Jb X e σ H Q
def DB(X:Cx)(ρ:Rho)(e:ar)(b:Bool):Prop:=∀σ H Q,Rep X.K ρ σ H->(∀H',j0 H H'->Q b H')->Ff X e σ H Q
def DA(X:Cx)(ρ:Rho)(es:List ar)(ds:List D):Prop:=∀σ H Q,Rep X.K ρ σ H->(∀vs H',j0 H H'->j4 X.K (del H' (owns ρ)) ds vs->Q vs H')->Y5 X es σ H Q
def DTA(X:Cx)(ρ:Rho)(es:List ar)(ds:List D):Prop:=∀σ H Q,Rep X.K ρ σ H->(∀vs H',j0 H H'->j4 X.K H' ds vs->Q vs H')->Y5 X es σ H Q
def j5x(X:Cx)(e:ar):TT:=λσ H Q=>∀whole pins s,Inv X pins σ H s->ax (aC X.prog X.w) X.A (fH e X.env whole) (TP X pins σ Q) X.xe s
theorem pwS{X:Cx}{e:ar}:PW X e (j5x X e):=λwhole pins s _ _ _ I h=>h whole pins s I
theorem PW.to{X:Cx}{e:ar}{t:TT}{σ:St}{H:Hp}(h:PW X e t){Q:Bool->Hp->Prop}(q:t σ H Q):j5x X e σ H Q:=λwhole pins s I=>h whole pins s σ H Q I q
def DW(X:Cx)(ρ:Rho)(e:ar)(b:Bool):Prop:=∀σ H Q,Rep X.K ρ σ H->(∀H',j0 H H'->Q b H')->j5x X e σ H Q
mutual
noncomputable def Qi:D->Bool
 |.lst _=>a9
 |.dct _ _=>a9
 |.sct _=>a9
 |.fn _ _=>a9
 |.tup ds=>qe ds
 |_=>aa
noncomputable def qe:List D->Bool
 |[]=>aa
 |d::ds=>Qi d&&qe ds
end
mutual
theorem Enc.hide{K:k7f}{H:Hp}{A:List ai}(hA:∀a∈A,Hd (H a)):∀{d:D}{v:V},Qi d=aa->Enc K H d v->Enc K (del H A) d v
 |.non,_,_,h=>h
 |.bl _,_,_,h=>h
 |.int _,_,_,h=>h
 |.str _,_,_,h=>h
 |.lst _,_,n,_=>by cases n
 |.dct _ _,_,n,_=>by cases n
 |.sct _,_,n,_=>by cases n
 |.fn _ _,_,n,_=>by cases n
 |.tup ds,_,n,⟨a,xs,e,q,l⟩=>by
  refine⟨a,xs,e,?_,j4.hide hA (by simpa [Qi]using n) l⟩;have out:∀{o:HO},H a=a8 o->(∀ys,o≠.lst ys)->(∀ys ep,o≠.dI ys ep)->del H A a=a8 o:=λ{o} h z z2=>by
   rw[j9];exact h;intro y;rcases hA a y with ⟨ys,e'⟩|⟨ys,ep,e'⟩
   .rw[h]at e';cases e';exact z ys rfl
   .rw[h]at e';cases e';exact z2 ys ep rfl
  rcases q with (q|⟨o,q⟩)|q
  .exact .inl (.inl (out q (λ_ z=>by cases z) λ_ _ z=>by cases z))
  .exact .inl (.inr ⟨o,out q (λ_ z=>by cases z) λ_ _ z=>by cases z⟩)
  .exact .inr q
theorem j4.hide{K:k7f}{H:Hp}{A:List ai}(hA:∀a∈A,Hd (H a)):∀{ds:List D}{xs:List V},qe ds=aa->j4 K H ds xs->j4 K (del H A) ds xs
 |[],_,_,h=>h
 |d::ds,_,n,⟨x,r,e,h,l⟩=>by
  have n':Qi d=aa/\qe ds=aa:=by simpa [qe]using n
  exact⟨x,r,e,Enc.hide hA n'.1 h,j4.hide hA n'.2 l⟩
end
section
variable{X:Cx}{ρ:Rho}{e a b c:ar}{es:List ar}{d da db:D}{ds ds':List D}{i j:Int}{pos:aM}{k:Nat}{x:aq}
theorem DE.toT(h:DE X ρ e d):DT X ρ e d:=λσ H Q R q=>h σ H Q R λv H' g l=>q v H' g (l.mono jm)
theorem DT.toE(h:DT X ρ e d)(n:Qi d=aa:=by rfl):DE X ρ e d:=λσ H Q R q=>h σ H Q R λv H' g l=>q v H' g (l.hide (λa ha=>.inl ((R.grow g).owned a ha)) n)
theorem DO.toL(h:DO X ρ e ds):DL X ρ e ds:=λσ H Q R q=>h σ H Q R λa xs H' g n m l=>q a xs H' g m (l.mono (vo λb hb=>xm _ hb))
theorem DO.toE(h:DO X ρ e ds):DE X ρ e (.lst ds):=λσ H Q R q=>h σ H Q R λa xs H' g n m l =>q _ H' g ⟨a,xs,rfl,.inl (.inl (by rw[j9 (R.fresh n)];exact m)),l.mono (vo λb hb=>xm _ hb)⟩
theorem DL.toT(h:DL X ρ e ds):DT X ρ e (.lst ds):=λσ H Q R q=>h σ H Q R λa xs H' g m l=>q _ H' g ⟨a,xs,rfl,.inl (.inl m),l.mono jm⟩
theorem DW.toB{k:Bool}(h:DW X ρ e k):DB X ρ e k:=λσ H Q R q pins s I=>h σ H Q R q _ pins s I
theorem DE.eq(h:DE X ρ e d){d':D}(q:d=d'):DE X ρ e d':=q▸h
theorem DB.eq{b b':Bool}(h:DB X ρ e b)(q:b=b'):DB X ρ e b':=q▸h
end
section
variable{X:Cx}{ρ:Rho}{e a b c:ar}{es:List ar}{d da db:D}{ds ds':List D}{i j:Int}{pos p:aM}{k:Nat}{x:aq}
theorem DE.var(k:Nat)(h:ρ[k]?=a8 (.val d))(hN:X.N[k]?=a8 x:=by rfl)(hv:Vis X.env.scope x:=by first|exact aV rfl|exact bP (aV rfl)|exact bP (bP rfl))
  (hd:(x==k7j)=a9:=by decide) (hcd:(x==k7k)=a9:=by decide):DE X ρ (.Name x pos) d:=λσ H Q R q=>by
 obtain⟨v,hs,en⟩:=R.val k d h;exact(Jr hN hv hd hcd).to ⟨v,hs,q v H (j0.refl H) en⟩
theorem DL.var(k:Nat){l:ai}(h:ρ[k]?=a8 (.own l ds))(hN:X.N[k]?=a8 x:=by rfl)(hv:Vis X.env.scope x:=by first|exact aV rfl|exact bP (aV rfl)|exact bP (bP rfl))
  (hd:(x==k7j)=a9:=by decide) (hcd:(x==k7k)=a9:=by decide):DL X ρ (.Name x pos) ds:=λσ H Q R q=>by
 obtain⟨hs,xs,m,en⟩:=R.own k l ds h;exact(Jr hN hv hd hcd).to ⟨_,hs,q l xs H (j0.refl H) m en⟩
theorem DE.glob {u:aj} {v:V} (hg:Gl X x) (hm:X.mg x=a8 u) (r:RelV v u) (h:∀H,Enc X.K H d v) (hd:(x==k7j)=a9:=by decide):DE X ρ (.Name x pos) d :=
 λσ H Q R q=>(ja0 hg hm r hd).to (q v H (j0.refl H) (h _))
theorem DE.int{i:Int}{n:Nat}{pos:aM}:DE X ρ (.Constant (.int i) n pos) (.int i):=λσ H Q R q=>Iv.to (q _ H (j0.refl H) rfl)
theorem DE.bl{b:Bool}{n:Nat}:DE X ρ (.Constant (.bool b) n pos) (.bl b):=λσ H Q R q=>jgj.to (q _ H (j0.refl H) rfl)
theorem DE.non{n:Nat}:DE X ρ (.Constant .none n pos) .non:=λσ H Q R q=>j43.to (q _ H (j0.refl H) rfl)
theorem DE.str{y:aq}{n:Nat}:DE X ρ (.Constant (.str y) n pos) (.str y):=λσ H Q R q=>j41.to (q _ H (j0.refl H) rfl)
theorem DE.arI0{op:iV}{g:Int->Int->Int}(ho:OpR X (aY op) (rI0 λi j=>.int (g i j)))(ha:DT X ρ a (.int i))(hb:DT X ρ b (.int j)):DE X ρ (.BinOp a op b pos) (.int (g i j)):=λσ H Q R q =>(Yq ho peS peS).to (ha σ H _ R λv H1 g1 e1=>hb σ H1 _ (R.grow g1) λu H2 g2 e2=>⟨i,j,e1,e2,q _ H2 (g1.trans g2) rfl⟩)
theorem DE.arI{op:iV}{C:Int->Int->Prop}{g:Int->Int->Int}(ho:OpR X (aY op) (rI C λi j=>.int (g i j)))(ha:DT X ρ a (.int i))(hb:DT X ρ b (.int j))(hC:C i j):DE X ρ (.BinOp a op b pos) (.int (g i j)):=λσ H Q R q =>(Yq ho peS peS).to (ha σ H _ R λv H1 g1 e1=>hb σ H1 _ (R.grow g1) λu H2 g2 e2=>⟨i,j,e1,e2,hC,q _ H2 (g1.trans g2) rfl⟩)
theorem DE.add(ha:DT X ρ a (.int i))(hb:DT X ρ b (.int j)):DE X ρ (.BinOp a .Add b pos) (.int (i+j)):=DE.arI0 jd2 ha hb
theorem DE.sub(ha:DT X ρ a (.int i))(hb:DT X ρ b (.int j)):DE X ρ (.BinOp a .Sub b pos) (.int (i-j)):=DE.arI0 jcu ha hb
theorem DE.mul(ha:DT X ρ a (.int i))(hb:DT X ρ b (.int j))(h:j3f i j):DE X ρ (.BinOp a .Mult b pos) (.int (i*j)):=DE.arI jcz ha hb h
theorem DE.mod(ha:DT X ρ a (.int i))(hb:DT X ρ b (.int j))(h:0<j):DE X ρ (.BinOp a .Mod b pos) (.int (i%j)):=DE.arI jd0 ha hb h
theorem DE.pow(ha:DT X ρ a (.int i))(hb:DT X ρ b (.int j))(h:j3e i j):DE X ρ (.BinOp a .Pow b pos) (.int (i^j.toNat)):=DE.arI jcy ha hb h
theorem DE.shl(ha:DT X ρ a (.int i))(hb:DT X ρ b (.int j))(h:j3e i j):DE X ρ (.BinOp a .LShift b pos) (.int (i*2^j.toNat)):=DE.arI (g:=λi j=>i*2^j.toNat) jcw ha hb h
theorem DE.neg(ha:DT X ρ a (.int i)):DE X ρ (.UnaryOp .USub a pos) (.int (-i)):=λσ H Q R q =>(jgh jbq peS).to (ha σ H _ R λv H1 g1 e1=>⟨i,e1,q _ H1 g1 rfl⟩)
theorem DE.cmpI{op:gy}{g:Int->Int->Bool}(ho:OpR X (aT op) (rI0 λi j=>.bl (g i j)))(hm:aH op b=a9)(ha:DT X ρ a (.int i))(hb:DT X ρ b (.int j)):DE X ρ (.Compare a [op] [b] pos) (.bl (g i j)):=λσ H Q R q =>(J3 ho peS peS hm).to (ha σ H _ R λv H1 g1 e1=>hb σ H1 _ (R.grow g1) λu H2 g2 e2=>⟨i,j,e1,e2,q _ H2 (g1.trans g2) rfl⟩)
theorem DB.cmpI{op:gy}{g:Int->Int->Bool}(ho:OpR X (aT op) (rI0 λi j=>.bl (g i j)))(hm:aH op b=a9)(ha:DT X ρ a (.int i))(hb:DT X ρ b (.int j)):DB X ρ (.Compare a [op] [b] pos) (g i j):=λσ H Q R q =>(J2 ho peS peS hm).to (ha σ H _ R λv H1 g1 e1=>hb σ H1 _ (R.grow g1) λu H2 g2 e2=>⟨i,j,e1,e2,_,rfl,q H2 (g1.trans g2)⟩)
theorem DB.lt(ha:DT X ρ a (.int i))(hb:DT X ρ b (.int j)):DB X ρ (.Compare a [.Lt] [b] pos) (decide (i<j)):=DB.cmpI j89 (qz _) ha hb
theorem DB.le(ha:DT X ρ a (.int i))(hb:DT X ρ b (.int j)):DB X ρ (.Compare a [.LtE] [b] pos) (decide (i<=j)):=DB.cmpI j8a (qz _) ha hb
theorem DB.gt(ha:DT X ρ a (.int i))(hb:DT X ρ b (.int j)):DB X ρ (.Compare a [.Gt] [b] pos) (decide (j<i)):=DB.cmpI j8b (qz _) ha hb
theorem DB.ge(ha:DT X ρ a (.int i))(hb:DT X ρ b (.int j)):DB X ρ (.Compare a [.GtE] [b] pos) (decide (j<=i)):=DB.cmpI j2l (qz _) ha hb
theorem DE.lt(ha:DT X ρ a (.int i))(hb:DT X ρ b (.int j)):DE X ρ (.Compare a [.Lt] [b] pos) (.bl (decide (i<j))):=DE.cmpI j89 (qz _) ha hb
theorem DE.le(ha:DT X ρ a (.int i))(hb:DT X ρ b (.int j)):DE X ρ (.Compare a [.LtE] [b] pos) (.bl (decide (i<=j))):=DE.cmpI j8a (qz _) ha hb
theorem DE.gt(ha:DT X ρ a (.int i))(hb:DT X ρ b (.int j)):DE X ρ (.Compare a [.Gt] [b] pos) (.bl (decide (j<i))):=DE.cmpI j8b (qz _) ha hb
theorem DE.ge(ha:DT X ρ a (.int i))(hb:DT X ρ b (.int j)):DE X ρ (.Compare a [.GtE] [b] pos) (.bl (decide (j<=i))):=DE.cmpI j2l (qz _) ha hb
noncomputable def D.sc:D->Option V
 |.non=>a8 .non
 |.bl b=>a8 (.bl b)
 |.int i=>a8 (.int i)
 |.str x=>a8 (.str x)
 |_=>ae
theorem D.sc_enc{K:k7f}{H:Hp}{d:D}{u v:V}(h:d.sc=a8 u)(q:Enc K H d v):v=u:=by cases d<;>simp[D.sc]at h<;>subst h<;>exact q
theorem DE.eqS{u v:V}(ha:DT X ρ a da)(hb:DT X ρ b db)(h1:da.sc=a8 u:=by rfl)(h2:db.sc=a8 v:=by rfl)(h:Fo u v=aa:=by rfl):DE X ρ (.Compare a [.Eq] [b] pos) (.bl (decide (u=v))):=λσ H Q R q =>
 (J3 j8c peS peS (qz _)).to (ha σ H _ R λx H1 g1 e1=>hb σ H1 _ (R.grow g1) λy H2 g2 e2=>by
  cases D.sc_enc h1 e1;cases D.sc_enc h2 e2;exact⟨h,q _ H2 (g1.trans g2) rfl⟩)
theorem DE.neS{u v:V}(ha:DT X ρ a da)(hb:DT X ρ b db)(h1:da.sc=a8 u:=by rfl)(h2:db.sc=a8 v:=by rfl)(h:Fo u v=aa:=by rfl):DE X ρ (.Compare a [.NotEq] [b] pos) (.bl (!decide (u=v))):=λσ H Q R q =>
 (J3 j88 peS peS (qz _)).to (ha σ H _ R λx H1 g1 e1=>hb σ H1 _ (R.grow g1) λy H2 g2 e2=>by
  cases D.sc_enc h1 e1;cases D.sc_enc h2 e2;exact⟨h,q _ H2 (g1.trans g2) rfl⟩)
theorem DB.eqS{u v:V}(ha:DT X ρ a da)(hb:DT X ρ b db)(h1:da.sc=a8 u:=by rfl)(h2:db.sc=a8 v:=by rfl)(h:Fo u v=aa:=by rfl):DB X ρ (.Compare a [.Eq] [b] pos) (decide (u=v)):=λσ H Q R q =>
 (J2 j8c peS peS (qz _)).to (ha σ H _ R λx H1 g1 e1=>hb σ H1 _ (R.grow g1) λy H2 g2 e2=>by
  cases D.sc_enc h1 e1;cases D.sc_enc h2 e2;exact⟨h,_,rfl,q H2 (g1.trans g2)⟩)
theorem DB.neS{u v:V}(ha:DT X ρ a da)(hb:DT X ρ b db)(h1:da.sc=a8 u:=by rfl)(h2:db.sc=a8 v:=by rfl)(h:Fo u v=aa:=by rfl):DB X ρ (.Compare a [.NotEq] [b] pos) (!decide (u=v)):=λσ H Q R q =>
 (J2 j88 peS peS (qz _)).to (ha σ H _ R λx H1 g1 e1=>hb σ H1 _ (R.grow g1) λy H2 g2 e2=>by
  cases D.sc_enc h1 e1;cases D.sc_enc h2 e2;exact⟨h,_,rfl,q H2 (g1.trans g2)⟩)
theorem W9(i j:Int):decide (V.int i=V.int j)=decide (i=j):=by
 by_cases h:i=j
 .subst h;simp
 .rw[decide_eq_false h,decide_eq_false (λz=>h (V.int.inj z))]
theorem j1o(i j:Bool):decide (V.bl i=V.bl j)=(i==j):=by cases i<;>cases j<;>rfl
theorem j03(i j:aq):decide (V.str i=V.str j)=decide (i=j):=by
 by_cases h:i=j
 .subst h;simp
 .rw[decide_eq_false h,decide_eq_false (λz=>h (V.str.inj z))]
theorem DE.eqI(ha:DT X ρ a (.int i))(hb:DT X ρ b (.int j)):DE X ρ (.Compare a [.Eq] [b] pos) (.bl (decide (i=j))):=(DE.eqS ha hb).eq (by rw[W9])
theorem DE.neI(ha:DT X ρ a (.int i))(hb:DT X ρ b (.int j)):DE X ρ (.Compare a [.NotEq] [b] pos) (.bl (!decide (i=j))):=(DE.neS ha hb).eq (by rw[W9])
theorem DB.eqI(ha:DT X ρ a (.int i))(hb:DT X ρ b (.int j)):DB X ρ (.Compare a [.Eq] [b] pos) (decide (i=j)):=(DB.eqS ha hb).eq (by rw[W9])
theorem DB.neI(ha:DT X ρ a (.int i))(hb:DT X ρ b (.int j)):DB X ρ (.Compare a [.NotEq] [b] pos) (!decide (i=j)):=(DB.neS ha hb).eq (by rw[W9])
theorem DE.neB{x y:Bool}(ha:DT X ρ a (.bl x))(hb:DT X ρ b (.bl y)):DE X ρ (.Compare a [.NotEq] [b] pos) (.bl (x != y)):=(DE.neS ha hb).eq (by rw[j1o];rfl)
theorem DB.neB{x y:Bool}(ha:DT X ρ a (.bl x))(hb:DT X ρ b (.bl y)):DB X ρ (.Compare a [.NotEq] [b] pos) (x != y):=(DB.neS ha hb).eq (by rw[j1o];rfl)
noncomputable def D.isNon:D->Bool
 |.non=>aa
 |_=>a9
theorem Ra{K:k7f}{H:Hp}{d:D}{v:V}(q:Enc K H d v):decide (v=V.non)=d.isNon:=by
 cases d with
 |non=>cases(show v=.non from q);rfl
 |bl b=>cases(show v=.bl b from q);rfl
 |int b=>cases(show v=.int b from q);rfl
 |str b=>cases(show v=.str b from q);rfl
 |tup l=>obtain⟨a,xs,e,_⟩:=q;subst e;rfl
 |lst l=>obtain⟨a,xs,e,_⟩:=q;subst e;rfl
 |dct ks l=>obtain⟨a,xs,ep,vs,e,_⟩:=q;subst e;rfl
 |sct k=>obtain⟨a,e,_⟩:=q;subst e;rfl
 |fn x l=>obtain⟨a,c,tx,cl,vs,e,_⟩:=q;subst e;rfl
theorem DE.isN{n:Nat}{p2:aM}(ha:DT X ρ a d):DE X ρ (.Compare a [.Is] [.Constant .none n p2] pos) (.bl d.isNon):=λσ H Q R q =>(jcq (j44 peS)).to (ha σ H _ R λx H1 g1 e1=>q _ H1 g1 (by rw[Ra e1];rfl))
theorem DB.isN{n:Nat}{p2:aM}(ha:DT X ρ a d):DB X ρ (.Compare a [.Is] [.Constant .none n p2] pos) d.isNon:=λσ H Q R q =>(jck (j44 peS)).to (ha σ H _ R λx H1 g1 e1=>⟨_,rfl,by rw[Ra e1];exact q H1 g1⟩)
theorem DB.val{k:Bool}(ha:DT X ρ a (.bl k))(he:∀whole,fH a X.env whole=(do let v <-whole;standAt a.pos;gL [v] (truthy v)):=by intro _;rfl):DB X ρ a k:=λσ H Q R q =>(jci peS he).to (ha σ H _ R λx H1 g1 e1=>⟨_,e1,q H1 g1⟩)
theorem DW.and1{k:Bool}(ha:DB X ρ a k):DW X ρ (.BoolOp .And [a] pos) k:=λσ H Q R q=>(j9u ptS).to (ha σ H Q R q)
theorem DW.or1{k:Bool}(ha:DB X ρ a k):DW X ρ (.BoolOp .Or [a] pos) k:=λσ H Q R q=>(jcg ptS).to (ha σ H Q R q)
theorem DW.and{k m:Bool}{rest:List ar}(ha:DB X ρ a k)(hb:k=aa->DW X ρ (.BoolOp .And (b::rest) pos) m):DW X ρ (.BoolOp .And (a::b::rest) pos) (k&&m):=λσ H Q R q =>
 (jch ptS pwS).to (ha σ H _ R λH1 g1=>by
  cases k with
  |false=>exact Dg (q H1 g1)
  |true=>exact Df (hb rfl σ H1 Q (R.grow g1) λH2 g2=>q H2 (g1.trans g2)))
theorem DW.or{k m:Bool}{rest:List ar}(ha:DB X ρ a k)(hb:k=a9->DW X ρ (.BoolOp .Or (b::rest) pos) m):DW X ρ (.BoolOp .Or (a::b::rest) pos) (k || m):=λσ H Q R q =>
 (jgf ptS pwS).to (ha σ H _ R λH1 g1=>by
  cases k with
  |true=>exact Df (q H1 g1)
  |false=>exact Dg (hb rfl σ H1 Q (R.grow g1) λH2 g2=>q H2 (g1.trans g2)))
theorem DB.not{k:Bool}(ha:DB X ρ a k):DB X ρ (.UnaryOp .Not a pos) (!k):=λσ H Q R q=>(jcj ptS).to (ha σ H _ R λH1 g1=>q H1 g1)
theorem DE.or{k m:Bool}{rest:List ar}(ha:DT X ρ a (.bl k))(hb:k=a9->DE X ρ (.BoolOp .Or (b::rest) pos) (.bl m)):DE X ρ (.BoolOp .Or (a::b::rest) pos) (.bl (k || m)):=λσ H Q R q =>
 (jgi peS peS).to (ha σ H _ R λx H1 g1 e1=>⟨k,e1,by
  cases k with
  |true=>exact Df (q _ H1 g1 rfl)
  |false=>exact Dg (hb rfl σ H1 Q (R.grow g1) λv H2 g2=>q v H2 (g1.trans g2))⟩)
theorem DE.ite{k:Bool}{d':D}(hc:DB X ρ c k)(ha:k=aa->DE X ρ a d)(hb:k=a9->DE X ρ b d'):DE X ρ (.IfExp c a b pos) (if k=aa then d else d'):=λσ H Q R q =>
 (Iw ptS peS peS).to (hc σ H _ R λH1 g1=>by
  cases k with
  |true=>exact Df (ha rfl σ H1 Q (R.grow g1) λv H2 g2 z=>q v H2 (g1.trans g2) (by rw[if_pos rfl];exact z))
  |false=>exact Dg (hb rfl σ H1 Q (R.grow g1) λv H2 g2 z=>q v H2 (g1.trans g2) (by rw[if_neg xf];exact z)))
theorem DA.nil:DA X ρ [] []:=λσ H Q R q=>jx.to (q [] H (j0.refl H) rfl)
theorem DA.cons(ha:DE X ρ a d)(hr:DA X ρ es ds)(hs:ah (a::es) X.env=(a9,aE a X.env)::ah es X.env:=by rfl):DA X ρ (a::es) (d::ds):=λσ H Q R q =>(jc peS paS hs).to (ha σ H _ R λv H1 g1 e1=>hr σ H1 _ (R.grow g1) λvs H2 g2 e2=>q _ H2 (g1.trans g2) ⟨v,vs,rfl,e1.mono (jd g2),e2⟩)
theorem DTA.nil:DTA X ρ [] []:=λσ H Q R q=>jx.to (q [] H (j0.refl H) rfl)
theorem DTA.cons(ha:DT X ρ a d)(hr:DTA X ρ es ds)(hs:ah (a::es) X.env=(a9,aE a X.env)::ah es X.env:=by rfl):DTA X ρ (a::es) (d::ds):=λσ H Q R q =>(jc peS paS hs).to (ha σ H _ R λv H1 g1 e1=>hr σ H1 _ (R.grow g1) λvs H2 g2 e2=>q _ H2 (g1.trans g2) ⟨v,vs,rfl,e1.mono g2,e2⟩)
theorem DE.tup{n:Nat}{x1}(h:DA X ρ es ds)(hl:ds.length<=av:=by simp only[X6,T3];decide):DE X ρ (.Tuple es x1 pos) (.tup ds):=λσ H Q R q =>(j40 paS).to (h σ H _ R λvs H1 g1 e1=>⟨by rw[e1.length];exact hl,λp hp=>q _ _ (g1.trans (j8 hp)) ⟨p,vs,rfl,.inl (.inl (by rw[j9 ((R.grow g1).fresh hp)];exact jb)),e1.mono (jd (j8 hp))⟩⟩)
theorem DO.lst(h:DA X ρ es ds)(hl:ds.length<=av:=by simp only[X6,T3];decide):DO X ρ (.List es pos) ds:=λσ H Q R q =>
 (jcp paS).to (h σ H _ R λvs H1 g1 e1=>⟨by rw[e1.length];exact hl,λp hp=>q p vs _ (g1.trans (j8 hp)) (g1.free hp) jb (e1.mono λb o z=>by
  obtain⟨n,z⟩:=of_del z
  rw[j9];exact j8 hp b o z
  intro y
  rcases xu.mp y with y|y
  .subst y;rw[hp]at z;cases z
  .exact n y)⟩)
theorem j4.atI{K:k7f}{H:Hp}{xs:List V}(h:j4 K H ds xs)(q:atI ds i=a8 d):∃x,L2.atI xs i=a8 x/\Enc K H d x:=by
 unfold L2.atI at q ⊢;rw[h.length];cases z:ixN ds.length i with
 |none=>rw[z]at q;cases q
 |some k =>rw[z]at q;exact h.get q
noncomputable def cutD(ds:List D)(lo hi:Option Int):List D:=(ds.drop (HT.sIx ds.length 0 lo)).take (HT.sIx ds.length ds.length hi-HT.sIx ds.length 0 lo)
theorem j4.cut{K:k7f}{H:Hp}{xs:List V}(h:j4 K H ds xs)(lo hi:Option Int):j4 K H (cutD ds lo hi) (Rr xs lo hi):=by unfold cutD Rr;rw[h.length];exact(h.drop _).take _
theorem W8{K:k7f}{H1:Hp}{A:List ai}{ds:List D}{xs:List V}{p:ai}{o:HO}(hp:H1 p=ae)(e1:j4 K (del H1 A) ds xs):j4 K (del (upd H1 p o) (p::A)) ds xs:=e1.mono λb o z=>by
 obtain⟨n,z⟩:=of_del z;rw[j9];exact j8 hp b o z;intro y;rcases xu.mp y with y|y
 .subst y;rw[hp]at z;cases z
 .exact n y
theorem DO.rep(ha:DL X ρ a ds)(hb:DT X ρ b (.int i))(h1:-(2^63)<=i)(h2:i<2^63)(hl:ds.length*i.toNat<=av):DO X ρ (.BinOp a .Mult b pos) (au i.toNat ds).flatten:=λσ H Q R q =>
 (Yq jcx peS peS).to (ha σ H _ R λl xs H1 g1 m1 e1=>hb σ H1 _ (R.grow g1) λu H2 g2 e2 =>
  ⟨l,i,xs,rfl,e2,g2 _ _ m1,h1,h2,by rw[e1.length];exact hl,λp hp=>q p _ _ ((g1.trans g2).trans (j8 hp)) ((g1.trans g2).free hp) jb (W8 hp ((e1.mono (jd g2)).rep _))⟩)
theorem DE.lenT (ha:DT X ρ a (.tup ds)) (hm:X.mg "len" = ae) (hg:Gl X "len":=by rfl) (hs:ah [a] X.env=[(a9,aE a X.env)]:=by rfl) {p2:aM}:DE X ρ (.Call (.Name "len" p2) [a] [] pos) (.int ds.length):=λσ H Q R q =>(v8 Yj hg hm cu (jc peS jx hs) (by decide) (by decide) hs).to (ha σ H _ R λv H1 g1 ⟨l,xs,e,sq,en⟩=>⟨l,xs,by rw[e],.inr sq,q _ H1 g1 (by rw[en.length];rfl)⟩)
theorem DE.lenL (ha:DT X ρ a (.lst ds)) (hm:X.mg "len" = ae) (hg:Gl X "len":=by rfl) (hs:ah [a] X.env=[(a9,aE a X.env)]:=by rfl) {p2:aM}:DE X ρ (.Call (.Name "len" p2) [a] [] pos) (.int ds.length):=λσ H Q R q =>(v8 Yj hg hm cu (jc peS jx hs) (by decide) (by decide) hs).to (ha σ H _ R λv H1 g1 ⟨l,xs,e,sq,en⟩=>⟨l,xs,by rw[e],.inl sq,q _ H1 g1 (by rw[en.length];rfl)⟩)
end
def framed(sp:Sp):Sp:=λvs H Q E=>∃A:List ai,(∀a∈A,∃xs,H a=a8 (.lst xs))/\sp vs (del H A) (λv F=>(∀a∈A,F a=ae)->Q v (mrg A H F)) E
theorem FnOk.framed{P:ay}{w:aD}{K:k7f}{mg:k7i}{base:aF}{k:Nat}{f:ai}{fd:aL}{ps:List aq}{sp:Sp}(F:FnOk P w K mg base CX0 k f fd ps sp) :
  FnOk P w K mg base CX0 k f fd ps (framed sp) where
 len:=λvs H Q E ⟨A,_,h⟩=>F.len vs _ _ _ h
 run:=by
  rintro A0 outer s H args us vs Q E hr e0 hb rv ⟨A,hA,h⟩;have nd:∀{b:ai},H b=ae->del H A b=ae:=λ{b} q=>by
   by_cases z:b∈A
   .exact ql z
   .rw[j9 z];exact q
  have out:∀{b:ai}{o:HO},H b=a8 o->(∀ys,o≠.lst ys)->del H A b=a8 o:=λ{b o} q z=>by rw[j9];exact q;intro y;obtain⟨ys,e'⟩:=hA b y;rw[q]at e';cases e';exact z ys rfl
  have e1:Env0 P w K mg base A0 outer s (del H A):=⟨e0.frames,e0.mod,λb o q=>⟨(e0.bs b o q).1,nd (e0.bs b o q).2⟩,e0.bsz,e0.funs,λb hb=>nd (e0.frf b hb),
   λa o q=>by
    obtain⟨_,q⟩:=of_del q
    exact jo.stay (e0.hok a o q) (λb u _ z=>z) (λb z=>out z λ_ y=>by cases y) (λb xs z=>out z λ_ y=>by cases y) (λb _ _ z=>out z λ_ y=>by cases y),e0.bare⟩
  refine cg (F.run A0 outer s (del H A) args us vs _ E hr e1 hb rv h) λr s' hq=>?_;cases r with
  |error e=>exact(show False from hq).elim
  |ok fl =>
   cases fl with
   |next=>exact(show False from hq).elim
   |brk=>exact(show False from hq).elim
   |cont=>exact(show False from hq).elim
   |ret u =>
    obtain⟨v,H',os,bare,un,hok',rel,q⟩:=(show CE outer P w (del H A) s _ u s' from hq)
    have kept:∀a∈A,∃o,s.heap.get? a=a8 o/\s'.heap.get? a=a8 o/\H' a=ae:=λa ha=>by
     obtain⟨xs,e⟩:=hA a ha;obtain⟨_,its,n,_,z⟩:=(show jo P w H s.heap a (.lst xs)from e0.hok _ _ e)
     have nf:a∉frs outer:=λy=>by rw[e0.frf a y]at e;cases e
     exact⟨_,z,un.keep a _ z (ql ha) nf (by simp),un.free a _ z (ql ha) (by simp)⟩
    have hF:∀a∈A,H' a=ae:=λa ha=>let ⟨_,_,_,z⟩:=kept a ha;z;have outF:∀{b:ai}{o:HO},H' b=a8 o->b∉A:=λ{b o} e z=>by rw[hF b z]at e;cases e
    refine⟨v,mrg A H H',os,bare,?_,λa o e=>?_,rel,q hF⟩
    .exact{
      keep:=λb o e n=>un.keep b o e (nd n)
      slot:=λb o e n=>un.slot b o e (nd n)
      free:=λb o e n hx=>by
       by_cases z:b∈A
       .rw[vz z];exact n
       .rw[ji z];exact un.free b o e (nd n) hx
      there:=un.there
      tups:=λb xs e=>by
       have z:=un.tups b xs (out e λ_ y=>by cases y)
       rw[ji (outF z)];exact z
      frzs:=λb o u e=>by
       have z:=un.frzs b o u (out e λ_ y=>by cases y)
       rw[ji (outF z)];exact z
      tbls:=λb ps e=>by
       obtain⟨more,z⟩:=un.tbls b ps (out e λ_ y=>by cases y)
       exact⟨more,by rw[ji (outF z)];exact z⟩ }
    .by_cases z:a∈A
     .rw[vz z]at e;obtain⟨xs,e'⟩:=hA a z;rw[e']at e;cases e;obtain⟨hl,its,n,r,y⟩:=(show jo P w H s.heap a (.lst xs)from e0.hok _ _ e')
      obtain⟨o',q1,q2,_⟩:=kept a z;rw[y]at q1;cases q1;exact⟨hl,its,n,r,q2⟩
     .rw[ji z]at e;refine jo.stay (hok' a o e) (λb u _ q=>q) (λb q=>?_) (λb xs q=>?_) (λb _ _ q=>?_)
      .rw[ji (outF q)];exact q
      .rw[ji (outF q)];exact q
      .rw[ji (outF q)];exact q
def spP(K:k7f)(S:List D->D->Prop):Sp:=λvs H Q _=>∃A ds d,TabOk K H/\(∀a∈A,∃xs,H a=a8 (.lst xs))/\j4 K (del H A) ds vs/\S ds d/\∀v H',j0 H H'->Enc K (del H' A) d v->Q v H'
def spF(K:k7f)(S:List D->List D->Prop):Sp:=λvs H Q _=>∃A ds l,TabOk K H/\(∀a∈A,∃xs,H a=a8 (.lst xs))/\j4 K (del H A) ds vs/\S ds l /\
 ∀a xs H',j0 H H'->H a=ae->H' a=a8 (.lst xs)->j4 K (del H' (a::A)) l xs->Q (.ref a) H'
def jij(K:k7f)(S:List D->D->Prop):Sp:=λvs H Q _=>∃ds d,TabOk K H/\j4 K H ds vs/\S ds d/\∀v H',j0 H H'->Enc K H' d v->Q v H'
def jim(K:k7f)(S:List D->List D->Prop):Sp:=λvs H Q _=>∃ds l,TabOk K H/\j4 K H ds vs/\S ds l/\∀a xs H',j0 H H'->H a=ae->H' a=a8 (.lst xs)->j4 K (del H' [a]) l xs->Q (.ref a) H'
section
variable{P:ay}{w:aD}{K:k7f}{mg:k7i}{base:aF}{k:Nat}{f:ai}{fd:aL}{ps:List aq}
theorem FnOk.toP{S:List D->D->Prop}(F:FnOk P w K mg base CX0 k f fd ps (jij K S)):FnOk P w K mg base CX0 k f fd ps (spP K S) :=
 F.framed.imp λvs H Q E ⟨A,ds,d,tb,hA,en,hS,q⟩=>⟨A,hA,ds,d,tb.del hA,en,hS,λv F g e hF=>q v _ (Oa g) (by rw[Zx hF];exact e)⟩
theorem FnOk.toF{S:List D->List D->Prop}(F:FnOk P w K mg base CX0 k f fd ps (jim K S)):FnOk P w K mg base CX0 k f fd ps (spF K S) :=
 F.framed.imp λvs H Q E ⟨A,ds,l,tb,hA,en,hS,q⟩=>⟨A,hA,ds,l,tb.del hA,en,hS,λa xs F g n e l' hF=>by
  have na:a∉A:=λz=>by rw[hF a z]at e;cases e
  refine q a xs _ (Oa g) (by rw[j9 na]at n;exact n) (by rw[ji na];exact e) (l'.mono λb o z=>?_)
  obtain⟨n1,z⟩:=of_del z
  have nb:b∉A:=λy=>by rw[hF b y]at z;cases z
  rw[j9,ji nb];exact z
  intro y
  rcases xu.mp y with y|y
  .exact n1 (by rw[y];exact xj.mpr rfl)
  .exact nb y⟩
end
noncomputable def jet:List aq:=["dearest_way","cost_on_whole","worst_table","worst_plan","foe_answer","whole_table","whole_plan","mean_price"]
noncomputable def kG(us ws:List aj):List aj:=match ws with
 |[w]=>us++[w]
 |_=>[]
noncomputable def kGV(vs zs:List V):List V:=match zs with
 |[z]=>vs++[z]
 |_=>[]
def Dfl(K:k7f)(x:aq)(fd:aL)(ps:List aq):Prop:=x∈jet->Binds K fd ps [.none]/\KBinds K fd ps ["prices"] kG kGV
structure Cal(X:Cx)(x:aq)(sp:Sp):Prop where
 ex:∃(k:Nat)(f:ai)(fd:aL)(ps:List aq),FnOk X.prog X.w X.K X.mg X.base CX0 k f fd ps sp/\Room (k+1) X.A/\X.mg x=a8 (.ref f)/\W.keepIn X.K (.ref f)=aa/\Binds X.K fd ps []/\Dfl X.K x fd ps
section
variable{X:Cx}{ρ:Rho}{e a:ar}{es:List ar}{d:D}{ds l:List D}{pos p:aM}{x:aq}
theorem DE.call{S:List D->D->Prop}(c:Cal X x (spP X.K S))(ha:DA X ρ (e::es) ds)(hS:S ds d)(hg:Gl X x:=by rfl)(hdb:(x==k7j)=a9:=by decide)
  (he:ah (e::es) X.env=(a9,aE e X.env)::ah es X.env:=by rfl) (hpl:(aR pos (ah es X.env)).any (·.1)=a9:=by rfl):DE X ρ (.Call (.Name x p) (e::es) [] pos) d:=λσ H Q R q=>by
 obtain⟨k,f,fd,ps,F,hr,hm,hk,hb,_⟩:=c.ex;refine(Vy F (hr.mono (Pu _)) hg hm hk hb .nil M7 paS hdb he hpl).to (ha σ H _ R λvs H1 g1 e1=>?_);show spP X.K S (vs++[]) H1 Q E0;rw[Xq];exact⟨owns ρ,ds,d,R.tb.mono g1,(R.grow g1).owned,e1,hS,λv H2 g2 z=>q v H2 (g1.trans g2) z⟩
theorem DT.call{S:List D->D->Prop}(c:Cal X x (spP X.K S))(ha:DTA X ρ (e::es) ds)(hS:S ds d)(hg:Gl X x:=by rfl)(hdb:(x==k7j)=a9:=by decide)
  (he:ah (e::es) X.env=(a9,aE e X.env)::ah es X.env:=by rfl) (hpl:(aR pos (ah es X.env)).any (·.1)=a9:=by rfl):DT X ρ (.Call (.Name x p) (e::es) [] pos) d:=λσ H Q R q=>by
 obtain⟨k,f,fd,ps,F,hr,hm,hk,hb,_⟩:=c.ex;refine(Vy F (hr.mono (Pu _)) hg hm hk hb .nil M7 paS hdb he hpl).to (ha σ H _ R λvs H1 g1 e1=>?_);show spP X.K S (vs++[]) H1 Q E0;rw[Xq];exact⟨[],ds,d,R.tb.mono g1,(λa h=>nomatch h),by rw[qg];exact e1,hS,λv H2 g2 z=>q v H2 (g1.trans g2) (by rw[qg]at z;exact z)⟩
theorem DO.call{S:List D->List D->Prop}(c:Cal X x (spF X.K S))(ha:DA X ρ (e::es) ds)(hS:S ds l)(hg:Gl X x:=by rfl)(hdb:(x==k7j)=a9:=by decide)
  (he:ah (e::es) X.env=(a9,aE e X.env)::ah es X.env:=by rfl) (hpl:(aR pos (ah es X.env)).any (·.1)=a9:=by rfl):DO X ρ (.Call (.Name x p) (e::es) [] pos) l:=λσ H Q R q=>by
 obtain⟨k,f,fd,ps,F,hr,hm,hk,hb,_⟩:=c.ex;refine(Vy F (hr.mono (Pu _)) hg hm hk hb .nil M7 paS hdb he hpl).to (ha σ H _ R λvs H1 g1 e1=>?_);show spF X.K S (vs++[]) H1 Q E0;rw[Xq];exact⟨owns ρ,ds,l,R.tb.mono g1,(R.grow g1).owned,e1,hS,λa xs H2 g2 n m z=>q a xs H2 (g1.trans g2) (g1.free n) m z⟩
end
inductive Rt where
 |val (d:D)
 |fresh (ds:List D)
noncomputable def Rt.d:Rt->D
 |.val d=>d
 |.fresh l=>.lst l
structure Po where
 nx:Rho->Prop
 rt:Rt->Prop
 bk:Rho->Prop:=λ_=>False
 ct:Rho->Prop:=λ_=>False
 ex:aq->Rho->Prop:=λ_ _=>False
structure FlQ(q:aj->Prop)(N:ai->Prop)(H:Hp)(h:aF)(e:ai)(C:aj):Prop where
 new:∀b,N b->b≠e
 free:H e=ae
 obj:∃(oe:d7)(vs:Array aj)(a0:aj),h.get? e=a8 oe/\oe.cls=C/\oe.data=.fields vs/\vs[0]?=a8 a0 /\
  (vs[1]?=a8 .none\/∃(T:ai)(oT:d7)(ts:Array aj)(fl:aj),vs[1]?=a8 (.ref T)/\T≠e/\h.get? T=a8 oT/\oT.data=.fields ts/\(ts[3]?=a8 fl/\q fl)/\H T=ae/\∀b,N b->b≠T)
def flN(v:aj):Prop:=v=.none
def flF(env:cT)(v:aj):Prop:=v=.none\/∃L,env.frame=a8 L/\v=gk L
abbrev Fl(N:ai->Prop)(H:Hp)(h:aF)(e:ai)(C:aj):Prop:=FlQ flN N H h e C
theorem FlQ.up{q q':aj->Prop}{N N':ai->Prop}{H:Hp}{h:aF}{e:ai}{C:aj}(F:FlQ q N H h e C)(hq:∀v,q v->q' v)(hN:∀b,N' b->N b):FlQ q' N' H h e C:=by refine⟨λb hb=>F.new b (hN b hb),F.free,?_⟩;obtain⟨oe,vs,a0,z1,z2,z3,z4,z5⟩:=F.obj;refine⟨oe,vs,a0,z1,z2,z3,z4,z5.imp id ?_⟩;rintro⟨T,oT,ts,fl,y1,y2,y3,y4,⟨y5,y6⟩,y7,y8⟩;exact⟨T,oT,ts,fl,y1,y2,y3,y4,⟨y5,hq _ y6⟩,y7,λb hb=>y8 b (hN b hb)⟩
def Old(X:Cx)(pins:k7h)(b:ai):Prop:=(∃o,X.s₀.heap.get? b=a8 o/\b∉X.ex)\/(∃p∈X.pn++pins,p.1=b)\/b=X.env.locals\/∃x,X.env.cells.lookup x=a8 b
def Ue(X:Cx)(σ:St)(H:Hp)(x:aq):Prop:=∀(pins:k7h) (H':Hp) (s':ao) (e:ai) (C:aj),Inv X pins σ H' s'->j0 H H'->X.mg x=a8 C->FlQ (flF X.env) (Old X pins) H' s'.heap e C->X.xe (.ref e) s'
theorem Ue.mono{X:Cx}{σ:St}{H H1:Hp}{x:aq}(h:Ue X σ H x)(g:j0 H H1):Ue X σ H1 x:=λpins H' s' e C I g'=>h pins H' s' e C I (g.trans g')
def Fr0(ρ ρ':Rho)(H H':Hp):Prop:=j0 (del H (owns ρ)) (del H' (owns ρ'))
def Dz(K:k7f)(ρ:Rho)(H H':Hp)(v:V):Rt->Prop
 |.val d=>j0 (del H (owns ρ)) H'/\Enc K H' d v
 |.fresh ds=>∃a xs,v=.ref a/\j0 (del H (owns ρ)) (del H' [a])/\H' a=a8 (.lst xs)/\j4 K (del H' [a]) ds xs
structure EndsOk(X:Cx)(ρ:Rho)(H:Hp)(P:Po)(E:Ends):Prop where
 nx:∀ρ' σ' H',P.nx ρ'->Rep X.K ρ' σ' H'->Fr0 ρ ρ' H H'->E.nx σ' H'
 bk:∀ρ' σ' H',P.bk ρ'->Rep X.K ρ' σ' H'->Fr0 ρ ρ' H H'->E.bk σ' H'
 ct:∀ρ' σ' H',P.ct ρ'->Rep X.K ρ' σ' H'->Fr0 ρ ρ' H H'->E.ct σ' H'
 rt:∀r v H',P.rt r->Dz X.K ρ H H' v r->E.rt v H'
 ex:∀x ρ' σ' H',P.ex x ρ'->Rep X.K ρ' σ' H'->Fr0 ρ ρ' H H'->Ue X σ' H' x
theorem Dz.step{K:k7f}{ρ ρ1:Rho}{H H1 H':Hp}{v:V}{r:Rt}(f:Fr0 ρ ρ1 H H1)(h:Dz K ρ1 H1 H' v r):Dz K ρ H H' v r:=by
 cases r with
 |val d=>exact⟨f.trans h.1,h.2⟩
 |fresh ds=>obtain⟨a,xs,e,g,m,l⟩:=h;exact⟨a,xs,e,f.trans g,m,l⟩
theorem EndsOk.step{X:Cx}{ρ ρ1:Rho}{H H1:Hp}{P:Po}{E:Ends}(h:EndsOk X ρ H P E)(f:Fr0 ρ ρ1 H H1):EndsOk X ρ1 H1 P E :=
 ⟨λρ' σ' H' n R g=>h.nx ρ' σ' H' n R (f.trans g),λρ' σ' H' n R g=>h.bk ρ' σ' H' n R (f.trans g),λρ' σ' H' n R g=>h.ct ρ' σ' H' n R (f.trans g),λr v H' n g=>h.rt r v H' n (Dz.step f g),λx ρ' σ' H' n R g=>h.ex x ρ' σ' H' n R (f.trans g)⟩
theorem Fr0.grow{ρ:Rho}{H H':Hp}(g:j0 H H'):Fr0 ρ ρ H H':=jd g
theorem Fr0.refl(ρ:Rho)(H:Hp):Fr0 ρ ρ H H:=j0.refl _
theorem Fr0.drop{ρ ρ':Rho}{H:Hp}(h:∀b∈owns ρ',b∈owns ρ):Fr0 ρ ρ' H H:=vo h
theorem Fr0.new{ρ:Rho}{H H':Hp}{i:Nat}{a:ai}{ds:List D}{K:k7f}{σ:St}(R:Rep K ρ σ H)(g:j0 H H')(n:H a=ae):Fr0 ρ (ρ.set i (.own a ds)) H H':=λb o q=>by
 obtain⟨nb,q⟩:=of_del q;rw[j9];exact g b o q;intro z;rcases(Jc (ds:=ds) (i:=i) R.nd (R.fresh n)).2 b z with e|z
 .subst e;rw[n]at q;cases q
 .exact nb z
def DS(X:Cx)(ρ:Rho)(st:aN)(P:Po):Prop:=∀σ H E,Rep X.K ρ σ H->EndsOk X ρ H P E->Fg X st E σ H
def DSs(X:Cx)(ρ:Rho)(sts:List aN)(P:Po):Prop:=∀σ H E,Rep X.K ρ σ H->EndsOk X ρ H P E->V2 X sts E σ H
section
variable{X:Cx}{ρ:Rho}{e a b c:ar}{es:List ar}{st:aN}{rest sa sb body:List aN}{P:Po}{d:D}{ds ds':List D}{pos p p1 p2 p3:aM}{x:aq}{i:Nat}
theorem DSs.nil(h:P.nx ρ):DSs X ρ [] P:=λσ H E R q=>j1a.to (q.nx ρ σ H h R (Fr0.refl ρ H))
theorem DSs.cons{N:Rho->Prop}(h1:DS X ρ st { P with nx:=N })(h2:∀ρ1,N ρ1->DSs X ρ1 rest P):DSs X ρ (st::rest) P:=λσ H E R q =>(Z1 psS Vj).to (h1 σ H { E with nx:=V2 X rest E } R ⟨λρ' σ' H' n R' f=>h2 ρ' n σ' H' E R' (q.step f),q.bk,q.ct,q.rt,q.ex⟩)
theorem DSs.freeze(i:Nat){l:ai}(h:ρ[i]?=a8 (.own l ds))(h2:DSs X (ρ.set i (.val (.lst ds))) body P):DSs X ρ body P:=λσ H E R q =>h2 σ H E (R.freeze h) (q.step (.drop λb hb=>(jg rfl).subset hb))
theorem DSs.forget(i:Nat)(h2:DSs X (ρ.set i .un) body P):DSs X ρ body P:=λσ H E R q=>by
 have z:=R.set_un (i:=i) (v:=ae);have R':Rep X.K (ρ.set i .un) σ H:=by
  have q:=R.set_un (i:=i) (v:=(σ[i]?).join);have e:σ.set i ((σ[i]?).join)=σ:=by
   apply Tz;intro j;rw[dh];split
   .rename_i h;subst h;split
    .rename_i h;rw[kh h];rfl
    .rename_i h;rw[Xz nofun]
   .rfl
  rw[e]at q;exact q
 exact h2 σ H E R' (q.step (.drop λb hb=>(jg rfl).subset hb))
theorem DS.set(i:Nat)(he:DE X ρ e d)(h:P.nx (ρ.set i (.val d)))(hN:X.N.Nodup)(hi:X.N[i]?=a8 x:=by rfl)(hx:Loc X.env.scope x:=by first|exact aV rfl|exact bP rfl)
  (hs:aO e (a8 (.Name x p)) pos.line X.env=pure a9:=by rfl) (hf:X.fn x=aa\/X.env.scope.names.lookup x=a8 .local:=by first|exact .inl rfl|exact .inr rfl):DS X ρ (.Assign [.Name x p] e pos) P:=λσ H E R q =>
 (Um hN hi hx peS hs hf).to (he σ H _ R λv H1 g1 e1=>q.nx _ _ H1 h ((R.grow g1).set_val e1) (j0.trans (Fr0.grow g1) (Fr0.drop λb hb=>(jg rfl).subset hb)))
theorem DS.setO(i:Nat)(he:DO X ρ e ds)(h:∀l,P.nx (ρ.set i (.own l ds)))(hN:X.N.Nodup)(hi:X.N[i]?=a8 x:=by rfl)(hx:Loc X.env.scope x:=by first|exact aV rfl|exact bP rfl)
  (hs:aO e (a8 (.Name x p)) pos.line X.env=pure a9:=by rfl) (hf:X.fn x=aa\/X.env.scope.names.lookup x=a8 .local:=by first|exact .inl rfl|exact .inr rfl):DS X ρ (.Assign [.Name x p] e pos) P:=λσ H E R q =>
 (Um hN hi hx peS hs hf).to (he σ H _ R λl xs H1 g1 n m e1=>q.nx _ _ H1 (h l) (R.set_own g1 n m e1) (.new R g1 n))
theorem DS.if{k:Bool}(hc:DB X ρ c k)(ha:k=aa->DSs X ρ sa P)(hb:k=a9->DSs X ρ sb P):DS X ρ (.If c sa sb pos) P:=λσ H E R q =>
 (j87 ptS Vj Vj).to (hc σ H _ R λH1 g1=>by
  cases k with
  |true=>exact Df (ha rfl σ H1 E (R.grow g1) (q.step (.grow g1)))
  |false=>exact Dg (hb rfl σ H1 E (R.grow g1) (q.step (.grow g1))))
theorem DS.ret(he:DT X ρ e d)(h:P.rt (.val d)):DS X ρ (.Return (a8 e) pos) P:=λσ H E R q =>(V8 peS).to (he σ H _ R λv H1 g1 e1=>q.rt _ v H1 h ⟨jm.trans g1,e1⟩)
theorem DS.retO(he:DO X ρ e ds)(h:P.rt (.fresh ds)):DS X ρ (.Return (a8 e) pos) P:=λσ H E R q =>
 (V8 peS).to (he σ H _ R λl xs H1 g1 n m e1=>q.rt _ _ H1 h ⟨l,xs,rfl,(λb o z=>by
  obtain⟨nb,z⟩:=of_del z
  rw[j9];exact g1 b o z
  intro y;rw[xj.mp y,n]at z;cases z),m,e1.mono (vo λb hb=>by rw[xj.mp hb];exact X3 ..)⟩)
theorem DS.retV(k:Nat){l:ai}(hk:ρ[k]?=a8 (.own l ds))(h:P.rt (.fresh ds))(hN:X.N[k]?=a8 x:=by rfl)(hv:Vis X.env.scope x:=by first|exact aV rfl|exact bP (aV rfl)|exact bP (bP rfl))
  (hd:(x==k7j)=a9:=by decide) (hcd:(x==k7k)=a9:=by decide):DS X ρ (.Return (a8 (.Name x p)) pos) P:=λσ H E R q=>by
 obtain⟨hs,xs,m,en⟩:=R.own k l ds hk;have g:j0 (del H (owns ρ)) (del H [l]):=vo λb hb=>by rw[xj.mp hb];exact Q9 hk
 exact(V8 (Jr hN hv hd hcd)).to ⟨_,hs,q.rt _ _ H h ⟨l,xs,rfl,g,m,en.mono g⟩⟩
theorem DS.expr(he:DT X ρ e d)(h:P.nx ρ)(hs:aO e ae pos.line X.env=pure a9:=by rfl):DS X ρ (.Expr e pos) P:=λσ H E R q =>(Uo peS hs).to (he σ H _ R λv H1 g1 e1=>q.nx ρ σ H1 h (R.grow g1) (.grow g1))
theorem DS.break(h:P.bk ρ):DS X ρ (.Break pos) P:=λσ H E R q=>j6a.to (q.bk ρ σ H h R (Fr0.refl ρ H))
theorem j4q{σ:St}{H H':Hp}{l:ai}{o:HO}(hk:ρ[i]?=a8 (.own l ds))(g:j0 H H'):Fr0 ρ (ρ.set i (.own l ds')) H (upd H' l o):=by unfold Fr0;rw[Vk hk,Zw (Q9 hk)];exact jd g
theorem DS.append(i:Nat){l:ai}(hk:ρ[i]?=a8 (.own l ds))(he:DE X ρ e d)(hl:ds.length<av)(h:P.nx (ρ.set i (.own l (ds++[d]))))
  (hN:X.N[i]?=a8 x:=by rfl) (hv:Vis X.env.scope x:=by first|exact aV rfl|exact bP (aV rfl)|exact bP (bP rfl)) (hd:(x==k7j)=a9:=by decide) (hcd:(x==k7k)=a9:=by decide)
  (hst:ah [e] X.env=[(a9,aE e X.env)]:=by rfl) (hline:(p1.endLine==p2.line)=aa:=by rfl)
  (hbase:bh (.Name x p) "append" X.env (aE (.Name x p) X.env)=aE (.Name x p) X.env:=by rfl) (hfew:((aR p2 (ah [e] X.env)).all (λx=>!x.1)&&(cS p2 (bH [] X.env)).all (λx=>x.1.isSome)
   && decide (([e]:List ar).length+([]:List bg).length+(if ([]:List bg).isEmpty then 0 else 1)<30))=aa:=by rfl)
  (hs:aO (.Call (.Attribute (.Name x p) "append" p1) [e] [] p2) ae pos.line X.env=pure a9:=by rfl) :
  DS X ρ (.Expr (.Call (.Attribute (.Name x p) "append" p1) [e] [] p2) pos) P:=λσ H E R q=>by
 obtain⟨hσ,xs,m,en⟩:=R.own i l ds hk;refine(Uo (Bq d8 gU PySem.F.type_list_append Ww (Jr hN hv hd hcd) (jc peS jx hst) hbase hfew hline hst rfl) hs).to ?_;refine⟨_,hσ,.inl ⟨rfl,xs,.inl (.inl m)⟩,he σ H _ R λv H1 g1 e1=>⟨l,xs,v,rfl,rfl,g1 _ _ m,by rw[en.length];exact hl,?_⟩⟩;exact q.nx _ σ _ h ((R.grow g1).upd_own hk ((en.mono (jd g1)).append (.one e1))) (j4q (σ:=σ) hk g1)
theorem DS.extend(i:Nat){l:ai}(hk:ρ[i]?=a8 (.own l ds))(he:DO X ρ e ds')(hl:ds.length+ds'.length<=av)(h:P.nx (ρ.set i (.own l (ds++ds'))))
  (hN:X.N[i]?=a8 x:=by rfl) (hv:Vis X.env.scope x:=by first|exact aV rfl|exact bP (aV rfl)|exact bP (bP rfl)) (hd:(x==k7j)=a9:=by decide) (hcd:(x==k7k)=a9:=by decide)
  (hst:ah [e] X.env=[(a9,aE e X.env)]:=by rfl) (hline:(p1.endLine==p2.line)=aa:=by rfl)
  (hbase:bh (.Name x p) "extend" X.env (aE (.Name x p) X.env)=aE (.Name x p) X.env:=by rfl) (hfew:((aR p2 (ah [e] X.env)).all (λx=>!x.1)&&(cS p2 (bH [] X.env)).all (λx=>x.1.isSome)
   && decide (([e]:List ar).length+([]:List bg).length+(if ([]:List bg).isEmpty then 0 else 1)<30))=aa:=by rfl)
  (hs:aO (.Call (.Attribute (.Name x p) "extend" p1) [e] [] p2) ae pos.line X.env=pure a9:=by rfl) :
  DS X ρ (.Expr (.Call (.Attribute (.Name x p) "extend" p1) [e] [] p2) pos) P:=λσ H E R q=>by
 obtain⟨hσ,xs,m,en⟩:=R.own i l ds hk;refine(Uo (Bq d8 gT PySem.F.type_list_extend j4e (Jr hN hv hd hcd) (jc peS jx hst) hbase hfew hline hst rfl) hs).to ?_;refine⟨_,hσ,.inl ⟨rfl,xs,.inl (.inl m)⟩,he σ H _ R λb ys H1 g1 n1 m1 e1=>⟨l,b,xs,ys,rfl,rfl,g1 _ _ m,m1,by rw[en.length,e1.length];exact hl,?_⟩⟩;exact q.nx _ σ _ h ((R.grow g1).upd_own hk ((en.mono (jd g1)).append (e1.mono (vo λc hc=>xm _ hc)))) (j4q (σ:=σ) hk g1)
def Zz(K:k7f)(F:Hp)(J:It)(ds:List D):Prop:=∀(i:Nat)(H:Hp)(A:List ai),j0 F (del H A)->(∀a∈A,H a≠ae) ->
 (i<ds.length->J.go i H)/\(ds.length<=i->J.stop i H)/\∀x H',J.yld i H x H'->j0 H H'/\∀d,ds[i]?=a8 d->Enc K (del H' A) d x
def DI(X:Cx)(ρ:Rho)(tg it:ar)(ds:List D):Prop:=∀σ H R,Rep X.K ρ σ H->(∀J H',j0 H H'->Zz X.K (del H' (owns ρ)) J ds->R J H')->Fj X tg it σ H R
variable{tg it:ar}
theorem j4l{K:k7f}{F:Hp}{l:ai}{xs:List V}(sq:SqL K F l xs)(en:j4 K F ds xs):Zz K F (Itl K l) ds:=λi H A g hA=>by
 have sq':SqL K H l xs:=jm.seq (g.seq sq);refine⟨λh=>?_,λh=>⟨xs,sq',by rw[en.length];exact h⟩,λx H' ⟨e,y⟩=>?_⟩
 .obtain⟨v,hv,_⟩:=en.get (kh h);exact⟨xs,v,sq',hv⟩
 .subst e;refine⟨j0.refl _,λd hd=>?_⟩;obtain⟨v,hv,ev⟩:=en.get hd;have e:=y xs sq';rw[hv]at e;cases e;exact ev.mono g
theorem j6r{K:k7f}{F:Hp}{l:ai}{xs:List V}(sq:SqT K F l xs)(en:j4 K F ds xs):Zz K F (Itt K l) ds:=λi H A g hA=>by
 have sq':SqT K H l xs:=jm.seqT (g.seqT sq);refine⟨λh=>?_,λh=>⟨xs,sq',by rw[en.length];exact h⟩,λx H' ⟨e,y⟩=>?_⟩
 .obtain⟨v,hv,_⟩:=en.get (kh h);exact⟨xs,v,sq',hv⟩
 .subst e;refine⟨j0.refl _,λd hd=>?_⟩;obtain⟨v,hv,ev⟩:=en.get hd;have e:=y xs sq';rw[hv]at e;cases e;exact ev.mono g
theorem DI.lst(h:DE X ρ it (.lst ds)):DI X ρ tg it ds:=λσ H R r q=>(j9y peS).to (h σ H _ r λv H1 g1 ⟨l,xs,e,sq,en⟩=>⟨l,e,⟨xs,jm.seq sq⟩,q _ H1 g1 (j4l sq en)⟩)
theorem DI.tup(h:DE X ρ it (.tup ds)):DI X ρ tg it ds:=λσ H R r q=>(jcn peS).to (h σ H _ r λv H1 g1 ⟨l,xs,e,sq,en⟩=>⟨l,e,⟨xs,jm.seqT sq⟩,q _ H1 g1 (j6r sq en)⟩)
noncomputable def upto(lo:Int)(n:Nat):List D:=(aA n).map λk=>D.int (lo+(k:Nat))
theorem Bw{K:k7f}{F:Hp}(lo:Int)(n:Nat):Zz K F (Itr lo n) (upto lo n):=λi H A g hA=>by
 have hl:(upto lo n).length=n:=by unfold upto;rw[km,Xf]
 rw[hl];refine⟨λh=>h,λh=>h,λx H' ⟨e,y⟩=>?_⟩;subst e;refine⟨j0.refl _,λd hd=>?_⟩;unfold upto at hd;rw[xq]at hd;cases z:(aA n)[i]? with
 |none=>rw[z]at hd;cases hd
 |some k =>
  rw[z]at hd;have ek:k=i:=by have:=pq (n:=n) (i:=i) (by have:=(xr.mp z).1;rwa [Xf]at this);rw[this]at z;exact(aB z).symm
  subst ek;cases hd;exact y
theorem DI.range1 {n:Int} (h:DT X ρ a (.int n)) (hm:X.mg "range" = ae) (h1:-(2^62)<=n) (h2:n<2^62) (hg:Gl X "range":=by rfl) (hs:ah [a] X.env=[(a9,aE a X.env)]:=by rfl):DI X ρ tg (.Call (.Name "range" p) [a] [] pos) (upto 0 n.toNat):=λσ H R r q =>(j3z hg hm (jc peS jx hs) hs).to (h σ H _ r λv H1 g1 e=>⟨n,by rw[show v=.int n from e],h1,h2,q _ H1 g1 (Bw 0 _)⟩)
theorem DI.range2 {m n:Int} (h:DT X ρ a (.int m)) (h':DT X ρ b (.int n)) (hm:X.mg "range" = ae) (h1:-(2^62)<=m) (h2:m<2^62) (h3:-(2^62)<=n) (h4:n<2^62) (hg:Gl X "range":=by rfl) (hs:ah [a,b] X.env=[(a9,aE a X.env),(a9,aE b X.env)]:=by rfl)
  (hs2:ah [b] X.env=[(a9,aE b X.env)]:=by rfl) (hs3:ah [a,b] X.env=(a9,aE a X.env)::ah [b] X.env:=by rfl):DI X ρ tg (.Call (.Name "range" p) [a,b] [] pos) (upto m (n-m).toNat):=λσ H R r q =>
 (j3y hg hm (jc peS (jc peS jx hs2) hs3) hs hs2).to (h σ H _ r λv H1 g1 e=>h' σ H1 _ (r.grow g1) λu H2 g2 e2=>⟨m,n,by rw[show v=.int m from e,show u=.int n from e2],⟨h1,h2,h3,h4⟩,q _ H2 (g1.trans g2) (Bw m _)⟩)
def j5y(X:Cx)(tg:ar):TG:=λv σ H Q=>∀pins s u,Inv X pins σ H s->RelV v u->ax (aC X.prog X.w) X.A (eW tg X.env u) (λ_ s'=>∃σ' H',Inv X pins σ' H' s'/\Q σ' H') X.xe s
theorem pgS:PG X tg (j5y X tg):=λpins s σ H v u Q I r h=>h pins s u I r
theorem PG.to{t:TG}{σ:St}{H:Hp}{v:V}{Q:St->Hp->Prop}(h:PG X tg t)(q:t v σ H Q):j5y X tg v σ H Q:=λpins s u I r=>h pins s σ H v u Q I r q
def DG(X:Cx)(ρ:Rho)(tg:ar)(d:D)(ρ':Rho):Prop:=(∀b∈owns ρ',b∈owns ρ)/\∀σ H v Q,Rep X.K ρ σ H->Enc X.K (del H (owns ρ)) d v->(∀σ',Rep X.K ρ' σ' H->Q σ' H)->j5y X tg v σ H Q
theorem DG.name(i:Nat)(hN:X.N.Nodup)(hi:X.N[i]?=a8 x:=by rfl)(hx:Loc X.env.scope x:=by first|exact aV rfl|exact bP rfl)(hf:X.fn x=aa\/X.env.scope.names.lookup x=a8 .local:=by first|exact .inl rfl|exact .inr rfl):DG X ρ (.Name x p) d (ρ.set i (.val d)) :=
 ⟨λb hb=>(jg rfl).subset hb,λσ H v Q R en q=>(Up hN hi hx hf).to (q _ (R.set_val en))⟩
theorem DS.for(W:Nat->Rho->Prop)(hi:DI X ρ tg it ds)(h0:W 0 ρ)(hs:∀i d ρ',ds[i]?=a8 d->W i ρ'->∃ρ2,DG X ρ' tg d ρ2/\DSs X ρ2 body { nx:=W (i+1),rt:=P.rt,bk:=P.nx,ct:=W (i+1),ex:=P.ex })
  (hd:∀ρ',W ds.length ρ'->P.nx ρ') (hc:X.calm=aa) (hp:ik (aC X.prog X.w) X.A X.env X.xe) (hf:∀x,aK it X.env x=pure x:=by intro _;rfl):DS X ρ (.For tg it body [] pos) P:=λσ H E R q=>by
 refine(jcl hp hc piS pgS Vj hf).to (hi σ H _ R λJ H1 g1 ok=>?_);refine⟨λi m σ' H'=>∃ρ',W i ρ'/\Rep X.K ρ' σ' H'/\Fr0 ρ ρ' H1 H'/\m=ds.length-i/\i<=ds.length,⟨ds.length,ρ,h0,R.grow g1,Fr0.refl _ _,rfl,Pj _⟩,?_⟩;rintro i m σ' H' ⟨ρ',w,R',f,rfl,hle⟩;obtain⟨go,stop,yld⟩:=ok i H' (owns ρ') f λa ha=>by obtain⟨xs,e⟩:=R'.owned a ha;rw[e];simp
 by_cases hlt:i<ds.length
 .refine .inr ⟨go hlt,λσ2 H2=>∃ρ2,W (i+1) ρ2/\Rep X.K ρ2 σ2 H2/\Fr0 ρ ρ2 H1 H2,λσ2 H2 ⟨ρ2,w2,R2,f2⟩=>⟨ds.length-(i+1),by omega,ρ2,w2,R2,f2,rfl,hlt⟩,λx H2 y=>?_⟩;obtain⟨g2,en⟩:=yld x H2 y;obtain⟨ρ2,⟨sub,hG⟩,hB⟩:=hs i ds[i] ρ' (kh hlt) w;refine hG σ' H2 x _ (R'.grow g2) (en _ (kh hlt)) λσ3 R3=>?_;have f2:Fr0 ρ ρ2 H1 H2:=j0.trans f (j0.trans (Fr0.grow g2) (Fr0.drop sub));refine hB σ3 H2 _ R3 ⟨λρ3 σ4 H4 n R4 f4=>⟨ρ3,n,R4,f2.trans f4⟩,λρ3 σ4 H4 n R4 f4=>q.nx ρ3 σ4 H4 n R4 ((Fr0.grow g1).trans (f2.trans f4)),λρ3 σ4 H4 n R4 f4=>⟨ρ3,n,R4,f2.trans f4⟩,λr v H4 n z=>q.rt r v H4 n (Dz.step ((Fr0.grow g1).trans f2) z),λx ρ3 σ4 H4 n R4 f4=>q.ex x ρ3 σ4 H4 n R4 ((Fr0.grow g1).trans (f2.trans f4))⟩
 .have e:i=ds.length:=by omega
  subst e;exact .inl ⟨stop (xx _),q.nx ρ' σ' H' (hd ρ' w) R' ((Fr0.grow g1).trans f)⟩
end
noncomputable def q9(N:List aq)(ds:List D):Rho:=ds.map Sl.val++au (N.length-ds.length) Sl.un
theorem Qq(N:List aq)(ds:List D):owns (q9 N ds)=[]:=by
 unfold owns q9;rw[List.filterMap_append];have h1:(ds.map Sl.val).filterMap Sl.addr=[]:=List.filterMap_eq_nil_iff.mpr λs hs=>by obtain⟨d,_,rfl⟩:=Xk.mp hs;rfl
 have h2:(au (N.length-ds.length) Sl.un).filterMap Sl.addr=[]:=List.filterMap_eq_nil_iff.mpr λs hs=>by rw[(List.mem_replicate.mp hs).2];rfl
 rw[h1,h2];rfl
theorem V7{K:k7f}{H:Hp}{N:List aq}{ds:List D}{vs:List V}(tb:TabOk K H)(h:j4 K H ds vs):Rep K (q9 N ds) (start N vs) H:=by
 have ho:=Qq N ds;have hl:=h.length;refine⟨by unfold q9 start;simp[hl],λi d e=>?_,λi a l e=>?_,by rw[ho];exact cV,λi a o y e=>?_,tb⟩
 .rw[ho,qg];unfold q9 at e;by_cases z:i<ds.length
  .rw[tu (by simpa using z),xq]at e;rw[kh z]at e;cases e;obtain⟨v,hv,en⟩:=h.get (kh z);refine⟨v,?_,en⟩;unfold start;rw[tu (by rw[km,hl];exact z),xq,hv];rfl
  .rw[cW (by simpa using z)]at e;have:=Xj e;cases(List.mem_replicate.mp this).2
 .have:=Q9 e;rw[ho]at this;cases this
 .unfold q9 at e;rcases Pk.mp (Xj e)with z|z
  .obtain⟨d,_,q⟩:=Xk.mp z;cases q
  .cases(List.mem_replicate.mp z).2
section
variable{P:ay}{w:aD}{K:k7f}{mg:k7i}{base:aF}{x qual:aq}{st:aN}{f:ai}{fd:aL}{N ps:List aq}{k:Nat}
def Wm(K:k7f)(f:ai)(cdv:aj):Prop:=∃(oc:aj)(od:Option ai)(fd:aL)(sl:Array (Option aj)),K.lookup f=a8 ⟨oc,od,.func fd,sl⟩/\fd.code=cdv
theorem Fun.okC{sp:Sp}(F:Fun K x qual st f fd)(S:FnScope N ps (j7 st))(len:∀vs H Q E,sp vs H Q E->vs.length=ps.length)
  (hbody:∀(cdv:aj)(A:aG)(outer:List cT)(s:ao)(H:Hp)(vs:List V)(Q:VK) (E:XK),Wm K f cdv->Room k (A.deeper (bq qual (j7 st) s.heap.objs.size f cdv))->sp vs H Q E ->
   ∃t,PSs (zc CX0 P w K mg base N qual (j7 st) f cdv A outer s H E).nox (jy st) t/\t { nx:=λ_ H'=>Q .non H',rt:=Q } (start N vs) H):FnOk P w K mg base CX0 (k+1) f fd ps sp:=by
 obtain⟨oc,od,dV,kV,doc,pm,an,cdv,ct,osl,rfl,lk,hcd⟩:=F.ex;refine j8j lk hcd S len λA outer s H vs Q E hr hsp=>?_;obtain⟨t,h,q⟩:=hbody cdv A outer s H vs Q E ⟨oc,od,_,osl,lk,rfl⟩ hr hsp;exact⟨t,h.nox,q⟩
theorem Dk{S:List D->D->Prop}(F:Fun K x qual st f fd)(Sc:FnScope N ps (j7 st))(hl:∀ds d,S ds d->ds.length=ps.length)
  (hbody:∀(cdv:aj)(A:aG)(outer:List cT)(s:ao)(H:Hp)(E:XK),Wm K f cdv->Room k (A.deeper (bq qual (j7 st) s.heap.objs.size f cdv))->∀ds d,S ds d ->
   DSs (zc CX0 P w K mg base N qual (j7 st) f cdv A outer s H E).nox (q9 N ds) (jy st) { nx:=λ_=>d=.non,rt:=λr=>r.d=d }):FnOk P w K mg base CX0 (k+1) f fd ps (spP K S):=by
 refine FnOk.toP (F.okC Sc (λvs H Q E ⟨ds,d,tb,en,hS,_⟩=>by rw[en.length];exact hl ds d hS) λcdv A outer s H vs Q E hcv hr ⟨ds,d,tb,en,hS,q⟩=>⟨_,Vj,?_⟩);have ho:=Qq N ds;refine hbody cdv A outer s H E hcv hr ds d hS (start N vs) H _ (V7 tb en) ⟨λρ' σ' H' n R f=>?_,λ_ _ _ z=>z.elim,λ_ _ _ z=>z.elim,λr v H' n z=>?_,λ_ _ _ _ z=>z.elim⟩
 .subst n;unfold Fr0 at f;rw[ho,qg]at f;exact q _ H' (f.trans jm) rfl
 .cases r with
  |val d' =>cases(show d'=d from n);obtain⟨g,en'⟩:=z;rw[ho,qg]at g;exact q v H' g en'
  |fresh l =>cases(show D.lst l=d from n);obtain⟨a,xs,e,g,m,en'⟩:=z;rw[ho,qg]at g;exact q v H' (g.trans jm) ⟨a,xs,e,.inl (.inl m),en'.mono jm⟩
theorem j73{S:List D->List D->Prop}(F:Fun K x qual st f fd)(Sc:FnScope N ps (j7 st))(hl:∀ds d,S ds d->ds.length=ps.length)
  (hbody:∀(cdv:aj)(A:aG)(outer:List cT)(s:ao)(H:Hp)(E:XK),Wm K f cdv->Room k (A.deeper (bq qual (j7 st) s.heap.objs.size f cdv))->∀ds l,S ds l ->
   DSs (zc CX0 P w K mg base N qual (j7 st) f cdv A outer s H E).nox (q9 N ds) (jy st) { nx:=λ_=>False,rt:=λr=>r=.fresh l }):FnOk P w K mg base CX0 (k+1) f fd ps (spF K S):=by
 refine FnOk.toF (F.okC Sc (λvs H Q E ⟨ds,d,tb,en,hS,_⟩=>by rw[en.length];exact hl ds d hS) λcdv A outer s H vs Q E hcv hr ⟨ds,l,tb,en,hS,q⟩=>⟨_,Vj,?_⟩);have ho:=Qq N ds;refine hbody cdv A outer s H E hcv hr ds l hS (start N vs) H _ (V7 tb en) ⟨λρ' σ' H' n R f=>n.elim,λ_ _ _ z=>z.elim,λ_ _ _ z=>z.elim,λr v H' n z=>?_,λ_ _ _ _ z=>z.elim⟩;cases(show r=.fresh l from n);obtain⟨a,xs,e,g,m,en'⟩:=z;rw[ho,qg]at g;subst e;refine q a xs H' (g.trans jm) ?_ m en';cases y:H a with
 |none=>rfl
 |some o=>have:=g a o y;rw[ql (xj.mpr rfl)]at this;cases this
end
section
variable{prog:ay}{w:aD}{A:aG}{R:eB->ao->Prop}{s:ao}
theorem Ru{elt target iter:ar}{ifs:List ar}{scope:b8}{pos:aM}{it acc:aj}{env:cT}(I:Nat->ao->Prop)
  (turn:∀n s,I n s->ax (aC prog w) A (dO it) (λr s₁=>match r with
   |none=>R (.ok .next) s₁
   |some v=>ax (aC prog w) A (eE target it v) (λ_ s₁'=>ax (aC prog w) A (eW target env v) (λ_ s₂ =>
     ax (aC prog w) A (forIn ifs aa λc r=>if r=aa then do let ok <-fH c env (aE c env);pure (bV ok)else pure (bV r)) (λok s₃ =>
      if ok=aa then ax (aC prog w) A (aE elt env) (λx s₄ =>
       ax (aC prog w) A (call (.builtin "list.append") [acc,x]) (λ_ s₅=>∃m,m<n/\I m s₅) (λ_ _=>False) s₄) (λ_ _=>False) s₃
      else ∃m,m<n/\I m s₃) (λ_ _=>False) s₂) (λ_ _=>False) s₁') (λ_ _=>False) s₁) (λ_ _=>False) s)
  (n:Nat) (h:I n s) :
  bK (aC prog w) A (.compLoop (.ListComp elt [⟨target,iter,ifs,0⟩] scope pos) 0 it acc env) R s:=by
 refine codeAny_loop rfl I (λn s hI=>?_) n h;show ax _ A ((compTurn (.ListComp elt [⟨target,iter,ifs,0⟩] scope pos) 0 it acc env).onRaise (λx=>do noteFrame x env;theTreesLotGoes x)) _ _ s;refine wpAny_noted ?_;rw[compTurn_list];refine af (i5 (af (bo (turn n s hI) (λr s₁ h₁=>?_) λ_ _ h'=>h'.elim)));cases r with
 |none=>exact aw h₁
 |some v =>
  refine af (bo h₁ (λ_ s₁' h₁'=>?_) λ_ _ h'=>h'.elim);refine af (bo h₁' (λ_ s₂ h₂=>af (bo h₂ (λok s₃ h₃=>?_) λ_ _ h'=>h'.elim)) λ_ _ h'=>h'.elim);cases ok with
  |false=>exact aw ⟨rfl,h₃⟩
  |true =>exact af (af (bo h₃ (λx s₄ h₄=>af (bo h₄ (λ_ s₅ h₅=>aw (aw ⟨rfl,h₅⟩)) λ_ _ h'=>h'.elim)) λ_ _ h'=>h'.elim))
end
noncomputable def qw(env:cT):List (aq×bp)->List (aq×ai)->List (aq×ai)
 |[],acc=>acc
 |(n,k)::r,acc=>qw env r (if k==.free then(match env.cells.lookup n with|some a=>(n,a)::acc|none=>acc)else acc)
theorem Wa{scope:b8}{env:cT}(h:∀y∈scope.names,y.2=.free->(env.cells.lookup y.1).isSome=aa):closureFor scope env=pure (qw env scope.names []):=by
 simp only[closureFor];have step:∀(names:List (aq×bp)) (acc:List (aq×ai)),(∀y∈names,y.2=.free->(env.cells.lookup y.1).isSome=aa) ->
   (forIn names acc (λx r=>(do if (x.2==b9)=aa then(do let a <-cellOf env x.1;pure (bV ((x.1,a)::r)))else pure (bV r):lD _)):lD _)=pure (qw env names acc):=by
  intro names;induction names with
  |nil=>intro acc _;rfl
  |cons y r ih =>
   intro acc hy;obtain⟨n,k⟩:=y;rw[fM];by_cases e:(k==b9)=aa
   .have hk:k=.free:=by simpa using e
    have hs:=hy (n,k) (X3 ..) hk;obtain⟨a,ha⟩:=Xv.mp hs;have hc:cellOf env n=pure a:=by unfold cellOf;rw[ha]
    simp only[e,if_true,hc,pure_bind];rw[ih _ λz hz=>hy z (xm _ hz)];simp only[qw,e,if_true,ha]
   .have e':(k==b9)=a9:=by simpa using e
    simp only[e',Pz,if_false,pure_bind];rw[ih _ λz hz=>hy z (xm _ hz)];simp only[qw,e',Pz,if_false]
 have:=step scope.names [] h;rw[show(forIn scope.names ([]:List (aq×ai)) λx r=>_)=_ from this];rfl
theorem Ld{env:cT}{y:aq}{c:ai}:∀{names:List (aq×bp)} {acc:List (aq×ai)},(∀y c,acc.lookup y=a8 c->env.cells.lookup y=a8 c)->(qw env names acc).lookup y=a8 c->env.cells.lookup y=a8 c
 |[],acc,h,q=>h y c q
 |(n,k)::r,acc,h,q=>by
  unfold qw at q;refine Ld (acc:=_) ?_ q;intro z d hz;split at hz
  .split at hz
   .rename_i a ha;rw[Xi]at hz;split at hz
    .rename_i e;have e':z=n:=by simpa using e
     subst e';cases hz;exact ha
    .exact h z d hz
   .exact h z d hz
  .exact h z d hz
theorem Nj{env:cT}{y:aq}:∀{names:List (aq×bp)} {acc:List (aq×ai)},(acc.lookup y).isSome=aa->((qw env names acc).lookup y).isSome=aa
 |[],acc,h=>h
 |(n,k)::r,acc,h=>by
  unfold qw;refine Nj ?_;split
  .split
   .rw[Xi];split
    .rfl
    .exact h
   .exact h
  .exact h
theorem Wb{env:cT}{y:aq}(hs:(env.cells.lookup y).isSome=aa):∀{names:List (aq×bp)} {acc:List (aq×ai)},(y,b9)∈names->((qw env names acc).lookup y).isSome=aa
 |[],acc,h=>nomatch h
 |(n,k)::r,acc,h=>by
  unfold qw;rcases xu.mp h with e|h
  .cases e;refine Nj ?_;obtain⟨a,ha⟩:=Xv.mp hs;rw[if_pos (by rfl),ha];rw[Xi];simp
  .exact Wb hs h
noncomputable def zq(scope:b8)(env:cT)(N:List aq)(cs:List Nat):Bool :=
 scope.names.all (λy=>(y.2 != .cell || scope.names.lookup y.1==a8 .cell)&&(y.2 != .local || scope.names.lookup y.1==a8 .local)&&(y.2 != .free || ((env.cells.lookup y.1).isSome&&(env.kindOf y.1==a8 .cell || env.kindOf y.1==a8 .free)))) &&
 (aA N.length).all (λj=>cs.contains j || (match N[j]? with|some y=>scope.names.lookup y != a8 .local&&scope.names.lookup y != a8 .cell|none=>aa))
theorem lookup_mem{α β:Type}[BEq α][LawfulBEq α]{l:List (α×β)}{a:α}{b:β}(h:l.lookup a=a8 b):(a,b)∈l:=by
 induction l with
 |nil=>cases h
 |cons x r ih =>
  obtain⟨c,d⟩:=x;rw[Xi]at h;split at h
  .rename_i e;cases h;have e':a=c:=by simpa using e
   subst e';exact X3 ..
  .exact xm _ (ih h)
theorem J8{env:cT}{x:aq}{k':bp}:∀{names:List (aq×bp)},
  (names.map λ(n,k)=>if (k==b9&&env.scope.kind==.function&&env.kindOf n==a8 .cell) then(n,bC) else(n,k)).lookup x=a8 k' ->
  ∃k,names.lookup x=a8 k/\(k'=k\/(k=.free/\k'=.cell))
 |[],h=>by cases h
 |(n,k)::r,h=>by
  rw[X5]at h;rw[Xi];by_cases hc:(k==b9&&env.scope.kind==.function&&env.kindOf n==a8 .cell)=aa
  .dsimp only at h;rw[if_pos hc,Xi]at h;cases e:x==n with
   |true =>
    rw[e]at h;cases h;have:(k==b9)=aa:=by
     cases z:k==b9 with
     |true=>rfl
     |false=>rw[z]at hc;simp at hc
    exact⟨k,rfl,.inr ⟨by simpa using this,rfl⟩⟩
   |false=>rw[e]at h;exact J8 h
  .dsimp only at h;rw[if_neg hc,Xi]at h;cases e:x==n with
   |true=>rw[e]at h;cases h;exact⟨_,rfl,.inl rfl⟩
   |false=>rw[e]at h;exact J8 h
theorem Yi:∀(names:List (aq×bp)) (n:Nat) (acc:List (aq×ai)),aP n names acc=aP n names []++acc
 |[],_,_=>rfl
 |(x,k)::r,n,acc=>by
  unfold aP;split
  .rw[Yi r (n+1) ((x,n)::acc),Yi r (n+1) [(x,n)],Ti];rfl
  .exact Yi r n acc
theorem Nk:∀{names:List (aq×bp)} {n:Nat} {x:aq} {c:ai},(x,c)∈aP n names []->(x,bC)∈names/\n<=c
 |[],_,_,_,h=>nomatch h
 |(y,k)::r,n,x,c,h=>by
  unfold aP at h;split at h
  .rename_i hk;rw[Yi]at h;rcases Pk.mp h with h|h
   .have q:=Nk h;exact⟨xm _ q.1,Nat.le_of_succ_le q.2⟩
   .cases xj.mp h;have hk:k=bC:=by simpa using hk
    subst hk;exact⟨X3 ..,xx _⟩
  .have q:=Nk h;exact⟨xm _ q.1,q.2⟩
theorem Vt{β:Type}:∀{l m:List (aq×β)} {y:aq},(l++m).lookup y=(l.lookup y).or (m.lookup y)
 |[],m,y=>rfl
 |(x,b)::r,m,y=>by
  rw[fv,Xi,Xi];split
  .rfl
  .exact Vt
theorem Le{names:List (aq×bp)}{n:Nat}{acc:List (aq×ai)}{y:aq}{c:ai}(h:(aP n names acc).lookup y=a8 c) :
  ((y,c)∈aP n names []/\(y,bC)∈names/\n<=c)\/((aP n names []).lookup y=ae/\acc.lookup y=a8 c):=by
 rw[Yi,Vt]at h;cases e:(aP n names []).lookup y with
 |some c'=>rw[e]at h;cases h;have q:=lookup_mem e;exact .inl ⟨q,Nk q⟩
 |none=>rw[e]at h;exact .inr ⟨rfl,h⟩
theorem jf0{names:List (aq×bp)}{n:Nat}{acc:List (aq×ai)}{y:aq}(h:(y,bC)∉names):(aP n names acc).lookup y=acc.lookup y:=by
 rw[Yi,Vt];cases e:(aP n names []).lookup y with
 |some c'=>exact absurd (Nk (lookup_mem e)).1 h
 |none=>rfl
theorem jbb{names:List (aq×bp)}{n:Nat}{acc:List (aq×ai)}{y:aq}(h:(acc.lookup y).isSome=aa):∃c,(aP n names acc).lookup y=a8 c:=by
 rw[Yi,Vt];cases e:(aP n names []).lookup y with
 |some c'=>exact⟨c',rfl⟩
 |none=>obtain⟨c,hc⟩:=Xv.mp h;exact⟨c,hc⟩
theorem Eh{M:gX}{A:aG}{E:k7g}{s:ao}{scope:b8}{globals:ai}{closure:List (aq×ai)}{qual:aq}{env:cT}{Q:cT->ao->Prop}
  (hQ:Q { scope:=scope,locals:=s.heap.objs.size,globals:=globals,cells:=aP (s.heap.objs.size+1) scope.names closure,qual:=qual,func:=ae,code:=env.code,frame:=env.frame,builtins:=env.builtins }
   { s with heap:=ib (s.heap.push { cls:=.type "dict",data:=.dict #[] }) scope.names }) :
  ax M A (dz scope globals closure [] qual ae .none (a8 env)) Q E s:=by
 simp only[dz,eF,if_true];refine af (wpAny_alloc ?_);refine af (wpAny_layCells _ (λname kind cells=>by cases hkc:kind==bC<;>simp[hkc]) _ _ _ _ ?_);rw[show({ s with heap:=s.heap.push { cls:=.type "dict",data:=.dict #[] } }:ao).heap.objs.size=s.heap.objs.size+1 from Pb ..];exact af (aw (aw hQ))
noncomputable abbrev cCx(X:Cx)(scope:b8)(C:ai)(s:ao)(H:Hp)(fp:List ai)(pn:k7h):Cx :=
 { X with env:=iT scope (aP (C+1) scope.names (qw X.env scope.names [])) C X.env,s₀:=s,H₀:=H,outer:=X.stack,stack:=X.stack,ex:=fp,fn:=λx=>scope.names.lookup x==a8 .cell,pn:=pn,xe:=λ_ _=>False }
noncomputable def V0(scope:b8)(y:aq):Bool:=scope.names.lookup y==a8 .local || scope.names.lookup y==a8 .cell
theorem Zo{env:cT}:∀{names:List (aq×bp)} {x:aq},names.lookup x=a8 .cell ->
  (names.map λ(n,k)=>if (k==b9&&env.scope.kind==.function&&env.kindOf n==a8 .cell) then(n,bC) else(n,k)).lookup x=a8 .cell
 |[],_,h=>by simp at h
 |(n,k)::r,x,h=>by
  have ih:=@Zo env r x;rw[X5];cases hx:x==n with
  |true =>simp only[Xi,hx]at h;cases h;simp[Xi,hx]
  |false =>
   simp only[Xi,hx]at h;dsimp only;by_cases hc:(k==b9&&env.scope.kind==.function&&env.kindOf n==a8 .cell)=aa
   .rw[if_pos hc];simp only[Xi,hx];exact ih h
   .rw[if_neg hc];simp only[Xi,hx];exact ih h
theorem Zt{X:Cx}{scope:b8}{C:ai}{s:ao}{H:Hp}{fp:List ai}{pn:k7h}{y:aq}(h:V0 scope y=aa):Loc (cCx X scope C s H fp pn).env.scope y:=by
 unfold V0 at h;rw[Tg]at h;rcases h with h|h
 .exact .inl (iR (by simpa using h))
 .exact .inr (Zo (by simpa using h))
theorem Y0{X:Cx}{scope:b8}{C:ai}{s:ao}{H:Hp}{fp:List ai}{pn:k7h}{y:aq}(h:V0 scope y=aa):(cCx X scope C s H fp pn).fn y=aa\/(cCx X scope C s H fp pn).env.scope.names.lookup y=a8 .local:=by
 unfold V0 at h;rw[Tg]at h;rcases h with h|h
 .exact .inr (iR (by simpa using h))
 .exact .inl h
def DTs(X:Cx)(ρ:Rho)(ifs:List ar)(b:Bool):Prop:=match ifs with
 |[]=>b=aa
 |[c]=>DB X ρ c b
 |_=>False
theorem DTs.nil{X:Cx}{ρ:Rho}:DTs X ρ [] aa:=rfl
theorem DTs.one{X:Cx}{ρ:Rho}{c:ar}{b:Bool}(h:DB X ρ c b):DTs X ρ [c] b:=h
theorem DTs.run{X:Cx}{ρ:Rho}{ifs:List ar}{b:Bool}(h:DTs X ρ ifs b){pins:k7h}{σ:St}{H:Hp}{s:ao}(I:Inv X pins σ H s)(R:Rep X.K ρ σ H) :
  ax (aC X.prog X.w) X.A (forIn ifs aa λc r=>if r=aa then do let ok <-fH c X.env (aE c X.env);pure (bV ok)else pure (bV r)) (λok s'=>ok=b/\∃H',Inv X pins σ H' s'/\j0 H H') X.xe s:=by
 match ifs,h with
 |[],h=>exact wpAny_tests_nil ⟨h.symm,H,I,j0.refl H⟩
 |[c],h=>exact wpAny_tests_one (thn (h σ H (λk H'=>k=b/\j0 H H') R (λH' g=>⟨rfl,g⟩) pins s I) λk s' ⟨H',I',e,g⟩=>⟨e,H',I',g⟩)
theorem Rep.weaken{K:k7f}{ρ:Rho}{σ σ':St}{H:Hp}(R:Rep K ρ σ H)(hl:σ'.length=σ.length)(h:∀(i:Nat),ρ[i]?≠a8 .un->σ'[i]?=σ[i]?):Rep K ρ σ' H :=
 ⟨by rw[hl,R.len],λi d e=>let ⟨v,q,z⟩:=R.val i d e;⟨v,by rw[h i (by rw[e];simp)];exact q,z⟩,λi a ds e=>let ⟨q,z⟩:=R.own i a ds e;⟨by rw[h i (by rw[e];simp)];exact q,z⟩,R.nd,λi a o x e=>let ⟨q,z⟩:=R.raw i a o x e;⟨by rw[h i (by rw[e];simp)];exact q,z⟩,R.tb⟩
noncomputable def mask(cs:List Nat)(σ:St):St:=σ.mapIdx λj v=>if cs.contains j then ae else v
theorem U7(cs:List Nat)(σ:St):(mask cs σ).length=σ.length:=by unfold mask;simp
theorem j6h{cs:List Nat}{σ:St}{j:Nat}{v:V}(h:(mask cs σ)[j]?=a8 (a8 v)):j∉cs/\σ[j]?=a8 (a8 v):=by
 unfold mask at h;rw[hZ]at h;cases e:σ[j]? with
 |none=>rw[e]at h;cases h
 |some u =>
  rw[e]at h;have h':(if cs.contains j then ae else u)=a8 v:=aB h;by_cases z:cs.contains j=aa
  .rw[if_pos z]at h';cases h'
  .rw[if_neg z]at h';subst h';exact⟨λy=>z (by simpa using y),rfl⟩
theorem Oi{cs:List Nat}{σ:St}{j:Nat}(h:j∉cs):(mask cs σ)[j]?=σ[j]?:=by
 unfold mask;rw[hZ];cases e:σ[j]? with
 |none=>rfl
 |some u=>simp[h]
def Wk(ρ2 ρ:Rho):Prop:=∀K σ H,Rep K ρ2 σ H->Rep K ρ σ H
theorem Jv(H:Hp)(A B:List ai):del (del H A) B=del H (A++B):=funext λb=>by unfold del;by_cases h1:b∈A<;>by_cases h2:b∈B<;>simp[h1,h2]
structure Loose(X:Cx)(pins:k7h)(H:Hp)(C:ai):Prop where
 free:H C=ae
 loc:C≠X.env.locals
 new:X.s₀.heap.objs.size<=C
 cell:∀x c,X.env.cells.lookup x=a8 c->c≠C
 pin:∀p∈X.pn++pins,p.1≠C
section
variable{X:Cx}{pins:k7h}{σ:St}{H2:Hp}{s2:ao}{ρ:Rho}{tg elt iter:ar}{ifs:List ar}{scope:b8}{pos:aM}{ds:List D}{cs:List Nat}{p:D->Bool}{g:D->D}
theorem j05{J:It}{fp:List ai}{it:ai}{tn:Nat->aF->Prop}(I2:Inv X pins σ H2 s2)(T:Turn X.prog X.w X.K tg J fp it tn)(st2:tn 0 s2.heap)(f2:∀b∈fp,Ja X pins H2 b)
  (hkind:scope.kind=.function) (hok:zq scope X.env X.N cs=aa) {E:k7g} {RR:aj->ai->eB->ao->Prop}
  (hk:∀(C Dd:ai)(h₁:aF),(cCx X scope C s2 H2 fp (X.pn++pins)).Ok->Inv (cCx X scope C s2 H2 fp (X.pn++pins)) [] (mask cs σ) (upd H2 Dd (.lst [])) { s2 with heap:=h₁ }->s2.heap.objs.size=Dd->Dd<C->H2 Dd=ae->(∀b o,s2.heap.get? b=a8 o->h₁.get? b=a8 o) ->
   bK (aC X.prog X.w) X.A (.compLoop (.ListComp elt [⟨tg,iter,ifs,0⟩] scope pos) 0 (.ref it) (.ref Dd) (iT scope (aP (C+1) scope.names (qw X.env scope.names [])) C X.env)) (RR (.ref Dd) C) { s2 with heap:=h₁ }) :
  ax (aC X.prog X.w) X.A (jY []) (λacc s₃=>ax (aC X.prog X.w) X.A (dz scope X.env.globals (qw X.env scope.names []) [] X.env.qual ae .none (a8 X.env)) (λcenv s₄=>cenv.frame=X.env.frame /\
   bK (aC X.prog X.w) X.A (.compStart (.ListComp elt [⟨tg,iter,ifs,0⟩] scope pos) 0 (.ref it) acc { cenv with scope:=iA scope X.env }) (RR acc cenv.locals) s₄) E s₃) E s2:=by
 unfold zq at hok;rw[Xb]at hok;obtain⟨hn,hN⟩:=hok;have hn':∀y∈scope.names,(y.2=.cell->scope.names.lookup y.1=a8 .cell)/\(y.2=.free->(X.env.cells.lookup y.1).isSome=aa/\(X.env.kindOf y.1=a8 .cell\/X.env.kindOf y.1=a8 .free)):=λy hy=>by have:=Pa.mp hn y hy;simp only[Xb,bne_iff_ne,ne_eq,Tg,beq_iff_eq]at this;obtain⟨⟨a,_⟩,c⟩:=this;exact⟨λe=>a.elim (λz=>absurd e z) id,λe=>c.elim (λz=>absurd e z) id⟩
 have nocell:∀{y:aq},scope.names.lookup y=a8 .free->(y,bC)∉scope.names:=λ{y} h z=>by have q:=(hn' _ z).1 rfl;rw[h]at q;cases q
 have hloc:∀(j:Nat)(y:aq),X.N[j]?=a8 y->j∉cs->scope.names.lookup y≠a8 .local/\scope.names.lookup y≠a8 .cell:=λj y hj hc=>by
  have hlt:j<X.N.length:=(xr.mp hj).1;have:=Pa.mp hN j (Xc.mpr hlt);rw[hj]at this;simp only[Tg,Xb,bne_iff_ne,ne_eq]at this;rcases this with z|z
  .exact absurd (by simpa using z) hc
  .exact z
 have cl_of:∀{y:aq}{c:ai},(qw X.env scope.names []).lookup y=a8 c->X.env.cells.lookup y=a8 c:=λ{y c} h=>Ld (λ_ _ z=>by cases z) h;refine bA (Eh ?_);dsimp only;generalize hH2:s2.heap.push { cls:=.type "list",dict:=ae,data:=.seq ([]:List aj).toArray }=hp2;have keep1:∀b o,hp2.get? b=a8 o->(ib (hp2.push { cls:=.type "dict",data:=.dict #[] }) scope.names).get? b=a8 o:=λb o e=>kZ _ _ b o (xg _ e);have hns₁:(ib (hp2.push { cls:=.type "dict",data:=.dict #[] }) scope.names).Ns hp2.objs.size (λ_=>ae):=(Heap.Ns.new hp2 (.type "dict")).keeps (kZ _ _);have okl:=cellsFrom_ok scope.names (hp2.push { cls:=.type "dict",data:=.dict #[] }) (hp2.objs.size+1) [] ⟨λ_ _ hm=>(nomatch hm),List.Pairwise.nil⟩ (by rw[Pb];exact xx _);rw[Pb]at okl;generalize ib (hp2.push { cls:=.type "dict",data:=.dict #[] }) scope.names=h₁ at keep1 hns₁ okl ⊢;have hC:hp2.objs.size=s2.heap.objs.size+1:=by rw[<-hH2,Pb]
 have hDC:s2.heap.objs.size≠hp2.objs.size:=by rw[hC];exact X8 (bX _)
 have hCle:s2.heap.objs.size<=hp2.objs.size:=by rw[hC];exact Pu _
 have below:∀b,b<s2.heap.objs.size->b≠hp2.objs.size/\b≠s2.heap.objs.size:=λb hb=>⟨by rw[hC];exact X8 (sr hb),X8 hb⟩
 have old:∀b o,s2.heap.get? b=a8 o->h₁.get? b=a8 o:=λb o e=>keep1 b o (hH2▸xg _ e);have hacc:h₁.get? s2.heap.objs.size=a8 { cls:=.type "list",dict:=ae,data:=.seq ([]:List aj).toArray }:=keep1 _ _ (hH2▸X7 _ rfl);have none_of:∀b,s2.heap.objs.size<=b->s2.heap.get? b=ae:=λb hb=>by
  cases e:s2.heap.get? b with
  |none=>rfl
  |some o'=>exact absurd (xn e) (Nat.not_lt.mpr hb)
 have hD0:H2 s2.heap.objs.size=ae:=I2.fresh;generalize hDd:s2.heap.objs.size=Dd at *;generalize hCc:hp2.objs.size=C at *;have hC0:H2 C=ae:=I2.hok.fresh (by rw[hDd];exact hCle);have pinlt:∀p∈X.pn++pins,p.1<Dd:=λp hp=>by rw[<-hDd];exact xn (I2.pin p hp).1
 have celllt:∀y c,X.env.cells.lookup y=a8 c->c<Dd:=λy c h=>by obtain⟨v,o,e,_⟩:=I2.cell y c h;rw[<-hDd];exact xn e
 have loclt:X.env.locals<Dd:=by rw[<-hDd];exact I2.lt
 have fplt:∀b∈fp,b<Dd:=λb hb=>by obtain⟨o,e,_⟩:=T.obj _ _ st2 b hb;rw[<-hDd];exact xn e
 have hDlt:Dd<C:=by omega
 have cellD:∀{y:aq}{c:ai},(aP (C+1) scope.names (qw X.env scope.names [])).lookup y=a8 c->((y,c)∈aP (C+1) scope.names []/\C+1<=c)\/X.env.cells.lookup y=a8 c:=λ{y c} h=>by
  rcases Le h with ⟨q,_,z⟩|⟨_,q⟩
  .exact .inl ⟨q,z⟩
  .exact .inr (cl_of q)
 have celln:∀{y:aq}{c b:ai},(aP (C+1) scope.names (qw X.env scope.names [])).lookup y=a8 c->b<Dd->(∀c,X.env.cells.lookup y=a8 c->c≠b)->c≠b:=λ{y c b} h hb ho=>by
  rcases cellD h with ⟨_,z⟩|q
  .exact Pn (Xy hb (Xy hDlt (su z)))
  .exact ho c q
 have okc:(cCx X scope C s2 H2 fp (X.pn++pins)).Ok:={
  mod:=I2.ok.mod
  kind:=hkind
  glob:=I2.ok.glob
  blt:=I2.ok.blt
  above:=by show s2.heap.objs.size<=C;rw[hDd];exact hCle
  inj:=λx y c h1 h2=>by
   rcases cellD h1 with ⟨m1,z1⟩|q1<;>rcases cellD h2 with ⟨m2,z2⟩|q2
   .exact name_of_addr okl.apart m1 m2
   .exact absurd (Xy (celllt y c q2) (Xy hDlt (su z1))) (t6 _)
   .exact absurd (Xy (celllt x c q1) (Xy hDlt (su z2))) (t6 _)
   .exact I2.ok.inj x y c q1 q2
  has:=λx h=>by
   have key:∀k',(iA scope X.env).names.lookup x=a8 k'->(k'=.cell\/k'=.free)->∃c,(aP (C+1) scope.names (qw X.env scope.names [])).lookup x=a8 c:=λk' hk hk'=>by
    obtain⟨k,hl,e⟩:=J8 hk
    have hm:=lookup_mem hl
    have hk0:k=.free\/k=.cell:=by
     rcases e with e|e
     .subst e
      exact hk'.symm
     .exact .inl e.1
    rcases hk0 with hk0|hk0
    .subst hk0
     exact jbb (Wb ((hn' _ hm).2 rfl).1 hm)
    .subst hk0
     exact Xv.mp (W.cellsFrom_some _ _ _ (.inl hl))
   rcases h with h|h
   .exact key _ h (.inl rfl)
   .exact key _ h (.inr rfl)
  cab:=λx c h h2=>by
   have hx:scope.names.lookup x=a8 .cell:=by simpa using h
   show s2.heap.objs.size<=c
   rw[hDd]
   rcases Le h2 with ⟨_,_,z⟩|⟨z,_⟩
   .exact dQ (Xy hDlt (su z))
   .obtain⟨c',hc'⟩:=Xv.mp (W.cellsFrom_some scope.names (C+1) [] (.inl hx))
    rw[z]at hc';cases hc'
  hd:=I2.ok.hd
  frames:=I2.ok.frames
  stk:=.inl rfl
  exf:=λb hb=>⟨X8 (Xy (fplt b hb) hDlt),λx c h=>celln h (fplt b hb) λc q=>(f2 b hb).2.2.2.2.1 x c q⟩
  bs:=I2.bs
  bsz:=Xh I2.ok.bsz I2.sz
  noex:=λb o e hb=>by
   rcases(f2 b hb).2.2.2.1 with z|z
   .exact I2.ok.noex b o e z
   .exact absurd (xn e) (Nat.not_lt.mpr (Xh I2.ok.bsz z))
  exfs:=λb hb hf=>by
   rcases xu.mp (I2.stkSub b hf)with z|z
   .exact(f2 b hb).2.1 z
   .exact(f2 b hb).2.2.1 z
  funs:=I2.stack
  frf:=I2.stkFree }
 have hpush:HOk X.prog X.w (upd H2 Dd (.lst [])) h₁:=HOk.laid I2.hok old (by rw[hDd];exact xx _) ⟨Pj _,[],_,.nil,hacc⟩;have I0:Inv (cCx X scope C s2 H2 fp (X.pn++pins)) [] (mask cs σ) (upd H2 Dd (.lst [])) { s2 with heap:=h₁ }:={
  ok:=okc
  os:=rfl
  bare:=I2.bare
  base:=Un.laid old (by rw[hDd];exact xx _) hD0
  loc:=by
   refine⟨_,hns₁,λj y v hj hv hvis=>?_⟩
   obtain⟨hjc,hσ⟩:=j6h hv
   obtain⟨m,hm,hlook⟩:=I2.loc
   have key:∀k',(iA scope X.env).names.lookup y=a8 k'->scope.names.lookup y=a8 .free:=λk' hk=>by
    obtain⟨k,hl,e⟩:=J8 hk
    have hmm:=lookup_mem hl
    have:k=.free:=by
     rcases e with e|e
     .subst e
      rcases hvis with z|z|z
      .have z:=hk.symm.trans z;cases z;exact absurd hl (hloc j y hj hjc).1
      .have z:=hk.symm.trans z;cases z;exact absurd hl (hloc j y hj hjc).2
      .have z:=hk.symm.trans z;cases z;rfl
     .exact e.1
    rw[hl,this]
   have hfree:scope.names.lookup y=a8 .free:=by rcases hvis with z|z|z<;>exact key _ z
   have hmm:=lookup_mem hfree
   obtain⟨hs,hk⟩:=(hn' _ hmm).2 rfl
   have hvis':Vis X.env.scope y:=by rcases hk with z|z;exact .inr (.inl z);exact .inr (.inr z)
   obtain⟨u,ru,look⟩:=hlook j y v hj hσ hvis'
   refine⟨u,ru,?_⟩
   rcases look with ⟨z,_⟩|⟨_,c,hcl,hcv⟩
   .rcases hk with y'|y'<;>rw[y']at z<;>cases z
   .refine .inr ⟨?_,c,?_,?_⟩
    .rcases hvis with z|z|z
     .exfalso
      obtain⟨k,hl,e⟩:=J8 z
      rw[hfree]at hl;cases hl
      rcases e with e|e
      .cases e
      .cases e.2
     .exact .inl z
     .exact .inr z
    .obtain⟨c',hc'⟩:=Xv.mp (Wb (acc:=[]) hs hmm)
     have:=cl_of hc'
     rw[hcl]at this;cases this
     exact(jf0 (nocell hfree)).trans hc'
    .obtain⟨o,e,d⟩:=hcv
     exact⟨o,old _ _ e,d⟩
  cell:=λx c h=>by
   rcases cellD h with ⟨q,_⟩|q
   .exact⟨_,(okl.empty x c q).1⟩
   .obtain⟨v,o,e,d⟩:=I2.cell x c q
    exact⟨v,o,old _ _ e,d⟩
  free:=by show upd H2 Dd (.lst []) C=ae;rw[je (Pn hDlt)];exact hC0
  freeC:=λx c h=>by
   rcases cellD h with ⟨_,z⟩|q
   .rw[je (Pn (Xy hDlt (su z)))];exact I2.hok.fresh (by rw[hDd];exact dQ (Xy hDlt (su z)))
   .rw[je (X8 (celllt x c q))];exact I2.freeC x c q
  pin:=λp hp=>by
   rw[Xq]at hp
   obtain⟨h1,h2,h3,h4,h5⟩:=I2.pin p hp
   have hlt:=pinlt p hp
   refine⟨old _ _ h1,by rw[je (X8 hlt)];exact h2,X8 (Xy hlt hDlt),λz=>?_,h5⟩
   rcases xu.mp (I2.stkSub _ z)with y|y
   .exact h3 y
   .exact h4 y
  hok:=hpush
  len:=by rw[U7];exact I2.len }
 have go:=hk C Dd h₁ okc I0 rfl hDlt hD0 old;exact⟨rfl,codeAny_compStart_list go (T.self _ 0 _ _ _ (T.keep _ _ _ st2 (λb _ o e=>old b o e)) go)⟩
theorem La{J:It}{fp:List ai}{it:ai}{tn:Nat->aF->Prop}(I2:Inv X pins σ H2 s2)(R2:Rep X.K ρ σ H2)(T:Turn X.prog X.w X.K tg J fp it tn)(st2:tn 0 s2.heap)(f2:∀b∈fp,Ja X pins H2 b)
  (ok:Zz X.K (del H2 (owns ρ)) J ds) (hc:X.calm=aa) (hkind:scope.kind=.function) (hok:zq scope X.env X.N cs=aa) (hcs:∀j∈cs,ρ[j]?=a8 .un) (hsz:ds.length<=av)
  (hb:∀C s H fp pn,∀d∈ds,∃ρ2,DG (cCx X scope C s H fp pn) ρ tg d ρ2/\Wk ρ2 ρ/\owns ρ2=owns ρ/\DTs (cCx X scope C s H fp pn) ρ2 ifs (p d)/\(p d=aa->DE (cCx X scope C s H fp pn) ρ2 elt (g d)))
  {E:k7g} {RR:aj->ai->eB->ao->Prop}
  (hRR:∀D C xs H' s' m,Inv X pins σ H' s'->j0 H2 H'->H2 D=ae->H' D=a8 (.lst xs)->j4 X.K (del H' (D::owns ρ)) ((ds.filter p).map g) xs->s'.heap.Ns C m->Loose X pins H' C->RR (.ref D) C (.ok .next) s') :
  ax (aC X.prog X.w) X.A (jY []) (λacc s₃=>ax (aC X.prog X.w) X.A (dz scope X.env.globals (qw X.env scope.names []) [] X.env.qual ae .none (a8 X.env)) (λcenv s₄ =>
   bK (aC X.prog X.w) X.A (.compStart (.ListComp elt [⟨tg,iter,ifs,0⟩] scope pos) 0 (.ref it) acc { cenv with scope:=iA scope X.env }) (RR acc cenv.locals) s₄) E s₃) E s2:=by
 refine thn (j05 (RR:=RR) I2 T st2 f2 hkind hok λC Dd h₁ okc I0 hDd hDlt hD0 old=>?_) λacc s₃ h=>thn h λcenv s₄ h=>h.2;have hDlt:@LT.lt Nat _ Dd C:=hDlt;have pinlt:∀p∈X.pn++pins,p.1<Dd:=λp hp=>by rw[<-hDd];exact xn (I2.pin p hp).1
 have celllt:∀y c,X.env.cells.lookup y=a8 c->c<Dd:=λy c h=>by obtain⟨v,o,e,_⟩:=I2.cell y c h;rw[<-hDd];exact xn e
 have loclt:X.env.locals<Dd:=by rw[<-hDd];exact I2.lt
 have fplt:∀b∈fp,b<Dd:=λb hb=>by obtain⟨o,e,_⟩:=T.obj _ _ st2 b hb;rw[<-hDd];exact xn e
 have hDo:Dd∉owns ρ:=R2.fresh hD0;have fpok:∀{H':Hp},(∀b∈fp,H' b=ae)->∀b∈fp,Ja (cCx X scope C s2 H2 fp (X.pn++pins)) [] H' b:=λ{H'} hn b hb =>⟨hn b hb,(okc.exf b hb).1,okc.exfs b hb,.inl hb,(okc.exf b hb).2,λp hp=>by rw[Xq]at hp;exact(f2 b hb).2.2.2.2.2 p hp⟩
 have R0:Rep X.K ρ (mask cs σ) H2:=R2.weaken (U7 _ _) λj hj=>Oi λz=>hj (hcs j z);have e0:del (upd H2 Dd (.lst [])) [Dd]=H2:=by
  rw[Zw (xj.mpr rfl)]
  funext b
  by_cases z:b∈[Dd]
  .rw[ql z,xj.mp z,hD0]
  .exact j9 z
 have loop:∀s₃:ao,s₃={ s2 with heap:=h₁ } ->
   bK (aC X.prog X.w) X.A (.compLoop (.ListComp elt [⟨tg,iter,ifs,0⟩] scope pos) 0 (.ref it) (.ref Dd) (iT scope (aP (C+1) scope.names (qw X.env scope.names [])) C X.env)) (RR (.ref Dd) C) s₃:=by
  rintro s₃ rfl;refine Ru (λn s=>∃i σ' H' ys,Inv (cCx X scope C s2 H2 fp (X.pn++pins)) [] σ' H' s/\tn i s.heap/\(∀b∈fp,H' b=ae)/\i<=ds.length/\n=ds.length-i/\Rep X.K ρ σ' (del H' [Dd])/\j0 H2 (del H' [Dd])/\H' Dd=a8 (.lst ys) /\
   j4 X.K (del H' (Dd::owns ρ)) (((ds.take i).filter p).map g) ys) ?_ ds.length
   ⟨0,mask cs σ,upd H2 Dd (.lst []),[],I0,T.keep _ _ _ st2 (λb _ o e=>old b o e),λb hb=>by rw[je (X8 (fplt b hb))];exact(f2 b hb).1,Pj _,rfl,by rw[e0];exact R0,by rw[e0];exact j0.refl _,jb,rfl⟩
  rintro n s3 ⟨i,σ3,H3,ys,I3,st3,fr3,hle,rfl,R3,g3,m3,en3⟩;have F3:j0 (del H2 (owns ρ)) (del H3 (Dd::owns ρ)):=by
   have:del H3 (Dd::owns ρ)=del (del H3 [Dd]) (owns ρ):=by rw[Jv];rfl
   rw[this];exact jd g3
  obtain⟨go,stop,yld⟩:=ok i H3 (Dd::owns ρ) F3 λa ha=>by
   rcases xu.mp ha with e|ha
   .rw[e,m3];simp
   .obtain⟨xs,e⟩:=R3.owned a ha;rw[(of_del e).2];simp
  by_cases hlt:i<ds.length
  .refine thn (T.item (cCx X scope C s2 H2 fp (X.pn++pins)) rfl rfl rfl hc i [] s3 σ3 H3 (λ_ _=>False) I3 (fpok fr3) st3 (go hlt)) λr s4 ⟨u,hr,h4⟩=>?_;subst hr;refine thn h4 λ_ s5 ⟨x,H5,I5,r5,y5,st5,fr5⟩=>?_;obtain⟨g5,en5⟩:=yld x H5 y5;have hd:ds[i]?=a8 ds[i]:=kh hlt;obtain⟨ρ2,⟨sub,hG⟩,wk,eo,hT,hE⟩:=hb C s2 H2 fp (X.pn++pins) ds[i] (Ph hlt);have m5:H5 Dd=a8 (.lst ys):=g5 _ _ m3;have hA:∀a∈[Dd],Hd (H5 a):=λa ha=>.inl ⟨ys,by rw[xj.mp ha];exact m5⟩;have I5p:=I5.pinned (fpok fr5) (T.obj _ _ st5);have I5h:=I5p.hide hA;have R5:Rep X.K ρ σ3 (del H5 [Dd]):=R3.grow (jd g5);have en5':Enc X.K (del (del H5 [Dd]) (owns ρ)) ds[i] x:=by rw[Jv];exact en5 _ hd
   refine thn (hG σ3 (del H5 [Dd]) x (λσ6 F6=>F6=del H5 [Dd]/\Rep X.K ρ2 σ6 F6) R5 en5' (λσ6 R6=>⟨rfl,R6⟩) _ s5 u I5h r5) λ_ s6 ⟨σ6,F6,I6,e6,R6⟩=>?_;subst e6;refine thn (hT.run I6 R6) λokv s7 ⟨e7,F7,I7,g7⟩=>?_;subst e7;have R7:Rep X.K ρ σ6 F7:=wk _ _ _ (R6.grow g7);have g27:j0 H2 F7:=g3.trans ((jd g5).trans g7);have en7:j4 X.K (del F7 (owns ρ)) (((ds.take i).filter p).map g) ys:=en3.mono (by
    have:del H3 (Dd::owns ρ)=del (del H3 [Dd]) (owns ρ):=by rw[Jv];rfl
    rw[this];exact jd ((jd g5).trans g7))
   have ij:∀{F:Hp}{s':ao},Inv (cCx X scope C s2 H2 fp (X.pn++pins)) ([]++V9 fp s5.heap) σ6 F s'->Inv (cCx X scope C s2 H2 fp (X.pn++pins)) [] σ6 F s'/\tn (i+1) s'.heap/\∀b∈fp,F b=ae:=λ{F s'} I=>by refine⟨I.unpinned,T.keep _ _ _ st5 λb hb o e=>(I.pin (b,o) (Xa _ (Xa _ (J7 hb e)))).1,λb hb=>?_⟩;obtain⟨o,e,d⟩:=T.obj _ _ st5 b hb;exact(I.pin (b,o) (Xa _ (Xa _ (J7 hb e)))).2.1
   have tk:ds.take (i+1)=ds.take i++[ds[i]]:=by rw[t8,hd];rfl
   cases hp:p ds[i] with
   |false =>
    rw[if_neg xf];obtain⟨hF,I8⟩:=I5p.unhide hA I7;obtain⟨I9,st9,fr9⟩:=ij I8;refine⟨ds.length-(i+1),by omega,i+1,σ6,_,ys,I9,st9,fr9,hlt,rfl,by rw[Zx hF];exact R7,by rw[Zx hF];exact g27,by rw[vz (xj.mpr rfl)];exact m5,?_⟩;have:del (mrg [Dd] H5 F7) (Dd::owns ρ)=del F7 (owns ρ):=by
     have e:del (mrg [Dd] H5 F7) (Dd::owns ρ)=del (del (mrg [Dd] H5 F7) [Dd]) (owns ρ):=by rw[Jv];rfl
     rw[e,Zx hF]
    rw[this,tk,eP];have e:[ds[i]].filter p=[]:=by simp[hp]
    rw[e,Xq];exact en7
   |true =>
    rw[if_pos rfl];refine thn (hE hp σ6 F7 (λv F8=>j0 F7 F8/\Enc X.K (del F8 (owns ρ2)) (g ds[i]) v) (R6.grow g7) (λv F8 g8 e8=>⟨g8,e8⟩) _ s7 I7) λy s8 ⟨v,F8,I8,r8,g8,e8⟩=>?_;obtain⟨hF,I8'⟩:=I5p.unhide hA I8;rw[eo]at e8;have eH:del (mrg [Dd] H5 F8) (Dd::owns ρ)=del F8 (owns ρ):=by
     have e:del (mrg [Dd] H5 F8) (Dd::owns ρ)=del (del (mrg [Dd] H5 F8) [Dd]) (owns ρ):=by rw[Jv];rfl
     rw[e,Zx hF]
    have hlen:ys.length<av:=by have e1:=en7.length;have e2:((ds.take i).filter p).length<=(ds.take i).length:=Td _ _;rw[km]at e1;rw[Xp]at e2;omega
    refine thn (Ww _ s8 σ6 (mrg [Dd] H5 F8) (.ref Dd) [v] (.ref Dd) [y] (λ_ H9=>H9=upd (mrg [Dd] H5 F8) Dd (.lst (ys++[v]))) I8' rfl (.cons r8 .nil)
     ⟨Dd,ys,v,rfl,rfl,by rw[vz (xj.mpr rfl)];exact m5,hlen,rfl⟩) λ_ s9 ⟨_,H9,I9,_,e9⟩=>?_
    subst e9;obtain⟨I10,st10,fr10⟩:=ij I9;have ed:del (upd (mrg [Dd] H5 F8) Dd (.lst (ys++[v]))) [Dd]=F8:=by rw[Zw (xj.mpr rfl),Zx hF]
    refine⟨ds.length-(i+1),by omega,i+1,σ6,_,ys++[v],I10,st10,fr10,hlt,rfl,by rw[ed];exact R7.grow g8,by rw[ed];exact g27.trans g8,jb,?_⟩;rw[Zw (X3 ..),eH,tk,eP,Xl];have e:[ds[i]].filter p=[ds[i]]:=by simp[hp]
    rw[e];exact(en7.mono (jd g8)).append (.one e8)
  .have hi:i=ds.length:=by omega
   subst hi;refine thn (T.done (cCx X scope C s2 H2 fp (X.pn++pins)) rfl rfl rfl hc ds.length [] s3 σ3 H3 (λ_ _=>False) I3 (fpok fr3) st3 (stop (xx _))) λr s4 ⟨hr,I4⟩=>?_;subst hr;rw[T4]at en3;obtain⟨m,hm,_⟩:=I4.loc;refine hRR Dd C ys H3 s4 m ?_ (g3.trans jm) hD0 m3 en3 hm ⟨I4.free,Pn (Xy loclt hDlt),?_,λx c h=>X8 (Xy (celllt x c h) hDlt),λp hp=>X8 (Xy (pinlt p hp) hDlt)⟩
   .exact I2.call' (ch:=fp) I4.os I4.base I4.hok I4.bare λb hb=>⟨(f2 b hb).2.2.2.1,(f2 b hb).2.1,(f2 b hb).2.2.2.2.1,(f2 b hb).2.2.2.2.2⟩
   .have:=I2.sz;omega
 exact loop _ rfl
end
section
variable{X:Cx}{ρ:Rho}{tg elt iter:ar}{ifs:List ar}{scope:b8}{pos p1 spos:aM}{ds:List D}{cs:List Nat}{p:D->Bool}{g:D->D}{x:aq}{P:Po}
theorem Uc{env:cT}{N:List aq}(h:zq scope env N cs=aa):∀y∈scope.names,y.2=.free->(env.cells.lookup y.1).isSome=aa:=λy hy e=>by unfold zq at h;rw[Xb]at h;have:=Pa.mp h.1 y hy;simp only[Xb,bne_iff_ne,ne_eq,Tg]at this;exact this.2.elim (λz=>absurd e z) λz=>z.1
theorem Yh{env:cT}{N:List aq}(h:zq scope env N cs=aa):∀y∈scope.names,y.2=.local->scope.names.lookup y.1=a8 .local:=λy hy e=>by unfold zq at h;rw[Xb]at h;have:=Pa.mp h.1 y hy;simp only[Xb,bne_iff_ne,ne_eq,Tg,beq_iff_eq]at this;exact this.1.2.elim (λz=>absurd e z) λz=>z
theorem Inv.loose{pins:k7h}{σ:St}{H:Hp}{s:ao}{C:ai}{h':aF}(I:Inv X pins σ H s)(L:Loose X pins H C)(sb:cN C s.heap h'):Inv X pins σ H { s with heap:=h' } :=
 I.turned (t':=s.toks) (λb o hb e=>sb.extBut b o hb e) L.free L.loc (.inr L.new) L.cell L.pin
theorem DO.comp(cs:List Nat)(p:D->Bool)(g:D->D)(hi:DI X ρ tg iter ds)
  (hb:∀C s H fp pn,∀d∈ds,∃ρ2,DG (cCx X scope C s H fp pn) ρ tg d ρ2/\Wk ρ2 ρ/\owns ρ2=owns ρ/\DTs (cCx X scope C s H fp pn) ρ2 ifs (p d)/\(p d=aa->DE (cCx X scope C s H fp pn) ρ2 elt (g d)))
  (hcs:∀j∈cs,ρ[j]?=a8 .un) (hsz:ds.length<=av) (hc:X.calm=aa:=by rfl) (hkind:scope.kind=.function:=by rfl) (hok:zq scope X.env X.N cs=aa:=by rfl)
  (hs:∀x,aK iter X.env x=pure x:=by intro _;rfl):DO X ρ (.ListComp elt [⟨tg,iter,ifs,0⟩] scope pos) ((ds.filter p).map g):=λσ H Q R q pins s I=>by
 rw[lM];refine dN (use:=ae) rfl hs (Wa (Uc hok)) hkind (Yh hok) (thn (hi σ H (λJ H'=>j0 H H'/\Zz X.K (del H' (owns ρ)) J ds) R (λJ H' g1 ok=>⟨g1,ok⟩) pins s I) λv s1 h1=>thn h1 λitv s2 h2=>?_);obtain⟨it,fp,tn,J,H2,e,I2,T,st2,f2,g2,ok⟩:=h2;subst e;refine La (RR:=λacc C=>lC (aC X.prog X.w) X.A X.xe ae (EP X pins σ Q) acc C) I2 (R.grow g2) T st2 f2 ok hc hkind hok hcs hsz hb ?_;intro D C xs H' s' m I' gg n m' en hm L;exact⟨m,hm,λh' sb=>⟨.ref D,H',I'.loose L sb,rfl,q D xs H' (g2.trans gg) (g2.free n) m' en⟩⟩
theorem Wk.set{i:Nat}{d:D}(h:ρ[i]?=a8 .un):Wk (ρ.set i (.val d)) ρ:=λK σ H R=>by
 have q:=R.set_un (i:=i) (v:=(σ[i]?).join);have e:σ.set i ((σ[i]?).join)=σ:=by
  apply Tz;intro j;rw[dh];split
  .rename_i h;subst h;split
   .rename_i h;rw[kh h];rfl
   .rename_i h;rw[Xz nofun]
  .rfl
 have e2:(ρ.set i (.val d)).set i .un=ρ:=by
  rw[gO];apply Tz;intro j;rw[dh];split
  .rename_i z;subst z;split
   .rw[h]
   .rename_i z;rw[Xz nofun]at h;cases h
  .rfl
 rw[e,e2]at q;exact q
theorem Qs{i:Nat}{d:D}(h:ρ[i]?=a8 .un):owns (ρ.set i (.val d))=owns ρ:=Mx rfl λa l z=>by rw[h]at z;cases z
end
section
variable{prog:ay}{w:aD}{A:aG}{E:k7g}{s:ao}
theorem j2y{j t:ai}{k:Nat}{its:Array aj}{y:aj}{Q:k7g}(hj:s.heap.IsTupleIter j t k)(ht:s.heap.IsTuple t its)(hy:its[k]?=a8 y)
  (q:∀h',h'.IsTupleIter j t (k+1)->cN j s.heap h'->Q y { s with heap:=h' }):ax (aC prog w) A (aI (.ref j)) Q E s:=by
 obtain⟨o,ho,hc,hd⟩:=id hj;obtain⟨ot,hot,_,m,hdt⟩:=ht;unfold aI;refine af (bD (name:=cP "__next__") hj.typeIs bW (cL bW hj.typeIs gv ?_ (gb _)));show ax _ _ (ic (.ref j) 0 >>= _) _ _ s;refine af (aW ho hd (x:=.ref t) rfl ?_);show ax _ _ (if (aQ t==aZ)=aa then _ else _) _ _ s;rw[if_neg (show ¬((aQ t==aZ)=aa)from xf)];show ax _ _ (ic (.ref j) 1 >>= _) _ _ s;refine af (aW ho hd (x:=.int k 0) rfl ?_);show ax _ _ (gi (.ref t) >>= _) _ _ s;refine af (aX hot hdt ?_);simp only[Xd,hy];refine af (lz ho hd (by simp) (aw ⟨y,rfl,aw (q _ ?_ (bG ..))⟩));exact⟨_,Heap.get?_update_self _ ho (Obj.isFreed_of_fields (iw hd _)),(Obj.cls_mapFields ..).trans hc,by rw[iw hd];simp[gk]⟩
theorem j4t{j t:ai}{k:Nat}{its:Array aj}{Q:k7g}(hh:A.handled=ae)(hj:s.heap.IsTupleIter j t k)(ht:s.heap.IsTuple t its)(hy:its[k]?=ae)
  (q:∀h' x,fw j s.heap h'->(∃o,h'.get? x=a8 o/\o.cls=.type "StopIteration")->E (.ref x) { s with heap:=h' }):ax (aC prog w) A (aI (.ref j)) Q E s:=by
 obtain⟨o,ho,hc,hd⟩:=id hj;obtain⟨ot,hot,_,m,hdt⟩:=ht;unfold aI;refine af (bD (name:=cP "__next__") hj.typeIs bW (cL bW hj.typeIs gv ?_ (gb _)));show ax _ _ (ic (.ref j) 0 >>= _) _ _ s;refine af (aW ho hd (x:=.ref t) rfl ?_);show ax _ _ (if (aQ t==aZ)=aa then _ else _) _ _ s;rw[if_neg (show ¬((aQ t==aZ)=aa)from xf)];show ax _ _ (ic (.ref j) 1 >>= _) _ _ s;refine af (aW ho hd (x:=.int k 0) rfl ?_);show ax _ _ (gi (.ref t) >>= _) _ _ s;refine af (aX hot hdt ?_);simp only[Xd,hy];refine af (jK (af (lz ho hd (by simp) ?_)));show ax _ _ (newExc (.type "StopIteration") [] >>= _) _ _ _;refine af ?_;simp only[newExc,newTuple];refine af (bA ?_ (by size_fits));refine af (m:=lB _ _) (wpAny_of_eq (a:=aZ) (by first|rfl|(simp only[lB];rfl)) ?_);refine bA ?_ (by size_fits);simp only[raiseNew];refine af (wpAny_handled ?_)
 first|rw[show A.in1.handled=ae from hh]|rw[hh]
 refine af (aw (wpAny_throw ?_));exact q _ _ (((bG ..).extBut.push _).push _) ⟨_,X7 _ rfl,rfl⟩
end
def jh(lst:Bool)(h:aF)(j t:ai)(k:Nat):Prop:=if lst=aa then h.IsListIter j t k else h.IsTupleIter j t k
def jf(lst:Bool)(h:aF)(t:ai)(its:Array aj):Prop:=if lst=aa then h.IsList t its else h.IsTuple t its
section
variable{prog:ay}{w:aD}{A:aG}{E:k7g}{s:ao}{lst:Bool}{h h':aF}{j t b:ai}{k:Nat}{its:Array aj}
theorem jh.ext(x:jh lst h j t k)(e:fw b h h')(n:j≠b):jh lst h' j t k:=by
 unfold jh at x ⊢;cases lst with
 |true=>rw[if_pos rfl]at x ⊢;exact x.extBut e n
 |false=>rw[if_neg xf]at x ⊢;exact x.extBut e n
theorem jh.stay(x:jh lst h j t k)(e:∀o,h.get? j=a8 o->h'.get? j=a8 o):jh lst h' j t k:=by
 unfold jh at x ⊢;cases lst with
 |true=>rw[if_pos rfl]at x ⊢;exact x.at e
 |false=>rw[if_neg xf]at x ⊢;exact x.at e
theorem jh.obj(x:jh lst h j t k):∃o,h.get? j=a8 o/\∀v,o.data≠.cell v:=by
 unfold jh at x;cases lst with
 |true=>rw[if_pos rfl]at x;obtain⟨o,e,c,d⟩:=x;exact⟨o,e,λv z=>by rw[d]at z;cases z⟩
 |false=>rw[if_neg xf]at x;obtain⟨o,e,c,d⟩:=x;exact⟨o,e,λv z=>by rw[d]at z;cases z⟩
theorem jf.ext(x:jf lst h t its)(e:fw b h h')(n:t≠b):jf lst h' t its:=by
 unfold jf at x ⊢;cases lst with
 |true=>rw[if_pos rfl]at x ⊢;exact x.extBut e n
 |false=>rw[if_neg xf]at x ⊢;exact x.extBut e n
theorem Yo{y:aj}{Q:k7g}(hj:jh lst s.heap j t k)(ht:jf lst s.heap t its)(hy:its[k]?=a8 y)
  (q:∀h',jh lst h' j t (k+1)->cN j s.heap h'->Q y { s with heap:=h' }):ax (aC prog w) A (aI (.ref j)) Q E s:=by
 unfold jh at hj q;unfold jf at ht;cases lst with
 |true=>rw[if_pos rfl]at hj ht;simp only[if_true]at q;exact wpAny_nextOf_list_item hj ht hy q
 |false=>rw[if_neg xf]at hj ht;simp only[Pz,if_false]at q;exact j2y hj ht hy q
theorem Uy{Q:k7g}(hh:A.handled=ae)(hj:jh lst s.heap j t k)(ht:jf lst s.heap t its)(hy:its[k]?=ae)
  (q:∀h' x,fw j s.heap h'->(∃o,h'.get? x=a8 o/\o.cls=.type "StopIteration")->E (.ref x) { s with heap:=h' }):ax (aC prog w) A (aI (.ref j)) Q E s:=by
 unfold jh at hj;unfold jf at ht;cases lst with
 |true=>rw[if_pos rfl]at hj ht;exact wpAny_nextOf_list_end hh hj ht hy q
 |false=>rw[if_neg xf]at hj ht;exact j4t hh hj ht hy q
end
section
variable{prog:ay}{w:aD}{A:aG}{E:k7g}{s:ao}{l1 l2:Bool}{z TI TO i1 i2 t1 t2:ai}{k:Nat}{us vs:Array aj}{x y a b:aj}
theorem j3g{Q:k7g}(D:gW z TI TO i1 i2 t1 t2)(hz:dU s.heap z TI TO .none)(hTI:bR s.heap TI (.ref i1) (.ref i2))(hTO:bR s.heap TO a b)
  (h1:jh l1 s.heap i1 t1 k) (h2:jh l2 s.heap i2 t2 k) (q1:jf l1 s.heap t1 us) (q2:jf l2 s.heap t2 vs) (hx:us[k]?=a8 x) (hy:vs[k]?=a8 y)
  (q:∀h',dU h' z TI TO (gk s.heap.objs.size)->bR h' TO x y->jh l1 h' i1 t1 (k+1)->jh l2 h' i2 t2 (k+1)->bR h' s.heap.objs.size x y->h'.objs.size=s.heap.objs.size+1 ->
   (∀c o,c≠z->c≠TO->c≠i1->c≠i2->s.heap.get? c=a8 o->h'.get? c=a8 o)->Q (.ref s.heap.objs.size) { s with heap:=h' }) :
  ax (aC prog w) A (df.«zip.__next__» ⟨[.ref z],[]⟩) (λfin s'=>∃v,fin=.done (.ret v)/\Q v s') E s:=by
 show ax _ _ (ic (.ref z) 2 >>= _) _ _ _;refine af (aW hz rfl (x:=.bool a9) rfl ?_);show ax _ _ (ic (.ref z) 3 >>= _) _ _ _;refine af (aW hz rfl (x:=.ref TI) rfl (af (aX hTI rfl ?_)));show ax _ _ (b7 (.ref z) >>= _) _ _ _;refine af ?_;unfold b7;refine af (aW hz rfl (x:=.none) rfl (aw ?_));simp only[if_true];refine af (jK (af (aW hz rfl (x:=.ref TO) rfl (af (bJ hz (by simp) λg₁ z₁ s₁=>?_)))));have z₁:dU g₁ z TI TO .ellipsis:=z₁;refine af ?_;simp only[iM,iY,fM,g4];refine af (af (fm ?_));show ax _ _ (aI (.ref i1) >>= _) _ _ _;refine af (Yo (h1.ext s₁.extBut D.i1z) (q1.ext s₁.extBut D.l1z) hx λg₂ h1₂ s₂=>aw ?_);have o₂:bR g₂ TO a b:=s₂.extBut _ _ D.TOi1 (s₁.extBut _ _ D.TOz hTO);refine af (aX o₂ rfl (af (eR o₂ λg₃ o₃ s₃=>?_)));have o₃:bR g₃ TO x b:=o₃;refine af (cQ (aw (af (af (fm ?_)))));show ax _ _ (aI (.ref i2) >>= _) _ _ _;refine af (Yo (((h2.ext s₁.extBut D.i2z).ext s₂.extBut D.i12.symm).ext s₃.extBut D.TOi2.symm) (((q2.ext s₁.extBut D.l2z).ext s₂.extBut D.l2i1).ext s₃.extBut D.l2TO) hy λg₄ h2₄ s₄=>aw ?_);have o₄:bR g₄ TO x b:=s₄.extBut _ _ D.TOi2 o₃;refine af (aX o₄ rfl (af (eR o₄ λg₅ o₅ s₅=>?_)));have o₅:bR g₅ TO x y:=o₅;refine af (cQ (aw (aw (af (aX o₅ rfl (af (wpAny_newTuple ?_)))))));have sz:g₅.objs.size=s.heap.objs.size:=by rw[s₅.1,s₄.1,s₃.1,s₂.1,s₁.1]
 have z₅:dU g₅ z TI TO .ellipsis:=s₅.extBut _ _ D.TOz.symm (s₄.extBut _ _ D.i2z.symm (s₃.extBut _ _ D.TOz.symm (s₂.extBut _ _ D.i1z.symm z₁)));have kp:∀c o,c≠z->c≠TO->c≠i1->c≠i2->s.heap.get? c=a8 o->g₅.get? c=a8 o:=λc o n1 n2 n3 n4 e=>s₅.extBut _ _ n2 (s₄.extBut _ _ n4 (s₃.extBut _ _ n2 (s₂.extBut _ _ n3 (s₁.extBut _ _ n1 e))));have h1₅:jh l1 g₅ i1 t1 (k+1):=((h1₂.ext s₃.extBut D.TOi1.symm).ext s₄.extBut D.i12).ext s₅.extBut D.TOi1.symm;have h2₅:jh l2 g₅ i2 t2 (k+1):=h2₄.ext s₅.extBut D.TOi2.symm;have zlt:z<g₅.objs.size:=xn z₅;show ax _ _ (cU (.ref z) (.ref g₅.objs.size) >>= _) _ _ _;refine af ?_;unfold cU;have z₆:dU (g₅.push { cls:=.type "tuple",data:=.seq #[x,y] }) z TI TO .ellipsis:=xg _ z₅;refine af (bJ z₆ (by simp) λg₇ z₇ s₇=>?_);have z₇:dU g₇ z TI TO (gk g₅.objs.size):=z₇;refine bJ z₇ (by simp) λg₈ z₈ s₈=>?_;have z₈:dU g₈ z TI TO (gk g₅.objs.size):=z₈;have up:∀c o,c≠z->g₅.get? c=a8 o->g₈.get? c=a8 o:=λc o n e=>s₈.extBut _ _ n (s₇.extBut _ _ n (xg _ e));have p₈:bR g₈ g₅.objs.size x y:=s₈.extBut _ _ (Pn zlt) (s₇.extBut _ _ (Pn zlt) (X7 _ rfl));have e₈:g₈.objs.size=g₅.objs.size+1:=by rw[s₈.1,s₇.1,Pb]
 rw[sz]at z₈ p₈ e₈;refine aw ⟨_,rfl,?_⟩;show Q (.ref g₅.objs.size) _;rw[sz];exact q g₈ z₈ (up _ _ D.TOz o₅) (h1₅.stay λo e=>up _ o D.i1z e) (h2₅.stay λo e=>up _ o D.i2z e) p₈ e₈ λc o n1 n2 n3 n4 e=>up c o n1 (kp c o n1 n2 n3 n4 e)
theorem j5j{Q:l5->ao->Prop}(hh:A.handled=ae)(D:gW z TI TO i1 i2 t1 t2)(hz:dU s.heap z TI TO .none)(hTI:bR s.heap TI (.ref i1) (.ref i2))(hTO:bR s.heap TO a b)
  (h1:jh l1 s.heap i1 t1 k) (h2:jh l2 s.heap i2 t2 k) (q1:jf l1 s.heap t1 us) (q2:jf l2 s.heap t2 vs) (hend:us[k]?=ae\/vs[k]?=ae)
  (q:∀h' e,(∀c o,c≠z->c≠TO->c≠i1->c≠i2->s.heap.get? c=a8 o->h'.get? c=a8 o)->(∃o,h'.get? e=a8 o/\o.cls=.type "StopIteration")->E (.ref e) { s with heap:=h' }) :
  ax (aC prog w) A (df.«zip.__next__» ⟨[.ref z],[]⟩) Q E s:=by
 show ax _ _ (ic (.ref z) 2 >>= _) _ _ _;refine af (aW hz rfl (x:=.bool a9) rfl ?_);show ax _ _ (ic (.ref z) 3 >>= _) _ _ _;refine af (aW hz rfl (x:=.ref TI) rfl (af (aX hTI rfl ?_)));show ax _ _ (b7 (.ref z) >>= _) _ _ _;refine af ?_;unfold b7;refine af (aW hz rfl (x:=.none) rfl (aw ?_));simp only[if_true];refine af (jK (af (aW hz rfl (x:=.ref TO) rfl (af (bJ hz (by simp) λg₁ z₁ s₁=>?_)))));have z₁:dU g₁ z TI TO .ellipsis:=z₁;refine af ?_;simp only[iM,iY,fM,g4];refine af (af (fm ?_));show ax _ _ (aI (.ref i1) >>= _) _ _ _;cases hx:us[k]? with
 |none =>
  refine af (Uy hh (h1.ext s₁.extBut D.i1z) (q1.ext s₁.extBut D.l1z) hx λg₂ e s₂ he=>?_);obtain⟨oe,hoe,hce⟩:=he;have z₂:dU g₂ z TI TO .ellipsis:=s₂ _ _ D.i1z.symm z₁;have ez:e≠z:=λx=>by subst x;rw[z₂]at hoe;cases hoe;simp at hce
  exact bJ z₂ (by simp) λg₃ _ s₃=>q g₃ e (λc o n1 _ n3 _ x=>s₃.extBut _ _ n1 (s₂ _ _ n3 (s₁.extBut _ _ n1 x))) ⟨oe,s₃.extBut _ _ ez hoe,hce⟩
 |some x =>
  have hy:vs[k]?=ae:=by rcases hend with h|h;rw[hx]at h;cases h;exact h
  refine af (Yo (h1.ext s₁.extBut D.i1z) (q1.ext s₁.extBut D.l1z) hx λg₂ h1₂ s₂=>aw ?_);have o₂:bR g₂ TO a b:=s₂.extBut _ _ D.TOi1 (s₁.extBut _ _ D.TOz hTO);refine af (aX o₂ rfl (af (eR o₂ λg₃ o₃ s₃=>?_)));refine af (cQ (aw (af (af (fm ?_)))));show ax _ _ (aI (.ref i2) >>= _) _ _ _;refine af (Uy hh (((h2.ext s₁.extBut D.i2z).ext s₂.extBut D.i12.symm).ext s₃.extBut D.TOi2.symm) (((q2.ext s₁.extBut D.l2z).ext s₂.extBut D.l2i1).ext s₃.extBut D.l2TO) hy λg₄ e s₄ he=>?_);obtain⟨oe,hoe,hce⟩:=he;have z₄:dU g₄ z TI TO .ellipsis:=s₄ _ _ D.i2z.symm (s₃.extBut _ _ D.TOz.symm (s₂.extBut _ _ D.i1z.symm z₁));have ez:e≠z:=λx=>by subst x;rw[z₄]at hoe;cases hoe;simp at hce
  exact bJ z₄ (by simp) λg₅ _ s₅=>q g₅ e (λc o n1 n2 n3 n4 x=>s₅.extBut _ _ n1 (s₄ _ _ n4 (s₃.extBut _ _ n2 (s₂.extBut _ _ n3 (s₁.extBut _ _ n1 x))))) ⟨oe,s₅.extBut _ _ ez hoe,hce⟩
theorem Eg{Q:Option aj->ao->Prop}(D:gW z TI TO i1 i2 t1 t2)(hz:dU s.heap z TI TO .none)(hTI:bR s.heap TI (.ref i1) (.ref i2))(hTO:bR s.heap TO a b)
  (h1:jh l1 s.heap i1 t1 k) (h2:jh l2 s.heap i2 t2 k) (q1:jf l1 s.heap t1 us) (q2:jf l2 s.heap t2 vs) (hx:us[k]?=a8 x) (hy:vs[k]?=a8 y)
  (q:∀h',dU h' z TI TO (gk s.heap.objs.size)->bR h' TO x y->jh l1 h' i1 t1 (k+1)->jh l2 h' i2 t2 (k+1)->bR h' s.heap.objs.size x y->h'.objs.size=s.heap.objs.size+1 ->
   (∀c o,c≠z->c≠TO->c≠i1->c≠i2->s.heap.get? c=a8 o->h'.get? c=a8 o)->Q (a8 (.ref s.heap.objs.size)) { s with heap:=h' }):ax (aC prog w) A (dO (.ref z)) Q E s:=by
 have T:s.TypeIs (.ref z) "zip":=⟨_,hz,rfl⟩
 unfold dO;exact af (lK (bD (name:=cP "__next__") T dW (cL dW T jI
  (j3g D hz hTI hTO h1 h2 q1 q2 hx hy λh' a1 a2 a3 a4 a5 a6 a7=>aw (q h' a1 a2 a3 a4 a5 a6 a7)) (jD _))))
theorem j0q{Q:Option aj->ao->Prop}(hh:A.handled=ae)(D:gW z TI TO i1 i2 t1 t2)(hz:dU s.heap z TI TO .none)(hTI:bR s.heap TI (.ref i1) (.ref i2))(hTO:bR s.heap TO a b)
  (h1:jh l1 s.heap i1 t1 k) (h2:jh l2 s.heap i2 t2 k) (q1:jf l1 s.heap t1 us) (q2:jf l2 s.heap t2 vs) (hend:us[k]?=ae\/vs[k]?=ae)
  (q:∀h',(∀c o,c≠z->c≠TO->c≠i1->c≠i2->s.heap.get? c=a8 o->h'.get? c=a8 o)->Q ae { s with heap:=h' }):ax (aC prog w) A (dO (.ref z)) Q E s:=by
 have T:s.TypeIs (.ref z) "zip":=⟨_,hz,rfl⟩
 unfold dO;refine af (lK (bD (name:=cP "__next__") T dW (cL dW T jI
  (j5j hh D hz hTI hTO h1 h2 q1 q2 hend λh' e kp he=>?_) (jD _))))
 obtain⟨o,ho,hc⟩:=he;exact af (wpAny_isInstance (T:="StopIteration") (b:=aa) ⟨o,ho,hc⟩ isSubtype_stop (aw (q _ kp)))
end
noncomputable def O8(lst:Bool):String:=if lst=aa then "list_iterator" else "tuple_iterator"
noncomputable abbrev zh1(h:aF)(l1:Bool)(t1:ai):aF:=h.push { cls:=.type (O8 l1),data:=.fields #[.ref t1,.int 0 0] }
noncomputable abbrev zh2(h:aF)(l1 l2:Bool)(t1 t2:ai):aF:=(zh1 h l1 t1).push { cls:=.type (O8 l2),data:=.fields #[.ref t2,.int 0 0] }
noncomputable abbrev zh3(h:aF)(l1 l2:Bool)(t1 t2:ai):aF:=(zh2 h l1 l2 t1 t2).push { cls:=.type "tuple",data:=.seq #[.ref h.objs.size,.ref (zh1 h l1 t1).objs.size] }
noncomputable abbrev zh4(h:aF)(l1 l2:Bool)(t1 t2:ai):aF:=(zh3 h l1 l2 t1 t2).push { cls:=.type "tuple",data:=.seq #[.none,.none] }
noncomputable abbrev zh5(h:aF)(l1 l2:Bool)(t1 t2:ai):aF:=(zh4 h l1 l2 t1 t2).push { cls:=.type "zip",data:=.fields #[.none,.bool a9,.bool a9,.ref (zh2 h l1 l2 t1 t2).objs.size,.ref (zh3 h l1 l2 t1 t2).objs.size] }
section
variable{prog:ay}{w:aD}{A:aG}{E:k7g}{s:ao}{l1 l2:Bool}{t1 t2:ai}{us vs:Array aj}
theorem Vc{lst:Bool}{t:ai}{its:Array aj}{Q:k7g}(h:jf lst s.heap t its)(q:Q (.ref s.heap.objs.size) { s with heap:=zh1 s.heap lst t }):ax (aC prog w) A (iB (.ref t)) Q E s:=by
 unfold jf at h;cases lst with
 |true=>rw[if_pos rfl]at h;exact bx h q
 |false=>rw[if_neg xf]at h;exact fC h q
theorem jf.push{lst:Bool}{h:aF}{t:ai}{its:Array aj}(x:jf lst h t its)(o:d7):jf lst (h.push o) t its:=by
 unfold jf at x ⊢;cases lst with
 |true=>rw[if_pos rfl]at x ⊢;exact x.push o
 |false=>rw[if_neg xf]at x ⊢;exact x.push o
theorem j8u (t1 t2:ai) (us vs:Array aj):iW (df.«zip.__new__» ⟨[.type "zip",.ref t1,.ref t2],[]⟩) (λ_ R s=>jf l1 s.heap t1 us/\jf l2 s.heap t2 vs /\
   R (.ok (.ret (.ref (zh4 s.heap l1 l2 t1 t2).objs.size))) { s with heap:=zh5 s.heap l1 l2 t1 t2 }) :=
 .of_wp λprog w A R s h=>by
  obtain⟨hp,g,d,tk,os⟩:=s;obtain⟨h1,h2,h⟩:=h;have hsub:=sub_zip;have e1:jf l1 (Shared.heap ⟨hp,g,d,tk,os⟩) t1 us:=h1;have e2:jf l2 (Shared.heap ⟨zh1 hp l1 t1,g,d,tk,os⟩) t2 vs:=h2.push _
  wp_walk using Vc e1,Vc e2
  exact⟨_,rfl,h⟩
end
def SqB(K:k7f)(lst:Bool)(H:Hp)(a:ai)(xs:List V):Prop:=if lst=aa then SqL K H a xs else SqT K H a xs
section
variable{X:Cx}{pins:k7h}{σ:St}{H:Hp}{s:ao}{a p:ai}{xs ys:List V}{lst:Bool}{ch:List ai}{h':aF}
theorem j0.seqB{K:k7f}{H':Hp}(e:j0 H H')(h:SqB K lst H a xs):SqB K lst H' a xs:=by
 unfold SqB at h ⊢;cases lst with
 |true=>rw[if_pos rfl]at h ⊢;exact e.seq h
 |false=>rw[if_neg xf]at h ⊢;exact e.seqT h
theorem Inv.side(I:Inv X pins σ H s)(h:SqB X.K lst H a xs):∃us:List aj,Vals xs us/\jf lst s.heap a us.toArray/\xs.length<=av:=by
 unfold SqB at h;unfold jf;cases lst with
 |true=>rw[if_pos rfl]at h;obtain⟨its,r,q,l⟩:=I.list h;exact⟨its,r,by rw[if_pos rfl];exact q.isList,l⟩
 |false=>rw[if_neg xf]at h;obtain⟨its,r,q,l⟩:=I.tuple h;exact⟨its,r,by rw[if_neg xf];exact q,l⟩
theorem Inv.side_inj(I:Inv X pins σ H s)(h:SqB X.K lst H a xs)(h':SqB X.K lst H a ys):xs=ys:=by
 unfold SqB at h h';cases lst with
 |true=>rw[if_pos rfl]at h h';exact I.list_inj h h'
 |false=>rw[if_neg xf]at h h';exact I.tuple_inj h h'
theorem Inv.chg(I:Inv X pins σ H s)(hf:∀b∈ch,Ja X pins H b)(kp:∀c o,c∉ch->s.heap.get? c=a8 o->h'.get? c=a8 o):Inv X pins σ H { s with heap:=h' }:=by
 refine I.step (g':=s.gens) (t':=s.toks) (d':=s.drawn) (ch:=ch) (λb hb=>⟨(hf b hb).2.2.2.1,(hf b hb).2.1,(hf b hb).2.2.2.2.1,(hf b hb).2.2.2.2.2⟩) (λb o _ _ nc e _=>kp b o nc e) (λb o _ _ nc e _=>⟨o.slots,kp b o nc e⟩)
  (λb o _ _ n=>n) (λb o nc e=>⟨o,kp b o nc e⟩) (λb xs e=>e) (λb o u e=>e) (λb ps e=>⟨#[],by rw[e];simp⟩) (λm hm=>hm.at' λo e=>kp _ o (λz=>(hf _ z).2.1 rfl) e) (λc o e=>?_) I.bare
 have out:∀{b:ai}{u:HO},H b=a8 u->b∉ch:=λ{b u} q z=>by rw[(hf b z).1]at q;cases q
 refine jo.stay (I.hok c o e) (λb u hb q=>kp b u ?_ q) (λb q=>q) (λb xs q=>q) (λb _ _ q=>q);rcases hb with hb|hb
 .subst hb;exact out e
 .exact out hb
theorem Inv.chgT(I:Inv X pins σ H s)(hf:∀b∈ch,Ja X pins H b)(kp:∀c o,c∉ch->s.heap.get? c=a8 o->h'.get? c=a8 o){us:List aj}(rv:Vals xs us)(hl:xs.length<=av)
  (hp:gz h' s.heap.objs.size us.toArray) (hq:Zm h' s.heap.objs.size):Inv X pins σ (upd H s.heap.objs.size (.tup xs)) { s with heap:=h' }:=by
 have hn:=I.fresh;have nz:∀{b:ai}{o:d7},s.heap.get? b=a8 o->b≠s.heap.objs.size:=λ{b o} e=>X8 (xn e);have tr:∀{b:ai}{u:HO},H b=a8 u->upd H s.heap.objs.size (.tup xs) b=a8 u:=λ{b u} e=>by rw[je (J6 e hn)];exact e
 refine I.step (g':=s.gens) (t':=s.toks) (d':=s.drawn) (ch:=ch) (λb hb=>⟨(hf b hb).2.2.2.1,(hf b hb).2.1,(hf b hb).2.2.2.2.1,(hf b hb).2.2.2.2.2⟩) (λb o _ _ nc e _=>kp b o nc e) (λb o _ _ nc e _=>⟨o.slots,kp b o nc e⟩)
  (λb o _ e n=>by rw[je (nz e)];exact n) (λb o nc e=>⟨o,kp b o nc e⟩) (λb xs e=>tr e) (λb o u e=>tr e) (λb ps e=>⟨#[],by rw[tr e];simp⟩) (λm hm=>hm.at' λo e=>kp _ o (λz=>(hf _ z).2.1 rfl) e) (λc o e=>?_) I.bare
 have out:∀{b:ai}{u:HO},H b=a8 u->b∉ch:=λ{b u} q z=>by rw[(hf b z).1]at q;cases q
 by_cases z:c=s.heap.objs.size
 .subst z;rw[jb]at e;cases e;exact⟨hl,us,rv,hp,hq⟩
 .rw[je z]at e;refine jo.stay (I.hok c o e) (λb u hb q=>kp b u ?_ q) (λb q=>tr q) (λb xs q=>tr q) (λb _ _ q=>tr q);rcases hb with hb|hb
  .subst hb;exact out e
  .exact out hb
end
noncomputable def Itz(K:k7f)(l1 l2:Bool)(t1 t2:ai):It :=
 ⟨λi H=>∃xs ys x y,SqB K l1 H t1 xs/\SqB K l2 H t2 ys/\xs[i]?=a8 x/\ys[i]?=a8 y,
 λi H v H'=>∃p x y,v=.ref p/\H p=ae/\H'=upd H p (.tup [x,y])/\(∀xs,SqB K l1 H t1 xs->xs[i]?=a8 x)/\∀ys,SqB K l2 H t2 ys->ys[i]?=a8 y,
 λi H=>∃xs ys,SqB K l1 H t1 xs/\SqB K l2 H t2 ys/\(xs.length<=i\/ys.length<=i)⟩
theorem j5n{P:ay}{w:aD}{K:k7f}{es:List ar}{n:Nat}{pos:aM}{l1 l2:Bool}{z TI TO i1 i2 t1 t2:ai}(D:gW z TI TO i1 i2 t1 t2) :
  Turn P w K (.Tuple es n pos) (Itz K l1 l2 t1 t2) [z,TI,TO,i1,i2] z (λi h=>dU h z TI TO .none/\bR h TI (.ref i1) (.ref i2)/\(∃a b,bR h TO a b)/\jh l1 h i1 t1 i/\jh l2 h i2 t2 i) where
 mem:=by simp
 obj:=λi h ⟨hz,hTI,⟨a,b,hTO⟩,h1,h2⟩ c hc=>by
  simp at hc;rcases hc with rfl|rfl|rfl|rfl|rfl
  .exact⟨_,hz,λv e=>by cases e⟩
  .exact⟨_,hTI,λv e=>by cases e⟩
  .exact⟨_,hTO,λv e=>by cases e⟩
  .exact h1.obj
  .exact h2.obj
 keep:=λi h h' ⟨hz,hTI,⟨a,b,hTO⟩,h1,h2⟩ k=>⟨k z (by simp) _ hz,k TI (by simp) _ hTI,⟨a,b,k TO (by simp) _ hTO⟩,h1.stay λo e=>k i1 (by simp) o e,h2.stay λo e=>k i2 (by simp) o e⟩
 item:=by
  rintro X hP hw hK hc i pins s σ H E I hf ⟨hz,hTI,⟨a,b,hTO⟩,h1,h2⟩ ⟨xs,ys,x,y,sx,sy,hx,hy⟩;subst hP hw hK;obtain⟨us,ru,qu,_⟩:=I.side sx;obtain⟨vs,rv,qv,_⟩:=I.side sy;obtain⟨u,hu,rx⟩:=ru.get hx;obtain⟨v,hv,ry⟩:=rv.get hy;refine Eg D hz hTI hTO h1 h2 qu qv (by simpa using hu) (by simpa using hv) λh' z' o' j1 j2 p' sz kp=>⟨_,rfl,?_⟩
  refine wpAny_letOwnedTupleGo_zip (s:={ s with heap:=h' }) z' λh'' z'' sb=>?_;have zlt:z<s.heap.objs.size:=xn hz;have kp':∀c o,c∉[z,TO,i1,i2]->s.heap.get? c=a8 o->h''.get? c=a8 o:=λc o nc e=>by simp at nc;exact sb.extBut _ _ nc.1 (kp c o nc.1 nc.2.1 nc.2.2.1 nc.2.2.2 e)
  have hf':∀c∈[z,TO,i1,i2],Ja X pins H c:=λc hc=>hf c (by simp at hc ⊢;rcases hc with h|h|h|h<;>simp[h]);have pt:gz h'' s.heap.objs.size [u,v].toArray:=⟨_,sb.extBut _ _ (Pn zlt) p',rfl,_,rfl⟩
  refine⟨.ref s.heap.objs.size,_,I.chgT hf' kp' (xs:=[x,y]) (.cons rx (.cons ry .nil)) (by show 2<=av;decide) pt (Zm.of (sb.extBut _ _ (Pn zlt) p')),rfl,⟨_,x,y,rfl,I.fresh,rfl,λws hw=>by rw[I.side_inj hw sx];exact hx,λws hw=>by rw[I.side_inj hw sy];exact hy⟩,?_,λc hc=>?_⟩
  .refine⟨z'',?_,⟨u,v,sb.extBut _ _ D.TOz o'⟩,j1.ext sb.extBut D.i1z,j2.ext sb.extBut D.i2z⟩;exact sb.extBut _ _ D.TIz (kp TI _ D.TIz D.TITO D.TIi1 D.TIi2 hTI)
  .obtain⟨o,e,_⟩:∃o,s.heap.get? c=a8 o/\True:=by
    simp at hc;rcases hc with rfl|rfl|rfl|rfl|rfl
    .exact⟨_,hz,trivial⟩
    .exact⟨_,hTI,trivial⟩
    .exact⟨_,hTO,trivial⟩
    .obtain⟨o,e,_⟩:=h1.obj;exact⟨o,e,trivial⟩
    .obtain⟨o,e,_⟩:=h2.obj;exact⟨o,e,trivial⟩
   rw[je (X8 (xn e))];exact(hf c hc).1
 done:=by
  rintro X hP hw hK hc i pins s σ H E I hf ⟨hz,hTI,⟨a,b,hTO⟩,h1,h2⟩ ⟨xs,ys,sx,sy,hend⟩;subst hP hw hK;obtain⟨us,ru,qu,_⟩:=I.side sx;obtain⟨vs,rv,qv,_⟩:=I.side sy;have e1:=ru.length;have e2:=rv.length;have hf':∀c∈[z,TO,i1,i2],Ja X pins H c:=λc hc=>hf c (by simp at hc ⊢;rcases hc with h|h|h|h<;>simp[h]);refine j0q (I.ok.hd hc) D hz hTI hTO h1 h2 qu qv ?_ λh' kp=>⟨rfl,I.chg hf' λc o nc e=>?_⟩
  .rcases hend with h|h
   .left;simp;omega
   .right;simp;omega
  .simp at nc;exact kp c o nc.1 nc.2.1 nc.2.2.1 nc.2.2.2 e
 self:=λ_ _ _ _ _ st h=>kv st.1 h
section
variable{X:Cx}{ρ:Rho}{a b:ar}{es:List ar}{n:Nat}{pos p q1 q2:aM}{ds ds':List D}{l1 l2:Bool}
noncomputable def D.seq(lst:Bool)(ds:List D):D:=if lst=aa then .lst ds else .tup ds
theorem Qj{K:k7f}{H:Hp}{lst:Bool}{v:V}(h:Enc K H (D.seq lst ds) v):∃t xs,v=.ref t/\SqB K lst H t xs/\j4 K H ds xs:=by
 unfold D.seq at h;unfold SqB;cases lst with
 |true=>rw[if_pos rfl]at h;obtain⟨t,xs,e,s,l⟩:=h;exact⟨t,xs,e,by rw[if_pos rfl];exact s,l⟩
 |false=>rw[if_neg xf]at h;obtain⟨t,xs,e,s,l⟩:=h;exact⟨t,xs,e,by rw[if_neg xf];exact s,l⟩
noncomputable def Zr(ds ds':List D):List D:=(ds.zip ds').map λp=>D.tup [p.1,p.2]
theorem j6q{K:k7f}{F:Hp}{t1 t2:ai}{xs ys:List V}(s1:SqB K l1 F t1 xs)(s2:SqB K l2 F t2 ys)(e1:j4 K F ds xs)(e2:j4 K F ds' ys):Zz K F (Itz K l1 l2 t1 t2) (Zr ds ds'):=λi H A g hA=>by
 have s1':SqB K l1 H t1 xs:=jm.seqB (g.seqB s1);have s2':SqB K l2 H t2 ys:=jm.seqB (g.seqB s2);have hl:(Zr ds ds').length=min ds.length ds'.length:=by unfold Zr;rw[km,jv]
 refine⟨λh=>?_,λh=>⟨xs,ys,s1',s2',?_⟩,λv H' ⟨p,x,y,ev,np,eH,hx,hy⟩=>?_⟩
 .rw[hl]at h;obtain⟨x,hx,_⟩:=e1.get (kh (show i<ds.length by omega));obtain⟨y,hy,_⟩:=e2.get (kh (show i<ds'.length by omega));exact⟨xs,ys,x,y,s1',s2',hx,hy⟩
 .rw[hl]at h;rw[e1.length,e2.length];omega
 .subst eH;refine⟨j8 np,λd hd=>?_⟩;unfold Zr at hd;rw[xq]at hd;cases z:(ds.zip ds')[i]? with
  |none=>rw[z]at hd;cases hd
  |some pr =>rw[z]at hd;cases hd;obtain⟨h1,h2⟩:=List.getElem?_zip_eq_some.mp z;obtain⟨x',hx',ex⟩:=e1.get h1;obtain⟨y',hy',ey⟩:=e2.get h2;have q1:=hx xs s1';have q2:=hy ys s2';rw[hx']at q1;cases q1;rw[hy']at q2;cases q2;have pA:p∉A:=λz=>hA p z np;have gg:j0 F (del (upd H p (.tup [x,y])) A):=g.trans (jd (j8 np));exact⟨p,[x,y],ev,.inl (.inl (by rw[j9 pA];exact jb)),x,[y],rfl,ex.mono gg,y,[],rfl,ey.mono gg,rfl⟩
theorem DI.zip (l1 l2:Bool) (ha:DE X ρ a (D.seq l1 ds)) (hb:DE X ρ b (D.seq l2 ds')) (hm:X.mg "zip" = ae) (hg:Gl X "zip":=by rfl) (hs:ah [a,b] X.env=(a9,aE a X.env)::ah [b] X.env:=by rfl)
  (hs2:ah [b] X.env=(a9,aE b X.env)::ah [] X.env:=by rfl) (hpl:(aR pos (ah [b] X.env)).any (·.1)=a9:=by rfl):DI X ρ (.Tuple es n q1) (.Call (.Name "zip" p) [a,b] [] pos) (Zr ds ds'):=λσ H R r q pins s I=>by
 have args:Y5 X [a,b] σ H (λvs H'=>∃v u,vs=[v,u]/\j0 H H'/\Enc X.K (del H' (owns ρ)) (D.seq l1 ds) v/\Enc X.K (del H' (owns ρ)) (D.seq l2 ds') u) :=
  (jc peS (jc peS jx hs2) hs).to (ha σ H _ r λv H1 g1 e1=>hb σ H1 _ (r.grow g1) λu H2 g2 e2=>⟨v,u,rfl,g1.trans g2,e1.mono (jd g2),e2⟩)
 refine Call_ (Qc I hg hm boot_zip (callWith_type1 (thn (args pos pins s I) λus s1 h1=>?_) hs hpl));obtain⟨vs,H1,I1,r1,v,u,ev,g1,e1,e2⟩:=h1;subst ev;obtain⟨t1,xs,et1,sq1,en1⟩:=Qj e1;obtain⟨t2,ys,et2,sq2,en2⟩:=Qj e2;subst et1 et2;obtain⟨u1,u2,eu,ru1,ru2⟩:=r1.two;subst eu;cases ru1;cases ru2;obtain⟨w1,rw1,qw1,_⟩:=I1.side (jm.seqB sq1);obtain⟨w2,rw2,qw2,_⟩:=I1.side (jm.seqB sq2);refine callType_new F.called_zip (by decide) (F.typeCall_zip_2 _ _) (F.newCall_zip_2 _ _) (λobj=>F.args_object_init_3 obj _ _) F.entry_zip_new (j8u (l1:=l1) (l2:=l2) t1 t2 w1.toArray w2.toArray) ⟨qw1,qw2,?_⟩;have z1:(zh1 s1.heap l1 t1).objs.size=s1.heap.objs.size+1:=Pb ..;have z2:(zh2 s1.heap l1 l2 t1 t2).objs.size=s1.heap.objs.size+2:=by rw[Pb,z1]
 have z3:(zh3 s1.heap l1 l2 t1 t2).objs.size=s1.heap.objs.size+3:=by rw[Pb,z2]
 have z4:(zh4 s1.heap l1 l2 t1 t2).objs.size=s1.heap.objs.size+4:=by rw[Pb,z3]
 have z5:(zh5 s1.heap l1 l2 t1 t2).objs.size=s1.heap.objs.size+5:=by rw[Pb,z4]
 have b5:(zh5 s1.heap l1 l2 t1 t2).get? (zh4 s1.heap l1 l2 t1 t2).objs.size=a8 _:=X7 _ rfl;have b4:(zh5 s1.heap l1 l2 t1 t2).get? (zh3 s1.heap l1 l2 t1 t2).objs.size=a8 _:=xg _ (X7 _ rfl);have b3:(zh5 s1.heap l1 l2 t1 t2).get? (zh2 s1.heap l1 l2 t1 t2).objs.size=a8 _:=xg _ (xg _ (X7 _ rfl));have b2:(zh5 s1.heap l1 l2 t1 t2).get? (zh1 s1.heap l1 t1).objs.size=a8 _:=xg _ (xg _ (xg _ (X7 _ rfl)));have b1:(zh5 s1.heap l1 l2 t1 t2).get? s1.heap.objs.size=a8 _:=xg _ (xg _ (xg _ (xg _ (X7 _ rfl))));have kp:∀c o,s1.heap.get? c=a8 o->(zh5 s1.heap l1 l2 t1 t2).get? c=a8 o:=λc o e=>xg _ (xg _ (xg _ (xg _ (xg _ e))));show _/\_;rw[z2,z3,z4]at b5;rw[z1,z2]at b3;rw[z3]at b4;rw[z1]at b2;rw[z4];have I2:Inv X pins σ H1 { s1 with heap:=zh5 s1.heap l1 l2 t1 t2 }:=I1.kept (t':=s1.toks) kp;have lt1:t1<s1.heap.objs.size:=by
  unfold jf at qw1;cases l1 with
  |true=>rw[if_pos rfl]at qw1;obtain⟨_,e,_⟩:=qw1;exact xn e
  |false=>rw[if_neg xf]at qw1;obtain⟨_,e,_⟩:=qw1;exact xn e
 have lt2:t2<s1.heap.objs.size:=by
  unfold jf at qw2;cases l2 with
  |true=>rw[if_pos rfl]at qw2;obtain⟨_,e,_⟩:=qw2;exact xn e
  |false=>rw[if_neg xf]at qw2;obtain⟨_,e,_⟩:=qw2;exact xn e
 have side:∀{l:Bool}{j t:ai},(zh5 s1.heap l1 l2 t1 t2).get? j=a8 { cls:=.type (O8 l),data:=.fields #[.ref t,.int 0 0] }->jh l (zh5 s1.heap l1 l2 t1 t2) j t 0:=λ{l j t} e=>by
  unfold jh;cases l with
  |true=>rw[if_pos rfl];exact⟨_,e,rfl,rfl⟩
  |false=>rw[if_neg xf];exact⟨_,e,rfl,rfl⟩
 refine⟨⟨_,b5,rfl⟩,kv (s:={ s1 with heap:=zh5 s1.heap l1 l2 t1 t2 }) b5 ?_⟩;refine⟨_,_,_,Itz X.K l1 l2 t1 t2,H1,rfl,I2,j5n (zipApart_new lt1 lt2),⟨b5,b3,⟨_,_,b4⟩,side b1,side b2⟩,λc hc=>?_,q _ H1 g1 (j6q sq1 sq2 en1 en2)⟩;have hc':c=s1.heap.objs.size+4\/c=s1.heap.objs.size+2\/c=s1.heap.objs.size+3\/c=s1.heap.objs.size\/c=s1.heap.objs.size+1:=by simpa using hc
 have hge:s1.heap.objs.size<=c:=by rcases hc' with e|e|e|e|e<;>rw[e]<;>first|exact xx _|exact iX _ _
 obtain⟨f0,f1,f2,f3,f4,f5⟩:=I1.fpOk hge (I1.hok.fresh hge);exact⟨f0,f1,f2,f3,f4,f5⟩
theorem DG.pair{x y:aq}(i j:Nat){d d':D}(hij:i≠j)(hN:X.N.Nodup)(hi:X.N[i]?=a8 x:=by rfl)(hj:X.N[j]?=a8 y:=by rfl)(hx:Loc X.env.scope x:=by first|exact aV rfl|exact bP rfl)(hy:Loc X.env.scope y:=by first|exact aV rfl|exact bP rfl)
  (fx:X.fn x=aa\/X.env.scope.names.lookup x=a8 .local:=by first|exact .inl rfl|exact .inr rfl) (fy:X.fn y=aa\/X.env.scope.names.lookup y=a8 .local:=by first|exact .inl rfl|exact .inr rfl) (hc:X.calm=aa:=by rfl)
  (hn:(bL [.Name x q1,.Name y q2] X.env).length=2:=by rfl) (hst:(bL [.Name x q1,.Name y q2] X.env).findIdx? (·.1)=ae:=by rfl)
  (e1:(bL [.Name x q1,.Name y q2] X.env).map (·.2)=eW (.Name x q1) X.env::(bL [.Name y q2] X.env).map (·.2):=by rfl) (e2:(bL [.Name y q2] X.env).map (·.2)=eW (.Name y q2) X.env::(bL [] X.env).map (·.2):=by rfl) :
  DG X ρ (.Tuple [.Name x q1,.Name y q2] n pos) (.tup [d,d']) ((ρ.set i (.val d)).set j (.val d')):=by
 refine⟨λb hb=>(jg rfl).subset ((jg rfl).subset hb),λσ H v Q R en q=>?_⟩;obtain⟨t,xs,ev,sq,u,r,e,eu,u',r',e',eu',er⟩:=en;subst e e' ev er;refine(jco hc (Iu (Up hN hi hx fx) (Iu (Up hN hj hy fy) j9z e2) e1) hn hst).to ⟨t,[u,u'],rfl,jm.seqT sq,rfl,u,[u'],rfl,u',[],rfl,rfl,?_⟩;refine q _ ?_;have R1:Rep X.K (ρ.set i (.val d)) (σ.set i (a8 u)) H:=R.set_val eu;exact R1.set_val (eu'.mono (vo λb hb=>(jg rfl).subset hb))
end
noncomputable def D.ty:D->String
 |.non=>"NoneType"
 |.bl _=>"bool"
 |.int _=>"int"
 |.str _=>"str"
 |.tup _=>"tuple"
 |.lst _=>"list"
 |.dct _ _=>"dict"
 |.sct _=>"dict"
 |.fn _ _=>"function"
mutual
noncomputable def deq:D->D->Bool
 |.non,.non=>aa
 |.bl a,.bl b=>a==b
 |.bl a,.int b=>(if a then 1 else 0)==b
 |.int a,.bl b=>a==(if b then 1 else 0)
 |.int a,.int b=>a==b
 |.str a,.str b=>a==b
 |.tup xs,.tup ys=>zb xs ys
 |.lst xs,.lst ys=>zb xs ys
 |.dct k xs,.dct m ys=>decide (k=m)&&zb xs ys
 |.sct k,.sct m=>decide (k=m)
 |_,_=>a9
noncomputable def zb:List D->List D->Bool
 |[],[]=>aa
 |x::xs,y::ys=>deq x y&&zb xs ys
 |_,_=>a9
end
theorem jeu{a b:Bool}:deq (.bl a) (.bl b)=(a==b):=(rfl)
theorem j4u{a b:Int}:deq (.int a) (.int b)=(a==b):=(rfl)
theorem j01{a b:aq}:deq (.str a) (.str b)=(a==b):=(rfl)
theorem j00{a b:List D}:deq (.tup a) (.tup b)=zb a b:=(rfl)
theorem j02{a b:List D}:deq (.lst a) (.lst b)=zb a b:=(rfl)
theorem Ye:zb [] []=aa:=(rfl)
theorem Z7{x y:D}{xs ys:List D}:zb (x::xs) (y::ys)=(deq x y&&zb xs ys):=(rfl)
theorem Mj{y:D}{ys:List D}:zb [] (y::ys)=a9:=(rfl)
theorem Ml{x:D}{xs:List D}:zb (x::xs) []=a9:=(rfl)
mutual
noncomputable def D.dep:D->Nat
 |.tup xs=>D.depL xs+1
 |.lst xs=>D.depL xs+1
 |.dct _ _=>20000
 |.sct _=>20000
 |.fn _ _=>20000
 |_=>0
noncomputable def D.depL:List D->Nat
 |[]=>0
 |x::xs=>max x.dep (D.depL xs)
end
mutual
theorem Ov:∀d:D,d.dep<10000->deq d d=aa
 |.non,_=>rfl
 |.bl b,_=>by rw[jeu];simp
 |.int i,_=>by rw[j4u];simp
 |.str x,_=>by rw[j01];simp
 |.tup xs,h=>by rw[j00];exact Vd xs (by simp only[D.dep]at h;omega)
 |.lst xs,h=>by rw[j02];exact Vd xs (by simp only[D.dep]at h;omega)
 |.dct _ _,h=>by simp[D.dep]at h
 |.sct _,h=>by simp[D.dep]at h
 |.fn _ _,h=>by simp[D.dep]at h
theorem Vd:∀ds:List D,D.depL ds<10000->zb ds ds=aa
 |[],_=>rfl
 |d::ds,h=>by rw[D.depL]at h;rw[Z7,Ov d nofun,Vd ds nofun];rfl
end
theorem Yg:∀{xs ys:List D},xs.length≠ys.length->zb xs ys=a9
 |[],[],h=>absurd rfl h
 |[],_::_,_=>by simp[Ye,Z7,Mj,Ml]
 |_::_,[],_=>by simp[Ye,Z7,Mj,Ml]
 |x::xs,y::ys,h=>by have:=Yg (xs:=xs) (ys:=ys) (by simpa using h);simp[Ye,Z7,Mj,Ml,this]
theorem Zg{f:Nat->Bool}:∀{xs ys:List D},xs.length=ys.length->(∀(j:Nat) x y,xs[j]?=a8 x->ys[j]?=a8 y->f j=deq x y)->(aA xs.length).all f=zb xs ys
 |[],[],_,_=>by simp[Ye,Z7,Mj,Ml]
 |[],_::_,h,_=>by simp at h
 |_::_,[],h,_=>by simp at h
 |x::xs,y::ys,h,hf=>by have ih:=Zg (f:=λj=>f (j+1)) (xs:=xs) (ys:=ys) (by simpa using h) (λj a b ha hb=>hf (j+1) a b (by simpa using ha) (by simpa using hb));rw[X6,dM,gB,hf 0 x y rfl rfl,k7];simp only[Z7];rw[<-ih];rfl
section
variable{X:Cx}{pins:k7h}{σ:St}{H:Hp}{s:ao}
theorem Eb(I:Inv X pins σ H s){a:ai}{xs ys:List V}(h:SqT X.K H a xs)(h':SqL X.K H a ys):False:=by obtain⟨_,_,⟨o,h1,h2,_⟩,_⟩:=I.tuple h;obtain⟨_,_,⟨o',n,h1',h2',_⟩,_⟩:=I.list h';rw[h1]at h1';cases h1';rw[h2]at h2';injection h2' with e;exact absurd e (by decide)
noncomputable def D.atom:D->Option V
 |.non=>a8 .non
 |.bl b=>a8 (.bl b)
 |.int i=>a8 (.int i)
 |.str x=>a8 (.str x)
 |_=>ae
theorem Enc.at_{K:k7f}{d:D}{v u:V}(h:Enc K H d v)(e:d.atom=a8 u):v=u:=by
 cases d with
 |non=>cases e;exact(show v=.non from h)
 |bl b=>cases e;exact(show v=.bl b from h)
 |int i=>cases e;exact(show v=.int i from h)
 |str x=>cases e;exact(show v=.str x from h)
 |_=>cases e
theorem Enc.ref{K:k7f}{d:D}{v:V}(h:Enc K H d v)(e:d.atom=ae):∃a,v=.ref a:=by
 cases d with
 |tup l=>obtain⟨a,_,e,_⟩:=h;exact⟨a,e⟩
 |lst l=>obtain⟨a,_,e,_⟩:=h;exact⟨a,e⟩
 |dct k l=>obtain⟨a,_,_,_,e,_⟩:=h;exact⟨a,e⟩
 |sct k=>obtain⟨a,e,_⟩:=h;exact⟨a,e⟩
 |fn x l=>obtain⟨a,_,_,_,_,e,_⟩:=h;exact⟨a,e⟩
 |_=>cases e
theorem j7w{d d':D}{u:V}(h:d.atom=a8 u)(h':d'.atom=a8 u):d=d':=by cases d<;>cases d'<;>first|(cases h;done)|(cases h';done)|(cases h;cases h';rfl)|(cases h;cases h')
theorem j0h{d:D}{a:ai}(h:d.atom=a8 (.ref a)):False:=by cases d<;>cases h
theorem je1(I:Inv X pins σ H s){d d':D}{v:V}(hd:d.dep<10000)(hd':d'.dep<10000)(h:Enc X.K H d v)(h':Enc X.K H d' v) :
  d=d'\/∃ds ds' xs,((d=.tup ds/\d'=.tup ds')\/(d=.lst ds/\d'=.lst ds'))/\j4 X.K H ds xs/\j4 X.K H ds' xs:=by
 cases e:d.atom with
 |some u =>
  have ev:=h.at_ e;subst ev;cases e':d'.atom with
  |some u'=>exact .inl (j7w e ((h'.at_ e')▸e'))
  |none=>obtain⟨a,ea⟩:=h'.ref e';subst ea;exact(j0h e).elim
 |none =>
  cases e':d'.atom with
  |some u'=>have ev:=h'.at_ e';subst ev;obtain⟨a,ea⟩:=h.ref e;subst ea;exact(j0h e').elim
  |none =>
   cases d with
   |tup ds =>
    obtain⟨a,xs,ea,sq,l⟩:=h;cases d' with
    |tup ds' =>obtain⟨a',ys,eb,sq',l'⟩:=h';rw[ea]at eb;cases eb;rw[I.tuple_inj sq' sq]at l';exact .inr ⟨ds,ds',xs,.inl ⟨rfl,rfl⟩,l,l'⟩
    |lst ds'=>obtain⟨a',ys,eb,sq',l'⟩:=h';rw[ea]at eb;cases eb;exact(Eb I sq sq').elim
    |dct _ _=>simp[D.dep]at hd'
    |sct _=>simp[D.dep]at hd'
    |fn _ _=>simp[D.dep]at hd'
    |_=>cases e'
   |lst ds =>
    obtain⟨a,xs,ea,sq,l⟩:=h;cases d' with
    |lst ds' =>obtain⟨a',ys,eb,sq',l'⟩:=h';rw[ea]at eb;cases eb;rw[I.list_inj sq' sq]at l';exact .inr ⟨ds,ds',xs,.inr ⟨rfl,rfl⟩,l,l'⟩
    |tup ds'=>obtain⟨a',ys,eb,sq',l'⟩:=h';rw[ea]at eb;cases eb;exact(Eb I sq' sq).elim
    |dct _ _=>simp[D.dep]at hd'
    |sct _=>simp[D.dep]at hd'
    |fn _ _=>simp[D.dep]at hd'
    |_=>cases e'
   |dct _ _=>simp[D.dep]at hd
   |sct _=>simp[D.dep]at hd
   |fn _ _=>simp[D.dep]at hd
   |_=>cases e
theorem j6x{n:Nat}(ih:∀{d d':D}{v:V},d.dep<=n->d.dep<10000->d'.dep<10000->Enc X.K H d v->Enc X.K H d' v->d=d'):∀{ds ds':List D}{xs:List V},D.depL ds<=n->D.depL ds<10000->D.depL ds'<10000->j4 X.K H ds xs->j4 X.K H ds' xs->ds=ds'
 |[],[],_,_,_,_,_,_=>rfl
 |[],_::_,_,_,_,_,h,⟨x,r,e,_⟩=>by cases h;cases e
 |_::_,[],_,_,_,_,⟨x,r,e,_⟩,h=>by cases h;cases e
 |d::ds,d'::ds',_,m,n1,n2,⟨x,r,e,h,l⟩,⟨x',r',e',h',l'⟩=>by subst e;cases e';rw[D.depL]at m n1 n2;rw[ih nofun nofun nofun h h',j6x ih nofun nofun nofun l l']
theorem j6w(I:Inv X pins σ H s):∀(n:Nat){d d':D}{v:V},d.dep<=n->d.dep<10000->d'.dep<10000->Enc X.K H d v->Enc X.K H d' v->d=d'
 |0,d,d',v,hn,hd,hd',h,h'=>by
  rcases je1 I hd hd' h h' with e|⟨ds,ds',xs,⟨e,_⟩|⟨e,_⟩,_⟩
  .exact e
  .subst e;simp[D.dep]at hn
  .subst e;simp[D.dep]at hn
 |n+1,d,d',v,hn,hd,hd',h,h'=>by
  rcases je1 I hd hd' h h' with e|⟨ds,ds',xs,⟨e,e'⟩|⟨e,e'⟩,l,l'⟩
  .exact e
  .subst e e';simp only[D.dep]at hn hd hd';rw[j6x (λa b c=>j6w I n a b c) nofun nofun nofun l l']
  .subst e e';simp only[D.dep]at hn hd hd';rw[j6x (λa b c=>j6w I n a b c) nofun nofun nofun l l']
theorem Enc.inj(I:Inv X pins σ H s){d d':D}{v:V}(hd:d.dep<10000)(hd':d'.dep<10000)(h:Enc X.K H d v)(h':Enc X.K H d' v):d=d':=j6w I d.dep (xx _) hd hd' h h'
end
section
variable{X:Cx}{pins:k7h}{σ:St}{H:Hp}{s:ao}
theorem D.depL_le:∀{ds:List D}{j:Nat}{d:D},ds[j]?=a8 d->d.dep<=D.depL ds
 |[],_,_,h=>by simp at h
 |x::xs,0,d,h=>by simp at h;subst h;simp[D.depL];omega
 |x::xs,j+1,d,h=>by have:=D.depL_le (ds:=xs) (j:=j) (d:=d) (by simpa using h);simp[D.depL];omega
theorem Vx(I:Inv X pins σ H s):∀(n:Nat)(A:aG){d d':D}{v v':V}{u u':aj},d.dep<=n->A.units+n<aS->d'.dep<10000->Enc X.K H d v->RelV v u->Enc X.K H d' v'->RelV v' u' ->
  fQ A s u u' (deq d d')/\cB A s u u' (deq d d')
 |0,A,d,d',v,v',u,u',hn,hu,nd,en,r,en',r'=>by
  have hu0:A.units<aS:=by omega
  cases d with
  |tup l=>simp[D.dep]at hn
  |lst l=>simp[D.dep]at hn
  |dct ks l=>simp[D.dep]at hn
  |sct k=>simp[D.dep]at hn
  |fn x l=>simp[D.dep]at hn
  |non =>
   cases(show v=.non from en);cases(show u=aZ from r);cases d' with
   |dct ks' l'=>simp[D.dep]at nd
   |sct k'=>simp[D.dep]at nd
   |fn x' l'=>simp[D.dep]at nd
   |non=>cases(show v'=.non from en');cases(show u'=aZ from r');exact⟨.none_none,.same _⟩
   |bl k=>cases(show v'=.bl k from en');cases(show u'=bQ k from r');exact⟨.none_bool _,.none_bool _⟩
   |int k=>cases(show v'=.int k from en');obtain⟨t,q⟩:=(show ∃t,u'=br k t from r');subst q;exact⟨.none_int _ _,.none_int _ _⟩
   |str k=>cases(show v'=.str k from en');obtain⟨t,q⟩:=(show ∃t,u'=bj k t from r');subst q;exact⟨.none_str _ _,.none_str _ _⟩
   |tup l=>obtain⟨a,xs,e,sq,_⟩:=en';subst e;cases(show u'=aQ a from r');obtain⟨_,_,q,_⟩:=I.tuple sq;exact⟨.none_tuple q hu0,.none_tuple q hu0⟩
   |lst l=>obtain⟨a,xs,e,sq,_⟩:=en';subst e;cases(show u'=aQ a from r');obtain⟨_,_,q,_⟩:=I.list sq;exact⟨.none_list q.isList hu0,.none_list q.isList hu0⟩
  |bl b =>
   cases(show v=.bl b from en);cases(show u=bQ b from r);cases d' with
   |dct ks' l'=>simp[D.dep]at nd
   |sct k'=>simp[D.dep]at nd
   |fn x' l'=>simp[D.dep]at nd
   |non=>cases(show v'=.non from en');cases(show u'=aZ from r');exact⟨.bool_none _,.bool_none _⟩
   |bl k=>cases(show v'=.bl k from en');cases(show u'=bQ k from r');exact⟨.bool_bool _ _,.bool_bool _ _⟩
   |int k=>cases(show v'=.int k from en');obtain⟨t,q⟩:=(show ∃t,u'=br k t from r');subst q;exact⟨.bool_int _ _ _,.bool_int _ _ _⟩
   |str k=>cases(show v'=.str k from en');obtain⟨t,q⟩:=(show ∃t,u'=bj k t from r');subst q;exact⟨.bool_str _ _ _,.bool_str _ _ _⟩
   |tup l=>obtain⟨a,xs,e,sq,_⟩:=en';subst e;cases(show u'=aQ a from r');obtain⟨_,_,q,_⟩:=I.tuple sq;exact⟨.bool_tuple _ q hu0,.bool_tuple _ q hu0⟩
   |lst l=>obtain⟨a,xs,e,sq,_⟩:=en';subst e;cases(show u'=aQ a from r');obtain⟨_,_,q,_⟩:=I.list sq;exact⟨.bool_list _ q.isList hu0,.bool_list _ q.isList hu0⟩
  |int b =>
   cases(show v=.int b from en);obtain⟨tk,q0⟩:=(show ∃t,u=br b t from r);subst q0;cases d' with
   |dct ks' l'=>simp[D.dep]at nd
   |sct k'=>simp[D.dep]at nd
   |fn x' l'=>simp[D.dep]at nd
   |non=>cases(show v'=.non from en');cases(show u'=aZ from r');exact⟨.int_none _ _,.int_none _ _⟩
   |bl k=>cases(show v'=.bl k from en');cases(show u'=bQ k from r');exact⟨.int_bool _ _ _,.int_bool _ _ _⟩
   |int k=>cases(show v'=.int k from en');obtain⟨t,q⟩:=(show ∃t,u'=br k t from r');subst q;exact⟨.int_int _ _ _ _,.int_int _ _ _ _⟩
   |str k=>cases(show v'=.str k from en');obtain⟨t,q⟩:=(show ∃t,u'=bj k t from r');subst q;exact⟨.int_str _ _ _ _,.int_str _ _ _ _⟩
   |tup l=>obtain⟨a,xs,e,sq,_⟩:=en';subst e;cases(show u'=aQ a from r');obtain⟨_,_,q,_⟩:=I.tuple sq;exact⟨.int_tuple _ _ q hu0,.int_tuple _ _ q hu0⟩
   |lst l=>obtain⟨a,xs,e,sq,_⟩:=en';subst e;cases(show u'=aQ a from r');obtain⟨_,_,q,_⟩:=I.list sq;exact⟨.int_list _ _ q.isList hu0,.int_list _ _ q.isList hu0⟩
  |str b =>
   cases(show v=.str b from en);obtain⟨tk,q0⟩:=(show ∃t,u=bj b t from r);subst q0;cases d' with
   |dct ks' l'=>simp[D.dep]at nd
   |sct k'=>simp[D.dep]at nd
   |fn x' l'=>simp[D.dep]at nd
   |non=>cases(show v'=.non from en');cases(show u'=aZ from r');exact⟨.str_none _ _,.str_none _ _⟩
   |bl k=>cases(show v'=.bl k from en');cases(show u'=bQ k from r');exact⟨.str_bool _ _ _,.str_bool _ _ _⟩
   |int k=>cases(show v'=.int k from en');obtain⟨t,q⟩:=(show ∃t,u'=br k t from r');subst q;exact⟨.str_int _ _ _ _,.str_int _ _ _ _⟩
   |str k=>cases(show v'=.str k from en');obtain⟨t,q⟩:=(show ∃t,u'=bj k t from r');subst q;exact⟨.str_str _ _ _ _,.str_str _ _ _ _⟩
   |tup l=>obtain⟨a,xs,e,sq,_⟩:=en';subst e;cases(show u'=aQ a from r');obtain⟨_,_,q,_⟩:=I.tuple sq;exact⟨.str_tuple _ _ q hu0,.str_tuple _ _ q hu0⟩
   |lst l=>obtain⟨a,xs,e,sq,_⟩:=en';subst e;cases(show u'=aQ a from r');obtain⟨_,_,q,_⟩:=I.list sq;exact⟨.str_list _ _ q.isList hu0,.str_list _ _ q.isList hu0⟩
 |n+1,A,d,d',v,v',u,u',hn,hu,nd,en,r,en',r'=>by
  have hu0:A.units<aS:=by omega
  have hu1:A.in1.units+n<aS:=by show A.units+1+n<aS;omega
  have low:d.dep<=n->fQ A s u u' (deq d d')/\cB A s u u' (deq d d'):=λh=>Vx I n A h nofun nd en r en' r';cases d with
  |non=>exact low (by simp[D.dep])
  |bl b=>exact low (by simp[D.dep])
  |int b=>exact low (by simp[D.dep])
  |str b=>exact low (by simp[D.dep])
  |dct ks l=>exfalso;have:(9900:Nat)=aS:=rfl;simp only[D.dep]at hn;omega
  |sct k=>exfalso;have:(9900:Nat)=aS:=rfl;simp only[D.dep]at hn;omega
  |fn x l=>exfalso;have:(9900:Nat)=aS:=rfl;simp only[D.dep]at hn;omega
  |tup ds =>
   have hd:D.depL ds<=n:=by simp[D.dep]at hn;omega
   obtain⟨a,xs,e,sq,l⟩:=id en;subst e;cases(show u=aQ a from r);obtain⟨us,rv,q,_⟩:=I.tuple sq;cases d' with
   |dct ks' l'=>simp[D.dep]at nd
   |sct k'=>simp[D.dep]at nd
   |fn x' l'=>simp[D.dep]at nd
   |non=>cases(show v'=.non from en');cases(show u'=aZ from r');exact⟨.tuple_none q hu0,.tuple_none q hu0⟩
   |bl k=>cases(show v'=.bl k from en');cases(show u'=bQ k from r');exact⟨.tuple_bool _ q hu0,.tuple_bool _ q hu0⟩
   |int k=>cases(show v'=.int k from en');obtain⟨t,q'⟩:=(show ∃t,u'=br k t from r');subst q';exact⟨.tuple_int _ _ q hu0,.tuple_int _ _ q hu0⟩
   |str k=>cases(show v'=.str k from en');obtain⟨t,q'⟩:=(show ∃t,u'=bj k t from r');subst q';exact⟨.tuple_str _ _ q hu0,.tuple_str _ _ q hu0⟩
   |lst ds'=>obtain⟨a',ys,e,sq',_⟩:=en';subst e;cases(show u'=aQ a' from r');obtain⟨_,_,q',_⟩:=I.list sq';exact⟨.tuple_list q q'.isList hu0,.tuple_list q q'.isList hu0⟩
   |tup ds' =>
    obtain⟨a',ys,e,sq',l'⟩:=id en';subst e;cases(show u'=aQ a' from r');obtain⟨us',rv',q',_⟩:=I.tuple sq';have e1:us.length=ds.length:=by rw[<-rv.length,l.length]
    have e2:us'.length=ds'.length:=by rw[<-rv'.length,l'.length]
    have main:fQ A s (.ref a) (.ref a') (deq (.tup ds) (.tup ds')):=by
     have item:∀(j:Nat)(h1:j<us.toArray.size)(h2:j<us'.toArray.size),cB A.in1 s us.toArray[j] us'.toArray[j] (deq (ds.getD j .non) (ds'.getD j .non)):=λj h1 h2=>by
      have k1:j<ds.length:=by rw[<-e1];simpa using h1
      have k2:j<ds'.length:=by rw[<-e2];simpa using h2
      obtain⟨x,hx,ex⟩:=l.get (kh k1);obtain⟨y,hy,ey⟩:=l'.get (kh k2);obtain⟨w1,hw1,rw1⟩:=rv.get hx;obtain⟨w2,hw2,rw2⟩:=rv'.get hy;have g1:us.toArray[j]=w1:=by simp at h1 ⊢;rw[kh (by simpa using h1)]at hw1;exact aB hw1
      have g2:us'.toArray[j]=w2:=by simp at h2 ⊢;rw[kh (by simpa using h2)]at hw2;exact aB hw2
      rw[g1,g2,kj,kj,kh k1,kh k2];exact(Vx I n A.in1 (Xh (D.depL_le (kh k1)) hd) hu1 (d5 (D.depL_le (kh k2)) (by simp only[D.dep]at nd;omega)) ex rw1 ey rw2).2
     have z:=SeqAt.RcAt.tuples (A:=A) (s:=s) q q' hu0 (e:=λj=>deq (ds.getD j .non) (ds'.getD j .non)) item;have ev:((aA (min us.toArray.size us'.toArray.size)).all (λj=>deq (ds.getD j .non) (ds'.getD j .non))&&us.toArray.size==us'.toArray.size)=deq (.tup ds) (.tup ds'):=by
      simp only[j00,X4,e1,e2];by_cases hl:ds.length=ds'.length
      .rw[hl,kC,beq_self_eq_true,jS,<-hl];exact Zg hl λj x y hx hy=>by rw[kj,kj,hx,hy];rfl
      .rw[Yg hl,beq_false_of_ne hl,g9]
     rw[ev]at z;exact z
    refine⟨main,?_⟩;by_cases ea:a=a'
    .subst ea;have e9:(9900:Nat)=aS:=rfl;rw[Enc.inj I nofun nd en en',Ov _ nd];exact .same _
    .exact .of_refs ea main
  |lst ds =>
   have hd:D.depL ds<=n:=by simp[D.dep]at hn;omega
   obtain⟨a,xs,e,sq,l⟩:=id en;subst e;cases(show u=aQ a from r);obtain⟨us,rv,q0,_⟩:=I.list sq;have q:=q0.isList;cases d' with
   |dct ks' l'=>simp[D.dep]at nd
   |sct k'=>simp[D.dep]at nd
   |fn x' l'=>simp[D.dep]at nd
   |non=>cases(show v'=.non from en');cases(show u'=aZ from r');exact⟨.list_none q hu0,.list_none q hu0⟩
   |bl k=>cases(show v'=.bl k from en');cases(show u'=bQ k from r');exact⟨.list_bool _ q hu0,.list_bool _ q hu0⟩
   |int k=>cases(show v'=.int k from en');obtain⟨t,q'⟩:=(show ∃t,u'=br k t from r');subst q';exact⟨.list_int _ _ q hu0,.list_int _ _ q hu0⟩
   |str k=>cases(show v'=.str k from en');obtain⟨t,q'⟩:=(show ∃t,u'=bj k t from r');subst q';exact⟨.list_str _ _ q hu0,.list_str _ _ q hu0⟩
   |tup ds'=>obtain⟨a',ys,e,sq',_⟩:=en';subst e;cases(show u'=aQ a' from r');obtain⟨_,_,q',_⟩:=I.tuple sq';exact⟨.list_tuple q q' hu0,.list_tuple q q' hu0⟩
   |lst ds' =>
    obtain⟨a',ys,e,sq',l'⟩:=id en';subst e;cases(show u'=aQ a' from r');obtain⟨us',rv',q0',_⟩:=I.list sq';have q':=q0'.isList;have e1:us.length=ds.length:=by rw[<-rv.length,l.length]
    have e2:us'.length=ds'.length:=by rw[<-rv'.length,l'.length]
    have main:fQ A s (.ref a) (.ref a') (deq (.lst ds) (.lst ds')):=by
     have item:∀(j:Nat)(h1:j<us.toArray.size)(h2:j<us'.toArray.size),cB A.in1 s us.toArray[j] us'.toArray[j] (deq (ds.getD j .non) (ds'.getD j .non)):=λj h1 h2=>by
      have k1:j<ds.length:=by rw[<-e1];simpa using h1
      have k2:j<ds'.length:=by rw[<-e2];simpa using h2
      obtain⟨x,hx,ex⟩:=l.get (kh k1);obtain⟨y,hy,ey⟩:=l'.get (kh k2);obtain⟨w1,hw1,rw1⟩:=rv.get hx;obtain⟨w2,hw2,rw2⟩:=rv'.get hy;have g1:us.toArray[j]=w1:=by simp at h1 ⊢;rw[kh (by simpa using h1)]at hw1;exact aB hw1
      have g2:us'.toArray[j]=w2:=by simp at h2 ⊢;rw[kh (by simpa using h2)]at hw2;exact aB hw2
      rw[g1,g2,kj,kj,kh k1,kh k2];exact(Vx I n A.in1 (Xh (D.depL_le (kh k1)) hd) hu1 (d5 (D.depL_le (kh k2)) (by simp only[D.dep]at nd;omega)) ex rw1 ey rw2).2
     simp only[j02];by_cases hl:ds.length=ds'.length
     .have z:=SeqAt.RcAt.lists (A:=A) (s:=s) q q' (by simp[e1,e2,hl]) hu0 (e:=λj=>deq (ds.getD j .non) (ds'.getD j .non)) item;have ev:(aA us.toArray.size).all (λj=>deq (ds.getD j .non) (ds'.getD j .non))=zb ds ds':=by rw[X4,e1];exact Zg hl λj x y hx hy=>by rw[kj,kj,hx,hy];rfl
      rw[ev]at z;exact z
     .rw[Yg hl];exact .lists_lengths q q' (by simp[e1,e2,hl]) hu0
    refine⟨main,?_⟩;by_cases ea:a=a'
    .subst ea;have e9:(9900:Nat)=aS:=rfl;rw[Enc.inj I nofun nd en en',Ov _ nd];exact .same _
    .exact .of_refs ea main
end
section
variable{X:Cx}{pins:k7h}{σ:St}{H:Hp}{s:ao}{A:aG}
theorem j6t(I:Inv X pins σ H s){n:Nat}{ds ds':List D}{xs ys:List V}{us us':List aj}(l:j4 X.K H ds xs)(rv:Vals xs us)(l':j4 X.K H ds' ys)(rv':Vals ys us')(hd:D.depL ds<=n)(hu:A.units+1+n<aS)(nd:D.depL ds'<10000) :
  ∀(j:Nat)(h1:j<us.toArray.size)(h2:j<us'.toArray.size),cB A.in1 s us.toArray[j] us'.toArray[j] (deq (ds.getD j .non) (ds'.getD j .non)):=λj h1 h2=>by
 have k1:j<ds.length:=by rw[<-l.length,rv.length];simpa using h1
 have k2:j<ds'.length:=by rw[<-l'.length,rv'.length];simpa using h2
 obtain⟨x,hx,ex⟩:=l.get (kh k1);obtain⟨y,hy,ey⟩:=l'.get (kh k2);obtain⟨w1,hw1,rw1⟩:=rv.get hx;obtain⟨w2,hw2,rw2⟩:=rv'.get hy;have g1:us.toArray[j]=w1:=by simp at h1 ⊢;rw[kh (by simpa using h1)]at hw1;exact aB hw1
 have g2:us'.toArray[j]=w2:=by simp at h2 ⊢;rw[kh (by simpa using h2)]at hw2;exact aB hw2
 rw[g1,g2,kj,kj,kh k1,kh k2];exact(Vx I n A.in1 (Xh (D.depL_le (kh k1)) hd) hu (d5 (D.depL_le (kh k2)) nd) ex rw1 ey rw2).2
theorem j48(hu:X.A.units+100<aS):OpR X (aT .Eq) (λx y H Q=>∃d d',Enc X.K H d x/\Enc X.K H d' y/\d.dep<=100/\d'.dep<10000/\Q (.bl (deq d d')) H):=by rintro pins s σ H x y v u Q I rx ry ⟨d,d',en,en',hd,nd,q⟩;exact(Vx I 100 X.A hd hu nd en rx en' ry).1 X.prog X.w X.xe _ ⟨.bl (deq d d'),H,I,rfl,q⟩
theorem j46(hu:X.A.units+100<aS):OpR X (aT .NotEq) (λx y H Q=>∃ds ds' k,Enc X.K H (D.seq k ds) x/\Enc X.K H (D.seq k ds') y/\D.depL ds<=98/\D.depL ds'<10000/\Q (.bl (!zb ds ds')) H):=by
 rintro pins s σ H x y v u Q I rx ry ⟨ds,ds',k,en,en',hd,nd,q⟩;have h0:X.A.units<aS:=by omega
 obtain⟨t,xs,e,sq,l⟩:=Qj en;obtain⟨t',ys,e',sq',l'⟩:=Qj en';subst e e';cases rx;cases ry;obtain⟨us,rv,qs,_⟩:=I.side sq;obtain⟨us',rv',qs',_⟩:=I.side sq';have e1:us.length=ds.length:=by rw[<-rv.length,l.length]
 have e2:us'.length=ds'.length:=by rw[<-rv'.length,l'.length]
 have item:=j6t (A:=X.A) I l rv l' rv' hd nofun nd;unfold jf at qs qs';cases k with
 |true =>
  rw[if_pos rfl]at qs qs';by_cases hl:ds.length=ds'.length
  .have z:=SeqAt.RcNeAt.lists (A:=X.A) (s:=s) qs qs' (by simp[e1,e2,hl]) h0 (e:=λj=>deq (ds.getD j .non) (ds'.getD j .non)) item;have ev:(aA us.toArray.size).all (λj=>deq (ds.getD j .non) (ds'.getD j .non))=zb ds ds':=by rw[X4,e1];exact Zg hl λj x y hx hy=>by rw[kj,kj,hx,hy];rfl
   rw[ev]at z;exact z X.prog X.w X.xe _ ⟨.bl (!zb ds ds'),H,I,rfl,q⟩
  .have z:=SeqAt.RcNeAt.lists_lengths (A:=X.A) (s:=s) qs qs' (by simp[e1,e2,hl]) h0;rw[Yg hl]at q;exact z X.prog X.w X.xe _ ⟨.bl aa,H,I,rfl,q⟩
 |false =>
  rw[if_neg xf]at qs qs';have z:=SeqAt.RcNeAt.tuples (A:=X.A) (s:=s) qs qs' h0 (e:=λj=>deq (ds.getD j .non) (ds'.getD j .non)) item;have ev:((aA (min us.toArray.size us'.toArray.size)).all (λj=>deq (ds.getD j .non) (ds'.getD j .non))&&us.toArray.size==us'.toArray.size)=zb ds ds':=by
   simp only[X4,e1,e2];by_cases hl:ds.length=ds'.length
   .rw[hl,kC,beq_self_eq_true,jS,<-hl];exact Zg hl λj x y hx hy=>by rw[kj,kj,hx,hy];rfl
   .rw[Yg hl,beq_false_of_ne hl,g9]
  rw[ev]at z;exact z X.prog X.w X.xe _ ⟨.bl (!zb ds ds'),H,I,rfl,q⟩
noncomputable def eqW(X:Cx)(H:Hp)(d:D)(y:aj):Bool:=@decide (∃e v,e.dep<10000/\Enc X.K H e v/\RelV v y/\deq e d=aa) (d6 _)
theorem N8(I:Inv X pins σ H s){d e:D}{v:V}{y:aj}(he:e.dep<10000)(en:Enc X.K H e v)(r:RelV v y):eqW X H d y=deq e d:=by
 unfold eqW;cases h:deq e d with
 |true=>exact @decide_eq_true _ (d6 _) ⟨e,v,he,en,r,h⟩
 |false =>refine @decide_eq_false _ (d6 _) λ⟨e',v',he',en',r',h'⟩=>?_;rw[r'.inj r]at en';rw[Enc.inj I he' he en' en,h]at h';cases h'
theorem Dv(I:Inv X pins σ H s){d:D}:∀{ds:List D}{xs:List V}{us:List aj},D.depL ds<10000->j4 X.K H ds xs->Vals xs us->us.any (eqW X H d)=ds.any λe=>deq e d
 |[],_,_,_,h,r=>by cases h;cases r;rfl
 |e::ds,_,_,hd,⟨x,r,eq,h,l⟩,rv=>by
  subst eq;rw[D.depL]at hd;cases rv with
  |cons a b=>rw[cJ,cJ,Dv I nofun l b,N8 I nofun h a]
theorem Uq(I:Inv X pins σ H s){d:D}{v:V}{u:aj}(en:Enc X.K H d v)(r:RelV v u)(nd:d.dep<10000){n:Nat}(hu:A.units+n<aS):∀{ds:List D}{xs:List V}{us:List aj},D.depL ds<=n->j4 X.K H ds xs->Vals xs us->∀y∈us,cB A s y u (eqW X H d y)
 |[],_,_,_,h,rv,y,hy=>by cases h;cases rv;cases hy
 |e::ds,_,_,hd,⟨x,r',eq,h,l⟩,rv,y,hy=>by
  subst eq;have hd':e.dep<=n/\D.depL ds<=n:=by simp[D.depL]at hd;omega
  cases rv with
  |cons a b =>
   rcases xu.mp hy with rfl|hy
   .have e9:(9900:Nat)=aS:=rfl;rw[N8 I nofun h a];exact(Vx I n A hd'.1 hu nd h a en r).2
   .exact Uq I en r nd hu hd'.2 l b y hy
theorem j47(hu:X.A.units+100<aS):OpR X (aT .In) (λx y H Q=>∃d ds k,Enc X.K H d x/\Enc X.K H (D.seq k ds) y/\D.depL ds<=98/\d.dep<10000/\Q (.bl (ds.any λe=>deq e d)) H):=by
 rintro pins s σ H x y v u Q I rx ry ⟨d,ds,k,en,en',hd,nd,q⟩;obtain⟨t,xs,e,sq,l⟩:=Qj en';subst e;cases ry;obtain⟨us,rv,qs,_⟩:=I.side sq;have me:=λy (hy:y∈us.toArray)=>Uq (A:=X.A.in1) I en rx nd (n:=98) (by show X.A.units+1+98<aS;omega) hd l rv y (by simpa using hy);have ev:us.toArray.any (eqW X H d)=ds.any λe=>deq e d:=by rw[iO];exact Dv I nofun l rv
 unfold jf at qs;cases k with
 |true=>rw[if_pos rfl]at qs;exact SeqAt.in_listAt (eqW X H d) qs me (by rw[ev];exact⟨.bl _,H,I,rfl,q⟩)
 |false=>rw[if_neg xf]at qs;exact SeqAt.in_tupleAt (eqW X H d) qs me (by rw[ev];exact⟨.bl _,H,I,rfl,q⟩)
theorem Cj(hu:X.A.units+100<aS):OpR X (aT .NotIn) (λx y H Q=>∃d ds k,Enc X.K H d x/\Enc X.K H (D.seq k ds) y/\D.depL ds<=98/\d.dep<10000/\Q (.bl (!ds.any λe=>deq e d)) H):=by
 rintro pins s σ H x y v u Q I rx ry ⟨d,ds,k,en,en',hd,nd,q⟩;obtain⟨t,xs,e,sq,l⟩:=Qj en';subst e;cases ry;obtain⟨us,rv,qs,_⟩:=I.side sq;have me:=λy (hy:y∈us.toArray)=>Uq (A:=X.A.in1) I en rx nd (n:=98) (by show X.A.units+1+98<aS;omega) hd l rv y (by simpa using hy);have ev:us.toArray.any (eqW X H d)=ds.any λe=>deq e d:=by rw[iO];exact Dv I nofun l rv
 unfold jf at qs;cases k with
 |true=>rw[if_pos rfl]at qs;exact SeqAt.notIn_listAt (eqW X H d) qs me (by rw[ev];exact⟨.bl _,H,I,rfl,q⟩)
 |false=>rw[if_neg xf]at qs;exact SeqAt.notIn_tupleAt (eqW X H d) qs me (by rw[ev];exact⟨.bl _,H,I,rfl,q⟩)
theorem j6e:OpR X (aY .Add) (λx y H Q=>∃a b xs ys,x=.ref a/\y=.ref b/\SqT X.K H a xs/\SqT X.K H b ys/\xs.length+ys.length<=av /\
  (xs=[]->Q (.ref b) H)/\(xs≠[]->ys=[]->Q (.ref a) H)/\(xs≠[]->ys≠[]->∀p,H p=ae->Q (.ref p) (upd H p (.tup (xs++ys))))):=by
 rintro pins s σ H x y v u Q I rx ry ⟨a,b,xs,ys,e,e',sa,sb,hz,q1,q2,q3⟩;by_cases hx:xs=[]
 .subst e e' hx;cases rx;cases ry;obtain⟨us,ru,⟨⟨c1,d1,f1,g1⟩,h1,k1,n1,m1⟩,_⟩:=I.tuple sa;obtain⟨vs,rv,⟨⟨c2,d2,f2,g2⟩,h2,k2,n2,m2⟩,_⟩:=I.tuple sb;cases ru;have k1:c1=.type "tuple":=k1;have m1:f1=.seq ([]:List aj).toArray n1:=m1;have k2:c2=.type "tuple":=k2;have m2:f2=.seq vs.toArray n2:=m2;subst k1 m1 k2 m2;exact fW ⟨_,h1,rfl⟩ ⟨_,h2,rfl⟩ gn i6 du d9 (cZ _ _)
   (tuple_addW0 a b ([]:List aj).toArray vs.toArray n1 n2 d1 d2 g1 g2 (by simp)) ⟨h1,h2,⟨.ref b,H,I,rfl,q1 rfl⟩⟩
 .exact ja4 pins s σ H x y v u Q I rx ry ⟨a,b,xs,ys,e,e',sa,sb,hx,hz,q2 hx,q3 hx⟩
theorem all_range:∀bs:List Bool,(aA bs.length).all (λi=>(bs[i]?).getD aa)=bs.all id
 |[]=>rfl
 |b::bs=>by rw[X6,dM,gB,k7,gB,<-all_range bs];rfl
theorem j0w (hc:X.calm=aa):Jp X (.builtin "all") (λxs H Q=>∃(l:ai)(bs:List Bool),xs=[.ref l]/\SqL X.K H l (bs.map V.bl)/\Q (.bl (bs.all id)) H):=by
 rintro pins s σ H xs us Q I r ⟨l,bs,e,sq,q⟩;subst e;obtain⟨u,eu,ru⟩:=vals1 r;subst eu;cases ru;obtain⟨its,rv,pl,_⟩:=I.list sq;have hlt:l<s.heap.objs.size:=by obtain⟨_,_,e,_⟩:=pl;exact xn e
 have hl:its.length=bs.length:=by rw[<-rv.length,km]
 refine call_all_walk (bx pl.isList ⟨s.heap.objs.size,[s.heap.objs.size,l],[s.heap.objs.size],its.toArray.size,_,_,λi=>(bs[i]?).getD aa,rfl,Walks.list (A:=X.A.in1) (I.ok.hd hc) _ _ (X8 hlt) its.toArray,⟨⟨_,X7 _ rfl,rfl,rfl⟩,pl.isList.push _⟩,?_,λh' tk kp=>?_⟩)
 .intro i v s' Q' E' hv hq;have hi:i<its.length:=by have:=Array.getElem?_eq_some_iff.mp hv;obtain⟨h,_⟩:=this;simpa using h
  have hb:i<bs.length:=by omega
  obtain⟨w1,hw,rw1⟩:=rv.get (x:=.bl bs[i]) (i:=i) (by rw[xq,kh hb];rfl);have:its.toArray[i]?=a8 w1:=by simpa using hw
  rw[this]at hv;cases hv;cases rw1;simp only[kh hb,Tn]at hq;exact bu hq
 .have ev:(aA its.toArray.size).all (λi=>(bs[i]?).getD aa)=bs.all id:=by rw[X4,hl];exact all_range bs
  rw[ev];refine⟨.bl _,H,I.kept (t':=tk) λb o e=>kp b o ?_ (xg _ e),rfl,q⟩;intro z;rw[xj.mp z]at e;exact t6 _ (xn e)
end
section
variable{X:Cx}{ρ:Rho}{a b e:ar}{d d':D}{ds ds':List D}{i j:Int}{pos p p1 p2:aM}{k:Nat}{x:aq}{P:Po}
theorem DE.eqD(hu:X.A.units+100<aS)(ha:DT X ρ a d)(hb:DT X ρ b d')(hd:d.dep<=100)(nd:d'.dep<10000):DE X ρ (.Compare a [.Eq] [b] pos) (.bl (deq d d')):=λσ H Q R q =>(J3 (j48 hu) peS peS (qz _)).to (ha σ H _ R λv H1 g1 e1=>hb σ H1 _ (R.grow g1) λu H2 g2 e2=>⟨d,d',e1.mono g2,e2,hd,nd,q _ H2 (g1.trans g2) rfl⟩)
theorem DB.eqD(hu:X.A.units+100<aS)(ha:DT X ρ a d)(hb:DT X ρ b d')(hd:d.dep<=100)(nd:d'.dep<10000):DB X ρ (.Compare a [.Eq] [b] pos) (deq d d'):=λσ H Q R q =>(J2 (j48 hu) peS peS (qz _)).to (ha σ H _ R λv H1 g1 e1=>hb σ H1 _ (R.grow g1) λu H2 g2 e2=>⟨d,d',e1.mono g2,e2,hd,nd,_,rfl,q H2 (g1.trans g2)⟩)
theorem DB.neD(s:Bool)(hu:X.A.units+100<aS)(ha:DT X ρ a (D.seq s ds))(hb:DT X ρ b (D.seq s ds'))(hd:D.depL ds<=98)(nd:D.depL ds'<10000):DB X ρ (.Compare a [.NotEq] [b] pos) (!zb ds ds'):=λσ H Q R q =>(J2 (j46 hu) peS peS (qz _)).to (ha σ H _ R λv H1 g1 e1=>hb σ H1 _ (R.grow g1) λu H2 g2 e2=>⟨ds,ds',s,e1.mono g2,e2,hd,nd,_,rfl,q H2 (g1.trans g2)⟩)
theorem DB.notIn(s:Bool)(hu:X.A.units+100<aS)(ha:DT X ρ a d)(hb:DT X ρ b (D.seq s ds))(hd:D.depL ds<=98)(nd:d.dep<10000)(hm:aH .NotIn b=a9:=by with_unfolding_all rfl):DB X ρ (.Compare a [.NotIn] [b] pos) (!ds.any λe=>deq e d):=λσ H Q R q =>(J2 (Cj hu) peS peS hm).to (ha σ H _ R λv H1 g1 e1=>hb σ H1 _ (R.grow g1) λu H2 g2 e2=>⟨d,ds,s,e1.mono g2,e2,hd,nd,_,rfl,q H2 (g1.trans g2)⟩)
theorem DB.in(s:Bool)(hu:X.A.units+100<aS)(ha:DT X ρ a d)(hb:DT X ρ b (D.seq s ds))(hd:D.depL ds<=98)(nd:d.dep<10000)(hm:aH .In b=a9:=by with_unfolding_all rfl):DB X ρ (.Compare a [.In] [b] pos) (ds.any λe=>deq e d):=λσ H Q R q =>(J2 (j47 hu) peS peS hm).to (ha σ H _ R λv H1 g1 e1=>hb σ H1 _ (R.grow g1) λu H2 g2 e2=>⟨d,ds,s,e1.mono g2,e2,hd,nd,_,rfl,q H2 (g1.trans g2)⟩)
theorem DE.min (ha:DT X ρ a (.int i)) (hb:DT X ρ b (.int j)) (hm:X.mg "min" = ae) (hc:X.calm=aa:=by rfl) (hg:Gl X "min":=by rfl) (hs:ah [a,b] X.env=(a9,aE a X.env)::ah [b] X.env:=by rfl) (hs2:ah [b] X.env=(a9,aE b X.env)::ah [] X.env:=by rfl)
  (hpl:(aR pos (ah [b] X.env)).any (·.1)=a9:=by rfl):DE X ρ (.Call (.Name "min" p) [a,b] [] pos) (.int (if j<i then j else i)):=λσ H Q R q =>
 (v8 (j5b hc) hg hm lH (jc peS (jc peS jx hs2) hs) (by decide) (by decide) hs hpl).to (ha σ H _ R λv H1 g1 e1=>hb σ H1 _ (R.grow g1) λu H2 g2 e2=>⟨i,j,by rw[show v=.int i from e1,show u=.int j from e2],q _ H2 (g1.trans g2) rfl⟩)
theorem Ot{K:k7f}{H:Hp}:∀{bs:List Bool}{xs:List V},j4 K H (bs.map D.bl) xs->xs=bs.map V.bl
 |[],_,h=>h
 |b::bs,_,⟨x,r,e,h,l⟩=>by subst e;cases(show x=.bl b from h);rw[Ot l];rfl
theorem DE.all {bs:List Bool} (ha:DT X ρ a (.lst (bs.map D.bl))) (hm:X.mg "all" = ae) (hc:X.calm=aa:=by rfl) (hg:Gl X "all":=by rfl) (hs:ah [a] X.env=[(a9,aE a X.env)]:=by rfl):DE X ρ (.Call (.Name "all" p) [a] [] pos) (.bl (bs.all id)):=λσ H Q R q =>(v8 (j0w hc) hg hm boot_all (jc peS jx hs) (by decide) (by decide) hs).to (ha σ H _ R λv H1 g1 ⟨l,xs,e,sq,en⟩=>⟨l,bs,by rw[e],by rw[Ot en]at sq;exact sq,q _ H1 g1 rfl⟩)
def jc4(X:Cx)(e:Option ar):TO:=λσ H Q=>∀pins s,Inv X pins σ H s->ax (aC X.prog X.w) X.A (evalPart e X.env) (λu s'=>∃o H',Inv X pins σ H' s'/\eY u o/\Q o H') X.xe s
theorem poS{e:Option ar}:PO X e (jc4 X e):=λpins s σ H Q I h=>h pins s I
def DP(X:Cx)(ρ:Rho)(e:Option ar)(o:Option Int):Prop:=∀σ H Q,Rep X.K ρ σ H->(∀H',j0 H H'->Q o H')->jc4 X e σ H Q
theorem DP.none:DP X ρ ae ae:=λσ H Q R q pins s I=>j9x pins s σ H Q I (q H (j0.refl H))
theorem DP.some(h:DT X ρ e (.int i)):DP X ρ (a8 e) (a8 i):=λσ H Q R q pins s I=>j9w peS pins s σ H Q I (h σ H _ R λv H1 g1 e1=>⟨i,e1,q H1 g1⟩)
variable{lo hi:Option ar}{l u:Option Int}
end
def Fz(o:Option HO):Prop:=(∃xs,o=a8 (.lst xs))\/∃oc v,o=a8 (.frz oc (.own 0))/\oc.data=.cell v
theorem j4p{P:ay}{w:aD}{K:k7f}{mg:k7i}{base:aF}{A0:aG}{outer:List cT}{s:ao}{H:Hp}{A:List ai}(e0:Env0 P w K mg base A0 outer s H)(hA:∀a∈A,Fz (H a)) :
  Env0 P w K mg base A0 outer s (del H A)/\∀(Q:VK)(E E':XK)(r:eB)(s':ao),CR CX0 outer P w (del H A) s (λv F=>(∀a∈A,F a=ae)->Q v (mrg A H F)) E r s'->CR CX0 outer P w H s Q E' r s':=by
 have nd:∀{b:ai},H b=ae->del H A b=ae:=λ{b} q=>by
  by_cases z:b∈A
  .exact ql z
  .rw[j9 z];exact q
 have out:∀{b:ai}{o:HO},H b=a8 o->(∀ys,o≠.lst ys)->(∀oc v,o=.frz oc (.own 0)->oc.data≠.cell v)->b∉A:=λ{b o} q z z2 y=>by
  rcases hA b y with ⟨ys,e'⟩|⟨oc,v,e',d⟩
  .rw[q]at e';cases e';exact z ys rfl
  .rw[q]at e';cases e';exact z2 _ _ rfl d
 have e1:Env0 P w K mg base A0 outer s (del H A):=⟨e0.frames,e0.mod,λb o q=>⟨(e0.bs b o q).1,nd (e0.bs b o q).2⟩,e0.bsz,e0.funs,λb hb=>nd (e0.frf b hb),
  λa o q=>by
   obtain⟨_,q⟩:=of_del q
   exact jo.stay (e0.hok a o q) (λb u _ z=>z) (λb z=>by rw[j9 (out z (λ_ y=>by cases y) λ_ _ y=>by cases y)];exact z) (λb xs z=>by rw[j9 (out z (λ_ y=>by cases y) λ_ _ y=>by cases y)];exact z)
    (λb o ⟨vs,d⟩ z=>by rw[j9 (out z (λ_ y=>by cases y) λ_ _ y d'=>by cases y;rw[d]at d';cases d')];exact z),e0.bare⟩
 refine⟨e1,λQ E E' r s' hq=>?_⟩;cases r with
 |error e=>exact(show False from hq).elim
 |ok fl =>
  cases fl with
  |next=>exact(show False from hq).elim
  |brk=>exact(show False from hq).elim
  |cont=>exact(show False from hq).elim
  |ret u =>
   obtain⟨v,H',os,bare,un,hok',rel,q⟩:=(show CE outer P w (del H A) s _ u s' from hq)
   have kept:∀a∈A,∃o,s.heap.get? a=a8 o/\s'.heap.get? a=a8 o/\H' a=ae:=λa ha=>by
    have nf:a∉frs outer:=λy=>by have z:=e0.frf a y;rcases hA a ha with ⟨xs,e⟩|⟨oc,v,e,_⟩<;>(rw[z]at e;cases e)
    have ob:∃o,s.heap.get? a=a8 o:=by
     rcases hA a ha with ⟨xs,e⟩|⟨oc,v,e,_⟩
     .obtain⟨_,its,n,_,z⟩:=(show jo P w H s.heap a (.lst xs)from e0.hok _ _ e);exact⟨_,z⟩
     .exact⟨_,(show jo P w H s.heap a (.frz oc (.own 0))from e0.hok _ _ e).1⟩
    obtain⟨o,z⟩:=ob;exact⟨_,z,un.keep a _ z (ql ha) nf (by simp),un.free a _ z (ql ha) (by simp)⟩
   have hF:∀a∈A,H' a=ae:=λa ha=>let ⟨_,_,_,z⟩:=kept a ha;z;have outF:∀{b:ai}{o:HO},H' b=a8 o->b∉A:=λ{b o} e z=>by rw[hF b z]at e;cases e
   refine⟨v,mrg A H H',os,bare,?_,λa o e=>?_,rel,q hF⟩
   .exact{
     keep:=λb o e n=>un.keep b o e (nd n)
     slot:=λb o e n=>un.slot b o e (nd n)
     free:=λb o e n hx=>by
      by_cases z:b∈A
      .rw[vz z];exact n
      .rw[ji z];exact un.free b o e (nd n) hx
     there:=un.there
     tups:=λb xs e=>by
      have z:=un.tups b xs (by rw[j9 (out e (λ_ y=>by cases y) λ_ _ y=>by cases y)];exact e)
      rw[ji (outF z)];exact z
     frzs:=λb o u e=>by
      by_cases y:b∈A
      .rw[vz y];exact e
      .have z:=un.frzs b o u (by rw[j9 y];exact e)
       rw[ji y];exact z
     tbls:=λb ps e=>by
      obtain⟨more,z⟩:=un.tbls b ps (by rw[j9 (out e (λ_ y=>by cases y) λ_ _ y=>by cases y)];exact e)
      exact⟨more,by rw[ji (outF z)];exact z⟩ }
   .by_cases z:a∈A
    .rw[vz z]at e;obtain⟨o',q1,q2,_⟩:=kept a z;rcases hA a z with ⟨xs,e'⟩|⟨oc,v,e',_⟩
     .rw[e']at e;cases e;obtain⟨hl,its,n,r,y⟩:=(show jo P w H s.heap a (.lst xs)from e0.hok _ _ e')
      rw[y]at q1;cases q1;exact⟨hl,its,n,r,q2⟩
     .rw[e']at e;cases e;have y:=(show jo P w H s.heap a (.frz oc (.own 0))from e0.hok _ _ e').1;rw[y]at q1;cases q1;exact⟨q2,_,q2⟩
    .rw[ji z]at e;refine jo.stay (hok' a o e) (λb u _ q=>q) (λb q=>?_) (λb xs q=>?_) (λb _ _ q=>?_)
     .rw[ji (outF q)];exact q
     .rw[ji (outF q)];exact q
     .rw[ji (outF q)];exact q
structure LamScope(N ps:List aq)(sc:b8):Prop where
 kind:sc.kind=.function
 co:sc.isCoroutine=a9
 gen:sc.isGenerator=a9
 nd:N.Nodup
 nm:N=V4 sc++ps
 lfr:∀x∈V4 sc,sc.names.lookup x=a8 .free
 lps:∀x∈ps,sc.names.lookup x=a8 .local
 nocell:∀y∈sc.names,y.2≠.cell
 cov:∀x,sc.names.lookup x=a8 .free->x∈V4 sc
noncomputable def Yv(P:ay)(w:aD)(K:k7f)(mg:k7i)(base:aF)(N:List aq)(qual:aq)(scope:b8)(a:ai)(cd:aj)(cl:List (aq×ai))(A:aG)(outer:List cT)(s:ao)(H:Hp):Cx where
 prog:=P
 w:=w
 K:=K
 mg:=mg
 base:=base
 A:=A.deeper (W.envX qual scope s.heap.objs.size a cd cl)
 N:=N
 s₀:=s
 H₀:=H
 env:=W.envX qual scope s.heap.objs.size a cd cl
 outer:=outer
 stack:=W.envX qual scope s.heap.objs.size a cd cl::outer
 ex:=[]
 calm:=aa
 fn:=λ_=>a9
 pn:=[]
 xe:=λ_ _=>False
def Jg(h:aF):List ai->List V->Prop
 |[],vs=>vs=[]
 |c::cs,vs=>∃v r u,vs=v::r/\h.IsCell c (a8 u)/\RelV v u/\Jg h cs r
theorem Jg.get{h:aF}:∀{cs:List ai}{vs:List V}{i:Nat}{v:V},Jg h cs vs->vs[i]?=a8 v->∃c u,cs[i]?=a8 c/\h.IsCell c (a8 u)/\RelV v u
 |[],_,i,v,e,q=>by cases e;simp at q
 |c::cs,_,0,v,⟨x,r,u,e,h1,h2,_⟩,q=>by subst e;simp at q;subst q;exact⟨c,u,rfl,h1,h2⟩
 |c::cs,_,i+1,v,⟨x,r,u,e,_,_,l⟩,q=>by subst e;obtain⟨c',u',z1,z2⟩:=Jg.get l (i:=i) (by simpa using q);exact⟨c',u',by simpa using z1,z2⟩
theorem Jg.length{h:aF}:∀{cs:List ai}{vs:List V},Jg h cs vs->vs.length=cs.length
 |[],_,e=>by cases e;rfl
 |c::cs,_,⟨x,r,u,e,_,_,l⟩=>by subst e;simp[l.length]
theorem Jg.all{h:aF}:∀{cs:List ai}{vs:List V},Jg h cs vs->∀c∈cs,∃v,h.IsCell c v
 |c::cs,_,⟨x,r,u,e,h1,_,l⟩,b,hb=>(xu.mp hb).elim (λz=>z▸⟨_,h1⟩) (l.all b)
theorem lookup_at{α:Type}:∀{l:List (aq×α)} {i:Nat} {p:aq×α},(l.map (·.1)).Nodup->l[i]?=a8 p->l.lookup p.1=a8 p.2
 |[],i,p,_,h=>by simp at h
 |q::l,0,p,_,h=>by simp at h;subst h;rw[Xi,beq_self_eq_true]
 |q::l,i+1,p,nd,h=>by rw[X5]at nd;rw[dD]at h;have ne:(p.1==q.1)=a9:=beq_eq_false_iff_ne.mpr λz=>(Xn.mp nd).1 (z▸eG (Xj h));rw[Xi,ne];exact lookup_at (Xn.mp nd).2 h
theorem j2q{ps:List aq}{us:List aj}{i:Nat}{p:aq}{u:aj}(nd:ps.Nodup)(hl:us.length=ps.length)(h1:ps[i]?=a8 p)(h2:us[i]?=a8 u):(ps.zip us).reverse.lookup p=a8 u:=by
 have hm:(p,u)∈(ps.zip us).reverse:=List.mem_reverse.mpr (Xj (i:=i) (by rw[gp];exact⟨h1,h2⟩));have e:((ps.zip us).reverse.map (·.1))=ps.reverse:=by rw[List.map_reverse,List.map_fst_zip nofun]
 obtain⟨j,hj⟩:=List.mem_iff_getElem?.mp hm;exact lookup_at (by rw[e];exact(List.reverse_perm ps).nodup_iff.mpr nd) hj
section
variable{P:ay}{w:aD}{K:k7f}{mg:k7i}{base:aF}{A:aG}{outer:List cT}{s:ao}{H:Hp}{x:aq}{a c:ai}{tx:Tx}{cl:List (aq×ai)}{pm ctv:aj}{cvs vs:List V}{us:List aj}{N ps:List aq}{k:Nat}{Q:VK}{E:XK}
theorem jar{h1:aF}{tk:Nat}(hh:A.handled=ae)(e0:Env0 P w K mg base A outer s H)(S:LamScope N ps tx.2.2)(hn:cl.map (·.1)=V4 tx.2.2)(nd:(cl.map (·.2)).Nodup)(hc:Jg s.heap (cl.map (·.2)) cvs)(hf:∀q∈cl.map (·.2),H q=ae)(rv:Vals vs us)(hl:vs.length=ps.length)
  (ns:h1.Ns s.heap.objs.size λy=>(ps.zip us).reverse.lookup y) (kp:∀b o,s.heap.get? b=a8 o->h1.get? b=a8 o) :
  Inv (Yv P w K mg base N (za x) tx.2.2 a (.ref c) cl A outer s H) [] (start N (cvs++vs)) H { s with heap:=h1,toks:=tk }:=by
 have ndN:(V4 tx.2.2).Nodup:=by have:=S.nd;rw[S.nm]at this;exact(List.nodup_append.mp this).1
 have ndP:ps.Nodup:=by have:=S.nd;rw[S.nm]at this;exact(List.nodup_append.mp this).2.1
 have ndC:(cl.map (·.1)).Nodup:=by rw[hn];exact ndN
 have lenC:cvs.length=(V4 tx.2.2).length:=by rw[hc.length,<-hn,km,km]
 have lenN:N.length=(cvs++vs).length:=by rw[S.nm,Xe,Xe,lenC,hl]
 have noA:∀b:ai,b∉(Yv P w K mg base N (za x) tx.2.2 a (.ref c) cl A outer s H).ex:=λb z=>absurd (show b∈([]:List ai)from z) (by simp);have mem2:∀{y:aq}{q:ai},cl.lookup y=a8 q->q∈cl.map (·.2):=λ{y q} h=>Xk.mpr ⟨(y,q),Py h,rfl⟩;have inj:∀(l:List (aq×ai)),(l.map (·.2)).Nodup->∀y z q,(y,q)∈l->(z,q)∈l->y=z:=λl=>by
  induction l with
  |nil=>intro _ y z q h;cases h
  |cons p r ih =>
   intro nd y z q h1 h2;rw[X5]at nd;obtain⟨n1,n2⟩:=Xn.mp nd;rcases xu.mp h1 with e1|h1<;>rcases xu.mp h2 with e2|h2
   .rw[<-e1]at e2;cases e2;rfl
   .exact absurd (Xk.mpr ⟨(z,q),h2,by rw[<-e1]⟩) n1
   .exact absurd (Xk.mpr ⟨(y,q),h1,by rw[<-e2]⟩) n1
   .exact ih n2 y z q h1 h2
 refine⟨⟨e0.mod,S.kind,rfl,rfl,xx _,λy z q h1 h2=>inj cl nd y z q (Py h1) (Py h2),λy hy=>?_,λy q h=>(by cases h),λ_=>hh,gK e0.frames,.inr ⟨rfl,rfl⟩,λb z=>absurd z (noA b),e0.bs,e0.bsz,λb _ _=>noA b,λb z=>absurd z (noA b),e0.funs,e0.frf⟩,
  rfl,e0.bare,Un.kept kp,⟨_,ns,λi y v h1 h2 h3=>?_⟩,λy q h=>?_,e0.hok.fresh (xx _),λy q h=>hf q (mem2 h),λp hp=>absurd (show p∈([]:k7h)from hp) (by simp),e0.hok.kept kp,?_⟩
 .have hy:tx.2.2.names.lookup y=a8 .cell\/tx.2.2.names.lookup y=a8 .free:=hy;rcases hy with hy|hy
  .exact absurd rfl (S.nocell _ (Py hy))
  .have m:=S.cov y hy;rw[<-hn]at m;obtain⟨p,hp,e⟩:=Xk.mp m;obtain⟨i,hi⟩:=List.mem_iff_getElem?.mp hp;exact⟨p.2,by have:=lookup_at ndC hi;rw[e]at this;exact this⟩
 .have h1:N[i]?=a8 y:=h1;have hi:i<(cvs++vs).length:=by rw[<-lenN];exact(xr.mp h1).1
  have ha:(cvs++vs)[i]?=a8 v:=by
   unfold start at h2;rw[tu (by simpa using hi),xq]at h2;cases e:(cvs++vs)[i]? with
   |none=>rw[e]at h2;cases h2
   |some a=>rw[e]at h2;cases h2;rfl
  rw[S.nm]at h1;by_cases z:i<cvs.length
  .rw[tu z]at ha;rw[tu nofun]at h1;obtain⟨q,u,e1,e2,r⟩:=hc.get ha;refine⟨u,r,.inr ⟨.inr (S.lfr y (Xj h1)),q,?_,e2.keeps kp⟩⟩;rw[<-hn,xq]at h1;rw[xq]at e1;obtain⟨p,hp,ep⟩:=Xm.mp h1;rw[hp]at e1;have:=lookup_at ndC hp;rw[ep]at this;show cl.lookup y=a8 q;rw[this];exact e1
  .rw[cW nofun]at ha h1;rw[<-lenC]at h1;obtain⟨u,hu,r⟩:=rv.get ha;exact⟨u,r,.inl ⟨S.lps y (Xj h1),j2q ndP (by rw[<-rv.length,hl]) h1 hu⟩⟩
 .obtain⟨v,z⟩:=hc.all q (mem2 h);exact⟨v,z.keeps kp⟩
 .unfold start;show _=N.length;rw[Xe,km,Tc];omega
theorem j6o (hr:Room (k+1) A) (e0:Env0 P w K mg base A outer s H) (ho:s.heap.get? a=a8 (W.kla_obj "<lambda>" (za x) tx.1 tx.2.1 tx.2.2 cl pm c ctv)) (hcd:s.heap.CodeRec (.ref c) (za x))
  (S:LamScope N ps tx.2.2) (hn:cl.map (·.1)=V4 tx.2.2) (nd:(cl.map (·.2)).Nodup) (hc:Jg s.heap (cl.map (·.2)) cvs) (hf:∀q∈cl.map (·.2),H q=ae)
  (hb:eV (W.kla_fn "<lambda>" (za x) tx.1 tx.2.1 tx.2.2 cl pm (.ref c) ctv) ⟨us,[]⟩=pure (ps.zip us)) (rv:Vals vs us) (hl:vs.length=ps.length)
  (body:Room k (Yv P w K mg base N (za x) tx.2.2 a (.ref c) cl A outer s H).A->Jb (Yv P w K mg base N (za x) tx.2.2 a (.ref c) cl A outer s H) tx.2.1 (start N (cvs++vs)) H Q) :
  bK (aC P w) A (.call (.ref a) ⟨us,[]⟩) (CR CX0 outer P w H s Q E) s:=by
 have lim:s.heap.NoLimit:=e0.mod.nolimit.keeps λb o e=>(e0.bs b o e).1;refine W.kla_callFunE (by have:=hr.dp;omega) ho rfl S.co S.gen rfl hcd ?_;rw[hb];refine aw (wpAny_newFunctionEnv S.nocell (λy hy=>S.lps y.1 (dR (a:=y.1) (b:=y.2) hy).1) (λh1 ns sb=>⟨lim.fresh _ sb,?_⟩) S.kind);show bK _ _ (.expr tx.2.1 (W.envX (za x) tx.2.2 s.heap.objs.size a (.ref c) cl)) _ _;have kp:∀b o,s.heap.get? b=a8 o->h1.get? b=a8 o:=λb o e=>sb.extBut b o (X8 (xn e)) (xg _ e);have I:=jar (x:=x) (a:=a) (c:=c) (tk:=s.toks+(ps.zip us).length) hr.hd e0 S hn nd hc hf rv hl ns kp;refine W.kla_codeExpr (bo (body (hr.deeper _) [] _ I) (λu s' ⟨v,H',J,r,q⟩=>?_) λ_ _ z=>z.elim);exact⟨v,H',J.os,J.bare,J.base,J.hok,r,q⟩
end
mutual
noncomputable def noFn:D->Bool
 |.fn _ _=>a9
 |.tup ds=>Yt ds
 |.lst ds=>Yt ds
 |.dct _ ds=>Yt ds
 |_=>aa
noncomputable def Yt:List D->Bool
 |[]=>aa
 |d::ds=>noFn d&&Yt ds
end
section
variable{K:k7f}{H:Hp}{A:List ai}
def Cel(H:Hp)(A:List ai):Prop:=∀a∈A,∃oc v,H a=a8 (.frz oc (.own 0))/\oc.data=.cell v
theorem Cel.out(hA:Cel H A){b:ai}{o:HO}(q:H b=a8 o)(h:∀oc,o≠.frz oc (.own 0)):del H A b=a8 o:=by rw[j9];exact q;intro y;obtain⟨oc,v,e,_⟩:=hA b y;rw[q]at e;exact h oc (aB e)
theorem Cel.seqT(hA:Cel H A){a:ai}{xs:List V}(h:SqT K H a xs):SqT K (del H A) a xs:=by
 rcases h with (h|⟨o,h⟩)|h
 .exact .inl (.inl (hA.out h λ_ z=>by cases z))
 .exact .inl (.inr ⟨o,hA.out h λ_ z=>by cases z⟩)
 .exact .inr h
theorem Cel.seq(hA:Cel H A){a:ai}{xs:List V}(h:SqL K H a xs):SqL K (del H A) a xs:=by
 rcases h with (h|⟨o,h⟩)|h
 .exact .inl (.inl (hA.out h λ_ z=>by cases z))
 .exact .inl (.inr ⟨o,hA.out h λ_ z=>by cases z⟩)
 .exact .inr h
mutual
theorem Enc.noc(hA:Cel H A):∀{d:D}{v:V},noFn d=aa->Enc K H d v->Enc K (del H A) d v
 |.non,_,_,h=>h
 |.bl _,_,_,h=>h
 |.int _,_,_,h=>h
 |.str _,_,_,h=>h
 |.tup _,_,n,⟨a,xs,e,q,l⟩=>⟨a,xs,e,hA.seqT q,j4.noc hA (by simpa [noFn]using n) l⟩
 |.lst _,_,n,⟨a,xs,e,q,l⟩=>⟨a,xs,e,hA.seq q,j4.noc hA (by simpa [noFn]using n) l⟩
 |.dct _ _,_,n,⟨a,xs,ep,vs,e,q,ek,kt,rv,l⟩=>⟨a,xs,ep,vs,e,hA.out q (λ_ z=>by cases z),ek,λx hx=>hA.seqT (kt x hx),rv,j4.noc hA (by simpa [noFn]using n) l⟩
 |.sct _,_,_,⟨a,e,q⟩=>⟨a,e,hA.out q λ_ z=>by cases z⟩
 |.fn _ _,_,n,_=>by cases n
theorem j4.noc(hA:Cel H A):∀{ds:List D}{xs:List V},Yt ds=aa->j4 K H ds xs->j4 K (del H A) ds xs
 |[],_,_,h=>h
 |d::ds,_,n,⟨x,r,e,h,l⟩=>by rw[Yt,Xb]at n;exact⟨x,r,e,Enc.noc hA n.1 h,j4.noc hA n.2 l⟩
end
theorem vy.cel:∀{cs:List ai}{vs:List V},vy H cs vs->Cel H cs
 |[],_,_=>λ_ h=>nomatch h
 |c::cs,_,⟨v,r,o,u,e,h,d,rv,l⟩=>λa ha=>(xu.mp ha).elim (λz=>⟨o,_,z▸h,d⟩) (l.cel a)
theorem vy.inn{P:ay}{w:aD}{h:aF}(ok:HOk P w H h):∀{cs:List ai}{vs:List V},vy H cs vs->Jg h cs vs
 |[],_,e=>e
 |c::cs,_,⟨v,r,o,u,e,q,d,rv,l⟩=>⟨v,r,u,e,⟨o,(show jo P w H h c (.frz o (.own 0))from ok _ _ q).1,d⟩,rv,l.inn ok⟩
theorem vy.of_del{B:List ai}:∀{cs:List ai}{vs:List V},vy (del H B) cs vs->vy H cs vs:=λh=>h.mono jm
theorem TabOk.fz(h:TabOk K H)(hA:∀a∈A,Fz (H a)):TabOk K (L2.del H A):=λx hx c P z=>by have q:=h x hx c P z;rw[j9];exact q;intro y;rcases hA _ y with ⟨xs,e⟩|⟨oc,v,e,_⟩<;>(rw[q]at e;cases e)
end
def j3c(P:ay)(w:aD)(K:k7f)(mg:k7i)(base:aF)(k:Nat)(x:aq)(S:List D->D->Prop):Prop :=
 ∀(A:aG)(outer:List cT)(s:ao)(H:Hp)(a:ai)(B:List ai)(cs ds:List D) (d:D) (vs:List V) (us:List aj) (Q:VK) (E:XK),Room k A->Env0 P w K mg base A outer s H->TabOk K H->(∀b∈B,∃xs,H b=a8 (.lst xs)) ->
  Enc K (del H B) (.fn x cs) (.ref a)->j4 K (del H B) ds vs->Yt ds=aa->S (cs++ds) d->Vals vs us->(∀v H',j0 H H'->Enc K (del H' B) d v->Q v H')->bK (aC P w) A (.call (.ref a) ⟨us,[]⟩) (CR CX0 outer P w H s Q E) s
section
variable{P:ay}{w:aD}{K:k7f}{mg:k7i}{base:aF}{k:Nat}{x:aq}{S:List D->D->Prop}{tx:Tx}{N ps:List aq}
theorem jdi(ht:j2t K x=a8 tx)(Sc:LamScope N ps tx.2.2)(hl:∀ds d,S ds d->ds.length=N.length)
  (hb:∀(cl:List (aq×ai)) (pm:aj) (c:ai) (ctv:aj) (us:List aj),us.length=ps.length->eV (W.kla_fn "<lambda>" (za x) tx.1 tx.2.1 tx.2.2 cl pm (.ref c) ctv) ⟨us,[]⟩=pure (ps.zip us))
  (hbody:∀(a c:ai)(cl:List (aq×ai)) (A:aG) (outer:List cT) (s:ao) (H:Hp),cl.map (·.1)=V4 tx.2.2->Room k (Yv P w K mg base N (za x) tx.2.2 a (.ref c) cl A outer s H).A->∀ds d,S ds d->DT (Yv P w K mg base N (za x) tx.2.2 a (.ref c) cl A outer s H) (q9 N ds) tx.2.1 d):j3c P w K mg base (k+1) x S:=by
 intro A outer s H a B cs ds d vs us Q E hr e0 tb hB en ea nf hS rv q;obtain⟨a',c,tx',cl,cvs,e,L,l⟩:=en;cases e;have et:tx'=tx:=aB (L.tx.symm.trans ht);subst et;have cs_at:vy H (cl.map (·.2)) cvs:=L.cs.of_del;have hA:∀b∈B++cl.map (·.2),Fz (H b):=λb hb=>(Pk.mp hb).elim (λz=>.inl (hB b z)) λz=>.inr (cs_at.cel b z);obtain⟨e1,back⟩:=j4p e0 hA;obtain⟨pm,ctv,hfo⟩:=L.fo;obtain⟨oc,hco,vs0,t0,hd0,hv0⟩:=L.co;have ho:=(show jo P w H s.heap a (.frz _ (.own 0))from e0.hok _ _ (of_del hfo).2).1;have hcd:s.heap.CodeRec (.ref c) (za x):=⟨c,oc,vs0,t0,rfl,(show jo P w H s.heap c (.frz oc (.own 0))from e0.hok _ _ (of_del hco).2).1,hd0,hv0⟩
 have ll:=l.length;have la:=ea.length;have hlen:=hl _ _ hS;have lenC:(cl.map (·.2)).length=(V4 tx'.2.2).length:=by rw[<-L.nm,km,km]
 have lcv:=(cs_at.inn e0.hok).length;have hlv:vs.length=ps.length:=by rw[Sc.nm,Xe,Xe]at hlen;omega
 have celB:Cel (del H B) (cl.map (·.2)):=L.cs.cel;have ea1:j4 K (del H (B++cl.map (·.2))) ds vs:=by rw[<-Jv];exact ea.noc celB nf
 have l1:j4 K (del H (B++cl.map (·.2))) cs cvs:=by rw[<-Jv];exact l
 refine cg (j6o (E:=E) (Q:=λv F=>(∀a∈B++cl.map (·.2),F a=ae)->Q v (mrg (B++cl.map (·.2)) H F)) hr e1 ho hcd Sc L.nm L.nd (cs_at.inn e0.hok) (λb hb=>ql (Xa _ hb)) (hb cl pm c ctv us (by rw[<-rv.length];exact hlv)) rv hlv λhrm=>?_) λr s' h=>back Q E E r s' h;refine hbody a c cl A outer s _ L.nm hrm (cs++ds) d hS _ _ _ (V7 (tb.fz hA) (l1.append ea1)) λv F g en' hF=>q v _ (Oa g) (en'.mono λb o z=>?_);have nb:b∉B++cl.map (·.2):=λy=>by rw[hF b y]at z;cases z
 rw[j9 (λy=>nb (Xu _ y)),ji nb];exact z
end
section
variable{X:Cx}{ρ:Rho}{e a b c:ar}{es:List ar}{st:aN}{rest sa sb body:List aN}{P:Po}{d:D}{ds ds':List D}{pos p p1 p2 p3:aM}{x:aq}{i:Nat}
theorem Cal.comp{sp:Sp}{scope:b8}{C:ai}{s:ao}{H:Hp}{fp:List ai}{pn:k7h}(h:Cal X x sp):Cal (cCx X scope C s H fp pn) x sp:=⟨h.ex⟩
end
theorem qj(lo:Int)(n:Nat):(upto lo n).length=n:=by unfold upto;rw[km,Xf]
theorem j5m{lo:Int}{n j:Nat}{d:D}(h:(upto lo n)[j]?=a8 d):j<n/\d=.int (lo+j):=by
 unfold upto at h;rw[xq]at h;cases z:(aA n)[j]? with
 |none=>rw[z]at h;cases h
 |some k =>rw[z]at h;have hl:=(xr.mp z).1;rw[Xf]at hl;have:=pq (n:=n) (i:=j) hl;rw[this]at z;cases z;cases h;exact⟨hl,rfl⟩
end L2
namespace L2
noncomputable def jk(b:Int):Nat->Int->List Int
 |0,_=>[]
 |i+1,n=>(n/b^i%b)::jk b i n
theorem zm(b:Int):∀(m:Nat)(n:Int),(jk b m n).length=m
 |0,_=>rfl
 |m+1,n=>by rw[jk,X6,zm b m n]
theorem Z5(b:Int):∀{m k:Nat}{n:Int},k<m->(jk b m n)[k]?=a8 (n/b^(m-k-1)%b)
 |m+1,0,n,_=>by rw[jk];rfl
 |m+1,k+1,n,h=>by
  rw[jk,dD,Z5 b nofun];have:m-k-1=m+1-(k+1)-1:=by omega
  rw[this]
theorem Nb{b:Int}(hb:0<b):∀{m:Nat}{n v:Int},v∈jk b m n->0<=v/\v<b
 |m+1,n,v,h=>by
  rw[jk]at h;rcases xu.mp h with e|h
  .subst e;exact⟨Pg _ nofun,Pq _ hb⟩
  .exact Nb hb h
theorem j7c(n b:Int)(hb:0<b)(i:Nat):n/b^i/b=n/b^(i+1):=by rw[Int.ediv_ediv_of_nonneg (Int.le_of_lt (fO hb)),kF]
end L2
end
section
namespace L2
open PySem PySem.Spec PyProof.Rows
def CX1(P:ay)(w:aD):CXT:=λouter H s E ev s'=>∃(e:ai)(C:aj)(H':Hp),ev=.ref e/\s'.os=s.os/\dH s'.gens/\Un (frs outer) [] H H' s.heap s'.heap/\HOk P w H' s'.heap /\
 Fl (λb=>∃o,s.heap.get? b=a8 o) H' s'.heap e C/\E C ae H'
theorem jo.get{P:ay}{w:aD}{H:Hp}{h:aF}{a:ai}{o:HO}(x:jo P w H h a o):∃u,h.get? a=a8 u:=by
 cases o with
 |lst xs=>obtain⟨_,_,_,_,e⟩:=x;exact⟨_,e⟩
 |tup xs=>obtain⟨_,_,_,⟨_,e,_⟩,_⟩:=x;exact⟨_,e⟩
 |dK kvs=>obtain⟨_,_,_,_,o,_,_,e,_⟩:=x;exact⟨_,e⟩
 |dT kvs=>obtain⟨_,_,_,_,o,_,_,e,_⟩:=x;exact⟨_,e⟩
 |dI xs ep=>obtain⟨_,_,_,o,_,e,_⟩:=x;exact⟨_,e⟩
 |set S n=>obtain⟨o,_,_,_,e,_⟩:=x;exact⟨_,e⟩
 |ins C dx fs=>obtain⟨_,_,_,e,_⟩:=x;exact⟨_,e⟩
 |own y=>obtain⟨_,e⟩:=x;exact⟨_,e⟩
 |xd fs=>obtain⟨_,⟨_,_,_,e,_⟩,_⟩:=x;exact⟨_,e⟩
 |rng lo hi=>obtain⟨_,_,_,e⟩:=x;exact⟨_,e⟩
 |frz ob u=>obtain⟨e,_⟩:=x;exact⟨_,e⟩
 |tbl ps=>exact⟨_,(show h.get? a=a8 _ from x)⟩
 |cod q=>obtain⟨_,e,_⟩:=x;exact⟨_,e⟩
 |met f y=>exact⟨_,(show h.get? a=a8 _ from x)⟩
 |ext φ=>obtain⟨_,⟨_,e⟩,_⟩:=x;exact⟨_,e⟩
section
variable{X:Cx}{pins:k7h}{σ:St}{H:Hp}{s:ao}
theorem Inv.old(I:Inv X pins σ H s){b:ai}(h:Old X pins b):∃o,s.heap.get? b=a8 o:=by
 rcases h with ⟨o,q,n⟩|⟨p,hp,rfl⟩|rfl|⟨x,e⟩
 .exact I.base.there b o q n
 .exact⟨_,(I.pin p hp).1⟩
 .obtain⟨m,⟨o,_,_,e,_⟩,_⟩:=I.loc;exact⟨o,e⟩
 .obtain⟨v,o,e,_⟩:=I.cell x b e;exact⟨o,e⟩
end
section
variable{P:ay}{w:aD}{K:k7f}{mg:k7i}{base:aF}{N ps:List aq}{qual:aq}{scope:b8}{f:ai}{cd:aj}{A:aG}{outer:List cT}{s s':ao}{H H':Hp}{E:XK}{σ:St}{pins:k7h}{e:ai}{C:aj}
theorem Ft{as:List ai}{h':aF}{a0:aj}(I:Inv (zc (CX1 P w) P w K mg base N qual scope f cd A outer s H E) pins σ H' s')(F:FlQ (flF (zc (CX1 P w) P w K mg base N qual scope f cd A outer s H E).env) (Old (zc (CX1 P w) P w K mg base N qual scope f cd A outer s H E) pins) H' s'.heap e C)
  (hE:E C ae H') (ha:∀b,b∈as↔b∈frs (bq qual scope s.heap.objs.size f cd::outer)\/(¬(∃o,s.heap.get? b=a8 o)/\H' b=ae/\b∈as)) (hfa:∀b∈frs (bq qual scope s.heap.objs.size f cd::outer),b∈as)
  (hL:Heap.LeftW (W.hideAll s'.heap as) (bq qual scope s.heap.objs.size f cd::outer) e C a0 s'.heap h'):CX1 P w outer H s E (.ref e) { s' with heap:=h' }:=by
 obtain⟨k1,k2,k3,k4⟩:=hL;have fr:∀b∈frs outer,∃o,s'.heap.get? b=a8 o/\∀vs,o.data≠.fields vs:=λb hb=>by obtain⟨o,ho,hd⟩:=(I.stack.mem (show b∈frs (bq qual scope s.heap.objs.size f cd::outer)from xm _ hb)).2;exact⟨o,ho,hd⟩
 have sfree:∀b∈frs (bq qual scope s.heap.objs.size f cd::outer),H' b=ae:=I.stkFree;have keep:∀b o,s'.heap.get? b=a8 o->b∉as->h'.get? b=a8 o:=λb o q n=>k1 b o (W.hideAll_get _ q n);have nold:∀b o,s.heap.get? b=a8 o->b∉frs outer->b∉as:=λb o q n z=>by
  rcases(ha b).mp z with z|⟨z,_⟩
  .rcases xu.mp z with z|z
   .have:=xn q;rw[show b=s.heap.objs.size from z]at this;exact absurd this (t6 _)
   .exact n z
  .exact z ⟨o,q⟩
 have ntrk:∀b u,H' b=a8 u->b∉as:=λb u q z=>by
  rcases(ha b).mp z with z|⟨_,z,_⟩
  .rw[sfree b z]at q;cases q
  .rw[z]at q;cases q
 have slot:∀b∈frs outer,∀o,s'.heap.get? b=a8 o->∃sl,h'.get? b=a8 { o with slots:=sl }:=λb hb o q=>by obtain⟨o',ho,hd⟩:=fr b hb;rw[q]at ho;cases ho;exact k4 b o q hd
 have un:=I.base;refine⟨e,C,H',rfl,I.os,I.bare,⟨λb o q n hb _=>keep b o (un.keep b o q n hb (λz=>nomatch z)) (nold b o q hb),λb o q n hb _=>?_,λb o q n _=>un.free b o q n (λz=>nomatch z),λb o q _=>?_,un.tups,un.frzs,un.tbls⟩,
  λa o q=>(I.hok a o q).stay (λb u hb r=>keep b u r ?_) (λ_ z=>z) (λ_ _ z=>z) λ_ _ _ z=>z,?_,hE⟩
 .obtain⟨sl,q'⟩:=un.slot b o q n hb (λz=>nomatch z);obtain⟨sl',q2⟩:=slot b hb _ q';exact⟨sl',q2⟩
 .obtain⟨o',q'⟩:=un.there b o q (λz=>nomatch z);by_cases hb:b∈frs outer
  .obtain⟨sl,q2⟩:=slot b hb _ q';exact⟨_,q2⟩
  .exact⟨_,keep b o' q' (nold b o q hb)⟩
 .rcases hb with rfl|hb
  .exact ntrk _ _ q
  .exact ntrk _ _ hb
 .obtain⟨oe,vs,T,oT,ts,he,⟨hc,h0⟩,hd,h1,hnT,hTe,hT,hdT,h3⟩:=k3;refine⟨λb ⟨o,q⟩=>F.new b (.inl ⟨o,q,λz=>nomatch z⟩),F.free,oe,vs,a0,he,hc,hd,h0,.inr ⟨T,oT,ts,.none,h1,hTe,hT,hdT,⟨h3,rfl⟩,?_,λb ⟨o,q⟩ z=>?_⟩⟩
  .cases r:H' T with
   |none=>rfl
   |some u =>obtain⟨ob,q⟩:=(I.hok T u r).get;rw[W.hideAll_get _ q (ntrk T u r)]at hnT;cases hnT
  .subst z;obtain⟨o',q'⟩:=un.there b o q (λz=>nomatch z);by_cases hb:b∈frs outer
   .obtain⟨o2,q2,nf⟩:=fr b hb;obtain⟨sl,q3⟩:=slot b hb o2 q2;rw[q3]at hT;cases hT;exact nf ts hdT
   .rw[W.hideAll_get _ q' (nold b o q hb)]at hnT;cases hnT
theorem j4h(I:Inv (zc (CX1 P w) P w K mg base N qual scope f cd A outer s H E) pins σ H' s')(F:FlQ (flF (zc (CX1 P w) P w K mg base N qual scope f cd A outer s H E).env) (Old (zc (CX1 P w) P w K mg base N qual scope f cd A outer s H E) pins) H' s'.heap e C)(hE:E C ae H') :
  (zc (CX1 P w) P w K mg base N qual scope f cd A outer s H E).xe (.ref e) s':=by
 obtain⟨oe,vs,a0,he,hc,hd,h0,hT⟩:=F.obj;have hsN:∀b,(∃o,s.heap.get? b=a8 o)->Old (zc (CX1 P w) P w K mg base N qual scope f cd A outer s H E) pins b:=λb ⟨o,q⟩=>.inl ⟨o,q,λz=>nomatch z⟩;have hin:∀(as:List ai),(∀b∈frs (bq qual scope s.heap.objs.size f cd::outer),b∈as)->∀env∈bq qual scope s.heap.objs.size f cd::outer,∀a,env.frame=a8 a->a∈as:=λas h env he a ha=>h a (T9.mpr ⟨env,he,ha⟩);subst hc;rcases hT with h1|⟨T,oT,ts,fl,h1,hTe,hT,hdT,⟨h3,hfl⟩,hTf,hTn⟩
 .let as:=e::frs (bq qual scope s.heap.objs.size f cd::outer)
  have hfa:∀b∈frs (bq qual scope s.heap.objs.size f cd::outer),b∈as:=λb hb=>xm _ hb;refine wpAny_leaving_firstW (base:=W.hideAll s'.heap as) I.ok.frames (W.funFrames_hide I.stack (hin as hfa)) rfl he (λb o q=>W.of_hideAll _ q) (W.hideAll_none _ (X3 ..)) hd h1 h0 λh' hL =>Ft I F hE (λb=>⟨λz=>?_,λz=>z.elim (hfa b) λz=>z.2.2⟩) hfa hL
  rcases xu.mp z with e1|z'
  .subst e1;exact .inr ⟨λq=>F.new _ (hsN _ q) rfl,F.free,z⟩
  .exact .inl z'
 .let as:=e::T::frs (bq qual scope s.heap.objs.size f cd::outer)
  have hfa:∀b∈frs (bq qual scope s.heap.objs.size f cd::outer),b∈as:=λb hb=>xm _ (xm _ hb);have mem:∀b∈as,b∈frs (bq qual scope s.heap.objs.size f cd::outer)\/(¬(∃o,s.heap.get? b=a8 o)/\H' b=ae/\b∈as):=λb z=>by
   rcases xu.mp z with e1|z'
   .subst e1;exact .inr ⟨λq=>F.new _ (hsN _ q) rfl,F.free,z⟩
   .rcases xu.mp z' with e1|z2
    .subst e1;exact .inr ⟨λq=>hTn _ (hsN _ q) rfl,hTf,z⟩
    .exact .inl z2
  have tr:s'.heap.TracedAtW (W.hideAll s'.heap as) e oe.cls a0 fl:=⟨oe,vs,T,oT,ts,he,⟨rfl,h0⟩,hd,h1,W.hideAll_none _ (xm _ (X3 ..)),hTe,hT,hdT,h3⟩
  rcases hfl with hfl|⟨L,hfL,hfl⟩
  .subst hfl;exact wpAny_leaving_nextW (base:=W.hideAll s'.heap as) (a0:=a0) I.ok.frames (W.funFrames_hide I.stack (hin as hfa)) rfl tr
    (λb o q=>W.of_hideAll _ q) (W.hideAll_none _ (X3 ..)) λh' hL =>
    Ft I F hE (λb=>⟨mem b,λz=>z.elim (hfa b) λz=>z.2.2⟩) hfa hL
  .subst hfl;show ax _ _ (leaving _ (.ref e)) _ _ s';unfold leaving;refine af (wpAny_noteFrame_againW (base:=W.hideAll s'.heap as) (a0:=a0) hfL tr ?_);exact wpAny_setFlight_noneW (base:=W.hideAll s'.heap as) (a0:=a0) (λb o q=>W.of_hideAll _ q) (W.funFrames_hide I.stack (hin as hfa)) tr λh' k1 k2 k3 k4 =>Ft I F hE (λb=>⟨mem b,λz=>z.elim (hfa b) λz=>z.2.2⟩) hfa ⟨k1,k2,k3,λb o hb hn=>⟨o.slots,k4 b o hb hn⟩⟩
end
def spX(K:k7f)(mg:k7i)(S:List D->aq->Prop):Sp:=λvs H _ E=>∃ds x C,TabOk K H/\j4 K H ds vs/\S ds x/\mg x=a8 C/\∀H',j0 H H'->E C ae H'
section
variable{P:ay}{w:aD}{K:k7f}{mg:k7i}{base:aF}{x qual:aq}{st:aN}{f:ai}{fd:aL}{N ps:List aq}{k:Nat}
theorem j4r{S:List D->aq->Prop}(F:Fun K x qual st f fd)(Sc:FnScope N ps (j7 st))(hl:∀ds y,S ds y->ds.length=ps.length)
  (hbody:∀(cdv:aj)(A:aG)(outer:List cT)(s:ao)(H:Hp)(E:XK),Wm K f cdv->Room k (A.deeper (bq qual (j7 st) s.heap.objs.size f cdv))->∀ds y,S ds y ->
   DSs (zc (CX1 P w) P w K mg base N qual (j7 st) f cdv A outer s H E) (q9 N ds) (jy st) { nx:=λ_=>False,rt:=λ_=>False,ex:=λz _=>z=y }):FnOk P w K mg base (CX1 P w) (k+1) f fd ps (spX K mg S):=by
 obtain⟨oc,od,dV,kV,doc,pm,an,cdv,ct,osl,rfl,lk,hcd⟩:=F.ex;refine j8j lk hcd Sc (λvs H Q E ⟨ds,y,C,tb,en,hS,_⟩=>by rw[en.length];exact hl ds y hS) λA outer s H vs Q E hr ⟨ds,y,C,tb,en,hS,hC,hE⟩=>⟨_,Vj,?_⟩
 have ho:=Qq N ds;refine hbody cdv A outer s H E ⟨oc,od,_,osl,lk,rfl⟩ hr ds y hS (start N vs) H _ (V7 tb en) ⟨λρ' σ' H' n R f=>n.elim,λ_ _ _ z=>z.elim,λ_ _ _ z=>z.elim,λr v H' n z=>n.elim,λz ρ' σ' H' n R g=>?_⟩;cases(show z=y from n);intro pins H2 s' e C' I g2 hC' Fe;cases hC.symm.trans hC';unfold Fr0 at g;rw[ho,qg]at g;exact j4h I Fe (hE H2 ((g.trans jm).trans g2))
end
def DX(X:Cx)(ρ:Rho)(e:ar)(x:aq):Prop:=∀σ H Q,Rep X.K ρ σ H->Ue X σ H x->Jb X e σ H Q
def DXA(X:Cx)(ρ:Rho)(es:List ar)(x:aq):Prop:=∀σ H Q,Rep X.K ρ σ H->Ue X σ H x->Y5 X es σ H Q
structure CalX(X:Cx)(x:aq)(sp:Sp):Prop where
 ex:∃(k:Nat)(f:ai)(fd:aL)(ps:List aq),FnOk X.prog X.w X.K X.mg X.base (CX1 X.prog X.w) k f fd ps sp/\Room k X.A/\X.mg x=a8 (.ref f)/\W.keepIn X.K (.ref f)=aa/\Binds X.K fd ps []
section
variable{X:Cx}{ρ:Rho}{e:ar}{es:List ar}{f x:aq}{ds:List D}{p pos:aM}{C:aj}
theorem DX.call {S:List D->aq->Prop} (c:CalX X f (spX X.K X.mg S)) (ha:DTA X ρ (e::es) ds) (hS:S ds x) (hC:X.mg x=a8 C) (hg:Gl X f) (hdb:(f==k7j)=a9)
  (he:ah (e::es) X.env=(a9,aE e X.env)::ah es X.env) (hpl:(aR pos (ah es X.env)).any (·.1)=a9):DX X ρ (.Call (.Name f p) (e::es) [] pos) x:=λσ H Q R k pins s I=>by
 obtain⟨n,fa,fd,ps,F,hr,hm,hk,hb⟩:=c.ex;refine aU (Ut I hg hm ?_ hdb);refine W.callWith_K (h₀:=X.base) I.ok.mod.kin hk (thn (ha σ H (λvs H1=>j0 H H1/\j4 X.K H1 ds vs) R (λvs H1 g e=>⟨g,e⟩) pos pins s I) λus s1 ⟨vs,H1,I1,r,g,en⟩=>⟨I1.kIn,?_⟩) he hpl;have sp:spX X.K X.mg S vs H1 (λ_ _=>False) (λC' _ H'=>C'=C/\j0 H1 H'):=⟨ds,x,C,R.tb.mono g,en,hS,hC,λH' g=>⟨rfl,g⟩⟩
 have hl:us.length=ps.length:=by rw[<-r.length];exact F.len _ _ _ _ sp
 have hb':=hb s1 us I1.kIn (by rw[Xq];exact hl);rw[Xq]at hb';refine jL (cg (F.run X.A X.stack s1 H1 ⟨us,[]⟩ us vs _ _ hr I1.env0 hb' r sp) λr s' hq=>?_);cases r with
 |error ev =>obtain⟨e,C',H',rfl,os,bare,un,hok,fl,rfl,g'⟩:=hq;have I':Inv X pins σ H' s':=I1.call' os un hok bare (λb z=>nomatch z);refine k pins H' s' e C' I' (g.trans g') hC (FlQ.up fl (λ_ z=>.inl z) λb hb=>I1.old hb)
 |ok fl =>
  cases fl with
  |ret u=>obtain⟨_,_,_,_,_,_,_,z⟩:=hq;exact z.elim
  |next=>exact bc hq
  |brk=>exact bc hq
  |cont=>exact bc hq
end
section
variable{X:Cx}{ρ:Rho}{e:ar}{es:List ar}{x:aq}{d:D}{p pos np cpos:aM}{P:Po}{i:Int}{y:aq}{ys:List aq}
theorem DE.fmtI(ha:DT X ρ e (.int i))(hi:i.natAbs.log2<1920):DE X ρ (.FormattedValue e (-1) ae pos) (.str (toString i)):=λσ H Q R q pins s I=>by
 refine f7 (thn (ha σ H (λv H1=>v=.int i/\j0 H H1) R (λv H1 g e=>⟨e,g⟩) pins s I) λu s1 ⟨v,H1,I1,r,ev,g⟩=>?_);subst ev;obtain⟨t,rfl⟩:=(show ∃t,u=br i t from r)
 exact formatField_int_small hi ⟨.str (toString i),H1,I1.un (t':=s1.toks+1+1) Un.refl I1.hok,⟨_,rfl⟩,q _ H1 g rfl⟩
theorem DE.fmtS(ha:DT X ρ e (.str y))(hy:y.length<=av):DE X ρ (.FormattedValue e (-1) ae pos) (.str y):=λσ H Q R q pins s I=>by
 refine f7 (thn (ha σ H (λv H1=>v=.str y/\j0 H H1) R (λv H1 g e=>⟨e,g⟩) pins s I) λu s1 ⟨v,H1,I1,r,ev,g⟩=>?_);subst ev;obtain⟨t,rfl⟩:=(show ∃t,u=bj y t from r)
 exact l7 (λt' tk=>⟨.str y,H1,I1.un (t':=tk) Un.refl I1.hok,⟨_,rfl⟩,q _ H1 g rfl⟩) hy
noncomputable def Kc(out:aq):List aq->aq
 |[]=>out
 |y::ys=>Kc (out++y) ys
def DPs(X:Cx)(ρ:Rho):List ar->List aq->Prop
 |[],[]=>True
 |e::es,y::ys=>DE X ρ e (.str y)/\DPs X ρ es ys
 |_,_=>False
theorem Ep:∀{es:List ar}{ys:List aq}{out:aq}{n:Nat}{pins:k7h} {σ:St} {H0 H:Hp} {s:ao} {Q:VK},DPs X ρ es ys->(∀y∈ys,y.length<=10000)->out.length+10000*ys.length<=av->Inv X pins σ H s->Rep X.K ρ σ H->j0 H0 H ->
  (∀H',j0 H0 H'->Q (.str (Kc out ys)) H')->ax (aC X.prog X.w) X.A (joinParts out (evalEach es X.env)) (EP X pins σ Q) X.xe s
 |[],[],out,n,pins,σ,H0,H,s,Q,_,_,hl,I,R,g,q=>joinParts_nil ⟨.str out,H,I.un (t':=s.toks+1) Un.refl I.hok,⟨_,rfl⟩,q H g⟩ (by have:=hl;omega)
 |e::es,y::ys,out,n,pins,σ,H0,H,s,Q,hp,hy,hl,I,R,g,q=>by
  have hy0:=hy y (X3 ..);rw[X6]at hl;refine joinParts_cons (thn (hp.1 σ H (λv H1=>v=.str y/\j0 H H1) R (λv H1 g e=>⟨e,g⟩) pins s I) λu s1 ⟨v,H1,I1,r,ev,g1⟩=>?_);subst ev;obtain⟨t,rfl⟩:=(show ∃t,u=bj y t from r)
  have hz:(out++y).length<=out.length+10000:=by rw[strLen_append];omega
  exact⟨by omega,Ep (n:=n) hp.2 (λz hz=>hy z (xm _ hz)) nofun I1 (R.grow g1) (g.trans g1) q⟩
 |[],_::_,_,_,_,_,_,_,_,_,h,_,_,_,_,_,_=>h.elim
 |_::_,[],_,_,_,_,_,_,_,_,h,_,_,_,_,_,_=>h.elim
theorem DE.joined{a b:ar}(h:DPs X ρ (a::b::es) ys)(hy:∀y∈ys,y.length<=10000)(hl:ys.length<=1000):DE X ρ (.JoinedStr (a::b::es) pos) (.str (Kc eC ys)):=λσ H Q R q pins s I =>
 JoinedStr_many (Ep (n:=0) (out:=eC) h hy (by
  have e:Str.empty.length=0:=rfl
  rw[e,cn];omega) I R (j0.refl H) λH' g=>q _ H' g rfl)
theorem jau{Q:VK}{σ:St}{H:Hp}(he:Jb X e σ H Q)(hs:ah [e] X.env=[(a9,aE e X.env)]):Y5 X [e] σ H (λvs H'=>∃v,vs=[v]/\Q v H') :=
 (jc (es:=[]) peS jx hs).to λpins s I=>thn (he pins s I) λu s' ⟨v,H',I',r,q⟩=>⟨v,H',I',r,⟨v,rfl,q⟩⟩
theorem DS.raise{C:ai}{bm bmN:List aj}{newId B Bn nid initId inN:String}(O:OwnCls x C bm newId X.mg X.base)(Fn:ExcBaseFacts Bn newId inN bmN)(hBn:bm.contains (.type Bn)=aa)(FB:ExcBaseFacts B nid initId bm)(hc:X.calm=aa)
  (ha:∀σ H,Rep X.K ρ σ H->Jb X e σ H λ_ H'=>j0 H H') (hP:P.ex x ρ) (hg:Gl X x) (hdb:(x==k7j)=a9) (he:ah [e] X.env=[(a9,aE e X.env)])
  : DS X ρ (.Raise (a8 (.Call (.Name x np) [e] [] cpos)) ae pos) P:=λσ H E R q pins s I=>by
 obtain⟨tl,N,nm,qn,bs,hdct,sn,sub,ab,col,dd,k0,k1,k2,k3,k5,mN,hC,hN,hni,T⟩:=O.obj;refine wpAny_Raise_call_subU (C:=C) (nm:=nm) (q:=qn) (N:=N) (bs:=bs) (bm:=tl) (hdct:=hdct) (sn:=sn) (sub:=sub) (ab:=ab) (col:=col) (dd:=dd) (k0:=k0) (k1:=k1) (k2:=k2) (k3:=k3) (k5:=k5)
  Fn hBn FB (mN:=mN) (T.hasType FB.hasBase) (I.ok.hd hc) (by rw[he];rfl) hni (Ut I hg O.bound ⟨rfl,?_⟩ hdb)
 have hsp:=jau (ha σ H R) he cpos pins s I;rw[he]at hsp ⊢;refine cE (thn hsp λus s2 ⟨vs,H1,I1,r,v,ev,g⟩=>⟨rfl,?_,I1.bk _ _ hC,hN.keeps I1.bk,T.keeps I1.bk,λh' e' hm=>?_⟩)
 .show us.length<=av;rw[<-r.length,ev];show 1<=av;rw[cn];omega
 .have nold:∀b,(∃o,s2.heap.get? b=a8 o)->b≠e':=λb ⟨o,q⟩ z=>by rw[z,hm.new]at q;cases q
  obtain⟨t,ht,_,_⟩:=hm.there;refine q.ex x ρ σ H hP R (Fr0.refl _ _) pins H1 { s2 with heap:=h' } e' (.ref C) (I1.un (t':=s2.toks) (Un.kept hm.keeps) (I1.hok.kept hm.keeps)) g O.bound ⟨λb hb=>nold b (I1.old hb),?_,_,_,_,ht,rfl,rfl,rfl,.inl rfl⟩;cases z:H1 e' with
  |none=>rfl
  |some u=>exact absurd rfl (nold e' (I1.hok e' u z).get)
end
end L2
end
section
namespace L2
open PySem PySem.Spec PyProof.Rows
noncomputable def vm:List aq:=["WrongSize","NoAsk","NoWord","Twice","WrongAnswers","Unlike","NoPlace","NoText","WrongPrices","WrongWeights","NoPlan"]
noncomputable def bmV:List aj:=[.type "ValueError",.type "Exception",.type "BaseException",.type "object"]
noncomputable def j5k(K:k7f)(C:ai):Bool:=W.findIn K (.ref C) "__getattribute__" == a8 (a8 (.builtin "BaseException.__getattribute__"))&&(W.findIn K (.ref C) "__getattr__" == a8 ae&&(W.subIn K (.ref C) (.type "BaseException")==a8 aa &&
 (W.findIn K (.ref C) "__class__" == a8 (a8 (.builtin "object.__class__"))&&(W.mroIn K C (.type "object")==a8 aa&&((W.clsIn K C).isSome&&W.excIn K C bmV "ValueError.__new__")))))
noncomputable def Mg(K:k7f):Bool:=vm.all λx=>match W.nsIn K az x with
 |some (a8 (.ref C))=>j5k K C&&(W.kitOne K (.ref C) (.type "ValueError")==a8 aa&&((match W.nsIn K az "AskError" with
   |some (a8 a)=>W.exmOne K (.ref C) a==a8 aa
   |_=>a9)&&vm.all λc=>match W.nsIn K az c with
   |some (a8 v)=>W.kitOne K (.ref C) v==a8 (x==c)
   |_=>aa))
 |some (a8 _)=>a9
 |_=>aa
structure XcOk(K:k7f)(C:ai):Prop where
 ga:W.findIn K (.ref C) "__getattribute__" = a8 (a8 (.builtin "BaseException.__getattribute__"))
 gt:W.findIn K (.ref C) "__getattr__" = a8 ae
 sub:W.subIn K (.ref C) (.type "BaseException")=a8 aa
 cls:W.findIn K (.ref C) "__class__" = a8 (a8 (.builtin "object.__class__"))
 mro:W.mroIn K C (.type "object")=a8 aa
 is:(W.clsIn K C).isSome=aa
 exc:W.excIn K C bmV "ValueError.__new__" = aa
theorem j8v{K:k7f}{C:ai}(h:j5k K C=aa):XcOk K C:=by unfold j5k at h;simp only[Xb,beq_iff_eq]at h;exact⟨h.1,h.2.1,h.2.2.1,h.2.2.2.1,h.2.2.2.2.1,h.2.2.2.2.2.1,h.2.2.2.2.2.2⟩
structure ExOne(K:k7f)(x:aq)(C:ai):Prop where
 ok:XcOk K C
 val:W.kitOne K (.ref C) (.type "ValueError")=a8 aa
 ask:∃a,W.nsIn K az "AskError" = a8 (a8 a)/\W.exmOne K (.ref C) a=a8 aa
 one:∀c∈vm,∀v,W.nsIn K az c=a8 (a8 v)->W.kitOne K (.ref C) v=a8 (x==c)
theorem j75{K:k7f}(h:Mg K=aa){x:aq}{o:aj}(hx:x∈vm)(e:W.nsIn K az x=a8 (a8 o)):∃C,o=.ref C/\ExOne K x C:=by
 have q:=Pa.mp h x hx;rw[e]at q;cases o with
 |ref C =>
  refine⟨C,rfl,?_⟩;dsimp only at q;simp only[Xb,beq_iff_eq]at q;obtain⟨q1,q2,q3,q4⟩:=q;refine⟨j8v q1,q2,?_,λc hc v ev=>?_⟩
  .split at q3
   .rename_i a ea;exact⟨a,ea,beq_iff_eq.mp q3⟩
   .cases q3
  .have z:=Pa.mp q4 c hc;rw[ev]at z;exact beq_iff_eq.mp z
 |_=>cases q
theorem ja1{K:k7f}{h₀:aF}{C:ai}{bmB:List aj}{newId:String}{x:aq}{mg:k7i}(X:K.In h₀)(hb:mg x=a8 (.ref C))(q:W.excIn K C bmB newId=aa):OwnCls x C bmB newId mg h₀:=by
 refine⟨hb,?_⟩;unfold W.excIn at q;split at q
 .rename_i dd cd sl ho;split at q
  .rename_i C' bm k0 k1 k2 k3 n k5 hm hs;simp only[Xb,beq_iff_eq,di]at q;obtain⟨⟨⟨⟨⟨rfl,rfl⟩,hdel⟩,ht⟩,hok⟩,hni⟩:=q;obtain⟨nm,bs,mro,ns,qn,hd,sn,sub,ab,col,del⟩:=cd;dsimp only at hm hdel hok hni;subst hm hdel;have hsl:sl = #[k0,k1,k2,k3,a8 (.builtin n),k5]:=by obtain⟨l⟩:=sl;simp only at hs;rw[hs]
   subst hsl;exact⟨bm,ns,nm,qn,bs,hd,sn,sub,ab,col,dd,k0,k1,k2,k3,k5,_,X _ _ ho,.of_isNs (W.isNs_of_in X hok),W.nsMap_none_of_in X hok hni,W.tail_of_in X ht⟩
  .cases q
 .cases q
theorem DS.raiseE{X:Cx}{ρ:Rho}{e:ar}{x:aq}{o:aj}{np cpos pos:aM}{P:Po}(ha:Mg X.K=aa)(hx:x∈vm)(hn:W.nsIn X.K az x=a8 (a8 o))(hb:X.mg x=a8 o)(hK:X.K.In X.base)(hc:X.calm=aa)
  (he:∀σ H,Rep X.K ρ σ H->Jb X e σ H λ_ H'=>j0 H H') (hP:P.ex x ρ) (hg:Gl X x) (hdb:(x==k7j)=a9) (hs:ah [e] X.env=[(a9,aE e X.env)]):DS X ρ (.Raise (a8 (.Call (.Name x np) [e] [] cpos)) ae pos) P:=by
 obtain⟨C,rfl,F⟩:=j75 ha hx hn;exact DS.raise (ja1 hK hb F.ok.exc) fB (by decide +kernel) fB hc he hP hg hdb hs
section
variable{X:Cx}{pins pins':k7h}{σ:St}{H:Hp}{s:ao}{xe:k7g}{e:ai}
noncomputable abbrev Cx.hnd(X:Cx)(e:ai):Cx:={ X with A:=X.A.mark (a8 (.ref e)),calm:=a9,xe:=λ_ _=>False }
end
structure KindsP(P:ay)(w:aD)(K:k7f)(mg:k7i)(base:aF)(f x:aq)(l:List D):Prop where
 ex:∃fa:ai,mg f=a8 (.ref fa)/\W.keepIn K (.ref fa)=aa/\∀(A:aG)(outer:List cT)(s:ao)(H:Hp)(e:ai)(o:d7),A.depth+4<eT->A.units+150<aS->Env0 P w K mg base A outer s H->TabOk K H ->
  H e=a8 (.frz o (.own e))->W.nsIn K az x=a8 (a8 o.cls) ->
  bK (aC P w) A (.call (.ref fa) ⟨[.ref e],[]⟩) (CR CX0 outer P w H s (λv H'=>∃a xs,v=.ref a/\j0 H H'/\H a=ae/\H' a=a8 (.lst xs)/\j4 K (del H' [a]) l xs) E0) s
 nl:qe l=aa
abbrev Kinds(X:Cx)(f x:aq)(l:List D):Prop:=KindsP X.prog X.w X.K X.mg X.base f x l
section
variable{X:Cx}
def jip:V->Option Int->Option Int->Hp->VK->Prop:=λx lo hi H Q=>∃z,x=.str z/\z.length<=av/\Q (.str (bM z lo hi)) H
theorem part_of{v:aj}{o:Option Int}(h:eY v o):∃l:Option (Int×i8),v=partValue l/\l.map (·.1)=o:=by
 cases h with
 |none=>exact⟨ae,rfl,rfl⟩
 |int i t=>exact⟨a8 (i,t),rfl,rfl⟩
theorem jbz:SlR X jip:=by intro pins s σ H x v vl vu lo hi sl Q I rx hs pl pu h;obtain⟨z,ex,hz,q⟩:=h;subst ex;obtain⟨t,ev⟩:=rx;subst ev;obtain⟨l,el,ml⟩:=part_of pl;obtain⟨u,eu,mu⟩:=part_of pu;subst el eu ml mu;obtain⟨o,h1,h2,h3⟩:=hs;refine⟨"str",_,PySem.F.slot_str_getitem.lookup,fD s z t,wpAny_getItem_str_slice (l:=l) (u:=u) (st:=ae) ⟨o,h1,h2,h3⟩ rfl ?_⟩;exact post_val_or_str ⟨Xh (Txt.slice_le z _ _) hz,λt' k=>⟨.str _,H,I.tok k,⟨_,rfl⟩,q⟩⟩
theorem j14:∀{ts:List aq}{us:List aj},Vals (ts.map V.str) us->∃l:List (aq×i8),us=strValues l/\l.map (·.1)=ts
 |[],_,r=>by cases r;exact⟨[],rfl,rfl⟩
 |t::ts,_,r=>by
  cases r with
  |cons a b =>obtain⟨k,e⟩:=a;obtain⟨l,e1,e2⟩:=j14 b;subst e e1 e2;exact⟨(t,k)::l,rfl,rfl⟩
theorem ja8:MtR X "str.join" (λx vs H Q=>∃(sep:aq)(l:ai)(ts:List aq),x=.str sep/\vs=[.ref l]/\SqL X.K H l (ts.map V.str)/\eX sep ts=aa/\Q (.str (dY sep ts)) H):=by rintro pins s σ H x vs v us Q I rx rv ⟨sep,l,ts,e,e',sq,hok,q⟩;subst e e';obtain⟨t,ev⟩:=rx;subst ev;obtain⟨u,eu,ru⟩:=rv.one;subst eu;cases ru;obtain⟨its,ri,pl,_⟩:=I.list sq;obtain⟨ps,e1,e2⟩:=j14 ri;subst e1 e2;unfold eX at hok;rw[di]at hok;exact cb ia (fD _ _ _) F.entry_str_join (F.args_str_join_2 _ _) (meets_str_join_list sep t l ps hok) ⟨pl.isList,post_join ps ⟨joinFit_length hok,λt' k=>⟨.str _,H,I.tok k,⟨_,rfl⟩,q⟩⟩⟩
theorem j58 (hc:X.calm=aa):Jp X (.builtin "sum") (λxs H Q=>∃(lst:Bool)(l:ai)(ns:List Int),xs=[.ref l]/\SqB X.K lst H l (ns.map V.int)/\Q (.int ns.sum) H):=by
 rintro pins s σ H xs us Q I r ⟨lst,l,ns,e,sq,q⟩;subst e;obtain⟨u,eu,ru⟩:=vals1 r;subst eu;cases ru;obtain⟨its,rv,pl,_⟩:=I.side sq;have hl:its.length=ns.length:=by rw[<-rv.length,km]
 have val:∀i v,its.toArray[i]?=a8 v->∃t,v=br (ns.getD i 0) t:=by
  intro i v hv;have hi:i<its.length:=by obtain⟨h,_⟩:=Array.getElem?_eq_some_iff.mp hv;simpa using h
  have hi':i<ns.length:=by omega
  obtain⟨w1,hw,rw1⟩:=rv.get (x:=.int (ns.getD i 0)) (i:=i) (by rw[xq,kh hi',kj,kh hi'];rfl);have:its.toArray[i]?=a8 w1:=by simpa using hw
  rw[this]at hv;cases hv;exact rw1
 have tot:preSum (λi=>ns.getD i 0) its.toArray.size=ns.sum:=by rw[preSum_getD,dJ (by rw[X4];omega)]
 have fin:∀(o:d7)(s':ao)(t':i8),Moved [s.heap.objs.size] (λa b=>b=a) { s with heap:=s.heap.push o } s'->EP X pins σ Q (.int (preSum (λi=>ns.getD i 0) its.toArray.size) t') s':=λo s' t' mv=>by obtain⟨hh,gg,dd,tt,oo⟩:=s';obtain⟨m1,m2,m3,m4,m5⟩:=mv;cases m2;cases m3;cases m4;rw[tot];refine⟨.int _,H,I.kept (t':=tt) λb o e=>m1 b o ?_ (xg _ e),⟨_,rfl⟩,q⟩;intro z;rw[xj.mp z]at e;exact t6 _ (xn e)
 unfold jf at pl;cases lst with
 |true =>
  rw[if_pos rfl]at pl;have hlt:l<s.heap.objs.size:=by obtain⟨_,e,_⟩:=pl;exact xn e
  refine jZ (bx pl ⟨s.heap.objs.size,[s.heap.objs.size,l],[s.heap.objs.size],_,its.toArray.size,_,_,λi=>ns.getD i 0,rfl,(Walks.list (A:=X.A.in1) (I.ok.hd hc) _ _ (X8 hlt) its.toArray).toS,⟨⟨_,X7 _ rfl,rfl,rfl⟩,pl.push _⟩,?_,val,λs' t' mv=>fin _ s' t' mv⟩);intro b hb;show b<(s.heap.push _).objs.size;rw[Pb];rcases xu.mp hb with z|z
  .rw[z];exact bX _
  .rw[xj.mp z];exact sr hlt
 |false =>
  rw[if_neg xf]at pl;have hlt:l<s.heap.objs.size:=by obtain⟨_,e,_⟩:=pl;exact xn e
  refine jZ (fC pl ⟨s.heap.objs.size,[s.heap.objs.size,l],[s.heap.objs.size],_,its.toArray.size,_,_,λi=>ns.getD i 0,rfl,(Walks.tuple (A:=X.A.in1) (I.ok.hd hc) _ _ (X8 hlt) its.toArray).toS,⟨⟨_,X7 _ rfl,rfl,rfl⟩,pl.push _⟩,?_,val,λs' t' mv=>fin _ s' t' mv⟩);intro b hb;show b<(s.heap.push _).objs.size;rw[Pb];rcases xu.mp hb with z|z
  .rw[z];exact bX _
  .rw[xj.mp z];exact sr hlt
end
section
variable{X:Cx}{ρ:Rho}{a b e:ar}{ds:List D}{i j:Int}{pos p p1 p2:aM}{y z:aq}{lo hi:Option ar}{l u:Option Int}
theorem Rp{K:k7f}{H:Hp}:∀{ts:List aq}{xs:List V},j4 K H (ts.map D.str) xs->xs=ts.map V.str
 |[],_,h=>h
 |t::ts,_,⟨x,r,e,h,l⟩=>by subst e;cases(show x=.str t from h);rw[Rp l];rfl
theorem zp{K:k7f}{H:Hp}:∀{ts:List Int}{xs:List V},j4 K H (ts.map D.int) xs->xs=ts.map V.int
 |[],_,h=>h
 |t::ts,_,⟨x,r,e,h,l⟩=>by subst e;cases(show x=.int t from h);rw[zp l];rfl
theorem DE.lenS (ha:DT X ρ a (.str y)) (hy:y.length<=av) (hm:X.mg "len" = ae) (hg:Gl X "len") (hs:ah [a] X.env=[(a9,aE a X.env)]):DE X ρ (.Call (.Name "len" p) [a] [] pos) (.int y.length):=λσ H Q R q =>(v8 j0d hg hm cu (jc peS jx hs) (by decide) (by decide) hs).to (ha σ H _ R λv H1 g1 e1=>⟨y,by rw[show v=.str y from e1],hy,q _ H1 g1 rfl⟩)
theorem DE.catS(ha:DT X ρ a (.str y))(hb:DT X ρ b (.str z))(hl:y.length+z.length<=av):DE X ρ (.BinOp a .Add b pos) (.str (y++z)):=λσ H Q R q =>(Yq j2m peS peS).to (ha σ H _ R λv H1 g1 e1=>hb σ H1 _ (R.grow g1) λu H2 g2 e2=>⟨y,z,e1,e2,hl,q _ H2 (g1.trans g2) rfl⟩)
theorem DE.ixC{c:Nat}(ha:DT X ρ a (.str y))(hb:DT X ρ b (.int i))(hy:y.length<=av)(h:L2.atI y.cps.toList i=a8 c)(hs:Jf b):DE X ρ (.Subscript a b pos) (.str ⟨#[c]⟩):=λσ H Q R q =>(Yr jdp peS peS hs).to (ha σ H _ R λv H1 g1 e1=>hb σ H1 _ (R.grow g1) λu H2 g2 e2=>⟨y,i,c,e1,e2,hy,h,q _ H2 (g1.trans g2) rfl⟩)
theorem DE.sliceS(ha:DT X ρ a (.str y))(hl:DP X ρ lo l)(hu:DP X ρ hi u)(hy:y.length<=av):DE X ρ (.Subscript a (.Slice lo hi ae p2) pos) (.str (bM y l u)):=λσ H Q R q =>(Od jbz peS poS poS).to (ha σ H _ R λv H1 g1 e1=>hl σ H1 _ (R.grow g1) λH2 g2=>hu σ H2 _ (R.grow (g1.trans g2)) λH3 g3=>⟨y,e1,hy,q _ H3 (g1.trans (g2.trans g3)) rfl⟩)
theorem DE.int1 {k:Bool} (ha:DT X ρ a (.bl k)) (hm:X.mg "int" = ae) (hg:Gl X "int") (hs:ah [a] X.env=[(a9,aE a X.env)]):DE X ρ (.Call (.Name "int" p) [a] [] pos) (.int (if k then 1 else 0)):=λσ H Q R q =>(Ys j5d hg hm boot_int (jc peS jx hs) (by decide) (by decide) hs).to (ha σ H _ R λv H1 g1 e1=>.inr ⟨k,by rw[show v=.bl k from e1],q _ H1 g1 rfl⟩)
theorem DE.sum (lst:Bool) {ns:List Int} (ha:DT X ρ a (D.seq lst (ns.map D.int))) (hm:X.mg "sum" = ae) (hc:X.calm=aa) (hg:Gl X "sum") (hs:ah [a] X.env=[(a9,aE a X.env)]):DE X ρ (.Call (.Name "sum" p) [a] [] pos) (.int ns.sum):=λσ H Q R q =>
 (v8 (j58 hc) hg hm boot_sum (jc peS jx hs) (by decide) (by decide) hs).to (ha σ H _ R λv H1 g1 e1=>by
  obtain⟨t,xs,ev,sq,en⟩:=Qj e1
  subst ev
  rw[zp en]at sq
  exact⟨lst,t,ns,rfl,sq,q _ H1 g1 rfl⟩)
theorem DE.join{sep:aq}{ts:List aq}{n:Nat}{p0:aM}(ha:DT X ρ a (.lst (ts.map D.str)))(hok:eX sep ts=aa)
  (hfew:((aR p2 (ah [a] X.env)).all (λx=>!x.1)&&(cS p2 (bH [] X.env)).all (λx=>x.1.isSome)&&decide (([a]:List ar).length+([]:List bg).length+(if ([]:List bg).isEmpty then 0 else 1)<30))=aa)
  (hbase:bh (.Constant (.str sep) n p0) "join" X.env (aE (.Constant (.str sep) n p0) X.env)=aE (.Constant (.str sep) n p0) X.env)
  (hline:(p1.endLine==p2.line)=aa) (hs:ah [a] X.env=(a9,aE a X.env)::ah [] X.env):DE X ρ (.Call (.Attribute (.Constant (.str sep) n p0) "join" p1) [a] [] p2) (.str (dY sep ts)):=λσ H Q R q =>
 (Bq PySem.F.plainAttrs_str ia PySem.F.type_str_join ja8 j41 (jc peS jx hs) hbase hfew hline hs rfl).to ⟨rfl,ha σ H _ R λv H1 g1 ⟨t,xs,e,sq,en⟩=>⟨sep,t,ts,rfl,by rw[e],by rw[Rp en]at sq;exact sq,hok,q _ H1 g1 rfl⟩⟩
end
section
variable{prog:ay}{w:aD}{A:aG}{lst:Bool}{j t:ai}{its:Array aj}
theorem j2x(hh:A.handled=ae)(hne:t≠j):Draws prog w A j [j,t] its.size (λi v=>its[i]?=a8 v) (λi h=>jh lst h j t i/\jf lst h t its) where
 live:=λ_ _ st=>by obtain⟨o,e,_⟩:=st.1.obj;exact⟨o,e⟩
 frame:=λ_ h h' st hk=>⟨st.1.stay λo e=>hk j (by simp) o e,by
  have q:=st.2
  unfold jf at q ⊢
  cases lst with
  |true=>rw[if_pos rfl]at q ⊢;exact q.at λo e=>hk t (by simp) o e
  |false=>rw[if_neg xf]at q ⊢;exact q.at λo e=>hk t (by simp) o e⟩
 item:=λi s Q E hi st hQ=>Yo st.1 st.2 (y:=its[i]) (by simp[hi]) λh' hit' hs'=>hQ _ h' s.toks (by simp[hi]) ⟨hit',st.2.ext hs'.extBut hne⟩ hs'
 done:=λs Q E st hE=>Uy hh st.1 st.2 (by simp) hE
theorem j4s{n:Nat}(hh:A.handled=ae)(hne:t≠j)(hn:its[n]?=ae):Draws prog w A j [j,t] n (λi v=>its[i]?=a8 v) (λi h=>i=n/\jh lst h j t i/\jf lst h t its) where
 live:=λ_ _ st=>by obtain⟨o,e,_⟩:=st.2.1.obj;exact⟨o,e⟩
 frame:=λ_ h h' st hk=>⟨st.1,st.2.1.stay λo e=>hk j (by simp) o e,by
  have q:=st.2.2
  unfold jf at q ⊢
  cases lst with
  |true=>rw[if_pos rfl]at q ⊢;exact q.at λo e=>hk t (by simp) o e
  |false=>rw[if_neg xf]at q ⊢;exact q.at λo e=>hk t (by simp) o e⟩
 item:=λi s Q E hi st hQ=>absurd st.1 (X8 hi)
 done:=λs Q E st hE=>Uy hh st.2.1 st.2.2 hn hE
end
noncomputable abbrev eh2(h:aF)(lst:Bool)(t:ai):aF:=(zh1 h lst t).push { cls:=.type "enumerate",data:=.fields #[.none,.bool a9,.ref h.objs.size,gk 0,.none,.none] }
theorem j79 {lst:Bool} (t:ai) (its:Array aj):iW (df.«enumerate.__new__» ⟨[.type "enumerate",.ref t],[]⟩) (λ_ R s=>jf lst s.heap t its/\R (.ok (.ret (.ref (zh1 s.heap lst t).objs.size))) { s with heap:=eh2 s.heap lst t }) :=
 .of_wp λprog w A R s h=>by
  obtain⟨hp,g,d,tk,os⟩:=s;obtain⟨h1,h⟩:=h;have hsub:=sub_enumerate;have e1:jf lst (Shared.heap ⟨hp,g,d,tk,os⟩) t its:=h1;have ld:∃o:d7,hp.get? t=a8 o:=by
   unfold jf at e1;cases lst with
   |true=>rw[if_pos rfl]at e1;obtain⟨o,e,_⟩:=e1;exact⟨o,e⟩
   |false=>rw[if_neg xf]at e1;obtain⟨o,e,_⟩:=e1;exact⟨o,e⟩
  obtain⟨o,ho⟩:=ld
  wp_walk using bS ho
  refine wpAny_stack_any λstk=>?_;refine aw ?_;split
  .rename_i cl _ _ _ _ _;cases(cl==fP "enumerate")
   .wp_walk using bS ho,Vc e1
    exact⟨_,rfl,h⟩
   .wp_walk using bS ho,Vc e1
    exact⟨_,rfl,h⟩
  .wp_walk using bS ho,Vc e1
   exact⟨_,rfl,h⟩
noncomputable def Ite(K:k7f)(lst:Bool)(t:ai):It :=
 ⟨λi H=>∃xs x,SqB K lst H t xs/\xs[i]?=a8 x,
 λi H v H'=>∃p x,v=.ref p/\H p=ae/\H'=upd H p (.tup [.int (i:Int),x])/\∀xs,SqB K lst H t xs->xs[i]?=a8 x,
 λi H=>∃xs,SqB K lst H t xs/\xs.length<=i⟩
theorem j3j{P:ay}{w:aD}{K:k7f}{es:List ar}{n:Nat}{pos:aM}{lst:Bool}{z j t:ai}(hzj:z≠j)(hzt:z≠t)(htj:t≠j) :
  Turn P w K (.Tuple es n pos) (Ite K lst t) [z,j] z (λi h=>(∃old,IsEnum h z j (i:Nat) old)/\jh lst h j t i) where
 mem:=by simp
 obj:=λi h ⟨⟨old,hz⟩,h1⟩ c hc=>by
  simp at hc;rcases hc with rfl|rfl
  .exact⟨_,hz,λv e=>by cases e⟩
  .exact h1.obj
 keep:=λi h h' ⟨⟨old,hz⟩,h1⟩ k=>⟨⟨old,k z (by simp) _ hz⟩,h1.stay λo e=>k j (by simp) o e⟩
 item:=by
  rintro X hP hw hK hc i pins s σ H E I hf ⟨⟨old,hz⟩,h1⟩ ⟨xs,x,sx,hx⟩;subst hP hw hK;obtain⟨us,ru,qu,_⟩:=I.side sx;obtain⟨u,hu,rx⟩:=ru.get hx;have hlt:i<us.toArray.size:=by obtain⟨h,_⟩:=xr.mp hu;simpa using h
  refine wpAny_pyNext_enum_itemD (j2x (A:=X.A.in1) (I.ok.hd hc) htj) hz ⟨h1,qu⟩ hlt hzj (by simp[hzj,hzt]) λv h' tk hv ho st ht sz kp=>⟨_,rfl,?_⟩
  have ev:u=v:=by
   have:us.toArray[i]?=a8 u:=by simpa using hu
   rw[this]at hv;exact aB hv
  subst ev;refine wpAny_letOwnedTupleGo_enum (s:={ s with heap:=h',toks:=tk+1 }) ho λh'' z'' sb=>?_
  replace sb:cN z h' h'':=sb
  have zlt:z<s.heap.objs.size:=xn hz;have kp':∀c o,c∉[z,j]->s.heap.get? c=a8 o->h''.get? c=a8 o:=λc o nc e=>by simp at nc;exact sb.extBut _ _ nc.1 (kp c o nc.1 nc.2 e)
  have pt:gz h'' s.heap.objs.size [.int i tk,u].toArray:=⟨_,sb.extBut _ _ (Pn zlt) ht,rfl,_,rfl⟩
  have I2:=(I.chgT hf kp' (xs:=[.int (i:Int),x]) (.cons ⟨tk,rfl⟩ (.cons rx .nil)) (by show 2<=av;decide) pt (Zm.of (sb.extBut _ _ (Pn zlt) ht))).tok (tk+1);refine⟨.ref s.heap.objs.size,_,I2,rfl,⟨_,x,rfl,I.fresh,rfl,λws hw=>by rw[I.side_inj hw sx];exact hx⟩,⟨⟨u,?_⟩,st.1.ext sb.extBut (ba hzj)⟩,λc hc=>?_⟩
  .have e:((i+1:Nat):Int)=(i:Int)+1:=by push_cast;rfl
   rw[e];exact z''
  .obtain⟨o,e⟩:∃o,s.heap.get? c=a8 o:=by
    simp at hc;rcases hc with rfl|rfl
    .exact⟨_,hz⟩
    .obtain⟨o,e,_⟩:=h1.obj;exact⟨o,e⟩
   rw[je (X8 (xn e))];exact(hf c hc).1
 done:=by
  rintro X hP hw hK hc i pins s σ H E I hf ⟨⟨old,hz⟩,h1⟩ ⟨xs,sx,hend⟩;subst hP hw hK;obtain⟨us,ru,qu,_⟩:=I.side sx;have e1:=ru.length;have hn:us.toArray[i]?=ae:=by simp;omega
  refine wpAny_pyNext_enum_endD (j4s (A:=X.A.in1) (I.ok.hd hc) htj hn) hz ⟨rfl,h1,qu⟩ λh' kp=>⟨rfl,I.chg hf λc o nc e=>?_⟩
  simp at nc;exact kp c o nc.2 e
 self:=λ_ _ _ _ _ ⟨⟨old,hz⟩,_⟩ h=>jW hz h
section
variable{X:Cx}{ρ:Rho}{a b:ar}{es:List ar}{n:Nat}{pos p q1 q2:aM}{ds ds':List D}{lst:Bool}
noncomputable def Jl(ds:List D):List D:=ds.zipIdx.map λp=>D.tup [.int (p.2:Int),p.1]
theorem Cy{i:Nat}:(Jl ds)[i]?=(ds[i]?).map λd=>D.tup [.int (i:Int),d]:=by unfold Jl;rw[xq,List.getElem?_zipIdx];cases ds[i]?<;>simp
theorem j4m{K:k7f}{F:Hp}{t:ai}{xs:List V}(s1:SqB K lst F t xs)(e1:j4 K F ds xs):Zz K F (Ite K lst t) (Jl ds):=λi H A g hA=>by
 have s1':SqB K lst H t xs:=jm.seqB (g.seqB s1);have hl:(Jl ds).length=ds.length:=by unfold Jl;rw[km,eO]
 refine⟨λh=>?_,λh=>⟨xs,s1',?_⟩,λv H' ⟨p,x,ev,np,eH,hx⟩=>?_⟩
 .rw[hl]at h;obtain⟨x,hx,_⟩:=e1.get (kh h);exact⟨xs,x,s1',hx⟩
 .rw[hl]at h;rw[e1.length];exact h
 .subst eH;refine⟨j8 np,λd hd=>?_⟩;rw[Cy]at hd;cases z:ds[i]? with
  |none=>rw[z]at hd;cases hd
  |some d1 =>rw[z]at hd;cases hd;obtain⟨x',hx',ex⟩:=e1.get z;have q1:=hx xs s1';rw[hx']at q1;have q1:=aB q1;subst q1;have pA:p∉A:=λz=>hA p z np;have gg:j0 F (del (upd H p (.tup [.int (i:Int),x'])) A):=g.trans (jd (j8 np));exact⟨p,[.int (i:Int),x'],ev,.inl (.inl (by rw[j9 pA];exact jb)),.int (i:Int),[x'],rfl,rfl,x',[],rfl,ex.mono gg,rfl⟩
theorem DI.enum (lst:Bool) (ha:DE X ρ a (D.seq lst ds)) (hm:X.mg "enumerate" = ae) (hg:Gl X "enumerate") (hs:ah [a] X.env=[(a9,aE a X.env)]):DI X ρ (.Tuple es n q1) (.Call (.Name "enumerate" p) [a] [] pos) (Jl ds):=λσ H R r q pins s I=>by
 have args:Y5 X [a] σ H (λvs H'=>∃v,vs=[v]/\j0 H H'/\Enc X.K (del H' (owns ρ)) (D.seq lst ds) v) :=
  (jc peS jx hs).to (ha σ H _ r λv H1 g1 e1=>⟨v,rfl,g1,e1⟩)
 refine Call_ (Qc I hg hm boot_enumerate (callWith_type1 (thn (args pos pins s I) λus s1 h1=>?_) hs rfl));obtain⟨vs,H1,I1,r1,v,ev,g1,e1⟩:=h1;subst ev;obtain⟨t,xs,et,sq,en⟩:=Qj e1;subst et;obtain⟨u1,eu,ru1⟩:=r1.one;subst eu;cases ru1;obtain⟨w1,rw1,qw1,_⟩:=I1.side (jm.seqB sq);refine callType_new F.called_enumerate (by decide) (F.typeCall_enumerate_1 _) (F.newCall_enumerate_1 _) (λobj=>F.args_object_init_2 obj _) F.entry_enumerate_new (j79 (lst:=lst) t w1.toArray) ⟨qw1,?_⟩;have z1:(zh1 s1.heap lst t).objs.size=s1.heap.objs.size+1:=Pb ..;have b2:(eh2 s1.heap lst t).get? (zh1 s1.heap lst t).objs.size=a8 _:=X7 _ rfl;have b1:(eh2 s1.heap lst t).get? s1.heap.objs.size=a8 _:=xg _ (X7 _ rfl);have kp:∀c o,s1.heap.get? c=a8 o->(eh2 s1.heap lst t).get? c=a8 o:=λc o e=>xg _ (xg _ e);show _/\_;rw[z1]at b2 ⊢;have I2:Inv X pins σ H1 { s1 with heap:=eh2 s1.heap lst t }:=I1.kept (t':=s1.toks) kp;have lt1:t<s1.heap.objs.size:=by
  unfold jf at qw1;cases lst with
  |true=>rw[if_pos rfl]at qw1;obtain⟨_,e,_⟩:=qw1;exact xn e
  |false=>rw[if_neg xf]at qw1;obtain⟨_,e,_⟩:=qw1;exact xn e
 have side:jh lst (eh2 s1.heap lst t) s1.heap.objs.size t 0:=by
  unfold jh;cases lst with
  |true=>rw[if_pos rfl];exact⟨_,b1,rfl,rfl⟩
  |false=>rw[if_neg xf];exact⟨_,b1,rfl,rfl⟩
 refine⟨⟨_,b2,rfl⟩,jW (s:={ s1 with heap:=eh2 s1.heap lst t }) b2 ?_⟩;refine⟨_,_,_,Ite X.K lst t,H1,rfl,I2,j3j (j:=s1.heap.objs.size) (Nat.succ_ne_self _) (Pn (sr lt1)) (X8 lt1),⟨⟨_,b2⟩,side⟩,λc hc=>?_,q _ H1 g1 (j4m sq en)⟩;have hc':c=s1.heap.objs.size+1\/c=s1.heap.objs.size:=by simpa using hc
 have hge:s1.heap.objs.size<=c:=by rcases hc' with e|e<;>rw[e]<;>first|exact xx _|exact iX _ _
 obtain⟨f0,f1,f2,f3,f4,f5⟩:=I1.fpOk hge (I1.hok.fresh hge);exact⟨f0,f1,f2,f3,f4,f5⟩
end
section
variable{X:Cx}
theorem j6d:OpR X (aY .FloorDiv) (rI (λ_ j=>0<j/\j<18446744073709551616) λi j=>.int (i/j)):=opI λi j _ _ _ _ _ hc q=>by
 have e:i/j=i.fdiv j:=by rw[gu _ nofun]
 refine floordiv_int nofun (by rw[<-e];exact q) (.inl (PyProof.noPylong_of_log2 ?_))
 have h2:(2:Nat)^64=18446744073709551616:=by decide
 have:=(l9 (n:=j.natAbs) (k:=64) nofun).mpr (by rw[h2];omega);omega
end
section
variable{X:Cx}{ρ:Rho}{a b e:ar}{d d':D}{ds:List D}{i j:Int}{pos p p1 p2:aM}{P:Po}
theorem DE.fdivB(ha:DT X ρ a (.int i))(hb:DT X ρ b (.int j))(h:0<j/\j<18446744073709551616):DE X ρ (.BinOp a .FloorDiv b pos) (.int (i/j)):=DE.arI (g:=λi j=>i/j) j6d ha hb h
end
noncomputable def ddS(acc:List aq)(v:aq):List aq:=if acc.any (· == v)=aa then acc else acc++[v]
noncomputable def dd(ts:List aq):List aq:=ts.foldl ddS []
theorem jb6(ts:List aq)(v:aq):dd (ts++[v])=ddS (dd ts) v:=by simp[dd]
theorem Ng:∀(ts acc:List aq),(ts.foldl ddS acc).length<=acc.length+ts.length
 |[],acc=>by simp
 |v::ts,acc=>by
  have h:=Ng ts (ddS acc v);have h2:(ddS acc v).length<=acc.length+1:=by unfold ddS;split<;>simp
  rw[T7,X6];omega
def Qp(P:ay)(w:aD)(h:aF)(S:ai)(ts:List aq):Prop:=h.SetOf (de P w) S (λk=>(dd ts).any (· == k)) (dd ts).length
section
variable{P:ay}{w:aD}{A:aG}{I S:ai}{fp wr:List ai}{Gn:Array eZ->Array eZ->Prop}{Pv:Nat->aj->Prop}{St:Nat->ao->Prop}{ts:List aq}
theorem Qp.stay{h h':aF}(x:Qp P w h S ts)(k:∀o,h.get? S=a8 o->h'.get? S=a8 o):Qp P w h' S ts:=by obtain⟨o,es,ep,t,ho,r⟩:=x;exact⟨o,es,ep,t,k o ho,r⟩
theorem Qp.more{h:aF}{v:aq}(x:h.SetOf (de P w) S (λk=>(dd ts).any (· == k) || decide (k=v)) (if (dd ts).any (· == v)=aa then(dd ts).length else(dd ts).length+1)):Qp P w h S (ts++[v]):=by
 unfold Qp;rw[jb6];have e1:(λk=>(ddS (dd ts) v).any (· == k))=λk=>(dd ts).any (· == k) || decide (k=v):=by
  funext k
  unfold ddS;by_cases h1:(dd ts).any (· == v)=aa
  .rw[if_pos h1];by_cases h2:k=v
   .subst h2;rw[h1];rfl
   .rw[decide_eq_false h2,jQ]
  .rw[if_neg h1,List.any_append];congr 1;by_cases h2:k=v
   .subst h2;simp
   .have:¬v=k:=λz=>h2 z.symm;simp[h2,this]
 have e2:(ddS (dd ts) v).length=if (dd ts).any (· == v)=aa then(dd ts).length else(dd ts).length+1:=by unfold ddS;split<;>simp
 rw[e1,e2];exact x
theorem fill{R:eB->ao->Prop}(W:WalksS P w A.in1 I fp wr Gn ts.length Pv St)(out:S∉fp)(hv:∀i v,Pv i v->∃x t,ts[i]?=a8 x/\v=.str x t)(room:ts.length+1<gj):∀(r i:Nat)(q:ao),i+r=ts.length->St i q->Qp P w q.heap S (ts.take i) ->
  (∀q',Moved (S::wr) Gn q q'->Qp P w q'.heap S ts->R (.ok (.ret .none)) q')->bK (aC P w) A (.builtin "set.update.loop" ⟨[.ref S,.ref I],[]⟩) R q:=by
 have outw:S∉wr:=λz=>out (W.sub S z);have wider:∀b∈wr,b∈S::wr:=λb z=>xm S z;intro r;induction r with
 |zero =>intro i q hi st fu fin;have e:i=ts.length:=hi;subst e;refine cy dk ?_;rw[bO bF _];refine af (m:=dO (.ref I)) (W.done q _ _ st λq' mv=>?_);refine aw (fin q' (mv.mono wider) ?_);rw[T4]at fu;exact fu.stay λo z=>mv.heap S o outw z
 |succ r ih =>
  intro i q hi st fu fin;have lt:i<ts.length:=by omega
  refine cy dk ?_;rw[bO bF _];refine af (m:=dO (.ref I)) (W.item i q _ _ lt st λv q' pv st' mv=>?_);obtain⟨x,t,hx,ev⟩:=hv i v pv;subst ev;have fu':Qp P w q'.heap S (ts.take i):=fu.stay λo z=>mv.heap S o outw z;refine af (m:=gL [bj x t] (setAdd S (.str x t))) (cO ?_);unfold setAdd;refine cO (af ((de P w).pyHash (k:=x) (strKind_is P w x t) ?_));have small:(dd (ts.take i)).length+1<gj:=by
   have:=Ng (ts.take i) [];have e:(dd (ts.take i)).length<=i:=by
    have:([]:List aq).length+(ts.take i).length<=i:=by rw[Xp,T3];omega
    exact Xh (Ng (ts.take i) []) this
   omega
  refine wpAny_setAddHashed_of (knd:=de P w) (strKind_is P w x t) rfl fu' small λh' sb full2=>?_;have next:Qp P w h' S (ts.take (i+1)):=by rw[t8,hx];exact Qp.more full2
  refine aw ⟨dP bF _,ih (i+1) _ nofun (W.frame _ q' _ _ st' (Pu _) λb hb o e=>?_) next λq2 mv2 full3=>?_⟩
  .have ne:b≠S:=λz=>out (z▸hb);rw[sb.2 b ne];exact e
  .refine fin q2 (Moved.trans W.gtrans ((mv.mono wider).then_heap (Pu _) λb o hb e=>?_) mv2) full3;have ne:b≠S:=λz=>hb (by rw[z];exact X3 ..);rw[sb.2 b ne];exact e
end
section
variable{P:ay}{w:aD}{A:aG}{E:k7g}{s:ao}
noncomputable abbrev Je(led:Bool):d7:={ cls:=.type "set",dict:=ae,data:=.set #[] 0 (.fresh 0 0 led) }
theorem j6y{led:Bool}{l:ai}{its:Array aj}{ts:List aq}{X:l5->ao->Prop}{Y:k7g}(hh:A.handled=ae)(hl:s.heap.IsList l its)(hts:∀(i:Nat)(v:aj),its[i]?=a8 v->∃x t,ts[i]?=a8 x/\v=.str x t)(hn:its.size=ts.length)(room:ts.length+1<gj)
  (q:∀h' tk,Qp P w h' s.heap.objs.size ts->(∀b o,b<s.heap.objs.size->s.heap.get? b=a8 o->h'.get? b=a8 o)->X (.done (.ret .none)) { s with heap:=h',toks:=tk }) :
  ax (aC P w) A.in1 (df.«set.__init__» ⟨[.ref s.heap.objs.size,.ref l],[]⟩) X Y { s with heap:=s.heap.push (Je led) }:=by
 obtain⟨⟨oc,od,oda,os⟩,e1,e2,n,e3⟩:=hl;have e2:oc=.type "list":=e2;have e3:oda=.seq its n:=e3;subst e2 e3;have here:(s.heap.push (Je led)).get? s.heap.objs.size=a8 (Je led):=X7 _ rfl;have lst:(s.heap.push (Je led)).get? l=a8 { cls:=.type "list",dict:=od,data:=.seq its n,slots:=os }:=xg _ e1;have ne1:=PySem.F.sub_list_set;have ne2:=PySem.F.sub_list_frozenset;have ne3:(fP "list" == fP "dict")=a9:=by decide
 have isl:(s.heap.push (Je led)).IsList l its:=⟨_,lst,rfl,n,rfl⟩
 unfold df.«set.__init__» noKeywords Builtin.Frozenset.updateFrom;generalize keep:iB=PI
 wp_walk
 subst keep;refine bx isl (af (wpAny_runValue ?_));have lt:l<s.heap.objs.size:=xn e1;have sz:(s.heap.push (Je led)).objs.size=s.heap.objs.size+1:=Pb ..;have walk:=(Walks.list (prog:=P) (w:=w) (A:=A.in1.in1) (by simp[hh]) (s.heap.push (Je led)).objs.size l (by rw[sz];exact X8 (sr lt)) its).toS;rw[hn]at walk;refine fill (ts:=ts) (S:=s.heap.objs.size) walk (λz=>?_) hts room ts.length 0 { s with heap:=(s.heap.push (Je led)).push { cls:=.type "list_iterator",data:=.fields #[.ref l,.int 0 0] } } nofun ⟨⟨_,X7 _ rfl,rfl,rfl⟩,isl.push _⟩ ?_ λq' mv full=>?_
 .rw[sz]at z;rcases xu.mp z with z|z
  .exact X8 (bX _) z
  .exact Pn lt (xj.mp z)
 .have z:Qp P w (s.heap.push (Je led)) s.heap.objs.size []:=(setObjOf_fresh (knd:=de P w) led).setOf here (by unfold gj;omega);exact z.stay λo e=>xg _ e
 .obtain⟨h',g',d',tk',os'⟩:=q';obtain⟨m1,m2,m3,m4,m5⟩:=mv;cases m2;cases m3;cases m4;refine aw (aw (q h' tk' full λb o hb e=>m1 b o ?_ (xg _ (xg _ e))));intro z;rw[sz]at z;rcases xu.mp z with z|z
  .exact X8 hb z
  .exact X8 (sr hb) (xj.mp z)
theorem j59{l:ai}{its:Array aj}{ts:List aq}{Q:k7g}(hh:A.handled=ae)(hl:s.heap.IsList l its)(hts:∀(i:Nat)(v:aj),its[i]?=a8 v->∃x t,ts[i]?=a8 x/\v=.str x t)(hn:its.size=ts.length)(room:ts.length+1<gj)
  (q:∀h' tk,Qp P w h' s.heap.objs.size ts->(∀b o,b<s.heap.objs.size->s.heap.get? b=a8 o->h'.get? b=a8 o)->Q (.ref s.heap.objs.size) { s with heap:=h',toks:=tk }):ax (aC P w) A (call (.type "set") [.ref l]) Q E s:=by
 have cs:=PySem.F.called_set;obtain⟨c0,tl0,hm0⟩:=cs.mro;have m1:=cs.made;have m2:=cs.sub;have m3:=cs.notType;have m4:=cs.canCreate;have m5:=PySem.F.typeCall_set_1 (.ref l);refine jL (codeAny_of_tree (?_:ax _ _ (callAny (.type "set") _) _ _ _));refine aw ⟨Code.quiet_builtin _ (by decide +kernel),cy PySem.F.entry_type_call ?_⟩;rw[Around.under_plain (weight_type_call_type "set" [.ref l] []) rfl]
 repeat (any_goals (first|assumption|wp_step))
 refine cg (PySem.code_set_new_1 (.ref l) (E:=E) (Q₁:=λo q1=>∃led:Bool,o=.ref s.heap.objs.size/\q1={ s with heap:=s.heap.push (Je led) }) λled=>⟨led,rfl,rfl⟩) λr q1 hr=>?_;cases r with
 |error e=>exact hr
 |ok fl =>
  cases fl with
  |ret o =>
   obtain⟨led,eo,eq1⟩:=hr;subst eo eq1;have ty:Shared.TypeIs { s with heap:=s.heap.push (Je led) } (.ref s.heap.objs.size) "set":=⟨_,X7 _ rfl,rfl⟩
   have m6:=cs.init.lookup;have m7:=cs.init.bind (.ref s.heap.objs.size)
   repeat (any_goals (first|assumption|wp_step))
   refine cg (codeAny_call_builtin (R:=wants (λr q2=>r=.none/\∃h' tk,q2={ s with heap:=h',toks:=tk }/\Qp P w h' s.heap.objs.size ts/\∀b o,b<s.heap.objs.size->s.heap.get? b=a8 o->h'.get? b=a8 o) E) cs.init.plain PySem.F.entry_set_init (PySem.check_set_init_1 ty ?_)) λr2 q2 hr2=>?_
   .exact j6y (led:=led) (by simp[hh]) hl hts hn room λh' tk full old=>⟨rfl,h',tk,rfl,full,old⟩
   .cases r2 with
    |error e=>exact hr2
    |ok fl2 =>
     cases fl2 with
     |ret r3 =>
      obtain⟨e3,h',tk,e4,full,old⟩:=hr2;subst e3 e4
      repeat (any_goals (first|assumption|wp_step))
      exact q _ _ full old
     |_=>exact hr2.elim
  |_=>exact hr.elim
end
section
variable{X:Cx}{ρ:Rho}{a:ar}{p p1 p2 pos:aM}
theorem DE.lenSet {ts:List aq} (ha:DT X ρ a (.lst (ts.map D.str))) (hc:X.calm=aa) (room:ts.length+1<4096) (hm:X.mg "len" = ae) (hm2:X.mg "set" = ae) (hg:Gl X "len") (hg2:Gl X "set") (hs:ah [a] X.env=[(a9,aE a X.env)])
  (hs2:ah [.Call (.Name "set" p1) [a] [] p2] X.env=[(a9,aE (.Call (.Name "set" p1) [a] [] p2) X.env)]):DE X ρ (.Call (.Name "len" p) [.Call (.Name "set" p1) [a] [] p2] [] pos) (.int (dd ts).length):=λσ H Q R q pins s I=>by
 have inner:ax (aC X.prog X.w) X.A (aE (.Call (.Name "set" p1) [a] [] p2) X.env) (λu s2=>∃(S:ai)(H1:Hp),u=.ref S/\Inv X pins σ H1 s2/\j0 H H1/\Qp X.prog X.w s2.heap S ts) X.xe s:=by
  refine aU (Qc I hg2 hm2 boot_set ?_);refine callWith_type1 (thn ((jc (es:=[]) peS jx hs).to (σ:=σ) (H:=H) (Q:=λvs H1=>∃(l:ai)(xs:List V),vs=[.ref l]/\j0 H H1/\SqL X.K H1 l xs/\j4 X.K H1 (ts.map D.str) xs) (ha σ H _ R λv H1 g ⟨l,xs,e,sq,en⟩=>⟨l,xs,by rw[e],g,sq,en⟩) p2 pins s I) λus s1 ⟨vs,H1,I1,r,l,xs,ev,g,sq,en⟩=>?_) hs rfl;subst ev;obtain⟨u,eu,r1⟩:=vals1 r;subst eu;cases(show u=aQ l from r1);obtain⟨its,rv,pl,_⟩:=I1.list sq;rw[Rp en]at rv;have hlen:its.toArray.size=ts.length:=by rw[X4,<-rv.length,km]
  refine j59 (ts:=ts) (I1.ok.hd hc) pl.isList (λi v hv=>?_) hlen (by show ts.length+1<4096;exact room) λh' tk full old=>?_
  .have hi:i<ts.length:=by have:=(Array.getElem?_eq_some_iff.mp hv).1;omega
   obtain⟨w1,hw,t,ew⟩:=rv.get (x:=.str ts[i]) (i:=i) (by rw[xq,kh hi];rfl);have:its.toArray[i]?=a8 w1:=by simpa using hw
   rw[this]at hv;cases hv;exact⟨ts[i],t,kh hi,ew⟩
  .exact⟨_,H1,rfl,I1.kept (t':=tk) λb o e=>old b o (xn e) e,g,full⟩
 refine aU (Qc I hg hm cu ?_);refine dF (by rw[hs2];rfl) (cE ?_);show ax _ _ (iy ((a9,aE _ X.env)::aR pos [])) _ _ s;refine eJ (thn inner λu s2 h2=>eQ ?_);obtain⟨S,H1,rfl,I2,g,⟨o,es,ep,t,ho,hex,hd,hel,hmem,hb,hf,hn⟩⟩:=h2;refine call_len_set ho hex hd hf ?_ ?_
 .have:es.size<4096:=hb;omega
 .rw[hn];exact⟨.int _,H1,I2.tok _,⟨_,rfl⟩,q _ H1 g rfl⟩
end
section
variable{X:Cx}{ρ:Rho}{a b:ar}{es:List ar}{n:Nat}{pos p p1 p2 q1:aM}{ks:List (List Int)}{ds:List D}{k:List Int}
theorem Et{P:ay}{w:aD}:∀{ks:List Int}{us:List aj},Vals (ks.map V.int) us->ItemsAre (f9 P w) ks us
 |[],_,r=>by rw[bT]at r;cases r;exact .nil
 |k::ks,_,r=>by
  rw[X5]at r;cases r with
  |cons h t =>
   obtain⟨tk,e⟩:=(show ∃t,_=br k t from h)
   subst e;exact .cons (by simp[f9,jU]) (Et t)
theorem Ma{pins:k7h}{σ:St}{H:Hp}{s:ao}{t:ai}(I:Inv X pins σ H s)(sq:SqT X.K H t (k.map V.int)):(gf (f9 X.prog X.w)).is s.heap k t:=by obtain⟨its,rv,⟨o,e1,e2,m,e3⟩,_⟩:=I.tuple sq;exact⟨o,its.toArray,m,e1,e2,e3,by simpa using Et rv⟩
theorem Do{pins:k7h}{σ:St}{H:Hp}{s:ao}{d:ai}{xs:List (List Int×ai×aj)}{ep:Nat}(I:Inv X pins σ H s)(hx:H d=a8 (.dI xs ep))(kt:∀x∈xs,SqT X.K H x.2.1 (x.1.map V.int)) :
  (d==fG)=a9/\xs.length<=av/\s.heap.DictOfH (gf (f9 X.prog X.w)) d xs:=by
 obtain⟨z1,z2,z3,od,en,h1,h2,h3,h4⟩:=(show jo X.prog X.w H s.heap d (.dI xs ep)from I.hok _ _ hx)
 exact⟨z2,z1,od,en,ep,h1,h2,h3,h4,λx hx=>Ma I (kt x hx),z3⟩
theorem Lq{xs:List (List Int×ai×aj)}:(iU xs k).isSome=(xs.map λx=>x.1).contains k:=by
 induction xs with
 |nil=>rfl
 |cons x xs ih =>
  unfold iU at ih ⊢;rw[Option.isSome_map]at ih ⊢;rw[jA,X5,cX];by_cases z:x.1=k
  .simp[z]
  .have z':(k==x.1)=a9:=by simp;exact λe=>z e.symm
   rw[decide_eq_false z,z',jR];exact ih
theorem any_range:∀bs:List Bool,(aA bs.length).any (λi=>(bs[i]?).getD aa)=bs.any id
 |[]=>rfl
 |b::bs=>by rw[X6,dM,cJ,k6,cJ,<-any_range bs];rfl
theorem j0v (hc:X.calm=aa):Jp X (.builtin "any") (λxs H Q=>∃(l:ai)(bs:List Bool),xs=[.ref l]/\SqL X.K H l (bs.map V.bl)/\Q (.bl (bs.any id)) H):=by
 intro pins s σ H xs us Q I r ⟨l,bs,e,sq,q⟩;subst e;obtain⟨u,eu,ru⟩:=vals1 r;subst eu;cases ru;obtain⟨its,rv,pl,_⟩:=I.list sq;have hlt:l<s.heap.objs.size:=by obtain⟨_,_,e,_⟩:=pl;exact xn e
 have hl:its.length=bs.length:=by rw[<-rv.length,km]
 refine call_any_walk (bx pl.isList ⟨s.heap.objs.size,[s.heap.objs.size,l],[s.heap.objs.size],its.toArray.size,_,_,λi=>(bs[i]?).getD aa,rfl,Walks.list (A:=X.A.in1) (I.ok.hd hc) _ _ (X8 hlt) its.toArray,⟨⟨_,X7 _ rfl,rfl,rfl⟩,pl.isList.push _⟩,?_,λh' tk kp=>?_⟩)
 .intro i v s' Q' E' hv hq;have hi:i<its.length:=by have:=Array.getElem?_eq_some_iff.mp hv;obtain⟨h,_⟩:=this;simpa using h
  have hb:i<bs.length:=by omega
  obtain⟨w1,hw,rw1⟩:=rv.get (x:=.bl bs[i]) (i:=i) (by rw[xq,kh hb];rfl);have:its.toArray[i]?=a8 w1:=by simpa using hw
  rw[this]at hv;cases hv;cases rw1;simp only[kh hb,Tn]at hq;exact bu hq
 .have ev:(aA its.toArray.size).any (λi=>(bs[i]?).getD aa)=bs.any id:=by rw[X4,hl];exact any_range bs
  rw[ev];refine⟨.bl _,H,I.kept (t':=tk) λb o e=>kp b o ?_ (xg _ e),rfl,q⟩;intro z;rw[xj.mp z]at e;exact t6 _ (xn e)
theorem DE.any {bs:List Bool} (ha:DT X ρ a (.lst (bs.map D.bl))) (hm:X.mg "any" = ae) (hc:X.calm=aa) (hg:Gl X "any") (hs:ah [a] X.env=[(a9,aE a X.env)]):DE X ρ (.Call (.Name "any" p) [a] [] pos) (.bl (bs.any id)):=λσ H Q R q =>(v8 (j0v hc) hg hm boot_any (jc peS jx hs) (by decide) (by decide) hs).to (ha σ H _ R λv H1 g1 ⟨l,xs,e,sq,en⟩=>⟨l,bs,by rw[e],by rw[Ot en]at sq;exact sq,q _ H1 g1 rfl⟩)
end
def jfy:TE:=λ_ H Q=>∀p,H p=ae->Q (.ref p) (upd H p (.dI [] 0))
def jg5(K:k7f)(td ty tv:TE):TS:=λD σ H=>tv σ H λv H1=>td σ H1 λx H2=>ty σ H2 λy H3 =>
 ∃(a b:ai)(xs:List (List Int×ai×aj)) (ep:Nat) (k:List Int),x=.ref a/\H3 a=a8 (.dI xs ep)/\(∀x∈xs,SqT K H3 x.2.1 (x.1.map V.int))/\y=.ref b/\SqT K H3 b (k.map V.int) /\
  (xs.map λx=>x.1).contains k=a9/\xs.length<av/\∀u ep',RelV v u->D.nx σ (upd H3 a (.dI (xs++[(k,b,u)]) ep'))
section
variable{X:Cx}{pos pos':aM}{o i value:ar}{td ty tv:TE}
theorem Inv.bigD{pins:k7h}{σ:St}{H:Hp}{s:ao}(I:Inv X pins σ H s):fG<s.heap.objs.size:=by have h:az<s.heap.objs.size:=(I.mod.glob.keeps I.bk).lt;exact Xy (by decide) h
theorem j1b:PE X (.Dict [] [] pos) jfy:=λpins s σ H Q I h =>
 wpAny_Dict_empty ⟨.ref s.heap.objs.size,_,I.laid (a:=s.heap.objs.size) (o:=.dI [] 0) (t':=s.toks) (λ_ _ q=>xg _ q) (xx _)
  ⟨Pj _,beq_eq_false_iff_ne.mpr (ba (X8 I.bigD)),cV,_,#[],X7 _ rfl,⟨rfl,rfl,rfl⟩,rfl,rfl⟩,rfl,h _ (I.hok.fresh (xx _))⟩
theorem j9v(hu:X.A.units+100<aS)(ho:PE X o td)(hi:PE X i ty)(hv:PE X value tv)(hs:aO value (a8 (.Subscript o i pos')) pos.line X.env=pure a9) :
  PS X (.Assign [.Subscript o i pos'] value pos) (jg5 X.K td ty tv):=by
 intro pins s σ H D I h;refine wpAny_Assign_Subscript (thn (hv pins s σ H _ I h) λr s1 ⟨v,H1,I1,rv,q1⟩=>thn (ho pins s1 σ H1 _ I1 q1) λu s2 ⟨x,H2,I2,rx,q2⟩=>thn (hi pins s2 σ H2 _ I2 q2) λiv s3 ⟨y,H3,I3,ry,hq⟩=>?_) hs;obtain⟨a,b,xs,ep,k,ex,hx,kt,ey,sq,nk,hl,q⟩:=hq;subst ex ey;cases rx;cases ry;obtain⟨lo,hz,dd⟩:=Do I3 hx kt;refine wpAny_setItem_heap (hsz:=hz) (fF nofun) (Ma I3 sq) dd λh' dd' sb=>?_;have na:iU xs k=ae:=by
  have:=Lq (xs:=xs) (k:=k);rw[nk]at this;cases z:iU xs k with
  |none=>rfl
  |some _=>rw[z]at this;cases this
 rw[storedH_new na]at dd';obtain⟨ob,es,ep',w1,w2,w3,w4,w5,w6⟩:=dd';refine⟨σ,_,I3.write (x:=a) (e:=a) (o:=.dI (xs++[(k,b,r)]) ep') (t':=s3.toks+(gf (f9 X.prog X.w)).draws k) (by rw[hx];exact True.intro) (.inl rfl) (λc z nc e=>(sb.2 c nc).trans e) ⟨ob,w1⟩ ?_,q r ep' rv⟩;exact⟨by simp;omega,lo,w6,ob,es,w1,w2,w3,w4⟩
end
section
variable{X:Cx}{ρ:Rho}{it e:ar}{P:Po}{ds:List D}{x t y:Nat}{nx nt ny:aq}{n8:Nat}{p1 p2 p3 p4 p5 p6 p7 p8 p9 p10 p11 p12 p13 p14 p15 p16 p17 p18:aM}
theorem Nv{H:Hp}{a:ai}{o:HO}(h:H a=a8 o):H=upd (del H [a]) a o:=funext λb=>by
 by_cases z:b=a
 .subst z;rw[jb];exact h
 .rw[je z,j9 (by simpa using z)]
theorem j7d{H:Hp}{a:ai}{o:HO}(h:H a=ae):del (upd H a o) [a]=H:=funext λb=>by
 by_cases z:b=a
 .subst z;rw[ql (by simp)];exact h.symm
 .rw[j9 (by simpa using z),je z]
theorem ja9{H F:Hp}{a:ai}{o:HO}(h:H a=a8 o):mrg [a] H F=upd F a o:=funext λb=>by
 by_cases z:b=a
 .subst z;rw[vz (by simp),jb];exact h
 .rw[ji (by simpa using z),je z]
end
noncomputable def Q0:List (List Int)->List D->List Int->Option D
 |k'::ks,d::ds,k=>if k'=k then a8 d else Q0 ks ds k
 |_,_,_=>ae
theorem j1n{K:k7f}{H:Hp}{k:List Int}{d:D}:∀{xs:List (List Int×ai×aj)} {ds:List D} {vs:List V},Vals vs (xs.map λx=>x.2.2)->j4 K H ds vs->Q0 (xs.map λx=>x.1) ds k=a8 d->∃p v,iU xs k=a8 p/\RelV v p.2/\Enc K H d v
 |[],_,_,_,_,h=>by cases h
 |x::xs,[],_,_,_,h=>by cases h
 |x::xs,d'::ds,_,rv,⟨v,r,e,h1,l⟩,h=>by
  subst e;rw[X5]at rv h;unfold iU;rw[jA];cases rv with
  |cons a b =>
   rw[Q0]at h;by_cases z:x.1=k
   .rw[if_pos z]at h;cases h;rw[decide_eq_true z];exact⟨x.2,v,rfl,a,h1⟩
   .rw[if_neg z]at h;rw[decide_eq_false z];exact j1n b l h
section
variable{X:Cx}{ρ:Rho}{a b:ar}{d:D}{ds:List D}{ks:List (List Int)}{k:List Int}{pos p p1 p2 p3:aM}
theorem jgx(hu:X.A.units+100<aS):IxR X (λx y H Q=>∃(d:ai)(xs:List (List Int×ai×aj)) (ep:Nat) (t:ai) (k:List Int) (q:ai×aj) (v:V),x=.ref d/\y=.ref t/\H d=a8 (.dI xs ep)/\(∀x∈xs,SqT X.K H x.2.1 (x.1.map V.int))/\SqT X.K H t (k.map V.int)/\iU xs k=a8 q/\RelV v q.2/\Q v H):=by intro value slice pins s σ H x y v u Q I rx ry h hs;obtain⟨d,xs,ep,t,k,q,w,rfl,rfl,hx,kt,sq,hq,rq,hQ⟩:=h;cases rx;cases ry;obtain⟨lo,hz,dd⟩:=Do I hx kt;exact lF dd.typeIs slot_dict_getitem.lookup (wpAny_getItem_heap (fF nofun) (Ma I sq) dd hq ⟨w,H,I.tok _,rq,hQ⟩) hs
theorem DE.dget(hu:X.A.units+100<aS)(ha:DE X ρ a (.dct ks ds))(hb:DT X ρ b (.tup (k.map D.int)))(h:Q0 ks ds k=a8 d)(hs:Jf b):DE X ρ (.Subscript a b pos) d:=λσ H Q R q =>
 (Yr (jgx hu) peS peS hs).to (ha σ H _ R λv H1 g1 ⟨c,xs,ep,vs,e,hx,ek,kt,rv,l⟩=>hb σ H1 _ (R.grow g1) λu H2 g2 ⟨t,ys,e2,sq,l2⟩=>by
  rw[zp l2]at sq
  subst ek
  obtain⟨q',v',z1,z2,z3⟩:=j1n rv (l.mono (jd g2)) h
  exact⟨c,xs,ep,t,k,q',v',e,e2,g2 _ _ (of_del hx).2,λx hx=>g2.seqT (jm.seqT (kt x hx)),sq,z1,z2,q v' H2 (g1.trans g2) z3⟩)
end
section
variable{X:Cx}{ρ:Rho}{it e1 e2:ar}{P:Po}{ds:List D}{x t y:Nat}{nx nt ny:aq}{p1 p2 p3 p4 p5 p6 p10 p11 p12 p14 p16 p17 p18:aM}
theorem Ju:∀ns:List Int,qe (ns.map D.int)=aa
 |[]=>rfl
 |n::ns=>by rw[X5,qe,Ju ns];rfl
theorem Ih{α:Type}:∀{l:List α}{i:Nat}{x:α},l[i]?=a8 x->l.set i x=l
 |[],_,_,_=>rfl
 |y::l,0,x,h=>by simp at h;subst h;rfl
 |y::l,i+1,x,h=>by rw[Xx,Ih (by simpa using h)]
end
theorem Nt{M:gX}{A:aG}{E:k7g}{s:ao}{β:Type}{a b:Nat}(f:Nat->β->lD (ForInStep β))(I:Nat->β->ao->Prop)(Q:β->ao->Prop)
  (turn:∀i c st,a<=i->i<b->I i c st->ax M A (f i c) (λr s'=>match r with|.yield c'=>I (i+1) c' s'|.done c'=>Q c' s') E st)
  (fin:∀c st,I (max a b) c st->Q c st) (c:β) (h:I a c s):ax M A (forIn [a:b] c f) Q E s:=by
 rw[Std.Legacy.Range.forIn_eq_forIn_range'];have hsz:([a:b]:Std.Legacy.Range).size=b-a:=by simp[Std.Legacy.Range.size]
 show ax M A (forIn (kE a ([a:b]:Std.Legacy.Range).size 1) c f) Q E s;rw[hsz];refine kx f (λl c st=>∃i,a<=i/\i<=max a b/\l=kE i (max a b-i) 1/\I i c st) Q ?_ ?_ _ c ⟨a,xx _,by omega,by congr 1;omega,h⟩
 .rintro x rest c st ⟨i,hai,hib,hl,hI⟩;have hlt:i<max a b:=by
   rcases fh i (max a b)with h'|h'
   .exact h'
   .rw[show max a b-i=0 by omega]at hl;simp at hl
  obtain⟨n,hn⟩:∃n,max a b-i=n+1:=⟨max a b-i-1,by omega⟩
  rw[hn,iN]at hl;obtain⟨rfl,rfl⟩:=List.cons.inj hl;refine bo (turn x c st hai nofun hI) (λr st' h'=>?_) λ_ _ h=>h;cases r with
  |done c'=>exact h'
  |yield c'=>exact⟨x+1,by omega,by omega,by congr 1;omega,h'⟩
 .rintro c st ⟨i,hai,hib,hl,hI⟩;have:i=max a b:=by
   rcases fh i (max a b)with h'|h'
   .obtain⟨n,hn⟩:∃n,max a b-i=n+1:=⟨max a b-i-1,by omega⟩
    rw[hn,iN]at hl;cases hl
   .omega
  subst this;exact fin c st hI
theorem Lw(l:ai)(items:Array aj)(n:Nat)(dd:Option ai)(sl:Array (Option aj))(x:aj)(e:aj->Bool)(k:Nat)(hk:k<items.size)(h0:∀(j:Nat)(h:j<items.size),j<k->e items[j]=a9)(h1:e items[k]=aa) :
  iW (df.«tuple.index» ⟨[.ref l,x],[]⟩)
   (λA R s=>s.heap.get? l=a8 { cls:=.type "tuple",dict:=dd,data:=.seq items n,slots:=sl }/\(∀y,y∈items->cB A.in1 s y x (e y))/\R (.ok (.ret (.int k s.toks))) { s with toks:=s.toks+1 }) :=
 .of_wp λprog w A R s h=>by
  obtain⟨hp,g,d,tk,os⟩:=s;obtain⟨hl,he,h⟩:=h
  wp_walk using gD hl,Nt _ (λi b s'=>b.1=ae/\s'=⟨hp,g,d,tk,os⟩/\i<=k) _
  case turn =>
   rintro i c s'-hi ⟨hb,rfl,hik⟩;have hlt:i<items.size:=by omega
   have hy:items[i]?=a8 items[i]:=by simp[hlt]
   rw[hy];refine af (he items[i] (Array.getElem_mem hlt) prog w _ _ ?_);by_cases z:i=k
   .subst z;rw[h1]
    wp_walk
    exact⟨_,rfl,h⟩
   .rw[h0 i hlt nofun]
    wp_walk
    exact⟨rfl,rfl,by omega⟩
  case fin =>rintro c s' ⟨hb,rfl,hik⟩;omega
  case h =>exact⟨rfl,rfl,Pj _⟩
section
variable{X:Cx}{ρ:Rho}{a e:ar}{l:List D}{d:D}{p1 pos:aM}
noncomputable def ixD(d:D):List D->Option Nat
 |[]=>ae
 |x::r=>if deq x d=aa then a8 0 else(ixD d r).map (· + 1)
theorem Es{d:D}:∀{l:List D}{k:Nat},ixD d l=a8 k->∃x,l[k]?=a8 x/\deq x d=aa/\∀j y,j<k->l[j]?=a8 y->deq y d=a9
 |[],k,h=>by cases h
 |x::r,k,h=>by
  unfold ixD at h;split at h
  .rename_i z;cases h;exact⟨x,rfl,z,λj y hj=>absurd hj (Nat.not_lt_zero _)⟩
  .rename_i z;cases q:ixD d r with
   |none=>rw[q]at h;cases h
   |some m =>
    rw[q]at h;cases h;obtain⟨y,hy,e,f⟩:=Es q;refine⟨y,hy,e,λj y hj hq=>?_⟩;cases j with
    |zero=>cases hq;simpa using z
    |succ j=>exact f j y (Nat.lt_of_succ_lt_succ hj) hq
theorem j4c (hu:X.A.units+100<aS):MtR X "tuple.index" (λx vs H Q=>∃t xs ds d y k,x=.ref t/\vs=[y]/\SqT X.K H t xs/\j4 X.K H ds xs/\Enc X.K H d y/\D.depL ds<=97/\d.dep<10000/\ixD d ds=a8 k/\Q (.int (k:Nat)) H):=by
 rintro pins s σ H x vs v us Q I rx rv ⟨t,xs,ds,d,y,k,e,e',sq,l,en,hd,nd,hk,q⟩;subst e e';cases rx;obtain⟨u,eu,ru⟩:=rv.one;subst eu;obtain⟨its,ri,⟨⟨cl,dd,da,sl⟩,h1,h2,n,h3⟩,_⟩:=I.tuple sq;have h2:cl=.type "tuple":=h2;have h3:da=.seq its.toArray n:=h3;subst h2 h3;obtain⟨z,hz,ez,fz⟩:=Es hk;have ll:=l.length;have rl:=ri.length;have hks:k<its.toArray.size:=by have:=(xr.mp hz).1;simp;omega
 have at_:∀(j:Nat)(h:j<its.toArray.size)(z:D),ds[j]?=a8 z->eqW X H d its.toArray[j]=deq z d:=λj h z hz=>by
  obtain⟨x,hx,ex⟩:=l.get hz;obtain⟨w,hw,rw⟩:=ri.get hx;have g1:its.toArray[j]=w:=by simp at h ⊢;rw[kh (by simpa using h)]at hw;exact aB hw
  have:=D.depL_le hz;rw[g1];exact N8 I nofun ex rw
 refine cb gR ⟨_,h1,rfl⟩ F.entry_tuple_index (F.args_tuple_index_2 _ _) (Lw t its.toArray n dd sl u (eqW X H d) k hks (λj h hj=>?_) (by rw[at_ k hks z hz];exact ez))
  ⟨h1,λy hy=>Uq (n:=97) I en ru nd (by show X.A.units+1+97<aS;omega) hd l ri y (by simpa using hy),⟨.int _,H,I.tok _,⟨_,rfl⟩,q⟩⟩
 have hlt:j<ds.length:=by simp at h;omega
 rw[at_ j h ds[j] (kh hlt)];exact fz j _ hj (kh hlt)
theorem DE.indexT {b:ar} {ds:List D} {k:Nat} {p2:aM} (hu:X.A.units+100<aS) (ha:DT X ρ a (.tup ds)) (hb:DT X ρ b d) (hd:D.depL ds<=97) (nd:d.dep<10000) (hk:ixD d ds=a8 k) (hbase:bh a "index" X.env (aE a X.env)=aE a X.env)
  (hfew:((aR p2 (ah [b] X.env)).all (λx=>!x.1)&&(cS p2 (bH [] X.env)).all (λx=>x.1.isSome)
   && decide (([b]:List ar).length+([]:List bg).length+(if ([]:List bg).isEmpty then 0 else 1)<30))=aa) (hline:(p1.endLine==p2.line)=aa)
  (hs:ah [b] X.env=(a9,aE b X.env)::ah [] X.env):DE X ρ (.Call (.Attribute a "index" p1) [b] [] p2) (.int (k:Nat)):=λσ H Q R q =>
 (Bq PySem.F.plainAttrs_tuple gR PySem.F.type_tuple_index (j4c hu) peS (jc peS jx hs) hbase hfew hline hs rfl).to (ha σ H _ R λv H1 g1 ⟨t,xs,e,sq,l⟩=>⟨by rw[e];exact .inr (.inl ⟨rfl,xs,sq⟩),hb σ H1 _ (R.grow g1) λu H2 g2 e2 =>
  ⟨t,xs,ds,d,u,k,e,rfl,g2.seqT sq,l.mono g2,e2,hd,nd,hk,q _ H2 (g1.trans g2) rfl⟩⟩)
end
section
variable{X:Cx}{pins:k7h}{σ:St}{H:Hp}{l S I:ai}{xs:List V}{R:eB->ao->Prop}
def jfq(X:Cx)(pins:k7h)(σ:St)(H:Hp)(xs:List V)(bt:Nat->Nat->Bool):Prop:=∀(i j:Nat)(x y:V)(u v:aj)(s:ao)(Q:k7g)(E:k7g),xs[i]?=a8 x->xs[j]?=a8 y->RelV x u->RelV y v->Inv X pins σ H s ->
 Q (.bool (bt i j)) s->ax (aC X.prog X.w) X.A.in1 (iQ .Lt u v) Q E s
theorem jaa(bt:Nat->Nat->Bool)(hh:X.A.handled=ae)(hl:SqL X.K H l xs)(hSI:S≠I)(fS:Ja X pins H S)(fI:Ja X pins H I)(cmp:jfq X pins σ H xs bt)
  (hR:∀x u s',xs[bf bt (xs.length-1)]?=a8 x->RelV x u->Inv X pins σ H s'->R (.ok (.ret u)) s') :
  ∀(r j:Nat)(s:ao)(x:V)(u:aj)(c:Nat),xs.length-(j+1)=r->j+1<=xs.length->Inv X pins σ H s->s.heap.get? S=a8 (f6 "list" #[u,u] c) ->
   s.heap.IsListIter I l (j+1)->xs[bf bt j]?=a8 x->RelV x u->bK (aC X.prog X.w) X.A (.builtin "min.loop" ⟨[.ref I,.none,.ref S],[]⟩) R s:=by
 have hname:(toString "min" ++ toString ".loop":String) = "min.loop":=by decide
 have fp:∀b∈[S,I],Ja X pins H b:=λb hb=>by
  rcases xu.mp hb with e|hb
  .subst e;exact fS
  .rw[xj.mp hb];exact fI
 intro r;induction r with
 |zero =>
  intro j s x u c hr hj I1 oS it hx ru;have hin:j+1=xs.length:=by omega
  obtain⟨its,rv,p,_⟩:=I1.list hl;have hlen:=rv.length;refine cy dy ?_;rw[bO t7 _];show ax _ X.A.in1 (gi (.ref S) >>= _) _ _ _;refine af (aX oS rfl ?_);show ax _ X.A.in1 (tryCatch (dO (.ref I)) _ >>= _) _ _ _;refine af (eS (iK hh it p.isList (by simp;omega) λh' eb=>?_));have I2:Inv X pins σ H { s with heap:=h' }:=I1.chg (ch:=[S,I]) fp λb o hb e=>eb b o (λz=>hb (by simp[z])) e;have oS':h'.get? S=a8 (f6 "list" #[u,u] c):=eb S _ hSI oS;show ax _ X.A.in1 (updateSeq S (λ_=>#[]) >>= _) _ _ _;refine af ?_;refine gC oS' rfl (af (cQ (aw ?_)));have s1:=bG h' S (cY λ_=>(#[]:Array aj));exact hR x u _ (by rw[<-hin];exact hx) ru (I2.chg (ch:=[S,I]) fp λb o hb e=>(s1.2 b (λz=>hb (by simp[z]))).trans e)
 |succ r ih =>
  intro j s x u c hr hj I1 oS it hx ru;have hlt:j+1<xs.length:=by omega
  obtain⟨its,rv,p,_⟩:=I1.list hl;have hlen:=rv.length;have hx1:xs[j+1]?=a8 xs[j+1]:=by simp[hlt]
  obtain⟨v,hv,rv1⟩:=rv.get hx1;refine cy dy ?_;rw[bO t7 _];show ax _ X.A.in1 (gi (.ref S) >>= _) _ _ _;refine af (aX oS rfl ?_);show ax _ X.A.in1 (tryCatch (dO (.ref I)) _ >>= _) _ _ _;refine af (eS (dZ it p.isList (x:=v) (by simpa using hv) λh' it' sb=>?_));have I2:Inv X pins σ H { s with heap:=h' }:=I1.chg (ch:=[S,I]) fp λb o hb e=>(sb.2 b (λz=>hb (by simp[z]))).trans e;have oS':h'.get? S=a8 (f6 "list" #[u,u] c):=(sb.2 S hSI).trans oS;obtain⟨oI,eI,cI,dI⟩:=id it';show ax _ X.A.in1 (tryCatch (gL [v,v] (iQ .Lt v u >>= _)) _ >>= _) _ _ _;refine af (eS (cO (af (cmp (j+1) (bf bt j) _ _ v u _ _ _ hx1 hx rv1 ru I2 ?_))));refine af (cO (bu ?_));refine af (cQ (aw ?_));cases hb:bt (j+1) (bf bt j) with
  |true =>
   have s1:=bG h' S (cY λ_=>#[v,v]);obtain⟨c2,hc2⟩:∃c2,(h'.update S (cY λ_=>#[v,v])).get? S=a8 (f6 "list" #[v,v] c2):=⟨_,l6 oS' λ_=>#[v,v]⟩
   simp only[if_true];refine af ?_;refine gC oS' rfl (af (cQ ?_));rw[hname];exact aw ⟨dP t7 _,ih (j+1) _ _ v c2 nofun hlt (I2.chg (ch:=[S,I]) fp λb o hb e=>(s1.2 b (λz=>hb (by simp[z]))).trans e) hc2
    ⟨oI,(s1.2 I hSI.symm).trans eI,cI,dI⟩ (by simp only[bf,hb,if_true];exact hx1) rv1⟩
  |false =>simp only[Pz,if_false];refine af (cQ ?_);rw[hname];exact aw ⟨dP t7 _,ih (j+1) _ x u c nofun hlt I2 oS' ⟨oI,eI,cI,dI⟩ (by simp only[bf,hb,Pz,if_false];exact hx) ru⟩
theorem jd8(bt:Nat->Nat->Bool)(hh:X.A.handled=ae){s:ao}{Q:VK}{E:k7g}(I0:Inv X pins σ H s)(hl:SqL X.K H l xs)(hne:0<xs.length)(cmp:jfq X pins σ H xs bt)
  (hQ:∀x,xs[bf bt (xs.length-1)]?=a8 x->Q x H):ax (aC X.prog X.w) X.A (call (.builtin "min") [.ref l]) (EP X pins σ Q) E s:=by
 have hname:(toString "min" ++ toString ".loop":String) = "min.loop":=by decide
 obtain⟨its0,rv0,p0,_⟩:=I0.list hl;refine call_function_tree PySem.F.kind_min PySem.F.plain_min PySem.F.entry_min (PySem.F.args_min1 _) ?_;show ax _ X.A.in1 (Builtin.Builtins.bindParams "min" ["key","default"] 0 ⟨[],[]⟩ >>= _) _ _ s;refine af (wpAny_of_eq (show Builtin.Builtins.bindParams "min" ["key","default"] 0 ⟨[],[]⟩=pure [ae,ae]from rfl) ?_);refine af (aw ?_);refine af (bx p0.isList ?_);refine af (wpAny_newList ?_ (Pj _));rw[hname];generalize hA:s.heap.push { cls:=.type "list_iterator",data:=.fields #[.ref l,.int 0 0] }=h1;have z1:h1.objs.size=s.heap.objs.size+1:=by rw[<-hA];exact size_push' ..
 have gI:(h1.push (f6 "list" #[] 0)).get? s.heap.objs.size=a8 { cls:=.type "list_iterator",data:=.fields #[.ref l,.int 0 0] }:=by rw[<-hA];exact xg _ (X7 _ rfl)
 have gS:(h1.push (f6 "list" #[] 0)).get? h1.objs.size=a8 (f6 "list" #[] 0):=X7 _ rfl;have I1:Inv X pins σ H { s with heap:=h1.push (f6 "list" #[] 0) }:=I0.kept (t':=s.toks) λb o e=>xg _ (by rw[<-hA];exact xg _ e);have fI:Ja X pins H s.heap.objs.size:=I0.fpOk (xx _) (I0.hok.fresh (xx _));have fS:Ja X pins H h1.objs.size:=I0.fpOk (by rw[z1];exact Pu _) (I0.hok.fresh (by rw[z1];exact Pu _));have hSI:h1.objs.size≠s.heap.objs.size:=by rw[z1];exact Pn (bX _)
 have fp:∀b∈[h1.objs.size,s.heap.objs.size],Ja X pins H b:=λb hb=>by
  rcases xu.mp hb with e|hb
  .subst e;exact fS
  .rw[xj.mp hb];exact fI
 refine aw ⟨dP t7 _,?_⟩;obtain⟨its,rv,p,_⟩:=I1.list hl;have hlen:=rv.length;have hx0:xs[0]?=a8 xs[0]:=by simp[hne]
 obtain⟨v,hv,rv1⟩:=rv.get hx0;refine cy dy ?_;rw[bO t7 _];show ax _ X.A.in1 (gi (.ref _) >>= _) _ _ _;refine af (aX gS rfl ?_);show ax _ X.A.in1 (tryCatch (dO (.ref s.heap.objs.size)) _ >>= _) _ _ _;refine af (eS (dZ (i:=0) ⟨_,gI,rfl,rfl⟩ p.isList (x:=v) (by simpa using hv) λh' it' sb=>?_));have I2:Inv X pins σ H { s with heap:=h' }:=I1.chg (ch:=[h1.objs.size,s.heap.objs.size]) fp λb o hb e=>(sb.2 b (λz=>hb (by simp[z]))).trans e;have oS':h'.get? h1.objs.size=a8 (f6 "list" #[] 0):=(sb.2 _ hSI).trans gS;obtain⟨oI,eI,cI,dI⟩:=id it';have s1:=bG h' h1.objs.size (cY λ_=>#[v,v]);obtain⟨c2,hc2⟩:∃c2,(h'.update h1.objs.size (cY λ_=>#[v,v])).get? h1.objs.size=a8 (f6 "list" #[v,v] c2):=⟨_,l6 oS' λ_=>#[v,v]⟩
 show ax _ X.A.in1 (updateSeq h1.objs.size (λ_=>#[v,v]) >>= _) _ _ _;refine af ?_;refine gC oS' rfl ?_;rw[hname];exact aw ⟨dP t7 _,jaa bt hh hl hSI fS fI cmp (λx u s' hx ru I=>⟨x,H,I,ru,hQ x hx⟩) _ 0 _ _ v c2 rfl hne
  (I2.chg (ch:=[h1.objs.size,s.heap.objs.size]) fp λb o hb e=>(s1.2 b (λz=>hb (by simp[z]))).trans e) hc2 ⟨oI,(s1.2 _ hSI.symm).trans eI,cI,dI⟩ hx0 rv1⟩
end
noncomputable def Jz(l:List (List Int))(i j:Nat):Bool:=HT.lexLt (l.getD i []) (l.getD j [])
noncomputable def dval(kvs:List (aq×Int))(k:aq):Option Int:=(kvs.find? λp=>decide (p.1=k)).map λp=>p.2
section
variable{X:Cx}{ρ:Rho}{a b e k:ar}{rest:List aN}{P:Po}{kvs:List (aq×Int)}{z:aq}{n:Int}{i j:Nat}{nx ny:aq}{pos pos' p p1 p2 p3 p4 p5 p6 p7 p8:aM}{td ty tv:TE}{o value:ar}
theorem j4d (hu:X.A.units+100<aS):MtR X "list.index" (λx vs H Q=>∃t xs ds d y k,x=.ref t/\vs=[y]/\SqL X.K H t xs/\j4 X.K H ds xs/\Enc X.K H d y/\D.depL ds<=97/\d.dep<10000/\ixD d ds=a8 k/\Q (.int (k:Nat)) H):=by
 rintro pins s σ H x vs v us Q I rx rv ⟨t,xs,ds,d,y,k,e,e',sq,l,en,hd,nd,hk,q⟩;subst e e';cases rx;obtain⟨u,eu,ru⟩:=rv.one;subst eu;obtain⟨its,ri,⟨⟨cl,dd,da,sl⟩,n,h1,h2,h4,h3⟩,hz0⟩:=I.list sq;have h2:cl=.type "list":=h2;have h3:da=.seq its.toArray n:=h3;subst h2 h3;obtain⟨z,hz,ez,fz⟩:=Es hk;have ll:=l.length;have rl:=ri.length;have hks:k<its.toArray.size:=by have:=(xr.mp hz).1;simp;omega
 have at_:∀(j:Nat)(h:j<its.toArray.size)(z:D),ds[j]?=a8 z->eqW X H d its.toArray[j]=deq z d:=λj h z hz=>by
  obtain⟨x,hx,ex⟩:=l.get hz;obtain⟨w,hw,rw⟩:=ri.get hx;have g1:its.toArray[j]=w:=by simp at h ⊢;rw[kh (by simpa using h)]at hw;exact aB hw
  have:=D.depL_le hz;rw[g1];exact N8 I nofun ex rw
 have hn:=Ur;have hks':k<its.length:=by simpa using hks
 refine cb gZ ⟨_,h1,rfl⟩ F.entry_list_index (F.args_list_index_2 _ _) (SeqAt.list_indexAt t its.toArray n dd sl u (eqW X H d) k hks nofun (by rw[at_ k hks z hz];exact ez) (λj h hj=>?_))
  ⟨h1,λy hy=>Uq (n:=97) I en ru nd (by show X.A.units+1+97<aS;omega) hd l ri y (by simpa using hy),⟨.int _,H,I.tok _,⟨_,rfl⟩,q⟩⟩
 have hlt:j<ds.length:=by simp at h;omega
 rw[at_ j h ds[j] (kh hlt)];exact fz j _ hj (kh hlt)
theorem DE.indexL {ds:List D} {d:D} {k':Nat} (hu:X.A.units+100<aS) (ha:DT X ρ a (.lst ds)) (hb:DT X ρ b d) (hd:D.depL ds<=97) (nd:d.dep<10000) (hk:ixD d ds=a8 k') (hbase:bh a "index" X.env (aE a X.env)=aE a X.env)
  (hfew:((aR p2 (ah [b] X.env)).all (λx=>!x.1)&&(cS p2 (bH [] X.env)).all (λx=>x.1.isSome)
   && decide (([b]:List ar).length+([]:List bg).length+(if ([]:List bg).isEmpty then 0 else 1)<30))=aa) (hline:(p1.endLine==p2.line)=aa)
  (hs:ah [b] X.env=(a9,aE b X.env)::ah [] X.env):DE X ρ (.Call (.Attribute a "index" p1) [b] [] p2) (.int (k':Nat)):=λσ H Q R q =>
 (Bq d8 gZ PySem.F.type_list_index (j4d hu) peS (jc peS jx hs) hbase hfew hline hs rfl).to (ha σ H _ R λv H1 g1 ⟨t,xs,e,sq,l⟩=>⟨by rw[e];exact .inl ⟨rfl,xs,sq⟩,hb σ H1 _ (R.grow g1) λu H2 g2 e2 =>
  ⟨t,xs,ds,d,u,k',e,rfl,g2.seq sq,l.mono g2,e2,hd,nd,hk,q _ H2 (g1.trans g2) rfl⟩⟩)
end
section
variable{X:Cx}{ρ:Rho}{a e:ar}{es:List ar}{x:aq}{d:D}{p p1 p2 pos:aM}{y:aq}{ds:List D}
theorem Bb{M:gX}{A:aG}{E:k7g}{s:ao}{env:cT}{value:ar}{pos:aM}{Q:k7g}
  (h:ax M A (aE value env) (λv s₁=>ax M A (pyReprObj v) (λr s₂=>ax M A (formatField r eC) Q E s₂) E s₁) E s) :
  ax M A (aE (.FormattedValue value 114 ae pos) env) Q E s:=by
 rw[arm_eval_FormattedValue];refine af (bo h (λv s₁ h₁=>?_) λ_ _ x=>x);refine af (i5 ?_);show ax _ _ (do let v' <-gL [v] (pyReprObj v);formatField v' eC) Q E s₁;exact af (cO h₁)
theorem DE.fmtR(ha:DT X ρ e (.str y))(hy:(cG y).length<=av):DE X ρ (.FormattedValue e 114 ae pos) (.str (cG y)):=λσ H Q R q pins s I=>by
 refine Bb (thn (ha σ H (λv H1=>v=.str y/\j0 H H1) R (λv H1 g e=>⟨e,g⟩) pins s I) λu s1 ⟨v,H1,I1,r,ev,g⟩=>?_);subst ev;obtain⟨t,rfl⟩:=(show ∃t,u=bj y t from r)
 refine wpAny_pyReprObj_gives (fD s1 y t) F.slot_str_repr F.entry_str_repr (F.args_str_repr_1 _) (gives_str_repr y t) ?_ rfl hy;exact l7 (λt' tk=>⟨.str (cG y),H1,I1.un (t':=tk) Un.refl I1.hok,⟨_,rfl⟩,q _ H1 g rfl⟩) hy
theorem Ue.grow{σ:St}{H H':Hp}(k:Ue X σ H x)(g:j0 H H'):Ue X σ H' x:=λpins H2 s' e C I g2 hC Fe=>k pins H2 s' e C I (g.trans g2) hC Fe
theorem DXA.head(ha:DX X ρ a x)(hs:ah (a::es) X.env=(a9,aE a X.env)::ah es X.env):DXA X ρ (a::es) x:=λσ H Q R k =>(jc peS paS hs).to (ha σ H _ R k)
theorem DXA.tail(ha:DT X ρ a d)(h:DXA X ρ es x)(hs:ah (a::es) X.env=(a9,aE a X.env)::ah es X.env):DXA X ρ (a::es) x:=λσ H Q R k =>(jc peS paS hs).to (ha σ H _ R λv H1 g _=>h σ H1 _ (R.grow g) (k.grow g))
theorem DX.args {f:aq} (ha:DXA X ρ (e::es) x) (hg:Gl X f) (hdb:(f==k7j)=a9) {fa:ai} (hfa:X.mg f=a8 (.ref fa)) (hk:W.keepIn X.K (.ref fa)=aa)
  (he:ah (e::es) X.env=(a9,aE e X.env)::ah es X.env) (hpl:(aR pos (ah es X.env)).any (·.1)=a9):DX X ρ (.Call (.Name f p) (e::es) [] pos) x:=λσ H Q R k pins s I=>by
 refine aU (Ut I hg hfa ?_ hdb);exact W.callWith_K (h₀:=X.base) I.ok.mod.kin hk (thn (ha σ H (λ_ _=>False) R k pos pins s I) λus s1 ⟨vs,H1,I1,r,z⟩=>z.elim) he hpl
end
noncomputable def Zc:List Int->Int
 |[]=>0
 |a::r=>r.foldl max a
theorem Cw:∀(r:List Int)(a:Int),r.foldl max a∈a::r/\∀b∈a::r,b<=r.foldl max a
 |[],a=>⟨xj.mpr rfl,λb hb=>by rw[xj.mp hb];exact dr _⟩
 |c::r,a=>by
  rw[T7];obtain⟨h1,h2⟩:=Cw r (max a c);refine⟨?_,λb hb=>?_⟩
  .rcases xu.mp h1 with z|z
   .rw[z];by_cases q:a<=c
    .rw[Int.max_eq_right q];exact xm _ X3
    .rw[Int.max_eq_left nofun];exact X3
   .exact xm _ (xm _ z)
  .have l:=h2 (max a c) X3;rcases xu.mp hb with z|z
   .rw[z];omega
   .rcases xu.mp z with z|z
    .rw[z];omega
    .exact h2 b (xm _ z)
theorem Oh{ns:List Int}(h:ns≠[]):Zc ns∈ns/\∀b∈ns,b<=Zc ns:=by
 cases ns with
 |nil=>exact absurd rfl h
 |cons a r=>exact Cw r a
theorem jac{ns:List Int}{M:Int}(h1:M∈ns)(h2:∀a∈ns,a<=M):Zc ns=M:=by
 have hn:ns≠[]:=λe=>by rw[e]at h1;exact nomatch h1
 obtain⟨a,b⟩:=Oh hn;have:=h2 _ a;have:=b _ h1;omega
noncomputable def Jw(ns:List Int):Int:=-Zc (ns.map λn=>-n)
theorem Og{ns:List Int}(h:ns≠[]):Jw ns∈ns/\∀b∈ns,Jw ns<=b:=by
 obtain⟨h1,h2⟩:=Oh (ns:=ns.map λn=>-n) (by simpa using h);obtain⟨a,ha,e⟩:=Xk.mp h1;unfold Jw;refine⟨?_,λb hb=>?_⟩
 .rw[<-e,Int.neg_neg];exact ha
 .have:=h2 _ (Xk.mpr ⟨b,hb,rfl⟩);omega
theorem jab{ns:List Int}{M:Int}(h1:M∈ns)(h2:∀a∈ns,M<=a):Jw ns=M:=by
 obtain⟨a,b⟩:=Og (ns:=ns) λe=>by rw[e]at h1;exact nomatch h1
 have:=h2 _ a;have:=b _ h1;omega
section
variable{X:Cx}{ρ:Rho}{a b e:ar}{es:List ar}{x y:aq}{d:D}{i j:Int}{p p1 p2 p3 p4 pk pos:aM}{ds:List D}
theorem j83{pins:k7h}{s:ao}{σ:St}{H:Hp}{l:ai}{ns:List Int}(I:Inv X pins σ H s)(sq:SqL X.K H l (ns.map V.int))(hne:ns≠[]):∃zs,s.heap.IsList l (eU zs)/\0<zs.size/\zs.size=ns.length/\∀i,i<zs.size->gx zs i=ns.getD i 0:=by
 obtain⟨its,rv,pl,_⟩:=I.list sq;have hl:its.length=ns.length:=by rw[<-rv.length,km]
 have val:∀(i:Nat)(v:aj),its[i]?=a8 v->∃t,v=br (ns.getD i 0) t:=by
  intro i v hv;have hi:i<its.length:=(xr.mp hv).1;have hi':i<ns.length:=by omega
  obtain⟨w1,hw,rw1⟩:=rv.get (x:=.int (ns.getD i 0)) (i:=i) (by rw[xq,kh hi',kj,kh hi'];rfl);rw[hw]at hv;cases hv;exact rw1
 have hall:AllInts its.toArray:=by intro v hv;obtain⟨i,hi,e⟩:=List.mem_iff_getElem.mp (show v∈its by simpa using hv);obtain⟨t,e'⟩:=val i v (by rw[kh hi,e]);exact⟨_,t,e'⟩
 obtain⟨zs,hz⟩:=hall.items;have pl':=pl.isList;rw[hz]at pl';have hsz:0<zs.size:=by
  have:its.toArray.size=(eU zs).size:=by rw[hz]
  have h1:0<ns.length:=List.length_pos_iff.mpr hne;simp[eU]at this;omega
 have hns:∀i,i<zs.size->gx zs i=ns.getD i 0:=by
  intro i hi;obtain⟨v1,e1⟩:∃v,(eU zs)[i]?=a8 v:=⟨_,Array.getElem?_eq_getElem (by simpa [eU]using hi)⟩
  obtain⟨t,ht⟩:=iS e1;rw[<-hz]at e1;obtain⟨t',ht'⟩:=val i _ (by simpa using e1);rw[ht]at ht';exact(Value.int.inj ht').1
 have len:zs.size=ns.length:=by
  have:its.toArray.size=(eU zs).size:=by rw[hz]
  simp[eU]at this;omega
 exact⟨zs,pl',hsz,len,hns⟩
theorem Lg (hc:X.calm=aa):Jp X (.builtin "max") (λxs H Q=>∃(l:ai)(ns:List Int),xs=[.ref l]/\SqL X.K H l (ns.map V.int)/\ns≠[]/\Q (.int (Zc ns)) H):=by
 rintro pins s σ H xs us Q I r ⟨l,ns,e,sq,hne,q⟩;subst e;obtain⟨u,eu,ru⟩:=vals1 r;subst eu;cases ru;obtain⟨zs,pl',hsz,len,hns⟩:=j83 I sq hne;refine max_intList (I.ok.hd hc) pl' hsz λv h' tk hv hk=>?_;obtain⟨t,rfl⟩:=iS hv;obtain⟨h1,h2⟩:=argBest_gt (gx zs) (zs.size-1);have hM:Zc ns=gx zs (bf (λi j=>decide (gx zs i>gx zs j)) (zs.size-1)):=by
  refine jac ?_ λc hc=>?_
  .rw[hns _ nofun];rw[kj,kh nofun];exact Ph _
  .obtain⟨k,hk,rfl⟩:=List.mem_iff_getElem.mp hc;have:=h2 k nofun
   rw[hns k nofun,kj,kh hk]at this;exact this
 rw[hM]at q;exact⟨.int _,H,I.kept hk,⟨t,rfl⟩,q⟩
theorem j5a (hc:X.calm=aa):Jp X (.builtin "min") (λxs H Q=>∃(l:ai)(ns:List Int),xs=[.ref l]/\SqL X.K H l (ns.map V.int)/\ns≠[]/\Q (.int (Jw ns)) H):=by
 rintro pins s σ H xs us Q I r ⟨l,ns,e,sq,hne,q⟩;subst e;obtain⟨u,eu,ru⟩:=vals1 r;subst eu;cases ru;obtain⟨zs,pl',hsz,len,hns⟩:=j83 I sq hne;refine min_intList (I.ok.hd hc) pl' hsz λv h' tk hv hk=>?_;obtain⟨t,rfl⟩:=iS hv;obtain⟨h1,h2⟩:=argBest_lt (gx zs) (zs.size-1);have hM:Jw ns=gx zs (bf (λi j=>decide (gx zs i<gx zs j)) (zs.size-1)):=by
  refine jab ?_ λc hc=>?_
  .rw[hns _ nofun];rw[kj,kh nofun];exact Ph _
  .obtain⟨k,hk,rfl⟩:=List.mem_iff_getElem.mp hc;have:=h2 k nofun
   rw[hns k nofun,kj,kh hk]at this;exact this
 rw[hM]at q;exact⟨.int _,H,I.kept hk,⟨t,rfl⟩,q⟩
theorem DE.max2 (ha:DT X ρ a (.int i)) (hb:DT X ρ b (.int j)) (hm:X.mg "max" = ae) (hc:X.calm=aa) (hg:Gl X "max") (hs:ah [a,b] X.env=(a9,aE a X.env)::ah [b] X.env) (hs2:ah [b] X.env=(a9,aE b X.env)::ah [] X.env)
  (hpl:(aR pos (ah [b] X.env)).any (·.1)=a9):DE X ρ (.Call (.Name "max" p) [a,b] [] pos) (.int (if j>i then j else i)):=λσ H Q R q =>
 (v8 (j5c hc) hg hm lI (jc peS (jc peS jx hs2) hs) (by decide) (by decide) hs hpl).to (ha σ H _ R λv H1 g1 e1=>hb σ H1 _ (R.grow g1) λu H2 g2 e2=>⟨i,j,by rw[show v=.int i from e1,show u=.int j from e2],q _ H2 (g1.trans g2) rfl⟩)
theorem DE.maxL {ns:List Int} (ha:DT X ρ a (.lst (ns.map D.int))) (hn:ns≠[]) (hm:X.mg "max" = ae) (hc:X.calm=aa) (hg:Gl X "max") (hs:ah [a] X.env=[(a9,aE a X.env)]):DE X ρ (.Call (.Name "max" p) [a] [] pos) (.int (Zc ns)):=λσ H Q R q =>(v8 (Lg hc) hg hm lI (jc peS jx hs) (by decide) (by decide) hs).to (ha σ H _ R λv H1 g1 ⟨l,xs,e,sq,en⟩=>⟨l,ns,by rw[e],by rw[zp en]at sq;exact sq,hn,q _ H1 g1 rfl⟩)
theorem DE.minL {ns:List Int} (ha:DT X ρ a (.lst (ns.map D.int))) (hn:ns≠[]) (hm:X.mg "min" = ae) (hc:X.calm=aa) (hg:Gl X "min") (hs:ah [a] X.env=[(a9,aE a X.env)]):DE X ρ (.Call (.Name "min" p) [a] [] pos) (.int (Jw ns)):=λσ H Q R q =>(v8 (j5a hc) hg hm lH (jc peS jx hs) (by decide) (by decide) hs).to (ha σ H _ R λv H1 g1 ⟨l,xs,e,sq,en⟩=>⟨l,ns,by rw[e],by rw[zp en]at sq;exact sq,hn,q _ H1 g1 rfl⟩)
end
noncomputable def ch1(c:Nat):aq:=⟨#[c]⟩
noncomputable def chs(y:aq):List D:=y.cps.toList.map λc=>D.str (ch1 c)
noncomputable def ascii(y:aq):Bool:=y.cps.all (· < 128)
noncomputable def Its(y:aq):It:=⟨λi _=>i<y.cps.size,λi H x H'=>H'=H/\∃c,y.cps[i]?=a8 c/\x=.str (ch1 c),λi _=>y.cps.size<=i⟩
theorem j5o {P:ay} {w:aD} {K:k7f} {tg:ar} (it:ai) (y:aq) (t:i8):Turn P w K tg (Its y) [it] it (λi h=>h.IsStrIter it "str_ascii_iterator" y t i) where
 mem:=by simp
 obj:=λi h st b hb=>by
  have e:b=it:=by simpa using hb
  subst e;obtain⟨o,e,c,d⟩:=st;exact⟨o,e,λv z=>by rw[d]at z;cases z⟩
 keep:=λi h h' st k=>let ⟨o,e,r⟩:=st;⟨o,k it (by simp) o e,r⟩
 item:=by intro X hP hw hK hc i pins s σ H E I hf st hg;subst hP hw hK;obtain⟨f0,f1,f2,f3,f4,f5⟩:=hf it (by simp);have W:=Walks.strAscii (prog:=X.prog) (w:=X.w) (I.ok.hd hc) it y t;refine W.item i s _ _ hg st λv h' tk hv st' kk=>?_;obtain⟨c,u,hcu,rfl⟩:=hv;have I1:Inv X pins σ H { s with heap:=h',toks:=tk }:=I.turned (λb o hb e=>kk b o (by simpa using hb) e) f0 f1 f3 f4 f5;obtain⟨o,e,oc,d⟩:=id st';exact⟨_,rfl,Kf (s:={ s with heap:=h',toks:=tk }) e oc d (by decide) ⟨.str (ch1 c),H,I1,⟨u,rfl⟩,⟨rfl,c,hcu,rfl⟩,st',λb hb=>(hf b hb).1⟩⟩
 done:=by intro X hP hw hK hc i pins s σ H E I hf st hg;subst hP hw hK;obtain⟨f0,f1,f2,f3,f4,f5⟩:=hf it (by simp);exact wpAny_pyNext_ascii_end (I.ok.hd hc) st (by have:y.cps.size<=i:=hg;simp;omega) λh' eb=>⟨rfl,I.turned (t':=s.toks) (λb o hb e=>eb b o hb e) f0 f1 f3 f4 f5⟩
 self:=λ_ _ _ _ _ st h=>wpAny_pyIter_striter_ascii st h
section
variable{X:Cx}{ρ:Rho}{a b c e tg it:ar}{y z:aq}{i j k:Int}{p p2 pos:aM}
theorem j6s{K:k7f}{F:Hp}(y:aq):Zz K F (Its y) (chs y):=λi H A g hA=>by
 have hl:(chs y).length=y.cps.size:=by unfold chs;rw[km,cK]
 rw[hl];refine⟨λh=>h,λh=>h,λx H' ⟨e,c,hc,ex⟩=>?_⟩;subst e ex;refine⟨j0.refl _,λd hd=>?_⟩;unfold chs at hd;rw[xq,Array.getElem?_toList,hc]at hd;cases hd;rfl
theorem DI.str(h:DT X ρ it (.str y))(ha:ascii y=aa):DI X ρ tg it (chs y):=λσ H R r q pins s I=>by
 refine thn (h σ H (λv H1=>v=.str y/\j0 H H1) r (λv H1 g e=>⟨e,g⟩) pins s I) λv s1 ⟨x,H1,I1,r1,ex,g1⟩=>?_;subst ex;obtain⟨t,rfl⟩:=(show ∃t,v=bj y t from r1)
 refine wpAny_pyIter_ascii ha ?_;refine⟨s1.heap.objs.size,[s1.heap.objs.size],_,_,H1,rfl,I1.kept (t':=s1.toks) λb o e=>xg _ e,j5o _ y t,⟨_,X7 _ rfl,rfl,rfl⟩,λb hb=>?_,q _ H1 g1 (j6s y)⟩;have e:b=s1.heap.objs.size:=by simpa using hb
 subst e;exact I1.fpOk (xx _) (I1.hok.fresh (xx _))
noncomputable def inS(y z:aq):Bool:=!(fj z y 0 z.length 1).isEmpty
theorem Cp:OpR X (aT .Gt) (λx y H Q=>∃i j,x=.str i/\y=.str j/\Q (.bl (decide (j.cps.toList<i.cps.toList))) H):=by intro pins s σ H x y v u Q I rx ry h;obtain⟨i,j,rfl,rfl,q⟩:=h;obtain⟨t,rfl⟩:=rx;obtain⟨t',rfl⟩:=ry;exact P.gt_str (jr I q rfl)
theorem DE.ltS(ha:DT X ρ a (.str y))(hb:DT X ρ b (.str z)):DE X ρ (.Compare a [.Lt] [b] pos) (.bl (decide (y.cps.toList<z.cps.toList))):=λσ H Q R q =>(J3 Ck peS peS (qz _)).to (ha σ H _ R λv H1 g1 e1=>hb σ H1 _ (R.grow g1) λu H2 g2 e2=>⟨y,z,e1,e2,q _ H2 (g1.trans g2) rfl⟩)
theorem DB.ltS(ha:DT X ρ a (.str y))(hb:DT X ρ b (.str z)):DB X ρ (.Compare a [.Lt] [b] pos) (decide (y.cps.toList<z.cps.toList)):=λσ H Q R q =>(J2 Ck peS peS (qz _)).to (ha σ H _ R λv H1 g1 e1=>hb σ H1 _ (R.grow g1) λu H2 g2 e2=>⟨y,z,e1,e2,_,rfl,q H2 (g1.trans g2)⟩)
theorem DE.gtS(ha:DT X ρ a (.str y))(hb:DT X ρ b (.str z)):DE X ρ (.Compare a [.Gt] [b] pos) (.bl (decide (z.cps.toList<y.cps.toList))):=λσ H Q R q =>(J3 Cp peS peS (qz _)).to (ha σ H _ R λv H1 g1 e1=>hb σ H1 _ (R.grow g1) λu H2 g2 e2=>⟨y,z,e1,e2,q _ H2 (g1.trans g2) rfl⟩)
theorem DB.gtS(ha:DT X ρ a (.str y))(hb:DT X ρ b (.str z)):DB X ρ (.Compare a [.Gt] [b] pos) (decide (z.cps.toList<y.cps.toList)):=λσ H Q R q =>(J2 Cp peS peS (qz _)).to (ha σ H _ R λv H1 g1 e1=>hb σ H1 _ (R.grow g1) λu H2 g2 e2=>⟨y,z,e1,e2,_,rfl,q H2 (g1.trans g2)⟩)
theorem DE.inS(ha:DT X ρ a (.str y))(hb:DT X ρ b (.str z))(hm:aH .In b=a9):DE X ρ (.Compare a [.In] [b] pos) (.bl (inS y z)):=λσ H Q R q =>(J3 Cm peS peS hm).to (ha σ H _ R λv H1 g1 e1=>hb σ H1 _ (R.grow g1) λu H2 g2 e2=>⟨y,z,e1,e2,q _ H2 (g1.trans g2) rfl⟩)
theorem DB.inS(ha:DT X ρ a (.str y))(hb:DT X ρ b (.str z))(hm:aH .In b=a9):DB X ρ (.Compare a [.In] [b] pos) (inS y z):=λσ H Q R q =>(J2 Cm peS peS hm).to (ha σ H _ R λv H1 g1 e1=>hb σ H1 _ (R.grow g1) λu H2 g2 e2=>⟨y,z,e1,e2,_,rfl,q H2 (g1.trans g2)⟩)
theorem mulOk_of(h1:1<=k/\k<=1000)(h2:y.length<=1000):MulOk y k:=by
 refine⟨?_,λ_ _=>?_,λ_ _=>?_⟩
 .simp;omega
 .have:(1000:Int)<=(2^63-1)/k:=Int.le_ediv_of_mul_le nofun nofun
  omega
 .have hk:k.toNat<=1000:=by omega
  have:y.length*k.toNat<=1000000:=Nat.mul_le_mul h2 hk;unfold cA;rw[cn];simp;omega
theorem j2k:OpR X (aY .Mult) (λx y H Q=>∃i k,x=.str i/\y=.int k/\MulOk i k/\Q (.str (iu i k)) H):=by intro pins s σ H x y v u Q I rx ry h;obtain⟨i,k,rfl,rfl,hm,q⟩:=h;obtain⟨t,rfl⟩:=rx;obtain⟨t',rfl⟩:=ry;exact SB.mul hm λt' tk=>⟨.str _,H,I.un (t':=tk) Un.refl I.hok,⟨_,rfl⟩,q⟩
theorem DE.mulS(ha:DT X ρ a (.str y))(hb:DT X ρ b (.int k))(h1:1<=k/\k<=1000)(h2:y.length<=1000):DE X ρ (.BinOp a .Mult b pos) (.str (iu y k)):=λσ H Q R q =>(Yq j2k peS peS).to (ha σ H _ R λv H1 g1 e1=>hb σ H1 _ (R.grow g1) λu H2 g2 e2=>⟨y,k,e1,e2,mulOk_of h1 h2,q _ H2 (g1.trans g2) rfl⟩)
end
section
variable{X:Cx}{ρ ρ1 ρ':Rho}{e c:ar}{ss sa sb:List aN}{is is2:List Nat}{d:D}{i:Nat}{x:aq}{p pos:aM}
def DMs(X:Cx)(ρ ρ':Rho)(is:List Nat)(ss:List aN):Prop:=∀(σ:St)(H:Hp)(E:Ends),Rep X.K ρ σ H->(∀σ' H',j0 H H'->Rep X.K ρ' σ' H'->(∀j,j∉is->σ'[j]?=σ[j]?)->E.nx σ' H')->V2 X ss E σ H
def DMt(X:Cx)(ρ ρ':Rho)(is:List Nat)(full tl:List aN):Prop:=∀(σ:St)(H:Hp)(E:Ends),Rep X.K ρ σ H->(∀σ' H',j0 H H'->Rep X.K ρ' σ' H'->(∀j,j∉is->σ'[j]?=σ[j]?)->V2 X tl E σ' H')->V2 X full E σ H
variable{tl:List aN}
end
def Kp(ρ ρ':Rho)(is:List Nat):Prop:=(∀b∈owns ρ',b∈owns ρ)/\∀j,j∉is->ρ'[j]?=ρ[j]?
noncomputable def pcF(b:ai)(k:Int):List (aq×V):=[("standing",.ref b),("spot",.int k)]
structure Ob where
 a:ai
 dx:ai
 b:ai
structure PcAt(C:ai)(H:Hp)(o:Ob)(ls:List aq)(k:Nat):Prop where
 ob:H o.a=a8 (.ins C o.dx (pcF o.b (k:Int)))
 li:H o.b=a8 (.lst (ls.map V.str))
def But(a:ai)(H H':Hp):Prop:=∀b o,b≠a->H b=a8 o->H' b=a8 o
structure PcT(K:k7f)(mg:k7i)(C fA fT fL fI:ai):Prop where
 cl:Cls K C
 nS:M3 K C "standing"
 nP:M3 K C "spot"
 mA:Meth K C "ahead" fA
 mT:Meth K C "taken" fT
 mL:Meth K C "all_taken" fL
 mkI:Mk K C fI
 mgC:mg "Pieces" = a8 (.ref C)
 len:mg "len" = ae
def j9b(C:ai):Sp:=λvs H Q _=>∃(o:Ob)(ls:List aq)(k:Nat),vs=[.ref o.a]/\PcAt C H o ls k/\Q (.str (ls.getD k "")) H
def j99(C:ai):Sp:=λvs H Q _=>∃(o:Ob)(ls:List aq)(k:Nat),vs=[.ref o.a]/\PcAt C H o ls k/\∀H',PcAt C H' o ls (k+1)->But o.a H H'->Q (.str (ls.getD k "")) H'
def j86(C:ai):Sp:=λvs H Q _=>∃(o:Ob)(ls:List aq)(k:Nat),vs=[.ref o.a]/\PcAt C H o ls k/\Q (.bl (decide (ls.length<=k))) H
section
variable{P:ay}{w:aD}{K:k7f}{mg:k7i}{base:aF}{C fA fT fL fI f:ai}{fd fdA:aL}{st:aN}
noncomputable def allB(p1 p2 p3 p4 p5 p6 p7 p8:aM):List aN:=[.Return (a8 (.Compare (.Attribute (.Name "self" p1) "spot" p2) [.GtE] [.Call (.Name "len" p3) [.Attribute (.Name "self" p4) "standing" p5] [] p6] p7)) p8]
end
section
variable{P:ay}{w:aD}{K:k7f}{mg:k7i}{base:aF}{C fA fT fL fI f:ai}{fd:aL}{st:aN}
def j9a(C:ai):Sp:=λvs H Q _=>∃(a dx:ai)(t:aq),vs=[.ref a,.str t]/\H a=a8 (.ins C dx [])/\t.length<=100000/\(lJ t " ").length<=av/\∀b H',H b=ae->PcAt C H' ⟨a,dx,b⟩ (lJ t " ") 0->But a H H'->Q .non H'
end
structure Pm where
 nx:Rho->Nat->Prop
 rt:D->Nat->Prop
 ex:aq->Rho->Prop
def FrM(a:ai)(ρ ρ':Rho)(H H':Hp):Prop:=j0 (del H (a::owns ρ)) (del H' (a::owns ρ'))
structure EndsM(X:Cx)(C:ai)(o:Ob)(ls:List aq)(ρ:Rho)(H:Hp)(P:Pm)(E:Ends):Prop where
 nx:∀ρ' k' σ' H',P.nx ρ' k'->Rep X.K ρ' σ' H'->PcAt C (del H' (owns ρ')) o ls k'->FrM o.a ρ ρ' H H'->E.nx σ' H'
 rt:∀d k' v H',P.rt d k'->PcAt C H' o ls k'->j0 (del H (o.a::owns ρ)) (del H' [o.a])->Enc X.K H' d v->E.rt v H'
 ex:∀x ρ' σ' H',P.ex x ρ'->Rep X.K ρ' σ' H'->FrM o.a ρ ρ' H H'->Ue X σ' H' x
structure PcX(X:Cx)(C:ai):Prop where
 ex:∃(fA fT fL fI:ai)(dA dT dL dI:aL),PcT X.K X.mg C fA fT fL fI/\(FnOk X.prog X.w X.K X.mg X.base CX0 1 fA dA ["self"] (j9b C)/\Binds X.K dA ["self"] []) /\
  (FnOk X.prog X.w X.K X.mg X.base CX0 2 fT dT ["self"] (j99 C)/\Binds X.K dT ["self"] [])/\(FnOk X.prog X.w X.K X.mg X.base CX0 1 fL dL ["self"] (j86 C)/\Binds X.K dL ["self"] []) /\
  (FnOk X.prog X.w X.K X.mg X.base CX0 1 fI dI ["self","text"] (j9a C)/\Binds X.K dI ["self","text"] [])/\Room 3 X.A
def MSs(X:Cx)(C:ai)(o:Ob)(ls:List aq)(ρ:Rho)(k:Nat)(sts:List aN)(P:Pm):Prop :=
 ∀σ H E,Rep X.K ρ σ H->PcAt C (del H (owns ρ)) o ls k->EndsM X C o ls ρ H P E->V2 X sts E σ H
section
variable{X:Cx}{C:ai}{o:Ob}{ls:List aq}{ρ ρ1:Rho}{H H1 H':Hp}{P:Pm}{E:Ends}{k k':Nat}{st:aN}{sa rest:List aN}{σ:St}{pi i:Nat}{ob:d7}{x y f:aq}{p py pf p1 p2 p3 p4 pos:aM}{es:List ar}{ds:List D}{d:D}
theorem Rep.set_rf{K:k7f}{a:ai}{o:d7}(R:Rep K ρ σ H):Rep K (ρ.set i (.raw a o rfN)) (σ.set i (a8 (.ref a))) H:=by
 have sub:(owns (ρ.set i (.raw a o rfN))).Sublist (owns ρ):=jg rfl;have g:j0 (del H (owns ρ)) (del H (owns (ρ.set i (.raw a o rfN)))):=vo λb hb=>sub.subset hb;refine⟨by simp[R.len],λj d' h=>?_,λj a ds h=>?_,sub.nodup R.nd,λj a' o' x' h=>?_,R.tb⟩
 .rcases getElem?_set_of h with ⟨rfl,z,hl⟩|⟨n,h⟩
  .cases z
  .obtain⟨u,q,h⟩:=R.val j d' h;exact⟨u,by rw[qb n];exact q,h.mono g⟩
 .rcases getElem?_set_of h with ⟨rfl,z,_⟩|⟨n,h⟩
  .cases z
  .obtain⟨q,xs,h,l⟩:=R.own j a ds h;exact⟨by rw[qb n];exact q,xs,h,l.mono g⟩
 .rcases getElem?_set_of h with ⟨rfl,z,hl⟩|⟨n,h⟩
  .cases z;exact⟨Jq (by rw[R.len];exact hl),.inl rfl⟩
  .obtain⟨q,h⟩:=R.raw j a' o' x' h;exact⟨by rw[qb n];exact q,h.mono g⟩
noncomputable def dOb:d7:={ cls:=.none }
end
noncomputable def startM(N:List aq)(a:ai)(ds:List D):Rho:=(q9 N (.int 0::ds)).set 0 (.raw a dOb rfN)
theorem j2g{K:k7f}{H:Hp}{N:List aq}{ds:List D}{ws:List V}{a:ai}(tb:TabOk K H)(h:j4 K H ds ws):Rep K (startM N a ds) (start N (.ref a::ws)) H :=
 (V7 (N:=N) tb (show j4 K H (.int 0::ds) (.int 0::ws) from⟨.int 0,ws,rfl,rfl,h⟩)).set_rf (i:=0) (a:=a) (o:=dOb)
theorem j0o(N:List aq)(a:ai)(ds:List D):owns (startM N a ds)=[]:=by have h:(owns (startM N a ds)).Sublist (owns (q9 N (.int 0::ds))):=jg rfl;rw[Qq]at h;exact List.sublist_nil.mp h
section
variable{X:Cx}{ρ:Rho}{a:ar}{p p1 p2 pos:aM}
theorem ints_of:∀(ns:List Int)(its:List aj),Vals (ns.map V.int) its->cH its ns
 |[],_,.nil=>.nil
 |_::ns,_,.cons ⟨_,e⟩ t=>by subst e;exact .cons _ _ (ints_of ns _ t)
noncomputable def ddI(ns:List Int):List Int:=firstMet (λi=>ns.getD i 0) ns.length
theorem DE.lenSetI {ns:List Int} (ha:DT X ρ a (.lst (ns.map D.int))) (hc:X.calm=aa) (room:ns.length+1<4096) (hm:X.mg "len" = ae) (hm2:X.mg "set" = ae) (hg:Gl X "len") (hg2:Gl X "set") (hs:ah [a] X.env=[(a9,aE a X.env)])
  (hs2:ah [.Call (.Name "set" p1) [a] [] p2] X.env=[(a9,aE (.Call (.Name "set" p1) [a] [] p2) X.env)]):DE X ρ (.Call (.Name "len" p) [.Call (.Name "set" p1) [a] [] p2] [] pos) (.int (ddI ns).length):=λσ H Q R q pins s I=>by
 have inner:ax (aC X.prog X.w) X.A (aE (.Call (.Name "set" p1) [a] [] p2) X.env) (λu s2=>∃(S:ai)(H1:Hp),u=.ref S/\Inv X pins σ H1 s2/\j0 H H1/\s2.heap.SetOf (f9 X.prog X.w) S (λk'=>(ddI ns).any (· == k')) (ddI ns).length) X.xe s:=by
  refine aU (Qc I hg2 hm2 boot_set ?_);refine callWith_type1 (thn ((jc (es:=[]) peS jx hs).to (σ:=σ) (H:=H) (Q:=λvs H1=>∃(l:ai)(xs:List V),vs=[.ref l]/\j0 H H1/\SqL X.K H1 l xs/\j4 X.K H1 (ns.map D.int) xs) (ha σ H _ R λv H1 g ⟨l,xs,e,sq,en⟩=>⟨l,xs,by rw[e],g,sq,en⟩) p2 pins s I) λus s1 ⟨vs,H1,I1,r,l,xs,ev,g,sq,en⟩=>?_) hs rfl;subst ev;obtain⟨u,eu,r1⟩:=vals1 r;subst eu;cases(show u=aQ l from r1);obtain⟨its,rv,pl,_⟩:=I1.list sq;rw[zp en]at rv;have hlen:its.toArray.size=ns.length:=by rw[X4,<-rv.length,km]
  refine call_set_list (ns:=ns) (I1.ok.hd hc) pl.isList ?_ (by rw[hlen];show ns.length+1<4096;exact room) λh' tk full old=>?_
  .exact ints_of ns its rv
  .rw[hlen]at full;exact⟨_,H1,rfl,I1.kept (t':=tk) λb o e=>old b o (xn e) e,g,full⟩
 refine aU (Qc I hg hm cu ?_);refine dF (by rw[hs2];rfl) (cE ?_);show ax _ _ (iy ((a9,aE _ X.env)::aR pos [])) _ _ s;refine eJ (thn inner λu s2 h2=>eQ ?_);obtain⟨S,H1,rfl,I2,g,⟨o,es,ep,t,ho,hex,hd,hel,hmem,hb,hf,hn⟩⟩:=h2;refine call_len_set ho hex hd hf ?_ ?_
 .have:es.size<4096:=hb;omega
 .rw[hn];exact⟨.int _,H1,I2.tok _,⟨_,rfl⟩,q _ H1 g rfl⟩
theorem DO.callT {S:List D->List D->Prop} {x:aq} {e:ar} {es:List ar} {ds l:List D} (c:Cal X x (spF X.K S)) (ha:DTA X ρ (e::es) ds) (hS:S ds l) (hn:qe l=aa) (hg:Gl X x) (hdb:(x==k7j)=a9)
  (he:ah (e::es) X.env=(a9,aE e X.env)::ah es X.env) (hpl:(aR pos (ah es X.env)).any (·.1)=a9):DO X ρ (.Call (.Name x p) (e::es) [] pos) l:=λσ H Q R q=>by
 obtain⟨k,f,fd,ps,F,hr,hm,hk,hb,_⟩:=c.ex;refine(Vy F (hr.mono (Pu _)) hg hm hk hb .nil M7 paS hdb he hpl).to (ha σ H _ R λvs H1 g1 e1=>?_);show spF X.K S (vs++[]) H1 Q E0;rw[Xq];exact⟨[],ds,l,R.tb.mono g1,(λa h=>nomatch h),by rw[qg];exact e1,hS,λa xs H2 g2 n m z=>q a xs H2 (g1.trans g2) (g1.free n) m ((z.mono jm).hide (λc hc=>by
  rcases xu.mp hc with z|z
  .rw[z];exact .inl ⟨xs,m⟩
  .exact .inl ((R.grow (g1.trans g2)).owned c z)) hn)⟩
end
section
variable{X:Cx}{ρ:Rho}{a:ar}{p p1 p2 p3 pos:aM}{y:aq}{i n:Int}
theorem K7:Jp X (.type "int") (λxs H Q=>∃y n,xs=[.str y]/\fU y=a8 n/\y.length<=640/\Q (.int n) H):=by intro pins s σ H xs us Q I r h;obtain⟨y,n,rfl,hn,hl,q⟩:=h;obtain⟨u,rfl,t,rfl⟩:=vals1 r;exact PySem.W.KIN.call_text hn hl ⟨.int n,H,I.tok _,⟨_,rfl⟩,q⟩
theorem DE.intS (ha:DT X ρ a (.str y)) (hn:fU y=a8 n) (hl:y.length<=640) (hm:X.mg "int" = ae) (hg:Gl X "int") (hs:ah [a] X.env=[(a9,aE a X.env)]):DE X ρ (.Call (.Name "int" p) [a] [] pos) (.int n):=λσ H Q R q =>(Ys K7 hg hm boot_int (jc peS jx hs) (by decide) (by decide) hs).to (ha σ H _ R λv H1 g1 e1=>⟨y,n,by rw[show v=.str y from e1],hn,hl,q _ H1 g1 rfl⟩)
end
section
variable{X:Cx}{ρ:Rho}{e:ar}{pos:aM}
noncomputable def tupS(is:List Int):aq:=(PyData.tuple (is.map dC)).shown
theorem Bo{K:k7f}{H:Hp}{h:aF}:∀{is:List Int}{xs:List V}{us:List aj},j4 K H (is.map D.int) xs->Vals xs us->ReadsAll h us (is.map dC) []
 |[],xs,us,en,rv=>by have:xs=[]:=en;subst this;cases rv;exact .nil
 |i::is,xs,us,⟨x,r,e,ex,en⟩,rv=>by
  subst e;have ex:x=.int i:=ex;subst ex;cases rv with
  |cons ru rr =>obtain⟨t,rfl⟩:=ru;exact .cons (as:=[]) (.int i t) (Bo en rr)
theorem Wn:∀{is:List Int},(∀i∈is,i.natAbs.log2<1920)->eD (is.map dC)=aa
 |[],_=>by simp[eD]
 |i::is,h=>by simp[eD,iv,h i (X3 ..),Wn λj hj=>h j (xm _ hj)]
theorem Rg:∀{is:List Int},fi (is.map dC)=0/\eN (is.map dC)=a9
 |[]=>by simp[fi,eN]
 |i::is=>by have:=Rg (is:=is);simp[fi,eN,jB,iJ,this.1,this.2]
theorem DE.fmtT{is:List Int}(hg:X.A.guards=a8 [])(hu:X.A.units+100<aS)(ha:DT X ρ e (.tup (is.map D.int)))(hi:∀i∈is,i.natAbs.log2<1920)(hz:(tupS is).length<=av):DE X ρ (.FormattedValue e (-1) ae pos) (.str (tupS is)):=λσ H Q R q pins s I=>by
 refine f7 (thn (ha σ H (λv H1=>Enc X.K H1 (.tup (is.map D.int)) v/\j0 H H1) R (λv H1 g e=>⟨e,g⟩) pins s I) λu s1 ⟨v,H1,I1,r,ev,g⟩=>?_);obtain⟨a,xs,rfl,sq,en⟩:=ev;cases(show u=aQ a from r);obtain⟨its,rv,⟨o,ho,hoc,m,hod⟩,_⟩:=I1.tuple sq;have rd:Reads s1.heap (.ref a) (.tuple (is.map dC)) []:=.tuple ho hoc hod (by simpa using Bo (h:=s1.heap) en rv);exact formatField_of_reads rd (by rw[iv];exact Wn hi) (λz=>by rw[iJ,Rg.2]at z;cases z) hg (by rw[jB,Rg.1];omega) (λ_ _ z=>z)
  (λh' w tk hk=>⟨.str (tupS is),H1,I1.kept hk,⟨_,rfl⟩,q _ H1 g rfl⟩) hz
end
def jz(K:k7f)(a:ai)(ks:List (List Int))(ns:List Int)(F H:Hp):Prop:=∃(xs:List (List Int×ai×aj)) (ep:Nat),H=upd F a (.dI xs ep)/\F a=ae/\ks=(xs.map λz=>z.1)/\(∀z∈xs,SqT K F z.2.1 (z.1.map V.int))/\Vals (ns.map V.int) (xs.map λz=>z.2.2)
def spD(K:k7f)(S:List (List Int)->List Int->List D->D->List (List Int)->List Int->Prop):Sp:=λvs H Q _=>∃(a:ai)(F:Hp)(ks:List (List Int)) (ns:List Int) (ds:List D) (d:D) (ks':List (List Int)) (ns':List Int) (ws:List V),
 vs=.ref a::ws/\TabOk K F/\jz K a ks ns F H/\j4 K F ds ws/\S ks ns ds d ks' ns'/\∀v F' H',j0 F F'->jz K a ks' ns' F' H'->Enc K F' d v->Q v H'
structure CalD(X:Cx)(x:aq)(S:List (List Int)->List Int->List D->D->List (List Int)->List Int->Prop):Prop where
 ex:∃(k:Nat)(f:ai)(fd:aL)(ps:List aq),FnOk X.prog X.w X.K X.mg X.base CX0 k f fd ps (spD X.K S)/\Room (k+1) X.A/\X.mg x=a8 (.ref f)/\W.keepIn X.K (.ref f)=aa/\Binds X.K fd ps []
def DFx(X:Cx)(ρ:Rho)(x:Nat)(e:ar)(ks:List (List Int))(ns:List Int)(d:D)(ks':List (List Int))(ns':List Int):Prop:=∀σ F H a Q,Rep X.K ρ σ F->σ[x]?=a8 (a8 (.ref a))->jz X.K a ks ns F H ->
 (∀v F' H',j0 F F'->jz X.K a ks' ns' F' H'->Enc X.K F' d v->Q v H')->Jb X e σ H Q
section
variable{X:Cx}{ρ:Rho}{e c:ar}{es:List ar}{d:D}{ds:List D}{σ:St}{F H:Hp}{a:ai}{ks ks':List (List Int)}{ns ns':List Int}{x:Nat}{nx g:aq}{p p1 pos:aM}
theorem j2e{A:List ai}{Q Q':List V->Hp->Prop}(hA:∀a∈A,Hd (H a))(h:Y5 X es σ (del H A) Q')(hq:∀v F,Q' v F->(∀a∈A,F a=ae)->Q v (mrg A H F)):Y5 X es σ H Q :=
 λpos pins s I=>thn (h pos _ s (I.hide hA)) λv s' ⟨x,F,I',r,q⟩=>let ⟨n,I2⟩:=I.unhide hA I';⟨x,_,I2,r,hq x F q n⟩
theorem jz.hd(h:jz X.K a ks ns F H):∀b∈[a],Hd (H b):=λb hb=>by obtain⟨xs,ep,e,_⟩:=h;exact .inr ⟨xs,ep,by rw[xj.mp hb,e];exact jb⟩
theorem jz.del(h:jz X.K a ks ns F H):L2.del H [a]=F:=by obtain⟨xs,ep,e,n,_⟩:=h;rw[e];exact j7d n
theorem jz.mrg{F':Hp}(h:jz X.K a ks ns F H)(g:j0 F F')(n:F' a=ae):jz X.K a ks ns F' (L2.mrg [a] H F'):=by obtain⟨xs,ep,e,_,ek,kt,rv⟩:=h;exact⟨xs,ep,by rw[e];exact ja9 jb,n,ek,λz hz=>g.seqT (kt z hz),rv⟩
theorem jz.same(h:jz X.K a ks ns F H):j0 F H:=by obtain⟨xs,ep,e,n,_⟩:=h;rw[e];exact j8 n
theorem Dj{Q:VK}(R:Rep X.K ρ σ F)(h:jz X.K a ks ns F H)(he:DE X ρ e d)(q:∀v F' H',j0 F F'->jz X.K a ks ns F' H'->Enc X.K (L2.del F' (owns ρ)) d v->Q v H'):Jb X e σ H Q :=
 j2d (A:=[a]) (Q':=λv F'=>j0 F F'/\Enc X.K (L2.del F' (owns ρ)) d v) h.hd (by rw[h.del];exact he σ F _ R λv F' g e=>⟨g,e⟩) λv F' ⟨g,e⟩ n=>q v F' _ g (h.mrg g (n a (by simp))) e
theorem jat{b:Bool}{Q:Bool->Hp->Prop}(R:Rep X.K ρ σ F)(h:jz X.K a ks ns F H)(hc:DB X ρ c b)(q:∀F' H',j0 F F'->jz X.K a ks ns F' H'->Q b H'):Ff X c σ H Q :=
 j2a (A:=[a]) (Q':=λv F'=>j0 F F'/\v=b) h.hd (by rw[h.del];exact hc σ F _ R λF' g=>⟨g,rfl⟩) λv F' ⟨g,e⟩ n=>by subst e;exact q F' _ g (h.mrg g (n a (by simp)))
theorem j1k{Q:List V->Hp->Prop}(R:Rep X.K ρ σ F)(h:jz X.K a ks ns F H)(he:DA X ρ es ds)(q:∀vs F' H',j0 F F'->jz X.K a ks ns F' H'->j4 X.K (L2.del F' (owns ρ)) ds vs->Q vs H'):Y5 X es σ H Q :=
 j2e (A:=[a]) (Q':=λv F'=>j0 F F'/\j4 X.K (L2.del F' (owns ρ)) ds v) h.hd (by rw[h.del];exact he σ F _ R λv F' g e=>⟨g,e⟩) λv F' ⟨g,e⟩ n=>q v F' _ g (h.mrg g (n a (by simp))) e
theorem DFx.call{S:List (List Int)->List Int->List D->D->List (List Int)->List Int->Prop}(cl:CalD X g S)(ha:DA X ρ es ds)(hS:S ks ns ds d ks' ns')(ho:owns ρ=[])
  (hN:X.N[x]?=a8 nx) (hv:Vis X.env.scope nx) (hd:(nx==k7j)=a9) (hcd:(nx==k7k)=a9) (hg:Gl X g) (hdb:(g==k7j)=a9)
  (hs:ah (.Name nx p1::es) X.env=(a9,aE (.Name nx p1) X.env)::ah es X.env) (hpl:(aR pos (ah es X.env)).any (·.1)=a9):DFx X ρ x (.Call (.Name g p) (.Name nx p1::es) [] pos) ks ns d ks' ns':=λσ F H a Q R hσ h q=>by
 obtain⟨n,fa,fd,ps,FN,hr,hm,hkp,hb⟩:=cl.ex;refine(Vy FN (hr.mono (Pu _)) hg hm hkp hb .nil M7 (jc (Jr hN hv hd hcd) paS hs) hdb hs hpl).to ?_;refine⟨_,hσ,j1k R h ha λvs F1 H1 g1 h1 e1=>?_⟩;rw[ho,qg]at e1;exact⟨a,F1,ks,ns,ds,d,ks',ns',vs,by rw[Xq],R.tb.mono g1,h1,e1,hS,λv F' H' g2 h2 ev=>q v F' H' (g1.trans g2) h2 ev⟩
end
section
variable{X:Cx}{pins:k7h}{σ:St}{H2 F2:Hp}{s2:ao}{ρ:Rho}{elt iter:ar}{scope:b8}{pos py:aM}{ds rs:List D}{x j:Nat}{y:aq}{a:ai}{ks:List (List Int)}{ns:List Int}
theorem jb8{J:It}{fp:List ai}{it:ai}{tn:Nat->aF->Prop}(I2:Inv X pins σ H2 s2)(R2:Rep X.K ρ σ F2)(ho:owns ρ=[])(hxs:σ[x]?=a8 (a8 (.ref a)))(hxj:x≠j)(h2:jz X.K a ks ns F2 H2)(T:Turn X.prog X.w X.K (.Name y py) J fp it tn)(st2:tn 0 s2.heap)(f2:∀b∈fp,Ja X pins H2 b)
  (ok:Zz X.K F2 J ds) (hc:X.calm=aa) (hkind:scope.kind=.function) (hok:zq scope X.env X.N [j]=aa) (hj:ρ[j]?=a8 .un) (hsz:ds.length<=av)
  (hG:∀C s H fp pn,PG (cCx X scope C s H fp pn) (.Name y py) (Kg j))
  (W:Nat->List (List Int)->List Int->Prop) (h0:W 0 ks ns)
  (hb:∀C s H fp pn i d ks ns,ds[i]?=a8 d->W i ks ns->∃r ks' ns',DFx (cCx X scope C s H fp pn) (ρ.set j (.val d)) x elt ks ns r ks' ns'/\rs[i]?=a8 r/\W (i+1) ks' ns')
  {E:k7g} {RR:aj->ai->eB->ao->Prop}
  (hRR:∀D C xs F' H' ks' ns' s' m,Inv X pins σ H' s'->j0 F2 F'->F2 D=ae->F' D=a8 (.lst xs)->j4 X.K (del F' [D]) (rs.take ds.length) xs->jz X.K a ks' ns' F' H'->W ds.length ks' ns'->s'.heap.Ns C m->Loose X pins H' C->RR (.ref D) C (.ok .next) s') :
  ax (aC X.prog X.w) X.A (jY []) (λacc s₃=>ax (aC X.prog X.w) X.A (dz scope X.env.globals (qw X.env scope.names []) [] X.env.qual ae .none (a8 X.env)) (λcenv s₄ =>
   bK (aC X.prog X.w) X.A (.compStart (.ListComp elt [⟨.Name y py,iter,[],0⟩] scope pos) 0 (.ref it) acc { cenv with scope:=iA scope X.env }) (RR acc cenv.locals) s₄) E s₃) E s2:=by
 refine thn (j05 (RR:=RR) I2 T st2 f2 hkind hok λC Dd h₁ okc I0 hDd hDlt hD0 old=>?_) λacc s₃ h=>thn h λcenv s₄ h=>h.2;have hDlt:@LT.lt Nat _ Dd C:=hDlt;have pinlt:∀p∈X.pn++pins,p.1<Dd:=λp hp=>by rw[<-hDd];exact xn (I2.pin p hp).1
 have celllt:∀y c,X.env.cells.lookup y=a8 c->c<Dd:=λy c h=>by obtain⟨v,o,e,_⟩:=I2.cell y c h;rw[<-hDd];exact xn e
 have loclt:X.env.locals<Dd:=by rw[<-hDd];exact I2.lt
 have fplt:∀b∈fp,b<Dd:=λb hb=>by obtain⟨o,e,_⟩:=T.obj _ _ st2 b hb;rw[<-hDd];exact xn e
 have fpok:∀{H':Hp},(∀b∈fp,H' b=ae)->∀b∈fp,Ja (cCx X scope C s2 H2 fp (X.pn++pins)) [] H' b:=λ{H'} hn b hb =>⟨hn b hb,(okc.exf b hb).1,okc.exfs b hb,.inl hb,(okc.exf b hb).2,λp hp=>by rw[Xq]at hp;exact(f2 b hb).2.2.2.2.2 p hp⟩
 have hxc:x∉[j]:=λz=>hxj (xj.mp z);have R0:Rep X.K ρ (mask [j] σ) F2:=R2.weaken (U7 _ _) λj' hj'=>Oi λz=>hj' (by rw[xj.mp z];exact hj);have e0:del (upd H2 Dd (.lst [])) [Dd]=H2:=by
  rw[Zw (xj.mpr rfl)]
  funext b
  by_cases z:b∈[Dd]
  .rw[ql z,xj.mp z,hD0]
  .exact j9 z
 have haD:a≠Dd:=λz=>by obtain⟨xs,ep,e,_⟩:=id h2;rw[<-z,e,jb]at hD0;cases hD0
 have F2D:F2 Dd=ae:=by obtain⟨xs,ep,e,_⟩:=id h2;rw[e,je (ba haD)]at hD0;exact hD0
 have loop:∀s₃:ao,s₃={ s2 with heap:=h₁ } ->
   bK (aC X.prog X.w) X.A (.compLoop (.ListComp elt [⟨.Name y py,iter,[],0⟩] scope pos) 0 (.ref it) (.ref Dd) (iT scope (aP (C+1) scope.names (qw X.env scope.names [])) C X.env)) (RR (.ref Dd) C) s₃:=by
  rintro s₃ rfl;refine Ru (λn s=>∃i σ' H' F' ys ks' ns',Inv (cCx X scope C s2 H2 fp (X.pn++pins)) [] σ' H' s/\tn i s.heap/\(∀b∈fp,H' b=ae)/\i<=ds.length/\n=ds.length-i/\Rep X.K ρ σ' F'/\σ'[x]?=a8 (a8 (.ref a))/\jz X.K a ks' ns' F' (del H' [Dd])/\j0 F2 F'/\H' Dd=a8 (.lst ys) /\
   j4 X.K F' (rs.take i) ys/\ys.length=i/\W i ks' ns') ?_ ds.length
   ⟨0,mask [j] σ,upd H2 Dd (.lst []),F2,[],ks,ns,I0,T.keep _ _ _ st2 (λb _ o e=>old b o e),λb hb=>by rw[je (X8 (fplt b hb))];exact(f2 b hb).1,Pj _,rfl,R0,by rw[Oi hxc];exact hxs,by rw[e0];exact h2,j0.refl _,jb,rfl,rfl,h0⟩
  rintro n s3 ⟨i,σ3,H3,F3,ys,ks3,ns3,I3,st3,fr3,hle,rfl,R3,hx3,h3,g3,m3,en3,hyl,w3⟩;have e3:del H3 [Dd,a]=F3:=by rw[show del H3 [Dd,a]=del (del H3 [Dd]) [a]from by rw[Jv];rfl];exact h3.del
  have a3:∃xs ep,H3 a=a8 (.dI xs ep)/\ks3=(xs.map λz=>z.1)/\(∀z∈xs,SqT X.K F3 z.2.1 (z.1.map V.int))/\Vals (ns3.map V.int) (xs.map λz=>z.2.2):=by
   obtain⟨xs,ep,e,_,q1,q2,q3⟩:=id h3;refine⟨xs,ep,?_,q1,q2,q3⟩;have:del H3 [Dd] a=a8 (.dI xs ep):=by rw[e];exact jb
   exact(of_del this).2
  obtain⟨xs3,ep3,ea3,q1,q2,q3⟩:=a3;obtain⟨go,stop,yld⟩:=ok i H3 [Dd,a] (by rw[e3];exact g3) λb hb=>by
   rcases xu.mp hb with e|hb
   .rw[e,m3];simp
   .rw[xj.mp hb,ea3];simp
  by_cases hlt:i<ds.length
  .refine thn (T.item (cCx X scope C s2 H2 fp (X.pn++pins)) rfl rfl rfl hc i [] s3 σ3 H3 (λ_ _=>False) I3 (fpok fr3) st3 (go hlt)) λr s4 ⟨u,hr,h4⟩=>?_;subst hr;refine thn h4 λ_ s5 ⟨v0,H5,I5,r5,y5,st5,fr5⟩=>?_;obtain⟨g5,en5⟩:=yld v0 H5 y5;have hd:ds[i]?=a8 ds[i]:=kh hlt;obtain⟨r0,ks8,ns8,hE,hr0,w8⟩:=hb C s2 H2 fp (X.pn++pins) i ds[i] ks3 ns3 hd w3;have m5:H5 Dd=a8 (.lst ys):=g5 _ _ m3;have hA:∀b∈[Dd],Hd (H5 b):=λb hb=>.inl ⟨ys,by rw[xj.mp hb];exact m5⟩;have I5p:=I5.pinned (fpok fr5) (T.obj _ _ st5);have I5h:=I5p.hide hA;have s35:j0 F3 (del H5 [Dd,a]):=by rw[<-e3];exact jd g5
   have na5:del H5 [Dd,a] a=ae:=ql (by simp);have h5:jz X.K a ks3 ns3 (del H5 [Dd,a]) (del H5 [Dd]):=by
    refine⟨xs3,ep3,?_,na5,q1,λz hz=>s35.seqT (q2 z hz),q3⟩;have:del H5 [Dd] a=a8 (.dI xs3 ep3):=by rw[j9 (by simpa using haD)];exact g5 _ _ ea3
    rw[show del H5 [Dd,a]=del (del H5 [Dd]) [a]from by rw[Jv];rfl];exact Nv this
   have R5:Rep X.K ρ σ3 (del H5 [Dd,a]):=R3.grow s35;have en5':Enc X.K (del (del H5 [Dd,a]) (owns ρ)) ds[i] v0:=by rw[ho,qg];exact en5 _ hd
   refine thn (hG C s2 H2 fp (X.pn++pins) _ s5 σ3 (del H5 [Dd]) v0 u (λσ6 F6=>σ6=σ3.set j (a8 v0)/\F6=del H5 [Dd]) I5h r5 ⟨rfl,rfl⟩) λ_ s6 ⟨σ6,F6,I6,e6,e6'⟩=>?_;subst e6 e6';have R6:Rep X.K (ρ.set j (.val ds[i])) (σ3.set j (a8 v0)) (del H5 [Dd,a]):=R5.set_val en5';have hx6:(σ3.set j (a8 v0))[x]?=a8 (a8 (.ref a)):=by rw[qb (ba hxj)];exact hx3
   rw[g4];refine aw ?_;rw[if_pos rfl];have ij:∀{F:Hp}{s':ao},Inv (cCx X scope C s2 H2 fp (X.pn++pins)) ([]++V9 fp s5.heap) (σ3.set j (a8 v0)) F s'->Inv (cCx X scope C s2 H2 fp (X.pn++pins)) [] (σ3.set j (a8 v0)) F s'/\tn (i+1) s'.heap/\∀b∈fp,F b=ae:=λ{F s'} I=>by refine⟨I.unpinned,T.keep _ _ _ st5 λb hb o e=>(I.pin (b,o) (Xa _ (Xa _ (J7 hb e)))).1,λb hb=>?_⟩;obtain⟨o,e,d⟩:=T.obj _ _ st5 b hb;exact(I.pin (b,o) (Xa _ (Xa _ (J7 hb e)))).2.1
   refine thn (hE (σ3.set j (a8 v0)) (del H5 [Dd,a]) (del H5 [Dd]) a (λv H8=>∃F8,j0 (del H5 [Dd,a]) F8/\jz X.K a ks8 ns8 F8 H8/\Enc X.K F8 r0 v) R6 hx6 h5 (λv F8 H8 g8 h8 e8=>⟨F8,g8,h8,e8⟩) _ s6 I6) λy8 s8 ⟨v,H8,I8,r8,F8,g8,h8,e8⟩=>?_;obtain⟨hF,I8'⟩:=I5p.unhide hA I8;have hlen:ys.length<av:=by omega
   refine thn (Ww _ s8 (σ3.set j (a8 v0)) (mrg [Dd] H5 H8) (.ref Dd) [v] (.ref Dd) [y8] (λ_ H9=>H9=upd (mrg [Dd] H5 H8) Dd (.lst (ys++[v]))) I8' rfl (.cons r8 .nil)
    ⟨Dd,ys,v,rfl,rfl,by rw[vz (xj.mpr rfl)];exact m5,hlen,rfl⟩) λ_ s9 ⟨_,H9,I9,_,e9⟩=>?_
   subst e9;obtain⟨I10,st10,fr10⟩:=ij I9;have ed:del (upd (mrg [Dd] H5 H8) Dd (.lst (ys++[v]))) [Dd]=H8:=by rw[Zw (xj.mpr rfl),Zx hF]
   have R8:Rep X.K ρ (σ3.set j (a8 v0)) F8:=Wk.set (d:=ds[i]) hj _ _ _ (R6.grow g8);refine⟨ds.length-(i+1),by omega,i+1,σ3.set j (a8 v0),_,F8,ys++[v],ks8,ns8,I10,st10,fr10,hlt,rfl,R8,hx6,by rw[ed];exact h8,g3.trans (s35.trans g8),jb,?_,by simp[hyl],w8⟩;rw[show rs.take (i+1)=rs.take i++[r0]from by rw[t8,hr0];rfl];exact(en3.mono (s35.trans g8)).append (.one e8)
  .have hi:i=ds.length:=by omega
   subst hi;refine thn (T.done (cCx X scope C s2 H2 fp (X.pn++pins)) rfl rfl rfl hc ds.length [] s3 σ3 H3 (λ_ _=>False) I3 (fpok fr3) st3 (stop (xx _))) λr s4 ⟨hr,I4⟩=>?_;subst hr;obtain⟨m,hm,_⟩:=I4.loc;have e4:del (del H3 [a]) [Dd]=F3:=by
    rw[<-e3,Jv]
    funext b
    unfold del;by_cases z1:b=Dd<;>by_cases z2:b=a<;>simp[z1,z2]
   have s4':j0 F3 (del H3 [a]):=by rw[<-e4];exact jm
   refine hRR Dd C ys (del H3 [a]) H3 ks3 ns3 s4 m ?_ (g3.trans s4') F2D (by rw[j9 (by simpa using ba haD)];exact m3) (by rw[e4];exact en3) ⟨xs3,ep3,Nv ea3,ql (by simp),q1,λz hz=>s4'.seqT (q2 z hz),q3⟩ w3 hm ⟨I4.free,Pn (Xy loclt hDlt),?_,λx c h=>X8 (Xy (celllt x c h) hDlt),λp hp=>X8 (Xy (pinlt p hp) hDlt)⟩
   .exact I2.call' (ch:=fp) I4.os I4.base I4.hok I4.bare λb hb=>⟨(f2 b hb).2.2.2.1,(f2 b hb).2.1,(f2 b hb).2.2.2.2.1,(f2 b hb).2.2.2.2.2⟩
   .have:=I2.sz;omega
 exact loop _ rfl
end
def DFl(X:Cx)(ρ:Rho)(x:Nat)(e:ar)(ks:List (List Int))(ns:List Int)(rs:List D)(ks':List (List Int))(ns':List Int):Prop:=∀σ F H a Q,Rep X.K ρ σ F->σ[x]?=a8 (a8 (.ref a))->jz X.K a ks ns F H ->
 (∀D xs F' H',j0 F F'->F' D=a8 (.lst xs)->j4 X.K F' rs xs->jz X.K a ks' ns' F' H'->Q (.ref D) H')->Jb X e σ H Q
section
variable{X:Cx}{ρ:Rho}{e e1 e2 c elt iter:ar}{es:List ar}{d d1 d2:D}{ds rs:List D}{σ:St}{F H:Hp}{a:ai}{ks ks':List (List Int)}{ns ns':List Int}{x j:Nat}{nx g y:aq}{p p1 pos py:aM}{scope:b8}
theorem jz.put{K:k7f}{b:ai}{o:HO}(h:jz K a ks ns F H)(n:H b=ae):jz K a ks ns (upd F b o) (upd H b o):=by
 obtain⟨xs,ep,e,na,ek,kt,rv⟩:=h;subst e;have nb:b≠a:=λz=>by rw[z,jb]at n;cases n
 have fb:F b=ae:=by rw[je nb]at n;exact n
 refine⟨xs,ep,?_,by rw[je (ba nb)];exact na,ek,λz hz=>(j8 fb).seqT (kt z hz),rv⟩
 funext z
 by_cases z1:z=b
 .subst z1;rw[jb,je nb,jb]
 .rw[je z1];by_cases z2:z=a
  .subst z2;rw[jb,jb]
  .rw[je z2,je z2,je z1]
theorem jz.free{K:k7f}{b:ai}(h:jz K a ks ns F H)(n:H b=ae):F b=ae:=by
 obtain⟨xs,ep,e,na,_⟩:=h;subst e;have nb:b≠a:=λz=>by rw[z,jb]at n;cases n
 rw[je nb]at n;exact n
theorem DFx.tup2{n:Nat}(h1:DFx X ρ x e1 ks ns d1 ks' ns')(h2:DE X ρ e2 d2)(ho:owns ρ=[])(hs1:ah [e1,e2] X.env=(a9,aE e1 X.env)::ah [e2] X.env)(hs2:ah [e2] X.env=(a9,aE e2 X.env)::ah [] X.env):DFx X ρ x (.Tuple [e1,e2] n pos) ks ns (.tup [d1,d2]) ks' ns':=λσ F H a Q R hx h q=>by
 refine(j40 (jc peS (jc peS jx hs2) hs1)).to ?_;refine h1 σ F H a _ R hx h λv1 F1 H1 g1 k1 q1=>Dj (R.grow g1) k1 h2 λv2 F2 H2 g2 k2 q2=>⟨by show 2<=av;decide,λb hb=>?_⟩
 rw[ho,qg]at q2;have fb:=k2.free hb;have up:j0 F2 (upd F2 b (.tup [v1,v2])):=j8 fb;exact q _ _ _ (g1.trans (g2.trans up)) (k2.put hb) ⟨b,[v1,v2],rfl,.inl (.inl jb),_,_,rfl,(q1.mono g2).mono up,_,_,rfl,q2.mono up,rfl⟩
theorem DFx.ite{b:Bool}(hc:DB X ρ c b)(h1:b=aa->DE X ρ e1 d/\ks'=ks/\ns'=ns)(h2:b=a9->DFx X ρ x e2 ks ns d ks' ns')(ho:owns ρ=[]):DFx X ρ x (.IfExp c e1 e2 pos) ks ns d ks' ns':=λσ F H a Q R hx h q=>by
 refine(Iw ptS peS peS).to (jat R h hc λF1 H1 g1 k1=>?_);cases b with
 |true =>obtain⟨z,e1,e2⟩:=h1 rfl;subst e1 e2;rw[if_pos rfl];exact Dj (R.grow g1) k1 z λv F2 H2 g2 k2 q2=>q v F2 H2 (g1.trans g2) k2 (by rw[ho,qg]at q2;exact q2)
 |false =>rw[if_neg xf];exact h2 rfl σ F1 H1 a Q (R.grow g1) hx k1 λv F2 H2 g2=>q v F2 H2 (g1.trans g2)
theorem DFx.addC{i k:Int}{n:Nat}(h2:DFx X ρ x e2 ks ns (.int k) ks' ns'):DFx X ρ x (.BinOp (.Constant (.int i) n p) .Add e2 pos) ks ns (.int (i+k)) ks' ns':=λσ F H a Q R hx h q=>by refine(jcr Iv peS).to ?_;exact h2 σ F H a _ R hx h λv F2 H2 g2 k2 q2=>⟨i,k,rfl,q2,q _ F2 H2 g2 k2 rfl⟩
theorem DFx.ixC{i:Int}{n:Nat}(h1:DFx X ρ x e1 ks ns (.tup ds) ks' ns')(h:L2.atI ds i=a8 d)(hs:Jf (.Constant (.int i) n p)):DFx X ρ x (.Subscript e1 (.Constant (.int i) n p) pos) ks ns d ks' ns':=λσ F H a Q R hx h0 q =>
 (Yr R9 peS Iv hs).to (h1 σ F H a _ R hx h0 λv F1 H1 g1 k1 ⟨l,xs,e,sq,en⟩=>by
  obtain⟨y,hy,ey⟩:=en.atI h
  exact⟨l,xs,i,y,e,rfl,k1.same.seqT sq,hy,q y F1 H1 g1 k1 ey⟩)
theorem DFl.comp(hi:DI X ρ (.Name y py) iter ds)(ho:owns ρ=[])(hxj:x≠j)(hj:ρ[j]?=a8 .un)(hsz:ds.length<=av)(hl:rs.length=ds.length)
  (hG:∀C s H fp pn,PG (cCx X scope C s H fp pn) (.Name y py) (Kg j)) (W:Nat->List (List Int)->List Int->Prop) (h0:W 0 ks ns) (hW:∀ks2 ns2,W ds.length ks2 ns2->ks2=ks'/\ns2=ns')
  (hb:∀C s H fp pn i d ks ns,ds[i]?=a8 d->W i ks ns->∃r ks' ns',DFx (cCx X scope C s H fp pn) (ρ.set j (.val d)) x elt ks ns r ks' ns'/\rs[i]?=a8 r/\W (i+1) ks' ns')
  (hc:X.calm=aa) (hkind:scope.kind=.function) (hok:zq scope X.env X.N [j]=aa) (hs:∀x,aK iter X.env x=pure x):DFl X ρ x (.ListComp elt [⟨.Name y py,iter,[],0⟩] scope pos) ks ns rs ks' ns':=λσ F H a Q R hx h q pins s I=>by
 rw[lM];have hi':Fj X (.Name y py) iter σ H λJ H'=>∃F',j0 F F'/\Zz X.K F' J ds/\jz X.K a ks ns F' H':=j2c (A:=[a]) (R':=λJ F'=>j0 F F'/\Zz X.K F' J ds) h.hd (by rw[h.del];exact hi σ F _ R λJ F' g ok=>⟨g,by rw[ho,qg]at ok;exact ok⟩) λJ F' ⟨g,ok⟩ n=>⟨F',g,ok,h.mrg g (n a (by simp))⟩
 refine dN (use:=ae) rfl hs (Wa (Uc hok)) hkind (Yh hok) (thn (hi' pins s I) λv s1 h1=>thn h1 λitv s2 h2=>?_);obtain⟨it,fp,tn,J,H2,e,I2,T,st2,f2,F2,g2,ok,k2⟩:=h2;subst e;refine jb8 (RR:=λacc C=>lC (aC X.prog X.w) X.A X.xe ae (EP X pins σ Q) acc C) (rs:=rs) I2 (R.grow g2) ho hx hxj k2 T st2 f2 ok hc hkind hok hj hsz hG W h0 hb ?_;intro D C xs F' H' ks2 ns2 s' m I' gg n m' en k' w hm L;obtain⟨e1,e2⟩:=hW _ _ w;subst e1 e2;rw[<-hl,T4]at en;exact⟨m,hm,λh' sb=>⟨.ref D,H',I'.loose L sb,rfl,q D xs F' H' (g2.trans gg) m' (en.mono jm) k'⟩⟩
theorem DFx.maxL {ms:List Int} (ha:DFl X ρ x e ks ns (ms.map D.int) ks' ns') (hn:ms≠[]) (hm:X.mg "max" = ae) (hc:X.calm=aa) (hg:Gl X "max") (hs:ah [e] X.env=[(a9,aE e X.env)]):DFx X ρ x (.Call (.Name "max" p) [e] [] pos) ks ns (.int (Zc ms)) ks' ns':=λσ F H a Q R hx h q =>(v8 (Lg hc) hg hm lI (jc peS jx hs) (by decide) (by decide) hs).to (ha σ F H a _ R hx h λD xs F1 H1 g1 m en k1=>⟨D,ms,rfl,by rw[zp en]at m;exact .inl (.inl (k1.same _ _ m)),hn,q _ F1 H1 g1 k1 rfl⟩)
theorem DFx.minT {l:List (List Int)} {k:List Int} (hu:X.A.units+100<aS) (hcalm:X.calm=aa) (hm:X.mg "min" = ae) (hg:Gl X "min") (ha:DFl X ρ x e ks ns (l.map λk=>D.tup (k.map D.int)) ks' ns') (hk:l[bf (Jz l) (l.length-1)]?=a8 k) (hs:ah [e] X.env=[(a9,aE e X.env)]) :
  DFx X ρ x (.Call (.Name "min" p) [e] [] pos) ks ns (.tup (k.map D.int)) ks' ns':=λσ F H a Q R hx h q pins s I=>by
 refine aU (Qc I hg hm lH ?_ (by decide) (by decide));refine callWith_builtin1 (thn ((jc (es:=[]) peS jx hs).to (σ:=σ) (H:=H) (Q:=λvs H1=>∃b0 xs F1,vs=[.ref b0]/\j0 F F1/\F1 b0=a8 (.lst xs)/\j4 X.K F1 (l.map λk=>D.tup (k.map D.int)) xs/\jz X.K a ks' ns' F1 H1) (ha σ F H a _ R hx h λD xs F1 H1 g1 m en k1=>⟨D,xs,F1,rfl,g1,m,en,k1⟩) pos pins s I) λus s1 ⟨vs,H1,I1,r1,b,xs,F1,ev,g1,m,en,k1⟩=>?_) hs rfl;subst ev;obtain⟨u,eu,ru⟩:=r1.one;subst eu;cases(show u=aQ b from ru);have sq:SqL X.K H1 b xs:=.inl (.inl (k1.same _ _ m));have hlen:xs.length=l.length:=by rw[en.length,km]
 have hin:=(xr.mp hk).1;have item:∀{i:Nat}{x:V},xs[i]?=a8 x->∃t,x=.ref t/\SqT X.K H1 t ((l.getD i []).map V.int)/\Enc X.K F1 (.tup ((l.getD i []).map D.int)) x:=λ{i x} hx=>by
  obtain⟨d,hd,ed⟩:=en.get' hx;rw[xq]at hd;obtain⟨k',hk',ek⟩:=Xm.mp hd;subst ek;have eg:l.getD i []=k':=by rw[kj,hk'];rfl
  rw[eg];obtain⟨t,ys,e1,sq',l'⟩:=id ed;rw[zp l']at sq';exact⟨t,e1,k1.same.seqT sq',ed⟩
 refine jd8 (Jz l) (I.ok.hd hcalm) I1 sq nofun (λi j x y u v s2 Q2 E2 hx hy rx ry I2 hq=>?_) λx hx=>?_
 .obtain⟨t,e1,s1',_⟩:=item hx;obtain⟨t',e2,s2',_⟩:=item hy;subst e1 e2;cases rx;cases ry;obtain⟨its,r1,p1,_⟩:=I2.tuple s1';obtain⟨its2,r2,p2,_⟩:=I2.tuple s2';exact HT.lt_tupInts (A:=X.A.in1) p1 p2 (intsAre_of r1) (intsAre_of r2) (by show X.A.units+1<aS;omega) hq
 .rw[hlen]at hx;obtain⟨t,e1,_,ed⟩:=item hx;have eg:l.getD (bf (Jz l) (l.length-1)) []=k:=by rw[kj,hk];rfl
  rw[eg]at ed;exact q x F1 H1 g1 k1 ed
end
section
variable{X:Cx}{ρ:Rho}{a b:ar}{k:List Int}{ks:List (List Int)}{ds:List D}{pos:aM}
theorem Ci(hu:X.A.units+100<aS):OpR X (aT .NotIn) (λx y H Q=>∃(t:ai)(k:List Int)(d:ai)(xs:List (List Int×ai×aj)) (ep:Nat),x=.ref t/\SqT X.K H t (k.map V.int)/\y=.ref d/\H d=a8 (.dI xs ep) /\
  (∀x∈xs,SqT X.K H x.2.1 (x.1.map V.int))/\Q (.bl (!(xs.map λx=>x.1).contains k)) H):=by
 intro pins s σ H x y v u Q I rx ry ⟨t,k,d,xs,ep,ex,sq,ey,hx,kt,q⟩;subst ex ey;cases rx;cases ry;obtain⟨lo,_,dd⟩:=Do I hx kt;refine wpAny_notIn_heap (fF nofun) (Ma I sq) lo dd ?_;rw[Lq];exact⟨.bl _,H,I.tok _,rfl,q⟩
theorem DE.notinT(hu:X.A.units+100<aS)(ha:DT X ρ a (.tup (k.map D.int)))(hb:DT X ρ b (.dct ks ds))(hm:aH .NotIn b=a9):DE X ρ (.Compare a [.NotIn] [b] pos) (.bl (!ks.contains k)):=λσ H Q R q =>
 (J3 (Ci hu) peS peS hm).to (ha σ H _ R λv H1 g1 ⟨t,ys,e,sq,l⟩=>hb σ H1 _ (R.grow g1) λu H2 g2 ⟨d,xs,ep,vs,e',hx,ek,kt,rv,l'⟩ =>
  ⟨t,k,d,xs,ep,e,by rw[zp l]at sq;exact g2.seqT sq,e',hx,kt,q _ H2 (g1.trans g2) (by rw[ek];rfl)⟩)
theorem DB.notinT(hu:X.A.units+100<aS)(ha:DT X ρ a (.tup (k.map D.int)))(hb:DT X ρ b (.dct ks ds))(hm:aH .NotIn b=a9):DB X ρ (.Compare a [.NotIn] [b] pos) (!ks.contains k):=λσ H Q R q =>
 (J2 (Ci hu) peS peS hm).to (ha σ H _ R λv H1 g1 ⟨t,ys,e,sq,l⟩=>hb σ H1 _ (R.grow g1) λu H2 g2 ⟨d,xs,ep,vs,e',hx,ek,kt,rv,l'⟩ =>
  ⟨t,k,d,xs,ep,e,by rw[zp l]at sq;exact g2.seqT sq,e',hx,kt,_,rfl,by rw[<-ek];exact q H2 (g1.trans g2)⟩)
end
def DDb(X:Cx)(ρ:Rho)(sts:List aN)(a:ai)(ks:List (List Int))(ns:List Int)(d:D)(ks':List (List Int))(ns':List Int):Prop:=∀σ F H E,Rep X.K ρ σ F->jz X.K a ks ns F H ->
 (∀v F' H',j0 F F'->jz X.K a ks' ns' F' H'->Enc X.K F' d v->E.rt v H')->V2 X sts E σ H
section
variable{X:Cx}{ρ ρ1:Rho}{e c call:ar}{st:aN}{rest:List aN}{d:D}{σ:St}{F H:Hp}{a:ai}{ks ks' ks1:List (List Int)}{ns ns' ns1:List Int}{i t s:Nat}{nx nt nw:aq}
theorem j2b{A:List ai}{D D':Ends}(hA:∀a∈A,Hd (H a))(h:Fg X st D' σ (del H A))(hn:∀σ' F,D'.nx σ' F->(∀a∈A,F a=ae)->D.nx σ' (mrg A H F))(hr:∀v F,¬D'.rt v F)(hb:∀v F,¬D'.bk v F)(hc:∀v F,¬D'.ct v F):Fg X st D σ H :=
 λpins s I=>thn (h _ s (I.hide hA)) λf s' q=>by
  cases f with
  |next=>obtain⟨σ',F,I',q⟩:=q;obtain⟨n,I2⟩:=I.unhide hA I';exact⟨σ',_,I2,hn σ' F q n⟩
  |brk=>obtain⟨σ',F,_,q⟩:=q;exact absurd q (hb _ _)
  |cont=>obtain⟨σ',F,_,q⟩:=q;exact absurd q (hc _ _)
  |ret u=>obtain⟨v,σ',F,F2,_,_,_,q⟩:=q;exact absurd q (hr _ _)
theorem DDb.then{N:Rho->Prop}(ho:owns ρ=[])(h1:DS X ρ st { nx:=N,rt:=λ_=>False })(h2:∀ρ1,N ρ1->DDb X ρ1 rest a ks ns d ks' ns'):DDb X ρ (st::rest) a ks ns d ks' ns':=λσ F H E R h q=>by
 refine(Z1 psS Vj).to (j2b (A:=[a]) (D':={ nx:=λσ' F'=>∃ρ',N ρ'/\Rep X.K ρ' σ' F'/\j0 F F',rt:=λ_ _=>False }) h.hd (by
  rw[h.del]
  exact h1 σ F _ R ⟨λρ' σ' F' n R' f=>⟨ρ',n,R',λb o e=>(of_del (f b o (by rw[ho,qg];exact e))).2⟩,λ_ _ _ n=>n.elim,λ_ _ _ n=>n.elim,λ_ _ _ n=>n.elim,λ_ _ _ _ n=>n.elim⟩)
  (λσ' F' ⟨ρ',n,R',g⟩ na=>?_) (λ_ _ z=>z) (λ_ _ z=>z) (λ_ _ z=>z))
 exact h2 ρ' n σ' F' _ E R' (h.mrg g (na a (by simp))) λv F2 H2 g2=>q v F2 H2 (g.trans g2)
theorem DDb.freeze{b:ai}{l:List D}(h:ρ[i]?=a8 (.own b l))(h2:DDb X (ρ.set i (.val (.lst l))) rest a ks ns d ks' ns'):DDb X ρ rest a ks ns d ks' ns':=λσ F H E R=>h2 σ F H E (R.freeze h)
theorem DDb.ret{pos:aM}(h0:∃ob,ρ[0]?=a8 (.raw a ob rfN))(he:DFx X ρ 0 e ks ns d ks' ns'):DDb X ρ (.Return (a8 e) pos::rest) a ks ns d ks' ns':=λσ F H E R h q=>by obtain⟨ob,h0⟩:=h0;exact(Z1 (V8 peS) Vj).to (he σ F H a _ R (R.raw 0 a ob rfN h0).1 h q)
theorem Io(R:Rep X.K ρ σ F)(h0:∃ob,ρ[0]?=a8 (.raw a ob rfN))(ho:owns ρ=[])(h:jz X.K a ks ns F H):Rep X.K (ρ.set 0 (.val (.dct ks (ns.map D.int)))) σ H:=by
 obtain⟨ob,h0⟩:=h0;have hσ:=(R.raw 0 a ob rfN h0).1;have:=(R.grow h.same).set_val (i:=0) (v:=.ref a) (d:=.dct ks (ns.map D.int)) (by
  rw[ho,qg]
  obtain⟨xs,ep,e,n,ek,kt,rv⟩:=id h
  exact⟨a,xs,ep,ns.map V.int,rfl,by rw[e];exact jb,ek,λz hz=>h.same.seqT (kt z hz),rv,j4.ints ns⟩)
 rw[Ih hσ]at this;exact this
theorem jz.grown(h:jz X.K a ks ns F H){H':Hp}(g:j0 H H'):jz X.K a ks ns (L2.del H' [a]) H'/\j0 F (L2.del H' [a]):=by
 obtain⟨xs,ep,e,n,ek,kt,rv⟩:=id h;have ha:H' a=a8 (.dI xs ep):=g _ _ (by rw[e];exact jb);have s:j0 F (L2.del H' [a]):=by rw[<-h.del];exact jd g
 exact⟨⟨xs,ep,Nv ha,ql (by simp),ek,λz hz=>s.seqT (kt z hz),rv⟩,s⟩
theorem Cz{k:List Int}:∀{ks:List (List Int)} {ns:List Int} {d:D},Q0 ks (ns.map D.int) k=a8 d->∃m,d=.int m
 |[],_,_,h=>by cases h
 |_::_,[],_,h=>by cases h
 |k'::ks,n::ns,d,h=>by
  rw[X5,Q0]at h;split at h
  .cases h;exact⟨_,rfl⟩
  .exact Cz h
theorem Nf{k:List Int}{n:Int}:∀{ks:List (List Int)} {ns:List Int},ks.length=ns.length->ks.contains k=a9->Q0 (ks++[k]) ((ns++[n]).map D.int) k=a8 (.int n)
 |[],[],_,_=>by show(if k=k then _ else _)=_;rw[if_pos rfl]
 |[],_::_,h,_=>by cases h
 |_::_,[],h,_=>by cases h
 |k'::ks,m::ns,h,hc=>by
  rw[cX,Bool.or_eq_false_iff]at hc;have hk:¬k'=k:=λz=>by subst z;simp at hc
  show(if k'=k then _ else _)=_;rw[if_neg hk];exact Nf (by simpa using h) hc.2
theorem jz.len(h:jz X.K a ks ns F H):ks.length=ns.length:=by obtain⟨xs,ep,_,_,ek,_,rv⟩:=h;have:=rv.length;rw[km,km]at this;rw[ek,km,this]
theorem Fq{v:Sl}(h:∃ob,ρ[0]?=a8 (.raw a ob rfN))(hi:i≠0):∃ob,(ρ.set i v)[0]?=a8 (.raw a ob rfN):=let ⟨ob,h⟩:=h;⟨ob,by rw[qb hi];exact h⟩
noncomputable abbrev fText(nx nw nt:aq)(c call:ar)(n0 n1 n2:Nat)(p1 p2 p3 p4 p5 p6 p7 p8 p9 p10 p11 p12 p13 p14 p15 p16 p17 p18 p19 p20 p21:aM):List aN :=
 [.If (.Compare (.Name nw p1) [.NotIn] [.Name nx p2] p3) [.Assign [.Name nt p4] c p5,.Assign [.Subscript (.Name nx p6) (.Name nw p7) p8] (.IfExp (.Name nt p9) (.Constant (.int 0) n0 p10) (.BinOp (.Constant (.int 1) n1 p11) .Add (.Subscript call (.Constant (.int 0) n2 p12) p13) p14) p15) p16] [] p17,
  .Return (a8 (.Subscript (.Name nx p18) (.Name nw p19) p20)) p21]
theorem DDb.fill{k:List Int}{n0 n1 n2:Nat}{p1 p2 p3 p4 p5 p6 p7 p8 p9 p10 p11 p12 p13 p14 p15 p16 p17 p18 p19 p20 p21:aM}{b:Bool}{n:Int}{tl:List D}(h0:∃ob,ρ[0]?=a8 (.raw a ob rfN))(ho:owns ρ=[])(hw:ρ[s]?=a8 (.val (.tup (k.map D.int))))(ht:t≠0)(hst:s≠t)(htl:t<ρ.length)
  (hin:ks.contains k=aa->ks'=ks/\ns'=ns/\Q0 ks (ns.map D.int) k=a8 d)
  (hout:ks.contains k=a9->DE X ρ c (.bl b)/\(b=aa->ks1=ks/\ns1=ns/\n=0)/\(b=a9->∃m,DFx X (ρ.set t (.val (.bl b))) 0 call ks ns (.tup (.int m::tl)) ks1 ns1/\n=1+m)/\ks1.contains k=a9/\ks1.length<av/\ks'=ks1++[k]/\ns'=ns1++[n]/\d=.int n)
  (hu:X.A.units+100<aS) (hN:X.N.Nodup) (hX:X.N[0]?=a8 nx) (hW:X.N[s]?=a8 nw) (hT:X.N[t]?=a8 nt) (vx:Vis X.env.scope nx) (vw:Vis X.env.scope nw) (lt:Loc X.env.scope nt) (ft:X.fn nt=aa\/X.env.scope.names.lookup nt=a8 .local)
  (dx:(nx==k7j)=a9) (cx:(nx==k7k)=a9) (dw:(nw==k7j)=a9) (cw:(nw==k7k)=a9) (dt:(nt==k7j)=a9) (ct:(nt==k7k)=a9)
  (hm:aH .NotIn (.Name nx p2)=a9) (s1:aO c (a8 (.Name nt p4)) p5.line X.env=pure a9)
  (s2:aO (.IfExp (.Name nt p9) (.Constant (.int 0) n0 p10) (.BinOp (.Constant (.int 1) n1 p11) .Add (.Subscript call (.Constant (.int 0) n2 p12) p13) p14) p15) (a8 (.Subscript (.Name nx p6) (.Name nw p7) p8)) p16.line X.env=pure a9)
  (hx0:Jf (.Constant (.int 0) n2 p12)) (hxw:Jf (.Name nw p19)) (hB:∀b:Bool,ρ[t]?=ρ[t]?->DB X (ρ.set t (.val (.bl b))) (.Name nt p9) b) :
  DDb X ρ (fText nx nw nt c call n0 n1 n2 p1 p2 p3 p4 p5 p6 p7 p8 p9 p10 p11 p12 p13 p14 p15 p16 p17 p18 p19 p20 p21) a ks ns d ks' ns':=λσ F H E R h q=>by
 have vt:Vis X.env.scope nt:=lt.elim .inl λz=>.inr (.inl z);have s0:s≠0:=λz=>by obtain⟨ob,h0⟩:=h0;rw[z,h0]at hw;cases hw
 have last:∀σ' F' H' ρ',Rep X.K ρ' σ' F'->(∃ob,ρ'[0]?=a8 (.raw a ob rfN))->owns ρ'=[]->ρ'[s]?=a8 (.val (.tup (k.map D.int)))->j0 F F'->jz X.K a ks' ns' F' H'->Q0 ks' (ns'.map D.int) k=a8 d ->
   Fg X (.Return (a8 (.Subscript (.Name nx p18) (.Name nw p19) p20)) p21) E σ' H':=λσ' F' H' ρ' R' r0 ro rs g h' hd=>by
  have V:=Io R' r0 ro h';obtain⟨ob,r0'⟩:=id r0;have l0:0<ρ'.length:=(xr.mp r0').1;have e1:DE X (ρ'.set 0 (.val (.dct ks' (ns'.map D.int)))) (.Subscript (.Name nx p18) (.Name nw p19) p20) d:=DE.dget hu (DE.var 0 (Jq l0) hX vx dx cx) (DE.var s (by rw[qb (ba s0)];exact rs) hW vw dw cw).toT hd hxw;refine(V8 peS).to (e1 σ' H' _ V λv H2 g2 en=>?_);obtain⟨z1,z2⟩:=h'.grown g2;refine q v _ H2 (g.trans z2) z1 ?_;have:owns (ρ'.set 0 (.val (.dct ks' (ns'.map D.int))))=[]:=by have:=(jg (ρ:=ρ') (i:=0) (s:=.val (.dct ks' (ns'.map D.int))) rfl).subset;rw[ro]at this;exact Th.mpr λb hb=>absurd (this hb) (by simp)
  rw[this,qg]at en;obtain⟨m,em⟩:=Cz hd;subst em;exact en
 have V:=Io R h0 ho h;obtain⟨ob,h0'⟩:=id h0;have l0:0<ρ.length:=(xr.mp h0').1;have hc:DB X (ρ.set 0 (.val (.dct ks (ns.map D.int)))) (.Compare (.Name nw p1) [.NotIn] [.Name nx p2] p3) (!ks.contains k):=DB.notinT hu (DE.var s (by rw[qb (ba s0)];exact hw) hW vw dw cw).toT (DE.var 0 (Jq l0) hX vx dx cx).toT hm;refine(Z1 (j87 ptS Vj Vj) (M5 psS)).to (hc σ H _ V λH1 g1=>?_);obtain⟨h1,gF⟩:=h.grown g1;have R1:=R.grow gF;cases hk:ks.contains k with
 |true =>obtain⟨e1,e2,e3⟩:=hin hk;subst e1 e2;refine Dg ?_;exact j1a.to (last σ _ H1 ρ R1 h0 ho hw gF h1 e3)
 |false =>
  obtain⟨hE,hT1,hF1,nk,hl,e1,e2,e3⟩:=hout hk;refine Df ?_;refine(Z1 (Um hN hT lt peS s1 ft) (M5 (j9v hu (Jr hX vx dx cx) (Jr hW vw dw cw) peS s2))).to ?_;refine Dj R1 h1 hE λv F2 H2 g2 h2 en=>?_;have R2:Rep X.K (ρ.set t (.val (.bl b))) (σ.set t (a8 v)) F2:=(R1.grow g2).set_val en;have ho2:owns (ρ.set t (.val (.bl b)))=[]:=by have:=(jg (ρ:=ρ) (i:=t) (s:=.val (.bl b)) rfl).subset;rw[ho]at this;exact Th.mpr λb hb=>absurd (this hb) (by simp)
  have r2:=Fq (v:=.val (.bl b)) h0 ht;have w2:(ρ.set t (.val (.bl b)))[s]?=a8 (.val (.tup (k.map D.int))):=by rw[qb (ba hst)];exact hw
  obtain⟨ob2,r2'⟩:=id r2;have hσ:=(R2.raw 0 a ob2 rfN r2').1;have hV:DFx X (ρ.set t (.val (.bl b))) 0 (.IfExp (.Name nt p9) (.Constant (.int 0) n0 p10) (.BinOp (.Constant (.int 1) n1 p11) .Add (.Subscript call (.Constant (.int 0) n2 p12) p13) p14) p15) ks ns (.int n) ks1 ns1:=by
   refine DFx.ite (hB b rfl) (λz=>?_) (λz=>?_) ho2
   .obtain⟨y1,y2,y3⟩:=hT1 z;subst y3;exact⟨DE.int,y1,y2⟩
   .obtain⟨m,y1,y2⟩:=hF1 z;subst y2;exact DFx.addC (DFx.ixC y1 (show L2.atI (D.int m::tl) 0=a8 (.int m)from by simp[L2.atI,ixN];try omega) hx0)
  refine hV _ F2 H2 a _ R2 hσ h2 λv3 F3 H3 g3 h3 e3'=>?_;have e3':v3=.int n:=e3';have R3:=R2.grow g3;obtain⟨vs,hσs,ens⟩:=R3.val s _ w2;rw[ho2,qg]at ens;obtain⟨tb,ys,ev,sq,li⟩:=ens;rw[zp li]at sq;subst ev;refine⟨_,hσ,_,hσs,?_⟩;obtain⟨xs,ep,eH,na,ek,kt,rv⟩:=id h3;refine⟨a,tb,xs,ep,k,rfl,by rw[eH];exact jb,λz hz=>h3.same.seqT (kt z hz),rfl,h3.same.seqT sq,by rw[<-ek];exact nk,by rw[ek,km]at hl;exact hl,λu ep' ru=>?_⟩;subst e3';have h4:jz X.K a ks' ns' F3 (upd H3 a (.dI (xs++[(k,tb,u)]) ep')):=by
   refine⟨xs++[(k,tb,u)],ep',by rw[eH,j8x],na,by rw[e1,ek,Xl];rfl,λz hz=>?_,?_⟩
   .rcases Pk.mp hz with z1|z1
    .exact kt z z1
    .rw[xj.mp z1];exact sq
   .rw[e2,Xl,Xl];exact rv.append (.cons ru .nil)
  refine last _ F3 _ _ R3 r2 ho2 w2 (gF.trans (g2.trans g3)) h4 ?_;rw[e1,e2,e3];exact Nf h3.len nk
end
section
variable{P:ay}{w:aD}{K:k7f}{mg:k7i}{base:aF}{x qual:aq}{st:aN}{f:ai}{fd:aL}{N ps:List aq}{n:Nat}
theorem jj6{S:List (List Int)->List Int->List D->D->List (List Int)->List Int->Prop}(F:Fun K x qual st f fd)(Sc:FnScope N ps (j7 st))(hl:∀ks ns ds d ks' ns',S ks ns ds d ks' ns'->ds.length+1=ps.length)
  (hbody:∀(cdv:aj)(A:aG)(outer:List cT)(s:ao)(H:Hp)(E:XK),Wm K f cdv->Room n (A.deeper (bq qual (j7 st) s.heap.objs.size f cdv))->∀a ks ns ds d ks' ns',S ks ns ds d ks' ns' ->
   DDb (zc CX0 P w K mg base N qual (j7 st) f cdv A outer s H E).nox (startM N a ds) (jy st) a ks ns d ks' ns'):FnOk P w K mg base CX0 (n+1) f fd ps (spD K S):=by
 refine F.okC Sc (λvs H Q E ⟨a,F0,ks,ns,ds,d,ks',ns',ws,e,tb,dc,en,hS,_⟩=>by rw[e,X6,en.length];exact hl _ _ _ _ _ _ hS) λcdv A outer s H vs Q E hcv hr ⟨a,F0,ks,ns,ds,d,ks',ns',ws,e,tb,dc,en,hS,q⟩=>⟨_,Vj,?_⟩
 subst e;exact hbody cdv A outer s H E hcv hr a ks ns ds d ks' ns' hS _ F0 H _ (j2g tb en) dc λv F' H' g dc' en'=>q v F' H' g dc' en'
end
section
variable{X:Cx}{ρ:Rho}{es:List ar}{ds:List D}{d:D}{P:Po}{x:Nat}{nx g:aq}{ks':List (List Int)}{ns':List Int}{p1 p2 p3 p4 p5 p6 p7 p8 p9:aM}
theorem DSs.lmk{S:List (List Int)->List Int->List D->D->List (List Int)->List Int->Prop}(cl:CalD X g S)(hx:x<ρ.length)(ho:owns ρ=[])(ha:DA X (ρ.set x .un) es ds)(hS:S [] [] ds d ks' ns')(hP:P.rt (.val (.dct ks' (ns'.map D.int))))
  (hN:X.N.Nodup) (hX:X.N[x]?=a8 nx) (lx:Loc X.env.scope nx) (fx:X.fn nx=aa\/X.env.scope.names.lookup nx=a8 .local) (dx:(nx==k7j)=a9) (cx:(nx==k7k)=a9) (hg:Gl X g) (hdb:(g==k7j)=a9)
  (s1:aO (.Dict [] [] p2) (a8 (.Name nx p1)) p3.line X.env=pure a9) (s2:aO (.Call (.Name g p4) (.Name nx p5::es) [] p6) ae p7.line X.env=pure a9)
  (hs:ah (.Name nx p5::es) X.env=(a9,aE (.Name nx p5) X.env)::ah es X.env) (hpl:(aR p6 (ah es X.env)).any (·.1)=a9) :
  DSs X ρ [.Assign [.Name nx p1] (.Dict [] [] p2) p3,.Expr (.Call (.Name g p4) (.Name nx p5::es) [] p6) p7,.Return (a8 (.Name nx p8)) p9] P:=λσ H E R q=>by
 have vis:Vis X.env.scope nx:=lx.elim .inl λz=>.inr (.inl z);refine(Z1 (Um hN hX lx j1b s1 fx) (Z1 (Uo peS s2) (M5 (V8 (Jr hX vis dx cx))))).to ?_;intro a na;have R0:Rep X.K (ρ.set x .un) (σ.set x (a8 (.ref a))) H:=R.set_un;have hσ:(σ.set x (a8 (V.ref a)))[x]?=a8 (a8 (.ref a)):=Jq (by rw[R.len];exact hx);have ho':owns (ρ.set x .un)=[]:=by have:=(jg (ρ:=ρ) (i:=x) (s:=.un) rfl).subset;rw[ho]at this;exact Th.mpr λb hb=>absurd (this hb) (by simp)
 have dc:jz X.K a [] [] H (upd H a (.dI [] 0)):=⟨[],0,rfl,na,rfl,(λz hz=>nomatch hz),.nil⟩
 refine DFx.call cl ha hS ho' hX vis dx cx hg hdb hs hpl _ H _ a _ R0 hσ dc λv F' H' g' dc' en=>?_;refine⟨_,hσ,q.rt (.val (.dct ks' (ns'.map D.int))) _ H' hP ?_⟩;obtain⟨xs,ep,e,n,ek,kt,rv⟩:=id dc';refine⟨?_,a,xs,ep,ns'.map V.int,rfl,by rw[e];exact jb,ek,λz hz=>dc'.same.seqT (kt z hz),rv,j4.ints ns'⟩;rw[ho,qg];exact g'.trans dc'.same
end
section
variable{X:Cx}{ρ:Rho}{es:List ar}{ds:List D}{d:D}{g:aq}{ks':List (List Int)}{ns':List Int}{p p1 pos:aM}
theorem DE.fcl {S:List (List Int)->List Int->List D->D->List (List Int)->List Int->Prop} (cl:CalD X g S) (ha:DA X ρ es ds) (hS:S [] [] ds d ks' ns') (ho:owns ρ=[]) (hg:Gl X g) (hdb:(g==k7j)=a9)
  (hs:ah (.Dict [] [] p1::es) X.env=(a9,aE (.Dict [] [] p1) X.env)::ah es X.env) (hpl:(aR pos (ah es X.env)).any (·.1)=a9):DE X ρ (.Call (.Name g p) (.Dict [] [] p1::es) [] pos) d:=λσ H Q R q=>by
 obtain⟨n,fa,fd,ps,FN,hr,hm,hkp,hb⟩:=cl.ex;refine(Vy FN (hr.mono (Pu _)) hg hm hkp hb .nil M7 (jc j1b paS hs) hdb hs hpl).to ?_;intro a na;have dc:jz X.K a [] [] H (upd H a (.dI [] 0)):=⟨[],0,rfl,na,rfl,(λz hz=>nomatch hz),.nil⟩
 refine j1k R dc ha λvs F1 H1 g1 h1 e1=>?_;rw[ho,qg]at e1;exact⟨a,F1,[],[],ds,d,ks',ns',vs,by rw[Xq],R.tb.mono g1,h1,e1,hS,λv F' H' g2 h2 ev=>q v H' ((g1.trans g2).trans h2.same) (by rw[ho,qg];exact ev.mono h2.same)⟩
end
end L2
end
section
namespace L2
noncomputable def step(acc:List (List Int))(f:List Int):List (List Int):=acc.flatMap λa=>f.map λx=>a++[x]
noncomputable def zg(fs:List (List Int)):List (List Int):=fs.foldl step [[]]
noncomputable def W0:List (List Int)->List (List Int)
 |[]=>[[]]
 |f::fs=>f.flatMap λx=>(W0 fs).map (x :: ·)
theorem N7:∀(fs:List (List Int)) (acc:List (List Int)),fs.foldl step acc=acc.flatMap λa=>(W0 fs).map (a ++ ·)
 |[],acc=>by simp[W0]
 |f::fs,acc=>by
  rw[T7,N7 fs,step,List.flatMap_assoc];congr 1
  funext a
  rw[W0,List.map_flatMap,List.flatMap_map];congr 1
  funext x
  rw[Xg];congr 1
  funext r
  simp
theorem j31(fs:List (List Int)):zg fs=W0 fs:=by rw[zg,N7];simp
noncomputable def zu:Nat->List (List Int)
 |0=>[[]]
 |m+1=>(zu m).map (0 :: ·)++(zu m).map (1 :: ·)
theorem Ez{b:Int}(hb:0<b)(n c:Int):∀{i m:Nat},i<=m->jk b i (n+b^m*c)=jk b i n
 |0,m,_=>rfl
 |i+1,m,h=>by
  rw[jk,jk,Ez hb n c nofun];congr 1;obtain⟨k,rfl⟩:∃k,m=i+(k+1):=⟨m-i-1,by omega⟩
  have hp:b^i≠0:=kH (fO hb);rw[Int.pow_add,k8,i3 _ _ hp,kF,kI (b^k) b,k8,Int.add_mul_emod_self_left]
theorem Im:∀m:Nat,(aA (2^m)).map (λn=>jk 2 m ((n:Nat):Int))=zu m
 |0=>rfl
 |m+1=>by
  have e:2^(m+1)=2^m+2^m:=by rw[ff];omega
  rw[e,List.range_add,Xl,zu,<-Im m,Xg,Xg,Xg];have pc:((2^m:Nat):Int)=(2:Int)^m:=by simp
  congr 1
  .apply cM;intro n hn;have hn':n<2^m:=Xc.mp hn;show jk 2 (m+1) (n:Int)=0::jk 2 m (n:Int);rw[jk];congr 1;have h0:(n:Int)/2^m=0:=dS nofun (by rw[<-pc];omega)
   rw[h0];rfl
  .apply cM;intro n hn;have hn':n<2^m:=Xc.mp hn;show jk 2 (m+1) ((2^m+n:Nat):Int)=1::jk 2 m (n:Int);have e1:((2^m+n:Nat):Int)=(n:Int)+2^m*1:=by rw[Int.natCast_add,pc,lh,Int.add_comm]
   rw[e1,jk,Ez (by decide) _ _ (xx m)];congr 1;have hp:(2:Int)^m≠0:=kH (fO (by decide));have h0:(n:Int)/2^m=0:=dS nofun (by rw[<-pc];omega)
   rw[i3 _ _ hp,h0];rfl
noncomputable def fits:List Int->List Int->Bool
 |t::ts,x::xs=>(t==2 || t==x)&&fits ts xs
 |_,_=>aa
end L2
end
section
namespace L2
open PySem
inductive Sv where
 |un
 |val (d:D)
 |own (l:List D)
 |exc (x:aq)
noncomputable abbrev En:=List Sv
set_option genInjectivity true in
inductive Rk where
 |e (d:D)
 |o (l:List D)
 |w (l:List D)
 |t (d:D)
noncomputable def Rk.d:Rk->D
 |.e d=>d
 |.o l=>.lst l
 |.w l=>.lst l
 |.t d=>d
noncomputable def Rk.st:Rk->Option D
 |.e d=>a8 d
 |.o l=>a8 (.lst l)
 |.w l=>ae
 |.t d=>if Qi d=aa then a8 d else ae
noncomputable def Rk.sq:Rk->Option (Bool×List D)
 |.e (.lst l)=>a8 (aa,l)
 |.e (.tup l)=>a8 (a9,l)
 |.o l=>a8 (aa,l)
 |.w l=>a8 (aa,l)
 |_=>ae
noncomputable def Rk.lw:Rk->Option (List D)
 |.o l=>a8 l
 |.w l=>a8 l
 |_=>ae
inductive Rc where
 |val (d:D)
 |fresh (l:List D)
 |err (x:aq)
 |lval (d:D)
 |mval (d:D) (k:Nat)
 |merr (x:aq)
 |dval (d:D) (ks:List (List Int)) (ns:List Int)
 |no
noncomputable def Rc.rk:Rc->Option Rk
 |.val d=>a8 (.e d)
 |.fresh l=>a8 (.o l)
 |_=>ae
inductive Bop where
 |add|sub|mul|fdiv|mod|pow|shl|shr|band|bxor
inductive Cop where
 |lt|le|gt|ge|eq|ne|isin|notin
inductive Bf where
 |len|min|max|all|tuple|list|sum|int|any|sorted
inductive Ex where
 |lit (d:D)
 |var (i:Nat)
 |glob (x:aq)
 |bin (op:Bop) (a b:Ex)
 |neg (a:Ex)
 |cmp (op:Cop) (a b:Ex)
 |isN (a:Ex)
 |and (a b:Ex)
 |or (a b:Ex)
 |not (a:Ex)
 |ite (c a b:Ex)
 |nil
 |cons (a b:Ex)
 |tup (es:Ex)
 |lst (es:Ex)
 |ix (a b:Ex)
 |sl (a lo hi:Ex)
 |call (f:aq) (es:Ex)
 |blt (f:Bf) (es:Ex)
 |isi (a:Ex) (ts:List String)
 |comp (is:List Nat) (elt it cond:Ex)
 |seq (a:Ex)
 |range (es:Ex)
 |zip (a b:Ex)
 |fst (es:Ex)
 |join (sep:aq) (a:Ex)
 |enum (a:Ex)
 |lset (a:Ex)
 |tix (a b:Ex)
 |rpr (a:Ex)
 |exc (a:Ex)
 |din (a b:Ex)
 |fcl (f:aq) (es:Ex)
 |dget (a b:Ex)
set_option genInjectivity true in
inductive W where
 |v (r:Rk)
 |a (rs:List Rk)
 |i (ds:List D)
noncomputable def jj(n:Nat):Bool:=decide (n<=av)
noncomputable def binI:Bop->Int->Int->Option Int
 |.add,i,j=>a8 (i+j)
 |.sub,i,j=>a8 (i-j)
 |.mul,i,j=>if (-(2^64)<i/\i<2^64)\/(-(2^64)<j/\j<2^64)then a8 (i*j)else ae
 |.fdiv,i,j=>if 0<j/\j<18446744073709551616 then a8 (i/j)else ae
 |.mod,i,j=>if 0<j then a8 (i%j)else ae
 |.pow,i,j=>if 0<=j/\j<=1000000/\i.natAbs<2^64 then a8 (i^j.toNat)else ae
 |.shl,i,j=>if 0<=j/\j<=1000000/\i.natAbs<2^64 then a8 (i*2^j.toNat)else ae
 |.shr,i,j=>if 0<=j then a8 (i/2^j.toNat)else ae
 |.band,i,j=>a8 (Builtin.bitAnd i j)
 |.bxor,i,j=>a8 (Builtin.bitXor i j)
noncomputable def Ud(op:Bop)(a b:Rk):Option Rk :=
 match a.d,b.d with
 |.int i,.int j=>(binI op i j).map λk=>.e (.int k)
 |.str y,.str z=>match op with
  |.add=>if jj (y.length+z.length)=aa then a8 (.e (.str (y++z)))else ae
  |_=>ae
 |.str y,.int k=>match op with
  |.mul=>if (1<=k/\k<=1000)/\y.length<=1000 then a8 (.e (.str (iu y k)))else ae
  |_=>ae
 |_,_=>match op,a.sq,b.sq,b.d with
  |.add,a8 (aa,l),a8 (aa,m),_=>if jj (l.length+m.length)=aa then a8 (.o (l++m))else ae
  |.add,a8 (a9,l),a8 (a9,m),_=>if jj (l.length+m.length)=aa then a8 (.e (.tup (l++m)))else ae
  |.mul,a8 (a9,l),_,.int k=>if 1<=k/\k<2^63/\l.isEmpty=a9/\jj (l.length*k.toNat)=aa then a8 (.e (.tup (au k.toNat l).flatten))else ae
  |.mul,_,_,.int k=>match a.lw with
   |some l=>if -(2^63)<=k/\k<2^63/\jj (l.length*k.toNat)=aa then a8 (.o (au k.toNat l).flatten)else ae
   |none=>ae
  |_,_,_,_=>ae
noncomputable def cmpI:Cop->Int->Int->Option Bool
 |.lt,i,j=>a8 (decide (i<j))
 |.le,i,j=>a8 (decide (i<=j))
 |.gt,i,j=>a8 (decide (j<i))
 |.ge,i,j=>a8 (decide (j<=i))
 |.eq,i,j=>a8 (decide (i=j))
 |.ne,i,j=>a8 (!decide (i=j))
 |_,_,_=>ae
noncomputable def D.sqv:D->Option (Bool×List D)
 |.lst l=>a8 (aa,l)
 |.tup l=>a8 (a9,l)
 |_=>ae
noncomputable def J1(op:Cop)(a b:D):Option Bool :=
 match op,a,b with
 |op,.int i,.int j=>cmpI op i j
 |.eq,a,b=>if a.dep<=90/\b.dep<=90 then a8 (deq a b)else ae
 |.ne,.bl a,.bl b=>a8 (a != b)
 |.ne,.str a,.str b=>a8 (!decide (a=b))
 |.ne,.non,.non=>a8 a9
 |.ne,.lst l,.lst m=>if D.depL l<=90/\D.depL m<=90 then a8 (!zb l m)else ae
 |.ne,.tup l,.tup m=>if D.depL l<=90/\D.depL m<=90 then a8 (!zb l m)else ae
 |.isin,.str a,.str b=>a8 (inS a b)
 |.lt,.str a,.str b=>a8 (decide (a.cps.toList<b.cps.toList))
 |.gt,.str a,.str b=>a8 (decide (b.cps.toList<a.cps.toList))
 |.isin,a,b=>match b.sqv with
  |some (_,l)=>if D.depL l<=90/\a.dep<=90 then a8 (l.any λe=>deq e a)else ae
  |none=>ae
 |.notin,a,b=>match b.sqv with
  |some (_,l)=>if D.depL l<=90/\a.dep<=90 then a8 (!l.any λe=>deq e a)else ae
  |none=>ae
 |_,_,_=>ae
noncomputable def boolsOf:List D->Option (List Bool)
 |[]=>a8 []
 |.bl b::r=>(boolsOf r).map (b :: ·)
 |_::_=>ae
noncomputable def intsOf:List D->Option (List Int)
 |[]=>a8 []
 |.int b::r=>(intsOf r).map (b :: ·)
 |_::_=>ae
noncomputable def strsOf:List D->Option (List aq)
 |[]=>a8 []
 |.str b::r=>(strsOf r).map (b :: ·)
 |_::_=>ae
noncomputable def Vo:Bf->List Rk->Option Rk
 |.len,[a]=>match a.d with
  |.lst l=>a8 (.e (.int l.length))
  |.tup l=>a8 (.e (.int l.length))
  |.str y=>if jj y.length=aa then a8 (.e (.int y.length))else ae
  |_=>ae
 |.min,[a,b]=>match a.d,b.d with
  |.int i,.int j=>a8 (.e (.int (if j<i then j else i)))
  |_,_=>ae
 |.max,[a,b]=>match a.d,b.d with
  |.int i,.int j=>a8 (.e (.int (if j>i then j else i)))
  |_,_=>ae
 |.max,[a]=>match a.d with
  |.lst l=>match intsOf l with
   |some ns=>if ns.isEmpty=a9 then a8 (.e (.int (Zc ns)))else ae
   |none=>ae
  |_=>ae
 |.min,[a]=>match a.d with
  |.lst l=>match intsOf l with
   |some ns=>if ns.isEmpty=a9 then a8 (.e (.int (Jw ns)))else ae
   |none=>ae
  |_=>ae
 |.all,[a]=>match a.d with
  |.lst l=>(boolsOf l).map λbs=>.e (.bl (bs.all id))
  |_=>ae
 |.any,[a]=>match a.d with
  |.lst l=>(boolsOf l).map λbs=>.e (.bl (bs.any id))
  |_=>ae
 |.tuple,[a]=>match a.sq with
  |some (_,l)=>a8 (.e (.tup l))
  |none=>ae
 |.list,[a]=>match a.sq with
  |some (_,l)=>a8 (.o l)
  |none=>ae
 |.sum,[a]=>match a.d with
  |.lst l=>(intsOf l).map λns=>.e (.int ns.sum)
  |.tup l=>(intsOf l).map λns=>.e (.int ns.sum)
  |_=>ae
 |.int,[a]=>match a.d with
  |.bl k=>a8 (.e (.int (if k then 1 else 0)))
  |.str y=>if y.length<=640 then(fU y).map λn=>.e (.int n)else ae
  |_=>ae
 |_,_=>ae
noncomputable def jdv(t c:String):Option Bool :=
 if t = "function" then ae else
 if c = "int" then a8 (t == "int" || t == "bool") else
 if c = "bool" then a8 (t == "bool") else
 if c = "str" then a8 (t == "str") else
 if c = "list" then a8 (t == "list") else
 if c = "tuple" then a8 (t == "tuple")else ae
noncomputable def jdw(d:D):List String->Option Bool
 |[]=>a8 a9
 |c::cs=>match jdv d.ty c,jdw d cs with
  |some a,a8 b=>a8 (a || b)
  |_,_=>ae
noncomputable def qt:List Nat->D->En->Option En
 |[i],d,ρ=>a8 (ρ.set i (.val d))
 |[i,j],d,ρ=>match d with
  |.tup [a,b]=>a8 ((ρ.set i (.val a)).set j (.val b))
  |_=>ae
 |[i,j,k],d,ρ=>match d with
  |.tup [a,.tup [b,c]]=>a8 (((ρ.set i (.val a)).set j (.val b)).set k (.val c))
  |_=>ae
 |[i,j,k,_],d,ρ=>match d with
  |.tup [a,b,c]=>a8 (((ρ.set i (.val a)).set j (.val b)).set k (.val c))
  |_=>ae
 |_,_,_=>ae
noncomputable def N6(is:List Nat)(ρ:En):Bool:=is.all λi=>match ρ[i]? with
 |some .un=>aa
 |_=>a9
noncomputable def Qk(f:D->Option (Option D)):List D->Option (List D)
 |[]=>a8 []
 |d::ds=>match f d,Qk f ds with
  |some (a8 x),a8 xs=>a8 (x::xs)
  |some ae,a8 xs=>a8 xs
  |_,_=>ae
noncomputable def qx:List Rk->Option (List D)
 |[]=>a8 []
 |r::rs=>match r.st,qx rs with
  |some d,a8 ds=>a8 (d::ds)
  |_,_=>ae
noncomputable def W.one:W->Option Rk
 |.v r=>a8 r
 |_=>ae
noncomputable def W.args:W->Option (List Rk)
 |.a rs=>a8 rs
 |_=>ae
noncomputable def W.it:W->Option (List D)
 |.i ds=>a8 ds
 |_=>ae
noncomputable def Qe:Option W->Option (Option Int)
 |some (.a [])=>a8 ae
 |some (.a [r])=>match r.d with
  |.int i=>a8 (a8 i)
  |_=>ae
 |_=>ae
noncomputable def truth:Option W->Option Bool
 |some (.v r)=>match r.d with
  |.bl k=>a8 k
  |_=>ae
 |_=>ae
noncomputable def j72:Ex->Option Nat
 |.seq (.var i)=>a8 i
 |.enum (.var i)=>a8 i
 |_=>ae
noncomputable def frz(t:Ex)(ρ:En):En:=match j72 t with
 |some i=>match ρ[i]? with
  |some (.own l)=>ρ.set i (.val (.lst l))
  |_=>ρ
 |none=>ρ
noncomputable def J9(t:Ex)(ρ:En):Bool:=match j72 t with
 |some i=>match ρ[i]? with
  |some (.own _)=>aa
  |_=>a9
 |none=>a9
noncomputable def Qw:D->Option aq
 |.int i=>if -18446744073709551616<i/\i<18446744073709551616 then a8 (cP (toString i))else ae
 |.str y=>if y.length<=10000 then a8 y else ae
 |.tup l=>match intsOf l with
  |some is=>if (∀i∈is,-18446744073709551616<i/\i<18446744073709551616)/\(tupS is).length<=10000 then a8 (tupS is)else ae
  |none=>ae
 |_=>ae
noncomputable def Qh:List Rk->Option (List aq)
 |[]=>a8 []
 |r::rs=>match Qw r.d,Qh rs with
  |some y,a8 ys=>a8 (y::ys)
  |_,_=>ae
noncomputable def bang(x:aq):aq:=("!":aq)++x
noncomputable def qm(f:aq):aq:=("??":aq)++f
noncomputable def dq(f:aq):aq:=("#":aq)++f
noncomputable def tupI:D->Option (List Int)
 |.tup l=>intsOf l
 |_=>ae
noncomputable def Rc.lv:Rc->Option W
 |.lval d=>a8 (.v (.e d))
 |_=>ae
noncomputable def j71(w:Option W):Option W:=match w with
 |some (.a rs)=>if rs.length<=1000 then(Qh rs).map λys=>.v (.e (.str (Kc eC ys)))else ae
 |_=>ae
noncomputable def Nu(s:Option Sv):Option W:=match s with
 |some (.val d)=>a8 (.v (.e d))
 |some (.own l)=>a8 (.v (.w l))
 |_=>ae
noncomputable def blW(i:Option Bool):Option W:=i.map λk=>.v (.e (.bl k))
noncomputable def rkW(r:Option Rk):Option W:=r.map .v
noncomputable def Qo(op:Bop)(a b:Option W):Option W:=match a,b with
 |some (.v x),a8 (.v y)=>rkW (Ud op x y)
 |_,_=>ae
noncomputable def Ei(a:Option W):Option W:=match a with
 |some (.v x)=>match x.d with
  |.int i=>a8 (.v (.e (.int (-i))))
  |_=>ae
 |_=>ae
noncomputable def Dq(op:Cop)(a b:Option W):Option W:=match a,b with
 |some (.v x),a8 (.v y)=>blW (J1 op x.d y.d)
 |_,_=>ae
noncomputable def consW(a b:Option W):Option W:=match a,b with
 |some (.v x),a8 (.a xs)=>a8 (.a (x::xs))
 |_,_=>ae
noncomputable def U5(a:Option W):Option W:=match a with
 |some (.a rs)=>match qx rs with
  |some ds=>if jj ds.length=aa then a8 (.v (.e (.tup ds)))else ae
  |none=>ae
 |_=>ae
noncomputable def Qn(a:Option W):Option W:=match a with
 |some (.a rs)=>match qx rs with
  |some ds=>if jj ds.length=aa then a8 (.v (.o ds))else ae
  |none=>ae
 |_=>ae
noncomputable def ixW(a b:Option W):Option W:=match a,b with
 |some (.v x),a8 (.v y)=>match x.sq,y.d with
  |some (_,l),.int i=>(atI l i).map λd=>.v (.e d)
  |none,.int i=>match x.d with
   |.str z=>if jj z.length=aa then(atI z.cps.toList i).map λc=>.v (.e (.str ⟨#[c]⟩))else ae
   |_=>ae
  |_,_=>ae
 |_,_=>ae
noncomputable def M9(sep:aq)(a:Option W):Option W:=match a with
 |some (.v x)=>match x.d with
  |.lst l=>match strsOf l with
   |some ts=>if eX sep ts=aa then a8 (.v (.e (.str (dY sep ts))))else ae
   |none=>ae
  |_=>ae
 |_=>ae
noncomputable def Wq(a b:Option W):Option W:=match a,b with
 |some (.v x),a8 (.v y)=>match x.d with
  |.tup l=>if D.depL l<=90/\y.d.dep<=90 then(ixD y.d l).map λk=>.v (.e (.int (k:Nat)))else ae
  |.lst l=>if D.depL l<=90/\y.d.dep<=90 then(ixD y.d l).map λk=>.v (.e (.int (k:Nat)))else ae
  |_=>ae
 |_,_=>ae
noncomputable def Vr(a:Option W):Option W:=match a with
 |some (.v x)=>match x.d with
  |.lst l=>match strsOf l with
   |some ts=>if ts.length<4000 then a8 (.v (.e (.int (dd ts).length)))else ae
   |none=>match intsOf l with
    |some ns=>if ns.length<4000 then a8 (.v (.e (.int (ddI ns).length)))else ae
    |none=>ae
  |_=>ae
 |_=>ae
noncomputable def Mh(a:Option W):Option W:=match a with
 |some (.v x)=>match x.st with
  |some (.lst l)=>a8 (.i (Jl l))
  |some (.tup l)=>a8 (.i (Jl l))
  |_=>ae
 |_=>ae
noncomputable def Q3(Γ:aq->List D->Rc)(f:aq)(a:Option W):Option W:=match a with
 |some (.a rs)=>match qx rs with
  |some ds=>rkW (Γ f ds).rk
  |none=>match Γ f (rs.map Rk.d) with
   |.val d=>a8 (.v (.t d))
   |.fresh l=>if qe l=aa then a8 (.v (.o l))else ae
   |_=>ae
 |_=>ae
noncomputable def vd(f:Bf)(a:Option W):Option W:=match a with
 |some (.a rs)=>rkW (Vo f rs)
 |_=>ae
noncomputable def jj1(a:Option W)(ts:List String):Option W:=match a with
 |some (.v x)=>blW (jdw x.d ts)
 |_=>ae
noncomputable def O9(a:Option W):Option W:=match a with
 |some (.v (.e (.lst l)))=>a8 (.i l)
 |some (.v (.e (.tup l)))=>a8 (.i l)
 |some (.v (.o l))=>a8 (.i l)
 |some (.v (.e (.str y)))=>if ascii y=aa then a8 (.i (chs y))else ae
 |_=>ae
noncomputable def Wv(a:Option W):Option W:=match a with
 |some (.a [x])=>match x.d with
  |.int n=>if -(2^62)<=n/\n<2^62 then a8 (.i (upto 0 n.toNat))else ae
  |_=>ae
 |some (.a [x,y])=>match x.d,y.d with
  |.int m,.int n=>if -(2^62)<=m/\m<2^62/\-(2^62)<=n/\n<2^62 then a8 (.i (upto m (n-m).toNat))else ae
  |_,_=>ae
 |_=>ae
noncomputable def Nr(a b:Option W):Option W:=match a,b with
 |some (.v x),a8 (.v y)=>match x.st,y.st with
  |some (.lst l),a8 (.lst m)=>a8 (.i (Zr l m))
  |some (.lst l),a8 (.tup m)=>a8 (.i (Zr l m))
  |some (.tup l),a8 (.lst m)=>a8 (.i (Zr l m))
  |some (.tup l),a8 (.tup m)=>a8 (.i (Zr l m))
  |_,_=>ae
 |_,_=>ae
noncomputable def Ou(a b:Option W):Option W:=match a,b with
 |some (.v x),a8 (.v y)=>match x.d,y.d with
  |.tup l,.dct ks _=>(intsOf l).map λk=>.v (.e (.bl (ks.contains k)))
  |_,_=>ae
 |_,_=>ae
noncomputable def noOwn(ρ:En):Bool:=ρ.all λs=>match s with
 |.own _=>a9
 |_=>aa
noncomputable def Dl(Γ:aq->List D->Rc)(f:aq)(b:Bool)(a:Option W):Option W:=match b,a with
 |true,a8 (.a rs)=>match qx rs with
  |some ds=>match Γ (dq f) (.dct [] (([]:List Int).map D.int)::ds) with
   |.dval d _ _=>a8 (.v (.e d))
   |_=>ae
  |none=>ae
 |_,_=>ae
noncomputable def Mi(a b:Option W):Option W:=match a,b with
 |some (.v (.e (.dct ks ds))),a8 (.v y)=>match tupI y.d with
  |some k=>(Q0 ks ds k).map λd=>.v (.e d)
  |none=>ae
 |_,_=>ae
noncomputable def ev(Γ:aq->List D->Rc)(G:aq->Option D):Ex->En->Option W
 |.lit d,_=>a8 (.v (.e d))
 |.var i,ρ=>Nu ρ[i]?
 |.glob x,_=>(G x).map λd=>.v (.e d)
 |.bin op a b,ρ=>Qo op (ev Γ G a ρ) (ev Γ G b ρ)
 |.neg a,ρ=>Ei (ev Γ G a ρ)
 |.cmp op a b,ρ=>Dq op (ev Γ G a ρ) (ev Γ G b ρ)
 |.isN a,ρ=>match ev Γ G a ρ with
  |some (.v x)=>a8 (.v (.e (.bl x.d.isNon)))
  |_=>ae
 |.and a b,ρ=>match truth (ev Γ G a ρ) with
  |some a9=>a8 (.v (.e (.bl a9)))
  |some aa=>(truth (ev Γ G b ρ)).map λk=>.v (.e (.bl k))
  |none=>ae
 |.or a b,ρ=>match truth (ev Γ G a ρ) with
  |some aa=>a8 (.v (.e (.bl aa)))
  |some a9=>(truth (ev Γ G b ρ)).map λk=>.v (.e (.bl k))
  |none=>ae
 |.not a,ρ=>(truth (ev Γ G a ρ)).map λk=>.v (.e (.bl (!k)))
 |.ite c a b,ρ=>match truth (ev Γ G c ρ) with
  |some aa=>match ev Γ G a ρ with
   |some (.v x)=>x.st.map λd=>.v (.e d)
   |_=>ae
  |some a9=>match ev Γ G b ρ with
   |some (.v x)=>x.st.map λd=>.v (.e d)
   |_=>ae
  |none=>ae
 |.nil,_=>a8 (.a [])
 |.cons a b,ρ=>consW (ev Γ G a ρ) (ev Γ G b ρ)
 |.tup es,ρ=>U5 (ev Γ G es ρ)
 |.lst es,ρ=>Qn (ev Γ G es ρ)
 |.ix a b,ρ=>ixW (ev Γ G a ρ) (ev Γ G b ρ)
 |.sl a lo hi,ρ=>match ev Γ G a ρ,Qe (ev Γ G lo ρ),Qe (ev Γ G hi ρ) with
  |some (.v x),a8 l,a8 h=>match x.sq with
   |some (aa,ds)=>a8 (.v (.o (cutD ds l h)))
   |some (a9,ds)=>if HT.sIx ds.length 0 l=0/\HT.sIx ds.length ds.length h=ds.length then ae else a8 (.v (.e (.tup (cutD ds l h))))
   |none=>match x.d with
    |.str z=>if jj z.length=aa then a8 (.v (.e (.str (bM z l h))))else ae
    |_=>ae
  |_,_,_=>ae
 |.call f es,ρ=>Q3 Γ f (ev Γ G es ρ)
 |.blt f es,ρ=>vd f (ev Γ G es ρ)
 |.isi a ts,ρ=>jj1 (ev Γ G a ρ) ts
 |.comp is elt it cond,ρ=>match ev Γ G it (frz it ρ) with
  |some (.i ds)=>if N6 is (frz it ρ)=aa/\jj ds.length=aa then
    (Qk (λd=>match qt is d (frz it ρ) with
     |none=>ae
     |some ρ2=>match ev Γ G cond ρ2 with
      |some (.a [])=>match ev Γ G elt ρ2 with
       |some (.v x)=>x.st.map a8
       |_=>ae
      |some (.a [y])=>match y.d with
       |.bl aa=>match ev Γ G elt ρ2 with
        |some (.v x)=>x.st.map a8
        |_=>ae
       |.bl a9=>a8 ae
       |_=>ae
      |_=>ae) ds).bind λl=>if (J9 it ρ && !qe l)=aa then ae else a8 (.v (.o l))
   else ae
  |_=>ae
 |.seq a,ρ=>O9 (ev Γ G a ρ)
 |.range es,ρ=>Wv (ev Γ G es ρ)
 |.zip a b,ρ=>Nr (ev Γ G a ρ) (ev Γ G b ρ)
 |.fst es,ρ=>j71 (ev Γ G es ρ)
 |.join sep a,ρ=>M9 sep (ev Γ G a ρ)
 |.enum a,ρ=>Mh (ev Γ G a ρ)
 |.tix a b,ρ=>Wq (ev Γ G a ρ) (ev Γ G b ρ)
 |.rpr a,ρ=>match ev Γ G a ρ with
  |some (.v x)=>match x.d with
   |.str y=>if (cG y).length<=2000 then a8 (.v (.e (.str (cG y))))else ae
   |_=>ae
  |_=>ae
 |.exc a,ρ=>ev Γ G a ρ
 |.lset a,ρ=>Vr (ev Γ G a ρ)
 |.din a b,ρ=>Ou (ev Γ G a ρ) (ev Γ G b ρ)
 |.fcl f es,ρ=>Dl Γ f (noOwn ρ) (ev Γ G es ρ)
 |.dget a b,ρ=>Mi (ev Γ G a ρ) (ev Γ G b ρ)
section
variable{Γ:aq->List D->Rc}{G:aq->Option D}{ρ:En}
theorem Nm{d}:ev Γ G (.lit d) ρ=(a8 (.v (.e d))):=(rfl)
theorem jhj{i}:ev Γ G (.var i) ρ=(Nu ρ[i]?):=(rfl)
theorem jfe{x}:ev Γ G (.glob x) ρ=((G x).map λd=>.v (.e d)):=(rfl)
theorem jhu{op a b}:ev Γ G (.bin op a b) ρ=(Qo op (ev Γ G a ρ) (ev Γ G b ρ)):=(rfl)
theorem jho{a}:ev Γ G (.neg a) ρ=(Ei (ev Γ G a ρ)):=(rfl)
theorem j8q{op a b}:ev Γ G (.cmp op a b) ρ=(Dq op (ev Γ G a ρ) (ev Γ G b ρ)):=(rfl)
theorem j37{a}:ev Γ G (.isN a) ρ=(match ev Γ G a ρ with
  |some (.v x)=>a8 (.v (.e (.bl x.d.isNon)))
  |_=>ae):=(rfl)
theorem jhv{a b}:ev Γ G (.and a b) ρ=(match truth (ev Γ G a ρ) with
  |some a9=>a8 (.v (.e (.bl a9)))
  |some aa=>(truth (ev Γ G b ρ)).map λk=>.v (.e (.bl k))
  |none=>ae):=(rfl)
theorem jfb{a b}:ev Γ G (.or a b) ρ=(match truth (ev Γ G a ρ) with
  |some aa=>a8 (.v (.e (.bl aa)))
  |some a9=>(truth (ev Γ G b ρ)).map λk=>.v (.e (.bl k))
  |none=>ae):=(rfl)
theorem j36{a}:ev Γ G (.not a) ρ=((truth (ev Γ G a ρ)).map λk=>.v (.e (.bl (!k)))):=(rfl)
theorem jhq{c a b}:ev Γ G (.ite c a b) ρ=(match truth (ev Γ G c ρ) with
  |some aa=>match ev Γ G a ρ with
   |some (.v x)=>x.st.map λd=>.v (.e d)
   |_=>ae
  |some a9=>match ev Γ G b ρ with
   |some (.v x)=>x.st.map λd=>.v (.e d)
   |_=>ae
  |none=>ae):=(rfl)
theorem Wl:ev Γ G (.nil) ρ=(a8 (.a [])):=(rfl)
theorem Yl{a b}:ev Γ G (.cons a b) ρ=(consW (ev Γ G a ρ) (ev Γ G b ρ)):=(rfl)
theorem jhk{es}:ev Γ G (.tup es) ρ=(U5 (ev Γ G es ρ)):=(rfl)
theorem jhp{es}:ev Γ G (.lst es) ρ=(Qn (ev Γ G es ρ)):=(rfl)
theorem jja{a b}:ev Γ G (.ix a b) ρ=(ixW (ev Γ G a ρ) (ev Γ G b ρ)):=(rfl)
theorem jj9{a lo hi}:ev Γ G (.sl a lo hi) ρ=(match ev Γ G a ρ,Qe (ev Γ G lo ρ),Qe (ev Γ G hi ρ) with
  |some (.v x),a8 l,a8 h=>match x.sq with
   |some (aa,ds)=>a8 (.v (.o (cutD ds l h)))
   |some (a9,ds)=>if HT.sIx ds.length 0 l=0/\HT.sIx ds.length ds.length h=ds.length then ae else a8 (.v (.e (.tup (cutD ds l h))))
   |none=>match x.d with
    |.str z=>if jj z.length=aa then a8 (.v (.e (.str (bM z l h))))else ae
    |_=>ae
  |_,_,_=>ae):=(rfl)
theorem jfi{f es}:ev Γ G (.call f es) ρ=(Q3 Γ f (ev Γ G es ρ)):=(rfl)
theorem Ms{f es}:ev Γ G (.blt f es) ρ=(vd f (ev Γ G es ρ)):=(rfl)
theorem jfh{is elt it cond}:ev Γ G (.comp is elt it cond) ρ=(match ev Γ G it (frz it ρ) with
  |some (.i ds)=>if N6 is (frz it ρ)=aa/\jj ds.length=aa then
    (Qk (λd=>match qt is d (frz it ρ) with
     |none=>ae
     |some ρ2=>match ev Γ G cond ρ2 with
      |some (.a [])=>match ev Γ G elt ρ2 with
       |some (.v x)=>x.st.map a8
       |_=>ae
      |some (.a [y])=>match y.d with
       |.bl aa=>match ev Γ G elt ρ2 with
        |some (.v x)=>x.st.map a8
        |_=>ae
       |.bl a9=>a8 ae
       |_=>ae
      |_=>ae) ds).bind λl=>if (J9 it ρ && !qe l)=aa then ae else a8 (.v (.o l))
   else ae
  |_=>ae):=(rfl)
theorem jhm{a}:ev Γ G (.seq a) ρ=(O9 (ev Γ G a ρ)):=(rfl)
theorem jbk{es}:ev Γ G (.range es) ρ=(Wv (ev Γ G es ρ)):=(rfl)
theorem jhi{a b}:ev Γ G (.zip a b) ρ=(Nr (ev Γ G a ρ) (ev Γ G b ρ)):=(rfl)
theorem jhr{es}:ev Γ G (.fst es) ρ=(j71 (ev Γ G es ρ)):=(rfl)
theorem jfd{sep a}:ev Γ G (.join sep a) ρ=(M9 sep (ev Γ G a ρ)):=(rfl)
theorem jff{a}:ev Γ G (.enum a) ρ=(Mh (ev Γ G a ρ)):=(rfl)
theorem jhl{a b}:ev Γ G (.tix a b) ρ=(Wq (ev Γ G a ρ) (ev Γ G b ρ)):=(rfl)
theorem jhn{a}:ev Γ G (.rpr a) ρ=(match ev Γ G a ρ with
  |some (.v x)=>match x.d with
   |.str y=>if (cG y).length<=2000 then a8 (.v (.e (.str (cG y))))else ae
   |_=>ae
  |_=>ae):=(rfl)
theorem jfc{a}:ev Γ G (.lset a) ρ=(Vr (ev Γ G a ρ)):=(rfl)
theorem jht{a b}:ev Γ G (.din a b) ρ=(Ou (ev Γ G a ρ) (ev Γ G b ρ)):=(rfl)
theorem jhs{f es}:ev Γ G (.fcl f es) ρ=(Dl Γ f (noOwn ρ) (ev Γ G es ρ)):=(rfl)
theorem jfg{a b}:ev Γ G (.dget a b) ρ=(Mi (ev Γ G a ρ) (ev Γ G b ρ)):=(rfl)
end
noncomputable def er(Γ:aq->List D->Rc)(G:aq->Option D):Ex->En->Option aq
 |.call f es,ρ=>match er Γ G es ρ with
  |some x=>if (G (qm f)).isSome=aa then a8 x else ae
  |none=>match ev Γ G es ρ with
   |some (.a rs)=>match Γ f (rs.map Rk.d) with
    |.err x=>if (G (bang x)).isSome=aa then a8 x else ae
    |_=>ae
   |_=>ae
 |.cons a b,ρ=>match er Γ G a ρ with
  |some x=>a8 x
  |none=>match ev Γ G a ρ with
   |some (.v _)=>er Γ G b ρ
   |_=>ae
 |.ix a _,ρ=>er Γ G a ρ
 |.dget a b,ρ=>match er Γ G a ρ with
  |some x=>a8 x
  |none=>match ev Γ G a ρ with
   |some (.v _)=>er Γ G b ρ
   |_=>ae
 |.exc (.comp [i] elt it .nil),ρ=>match ev Γ G it ρ with
  |some (.i (d::_))=>if N6 [i] ρ=aa then er Γ G elt (ρ.set i (.val d))else ae
  |_=>ae
 |_,_=>ae
end L2
end
section
namespace L2
open PySem PySem.Spec PyProof.Rows
def DM(X:Cx)(ρ:Rho)(e:ar)(s:Bool)(ds:List D):Prop:=∀σ H Q,Rep X.K ρ σ H->(∀a xs H',j0 H H'->SqB X.K s H' a xs->j4 X.K (del H' (owns ρ)) ds xs->Q (.ref a) H')->Jb X e σ H Q
section
variable{X:Cx}{ρ:Rho}{e a b c:ar}{es:List ar}{d:D}{ds ds':List D}{i j:Int}{pos p p2:aM}{k:Nat}{x:aq}{s:Bool}
theorem jg3{K:k7f}{H:Hp}{a:ai}{xs:List V}(h:SqL K H a xs):SqB K aa H a xs:=by unfold SqB;rw[if_pos rfl];exact h
theorem Uk{K:k7f}{H:Hp}{a:ai}{xs:List V}(h:SqB K aa H a xs):SqL K H a xs:=by unfold SqB at h;rw[if_pos rfl]at h;exact h
theorem Q8{K:k7f}{H:Hp}{a:ai}{xs:List V}(h:SqB K a9 H a xs):SqT K H a xs:=by unfold SqB at h;rw[if_neg xf]at h;exact h
theorem DE.toM(h:DE X ρ e (D.seq s ds)):DM X ρ e s ds:=λσ H Q R q=>h σ H Q R λv H1 g1 e1=>by obtain⟨t,xs,ev,sq,en⟩:=Qj e1;subst ev;exact q t xs H1 g1 (jm.seqB sq) en
theorem DL.toM(h:DL X ρ e ds):DM X ρ e aa ds:=λσ H Q R q=>h σ H Q R λt xs H1 g1 m en=>q t xs H1 g1 (jg3 (.inl (.inl m))) en
theorem DO.toM(h:DO X ρ e ds):DM X ρ e aa ds:=h.toL.toM
def Has(X:Cx)(ρ:Rho)(e:ar):Rk->Prop
 |.e d=>DE X ρ e d
 |.o l=>DO X ρ e l
 |.w l=>DL X ρ e l
 |.t d=>DT X ρ e d
theorem Has.toT:∀{r:Rk},Has X ρ e r->DT X ρ e r.d
 |.e _,h=>DE.toT h
 |.o _,h=>DL.toT (DO.toL h)
 |.w _,h=>DL.toT h
 |.t _,h=>h
theorem Has.toE:∀{r:Rk}{d:D},Has X ρ e r->r.st=a8 d->DE X ρ e d
 |.e _,_,h,q=>by cases q;exact h
 |.o _,_,h,q=>by cases q;exact DO.toE h
 |.w _,_,h,q=>by cases q
 |.t d',d,h,q=>by
  have q:(if Qi d'=aa then a8 d' else ae)=a8 d:=q;by_cases z:Qi d'=aa
  .rw[if_pos z]at q;cases q;exact DT.toE h z
  .rw[if_neg z]at q;cases q
theorem Has.toM:∀{r:Rk}{s:Bool}{l:List D},Has X ρ e r->r.sq=a8 (s,l)->DM X ρ e s l
 |.e (.lst l),_,_,h,q=>by cases q;exact DE.toM (s:=aa) h
 |.e (.tup l),_,_,h,q=>by cases q;exact DE.toM (s:=a9) h
 |.e .non,_,_,_,q=>by cases q
 |.e (.bl _),_,_,_,q=>by cases q
 |.e (.int _),_,_,_,q=>by cases q
 |.e (.str _),_,_,_,q=>by cases q
 |.o l,_,_,h,q=>by cases q;exact DO.toM h
 |.w l,_,_,h,q=>by cases q;exact DL.toM h
 |.t _,_,_,_,q=>by cases q
theorem ja5:OpR X (aY .Add) (λx y H Q=>∃l b xs zs,x=.ref l/\y=.ref b/\SqL X.K H l xs/\SqL X.K H b zs/\xs.length+zs.length<=av/\∀p,H p=ae->Q (.ref p) (upd H p (.lst (xs++zs)))):=by
 intro pins s σ H x y v u Q I rx ry h;obtain⟨l,b,xs,zs,e1,e2,hH,hB,hz,q⟩:=h;subst e1 e2;cases rx;cases ry;obtain⟨us,ru,⟨⟨c1,d1,f1,g1⟩,n1,h1,k1,w1,m1⟩,_⟩:=I.list hH;obtain⟨vs,rv,⟨⟨c2,d2,f2,g2⟩,n2,h2,k2,w2,m2⟩,_⟩:=I.list hB;have k1:c1=.type "list":=k1;have m1:f1=.seq us.toArray n1:=m1;have k2:c2=.type "list":=k2;have m2:f2=.seq vs.toArray n2:=m2;subst k1 m1 k2 m2;have l1:=ru.length;have l2:=rv.length;have ea:us.toArray++vs.toArray=(us++vs).toArray:=by simp
 refine fW ⟨_,h1,rfl⟩ ⟨_,h2,rfl⟩ noFill_list_add seq_list_add PySem.F.slot_list_add PySem.F.entry_list_add (PySem.F.args_list_add_2 _ _)
  (list_addW l b us.toArray vs.toArray n1 n2 d1 d2 g1 g2 (by rw[X4,X4,<-l1,<-l2];exact hz)) ⟨h1,h2,?_⟩
 rw[ea];exact⟨.ref _,_,I.lnew (t':=s.toks) (ru.append rv) (by rw[Xe];exact hz),rfl,q _ I.fresh⟩
theorem DO.catM(ha:DM X ρ a aa ds)(hb:DM X ρ b aa ds')(hl:ds.length+ds'.length<=av):DO X ρ (.BinOp a .Add b pos) (ds++ds'):=λσ H Q R q =>
 (Yq ja5 peS peS).to (ha σ H _ R λl xs H1 g1 s1 e1=>hb σ H1 _ (R.grow g1) λl' ys H2 g2 s2 e2 =>
  ⟨l,l',xs,ys,rfl,rfl,g2.seq (Uk s1),Uk s2,by rw[e1.length,e2.length];exact hl,λp hp=>q p _ _ ((g1.trans g2).trans (j8 hp)) ((g1.trans g2).free hp) jb (W8 hp ((e1.mono (jd g2)).append e2))⟩)
theorem DE.catTM(ha:DM X ρ a a9 ds)(hb:DM X ρ b a9 ds')(hl:ds.length+ds'.length<=av):DE X ρ (.BinOp a .Add b pos) (.tup (ds++ds')):=λσ H Q R q =>
 (Yq j6e peS peS).to (ha σ H _ R λt xs H1 g1 sq l=>hb σ H1 _ (R.grow g1) λt' ys H2 g2 sq' l'=>by
  have l2:=l.mono (jd g2)
  have enT:∀{t:ai}{xs:List V}{ds:List D},SqT X.K H2 t xs->j4 X.K (del H2 (owns ρ)) ds xs->Enc X.K (del H2 (owns ρ)) (.tup ds) (.ref t):=λ{t xs ds} sq l=>by
   refine⟨t,xs,rfl,?_,l⟩
   have ow:=(R.grow (g1.trans g2)).owned
   have out:∀{o:HO},H2 t=a8 o->(∀zs,o≠.lst zs)->del H2 (owns ρ) t=a8 o:=λ{o} h z=>by
    rw[j9];exact h
    intro y;obtain⟨zs,e'⟩:=ow t y;rw[h]at e';cases e';exact z zs rfl
   rcases sq with (h|⟨o,h⟩)|h
   .exact .inl (.inl (out h λ_ z=>by cases z))
   .exact .inl (.inr ⟨o,out h λ_ z=>by cases z⟩)
   .exact .inr h
  refine⟨t,t',xs,ys,rfl,rfl,g2.seqT (Q8 sq),Q8 sq',by rw[l.length,l'.length];exact hl,λh=>?_,λh h'=>?_,λh h' p hp=>?_⟩
  .subst h
   cases ds with
   |nil=>exact q _ H2 (g1.trans g2) (enT (Q8 sq') l')
   |cons _ _=>have:=l.length;cases this
  .subst h'
   cases ds' with
   |nil=>exact q _ H2 (g1.trans g2) (by rw[Xq];exact enT (g2.seqT (Q8 sq)) l2)
   |cons _ _=>have:=l'.length;cases this
  .have np:p∉owns ρ:=(R.grow (g1.trans g2)).fresh hp
   exact q _ _ ((g1.trans g2).trans (j8 hp)) ⟨p,xs++ys,rfl,.inl (.inl (by rw[j9 np];exact jb)),(l2.append l').mono (jd (j8 hp))⟩)
theorem DE.ixM(ha:DM X ρ a s ds)(hb:DT X ρ b (.int i))(h:L2.atI ds i=a8 d)(hs:Jf b):DE X ρ (.Subscript a b pos) d:=by
 cases s with
 |true=>exact λσ H Q R q=>(Yr jam peS peS hs).to (ha σ H _ R λl xs H1 g1 sq en=>hb σ H1 _ (R.grow g1) λu H2 g2 e2=>by
   obtain⟨y,hy,ey⟩:=en.atI h
   exact⟨l,xs,i,y,rfl,e2,g2.seq (Uk sq),hy,q y H2 (g1.trans g2) (ey.mono (jd g2))⟩)
 |false=>exact λσ H Q R q=>(Yr R9 peS peS hs).to (ha σ H _ R λl xs H1 g1 sq en=>hb σ H1 _ (R.grow g1) λu H2 g2 e2=>by
   obtain⟨y,hy,ey⟩:=en.atI h
   exact⟨l,xs,i,y,rfl,e2,g2.seqT (Q8 sq),hy,q y H2 (g1.trans g2) (ey.mono (jd g2))⟩)
variable{lo hi:Option ar}{l u:Option Int}
theorem DO.sliceM(ha:DM X ρ a aa ds)(hl:DP X ρ lo l)(hu:DP X ρ hi u):DO X ρ (.Subscript a (.Slice lo hi ae p2) pos) (cutD ds l u):=λσ H Q R q =>
 (Od j9c peS poS poS).to (ha σ H _ R λt xs H1 g1 sq en=>hl σ H1 _ (R.grow g1) λH2 g2=>hu σ H2 _ (R.grow (g1.trans g2)) λH3 g3=>⟨t,xs,rfl,(g2.trans g3).seq (Uk sq),λp hp =>
  q p _ _ ((g1.trans (g2.trans g3)).trans (j8 hp)) ((g1.trans (g2.trans g3)).free hp) jb (W8 hp ((en.mono (jd (g2.trans g3))).cut l u))⟩)
theorem DE.sliceM(ha:DM X ρ a a9 ds)(hl:DP X ρ lo l)(hu:DP X ρ hi u)(hw:¬(HT.sIx ds.length 0 l=0/\HT.sIx ds.length ds.length u=ds.length)):DE X ρ (.Subscript a (.Slice lo hi ae p2) pos) (.tup (cutD ds l u)):=λσ H Q R q =>
 (Od jby peS poS poS).to (ha σ H _ R λt xs H1 g1 sq en=>hl σ H1 _ (R.grow g1) λH2 g2=>hu σ H2 _ (R.grow (g1.trans g2)) λH3 g3=>⟨t,xs,rfl,(g2.trans g3).seqT (Q8 sq),by rw[en.length];exact hw,λp hp =>
  q _ _ ((g1.trans (g2.trans g3)).trans (j8 hp)) ⟨p,_,rfl,.inl (.inl (by rw[j9 ((R.grow (g1.trans (g2.trans g3))).fresh hp)];exact jb)),((en.mono (jd (g2.trans g3))).cut l u).mono (jd (j8 hp))⟩⟩)
theorem DE.tupM (ha:DM X ρ a s ds) (hm:X.mg "tuple" = ae) (hg:Gl X "tuple") (hs:ah [a] X.env=[(a9,aE a X.env)]):DE X ρ (.Call (.Name "tuple" p) [a] [] pos) (.tup ds):=λσ H Q R q =>
 (Ys K6 hg hm boot_tuple (jc peS jx hs) (by decide) (by decide) hs).to (ha σ H _ R λl xs H1 g1 sq en=>by
  cases s with
  |true =>
   refine⟨l,xs,rfl,.inl ⟨Uk sq,λt ht=>?_⟩⟩
   have nt:t∉owns ρ:=(R.grow g1).fresh ht
   exact q _ _ (g1.trans (j8 ht)) ⟨t,xs,rfl,.inl (.inl (by rw[j9 nt];exact jb)),en.mono (jd (j8 ht))⟩
  |false =>
   refine⟨l,xs,rfl,.inr ⟨Q8 sq,?_⟩⟩
   refine q _ _ g1 ⟨l,xs,rfl,?_,en⟩
   have ow:=(R.grow g1).owned
   have out:∀{o:HO},H1 l=a8 o->(∀zs,o≠.lst zs)->del H1 (owns ρ) l=a8 o:=λ{o} h z=>by
    rw[j9];exact h
    intro y;obtain⟨zs,e'⟩:=ow l y;rw[h]at e';cases e';exact z zs rfl
   rcases Q8 sq with (h|⟨o,h⟩)|h
   .exact .inl (.inl (out h λ_ z=>by cases z))
   .exact .inl (.inr ⟨o,out h λ_ z=>by cases z⟩)
   .exact .inr h)
theorem DO.listM (ha:DM X ρ a s ds) (hm:X.mg "list" = ae) (hg:Gl X "list") (hs:ah [a] X.env=[(a9,aE a X.env)]):DO X ρ (.Call (.Name "list" p) [a] [] pos) ds:=λσ H Q R q =>
 (Ys j0c hg hm boot_list (jc peS jx hs) (by decide) (by decide) hs).to (ha σ H _ R λl xs H1 g1 sq en =>
  ⟨l,xs,rfl,(by cases s with|true=>exact .inl (Uk sq)|false=>exact .inr (Q8 sq)),λp hp=>q p _ _ (g1.trans (j8 hp)) (g1.free hp) jb (W8 hp en)⟩)
end
theorem Fv:fillsNumberSlot (.type "tuple") "mul" = pure a9 :=
 PySem.fillsNumberSlot_seq (id:="tuple.__mul__") (r:=a8 (.builtin "tuple.__rmul__")) PySem.F.slot_tuple_mul.lookup (by decide +kernel) PySem.F.slot_tuple_rmul.lookup (by decide +kernel)
theorem j9r:seqRepeat? (.type "tuple")=pure (a8 (.builtin "tuple.__mul__")):=by
 unfold seqRepeat?;rw[iz (T:="tuple") (name:="__mul__") (id:="tuple.__mul__") PySem.F.slot_tuple_mul.lookup (by decide +kernel),
  iz (T:="tuple") (name:="__rmul__") (id:="tuple.__rmul__") PySem.F.slot_tuple_rmul.lookup (by decide +kernel)]
 rfl
section
variable(a:Int)(t:i8)(l:ai)(its:Array aj)(n:Nat)(d1:Option ai)(sl:Array (Option aj))
theorem Eu:iW (df.«int.__rmul__» ⟨[.int a t,.ref l],[]⟩) (λ_ R s=>s.heap.get? l=a8 ⟨.type "tuple",d1,.seq its n,sl⟩/\R (.ok (.ret gQ)) s) :=
 .of_wp λ_ _ _ _ s h=>by
  obtain⟨_,_,_,_,_⟩:=s;obtain⟨hl,h⟩:=h
  wp_walk
  exact⟨_,rfl,h⟩
theorem j5r:iW (df.«tuple.__mul__» ⟨[.ref l,.int 1 t],[]⟩) (λ_ R s=>s.heap.get? l=a8 ⟨.type "tuple",d1,.seq its n,sl⟩/\R (.ok (.ret (.ref l))) s) :=
 .of_wp λ_ _ _ _ s h=>by
  obtain⟨_,_,_,_,_⟩:=s;obtain⟨hl,h⟩:=h
  wp_walk
  exact⟨_,rfl,h⟩
theorem j5q(h0:its.isEmpty=a9)(h1:1<a)(h2:a<2^63)(hz:its.size*a.toNat<=av) :
  iW (df.«tuple.__mul__» ⟨[.ref l,.int a t],[]⟩) (λ_ R s=>s.heap.get? l=a8 ⟨.type "tuple",d1,.seq its n,sl⟩ /\
   R (.ok (.ret (.ref s.heap.objs.size))) { s with heap:=s.heap.push { cls:=.type "tuple",data:=.seq (cD (λx y=>x++y) #[] (au a.toNat its)) } }) :=
 .of_wp λ_ _ _ _ s h=>by
  obtain⟨_,_,_,_,_⟩:=s;obtain⟨hl,h⟩:=h;have c1:(decide (a < -2^63) || decide (a>=2^63))=a9:=by rw[decide_eq_false nofun,decide_eq_false nofun];rfl
  have c2:(its.isEmpty || a==1)=a9:=by rw[h0,beq_eq_false_iff_ne.mpr nofun];rfl
  have c3:(decide (a<=0) || its.isEmpty)=a9:=by rw[h0,decide_eq_false nofun];rfl
  have ea:((its.size*a.toNat:Nat):Int)=(its.size:Int)*a:=by rw[Int.natCast_mul,Int.toNat_of_nonneg nofun]
  have hz':(its.size:Int)*a<=(av:Int):=by rw[<-ea];exact Int.ofNat_le.mpr hz
  have c4:¬(its.size:Int)*a>(2^63-1)/8:=by
   have:(av:Int)<=(2^63-1)/8:=by decide
   omega
  have c5:eK ((its.size:Int)*a)=a9:=by unfold eK;exact decide_eq_false nofun
  have c6:(cD (λx y=>x++y) #[] (au a.toNat its)).size<=av:=by rw[AutoListH.size_joined,Array.size_empty,T8,fg];exact hz
  wp_walk
  rw[c1]
  wp_walk
  rw[c2]
  wp_walk
  rw[c3]
  wp_walk
  rw[if_neg c4]
  wp_walk
  exact⟨_,rfl,h⟩
end
theorem ja2{X:Cx}:OpR X (aY .Mult) (λx y H Q=>∃a k xs,x=.ref a/\y=.int k/\SqT X.K H a xs/\xs≠[]/\1<=k/\k<2^63/\xs.length*k.toNat<=av /\
  (k=1->Q (.ref a) H)/\(1<k->∀p,H p=ae->Q (.ref p) (upd H p (.tup (au k.toNat xs).flatten)))):=by
 intro pins s σ H x y v u Q I rx ry h;obtain⟨a,k,xs,e1,e2,sq,hne,h1,h2,hz,q1,q2⟩:=h;subst e1 e2;cases rx;obtain⟨t,e⟩:=ry;subst e;obtain⟨us,ru,⟨⟨c1,d1,f1,g1⟩,p1,k1,n1,m1⟩,_⟩:=I.tuple sq;have k1:c1=.type "tuple":=k1;have m1:f1=.seq us.toArray n1:=m1;subst k1 m1;have lu:=ru.length;have hne':us.toArray.isEmpty=a9:=by
  cases us with
  |nil=>cases ru;exact absurd rfl hne
  |cons _ _=>simp
 refine hJ (T:="tuple") (U:="int") (by decide) ⟨_,p1,rfl⟩ (λs'=>fE s' k t) Fv jV dX j9r F.slot_int_index.lookup
  (cb dX (fE s k t) jJ (jE _ _) (Eu k t a us.toArray n1 d1 g1) ⟨p1,rfl,⟨_,p1,rfl⟩,?_⟩)
 by_cases hk:k=1
 .subst hk;exact cb jH ⟨_,p1,rfl⟩ jC (iP _ _) (j5r t a us.toArray n1 d1 g1) ⟨p1,⟨.ref a,H,I,rfl,q1 rfl⟩⟩
 .have hz':us.toArray.size*k.toNat<=av:=by rw[X4,<-lu];exact hz
  refine cb jH ⟨_,p1,rfl⟩ jC (iP _ _) (j5q k t a us.toArray n1 d1 g1 hne' nofun h2 hz') ⟨p1,?_⟩;have hnew:cD (λx1 x2=>x1++x2) #[] (au k.toNat us.toArray)=(au k.toNat us).flatten.toArray:=by have:=foldl_rep us k.toNat [];rw[fK]at this;exact this
  rw[hnew];refine⟨.ref _,_,I.laid (t':=s.toks) (λb o e=>xg _ e) (xx _) ?_,rfl,q2 nofun _ I.fresh⟩;exact⟨by rw[len_rep,fg];exact hz,_,ru.rep k.toNat,IsTup.new _ _,Zm.new _ _⟩
theorem DE.repT{X:Cx}{ρ:Rho}{a b:ar}{ds:List D}{k:Int}{pos:aM}(ha:DM X ρ a a9 ds)(hb:DT X ρ b (.int k))(hne:ds≠[])(h1:1<=k)(h2:k<2^63)(hl:ds.length*k.toNat<=av) :
  DE X ρ (.BinOp a .Mult b pos) (.tup (au k.toNat ds).flatten):=λσ H Q R q =>
 (Yq ja2 peS peS).to (ha σ H _ R λt xs H1 g1 sq l=>hb σ H1 _ (R.grow g1) λu H2 g2 e2=>by
  have l2:=l.mono (jd g2)
  refine⟨t,k,xs,rfl,e2,g2.seqT (Q8 sq),?_,h1,h2,by rw[l.length];exact hl,λh=>?_,λh p hp=>?_⟩
  .intro z;subst z
   cases ds with
   |nil=>exact hne rfl
   |cons _ _=>have:=l.length;cases this
  .subst h
   have e:(au (1:Int).toNat ds).flatten=ds:=by simp
   rw[e]at q
   refine q _ H2 (g1.trans g2) ⟨t,xs,rfl,?_,l2⟩
   have ow:=(R.grow (g1.trans g2)).owned
   have out:∀{o:HO},H2 t=a8 o->(∀zs,o≠.lst zs)->del H2 (owns ρ) t=a8 o:=λ{o} h z=>by
    rw[j9];exact h
    intro y;obtain⟨zs,e'⟩:=ow t y;rw[h]at e';cases e';exact z zs rfl
   rcases g2.seqT (Q8 sq)with (h|⟨o,h⟩)|h
   .exact .inl (.inl (out h λ_ z=>by cases z))
   .exact .inl (.inr ⟨o,out h λ_ z=>by cases z⟩)
   .exact .inr h
  .have np:p∉owns ρ:=(R.grow (g1.trans g2)).fresh hp
   exact q _ _ ((g1.trans g2).trans (j8 hp)) ⟨p,_,rfl,.inl (.inl (by rw[j9 np];exact jb)),(l2.rep k.toNat).mono (jd (j8 hp))⟩)
section
variable{X:Cx}{ρ:Rho}{a:ar}{m k:Bool}{d:D}{n:Nat}{pos p2:aM}
theorem DB.isNotN(ha:DT X ρ a d):DB X ρ (.Compare a [.IsNot] [.Constant .none n p2] pos) (!d.isNon):=λσ H Q R q =>(J2 ja3 peS j43 (qz _)).to (ha σ H _ R λx H1 g1 e1=>⟨rfl,_,rfl,by rw[Ra e1];exact q H1 g1⟩)
end
end L2
end
section
namespace L2
open PySem PySem.Spec PyProof.Rows
noncomputable def Sl.abs:Sl->Sv
 |.un=>.un
 |.val d=>.val d
 |.own _ l=>.own l
 |.raw _ _ x=>.exc x
noncomputable def j5(ρ:Rho):En:=ρ.map Sl.abs
theorem Ba{ρ:Rho}{i:Nat}:(j5 ρ)[i]?=(ρ[i]?).map Sl.abs:=xq ..
theorem Wi{ρ:Rho}{i:Nat}{d:D}(h:(j5 ρ)[i]?=a8 (.val d)):ρ[i]?=a8 (.val d):=by
 rw[Ba]at h;cases e:ρ[i]? with
 |none=>rw[e]at h;cases h
 |some s=>rw[e]at h;cases s<;>cases h;rfl
theorem Dy{ρ:Rho}{i:Nat}(h:(j5 ρ)[i]?=a8 .un):ρ[i]?=a8 .un:=by
 rw[Ba]at h;cases e:ρ[i]? with
 |none=>rw[e]at h;cases h
 |some s=>rw[e]at h;cases s<;>cases h;rfl
theorem Qg{ρ:Rho}{i:Nat}{l:List D}(h:(j5 ρ)[i]?=a8 (.own l)):∃a,ρ[i]?=a8 (.own a l):=by
 rw[Ba]at h;cases e:ρ[i]? with
 |none=>rw[e]at h;cases h
 |some s=>rw[e]at h;cases s<;>cases h;exact⟨_,rfl⟩
theorem jw{ρ:Rho}{i:Nat}{s:Sl}:j5 (ρ.set i s)=(j5 ρ).set i s.abs:=List.map_set ..
noncomputable def Bop.op:Bop->iV
 |.add=>.Add
 |.sub=>.Sub
 |.mul=>.Mult
 |.fdiv=>.FloorDiv
 |.mod=>.Mod
 |.pow=>.Pow
 |.shl=>.LShift
 |.shr=>.RShift
 |.band=>.BitAnd
 |.bxor=>.BitXor
noncomputable def Cop.op:Cop->gy
 |.lt=>.Lt
 |.le=>.LtE
 |.gt=>.Gt
 |.ge=>.GtE
 |.eq=>.Eq
 |.ne=>.NotEq
 |.isin=>.In
 |.notin=>.NotIn
noncomputable def Bf.name:Bf->aq
 |.len=>"len"
 |.min=>"min"
 |.max=>"max"
 |.all=>"all"
 |.tuple=>"tuple"
 |.list=>"list"
 |.sum=>"sum"
 |.int=>"int"
 |.any=>"any"
 |.sorted=>"sorted"
noncomputable def Rz:List aq:=["len","min","max","all","tuple","list","sum","int","any","sorted","isinstance","bool","str","range","zip","enumerate","reversed","ValueError","set","dict"]
noncomputable def Vg(x:aq):Bool:=x.cps.toList.head?==a8 33 || x.cps.toList.head?==a8 63
inductive Nd where
 |e (x:ar)
 |b (x:ar)
 |w (x:ar)
 |a (xs:List ar)
 |i (tg it:ar)
 |o (x:Option ar)
 |c (xs:List ar)
 |p (xs:List ar)
structure Cok(X:Cx)(G:aq->Option D):Prop where
 un':X.A.units+100<aS
 un:X.calm=aa->X.A.units+150<aS
 dp:X.calm=aa->X.A.depth+4<eT
 bt:∀x∈Rz,X.mg x=ae
 gl:∀x d,Vg x=a9->G x=a8 d->∃u v,X.mg x=a8 u/\RelV v u/\∀H,Enc X.K H d v
 nd:X.N.Nodup
 po:ik (aC X.prog X.w) X.A X.env X.xe
 ea:Mg X.K=aa
 ec:∀x d,G (bang x)=a8 d->x∈vm/\∃o,W.nsIn X.K az x=a8 (a8 o)
 el:G "?" = a8 (.bl aa)->∀c∈vm,∃v,W.nsIn X.K az c=a8 (a8 v)
 kin:X.K.In X.base
 ns:X.base.Ns az X.mg
 kd:∀x l,G (bang x)=a8 (.lst l)->Kinds X "_law_kinds" x l
 fn:∀f d,G (qm f)=a8 d->∃fa,X.mg f=a8 (.ref fa)/\W.keepIn X.K (.ref fa)=aa
 gd:X.calm=aa->X.A.guards=a8 []
 fr:∃(env0:cT)(out0:List cT)(L:ai),X.stack=env0::out0/\env0.frame=a8 L/\X.env.frame=a8 L
 lm:∀x∈Vl,X.env.qual=x ++ ".<locals>."->∃c P,X.env.code=.ref c/\W.codeHdIn X.K c P=aa/\W.tabIn X.K x=a8 (c,P)
def Gok(X:Cx)(Γ:aq->List D->Rc):Prop:=∀f ds,match Γ f ds with
 |.val d=>Cal X f (spP X.K λds' d'=>ds'=ds/\d'=d)
 |.fresh l=>Cal X f (spF X.K λds' l'=>ds'=ds/\l'=l)
 |.err x=>CalX X f (spX X.K X.mg λds' y=>ds'=ds/\y=x)
 |.lval d=>∀x,f=za x->∃k,Room k X.A/\j3c X.prog X.w X.K X.mg X.base k x λds' d'=>ds'=ds/\d'=d
 |.mval _ _=>True
 |.merr _=>True
 |.dval d ks' ns'=>∀g ks ns ds',f=dq g->ds=.dct ks (ns.map D.int)::ds'->CalD X g λks2 ns2 ds2 d2 ks2' ns2'=>ks2=ks/\ns2=ns/\ds2=ds'/\d2=d/\ks2'=ks'/\ns2'=ns'
 |.no=>True
theorem Cok.comp{X:Cx}{G:aq->Option D}{scope:b8}{C:ai}{s:ao}{H:Hp}{fp:List ai}{pn:k7h}(h:Cok X G):Cok (cCx X scope C s H fp pn) G:=⟨h.un',h.un,h.dp,h.bt,h.gl,h.nd,bB,h.ea,h.ec,h.el,h.kin,h.ns,h.kd,h.fn,h.gd,h.fr,h.lm⟩
theorem Gok.comp{X:Cx}{Γ:aq->List D->Rc}{scope:b8}{C:ai}{s:ao}{H:Hp}{fp:List ai}{pn:k7h}(h:Gok X Γ):Gok (cCx X scope C s H fp pn) Γ:=λf ds=>by
 have q:=h f ds;cases e:Γ f ds with
 |val d=>rw[e]at q;exact Cal.comp q
 |fresh l=>rw[e]at q;exact Cal.comp q
 |err x=>rw[e]at q;exact⟨q.ex⟩
 |lval d=>rw[e]at q;exact q
 |mval d k=>trivial
 |merr x=>trivial
 |dval d ks ns=>rw[e]at q;exact λg ks ns ds' h1 h2=>⟨(q g ks ns ds' h1 h2).ex⟩
 |no=>trivial
inductive HasA(X:Cx)(ρ:Rho):List ar->List Rk->Prop where
 |nil:HasA X ρ [] []
 |cons {a:ar} {es:List ar} {r:Rk} {rs:List Rk} (hs:ah (a::es) X.env=(a9,aE a X.env)::ah es X.env):Has X ρ a r->HasA X ρ es rs->HasA X ρ (a::es) (r::rs)
section
variable{X:Cx}{ρ:Rho}{es:List ar}{rs:List Rk}
theorem HasA.toA:∀{es:List ar}{rs:List Rk}{ds:List D},HasA X ρ es rs->qx rs=a8 ds->DA X ρ es ds
 |_,_,_,.nil,q=>by cases q;exact DA.nil
 |_,_,ds,.cons (r:=r) (rs:=rs) hs h t,q=>by
  unfold qx at q;cases e1:r.st with
  |none=>rw[e1]at q;cases q
  |some d =>
   cases e2:qx rs with
   |none=>rw[e1,e2]at q;cases q
   |some ds'=>rw[e1,e2]at q;cases q;exact DA.cons (h.toE e1) (t.toA e2) hs
theorem HasA.toT:∀{es:List ar}{rs:List Rk},HasA X ρ es rs->DTA X ρ es (rs.map Rk.d)
 |_,_,.nil=>DTA.nil
 |_,_,.cons hs h t=>DTA.cons h.toT t.toT hs
theorem DO.unfrz{e:ar}{i:Nat}{a:ai}{l ds:List D}(hk:ρ[i]?=a8 (.own a l))(h:DO X (ρ.set i (.val (.lst l))) e ds)(hn:qe ds=aa):DO X ρ e ds:=λσ H Q R q =>
 h σ H Q (R.freeze hk) λb xs H' g n m en=>q b xs H' g n m ((en.mono jm).hide (λc hc=>by
  rcases xu.mp hc with z|z
  .rw[z];exact .inl ⟨xs,m⟩
  .exact .inl ((R.grow g).owned c z)) hn)
end
theorem Ni{f:D->Option (Option D)}:∀{ds l:List D},Qk f ds=a8 l ->
  l=(ds.filter (λd=>(f d).join.isSome)).map (λd=>(f d).join.getD .non)/\∀d∈ds,∃o,f d=a8 o
 |[],l,h=>by cases h;exact⟨rfl,λd hd=>nomatch hd⟩
 |d::ds,l,h=>by
  unfold Qk at h;cases e1:f d with
  |none=>rw[e1]at h;cases h
  |some o =>
   cases e2:Qk f ds with
   |none=>rw[e1,e2]at h;cases o<;>cases h
   |some xs =>
    rw[e1,e2]at h;obtain⟨q1,q2⟩:=Ni e2;have mem:∀d'∈d::ds,∃o,f d'=a8 o:=λd' hd=>by
     rcases xu.mp hd with z|z
     .subst z;exact⟨o,e1⟩
     .exact q2 d' z
    cases o with
    |none=>cases h;exact⟨by rw[cq (by rw[e1];simp)];exact q1,mem⟩
    |some x=>cases h;exact⟨by rw[dE (by rw[e1];rfl),X5,<-q1,e1];rfl,mem⟩
section
variable{X:Cx}{ρ:Rho}{a b:ar}{d da db:D}{ds ds':List D}{pos:aM}{k:Bool}
theorem DE.neD(s:Bool)(hu:X.A.units+100<aS)(ha:DT X ρ a (D.seq s ds))(hb:DT X ρ b (D.seq s ds'))(hd:D.depL ds<=98)(nd:D.depL ds'<10000):DE X ρ (.Compare a [.NotEq] [b] pos) (.bl (!zb ds ds')):=λσ H Q R q =>(J3 (j46 hu) peS peS (qz _)).to (ha σ H _ R λv H1 g1 e1=>hb σ H1 _ (R.grow g1) λu H2 g2 e2=>⟨ds,ds',s,e1.mono g2,e2,hd,nd,q _ H2 (g1.trans g2) rfl⟩)
theorem DE.notIn(s:Bool)(hu:X.A.units+100<aS)(ha:DT X ρ a d)(hb:DT X ρ b (D.seq s ds))(hd:D.depL ds<=98)(nd:d.dep<10000)(hm:aH .NotIn b=a9):DE X ρ (.Compare a [.NotIn] [b] pos) (.bl (!ds.any λe=>deq e d)):=λσ H Q R q =>(J3 (Cj hu) peS peS hm).to (ha σ H _ R λv H1 g1 e1=>hb σ H1 _ (R.grow g1) λu H2 g2 e2=>⟨d,ds,s,e1.mono g2,e2,hd,nd,q _ H2 (g1.trans g2) rfl⟩)
theorem DE.in(s:Bool)(hu:X.A.units+100<aS)(ha:DT X ρ a d)(hb:DT X ρ b (D.seq s ds))(hd:D.depL ds<=98)(nd:d.dep<10000)(hm:aH .In b=a9):DE X ρ (.Compare a [.In] [b] pos) (.bl (ds.any λe=>deq e d)):=λσ H Q R q =>(J3 (j47 hu) peS peS hm).to (ha σ H _ R λv H1 g1 e1=>hb σ H1 _ (R.grow g1) λu H2 g2 e2=>⟨d,ds,s,e1.mono g2,e2,hd,nd,q _ H2 (g1.trans g2) rfl⟩)
theorem j97:∀{b:D}{s:Bool}{l:List D},b.sqv=a8 (s,l)->b=D.seq s l
 |.lst _,_,_,h=>by cases h;rfl
 |.dct _ _,_,_,h=>by cases h
 |.sct _,_,_,h=>by cases h
 |.fn _ _,_,_,h=>by cases h
 |.tup _,_,_,h=>by cases h;rfl
 |.non,_,_,h=>by cases h
 |.bl _,_,_,h=>by cases h
 |.int _,_,_,h=>by cases h
 |.str _,_,_,h=>by cases h
theorem j30{op:Cop}{i j:Int}(h:cmpI op i j=a8 k)(ha:DT X ρ a (.int i))(hb:DT X ρ b (.int j)):DE X ρ (.Compare a [op.op] [b] pos) (.bl k)/\DB X ρ (.Compare a [op.op] [b] pos) k:=by
 cases op<;>(first|(cases h;done)|skip)
 .cases h;exact⟨DE.lt ha hb,DB.lt ha hb⟩
 .cases h;exact⟨DE.le ha hb,DB.le ha hb⟩
 .cases h;exact⟨DE.gt ha hb,DB.gt ha hb⟩
 .cases h;exact⟨DE.ge ha hb,DB.ge ha hb⟩
 .cases h;exact⟨DE.eqI ha hb,DB.eqI ha hb⟩
 .cases h;exact⟨DE.neI ha hb,DB.neI ha hb⟩
theorem Lb{op:Cop}(hu:X.A.units+100<aS)(h:J1 op da db=a8 k)(ha:DT X ρ a da)(hb:DT X ρ b db)(hm:aH op.op b=a9) :
  DE X ρ (.Compare a [op.op] [b] pos) (.bl k)/\DB X ρ (.Compare a [op.op] [b] pos) k:=by
 have inn:∀{r:Bool->Bool},(match db.sqv with|some (_,l)=>if D.depL l<=90/\da.dep<=90 then a8 (r (l.any λe=>deq e da))else ae|none=>ae)=a8 k->∃s l,DT X ρ b (D.seq s l)/\D.depL l<=98/\da.dep<10000/\k=r (l.any λe=>deq e da):=λ{r} h=>by
  cases e:db.sqv with
  |none=>rw[e]at h;cases h
  |some p =>
   obtain⟨s,l⟩:=p;rw[e]at h;have h:(if D.depL l<=90/\da.dep<=90 then a8 (r (l.any λe=>deq e da))else ae)=a8 k:=h;by_cases z:D.depL l<=90/\da.dep<=90
   .rw[if_pos z]at h;cases h;exact⟨s,l,j97 e▸hb,by omega,by omega,rfl⟩
   .rw[if_neg z]at h;cases h
 unfold J1 at h;split at h
 .exact j30 h ha hb
 .by_cases z:da.dep<=90/\db.dep<=90
  .rw[if_pos z]at h;cases h;exact⟨DE.eqD hu ha hb nofun nofun,DB.eqD hu ha hb nofun nofun⟩
  .rw[if_neg z]at h;cases h
 .cases h;exact⟨DE.neB ha hb,DB.neB ha hb⟩
 .cases h;exact⟨(DE.neS ha hb).eq (by rw[j03]),(DB.neS ha hb).eq (by rw[j03])⟩
 .cases h;exact⟨(DE.neS ha hb).eq (by simp),(DB.neS ha hb).eq (by simp)⟩
 .rename_i l m;by_cases z:D.depL l<=90/\D.depL m<=90
  .rw[if_pos z]at h;cases h;exact⟨DE.neD aa hu ha hb nofun nofun,DB.neD aa hu ha hb nofun nofun⟩
  .rw[if_neg z]at h;cases h
 .rename_i l m;by_cases z:D.depL l<=90/\D.depL m<=90
  .rw[if_pos z]at h;cases h;exact⟨DE.neD a9 hu ha hb nofun nofun,DB.neD a9 hu ha hb nofun nofun⟩
  .rw[if_neg z]at h;cases h
 .cases h;exact⟨DE.inS ha hb hm,DB.inS ha hb hm⟩
 .cases h;exact⟨DE.ltS ha hb,DB.ltS ha hb⟩
 .cases h;exact⟨DE.gtS ha hb,DB.gtS ha hb⟩
 .obtain⟨s,l,hb,hd,nd,e⟩:=inn (r:=id) h;subst e;exact⟨DE.in s hu ha hb hd nd hm,DB.in s hu ha hb hd nd hm⟩
 .obtain⟨s,l,hb,hd,nd,e⟩:=inn (r:=(!·)) h;subst e;exact⟨DE.notIn s hu ha hb hd nd hm,DB.notIn s hu ha hb hd nd hm⟩
 .cases h
theorem DE.shr{i j:Int}(ha:DT X ρ a (.int i))(hb:DT X ρ b (.int j))(h:0<=j):DE X ρ (.BinOp a .RShift b pos) (.int (i/2^j.toNat)):=DE.arI (g:=λi j=>i/2^j.toNat) jcv ha hb h
theorem jt{α:Type}{c:Prop}[Decidable c]{x y:α}(h:(if c then a8 x else ae)=a8 y):c/\x=y:=by
 by_cases z:c
 .rw[if_pos z]at h;exact⟨z,aB h⟩
 .rw[if_neg z]at h;cases h
theorem j33{op:Bop}{i j n:Int}(h:binI op i j=a8 n)(ha:DT X ρ a (.int i))(hb:DT X ρ b (.int j)):DE X ρ (.BinOp a op.op b pos) (.int n):=by
 cases op
 .cases h;exact DE.add ha hb
 .cases h;exact DE.sub ha hb
 .obtain⟨z,e⟩:=jt h;subst e;exact DE.mul ha hb z
 .obtain⟨z,e⟩:=jt h;subst e;exact DE.fdivB ha hb z
 .obtain⟨z,e⟩:=jt h;subst e;exact DE.mod ha hb z
 .obtain⟨z,e⟩:=jt h;subst e;exact DE.pow ha hb z
 .obtain⟨z,e⟩:=jt h;subst e;exact DE.shl ha hb z
 .obtain⟨z,e⟩:=jt h;subst e;exact DE.shr ha hb z
 .cases h;exact DE.arI0 jd1 ha hb
 .cases h;exact DE.arI0 jct ha hb
theorem z9{n:Nat}(h:jj n=aa):n<=av:=of_decide_eq_true h
end
section
variable{X:Cx}{ρ:Rho}{a b e:ar}{es:List ar}{d:D}{pos p:aM}
theorem Has.lw:∀{r:Rk}{l:List D},Has X ρ a r->r.lw=a8 l->DL X ρ a l
 |.o l,_,h,q=>by cases q;exact DO.toL h
 |.w l,_,h,q=>by cases q;exact h
 |.e _,_,_,q=>by cases q
 |.t _,_,_,q=>by cases q
theorem j5e{op:Bop}{x y r:Rk}(h:Ud op x y=a8 r)(ha:Has X ρ a x)(hb:Has X ρ b y):Has X ρ (.BinOp a op.op b pos) r:=by
 unfold Ud at h;split at h
 .rename_i i j e1 e2;cases z:binI op i j with
  |none=>rw[z]at h;cases h
  |some n=>rw[z]at h;cases h;exact j33 z (e1▸ha.toT) (e2▸hb.toT)
 .rename_i y z e1 e2;split at h
  .obtain⟨q,e⟩:=jt h;subst e;exact DE.catS (e1▸ha.toT) (e2▸hb.toT) (z9 q)
  .cases h
 .rename_i y k e1 e2;split at h
  .obtain⟨q,e⟩:=jt h;subst e;exact DE.mulS (e1▸ha.toT) (e2▸hb.toT) q.1 q.2
  .cases h
 .split at h
  .rename_i l m _ e1 e2;obtain⟨z,q⟩:=jt h;subst q;exact DO.catM (ha.toM e1) (hb.toM e2) (z9 z)
  .rename_i l m _ e1 e2;obtain⟨z,q⟩:=jt h;subst q;exact DE.catTM (ha.toM e1) (hb.toM e2) (z9 z)
  .rename_i l k _ _ e1 e3;obtain⟨z,q⟩:=jt h;subst q;exact DE.repT (ha.toM e1) (e3▸hb.toT) (λe=>by subst e;exact absurd z.2.2.1 (by simp)) z.1 z.2.1 (z9 z.2.2.2)
  .rename_i k _ _ _ e3 _;cases e:x.lw with
   |none=>rw[e]at h;cases h
   |some l =>rw[e]at h;obtain⟨z,q⟩:=jt h;subst q;exact DO.rep (ha.lw e) (e3▸hb.toT) z.1 z.2.1 (z9 z.2.2)
  .cases h
theorem Wc:∀{l:List D}{bs:List Bool},boolsOf l=a8 bs->l=bs.map D.bl
 |[],_,h=>by cases h;rfl
 |.bl b::r,bs,h=>by
  unfold boolsOf at h;cases e:boolsOf r with
  |none=>rw[e]at h;cases h
  |some q=>rw[e]at h;cases h;rw[Wc e];rfl
 |.non::_,_,h=>by cases h
 |.int _::_,_,h=>by cases h
 |.str _::_,_,h=>by cases h
 |.tup _::_,_,h=>by cases h
 |.lst _::_,_,h=>by cases h
 |.dct _ _::_,_,h=>by cases h
 |.sct _::_,_,h=>by cases h
 |.fn _ _::_,_,h=>by cases h
theorem v5:∀{l:List D}{bs:List Int},intsOf l=a8 bs->l=bs.map D.int
 |[],_,h=>by cases h;rfl
 |.int b::r,bs,h=>by
  unfold intsOf at h;cases e:intsOf r with
  |none=>rw[e]at h;cases h
  |some q=>rw[e]at h;cases h;rw[v5 e];rfl
 |.non::_,_,h=>by cases h
 |.bl _::_,_,h=>by cases h
 |.str _::_,_,h=>by cases h
 |.tup _::_,_,h=>by cases h
 |.lst _::_,_,h=>by cases h
 |.dct _ _::_,_,h=>by cases h
 |.sct _::_,_,h=>by cases h
 |.fn _ _::_,_,h=>by cases h
theorem Wr:∀{l:List D}{bs:List aq},strsOf l=a8 bs->l=bs.map D.str
 |[],_,h=>by cases h;rfl
 |.str b::r,bs,h=>by
  unfold strsOf at h;cases e:strsOf r with
  |none=>rw[e]at h;cases h
  |some q=>rw[e]at h;cases h;rw[Wr e];rfl
 |.non::_,_,h=>by cases h
 |.bl _::_,_,h=>by cases h
 |.int _::_,_,h=>by cases h
 |.tup _::_,_,h=>by cases h
 |.lst _::_,_,h=>by cases h
 |.dct _ _::_,_,h=>by cases h
 |.sct _::_,_,h=>by cases h
 |.fn _ _::_,_,h=>by cases h
theorem zr{w:Option W}{k:Bool}(h:truth w=a8 k):∃r,w=a8 (.v r)/\r.d=.bl k:=by
 unfold truth at h;split at h
 .rename_i r;split at h
  .rename_i q e;cases h;exact⟨r,rfl,e⟩
  .cases h
 .cases h
def j0k(X:Cx)(ρ:Rho):List ar->List Rk->Prop
 |[],[]=>True
 |e::es,r::rs=>(∀y,Qw r.d=a8 y->DE X ρ e (.str y))/\j0k X ρ es rs
 |_,_=>False
theorem j0k.all{X:Cx}{ρ:Rho}:∀{es:List ar}{rs:List Rk}{ys:List aq},j0k X ρ es rs->Qh rs=a8 ys->DPs X ρ es ys/\ys.length=rs.length
 |[],[],ys,_,q=>by cases q;exact⟨trivial,rfl⟩
 |e::es,r::rs,ys,h,q=>by
  unfold Qh at q;cases e1:Qw r.d with
  |none=>rw[e1]at q;cases q
  |some y =>
   cases e2:Qh rs with
   |none=>rw[e1,e2]at q;cases q
   |some ys' =>rw[e1,e2]at q;cases q;obtain⟨z1,z2⟩:=j0k.all h.2 e2;exact⟨⟨h.1 y e1,z1⟩,by rw[X6,X6,z2]⟩
 |[],_::_,_,h,_=>h.elim
 |_::_,[],_,h,_=>h.elim
theorem log2_small{i:Int}(h:-18446744073709551616<i/\i<18446744073709551616):i.natAbs.log2<1920:=by
 by_cases z:i.natAbs=0
 .rw[z];decide
 .have e:(2:Nat)^64=18446744073709551616:=by decide
  have:i.natAbs.log2<64:=(l9 z).mpr (by rw[e];omega);omega
theorem j3p{d:D}{y:aq}(h:Qw d=a8 y):y.length<=10000:=by
 cases d with
 |int i =>
  simp only[Qw]at h;split at h
  .rename_i q;cases h;have:=int_text_length_le (k:=1920) (by decide) (log2_small q);rw[PySem.ofString_length];omega
  .cases h
 |str z =>
  simp only[Qw]at h;split at h
  .rename_i q;cases h;exact q
  .cases h
 |tup l =>
  simp only[Qw]at h;split at h
  .split at h
   .rename_i q;cases h;exact q.2
   .cases h
  .cases h
 |_=>cases h
theorem Mv:∀{rs:List Rk}{ys:List aq},Qh rs=a8 ys->∀y∈ys,y.length<=10000
 |[],_,q=>by cases q;exact λy hy=>nomatch hy
 |r::rs,ys,q=>by
  unfold Qh at q;cases e1:Qw r.d with
  |none=>rw[e1]at q;cases q
  |some y =>
   cases e2:Qh rs with
   |none=>rw[e1,e2]at q;cases q
   |some ys' =>
    rw[e1,e2]at q;cases q;intro z hz;rcases xu.mp hz with rfl|hz
    .exact j3p e1
    .exact Mv e2 z hz
theorem DE.fmt{X:Cx}{ρ:Rho}{a:ar}{d:D}{y:aq}{pos:aM}(hg:X.A.guards=a8 [])(hu:X.A.units+100<aS)(ha:DT X ρ a d)(h:Qw d=a8 y):DE X ρ (.FormattedValue a (-1) ae pos) (.str y):=by
 cases d with
 |int i =>
  simp only[Qw]at h;split at h
  .rename_i q;cases h;exact DE.fmtI ha (log2_small q)
  .cases h
 |str z =>
  simp only[Qw]at h;split at h
  .rename_i q;cases h;exact DE.fmtS ha (by rw[cn];omega)
  .cases h
 |tup l =>
  simp only[Qw]at h;split at h
  .rename_i is ei;split at h
   .rename_i q;cases h;have e:=v5 ei;subst e;exact DE.fmtT hg hu ha (λi hi=>log2_small (q.1 i hi)) (by rw[cn];omega)
   .cases h
  .cases h
 |_=>cases h
def jfo(Γ:aq->List D->Rc)(G:aq->Option D)(X:Cx)(t:Ex):Nd->Prop
 |.e e=>∀ρ r,ev Γ G t (j5 ρ)=a8 (.v r)->Has X ρ e r
 |.b e=>∀ρ k,truth (ev Γ G t (j5 ρ))=a8 k->DB X ρ e k
 |.w e=>∀ρ k,truth (ev Γ G t (j5 ρ))=a8 k->DW X ρ e k
 |.a es=>∀ρ rs,ev Γ G t (j5 ρ)=a8 (.a rs)->HasA X ρ es rs
 |.i tg it=>∀ρ ds,ev Γ G t (j5 ρ)=a8 (.i ds)->DI X ρ tg it ds
 |.o e=>∀ρ o,Qe (ev Γ G t (j5 ρ))=a8 o->DP X ρ e o
 |.p es=>∀ρ rs,ev Γ G t (j5 ρ)=a8 (.a rs)->j0k X ρ es rs
 |.c ifs=>∀ρ,(ev Γ G t (j5 ρ)=a8 (.a [])->DTs X ρ ifs aa)/\∀y k,ev Γ G t (j5 ρ)=a8 (.a [y])->y.d=.bl k->DTs X ρ ifs k
end
section
variable{Γ:aq->List D->Rc}{G:aq->Option D}{X:Cx}
theorem Ub{is:List Nat}{elt' it' c':Ex}{elt it tg:ar}{ifs:List ar}{scope:b8}{ρ:Rho}{r:Rk}
  (hit:∀ρ ds,ev Γ G it' (j5 ρ)=a8 (.i ds)->DI X ρ tg it ds)
  (hb:∀ρ d ρ2,qt is d (j5 ρ)=a8 ρ2->(∀j∈is,ρ[j]?=a8 .un)->∃ρ',j5 ρ'=ρ2/\Wk ρ' ρ/\owns ρ'=owns ρ/\∀C s H fp pn,DG (cCx X scope C s H fp pn) ρ tg d ρ')
  (he:∀C s H fp pn ρ r,ev Γ G elt' (j5 ρ)=a8 (.v r)->Has (cCx X scope C s H fp pn) ρ elt r)
  (hc:∀C s H fp pn ρ,(ev Γ G c' (j5 ρ)=a8 (.a [])->DTs (cCx X scope C s H fp pn) ρ ifs aa)/\∀y k,ev Γ G c' (j5 ρ)=a8 (.a [y])->y.d=.bl k->DTs (cCx X scope C s H fp pn) ρ ifs k)
  (h:ev Γ G (.comp is elt' it' c') (j5 ρ)=a8 (.v r)):∃(l:List D)(ρf:Rho)(ds:List D)(pr:D->Bool)(g:D->D),r=.o l/\l=(ds.filter pr).map g /\
   (ρf=ρ\/(qe l=aa/\∃(i:Nat)(a:ai)(l':List D),ρ[i]?=a8 (.own a l')/\ρf=ρ.set i (.val (.lst l'))))/\DI X ρf tg it ds/\(∀j∈is,ρf[j]?=a8 .un)/\ds.length<=av /\
   (∀C s H fp pn,∀d∈ds,∃ρ2,DG (cCx X scope C s H fp pn) ρf tg d ρ2/\Wk ρ2 ρf/\owns ρ2=owns ρf/\DTs (cCx X scope C s H fp pn) ρ2 ifs (pr d)/\(pr d=aa->DE (cCx X scope C s H fp pn) ρ2 elt (g d))):=by
 have fr:∃ρf,j5 ρf=frz it' (j5 ρ)/\((J9 it' (j5 ρ)=a9/\ρf=ρ)\/(J9 it' (j5 ρ)=aa/\∃i a l,ρ[i]?=a8 (.own a l)/\ρf=ρ.set i (.val (.lst l)))):=by
  by_cases z:J9 it' (j5 ρ)=aa
  .unfold J9 at z;split at z
   .rename_i i ei;split at z
    .rename_i l e;obtain⟨a,q⟩:=Qg e;refine⟨ρ.set i (.val (.lst l)),?_,.inr ⟨?_,i,a,l,q,rfl⟩⟩
     .rw[jw];simp only[frz,ei,e,Sl.abs]
     .simp only[J9,ei,e]
    .cases z
   .cases z
  .have z':J9 it' (j5 ρ)=a9:=by simpa using z
   refine⟨ρ,?_,.inl ⟨z',rfl⟩⟩;unfold frz;split
   .rename_i i ei;split
    .rename_i l e;simp only[J9,ei,e]at z';cases z'
    .rfl
   .rfl
 obtain⟨ρf,ef,fr⟩:=fr;rw[jfh]at h;rw[<-ef]at h;split at h
 .rename_i ds hds;split at h
  .rename_i hz;obtain⟨hfree,hlen⟩:=hz;generalize hf:(λd=>_:D->Option (Option D))=f at h;cases hl:Qk f ds with
   |none=>rw[hl]at h;cases h
   |some l =>
    rw[hl]at h;have h:(if (J9 it' (j5 ρ) && !qe l)=aa then ae else a8 (W.v (.o l)))=a8 (.v r):=h;by_cases zz:(J9 it' (j5 ρ) && !qe l)=aa
    .rw[if_pos zz]at h;cases h
    .rw[if_neg zz]at h;cases h;obtain⟨el,hmem⟩:=Ni hl;have hun:∀j∈is,ρf[j]?=a8 .un:=λj hj=>by
      have:=Pa.mp hfree j hj;split at this
      .rename_i e;exact Dy e
      .cases this
     refine⟨l,ρf,ds,_,_,rfl,el,?_,hit ρf ds hds,hun,z9 hlen,λC s H fp pn d hd=>?_⟩
     .rcases fr with ⟨_,e⟩|⟨e1,i,a,l',hk,e⟩
      .exact .inl e
      .exact .inr ⟨by rw[e1]at zz;simpa using zz,i,a,l',hk,e⟩
     ·
      obtain⟨o,ho⟩:=hmem d hd;rw[<-hf]at ho ⊢;dsimp only at ho ⊢;cases hb2:qt is d (j5 ρf) with
      |none=>rw[hb2]at ho;cases ho
      |some ρ2 =>
       obtain⟨ρ',e',wk,ow,dg⟩:=hb ρf d ρ2 hb2 hun;subst e';refine⟨ρ',dg C s H fp pn,wk,ow,?_⟩;rw[hb2]at ho;dsimp only at ho ⊢;cases hcv:ev Γ G c' (j5 ρ') with
       |none=>rw[hcv]at ho;cases ho
       |some w =>
        rw[hcv]at ho;split at ho
        .rename_i hw;cases hw;cases hev:ev Γ G elt' (j5 ρ') with
         |none=>rw[hev]at ho;cases ho
         |some w =>
          rw[hev]at ho;cases w with
          |i _=>cases ho
          |a _=>cases ho
          |v x =>
           dsimp only at ho ⊢;cases hst:x.st with
           |none=>rw[hst]at ho;cases ho
           |some y =>simp only[hst,iE,ip,eF,Tn];exact⟨((hc C s H fp pn ρ').1 hcv),λ_=>(he C s H fp pn ρ' x hev).toE hst⟩
        .rename_i y hw;cases hw;split at ho
         .rename_i e1;cases hev:ev Γ G elt' (j5 ρ') with
          |none=>rw[hev]at ho;cases ho
          |some w =>
           rw[hev]at ho;cases w with
           |i _=>cases ho
           |a _=>cases ho
           |v x =>
            dsimp only at ho ⊢;cases hst:x.st with
            |none=>rw[hst]at ho;cases ho
            |some z =>simp only[e1,hst,iE,ip,eF,Tn];exact⟨(hc C s H fp pn ρ').2 y aa hcv e1,λ_=>(he C s H fp pn ρ' x hev).toE hst⟩
         .rename_i e1;simp only[e1,Option.join,jO];exact⟨(hc C s H fp pn ρ').2 y a9 hcv e1,λz=>by cases z⟩
         .cases ho
        .cases ho
  .cases h
 .cases h
theorem Nh{is:List Nat}{elt' it' c':Ex}{elt it tg:ar}{ifs:List ar}{scope:b8}{p:aM}{ρ:Rho}{r:Rk}(hq:X.calm=aa)(hX:Cok X G)
  (hit:∀ρ ds,ev Γ G it' (j5 ρ)=a8 (.i ds)->DI X ρ tg it ds) (hkind:scope.kind=.function) (hok:zq scope X.env X.N is=aa) (hs:∀x,aK it X.env x=pure x)
  (hb:∀ρ d ρ2,qt is d (j5 ρ)=a8 ρ2->(∀j∈is,ρ[j]?=a8 .un)->∃ρ',j5 ρ'=ρ2/\Wk ρ' ρ/\owns ρ'=owns ρ/\∀C s H fp pn,DG (cCx X scope C s H fp pn) ρ tg d ρ')
  (he:∀C s H fp pn ρ r,ev Γ G elt' (j5 ρ)=a8 (.v r)->Has (cCx X scope C s H fp pn) ρ elt r)
  (hc:∀C s H fp pn ρ,(ev Γ G c' (j5 ρ)=a8 (.a [])->DTs (cCx X scope C s H fp pn) ρ ifs aa)/\∀y k,ev Γ G c' (j5 ρ)=a8 (.a [y])->y.d=.bl k->DTs (cCx X scope C s H fp pn) ρ ifs k)
  (h:ev Γ G (.comp is elt' it' c') (j5 ρ)=a8 (.v r)):∃l,r=.o l/\DO X ρ (.ListComp elt [⟨tg,it,ifs,0⟩] scope p) l:=by
 obtain⟨l,ρf,ds,pr,g,er,el,hf,hi,hun,hz,hb'⟩:=Ub hit hb he hc h;refine⟨l,er,?_⟩;have main:DO X ρf (.ListComp elt [⟨tg,it,ifs,0⟩] scope p) ((ds.filter pr).map g):=DO.comp is _ _ hi hb' hun hz hq hkind hok hs;rw[<-el]at main;rcases hf with e|⟨hn,i,a,l',hk,e⟩
 .subst e;exact main
 .subst e;exact DO.unfrz hk main hn
end
section
variable{X:Cx}{ρ:Rho}{a b e:ar}{es:List ar}{d:D}{pos p:aM}
theorem Has.map(h:∀σ H Q,Jb X a σ H Q->Jb X e σ H Q):∀{r:Rk},Has X ρ a r->Has X ρ e r
 |.e _,q=>λσ H Q R z=>h σ H Q (q σ H Q R z)
 |.o _,q=>λσ H Q R z=>h σ H Q (q σ H Q R z)
 |.w _,q=>λσ H Q R z=>h σ H Q (q σ H Q R z)
 |.t _,q=>λσ H Q R z=>h σ H Q (q σ H Q R z)
theorem Has.bl{r:Rk}{k:Bool}(h:Has X ρ a r)(e:r.d=.bl k):DE X ρ a (.bl k):=DT.toE (e▸h.toT)
theorem Z9{f:Bf}{rs:List Rk}{r:Rk}{p2:aM}{G:aq->Option D}(c:Cok X G)(hq:f=.min\/f=.all\/f=.sum\/f=.any\/f=.max->X.calm=aa)(hg:Gl X f.name)(h:Vo f rs=a8 r)(ha:HasA X ρ es rs):Has X ρ (.Call (.Name f.name p) es [] p2) r:=by
 have one:∀{x:Rk},HasA X ρ es [x]->∃e,es=[e]/\Has X ρ e x/\ah [e] X.env=[(a9,aE e X.env)]:=λ{x} h=>by cases h with|cons hs h t=>cases t;exact⟨_,rfl,h,hs⟩
 have two:∀{x y:Rk},HasA X ρ es [x,y]->∃e f,es=[e,f]/\Has X ρ e x/\Has X ρ f y/\ah [e,f] X.env=(a9,aE e X.env)::ah [f] X.env/\ah [f] X.env=[(a9,aE f X.env)]:=λ{x y} h=>by cases h with|cons hs h t=>cases t with|cons hs2 h2 t2=>cases t2;exact⟨_,_,rfl,h,h2,hs,hs2⟩
 unfold Vo at h;split at h
 .rename_i x;obtain⟨e,ee,hx,hs⟩:=one ha;subst ee;split at h
  .rename_i l el;cases h;exact DE.lenL (el▸hx.toT) (c.bt _ (by decide)) hg hs
  .rename_i l el;cases h;exact DE.lenT (el▸hx.toT) (c.bt _ (by decide)) hg hs
  .rename_i y el;obtain⟨z,q⟩:=jt h;subst q;exact DE.lenS (el▸hx.toT) (z9 z) (c.bt _ (by decide)) hg hs
  .cases h
 .rename_i x y;obtain⟨e,f,ee,hx,hy,hs,hs2⟩:=two ha;subst ee;split at h
  .rename_i i j ei ej;cases h;exact DE.min (ei▸hx.toT) (ej▸hy.toT) (c.bt _ (by decide)) (hq (.inl rfl)) hg hs hs2 (by rw[hs2];rfl)
  .cases h
 .rename_i x y;obtain⟨e,f,ee,hx,hy,hs,hs2⟩:=two ha;subst ee;split at h
  .rename_i i j ei ej;cases h;exact DE.max2 (ei▸hx.toT) (ej▸hy.toT) (c.bt _ (by decide)) (hq (.inr (.inr (.inr (.inr rfl))))) hg hs hs2 (by rw[hs2];rfl)
  .cases h
 .rename_i x;obtain⟨e,ee,hx,hs⟩:=one ha;subst ee;split at h
  .rename_i l el;split at h
   .rename_i ns en;obtain⟨z,q⟩:=jt h;cases q;have:=v5 en;subst this;exact DE.maxL (el▸hx.toT) (λz'=>by subst z';simp at z) (c.bt _ (by decide)) (hq (.inr (.inr (.inr (.inr rfl))))) hg hs
   .cases h
  .cases h
 .rename_i x;obtain⟨e,ee,hx,hs⟩:=one ha;subst ee;split at h
  .rename_i l el;split at h
   .rename_i ns en;obtain⟨z,q⟩:=jt h;cases q;have:=v5 en;subst this;exact DE.minL (el▸hx.toT) (λz'=>by subst z';simp at z) (c.bt _ (by decide)) (hq (.inl rfl)) hg hs
   .cases h
  .cases h
 .rename_i x;obtain⟨e,ee,hx,hs⟩:=one ha;subst ee;split at h
  .rename_i l el;cases q:boolsOf l with
   |none=>rw[q]at h;cases h
   |some bs =>rw[q]at h;cases h;have:=Wc q;subst this;exact DE.all (el▸hx.toT) (c.bt _ (by decide)) (hq (.inr (.inl rfl))) hg hs
  .cases h
 .rename_i x;obtain⟨e,ee,hx,hs⟩:=one ha;subst ee;split at h
  .rename_i l el;cases q:boolsOf l with
   |none=>rw[q]at h;cases h
   |some bs =>rw[q]at h;cases h;have:=Wc q;subst this;exact DE.any (el▸hx.toT) (c.bt _ (by decide)) (hq (.inr (.inr (.inr (.inl rfl))))) hg hs
  .cases h
 .rename_i x;obtain⟨e,ee,hx,hs⟩:=one ha;subst ee;split at h
  .rename_i s l el;cases h;exact DE.tupM (hx.toM el) (c.bt _ (by decide)) hg hs
  .cases h
 .rename_i x;obtain⟨e,ee,hx,hs⟩:=one ha;subst ee;split at h
  .rename_i s l el;cases h;exact DO.listM (hx.toM el) (c.bt _ (by decide)) hg hs
  .cases h
 .rename_i x;obtain⟨e,ee,hx,hs⟩:=one ha;subst ee;split at h
  .rename_i l el;cases q:intsOf l with
   |none=>rw[q]at h;cases h
   |some ns =>rw[q]at h;cases h;have:=v5 q;subst this;exact DE.sum aa (show DT X ρ e (.lst (ns.map D.int))from el▸hx.toT) (c.bt _ (by decide)) (hq (.inr (.inr (.inl rfl)))) hg hs
  .rename_i l el;cases q:intsOf l with
   |none=>rw[q]at h;cases h
   |some ns =>rw[q]at h;cases h;have:=v5 q;subst this;exact DE.sum a9 (show DT X ρ e (.tup (ns.map D.int))from el▸hx.toT) (c.bt _ (by decide)) (hq (.inr (.inr (.inl rfl)))) hg hs
  .cases h
 .rename_i x;obtain⟨e,ee,hx,hs⟩:=one ha;subst ee;split at h
  .rename_i k el;cases h;exact DE.int1 (el▸hx.toT) (c.bt _ (by decide)) hg hs
  .rename_i y el;split at h
   .rename_i hl;obtain⟨n,hn,rfl⟩:=Xm.mp h;exact DE.intS (el▸hx.toT) hn hl (c.bt _ (by decide)) hg hs
   .cases h
  .cases h
 .cases h
end
section
variable{Γ:aq->List D->Rc}{G:aq->Option D}{X:Cx}
theorem j91{d:D}{ns:List Int}(h:tupI d=a8 ns):d=.tup (ns.map D.int):=by
 unfold tupI at h;split at h
 .rw[v5 h]
 .cases h
theorem j32 {ρ:Rho} {f:aq} {e:ar} {es:List ar} {rs:List Rk} {r:Rk} {p p2:aM} (g:Gok X Γ) (hg:Gl X f) (hdb:(f==k7j)=a9) (he:ah (e::es) X.env=(a9,aE e X.env)::ah es X.env)
  (hpl:(aR p2 (ah es X.env)).any (·.1)=a9) (ha:HasA X ρ (e::es) rs)
  (h:(match qx rs with|some ds=>(Γ f ds).rk.map W.v|none=>match Γ f (rs.map Rk.d)with|.val d=>a8 (.v (.t d))|.fresh l=>if qe l=aa then a8 (.v (.o l))else ae|_=>ae)=a8 (.v r)):Has X ρ (.Call (.Name f p) (e::es) [] p2) r:=by
 split at h
 .rename_i ds hds;have q:=g f ds;cases z:Γ f ds with
  |val d=>rw[z]at h q;cases h;exact DE.call q (ha.toA hds) ⟨rfl,rfl⟩ hg hdb he hpl
  |fresh l=>rw[z]at h q;cases h;exact DO.call q (ha.toA hds) ⟨rfl,rfl⟩ hg hdb he hpl
  |err x=>rw[z]at h;cases h
  |lval d=>rw[z]at h;cases h
  |mval d k=>rw[z]at h;cases h
  |merr x=>rw[z]at h;cases h
  |dval d ks ns=>rw[z]at h;cases h
  |no=>rw[z]at h;cases h
 .have q:=g f (rs.map Rk.d);split at h
  .rename_i d z;rw[z]at q;cases h;exact DT.call q ha.toT ⟨rfl,rfl⟩ hg hdb he hpl
  .rename_i l z;rw[z]at q;obtain⟨hn,e1⟩:=jt h;cases e1;exact DO.callT q ha.toT ⟨rfl,rfl⟩ hn hg hdb he hpl
  .cases h
theorem jc9{a:Ex}{ρ:En}{r:Rk}(h:ev Γ G (.rpr a) ρ=a8 (.v r)):∃x y,ev Γ G a ρ=a8 (.v x)/\x.d=.str y/\(cG y).length<=2000/\r=.e (.str (cG y)):=by
 rw[jhn]at h;split at h
 .rename_i x ex;split at h
  .rename_i y ey;split at h
   .rename_i hl;cases h;exact⟨x,y,ex,ey,hl,rfl⟩
   .cases h
  .cases h
 .cases h
theorem Zb:∀{ρ:Rho},noOwn (j5 ρ)=aa->owns ρ=[]
 |[],_=>rfl
 |.un::ρ,h=>Zb (ρ:=ρ) h
 |.val _::ρ,h=>Zb (ρ:=ρ) h
 |.own _ _::ρ,h=>by cases h
 |.raw _ _ _::ρ,h=>Zb (ρ:=ρ) h
theorem jb5{a b:Option W}{r:W}(h:Ou a b=a8 r):∃(x y:Rk)(k:List Int)(ks:List (List Int)) (vs:List D),a=a8 (.v x)/\b=a8 (.v y)/\x.d=.tup (k.map D.int)/\y.d=.dct ks vs/\r=.v (.e (.bl (ks.contains k))):=by
 unfold Ou at h;split at h
 .rename_i x y;split at h
  .rename_i l ks vs el ek;cases q:intsOf l with
   |none=>rw[q]at h;cases h
   |some k =>rw[q]at h;cases h;have:=v5 q;subst this;exact⟨x,y,k,ks,vs,rfl,rfl,el,ek,rfl⟩
  .cases h
 .cases h
end
def XM(X:Cx)(ρ:Rho)(y:aq):Nd->Prop
 |.e e=>DX X ρ e y
 |.a es=>DXA X ρ es y
 |_=>True
structure Tr(X:Cx)(t:Ex)(nd:Nd):Prop where
 m:∀(Γ:aq->List D->Rc)(G:aq->Option D),Cok X G->Gok X Γ->jfo Γ G X t nd
 x:∀(Γ:aq->List D->Rc)(G:aq->Option D),Cok X G->Gok X Γ->∀ρ y,er Γ G t (j5 ρ)=a8 y->XM X ρ y nd
theorem Tr.int:∀{X:Cx}{i:Int}{n:Nat}{p:aM},Tr X (.lit (.int i)) (.e (.Constant (.int i) n p)):=by intro _ _ _ _;refine⟨λΓ G=>?_,λ_ _ _ _ _ _ h=>nomatch h⟩;intro _ _ ρ r h;simp only[Nm]at h;cases h;exact DE.int
theorem Tr.bl:∀{X:Cx}{b:Bool}{n:Nat}{p:aM},Tr X (.lit (.bl b)) (.e (.Constant (.bool b) n p)):=by intro _ _ _ _;refine⟨λΓ G=>?_,λ_ _ _ _ _ _ h=>nomatch h⟩;intro _ _ ρ r h;simp only[Nm]at h;cases h;exact DE.bl
theorem Tr.non:∀{X:Cx}{n:Nat}{p:aM},Tr X (.lit .non) (.e (.Constant .none n p)):=by intro _ _ _;refine⟨λΓ G=>?_,λ_ _ _ _ _ _ h=>nomatch h⟩;intro _ _ ρ r h;simp only[Nm]at h;cases h;exact DE.non
theorem Tr.str:∀{X:Cx}{y:aq}{n:Nat}{p:aM},Tr X (.lit (.str y)) (.e (.Constant (.str y) n p)):=by intro _ _ _ _;refine⟨λΓ G=>?_,λ_ _ _ _ _ _ h=>nomatch h⟩;intro _ _ ρ r h;simp only[Nm]at h;cases h;exact DE.str
theorem Tr.var:∀{X:Cx}{k:Nat}{x:aq}{p:aM}(hN:X.N[k]?=a8 x) (hv:Vis X.env.scope x) (hd:(x==k7j)=a9) (hcd:(x==k7k)=a9),Tr X (.var k) (.e (.Name x p)):=by
 intro _ _ _ _ hN hv hd hcd;refine⟨λΓ G=>?_,λ_ _ _ _ _ _ h=>nomatch h⟩;intro _ _ ρ r h;simp only[jhj,Nu]at h;split at h
 .rename_i e;cases h;exact DE.var _ (Wi e) hN hv hd hcd
 .rename_i e;cases h;obtain⟨a,q⟩:=Qg e;exact DL.var _ q hN hv hd hcd
 .cases h
theorem Tr.glob:∀{X:Cx}{x:aq}{p:aM}(hg:Gl X x)(hd:(x==k7j)=a9) (hb:Vg x=a9),Tr X (.glob x) (.e (.Name x p)):=by
 intro _ _ _ hg hd hb;refine⟨λΓ G=>?_,λ_ _ _ _ _ _ h=>nomatch h⟩;rename_i X x p;intro c _ ρ r h;simp only[jfe]at h;cases e:G x with
 |none=>rw[e]at h;cases h
 |some d=>rw[e]at h;cases h;obtain⟨u,v,hm,r,q⟩:=c.gl x d hb e;exact DE.glob hg hm r q hd
theorem Tr.bin:∀{X:Cx}{op:Bop}{a' b':Ex}{a b:ar}{p:aM},Tr X a' (.e a)->Tr X b' (.e b)->Tr X (.bin op a' b') (.e (.BinOp a op.op b p)):=by
 intro _ _ _ _ _ _ _ q0 q1;refine⟨λΓ G=>?_,λ_ _ _ _ _ _ h=>nomatch h⟩;have iha:=q0.m Γ G;have ihb:=q1.m Γ G;intro c g ρ r h;simp only[jhu,Qo]at h;split at h
 .rename_i x y ex ey;cases e:Ud _ x y with
  |none=>rw[e]at h;cases h
  |some z=>rw[e]at h;cases h;exact j5e e (iha c g ρ x ex) (ihb c g ρ y ey)
 .cases h
theorem Tr.neg:∀{X:Cx}{a':Ex}{a:ar}{p:aM},Tr X a' (.e a)->Tr X (.neg a') (.e (.UnaryOp .USub a p)):=by
 intro _ _ _ _ q0;refine⟨λΓ G=>?_,λ_ _ _ _ _ _ h=>nomatch h⟩;have iha:=q0.m Γ G;intro c g ρ r h;simp only[jho,Ei]at h;split at h
 .rename_i x ex;split at h
  .rename_i i e;cases h;exact DE.neg (e▸(iha c g ρ x ex).toT)
  .cases h
 .cases h
theorem Tr.cmp:∀{X:Cx}{op:Cop}{a' b':Ex}{a b:ar}{p:aM}(hm:aH op.op b=a9),Tr X a' (.e a)->Tr X b' (.e b)->Tr X (.cmp op a' b') (.e (.Compare a [op.op] [b] p)):=by
 intro _ _ _ _ _ _ _ hm q0 q1;refine⟨λΓ G=>?_,λ_ _ _ _ _ _ h=>nomatch h⟩;have iha:=q0.m Γ G;have ihb:=q1.m Γ G;intro c g ρ r h;simp only[j8q,Dq]at h;split at h
 .rename_i x y ex ey;cases e:J1 _ x.d y.d with
  |none=>rw[e]at h;cases h
  |some z=>rw[e]at h;cases h;exact(Lb c.un' e (iha c g ρ x ex).toT (ihb c g ρ y ey).toT hm).1
 .cases h
theorem Tr.bcmp:∀{X:Cx}{op:Cop}{a' b':Ex}{a b:ar}{p:aM}(hm:aH op.op b=a9),Tr X a' (.e a)->Tr X b' (.e b)->Tr X (.cmp op a' b') (.b (.Compare a [op.op] [b] p)):=by
 intro _ _ _ _ _ _ _ hm q0 q1;refine⟨λΓ G=>?_,λ_ _ _ _ _ _ _=>trivial⟩;have iha:=q0.m Γ G;have ihb:=q1.m Γ G;intro c g ρ k h;obtain⟨r,h,hk⟩:=zr h;simp only[j8q,Dq]at h;split at h
 .rename_i x y ex ey;cases e:J1 _ x.d y.d with
  |none=>rw[e]at h;cases h
  |some z=>rw[e]at h;cases h;cases hk;exact(Lb c.un' e (iha c g ρ x ex).toT (ihb c g ρ y ey).toT hm).2
 .cases h
theorem Tr.isN:∀{X:Cx}{a':Ex}{a:ar}{n:Nat}{p p2:aM},Tr X a' (.e a)->Tr X (.isN a') (.e (.Compare a [.Is] [.Constant .none n p2] p)):=by
 intro _ _ _ _ _ _ q0;refine⟨λΓ G=>?_,λ_ _ _ _ _ _ h=>nomatch h⟩;have iha:=q0.m Γ G;intro c g ρ r h;simp only[j37]at h;split at h
 .rename_i x ex;cases h;exact DE.isN (iha c g ρ x ex).toT
 .cases h
theorem Tr.bisN:∀{X:Cx}{a':Ex}{a:ar}{n:Nat}{p p2:aM},Tr X a' (.e a)->Tr X (.isN a') (.b (.Compare a [.Is] [.Constant .none n p2] p)):=by
 intro _ _ _ _ _ _ q0;refine⟨λΓ G=>?_,λ_ _ _ _ _ _ _=>trivial⟩;have iha:=q0.m Γ G;intro c g ρ k h;obtain⟨r,h,hk⟩:=zr h;simp only[j37]at h;split at h
 .rename_i x ex;cases h;cases hk;exact DB.isN (iha c g ρ x ex).toT
 .cases h
theorem Tr.bisNN:∀{X:Cx}{a':Ex}{a:ar}{n:Nat}{p p2:aM},Tr X a' (.e a)->Tr X (.not (.isN a')) (.b (.Compare a [.IsNot] [.Constant .none n p2] p)):=by
 intro _ _ _ _ _ _ q0;refine⟨λΓ G=>?_,λ_ _ _ _ _ _ _=>trivial⟩;have iha:=q0.m Γ G;intro c g ρ k h;obtain⟨r,h,hk⟩:=zr h;simp only[j36,j37]at h;cases e:truth _ with
 |none=>rw[e]at h;cases h
 |some k =>
  rw[e]at h;cases h;cases hk;obtain⟨x,ex,ed⟩:=zr e;split at ex
  .rename_i y ey;cases ex;cases ed;exact DB.isNotN (iha c g ρ y ey).toT
  .cases ex
theorem Tr.one:∀{X:Cx}{a':Ex}{a:ar}{op:BoolOp}{p:aM},Tr X a' (.e a)->Tr X a' (.e (.BoolOp op [a] p)):=by intro _ _ _ _ _ q0;refine⟨λΓ G=>?_,λΓ G c g ρ y h σ H Q R k=>(j42 peS).to (q0.x Γ G c g ρ y h σ H Q R k)⟩;have iha:=q0.m Γ G;intro c g ρ r h;exact Has.map (λσ H Q q=>(j42 peS).to q) (iha c g ρ r h)
theorem Tr.or:∀{X:Cx}{a' t':Ex}{a b:ar}{rest:List ar}{p:aM},Tr X a' (.e a)->Tr X t' (.e (.BoolOp .Or (b::rest) p))->Tr X (.or a' t') (.e (.BoolOp .Or (a::b::rest) p)):=by
 intro _ _ _ _ _ _ _ q0 q1;refine⟨λΓ G=>?_,λ_ _ _ _ _ _ h=>nomatch h⟩;have iha:=q0.m Γ G;have ihb:=q1.m Γ G;intro c g ρ r h;simp only[jfb]at h;split at h
 .rename_i e;cases h;obtain⟨x,ex,ed⟩:=zr e;exact(DE.or (m:=a9) ((iha c g ρ x ex).bl ed).toT λz=>by cases z)
 .rename_i e;obtain⟨x,ex,ed⟩:=zr e;cases e2:truth (ev Γ G _ (j5 ρ)) with
  |none=>rw[e2]at h;cases h
  |some k =>rw[e2]at h;cases h;obtain⟨y,ey,fd⟩:=zr e2;exact(DE.or ((iha c g ρ x ex).bl ed).toT λ_=>(ihb c g ρ y ey).bl fd).eq (by simp)
 .cases h
theorem Tr.wand1:∀{X:Cx}{a':Ex}{a:ar}{p:aM},Tr X a' (.b a)->Tr X a' (.w (.BoolOp .And [a] p)):=by intro _ _ _ _ q0;refine⟨λΓ G=>?_,λ_ _ _ _ _ _ _=>trivial⟩;have iha:=q0.m Γ G;intro c g ρ k h;exact DW.and1 (iha c g ρ k h)
theorem Tr.wor1:∀{X:Cx}{a':Ex}{a:ar}{p:aM},Tr X a' (.b a)->Tr X a' (.w (.BoolOp .Or [a] p)):=by intro _ _ _ _ q0;refine⟨λΓ G=>?_,λ_ _ _ _ _ _ _=>trivial⟩;have iha:=q0.m Γ G;intro c g ρ k h;exact DW.or1 (iha c g ρ k h)
theorem Tr.wand:∀{X:Cx}{a' t':Ex}{a b:ar}{rest:List ar}{p:aM},Tr X a' (.b a)->Tr X t' (.w (.BoolOp .And (b::rest) p))->Tr X (.and a' t') (.w (.BoolOp .And (a::b::rest) p)):=by
 intro _ _ _ _ _ _ _ q0 q1;refine⟨λΓ G=>?_,λ_ _ _ _ _ _ _=>trivial⟩;have iha:=q0.m Γ G;have ihb:=q1.m Γ G;intro c g ρ k h;obtain⟨r,h,hk⟩:=zr h;simp only[jhv]at h;split at h
 .rename_i e;cases h;cases hk;exact DW.and (m:=a9) (iha c g ρ a9 e) λz=>by cases z
 .rename_i e;cases e2:truth (ev Γ G _ (j5 ρ)) with
  |none=>rw[e2]at h;cases h
  |some m =>rw[e2]at h;cases h;cases hk;have q:=DW.and (iha c g ρ aa e) λ_=>ihb c g ρ _ e2;rw[jP]at q;exact q
 .cases h
theorem Tr.wor:∀{X:Cx}{a' t':Ex}{a b:ar}{rest:List ar}{p:aM},Tr X a' (.b a)->Tr X t' (.w (.BoolOp .Or (b::rest) p))->Tr X (.or a' t') (.w (.BoolOp .Or (a::b::rest) p)):=by
 intro _ _ _ _ _ _ _ q0 q1;refine⟨λΓ G=>?_,λ_ _ _ _ _ _ _=>trivial⟩;have iha:=q0.m Γ G;have ihb:=q1.m Γ G;intro c g ρ k h;obtain⟨r,h,hk⟩:=zr h;simp only[jfb]at h;split at h
 .rename_i e;cases h;cases hk;exact DW.or (m:=a9) (iha c g ρ aa e) λz=>by cases z
 .rename_i e;cases e2:truth (ev Γ G _ (j5 ρ)) with
  |none=>rw[e2]at h;cases h
  |some m =>rw[e2]at h;cases h;cases hk;have q:=DW.or (iha c g ρ a9 e) λ_=>ihb c g ρ _ e2;rw[jR]at q;exact q
 .cases h
theorem Tr.bw:∀{X:Cx}{a':Ex}{op:BoolOp}{es:List ar}{p:aM},Tr X a' (.w (.BoolOp op es p))->Tr X a' (.b (.BoolOp op es p)):=by intro _ _ _ _ _ q0;refine⟨λΓ G=>?_,λ_ _ _ _ _ _ _=>trivial⟩;have iha:=q0.m Γ G;intro c g ρ k h;exact DW.toB (iha c g ρ k h)
theorem Tr.bnot:∀{X:Cx}{a':Ex}{a:ar}{p:aM},Tr X a' (.b a)->Tr X (.not a') (.b (.UnaryOp .Not a p)):=by
 intro _ _ _ _ q0;refine⟨λΓ G=>?_,λ_ _ _ _ _ _ _=>trivial⟩;have iha:=q0.m Γ G;intro c g ρ k h;obtain⟨r,h,hk⟩:=zr h;simp only[j36]at h;cases e:truth (ev Γ G _ (j5 ρ)) with
 |none=>rw[e]at h;cases h
 |some m=>rw[e]at h;cases h;cases hk;exact DB.not (iha c g ρ m e)
theorem Tr.bval:∀{X:Cx}{a':Ex}{a:ar}(he:∀whole,fH a X.env whole=(do let v <-whole;standAt a.pos;gL [v] (truthy v))),Tr X a' (.e a)->Tr X a' (.b a):=by intro _ _ _ he q0;refine⟨λΓ G=>?_,λ_ _ _ _ _ _ _=>trivial⟩;have iha:=q0.m Γ G;intro c g ρ k h;obtain⟨r,h,hk⟩:=zr h;exact DB.val ((iha c g ρ r h).bl hk).toT he
theorem Tr.ite:∀{X:Cx}{c' a' b':Ex}{c a b:ar}{p:aM},Tr X c' (.b c)->Tr X a' (.e a)->Tr X b' (.e b)->Tr X (.ite c' a' b') (.e (.IfExp c a b p)):=by
 intro _ _ _ _ _ _ _ _ q0 q1 q2;refine⟨λΓ G=>?_,λ_ _ _ _ _ _ h=>nomatch h⟩;have ihc:=q0.m Γ G;have iha:=q1.m Γ G;have ihb:=q2.m Γ G;intro c g ρ r h;simp only[jhq]at h;split at h
 .rename_i e;split at h
  .rename_i x ex;cases es:x.st with
   |none=>rw[es]at h;cases h
   |some d=>rw[es]at h;cases h;exact(DE.ite (d':=d) (ihc c g ρ aa e) (λ_=>(iha c g ρ x ex).toE es) λz=>by cases z).eq (by simp)
  .cases h
 .rename_i e;split at h
  .rename_i x ex;cases es:x.st with
   |none=>rw[es]at h;cases h
   |some d=>rw[es]at h;cases h;exact(DE.ite (d:=d) (ihc c g ρ a9 e) (λz=>by cases z) λ_=>(ihb c g ρ x ex).toE es).eq (by simp)
  .cases h
 .cases h
theorem Tr.nil:∀{X:Cx},Tr X .nil (.a []):=by intro _;refine⟨λΓ G=>?_,λ_ _ _ _ _ _ h=>nomatch h⟩;intro c g ρ rs h;simp only[Wl]at h;cases h;exact .nil
theorem Tr.cons:∀{X:Cx}{a' b':Ex}{a:ar}{es:List ar}(hs:ah (a::es) X.env=(a9,aE a X.env)::ah es X.env),Tr X a' (.e a)->Tr X b' (.a es)->Tr X (.cons a' b') (.a (a::es)):=by
 intro _ _ _ _ _ hs q0 q1;refine⟨λΓ G=>?_,λΓ G=>?_⟩
 .have iha:=q0.m Γ G;have ihb:=q1.m Γ G;intro c g ρ rs h;simp only[Yl,consW]at h;split at h
  .rename_i x xs ex exs;cases h;exact .cons hs (iha c g ρ x ex) (ihb c g ρ xs exs)
  .cases h
 .skip
  intro c g ρ y h;rw[er]at h;split at h
  .rename_i x ex;cases h;exact DXA.head (q0.x Γ G c g ρ _ ex) hs
  split at h
  .rename_i r ez;exact DXA.tail (q0.m Γ G c g ρ r ez).toT (q1.x Γ G c g ρ y h) hs
  .cases h
theorem Tr.tup:∀{X:Cx}{es':Ex}{es:List ar}{n:Nat}{p:aM},Tr X es' (.a es)->Tr X (.tup es') (.e (.Tuple es n p)):=by
 intro _ _ _ _ _ q0;refine⟨λΓ G=>?_,λ_ _ _ _ _ _ h=>nomatch h⟩;have iha:=q0.m Γ G;intro c g ρ r h;simp only[jhk,U5]at h;split at h
 .rename_i rs ers;split at h
  .rename_i ds hds;obtain⟨z,q⟩:=jt h;cases q;exact DE.tup (n:=0) ((iha c g ρ rs ers).toA hds) (z9 z)
  .cases h
 .cases h
theorem Tr.lst:∀{X:Cx}{es':Ex}{es:List ar}{p:aM},Tr X es' (.a es)->Tr X (.lst es') (.e (.List es p)):=by
 intro _ _ _ _ q0;refine⟨λΓ G=>?_,λ_ _ _ _ _ _ h=>nomatch h⟩;have iha:=q0.m Γ G;intro c g ρ r h;simp only[jhp,Qn]at h;split at h
 .rename_i rs ers;split at h
  .rename_i ds hds;obtain⟨z,q⟩:=jt h;cases q;exact DO.lst ((iha c g ρ rs ers).toA hds) (z9 z)
  .cases h
 .cases h
theorem Tr.ix:∀{X:Cx}{a' b':Ex}{a b:ar}{p:aM}(hs:Jf b),Tr X a' (.e a)->Tr X b' (.e b)->Tr X (.ix a' b') (.e (.Subscript a b p)):=by
 intro _ _ _ _ _ _ hs q0 q1;refine⟨λΓ G=>?_,λΓ G c g ρ y h σ H Q R k=>(Yr R9 peS peS hs).to (q0.x Γ G c g ρ y (by rw[er]at h;exact h) σ H _ R k)⟩;have iha:=q0.m Γ G;have ihb:=q1.m Γ G;intro c g ρ r h;simp only[jja,ixW]at h;split at h
 .rename_i x y ex ey;split at h
  .rename_i s l i hx hy;cases z:atI l i with
   |none=>rw[z]at h;cases h
   |some d=>rw[z]at h;cases h;exact DE.ixM ((iha c g ρ x ex).toM hx) (hy▸(ihb c g ρ y ey).toT) z hs
  .rename_i i hx hy;split at h
   .rename_i y' ed;split at h
    .rename_i hl;cases z:atI y'.cps.toList i with
     |none=>rw[z]at h;cases h
     |some d=>rw[z]at h;cases h;exact DE.ixC (ed▸(iha c g ρ x ex).toT) (hy▸(ihb c g ρ y ey).toT) (z9 hl) z hs
    .cases h
   .cases h
  .cases h
 .cases h
theorem Tr.oN:∀{X:Cx},Tr X .nil (.o ae):=by intro _;refine⟨λΓ G=>?_,λ_ _ _ _ _ _ _=>trivial⟩;intro c g ρ o h;simp only[Wl,Qe]at h;cases h;exact DP.none
theorem Tr.oS:∀{X:Cx}{a':Ex}{a:ar},Tr X a' (.e a)->Tr X (.cons a' .nil) (.o (a8 a)):=by
 intro _ _ _ q0;refine⟨λΓ G=>?_,λ_ _ _ _ _ _ _=>trivial⟩;have iha:=q0.m Γ G;intro c g ρ o h;simp only[Yl,Wl,consW]at h;split at h
 .rename_i x xs ex exs;cases exs;simp only[Qe]at h;split at h
  .rename_i i ei;cases h;exact DP.some (ei▸(iha c g ρ x ex).toT)
  .cases h
 .cases h
theorem Tr.sl:∀{X:Cx}{a' l' h':Ex}{a:ar}{lo hi:Option ar}{p p2:aM},Tr X a' (.e a)->Tr X l' (.o lo)->Tr X h' (.o hi)->Tr X (.sl a' l' h') (.e (.Subscript a (.Slice lo hi ae p2) p)):=by
 intro _ _ _ _ _ _ _ _ _ q0 q1 q2;refine⟨λΓ G=>?_,λ_ _ _ _ _ _ h=>nomatch h⟩;have iha:=q0.m Γ G;have ihl:=q1.m Γ G;have ihh:=q2.m Γ G;intro c g ρ r h;simp only[jj9]at h;split at h
 .rename_i x l hh ex el eh;split at h
  .rename_i ds e;cases h;exact DO.sliceM ((iha c g ρ x ex).toM e) (ihl c g ρ l el) (ihh c g ρ hh eh)
  .rename_i ds e;split at h
   .cases h
   .rename_i z;cases h;exact DE.sliceM ((iha c g ρ x ex).toM e) (ihl c g ρ l el) (ihh c g ρ hh eh) z
  .split at h
   .rename_i y' ed;obtain⟨z,q⟩:=jt h;cases q;exact DE.sliceS (ed▸(iha c g ρ x ex).toT) (ihl c g ρ l el) (ihh c g ρ hh eh) (z9 z)
   .cases h
 .cases h
theorem Tr.call:∀{X:Cx}{f:aq}{es':Ex}{e:ar}{es:List ar}{p p2:aM}(hg:Gl X f) (hdb:(f==k7j)=a9) (he:ah (e::es) X.env=(a9,aE e X.env)::ah es X.env) (hpl:(aR p2 (ah es X.env)).any (·.1)=a9),Tr X es' (.a (e::es))->Tr X (.call f es') (.e (.Call (.Name f p) (e::es) [] p2)):=by
 intro _ f _ _ _ _ _ hg hdb he hpl q0;refine⟨λΓ G=>?_,λΓ G=>?_⟩
 .have iha:=q0.m Γ G;intro c g ρ r h;simp only[jfi,Q3]at h;split at h
  .rename_i rs ers;exact j32 g hg hdb he hpl (iha c g ρ rs ers) h
  .cases h
 .skip
  intro c g ρ y h;rw[er]at h;split at h
  .rename_i x ex;split at h
   .rename_i hz;cases h;obtain⟨d,hd⟩:=Xv.mp hz;obtain⟨fa,hfa,hk⟩:=c.fn _ d hd;exact DX.args (q0.x Γ G c g ρ _ ex) hg hdb hfa hk he hpl
   .cases h
  split at h
  .rename_i rs ers;split at h
   .rename_i z ez;split at h
    .rename_i hz;cases h;have q:=g f (rs.map Rk.d);rw[ez]at q;obtain⟨d,hd⟩:=Xv.mp hz;obtain⟨_,o,ho⟩:=c.ec _ d hd;exact DX.call q (q0.m Γ G c g ρ rs ers).toT ⟨rfl,rfl⟩ (W.mg_of c.kin c.ns ho) hg hdb he hpl
    .cases h
   .cases h
  .cases h
theorem Tr.len:∀{X:Cx}{es':Ex}{e:ar}{p p2:aM}(hg:Gl X "len"),Tr X es' (.a [e])->Tr X (.blt .len es') (.e (.Call (.Name "len" p) [e] [] p2)):=by
 intro _ _ _ _ _ hg q0;refine⟨λΓ G=>?_,λ_ _ _ _ _ _ h=>nomatch h⟩;have iha:=q0.m Γ G;intro c g ρ r h;simp only[Ms,vd]at h;split at h
 .rename_i rs ers;cases e:Vo _ rs with
  |none=>rw[e]at h;cases h
  |some x=>rw[e]at h;cases h;exact Z9 (f:=.len) c (λz=>by rcases z with z|z|z|z|z<;>cases z) hg e (iha c g ρ rs ers)
 .cases h
theorem Tr.tuple:∀{X:Cx}{es':Ex}{e:ar}{p p2:aM}(hg:Gl X "tuple"),Tr X es' (.a [e])->Tr X (.blt .tuple es') (.e (.Call (.Name "tuple" p) [e] [] p2)):=by
 intro _ _ _ _ _ hg q0;refine⟨λΓ G=>?_,λ_ _ _ _ _ _ h=>nomatch h⟩;have iha:=q0.m Γ G;intro c g ρ r h;simp only[Ms,vd]at h;split at h
 .rename_i rs ers;cases e:Vo _ rs with
  |none=>rw[e]at h;cases h
  |some x=>rw[e]at h;cases h;exact Z9 (f:=.tuple) c (λz=>by rcases z with z|z|z|z|z<;>cases z) hg e (iha c g ρ rs ers)
 .cases h
theorem Tr.list:∀{X:Cx}{es':Ex}{e:ar}{p p2:aM}(hg:Gl X "list"),Tr X es' (.a [e])->Tr X (.blt .list es') (.e (.Call (.Name "list" p) [e] [] p2)):=by
 intro _ _ _ _ _ hg q0;refine⟨λΓ G=>?_,λ_ _ _ _ _ _ h=>nomatch h⟩;have iha:=q0.m Γ G;intro c g ρ r h;simp only[Ms,vd]at h;split at h
 .rename_i rs ers;cases e:Vo _ rs with
  |none=>rw[e]at h;cases h
  |some x=>rw[e]at h;cases h;exact Z9 (f:=.list) c (λz=>by rcases z with z|z|z|z|z<;>cases z) hg e (iha c g ρ rs ers)
 .cases h
theorem Tr.sum:∀{X:Cx}{es':Ex}{e:ar}{p p2:aM}(hq:X.calm=aa)(hg:Gl X "sum"),Tr X es' (.a [e])->Tr X (.blt .sum es') (.e (.Call (.Name "sum" p) [e] [] p2)):=by
 intro _ _ _ _ _ hq hg q0;refine⟨λΓ G=>?_,λ_ _ _ _ _ _ h=>nomatch h⟩;have iha:=q0.m Γ G;intro c g ρ r h;simp only[Ms,vd]at h;split at h
 .rename_i rs ers;cases e:Vo _ rs with
  |none=>rw[e]at h;cases h
  |some x=>rw[e]at h;cases h;exact Z9 (f:=.sum) c (λ_=>hq) hg e (iha c g ρ rs ers)
 .cases h
theorem Tr.intc:∀{X:Cx}{es':Ex}{e:ar}{p p2:aM}(hg:Gl X "int"),Tr X es' (.a [e])->Tr X (.blt .int es') (.e (.Call (.Name "int" p) [e] [] p2)):=by
 intro _ _ _ _ _ hg q0;refine⟨λΓ G=>?_,λ_ _ _ _ _ _ h=>nomatch h⟩;have iha:=q0.m Γ G;intro c g ρ r h;simp only[Ms,vd]at h;split at h
 .rename_i rs ers;cases e:Vo _ rs with
  |none=>rw[e]at h;cases h
  |some x=>rw[e]at h;cases h;exact Z9 (f:=.int) c (λz=>by rcases z with z|z|z|z|z<;>cases z) hg e (iha c g ρ rs ers)
 .cases h
theorem Tr.join:∀{X:Cx}{a':Ex}{a:ar}{sep:aq}{n:Nat}{p0 p1 p2:aM}(hbase:bh (.Constant (.str sep) n p0) "join" X.env (aE (.Constant (.str sep) n p0) X.env)=aE (.Constant (.str sep) n p0) X.env) (hfew:((aR p2 (ah [a] X.env)).all (λx=>!x.1)&&(cS p2 (bH [] X.env)).all (λx=>x.1.isSome)&&decide (([a]:List ar).length+([]:List bg).length+(if ([]:List bg).isEmpty then 0 else 1)<30))=aa) (hline:(p1.endLine==p2.line)=aa) (hs:ah [a] X.env=(a9,aE a X.env)::ah [] X.env),Tr X a' (.e a)->Tr X (.join sep a') (.e (.Call (.Attribute (.Constant (.str sep) n p0) "join" p1) [a] [] p2)):=by
 intro _ _ _ _ _ _ _ _ hbase hfew hline hs q0;refine⟨λΓ G=>?_,λ_ _ _ _ _ _ h=>nomatch h⟩;have iha:=q0.m Γ G;intro c g ρ r h;simp only[jfd,M9]at h;split at h
 .rename_i x ex;split at h
  .rename_i l el;split at h
   .rename_i ts et;obtain⟨z,q⟩:=jt h;cases q;have:=Wr et;subst this;exact DE.join (el▸(iha c g ρ x ex).toT) z hfew hbase hline hs
   .cases h
  .cases h
 .cases h
theorem Tr.lset:∀{X:Cx}{a':Ex}{a:ar}{p p1 p2 pos:aM}(hq:X.calm=aa)(hg:Gl X "len") (hg2:Gl X "set") (hs:ah [a] X.env=[(a9,aE a X.env)]) (hs2:ah [.Call (.Name "set" p1) [a] [] p2] X.env=[(a9,aE (.Call (.Name "set" p1) [a] [] p2) X.env)]),Tr X a' (.e a)->Tr X (.lset a') (.e (.Call (.Name "len" p) [.Call (.Name "set" p1) [a] [] p2] [] pos)):=by
 intro _ _ _ _ _ _ _ hq hg hg2 hs hs2 q0;refine⟨λΓ G=>?_,λ_ _ _ _ _ _ h=>nomatch h⟩;have iha:=q0.m Γ G;intro c g ρ r h;simp only[jfc,Vr]at h;split at h
 .rename_i x ex;split at h
  .rename_i l el;split at h
   .rename_i ts et;obtain⟨z,q⟩:=jt h;cases q;have:=Wr et;subst this;exact DE.lenSet (el▸(iha c g ρ x ex).toT) hq nofun (c.bt _ (by decide)) (c.bt _ (by decide)) hg hg2 hs hs2
   .split at h
    .rename_i ts et;obtain⟨z,q⟩:=jt h;cases q;have:=v5 et;subst this;exact DE.lenSetI (el▸(iha c g ρ x ex).toT) hq nofun (c.bt _ (by decide)) (c.bt _ (by decide)) hg hg2 hs hs2
    .cases h
  .cases h
 .cases h
theorem Tr.tix:∀{X:Cx}{a' b':Ex}{a e:ar}{p1 p2:aM}(hbase:bh a "index" X.env (aE a X.env)=aE a X.env) (hfew:((aR p2 (ah [e] X.env)).all (λx=>!x.1)&&(cS p2 (bH [] X.env)).all (λx=>x.1.isSome)&&decide (([e]:List ar).length+([]:List bg).length+(if ([]:List bg).isEmpty then 0 else 1)<30))=aa) (hline:(p1.endLine==p2.line)=aa) (hs:ah [e] X.env=(a9,aE e X.env)::ah [] X.env),Tr X a' (.e a)->Tr X b' (.e e)->Tr X (.tix a' b') (.e (.Call (.Attribute a "index" p1) [e] [] p2)):=by
 intro _ _ _ _ _ _ _ hbase hfew hline hs q0 q1;refine⟨λΓ G=>?_,λ_ _ _ _ _ _ h=>nomatch h⟩;have iha:=q0.m Γ G;have ihb:=q1.m Γ G;intro c g ρ r h;simp only[jhl,Wq]at h;split at h
 .rename_i x y ex ey;split at h
  .rename_i l el;by_cases z:D.depL l<=90/\y.d.dep<=90
   .rw[if_pos z]at h;cases e:ixD y.d l with
    |none=>rw[e]at h;cases h
    |some k=>rw[e]at h;cases h;exact DE.indexT c.un' (el▸(iha c g ρ x ex).toT) (ihb c g ρ y ey).toT nofun nofun e hbase hfew hline hs
   .rw[if_neg z]at h;cases h
  .rename_i l el;by_cases z:D.depL l<=90/\y.d.dep<=90
   .rw[if_pos z]at h;cases e:ixD y.d l with
    |none=>rw[e]at h;cases h
    |some k=>rw[e]at h;cases h;exact DE.indexL c.un' (el▸(iha c g ρ x ex).toT) (ihb c g ρ y ey).toT nofun nofun e hbase hfew hline hs
   .rw[if_neg z]at h;cases h
  .cases h
 .cases h
theorem Tr.any:∀{X:Cx}{es':Ex}{e:ar}{p p2:aM}(hq:X.calm=aa)(hg:Gl X "any"),Tr X es' (.a [e])->Tr X (.blt .any es') (.e (.Call (.Name "any" p) [e] [] p2)):=by
 intro _ _ _ _ _ hq hg q0;refine⟨λΓ G=>?_,λ_ _ _ _ _ _ h=>nomatch h⟩;have iha:=q0.m Γ G;intro c g ρ r h;simp only[Ms,vd]at h;split at h
 .rename_i rs ers;cases e:Vo _ rs with
  |none=>rw[e]at h;cases h
  |some x=>rw[e]at h;cases h;exact Z9 (f:=.any) c (λ_=>hq) hg e (iha c g ρ rs ers)
 .cases h
theorem Tr.bdnin:∀{X:Cx}{a' b':Ex}{a b:ar}{p:aM}(hm:aH .NotIn b=a9),Tr X a' (.e a)->Tr X b' (.e b)->Tr X (.not (.din a' b')) (.b (.Compare a [.NotIn] [b] p)):=by
 intro _ _ _ _ _ _ hm q0 q1;refine⟨λΓ G=>?_,λ_ _ _ _ _ _ _=>trivial⟩;have iha:=q0.m Γ G;have ihb:=q1.m Γ G;intro c g ρ k h;obtain⟨r,h,hk⟩:=zr h;simp only[j36,jht]at h;cases e:truth _ with
 |none=>rw[e]at h;cases h
 |some k =>rw[e]at h;cases h;cases hk;obtain⟨z,ez,ed⟩:=zr e;obtain⟨x,y,k,ks,vs,ex,ey,el,ek,er⟩:=jb5 ez;cases er;cases ed;exact DB.notinT c.un' (el▸(iha c g ρ x ex).toT) (ek▸(ihb c g ρ y ey).toT) hm
theorem Tr.enum:∀{X:Cx}{a':Ex}{a:ar}{es:List ar}{n:Nat}{p p2 pt:aM}(hg:Gl X "enumerate") (hs:ah [a] X.env=[(a9,aE a X.env)]),Tr X a' (.e a)->Tr X (.enum a') (.i (.Tuple es n pt) (.Call (.Name "enumerate" p) [a] [] p2)):=by
 intro _ _ _ _ _ _ _ _ hg hs q0;refine⟨λΓ G=>?_,λ_ _ _ _ _ _ _=>trivial⟩;have iha:=q0.m Γ G;intro c g ρ ds h;simp only[jff,Mh]at h;split at h
 .rename_i x ex;have ha:=iha c g ρ x ex;split at h
  .rename_i l e1;cases h;exact DI.enum aa (ha.toE e1) (c.bt _ (by decide)) hg hs
  .rename_i l e1;cases h;exact DI.enum a9 (ha.toE e1) (c.bt _ (by decide)) hg hs
  .cases h
 .cases h
theorem Tr.fcl:∀{X:Cx}{g:aq}{es':Ex}{es:List ar}{p p1 pos:aM}(hg:Gl X g)(hdb:(g==k7j)=a9) (hs:ah (.Dict [] [] p1::es) X.env=(a9,aE (.Dict [] [] p1) X.env)::ah es X.env) (hpl:(aR pos (ah es X.env)).any (·.1)=a9),Tr X es' (.a es)->Tr X (.fcl g es') (.e (.Call (.Name g p) (.Dict [] [] p1::es) [] pos)):=by
 intro _ g' es' es p p1 pos hg hdb hs hpl q0;refine⟨λΓ G=>?_,λ_ _ _ _ _ _ h=>nomatch h⟩;have iha:=q0.m Γ G;intro c g ρ r h;simp only[jhs,Dl]at h;split at h
 .rename_i rs eo ers;split at h
  .rename_i ds eds;have q:=g (dq g') (.dct [] (([]:List Int).map D.int)::ds);split at h
   .rename_i d ks ns z;cases h;rw[z]at q;exact DE.fcl (q g' [] [] ds rfl rfl) ((iha c g ρ rs ers).toA eds) ⟨rfl,rfl,rfl,rfl,rfl,rfl⟩ (Zb eo) hg hdb hs hpl
   .cases h
  .cases h
 .cases h
theorem Tr.dget:∀{X:Cx}{a' b':Ex}{a b:ar}{p:aM}(hs:Jf b),Tr X a' (.e a)->Tr X b' (.e b)->Tr X (.dget a' b') (.e (.Subscript a b p)):=by
 intro _ _ _ _ _ _ hs q0 q1;refine⟨λΓ G=>?_,λΓ G=>?_⟩
 .have iha:=q0.m Γ G;have ihb:=q1.m Γ G;intro c g ρ r h;simp only[jfg,Mi]at h;split at h
  .rename_i ks ds y ex ey;split at h
   .rename_i k ek;cases e:Q0 ks ds k with
    |none=>rw[e]at h;cases h
    |some d=>rw[e]at h;cases h;exact DE.dget c.un' ((iha c g ρ (.e (.dct ks ds)) ex).toE rfl) (j91 ek▸(ihb c g ρ y ey).toT) e hs
   .cases h
  .cases h
 .skip
  intro c g ρ y h;rw[er]at h;split at h
  .rename_i x ex;cases h;exact λσ H Q R k=>(Yr R9 peS peS hs).to (q0.x Γ G c g ρ _ ex σ H _ R k)
  split at h
  .rename_i r ez;exact λσ H Q R k=>(Yr R9 peS peS hs).to ((q0.m Γ G c g ρ r ez).toT σ H _ R λv H1 g1 e1=>q1.x Γ G c g ρ y h σ H1 _ (R.grow g1) (k.mono g1))
  .cases h
theorem Tr.c0:∀{X:Cx},Tr X .nil (.c []):=by intro _;refine⟨λΓ G=>?_,λ_ _ _ _ _ _ _=>trivial⟩;intro c g ρ;exact⟨λ_=>DTs.nil,λy k h=>by simp only[Wl]at h;cases h⟩
theorem Tr.c1:∀{X:Cx}{c':Ex}{c:ar},Tr X c' (.b c)->Tr X (.cons c' .nil) (.c [c]):=by
 intro _ _ _ q0;refine⟨λΓ G=>?_,λ_ _ _ _ _ _ _=>trivial⟩;have iha:=q0.m Γ G;intro c g ρ;refine⟨λh=>?_,λy k h hk=>DTs.one ?_⟩
 .simp only[Yl,Wl,consW]at h;split at h<;>cases h
 .simp only[Yl,Wl,consW]at h;split at h
  .rename_i x xs ex exs;cases exs;cases h;exact iha c g ρ k (by rw[ex];simp only[truth,hk])
  .cases h
theorem Tr.comp1:∀{X:Cx}{i:Nat}{y:aq}{py p:aM}{elt' it' c':Ex}{elt it:ar}{ifs:List ar} {scope:b8} (hq:X.calm=aa) (hi:X.N[i]?=a8 y) (hl:V0 scope y=aa) (hkind:scope.kind=.function) (hok:zq scope X.env X.N [i]=aa) (hs:∀x,aK it X.env x=pure x),Tr X it' (.i (.Name y py) it)->(∀C s H fp pn,Tr (cCx X scope C s H fp pn) elt' (.e elt))->(∀C s H fp pn,Tr (cCx X scope C s H fp pn) c' (.c ifs))->Tr X (.comp [i] elt' it' c') (.e (.ListComp elt [⟨.Name y py,it,ifs,0⟩] scope p)):=by
 intro _ _ _ _ _ _ _ _ _ _ _ _ hq hi hl hkind hok hs q0 q1 q2;refine⟨λΓ G=>?_,λ_ _ _ _ _ _ h=>nomatch h⟩;have ihi:=q0.m Γ G;have ihe:=λC s H fp pn=>(q1 C s H fp pn).m Γ G;have ihc:=λC s H fp pn=>(q2 C s H fp pn).m Γ G;intro c g ρ r h;obtain⟨l,e,q⟩:=Nh hq c (λρ ds z=>ihi c g ρ ds z) hkind hok hs (λρ d ρ2 hb hun=>by
  simp only[qt]at hb
  cases hb
  have hu:=hun _ (xj.mpr rfl)
  exact⟨_,jw,Wk.set hu,Qs hu,λC s H fp pn=>DG.name _ c.nd hi (Zt hl) (Y0 hl)⟩)
  (λC s H fp pn ρ r z=>ihe C s H fp pn c.comp g.comp ρ r z) (λC s H fp pn ρ=>ihc C s H fp pn c.comp g.comp ρ) h
 subst e;exact q
theorem Tr.comp2:∀{X:Cx}{i j:Nat}{x y:aq}{px py pt p:aM}{n:Nat}{elt' it' c':Ex}{elt it:ar} {ifs:List ar} {scope:b8} (hq:X.calm=aa) (hij:i≠j) (hi:X.N[i]?=a8 x) (hj:X.N[j]?=a8 y) (hl:V0 scope x=aa) (hl':V0 scope y=aa) (hkind:scope.kind=.function) (hok:zq scope X.env X.N [i,j]=aa) (hs:∀x,aK it X.env x=pure x),Tr X it' (.i (.Tuple [.Name x px,.Name y py] n pt) it)->(∀C s H fp pn,Tr (cCx X scope C s H fp pn) elt' (.e elt))->(∀C s H fp pn,Tr (cCx X scope C s H fp pn) c' (.c ifs))->Tr X (.comp [i,j] elt' it' c') (.e (.ListComp elt [⟨.Tuple [.Name x px,.Name y py] n pt,it,ifs,0⟩] scope p)):=by
 intro _ i j _ _ _ _ _ _ _ _ _ _ _ _ _ _ hq hij hi hj hl hl' hkind hok hs q0 q1 q2;refine⟨λΓ G=>?_,λ_ _ _ _ _ _ h=>nomatch h⟩;have ihi:=q0.m Γ G;have ihe:=λC s H fp pn=>(q1 C s H fp pn).m Γ G;have ihc:=λC s H fp pn=>(q2 C s H fp pn).m Γ G;intro c g ρ r h;obtain⟨l,e,q⟩:=Nh hq c (λρ ds z=>ihi c g ρ ds z) hkind hok hs (λρ d ρ2 hb hun=>by
  simp only[qt]at hb
  split at hb
  .rename_i a b
   cases hb
   have hu:=hun _ (X3 ..)
   have hu':=hun _ (xm _ (xj.mpr rfl))
   have h1:(ρ.set i (.val a))[j]?=a8 Sl.un:=by rw[qb hij];exact hu'
   exact⟨(ρ.set i (.val a)).set j (.val b),by rw[jw,jw];rfl,λK σ H R=>Wk.set hu K σ H (Wk.set h1 K σ H R),by rw[Qs h1,Qs hu],
    λC s H fp pn=>DG.pair _ _ hij c.nd hi hj (Zt hl) (Zt hl') (Y0 hl) (Y0 hl') hq⟩
  .cases hb)
  (λC s H fp pn ρ r z=>ihe C s H fp pn c.comp g.comp ρ r z) (λC s H fp pn ρ=>ihc C s H fp pn c.comp g.comp ρ) h
 subst e;exact q
theorem Tr.seq:∀{X:Cx}{a':Ex}{tg a:ar},Tr X a' (.e a)->Tr X (.seq a') (.i tg a):=by
 intro _ _ _ _ q0;refine⟨λΓ G=>?_,λ_ _ _ _ _ _ _=>trivial⟩;have iha:=q0.m Γ G;intro c g ρ ds h;simp only[jhm,O9]at h;split at h
 .rename_i l e;cases h;exact DI.lst (iha c g ρ _ e)
 .rename_i l e;cases h;exact DI.tup (iha c g ρ _ e)
 .rename_i l e;cases h;exact DI.lst (DO.toE (iha c g ρ _ e))
 .rename_i y e;obtain⟨z,q⟩:=jt h;cases q;exact DI.str (iha c g ρ _ e).toT z
 .cases h
theorem Tr.range:∀{X:Cx}{es':Ex}{tg:ar}{es:List ar}{p p2:aM}(hg:Gl X "range"),Tr X es' (.a es)->Tr X (.range es') (.i tg (.Call (.Name "range" p) es [] p2)):=by
 intro _ _ _ _ _ _ hg q0;refine⟨λΓ G=>?_,λ_ _ _ _ _ _ _=>trivial⟩;have iha:=q0.m Γ G;intro c g ρ ds h;simp only[jbk,Wv]at h;split at h
 .rename_i x ex;have q:=iha c g ρ _ ex;cases q with|cons hs hx t =>
  cases t;split at h
  .rename_i n en;obtain⟨z,q⟩:=jt h;cases q;exact DI.range1 (en▸hx.toT) (c.bt _ (by decide)) z.1 z.2 hg hs
  .cases h
 .rename_i x y ex;have q:=iha c g ρ _ ex;cases q with|cons hs hx t =>
  cases t with|cons hs2 hy t2 =>
  cases t2;split at h
  .rename_i m n em en;obtain⟨z,q⟩:=jt h;cases q;exact DI.range2 (em▸hx.toT) (en▸hy.toT) (c.bt _ (by decide)) z.1 z.2.1 z.2.2.1 z.2.2.2 hg (by rw[hs,hs2];rfl) hs2 hs
  .cases h
 .cases h
theorem Tr.zip:∀{X:Cx}{a' b':Ex}{a b:ar}{es:List ar}{n:Nat}{p p2 pt:aM}(hg:Gl X "zip") (hs:ah [a,b] X.env=(a9,aE a X.env)::ah [b] X.env) (hs2:ah [b] X.env=(a9,aE b X.env)::ah [] X.env),Tr X a' (.e a)->Tr X b' (.e b)->Tr X (.zip a' b') (.i (.Tuple es n pt) (.Call (.Name "zip" p) [a,b] [] p2)):=by
 intro _ _ _ _ _ _ _ _ _ _ hg hs hs2 q0 q1;refine⟨λΓ G=>?_,λ_ _ _ _ _ _ _=>trivial⟩;have iha:=q0.m Γ G;have ihb:=q1.m Γ G;intro c g ρ ds h;simp only[jhi,Nr]at h;split at h
 .rename_i x y ex ey;have ha:=iha c g ρ x ex;have hb:=ihb c g ρ y ey;have pl:∀{p2:aM},(aR p2 (ah [_] _)).any (·.1)=a9:=λ{p2}=>by rw[hs2];rfl
  split at h
  .rename_i l m e1 e2;cases h;exact DI.zip aa aa (ha.toE e1) (hb.toE e2) (c.bt _ (by decide)) hg hs hs2 pl
  .rename_i l m e1 e2;cases h;exact DI.zip aa a9 (ha.toE e1) (hb.toE e2) (c.bt _ (by decide)) hg hs hs2 pl
  .rename_i l m e1 e2;cases h;exact DI.zip a9 aa (ha.toE e1) (hb.toE e2) (c.bt _ (by decide)) hg hs hs2 pl
  .rename_i l m e1 e2;cases h;exact DI.zip a9 a9 (ha.toE e1) (hb.toE e2) (c.bt _ (by decide)) hg hs hs2 pl
  .cases h
 .cases h
theorem Tr.p0:∀{X:Cx},Tr X .nil (.p []):=by intro _;refine⟨λΓ G=>?_,λ_ _ _ _ _ _ _=>trivial⟩;intro c g ρ rs h;simp only[Wl]at h;cases h;trivial
theorem Tr.pC:∀{X:Cx}{y:aq}{n:Nat}{p:aM}{b':Ex}{es:List ar},Tr X b' (.p es)->Tr X (.cons (.lit (.str y)) b') (.p (.Constant (.str y) n p::es)):=by
 intro _ _ _ _ _ _ q0;refine⟨λΓ G=>?_,λ_ _ _ _ _ _ _=>trivial⟩;have ihb:=q0.m Γ G;intro c g ρ rs h;simp only[Yl,Nm,consW]at h;split at h
 .rename_i x xs ex exs;cases h;cases ex;refine⟨λz hz=>?_,ihb c g ρ xs exs⟩;have hz:(if _ then a8 _ else ae)=a8 z:=hz;split at hz
  .cases hz;exact DE.str
  .cases hz
 .cases h
theorem Tr.pR:∀{X:Cx}{a' b':Ex}{a:ar}{p:aM}{es:List ar},Tr X a' (.e a)->Tr X b' (.p es)->Tr X (.cons (.rpr a') b') (.p (.FormattedValue a 114 ae p::es)):=by
 intro _ a' b' _ _ _ q0 q1;refine⟨λΓ G=>?_,λ_ _ _ _ _ _ _=>trivial⟩;have iha:=q0.m Γ G;have ihb:=q1.m Γ G;intro c g ρ rs h;rw[Yl]at h;unfold consW at h;split at h
 .rename_i x xs ex exs;cases h;obtain⟨z,w,ez,ew,hl,rfl⟩:=jc9 ex;refine⟨λy hy=>?_,ihb c g ρ xs exs⟩;have hy:(if (cG w).length<=10000 then a8 (cG w)else ae)=a8 y:=hy;rw[if_pos (Xh hl (by decide))]at hy;cases hy;exact DE.fmtR (ew▸(iha c g ρ z ez).toT) (Xh hl (by decide))
 .cases h
theorem Tr.pF:∀{X:Cx}{a' b':Ex}{a:ar}{p:aM}{es:List ar}(hq:X.calm=aa),Tr X a' (.e a)->Tr X b' (.p es)->Tr X (.cons a' b') (.p (.FormattedValue a (-1) ae p::es)):=by
 intro _ _ _ _ _ _ hq q0 q1;refine⟨λΓ G=>?_,λ_ _ _ _ _ _ _=>trivial⟩;have iha:=q0.m Γ G;have ihb:=q1.m Γ G;intro c g ρ rs h;simp only[Yl,consW]at h;split at h
 .rename_i x xs ex exs;cases h;exact⟨λy hy=>DE.fmt (c.gd hq) c.un' (iha c g ρ x ex).toT hy,ihb c g ρ xs exs⟩
 .cases h
theorem Tr.fst:∀{X:Cx}{es':Ex}{a b:ar}{es:List ar}{p:aM},Tr X es' (.p (a::b::es))->Tr X (.fst es') (.e (.JoinedStr (a::b::es) p)):=by
 intro _ _ _ _ _ _ q0;refine⟨λΓ G=>?_,λ_ _ _ _ _ _ h=>nomatch h⟩;have ih:=q0.m Γ G;intro c g ρ r h;simp only[jhr,j71]at h;split at h
 .rename_i rs ers;split at h
  .rename_i hl;cases e:Qh rs with
   |none=>rw[e]at h;cases h
   |some ys =>rw[e]at h;cases h;obtain⟨z1,z2⟩:=(ih c g ρ rs ers).all e;exact DE.joined z1 (Mv e) (by rw[z2];exact hl)
  .cases h
 .cases h
section
variable{Γ:aq->List D->Rc}{G:aq->Option D}{X:Cx}
theorem sound{t:Ex}{nd:Nd}(h:Tr X t nd):Cok X G->Gok X Γ->jfo Γ G X t nd:=h.m Γ G
theorem Ib{t:Ex}{nd:Nd}(h:Tr X t nd):Cok X G->Gok X Γ->∀ρ y,er Γ G t (j5 ρ)=a8 y->XM X ρ y nd:=h.x Γ G
end
inductive Px where
 |nop
inductive Dx where
 |fill (s t:Nat) (c:Ex) (f:aq) (es:Ex)
 |minc (t j:Nat) (it:Ex) (f:aq) (es:Ex)
 |maxc (t j:Nat) (it:Ex) (f:aq) (es:Ex)
inductive Sx where
 |nop
 |seq (a b:Sx)
 |set (i:Nat) (e:Ex)
 |mov (i j:Nat)
 |expr (e:Ex)
 |ret (e:Ex)
 |retV (i:Nat)
 |brk
 |ife (c:Ex) (a b:Sx)
 |loop (is:List Nat) (it:Ex) (body:Sx)
 |app (i:Nat) (e:Ex)
 |ext (i:Nat) (e:Ex)
 |fgt (i:Nat)
 |keep (i:Nat)
 |dx (p:Dx)
 |lmk (x:Nat) (g:aq) (es:Ex)
 |raise (x:aq) (e:Ex)
 |fail
inductive So where
 |next (ρ:En)
 |ret (r:Rc)
 |brk (ρ:En)
 |cnt (ρ:En)
 |err (x:aq) (ρ:En)
 |no
noncomputable def orE(o:So)(x:Option aq)(ρ:En):So:=match o with
 |.no=>match x with
  |some y=>.err y ρ
  |none=>.no
 |o=>o
noncomputable def zx(f:D->En->So):List D->En->So
 |[],ρ=>.next ρ
 |d::ds,ρ=>match f d ρ with
  |.next ρ'=>zx f ds ρ'
  |.cnt ρ'=>zx f ds ρ'
  |.brk ρ'=>.next ρ'
  |.ret r=>.ret r
  |.err x ρ'=>.err x ρ'
  |.no=>.no
noncomputable def stOf:Option W->Option D
 |some (.v x)=>x.st
 |_=>ae
noncomputable def Uz(i:Nat)(w:Option W)(ρ:En):So:=match w with
 |some (.v (.o l))=>.next (ρ.set i (.own l))
 |some (.v x)=>match x.st with
  |some d=>.next (ρ.set i (.val d))
  |none=>.no
 |_=>.no
noncomputable def retS(w:Option W):So:=match w with
 |some (.v (.o l))=>.ret (.fresh l)
 |some (.v x)=>.ret (.val x.d)
 |_=>.no
noncomputable def M4(s:Option Sv):So:=match s with
 |some (.own l)=>.ret (.fresh l)
 |some (.val d)=>.ret (.val d)
 |_=>.no
noncomputable def Fw(i j:Nat)(s:Option Sv)(ρ:En):So:=match s with
 |some (.own l)=>if i=j then .no else .next ((ρ.set j .un).set i (.own l))
 |some (.val d)=>.next (ρ.set i (.val d))
 |_=>.no
noncomputable def Ey(w:Option W)(ρ:En):So:=match w with
 |some (.v _)=>.next ρ
 |_=>.no
noncomputable def Du(i:Nat)(s:Option Sv)(w:Option W)(ρ:En):So:=match s,w with
 |some (.own l),a8 (.v x)=>match x.st with
  |some d=>if l.length<av then .next (ρ.set i (.own (l++[d])))else .no
  |none=>.no
 |_,_=>.no
noncomputable def Dn(i:Nat)(s:Option Sv)(w:Option W)(ρ:En):So:=match s,w with
 |some (.own l),a8 (.v (.o m))=>if jj (l.length+m.length)=aa then .next (ρ.set i (.own (l++m)))else .no
 |_,_=>.no
noncomputable def j68(x:aq)(w:Option W)(d:Option D)(ρ:En):So:=match w,d with
 |some (.v _),a8 _=>.err x ρ
 |_,_=>.no
noncomputable def Bu(i:Nat)(v:Option Sv)(ρ:En):So:=match v with
 |some (.own l)=>.next (ρ.set i (.val (.lst l)))
 |some (.val _)=>.next ρ
 |_=>.no
noncomputable def Oz:Sx->List Nat
 |.seq a b=>Oz a++Oz b
 |.set i _=>[i]
 |.ife _ a b=>Oz a++Oz b
 |_=>[]
noncomputable def Fp(Γ:aq->List D->Rc)(G:aq->Option D):Sx->En->Option En
 |.nop,ρ=>a8 ρ
 |.seq a b,ρ=>match Fp Γ G a ρ with
  |some r=>Fp Γ G b r
  |none=>ae
 |.set i e,ρ=>match stOf (ev Γ G e ρ) with
  |some d=>a8 (ρ.set i (.val d))
  |none=>ae
 |.ife c a b,ρ=>match truth (ev Γ G c ρ) with
  |some aa=>Fp Γ G a ρ
  |some a9=>Fp Γ G b ρ
  |none=>ae
 |_,_=>ae
inductive Sm where
 |next (ρ:En) (k:Nat)
 |ret (d:D) (k:Nat)
 |err (x:aq) (ρ:En)
 |no
noncomputable def jin(fu:Nat)(Γ:aq->List D->Rc)(G:aq->Option D)(ls:List aq):Px->En->Nat->Sm
 |.nop,ρ,k=>.next ρ k
noncomputable def qy(Γ:aq->List D->Rc)(f:aq)(a:Option W)(ks:List (List Int))(ns:List Int):Option (D×List (List Int)×List Int):=match a with
 |some (.a rs)=>match qx rs with
  |some ds=>match Γ (dq f) (.dct ks (ns.map D.int)::ds) with
   |.dval d ks' ns'=>a8 (d,ks',ns')
   |_=>ae
  |none=>ae
 |_=>ae
noncomputable def v7(f:D->List (List Int)->List Int->Option (D×List (List Int)×List Int)):List D->List (List Int)->List Int->Option (List D×List (List Int)×List Int)
 |[],ks,ns=>a8 ([],ks,ns)
 |d::l,ks,ns=>match f d ks ns with
  |none=>ae
  |some (r,ks1,ns1)=>match v7 f l ks1 ns1 with
   |none=>ae
   |some (rs,ks2,ns2)=>a8 (r::rs,ks2,ns2)
noncomputable def Y6:List D->List D->Option (List (List Int))
 |[],[]=>a8 []
 |.int n::rs,.int s::ds=>(Y6 rs ds).map ([n,s] :: ·)
 |_,_=>ae
noncomputable def jdx(s:Option Sv):Bool:=match s with
 |some .un=>aa
 |_=>a9
noncomputable def lsD(t j:Nat)(w:Option W)(ρ:En):Option (List D×En):=match w with
 |some (.v (.o l))=>if l.length<=1000/\j≠0/\t≠0/\j≠t/\jdx ρ[j]?=aa/\t<ρ.length then a8 (l,ρ.set t (.val (.lst l)))else ae
 |_=>ae
noncomputable def W5(s t:Nat)(ρ:En)(ks:List (List Int))(ns:List Int)(c:Option W)(call:Option (D×List (List Int)×List Int)):Option (D×List (List Int)×List Int):=match ρ[s]? with
 |some (.val (.tup l))=>match intsOf l with
  |some k=>if t<ρ.length/\t≠0/\s≠t then(if ks.contains k=aa then(Q0 ks (ns.map D.int) k).map λd=>(d,ks,ns)else match c with
    |some (.v r)=>match r.st with
     |some (.bl aa)=>if ks.length<av then a8 (.int 0,ks++[k],ns++[0])else ae
     |some (.bl a9)=>match call with
      |some (.tup (.int m::_),ks1,ns1)=>if ks1.contains k=a9/\ks1.length<av then a8 (.int (1+m),ks1++[k],ns1++[1+m])else ae
      |_=>ae
     |_=>ae
    |_=>ae)else ae
  |none=>ae
 |_=>ae
noncomputable def Fx(l:List D)(r:Option (List D×List (List Int)×List Int)):Option (D×List (List Int)×List Int):=match r with
 |some (rs,ks',ns')=>match Y6 rs l with
  |some ls=>(ls[bf (Jz ls) (ls.length-1)]?).map λk=>(.tup (k.map D.int),ks',ns')
  |none=>ae
 |none=>ae
noncomputable def M8(r:Option (List D×List (List Int)×List Int)):Option (D×List (List Int)×List Int):=match r with
 |some (rs,ks',ns')=>match intsOf rs with
  |some ms=>if ms≠[]then a8 (.int (Zc ms),ks',ns')else ae
  |none=>ae
 |none=>ae
noncomputable def Ym(r:Option (List D×En))(f:List D->En->Option (D×List (List Int)×List Int)):Option (D×List (List Int)×List Int):=match r with
 |some (l,ρ3)=>f l ρ3
 |none=>ae
noncomputable def Vi(Γ:aq->List D->Rc)(G:aq->Option D):Dx->List (List Int)->List Int->En->Option (D×List (List Int)×List Int)
 |.fill s t c f es,ks,ns,ρ=>W5 s t ρ ks ns (ev Γ G c ρ) (qy Γ f (ev Γ G es (ρ.set t (.val (.bl a9)))) ks ns)
 |.minc t j it f es,ks,ns,ρ=>Ym (lsD t j (ev Γ G it ρ) ρ) λl ρ3=>Fx l (v7 (λd ks ns=>qy Γ f (ev Γ G es (ρ3.set j (.val d))) ks ns) l ks ns)
 |.maxc t j it f es,ks,ns,ρ=>Ym (lsD t j (ev Γ G it ρ) ρ) λl ρ3=>M8 (v7 (λd ks ns=>qy Γ f (ev Γ G es (ρ3.set j (.val d))) ks ns) l ks ns)
noncomputable def dxS(l:Option Sv)(r:List (List Int)->List Int->Option (D×List (List Int)×List Int)):So:=match l with
 |some (.val (.dct ks ds))=>match intsOf ds with
  |some ns=>match r ks ns with
   |some (d,ks',ns')=>.ret (.dval d ks' ns')
   |none=>.no
  |none=>.no
 |_=>.no
noncomputable def j6k(b:Bool)(r:Option (D×List (List Int)×List Int)):So:=match b,r with
 |true,a8 (_,ks,ns)=>.ret (.val (.dct ks (ns.map D.int)))
 |_,_=>.no
noncomputable def run(fu:Nat)(Γ:aq->List D->Rc)(G:aq->Option D):Sx->En->So
 |.nop,ρ=>.next ρ
 |.seq a b,ρ=>match run fu Γ G a ρ with
  |.next ρ'=>run fu Γ G b ρ'
  |o=>o
 |.set i e,ρ=>orE (Uz i (ev Γ G e ρ) ρ) (er Γ G e ρ) ρ
 |.mov i j,ρ=>Fw i j ρ[j]? ρ
 |.expr e,ρ=>orE (Ey (ev Γ G e ρ) ρ) (er Γ G e ρ) ρ
 |.ret e,ρ=>orE (retS (ev Γ G e ρ)) (er Γ G e ρ) ρ
 |.retV i,ρ=>M4 ρ[i]?
 |.brk,ρ=>.brk ρ
 |.ife c a b,ρ=>match truth (ev Γ G c ρ) with
  |some aa=>run fu Γ G a ρ
  |some a9=>run fu Γ G b ρ
  |none=>.no
 |.loop is it body,ρ=>match ev Γ G it (frz it ρ) with
  |some (.i ds)=>zx (λd ρ=>match qt is d ρ with
   |some ρ2=>run fu Γ G body ρ2
   |none=>.no) ds (frz it ρ)
  |_=>.no
 |.app i e,ρ=>Du i ρ[i]? (ev Γ G e ρ) ρ
 |.ext i e,ρ=>Dn i ρ[i]? (ev Γ G e ρ) ρ
 |.fgt i,ρ=>.next (ρ.set i .un)
 |.keep i,ρ=>Bu i ρ[i]? ρ
 |.dx p,ρ=>dxS ρ[0]? λks ns=>Vi Γ G p ks ns (ρ.set 0 (.exc rfN))
 |.lmk x g es,ρ=>j6k (decide (x<ρ.length)&&noOwn ρ) (qy Γ g (ev Γ G es (ρ.set x .un)) [] [])
 |.raise x e,ρ=>j68 x (ev Γ G e ρ) (G (bang x)) ρ
 |.fail,_=>.no
section
variable{Γ:aq->List D->Rc}{G:aq->Option D}{ρ:En}{fu:Nat}
theorem j38{a b}:run fu Γ G (.seq a b) ρ=(match run fu Γ G a ρ with
  |.next ρ'=>run fu Γ G b ρ'
  |o=>o):=(rfl)
theorem j8r{i e}:run fu Γ G (.set i e) ρ=(orE (Uz i (ev Γ G e ρ) ρ) (er Γ G e ρ) ρ):=(rfl)
theorem jhw{i j}:run fu Γ G (.mov i j) ρ=(Fw i j ρ[j]? ρ):=(rfl)
theorem jfm{e}:run fu Γ G (.expr e) ρ=(orE (Ey (ev Γ G e ρ) ρ) (er Γ G e ρ) ρ):=(rfl)
theorem j8s{e}:run fu Γ G (.ret e) ρ=(orE (retS (ev Γ G e ρ)) (er Γ G e ρ) ρ):=(rfl)
theorem jfj{i}:run fu Γ G (.retV i) ρ=(M4 ρ[i]?):=(rfl)
theorem jhx{c a b}:run fu Γ G (.ife c a b) ρ=(match truth (ev Γ G c ρ) with
  |some aa=>run fu Γ G a ρ
  |some a9=>run fu Γ G b ρ
  |none=>.no):=(rfl)
theorem jfk{is it body}:run fu Γ G (.loop is it body) ρ=(match ev Γ G it (frz it ρ) with
  |some (.i ds)=>zx (λd ρ=>match qt is d ρ with
   |some ρ2=>run fu Γ G body ρ2
   |none=>.no) ds (frz it ρ)
  |_=>.no):=(rfl)
theorem ji0{i e}:run fu Γ G (.app i e) ρ=(Du i ρ[i]? (ev Γ G e ρ) ρ):=(rfl)
theorem jhz{i e}:run fu Γ G (.ext i e) ρ=(Dn i ρ[i]? (ev Γ G e ρ) ρ):=(rfl)
theorem jhy{i}:run fu Γ G (.fgt i) ρ=(.next (ρ.set i .un)):=(rfl)
theorem jfl{i}:run fu Γ G (.keep i) ρ=(Bu i ρ[i]? ρ):=(rfl)
theorem jbl{x e}:run fu Γ G (.raise x e) ρ=(j68 x (ev Γ G e ρ) (G (bang x)) ρ):=(rfl)
end
inductive Ns where
 |s (st:aN)
 |ss (sts:List aN)
def TMs(X:Cx)(b:Sx)(ss:List aN):Prop:=∀(Γ:aq->List D->Rc)(G:aq->Option D),Cok X G->Gok X Γ->∀(ρ:Rho)(r:En),Fp Γ G b (j5 ρ)=a8 r->∃ρ',j5 ρ'=r/\DMs X ρ ρ' (Oz b) ss/\Kp ρ ρ' (Oz b)
def TMt(X:Cx)(b:Sx)(full tl:List aN):Prop:=∀(Γ:aq->List D->Rc)(G:aq->Option D),Cok X G->Gok X Γ->∀(ρ:Rho)(r:En),Fp Γ G b (j5 ρ)=a8 r->∃ρ',j5 ρ'=r/\DMt X ρ ρ' (Oz b) full tl
def jf9(pi:Nat)(o:Ob)(s:Sm)(P:Pm):Prop:=match s with
 |.next ρ' k=>∀ρ2,j5 ρ2=ρ'->(∃ob,ρ2[pi]?=a8 (.raw o.a ob rfN))->P.nx ρ2 k
 |.ret d k=>P.rt d k
 |.err x ρ'=>∀ρ2,j5 ρ2=ρ'->P.ex x ρ2
 |.no=>False
def MP(X:Cx)(pi:Nat)(p:Px)(sts:List aN):Prop:=∀(fu:Nat)(Γ:aq->List D->Rc)(G:aq->Option D),Cok X G->Gok X Γ->∀C,X.mg "Pieces" = a8 (.ref C)->PcX X C->∀(o:Ob)(ls:List aq)(ρ:Rho)(k:Nat)(P:Pm),
 (∃ob,ρ[pi]?=a8 (.raw o.a ob rfN))->jf9 pi o (jin fu Γ G ls p (j5 ρ) k) P->MSs X C o ls ρ k sts P
def MD(X:Cx)(p:Dx)(sts:List aN):Prop:=∀(Γ:aq->List D->Rc)(G:aq->Option D),Cok X G->Gok X Γ->∀(ρ:Rho)(a:ai)(ks:List (List Int)) (ns:List Int) (d:D) (ks':List (List Int)) (ns':List Int),
 (∃ob,ρ[0]?=a8 (.raw a ob rfN))->owns ρ=[]->Vi Γ G p ks ns (j5 ρ)=a8 (d,ks',ns')->DDb X ρ sts a ks ns d ks' ns'
noncomputable def Rt.rc:Rt->Rc
 |.val d=>.val d
 |.fresh l=>.fresh l
def U4(o:So)(P:Po):Prop:=match o with
 |.next ρ'=>∀ρ2,j5 ρ2=ρ'->P.nx ρ2
 |.ret r=>∀x:Rt,x.rc=r->P.rt x
 |.brk ρ'=>∀ρ2,j5 ρ2=ρ'->P.bk ρ2
 |.cnt ρ'=>∀ρ2,j5 ρ2=ρ'->P.ct ρ2
 |.err x ρ'=>∀ρ2,j5 ρ2=ρ'->P.ex x ρ2
 |.no=>False
theorem Yn{o:So}{x:Option aq}{ρ:En}{P:Po}(h:U4 (orE o x ρ) P):U4 o P\/∃y,x=a8 y/\∀ρ2,j5 ρ2=ρ->P.ex y ρ2:=by
 cases o with
 |no =>
  cases x with
  |none=>exact h.elim
  |some y=>exact .inr ⟨y,rfl,h⟩
 |_=>exact .inl h
def j8t(fu:Nat)(Γ:aq->List D->Rc)(G:aq->Option D)(X:Cx)(t:Sx):Ns->Prop
 |.s st=>∀ρ P,U4 (run fu Γ G t (j5 ρ)) P->DS X ρ st P
 |.ss sts=>∀ρ P,U4 (run fu Γ G t (j5 ρ)) P->DSs X ρ sts P
section
variable{K:k7f}{ρ:Rho}{σ:St}{H:Hp}{i j:Nat}{a:ai}{l:List D}
theorem Rep.move(R:Rep K ρ σ H)(hj:ρ[j]?=a8 (.own a l))(hij:i≠j):Rep K ((ρ.set j .un).set i (.own a l)) (σ.set i (a8 (.ref a))) H:=by
 have s1:(owns (ρ.set j .un)).Sublist (owns ρ):=jg rfl;have na:a∉owns (ρ.set j .un):=λz=>by
  obtain⟨k,l',q⟩:=V3 z;rcases getElem?_set_of q with ⟨_,z,_⟩|⟨n,q⟩
  .cases z
  .exact n (Y7 R.nd hj q)
 obtain⟨nd,sub⟩:=Jc (ds:=l) (i:=i) (s1.nodup R.nd) na;have g:j0 (del H (owns ρ)) (del H (owns ((ρ.set j .un).set i (.own a l)))):=vo λb hb=>by
  rcases sub b hb with e|z
  .exact e▸Q9 hj
  .exact s1.subset z
 refine⟨by simp[R.len],λk d' h=>?_,λk b ds' h=>?_,nd,λk b o x h=>?_,R.tb⟩
 .rcases getElem?_set_of h with ⟨rfl,z,_⟩|⟨n,h⟩
  .cases z
  .rcases getElem?_set_of h with ⟨rfl,z,_⟩|⟨n2,h⟩
   .cases z
   .obtain⟨u,q,e⟩:=R.val k d' h;exact⟨u,by rw[qb n];exact q,e.mono g⟩
 .rcases getElem?_set_of h with ⟨rfl,z,hl⟩|⟨n,h⟩
  .cases z;obtain⟨_,xs,hx,en⟩:=R.own j a l hj;exact⟨Jq (by rw[R.len];simpa using hl),xs,hx,en.mono g⟩
  .rcases getElem?_set_of h with ⟨rfl,z,_⟩|⟨n2,h⟩
   .cases z
   .obtain⟨q,xs,hx,en⟩:=R.own k b ds' h;exact⟨by rw[qb n];exact q,xs,hx,en.mono g⟩
 .rcases getElem?_set_of h with ⟨rfl,z,_⟩|⟨n,h⟩
  .cases z
  .rcases getElem?_set_of h with ⟨rfl,z,_⟩|⟨n2,h⟩
   .cases z
   .obtain⟨q,h⟩:=R.raw k b o x h;exact⟨by rw[qb n];exact q,h.mono g⟩
end
section
variable{X:Cx}{ρ:Rho}{e a b c:ar}{es:List ar}{st:aN}{rest sa sb body:List aN}{P:Po}{d:D}{ds ds':List D}{pos p p1 p2 p3:aM}{x y:aq}{i j:Nat}
theorem DS.freeze(i:Nat){l:ai}(h:ρ[i]?=a8 (.own l ds))(h2:DS X (ρ.set i (.val (.lst ds))) st P):DS X ρ st P:=λσ H E R q =>h2 σ H E (R.freeze h) (q.step (.drop λb hb=>(jg rfl).subset hb))
theorem DS.mov{l:ai}(hk:ρ[j]?=a8 (.own l ds))(hij:i≠j)(h:P.nx ((ρ.set j .un).set i (.own l ds)))(hN:X.N.Nodup)(hi:X.N[i]?=a8 x)(hj:X.N[j]?=a8 y)(hx:Loc X.env.scope x)
  (hf:X.fn x=aa\/X.env.scope.names.lookup x=a8 .local) (hv:Vis X.env.scope y) (hd:(y==k7j)=a9) (hcd:(y==k7k)=a9):DS X ρ (.Assign [.Name x p] (.Name y p1) pos) P:=λσ H E R q=>by
 obtain⟨hs,xs,m,en⟩:=R.own j l ds hk;refine(Um hN hi hx (Jr hj hv hd hcd) rfl hf).to ⟨_,hs,q.nx _ _ H h (R.move hk hij) (.drop λb hb=>?_)⟩;have s1:(owns (ρ.set j .un)).Sublist (owns ρ):=jg rfl;have na:l∉owns (ρ.set j .un):=λz=>by
  obtain⟨k,l',q⟩:=V3 z;rcases getElem?_set_of q with ⟨_,z,_⟩|⟨n,q⟩
  .cases z
  .exact n (Y7 R.nd hk q)
 rcases(Jc (ds:=ds) (i:=i) (s1.nodup R.nd) na).2 b hb with z|z
 .exact z▸Q9 hk
 .exact s1.subset z
theorem DS.setCf{ρf:Rho}{tg elt iter:ar}{ifs:List ar}{scope:b8}{spos:aM}(i:Nat)(cs:List Nat)(pr:D->Bool)(g:D->D)(hfr:∀K σ H,Rep K ρ σ H->Rep K ρf σ H)(hno:ρf=ρ\/qe ((ds.filter pr).map g)=aa)(hi:DI X ρf tg iter ds)
  (hb:∀C s H fp pn,∀d∈ds,∃ρ2,DG (cCx X scope C s H fp pn) ρf tg d ρ2/\Wk ρ2 ρf/\owns ρ2=owns ρf/\DTs (cCx X scope C s H fp pn) ρ2 ifs (pr d)/\(pr d=aa->DE (cCx X scope C s H fp pn) ρ2 elt (g d)))
  (h:∀l,P.nx (ρ.set i (.own l ((ds.filter pr).map g)))) (hN:X.N.Nodup) (hcs:∀j∈cs,ρf[j]?=a8 .un) (hsz:ds.length<=av) (hX:X.N[i]?=a8 x) (hx:Loc X.env.scope x)
  (hf:X.fn x=aa\/X.env.scope.names.lookup x=a8 .local)
  (hsw:aO (.ListComp elt [⟨tg,iter,ifs,0⟩] scope pos) (a8 (.Name x p1)) spos.line X.env=pure aa)
  (hc:X.calm=aa) (hkind:scope.kind=.function) (hok:zq scope X.env X.N cs=aa)
  (hs:∀x,aK iter X.env x=pure x):DS X ρ (.Assign [.Name x p1] (.ListComp elt [⟨tg,iter,ifs,0⟩] scope pos) spos) P:=λσ H E R q pins s I=>by
 have Rf:=hfr _ _ _ R;rw[exec_Assign_Name_used _ _ _ _ hsw];refine af (i5 (af ?_));show ax _ X.A (do let _ <-comprehension (.ListComp elt [⟨tg,iter,ifs,0⟩] scope pos) scope X.env _ (jY []) a9 (aE iter X.env) (a8 (eW (.Name x p1) X.env))) _ _ s;refine af (bo (dN (use:=a8 (eW (.Name x p1) X.env)) (Q:=λ_ s'=>SP X pins E .next s') rfl hs (Wa (Uc hok)) hkind (Yh hok)
  (thn (hi σ H (λJ H'=>j0 H H'/\Zz X.K (del H' (owns ρf)) J ds) Rf (λJ H' g1 ok=>⟨g1,ok⟩) pins s I) λv s1 h1=>thn h1 λitv s2 h2=>?_)) (λ_ s' hq=>aw (aw hq)) λ_ _ e=>e)
 obtain⟨it,fp,tn,J,H2,e,I2,T,st2,f2,g2,ok⟩:=h2;subst e;refine La (RR:=λacc C=>lC (aC X.prog X.w) X.A X.xe (a8 (eW (.Name x p1) X.env)) (λ_ s'=>SP X pins E .next s') acc C) I2 (Rf.grow g2) T st2 f2 ok hc hkind hok hcs hsz hb ?_;intro D C xs H' s' m I' gg n m' en hm L;show ax _ X.A (eW (.Name x p1) X.env (.ref D)) _ _ _;refine jX (Ce I' hN hX hx (v:=.ref D) rfl (λs'' I'' ⟨a,sb,ha⟩=>?_) hf);have hCa:C≠a:=by
  rcases ha with e|e
  .rw[e];exact L.loc
  .exact ba (L.cell x a e)
 have en':j4 X.K (del H' (D::owns ρ)) ((ds.filter pr).map g) xs:=by
  rcases hno with e|e
  .rw[e]at en;exact en
  .exact(en.mono jm).hide (λc hc=>by
    rcases xu.mp hc with z|z
    .rw[z];exact .inl ⟨xs,m'⟩
    .exact .inl ((R.grow (g2.trans gg)).owned c z)) e
 refine⟨m,hm.sameBut sb hCa,λh' sb'=>⟨σ.set i (a8 (.ref D)),H',I''.loose L sb',?_⟩⟩;exact q.nx _ _ H' (h D) (R.set_own (g2.trans gg) (g2.free n) m' en') (Fr0.new R (g2.trans gg) (g2.free n))
end
section
variable{fu:Nat}{Γ:aq->List D->Rc}{G:aq->Option D}{X:Cx}{P:Po}
theorem bind1{i:Nat}{y:aq}{p:aM}(nd:X.N.Nodup)(hi:X.N[i]?=a8 y)(hx:Loc X.env.scope y)(hf:X.fn y=aa\/X.env.scope.names.lookup y=a8 .local) :
  ∀ρ d ρ2,qt [i] d (j5 ρ)=a8 ρ2->∃ρ',j5 ρ'=ρ2/\DG X ρ (.Name y p) d ρ':=λρ d ρ2 h=>by
 simp only[qt]at h;cases h;exact⟨_,jw,DG.name _ nd hi hx hf⟩
theorem jhg{i j:Nat}{x y:aq}{n:Nat}{p q pt:aM}(hc:X.calm=aa)(hij:i≠j)(nd:X.N.Nodup)(hi:X.N[i]?=a8 x)(hj:X.N[j]?=a8 y)(hx:Loc X.env.scope x)(hy:Loc X.env.scope y)
  (hf:X.fn x=aa\/X.env.scope.names.lookup x=a8 .local) (hg:X.fn y=aa\/X.env.scope.names.lookup y=a8 .local) :
  ∀ρ d ρ2,qt [i,j] d (j5 ρ)=a8 ρ2->∃ρ',j5 ρ'=ρ2/\DG X ρ (.Tuple [.Name x p,.Name y q] n pt) d ρ':=λρ d ρ2 h=>by
 simp only[qt]at h;split at h
 .rename_i a b;cases h;exact⟨(ρ.set i (.val a)).set j (.val b),by rw[jw,jw];rfl,DG.pair _ _ hij nd hi hj hx hy hf hg hc⟩
 .cases h
theorem DS.setX{e:ar}{x y:aq}{i:Nat}{p pos:aM}{ρ:Rho}(he:DX X ρ e y)(h:P.ex y ρ)(hN:X.N.Nodup)(hi:X.N[i]?=a8 x)(hx:Loc X.env.scope x)(hs:aO e (a8 (.Name x p)) pos.line X.env=pure a9)(hf:X.fn x=aa\/X.env.scope.names.lookup x=a8 .local) :
  DS X ρ (.Assign [.Name x p] e pos) P:=λσ H E R q=>(Um hN hi hx peS hs hf).to (he σ H _ R (q.ex y ρ σ H h R (Fr0.refl _ _)))
theorem DS.exprX{e:ar}{y:aq}{pos:aM}{ρ:Rho}(he:DX X ρ e y)(h:P.ex y ρ)(hs:aO e ae pos.line X.env=pure a9):DS X ρ (.Expr e pos) P:=λσ H E R q =>(Uo peS hs).to (he σ H _ R (q.ex y ρ σ H h R (Fr0.refl _ _)))
theorem DS.retX{e:ar}{y:aq}{pos:aM}{ρ:Rho}(he:DX X ρ e y)(h:P.ex y ρ):DS X ρ (.Return (a8 e) pos) P:=λσ H E R q =>(V8 peS).to (he σ H _ R (q.ex y ρ σ H h R (Fr0.refl _ _)))
theorem Br{is:List Nat}{it':Ex}{b:Sx}{it tg:ar}{body:List aN}{pos:aM}{ρ:Rho}(hq:X.calm=aa)(c:Cok X G)(hs:∀x,aK it X.env x=pure x)
  (hb:∀ρ d ρ2,qt is d (j5 ρ)=a8 ρ2->∃ρ',j5 ρ'=ρ2/\DG X ρ tg d ρ') (hi:∀ρ ds,ev Γ G it' (j5 ρ)=a8 (.i ds)->DI X ρ tg it ds)
  (ih:∀ρ P,U4 (run fu Γ G b (j5 ρ)) P->DSs X ρ body P) (h:U4 (run fu Γ G (.loop is it' b) (j5 ρ)) P):DS X ρ (.For tg it body [] pos) P:=by
 have main:∀ρf:Rho,j5 ρf=frz it' (j5 ρ)->DS X ρf (.For tg it body [] pos) P:=λρf ef=>by
  rw[jfk]at h;rw[<-ef]at h;split at h
  .rename_i ds hds;generalize hf:(λd ρ=>_:D->En->So)=f at h;refine DS.for (ds:=ds) (λi ρ'=>U4 (zx f (ds.drop i) (j5 ρ')) P) (hi ρf ds hds) (by rw[jF];exact h) (λi d ρ' hd w=>?_) (λρ' w=>?_) hq c.po hs
   .have hdr:ds.drop i=d::ds.drop (i+1):=by obtain⟨hlt,e⟩:=xr.mp hd;rw[gr hlt,e]
    rw[hdr,zx]at w;have ef2:f d (j5 ρ')=match qt is d (j5 ρ')with|some ρ2=>run fu Γ G b ρ2|none=>.no:=by rw[<-hf]<;>rfl
    rw[ef2]at w;cases hb2:qt is d (j5 ρ') with
    |none=>rw[hb2]at w;exact w.elim
    |some ρ2 =>
     rw[hb2]at w;obtain⟨ρ3,e3,dg⟩:=hb ρ' d ρ2 hb2;refine⟨ρ3,dg,ih ρ3 _ ?_⟩;rw[e3];dsimp only at w;cases ho:run fu Γ G b ρ2 with
     |next ρ4=>rw[ho]at w;exact λρ5 e=>by rw[<-e]at w;exact w
     |cnt ρ4=>rw[ho]at w;exact λρ5 e=>by rw[<-e]at w;exact w
     |brk ρ4=>rw[ho]at w;exact w
     |ret r=>rw[ho]at w;exact w
     |err x ρ4=>rw[ho]at w;exact w
     |no=>rw[ho]at w;exact w
   .rw[fq,zx]at w;exact w ρ' rfl
  .exact h.elim
 by_cases z:J9 it' (j5 ρ)=aa
 .unfold J9 at z;split at z
  .rename_i i ei;split at z
   .rename_i l e;obtain⟨a,q⟩:=Qg e;refine DS.freeze i q (main _ ?_);rw[jw];simp only[frz,ei,e,Sl.abs]
   .cases z
  .cases z
 .have z':J9 it' (j5 ρ)=a9:=by simpa using z
  refine main ρ ?_;unfold frz;split
  .rename_i i ei;split
   .rename_i l e;simp only[J9,ei,e]at z';cases z'
   .rfl
  .rfl
theorem j29{is:List Nat}{elt' it' c':Ex}{elt it tg:ar}{ifs:List ar}{scope:b8}{p p1 pos:aM}{k:Nat}{z:aq}{ρ:Rho}(hq:X.calm=aa)(hX:Cok X G)
  (hk:X.N[k]?=a8 z) (hx:Loc X.env.scope z) (hf:X.fn z=aa\/X.env.scope.names.lookup z=a8 .local)
  (hsw:aO (.ListComp elt [⟨tg,it,ifs,0⟩] scope p) (a8 (.Name z p1)) pos.line X.env=pure aa)
  (hit:∀ρ ds,ev Γ G it' (j5 ρ)=a8 (.i ds)->DI X ρ tg it ds) (hkind:scope.kind=.function) (hok:zq scope X.env X.N is=aa) (hs:∀x,aK it X.env x=pure x)
  (hb:∀ρ d ρ2,qt is d (j5 ρ)=a8 ρ2->(∀j∈is,ρ[j]?=a8 .un)->∃ρ',j5 ρ'=ρ2/\Wk ρ' ρ/\owns ρ'=owns ρ/\∀C s H fp pn,DG (cCx X scope C s H fp pn) ρ tg d ρ')
  (he:∀C s H fp pn ρ r,ev Γ G elt' (j5 ρ)=a8 (.v r)->Has (cCx X scope C s H fp pn) ρ elt r)
  (hc:∀C s H fp pn ρ,(ev Γ G c' (j5 ρ)=a8 (.a [])->DTs (cCx X scope C s H fp pn) ρ ifs aa)/\∀y k,ev Γ G c' (j5 ρ)=a8 (.a [y])->y.d=.bl k->DTs (cCx X scope C s H fp pn) ρ ifs k)
  (h:U4 (run fu Γ G (.set k (.comp is elt' it' c')) (j5 ρ)) P):DS X ρ (.Assign [.Name z p1] (.ListComp elt [⟨tg,it,ifs,0⟩] scope p) pos) P:=by
 rw[j8r]at h;unfold Uz at h;have h:=(Yn h).resolve_right λ⟨y,ey,_⟩=>by simp only[er]at ey;cases ey
 cases e:ev Γ G (.comp is elt' it' c') (j5 ρ) with
 |none=>rw[e]at h;exact h.elim
 |some w =>
  rw[e]at h;cases w with
  |a _=>exact h.elim
  |i _=>exact h.elim
  |v r =>
   obtain⟨l,ρf,ds,pr,g,er,el,hfz,hi,hun,hz,hb'⟩:=Ub hit hb he hc e;subst er;refine DS.setCf (ρf:=ρf) k is pr g ?_ ?_ hi hb' (λa=>?_) hX.nd hun hz hk hx hf hsw hq hkind hok hs
   .rcases hfz with e|⟨_,i,a,l',q,e⟩
    .subst e;exact λ_ _ _ R=>R
    .subst e;exact λ_ _ _ R=>R.freeze q
   .rcases hfz with e|⟨n,_⟩
    .exact .inl e
    .exact .inr (el▸n)
   .rw[<-el];exact h _ jw
theorem j80{ρ:Rho}{x:Nat}:j5 (ρ.set x .un)=(j5 ρ).set x .un:=jw
end
structure Ts(X:Cx)(t:Sx)(nd:Ns):Prop where
 m:∀(fu:Nat)(Γ:aq->List D->Rc)(G:aq->Option D),Cok X G->Gok X Γ->j8t fu Γ G X t nd
theorem Ts.nil:∀{X:Cx},Ts X .nop (.ss []):=by intro _;refine⟨λfu Γ G=>?_⟩;intro c g ρ P h;exact DSs.nil (h ρ rfl)
theorem Ts.cons:∀{X:Cx}{a b:Sx}{st:aN}{rest:List aN},Ts X a (.s st)->Ts X b (.ss rest)->Ts X (.seq a b) (.ss (st::rest)):=by
 intro _ _ _ _ _ q0 q1;refine⟨λfu Γ G=>?_⟩;have iha:=q0.m fu Γ G;have ihb:=q1.m fu Γ G;intro c g ρ P h;rw[j38]at h;split at h
 .rename_i ρ' e;exact DSs.cons (N:=λρ1=>j5 ρ1=ρ') (iha c g ρ _ (by rw[e];exact λρ2 z=>z)) λρ1 z=>ihb c g ρ1 P (by rw[z];exact h)
 .rename_i o hn;refine DSs.cons (N:=λ_=>False) (iha c g ρ _ ?_) λ_ z=>z.elim;cases e:run fu Γ G _ (j5 ρ) with
  |next ρ'=>exact absurd e (hn ρ')
  |ret r=>rw[e]at h;exact h
  |err x r=>rw[e]at h;exact h
  |brk r=>rw[e]at h;exact h
  |cnt r=>rw[e]at h;exact h
  |no=>rw[e]at h;exact h
theorem Ts.fgt:∀{X:Cx}{i:Nat}{b:Sx}{sts:List aN},Ts X b (.ss sts)->Ts X (.seq (.fgt i) b) (.ss sts):=by intro _ _ _ _ q0;refine⟨λfu Γ G=>?_⟩;have ih:=q0.m fu Γ G;intro c g ρ P h;simp only[j38,jhy]at h;exact DSs.forget _ (ih c g _ P (by rw[jw];exact h))
theorem Ts.lmk:∀{X:Cx}{x:Nat}{nx g:aq}{es':Ex}{es:List ar}{p1 p2 p3 p4 p5 p6 p7 p8 p9:aM}(hX:X.N[x]?=a8 nx) (lx:Loc X.env.scope nx) (fx:X.fn nx=aa\/X.env.scope.names.lookup nx=a8 .local) (dx:(nx==k7j)=a9) (cx:(nx==k7k)=a9) (hg:Gl X g) (hdb:(g==k7j)=a9) (s1:aO (.Dict [] [] p2) (a8 (.Name nx p1)) p3.line X.env=pure a9) (s2:aO (.Call (.Name g p4) (.Name nx p5::es) [] p6) ae p7.line X.env=pure a9) (hs:ah (.Name nx p5::es) X.env=(a9,aE (.Name nx p5) X.env)::ah es X.env) (hpl:(aR p6 (ah es X.env)).any (·.1)=a9),Tr X es' (.a es)->Ts X (.lmk x g es') (.ss [.Assign [.Name nx p1] (.Dict [] [] p2) p3,.Expr (.Call (.Name g p4) (.Name nx p5::es) [] p6) p7,.Return (a8 (.Name nx p8)) p9]):=by
 intro _ x nx g' es' es p1 p2 p3 p4 p5 p6 p7 p8 p9 hX lx fx dx cx hg hdb s1 s2 hs hpl hes;refine⟨λfu Γ G=>?_⟩;intro c g ρ P h;unfold run j6k qy at h;split at h
 .rename_i _ d ks ns eb er;split at er
  .rename_i rs ers;split at er
   .rename_i ds eds;split at er
    .rename_i d2 ks2 ns2 ez;cases er;rw[Xb]at eb;have hl:x<ρ.length:=by have:=of_decide_eq_true eb.1;unfold j5 at this;rw[km]at this;exact this
     have q:=g (dq g') (.dct [] (([]:List Int).map D.int)::ds);rw[ez]at q;rw[<-j80]at ers;exact DSs.lmk (q g' [] [] ds rfl rfl) hl (Zb eb.2) ((sound hes c g (ρ.set x .un) rs ers).toA eds) ⟨rfl,rfl,rfl,rfl,rfl,rfl⟩ (h (.val _) rfl) c.nd hX lx fx dx cx hg hdb s1 s2 hs hpl
    .cases er
   .cases er
  .cases er
 .exact h.elim
theorem Ts.keep:∀{X:Cx}{i:Nat}{b:Sx}{sts:List aN},Ts X b (.ss sts)->Ts X (.seq (.keep i) b) (.ss sts):=by
 intro _ i _ _ q0;refine⟨λfu Γ G=>?_⟩;have ih:=q0.m fu Γ G;intro c g ρ P h;simp only[j38,jfl,Bu]at h;cases e:(j5 ρ)[i]? with
 |none=>rw[e]at h;exact h.elim
 |some v =>
  rw[e]at h;cases v with
  |own l =>obtain⟨a,q⟩:=Qg e;exact DSs.freeze _ q (ih c g _ P (by rw[jw];exact h))
  |un=>exact h.elim
  |val d=>exact ih c g ρ P h
  |exc x=>exact h.elim
theorem Ts.brk:∀{X:Cx}{p:aM},Ts X .brk (.s (.Break p)):=by intro _ _;refine⟨λfu Γ G=>?_⟩;intro c g ρ P h;exact DS.break (h ρ rfl)
theorem Ts.set:∀{X:Cx}{i:Nat}{x:aq}{e':Ex}{e:ar}{p pos:aM}(hi:X.N[i]?=a8 x) (hx:Loc X.env.scope x) (hs:aO e (a8 (.Name x p)) pos.line X.env=pure a9) (hf:X.fn x=aa\/X.env.scope.names.lookup x=a8 .local),Tr X e' (.e e)->Ts X (.set i e') (.s (.Assign [.Name x p] e pos)):=by
 intro _ _ _ _ _ _ _ hi hx hs hf he;refine⟨λfu Γ G=>?_⟩;intro c g ρ P h;have S:=sound he c g;rw[j8r]at h;unfold Uz at h;rcases Yn h with h|⟨y,ey,hP⟩
 rotate_left
 .exact DS.setX (Ib he c g ρ y ey) (hP ρ rfl) c.nd hi hx hs hf
 split at h
 .rename_i l e;exact DS.setO _ (S ρ _ e) (λa=>h _ jw) c.nd hi hx hs hf
 .rename_i r hn e;split at h
  .rename_i d hd;exact DS.set _ ((S ρ _ e).toE hd) (h _ jw) c.nd hi hx hs hf
  .exact h.elim
 .exact h.elim
theorem Ts.setC1:∀{X:Cx}{k i:Nat}{z y:aq}{py p p1 pos:aM}{elt' it' c':Ex}{elt it:ar}{ifs:List ar} {scope:b8} (hq:X.calm=aa) (hk:X.N[k]?=a8 z) (hx:Loc X.env.scope z) (hf:X.fn z=aa\/X.env.scope.names.lookup z=a8 .local) (hsw:aO (.ListComp elt [⟨.Name y py,it,ifs,0⟩] scope p) (a8 (.Name z p1)) pos.line X.env=pure aa) (hi:X.N[i]?=a8 y) (hl:V0 scope y=aa) (hkind:scope.kind=.function) (hok:zq scope X.env X.N [i]=aa) (hs:∀x,aK it X.env x=pure x),Tr X it' (.i (.Name y py) it)->(∀C s H fp pn,Tr (cCx X scope C s H fp pn) elt' (.e elt))->(∀C s H fp pn,Tr (cCx X scope C s H fp pn) c' (.c ifs))->Ts X (.set k (.comp [i] elt' it' c')) (.s (.Assign [.Name z p1] (.ListComp elt [⟨.Name y py,it,ifs,0⟩] scope p) pos)):=by
 intro _ _ _ _ _ _ _ _ _ _ _ _ _ _ _ _ hq hk hx hf hsw hi hl hkind hok hs hit he hc;refine⟨λfu Γ G=>?_⟩;intro c g ρ P h;exact j29 hq c hk hx hf hsw (λρ ds z=>sound hit c g ρ ds z) hkind hok hs (λρ d ρ2 hb hun=>by
  simp only[qt]at hb
  cases hb
  have hu:=hun _ (xj.mpr rfl)
  exact⟨_,jw,Wk.set hu,Qs hu,λC s H fp pn=>DG.name _ c.nd hi (Zt hl) (Y0 hl)⟩)
  (λC s H fp pn ρ r z=>sound (he C s H fp pn) c.comp g.comp ρ r z) (λC s H fp pn ρ=>sound (hc C s H fp pn) c.comp g.comp ρ) h
theorem Ts.mov:∀{X:Cx}{i j:Nat}{x y:aq}{p q pos:aM}(hi:X.N[i]?=a8 x) (hj:X.N[j]?=a8 y) (hx:Loc X.env.scope x) (hf:X.fn x=aa\/X.env.scope.names.lookup x=a8 .local) (hv:Vis X.env.scope y) (hd:(y==k7j)=a9) (hcd:(y==k7k)=a9),Ts X (.mov i j) (.s (.Assign [.Name x p] (.Name y q) pos)):=by
 intro _ _ _ _ _ _ _ _ hi hj hx hf hv hd hcd;refine⟨λfu Γ G=>?_⟩;intro c g ρ P h;rw[jhw]at h;unfold Fw at h;split at h
 .rename_i l e;obtain⟨a,q⟩:=Qg e;split at h
  .exact h.elim
  .rename_i hij;exact DS.mov q hij (h _ (by rw[jw,jw];rfl)) c.nd hi hj hx hf hv hd hcd
 .rename_i d e;exact DS.set _ (DE.var _ (Wi e) hj hv hd hcd) (h _ jw) c.nd hi hx rfl hf
 .exact h.elim
theorem Ts.expr:∀{X:Cx}{e':Ex}{e:ar}{pos:aM}(hs:aO e ae pos.line X.env=pure a9),Tr X e' (.e e)->Ts X (.expr e') (.s (.Expr e pos)):=by
 intro _ _ _ _ hs he;refine⟨λfu Γ G=>?_⟩;intro c g ρ P h;rw[jfm]at h;unfold Ey at h;rcases Yn h with h|⟨y,ey,hP⟩
 rotate_left
 .exact DS.exprX (Ib he c g ρ y ey) (hP ρ rfl) hs
 split at h
 .rename_i r e;exact DS.expr (sound he c g ρ r e).toT (h ρ rfl) hs
 .exact h.elim
theorem Ts.ret:∀{X:Cx}{e':Ex}{e:ar}{pos:aM},Tr X e' (.e e)->Ts X (.ret e') (.s (.Return (a8 e) pos)):=by
 intro _ _ _ _ he;refine⟨λfu Γ G=>?_⟩;intro c g ρ P h;rw[j8s]at h;unfold retS at h;rcases Yn h with h|⟨y,ey,hP⟩
 rotate_left
 .exact DS.retX (Ib he c g ρ y ey) (hP ρ rfl)
 split at h
 .rename_i l e;exact DS.retO (sound he c g ρ _ e) (h _ rfl)
 .rename_i r hn e;exact DS.ret (sound he c g ρ _ e).toT (h _ rfl)
 .exact h.elim
theorem Ts.retV:∀{X:Cx}{i:Nat}{x:aq}{p pos:aM}(hi:X.N[i]?=a8 x) (hv:Vis X.env.scope x) (hd:(x==k7j)=a9) (hcd:(x==k7k)=a9),Ts X (.retV i) (.s (.Return (a8 (.Name x p)) pos)):=by
 intro _ _ _ _ _ hi hv hd hcd;refine⟨λfu Γ G=>?_⟩;intro c g ρ P h;rw[jfj]at h;unfold M4 at h;split at h
 .rename_i l e;obtain⟨a,q⟩:=Qg e;exact DS.retV _ q (h _ rfl) hi hv hd hcd
 .rename_i d e;exact DS.ret (DE.toT (DE.var _ (Wi e) hi hv hd hcd)) (h _ rfl)
 .exact h.elim
theorem Ts.ife:∀{X:Cx}{c':Ex}{a b:Sx}{c:ar}{sa sb:List aN}{pos:aM},Tr X c' (.b c)->Ts X a (.ss sa)->Ts X b (.ss sb)->Ts X (.ife c' a b) (.s (.If c sa sb pos)):=by
 intro _ _ _ _ _ _ _ _ hc q1 q2;refine⟨λfu Γ G=>?_⟩;have iha:=q1.m fu Γ G;have ihb:=q2.m fu Γ G;intro c g ρ P h;rw[jhx]at h;split at h
 .rename_i e;exact DS.if (sound hc c g ρ aa e) (λ_=>iha c g ρ P h) λz=>by cases z
 .rename_i e;exact DS.if (sound hc c g ρ a9 e) (λz=>by cases z) λ_=>ihb c g ρ P h
 .exact h.elim
theorem Ts.for1:∀{X:Cx}{i:Nat}{y:aq}{it':Ex}{b:Sx}{it:ar}{body:List aN} {p pos:aM} (hq:X.calm=aa) (hi:X.N[i]?=a8 y) (hx:Loc X.env.scope y) (hf:X.fn y=aa\/X.env.scope.names.lookup y=a8 .local) (hs:∀x,aK it X.env x=pure x),Tr X it' (.i (.Name y p) it)->Ts X b (.ss body)->Ts X (.loop [i] it' b) (.s (.For (.Name y p) it body [] pos)):=by intro _ _ _ _ _ _ _ _ _ hq hi hx hf hs hit q1;refine⟨λfu Γ G=>?_⟩;have ih:=q1.m fu Γ G;intro c g ρ P h;exact Br hq c hs (bind1 c.nd hi hx hf) (λρ ds z=>sound hit c g ρ ds z) (ih c g) h
theorem Ts.for2:∀{X:Cx}{i j:Nat}{x y:aq}{it':Ex}{b:Sx}{it:ar}{body:List aN} {n:Nat} {p q pt pos:aM} (hq:X.calm=aa) (hij:i≠j) (hi:X.N[i]?=a8 x) (hj:X.N[j]?=a8 y) (hx:Loc X.env.scope x) (hy:Loc X.env.scope y) (hf:X.fn x=aa\/X.env.scope.names.lookup x=a8 .local) (hg:X.fn y=aa\/X.env.scope.names.lookup y=a8 .local) (hs:∀x,aK it X.env x=pure x),Tr X it' (.i (.Tuple [.Name x p,.Name y q] n pt) it)->Ts X b (.ss body)->Ts X (.loop [i,j] it' b) (.s (.For (.Tuple [.Name x p,.Name y q] n pt) it body [] pos)):=by intro _ _ _ _ _ _ _ _ _ _ _ _ _ _ hq hij hi hj hx hy hf hg hs hit q1;refine⟨λfu Γ G=>?_⟩;have ih:=q1.m fu Γ G;intro c g ρ P h;exact Br hq c hs (jhg hq hij c.nd hi hj hx hy hf hg) (λρ ds z=>sound hit c g ρ ds z) (ih c g) h
theorem Ts.app:∀{X:Cx}{i:Nat}{x:aq}{e':Ex}{e:ar}{p p1 p2 pos:aM}(hN:X.N[i]?=a8 x) (hv:Vis X.env.scope x) (hd:(x==k7j)=a9) (hcd:(x==k7k)=a9) (hst:ah [e] X.env=[(a9,aE e X.env)]) (hline:(p1.endLine==p2.line)=aa) (hbase:bh (.Name x p) "append" X.env (aE (.Name x p) X.env)=aE (.Name x p) X.env) (hfew:((aR p2 (ah [e] X.env)).all (λx=>!x.1)&&(cS p2 (bH [] X.env)).all (λx=>x.1.isSome)&&decide (([e]:List ar).length+([]:List bg).length+(if ([]:List bg).isEmpty then 0 else 1)<30))=aa),Tr X e' (.e e)->Ts X (.app i e') (.s (.Expr (.Call (.Attribute (.Name x p) "append" p1) [e] [] p2) pos)):=by
 intro _ _ _ _ _ _ _ _ _ hN hv hd hcd hst hline hbase hfew he;refine⟨λfu Γ G=>?_⟩;intro c g ρ P h;rw[ji0]at h;unfold Du at h;split at h
 .rename_i l x el ex;obtain⟨a,q⟩:=Qg el;split at h
  .rename_i d hd';split at h
   .rename_i hz;exact DS.append _ q ((sound he c g ρ x ex).toE hd') hz (h _ jw) hN hv hd hcd hst hline hbase hfew rfl
   .exact h.elim
  .exact h.elim
 .exact h.elim
theorem Ts.ext:∀{X:Cx}{i:Nat}{x:aq}{e':Ex}{e:ar}{p p1 p2 pos:aM}(hN:X.N[i]?=a8 x) (hv:Vis X.env.scope x) (hd:(x==k7j)=a9) (hcd:(x==k7k)=a9) (hst:ah [e] X.env=[(a9,aE e X.env)]) (hline:(p1.endLine==p2.line)=aa) (hbase:bh (.Name x p) "extend" X.env (aE (.Name x p) X.env)=aE (.Name x p) X.env) (hfew:((aR p2 (ah [e] X.env)).all (λx=>!x.1)&&(cS p2 (bH [] X.env)).all (λx=>x.1.isSome)&&decide (([e]:List ar).length+([]:List bg).length+(if ([]:List bg).isEmpty then 0 else 1)<30))=aa),Tr X e' (.e e)->Ts X (.ext i e') (.s (.Expr (.Call (.Attribute (.Name x p) "extend" p1) [e] [] p2) pos)):=by
 intro _ _ _ _ _ _ _ _ _ hN hv hd hcd hst hline hbase hfew he;refine⟨λfu Γ G=>?_⟩;intro c g ρ P h;rw[jhz]at h;unfold Dn at h;split at h
 .rename_i l m el ex;obtain⟨a,q⟩:=Qg el;split at h
  .rename_i hz;exact DS.extend _ q (sound he c g ρ _ ex) (z9 hz) (h _ jw) hN hv hd hcd hst hline hbase hfew rfl
  .exact h.elim
 .exact h.elim
theorem Ts.raise:∀{X:Cx}{x:aq}{e':Ex}{e:ar}{np cpos pos:aM}(hq:X.calm=aa)(hg:Gl X x) (hdb:(x==k7j)=a9) (hs:ah [e] X.env=[(a9,aE e X.env)]),Tr X e' (.e e)->Ts X (.raise x e') (.s (.Raise (a8 (.Call (.Name x np) [e] [] cpos)) ae pos)):=by
 intro _ _ _ _ _ _ _ hq hg hdb hs he;refine⟨λfu Γ G=>?_⟩;intro c g ρ P h;rw[jbl]at h;unfold j68 at h;split at h
 .rename_i r d er eg;obtain⟨hx,o,ho⟩:=c.ec _ _ eg;exact DS.raiseE c.ea hx ho (W.mg_of c.kin c.ns ho) c.kin hq (λσ H R=>(sound he c g ρ r er).toT σ H _ R λv H' g' _=>g') (h ρ rfl) hg hdb hs
 .exact h.elim
section
theorem Ul{fu:Nat}{Γ:aq->List D->Rc}{G:aq->Option D}{X:Cx}{t:Sx}{nd:Ns}(h:Ts X t nd):Cok X G->Gok X Γ->j8t fu Γ G X t nd:=h.m fu Γ G
end
theorem Wy{f:D->List (List Int)->List Int->Option (D×List (List Int)×List Int)}:∀{l rs:List D}{ks ks':List (List Int)} {ns ns':List Int},v7 f l ks ns=a8 (rs,ks',ns')->rs.length=l.length
 |[],rs,ks,ks',ns,ns',h=>by cases h;rfl
 |d::l,rs,ks,ks',ns,ns',h=>by
  unfold v7 at h;split at h
  .cases h
  .split at h
   .cases h
   .rename_i e;cases h;rw[X6,X6,Wy e]
theorem El{f:D->List (List Int)->List Int->Option (D×List (List Int)×List Int)}{l rs:List D}{i:Nat}{d:D}{ks ks':List (List Int)}{ns ns':List Int}(hd:l[i]?=a8 d)(h:v7 f (l.drop i) ks ns=a8 (rs.drop i,ks',ns')) :
  ∃r ks1 ns1,f d ks ns=a8 (r,ks1,ns1)/\rs[i]?=a8 r/\v7 f (l.drop (i+1)) ks1 ns1=a8 (rs.drop (i+1),ks',ns'):=by
 have hi:=(xr.mp hd).1;have e:l.drop i=d::l.drop (i+1):=by rw[gr hi];congr 1;exact(xr.mp hd).2
 rw[e]at h;unfold v7 at h;split at h
 .cases h
 .rename_i r ks1 ns1 e1;split at h
  .cases h
  .rename_i rs2 ks2 ns2 e2;have z:=aB h;have z1:r::rs2=rs.drop i:=congrArg Prod.fst z;have z2:(ks2,ns2)=(ks',ns'):=congrArg Prod.snd z;cases z2;have hr:rs[i]?=a8 r:=by
    have:(rs.drop i)[0]?=a8 r:=by rw[<-z1];rfl
    rw[List.getElem?_drop,Nat.add_zero]at this;exact this
   have hr2:rs.drop (i+1)=rs2:=by
    have:(rs.drop i).drop 1=rs2:=by rw[<-z1];rfl
    rw[List.drop_drop]at this;exact this
   exact⟨r,ks1,ns1,e1,hr,by rw[hr2];exact e2⟩
theorem j45:∀{rs ds:List D}{ls:List (List Int)},Y6 rs ds=a8 ls->ls.length=rs.length/\∀(i:Nat)(r d:D),rs[i]?=a8 r->ds[i]?=a8 d->∃n s,r=.int n/\d=.int s/\ls[i]?=a8 [n,s]:=by
 intro rs;induction rs with
 |nil =>
  intro ds ls h;cases ds with
  |nil=>cases h;exact⟨rfl,λi r d h=>by cases h⟩
  |cons _ _=>cases h
 |cons r rs ih =>
  intro ds ls h;cases ds with
  |nil=>cases r<;>cases h
  |cons d ds =>
   cases r with
   |int n =>
    cases d with
    |int s =>
     unfold Y6 at h;obtain⟨l2,e,rfl⟩:=Xm.mp h;obtain⟨z1,z2⟩:=ih e;refine⟨by rw[X6,X6,z1],λi r' d' h1 h2=>?_⟩;cases i with
     |zero=>cases h1;cases h2;exact⟨n,s,rfl,rfl,rfl⟩
     |succ i=>exact z2 i r' d' h1 h2
    |_=>cases h
   |_=>cases h
section
variable{X:Cx}{nx nw nt g y:aq}{c:ar}{es:List ar}{c' es' it':Ex}{s t j:Nat}{st:aN}{scope:b8}
theorem j7k{Γ:aq->List D->Rc}{f:aq}{a:Option W}{ks ks':List (List Int)}{ns ns':List Int}{d:D}(h:qy Γ f a ks ns=a8 (d,ks',ns')):∃rs ds,a=a8 (.a rs)/\qx rs=a8 ds/\Γ (dq f) (.dct ks (ns.map D.int)::ds)=.dval d ks' ns':=by
 unfold qy at h;split at h
 .rename_i rs;split at h
  .rename_i ds eds;split at h
   .rename_i e;cases h;exact⟨rs,ds,rfl,eds,e⟩
   .cases h
  .cases h
 .cases h
theorem Rw{Γ:aq->List D->Rc}{G:aq->Option D}{Y:Cx}{ρ:Rho}{ks ks':List (List Int)}{ns ns':List Int}{d:D}{p p1 pos:aM}(cc:Cok Y G)(gg:Gok Y Γ)(ha:Tr Y es' (.a es))(ho:owns ρ=[])(h:qy Γ g (ev Γ G es' (j5 ρ)) ks ns=a8 (d,ks',ns'))
  (hN:Y.N[0]?=a8 nx) (hv:Vis Y.env.scope nx) (hd:(nx==k7j)=a9) (hcd:(nx==k7k)=a9) (hg:Gl Y g) (hdb:(g==k7j)=a9)
  (hs:ah (.Name nx p1::es) Y.env=(a9,aE (.Name nx p1) Y.env)::ah es Y.env) (hpl:(aR pos (ah es Y.env)).any (·.1)=a9):DFx Y ρ 0 (.Call (.Name g p) (.Name nx p1::es) [] pos) ks ns d ks' ns':=by
 obtain⟨rs,ds,e1,e2,e3⟩:=j7k h;have q:=gg (dq g) (.dct ks (ns.map D.int)::ds);rw[e3]at q;exact DFx.call (q g ks ns ds rfl rfl) ((sound ha cc gg ρ rs e1).toA e2) ⟨rfl,rfl,rfl,rfl,rfl,rfl⟩ ho hN hv hd hcd hg hdb hs hpl
theorem Za{ρ:Rho}{i:Nat}{d:D}:j5 (ρ.set i (.val d))=(j5 ρ).set i (.val d):=jw
theorem jbj{ρ:Rho}{i:Nat}{d:D}(h:(j5 ρ)[i]?=a8 (.val d)):ρ[i]?=a8 (.val d):=Wi h
theorem Jd{ρ:Rho}{i:Nat}{d:D}(h:owns ρ=[]):owns (ρ.set i (.val d))=[]:=by have:=(jg (ρ:=ρ) (i:=i) (s:=.val d) rfl).subset;rw[h]at this;exact Th.mpr λb hb=>absurd (this hb) (by simp)
theorem MD.fill{n0 n1 n2:Nat}{p1 p2 p3 p4 p5 p6 p7 p8 p9 p10 p11 p12 p13 p14 p15 p16 p17 p18 p19 p20 p21 q1 q2 q3:aM}(hX:X.N[0]?=a8 nx)(hW:X.N[s]?=a8 nw)(hT:X.N[t]?=a8 nt)(vx:Vis X.env.scope nx)(vw:Vis X.env.scope nw)(lt:Loc X.env.scope nt)(ft:X.fn nt=aa\/X.env.scope.names.lookup nt=a8 .local)
  (dx:(nx==k7j)=a9) (cx:(nx==k7k)=a9) (dw:(nw==k7j)=a9) (cw:(nw==k7k)=a9) (dt:(nt==k7j)=a9) (ct:(nt==k7k)=a9)
  (hm:aH .NotIn (.Name nx p2)=a9) (s1:aO c (a8 (.Name nt p4)) p5.line X.env=pure a9)
  (s2:aO (.IfExp (.Name nt p9) (.Constant (.int 0) n0 p10) (.BinOp (.Constant (.int 1) n1 p11) .Add (.Subscript (.Call (.Name g q1) (.Name nx q2::es) [] q3) (.Constant (.int 0) n2 p12) p13) p14) p15) (a8 (.Subscript (.Name nx p6) (.Name nw p7) p8)) p16.line X.env=pure a9)
  (hx0:Jf (.Constant (.int 0) n2 p12)) (hxw:Jf (.Name nw p19)) (hg:Gl X g) (hdb:(g==k7j)=a9) (hs:ah (.Name nx q2::es) X.env=(a9,aE (.Name nx q2) X.env)::ah es X.env) (hpl:(aR q3 (ah es X.env)).any (·.1)=a9)
  (hc:Tr X c' (.e c)) (hb:Tr X (.var t) (.b (.Name nt p9))) (he:Tr X es' (.a es)) :
  MD X (.fill s t c' g es') (fText nx nw nt c (.Call (.Name g q1) (.Name nx q2::es) [] q3) n0 n1 n2 p1 p2 p3 p4 p5 p6 p7 p8 p9 p10 p11 p12 p13 p14 p15 p16 p17 p18 p19 p20 p21):=λΓ G cc gg ρ a ks ns d ks' ns' h0 ho hr=>by
 replace hr:W5 s t (j5 ρ) ks ns (ev Γ G c' (j5 ρ)) (qy Γ g (ev Γ G es' ((j5 ρ).set t (.val (.bl a9)))) ks ns)=a8 (d,ks',ns'):=hr
 unfold W5 at hr;split at hr
 .rename_i l el;split at hr
  .rename_i k ek;split at hr
   .rename_i hcnd;obtain⟨c1,c2,c3⟩:=hcnd;have hl:t<ρ.length:=by unfold j5 at c1;rw[km]at c1;exact c1
    have ew:=jbj el;rw[v5 ek]at ew;have hB:∀b:Bool,ρ[t]?=ρ[t]?->DB X (ρ.set t (.val (.bl b))) (.Name nt p9) b:=λb _=>sound hb cc gg _ _ (by
     rw[jw]
     have:(j5 ρ).set t (.val (.bl b))=(j5 ρ).set t (.val (.bl b)):=rfl
     show truth (ev Γ G (.var t) _)=a8 b
     unfold ev
     rw[cz c1];rfl)
    cases hk:ks.contains k with
    |true =>rw[hk,if_pos rfl]at hr;obtain⟨d2,e1,e2⟩:=Xm.mp hr;cases e2;exact DDb.fill (k:=k) (b:=aa) (n:=0) (tl:=[]) (ks1:=ks) (ns1:=ns) h0 ho ew c2 c3 hl (λ_=>⟨rfl,rfl,e1⟩) (λz=>by rw[hk]at z;cases z) cc.un' cc.nd hX hW hT vx vw lt ft dx cx dw cw dt ct hm s1 s2 hx0 hxw hB
    |false =>
     rw[hk,if_neg xf]at hr;split at hr
     .rename_i r er;split at hr
      .rename_i eb;split at hr
       .rename_i hz;cases hr;exact DDb.fill (k:=k) (b:=aa) (n:=0) (tl:=[]) (ks1:=ks) (ns1:=ns) h0 ho ew c2 c3 hl (λz=>by rw[hk]at z;cases z) (λ_=>⟨(sound hc cc gg ρ r er).toE eb,λ_=>⟨rfl,rfl,rfl⟩,λz=>(by cases z),hk,hz,rfl,rfl,rfl⟩) cc.un' cc.nd hX hW hT vx vw lt ft dx cx dw cw dt ct hm s1 s2 hx0 hxw hB
       .cases hr
      .rename_i eb;split at hr
       .rename_i m tl ks1 ns1 ecl;split at hr
        .rename_i hz;cases hr;rw[<-Za]at ecl;exact DDb.fill (k:=k) (b:=a9) (n:=1+m) (tl:=tl) (ks1:=ks1) (ns1:=ns1) h0 ho ew c2 c3 hl (λz=>by rw[hk]at z;cases z) (λ_=>⟨(sound hc cc gg ρ r er).toE eb,λz=>(by cases z),λ_=>⟨m,Rw cc gg he (Jd ho) ecl hX vx dx cx hg hdb hs hpl,rfl⟩,hz.1,hz.2,rfl,rfl,rfl⟩) cc.un' cc.nd hX hW hT vx vw lt ft dx cx dw cw dt ct hm s1 s2 hx0 hxw hB
        .cases hr
       .cases hr
      .cases hr
     .cases hr
   .cases hr
  .cases hr
 .cases hr
def SetT(X:Cx)(t:Nat)(it':Ex)(st:aN):Prop:=∀(Γ:aq->List D->Rc)(G:aq->Option D),Cok X G->Gok X Γ->∀(ρ:Rho)(l:List D)(P:Po),ev Γ G it' (j5 ρ)=a8 (.v (.o l))->(∀b,P.nx (ρ.set t (.own b l)))->DS X ρ st P
theorem SetT.e{e:ar}{x:aq}{p pos:aM}(hi:X.N[t]?=a8 x)(hx:Loc X.env.scope x)(hs:aO e (a8 (.Name x p)) pos.line X.env=pure a9)(hf:X.fn x=aa\/X.env.scope.names.lookup x=a8 .local)(he:Tr X it' (.e e)):SetT X t it' (.Assign [.Name x p] e pos):=λΓ G cc gg ρ l P e h =>DS.setO _ (sound he cc gg ρ _ e) h cc.nd hi hx hs hf
theorem SetT.cmp{k i:Nat}{z y:aq}{py p p1 pos:aM}{elt' jt' c':Ex}{elt it:ar}{ifs:List ar}{scope:b8}(hq:X.calm=aa)(hk:X.N[k]?=a8 z)(hx:Loc X.env.scope z)(hf:X.fn z=aa\/X.env.scope.names.lookup z=a8 .local)
  (hsw:aO (.ListComp elt [⟨.Name y py,it,ifs,0⟩] scope p) (a8 (.Name z p1)) pos.line X.env=pure aa) (hi:X.N[i]?=a8 y) (hl:V0 scope y=aa) (hkind:scope.kind=.function) (hok:zq scope X.env X.N [i]=aa)
  (hs:∀x,aK it X.env x=pure x) (hit:Tr X jt' (.i (.Name y py) it)) (he:∀C s H fp pn,Tr (cCx X scope C s H fp pn) elt' (.e elt)) (hc:∀C s H fp pn,Tr (cCx X scope C s H fp pn) c' (.c ifs)) :
  SetT X k (.comp [i] elt' jt' c') (.Assign [.Name z p1] (.ListComp elt [⟨.Name y py,it,ifs,0⟩] scope p) pos):=λΓ G cc gg ρ l P e hP=>by
 obtain⟨l',ρf,ds,pr,g,er,el,hfz,hi',hun,hz,hb'⟩:=Ub (scope:=scope) (λρ ds z=>sound hit cc gg ρ ds z) (λρ d ρ2 hb hun=>by
   simp only[qt]at hb
   cases hb
   have hu:=hun _ (xj.mpr rfl)
   exact⟨_,jw,Wk.set hu,Qs hu,λC s H fp pn=>DG.name _ cc.nd hi (Zt hl) (Y0 hl)⟩)
   (λC s H fp pn ρ r z=>sound (he C s H fp pn) cc.comp gg.comp ρ r z) (λC s H fp pn ρ=>sound (hc C s H fp pn) cc.comp gg.comp ρ) e
 cases er;refine DS.setCf (ρf:=ρf) k [i] pr g ?_ ?_ hi' hb' (λa=>?_) cc.nd hun hz hk hx hf hsw hq hkind hok hs
 .rcases hfz with e|⟨_,i,a,l',q,e⟩
  .subst e;exact λ_ _ _ R=>R
  .subst e;exact λ_ _ _ R=>R.freeze q
 .rcases hfz with e|⟨n,_⟩
  .exact .inl e
  .exact .inr (el▸n)
 .rw[<-el];exact hP a
theorem j4g{j:Nat}{w:Option W}{ρ ρ3:En}{l:List D}(h:lsD t j w ρ=a8 (l,ρ3)):w=a8 (.v (.o l))/\l.length<=1000/\j≠0/\t≠0/\j≠t/\ρ[j]?=a8 .un/\t<ρ.length/\ρ3=ρ.set t (.val (.lst l)):=by
 unfold lsD at h;split at h
 .rename_i l0;split at h
  .rename_i hc;cases h;obtain⟨a,b,c,d,e,f⟩:=hc;refine⟨rfl,a,b,c,d,?_,f,rfl⟩;unfold jdx at e;split at e
   .assumption
   .cases e
  .cases h
 .cases h
structure LoT(X:Cx)(t j:Nat)(nt y nx g:aq)(es':Ex)(es:List ar)(scope:b8)(py p6 q2 q3:aM):Prop where
 hq:X.calm=aa
 hT:X.N[t]?=a8 nt
 vt:Vis X.env.scope nt
 dt:(nt==k7j)=a9
 ct:(nt==k7k)=a9
 hj:X.N[j]?=a8 y
 htg:V0 scope y=aa
 hkind:scope.kind=.function
 hok:zq scope X.env X.N [j]=aa
 hf:∀x,aK (.Name nt p6) X.env x=pure x
 hX:X.N[0]?=a8 nx
 dx:(nx==k7j)=a9
 cx:(nx==k7k)=a9
 hdb:(g==k7j)=a9
 hv:∀C s H fp pn,Vis (cCx X scope C s H fp pn).env.scope nx
 hg:∀C s H fp pn,Gl (cCx X scope C s H fp pn) g
 hs:∀C s H fp pn,ah (.Name nx q2::es) (cCx X scope C s H fp pn).env=(a9,aE (.Name nx q2) (cCx X scope C s H fp pn).env)::ah es (cCx X scope C s H fp pn).env
 hpl:∀C s H fp pn,(aR q3 (ah es (cCx X scope C s H fp pn).env)).any (·.1)=a9
 he:∀C s H fp pn,Tr (cCx X scope C s H fp pn) es' (.a es)
theorem MD.minc {n:Nat} {p3 p4 p5 p6 p7 p8 p9 py q1 q2 q3:aM} (hset:SetT X t it' st) (L:LoT X t j nt y nx g es' es scope py p6 q2 q3) (hgm:Gl X "min") (hsm:ah [.ListComp (.Tuple [.Call (.Name g q1) (.Name nx q2::es) [] q3,.Name y p4] n p5) [⟨.Name y py,.Name nt p6,[],0⟩] scope p7] X.env=[(a9,aE (.ListComp (.Tuple [.Call (.Name g q1) (.Name nx q2::es) [] q3,.Name y p4] n p5) [⟨.Name y py,.Name nt p6,[],0⟩] scope p7) X.env)])
  (hs1:∀C s H fp pn,ah [.Call (.Name g q1) (.Name nx q2::es) [] q3,.Name y p4] (cCx X scope C s H fp pn).env=(a9,aE (.Call (.Name g q1) (.Name nx q2::es) [] q3) (cCx X scope C s H fp pn).env)::ah [.Name y p4] (cCx X scope C s H fp pn).env)
  (hs2:∀C s H fp pn,ah [.Name y p4] (cCx X scope C s H fp pn).env=(a9,aE (.Name y p4) (cCx X scope C s H fp pn).env)::ah [] (cCx X scope C s H fp pn).env) (hy:∀C s H fp pn,Tr (cCx X scope C s H fp pn) (.var j) (.e (.Name y p4))) :
  MD X (.minc t j it' g es') [st,.Return (a8 (.Call (.Name "min" p3) [.ListComp (.Tuple [.Call (.Name g q1) (.Name nx q2::es) [] q3,.Name y p4] n p5) [⟨.Name y py,.Name nt p6,[],0⟩] scope p7] [] p8)) p9]:=λΓ G cc gg ρ a ks ns d ks' ns' h0 ho hr=>by
 replace hr:Ym (lsD t j (ev Γ G it' (j5 ρ)) (j5 ρ)) (λl ρ3=>Fx l (v7 (λd ks ns=>qy Γ g (ev Γ G es' (ρ3.set j (.val d))) ks ns) l ks ns))=a8 (d,ks',ns'):=hr
 cases e1:lsD t j (ev Γ G it' (j5 ρ)) (j5 ρ) with
 |none=>rw[e1]at hr;cases hr
 |some r1 =>
  obtain⟨l,ρ3⟩:=r1;rw[e1]at hr;obtain⟨z1,z2,z3,z4,z5,z6,z7,z8⟩:=j4g e1;subst z8
  replace hr:Fx l (v7 (λd ks ns=>qy Γ g (ev Γ G es' (((j5 ρ).set t (.val (.lst l))).set j (.val d))) ks ns) l ks ns)=a8 (d,ks',ns'):=hr
  have hl:t<ρ.length:=by unfold j5 at z7;rw[km]at z7;exact z7
  refine DDb.then (N:=λρ1=>∃b,ρ1=ρ.set t (.own b l)) ho (hset Γ G cc gg ρ l _ z1 λb=>⟨b,rfl⟩) ?_;rintro _ ⟨b,rfl⟩;refine DDb.freeze (i:=t) (b:=b) (l:=l) (Jq hl) ?_;rw[gO];have h0':=Fq (v:=.val (.lst l)) h0 z4;have ho':owns (ρ.set t (.val (.lst l)))=[]:=Jd ho;unfold Fx at hr;cases e2:v7 (λd ks ns=>qy Γ g (ev Γ G es' (((j5 ρ).set t (.val (.lst l))).set j (.val d))) ks ns) l ks ns with
  |none=>rw[e2]at hr;cases hr
  |some r2 =>
   obtain⟨rs,ks2,ns2⟩:=r2;rw[e2]at hr;dsimp only at hr;cases e3:Y6 rs l with
   |none=>rw[e3]at hr;cases hr
   |some ls =>
    rw[e3]at hr;obtain⟨k,e4,e5⟩:=Xm.mp hr;cases e5;obtain⟨w1,w2⟩:=j45 e3;have rl:=Wy e2;have hju:(ρ.set t (.val (.lst l)))[j]?=a8 .un:=by rw[qb (ba z5)];exact Dy z6
    refine DDb.ret h0' (DFx.minT cc.un' L.hq (cc.bt _ (by decide)) hgm (DFl.comp (rs:=ls.map λk=>D.tup (k.map D.int)) (ds:=l) (DI.lst (DE.var t (Jq hl) L.hT L.vt L.dt L.ct)) ho' (ba z3) hju (Xh z2 (by decide)) (by rw[km,w1,rl]) (λC s H fp pn=>Up cc.nd L.hj (Zt L.htg) (Y0 L.htg))
     (λi ks1 ns1=>v7 (λd ks ns=>qy Γ g (ev Γ G es' (((j5 ρ).set t (.val (.lst l))).set j (.val d))) ks ns) (l.drop i) ks1 ns1=a8 (rs.drop i,ks',ns')) (by simpa using e2) (λks2 ns2 hw=>by rw[fq]at hw;have z:=aB hw;exact⟨congrArg (·.2.1) z,congrArg (·.2.2) z⟩) (λC s H fp pn i d ks1 ns1 hd hw=>?_) L.hq L.hkind L.hok L.hf) e4 hsm)
    obtain⟨r,ks3,ns3,y1,y2,y3⟩:=El hd hw;obtain⟨nn,ss,x1,x2,x3⟩:=w2 i r d y2 hd;subst x1 x2;have hjl:j<(ρ.set t (.val (.lst l))).length:=(xr.mp hju).1;refine⟨.tup [.int nn,.int ss],ks3,ns3,DFx.tup2 (Rw cc.comp gg.comp (L.he C s H fp pn) (Jd ho') ?_ L.hX (L.hv C s H fp pn) L.dx L.cx (L.hg C s H fp pn) L.hdb (L.hs C s H fp pn) (L.hpl C s H fp pn)) ((sound (hy C s H fp pn) cc.comp gg.comp _ (.e (.int ss)) ?_).toE rfl) (Jd ho') (hs1 C s H fp pn) (hs2 C s H fp pn),by rw[xq,x3];rfl,y3⟩
    .rw[Za,Za];exact y1
    .rw[Za];unfold ev;rw[cz (by unfold j5;rw[km];exact hjl)];rfl
theorem MD.maxc {p3 p6 p7 p8 p9 py q1 q2 q3:aM} (hset:SetT X t it' st) (L:LoT X t j nt y nx g es' es scope py p6 q2 q3) (hgm:Gl X "max") (hsm:ah [.ListComp (.Call (.Name g q1) (.Name nx q2::es) [] q3) [⟨.Name y py,.Name nt p6,[],0⟩] scope p7] X.env=[(a9,aE (.ListComp (.Call (.Name g q1) (.Name nx q2::es) [] q3) [⟨.Name y py,.Name nt p6,[],0⟩] scope p7) X.env)]) :
  MD X (.maxc t j it' g es') [st,.Return (a8 (.Call (.Name "max" p3) [.ListComp (.Call (.Name g q1) (.Name nx q2::es) [] q3) [⟨.Name y py,.Name nt p6,[],0⟩] scope p7] [] p8)) p9]:=λΓ G cc gg ρ a ks ns d ks' ns' h0 ho hr=>by
 replace hr:Ym (lsD t j (ev Γ G it' (j5 ρ)) (j5 ρ)) (λl ρ3=>M8 (v7 (λd ks ns=>qy Γ g (ev Γ G es' (ρ3.set j (.val d))) ks ns) l ks ns))=a8 (d,ks',ns'):=hr
 cases e1:lsD t j (ev Γ G it' (j5 ρ)) (j5 ρ) with
 |none=>rw[e1]at hr;cases hr
 |some r1 =>
  obtain⟨l,ρ3⟩:=r1;rw[e1]at hr;obtain⟨z1,z2,z3,z4,z5,z6,z7,z8⟩:=j4g e1;subst z8
  replace hr:M8 (v7 (λd ks ns=>qy Γ g (ev Γ G es' (((j5 ρ).set t (.val (.lst l))).set j (.val d))) ks ns) l ks ns)=a8 (d,ks',ns'):=hr
  have hl:t<ρ.length:=by unfold j5 at z7;rw[km]at z7;exact z7
  refine DDb.then (N:=λρ1=>∃b,ρ1=ρ.set t (.own b l)) ho (hset Γ G cc gg ρ l _ z1 λb=>⟨b,rfl⟩) ?_;rintro _ ⟨b,rfl⟩;refine DDb.freeze (i:=t) (b:=b) (l:=l) (Jq hl) ?_;rw[gO];have h0':=Fq (v:=.val (.lst l)) h0 z4;have ho':owns (ρ.set t (.val (.lst l)))=[]:=Jd ho;unfold M8 at hr;cases e2:v7 (λd ks ns=>qy Γ g (ev Γ G es' (((j5 ρ).set t (.val (.lst l))).set j (.val d))) ks ns) l ks ns with
  |none=>rw[e2]at hr;cases hr
  |some r2 =>
   obtain⟨rs,ks2,ns2⟩:=r2;rw[e2]at hr;dsimp only at hr;cases e3:intsOf rs with
   |none=>rw[e3]at hr;cases hr
   |some ms =>
    rw[e3]at hr;dsimp only at hr;split at hr
    .rename_i hne;cases hr;have er:=v5 e3;have rl:=Wy e2;have hju:(ρ.set t (.val (.lst l)))[j]?=a8 .un:=by rw[qb (ba z5)];exact Dy z6
     refine DDb.ret h0' (DFx.maxL (DFl.comp (rs:=ms.map D.int) (ds:=l) (DI.lst (DE.var t (Jq hl) L.hT L.vt L.dt L.ct)) ho' (ba z3) hju (Xh z2 (by decide)) (by rw[<-er];exact rl) (λC s H fp pn=>Up cc.nd L.hj (Zt L.htg) (Y0 L.htg))
      (λi ks1 ns1=>v7 (λd ks ns=>qy Γ g (ev Γ G es' (((j5 ρ).set t (.val (.lst l))).set j (.val d))) ks ns) (l.drop i) ks1 ns1=a8 (rs.drop i,ks',ns')) (by simpa using e2) (λks2 ns2 hw=>by rw[fq]at hw;have z:=aB hw;exact⟨congrArg (·.2.1) z,congrArg (·.2.2) z⟩) (λC s H fp pn i d ks1 ns1 hd hw=>?_) L.hq L.hkind L.hok L.hf) hne (cc.bt _ (by decide)) L.hq hgm hsm)
     obtain⟨r,ks3,ns3,y1,y2,y3⟩:=El hd hw;refine⟨r,ks3,ns3,Rw cc.comp gg.comp (L.he C s H fp pn) (Jd ho') ?_ L.hX (L.hv C s H fp pn) L.dx L.cx (L.hg C s H fp pn) L.hdb (L.hs C s H fp pn) (L.hpl C s H fp pn),by rw[<-er];exact y2,y3⟩;rw[Za,Za];exact y1
    .cases hr
end
structure Fi where
 n:Nat
 nn:Nat
 body:Sx
 lam:Bool
noncomputable def jdk:Rc->Rc
 |.val d=>.lval d
 |_=>.no
noncomputable def fin:So->Rc
 |.ret r=>r
 |.next _=>.val .non
 |.err x _=>.err x
 |_=>.no
noncomputable def enter(F:Fi)(ds:List D):En:=ds.map Sv.val++au (F.nn-F.n) Sv.un
noncomputable def evP(fu:Nat)(G:aq->Option D)(T:aq->Option Fi):Nat->aq->List D->Rc
 |0,_,_=>.no
 |n+1,f,ds=>match T f with
  |none=>.no
  |some F=>if ds.length=F.n then(if F.lam=aa then jdk (fin (run fu (evP fu G T n) G F.body (enter F ds)))else fin (run fu (evP fu G T n) G F.body (enter F ds)))else .no
structure Lk(P:ay)(w:aD)(K:k7f)(mg:k7i)(base:aF)(x:aq)(F:Fi):Prop where
 ex:∃(st:aN)(f:ai)(fd:aL)(N ps:List aq),Fun K x x st f fd/\FnScope N ps (j7 st)/\ps.length=F.n/\N.length=F.nn/\Binds K fd ps []/\Dfl K x fd ps/\mg x=a8 (.ref f) /\
  ∀(cdv:aj)(A:aG)(outer:List cT)(s:ao)(H:Hp)(E:XK)(xe:k7g),Ts ((zc CX0 P w K mg base N x (j7 st) f cdv A outer s H E).wish xe) F.body (.ss (jy st))
structure LkL(P:ay)(w:aD)(K:k7f)(mg:k7i)(base:aF)(x:aq)(F:Fi):Prop where
 ex:∃(tx:Tx)(N ps:List aq)(e:Ex),j2t K x=a8 tx/\LamScope N ps tx.2.2/\N.length=F.n/\F.nn=F.n/\F.body=.ret e /\
  (∀(cl:List (aq×ai)) (pm:aj) (c:ai) (ctv:aj) (us:List aj),us.length=ps.length->eV (W.kla_fn "<lambda>" (za x) tx.1 tx.2.1 tx.2.2 cl pm (.ref c) ctv) ⟨us,[]⟩=pure (ps.zip us)) /\
  ∀(a c:ai)(cl:List (aq×ai)) (A:aG) (outer:List cT) (s:ao) (H:Hp),Tr (Yv P w K mg base N (za x) tx.2.2 a (.ref c) cl A outer s H) e (.e tx.2.1)
structure LkD(P:ay)(w:aD)(K:k7f)(mg:k7i)(base:aF)(x:aq)(F:Fi):Prop where
 ex:∃(g:aq)(p:Dx)(st:aN)(f:ai)(fd:aL)(N ps:List aq),x=dq g/\F.body=.dx p/\Fun K g g st f fd/\FnScope N ps (j7 st)/\ps.length=F.n/\N.length=F.nn/\0<ps.length/\ps.length<=N.length/\Binds K fd ps []/\mg g=a8 (.ref f) /\
  ∀(cdv:aj)(A:aG)(outer:List cT)(s:ao)(H:Hp)(E:XK)(xe:k7g),MD ((zc CX0 P w K mg base N g (j7 st) f cdv A outer s H E).wish xe) p (jy st)
def LkF(P:ay)(w:aD)(K:k7f)(mg:k7i)(base:aF)(f:aq)(F:Fi):Prop:=(F.lam=a9->(Lk P w K mg base f F/\f.cps.toList.getLast?≠a8 62/\f.cps.toList.head?≠a8 64/\f.cps.toList.head?≠a8 35)\/LkD P w K mg base f F)/\(F.lam=aa->∃x,f=za x/\LkL P w K mg base x F)
structure Tb(P:ay)(w:aD)(K:k7f)(mg:k7i)(base:aF)(G:aq->Option D):Prop where
 bt:∀x∈Rz,mg x=ae
 gl:∀x d,Vg x=a9->G x=a8 d->∃u v,mg x=a8 u/\RelV v u/\∀H,Enc K H d v
 ea:Mg K=aa
 ec:∀x d,G (bang x)=a8 d->x∈vm/\∃o,W.nsIn K az x=a8 (a8 o)
 el:G "?" = a8 (.bl aa)->∀c∈vm,∃v,W.nsIn K az c=a8 (a8 v)
 kin:K.In base
 ns:base.Ns az mg
 kd:∀x l,G (bang x)=a8 (.lst l)->KindsP P w K mg base "_law_kinds" x l
 fn:∀f d,G (qm f)=a8 d->∃fa,mg f=a8 (.ref fa)/\W.keepIn K (.ref fa)=aa
 lm:∀x∈Vl,∀f cdv,mg x=a8 (.ref f)->Wm K f cdv->∃c Pt,cdv=.ref c/\W.codeHdIn K c Pt=aa/\W.tabIn K x=a8 (c,Pt)
section
variable{P:ay}{w:aD}{K:k7f}{mg:k7i}{base:aF}{fu:Nat}{G:aq->Option D}{T:aq->Option Fi}
theorem Wj{N:List aq}{ds:List D}{F:Fi}(h1:ds.length=F.n)(h2:N.length=F.nn):j5 (q9 N ds)=enter F ds:=by unfold j5 q9 enter;rw[Xl,Xg,Te,h1,h2];rfl
theorem Ry(y:aq):(bang y).cps.toList.head?=a8 33:=by unfold bang;show(("!":aq).cps++y.cps).toList.head?=a8 33;rw[bY];rfl
theorem jb4(y:aq):(dq y).cps.toList.head?=a8 35:=by unfold dq;show(("#":aq).cps++y.cps).toList.head?=a8 35;rw[bY];rfl
theorem jer{x y:aq}(h:dq x=dq y):x=y:=by unfold dq at h;have h:(⟨("#":aq).cps++x.cps⟩:aq)=⟨("#":aq).cps++y.cps⟩:=h;have h:=congrArg iI h;have e:x.cps=y.cps:=dG h rfl;cases x;cases y;cases e;rfl
theorem j11{N:List aq}{a:ai}{ds:List D}{F:Fi}{d:D}(h1:ds.length+1=F.n)(h2:N.length=F.nn):j5 (startM N a ds)=(enter F (d::ds)).set 0 (.exc rfN):=by
 have e:N.length-(ds.length+1)=F.nn-F.n:=by omega
 unfold startM;rw[jw];unfold j5 q9 enter;rw[Xl,Xg,Te];simp only[X5,fv,Xw,X6,e];rfl
theorem jbf (y:aq):bang y ≠ "?":=λh=>by have:=Ry y;rw[h]at this;exact absurd this (by decide)
theorem j19(y:aq):(qm y).cps.toList.head?=a8 63:=by unfold qm;show(("??":aq).cps++y.cps).toList.head?=a8 63;rw[bY];rfl
theorem jge (y:aq):qm y ≠ "?":=λh=>by
 have e:((qm y).cps.toList.drop 1).head?=a8 63:=by unfold qm;show((("??":aq).cps++y.cps).toList.drop 1).head?=a8 63;rw[bY];rfl
 rw[h]at e;exact absurd e (by decide)
theorem jcf{x y:aq}(h:qm x=qm y):x=y:=by unfold qm at h;have h:(⟨("??":aq).cps++x.cps⟩:aq)=⟨("??":aq).cps++y.cps⟩:=h;have h:=congrArg iI h;have e:x.cps=y.cps:=dG h rfl;cases x;cases y;cases e;rfl
theorem j1w(x y:aq):bang x≠qm y:=λh=>by have:=Ry x;rw[h,j19]at this;exact absurd this (by decide)
theorem Mr{x y z:aq}(h:x++z=y++z):x=y:=by have h:(⟨x.cps++z.cps⟩:aq)=⟨y.cps++z.cps⟩:=h;have h:=congrArg iI h;have e:x.cps=y.cps:=Array.append_inj_left' h rfl;cases x;cases y;cases e;rfl
theorem j6p{x y:aq}(h:za x=za y):x=y:=Mr (Mr h)
theorem Cu(x:aq):(za x).cps.toList.getLast?=a8 62:=by unfold za;show(((x ++ ".<locals>.").cps)++("<lambda>":aq).cps).toList.getLast?=a8 62;rw[bY,List.getLast?_append];rfl
theorem j2s(x:aq):za x∉Vl:=λh=>by
 have e:=Cu x
 revert e
 unfold Vl at h;rcases xu.mp h with h|h
 .rw[h];decide
 rcases xu.mp h with h|h
 .rw[h];decide
 rcases xu.mp h with h|h
 .rw[h];decide
 .rw[xj.mp h];decide
theorem jca{fu:Nat}{Γ:aq->List D->Rc}{G:aq->Option D}{e:Ex}{ρ:En}{d:D}(h:fin (run fu Γ G (.ret e) ρ)=.val d):∃r,ev Γ G e ρ=a8 (.v r)/\r.d=d:=by
 rw[j8s]at h;cases z:ev Γ G e ρ with
 |none=>rw[z]at h;cases y:er Γ G e ρ<;>(rw[y]at h;cases h)
 |some w =>
  cases w with
  |v r =>
   rw[z]at h;cases r with
   |o l=>cases h
   |e d=>cases h;exact⟨_,rfl,rfl⟩
   |w l=>cases h;exact⟨_,rfl,rfl⟩
   |t d=>cases h;exact⟨_,rfl,rfl⟩
  |a l=>rw[z]at h;cases y:er Γ G e ρ<;>(rw[y]at h;cases h)
  |i l=>rw[z]at h;cases y:er Γ G e ρ<;>(rw[y]at h;cases h)
theorem Vf (t:Tb P w K mg base G) {X:Cx} {n:Nat} (h1:X.prog=P) (h2:X.w=w) (h3:X.K=K) (h4:X.mg=mg) (h5:X.base=base) (hn:12<=n) (hr:Room n X.A) (nd:X.N.Nodup) (po:ik (aC X.prog X.w) X.A X.env X.xe) (hlm:∀x∈Vl,X.env.qual=x ++ ".<locals>."->∃c P,X.env.code=.ref c/\W.codeHdIn K c P=aa/\W.tabIn K x=a8 (c,P)) (hfr:∃(env0:cT)(out0:List cT)(L:ai),X.stack=env0::out0/\env0.frame=a8 L/\X.env.frame=a8 L:=by exact⟨_,_,_,rfl,rfl,rfl⟩):Cok X G:=by subst h1 h2 h3 h4 h5;exact⟨by have:=hr.un;omega,(λ_=>by have:=hr.un;omega),(λ_=>by have:=hr.dp;omega),t.bt,t.gl,nd,po,t.ea,t.ec,t.el,t.kin,t.ns,t.kd,t.fn,(λ_=>hr.gd),hfr,hlm⟩
theorem W3 (t:Tb P w K mg base G) {g:aq} {f:ai} {cdv:aj} {env:cT} (hm:mg g=a8 (.ref f)) (hcv:Wm K f cdv) (hq:env.qual=g ++ ".<locals>.") (hc:env.code=cdv):∀x∈Vl,env.qual=x ++ ".<locals>."->∃c P,env.code=.ref c/\W.codeHdIn K c P=aa/\W.tabIn K x=a8 (c,P):=λx hx e=>by have eg:=Mr (hq.symm.trans e);subst eg;rw[hc];exact t.lm _ hx f cdv hm hcv
noncomputable def lv:Nat->Nat
 |0=>12
 |n+1=>lv n+2
theorem Vq:∀n,12<=lv n+1
 |0=>by decide
 |n+1=>by have:=Vq n;unfold lv;omega
theorem O1:∀ns:List Int,intsOf (ns.map D.int)=a8 ns
 |[]=>rfl
 |n::ns=>by rw[X5,intsOf,O1 ns];rfl
theorem Bp(hT:∀x F,T x=a8 F->LkF P w K mg base x F)(t:Tb P w K mg base G):∀(n:Nat)(x:aq)(ds:List D),
  ∃(f:ai)(fd:aL)(ps:List aq),match evP fu G T n x ds with
   |.val d=>FnOk P w K mg base CX0 (lv n) f fd ps (spP K λds' d'=>ds'=ds/\d'=d)/\mg x=a8 (.ref f)/\W.keepIn K (.ref f)=aa/\Binds K fd ps []/\Dfl K x fd ps
   |.fresh l=>FnOk P w K mg base CX0 (lv n) f fd ps (spF K λds' l'=>ds'=ds/\l'=l)/\mg x=a8 (.ref f)/\W.keepIn K (.ref f)=aa/\Binds K fd ps []/\Dfl K x fd ps
   |.err y=>FnOk P w K mg base (CX1 P w) (lv n) f fd ps (spX K mg λds' z=>ds'=ds/\z=y)/\mg x=a8 (.ref f)/\W.keepIn K (.ref f)=aa/\Binds K fd ps []
   |.lval d=>∀y,x=za y->j3c P w K mg base (lv n) y λds' d'=>ds'=ds/\d'=d
   |.mval _ _=>True
   |.merr _=>True
   |.dval d ks' ns'=>∀g ks ns ds',x=dq g->ds=.dct ks (ns.map D.int)::ds'->FnOk P w K mg base CX0 (lv n) f fd ps (spD K λks2 ns2 ds2 d2 ks2' ns2'=>ks2=ks/\ns2=ns/\ds2=ds'/\d2=d/\ks2'=ks'/\ns2'=ns')/\mg g=a8 (.ref f)/\W.keepIn K (.ref f)=aa/\Binds K fd ps []
   |.no=>True
 |0,x,ds=>⟨0,W.fnOf x x { posonlyargs:=[],args:=[],vararg:=ae,kwonlyargs:=[],kw_defaults:=[],kwarg:=ae,defaults:=[] } [] { kind:=.function,names:=[],isGenerator:=a9,isCoroutine:=a9 } .none .none .none .none ae .none .none,[],trivial⟩
 |n+1,x,ds=>by
  have ih:=Bp hT t n;cases hF:T x with
  |none =>
   obtain⟨f,fd,ps,_⟩:=ih x ds;refine⟨f,fd,ps,?_⟩;have e:evP fu G T (n+1) x ds=.no:=by simp only[evP,hF]
   rw[e];trivial
  |some F =>
   have gok:∀{X:Cx},X.prog=P->X.w=w->X.K=K->X.mg=mg->X.base=base->Room (lv n+1) X.A->Gok X (evP fu G T n):=λ{X} h1 h2 h3 h4 h5 hr g ds'=>by
    subst h1 h2 h3 h4 h5;obtain⟨f',fd',ps',q⟩:=ih g ds';cases z:evP fu G T n g ds' with
    |val d=>rw[z]at q;exact⟨lv n,f',fd',ps',q.1,hr,q.2.1,q.2.2.1,q.2.2.2⟩
    |fresh l=>rw[z]at q;exact⟨lv n,f',fd',ps',q.1,hr,q.2.1,q.2.2.1,q.2.2.2⟩
    |err y=>rw[z]at q;exact⟨lv n,f',fd',ps',q.1,hr.mono (Pu _),q.2.1,q.2.2.1,q.2.2.2⟩
    |lval d=>rw[z]at q;exact λy hy=>⟨lv n,hr.mono (Pu _),q y hy⟩
    |mval _ _=>trivial
    |merr _=>trivial
    |dval d ks ns=>rw[z]at q;exact λg' ks ns ds'' h1 h2=>let ⟨a,b⟩:=q g' ks ns ds'' h1 h2;⟨⟨lv n,f',fd',ps',a,hr,b⟩⟩
    |no=>trivial
   cases hlam:F.lam with
   |true =>
    obtain⟨f,fd,ps,_⟩:=ih x ds;refine⟨f,fd,ps,?_⟩;by_cases hl:ds.length=F.n
    .have e:evP fu G T (n+1) x ds=jdk (fin (run fu (evP fu G T n) G F.body (enter F ds))):=by simp only[evP,hF,if_pos hl,hlam,if_true]
     rw[e];obtain⟨y,ey,L⟩:=(hT x F hF).2 hlam;obtain⟨tx,N,ps,ex,htx,hsc,hN,hnn,hbd,hba,htr⟩:=L.ex;cases ho:fin (run fu (evP fu G T n) G F.body (enter F ds)) with
     |val d =>intro y' hy';have eyy:y=y':=j6p (ey.symm.trans hy');subst eyy;refine jdi (k:=lv n+1) htx hsc (λds' d' h=>by rw[h.1,hl,hN]) hba λa c cl A outer s H hcl hr ds' d' ⟨e1,e2⟩=>?_;subst e1 e2;have ab:j5 (q9 N ds')=enter F ds':=Wj hl (by rw[hN,hnn]);rw[hbd,<-ab]at ho;obtain⟨r,er,ed⟩:=jca ho;exact ed▸(sound (htr a c cl A outer s H) (Vf t rfl rfl rfl rfl rfl (Vq _) hr hsc.nd bB λz hz hq=>absurd (Mr hq▸hz) (j2s y)) (gok rfl rfl rfl rfl rfl hr) (q9 N ds') r er).toT
     |fresh l=>trivial
     |err z=>trivial
     |lval z=>trivial
     |mval z k=>trivial
     |merr z=>trivial
     |dval z ks ns=>trivial
     |no=>trivial
    .have e:evP fu G T (n+1) x ds=.no:=by simp only[evP,hF,if_neg hl]
     rw[e];trivial
   |false =>
   rcases(hT x F hF).1 hlam with ⟨L,hlast,hhead,hhead2⟩|L
   rotate_left
   .obtain⟨g0,p,st,f,fd,N,ps,hxg,hbody,hfun,hsc,hps,hN,hp0,hpN,hb,hm,hmd⟩:=L.ex;refine⟨f,fd,ps,?_⟩;by_cases hl:ds.length=F.n
    .have e:evP fu G T (n+1) x ds=fin (run fu (evP fu G T n) G F.body (enter F ds)):=by simp only[evP,hF,if_pos hl,hlam,Pz,if_false]
     rw[e,hbody,run];cases ho:dxS (enter F ds)[0]? λks ns=>Vi (evP fu G T n) G p ks ns ((enter F ds).set 0 (.exc rfN)) with
     |next ρ' =>
      exfalso;unfold dxS at ho
      repeat' split at ho
      all_goals cases ho
     |brk _=>trivial
     |cnt _=>trivial
     |no=>trivial
     |err y ρ' =>
      exfalso;unfold dxS at ho
      repeat' split at ho
      all_goals cases ho
     |ret r =>
      have sh:∃d ks' ns',r=.dval d ks' ns':=by
       unfold dxS at ho
       repeat' split at ho
       all_goals (cases ho)
       exact⟨_,_,_,rfl⟩
      obtain⟨d,ks',ns',er⟩:=sh;subst er;intro g ks ns ds' h1 h2;have eg:g0=g:=jer (hxg.symm.trans h1);subst eg;have hl2:ds'.length+1=ps.length:=by rw[h2]at hl;simp only[X6]at hl;omega
      have z:Vi (evP fu G T n) G p ks ns ((enter F ds).set 0 (.exc rfN))=a8 (d,ks',ns'):=by
       have e0:(enter F ds)[0]?=a8 (.val (.dct ks (ns.map D.int))):=by rw[h2];rfl
       rw[e0]at ho;unfold dxS at ho;simp only[O1]at ho;split at ho
       .rename_i d2 ks2 ns2 z;cases ho;exact z
       .cases ho
      refine⟨jj6 (n:=lv n+1) hfun hsc (λks2 ns2 ds2 d2 ks2' ns2' h=>by rw[h.2.2.1,hl2]) λcdv A outer s H E hcv hr a ks2 ns2 ds2 d2 ks2' ns2' h=>?_,hm,hfun.kp,hb⟩;obtain⟨rfl,rfl,rfl,rfl,rfl,rfl⟩:=h;have ck:=Vf t (X:=(zc CX0 P w K mg base N g0 (j7 st) f cdv A outer s H E).nox) rfl rfl rfl rfl rfl (Vq _) hr hsc.nd bB (W3 t hm hcv rfl rfl);refine hmd cdv A outer s H E _ (evP fu G T n) G ck (gok rfl rfl rfl rfl rfl hr) _ a _ _ _ _ _ ⟨dOb,?_⟩ (j0o _ _ _) ?_
      .unfold startM;exact Jq (by unfold q9;rw[Xe,km,X6];omega)
      .rw[j11 (F:=F) (d:=.dct ks2 (ns2.map D.int)) nofun hN,<-h2];exact z
    .have e:evP fu G T (n+1) x ds=.no:=by simp only[evP,hF,if_neg hl]
     rw[e];trivial
   obtain⟨st,f,fd,N,ps,hfun,hsc,hps,hN,hb,hdf,hm,hts⟩:=L.ex;refine⟨f,fd,ps,?_⟩;by_cases hl:ds.length=F.n
   .have e:evP fu G T (n+1) x ds=fin (run fu (evP fu G T n) G F.body (enter F ds)):=by simp only[evP,hF,if_pos hl,hlam,Pz,if_false]
    have ab:j5 (q9 N ds)=enter F ds:=Wj hl hN;cases ho:run fu (evP fu G T n) G F.body (enter F ds) with
    |next ρ' =>rw[e,ho];refine⟨Dk (k:=lv n+1) hfun hsc (λds' d' h=>by rw[h.1,hl,hps]) λcdv A outer s H E hcv hr ds' d' ⟨e1,e2⟩=>?_,hm,hfun.kp,hb,hdf⟩;subst e1 e2;refine Ul (fu:=fu) (hts cdv A outer s H E _) (Vf t rfl rfl rfl rfl rfl (Vq _) hr hsc.nd bB (W3 t hm hcv rfl rfl)) (gok rfl rfl rfl rfl rfl hr) (q9 N ds') _ ?_;rw[ab,ho];exact λ_ _=>rfl
    |ret r =>
     rw[e,ho];cases r with
     |no=>trivial
     |lval d=>exact λy hy=>absurd (hy▸Cu y) hlast
     |mval _ _=>trivial
     |merr _=>trivial
     |dval d ks ns=>exact λg _ _ _ hy=>absurd (hy▸jb4 g) hhead2
     |err y =>refine⟨j4r (k:=lv n+1) hfun hsc (λds' d' h=>by rw[h.1,hl,hps]) λcdv A outer s H E hcv hr ds' y' ⟨e1,e2⟩=>?_,hm,hfun.kp,hb⟩;subst e1 e2;refine Ul (X:=zc (CX1 P w) P w K mg base N x (j7 st) f cdv A outer s H E) (fu:=fu) (hts cdv A outer s H E (zc (CX1 P w) P w K mg base N x (j7 st) f cdv A outer s H E).xe) (Vf t rfl rfl rfl rfl rfl (Vq _) hr hsc.nd gJ (W3 t hm hcv rfl rfl)) (gok rfl rfl rfl rfl rfl hr) (q9 N ds') _ ?_;rw[ab,ho];intro z hz;cases z<;>cases hz
     |val d =>
      refine⟨Dk (k:=lv n+1) hfun hsc (λds' d' h=>by rw[h.1,hl,hps]) λcdv A outer s H E hcv hr ds' d' ⟨e1,e2⟩=>?_,hm,hfun.kp,hb,hdf⟩;subst e1 e2;refine Ul (fu:=fu) (hts cdv A outer s H E _) (Vf t rfl rfl rfl rfl rfl (Vq _) hr hsc.nd bB (W3 t hm hcv rfl rfl)) (gok rfl rfl rfl rfl rfl hr) (q9 N ds') _ ?_;rw[ab,ho];intro y hy;cases y with
      |val d=>cases hy;rfl
      |fresh l=>cases hy
     |fresh l =>
      refine⟨j73 (k:=lv n+1) hfun hsc (λds' d' h=>by rw[h.1,hl,hps]) λcdv A outer s H E hcv hr ds' d' ⟨e1,e2⟩=>?_,hm,hfun.kp,hb,hdf⟩;subst e1 e2;refine Ul (fu:=fu) (hts cdv A outer s H E _) (Vf t rfl rfl rfl rfl rfl (Vq _) hr hsc.nd bB (W3 t hm hcv rfl rfl)) (gok rfl rfl rfl rfl rfl hr) (q9 N ds') _ ?_;rw[ab,ho];intro y hy;cases y with
      |val d=>cases hy
      |fresh l=>cases hy;rfl
    |err y ρ' =>rw[e,ho];refine⟨j4r (k:=lv n+1) hfun hsc (λds' d' h=>by rw[h.1,hl,hps]) λcdv A outer s H E hcv hr ds' y' ⟨e1,e2⟩=>?_,hm,hfun.kp,hb⟩;subst e1 e2;refine Ul (X:=zc (CX1 P w) P w K mg base N x (j7 st) f cdv A outer s H E) (fu:=fu) (hts cdv A outer s H E (zc (CX1 P w) P w K mg base N x (j7 st) f cdv A outer s H E).xe) (Vf t rfl rfl rfl rfl rfl (Vq _) hr hsc.nd gJ (W3 t hm hcv rfl rfl)) (gok rfl rfl rfl rfl rfl hr) (q9 N ds') _ ?_;rw[ab,ho];exact λ_ _=>rfl
    |brk _=>rw[e,ho];trivial
    |cnt _=>rw[e,ho];trivial
    |no=>rw[e,ho];trivial
   .have e:evP fu G T (n+1) x ds=.no:=by simp only[evP,hF,if_neg hl]
    rw[e];trivial
end
noncomputable def Gof(gs:List (aq×D))(q:Bool)(xs:List (aq×List D))(fs:List aq)(x:aq):Option D :=
 if Vg x=aa then(if x = "?" then(if q=aa then a8 (.bl aa)else ae) else((xs.find? λp=>bang p.1==x).map λp=>.lst p.2).or (if (fs.any λf=>qm f==x)=aa then a8 .non else ae))else gs.lookup x
theorem j7v{x y:aq}(h:bang x=bang y):x=y:=by unfold bang at h;have h:(⟨("!":aq).cps++x.cps⟩:aq)=⟨("!":aq).cps++y.cps⟩:=h;have h:=congrArg iI h;have e:x.cps=y.cps:=dG h rfl;cases x;cases y;cases e;rfl
theorem j0y(x:aq):Vg (bang x)=aa:=by unfold Vg;rw[Ry];rfl
theorem j5g(x:aq):Vg (qm x)=aa:=by unfold Vg;rw[j19];rfl
theorem Ew{gs:List (aq×D)}{q:Bool}{xs:List (aq×List D)}{fs:List aq}{x:aq}{d:D}(h:Gof gs q xs fs (bang x)=a8 d):∃p∈xs,p.1=x/\d=.lst p.2:=by
 unfold Gof at h;rw[if_pos (j0y x),if_neg (jbf x)]at h;have hn:(fs.any λf=>qm f==bang x)=a9:=by rw[List.any_eq_false];intro f _ e;exact j1w x f (beq_iff_eq.mp e).symm
 rw[hn,if_neg (by decide),Option.or_none]at h;obtain⟨p,hp,rfl⟩:=Xm.mp h;have z:=List.find?_some (p:=λp:aq×List D=>bang p.1==bang x) hp;exact⟨p,List.mem_of_find?_eq_some hp,j7v (beq_iff_eq.mp z),rfl⟩
theorem je3{gs:List (aq×D)}{q:Bool}{xs:List (aq×List D)}{fs:List aq}{x:aq}{d:D}(h:Gof gs q xs fs (qm x)=a8 d):x∈fs:=by
 unfold Gof at h;rw[if_pos (j5g x),if_neg (jge x)]at h;have hn:(xs.find? λp=>bang p.1==qm x)=ae:=by rw[List.find?_eq_none];intro p _ e;exact j1w p.1 x (beq_iff_eq.mp e)
 rw[hn,Option.map_none,Option.none_or]at h;split at h
 .rename_i z;obtain⟨f,hf,e⟩:=List.any_eq_true.mp z;exact jcf (beq_iff_eq.mp e)▸hf
 .cases h
theorem jft{P:ay}{w:aD}{K:k7f}{mg:k7i}{base:aF}{gs:List (aq×D)}{q:Bool}{xs:List (aq×List D)}{fs:List aq}(bt:∀x∈Rz,mg x=ae)
  (gl:∀x d,gs.lookup x=a8 d->∃u v,mg x=a8 u/\RelV v u/\∀H,Enc K H d v) (ea:Mg K=aa) (hx:∀p∈xs,p.1∈vm/\∃o,W.nsIn K az p.1=a8 (a8 o))
  (el:q=aa->∀c∈vm,∃v,W.nsIn K az c=a8 (a8 v)) (kin:K.In base) (ns:base.Ns az mg) (fn:∀f∈fs,∃fa,mg f=a8 (.ref fa)/\W.keepIn K (.ref fa)=aa) (kd:∀p∈xs,KindsP P w K mg base "_law_kinds" p.1 p.2) (lm:∀x∈Vl,∀f cdv,mg x=a8 (.ref f)->Wm K f cdv->∃c Pt,cdv=.ref c/\W.codeHdIn K c Pt=aa/\W.tabIn K x=a8 (c,Pt)):Tb P w K mg base (Gof gs q xs fs):=by
 refine⟨bt,λx d hb h=>?_,ea,λx d h=>?_,λh=>el ?_,kin,ns,λx l h=>?_,λf d h=>fn f (je3 h),lm⟩
 .unfold Gof at h;rw[if_neg (by rw[hb];decide)]at h;exact gl x d h
 .obtain⟨p,hp,rfl,_⟩:=Ew h;exact hx p hp
 .unfold Gof at h;rw[if_pos (by decide),if_pos rfl]at h;split at h
  .rename_i z;exact z
  .cases h
 .obtain⟨p,hp,rfl,e⟩:=Ew h;cases e;exact kd p hp
def K9(K:k7f):Sp:=λvs H Q _=>∃(a:ai)(ns:List Int),vs=[.ref a]/\TabOk K H/\SqL K H a (ns.map V.int)/\ns.length<=63/\∀H':Hp,j0 H H'->Q (.bl aa) H'
theorem j0t{K:k7f}{H:Hp}{a:ai}{ns:List Int}(h:SqL K H a (ns.map V.int)):j4 K H [.lst (ns.map D.int)] [.ref a] :=
 ⟨_,[],rfl,⟨a,_,rfl,h,j4.ints ns⟩,rfl⟩
theorem jdh{P:ay}{w:aD}{K:k7f}{mg:k7i}{base:aF}{fu:Nat}{G:aq->Option D}{T:aq->Option Fi}{n:Nat}{x p:aq}{fa:ai}{st:aN}{F:Fi}
  (hT:∀x F,T x=a8 F->LkF P w K mg base x F) (t:Tb P w K mg base G)
  (hx:T x=a8 F) (hlam:F.lam=a9) (hm:mg x=a8 (.ref fa)) {fd:aL} (hfun:Fun K x x st fa fd) (N:List aq) (hsc:FnScope N [p] (j7 st)) (h1:F.n=1) (hN:N.length=F.nn)
  (hts:∀(cdv:aj)(A:aG)(outer:List cT)(s:ao)(H:Hp)(E:XK)(xe:k7g),Ts ((zc CX0 P w K mg base N x (j7 st) fa cdv A outer s H E).wish xe) F.body (.ss (jy st)))
  (hlaw:∀ns:List Int,ns.length<=63->evP fu G T (n+1) x [.lst (ns.map D.int)]=.val (.bl aa)):FnOk P w K mg base CX0 (lv (n+1)) fa fd [p] (K9 K):=by
 have S:FnOk P w K mg base CX0 (lv (n+1)) fa fd [p] (spP K λds d=>∃ns:List Int,ns.length<=63/\ds=[.lst (ns.map D.int)]/\d=.bl aa):=by
  refine Dk (k:=lv n+1) hfun hsc (λds d ⟨ns,_,h,_⟩=>by rw[h];rfl) λcdv A outer s H E hcv hr ds d ⟨ns,hns,e1,e2⟩=>?_;subst e1 e2;have e:=hlaw ns hns;simp only[evP,hx,h1,hlam,Pz,if_false,X6,T3,if_true]at e;have ab:j5 (q9 N [D.lst (ns.map D.int)])=enter F [D.lst (ns.map D.int)]:=Wj (by rw[h1];rfl) hN;have g:Gok (zc CX0 P w K mg base N x (j7 st) fa cdv A outer s H E).nox (evP fu G T n):=λg ds'=>by
   obtain⟨f',fd',ps',q⟩:=Bp (fu:=fu) hT t n g ds';cases z:evP fu G T n g ds' with
   |val d=>rw[z]at q;exact⟨lv n,f',fd',ps',q.1,hr,q.2.1,q.2.2.1,q.2.2.2⟩
   |fresh l=>rw[z]at q;exact⟨lv n,f',fd',ps',q.1,hr,q.2.1,q.2.2.1,q.2.2.2⟩
   |err y=>rw[z]at q;exact⟨lv n,f',fd',ps',q.1,hr.mono (Pu _),q.2.1,q.2.2.1,q.2.2.2⟩
   |lval d=>rw[z]at q;exact λy hy=>⟨lv n,hr.mono (Pu _),q y hy⟩
   |mval _ _=>trivial
   |merr _=>trivial
   |dval d ks ns=>rw[z]at q;exact λg' ks ns ds'' h1 h2=>let ⟨a,b⟩:=q g' ks ns ds'' h1 h2;⟨⟨lv n,f',fd',ps',a,hr,b⟩⟩
   |no=>trivial
  refine Ul (fu:=fu) (hts cdv A outer s H E _) (Vf t rfl rfl rfl rfl rfl (Vq _) hr hsc.nd bB (W3 t hm hcv rfl rfl)) g (q9 N _) _ ?_;rw[ab];cases ho:run fu (evP fu G T n) G F.body (enter F [D.lst (ns.map D.int)]) with
  |ret r =>
   rw[ho]at e;have e:r=.val (.bl aa):=e;subst e;intro y hy;cases y with
   |val d=>cases hy;rfl
   |fresh l=>cases hy
  |next ρ'=>rw[ho]at e;cases e
  |brk _=>rw[ho]at e;cases e
  |cnt _=>rw[ho]at e;cases e
  |err _ _=>rw[ho]at e;cases e
  |no=>rw[ho]at e;cases e
 refine S.imp λvs H Q E ⟨a,ns,hv,tb,hS,hl,k⟩=>?_;subst hv;exact⟨[],_,_,tb,(λa h=>nomatch h),by rw[qg];exact j0t hS,⟨ns,hl,rfl,rfl⟩,λv H' g e=>by cases(show v=.bl aa from e);exact k H' g⟩
noncomputable def K8(K:k7f):List (ai×aq):=Vl.filterMap λx=>(W.tabIn K x).map λq=>(q.2,za x)
noncomputable def tOk(K:k7f)(ts:List ai):Bool:=(Vl.all λx=>match W.nsIn K az x with
  |some ae=>aa
  |_=>match W.tabIn K x with
   |some (c,P)=>W.codeHdIn K c P&&ts.contains P
   |none=>a9)&&W.noTabs K&&decide ((K8 K).map (·.1)).Nodup
theorem j95{K:k7f}{ts:List ai}{h:aF}(hk:tOk K ts=aa)(X:K.In h)(ht:∀P∈ts,h.get? P=a8 (W.tabObj #[])):j81 (K8 K) h:=by
 unfold tOk at hk;rw[Xb,Xb]at hk;refine⟨of_decide_eq_true hk.2,λt hm=>?_⟩;obtain⟨x,hx,e⟩:=T9.mp hm;obtain⟨⟨c,P⟩,e1,e2⟩:=Xm.mp e;subst e2;have z:=Pa.mp hk.1.1 x hx;split at z
 .rename_i y;exfalso;unfold W.tabIn at e1;rw[y]at e1;cases e1
 .rw[e1]at z;have z:(W.codeHdIn K c P&&ts.contains P)=aa:=z;rw[Xb]at z;exact⟨⟨c,W.codeHd_of_K X z.1⟩,ht P (by simpa using z.2)⟩
theorem jgp{K:k7f}{ts:List ai}{h:aF}{mg:k7i}(hk:tOk K ts=aa)(X:K.In h)(Gn:h.Ns az mg):∀x∈Vl,∀f cdv,mg x=a8 (.ref f)->Wm K f cdv->∃c Pt,cdv=.ref c/\W.codeHdIn K c Pt=aa/\W.tabIn K x=a8 (c,Pt):=λx hx f cdv hm hcv=>by
 unfold tOk at hk;rw[Xb,Xb]at hk;have z:=Pa.mp hk.1.1 x hx;split at z
 .rename_i y;rw[W.mg_none_of X Gn y]at hm;cases hm
 .split at z
  .rename_i c P e;rw[Xb]at z;refine⟨c,P,?_,z.1,e⟩;obtain⟨oc,od,fd,sl,e3,e4⟩:=hcv;unfold W.tabIn at e;split at e
   .rename_i f' hf;have e5:=W.mg_of X Gn hf;rw[hm]at e5;cases e5;rw[e3]at e;dsimp only at e;split at e
    .rename_i c' hc;split at e
     .split at e
      .cases e;rw[<-e4];exact hc
      .cases e
     .cases e
    .cases e
   .cases e
  .cases z
theorem jbv{K:k7f}{H:Hp}(hO:Only (K8 K) H):TabOk K H:=λx hx c P e=>hO.2 (P,za x) (T9.mpr ⟨x,hx,by rw[e];rfl⟩)
theorem j4a{K:k7f}{ts:List ai}(hk:tOk K ts=aa):W.noTabs K=aa:=by unfold tOk at hk;rw[Xb,Xb]at hk;exact hk.1.2
theorem walkL{l:dj}{q:ay}{loose:List aq}{XP:(aq->Option aj)->aF->Prop}{YP:aD->aF->Prop}{d:DefRec}{K:lE->k7f}{k:Nat}{x:aq}{ts:List ai}(hk:k<=200)(hn:l.most=a8 63)(hdf:d.params.defaults=[])
  (hY:∀(w:aD)(h:aF),YP w h->(K w.params).In h/\∀P∈ts,h.get? P=a8 (W.tabObj #[])) (hK:∀w:aD,tOk (K w.params) ts=aa)
  (F:∀(w:aD)(mg:k7i)(fa:ai)(h:aF),(K w.params).In h->h.Ns az mg->mg d.name=a8 (.ref fa)->tOk (K w.params) ts=aa ->
   ∃fd:aL,(∀(s:ao)(u:aj),fY s fd ⟨[u],[]⟩ [(x,u)])/\∀base:aF,(K w.params).In base->base.Ns az mg->FnOk l.prog w (K w.params) mg base CX0 k fa fd [x] (K9 (K w.params))) :
  i4 q loose XP YP l.row.toRowW d [] (λf vs=>i7 f vs) :=
 L2.walk_of (n:=63) (k:=k) (x:=x) (CX:=λ_=>CX0) (sp:=λw=>K9 (K w.params)) (ts:=λw=>K8 (K w.params)) hn (by decide) hdf
  (Room.mono (k:=200) ⟨rfl,by decide,by decide,rfl⟩ hk) (λw h Y=>⟨(hY w h Y).1,j95 (hK w) (hY w h Y).1 (hY w h Y).2⟩) (λw=>j4a (hK w)) (λw mg fa h X G m=>F w mg fa h X G m (hK w)) (λw H a ns hl hO hS=>⟨a,ns,rfl,jbv hO,hS,hl,λH' g=>⟨rfl,g⟩⟩) λ_ _ _ _ _ z=>z
def Lf(K:k7f)(x:aq)(st:aN):Prop:=∃(f:ai)(oc:aj)(od:Option ai)(kV dc pm:aj)(an:Option ai)(cd ct:aj)(sl:Array (Option aj)),W.nsIn K az x=a8 (a8 (.ref f)) /\
 K.lookup f=a8 ⟨oc,od,.func (W.fnOf x x (vp st) (jy st) (j7 st) .none kV dc pm an cd ct),sl⟩/\W.codeIn K cd x=aa/\W.keepIn K (.ref f)=aa
def TrT(P:ay)(w:aD)(K:k7f)(mg:k7i)(base:aF)(x:aq)(N:List aq)(st:aN)(b:Sx):Prop :=
 ∀(f:ai)(cdv:aj)(A:aG)(outer:List cT)(s:ao)(H:Hp)(E:XK) (xe:k7g),Ts ((zc CX0 P w K mg base N x (j7 st) f cdv A outer s H E).wish xe) b (.ss (jy st))
noncomputable def bOk(K:k7f):Bool:=Rz.all λx=>match W.nsIn K az x with
 |some ae=>aa
 |_=>a9
section
variable{P:ay}{w:aD}{K:k7f}{mg:k7i}{base h:aF}{x:aq}{st:aN}{N ps:List aq}{F:Fi}
theorem jhe(X:K.In h)(Gn:h.Ns az mg)(hb:bOk K=aa):∀x∈Rz,mg x=ae:=λx hx=>by
 have z:=Pa.mp hb x hx;split at z
 .rename_i e;exact W.mg_none_of X Gn e
 .cases z
theorem j2h(L:Lf K x st)(X:K.In h)(Gn:h.Ns az mg):∃fa,mg x=a8 (.ref fa)/\W.keepIn K (.ref fa)=aa:=by obtain⟨f,oc,od,kV,dc,pm,an,cd,ct,sl,a,l,c,k⟩:=L;exact⟨f,W.mg_of X Gn a,k⟩
theorem qi(L:Lf K x st)(X:K.In h)(Gn:h.Ns az mg)(t:TrT P w K mg base x N st F.body)(ps:List aq)(sc:FnScope N ps (j7 st))(h1:ps.length=F.n)(h2:N.length=F.nn)
  (hb:∀(kV doc pm:aj)(an:Option ai)(cdv ct:aj)(us:List aj),us.length=ps.length->eV (W.fnOf x x (vp st) (jy st) (j7 st) .none kV doc pm an cdv ct) ⟨us,[]⟩=pure (ps.zip us)) (hd:x∉jet):Lk P w K mg base x F:=by
 obtain⟨f,oc,od,kV,dc,pm,an,cd,ct,sl,a,l,c,k⟩:=L;exact⟨st,f,_,N,ps,Rb l c k,sc,h1,h2,(Rb l c k).binds hb,λz=>absurd z hd,W.mg_of X Gn a,t f⟩
theorem lkF(L:Lk P w K mg base x F)(h:F.lam=a9)(hn:x.cps.toList.getLast?≠a8 62)(hh:x.cps.toList.head?≠a8 64)(hh2:x.cps.toList.head?≠a8 35:=by decide):LkF P w K mg base x F:=⟨λ_=>.inl ⟨L,hn,hh,hh2⟩,λz=>by rw[h]at z;cases z⟩
theorem us1{us:List aj}(h:us.length=1):∃a,us=[a]:=by match us,h with|[a],_=>exact⟨a,rfl⟩
theorem us2{us:List aj}(h:us.length=2):∃a b,us=[a,b]:=by match us,h with|[a,b],_=>exact⟨a,b,rfl⟩
theorem us3{us:List aj}(h:us.length=3):∃a b c,us=[a,b,c]:=by match us,h with|[a,b,c],_=>exact⟨a,b,c,rfl⟩
theorem us4{us:List aj}(h:us.length=4):∃a b c d,us=[a,b,c,d]:=by match us,h with|[a,b,c,d],_=>exact⟨a,b,c,d,rfl⟩
theorem us5{us:List aj}(h:us.length=5):∃a b c d e,us=[a,b,c,d,e]:=by match us,h with|[a,b,c,d,e],_=>exact⟨a,b,c,d,e,rfl⟩
end
theorem lf_mk{K:k7f}{x:aq}{st:aN}{f:ai}{oc:aj}{od:Option ai}{kV dc pm:aj}{an:Option ai}{cd ct:aj}{sl:Array (Option aj)}(a:W.nsIn K az x=a8 (a8 (.ref f)))
  (l:K.lookup f=a8 ⟨oc,od,.func (W.fnOf x x (vp st) (jy st) (j7 st) .none kV dc pm an cd ct),sl⟩) (c:W.codeIn K cd x=aa) (k:W.keepIn K (.ref f)=aa):Lf K x st:=⟨f,oc,od,kV,dc,pm,an,cd,ct,sl,a,l,c,k⟩
def TrD(P:ay)(w:aD)(K:k7f)(mg:k7i)(base:aF)(x:aq)(N:List aq)(st:aN)(p:Dx):Prop :=
 ∀(f:ai)(cdv:aj)(A:aG)(outer:List cT)(s:ao)(H:Hp)(E:XK) (xe:k7g),MD ((zc CX0 P w K mg base N x (j7 st) f cdv A outer s H E).wish xe) p (jy st)
section
variable{P:ay}{w:aD}{K:k7f}{mg:k7i}{base h:aF}{x g:aq}{st:aN}{N ps:List aq}{F:Fi}
theorem Em{p:Dx}(hx:x=dq g)(L:Lf K g st)(X:K.In h)(Gn:h.Ns az mg)(t:TrD P w K mg base g N st p)(ps:List aq)(sc:FnScope N ps (j7 st))(hF:F.body=.dx p)(hl:F.lam=a9)(h1:ps.length=F.n)(h2:N.length=F.nn)(h3:0<ps.length)(h4:ps.length<=N.length)
  (hb:∀(kV doc pm:aj)(an:Option ai)(cdv ct:aj)(us:List aj),us.length=ps.length->eV (W.fnOf g g (vp st) (jy st) (j7 st) .none kV doc pm an cdv ct) ⟨us,[]⟩=pure (ps.zip us)):LkF P w K mg base x F:=by
 obtain⟨f,oc,od,kV,dc,pm,an,cd,ct,sl,a,l,c,k⟩:=L;exact⟨λ_=>.inr (⟨g,p,st,f,_,N,ps,hx,hF,Rb l c k,sc,h1,h2,h3,h4,(Rb l c k).binds hb,W.mg_of X Gn a,t f⟩),λz=>by rw[hl]at z;cases z⟩
end
end L2
end
section
namespace L2
open PySem (Str sizeLine argBest)
theorem vh{n:Nat}(h:n<=1000000):n<=av:=Xh h (by decide)
theorem lt_size{n:Nat}(h:n<=1000000):n<av:=d5 h (by decide)
noncomputable def Wt(o:So)(f:En->So):So:=match o with
 |.next ρ=>f ρ
 |o=>o
noncomputable def ifS(c:Option Bool)(f g:En->So)(ρ:En):So:=match c with
 |some aa=>f ρ
 |some a9=>g ρ
 |none=>.no
noncomputable def Mp(is:List Nat)(f:En->So)(d:D)(ρ:En):So:=match qt is d ρ with
 |some ρ2=>f ρ2
 |none=>.no
noncomputable def j8e(is:List Nat)(w:Option W)(f:En->So)(ρ:En):So:=match w with
 |some (.i ds)=>zx (Mp is f) ds ρ
 |_=>.no
section
variable{fu:Nat}{Γ:aq->List D->Rc}{G:aq->Option D}{ρ:En}{i j:Nat}{e c k:Ex}{a b:Sx}{is:List Nat}
theorem j9i:run fu Γ G .nop ρ=.next ρ:=(rfl)
theorem j9g:run fu Γ G (.seq a b) ρ=Wt (run fu Γ G a ρ) (run fu Γ G b):=(rfl)
theorem j9f:run fu Γ G (.set i e) ρ=orE (Uz i (ev Γ G e ρ) ρ) (er Γ G e ρ) ρ:=(rfl)
theorem j9j:run fu Γ G (.mov i j) ρ=Fw i j ρ[j]? ρ:=(rfl)
theorem j62:run fu Γ G (.expr e) ρ=orE (Ey (ev Γ G e ρ) ρ) (er Γ G e ρ) ρ:=(rfl)
theorem j9h:run fu Γ G (.ret e) ρ=orE (retS (ev Γ G e ρ)) (er Γ G e ρ) ρ:=(rfl)
theorem j6c{ρ':En}{x:Option aq}:orE (.next ρ') x ρ=.next ρ':=(rfl)
theorem j1c{r:Rc}{x:Option aq}:orE (.ret r) x ρ=.ret r:=(rfl)
theorem j5z:run fu Γ G (.retV i) ρ=M4 ρ[i]?:=(rfl)
theorem j9n:run fu Γ G .brk ρ=.brk ρ:=(rfl)
theorem j9k:run fu Γ G (.ife c a b) ρ=ifS (truth (ev Γ G c ρ)) (run fu Γ G a) (run fu Γ G b) ρ:=(rfl)
theorem j60:run fu Γ G (.loop is e a) ρ=j8e is (ev Γ G e (frz e ρ)) (run fu Γ G a) (frz e ρ):=(rfl)
theorem j9o:run fu Γ G (.app i e) ρ=Du i ρ[i]? (ev Γ G e ρ) ρ:=(rfl)
theorem j9m:run fu Γ G (.ext i e) ρ=Dn i ρ[i]? (ev Γ G e ρ) ρ:=(rfl)
theorem Ij{p:Dx}:run fu Γ G (.dx p) ρ=dxS ρ[0]? λks ns=>Vi Γ G p ks ns (ρ.set 0 (.exc rfN)):=(rfl)
theorem j17{x:Nat}{g:aq}{e:Ex}:run fu Γ G (.lmk x g e) ρ=j6k (decide (x<ρ.length)&&noOwn ρ) (qy Γ g (ev Γ G e (ρ.set x .un)) [] []):=(rfl)
theorem j61:run fu Γ G (.keep i) ρ=Bu i ρ[i]? ρ:=(rfl)
theorem j4k{l:List D}:Bu i (a8 (.own l)) ρ=.next (ρ.set i (.val (.lst l))):=(rfl)
theorem j9l:run fu Γ G (.fgt i) ρ=.next (ρ.set i .un):=(rfl)
end
section
variable{f g:En->So}{ρ:En}{i j:Nat}{d:D}{l m:List D}{r:Rc}{x:Rk}
theorem j3q:Wt (.next ρ) f=f ρ:=(rfl)
theorem Ii:Wt (.ret r) f=.ret r:=(rfl)
theorem j5w:Wt (.brk ρ) f=.brk ρ:=(rfl)
theorem jh1:ifS (a8 aa) f g ρ=f ρ:=(rfl)
theorem jh2:ifS (a8 a9) f g ρ=g ρ:=(rfl)
theorem jc1:Uz i (a8 (.v (.o l))) ρ=.next (ρ.set i (.own l)):=(rfl)
theorem jc2:Uz i (a8 (.v (.e d))) ρ=.next (ρ.set i (.val d)):=(rfl)
theorem Y4(h:Qi d=aa):Uz i (a8 (.v (.t d))) ρ=.next (ρ.set i (.val d)):=by simp[Uz,Rk.st,h]
theorem jcb:retS (a8 (.v (.o l)))=.ret (.fresh l):=(rfl)
theorem j3s:retS (a8 (.v (.e d)))=.ret (.val d):=(rfl)
theorem j9q:M4 (a8 (.own l))=.ret (.fresh l):=(rfl)
theorem j9p:M4 (a8 (.val d))=.ret (.val d):=(rfl)
theorem jd7(h:i≠j):Fw i j (a8 (.own l)) ρ=.next ((ρ.set j .un).set i (.own l)):=if_neg h
theorem jd6:Fw i j (a8 (.val d)) ρ=.next (ρ.set i (.val d)):=(rfl)
theorem je6:Ey (a8 (.v x)) ρ=.next ρ:=(rfl)
theorem J4:Mp [i] f d ρ=f (ρ.set i (.val d)):=(rfl)
theorem j1u{a b:D}:Mp [i,j] f (.tup [a,b]) ρ=f ((ρ.set i (.val a)).set j (.val b)):=(rfl)
theorem jah{is:List Nat}{ds:List D}:j8e is (a8 (.i ds)) f ρ=zx (Mp is f) ds ρ:=(rfl)
theorem jf6(h:l.length<=1000000):Du i (a8 (.own l)) (a8 (.v (.e d))) ρ=.next (ρ.set i (.own (l++[d]))):=by simp[Du,Rk.st,lt_size h]
theorem je5(h:l.length+m.length<=1000000):Dn i (a8 (.own l)) (a8 (.v (.o m))) ρ=.next (ρ.set i (.own (l++m))):=by simp[Dn,jj,vh h]
theorem j1m:fin (.ret r)=r:=(rfl)
theorem j74:fin (.next ρ)=.val .non:=(rfl)
theorem jq{fu:Nat}{G:aq->Option D}{T:aq->Option Fi}{n:Nat}{f:aq}{ds:List D}{F:Fi}(h:T f=a8 F)(hl:ds.length=F.n)(hla:F.lam=a9:=by rfl):evP fu G T (n+1) f ds=fin (run fu (evP fu G T n) G F.body (enter F ds)):=by simp only[evP,h,if_pos hl,hla,Pz,if_false]
end
theorem Vb{f:D->En->So}(W:Nat->En->Prop):∀{ds:List D}{ρ:En}{k:Nat},W k ρ->(∀i d ρ,ds[i]?=a8 d->W (k+i) ρ->∃ρ',f d ρ=.next ρ'/\W (k+i+1) ρ')->∃ρ',zx f ds ρ=.next ρ'/\W (k+ds.length) ρ'
 |[],ρ,k,h0,_=>⟨ρ,rfl,h0⟩
 |d::ds,ρ,k,h0,hs=>by
  obtain⟨ρ1,e1,w1⟩:=hs 0 d ρ rfl h0;obtain⟨ρ2,e2,w2⟩:=Vb (f:=f) W (ds:=ds) (k:=k+1) w1 λi d' ρ' hi w=>by have:=hs (i+1) d' ρ' (by simpa using hi) (by rw[show k+(i+1)=k+1+i by omega];exact w);rw[show k+(i+1)+1=k+1+i+1 by omega]at this;exact this
  refine⟨ρ2,?_,by rw[X6,show k+(ds.length+1)=k+1+ds.length by omega];exact w2⟩;rw[zx,e1];exact e2
theorem j6j{f:D->En->So}(W:Nat->En){ds:List D}{ρ:En}(h0:ρ=W 0)(hs:∀i d,ds[i]?=a8 d->f d (W i)=.next (W (i+1))):zx f ds ρ=.next (W ds.length):=by
 obtain⟨ρ',e,w⟩:=Vb (f:=f) (λi ρ=>ρ=W i) (k:=0) (ds:=ds) (ρ:=W 0) rfl λi d ρ hi w=>⟨W (0+i+1),by rw[w,T8];exact hs i d hi,rfl⟩
 rw[h0,e,w,T8]
theorem Ji{f:D->En->So}{ds:List D}{ρ:En}{g:En->So}{r:Rc}(W:Nat->En->Prop)(h0:W 0 ρ)(hs:∀i d ρ,ds[i]?=a8 d->W i ρ->∃ρ',f d ρ=.next ρ'/\W (i+1) ρ')(hk:∀ρ',W ds.length ρ'->fin (g ρ')=r) :
  fin (Wt (zx f ds ρ) g)=r:=by
 obtain⟨ρ',e,w⟩:=Vb (f:=f) W (k:=0) (ds:=ds) (ρ:=ρ) h0 λi d ρ hi w=>by rw[T8]at w ⊢;exact hs i d ρ hi w
 rw[e];rw[T8]at w;exact hk ρ' w
theorem Ws{f:D->En->So}{ds:List D}{ρ:En}{g:En->So}{Q:En->Prop}(W:Nat->En->Prop)(h0:W 0 ρ)(hs:∀i d ρ,ds[i]?=a8 d->W i ρ->∃ρ',f d ρ=.next ρ'/\W (i+1) ρ')
  (hk:∀ρ',W ds.length ρ'->∃ρ2,g ρ'=.next ρ2/\Q ρ2):∃ρ2,Wt (zx f ds ρ) g=.next ρ2/\Q ρ2:=by
 obtain⟨ρ',e,w⟩:=Vb (f:=f) W (k:=0) (ds:=ds) (ρ:=ρ) h0 λi d ρ hi w=>by rw[T8]at w ⊢;exact hs i d ρ hi w
 rw[e];rw[T8]at w;exact hk ρ' w
noncomputable def j8i(d:Option D):Option W:=d.map λd=>.v (.e d)
noncomputable def j6v(i:Option Int):Option W:=i.map λk=>.v (.e (.int k))
noncomputable def jdz(a:Option W):Option W:=match a with
 |some (.v x)=>a8 (.v (.e (.bl x.d.isNon)))
 |_=>ae
noncomputable def j7y(k:Option Bool)(f:En->Option W)(ρ:En):Option W:=match k with
 |some a9=>a8 (.v (.e (.bl a9)))
 |some aa=>blW (truth (f ρ))
 |none=>ae
noncomputable def orW(k:Option Bool)(f:En->Option W)(ρ:En):Option W:=match k with
 |some aa=>a8 (.v (.e (.bl aa)))
 |some a9=>blW (truth (f ρ))
 |none=>ae
noncomputable def jd4(k:Option Bool):Option W:=k.map λk=>.v (.e (.bl (!k)))
noncomputable def stW(a:Option W):Option W:=match a with
 |some (.v x)=>x.st.map λd=>.v (.e d)
 |_=>ae
noncomputable def j6u(k:Option Bool)(f g:En->Option W)(ρ:En):Option W:=match k with
 |some aa=>stW (f ρ)
 |some a9=>stW (g ρ)
 |none=>ae
noncomputable def slW(a:Option W)(l h:Option (Option Int)):Option W:=match a,l,h with
 |some (.v x),a8 l,a8 h=>match x.sq with
  |some (aa,ds)=>a8 (.v (.o (cutD ds l h)))
  |some (a9,ds)=>if HT.sIx ds.length 0 l=0/\HT.sIx ds.length ds.length h=ds.length then ae else a8 (.v (.e (.tup (cutD ds l h))))
  |none=>match x.d with
   |.str z=>if jj z.length=aa then a8 (.v (.e (.str (bM z l h))))else ae
   |_=>ae
 |_,_,_=>ae
noncomputable def Jh(is:List Nat)(c e:En->Option W)(ρ:En)(d:D):Option (Option D):=match qt is d ρ with
 |none=>ae
 |some ρ2=>match c ρ2 with
  |some (.a [])=>match e ρ2 with
   |some (.v x)=>x.st.map a8
   |_=>ae
  |some (.a [y])=>match y.d with
   |.bl aa=>match e ρ2 with
    |some (.v x)=>x.st.map a8
    |_=>ae
   |.bl a9=>a8 ae
   |_=>ae
  |_=>ae
noncomputable def j2z(is:List Nat)(w:Option W)(c e:En->Option W)(z:Bool)(ρ:En):Option W:=match w with
 |some (.i ds)=>if N6 is ρ=aa/\jj ds.length=aa then(Qk (Jh is c e ρ) ds).bind λl=>if (z && !qe l)=aa then ae else a8 (.v (.o l))else ae
 |_=>ae
section
variable{Γ:aq->List D->Rc}{G:aq->Option D}{ρ:En}{a b c e:Ex}{op:Bop}{cp:Cop}{x f:aq}{i:Nat}{d:D}
theorem jeh:ev Γ G (.lit d) ρ=a8 (.v (.e d)):=(rfl)
theorem je8:ev Γ G (.var i) ρ=Nu ρ[i]?:=(rfl)
theorem jax:ev Γ G (.glob x) ρ=j8i (G x):=(rfl)
theorem jeo:ev Γ G (.bin op a b) ρ=Qo op (ev Γ G a ρ) (ev Γ G b ρ):=(rfl)
theorem jef:ev Γ G (.neg a) ρ=Ei (ev Γ G a ρ):=(rfl)
theorem jem:ev Γ G (.cmp cp a b) ρ=Dq cp (ev Γ G a ρ) (ev Γ G b ρ):=(rfl)
theorem jej:ev Γ G (.isN a) ρ=jdz (ev Γ G a ρ):=(rfl)
theorem jep:ev Γ G (.and a b) ρ=j7y (truth (ev Γ G a ρ)) (ev Γ G b) ρ:=(rfl)
theorem jh9:ev Γ G (.or a b) ρ=orW (truth (ev Γ G a ρ)) (ev Γ G b) ρ:=(rfl)
theorem jed:ev Γ G (.not a) ρ=jd4 (truth (ev Γ G a ρ)):=(rfl)
theorem jei:ev Γ G (.ite c a b) ρ=j6u (truth (ev Γ G c ρ)) (ev Γ G a) (ev Γ G b) ρ:=(rfl)
theorem jee:ev Γ G .nil ρ=a8 (.a []):=(rfl)
theorem jb0:ev Γ G (.cons a b) ρ=consW (ev Γ G a ρ) (ev Γ G b ρ):=(rfl)
theorem je9:ev Γ G (.tup a) ρ=U5 (ev Γ G a ρ):=(rfl)
theorem jeg:ev Γ G (.lst a) ρ=Qn (ev Γ G a ρ):=(rfl)
theorem jha:ev Γ G (.ix a b) ρ=ixW (ev Γ G a ρ) (ev Γ G b ρ):=(rfl)
theorem jh8:ev Γ G (.sl a b c) ρ=slW (ev Γ G a ρ) (Qe (ev Γ G b ρ)) (Qe (ev Γ G c ρ)):=(rfl)
theorem jaw{sep:aq}:ev Γ G (.join sep a) ρ=M9 sep (ev Γ G a ρ):=(rfl)
theorem jea:ev Γ G (.tix a b) ρ=Wq (ev Γ G a ρ) (ev Γ G b ρ):=(rfl)
theorem jek{f:aq}:ev Γ G (.fcl f a) ρ=Dl Γ f (noOwn ρ) (ev Γ G a ρ):=(rfl)
theorem jav:ev Γ G (.lset a) ρ=Vr (ev Γ G a ρ):=(rfl)
theorem jaz:ev Γ G (.dget a b) ρ=Mi (ev Γ G a ρ) (ev Γ G b ρ):=(rfl)
theorem jel{b:Ex}:ev Γ G (.din a b) ρ=Ou (ev Γ G a ρ) (ev Γ G b ρ):=(rfl)
theorem jay:ev Γ G (.enum a) ρ=Mh (ev Γ G a ρ):=(rfl)
theorem jb2:ev Γ G (.call f a) ρ=Q3 Γ f (ev Γ G a ρ):=(rfl)
theorem jen{f:Bf}:ev Γ G (.blt f a) ρ=vd f (ev Γ G a ρ):=(rfl)
theorem jb1{is:List Nat}:ev Γ G (.comp is e a c) ρ=j2z is (ev Γ G a (frz a ρ)) (ev Γ G c) (ev Γ G e) (J9 a ρ) (frz a ρ):=(rfl)
theorem jec:ev Γ G (.seq a) ρ=O9 (ev Γ G a ρ):=(rfl)
theorem j76:ev Γ G (.range a) ρ=Wv (ev Γ G a ρ):=(rfl)
theorem je7:ev Γ G (.zip a b) ρ=Nr (ev Γ G a ρ) (ev Γ G b ρ):=(rfl)
end
section
variable{x y:Rk}{d:D}{i j k:Int}{l m:List D}{b:Bool}{f g:En->Option W}{ρ:En}{xs:List Rk}{op:Bop}{cp:Cop}
theorem jbn:Nu (a8 (.val d))=a8 (.v (.e d)):=(rfl)
theorem jbo:Nu (a8 (.own l))=a8 (.v (.w l)):=(rfl)
theorem jas:j8i (a8 d)=a8 (.v (.e d)):=(rfl)
theorem je0:j6v (a8 i)=a8 (.v (.e (.int i))):=(rfl)
theorem jhf:blW (a8 b)=a8 (.v (.e (.bl b))):=(rfl)
theorem jf5:Qo op (a8 (.v (.e (.int i)))) (a8 (.v (.e (.int j))))=j6v (binI op i j):=by simp only[Qo,Ud,Rk.d,j6v,rkW];cases binI op i j<;>rfl
theorem j7u:binI .add i j=a8 (i+j):=(rfl)
theorem j7p:binI .sub i j=a8 (i-j):=(rfl)
theorem j7s(h:(-18446744073709551616<i/\i<18446744073709551616)\/(-18446744073709551616<j/\j<18446744073709551616)):binI .mul i j=a8 (i*j):=if_pos h
theorem j5f(h:0<j/\j<18446744073709551616):binI .fdiv i j=a8 (i/j):=if_pos h
theorem j7t(h:0<j):binI .mod i j=a8 (i%j):=if_pos h
theorem j7r(h:0<=j/\j<=1000000/\i.natAbs<18446744073709551616):binI .pow i j=a8 (i^j.toNat):=if_pos h
theorem j7q(h:0<=j/\j<=1000000/\i.natAbs<18446744073709551616):binI .shl i j=a8 (i*2^j.toNat):=if_pos h
theorem jf3(h:l.length+m.length<=1000000):Qo .add (a8 (.v (.o l))) (a8 (.v (.o m)))=a8 (.v (.o (l++m))):=by simp[Qo,Ud,Rk.d,Rk.sq,jj,vh h,rkW]
theorem jf1(h:l.length+m.length<=1000000):Qo .add (a8 (.v (.e (.tup l)))) (a8 (.v (.e (.tup m))))=a8 (.v (.e (.tup (l++m)))):=by simp[Qo,Ud,Rk.d,Rk.sq,jj,vh h,rkW]
theorem jg7(h:-9223372036854775808<=k/\k<9223372036854775808)(h2:l.length*k.toNat<=1000000):Qo .mul (a8 (.v (.o l))) (a8 (.v (.e (.int k))))=a8 (.v (.o (au k.toNat l).flatten)):=by simp only[Qo,Ud,Rk.d,Rk.sq,Rk.lw];rw[if_pos ⟨h.1,h.2,decide_eq_true (vh h2)⟩];rfl
theorem Ip(h:1<=k/\k<=1000000):Qo .mul (a8 (.v (.e (.tup [d])))) (a8 (.v (.e (.int k))))=a8 (.v (.e (.tup (au k.toNat d)))):=by simp only[Qo,Ud,Rk.d,Rk.sq];rw[if_pos ⟨h.1,by omega,rfl,decide_eq_true (vh (by simp only[X6,T3];omega))⟩];simp only[rkW,Option.map,List.flatten_replicate_singleton]
theorem jd5:Ei (a8 (.v (.e (.int i))))=a8 (.v (.e (.int (-i)))):=(rfl)
theorem jew:Dq cp (a8 (.v x)) (a8 (.v y))=blW (J1 cp x.d y.d):=(rfl)
theorem d_e:(Rk.e d).d=d:=(rfl)
theorem d_o:(Rk.o l).d=.lst l:=(rfl)
theorem d_w:(Rk.w l).d=.lst l:=(rfl)
theorem d_t:(Rk.t d).d=d:=(rfl)
theorem jex:J1 cp (.int i) (.int j)=cmpI cp i j:=by cases cp<;>rfl
theorem j7g{a b:Bool}:J1 .ne (.bl a) (.bl b)=a8 (a != b):=(rfl)
theorem j7h(h:(D.lst l).dep<=90)(h2:(D.lst m).dep<=90):J1 .eq (.lst l) (.lst m)=a8 (zb l m):=by simp[J1,h,h2,j00,j02]
theorem j57:J1 .eq (.lst []) (.lst [])=a8 (zb [] []):=j7h (by simp[D.dep,D.depL]) (by simp[D.dep,D.depL])
theorem j4z(h:i<j):cmpI .lt i j=a8 aa:=by simp[cmpI,h]
theorem j50(h:j<=i):cmpI .lt i j=a8 a9:=by simp[cmpI];omega
theorem j51(h:j<i):cmpI .gt i j=a8 aa:=by simp[cmpI,h]
theorem j52(h:i<=j):cmpI .gt i j=a8 a9:=by simp[cmpI];omega
theorem j53(h:j<=i):cmpI .ge i j=a8 aa:=by simp[cmpI,h]
theorem j54(h:i<j):cmpI .ge i j=a8 a9:=by simp[cmpI];omega
theorem j55(h:i=j):cmpI .eq i j=a8 aa:=by simp[cmpI,h]
theorem j56(h:i≠j):cmpI .eq i j=a8 a9:=by simp[cmpI,h]
theorem j4x(h:i≠j):cmpI .ne i j=a8 aa:=by simp[cmpI,h]
theorem j4y(h:i=j):cmpI .ne i j=a8 a9:=by simp[cmpI,h]
theorem jba:cmpI .gt i j=a8 (decide (j<i)):=(rfl)
theorem j06:cmpI .ge i j=a8 (decide (j<=i)):=(rfl)
theorem jae{a b:D}(h:Qi a=aa):Qn (a8 (.a [.t a,.e b]))=a8 (.v (.o [a,b])):=by simp[Qn,qx,Rk.st,h,jj,vh (show 2<=1000000 by decide)]
theorem j1s:cmpI .eq i j=a8 (decide (i=j)):=(rfl)
theorem Dr:cmpI .ne i j=a8 (!decide (i=j)):=(rfl)
theorem jdy:jdz (a8 (.v x))=a8 (.v (.e (.bl x.d.isNon))):=(rfl)
theorem j92:truth (a8 (.v (.e (.bl b))))=a8 b:=(rfl)
theorem jf8:j7y (a8 a9) f ρ=a8 (.v (.e (.bl a9))):=(rfl)
theorem jf7:j7y (a8 aa) f ρ=blW (truth (f ρ)):=(rfl)
theorem jgk:orW (a8 aa) f ρ=a8 (.v (.e (.bl aa))):=(rfl)
theorem jgl:orW (a8 a9) f ρ=blW (truth (f ρ)):=(rfl)
theorem jd3:jd4 (a8 b)=a8 (.v (.e (.bl (!b)))):=(rfl)
theorem jg2:stW (a8 (.v (.e d)))=a8 (.v (.e d)):=(rfl)
theorem jdt:j6u (a8 aa) f g ρ=stW (f ρ):=(rfl)
theorem jdu:j6u (a8 a9) f g ρ=stW (g ρ):=(rfl)
theorem jb7:consW (a8 (.v x)) (a8 (.a xs))=a8 (.a (x::xs)):=(rfl)
theorem j3k(h:qx xs=a8 l)(hl:l.length<=1000000):U5 (a8 (.a xs))=a8 (.v (.e (.tup l))):=by simp[U5,h,jj,vh hl]
theorem Ej(h:qx xs=a8 l)(hl:l.length<=1000000):Qn (a8 (.a xs))=a8 (.v (.o l)):=by simp[Qn,h,jj,vh hl]
theorem jbu:U5 (a8 (.a []))=a8 (.v (.e (.tup []))):=by simp[U5,qx,jj]
theorem jbt{a:D}:U5 (a8 (.a [.e a]))=a8 (.v (.e (.tup [a]))):=j3k rfl (by simp)
theorem jbs{a b:D}:U5 (a8 (.a [.e a,.e b]))=a8 (.v (.e (.tup [a,b]))):=j3k rfl (by simp)
theorem jdg:Qn (a8 (.a []))=a8 (.v (.o [])):=by simp[Qn,qx,jj]
theorem jdf{a:D}:Qn (a8 (.a [.e a]))=a8 (.v (.o [a])):=Ej rfl (by simp)
theorem jde{a b:D}:Qn (a8 (.a [.e a,.e b]))=a8 (.v (.o [a,b])):=Ej rfl (by simp)
theorem jdd{a b c:D}:Qn (a8 (.a [.e a,.e b,.e c]))=a8 (.v (.o [a,b,c])):=Ej rfl (by simp)
noncomputable def Kd(o:Option D):Option W:=o.map λd=>.v (.e d)
theorem Ia:∀xs:List D,qx (xs.map Rk.e)=a8 xs
 |[]=>rfl
 |x::xs=>by rw[X5,qx,Ia xs];rfl
theorem jdb(xs:List D)(h:xs.length<=1000000):Qn (a8 (.a (xs.map Rk.e)))=a8 (.v (.o xs)):=by simp[Qn,Ia,jj,vh h]
theorem jdc{a b c d:D}:Qn (a8 (.a [.e a,.e b,.e c,.e d]))=a8 (.v (.o [a,b,c,d])):=jdb [a,b,c,d] (by simp)
theorem j1i:Kd (a8 d)=a8 (.v (.e d)):=(rfl)
theorem jdr:ixW (a8 (.v (.e (.lst l)))) (a8 (.v (.e (.int i))))=Kd (atI l i):=(rfl)
theorem jdq:ixW (a8 (.v (.e (.tup l)))) (a8 (.v (.e (.int i))))=Kd (atI l i):=(rfl)
theorem jgz:ixW (a8 (.v (.o l))) (a8 (.v (.e (.int i))))=Kd (atI l i):=(rfl)
noncomputable def jez(c:Option Nat):Option W:=match c with
 |some c=>a8 (.v (.e (.str ⟨#[c]⟩)))
 |none=>ae
theorem jey{c:Nat}:jez (a8 c)=a8 (.v (.e (.str ⟨#[c]⟩))):=(rfl)
theorem jgy{z:aq}(h:z.length<=1000000):ixW (a8 (.v (.e (.str z)))) (a8 (.v (.e (.int i))))=jez (atI z.cps.toList i):=by simp only[ixW,Rk.sq,Rk.d,jj,vh h,decide_true,if_true];cases atI z.cps.toList i<;>rfl
theorem jg4{z:aq}{lo hi:Option Int}(h:z.length<=1000000):slW (a8 (.v (.e (.str z)))) (a8 lo) (a8 hi)=a8 (.v (.e (.str (bM z lo hi)))):=by simp only[slW,Rk.sq,Rk.d,jj,vh h,decide_true,if_true]
theorem jf2{y z:aq}(h:y.length+z.length<=1000000):Qo .add (a8 (.v (.e (.str y)))) (a8 (.v (.e (.str z))))=a8 (.v (.e (.str (y++z)))):=by simp[Qo,Ud,Rk.d,jj,vh h,rkW]
theorem jh0{k:Bool}:vd .int (a8 (.a [.e (.bl k)]))=a8 (.v (.e (.int (if k then 1 else 0)))):=(rfl)
theorem v9{ns:List Int}:intsOf (ns.map D.int)=a8 ns:=by
 induction ns with
 |nil=>rfl
 |cons b bs ih=>rw[X5,intsOf,ih];rfl
theorem Bh{ns:List aq}:strsOf (ns.map D.str)=a8 ns:=by
 induction ns with
 |nil=>rfl
 |cons b bs ih=>rw[X5,strsOf,ih];rfl
theorem jg1{ns:List Int}:vd .sum (a8 (.a [.o (ns.map D.int)]))=a8 (.v (.e (.int ns.sum))):=by simp only[vd,Vo,Rk.d,v9];rfl
theorem jbx{ns:List Int}:vd .sum (a8 (.a [.e (.lst (ns.map D.int))]))=a8 (.v (.e (.int ns.sum))):=by simp only[vd,Vo,Rk.d,v9];rfl
theorem j1h{sep:aq}{ts:List aq}(h:eX sep ts=aa):M9 sep (a8 (.v (.o (ts.map D.str))))=a8 (.v (.e (.str (dY sep ts)))):=by simp only[M9,Rk.d,Bh,h,if_true]
theorem jaf{ts:List aq}(h:ts.length<4000):Vr (a8 (.v (.w (ts.map D.str))))=a8 (.v (.e (.int (dd ts).length))):=by simp only[Vr,Rk.d,Bh,h,if_true]
theorem j7b:Mh (a8 (.v (.e (.lst l))))=a8 (.i (Jl l)):=(rfl)
theorem j7a:Mh (a8 (.v (.e (.tup l))))=a8 (.i (Jl l)):=(rfl)
theorem j7m:Qe (a8 (.a []))=a8 ae:=(rfl)
theorem j7l:Qe (a8 (.a [.e (.int i)]))=a8 (a8 i):=(rfl)
variable{lo hi:Option Int}
theorem jc0:slW (a8 (.v (.e (.lst l)))) (a8 lo) (a8 hi)=a8 (.v (.o (cutD l lo hi))):=(rfl)
variable{Γ:aq->List D->Rc}{fn:aq}
noncomputable def rcW(r:Rc):Option W:=match r with
 |.val d=>a8 (.v (.e d))
 |.fresh l=>a8 (.v (.o l))
 |_=>ae
theorem jg9:rcW (.val d)=a8 (.v (.e d)):=(rfl)
theorem jga:rcW (.fresh l)=a8 (.v (.o l)):=(rfl)
theorem Ql(h:qx xs=a8 l):Q3 Γ fn (a8 (.a xs))=rcW (Γ fn l):=by simp only[Q3,h];cases Γ fn l<;>rfl
theorem jbe{a:D}:Q3 Γ fn (a8 (.a [.e a]))=rcW (Γ fn [a]):=Ql rfl
theorem jbd{a b:D}:Q3 Γ fn (a8 (.a [.e a,.e b]))=rcW (Γ fn [a,b]):=Ql rfl
theorem jbc{a b c:D}:Q3 Γ fn (a8 (.a [.e a,.e b,.e c]))=rcW (Γ fn [a,b,c]):=Ql rfl
theorem j7j:Q3 Γ fn (a8 (.a [.o l]))=rcW (Γ fn [.lst l]):=Ql rfl
noncomputable def rcT(r:Rc):Option W:=match r with
 |.val d=>a8 (.v (.t d))
 |.fresh l=>if qe l=aa then a8 (.v (.o l))else ae
 |_=>ae
theorem jgb:rcT (.val d)=a8 (.v (.t d)):=(rfl)
theorem jgc{l:List D}(h:qe l=aa):rcT (.fresh l)=a8 (.v (.o l)):=if_pos h
theorem Z8(h:qx xs=ae):Q3 Γ fn (a8 (.a xs))=rcT (Γ fn (xs.map Rk.d)):=by simp only[Q3,h];cases Γ fn (xs.map Rk.d)<;>rfl
theorem j7i{a b:D}:Q3 Γ fn (a8 (.a [.w m,.e a,.e b]))=rcT (Γ fn [.lst m,a,b]):=Z8 rfl
theorem jgu:vd .len (a8 (.a [.e (.lst l)]))=a8 (.v (.e (.int l.length))):=(rfl)
theorem jgs:vd .len (a8 (.a [.e (.tup l)]))=a8 (.v (.e (.int l.length))):=(rfl)
theorem jgt:vd .len (a8 (.a [.o l]))=a8 (.v (.e (.int l.length))):=(rfl)
theorem jgr:vd .len (a8 (.a [.w l]))=a8 (.v (.e (.int l.length))):=(rfl)
theorem Dp{ks:List (List Int)}{ds:List D}{k:List Int}{d:D}(h:Q0 ks ds k=a8 d):Mi (a8 (.v (.e (.dct ks ds)))) (a8 (.v (.e (.tup (k.map D.int)))))=a8 (.v (.e d)):=by simp only[Mi,Rk.d,tupI,v9,h];rfl
theorem j90:vd .tuple (a8 (.a [.o l]))=a8 (.v (.e (.tup l))):=(rfl)
theorem j8z:vd .tuple (a8 (.a [.w l]))=a8 (.v (.e (.tup l))):=(rfl)
theorem jaj:vd .list (a8 (.a [.e (.lst l)]))=a8 (.v (.o l)):=(rfl)
theorem jai:vd .list (a8 (.a [.e (.tup l)]))=a8 (.v (.o l)):=(rfl)
theorem j0x{bs:List Bool}:boolsOf (bs.map D.bl)=a8 bs:=by
 induction bs with
 |nil=>rfl
 |cons b bs ih=>rw[X5,boolsOf,ih];rfl
theorem jes{k:List Int}{ks:List (List Int)}{ds:List D}:Ou (a8 (.v (.e (.tup (k.map D.int))))) (a8 (.v (.e (.dct ks ds))))=a8 (.v (.e (.bl (ks.contains k)))):=by simp only[Ou,Rk.d,v9];rfl
theorem jhh{bs:List Bool}:vd .any (a8 (.a [.o (bs.map D.bl)]))=a8 (.v (.e (.bl (bs.any id)))):=by simp only[vd,Vo,Rk.d,j0x];rfl
theorem j9e:O9 (a8 (.v (.e (.lst l))))=a8 (.i l):=(rfl)
theorem j9d:O9 (a8 (.v (.e (.tup l))))=a8 (.i l):=(rfl)
theorem jc3:O9 (a8 (.v (.o l)))=a8 (.i l):=(rfl)
theorem j67(h:-4611686018427387904<=i/\i<4611686018427387904):Wv (a8 (.a [.e (.int i)]))=a8 (.i (upto 0 i.toNat)):=if_pos h
theorem qp{is:List Nat}{c e:En->Option W}{z:Bool}{ds l:List D}(hf:N6 is ρ=aa)(hl:ds.length<=1000000)(h:Qk (Jh is c e ρ) ds=a8 l)(hz:z=a9\/qe l=aa):j2z is (a8 (.i ds)) c e z ρ=a8 (.v (.o l)):=by simp only[j2z,hf,jj,vh hl,decide_true,and_self,if_true,h,jO];rcases hz with z|z<;>simp[z]
theorem v6{i:Nat}{c e:En->Option W}(hc:c (ρ.set i (.val d))=a8 (.a [])){d':D}(he:e (ρ.set i (.val d))=a8 (.v (.e d'))):Jh [i] c e ρ d=a8 (a8 d'):=by simp[Jh,qt,hc,he,Rk.st]
theorem j5p{i:Nat}{c e:En->Option W}{b:Bool}{d':D}(hc:c (ρ.set i (.val d))=a8 (.a [.e (.bl b)]))(he:b=aa->e (ρ.set i (.val d))=a8 (.v (.e d'))):Jh [i] c e ρ d=a8 (if b=aa then a8 d' else ae):=by
 cases b with
 |true=>simp[Jh,qt,hc,he rfl,Rk.st,Rk.d]
 |false=>simp[Jh,qt,hc,Rk.d]
theorem j12{i j:Nat}{c e:En->Option W}{a b:D}(hc:c ((ρ.set i (.val a)).set j (.val b))=a8 (.a [])){d':D}(he:e ((ρ.set i (.val a)).set j (.val b))=a8 (.v (.e d'))):Jh [i,j] c e ρ (.tup [a,b])=a8 (a8 d'):=by simp[Jh,qt,hc,he,Rk.st]
theorem O4{i j:Nat}{c e:En->Option W}{a b:D}{k:Bool}{d':D}(hc:c ((ρ.set i (.val a)).set j (.val b))=a8 (.a [.e (.bl k)]))(he:k=aa->e ((ρ.set i (.val a)).set j (.val b))=a8 (.v (.e d'))):Jh [i,j] c e ρ (.tup [a,b])=a8 (if k=aa then a8 d' else ae):=by
 cases k with
 |true=>simp[Jh,qt,hc,he rfl,Rk.st,Rk.d]
 |false=>simp[Jh,qt,hc,Rk.d]
theorem Qf{α:Type}{xs:List α}{n:Nat}{x:α}(h:xs[n]?=a8 x):atI xs (n:Int)=a8 x:=jbg h
end
section
theorem jap:D.isNon .non=aa:=(rfl)
theorem jao{z:aq}:D.isNon (.str z)=a9:=(rfl)
theorem jaq{l:List D}:D.isNon (.lst l)=a9:=(rfl)
end
section
noncomputable abbrev j6(r:List Int):D:=.tup (r.map .int)
noncomputable abbrev ju(rs:List (List Int)):List D:=rs.map j6
theorem q8{α:Type}{f:D->Option (Option D)}{h g:α->D}{L:List α}(q:∀x∈L,f (h x)=a8 (a8 (g x))):Qk f (L.map h)=a8 (L.map g):=by
 induction L with
 |nil=>rfl
 |cons x L ih=>rw[X5,Qk,q x (X3 ..),ih λy hy=>q y (xm _ hy)];rfl
theorem Qx{α:Type}{f:D->Option (Option D)}{h g:α->D}{p:α->Bool}{L:List α}(q:∀x∈L,f (h x)=a8 (if p x=aa then a8 (g x)else ae)):Qk f (L.map h)=a8 ((L.filter p).map g):=by
 induction L with
 |nil=>rfl
 |cons x L ih =>
  rw[X5,Qk,q x (X3 ..),ih λy hy=>q y (xm _ hy)];by_cases z:p x=aa
  .rw[if_pos z,dE z];rfl
  .rw[if_neg z,cq z]
theorem take_snoc{α:Type}{l:List α}{i:Nat}{x:α}(h:l[i]?=a8 x):l.take (i+1)=l.take i++[x]:=by rw[t8,h];rfl
theorem Ol{α β:Type}{f:α->β}{l:List α}{i:Nat}{y:β}(h:(l.map f)[i]?=a8 y):∃x,l[i]?=a8 x/\y=f x:=by
 rw[xq]at h;cases e:l[i]? with
 |none=>rw[e]at h;cases h
 |some x=>rw[e]at h;cases h;exact⟨x,rfl,rfl⟩
end
section
theorem Mz:∀rs:List (List Int),qe (ju rs)=aa
 |[]=>by simp[qe]
 |r::rs=>by rw[ju,X5,qe,<-ju,Mz rs];simp[Qi,Ju]
theorem Ve(p:List Int):D.depL (p.map D.int)=0:=by
 induction p with
 |nil=>rfl
 |cons t ts ih=>simp[D.depL,D.dep,ih]
end
section
variable{fu:Nat}{Γ:aq->List D->Rc}{G:aq->Option D}{ls:List aq}{ρ:En}{i j k:Nat}{e c es m:Ex}{f x y:aq}{b r:Px}
theorem jag{n:Int}{ns:List Int}(h:ns.length<3999):Vr (a8 (.v (.w (D.int n::ns.map D.int))))=a8 (.v (.e (.int (ddI (n::ns)).length))):=by
 have e:intsOf (D.int n::ns.map D.int)=a8 (n::ns):=v9 (ns:=n::ns);have z:(n::ns).length<4000:=by simp;omega
 simp only[Vr,Rk.d,strsOf,e,z,if_true]
end
section
variable{Γ:aq->List D->Rc}{G:aq->Option D}{ρ:En}{a:Ex}
theorem jeb:True:=trivial
end
end L2
end
section
open PySem (Str)
open L2
noncomputable def jh6:=(k7e (k7e (k7e (k7e (k7e (k7e (k7e @j9i @jeb) (k7e @j9g (k7e @j9f @j9j))) (k7e (k7e @j62 @j9h) (k7e @j5z (k7e @j9n @j9k)))) (k7e (k7e (k7e @j60 @j9o) (k7e @j9m (k7e @jav @j9l))) (k7e (k7e @j61 @j4k) (k7e @jek (k7e @jaz @jea))))) (k7e (k7e (k7e (k7e @j6c @j1c) (k7e @j3q (k7e @Ii @j5w))) (k7e (k7e @jh1 @jh2) (k7e @jc1 (k7e @jc2 @jcb)))) (k7e (k7e (k7e @j3s @j9q) (k7e @j9p (k7e @jd7 @jd6))) (k7e (k7e @je6 @jah) (k7e @jf6 (k7e @je5 @j1m)))))) (k7e (k7e (k7e (k7e (k7e @j74 @jeh) (k7e @je8 (k7e @jax @jeo))) (k7e (k7e @jef @jem) (k7e @jej (k7e @jep @jh9)))) (k7e (k7e (k7e @jed @jei) (k7e @jee (k7e @jb0 @je9))) (k7e (k7e @jeg @jha) (k7e @jh8 (k7e @jb2 @jen))))) (k7e (k7e (k7e (k7e @jb1 @jec) (k7e @j76 (k7e @je7 @jbn))) (k7e (k7e @jbo @jas) (k7e @je0 (k7e @jhf @jf5)))) (k7e (k7e (k7e @j7u @j7p) (k7e @j7s (k7e @j5f @j7t))) (k7e (k7e @j7r (k7e @j7q @jf3)) (k7e @jf1 (k7e @jg7 @jd5))))))) (k7e (k7e (k7e (k7e (k7e (k7e @jew @d_e) (k7e @d_o (k7e @d_w @d_t))) (k7e (k7e @jex @j7g) (k7e @j57 (k7e @j4z @j50)))) (k7e (k7e (k7e @j51 @j52) (k7e @j53 (k7e @j54 @j55))) (k7e (k7e @j56 @j4x) (k7e @j4y (k7e @jdy @Ip))))) (k7e (k7e (k7e (k7e @j92 @jf8) (k7e @jf7 (k7e @jgk @jgl))) (k7e (k7e @jd3 @jg2) (k7e @jdt (k7e @jdu @jb7)))) (k7e (k7e (k7e @jbu @jbt) (k7e @jbs (k7e @jdg @jdf))) (k7e (k7e @jde (k7e @jdd @jdc)) (k7e @j1i (k7e @jdr @jdq)))))) (k7e (k7e (k7e (k7e (k7e @jgz @j7m) (k7e @j7l (k7e @jc0 @jg9))) (k7e (k7e @jga @jgb) (k7e @jbe (k7e @jbd @jbc)))) (k7e (k7e (k7e @j7j @jgu) (k7e @jgs (k7e @jgt @jgr))) (k7e (k7e @j90 @j8z) (k7e @jaj (k7e @jai @j9e))))) (k7e (k7e (k7e (k7e @j9d @jc3) (k7e @j67 (k7e @jaw @jay))) (k7e (k7e @jel @jes) (k7e @jhh (k7e @j17 @jey)))) (k7e (k7e (k7e @jgy @jg4) (k7e @jf2 (k7e @jh0 @jg1))) (k7e (k7e @jbx (k7e @j7b @j7a)) (k7e @jap (k7e @jao @jaq))))))))
local macro_rules | `(tactic| walk_at "go")=>`(tactic| try simp (disch:=first | omega | assumption | (simp only [List.length_map,List.length_append,List.length_cons,List.length_nil,List.length_take,List.length_drop,List.length_reverse] <;> omega)) only [jh6,Ye,beq_self_eq_true,frz,J9,j72,List.getElem?_cons_zero,List.getElem?_cons_succ,List.set_cons_zero,List.set_cons_succ,List.map_cons,List.map_nil,List.cons_append,List.nil_append,List.replicate,List.length_map,List.length_append,List.length_cons,List.length_nil,Bool.not_true,Bool.not_false,bne_self_eq_false,Nat.reduceSub,Nat.reduceAdd,Int.reduceToNat,Int.reducePow])
local macro_rules | `(tactic| ext)=>`(tactic| walk_at "go")
local macro_rules | `(tactic| erw [$r])=>`(tactic| (rw [$r]; ext)) | `(tactic| erw [$r,$rs,*])=>`(tactic| (rw [$r]; ext; erw [$rs,*]))
namespace KL
noncomputable def vq:Sx:=(.seq (.set 1 (.lst (.cons (.tup .nil) .nil))) (.seq (.loop [2] (.seq (.var 0)) (.seq (.set 3 (.lst .nil)) (.seq (.loop [4] (.seq (.var 1)) (.seq (.ext 3 (.comp [5] (.bin .add (.var 4) (.tup (.cons (.var 5) .nil))) (.seq (.var 2)) .nil)) .nop)) (.seq (.mov 1 3) .nop)))) (.seq (.retV 1) .nop)))
noncomputable def fP_all_choices:Fi:=⟨1,6,vq,a9⟩
noncomputable def Vz:Sx:=(.seq (.ife (.cmp .lt (.var 1) (.blt .len (.cons (.var 0) .nil))) (.seq (.ret (.ix (.var 0) (.var 1))) .nop) .nop) (.seq (.set 2 (.bin .add (.lit (.int 70001)) (.bin .mul (.bin .mul (.lit (.int 911)) (.var 1)) (.var 1)))) (.seq (.ife (.cmp .gt (.blt .len (.cons (.var 0) .nil)) (.lit (.int 0))) (.seq (.set 2 (.bin .add (.var 2) (.bin .mul (.bin .mod (.ix (.var 0) (.lit (.int 0))) (.lit (.int 9973))) (.bin .add (.bin .mul (.lit (.int 3)) (.var 1)) (.lit (.int 1)))))) .nop) .nop) (.seq (.retV 2) .nop))))
noncomputable def fL_cell:Fi:=⟨2,3,Vz,a9⟩
section
variable{G:aq->Option D}{T:aq->Option Fi}
noncomputable def jl(ns:List Int)(k:Nat):Int:=match ns[k]? with
 |some v=>v
 |none=>match ns with
  |[]=>70001+911*k*k
  |v::_=>70001+911*k*k+v%9973*(3*k+1)
theorem Yw {fu n:Nat} (hT:T "_law_cell" = a8 fL_cell) {ns:List Int} {k:Nat} (hk:k<=100):evP fu G T (n+1) "_law_cell" [.lst (ns.map .int),.int k]=.val (.int (jl ns k)):=by
 rw[jq (F:=fL_cell) hT rfl];simp only[fL_cell,Vz,enter];by_cases h:k<ns.length
 .have e:atI (ns.map D.int) (k:Int)=a8 (.int ns[k]):=Qf (by simp[h]);have q:jl ns k=ns[k]:=by simp[jl,h]
  ext;simp only[e,j1i,j3s,j1c,Ii,j1m,q]
 .cases ns with
  |nil =>ext;simp[jl]
  |cons v r =>
   have e:atI (D.int v::r.map D.int) 0=a8 (.int v):=by simp[atI,ixN]
   have q:jl (v::r) k=70001+911*k*k+v%9973*(3*k+1):=by unfold jl;rw[Xz nofun]
   rw[X5];rw[X6]at h;ext;simp only[e];ext;rw[q]
theorem j5v(f:List Int):step [] f=[]:=rfl
theorem j3o(acc:List (List Int))(a f:List Int):step (acc++[a]) f=step acc f++f.map λx=>a++[x]:=by simp[step]
theorem j09(fs:List (List Int))(f:List Int):zg (fs++[f])=step (zg fs) f:=by simp[zg]
theorem Kz(acc:List (List Int)){f:List Int}{k:Nat}(h:f.length<=k):(step acc f).length<=acc.length*k:=by
 unfold step;induction acc with
 |nil=>simp
 |cons a acc ih =>rw[List.flatMap_cons,Xe,km,X6,kB];omega
theorem j0u{fs:List (List Int)}{k:Nat}(h:∀f∈fs,f.length<=k):(zg fs).length<=k^fs.length:=by
 have go:∀(fs acc:List (List Int)),(∀f∈fs,f.length<=k)->(fs.foldl step acc).length<=acc.length*k^fs.length:=by
  intro fs;induction fs with
  |nil=>intro acc _;simp
  |cons f fs ih =>intro acc hf;have h1:=ih (step acc f) λg hg=>hf g (xm _ hg);have h2:=Kz acc (hf f (X3 ..));rw[T7,X6,ff,fg (k^fs.length) k,<-Nat.mul_assoc];exact Xh h1 (Nat.mul_le_mul_right _ h2)
 have:=go fs [[]] h;simpa [zg]using this
theorem j0a{fs:List (List Int)}{r:List Int}(h:r∈zg fs):r.length=fs.length:=by
 have go:∀(fs acc:List (List Int)) (k:Nat),(∀a∈acc,a.length=k)->∀r∈fs.foldl step acc,r.length=k+fs.length:=by
  intro fs;induction fs with
  |nil=>intro acc k ha r hr;exact ha r hr
  |cons f fs ih =>
   intro acc k ha r hr;have:=ih (step acc f) (k+1) (λa hm=>by
    obtain⟨b,hb,hx⟩:=List.mem_flatMap.mp hm
    obtain⟨x,_,rfl⟩:=Xk.mp hx
    rw[Xe,ha b hb];rfl) r hr
   rw[this,X6];omega
 have:=go fs [[]] 0 (λa ha=>by rw[xj.mp ha];rfl) r h;omega
theorem j08 {fu n:Nat} (hT:T "all_choices" = a8 fP_all_choices) {fs:List (List Int)} (hf:∀f∈fs,f.length<=3) (hl:fs.length<=6):evP fu G T (n+1) "all_choices" [.lst (ju fs)]=.fresh (ju (zg fs)):=by
 rw[jq (F:=fP_all_choices) hT rfl];simp only[fP_all_choices,vq,enter];ext;have small:∀i,(zg (fs.take i)).length<=729:=λi=>by
  have h:=j0u (fs:=fs.take i) (k:=3) λf hm=>hf f (List.mem_of_mem_take hm);have h2:(fs.take i).length<=6:=by rw[Xp];omega
  exact Xh h (Pr (by decide) h2)
 refine Ji (λi ρ=>∃s2 s4,ρ=[.val (.lst (ju fs)),.own (ju (zg (fs.take i))),s2,.un,s4,.un]) ⟨.un,.un,by simp[zg,ju,j6]⟩ ?_ ?_
 .rintro i d ρ hi ⟨s2,s4,rfl⟩;obtain⟨f,hfi,rfl⟩:=Ol hi;have hf3:f.length<=3:=hf f (Xj hfi);have sm:=small i;simp only[J4];ext;refine Ws (λj ρ=>∃s4,ρ=[.val (.lst (ju fs)),.val (.lst (ju (zg (fs.take i)))),.val (j6 f),.own (ju (step ((zg (fs.take i)).take j) f)),s4,.un]) ⟨s4,by simp[j5v]⟩ ?_ ?_
  .rintro j d ρ hj ⟨s4,rfl⟩;obtain⟨a,haj,rfl⟩:=Ol hj;have hs:=Kz ((zg (fs.take i)).take j) hf3;have hs2:((zg (fs.take i)).take j).length<=729:=by rw[Xp];omega
   have ha:a.length<=6:=by have:=j0a (Xj haj);rw[Xp]at this;omega
   simp only[J4];ext;rw[qp (l:=(f.map λx=>j6 (a++[x]))) (by rfl) ?_ ?_ (.inl rfl)]
   .ext;refine⟨_,rfl,.val (j6 a),?_⟩;rw[take_snoc haj,j3o];simp only[ju,Xl,Xg];rfl
   .simp only[km];omega
   .refine q8 λx _=>v6 (by ext) ?_;ext;simp
  .rintro ρ' ⟨s4,rfl⟩;ext;refine⟨_,rfl,.val (j6 f),s4,?_⟩;rw[take_snoc hfi,j09,T4]
 .rintro ρ' ⟨s2,s4,rfl⟩;ext;rw[T4]
theorem Z0(n:Nat):upto 0 n=(aA n).map λ(k:Nat)=>D.int (0+(k:Int)):=rfl
theorem jit{m:Nat}(h:m<=6):(1:Int)<=2^m/\(2:Int)^m<=64:=by
 have:m=0\/m=1\/m=2\/m=3\/m=4\/m=5\/m=6:=by omega
 rcases this with e|e|e|e|e|e|e<;>subst e<;>decide
theorem j1j{p:List Int}{k:Nat}(h:k<p.length):atI (p.map D.int) (0+(k:Int))=a8 (.int (p.getD k 0)):=by rw[gY];refine Qf ?_;rw[xq,kh h,kj,kh h];rfl
end
end KL
namespace KV
open PySem
noncomputable def letters:List Nat:=[109,100,107,98,118,113,104,122,99,103,114,110,97,112,120,111,108,115,105,101,102,119,116,121,106,117]
theorem jad:("mdkbvqhzcgrnapxolsiefwtyju":aq).cps.toList=letters:=by decide +kernel
noncomputable def lt(n:Int):Nat:=letters.getD n.toNat 0
noncomputable def sL(l:List Nat):aq:=⟨l.toArray⟩
theorem J5{l:List Nat}:(sL l).length=l.length:=by simp[sL,lq]
theorem jc5{l m:List Nat}(h:sL l=sL m):l=m:=by have:=congrArg (λz=>z.cps.toList) h;simpa [sL]using this
theorem Yp{l m:List Nat}:sL l++sL m=sL (l++m):=by show(⟨l.toArray++m.toArray⟩:aq)=_;simp[sL]
theorem Bv:∀l:List Nat,dY ("":aq) (l.map λc=>(⟨#[c]⟩:aq))=sL l:=by
 intro l;show ly _ _=_;rw[StrLaws.glued_eq_join];induction l with
 |nil=>rfl
 |cons a r ih =>
  cases r with
  |nil=>rfl
  |cons b r =>
   rw[X5,X5,Str.join,<-X5 (f:=λc=>(⟨#[c]⟩:aq)),ih]
   .show(⟨(#[a] ++ #[])++(b::r).toArray⟩:aq)=⟨(a::b::r).toArray⟩
    simp
   .intro z;cases z
theorem jc6{l:List Nat}:(sL l).cps.toList=l:=by simp[sL]
theorem By{k n:Nat}:aJ ae (a8 (k:Int)) 1 n=aJ (a8 ((0:Nat):Int)) (a8 (k:Int)) 1 n:=by
 have e:max (0:Int) (min 0 (n:Int))=0:=by omega
 simp[aJ,e]
theorem N5{k n:Nat}:aJ (a8 (k:Int)) ae 1 n=aJ (a8 (k:Int)) (a8 (n:Int)) 1 n:=by
 have e:max (0:Int) (min (n:Int) (n:Int))=n:=by omega
 have e2:¬((n:Int)<0):=by omega
 simp[aJ,e,e2]
theorem Ig{l:List Nat}{a b:Nat}{lo hi:Option Int}(he:aJ lo hi 1 (sL l).length=aJ (a8 (a:Int)) (a8 (b:Int)) 1 (sL l).length)(hab:a<=b)(hb:b<=l.length):bM (sL l) lo hi=sL ((l.drop a).take (b-a)):=by
 have hb':b<=(sL l).length:=by rw[J5];exact hb
 have q:=StrLaws.sliced_plain (sL l) hab hb';rw[jc6]at q;have e1:=StrLaws.strSliceIndices_plain hab hb';unfold bM;rw[he];by_cases h:((1:Int)==1&&(aJ (a8 (a:Int)) (a8 (b:Int)) 1 (sL l).length).length==(sL l).length)=aa
 .rw[if_pos h];rw[e1,J5,km,Xf]at h;have:b-a=l.length:=by simpa using h
  have ha:a=0:=by omega
  subst ha;rw[this,jF,T4]
 .rw[if_neg h,q];rfl
theorem Bk{l:List Nat}{k:Nat}(h:k<=l.length):bM (sL l) ae (a8 (k:Int))=sL (l.take k):=by rw[Ig (a:=0) (b:=k) By (Pj _) h];simp
theorem Bl{l:List Nat}{k:Nat}(h:k<=l.length):bM (sL l) (a8 (k:Int)) ae=sL (l.drop k):=by rw[Ig (a:=k) (b:=l.length) (by rw[N5,J5]) h (xx _),dJ (by rw[Tj];omega)]
theorem Wz {l:List Nat} (h:l.length<=100):eX ("":aq) (l.map λc=>(⟨#[c]⟩:aq))=aa:=by
 unfold eX;rw[di];have e:∀(r:List Nat)(k:Nat),(r.map λc=>(⟨#[c]⟩:aq)).foldl (λ(x:Nat) (y:aq)=>x+y.length+("":aq).length) k=k+r.length:=by
  intro r;induction r with
  |nil=>intro k;rfl
  |cons a r ih =>intro k;rw[X5,T7,ih,X6];show k+1+0+r.length=_;omega
 show cA _=a9;have:=e l 0;rw[List.foldl_toArray];show cA (cD (λ(x:Nat) (y:aq)=>x+y.length+("":aq).length) 0 _)=a9;rw[this];unfold cA;simp;have:=cn;omega
noncomputable def Vu(c:Int):List Nat:=(aA 8).map λ(k:Nat)=>lt (c/(4+5*(k:Int))%26)
noncomputable def V1(c:Int)(s:Nat):List Nat:=(aA s).map λ(k:Nat)=>lt ((c/32+3*(k:Int)*(k:Int)+(k:Int))%26)
theorem Qa(c:Int):(Vu c).length=8:=by simp[Vu]
theorem v4(c:Int)(s:Nat):(V1 c s).length=s:=by simp[V1]
noncomputable def stN(c:Int)(m:Nat):Nat:=(c/8%(9-(m:Int))).toNat
noncomputable def szN(c:Int):Nat:=(c/4%8).toNat
noncomputable def atN(c:Int):Nat:=(c/512%((szN c:Int)+1)).toNat
noncomputable def wrd(c:Int)(m k:Nat):List Nat :=
 if c%4<2 then(if c%4=0 then(Vu c).take (stN c m+k+1) else(Vu c).drop (8-stN c m-k-1))
 else(V1 c (szN c)).take (atN c)++lt ((c/9+7*(k:Int))%26)::(V1 c (szN c)).drop (atN c)
noncomputable def Q6(c:Int)(m:Nat):List aq:=(aA m).map λ(k:Nat)=>sL (wrd c m k)
theorem jda{a b:Int}(ha:0<=a/\a<26)(hb:0<=b/\b<26)(h:lt a=lt b):a=b:=by
 obtain⟨i,rfl⟩:∃i:Nat,a=(i:Int):=⟨a.toNat,by omega⟩
 obtain⟨j,rfl⟩:∃j:Nat,b=(j:Int):=⟨b.toNat,by omega⟩
 have key:∀i j:Fin 26,letters.getD i.val 0=letters.getD j.val 0->i=j:=by decide +kernel
 have:=key ⟨i,by omega⟩ ⟨j,by omega⟩ h;have:=congrArg Fin.val this;simp at this;omega
theorem j85{c:Int}{m:Nat}(h:m<=6):stN c m+m<=8:=by unfold stN;have h1:=Pg (c/8) (show(9-(m:Int))≠0 by omega);have h2:=Pq (c/8) (show(0:Int)<9-(m:Int)by omega);omega
theorem j8p(c:Int):atN c<=szN c/\szN c<=7:=by unfold atN;have h1:=Pg (c/512) (show((szN c:Int)+1)≠0 by omega);have h2:=Pq (c/512) (show(0:Int)<(szN c:Int)+1 by omega);refine⟨by omega,?_⟩;unfold szN;omega
theorem j8w{c:Int}{m i j:Nat}(hm:m<=6)(hi:i<m)(hj:j<m)(h:wrd c m i=wrd c m j):i=j:=by
 have s:=j85 (c:=c) hm;have a:=j8p c;have l8:=Qa c;have ls:=v4 c (szN c);unfold wrd at h;split at h
 .split at h
  .have:=congrArg fJ h;rw[Xp,Xp]at this;omega
  .have:=congrArg fJ h;rw[Tj,Tj]at this;omega
 .have h2:=List.append_cancel_left h;have h3:=(List.cons.inj h2).1;have:=jda nofun nofun h3;omega
theorem Lr(c:Int)(m:Nat):(Q6 c m).length=m:=by simp[Q6]
theorem Kl{c:Int}{m:Nat}(hm:m<=6):(Q6 c m).Nodup:=by unfold Q6;unfold List.Nodup;rw[List.pairwise_map];exact List.Pairwise.imp_of_mem (λhi hj h e=>h (j8w hm (Xc.mp hi) (Xc.mp hj) (jc5 e))) (List.nodup_range (n:=m))
end KV
open PySem (Str)
open L2
namespace KW
open KL KV PySem
noncomputable def Uv:Sx:=(.seq (.set 3 (.comp [4] (.var 4) (.range (.cons (.blt .len (.cons (.var 0) .nil)) .nil)) (.cons (.cmp .eq (.bin .mod (.bin .fdiv (.var 2) (.bin .shl (.lit (.int 1)) (.var 4))) (.lit (.int 2))) (.lit (.int 1))) .nil))) (.seq (.set 5 (.blt .sum (.cons (.comp [4] (.bin .shl (.ix (.var 0) (.var 4)) (.var 4)) (.seq (.var 3)) .nil) .nil))) (.seq (.set 6 (.blt .sum (.cons (.comp [4,7] (.bin .shl (.var 7) (.var 4)) (.enum (.var 0)) .nil) .nil))) (.seq (.ife (.cmp .eq (.var 1) (.lit (.int 1))) (.seq (.ret (.blt .int (.cons (.cmp .gt (.blt .sum (.cons (.var 0) .nil)) (.bin .mod (.bin .fdiv (.var 2) (.lit (.int 64))) (.blt .len (.cons (.var 0) .nil)))) .nil))) .nop) .nop) (.seq (.ife (.cmp .eq (.var 1) (.lit (.int 2))) (.seq (.set 8 (.bin .mod (.bin .mul (.bin .add (.var 6) (.lit (.int 1))) (.bin .add (.lit (.int 1)) (.bin .mod (.var 2) (.lit (.int 1000003))))) (.lit (.int 2147483629)))) (.seq (.ret (.blt .int (.cons (.cmp .eq (.bin .mod (.bin .fdiv (.var 8) (.lit (.int 32))) (.lit (.int 5))) (.lit (.int 0))) .nil))) .nop)) .nop) (.seq (.ife (.cmp .eq (.var 1) (.lit (.int 3))) (.seq (.set 8 (.bin .mul (.bin .add (.bin .add (.bin .mul (.var 5) (.var 5)) (.bin .mul (.lit (.int 17)) (.var 5))) (.lit (.int 69621))) (.bin .add (.lit (.int 1)) (.bin .mod (.var 2) (.lit (.int 1000003)))))) (.seq (.ret (.bin .mod (.bin .fdiv (.bin .mod (.var 8) (.lit (.int 2147483647))) (.lit (.int 16))) (.lit (.int 2)))) .nop)) .nop) (.seq (.ife (.cmp .eq (.var 1) (.lit (.int 4))) (.seq (.ret (.bin .mod (.bin .add (.blt .sum (.cons (.comp [4] (.ix (.var 0) (.var 4)) (.seq (.var 3)) .nil) .nil)) (.bin .fdiv (.var 2) (.lit (.int 64)))) (.lit (.int 2)))) .nop) .nop) (.seq (.set 8 (.bin .mul (.bin .add (.bin .mul (.var 6) (.var 6)) (.lit (.int 48271))) (.bin .add (.bin .add (.bin .mod (.var 2) (.lit (.int 1000003))) (.var 6)) (.lit (.int 1))))) (.seq (.ret (.bin .mod (.bin .fdiv (.bin .mod (.var 8) (.lit (.int 2147483647))) (.lit (.int 64))) (.lit (.int 2)))) .nop)))))))))
noncomputable def fL_bit:Fi:=⟨3,9,Uv,a9⟩
section
variable{G:aq->Option D}{T:aq->Option Fi}
theorem Ka {n:Int} (h:0<=n/\n<26):atI ("mdkbvqhzcgrnapxolsiefwtyju":aq).cps.toList n=a8 (lt n):=by
 obtain⟨k,rfl⟩:∃k:Nat,n=(k:Int):=⟨n.toNat,by omega⟩
 have hk:k<letters.length:=by show k<26;omega
 rw[jad];refine Qf ?_;unfold lt;rw[kh hk,Xd,kj,kh hk];rfl
theorem jgw:("mdkbvqhzcgrnapxolsiefwtyju":aq).length<=1000000:=by decide +kernel
theorem Kv:∀{l:List Int},(∀x∈l,0<=x/\x<=32)->0<=l.sum/\l.sum<=32*(l.length:Int)
 |[],_=>by simp
 |a::r,h=>by have h1:=h a (X3 ..);have h2:=Kv (l:=r) λx hx=>h x (xm _ hx);rw[dm,X6];omega
theorem p2k{k:Nat}(h:k<=5):0<(2:Int)^k/\(2:Int)^k<=32:=by
 have:k=0\/k=1\/k=2\/k=3\/k=4\/k=5:=by omega
 rcases this with e|e|e|e|e|e<;>subst e<;>decide
noncomputable def Vp(row:List Int)(c:Int):List Nat:=(aA row.length).filter λ(k:Nat)=>decide (c/(1*2^(0+(k:Int)).toNat)%2=1)
noncomputable def Yu(row:List Int)(c:Int):List Int:=(Vp row c).map λ(k:Nat)=>row.getD k 0*2^(0+(k:Int)).toNat
noncomputable def byL(row:List Int):List Int:=row.zipIdx.map λp=>p.1*2^((p.2:Nat):Int).toNat
theorem t0k(k:Nat):(0+(k:Int)).toNat=k:=by omega
theorem j8o{row:List Int}(h01:∀x∈row,x=0\/x=1)(k:Nat):row.getD k 0=0\/row.getD k 0=1:=by
 rw[kj];cases h:row[k]? with
 |none=>exact .inl rfl
 |some v=>exact h01 v (Xj h)
theorem jal{row:List Int}{c:Int}(h01:∀x∈row,x=0\/x=1)(hl:row.length<=6):0<=(Yu row c).sum/\(Yu row c).sum<=192:=by
 have h:=Kv (l:=Yu row c) λx hx=>by
  obtain⟨k,hk,rfl⟩:=Xk.mp hx;have hk2:=Xc.mp (T6.mp hk).1;have p:=p2k (k:=k) nofun
  rw[t0k];rcases j8o h01 k with e|e<;>rw[e]<;>omega
 have l:(Yu row c).length<=6:=by unfold Yu Vp;rw[km];exact Xh (Td _ _) (by rw[Xf];exact hl)
 omega
theorem jhd{row:List Int}(h01:∀x∈row,x=0\/x=1)(hl:row.length<=6):0<=(byL row).sum/\(byL row).sum<=192:=by
 have h:=Kv (l:=byL row) λx hx=>by
  obtain⟨p,hp,rfl⟩:=Xk.mp hx;obtain⟨a,k⟩:=p;have hm:=j3 hp;have p:=p2k (k:=k) nofun
  show 0<=a*2^((k:Nat):Int).toNat/\a*2^((k:Nat):Int).toNat<=32;rw[Xd];have:=h01 a (by rw[hm.2.2];exact Ph _);rcases this with e|e<;>rw[e]<;>omega
 have l:(byL row).length<=6:=by unfold byL;rw[km,eO];exact hl
 omega
theorem jf4 {fu n:Nat} (hT:T "_law_bit" = a8 fL_bit) {row:List Int} {kd c:Int} (h01:∀x∈row,x=0\/x=1) (hl:1<=row.length/\row.length<=6):∃b:Int,(b=0\/b=1)/\evP fu G T (n+1) "_law_bit" [.lst (row.map D.int),.int kd,.int c]=.val (.int b):=by
 rw[jq (F:=fL_bit) hT rfl];simp only[fL_bit,Uv,enter];have kb:=jal (c:=c) h01 hl.2;have bb:=jhd h01 hl.2;have sl:(Vp row c).length<=6:=by unfold Vp;exact Xh (Td _ _) (by rw[Xf];exact hl.2)
 have get:∀k:Nat,k∈Vp row c->atI (row.map D.int) (0+(k:Int))=a8 (.int (row.getD k 0)):=λk hk=>j1j (Xc.mp (T6.mp hk).1);ext;rw[qp (l:=(Vp row c).map λ(k:Nat)=>D.int (0+(k:Int))) (by rfl) (by rw[qj];omega) ?_ (.inl rfl)];rotate_left
 .rw[Xd,Z0,Vp];refine Qx λk hk'=>?_;have hk:=Xc.mp hk';have p:0<(2:Int)^(0+(k:Int)).toNat/\(2:Int)^(0+(k:Int)).toNat<=32:=by rw[t0k];exact p2k nofun
  refine j5p ?_ λ_=>?_
  .ext;simp only[j1s];ext
  .ext
 ext;rw[qp (l:=(Yu row c).map D.int) (by rfl) (by rw[km];omega) ?_ (.inr (Ju _))];rotate_left
 .rw[Yu,Xg];refine q8 λk hk'=>v6 (by ext) ?_;have b:=j8o h01 k;have hk:=Xc.mp (T6.mp hk').1;ext;rw[get k hk'];ext;rfl
 ext;rw[qp (l:=(byL row).map D.int) (by rfl) (by simp only[Jl,km,eO];omega) ?_ (.inl rfl)];rotate_left
 .rw[byL,Xg,Jl,List.zipIdx_map,Xg];refine q8 λq hq=>?_;obtain⟨a,k⟩:=q;have hm:=j3 hq;have h1:=h01 a (by rw[hm.2.2];exact Ph _);show Jh _ _ _ _ (D.tup [.int (k:Int),.int a])=_;refine j12 (by ext) ?_;ext;rfl
 ext;generalize (Yu row c).sum=kept at *;generalize (byL row).sum=byr at *;by_cases k1:kd=1
 .refine⟨if decide (c/64%(row.length:Int)<row.sum)=aa then 1 else 0,by split<;>simp,?_⟩;ext;simp only[jba];ext
 .by_cases k2:kd=2
  .refine⟨if decide ((byr+1)*(1+c%1000003)%2147483629/32%5=0)=aa then 1 else 0,by split<;>simp,?_⟩;ext;simp only[j1s];ext
  .by_cases k3:kd=3
   .refine⟨(kept*kept+17*kept+69621)*(1+c%1000003)%2147483647/16%2,by omega,?_⟩;ext
   .by_cases k4:kd=4
    .refine⟨(((Vp row c).map λ(k:Nat)=>row.getD k 0).sum+c/64)%2,by omega,?_⟩;ext;rw[qp (l:=((Vp row c).map λ(k:Nat)=>row.getD k 0).map D.int) (by rfl) (by rw[km];omega) ?_ (.inr (Ju _))]
     .ext
     .rw[Xg];refine q8 λk hk'=>v6 (by ext) ?_;ext;rw[get k hk'];ext;rfl
    .refine⟨(byr*byr+48271)*(c%1000003+byr+1)%2147483647/64%2,by omega,?_⟩;ext
noncomputable def Ox(fu:Nat)(G:aq->Option D)(T:aq->Option Fi)(n:Nat)(row:List Int)(kd c:Int):Int:=match evP fu G T (n+1) "_law_bit" [.lst (row.map D.int),.int kd,.int c] with
 |.val (.int b)=>b
 |_=>0
theorem j0g {fu n:Nat} (hT:T "_law_bit" = a8 fL_bit) {row:List Int} {kd c:Int} (h01:∀x∈row,x=0\/x=1) (hl:1<=row.length/\row.length<=6):(Ox fu G T n row kd c=0\/Ox fu G T n row kd c=1)/\evP fu G T (n+1) "_law_bit" [.lst (row.map D.int),.int kd,.int c]=.val (.int (Ox fu G T n row kd c)):=by obtain⟨b,hb,e⟩:=jf4 (fu:=fu) (n:=n) (G:=G) hT h01 hl (kd:=kd) (c:=c);unfold Ox;rw[e];exact⟨hb,rfl⟩
theorem j8m(m:Nat)(z:Int):∀x∈jk 2 m z,x=0\/x=1:=by
 intro x hx;obtain⟨i,hi⟩:=List.mem_iff_getElem?.mp hx;have hl:i<m:=by have:=(xr.mp hi).1;rw[zm]at this;exact this
 rw[Z5 2 hl]at hi;cases hi;omega
noncomputable def Zd(ns:List Int)(a most:Nat):Nat:=(1+jl ns a%(most:Int)).toNat
theorem Fy{ns:List Int}{a most:Nat}(h:1<=most/\most<=6):1<=Zd ns a most/\Zd ns a most<=most:=by unfold Zd;have h1:=Pg (jl ns a) (show(most:Int)≠0 by omega);have h2:=Pq (jl ns a) (show(0:Int)<most by omega);omega
end
end KW
section
namespace K47
open PySem PySem.Spec PyProof.Rows L2
noncomputable def top(i:Nat):aN:=PySem.Challenge.pw_leastasks_k47_whole_lies_settled.main.body.getD i (.Pass ⟨0,0,0,0⟩)
noncomputable def Vw:Sx:=(.seq (.expr (.call "refuse_wrong_size" (.cons (.var 0) .nil))) (.seq (.ret (.call "all_choices" (.cons (.bin .mul (.lst (.cons (.glob "ANSWERS") .nil)) (.var 0)) .nil))) .nop))
noncomputable def W7:Fi:=⟨1,1,Vw,a9⟩
noncomputable def Qy:Sx:=(.seq (.ret (.call "number_of" (.cons (.var 0) (.cons (.blt .len (.cons (.glob "ANSWERS") .nil)) .nil)))) .nop)
noncomputable def Vm:Fi:=⟨1,1,Qy,a9⟩
noncomputable def vf:Sx:=(.seq (.ife (.or (.cmp .lt (.var 0) (.glob "FEWEST_PLACES")) (.cmp .gt (.var 0) (.glob "MOST_PLACES"))) (.seq (.raise "WrongSize" (.fst (.cons (.lit (.str "there are ")) (.cons (.glob "FEWEST_PLACES") (.cons (.lit (.str " to ")) (.cons (.glob "MOST_PLACES") (.cons (.lit (.str " places, not ")) (.cons (.var 0) .nil)))))))) .nop) .nop) .nop)
noncomputable def Jj:Fi:=⟨1,1,vf,a9⟩
noncomputable def vq:Sx:=(.seq (.set 1 (.lst (.cons (.tup .nil) .nil))) (.seq (.loop [2] (.seq (.var 0)) (.seq (.set 3 (.lst .nil)) (.seq (.loop [4] (.seq (.var 1)) (.seq (.ext 3 (.comp [5] (.bin .add (.var 4) (.tup (.cons (.var 5) .nil))) (.seq (.var 2)) .nil)) .nop)) (.seq (.mov 1 3) .nop)))) (.seq (.retV 1) .nop)))
noncomputable def fP_all_choices:Fi:=⟨1,6,vq,a9⟩
noncomputable def Zi:Sx:=(.seq (.set 2 (.lit (.int 0))) (.seq (.loop [3] (.seq (.var 0)) (.seq (.set 2 (.bin .add (.bin .mul (.var 2) (.var 1)) (.var 3))) .nop)) (.seq (.retV 2) .nop)))
noncomputable def Yb:Fi:=⟨2,4,Zi,a9⟩
noncomputable def Zk:Sx:=(.seq (.ret (.ix (.ix (.var 0) (.lit (.int 1))) (.call "row_number" (.cons (.var 1) .nil)))) .nop)
noncomputable def Yd:Fi:=⟨2,2,Zk,a9⟩
noncomputable def Vv:Sx:=(.seq (.ife (.cmp .notin (.var 1) (.ix (.var 0) (.lit (.int 0)))) (.seq (.raise "NoPlace" (.fst (.cons (.rpr (.var 1)) (.cons (.lit (.str " is no place of the question")) .nil)))) .nop) .nop) (.seq (.ret (.tix (.ix (.var 0) (.lit (.int 0))) (.var 1))) .nop))
noncomputable def W6:Fi:=⟨2,2,Vv,a9⟩
noncomputable def Jo:Sx:=(.seq (.ret (.bin .add (.call "row_number" (.cons (.bin .mul (.tup (.cons (.lit (.int 1)) .nil)) (.var 0)) .nil)) (.lit (.int 1)))) .nop)
noncomputable def Z4:Fi:=⟨1,1,Jo,a9⟩
noncomputable def Zh:Sx:=(.seq (.ret (.call "rows_of_state" (.cons (.call "state_told" (.cons (.var 0) (.cons (.var 1) (.cons (.var 2) .nil)))) (.cons (.var 0) .nil)))) .nop)
noncomputable def Y9:Fi:=⟨3,3,Zh,a9⟩
noncomputable def Zj:Sx:=(.lmk 2 "number_filled_in" (.cons (.call "state_told" (.cons (.var 0) (.cons (.var 1) (.cons (.lst .nil) .nil)))) (.cons (.var 0) (.cons (.var 1) .nil))))
noncomputable def Yc:Fi:=⟨2,3,Zj,a9⟩
noncomputable def Qv:Sx:=(.seq (.set 3 (.call "state_told" (.cons (.var 0) (.cons (.var 1) (.cons (.var 2) .nil))))) (.seq (.ife (.call "is_settled" (.cons (.var 3) (.cons (.var 0) .nil))) (.seq (.ret (.lit (.non))) .nop) .nop) (.seq (.ret (.ix (.ix (.var 0) (.lit (.int 0))) (.ix (.fcl "best_ask" (.cons (.var 3) (.cons (.var 0) (.cons (.var 1) .nil)))) (.lit (.int 1))))) .nop)))
noncomputable def Qt:Fi:=⟨3,4,Qv,a9⟩
noncomputable def Jt:Sx:=(.seq (.expr (.call "refuse_wrong_lies" (.cons (.var 0) (.cons (.var 1) .nil)))) (.seq (.set 3 (.bin .mul (.tup (.cons (.lit (.int 0)) .nil)) (.call "count_of_rows" (.cons (.blt .len (.cons (.ix (.var 0) (.lit (.int 0))) .nil)) .nil)))) (.seq (.loop [4,5] (.seq (.var 2)) (.seq (.set 3 (.call "state_behind" (.cons (.var 3) (.cons (.call "spot_of" (.cons (.var 0) (.cons (.var 4) .nil))) (.cons (.var 5) (.cons (.var 0) (.cons (.var 1) .nil))))))) .nop)) (.seq (.retV 3) .nop))))
noncomputable def Js:Fi:=⟨3,6,Jt,a9⟩
noncomputable def Q4:Sx:=(.seq (.set 5 (.call "rows_of" (.cons (.blt .len (.cons (.ix (.var 3) (.lit (.int 0))) .nil)) .nil))) (.seq (.keep 5) (.seq (.ret (.blt .tuple (.cons (.comp [6,7] (.ite (.cmp .eq (.ix (.var 6) (.var 1)) (.var 2)) (.var 7) (.call "with_another_lie" (.cons (.var 7) (.cons (.var 4) .nil)))) (.zip (.var 5) (.var 0)) .nil) .nil))) .nop)))
noncomputable def Ze:Fi:=⟨5,8,Q4,a9⟩
noncomputable def J0:Sx:=(.seq (.ret (.ite (.or (.cmp .eq (.var 0) (.glob "GONE")) (.cmp .eq (.var 0) (.var 1))) (.glob "GONE") (.bin .add (.var 0) (.lit (.int 1))))) .nop)
noncomputable def Jx:Fi:=⟨2,2,J0,a9⟩
noncomputable def Jm:Sx:=(.seq (.ret (.comp [2,3] (.var 2) (.zip (.call "rows_of" (.cons (.blt .len (.cons (.ix (.var 1) (.lit (.int 0))) .nil)) .nil)) (.var 0)) (.cons (.cmp .ne (.var 3) (.glob "GONE")) .nil))) .nop)
noncomputable def Z3:Fi:=⟨2,4,Jm,a9⟩
noncomputable def Qz:Sx:=(.seq (.set 2 (.comp [3] (.call "answer_to" (.cons (.var 1) (.cons (.var 3) .nil))) (.seq (.call "rows_of_state" (.cons (.var 0) (.cons (.var 1) .nil)))) .nil)) (.seq (.ret (.cmp .le (.lset (.var 2)) (.lit (.int 1)))) .nop))
noncomputable def Vn:Fi:=⟨2,4,Qz,a9⟩
noncomputable def Zq:Sx:=(.dx (.fill 1 4 (.call "is_settled" (.cons (.var 1) (.cons (.var 2) .nil))) "best_ask" (.cons (.var 1) (.cons (.var 2) (.cons (.var 3) .nil)))))
noncomputable def Jy:Fi:=⟨4,5,Zq,a9⟩
noncomputable def O3:Sx:=(.dx (.minc 4 5 (.call "spots_unlike" (.cons (.call "rows_of_state" (.cons (.var 1) (.cons (.var 2) .nil))) .nil)) "greatest_behind" (.cons (.var 1) (.cons (.var 5) (.cons (.var 2) (.cons (.var 3) .nil))))))
noncomputable def U8:Fi:=⟨4,6,O3,a9⟩
noncomputable def Vh:Sx:=(.dx (.maxc 5 7 (.comp [6] (.call "state_behind" (.cons (.var 1) (.cons (.var 2) (.cons (.var 6) (.cons (.var 3) (.cons (.var 4) .nil)))))) (.seq (.glob "ANSWERS")) .nil) "number_filled_in" (.cons (.var 7) (.cons (.var 3) (.cons (.var 4) .nil)))))
noncomputable def Qd:Fi:=⟨5,8,Vh,a9⟩
noncomputable def Q5:Sx:=(.seq (.ret (.comp [1,2] (.var 1) (.enum (.ix (.var 0) (.lit (.int 0)))) (.cons (.blt .any (.cons (.comp [3] (.cmp .ne (.ix (.var 3) (.var 1)) (.var 2)) (.seq (.var 0)) .nil) .nil)) .nil))) .nop)
noncomputable def Zf:Fi:=⟨1,4,Q5,a9⟩
noncomputable def vg:Sx:=(.seq (.ife (.or (.cmp .lt (.var 1) (.glob "FEWEST_LIES")) (.cmp .gt (.var 1) (.glob "MOST_LIES"))) (.seq (.raise "WrongSize" (.fst (.cons (.glob "FEWEST_LIES") (.cons (.lit (.str " to ")) (.cons (.glob "MOST_LIES") (.cons (.lit (.str " answers may be lies, not ")) (.cons (.var 1) .nil))))))) .nop) .nop) (.seq (.ife (.cmp .gt (.blt .len (.cons (.ix (.var 0) (.lit (.int 0))) .nil)) (.glob "MOST_PLACES_WITH_LIES")) (.seq (.raise "WrongSize" (.fst (.cons (.lit (.str "with lies a question has at most ")) (.cons (.glob "MOST_PLACES_WITH_LIES") (.cons (.lit (.str " places")) .nil))))) .nop) .nop) .nop))
noncomputable def Jk:Fi:=⟨2,2,vg,a9⟩
noncomputable def Vz:Sx:=(.seq (.ife (.cmp .lt (.var 1) (.blt .len (.cons (.var 0) .nil))) (.seq (.ret (.ix (.var 0) (.var 1))) .nop) .nop) (.seq (.set 2 (.bin .add (.lit (.int 70001)) (.bin .mul (.bin .mul (.lit (.int 911)) (.var 1)) (.var 1)))) (.seq (.ife (.cmp .gt (.blt .len (.cons (.var 0) .nil)) (.lit (.int 0))) (.seq (.set 2 (.bin .add (.var 2) (.bin .mul (.bin .mod (.ix (.var 0) (.lit (.int 0))) (.lit (.int 9973))) (.bin .add (.bin .mul (.lit (.int 3)) (.var 1)) (.lit (.int 1)))))) .nop) .nop) (.seq (.retV 2) .nop))))
noncomputable def fL_cell:Fi:=⟨2,3,Vz,a9⟩
noncomputable def Wd:Sx:=(.seq (.set 2 (.lit (.str "mdkbvqhzcgrnapxolsiefwtyju"))) (.seq (.set 3 (.lst .nil)) (.seq (.mov 4 0) (.seq (.loop [5] (.range (.cons (.bin .mul (.var 1) (.blt .int (.cons (.cmp .ge (.var 0) (.bin .pow (.lit (.int 10)) (.lit (.int 18)))) .nil))) .nil)) (.seq (.set 6 (.bin .add (.lit (.int 1)) (.bin .mod (.var 4) (.lit (.int 8))))) (.seq (.set 4 (.bin .fdiv (.var 4) (.lit (.int 8)))) (.seq (.set 7 (.lit (.str ""))) (.seq (.loop [8] (.range (.cons (.var 6) .nil)) (.seq (.set 7 (.bin .add (.var 7) (.ix (.var 2) (.bin .mod (.var 4) (.lit (.int 26)))))) (.seq (.set 4 (.bin .fdiv (.var 4) (.lit (.int 26)))) .nop))) (.seq (.app 3 (.var 7)) .nop)))))) (.seq (.ife (.cmp .eq (.lset (.var 3)) (.var 1)) (.seq (.retV 3) .nop) .nop) (.seq (.ife (.cmp .lt (.bin .mod (.var 0) (.lit (.int 4))) (.lit (.int 2))) (.seq (.fgt 5) (.seq (.set 9 (.join "" (.comp [5] (.ix (.var 2) (.bin .mod (.bin .fdiv (.var 0) (.bin .add (.lit (.int 4)) (.bin .mul (.lit (.int 5)) (.var 5)))) (.lit (.int 26)))) (.range (.cons (.lit (.int 8)) .nil)) .nil))) (.seq (.set 10 (.bin .mod (.bin .fdiv (.var 0) (.lit (.int 8))) (.bin .sub (.lit (.int 9)) (.var 1)))) (.seq (.ife (.cmp .eq (.bin .mod (.var 0) (.lit (.int 4))) (.lit (.int 0))) (.seq (.fgt 5) (.seq (.ret (.comp [5] (.sl (.var 9) .nil (.cons (.bin .add (.bin .add (.var 10) (.var 5)) (.lit (.int 1))) .nil)) (.range (.cons (.var 1) .nil)) .nil)) .nop)) .nop) (.seq (.fgt 5) (.seq (.ret (.comp [5] (.sl (.var 9) (.cons (.bin .sub (.bin .sub (.bin .sub (.lit (.int 8)) (.var 10)) (.var 5)) (.lit (.int 1))) .nil) .nil) (.range (.cons (.var 1) .nil)) .nil)) .nop)))))) .nop) (.seq (.set 6 (.bin .mod (.bin .fdiv (.var 0) (.lit (.int 4))) (.lit (.int 8)))) (.seq (.fgt 5) (.seq (.set 11 (.join "" (.comp [5] (.ix (.var 2) (.bin .mod (.bin .add (.bin .add (.bin .fdiv (.var 0) (.lit (.int 32))) (.bin .mul (.bin .mul (.lit (.int 3)) (.var 5)) (.var 5))) (.var 5)) (.lit (.int 26)))) (.range (.cons (.var 6) .nil)) .nil))) (.seq (.set 12 (.bin .mod (.bin .fdiv (.var 0) (.lit (.int 512))) (.bin .add (.var 6) (.lit (.int 1))))) (.seq (.fgt 5) (.seq (.ret (.comp [5] (.bin .add (.bin .add (.sl (.var 11) .nil (.cons (.var 12) .nil)) (.ix (.var 2) (.bin .mod (.bin .add (.bin .fdiv (.var 0) (.lit (.int 9))) (.bin .mul (.lit (.int 7)) (.var 5))) (.lit (.int 26))))) (.sl (.var 11) (.cons (.var 12) .nil) .nil)) (.range (.cons (.var 1) .nil)) .nil)) .nop))))))))))))
noncomputable def Om:Fi:=⟨2,13,Wd,a9⟩
noncomputable def Uv:Sx:=(.seq (.set 3 (.comp [4] (.var 4) (.range (.cons (.blt .len (.cons (.var 0) .nil)) .nil)) (.cons (.cmp .eq (.bin .mod (.bin .fdiv (.var 2) (.bin .shl (.lit (.int 1)) (.var 4))) (.lit (.int 2))) (.lit (.int 1))) .nil))) (.seq (.set 5 (.blt .sum (.cons (.comp [4] (.bin .shl (.ix (.var 0) (.var 4)) (.var 4)) (.seq (.var 3)) .nil) .nil))) (.seq (.set 6 (.blt .sum (.cons (.comp [4,7] (.bin .shl (.var 7) (.var 4)) (.enum (.var 0)) .nil) .nil))) (.seq (.ife (.cmp .eq (.var 1) (.lit (.int 1))) (.seq (.ret (.blt .int (.cons (.cmp .gt (.blt .sum (.cons (.var 0) .nil)) (.bin .mod (.bin .fdiv (.var 2) (.lit (.int 64))) (.blt .len (.cons (.var 0) .nil)))) .nil))) .nop) .nop) (.seq (.ife (.cmp .eq (.var 1) (.lit (.int 2))) (.seq (.set 8 (.bin .mod (.bin .mul (.bin .add (.var 6) (.lit (.int 1))) (.bin .add (.lit (.int 1)) (.bin .mod (.var 2) (.lit (.int 1000003))))) (.lit (.int 2147483629)))) (.seq (.ret (.blt .int (.cons (.cmp .eq (.bin .mod (.bin .fdiv (.var 8) (.lit (.int 32))) (.lit (.int 5))) (.lit (.int 0))) .nil))) .nop)) .nop) (.seq (.ife (.cmp .eq (.var 1) (.lit (.int 3))) (.seq (.set 8 (.bin .mul (.bin .add (.bin .add (.bin .mul (.var 5) (.var 5)) (.bin .mul (.lit (.int 17)) (.var 5))) (.lit (.int 69621))) (.bin .add (.lit (.int 1)) (.bin .mod (.var 2) (.lit (.int 1000003)))))) (.seq (.ret (.bin .mod (.bin .fdiv (.bin .mod (.var 8) (.lit (.int 2147483647))) (.lit (.int 16))) (.lit (.int 2)))) .nop)) .nop) (.seq (.ife (.cmp .eq (.var 1) (.lit (.int 4))) (.seq (.ret (.bin .mod (.bin .add (.blt .sum (.cons (.comp [4] (.ix (.var 0) (.var 4)) (.seq (.var 3)) .nil) .nil)) (.bin .fdiv (.var 2) (.lit (.int 64)))) (.lit (.int 2)))) .nop) .nop) (.seq (.set 8 (.bin .mul (.bin .add (.bin .mul (.var 6) (.var 6)) (.lit (.int 48271))) (.bin .add (.bin .add (.bin .mod (.var 2) (.lit (.int 1000003))) (.var 6)) (.lit (.int 1))))) (.seq (.ret (.bin .mod (.bin .fdiv (.bin .mod (.var 8) (.lit (.int 2147483647))) (.lit (.int 64))) (.lit (.int 2)))) .nop)))))))))
noncomputable def fL_bit:Fi:=⟨3,9,Uv,a9⟩
noncomputable def V5:Sx:=(.seq (.set 3 (.bin .add (.lit (.int 1)) (.bin .mod (.call "_law_cell" (.cons (.var 0) (.cons (.var 1) .nil))) (.var 2)))) (.seq (.set 4 (.call "_law_words" (.cons (.call "_law_cell" (.cons (.var 0) (.cons (.bin .add (.var 1) (.lit (.int 1))) .nil))) (.cons (.var 3) .nil)))) (.seq (.set 5 (.bin .mod (.bin .fdiv (.call "_law_cell" (.cons (.var 0) (.cons (.var 1) .nil))) (.var 2)) (.lit (.int 5)))) (.seq (.set 6 (.call "_law_cell" (.cons (.var 0) (.cons (.bin .add (.var 1) (.lit (.int 2))) .nil)))) (.seq (.set 7 (.lst .nil)) (.seq (.loop [8] (.range (.cons (.bin .shl (.lit (.int 1)) (.var 3)) .nil)) (.seq (.set 9 (.comp [10] (.bin .mod (.bin .fdiv (.var 8) (.bin .shl (.lit (.int 1)) (.bin .sub (.bin .sub (.var 3) (.var 10)) (.lit (.int 1))))) (.lit (.int 2))) (.range (.cons (.var 3) .nil)) .nil)) (.seq (.app 7 (.ix (.lst (.cons (.call "_law_bit" (.cons (.var 9) (.cons (.var 5) (.cons (.var 6) .nil)))) (.cons (.bin .mod (.bin .fdiv (.var 6) (.bin .shl (.lit (.int 1)) (.var 8))) (.lit (.int 2))) .nil))) (.blt .int (.cons (.cmp .ge (.var 6) (.bin .pow (.lit (.int 10)) (.lit (.int 18)))) .nil)))) .nop))) (.seq (.ret (.tup (.cons (.blt .tuple (.cons (.var 4) .nil)) (.cons (.blt .tuple (.cons (.var 7) .nil)) .nil)))) .nop)))))))
noncomputable def U9:Fi:=⟨3,11,V5,a9⟩
noncomputable def U0:Sx:=(.seq (.set 5 (.lst .nil)) (.seq (.loop [6,7] (.enum (.var 0)) (.seq (.set 8 (.bin .add (.var 7) (.blt .int (.cons (.cmp .ne (.bin .mod (.bin .fdiv (.var 6) (.bin .shl (.lit (.int 1)) (.bin .sub (.bin .sub (.var 2) (.var 3)) (.lit (.int 1))))) (.lit (.int 2))) (.var 4)) .nil)))) (.seq (.app 5 (.ix (.lst (.cons (.var 8) (.cons (.neg (.lit (.int 1))) .nil))) (.blt .int (.cons (.or (.cmp .lt (.var 7) (.lit (.int 0))) (.cmp .gt (.var 8) (.var 1))) .nil)))) .nop))) (.seq (.ret (.blt .tuple (.cons (.var 5) .nil))) .nop)))
noncomputable def Rm:Fi:=⟨5,9,U0,a9⟩
noncomputable def Mq:Sx:=(.seq (.ret (.comp [1,2] (.var 1) (.enum (.var 0)) (.cons (.cmp .ge (.var 2) (.lit (.int 0))) .nil))) .nop)
noncomputable def Dm:Fi:=⟨1,3,Mq,a9⟩
noncomputable def Yy:Sx:=(.seq (.set 2 (.blt .len (.cons (.ix (.var 0) (.lit (.int 0))) .nil))) (.seq (.set 3 (.call "_law_left" (.cons (.var 1) .nil))) (.seq (.set 4 (.comp [5] (.ix (.ix (.var 0) (.lit (.int 1))) (.var 5)) (.seq (.var 3)) .nil)) (.seq (.ife (.or (.cmp .notin (.lit (.int 0)) (.var 4)) (.cmp .notin (.lit (.int 1)) (.var 4))) (.seq (.ret (.lst .nil)) .nop) .nop) (.seq (.set 6 (.lst .nil)) (.seq (.loop [7] (.range (.cons (.var 2) .nil)) (.seq (.set 8 (.comp [5] (.bin .mod (.bin .fdiv (.var 5) (.bin .shl (.lit (.int 1)) (.bin .sub (.bin .sub (.var 2) (.var 7)) (.lit (.int 1))))) (.lit (.int 2))) (.seq (.var 3)) .nil)) (.seq (.ife (.and (.cmp .isin (.lit (.int 0)) (.var 8)) (.cmp .isin (.lit (.int 1)) (.var 8))) (.seq (.app 6 (.var 7)) .nop) .nop) .nop))) (.seq (.retV 6) .nop)))))))
noncomputable def Ri:Fi:=⟨2,9,Yy,a9⟩
noncomputable def We:Sx:=(.seq (.ret (.bin .mod (.bin .fdiv (.var 0) (.bin .shl (.lit (.int 1)) (.bin .sub (.bin .sub (.var 1) (.var 2)) (.lit (.int 1))))) (.lit (.int 2)))) .nop)
noncomputable def Oo:Fi:=⟨3,3,We,a9⟩
noncomputable def V6:Sx:=(.seq (.set 5 (.blt .len (.cons (.ix (.var 0) (.lit (.int 0))) .nil))) (.seq (.ife (.cmp .notin (.var 4) (.ix (.var 0) (.lit (.int 0)))) (.seq (.ret (.lit (.bl aa))) .nop) .nop) (.seq (.set 6 (.tix (.blt .list (.cons (.ix (.var 0) (.lit (.int 0))) .nil)) (.var 4))) (.seq (.loop [7] (.seq (.lst (.cons (.lit (.int 0)) (.cons (.lit (.int 1)) .nil)))) (.seq (.set 8 (.call "_law_behind" (.cons (.var 3) (.cons (.var 1) (.cons (.var 5) (.cons (.var 6) (.cons (.var 7) .nil))))))) (.seq (.ife (.or (.not (.din (.var 8) (.var 2))) (.cmp .ge (.dget (.var 2) (.var 8)) (.dget (.var 2) (.var 3)))) (.seq (.ret (.lit (.bl aa))) .nop) .nop) .nop))) (.seq (.ret (.lit (.bl a9))) .nop)))))
noncomputable def Ua:Fi:=⟨5,9,V6,a9⟩
noncomputable def Wf:Sx:=(.seq (.set 3 (.blt .list (.cons (.var 2) .nil))) (.seq (.set 4 (.call "next_ask" (.cons (.var 0) (.cons (.var 1) (.cons (.var 3) .nil))))) (.seq (.ife (.cmp .ne (.var 3) (.var 2)) (.seq (.ret (.lit (.int 0))) .nop) .nop) (.seq (.retV 4) .nop))))
noncomputable def Oq:Fi:=⟨3,5,Wf,a9⟩
noncomputable def Yz:Sx:=(.seq (.set 5 (.blt .len (.cons (.ix (.var 0) (.lit (.int 0))) .nil))) (.seq (.set 6 (.bin .mul (.tup (.cons (.lit (.int 0)) .nil)) (.bin .shl (.lit (.int 1)) (.var 5)))) (.seq (.set 7 (.dget (.var 2) (.var 6))) (.seq (.set 8 (.lst .nil)) (.seq (.mov 9 1) (.seq (.loop [10] (.range (.cons (.bin .add (.var 7) (.lit (.int 1))) .nil)) (.seq (.set 11 (.call "_law_asked" (.cons (.var 0) (.cons (.var 1) (.cons (.var 8) .nil))))) (.seq (.ife (.isN (.var 11)) (.seq .brk .nop) .nop) (.seq (.ife (.or (.cmp .eq (.var 10) (.var 7)) (.call "_law_bad_step" (.cons (.var 0) (.cons (.var 1) (.cons (.var 2) (.cons (.var 6) (.cons (.var 11) .nil))))))) (.seq (.ret (.lit (.non))) .nop) .nop) (.seq (.set 12 (.tix (.blt .list (.cons (.ix (.var 0) (.lit (.int 0))) .nil)) (.var 11))) (.seq (.set 13 (.call "_law_truth" (.cons (.var 3) (.cons (.var 5) (.cons (.var 12) .nil))))) (.seq (.ife (.and (.cmp .gt (.var 9) (.lit (.int 0))) (.cmp .eq (.bin .mod (.ix (.var 4) (.bin .mod (.var 10) (.blt .len (.cons (.var 4) .nil)))) (.lit (.int 2))) (.lit (.int 1)))) (.seq (.set 9 (.bin .sub (.var 9) (.lit (.int 1)))) (.seq (.set 13 (.bin .sub (.lit (.int 1)) (.var 13))) .nop)) .nop) (.seq (.app 8 (.tup (.cons (.var 11) (.cons (.var 13) .nil)))) (.seq (.set 6 (.call "_law_behind" (.cons (.var 6) (.cons (.var 1) (.cons (.var 5) (.cons (.var 12) (.cons (.var 13) .nil))))))) .nop))))))))) (.seq (.ife (.or (.cmp .notin (.var 3) (.call "_law_left" (.cons (.var 6) .nil))) (.cmp .gt (.blt .len (.cons (.call "_law_unlike" (.cons (.var 0) (.cons (.var 6) .nil))) .nil)) (.lit (.int 0)))) (.seq (.ret (.lit (.non))) .nop) .nop) (.seq (.retV 8) .nop))))))))
noncomputable def Rj:Fi:=⟨5,14,Yz,a9⟩
noncomputable def U3:Sx:=(.seq (.set 4 (.blt .len (.cons (.ix (.var 0) (.lit (.int 0))) .nil))) (.seq (.set 5 (.bin .mul (.tup (.cons (.lit (.int 0)) .nil)) (.bin .shl (.lit (.int 1)) (.var 4)))) (.seq (.set 6 (.lst .nil)) (.seq (.loop [7] (.seq (.var 3)) (.seq (.set 8 (.bin .mod (.bin .fdiv (.var 7) (.lit (.int 2))) (.var 4))) (.seq (.app 6 (.tup (.cons (.ix (.ix (.var 0) (.lit (.int 0))) (.var 8)) (.cons (.bin .mod (.var 7) (.lit (.int 2))) .nil)))) (.seq (.set 5 (.call "_law_behind" (.cons (.var 5) (.cons (.var 1) (.cons (.var 4) (.cons (.var 8) (.cons (.bin .mod (.var 7) (.lit (.int 2))) .nil))))))) (.seq (.set 9 (.call "_law_asked" (.cons (.var 0) (.cons (.var 1) (.cons (.var 6) .nil))))) (.seq (.ife (.cmp .ne (.isN (.var 9)) (.cmp .eq (.call "_law_unlike" (.cons (.var 0) (.cons (.var 5) .nil))) (.lst .nil))) (.seq (.ret (.lit (.bl a9))) .nop) .nop) (.seq (.ife (.and (.not (.isN (.var 9))) (.not (.din (.var 5) (.var 2)))) (.seq (.ret (.lit (.bl a9))) .nop) .nop) (.seq (.ife (.and (.not (.isN (.var 9))) (.call "_law_bad_step" (.cons (.var 0) (.cons (.var 1) (.cons (.var 2) (.cons (.var 5) (.cons (.var 9) .nil))))))) (.seq (.ret (.lit (.bl a9))) .nop) .nop) .nop)))))))) (.seq (.ret (.lit (.bl aa))) .nop)))))
noncomputable def Rn:Fi:=⟨4,10,U3,a9⟩
noncomputable def j34:Sx:=(.seq (.set 1 (.call "_law_question" (.cons (.var 0) (.cons (.lit (.int 0)) (.cons (.ix (.lst (.cons (.lit (.int 2)) (.cons (.lit (.int 2)) (.cons (.lit (.int 3)) .nil)))) (.bin .mod (.call "_law_cell" (.cons (.var 0) (.cons (.lit (.int 39)) .nil))) (.lit (.int 3)))) .nil))))) (.seq (.set 2 (.blt .len (.cons (.ix (.var 1) (.lit (.int 0))) .nil))) (.seq (.set 3 (.bin .mod (.call "_law_cell" (.cons (.var 0) (.cons (.lit (.int 3)) .nil))) (.ix (.lst (.cons (.lit (.int 3)) (.cons (.lit (.int 3)) (.cons (.lit (.int 3)) (.cons (.lit (.int 2)) .nil))))) (.var 2)))) (.seq (.set 4 (.call "lie_table" (.cons (.var 1) (.cons (.var 3) .nil)))) (.seq (.set 5 (.bin .mod (.call "_law_cell" (.cons (.var 0) (.cons (.lit (.int 4)) .nil))) (.bin .shl (.lit (.int 1)) (.var 2)))) (.seq (.set 6 (.call "_law_played" (.cons (.var 1) (.cons (.var 3) (.cons (.var 4) (.cons (.var 5) (.cons (.bin .add (.lst (.cons (.call "_law_cell" (.cons (.var 0) (.cons (.lit (.int 40)) .nil))) .nil)) (.sl (.var 0) (.cons (.lit (.int 41)) .nil) (.cons (.lit (.int 63)) .nil))) .nil))))))) (.seq (.ife (.isN (.var 6)) (.seq (.ret (.lit (.bl a9))) .nop) .nop) (.seq (.set 7 (.lst .nil)) (.seq (.loop [8] (.seq (.call "rows_left" (.cons (.var 1) (.cons (.var 3) (.cons (.var 6) .nil))))) (.seq (.set 9 (.lit (.int 0))) (.seq (.loop [10] (.seq (.var 8)) (.seq (.set 9 (.bin .add (.bin .mul (.lit (.int 2)) (.var 9)) (.var 10))) .nop)) (.seq (.app 7 (.ix (.ix (.var 1) (.lit (.int 1))) (.var 9))) .nop)))) (.seq (.ife (.or (.cmp .eq (.var 7) (.lst .nil)) (.cmp .ne (.var 7) (.bin .mul (.lst (.cons (.ix (.ix (.var 1) (.lit (.int 1))) (.var 5)) .nil)) (.blt .len (.cons (.var 7) .nil))))) (.seq (.ret (.lit (.bl a9))) .nop) .nop) (.seq (.loop [11] (.seq (.lst (.cons (.call "_law_cell" (.cons (.var 0) (.cons (.lit (.int 5)) .nil))) (.cons (.call "_law_cell" (.cons (.var 0) (.cons (.lit (.int 6)) .nil))) (.cons (.call "_law_cell" (.cons (.var 0) (.cons (.lit (.int 7)) .nil))) .nil))))) (.seq (.app 6 (.tup (.cons (.ix (.ix (.var 1) (.lit (.int 0))) (.bin .mod (.bin .fdiv (.var 11) (.lit (.int 2))) (.var 2))) (.cons (.bin .mod (.var 11) (.lit (.int 2))) .nil)))) (.seq (.ife (.not (.isN (.call "_law_asked" (.cons (.var 1) (.cons (.var 3) (.cons (.var 6) .nil)))))) (.seq (.ret (.lit (.bl a9))) .nop) .nop) .nop))) (.seq (.ife (.not (.call "_law_anyhow" (.cons (.var 1) (.cons (.var 3) (.cons (.var 4) (.cons (.lst (.cons (.call "_law_cell" (.cons (.var 0) (.cons (.lit (.int 8)) .nil))) (.cons (.call "_law_cell" (.cons (.var 0) (.cons (.lit (.int 9)) .nil))) (.cons (.call "_law_cell" (.cons (.var 0) (.cons (.lit (.int 10)) .nil))) .nil)))) .nil)))))) (.seq (.ret (.lit (.bl a9))) .nop) .nop) (.seq (.set 12 (.ix (.ix (.var 1) (.lit (.int 0))) (.lit (.int 0)))) (.seq (.ret (.isN (.call "_law_asked" (.cons (.var 1) (.cons (.var 3) (.cons (.bin .mul (.lst (.cons (.tup (.cons (.var 12) (.cons (.lit (.int 0)) .nil))) (.cons (.tup (.cons (.var 12) (.cons (.lit (.int 1)) .nil))) .nil))) (.lit (.int 3))) .nil)))))) .nop))))))))))))))
noncomputable def j2v:Fi:=⟨1,13,j34,a9⟩
noncomputable def tbl:List (aq×Fi):=("rows_of",W7)::("row_number",Vm)::("refuse_wrong_size",Jj)::("all_choices",fP_all_choices)::("number_of",Yb)::("answer_to",Yd)::("spot_of",W6)::("count_of_rows",Z4)::("rows_left",Y9)::("lie_table",Yc)::("next_ask",Qt)::("state_told",Js)::("state_behind",Ze)::("with_another_lie",Jx)::("rows_of_state",Z3)::("is_settled",Vn)::("#number_filled_in",Jy)::("#best_ask",U8)::("#greatest_behind",Qd)::("spots_unlike",Zf)::("refuse_wrong_lies",Jk)::("_law_cell",fL_cell)::("_law_words",Om)::("_law_bit",fL_bit)::("_law_question",U9)::("_law_behind",Rm)::("_law_left",Dm)::("_law_unlike",Ri)::("_law_truth",Oo)::("_law_bad_step",Ua)::("_law_asked",Oq)::("_law_played",Rj)::("_law_anyhow",Rn)::("law",j2v)::[]
noncomputable def T(x:aq):Option Fi:=tbl.lookup x
noncomputable def gs:List (aq×D):=[("FEWEST_PLACES",.int 1),("MOST_PLACES",.int 6),("ANSWERS",.tup [.int 0,.int 1]),("FEWEST_LIES",.int 0),("MOST_LIES",.int 2),("MOST_PLACES_WITH_LIES",.int 3),("GONE",.int (-1))]
noncomputable def xs:List (aq×List D):=[]
noncomputable def qs:List aq:=["state_behind","rows_of_state","number_filled_in"]
noncomputable abbrev G:aq->Option D:=Gof gs a9 xs qs
end K47
end
section
open PySem PySem.Spec PyProof.Rows L2
local macro_rules | `(tactic| walk_at "vis")=>`(tactic| first | exact Or.inl rfl | exact Or.inr (Or.inl rfl) | exact Or.inr (Or.inr rfl))
local macro_rules | `(tactic| walk_at "loc")=>`(tactic| first | exact Or.inl rfl | exact Or.inr rfl)
local macro_rules | `(tactic| walk_at "cap")=>`(tactic| repeat (first | exact rfl | refine ⟨_,_,rfl,by rfl,by rfl,by rfl,by rfl,?_⟩))
local macro_rules | `(tactic| walk_at "ts")=>`(tactic| first
 |exact Tr.int|exact Tr.bl|exact Tr.non|exact Tr.str
 |exact Tr.var (by rfl) (by walk_at "vis") (by decide) (by decide)|exact Tr.glob (by rfl) (by decide) (by decide)
 |refine Tr.bin ?_ ?_|refine Tr.neg ?_|refine Tr.cmp (by rfl) ?_ ?_|refine Tr.bcmp (by rfl) ?_ ?_|refine Tr.isN ?_|refine Tr.bisN ?_|refine Tr.isNN ?_|refine Tr.bisNN ?_
 |refine Tr.and ?_ ?_|refine Tr.or ?_ ?_|refine Tr.one ?_|refine Tr.not ?_
 |refine Tr.wand ?_ ?_|refine Tr.wor ?_ ?_|refine Tr.wand1 ?_|refine Tr.wor1 ?_|refine Tr.bw ?_|refine Tr.bnot ?_
 |refine Tr.ite ?_ ?_ ?_|exact Tr.nil|refine Tr.cons (by rfl) ?_ ?_|refine Tr.tup ?_|refine Tr.lst ?_
 |refine Tr.ix (by intro _ _;rfl) ?_ ?_|exact Tr.oN|refine Tr.oS ?_|refine Tr.sl ?_ ?_ ?_
 |refine Tr.call (by rfl) (by decide) (by rfl) (by rfl) ?_
 |refine Tr.dget (by intro _ _;rfl) ?_ ?_
 |refine Tr.tix (by rfl) (by rfl) (by rfl) (by rfl) ?_ ?_|refine Tr.fcl (by rfl) (by decide) (by rfl) (by rfl) ?_|refine Tr.dnin (by rfl) ?_ ?_|refine Tr.bdnin (by rfl) ?_ ?_|refine Tr.lset (by rfl) (by rfl) (by rfl) (by rfl) (by rfl) ?_|refine Tr.len (by rfl) ?_|refine Tr.any (by rfl) (by rfl) ?_|refine Tr.din (by rfl) ?_ ?_|refine Tr.tuple (by rfl) ?_|refine Tr.list (by rfl) ?_
 |refine Tr.sum (by rfl) (by rfl) ?_|refine Tr.intc (by rfl) ?_|refine Tr.join (by rfl) (by rfl) (by rfl) (by rfl) ?_|refine Tr.lset (by rfl) (by rfl) (by rfl) (by rfl) (by rfl) ?_|refine Tr.enum (by rfl) (by rfl) ?_
 |refine Tr.isi1 (by decide) (by decide +kernel) (by rfl) (by rfl) (by decide) (by decide) (by rfl) ?_
 |refine Tr.isi2 (by decide) (by decide) (by decide +kernel) (by decide +kernel) (by rfl) (by rfl) (by rfl) (by decide) (by decide) (by decide) (by decide) (by rfl) ?_
 |exact Tr.c0|refine Tr.c1 ?_
 |refine Tr.comp1 (by rfl) (by rfl) (by rfl) (by rfl) (by rfl) (by intro _;rfl) ?_ ?_ ?_
 |refine Tr.comp2 (by rfl) (by decide) (by rfl) (by rfl) (by rfl) (by rfl) (by rfl) (by rfl) (by intro _;rfl) ?_ ?_ ?_
 |refine Tr.seq ?_|refine Tr.range (by rfl) ?_|refine Tr.zip (by rfl) (by rfl) (by rfl) ?_ ?_
 |exact Tr.p0|refine Tr.pC ?_|refine Tr.pR ?_ ?_|refine Tr.pF (by rfl) ?_ ?_|refine Tr.fst ?_
 |refine Tr.bval (by intro _;rfl) ?_
 |refine Ts.lmk (by rfl) (by walk_at "loc") (by exact aV rfl) (by decide) (by decide) (by rfl) (by decide) (by rfl) (by rfl) (by rfl) (by rfl) ?_
 |refine' Ts.lend (by rfl) (by decide) (by rfl) (by rfl) (by walk_at "loc") (by walk_at "loc") (by exact aV rfl) (by exact aV rfl) (by intro _;rfl) (by rfl) (by rfl) (by rfl) (by walk_at "vis") (by decide) (by decide) (by rfl) (by rfl) ?_ ?_|refine' Ts.lent (by rfl) (by walk_at "loc") (by walk_at "vis") (by exact aV rfl) (by decide) (by decide) (by rfl) (by rfl) (by rfl) ?_ ?_ ?_ ?_ ?_|refine TMt.set (by rfl) (by walk_at "loc") (by rfl) (by exact aV rfl) ?_ ?_|refine TMt.ife ?_ ?_ ?_ ?_|exact TMt.nil|exact TMs.nil|exact TMs.fail|refine TMs.set (by rfl) (by walk_at "loc") (by rfl) (by exact aV rfl) ?_ ?_|refine TMs.ife ?_ ?_ ?_ ?_|exact⟨rfl,rfl,rfl,λ_ _=>rfl⟩
 |exact Ts.nil|refine Ts.fgt ?_|refine Ts.keep ?_|refine Ts.cons ?_ ?_|exact Ts.pass|exact Ts.doc|exact Ts.brk|exact Ts.fail
 |exact Ts.mov (by rfl) (by rfl) (by walk_at "loc") (by exact aV rfl) (by walk_at "vis") (by decide) (by decide)
 |refine Ts.setC1 (by rfl) (by rfl) (by walk_at "loc") (by exact aV rfl) (by rfl) (by rfl) (by rfl) (by rfl) (by rfl) (by intro _;rfl) ?_ ?_ ?_
 |refine Ts.setC2 (by rfl) (by rfl) (by walk_at "loc") (by exact aV rfl) (by rfl) (by decide) (by rfl) (by rfl) (by rfl) (by rfl) (by rfl) (by rfl) (by intro _;rfl) ?_ ?_ ?_
 |refine Ts.set (by rfl) (by walk_at "loc") (by rfl) (by exact aV rfl) ?_
 |exact Ts.retV (by rfl) (by walk_at "vis") (by decide) (by decide)|refine Ts.ret ?_
 |refine Ts.ife ?_ ?_ ?_|refine Ts.for1 (by rfl) (by rfl) (by walk_at "loc") (by exact aV rfl) (by intro _;rfl) ?_ ?_
 |refine Ts.for2 (by rfl) (by decide) (by rfl) (by rfl) (by walk_at "loc") (by walk_at "loc") (by exact aV rfl) (by exact aV rfl) (by intro _;rfl) ?_ ?_
 |refine Ts.app (by rfl) (by walk_at "vis") (by decide) (by decide) (by rfl) (by rfl) (by rfl) (by rfl) ?_
 |refine Ts.ext (by rfl) (by walk_at "vis") (by decide) (by decide) (by rfl) (by rfl) (by rfl) (by rfl) ?_
 |refine Ts.raise (by rfl) (by rfl) (by decide) (by rfl) ?_
 |refine Ts.expr (by rfl) ?_
 |refine MD.fill (by rfl) (by rfl) (by rfl) (by walk_at "vis") (by walk_at "vis") (by walk_at "loc") (by exact aV rfl) (by decide) (by decide) (by decide) (by decide) (by decide) (by decide) (by with_unfolding_all rfl) (by rfl) (by rfl) (by intro _ _;rfl) (by intro _ _;rfl) (by rfl) (by decide) (by rfl) (by rfl) ?_ ?_ ?_
 |refine MD.minc ?_ ⟨by rfl,by rfl,by walk_at "vis",by decide,by decide,by rfl,by rfl,by rfl,by rfl,by intro _;rfl,by rfl,by decide,by decide,by decide,by intro _ _ _ _ _;walk_at "vis",by intro _ _ _ _ _;rfl,by intro _ _ _ _ _;rfl,by intro _ _ _ _ _;rfl,?_⟩ (by rfl) (by rfl) (by intro _ _ _ _ _;rfl) (by intro _ _ _ _ _;rfl) ?_
 |refine MD.maxc ?_ ⟨by rfl,by rfl,by walk_at "vis",by decide,by decide,by rfl,by rfl,by rfl,by rfl,by intro _;rfl,by rfl,by decide,by decide,by decide,by intro _ _ _ _ _;walk_at "vis",by intro _ _ _ _ _;rfl,by intro _ _ _ _ _;rfl,by intro _ _ _ _ _;rfl,?_⟩ (by rfl) (by rfl)
 |refine SetT.cmp (by rfl) (by rfl) (by walk_at "loc") (by exact aV rfl) (by rfl) (by rfl) (by rfl) (by rfl) (by rfl) (by intro _;rfl) ?_ ?_ ?_
 |refine SetT.e (by rfl) (by walk_at "loc") (by rfl) (by exact aV rfl) ?_
 |exact MP.nop|refine MP.keep (by decide) ?_
 |refine MP.setC (by decide) (by rfl) (by rfl) (by walk_at "loc") (by exact aV rfl) (by rfl) (by rfl) (by rfl) (by rfl) (by rfl) (by intro _;rfl) ?_ ?_ ?_ ?_
 |refine MP.set (by decide) (by rfl) (by walk_at "loc") (by rfl) (by exact aV rfl) ?_ ?_
 |refine MP.ret ?_|refine MP.ifRet ?_ ?_ ?_
 |refine MP.ifAll (by rfl) (by rfl) (by decide) (by rfl) (by rfl) (by walk_at "vis") (by decide) (by decide) (by exact⟨_,rfl⟩) (by intro _;rfl) ?_ ?_
 |refine MP.ifRai (by rfl) (by rfl) (by decide) (by rfl) ?_ ?_ ?_
 |refine MP.takeIf (by decide) (by rfl) (by walk_at "vis") (by decide) (by decide) (by exact⟨_,rfl⟩) (by rfl) (by walk_at "loc") (by rfl) (by exact aV rfl) ?_ ?_ ?_
 |refine MP.take (by decide) (by rfl) (by walk_at "vis") (by decide) (by decide) (by exact⟨_,rfl⟩) (by rfl) (by walk_at "loc") (by rfl) (by exact aV rfl) ?_
 |refine MP.takeE (by rfl) (by walk_at "vis") (by decide) (by decide) (by exact⟨_,rfl⟩) (by rfl) ?_
 |refine MP.callS (by decide) (by exact⟨_,_,_,_,rfl,by rfl,by walk_at "vis",by decide,by decide,by rfl,by decide,by rfl,by rfl⟩) (by rfl) (by walk_at "loc") (by rfl) (by exact aV rfl) ?_ ?_
 |refine MP.ifCal (by exact⟨_,_,_,_,rfl,by rfl,by walk_at "vis",by decide,by decide,by rfl,by decide,by rfl,by rfl⟩) ?_ ?_ ?_
 |refine MP.appC (by decide) (by exact⟨_,_,_,_,rfl,by rfl,by walk_at "vis",by decide,by decide,by rfl,by decide,by rfl,by rfl⟩) (by rfl) (by walk_at "vis") (by decide) (by decide) (by rfl) (by rfl) (by rfl) (by rfl) (by rfl) ?_ ?_
 |refine MP.whlA (by rfl) (by walk_at "vis") (by decide) (by decide) (by exact⟨_,rfl⟩) ?_ ?_
 |intro C s H fp pn xe
 |intro C s H fp pn
 |intro pn xe)
local macro_rules | `(tactic| walk_at "bnd")=>`(tactic| (intro _ _ _ _ _ _ us hl; first | (obtain ⟨_,e⟩:=us1 hl; subst e; rfl) | (obtain ⟨_,_,e⟩:=us2 hl; subst e; rfl) | (obtain ⟨_,_,_,e⟩:=us3 hl; subst e; rfl) | (obtain ⟨_,_,_,_,e⟩:=us4 hl; subst e; rfl) | (obtain ⟨_,_,_,_,_,e⟩:=us5 hl; subst e; rfl)))
local macro_rules | `(tactic| walk_at "sc")=>`(tactic| exact ⟨rfl,rfl,rfl,by decide +kernel,rfl,by decide +kernel,by decide +kernel⟩)
local macro_rules | `(tactic| walk_at "lk")=>`(tactic| first | walk_at "sc" | walk_at "bnd" | decide)
namespace K47
section
variable{P:ay}{w:aD}{K:k7f}{mg:k7i}{base:aF}
theorem j0m:TrT P w K mg base "rows_of" ["many"] (top 8) Vw:=by
 intro f cdv A outer s H E xe;unfold Vw
 repeat' (walk_at "ts")
theorem Ny:TrT P w K mg base "row_number" ["row"] (top 9) Qy:=by
 intro f cdv A outer s H E xe;unfold Qy
 repeat' (walk_at "ts")
theorem Ug:TrT P w K mg base "refuse_wrong_size" ["many"] (top 10) vf:=by
 intro f cdv A outer s H E xe;unfold vf
 repeat' (walk_at "ts")
theorem Bd:TrT P w K mg base "all_choices" ["figures_by_spot","chosen","figures","longer","ahead","figure"] (top 11) vq:=by
 intro f cdv A outer s H E xe;unfold vq
 repeat' (walk_at "ts")
theorem Ly:TrT P w K mg base "number_of" ["figures","base","number","figure"] (top 12) Zi:=by
 intro f cdv A outer s H E xe;unfold Zi
 repeat' (walk_at "ts")
theorem K1:TrT P w K mg base "answer_to" ["question","row"] (top 14) Zk:=by
 intro f cdv A outer s H E xe;unfold Zk
 repeat' (walk_at "ts")
theorem j0l:TrT P w K mg base "spot_of" ["question","place"] (top 15) Vv:=by
 intro f cdv A outer s H E xe;unfold Vv
 repeat' (walk_at "ts")
theorem Mu:TrT P w K mg base "count_of_rows" ["many"] (top 16) Jo:=by
 intro f cdv A outer s H E xe;unfold Jo
 repeat' (walk_at "ts")
theorem Lx:TrT P w K mg base "rows_left" ["question","lies","told"] (top 22) Zh:=by
 intro f cdv A outer s H E xe;unfold Zh
 repeat' (walk_at "ts")
theorem Lz:TrT P w K mg base "lie_table" ["question","lies","numbers"] (top 23) Zj:=by
 intro f cdv A outer s H E xe;unfold Zj
 repeat' (walk_at "ts")
theorem Kq:TrT P w K mg base "next_ask" ["question","lies","told","state"] (top 24) Qv:=by
 intro f cdv A outer s H E xe;unfold Qv
 repeat' (walk_at "ts")
theorem Nx:TrT P w K mg base "state_told" ["question","lies","told","state","place","answer"] (top 25) Jt:=by
 intro f cdv A outer s H E xe;unfold Jt
 repeat' (walk_at "ts")
theorem O5:TrT P w K mg base "state_behind" ["state","spot","answer","question","lies","rows","row","number"] (top 26) Q4:=by
 intro f cdv A outer s H E xe;unfold Q4
 repeat' (walk_at "ts")
theorem Uw:TrT P w K mg base "with_another_lie" ["number","lies"] (top 27) J0:=by
 intro f cdv A outer s H E xe;unfold J0
 repeat' (walk_at "ts")
theorem Mt:TrT P w K mg base "rows_of_state" ["state","question","row","number"] (top 28) Jm:=by
 intro f cdv A outer s H E xe;unfold Jm
 repeat' (walk_at "ts")
theorem Nz:TrT P w K mg base "is_settled" ["state","question","answers","row"] (top 29) Qz:=by
 intro f cdv A outer s H E xe;unfold Qz
 repeat' (walk_at "ts")
noncomputable def Zn:Dx:=(.fill 1 4 (.call "is_settled" (.cons (.var 1) (.cons (.var 2) .nil))) "best_ask" (.cons (.var 1) (.cons (.var 2) (.cons (.var 3) .nil))))
theorem Ux:TrD P w K mg base "number_filled_in" ["numbers","state","question","lies","settled"] (top 30) Zn:=by
 intro f cdv A outer s H E xe;unfold Zn
 repeat' (walk_at "ts")
noncomputable def Mw:Dx:=(.minc 4 5 (.call "spots_unlike" (.cons (.call "rows_of_state" (.cons (.var 1) (.cons (.var 2) .nil))) .nil)) "greatest_behind" (.cons (.var 1) (.cons (.var 5) (.cons (.var 2) (.cons (.var 3) .nil)))))
theorem Kr:TrD P w K mg base "best_ask" ["numbers","state","question","lies","spots","spot"] (top 31) Mw:=by
 intro f cdv A outer s H E xe;unfold Mw
 repeat' (walk_at "ts")
noncomputable def Va:Dx:=(.maxc 5 7 (.comp [6] (.call "state_behind" (.cons (.var 1) (.cons (.var 2) (.cons (.var 6) (.cons (.var 3) (.cons (.var 4) .nil)))))) (.seq (.glob "ANSWERS")) .nil) "number_filled_in" (.cons (.var 7) (.cons (.var 3) (.cons (.var 4) .nil))))
theorem Wo:TrD P w K mg base "greatest_behind" ["numbers","state","spot","question","lies","states","answer","behind"] (top 32) Va:=by
 intro f cdv A outer s H E xe;unfold Va
 repeat' (walk_at "ts")
theorem O6:TrT P w K mg base "spots_unlike" ["rows","spot","number","row"] (top 33) Q5:=by
 intro f cdv A outer s H E xe;unfold Q5
 repeat' (walk_at "ts")
theorem Uh:TrT P w K mg base "refuse_wrong_lies" ["question","lies"] (top 34) vg:=by
 intro f cdv A outer s H E xe;unfold vg
 repeat' (walk_at "ts")
theorem j5t:TrT P w K mg base "_law_cell" ["_law_script","_law_k","_law_spare"] (top 36) Vz:=by
 intro f cdv A outer s H E xe;unfold Vz
 repeat' (walk_at "ts")
theorem j3l:TrT P w K mg base "_law_words" ["_law_cell_here","_law_many","_law_letters","_law_names","_law_rest","_law_k","_law_size","_law_name","_law_turn","_law_long","_law_start","_law_stem","_law_at"] (top 37) Wd:=by
 intro f cdv A outer s H E xe;unfold Wd
 repeat' (walk_at "ts")
theorem j93:TrT P w K mg base "_law_bit" ["_law_row","_law_kind","_law_cell_here","_law_some","_law_k","_law_kept","_law_by_row","_law_one","_law_mixed"] (top 38) Uv:=by
 intro f cdv A outer s H E xe;unfold Uv
 repeat' (walk_at "ts")
theorem Ks:TrT P w K mg base "_law_question" ["_law_script","_law_at","_law_most","_law_many","_law_places","_law_kind","_law_cell_here","_law_answers","_law_number","_law_row","_law_k"] (top 39) V5:=by
 intro f cdv A outer s H E xe;unfold V5
 repeat' (walk_at "ts")
theorem j24:TrT P w K mg base "_law_behind" ["_law_state","_law_lies","_law_many","_law_spot","_law_answer","_law_found","_law_number","_law_count","_law_more"] (top 40) U0:=by
 intro f cdv A outer s H E xe;unfold U0
 repeat' (walk_at "ts")
theorem j5s:TrT P w K mg base "_law_left" ["_law_state","_law_number","_law_count"] (top 41) Mq:=by
 intro f cdv A outer s H E xe;unfold Mq
 repeat' (walk_at "ts")
theorem j22:TrT P w K mg base "_law_unlike" ["_law_question_here","_law_state","_law_many","_law_left_here","_law_answers","_law_number","_law_found","_law_spot","_law_bits"] (top 42) Yy:=by
 intro f cdv A outer s H E xe;unfold Yy
 repeat' (walk_at "ts")
theorem j3m:TrT P w K mg base "_law_truth" ["_law_number","_law_many","_law_spot"] (top 43) We:=by
 intro f cdv A outer s H E xe;unfold We
 repeat' (walk_at "ts")
theorem Ku:TrT P w K mg base "_law_bad_step" ["_law_question_here","_law_lies","_law_table","_law_state","_law_place","_law_many","_law_spot","_law_answer","_law_behind_here"] (top 44) V6:=by
 intro f cdv A outer s H E xe;unfold V6
 repeat' (walk_at "ts")
theorem j3n:TrT P w K mg base "_law_asked" ["_law_question_here","_law_lies","_law_told","_law_handed","_law_place"] (top 45) Wf:=by
 intro f cdv A outer s H E xe;unfold Wf
 repeat' (walk_at "ts")
theorem j23:TrT P w K mg base "_law_played" ["_law_question_here","_law_lies","_law_table","_law_hidden","_law_cells","_law_many","_law_state","_law_most","_law_told","_law_left_here","_law_turn","_law_place","_law_spot","_law_answer"] (top 46) Yz:=by
 intro f cdv A outer s H E xe;unfold Yz
 repeat' (walk_at "ts")
theorem j25:TrT P w K mg base "_law_anyhow" ["_law_question_here","_law_lies","_law_table","_law_cells","_law_many","_law_state","_law_told","_law_cell_here","_law_spot","_law_place"] (top 47) U3:=by
 intro f cdv A outer s H E xe;unfold U3
 repeat' (walk_at "ts")
theorem j84:TrT P w K mg base "law" ["_law_script","_law_question_here","_law_many","_law_lies","_law_table","_law_hidden","_law_told","_law_answers","_law_row","_law_number","_law_bit_here","_law_cell_here","_law_place"] (top 48) j34:=by
 intro f cdv A outer s H E xe;unfold j34
 repeat' (walk_at "ts")
end
set_option maxHeartbeats 0 in
theorem head {l:dj} {w:aD} {K:k7f} {h:aF} {mg:k7i} {fa:ai} (X:K.In h) (Gn:h.Ns az mg) (hfa:mg "law" = a8 (.ref fa))
  (h0:Lf K "rows_of" (top 8))
  (h1:Lf K "row_number" (top 9))
  (h2:Lf K "refuse_wrong_size" (top 10))
  (h3:Lf K "all_choices" (top 11))
  (h4:Lf K "number_of" (top 12))
  (h5:Lf K "answer_to" (top 14))
  (h6:Lf K "spot_of" (top 15))
  (h7:Lf K "count_of_rows" (top 16))
  (h8:Lf K "rows_left" (top 22))
  (h9:Lf K "lie_table" (top 23))
  (h10:Lf K "next_ask" (top 24))
  (h11:Lf K "state_told" (top 25))
  (h12:Lf K "state_behind" (top 26))
  (h13:Lf K "with_another_lie" (top 27))
  (h14:Lf K "rows_of_state" (top 28))
  (h15:Lf K "is_settled" (top 29))
  (h16:Lf K "number_filled_in" (top 30))
  (h17:Lf K "best_ask" (top 31))
  (h18:Lf K "greatest_behind" (top 32))
  (h19:Lf K "spots_unlike" (top 33))
  (h20:Lf K "refuse_wrong_lies" (top 34))
  (h21:Lf K "_law_cell" (top 36))
  (h22:Lf K "_law_words" (top 37))
  (h23:Lf K "_law_bit" (top 38))
  (h24:Lf K "_law_question" (top 39))
  (h25:Lf K "_law_behind" (top 40))
  (h26:Lf K "_law_left" (top 41))
  (h27:Lf K "_law_unlike" (top 42))
  (h28:Lf K "_law_truth" (top 43))
  (h29:Lf K "_law_bad_step" (top 44))
  (h30:Lf K "_law_asked" (top 45))
  (h31:Lf K "_law_played" (top 46))
  (h32:Lf K "_law_anyhow" (top 47))
  (h33:Lf K "law" (top 48))
  (bz:bOk K=aa) {ts:List ai} (tz:tOk K ts=aa)
  {gt0:i8} {gt1:i8} {gt3:i8} {gt4:i8} {ga2:ai} {ga2n:Nat} {ga2s:Array (Option aj)} {gt5:i8} {gt6:i8} {gt7:i8} {gt8:i8}
  (gn0:cf K az "FEWEST_PLACES" = a8 (a8 (.int 1 gt0))) (gn1:cf K az "MOST_PLACES" = a8 (a8 (.int 6 gt1))) (ga2l:K.lookup ga2=a8 ⟨.type "tuple",ae,.seq #[.int 0 gt3,.int 1 gt4] ga2n,ga2s⟩) (gn2:cf K az "ANSWERS" = a8 (a8 (.ref ga2))) (gn3:cf K az "FEWEST_LIES" = a8 (a8 (.int 0 gt5))) (gn4:cf K az "MOST_LIES" = a8 (a8 (.int 2 gt6))) (gn5:cf K az "MOST_PLACES_WITH_LIES" = a8 (a8 (.int 3 gt7))) (gn6:cf K az "GONE" = a8 (a8 (.int (-1) gt8)))
  (exa:Mg K=aa)
  {fu n:Nat} (hlaw:∀ns:List Int,ns.length<=63->evP fu G T (n+1) "law" [.lst (ns.map D.int)]=.val (.bl aa)) :
  ∃fd:aL,(∀(s:ao)(v:aj),fY s fd ⟨[v],[]⟩ [("_law_script",v)])/\∀base:aF,K.In base->base.Ns az mg->FnOk l.prog w K mg base CX0 (lv (n+1)) fa fd ["_law_script"] (K9 K):=by
 have hL:=h33;obtain⟨f,oc,od,kV,dc,pm,an,cd,ct,sl,a,lk,c,k⟩:=hL;have e:=hfa.symm.trans (Tw X Gn a);cases e;refine⟨PySem.W.fnOf "law" "law" (vp (top 48)) (jy (top 48)) (j7 (top 48)) .none kV dc pm an cd ct,λs v=>.of_eq rfl,λbase hKb hNb=>?_⟩;have hT:∀x F,T x=a8 F->LkF l.prog w K mg base x F:=λx F hx=>by
  have all:∀p∈tbl,LkF l.prog w K mg base p.1 p.2:=by
   intro p hp;simp only[tbl,xu,cC,or_false]at hp;rcases hp with rfl|rfl|rfl|rfl|rfl|rfl|rfl|rfl|rfl|rfl|rfl|rfl|rfl|rfl|rfl|rfl|rfl|rfl|rfl|rfl|rfl|rfl|rfl|rfl|rfl|rfl|rfl|rfl|rfl|rfl|rfl|rfl|rfl|rfl
   .refine lkF (qi h0 X Gn j0m ["many"] ?_ rfl rfl ?_ ?_) rfl ?_ ?_<;>walk_at "lk"
   .refine lkF (qi h1 X Gn Ny ["row"] ?_ rfl rfl ?_ ?_) rfl ?_ ?_<;>walk_at "lk"
   .refine lkF (qi h2 X Gn Ug ["many"] ?_ rfl rfl ?_ ?_) rfl ?_ ?_<;>walk_at "lk"
   .refine lkF (qi h3 X Gn Bd ["figures_by_spot"] ?_ rfl rfl ?_ ?_) rfl ?_ ?_<;>walk_at "lk"
   .refine lkF (qi h4 X Gn Ly ["figures","base"] ?_ rfl rfl ?_ ?_) rfl ?_ ?_<;>walk_at "lk"
   .refine lkF (qi h5 X Gn K1 ["question","row"] ?_ rfl rfl ?_ ?_) rfl ?_ ?_<;>walk_at "lk"
   .refine lkF (qi h6 X Gn j0l ["question","place"] ?_ rfl rfl ?_ ?_) rfl ?_ ?_<;>walk_at "lk"
   .refine lkF (qi h7 X Gn Mu ["many"] ?_ rfl rfl ?_ ?_) rfl ?_ ?_<;>walk_at "lk"
   .refine lkF (qi h8 X Gn Lx ["question","lies","told"] ?_ rfl rfl ?_ ?_) rfl ?_ ?_<;>walk_at "lk"
   .refine lkF (qi h9 X Gn Lz ["question","lies"] ?_ rfl rfl ?_ ?_) rfl ?_ ?_<;>walk_at "lk"
   .refine lkF (qi h10 X Gn Kq ["question","lies","told"] ?_ rfl rfl ?_ ?_) rfl ?_ ?_<;>walk_at "lk"
   .refine lkF (qi h11 X Gn Nx ["question","lies","told"] ?_ rfl rfl ?_ ?_) rfl ?_ ?_<;>walk_at "lk"
   .refine lkF (qi h12 X Gn O5 ["state","spot","answer","question","lies"] ?_ rfl rfl ?_ ?_) rfl ?_ ?_<;>walk_at "lk"
   .refine lkF (qi h13 X Gn Uw ["number","lies"] ?_ rfl rfl ?_ ?_) rfl ?_ ?_<;>walk_at "lk"
   .refine lkF (qi h14 X Gn Mt ["state","question"] ?_ rfl rfl ?_ ?_) rfl ?_ ?_<;>walk_at "lk"
   .refine lkF (qi h15 X Gn Nz ["state","question"] ?_ rfl rfl ?_ ?_) rfl ?_ ?_<;>walk_at "lk"
   .exact Em (g:="number_filled_in") (by decide +kernel) h16 X Gn Ux ["numbers","state","question","lies"] (by walk_at "sc") rfl rfl rfl rfl (by decide) (by decide) (by walk_at "bnd")
   .exact Em (g:="best_ask") (by decide +kernel) h17 X Gn Kr ["numbers","state","question","lies"] (by walk_at "sc") rfl rfl rfl rfl (by decide) (by decide) (by walk_at "bnd")
   .exact Em (g:="greatest_behind") (by decide +kernel) h18 X Gn Wo ["numbers","state","spot","question","lies"] (by walk_at "sc") rfl rfl rfl rfl (by decide) (by decide) (by walk_at "bnd")
   .refine lkF (qi h19 X Gn O6 ["rows"] ?_ rfl rfl ?_ ?_) rfl ?_ ?_<;>walk_at "lk"
   .refine lkF (qi h20 X Gn Uh ["question","lies"] ?_ rfl rfl ?_ ?_) rfl ?_ ?_<;>walk_at "lk"
   .refine lkF (qi h21 X Gn j5t ["_law_script","_law_k"] ?_ rfl rfl ?_ ?_) rfl ?_ ?_<;>walk_at "lk"
   .refine lkF (qi h22 X Gn j3l ["_law_cell_here","_law_many"] ?_ rfl rfl ?_ ?_) rfl ?_ ?_<;>walk_at "lk"
   .refine lkF (qi h23 X Gn j93 ["_law_row","_law_kind","_law_cell_here"] ?_ rfl rfl ?_ ?_) rfl ?_ ?_<;>walk_at "lk"
   .refine lkF (qi h24 X Gn Ks ["_law_script","_law_at","_law_most"] ?_ rfl rfl ?_ ?_) rfl ?_ ?_<;>walk_at "lk"
   .refine lkF (qi h25 X Gn j24 ["_law_state","_law_lies","_law_many","_law_spot","_law_answer"] ?_ rfl rfl ?_ ?_) rfl ?_ ?_<;>walk_at "lk"
   .refine lkF (qi h26 X Gn j5s ["_law_state"] ?_ rfl rfl ?_ ?_) rfl ?_ ?_<;>walk_at "lk"
   .refine lkF (qi h27 X Gn j22 ["_law_question_here","_law_state"] ?_ rfl rfl ?_ ?_) rfl ?_ ?_<;>walk_at "lk"
   .refine lkF (qi h28 X Gn j3m ["_law_number","_law_many","_law_spot"] ?_ rfl rfl ?_ ?_) rfl ?_ ?_<;>walk_at "lk"
   .refine lkF (qi h29 X Gn Ku ["_law_question_here","_law_lies","_law_table","_law_state","_law_place"] ?_ rfl rfl ?_ ?_) rfl ?_ ?_<;>walk_at "lk"
   .refine lkF (qi h30 X Gn j3n ["_law_question_here","_law_lies","_law_told"] ?_ rfl rfl ?_ ?_) rfl ?_ ?_<;>walk_at "lk"
   .refine lkF (qi h31 X Gn j23 ["_law_question_here","_law_lies","_law_table","_law_hidden","_law_cells"] ?_ rfl rfl ?_ ?_) rfl ?_ ?_<;>walk_at "lk"
   .refine lkF (qi h32 X Gn j25 ["_law_question_here","_law_lies","_law_table","_law_cells"] ?_ rfl rfl ?_ ?_) rfl ?_ ?_<;>walk_at "lk"
   .refine lkF (qi h33 X Gn j84 ["_law_script"] ?_ rfl rfl ?_ ?_) rfl ?_ ?_<;>walk_at "lk"
  exact all (x,F) (lookup_mem hx)
 have bt:=jhe X Gn bz;have gl:∀x d,gs.lookup x=a8 d->∃u v,mg x=a8 u/\RelV v u/\∀H,Enc K H d v:=by
  intro x d hx;have hm:=lookup_mem hx;simp only[gs,xu,cC,or_false,Prod.mk.injEq]at hm;rcases hm with ⟨e1,e2⟩|⟨e1,e2⟩|⟨e1,e2⟩|⟨e1,e2⟩|⟨e1,e2⟩|⟨e1,e2⟩|⟨e1,e2⟩
  .subst e1 e2;exact⟨.int 1 gt0,.int 1,Tw X Gn gn0,⟨_,rfl⟩,λ_=>rfl⟩
  .subst e1 e2;exact⟨.int 6 gt1,.int 6,Tw X Gn gn1,⟨_,rfl⟩,λ_=>rfl⟩
  .subst e1 e2;exact⟨.ref ga2,.ref ga2,Tw X Gn gn2,rfl,λH=>⟨ga2,[.int 0,.int 1],rfl,.inr ⟨_,_,_,ga2l,rfl,rfl,rfl,(by show 2<=av;decide),(.cons ⟨_,rfl⟩ (.cons ⟨_,rfl⟩ .nil))⟩,⟨_,_,rfl,rfl,⟨_,_,rfl,rfl,rfl⟩⟩⟩⟩
  .subst e1 e2;exact⟨.int 0 gt5,.int 0,Tw X Gn gn3,⟨_,rfl⟩,λ_=>rfl⟩
  .subst e1 e2;exact⟨.int 2 gt6,.int 2,Tw X Gn gn4,⟨_,rfl⟩,λ_=>rfl⟩
  .subst e1 e2;exact⟨.int 3 gt7,.int 3,Tw X Gn gn5,⟨_,rfl⟩,λ_=>rfl⟩
  .subst e1 e2;exact⟨.int (-1) gt8,.int (-1),Tw X Gn gn6,⟨_,rfl⟩,λ_=>rfl⟩
 have qn:∀f∈qs,∃fa,mg f=a8 (.ref fa)/\PySem.W.keepIn K (.ref fa)=aa:=by
  intro f hf;simp only[qs,xu,cC,or_false]at hf;rcases hf with rfl|rfl|rfl
  .exact j2h h12 X Gn
  .exact j2h h14 X Gn
  .exact j2h h16 X Gn
 have tb:Tb l.prog w K mg base G:=jft bt gl exa (λp hp=>nomatch hp) (λz=>by cases z) hKb hNb qn (λp hp=>nomatch hp) (jgp tz X Gn);exact jdh hT tb (F:=j2v) (by rfl) rfl hfa (Rb lk c k) _ (by walk_at "sc") rfl rfl (j84 _) hlaw
end K47
end
open PySem (Str sizeLine argBest)
open L2
namespace K47
open KL KW KV
theorem Ke:T "_law_cell" = a8 KL.fL_cell:=by rfl
theorem j70:T "all_choices" = a8 KL.fP_all_choices:=by rfl
theorem je2:T "_law_bit" = a8 KW.fL_bit:=by rfl
theorem gA:G "ANSWERS" = a8 (.tup [.int 0,.int 1]):=by rfl
theorem Z5{b:Int}:∀{m i:Nat}{z:Int},i<m->(jk b m z)[i]?=a8 (z/b^(m-1-i)%b)
 |m+1,0,z,_=>by rw[jk,List.getElem?_cons_zero];simp
 |m+1,i+1,z,h=>by rw[jk,dD,Z5 nofun];congr 3;congr 1;omega
theorem j0p {fu n m:Nat} {z b:Int} (hm:m<=6) (hb:b=2\/b=3) (hz:0<=z/\z<b^m):evP fu G T (n+1) "number_of" [.tup ((jk b m z).map .int),.int b]=.val (.int z):=by
 rw[jq (F:=Yb) (by rfl) rfl];simp only[Yb,Zi,enter];ext;have z0:z/b^m=0:=dS hz.1 hz.2;refine Ji (λi ρ=>∃s3,ρ=[.val (.tup ((jk b m z).map .int)),.val (.int b),.val (.int (z/b^(m-i))),s3]) ⟨.un,by rw[Nat.sub_zero,z0]⟩ ?_ ?_
 .rintro i d ρ hi ⟨s3,rfl⟩;obtain⟨v,hv,rfl⟩:=Ol hi;have hlt:i<m:=by have:=(xr.mp hv).1;rw[zm]at this;exact this
  rw[Z5 hlt]at hv;cases hv;simp only[J4];ext;refine⟨_,rfl,?_⟩;have e1:m-i=(m-1-i)+1:=by omega
  have e2:m-(i+1)=m-1-i:=by omega
  have e3:z/b^(m-i)*b+z/b^(m-1-i)%b=z/b^(m-(i+1)):=by rw[e1,e2,<-j7c z b nofun,kI];exact Int.mul_ediv_add_emod _ _
  rw[e3];exact⟨_,rfl⟩
 .rintro ρ' ⟨s3,rfl⟩;ext;simp[zm]
theorem Cg {n m:Nat} {z:Int} (h:1<=m/\m<=6) (hz:0<=z/\z<2^m):evP 1000 G T (n+2) "row_number" [j6 (jk 2 m z)]=.val (.int z):=by
 rw[jq (F:=Vm) (by rfl) rfl];simp only[Vm,Qy,enter];ext;simp only[gA];ext;have e:evP 1000 G T (n+1) "number_of" [j6 (jk 2 m z),.int 2]=.val (.int z):=j0p h.2 (.inl rfl) hz;have e2:(((0+1+1:Nat):Int))=2:=rfl
 first|rw[e]|(rw[e2,e])
 ext
noncomputable def qD(ws:List aq)(a:List Int):D:=.tup [.tup (ws.map D.str),.tup (a.map D.int)]
theorem Di{p:List Int}{k:Nat}(h:k<p.length):atI (p.map D.int) (k:Int)=a8 (.int (p.getD k 0)):=by
 have:=j1j h
 rwa [gY]at this
theorem j10 {n m k:Nat} {ws:List aq} {a:List Int} (hm:1<=m/\m<=6) (ha:a.length=2^m) (hk:k<2^m):evP 1000 G T (n+3) "answer_to" [qD ws a,j6 (jk 2 m (k:Int))]=.val (.int (a.getD k 0)):=by
 rw[jq (F:=Yd) (by rfl) rfl];simp only[Yd,Zk,enter,qD];have pc:((2^m:Nat):Int)=(2:Int)^m:=by simp
 have i1:atI [D.tup (ws.map D.str),.tup (a.map D.int)] 1=a8 (.tup (a.map D.int)):=rfl;ext;erw[i1,Cg (n:=n) hm nofun,Di nofun]
noncomputable def inL(p:List Int)(m:Nat):List Nat:=(aA (2^m)).filter λ(k:Nat)=>fits p (jk 2 m (k:Int))
noncomputable def cnt(a p:List Int)(m:Nat)(v:Int):Nat:=(inL p m).countP λ(k:Nat)=>a.getD k 0==v
theorem Ro(p:List Int):Jl (p.map D.int)=(aA p.length).map λ(s:Nat)=>D.tup [.int (s:Int),.int (p.getD s 0)]:=by
 refine Tz λi=>?_;rw[Cy,xq,xq];by_cases h:i<p.length
 .rw[pq h,kh h];simp[h]
 .rw[Xz nofun,Xz (by simp;omega)];rfl
theorem at0(a b:D):atI [a,b] 0=a8 a:=rfl
theorem at1(a b:D):atI [a,b] 1=a8 b:=rfl
theorem j0z(l:List (List Int))(h:∀k∈l,k.length=2):∀k,k<l.length->bf (Jz l) k<=k/\∀j,j<=k->(l.getD (bf (Jz l) k) []).getD 0 0<=(l.getD j []).getD 0 0:=by
 have two:∀i,i<l.length->∃a b,l.getD i []=[a,b]:=λi hi=>by
  have e:l.getD i []=l[i]:=by rw[kj,kh hi];rfl
  have hm:=h _ (Ph hi);rw[e]
  match l[i],hm with|[a,b],_=>exact⟨a,b,rfl⟩
 intro k;induction k with
 |zero=>exact λ_=>⟨xx _,λj hj=>by rw[Nat.le_zero.mp hj];exact dr _⟩
 |succ k ih =>
  intro hk;obtain⟨h1,h2⟩:=ih nofun
  obtain⟨a,b,e1⟩:=two (k+1) hk;obtain⟨c,d,e2⟩:=two (bf (Jz l) k) nofun
  rw[bf];cases z:Jz l (k+1) (bf (Jz l) k) with
  |true =>
   rw[if_pos rfl];refine⟨xx _,λj hj=>?_⟩;have z:HT.lexLt (l.getD (k+1) []) (l.getD (bf (Jz l) k) [])=aa:=z;rw[e1,e2]at z;have z:a<=c:=by
    rw[HT.lexLt]at z;by_cases q:a=c
    .omega
    .rw[if_neg q]at z;have:=of_decide_eq_true z;omega
   rcases fh j (k+1)with q|q
   .have:=h2 j nofun
    rw[e2]at this;rw[e1];exact Int.le_trans z this
   .rw[show j=k+1 by omega];exact dr _
  |false =>
   rw[if_neg xf];refine⟨by omega,λj hj=>?_⟩;have z:HT.lexLt (l.getD (k+1) []) (l.getD (bf (Jz l) k) [])=a9:=z;rw[e1,e2]at z;have z:c<=a:=by
    rw[HT.lexLt]at z;by_cases q:a=c
    .omega
    .rw[if_neg q]at z;have:=of_decide_eq_false z;omega
   rcases fh j (k+1)with q|q
   .exact h2 j nofun
   .rw[show j=k+1 by omega,e1,e2];exact z
theorem gF:G "FEWEST_PLACES" = a8 (.int 1):=by rfl
theorem gM:G "MOST_PLACES" = a8 (.int 6):=by rfl
theorem j3t {fu n:Nat} {m:Int} (h:1<=m/\m<=6):evP fu G T (n+1) "refuse_wrong_size" [.int m]=.val .non:=by rw[jq (F:=Jj) (by rfl) rfl];simp only[Jj,vf,enter];ext;simp only[gF];ext;simp only[gM];ext
theorem j18 {fu n m:Nat} (h:1<=m/\m<=6):evP fu G T (n+2) "rows_of" [.int m]=.fresh (ju (zu m)):=by
 rw[jq (F:=W7) (by rfl) rfl];simp only[W7,Vw,enter];ext;rw[j3t (n:=n) nofun];ext;simp only[gA];have hrep:(au (m:Int).toNat [D.tup [.int 0,.int 1]]).flatten=ju (au m [0,1]):=by
  rw[Xd];have:∀k:Nat,(au k [D.tup [.int 0,.int 1]]).flatten=ju (au k [0,1]):=by
   intro k;induction k with
   |zero=>rfl
   |succ k ih=>rw[ph,T5,ih];rfl
  exact this m
 ext;rw[hrep,j08 j70 (λf hf=>by rw[(List.mem_replicate.mp hf).2];decide) (by rw[Tc];omega)];ext;have hc:zg (au m [0,1])=zu m:=by
  rw[j31];have:∀k:Nat,W0 (au k [0,1])=zu k:=by
   intro k;induction k with
   |zero=>rfl
   |succ k ih=>rw[ph,W0,ih,zu];simp
  exact this m
 rw[hc]
theorem max2(x y:Int):Zc [x,y]=max x y:=by
 have:=Oh (ns:=[x,y]) (by simp);have h1:=this.2 x (by simp);have h2:=this.2 y (by simp);have h3:Zc [x,y]=x\/Zc [x,y]=y:=by simpa using this.1
 omega
noncomputable def bt(m s k:Nat):Int:=(jk 2 m (k:Int)).getD s 0
noncomputable def wal(L c:Int):Int:=if c = -1\/c=L then -1 else c+1
noncomputable def beh(m:Nat)(L:Int)(st:List Int)(s:Nat)(x:Int):List Int:=(aA (2^m)).map λk=>if bt m s k=x then st.getD k 0 else wal L (st.getD k 0)
noncomputable def lft(m:Nat)(st:List Int):List Nat:=(aA (2^m)).filter λk=>decide (st.getD k 0 ≠ -1)
theorem gG:G "GONE" = a8 (.int (-1)):=by rfl
theorem j6l {n:Nat} {c L:Int}:evP 1000 G T (n+1) "with_another_lie" [.int c,.int L]=.val (.int (wal L c)):=by
 rw[jq (F:=Jx) (by rfl) rfl];simp only[Jx,J0,enter];by_cases h1:c = -1
 .simp only[wal];rw[if_pos (.inl h1)];ext;simp only[gG];ext
  try simp only[gG]
  ext
 .by_cases h2:c=L
  .simp only[wal];rw[if_pos (.inr h2)];ext;simp only[gG];ext
   try simp only[gG]
   ext
  .simp only[wal];rw[if_neg nofun];ext;simp only[gG];ext
   try simp only[gG]
   ext
theorem zip_rows{m:Nat}{st:List Int}(h:st.length=2^m):Zr (ju (zu m)) (st.map D.int)=(aA (2^m)).map λk=>D.tup [j6 (jk 2 m ((k:Nat):Int)),.int (st.getD k 0)]:=by
 unfold Zr;rw[<-Im];apply Tz;intro i;rw[xq,xq];by_cases hi:i<2^m
 .rw[pq hi];have e1:(ju ((aA (2^m)).map λn=>jk 2 m ((n:Nat):Int)))[i]?=a8 (j6 (jk 2 m (i:Int))):=by unfold ju;rw[xq,xq,pq hi];rfl
  have e2:(st.map D.int)[i]?=a8 (.int (st.getD i 0)):=by rw[xq,kj,kh nofun];rfl
  rw[gp (z:=(j6 (jk 2 m (i:Int)),D.int (st.getD i 0))) |>.mpr ⟨e1,e2⟩];rfl
 .rw[Xz (l:=aA (2^m)) (by rw[Xf];omega),Xz (by rw[jv];simp only[ju,km,Xf];omega)];rfl
theorem j0e{m s k:Nat}(hs:s<m):atI ((jk 2 m (k:Int)).map D.int) (s:Int)=a8 (.int (bt m s k)):=Di (by rw[zm];exact hs)
theorem Qm{m:Nat}(h:m<=3):2^m<=8:=Pr (n:=2) (by decide) h
theorem Rx {n m s:Nat} {ws:List aq} {a st:List Int} {x L:Int} (hw:ws.length=m) (hm:1<=m/\m<=3) (hst:st.length=2^m) (hs:s<m):evP 1000 G T (n+4) "state_behind" [j6 st,.int s,.int x,qD ws a,.int L]=.val (j6 (beh m L st s x)):=by
 have rok:evP 1000 G T (n+3) "rows_of" [.int m]=.fresh (ju (zu m)):=j18 (n:=n+1) nofun
 have p8:=Qm hm.2;have lw:((ws.map D.str).length:Int)=(m:Int):=by rw[km,hw]
 rw[jq (F:=Ze) (by rfl) rfl];simp only[Ze,Q4,enter,qD];ext;simp only[at0];ext;rw[hw,rok];ext;simp only[j6];rw[show Nr (a8 (.v (.e (.lst (ju (zu m)))))) (a8 (.v (.e (.tup (st.map D.int)))))=a8 (.i (Zr (ju (zu m)) (st.map D.int)))from rfl,zip_rows hst];rw[qp (l:=(beh m L st s x).map D.int) (by rfl) (by rw[km,Xf];omega) ?_ (.inl rfl)]
 .ext
 .rw[beh,Xg];refine q8 λk hk=>j12 (by ext) ?_;by_cases hb:bt m s k=x
  .simp only[bU];rw[if_pos hb];ext;simp only[j6,j0e hs];ext
  .simp only[bU];rw[if_neg hb];ext;simp only[j6,j0e hs];ext;rw[j6l];ext
theorem Dr{x y:Int}:cmpI .ne x y=a8 (decide (x≠y)):=by unfold cmpI;by_cases h:x=y<;>simp[h]
theorem jb9{x y:Int}:cmpI .le x y=a8 (decide (x<=y)):=by unfold cmpI;by_cases h:x<=y<;>simp[h]
theorem Rh {n m:Nat} {ws:List aq} {a st:List Int} (hw:ws.length=m) (hm:1<=m/\m<=3) (hst:st.length=2^m):evP 1000 G T (n+4) "rows_of_state" [j6 st,qD ws a]=.fresh (ju ((lft m st).map λk=>jk 2 m ((k:Nat):Int))):=by
 have rok:evP 1000 G T (n+3) "rows_of" [.int m]=.fresh (ju (zu m)):=j18 (n:=n+1) nofun
 have p8:=Qm hm.2;rw[jq (F:=Z3) (by rfl) rfl];simp only[Z3,Jm,enter,qD,j6];ext;simp only[at0];ext;rw[hw,rok];ext;rw[show Nr (a8 (.v (.o (ju (zu m))))) (a8 (.v (.e (.tup (st.map D.int)))))=a8 (.i (Zr (ju (zu m)) (st.map D.int)))from rfl,zip_rows hst];rw[qp (l:=ju ((lft m st).map λk=>jk 2 m ((k:Nat):Int))) (by rfl) (by rw[km,Xf];omega) ?_ (.inl rfl)]
 .ext
 .unfold ju lft;rw[Xg];refine Qx λk hk=>O4 ?_ λ_=>by(ext;rfl)
  ext;simp only[gG];ext;rw[Dr];rfl
noncomputable def zj(a:List Int)(m:Nat)(st:List Int):List Int:=(lft m st).map λk=>a.getD k 0
noncomputable def stl(a:List Int)(m:Nat)(st:List Int):Bool:=!((zj a m st).contains 0&&(zj a m st).contains 1)
theorem Ik:∀{n:Nat}{p:List Int},p.length=n->(∀x∈p,x=0\/x=1)->p∈zu n
 |0,[],_,_=>by simp[zu]
 |0,_::_,h,_=>by simp at h
 |n+1,[],h,_=>by simp at h
 |n+1,x::p,h,hx=>by have ih:=Ik (n:=n) (p:=p) (by simpa using h) λy hy=>hx y (xm _ hy);unfold zu;have:=hx x (X3 ..);rcases this with e|e<;>subst e<;>simp[ih]
theorem jev:∀n:Fin 9,(zu n.val).all (λns=>decide (decide ((ddI ns).length<=1)=(!(ns.contains 0&&ns.contains 1))))=aa:=by decide +kernel
theorem jhc{ns:List Int}(hl:ns.length<=8)(h:∀x∈ns,x=0\/x=1):decide ((ddI ns).length<=1) = !(ns.contains 0&&ns.contains 1):=by have:=Pa.mp (jev ⟨ns.length,by omega⟩) ns (Ik rfl h);exact of_decide_eq_true this
theorem Us{m:Nat}{st:List Int}:(lft m st).length<=2^m:=by unfold lft;exact Xh (Td ..) (by rw[Xf];exact xx _)
theorem Bt{m k:Nat}{st:List Int}(h:k∈lft m st):k<2^m:=Xc.mp (T6.mp h).1
theorem U6 {n m:Nat} {ws:List aq} {a st:List Int} (hw:ws.length=m) (hm:1<=m/\m<=3) (ha:a.length=2^m) (h01:∀x∈a,x=0\/x=1) (hst:st.length=2^m):evP 1000 G T (n+5) "is_settled" [j6 st,qD ws a]=.val (.bl (stl a m st)):=by
 have fs:=Rh (n:=n) (a:=a) hw hm hst;have p8:=Qm hm.2;have ll:=Us (m:=m) (st:=st);rw[jq (F:=Vn) (by rfl) rfl];simp only[Vn,Qz,enter];ext;rw[fs];ext;rw[qp (l:=(zj a m st).map D.int) (by rfl) (by simp only[ju,km];omega) ?_ (.inl rfl)]
 .ext;have el:Vr (a8 (.v (.w ((zj a m st).map D.int))))=a8 (.v (.e (.int (ddI (zj a m st)).length))):=by
   have:(zj a m st).length=(lft m st).length:=km ..;cases ex:zj a m st with
   |nil=>rfl
   |cons x xs =>rw[ex,X6]at this;exact jag nofun
  rw[el];ext;have:=jhc (ns:=zj a m st) (by rw[show(zj a m st).length=(lft m st).length from km ..];omega) (λy hy=>by
   obtain⟨k,hk,e⟩:=Xk.mp hy
   rw[<-e]
   exact h01 _ (by rw[kj,kh (by have:=Bt hk;omega)];exact Ph _))
  rw[jb9];ext;rw[show stl a m st=decide ((ddI (zj a m st)).length<=1)from this.symm];have e1:decide (((ddI (zj a m st)).length:Int)<=1)=decide ((ddI (zj a m st)).length<=1):=decide_eq_decide.mpr nofun
  rw[e1]
 .unfold ju zj;rw[Xg,Xg];refine q8 λk hk=>v6 (by ext) ?_;have as:=j10 (n:=n+1) (ws:=ws) (a:=a) (m:=m) nofun ha (Bt hk);ext;simp only[bU];rw[as];ext
theorem K4 {n m:Nat} {ws:List aq} {a st:List Int} (hw:ws.length=m) (hm:1<=m/\m<=3) (ha:a.length=2^m) (h01:∀x∈a,x=0\/x=1) (hst:st.length=2^m) (_:lft m st≠[]):evP 1000 G T (n+5) "is_settled" [j6 st,qD ws a]=.val (.bl (stl a m st)):=U6 hw hm ha h01 hst
noncomputable def unl(m:Nat)(st:List Int):List Nat:=(aA m).filter λs=>(lft m st).any λk=>decide (bt m s k≠bt m s ((lft m st).headD 0))
theorem j78{m k:Nat}:Jl ((jk 2 m (k:Int)).map D.int)=(aA m).map λ(s:Nat)=>D.tup [.int (s:Int),.int (bt m s k)]:=by have:=Ro (jk 2 m (k:Int));rw[zm]at this;exact this
theorem Km {n m:Nat} {st:List Int} (hm:1<=m/\m<=3) (hne:lft m st≠[]):evP 1000 G T (n+1) "spots_unlike" [.lst (ju ((lft m st).map λk=>jk 2 m ((k:Nat):Int)))]=.fresh ((unl m st).map λ(s:Nat)=>D.int (s:Int)):=by
 have p8:=Qm hm.2;have ll:=Us (m:=m) (st:=st);obtain⟨k0,r,e0⟩:∃k0 r,lft m st=k0::r:=by
  cases e:lft m st with
  |nil=>exact absurd e hne
  |cons k r=>exact⟨k,r,rfl⟩
 have h0:(lft m st).headD 0=k0:=by rw[e0];rfl
 have i0:atI (ju ((lft m st).map λk=>jk 2 m ((k:Nat):Int))) 0=a8 (j6 (jk 2 m (k0:Int))):=by rw[e0];simp[ju,atI,ixN]
 rw[jq (F:=Zf) (by rfl) rfl];simp only[Zf,Q5,enter];ext;rw[i0];ext
 try simp only[j6]
 ext;rw[j78];rw[qp (l:=(unl m st).map λ(s:Nat)=>D.int (s:Int)) (by rfl) (by rw[km,Xf];omega) ?_ (.inl rfl)]
 .ext
 .unfold unl;refine Qx λs hs=>O4 ?_ λ_=>by ext
  have hs':s<m:=Xc.mp hs;ext;rw[qp (l:=((lft m st).map λk=>decide (bt m s k≠bt m s k0)).map D.bl) (by rfl) (by simp only[ju,km];omega) ?_ (.inl rfl)]
  .ext;rw[h0,k6];rfl
  .unfold ju;rw[Xg,Xg];refine q8 λk hk=>v6 (by ext) ?_;simp only[bU];ext;simp only[j6,j0e hs'];ext;rw[Dr];ext
theorem Z2{m s k:Nat}{L x:Int}{st:List Int}(hk:k<2^m):(beh m L st s x).getD k 0=if bt m s k=x then st.getD k 0 else wal L (st.getD k 0):=by unfold beh;rw[kj,xq,pq hk];rfl
theorem j1v{m s:Nat}{L x:Int}{st:List Int}:(beh m L st s x).length=2^m:=by unfold beh;rw[km,Xf]
theorem zf{m k:Nat}{st:List Int}:k∈lft m st↔k<2^m/\st.getD k 0 ≠ -1:=by unfold lft;rw[T6,Xc,decide_eq_true_eq]
theorem Ds{m s k:Nat}(hs:s<m):bt m s k=0\/bt m s k=1:=by
 have h:bt m s k∈jk 2 m (k:Int):=by unfold bt;rw[kj,kh (by rw[zm];exact hs)];exact Ph _
 have:=Nb (by decide) h;omega
theorem Z6{m s:Nat}{st:List Int}:s∈unl m st↔s<m/\∃k∈lft m st,∃k'∈lft m st,bt m s k≠bt m s k':=by
 unfold unl;rw[T6,Xc,List.any_eq_true];refine⟨λ⟨h1,k,hk,h2⟩=>⟨h1,k,hk,(lft m st).headD 0,?_,of_decide_eq_true h2⟩,λ⟨h1,k,hk,k',hk',h2⟩=>⟨h1,?_⟩⟩
 .cases e:lft m st with
  |nil=>rw[e]at hk;cases hk
  |cons x r=>exact X3 ..
 .by_cases h:bt m s k=bt m s ((lft m st).headD 0)
  .exact⟨k',hk',decide_eq_true λz=>h2 (h.trans z.symm)⟩
  .exact⟨k,hk,decide_eq_true h⟩
theorem Ui{a:List Int}{m:Nat}{st:List Int}(ha:a.length=2^m)(h01:∀x∈a,x=0\/x=1):stl a m st=aa ↔ ∀k∈lft m st,∀k'∈lft m st,a.getD k 0=a.getD k' 0:=by
 have g:∀k∈lft m st,a.getD k 0=0\/a.getD k 0=1:=λk hk=>h01 _ (by
  rw[kj,kh (by have:=(zf.mp hk).1;omega)];exact Ph _)
 unfold stl;rw[di,Bool.and_eq_false_iff];have c:∀v:Int,(zj a m st).contains v=aa ↔ ∃k∈lft m st,a.getD k 0=v:=λv=>by rw[Xr];unfold zj;rw[Xk]
 constructor
 .intro h k hk k' hk';rcases h with h|h
  .have n:∀k∈lft m st,a.getD k 0≠0:=λk hk z=>by rw[(c 0).mpr ⟨k,hk,z⟩]at h;cases h
   have:=n k hk;have:=n k' hk';have:=g k hk;have:=g k' hk';omega
  .have n:∀k∈lft m st,a.getD k 0≠1:=λk hk z=>by rw[(c 1).mpr ⟨k,hk,z⟩]at h;cases h
   have:=n k hk;have:=n k' hk';have:=g k hk;have:=g k' hk';omega
 .intro h;cases e0:(zj a m st).contains 0 with
  |false=>exact .inl rfl
  |true =>
   refine .inr ?_;cases e1:(zj a m st).contains 1 with
   |false=>rfl
   |true =>obtain⟨k,hk,z⟩:=(c 0).mp e0;obtain⟨k',hk',z'⟩:=(c 1).mp e1;have:=h k hk k' hk';omega
theorem j2f:∀m:Fin 4,∀k:Fin 8,∀k':Fin 8,k.val<2^m.val->k'.val<2^m.val->k≠k'->∃s:Fin 3,s.val<m.val/\bt m.val s.val k.val≠bt m.val s.val k'.val:=by decide +kernel
theorem Ko{a:List Int}{m:Nat}{st:List Int}(hm:m<=3)(ha:a.length=2^m)(h01:∀x∈a,x=0\/x=1)(h:stl a m st=a9):unl m st≠[]:=λz=>by
 have:stl a m st=aa:=(Ui ha h01).mpr λk hk k' hk'=>by
  by_cases e:k=k'
  .rw[e]
  .exfalso;have p8:=Qm hm;have b1:=(zf.mp hk).1;have b2:=(zf.mp hk').1;obtain⟨s,h1,h2⟩:=j2f ⟨m,by omega⟩ ⟨k,by omega⟩ ⟨k',by omega⟩ b1 b2 (λq=>e (congrArg Fin.val q));have:s.val∈unl m st:=Z6.mpr ⟨h1,k,hk,k',hk',h2⟩;rw[z]at this;cases this
 rw[h]at this;cases this
structure Vs(m:Nat)(L:Int)(st:List Int):Prop where
 len:st.length=2^m
 bd:∀k,k<2^m->-1<=st.getD k 0/\st.getD k 0<=L
 ne:lft m st≠[]
noncomputable def wt(L c:Int):Nat:=if c = -1 then 0 else(L+1-c).toNat
noncomputable def mu(m:Nat)(L:Int)(st:List Int):Nat:=((aA (2^m)).map λk=>wt L (st.getD k 0)).sum
theorem Bg{f g:Nat->Nat}:∀{l:List Nat},(∀k∈l,f k<=g k)->(l.map f).sum<=(l.map g).sum
 |[],_=>xx _
 |k::l,h=>by rw[X5,X5,dm,dm];exact Nat.add_le_add (h k (X3 ..)) (Bg λk hk=>h k (xm _ hk))
theorem Be{f g:Nat->Nat}:∀{l:List Nat},(∀k∈l,f k<=g k)->(∃k∈l,f k<g k)->(l.map f).sum<(l.map g).sum
 |[],_,⟨_,h,_⟩=>by cases h
 |k::l,h,⟨j,hj,hl⟩=>by
  rw[X5,X5,dm,dm];rcases xu.mp hj with e|e
  .subst e;exact Nat.add_lt_add_of_lt_of_le hl (Bg λk hk=>h k (xm _ hk))
  .exact Nat.add_lt_add_of_le_of_lt (h k (X3 ..)) (Be (λk hk=>h k (xm _ hk)) ⟨j,e,hl⟩)
theorem Bc{L c:Int}(hL:0<=L)(h:-1<=c/\c<=L):-1<=wal L c/\wal L c<=L/\wt L (wal L c)<=wt L c/\(c ≠ -1->wt L (wal L c)<wt L c)/\(wal L c ≠ -1->c ≠ -1/\wal L c=c+1):=by
 unfold wal wt;by_cases h1:c = -1
 .subst h1;simp;omega
 .by_cases h2:c=L
  .subst h2;simp[h1];omega
  .rw[if_neg nofun,if_neg nofun,if_neg h1];omega
theorem Vs.beh{m s:Nat}{L x:Int}{st:List Int}(v:Vs m L st)(hL:0<=L)(hs:s∈unl m st)(hx:x=0\/x=1):Vs m L (beh m L st s x)/\mu m L (beh m L st s x)<mu m L st:=by
 obtain⟨hsm,k,hk,k',hk',hne⟩:=Z6.mp hs;have b1:=Ds (k:=k) hsm;have b2:=Ds (k:=k') hsm;obtain⟨i,hi,ei⟩:∃i∈lft m st,bt m s i=x:=by
  by_cases e:bt m s k=x
  .exact⟨k,hk,e⟩
  .exact⟨k',hk',by omega⟩
 obtain⟨j,hj,ej⟩:∃j∈lft m st,bt m s j≠x:=by
  by_cases e:bt m s k=x
  .exact⟨k',hk',by omega⟩
  .exact⟨k,hk,e⟩
 refine⟨⟨j1v,λk hk=>?_,λz=>?_⟩,?_⟩
 .rw[Z2 hk];split
  .exact v.bd k hk
  .have:=Bc hL (v.bd k hk);exact⟨this.1,this.2.1⟩
 .have:i∈lft m (K47.beh m L st s x):=zf.mpr ⟨(zf.mp hi).1,by rw[Z2 (zf.mp hi).1,if_pos ei];exact(zf.mp hi).2⟩;rw[z]at this;cases this
 .unfold mu;refine Be (λk hk=>?_) ⟨j,Xc.mpr (zf.mp hj).1,?_⟩
  .have hk:=Xc.mp hk;rw[Z2 hk];split
   .exact xx _
   .exact(Bc hL (v.bd k hk)).2.2.1
  .rw[Z2 (zf.mp hj).1,if_neg ej];exact(Bc hL (v.bd j (zf.mp hj).1)).2.2.2.1 (zf.mp hj).2
noncomputable def NF(a:List Int)(m:Nat)(L:Int):Nat->List Int->Int
 |0,_=>0
 |f+1,st=>if stl a m st=aa then 0 else 1+Jw ((unl m st).map λs=>max (NF a m L f (beh m L st s 0)) (NF a m L f (beh m L st s 1)))
noncomputable def NN(a:List Int)(m:Nat)(L:Int)(st:List Int):Int:=NF a m L (mu m L st) st
theorem j3b{a:List Int}{m:Nat}{L:Int}(hL:0<=L):∀(f g:Nat)(st:List Int),Vs m L st->mu m L st<=f->mu m L st<=g->NF a m L f st=NF a m L g st:=by
 have pos:∀st,Vs m L st->0<mu m L st:=λst v=>by
  obtain⟨k,hk⟩:=gq _ v.ne;obtain⟨k1,k2⟩:=zf.mp hk;unfold mu;have:((aA (2^m)).map λ_=>0).sum<((aA (2^m)).map λk=>wt L (st.getD k 0)).sum:=Be (λ_ _=>Pj _) ⟨k,Xc.mpr k1,by
   have:=v.bd k k1
   unfold wt;rw[if_neg k2];omega⟩
  omega
 intro f;induction f with
 |zero=>intro g st v h1 h2;have:=pos st v;omega
 |succ f ih =>
  intro g st v h1 h2;cases g with
  |zero=>have:=pos st v;omega
  |succ g =>
   unfold NF;by_cases e:stl a m st=aa
   .rw[if_pos e,if_pos e]
   .rw[if_neg e,if_neg e];congr 2;refine cM λs hs=>?_;have w0:=v.beh hL hs (x:=0) (.inl rfl);have w1:=v.beh hL hs (x:=1) (.inr rfl);rw[ih g _ w0.1 nofun nofun,ih g _ w1.1 nofun nofun]
theorem Np{a:List Int}{m:Nat}{L:Int}{st:List Int}(h:stl a m st=aa):NN a m L st=0:=by
 unfold NN;cases mu m L st with
 |zero=>rfl
 |succ f=>unfold NF;rw[if_pos h]
theorem Ca{a:List Int}{m:Nat}{L:Int}{st:List Int}(hL:0<=L)(v:Vs m L st)(h:stl a m st=a9):NN a m L st=1+Jw ((unl m st).map λs=>max (NN a m L (beh m L st s 0)) (NN a m L (beh m L st s 1))):=by have e:NN a m L st=NF a m L (mu m L st+1) st:=j3b hL _ _ st v (xx _) (Pu _);rw[e];unfold NF;rw[if_neg (by rw[h];exact xf)];congr 2;refine cM λs hs=>?_;have w0:=v.beh hL hs (x:=0) (.inl rfl);have w1:=v.beh hL hs (x:=1) (.inr rfl);unfold NN;rw[j3b hL (mu m L st) _ _ w0.1 nofun (xx _),j3b hL (mu m L st) _ _ w1.1 nofun (xx _)]
section
variable{a:List Int}{m:Nat}{L:Int}
theorem j3a{st:List Int}(hm:m<=3)(ha:a.length=2^m)(h01:∀x∈a,x=0\/x=1)(hL:0<=L)(v:Vs m L st)(h:stl a m st=a9):∃s∈unl m st,NN a m L st=1+max (NN a m L (beh m L st s 0)) (NN a m L (beh m L st s 1)):=by rw[Ca hL v h];obtain⟨s,hs,e⟩:=Xk.mp (Og (ns:=(unl m st).map λs=>max (NN a m L (beh m L st s 0)) (NN a m L (beh m L st s 1))) (by simpa using Ko hm ha h01 h)).1;exact⟨s,hs,by rw[<-e]⟩
theorem j8n{P:List Int->Prop}(h:∀st,Vs m L st->(∀st',Vs m L st'->mu m L st'<mu m L st->P st')->P st):∀st,Vs m L st->P st:=by
 have go:∀n st,Vs m L st->mu m L st<n->P st:=λn=>by
  induction n with
  |zero=>intro st v z;omega
  |succ n ih=>intro st v z;exact h st v λst' v' z'=>ih st' v' nofun
 exact λst v=>go _ st v (bX _)
theorem Nq(hm:m<=3)(ha:a.length=2^m)(h01:∀x∈a,x=0\/x=1)(hL:0<=L):∀st,Vs m L st->0<=NN a m L st :=
 j8n λst v ih=>by
  cases e:stl a m st with
  |true=>rw[Np e];exact dr _
  |false =>obtain⟨s,hs,e2⟩:=j3a hm ha h01 hL v e;have w0:=v.beh hL hs (x:=0) (.inl rfl);have:=ih _ w0.1 w0.2;omega
end
theorem Uu{f:List Int->Int}{k:List Int}:∀{ks:List (List Int)},k∈ks->Q0 ks ((ks.map f).map D.int) k=a8 (.int (f k))
 |[],h=>by cases h
 |k'::ks,h=>by
  show(if k'=k then _ else _)=_;by_cases e:k'=k
  .rw[if_pos e,e]
  .rw[if_neg e];exact Uu ((xu.mp h).resolve_left λz=>e z.symm)
theorem Ed{α:Type}[DecidableEq α]:∀{l S:List α},l.Nodup->(∀x∈l,x∈S)->l.length<=S.length
 |[],_,_,_=>Pj _
 |x::l,S,hn,h=>by have hx:=h x (X3 ..);have:=Ed (l:=l) (S:=S.erase x) (Xn.mp hn).2 λy hy=>(List.mem_erase_of_ne (λ(e:y=x)=>(Xn.mp hn).1 (by rw[<-e];exact hy))).mpr (h y (xm _ hy));rw[List.length_erase_of_mem hx]at this;have:=gP hx;rw[X6];omega
noncomputable def stS:Nat->List (List Int)
 |0=>[[]]
 |n+1=>(stS n).map (-1 :: ·)++(stS n).map (0 :: ·)++(stS n).map (1 :: ·)++(stS n).map (2 :: ·)
theorem j16:∀n,(stS n).length=4^n
 |0=>rfl
 |n+1=>by unfold stS;simp only[Xe,km,j16 n];rw[ff];omega
theorem j1e:∀{n:Nat}{st:List Int},st.length=n->(∀x∈st,-1<=x/\x<=2)->st∈stS n
 |0,[],_,_=>by simp[stS]
 |0,_::_,h,_=>by simp at h
 |n+1,[],h,_=>by simp at h
 |n+1,x::st,h,hx=>by have ih:=j1e (n:=n) (st:=st) (by simpa using h) λy hy=>hx y (xm _ hy);have:=hx x (X3 ..);unfold stS;rcases(show x = -1\/x=0\/x=1\/x=2 by omega)with e|e|e|e<;>subst e<;>simp[ih]
section
variable{a:List Int}{m:Nat}{L:Int}{ws:List aq}
structure Gd(a:List Int)(m:Nat)(L:Int)(B:Nat)(ks ks':List (List Int)):Prop where
 vs:∀k∈ks',Vs m L k
 nd:ks'.Nodup
 sub:∀k∈ks,k∈ks'
 bd:∀k∈ks',k∈ks\/mu m L k<=B
 cl:∀k∈ks',k∈ks\/(stl a m k=a9->∀s∈unl m k,∀x:Int,(x=0\/x=1)->beh m L k s x∈ks')
theorem Gd.trans{B:Nat}{ks ks1 ks2:List (List Int)}(h1:Gd a m L B ks ks1)(h2:Gd a m L B ks1 ks2):Gd a m L B ks ks2 :=
 ⟨h2.vs,h2.nd,λk hk=>h2.sub k (h1.sub k hk),λk hk=>(h2.bd k hk).elim (λz=>h1.bd k z) .inr,λk hk=>(h2.cl k hk).elim (λz=>(h1.cl k z).imp id λq e s hs x hx=>h2.sub _ (q e s hs x hx)) .inr⟩
theorem Gd.mono{B B':Nat}{ks ks1:List (List Int)}(h1:Gd a m L B ks ks1)(h:B<=B'):Gd a m L B' ks ks1:=⟨h1.vs,h1.nd,h1.sub,λk hk=>(h1.bd k hk).imp id λz=>Xh z h,h1.cl⟩
theorem Gd.refl{B:Nat}{ks:List (List Int)}(h1:∀k∈ks,Vs m L k)(h2:ks.Nodup):Gd a m L B ks ks:=⟨h1,h2,λ_ h=>h,λ_ h=>.inl h,λ_ h=>.inl h⟩
theorem j4j(hm:m<=3)(hL:L<=2){ks:List (List Int)}(h1:∀k∈ks,Vs m L k)(h2:ks.Nodup):ks.length<av:=by
 have p8:=Qm hm;have:=Ed (S:=stS (2^m)) h2 λk hk=>j1e (h1 k hk).len λx hx=>by obtain⟨i,hi,e⟩:=i9 hx;have:=(h1 k hk).bd i (by have:=(h1 k hk).len;omega);rw[kj,kh hi,Tn,e]at this;omega
 rw[j16]at this;have:4^(2^m)<=4^8:=Pr (by decide) p8;have e:(4:Nat)^8=65536:=by decide
 rw[cn];omega
theorem Oj{α:Type}{f:D->List (List Int)->List Int->Option (D×List (List Int)×List Int)}{B:Nat}{h r:α->D}{M:α->List (List Int)}:∀(l:List α)(ks:List (List Int)),(∀k∈ks,Vs m L k)->ks.Nodup ->
  (∀x∈l,∀ks,(∀k∈ks,Vs m L k)->ks.Nodup->∃ks',f (h x) ks (ks.map (NN a m L))=a8 (r x,ks',ks'.map (NN a m L))/\Gd a m L B ks ks'/\∀k∈M x,k∈ks') ->
  ∃ks',v7 f (l.map h) ks (ks.map (NN a m L))=a8 (l.map r,ks',ks'.map (NN a m L))/\Gd a m L B ks ks'/\∀x∈l,∀k∈M x,k∈ks'
 |[],ks,h1,h2,_=>⟨ks,rfl,.refl h1 h2,λ_ h=>by cases h⟩
 |x::l,ks,h1,h2,hf=>by
  obtain⟨ks1,e1,g1,m1⟩:=hf x (X3 ..) ks h1 h2;obtain⟨ks2,e2,g2,m2⟩:=Oj l ks1 g1.vs g1.nd λy hy=>hf y (xm _ hy);refine⟨ks2,?_,g1.trans g2,λy hy k hk=>?_⟩
  .rw[X5,X5,v7,e1];dsimp only;rw[e2]
  .rcases xu.mp hy with z|z
   .subst z;exact g2.sub k (m1 k hk)
   .exact m2 y z k hk
theorem Iz{f:Nat->Int}:∀l:List Nat,Y6 (l.map λs=>D.int (f s)) (l.map λ(s:Nat)=>D.int (s:Int))=a8 (l.map λs=>[f s,(s:Int)])
 |[]=>rfl
 |s::l=>by rw[X5,X5,Y6,Iz l];rfl
theorem jd9{f:Nat->Int}{l:List Nat}(hl:l≠[]):∃t∈l,f t=Jw (l.map f)/\((l.map λs=>[f s,(s:Int)])[bf (Jz (l.map λs=>[f s,(s:Int)])) ((l.map λs=>[f s,(s:Int)]).length-1)]?)=a8 [Jw (l.map f),((t:Nat):Int)]:=by
 have h2:∀k∈l.map (λs=>[f s,(s:Int)]),k.length=2:=λk hk=>by obtain⟨s,_,e⟩:=Xk.mp hk;rw[<-e];rfl
 have hp:0<(l.map λs=>[f s,(s:Int)]).length:=by rw[km];exact List.length_pos_iff.mpr hl
 obtain⟨b1,b2⟩:=j0z (l.map λs=>[f s,(s:Int)]) h2 _ (Nat.sub_lt hp Nat.one_pos);generalize bf (Jz (l.map λs=>[f s,(s:Int)])) ((l.map λs=>[f s,(s:Int)]).length-1)=i at b1 b2;rw[km]at b1 b2 hp;have hi:i<l.length:=by omega
 have gt:∀j,j<l.length->(l.map λs=>[f s,(s:Int)]).getD j []=[f (l.getD j 0),((l.getD j 0:Nat):Int)]:=λj hj=>by rw[kj,xq,kj,kh hj];rfl
 have e:Jw (l.map f)=f (l.getD i 0):=by
  have mm:=Og (ns:=l.map f) (by simpa using hl);obtain⟨s,hs,es⟩:=Xk.mp mm.1;obtain⟨j,hj,ej⟩:=i9 hs;have z1:=mm.2 (f (l.getD i 0)) (eG (by rw[kj,kh hi];exact Ph _));have z2:=b2 j nofun
  rw[gt i hi,gt j hj]at z2;have z2:f (l.getD i 0)<=f (l.getD j 0):=z2;rw[kj (l:=l) (i:=j),kh hj,Tn,ej,es]at z2;omega
 refine⟨l.getD i 0,by rw[kj,kh hi];exact Ph _,e.symm,?_⟩;rw[e];have:=gt i hi;rw[kj,kh (by rw[km];exact hi),Tn]at this;rw[kh (by rw[km];exact hi),this]
end
theorem dqN:dq "number_filled_in" = ("#number_filled_in":aq):=by decide +kernel
theorem dqB:dq "best_ask" = ("#best_ask":aq):=by decide +kernel
theorem dqG:dq "greatest_behind" = ("#greatest_behind":aq):=by decide +kernel
theorem Qu{Γ:aq->List D->Rc}{f:aq}{x y z u v:D}:Q3 Γ f (a8 (.a [.e x,.e y,.e z,.e u,.e v]))=rcW (Γ f [x,y,z,u,v]):=Ql rfl
theorem j64{Γ:aq->List D->Rc}{t j:Nat}{it es:Ex}{f:aq}{ks:List (List Int)}{ns:List Int}{ρ:En}:Vi Γ G (.maxc t j it f es) ks ns ρ=Ym (lsD t j (ev Γ G it ρ) ρ) λl ρ3=>M8 (v7 (λd ks ns=>qy Γ f (ev Γ G es (ρ3.set j (.val d))) ks ns) l ks ns):=(rfl)
theorem j63{Γ:aq->List D->Rc}{t j:Nat}{it es:Ex}{f:aq}{ks:List (List Int)}{ns:List Int}{ρ:En}:Vi Γ G (.minc t j it f es) ks ns ρ=Ym (lsD t j (ev Γ G it ρ) ρ) λl ρ3=>Fx l (v7 (λd ks ns=>qy Γ f (ev Γ G es (ρ3.set j (.val d))) ks ns) l ks ns):=(rfl)
theorem Wu{Γ:aq->List D->Rc}{s t:Nat}{c es:Ex}{f:aq}{ks:List (List Int)}{ns:List Int}{ρ:En}:Vi Γ G (.fill s t c f es) ks ns ρ=W5 s t ρ ks ns (ev Γ G c ρ) (qy Γ f (ev Γ G es (ρ.set t (.val (.bl a9)))) ks ns):=(rfl)
theorem j2w{ks ks':List (List Int)}{ns ns':List Int}{d:D}{r:List (List Int)->List Int->Option (D×List (List Int)×List Int)}(h:r ks ns=a8 (d,ks',ns')):dxS (a8 (.val (.dct ks (ns.map D.int)))) r=.ret (.dval d ks' ns'):=by unfold dxS;simp only[v9,h]
theorem Mm{Γ:aq->List D->Rc}{f:aq}{w:Option W}{ks ks':List (List Int)}{ns ns':List Int}{d:D}{rs:List Rk}{ds:List D}(h1:w=a8 (.a rs))(h2:qx rs=a8 ds)(h3:Γ (dq f) (.dct ks (ns.map D.int)::ds)=.dval d ks' ns'):qy Γ f w ks ns=a8 (d,ks',ns'):=by unfold qy;rw[h1];dsimp only;rw[h2];dsimp only;rw[h3]
section
variable{a:List Int}{m:Nat}{L:Int}{ws:List aq}
noncomputable def Ow(a:List Int)(m:Nat)(L:Int)(ks:List (List Int)):D:=.dct ks ((ks.map (NN a m L)).map D.int)
def j39(a:List Int)(m:Nat)(L:Int)(ws:List aq)(X:Nat)(st:List Int):Prop:=∀ks,(∀k∈ks,Vs m L k)->ks.Nodup->∃ks',evP 1000 G T X "#number_filled_in" [Ow a m L ks,j6 st,qD ws a,.int L]=.dval (.int (NN a m L st)) ks' (ks'.map (NN a m L))/\Gd a m L (mu m L st) ks ks'/\st∈ks'
theorem j2u{X s:Nat}{st:List Int}(hw:ws.length=m)(hm:1<=m/\m<=3)(hL:0<=L/\L<=2)(v:Vs m L st)(hs:s∈unl m st)(ih:∀st',Vs m L st'->mu m L st'<mu m L st->j39 a m L ws (X+4) st')(ks:List (List Int))(h1:∀k∈ks,Vs m L k)(h2:ks.Nodup) :
  ∃ks',evP 1000 G T (X+5) "#greatest_behind" [Ow a m L ks,j6 st,.int s,qD ws a,.int L]=.dval (.int (max (NN a m L (beh m L st s 0)) (NN a m L (beh m L st s 1)))) ks' (ks'.map (NN a m L))/\Gd a m L (mu m L st-1) ks ks'/\∀x:Int,(x=0\/x=1)->beh m L st s x∈ks':=by
 have hsm:=(Z6.mp hs).1;have sb:=λx:Int=>Rx (n:=X) (ws:=ws) (a:=a) (x:=x) (L:=L) hw hm v.len hsm;have w:=λ(x:Int) hx=>v.beh hL.1 hs (x:=x) hx;obtain⟨ks',e1,g1,m1⟩:=Oj (a:=a) (m:=m) (L:=L) (M:=λx:Int=>[beh m L st s x]) (f:=λd ks ns=>qy (evP 1000 G T (X+4)) "number_filled_in" (ev (evP 1000 G T (X+4)) G (.cons (.var 7) (.cons (.var 3) (.cons (.var 4) .nil))) (([.exc rfN,.val (j6 st),.val (.int s),.val (qD ws a),.val (.int L),.val (.lst [j6 (beh m L st s 0),j6 (beh m L st s 1)]),.un,.un]:En).set 7 (.val d))) ks ns)
  (B:=mu m L st-1) (h:=λx:Int=>j6 (beh m L st s x)) (r:=λx:Int=>D.int (NN a m L (beh m L st s x))) [0,1] ks h1 h2 (λx hx ks h1 h2=>by
   have hx:x=0\/x=1:=by simpa using hx
   obtain⟨ks',e,g,hin⟩:=ih _ (w x hx).1 (w x hx).2 ks h1 h2
   refine⟨ks',Mm (rs:=[.e (j6 (beh m L st s x)),.e (qD ws a),.e (.int L)]) (ds:=[j6 (beh m L st s x),qD ws a,.int L]) (by simp only[Xx,Xw];ext) (by rfl) (by rw[dqN];exact e),g.mono (by have:=(w x hx).2;omega),λk hk=>by rw[xj.mp hk];exact hin⟩)
 refine⟨ks',?_,g1,λx hx=>m1 x (by rcases hx with z|z<;>subst z<;>simp) _ (by simp)⟩;rw[jq (F:=Qd) (by rfl) rfl];simp only[Qd,Vh,enter,Ow,Ij];have hit:ev (evP 1000 G T (X+4)) G (.comp [6] (.call "state_behind" (.cons (.var 1) (.cons (.var 2) (.cons (.var 6) (.cons (.var 3) (.cons (.var 4) .nil)))))) (.seq (.glob "ANSWERS")) .nil) [.exc rfN,.val (j6 st),.val (.int s),.val (qD ws a),.val (.int L),.un,.un,.un]=a8 (.v (.o [j6 (beh m L st s 0),j6 (beh m L st s 1)])):=by
  ext;simp only[gA];ext;rw[qp (l:=[j6 (beh m L st s 0),j6 (beh m L st s 1)]) (by rfl) (by decide) ?_ (.inl rfl)];have:∀x:Int,Jh [6] (ev (evP 1000 G T (X+4)) G .nil) (ev (evP 1000 G T (X+4)) G (.call "state_behind" (.cons (.var 1) (.cons (.var 2) (.cons (.var 6) (.cons (.var 3) (.cons (.var 4) .nil))))))) [.exc rfN,.val (j6 st),.val (.int s),.val (qD ws a),.val (.int L),.un,.un,.un] (.int x)=a8 (a8 (j6 (beh m L st s x))):=λx=>by refine v6 (by ext) ?_;ext;rw[Qu,sb];ext
  have z:=q8 (f:=Jh [6] (ev (evP 1000 G T (X+4)) G .nil) (ev (evP 1000 G T (X+4)) G (.call "state_behind" (.cons (.var 1) (.cons (.var 2) (.cons (.var 6) (.cons (.var 3) (.cons (.var 4) .nil))))))) [.exc rfN,.val (j6 st),.val (.int s),.val (qD ws a),.val (.int L),.un,.un,.un]) (h:=λx:Int=>D.int x) (g:=λx:Int=>j6 (beh m L st s x)) (L:=[0,1]) λx _=>this x;exact z
 show fin (dxS (a8 (.val (.dct ks ((ks.map (NN a m L)).map D.int)))) λks ns=>Vi (evP 1000 G T (X+4)) G (.maxc 5 7 (.comp [6] (.call "state_behind" (.cons (.var 1) (.cons (.var 2) (.cons (.var 6) (.cons (.var 3) (.cons (.var 4) .nil)))))) (.seq (.glob "ANSWERS")) .nil) "number_filled_in" (.cons (.var 7) (.cons (.var 3) (.cons (.var 4) .nil)))) ks ns [.exc rfN,.val (j6 st),.val (.int s),.val (qD ws a),.val (.int L),.un,.un,.un])=_;rw[j2w (d:=.int (max (NN a m L (beh m L st s 0)) (NN a m L (beh m L st s 1)))) (ks':=ks') (ns':=ks'.map (NN a m L))]
 .rfl
 .rw[j64,hit];have e3:lsD 5 7 (a8 (.v (.o [j6 (beh m L st s 0),j6 (beh m L st s 1)]))) [.exc rfN,.val (j6 st),.val (.int s),.val (qD ws a),.val (.int L),.un,.un,.un]=a8 ([j6 (beh m L st s 0),j6 (beh m L st s 1)],[.exc rfN,.val (j6 st),.val (.int s),.val (qD ws a),.val (.int L),.val (.lst [j6 (beh m L st s 0),j6 (beh m L st s 1)]),.un,.un]):=by unfold lsD;dsimp only;rw[if_pos ⟨by simp,by decide,by decide,by decide,by rfl,by simp⟩];rfl
  rw[e3];unfold Ym;dsimp only;have e1':=e1;simp only[X5,bT]at e1';rw[e1'];unfold M8;dsimp only;rw[show intsOf [D.int (NN a m L (beh m L st s 0)),D.int (NN a m L (beh m L st s 1))]=a8 [NN a m L (beh m L st s 0),NN a m L (beh m L st s 1)]from rfl];dsimp only;rw[if_pos (by simp),max2]
theorem Lp{X:Nat}{st:List Int}(hw:ws.length=m)(hm:1<=m/\m<=3)(ha:a.length=2^m)(h01:∀x∈a,x=0\/x=1)(hL:0<=L/\L<=2)(v:Vs m L st)(hn:stl a m st=a9)(ih:∀st',Vs m L st'->mu m L st'<mu m L st->j39 a m L ws (X+4) st')(ks:List (List Int))(h1:∀k∈ks,Vs m L k)(h2:ks.Nodup) :
  ∃ks' t,t∈unl m st/\max (NN a m L (beh m L st t 0)) (NN a m L (beh m L st t 1))=Jw ((unl m st).map λs=>max (NN a m L (beh m L st s 0)) (NN a m L (beh m L st s 1)))/\evP 1000 G T (X+6) "#best_ask" [Ow a m L ks,j6 st,qD ws a,.int L]=.dval (.tup [.int (Jw ((unl m st).map λs=>max (NN a m L (beh m L st s 0)) (NN a m L (beh m L st s 1)))),.int ((t:Nat):Int)]) ks' (ks'.map (NN a m L))/\Gd a m L (mu m L st-1) ks ks'/\∀s∈unl m st,∀x:Int,(x=0\/x=1)->beh m L st s x∈ks':=by
 have ul:(unl m st).length<=3:=by unfold unl;refine Xh (Td ..) ?_;rw[Xf];exact hm.2
 obtain⟨ks',e1,g1,m1⟩:=Oj (a:=a) (m:=m) (L:=L) (M:=λs:Nat=>[beh m L st s 0,beh m L st s 1]) (f:=λd ks ns=>qy (evP 1000 G T (X+5)) "greatest_behind" (ev (evP 1000 G T (X+5)) G (.cons (.var 1) (.cons (.var 5) (.cons (.var 2) (.cons (.var 3) .nil)))) (([.exc rfN,.val (j6 st),.val (qD ws a),.val (.int L),.val (.lst ((unl m st).map λ(s:Nat)=>D.int (s:Int))),.un]:En).set 5 (.val d))) ks ns)
  (B:=mu m L st-1) (h:=λs:Nat=>D.int (s:Int)) (r:=λs:Nat=>D.int (max (NN a m L (beh m L st s 0)) (NN a m L (beh m L st s 1)))) (unl m st) ks h1 h2 (λs hs ks h1 h2=>by
   obtain⟨ks',e,g,mm⟩:=j2u hw hm hL v hs ih ks h1 h2
   refine⟨ks',Mm (rs:=[.e (j6 st),.e (.int (s:Int)),.e (qD ws a),.e (.int L)]) (ds:=[j6 st,.int (s:Int),qD ws a,.int L]) (by simp only[Xx,Xw];ext) (by rfl) (by rw[dqG];exact e),g,λk hk=>by
    rcases xu.mp hk with z|z
    .rw[z];exact mm 0 (.inl rfl)
    .rw[xj.mp z];exact mm 1 (.inr rfl)⟩)
 obtain⟨t,ht,et0,et⟩:=jd9 (f:=λs:Nat=>max (NN a m L (beh m L st s 0)) (NN a m L (beh m L st s 1))) (Ko hm.2 ha h01 hn);refine⟨ks',t,ht,et0,?_,g1,λs hs x hx=>m1 s hs _ (by rcases hx with z|z<;>subst z<;>simp)⟩;rw[jq (F:=U8) (by rfl) rfl];simp only[U8,O3,enter,Ow,Ij];have hit:ev (evP 1000 G T (X+5)) G (.call "spots_unlike" (.cons (.call "rows_of_state" (.cons (.var 1) (.cons (.var 2) .nil))) .nil)) [.exc rfN,.val (j6 st),.val (qD ws a),.val (.int L),.un,.un]=a8 (.v (.o ((unl m st).map λ(s:Nat)=>D.int (s:Int)))):=by ext;erw[Rh (n:=X+1) hw hm v.len,Km (n:=X+4) hm v.ne]
 show fin (dxS (a8 (.val (.dct ks ((ks.map (NN a m L)).map D.int)))) λks ns=>Vi (evP 1000 G T (X+5)) G (.minc 4 5 (.call "spots_unlike" (.cons (.call "rows_of_state" (.cons (.var 1) (.cons (.var 2) .nil))) .nil)) "greatest_behind" (.cons (.var 1) (.cons (.var 5) (.cons (.var 2) (.cons (.var 3) .nil))))) ks ns [.exc rfN,.val (j6 st),.val (qD ws a),.val (.int L),.un,.un])=_;rw[j2w (d:=.tup [.int (Jw ((unl m st).map λs=>max (NN a m L (beh m L st s 0)) (NN a m L (beh m L st s 1)))),.int ((t:Nat):Int)]) (ks':=ks') (ns':=ks'.map (NN a m L))]
 .rfl
 .rw[j63,hit];have e3:lsD 4 5 (a8 (.v (.o ((unl m st).map λ(s:Nat)=>D.int (s:Int))))) [.exc rfN,.val (j6 st),.val (qD ws a),.val (.int L),.un,.un]=a8 ((unl m st).map λ(s:Nat)=>D.int (s:Int),[.exc rfN,.val (j6 st),.val (qD ws a),.val (.int L),.val (.lst ((unl m st).map λ(s:Nat)=>D.int (s:Int))),.un]):=by unfold lsD;dsimp only;rw[if_pos ⟨by rw[km];omega,by decide,by decide,by decide,by rfl,by simp⟩];rfl
  rw[e3];unfold Ym;dsimp only;rw[e1];unfold Fx;dsimp only;rw[Iz];dsimp only;rw[et];rfl
theorem j4b{st:List Int}(v:Vs m L st):0<mu m L st:=by
 obtain⟨k,hk⟩:=gq _ v.ne;obtain⟨k1,k2⟩:=zf.mp hk;unfold mu;have:((aA (2^m)).map λ_=>0).sum<((aA (2^m)).map λk=>wt L (st.getD k 0)).sum:=Be (λ_ _=>Pj _) ⟨k,Xc.mpr k1,by
  have:=v.bd k k1
  unfold wt;rw[if_neg k2];omega⟩
 omega
theorem Ea(hw:ws.length=m)(hm:1<=m/\m<=3)(ha:a.length=2^m)(h01:∀x∈a,x=0\/x=1)(hL:0<=L/\L<=2):∀(f n:Nat)(st:List Int),Vs m L st->mu m L st<=f->j39 a m L ws (3*f+4+n) st:=by
 intro f;induction f with
 |zero=>intro n st v h;have:=j4b v;omega
 |succ f ih =>
  intro n st v hf ks h1 h2;have lv:3*(f+1)+4+n=(3*f+n+6)+1:=by omega
  rw[lv];have es:evP 1000 G T (3*f+n+6) "is_settled" [j6 st,qD ws a]=.val (.bl (stl a m st)):=K4 (n:=3*f+n+1) hw hm ha h01 v.len v.ne;have key:∀ks',(Vi (evP 1000 G T (3*f+n+6)) G (.fill 1 4 (.call "is_settled" (.cons (.var 1) (.cons (.var 2) .nil))) "best_ask" (.cons (.var 1) (.cons (.var 2) (.cons (.var 3) .nil)))) ks (ks.map (NN a m L)) [.exc rfN,.val (j6 st),.val (qD ws a),.val (.int L),.un]=a8 (.int (NN a m L st),ks',ks'.map (NN a m L))) ->
    evP 1000 G T (3*f+n+6+1) "#number_filled_in" [Ow a m L ks,j6 st,qD ws a,.int L]=.dval (.int (NN a m L st)) ks' (ks'.map (NN a m L)):=λks' h=>by
   rw[jq (F:=Jy) (by rfl) rfl];simp only[Jy,Zq,enter,Ow,Ij];show fin (dxS (a8 (.val (.dct ks ((ks.map (NN a m L)).map D.int)))) λks ns=>Vi (evP 1000 G T (3*f+n+6)) G (.fill 1 4 (.call "is_settled" (.cons (.var 1) (.cons (.var 2) .nil))) "best_ask" (.cons (.var 1) (.cons (.var 2) (.cons (.var 3) .nil)))) ks ns [.exc rfN,.val (j6 st),.val (qD ws a),.val (.int L),.un])=_;rw[j2w h];rfl
  have hc:ev (evP 1000 G T (3*f+n+6)) G (.call "is_settled" (.cons (.var 1) (.cons (.var 2) .nil))) [.exc rfN,.val (j6 st),.val (qD ws a),.val (.int L),.un]=a8 (.v (.e (.bl (stl a m st)))):=by ext;rw[es];ext
  by_cases hin:st∈ks
  .refine⟨ks,key ks ?_,.refl h1 h2,hin⟩;rw[Wu];unfold W5;rw[show([.exc rfN,.val (j6 st),.val (qD ws a),.val (.int L),.un]:En)[1]?=a8 (.val (.tup (st.map D.int)))from rfl];dsimp only;rw[v9];dsimp only;rw[if_pos ⟨by simp,by decide,by decide⟩,if_pos (by rw[Xr];exact hin),Uu hin];rfl
  .have hcn:ks.contains st=a9:=by
    cases z:ks.contains st with
    |false=>rfl
    |true=>exact absurd (Xr.mp z) hin
   have app:∀ks1,Gd a m L (mu m L st-1) ks ks1->(stl a m st=a9->∀s∈unl m st,∀x:Int,(x=0\/x=1)->beh m L st s x∈ks1)->st∉ks1/\Gd a m L (mu m L st) ks (ks1++[st])/\st∈ks1++[st]:=λks1 g cl=>by
    have nin:st∉ks1:=λz=>by
     rcases g.bd st z with q|q
     .exact hin q
     .have:=j4b v;omega
    refine⟨nin,⟨λk hk=>?_,?_,λk hk=>Xu _ (g.sub k hk),λk hk=>?_,λk hk=>?_⟩,by simp⟩
    .rcases Pk.mp hk with z|z
     .exact g.vs k z
     .rw[xj.mp z];exact v
    .exact List.nodup_append.mpr ⟨g.nd,by simp,λx hx y hy e=>nin (by rw[xj.mp hy]at e;rw[<-e];exact hx)⟩
    .rcases Pk.mp hk with z|z
     .exact(g.bd k z).imp id λq=>by omega
     .rw[xj.mp z];exact .inr (xx _)
    .rcases Pk.mp hk with z|z
     .exact(g.cl k z).imp id λq e s hs x hx=>Xu _ (q e s hs x hx)
     .rw[xj.mp z];exact .inr λe s hs x hx=>Xu _ (cl e s hs x hx)
   cases hs:stl a m st with
   |true =>obtain⟨n1,g1,m1⟩:=app ks (.refl h1 h2) (λe=>by rw[hs]at e;cases e);refine⟨ks++[st],key _ ?_,g1,m1⟩;rw[Wu,hc];unfold W5;rw[show([.exc rfN,.val (j6 st),.val (qD ws a),.val (.int L),.un]:En)[1]?=a8 (.val (.tup (st.map D.int)))from rfl];dsimp only;rw[v9];dsimp only;rw[if_pos ⟨by simp,by decide,by decide⟩,if_neg (by rw[hcn];exact xf),hs];simp only[Rk.st];rw[if_pos (j4j hm.2 hL.2 h1 h2),Np hs,Xl,Tf,Np hs]
   |false =>
    obtain⟨ks1,t,_,_,e1,g,mm⟩:=Lp hw hm ha h01 hL v hs (X:=3*f+n) (λst' v' hlt=>by
     have:=ih n st' v' nofun
     rwa [show 3*f+4+n=3*f+n+4 by omega]at this) ks h1 h2
    obtain⟨n1,g1,m1⟩:=app ks1 g λ_=>mm;have hc1:ks1.contains st=a9:=by
     cases z:ks1.contains st with
     |false=>rfl
     |true=>exact absurd (Xr.mp z) n1
    refine⟨ks1++[st],key _ ?_,g1,m1⟩;have ecl:qy (evP 1000 G T (3*f+n+6)) "best_ask" (ev (evP 1000 G T (3*f+n+6)) G (.cons (.var 1) (.cons (.var 2) (.cons (.var 3) .nil))) (([.exc rfN,.val (j6 st),.val (qD ws a),.val (.int L),.un]:En).set 4 (.val (.bl a9)))) ks (ks.map (NN a m L))=a8 (.tup [.int (Jw ((unl m st).map λs=>max (NN a m L (beh m L st s 0)) (NN a m L (beh m L st s 1)))),.int ((t:Nat):Int)],ks1,ks1.map (NN a m L)) :=
     Mm (rs:=[.e (j6 st),.e (qD ws a),.e (.int L)]) (ds:=[j6 st,qD ws a,.int L]) (by simp only[Xx,Xw];ext) (by rfl) (by rw[dqB];exact e1)
    rw[Wu,hc,ecl];unfold W5;rw[show([.exc rfN,.val (j6 st),.val (qD ws a),.val (.int L),.un]:En)[1]?=a8 (.val (.tup (st.map D.int)))from rfl];dsimp only;rw[v9];dsimp only;rw[if_pos ⟨by simp,by decide,by decide⟩,if_neg (by rw[hcn];exact xf),hs];simp only[Rk.st];rw[if_pos ⟨hc1,j4j hm.2 hL.2 g.vs g.nd⟩,Xl,Tf,Ca hL.1 v hs]
end
theorem gFL:G "FEWEST_LIES" = a8 (.int 0):=by rfl
theorem gML:G "MOST_LIES" = a8 (.int 2):=by rfl
theorem gMP:G "MOST_PLACES_WITH_LIES" = a8 (.int 3):=by rfl
theorem j1f {n m:Nat} {ws:List aq} {a:List Int} {L:Int} (hw:ws.length=m) (hm:m<=3) (hL:0<=L/\L<=2):evP 1000 G T (n+1) "refuse_wrong_lies" [qD ws a,.int L]=.val .non:=by rw[jq (F:=Jk) (by rfl) rfl];simp only[Jk,vg,enter,qD];ext;simp only[gFL];ext;simp only[gML];ext;rw[at0];ext;simp only[gMP];ext
theorem ones:∀m:Fin 4,au m.val (1:Int)=jk 2 m.val (((2^m.val-1:Nat)):Int):=by decide +kernel
theorem j04 {n m:Nat} (hm:1<=m/\m<=3):evP 1000 G T (n+3) "count_of_rows" [.int m]=.val (.int ((2^m:Nat):Int)):=by
 have p1:1<=2^m:=Pr (n:=2) (by decide) (Pj m);have pc:((2^m:Nat):Int)=(2:Int)^m:=by simp
 have rn:evP 1000 G T (n+2) "row_number" [j6 (au m 1)]=.val (.int (((2^m-1:Nat)):Int)):=by have e:au m (1:Int)=jk 2 m (((2^m-1:Nat)):Int):=ones ⟨m,by omega⟩;rw[e];exact Cg (n:=n) nofun nofun
 rw[jq (F:=Z4) (by rfl) rfl];simp only[Z4,Jo,enter];ext;rw[Xd];simp only[j6,Te]at rn;rw[rn];ext;rw[show(((2^m-1:Nat)):Int)+1=((2^m:Nat):Int)by omega]
noncomputable def st0(m:Nat):List Int:=au (2^m) 0
theorem j26 {n m:Nat} {ws:List aq} {a:List Int} {L:Int} (hw:ws.length=m) (hm:1<=m/\m<=3) (hL:0<=L/\L<=2):evP 1000 G T (n+4) "state_told" [qD ws a,.int L,.lst []]=.val (j6 (st0 m)):=by have lo:=j1f (n:=n+2) (a:=a) hw hm.2 hL;have cs:=j04 (n:=n) hm;have p8:=Qm hm.2;have p1:1<=2^m:=Pr (n:=2) (by decide) (Pj m);rw[jq (F:=Js) (by rfl) rfl];simp only[Js,Jt,enter,qD]at lo ⊢;ext;erw[lo,at0];rw[hw,cs];ext;rw[Xd];simp only[j6,st0,Te];ext;simp only[zx];ext
theorem Uj{m k:Nat}(hk:k<2^m):(st0 m).getD k 0=0:=by unfold st0;rw[kj,gH,if_pos hk];rfl
theorem jiv{m:Nat}:lft m (st0 m)=aA (2^m):=by unfold lft;refine List.filter_eq_self.mpr λk hk=>?_;rw[Uj (Xc.mp hk)];rfl
theorem vs0{m:Nat}{L:Int}(hL:0<=L):Vs m L (st0 m) :=
 ⟨Tc ..,λk hk=>by rw[Uj hk];omega,λz=>by
  rw[jiv]at z
  have:=congrArg fJ z
  rw[Xf]at this
  have:0<2^m:=Nat.pow_pos (by decide)
  simp only[T3]at *
  omega⟩
theorem mu0{m:Nat}{L:Int}(hm:m<=3)(hL:0<=L/\L<=2):mu m L (st0 m)<=24:=by
 unfold mu;have h1:((aA (2^m)).map λk=>wt L ((st0 m).getD k 0)).sum<=((aA (2^m)).map λ_=>3).sum:=Bg λk hk=>by rw[Uj (Xc.mp hk)];unfold wt;rw[if_neg (by decide)];omega
 have h2:((aA (2^m)).map λ_=>3).sum=2^m*3:=by rw[ja,Xf,gN]
 have:=Qm hm;omega
theorem j27 {n m:Nat} {ws:List aq} {a:List Int} {L:Int} (hw:ws.length=m) (hm:1<=m/\m<=3) (ha:a.length=2^m) (h01:∀x∈a,x=0\/x=1) (hL:0<=L/\L<=2):∃ks,st0 m∈ks/\(∀k∈ks,Vs m L k)/\(∀k∈ks,stl a m k=a9->∀s∈unl m k,∀x:Int,(x=0\/x=1)->beh m L k s x∈ks)/\evP 1000 G T (n+77) "lie_table" [qD ws a,.int L]=.val (.dct ks ((ks.map (NN a m L)).map D.int)):=by
 obtain⟨ks,e,gd,hin⟩:=Ea (ws:=ws) hw hm ha h01 hL 24 n (st0 m) (vs0 hL.1) (mu0 hm.2 hL) [] (λ_ h=>by cases h) cV;have e:evP 1000 G T (n+76) "#number_filled_in" [.dct [] (([]:List Int).map D.int),j6 (st0 m),qD ws a,.int L]=.dval (.int (NN a m L (st0 m))) ks (ks.map (NN a m L)):=by rw[show 3*24+4+n=n+76 by omega]at e;exact e
 have t0:=j26 (n:=n+72) (a:=a) hw hm hL;refine⟨ks,hin,gd.vs,λk hk=>(gd.cl k hk).resolve_left (by simp),?_⟩;rw[jq (F:=Yc) (by rfl) rfl];simp only[Yc,Zj,enter,j17];rw[Mm (rs:=[.e (j6 (st0 m)),.e (qD ws a),.e (.int L)]) (ds:=[j6 (st0 m),qD ws a,.int L]) ?_ (by rfl) (by rw[dqN];exact e)]
 .rfl
 .simp only[au,fv,fK,X5,bT,Xx,Xw];ext;have t0:evP 1000 G T (n+76) "state_told" [qD ws a,.int L,.lst []]=.val (j6 (st0 m)):=t0;rw[Ql (l:=[qD ws a,.int L,.lst []]) rfl,t0];ext
theorem j0s{f:D->En->So}{ds:List D}{ρ:En}{g:En->So}{Q:Rc->Prop}(W:Nat->En->Prop)(h0:W 0 ρ)(hs:∀i d ρ,ds[i]?=a8 d->W i ρ->∃ρ',f d ρ=.next ρ'/\W (i+1) ρ')(hk:∀ρ',W ds.length ρ'->Q (fin (g ρ'))):Q (fin (Wt (zx f ds ρ) g)):=by
 obtain⟨ρ',e,w⟩:=Vb (f:=f) W (k:=0) (ds:=ds) (ρ:=ρ) h0 λi d ρ hi w=>by rw[T8]at w ⊢;exact hs i d ρ hi w
 rw[e];rw[T8]at w;exact hk ρ' w
theorem j4w:∀(ts acc:List aq),acc.Nodup->(ts.foldl ddS acc).length=acc.length+ts.length->(acc++ts).Nodup
 |[],acc,hn,_=>by rw[Xq];exact hn
 |v::ts,acc,hn,h=>by
  rw[T7,X6]at h;have hl:=Ng ts (ddS acc v);by_cases e:acc.any (· == v)=aa
  .have ed:ddS acc v=acc:=if_pos e;rw[ed]at hl h;omega
  .have ed:ddS acc v=acc++[v]:=if_neg e;rw[ed]at h;have nv:v∉acc:=λz=>e (List.any_eq_true.mpr ⟨v,z,beq_self_eq_true v⟩);have:=j4w ts (acc++[v]) (by
    rw[List.nodup_append]
    exact⟨hn,by simp,λx hx y hy=>by rw[xj.mp hy];exact λz=>nv (z▸hx)⟩) (by rw[h,Xe,Tq];omega)
   rw[Ti]at this;exact this
theorem j7e{ns:List aq}(h:(dd ns).length=ns.length):ns.Nodup:=j4w ns [] cV (by rw[show([]:List aq).length=0 from rfl,T8];exact h)
theorem j5l {n m:Nat} {c:Int} (hm:1<=m/\m<=6):∃ws:List aq,(ws.Nodup/\ws.length=m)/\evP 1000 G T (n+1) "_law_words" [.int c,.int m]=.fresh (ws.map D.str):=by
 rw[jq (F:=Om) (by rfl) rfl];simp only[Om,Wd,enter];have ll:=jgw;have tot:∀k:Bool,((m:Int)*(if k then 1 else 0)).toNat=if k then m else 0:=λk=>by cases k<;>simp
 ext;simp only[j06];ext;obtain⟨k,ek⟩:∃k:Bool,decide ((1000000000000000000:Int)<=c)=k:=⟨_,rfl⟩
 rw[ek];have kb:-4611686018427387904<=(m:Int)*(if k then 1 else 0)/\(m:Int)*(if k then 1 else 0)<4611686018427387904:=by cases k<;>simp<;>omega
 ext;rw[tot];refine j0s (Q:=λr=>∃ws:List aq,(ws.Nodup/\ws.length=m)/\r=.fresh (ws.map D.str)) (λi ρ=>∃(ns:List aq)(r:Int)(s5 s6 s7 s8:Sv),ns.length=i/\ρ=[.val (.int c),.val (.int m),.val (.str "mdkbvqhzcgrnapxolsiefwtyju"),.own (ns.map D.str),.val (.int r),s5,s6,s7,s8,.un,.un,.un,.un]) ⟨[],c,.un,.un,.un,.un,rfl,rfl⟩ ?_ ?_
 .rintro i d ρ hi ⟨ns,r,s5,s6,s7,s8,hl,rfl⟩;have hi2:i<7:=by have:=(xr.mp hi).1;rw[qj]at this;cases k<;>simp at this<;>omega
  simp only[J4];ext;refine Ws (λj ρ=>∃(x:List Nat)(r2:Int)(s8:Sv),x.length=j/\ρ=[.val (.int c),.val (.int m),.val (.str "mdkbvqhzcgrnapxolsiefwtyju"),.own (ns.map D.str),.val (.int r2),.val d,.val (.int (1+r%8)),.val (.str (sL x)),s8,.un,.un,.un,.un]) ⟨[],r/8,s8,rfl,rfl⟩ ?_ ?_
  .rintro j e ρ hj ⟨x,r2,s8',hx,rfl⟩;have hj2:j<8:=by have:=(xr.mp hj).1;rw[qj]at this;omega
   have lx:(sL x).length=j:=by rw[J5,hx]
   simp only[J4];ext;rw[Ka nofun];ext;have l1:(⟨#[lt (r2%26)]⟩:aq).length=1:=rfl;ext;refine⟨_,rfl,x++[lt (r2%26)],r2/26,.val e,by simp[hx],?_⟩;rw[show(⟨#[lt (r2%26)]⟩:aq)=sL [lt (r2%26)]from rfl,Yp]
  .rintro ρ2 ⟨x,r2,s8',hx,rfl⟩;ext;refine⟨_,rfl,ns++[sL x],r2,.val d,.val (.int (1+r%8)),.val (.str (sL x)),s8',by simp[hl],?_⟩;rw[Xl];rfl
 rintro ρ' ⟨ns,r,s5,s6,s7,s8,hl,rfl⟩;rw[qj]at hl;have nl:ns.length<=6:=by rw[hl];split<;>omega
 ext;rw[jaf nofun];by_cases hd:((dd ns).length:Int)=(m:Int)
 .have lm:ns.length=m:=by
   cases k with
   |true=>simpa using hl
   |false =>have:ns=[]:=List.eq_nil_of_length_eq_zero (by simpa using hl);subst this;have z:(dd []).length=0:=rfl;rw[z]at hd;omega
  ext;exact⟨ns,⟨j7e nofun,lm⟩,rfl⟩
 refine⟨Q6 c m,⟨Kl hm.2,Lr _ _⟩,?_⟩;by_cases h:c%4<2
 .ext;rw[qp (l:=((Vu c).map λx=>(⟨#[x]⟩:aq)).map D.str) (by rfl) (by rw[qj];decide) ?_ (.inl rfl)];rotate_left
  .rw[Z0,Vu,Xg,Xg];refine q8 λk hk'=>v6 (by ext) ?_;have hk:=Xc.mp hk';ext;rw[Ka nofun];ext;simp
  rw[j1h (Wz (by rw[Qa];decide)),Bv];have st:=j85 (c:=c) hm.2;obtain⟨s,hs⟩:∃s:Nat,s=stN c m:=⟨_,rfl⟩
  have es:c/8%(9-(m:Int))=(s:Int):=by rw[hs];unfold stN;have:=Pg (c/8) (show(9-(m:Int))≠0 by omega);omega
  have lg:(sL (Vu c)).length=8:=by rw[J5,Qa]
  by_cases h0:c%4=0
  .ext;rw[es,qp (l:=(Q6 c m).map D.str) (by rfl) (by rw[qj];omega) ?_ (.inl rfl)]
   .ext
   .rw[Xd,Z0,Q6,Xg];refine q8 λk hk'=>v6 (by ext) ?_;have hk:=Xc.mp hk';ext;have e:(s:Int)+(0+(k:Int))+1=((s+k+1:Nat):Int):=by omega
    have hh:wrd c m k=(Vu c).take (stN c m+k+1):=by unfold wrd;rw[if_pos h,if_pos h0]
    rw[e,Bk (by rw[Qa];omega)];simp only[bU,hh,hs]
  .ext;rw[es,qp (l:=(Q6 c m).map D.str) (by rfl) (by rw[qj];omega) ?_ (.inl rfl)]
   .ext
   .rw[Xd,Z0,Q6,Xg];refine q8 λk hk'=>v6 (by ext) ?_;have hk:=Xc.mp hk';ext;have e:8-(s:Int)-(0+(k:Int))-1=((8-s-k-1:Nat):Int):=by omega
    have hh:wrd c m k=(Vu c).drop (8-stN c m-k-1):=by unfold wrd;rw[if_pos h,if_neg h0]
    rw[e,Bl (by rw[Qa];omega)];simp only[bU,hh,hs]
 .have a:=j8p c;obtain⟨s,hs⟩:∃s:Nat,s=szN c:=⟨_,rfl⟩
  have es:c/4%8=(s:Int):=by rw[hs];unfold szN;omega
  obtain⟨q,hq⟩:∃q:Nat,q=atN c:=⟨_,rfl⟩
  have eq:c/512%((s:Int)+1)=(q:Int):=by rw[hq];unfold atN;have:=Pg (c/512) (show((s:Int)+1)≠0 by omega);rw[<-hs];omega
  ext;rw[es,qp (l:=((V1 c s).map λx=>(⟨#[x]⟩:aq)).map D.str) (by rfl) (by rw[qj];omega) ?_ (.inl rfl)];rotate_left
  .rw[Xd,Z0,V1,Xg,Xg];refine q8 λk hk'=>v6 (by ext) ?_;have hk:=Xc.mp hk';ext;rw[Ka nofun];ext;simp
  rw[j1h (Wz (by rw[v4];omega)),Bv];have lg:(sL (V1 c s)).length=s:=by rw[J5,v4]
  ext;rw[eq,qp (l:=(Q6 c m).map D.str) (by rfl) (by rw[qj];omega) ?_ (.inl rfl)]
  .ext
  .rw[Xd,Z0,Q6,Xg];refine q8 λk hk'=>v6 (by ext) ?_;have hk:=Xc.mp hk';ext;rw[Ka nofun];ext;rw[Bk (by rw[v4];omega),Bl (by rw[v4];omega)];have e1:(⟨#[lt ((c/9+7*(0+(k:Int)))%26)]⟩:aq)=sL [lt ((c/9+7*(0+(k:Int)))%26)]:=rfl;have l1:(sL ((V1 c s).take q)).length=q:=by rw[J5,Xp,v4];omega
   have l2:(sL ((V1 c s).drop q)).length=s-q:=by rw[J5,Tj,v4]
   have l3:(sL [lt ((c/9+7*(0+(k:Int)))%26)]).length=1:=rfl;have l4:(sL ((V1 c s).take q)++sL [lt ((c/9+7*(0+(k:Int)))%26)]).length=q+1:=by rw[Yp,J5,Xe,Xp,v4,X6,T3];omega
   rw[e1];ext;rw[Yp,Yp];simp only[bU,wrd,h,if_false,<-hs,<-hq,Ti,List.singleton_append,gY]
noncomputable def Yk(n:Nat)(ns:List Int)(a most:Nat):List Int :=
 (aA (2^Zd ns a most)).map λ(k:Nat)=>if decide ((1000000000000000000:Int)<=jl ns (a+2))=aa then jl ns (a+2)/(1*2^(0+(k:Int)).toNat)%2 else Ox 1000 G T n (jk 2 (Zd ns a most) (0+(k:Int))) (jl ns a/(most:Int)%5) (jl ns (a+2))
theorem jbh{n:Nat}{ns:List Int}{a most:Nat}(hm:1<=most/\most<=6):∀x∈Yk n ns a most,x=0\/x=1:=by
 intro x hx;obtain⟨k,_,rfl⟩:=Xk.mp hx;have mb:=Fy (ns:=ns) (a:=a) hm;split
 .omega
 .exact(j0g je2 (j8m _ _) (by rw[zm];omega)).1
theorem p2n{k:Nat}(h:k<64):0<(2:Int)^k/\(2:Int)^k<18446744073709551616:=by
 refine⟨fO (by decide),?_⟩;have h1:2^k<2^64:=Nat.pow_lt_pow_right (by decide) h;have h2:(2:Nat)^64=18446744073709551616:=by decide
 rw[h2]at h1;have h3:((2^k:Nat):Int)=(2:Int)^k:=by simp
 omega
theorem j0n{n:Nat}{ns:List Int}{a most:Nat}(ha:a<=50)(hm:1<=most/\most<=6):∃ws:List aq,(ws.Nodup/\ws.length=Zd ns a most) /\
  evP 1000 G T (n+2) "_law_question" [.lst (ns.map D.int),.int a,.int most]=.val (.tup [.tup (ws.map D.str),.tup ((Yk n ns a most).map D.int)]):=by
 rw[jq (F:=U9) (by rfl) rfl];simp only[U9,V5,enter];have mb:=Fy (ns:=ns) (a:=a) hm;obtain⟨m,em⟩:∃m:Nat,m=Zd ns a most:=⟨_,rfl⟩
 have em2:1+jl ns a%(most:Int)=(m:Int):=by rw[em];unfold Zd;have h1:=Pg (jl ns a) (show(most:Int)≠0 by omega);omega
 rw[<-em]at mb;have p2:=jit (m:=m) nofun
 have pc:((2^m:Nat):Int)=(2:Int)^m:=by simp
 have e3:(1*2^m:Int).toNat=2^m:=by rw[dn,<-pc];exact Xd _
 have c0:evP 1000 G T (n+1) "_law_cell" [.lst (ns.map D.int),.int a]=.val (.int (jl ns a)):=Yw Ke nofun
 have c1:evP 1000 G T (n+1) "_law_cell" [.lst (ns.map D.int),.int ((a:Int)+1)]=.val (.int (jl ns (a+1))):=Yw Ke (k:=a+1) nofun
 have c2:evP 1000 G T (n+1) "_law_cell" [.lst (ns.map D.int),.int ((a:Int)+2)]=.val (.int (jl ns (a+2))):=Yw Ke (k:=a+2) nofun
 obtain⟨ws,⟨wnd,wl⟩,we⟩:=j5l (n:=n) (c:=jl ns (a+1)) (m:=m) nofun
 refine⟨ws,⟨wnd,by rw[wl,em]⟩,?_⟩;ext;rw[c0];ext;rw[em2,c1];ext;erw[we,c0,c2,Xd];rw[e3];rw[j6j (λi=>[.val (.lst (ns.map D.int)),.val (.int a),.val (.int most),.val (.int m),.own (ws.map D.str),.val (.int (jl ns a/(most:Int)%5)),.val (.int (jl ns (a+2))),.own (((Yk n ns a most).take i).map D.int),if i=0 then .un else .val (.int ((i:Int)-1)),if i=0 then .un else .own ((jk 2 m ((i:Int)-1)).map D.int),.un]) (by simp)]
 .ext;rw[qj,dJ (by simp[Yk,<-em])]
 .intro i d hi;obtain⟨h1,rfl⟩:=j5m hi;have hz:=j8m m (0+(i:Int));have hlz:=zm 2 m (0+(i:Int));obtain⟨hb,eb⟩:=j0g (fu:=1000) (n:=n) (G:=G) je2 hz nofun (kd:=jl ns a/(most:Int)%5) (c:=jl ns (a+2))
  have lt64:2^m<=64:=by omega
  have pw:=p2n (k:=(0+(i:Int)).toNat) nofun
  have al:(Yk n ns a most).length=2^m:=by simp[Yk,<-em]
  have ag:(Yk n ns a most)[i]?=a8 (if decide ((1000000000000000000:Int)<=jl ns (a+2))=aa then jl ns (a+2)/(1*2^(0+(i:Int)).toNat)%2 else Ox 1000 G T n (jk 2 m (0+(i:Int))) (jl ns a/(most:Int)%5) (jl ns (a+2))):=by unfold Yk;rw[<-em,xq,pq h1];rfl
  simp only[J4];ext;rw[qp (l:=(jk 2 m (0+(i:Int))).map D.int) (by rfl) (by rw[qj];omega) ?_ (.inl rfl)];rotate_left
  .have ed:jk 2 m (0+(i:Int))=(aA m).map λ(k:Nat)=>(0+(i:Int))/2^(m-1-k)%2:=by
    refine Tz λk=>?_;by_cases hk:k<m
    .rw[Z5 hk,xq,pq hk];rfl
    .rw[Xz (by rw[zm];omega),Xz (by simp;omega)]
   rw[Xd,Z0,ed,Xg];refine q8 λk hk'=>v6 (by ext) ?_;have hk:=Xc.mp hk';have et:((m:Int)-(0+(k:Int))-1).toNat=m-1-k:=by omega
   have p:=p2k (k:=m-1-k) nofun
   rw[<-et]at p;ext;rw[et,dn];rfl
  ext;rw[j7i,eb];ext;rw[jae rfl];simp only[j06];ext;have pick:∀(k:Bool)(x y:Int),atI [D.int x,.int y] (if k then 1 else 0)=a8 (.int (if k=aa then y else x)):=λk x y=>by cases k<;>rfl
  rw[pick];ext;rw[t8,ag];simp
theorem j0f{m s k:Nat}(hs:s<m):bt m s k=(k:Int)/2^(m-1-s)%2:=by unfold bt;rw[kj,Z5 hs];rfl
theorem j28{m s:Nat}(hs:s<m):(1:Int)*2^((m:Int)-(s:Int)-1).toNat=2^(m-1-s):=by rw[dn,show((m:Int)-(s:Int)-1).toNat=m-1-s by omega]
theorem j2j{m s:Nat}(hm:m<=3):(0:Int)<2^(m-1-s)/\(2:Int)^(m-1-s)<=4:=by
 have:m-1-s=0\/m-1-s=1\/m-1-s=2:=by omega
 rcases this with e|e|e<;>rw[e]<;>decide
noncomputable def bhF(m:Nat)(L:Int)(st:List Int)(s:Nat)(x:Int)(k:Nat):Int:=if bt m s k=x then st.getD k 0 else wal L (st.getD k 0)
theorem Y8 {n m s:Nat} {st:List Int} {x L:Int} (hm:1<=m/\m<=3) (hL:0<=L) (hst:st.length=2^m) (hb:∀k,k<2^m->-1<=st.getD k 0/\st.getD k 0<=L) (hs:s<m):evP 1000 G T (n+1) "_law_behind" [j6 st,.int L,.int m,.int s,.int x]=.val (j6 (beh m L st s x)):=by
 have p8:=Qm hm.2;have sh:=j28 hs;have pl:=j2j (m:=m) (s:=s) hm.2;rw[jq (F:=Rm) (by rfl) rfl];simp only[Rm,U0,enter,j6];ext;rw[Ro,hst];refine Ji (λi ρ=>∃s6 s7 s8,ρ=[.val (j6 st),.val (.int L),.val (.int m),.val (.int s),.val (.int x),.own (((aA i).map (bhF m L st s x)).map D.int),s6,s7,s8]) ⟨.un,.un,.un,rfl⟩ ?_ ?_
 .rintro i d ρ hi ⟨s6,s7,s8,rfl⟩;have hi':i<2^m:=by have:=(xr.mp hi).1;simpa using this
  rw[xq,pq hi']at hi;cases hi;have bi:=hb i hi';have bd:=j0f (k:=i) hs;have b01:=Ds (k:=i) hs;have lr:(aA i).length=i:=Xf;simp only[j1u];refine⟨_,?_,.val (.int (i:Int)),.val (.int (st.getD i 0)),.val (.int (st.getD i 0+if bt m s i=x then 0 else 1)),rfl⟩;rw[iZ,Xl,Xl,Tf,Tf,show bhF m L st s x i=(if bt m s i=x then st.getD i 0 else wal L (st.getD i 0))from rfl];generalize st.getD i 0=c at *;ext;rw[sh];ext;rw[<-bd];by_cases h:bt m s i=x
  .rw[if_pos h,if_pos h];ext;rw[if_neg xf,kJ];by_cases hc:c<0
   .ext;erw[if_pos (by first|rfl|trivial),at1];rw[show c = -1 by omega]
   .ext;erw[if_neg (by first|exact xf|decide),at0]
  .rw[if_neg h,if_neg h];ext;rw[if_pos trivial];by_cases hc:c<0
   .ext;erw[if_pos (by first|rfl|trivial),at1];rw[show wal L c = -1 by unfold wal;rw[if_pos (.inl nofun)]]
   .by_cases hd:c+1>L
    .ext;erw[if_pos (by first|rfl|trivial),at1];rw[show wal L c = -1 by unfold wal;rw[if_pos (.inr nofun)]]
    .ext;erw[if_neg (by first|exact xf|decide),at0];rw[show wal L c=c+1 by unfold wal;rw[if_neg nofun]]
 .rintro ρ ⟨s6,s7,s8,rfl⟩;rw[km,Xf];ext;rfl
theorem Dw{i:Int}:∀l:List Int,((l.map D.int).any λe=>deq e (.int i))=l.contains i
 |[]=>rfl
 |x::l=>by
  rw[X5,cJ,Dw l,j4u,cX];by_cases e:x=i
  .subst e;simp
  .rw[beq_false_of_ne (ba e)];simp[e]
theorem j07{i:Int}{l:List Int}:J1 .isin (.int i) (.lst (l.map D.int))=a8 (l.contains i):=by rw[<-Dw];simp[J1,D.sqv,D.dep,Ve]
theorem Rv{i:Int}{l:List Int}:J1 .notin (.int i) (.lst (l.map D.int))=a8 (!l.contains i):=by rw[<-Dw];simp[J1,D.sqv,D.dep,Ve]
theorem Bs {n m:Nat} {st:List Int} {L:Int} (hm:1<=m/\m<=3) (hst:st.length=2^m) (hb:∀k,k<2^m->-1<=st.getD k 0/\st.getD k 0<=L):evP 1000 G T (n+1) "_law_left" [j6 st]=.fresh ((lft m st).map λ(k:Nat)=>D.int (k:Int)):=by
 have p8:=Qm hm.2;rw[jq (F:=Dm) (by rfl) rfl];simp only[Dm,Mq,enter,j6];ext;rw[Ro,hst];rw[qp (l:=(lft m st).map λ(k:Nat)=>D.int (k:Int)) (by rfl) (by rw[km,Xf];omega) ?_ (.inl rfl)]
 .ext
 .unfold lft;refine Qx λk hk=>O4 ?_ λ_=>by ext
  have bk:=hb k (Xc.mp hk);by_cases h:st.getD k 0 = -1
  .rw[decide_eq_false (by simpa using h)];ext
  .rw[decide_eq_true h];ext
theorem j0r {n m s k:Nat} (hm:1<=m/\m<=3) (hs:s<m):evP 1000 G T (n+1) "_law_truth" [.int (k:Int),.int m,.int s]=.val (.int (bt m s k)):=by have sh:=j28 hs;have pl:=j2j (m:=m) (s:=s) hm.2;rw[jq (F:=Oo) (by rfl) rfl];simp only[Oo,We,enter];ext;rw[sh];ext;rw[<-j0f hs]
noncomputable def unL(a:List Int)(m:Nat)(st:List Int):List Nat:=if stl a m st=aa then[]else unl m st
theorem j7n{m s:Nat}{st:List Int}(hs:s<m):(((lft m st).map (bt m s)).contains 0&&((lft m st).map (bt m s)).contains 1)=decide (s∈unl m st):=by
 rw[cj,Xb,decide_eq_true_eq,Xr,Xr,Xk,Xk,Z6];constructor
 .rintro⟨⟨k,hk,e⟩,k',hk',e'⟩;exact⟨hs,k,hk,k',hk',by omega⟩
 .rintro⟨_,k,hk,k',hk',h⟩;have b1:=Ds (k:=k) hs;have b2:=Ds (k:=k') hs;by_cases e:bt m s k=0
  .exact⟨⟨k,hk,e⟩,k',hk',by omega⟩
  .exact⟨⟨k',hk',by omega⟩,k,hk,by omega⟩
theorem j1x{m:Nat}{st:List Int}:unl m st=(aA m).filter λs=>decide (s∈unl m st):=by
 have h:∀s∈aA m,(decide (s∈unl m st))=((lft m st).any λk=>decide (bt m s k≠bt m s ((lft m st).headD 0))):=λs hs=>by rw[cj,decide_eq_true_eq];unfold unl;rw[T6];exact⟨λz=>z.2,λz=>⟨hs,z⟩⟩
 rw[List.filter_congr h];rfl
theorem Wx{n m:Nat}{ws:List aq}{a st:List Int}{L:Int}(hw:ws.length=m)(hm:1<=m/\m<=3)(ha:a.length=2^m)(hst:st.length=2^m)(hb:∀k,k<2^m->-1<=st.getD k 0/\st.getD k 0<=L) :
  evP 1000 G T (n+2) "_law_unlike" [qD ws a,j6 st]=.fresh ((unL a m st).map λ(s:Nat)=>D.int (s:Int)):=by
 have p8:=Qm hm.2;have ll:=Us (m:=m) (st:=st);have lf:evP 1000 G T (n+1) "_law_left" [j6 st]=.fresh ((lft m st).map λ(k:Nat)=>D.int (k:Int)):=Bs hm hst hb;rw[jq (F:=Ri) (by rfl) rfl];simp only[Ri,Yy,enter,qD];ext;erw[at0,lf];rw[qp (l:=(zj a m st).map D.int) (by rfl) (by rw[km];omega) ?_ (.inr (Ju _))];rotate_left
 .unfold zj;rw[Xg];refine q8 λk hk=>v6 (by ext) ?_;ext;erw[at1,Di (by have:=Bt hk;omega)];rfl
 ext;rw[Rv];have bTail:∀s6,fin (run 1000 (evP 1000 G T (n+1)) G (.seq (.set 6 (.lst .nil)) (.seq (.loop [7] (.range (.cons (.var 2) .nil)) (.seq (.set 8 (.comp [5] (.bin .mod (.bin .fdiv (.var 5) (.bin .shl (.lit (.int 1)) (.bin .sub (.bin .sub (.var 2) (.var 7)) (.lit (.int 1))))) (.lit (.int 2))) (.seq (.var 3)) .nil)) (.seq (.ife (.and (.cmp .isin (.lit (.int 0)) (.var 8)) (.cmp .isin (.lit (.int 1)) (.var 8))) (.seq (.app 6 (.var 7)) .nop) .nop) .nop))) (.seq (.retV 6) .nop)))
   [.val (.tup [.tup (ws.map D.str),.tup (a.map D.int)]),.val (j6 st),.val (.int m),.own ((lft m st).map λ(k:Nat)=>D.int (k:Int)),.own ((zj a m st).map D.int),.un,s6,.un,.un])=.fresh ((unl m st).map λ(s:Nat)=>D.int (s:Int)):=λs6=>by
  ext;refine Ji (λi ρ=>∃s7 s8,ρ=[.val (.tup [.tup (ws.map D.str),.tup (a.map D.int)]),.val (j6 st),.val (.int m),.own ((lft m st).map λ(k:Nat)=>D.int (k:Int)),.own ((zj a m st).map D.int),.un,.own (((aA i).filter λs=>decide (s∈unl m st)).map λ(s:Nat)=>D.int (s:Int)),s7,s8]) ⟨.un,.un,rfl⟩ ?_ ?_
  .rintro i d ρ hi ⟨s7,s8,rfl⟩;have hi':i<m:=by have:=(xr.mp hi).1;simpa [upto]using this
   have ed:d=.int (i:Int):=by simp only[upto]at hi;rw[xq,pq nofun]at hi;have:=aB hi;rw[<-this];simp
   subst ed;have sh:=j28 hi';have pl:=j2j (m:=m) (s:=i) hm.2;have bi:=j7n (st:=st) hi';have fl:=Xh (Td (λs=>decide (s∈unl m st)) (aA i)) (kD Xf);simp only[J4];ext;rw[qp (l:=((lft m st).map (bt m i)).map D.int) (by rfl) (by rw[km];omega) ?_ (.inr (Ju _))];rotate_left
   .rw[Xg];refine q8 λk hk=>v6 (by ext) ?_;ext;rw[sh];ext;rw[<-j0f hi'];rfl
   ext;rw[j07];refine⟨_,?_,.val (.int (i:Int)),.own (((lft m st).map (bt m i)).map D.int),rfl⟩;rw[iZ,eP,Xl];cases h0:((lft m st).map (bt m i)).contains 0 with
   |false =>rw[h0,jG]at bi;rw[cq (by rw[<-bi];exact xf),fN,bT,Xq];ext
   |true =>
    rw[h0,jP]at bi;ext;rw[j07,bi];cases h1:decide (i∈unl m st) with
    |false =>rw[cq (by rw[h1];exact xf),fN,bT,Xq];ext
    |true =>rw[dE (by rw[h1]),fN,Tf];ext
  .rintro ρ ⟨s7,s8,rfl⟩;rw[show(upto 0 (m:Int).toNat).length=m by simp[upto],<-j1x];ext
 have es:stl a m st = !((zj a m st).contains 0&&(zj a m st).contains 1):=rfl;cases h0:(zj a m st).contains 0 with
 |false =>rw[h0]at es;ext;unfold unL;rw[if_pos (by rw[es];rfl)];rfl
 |true =>
  ext;rw[Rv];cases h1:(zj a m st).contains 1 with
  |false =>rw[h0,h1]at es;ext;unfold unL;rw[if_pos (by rw[es];rfl)];rfl
  |true =>rw[h0,h1]at es;unfold unL;rw[if_neg (by rw[es];decide)];rw[hw];refine Eq.trans ?_ (bTail .un);ext
theorem Rq(a:List aq):D.depL (a.map D.str)<=90:=by
 induction a with
 |nil=>simp[D.depL]
 |cons x a ih=>rw[X5,D.depL];simp[D.dep];exact ih
theorem Er:∀{ws:List aq}{p:aq},p∈ws->ixD (.str p) (ws.map D.str)=a8 (ws.idxOf p)
 |[],p,h=>by cases h
 |w::ws,p,h=>by
  unfold ixD;rw[X5];dsimp only;rw[j01];by_cases z:w=p
  .subst z;simp
  .have z':(w==p)=a9:=by simpa using z
   rw[z',if_neg (by simp),Er (by simpa [ba z]using h),List.idxOf_cons,z'];rfl
theorem Cr{ws:List aq}{p:aq}(s:List D->D)(hs:s=D.tup\/s=D.lst):J1 .notin (.str p) (s (ws.map D.str))=a8 (!ws.contains p):=by
 have e:((ws.map D.str).any λe=>deq e (.str p))=ws.contains p:=by
  induction ws with
  |nil=>rfl
  |cons x ws ih=>rw[X5,cJ,ih,j01,cX,Bool.beq_comm]
 have hd:=Rq ws;rcases hs with z|z<;>subst z<;>simp only[J1,D.sqv]<;>rw[if_pos ⟨hd,by simp[D.dep]⟩,e]
theorem ji3{ws:List aq}{p:aq}(hp:p∈ws):Wq (a8 (.v (.e (.tup (ws.map D.str))))) (a8 (.v (.e (.str p))))=a8 (.v (.e (.int ((ws.idxOf p:Nat):Int)))):=by
 have hdl:D.depL (ws.map D.str)<=90/\(D.str p).dep<=90:=⟨Rq ws,by simp[D.dep]⟩
 simp only[Wq,Rk.d,if_pos hdl,Er hp];rfl
theorem j5u{ws:List aq}{p:aq}(hp:p∈ws):Wq (a8 (.v (.o (ws.map D.str)))) (a8 (.v (.e (.str p))))=a8 (.v (.e (.int ((ws.idxOf p:Nat):Int)))):=by
 have hdl:D.depL (ws.map D.str)<=90/\(D.str p).dep<=90:=⟨Rq ws,by simp[D.dep]⟩
 simp only[Wq,Rk.d,if_pos hdl,Er hp];rfl
theorem j98 {fu n:Nat} {ws:List aq} {a:List Int} {p:aq} (hp:p∈ws):evP fu G T (n+1) "spot_of" [qD ws a,.str p]=.val (.int ((ws.idxOf p:Nat):Int)):=by rw[jq (F:=W6) (by rfl) rfl];simp only[W6,Vv,enter,qD];have hc:ws.contains p=aa:=Xr.mpr hp;ext;rw[at0];ext;rw[Cr _ (.inl rfl),hc];ext;erw[at0,ji3 hp]
noncomputable def toD(ws:List aq)(tl:List (Nat×Int)):List D:=tl.map λt=>D.tup [.str (ws.getD t.1 ""),.int t.2]
noncomputable def stT(m:Nat)(L:Int)(tl:List (Nat×Int)):List Int:=tl.foldl (λst t=>beh m L st t.1 t.2) (st0 m)
theorem Q7{m:Nat}{L:Int}{tl:List (Nat×Int)}{t:Nat×Int}:stT m L (tl++[t])=beh m L (stT m L tl) t.1 t.2:=by unfold stT;rw[iG];rfl
theorem Zu{m:Nat}{L:Int}{tl:List (Nat×Int)}:(stT m L tl).length=2^m:=by
 rcases List.eq_nil_or_concat tl with e|⟨r,t,e⟩
 .rw[e];exact Tc ..
 .rw[e,List.concat_eq_append,Q7];exact j1v
theorem j1l{m:Nat}{L:Int}(hL:0<=L):∀(tl:List (Nat×Int)) (st:List Int),(∀k,k<2^m->-1<=st.getD k 0/\st.getD k 0<=L)->∀k,k<2^m->-1<=(tl.foldl (λst t=>beh m L st t.1 t.2) st).getD k 0/\(tl.foldl (λst t=>beh m L st t.1 t.2) st).getD k 0<=L
 |[],_,h=>h
 |t::tl,st,h=>j1l hL tl _ λk hk=>by
  rw[Z2 hk];split
  .exact h k hk
  .have:=Bc hL (h k hk);exact⟨this.1,this.2.1⟩
theorem Bj{m:Nat}{L:Int}(hL:0<=L)(tl:List (Nat×Int)):∀k,k<2^m->-1<=(stT m L tl).getD k 0/\(stT m L tl).getD k 0<=L:=j1l hL tl _ λk hk=>by rw[Uj hk];omega
theorem Dh {ws:List aq} {s:Nat} (nd:ws.Nodup) (hs:s<ws.length):ws.getD s "" ∈ ws/\ws.idxOf (ws.getD s "")=s:=by rw[kj,kh hs];exact⟨Ph _,nd.idxOf_getElem s hs⟩
theorem Fb {n m:Nat} {ws:List aq} {a:List Int} {L:Int} {tl:List (Nat×Int)} (nd:ws.Nodup) (hw:ws.length=m) (hm:1<=m/\m<=3) (hL:0<=L/\L<=2) (ht:∀t∈tl,t.1<m):evP 1000 G T (n+5) "state_told" [qD ws a,.int L,.lst (toD ws tl)]=.val (j6 (stT m L tl)):=by
 have lo:=j1f (n:=n+3) (a:=a) hw hm.2 hL;have cs:=j04 (n:=n+1) hm;have p8:=Qm hm.2;have p1:1<=2^m:=Pr (n:=2) (by decide) (Pj m);rw[jq (F:=Js) (by rfl) rfl];simp only[Js,Jt,enter,qD]at lo ⊢;ext;erw[lo,at0];rw[hw,cs];ext;rw[Xd,show D.tup (au (2^m) (D.int 0))=j6 (stT m L (tl.take 0))by rw[fZ];simp only[j6,stT,g6,st0,Te]];refine Ji (λi ρ=>∃s4 s5,ρ=[.val (.tup [.tup (ws.map D.str),.tup (a.map D.int)]),.val (.int L),.val (.lst (toD ws tl)),.val (j6 (stT m L (tl.take i))),s4,s5]) ⟨.un,.un,rfl⟩ ?_ ?_
 .rintro i d ρ hi ⟨s4,s5,rfl⟩;unfold toD at hi;rw[xq]at hi;obtain⟨t,et,ed⟩:=Xm.mp hi;subst ed;have hi':=(xr.mp et).1;have hts:=ht t (Xj et);obtain⟨g1,g2⟩:=Dh nd (hw▸hts);have so:evP 1000 G T (n+4) "spot_of" [.tup [.tup (ws.map D.str),.tup (a.map D.int)],.str (ws.getD t.1 "")]=.val (.int (t.1:Int)):=by have:=j98 (fu:=1000) (n:=n+3) (a:=a) g1;rw[g2]at this;exact this
  have sb:=Rx (n:=n) (ws:=ws) (a:=a) (x:=t.2) (L:=L) hw hm (Zu (L:=L) (tl:=tl.take i)) hts;simp only[qD]at sb;have tk:tl.take (i+1)=tl.take i++[t]:=by rw[t8,et];rfl
  simp only[j1u];refine⟨_,?_,.val (.str (ws.getD t.1 "")),.val (.int t.2),rfl⟩;rw[tk,Q7];ext;rw[so];ext;rw[Qu,sb];ext
 .rintro ρ ⟨s4,s5,rfl⟩;rw[show(toD ws tl).length=tl.length from km ..,T4];ext
theorem je4{Γ:aq->List D->Rc}{f:aq}{rs:List Rk}{ds:List D}{d:D}{ks:List (List Int)}{ns:List Int}(h1:qx rs=a8 ds)(h2:Γ (dq f) (.dct [] (([]:List Int).map D.int)::ds)=.dval d ks ns):Dl Γ f aa (a8 (.a rs))=a8 (.v (.e d)):=by unfold Dl;simp only[h1,h2]
theorem jiu{m:Nat}{L:Int}{st:List Int}(hm:m<=3)(hL:0<=L/\L<=2):mu m L st<=24\/∃k,k<2^m/\st.getD k 0 < -1:=by
 by_cases h:∃k,k<2^m/\st.getD k 0 < -1
 .exact .inr h
 .refine .inl ?_;unfold mu;have h1:((aA (2^m)).map λk=>wt L (st.getD k 0)).sum<=((aA (2^m)).map λ_=>3).sum:=Bg λk hk=>by
   unfold wt;split
   .omega
   .have:¬st.getD k 0 < -1:=λz=>h ⟨k,Xc.mp hk,z⟩;omega
  have h2:((aA (2^m)).map λ_=>3).sum=2^m*3:=by rw[ja,Xf,gN]
  have:=Qm hm;omega
theorem j8d{m:Nat}{L:Int}{st:List Int}(hm:m<=3)(hL:0<=L/\L<=2)(v:Vs m L st):mu m L st<=24:=(jiu hm hL).resolve_right λ⟨k,hk,z⟩=>by have:=v.bd k hk;omega
theorem jfs{a:List Int}{m:Nat}{L:Int}{st:List Int}(h1:st.length=2^m)(h2:∀k,k<2^m->-1<=st.getD k 0/\st.getD k 0<=L)(h:stl a m st=a9):Vs m L st:=⟨h1,h2,λz=>by
 unfold stl zj at h
 rw[z]at h
 cases h⟩
section
variable{n m:Nat}{ws:List aq}{a:List Int}{L:Int}{tl:List (Nat×Int)}
theorem Wg (nd:ws.Nodup) (hw:ws.length=m) (hm:1<=m/\m<=3) (ha:a.length=2^m) (h01:∀x∈a,x=0\/x=1) (hL:0<=L/\L<=2) (ht:∀t∈tl,t.1<m) (hs:stl a m (stT m L tl)=aa):evP 1000 G T (n+79) "next_ask" [qD ws a,.int L,.lst (toD ws tl)]=.val .non:=by have ts:=Fb (n:=n+73) (a:=a) nd hw hm hL ht;have es:=U6 (n:=n+73) (ws:=ws) hw hm ha h01 (Zu (m:=m) (L:=L) (tl:=tl));have ts:evP 1000 G T (n+78) "state_told" [qD ws a,.int L,.lst (toD ws tl)]=.val (j6 (stT m L tl)):=ts;have es:evP 1000 G T (n+78) "is_settled" [j6 (stT m L tl),qD ws a]=.val (.bl (stl a m (stT m L tl))):=es;rw[jq (F:=Qt) (by rfl) rfl];simp only[Qt,Qv,enter];ext;rw[ts];ext;rw[es,hs];ext
theorem j0i(nd:ws.Nodup)(hw:ws.length=m)(hm:1<=m/\m<=3)(ha:a.length=2^m)(h01:∀x∈a,x=0\/x=1)(hL:0<=L/\L<=2)(ht:∀t∈tl,t.1<m)(hs:stl a m (stT m L tl)=a9) :
  ∃t∈unl m (stT m L tl),NN a m L (stT m L tl)=1+max (NN a m L (beh m L (stT m L tl) t 0)) (NN a m L (beh m L (stT m L tl) t 1))/\evP 1000 G T (n+79) "next_ask" [qD ws a,.int L,.lst (toD ws tl)]=.val (.str (ws.getD t "")):=by
 have ts:evP 1000 G T (n+78) "state_told" [qD ws a,.int L,.lst (toD ws tl)]=.val (j6 (stT m L tl)):=Fb (n:=n+73) (a:=a) nd hw hm hL ht;have es:evP 1000 G T (n+78) "is_settled" [j6 (stT m L tl),qD ws a]=.val (.bl (stl a m (stT m L tl))):=U6 (n:=n+73) (ws:=ws) hw hm ha h01 (Zu (m:=m) (L:=L) (tl:=tl));have v:=jfs (Zu (m:=m) (L:=L) (tl:=tl)) (Bj hL.1 tl) hs;generalize stT m L tl=st at *;obtain⟨ks,t,h1,h2,e,_⟩:=Lp (X:=n+72) (ws:=ws) hw hm ha h01 hL v hs (λst' v' _=>by
  have:=Ea (ws:=ws) hw hm ha h01 hL 24 n st' v' (j8d hm.2 hL v')
  rwa [show 3*24+4+n=n+72+4 by omega]at this) [] (λ_ h=>by cases h) cV
 refine⟨t,h1,by rw[Ca hL.1 v hs,h2],?_⟩;have hts:=(Z6.mp h1).1;generalize Jw _=M at *;have e:evP 1000 G T (n+78) (dq "best_ask") [.dct [] (([]:List Int).map D.int),j6 st,qD ws a,.int L]=.dval (.tup [.int M,.int ((t:Nat):Int)]) ks (ks.map (NN a m L)):=by rw[dqB];exact e
 have gw:atI (ws.map D.str) ((t:Nat):Int)=a8 (.str (ws.getD t "")):=Qf (by rw[xq,kj,kh nofun];rfl);rw[jq (F:=Qt) (by rfl) rfl];simp only[Qt,Qv,enter];ext;rw[ts];ext;rw[es,hs];ext;rw[show noOwn [Sv.val (qD ws a),.val (.int L),.val (.lst (toD ws tl)),.val (j6 st)]=aa from rfl,je4 rfl e];simp only[qD];ext;rw[at0,at1];ext;rw[gw];ext
theorem j94{ws:List aq}{tl:List (Nat×Int)}:D.depL (toD ws tl)<=1:=by
 unfold toD;induction tl with
 |nil=>simp[D.depL]
 |cons t tl ih=>simp only[X5,D.depL,D.dep]at *;omega
theorem Zy {d:D} (hd:d=.non\/∃w,d=.str w) (tlen:tl.length<=1000) (h:evP 1000 G T (n+79) "next_ask" [qD ws a,.int L,.lst (toD ws tl)]=.val d):evP 1000 G T (n+80) "_law_asked" [qD ws a,.int L,.lst (toD ws tl)]=.val d:=by
 have dp:=j94 (ws:=ws) (tl:=tl);have ll:(toD ws tl).length=tl.length:=km ..;rw[jq (F:=Oq) (by rfl) rfl];simp only[Oq,Wf,enter];ext;rw[Z8 (xs:=[.e (qD ws a),.e (.int L),.w (toD ws tl)]) rfl,show[Rk.e (qD ws a),.e (.int L),.w (toD ws tl)].map Rk.d=[qD ws a,.int L,.lst (toD ws tl)]from rfl,h];have e:J1 .ne (.lst (toD ws tl)) (.lst (toD ws tl))=a8 a9:=by show(if _ then a8 (!zb (toD ws tl) (toD ws tl))else ae)=_;rw[if_pos ⟨by omega,by omega⟩,Vd _ nofun];rfl
 rcases hd with z|⟨w,z⟩<;>subst z
 .ext;erw[Y4 rfl,e]
 .ext;erw[Y4 rfl,e]
end
section
variable{n m t:Nat}{ws:List aq}{a:List Int}{L:Int}{ks:List (List Int)}{st:List Int}
theorem j5h(nd:ws.Nodup)(hw:ws.length=m)(hm:1<=m/\m<=3)(hL:0<=L/\L<=2)(v:Vs m L st)(hk:st∈ks)(ht:t<m)(hk2:∀x:Int,(x=0\/x=1)->beh m L st t x∈ks)(hN:NN a m L st=1+max (NN a m L (beh m L st t 0)) (NN a m L (beh m L st t 1))) :
  evP 1000 G T (n+2) "_law_bad_step" [qD ws a,.int L,.dct ks ((ks.map (NN a m L)).map D.int),j6 st,.str (ws.getD t "")]=.val (.bl a9):=by
 obtain⟨g1,g2⟩:=Dh nd (hw▸ht);have lb:=λx:Int=>Y8 (n:=n) (x:=x) hm hL.1 v.len v.bd ht;have hc:ws.contains (ws.getD t "")=aa:=Xr.mpr g1;rw[jq (F:=Ua) (by rfl) rfl];simp only[Ua,V6,enter,qD];generalize ws.getD t "" = p at *;ext;erw[at0,at0];rw[Cr _ (.inl rfl),hc];ext;rw[at0];ext;rw[j5u g1,g2,hw];ext;refine Ji (λi ρ=>∃s7 s8,ρ=[.val (.tup [.tup (ws.map D.str),.tup (a.map D.int)]),.val (.int L),.val (.dct ks ((ks.map (NN a m L)).map D.int)),.val (j6 st),.val (.str p),.val (.int m),.val (.int (t:Int)),s7,s8]) ⟨.un,.un,rfl⟩ ?_ ?_
 .rintro i d ρ hi ⟨s7,s8,rfl⟩;obtain⟨x,hx,ed⟩:∃x:Int,(x=0\/x=1)/\d=.int x:=by
   have:=Xj hi;rcases xu.mp this with z|z
   .exact⟨0,.inl rfl,z⟩
   .exact⟨1,.inr rfl,xj.mp z⟩
  subst ed;have lbx:=lb x;have k2:=hk2 x hx;have hc2:ks.contains (beh m L st t x)=aa:=Xr.mpr k2;have le:NN a m L (beh m L st t x)<NN a m L st:=by rcases hx with z|z<;>subst z<;>omega
  refine⟨_,?_,.val (.int x),.val (j6 (beh m L st t x)),rfl⟩;simp only[J4];ext;rw[Qu,lbx];ext;simp only[j6];rw[hc2];ext;rw[Dp (Uu k2),Dp (Uu hk)];ext
 .rintro ρ ⟨s7,s8,rfl⟩;ext
end
theorem Ek{f:D->En->So}(W:Nat->En->Prop)(Z:En->Prop):∀{ds:List D}{ρ:En}{k:Nat},W k ρ->(∀i d ρ,ds[i]?=a8 d->W (k+i) ρ->(∃ρ',f d ρ=.next ρ'/\W (k+i+1) ρ')\/∃ρ',f d ρ=.brk ρ'/\Z ρ')->(∀ρ,W (k+ds.length) ρ->Z ρ)->∃ρ',zx f ds ρ=.next ρ'/\Z ρ'
 |[],ρ,k,h0,_,he=>⟨ρ,rfl,he ρ h0⟩
 |d::ds,ρ,k,h0,hs,he=>by
  rcases hs 0 d ρ rfl h0 with ⟨ρ',e,w⟩|⟨ρ',e,z⟩
  .obtain⟨ρ2,e2,z⟩:=Ek W Z (ds:=ds) (ρ:=ρ') (k:=k+1) w (λi d ρ hi w=>by
    have:=hs (i+1) d ρ hi (by rw[show k+(i+1)=k+1+i by omega];exact w)
    rw[show k+(i+1)+1=k+1+i+1 by omega]at this;exact this) (λρ w=>he ρ (by rw[X6,show k+(ds.length+1)=k+1+ds.length by omega];exact w))
   exact⟨ρ2,by rw[zx,e];exact e2,z⟩
  .exact⟨ρ',by rw[zx,e],z⟩
theorem jfn{a:List Int}{m:Nat}{L:Int}{st:List Int}(hm:m<=3)(ha:a.length=2^m)(h01:∀x∈a,x=0\/x=1)(hL:0<=L)(v:Vs m L st)(h:stl a m st=a9):1<=NN a m L st:=by obtain⟨s,hs,e⟩:=j3a hm ha h01 hL v h;have w0:=v.beh hL hs (x:=0) (.inl rfl);have:=Nq hm ha h01 hL _ w0.1;omega
section
variable{n m hid:Nat}{ws:List aq}{a:List Int}{L:Int}{ks:List (List Int)}{cs:List Int}
structure Pl(m:Nat)(a:List Int)(L:Int)(ks:List (List Int))(hid:Nat)(tl:List (Nat×Int))(lf:Int):Prop where
 sp:∀t∈tl,t.1<m
 ink:stT m L tl∈ks
 lf0:0<=lf
 cnt:(stT m L tl).getD hid 0=L-lf
 hl:lf<=L
theorem Pl.step{tl:List (Nat×Int)}{lf x:Int}{t:Nat}(P:Pl m a L ks hid tl lf)(hL:0<=L)(hh:hid<2^m)(htu:t∈unl m (stT m L tl))(hin:beh m L (stT m L tl) t x∈ks)(hx:(x=bt m t hid)\/(x≠bt m t hid/\0<lf)):Pl m a L ks hid (tl++[(t,x)]) (if x=bt m t hid then lf else lf-1):=by
 have b:=Bj hL tl hid hh;refine⟨λq hq=>?_,by rw[Q7];exact hin,?_,?_,?_⟩
 .rcases Pk.mp hq with z|z
  .exact P.sp q z
  .rw[xj.mp z];exact(Z6.mp htu).1
 .have:=P.lf0;split<;>omega
 .rw[Q7,Z2 hh];have c:=P.cnt;rcases hx with z|⟨z,zl⟩
  .rw[if_pos z.symm,if_pos z];exact c
  .have:=P.hl;rw[if_neg (λq=>z q.symm),if_neg z,c];unfold wal;rw[if_neg nofun];omega
 .have:=P.hl;split<;>omega
noncomputable def Yx:Sx:=(.seq (.set 11 (.call "_law_asked" (.cons (.var 0) (.cons (.var 1) (.cons (.var 8) .nil))))) (.seq (.ife (.isN (.var 11)) (.seq .brk .nop) .nop) (.seq (.ife (.or (.cmp .eq (.var 10) (.var 7)) (.call "_law_bad_step" (.cons (.var 0) (.cons (.var 1) (.cons (.var 2) (.cons (.var 6) (.cons (.var 11) .nil))))))) (.seq (.ret (.lit (.non))) .nop) .nop) (.seq (.set 12 (.tix (.blt .list (.cons (.ix (.var 0) (.lit (.int 0))) .nil)) (.var 11))) (.seq (.set 13 (.call "_law_truth" (.cons (.var 3) (.cons (.var 5) (.cons (.var 12) .nil))))) (.seq (.ife (.and (.cmp .gt (.var 9) (.lit (.int 0))) (.cmp .eq (.bin .mod (.ix (.var 4) (.bin .mod (.var 10) (.blt .len (.cons (.var 4) .nil)))) (.lit (.int 2))) (.lit (.int 1)))) (.seq (.set 9 (.bin .sub (.var 9) (.lit (.int 1)))) (.seq (.set 13 (.bin .sub (.lit (.int 1)) (.var 13))) .nop)) .nop) (.seq (.app 8 (.tup (.cons (.var 11) (.cons (.var 13) .nil)))) (.seq (.set 6 (.call "_law_behind" (.cons (.var 6) (.cons (.var 1) (.cons (.var 5) (.cons (.var 12) (.cons (.var 13) .nil))))))) .nop))))))))
noncomputable def Zv(ws:List aq)(a:List Int)(m:Nat)(L:Int)(ks:List (List Int))(hid:Nat)(cs:List Int)(M:Int)(tl:List (Nat×Int))(lf:Int)(s10 s11 s12 s13:Sv):En :=
 [.val (qD ws a),.val (.int L),.val (.dct ks ((ks.map (NN a m L)).map D.int)),.val (.int (hid:Int)),.val (.lst (cs.map D.int)),.val (.int m),.val (j6 (stT m L tl)),.val (.int M),.own (toD ws tl),.val (.int lf),s10,s11,s12,s13]
theorem j8y{M lf:Int}{tl:List (Nat×Int)}{s10 s11 s12 s13:Sv}(nd:ws.Nodup)(hw:ws.length=m)(hm:1<=m/\m<=3)(ha:a.length=2^m)(h01:∀x∈a,x=0\/x=1)(hL:0<=L/\L<=2)(hh:hid<2^m)(hcs:cs≠[])(vks:∀k∈ks,Vs m L k)
  (cl:∀k∈ks,stl a m k=a9->∀s∈unl m k,∀x:Int,(x=0\/x=1)->beh m L k s x∈ks) (P:Pl m a L ks hid tl lf) (hM:M<=500) (hN:NN a m L (stT m L tl)+tl.length<=M) :
  (∃tl' lf' u10 u11 u12 u13,run 1000 (evP 1000 G T (n+80)) G Yx ((Zv ws a m L ks hid cs M tl lf s10 s11 s12 s13).set 10 (.val (.int (tl.length:Int))))=.next (Zv ws a m L ks hid cs M tl' lf' u10 u11 u12 u13)/\Pl m a L ks hid tl' lf'/\tl'.length=tl.length+1/\NN a m L (stT m L tl')+tl'.length<=M) \/
  (∃u10 u11 u12 u13,run 1000 (evP 1000 G T (n+80)) G Yx ((Zv ws a m L ks hid cs M tl lf s10 s11 s12 s13).set 10 (.val (.int (tl.length:Int))))=.brk (Zv ws a m L ks hid cs M tl lf u10 u11 u12 u13)/\stl a m (stT m L tl)=aa):=by
 have v:=vks _ P.ink;have nn:=Nq hm.2 ha h01 hL.1 _ v;cases hs:stl a m (stT m L tl) with
 |true =>
  have ak:=Zy (d:=.non) (.inl rfl) nofun (Wg (n:=n) nd hw hm ha h01 hL P.sp hs)
  refine .inr ⟨.val (.int (tl.length:Int)),.val .non,s12,s13,?_,rfl⟩;unfold Yx Zv;simp only[Xx,Xw];ext;rw[Z8 (xs:=[.e (qD ws a),.e (.int L),.w (toD ws tl)]) rfl,show[Rk.e (qD ws a),.e (.int L),.w (toD ws tl)].map Rk.d=[qD ws a,.int L,.lst (toD ws tl)]from rfl,ak];ext;rw[Y4 rfl];ext
 |false =>
  left
  obtain⟨t,htu,hNN,ask⟩:=j0i (n:=n) nd hw hm ha h01 hL P.sp hs;have ak:=Zy (d:=.str (ws.getD t "")) (.inr ⟨_,rfl⟩) nofun ask;have ht:=(Z6.mp htu).1;have pos:=jfn hm.2 ha h01 hL.1 v hs;have c2:=cl _ P.ink hs t htu;have bd:evP 1000 G T (n+80) "_law_bad_step" [qD ws a,.int L,.dct ks ((ks.map (NN a m L)).map D.int),j6 (stT m L tl),.str (ws.getD t "")]=.val (.bl a9):=j5h (n:=n+78) nd hw hm hL v P.ink ht c2 hNN;have tr:evP 1000 G T (n+80) "_law_truth" [.int (hid:Int),.int m,.int (t:Int)]=.val (.int (bt m t hid)):=j0r (n:=n+79) hm ht;have lb:∀x:Int,evP 1000 G T (n+80) "_law_behind" [j6 (stT m L tl),.int L,.int m,.int (t:Int),.int x]=.val (j6 (beh m L (stT m L tl) t x)):=λx=>Y8 (n:=n+79) hm hL.1 v.len v.bd ht;obtain⟨g1,g2⟩:=Dh nd (hw▸ht);have gc:atI (cs.map D.int) ((tl.length:Int)%(cs.length:Int))=a8 (.int (cs.getD (tl.length%cs.length) 0)):=by rw[<-Int.natCast_emod];exact Di (Nat.mod_lt _ (List.length_pos_iff.mpr hcs))
  have cp:0<cs.length:=List.length_pos_iff.mpr hcs;have ll:(toD ws tl).length=tl.length:=km ..;have b01:=Ds (k:=hid) ht;have fin':∀x:Int,(x=0\/x=1)->NN a m L (stT m L (tl++[(t,x)]))+((tl++[(t,x)]).length:Int)<=M:=λx hx=>by
   rw[Q7,Xe,Tq];have:NN a m L (beh m L (stT m L tl) t x)<=max (NN a m L (beh m L (stT m L tl) t 0)) (NN a m L (beh m L (stT m L tl) t 1)):=by rcases hx with z|z<;>rw[z]<;>omega
   show NN a m L (beh m L (stT m L tl) t x)+_<=M;omega
  have tD:∀x:Int,toD ws (tl++[(t,x)])=toD ws tl++[.tup [.str (ws.getD t ""),.int x]]:=λx=>by unfold toD;rw[Xl];rfl
  have sT:∀x:Int,stT m L (tl++[(t,x)])=beh m L (stT m L tl) t x:=λx=>Q7;have lnM:((tl.length:Int)=M)=False:=eq_false nofun
  by_cases hlie:0<lf/\cs.getD (tl.length%cs.length) 0%2=1
  .have hx:(1-bt m t hid=0\/1-bt m t hid=1):=by omega
   have p:=P.step (x:=1-bt m t hid) hL.1 hh htu (c2 _ hx) (.inr ⟨by omega,hlie.1⟩);rw[if_neg nofun]at p;refine⟨tl++[(t,1-bt m t hid)],lf-1,.val (.int (tl.length:Int)),.val (.str (ws.getD t "")),.val (.int (t:Int)),.val (.int (1-bt m t hid)),?_,p,by simp,fin' _ hx⟩;have l1:=hlie.1;have l2:=hlie.2;unfold Yx Zv;rw[tD,sT];simp only[Xx,Xw];generalize ws.getD t "" = w at *;ext;rw[Z8 (xs:=[.e (qD ws a),.e (.int L),.w (toD ws tl)]) rfl,show[Rk.e (qD ws a),.e (.int L),.w (toD ws tl)].map Rk.d=[qD ws a,.int L,.lst (toD ws tl)]from rfl,ak];ext;rw[Y4 rfl];ext;rw[Qu,bd];ext;simp only[qD];ext;rw[at0];ext;rw[j5u g1,g2];ext;erw[tr,gc];rw[Qu,lb];ext
  .have p:=P.step (x:=bt m t hid) hL.1 hh htu (c2 _ b01) (.inl rfl);rw[if_pos rfl]at p;refine⟨tl++[(t,bt m t hid)],lf,.val (.int (tl.length:Int)),.val (.str (ws.getD t "")),.val (.int (t:Int)),.val (.int (bt m t hid)),?_,p,by simp,fin' _ b01⟩;unfold Yx Zv;rw[tD,sT];simp only[Xx,Xw];generalize ws.getD t "" = w at *;ext;rw[Z8 (xs:=[.e (qD ws a),.e (.int L),.w (toD ws tl)]) rfl,show[Rk.e (qD ws a),.e (.int L),.w (toD ws tl)].map Rk.d=[qD ws a,.int L,.lst (toD ws tl)]from rfl,ak];ext;rw[Y4 rfl];ext;rw[Qu,bd];ext;simp only[qD];ext;rw[at0];ext;rw[j5u g1,g2];ext;rw[tr];ext;by_cases l1:0<lf
   .have l2:¬cs.getD (tl.length%cs.length) 0%2=1:=λz=>hlie ⟨l1,z⟩;ext;rw[gc];ext;rw[Qu,lb];ext
   .ext;rw[Qu,lb];ext
end
theorem ji1{a:List Int}{m:Nat}{L:Int}(hm:m<=3)(ha:a.length=2^m)(h01:∀x∈a,x=0\/x=1)(hL:0<=L):∀st,Vs m L st->NN a m L st<=mu m L st :=
 j8n λst v ih=>by
  cases e:stl a m st with
  |true=>rw[Np e];exact iH _
  |false =>obtain⟨s,hs,e2⟩:=j3a hm ha h01 hL v e;have w0:=v.beh hL hs (x:=0) (.inl rfl);have w1:=v.beh hL hs (x:=1) (.inr rfl);have i0:=ih _ w0.1 w0.2;have i1:=ih _ w1.1 w1.2;have:=w0.2;have:=w1.2;omega
section
variable{n m hid:Nat}{ws:List aq}{a:List Int}{L:Int}{ks:List (List Int)}{cs:List Int}
theorem j3w(nd:ws.Nodup)(hw:ws.length=m)(hm:1<=m/\m<=3)(ha:a.length=2^m)(h01:∀x∈a,x=0\/x=1)(hL:0<=L/\L<=2)(hh:hid<2^m)(hcs:cs≠[])(vks:∀k∈ks,Vs m L k)(h0:st0 m∈ks)
  (cl:∀k∈ks,stl a m k=a9->∀s∈unl m k,∀x:Int,(x=0\/x=1)->beh m L k s x∈ks) :
  ∃tl lf,Pl m a L ks hid tl lf/\stl a m (stT m L tl)=aa/\tl.length<=24/\evP 1000 G T (n+81) "_law_played" [qD ws a,.int L,.dct ks ((ks.map (NN a m L)).map D.int),.int (hid:Int),.lst (cs.map D.int)]=.fresh (toD ws tl):=by
 have p8:=Qm hm.2;have p1:1<=2^m:=Pr (n:=2) (by decide) (Pj m);have pc:((2^m:Nat):Int)=(2:Int)^m:=by simp
 have nn0:=Nq hm.2 ha h01 hL.1 _ (vks _ h0);have nn1:=ji1 hm.2 ha h01 hL.1 _ (vks _ h0);have nn2:=j8d hm.2 hL (vks _ h0);obtain⟨M,hM⟩:∃M,M=NN a m L (st0 m):=⟨_,rfl⟩
 have P0:Pl m a L ks hid [] L:=⟨(λ_ h=>by cases h),h0,hL.1,by show(st0 m).getD hid 0=_;rw[Uj hh];omega,dr _⟩
 obtain⟨ρ',el,tl,lf,u10,u11,u12,u13,er,P,hs,hl⟩:=Ek (f:=λd ρ=>run 1000 (evP 1000 G T (n+80)) G Yx (ρ.set 10 (.val d))) (ds:=upto 0 (M+1).toNat) (k:=0) (ρ:=Zv ws a m L ks hid cs M [] L .un .un .un .un)
  (λi ρ=>∃tl lf u10 u11 u12 u13,ρ=Zv ws a m L ks hid cs M tl lf u10 u11 u12 u13/\Pl m a L ks hid tl lf/\tl.length=i/\NN a m L (stT m L tl)+tl.length<=M)
  (λρ=>∃tl lf u10 u11 u12 u13,ρ=Zv ws a m L ks hid cs M tl lf u10 u11 u12 u13/\Pl m a L ks hid tl lf/\stl a m (stT m L tl)=aa/\tl.length<=M)
  ⟨[],L,.un,.un,.un,.un,rfl,P0,rfl,by rw[hM];exact Int.le_of_eq (kJ _)⟩
  (λi d ρ hi ⟨tl,lf,s10,s11,s12,s13,eρ,P,hi2,hN⟩=>by
   rw[T8]at hi2
   subst eρ
   have ed:d=.int (tl.length:Int):=by
    have hb:=(xr.mp hi).1
    rw[qj]at hb
    simp only[upto]at hi
    rw[xq,pq hb]at hi
    have:=aB hi
    rw[<-this,hi2];simp
   subst ed
   have nn:=Nq hm.2 ha h01 hL.1 _ (vks _ P.ink)
   rcases j8y (n:=n) (s10:=s10) (s11:=s11) (s12:=s12) (s13:=s13) nd hw hm ha h01 hL hh hcs vks cl P nofun hN with ⟨tl',lf',u10,u11,u12,u13,e,P',h1,h2⟩|⟨u10,u11,u12,u13,e,hs⟩
   .exact .inl ⟨_,e,tl',lf',u10,u11,u12,u13,rfl,P',by omega,h2⟩
   .exact .inr ⟨_,e,tl,lf,u10,u11,u12,u13,rfl,P,hs,by omega⟩)
  (λρ ⟨tl,lf,s10,s11,s12,s13,eρ,P,hi2,hN⟩=>by
   exfalso
   have nn:=Nq hm.2 ha h01 hL.1 _ (vks _ P.ink)
   rw[qj]at hi2
   omega)
 refine⟨tl,lf,P,hs,by omega,?_⟩;rw[jq (F:=Rj) (by rfl) rfl];simp only[Rj,Yz,enter,qD];ext;rw[at0];ext;rw[hw,show(1:Int)*2^(m:Int).toNat=((2^m:Nat):Int)by rw[Xd,pc,dn],Ip nofun,Xd,show au (2^m) (D.int 0)=(st0 m).map D.int by rw[st0,Te]];ext;rw[Dp (Uu h0),<-hM];ext;have e2:zx (Mp [10] (run 1000 (evP 1000 G T (n+80)) G Yx)) (upto 0 (M+1).toNat) (Zv ws a m L ks hid cs M [] L .un .un .un .un)=.next ρ':=el;show fin (Wt (zx (Mp [10] (run 1000 (evP 1000 G T (n+80)) G Yx)) (upto 0 (M+1).toNat) (Zv ws a m L ks hid cs M [] L .un .un .un .un)) _)=_;rw[e2,er];have v:=vks _ P.ink;have lf':evP 1000 G T (n+80) "_law_left" [j6 (stT m L tl)]=.fresh ((lft m (stT m L tl)).map λ(k:Nat)=>D.int (k:Int)):=Bs (n:=n+79) hm v.len v.bd;have lu:evP 1000 G T (n+80) "_law_unlike" [qD ws a,j6 (stT m L tl)]=.fresh ((unL a m (stT m L tl)).map λ(s:Nat)=>D.int (s:Int)):=Wx (n:=n+78) hw hm ha v.len v.bd;rw[show unL a m (stT m L tl)=[]by unfold unL;rw[if_pos hs]]at lu;have hin:hid∈lft m (stT m L tl):=zf.mpr ⟨hh,by have:=P.cnt;have:=P.hl;omega⟩;have ec:((lft m (stT m L tl)).map λ(k:Nat)=>D.int (k:Int))=((lft m (stT m L tl)).map λ(k:Nat)=>(k:Int)).map D.int:=by rw[Xg];rfl
 have hc:((lft m (stT m L tl)).map λ(k:Nat)=>(k:Int)).contains (hid:Int)=aa:=Xr.mpr (Xk.mpr ⟨hid,hin,rfl⟩);unfold Zv;ext;rw[lf',ec];ext;rw[Rv,hc];ext;rw[lu];ext
end
theorem j1g{m s k:Nat}{L x:Int}{st:List Int}(h:k∈lft m (beh m L st s x)):k∈lft m st:=by
 obtain⟨h1,h2⟩:=zf.mp h;refine zf.mpr ⟨h1,λz=>h2 ?_⟩;rw[Z2 h1,z];split
 .rfl
 .unfold wal;rw[if_pos (.inl rfl)]
theorem j15{a:List Int}{m s:Nat}{L x:Int}{st:List Int}(ha:a.length=2^m)(h01:∀x∈a,x=0\/x=1)(h:stl a m st=aa):stl a m (beh m L st s x)=aa :=
 (Ui ha h01).mpr λk hk k' hk'=>(Ui ha h01).mp h k (j1g hk) k' (j1g hk')
noncomputable def ins(t:Nat×Int):List (Nat×Int)->List (List (Nat×Int))
 |[]=>[[t]]
 |u::r=>(t::u::r)::(ins t r).map (u :: ·)
noncomputable def jcs:List (Nat×Int)->List (List (Nat×Int))
 |[]=>[[]]
 |t::r=>(jcs r).flatMap (λp=>ins t p++[p])
noncomputable def pth(m:Nat)(L:Int):List Int->List (Nat×Int)->Bool
 |_,[]=>aa
 |st,t::r=>(unl m st).contains t.1&&(t.2==0 || t.2==1)&&pth m L (beh m L st t.1 t.2) r
noncomputable def okT(m:Nat)(L:Int)(tl:List (Nat×Int)):Bool:=decide ((lft m (stT m L tl)).length<=1) || (jcs tl).any λp=>decide (stT m L p=stT m L tl)&&pth m L (st0 m) p
noncomputable def Wh(m:Nat):List (Nat×Int):=(aA m).flatMap λs=>[(s,0),(s,1)]
noncomputable def j7z(m:Nat):List (List (Nat×Int)):=(Wh m).map (λt=>[t])++(Wh m).flatMap (λt=>(Wh m).map λu=>[t,u])++(Wh m).flatMap (λt=>(Wh m).flatMap λu=>(Wh m).map λv=>[t,u,v])
theorem j49:∀m:Fin 4,∀L:Fin 3,(j7z m.val).all (okT m.val ((L.val:Nat):Int))=aa:=by decide +kernel
theorem j6f{m:Nat}{t:Nat×Int}(h:t.1<m)(hx:t.2=0\/t.2=1):t∈Wh m:=by unfold Wh;refine List.mem_flatMap.mpr ⟨t.1,Xc.mpr h,?_⟩;obtain⟨s,x⟩:=t;rcases hx with e|e<;>(simp only at e;subst e;simp)
theorem j6g{m:Nat}{tl:List (Nat×Int)}(h1:1<=tl.length/\tl.length<=3)(h2:∀t∈tl,t.1<m/\(t.2=0\/t.2=1)):tl∈j7z m:=by
 have g:∀t∈tl,t∈Wh m:=λt ht=>j6f (h2 t ht).1 (h2 t ht).2;unfold j7z
 match tl,h1,g with
 |[t],_,g=>exact Xu _ (Xu _ (Xk.mpr ⟨t,g t (by simp),rfl⟩))
 |[t,u],_,g=>exact Xu _ (Xa _ (List.mem_flatMap.mpr ⟨t,g t (by simp),Xk.mpr ⟨u,g u (by simp),rfl⟩⟩))
 |[t,u,v],_,g=>exact Xa _ (List.mem_flatMap.mpr ⟨t,g t (by simp),List.mem_flatMap.mpr ⟨u,g u (by simp),Xk.mpr ⟨v,g v (by simp),rfl⟩⟩⟩)
 |[],h,_=>simp at h
 |_::_::_::_::_,h,_=>simp at h
section
variable{m:Nat}{a:List Int}{L:Int}{ks:List (List Int)}
theorem Ky(ha:a.length=2^m)(h01:∀x∈a,x=0\/x=1):∀(p:List (Nat×Int)) (st:List Int),stl a m st=aa->stl a m (p.foldl (λst t=>beh m L st t.1 t.2) st)=aa
 |[],_,h=>h
 |t::p,st,h=>Ky ha h01 p _ (j15 ha h01 h)
theorem j3u(ha:a.length=2^m)(h01:∀x∈a,x=0\/x=1)(cl:∀k∈ks,stl a m k=a9->∀s∈unl m k,∀x:Int,(x=0\/x=1)->beh m L k s x∈ks):∀(p:List (Nat×Int)) (st:List Int),st∈ks->pth m L st p=aa->stl a m (p.foldl (λst t=>beh m L st t.1 t.2) st)=a9->p.foldl (λst t=>beh m L st t.1 t.2) st∈ks
 |[],_,h,_,_=>h
 |t::p,st,h,hp,hs=>by
  unfold pth at hp;rw[Xb,Xb,Xr,Tg,beq_iff_eq,beq_iff_eq]at hp;have ns:stl a m st=a9:=by
   cases z:stl a m st with
   |false=>rfl
   |true=>rw[Ky ha h01 (t::p) st z]at hs;cases hs
  exact j3u ha h01 cl p _ (cl st h ns t.1 hp.1.1 t.2 hp.1.2) hp.2 hs
theorem reach(hm:m<=3)(hL:0<=L/\L<=2)(ha:a.length=2^m)(h01:∀x∈a,x=0\/x=1)(h0:st0 m∈ks)(cl:∀k∈ks,stl a m k=a9->∀s∈unl m k,∀x:Int,(x=0\/x=1)->beh m L k s x∈ks)
  {tl:List (Nat×Int)} (h1:1<=tl.length/\tl.length<=3) (h2:∀t∈tl,t.1<m/\(t.2=0\/t.2=1)) (hs:stl a m (stT m L tl)=a9):stT m L tl∈ks:=by
 have o:=Pa.mp (j49 ⟨m,by omega⟩ ⟨L.toNat,by omega⟩) tl (j6g h1 h2);rw[show(((⟨L.toNat,by omega⟩:Fin 3).val:Nat):Int)=L by show((L.toNat:Nat):Int)=L;omega]at o;have o:okT m L tl=aa:=o;unfold okT at o;rw[Tg]at o;rcases o with o|o
 .exfalso;have o:=of_decide_eq_true o;have:stl a m (stT m L tl)=aa:=(Ui ha h01).mpr λk hk k' hk'=>by
   match e:lft m (stT m L tl),o with
   |[],_=>rw[e]at hk;cases hk
   |[x],_=>rw[e]at hk hk';rw[xj.mp hk,xj.mp hk']
   |_::_::_,o=>simp at o
  rw[hs]at this;cases this
 .obtain⟨p,_,o⟩:=List.any_eq_true.mp o;rw[Xb]at o;have e:=of_decide_eq_true o.1;rw[<-e]at hs ⊢;exact j3u ha h01 cl p _ h0 o.2 hs
end
noncomputable def tlC(m:Nat)(cs:List Int):List (Nat×Int):=cs.map λc=>((c/2%(m:Int)).toNat,c%2)
theorem jeq{l:List Nat}:J1 .eq (.lst (l.map λ(s:Nat)=>D.int (s:Int))) (.lst [])=a8 (decide (l=[])):=by
 cases l with
 |nil=>simp[J1,D.dep,D.depL,deq,zb]
 |cons x l =>
  have e:(l.map λ(s:Nat)=>D.int (s:Int))=(l.map λ(s:Nat)=>(s:Int)).map D.int:=by rw[Xg];rfl
  have hd:D.depL ((x::l).map λ(s:Nat)=>D.int (s:Int))=0:=by rw[X5,e,show D.int (x:Int)::(l.map λ(s:Nat)=>(s:Int)).map D.int=((x:Int)::l.map λ(s:Nat)=>(s:Int)).map D.int from rfl,Ve]
  have hd2:(D.lst ((x::l).map λ(s:Nat)=>D.int (s:Int))).dep<=90/\(D.lst []).dep<=90:=by
   constructor
   .rw[D.dep,hd];decide
   .simp[D.dep,D.depL]
  show(if _ then a8 (deq _ _)else ae)=_;rw[if_pos hd2,decide_eq_false (by simp)];simp[deq,zb]
section
variable{n m:Nat}{ws:List aq}{a:List Int}{L:Int}{ks:List (List Int)}{cs:List Int}
theorem j5i(nd:ws.Nodup)(hw:ws.length=m)(hm:1<=m/\m<=3)(ha:a.length=2^m)(h01:∀x∈a,x=0\/x=1)(hL:0<=L/\L<=2)(hcs:cs.length<=3)(vks:∀k∈ks,Vs m L k)(h0:st0 m∈ks)
  (cl:∀k∈ks,stl a m k=a9->∀s∈unl m k,∀x:Int,(x=0\/x=1)->beh m L k s x∈ks) :
  evP 1000 G T (n+81) "_law_anyhow" [qD ws a,.int L,.dct ks ((ks.map (NN a m L)).map D.int),.lst (cs.map D.int)]=.val (.bl aa):=by
 have p8:=Qm hm.2;have p1:1<=2^m:=Pr (n:=2) (by decide) (Pj m);have pc:((2^m:Nat):Int)=(2:Int)^m:=by simp
 rw[jq (F:=Rn) (by rfl) rfl];simp only[Rn,U3,enter,qD];ext;rw[at0];ext;rw[hw,show(1:Int)*2^(m:Int).toNat=((2^m:Nat):Int)by rw[Xd,pc,dn],Ip nofun,Xd,show D.tup (au (2^m) (D.int 0))=j6 (stT m L (tlC m (cs.take 0)))by rw[fZ];simp only[j6,tlC,bT,stT,g6,st0,Te]];ext;refine Ji (λi ρ=>∃s7 s8 s9,ρ=[.val (.tup [.tup (ws.map D.str),.tup (a.map D.int)]),.val (.int L),.val (.dct ks ((ks.map (NN a m L)).map D.int)),.val (.lst (cs.map D.int)),.val (.int m),.val (j6 (stT m L (tlC m (cs.take i)))),.own (toD ws (tlC m (cs.take i))),s7,s8,s9]) ⟨.un,.un,.un,rfl⟩ ?_ ?_
 .rintro i d ρ hi ⟨s7,s8,s9,rfl⟩;rw[xq]at hi;obtain⟨c,et,ed⟩:=Xm.mp hi;subst ed;have hi':=(xr.mp et).1;have tk:tlC m (cs.take (i+1))=tlC m (cs.take i)++[((c/2%(m:Int)).toNat,c%2)]:=by rw[t8,et];unfold tlC;rw[Xl];rfl
  obtain⟨s,es⟩:∃s:Nat,c/2%(m:Int)=(s:Int):=⟨(c/2%(m:Int)).toNat,by have:=Pg (c/2) (show(m:Int)≠0 by omega);omega⟩
  have hs:s<m:=by have:=Pq (c/2) (show(0:Int)<m by omega);omega
  rw[es,Xd]at tk;have c01:c%2=0\/c%2=1:=by omega
  have tl1:1<=(tlC m (cs.take (i+1))).length/\(tlC m (cs.take (i+1))).length<=3:=by unfold tlC;rw[km,Xp];omega
  have tl2:∀t∈tlC m (cs.take (i+1)),t.1<m/\(t.2=0\/t.2=1):=λt ht=>by obtain⟨c,_,e⟩:=Xk.mp ht;rw[<-e];have:=Pq (c/2) (show(0:Int)<m by omega);have:=Pg (c/2) (show(m:Int)≠0 by omega);exact⟨by show(c/2%(m:Int)).toNat<m;omega,by show c%2=0\/c%2=1;omega⟩
  have len0:(toD ws (tlC m (cs.take i))).length<=3:=by unfold toD tlC;rw[km,km,Xp];omega
  have lb:evP 1000 G T (n+80) "_law_behind" [j6 (stT m L (tlC m (cs.take i))),.int L,.int m,.int (s:Int),.int (c%2)]=.val (j6 (stT m L (tlC m (cs.take (i+1))))):=by rw[tk,Q7];exact Y8 (n:=n+79) hm hL.1 Zu (Bj hL.1 _) hs
  have gw:atI (ws.map D.str) (s:Int)=a8 (.str (ws.getD s "")):=Qf (by rw[xq,kj,kh nofun];rfl);have tD:toD ws (tlC m (cs.take i))++[.tup [.str (ws.getD s ""),.int (c%2)]]=toD ws (tlC m (cs.take (i+1))):=by rw[tk];unfold toD;rw[Xl];rfl
  have lu:evP 1000 G T (n+80) "_law_unlike" [.tup [.tup (ws.map D.str),.tup (a.map D.int)],j6 (stT m L (tlC m (cs.take (i+1))))]=.fresh ((unL a m (stT m L (tlC m (cs.take (i+1))))).map λ(s:Nat)=>D.int (s:Int)):=Wx (n:=n+78) hw hm ha Zu (Bj hL.1 _);simp only[J4];ext;erw[es,at0,gw,tD];rw[Qu,lb];ext;generalize tlC m (cs.take (i+1))=tl at *;rw[Z8 (xs:=[.e (.tup [.tup (ws.map D.str),.tup (a.map D.int)]),.e (.int L),.w (toD ws tl)]) rfl,show[Rk.e (.tup [.tup (ws.map D.str),.tup (a.map D.int)]),.e (.int L),.w (toD ws tl)].map Rk.d=[qD ws a,.int L,.lst (toD ws tl)]from rfl];cases st:stl a m (stT m L tl) with
  |true =>
   have ak:=Zy (d:=.non) (.inl rfl) nofun (Wg (n:=n) nd hw hm ha h01 hL (λt ht=>(tl2 t ht).1) st)
   rw[show unL a m (stT m L tl)=[]by unfold unL;rw[if_pos st]]at lu;erw[ak,Y4 rfl,lu];exact⟨_,rfl,_,_,_,rfl⟩
  |false =>obtain⟨t,htu,hNN,ask⟩:=j0i (n:=n) nd hw hm ha h01 hL (λt ht=>(tl2 t ht).1) st;have ak:=Zy (d:=.str (ws.getD t "")) (.inr ⟨_,rfl⟩) nofun ask;have ht:=(Z6.mp htu).1;have ink:=reach hm.2 hL ha h01 h0 cl tl1 tl2 st;have v:=vks _ ink;have c2:=cl _ ink st t htu;have bd:evP 1000 G T (n+80) "_law_bad_step" [.tup [.tup (ws.map D.str),.tup (a.map D.int)],.int L,.dct ks ((ks.map (NN a m L)).map D.int),j6 (stT m L tl),.str (ws.getD t "")]=.val (.bl a9):=j5h (n:=n+78) nd hw hm hL v ink ht c2 hNN;have une:¬unl m (stT m L tl)=[]:=Ko hm.2 ha h01 st;have hc:ks.contains (stT m L tl)=aa:=Xr.mpr ink;rw[show unL a m (stT m L tl)=unl m (stT m L tl)by unfold unL;rw[if_neg (by rw[st];exact xf)]]at lu;erw[ak,Y4 rfl,lu];rw[jeq,decide_eq_false une];ext;rw[hc];ext;rw[Qu,bd];ext;exact⟨_,rfl,_,_,_,rfl⟩
 .rintro ρ ⟨s7,s8,s9,rfl⟩;ext
end
theorem j4f(c:Int):∃most:Nat,(most=2\/most=3)/\atI [D.int 2,.int 2,.int 3] (c%3)=a8 (.int (most:Int)):=by
 have h1:=Pg c (show(3:Int)≠0 by decide);have h2:=Pq c (show(0:Int)<3 by decide);have:c%3=0\/c%3=1\/c%3=2:=by omega
 rcases this with e|e|e<;>rw[e]
 .exact⟨2,.inl rfl,rfl⟩
 .exact⟨2,.inl rfl,rfl⟩
 .exact⟨3,.inr rfl,rfl⟩
theorem j6i{m:Nat}(h:1<=m/\m<=3):∃M:Nat,(M=2\/M=3)/\atI [D.int 3,.int 3,.int 3,.int 2] (m:Int)=a8 (.int (M:Int)):=by
 have:m=1\/m=2\/m=3:=by omega
 rcases this with e|e|e<;>subst e
 .exact⟨3,.inr rfl,rfl⟩
 .exact⟨3,.inr rfl,rfl⟩
 .exact⟨2,.inl rfl,rfl⟩
theorem j65:∀m:Fin 4,∀k:Fin 8,k.val<2^m.val->(jk 2 m.val ((k.val:Nat):Int)).foldl (λacc b=>2*acc+b) 0=((k.val:Nat):Int):=by decide +kernel
theorem j4i:∀m:Fin 4,∀L:Fin 3,1<=m.val->lft m.val (stT m.val ((L.val:Nat):Int) [(0,0),(0,1),(0,0),(0,1),(0,0),(0,1)])=[]:=by decide +kernel
theorem j7f{ns:List Int}{i j:Option Int}:∃l:List Int,cutD (ns.map D.int) i j=l.map D.int/\l.length<=ns.length:=by unfold cutD;refine⟨_,by rw[<-List.map_drop,<-List.map_take],?_⟩;rw[Xp,Tj];omega
theorem jak {n m:Nat} {ws:List aq} {a:List Int} {L:Int} {tl:List (Nat×Int)} (nd:ws.Nodup) (hw:ws.length=m) (hm:1<=m/\m<=3) (hL:0<=L/\L<=2) (ht:∀t∈tl,t.1<m):evP 1000 G T (n+6) "rows_left" [qD ws a,.int L,.lst (toD ws tl)]=.fresh (ju ((lft m (stT m L tl)).map λk=>jk 2 m ((k:Nat):Int))):=by have ts:=Fb (n:=n) (a:=a) nd hw hm hL ht;have fs:=Rh (n:=n+1) (a:=a) hw hm (Zu (m:=m) (L:=L) (tl:=tl));rw[jq (F:=Y9) (by rfl) rfl];simp only[Y9,Zh,enter];ext;erw[ts,fs]
theorem j7x{a:List Int}{m hid:Nat}{st:List Int}(ha:a.length=2^m)(h01:∀x∈a,x=0\/x=1)(h:stl a m st=aa)(hin:hid∈lft m st):zj a m st=au (lft m st).length (a.getD hid 0):=by unfold zj;rw[List.eq_replicate_iff];refine⟨km ..,λx hx=>?_⟩;obtain⟨k,hk,e⟩:=Xk.mp hx;rw[<-e];exact(Ui ha h01).mp h k hk hid hin
theorem jb3{l:List Int}(h:l≠[]):J1 .eq (.lst (l.map D.int)) (.lst [])=a8 a9:=by
 have hd2:(D.lst (l.map D.int)).dep<=90/\(D.lst []).dep<=90:=by
  constructor
  .rw[D.dep,Ve];decide
  .simp[D.dep,D.depL]
 show(if _ then a8 (deq _ _)else ae)=_;rw[if_pos hd2];cases l with
 |nil=>exact absurd rfl h
 |cons x l=>simp[deq,zb]
theorem ja7{l:List Int}:J1 .ne (.lst (l.map D.int)) (.lst (l.map D.int))=a8 a9:=by show(if _ then a8 (!zb _ _)else ae)=_;have:=Ve l;rw[if_pos ⟨by omega,by omega⟩,Vd _ nofun];rfl
theorem jg8(k:Nat)(v:Int):(au k [D.int v]).flatten=(au k v).map D.int:=by
 induction k with
 |zero=>rfl
 |succ k ih=>rw[ph,T5,ih,ph,X5];rfl
noncomputable def depth:Nat:=83
theorem lawTrue:∀ns:List Int,ns.length<=63->evP 1000 G T (depth+1) "law" [.lst (ns.map D.int)]=.val (.bl aa):=by
 intro ns hns;rw[jq (F:=j2v) (by rfl) rfl];simp only[j2v,j34,enter,depth];obtain⟨most,hmost,gm⟩:=j4f (jl ns 39);have mo:1<=most/\most<=6:=by omega
 have hm:=Fy (ns:=ns) (a:=0) (most:=most) mo;obtain⟨ws,⟨nd,wl⟩,qs⟩:=j0n (n:=81) (ns:=ns) (a:=0) (most:=most) (by decide) mo;have a01:=jbh (n:=81) (ns:=ns) (a:=0) (most:=most) mo;obtain⟨m,em⟩:∃m:Nat,m=Zd ns 0 most:=⟨_,rfl⟩
 have al:(Yk 81 ns 0 most).length=2^m:=by simp[Yk,<-em]
 rw[<-em]at hm wl;generalize Yk 81 ns 0 most=a at *;have hm3:1<=m/\m<=3:=by omega
 have p8:=Qm hm3.2;have p1:1<=2^m:=Pr (n:=2) (by decide) (Pj m);have pc:((2^m:Nat):Int)=(2:Int)^m:=by simp
 have qs:evP 1000 G T 83 "_law_question" [.lst (ns.map D.int),.int 0,.int most]=_:=qs;have cell:∀k:Nat,k<=50->evP 1000 G T 83 "_law_cell" [.lst (ns.map D.int),.int (k:Int)]=.val (.int (jl ns k)):=λk hk=>Yw Ke (k:=k) nofun
 obtain⟨M,hM,gM⟩:=j6i hm3;obtain⟨L,eL⟩:∃L,L=jl ns 3%(M:Int):=⟨_,rfl⟩
 have hL:0<=L/\L<=2:=by have:=Pg (jl ns 3) (show(M:Int)≠0 by omega);have:=Pq (jl ns 3) (show(0:Int)<M by omega);omega
 obtain⟨ks,h0,vks,cl,tb⟩:=j27 (n:=6) (ws:=ws) wl hm3 al a01 hL;obtain⟨hid,eh⟩:∃hid:Nat,jl ns 4%((2^m:Nat):Int)=(hid:Int):=⟨(jl ns 4%((2^m:Nat):Int)).toNat,by have:=Pg (jl ns 4) (show((2^m:Nat):Int)≠0 by omega);omega⟩
 have hh:hid<2^m:=by have:=Pq (jl ns 4) (show(0:Int)<((2^m:Nat):Int)by omega);omega
 obtain⟨rest,er,rl⟩:=j7f (ns:=ns) (i:=a8 41) (j:=a8 63);obtain⟨tl,lf,P,hs,htl,pl⟩:=j3w (n:=2) (cs:=jl ns 40::rest) (ks:=ks) nd wl hm3 al a01 hL hh (by simp) vks h0 cl;have lft':=jak (n:=77) (a:=a) nd wl hm3 hL P.sp;have any:=j5i (n:=2) (cs:=[jl ns 8,jl ns 9,jl ns 10]) (ks:=ks) nd wl hm3 al a01 hL (by simp) vks h0 cl;simp only[qD]at tb pl lft' any;have c39:evP 1000 G T 83 "_law_cell" [.lst (ns.map D.int),.int 39]=_:=cell 39 (by decide);have c3:evP 1000 G T 83 "_law_cell" [.lst (ns.map D.int),.int 3]=_:=cell 3 (by decide);have c4:evP 1000 G T 83 "_law_cell" [.lst (ns.map D.int),.int 4]=_:=cell 4 (by decide);have c40:evP 1000 G T 83 "_law_cell" [.lst (ns.map D.int),.int 40]=_:=cell 40 (by decide);have cutl:(cutD (ns.map D.int) (a8 41) (a8 63)).length<=63:=by rw[er,km];omega
 have hin:hid∈lft m (stT m L tl):=zf.mpr ⟨hh,by have:=P.cnt;have:=P.hl;omega⟩;ext;erw[c39,gm,qs,at0,c3];rw[wl,gM];ext;rw[<-eL,tb];ext;erw[c4,show(1:Int)*2^(m:Int).toNat=((2^m:Nat):Int)by rw[Xd,pc,dn],eh,c40,er];rw[Ql (l:=[.tup [.tup (ws.map D.str),.tup (a.map D.int)],.int L,.dct ks ((ks.map (NN a m L)).map D.int),.int (hid:Int),.lst ((jl ns 40::rest).map D.int)]) rfl,pl];ext;rw[Z8 (xs:=[.e (.tup [.tup (ws.map D.str),.tup (a.map D.int)]),.e (.int L),.w (toD ws tl)]) rfl,show[Rk.e (.tup [.tup (ws.map D.str),.tup (a.map D.int)]),.e (.int L),.w (toD ws tl)].map Rk.d=[.tup [.tup (ws.map D.str),.tup (a.map D.int)],.int L,.lst (toD ws tl)]from rfl,lft',jgc (Mz _)];ext;refine Ji (λi ρ=>∃s8 s9 s10,ρ=[.val (.lst (ns.map D.int)),.val (.tup [.tup (ws.map D.str),.tup (a.map D.int)]),.val (.int m),.val (.int L),.val (.dct ks ((ks.map (NN a m L)).map D.int)),.val (.int (hid:Int)),.own (toD ws tl),.own ((((lft m (stT m L tl)).take i).map λk=>a.getD k 0).map D.int),s8,s9,s10,.un,.un]) ⟨.un,.un,.un,rfl⟩ ?_ ?_
 .rintro i d ρ hi ⟨s8,s9,s10,rfl⟩;unfold ju at hi;rw[xq,xq]at hi;obtain⟨k,ek⟩:∃k,(lft m (stT m L tl))[i]?=a8 k:=by
   cases z:(lft m (stT m L tl))[i]? with
   |none=>rw[z]at hi;cases hi
   |some k=>exact⟨k,rfl⟩
  rw[ek]at hi;cases hi;have hk:=Bt (Xj ek);have ll:=Us (m:=m) (st:=stT m L tl);have rf:=j65 ⟨m,by omega⟩ ⟨k,by omega⟩ hk;simp only at rf;have tk:(lft m (stT m L tl)).take (i+1)=(lft m (stT m L tl)).take i++[k]:=by rw[t8,ek];rfl
  have tl3:((lft m (stT m L tl)).take i).length<=8:=by rw[Xp];omega
  have ga:=Di (p:=a) (k:=k) nofun
  rw[tk,Xl,Xl,Tf,Tf];simp only[J4];ext;refine Ws (λj ρ=>∃s10,ρ=[.val (.lst (ns.map D.int)),.val (.tup [.tup (ws.map D.str),.tup (a.map D.int)]),.val (.int m),.val (.int L),.val (.dct ks ((ks.map (NN a m L)).map D.int)),.val (.int (hid:Int)),.own (toD ws tl),.own ((((lft m (stT m L tl)).take i).map λk=>a.getD k 0).map D.int),.val (j6 (jk 2 m (k:Int))),.val (.int (((jk 2 m (k:Int)).take j).foldl (λacc b=>2*acc+b) 0)),s10,.un,.un]) ⟨s10,by rw[fZ];rfl⟩ ?_ ?_
  .rintro j d ρ hj ⟨s10,rfl⟩;rw[xq]at hj;obtain⟨b,eb,ed⟩:=Xm.mp hj;subst ed;have tk2:(jk 2 m (k:Int)).take (j+1)=(jk 2 m (k:Int)).take j++[b]:=by rw[t8,eb];rfl
   refine⟨_,?_,.val (.int b),rfl⟩;rw[tk2,iG];simp only[J4,T7,g6];generalize cD _ 0 _=acc;ext
  .rintro ρ ⟨s10,rfl⟩;rw[km,T4,rf];ext;erw[at1,ga];exact⟨_,rfl,_,_,_,rfl⟩
 .rintro ρ ⟨s8,s9,s10,rfl⟩;have el:(ju ((lft m (stT m L tl)).map λk=>jk 2 m ((k:Nat):Int))).length=(lft m (stT m L tl)).length:=by simp only[ju,km]
  rw[el,T4,show((lft m (stT m L tl)).map λk=>a.getD k 0)=zj a m (stT m L tl)from rfl,j7x al a01 hs hin];have lp:0<(lft m (stT m L tl)).length:=gP hin;have l8:=Us (m:=m) (st:=stT m L tl);generalize (lft m (stT m L tl)).length=q at *;have gh:=Di (p:=a) (k:=hid) nofun
  generalize a.getD hid 0=v at *;have rne:au q v≠[]:=λz=>by rw[List.replicate_eq_nil_iff]at z;omega
  have rlen:(au q v).length=q:=Tc;ext;erw[jb3 rne,at1,gh];rw[rlen,Xd,jg8,ja7];have c5:evP 1000 G T 83 "_law_cell" [.lst (ns.map D.int),.int 5]=_:=cell 5 (by decide);have c6:evP 1000 G T 83 "_law_cell" [.lst (ns.map D.int),.int 6]=_:=cell 6 (by decide);have c7:evP 1000 G T 83 "_law_cell" [.lst (ns.map D.int),.int 7]=_:=cell 7 (by decide);have c8:evP 1000 G T 83 "_law_cell" [.lst (ns.map D.int),.int 8]=_:=cell 8 (by decide);have c9:evP 1000 G T 83 "_law_cell" [.lst (ns.map D.int),.int 9]=_:=cell 9 (by decide);have c10:evP 1000 G T 83 "_law_cell" [.lst (ns.map D.int),.int 10]=_:=cell 10 (by decide);ext;erw[c5,c6,c7];refine Ji (λi ρ=>∃tl' s11,ρ=[.val (.lst (ns.map D.int)),.val (.tup [.tup (ws.map D.str),.tup (a.map D.int)]),.val (.int m),.val (.int L),.val (.dct ks ((ks.map (NN a m L)).map D.int)),.val (.int (hid:Int)),.own (toD ws tl'),.own ((au q v).map D.int),s8,s9,s10,s11,.un]/\(∀t∈tl',t.1<m)/\stl a m (stT m L tl')=aa/\tl'.length<=24+i) ⟨tl,.un,rfl,P.sp,hs,by omega⟩ ?_ ?_
  .rintro i d ρ hi ⟨tl',s11,rfl,h1,h2,h3⟩;obtain⟨c,ed⟩:∃c:Int,d=.int c:=by have:=Xj hi;simp only[xu,cC,or_false]at this;rcases this with z|z|z<;>exact⟨_,z⟩
   subst ed;have hi3:i<3:=(xr.mp hi).1;obtain⟨s,es⟩:∃s:Nat,c/2%(m:Int)=(s:Int):=⟨(c/2%(m:Int)).toNat,by have:=Pg (c/2) (show(m:Int)≠0 by omega);omega⟩
   have hsm:s<m:=by have:=Pq (c/2) (show(0:Int)<m by omega);omega
   have gw:atI (ws.map D.str) (s:Int)=a8 (.str (ws.getD s "")):=Qf (by rw[xq,kj,kh nofun];rfl);have tD:toD ws tl'++[.tup [.str (ws.getD s ""),.int (c%2)]]=toD ws (tl'++[(s,c%2)]):=by unfold toD;rw[Xl];rfl
   have h1':∀t∈tl'++[(s,c%2)],t.1<m:=λt ht=>by
    rcases Pk.mp ht with z|z
    .exact h1 t z
    .rw[xj.mp z];exact hsm
   have h2':stl a m (stT m L (tl'++[(s,c%2)]))=aa:=by rw[Q7];exact j15 al a01 h2
   have lt:(toD ws tl').length=tl'.length:=km ..;have ak:=Zy (n:=3) (d:=.non) (.inl rfl) (by rw[Xe,Tq];omega) (Wg (n:=3) nd wl hm3 al a01 hL h1' h2');refine⟨_,?_,tl'++[(s,c%2)],.val (.int c),rfl,h1',h2',by rw[Xe,Tq];omega⟩;simp only[J4];ext;rw[at0];ext;rw[es,gw];ext;rw[tD];ext;rw[Z8 (xs:=[.e (.tup [.tup (ws.map D.str),.tup (a.map D.int)]),.e (.int L),.w (toD ws (tl'++[(s,c%2)]))]) rfl,show[Rk.e (.tup [.tup (ws.map D.str),.tup (a.map D.int)]),.e (.int L),.w (toD ws (tl'++[(s,c%2)]))].map Rk.d=[qD ws a,.int L,.lst (toD ws (tl'++[(s,c%2)]))]from rfl,ak];ext
  .rintro ρ ⟨tl',s11,rfl,h1,h2,h3⟩;ext;erw[c8,c9,c10];rw[Ql (l:=[.tup [.tup (ws.map D.str),.tup (a.map D.int)],.int L,.dct ks ((ks.map (NN a m L)).map D.int),.lst ([jl ns 8,jl ns 9,jl ns 10].map D.int)]) rfl,any];have gw0:atI (ws.map D.str) 0=a8 (.str (ws.getD 0 "")):=Qf (n:=0) (by rw[xq,kj,kh nofun];rfl);have lg:stl a m (stT m L [(0,0),(0,1),(0,0),(0,1),(0,0),(0,1)])=aa:=by
    have z:=j4i ⟨m,by omega⟩ ⟨L.toNat,by omega⟩ hm3.1;have eLL:((L.toNat:Nat):Int)=L:=by omega
    simp only[eLL]at z;unfold stl zj;rw[z];rfl
   have ak:=Zy (n:=3) (d:=.non) (.inl rfl) (by simp) (Wg (n:=3) (tl:=[(0,0),(0,1),(0,0),(0,1),(0,0),(0,1)]) nd wl hm3 al a01 hL (λt ht=>by
    simp only[xu,cC,or_false]at ht
    rcases ht with z|z|z|z|z|z<;>rw[z]<;>exact hm3.1) lg)
   ext;erw[at0,gw0];rw[Ql (l:=[qD ws a,.int L,.lst (toD ws [(0,0),(0,1),(0,0),(0,1),(0,0),(0,1)])]) rfl,ak];ext
end K47
end
open PySem PySem.W PyProof.Rows
local macro_rules | `(tactic| walk_at "lf") => `(tactic| (refine' L2.lf_mk ?a ?l ?c ?k; (case a => k_is); (case l => k_is); (case c => k_is); (case k => k_is)))
set_option Elab.async false
namespace PySem.W.Fast
def tw7092241497238480290:=0
def tw12807207890147309385:=0
def tw4100946120861304469:=0
def tw7612260449461188328:=0
def tw3901905809855904001:=0
def tw16918592571082579613:=0
def tw9661948276101496594:=0
def tw2541575185288225999:=0
def tw7743895011853752027:=0
def tw2316412557323267009:=0
def tw15329481108116531798:=0
def tw13364883144376111105:=0
def tw9210971542737818419:=0
def tw14612851831491379944:=0
def tw17434665844318920813:=0
def tw1795627414302894297:=0
def tw17241060737378720050:=0
def tw4589346977227968159:=0
def tw4265429133303464372:=0
def tw14881610140005186728:=0
def tw5691721315146534343:=0
def tw8549120113203182852:=0
def tw14164227723046225259:=0
def tw4554349580142758088:=0
def tw16193944615547754495:=0
def tw4922563887998936663:=0
def tw2754987022604211178:=0
def tw5305172490562143564:=0
def tw3593654964977383163:=0
def tw2737338819842665987:=0
def tw4956130652788961784:=0
def tw6539753657484307977:=0
def tw7055902109055966633:=0
def tw583977104013414380:=0
def tw13335136622461360816:=0
def tw12246577403344858672:=0
def tw10494627223956088178:=0
def tw10284774131608129906:=0
def tw13590620916520644847:=0
def tw2002088070738513679:=0
def tw12823383375545374176:=0
def tw6866923005786417271:=0
def tw14200527470333387508:=0
def tw14916584635662867219:=0
def tw9873742163405890829:=0
def tw9043506405065992565:=0
def tw4258749732691170268:=0
def tw16808976519067387123:=0
def tw7390129689103502689:=0
def tw4103055389733816505:=0
def tw15930607686793990783:=0
def tw1551129715916919622:=0
def tw1316684361098964719:=0
def tw10692977598214414813:=0
def tw1676314614105989915:=0
def tw3503927129709432023:=0
def tw17863413190864307808:=0
def tw2881685420775165077:=0
def tw1515646255242865206:=0
def tw7561473929573328976:=0
def tw2844947638537282600:=0
def tw17437415065852598808:=0
def tw12126965652766517598:=0
def tw925618753905895173:=0
def tw14235015047120794565:=0
def tw10719513755076987113:=0
def tw10809845454542872973:=0
def tw8818093023938841242:=0
def tw5327904590159650662:=0
def tw6973342188654007379:=0
def tw9021293311903723213:=0
def tw4773368363852680380:=0
def tw8871364421055374046:=0
def tw9572469558057963705:=0
def tw799263042615965422:=0
def tw184645317485339181:=0
def tw1357643865590786848:=0
def tw4195923581135154411:=0
def tw6647727841983141472:=0
def tw17262546749812051562:=0
def tw1605182667642596839:=0
def tw6793425099729041654:=0
def tw3290762362009196777:=0
def tw10206971171301172797:=0
def tw13711646718369729553:=0
def tw15622737650812062246:=0
def tw9925232251885575368:=0
def tw9336818618040202478:=0
def tw11741200849321466125:=0
def tw11294575945252391495:=0
def tw10959620081885053625:=0
def tw15459337841820662266:=0
def tw1193516978044127170:=0
def tw2740548747437251435:=0
def tw3537340235911155021:=0
def tw454746245843039276:=0
def tw11282672860471839238:=0
def tw1356652648821192215:=0
def tw17597620477653501738:=0
def tw10659036611985800083:=0
def tw1161012993252064585:=0
def tw11827914058409318387:=0
def tw7932179668014778304:=0
def tw569924305674381786:=0
def tw13147323902883679190:=0
def tw3424346365886593929:=0
def tw6119158781012869323:=0
def tw6420875129125598160:=0
def tw12733386655994872145:=0
def tw1126738784107396848:=0
def tw13247851562051437514:=0
def tw3879133628615040920:=0
def tw12910224202901422607:=0
def tw8145479734471970298:=0
def tw17634734527135333462:=0
def tw2126662045278885998:=0
def tw4491899918719012249:=0
def tw13276976533842071355:=0
def tw6232744845774092543:=0
def tw13545315833335657173:=0
def tw3065403809790196795:=0
def tw9588728636547525768:=0
def tw15543641466837002294:=0
def tw15511893177847200323:=0
def tw12133884135180994395:=0
def tw9702301130306270247:=0
def tw13628877144065982750:=0
def tw15433704541987302833:=0
def tw777580449709237525:=0
def tw10606043996032405609:=0
def tw12865863287455000249:=0
def tw1487595375045681590:=0
def tw13069520285545380588:=0
def tw18367704593290837334:=0
def tw13386408896529637133:=0
def tw7681801775652631114:=0
def tw10118251244681042839:=0
def tw16945750646423709745:=0
def tw15242168851936227104:=0
def tw16065389031469944677:=0
def tw944107062496475208:=0
def tw4208694619775260238:=0
def tw2483313756856254782:=0
def tw8526602347909169092:=0
def tw6887343862032718950:=0
def tw16387458677723004604:=0
def tw14433706556584542:=0
def tw18189698755477211054:=0
def tw9139994241870708449:=0
def tw12558336456967390709:=0
def tw13507593189718743388:=0
def tw10493464537244978688:=0
def tw13333781793987646364:=0
def tw16671969832939788101:=0
def tw11541706165792280827:=0
def tw7167825629568794446:=0
def tw7531344088688122754:=0
def tw15529651137287486687:=0
def tw6371262499119441682:=0
def tw14794039376771499080:=0
def tw7559259251147330024:=0
def tw8512253904515445813:=0
def tw5869326072107579049:=0
def tw12095543968193528493:=0
def tw14508573383018443673:=0
def tw46281483323490780:=0
def tw6104528170258367643:=0
def tw1310547281805575889:=0
def tw18040799556670359110:=0
def tw1864715650520813661:=0
def tw16824631801213019046:=0
def tw6621641526849967032:=0
def tw9169244662987954429:=0
def tw4631836295994191748:=0
def tw10650323362208085986:=0
def tw17363964070935366018:=0
def tw9040538762074750280:=0
def tw11942976763726872541:=0
end PySem.W.Fast
set_option maxRecDepth 100000 in
set_option maxHeartbeats 0 in
theorem PySem.Challenge.cw_leastasks_k47_whole_lies_settled_holds : PySem.Challenge.rw_leastasks_k47_whole_lies_settled.Holds := by
  w_on; o_law; k_head; (case hw => w_witness2)
  k_fill
  refine L2.walkL (l := PySem.Challenge.rw_leastasks_k47_whole_lies_settled) (k := L2.lv (K47.depth + 1)) (x := "_law_script") (by decide) rfl rfl (ts := []) (fun w h Y => ⟨PySem.W.kIn_of Y, fun _ h => nomatch h⟩) ?tz ?F
  case tz => intro w; kernel_rfl
  case F =>
    intro w mg fa h KX Gn hmg tz
    refine' K47.head KX Gn hmg ?h0 ?h1 ?h2 ?h3 ?h4 ?h5 ?h6 ?h7 ?h8 ?h9 ?h10 ?h11 ?h12 ?h13 ?h14 ?h15 ?h16 ?h17 ?h18 ?h19 ?h20 ?h21 ?h22 ?h23 ?h24 ?h25 ?h26 ?h27 ?h28 ?h29 ?h30 ?h31 ?h32 ?h33 ?bz tz ?gn0 ?gn1 ?ga2l ?gn2 ?gn3 ?gn4 ?gn5 ?gn6 ?exa K47.lawTrue
    (case h0 => walk_at "lf")
    (case h1 => walk_at "lf")
    (case h2 => walk_at "lf")
    (case h3 => walk_at "lf")
    (case h4 => walk_at "lf")
    (case h5 => walk_at "lf")
    (case h6 => walk_at "lf")
    (case h7 => walk_at "lf")
    (case h8 => walk_at "lf")
    (case h9 => walk_at "lf")
    (case h10 => walk_at "lf")
    (case h11 => walk_at "lf")
    (case h12 => walk_at "lf")
    (case h13 => walk_at "lf")
    (case h14 => walk_at "lf")
    (case h15 => walk_at "lf")
    (case h16 => walk_at "lf")
    (case h17 => walk_at "lf")
    (case h18 => walk_at "lf")
    (case h19 => walk_at "lf")
    (case h20 => walk_at "lf")
    (case h21 => walk_at "lf")
    (case h22 => walk_at "lf")
    (case h23 => walk_at "lf")
    (case h24 => walk_at "lf")
    (case h25 => walk_at "lf")
    (case h26 => walk_at "lf")
    (case h27 => walk_at "lf")
    (case h28 => walk_at "lf")
    (case h29 => walk_at "lf")
    (case h30 => walk_at "lf")
    (case h31 => walk_at "lf")
    (case h32 => walk_at "lf")
    (case h33 => walk_at "lf")
    (case gn0 => k_is)
    (case gn1 => k_is)
    (case gn2 => k_is)
    (case gn3 => k_is)
    (case gn4 => k_is)
    (case gn5 => k_is)
    (case gn6 => k_is)
    (case ga2l => k_is)
    (case bz => kernel_rfl)
    (case exa => kernel_rfl)
#print axioms PySem.Challenge.cw_leastasks_k47_whole_lies_settled_holds