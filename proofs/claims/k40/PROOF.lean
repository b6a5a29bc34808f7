import PyProof.Rows.All
import Wide.All
import OpenK.AllK
import Wide.FinOn
import Lean
import PyProof.EqAt
import PyProof.EqKinds
import PyProof.TupleCall
import PyProof.Rows.SetFrom
import KE.KDictList
import KE.KMinKey
import PyProof.ListRange
import KE.KRevIter
import PyProof.TupleOfGen
import PyProof.StrBlockL
import PySem.Challenge.RW_leastasks_k40_round_table_cells
set_option Elab.async false
set_option linter.all false
set_option maxRecDepth 100000
set_option maxHeartbeats 4000000
set_option genSizeOf false
set_option genInjectivity false
open Option renaming some→a3,none→a7,getD_some→cZ,isSome_some→dG,map_some→eQ,join_some→i6,getD_none→i7,bind→jA
open Bool renaming false→a4,true→a6,or_eq_true→bQ,eq_iff_iff→dq,false_and→fB,and_false→fC,true_and→fU,not_eq_true'→iy,or_false→jC,false_or→jD,and_true→jE
open PySem renaming wpAny_bind→a5,Value→a8,starEach→a9,Addr→aa,Shared→ae,Str→af,wpAny_pure→ah,Expr→ai,sizeLine→aj,wpAny→ao,Program→aq,mainGlobals→au,model→aw,World→ax,eval→ay,Around→az,Heap→aB,foldedSetIterable→aD,behindInMarks→aE,wpAny_newObj_type→aF,Pos→aG,FuncData→aH,compareOp→aI,cellsFrom→aJ,cLine→aL,wpAny_Call_Name_kw→aM,swapsWith→aN,backTo→aP,argBest→aQ,attributeBase→aT,bootBuiltins→aU,binaryOp→aV,Stmt→aW,Scope→aX,wpAny_truthy_bool→b0,Keyword→b7,keywordEach→b9,NameKind→ba,wpAny_call_entry→bg,wpAny_callSpecial?_slot→bh,wpAny_typeNameOfWhole_valiter→bo,wpAny_mono→bp,assignEach→bq,wpAny_pyIter_list→bE,call_meets→bN,codeAny_mono→bP,wpAny_typeNameOf_valiter→bX,backToKw→bY,codeAny_builtin→c7,wpAny_field→cf,codeAny→cu,plainId_quiet→cD,sliceBounds→cH,wpAny_passesOwn→cS,wpAny_seqItems→d7,builtinsNs→d8,Obj→de,Env→dh,rawInt→dj,draw→dv,Arguments→dw,wpAny_pyNext_list_item→dC,sysModules→dD,wpAny_loadPart'→dE,letOwnedTupleGo→dF,wpAny_isOneOf_valiter→dP,wpAny_tryCatch→dR,wpAny_setField→dS,recursionLimit→dU,pyNext→dW,intItems→dX,firstArgMember→dY,bindArgs→dZ,assign→eA,JoinOk→eB,IsPart→eC,GenState→eD,tupleKind→eF,intKind→eG,codeAmong→eJ,Builtin→eK,wpAny_holding→eP,wpAny_pyIter_tuple→eW,typeIs_int→eX,isTrue→eY,closureFor→eZ,wpAny_dictEntries→ff,concat_meets→fg,callerA→fh,boot_len→fi,CmpOp→fj,BindsTo→fm,seqItems?→fF,noFill_tuple_add→fG,Result→fH,PassesOwn→fJ,DictEntry→fK,wpAny_of_eq→fO,wpAny_letGo→fP,richCompare→fQ,numAt→fR,wpAny_updateSeq→fX,wpAny_execs_nil→fY,wpAny_dictEpoch→fZ,wpAny_call→gp,typeIs_str→gq,newFunctionEnv→gr,wpAny_binaryOp_repeat_ref→gD,wpAny_standAt→gO,wpAny_comprehension_free→gP,seq_tuple_add→gQ,call→gR,Tok→gW,pushCells→hZ,bindL→i3,bindC→i4,again→i5,seqSlot_of→ie,richCompare_meets_room→ig,pyIter→ij,getItem→ip,wpAny_pyNext_list_end→iC,wpAny_isTrue_Compare1→iD,sizeLine_eq→iJ,lookup_relabel_local→iK,intItems_at→iL,atKey→iM,Operator→iN,wpAny_Name→j2,tupleKind_room_in1→j3,entryOfKey→ja,defaultsOf→js,wpAny_pyIter_enum→jI,wpAny_assign_Name→jJ,standAt→jK,spliced→jL,holding→jM,call_sum_walkAnyS→jN,Model→jO,Meets→jP,ItemsOf→jQ,wpAny_forIn_list→ka,wpAny_execs_cons→kc,lastMarks→ke,pushCells_keeps→kH,wpAny_fieldsOf→kQ,wpAny_Compare1→kR,newExc→kS,Params→kT,wpAny_handled→kX,wpAny_attempt→kY,intBits_le_64→kZ,evalPart_none→l5,call_list_seq→l6
open List renaming replicate→ak,range→ar,take_length→bF,drop_eq_getElem_cons→bJ,getD_cons_succ→bK,filterMap_cons→bL,filter_cons_of_pos→bS,filter_cons_of_neg→bT,range_succ_eq_map→c8,map_nil→c9,length_singleton→cj,range_succ→cz,length_zipIdx→cL,getElem?_append_right→cM,foldl→cN,getElem?_set→cX,any_cons→d4,getElem?_cons_succ→d9,of_mem_zip→dk,nil_append→dm,length_replicate→du,length→dA,toList_toArray→dH,mem_map_of_mem→dJ,getD_cons_zero→dM,countP_filter→dQ,not_mem_nil→eR,cons_append→eT,range_add→fv,nodup_nil→fw,drop_zero→fA,all_cons→fT,getElem?_set_self→gc,take_append_drop→gv,mem_of_mem_take→gE,getElem?_zipIdx→gG,getElem?_set_ne→gH,getElem?_mapIdx→gJ,zip_cons_cons→i8,countP_append→i9,reverse_cons→iu,getElem_take→iv,foldl_append→iw,mem_flatMap→iE,getElem_inj→iF,drop_length→iG,any_toArray→iH,mem_zipIdx→iP,find?_cons→iQ,filter_nil→iR,filter_map→iS,countP_map→iT,map_drop→jB,all_map→jR
open Option.some renaming inj→av
open PySem.Value renaming ref→aA,none→aK,int→b8,bool→be,str→bA,type→cg,notImplemented→gf,isInt→jG
open PySem.Builtin.Str renaming strSliceIndices→aC,tooLong→cc,occurrences→eO,glued→kP
open PySem.Builtin.SmallTypes renaming nextOf→aO
open False renaming elim→aR
open PySem.Builtin.Tuple renaming tupleExact→aS,tupleCompareSizes→dr,tupleTooMany→dN,tupleItemsOf→k7
open Or renaming inl→aY,inr→bu
open PySem.NameKind renaming free→aZ,cell→bf
open PyProof.Rows renaming envOfC→bc,IntsAre→cE,AllBare→di,seqObj→eE,IsTup→gu,subscriptTail_builtinR→iq,boot_min→iO,slot_tuple_getitem→jv,get?_update_seq→kI,boot_isinstance→kJ,tail_any→kU,slicePart_none→kW,subscriptTail→l7,Constant_none→l8
open PySem.Builtin.Slice renaming slicePlaces→bj,sliceAdjust→cq,sliceApplied→dO,slicePartIndex→k8,sliceFields→k9
open PySem.Builtin.List renaming listTooLong→br,listExtendWith→kF
open PySem.Heap renaming size_push→bx,SameBut→bZ,ExtBut→dy,get?_update_self→gh
open Nat renaming pow_le_pow_right→bB,lt_of_le_of_lt→bR,zero_le→bU,mul_comm→cJ,le_of_lt→cK,lt_succ_of_lt→d0,lt_succ_self→df,mod_eq_of_lt→f6,mul_assoc→g6,one_mul→gX,mul_le_mul_right→gY,add_sub_cancel→ir,not_lt_zero→iY,succ_mul→kg,sub_zero→ki,min_self→kl,pow_pos→kK
open PySem.PassesOwn renaming never→bC,leaving→gb
open PySem.AutoSeq1 renaming wpAny_loadPart'→bD,sub_tuple_tuple→fb
open ForInStep renaming yield→bG
open Array renaming getElem?_eq_getElem→bH,length_toList→cA,append_inj_right→g9,getElem?_toList→gd,toList→jF
open PySem.F renaming slot_tuple_iterator_next→bI,args_tuple_add_2→cR,plainAttrs_list→cV,entry_tuple_add→cW,slot_tuple_add→d5,entry_min_loop→d6,slot_int_rmul→dz,args_dict_valueiterator_next_1→eV,entry_dict_valueiterator_next→f9,args_tuple_lt_2→fq,entry_tuple_lt→fD,args_tuple_iterator_next_1→fE,slot_tuple_lt→fM,entry_tuple_iterator_next→fN,slot_tuple_count→gi,slot_list_extend→gj,slot_list_append→gk,slot_dict_values→gn,slot_list_count→gB,slot_dict_values_iter→gC,slot_str_join→hJ,args_object_init_2→ic,args_tuple_mul_2→iI,plain_tuple_new→iU,plain_list_iadd→iV,entry_tuple_mul→iW,args_int_rmul_2→iX,slot_tuple_mul→iZ,entry_int_rmul→j1,fills_int_mul→jH
open PySem.Txt renaming slice→bM,join→dB,mul→ib
open PySem.Builtin.Dict_items renaming ownsTuple→bO,newIterator→iA,dictOf→iB
open Int renaming pow_pos→bV,le_refl→bW,add_mul_ediv_left→ck,natCast_mul→cB,natCast_add→cC,mul_comm→dn,ne_of_gt→eN,mul_le_mul_of_nonneg_right→f7,fdiv_eq_ediv_of_nonneg→fL,pow_succ→gw,le_of_lt→gx,add_comm→gy,mul_ediv_add_emod→gK,one_mul→gZ,mul_assoc→jS,neg_mul→kL,mul_one→kM
open PySem.W renaming mg_of→cb,nsIn→cU,OpenLaw→cY,KdlSrc→eU,WalkO→gL,CodeHd→ia,Frag→kN
open Ne renaming symm→cw
open List.Sublist renaming refl→cy
open PySem.Str renaming ofString→cF,cps→jT,length→kO
open PySem.SeqAt renaming EqAt→cG,RcAt→fc
open Function renaming comp→cO
open PySem.Obj renaming mapSeq→cP,data_mapFields→cQ,mapFields→fV,isFreed_of_fields→gz,cls_mapFields→iz
open Classical renaming propDecidable→cT
open Sum renaming inr→eL,inl→eM
open PySem.Calls renaming Name_function_global→fe,callWith_builtin→fW,spliced_cons→gM,spliced_nil→hV
open PySem.EqMixed renaming ne_str_int→jU,ne_str_bool→jV,ne_int_str→jW,ne_bool_str→jX,eq_str_int→jY,eq_str_bool→jZ,eq_int_str→k5,eq_bool_str→k6
open PySem.EqNone renaming ne_str_none→kn,ne_none_str→ko,ne_none_none→kq,ne_none_int→kr,ne_none_bool→ku,ne_int_none→kv,ne_bool_none→kx,eq_str_none→ky,eq_none_str→kz,eq_none_none→kA,eq_none_int→kB,eq_none_bool→kC,eq_int_none→kD,eq_bool_none→kE
def kh:=@List.getElem?_eq_getElem
def kj:=@List.length_map
def km:=@List.getD_eq_getElem?_getD
def xf:=@List.mem_cons_of_mem
def xg:=@PySem.Heap.get?_push_of_some
def xj:=@Bool.false_ne_true
def xm:=@List.mem_cons_self
def xn:=@List.length_cons
def xq:=@List.mem_singleton
def xr:=@List.mem_cons
def xu:=@PySem.Heap.lt_size
def xx:=@List.getElem?_map
def X3:=@Nat.le_refl
def X4:=@List.map_cons
def X5:=@PySem.Heap.get?_push_size
def X6:=@List.size_toArray
def X7:=@List.getElem?_eq_some_iff
def X8:=@List.mem_map
def Xa:=@List.map_map
def Xb:=@Nat.ne_of_lt
def Xc:=@List.length_append
def Xd:=@List.map_append
def Xe:=@List.length_range
def Xf:=@List.mem_append_right
def Xg:=@Nat.lt_of_lt_of_le
def Xh:=@Nat.le_trans
def Xi:=@Int.toNat_natCast
def Xj:=@List.mem_range
def Xk:=@Bool.and_eq_true
def Xl:=@List.lookup_cons
def Xm:=@List.nodup_cons
def Xn:=@List.length_take
def Xo:=@List.mem_of_getElem?
def Xp:=@List.append_nil
def Xq:=@List.countP_cons
def Xr:=@Option.isSome_iff_exists
def Xu:=@List.mem_filter
def Xv:=@List.length_filter_le
def Xw:=@List.getElem?_eq_none
def Xx:=@List.getElem?_range
def Xy:=@List.map_congr_left
def Xz:=@List.getElem_mem
def ph:=@Option.map_eq_some_iff
def pq:=@Bool.false_eq_true
def P0:=@Nat.lt_irrefl
def Pa:=@Nat.lt_trans
def Pb:=@List.mem_append
def Pg:=@PySem.mem_of_lookup
def Ph:=@List.mem_iff_getElem
def Pj:=@PySem.F.plain_min_loop
def Pk:=@List.replicate_succ
def Pn:=@List.getElem?_append_left
def Pq:=@PySem.F.slot_dict_valueiterator_next
def Pr:=@List.all_eq_true
def Pu:=@List.set_cons_succ
def Px:=@Nat.pow_succ
def Py:=@Int.emod_nonneg
def Pz:=@List.length_set
def t6:=@PySem.Heap.SameBut.update
def t7:=@Nat.ne_of_gt
def t8:=@Int.ediv_eq_zero_of_lt
def tu:=@List.mem_filterMap
def T3:=@List.set_cons_zero
def T4:=@Nat.le_succ
def T5:=@List.mem_append_left
def T6:=@List.length_nil
def T7:=@List.foldl_cons
def T8:=@PySem.Around.under_plainId
def T9:=@Nat.zero_add
def Tc:=@Int.zero_add
def Td:=@List.append_assoc
def Te:=@Array.toList_append
def Tf:=@List.length_drop
def Tg:=@List.take_of_length_le
def Th:=@List.filter_append
def Ti:=@Int.emod_lt_of_pos
def Tn:=@List.flatten_cons
def Tp:=@Nat.lt_of_succ_le
def Tq:=@List.take_add_one
def Tt:=@List.ext_getElem?
def k7l:=@And.intro
abbrev k7m:=kN
abbrev k7n:=a8→ae→Prop
abbrev k7o:=List (aa×de)
abbrev k7p:=af→Option a8
abbrev k7q:=("__debug__":af)
abbrev k7r:=("__classdict__":af)
local macro_rules | `(tactic| omega)=>`(tactic| first | with_reducible assumption | with_reducible exact Nat.le_of_lt (by assumption) | with_reducible exact Nat.le_refl _ | lia)
local macro_rules | `(nofun)=>`(by omega)
section
namespace L2
open PySem PySem.Spec PyProof.Rows
noncomputable abbrev Key:=Sum Int af
noncomputable def j7m:Key->a8->Bool
 |.inl k,v=>jG k v
 |.inr x,v=>Value.isStrOf x v
noncomputable def jgm(w:ax):Key->Int
 |.inl k=>hashInt k
 |.inr x=>hashStr w x
theorem zu:∀{k:Key}{v:a8},j7m k v=a6->(∃i t,k=eM i/\v=b8 i t)\/(∃x t,k=eL x/\v=bA x t)
 |.inl i,v,h=>by obtain⟨t,e⟩:=Value.isInt_shape (k:=i) (v:=v) h;exact .inl ⟨i,t,rfl,e⟩
 |.inr x,v,h=>by obtain⟨t,e⟩:=Value.isStrOf_shape (x:=x) (v:=v) h;exact .inr ⟨x,t,rfl,e⟩
theorem jch(a b:Int):decide ((eM a:Key)=eM b)=(a==b):=by
 by_cases e:a=b
 .subst e;simp
 .have h:¬(eM a:Key)=eM b:=λq=>e (Sum.inl.inj q);rw[decide_eq_false h];exact(beq_eq_false_iff_ne.mpr e).symm
theorem jce(a b:af):decide ((eL a:Key)=eL b)=decide (a=b):=by
 by_cases e:a=b
 .subst e;simp
 .have h:¬(eL a:Key)=eL b:=λq=>e (Sum.inr.inj q);rw[decide_eq_false h,decide_eq_false e]
theorem jcg(a:Int)(b:af):decide ((eM a:Key)=eL b)=a4:=decide_eq_false (λq=>nomatch q)
theorem jcf(a:af)(b:Int):decide ((eL a:Key)=eM b)=a4:=decide_eq_false (λq=>nomatch q)
noncomputable def Er(prog:aq)(w:ax):PySem.KeyKind prog w Key where
 is:=j7m
 hash:=jgm w
 inj:=λv a b ha hb=>by
  rcases zu ha with ⟨i,t,rfl,rfl⟩|⟨x,t,rfl,rfl⟩
  .rcases zu hb with ⟨j,u,rfl,e⟩|⟨y,u,rfl,e⟩
   .injection e with e1 _;rw[e1]
   .exact nomatch e
  .rcases zu hb with ⟨j,u,rfl,e⟩|⟨y,u,rfl,e⟩
   .exact nomatch e
   .injection e with e1 _;rw[e1]
 byValue:=λk v h=>by rcases zu h with ⟨i,t,rfl,rfl⟩|⟨x,t,rfl,rfl⟩<;>rfl
 pyHash:=λhv h=>by
  rcases zu hv with ⟨i,t,rfl,rfl⟩|⟨x,t,rfl,rfl⟩
  .exact wpAny_pyHash_int h
  .exact wpAny_pyHash_str h
 eqBool:=λhu hv h=>by
  rcases zu hu with ⟨i,t,rfl,rfl⟩|⟨x,t,rfl,rfl⟩
  .rcases zu hv with ⟨j,u,rfl,rfl⟩|⟨y,u,rfl,rfl⟩
   .rw[jch]at h;exact wpAny_eqBool_int h
   .rw[jcg]at h;exact SeqAt.EqAt.int_str i t y u _ _ _ _ h
  .rcases zu hv with ⟨j,u,rfl,rfl⟩|⟨y,u,rfl,rfl⟩
   .rw[jcf]at h;exact SeqAt.EqAt.str_int x t j u _ _ _ _ h
   .rw[jce]at h;exact wpAny_eqBool_str h
 «strs»:=λk x t v h=>by
  rcases zu h with ⟨i,u,rfl,e⟩|⟨y,u,rfl,e⟩
  .exact nomatch e
  .injection e with e1 _;subst e1;cases v<;>rfl
set_option genInjectivity true in
inductive V where
 |non|bl (b:Bool)|int (i:Int)|str (x:af)|byt (b:Array UInt8)|flt (b:UInt64)|ref (a:aa)|ty (n:String)
 deriving DecidableEq
def RelV:V->a8->Prop
 |.non,u=>u=aK
 |.bl b,u=>u=be b
 |.int i,u=>∃t,u=b8 i t
 |.str x,u=>∃t,u=bA x t
 |.byt b,u=>∃t,u=Value.bytes b t
 |.flt b,u=>∃t,u=Value.float b t
 |.ref a,u=>u=aA a
 |.ty n,u=>u=cg n
abbrev Vals:List V->List a8->Prop:=Paired RelV
theorem Vals.length{xs:List V}{us:List a8}(r:Vals xs us):xs.length=us.length:=Paired.length r
theorem Vals.get:∀{xs:List V}{us:List a8}{i:Nat}{x:V},Vals xs us->xs[i]?=a3 x->∃u,us[i]?=a3 u/\RelV x u
 |_,_,_,_,.nil,e=>by simp at e
 |_,_,0,_,.cons r _,e=>by simp at e;subst e;exact⟨_,rfl,r⟩
 |_,_,i+1,x,.cons _ t,e=>by obtain⟨u,h1,h2⟩:=Vals.get (i:=i) (x:=x) t (by simpa using e);exact⟨u,by simpa using h1,h2⟩
theorem Vals.append:∀{xs ys:List V}{us ws:List a8},Vals xs us->Vals ys ws->Vals (xs++ys) (us++ws)
 |_,_,_,_,.nil,s=>s
 |_,_,_,_,.cons r t,s=>.cons r (Vals.append t s)
theorem Vals.take:∀{xs:List V}{us:List a8}(n:Nat),Vals xs us->Vals (xs.take n) (us.take n)
 |_,_,0,_=>.nil
 |_,_,_+1,.nil=>.nil
 |_,_,n+1,.cons r t=>.cons r (Vals.take n t)
theorem Vals.drop:∀{xs:List V}{us:List a8}(n:Nat),Vals xs us->Vals (xs.drop n) (us.drop n)
 |_,_,0,r=>r
 |_,_,_+1,.nil=>.nil
 |_,_,n+1,.cons _ t=>Vals.drop n t
def je5:Option V->Option a8->Prop
 |some v,a3 u=>RelV v u
 |none,a7=>True
 |_,_=>False
def KV{κ:Type}:List (κ×V)->List (κ×a8)->Prop:=Paired λ(p:κ×V) (q:κ×a8)=>p.1=q.1/\RelV p.2 q.2
noncomputable def kV:Key->V
 |.inl i=>.int i
 |.inr x=>.str x
inductive HO where
 |lst (xs:List V)
 |tup (xs:List V)
 |dK (kvs:List (Key×V))|dT (kvs:List (List Key×V))
 |dI (xs:List (List Int×aa×a8)) (ep:Nat)
 |set (S:Int->Bool) (n:Nat)
 |ins (C dx:aa) (fs:List (af×V))
 |own (x:aa)
 |xd (fs:List (af×V))
 |met (f x:aa)
 |rng (lo hi:Int)
 |frz (o:de) (u:HO)
 |tbl (ps:Array a8)
 |cod (q:af)
 |ext (φ:aB->Prop)
noncomputable abbrev Hp:=aa->Option HO
noncomputable def upd(H:Hp)(a:aa)(o:HO):Hp:=λb=>if b=a then a3 o else H b
theorem j9{H:Hp}{a:aa}{o:HO}:upd H a o a=a3 o:=by unfold upd;rw[if_pos rfl]
theorem ji{H:Hp}{a b:aa}{o:HO}(h:b≠a):upd H a o b=H b:=by unfold upd;rw[if_neg h]
theorem zr{H:Hp}{a b:aa}{o:HO}(h:H a=a3 o)(h':H b=a7):a≠b:=by intro e;subst e;rw[h]at h';cases h'
def Z5(h:aB)(a:aa):Prop:=∀o,h.get? a=a3 o->o.dict=a7
theorem Z5.new(h:aB)(xs:Array a8):Z5 (h.push { cls:=.type "tuple",data:=.seq xs }) h.objs.size:=λo e=>by have z:(h.push { cls:=.type "tuple",data:=.seq xs }).get? h.objs.size=a3 { cls:=.type "tuple",data:=.seq xs }:=X5 _ rfl;rw[z]at e;cases e;rfl
theorem Z5.of{h:aB}{a:aa}{d:Data}{c:a8}(e:h.get? a=a3 { cls:=c,data:=d }):Z5 h a:=λo e'=>by rw[e]at e';cases e';rfl
def Od(o:de)(q:af):Prop:=∃(vs:Array a8)(t:gW),o.data=.fields vs/\vs[1]?=a3 (.str q t)
section
variable(P:aq)(w:ax)
def je(H:Hp)(h:aB)(a:aa):HO->Prop
 |.lst xs=>xs.length<=aj/\∃(its:List a8)(n:Nat),Vals xs its/\h.get? a=a3 { cls:=.type "list",data:=.seq its.toArray n }
 |.tup xs=>xs.length<=aj/\∃its:List a8,Vals xs its/\gu h a its.toArray/\Z5 h a
 |.dK kvs=>kvs.length<=aj/\(a==dD)=a4/\∃vs,KV kvs vs/\h.DictOf (Er P w) a vs
 |.dT kvs=>kvs.length<=aj/\(a==dD)=a4/\∃xs:List (List Key×aa×a8),
   Paired (λ(p:List Key×V) (q:List Key×aa×a8)=>p.1=q.1/\H q.2.1=a3 (.tup (p.1.map kV))/\RelV p.2 q.2.2) kvs xs /\
   ∃o es ep,h.get? a=a3 o/\o.ExactDict/\o.data=.dict es ep/\es.toList=xs.map (ja (eF (Er P w)))/\(xs.map (·.1)).Nodup
 |.dI xs ep=>xs.length<=aj/\(a==dD)=a4/\(xs.map λx=>x.1).Nodup/\∃(o:de)(es:Array fK),h.get? a=a3 o/\o.ExactDict/\o.data=.dict es ep/\es.toList=xs.map (ja (eF (eG P w)))
 |.set S n=>h.SetOf (eG P w) a S n
 |.ins C dx fs=>H dx=a3 (.own a)/\fs.length<=1000/\dx≠a/\h.get? a=a3 (W.instObj C dx) /\
   ∃mA,h.Ns1 dx mA/\(∀f,je5 (fs.lookup f) (mA f))/\PySem.Within mA (fs.map (·.1))
 |.own _=>∃o,h.get? a=a3 o
 |.xd fs=>∃mA,h.Ns1 a mA/\∀f,je5 (fs.lookup f) (mA f)
 |.rng lo hi=>∃t u v,h.get? a=a3 { cls:=.type "range",data:=.fields #[.int lo t,.int hi u,.int 1 v] }
 |.frz o u=>h.get? a=a3 o/\je H h a u
 |.tbl ps=>h.get? a=a3 { cls:=.none,data:=.fields ps }
 |.cod q=>∃ps:Array a8,h.get? a=a3 (W.tabObj ps)/\TriplesOk ps.toList/\∀pos cv,eJ pos ps.toList=a3 cv->∃(c:aa)(oc:de),cv=.ref c/\H c=a3 (.frz oc (.own 0))/\Od oc q
 |.met f x=>h.get? a=a3 (W.methodObj (.ref f) (.ref x))
 |.ext φ=>φ h/\(∃o,h.get? a=a3 o)/\∀h1 h2:aB,φ h1->(∀o,h1.get? a=a3 o->h2.get? a=a3 o)->φ h2
def HOk(H:Hp)(h:aB):Prop:=∀a o,H a=a3 o->je P w H h a o
end
section
variable{P:aq}{w:ax}{H H':Hp}{h h':aB}{a:aa}{o:HO}
theorem je.lt(x:je P w H h a o):a<h.objs.size:=by
 cases o with
 |lst xs=>obtain⟨_,_,_,_,e⟩:=x;exact xu e
 |tup xs=>obtain⟨_,_,_,p,_⟩:=x;exact p.lt
 |dK kvs=>obtain⟨_,_,_,_,o,_,_,e,_⟩:=x;exact xu e
 |dT kvs=>obtain⟨_,_,_,_,o,_,_,e,_⟩:=x;exact xu e
 |dI xs ep=>obtain⟨_,_,_,o,_,e,_⟩:=x;exact xu e
 |set S n=>obtain⟨o,_,_,_,e,_⟩:=x;exact xu e
 |ins C dx fs=>obtain⟨_,_,_,e,_⟩:=x;exact xu e
 |own y=>obtain⟨_,e⟩:=x;exact xu e
 |xd fs=>obtain⟨_,⟨_,_,_,e,_⟩,_⟩:=x;exact xu e
 |rng lo hi=>obtain⟨_,_,_,e⟩:=x;exact xu e
 |frz ob u=>obtain⟨e,_⟩:=x;exact xu e
 |tbl ps=>exact xu (show h.get? a=a3 _ from x)
 |cod q=>obtain⟨_,e,_⟩:=x;exact xu e
 |met f y=>exact xu (show h.get? a=a3 _ from x)
 |ext φ=>obtain⟨_,⟨_,e⟩,_⟩:=x;exact xu e
theorem Paired.mapP{α β:Type}{F G:α->β->Prop}:∀{l₁:List α}{l₂:List β},Paired F l₁ l₂->(∀a b,F a b->G a b)->Paired G l₁ l₂
 |_,_,.nil,_=>.nil
 |_,_,.cons r t,f=>.cons (f _ _ r) (Paired.mapP t f)
theorem je.stay(x:je P w H h a o)(k:∀b u,(b=a\/H b=a3 (.own a))->h.get? b=a3 u->h'.get? b=a3 u)
  (ho:∀b,H b=a3 (.own a)->H' b=a3 (.own a)) (ht:∀b xs,H b=a3 (.tup xs)->H' b=a3 (.tup xs)) (hz:∀b o,(∃vs,o.data=.fields vs)->H b=a3 (.frz o (.own 0))->H' b=a3 (.frz o (.own 0))):je P w H' h' a o:=by
 induction o with
 |lst xs=>obtain⟨z,its,n,r,e⟩:=x;exact⟨z,its,n,r,k _ _ (.inl rfl) e⟩
 |tup xs =>obtain⟨z,its,r,⟨ob,e,c⟩,nd⟩:=x;refine⟨z,its,r,⟨ob,k _ _ (.inl rfl) e,c⟩,λo q=>?_⟩;rw[k _ _ (.inl rfl) e]at q;cases q;exact nd _ e
 |dK kvs=>obtain⟨z,y,vs,r,ob,es,ep,e,c⟩:=x;exact⟨z,y,vs,r,ob,es,ep,k _ _ (.inl rfl) e,c⟩
 |dT kvs =>obtain⟨z,y,xs,r,ob,es,ep,e,c⟩:=x;exact⟨z,y,xs,Paired.mapP r λp q z=>⟨z.1,ht _ _ z.2.1,z.2.2⟩,ob,es,ep,k _ _ (.inl rfl) e,c⟩
 |dI xs ep=>obtain⟨z,y,nd,ob,es,e,c⟩:=x;exact⟨z,y,nd,ob,es,k _ _ (.inl rfl) e,c⟩
 |set S n=>obtain⟨ob,es,ep,t,e,c⟩:=x;exact⟨ob,es,ep,t,k _ _ (.inl rfl) e,c⟩
 |ins C dx fs =>obtain⟨d,z,ne,e,mA,⟨od,es,ep,e2,c⟩,r⟩:=x;exact⟨ho _ d,z,ne,k _ _ (.inl rfl) e,mA,⟨od,es,ep,k _ _ (.inr d) e2,c⟩,r⟩
 |own y=>obtain⟨ob,e⟩:=x;exact⟨ob,k _ _ (.inl rfl) e⟩
 |xd fs=>obtain⟨mA,⟨od,es,ep,e,c⟩,r⟩:=x;exact⟨mA,⟨od,es,ep,k _ _ (.inl rfl) e,c⟩,r⟩
 |rng lo hi=>obtain⟨t,u,v,e⟩:=x;exact⟨t,u,v,k _ _ (.inl rfl) e⟩
 |frz ob u ih=>obtain⟨e,q⟩:=x;exact⟨k _ _ (.inl rfl) e,ih q⟩
 |tbl ps =>have e:h.get? a=a3 { cls:=.none,data:=.fields ps }:=x;show h'.get? a=a3 { cls:=.none,data:=.fields ps };exact k a _ (.inl rfl) e
 |cod q=>obtain⟨ps,e,t,c⟩:=x;exact⟨ps,k _ _ (.inl rfl) e,t,λpos cv z=>let ⟨c,oc,e1,e2,e3⟩:=c pos cv z;⟨c,oc,e1,hz _ _ (let ⟨vs,_,z,_⟩:=e3;⟨vs,z⟩) e2,e3⟩⟩
 |met f y =>have e:h.get? a=a3 (W.methodObj (.ref f) (.ref y)):=x;show h'.get? a=a3 (W.methodObj (.ref f) (.ref y));exact k a _ (.inl rfl) e
 |ext φ=>obtain⟨p,⟨o,e⟩,st⟩:=x;exact⟨st _ _ p λo q=>k _ _ (.inl rfl) q,⟨o,k _ _ (.inl rfl) e⟩,st⟩
theorem HOk.lt(x:HOk P w H h)(e:H a=a3 o):a<h.objs.size:=(x a o e).lt
theorem HOk.fresh(x:HOk P w H h)(e:h.objs.size<=a):H a=a7:=by
 cases q:H a with
 |none=>rfl
 |some u=>exact absurd (Xg (x.lt q) e) (P0 _)
theorem HOk.kept(x:HOk P w H h)(k:∀b u,h.get? b=a3 u->h'.get? b=a3 u):HOk P w H h':=λa o e =>(x a o e).stay (λb u _ q=>k b u q) (λ_ q=>q) (λ_ _ q=>q) λ_ _ _ q=>q
theorem HOk.laid(x:HOk P w H h)(k:∀b u,h.get? b=a3 u->h'.get? b=a3 u)(hp:h.objs.size<=a)(new:je P w (upd H a o) h' a o):HOk P w (upd H a o) h':=λb u e=>by
 have hn:=x.fresh hp;by_cases hb:b=a
 .subst hb;rw[j9]at e;cases e;exact new
 .rw[ji hb]at e;exact(x b u e).stay (λc v _ q=>k c v q) (λc q=>by rw[ji (zr q hn)];exact q) (λc xs q=>by rw[ji (zr q hn)];exact q) λc _ _ q=>by rw[ji (zr q hn)];exact q
end
def Rd(H:Hp)(a:aa)(u:HO):Prop:=H a=a3 u\/∃o,H a=a3 (.frz o u)
theorem Rd.ok{P:aq}{w:ax}{H:Hp}{h:aB}{a:aa}{u:HO}(r:Rd H a u)(x:HOk P w H h):je P w H h a u:=by
 rcases r with r|⟨o,r⟩
 .exact x a u r
 .obtain⟨_,q⟩:=x a _ r;exact q
def Mut:Option HO->Prop
 |some (.lst _)=>True
 |some (.dK _)=>True
 |some (.dT _)=>True
 |some (.dI _ _)=>True
 |some (.set _ _)=>True
 |some (.ins _ _ _)=>True
 |some (.ext _)=>True
 |some (.cod _)=>True
 |_=>False
section
variable{P:aq}{w:ax}{H:Hp}{h h':aB}{x e:aa}{o':HO}
theorem HOk.write(ok:HOk P w H h)(mu:Mut (H x))(he:e=x\/H e=a3 (.own x))(k:∀b u,b≠e->h.get? b=a3 u->h'.get? b=a3 u)(heo:∃u,h'.get? e=a3 u)
  (new:je P w (upd H x o') h' x o'):HOk P w (upd H x o') h':=λb u q=>by
 have nown:∀c y,H c=a3 (.own y)->c≠x:=λc y r z=>by subst z;rw[r]at mu;exact mu
 have ntup:∀c xs,H c=a3 (.tup xs)->c≠x:=λc xs r z=>by subst z;rw[r]at mu;exact mu
 have nfrz:∀c o u,H c=a3 (.frz o u)->c≠x:=λc o u r z=>by subst z;rw[r]at mu;exact mu
 by_cases hb:b=x
 .subst hb;rw[j9]at q;cases q;exact new
 .rw[ji hb]at q;by_cases hbe:b=e
  .have q':H b=a3 (.own x):=by
    rcases he with z|z
    .exact absurd (hbe.trans z) hb
    .rw[hbe];exact z
   rw[q]at q';cases q';obtain⟨v,hv⟩:=heo;exact⟨v,by rw[hbe];exact hv⟩
  .refine(ok b u q).stay (λc v hc r=>k c v ?_ r) (λc r=>by rw[ji (nown c b r)];exact r) (λc xs r=>by rw[ji (ntup c xs r)];exact r) λc o _ r=>by rw[ji (nfrz c o _ r)];exact r
   rcases hc with rfl|hc
   .exact hbe
   .rintro rfl;rcases he with z|z
    .exact nown c b hc z
    .rw[hc]at z;cases z;exact hb rfl
end
structure Un(fs ex:List aa)(H H':Hp)(h h':aB):Prop where
 keep:∀b o,h.get? b=a3 o->H b=a7->b∉fs->b∉ex->h'.get? b=a3 o
 slot:∀b o,h.get? b=a3 o->H b=a7->b∈fs->b∉ex->∃sl,h'.get? b=a3 { o with slots:=sl }
 free:∀b o,h.get? b=a3 o->H b=a7->b∉ex->H' b=a7
 there:∀b o,h.get? b=a3 o->b∉ex->∃o',h'.get? b=a3 o'
 tups:∀b xs,H b=a3 (.tup xs)->H' b=a3 (.tup xs)
 frzs:∀b o u,H b=a3 (.frz o u)->H' b=a3 (.frz o u)
 tbls:∀b ps,H b=a3 (.tbl ps)->∃more,H' b=a3 (.tbl (ps++more))
section
variable{fs fs' ex ex':List aa}{H H1 H2:Hp}{h h1 h2 h':aB}{a x e:aa}{o:HO}
theorem Un.any(u:Un fs ex H H1 h h1){b:aa}{ob:de}(q:h.get? b=a3 ob)(n:H b=a7)(hx:b∉ex):∃sl,h1.get? b=a3 { ob with slots:=sl }:=by
 by_cases hb:b∈fs
 .exact u.slot b ob q n hb hx
 .exact⟨ob.slots,u.keep b ob q n hb hx⟩
theorem Un.kept(k:∀b u,h.get? b=a3 u->h'.get? b=a3 u):Un fs ex H H h h' :=
 ⟨λb ob q _ _ _=>k b ob q,λb ob q _ _ _=>⟨ob.slots,k b ob q⟩,λ_ _ _ n _=>n,λb ob q _=>⟨ob,k b ob q⟩,λ_ _ q=>q,λ_ _ _ q=>q,λ_ ps q=>⟨#[],by rw[q];simp⟩⟩
theorem Un.refl:Un fs ex H H h h:=Un.kept λ_ _ q=>q
theorem Un.laid(k:∀b u,h.get? b=a3 u->h'.get? b=a3 u)(hp:h.objs.size<=a)(hn:H a=a7):Un fs ex H (upd H a o) h h' where
 keep:=λb u q _ _ _=>k b u q
 slot:=λb u q _ _ _=>⟨u.slots,k b u q⟩
 free:=λb u q n _=>by rw[ji (Xb (Xg (xu q) hp))];exact n
 there:=λb u q _=>⟨u,k b u q⟩
 tups:=λb xs q=>by rw[ji (zr q hn)];exact q
 frzs:=λb u xs q=>by rw[ji (zr q hn)];exact q
 tbls:=λb ps q=>⟨#[],by rw[ji (zr q hn),q];simp⟩
theorem Un.write(mu:Mut (H x))(he:e=x\/H e=a3 (.own x))(k:∀b u,b≠e->h.get? b=a3 u->h'.get? b=a3 u)(heo:∃u,h'.get? e=a3 u):Un fs ex H (upd H x o) h h':=by
 have hx:∀b,H b=a7->b≠x:=λb n z=>by subst z;rw[n]at mu;exact mu
 have hb:∀b,H b=a7->b≠e:=λb n z=>by
  subst z;rcases he with r|r
  .exact hx b n r
  .rw[n]at r;cases r
 have hm:∀b u,H b=a3 u->¬Mut (a3 u)->b≠x:=λb u q nm z=>by subst z;rw[q]at mu;exact nm mu
 refine⟨λb u q n _ _=>k b u (hb b n) q,λb u q n _ _=>⟨u.slots,k b u (hb b n) q⟩,λb u q n _=>by rw[ji (hx b n)];exact n,λb u q _=>?_,
  λb xs q=>by rw[ji (hm b _ q λz=>z)];exact q,λb u xs q=>by rw[ji (hm b _ q λz=>z)];exact q,λb ps q=>⟨#[],by rw[ji (hm b _ q λz=>z),q];simp⟩⟩
 by_cases hbe:b=e
 .subst hbe;exact heo
 .exact⟨u,k b u hbe q⟩
end
noncomputable def trk(h:aB)(H:Hp):List aa:=(ar h.objs.size).filter λa=>(H a).isSome
noncomputable def U0(h:aB)(H:Hp):aB:=W.hideAll h (trk h H)
theorem j3l(h:aB)(H:Hp):(U0 h H).objs.size=h.objs.size:=W.hideAll_size _ _
theorem j67{h:aB}{H:Hp}{b:aa}{o:de}(e:h.get? b=a3 o)(n:H b=a7):(U0 h H).get? b=a3 o :=
 W.hideAll_get _ e λhm=>by have q:(H b).isSome=a6:=(Xu.mp hm).2;rw[n]at q;simp at q
theorem j90{h:aB}{H:Hp}{b:aa}{o:de}(e:(U0 h H).get? b=a3 o):h.get? b=a3 o/\H b=a7:=by
 have e':h.get? b=a3 o:=W.of_hideAll (trk h H) e;refine⟨e',?_⟩;cases q:H b with
 |none=>rfl
 |some x =>have hm:b∈trk h H:=Xu.mpr ⟨Xj.mpr (xu e'),by simp[q]⟩;have z:(U0 h H).get? b=a7:=W.hideAll_none (trk h H) hm;rw[z]at e;cases e
noncomputable def jai(g h:aB)(L:aa):List (aa×de):=(ar h.objs.size).filterMap λa=>if a=L\/(g.get? a).isSome=a6 then a7 else(h.get? a).map λo=>(a,o)
noncomputable def rest(g h:aB)(L d:aa):List (aa×de):=(jai g h L).filter λp=>decide (p.1≠d)
structure Mod(K:k7m)(mg:k7p)(base:aB):Prop where
 kin:K.In base
 glob:base.Ns au mg
 blt:∃mb,base.Ns d8 mb/\∀x:af,x ≠ "__name__"->mb x=aU x
 nolimit:base.NoLimit
 bm:∃bm ob,mg "__builtins__" = a3 (.ref bm)/\bm≠d8/\base.get? bm=a3 ob/\ob.cls=.type "module"/\ob.dict=a3 d8/\ob.data=.plain
structure Cx where
 prog:aq
 w:ax
 K:k7m
 mg:af->Option a8
 base:aB
 A:az
 N:List af
 s₀:ae
 H₀:Hp
 env:dh
 outer:List dh
 stack:List dh
 ex:List aa
 fn:af->Bool
 calm:Bool
 pn:List (aa×de)
 xe:a8->ae->Prop
noncomputable def frs(l:List dh):List aa:=l.filterMap (·.frame)
noncomputable abbrev Cx.fs(X:Cx):List aa:=frs X.outer
def Vis(sc:aX)(x:af):Prop:=sc.names.lookup x=a3 .local\/sc.names.lookup x=a3 .cell\/sc.names.lookup x=a3 .free
def Loc(sc:aX)(x:af):Prop:=sc.names.lookup x=a3 .local\/sc.names.lookup x=a3 .cell
def Look(env:dh)(h:aB)(m:k7p)(x:af)(u:a8):Prop :=
 (env.kindOf x=a3 .local/\m x=a3 u)\/((env.kindOf x=a3 .cell\/env.kindOf x=a3 .free)/\∃c,env.cells.lookup x=a3 c/\h.IsCell c (a3 u))
structure Cx.Ok(X:Cx):Prop where
 mod:Mod X.K X.mg X.base
 kind:X.env.scope.kind=.function
 glob:X.env.globals=au
 blt:X.env.builtins=d8
 above:X.s₀.heap.objs.size<=X.env.locals
 inj:∀x y c,X.env.cells.lookup x=a3 c->X.env.cells.lookup y=a3 c->x=y
 has:∀x,(X.env.kindOf x=a3 .cell\/X.env.kindOf x=a3 .free)->∃c,X.env.cells.lookup x=a3 c
 cab:∀x c,X.fn x=a6->X.env.cells.lookup x=a3 c->X.s₀.heap.objs.size<=c
 hd:X.calm=a6->X.A.handled=a7
 frames:X.A.frames=a3 X.stack
 stk:X.stack=X.outer\/(X.stack=X.env::X.outer/\X.env.frame=a3 X.env.locals)
 exf:∀b∈X.ex,b≠X.env.locals/\∀x c,X.env.cells.lookup x=a3 c->c≠b
 bs:∀b o,X.base.get? b=a3 o->X.s₀.heap.get? b=a3 o/\X.H₀ b=a7
 bsz:X.base.objs.size<=X.s₀.heap.objs.size
 noex:∀b o,X.base.get? b=a3 o->b∉X.ex
 exfs:∀b∈X.ex,b∉X.fs
 funs:X.s₀.heap.FunFrames X.base X.outer
 frf:∀b∈X.fs,X.H₀ b=a7
structure Inv(X:Cx)(pins:k7o)(σ:List (Option V))(H:Hp)(s:ae):Prop where
 ok:X.Ok
 os:s.os=X.s₀.os
 bare:di s.gens
 base:Un X.fs X.ex X.H₀ H X.s₀.heap s.heap
 loc:∃m,s.heap.Ns X.env.locals m/\∀(i:Nat)(x:af)(v:V),X.N[i]?=a3 x->σ[i]?=a3 (a3 v)->Vis X.env.scope x->∃u,RelV v u/\Look X.env s.heap m x u
 cell:∀x c,X.env.cells.lookup x=a3 c->∃v,s.heap.IsCell c v
 free:H X.env.locals=a7
 freeC:∀x c,X.env.cells.lookup x=a3 c->H c=a7
 pin:∀p∈X.pn++pins,s.heap.get? p.1=a3 p.2/\H p.1=a7/\p.1≠X.env.locals/\p.1∉X.fs/\∀v,p.2.data≠.cell v
 hok:HOk X.prog X.w H s.heap
 len:σ.length=X.N.length
section
variable{X:Cx}{pins:k7o}{σ:List (Option V)}{H H':Hp}{s:ae}{h':aB}
theorem Cx.Ok.nofr(ok:X.Ok){b:aa}{o:de}(e:X.base.get? b=a3 o):b∉X.fs:=λhb=>by have:=(ok.funs.mem hb).1;rw[e]at this;cases this
theorem Inv.bs(I:Inv X pins σ H s):∀b o,X.base.get? b=a3 o->s.heap.get? b=a3 o/\H b=a7:=λb o e =>⟨I.base.keep b o (I.ok.bs b o e).1 (I.ok.bs b o e).2 (I.ok.nofr e) (I.ok.noex b o e),I.base.free b o (I.ok.bs b o e).1 (I.ok.bs b o e).2 (I.ok.noex b o e)⟩
theorem Inv.bk(I:Inv X pins σ H s):∀b o,X.base.get? b=a3 o->s.heap.get? b=a3 o:=λb o e=>(I.bs b o e).1
theorem Inv.mod(I:Inv X pins σ H s):Mod X.K X.mg X.base:=I.ok.mod
theorem Inv.kIn(I:Inv X pins σ H s):X.K.In s.heap:=I.ok.mod.kin.keeps I.bk
theorem Inv.lt(I:Inv X pins σ H s):X.env.locals<s.heap.objs.size:=let ⟨_,hn,_⟩:=I.loc;hn.lt
theorem Inv.sz(I:Inv X pins σ H s):X.s₀.heap.objs.size<=s.heap.objs.size:=Xh I.ok.above (cK I.lt)
theorem Inv.nofs(I:Inv X pins σ H s){a:aa}(h:s.heap.objs.size<=a):a∉X.fs:=λhb=>by obtain⟨_,o,ho,_⟩:=I.ok.funs.mem hb;exact absurd (Xg (xu ho) (Xh I.sz h)) (P0 _)
theorem Inv.cne(I:Inv X pins σ H s):∀x c,X.env.cells.lookup x=a3 c->c≠X.env.locals:=λx c e z=>by obtain⟨v,o,ho,hd⟩:=I.cell x c e;obtain⟨m,⟨o',es,ep,ho',hd',_⟩,_⟩:=I.loc;rw[z,ho']at ho;cases ho;rw[hd']at hd;cases hd
theorem Inv.funs(I:Inv X pins σ H s):s.heap.FunFrames X.base X.outer:=by
 have all:∀(l:List dh),(∀b∈frs l,b∈X.fs)->X.s₀.heap.FunFrames X.base l->s.heap.FunFrames X.base l:=by
  intro l;induction l with
  |nil=>intro _ _;trivial
  |cons env r ih =>intro hs hl;obtain⟨hk,⟨L,o,hf,hn,ho,hd⟩,hr⟩:=hl;have hL:L∈X.fs:=hs L (by unfold frs;rw[bL,hf];exact xm);obtain⟨sl,e⟩:=I.base.slot L o ho (I.ok.frf L hL) hL λz=>I.ok.exfs L z hL;exact⟨hk,⟨L,_,hf,hn,e,hd⟩,ih (λb hb=>hs b (by unfold frs;rw[bL,hf];exact xf _ hb)) hr⟩
 exact all X.outer (λ_ hb=>hb) I.ok.funs
theorem Inv.stack(I:Inv X pins σ H s):s.heap.FunFrames X.base X.stack:=by
 rcases I.ok.stk with e|⟨e,hf⟩
 .rw[e];exact I.funs
 .rw[e];obtain⟨m,hn,_⟩:=I.loc;refine .cons (by rw[I.ok.kind];decide) hf hn ?_ I.funs;exact Heap.get?_none_of_le (Xh I.ok.bsz I.ok.above)
theorem Inv.stkSub(I:Inv X pins σ H s):∀b∈frs X.stack,b∈X.env.locals::X.fs:=λb hb=>by
 rcases I.ok.stk with e|⟨e,hf⟩
 .rw[e]at hb;exact xf _ hb
 .rw[e]at hb;unfold frs at hb;rw[bL,hf]at hb;exact hb
theorem Inv.stkFree(I:Inv X pins σ H s):∀b∈frs X.stack,H b=a7:=λb hb=>by
 rcases xr.mp (I.stkSub b hb)with e|hb
 .rw[e];exact I.free
 .obtain⟨_,o,ho,_⟩:=I.ok.funs.mem hb;exact I.base.free b o ho (I.ok.frf b hb) λz=>I.ok.exfs b z hb
theorem Inv.step{g':Array eD}{t':Nat}{d':Drawn}{ch:List aa}(I:Inv X pins σ H s)
  (hch:∀b∈ch,(b∈X.ex\/X.s₀.heap.objs.size<=b)/\b≠X.env.locals/\(∀x c,X.env.cells.lookup x=a3 c->c≠b)/\∀p∈X.pn++pins,p.1≠b)
  (keep:∀b o,b≠X.env.locals->b∉X.fs->b∉ch->s.heap.get? b=a3 o->H b=a7->h'.get? b=a3 o)
  (slot:∀b o,b≠X.env.locals->b∈X.fs->b∉ch->s.heap.get? b=a3 o->H b=a7->∃sl,h'.get? b=a3 { o with slots:=sl }) (free:∀b o,b∉ch->s.heap.get? b=a3 o->H b=a7->H' b=a7)
  (there:∀b o,b∉ch->s.heap.get? b=a3 o->∃o',h'.get? b=a3 o')
  (tups:∀b xs,H b=a3 (.tup xs)->H' b=a3 (.tup xs)) (frzs:∀b o u,H b=a3 (.frz o u)->H' b=a3 (.frz o u)) (tbls:∀b ps,H b=a3 (.tbl ps)->∃more,H' b=a3 (.tbl (ps++more)))
  (ns:∀m,s.heap.Ns X.env.locals m->h'.Ns X.env.locals m) (hok:HOk X.prog X.w H' h') (hg:di g') :
  Inv X pins σ H' { s with heap:=h',gens:=g',drawn:=d',toks:=t' }:=by
 have neL:∀b o,X.s₀.heap.get? b=a3 o->b≠X.env.locals:=λb o e=>Xb (Xg (xu e) I.ok.above);have neC:∀b o,X.s₀.heap.get? b=a3 o->b∉X.ex->b∉ch:=λb o e hx hb=>by
  rcases(hch b hb).1 with z|z
  .exact hx z
  .exact absurd (Xg (xu e) z) (P0 _)
 have cellK:∀x c,X.env.cells.lookup x=a3 c->∀v,s.heap.IsCell c v->h'.IsCell c v:=λx c e v ⟨o,ho,hd⟩=>by
  have nch:c∉ch:=λz=>(hch c z).2.2.1 x c e rfl;by_cases hc:c∈X.fs
  .obtain⟨sl,q⟩:=slot c o (I.cne x c e) hc nch ho (I.freeC x c e);exact⟨_,q,hd⟩
  .exact⟨o,keep c o (I.cne x c e) hc nch ho (I.freeC x c e),hd⟩
 refine⟨I.ok,I.os,hg,⟨λb o e n hb hx=>?_,λb o e n hb hx=>?_,λb o e n hx=>?_,λb o e hx=>?_,λb xs e=>tups b xs (I.base.tups b xs e),λb o xs e=>frzs b o xs (I.base.frzs b o xs e),λb ps e=>?_⟩,?_,λx c e=>?_,?_,λx c e=>?_,λp hp=>?_,hok,I.len⟩
 .exact keep b o (neL b o e) hb (neC b o e hx) (I.base.keep b o e n hb hx) (I.base.free b o e n hx)
 .obtain⟨sl,e1⟩:=I.base.slot b o e n hb hx;obtain⟨sl',e2⟩:=slot b _ (neL b o e) hb (neC b o e hx) e1 (I.base.free b o e n hx);exact⟨sl',e2⟩
 .obtain⟨o',e1⟩:=I.base.there b o e hx;exact free b o' (neC b o e hx) e1 (I.base.free b o e n hx)
 .obtain⟨o',e1⟩:=I.base.there b o e hx;exact there b o' (neC b o e hx) e1
 .obtain⟨m1,e1⟩:=I.base.tbls b ps e;obtain⟨m2,e2⟩:=tbls b _ e1;exact⟨m1++m2,by rw[e2,Array.append_assoc]⟩
 .obtain⟨m,hn,hl⟩:=I.loc;refine⟨m,ns m hn,λi x v e1 e2 e3=>?_⟩;obtain⟨u,r,l⟩:=hl i x v e1 e2 e3;refine⟨u,r,?_⟩;rcases l with l|⟨k,c,e,z⟩
  .exact .inl l
  .exact .inr ⟨k,c,e,cellK x c e _ z⟩
 .obtain⟨v,z⟩:=I.cell x c e;exact⟨v,cellK x c e v z⟩
 .obtain⟨m,⟨o,_,_,ho,_⟩,_⟩:=I.loc;exact free _ o (λz=>(hch _ z).2.1 rfl) ho I.free
 .obtain⟨v,o,ho,hd⟩:=I.cell x c e;exact free c o (λz=>(hch c z).2.2.1 x c e rfl) ho (I.freeC x c e)
 .obtain⟨e,n,ne,nf,d⟩:=I.pin p hp;have nch:p.1∉ch:=λz=>(hch p.1 z).2.2.2 p hp rfl;exact⟨keep p.1 p.2 ne nf nch e n,free p.1 p.2 nch e n,ne,nf,d⟩
theorem Inv.un{t':Nat}(I:Inv X pins σ H s)(u:Un X.fs [] H H' s.heap h')(hok:HOk X.prog X.w H' h'):Inv X pins σ H' { s with heap:=h',toks:=t' }:=by
 obtain⟨m,⟨o,es,ep,ho,r⟩,_⟩:=id I.loc;obtain⟨sl,hL⟩:=u.any ho I.free (by simp);exact I.step (g':=s.gens) (d':=s.drawn) (ch:=[]) (λ_ z=>nomatch z) (λb o _ hb _ e n=>u.keep b o e n hb (by simp)) (λb o _ hb _ e n=>u.slot b o e n hb (by simp)) (λb o _ e n=>u.free b o e n (by simp)) (λb o _ e=>u.there b o e (by simp)) u.tups u.frzs u.tbls (λm' hm=>by
  obtain⟨o',es',ep',ho',r'⟩:=hm
  rw[ho]at ho';cases ho'
  exact⟨_,es',ep',hL,r'⟩) hok I.bare
theorem Inv.call{g':Array eD}{t':Nat}{d':Drawn}{ch:List aa}(I:Inv X pins σ H s)(u:Un (frs X.stack) ch H H' s.heap h')(hok:HOk X.prog X.w H' h')(hg:di g')
  (hch:∀b∈ch,(b∈X.ex\/X.s₀.heap.objs.size<=b)/\b≠X.env.locals/\(∀x c,X.env.cells.lookup x=a3 c->c≠b)/\∀p∈X.pn++pins,p.1≠b) :
  Inv X pins σ H' { s with heap:=h',gens:=g',drawn:=d',toks:=t' }:=by
 obtain⟨m,⟨o,es,ep,ho,r⟩,_⟩:=id I.loc;obtain⟨sl,hL⟩:=u.any ho I.free λz=>(hch _ z).2.1 rfl;exact I.step (ch:=ch) hch (λb o hL hb hc e n=>u.keep b o e n (λz=>(xr.mp (I.stkSub b z)).elim hL hb) hc) (λb o _ _ hc e n=>u.any e n hc) (λb o hc e n=>u.free b o e n hc) (λb o hc e=>u.there b o e hc) u.tups u.frzs u.tbls (λm' hm=>by
  obtain⟨o',es',ep',ho',r'⟩:=hm
  rw[ho]at ho';cases ho'
  exact⟨_,es',ep',hL,r'⟩) hok hg
theorem Inv.turned{t':Nat}{it:aa}(I:Inv X pins σ H s)(k:∀b o,b≠it->s.heap.get? b=a3 o->h'.get? b=a3 o)(hn:H it=a7)(hL:it≠X.env.locals)
  (h1:it∈X.ex\/X.s₀.heap.objs.size<=it) (h2:∀x c,X.env.cells.lookup x=a3 c->c≠it) (h3:∀p∈X.pn++pins,p.1≠it):Inv X pins σ H { s with heap:=h',toks:=t' }:=by
 have nit:∀b u,H b=a3 u->b≠it:=λb u e z=>by rw[z,hn]at e;cases e
 refine I.step (g':=s.gens) (d':=s.drawn) (ch:=[it]) (λb hb=>?_) (λb o _ _ hc e _=>k b o (λz=>hc (by simp[z])) e) (λb o _ _ hc e _=>⟨o.slots,k b o (λz=>hc (by simp[z])) e⟩) (λ_ _ _ _ n=>n)
  (λb o hc e=>⟨o,k b o (λz=>hc (by simp[z])) e⟩) (λ_ _ e=>e) (λ_ _ _ e=>e) (λb ps e=>⟨#[],by rw[e];simp⟩) (λm hm=>?_) (λb u e=>?_) I.bare
 .have e:b=it:=by simpa using hb
  subst e;exact⟨h1,hL,h2,h3⟩
 .obtain⟨o,es,ep,ho,r⟩:=hm;exact⟨o,es,ep,k _ o (cw hL) ho,r⟩
 .refine(I.hok b u e).stay (λc v hc q=>k c v ?_ q) (λ_ q=>q) (λ_ _ q=>q) λ_ _ _ q=>q;rcases hc with z|z
  .rw[z];exact nit b u e
  .exact nit c _ z
theorem Inv.tok(I:Inv X pins σ H s)(t:Nat):Inv X pins σ H { s with toks:=t }:=I.un (h':=s.heap) (t':=t) Un.refl I.hok
theorem Inv.kept{t':Nat}(I:Inv X pins σ H s)(k:∀b u,s.heap.get? b=a3 u->h'.get? b=a3 u):Inv X pins σ H { s with heap:=h',toks:=t' }:=I.un (Un.kept k) (I.hok.kept k)
theorem Inv.laid{a:aa}{o:HO}{t':Nat}(I:Inv X pins σ H s)(k:∀b u,s.heap.get? b=a3 u->h'.get? b=a3 u)(hp:s.heap.objs.size<=a)(new:je X.prog X.w (upd H a o) h' a o) :
  Inv X pins σ (upd H a o) { s with heap:=h',toks:=t' }:=I.un (Un.laid k hp (I.hok.fresh hp)) (I.hok.laid k hp new)
theorem Inv.write{x e:aa}{o:HO}{t':Nat}(I:Inv X pins σ H s)(mu:Mut (H x))(he:e=x\/H e=a3 (.own x))(k:∀b u,b≠e->s.heap.get? b=a3 u->h'.get? b=a3 u)(heo:∃u,h'.get? e=a3 u)
  (new:je X.prog X.w (upd H x o) h' x o):Inv X pins σ (upd H x o) { s with heap:=h',toks:=t' }:=I.un (Un.write mu he k heo) (I.hok.write mu he k heo new)
theorem Inv.pins_of{pins':k7o}(I:Inv X pins σ H s)(h:∀p∈pins',s.heap.get? p.1=a3 p.2/\H p.1=a7/\p.1≠X.env.locals/\p.1∉X.fs/\∀v,p.2.data≠.cell v):Inv X pins' σ H s :=
 ⟨I.ok,I.os,I.bare,I.base,I.loc,I.cell,I.free,I.freeC,λp hp=>(Pb.mp hp).elim (λz=>I.pin p (T5 _ z)) (h p),I.hok,I.len⟩
theorem Ln{N:List af}(hN:N.Nodup){i j:Nat}{x:af}(a:N[i]?=a3 x)(b:N[j]?=a3 x):i=j:=by obtain⟨h1,e1⟩:=X7.mp a;obtain⟨h2,e2⟩:=X7.mp b;exact(iF hN).mp (e1.trans e2.symm)
theorem By{M:jO}{A:az}{E:k7n}{i:Nat}{x:af}{v:V}{u:a8}{Q:Unit->ae->Prop}(I:Inv X pins σ H s)(hN:X.N.Nodup)(hi:X.N[i]?=a3 x)(hx:Loc X.env.scope x)(r:RelV v u)
  (h:∀s',Inv X pins (σ.set i (a3 v)) H s'->(∃a,bZ a s.heap s'.heap/\(a=X.env.locals\/X.env.cells.lookup x=a3 a))->Q () s') (hf:X.fn x=a6\/X.env.scope.names.lookup x=a3 .local:=by first|exact .inl rfl|exact .inr rfl|assumption):ao M A (storeName X.env x u) Q E s:=by
 obtain⟨m,hn,hl⟩:=id I.loc;have hcls:(X.env.scope.kind==.class || (X.env.scope.kind==.module&&X.env.locals != X.env.globals))=a4:=by rw[I.ok.kind];rfl
 have hiσ:i<σ.length:=by rw[I.len];exact(X7.mp hi).1
 have cne:=I.cne;have tracked:∀{a:aa}{h':aB},(∃o,s.heap.get? a=a3 o/\H a=a7)->bZ a s.heap h'->HOk X.prog X.w H h':=λ{a h'} ha hs b ob e=>by
  obtain⟨_,_,hfree⟩:=ha;refine(I.hok b ob e).stay (λc w' hc q=>(hs.2 c ?_).trans q) (λ_ q=>q) (λ_ _ q=>q) λ_ _ _ q=>q;rintro rfl;rcases hc with rfl|hc
  .rw[hfree]at e;cases e
  .rw[hfree]at hc;cases hc
 rcases hx with hk|hk
 .refine wpAny_storeName_local hk hn (λh' hn' hs=>?_) hcls;obtain⟨oL,_,_,hoL,_⟩:=id hn;refine h _ ⟨I.ok,I.os,I.bare,⟨λb o e n hb hx=>?_,λb o e n hb hx=>?_,I.base.free,λb o e hx=>?_,I.base.tups,I.base.frzs,I.base.tbls⟩,⟨_,hn',λj y v' e1 e2 e3=>?_⟩,λy c e=>?_,I.free,I.freeC,λp hp=>?_,tracked ⟨oL,hoL,I.free⟩ hs,by simpa using I.len⟩ ⟨_,hs,.inl rfl⟩
  .exact(hs.2 b (Xb (Xg (xu e) I.ok.above))).trans (I.base.keep b o e n hb hx)
  .obtain⟨sl,e1⟩:=I.base.slot b o e n hb hx;exact⟨sl,(hs.2 b (Xb (Xg (xu e) I.ok.above))).trans e1⟩
  .obtain⟨o',e1⟩:=I.base.there b o e hx;exact⟨o',(hs.2 b (Xb (Xg (xu e) I.ok.above))).trans e1⟩
  .by_cases hj:j=i
   .subst hj;rw[hi]at e1;cases e1;rw[gc hiσ]at e2;cases e2;exact⟨u,r,.inl ⟨hk,by simp⟩⟩
   .rw[gH (cw hj)]at e2;obtain⟨u',r',q⟩:=hl j y v' e1 e2 e3;refine⟨u',r',?_⟩;rcases q with ⟨k,e⟩|⟨k,c,e,z⟩
    .refine .inl ⟨k,?_⟩;have:y≠x:=λe=>hj (Ln hN e1 (e▸hi));simp[this,e]
    .exact .inr ⟨k,c,e,z.sameBut hs (cne y c e)⟩
  .obtain⟨w',z⟩:=I.cell y c e;exact⟨w',z.sameBut hs (cne y c e)⟩
  .obtain⟨e,n,ne,nf,d⟩:=I.pin p hp;exact⟨(hs.2 p.1 ne).trans e,n,ne,nf,d⟩
 .have hfn:X.fn x=a6:=by
   rcases hf with z|z
   .exact z
   .rw[z]at hk;cases hk
  obtain⟨c,hc⟩:=I.ok.has x (.inl hk);obtain⟨w',z⟩:=I.cell x c hc;refine wpAny_storeName_cell I.ok.kind hk hc z (λh' hc' hs=>?_);obtain⟨oc,hoc,hocd⟩:=id z;refine h { s with heap:=h' } ⟨I.ok,I.os,I.bare,⟨λb o e n hb hx=>?_,λb o e n hb hx=>?_,I.base.free,λb o e hx=>?_,I.base.tups,I.base.frzs,I.base.tbls⟩,⟨m,hn.sameBut hs (cw (cne x c hc)),λj y v' e1 e2 e3=>?_⟩,λy c' e=>?_,I.free,I.freeC,λp hp=>?_,tracked ⟨oc,hoc,I.freeC x c hc⟩ hs,by simpa using I.len⟩ ⟨c,hs,.inr hc⟩
  .exact(hs.2 b (Xb (Xg (xu e) (I.ok.cab x c hfn hc)))).trans (I.base.keep b o e n hb hx)
  .obtain⟨sl,e1⟩:=I.base.slot b o e n hb hx;exact⟨sl,(hs.2 b (Xb (Xg (xu e) (I.ok.cab x c hfn hc)))).trans e1⟩
  .obtain⟨o',e1⟩:=I.base.there b o e hx;exact⟨o',(hs.2 b (Xb (Xg (xu e) (I.ok.cab x c hfn hc)))).trans e1⟩
  .by_cases hj:j=i
   .subst hj;rw[hi]at e1;cases e1;rw[gc hiσ]at e2;cases e2;exact⟨u,r,.inr ⟨.inl hk,c,hc,hc'⟩⟩
   .rw[gH (cw hj)]at e2;obtain⟨u',r',q⟩:=hl j y v' e1 e2 e3;refine⟨u',r',?_⟩;rcases q with q|⟨k,c',e,z'⟩
    .exact .inl q
    .refine .inr ⟨k,c',e,z'.sameBut hs ?_⟩;rintro rfl;exact hj (Ln hN e1 (I.ok.inj _ _ _ e hc▸hi))
  .by_cases hcc:c'=c
   .subst hcc;exact⟨_,hc'⟩
   .obtain⟨w2,z2⟩:=I.cell y c' e;exact⟨w2,z2.sameBut hs hcc⟩
  .obtain⟨e,n,ne,nf,d⟩:=I.pin p hp;refine⟨(hs.2 p.1 ?_).trans e,n,ne,nf,d⟩;intro q;rw[q,hoc]at e;have q':oc=p.2:=av e;exact d w' (by rw[<-q'];exact hocd)
theorem Dz{M:jO}{A:az}{E:k7n}{i:Nat}{x:af}{v:V}{u:a8}{Q:Unit->ae->Prop}(I:Inv X pins σ H s)(hN:X.N.Nodup)(hi:X.N[i]?=a3 x)(hx:Loc X.env.scope x)(r:RelV v u)
  (h:∀s',Inv X pins (σ.set i (a3 v)) H s'->Q () s') (hf:X.fn x=a6\/X.env.scope.names.lookup x=a3 .local:=by first|exact .inl rfl|exact .inr rfl|assumption):ao M A (storeName X.env x u) Q E s :=
 By I hN hi hx r (λs' I' _=>h s' I') hf
theorem Inv.call'{s':ae}{ch:List aa}(I:Inv X pins σ H s)(ho:s'.os=s.os)(u:Un (frs X.stack) ch H H' s.heap s'.heap)(hok:HOk X.prog X.w H' s'.heap)(hg:di s'.gens)
  (hch:∀b∈ch,(b∈X.ex\/X.s₀.heap.objs.size<=b)/\b≠X.env.locals/\(∀x c,X.env.cells.lookup x=a3 c->c≠b)/\∀p∈X.pn++pins,p.1≠b):Inv X pins σ H' s':=by
 obtain⟨h',g',d',t',o'⟩:=s';have e:o'=s.os:=ho;subst e;exact I.call (g':=g') (t':=t') (d':=d') u hok hg hch
end
abbrev XK:=a8->Option aa->Hp->Prop
noncomputable abbrev St:=List (Option V)
abbrev VK:=V->Hp->Prop
abbrev TE:=St->Hp->VK->Prop
abbrev TT:=St->Hp->(Bool->Hp->Prop)->Prop
abbrev TA:=St->Hp->(List V->Hp->Prop)->Prop
structure Ends where
 nx:St->Hp->Prop
 rt:VK
 bk:St->Hp->Prop:=λ_ _=>False
 ct:St->Hp->Prop:=λ_ _=>False
abbrev TS:=Ends->St->Hp->Prop
def EP(X:Cx)(pins:k7o)(σ:St)(Q:VK)(u:a8)(s':ae):Prop:=∃v H',Inv X pins σ H' s'/\RelV v u/\Q v H'
def TP(X:Cx)(pins:k7o)(σ:St)(Q:Bool->Hp->Prop)(b:Bool)(s':ae):Prop:=∃H',Inv X pins σ H' s'/\Q b H'
def AP(X:Cx)(pins:k7o)(σ:St)(Q:List V->Hp->Prop)(us:List a8)(s':ae):Prop:=∃vs H',Inv X pins σ H' s'/\Vals vs us/\Q vs H'
def Ext(X:Cx)(H1 H2:Hp)(s':ae):Prop:=∀b,H2 b=H1 b\/∃x o v,X.env.cells.lookup x=a3 b/\X.fn x=a6/\H2 b=a3 (.frz o (.own 0))/\s'.heap.get? b=a3 o/\o.data=.cell v
theorem Ext.refl{X:Cx}{H:Hp}{s':ae}:Ext X H H s':=λ_=>.inl rfl
def SP(X:Cx)(pins:k7o)(D:Ends)(f:Flow)(s':ae):Prop :=
 match f with
 |.next=>∃σ' H',Inv X pins σ' H' s'/\D.nx σ' H'
 |.brk=>∃σ' H',Inv X pins σ' H' s'/\D.bk σ' H'
 |.cont=>∃σ' H',Inv X pins σ' H' s'/\D.ct σ' H'
 |.ret u=>∃v σ' H' H2,Inv X pins σ' H' s'/\RelV v u/\Ext X H' H2 s'/\D.rt v H2
def PE(X:Cx)(e:ai)(t:TE):Prop :=
 ∀(pins:k7o) (s:ae) (σ:St) (H:Hp) (Q:VK),Inv X pins σ H s->t σ H Q->ao (aw X.prog X.w) X.A (ay e X.env) (EP X pins σ Q) X.xe s
def PT(X:Cx)(e:ai)(t:TT):Prop :=
 ∀(pins:k7o) (s:ae) (σ:St) (H:Hp) (Q:Bool->Hp->Prop),Inv X pins σ H s->t σ H Q->ao (aw X.prog X.w) X.A (eY e X.env (ay e X.env)) (TP X pins σ Q) X.xe s
def PW(X:Cx)(e:ai)(t:TT):Prop :=
 ∀(whole:Sem a8)(pins:k7o) (s:ae) (σ:St) (H:Hp) (Q:Bool->Hp->Prop),Inv X pins σ H s->t σ H Q->ao (aw X.prog X.w) X.A (eY e X.env whole) (TP X pins σ Q) X.xe s
def PA(X:Cx)(es:List ai)(t:TA):Prop :=
 ∀(pos:aG)(pins:k7o) (s:ae) (σ:St) (H:Hp) (Q:List V->Hp->Prop),Inv X pins σ H s->t σ H Q->ao (aw X.prog X.w) X.A (jL (aP pos (a9 es X.env))) (AP X pins σ Q) X.xe s
def PS(X:Cx)(st:aW)(t:TS):Prop :=
 ∀(pins:k7o) (s:ae) (σ:St) (H:Hp) (D:Ends),Inv X pins σ H s->t D σ H->ao (aw X.prog X.w) X.A (exec st X.env) (SP X pins D) X.xe s
def PSs(X:Cx)(st:List aW)(t:TS):Prop :=
 ∀(pins:k7o) (s:ae) (σ:St) (H:Hp) (D:Ends),Inv X pins σ H s->t D σ H->ao (aw X.prog X.w) X.A (execs st X.env) (SP X pins D) X.xe s
theorem thn{α:Type}{t:Sem α}{Q Q':α->ae->Prop}{M:jO}{A:az}{E:k7n}{s:ae}(h:ao M A t Q E s)(hQ:∀a s,Q a s->Q' a s):ao M A t Q' E s:=bp h hQ λ_ _ x=>x
section
variable{X:Cx}
theorem bin{a b:ai}{ta tb:TE}(ha:PE X a ta)(hb:PE X b tb){pins:k7o}{s:ae}{σ:St}{H:Hp}{R:V->V->Hp->Prop}(I:Inv X pins σ H s)(h:ta σ H λx H1=>tb σ H1 λy H2=>R x y H2)
  {α:Type} {Q:α->ae->Prop} {f:a8->a8->Sem α}
  (hf:∀v u s2 x y H2,Inv X pins σ H2 s2->RelV x v->RelV y u->R x y H2->ao (aw X.prog X.w) X.A (f v u) Q X.xe s2) :
  ao (aw X.prog X.w) X.A (ay a X.env) (λv s₁=>ao (aw X.prog X.w) X.A (ay b X.env) (λu s₂=>ao (aw X.prog X.w) X.A (f v u) Q X.xe s₂) X.xe s₁) X.xe s:=by
 refine thn (ha pins s σ H _ I h) λv s1 ⟨x,H1,I1,r1,q1⟩=>?_;refine thn (hb pins s1 σ H1 _ I1 q1) λu s2 ⟨y,H2,I2,r2,q2⟩=>?_;exact hf v u s2 x y H2 I2 r1 r2 q2
def jg0(i:Nat):TE:=λσ H Q=>∃v,σ[i]?=a3 (a3 v)/\Q v H
def tC(v:V):TE:=λ_ H Q=>Q v H
theorem Qa {i:Nat} {x:af} {pos:aG} (hN:X.N[i]?=a3 x) (hv:Vis X.env.scope x) (hd:(x==k7q)=a4:=by decide) (hcd:(x==k7r)=a4:=by decide):PE X (.Name x pos) (jg0 i):=by
 intro pins s σ H Q I h;obtain⟨v,e,h⟩:=h;obtain⟨m,hn,hl⟩:=I.loc;obtain⟨u,r,l⟩:=hl i x v hN e hv;have fin:EP X pins σ Q u s:=⟨v,H,I,r,h⟩
 rcases l with ⟨hk,hm⟩|⟨hk,c,hc,hcell⟩
 .exact j2 (wpAny_loadName_local I.ok.kind hk hn hm fin) hd
 .rcases hk with hk|hk
  .exact j2 (wpAny_loadName_cell I.ok.kind hk hc hcell fin) hd
  .exact j2 (wpAny_loadName_free I.ok.kind hk hc hcell fin hcd) hd
theorem jbo{i j pos}:PE X (.Constant (.int i) j pos) (tC (.int i)):=λ_ _ _ H _ I h=>wpAny_Constant_int ⟨.int i,H,I.tok _,⟨_,rfl⟩,h⟩
theorem jex{b j pos}:PE X (.Constant (.bool b) j pos) (tC (.bl b)):=λ_ _ _ H _ I h=>Constant_bool ⟨.bl b,H,I,rfl,h⟩
theorem j2s{j pos}:PE X (.Constant .none j pos) (tC .non):=λ_ _ _ H _ I h=>l8 ⟨.non,H,I,rfl,h⟩
theorem j2q{x j pos}:PE X (.Constant (.str x) j pos) (tC (.str x)):=λ_ _ _ H _ I h=>Calls.Constant_str ⟨.str x,H,I.tok _,⟨_,rfl⟩,h⟩
def Gl(X:Cx)(x:af):Prop:=X.env.kindOf x=a3 .globalImplicit
theorem Yo{E:k7n}{pins:k7o}{s:ae}{σ:St}{H:Hp}{x:af}{u:a8}{pos:aG}{Q:k7n}(I:Inv X pins σ H s)(hg:Gl X x)(hm:X.mg x=a3 u)(h:Q u s)
  (hd:(x==k7q)=a4:=by decide):ao (aw X.prog X.w) X.A (ay (.Name x pos) X.env) Q E s :=
 fe I.ok.kind hg (Calls.loadGlobal_global (by rw[I.ok.glob];exact I.mod.glob.keeps I.bk) hm h) hd
theorem Qx{E:k7n}{pins:k7o}{s:ae}{σ:St}{H:Hp}{x:af}{u:a8}{pos:aG}{Q:k7n}(I:Inv X pins σ H s)(hg:Gl X x)(hm:X.mg x=a7)(hv:aU x=a3 u)(h:Q u s)
  (hn:x ≠ "__name__":=by decide) (hd:(x==k7q)=a4:=by decide):ao (aw X.prog X.w) X.A (ay (.Name x pos) X.env) Q E s:=by
 obtain⟨mb,h1,h2⟩:=I.mod.blt;exact fe I.ok.kind hg (Calls.loadGlobal_builtin (by rw[I.ok.glob];exact I.mod.glob.keeps I.bk) hm (by rw[I.ok.blt];exact h1.keeps I.bk) ((h2 x hn).trans hv) h) hd
theorem j8s {x:af} {v:V} {u:a8} {pos:aG} (hg:Gl X x) (hm:X.mg x=a3 u) (r:RelV v u) (hd:(x==k7q)=a4:=by decide):PE X (.Name x pos) (tC v) :=
 λ_ _ _ H _ I h=>Yo I hg hm ⟨v,H,I,r,h⟩ hd
theorem j8u {x:af} {v:V} {u:a8} {pos:aG} (hg:Gl X x) (hm:X.mg x=a7) (hv:aU x=a3 u) (r:RelV v u) (hn:x ≠ "__name__":=by decide) (hd:(x==k7q)=a4:=by decide):PE X (.Name x pos) (tC v) :=
 λ_ _ _ H _ I h=>Qx I hg hm hv ⟨v,H,I,r,h⟩ hn hd
variable{a b:ai}{ta tb:TE}{pos:aG}
def PC(X:Cx)(op:fj)(a b:ai)(t:TE):Prop :=
 ∀(pins:k7o) (s:ae) (σ:St) (H:Hp) (Q:VK),Inv X pins σ H s->t σ H Q ->
  ao (aw X.prog X.w) X.A (ay a X.env) (λv s₁=>ao (aw X.prog X.w) X.A (ay b X.env) (λu s₂=>ao (aw X.prog X.w) X.A (aI op v u) (EP X pins σ Q) X.xe s₂) X.xe s₁) X.xe s
theorem Lp(b:ai){op:fj}(h:op≠.In)(h2:op≠.NotIn):aE op b=a4:=by
 have e1:(op==CmpOp.In)=a4:=by cases op<;>first|rfl|exact absurd rfl h
 have e2:(op==CmpOp.NotIn)=a4:=by cases op<;>first|rfl|exact absurd rfl h2
 cases b<;>simp[aE,e1,e2]
def jg8(ta:TE):TE:=λσ H Q=>ta σ H λx H1=>Q (.bl (decide (x=.non))) H1
theorem RelV.none_iff{x:V}{v:a8}(r:RelV x v):(v==aK)=decide (x=.non):=by
 cases x with
 |non=>cases r;rfl
 |bl _=>cases r;rfl
 |int _=>obtain⟨t,rfl⟩:=r;rfl
 |str _=>obtain⟨t,rfl⟩:=r;rfl
 |byt _=>obtain⟨t,rfl⟩:=r;rfl
 |flt _=>obtain⟨t,rfl⟩:=r;rfl
 |ref _=>cases r;rfl
 |ty _=>cases r;rfl
theorem j2t{j pos'}(ha:PE X a ta):PC X .Is a (.Constant .none j pos') (jg8 ta):=by intro pins s σ H Q I h;refine thn (ha pins s σ H _ I h) λv s1 ⟨x,H1,I1,r1,q1⟩=>?_;exact l8 (is_none_gen ⟨.bl _,H1,I1,by rw[r1.none_iff];rfl,q1⟩)
def tB(t:TE):TT:=λσ H Q=>t σ H λx H1=>∃c,x=.bl c/\Q c H1
theorem jbp{op:fj}{t:TE}(h:PC X op a b t)(h1:aE op b=a4:=by first|exact Lp _ (by decide) (by decide)|rfl):PE X (.Compare a [op] [b] pos) t:=λpins s σ H Q I hw=>kR (h pins s σ H Q I hw) h1
theorem jbi{op:fj}{t:TE}(h:PC X op a b t)(h1:aE op b=a4:=by first|exact Lp _ (by decide) (by decide)|rfl):PT X (.Compare a [op] [b] pos) (tB t):=by intro pins s σ H Q I hw;refine iD (thn (h pins s σ H _ I hw) λv s1 h1=>thn h1 λu s2 h2=>thn h2 λc s3 ⟨x,H1,I1,r1,q1⟩=>?_) h1;obtain⟨d,rfl,q⟩:=q1;cases r1;exact b0 ⟨H1,I1,q⟩
theorem jbg{e:ai}{t:TE}(h:PE X e t)(he:∀whole,eY e X.env whole=(do let v <-whole;jK e.pos;jM [v] (truthy v)):=by intro _;rfl):PT X e (tB t):=by intro pins s σ H Q I hw;refine isTrue_plain (thn (h pins s σ H _ I hw) λv s1 ⟨x,H1,I1,r1,q1⟩=>?_) (he _);obtain⟨d,rfl,q⟩:=q1;cases r1;exact b0 ⟨H1,I1,q⟩
variable{tA tB':TT}{rest:List ai}
def tOr(t u:TT):TT:=λσ H Q=>t σ H λc H1=>if c=a6 then Q a6 H1 else u σ H1 Q
def jg4(t:TT):TT:=λσ H Q=>t σ H λc H1=>Q (!c) H1
theorem jbf(ha:PT X a tA):PW X (.BoolOp .Or [a] pos) tA:=by
 intro wh pins s σ H Q I h;refine isTrue_or (thn (ha pins s σ H Q I h) λc s1 e=>?_);cases c with
 |false=>exact isTrue_or_nil e
 |true=>exact e
theorem jev(ha:PT X a tA)(hb:PW X (.BoolOp .Or (b::rest) pos) tB'):PW X (.BoolOp .Or (a::b::rest) pos) (tOr tA tB'):=by
 intro wh pins s σ H Q I h;refine isTrue_or (thn (ha pins s σ H _ I h) λc s1 ⟨H1,I1,q1⟩=>?_);cases c with
 |true=>exact⟨H1,I1,q1⟩
 |false=>exact hb wh pins s1 σ H1 Q I1 q1
theorem jbh(ha:PT X a tA):PT X (.UnaryOp .Not a pos) (jg4 tA):=by intro pins s σ H Q I h;exact isTrue_not (ha pins s σ H (λc H1=>Q (!c) H1) I h)
def jeh(ta tb:TE):TE:=λσ H Q=>ta σ H λx H1=>∃c,x=.bl c/\if c=a6 then tb σ H1 Q else Q (.bl a4) H1
theorem j2r{op}{t:TE}(h:PE X a t):PE X (.BoolOp op [a] pos) t:=λpins s σ H Q I hw=>BoolOp_one (h pins s σ H Q I hw)
theorem jbq(ha:PE X a ta)(hb:PE X (.BoolOp .And (b::rest) pos) tb):PE X (.BoolOp .And (a::b::rest) pos) (jeh ta tb):=by
 intro pins s σ H Q I h;refine BoolOp_and (thn (ha pins s σ H _ I h) λv s1 ⟨x,H1,I1,r1,q1⟩=>?_);obtain⟨c,rfl,q1⟩:=q1;cases r1;refine b0 ?_;cases c with
 |true=>exact hb pins s1 σ H1 Q I1 q1
 |false=>exact⟨.bl a4,H1,I1,rfl,q1⟩
def tIf(t:TT)(ta tb:TE):TE:=λσ H Q=>t σ H λc H1=>if c=a6 then ta σ H1 Q else tb σ H1 Q
theorem j59{c:ai}(hc:PT X c tA)(ha:PE X a ta)(hb:PE X b tb):PE X (.IfExp c a b pos) (tIf tA ta tb):=by
 intro pins s σ H Q I h;refine wpAny_IfExp (thn (hc pins s σ H _ I h) λd s1 ⟨H1,I1,q1⟩=>?_);cases d with
 |true=>exact ha pins s1 σ H1 Q I1 q1
 |false=>exact hb pins s1 σ H1 Q I1 q1
end
def SqL(K:k7m)(H:Hp)(a:aa)(xs:List V):Prop :=
 Rd H a (.lst xs) \/
  ∃(o:de)(its:Array a8)(n:Nat),K.lookup a=a3 o/\o.cls=.type "list"/\o.dict=a7/\o.data=.seq its n/\its.size<=aj/\Vals xs its.toList
def SqT(K:k7m)(H:Hp)(a:aa)(xs:List V):Prop :=
 Rd H a (.tup xs) \/
  ∃(o:de)(its:Array a8)(n:Nat),K.lookup a=a3 o/\o.cls=.type "tuple"/\o.dict=a7/\o.data=.seq its n/\its.size<=aj/\Vals xs its.toList
noncomputable def jgy:a8->Option V
 |.none=>a3 .non
 |.bool b=>a3 (.bl b)
 |.int i _=>a3 (.int i)
 |.str x _=>a3 (.str x)
 |.bytes b _=>a3 (.byt b)
 |.float b _=>a3 (.flt b)
 |.ref a=>a3 (.ref a)
 |.type n=>a3 (.ty n)
 |_=>a7
theorem RelV.abs{x:V}{u:a8}(r:RelV x u):jgy u=a3 x:=by
 cases x with
 |non=>cases r;rfl
 |bl _=>cases r;rfl
 |int _=>obtain⟨t,rfl⟩:=r;rfl
 |str _=>obtain⟨t,rfl⟩:=r;rfl
 |byt _=>obtain⟨t,rfl⟩:=r;rfl
 |flt _=>obtain⟨t,rfl⟩:=r;rfl
 |ref _=>cases r;rfl
 |ty _=>cases r;rfl
theorem RelV.inj{x y:V}{u:a8}(r:RelV x u)(q:RelV y u):x=y:=av (r.abs.symm.trans q.abs)
theorem Vals.inj:∀{xs ys:List V}{us:List a8},Vals xs us->Vals ys us->xs=ys
 |_,_,_,.nil,.nil=>rfl
 |_,_,_,.cons r t,.cons r' t'=>by rw[r.inj r',Vals.inj t t']
section
variable{X:Cx}{pins:k7o}{σ:St}{H:Hp}{s:ae}{a:aa}{xs ys:List V}
theorem Inv.list(I:Inv X pins σ H s)(h:SqL X.K H a xs):∃its:List a8,Vals xs its/\PlainL s.heap a its.toArray/\xs.length<=aj:=by
 rcases h with h|⟨o,its,n,hk,hc,hd,hs,hz,r⟩
 .obtain⟨z,its,n,r,e⟩:=h.ok I.hok;exact⟨its,r,⟨_,n,e,rfl,rfl,rfl⟩,z⟩
 .refine⟨its.toList,r,⟨o,n,I.kIn a o hk,hc,hd,by simpa using hs⟩,?_⟩;have e:=r.length;simp only[cA]at e;omega
theorem Inv.tuple(I:Inv X pins σ H s)(h:SqT X.K H a xs):∃its:List a8,Vals xs its/\gu s.heap a its.toArray/\xs.length<=aj:=by
 rcases h with h|⟨o,its,n,hk,hc,hnd,hs,hz,r⟩
 .obtain⟨z,its,r,p,_⟩:=h.ok I.hok;exact⟨its,r,p,z⟩
 .refine⟨its.toList,r,⟨o,I.kIn a o hk,hc,n,by simpa using hs⟩,?_⟩;have e:=r.length;simp only[cA]at e;omega
theorem Inv.tupD(I:Inv X pins σ H s)(h:SqT X.K H a xs):Z5 s.heap a:=by
 rcases h with h|⟨o,its,n,hk,hc,hnd,hs,hz,r⟩
 .obtain⟨z,its,r,p,q⟩:=h.ok I.hok;exact q
 .intro o' e;rw[I.kIn a o hk]at e;cases e;exact hnd
theorem Inv.list_inj(I:Inv X pins σ H s)(h:SqL X.K H a xs)(h':SqL X.K H a ys):xs=ys:=by
 obtain⟨its,r,⟨o,n,e,_,_,d⟩,_⟩:=I.list h;obtain⟨its',r',⟨o',n',e',_,_,d'⟩,_⟩:=I.list h';rw[e]at e';cases e';rw[d]at d';injection d' with d1 _;have:its=its':=by simpa using congrArg jF d1
 subst this;exact r.inj r'
theorem Inv.tuple_inj(I:Inv X pins σ H s)(h:SqT X.K H a xs)(h':SqT X.K H a ys):xs=ys:=by
 obtain⟨its,r,⟨o,e,_,n,d⟩,_⟩:=I.tuple h;obtain⟨its',r',⟨o',e',_,n',d'⟩,_⟩:=I.tuple h';rw[e]at e';cases e';rw[d]at d';injection d' with d1 _;have:its=its':=by simpa using congrArg jF d1
 subst this;exact r.inj r'
end
noncomputable abbrev Cx.wish(X:Cx)(E:k7n):Cx:={ X with xe:=E }
noncomputable abbrev Cx.nox(X:Cx):Cx:=X.wish λ_ _=>False
theorem Cx.Ok.wish{X:Cx}(ok:X.Ok)(E:k7n):(X.wish E).Ok :=
 ⟨ok.mod,ok.kind,ok.glob,ok.blt,ok.above,ok.inj,ok.has,ok.cab,ok.hd,ok.frames,ok.stk,ok.exf,ok.bs,ok.bsz,ok.noex,ok.exfs,ok.funs,ok.frf⟩
theorem Cx.Ok.unwish{X:Cx}{E:k7n}(ok:(X.wish E).Ok):X.Ok :=
 ⟨ok.mod,ok.kind,ok.glob,ok.blt,ok.above,ok.inj,ok.has,ok.cab,ok.hd,ok.frames,ok.stk,ok.exf,ok.bs,ok.bsz,ok.noex,ok.exfs,ok.funs,ok.frf⟩
section
variable{X:Cx}{pins:k7o}{σ:St}{H:Hp}{s:ae}{E:k7n}
theorem Inv.wish(I:Inv X pins σ H s)(E:k7n):Inv (X.wish E) pins σ H s:=⟨I.ok.wish E,I.os,I.bare,I.base,I.loc,I.cell,I.free,I.freeC,I.pin,I.hok,I.len⟩
theorem Inv.unwish(I:Inv (X.wish E) pins σ H s):Inv X pins σ H s:=⟨I.ok.unwish,I.os,I.bare,I.base,I.loc,I.cell,I.free,I.freeC,I.pin,I.hok,I.len⟩
theorem SP.unwish{D:Ends}{f:Flow}{s':ae}(h:SP (X.wish E) pins D f s'):SP X pins D f s':=by
 cases f with
 |next=>obtain⟨σ',H',I,q⟩:=h;exact⟨σ',H',I.unwish,q⟩
 |brk=>obtain⟨σ',H',I,q⟩:=h;exact⟨σ',H',I.unwish,q⟩
 |cont=>obtain⟨σ',H',I,q⟩:=h;exact⟨σ',H',I.unwish,q⟩
 |ret u=>obtain⟨v,σ',H',H2,I,r,x,q⟩:=h;exact⟨v,σ',H',H2,I.unwish,r,x,q⟩
theorem PSs.nox{st:List aW}{t:TS}(h:PSs X.nox st t):PSs X st t:=λpins s σ H D I hw =>bp (h pins s σ H D (I.wish _) hw) (λ_ _ q=>q.unwish) λ_ _ z=>aR z
end
section
variable{X:Cx}{st:aW}{rest:List aW}{t u:TS}{e:ai}{te:TE}{pos:aG}
def jed:TS:=λD σ H=>D.nx σ H
def jg2(t u:TS):TS:=λD σ H=>t { D with nx:=u D } σ H
theorem j8n:PSs X [] jed:=λ_ _ σ H _ I h=>fY ⟨σ,H,I,h⟩
theorem Yv(h1:PS X st t)(h2:PSs X rest u):PSs X (st::rest) (jg2 t u):=by
 intro pins s σ H D I h;refine kc (thn (h1 pins s σ H { D with nx:=u D } I h) λf s1 q=>?_);cases f with
 |next =>obtain⟨σ',H',I',q⟩:=q;exact h2 pins s1 σ' H' D I' q
 |ret v=>exact q
 |brk=>exact q
 |cont=>exact q
theorem Eh(h1:PS X st t):PSs X [st] t:=by
 intro pins s σ H D I h;refine kc (thn (h1 pins s σ H D I h) λf s1 q=>?_);cases f with
 |next=>exact fY q
 |ret v=>exact q
 |brk=>exact q
 |cont=>exact q
theorem Inv.quiet{pins:k7o}{σ:St}{H:Hp}{s:ae}(I:Inv X pins σ H s):interactive X.env=a4:=by simp[interactive,I.ok.kind]
def jee(te:TE):TS:=λD σ H=>te σ H λ_ H1=>D.nx σ H1
theorem W9(he:PE X e te)(hs:aN e a7 pos.line X.env=pure a4:=by rfl):PS X (.Expr e pos) (jee te):=by intro pins s σ H D I h;exact wpAny_Expr_any (thn (he pins s σ H _ I h) λv s1 ⟨x,H1,I1,r1,q1⟩=>⟨σ,H1,I1,q1⟩) I.quiet hs
def jg3(te:TE):TS:=λD σ H=>te σ H D.rt
theorem Um(he:PE X e te):PS X (.Return (a3 e) pos) (jg3 te):=by intro pins s σ H D I h;exact wpAny_Return_some (thn (he pins s σ H _ I h) λv s1 ⟨x,H1,I1,r1,q1⟩=>⟨x,σ,H1,H1,I1,r1,.refl,q1⟩)
def jg9(c:TT)(t u:TS):TS:=λD σ H=>c σ H λb H1=>if b=a6 then t D σ H1 else u D σ H1
theorem jew{c:ai}{a b:List aW}{tc:TT}(hc:PT X c tc)(ha:PSs X a t)(hb:PSs X b u):PS X (.If c a b pos) (jg9 tc t u):=by
 intro pins s σ H D I h;refine wpAny_If (thn (hc pins s σ H _ I h) λd s1 ⟨H1,I1,q1⟩=>?_);cases d with
 |true=>exact ha pins s1 σ H1 D I1 q1
 |false=>exact hb pins s1 σ H1 D I1 q1
end
abbrev TG:=V->St->Hp->(St->Hp->Prop)->Prop
abbrev TGs:=List V->St->Hp->(St->Hp->Prop)->Prop
def PG(X:Cx)(target:ai)(t:TG):Prop :=
 ∀(pins:k7o) (s:ae) (σ:St) (H:Hp) (v:V) (u:a8) (Q:St->Hp->Prop),Inv X pins σ H s->RelV v u->t v σ H Q ->
  ao (aw X.prog X.w) X.A (eA target X.env u) (λ_ s'=>∃σ' H',Inv X pins σ' H' s'/\Q σ' H') X.xe s
def PGs(X:Cx)(ts:List ai)(t:TGs):Prop :=
 ∀(pins:k7o) (s:ae) (σ:St) (H:Hp) (vs:List V) (us:List a8) (Q:St->Hp->Prop),Inv X pins σ H s->Vals vs us->t vs σ H Q ->
  ao (aw X.prog X.w) X.A (assignInOrder ((bq ts X.env).map (·.2)) us) (λ_ s'=>∃σ' H',Inv X pins σ' H' s'/\Q σ' H') X.xe s
section
variable{X:Cx}{pos:aG}
def j7p(i:Nat):TG:=λv σ H Q=>Q (σ.set i (a3 v)) H
theorem Za{i:Nat}{x:af}(hN:X.N.Nodup)(hi:X.N[i]?=a3 x)(hx:Loc X.env.scope x)(hf:X.fn x=a6\/X.env.scope.names.lookup x=a3 .local:=by first|exact .inl rfl|exact .inr rfl|assumption):PG X (.Name x pos) (j7p i):=by intro pins s σ H v u Q I r h;exact jJ (Dz I hN hi hx r (λs' I'=>⟨_,H,I',h⟩) hf)
def jgq:TGs:=λvs σ H Q=>vs=[]/\Q σ H
def jfj(t:TG)(u:TGs):TGs:=λvs σ H Q=>∃v r,vs=v::r/\t v σ H λσ' H'=>u r σ' H' Q
theorem Ej:PGs X [] jgq:=by intro pins s σ H vs us Q I r h;obtain⟨e,h⟩:=h;subst e;cases r;exact assignInOrder_nil ⟨σ,H,I,h⟩
theorem Vj{e:ai}{es:List ai}{t:TG}{u:TGs}(h1:PG X e t)(h2:PGs X es u)
  (hs:(bq (e::es) X.env).map (·.2)=eA e X.env::(bq es X.env).map (·.2):=by rfl):PGs X (e::es) (jfj t u):=by
 intro pins s σ H vs us Q I r h;obtain⟨v,vr,e1,h⟩:=h;subst e1;cases r with
 |cons r rr =>rw[hs];refine assignInOrder_cons (thn (h1 pins s σ H _ _ _ I r h) λ_ s1 ⟨σ1,H1,I1,q1⟩=>?_);exact h2 pins s1 σ1 H1 _ _ Q I1 rr q1
def jgp(K:k7m)(n:Nat)(t:TGs):TG:=λv σ H Q=>∃a xs,v=.ref a/\SqT K H a xs/\xs.length=n/\t xs σ H Q
theorem j2o{es:List ai}{k:Nat}{t:TGs}{n:Nat}(hc:X.calm=a6)(h:PGs X es t)
  (hn:(bq es X.env).length=n:=by rfl) (hst:(bq es X.env).findIdx? (·.1)=a7:=by rfl):PG X (.Tuple es k pos) (jgp X.K n t):=by
 intro pins s σ H v u Q I r hw;obtain⟨a,xs,e1,hq,hl,hw⟩:=hw;subst e1;cases r;obtain⟨its,rv,ht,hz⟩:=I.tuple hq;refine assign_Tuple_tuple (I.ok.hd hc) ht (by simp[hn,<-hl,rv.length]) hst λh' hx=>?_;have I1:Inv X pins σ H { s with heap:=h' }:=I.kept (t':=s.toks) λb o e=>hx b o (Xb (xu e)) e;exact h pins _ σ H xs _ Q I1 (by simpa using rv) hw
def jgb(te:TE)(g:TG):TS:=λD σ H=>te σ H λx H1=>g x σ H1 D.nx
theorem Yl{i:Nat}{x:af}{e:ai}{te:TE}{pos':aG}(hN:X.N.Nodup)(hi:X.N[i]?=a3 x)(hx:Loc X.env.scope x)(he:PE X e te)(hs:aN e (a3 (.Name x pos')) pos.line X.env=pure a4:=by rfl)(hf:X.fn x=a6\/X.env.scope.names.lookup x=a3 .local:=by first|exact .inl rfl|exact .inr rfl|assumption) :
  PS X (.Assign [.Name x pos'] e pos) (jgb te (j7p i)):=by
 intro pins s σ H D I h;refine wpAny_Assign_Name (thn (he pins s σ H _ I h) λv s1 ⟨y,H1,I1,r1,q1⟩=>?_) hs;exact Dz I1 hN hi hx r1 (λs2 I2=>⟨_,H1,I2,q1⟩) hf
end
section
variable{X:Cx}{pos:aG}
end
structure It where
 go:Nat->Hp->Prop
 yld:Nat->Hp->V->Hp->Prop
 stop:Nat->Hp->Prop
def Q9(X:Cx)(pins:k7o)(H:Hp)(b:aa):Prop :=
 H b=a7/\b≠X.env.locals/\b∉X.fs/\(b∈X.ex\/X.s₀.heap.objs.size<=b)/\(∀x c,X.env.cells.lookup x=a3 c->c≠b)/\∀p∈X.pn++pins,p.1≠b
theorem Inv.fpOk{X:Cx}{pins:k7o}{σ:St}{H H':Hp}{s:ae}{b:aa}(I:Inv X pins σ H s)(hb:s.heap.objs.size<=b)(hn:H' b=a7):Q9 X pins H' b:=by
 refine⟨hn,t7 (Xg I.lt hb),I.nofs hb,.inr (Xh I.sz hb),λx c e z=>?_,λp hp z=>?_⟩
 .obtain⟨v,q⟩:=I.cell x c e;exact absurd (Xg q.lt (by rw[z];exact hb)) (P0 _)
 .exact absurd (Xg (xu (I.pin p hp).1) (by rw[z];exact hb)) (P0 _)
structure Turn(P:aq)(w:ax)(K:k7m)(tg:ai)(J:It)(fp:List aa)(it:aa)(tn:Nat->aB->Prop):Prop where
 mem:it∈fp
 obj:∀i h,tn i h->∀b∈fp,∃o,h.get? b=a3 o/\∀v,o.data≠.cell v
 keep:∀i h h',tn i h->(∀b∈fp,∀o,h.get? b=a3 o->h'.get? b=a3 o)->tn i h'
 item:∀(X:Cx),X.prog=P->X.w=w->X.K=K->X.calm=a6->∀(i:Nat)(pins:k7o) (s:ae) (σ:St) (H:Hp) (E:k7n),Inv X pins σ H s->(∀b∈fp,Q9 X pins H b)->tn i s.heap->J.go i H ->
  ao (aw P w) X.A (dW (.ref it)) (λr s1=>∃u,r=a3 u /\
   ao (aw P w) X.A (dF tg (.ref it) u) (λ_ s2=>∃x H',Inv X pins σ H' s2/\RelV x u/\J.yld i H x H'/\tn (i+1) s2.heap/\∀b∈fp,H' b=a7) E s1) E s
 done:∀(X:Cx),X.prog=P->X.w=w->X.K=K->X.calm=a6->∀(i:Nat)(pins:k7o) (s:ae) (σ:St) (H:Hp) (E:k7n),Inv X pins σ H s->(∀b∈fp,Q9 X pins H b)->tn i s.heap->J.stop i H ->
  ao (aw P w) X.A (dW (.ref it)) (λr s1=>r=a7/\Inv X pins σ H s1) E s
 self:∀(A:az)(i:Nat)(s:ae)(Q:k7n)(E:k7n),tn i s.heap->Q (.ref it) s->ao (aw P w) A (ij (.ref it)) Q E s
abbrev TI:=St->Hp->(It->Hp->Prop)->Prop
def PIE(X:Cx)(pins:k7o)(σ:St)(tg:ai)(R:It->Hp->Prop)(itv:a8)(s2:ae):Prop :=
 ∃(it:aa)(fp:List aa)(tn:Nat->aB->Prop)(J:It)(H':Hp),itv=.ref it/\Inv X pins σ H' s2/\Turn X.prog X.w X.K tg J fp it tn/\tn 0 s2.heap/\(∀b∈fp,Q9 X pins H' b)/\R J H'
def PI(X:Cx)(tg iter:ai)(wi:TI):Prop :=
 ∀(pins:k7o) (s:ae) (σ:St) (H:Hp) (R:It->Hp->Prop),Inv X pins σ H s->wi σ H R ->
  ao (aw X.prog X.w) X.A (ay iter X.env) (λv s1=>ao (aw X.prog X.w) X.A (ij v) (PIE X pins σ tg R) X.xe s1) X.xe s
theorem Dm{M:jO}{A:az}{E:k7n}{s:ae}{tg:ai}{it:aa}{u:a8}{o:de}{n:String}{vs:Array a8}{Q:Unit->ae->Prop}(ho:s.heap.get? it=a3 o)(hc:o.cls=.type n)(hd:o.data=.fields vs)
  (hn:["enumerate","zip","dict_itemiterator","dict_reverseitemiterator","odict_iterator","itertools.zip_longest","itertools.pairwise"].contains n=a4) (hQ:Q () s):ao M A (dF tg (.ref it) u) Q E s:=by
 unfold dF;cases tg<;>first
  |exact ah hQ
  |(cases u<;>first
    |exact ah hQ
    |(refine a5 (wpAny_load ho ?_);rw[hc,hd];show ao M A (if (["enumerate","zip","dict_itemiterator","dict_reverseitemiterator","odict_iterator","itertools.zip_longest","itertools.pairwise"].contains n&&vs[0]?==a3 (dj _))=a6 then _ else _) Q E s;rw[if_neg (by intro h;rw[hn,fB]at h;cases h)];exact ah hQ))
noncomputable def Itl(K:k7m)(a:aa):It :=
 ⟨λi H=>∃xs x,SqL K H a xs/\xs[i]?=a3 x,λi H x H'=>H'=H/\∀xs,SqL K H a xs->xs[i]?=a3 x,λi H=>∃xs,SqL K H a xs/\xs.length<=i⟩
noncomputable def Itt(K:k7m)(a:aa):It :=
 ⟨λi H=>∃xs x,SqT K H a xs/\xs[i]?=a3 x,λi H x H'=>H'=H/\∀xs,SqT K H a xs->xs[i]?=a3 x,λi H=>∃xs,SqT K H a xs/\xs.length<=i⟩
noncomputable def Itr(lo:Int)(n:Nat):It:=⟨λi _=>i<n,λi H x H'=>H'=H/\x=.int (lo+i),λi _=>n<=i⟩
theorem j21{P:aq}{w:ax}{K:k7m}{tg:ai}(a it:aa):Turn P w K tg (Itl K a) [it] it (λi h=>h.IsListIter it a i) where
 mem:=by simp
 obj:=λi h st b hb=>by
  have e:b=it:=by simpa using hb
  subst e;obtain⟨o,e,c,d⟩:=st;exact⟨o,e,λv z=>by rw[d]at z;cases z⟩
 keep:=λi h h' st k=>st.at λo e=>k it (by simp) o e
 item:=by intro X hP hw hK hc i pins s σ H E I hf st hg;subst hP hw hK;obtain⟨xs,x,hq,hx⟩:=hg;obtain⟨its,rv,p,hz⟩:=I.list hq;obtain⟨u,hu,ru⟩:=rv.get hx;obtain⟨f0,f1,f2,f3,f4,f5⟩:=hf it (by simp);refine dC st p.isList (x:=u) (by simpa using hu) λh' st' sb=>?_;have I1:Inv X pins σ H { s with heap:=h' }:=I.turned (t':=s.toks) (λb o hb e=>(sb.2 b hb).trans e) f0 f1 f3 f4 f5;obtain⟨o,e,c,d⟩:=id st';exact⟨u,rfl,Dm (s:={ s with heap:=h' }) e c d (by decide) ⟨x,H,I1,ru,⟨rfl,λys hy=>by rw[I.list_inj hy hq];exact hx⟩,st',λb hb=>(hf b hb).1⟩⟩
 done:=by intro X hP hw hK hc i pins s σ H E I hf st hg;subst hP hw hK;obtain⟨xs,hq,hx⟩:=hg;obtain⟨its,rv,p,hz⟩:=I.list hq;obtain⟨f0,f1,f2,f3,f4,f5⟩:=hf it (by simp);have hl:=rv.length;exact iC (I.ok.hd hc) st p.isList (by simp;omega) λh' eb=>⟨rfl,I.turned (t':=s.toks) (λb o hb e=>eb b o hb e) f0 f1 f3 f4 f5⟩
 self:=λ_ _ _ _ _ st h=>wpAny_pyIter_listiter st h
theorem j0p{P:aq}{w:ax}{K:k7m}{tg:ai}(a it:aa):Turn P w K tg (Itt K a) [it] it (λi h=>h.IsTupleIter it a i) where
 mem:=by simp
 obj:=λi h st b hb=>by
  have e:b=it:=by simpa using hb
  subst e;obtain⟨o,e,c,d⟩:=st;exact⟨o,e,λv z=>by rw[d]at z;cases z⟩
 keep:=λi h h' st k=>st.at λo e=>k it (by simp) o e
 item:=by intro X hP hw hK hc i pins s σ H E I hf st hg;subst hP hw hK;obtain⟨xs,x,hq,hx⟩:=hg;obtain⟨its,rv,p,hz⟩:=I.tuple hq;obtain⟨u,hu,ru⟩:=rv.get hx;obtain⟨f0,f1,f2,f3,f4,f5⟩:=hf it (by simp);refine wpAny_pyNext_tuple_item st (show s.heap.IsTuple a its.toArray from p) (x:=u) (by simpa using hu) λh' st' sb=>?_;have I1:Inv X pins σ H { s with heap:=h' }:=I.turned (t':=s.toks) (λb o hb e=>(sb.2 b hb).trans e) f0 f1 f3 f4 f5;obtain⟨o,e,c,d⟩:=id st';exact⟨u,rfl,Dm (s:={ s with heap:=h' }) e c d (by decide) ⟨x,H,I1,ru,⟨rfl,λys hy=>by rw[I.tuple_inj hy hq];exact hx⟩,st',λb hb=>(hf b hb).1⟩⟩
 done:=by intro X hP hw hK hc i pins s σ H E I hf st hg;subst hP hw hK;obtain⟨xs,hq,hx⟩:=hg;obtain⟨its,rv,p,hz⟩:=I.tuple hq;obtain⟨f0,f1,f2,f3,f4,f5⟩:=hf it (by simp);have hl:=rv.length;exact wpAny_pyNext_tuple_end (I.ok.hd hc) st (show s.heap.IsTuple a its.toArray from p) (by simp;omega) λh' eb=>⟨rfl,I.turned (t':=s.toks) (λb o hb e=>eb b o hb e) f0 f1 f3 f4 f5⟩
 self:=λ_ _ _ _ _ st h=>wpAny_pyIter_tupleiter st h
theorem j0q{P:aq}{w:ax}{K:k7m}{tg:ai}(it:aa)(lo:Int)(n:Nat):Turn P w K tg (Itr lo n) [it] it (λi h=>IsRangeIter h it (lo+(i:Nat)*1) ((n:Int)-(i:Nat)) 1) where
 mem:=by simp
 obj:=λi h st b hb=>by
  have e:b=it:=by simpa using hb
  subst e;exact⟨_,st,λv z=>by
   have z':Data.fields _=Data.cell v:=z
   cases z'⟩
 keep:=λi h h' st k=>k it (by simp) _ st
 item:=by intro X hP hw hK hc i pins s σ H E I hf st hg;subst hP hw hK;obtain⟨f0,f1,f2,f3,f4,f5⟩:=hf it (by simp);have W:=Walks.range (prog:=X.prog) (w:=X.w) (I.ok.hd hc) it lo 1 n;refine W.item i s _ _ hg st λv h' tk hv st' kk=>?_;obtain⟨t,rfl⟩:=hv;have I1:Inv X pins σ H { s with heap:=h',toks:=tk }:=I.turned (λb o hb e=>kk b o (by simpa using hb) e) f0 f1 f3 f4 f5;refine⟨_,rfl,Dm (s:={ s with heap:=h',toks:=tk }) (n:="range_iterator") st' rfl rfl (by decide) ⟨.int (lo+i),H,I1,⟨t,?_⟩,⟨rfl,rfl⟩,st',λb hb=>(hf b hb).1⟩⟩;rw[kM]
 done:=by intro X hP hw hK hc i pins s σ H E I hf st hg;subst hP hw hK;obtain⟨f0,f1,f2,f3,f4,f5⟩:=hf it (by simp);exact wpAny_pyNext_range_end (I.ok.hd hc) st (by have:n<=i:=hg;omega) λh' eb=>⟨rfl,I.turned (t':=s.toks) (λb o hb e=>eb b o hb e) f0 f1 f3 f4 f5⟩
 self:=λ_ _ _ _ _ st h=>wpAny_pyIter_rangeiter st h
section
variable{X:Cx}{tg:ai}
def jfg(K:k7m)(tl:TE):TI:=λσ H R=>tl σ H λx H1=>∃a,x=.ref a/\(∃xs,SqL K H1 a xs)/\R (Itl K a) H1
def jgn(K:k7m)(tl:TE):TI:=λσ H R=>tl σ H λx H1=>∃a,x=.ref a/\(∃xs,SqT K H1 a xs)/\R (Itt K a) H1
theorem j8r{l:ai}{tl:TE}(hl:PE X l tl):PI X tg l (jfg X.K tl):=by
 intro pins s σ H R I h;refine thn (hl pins s σ H _ I h) λv s1 ⟨x,H1,I1,r1,q1⟩=>?_;obtain⟨a,e,⟨xs,hq⟩,q⟩:=q1;subst e;cases r1;obtain⟨its,rv,p,hz⟩:=I1.list hq;refine bE p.isList ?_;refine⟨s1.heap.objs.size,[s1.heap.objs.size],_,_,H1,rfl,I1.kept (t':=s1.toks) λb o e=>xg _ e,j21 a _,⟨_,X5 _ rfl,rfl,rfl⟩,λb hb=>?_,q⟩;have e:b=s1.heap.objs.size:=by simpa using hb
 subst e;exact I1.fpOk (X3 _) (I1.hok.fresh (X3 _))
theorem jbl{l:ai}{tl:TE}(hl:PE X l tl):PI X tg l (jgn X.K tl):=by
 intro pins s σ H R I h;refine thn (hl pins s σ H _ I h) λv s1 ⟨x,H1,I1,r1,q1⟩=>?_;obtain⟨a,e,⟨xs,hq⟩,q⟩:=q1;subst e;cases r1;obtain⟨its,rv,p,hz⟩:=I1.tuple hq;refine eW (show s1.heap.IsTuple a its.toArray from p) ?_;refine⟨s1.heap.objs.size,[s1.heap.objs.size],_,_,H1,rfl,I1.kept (t':=s1.toks) λb o e=>xg _ e,j0p a _,⟨_,X5 _ rfl,rfl,rfl⟩,λb hb=>?_,q⟩;have e:b=s1.heap.objs.size:=by simpa using hb
 subst e;exact I1.fpOk (X3 _) (I1.hok.fresh (X3 _))
theorem Le{pins:k7o}{σ:St}{H:Hp}{s:ae}{R:It->Hp->Prop}{E:k7n}{lo hi:Int}{t u v:gW}{tk:Nat}(I:Inv X pins σ H s)(h1:-(2^62)<=lo)(h2:lo<2^62)(h3:-(2^62)<=hi)(h4:hi<2^62)
  (q:R (Itr lo (hi-lo).toNat) H):ao (aw X.prog X.w) X.A (ij (.ref s.heap.objs.size)) (PIE X pins σ tg R) E { s with heap:=s.heap.push { cls:=.type "range",data:=.fields #[.int lo t,.int hi u,.int 1 v] },toks:=tk }:=by
 refine wpAny_pyIter_range (IsRange.new ..) (small_one h1 h2 h3 h4) ?_;have I1:Inv X pins σ H { s with heap:=s.heap.push { cls:=.type "range",data:=.fields #[.int lo t,.int hi u,.int 1 v] },toks:=tk }:=I.kept λb o e=>xg _ e;refine⟨(s.heap.push { cls:=.type "range",data:=.fields #[.int lo t,.int hi u,.int 1 v] }).objs.size,[(s.heap.push { cls:=.type "range",data:=.fields #[.int lo t,.int hi u,.int 1 v] }).objs.size],_,_,H,rfl,
  I1.kept (t':=tk) λb o e=>xg _ e,j0q _ lo (hi-lo).toNat,?_,λb hb=>?_,q⟩
 .have e1:lo+((0:Nat):Int)*1=lo:=by simp
  have e2:(((hi-lo).toNat:Nat):Int)-((0:Nat):Int)=Builtin.Range.rangeSize lo hi 1:=by rw[rangeSize_one];split<;>omega
  show IsRangeIter _ _ (lo+((0:Nat):Int)*1) ((((hi-lo).toNat:Nat):Int)-((0:Nat):Int)) 1;rw[e1,e2];exact X5 _ rfl
 .have e:b=(s.heap.push { cls:=.type "range",data:=.fields #[.int lo t,.int hi u,.int 1 v] }).objs.size:=by simpa using hb
  subst e;exact I1.fpOk (X3 _) (I1.hok.fresh (X3 _))
def jff(ta:TA):TI:=λσ H R=>ta σ H λvs H1=>∃j:Int,vs=[.int j]/\-(2^62)<=j/\j<2^62/\R (Itr 0 j.toNat) H1
def jfe(ta:TA):TI:=λσ H R=>ta σ H λvs H1=>∃i j:Int,vs=[.int i,.int j]/\(-(2^62)<=i/\i<2^62/\-(2^62)<=j/\j<2^62)/\R (Itr i (j-i).toNat) H1
theorem j2n {a:ai} {ta:TA} {p pos:aG} (hg:Gl X "range") (hm:X.mg "range" = a7) (ha:PA X [a] ta) (hs:a9 [a] X.env=[(a4,ay a X.env)]:=by rfl):PI X tg (.Call (.Name "range" p) [a] [] pos) (jff ta):=by
 intro pins s σ H R I h;refine Call_ (Qx I hg hm boot_range (callWith_type1 (thn (ha pos pins s σ H _ I h) λus s1 ⟨vs,H1,I1,r1,q1⟩=>?_) hs rfl));obtain⟨j,e,q1,q2,q⟩:=q1;subst e;cases r1 with
 |cons r rr =>cases rr;obtain⟨t,rfl⟩:=r;exact call_range_1 (Le I1 nofun nofun q1 q2 (by simpa using q))
theorem j2m {a b:ai} {ta:TA} {p pos:aG} (hg:Gl X "range") (hm:X.mg "range" = a7) (ha:PA X [a,b] ta) (hs:a9 [a,b] X.env=[(a4,ay a X.env),(a4,ay b X.env)]:=by rfl) (hs2:a9 [b] X.env=[(a4,ay b X.env)]:=by rfl) :
  PI X tg (.Call (.Name "range" p) [a,b] [] pos) (jfe ta):=by
 intro pins s σ H R I h;refine Call_ (Qx I hg hm boot_range (callWith_type1 (thn (ha pos pins s σ H _ I h) λus s1 ⟨vs,H1,I1,r1,q1⟩=>?_) (by rw[hs,hs2]) (by rw[hs2];rfl)));obtain⟨i,j,e,⟨q1,q2,q3,q4⟩,q⟩:=q1;subst e;cases r1 with
 |cons r rr =>
  cases rr with
  |cons r' rr =>cases rr;obtain⟨t,rfl⟩:=r;obtain⟨t',rfl⟩:=r';exact call_range_2 (Le I1 q1 q2 q3 q4 q)
def jga(wi:TI)(g:TG)(tb:TS):TS:=λD σ H=>wi σ H λJ H1=>∃W:Nat->Nat->St->Hp->Prop,(∃m,W 0 m σ H1)/\∀i m σ H,W i m σ H ->
 (J.stop i H/\D.nx σ H)\/(J.go i H/\∃N:St->Hp->Prop,(∀σ' H',N σ' H'->∃m',m'<m/\W (i+1) m' σ' H')/\∀x H',J.yld i H x H'->g x σ H' λσ2 H2=>tb { D with nx:=N,ct:=N,bk:=D.nx } σ2 H2)
noncomputable def Vi(fp:List aa)(h:aB):List (aa×de):=fp.filterMap λb=>(h.get? b).map λo=>(b,o)
theorem Jz{fp:List aa}{h:aB}{b:aa}{o:de}(hb:b∈fp)(e:h.get? b=a3 o):(b,o)∈Vi fp h:=tu.mpr ⟨b,hb,by rw[e];rfl⟩
theorem Ng{fp:List aa}{h:aB}{p:aa×de}(hp:p∈Vi fp h):p.1∈fp/\h.get? p.1=a3 p.2:=by
 obtain⟨b,hb,e⟩:=tu.mp hp;cases q:h.get? b with
 |none=>rw[q]at e;cases e
 |some o =>rw[q]at e;have e':(b,o)=p:=av e;subst e';exact⟨hb,q⟩
theorem Inv.pinned{pins:k7o}{σ:St}{H:Hp}{s:ae}{fp:List aa}(I:Inv X pins σ H s)(hf:∀b∈fp,Q9 X pins H b)(ho:∀b∈fp,∃o,s.heap.get? b=a3 o/\∀v,o.data≠.cell v):Inv X (pins++Vi fp s.heap) σ H s :=
 I.pins_of λp hp=>(Pb.mp hp).elim (λz=>I.pin p (Xf _ z)) λz=>by obtain⟨hb,e⟩:=Ng z;obtain⟨f0,f1,f2,_⟩:=hf p.1 hb;obtain⟨o,e',d⟩:=ho p.1 hb;rw[e]at e';cases e';exact⟨e,f0,f1,f2,d⟩
theorem Inv.unpinned{pins pl:k7o}{σ:St}{H:Hp}{s:ae}(I:Inv X (pins++pl) σ H s):Inv X pins σ H s:=I.pins_of λp hp=>I.pin p (Xf _ (T5 _ hp))
theorem j2h{iter:ai}{body:List aW}{wi:TI}{g:TG}{tb:TS}{pos:aG}(hp:fJ (aw X.prog X.w) X.A X.env X.xe)(hc:X.calm=a6)(hi:PI X tg iter wi)(hg:PG X tg g)(hb:PSs X body tb)
  (hs:∀x,aD iter X.env x=pure x:=by intro _;rfl):PS X (.For tg iter body [] pos) (jga wi g tb):=by
 intro pins s σ H D I h;refine wpAny_For (thn (hi pins s σ H _ I h) λv s1 h1=>thn h1 λitv s2 h2=>?_) hs;obtain⟨it,fp,tn,J,H2,e,I2,T,st2,f2,W,⟨m0,w0⟩,turn⟩:=h2;subst e;have stat:∀{H':Hp},(∀b∈fp,H' b=a7)->∀b∈fp,Q9 X pins H' b:=λhn b hb=>⟨hn b hb,(f2 b hb).2⟩
 refine codeAny_forLoop_any (λn s'=>∃i σ' H',Inv X pins σ' H' s'/\tn i s'.heap/\(∀b∈fp,H' b=a7)/\W i n σ' H') ?_ m0 ⟨0,σ,H2,I2,st2,λb hb=>(f2 b hb).1,w0⟩;rintro n s3 ⟨i,σ3,H3,I3,st3,fr3,w3⟩;rcases turn i n σ3 H3 w3 with ⟨stop,qn⟩|⟨go,N,hN,step⟩
 .refine cS hp (thn (T.done X rfl rfl rfl hc i pins s3 σ3 H3 X.xe I3 (stat fr3) st3 stop) λr s4 ⟨hr,I4⟩=>?_);subst hr;exact fY ⟨σ3,H3,I4,qn⟩
 .refine cS hp (thn (T.item X rfl rfl rfl hc i pins s3 σ3 H3 X.xe I3 (stat fr3) st3 go) λr s4 ⟨u,hr,h4⟩=>?_);subst hr;refine cS hp (thn h4 λ_ s5 ⟨x,H5,I5,r5,y5,st5,fr5⟩=>?_);have I5':=I5.pinned (stat fr5) (T.obj _ _ st5);refine cS hp (thn (hg _ s5 σ3 H5 x u _ I5' r5 (step x H5 y5)) λ_ s6 ⟨σ6,H6,I6,q6⟩=>?_);refine cS hp (thn (hb _ s6 σ6 H6 _ I6 q6) λf s7 q7=>?_);have i5:∀{σ7:St}{H7:Hp},Inv X (pins++Vi fp s5.heap) σ7 H7 s7->N σ7 H7->∃m,m<n/\∃i σ' H',Inv X pins σ' H' s7/\tn i s7.heap/\(∀b∈fp,H' b=a7)/\W i m σ' H':=λ{σ7 H7} I7 n7=>by obtain⟨m',hm,w7⟩:=hN σ7 H7 n7;refine⟨m',hm,i+1,σ7,H7,I7.unpinned,T.keep _ _ _ st5 λb hb o e=>(I7.pin (b,o) (Xf _ (Xf _ (Jz hb e)))).1,λb hb=>?_,w7⟩;obtain⟨o,e,d⟩:=T.obj _ _ st5 b hb;exact(I7.pin (b,o) (Xf _ (Xf _ (Jz hb e)))).2.1
  cases f with
  |next=>obtain⟨σ7,H7,I7,n7⟩:=q7;exact i5 I7 n7
  |cont=>obtain⟨σ7,H7,I7,n7⟩:=q7;exact i5 I7 n7
  |brk=>obtain⟨σ7,H7,I7,q7⟩:=q7;exact⟨σ7,H7,I7.unpinned,q7⟩
  |ret v=>obtain⟨x7,σ7,H7,H8,I7,r7,x8,q7⟩:=q7;exact⟨x7,σ7,H7,H8,I7.unpinned,r7,x8,q7⟩
end
abbrev R2:=V->V->Hp->VK->Prop
def OpR(X:Cx)(f:a8->a8->Sem a8)(r:R2):Prop :=
 ∀(pins:k7o) (s:ae) (σ:St) (H:Hp) (x y:V) (v u:a8) (Q:VK),Inv X pins σ H s->RelV x v->RelV y u->r x y H Q ->
  ao (aw X.prog X.w) X.A (f v u) (EP X pins σ Q) X.xe s
def J5(X:Cx)(f:a8)(r:List V->Hp->VK->Prop):Prop :=
 ∀(pins:k7o) (s:ae) (σ:St) (H:Hp) (xs:List V) (us:List a8) (Q:VK),Inv X pins σ H s->Vals xs us->r xs H Q ->
  ao (aw X.prog X.w) X.A (call f us) (EP X pins σ Q) X.xe s
def tOp(r:R2)(ta tb:TE):TE:=λσ H Q=>ta σ H λx H1=>tb σ H1 λy H2=>r x y H2 Q
def rI(C:Int->Int->Prop)(g:Int->Int->V):R2:=λx y H Q=>∃i j,x=.int i/\y=.int j/\C i j/\Q (g i j) H
def rI0(g:Int->Int->V):R2:=λx y H Q=>∃i j,x=.int i/\y=.int j/\Q (g i j) H
section
variable{X:Cx}{a b c:ai}{ta tb tc:TE}{pos:aG}
theorem j6x(ha:PE X a ta)(hb:PE X b tb){pins:k7o}{s:ae}{σ:St}{H:Hp}{R:V->V->Hp->Prop}(I:Inv X pins σ H s)
  (h:ta σ H λx H1=>tb σ H1 λy H2=>R x y H2) {Q:k7n} {f:a8->a8->Sem a8}
  (hf:∀v u s2 x y H2,Inv X pins σ H2 s2->RelV x v->RelV y u->R x y H2->ao (aw X.prog X.w) X.A (f v u) Q X.xe s2) :
  ao (aw X.prog X.w) X.A (ay a X.env) (λv s₁=>ao (aw X.prog X.w) X.A (ay b X.env) (λu s₂=>ao (aw X.prog X.w) X.A (f v u) Q X.xe s₂) X.xe s₁) X.xe s:=by
 refine thn (ha pins s σ H _ I h) λv s1 ⟨x,H1,I1,r1,q1⟩=>?_;refine thn (hb pins s1 σ H1 _ I1 q1) λu s2 ⟨y,H2,I2,r2,q2⟩=>?_;exact hf v u s2 x y H2 I2 r1 r2 q2
theorem Y0{op:iN}{r:R2}(ho:OpR X (aV op) r)(ha:PE X a ta)(hb:PE X b tb):PE X (.BinOp a op b pos) (tOp r ta tb):=by intro pins s σ H Q I h;exact wpAny_BinOp (j6x ha hb I h λv u s2 x y H2 I2 rx ry q=>ho pins s2 σ H2 x y v u Q I2 rx ry q)
theorem opI{f:a8->a8->Sem a8}{C:Int->Int->Prop}{g:Int->Int->Int}
  (rule:∀(i j:Int)(t u:gW)(s:ae)(Q:k7n)(E:k7n),C i j->Q (.int (g i j) s.toks) { s with toks:=s.toks+1 }->ao (aw X.prog X.w) X.A (f (.int i t) (.int j u)) Q E s) :
  OpR X f (rI C λi j=>.int (g i j)):=by
 intro pins s σ H x y v u Q I rx ry h;obtain⟨i,j,rfl,rfl,hc,q⟩:=h;obtain⟨t,rfl⟩:=rx;obtain⟨t',rfl⟩:=ry;exact rule i j t t' s _ _ hc ⟨.int (g i j),H,I.tok _,⟨_,rfl⟩,q⟩
theorem j17{f:a8->a8->Sem a8}{g:Int->Int->Int}
  (rule:∀(i j:Int)(t u:gW)(s:ae)(Q:k7n)(E:k7n),Q (.int (g i j) s.toks) { s with toks:=s.toks+1 }->ao (aw X.prog X.w) X.A (f (.int i t) (.int j u)) Q E s) :
  OpR X f (rI0 λi j=>.int (g i j)):=by
 intro pins s σ H x y v u Q I rx ry h;obtain⟨i,j,rfl,rfl,q⟩:=h;obtain⟨t,rfl⟩:=rx;obtain⟨t',rfl⟩:=ry;exact rule i j t t' s _ _ ⟨.int (g i j),H,I.tok _,⟨_,rfl⟩,q⟩
theorem j18{f:a8->a8->Sem a8}{g:Int->Int->Bool}
  (rule:∀(i j:Int)(t u:gW)(s:ae)(Q:k7n)(E:k7n),Q (.bool (g i j)) s->ao (aw X.prog X.w) X.A (f (.int i t) (.int j u)) Q E s) :
  OpR X f (rI0 λi j=>.bl (g i j)):=by
 intro pins s σ H x y v u Q I rx ry h;obtain⟨i,j,rfl,rfl,q⟩:=h;obtain⟨t,rfl⟩:=rx;obtain⟨t',rfl⟩:=ry;exact rule i j t t' s _ _ ⟨.bl (g i j),H,I,rfl,q⟩
def j1y(i j:Int):Prop:=0<=j/\j<=1000000/\i.natAbs<2^64
def j1z(i j:Int):Prop:=(-(2^64)<i/\i<2^64)\/(-(2^64)<j/\j<2^64)
theorem j1z.ok{i j:Int}(h:j1z i j):IntMulOk i j:=by
 rcases h with ⟨h1,h2⟩|⟨h1,h2⟩
 .exact .of_left (kZ h1 h2)
 .exact .of_right (kZ h1 h2)
theorem j0o(k:Nat):(0:Int)<=2^k:=by rw[two_pow_cast];exact Int.natCast_nonneg _
theorem jc0:OpR X (aV .Add) (rI0 λi j=>.int (i+j)):=j17 λ_ _ _ _ _ _ _ q=>add_int q
theorem jbs:OpR X (aV .Sub) (rI0 λi j=>.int (i-j)):=j17 λ_ _ _ _ _ _ _ q=>sub_int q
theorem jbx:OpR X (aV .Mult) (rI j1z λi j=>.int (i*j)):=opI λ_ _ _ _ _ _ _ hc q=>mul_int q hc.ok
theorem jby:OpR X (aV .Mod) (rI (λ_ j=>0<j) λi j=>.int (i%j)):=opI λi j _ _ _ _ _ hc q=>by have h1:(0:Int)<j:=hc;exact mod_int' nofun (by rw[Int.fmod_eq_emod_of_nonneg i nofun];exact q)
theorem jbw:OpR X (aV .Pow) (rI j1y λi j=>.int (i^j.toNat)):=opI λ_ _ _ _ _ _ _ hc q=>pow_int_small hc.1 hc.2.1 hc.2.2 q
theorem jbu:OpR X (aV .LShift) (rI j1y λi j=>.int (i*2^j.toNat)):=opI λ_ _ _ _ _ _ _ hc q=>lshift_int_small hc.1 hc.2.1 hc.2.2 q
theorem jbt:OpR X (aV .RShift) (rI (λ_ j=>0<=j) λi j=>.int (i/2^j.toNat)):=opI λi j _ _ _ _ _ hc q =>rshift_int hc (by rw[fL i (j0o _)];exact q)
theorem jbz:OpR X (aV .BitAnd) (rI0 λi j=>.int (Builtin.bitAnd i j)):=j17 λ_ _ _ _ _ _ _ q=>and_int q
theorem jbr:OpR X (aV .BitXor) (rI0 λi j=>.int (Builtin.bitXor i j)):=j17 λ_ _ _ _ _ _ _ q=>xor_int q
end
noncomputable def Ov:V->V->Bool
 |.non,.non=>a6|.non,.int _=>a6|.int _,.non=>a6|.non,.bl _=>a6|.bl _,.non=>a6|.non,.str _=>a6|.str _,.non=>a6
 |.int _,.int _=>a6|.bl _,.bl _=>a6|.str _,.str _=>a6|.byt _,.byt _=>a6
 |.int _,.str _=>a6|.str _,.int _=>a6|.bl _,.str _=>a6|.str _,.bl _=>a6
 |_,_=>a4
def rEq:R2:=λx y H Q=>Ov x y=a6/\Q (.bl (decide (x=y))) H
def rNe:R2:=λx y H Q=>Ov x y=a6/\Q (.bl (!decide (x=y))) H
theorem j08{i j:Int}:decide (V.int i=V.int j)=(i==j):=by rw[dq];simp
theorem j3v{i j:Bool}:decide (V.bl i=V.bl j)=(i==j):=by rw[dq];simp
theorem j07{i j:af}:decide (V.str i=V.str j)=(i==j):=by rw[dq];simp
theorem j09{i j:Array UInt8}:decide (V.byt i=V.byt j)=(i.toList==j.toList):=by rw[dq];cases i;cases j;simp
section
variable{X:Cx}{a b c:ai}{ta tb tc:TE}{pos:aG}
theorem jn{pins:k7o}{σ:St}{H:Hp}{s:ae}{Q:VK}{k k':Bool}(I:Inv X pins σ H s)(q:Q (.bl k) H)(e:k=k'):EP X pins σ Q (.bool k') s:=by subst e;exact⟨.bl k,H,I,rfl,q⟩
theorem j7i:OpR X (aI .Eq) rEq:=by
 intro pins s σ H x y v u Q I rx ry h;obtain⟨hs,q⟩:=h;cases x with
 |non =>
  cases rx;cases y with
  |non=>cases ry;exact kA (jn I q (by simp))
  |bl j=>cases ry;exact kC (jn I q (by simp))
  |int j=>obtain⟨t',rfl⟩:=ry;exact kB (jn I q (by simp))
  |str j=>obtain⟨t',rfl⟩:=ry;exact kz (jn I q (by simp))
  |_=>exact absurd (show a4=a6 from hs) xj
 |bl i =>
  cases rx;cases y with
  |non=>cases ry;exact kE (jn I q (by simp))
  |bl j=>cases ry;exact eq_bool (jn I q j3v)
  |str j=>obtain⟨t',rfl⟩:=ry;exact k6 (jn I q (by simp))
  |_=>exact absurd (show a4=a6 from hs) xj
 |int i =>
  obtain⟨t,rfl⟩:=rx;cases y with
  |non=>cases ry;exact kD (jn I q (by simp))
  |int j=>obtain⟨t',rfl⟩:=ry;exact eq_int (jn I q j08)
  |str j=>obtain⟨t',rfl⟩:=ry;exact k5 (jn I q (by simp))
  |_=>exact absurd (show a4=a6 from hs) xj
 |str i =>
  obtain⟨t,rfl⟩:=rx;cases y with
  |non=>cases ry;exact ky (jn I q (by simp))
  |bl j=>cases ry;exact jZ (jn I q (by simp))
  |int j=>obtain⟨t',rfl⟩:=ry;exact jY (jn I q (by simp))
  |str j=>obtain⟨t',rfl⟩:=ry;exact eq_str (jn I q j07)
  |_=>exact absurd (show a4=a6 from hs) xj
 |byt i =>
  obtain⟨t,rfl⟩:=rx;cases y with
  |byt j=>obtain⟨t',rfl⟩:=ry;exact W.eq_bytes (jn I q j09)
  |_=>exact absurd (show a4=a6 from hs) xj
 |_=>cases y<;>exact absurd (show a4=a6 from hs) xj
theorem j7e:OpR X (aI .NotEq) rNe:=by
 intro pins s σ H x y v u Q I rx ry h;obtain⟨hs,q⟩:=h;cases x with
 |non =>
  cases rx;cases y with
  |non=>cases ry;exact kq (jn I q (by simp))
  |bl j=>cases ry;exact ku (jn I q (by simp))
  |int j=>obtain⟨t',rfl⟩:=ry;exact kr (jn I q (by simp))
  |str j=>obtain⟨t',rfl⟩:=ry;exact ko (jn I q (by simp))
  |_=>exact absurd (show a4=a6 from hs) xj
 |bl i =>
  cases rx;cases y with
  |non=>cases ry;exact kx (jn I q (by simp))
  |bl j=>cases ry;exact ne_bool (jn I q (congrArg not j3v))
  |str j=>obtain⟨t',rfl⟩:=ry;exact jX (jn I q (by simp))
  |_=>exact absurd (show a4=a6 from hs) xj
 |int i =>
  obtain⟨t,rfl⟩:=rx;cases y with
  |non=>cases ry;exact kv (jn I q (by simp))
  |int j=>obtain⟨t',rfl⟩:=ry;exact ne_int (jn I q (congrArg not j08))
  |str j=>obtain⟨t',rfl⟩:=ry;exact jW (jn I q (by simp))
  |_=>exact absurd (show a4=a6 from hs) xj
 |str i =>
  obtain⟨t,rfl⟩:=rx;cases y with
  |non=>cases ry;exact kn (jn I q (by simp))
  |bl j=>cases ry;exact jV (jn I q (by simp))
  |int j=>obtain⟨t',rfl⟩:=ry;exact jU (jn I q (by simp))
  |str j=>obtain⟨t',rfl⟩:=ry;exact ne_str (jn I q (congrArg not j07))
  |_=>exact absurd (show a4=a6 from hs) xj
 |byt i =>
  obtain⟨t,rfl⟩:=rx;cases y with
  |byt j=>obtain⟨t',rfl⟩:=ry;exact W.ne_bytes (jn I q (congrArg not j09))
  |_=>exact absurd (show a4=a6 from hs) xj
 |_=>cases y<;>exact absurd (show a4=a6 from hs) xj
theorem Dk:OpR X (aI .Lt) (rI0 λi j=>.bl (decide (i<j))):=j18 λ_ _ _ _ _ _ _ q=>lt_int q
theorem j7f:OpR X (aI .LtE) (rI0 λi j=>.bl (decide (i<=j))):=j18 λ_ _ _ _ _ _ _ q=>le_int q
theorem j7g:OpR X (aI .Gt) (rI0 λi j=>.bl (decide (j<i))):=j18 λ_ _ _ _ _ _ _ q=>gt_int q
theorem j7h:OpR X (aI .GtE) (rI0 λi j=>.bl (decide (j<=i))):=j18 λ_ _ _ _ _ _ _ q=>ge_int q
theorem N8:OpR X (aI .Lt) (λx y H Q=>∃i j,x=.str i/\y=.str j/\Q (.bl (decide (i.cps.toList<j.cps.toList))) H):=by intro pins s σ H x y v u Q I rx ry h;obtain⟨i,j,rfl,rfl,q⟩:=h;obtain⟨t,rfl⟩:=rx;obtain⟨t',rfl⟩:=ry;exact lt_str (jn I q rfl)
theorem Nb:OpR X (aI .In) (λx y H Q=>∃i j,x=.str i/\y=.str j/\Q (.bl (!(eO j i 0 j.length 1).isEmpty)) H):=by intro pins s σ H x y v u Q I rx ry h;obtain⟨i,j,rfl,rfl,q⟩:=h;obtain⟨t,rfl⟩:=rx;obtain⟨t',rfl⟩:=ry;exact in_str (jn I q rfl)
theorem j8w:OpR X (aI .IsNot) (λx y H Q=>y=.non/\Q (.bl (!decide (x=.non))) H):=by
 intro pins s σ H x y v u Q I rx ry h;obtain⟨rfl,q⟩:=h;cases ry;refine isnot_none_gen (jn I q ?_);cases x<;>first
  |(cases rx;rfl)
  |(obtain⟨t,rfl⟩:=rx;rfl)
theorem qz(b:ai){op:fj}(h:op≠.In:=by decide)(h2:op≠.NotIn:=by decide):aE op b=a4:=by
 have e1:(op==CmpOp.In)=a4:=by cases op<;>first|rfl|exact absurd rfl h
 have e2:(op==CmpOp.NotIn)=a4:=by cases op<;>first|rfl|exact absurd rfl h2
 cases b<;>simp[aE,e1,e2]
theorem J7{op:fj}{r:R2}(ho:OpR X (aI op) r)(ha:PE X a ta)(hb:PE X b tb)(hm:aE op b=a4):PE X (.Compare a [op] [b] pos) (tOp r ta tb):=by intro pins s σ H Q I h;exact kR (j6x ha hb I h λv u s2 x y H2 I2 rx ry q=>ho pins s2 σ H2 x y v u Q I2 rx ry q) hm
def jeb(t:TE):TT:=λσ H Q=>t σ H λx H'=>∃k,x=.bl k/\Q k H'
theorem Jl{op:fj}{r:R2}(ho:OpR X (aI op) r)(ha:PE X a ta)(hb:PE X b tb)(hm:aE op b=a4):PT X (.Compare a [op] [b] pos) (jeb (tOp r ta tb)):=by
 intro pins s σ H Q I h;refine iD (thn (ha pins s σ H _ I h) λv s1 ⟨x,H1,I1,r1,q1⟩=>thn (hb pins s1 σ H1 _ I1 q1) λu s2 ⟨y,H2,I2,r2,q2⟩ =>
  thn (ho pins s2 σ H2 x y v u _ I2 r1 r2 q2) λc s3 ⟨z,H3,I3,r3,k,e,q3⟩=>?_) hm
 subst e;cases r3;exact b0 ⟨H3,I3,q3⟩
def jas(r r':R2)(ta tb tc:TE):TE:=λσ H Q=>ta σ H λx H1=>tb σ H1 λy H2=>r x y H2 λz H3=>∃k,z=.bl k /\
 (if k=a6 then tc σ H3 λw' H4=>r' y w' H4 Q else Q (.bl a4) H3)
theorem j5a{op op':fj}{r r':R2}(ho:OpR X (aI op) r)(ho':OpR X (aI op') r')(ha:PE X a ta)(hb:PE X b tb)(hc:PE X c tc)
  (hm:ke [op,op'] [b,c]=a4:=by with_unfolding_all rfl):PE X (.Compare a [op,op'] [b,c] pos) (jas r r' ta tb tc):=by
 intro pins s σ H Q I h;refine Compare_chain (thn (ha pins s σ H _ I h) λv s1 ⟨x,H1,I1,r1,q1⟩=>chain_link (thn (hb pins s1 σ H1 _ I1 q1) λu s2 ⟨y,H2,I2,r2,q2⟩ =>
  thn (ho pins s2 σ H2 x y v u _ I2 r1 r2 q2) λd s3 ⟨z,H3,I3,r3,k,e,q3⟩=>?_)) hm
 subst e;cases r3;refine b0 ?_;cases k with
 |false=>exact ite_ff ⟨.bl a4,H3,I3,rfl,q3⟩
 |true=>exact ite_tt (chain_last (thn (hc pins s3 σ H3 _ I3 q3) λw' s4 ⟨z',H4,I4,r4,q4⟩=>ho' pins s4 σ H4 y z' u w' Q I4 r2 r4 q4))
theorem Ur:(aj:Nat)<2^63:=by rw[iJ];decide
theorem j16:OpR X (aV .Add) (λx y H Q=>∃i j,x=.str i/\y=.str j/\i.length+j.length<=aj/\Q (.str (i++j)) H):=by intro pins s σ H x y v u Q I rx ry h;obtain⟨i,j,rfl,rfl,hz,q⟩:=h;obtain⟨t,rfl⟩:=rx;obtain⟨t',rfl⟩:=ry;exact add_str (λt' tk=>⟨.str (i++j),H,I.tok _,⟨_,rfl⟩,q⟩) hz
theorem vals1{x:V}{us:List a8}(r:Vals [x] us):∃u,us=[u]/\RelV x u:=by
 cases r with
 |cons r1 r2=>cases r2;exact⟨_,rfl,r1⟩
theorem vals2{x y:V}{us:List a8}(r:Vals [x,y] us):∃u w',us=[u,w']/\RelV x u/\RelV y w':=by
 cases r with
 |cons r1 r2 =>
  cases r2 with
  |cons r3 r4=>cases r4;exact⟨_,_,rfl,r1,r3⟩
theorem j49 (hc:X.calm=a6):J5 X (.builtin "max") (λxs H Q=>∃i j,xs=[.int i,.int j]/\Q (.int (if j>i then j else i)) H):=by
 intro pins s σ H xs us Q I r h;obtain⟨i,j,rfl,q⟩:=h;obtain⟨u,w',rfl,⟨t,rfl⟩,⟨t',rfl⟩⟩:=vals2 r;refine max_two_ints (I.ok.hd hc) λh' tk k=>⟨_,H,I.kept k,?_,q⟩
 by_cases hj:j>i
 .rw[if_pos hj,if_pos hj];exact⟨_,rfl⟩
 .rw[if_neg hj,if_neg hj];exact⟨_,rfl⟩
theorem j47 (hc:X.calm=a6):J5 X (.builtin "min") (λxs H Q=>∃i j,xs=[.int i,.int j]/\Q (.int (if j<i then j else i)) H):=by
 intro pins s σ H xs us Q I r h;obtain⟨i,j,rfl,q⟩:=h;obtain⟨u,w',rfl,⟨t,rfl⟩,⟨t',rfl⟩⟩:=vals2 r;refine min_two_ints (I.ok.hd hc) λh' tk k=>⟨_,H,I.kept k,?_,q⟩
 by_cases hj:j<i
 .rw[if_pos hj,if_pos hj];exact⟨_,rfl⟩
 .rw[if_neg hj,if_neg hj];exact⟨_,rfl⟩
theorem j4c:J5 X (.type "int") (λxs H Q=>(∃i,xs=[.int i]/\Q (.int i) H)\/∃k,xs=[.bl k]/\Q (.int (if k then 1 else 0)) H):=by
 intro pins s σ H xs us Q I r h;rcases h with ⟨i,rfl,q⟩|⟨k,rfl,q⟩
 .obtain⟨u,rfl,t,rfl⟩:=vals1 r;exact call_int_int ⟨.int i,H,I,⟨_,rfl⟩,q⟩
 .obtain⟨u,rfl,r1⟩:=vals1 r;cases r1;exact call_int_bool ⟨.int (if k then 1 else 0),H,I.tok _,⟨_,rfl⟩,q⟩
end
structure ObjM(h:aB)(x dx C:aa)(mA:k7p):Prop where
 obj:h.get? x=a3 (W.instObj C dx)
 ns:h.Ns1 dx mA
 ne:dx≠x
section
variable{prog:aq}{w:ax}{A:az}{E:k7n}{s:ae}{K:k7m}{x dx C f:aa}{mA:k7p}{name:af}{v:a8}
end
noncomputable def j54(f:af)(v:V):List (af×V)->List (af×V)
 |[]=>[(f,v)]
 |(g,x)::r=>if g=f then(g,v)::r else(g,x)::j54 f v r
section
variable{P:aq}{w:ax}{H H':Hp}{h h':aB}{a C dx:aa}{fs fs':List (af×V)}
end
structure Cls(K:k7m)(C:aa):Prop where
 pg:W.plainGet K C Str.empty=a6
 hd:W.hasDictIn K C=a6
 po:W.plainOver K C=a6
 sa:W.findIn K (.ref C) "__setattr__" = a3 (a3 (.builtin "object.__setattr__"))
structure Con(K:k7m)(C:aa)(f:af)(v:V)(u:a8):Prop where
 at_:W.findIn K (.ref C) f=a3 (a3 u)
 rel:RelV v u
 get:W.specialIn K u "__get__" = a3 a7
 cp:W.copiedNames.contains f=a4
structure Meth(K:k7m)(C:aa)(m:af)(f:aa):Prop where
 at_:W.findIn K (.ref C) m=a3 (a3 (.ref f))
 fn:W.isFn K (.ref f)=a6
 kp:W.keepIn K (.ref f)=a6
section
variable{X:Cx}{pins:k7o}{σ:St}{H:Hp}{s:ae}{a C dx:aa}{fs:List (af×V)}{f:af}{v:V}{A:az}{E:k7n}
end
section
variable{X:Cx}{o e value:ai}{f:af}{pos pos' tpos:aG}{ta tv:TE}
end
section
variable{X:Cx}{pins:k7o}{σ:St}{H:Hp}{s:ae}{A:az}{E:k7n}{Q:k7n}{c:a8}{b:Bool}
inductive TyOf(K:k7m)(H:Hp):V->a8->Prop where
 |non:TyOf K H .non (.type "NoneType")
 |bl (x:Bool):TyOf K H (.bl x) (.type "bool")
 |int (i:Int):TyOf K H (.int i) (.type "int")
 |str (x:af):TyOf K H (.str x) (.type "str")
 |flt (x:UInt64):TyOf K H (.flt x) (.type "float")
 |lst {a:aa} {xs:List V} (e:H a=a3 (.lst xs)):TyOf K H (.ref a) (.type "list")
 |frz {a:aa} {o:de} {xs:List V} (e:H a=a3 (.frz o (.lst xs))):TyOf K H (.ref a) (.type "list")
 |tup {a:aa} {xs:List V} (e:H a=a3 (.tup xs)):TyOf K H (.ref a) (.type "tuple")
 |dK {a:aa} {kvs:List (Key×V)} (e:H a=a3 (.dK kvs)):TyOf K H (.ref a) (.type "dict")
 |dT {a:aa} {kvs:List (List Key×V)} (e:H a=a3 (.dT kvs)):TyOf K H (.ref a) (.type "dict")
 |ins {a C dx:aa} {fs:List (af×V)} (e:H a=a3 (.ins C dx fs)) (cl:Cls K C) (ha:W.findIn K (.ref C) "__class__" = a3 (a3 (.builtin "object.__class__")))
   (hn:W.specialIn K (.builtin "object.__class__") "__get__" = a3 (a3 (.builtin "getset_descriptor.__get__"))) (htk:W.takesIn K (.builtin "object.__class__")=a3 a6)
   (hm:W.mroIn K C (.type "object")=a3 a6):TyOf K H (.ref a) (.ref C)
end
structure Room(k:Nat)(A:az):Prop where
 hd:A.handled=a7
 dp:A.depth+3*k+5<dU
 un:A.units+16*k+200<aL
theorem Room.mono{j k:Nat}{A:az}(r:Room k A)(h:j<=k):Room j A:=⟨r.hd,by have:=r.dp;omega,by have:=r.un;omega⟩
theorem Room.deeper{k:Nat}{A:az}(r:Room (k+1) A)(env:dh):Room k (A.deeper env) :=
 ⟨r.hd,by have:=r.dp;show A.depth+1+3*k+5<_;omega,by have:=r.un;show A.units+3+16*k+200<_;omega⟩
theorem Room.depth{k:Nat}{A:az}(r:Room k A):A.depth<dU:=by have:=r.dp;omega
def jg5:TA:=λ_ H Q=>Q [] H
def j7b(ta:TE)(tr:TA):TA:=λσ H Q=>ta σ H λx H1=>tr σ H1 λxs H2=>Q (x::xs) H2
section
variable{X:Cx}{e:ai}{es:List ai}{te:TE}{t:TA}{pos:aG}
theorem jz:PA X [] jg5:=λ_ _ _ _ H Q I h=>hV ⟨[],H,I,.nil,h⟩
theorem jd(ha:PE X e te)(hr:PA X es t)(hs:a9 (e::es) X.env=(a4,ay e X.env)::a9 es X.env:=by rfl):PA X (e::es) (j7b te t):=by intro pos pins s σ H Q I h;rw[hs];show ao _ _ (jL ((a4,ay e X.env)::aP pos (a9 es X.env))) _ _ s;refine gM (thn (ha pins s σ H _ I h) λu s1 ⟨x,H1,I1,r1,q1⟩=>?_);exact thn (hr pos pins s1 σ H1 _ I1 q1) λus s2 ⟨xs,H2,I2,r2,q2⟩=>⟨x::xs,H2,I2,.cons r1 r2,q2⟩
def jg1(t:TA):TE:=λσ H Q=>t σ H λxs H1=>xs.length<=aj/\∀p,H1 p=a7->Q (.ref p) (upd H1 p (.tup xs))
def jg6(t:TA):TE:=λσ H Q=>t σ H λxs H1=>xs.length<=aj/\∀p,H1 p=a7->Q (.ref p) (upd H1 p (.lst xs))
theorem j2p{x1}(h:PA X es t):PE X (.Tuple es x1 pos) (jg1 t):=by intro pins s σ H Q I hq;refine wpAny_Tuple_spliced (thn (h pos pins s σ H _ I hq) λus s1 ⟨xs,H1,I1,r,z,q⟩=>⟨by rw[<-r.length];exact z,?_⟩);have hf:H1 s1.heap.objs.size=a7:=I1.hok.fresh (X3 _);refine⟨.ref s1.heap.objs.size,upd H1 s1.heap.objs.size (.tup xs),I1.laid (t':=s1.toks) (λb u e=>xg _ e) (X3 _) ?_,rfl,q _ hf⟩;exact⟨z,us,r,⟨_,X5 _ rfl,rfl,_,rfl⟩,Z5.new _ _⟩
theorem jbm(h:PA X es t):PE X (.List es pos) (jg6 t):=by intro pins s σ H Q I hq;refine wpAny_List_spliced (thn (h pos pins s σ H _ I hq) λus s1 ⟨xs,H1,I1,r,z,q⟩=>⟨by rw[<-r.length];exact z,?_⟩);have hf:H1 s1.heap.objs.size=a7:=I1.hok.fresh (X3 _);refine⟨.ref s1.heap.objs.size,upd H1 s1.heap.objs.size (.lst xs),I1.laid (t':=s1.toks) (λb u e=>xg _ e) (X3 _) ?_,rfl,q _ hf⟩;exact⟨z,us,0,r,X5 _ rfl⟩
end
abbrev Sp:=List V->Hp->VK->XK->Prop
abbrev CXT:=List dh->Hp->ae->XK->a8->ae->Prop
structure Env0(P:aq)(w:ax)(K:k7m)(mg:k7p)(base:aB)(A:az)(outer:List dh)(s:ae)(H:Hp):Prop where
 frames:A.frames=a3 outer
 mod:Mod K mg base
 bs:∀b o,base.get? b=a3 o->s.heap.get? b=a3 o/\H b=a7
 bsz:base.objs.size<=s.heap.objs.size
 funs:s.heap.FunFrames base outer
 frf:∀b∈frs outer,H b=a7
 hok:HOk P w H s.heap
 bare:di s.gens
def CE(outer:List dh)(P:aq)(w:ax)(H:Hp)(s:ae)(Q:VK)(u:a8)(s':ae):Prop :=
 ∃v H',s'.os=s.os/\di s'.gens/\Un (frs outer) [] H H' s.heap s'.heap/\HOk P w H' s'.heap/\RelV v u/\Q v H'
def CR(CX:CXT)(outer:List dh)(P:aq)(w:ax)(H:Hp)(s:ae)(Q:VK)(E:XK)(r:fH)(s':ae):Prop :=
 match r with
 |.ok (.ret u)=>CE outer P w H s Q u s'
 |.ok _=>False
 |.error e=>CX outer H s E e s'
structure FnOk(P:aq)(w:ax)(K:k7m)(mg:k7p)(base:aB)(CX:CXT)(k:Nat)(f:aa)(fd:aH)(ps:List af)(sp:Sp):Prop where
 len:∀vs H Q E,sp vs H Q E->vs.length=ps.length
 run:∀(A:az)(outer:List dh)(s:ae)(H:Hp)(args:Args)(us:List a8)(vs:List V) (Q:VK) (E:XK),Room k A->Env0 P w K mg base A outer s H->fm s fd args (ps.zip us)->Vals vs us->sp vs H Q E ->
  cu (aw P w) A (.call (.ref f) args) (CR CX outer P w H s Q E) s
theorem FnOk.imp{P:aq}{w:ax}{K:k7m}{mg:k7p}{base:aB}{CX:CXT}{k:Nat}{f:aa}{fd:aH}{ps:List af}{sp sp':Sp}(F:FnOk P w K mg base CX k f fd ps sp)
  (h:∀vs H Q E,sp' vs H Q E->sp vs H Q E):FnOk P w K mg base CX k f fd ps sp' :=
 ⟨λvs H Q E q=>F.len vs H Q E (h _ _ _ _ q),λA outer s H args us vs Q E hr he hb hv hs=>F.run A outer s H args us vs Q E hr he hb hv (h _ _ _ _ hs)⟩
section
variable{X:Cx}{pins:k7o}{σ:St}{H:Hp}{s s':ae}
theorem Inv.env0(I:Inv X pins σ H s):Env0 X.prog X.w X.K X.mg X.base X.A X.stack s H :=
 ⟨I.ok.frames,I.ok.mod,I.bs,Xh I.ok.bsz I.sz,I.stack,I.stkFree,I.hok,I.bare⟩
theorem Inv.after{Q:VK}{u:a8}(I:Inv X pins σ H s)(h:CE X.stack X.prog X.w H s Q u s'):EP X pins σ Q u s':=by obtain⟨v,H',os,bare,un,hok,r,q⟩:=h;obtain⟨hh,g,d,t,os'⟩:=s';obtain rfl:os'=s.os:=os;exact⟨v,H',I.call (h':=hh) (g':=g) (d':=d) (t':=t) (ch:=[]) un hok bare (λb z=>absurd z (by simp)),r,q⟩
end
def jeg(sp:Sp)(dvs:List V)(E:XK)(t:TA):TE:=λσ H Q=>t σ H λvs H1=>sp (vs++dvs) H1 Q E
def Binds(K:k7m)(fd:aH)(ps:List af)(ds:List a8):Prop :=
 ∀(s:ae)(us:List a8),K.In s.heap->(us++ds).length=ps.length->fm s fd ⟨us,[]⟩ (ps.zip (us++ds))
theorem Binds.all{K:k7m}{fd:aH}{ps:List af}(h:∀us:List a8,us.length=ps.length->dZ fd ⟨us,[]⟩=pure (ps.zip us)):Binds K fd ps []:=λs us _ hl=>by rw[Xp]at hl ⊢;exact .of_eq (h us hl)
def Kv(CX:CXT)(X:Cx)(E:XK):Prop:=∀(pins:k7o) (σ:St) (H:Hp) (s:ae) (e:a8) (s':ae),Inv X pins σ H s->CX X.stack H s E e s'->X.xe e s'
section
variable{X:Cx}{CX:CXT}{k:Nat}{f C:aa}{fd:aH}{ps:List af}{sp:Sp}{dvs:List V}{ds:List a8}{E:XK}{x m:af}{p pos apos:aG}{e o:ai}{es:List ai}{ta:TE}{t:TA}
theorem jb5{pins:k7o}{σ:St}{H:Hp}{s:ae}{Q:VK}{us:List a8}{vs:List V}(F:FnOk X.prog X.w X.K X.mg X.base CX k f fd ps sp)(hr:Room k X.A)(hb:Binds X.K fd ps ds)(hd:Vals dvs ds)(hx:Kv CX X E)
  (I:Inv X pins σ H s) (r:Vals vs us) (h:sp (vs++dvs) H Q E):ao (aw X.prog X.w) X.A (call (.ref f) us) (EP X pins σ Q) X.xe s:=by
 have r2:Vals (vs++dvs) (us++ds):=r.append hd;have hl:(us++ds).length=ps.length:=by rw[<-r2.length];exact F.len _ _ _ _ h
 refine gp (bP (F.run X.A X.stack s H ⟨us,[]⟩ (us++ds) (vs++dvs) Q E hr I.env0 (hb s us I.kIn hl) r2 h) λr s' hq=>?_);cases r with
 |error e=>exact hx pins σ H s e s' I hq
 |ok fl =>
  cases fl with
  |ret u=>exact I.after hq
  |next=>exact aR hq
  |brk=>exact aR hq
  |cont=>exact aR hq
theorem Oz(F:FnOk X.prog X.w X.K X.mg X.base CX k f fd ps sp)(hr:Room k X.A)(hg:Gl X x)(hm:X.mg x=a3 (.ref f))(hk:W.keepIn X.K (.ref f)=a6)(hb:Binds X.K fd ps ds)(hd:Vals dvs ds)(hx:Kv CX X E)
  (ha:PA X (e::es) t) (hdb:(x==k7q)=a4:=by decide) (he:a9 (e::es) X.env=(a4,ay e X.env)::a9 es X.env:=by rfl) (hpl:(aP pos (a9 es X.env)).any (·.1)=a4:=by rfl) :
  PE X (.Call (.Name x p) (e::es) [] pos) (jeg sp dvs E t):=by
 intro pins s σ H Q I h;refine aM (Yo I hg hm ?_ hdb);refine W.callWith_K (h₀:=X.base) I.ok.mod.kin hk (thn (ha pos pins s σ H _ I h) λus s1 ⟨vs,H1,I1,r,q⟩=>⟨I1.kIn,?_⟩) he hpl;exact jb5 F hr hb hd hx I1 r q
structure Mk(K:k7m)(C f:aa):Prop where
 makes:W.makesIn K C=a6
 init:W.findIn K (.ref C) "__init__" = a3 (a3 (.ref f))
 fn:W.isFn K (.ref f)=a6
 kp:W.keepIn K (.ref C)=a6
end
def PK(X:Cx)(kws:List b7)(t:TA):Prop :=
 ∀(pos:aG)(pins:k7o) (s:ae) (σ:St) (H:Hp) (Q:List V->Hp->Prop),Inv X pins σ H s->t σ H Q->ao (aw X.prog X.w) X.A (evalAll ((bY pos (b9 kws X.env)).map (·.2))) (AP X pins σ Q) X.xe s
section
variable{X:Cx}{CX:CXT}{k:Nat}{f C:aa}{fd:aH}{ps ks:List af}{sp:Sp}{E:XK}{x m:af}{p pos apos kpos:aG}{e o:ai}{es:List ai}{kws:List b7}{te ta:TE}{t tk:TA}{nm:Option af}
theorem Wb(ha:PE X e te)(hr:PK X kws t):PK X (⟨nm,e,kpos⟩::kws) (j7b te t):=by intro pos pins s σ H Q I h;show ao _ _ (evalAll ((do let v <-ay e X.env;jK pos;pure v)::(bY pos (b9 kws X.env)).map (·.2))) _ _ s;refine wpAny_evalAll_cons (a5 (thn (ha pins s σ H _ I h) λu s1 ⟨x,H1,I1,r1,q1⟩=>a5 (gO (ah ?_))));exact thn (hr pos pins s1 σ H1 _ I1 q1) λus s2 ⟨xs,H2,I2,r2,q2⟩=>⟨x::xs,H2,I2,.cons r1 r2,q2⟩
structure KBinds(K:k7m)(fd:aH)(ps ks:List af)(g:List a8->List a8->List a8)(gV:List V->List V->List V):Prop where
 to:∀(s:ae)(us ws:List a8),K.In s.heap->(g us ws).length=ps.length->fm s fd ⟨us,ks.zip ws⟩ (ps.zip (g us ws))
 rel:∀{vs:List V}{us:List a8}{zs:List V}{ws:List a8},Vals vs us->Vals zs ws->Vals (gV vs zs) (g us ws)
variable{g:List a8->List a8->List a8}{gV:List V->List V->List V}
end
structure FnScope(N P:List af)(sc:aX):Prop where
 kind:sc.kind=.function
 co:sc.isCoroutine=a4
 gen:sc.isGenerator=a4
 nd:N.Nodup
 pre:N.take P.length=P
 par:∀x∈P,sc.names.lookup x=a3 .local\/sc.names.lookup x=a3 .cell
 nofree:∀y∈sc.names,y.2≠.free
theorem Fb{kindOf:af->Option ba}{x:af}:∀{binds:List (af×a8)} {m:k7p},(∀v,(x,v)∉binds)->i3 kindOf binds m x=m x
 |[],_,_=>rfl
 |(n,v)::r,m,h=>by
  unfold i3;rw[Fb λw hw=>h w (xf _ hw)];split
  .have:x≠n:=by rintro rfl;exact h v xm
   simp[this]
  .rfl
theorem Ff{kindOf:af->Option ba}{x:af}:∀{binds:List (af×a8)} {m:k7p},(∀v,(x,v)∉binds)->i4 kindOf binds m x=m x
 |[],_,_=>rfl
 |(n,v)::r,m,h=>by
  unfold i4;rw[Ff λw hw=>h w (xf _ hw)];split
  .rfl
  .have:x≠n:=by rintro rfl;exact h v xm
   simp[this]
theorem Fd{kindOf:af->Option ba}{x:af}{v:a8}:∀{P:List af}{vs:List a8}{i:Nat}{m:k7p},P.Nodup->P[i]?=a3 x->vs[i]?=a3 v->kindOf x=a3 .local ->
  i3 kindOf (P.zip vs) m x=a3 v
 |[],_,_,_,_,h,_,_=>by simp at h
 |_::_,[],_,_,_,_,h,_=>by simp at h
 |p::P,w::vs,0,m,nd,h1,h2,hk=>by simp at h1 h2;subst h1;subst h2;show i3 kindOf ((p,w)::P.zip vs) m p=_;unfold i3;rw[Fb λv hv=>(Xm.mp nd).1 (dk hv).1,if_pos hk];simp
 |p::P,w::vs,i+1,m,nd,h1,h2,hk=>by show i3 kindOf ((p,w)::P.zip vs) m x=_;unfold i3;exact Fd (i:=i) (Xm.mp nd).2 (by simpa using h1) (by simpa using h2) hk
theorem Fg{kindOf:af->Option ba}{x:af}{v:a8}:∀{P:List af}{vs:List a8}{i:Nat}{m:k7p},P.Nodup->P[i]?=a3 x->vs[i]?=a3 v->kindOf x≠a3 .local ->
  i4 kindOf (P.zip vs) m x=a3 v
 |[],_,_,_,_,h,_,_=>by simp at h
 |_::_,[],_,_,_,_,h,_=>by simp at h
 |p::P,w::vs,0,m,nd,h1,h2,hk=>by simp at h1 h2;subst h1;subst h2;show i4 kindOf ((p,w)::P.zip vs) m p=_;unfold i4;rw[Ff λv hv=>(Xm.mp nd).1 (dk hv).1,if_neg hk];simp
 |p::P,w::vs,i+1,m,nd,h1,h2,hk=>by show i4 kindOf ((p,w)::P.zip vs) m x=_;unfold i4;exact Fg (i:=i) (Xm.mp nd).2 (by simpa using h1) (by simpa using h2) hk
noncomputable def start(N:List af)(vs:List V):St:=vs.map a3++ak (N.length-vs.length) a7
noncomputable def v7(CX:CXT)(P:aq)(w:ax)(K:k7m)(mg:k7p)(base:aB)(N:List af)(qual:af)(scope:aX)(f:aa)(cd:a8)(A:az)(outer:List dh)(s:ae)(H:Hp)(E:XK):Cx where
 prog:=P
 w:=w
 K:=K
 mg:=mg
 base:=base
 A:=A.deeper (bc qual scope s.heap.objs.size f cd)
 N:=N
 s₀:=s
 H₀:=H
 env:=bc qual scope s.heap.objs.size f cd
 outer:=outer
 stack:=bc qual scope s.heap.objs.size f cd::outer
 ex:=[]
 calm:=a6
 fn:=λ_=>a6
 pn:=[]
 xe:=λe s'=>ao (aw P w) (A.deeper (bc qual scope s.heap.objs.size f cd)) (leaving (bc qual scope s.heap.objs.size f cd) e) (λ_ s''=>CX outer H s E e s'') (λe' s''=>CX outer H s E e' s'') s'
theorem Ko{sc:aX}{n:Nat}{x:af}(h:sc.names.lookup x=a3 .cell):∃c,(aJ n sc.names []).lookup x=a3 c:=by have q:=W.cellsFrom_some sc.names n [] (.inl h);exact Xr.mp q
theorem j3k{CX:CXT}{P:aq}{w:ax}{K:k7m}{mg:k7p}{base:aB}{N ps:List af}{qual:af}{scope:aX}{f:aa}{cd:a8}{A:az}{outer:List dh}{s s1:ae}{H:Hp}{E:XK}{us:List a8}{vs:List V}
  (S:FnScope N ps scope) (cm:Bool) (hd:cm=a6->A.handled=a7) (e0:Env0 P w K mg base A outer s H) (hl:vs.length=ps.length) (r:Vals vs us)
  (x:InCallC s s.heap.objs.size (i3 (bc qual scope s.heap.objs.size f cd).kindOf (ps.zip us) λ_=>a7) (aJ (s.heap.objs.size+1) scope.names []) (i4 (bc qual scope s.heap.objs.size f cd).kindOf (ps.zip us) λ_=>a7) s1) :
  Inv { v7 CX P w K mg base N qual scope f cd A outer s H E with calm:=cm } [] (start N vs) H s1:=by
 have hpl:ps.length<=N.length:=by have:=congrArg dA S.pre;rw[Xn]at this;omega
 obtain⟨h1,tk,rfl,hk⟩:=x.done;have noA:∀b:aa,b∉(v7 CX P w K mg base N qual scope f cd A outer s H E).ex:=λb z=>absurd (show b∈([]:List aa)from z) (by simp);refine⟨⟨e0.mod,S.kind,rfl,rfl,X3 _,λy z c h1 h2=>?_,λy hy=>?_,λy c _ h=>?_,hd,Around.frames_deeper e0.frames,.inr ⟨rfl,rfl⟩,λb z=>absurd z (noA b),e0.bs,e0.bsz,λb _ _=>noA b,λb z=>absurd z (noA b),e0.funs,e0.frf⟩,
  rfl,e0.bare,Un.kept hk,⟨_,x.toInCall.ns,λi y v h1 h2 h3=>?_⟩,λy c h=>⟨_,x.cell y c h⟩,e0.hok.fresh (X3 _),λy c h=>?_,λp hp=>absurd (show p∈([]:k7o)from hp) (by simp),e0.hok.kept hk,?_⟩
 .exact name_of_addr x.apart (Pg h1) (Pg h2)
 .have hy:scope.names.lookup y=a3 .cell\/scope.names.lookup y=a3 .free:=hy;rcases hy with hy|hy
  .exact Ko hy
  .exact absurd rfl (S.nofree _ (Pg hy))
 .exact cK (x.above y c (Pg h))
 .have hi:i<vs.length:=by
   unfold start at h2;by_cases hi:i<vs.length
   .exact hi
   .rw[cM (by simpa using hi)]at h2;rw[List.getElem?_replicate]at h2;split at h2<;>cases h2
  have ha:vs[i]?=a3 v:=by
   unfold start at h2;rw[Pn (by simpa using hi),xx]at h2;cases e:vs[i]? with
   |none=>rw[e]at h2;cases h2
   |some a=>rw[e]at h2;cases h2;rfl
  obtain⟨u,hu,rv⟩:=r.get ha;have hp:ps[i]?=a3 y:=by rw[<-S.pre,List.getElem?_take_of_lt nofun];exact h1
  have ndP:ps.Nodup:=by rw[<-S.pre];exact S.nd.sublist (List.take_sublist _ _)
  refine⟨u,rv,?_⟩;rcases S.par y (Xo hp)with k|k
  .exact .inl ⟨k,Fd ndP hp hu k⟩
  .obtain⟨c,e⟩:=Ko (n:=s.heap.objs.size+1) k;refine .inr ⟨.inl k,c,e,?_⟩;have q:=x.cell y c e;rw[Fg ndP hp hu (by show scope.names.lookup y≠_;rw[k];decide)]at q;exact q
 .exact e0.hok.fresh (cK (x.above y c (Pg h)))
 .unfold start;show _=N.length;rw[Xc,kj,du];omega
theorem Inv.extOut{X:Cx}{pins:k7o}{σ:St}{H H2:Hp}{s:ae}(J:Inv X pins σ H s)(x:Ext X H H2 s):HOk X.prog X.w H2 s.heap/\(X.ex=[]->Un X.fs [] X.H₀ H2 X.s₀.heap s.heap):=by
 have old:∀b o,X.s₀.heap.get? b=a3 o->H2 b=H b:=λb o e=>(x b).elim id λ⟨y,ob,v,hc,hf,_⟩=>absurd (Xg (xu e) (J.ok.cab y b hf hc)) (P0 _);have trk:∀{b:aa}{u:HO},H b=a3 u->H2 b=a3 u:=λ{b u} e=>(x b).elim (λz=>z.trans e) λ⟨y,ob,v,hc,_⟩=>by rw[J.freeC y b hc]at e;cases e
 refine⟨λa o e=>?_,λhx=>?_⟩
 .rcases x a with z|⟨y,ob,v,_,_,e2,e3,_⟩
  .exact(J.hok a o (z▸e)).stay (λ_ _ _ q=>q) (λ_ q=>trk q) (λ_ _ q=>trk q) λ_ _ _ q=>trk q
  .rw[e2]at e;cases e;exact⟨e3,ob,e3⟩
 .have nx:∀b,b∉X.ex:=λb=>by rw[hx];simp
  exact⟨λb o e n hb _=>J.base.keep b o e n hb (nx b),λb o e n hb _=>J.base.slot b o e n hb (nx b),λb o e n _=>(old b o e).trans (J.base.free b o e n (nx b)),λb o e _=>J.base.there b o e (nx b),
   λb xs e=>trk (J.base.tups b xs e),λb o u e=>trk (J.base.frzs b o u e),λb ps e=>let ⟨m,z⟩:=J.base.tbls b ps e;⟨m,trk z⟩⟩
theorem j7q{CX:CXT}{P:aq}{w:ax}{K:k7m}{mg:k7p}{base:aB}{k:Nat}{f:aa}{name qual:af}{params:dw}{body:List aW}{scope:aX}{dV kV doc pm cdv ct oc:a8}{an od:Option aa}
  {osl:Array (Option a8)} {N ps:List af} {sp:Sp} (lk:K.lookup f=a3 ⟨oc,od,.func (W.fnOf name qual params body scope dV kV doc pm an cdv ct),osl⟩) (hcd:W.codeIn K cdv qual=a6) (S:FnScope N ps scope)
  (len:∀vs H Q E,sp vs H Q E->vs.length=ps.length)
  (hbody:∀(A:az)(outer:List dh)(s:ae)(H:Hp)(vs:List V)(Q:VK)(E:XK),Room k (A.deeper (bc qual scope s.heap.objs.size f cdv))->sp vs H Q E ->
   ∃t,PSs (v7 CX P w K mg base N qual scope f cdv A outer s H E) body t/\t { nx:=λ_ H'=>Q .non H',rt:=Q } (start N vs) H) :
  FnOk P w K mg base CX (k+1) f (W.fnOf name qual params body scope dV kV doc pm an cdv ct) ps sp:=by
 refine⟨len,λA outer s H args us vs Q E hr e0 hb r hsp=>?_⟩;have hl:=len _ _ _ _ hsp;have KX:K.In s.heap:=e0.mod.kin.keeps λb o e=>(e0.bs b o e).1;have lim:s.heap.NoLimit:=e0.mod.nolimit.keeps λb o e=>(e0.bs b o e).1;have hkind:∀y∈ps.zip us,scope.names.lookup y.1=a3 .local\/(scope.names.lookup y.1=a3 .cell/\((aJ (s.heap.objs.size+1) scope.names []).lookup y.1).isSome=a6):=λ⟨n,v⟩ hy=>by
  rcases S.par n (dk hy).1 with q|q
  .exact .inl q
  .exact .inr ⟨q,W.cellsFrom_some _ _ _ (.inl q)⟩
 refine codeAny_call_function hr.depth (KX _ _ lk) rfl S.co S.gen rfl (W.codeRec_of KX hcd) (hb _ _ _ _ ?_);refine wpAny_newFunctionEnv_cells S.kind hkind λenv he s1 x=>?_;subst he;refine⟨lim.keeps x.toInCall.keep,codeAny_func ?_⟩;obtain⟨t,ht,hq⟩:=hbody A outer s H vs Q E (hr.deeper _) hsp;have I:Inv (v7 CX P w K mg base N qual scope f cdv A outer s H E) [] (start N vs) H s1:=j3k S a6 (λ_=>hr.hd) e0 hl r x;refine bp (ht [] s1 (start N vs) H _ I hq) (λfl s' hs=>?_) λe s' hs=>hs;have fin:∀{σ':St}{H':Hp}{v:V}{u:a8},Inv (v7 CX P w K mg base N qual scope f cdv A outer s H E) [] σ' H' s'->RelV v u->Q v H'->CE outer P w H s Q u s' :=
  λ{σ' H' v u} J rv q=>⟨v,H',J.os,J.bare,J.base,J.hok,rv,q⟩
 cases fl with
 |ret u =>obtain⟨v,σ',H',H2,J,rv,x,q⟩:=hs;exact⟨v,H2,J.os,J.bare,(J.extOut x).2 rfl,(J.extOut x).1,rv,q⟩
 |next =>obtain⟨σ',H',J,q⟩:=hs;exact fin (v:=V.non) (u:=aK) J rfl q
 |brk =>obtain⟨_,_,_,q⟩:=hs;exact aR q
 |cont =>obtain⟨_,_,_,q⟩:=hs;exact aR q
section
variable{X:Cx}{x:af}{p pos:aG}{e:ai}{es:List ai}{t:TA}{id T:String}{r:List V->Hp->VK->Prop}
def tCB(r:List V->Hp->VK->Prop)(t:TA):TE:=λσ H Q=>t σ H λvs H1=>r vs H1 Q
theorem v6 (hc:J5 X (.builtin id) r) (hg:Gl X x) (hm:X.mg x=a7) (hv:aU x=a3 (.builtin id)) (ha:PA X (e::es) t) (hn:x ≠ "__name__":=by decide) (hdb:(x==k7q)=a4:=by decide)
  (he:a9 (e::es) X.env=(a4,ay e X.env)::a9 es X.env:=by rfl) (hpl:(aP pos (a9 es X.env)).any (·.1)=a4:=by rfl):PE X (.Call (.Name x p) (e::es) [] pos) (tCB r t):=by
 intro pins s σ H Q I h;refine aM (Qx I hg hm hv ?_ hn hdb);exact callWith_builtin1 (thn (ha pos pins s σ H _ I h) λus s1 ⟨vs,H1,I1,r1,q1⟩=>hc pins s1 σ H1 vs us Q I1 r1 q1) he hpl
theorem Uq (hc:J5 X (.type T) r) (hg:Gl X x) (hm:X.mg x=a7) (hv:aU x=a3 (.type T)) (ha:PA X (e::es) t) (hn:x ≠ "__name__":=by decide) (hdb:(x==k7q)=a4:=by decide)
  (he:a9 (e::es) X.env=(a4,ay e X.env)::a9 es X.env:=by rfl) (hpl:(aP pos (a9 es X.env)).any (·.1)=a4:=by rfl):PE X (.Call (.Name x p) (e::es) [] pos) (tCB r t):=by
 intro pins s σ H Q I h;refine aM (Qx I hg hm hv ?_ hn hdb);exact callWith_type1 (thn (ha pos pins s σ H _ I h) λus s1 ⟨vs,H1,I1,r1,q1⟩=>hc pins s1 σ H1 vs us Q I1 r1 q1) he hpl
end
end L2
namespace HT
open PySem PyProof.Rows
noncomputable def lexLt:List Int->List Int->Bool
 |[],[]=>a4
 |[],_::_=>a6
 |_::_,[]=>a4
 |x::xs,y::ys=>if x=y then lexLt xs ys else decide (x<y)
theorem lexLt_cons(x y:Int)(xs ys:List Int):lexLt (x::xs) (y::ys)=if x=y then lexLt xs ys else decide (x<y):=rfl
theorem Dc:lexLt [] []=a4:=rfl
theorem Bc(y:Int)(ys:List Int):lexLt [] (y::ys)=a6:=rfl
theorem Bd(x:Int)(xs:List Int):lexLt (x::xs) []=a4:=rfl
theorem eqAt_int(A:az)(s:ae)(a:Int)(t:gW)(c:Int)(u:gW):∃e,cG A s (.int a t) (.int c u) e/\(e=a6↔a=c) :=
 ⟨(a==c),SeqAt.EqAt.int_int a t c u,by simp⟩
theorem rcLt_int(A:az)(s:ae)(a:Int)(t:gW)(c:Int)(u:gW)(prog:aq)(w:ax)(E:k7n)(Q:k7n)(h:Q (.bool (decide (a<c))) s) :
  ao (aw prog w) A (fQ .Lt (.int a t) (.int c u)) Q E s :=
 (lt_int h:ao (aw prog w) A (aI .Lt (.int a t) (.int c u)) Q E s)
section
open PySem.SeqAt
open PySem.AutoSeq1 (wpAny_loadPart')
open PySem.MeetsSeq PySem.MeetsSeq2 PySem.MeetsSeq3
theorem Fp(l b:aa)(items items2:Array a8)(n n2:Nat)(dd dd2:Option aa)(sl sl2:Array (Option a8))(ns ms:List Int)(hi:cE items.toList ns)(hj:cE items2.toList ms) :
  jP (eK.«tuple.__lt__» ⟨[.ref l,.ref b],[]⟩)
   (λ_ R s=>s.heap.get? l=a3 { cls:=.type "tuple",dict:=dd,data:=.seq items n,slots:=sl }/\s.heap.get? b=a3 { cls:=.type "tuple",dict:=dd2,data:=.seq items2 n2,slots:=sl2 } /\
    R (.ok (.ret (.bool (lexLt ns ms)))) s) :=
 .of_wp λprog w A R s h=>by
  obtain⟨hp,g,d,tk,os⟩:=s;obtain⟨hl,hb,h⟩:=h;have f2:=fb;have z1:items.size=ns.length:=by rw[<-hi.length];simp
  have z2:items2.size=ms.length:=by rw[<-hj.length];simp
  wp_walk using dE hl,dE hb,ka _ (λrest b s'=>b.1=a7/\s'=⟨hp,g,d,tk,os⟩/\∃(vs ws:List a8)(ns' ms':List Int),rest=vs.zip ws /\
   cE vs ns'/\cE ws ms'/\ns'.length+items2.size=ms'.length+items.size/\R (.ok (.ret (.bool (lexLt ns' ms')))) ⟨hp,g,d,tk,os⟩) _
  case turn =>
   rintro⟨y,x⟩ rest b s' ⟨hb',rfl,vs,ws,ns',ms',hz,hvi,hwi,hlen,hR⟩;cases hvi with
   |nil=>rw[List.zip_nil_left]at hz;cases hz
   |cons a t hvi' =>
    cases hwi with
    |nil=>rw[List.zip_nil_right]at hz;cases hz
    |cons c u hwi' =>
     rw[i8]at hz;injection hz with hyx hrest;injection hyx with hy hx;subst hy hx;rw[lexLt_cons]at hR;simp only[xn]at hlen;obtain⟨e,he,hiff⟩:=eqAt_int A.in1 ⟨hp,g,d,tk,os⟩ a t c u;refine a5 (he prog w _ _ ?_);cases e with
     |true =>
      rw[if_pos (hiff.mp rfl)]at hR
      wp_walk
      exact⟨rfl,rfl,_,_,_,_,hrest,hvi',hwi',by omega,hR⟩
     |false =>
      rw[if_neg (λq=>absurd (hiff.mpr q) xj)]at hR;have hri:=rcLt_int A.in1 ⟨hp,g,d,tk,os⟩ a t c u prog w
      wp_walk using hri
      exact⟨_,rfl,by simpa using hR⟩
  case fin =>
   rintro⟨b1,b2⟩ s' ⟨hb',rfl,vs,ws,ns',ms',hz,hvi,hwi,hlen,hR⟩;simp only at hb';subst hb';have hv:lexLt ns' ms'=decide (items.size<items2.size):=by
    cases hvi with
    |nil =>
     cases hwi with
     |nil =>simp only[T6]at hlen;rw[Dc];exact(decide_eq_false nofun).symm
     |cons c u hw =>simp only[T6,xn]at hlen;rw[Bc];exact(decide_eq_true nofun).symm
    |cons a t hv =>
     cases hwi with
     |nil =>simp only[T6,xn]at hlen;rw[Bd];exact(decide_eq_false nofun).symm
     |cons c u hw =>rw[i8]at hz;cases hz
   rw[hv]at hR
   wp_walk
   exact⟨_,rfl,by simpa [dr]using hR⟩
  case h =>exact⟨rfl,rfl,items.toList,items2.toList,ns,ms,rfl,hi,hj,by omega,h⟩
end
section
variable{prog:aq}{w:ax}{A:az}{E:k7n}{s:ae}
theorem lt_tupInts{l b:aa}{items items2:Array a8}{ns ms:List Int}{Q:k7n}(hl:gu s.heap l items)(hb:gu s.heap b items2)(hi:cE items.toList ns)(hj:cE items2.toList ms)
  (hu:A.units<aL) (h:Q (.bool (lexLt ns ms)) s):ao (aw prog w) A (aI .Lt (.ref l) (.ref b)) Q E s:=by
 obtain⟨⟨cls,dd,data,sl⟩,ho,hc,n,hd⟩:=id hl;obtain⟨⟨cls2,dd2,data2,sl2⟩,ho2,hc2,n2,hd2⟩:=id hb;simp only at hc hd hc2 hd2;subst hc hd hc2 hd2;exact ig (op:=.Lt) ⟨_,ho,rfl⟩ ⟨_,ho2,rfl⟩ fM fD (fq _ _) (Fp l b items items2 n n2 dd dd2 sl sl2 ns ms hi hj)
  ⟨ho,ho2,show be (lexLt ns ms)≠gf/\Q (.bool (lexLt ns ms)) s from⟨(λx=>nomatch x),h⟩⟩ hu
theorem cat_tup{t b:aa}{vs ws:List a8}{Q:k7n}(ht:gu s.heap t vs.toArray)(hb:gu s.heap b ws.toArray)(hv:vs≠[])
  (h1:ws=[]->Q (.ref t) s) (h2:ws≠[]->Q (.ref s.heap.objs.size) { s with heap:=s.heap.push { cls:=.type "tuple",data:=.seq (vs++ws).toArray } })
  (hsz:vs.length+ws.length<=aj):ao (aw prog w) A (aV .Add (.ref t) (.ref b)) Q E s:=by
 obtain⟨⟨cls,dd,data,sl⟩,ho,hc,n,hd⟩:=id ht;obtain⟨⟨cls2,dd2,data2,sl2⟩,ho2,hc2,n2,hd2⟩:=id hb;simp only at hc hd hc2 hd2;subst hc hd hc2 hd2;have e:vs.toArray++ws.toArray=(vs++ws).toArray:=by simp
 by_cases hw:ws=[]
 .exact fg ⟨_,ho,rfl⟩ ⟨_,ho2,rfl⟩ fG gQ d5 cW (cR _ _)
   (tuple_addW1 t b vs.toArray ws.toArray n n2 dd dd2 sl sl2 (by simpa using hv) (by simp[hw])) ⟨ho,ho2,h1 hw⟩
 .refine fg ⟨_,ho,rfl⟩ ⟨_,ho2,rfl⟩ fG gQ d5 cW (cR _ _)
   (tuple_addW2 t b vs.toArray ws.toArray n n2 dd dd2 sl sl2 (by simpa using hv) (by simpa using hw) (by rw[X6,X6];exact hsz)) ⟨ho,ho2,?_⟩
  rw[e];exact h2 hw
noncomputable def sIx(n d:Nat):Option Int->Nat
 |none=>d
 |some v=>if v<0 then(v+(n:Int)).toNat else min v.toNat n
theorem sIx_none(n d:Nat):sIx n d a7=d:=rfl
theorem sIx_nat(n d k:Nat):sIx n d (a3 (k:Int))=min k n:=by show(if (k:Int)<0 then((k:Int)+(n:Int)).toNat else min (k:Int).toNat n)=min k n;rw[if_neg nofun,Xi]
theorem jb4(n d:Nat)(hd:d<=n)(o:Option Int):sIx n d o<=n:=by
 cases o with
 |none=>exact hd
 |some v =>
  show(if v<0 then(v+(n:Int)).toNat else min v.toNat n)<=n;by_cases hv:v<0
  .rw[if_pos hv];omega
  .rw[if_neg hv];exact Nat.min_le_right _ _
theorem j0e(v:Int)(n d:Nat):(if v<0 then max (v+(n:Int)) 0 else min v (n:Int))=((sIx n d (a3 v):Nat):Int):=by
 show(if v<0 then max (v+(n:Int)) 0 else min v (n:Int))=(((if v<0 then(v+(n:Int)).toNat else min v.toNat n):Nat):Int)
 by_cases hv:v<0
 .simp only[if_pos hv];omega
 .simp only[if_neg hv];omega
theorem j1x(lo hi:Option Int)(n:Nat):cq lo hi 1 (n:Int)=(((sIx n 0 lo:Nat):Int),((sIx n n hi:Nat):Int)):=by
 have h1:¬((1:Int)<0):=by omega
 unfold cq;simp only[h1,if_false];refine Prod.ext ?_ ?_
 .cases lo with
  |none=>rfl
  |some v=>exact j0e v n 0
 .cases hi with
  |none=>rfl
  |some v=>exact j0e v n n
theorem j11(i j:Nat):bj (i:Int) (j:Int) 1=j-i:=by
 unfold bj;have h1:(1:Int)>0:=by omega
 simp only[h1,if_true,Int.ediv_one];split<;>omega
theorem M9{v:a8}{o:Option Int}{Q:Option Int->ae->Prop}(p:eC v o)(h:Q o s):ao (aw prog w) A (k8 v) Q E s:=by
 cases p with
 |none=>exact kW h
 |int i t=>exact slicePart_int h
theorem Wy{sl:aa}{vl vu:a8}{lo hi:Option Int}{n:Nat}{Q:Int×Int×Nat->ae->Prop}(hs:s.heap.IsSliceOf sl vl vu .none)(pl:eC vl lo)(pu:eC vu hi)
  (h:Q (((sIx n 0 lo:Nat):Int),1,sIx n n hi-sIx n 0 lo) s):ao (aw prog w) A (dO (.ref sl) (pure (n:Int))) Q E s:=by
 obtain⟨os,hos,hcs,hds⟩:=id hs;unfold dO k9;refine a5 (a5 (cf hos hds (x:=vl) rfl (a5 (cf hos hds (x:=vu) rfl (a5 (cf hos hds (x:=.none) rfl (ah ?_)))))));refine a5 (kW ?_);show ao _ _ (if ((1:Int)==0)=a6 then _ else _) _ _ s;rw[if_neg (by decide)];refine a5 (M9 pl (a5 (M9 pu (a5 (ah ?_)))));show ao _ _ (match cq lo hi 1 (n:Int)with|(lo,hi)=>pure (lo,(1:Int),bj lo hi 1)) _ _ s;rw[j1x lo hi n];show ao _ _ (pure (((sIx n 0 lo:Nat):Int),(1:Int),bj ((sIx n 0 lo:Nat):Int) ((sIx n n hi:Nat):Int) 1)) _ _ s;rw[j11];exact ah h
theorem j58(xs:Array a8)(i k:Nat):((ar k).filterMap λ(m:Nat)=>xs[((i:Int)+(m:Int)*1).toNat]?).toArray=((xs.toList.drop i).take k).toArray:=by
 have e:(λ(m:Nat)=>xs[((i:Int)+(m:Int)*1).toNat]?)=λm=>xs[i+m]?:=by
  funext m
  have:((i:Int)+(m:Int)*1).toNat=i+m:=by omega
  rw[this]
 rw[e];have:=pick_run xs i k;rw[List.filterMap_map]at this;have e2:((λx=>xs[x]?) ∘ λx=>i+x)=λm=>xs[i+m]?:=rfl;rw[e2]at this;rw[this]
theorem getItem_tuple_cut{t sl:aa}{items:Array a8}{vl vu:a8}{lo hi:Option Int}{Q:k7n}(ht:gu s.heap t items)(hs:s.heap.IsSliceOf sl vl vu .none)(pl:eC vl lo)(pu:eC vu hi)
  (hw:¬(sIx items.size 0 lo=0/\sIx items.size items.size hi=items.size))
  (h:Q (.ref s.heap.objs.size) { s with heap:=s.heap.push { cls:=.type "tuple",data:=.seq ((items.toList.drop (sIx items.size 0 lo)).take (sIx items.size items.size hi-sIx items.size 0 lo)).toArray } })
  (hsz:items.size<=aj):ao (aw prog w) A (ip (.ref t) (.ref sl)) Q E s:=by
 have htake:sizeOk (.seq ((items.toList.drop (sIx items.size 0 lo)).take (sIx items.size items.size hi-sIx items.size 0 lo)).toArray):=by show((items.toList.drop (sIx items.size 0 lo)).take (sIx items.size items.size hi-sIx items.size 0 lo)).toArray.size<=aj;rw[X6,Xn,Tf,cA];omega
 have hj:sIx items.size items.size hi<=items.size:=jb4 _ _ (X3 _) hi;obtain⟨os,hos,hcs,hds⟩:=id hs;have hTs:s.TypeIs (.ref sl) "slice":=⟨os,hos,hcs⟩
 unfold ip
 try with_reducible refine eP ?_
 first|refine a5 (ah ?_)|skip
 refine a5 (wpAny_sequenceKey ht.typeIs (by decide) ?_);refine a5 (bh (name:=cF "__getitem__") ht.typeIs jv
  (bg jv ht.typeIs entry_tuple_getitem ?_ (args_tuple_getitem _ _)))
 show ao _ _ (k7 (.ref t) >>= _) _ _ s;refine a5 (tupleItemsOf_ ht ?_);refine a5 (wpAny_typeOf hTs ?_);rw[if_pos (by decide)];refine a5 (Wy hs pl pu ?_);have hno:¬((((sIx items.size 0 lo:Nat):Int)==0&&(1:Int)==1&&(sIx items.size items.size hi-sIx items.size 0 lo)==items.size)=a6):=by intro q;rw[Xk,Xk]at q;have q1:((sIx items.size 0 lo:Nat):Int)=0:=eq_of_beq q.1.1;have q2:sIx items.size items.size hi-sIx items.size 0 lo=items.size:=eq_of_beq q.2;exact hw ⟨by omega,by omega⟩
 show ao _ _ (if (((sIx items.size 0 lo:Nat):Int)==0&&(1:Int)==1&&(sIx items.size items.size hi-sIx items.size 0 lo)==items.size)=a6 then _ else _) _ _ s;rw[if_neg hno,j58]
 first
  |exact a5 (m:=aS _) (aF (ah ⟨_,rfl,ah h⟩) htake)
  |exact a5 (m:=aS _) (aF (a5 (ah (ah ⟨_,rfl,ah h⟩))) htake)
  |exact a5 (a5 (m:=aS _) (aF (ah (ah ⟨_,rfl,ah h⟩)) htake))
  |exact a5 (a5 (m:=aS _) (aF (ah ⟨_,rfl,ah h⟩) htake))
end
end HT
namespace L2
open PySem PySem.Spec PyProof.Rows
abbrev TO:=St->Hp->(Option Int->Hp->Prop)->Prop
def PO(X:Cx)(e:Option ai)(t:TO):Prop :=
 ∀(pins:k7o) (s:ae) (σ:St) (H:Hp) (Q:Option Int->Hp->Prop),Inv X pins σ H s->t σ H Q ->
  ao (aw X.prog X.w) X.A (evalPart e X.env) (λu s'=>∃o H',Inv X pins σ H' s'/\eC u o/\Q o H') X.xe s
def j82:TO:=λ_ H Q=>Q a7 H
def jec(t:TE):TO:=λσ H Q=>t σ H λx H1=>∃i,x=.int i/\Q (a3 i) H1
theorem intsAre_of{ns:List Int}:∀{us:List a8},Vals (ns.map V.int) us->cE us ns:=by
 induction ns with
 |nil=>intro us r;rw[c9]at r;cases r;exact .nil
 |cons n ns ih =>
  intro us r;rw[X4]at r;cases r with
  |cons r1 r2 =>obtain⟨t,e⟩:=r1;subst e;exact .cons n t (ih r2)
section
variable{X:Cx}{e:ai}{te:TE}{lo hi:Option ai}{tl th:TO}{pos p2:aG}
theorem j8q:PO X a7 j82:=by intro pins s σ H Q I h;rw[l5];exact ah ⟨a7,H,I,.none,h⟩
theorem j8p(h:PE X e te):PO X (a3 e) (jec te):=by intro pins s σ H Q I hw;rw[evalPart_some];refine thn (h pins s σ H _ I hw) λu s1 ⟨x,H1,I1,r1,q1⟩=>?_;obtain⟨i,rfl,q⟩:=q1;obtain⟨t,rfl⟩:=r1;exact⟨a3 i,H1,I1,.int i t,q⟩
def SlR(X:Cx)(r:V->Option Int->Option Int->Hp->VK->Prop):Prop :=
 ∀(pins:k7o) (s:ae) (σ:St) (H:Hp) (x:V) (v vl vu:a8) (lo hi:Option Int) (sl:aa) (Q:VK),Inv X pins σ H s->RelV x v->s.heap.IsSliceOf sl vl vu .none->eC vl lo->eC vu hi->r x lo hi H Q ->
  ∃T id,typeLookup (.type T) "__getitem__" = pure (a3 (.builtin id))/\s.TypeIs v T/\ao (aw X.prog X.w) X.A (ip v (.ref sl)) (EP X pins σ Q) X.xe s
def tSl(r:V->Option Int->Option Int->Hp->VK->Prop)(te:TE)(tl th:TO):TE:=λσ H Q=>te σ H λx H1=>tl σ H1 λl H2=>th σ H2 λu H3=>r x l u H3 Q
theorem Ra{r:V->Option Int->Option Int->Hp->VK->Prop}(hr:SlR X r)(he:PE X e te)(hl:PO X lo tl)(hu:PO X hi th):PE X (.Subscript e (.Slice lo hi a7 p2) pos) (tSl r te tl th):=by intro pins s σ H Q I h;refine Subscript_ (thn (he pins s σ H _ I h) λv s1 ⟨x,H1,I1,r1,q1⟩=>?_);refine wpAny_Slice (thn (hl pins s1 σ H1 _ I1 q1) λvl s2 ⟨l,H2,I2,pl,q2⟩=>thn (hu pins s2 σ H2 _ I2 q2) λvu s3 ⟨u,H3,I3,pu,q3⟩=>?_);rw[l5];refine ah ?_;have I4:Inv X pins σ H3 { s3 with heap:=s3.heap.push { cls:=.type "slice",data:=.fields #[vl,vu,.none] } }:=I3.kept (t':=s3.toks) λb ob q=>xg _ q;obtain⟨T,id,hT,ht,hg⟩:=hr pins { s3 with heap:=s3.heap.push { cls:=.type "slice",data:=.fields #[vl,vu,.none] } } σ H3 x v vl vu l u s3.heap.objs.size Q I4 r1 (Heap.IsSliceOf.new ..) pl pu q3;show ao (aw X.prog X.w) X.A (l7 e (.Slice lo hi a7 p2) v (.ref s3.heap.objs.size)) (EP X pins σ Q) X.xe { s3 with heap:=s3.heap.push { cls:=.type "slice",data:=.fields #[vl,vu,.none] } };exact kU (ops:=[.ref s3.heap.objs.size,v]) ht hT hg (by with_unfolding_all rfl)
noncomputable def W2(xs:List V)(lo hi:Option Int):List V:=(xs.drop (HT.sIx xs.length 0 lo)).take (HT.sIx xs.length xs.length hi-HT.sIx xs.length 0 lo)
theorem Wt(xs:List V)(lo hi:Option Int):(W2 xs lo hi).length<=xs.length:=by unfold W2;rw[Xn,Tf];omega
def jge(K:k7m):V->Option Int->Option Int->Hp->VK->Prop:=λx lo hi H Q=>∃a xs,x=.ref a/\SqT K H a xs /\
 ¬(HT.sIx xs.length 0 lo=0/\HT.sIx xs.length xs.length hi=xs.length)/\∀p,H p=a7->Q (.ref p) (upd H p (.tup (W2 xs lo hi)))
theorem jaw:SlR X (jge X.K):=by
 intro pins s σ H x v vl vu lo hi sl Q I rx hs pl pu h;obtain⟨a,xs,rfl,hx,hw,q⟩:=h;cases rx;obtain⟨its,r,ht,hz⟩:=I.tuple hx;have hlen:its.toArray.size=xs.length:=by rw[X6];exact r.length.symm
 refine⟨"tuple",_,slot_tuple_getitem.lookup,ht.typeIs,?_⟩;refine HT.getItem_tuple_cut ht hs pl pu (by rw[hlen];exact hw) ?_ (by rw[hlen];exact hz);rw[hlen];refine⟨.ref s.heap.objs.size,_,I.laid (t':=s.toks) (o:=.tup (W2 xs lo hi)) (λb ob q=>xg _ q) (X3 _) ?_,rfl,q _ (I.hok.fresh (X3 _))⟩;exact⟨Xh (Wt xs lo hi) hz,_,(r.drop (HT.sIx xs.length 0 lo)).take (HT.sIx xs.length xs.length hi-HT.sIx xs.length 0 lo),IsTup.new _ _,Z5.new _ _⟩
def jet(K:k7m):R2:=λx y H Q=>∃a b xs ys,x=.ref a/\y=.ref b/\SqT K H a xs/\SqT K H b ys/\xs≠[]/\xs.length+ys.length<=aj /\
 (ys=[]->Q (.ref a) H)/\(ys≠[]->∀p,H p=a7->Q (.ref p) (upd H p (.tup (xs++ys))))
theorem Vals.nil_iff{xs:List V}{us:List a8}(r:Vals xs us):us=[]↔xs=[]:=by
 cases r with
 |nil=>simp
 |cons _ _=>simp
theorem j8x:OpR X (aV .Add) (jet X.K):=by intro pins s σ H x y v u Q I rx ry h;obtain⟨a,b,xs,ys,rfl,rfl,ha,hb,hx,hz,q1,q2⟩:=h;cases rx;cases ry;obtain⟨its,r1,p1,_⟩:=I.tuple ha;obtain⟨its2,r2,p2,_⟩:=I.tuple hb;refine HT.cat_tup p1 p2 (λz=>hx (r1.nil_iff.mp z)) (λz=>⟨.ref a,H,I,rfl,q1 (r2.nil_iff.mp z)⟩) (λz=>?_) (by rw[<-r1.length,<-r2.length];exact hz);refine⟨.ref s.heap.objs.size,_,I.laid (t':=s.toks) (o:=.tup (xs++ys)) (λb ob q=>xg _ q) (X3 _) ?_,rfl,q2 (λw=>z (r2.nil_iff.mpr w)) _ (I.hok.fresh (X3 _))⟩;exact⟨by rw[Xc];exact hz,_,r1.append r2,IsTup.new _ _,Z5.new _ _⟩
end
noncomputable def ixN(n:Nat)(i:Int):Option Nat:=if 0<=i then(if i<n then a3 i.toNat else a7)else if -(n:Int)<=i then a3 (i+n).toNat else a7
noncomputable def atI{α:Type}(xs:List α)(i:Int):Option α:=(ixN xs.length i).bind λj=>xs[j]?
theorem j99{n:Nat}{i:Int}{j:Nat}(h:ixN n i=a3 j):seqIndex? i n=a3 j/\j<n/\-(n:Int)<=i/\i<n:=by
 unfold ixN at h;by_cases h0:0<=i
 .rw[if_pos h0]at h;by_cases h1:i<n
  .rw[if_pos h1]at h;have e:i.toNat=j:=av h;exact⟨by rw[seqIndex_of h0 h1,e],by omega,by omega,h1⟩
  .rw[if_neg h1]at h;cases h
 .rw[if_neg h0]at h;by_cases h1:-(n:Int)<=i
  .rw[if_pos h1]at h;have e:(i+n).toNat=j:=av h;exact⟨by rw[seqIndex_neg nofun h1,e],by omega,h1,by omega⟩
  .rw[if_neg h1]at h;cases h
theorem Bq{α:Type}{xs:List α}{i:Int}{v:α}(h:atI xs i=a3 v):∃j,seqIndex? i xs.length=a3 j/\xs[j]?=a3 v/\j<xs.length/\-(xs.length:Int)<=i/\i<xs.length:=by
 unfold atI at h;cases e:ixN xs.length i with
 |none=>rw[e]at h;cases h
 |some j =>rw[e]at h;obtain⟨h1,h2,h3,h4⟩:=j99 e;exact⟨j,h1,h,h2,h3,h4⟩
theorem jaf{α:Type}{xs:List α}{j:Nat}{v:α}(h:xs[j]?=a3 v):atI xs (j:Int)=a3 v:=by
 have hj:j<xs.length:=(X7.mp h).1;have e:ixN xs.length (j:Int)=a3 j:=by unfold ixN;rw[if_pos nofun,if_pos nofun];simp
 unfold atI;rw[e];exact h
def Ve(b:ai):Prop:=∀o i,subscripted b a4 o i=operate [o,i] (ip o i)
def IxR(X:Cx)(r:R2):Prop :=
 ∀(value slice:ai)(pins:k7o) (s:ae) (σ:St) (H:Hp) (x y:V) (v u:a8) (Q:VK),Inv X pins σ H s->RelV x v->RelV y u->r x y H Q ->
  subscripted slice a4 v u=operate [v,u] (ip v u)->ao (aw X.prog X.w) X.A (l7 value slice v u) (EP X pins σ Q) X.xe s
def MtR(X:Cx)(id:String)(r:V->List V->Hp->VK->Prop):Prop :=
 ∀(pins:k7o) (s:ae) (σ:St) (H:Hp) (x:V) (xs:List V) (v:a8) (us:List a8) (Q:VK),Inv X pins σ H s->RelV x v->Vals xs us->r x xs H Q ->
  ao (aw X.prog X.w) X.A (call (.builtin id) (v::us)) (EP X pins σ Q) X.xe s
section
variable{X:Cx}{a b:ai}{ta tb:TE}{pos:aG}
theorem Mj{r:R2}(hr:IxR X r)(ha:PE X a ta)(hb:PE X b tb)(hs:Ve b):PE X (.Subscript a b pos) (tOp r ta tb):=by intro pins s σ H Q I h;exact Subscript_ (j6x ha hb I h λv u s2 x y H2 I2 rx ry q=>hr a b pins s2 σ H2 x y v u Q I2 rx ry q (hs _ _))
def jbd(K:k7m):R2:=λx y H Q=>∃p xs i v,x=.ref p/\y=.int i/\SqL K H p xs/\atI xs i=a3 v/\Q v H
def jbb(K:k7m):R2:=λx y H Q=>∃p xs i v,x=.ref p/\y=.int i/\SqT K H p xs/\atI xs i=a3 v/\Q v H
def jbc:R2:=λx y H Q=>∃z i c,x=.str z/\y=.int i/\z.length<=aj/\atI z.cps.toList i=a3 c/\Q (.str ⟨#[c]⟩) H
theorem j98:IxR X (jbd X.K):=by
 intro value slice pins s σ H x y v u Q I rx ry h hs;obtain⟨p,xs,i,z,rfl,rfl,hq,he,q⟩:=h;cases rx;obtain⟨t,rfl⟩:=ry;obtain⟨its,r,pl,hz⟩:=I.list hq;obtain⟨j,h1,h2,h3,h4,h5⟩:=Bq he;obtain⟨w,ew,rw'⟩:=r.get h2;have hl:=r.length;have hn:=Ur;have fin:EP X pins σ Q w s:=⟨z,H,I,rw',q⟩
 by_cases h0:0<=i
 .have hj:i.toNat=j:=by rw[seqIndex_of h0 h5]at h1;exact av h1
  exact item_listR pl.isList h0 nofun (by rw[hj];simpa using ew) fin hs
 .have hj:(i+(its.toArray.size:Int)).toNat=j:=by rw[seqIndex_neg nofun h4]at h1;rw[X6,<-hl];exact av h1
  exact iq (x:=w) pl.isList.typeIs slot_list_getitem.lookup
   (wpAny_getItem_list_neg (Q:=λr s'=>r=w/\EP X pins σ Q r s') pl.isList nofun (by rw[X6]<;>omega) nofun (by rw[hj];simpa using ew) ⟨rfl,fin⟩) hs
theorem j3g:IxR X (jbb X.K):=by
 intro value slice pins s σ H x y v u Q I rx ry h hs;obtain⟨p,xs,i,z,rfl,rfl,hq,he,q⟩:=h;cases rx;obtain⟨t,rfl⟩:=ry;obtain⟨its,r,pl,hz⟩:=I.tuple hq;obtain⟨j,h1,h2,h3,h4,h5⟩:=Bq he;obtain⟨w,ew,rw'⟩:=r.get h2;have hl:=r.length;have hn:=Ur;have fin:EP X pins σ Q w s:=⟨z,H,I,rw',q⟩
 exact iq (x:=w) pl.typeIs slot_tuple_getitem.lookup
  (getItem_tuple (j:=j) (Q:=λr s'=>r=w/\EP X pins σ Q r s') pl nofun nofun (by rw[X6,<-hl];exact h1) (by simpa using ew) ⟨rfl,fin⟩) hs
theorem jci:IxR X jbc:=by
 intro value slice pins s σ H x y v u Q I rx ry h hs;obtain⟨z,i,c,rfl,rfl,hz,he,q⟩:=h;obtain⟨t,rfl⟩:=rx;obtain⟨t',rfl⟩:=ry;obtain⟨j,h1,h2,h3,h4,h5⟩:=Bq he;have hl:z.cps.toList.length=z.length:=by simp[kO]
 rw[hl]at h1 h4 h5;have hn:=Ur;exact kU (gq s z t) slot_str_getitem.lookup (getItem_str (c:=c) (by
  have e1:decide (i < -(2^63:Int))=a4:=decide_eq_false nofun
  have e2:decide (i>=2^63)=a4:=decide_eq_false nofun
  rw[e1,e2,jC]) (by rw[h1];simpa using h2) ⟨.str ⟨#[c]⟩,H,I.tok _,⟨_,rfl⟩,q⟩) hs
theorem Ci(lo hi:Option Int)(n:Nat):(cH lo hi a7 n).1=((HT.sIx n 0 lo:Nat):Int)/\(cH lo hi a7 n).2.1=((HT.sIx n n hi:Nat):Int)/\(cH lo hi a7 n).2.2=1:=by
 refine⟨?_,?_,rfl⟩
 .cases lo with
  |none=>simp[cH,HT.sIx]
  |some i =>
   simp only[cH,HT.sIx,i7,show(1:Int)>0 by decide,if_true];by_cases h:i<0
   .simp only[h,if_true]<;>omega
   .simp only[h,if_false]<;>omega
 .cases hi with
  |none=>simp[cH,HT.sIx]
  |some i =>
   simp only[cH,HT.sIx,i7,show(1:Int)>0 by decide,if_true];by_cases h:i<0
   .simp only[h,if_true]<;>omega
   .simp only[h,if_false]<;>omega
theorem Fw(its:List a8)(lo hi:Option Int):slicePick its.toArray lo hi a7=((its.drop (HT.sIx its.length 0 lo)).take (HT.sIx its.length its.length hi-HT.sIx its.length 0 lo)).toArray:=by obtain⟨h1,h2,h3⟩:=Ci lo hi its.toArray.size;unfold slicePick;rw[h1,h2,h3];simp only[sliceRange_one,pick_run,X6]<;>rfl
def jgg(K:k7m):V->Option Int->Option Int->Hp->VK->Prop:=λx lo hi H Q=>∃a xs,x=.ref a/\SqL K H a xs/\∀p,H p=a7->Q (.ref p) (upd H p (.lst (W2 xs lo hi)))
theorem j84:SlR X (jgg X.K):=by intro pins s σ H x v vl vu lo hi sl Q I rx hs pl pu h;obtain⟨a,xs,rfl,hx,q⟩:=h;cases rx;obtain⟨its,r,ht,hz⟩:=I.list hx;have hlen:=r.length;refine⟨"list",_,slot_list_getitem.lookup,ht.isList.typeIs,?_⟩;refine wpAny_getItem_list_slice ht.isList hs pl pu .none (by simp) ?_ (by rw[X6]<;>omega);rw[Fw,<-hlen];refine⟨.ref s.heap.objs.size,_,I.laid (t':=s.toks) (o:=.lst (W2 xs lo hi)) (λb ob q=>xg _ q) (X3 _) ?_,rfl,q _ (I.hok.fresh (X3 _))⟩;exact⟨Xh (Wt xs lo hi) hz,_,0,(r.drop (HT.sIx xs.length 0 lo)).take (HT.sIx xs.length xs.length hi-HT.sIx xs.length 0 lo),X5 _ rfl⟩
theorem W4:J5 X (.builtin "len") (λxs H Q=>∃p ys,xs=[.ref p]/\(SqL X.K H p ys\/SqT X.K H p ys)/\Q (.int ys.length) H):=by
 intro pins s σ H xs us Q I r h;obtain⟨p,ys,rfl,hq,q⟩:=h;obtain⟨u,rfl,rx⟩:=vals1 r;cases rx;have hn:=Ur;rcases hq with hq|hq
 .obtain⟨its,r',pl,hz⟩:=I.list hq;have hlen:=r'.length;exact Calls.call_len_list pl.isList (by simp only[X6]<;>omega) ⟨.int ys.length,H,I.tok _,⟨s.toks+1,by rw[X6,hlen]⟩,q⟩
 .obtain⟨its,r',pl,hz⟩:=I.tuple hq;have hlen:=r'.length;exact len_tuple pl (by simp only[X6]<;>omega) ⟨.int ys.length,H,I.tok _,⟨s.toks+1,by rw[X6,hlen]⟩,q⟩
theorem Kq:J5 X (.builtin "len") (λxs H Q=>∃z,xs=[.str z]/\z.length<=aj/\Q (.int z.length) H):=by intro pins s σ H xs us Q I r h;obtain⟨z,rfl,hz,q⟩:=h;obtain⟨u,rfl,t,rfl⟩:=vals1 r;have hn:=Ur;exact len_str nofun ⟨.int z.length,H,I.tok _,⟨_,rfl⟩,q⟩
theorem Kp:J5 X (.type "list") (λxs H Q=>∃p ys,xs=[.ref p]/\(SqL X.K H p ys\/SqT X.K H p ys)/\∀l,H l=a7->Q (.ref l) (upd H l (.lst ys))):=by
 intro pins s σ H xs us Q I r h;obtain⟨p,ys,rfl,hq,q⟩:=h;obtain⟨u,rfl,rx⟩:=vals1 r;cases rx;have fin:∀(its:List a8),Vals ys its->ys.length<=aj->∀(h':aB)(c':Nat),(∀b o',s.heap.get? b=a3 o'->h'.get? b=a3 o') ->
   h'.get? s.heap.objs.size=a3 { cls:=.type "list",dict:=a7,data:=.seq its.toArray c',slots:=#[] }->EP X pins σ Q (.ref s.heap.objs.size) { s with heap:=h' }:=λits r' hz h' c' kp e =>
  ⟨.ref s.heap.objs.size,_,I.laid (t':=s.toks) kp (X3 _) (show je X.prog X.w _ h' _ (.lst ys) from⟨hz,its,c',r',e⟩),rfl,q _ (I.hok.fresh (X3 _))⟩
 rcases hq with hq|hq
 .obtain⟨its,r',pl,hz⟩:=I.list hq;have hlen:=r'.length;obtain⟨o,ho,hc,n,hd⟩:=pl.isList;exact l6 p (.inl rfl) ho hc hd (λh' c' kp e=>fin its r' hz h' c' kp e) (by simp only[X6]<;>omega)
 .obtain⟨its,r',pl,hz⟩:=I.tuple hq;have hlen:=r'.length;obtain⟨o,ho,hc,n,hd⟩:=pl;exact l6 p (.inr rfl) ho hc hd (λh' c' kp e=>fin its r' hz h' c' kp e) (by simp only[X6]<;>omega)
theorem Df:J5 X (.type "tuple") (λxs H Q=>∃p ys,xs=[.ref p]/\((SqL X.K H p ys/\∀l,H l=a7->Q (.ref l) (upd H l (.tup ys)))\/(SqT X.K H p ys/\Q (.ref p) H))):=by
 intro pins s σ H xs us Q I r h;obtain⟨p,ys,rfl,h⟩:=h;obtain⟨u,rfl,rx⟩:=vals1 r;cases rx;rcases h with ⟨hq,q⟩|⟨hq,q⟩
 .obtain⟨its,r',pl,hz⟩:=I.list hq;have hlen:=r'.length;refine call_tuple_list pl.isList (λh' kp=>?_) (by simp only[X6]<;>omega);have I1:Inv X pins σ H { s with heap:=h' }:=I.kept (t':=s.toks) kp;have I2:Inv X pins σ (upd H h'.objs.size (.tup ys)) { s with heap:=h'.push { cls:=.type "tuple",data:=.seq its.toArray } } :=
   I1.laid (t':=s.toks) (λb o e=>xg _ e) (X3 _) (show je X.prog X.w _ _ _ (.tup ys) from⟨hz,its,r',IsTup.new _ _,Z5.new _ _⟩)
  exact⟨.ref h'.objs.size,_,I2,rfl,q _ (I1.hok.fresh (X3 _))⟩
 .obtain⟨its,r',pl,hz⟩:=I.tuple hq;exact call_tuple_same pl ⟨.ref p,H,I,rfl,q⟩
def tyV(K:k7m)(T:String)(x:V)(H:Hp):Prop:=match x with
 |.str _=>T = "str"
 |.int _=>T = "int"
 |.ref p=>(T = "list"/\∃xs,SqL K H p xs)\/(T = "tuple"/\∃xs,SqT K H p xs) \/
   (T = "dict"/\((∃kvs,H p=a3 (.dK kvs))\/∃kvs,H p=a3 (.dT kvs)))\/(T = "set"/\∃S n,H p=a3 (.set S n))
 |_=>False
theorem jam{pins:k7o}{σ:St}{H:Hp}{s:ae}{T:String}{x:V}{v:a8}(I:Inv X pins σ H s)(r:RelV x v)(ty:tyV X.K T x H) :
  s.TypeIs v T/\∀a,v=.ref a->∃ob,s.heap.get? a=a3 ob/\ob.dict=a7:=by
 cases x with
 |str z =>obtain⟨t,rfl⟩:=r;cases(show T = "str" from ty);exact⟨gq s z t,λ_ e=>nomatch e⟩
 |int i =>obtain⟨t,rfl⟩:=r;cases(show T = "int" from ty);exact⟨eX s i t,λ_ e=>nomatch e⟩
 |ref p =>
  cases r;rcases ty with ⟨rfl,xs,hq⟩|⟨rfl,xs,hq⟩|⟨rfl,hk⟩|⟨rfl,S,n,hk⟩
  .obtain⟨its,_,pl,_⟩:=I.list hq;refine⟨pl.isList.typeIs,λa e=>?_⟩;cases e;obtain⟨o,n,e,c,hd,_⟩:=pl;exact⟨o,e,hd⟩
  .obtain⟨its,_,⟨o,e1,e2,_⟩,_⟩:=I.tuple hq;refine⟨⟨o,e1,e2⟩,λa e=>?_⟩;cases e;exact⟨o,e1,I.tupD hq o e1⟩
  .have z:∃o,s.heap.get? p=a3 o/\o.ExactDict:=by
    rcases hk with ⟨kvs,hk⟩|⟨kvs,hk⟩
    .obtain⟨_,_,_,_,o,_,_,e,ex,_⟩:=I.hok p _ hk;exact⟨o,e,ex⟩
    .obtain⟨_,_,_,_,o,_,_,e,ex,_⟩:=I.hok p _ hk;exact⟨o,e,ex⟩
   obtain⟨o,e,ex⟩:=z;refine⟨⟨o,e,ex.1⟩,λa e2=>?_⟩;cases e2;exact⟨o,e,ex.2.1⟩
  .obtain⟨o,_,_,_,e,ex,_⟩:=I.hok p _ hk;refine⟨⟨o,e,ex.1⟩,λa e2=>?_⟩;cases e2;exact⟨o,e,ex.2.1⟩
 |_=>exact aR ty
def tBM(K:k7m)(T:String)(r:V->List V->Hp->VK->Prop)(to:TE)(t:TA):TE:=λσ H Q=>to σ H λx H1=>tyV K T x H1/\t σ H1 λxs H2=>r x xs H2 Q
variable{o e:ai}{es:List ai}{to:TE}{t:TA}{name:af}{apos cpos:aG}{T id:String}{r:V->List V->Hp->VK->Prop}
theorem Ml (pa:PlainAttrs T) (slot:Slot T name id) (hty:typeOf (.builtin id)=pure (.type "method_descriptor")) (hm:MtR X id r) (ho:PE X o to) (ha:PA X (e::es) t)
  (hbase:aT o name X.env (ay o X.env)=ay o X.env:=by rfl)
  (hfew:((aP cpos (a9 (e::es) X.env)).all (λx=>!x.1)&&(bY cpos (b9 [] X.env)).all (λx=>x.1.isSome)
   && decide ((e::es).length+([]:List b7).length+(if ([]:List b7).isEmpty then 0 else 1)<30))=a6:=by rfl)
  (hline:(apos.endLine==cpos.line)=a6:=by rfl) (hs:a9 (e::es) X.env=(a4,ay e X.env)::a9 es X.env:=by rfl) (hplain:(aP cpos (a9 es X.env)).any (·.1)=a4:=by rfl) :
  PE X (.Call (.Attribute o name apos) (e::es) [] cpos) (tBM X.K T r to t):=by
 intro pins s σ H Q I h;refine wpAny_Call_method_late hbase hfew hline rfl (thn (ho pins s σ H _ I h) λv s1 ⟨x,H1,I1,r1,ty,q1⟩=>?_);obtain⟨h1,h2⟩:=jam I1 r1 ty;refine⟨T,id,pa,slot,hty,h1,h2,?_⟩;have hA:=ha cpos pins s1 σ H1 _ I1 q1;rw[hs]at hA ⊢;refine fW (by show(a4 || (aP cpos (a9 es X.env)).any (·.1))=a4;rw[hplain]<;>rfl) (Calls.evalArgs_plain ?_);exact thn hA λus s2 ⟨vs,H2,I2,r2,q2⟩=>hm pins s2 σ H2 x vs v us Q I2 r1 r2 q2
/- xs.append(e),list.index on a module's tuple .. are MtR facts of 06m -/
end
def MtM(X:Cx)(id:String)(r:V->List V->Hp->VK->Prop):Prop :=
 ∀(pins:k7o) (s:ae) (σ:St) (H:Hp) (x:V) (xs:List V) (v:a8) (us:List a8) (Q:VK),Inv X pins σ H s->RelV x v->Vals xs us->r x xs H Q ->
  ao (aw X.prog X.w) X.A (call (.builtin id) (v::us)) (EP X pins σ Q) X.xe s
theorem Vals.one{x:V}{us:List a8}(h:Vals [x] us):∃u,us=[u]/\RelV x u:=by cases h with|cons r t=>cases t;exact⟨_,rfl,r⟩
theorem Vals.two:∀{x y:V}{us:List a8},Vals [x,y] us->∃u v,us=[u,v]/\RelV x u/\RelV y v
 |_,_,_,.cons r (.cons q .nil)=>⟨_,_,rfl,r,q⟩
theorem Vals.zero:∀{us:List a8},Vals [] us->us=[]
 |_,.nil=>rfl
theorem Vals.dropLast{xs:List V}{us:List a8}(h:Vals xs us):Vals xs.dropLast us.dropLast:=by
 induction h with
 |nil=>exact .nil
 |cons r t ih =>
  cases t with
  |nil=>exact .nil
  |cons q t'=>exact .cons r ih
theorem Vals.reverse{xs:List V}{us:List a8}(h:Vals xs us):Vals xs.reverse us.reverse:=by
 induction h with
 |nil=>exact .nil
 |cons r t ih=>rw[iu,iu];exact Vals.append ih (.cons r .nil)
theorem Vals.rep{xs:List V}{us:List a8}(h:Vals xs us):∀k:Nat,Vals (ak k xs).flatten (ak k us).flatten
 |0=>.nil
 |k+1=>by rw[Pk,Pk,Tn,Tn];exact Vals.append h (Vals.rep h k)
theorem foldl_rep(its:List a8):∀(k:Nat)(acc:List a8),
  cN (λx1 x2=>x1++x2) acc.toArray (ak k its.toArray)=(acc++(ak k its).flatten).toArray
 |0,acc=>by simp
 |k+1,acc=>by
  have e:acc.toArray++its.toArray=(acc++its).toArray:=by simp
  have e2:(acc++its)++(ak k its).flatten=acc++(ak (k+1) its).flatten:=by rw[Pk,Tn,Td]
  rw[<-e2,<-foldl_rep its k (acc++its),<-e,Pk,T7]
section
variable{X:Cx}{pins:k7o}{σ:St}{H:Hp}{s:ae}{l b:aa}{xs ys zs:List V}
theorem Inv.lset{its its':List a8}{n:Nat}{f:Array a8->Array a8}{t':Nat}(I:Inv X pins σ H s)(hH:H l=a3 (.lst xs))
  (e:s.heap.get? l=a3 { cls:=.type "list",data:=.seq its.toArray n }) (hf:f its.toArray=its'.toArray) (hv:Vals ys its') (hz:ys.length<=aj) :
  Inv X pins σ (upd H l (.lst ys)) { s with heap:=s.heap.update l (cP f),toks:=t' }:=by
 have q:=PySem.IsL.update e f;rw[hf]at q;refine I.write (x:=l) (e:=l) (by rw[hH];exact trivial) (.inl rfl) (λb' u hb hu=>(Heap.get?_update_other s.heap (cP f) (cw hb)).trans hu) ⟨_,q⟩ ?_;exact⟨hz,its',_,hv,q⟩
theorem Inv.lnew{its:List a8}{t':Nat}(I:Inv X pins σ H s)(hv:Vals ys its)(hz:ys.length<=aj) :
  Inv X pins σ (upd H s.heap.objs.size (.lst ys)) { s with heap:=s.heap.push { cls:=.type "list",data:=.seq its.toArray },toks:=t' } :=
 I.laid (λ_ _ q=>xg _ q) (X3 _) ⟨hz,its,0,hv,X5 _ rfl⟩
theorem Inv.fresh(I:Inv X pins σ H s):H s.heap.objs.size=a7:=I.hok.fresh (X3 _)
theorem Inv.lstM(I:Inv X pins σ H s)(hH:H l=a3 (.lst xs)):xs.length<=aj/\∃(its:List a8)(n:Nat),Vals xs its/\xs.length=its.length/\s.heap.get? l=a3 { cls:=.type "list",data:=.seq its.toArray n }:=by obtain⟨z,its,n,r,e⟩:=I.hok l _ hH;exact⟨z,its,n,r,r.length,e⟩
theorem Lj{n:Nat}(h:n<=aj):br n=a4:=by unfold br;exact decide_eq_false nofun
end
section
variable{X:Cx}
def j8m:V->List V->Hp->VK->Prop:=λx vs H Q=>∃l xs y,x=.ref l/\vs=[y]/\H l=a3 (.lst xs)/\xs.length<aj/\Q .non (upd H l (.lst (xs++[y])))
theorem Nh:MtM X "list.append" j8m:=by intro pins s σ H x vs v us Q I rx rv h;obtain⟨l,xs,y,rfl,rfl,hH,hz,q⟩:=h;cases rx;obtain⟨u,rfl,ru⟩:=rv.one;obtain⟨z,its,n,r,hl,e⟩:=I.lstM hH;refine bN gk ⟨_,e,rfl⟩ F.entry_list_append (F.args_list_append_2 _ _) (PySem.list_append l its.toArray n u (by rw[X6];omega)) ⟨e,?_⟩;refine⟨.non,_,I.lset (its':=its++[u]) hH e (by simp) (r.append (.cons ru .nil)) ?_,rfl,q⟩;rw[Xc,cj];omega
def j8l:V->List V->Hp->VK->Prop:=λx vs H Q=>∃l b xs zs,x=.ref l/\vs=[.ref b]/\H l=a3 (.lst xs)/\H b=a3 (.lst zs)/\xs.length+zs.length<=aj/\Q .non (upd H l (.lst (xs++zs)))
theorem j34:MtM X "list.extend" j8l:=by
 intro pins s σ H x vs v us Q I rx rv h;obtain⟨l,b,xs,zs,rfl,rfl,hH,hB,hz,q⟩:=h;cases rx;obtain⟨u,rfl,ru⟩:=rv.one;cases ru;obtain⟨z,its,n,r,hl,e⟩:=I.lstM hH;obtain⟨z2,its2,n2,r2,hl2,e2⟩:=I.lstM hB;have hsz:its.toArray.size+its2.toArray.size<=aj:=by rw[X6,X6];omega
 have hlong:¬(!its.toArray.isEmpty&&br (its.toArray.size+its2.toArray.size))=a6:=by rw[Lj hsz,fC];exact xj
 refine bN gj ⟨_,e,rfl⟩ F.entry_list_extend (F.args_list_extend_2 _ _)
  (AutoSeq1.list_extend_list_list_0 l its.toArray n b its2.toArray n2 hlong (by rw[X6];omega) nofun) ⟨e,e2,?_⟩
 refine⟨.non,_,I.lset (its':=its++its2) hH e (by simp) (r.append r2) ?_,rfl,q⟩;rw[Xc];omega
def jgi:R2:=λx y H Q=>∃l k xs,x=.ref l/\y=.int k/\H l=a3 (.lst xs)/\-(2^63)<=k/\k<2^63/\xs.length*k.toNat<=aj /\
 ∀p,H p=a7->Q (.ref p) (upd H p (.lst (ak k.toNat xs).flatten))
theorem len_rep{α:Type}(xs:List α)(k:Nat):(ak k xs).flatten.length=k*xs.length:=by
 induction k with
 |zero=>simp
 |succ k ih=>rw[Pk,Tn,Xc,ih,kg,Nat.add_comm]
theorem jbv:OpR X (aV .Mult) jgi:=by
 intro pins s σ H x y v u Q I rx ry h;obtain⟨l,k,xs,rfl,rfl,hH,h1,h2,hz,q⟩:=h;cases rx;obtain⟨t,rfl⟩:=ry;obtain⟨z,its,n,r,hl,e⟩:=I.lstM hH;have hlen:its.toArray.size*k.toNat<=aj:=by rw[X6,<-hl];exact hz
 have hcap:¬its.toArray.size*k.toNat>(2^63-1)/8:=by
  have:(aj:Nat)<=(2^63-1)/8:=by decide
  omega
 have hfit:¬(!Builtin.List.listFitsIndex k)=a6:=by rw[fitsIndex_both h1 h2];exact xj
 have hlong:¬br (its.toArray.size*k.toNat)=a6:=by rw[Lj hlen];exact xj
 have hnew:cN (λx1 x2=>x1++x2) #[] (ak (if its.toArray.isEmpty=a6 then 0 else k.toNat) its.toArray)=(ak k.toNat its).flatten.toArray:=by
  have f0:∀m:Nat,cN (λx1 x2=>x1++x2) #[] (ak m its.toArray)=(ak m its).flatten.toArray:=λm=>by have:=foldl_rep its m [];rw[dm]at this;exact this
  rw[f0];cases its with
  |nil=>simp
  |cons a r'=>rw[if_neg (by simp)]
 refine gD (T:="list") (U:="int") (by decide) ⟨_,e,rfl⟩ (λs'=>eX s' k t) noFill_list_mul jH dz repeat_list F.slot_int_index.lookup
  (bN dz (eX s k t) j1 (iX _ _) (int___rmul___int_list k t l its.toArray n)
   ⟨e,rfl,⟨_,e,rfl⟩,bN F.slot_list_mul ⟨_,e,rfl⟩ F.entry_list_mul (F.args_list_mul_2 _ _) (AutoListH.list___mul___list_int_3 l its.toArray n k t hfit hcap hlong) ⟨e,?_⟩⟩)
 rw[hnew];exact⟨.ref _,_,I.lnew (t':=s.toks) (r.rep k.toNat) (by rw[len_rep,cJ];exact hz),rfl,q _ I.fresh⟩
end
section
variable{prog:aq}{w:ax}{A:az}{E:k7n}{s:ae}
end
section
variable{X:Cx}
end
end L2
namespace Att
open PySem PySem.W PySem.Calls PyProof.Rows
theorem Mw{P:kT}{h:aB}:∀(ns:List Int)(vs:List a8),WellAll P h vs (ns.map WData.int)->cE vs ns:=by
 intro ns;induction ns with
 |nil =>intro vs w;rw[c9]at w;cases w;exact .nil
 |cons n ns ih =>
  intro vs w;rw[X4]at w;cases w with
  |cons a b =>cases a;exact .cons _ _ (ih _ b)
theorem j29{l:cY}{n:Nat}(hn:l.most=a3 n){P:kT}{h:aB}{args:List WData}{vals:List a8}
  (hpre:l.row.toRowW.claim.pre args=a6) (hwl:WellAll P h vals args) :
  ∃a vs ns,vals=[aA a]/\args=[WData.list (ns.map WData.int)]/\h.get? a=a3 { cls:=.type "list",data:=.seq vs.toArray }/\cE vs ns/\ns.length<=n:=by
 have hsh:WShape.hasAll [] args [.list .int]=a6:=(pre_splitW hpre).1;have hc:l.pre.holds [] { args:=args }=a6:=(pre_splitW hpre).2;obtain⟨d,r,rfl,h1,h2⟩:=hasAllW_cons hsh;obtain rfl:=hasAllW_nil h2;obtain⟨xs,rfl,h3⟩:=hasW_list h1;obtain⟨ns,rfl⟩:=items_int h3;have hlen:ns.length<=n:=by
  unfold OpenLaw.pre at hc;have h4:(WTm.not (.lt (.lit (.int (n:Int))) (.len (.arg 0)))).holds [] { args:=[.list (ns.map .int)] }=a6:=by have h4:=(holds_andW hc).1;rw[hn]at h4;exact h4
  have h5:=condW_of h4 (w_not (w_lt w_lit (w_len_list (w_arg rfl))));rw[kj]at h5;refine Nat.le_of_not_lt λq=>?_;have q':(n:Int)<((ns.length:Nat):Int):=by omega
  first
   |(rw[decide_eq_true q']at h5;exact absurd h5 (by decide))
   |(simp at h5;omega)
 cases hwl with
 |cons w1 w2 =>
  cases w2;cases w1 with
  |list ho hall=>exact⟨_,_,ns,rfl,rfl,ho,Mw ns _ hall,hlen⟩
theorem j2i(l:cY)(args:List WData):l.row.toRowW.claim.post args (.bool a6) args=a6 :=
 postW_of (r:=l.row.toRowW) (X:=(a6==a6))
  (show WShape.has [] (.bool a6) .bool=a6 by first|rfl|decide|simp[WShape.has,WShape.arms,WShape.armsAll])
  (show(WTm.eq .res (.lit (.bool a6))).value [] { args:=args,res:=a3 (.bool a6),after:=args }=a3 (.bool (a6==a6))from w_eq_bool (w_res rfl) w_lit) rfl
theorem attach_call{l:cY}{n:Nat}{q:aq}{loose:List af}{XP:(af->Option a8)->aB->Prop}{YP:ax->aB->Prop}{d:DefRec}
  (hn:l.most=a3 n) (hdf:d.params.defaults=[])
  (call:∀(w:ax)(s₀ s₁:ae)(mg mb:k7p)(fa:aa)(o:de)(pm cd doc:a8)(a:aa) (vs:List a8) (ns:List Int),
   Ground q loose [] XP w s₀ mg mb s₁.heap->YP w s₁.heap ->
   s₁.heap.get? fa=a3 o->o.data=.func (docDef d.name d.params d.body d.scope pm cd doc)->s₁.heap.CodeRec cd d.name->mg d.name=a3 (.ref fa) ->
   s₁.heap.get? a=a3 { cls:=.type "list",data:=.seq vs.toArray }->cE vs ns->ns.length<=n->s₁.gens = #[] ->
   cu (aw l.prog w) fh (.call (.ref fa) ⟨[.ref a],[]⟩) (λr s'=>r=.ok (.ret (.bool a6))/\OldK s₁.heap s'.heap/\s'.os=s₁.os/\di s'.gens) s₁) :
  gL q loose XP YP l.row.toRowW d [] (λf vs=>gR f vs):=by
 intro w s₀ s₁ mg mb G Y fa o pm cd doc dV kV ho hd hcd hD hmg hg args vals as hpre hlay hrd hwl hlo;obtain rfl:dV=.none:=Dflts.none hD hdf;obtain rfl:kV=.none:=Dflts.noKw hD;obtain⟨a,vs,ns,rfl,rfl,hobj,hints,hlen⟩:=j29 hn hpre hwl;refine enter_call (bP (call w s₀ s₁ mg mb fa o pm cd doc a vs ns G Y ho (fd_plain hd) hcd hmg hobj hints hlen hg) λr s' hq=>?_);obtain⟨rfl,h2,h3,h4⟩:=hq;exact⟨.inl ⟨.bool a6,.bool a6,[],rfl,λ_=>rfl,.bool a6,j2i l _,λ_=>⟨List.Pairwise.nil,λ_ hm=>(nomatch hm)⟩⟩,h2,h3,h4⟩
section
variable{prog:aq}{w:ax}{A:az}{E:k7n}{s:ae}{K:kN}
end
end Att
namespace L2
open PySem PySem.Spec PyProof.Rows
theorem Bu:∀{vs:List a8}{ns:List Int},cE vs ns->Vals (ns.map V.int) vs
 |_,_,.nil=>.nil
 |_,_,.cons n t h=>.cons ⟨t,rfl⟩ (Bu h)
def Only(ts:List (aa×af))(H:Hp):Prop:=(∀b,H b=a7\/(∃o xs,H b=a3 (.frz o (.lst xs)))\/∃q,(b,q)∈ts/\H b=a3 (.cod q))/\∀t∈ts,H t.1=a3 (.cod t.2)
def j75(ts:List (aa×af))(h:aB):Prop:=(ts.map (·.1)).Nodup/\∀t∈ts,(∃c,ia h c t.1)/\h.get? t.1=a3 (W.tabObj #[])
theorem Iz:∀{ts:List (aa×af)} {b:aa} {q:af},ts.lookup b=a3 q->(b,q)∈ts
 |p::r,b,q,h=>by
  rw[Xl]at h;cases e:b==p.1 with
  |true=>rw[e]at h;cases h;rw[beq_iff_eq.mp e];exact xm ..
  |false=>rw[e]at h;exact xf _ (Iz h)
theorem lookup_tab:∀{ts:List (aa×af)},(ts.map (·.1)).Nodup->∀t∈ts,ts.lookup t.1=a3 t.2
 |[],_,_,h=>by cases h
 |p::r,nd,t,ht=>by
  rw[X4]at nd;rcases xr.mp ht with e|ht
  .subst e;rw[Xl,beq_self_eq_true]
  .have ne:(t.1==p.1)=a4:=beq_eq_false_iff_ne.mpr λz=>(Xm.mp nd).1 (z▸dJ ht);rw[Xl,ne];exact lookup_tab (Xm.mp nd).2 t ht
theorem j5m{P:aq}{w:ax}{K:k7m}{mg mb:k7p}{CX:CXT}{k:Nat}{fa a:aa}{fd:aH}{x:af}{sp:Sp}{s₁:ae}{vs:List a8}{ns:List Int}{ts:List (aa×af)}
  (KX:K.In s₁.heap) (hns:s₁.heap.Ns au mg) (hb:s₁.heap.Ns d8 mb) (hbb:∀x:af,x ≠ "__name__"->mb x=aU x) (hlim:s₁.heap.NoLimit)
  (hbm:∃bm ob,mg "__builtins__" = a3 (.ref bm)/\bm≠d8/\s₁.heap.get? bm=a3 ob/\ob.cls=.type "module"/\ob.dict=a3 d8/\ob.data=.plain) (hT:j75 ts s₁.heap) (hK0:W.noTabs K=a6) (hg:s₁.gens = #[])
  (ha:s₁.heap.get? a=a3 { cls:=.type "list",data:=.seq vs.toArray }) (hi:cE vs ns) (hl:ns.length<=aj) (hr:Room k fh)
  (F:∀base:aB,K.In base->base.Ns au mg->FnOk P w K mg base CX k fa fd [x] sp) (hbind:∀(s:ae)(u:a8),fm s fd ⟨[u],[]⟩ [(x,u)])
  (hsp:∀H:Hp,Only ts H->SqL K H a (ns.map V.int)->sp [.ref a] H (λv H'=>v=.bl a6/\∀b o,H b=a3 o->H' b=a3 o) λ_ _ _=>False)
  (hCX:∀H e s',CX [] H s₁ (λ_ _ _=>False) e s'->False) :
  cu (aw P w) fh (.call (.ref fa) ⟨[.ref a],[]⟩) (λr s'=>r=.ok (.ret (.bool a6))/\OldK s₁.heap s'.heap/\s'.os=s₁.os/\di s'.gens) s₁:=by
 have rv:=Bu hi;have lenV:=hi.length;have at_:∀{q:af}{b:aa},(b,q)∈ts->s₁.heap.get? b=a3 (W.tabObj #[]):=λ{q b} h=>(hT.2 _ h).2;have core:∀H:Hp,Only ts H->SqL K H a (ns.map V.int)->HOk P w H s₁.heap->(∀b,H b≠a7->b=a\/∃q,(b,q)∈ts)->(H a≠a7->K.lookup a=a7) ->
   cu (aw P w) fh (.call (.ref fa) ⟨[.ref a],[]⟩) (λr s'=>r=.ok (.ret (.bool a6))/\OldK s₁.heap s'.heap/\s'.os=s₁.os/\di s'.gens) s₁:=by
  intro H hO hS hok hA hK;have base_of:∀{b:aa}{o:de},s₁.heap.get? b=a3 o->H b=a7->(U0 s₁.heap H).get? b=a3 o:=λe n=>j67 e n;have noA:∀{b:aa}{o:de},s₁.heap.get? b=a3 o->(∀vs n,o.data≠.seq vs n)->(∀vs,o.data≠.fields vs)->H b=a7:=λ{b o} e d d2=>by
   cases q:H b with
   |none=>rfl
   |some u =>
    rcases hA b (by rw[q];simp)with e'|⟨q',e'⟩
    .subst e';rw[ha]at e;cases e;exact absurd rfl (d _ _)
    .rw[at_ e']at e;cases e;exact absurd rfl (d2 _)
  have nsK:∀{b:aa}{m:k7p},s₁.heap.Ns b m->(U0 s₁.heap H).Ns b m:=λ{b m} ⟨o,es,ep,e,d,r⟩=>⟨o,es,ep,base_of e (noA e (λ_ _ z=>by rw[d]at z;cases z) λ_ z=>by rw[d]at z;cases z),d,r⟩
  have hKb:K.In (U0 s₁.heap H):=λb o e=>base_of (KX b o e) (by
   cases q:H b with
   |none=>rfl
   |some u =>
    rcases hA b (by rw[q];simp)with e'|⟨q',e'⟩
    .subst e'
     rw[hK (by rw[q];simp)]at e;cases e
    .have e2:=KX b o e
     rw[at_ e']at e2
     have h2:=Pr.mp hK0 (b,o) (W.mem_of_lookupK e)
     cases e2
     exact absurd (show a4=a6 from h2) xj)
  have hM:Mod K mg (U0 s₁.heap H):=⟨hKb,nsK hns,⟨mb,nsK hb,hbb⟩,(let ⟨mc,h1,h2⟩:=hlim;⟨mc,nsK h1,h2⟩),
   let ⟨bm,ob,b1,b2,b3,b4,b5,b6⟩:=hbm;⟨bm,ob,b1,b2,base_of b3 (noA b3 (λ_ _ z=>by rw[b6]at z;cases z) λ_ z=>by rw[b6]at z;cases z),b4,b5,b6⟩⟩
  have e0:Env0 P w K mg (U0 s₁.heap H) fh [] s₁ H:=⟨rfl,hM,λb o e=>j90 e,Nat.le_of_eq (j3l _ _),trivial,λb hb=>absurd (show b∈([]:List aa)from hb) (by simp),hok,.of_eq hg⟩
  refine bP ((F _ hKb (nsK hns)).run fh [] s₁ H ⟨[.ref a],[]⟩ [.ref a] [.ref a] _ _ hr e0 (hbind s₁ (.ref a)) (.cons rfl .nil) (hsp H hO hS)) λr s' h=>?_;cases r with
  |error e=>exact(hCX H e s' h).elim
  |ok fl =>
   cases fl with
   |next=>exact aR h
   |brk=>exact aR h
   |cont=>exact aR h
   |ret u =>
    obtain⟨v,H',os,bare,un,hok',r',q,sm⟩:=h;have q':v=.bl a6:=q;subst q';obtain rfl:u=be a6:=r';have main:∀b o,s₁.heap.get? b=a3 o->s'.heap.get? b=a3 o\/((∃q,(b,q)∈ts)/\o=W.tabObj #[]/\∃ps,s'.heap.get? b=a3 (W.tabObj ps)):=λb o e=>by
     cases q:H b with
     |none=>exact .inl (un.keep b o e q (by intro z;exact absurd (show b∈([]:List aa)from z) (by simp)) (by simp))
     |some u =>
      rcases hO.1 b with z|⟨ob,xs,z⟩|⟨q',hq,z⟩
      .rw[q]at z;cases z
      .have z2:=un.frzs b ob _ z;obtain⟨e1,_⟩:=hok b _ z;obtain⟨e2,_⟩:=hok' b _ z2;rw[e]at e1;cases e1;exact .inl e2
      .obtain⟨ps,e2,_⟩:=(show je P w H' s'.heap b (.cod q')from hok' b _ (sm b _ z))
       rw[at_ hq]at e;exact .inr ⟨⟨q',hq⟩,(av e).symm,ps,e2⟩
    refine⟨rfl,⟨λb o e=>?_,λb o e=>?_⟩,os,bare⟩
    .rcases main b o e with z|⟨⟨q,hq⟩,rfl,ps,z⟩
     .exact .inl z
     .obtain⟨c,hc⟩:=(hT.2 _ hq).1;exact .inr (.inl ⟨(hc.tab (at_ hq)).isCodeTable,rfl,#[],ps,rfl,by rw[z,Array.empty_append]⟩)
    .rcases main b o e with z|⟨_,_,ps,z⟩
     .exact⟨o,z⟩
     .exact⟨_,z⟩
 have lkT:∀b q,ts.lookup b=a3 q->(b,q)∈ts:=λb q h=>Iz h;have ofT:∀t∈ts,ts.lookup t.1=a3 t.2:=lookup_tab hT.1;have okT:∀(H:Hp) b q,(b,q)∈ts->je P w H s₁.heap b (.cod q):=λH b q h=>⟨#[],at_ h,trivial,λpos cv z=>by cases z⟩
 cases hk:K.lookup a with
 |some o =>
  have e:=KX a o hk;rw[ha]at e;cases e;refine core (λb=>(ts.lookup b).map HO.cod) ⟨λb=>?_,λt ht=>by show(ts.lookup t.1).map HO.cod=_;rw[ofT t ht];rfl⟩ (.inr ⟨_,vs.toArray,_,hk,rfl,rfl,rfl,by rw[X6,lenV];exact hl,by simpa using rv⟩) (λb u z=>?_) (λb z=>?_) λz=>?_
  .cases e:ts.lookup b with
   |none=>exact .inl (by show(ts.lookup b).map HO.cod=_;rw[e];rfl)
   |some q=>exact .inr (.inr ⟨q,lkT b q e,by show(ts.lookup b).map HO.cod=_;rw[e];rfl⟩)
  .obtain⟨q,e,rfl⟩:=ph.mp z;exact okT _ b q (lkT b q e)
  .cases e:ts.lookup b with
   |none=>exact absurd (by show(ts.lookup b).map HO.cod=_;rw[e];rfl) z
   |some q=>exact .inr ⟨q,lkT b q e⟩
  .cases e:ts.lookup a with
   |none=>exact absurd (by show(ts.lookup a).map HO.cod=_;rw[e];rfl) z
   |some q=>have:=at_ (lkT a q e);rw[ha]at this;cases this
 |none =>
  have na:∀q,(a,q)∉ts:=λq h=>by have:=at_ h;rw[ha]at this;cases this
  refine core (λb=>if b=a then a3 (.frz { cls:=.type "list",data:=.seq vs.toArray } (.lst (ns.map V.int))) else(ts.lookup b).map HO.cod) ⟨λb=>?_,λt ht=>?_⟩ (.inl (.inr ⟨{ cls:=.type "list",data:=.seq vs.toArray },if_pos rfl⟩)) (λb u z=>?_) (λb z=>?_) λ_=>hk
  .by_cases hb:b=a
   .exact .inr (.inl ⟨_,_,if_pos hb⟩)
   .cases e:ts.lookup b with
    |none=>exact .inl (by show(if b=a then _ else _)=_;rw[if_neg hb,e];rfl)
    |some q=>exact .inr (.inr ⟨q,lkT b q e,by show(if b=a then _ else _)=_;rw[if_neg hb,e];rfl⟩)
  .have nb:t.1≠a:=λz=>na t.2 (z▸ht);show(if t.1=a then _ else _)=_;rw[if_neg nb,ofT t ht];rfl
  .by_cases hb:b=a
   .have z':=(if_pos hb).symm.trans z;cases z';subst hb;exact⟨ha,by rw[kj];exact hl,vs,_,rv,ha⟩
   .have z':=(if_neg hb).symm.trans z;obtain⟨q,e,rfl⟩:=ph.mp z';exact okT _ b q (lkT b q e)
  .by_cases hb:b=a
   .exact .inl hb
   .cases e:ts.lookup b with
    |none=>exact absurd (by show(if b=a then _ else _)=_;rw[if_neg hb,e];rfl) z
    |some q=>exact .inr ⟨q,lkT b q e⟩
theorem walk_of{l:cY}{n k:Nat}{q:aq}{loose:List af}{XP:(af->Option a8)->aB->Prop}{YP:ax->aB->Prop}{d:DefRec}{K:kT->k7m}{CX:ax->CXT}{sp:ax->Sp}{x:af}{ts:ax->List (aa×af)}
  (hn:l.most=a3 n) (hn2:n<=aj) (hdf:d.params.defaults=[]) (hr:Room k fh)
  (hY:∀(w:ax)(h:aB),YP w h->(K w.params).In h/\j75 (ts w) h) (hK0:∀w:ax,W.noTabs (K w.params)=a6)
  (F:∀(w:ax)(mg:k7p)(fa:aa)(h:aB),(K w.params).In h->h.Ns au mg->mg d.name=a3 (.ref fa) ->
   ∃fd:aH,(∀(s:ae)(u:a8),fm s fd ⟨[u],[]⟩ [(x,u)]) /\
    ∀base:aB,(K w.params).In base->base.Ns au mg->FnOk l.prog w (K w.params) mg base (CX w) k fa fd [x] (sp w))
  (hsp:∀(w:ax)(H:Hp)(a:aa)(ns:List Int),ns.length<=n->Only (ts w) H->SqL (K w.params) H a (ns.map V.int)->sp w [.ref a] H (λv H'=>v=.bl a6/\∀b o,H b=a3 o->H' b=a3 o) λ_ _ _=>False)
  (hCX:∀(w:ax)(H:Hp)(s:ae)(e:a8)(s':ae),CX w [] H s (λ_ _ _=>False) e s'->False) :
  gL q loose XP YP l.row.toRowW d [] (λf vs=>gR f vs):=by
 refine Att.attach_call hn hdf λw s₀ s₁ mg mb fa o pm cd doc a vs ns G Y ho hd hcd hmg hobj hints hlen hg=>?_;obtain⟨KX,hT⟩:=hY w _ Y;obtain⟨fd,hb,hF⟩:=F w mg fa _ KX G.T.g hmg;exact j5m KX G.T.g G.T.b G.T.builtins G.T.nolimit G.T.bmain hT (hK0 w) hg hobj hints (Xh hlen hn2) hr hF hb (λH hO hS=>hsp w H a ns hlen hO hS) λH e s'=>hCX w H s₁ e s'
end L2
/- THE LAST THEOREM (shape;LID,My.* are yours):
 My.Adr: a structure of the addresses that your layer names (classes,functions);My.Txt K t: a structure (Prop) of the equations over K;
 My.txt_mk:{K} {implicit addresses ..} (e1:cU K au "law" = a3 (a3 (.ref f))) (e2:K.lookup f=a3 ⟨oc,od,.func (fnOf "law" "law" params body scope dV kV doc pm an cdv ct),sl⟩) (e3:codeIn K cdv "law" = a6) ..:∃t,My.Txt K t
(the tactic k_is has no namespace: write k_is) -/
namespace L2
open PySem PySem.Spec PyProof.Rows
noncomputable def vp(s:aW):dw:=match s with
 |.FunctionDef _ a _ _ _ _ _ _ _ _=>a
 |_=>{ posonlyargs:=[],args:=[],vararg:=a7,kwonlyargs:=[],kw_defaults:=[],kwarg:=a7,defaults:=[] }
noncomputable def ju(s:aW):List aW:=match s with
 |.FunctionDef _ _ b _ _ _ _ _ _ _=>b
 |_=>[]
noncomputable def jb(s:aW):aX:=match s with
 |.FunctionDef _ _ _ _ _ _ sc _ _ _=>sc
 |_=>{ kind:=.function,names:=[],isGenerator:=a4,isCoroutine:=a4 }
noncomputable abbrev CX0:CXT:=λ_ _ _ _ _ _=>False
noncomputable abbrev E0:XK:=λ_ _ _=>False
theorem j14{X:Cx}:Kv CX0 X E0:=λ_ _ _ _ _ _ _ h=>h.elim
structure Fun(K:k7m)(x qual:af)(st:aW)(f:aa)(fd:aH):Prop where
 ex:∃(oc:a8)(od:Option aa)(dV kV doc pm:a8)(an:Option aa)(cdv ct:a8)(osl:Array (Option a8)),
  fd=W.fnOf x qual (vp st) (ju st) (jb st) dV kV doc pm an cdv ct/\K.lookup f=a3 ⟨oc,od,.func fd,osl⟩/\W.codeIn K cdv qual=a6
 kp:W.keepIn K (.ref f)=a6
section
variable{P:aq}{w:ax}{K:k7m}{mg:k7p}{base:aB}
theorem Fun.binds{x qual:af}{st:aW}{f:aa}{kV doc pm:a8}{an:Option aa}{cdv ct:a8}{ps:List af}(F:Fun K x qual st f (W.fnOf x qual (vp st) (ju st) (jb st) .none kV doc pm an cdv ct))
  (h:∀(kV doc pm:a8)(an:Option aa)(cdv ct:a8)(us:List a8),us.length=ps.length->dZ (W.fnOf x qual (vp st) (ju st) (jb st) .none kV doc pm an cdv ct) ⟨us,[]⟩=pure (ps.zip us)):Binds K (W.fnOf x qual (vp st) (ju st) (jb st) .none kV doc pm an cdv ct) ps []:=.all (h kV doc pm an cdv ct)
theorem K5{x qual:af}{st:aW}{f:aa}{oc:a8}{od an:Option aa}{osl:Array (Option a8)}{dV kV doc pm cdv ct:a8}(l:K.lookup f=a3 ⟨oc,od,.func (W.fnOf x qual (vp st) (ju st) (jb st) dV kV doc pm an cdv ct),osl⟩)
  (c:W.codeIn K cdv qual=a6) (k:W.keepIn K (.ref f)=a6):Fun K x qual st f (W.fnOf x qual (vp st) (ju st) (jb st) dV kV doc pm an cdv ct):=⟨⟨oc,od,dV,kV,doc,pm,an,cdv,ct,osl,rfl,l,c⟩,k⟩
end
section
variable{X:Cx}
end
theorem j1i{A B:Prop}(h:B):if a4=a6 then A else B:=by rw[if_neg xj];exact h
theorem j1h{A B:Prop}(h:A):if a6=a6 then A else B:=by rw[if_pos rfl];exact h
def j4(H H':Hp):Prop:=∀b o,H b=a3 o->H' b=a3 o
theorem j4.refl(H:Hp):j4 H H:=λ_ _ h=>h
theorem j4.trans{H H1 H2:Hp}(a:j4 H H1)(b:j4 H1 H2):j4 H H2:=λc o h=>b c o (a c o h)
theorem j4.free{H H':Hp}(e:j4 H H'){l:aa}(h:H' l=a7):H l=a7:=by
 cases q:H l with
 |none=>rfl
 |some o =>rw[e l o q]at h;cases h
theorem j4.seq{K:k7m}{H H':Hp}{a:aa}{xs:List V}(e:j4 H H')(h:SqL K H a xs):SqL K H' a xs:=by
 rcases h with (h|⟨o,h⟩)|h
 .exact .inl (.inl (e _ _ h))
 .exact .inl (.inr ⟨o,e _ _ h⟩)
 .exact .inr h
set_option genInjectivity true in
inductive D where
 |non
 |bl (b:Bool)
 |int (i:Int)
 |str (x:af)
 |tup (ds:List D)
 |lst (ds:List D)
 |dct (ks:List (List Int)) (ds:List D)
 |sct (kvs:List (af×Int))
 |fn (x:af) (cs:List D)
noncomputable def kvI(kvs:List (af×Int)):List (Key×V):=kvs.map λp=>(.inr p.1,.int p.2)
noncomputable def jr(x:af):af:=x ++ ".<locals>." ++ "<lambda>"
noncomputable abbrev Tx:=dw×ai×aX
noncomputable def jgk:ai->Option Tx
 |.Lambda a b sc _=>a3 (a,b,sc)
 |.Call _ es _ _=>match es.getLast? with
  |some (.Lambda a b sc _)=>a3 (a,b,sc)
  |_=>a7
 |_=>a7
noncomputable def Bg(b:List aW):Option Tx:=match b.getLast? with
 |some (.Return (a3 e) _)=>jgk e
 |_=>a7
noncomputable def Zq(K:k7m)(x:af):Option Tx:=match W.nsIn K au x with
 |some (a3 (.ref f))=>match K.lookup f with
  |some ⟨_,_,.func fd,_⟩=>match fd.body with
   |.stmts b=>Bg b
   |_=>a7
  |_=>a7
 |_=>a7
noncomputable def vo(sc:aX):List af:=((sc.names.filter λp=>p.2==.free).map (·.1)).reverse
def v5(H:Hp):List aa->List V->Prop
 |[],vs=>vs=[]
 |c::cs,vs=>∃v r o u,vs=v::r/\H c=a3 (.frz o (.own 0))/\o.data=.cell (a3 u)/\RelV v u/\v5 H cs r
theorem v5.mono{H H':Hp}(g:j4 H H'):∀{cs:List aa}{vs:List V},v5 H cs vs->v5 H' cs vs
 |[],_,h=>h
 |_::_,_,⟨v,r,o,u,e,h,d,rv,l⟩=>⟨v,r,o,u,e,g _ _ h,d,rv,l.mono g⟩
structure LamAt(K:k7m)(H:Hp)(x:af)(a c:aa)(t:Tx)(cl:List (af×aa))(vs:List V):Prop where
 tx:Zq K x=a3 t
 fo:∃pm ctv,H a=a3 (.frz (W.kla_obj "<lambda>" (jr x) t.1 t.2.1 t.2.2 cl pm c ctv) (.own 0))
 co:∃oc,H c=a3 (.frz oc (.own 0))/\Od oc (jr x)
 nm:cl.map (·.1)=vo t.2.2
 nd:(cl.map (·.2)).Nodup
 cs:v5 H (cl.map (·.2)) vs
theorem LamAt.mono{K:k7m}{H H':Hp}{x:af}{a c:aa}{tx:Tx}{cl:List (af×aa)}{vs:List V}(g:j4 H H')(h:LamAt K H x a c tx cl vs):LamAt K H' x a c tx cl vs :=
 ⟨h.tx,let ⟨pm,ctv,e⟩:=h.fo;⟨pm,ctv,g _ _ e⟩,let ⟨oc,e,q⟩:=h.co;⟨oc,g _ _ e,q⟩,h.nm,h.nd,h.cs.mono g⟩
noncomputable def del(H:Hp)(A:List aa):Hp:=λb=>if b∈A then a7 else H b
section
variable{H H' F:Hp}{A A':List aa}{a b:aa}{o:HO}
theorem qx(h:b∈A):del H A b=a7:=if_pos h
theorem j6(h:b∉A):del H A b=H b:=if_neg h
theorem of_del(h:del H A b=a3 o):b∉A/\H b=a3 o:=by
 by_cases e:b∈A
 .rw[qx e]at h;cases h
 .rw[j6 e]at h;exact⟨e,h⟩
theorem jg(g:j4 H H'):j4 (del H A) (del H' A):=λb o h=>by obtain⟨n,e⟩:=of_del h;rw[j6 n];exact g b o e
end
theorem j4.seqT{K:k7m}{H H':Hp}{a:aa}{xs:List V}(e:j4 H H')(h:SqT K H a xs):SqT K H' a xs:=by
 rcases h with (h|⟨o,h⟩)|h
 .exact .inl (.inl (e _ _ h))
 .exact .inl (.inr ⟨o,e _ _ h⟩)
 .exact .inr h
mutual
def Enc(K:k7m)(H:Hp):D->V->Prop
 |.non,v=>v=.non
 |.bl b,v=>v=.bl b
 |.int i,v=>v=.int i
 |.str x,v=>v=.str x
 |.tup ds,v=>∃a xs,v=.ref a/\SqT K H a xs/\j5 K H ds xs
 |.lst ds,v=>∃a xs,v=.ref a/\SqL K H a xs/\j5 K H ds xs
 |.dct ks ds,v=>∃(a:aa)(xs:List (List Int×aa×a8)) (ep:Nat) (vs:List V),v=.ref a/\H a=a3 (.dI xs ep)/\ks=(xs.map λx=>x.1)/\(∀x∈xs,SqT K H x.2.1 (x.1.map V.int))/\Vals vs (xs.map λx=>x.2.2)/\j5 K H ds vs
 |.sct kvs,v=>∃a:aa,v=.ref a/\H a=a3 (.dK (kvI kvs))
 |.fn x ds,v=>∃(a c:aa)(tx:Tx)(cl:List (af×aa)) (vs:List V),v=.ref a/\LamAt K H x a c tx cl vs/\j5 K (del H (cl.map (·.2))) ds vs
def j5(K:k7m)(H:Hp):List D->List V->Prop
 |[],xs=>xs=[]
 |d::ds,xs=>∃x r,xs=x::r/\Enc K H d x/\j5 K H ds r
end
mutual
theorem Enc.mono{K:k7m}{H H':Hp}(g:j4 H H'):∀{d:D}{v:V},Enc K H d v->Enc K H' d v
 |.non,_,h=>h
 |.bl _,_,h=>h
 |.int _,_,h=>h
 |.str _,_,h=>h
 |.tup _,_,⟨a,xs,e,q,l⟩=>⟨a,xs,e,g.seqT q,j5.mono g l⟩
 |.lst _,_,⟨a,xs,e,q,l⟩=>⟨a,xs,e,g.seq q,j5.mono g l⟩
 |.dct _ _,_,⟨a,xs,ep,vs,e,q,ek,kt,rv,l⟩=>⟨a,xs,ep,vs,e,g _ _ q,ek,λx hx=>g.seqT (kt x hx),rv,j5.mono g l⟩
 |.sct _,_,⟨a,e,q⟩=>⟨a,e,g _ _ q⟩
 |.fn _ _,_,⟨a,c,tx,cl,vs,e,q,l⟩=>⟨a,c,tx,cl,vs,e,q.mono g,j5.mono (jg g) l⟩
theorem j5.mono{K:k7m}{H H':Hp}(g:j4 H H'):∀{ds:List D}{xs:List V},j5 K H ds xs->j5 K H' ds xs
 |[],_,h=>h
 |_::_,_,⟨x,r,e,h,l⟩=>⟨x,r,e,Enc.mono g h,j5.mono g l⟩
end
section
variable{K:k7m}{H H':Hp}{ds ds':List D}{xs ys:List V}
theorem j5.length:∀{ds:List D}{xs:List V},j5 K H ds xs->xs.length=ds.length
 |[],_,h=>by cases h;rfl
 |_::_,_,⟨x,r,e,_,l⟩=>by subst e;simp[j5.length l]
theorem j5.get:∀{ds:List D}{xs:List V}{i:Nat}{d:D},j5 K H ds xs->ds[i]?=a3 d->∃x,xs[i]?=a3 x/\Enc K H d x
 |[],_,i,d,_,e=>by simp at e
 |_::_,_,0,d,⟨x,r,e,h,_⟩,q=>by subst e;simp at q;subst q;exact⟨x,rfl,h⟩
 |_::_,_,i+1,d,⟨x,r,e,_,l⟩,q=>by subst e;simp at q;obtain⟨y,hy,hd⟩:=j5.get l q;exact⟨y,by simpa using hy,hd⟩
theorem j5.get':∀{ds:List D}{xs:List V}{i:Nat}{x:V},j5 K H ds xs->xs[i]?=a3 x->∃d,ds[i]?=a3 d/\Enc K H d x
 |[],_,i,d,h,e=>by cases h;simp at e
 |d::_,_,0,y,⟨x,r,e,h,_⟩,q=>by subst e;simp at q;subst q;exact⟨d,rfl,h⟩
 |_::_,_,i+1,y,⟨x,r,e,_,l⟩,q=>by subst e;simp at q;obtain⟨y,hy,hd⟩:=j5.get' l q;exact⟨y,by simpa using hy,hd⟩
theorem j5.append:∀{ds ds':List D}{xs ys:List V},j5 K H ds xs->j5 K H ds' ys->j5 K H (ds++ds') (xs++ys)
 |[],_,_,_,h,h'=>by cases h;exact h'
 |_::_,_,_,_,⟨x,r,e,h,l⟩,h'=>by subst e;exact⟨x,_,rfl,h,j5.append l h'⟩
theorem j5.one{d:D}{x:V}(h:Enc K H d x):j5 K H [d] [x]:=⟨x,[],rfl,h,rfl⟩
theorem j5.take:∀{ds:List D}{xs:List V}(n:Nat),j5 K H ds xs->j5 K H (ds.take n) (xs.take n)
 |[],_,n,h=>by cases h;simp;exact rfl
 |_::_,_,0,⟨x,r,e,h,l⟩=>by simp;exact rfl
 |_::_,_,n+1,⟨x,r,e,h,l⟩=>by subst e;exact⟨x,_,rfl,h,j5.take n l⟩
theorem j5.drop:∀{ds:List D}{xs:List V}(n:Nat),j5 K H ds xs->j5 K H (ds.drop n) (xs.drop n)
 |[],_,n,h=>by cases h;simp;exact rfl
 |_::_,_,0,h=>h
 |_::_,_,n+1,⟨x,r,e,h,l⟩=>by subst e;exact j5.drop n l
theorem j5.rep{ds:List D}{xs:List V}(h:j5 K H ds xs):∀k:Nat,j5 K H (ak k ds).flatten (ak k xs).flatten
 |0=>rfl
 |k+1=>by rw[Pk,Pk,Tn,Tn];exact h.append (j5.rep h k)
theorem j5.ints(ns:List Int):j5 K H (ns.map D.int) (ns.map V.int):=by
 induction ns with
 |nil=>exact rfl
 |cons n ns ih=>exact⟨_,_,rfl,rfl,ih⟩
end
section
variable{H H' F:Hp}{A A':List aa}{a b:aa}{o:HO}
theorem Jb:del H []=H:=funext λb=>if_neg (by simp)
theorem jo:j4 (del H A) H:=λ_ _ h=>(of_del h).2
theorem zx(h:∀b,b∈A'->b∈A):j4 (del H A) (del H A'):=λb o e=>by obtain⟨n,e⟩:=of_del e;rw[j6 λz=>n (h b z)];exact e
theorem Yp(h:a∈A):del (upd H a o) A=del H A:=funext λb=>by
 by_cases e:b∈A
 .rw[qx e,qx e]
 .rw[j6 e,j6 e,ji];rintro rfl;exact e h
noncomputable def mrg(A:List aa)(H F:Hp):Hp:=λb=>if b∈A then H b else F b
theorem vq(h:b∈A):mrg A H F b=H b:=if_pos h
theorem jj(h:b∉A):mrg A H F b=F b:=if_neg h
theorem Vc(h:∀a∈A,F a=a7):del (mrg A H F) A=F:=funext λb=>by
 by_cases e:b∈A
 .rw[qx e,h b e]
 .rw[j6 e,jj e]
theorem Wz(g:j4 (del H A) F):j4 H (mrg A H F):=λb o e=>by
 by_cases z:b∈A
 .rw[vq z];exact e
 .rw[jj z];exact g b o (by rw[j6 z];exact e)
theorem j7(h:H a=a7):j4 H (upd H a o):=λb u q=>by rw[ji (zr q h)];exact q
end
def Hd(o:Option HO):Prop:=(∃xs,o=a3 (.lst xs))\/∃xs ep,o=a3 (.dI xs ep)
section
variable{X:Cx}{pins:k7o}{σ σ':St}{H F:Hp}{s s':ae}{A:List aa}
theorem Inv.noFs(I:Inv X pins σ H s){b:aa}(hb:b∈X.fs):H b=a7:=by
 have q:b∈frs X.stack:=by
  rcases I.ok.stk with e|⟨e,_⟩
  .rw[e];exact hb
  .rw[e];have hb:b∈frs X.outer:=hb;unfold frs at hb ⊢;rw[bL];split
   .exact hb
   .exact xf _ hb
 exact I.stkFree b q
theorem Inv.hide(I:Inv X pins σ H s)(hA:∀a∈A,Hd (H a)):Inv X (pins++Vi A s.heap) σ (del H A) s where
 ok:=I.ok
 os:=I.os
 bare:=I.bare
 base:={
  keep:=I.base.keep
  slot:=I.base.slot
  free:=λb o e n hx=>by
   have q:=I.base.free b o e n hx
   by_cases z:b∈A
   .exact qx z
   .rw[j6 z];exact q
  there:=I.base.there
  tups:=λb xs e=>by
   have q:=I.base.tups b xs e
   rw[j6];exact q
   intro z;rcases hA b z with ⟨ys,e'⟩|⟨ys,ep,e'⟩<;>(rw[q]at e';cases e')
  frzs:=λb o u e=>by
   have q:=I.base.frzs b o u e
   rw[j6];exact q
   intro z;rcases hA b z with ⟨ys,e'⟩|⟨ys,ep,e'⟩<;>(rw[q]at e';cases e')
  tbls:=λb ps e=>by
   obtain⟨more,q⟩:=I.base.tbls b ps e
   refine⟨more,?_⟩
   rw[j6];exact q
   intro z;rcases hA b z with ⟨ys,e'⟩|⟨ys,ep,e'⟩<;>(rw[q]at e';cases e') }
 loc:=I.loc
 cell:=I.cell
 free:=by
  by_cases z:X.env.locals∈A
  .exact qx z
  .rw[j6 z];exact I.free
 freeC:=λx c e=>by
  by_cases z:c∈A
  .exact qx z
  .rw[j6 z];exact I.freeC x c e
 pin:=λp hp=>by
  rw[<-Td]at hp;rcases Pb.mp hp with hp|hp
  .obtain⟨h1,h2,h3⟩:=I.pin p hp;refine⟨h1,?_,h3⟩;by_cases z:p.1∈A
   .exact qx z
   .rw[j6 z];exact h2
  .obtain⟨h1,h2⟩:=Ng hp;rcases hA _ h1 with ⟨xs,e⟩|⟨xs,ep,e⟩
   .refine⟨h2,qx h1,λz=>?_,λz=>?_,λv z=>?_⟩
    .rw[z,I.free]at e;cases e
    .rw[I.noFs z]at e;cases e
    .obtain⟨_,its,n,_,q⟩:=(show je X.prog X.w H s.heap p.1 (.lst xs)from I.hok _ _ e)
     rw[h2]at q;rw[av q]at z;cases z
   .refine⟨h2,qx h1,λz=>?_,λz=>?_,λv z=>?_⟩
    .rw[z,I.free]at e;cases e
    .rw[I.noFs z]at e;cases e
    .obtain⟨_,_,_,ob,es,q,_,qd,_⟩:=(show je X.prog X.w H s.heap p.1 (.dI xs ep)from I.hok _ _ e)
     rw[h2]at q;rw[av q,qd]at z;cases z
 hok:=λa o e=>by
  obtain⟨n,e⟩:=of_del e;refine je.stay (I.hok a o e) (λb u _ q=>q) (λb q=>?_) (λb xs q=>?_) (λb _ _ q=>?_)
  .rw[j6];exact q;intro z;rcases hA b z with ⟨ys,e'⟩|⟨ys,ep,e'⟩<;>(rw[q]at e';cases e')
  .rw[j6];exact q;intro z;rcases hA b z with ⟨ys,e'⟩|⟨ys,ep,e'⟩<;>(rw[q]at e';cases e')
  .rw[j6];exact q;intro z;rcases hA b z with ⟨ys,e'⟩|⟨ys,ep,e'⟩<;>(rw[q]at e';cases e')
 len:=I.len
theorem Inv.unhide(I0:Inv X pins σ H s)(hA:∀a∈A,Hd (H a))(I:Inv X (pins++Vi A s.heap) σ' F s') :
  (∀a∈A,F a=a7)/\Inv X pins σ' (mrg A H F) s':=by
 have pinned:∀a∈A,∃o,s.heap.get? a=a3 o/\s'.heap.get? a=a3 o/\F a=a7:=λa ha=>by
  have ob:∃o,s.heap.get? a=a3 o:=by
   rcases hA a ha with ⟨xs,e⟩|⟨xs,ep,e⟩
   .obtain⟨_,its,n,_,q⟩:=(show je X.prog X.w H s.heap a (.lst xs)from I0.hok _ _ e)
    exact⟨_,q⟩
   .obtain⟨_,_,_,o,es,q,_⟩:=(show je X.prog X.w H s.heap a (.dI xs ep)from I0.hok _ _ e)
    exact⟨_,q⟩
  obtain⟨o,q⟩:=ob;obtain⟨h1,h2,_⟩:=I.pin (a,_) (Xf _ (Xf _ (Jz ha q)));exact⟨_,q,h1,h2⟩
 have hF:∀a∈A,F a=a7:=λa ha=>let ⟨_,_,_,q⟩:=pinned a ha;q;have out:∀{b:aa}{o:HO},F b=a3 o->b∉A:=λ{b o} e z=>by rw[hF b z]at e;cases e
 refine⟨hF,?_⟩;exact{
  ok:=I.ok
  os:=I.os
  bare:=I.bare
  base:={
   keep:=I.base.keep
   slot:=I.base.slot
   free:=λb o e n hx=>by
    by_cases z:b∈A
    .rw[vq z];exact I0.base.free b o e n hx
    .rw[jj z];exact I.base.free b o e n hx
   there:=I.base.there
   tups:=λb xs e=>by
    have q:=I.base.tups b xs e
    rw[jj (out q)];exact q
   frzs:=λb o u e=>by
    have q:=I.base.frzs b o u e
    rw[jj (out q)];exact q
   tbls:=λb ps e=>by
    obtain⟨more,q⟩:=I.base.tbls b ps e
    exact⟨more,by rw[jj (out q)];exact q⟩ }
  loc:=I.loc
  cell:=I.cell
  free:=by
   by_cases z:X.env.locals∈A
   .rw[vq z];exact I0.free
   .rw[jj z];exact I.free
  freeC:=λx c e=>by
   by_cases z:c∈A
   .rw[vq z];exact I0.freeC x c e
   .rw[jj z];exact I.freeC x c e
  pin:=λp hp=>by
   obtain⟨h1,h2,h3⟩:=I.pin p (by rw[<-Td];exact T5 _ hp)
   refine⟨h1,?_,h3⟩
   by_cases z:p.1∈A
   .rw[vq z];exact(I0.pin p hp).2.1
   .rw[jj z];exact h2
  hok:=λa o e=>by
   by_cases z:a∈A
   .rw[vq z]at e
    obtain⟨o',q1,q2,_⟩:=pinned a z
    rcases hA a z with ⟨xs,e'⟩|⟨xs,ep,e'⟩
    .rw[e']at e;cases e
     obtain⟨hl,its,n,r,q⟩:=(show je X.prog X.w H s.heap a (.lst xs)from I0.hok _ _ e')
     rw[q]at q1;cases q1
     exact⟨hl,its,n,r,q2⟩
    .rw[e']at e;cases e
     obtain⟨z1,z2,z3,ob,es,q,z4⟩:=(show je X.prog X.w H s.heap a (.dI xs ep)from I0.hok _ _ e')
     rw[q]at q1;cases q1
     exact⟨z1,z2,z3,_,es,q2,z4⟩
   .rw[jj z]at e
    refine je.stay (I.hok a o e) (λb u _ q=>q) (λb q=>?_) (λb xs q=>?_) (λb _ _ q=>?_)
    .rw[jj (out q)];exact q
    .rw[jj (out q)];exact q
    .rw[jj (out q)];exact q
  len:=I.len }
end
def Q6(X:Cx)(e:ai):TE:=λσ H Q=>∀pins s,Inv X pins σ H s->ao (aw X.prog X.w) X.A (ay e X.env) (EP X pins σ Q) X.xe s
def j4t(X:Cx)(e:ai):TT:=λσ H Q=>∀pins s,Inv X pins σ H s->ao (aw X.prog X.w) X.A (eY e X.env (ay e X.env)) (TP X pins σ Q) X.xe s
def Ou(X:Cx)(es:List ai):TA:=λσ H Q=>∀pos pins s,Inv X pins σ H s->ao (aw X.prog X.w) X.A (jL (aP pos (a9 es X.env))) (AP X pins σ Q) X.xe s
def j4u(X:Cx)(st:aW):TS:=λD σ H=>∀pins s,Inv X pins σ H s->ao (aw X.prog X.w) X.A (exec st X.env) (SP X pins D) X.xe s
def Ma(X:Cx)(sts:List aW):TS:=λD σ H=>∀pins s,Inv X pins σ H s->ao (aw X.prog X.w) X.A (execs sts X.env) (SP X pins D) X.xe s
def Cv(X:Cx)(tg iter:ai):TI:=λσ H R=>∀pins s,Inv X pins σ H s ->
 ao (aw X.prog X.w) X.A (ay iter X.env) (λv s1=>ao (aw X.prog X.w) X.A (ij v) (PIE X pins σ tg R) X.xe s1) X.xe s
section
variable{X:Cx}{e tg:ai}{es:List ai}{st:aW}{sts:List aW}{σ:St}{H:Hp}
theorem peS:PE X e (Q6 X e):=λpins s _ _ _ I h=>h pins s I
theorem ptS:PT X e (j4t X e):=λpins s _ _ _ I h=>h pins s I
theorem paS:PA X es (Ou X es):=λpos pins s _ _ _ I h=>h pos pins s I
theorem psS:PS X st (j4u X st):=λpins s _ _ _ I h=>h pins s I
theorem R8:PSs X sts (Ma X sts):=λpins s _ _ _ I h=>h pins s I
theorem piS:PI X tg e (Cv X tg e):=λpins s _ _ _ I h=>h pins s I
theorem PE.to{t:TE}(h:PE X e t){Q:VK}(q:t σ H Q):Q6 X e σ H Q:=λpins s I=>h pins s σ H Q I q
theorem PT.to{t:TT}(h:PT X e t){Q:Bool->Hp->Prop}(q:t σ H Q):j4t X e σ H Q:=λpins s I=>h pins s σ H Q I q
theorem PA.to{t:TA}(h:PA X es t){Q:List V->Hp->Prop}(q:t σ H Q):Ou X es σ H Q:=λpos pins s I=>h pos pins s σ H Q I q
theorem PS.to{t:TS}(h:PS X st t){D:Ends}(q:t D σ H):j4u X st D σ H:=λpins s I=>h pins s σ H D I q
theorem PSs.to{t:TS}(h:PSs X sts t){D:Ends}(q:t D σ H):Ma X sts D σ H:=λpins s I=>h pins s σ H D I q
theorem PI.to{t:TI}(h:PI X tg e t){R:It->Hp->Prop}(q:t σ H R):Cv X tg e σ H R:=λpins s I=>h pins s σ H R I q
theorem j0z{A:List aa}{Q Q':VK}(hA:∀a∈A,Hd (H a))(h:Q6 X e σ (del H A) Q')(hq:∀v F,Q' v F->(∀a∈A,F a=a7)->Q v (mrg A H F)):Q6 X e σ H Q :=
 λpins s I=>thn (h _ s (I.hide hA)) λv s' ⟨x,F,I',r,q⟩=>let ⟨n,I2⟩:=I.unhide hA I';⟨x,_,I2,r,hq x F q n⟩
theorem j0y{A:List aa}{R R':It->Hp->Prop}(hA:∀a∈A,Hd (H a))(h:Cv X tg e σ (del H A) R')(hq:∀J F,R' J F->(∀a∈A,F a=a7)->R J (mrg A H F)):Cv X tg e σ H R :=
 λpins s I=>thn (h _ s (I.hide hA)) λv s' h1=>thn h1 λitv s2 ⟨it,fp,tn,J,F,e,I',T,t0,fk,q⟩=>by
  obtain⟨n,I2⟩:=I.unhide hA I';refine⟨it,fp,tn,J,_,e,I2,T,t0,λb hb=>?_,hq J F q n⟩;obtain⟨f0,f1,f2,f3,f4,f5⟩:=fk b hb;refine⟨?_,f1,f2,f3,f4,λp hp=>f5 p (by rw[<-Td];exact T5 _ hp)⟩;by_cases z:b∈A
  .exfalso;have ob:∃o,s.heap.get? b=a3 o:=by
    rcases hA b z with ⟨xs,e⟩|⟨xs,ep,e⟩
    .obtain⟨_,its,n,_,q⟩:=(show je X.prog X.w H s.heap b (.lst xs)from I.hok _ _ e)
     exact⟨_,q⟩
    .obtain⟨_,_,_,o,es,q,_⟩:=(show je X.prog X.w H s.heap b (.dI xs ep)from I.hok _ _ e)
     exact⟨_,q⟩
   obtain⟨o,q⟩:=ob;exact f5 (b,o) (Xf _ (Xf _ (Jz z q))) rfl
  .rw[jj z];exact f0
end
inductive Sl where
 |un
 |val (d:D)
 |own (a:aa) (ds:List D)
 |raw (a:aa) (o:de) (x:af)
noncomputable abbrev Rho:=List Sl
noncomputable def Sl.addr:Sl->Option aa
 |.own a _=>a3 a
 |_=>a7
noncomputable def owns(ρ:Rho):List aa:=ρ.filterMap Sl.addr
theorem Js{ρ:Rho}{i:Nat}{a:aa}{ds:List D}(h:ρ[i]?=a3 (.own a ds)):a∈owns ρ:=tu.mpr ⟨_,Xo h,rfl⟩
theorem Zo{ρ:Rho}{a:aa}(h:a∈owns ρ):∃(i:Nat)(ds:List D),ρ[i]?=a3 (.own a ds):=by
 obtain⟨s,hs,e⟩:=tu.mp h;obtain⟨i,hi⟩:=List.mem_iff_getElem?.mp hs;cases s with
 |own b ds=>cases e;exact⟨i,ds,hi⟩
 |un=>cases e
 |val d=>cases e
 |raw b o x=>cases e
theorem jm(s:Sl)(ρ:Rho):owns (s::ρ)=(match s.addr with|some a=>a::owns ρ|none=>owns ρ):=by unfold owns;rw[bL];cases s.addr<;>rfl
theorem jf{s:Sl}(hs:s.addr=a7):∀{ρ:Rho}{i:Nat},(owns (ρ.set i s)).Sublist (owns ρ)
 |[],_=>cy _
 |x::r,0=>by
  rw[T3,jm,jm,hs];cases x.addr with
  |none=>exact cy _
  |some a=>exact List.sublist_cons_self _ _
 |x::r,i+1=>by
  rw[Pu,jm,jm];have ih:=jf hs (ρ:=r) (i:=i);cases x.addr with
  |none=>exact ih
  |some a=>exact ih.cons_cons a
theorem V0{a:aa}{ds ds':List D}:∀{ρ:Rho}{i:Nat},ρ[i]?=a3 (.own a ds)->owns (ρ.set i (.own a ds'))=owns ρ
 |[],_,h=>by simp at h
 |x::r,0,h=>by simp at h;subst h;rw[T3,jm,jm];rfl
 |x::r,i+1,h=>by simp at h;rw[Pu,jm,jm,V0 h]
theorem Wo{s:Sl}(hs:s.addr=a7):∀{ρ:Rho}{i:Nat},(∀a l,ρ[i]?≠a3 (.own a l))->owns (ρ.set i s)=owns ρ
 |[],_,_=>rfl
 |x::r,0,h=>by
  rw[T3,jm,jm,hs];cases x with
  |own a l=>exact absurd rfl (h a l)
  |un=>rfl
  |val d=>rfl
  |raw a o x=>rfl
 |x::r,i+1,h=>by rw[Pu,jm,jm,Wo hs (λa l=>by simpa using h a l)]
theorem J8{a:aa}{ds:List D}:∀{ρ:Rho}{i:Nat},(owns ρ).Nodup->a∉owns ρ->(owns (ρ.set i (.own a ds))).Nodup/\∀b∈owns (ρ.set i (.own a ds)),b=a\/b∈owns ρ
 |[],_,n,_=>⟨n,λb hb=>.inr hb⟩
 |x::r,0,n,h=>by
  rw[T3,jm];rw[jm]at n h;have e:(Sl.own a ds).addr=a3 a:=rfl;rw[e];cases q:x.addr with
  |none =>rw[q]at n h;exact⟨Xm.mpr ⟨h,n⟩,λb hb=>(xr.mp hb).elim .inl λz=>.inr (by rw[jm,q];exact z)⟩
  |some c =>rw[q]at n h;exact⟨Xm.mpr ⟨λz=>h (xf _ z),(Xm.mp n).2⟩,λb hb=>(xr.mp hb).elim .inl λz=>.inr (by rw[jm,q];exact xf _ z)⟩
 |x::r,i+1,n,h=>by
  rw[Pu,jm];rw[jm]at n h;cases q:x.addr with
  |none =>rw[q]at n h;obtain⟨i1,i2⟩:=J8 (ds:=ds) (i:=i) n h;exact⟨i1,λb hb=>(i2 b hb).elim .inl λz=>.inr (by rw[jm,q];exact z)⟩
  |some c =>
   rw[q]at n h;obtain⟨n1,n2⟩:=Xm.mp n;obtain⟨i1,i2⟩:=J8 (ds:=ds) (i:=i) n2 (λz=>h (xf _ z));refine⟨Xm.mpr ⟨λz=>?_,i1⟩,λb hb=>?_⟩
   .rcases i2 c z with e|z
    .subst e;exact h (xm ..)
    .exact n1 z
   .rcases xr.mp hb with e|z
    .exact .inr (by rw[jm,q];exact e▸xm ..)
    .exact(i2 b z).elim .inl λz=>.inr (by rw[jm,q];exact xf _ z)
theorem Vk{a:aa}{l l':List D}:∀{ρ:Rho}{i j:Nat},(owns ρ).Nodup->ρ[i]?=a3 (.own a l)->ρ[j]?=a3 (.own a l')->i=j
 |[],i,_,_,h,_=>by simp at h
 |x::r,0,0,_,_,_=>rfl
 |x::r,0,j+1,n,h,h'=>by simp at h h';subst h;rw[jm]at n;exact absurd (Js h') (Xm.mp n).1
 |x::r,i+1,0,n,h,h'=>by simp at h h';subst h';rw[jm]at n;exact absurd (Js h) (Xm.mp n).1
 |x::r,i+1,j+1,n,h,h'=>by
  simp at h h';have n':(owns r).Nodup:=by
   rw[jm]at n;cases q:x.addr with
   |none=>rw[q]at n;exact n
   |some c=>rw[q]at n;exact(Xm.mp n).2
  rw[Vk n' h h']
noncomputable def Zc:List af:=["worst_cost_of_ask","least_numbers","whole_cost_of_ask","round_numbers"]
def TabOk(K:k7m)(H:Hp):Prop:=∀x∈Zc,∀c P,W.tabIn K x=a3 (c,P)->H P=a3 (.cod (jr x))
section
variable{K:k7m}{H H':Hp}
theorem TabOk.mono(h:TabOk K H)(g:j4 H H'):TabOk K H':=λx hx c P e=>g _ _ (h x hx c P e)
theorem TabOk.upd{a:aa}{o u:HO}(h:TabOk K H)(e:H a=a3 u)(n:∀q,u≠.cod q):TabOk K (upd H a o):=λx hx c P z=>by have q:=h x hx c P z;rw[ji];exact q;intro y;subst y;rw[e]at q;exact n _ (av q)
theorem TabOk.del{A:List aa}(h:TabOk K H)(hA:∀a∈A,∃xs,H a=a3 (.lst xs)):TabOk K (del H A):=λx hx c P z=>by have q:=h x hx c P z;rw[j6];exact q;intro y;obtain⟨xs,e⟩:=hA _ y;rw[q]at e;cases e
end
structure Rep(K:k7m)(ρ:Rho)(σ:St)(H:Hp):Prop where
 len:σ.length=ρ.length
 val:∀(i:Nat)(d:D),ρ[i]?=a3 (.val d)->∃v,σ[i]?=a3 (a3 v)/\Enc K (del H (owns ρ)) d v
 own:∀(i:Nat)(a:aa)(ds:List D),ρ[i]?=a3 (.own a ds)->σ[i]?=a3 (a3 (.ref a))/\∃xs,H a=a3 (.lst xs)/\j5 K (del H (owns ρ)) ds xs
 nd:(owns ρ).Nodup
 raw:∀(i:Nat)(a:aa)(o:de)(x:af),ρ[i]?=a3 (.raw a o x)->σ[i]?=a3 (a3 (.ref a))/\del H (owns ρ) a=a3 (.frz o (.own a))/\W.nsIn K au x=a3 (a3 o.cls)
 tb:TabOk K H
section
variable{K:k7m}{ρ ρ':Rho}{σ:St}{H H':Hp}{i:Nat}{d:D}{v:V}{a:aa}{ds ds':List D}{xs:List V}
theorem Rep.owned(R:Rep K ρ σ H):∀a∈owns ρ,∃xs,H a=a3 (.lst xs):=λa h=>by obtain⟨i,ds,e⟩:=Zo h;obtain⟨_,xs,q,_⟩:=R.own i a ds e;exact⟨xs,q⟩
theorem Rep.fresh(R:Rep K ρ σ H)(h:H a=a7):a∉owns ρ:=λz=>by obtain⟨xs,e⟩:=R.owned a z;rw[h]at e;cases e
theorem Rep.grow(R:Rep K ρ σ H)(g:j4 H H'):Rep K ρ σ H' :=
 ⟨R.len,λi d e=>let ⟨v,q,h⟩:=R.val i d e;⟨v,q,h.mono (jg g)⟩,λi a ds e=>let ⟨q,xs,h,l⟩:=R.own i a ds e;⟨q,xs,g _ _ h,l.mono (jg g)⟩,R.nd,λi a o x e=>let ⟨q,h,z⟩:=R.raw i a o x e;⟨q,jg g _ _ h,z⟩,R.tb.mono g⟩
theorem getElem?_set_of{α:Type}{l:List α}{i j:Nat}{x y:α}(h:(l.set i x)[j]?=a3 y):(i=j/\y=x/\i<l.length)\/(i≠j/\l[j]?=a3 y):=by
 rw[cX]at h;split at h
 .rename_i e;subst e;split at h
  .rename_i z;cases h;exact .inl ⟨rfl,rfl,z⟩
  .cases h
 .rename_i e;exact .inr ⟨e,h⟩
theorem Uj{α:Type}{l:List α}{i:Nat}{x:α}(h:i<l.length):(l.set i x)[i]?=a3 x:=by simp[h]
theorem zg{α:Type}{l:List α}{i j:Nat}{x:α}(h:i≠j):(l.set i x)[j]?=l[j]?:=by simp[h]
theorem Rep.set_val(R:Rep K ρ σ H)(e:Enc K (del H (owns ρ)) d v):Rep K (ρ.set i (.val d)) (σ.set i (a3 v)) H:=by
 have sub:(owns (ρ.set i (.val d))).Sublist (owns ρ):=jf rfl;have g:j4 (del H (owns ρ)) (del H (owns (ρ.set i (.val d)))):=zx λb hb=>sub.subset hb;refine⟨by simp[R.len],λj d' h=>?_,λj a ds h=>?_,sub.nodup R.nd,λj a o x h=>?_,R.tb⟩
 .rcases getElem?_set_of h with ⟨rfl,z,hl⟩|⟨n,h⟩
  .cases z;exact⟨v,Uj (by rw[R.len];exact hl),e.mono g⟩
  .obtain⟨u,q,h⟩:=R.val j d' h;exact⟨u,by rw[zg n];exact q,h.mono g⟩
 .rcases getElem?_set_of h with ⟨rfl,z,_⟩|⟨n,h⟩
  .cases z
  .obtain⟨q,xs,h,l⟩:=R.own j a ds h;exact⟨by rw[zg n];exact q,xs,h,l.mono g⟩
 .rcases getElem?_set_of h with ⟨rfl,z,_⟩|⟨n,h⟩
  .cases z
  .obtain⟨q,h,z⟩:=R.raw j a o x h;exact⟨by rw[zg n];exact q,g _ _ h,z⟩
theorem Rep.set_un{v:Option V}(R:Rep K ρ σ H):Rep K (ρ.set i .un) (σ.set i v) H:=by
 have sub:(owns (ρ.set i .un)).Sublist (owns ρ):=jf rfl;have g:j4 (del H (owns ρ)) (del H (owns (ρ.set i .un))):=zx λb hb=>sub.subset hb;refine⟨by simp[R.len],λj d' h=>?_,λj a ds h=>?_,sub.nodup R.nd,λj a o x h=>?_,R.tb⟩
 .rcases getElem?_set_of h with ⟨rfl,z,hl⟩|⟨n,h⟩
  .cases z
  .obtain⟨u,q,h⟩:=R.val j d' h;exact⟨u,by rw[zg n];exact q,h.mono g⟩
 .rcases getElem?_set_of h with ⟨rfl,z,_⟩|⟨n,h⟩
  .cases z
  .obtain⟨q,xs,h,l⟩:=R.own j a ds h;exact⟨by rw[zg n];exact q,xs,h,l.mono g⟩
 .rcases getElem?_set_of h with ⟨rfl,z,_⟩|⟨n,h⟩
  .cases z
  .obtain⟨q,h,z⟩:=R.raw j a o x h;exact⟨by rw[zg n];exact q,g _ _ h,z⟩
theorem Rep.set_own(R:Rep K ρ σ H)(g:j4 H H')(ha:H a=a7)(e:H' a=a3 (.lst xs))(l:j5 K (del H' (a::owns ρ)) ds xs):Rep K (ρ.set i (.own a ds)) (σ.set i (a3 (.ref a))) H':=by
 have na:=R.fresh ha;obtain⟨nd,sub⟩:=J8 (ds:=ds) (i:=i) R.nd na;have g1:j4 (del H' (a::owns ρ)) (del H' (owns (ρ.set i (.own a ds)))):=zx λb hb=>by
  rcases sub b hb with e|z
  .exact e▸xm ..
  .exact xf _ z
 have g2:j4 (del H (owns ρ)) (del H' (a::owns ρ)):=λb o q=>by
  obtain⟨n,q⟩:=of_del q;rw[j6];exact g b o q;intro z;rcases xr.mp z with e|z
  .subst e;rw[ha]at q;cases q
  .exact n z
 refine⟨by simp[R.len],λj d' h=>?_,λj b ds' h=>?_,nd,λj b o x h=>?_,R.tb.mono g⟩
 .rcases getElem?_set_of h with ⟨rfl,z,hl⟩|⟨n,h⟩
  .cases z
  .obtain⟨u,q,h⟩:=R.val j d' h;exact⟨u,by rw[zg n];exact q,h.mono (g2.trans g1)⟩
 .rcases getElem?_set_of h with ⟨rfl,z,hl⟩|⟨n,h⟩
  .cases z;exact⟨Uj (by rw[R.len];exact hl),xs,e,l.mono g1⟩
  .obtain⟨q,ys,h,l⟩:=R.own j b ds' h;exact⟨by rw[zg n];exact q,ys,g _ _ h,l.mono (g2.trans g1)⟩
 .rcases getElem?_set_of h with ⟨rfl,z,hl⟩|⟨n,h⟩
  .cases z
  .obtain⟨q,h,z⟩:=R.raw j b o x h;exact⟨by rw[zg n];exact q,g1 _ _ (g2 _ _ h),z⟩
theorem Rep.upd_own(R:Rep K ρ σ H)(h:ρ[i]?=a3 (.own a ds))(l:j5 K (del H (owns ρ)) ds' xs):Rep K (ρ.set i (.own a ds')) σ (upd H a (.lst xs)):=by
 have eo:owns (ρ.set i (.own a ds'))=owns ρ:=V0 h;have ed:del (upd H a (.lst xs)) (owns ρ)=del H (owns ρ):=Yp (Js h);refine⟨by simp[R.len],λj d' q=>?_,λj b l' q=>?_,by rw[eo];exact R.nd,λj b o x q=>?_,let ⟨_,_,z,_⟩:=R.own i a ds h;R.tb.upd z λ_ y=>by cases y⟩
 .rw[eo,ed];rcases getElem?_set_of q with ⟨_,z,_⟩|⟨n,q⟩
  .cases z
  .exact R.val j d' q
 .rw[eo,ed];rcases getElem?_set_of q with ⟨rfl,z,_⟩|⟨n,q'⟩
  .cases z;exact⟨(R.own i a ds h).1,xs,j9,l⟩
  .obtain⟨z,ys,y,l''⟩:=R.own j b l' q';refine⟨z,ys,?_,l''⟩;have nb:b≠a:=λe=>n (Vk R.nd h (e▸q'));rw[ji nb];exact y
 .rw[eo,ed];rcases getElem?_set_of q with ⟨_,z,_⟩|⟨n,q⟩
  .cases z
  .exact R.raw j b o x q
theorem Rep.freeze(R:Rep K ρ σ H)(h:ρ[i]?=a3 (.own a ds)):Rep K (ρ.set i (.val (.lst ds))) σ H:=by
 obtain⟨hs,xs,hx,l⟩:=R.own i a ds h;have sub:(owns (ρ.set i (.val (.lst ds)))).Sublist (owns ρ):=jf rfl;have g:j4 (del H (owns ρ)) (del H (owns (ρ.set i (.val (.lst ds))))):=zx λb hb=>sub.subset hb;have na:a∉owns (ρ.set i (.val (.lst ds))):=λz=>by
  obtain⟨j,l',q⟩:=Zo z;rcases getElem?_set_of q with ⟨_,z,_⟩|⟨n,q⟩
  .cases z
  .exact n (Vk R.nd h q)
 refine⟨by simp[R.len],λj d' q=>?_,λj b l' q=>?_,sub.nodup R.nd,λj b o x q=>?_,R.tb⟩
 .rcases getElem?_set_of q with ⟨rfl,z,_⟩|⟨n,q⟩
  .cases z;exact⟨_,hs,a,xs,rfl,.inl (.inl (by rw[j6 na];exact hx)),l.mono g⟩
  .obtain⟨u,q,h⟩:=R.val j d' q;exact⟨u,q,h.mono g⟩
 .rcases getElem?_set_of q with ⟨rfl,z,_⟩|⟨n,q⟩
  .cases z
  .obtain⟨q,ys,h,l⟩:=R.own j b l' q;exact⟨q,ys,h,l.mono g⟩
 .rcases getElem?_set_of q with ⟨_,z,_⟩|⟨n,q⟩
  .cases z
  .obtain⟨q,h,z⟩:=R.raw j b o x q;exact⟨q,g _ _ h,z⟩
end
def DE(X:Cx)(ρ:Rho)(e:ai)(d:D):Prop:=∀σ H Q,Rep X.K ρ σ H->(∀v H',j4 H H'->Enc X.K (del H' (owns ρ)) d v->Q v H')->Q6 X e σ H Q
def DT(X:Cx)(ρ:Rho)(e:ai)(d:D):Prop:=∀σ H Q,Rep X.K ρ σ H->(∀v H',j4 H H'->Enc X.K H' d v->Q v H')->Q6 X e σ H Q
def DO(X:Cx)(ρ:Rho)(e:ai)(ds:List D):Prop:=∀σ H Q,Rep X.K ρ σ H->(∀a xs H',j4 H H'->H a=a7->H' a=a3 (.lst xs)->j5 X.K (del H' (a::owns ρ)) ds xs->Q (.ref a) H')->Q6 X e σ H Q
def DL(X:Cx)(ρ:Rho)(e:ai)(ds:List D):Prop:=∀σ H Q,Rep X.K ρ σ H->(∀a xs H',j4 H H'->H' a=a3 (.lst xs)->j5 X.K (del H' (owns ρ)) ds xs->Q (.ref a) H')->Q6 X e σ H Q
def DB(X:Cx)(ρ:Rho)(e:ai)(b:Bool):Prop:=∀σ H Q,Rep X.K ρ σ H->(∀H',j4 H H'->Q b H')->j4t X e σ H Q
def DA(X:Cx)(ρ:Rho)(es:List ai)(ds:List D):Prop:=∀σ H Q,Rep X.K ρ σ H->(∀vs H',j4 H H'->j5 X.K (del H' (owns ρ)) ds vs->Q vs H')->Ou X es σ H Q
def DTA(X:Cx)(ρ:Rho)(es:List ai)(ds:List D):Prop:=∀σ H Q,Rep X.K ρ σ H->(∀vs H',j4 H H'->j5 X.K H' ds vs->Q vs H')->Ou X es σ H Q
def j4s(X:Cx)(e:ai):TT:=λσ H Q=>∀whole pins s,Inv X pins σ H s->ao (aw X.prog X.w) X.A (eY e X.env whole) (TP X pins σ Q) X.xe s
theorem pwS{X:Cx}{e:ai}:PW X e (j4s X e):=λwhole pins s _ _ _ I h=>h whole pins s I
theorem PW.to{X:Cx}{e:ai}{t:TT}{σ:St}{H:Hp}(h:PW X e t){Q:Bool->Hp->Prop}(q:t σ H Q):j4s X e σ H Q:=λwhole pins s I=>h whole pins s σ H Q I q
def DW(X:Cx)(ρ:Rho)(e:ai)(b:Bool):Prop:=∀σ H Q,Rep X.K ρ σ H->(∀H',j4 H H'->Q b H')->j4s X e σ H Q
mutual
noncomputable def Jy:D->Bool
 |.lst _=>a4
 |.dct _ _=>a4
 |.sct _=>a4
 |.fn _ _=>a4
 |.tup ds=>z9 ds
 |_=>a6
noncomputable def z9:List D->Bool
 |[]=>a6
 |d::ds=>Jy d&&z9 ds
end
mutual
theorem Enc.hide{K:k7m}{H:Hp}{A:List aa}(hA:∀a∈A,Hd (H a)):∀{d:D}{v:V},Jy d=a6->Enc K H d v->Enc K (del H A) d v
 |.non,_,_,h=>h
 |.bl _,_,_,h=>h
 |.int _,_,_,h=>h
 |.str _,_,_,h=>h
 |.lst _,_,n,_=>by cases n
 |.dct _ _,_,n,_=>by cases n
 |.sct _,_,n,_=>by cases n
 |.fn _ _,_,n,_=>by cases n
 |.tup ds,_,n,⟨a,xs,e,q,l⟩=>by
  refine⟨a,xs,e,?_,j5.hide hA (by simpa [Jy]using n) l⟩;have out:∀{o:HO},H a=a3 o->(∀ys,o≠.lst ys)->(∀ys ep,o≠.dI ys ep)->del H A a=a3 o:=λ{o} h z z2=>by
   rw[j6];exact h;intro y;rcases hA a y with ⟨ys,e'⟩|⟨ys,ep,e'⟩
   .rw[h]at e';cases e';exact z ys rfl
   .rw[h]at e';cases e';exact z2 ys ep rfl
  rcases q with (q|⟨o,q⟩)|q
  .exact .inl (.inl (out q (λ_ z=>by cases z) λ_ _ z=>by cases z))
  .exact .inl (.inr ⟨o,out q (λ_ z=>by cases z) λ_ _ z=>by cases z⟩)
  .exact .inr q
theorem j5.hide{K:k7m}{H:Hp}{A:List aa}(hA:∀a∈A,Hd (H a)):∀{ds:List D}{xs:List V},z9 ds=a6->j5 K H ds xs->j5 K (del H A) ds xs
 |[],_,_,h=>h
 |d::ds,_,n,⟨x,r,e,h,l⟩=>by
  have n':Jy d=a6/\z9 ds=a6:=by simpa [z9]using n
  exact⟨x,r,e,Enc.hide hA n'.1 h,j5.hide hA n'.2 l⟩
end
section
variable{X:Cx}{ρ:Rho}{e a b c:ai}{es:List ai}{d da db:D}{ds ds':List D}{i j:Int}{pos:aG}{k:Nat}{x:af}
theorem DE.toT(h:DE X ρ e d):DT X ρ e d:=λσ H Q R q=>h σ H Q R λv H' g l=>q v H' g (l.mono jo)
theorem DT.toE(h:DT X ρ e d)(n:Jy d=a6:=by rfl):DE X ρ e d:=λσ H Q R q=>h σ H Q R λv H' g l=>q v H' g (l.hide (λa ha=>.inl ((R.grow g).owned a ha)) n)
theorem DO.toL(h:DO X ρ e ds):DL X ρ e ds:=λσ H Q R q=>h σ H Q R λa xs H' g n m l=>q a xs H' g m (l.mono (zx λb hb=>xf _ hb))
theorem DO.toE(h:DO X ρ e ds):DE X ρ e (.lst ds):=λσ H Q R q=>h σ H Q R λa xs H' g n m l =>q _ H' g ⟨a,xs,rfl,.inl (.inl (by rw[j6 (R.fresh n)];exact m)),l.mono (zx λb hb=>xf _ hb)⟩
theorem DL.toT(h:DL X ρ e ds):DT X ρ e (.lst ds):=λσ H Q R q=>h σ H Q R λa xs H' g m l=>q _ H' g ⟨a,xs,rfl,.inl (.inl m),l.mono jo⟩
theorem DW.toB{k:Bool}(h:DW X ρ e k):DB X ρ e k:=λσ H Q R q pins s I=>h σ H Q R q _ pins s I
theorem DE.eq(h:DE X ρ e d){d':D}(q:d=d'):DE X ρ e d':=q▸h
theorem DB.eq{b b':Bool}(h:DB X ρ e b)(q:b=b'):DB X ρ e b':=q▸h
end
section
variable{X:Cx}{ρ:Rho}{e a b c:ai}{es:List ai}{d da db:D}{ds ds':List D}{i j:Int}{pos p:aG}{k:Nat}{x:af}
theorem DE.var(k:Nat)(h:ρ[k]?=a3 (.val d))(hN:X.N[k]?=a3 x:=by rfl)(hv:Vis X.env.scope x:=by first|exact aY rfl|exact bu (aY rfl)|exact bu (bu rfl))
  (hd:(x==k7q)=a4:=by decide) (hcd:(x==k7r)=a4:=by decide):DE X ρ (.Name x pos) d:=λσ H Q R q=>by
 obtain⟨v,hs,en⟩:=R.val k d h;exact(Qa hN hv hd hcd).to ⟨v,hs,q v H (j4.refl H) en⟩
theorem DL.var(k:Nat){l:aa}(h:ρ[k]?=a3 (.own l ds))(hN:X.N[k]?=a3 x:=by rfl)(hv:Vis X.env.scope x:=by first|exact aY rfl|exact bu (aY rfl)|exact bu (bu rfl))
  (hd:(x==k7q)=a4:=by decide) (hcd:(x==k7r)=a4:=by decide):DL X ρ (.Name x pos) ds:=λσ H Q R q=>by
 obtain⟨hs,xs,m,en⟩:=R.own k l ds h;exact(Qa hN hv hd hcd).to ⟨_,hs,q l xs H (j4.refl H) m en⟩
theorem DE.glob {u:a8} {v:V} (hg:Gl X x) (hm:X.mg x=a3 u) (r:RelV v u) (h:∀H,Enc X.K H d v) (hd:(x==k7q)=a4:=by decide):DE X ρ (.Name x pos) d :=
 λσ H Q R q=>(j8s hg hm r hd).to (q v H (j4.refl H) (h _))
theorem DE.int{i:Int}{n:Nat}{pos:aG}:DE X ρ (.Constant (.int i) n pos) (.int i):=λσ H Q R q=>jbo.to (q _ H (j4.refl H) rfl)
theorem DE.bl{b:Bool}{n:Nat}:DE X ρ (.Constant (.bool b) n pos) (.bl b):=λσ H Q R q=>jex.to (q _ H (j4.refl H) rfl)
theorem DE.non{n:Nat}:DE X ρ (.Constant .none n pos) .non:=λσ H Q R q=>j2s.to (q _ H (j4.refl H) rfl)
theorem DE.str{y:af}{n:Nat}:DE X ρ (.Constant (.str y) n pos) (.str y):=λσ H Q R q=>j2q.to (q _ H (j4.refl H) rfl)
theorem DE.arI0{op:iN}{g:Int->Int->Int}(ho:OpR X (aV op) (rI0 λi j=>.int (g i j)))(ha:DT X ρ a (.int i))(hb:DT X ρ b (.int j)):DE X ρ (.BinOp a op b pos) (.int (g i j)):=λσ H Q R q =>(Y0 ho peS peS).to (ha σ H _ R λv H1 g1 e1=>hb σ H1 _ (R.grow g1) λu H2 g2 e2=>⟨i,j,e1,e2,q _ H2 (g1.trans g2) rfl⟩)
theorem DE.arI{op:iN}{C:Int->Int->Prop}{g:Int->Int->Int}(ho:OpR X (aV op) (rI C λi j=>.int (g i j)))(ha:DT X ρ a (.int i))(hb:DT X ρ b (.int j))(hC:C i j):DE X ρ (.BinOp a op b pos) (.int (g i j)):=λσ H Q R q =>(Y0 ho peS peS).to (ha σ H _ R λv H1 g1 e1=>hb σ H1 _ (R.grow g1) λu H2 g2 e2=>⟨i,j,e1,e2,hC,q _ H2 (g1.trans g2) rfl⟩)
theorem DE.add(ha:DT X ρ a (.int i))(hb:DT X ρ b (.int j)):DE X ρ (.BinOp a .Add b pos) (.int (i+j)):=DE.arI0 jc0 ha hb
theorem DE.sub(ha:DT X ρ a (.int i))(hb:DT X ρ b (.int j)):DE X ρ (.BinOp a .Sub b pos) (.int (i-j)):=DE.arI0 jbs ha hb
theorem DE.mul(ha:DT X ρ a (.int i))(hb:DT X ρ b (.int j))(h:j1z i j):DE X ρ (.BinOp a .Mult b pos) (.int (i*j)):=DE.arI jbx ha hb h
theorem DE.mod(ha:DT X ρ a (.int i))(hb:DT X ρ b (.int j))(h:0<j):DE X ρ (.BinOp a .Mod b pos) (.int (i%j)):=DE.arI jby ha hb h
theorem DE.pow(ha:DT X ρ a (.int i))(hb:DT X ρ b (.int j))(h:j1y i j):DE X ρ (.BinOp a .Pow b pos) (.int (i^j.toNat)):=DE.arI jbw ha hb h
theorem DE.shl(ha:DT X ρ a (.int i))(hb:DT X ρ b (.int j))(h:j1y i j):DE X ρ (.BinOp a .LShift b pos) (.int (i*2^j.toNat)):=DE.arI (g:=λi j=>i*2^j.toNat) jbu ha hb h
theorem DE.cmpI{op:fj}{g:Int->Int->Bool}(ho:OpR X (aI op) (rI0 λi j=>.bl (g i j)))(hm:aE op b=a4)(ha:DT X ρ a (.int i))(hb:DT X ρ b (.int j)):DE X ρ (.Compare a [op] [b] pos) (.bl (g i j)):=λσ H Q R q =>(J7 ho peS peS hm).to (ha σ H _ R λv H1 g1 e1=>hb σ H1 _ (R.grow g1) λu H2 g2 e2=>⟨i,j,e1,e2,q _ H2 (g1.trans g2) rfl⟩)
theorem DB.cmpI{op:fj}{g:Int->Int->Bool}(ho:OpR X (aI op) (rI0 λi j=>.bl (g i j)))(hm:aE op b=a4)(ha:DT X ρ a (.int i))(hb:DT X ρ b (.int j)):DB X ρ (.Compare a [op] [b] pos) (g i j):=λσ H Q R q =>(Jl ho peS peS hm).to (ha σ H _ R λv H1 g1 e1=>hb σ H1 _ (R.grow g1) λu H2 g2 e2=>⟨i,j,e1,e2,_,rfl,q H2 (g1.trans g2)⟩)
theorem DB.lt(ha:DT X ρ a (.int i))(hb:DT X ρ b (.int j)):DB X ρ (.Compare a [.Lt] [b] pos) (decide (i<j)):=DB.cmpI Dk (qz _) ha hb
theorem DB.le(ha:DT X ρ a (.int i))(hb:DT X ρ b (.int j)):DB X ρ (.Compare a [.LtE] [b] pos) (decide (i<=j)):=DB.cmpI j7f (qz _) ha hb
theorem DB.gt(ha:DT X ρ a (.int i))(hb:DT X ρ b (.int j)):DB X ρ (.Compare a [.Gt] [b] pos) (decide (j<i)):=DB.cmpI j7g (qz _) ha hb
theorem DB.ge(ha:DT X ρ a (.int i))(hb:DT X ρ b (.int j)):DB X ρ (.Compare a [.GtE] [b] pos) (decide (j<=i)):=DB.cmpI j7h (qz _) ha hb
theorem DE.lt(ha:DT X ρ a (.int i))(hb:DT X ρ b (.int j)):DE X ρ (.Compare a [.Lt] [b] pos) (.bl (decide (i<j))):=DE.cmpI Dk (qz _) ha hb
theorem DE.le(ha:DT X ρ a (.int i))(hb:DT X ρ b (.int j)):DE X ρ (.Compare a [.LtE] [b] pos) (.bl (decide (i<=j))):=DE.cmpI j7f (qz _) ha hb
theorem DE.gt(ha:DT X ρ a (.int i))(hb:DT X ρ b (.int j)):DE X ρ (.Compare a [.Gt] [b] pos) (.bl (decide (j<i))):=DE.cmpI j7g (qz _) ha hb
theorem DE.ge(ha:DT X ρ a (.int i))(hb:DT X ρ b (.int j)):DE X ρ (.Compare a [.GtE] [b] pos) (.bl (decide (j<=i))):=DE.cmpI j7h (qz _) ha hb
noncomputable def D.sc:D->Option V
 |.non=>a3 .non
 |.bl b=>a3 (.bl b)
 |.int i=>a3 (.int i)
 |.str x=>a3 (.str x)
 |_=>a7
theorem D.sc_enc{K:k7m}{H:Hp}{d:D}{u v:V}(h:d.sc=a3 u)(q:Enc K H d v):v=u:=by cases d<;>simp[D.sc]at h<;>subst h<;>exact q
theorem DE.eqS{u v:V}(ha:DT X ρ a da)(hb:DT X ρ b db)(h1:da.sc=a3 u:=by rfl)(h2:db.sc=a3 v:=by rfl)(h:Ov u v=a6:=by rfl):DE X ρ (.Compare a [.Eq] [b] pos) (.bl (decide (u=v))):=λσ H Q R q =>
 (J7 j7i peS peS (qz _)).to (ha σ H _ R λx H1 g1 e1=>hb σ H1 _ (R.grow g1) λy H2 g2 e2=>by
  cases D.sc_enc h1 e1;cases D.sc_enc h2 e2;exact⟨h,q _ H2 (g1.trans g2) rfl⟩)
theorem DE.neS{u v:V}(ha:DT X ρ a da)(hb:DT X ρ b db)(h1:da.sc=a3 u:=by rfl)(h2:db.sc=a3 v:=by rfl)(h:Ov u v=a6:=by rfl):DE X ρ (.Compare a [.NotEq] [b] pos) (.bl (!decide (u=v))):=λσ H Q R q =>
 (J7 j7e peS peS (qz _)).to (ha σ H _ R λx H1 g1 e1=>hb σ H1 _ (R.grow g1) λy H2 g2 e2=>by
  cases D.sc_enc h1 e1;cases D.sc_enc h2 e2;exact⟨h,q _ H2 (g1.trans g2) rfl⟩)
theorem DB.eqS{u v:V}(ha:DT X ρ a da)(hb:DT X ρ b db)(h1:da.sc=a3 u:=by rfl)(h2:db.sc=a3 v:=by rfl)(h:Ov u v=a6:=by rfl):DB X ρ (.Compare a [.Eq] [b] pos) (decide (u=v)):=λσ H Q R q =>
 (Jl j7i peS peS (qz _)).to (ha σ H _ R λx H1 g1 e1=>hb σ H1 _ (R.grow g1) λy H2 g2 e2=>by
  cases D.sc_enc h1 e1;cases D.sc_enc h2 e2;exact⟨h,_,rfl,q H2 (g1.trans g2)⟩)
theorem DB.neS{u v:V}(ha:DT X ρ a da)(hb:DT X ρ b db)(h1:da.sc=a3 u:=by rfl)(h2:db.sc=a3 v:=by rfl)(h:Ov u v=a6:=by rfl):DB X ρ (.Compare a [.NotEq] [b] pos) (!decide (u=v)):=λσ H Q R q =>
 (Jl j7e peS peS (qz _)).to (ha σ H _ R λx H1 g1 e1=>hb σ H1 _ (R.grow g1) λy H2 g2 e2=>by
  cases D.sc_enc h1 e1;cases D.sc_enc h2 e2;exact⟨h,_,rfl,q H2 (g1.trans g2)⟩)
theorem U7(i j:Int):decide (V.int i=V.int j)=decide (i=j):=by
 by_cases h:i=j
 .subst h;simp
 .rw[decide_eq_false h,decide_eq_false (λz=>h (V.int.inj z))]
theorem j06(i j:Bool):decide (V.bl i=V.bl j)=(i==j):=by cases i<;>cases j<;>rfl
theorem Ke(i j:af):decide (V.str i=V.str j)=decide (i=j):=by
 by_cases h:i=j
 .subst h;simp
 .rw[decide_eq_false h,decide_eq_false (λz=>h (V.str.inj z))]
theorem DE.eqI(ha:DT X ρ a (.int i))(hb:DT X ρ b (.int j)):DE X ρ (.Compare a [.Eq] [b] pos) (.bl (decide (i=j))):=(DE.eqS ha hb).eq (by rw[U7])
theorem DE.neI(ha:DT X ρ a (.int i))(hb:DT X ρ b (.int j)):DE X ρ (.Compare a [.NotEq] [b] pos) (.bl (!decide (i=j))):=(DE.neS ha hb).eq (by rw[U7])
theorem DB.eqI(ha:DT X ρ a (.int i))(hb:DT X ρ b (.int j)):DB X ρ (.Compare a [.Eq] [b] pos) (decide (i=j)):=(DB.eqS ha hb).eq (by rw[U7])
theorem DB.neI(ha:DT X ρ a (.int i))(hb:DT X ρ b (.int j)):DB X ρ (.Compare a [.NotEq] [b] pos) (!decide (i=j)):=(DB.neS ha hb).eq (by rw[U7])
theorem DE.neB{x y:Bool}(ha:DT X ρ a (.bl x))(hb:DT X ρ b (.bl y)):DE X ρ (.Compare a [.NotEq] [b] pos) (.bl (x != y)):=(DE.neS ha hb).eq (by rw[j06];rfl)
theorem DB.neB{x y:Bool}(ha:DT X ρ a (.bl x))(hb:DT X ρ b (.bl y)):DB X ρ (.Compare a [.NotEq] [b] pos) (x != y):=(DB.neS ha hb).eq (by rw[j06];rfl)
noncomputable def D.isNon:D->Bool
 |.non=>a6
 |_=>a4
theorem Uu{K:k7m}{H:Hp}{d:D}{v:V}(q:Enc K H d v):decide (v=V.non)=d.isNon:=by
 cases d with
 |non=>cases(show v=.non from q);rfl
 |bl b=>cases(show v=.bl b from q);rfl
 |int b=>cases(show v=.int b from q);rfl
 |str b=>cases(show v=.str b from q);rfl
 |tup l=>obtain⟨a,xs,e,_⟩:=q;subst e;rfl
 |lst l=>obtain⟨a,xs,e,_⟩:=q;subst e;rfl
 |dct ks l=>obtain⟨a,xs,ep,vs,e,_⟩:=q;subst e;rfl
 |sct k=>obtain⟨a,e,_⟩:=q;subst e;rfl
 |fn x l=>obtain⟨a,c,tx,cl,vs,e,_⟩:=q;subst e;rfl
theorem DE.isN{n:Nat}{p2:aG}(ha:DT X ρ a d):DE X ρ (.Compare a [.Is] [.Constant .none n p2] pos) (.bl d.isNon):=λσ H Q R q =>(jbp (j2t peS)).to (ha σ H _ R λx H1 g1 e1=>q _ H1 g1 (by rw[Uu e1];rfl))
theorem DB.isN{n:Nat}{p2:aG}(ha:DT X ρ a d):DB X ρ (.Compare a [.Is] [.Constant .none n p2] pos) d.isNon:=λσ H Q R q =>(jbi (j2t peS)).to (ha σ H _ R λx H1 g1 e1=>⟨_,rfl,by rw[Uu e1];exact q H1 g1⟩)
theorem DB.val{k:Bool}(ha:DT X ρ a (.bl k))(he:∀whole,eY a X.env whole=(do let v <-whole;jK a.pos;jM [v] (truthy v)):=by intro _;rfl):DB X ρ a k:=λσ H Q R q =>(jbg peS he).to (ha σ H _ R λx H1 g1 e1=>⟨_,e1,q H1 g1⟩)
theorem DW.or1{k:Bool}(ha:DB X ρ a k):DW X ρ (.BoolOp .Or [a] pos) k:=λσ H Q R q=>(jbf ptS).to (ha σ H Q R q)
theorem DW.or{k m:Bool}{rest:List ai}(ha:DB X ρ a k)(hb:k=a4->DW X ρ (.BoolOp .Or (b::rest) pos) m):DW X ρ (.BoolOp .Or (a::b::rest) pos) (k || m):=λσ H Q R q =>
 (jev ptS pwS).to (ha σ H _ R λH1 g1=>by
  cases k with
  |true=>exact j1h (q H1 g1)
  |false=>exact j1i (hb rfl σ H1 Q (R.grow g1) λH2 g2=>q H2 (g1.trans g2)))
theorem DB.not{k:Bool}(ha:DB X ρ a k):DB X ρ (.UnaryOp .Not a pos) (!k):=λσ H Q R q=>(jbh ptS).to (ha σ H _ R λH1 g1=>q H1 g1)
theorem DE.and{k m:Bool}{rest:List ai}(ha:DT X ρ a (.bl k))(hb:k=a6->DE X ρ (.BoolOp .And (b::rest) pos) (.bl m)):DE X ρ (.BoolOp .And (a::b::rest) pos) (.bl (k&&m)):=λσ H Q R q =>
 (jbq peS peS).to (ha σ H _ R λx H1 g1 e1=>⟨k,e1,by
  cases k with
  |false=>exact j1i (q _ H1 g1 rfl)
  |true=>exact j1h (hb rfl σ H1 Q (R.grow g1) λv H2 g2=>q v H2 (g1.trans g2))⟩)
theorem DE.ite{k:Bool}{d':D}(hc:DB X ρ c k)(ha:k=a6->DE X ρ a d)(hb:k=a4->DE X ρ b d'):DE X ρ (.IfExp c a b pos) (if k=a6 then d else d'):=λσ H Q R q =>
 (j59 ptS peS peS).to (hc σ H _ R λH1 g1=>by
  cases k with
  |true=>exact j1h (ha rfl σ H1 Q (R.grow g1) λv H2 g2 z=>q v H2 (g1.trans g2) (by rw[if_pos rfl];exact z))
  |false=>exact j1i (hb rfl σ H1 Q (R.grow g1) λv H2 g2 z=>q v H2 (g1.trans g2) (by rw[if_neg xj];exact z)))
theorem DA.nil:DA X ρ [] []:=λσ H Q R q=>jz.to (q [] H (j4.refl H) rfl)
theorem DA.cons(ha:DE X ρ a d)(hr:DA X ρ es ds)(hs:a9 (a::es) X.env=(a4,ay a X.env)::a9 es X.env:=by rfl):DA X ρ (a::es) (d::ds):=λσ H Q R q =>(jd peS paS hs).to (ha σ H _ R λv H1 g1 e1=>hr σ H1 _ (R.grow g1) λvs H2 g2 e2=>q _ H2 (g1.trans g2) ⟨v,vs,rfl,e1.mono (jg g2),e2⟩)
theorem DTA.nil:DTA X ρ [] []:=λσ H Q R q=>jz.to (q [] H (j4.refl H) rfl)
theorem DTA.cons(ha:DT X ρ a d)(hr:DTA X ρ es ds)(hs:a9 (a::es) X.env=(a4,ay a X.env)::a9 es X.env:=by rfl):DTA X ρ (a::es) (d::ds):=λσ H Q R q =>(jd peS paS hs).to (ha σ H _ R λv H1 g1 e1=>hr σ H1 _ (R.grow g1) λvs H2 g2 e2=>q _ H2 (g1.trans g2) ⟨v,vs,rfl,e1.mono g2,e2⟩)
theorem DE.tup{n:Nat}{x1}(h:DA X ρ es ds)(hl:ds.length<=aj:=by simp only[xn,T6];decide):DE X ρ (.Tuple es x1 pos) (.tup ds):=λσ H Q R q =>(j2p paS).to (h σ H _ R λvs H1 g1 e1=>⟨by rw[e1.length];exact hl,λp hp=>q _ _ (g1.trans (j7 hp)) ⟨p,vs,rfl,.inl (.inl (by rw[j6 ((R.grow g1).fresh hp)];exact j9)),e1.mono (jg (j7 hp))⟩⟩)
theorem DO.lst(h:DA X ρ es ds)(hl:ds.length<=aj:=by simp only[xn,T6];decide):DO X ρ (.List es pos) ds:=λσ H Q R q =>
 (jbm paS).to (h σ H _ R λvs H1 g1 e1=>⟨by rw[e1.length];exact hl,λp hp=>q p vs _ (g1.trans (j7 hp)) (g1.free hp) j9 (e1.mono λb o z=>by
  obtain⟨n,z⟩:=of_del z
  rw[j6];exact j7 hp b o z
  intro y
  rcases xr.mp y with y|y
  .subst y;rw[hp]at z;cases z
  .exact n y)⟩)
theorem j5.atI{K:k7m}{H:Hp}{xs:List V}(h:j5 K H ds xs)(q:atI ds i=a3 d):∃x,L2.atI xs i=a3 x/\Enc K H d x:=by
 unfold L2.atI at q ⊢;rw[h.length];cases z:ixN ds.length i with
 |none=>rw[z]at q;cases q
 |some k =>rw[z]at q;exact h.get q
noncomputable def cutD(ds:List D)(lo hi:Option Int):List D:=(ds.drop (HT.sIx ds.length 0 lo)).take (HT.sIx ds.length ds.length hi-HT.sIx ds.length 0 lo)
theorem j5.cut{K:k7m}{H:Hp}{xs:List V}(h:j5 K H ds xs)(lo hi:Option Int):j5 K H (cutD ds lo hi) (W2 xs lo hi):=by unfold cutD W2;rw[h.length];exact(h.drop _).take _
theorem U5{K:k7m}{H1:Hp}{A:List aa}{ds:List D}{xs:List V}{p:aa}{o:HO}(hp:H1 p=a7)(e1:j5 K (del H1 A) ds xs):j5 K (del (upd H1 p o) (p::A)) ds xs:=e1.mono λb o z=>by
 obtain⟨n,z⟩:=of_del z;rw[j6];exact j7 hp b o z;intro y;rcases xr.mp y with y|y
 .subst y;rw[hp]at z;cases z
 .exact n y
theorem DO.rep(ha:DL X ρ a ds)(hb:DT X ρ b (.int i))(h1:-(2^63)<=i)(h2:i<2^63)(hl:ds.length*i.toNat<=aj):DO X ρ (.BinOp a .Mult b pos) (ak i.toNat ds).flatten:=λσ H Q R q =>
 (Y0 jbv peS peS).to (ha σ H _ R λl xs H1 g1 m1 e1=>hb σ H1 _ (R.grow g1) λu H2 g2 e2 =>
  ⟨l,i,xs,rfl,e2,g2 _ _ m1,h1,h2,by rw[e1.length];exact hl,λp hp=>q p _ _ ((g1.trans g2).trans (j7 hp)) ((g1.trans g2).free hp) j9 (U5 hp ((e1.mono (jg g2)).rep _))⟩)
theorem DE.lenT (ha:DT X ρ a (.tup ds)) (hm:X.mg "len" = a7) (hg:Gl X "len":=by rfl) (hs:a9 [a] X.env=[(a4,ay a X.env)]:=by rfl) {p2:aG}:DE X ρ (.Call (.Name "len" p2) [a] [] pos) (.int ds.length):=λσ H Q R q =>(v6 W4 hg hm fi (jd peS jz hs) (by decide) (by decide) hs).to (ha σ H _ R λv H1 g1 ⟨l,xs,e,sq,en⟩=>⟨l,xs,by rw[e],.inr sq,q _ H1 g1 (by rw[en.length];rfl)⟩)
theorem DE.lenL (ha:DT X ρ a (.lst ds)) (hm:X.mg "len" = a7) (hg:Gl X "len":=by rfl) (hs:a9 [a] X.env=[(a4,ay a X.env)]:=by rfl) {p2:aG}:DE X ρ (.Call (.Name "len" p2) [a] [] pos) (.int ds.length):=λσ H Q R q =>(v6 W4 hg hm fi (jd peS jz hs) (by decide) (by decide) hs).to (ha σ H _ R λv H1 g1 ⟨l,xs,e,sq,en⟩=>⟨l,xs,by rw[e],.inl sq,q _ H1 g1 (by rw[en.length];rfl)⟩)
end
def framed(sp:Sp):Sp:=λvs H Q E=>∃A:List aa,(∀a∈A,∃xs,H a=a3 (.lst xs))/\sp vs (del H A) (λv F=>(∀a∈A,F a=a7)->Q v (mrg A H F)) E
theorem FnOk.framed{P:aq}{w:ax}{K:k7m}{mg:k7p}{base:aB}{k:Nat}{f:aa}{fd:aH}{ps:List af}{sp:Sp}(F:FnOk P w K mg base CX0 k f fd ps sp) :
  FnOk P w K mg base CX0 k f fd ps (framed sp) where
 len:=λvs H Q E ⟨A,_,h⟩=>F.len vs _ _ _ h
 run:=by
  rintro A0 outer s H args us vs Q E hr e0 hb rv ⟨A,hA,h⟩;have nd:∀{b:aa},H b=a7->del H A b=a7:=λ{b} q=>by
   by_cases z:b∈A
   .exact qx z
   .rw[j6 z];exact q
  have out:∀{b:aa}{o:HO},H b=a3 o->(∀ys,o≠.lst ys)->del H A b=a3 o:=λ{b o} q z=>by rw[j6];exact q;intro y;obtain⟨ys,e'⟩:=hA b y;rw[q]at e';cases e';exact z ys rfl
  have e1:Env0 P w K mg base A0 outer s (del H A):=⟨e0.frames,e0.mod,λb o q=>⟨(e0.bs b o q).1,nd (e0.bs b o q).2⟩,e0.bsz,e0.funs,λb hb=>nd (e0.frf b hb),
   λa o q=>by
    obtain⟨_,q⟩:=of_del q
    exact je.stay (e0.hok a o q) (λb u _ z=>z) (λb z=>out z λ_ y=>by cases y) (λb xs z=>out z λ_ y=>by cases y) (λb _ _ z=>out z λ_ y=>by cases y),e0.bare⟩
  refine bP (F.run A0 outer s (del H A) args us vs _ E hr e1 hb rv h) λr s' hq=>?_;cases r with
  |error e=>exact(show False from hq).elim
  |ok fl =>
   cases fl with
   |next=>exact(show False from hq).elim
   |brk=>exact(show False from hq).elim
   |cont=>exact(show False from hq).elim
   |ret u =>
    obtain⟨v,H',os,bare,un,hok',rel,q⟩:=(show CE outer P w (del H A) s _ u s' from hq)
    have kept:∀a∈A,∃o,s.heap.get? a=a3 o/\s'.heap.get? a=a3 o/\H' a=a7:=λa ha=>by
     obtain⟨xs,e⟩:=hA a ha;obtain⟨_,its,n,_,z⟩:=(show je P w H s.heap a (.lst xs)from e0.hok _ _ e)
     have nf:a∉frs outer:=λy=>by rw[e0.frf a y]at e;cases e
     exact⟨_,z,un.keep a _ z (qx ha) nf (by simp),un.free a _ z (qx ha) (by simp)⟩
    have hF:∀a∈A,H' a=a7:=λa ha=>let ⟨_,_,_,z⟩:=kept a ha;z;have outF:∀{b:aa}{o:HO},H' b=a3 o->b∉A:=λ{b o} e z=>by rw[hF b z]at e;cases e
    refine⟨v,mrg A H H',os,bare,?_,λa o e=>?_,rel,q hF⟩
    .exact{
      keep:=λb o e n=>un.keep b o e (nd n)
      slot:=λb o e n=>un.slot b o e (nd n)
      free:=λb o e n hx=>by
       by_cases z:b∈A
       .rw[vq z];exact n
       .rw[jj z];exact un.free b o e (nd n) hx
      there:=un.there
      tups:=λb xs e=>by
       have z:=un.tups b xs (out e λ_ y=>by cases y)
       rw[jj (outF z)];exact z
      frzs:=λb o u e=>by
       have z:=un.frzs b o u (out e λ_ y=>by cases y)
       rw[jj (outF z)];exact z
      tbls:=λb ps e=>by
       obtain⟨more,z⟩:=un.tbls b ps (out e λ_ y=>by cases y)
       exact⟨more,by rw[jj (outF z)];exact z⟩ }
    .by_cases z:a∈A
     .rw[vq z]at e;obtain⟨xs,e'⟩:=hA a z;rw[e']at e;cases e;obtain⟨hl,its,n,r,y⟩:=(show je P w H s.heap a (.lst xs)from e0.hok _ _ e')
      obtain⟨o',q1,q2,_⟩:=kept a z;rw[y]at q1;cases q1;exact⟨hl,its,n,r,q2⟩
     .rw[jj z]at e;refine je.stay (hok' a o e) (λb u _ q=>q) (λb q=>?_) (λb xs q=>?_) (λb _ _ q=>?_)
      .rw[jj (outF q)];exact q
      .rw[jj (outF q)];exact q
      .rw[jj (outF q)];exact q
def spP(K:k7m)(S:List D->D->Prop):Sp:=λvs H Q _=>∃A ds d,TabOk K H/\(∀a∈A,∃xs,H a=a3 (.lst xs))/\j5 K (del H A) ds vs/\S ds d/\∀v H',j4 H H'->Enc K (del H' A) d v->Q v H'
def spF(K:k7m)(S:List D->List D->Prop):Sp:=λvs H Q _=>∃A ds l,TabOk K H/\(∀a∈A,∃xs,H a=a3 (.lst xs))/\j5 K (del H A) ds vs/\S ds l /\
 ∀a xs H',j4 H H'->H a=a7->H' a=a3 (.lst xs)->j5 K (del H' (a::A)) l xs->Q (.ref a) H'
def jgc(K:k7m)(S:List D->D->Prop):Sp:=λvs H Q _=>∃ds d,TabOk K H/\j5 K H ds vs/\S ds d/\∀v H',j4 H H'->Enc K H' d v->Q v H'
def jgd(K:k7m)(S:List D->List D->Prop):Sp:=λvs H Q _=>∃ds l,TabOk K H/\j5 K H ds vs/\S ds l/\∀a xs H',j4 H H'->H a=a7->H' a=a3 (.lst xs)->j5 K (del H' [a]) l xs->Q (.ref a) H'
section
variable{P:aq}{w:ax}{K:k7m}{mg:k7p}{base:aB}{k:Nat}{f:aa}{fd:aH}{ps:List af}
theorem FnOk.toP{S:List D->D->Prop}(F:FnOk P w K mg base CX0 k f fd ps (jgc K S)):FnOk P w K mg base CX0 k f fd ps (spP K S) :=
 F.framed.imp λvs H Q E ⟨A,ds,d,tb,hA,en,hS,q⟩=>⟨A,hA,ds,d,tb.del hA,en,hS,λv F g e hF=>q v _ (Wz g) (by rw[Vc hF];exact e)⟩
theorem FnOk.toF{S:List D->List D->Prop}(F:FnOk P w K mg base CX0 k f fd ps (jgd K S)):FnOk P w K mg base CX0 k f fd ps (spF K S) :=
 F.framed.imp λvs H Q E ⟨A,ds,l,tb,hA,en,hS,q⟩=>⟨A,hA,ds,l,tb.del hA,en,hS,λa xs F g n e l' hF=>by
  have na:a∉A:=λz=>by rw[hF a z]at e;cases e
  refine q a xs _ (Wz g) (by rw[j6 na]at n;exact n) (by rw[jj na];exact e) (l'.mono λb o z=>?_)
  obtain⟨n1,z⟩:=of_del z
  have nb:b∉A:=λy=>by rw[hF b y]at z;cases z
  rw[j6,jj nb];exact z
  intro y
  rcases xr.mp y with y|y
  .exact n1 (by rw[y];exact xq.mpr rfl)
  .exact nb y⟩
end
noncomputable def jdg:List af:=["dearest_way","cost_on_whole","worst_table","worst_plan","foe_answer","whole_table","whole_plan","mean_price"]
noncomputable def kG(us ws:List a8):List a8:=match ws with
 |[w]=>us++[w]
 |_=>[]
noncomputable def kGV(vs zs:List V):List V:=match zs with
 |[z]=>vs++[z]
 |_=>[]
def Dfl(K:k7m)(x:af)(fd:aH)(ps:List af):Prop:=x∈jdg->Binds K fd ps [.none]/\KBinds K fd ps ["prices"] kG kGV
structure Cal(X:Cx)(x:af)(sp:Sp):Prop where
 ex:∃(k:Nat)(f:aa)(fd:aH)(ps:List af),FnOk X.prog X.w X.K X.mg X.base CX0 k f fd ps sp/\Room (k+1) X.A/\X.mg x=a3 (.ref f)/\W.keepIn X.K (.ref f)=a6/\Binds X.K fd ps []/\Dfl X.K x fd ps
section
variable{X:Cx}{ρ:Rho}{e a:ai}{es:List ai}{d:D}{ds l:List D}{pos p:aG}{x:af}
theorem DE.call{S:List D->D->Prop}(c:Cal X x (spP X.K S))(ha:DA X ρ (e::es) ds)(hS:S ds d)(hg:Gl X x:=by rfl)(hdb:(x==k7q)=a4:=by decide)
  (he:a9 (e::es) X.env=(a4,ay e X.env)::a9 es X.env:=by rfl) (hpl:(aP pos (a9 es X.env)).any (·.1)=a4:=by rfl):DE X ρ (.Call (.Name x p) (e::es) [] pos) d:=λσ H Q R q=>by
 obtain⟨k,f,fd,ps,F,hr,hm,hk,hb,_⟩:=c.ex;refine(Oz F (hr.mono (T4 _)) hg hm hk hb .nil j14 paS hdb he hpl).to (ha σ H _ R λvs H1 g1 e1=>?_);show spP X.K S (vs++[]) H1 Q E0;rw[Xp];exact⟨owns ρ,ds,d,R.tb.mono g1,(R.grow g1).owned,e1,hS,λv H2 g2 z=>q v H2 (g1.trans g2) z⟩
theorem DT.call{S:List D->D->Prop}(c:Cal X x (spP X.K S))(ha:DTA X ρ (e::es) ds)(hS:S ds d)(hg:Gl X x:=by rfl)(hdb:(x==k7q)=a4:=by decide)
  (he:a9 (e::es) X.env=(a4,ay e X.env)::a9 es X.env:=by rfl) (hpl:(aP pos (a9 es X.env)).any (·.1)=a4:=by rfl):DT X ρ (.Call (.Name x p) (e::es) [] pos) d:=λσ H Q R q=>by
 obtain⟨k,f,fd,ps,F,hr,hm,hk,hb,_⟩:=c.ex;refine(Oz F (hr.mono (T4 _)) hg hm hk hb .nil j14 paS hdb he hpl).to (ha σ H _ R λvs H1 g1 e1=>?_);show spP X.K S (vs++[]) H1 Q E0;rw[Xp];exact⟨[],ds,d,R.tb.mono g1,(λa h=>nomatch h),by rw[Jb];exact e1,hS,λv H2 g2 z=>q v H2 (g1.trans g2) (by rw[Jb]at z;exact z)⟩
theorem DO.call{S:List D->List D->Prop}(c:Cal X x (spF X.K S))(ha:DA X ρ (e::es) ds)(hS:S ds l)(hg:Gl X x:=by rfl)(hdb:(x==k7q)=a4:=by decide)
  (he:a9 (e::es) X.env=(a4,ay e X.env)::a9 es X.env:=by rfl) (hpl:(aP pos (a9 es X.env)).any (·.1)=a4:=by rfl):DO X ρ (.Call (.Name x p) (e::es) [] pos) l:=λσ H Q R q=>by
 obtain⟨k,f,fd,ps,F,hr,hm,hk,hb,_⟩:=c.ex;refine(Oz F (hr.mono (T4 _)) hg hm hk hb .nil j14 paS hdb he hpl).to (ha σ H _ R λvs H1 g1 e1=>?_);show spF X.K S (vs++[]) H1 Q E0;rw[Xp];exact⟨owns ρ,ds,l,R.tb.mono g1,(R.grow g1).owned,e1,hS,λa xs H2 g2 n m z=>q a xs H2 (g1.trans g2) (g1.free n) m z⟩
end
inductive Rt where
 |val (d:D)
 |fresh (ds:List D)
noncomputable def Rt.d:Rt->D
 |.val d=>d
 |.fresh l=>.lst l
structure Po where
 nx:Rho->Prop
 rt:Rt->Prop
 bk:Rho->Prop:=λ_=>False
 ct:Rho->Prop:=λ_=>False
 ex:af->Rho->Prop:=λ_ _=>False
structure Fl(N:aa->Prop)(H:Hp)(h:aB)(e:aa)(C:a8):Prop where
 new:∀b,N b->b≠e
 free:H e=a7
 obj:∃(oe:de)(vs:Array a8)(a0:a8),h.get? e=a3 oe/\oe.cls=C/\oe.data=.fields vs/\vs[0]?=a3 a0 /\
  (vs[1]?=a3 .none\/∃(T:aa)(oT:de)(ts:Array a8),vs[1]?=a3 (.ref T)/\T≠e/\h.get? T=a3 oT/\oT.data=.fields ts/\ts[3]?=a3 .none/\H T=a7/\∀b,N b->b≠T)
def Old(X:Cx)(pins:k7o)(b:aa):Prop:=(∃o,X.s₀.heap.get? b=a3 o/\b∉X.ex)\/(∃p∈X.pn++pins,p.1=b)\/b=X.env.locals\/∃x,X.env.cells.lookup x=a3 b
def Bs(X:Cx)(σ:St)(H:Hp)(x:af):Prop:=∀(pins:k7o) (H':Hp) (s':ae) (e:aa) (C:a8),Inv X pins σ H' s'->j4 H H'->X.mg x=a3 C->Fl (Old X pins) H' s'.heap e C->X.xe (.ref e) s'
def Fr0(ρ ρ':Rho)(H H':Hp):Prop:=j4 (del H (owns ρ)) (del H' (owns ρ'))
def Bt(K:k7m)(ρ:Rho)(H H':Hp)(v:V):Rt->Prop
 |.val d=>j4 (del H (owns ρ)) H'/\Enc K H' d v
 |.fresh ds=>∃a xs,v=.ref a/\j4 (del H (owns ρ)) (del H' [a])/\H' a=a3 (.lst xs)/\j5 K (del H' [a]) ds xs
structure EndsOk(X:Cx)(ρ:Rho)(H:Hp)(P:Po)(E:Ends):Prop where
 nx:∀ρ' σ' H',P.nx ρ'->Rep X.K ρ' σ' H'->Fr0 ρ ρ' H H'->E.nx σ' H'
 bk:∀ρ' σ' H',P.bk ρ'->Rep X.K ρ' σ' H'->Fr0 ρ ρ' H H'->E.bk σ' H'
 ct:∀ρ' σ' H',P.ct ρ'->Rep X.K ρ' σ' H'->Fr0 ρ ρ' H H'->E.ct σ' H'
 rt:∀r v H',P.rt r->Bt X.K ρ H H' v r->E.rt v H'
 ex:∀x ρ' σ' H',P.ex x ρ'->Rep X.K ρ' σ' H'->Fr0 ρ ρ' H H'->Bs X σ' H' x
theorem Bt.step{K:k7m}{ρ ρ1:Rho}{H H1 H':Hp}{v:V}{r:Rt}(f:Fr0 ρ ρ1 H H1)(h:Bt K ρ1 H1 H' v r):Bt K ρ H H' v r:=by
 cases r with
 |val d=>exact⟨f.trans h.1,h.2⟩
 |fresh ds=>obtain⟨a,xs,e,g,m,l⟩:=h;exact⟨a,xs,e,f.trans g,m,l⟩
theorem EndsOk.step{X:Cx}{ρ ρ1:Rho}{H H1:Hp}{P:Po}{E:Ends}(h:EndsOk X ρ H P E)(f:Fr0 ρ ρ1 H H1):EndsOk X ρ1 H1 P E :=
 ⟨λρ' σ' H' n R g=>h.nx ρ' σ' H' n R (f.trans g),λρ' σ' H' n R g=>h.bk ρ' σ' H' n R (f.trans g),λρ' σ' H' n R g=>h.ct ρ' σ' H' n R (f.trans g),λr v H' n g=>h.rt r v H' n (Bt.step f g),λx ρ' σ' H' n R g=>h.ex x ρ' σ' H' n R (f.trans g)⟩
theorem Fr0.grow{ρ:Rho}{H H':Hp}(g:j4 H H'):Fr0 ρ ρ H H':=jg g
theorem Fr0.refl(ρ:Rho)(H:Hp):Fr0 ρ ρ H H:=j4.refl _
theorem Fr0.drop{ρ ρ':Rho}{H:Hp}(h:∀b∈owns ρ',b∈owns ρ):Fr0 ρ ρ' H H:=zx h
theorem Fr0.new{ρ:Rho}{H H':Hp}{i:Nat}{a:aa}{ds:List D}{K:k7m}{σ:St}(R:Rep K ρ σ H)(g:j4 H H')(n:H a=a7):Fr0 ρ (ρ.set i (.own a ds)) H H':=λb o q=>by
 obtain⟨nb,q⟩:=of_del q;rw[j6];exact g b o q;intro z;rcases(J8 (ds:=ds) (i:=i) R.nd (R.fresh n)).2 b z with e|z
 .subst e;rw[n]at q;cases q
 .exact nb z
def DS(X:Cx)(ρ:Rho)(st:aW)(P:Po):Prop:=∀σ H E,Rep X.K ρ σ H->EndsOk X ρ H P E->j4u X st E σ H
def DSs(X:Cx)(ρ:Rho)(sts:List aW)(P:Po):Prop:=∀σ H E,Rep X.K ρ σ H->EndsOk X ρ H P E->Ma X sts E σ H
section
variable{X:Cx}{ρ:Rho}{e a b c:ai}{es:List ai}{st:aW}{rest sa sb body:List aW}{P:Po}{d:D}{ds ds':List D}{pos p p1 p2 p3:aG}{x:af}{i:Nat}
theorem DSs.nil(h:P.nx ρ):DSs X ρ [] P:=λσ H E R q=>j8n.to (q.nx ρ σ H h R (Fr0.refl ρ H))
theorem DSs.cons{N:Rho->Prop}(h1:DS X ρ st { P with nx:=N })(h2:∀ρ1,N ρ1->DSs X ρ1 rest P):DSs X ρ (st::rest) P:=λσ H E R q =>(Yv psS R8).to (h1 σ H { E with nx:=Ma X rest E } R ⟨λρ' σ' H' n R' f=>h2 ρ' n σ' H' E R' (q.step f),q.bk,q.ct,q.rt,q.ex⟩)
theorem DSs.freeze(i:Nat){l:aa}(h:ρ[i]?=a3 (.own l ds))(h2:DSs X (ρ.set i (.val (.lst ds))) body P):DSs X ρ body P:=λσ H E R q =>h2 σ H E (R.freeze h) (q.step (.drop λb hb=>(jf rfl).subset hb))
theorem DS.set(i:Nat)(he:DE X ρ e d)(h:P.nx (ρ.set i (.val d)))(hN:X.N.Nodup)(hi:X.N[i]?=a3 x:=by rfl)(hx:Loc X.env.scope x:=by first|exact aY rfl|exact bu rfl)
  (hs:aN e (a3 (.Name x p)) pos.line X.env=pure a4:=by rfl) (hf:X.fn x=a6\/X.env.scope.names.lookup x=a3 .local:=by first|exact .inl rfl|exact .inr rfl):DS X ρ (.Assign [.Name x p] e pos) P:=λσ H E R q =>
 (Yl hN hi hx peS hs hf).to (he σ H _ R λv H1 g1 e1=>q.nx _ _ H1 h ((R.grow g1).set_val e1) (j4.trans (Fr0.grow g1) (Fr0.drop λb hb=>(jf rfl).subset hb)))
theorem DS.setO(i:Nat)(he:DO X ρ e ds)(h:∀l,P.nx (ρ.set i (.own l ds)))(hN:X.N.Nodup)(hi:X.N[i]?=a3 x:=by rfl)(hx:Loc X.env.scope x:=by first|exact aY rfl|exact bu rfl)
  (hs:aN e (a3 (.Name x p)) pos.line X.env=pure a4:=by rfl) (hf:X.fn x=a6\/X.env.scope.names.lookup x=a3 .local:=by first|exact .inl rfl|exact .inr rfl):DS X ρ (.Assign [.Name x p] e pos) P:=λσ H E R q =>
 (Yl hN hi hx peS hs hf).to (he σ H _ R λl xs H1 g1 n m e1=>q.nx _ _ H1 (h l) (R.set_own g1 n m e1) (.new R g1 n))
theorem DS.if{k:Bool}(hc:DB X ρ c k)(ha:k=a6->DSs X ρ sa P)(hb:k=a4->DSs X ρ sb P):DS X ρ (.If c sa sb pos) P:=λσ H E R q =>
 (jew ptS R8 R8).to (hc σ H _ R λH1 g1=>by
  cases k with
  |true=>exact j1h (ha rfl σ H1 E (R.grow g1) (q.step (.grow g1)))
  |false=>exact j1i (hb rfl σ H1 E (R.grow g1) (q.step (.grow g1))))
theorem DS.ret(he:DT X ρ e d)(h:P.rt (.val d)):DS X ρ (.Return (a3 e) pos) P:=λσ H E R q =>(Um peS).to (he σ H _ R λv H1 g1 e1=>q.rt _ v H1 h ⟨jo.trans g1,e1⟩)
theorem DS.retO(he:DO X ρ e ds)(h:P.rt (.fresh ds)):DS X ρ (.Return (a3 e) pos) P:=λσ H E R q =>
 (Um peS).to (he σ H _ R λl xs H1 g1 n m e1=>q.rt _ _ H1 h ⟨l,xs,rfl,(λb o z=>by
  obtain⟨nb,z⟩:=of_del z
  rw[j6];exact g1 b o z
  intro y;rw[xq.mp y,n]at z;cases z),m,e1.mono (zx λb hb=>by rw[xq.mp hb];exact xm ..)⟩)
theorem DS.retV(k:Nat){l:aa}(hk:ρ[k]?=a3 (.own l ds))(h:P.rt (.fresh ds))(hN:X.N[k]?=a3 x:=by rfl)(hv:Vis X.env.scope x:=by first|exact aY rfl|exact bu (aY rfl)|exact bu (bu rfl))
  (hd:(x==k7q)=a4:=by decide) (hcd:(x==k7r)=a4:=by decide):DS X ρ (.Return (a3 (.Name x p)) pos) P:=λσ H E R q=>by
 obtain⟨hs,xs,m,en⟩:=R.own k l ds hk;have g:j4 (del H (owns ρ)) (del H [l]):=zx λb hb=>by rw[xq.mp hb];exact Js hk
 exact(Um (Qa hN hv hd hcd)).to ⟨_,hs,q.rt _ _ H h ⟨l,xs,rfl,g,m,en.mono g⟩⟩
theorem DS.expr(he:DT X ρ e d)(h:P.nx ρ)(hs:aN e a7 pos.line X.env=pure a4:=by rfl):DS X ρ (.Expr e pos) P:=λσ H E R q =>(W9 peS hs).to (he σ H _ R λv H1 g1 e1=>q.nx ρ σ H1 h (R.grow g1) (.grow g1))
theorem j3q{σ:St}{H H':Hp}{l:aa}{o:HO}(hk:ρ[i]?=a3 (.own l ds))(g:j4 H H'):Fr0 ρ (ρ.set i (.own l ds')) H (upd H' l o):=by unfold Fr0;rw[V0 hk,Yp (Js hk)];exact jg g
theorem DS.append(i:Nat){l:aa}(hk:ρ[i]?=a3 (.own l ds))(he:DE X ρ e d)(hl:ds.length<aj)(h:P.nx (ρ.set i (.own l (ds++[d]))))
  (hN:X.N[i]?=a3 x:=by rfl) (hv:Vis X.env.scope x:=by first|exact aY rfl|exact bu (aY rfl)|exact bu (bu rfl)) (hd:(x==k7q)=a4:=by decide) (hcd:(x==k7r)=a4:=by decide)
  (hst:a9 [e] X.env=[(a4,ay e X.env)]:=by rfl) (hline:(p1.endLine==p2.line)=a6:=by rfl)
  (hbase:aT (.Name x p) "append" X.env (ay (.Name x p) X.env)=ay (.Name x p) X.env:=by rfl) (hfew:((aP p2 (a9 [e] X.env)).all (λx=>!x.1)&&(bY p2 (b9 [] X.env)).all (λx=>x.1.isSome)
   && decide (([e]:List ai).length+([]:List b7).length+(if ([]:List b7).isEmpty then 0 else 1)<30))=a6:=by rfl)
  (hs:aN (.Call (.Attribute (.Name x p) "append" p1) [e] [] p2) a7 pos.line X.env=pure a4:=by rfl) :
  DS X ρ (.Expr (.Call (.Attribute (.Name x p) "append" p1) [e] [] p2) pos) P:=λσ H E R q=>by
 obtain⟨hσ,xs,m,en⟩:=R.own i l ds hk;refine(W9 (Ml cV gk PySem.F.type_list_append Nh (Qa hN hv hd hcd) (jd peS jz hst) hbase hfew hline hst rfl) hs).to ?_;refine⟨_,hσ,.inl ⟨rfl,xs,.inl (.inl m)⟩,he σ H _ R λv H1 g1 e1=>⟨l,xs,v,rfl,rfl,g1 _ _ m,by rw[en.length];exact hl,?_⟩⟩;exact q.nx _ σ _ h ((R.grow g1).upd_own hk ((en.mono (jg g1)).append (.one e1))) (j3q (σ:=σ) hk g1)
theorem DS.extend(i:Nat){l:aa}(hk:ρ[i]?=a3 (.own l ds))(he:DO X ρ e ds')(hl:ds.length+ds'.length<=aj)(h:P.nx (ρ.set i (.own l (ds++ds'))))
  (hN:X.N[i]?=a3 x:=by rfl) (hv:Vis X.env.scope x:=by first|exact aY rfl|exact bu (aY rfl)|exact bu (bu rfl)) (hd:(x==k7q)=a4:=by decide) (hcd:(x==k7r)=a4:=by decide)
  (hst:a9 [e] X.env=[(a4,ay e X.env)]:=by rfl) (hline:(p1.endLine==p2.line)=a6:=by rfl)
  (hbase:aT (.Name x p) "extend" X.env (ay (.Name x p) X.env)=ay (.Name x p) X.env:=by rfl) (hfew:((aP p2 (a9 [e] X.env)).all (λx=>!x.1)&&(bY p2 (b9 [] X.env)).all (λx=>x.1.isSome)
   && decide (([e]:List ai).length+([]:List b7).length+(if ([]:List b7).isEmpty then 0 else 1)<30))=a6:=by rfl)
  (hs:aN (.Call (.Attribute (.Name x p) "extend" p1) [e] [] p2) a7 pos.line X.env=pure a4:=by rfl) :
  DS X ρ (.Expr (.Call (.Attribute (.Name x p) "extend" p1) [e] [] p2) pos) P:=λσ H E R q=>by
 obtain⟨hσ,xs,m,en⟩:=R.own i l ds hk;refine(W9 (Ml cV gj PySem.F.type_list_extend j34 (Qa hN hv hd hcd) (jd peS jz hst) hbase hfew hline hst rfl) hs).to ?_;refine⟨_,hσ,.inl ⟨rfl,xs,.inl (.inl m)⟩,he σ H _ R λb ys H1 g1 n1 m1 e1=>⟨l,b,xs,ys,rfl,rfl,g1 _ _ m,m1,by rw[en.length,e1.length];exact hl,?_⟩⟩;exact q.nx _ σ _ h ((R.grow g1).upd_own hk ((en.mono (jg g1)).append (e1.mono (zx λc hc=>xf _ hc)))) (j3q (σ:=σ) hk g1)
def Yi(K:k7m)(F:Hp)(J:It)(ds:List D):Prop:=∀(i:Nat)(H:Hp)(A:List aa),j4 F (del H A)->(∀a∈A,H a≠a7) ->
 (i<ds.length->J.go i H)/\(ds.length<=i->J.stop i H)/\∀x H',J.yld i H x H'->j4 H H'/\∀d,ds[i]?=a3 d->Enc K (del H' A) d x
def DI(X:Cx)(ρ:Rho)(tg it:ai)(ds:List D):Prop:=∀σ H R,Rep X.K ρ σ H->(∀J H',j4 H H'->Yi X.K (del H' (owns ρ)) J ds->R J H')->Cv X tg it σ H R
variable{tg it:ai}
theorem j3h{K:k7m}{F:Hp}{l:aa}{xs:List V}(sq:SqL K F l xs)(en:j5 K F ds xs):Yi K F (Itl K l) ds:=λi H A g hA=>by
 have sq':SqL K H l xs:=jo.seq (g.seq sq);refine⟨λh=>?_,λh=>⟨xs,sq',by rw[en.length];exact h⟩,λx H' ⟨e,y⟩=>?_⟩
 .obtain⟨v,hv,_⟩:=en.get (kh h);exact⟨xs,v,sq',hv⟩
 .subst e;refine⟨j4.refl _,λd hd=>?_⟩;obtain⟨v,hv,ev⟩:=en.get hd;have e:=y xs sq';rw[hv]at e;cases e;exact ev.mono g
theorem j5q{K:k7m}{F:Hp}{l:aa}{xs:List V}(sq:SqT K F l xs)(en:j5 K F ds xs):Yi K F (Itt K l) ds:=λi H A g hA=>by
 have sq':SqT K H l xs:=jo.seqT (g.seqT sq);refine⟨λh=>?_,λh=>⟨xs,sq',by rw[en.length];exact h⟩,λx H' ⟨e,y⟩=>?_⟩
 .obtain⟨v,hv,_⟩:=en.get (kh h);exact⟨xs,v,sq',hv⟩
 .subst e;refine⟨j4.refl _,λd hd=>?_⟩;obtain⟨v,hv,ev⟩:=en.get hd;have e:=y xs sq';rw[hv]at e;cases e;exact ev.mono g
theorem DI.lst(h:DE X ρ it (.lst ds)):DI X ρ tg it ds:=λσ H R r q=>(j8r peS).to (h σ H _ r λv H1 g1 ⟨l,xs,e,sq,en⟩=>⟨l,e,⟨xs,jo.seq sq⟩,q _ H1 g1 (j3h sq en)⟩)
theorem DI.tup(h:DE X ρ it (.tup ds)):DI X ρ tg it ds:=λσ H R r q=>(jbl peS).to (h σ H _ r λv H1 g1 ⟨l,xs,e,sq,en⟩=>⟨l,e,⟨xs,jo.seqT sq⟩,q _ H1 g1 (j5q sq en)⟩)
noncomputable def upto(lo:Int)(n:Nat):List D:=(ar n).map λk=>D.int (lo+(k:Nat))
theorem Mu{K:k7m}{F:Hp}(lo:Int)(n:Nat):Yi K F (Itr lo n) (upto lo n):=λi H A g hA=>by
 have hl:(upto lo n).length=n:=by unfold upto;rw[kj,Xe]
 rw[hl];refine⟨λh=>h,λh=>h,λx H' ⟨e,y⟩=>?_⟩;subst e;refine⟨j4.refl _,λd hd=>?_⟩;unfold upto at hd;rw[xx]at hd;cases z:(ar n)[i]? with
 |none=>rw[z]at hd;cases hd
 |some k =>
  rw[z]at hd;have ek:k=i:=by have:=Xx (n:=n) (i:=i) (by have:=(X7.mp z).1;rwa [Xe]at this);rw[this]at z;exact(av z).symm
  subst ek;cases hd;exact y
theorem DI.range1 {n:Int} (h:DT X ρ a (.int n)) (hm:X.mg "range" = a7) (h1:-(2^62)<=n) (h2:n<2^62) (hg:Gl X "range":=by rfl) (hs:a9 [a] X.env=[(a4,ay a X.env)]:=by rfl):DI X ρ tg (.Call (.Name "range" p) [a] [] pos) (upto 0 n.toNat):=λσ H R r q =>(j2n hg hm (jd peS jz hs) hs).to (h σ H _ r λv H1 g1 e=>⟨n,by rw[show v=.int n from e],h1,h2,q _ H1 g1 (Mu 0 _)⟩)
theorem DI.range2 {m n:Int} (h:DT X ρ a (.int m)) (h':DT X ρ b (.int n)) (hm:X.mg "range" = a7) (h1:-(2^62)<=m) (h2:m<2^62) (h3:-(2^62)<=n) (h4:n<2^62) (hg:Gl X "range":=by rfl) (hs:a9 [a,b] X.env=[(a4,ay a X.env),(a4,ay b X.env)]:=by rfl)
  (hs2:a9 [b] X.env=[(a4,ay b X.env)]:=by rfl) (hs3:a9 [a,b] X.env=(a4,ay a X.env)::a9 [b] X.env:=by rfl):DI X ρ tg (.Call (.Name "range" p) [a,b] [] pos) (upto m (n-m).toNat):=λσ H R r q =>
 (j2m hg hm (jd peS (jd peS jz hs2) hs3) hs hs2).to (h σ H _ r λv H1 g1 e=>h' σ H1 _ (r.grow g1) λu H2 g2 e2=>⟨m,n,by rw[show v=.int m from e,show u=.int n from e2],⟨h1,h2,h3,h4⟩,q _ H2 (g1.trans g2) (Mu m _)⟩)
def j4v(X:Cx)(tg:ai):TG:=λv σ H Q=>∀pins s u,Inv X pins σ H s->RelV v u->ao (aw X.prog X.w) X.A (eA tg X.env u) (λ_ s'=>∃σ' H',Inv X pins σ' H' s'/\Q σ' H') X.xe s
theorem pgS:PG X tg (j4v X tg):=λpins s σ H v u Q I r h=>h pins s u I r
theorem PG.to{t:TG}{σ:St}{H:Hp}{v:V}{Q:St->Hp->Prop}(h:PG X tg t)(q:t v σ H Q):j4v X tg v σ H Q:=λpins s u I r=>h pins s σ H v u Q I r q
def DG(X:Cx)(ρ:Rho)(tg:ai)(d:D)(ρ':Rho):Prop:=(∀b∈owns ρ',b∈owns ρ)/\∀σ H v Q,Rep X.K ρ σ H->Enc X.K (del H (owns ρ)) d v->(∀σ',Rep X.K ρ' σ' H->Q σ' H)->j4v X tg v σ H Q
theorem DG.name(i:Nat)(hN:X.N.Nodup)(hi:X.N[i]?=a3 x:=by rfl)(hx:Loc X.env.scope x:=by first|exact aY rfl|exact bu rfl)(hf:X.fn x=a6\/X.env.scope.names.lookup x=a3 .local:=by first|exact .inl rfl|exact .inr rfl):DG X ρ (.Name x p) d (ρ.set i (.val d)) :=
 ⟨λb hb=>(jf rfl).subset hb,λσ H v Q R en q=>(Za hN hi hx hf).to (q _ (R.set_val en))⟩
theorem DS.for(W:Nat->Rho->Prop)(hi:DI X ρ tg it ds)(h0:W 0 ρ)(hs:∀i d ρ',ds[i]?=a3 d->W i ρ'->∃ρ2,DG X ρ' tg d ρ2/\DSs X ρ2 body { nx:=W (i+1),rt:=P.rt,bk:=P.nx,ct:=W (i+1),ex:=P.ex })
  (hd:∀ρ',W ds.length ρ'->P.nx ρ') (hc:X.calm=a6) (hp:fJ (aw X.prog X.w) X.A X.env X.xe) (hf:∀x,aD it X.env x=pure x:=by intro _;rfl):DS X ρ (.For tg it body [] pos) P:=λσ H E R q=>by
 refine(j2h hp hc piS pgS R8 hf).to (hi σ H _ R λJ H1 g1 ok=>?_);refine⟨λi m σ' H'=>∃ρ',W i ρ'/\Rep X.K ρ' σ' H'/\Fr0 ρ ρ' H1 H'/\m=ds.length-i/\i<=ds.length,⟨ds.length,ρ,h0,R.grow g1,Fr0.refl _ _,rfl,bU _⟩,?_⟩;rintro i m σ' H' ⟨ρ',w,R',f,rfl,hle⟩;obtain⟨go,stop,yld⟩:=ok i H' (owns ρ') f λa ha=>by obtain⟨xs,e⟩:=R'.owned a ha;rw[e];simp
 by_cases hlt:i<ds.length
 .refine .inr ⟨go hlt,λσ2 H2=>∃ρ2,W (i+1) ρ2/\Rep X.K ρ2 σ2 H2/\Fr0 ρ ρ2 H1 H2,λσ2 H2 ⟨ρ2,w2,R2,f2⟩=>⟨ds.length-(i+1),by omega,ρ2,w2,R2,f2,rfl,hlt⟩,λx H2 y=>?_⟩;obtain⟨g2,en⟩:=yld x H2 y;obtain⟨ρ2,⟨sub,hG⟩,hB⟩:=hs i ds[i] ρ' (kh hlt) w;refine hG σ' H2 x _ (R'.grow g2) (en _ (kh hlt)) λσ3 R3=>?_;have f2:Fr0 ρ ρ2 H1 H2:=j4.trans f (j4.trans (Fr0.grow g2) (Fr0.drop sub));refine hB σ3 H2 _ R3 ⟨λρ3 σ4 H4 n R4 f4=>⟨ρ3,n,R4,f2.trans f4⟩,λρ3 σ4 H4 n R4 f4=>q.nx ρ3 σ4 H4 n R4 ((Fr0.grow g1).trans (f2.trans f4)),λρ3 σ4 H4 n R4 f4=>⟨ρ3,n,R4,f2.trans f4⟩,λr v H4 n z=>q.rt r v H4 n (Bt.step ((Fr0.grow g1).trans f2) z),λx ρ3 σ4 H4 n R4 f4=>q.ex x ρ3 σ4 H4 n R4 ((Fr0.grow g1).trans (f2.trans f4))⟩
 .have e:i=ds.length:=by omega
  subst e;exact .inl ⟨stop (X3 _),q.nx ρ' σ' H' (hd ρ' w) R' ((Fr0.grow g1).trans f)⟩
end
noncomputable def qt(N:List af)(ds:List D):Rho:=ds.map Sl.val++ak (N.length-ds.length) Sl.un
theorem Zm(N:List af)(ds:List D):owns (qt N ds)=[]:=by
 unfold owns qt;rw[List.filterMap_append];have h1:(ds.map Sl.val).filterMap Sl.addr=[]:=List.filterMap_eq_nil_iff.mpr λs hs=>by obtain⟨d,_,rfl⟩:=X8.mp hs;rfl
 have h2:(ak (N.length-ds.length) Sl.un).filterMap Sl.addr=[]:=List.filterMap_eq_nil_iff.mpr λs hs=>by rw[(List.mem_replicate.mp hs).2];rfl
 rw[h1,h2];rfl
theorem Vy{K:k7m}{H:Hp}{N:List af}{ds:List D}{vs:List V}(tb:TabOk K H)(h:j5 K H ds vs):Rep K (qt N ds) (start N vs) H:=by
 have ho:=Zm N ds;have hl:=h.length;refine⟨by unfold qt start;simp[hl],λi d e=>?_,λi a l e=>?_,by rw[ho];exact fw,λi a o y e=>?_,tb⟩
 .rw[ho,Jb];unfold qt at e;by_cases z:i<ds.length
  .rw[Pn (by simpa using z),xx]at e;rw[kh z]at e;cases e;obtain⟨v,hv,en⟩:=h.get (kh z);refine⟨v,?_,en⟩;unfold start;rw[Pn (by rw[kj,hl];exact z),xx,hv];rfl
  .rw[cM (by simpa using z)]at e;have:=Xo e;cases(List.mem_replicate.mp this).2
 .have:=Js e;rw[ho]at this;cases this
 .unfold qt at e;rcases Pb.mp (Xo e)with z|z
  .obtain⟨d,_,q⟩:=X8.mp z;cases q
  .cases(List.mem_replicate.mp z).2
section
variable{P:aq}{w:ax}{K:k7m}{mg:k7p}{base:aB}{x qual:af}{st:aW}{f:aa}{fd:aH}{N ps:List af}{k:Nat}
def W6(K:k7m)(f:aa)(cdv:a8):Prop:=∃(oc:a8)(od:Option aa)(fd:aH)(sl:Array (Option a8)),K.lookup f=a3 ⟨oc,od,.func fd,sl⟩/\fd.code=cdv
theorem Fun.okC{sp:Sp}(F:Fun K x qual st f fd)(S:FnScope N ps (jb st))(len:∀vs H Q E,sp vs H Q E->vs.length=ps.length)
  (hbody:∀(cdv:a8)(A:az)(outer:List dh)(s:ae)(H:Hp)(vs:List V)(Q:VK) (E:XK),W6 K f cdv->Room k (A.deeper (bc qual (jb st) s.heap.objs.size f cdv))->sp vs H Q E ->
   ∃t,PSs (v7 CX0 P w K mg base N qual (jb st) f cdv A outer s H E).nox (ju st) t/\t { nx:=λ_ H'=>Q .non H',rt:=Q } (start N vs) H):FnOk P w K mg base CX0 (k+1) f fd ps sp:=by
 obtain⟨oc,od,dV,kV,doc,pm,an,cdv,ct,osl,rfl,lk,hcd⟩:=F.ex;refine j7q lk hcd S len λA outer s H vs Q E hr hsp=>?_;obtain⟨t,h,q⟩:=hbody cdv A outer s H vs Q E ⟨oc,od,_,osl,lk,rfl⟩ hr hsp;exact⟨t,h.nox,q⟩
theorem Bj{S:List D->D->Prop}(F:Fun K x qual st f fd)(Sc:FnScope N ps (jb st))(hl:∀ds d,S ds d->ds.length=ps.length)
  (hbody:∀(cdv:a8)(A:az)(outer:List dh)(s:ae)(H:Hp)(E:XK),W6 K f cdv->Room k (A.deeper (bc qual (jb st) s.heap.objs.size f cdv))->∀ds d,S ds d ->
   DSs (v7 CX0 P w K mg base N qual (jb st) f cdv A outer s H E).nox (qt N ds) (ju st) { nx:=λ_=>d=.non,rt:=λr=>r.d=d }):FnOk P w K mg base CX0 (k+1) f fd ps (spP K S):=by
 refine FnOk.toP (F.okC Sc (λvs H Q E ⟨ds,d,tb,en,hS,_⟩=>by rw[en.length];exact hl ds d hS) λcdv A outer s H vs Q E hcv hr ⟨ds,d,tb,en,hS,q⟩=>⟨_,R8,?_⟩);have ho:=Zm N ds;refine hbody cdv A outer s H E hcv hr ds d hS (start N vs) H _ (Vy tb en) ⟨λρ' σ' H' n R f=>?_,λ_ _ _ z=>z.elim,λ_ _ _ z=>z.elim,λr v H' n z=>?_,λ_ _ _ _ z=>z.elim⟩
 .subst n;unfold Fr0 at f;rw[ho,Jb]at f;exact q _ H' (f.trans jo) rfl
 .cases r with
  |val d' =>cases(show d'=d from n);obtain⟨g,en'⟩:=z;rw[ho,Jb]at g;exact q v H' g en'
  |fresh l =>cases(show D.lst l=d from n);obtain⟨a,xs,e,g,m,en'⟩:=z;rw[ho,Jb]at g;exact q v H' (g.trans jo) ⟨a,xs,e,.inl (.inl m),en'.mono jo⟩
theorem j6a{S:List D->List D->Prop}(F:Fun K x qual st f fd)(Sc:FnScope N ps (jb st))(hl:∀ds d,S ds d->ds.length=ps.length)
  (hbody:∀(cdv:a8)(A:az)(outer:List dh)(s:ae)(H:Hp)(E:XK),W6 K f cdv->Room k (A.deeper (bc qual (jb st) s.heap.objs.size f cdv))->∀ds l,S ds l ->
   DSs (v7 CX0 P w K mg base N qual (jb st) f cdv A outer s H E).nox (qt N ds) (ju st) { nx:=λ_=>False,rt:=λr=>r=.fresh l }):FnOk P w K mg base CX0 (k+1) f fd ps (spF K S):=by
 refine FnOk.toF (F.okC Sc (λvs H Q E ⟨ds,d,tb,en,hS,_⟩=>by rw[en.length];exact hl ds d hS) λcdv A outer s H vs Q E hcv hr ⟨ds,l,tb,en,hS,q⟩=>⟨_,R8,?_⟩);have ho:=Zm N ds;refine hbody cdv A outer s H E hcv hr ds l hS (start N vs) H _ (Vy tb en) ⟨λρ' σ' H' n R f=>n.elim,λ_ _ _ z=>z.elim,λ_ _ _ z=>z.elim,λr v H' n z=>?_,λ_ _ _ _ z=>z.elim⟩;cases(show r=.fresh l from n);obtain⟨a,xs,e,g,m,en'⟩:=z;rw[ho,Jb]at g;subst e;refine q a xs H' (g.trans jo) ?_ m en';cases y:H a with
 |none=>rfl
 |some o=>have:=g a o y;rw[qx (xq.mpr rfl)]at this;cases this
end
section
variable{prog:aq}{w:ax}{A:az}{R:fH->ae->Prop}{s:ae}
theorem Kg{elt target iter:ai}{ifs:List ai}{scope:aX}{pos:aG}{it acc:a8}{env:dh}(I:Nat->ae->Prop)
  (turn:∀n s,I n s->ao (aw prog w) A (dW it) (λr s₁=>match r with
   |none=>R (.ok .next) s₁
   |some v=>ao (aw prog w) A (dF target it v) (λ_ s₁'=>ao (aw prog w) A (eA target env v) (λ_ s₂ =>
     ao (aw prog w) A (forIn ifs a6 λc r=>if r=a6 then do let ok <-eY c env (ay c env);pure (bG ok)else pure (bG r)) (λok s₃ =>
      if ok=a6 then ao (aw prog w) A (ay elt env) (λx s₄ =>
       ao (aw prog w) A (call (.builtin "list.append") [acc,x]) (λ_ s₅=>∃m,m<n/\I m s₅) (λ_ _=>False) s₄) (λ_ _=>False) s₃
      else ∃m,m<n/\I m s₃) (λ_ _=>False) s₂) (λ_ _=>False) s₁') (λ_ _=>False) s₁) (λ_ _=>False) s)
  (n:Nat) (h:I n s) :
  cu (aw prog w) A (.compLoop (.ListComp elt [⟨target,iter,ifs,0⟩] scope pos) 0 it acc env) R s:=by
 refine codeAny_loop rfl I (λn s hI=>?_) n h;show ao _ A ((compTurn (.ListComp elt [⟨target,iter,ifs,0⟩] scope pos) 0 it acc env).onRaise (λx=>do noteFrame x env;theTreesLotGoes x)) _ _ s;refine wpAny_noted ?_;rw[compTurn_list];refine a5 (gO (a5 (bp (turn n s hI) (λr s₁ h₁=>?_) λ_ _ h'=>h'.elim)));cases r with
 |none=>exact ah h₁
 |some v =>
  refine a5 (bp h₁ (λ_ s₁' h₁'=>?_) λ_ _ h'=>h'.elim);refine a5 (bp h₁' (λ_ s₂ h₂=>a5 (bp h₂ (λok s₃ h₃=>?_) λ_ _ h'=>h'.elim)) λ_ _ h'=>h'.elim);cases ok with
  |false=>exact ah ⟨rfl,h₃⟩
  |true =>exact a5 (a5 (bp h₃ (λx s₄ h₄=>a5 (bp h₄ (λ_ s₅ h₅=>ah (ah ⟨rfl,h₅⟩)) λ_ _ h'=>h'.elim)) λ_ _ h'=>h'.elim))
end
noncomputable def zj(env:dh):List (af×ba)->List (af×aa)->List (af×aa)
 |[],acc=>acc
 |(n,k)::r,acc=>zj env r (if k==.free then(match env.cells.lookup n with|some a=>(n,a)::acc|none=>acc)else acc)
theorem O7{scope:aX}{env:dh}(h:∀y∈scope.names,y.2=.free->(env.cells.lookup y.1).isSome=a6):eZ scope env=pure (zj env scope.names []):=by
 simp only[eZ];have step:∀(names:List (af×ba)) (acc:List (af×aa)),(∀y∈names,y.2=.free->(env.cells.lookup y.1).isSome=a6) ->
   (forIn names acc (λx r=>(do if (x.2==aZ)=a6 then(do let a <-cellOf env x.1;pure (bG ((x.1,a)::r)))else pure (bG r):Sem _)):Sem _)=pure (zj env names acc):=by
  intro names;induction names with
  |nil=>intro acc _;rfl
  |cons y r ih =>
   intro acc hy;obtain⟨n,k⟩:=y;rw[List.forIn_cons];by_cases e:(k==aZ)=a6
   .have hk:k=.free:=by simpa using e
    have hs:=hy (n,k) (xm ..) hk;obtain⟨a,ha⟩:=Xr.mp hs;have hc:cellOf env n=pure a:=by unfold cellOf;rw[ha]
    simp only[e,if_true,hc,pure_bind];rw[ih _ λz hz=>hy z (xf _ hz)];simp only[zj,e,if_true,ha]
   .have e':(k==aZ)=a4:=by simpa using e
    simp only[e',pq,if_false,pure_bind];rw[ih _ λz hz=>hy z (xf _ hz)];simp only[zj,e',pq,if_false]
 have:=step scope.names [] h;rw[show(forIn scope.names ([]:List (af×aa)) λx r=>_)=_ from this];rfl
theorem Ny{env:dh}{y:af}{c:aa}:∀{names:List (af×ba)} {acc:List (af×aa)},(∀y c,acc.lookup y=a3 c->env.cells.lookup y=a3 c)->(zj env names acc).lookup y=a3 c->env.cells.lookup y=a3 c
 |[],acc,h,q=>h y c q
 |(n,k)::r,acc,h,q=>by
  unfold zj at q;refine Ny (acc:=_) ?_ q;intro z d hz;split at hz
  .split at hz
   .rename_i a ha;rw[Xl]at hz;split at hz
    .rename_i e;have e':z=n:=by simpa using e
     subst e';cases hz;exact ha
    .exact h z d hz
   .exact h z d hz
  .exact h z d hz
theorem O8{env:dh}{y:af}:∀{names:List (af×ba)} {acc:List (af×aa)},(acc.lookup y).isSome=a6->((zj env names acc).lookup y).isSome=a6
 |[],acc,h=>h
 |(n,k)::r,acc,h=>by
  unfold zj;refine O8 ?_;split
  .split
   .rw[Xl];split
    .rfl
    .exact h
   .exact h
  .exact h
theorem Ua{env:dh}{y:af}(hs:(env.cells.lookup y).isSome=a6):∀{names:List (af×ba)} {acc:List (af×aa)},(y,aZ)∈names->((zj env names acc).lookup y).isSome=a6
 |[],acc,h=>nomatch h
 |(n,k)::r,acc,h=>by
  unfold zj;rcases xr.mp h with e|h
  .cases e;refine O8 ?_;obtain⟨a,ha⟩:=Xr.mp hs;rw[if_pos (by rfl),ha];rw[Xl];simp
  .exact Ua hs h
noncomputable def Jc(scope:aX)(env:dh)(N:List af)(cs:List Nat):Bool :=
 scope.names.all (λy=>(y.2 != .cell || scope.names.lookup y.1==a3 .cell)&&(y.2 != .local || scope.names.lookup y.1==a3 .local)&&(y.2 != .free || ((env.cells.lookup y.1).isSome&&(env.kindOf y.1==a3 .cell || env.kindOf y.1==a3 .free)))) &&
 (ar N.length).all (λj=>cs.contains j || (match N[j]? with|some y=>scope.names.lookup y != a3 .local&&scope.names.lookup y != a3 .cell|none=>a6))
theorem lookup_mem{α β:Type}[BEq α][LawfulBEq α]{l:List (α×β)}{a:α}{b:β}(h:l.lookup a=a3 b):(a,b)∈l:=by
 induction l with
 |nil=>cases h
 |cons x r ih =>
  obtain⟨c,d⟩:=x;rw[Xl]at h;split at h
  .rename_i e;cases h;have e':a=c:=by simpa using e
   subst e';exact xm ..
  .exact xf _ (ih h)
theorem vy{env:dh}{x:af}{k':ba}:∀{names:List (af×ba)},
  (names.map λ(n,k)=>if (k==aZ&&env.scope.kind==.function&&env.kindOf n==a3 .cell) then(n,bf) else(n,k)).lookup x=a3 k' ->
  ∃k,names.lookup x=a3 k/\(k'=k\/(k=.free/\k'=.cell))
 |[],h=>by cases h
 |(n,k)::r,h=>by
  rw[X4]at h;rw[Xl];by_cases hc:(k==aZ&&env.scope.kind==.function&&env.kindOf n==a3 .cell)=a6
  .dsimp only at h;rw[if_pos hc,Xl]at h;cases e:x==n with
   |true =>
    rw[e]at h;cases h;have:(k==aZ)=a6:=by
     cases z:k==aZ with
     |true=>rfl
     |false=>rw[z]at hc;simp at hc
    exact⟨k,rfl,.inr ⟨by simpa using this,rfl⟩⟩
   |false=>rw[e]at h;exact vy h
  .dsimp only at h;rw[if_neg hc,Xl]at h;cases e:x==n with
   |true=>rw[e]at h;cases h;exact⟨_,rfl,.inl rfl⟩
   |false=>rw[e]at h;exact vy h
theorem Vt:∀(names:List (af×ba)) (n:Nat) (acc:List (af×aa)),aJ n names acc=aJ n names []++acc
 |[],_,_=>rfl
 |(x,k)::r,n,acc=>by
  unfold aJ;split
  .rw[Vt r (n+1) ((x,n)::acc),Vt r (n+1) [(x,n)],Td];rfl
  .exact Vt r n acc
theorem O9:∀{names:List (af×ba)} {n:Nat} {x:af} {c:aa},(x,c)∈aJ n names []->(x,bf)∈names/\n<=c
 |[],_,_,_,h=>nomatch h
 |(y,k)::r,n,x,c,h=>by
  unfold aJ at h;split at h
  .rename_i hk;rw[Vt]at h;rcases Pb.mp h with h|h
   .have q:=O9 h;exact⟨xf _ q.1,Nat.le_of_succ_le q.2⟩
   .cases xq.mp h;have hk:k=bf:=by simpa using hk
    subst hk;exact⟨xm ..,X3 _⟩
  .have q:=O9 h;exact⟨xf _ q.1,q.2⟩
theorem V9{β:Type}:∀{l m:List (af×β)} {y:af},(l++m).lookup y=(l.lookup y).or (m.lookup y)
 |[],m,y=>rfl
 |(x,b)::r,m,y=>by
  rw[eT,Xl,Xl];split
  .rfl
  .exact V9
theorem Nz{names:List (af×ba)}{n:Nat}{acc:List (af×aa)}{y:af}{c:aa}(h:(aJ n names acc).lookup y=a3 c) :
  ((y,c)∈aJ n names []/\(y,bf)∈names/\n<=c)\/((aJ n names []).lookup y=a7/\acc.lookup y=a3 c):=by
 rw[Vt,V9]at h;cases e:(aJ n names []).lookup y with
 |some c'=>rw[e]at h;cases h;have q:=lookup_mem e;exact .inl ⟨q,O9 q⟩
 |none=>rw[e]at h;exact .inr ⟨rfl,h⟩
theorem jdp{names:List (af×ba)}{n:Nat}{acc:List (af×aa)}{y:af}(h:(y,bf)∉names):(aJ n names acc).lookup y=acc.lookup y:=by
 rw[Vt,V9];cases e:(aJ n names []).lookup y with
 |some c'=>exact absurd (O9 (lookup_mem e)).1 h
 |none=>rfl
theorem ja8{names:List (af×ba)}{n:Nat}{acc:List (af×aa)}{y:af}(h:(acc.lookup y).isSome=a6):∃c,(aJ n names acc).lookup y=a3 c:=by
 rw[Vt,V9];cases e:(aJ n names []).lookup y with
 |some c'=>exact⟨c',rfl⟩
 |none=>obtain⟨c,hc⟩:=Xr.mp h;exact⟨c,hc⟩
theorem Lr{M:jO}{A:az}{E:k7n}{s:ae}{scope:aX}{globals:aa}{closure:List (af×aa)}{qual:af}{env:dh}{Q:dh->ae->Prop}
  (hQ:Q { scope:=scope,locals:=s.heap.objs.size,globals:=globals,cells:=aJ (s.heap.objs.size+1) scope.names closure,qual:=qual,func:=a7,code:=env.code,frame:=env.frame,builtins:=env.builtins }
   { s with heap:=hZ (s.heap.push { cls:=.type "dict",data:=.dict #[] }) scope.names }) :
  ao M A (gr scope globals closure [] qual a7 .none (a3 env)) Q E s:=by
 simp only[gr,dG,if_true];refine a5 (wpAny_alloc ?_);refine a5 (wpAny_layCells _ (λname kind cells=>by cases hkc:kind==bf<;>simp[hkc]) _ _ _ _ ?_);rw[show({ s with heap:=s.heap.push { cls:=.type "dict",data:=.dict #[] } }:ae).heap.objs.size=s.heap.objs.size+1 from bx ..];exact a5 (ah (ah hQ))
noncomputable abbrev cCx(X:Cx)(scope:aX)(C:aa)(s:ae)(H:Hp)(fp:List aa)(pn:k7o):Cx :=
 { X with env:=compEnvC scope (aJ (C+1) scope.names (zj X.env scope.names [])) C X.env,s₀:=s,H₀:=H,outer:=X.stack,stack:=X.stack,ex:=fp,fn:=λx=>scope.names.lookup x==a3 .cell,pn:=pn,xe:=λ_ _=>False }
noncomputable def Vw(scope:aX)(y:af):Bool:=scope.names.lookup y==a3 .local || scope.names.lookup y==a3 .cell
theorem Z7{env:dh}:∀{names:List (af×ba)} {x:af},names.lookup x=a3 .cell ->
  (names.map λ(n,k)=>if (k==aZ&&env.scope.kind==.function&&env.kindOf n==a3 .cell) then(n,bf) else(n,k)).lookup x=a3 .cell
 |[],_,h=>by simp at h
 |(n,k)::r,x,h=>by
  have ih:=@Z7 env r x;rw[X4];cases hx:x==n with
  |true =>simp only[Xl,hx]at h;cases h;simp[Xl,hx]
  |false =>
   simp only[Xl,hx]at h;dsimp only;by_cases hc:(k==aZ&&env.scope.kind==.function&&env.kindOf n==a3 .cell)=a6
   .rw[if_pos hc];simp only[Xl,hx];exact ih h
   .rw[if_neg hc];simp only[Xl,hx];exact ih h
theorem W8{X:Cx}{scope:aX}{C:aa}{s:ae}{H:Hp}{fp:List aa}{pn:k7o}{y:af}(h:Vw scope y=a6):Loc (cCx X scope C s H fp pn).env.scope y:=by
 unfold Vw at h;rw[bQ]at h;rcases h with h|h
 .exact .inl (iK (by simpa using h))
 .exact .inr (Z7 (by simpa using h))
theorem M5{X:Cx}{scope:aX}{C:aa}{s:ae}{H:Hp}{fp:List aa}{pn:k7o}{y:af}(h:Vw scope y=a6):(cCx X scope C s H fp pn).fn y=a6\/(cCx X scope C s H fp pn).env.scope.names.lookup y=a3 .local:=by
 unfold Vw at h;rw[bQ]at h;rcases h with h|h
 .exact .inr (iK (by simpa using h))
 .exact .inl h
def DTs(X:Cx)(ρ:Rho)(ifs:List ai)(b:Bool):Prop:=match ifs with
 |[]=>b=a6
 |[c]=>DB X ρ c b
 |_=>False
theorem DTs.nil{X:Cx}{ρ:Rho}:DTs X ρ [] a6:=rfl
theorem DTs.one{X:Cx}{ρ:Rho}{c:ai}{b:Bool}(h:DB X ρ c b):DTs X ρ [c] b:=h
theorem DTs.run{X:Cx}{ρ:Rho}{ifs:List ai}{b:Bool}(h:DTs X ρ ifs b){pins:k7o}{σ:St}{H:Hp}{s:ae}(I:Inv X pins σ H s)(R:Rep X.K ρ σ H) :
  ao (aw X.prog X.w) X.A (forIn ifs a6 λc r=>if r=a6 then do let ok <-eY c X.env (ay c X.env);pure (bG ok)else pure (bG r)) (λok s'=>ok=b/\∃H',Inv X pins σ H' s'/\j4 H H') X.xe s:=by
 match ifs,h with
 |[],h=>exact wpAny_tests_nil ⟨h.symm,H,I,j4.refl H⟩
 |[c],h=>exact wpAny_tests_one (thn (h σ H (λk H'=>k=b/\j4 H H') R (λH' g=>⟨rfl,g⟩) pins s I) λk s' ⟨H',I',e,g⟩=>⟨e,H',I',g⟩)
theorem Rep.weaken{K:k7m}{ρ:Rho}{σ σ':St}{H:Hp}(R:Rep K ρ σ H)(hl:σ'.length=σ.length)(h:∀(i:Nat),ρ[i]?≠a3 .un->σ'[i]?=σ[i]?):Rep K ρ σ' H :=
 ⟨by rw[hl,R.len],λi d e=>let ⟨v,q,z⟩:=R.val i d e;⟨v,by rw[h i (by rw[e];simp)];exact q,z⟩,λi a ds e=>let ⟨q,z⟩:=R.own i a ds e;⟨by rw[h i (by rw[e];simp)];exact q,z⟩,R.nd,λi a o x e=>let ⟨q,z⟩:=R.raw i a o x e;⟨by rw[h i (by rw[e];simp)];exact q,z⟩,R.tb⟩
noncomputable def mask(cs:List Nat)(σ:St):St:=σ.mapIdx λj v=>if cs.contains j then a7 else v
theorem Wr(cs:List Nat)(σ:St):(mask cs σ).length=σ.length:=by unfold mask;simp
theorem j5j{cs:List Nat}{σ:St}{j:Nat}{v:V}(h:(mask cs σ)[j]?=a3 (a3 v)):j∉cs/\σ[j]?=a3 (a3 v):=by
 unfold mask at h;rw[gJ]at h;cases e:σ[j]? with
 |none=>rw[e]at h;cases h
 |some u =>
  rw[e]at h;have h':(if cs.contains j then a7 else u)=a3 v:=av h;by_cases z:cs.contains j=a6
  .rw[if_pos z]at h';cases h'
  .rw[if_neg z]at h';subst h';exact⟨λy=>z (by simpa using y),rfl⟩
theorem j5i{cs:List Nat}{σ:St}{j:Nat}(h:j∉cs):(mask cs σ)[j]?=σ[j]?:=by
 unfold mask;rw[gJ];cases e:σ[j]? with
 |none=>rfl
 |some u=>simp[h]
def Wk(ρ2 ρ:Rho):Prop:=∀K σ H,Rep K ρ2 σ H->Rep K ρ σ H
theorem Qq(H:Hp)(A B:List aa):del (del H A) B=del H (A++B):=funext λb=>by unfold del;by_cases h1:b∈A<;>by_cases h2:b∈B<;>simp[h1,h2]
structure Loose(X:Cx)(pins:k7o)(H:Hp)(C:aa):Prop where
 free:H C=a7
 loc:C≠X.env.locals
 new:X.s₀.heap.objs.size<=C
 cell:∀x c,X.env.cells.lookup x=a3 c->c≠C
 pin:∀p∈X.pn++pins,p.1≠C
section
variable{X:Cx}{pins:k7o}{σ:St}{H2:Hp}{s2:ae}{ρ:Rho}{tg elt iter:ai}{ifs:List ai}{scope:aX}{pos:aG}{ds:List D}{cs:List Nat}{p:D->Bool}{g:D->D}
theorem Nv{J:It}{fp:List aa}{it:aa}{tn:Nat->aB->Prop}(I2:Inv X pins σ H2 s2)(R2:Rep X.K ρ σ H2)(T:Turn X.prog X.w X.K tg J fp it tn)(st2:tn 0 s2.heap)(f2:∀b∈fp,Q9 X pins H2 b)
  (ok:Yi X.K (del H2 (owns ρ)) J ds) (hc:X.calm=a6) (hkind:scope.kind=.function) (hok:Jc scope X.env X.N cs=a6) (hcs:∀j∈cs,ρ[j]?=a3 .un) (hsz:ds.length<=aj)
  (hb:∀C s H fp pn,∀d∈ds,∃ρ2,DG (cCx X scope C s H fp pn) ρ tg d ρ2/\Wk ρ2 ρ/\owns ρ2=owns ρ/\DTs (cCx X scope C s H fp pn) ρ2 ifs (p d)/\(p d=a6->DE (cCx X scope C s H fp pn) ρ2 elt (g d)))
  {E:k7n} {RR:a8->aa->fH->ae->Prop}
  (hRR:∀D C xs H' s' m,Inv X pins σ H' s'->j4 H2 H'->H2 D=a7->H' D=a3 (.lst xs)->j5 X.K (del H' (D::owns ρ)) ((ds.filter p).map g) xs->s'.heap.Ns C m->Loose X pins H' C->RR (.ref D) C (.ok .next) s') :
  ao (aw X.prog X.w) X.A (newList []) (λacc s₃=>ao (aw X.prog X.w) X.A (gr scope X.env.globals (zj X.env scope.names []) [] X.env.qual a7 .none (a3 X.env)) (λcenv s₄ =>
   cu (aw X.prog X.w) X.A (.compStart (.ListComp elt [⟨tg,iter,ifs,0⟩] scope pos) 0 (.ref it) acc { cenv with scope:=relabel scope X.env }) (RR acc cenv.locals) s₄) E s₃) E s2:=by
 unfold Jc at hok;rw[Xk]at hok;obtain⟨hn,hN⟩:=hok;have hn':∀y∈scope.names,(y.2=.cell->scope.names.lookup y.1=a3 .cell)/\(y.2=.free->(X.env.cells.lookup y.1).isSome=a6/\(X.env.kindOf y.1=a3 .cell\/X.env.kindOf y.1=a3 .free)):=λy hy=>by have:=Pr.mp hn y hy;simp only[Xk,bne_iff_ne,ne_eq,bQ,beq_iff_eq]at this;obtain⟨⟨a,_⟩,c⟩:=this;exact⟨λe=>a.elim (λz=>absurd e z) id,λe=>c.elim (λz=>absurd e z) id⟩
 have nocell:∀{y:af},scope.names.lookup y=a3 .free->(y,bf)∉scope.names:=λ{y} h z=>by have q:=(hn' _ z).1 rfl;rw[h]at q;cases q
 have hloc:∀(j:Nat)(y:af),X.N[j]?=a3 y->j∉cs->scope.names.lookup y≠a3 .local/\scope.names.lookup y≠a3 .cell:=λj y hj hc=>by
  have hlt:j<X.N.length:=(X7.mp hj).1;have:=Pr.mp hN j (Xj.mpr hlt);rw[hj]at this;simp only[bQ,Xk,bne_iff_ne,ne_eq]at this;rcases this with z|z
  .exact absurd (by simpa using z) hc
  .exact z
 have cl_of:∀{y:af}{c:aa},(zj X.env scope.names []).lookup y=a3 c->X.env.cells.lookup y=a3 c:=λ{y c} h=>Ny (λ_ _ z=>by cases z) h;refine aF (Lr ?_);dsimp only;generalize hH2:s2.heap.push { cls:=.type "list",dict:=a7,data:=.seq ([]:List a8).toArray }=hp2;have keep1:∀b o,hp2.get? b=a3 o->(hZ (hp2.push { cls:=.type "dict",data:=.dict #[] }) scope.names).get? b=a3 o:=λb o e=>kH _ _ b o (xg _ e);have hns₁:(hZ (hp2.push { cls:=.type "dict",data:=.dict #[] }) scope.names).Ns hp2.objs.size (λ_=>a7):=(Heap.Ns.new hp2 (.type "dict")).keeps (kH _ _);have okl:=cellsFrom_ok scope.names (hp2.push { cls:=.type "dict",data:=.dict #[] }) (hp2.objs.size+1) [] ⟨λ_ _ hm=>(nomatch hm),List.Pairwise.nil⟩ (by rw[bx];exact X3 _);rw[bx]at okl;generalize hZ (hp2.push { cls:=.type "dict",data:=.dict #[] }) scope.names=h₁ at keep1 hns₁ okl ⊢;have hC:hp2.objs.size=s2.heap.objs.size+1:=by rw[<-hH2,bx]
 have hDC:s2.heap.objs.size≠hp2.objs.size:=by rw[hC];exact Xb (df _)
 have hCle:s2.heap.objs.size<=hp2.objs.size:=by rw[hC];exact T4 _
 have below:∀b,b<s2.heap.objs.size->b≠hp2.objs.size/\b≠s2.heap.objs.size:=λb hb=>⟨by rw[hC];exact Xb (d0 hb),Xb hb⟩
 have old:∀b o,s2.heap.get? b=a3 o->h₁.get? b=a3 o:=λb o e=>keep1 b o (hH2▸xg _ e);have hacc:h₁.get? s2.heap.objs.size=a3 { cls:=.type "list",dict:=a7,data:=.seq ([]:List a8).toArray }:=keep1 _ _ (hH2▸X5 _ rfl);have none_of:∀b,s2.heap.objs.size<=b->s2.heap.get? b=a7:=λb hb=>by
  cases e:s2.heap.get? b with
  |none=>rfl
  |some o'=>exact absurd (xu e) (Nat.not_lt.mpr hb)
 have hD0:H2 s2.heap.objs.size=a7:=I2.fresh;generalize hDd:s2.heap.objs.size=Dd at *;generalize hCc:hp2.objs.size=C at *;have hC0:H2 C=a7:=I2.hok.fresh (by rw[hDd];exact hCle);have pinlt:∀p∈X.pn++pins,p.1<Dd:=λp hp=>by rw[<-hDd];exact xu (I2.pin p hp).1
 have celllt:∀y c,X.env.cells.lookup y=a3 c->c<Dd:=λy c h=>by obtain⟨v,o,e,_⟩:=I2.cell y c h;rw[<-hDd];exact xu e
 have loclt:X.env.locals<Dd:=by rw[<-hDd];exact I2.lt
 have fplt:∀b∈fp,b<Dd:=λb hb=>by obtain⟨o,e,_⟩:=T.obj _ _ st2 b hb;rw[<-hDd];exact xu e
 have hDlt:Dd<C:=by omega
 have cellD:∀{y:af}{c:aa},(aJ (C+1) scope.names (zj X.env scope.names [])).lookup y=a3 c->((y,c)∈aJ (C+1) scope.names []/\C+1<=c)\/X.env.cells.lookup y=a3 c:=λ{y c} h=>by
  rcases Nz h with ⟨q,_,z⟩|⟨_,q⟩
  .exact .inl ⟨q,z⟩
  .exact .inr (cl_of q)
 have celln:∀{y:af}{c b:aa},(aJ (C+1) scope.names (zj X.env scope.names [])).lookup y=a3 c->b<Dd->(∀c,X.env.cells.lookup y=a3 c->c≠b)->c≠b:=λ{y c b} h hb ho=>by
  rcases cellD h with ⟨_,z⟩|q
  .exact t7 (Pa hb (Pa hDlt (Tp z)))
  .exact ho c q
 have okc:(cCx X scope C s2 H2 fp (X.pn++pins)).Ok:={
  mod:=I2.ok.mod
  kind:=hkind
  glob:=I2.ok.glob
  blt:=I2.ok.blt
  above:=by show s2.heap.objs.size<=C;rw[hDd];exact hCle
  inj:=λx y c h1 h2=>by
   rcases cellD h1 with ⟨m1,z1⟩|q1<;>rcases cellD h2 with ⟨m2,z2⟩|q2
   .exact name_of_addr okl.apart m1 m2
   .exact absurd (Pa (celllt y c q2) (Pa hDlt (Tp z1))) (P0 _)
   .exact absurd (Pa (celllt x c q1) (Pa hDlt (Tp z2))) (P0 _)
   .exact I2.ok.inj x y c q1 q2
  has:=λx h=>by
   have key:∀k',(relabel scope X.env).names.lookup x=a3 k'->(k'=.cell\/k'=.free)->∃c,(aJ (C+1) scope.names (zj X.env scope.names [])).lookup x=a3 c:=λk' hk hk'=>by
    obtain⟨k,hl,e⟩:=vy hk
    have hm:=lookup_mem hl
    have hk0:k=.free\/k=.cell:=by
     rcases e with e|e
     .subst e
      exact hk'.symm
     .exact .inl e.1
    rcases hk0 with hk0|hk0
    .subst hk0
     exact ja8 (Ua ((hn' _ hm).2 rfl).1 hm)
    .subst hk0
     exact Xr.mp (W.cellsFrom_some _ _ _ (.inl hl))
   rcases h with h|h
   .exact key _ h (.inl rfl)
   .exact key _ h (.inr rfl)
  cab:=λx c h h2=>by
   have hx:scope.names.lookup x=a3 .cell:=by simpa using h
   show s2.heap.objs.size<=c
   rw[hDd]
   rcases Nz h2 with ⟨_,_,z⟩|⟨z,_⟩
   .exact cK (Pa hDlt (Tp z))
   .obtain⟨c',hc'⟩:=Xr.mp (W.cellsFrom_some scope.names (C+1) [] (.inl hx))
    rw[z]at hc';cases hc'
  hd:=I2.ok.hd
  frames:=I2.ok.frames
  stk:=.inl rfl
  exf:=λb hb=>⟨Xb (Pa (fplt b hb) hDlt),λx c h=>celln h (fplt b hb) λc q=>(f2 b hb).2.2.2.2.1 x c q⟩
  bs:=I2.bs
  bsz:=Xh I2.ok.bsz I2.sz
  noex:=λb o e hb=>by
   rcases(f2 b hb).2.2.2.1 with z|z
   .exact I2.ok.noex b o e z
   .exact absurd (xu e) (Nat.not_lt.mpr (Xh I2.ok.bsz z))
  exfs:=λb hb hf=>by
   rcases xr.mp (I2.stkSub b hf)with z|z
   .exact(f2 b hb).2.1 z
   .exact(f2 b hb).2.2.1 z
  funs:=I2.stack
  frf:=I2.stkFree }
 have hpush:HOk X.prog X.w (upd H2 Dd (.lst [])) h₁:=HOk.laid I2.hok old (by rw[hDd];exact X3 _) ⟨bU _,[],_,.nil,hacc⟩;have I0:Inv (cCx X scope C s2 H2 fp (X.pn++pins)) [] (mask cs σ) (upd H2 Dd (.lst [])) { s2 with heap:=h₁ }:={
  ok:=okc
  os:=rfl
  bare:=I2.bare
  base:=Un.laid old (by rw[hDd];exact X3 _) hD0
  loc:=by
   refine⟨_,hns₁,λj y v hj hv hvis=>?_⟩
   obtain⟨hjc,hσ⟩:=j5j hv
   obtain⟨m,hm,hlook⟩:=I2.loc
   have key:∀k',(relabel scope X.env).names.lookup y=a3 k'->scope.names.lookup y=a3 .free:=λk' hk=>by
    obtain⟨k,hl,e⟩:=vy hk
    have hmm:=lookup_mem hl
    have:k=.free:=by
     rcases e with e|e
     .subst e
      rcases hvis with z|z|z
      .have z:=hk.symm.trans z;cases z;exact absurd hl (hloc j y hj hjc).1
      .have z:=hk.symm.trans z;cases z;exact absurd hl (hloc j y hj hjc).2
      .have z:=hk.symm.trans z;cases z;rfl
     .exact e.1
    rw[hl,this]
   have hfree:scope.names.lookup y=a3 .free:=by rcases hvis with z|z|z<;>exact key _ z
   have hmm:=lookup_mem hfree
   obtain⟨hs,hk⟩:=(hn' _ hmm).2 rfl
   have hvis':Vis X.env.scope y:=by rcases hk with z|z;exact .inr (.inl z);exact .inr (.inr z)
   obtain⟨u,ru,look⟩:=hlook j y v hj hσ hvis'
   refine⟨u,ru,?_⟩
   rcases look with ⟨z,_⟩|⟨_,c,hcl,hcv⟩
   .rcases hk with y'|y'<;>rw[y']at z<;>cases z
   .refine .inr ⟨?_,c,?_,?_⟩
    .rcases hvis with z|z|z
     .exfalso
      obtain⟨k,hl,e⟩:=vy z
      rw[hfree]at hl;cases hl
      rcases e with e|e
      .cases e
      .cases e.2
     .exact .inl z
     .exact .inr z
    .obtain⟨c',hc'⟩:=Xr.mp (Ua (acc:=[]) hs hmm)
     have:=cl_of hc'
     rw[hcl]at this;cases this
     exact(jdp (nocell hfree)).trans hc'
    .obtain⟨o,e,d⟩:=hcv
     exact⟨o,old _ _ e,d⟩
  cell:=λx c h=>by
   rcases cellD h with ⟨q,_⟩|q
   .exact⟨_,(okl.empty x c q).1⟩
   .obtain⟨v,o,e,d⟩:=I2.cell x c q
    exact⟨v,o,old _ _ e,d⟩
  free:=by show upd H2 Dd (.lst []) C=a7;rw[ji (t7 hDlt)];exact hC0
  freeC:=λx c h=>by
   rcases cellD h with ⟨_,z⟩|q
   .rw[ji (t7 (Pa hDlt (Tp z)))];exact I2.hok.fresh (by rw[hDd];exact cK (Pa hDlt (Tp z)))
   .rw[ji (Xb (celllt x c q))];exact I2.freeC x c q
  pin:=λp hp=>by
   rw[Xp]at hp
   obtain⟨h1,h2,h3,h4,h5⟩:=I2.pin p hp
   have hlt:=pinlt p hp
   refine⟨old _ _ h1,by rw[ji (Xb hlt)];exact h2,Xb (Pa hlt hDlt),λz=>?_,h5⟩
   rcases xr.mp (I2.stkSub _ z)with y|y
   .exact h3 y
   .exact h4 y
  hok:=hpush
  len:=by rw[Wr];exact I2.len }
 have hDo:Dd∉owns ρ:=R2.fresh hD0;have fpok:∀{H':Hp},(∀b∈fp,H' b=a7)->∀b∈fp,Q9 (cCx X scope C s2 H2 fp (X.pn++pins)) [] H' b:=λ{H'} hn b hb =>⟨hn b hb,Xb (Pa (fplt b hb) hDlt),okc.exfs b hb,.inl hb,λx c h=>celln h (fplt b hb) λc q=>(f2 b hb).2.2.2.2.1 x c q,λp hp=>by rw[Xp]at hp;exact(f2 b hb).2.2.2.2.2 p hp⟩
 have R0:Rep X.K ρ (mask cs σ) H2:=R2.weaken (Wr _ _) λj hj=>j5i λz=>hj (hcs j z);have e0:del (upd H2 Dd (.lst [])) [Dd]=H2:=by
  rw[Yp (xq.mpr rfl)]
  funext b
  by_cases z:b∈[Dd]
  .rw[qx z,xq.mp z,hD0]
  .exact j6 z
 have loop:∀s₃:ae,s₃={ s2 with heap:=h₁ } ->
   cu (aw X.prog X.w) X.A (.compLoop (.ListComp elt [⟨tg,iter,ifs,0⟩] scope pos) 0 (.ref it) (.ref Dd) (compEnvC scope (aJ (C+1) scope.names (zj X.env scope.names [])) C X.env)) (RR (.ref Dd) C) s₃:=by
  rintro s₃ rfl;refine Kg (λn s=>∃i σ' H' ys,Inv (cCx X scope C s2 H2 fp (X.pn++pins)) [] σ' H' s/\tn i s.heap/\(∀b∈fp,H' b=a7)/\i<=ds.length/\n=ds.length-i/\Rep X.K ρ σ' (del H' [Dd])/\j4 H2 (del H' [Dd])/\H' Dd=a3 (.lst ys) /\
   j5 X.K (del H' (Dd::owns ρ)) (((ds.take i).filter p).map g) ys) ?_ ds.length
   ⟨0,mask cs σ,upd H2 Dd (.lst []),[],I0,T.keep _ _ _ st2 (λb _ o e=>old b o e),λb hb=>by rw[ji (Xb (fplt b hb))];exact(f2 b hb).1,bU _,rfl,by rw[e0];exact R0,by rw[e0];exact j4.refl _,j9,rfl⟩
  rintro n s3 ⟨i,σ3,H3,ys,I3,st3,fr3,hle,rfl,R3,g3,m3,en3⟩;have F3:j4 (del H2 (owns ρ)) (del H3 (Dd::owns ρ)):=by
   have:del H3 (Dd::owns ρ)=del (del H3 [Dd]) (owns ρ):=by rw[Qq];rfl
   rw[this];exact jg g3
  obtain⟨go,stop,yld⟩:=ok i H3 (Dd::owns ρ) F3 λa ha=>by
   rcases xr.mp ha with e|ha
   .rw[e,m3];simp
   .obtain⟨xs,e⟩:=R3.owned a ha;rw[(of_del e).2];simp
  by_cases hlt:i<ds.length
  .refine thn (T.item (cCx X scope C s2 H2 fp (X.pn++pins)) rfl rfl rfl hc i [] s3 σ3 H3 (λ_ _=>False) I3 (fpok fr3) st3 (go hlt)) λr s4 ⟨u,hr,h4⟩=>?_;subst hr;refine thn h4 λ_ s5 ⟨x,H5,I5,r5,y5,st5,fr5⟩=>?_;obtain⟨g5,en5⟩:=yld x H5 y5;have hd:ds[i]?=a3 ds[i]:=kh hlt;obtain⟨ρ2,⟨sub,hG⟩,wk,eo,hT,hE⟩:=hb C s2 H2 fp (X.pn++pins) ds[i] (Xz hlt);have m5:H5 Dd=a3 (.lst ys):=g5 _ _ m3;have hA:∀a∈[Dd],Hd (H5 a):=λa ha=>.inl ⟨ys,by rw[xq.mp ha];exact m5⟩;have I5p:=I5.pinned (fpok fr5) (T.obj _ _ st5);have I5h:=I5p.hide hA;have R5:Rep X.K ρ σ3 (del H5 [Dd]):=R3.grow (jg g5);have en5':Enc X.K (del (del H5 [Dd]) (owns ρ)) ds[i] x:=by rw[Qq];exact en5 _ hd
   refine thn (hG σ3 (del H5 [Dd]) x (λσ6 F6=>F6=del H5 [Dd]/\Rep X.K ρ2 σ6 F6) R5 en5' (λσ6 R6=>⟨rfl,R6⟩) _ s5 u I5h r5) λ_ s6 ⟨σ6,F6,I6,e6,R6⟩=>?_;subst e6;refine thn (hT.run I6 R6) λokv s7 ⟨e7,F7,I7,g7⟩=>?_;subst e7;have R7:Rep X.K ρ σ6 F7:=wk _ _ _ (R6.grow g7);have g27:j4 H2 F7:=g3.trans ((jg g5).trans g7);have en7:j5 X.K (del F7 (owns ρ)) (((ds.take i).filter p).map g) ys:=en3.mono (by
    have:del H3 (Dd::owns ρ)=del (del H3 [Dd]) (owns ρ):=by rw[Qq];rfl
    rw[this];exact jg ((jg g5).trans g7))
   have i5:∀{F:Hp}{s':ae},Inv (cCx X scope C s2 H2 fp (X.pn++pins)) ([]++Vi fp s5.heap) σ6 F s'->Inv (cCx X scope C s2 H2 fp (X.pn++pins)) [] σ6 F s'/\tn (i+1) s'.heap/\∀b∈fp,F b=a7:=λ{F s'} I=>by refine⟨I.unpinned,T.keep _ _ _ st5 λb hb o e=>(I.pin (b,o) (Xf _ (Xf _ (Jz hb e)))).1,λb hb=>?_⟩;obtain⟨o,e,d⟩:=T.obj _ _ st5 b hb;exact(I.pin (b,o) (Xf _ (Xf _ (Jz hb e)))).2.1
   have tk:ds.take (i+1)=ds.take i++[ds[i]]:=by rw[Tq,hd];rfl
   cases hp:p ds[i] with
   |false =>
    rw[if_neg xj];obtain⟨hF,I8⟩:=I5p.unhide hA I7;obtain⟨I9,st9,fr9⟩:=i5 I8;refine⟨ds.length-(i+1),by omega,i+1,σ6,_,ys,I9,st9,fr9,hlt,rfl,by rw[Vc hF];exact R7,by rw[Vc hF];exact g27,by rw[vq (xq.mpr rfl)];exact m5,?_⟩;have:del (mrg [Dd] H5 F7) (Dd::owns ρ)=del F7 (owns ρ):=by
     have e:del (mrg [Dd] H5 F7) (Dd::owns ρ)=del (del (mrg [Dd] H5 F7) [Dd]) (owns ρ):=by rw[Qq];rfl
     rw[e,Vc hF]
    rw[this,tk,Th];have e:[ds[i]].filter p=[]:=by simp[hp]
    rw[e,Xp];exact en7
   |true =>
    rw[if_pos rfl];refine thn (hE hp σ6 F7 (λv F8=>j4 F7 F8/\Enc X.K (del F8 (owns ρ2)) (g ds[i]) v) (R6.grow g7) (λv F8 g8 e8=>⟨g8,e8⟩) _ s7 I7) λy s8 ⟨v,F8,I8,r8,g8,e8⟩=>?_;obtain⟨hF,I8'⟩:=I5p.unhide hA I8;rw[eo]at e8;have eH:del (mrg [Dd] H5 F8) (Dd::owns ρ)=del F8 (owns ρ):=by
     have e:del (mrg [Dd] H5 F8) (Dd::owns ρ)=del (del (mrg [Dd] H5 F8) [Dd]) (owns ρ):=by rw[Qq];rfl
     rw[e,Vc hF]
    have hlen:ys.length<aj:=by have e1:=en7.length;have e2:((ds.take i).filter p).length<=(ds.take i).length:=Xv _ _;rw[kj]at e1;rw[Xn]at e2;omega
    refine thn (Nh _ s8 σ6 (mrg [Dd] H5 F8) (.ref Dd) [v] (.ref Dd) [y] (λ_ H9=>H9=upd (mrg [Dd] H5 F8) Dd (.lst (ys++[v]))) I8' rfl (.cons r8 .nil)
     ⟨Dd,ys,v,rfl,rfl,by rw[vq (xq.mpr rfl)];exact m5,hlen,rfl⟩) λ_ s9 ⟨_,H9,I9,_,e9⟩=>?_
    subst e9;obtain⟨I10,st10,fr10⟩:=i5 I9;have ed:del (upd (mrg [Dd] H5 F8) Dd (.lst (ys++[v]))) [Dd]=F8:=by rw[Yp (xq.mpr rfl),Vc hF]
    refine⟨ds.length-(i+1),by omega,i+1,σ6,_,ys++[v],I10,st10,fr10,hlt,rfl,by rw[ed];exact R7.grow g8,by rw[ed];exact g27.trans g8,j9,?_⟩;rw[Yp (xm ..),eH,tk,Th,Xd];have e:[ds[i]].filter p=[ds[i]]:=by simp[hp]
    rw[e];exact(en7.mono (jg g8)).append (.one e8)
  .have hi:i=ds.length:=by omega
   subst hi;refine thn (T.done (cCx X scope C s2 H2 fp (X.pn++pins)) rfl rfl rfl hc ds.length [] s3 σ3 H3 (λ_ _=>False) I3 (fpok fr3) st3 (stop (X3 _))) λr s4 ⟨hr,I4⟩=>?_;subst hr;rw[bF]at en3;obtain⟨m,hm,_⟩:=I4.loc;refine hRR Dd C ys H3 s4 m ?_ (g3.trans jo) hD0 m3 en3 hm ⟨I4.free,t7 (Pa loclt hDlt),?_,λx c h=>Xb (Pa (celllt x c h) hDlt),λp hp=>Xb (Pa (pinlt p hp) hDlt)⟩
   .exact I2.call' (ch:=fp) I4.os I4.base I4.hok I4.bare λb hb=>⟨(f2 b hb).2.2.2.1,(f2 b hb).2.1,(f2 b hb).2.2.2.2.1,(f2 b hb).2.2.2.2.2⟩
   .have:=I2.sz;omega
 exact codeAny_compStart_list (loop _ rfl) (T.self _ 0 _ _ _ (T.keep _ _ _ st2 (λb _ o e=>old b o e)) (loop _ rfl))
end
section
variable{X:Cx}{ρ:Rho}{tg elt iter:ai}{ifs:List ai}{scope:aX}{pos p1 spos:aG}{ds:List D}{cs:List Nat}{p:D->Bool}{g:D->D}{x:af}{P:Po}
theorem Ww{env:dh}{N:List af}(h:Jc scope env N cs=a6):∀y∈scope.names,y.2=.free->(env.cells.lookup y.1).isSome=a6:=λy hy e=>by unfold Jc at h;rw[Xk]at h;have:=Pr.mp h.1 y hy;simp only[Xk,bne_iff_ne,ne_eq,bQ]at this;exact this.2.elim (λz=>absurd e z) λz=>z.1
theorem W3{env:dh}{N:List af}(h:Jc scope env N cs=a6):∀y∈scope.names,y.2=.local->scope.names.lookup y.1=a3 .local:=λy hy e=>by unfold Jc at h;rw[Xk]at h;have:=Pr.mp h.1 y hy;simp only[Xk,bne_iff_ne,ne_eq,bQ,beq_iff_eq]at this;exact this.1.2.elim (λz=>absurd e z) λz=>z
theorem Inv.loose{pins:k7o}{σ:St}{H:Hp}{s:ae}{C:aa}{h':aB}(I:Inv X pins σ H s)(L:Loose X pins H C)(sb:bZ C s.heap h'):Inv X pins σ H { s with heap:=h' } :=
 I.turned (t':=s.toks) (λb o hb e=>sb.extBut b o hb e) L.free L.loc (.inr L.new) L.cell L.pin
theorem DO.comp(cs:List Nat)(p:D->Bool)(g:D->D)(hi:DI X ρ tg iter ds)
  (hb:∀C s H fp pn,∀d∈ds,∃ρ2,DG (cCx X scope C s H fp pn) ρ tg d ρ2/\Wk ρ2 ρ/\owns ρ2=owns ρ/\DTs (cCx X scope C s H fp pn) ρ2 ifs (p d)/\(p d=a6->DE (cCx X scope C s H fp pn) ρ2 elt (g d)))
  (hcs:∀j∈cs,ρ[j]?=a3 .un) (hsz:ds.length<=aj) (hc:X.calm=a6:=by rfl) (hkind:scope.kind=.function:=by rfl) (hok:Jc scope X.env X.N cs=a6:=by rfl)
  (hs:∀x,aD iter X.env x=pure x:=by intro _;rfl):DO X ρ (.ListComp elt [⟨tg,iter,ifs,0⟩] scope pos) ((ds.filter p).map g):=λσ H Q R q pins s I=>by
 rw[eval_ListComp];refine gP (use:=a7) rfl hs (O7 (Ww hok)) hkind (W3 hok) (thn (hi σ H (λJ H'=>j4 H H'/\Yi X.K (del H' (owns ρ)) J ds) R (λJ H' g1 ok=>⟨g1,ok⟩) pins s I) λv s1 h1=>thn h1 λitv s2 h2=>?_);obtain⟨it,fp,tn,J,H2,e,I2,T,st2,f2,g2,ok⟩:=h2;subst e;refine Nv (RR:=λacc C=>compPost (aw X.prog X.w) X.A X.xe a7 (EP X pins σ Q) acc C) I2 (R.grow g2) T st2 f2 ok hc hkind hok hcs hsz hb ?_;intro D C xs H' s' m I' gg n m' en hm L;exact⟨m,hm,λh' sb=>⟨.ref D,H',I'.loose L sb,rfl,q D xs H' (g2.trans gg) (g2.free n) m' en⟩⟩
theorem Wk.set{i:Nat}{d:D}(h:ρ[i]?=a3 .un):Wk (ρ.set i (.val d)) ρ:=λK σ H R=>by
 have q:=R.set_un (i:=i) (v:=(σ[i]?).join);have e:σ.set i ((σ[i]?).join)=σ:=by
  apply Tt;intro j;rw[cX];split
  .rename_i h;subst h;split
   .rename_i h;rw[kh h];rfl
   .rename_i h;rw[Xw nofun]
  .rfl
 have e2:(ρ.set i (.val d)).set i .un=ρ:=by
  rw[List.set_set];apply Tt;intro j;rw[cX];split
  .rename_i z;subst z;split
   .rw[h]
   .rename_i z;rw[Xw nofun]at h;cases h
  .rfl
 rw[e,e2]at q;exact q
theorem Zn{i:Nat}{d:D}(h:ρ[i]?=a3 .un):owns (ρ.set i (.val d))=owns ρ:=Wo rfl λa l z=>by rw[h]at z;cases z
end
section
variable{prog:aq}{w:ax}{A:az}{E:k7n}{s:ae}
theorem j1o{j t:aa}{k:Nat}{its:Array a8}{y:a8}{Q:k7n}(hj:s.heap.IsTupleIter j t k)(ht:s.heap.IsTuple t its)(hy:its[k]?=a3 y)
  (q:∀h',h'.IsTupleIter j t (k+1)->bZ j s.heap h'->Q y { s with heap:=h' }):ao (aw prog w) A (aO (.ref j)) Q E s:=by
 obtain⟨o,ho,hc,hd⟩:=id hj;obtain⟨ot,hot,_,m,hdt⟩:=ht;unfold aO;refine a5 (bh (name:=cF "__next__") hj.typeIs bI (bg bI hj.typeIs fN ?_ (fE _)));show ao _ _ (field (.ref j) 0 >>= _) _ _ s;refine a5 (cf ho hd (x:=.ref t) rfl ?_);show ao _ _ (if (aA t==aK)=a6 then _ else _) _ _ s;rw[if_neg (show ¬((aA t==aK)=a6)from xj)];show ao _ _ (field (.ref j) 1 >>= _) _ _ s;refine a5 (cf ho hd (x:=.int k 0) rfl ?_);show ao _ _ (fF (.ref t) >>= _) _ _ s;refine a5 (d7 hot hdt ?_);simp only[Xi,hy];refine a5 (dS ho hd (by simp) (ah ⟨y,rfl,ah (q _ ?_ (t6 ..))⟩));exact⟨_,gh _ ho (gz (cQ hd _)),(iz ..).trans hc,by rw[cQ hd];simp[dj]⟩
theorem j3t{j t:aa}{k:Nat}{its:Array a8}{Q:k7n}(hh:A.handled=a7)(hj:s.heap.IsTupleIter j t k)(ht:s.heap.IsTuple t its)(hy:its[k]?=a7)
  (q:∀h' x,dy j s.heap h'->(∃o,h'.get? x=a3 o/\o.cls=.type "StopIteration")->E (.ref x) { s with heap:=h' }):ao (aw prog w) A (aO (.ref j)) Q E s:=by
 obtain⟨o,ho,hc,hd⟩:=id hj;obtain⟨ot,hot,_,m,hdt⟩:=ht;unfold aO;refine a5 (bh (name:=cF "__next__") hj.typeIs bI (bg bI hj.typeIs fN ?_ (fE _)));show ao _ _ (field (.ref j) 0 >>= _) _ _ s;refine a5 (cf ho hd (x:=.ref t) rfl ?_);show ao _ _ (if (aA t==aK)=a6 then _ else _) _ _ s;rw[if_neg (show ¬((aA t==aK)=a6)from xj)];show ao _ _ (field (.ref j) 1 >>= _) _ _ s;refine a5 (cf ho hd (x:=.int k 0) rfl ?_);show ao _ _ (fF (.ref t) >>= _) _ _ s;refine a5 (d7 hot hdt ?_);simp only[Xi,hy];refine a5 (wpAny_rule (a5 (dS ho hd (by simp) ?_)));show ao _ _ (kS (.type "StopIteration") [] >>= _) _ _ _;refine a5 ?_;simp only[kS,newTuple];refine a5 (aF ?_ (by size_fits));refine a5 (m:=dY _ _) (fO (a:=aK) (by first|rfl|(simp only[dY];rfl)) ?_);refine aF ?_ (by size_fits);simp only[raiseNew];refine a5 (kX ?_)
 first|rw[show A.in1.handled=a7 from hh]|rw[hh]
 refine a5 (ah (wpAny_throw ?_));exact q _ _ (((t6 ..).extBut.push _).push _) ⟨_,X5 _ rfl,rfl⟩
end
def qy(lst:Bool)(h:aB)(j t:aa)(k:Nat):Prop:=if lst=a6 then h.IsListIter j t k else h.IsTupleIter j t k
def qp(lst:Bool)(h:aB)(t:aa)(its:Array a8):Prop:=if lst=a6 then h.IsList t its else h.IsTuple t its
section
variable{prog:aq}{w:ax}{A:az}{E:k7n}{s:ae}{lst:Bool}{h h':aB}{j t b:aa}{k:Nat}{its:Array a8}
theorem qy.ext(x:qy lst h j t k)(e:dy b h h')(n:j≠b):qy lst h' j t k:=by
 unfold qy at x ⊢;cases lst with
 |true=>rw[if_pos rfl]at x ⊢;exact x.extBut e n
 |false=>rw[if_neg xj]at x ⊢;exact x.extBut e n
theorem qy.stay(x:qy lst h j t k)(e:∀o,h.get? j=a3 o->h'.get? j=a3 o):qy lst h' j t k:=by
 unfold qy at x ⊢;cases lst with
 |true=>rw[if_pos rfl]at x ⊢;exact x.at e
 |false=>rw[if_neg xj]at x ⊢;exact x.at e
theorem qy.obj(x:qy lst h j t k):∃o,h.get? j=a3 o/\∀v,o.data≠.cell v:=by
 unfold qy at x;cases lst with
 |true=>rw[if_pos rfl]at x;obtain⟨o,e,c,d⟩:=x;exact⟨o,e,λv z=>by rw[d]at z;cases z⟩
 |false=>rw[if_neg xj]at x;obtain⟨o,e,c,d⟩:=x;exact⟨o,e,λv z=>by rw[d]at z;cases z⟩
theorem qp.ext(x:qp lst h t its)(e:dy b h h')(n:t≠b):qp lst h' t its:=by
 unfold qp at x ⊢;cases lst with
 |true=>rw[if_pos rfl]at x ⊢;exact x.extBut e n
 |false=>rw[if_neg xj]at x ⊢;exact x.extBut e n
theorem j26{y:a8}{Q:k7n}(hj:qy lst s.heap j t k)(ht:qp lst s.heap t its)(hy:its[k]?=a3 y)
  (q:∀h',qy lst h' j t (k+1)->bZ j s.heap h'->Q y { s with heap:=h' }):ao (aw prog w) A (aO (.ref j)) Q E s:=by
 unfold qy at hj q;unfold qp at ht;cases lst with
 |true=>rw[if_pos rfl]at hj ht;simp only[if_true]at q;exact wpAny_nextOf_list_item hj ht hy q
 |false=>rw[if_neg xj]at hj ht;simp only[pq,if_false]at q;exact j1o hj ht hy q
theorem Ck{Q:k7n}(hh:A.handled=a7)(hj:qy lst s.heap j t k)(ht:qp lst s.heap t its)(hy:its[k]?=a7)
  (q:∀h' x,dy j s.heap h'->(∃o,h'.get? x=a3 o/\o.cls=.type "StopIteration")->E (.ref x) { s with heap:=h' }):ao (aw prog w) A (aO (.ref j)) Q E s:=by
 unfold qy at hj;unfold qp at ht;cases lst with
 |true=>rw[if_pos rfl]at hj ht;exact wpAny_nextOf_list_end hh hj ht hy q
 |false=>rw[if_neg xj]at hj ht;exact j3t hh hj ht hy q
end
section
variable{prog:aq}{w:ax}{A:az}{E:k7n}{s:ae}{l1 l2:Bool}{z TI TO i1 i2 t1 t2:aa}{k:Nat}{us vs:Array a8}{x y a b:a8}
end
noncomputable def Cm(lst:Bool):String:=if lst=a6 then "list_iterator" else "tuple_iterator"
noncomputable abbrev zh1(h:aB)(l1:Bool)(t1:aa):aB:=h.push { cls:=.type (Cm l1),data:=.fields #[.ref t1,.int 0 0] }
section
variable{prog:aq}{w:ax}{A:az}{E:k7n}{s:ae}{l1 l2:Bool}{t1 t2:aa}{us vs:Array a8}
theorem Ut{lst:Bool}{t:aa}{its:Array a8}{Q:k7n}(h:qp lst s.heap t its)(q:Q (.ref s.heap.objs.size) { s with heap:=zh1 s.heap lst t }):ao (aw prog w) A (ij (.ref t)) Q E s:=by
 unfold qp at h;cases lst with
 |true=>rw[if_pos rfl]at h;exact bE h q
 |false=>rw[if_neg xj]at h;exact eW h q
end
def SqB(K:k7m)(lst:Bool)(H:Hp)(a:aa)(xs:List V):Prop:=if lst=a6 then SqL K H a xs else SqT K H a xs
section
variable{X:Cx}{pins:k7o}{σ:St}{H:Hp}{s:ae}{a p:aa}{xs ys:List V}{lst:Bool}{ch:List aa}{h':aB}
theorem j4.seqB{K:k7m}{H':Hp}(e:j4 H H')(h:SqB K lst H a xs):SqB K lst H' a xs:=by
 unfold SqB at h ⊢;cases lst with
 |true=>rw[if_pos rfl]at h ⊢;exact e.seq h
 |false=>rw[if_neg xj]at h ⊢;exact e.seqT h
theorem Inv.side(I:Inv X pins σ H s)(h:SqB X.K lst H a xs):∃us:List a8,Vals xs us/\qp lst s.heap a us.toArray/\xs.length<=aj:=by
 unfold SqB at h;unfold qp;cases lst with
 |true=>rw[if_pos rfl]at h;obtain⟨its,r,q,l⟩:=I.list h;exact⟨its,r,by rw[if_pos rfl];exact q.isList,l⟩
 |false=>rw[if_neg xj]at h;obtain⟨its,r,q,l⟩:=I.tuple h;exact⟨its,r,by rw[if_neg xj];exact q,l⟩
theorem Inv.side_inj(I:Inv X pins σ H s)(h:SqB X.K lst H a xs)(h':SqB X.K lst H a ys):xs=ys:=by
 unfold SqB at h h';cases lst with
 |true=>rw[if_pos rfl]at h h';exact I.list_inj h h'
 |false=>rw[if_neg xj]at h h';exact I.tuple_inj h h'
theorem Inv.chg(I:Inv X pins σ H s)(hf:∀b∈ch,Q9 X pins H b)(kp:∀c o,c∉ch->s.heap.get? c=a3 o->h'.get? c=a3 o):Inv X pins σ H { s with heap:=h' }:=by
 refine I.step (g':=s.gens) (t':=s.toks) (d':=s.drawn) (ch:=ch) (λb hb=>⟨(hf b hb).2.2.2.1,(hf b hb).2.1,(hf b hb).2.2.2.2.1,(hf b hb).2.2.2.2.2⟩) (λb o _ _ nc e _=>kp b o nc e) (λb o _ _ nc e _=>⟨o.slots,kp b o nc e⟩)
  (λb o _ _ n=>n) (λb o nc e=>⟨o,kp b o nc e⟩) (λb xs e=>e) (λb o u e=>e) (λb ps e=>⟨#[],by rw[e];simp⟩) (λm hm=>hm.at' λo e=>kp _ o (λz=>(hf _ z).2.1 rfl) e) (λc o e=>?_) I.bare
 have out:∀{b:aa}{u:HO},H b=a3 u->b∉ch:=λ{b u} q z=>by rw[(hf b z).1]at q;cases q
 refine je.stay (I.hok c o e) (λb u hb q=>kp b u ?_ q) (λb q=>q) (λb xs q=>q) (λb _ _ q=>q);rcases hb with hb|hb
 .subst hb;exact out e
 .exact out hb
theorem Inv.chgT(I:Inv X pins σ H s)(hf:∀b∈ch,Q9 X pins H b)(kp:∀c o,c∉ch->s.heap.get? c=a3 o->h'.get? c=a3 o){us:List a8}(rv:Vals xs us)(hl:xs.length<=aj)
  (hp:gu h' s.heap.objs.size us.toArray) (hq:Z5 h' s.heap.objs.size):Inv X pins σ (upd H s.heap.objs.size (.tup xs)) { s with heap:=h' }:=by
 have hn:=I.fresh;have nz:∀{b:aa}{o:de},s.heap.get? b=a3 o->b≠s.heap.objs.size:=λ{b o} e=>Xb (xu e);have tr:∀{b:aa}{u:HO},H b=a3 u->upd H s.heap.objs.size (.tup xs) b=a3 u:=λ{b u} e=>by rw[ji (zr e hn)];exact e
 refine I.step (g':=s.gens) (t':=s.toks) (d':=s.drawn) (ch:=ch) (λb hb=>⟨(hf b hb).2.2.2.1,(hf b hb).2.1,(hf b hb).2.2.2.2.1,(hf b hb).2.2.2.2.2⟩) (λb o _ _ nc e _=>kp b o nc e) (λb o _ _ nc e _=>⟨o.slots,kp b o nc e⟩)
  (λb o _ e n=>by rw[ji (nz e)];exact n) (λb o nc e=>⟨o,kp b o nc e⟩) (λb xs e=>tr e) (λb o u e=>tr e) (λb ps e=>⟨#[],by rw[tr e];simp⟩) (λm hm=>hm.at' λo e=>kp _ o (λz=>(hf _ z).2.1 rfl) e) (λc o e=>?_) I.bare
 have out:∀{b:aa}{u:HO},H b=a3 u->b∉ch:=λ{b u} q z=>by rw[(hf b z).1]at q;cases q
 by_cases z:c=s.heap.objs.size
 .subst z;rw[j9]at e;cases e;exact⟨hl,us,rv,hp,hq⟩
 .rw[ji z]at e;refine je.stay (I.hok c o e) (λb u hb q=>kp b u ?_ q) (λb q=>tr q) (λb xs q=>tr q) (λb _ _ q=>tr q);rcases hb with hb|hb
  .subst hb;exact out e
  .exact out hb
end
section
variable{X:Cx}{ρ:Rho}{a b:ai}{es:List ai}{n:Nat}{pos p q1 q2:aG}{ds ds':List D}{l1 l2:Bool}
noncomputable def D.seq(lst:Bool)(ds:List D):D:=if lst=a6 then .lst ds else .tup ds
theorem Ze{K:k7m}{H:Hp}{lst:Bool}{v:V}(h:Enc K H (D.seq lst ds) v):∃t xs,v=.ref t/\SqB K lst H t xs/\j5 K H ds xs:=by
 unfold D.seq at h;unfold SqB;cases lst with
 |true=>rw[if_pos rfl]at h;obtain⟨t,xs,e,s,l⟩:=h;exact⟨t,xs,e,by rw[if_pos rfl];exact s,l⟩
 |false=>rw[if_neg xj]at h;obtain⟨t,xs,e,s,l⟩:=h;exact⟨t,xs,e,by rw[if_neg xj];exact s,l⟩
theorem DG.pair{x y:af}(i j:Nat){d d':D}(hij:i≠j)(hN:X.N.Nodup)(hi:X.N[i]?=a3 x:=by rfl)(hj:X.N[j]?=a3 y:=by rfl)(hx:Loc X.env.scope x:=by first|exact aY rfl|exact bu rfl)(hy:Loc X.env.scope y:=by first|exact aY rfl|exact bu rfl)
  (fx:X.fn x=a6\/X.env.scope.names.lookup x=a3 .local:=by first|exact .inl rfl|exact .inr rfl) (fy:X.fn y=a6\/X.env.scope.names.lookup y=a3 .local:=by first|exact .inl rfl|exact .inr rfl) (hc:X.calm=a6:=by rfl)
  (hn:(bq [.Name x q1,.Name y q2] X.env).length=2:=by rfl) (hst:(bq [.Name x q1,.Name y q2] X.env).findIdx? (·.1)=a7:=by rfl)
  (e1:(bq [.Name x q1,.Name y q2] X.env).map (·.2)=eA (.Name x q1) X.env::(bq [.Name y q2] X.env).map (·.2):=by rfl) (e2:(bq [.Name y q2] X.env).map (·.2)=eA (.Name y q2) X.env::(bq [] X.env).map (·.2):=by rfl) :
  DG X ρ (.Tuple [.Name x q1,.Name y q2] n pos) (.tup [d,d']) ((ρ.set i (.val d)).set j (.val d')):=by
 refine⟨λb hb=>(jf rfl).subset ((jf rfl).subset hb),λσ H v Q R en q=>?_⟩;obtain⟨t,xs,ev,sq,u,r,e,eu,u',r',e',eu',er⟩:=en;subst e e' ev er;refine(j2o hc (Vj (Za hN hi hx fx) (Vj (Za hN hj hy fy) Ej e2) e1) hn hst).to ⟨t,[u,u'],rfl,jo.seqT sq,rfl,u,[u'],rfl,u',[],rfl,rfl,?_⟩;refine q _ ?_;have R1:Rep X.K (ρ.set i (.val d)) (σ.set i (a3 u)) H:=R.set_val eu;exact R1.set_val (eu'.mono (zx λb hb=>(jf rfl).subset hb))
end
noncomputable def D.ty:D->String
 |.non=>"NoneType"
 |.bl _=>"bool"
 |.int _=>"int"
 |.str _=>"str"
 |.tup _=>"tuple"
 |.lst _=>"list"
 |.dct _ _=>"dict"
 |.sct _=>"dict"
 |.fn _ _=>"function"
section
variable{X:Cx}{pins:k7o}{σ:St}{H:Hp}{s:ae}{A:az}{E:k7n}{Q:k7n}{c:a8}{b:Bool}
theorem j3e {d:D} {v:V} {u:a8} (I:Inv X pins σ H s) (en:Enc X.K H d v) (r:RelV v u) (nf:d.ty ≠ "function"):∃P:aB->Prop,PySem.W.KitX X.K u (.type d.ty) P/\P s.heap/\u≠.builtin "__main__.__loader__#opaque":=by
 cases d with
 |non=>cases(show v=.non from en);cases(show u=aK from r);exact⟨_,W.kitx_none,trivial,λz=>nomatch z⟩
 |bl k=>cases(show v=.bl k from en);cases(show u=be k from r);exact⟨_,W.kitx_bool,trivial,λz=>nomatch z⟩
 |int k=>cases(show v=.int k from en);obtain⟨t,q⟩:=(show ∃t,u=b8 k t from r);cases q;exact⟨_,W.kitx_int,trivial,λz=>nomatch z⟩
 |str k=>cases(show v=.str k from en);obtain⟨t,q⟩:=(show ∃t,u=bA k t from r);cases q;exact⟨_,W.kitx_str,trivial,λz=>nomatch z⟩
 |tup l =>obtain⟨a,xs,e,sq,_⟩:=en;subst e;cases(show u=aA a from r);obtain⟨its,_,⟨o,h1,h2,_⟩,_⟩:=I.tuple sq;exact⟨_,W.kitx_tuple,⟨o,h1,h2⟩,λz=>nomatch z⟩
 |lst l =>obtain⟨a,xs,e,sq,_⟩:=en;subst e;cases(show u=aA a from r);obtain⟨its,_,⟨o,n,h1,h2,_⟩,_⟩:=I.list sq;exact⟨_,W.kitx_list,⟨o,h1,h2⟩,λz=>nomatch z⟩
 |dct ks l =>
  obtain⟨a,xs,ep,vs,e,hx,_⟩:=en;subst e;cases(show u=aA a from r);obtain⟨_,_,_,o,es,h1,h2,_⟩:=(show je X.prog X.w H s.heap a (.dI xs ep)from I.hok _ _ hx)
  exact⟨_,W.kitx_dict,⟨o,h1,h2.1⟩,λz=>nomatch z⟩
 |sct k =>
  obtain⟨a,e,hx⟩:=en;subst e;cases(show u=aA a from r);obtain⟨_,_,vs,_,o,es,ep,h1,h2,_⟩:=(show je X.prog X.w H s.heap a (.dK (kvI k))from I.hok _ _ hx)
  exact⟨_,W.kitx_dict,⟨o,h1,h2.1⟩,λz=>nomatch z⟩
 |fn x l=>exact absurd rfl nf
theorem j4b:J5 X (.builtin "isinstance") (λxs H Q=>∃v d c b,xs=[v,.ty c]/\Enc X.K H d v/\d.ty ≠ "function"/\W.kitOne X.K (.type d.ty) (.type c)=a3 b/\Q (.bl b) H):=by rintro pins s σ H xs us Q I r ⟨v,d,c,b,e,en,nf,k,q⟩;subst e;obtain⟨u,u',eu,r1,r2⟩:=vals2 r;subst eu;cases(show u'=cg c from r2);obtain⟨P,Z,hp,hn⟩:=j3e I en r1 nf;exact W.kia_one Z I.kIn hp k hn λtk=>⟨.bl b,H,I.tok tk,rfl,q⟩
theorem j4a:J5 X (.builtin "isinstance") (λxs H Q=>∃(v:V)(t:aa)(d:D)(cs:List String)(b:Bool),xs=[v,.ref t]/\Enc X.K H d v/\d.ty ≠ "function"/\SqT X.K H t (cs.map V.ty)/\W.kitAny X.K (.type d.ty) (cs.map cg)=a3 b/\Q (.bl b) H):=by
 rintro pins s σ H xs us Q I r ⟨v,t,d,cs,b,e,en,nf,sq,k,q⟩;subst e;obtain⟨u,u',eu,r1,r2⟩:=vals2 r;subst eu;cases(show u'=aA t from r2);obtain⟨P,Z,hp,hn⟩:=j3e I en r1 nf;obtain⟨its,rv,⟨⟨cl,dd,da,sl⟩,h1,h2,n,h3⟩,_⟩:=I.tuple sq;have h2:cl=.type "tuple":=h2;have h3:da=.seq its.toArray n:=h3;subst h2 h3;have ei:∀{cs:List String}{its:List a8},Vals (cs.map V.ty) its->its=cs.map cg:=λ{cs}=>by
  induction cs with
  |nil=>intro its h;exact h.zero
  |cons c cs ih=>intro its h;cases h with|cons a b=>cases a;rw[ih b];rfl
 rw[ei rv]at h1;exact W.kia_tup Z I.kIn hp h1 k hn λtk=>⟨.bl b,H,I.tok tk,rfl,q⟩
end
section
variable{X:Cx}{ρ:Rho}{a b:ai}{d:D}{pos p p1 p2 p3:aG}{T T1 T2:af}{c c1 c2:String}{k:Bool}{n:Nat}
theorem j13 (hg:Gl X T) (hm:X.mg T=a7) (hv:aU T=a3 (.type c)) (hn:T ≠ "__name__":=by decide) (hd:(T==k7q)=a4:=by decide):PE X (.Name T p) (tC (.ty c)):=j8u hg hm hv rfl hn hd
theorem DE.isi1 (ha:DT X ρ a d) (nf:d.ty ≠ "function") (hm:X.mg "isinstance" = a7) (hT:X.mg T=a7) (hv:aU T=a3 (.type c)) (hk:W.kitOne X.K (.type d.ty) (.type c)=a3 k) (hg:Gl X "isinstance":=by rfl) (hg2:Gl X T:=by rfl)
  (hn:T ≠ "__name__":=by decide) (hd:(T==k7q)=a4:=by decide)
  (hs:a9 [a,.Name T p2] X.env=(a4,ay a X.env)::a9 [.Name T p2] X.env:=by rfl) (hs2:a9 [.Name T p2] X.env=(a4,ay (.Name T p2) X.env)::a9 [] X.env:=by rfl) (hpl:(aP pos (a9 [.Name T p2] X.env)).any (·.1)=a4:=by rfl) :
  DE X ρ (.Call (.Name "isinstance" p) [a,.Name T p2] [] pos) (.bl k):=λσ H Q R q =>
 (v6 j4b hg hm kJ (jd peS (jd (j13 hg2 hT hv hn hd) jz hs2) hs) (by decide) (by decide) hs hpl).to (ha σ H _ R λv H1 g1 e1=>⟨v,d,c,k,rfl,e1,nf,hk,q _ H1 g1 rfl⟩)
theorem DE.isi2 {m:Nat} (ha:DT X ρ a d) (nf:d.ty ≠ "function") (hm:X.mg "isinstance" = a7) (hT1:X.mg T1=a7) (hT2:X.mg T2=a7) (hv1:aU T1=a3 (.type c1)) (hv2:aU T2=a3 (.type c2))
  (hk:W.kitAny X.K (.type d.ty) [.type c1,.type c2]=a3 k) (hg:Gl X "isinstance":=by rfl) (hg1:Gl X T1:=by rfl) (hg2:Gl X T2:=by rfl)
  (hn1:T1 ≠ "__name__":=by decide) (hd1:(T1==k7q)=a4:=by decide) (hn2:T2 ≠ "__name__":=by decide) (hd2:(T2==k7q)=a4:=by decide)
  (hs:a9 [a,.Tuple [.Name T1 p1,.Name T2 p2] m p3] X.env=(a4,ay a X.env)::a9 [.Tuple [.Name T1 p1,.Name T2 p2] m p3] X.env:=by rfl)
  (hs2:a9 [.Tuple [.Name T1 p1,.Name T2 p2] m p3] X.env=(a4,ay (.Tuple [.Name T1 p1,.Name T2 p2] m p3) X.env)::a9 [] X.env:=by rfl) (hpl:(aP pos (a9 [.Tuple [.Name T1 p1,.Name T2 p2] m p3] X.env)).any (·.1)=a4:=by rfl)
  (hs3:a9 [.Name T1 p1,.Name T2 p2] X.env=(a4,ay (.Name T1 p1) X.env)::a9 [.Name T2 p2] X.env:=by rfl) (hs4:a9 [.Name T2 p2] X.env=(a4,ay (.Name T2 p2) X.env)::a9 [] X.env:=by rfl) :
  DE X ρ (.Call (.Name "isinstance" p) [a,.Tuple [.Name T1 p1,.Name T2 p2] m p3] [] pos) (.bl k):=λσ H Q R q =>
 (v6 j4a hg hm kJ (jd peS (jd (j2p (jd (j13 hg1 hT1 hv1 hn1 hd1) (jd (j13 hg2 hT2 hv2 hn2 hd2) jz hs4) hs3)) jz hs2) hs) (by decide) (by decide) hs hpl).to
  (ha σ H _ R λv H1 g1 e1=>⟨by show 2<=aj;decide,λt ht=>⟨v,t,d,[c1,c2],k,rfl,e1.mono (j7 ht),nf,.inl (.inl j9),hk,q _ _ (g1.trans (j7 ht)) rfl⟩⟩)
end
mutual
noncomputable def deq:D->D->Bool
 |.non,.non=>a6
 |.bl a,.bl b=>a==b
 |.bl a,.int b=>(if a then 1 else 0)==b
 |.int a,.bl b=>a==(if b then 1 else 0)
 |.int a,.int b=>a==b
 |.str a,.str b=>a==b
 |.tup xs,.tup ys=>zp xs ys
 |.lst xs,.lst ys=>zp xs ys
 |.dct k xs,.dct m ys=>decide (k=m)&&zp xs ys
 |.sct k,.sct m=>decide (k=m)
 |_,_=>a4
noncomputable def zp:List D->List D->Bool
 |[],[]=>a6
 |x::xs,y::ys=>deq x y&&zp xs ys
 |_,_=>a4
end
theorem jdh{a b:Bool}:deq (.bl a) (.bl b)=(a==b):=(rfl)
theorem Kc{a b:Int}:deq (.int a) (.int b)=(a==b):=(rfl)
theorem j3u{a b:af}:deq (.str a) (.str b)=(a==b):=(rfl)
theorem O4{a b:List D}:deq (.tup a) (.tup b)=zp a b:=(rfl)
theorem Ka{a b:List D}:deq (.lst a) (.lst b)=zp a b:=(rfl)
theorem Vp:zp [] []=a6:=(rfl)
theorem Jv{x y:D}{xs ys:List D}:zp (x::xs) (y::ys)=(deq x y&&zp xs ys):=(rfl)
theorem We{y:D}{ys:List D}:zp [] (y::ys)=a4:=(rfl)
theorem Wf{x:D}{xs:List D}:zp (x::xs) []=a4:=(rfl)
mutual
noncomputable def D.dep:D->Nat
 |.tup xs=>D.depL xs+1
 |.lst xs=>D.depL xs+1
 |.dct _ _=>20000
 |.sct _=>20000
 |.fn _ _=>20000
 |_=>0
noncomputable def D.depL:List D->Nat
 |[]=>0
 |x::xs=>max x.dep (D.depL xs)
end
mutual
theorem Rv:∀d:D,d.dep<10000->deq d d=a6
 |.non,_=>rfl
 |.bl b,_=>by rw[jdh];simp
 |.int i,_=>by rw[Kc];simp
 |.str x,_=>by rw[j3u];simp
 |.tup xs,h=>by rw[O4];exact W0 xs (by simp only[D.dep]at h;omega)
 |.lst xs,h=>by rw[Ka];exact W0 xs (by simp only[D.dep]at h;omega)
 |.dct _ _,h=>by simp[D.dep]at h
 |.sct _,h=>by simp[D.dep]at h
 |.fn _ _,h=>by simp[D.dep]at h
theorem W0:∀ds:List D,D.depL ds<10000->zp ds ds=a6
 |[],_=>rfl
 |d::ds,h=>by rw[D.depL]at h;rw[Jv,Rv d nofun,W0 ds nofun];rfl
end
theorem Vq:∀{xs ys:List D},xs.length≠ys.length->zp xs ys=a4
 |[],[],h=>absurd rfl h
 |[],_::_,_=>by simp[Vp,Jv,We,Wf]
 |_::_,[],_=>by simp[Vp,Jv,We,Wf]
 |x::xs,y::ys,h=>by have:=Vq (xs:=xs) (ys:=ys) (by simpa using h);simp[Vp,Jv,We,Wf,this]
theorem Qz{f:Nat->Bool}:∀{xs ys:List D},xs.length=ys.length->(∀(j:Nat) x y,xs[j]?=a3 x->ys[j]?=a3 y->f j=deq x y)->(ar xs.length).all f=zp xs ys
 |[],[],_,_=>by simp[Vp,Jv,We,Wf]
 |[],_::_,h,_=>by simp at h
 |_::_,[],h,_=>by simp at h
 |x::xs,y::ys,h,hf=>by have ih:=Qz (f:=λj=>f (j+1)) (xs:=xs) (ys:=ys) (by simpa using h) (λj a b ha hb=>hf (j+1) a b (by simpa using ha) (by simpa using hb));rw[xn,c8,fT,hf 0 x y rfl rfl,jR];simp only[Jv];rw[<-ih];rfl
section
variable{X:Cx}{pins:k7o}{σ:St}{H:Hp}{s:ae}
theorem Li(I:Inv X pins σ H s){a:aa}{xs ys:List V}(h:SqT X.K H a xs)(h':SqL X.K H a ys):False:=by obtain⟨_,_,⟨o,h1,h2,_⟩,_⟩:=I.tuple h;obtain⟨_,_,⟨o',n,h1',h2',_⟩,_⟩:=I.list h';rw[h1]at h1';cases h1';rw[h2]at h2';injection h2' with e;exact absurd e (by decide)
noncomputable def D.atom:D->Option V
 |.non=>a3 .non
 |.bl b=>a3 (.bl b)
 |.int i=>a3 (.int i)
 |.str x=>a3 (.str x)
 |_=>a7
theorem Enc.at_{K:k7m}{d:D}{v u:V}(h:Enc K H d v)(e:d.atom=a3 u):v=u:=by
 cases d with
 |non=>cases e;exact(show v=.non from h)
 |bl b=>cases e;exact(show v=.bl b from h)
 |int i=>cases e;exact(show v=.int i from h)
 |str x=>cases e;exact(show v=.str x from h)
 |_=>cases e
theorem Enc.ref{K:k7m}{d:D}{v:V}(h:Enc K H d v)(e:d.atom=a7):∃a,v=.ref a:=by
 cases d with
 |tup l=>obtain⟨a,_,e,_⟩:=h;exact⟨a,e⟩
 |lst l=>obtain⟨a,_,e,_⟩:=h;exact⟨a,e⟩
 |dct k l=>obtain⟨a,_,_,_,e,_⟩:=h;exact⟨a,e⟩
 |sct k=>obtain⟨a,e,_⟩:=h;exact⟨a,e⟩
 |fn x l=>obtain⟨a,_,_,_,_,e,_⟩:=h;exact⟨a,e⟩
 |_=>cases e
theorem j74{d d':D}{u:V}(h:d.atom=a3 u)(h':d'.atom=a3 u):d=d':=by cases d<;>cases d'<;>first|(cases h;done)|(cases h';done)|(cases h;cases h';rfl)|(cases h;cases h')
theorem Ks{d:D}{a:aa}(h:d.atom=a3 (.ref a)):False:=by cases d<;>cases h
theorem jct(I:Inv X pins σ H s){d d':D}{v:V}(hd:d.dep<10000)(hd':d'.dep<10000)(h:Enc X.K H d v)(h':Enc X.K H d' v) :
  d=d'\/∃ds ds' xs,((d=.tup ds/\d'=.tup ds')\/(d=.lst ds/\d'=.lst ds'))/\j5 X.K H ds xs/\j5 X.K H ds' xs:=by
 cases e:d.atom with
 |some u =>
  have ev:=h.at_ e;subst ev;cases e':d'.atom with
  |some u'=>exact .inl (j74 e ((h'.at_ e')▸e'))
  |none=>obtain⟨a,ea⟩:=h'.ref e';subst ea;exact(Ks e).elim
 |none =>
  cases e':d'.atom with
  |some u'=>have ev:=h'.at_ e';subst ev;obtain⟨a,ea⟩:=h.ref e;subst ea;exact(Ks e').elim
  |none =>
   cases d with
   |tup ds =>
    obtain⟨a,xs,ea,sq,l⟩:=h;cases d' with
    |tup ds' =>obtain⟨a',ys,eb,sq',l'⟩:=h';rw[ea]at eb;cases eb;rw[I.tuple_inj sq' sq]at l';exact .inr ⟨ds,ds',xs,.inl ⟨rfl,rfl⟩,l,l'⟩
    |lst ds'=>obtain⟨a',ys,eb,sq',l'⟩:=h';rw[ea]at eb;cases eb;exact(Li I sq sq').elim
    |dct _ _=>simp[D.dep]at hd'
    |sct _=>simp[D.dep]at hd'
    |fn _ _=>simp[D.dep]at hd'
    |_=>cases e'
   |lst ds =>
    obtain⟨a,xs,ea,sq,l⟩:=h;cases d' with
    |lst ds' =>obtain⟨a',ys,eb,sq',l'⟩:=h';rw[ea]at eb;cases eb;rw[I.list_inj sq' sq]at l';exact .inr ⟨ds,ds',xs,.inr ⟨rfl,rfl⟩,l,l'⟩
    |tup ds'=>obtain⟨a',ys,eb,sq',l'⟩:=h';rw[ea]at eb;cases eb;exact(Li I sq' sq).elim
    |dct _ _=>simp[D.dep]at hd'
    |sct _=>simp[D.dep]at hd'
    |fn _ _=>simp[D.dep]at hd'
    |_=>cases e'
   |dct _ _=>simp[D.dep]at hd
   |sct _=>simp[D.dep]at hd
   |fn _ _=>simp[D.dep]at hd
   |_=>cases e
theorem j66{n:Nat}(ih:∀{d d':D}{v:V},d.dep<=n->d.dep<10000->d'.dep<10000->Enc X.K H d v->Enc X.K H d' v->d=d'):∀{ds ds':List D}{xs:List V},D.depL ds<=n->D.depL ds<10000->D.depL ds'<10000->j5 X.K H ds xs->j5 X.K H ds' xs->ds=ds'
 |[],[],_,_,_,_,_,_=>rfl
 |[],_::_,_,_,_,_,h,⟨x,r,e,_⟩=>by cases h;cases e
 |_::_,[],_,_,_,_,⟨x,r,e,_⟩,h=>by cases h;cases e
 |d::ds,d'::ds',_,m,n1,n2,⟨x,r,e,h,l⟩,⟨x',r',e',h',l'⟩=>by subst e;cases e';rw[D.depL]at m n1 n2;rw[ih nofun nofun nofun h h',j66 ih nofun nofun nofun l l']
theorem j65(I:Inv X pins σ H s):∀(n:Nat){d d':D}{v:V},d.dep<=n->d.dep<10000->d'.dep<10000->Enc X.K H d v->Enc X.K H d' v->d=d'
 |0,d,d',v,hn,hd,hd',h,h'=>by
  rcases jct I hd hd' h h' with e|⟨ds,ds',xs,⟨e,_⟩|⟨e,_⟩,_⟩
  .exact e
  .subst e;simp[D.dep]at hn
  .subst e;simp[D.dep]at hn
 |n+1,d,d',v,hn,hd,hd',h,h'=>by
  rcases jct I hd hd' h h' with e|⟨ds,ds',xs,⟨e,e'⟩|⟨e,e'⟩,l,l'⟩
  .exact e
  .subst e e';simp only[D.dep]at hn hd hd';rw[j66 (λa b c=>j65 I n a b c) nofun nofun nofun l l']
  .subst e e';simp only[D.dep]at hn hd hd';rw[j66 (λa b c=>j65 I n a b c) nofun nofun nofun l l']
theorem Enc.inj(I:Inv X pins σ H s){d d':D}{v:V}(hd:d.dep<10000)(hd':d'.dep<10000)(h:Enc X.K H d v)(h':Enc X.K H d' v):d=d':=j65 I d.dep (X3 _) hd hd' h h'
end
section
variable{X:Cx}{pins:k7o}{σ:St}{H:Hp}{s:ae}
theorem D.depL_le:∀{ds:List D}{j:Nat}{d:D},ds[j]?=a3 d->d.dep<=D.depL ds
 |[],_,_,h=>by simp at h
 |x::xs,0,d,h=>by simp at h;subst h;simp[D.depL];omega
 |x::xs,j+1,d,h=>by have:=D.depL_le (ds:=xs) (j:=j) (d:=d) (by simpa using h);simp[D.depL];omega
theorem Z9(I:Inv X pins σ H s):∀(n:Nat)(A:az){d d':D}{v v':V}{u u':a8},d.dep<=n->A.units+n<aL->d'.dep<10000->Enc X.K H d v->RelV v u->Enc X.K H d' v'->RelV v' u' ->
  fc A s u u' (deq d d')/\cG A s u u' (deq d d')
 |0,A,d,d',v,v',u,u',hn,hu,nd,en,r,en',r'=>by
  have hu0:A.units<aL:=by omega
  cases d with
  |tup l=>simp[D.dep]at hn
  |lst l=>simp[D.dep]at hn
  |dct ks l=>simp[D.dep]at hn
  |sct k=>simp[D.dep]at hn
  |fn x l=>simp[D.dep]at hn
  |non =>
   cases(show v=.non from en);cases(show u=aK from r);cases d' with
   |dct ks' l'=>simp[D.dep]at nd
   |sct k'=>simp[D.dep]at nd
   |fn x' l'=>simp[D.dep]at nd
   |non=>cases(show v'=.non from en');cases(show u'=aK from r');exact⟨.none_none,.same _⟩
   |bl k=>cases(show v'=.bl k from en');cases(show u'=be k from r');exact⟨.none_bool _,.none_bool _⟩
   |int k=>cases(show v'=.int k from en');obtain⟨t,q⟩:=(show ∃t,u'=b8 k t from r');subst q;exact⟨.none_int _ _,.none_int _ _⟩
   |str k=>cases(show v'=.str k from en');obtain⟨t,q⟩:=(show ∃t,u'=bA k t from r');subst q;exact⟨.none_str _ _,.none_str _ _⟩
   |tup l=>obtain⟨a,xs,e,sq,_⟩:=en';subst e;cases(show u'=aA a from r');obtain⟨_,_,q,_⟩:=I.tuple sq;exact⟨.none_tuple q hu0,.none_tuple q hu0⟩
   |lst l=>obtain⟨a,xs,e,sq,_⟩:=en';subst e;cases(show u'=aA a from r');obtain⟨_,_,q,_⟩:=I.list sq;exact⟨.none_list q.isList hu0,.none_list q.isList hu0⟩
  |bl b =>
   cases(show v=.bl b from en);cases(show u=be b from r);cases d' with
   |dct ks' l'=>simp[D.dep]at nd
   |sct k'=>simp[D.dep]at nd
   |fn x' l'=>simp[D.dep]at nd
   |non=>cases(show v'=.non from en');cases(show u'=aK from r');exact⟨.bool_none _,.bool_none _⟩
   |bl k=>cases(show v'=.bl k from en');cases(show u'=be k from r');exact⟨.bool_bool _ _,.bool_bool _ _⟩
   |int k=>cases(show v'=.int k from en');obtain⟨t,q⟩:=(show ∃t,u'=b8 k t from r');subst q;exact⟨.bool_int _ _ _,.bool_int _ _ _⟩
   |str k=>cases(show v'=.str k from en');obtain⟨t,q⟩:=(show ∃t,u'=bA k t from r');subst q;exact⟨.bool_str _ _ _,.bool_str _ _ _⟩
   |tup l=>obtain⟨a,xs,e,sq,_⟩:=en';subst e;cases(show u'=aA a from r');obtain⟨_,_,q,_⟩:=I.tuple sq;exact⟨.bool_tuple _ q hu0,.bool_tuple _ q hu0⟩
   |lst l=>obtain⟨a,xs,e,sq,_⟩:=en';subst e;cases(show u'=aA a from r');obtain⟨_,_,q,_⟩:=I.list sq;exact⟨.bool_list _ q.isList hu0,.bool_list _ q.isList hu0⟩
  |int b =>
   cases(show v=.int b from en);obtain⟨tk,q0⟩:=(show ∃t,u=b8 b t from r);subst q0;cases d' with
   |dct ks' l'=>simp[D.dep]at nd
   |sct k'=>simp[D.dep]at nd
   |fn x' l'=>simp[D.dep]at nd
   |non=>cases(show v'=.non from en');cases(show u'=aK from r');exact⟨.int_none _ _,.int_none _ _⟩
   |bl k=>cases(show v'=.bl k from en');cases(show u'=be k from r');exact⟨.int_bool _ _ _,.int_bool _ _ _⟩
   |int k=>cases(show v'=.int k from en');obtain⟨t,q⟩:=(show ∃t,u'=b8 k t from r');subst q;exact⟨.int_int _ _ _ _,.int_int _ _ _ _⟩
   |str k=>cases(show v'=.str k from en');obtain⟨t,q⟩:=(show ∃t,u'=bA k t from r');subst q;exact⟨.int_str _ _ _ _,.int_str _ _ _ _⟩
   |tup l=>obtain⟨a,xs,e,sq,_⟩:=en';subst e;cases(show u'=aA a from r');obtain⟨_,_,q,_⟩:=I.tuple sq;exact⟨.int_tuple _ _ q hu0,.int_tuple _ _ q hu0⟩
   |lst l=>obtain⟨a,xs,e,sq,_⟩:=en';subst e;cases(show u'=aA a from r');obtain⟨_,_,q,_⟩:=I.list sq;exact⟨.int_list _ _ q.isList hu0,.int_list _ _ q.isList hu0⟩
  |str b =>
   cases(show v=.str b from en);obtain⟨tk,q0⟩:=(show ∃t,u=bA b t from r);subst q0;cases d' with
   |dct ks' l'=>simp[D.dep]at nd
   |sct k'=>simp[D.dep]at nd
   |fn x' l'=>simp[D.dep]at nd
   |non=>cases(show v'=.non from en');cases(show u'=aK from r');exact⟨.str_none _ _,.str_none _ _⟩
   |bl k=>cases(show v'=.bl k from en');cases(show u'=be k from r');exact⟨.str_bool _ _ _,.str_bool _ _ _⟩
   |int k=>cases(show v'=.int k from en');obtain⟨t,q⟩:=(show ∃t,u'=b8 k t from r');subst q;exact⟨.str_int _ _ _ _,.str_int _ _ _ _⟩
   |str k=>cases(show v'=.str k from en');obtain⟨t,q⟩:=(show ∃t,u'=bA k t from r');subst q;exact⟨.str_str _ _ _ _,.str_str _ _ _ _⟩
   |tup l=>obtain⟨a,xs,e,sq,_⟩:=en';subst e;cases(show u'=aA a from r');obtain⟨_,_,q,_⟩:=I.tuple sq;exact⟨.str_tuple _ _ q hu0,.str_tuple _ _ q hu0⟩
   |lst l=>obtain⟨a,xs,e,sq,_⟩:=en';subst e;cases(show u'=aA a from r');obtain⟨_,_,q,_⟩:=I.list sq;exact⟨.str_list _ _ q.isList hu0,.str_list _ _ q.isList hu0⟩
 |n+1,A,d,d',v,v',u,u',hn,hu,nd,en,r,en',r'=>by
  have hu0:A.units<aL:=by omega
  have hu1:A.in1.units+n<aL:=by show A.units+1+n<aL;omega
  have low:d.dep<=n->fc A s u u' (deq d d')/\cG A s u u' (deq d d'):=λh=>Z9 I n A h nofun nd en r en' r';cases d with
  |non=>exact low (by simp[D.dep])
  |bl b=>exact low (by simp[D.dep])
  |int b=>exact low (by simp[D.dep])
  |str b=>exact low (by simp[D.dep])
  |dct ks l=>exfalso;have:(9900:Nat)=aL:=rfl;simp only[D.dep]at hn;omega
  |sct k=>exfalso;have:(9900:Nat)=aL:=rfl;simp only[D.dep]at hn;omega
  |fn x l=>exfalso;have:(9900:Nat)=aL:=rfl;simp only[D.dep]at hn;omega
  |tup ds =>
   have hd:D.depL ds<=n:=by simp[D.dep]at hn;omega
   obtain⟨a,xs,e,sq,l⟩:=id en;subst e;cases(show u=aA a from r);obtain⟨us,rv,q,_⟩:=I.tuple sq;cases d' with
   |dct ks' l'=>simp[D.dep]at nd
   |sct k'=>simp[D.dep]at nd
   |fn x' l'=>simp[D.dep]at nd
   |non=>cases(show v'=.non from en');cases(show u'=aK from r');exact⟨.tuple_none q hu0,.tuple_none q hu0⟩
   |bl k=>cases(show v'=.bl k from en');cases(show u'=be k from r');exact⟨.tuple_bool _ q hu0,.tuple_bool _ q hu0⟩
   |int k=>cases(show v'=.int k from en');obtain⟨t,q'⟩:=(show ∃t,u'=b8 k t from r');subst q';exact⟨.tuple_int _ _ q hu0,.tuple_int _ _ q hu0⟩
   |str k=>cases(show v'=.str k from en');obtain⟨t,q'⟩:=(show ∃t,u'=bA k t from r');subst q';exact⟨.tuple_str _ _ q hu0,.tuple_str _ _ q hu0⟩
   |lst ds'=>obtain⟨a',ys,e,sq',_⟩:=en';subst e;cases(show u'=aA a' from r');obtain⟨_,_,q',_⟩:=I.list sq';exact⟨.tuple_list q q'.isList hu0,.tuple_list q q'.isList hu0⟩
   |tup ds' =>
    obtain⟨a',ys,e,sq',l'⟩:=id en';subst e;cases(show u'=aA a' from r');obtain⟨us',rv',q',_⟩:=I.tuple sq';have e1:us.length=ds.length:=by rw[<-rv.length,l.length]
    have e2:us'.length=ds'.length:=by rw[<-rv'.length,l'.length]
    have main:fc A s (.ref a) (.ref a') (deq (.tup ds) (.tup ds')):=by
     have item:∀(j:Nat)(h1:j<us.toArray.size)(h2:j<us'.toArray.size),cG A.in1 s us.toArray[j] us'.toArray[j] (deq (ds.getD j .non) (ds'.getD j .non)):=λj h1 h2=>by
      have k1:j<ds.length:=by rw[<-e1];simpa using h1
      have k2:j<ds'.length:=by rw[<-e2];simpa using h2
      obtain⟨x,hx,ex⟩:=l.get (kh k1);obtain⟨y,hy,ey⟩:=l'.get (kh k2);obtain⟨w1,hw1,rw1⟩:=rv.get hx;obtain⟨w2,hw2,rw2⟩:=rv'.get hy;have g1:us.toArray[j]=w1:=by simp at h1 ⊢;rw[kh (by simpa using h1)]at hw1;exact av hw1
      have g2:us'.toArray[j]=w2:=by simp at h2 ⊢;rw[kh (by simpa using h2)]at hw2;exact av hw2
      rw[g1,g2,km,km,kh k1,kh k2];exact(Z9 I n A.in1 (Xh (D.depL_le (kh k1)) hd) hu1 (bR (D.depL_le (kh k2)) (by simp only[D.dep]at nd;omega)) ex rw1 ey rw2).2
     have z:=SeqAt.RcAt.tuples (A:=A) (s:=s) q q' hu0 (e:=λj=>deq (ds.getD j .non) (ds'.getD j .non)) item;have ev:((ar (min us.toArray.size us'.toArray.size)).all (λj=>deq (ds.getD j .non) (ds'.getD j .non))&&us.toArray.size==us'.toArray.size)=deq (.tup ds) (.tup ds'):=by
      simp only[O4,X6,e1,e2];by_cases hl:ds.length=ds'.length
      .rw[hl,kl,beq_self_eq_true,jE,<-hl];exact Qz hl λj x y hx hy=>by rw[km,km,hx,hy];rfl
      .rw[Vq hl,beq_false_of_ne hl,fC]
     rw[ev]at z;exact z
    refine⟨main,?_⟩;by_cases ea:a=a'
    .subst ea;have e9:(9900:Nat)=aL:=rfl;rw[Enc.inj I nofun nd en en',Rv _ nd];exact .same _
    .exact .of_refs ea main
  |lst ds =>
   have hd:D.depL ds<=n:=by simp[D.dep]at hn;omega
   obtain⟨a,xs,e,sq,l⟩:=id en;subst e;cases(show u=aA a from r);obtain⟨us,rv,q0,_⟩:=I.list sq;have q:=q0.isList;cases d' with
   |dct ks' l'=>simp[D.dep]at nd
   |sct k'=>simp[D.dep]at nd
   |fn x' l'=>simp[D.dep]at nd
   |non=>cases(show v'=.non from en');cases(show u'=aK from r');exact⟨.list_none q hu0,.list_none q hu0⟩
   |bl k=>cases(show v'=.bl k from en');cases(show u'=be k from r');exact⟨.list_bool _ q hu0,.list_bool _ q hu0⟩
   |int k=>cases(show v'=.int k from en');obtain⟨t,q'⟩:=(show ∃t,u'=b8 k t from r');subst q';exact⟨.list_int _ _ q hu0,.list_int _ _ q hu0⟩
   |str k=>cases(show v'=.str k from en');obtain⟨t,q'⟩:=(show ∃t,u'=bA k t from r');subst q';exact⟨.list_str _ _ q hu0,.list_str _ _ q hu0⟩
   |tup ds'=>obtain⟨a',ys,e,sq',_⟩:=en';subst e;cases(show u'=aA a' from r');obtain⟨_,_,q',_⟩:=I.tuple sq';exact⟨.list_tuple q q' hu0,.list_tuple q q' hu0⟩
   |lst ds' =>
    obtain⟨a',ys,e,sq',l'⟩:=id en';subst e;cases(show u'=aA a' from r');obtain⟨us',rv',q0',_⟩:=I.list sq';have q':=q0'.isList;have e1:us.length=ds.length:=by rw[<-rv.length,l.length]
    have e2:us'.length=ds'.length:=by rw[<-rv'.length,l'.length]
    have main:fc A s (.ref a) (.ref a') (deq (.lst ds) (.lst ds')):=by
     have item:∀(j:Nat)(h1:j<us.toArray.size)(h2:j<us'.toArray.size),cG A.in1 s us.toArray[j] us'.toArray[j] (deq (ds.getD j .non) (ds'.getD j .non)):=λj h1 h2=>by
      have k1:j<ds.length:=by rw[<-e1];simpa using h1
      have k2:j<ds'.length:=by rw[<-e2];simpa using h2
      obtain⟨x,hx,ex⟩:=l.get (kh k1);obtain⟨y,hy,ey⟩:=l'.get (kh k2);obtain⟨w1,hw1,rw1⟩:=rv.get hx;obtain⟨w2,hw2,rw2⟩:=rv'.get hy;have g1:us.toArray[j]=w1:=by simp at h1 ⊢;rw[kh (by simpa using h1)]at hw1;exact av hw1
      have g2:us'.toArray[j]=w2:=by simp at h2 ⊢;rw[kh (by simpa using h2)]at hw2;exact av hw2
      rw[g1,g2,km,km,kh k1,kh k2];exact(Z9 I n A.in1 (Xh (D.depL_le (kh k1)) hd) hu1 (bR (D.depL_le (kh k2)) (by simp only[D.dep]at nd;omega)) ex rw1 ey rw2).2
     simp only[Ka];by_cases hl:ds.length=ds'.length
     .have z:=SeqAt.RcAt.lists (A:=A) (s:=s) q q' (by simp[e1,e2,hl]) hu0 (e:=λj=>deq (ds.getD j .non) (ds'.getD j .non)) item;have ev:(ar us.toArray.size).all (λj=>deq (ds.getD j .non) (ds'.getD j .non))=zp ds ds':=by rw[X6,e1];exact Qz hl λj x y hx hy=>by rw[km,km,hx,hy];rfl
      rw[ev]at z;exact z
     .rw[Vq hl];exact .lists_lengths q q' (by simp[e1,e2,hl]) hu0
    refine⟨main,?_⟩;by_cases ea:a=a'
    .subst ea;have e9:(9900:Nat)=aL:=rfl;rw[Enc.inj I nofun nd en en',Rv _ nd];exact .same _
    .exact .of_refs ea main
end
section
variable{X:Cx}{pins:k7o}{σ:St}{H:Hp}{s:ae}{A:az}
theorem j5s(I:Inv X pins σ H s){n:Nat}{ds ds':List D}{xs ys:List V}{us us':List a8}(l:j5 X.K H ds xs)(rv:Vals xs us)(l':j5 X.K H ds' ys)(rv':Vals ys us')(hd:D.depL ds<=n)(hu:A.units+1+n<aL)(nd:D.depL ds'<10000) :
  ∀(j:Nat)(h1:j<us.toArray.size)(h2:j<us'.toArray.size),cG A.in1 s us.toArray[j] us'.toArray[j] (deq (ds.getD j .non) (ds'.getD j .non)):=λj h1 h2=>by
 have k1:j<ds.length:=by rw[<-l.length,rv.length];simpa using h1
 have k2:j<ds'.length:=by rw[<-l'.length,rv'.length];simpa using h2
 obtain⟨x,hx,ex⟩:=l.get (kh k1);obtain⟨y,hy,ey⟩:=l'.get (kh k2);obtain⟨w1,hw1,rw1⟩:=rv.get hx;obtain⟨w2,hw2,rw2⟩:=rv'.get hy;have g1:us.toArray[j]=w1:=by simp at h1 ⊢;rw[kh (by simpa using h1)]at hw1;exact av hw1
 have g2:us'.toArray[j]=w2:=by simp at h2 ⊢;rw[kh (by simpa using h2)]at hw2;exact av hw2
 rw[g1,g2,km,km,kh k1,kh k2];exact(Z9 I n A.in1 (Xh (D.depL_le (kh k1)) hd) hu (bR (D.depL_le (kh k2)) nd) ex rw1 ey rw2).2
theorem j2y(hu:X.A.units+100<aL):OpR X (aI .Eq) (λx y H Q=>∃d d',Enc X.K H d x/\Enc X.K H d' y/\d.dep<=100/\d'.dep<10000/\Q (.bl (deq d d')) H):=by rintro pins s σ H x y v u Q I rx ry ⟨d,d',en,en',hd,nd,q⟩;exact(Z9 I 100 X.A hd hu nd en rx en' ry).1 X.prog X.w X.xe _ ⟨.bl (deq d d'),H,I,rfl,q⟩
theorem j2w(hu:X.A.units+100<aL):OpR X (aI .NotEq) (λx y H Q=>∃ds ds' k,Enc X.K H (D.seq k ds) x/\Enc X.K H (D.seq k ds') y/\D.depL ds<=98/\D.depL ds'<10000/\Q (.bl (!zp ds ds')) H):=by
 rintro pins s σ H x y v u Q I rx ry ⟨ds,ds',k,en,en',hd,nd,q⟩;have h0:X.A.units<aL:=by omega
 obtain⟨t,xs,e,sq,l⟩:=Ze en;obtain⟨t',ys,e',sq',l'⟩:=Ze en';subst e e';cases rx;cases ry;obtain⟨us,rv,qs,_⟩:=I.side sq;obtain⟨us',rv',qs',_⟩:=I.side sq';have e1:us.length=ds.length:=by rw[<-rv.length,l.length]
 have e2:us'.length=ds'.length:=by rw[<-rv'.length,l'.length]
 have item:=j5s (A:=X.A) I l rv l' rv' hd nofun nd;unfold qp at qs qs';cases k with
 |true =>
  rw[if_pos rfl]at qs qs';by_cases hl:ds.length=ds'.length
  .have z:=SeqAt.RcNeAt.lists (A:=X.A) (s:=s) qs qs' (by simp[e1,e2,hl]) h0 (e:=λj=>deq (ds.getD j .non) (ds'.getD j .non)) item;have ev:(ar us.toArray.size).all (λj=>deq (ds.getD j .non) (ds'.getD j .non))=zp ds ds':=by rw[X6,e1];exact Qz hl λj x y hx hy=>by rw[km,km,hx,hy];rfl
   rw[ev]at z;exact z X.prog X.w X.xe _ ⟨.bl (!zp ds ds'),H,I,rfl,q⟩
  .have z:=SeqAt.RcNeAt.lists_lengths (A:=X.A) (s:=s) qs qs' (by simp[e1,e2,hl]) h0;rw[Vq hl]at q;exact z X.prog X.w X.xe _ ⟨.bl a6,H,I,rfl,q⟩
 |false =>
  rw[if_neg xj]at qs qs';have z:=SeqAt.RcNeAt.tuples (A:=X.A) (s:=s) qs qs' h0 (e:=λj=>deq (ds.getD j .non) (ds'.getD j .non)) item;have ev:((ar (min us.toArray.size us'.toArray.size)).all (λj=>deq (ds.getD j .non) (ds'.getD j .non))&&us.toArray.size==us'.toArray.size)=zp ds ds':=by
   simp only[X6,e1,e2];by_cases hl:ds.length=ds'.length
   .rw[hl,kl,beq_self_eq_true,jE,<-hl];exact Qz hl λj x y hx hy=>by rw[km,km,hx,hy];rfl
   .rw[Vq hl,beq_false_of_ne hl,fC]
  rw[ev]at z;exact z X.prog X.w X.xe _ ⟨.bl (!zp ds ds'),H,I,rfl,q⟩
noncomputable def eqW(X:Cx)(H:Hp)(d:D)(y:a8):Bool:=@decide (∃e v,e.dep<10000/\Enc X.K H e v/\RelV v y/\deq e d=a6) (cT _)
theorem K7(I:Inv X pins σ H s){d e:D}{v:V}{y:a8}(he:e.dep<10000)(en:Enc X.K H e v)(r:RelV v y):eqW X H d y=deq e d:=by
 unfold eqW;cases h:deq e d with
 |true=>exact @decide_eq_true _ (cT _) ⟨e,v,he,en,r,h⟩
 |false =>refine @decide_eq_false _ (cT _) λ⟨e',v',he',en',r',h'⟩=>?_;rw[r'.inj r]at en';rw[Enc.inj I he' he en' en,h]at h';cases h'
theorem Br(I:Inv X pins σ H s){d:D}:∀{ds:List D}{xs:List V}{us:List a8},D.depL ds<10000->j5 X.K H ds xs->Vals xs us->us.any (eqW X H d)=ds.any λe=>deq e d
 |[],_,_,_,h,r=>by cases h;cases r;rfl
 |e::ds,_,_,hd,⟨x,r,eq,h,l⟩,rv=>by
  subst eq;rw[D.depL]at hd;cases rv with
  |cons a b=>rw[d4,d4,Br I nofun l b,K7 I nofun h a]
theorem U8(I:Inv X pins σ H s){d:D}:∀{ds:List D}{xs:List V}{us:List a8},D.depL ds<10000->j5 X.K H ds xs->Vals xs us->us.countP (eqW X H d)=ds.countP λe=>deq e d
 |[],_,_,_,h,r=>by cases h;cases r;rfl
 |e::ds,_,_,hd,⟨x,r,eq,h,l⟩,rv=>by
  subst eq;rw[D.depL]at hd;cases rv with
  |cons a b=>rw[Xq,Xq,U8 I nofun l b,K7 I nofun h a]
theorem Yn(I:Inv X pins σ H s){d:D}{v:V}{u:a8}(en:Enc X.K H d v)(r:RelV v u)(nd:d.dep<10000){n:Nat}(hu:A.units+n<aL):∀{ds:List D}{xs:List V}{us:List a8},D.depL ds<=n->j5 X.K H ds xs->Vals xs us->∀y∈us,cG A s y u (eqW X H d y)
 |[],_,_,_,h,rv,y,hy=>by cases h;cases rv;cases hy
 |e::ds,_,_,hd,⟨x,r',eq,h,l⟩,rv,y,hy=>by
  subst eq;have hd':e.dep<=n/\D.depL ds<=n:=by simp[D.depL]at hd;omega
  cases rv with
  |cons a b =>
   rcases xr.mp hy with rfl|hy
   .have e9:(9900:Nat)=aL:=rfl;rw[K7 I nofun h a];exact(Z9 I n A hd'.1 hu nd h a en r).2
   .exact Yn I en r nd hu hd'.2 l b y hy
theorem j2x(hu:X.A.units+100<aL):OpR X (aI .In) (λx y H Q=>∃d ds k,Enc X.K H d x/\Enc X.K H (D.seq k ds) y/\D.depL ds<=98/\d.dep<10000/\Q (.bl (ds.any λe=>deq e d)) H):=by
 rintro pins s σ H x y v u Q I rx ry ⟨d,ds,k,en,en',hd,nd,q⟩;obtain⟨t,xs,e,sq,l⟩:=Ze en';subst e;cases ry;obtain⟨us,rv,qs,_⟩:=I.side sq;have me:=λy (hy:y∈us.toArray)=>Yn (A:=X.A.in1) I en rx nd (n:=98) (by show X.A.units+1+98<aL;omega) hd l rv y (by simpa using hy);have ev:us.toArray.any (eqW X H d)=ds.any λe=>deq e d:=by rw[iH];exact Br I nofun l rv
 unfold qp at qs;cases k with
 |true=>rw[if_pos rfl]at qs;exact SeqAt.in_listAt (eqW X H d) qs me (by rw[ev];exact⟨.bl _,H,I,rfl,q⟩)
 |false=>rw[if_neg xj]at qs;exact SeqAt.in_tupleAt (eqW X H d) qs me (by rw[ev];exact⟨.bl _,H,I,rfl,q⟩)
theorem N7(hu:X.A.units+100<aL):OpR X (aI .NotIn) (λx y H Q=>∃d ds k,Enc X.K H d x/\Enc X.K H (D.seq k ds) y/\D.depL ds<=98/\d.dep<10000/\Q (.bl (!ds.any λe=>deq e d)) H):=by
 rintro pins s σ H x y v u Q I rx ry ⟨d,ds,k,en,en',hd,nd,q⟩;obtain⟨t,xs,e,sq,l⟩:=Ze en';subst e;cases ry;obtain⟨us,rv,qs,_⟩:=I.side sq;have me:=λy (hy:y∈us.toArray)=>Yn (A:=X.A.in1) I en rx nd (n:=98) (by show X.A.units+1+98<aL;omega) hd l rv y (by simpa using hy);have ev:us.toArray.any (eqW X H d)=ds.any λe=>deq e d:=by rw[iH];exact Br I nofun l rv
 unfold qp at qs;cases k with
 |true=>rw[if_pos rfl]at qs;exact SeqAt.notIn_listAt (eqW X H d) qs me (by rw[ev];exact⟨.bl _,H,I,rfl,q⟩)
 |false=>rw[if_neg xj]at qs;exact SeqAt.notIn_tupleAt (eqW X H d) qs me (by rw[ev];exact⟨.bl _,H,I,rfl,q⟩)
theorem j35 (hu:X.A.units+100<aL):MtR X "tuple.count" (λx vs H Q=>∃t xs ds d y,x=.ref t/\vs=[y]/\SqT X.K H t xs/\j5 X.K H ds xs/\Enc X.K H d y/\D.depL ds<=97/\d.dep<10000/\Q (.int (ds.countP λe=>deq e d)) H):=by
 rintro pins s σ H x vs v us Q I rx rv ⟨t,xs,ds,d,y,e,e',sq,l,en,hd,nd,q⟩;subst e e';cases rx;obtain⟨u,eu,ru⟩:=rv.one;subst eu;obtain⟨its,ri,⟨⟨cl,dd,da,sl⟩,h1,h2,n,h3⟩,_⟩:=I.tuple sq;have h2:cl=.type "tuple":=h2;have h3:da=.seq its.toArray n:=h3;subst h2 h3;refine bN gi ⟨_,h1,rfl⟩ F.entry_tuple_count (F.args_tuple_count_2 _ _) (SeqAt.tuple_countAt t its.toArray n dd sl u (eqW X H d)) ⟨h1,λy hy=>Yn (n:=97) I en ru nd (by show X.A.units+1+97<aL;omega) hd l ri y (by simpa using hy),?_⟩;have ev:(its.toArray.toList.countP (eqW X H d):Nat)=ds.countP λe=>deq e d:=by rw[dH];exact U8 I nofun l ri
 rw[ev];exact⟨.int _,H,I.tok _,⟨_,rfl⟩,q⟩
theorem j5e:OpR X (aV .Add) (λx y H Q=>∃a b xs ys,x=.ref a/\y=.ref b/\SqT X.K H a xs/\SqT X.K H b ys/\xs.length+ys.length<=aj /\
  (xs=[]->Q (.ref b) H)/\(xs≠[]->ys=[]->Q (.ref a) H)/\(xs≠[]->ys≠[]->∀p,H p=a7->Q (.ref p) (upd H p (.tup (xs++ys))))):=by
 rintro pins s σ H x y v u Q I rx ry ⟨a,b,xs,ys,e,e',sa,sb,hz,q1,q2,q3⟩;by_cases hx:xs=[]
 .subst e e' hx;cases rx;cases ry;obtain⟨us,ru,⟨⟨c1,d1,f1,g1⟩,h1,k1,n1,m1⟩,_⟩:=I.tuple sa;obtain⟨vs,rv,⟨⟨c2,d2,f2,g2⟩,h2,k2,n2,m2⟩,_⟩:=I.tuple sb;cases ru;have k1:c1=.type "tuple":=k1;have m1:f1=.seq ([]:List a8).toArray n1:=m1;have k2:c2=.type "tuple":=k2;have m2:f2=.seq vs.toArray n2:=m2;subst k1 m1 k2 m2;exact fg ⟨_,h1,rfl⟩ ⟨_,h2,rfl⟩ fG gQ d5 cW (cR _ _)
   (tuple_addW0 a b ([]:List a8).toArray vs.toArray n1 n2 d1 d2 g1 g2 (by simp)) ⟨h1,h2,⟨.ref b,H,I,rfl,q1 rfl⟩⟩
 .exact j8x pins s σ H x y v u Q I rx ry ⟨a,b,xs,ys,e,e',sa,sb,hx,hz,q2 hx,q3 hx⟩
theorem all_range:∀bs:List Bool,(ar bs.length).all (λi=>(bs[i]?).getD a6)=bs.all id
 |[]=>rfl
 |b::bs=>by rw[xn,c8,fT,jR,fT,<-all_range bs];rfl
theorem Ip (hc:X.calm=a6):J5 X (.builtin "all") (λxs H Q=>∃(l:aa)(bs:List Bool),xs=[.ref l]/\SqL X.K H l (bs.map V.bl)/\Q (.bl (bs.all id)) H):=by
 rintro pins s σ H xs us Q I r ⟨l,bs,e,sq,q⟩;subst e;obtain⟨u,eu,ru⟩:=vals1 r;subst eu;cases ru;obtain⟨its,rv,pl,_⟩:=I.list sq;have hlt:l<s.heap.objs.size:=by obtain⟨_,_,e,_⟩:=pl;exact xu e
 have hl:its.length=bs.length:=by rw[<-rv.length,kj]
 refine call_all_walk (bE pl.isList ⟨s.heap.objs.size,[s.heap.objs.size,l],[s.heap.objs.size],its.toArray.size,_,_,λi=>(bs[i]?).getD a6,rfl,Walks.list (A:=X.A.in1) (I.ok.hd hc) _ _ (Xb hlt) its.toArray,⟨⟨_,X5 _ rfl,rfl,rfl⟩,pl.isList.push _⟩,?_,λh' tk kp=>?_⟩)
 .intro i v s' Q' E' hv hq;have hi:i<its.length:=by have:=Array.getElem?_eq_some_iff.mp hv;obtain⟨h,_⟩:=this;simpa using h
  have hb:i<bs.length:=by omega
  obtain⟨w1,hw,rw1⟩:=rv.get (x:=.bl bs[i]) (i:=i) (by rw[xx,kh hb];rfl);have:its.toArray[i]?=a3 w1:=by simpa using hw
  rw[this]at hv;cases hv;cases rw1;simp only[kh hb,cZ]at hq;exact b0 hq
 .have ev:(ar its.toArray.size).all (λi=>(bs[i]?).getD a6)=bs.all id:=by rw[X6,hl];exact all_range bs
  rw[ev];refine⟨.bl _,H,I.kept (t':=tk) λb o e=>kp b o ?_ (xg _ e),rfl,q⟩;intro z;rw[xq.mp z]at e;exact P0 _ (xu e)
end
section
variable{X:Cx}{ρ:Rho}{a b e:ai}{d d':D}{ds ds':List D}{i j:Int}{pos p p1 p2:aG}{k:Nat}{x:af}{P:Po}
theorem DE.eqD(hu:X.A.units+100<aL)(ha:DT X ρ a d)(hb:DT X ρ b d')(hd:d.dep<=100)(nd:d'.dep<10000):DE X ρ (.Compare a [.Eq] [b] pos) (.bl (deq d d')):=λσ H Q R q =>(J7 (j2y hu) peS peS (qz _)).to (ha σ H _ R λv H1 g1 e1=>hb σ H1 _ (R.grow g1) λu H2 g2 e2=>⟨d,d',e1.mono g2,e2,hd,nd,q _ H2 (g1.trans g2) rfl⟩)
theorem DB.eqD(hu:X.A.units+100<aL)(ha:DT X ρ a d)(hb:DT X ρ b d')(hd:d.dep<=100)(nd:d'.dep<10000):DB X ρ (.Compare a [.Eq] [b] pos) (deq d d'):=λσ H Q R q =>(Jl (j2y hu) peS peS (qz _)).to (ha σ H _ R λv H1 g1 e1=>hb σ H1 _ (R.grow g1) λu H2 g2 e2=>⟨d,d',e1.mono g2,e2,hd,nd,_,rfl,q H2 (g1.trans g2)⟩)
theorem DB.neD(s:Bool)(hu:X.A.units+100<aL)(ha:DT X ρ a (D.seq s ds))(hb:DT X ρ b (D.seq s ds'))(hd:D.depL ds<=98)(nd:D.depL ds'<10000):DB X ρ (.Compare a [.NotEq] [b] pos) (!zp ds ds'):=λσ H Q R q =>(Jl (j2w hu) peS peS (qz _)).to (ha σ H _ R λv H1 g1 e1=>hb σ H1 _ (R.grow g1) λu H2 g2 e2=>⟨ds,ds',s,e1.mono g2,e2,hd,nd,_,rfl,q H2 (g1.trans g2)⟩)
theorem DB.notIn(s:Bool)(hu:X.A.units+100<aL)(ha:DT X ρ a d)(hb:DT X ρ b (D.seq s ds))(hd:D.depL ds<=98)(nd:d.dep<10000)(hm:aE .NotIn b=a4:=by with_unfolding_all rfl):DB X ρ (.Compare a [.NotIn] [b] pos) (!ds.any λe=>deq e d):=λσ H Q R q =>(Jl (N7 hu) peS peS hm).to (ha σ H _ R λv H1 g1 e1=>hb σ H1 _ (R.grow g1) λu H2 g2 e2=>⟨d,ds,s,e1.mono g2,e2,hd,nd,_,rfl,q H2 (g1.trans g2)⟩)
theorem DB.in(s:Bool)(hu:X.A.units+100<aL)(ha:DT X ρ a d)(hb:DT X ρ b (D.seq s ds))(hd:D.depL ds<=98)(nd:d.dep<10000)(hm:aE .In b=a4:=by with_unfolding_all rfl):DB X ρ (.Compare a [.In] [b] pos) (ds.any λe=>deq e d):=λσ H Q R q =>(Jl (j2x hu) peS peS hm).to (ha σ H _ R λv H1 g1 e1=>hb σ H1 _ (R.grow g1) λu H2 g2 e2=>⟨d,ds,s,e1.mono g2,e2,hd,nd,_,rfl,q H2 (g1.trans g2)⟩)
theorem DE.countT (hu:X.A.units+100<aL) (ha:DT X ρ a (.tup ds)) (hb:DT X ρ b d) (hd:D.depL ds<=97) (nd:d.dep<10000) (hbase:aT a "count" X.env (ay a X.env)=ay a X.env:=by rfl)
  (hfew:((aP p2 (a9 [b] X.env)).all (λx=>!x.1)&&(bY p2 (b9 [] X.env)).all (λx=>x.1.isSome)
   && decide (([b]:List ai).length+([]:List b7).length+(if ([]:List b7).isEmpty then 0 else 1)<30))=a6:=by rfl) (hline:(p1.endLine==p2.line)=a6:=by rfl)
  (hs:a9 [b] X.env=(a4,ay b X.env)::a9 [] X.env:=by rfl):DE X ρ (.Call (.Attribute a "count" p1) [b] [] p2) (.int (ds.countP λe=>deq e d)):=λσ H Q R q =>
 (Ml PySem.F.plainAttrs_tuple gi PySem.F.type_tuple_count (j35 hu) peS (jd peS jz hs) hbase hfew hline hs rfl).to (ha σ H _ R λv H1 g1 ⟨t,xs,e,sq,l⟩=>⟨by rw[e];exact .inr (.inl ⟨rfl,xs,sq⟩),hb σ H1 _ (R.grow g1) λu H2 g2 e2 =>
  ⟨t,xs,ds,d,u,e,rfl,g2.seqT sq,l.mono g2,e2,hd,nd,q _ H2 (g1.trans g2) rfl⟩⟩)
theorem DE.min (ha:DT X ρ a (.int i)) (hb:DT X ρ b (.int j)) (hm:X.mg "min" = a7) (hc:X.calm=a6:=by rfl) (hg:Gl X "min":=by rfl) (hs:a9 [a,b] X.env=(a4,ay a X.env)::a9 [b] X.env:=by rfl) (hs2:a9 [b] X.env=(a4,ay b X.env)::a9 [] X.env:=by rfl)
  (hpl:(aP pos (a9 [b] X.env)).any (·.1)=a4:=by rfl):DE X ρ (.Call (.Name "min" p) [a,b] [] pos) (.int (if j<i then j else i)):=λσ H Q R q =>
 (v6 (j47 hc) hg hm iO (jd peS (jd peS jz hs2) hs) (by decide) (by decide) hs hpl).to (ha σ H _ R λv H1 g1 e1=>hb σ H1 _ (R.grow g1) λu H2 g2 e2=>⟨i,j,by rw[show v=.int i from e1,show u=.int j from e2],q _ H2 (g1.trans g2) rfl⟩)
theorem Rq{K:k7m}{H:Hp}:∀{bs:List Bool}{xs:List V},j5 K H (bs.map D.bl) xs->xs=bs.map V.bl
 |[],_,h=>h
 |b::bs,_,⟨x,r,e,h,l⟩=>by subst e;cases(show x=.bl b from h);rw[Rq l];rfl
theorem DE.all {bs:List Bool} (ha:DT X ρ a (.lst (bs.map D.bl))) (hm:X.mg "all" = a7) (hc:X.calm=a6:=by rfl) (hg:Gl X "all":=by rfl) (hs:a9 [a] X.env=[(a4,ay a X.env)]:=by rfl):DE X ρ (.Call (.Name "all" p) [a] [] pos) (.bl (bs.all id)):=λσ H Q R q =>(v6 (Ip hc) hg hm boot_all (jd peS jz hs) (by decide) (by decide) hs).to (ha σ H _ R λv H1 g1 ⟨l,xs,e,sq,en⟩=>⟨l,bs,by rw[e],by rw[Rq en]at sq;exact sq,q _ H1 g1 rfl⟩)
def jb2(X:Cx)(e:Option ai):TO:=λσ H Q=>∀pins s,Inv X pins σ H s->ao (aw X.prog X.w) X.A (evalPart e X.env) (λu s'=>∃o H',Inv X pins σ H' s'/\eC u o/\Q o H') X.xe s
theorem poS{e:Option ai}:PO X e (jb2 X e):=λpins s σ H Q I h=>h pins s I
def DP(X:Cx)(ρ:Rho)(e:Option ai)(o:Option Int):Prop:=∀σ H Q,Rep X.K ρ σ H->(∀H',j4 H H'->Q o H')->jb2 X e σ H Q
theorem DP.none:DP X ρ a7 a7:=λσ H Q R q pins s I=>j8q pins s σ H Q I (q H (j4.refl H))
theorem DP.some(h:DT X ρ e (.int i)):DP X ρ (a3 e) (a3 i):=λσ H Q R q pins s I=>j8p peS pins s σ H Q I (h σ H _ R λv H1 g1 e1=>⟨i,e1,q H1 g1⟩)
variable{lo hi:Option ai}{l u:Option Int}
end
def jav(K:k7m)(S:List D->List D->D->List D->Prop):Sp:=λvs H Q _=>∃(a:aa)(ds l:List D)(d:D)(l':List D)(ws xs:List V),vs=ws++[.ref a]/\TabOk K H/\H a=a3 (.lst xs)/\j5 K (del H [a]) l xs/\j5 K (del H [a]) ds ws/\S ds l d l' /\
 ∀v H' ys,j4 (del H [a]) (del H' [a])->H' a=a3 (.lst ys)->j5 K (del H' [a]) l' ys->Enc K (del H' [a]) d v->Q v H'
section
variable{X:Cx}{ρ ρ1:Rho}{e e1 e2 e3 c:ai}{st:aW}{rest sa:List aW}{a:aa}{d d1 d2 d3:D}{l l':List D}{k i:Nat}{x y f:af}{p p1 p2 p3 p4 pos:aG}
end
noncomputable def j2j(dv n:Int):Int:=if 0<n then n%60 else(dv*48271+11)%2147483647/16
noncomputable def R9(dv n:Int):Int:=if 0<n then n%60/6%2 else(dv*48271+11)%2147483647/128%2
noncomputable def Wa(n:Int):Int:=if 0<n then n/60 else n
noncomputable def Vz:Nat->List af->Int->Int->D×Int
 |0,_,dv,n=>(.tup [.str "tell",.int (R9 dv n)],Wa n)
 |k+1,ws,dv,n=>match ws[(j2j dv n%ws.length).toNat]? with
  |none=>(.tup [.str "tell",.int (R9 dv n)],Wa n)
  |some y=>if j2j dv n%6=0 then(.tup [.str "tell",.int (R9 dv n)],Wa n)
   else(.tup [.str "ask",.str y,(Vz k (ws.filter λz=>!(z==y)) ((dv*48271+11)%2147483647*3+1) (Wa n)).1,
     (Vz k (ws.filter λz=>!(z==y)) ((dv*48271+11)%2147483647*5+2) (Vz k (ws.filter λz=>!(z==y)) ((dv*48271+11)%2147483647*3+1) (Wa n)).2).1],
    (Vz k (ws.filter λz=>!(z==y)) ((dv*48271+11)%2147483647*5+2) (Vz k (ws.filter λz=>!(z==y)) ((dv*48271+11)%2147483647*3+1) (Wa n)).2).2)
def j7d(ds l:List D)(d:D)(l':List D):Prop:=∃(ws:List af)(dv n:Int)(k:Nat),ds=[.lst (ws.map D.str),.int dv,.int k]/\l=[.int n]/\k<=5/\ws.length<=60/\d=(Vz k ws dv n).1/\l'=[.int (Vz k ws dv n).2]
section
variable{P:aq}{w:ax}{K:k7m}{mg:k7p}{base:aB}{x qual:af}{st:aW}{f:aa}{fd:aH}{N ps:List af}{k:Nat}
end
def Fz(o:Option HO):Prop:=(∃xs,o=a3 (.lst xs))\/∃oc v,o=a3 (.frz oc (.own 0))/\oc.data=.cell v
theorem j3p{P:aq}{w:ax}{K:k7m}{mg:k7p}{base:aB}{A0:az}{outer:List dh}{s:ae}{H:Hp}{A:List aa}(e0:Env0 P w K mg base A0 outer s H)(hA:∀a∈A,Fz (H a)) :
  Env0 P w K mg base A0 outer s (del H A)/\∀(Q:VK)(E E':XK)(r:fH)(s':ae),CR CX0 outer P w (del H A) s (λv F=>(∀a∈A,F a=a7)->Q v (mrg A H F)) E r s'->CR CX0 outer P w H s Q E' r s':=by
 have nd:∀{b:aa},H b=a7->del H A b=a7:=λ{b} q=>by
  by_cases z:b∈A
  .exact qx z
  .rw[j6 z];exact q
 have out:∀{b:aa}{o:HO},H b=a3 o->(∀ys,o≠.lst ys)->(∀oc v,o=.frz oc (.own 0)->oc.data≠.cell v)->b∉A:=λ{b o} q z z2 y=>by
  rcases hA b y with ⟨ys,e'⟩|⟨oc,v,e',d⟩
  .rw[q]at e';cases e';exact z ys rfl
  .rw[q]at e';cases e';exact z2 _ _ rfl d
 have e1:Env0 P w K mg base A0 outer s (del H A):=⟨e0.frames,e0.mod,λb o q=>⟨(e0.bs b o q).1,nd (e0.bs b o q).2⟩,e0.bsz,e0.funs,λb hb=>nd (e0.frf b hb),
  λa o q=>by
   obtain⟨_,q⟩:=of_del q
   exact je.stay (e0.hok a o q) (λb u _ z=>z) (λb z=>by rw[j6 (out z (λ_ y=>by cases y) λ_ _ y=>by cases y)];exact z) (λb xs z=>by rw[j6 (out z (λ_ y=>by cases y) λ_ _ y=>by cases y)];exact z)
    (λb o ⟨vs,d⟩ z=>by rw[j6 (out z (λ_ y=>by cases y) λ_ _ y d'=>by cases y;rw[d]at d';cases d')];exact z),e0.bare⟩
 refine⟨e1,λQ E E' r s' hq=>?_⟩;cases r with
 |error e=>exact(show False from hq).elim
 |ok fl =>
  cases fl with
  |next=>exact(show False from hq).elim
  |brk=>exact(show False from hq).elim
  |cont=>exact(show False from hq).elim
  |ret u =>
   obtain⟨v,H',os,bare,un,hok',rel,q⟩:=(show CE outer P w (del H A) s _ u s' from hq)
   have kept:∀a∈A,∃o,s.heap.get? a=a3 o/\s'.heap.get? a=a3 o/\H' a=a7:=λa ha=>by
    have nf:a∉frs outer:=λy=>by have z:=e0.frf a y;rcases hA a ha with ⟨xs,e⟩|⟨oc,v,e,_⟩<;>(rw[z]at e;cases e)
    have ob:∃o,s.heap.get? a=a3 o:=by
     rcases hA a ha with ⟨xs,e⟩|⟨oc,v,e,_⟩
     .obtain⟨_,its,n,_,z⟩:=(show je P w H s.heap a (.lst xs)from e0.hok _ _ e);exact⟨_,z⟩
     .exact⟨_,(show je P w H s.heap a (.frz oc (.own 0))from e0.hok _ _ e).1⟩
    obtain⟨o,z⟩:=ob;exact⟨_,z,un.keep a _ z (qx ha) nf (by simp),un.free a _ z (qx ha) (by simp)⟩
   have hF:∀a∈A,H' a=a7:=λa ha=>let ⟨_,_,_,z⟩:=kept a ha;z;have outF:∀{b:aa}{o:HO},H' b=a3 o->b∉A:=λ{b o} e z=>by rw[hF b z]at e;cases e
   refine⟨v,mrg A H H',os,bare,?_,λa o e=>?_,rel,q hF⟩
   .exact{
     keep:=λb o e n=>un.keep b o e (nd n)
     slot:=λb o e n=>un.slot b o e (nd n)
     free:=λb o e n hx=>by
      by_cases z:b∈A
      .rw[vq z];exact n
      .rw[jj z];exact un.free b o e (nd n) hx
     there:=un.there
     tups:=λb xs e=>by
      have z:=un.tups b xs (by rw[j6 (out e (λ_ y=>by cases y) λ_ _ y=>by cases y)];exact e)
      rw[jj (outF z)];exact z
     frzs:=λb o u e=>by
      by_cases y:b∈A
      .rw[vq y];exact e
      .have z:=un.frzs b o u (by rw[j6 y];exact e)
       rw[jj y];exact z
     tbls:=λb ps e=>by
      obtain⟨more,z⟩:=un.tbls b ps (by rw[j6 (out e (λ_ y=>by cases y) λ_ _ y=>by cases y)];exact e)
      exact⟨more,by rw[jj (outF z)];exact z⟩ }
   .by_cases z:a∈A
    .rw[vq z]at e;obtain⟨o',q1,q2,_⟩:=kept a z;rcases hA a z with ⟨xs,e'⟩|⟨oc,v,e',_⟩
     .rw[e']at e;cases e;obtain⟨hl,its,n,r,y⟩:=(show je P w H s.heap a (.lst xs)from e0.hok _ _ e')
      rw[y]at q1;cases q1;exact⟨hl,its,n,r,q2⟩
     .rw[e']at e;cases e;have y:=(show je P w H s.heap a (.frz oc (.own 0))from e0.hok _ _ e').1;rw[y]at q1;cases q1;exact⟨q2,_,q2⟩
    .rw[jj z]at e;refine je.stay (hok' a o e) (λb u _ q=>q) (λb q=>?_) (λb xs q=>?_) (λb _ _ q=>?_)
     .rw[jj (outF q)];exact q
     .rw[jj (outF q)];exact q
     .rw[jj (outF q)];exact q
structure LamScope(N ps:List af)(sc:aX):Prop where
 kind:sc.kind=.function
 co:sc.isCoroutine=a4
 gen:sc.isGenerator=a4
 nd:N.Nodup
 nm:N=vo sc++ps
 lfr:∀x∈vo sc,sc.names.lookup x=a3 .free
 lps:∀x∈ps,sc.names.lookup x=a3 .local
 nocell:∀y∈sc.names,y.2≠.cell
 cov:∀x,sc.names.lookup x=a3 .free->x∈vo sc
noncomputable def Y6(P:aq)(w:ax)(K:k7m)(mg:k7p)(base:aB)(N:List af)(qual:af)(scope:aX)(a:aa)(cd:a8)(cl:List (af×aa))(A:az)(outer:List dh)(s:ae)(H:Hp):Cx where
 prog:=P
 w:=w
 K:=K
 mg:=mg
 base:=base
 A:=A.deeper (W.envX qual scope s.heap.objs.size a cd cl)
 N:=N
 s₀:=s
 H₀:=H
 env:=W.envX qual scope s.heap.objs.size a cd cl
 outer:=outer
 stack:=W.envX qual scope s.heap.objs.size a cd cl::outer
 ex:=[]
 calm:=a6
 fn:=λ_=>a4
 pn:=[]
 xe:=λ_ _=>False
def Jd(h:aB):List aa->List V->Prop
 |[],vs=>vs=[]
 |c::cs,vs=>∃v r u,vs=v::r/\h.IsCell c (a3 u)/\RelV v u/\Jd h cs r
theorem Jd.get{h:aB}:∀{cs:List aa}{vs:List V}{i:Nat}{v:V},Jd h cs vs->vs[i]?=a3 v->∃c u,cs[i]?=a3 c/\h.IsCell c (a3 u)/\RelV v u
 |[],_,i,v,e,q=>by cases e;simp at q
 |c::cs,_,0,v,⟨x,r,u,e,h1,h2,_⟩,q=>by subst e;simp at q;subst q;exact⟨c,u,rfl,h1,h2⟩
 |c::cs,_,i+1,v,⟨x,r,u,e,_,_,l⟩,q=>by subst e;obtain⟨c',u',z1,z2⟩:=Jd.get l (i:=i) (by simpa using q);exact⟨c',u',by simpa using z1,z2⟩
theorem Jd.length{h:aB}:∀{cs:List aa}{vs:List V},Jd h cs vs->vs.length=cs.length
 |[],_,e=>by cases e;rfl
 |c::cs,_,⟨x,r,u,e,_,_,l⟩=>by subst e;simp[l.length]
theorem Jd.all{h:aB}:∀{cs:List aa}{vs:List V},Jd h cs vs->∀c∈cs,∃v,h.IsCell c v
 |c::cs,_,⟨x,r,u,e,h1,_,l⟩,b,hb=>(xr.mp hb).elim (λz=>z▸⟨_,h1⟩) (l.all b)
theorem lookup_at{α:Type}:∀{l:List (af×α)} {i:Nat} {p:af×α},(l.map (·.1)).Nodup->l[i]?=a3 p->l.lookup p.1=a3 p.2
 |[],i,p,_,h=>by simp at h
 |q::l,0,p,_,h=>by simp at h;subst h;rw[Xl,beq_self_eq_true]
 |q::l,i+1,p,nd,h=>by rw[X4]at nd;rw[d9]at h;have ne:(p.1==q.1)=a4:=beq_eq_false_iff_ne.mpr λz=>(Xm.mp nd).1 (z▸dJ (Xo h));rw[Xl,ne];exact lookup_at (Xm.mp nd).2 h
theorem j1d{ps:List af}{us:List a8}{i:Nat}{p:af}{u:a8}(nd:ps.Nodup)(hl:us.length=ps.length)(h1:ps[i]?=a3 p)(h2:us[i]?=a3 u):(ps.zip us).reverse.lookup p=a3 u:=by
 have hm:(p,u)∈(ps.zip us).reverse:=List.mem_reverse.mpr (Xo (i:=i) (by rw[List.getElem?_zip_eq_some];exact⟨h1,h2⟩));have e:((ps.zip us).reverse.map (·.1))=ps.reverse:=by rw[List.map_reverse,List.map_fst_zip nofun]
 obtain⟨j,hj⟩:=List.mem_iff_getElem?.mp hm;exact lookup_at (by rw[e];exact(List.reverse_perm ps).nodup_iff.mpr nd) hj
section
variable{P:aq}{w:ax}{K:k7m}{mg:k7p}{base:aB}{A:az}{outer:List dh}{s:ae}{H:Hp}{x:af}{a c:aa}{tx:Tx}{cl:List (af×aa)}{pm ctv:a8}{cvs vs:List V}{us:List a8}{N ps:List af}{k:Nat}{Q:VK}{E:XK}
theorem j9m{h1:aB}{tk:Nat}(hh:A.handled=a7)(e0:Env0 P w K mg base A outer s H)(S:LamScope N ps tx.2.2)(hn:cl.map (·.1)=vo tx.2.2)(nd:(cl.map (·.2)).Nodup)(hc:Jd s.heap (cl.map (·.2)) cvs)(hf:∀q∈cl.map (·.2),H q=a7)(rv:Vals vs us)(hl:vs.length=ps.length)
  (ns:h1.Ns s.heap.objs.size λy=>(ps.zip us).reverse.lookup y) (kp:∀b o,s.heap.get? b=a3 o->h1.get? b=a3 o) :
  Inv (Y6 P w K mg base N (jr x) tx.2.2 a (.ref c) cl A outer s H) [] (start N (cvs++vs)) H { s with heap:=h1,toks:=tk }:=by
 have ndN:(vo tx.2.2).Nodup:=by have:=S.nd;rw[S.nm]at this;exact(List.nodup_append.mp this).1
 have ndP:ps.Nodup:=by have:=S.nd;rw[S.nm]at this;exact(List.nodup_append.mp this).2.1
 have ndC:(cl.map (·.1)).Nodup:=by rw[hn];exact ndN
 have lenC:cvs.length=(vo tx.2.2).length:=by rw[hc.length,<-hn,kj,kj]
 have lenN:N.length=(cvs++vs).length:=by rw[S.nm,Xc,Xc,lenC,hl]
 have noA:∀b:aa,b∉(Y6 P w K mg base N (jr x) tx.2.2 a (.ref c) cl A outer s H).ex:=λb z=>absurd (show b∈([]:List aa)from z) (by simp);have mem2:∀{y:af}{q:aa},cl.lookup y=a3 q->q∈cl.map (·.2):=λ{y q} h=>X8.mpr ⟨(y,q),Pg h,rfl⟩;have inj:∀(l:List (af×aa)),(l.map (·.2)).Nodup->∀y z q,(y,q)∈l->(z,q)∈l->y=z:=λl=>by
  induction l with
  |nil=>intro _ y z q h;cases h
  |cons p r ih =>
   intro nd y z q h1 h2;rw[X4]at nd;obtain⟨n1,n2⟩:=Xm.mp nd;rcases xr.mp h1 with e1|h1<;>rcases xr.mp h2 with e2|h2
   .rw[<-e1]at e2;cases e2;rfl
   .exact absurd (X8.mpr ⟨(z,q),h2,by rw[<-e1]⟩) n1
   .exact absurd (X8.mpr ⟨(y,q),h1,by rw[<-e2]⟩) n1
   .exact ih n2 y z q h1 h2
 refine⟨⟨e0.mod,S.kind,rfl,rfl,X3 _,λy z q h1 h2=>inj cl nd y z q (Pg h1) (Pg h2),λy hy=>?_,λy q h=>(by cases h),λ_=>hh,Around.frames_deeper e0.frames,.inr ⟨rfl,rfl⟩,λb z=>absurd z (noA b),e0.bs,e0.bsz,λb _ _=>noA b,λb z=>absurd z (noA b),e0.funs,e0.frf⟩,
  rfl,e0.bare,Un.kept kp,⟨_,ns,λi y v h1 h2 h3=>?_⟩,λy q h=>?_,e0.hok.fresh (X3 _),λy q h=>hf q (mem2 h),λp hp=>absurd (show p∈([]:k7o)from hp) (by simp),e0.hok.kept kp,?_⟩
 .have hy:tx.2.2.names.lookup y=a3 .cell\/tx.2.2.names.lookup y=a3 .free:=hy;rcases hy with hy|hy
  .exact absurd rfl (S.nocell _ (Pg hy))
  .have m:=S.cov y hy;rw[<-hn]at m;obtain⟨p,hp,e⟩:=X8.mp m;obtain⟨i,hi⟩:=List.mem_iff_getElem?.mp hp;exact⟨p.2,by have:=lookup_at ndC hi;rw[e]at this;exact this⟩
 .have h1:N[i]?=a3 y:=h1;have hi:i<(cvs++vs).length:=by rw[<-lenN];exact(X7.mp h1).1
  have ha:(cvs++vs)[i]?=a3 v:=by
   unfold start at h2;rw[Pn (by simpa using hi),xx]at h2;cases e:(cvs++vs)[i]? with
   |none=>rw[e]at h2;cases h2
   |some a=>rw[e]at h2;cases h2;rfl
  rw[S.nm]at h1;by_cases z:i<cvs.length
  .rw[Pn z]at ha;rw[Pn nofun]at h1;obtain⟨q,u,e1,e2,r⟩:=hc.get ha;refine⟨u,r,.inr ⟨.inr (S.lfr y (Xo h1)),q,?_,e2.keeps kp⟩⟩;rw[<-hn,xx]at h1;rw[xx]at e1;obtain⟨p,hp,ep⟩:=ph.mp h1;rw[hp]at e1;have:=lookup_at ndC hp;rw[ep]at this;show cl.lookup y=a3 q;rw[this];exact e1
  .rw[cM nofun]at ha h1;rw[<-lenC]at h1;obtain⟨u,hu,r⟩:=rv.get ha;exact⟨u,r,.inl ⟨S.lps y (Xo h1),j1d ndP (by rw[<-rv.length,hl]) h1 hu⟩⟩
 .obtain⟨v,z⟩:=hc.all q (mem2 h);exact⟨v,z.keeps kp⟩
 .unfold start;show _=N.length;rw[Xc,kj,du];omega
theorem j5o (hr:Room (k+1) A) (e0:Env0 P w K mg base A outer s H) (ho:s.heap.get? a=a3 (W.kla_obj "<lambda>" (jr x) tx.1 tx.2.1 tx.2.2 cl pm c ctv)) (hcd:s.heap.CodeRec (.ref c) (jr x))
  (S:LamScope N ps tx.2.2) (hn:cl.map (·.1)=vo tx.2.2) (nd:(cl.map (·.2)).Nodup) (hc:Jd s.heap (cl.map (·.2)) cvs) (hf:∀q∈cl.map (·.2),H q=a7)
  (hb:dZ (W.kla_fn "<lambda>" (jr x) tx.1 tx.2.1 tx.2.2 cl pm (.ref c) ctv) ⟨us,[]⟩=pure (ps.zip us)) (rv:Vals vs us) (hl:vs.length=ps.length)
  (body:Room k (Y6 P w K mg base N (jr x) tx.2.2 a (.ref c) cl A outer s H).A->Q6 (Y6 P w K mg base N (jr x) tx.2.2 a (.ref c) cl A outer s H) tx.2.1 (start N (cvs++vs)) H Q) :
  cu (aw P w) A (.call (.ref a) ⟨us,[]⟩) (CR CX0 outer P w H s Q E) s:=by
 have lim:s.heap.NoLimit:=e0.mod.nolimit.keeps λb o e=>(e0.bs b o e).1;refine W.kla_callFunE (by have:=hr.dp;omega) ho rfl S.co S.gen rfl hcd ?_;rw[hb];refine ah (wpAny_newFunctionEnv S.nocell (λy hy=>S.lps y.1 (dk (a:=y.1) (b:=y.2) hy).1) (λh1 ns sb=>⟨lim.fresh _ sb,?_⟩) S.kind);show cu _ _ (.expr tx.2.1 (W.envX (jr x) tx.2.2 s.heap.objs.size a (.ref c) cl)) _ _;have kp:∀b o,s.heap.get? b=a3 o->h1.get? b=a3 o:=λb o e=>sb.extBut b o (Xb (xu e)) (xg _ e);have I:=j9m (x:=x) (a:=a) (c:=c) (tk:=s.toks+(ps.zip us).length) hr.hd e0 S hn nd hc hf rv hl ns kp;refine W.kla_codeExpr (bp (body (hr.deeper _) [] _ I) (λu s' ⟨v,H',J,r,q⟩=>?_) λ_ _ z=>z.elim);exact⟨v,H',J.os,J.bare,J.base,J.hok,r,q⟩
end
mutual
noncomputable def noFn:D->Bool
 |.fn _ _=>a4
 |.tup ds=>Jo ds
 |.lst ds=>Jo ds
 |.dct _ ds=>Jo ds
 |_=>a6
noncomputable def Jo:List D->Bool
 |[]=>a6
 |d::ds=>noFn d&&Jo ds
end
section
variable{K:k7m}{H:Hp}{A:List aa}
def Cel(H:Hp)(A:List aa):Prop:=∀a∈A,∃oc v,H a=a3 (.frz oc (.own 0))/\oc.data=.cell v
theorem Cel.out(hA:Cel H A){b:aa}{o:HO}(q:H b=a3 o)(h:∀oc,o≠.frz oc (.own 0)):del H A b=a3 o:=by rw[j6];exact q;intro y;obtain⟨oc,v,e,_⟩:=hA b y;rw[q]at e;exact h oc (av e)
theorem Cel.seqT(hA:Cel H A){a:aa}{xs:List V}(h:SqT K H a xs):SqT K (del H A) a xs:=by
 rcases h with (h|⟨o,h⟩)|h
 .exact .inl (.inl (hA.out h λ_ z=>by cases z))
 .exact .inl (.inr ⟨o,hA.out h λ_ z=>by cases z⟩)
 .exact .inr h
theorem Cel.seq(hA:Cel H A){a:aa}{xs:List V}(h:SqL K H a xs):SqL K (del H A) a xs:=by
 rcases h with (h|⟨o,h⟩)|h
 .exact .inl (.inl (hA.out h λ_ z=>by cases z))
 .exact .inl (.inr ⟨o,hA.out h λ_ z=>by cases z⟩)
 .exact .inr h
mutual
theorem Enc.noc(hA:Cel H A):∀{d:D}{v:V},noFn d=a6->Enc K H d v->Enc K (del H A) d v
 |.non,_,_,h=>h
 |.bl _,_,_,h=>h
 |.int _,_,_,h=>h
 |.str _,_,_,h=>h
 |.tup _,_,n,⟨a,xs,e,q,l⟩=>⟨a,xs,e,hA.seqT q,j5.noc hA (by simpa [noFn]using n) l⟩
 |.lst _,_,n,⟨a,xs,e,q,l⟩=>⟨a,xs,e,hA.seq q,j5.noc hA (by simpa [noFn]using n) l⟩
 |.dct _ _,_,n,⟨a,xs,ep,vs,e,q,ek,kt,rv,l⟩=>⟨a,xs,ep,vs,e,hA.out q (λ_ z=>by cases z),ek,λx hx=>hA.seqT (kt x hx),rv,j5.noc hA (by simpa [noFn]using n) l⟩
 |.sct _,_,_,⟨a,e,q⟩=>⟨a,e,hA.out q λ_ z=>by cases z⟩
 |.fn _ _,_,n,_=>by cases n
theorem j5.noc(hA:Cel H A):∀{ds:List D}{xs:List V},Jo ds=a6->j5 K H ds xs->j5 K (del H A) ds xs
 |[],_,_,h=>h
 |d::ds,_,n,⟨x,r,e,h,l⟩=>by rw[Jo,Xk]at n;exact⟨x,r,e,Enc.noc hA n.1 h,j5.noc hA n.2 l⟩
end
theorem v5.cel:∀{cs:List aa}{vs:List V},v5 H cs vs->Cel H cs
 |[],_,_=>λ_ h=>nomatch h
 |c::cs,_,⟨v,r,o,u,e,h,d,rv,l⟩=>λa ha=>(xr.mp ha).elim (λz=>⟨o,_,z▸h,d⟩) (l.cel a)
theorem v5.inn{P:aq}{w:ax}{h:aB}(ok:HOk P w H h):∀{cs:List aa}{vs:List V},v5 H cs vs->Jd h cs vs
 |[],_,e=>e
 |c::cs,_,⟨v,r,o,u,e,q,d,rv,l⟩=>⟨v,r,u,e,⟨o,(show je P w H h c (.frz o (.own 0))from ok _ _ q).1,d⟩,rv,l.inn ok⟩
theorem v5.of_del{B:List aa}:∀{cs:List aa}{vs:List V},v5 (del H B) cs vs->v5 H cs vs:=λh=>h.mono jo
theorem TabOk.fz(h:TabOk K H)(hA:∀a∈A,Fz (H a)):TabOk K (L2.del H A):=λx hx c P z=>by have q:=h x hx c P z;rw[j6];exact q;intro y;rcases hA _ y with ⟨xs,e⟩|⟨oc,v,e,_⟩<;>(rw[q]at e;cases e)
end
def Dp(P:aq)(w:ax)(K:k7m)(mg:k7p)(base:aB)(k:Nat)(x:af)(S:List D->D->Prop):Prop :=
 ∀(A:az)(outer:List dh)(s:ae)(H:Hp)(a:aa)(B:List aa)(cs ds:List D) (d:D) (vs:List V) (us:List a8) (Q:VK) (E:XK),Room k A->Env0 P w K mg base A outer s H->TabOk K H->(∀b∈B,∃xs,H b=a3 (.lst xs)) ->
  Enc K (del H B) (.fn x cs) (.ref a)->j5 K (del H B) ds vs->Jo ds=a6->S (cs++ds) d->Vals vs us->(∀v H',j4 H H'->Enc K (del H' B) d v->Q v H')->cu (aw P w) A (.call (.ref a) ⟨us,[]⟩) (CR CX0 outer P w H s Q E) s
section
variable{P:aq}{w:ax}{K:k7m}{mg:k7p}{base:aB}{k:Nat}{x:af}{S:List D->D->Prop}{tx:Tx}{N ps:List af}
theorem jcc(ht:Zq K x=a3 tx)(Sc:LamScope N ps tx.2.2)(hl:∀ds d,S ds d->ds.length=N.length)
  (hb:∀(cl:List (af×aa)) (pm:a8) (c:aa) (ctv:a8) (us:List a8),us.length=ps.length->dZ (W.kla_fn "<lambda>" (jr x) tx.1 tx.2.1 tx.2.2 cl pm (.ref c) ctv) ⟨us,[]⟩=pure (ps.zip us))
  (hbody:∀(a c:aa)(cl:List (af×aa)) (A:az) (outer:List dh) (s:ae) (H:Hp),cl.map (·.1)=vo tx.2.2->Room k (Y6 P w K mg base N (jr x) tx.2.2 a (.ref c) cl A outer s H).A->∀ds d,S ds d->DT (Y6 P w K mg base N (jr x) tx.2.2 a (.ref c) cl A outer s H) (qt N ds) tx.2.1 d):Dp P w K mg base (k+1) x S:=by
 intro A outer s H a B cs ds d vs us Q E hr e0 tb hB en ea nf hS rv q;obtain⟨a',c,tx',cl,cvs,e,L,l⟩:=en;cases e;have et:tx'=tx:=av (L.tx.symm.trans ht);subst et;have cs_at:v5 H (cl.map (·.2)) cvs:=L.cs.of_del;have hA:∀b∈B++cl.map (·.2),Fz (H b):=λb hb=>(Pb.mp hb).elim (λz=>.inl (hB b z)) λz=>.inr (cs_at.cel b z);obtain⟨e1,back⟩:=j3p e0 hA;obtain⟨pm,ctv,hfo⟩:=L.fo;obtain⟨oc,hco,vs0,t0,hd0,hv0⟩:=L.co;have ho:=(show je P w H s.heap a (.frz _ (.own 0))from e0.hok _ _ (of_del hfo).2).1;have hcd:s.heap.CodeRec (.ref c) (jr x):=⟨c,oc,vs0,t0,rfl,(show je P w H s.heap c (.frz oc (.own 0))from e0.hok _ _ (of_del hco).2).1,hd0,hv0⟩
 have ll:=l.length;have la:=ea.length;have hlen:=hl _ _ hS;have lenC:(cl.map (·.2)).length=(vo tx'.2.2).length:=by rw[<-L.nm,kj,kj]
 have lcv:=(cs_at.inn e0.hok).length;have hlv:vs.length=ps.length:=by rw[Sc.nm,Xc,Xc]at hlen;omega
 have celB:Cel (del H B) (cl.map (·.2)):=L.cs.cel;have ea1:j5 K (del H (B++cl.map (·.2))) ds vs:=by rw[<-Qq];exact ea.noc celB nf
 have l1:j5 K (del H (B++cl.map (·.2))) cs cvs:=by rw[<-Qq];exact l
 refine bP (j5o (E:=E) (Q:=λv F=>(∀a∈B++cl.map (·.2),F a=a7)->Q v (mrg (B++cl.map (·.2)) H F)) hr e1 ho hcd Sc L.nm L.nd (cs_at.inn e0.hok) (λb hb=>qx (Xf _ hb)) (hb cl pm c ctv us (by rw[<-rv.length];exact hlv)) rv hlv λhrm=>?_) λr s' h=>back Q E E r s' h;refine hbody a c cl A outer s _ L.nm hrm (cs++ds) d hS _ _ _ (Vy (tb.fz hA) (l1.append ea1)) λv F g en' hF=>q v _ (Wz g) (en'.mono λb o z=>?_);have nb:b∉B++cl.map (·.2):=λy=>by rw[hF b y]at z;cases z
 rw[j6 (λy=>nb (T5 _ y)),jj nb];exact z
end
section
variable{X:Cx}{ρ:Rho}{e:ai}{es:List ai}{d:D}{cs ds:List D}{pos p:aG}{x y:af}{i k:Nat}
theorem DE.callV {S:List D->D->Prop} (c:Dp X.prog X.w X.K X.mg X.base k x S) (hr:Room k X.A) (hi:ρ[i]?=a3 (.val (.fn x cs))) (ha:DA X ρ (e::es) ds) (nf:Jo ds=a6) (hS:S (cs++ds) d) (hN:X.N[i]?=a3 y) (hv:Vis X.env.scope y) (hd:(y==k7q)=a4) (hcd:(y==k7r)=a4)
  (he:a9 (e::es) X.env=(a4,ay e X.env)::a9 es X.env) (hpl:(aP pos (a9 es X.env)).any (·.1)=a4):DE X ρ (.Call (.Name y p) (e::es) [] pos) d:=λσ H Q R q pins s I=>by
 obtain⟨v,hσ,en⟩:=R.val i _ hi;obtain⟨a,c0,tx,cl,cvs,ev,L,l⟩:=id en;subst ev;refine aM (thn (Qa hN hv hd hcd pins s σ H (λv' H'=>v'=.ref a/\H'=H) I ⟨_,hσ,rfl,rfl⟩) λu s1 ⟨v',H',I1,r1,e1,e2⟩=>?_);subst e1 e2;cases(show u=aA a from r1);obtain⟨pm,ctv,hfo⟩:=L.fo;have fnAt:∀{H2:Hp}{s2:ae},Inv X pins σ H2 s2->j4 H' H2->PySem.W.FnAt a s2.heap:=λ{H2 s2} I2 g=>⟨_,_,_,_,(show je X.prog X.w H2 s2.heap a (.frz _ (.own 0))from I2.hok _ _ (g _ _ (of_del hfo).2)).1⟩
 refine W.callWith_F (fnAt I1 (j4.refl _)) (thn (ha σ H' (λvs H2=>j4 H' H2/\j5 X.K (del H2 (owns ρ)) ds vs) R (λvs H2 g z=>⟨g,z⟩) pos pins s1 I1) λus s2 ⟨vs,H2,I2,rv,g,ea⟩=>⟨fnAt I2 g,?_⟩) he hpl;refine gp (bP (c X.A X.stack s2 H2 a (owns ρ) cs ds d vs us Q E0 hr I2.env0 (R.tb.mono g) (R.grow g).owned (en.mono (jg g)) ea nf hS rv λv H3 g3 z=>q v H3 (g.trans g3) z) λr s' hq=>?_);cases r with
 |error e=>exact(show False from hq).elim
 |ok fl =>
  cases fl with
  |ret u=>exact I2.after hq
  |next=>exact(show False from hq).elim
  |brk=>exact(show False from hq).elim
  |cont=>exact(show False from hq).elim
end
theorem Oc{pos:aG}{c cv:a8}{a b:Int}:∀(l:List a8),TriplesOk l->eJ pos (l++[dj a,dj b,c])=a3 cv->eJ pos l=a3 cv\/cv=c
 |[],_,h=>by
  simp only[dm,dj,eJ]at h;split at h
  .exact .inr (av h).symm
  .cases h
 |.int i t::.int j u::x::r,ht,h=>by
  simp only[eT,eJ]at h ⊢;split at h
  .rename_i z;rw[if_pos z];exact .inl h
  .rename_i z;rw[if_neg z];exact Oc r ht h
section
variable{X:Cx}{pins:k7o}{σ:St}{H:Hp}{s:ae}
theorem Inv.madeL{q:af}{P:aa}{h2:aB}{tk:Nat}{H2:Hp}(I:Inv X pins σ H s)(hP:H P=a3 (.cod q))(g:j4 H H2)(kp:∀b o,b≠P->s.heap.get? b=a3 o->h2.get? b=a3 o)
  (new:∀b o,H2 b=a3 o->H b=a3 o\/(s.heap.objs.size<=b/\je X.prog X.w H2 h2 b o)) (okP:je X.prog X.w H2 h2 P (.cod q)):Inv X pins σ H2 { s with heap:=h2,toks:=tk }:=by
 have nP:∀{b:aa},H b=a7->b≠P:=λ{b} n z=>by rw[z,hP]at n;cases n
 have nO:∀{b:aa}{u:HO},H b=a3 u->(∀q,u≠.cod q)->b≠P:=λ{b u} e n z=>by rw[z,hP]at e;cases e;exact n _ rfl
 refine I.un (H':=H2) (h':=h2) (t':=tk) ⟨λb o e n _ _=>kp b o (nP n) e,λb o e n _ _=>⟨o.slots,kp b o (nP n) e⟩,λb o e n _=>?_,λb o e _=>?_,λb xs e=>g _ _ e,λb o u e=>g _ _ e,λb ps e=>⟨#[],by rw[g _ _ e];simp⟩⟩ λb o e=>?_
 .cases z:H2 b with
  |none=>rfl
  |some u =>
   rcases new b u z with y|⟨y,_⟩
   .rw[n]at y;cases y
   .exact absurd (Xg (xu e) y) (P0 _)
 .by_cases z:b=P
  .obtain⟨ps,y,_⟩:=okP;exact⟨_,by rw[z];exact y⟩
  .exact⟨o,kp b o z e⟩
 .rcases new b o e with y|⟨_,y⟩
  .by_cases z:b=P
   .subst z;rw[hP]at y;cases y;exact okP
   .exact(I.hok b o y).stay (λc u hc r=>kp c u (hc.elim (λe=>e▸z) λe=>nO e λ_ z=>by cases z) r) (λ_ r=>g _ _ r) (λ_ _ r=>g _ _ r) λ_ _ _ r=>g _ _ r
  .exact y
structure LMk(X:Cx)(x:af):Prop where
 mem:x∈Zc
 qual:X.env.qual=x ++ ".<locals>."
 code:∃c P,X.env.code=.ref c/\W.codeHdIn X.K c P=a6/\W.tabIn X.K x=a3 (c,P)
def jg7(X:Cx)(x:af)(params:dw)(body:ai)(scope:aX)(cl:List (af×aa)):TE:=λ_ H Q=>TabOk X.K H/\∀(f c:aa)(oc:de)(pm ctv:a8)(H2:Hp),j4 H H2->H f=a7->H2 f=a3 (.frz (W.kla_obj "<lambda>" (jr x) params body scope cl pm c ctv) (.own 0)) ->
 H2 c=a3 (.frz oc (.own 0))->Od oc (jr x)->Q (.ref f) H2
theorem jbn{x:af}{params:dw}{body:ai}{scope:aX}{cl:List (af×aa)}{pos:aG}(M:LMk X x)(hdef:js params X.env=([],[]))(hcl:eZ scope X.env=pure cl):PE X (.Lambda params body scope pos) (jg7 X x params body scope cl):=by
 rintro pins s σ H Q I ⟨tb,h⟩;obtain⟨c,P,hc,hd,ht⟩:=M.code;have hP:=tb x M.mem c P ht;have C:ia s.heap c P:=W.codeHd_of_K I.kIn hd;obtain⟨ps,hps,htr,hcod⟩:=(show je X.prog X.w H s.heap P (.cod (jr x))from I.hok _ _ hP)
 have hns:=I.mod.glob.keeps I.bk;have hgP:au≠P:=λz=>by obtain⟨o,es,ep,e,d,_⟩:=hns;rw[z,hps]at e;cases e;cases d
 have hbP:s.heap.BuiltinsAt X.mg P:=by
  obtain⟨bm,ob,b1,b2,b3,b4,b5,b6⟩:=I.mod.bm;have b3':=I.bk _ _ b3;refine⟨bm,ob,b1,b2,λz=>?_,λz=>?_,b3',b4,b5,b6⟩
  .obtain⟨o,es,ep,e,d,_⟩:=hns;rw[z,e]at b3';cases b3';rw[d]at b6;cases b6
  .rw[z,hps]at b3';cases b3';cases b4
 have hq:X.env.qual ++ "<lambda>" = jr x:=by rw[M.qual];rfl
 refine W.kla_eval hdef ?_;rw[hq];cases e:eJ pos ps.toList with
 |none =>
  refine W.kla_makeFunction hcl I.ok.glob hns hc C hps htr e hgP hbP λc' ctv h' tk hx hge hlt hrec htb=>?_;obtain⟨c2,oc,vs,t,ec,hoc,hdt,hv⟩:=hrec;cases ec;have hsz:s.heap.objs.size<=h'.objs.size:=cK (bR hge hlt);have n1:H c'=a7:=I.hok.fresh hge;have n2:H h'.objs.size=a7:=I.hok.fresh hsz;have ne:c'≠h'.objs.size:=Xb hlt;have hne:∀{b:aa}{u:HO},H b=a3 u->b≠c'/\b≠h'.objs.size:=λz=>⟨zr z n1,zr z n2⟩
  have g:∀fo:HO,j4 H (upd (upd H c' (.frz oc (.own 0))) h'.objs.size fo):=λfo b u z=>by rw[ji (hne z).2,ji (hne z).1];exact z
  have h2c:∀fo:HO,upd (upd H c' (.frz oc (.own 0))) h'.objs.size fo c'=a3 (.frz oc (.own 0)):=λfo=>by rw[ji ne,j9]
  refine⟨.ref h'.objs.size,_,I.madeL (P:=P) (q:=jr x) (H2:=upd (upd H c' (.frz oc (.own 0))) h'.objs.size (.frz (W.kla_obj "<lambda>" (jr x) params body scope cl ((X.mg "__name__").getD .none) c' ctv) (.own 0))) hP (g _)
   (λb o nb z=>xg _ (hx b o nb z)) (λb o z=>?_) ?_,rfl,h _ c' oc _ ctv _ (g _) n2 j9 (h2c _) ⟨vs,t,hdt,hv⟩⟩
  .by_cases z1:b=h'.objs.size
   .subst z1;rw[j9]at z;cases z;exact .inr ⟨hsz,X5 _ rfl,_,X5 _ rfl⟩
   .rw[ji z1]at z;by_cases z2:b=c'
    .subst z2;rw[j9]at z;cases z;exact .inr ⟨hge,xg _ hoc,_,xg _ hoc⟩
    .rw[ji z2]at z;exact .inl z
  .refine⟨_,xg _ htb,by rw[Te];exact TriplesOk_snoc _ _ _ _ htr,λpos' cv z=>?_⟩;rw[Te]at z;rcases Oc ps.toList htr z with z|z
   .obtain⟨c3,oc3,e1,e2,e3⟩:=hcod pos' cv z;exact⟨c3,oc3,e1,g _ _ _ e2,e3⟩
   .exact⟨c',oc,z,h2c _,vs,t,hdt,hv⟩
 |some cv =>
  obtain⟨c',oc,ec,h1,h2⟩:=hcod pos cv e;subst ec;refine W.kla_makeFunctionHit hcl I.ok.glob hns hc C hps htr e hbP λctv h' tk hk hsz=>?_;have n2:H h'.objs.size=a7:=I.hok.fresh hsz;have g:∀fo:HO,j4 H (upd H h'.objs.size fo):=λfo=>j7 n2;refine⟨.ref h'.objs.size,_,I.madeL (P:=P) (q:=jr x) (H2:=upd H h'.objs.size (.frz (W.kla_obj "<lambda>" (jr x) params body scope cl ((X.mg "__name__").getD .none) c' ctv) (.own 0))) hP (g _)
   (λb o _ z=>xg _ (hk b o z)) (λb o z=>?_) ?_,rfl,h _ c' oc _ ctv _ (g _) n2 j9 (g _ _ _ h1) h2⟩
  .by_cases z1:b=h'.objs.size
   .subst z1;rw[j9]at z;cases z;exact .inr ⟨hsz,X5 _ rfl,_,X5 _ rfl⟩
   .rw[ji z1]at z;exact .inl z
  .refine⟨ps,xg _ (hk _ _ hps),htr,λpos' cv z=>?_⟩;obtain⟨c3,oc3,e1,e2,e3⟩:=hcod pos' cv z;exact⟨c3,oc3,e1,g _ _ _ e2,e3⟩
noncomputable def plus(H:Hp)(h:aB)(cs:List aa):Hp:=λb=>if b∈cs then(h.get? b).map λo=>.frz o (.own 0)else H b
theorem Ox{h:aB}{cs:List aa}{b:aa}{o:de}(hb:b∈cs)(e:h.get? b=a3 o):plus H h cs b=a3 (.frz o (.own 0)):=by unfold plus;rw[if_pos hb,e];rfl
theorem Jr{h:aB}{cs:List aa}{b:aa}(hb:b∉cs):plus H h cs b=H b:=if_neg hb
def Own(X:Cx)(cs:List aa):Prop:=∀c∈cs,∃y,X.env.cells.lookup y=a3 c/\X.fn y=a6
theorem Own.obj{cs:List aa}(I:Inv X pins σ H s)(hc:Own X cs){c:aa}(h:c∈cs):∃o v,s.heap.get? c=a3 o/\o.data=.cell v/\H c=a7/\X.s₀.heap.objs.size<=c/\c≠X.env.locals:=by obtain⟨y,e,f⟩:=hc c h;obtain⟨v,o,e1,e2⟩:=I.cell y c e;exact⟨o,v,e1,e2,I.freeC y c e,I.ok.cab y c f e,I.cne y c e⟩
theorem Uo{cs:List aa}(I:Inv X pins σ H s)(hc:Own X cs):j4 H (plus H s.heap cs):=λb o e=>by rw[Jr];exact e;intro z;obtain⟨_,_,_,_,n,_⟩:=hc.obj I z;rw[n]at e;cases e
theorem Inv.plus{cs:List aa}(I:Inv X pins σ H s)(hc:Own X cs) :
  Env0 X.prog X.w X.K X.mg X.base X.A X.stack s (plus H s.heap cs)/\∀(Q:VK)(u:a8)(s':ae),CE X.stack X.prog X.w (L2.plus H s.heap cs) s (λv H'=>Cel H' cs->Q v (del H' cs)) u s'->EP X pins σ Q u s':=by
 have e0:=I.env0;have nb:∀{b:aa}{u:HO},H b=a3 u->b∉cs:=λ{b u} e z=>by obtain⟨_,_,_,_,n,_⟩:=hc.obj I z;rw[n]at e;cases e
 have nf:∀b∈frs X.stack,b∉cs:=λb hb z=>by
  obtain⟨o,v,e1,e2,n,hge,hl⟩:=hc.obj I z;rcases xr.mp (I.stkSub b hb)with y|y
  .exact hl y
  .obtain⟨_,o',ho,_⟩:=I.ok.funs.mem y;exact absurd (Xg (xu ho) hge) (P0 _)
 have g:=Uo I hc;refine⟨⟨e0.frames,e0.mod,λb o e=>⟨(e0.bs b o e).1,?_⟩,e0.bsz,e0.funs,λb hb=>by rw[Jr (nf b hb)];exact e0.frf b hb,λb o e=>?_,e0.bare⟩,λQ u s' hq=>?_⟩
 .rw[Jr];exact(e0.bs b o e).2;intro z;obtain⟨_,_,_,_,_,hge,_⟩:=hc.obj I z;exact absurd (Xg (xu e) (Xh I.ok.bsz hge)) (P0 _)
 .by_cases z:b∈cs
  .obtain⟨oc,v,e1,_⟩:=hc.obj I z;rw[Ox z e1]at e;cases e;exact⟨e1,_,e1⟩
  .rw[Jr z]at e;exact(I.hok b o e).stay (λ_ _ _ r=>r) (λ_ r=>g _ _ r) (λ_ _ r=>g _ _ r) λ_ _ _ r=>g _ _ r
 .obtain⟨v,H',os,bare,un,hok',rel,q⟩:=hq;have cel:∀c∈cs,∃o v,s.heap.get? c=a3 o/\o.data=.cell v/\H' c=a3 (.frz o (.own 0))/\s'.heap.get? c=a3 o:=λc hcs=>by obtain⟨o,v,e1,e2,_⟩:=hc.obj I hcs;have z:=un.frzs c o _ (Ox hcs e1);exact⟨o,v,e1,e2,z,(show je X.prog X.w H' s'.heap c (.frz o (.own 0))from hok' _ _ z).1⟩
  have hC:Cel H' cs:=λc hcs=>let ⟨o,v,_,e2,e3,_⟩:=cel c hcs;⟨o,v,e3,e2⟩;have nb':∀{b:aa}{u:HO},H' b=a3 u->(∀oc v,u=.frz oc (.own 0)->oc.data≠.cell v)->del H' cs b=a3 u:=λ{b u} e n=>by rw[j6];exact e;intro z;obtain⟨o,v,_,e2,e3,_⟩:=cel b z;rw[e]at e3;cases e3;exact n _ _ rfl e2
  refine⟨v,del H' cs,I.call' (ch:=[]) os ⟨λb o e n hb hx=>?_,λb o e n hb hx=>?_,λb o e n hx=>?_,un.there,λb xs e=>?_,λb o u e=>?_,λb ps e=>?_⟩ (λb o e=>?_) bare (λb z=>absurd z (by simp)),rel,q hC⟩
  .by_cases z:b∈cs
   .obtain⟨o',v',e1,_,_,e4⟩:=cel b z;rw[e]at e1;cases e1;exact e4
   .exact un.keep b o e (by rw[Jr z];exact n) hb hx
  .exact un.slot b o e (by rw[Jr (nf b hb)];exact n) hb hx
  .by_cases z:b∈cs
   .exact qx z
   .rw[j6 z];exact un.free b o e (by rw[Jr z];exact n) hx
  .have z:=un.tups b xs (g _ _ e);exact nb' z λ_ _ y=>by cases y
  .have z:=un.frzs b o u (g _ _ e);rw[j6 (nb e)];exact z
  .obtain⟨m,z⟩:=un.tbls b ps (g _ _ e);exact⟨m,nb' z λ_ _ y=>by cases y⟩
  .obtain⟨n,e⟩:=of_del e;exact(hok' b o e).stay (λ_ _ _ r=>r) (λ_ r=>nb' r λ_ _ y=>by cases y) (λ_ _ r=>nb' r λ_ _ y=>by cases y) λ_ _ ⟨vs,d⟩ r=>nb' r λ_ _ y d'=>by cases y;rw[d]at d';cases d'
end
def Z6(X:Cx)(ρ:Rho):List (af×aa)->List D->Prop
 |[],ds=>ds=[]
 |p::cl,ds=>∃(d:D)(r:List D)(i:Nat),ds=d::r/\X.N[i]?=a3 p.1/\X.env.scope.names.lookup p.1=a3 .cell/\X.env.cells.lookup p.1=a3 p.2/\X.fn p.1=a6/\ρ[i]?=a3 (.val d)/\Z6 X ρ cl r
section
variable{X:Cx}{pins:k7o}{σ:St}{H H2:Hp}{s s2:ae}{ρ:Rho}
theorem Z6.own:∀{cl:List (af×aa)} {ds:List D},Z6 X ρ cl ds->Own X (cl.map (·.2))
 |[],_,_=>λ_ h=>nomatch h
 |p::cl,_,⟨d,r,i,e,h1,h2,h3,h4,h5,l⟩=>λc hc=>(xr.mp hc).elim (λz=>⟨p.1,by rw[z];exact h3,h4⟩) (Z6.own l c)
theorem Z6.look:∀{cl:List (af×aa)} {ds:List D},Z6 X ρ cl ds->∀p∈cl,X.env.cells.lookup p.1=a3 p.2
 |p::cl,_,⟨d,r,i,e,h1,h2,h3,h4,h5,l⟩,q,hq=>(xr.mp hq).elim (λz=>z▸h3) (Z6.look l q)
theorem Z6.cells(I2:Inv X pins σ H2 s2)(R:Rep X.K ρ σ H){cs:List aa}(hg:j4 (del H (owns ρ)) (del (plus H2 s2.heap cs) cs)):∀{cl:List (af×aa)} {ds:List D},Z6 X ρ cl ds->(∀c∈cl.map (·.2),c∈cs) ->
  ∃vs,v5 (plus H2 s2.heap cs) (cl.map (·.2)) vs/\j5 X.K (del (plus H2 s2.heap cs) cs) ds vs
 |[],_,h,_=>by cases h;exact⟨[],rfl,rfl⟩
 |p::cl,_,⟨d,r,i,e,h1,h2,h3,h4,h5,l⟩,hm=>by
  subst e;obtain⟨vs,q1,q2⟩:=Z6.cells I2 R hg l λc hc=>hm c (xf _ hc);obtain⟨v,hv,en⟩:=R.val i d h5;obtain⟨m,hn,hl⟩:=I2.loc;obtain⟨u,r,lk⟩:=hl i p.1 v h1 hv (.inr (.inl h2));rcases lk with ⟨k,_⟩|⟨_,c,e,o,ho,hd⟩
  .have k:X.env.scope.names.lookup p.1=a3 .local:=k;rw[h2]at k;cases k
  .rw[h3]at e;cases e;exact⟨v::vs,⟨v,vs,o,u,rfl,Ox (hm _ (xm ..)) ho,hd,r,q1⟩,v,vs,rfl,en.mono hg,q2⟩
theorem Ij{cl:List (af×aa)}{ds:List D}(ok:X.Ok)(h:Z6 X ρ cl ds)(nd:(cl.map (·.1)).Nodup):(cl.map (·.2)).Nodup:=by
 have lk:=h.look;clear h;induction cl with
 |nil=>exact fw
 |cons p r ih =>rw[X4]at nd ⊢;obtain⟨n1,n2⟩:=Xm.mp nd;refine Xm.mpr ⟨λz=>?_,ih n2 λq hq=>lk q (xf _ hq)⟩;obtain⟨q,hq,e⟩:=X8.mp z;have:=ok.inj p.1 q.1 p.2 (lk p (xm ..)) (by rw[<-e];exact lk q (xf _ hq));exact n1 (this▸dJ hq)
theorem jdd{x:af}{tx:Tx}{cl:List (af×aa)}{ds:List D}{f c:aa}{oc:de}{pm ctv:a8}(ht:Zq X.K x=a3 tx)(hn:cl.map (·.1)=vo tx.2.2)(nd:(vo tx.2.2).Nodup)(hc:Z6 X ρ cl ds)(I2:Inv X pins σ H2 s2)(R:Rep X.K ρ σ H)(g:j4 H H2)
  (hf:H2 f=a3 (.frz (W.kla_obj "<lambda>" (jr x) tx.1 tx.2.1 tx.2.2 cl pm c ctv) (.own 0))) (ho:H2 c=a3 (.frz oc (.own 0))) (hq:Od oc (jr x)):Enc X.K (plus H2 s2.heap (cl.map (·.2))) (.fn x ds) (.ref f):=by
 have pg:=Uo I2 hc.own;have hg:j4 (del H (owns ρ)) (del (plus H2 s2.heap (cl.map (·.2))) (cl.map (·.2))):=λb o e=>by
  have e2:=g _ _ (of_del e).2;have nb:b∉cl.map (·.2):=λz=>by obtain⟨_,_,_,_,n,_⟩:=hc.own.obj I2 z;rw[n]at e2;cases e2
  rw[j6 nb,Jr nb];exact e2
 obtain⟨vs,q1,q2⟩:=hc.cells I2 R hg λ_ z=>z;exact⟨f,c,tx,cl,vs,rfl,⟨ht,⟨pm,ctv,pg _ _ hf⟩,⟨oc,pg _ _ ho,hq⟩,hn,Ij I2.ok hc (by rw[hn];exact nd),q1⟩,q2⟩
end
section
variable{X:Cx}{ρ:Rho}{P:Po}{x:af}{params:dw}{body:ai}{scope:aX}{cl:List (af×aa)}{ds:List D}{pos p1 p2:aG}
theorem DT.callL{S:List D->D->Prop}{g:af}{e1 e2:ai}{d1 d2 d:D}(c:Cal X g (spP X.K S))(M:LMk X x)(hdef:js params X.env=([],[]))(hcl:eZ scope X.env=pure cl)(ht:Zq X.K x=a3 (params,body,scope))(hn:cl.map (·.1)=vo scope)(nd:(vo scope).Nodup)(hc:Z6 X ρ cl ds)
  (h1:DT X ρ e1 d1) (h2:DT X ρ e2 d2) (nf:noFn d=a6) (hS:S [d1,d2,.fn x ds] d) (hg:Gl X g) (hdb:(g==k7q)=a4)
  (hs1:a9 [e1,e2,.Lambda params body scope p1] X.env=(a4,ay e1 X.env)::a9 [e2,.Lambda params body scope p1] X.env) (hs2:a9 [e2,.Lambda params body scope p1] X.env=(a4,ay e2 X.env)::a9 [.Lambda params body scope p1] X.env)
  (hs3:a9 [.Lambda params body scope p1] X.env=(a4,ay (.Lambda params body scope p1) X.env)::a9 [] X.env) (hpl:(aP pos (a9 [e2,.Lambda params body scope p1] X.env)).any (·.1)=a4) :
  DT X ρ (.Call (.Name g p2) [e1,e2,.Lambda params body scope p1] [] pos) d:=λσ H Q R q pins s I=>by
 obtain⟨k,f,fd,ps,F,hr,hm,hk,hb,_⟩:=c.ex;refine aM (Yo I hg hm ?_ hdb);refine W.callWith_K (h₀:=X.base) I.ok.mod.kin hk (thn ((jd peS (jd peS (jd (jbn M hdef hcl) jz hs3) hs2) hs1) pos pins s σ H (λvs H2=>∃(v1 v2:V)(f c:aa)(oc:de)(pm ctv:a8),vs=[v1,v2,.ref f]/\j4 H H2/\Enc X.K H2 d1 v1/\Enc X.K H2 d2 v2 /\
   H2 f=a3 (.frz (W.kla_obj "<lambda>" (jr x) params body scope cl pm c ctv) (.own 0))/\H2 c=a3 (.frz oc (.own 0))/\Od oc (jr x)) I
  (h1 σ H _ R λv1 H1 g1 q1=>h2 σ H1 _ (R.grow g1) λv2 H2 g2 q2=>⟨R.tb.mono (g1.trans g2),λf c oc pm ctv H3 g3 _ z1 z2 z3=>⟨v1,v2,f,c,oc,pm,ctv,rfl,(g1.trans g2).trans g3,q1.mono (g2.trans g3),q2.mono g3,z1,z2,z3⟩⟩)) λus s2 ⟨vs,H2,I2,rv,v1,v2,fa,ca,oc,pm,ctv,ev,g,q1,q2,z1,z2,z3⟩=>⟨I2.kIn,?_⟩) hs1 hpl
 subst ev;have pg:=Uo I2 hc.own;have ef:=jdd (tx:=(params,body,scope)) ht hn nd hc I2 R g z1 z2 z3;obtain⟨e0,back⟩:=I2.plus hc.own;have sp:spP X.K S [v1,v2,.ref fa] (plus H2 s2.heap (cl.map (·.2))) (λv H'=>Cel H' (cl.map (·.2))->Q v (del H' (cl.map (·.2)))) E0 :=
  ⟨[],[d1,d2,.fn x ds],d,(R.tb.mono g).mono pg,(λa h=>nomatch h),by rw[Jb];exact⟨_,_,rfl,q1.mono pg,_,_,rfl,q2.mono pg,_,_,rfl,ef,rfl⟩,hS,λv H' g' en hC=>by
   rw[Jb]at en
   refine q v _ (λb o e=>?_) (en.noc hC nf)
   have e2:=g _ _ e
   have nb:b∉cl.map (·.2):=λz=>by obtain⟨_,_,_,_,n,_⟩:=hc.own.obj I2 z;rw[n]at e2;cases e2
   rw[j6 nb];exact g' _ _ (pg _ _ e2)⟩
 have hl:us.length=ps.length:=by rw[<-rv.length];exact F.len _ _ _ _ sp
 have hb':=hb s2 us I2.kIn (by rw[Xp];exact hl);rw[Xp]at hb';refine gp (bP (F.run X.A X.stack s2 _ ⟨us,[]⟩ us _ _ _ (hr.mono (T4 _)) e0 hb' rv sp) λr s' hq=>?_);cases r with
 |error e=>exact(show False from hq).elim
 |ok fl =>
  cases fl with
  |ret u=>exact back Q u s' hq
  |next=>exact(show False from hq).elim
  |brk=>exact(show False from hq).elim
  |cont=>exact(show False from hq).elim
end
section
variable{X:Cx}{ρ:Rho}{e a b c:ai}{es:List ai}{st:aW}{rest sa sb body:List aW}{P:Po}{d:D}{ds ds':List D}{pos p p1 p2 p3:aG}{x:af}{i:Nat}
theorem Cal.comp{sp:Sp}{scope:aX}{C:aa}{s:ae}{H:Hp}{fp:List aa}{pn:k7o}(h:Cal X x sp):Cal (cCx X scope C s H fp pn) x sp:=⟨h.ex⟩
end
theorem qb(lo:Int)(n:Nat):(upto lo n).length=n:=by unfold upto;rw[kj,Xe]
theorem Ls{lo:Int}{n:Nat}{d:D}(h:d∈upto lo n):∃j:Nat,j<n/\d=.int (lo+j):=by unfold upto at h;obtain⟨j,hj,e⟩:=X8.mp h;exact⟨j,Xj.mp hj,e.symm⟩
theorem Vf{lo:Int}{n j:Nat}{d:D}(h:(upto lo n)[j]?=a3 d):j<n/\d=.int (lo+j):=by
 unfold upto at h;rw[xx]at h;cases z:(ar n)[j]? with
 |none=>rw[z]at h;cases h
 |some k =>rw[z]at h;have hl:=(X7.mp z).1;rw[Xe]at hl;have:=Xx (n:=n) (i:=j) hl;rw[this]at z;cases z;cases h;exact⟨hl,rfl⟩
section
variable{X:Cx}{ρ:Rho}{a b tg it:ai}{ds ds':List D}{d:D}{i:Int}{pos:aG}
end
mutual
def Jp:D->Prop
 |.tup l=>l.length<=1000/\Qc l
 |.lst l=>l.length<=1000/\Qc l
 |.dct _ _=>False
 |.sct _=>False
 |.fn _ _=>False
 |_=>True
def Qc:List D->Prop
 |[]=>True
 |d::ds=>Jp d/\Qc ds
end
theorem Yy:∀{ds:List D}{d:D},Qc ds->d∈ds->Jp d
 |x::xs,d,h,m=>by
  simp only[Qc]at h;rcases xr.mp m with e|m
  .subst e;exact h.1
  .exact Yy h.2 m
theorem Ni:∀{ds:List D},(∀d∈ds,Jp d)->Qc ds
 |[],_=>by simp only[Qc]
 |x::xs,h=>by simp only[Qc];exact⟨h x (xm ..),Ni λd m=>h d (xf _ m)⟩
theorem D.depL_mem:∀{ds:List D}{d:D},d∈ds->d.dep<=D.depL ds
 |x::xs,d,m=>by
  simp only[D.depL];rcases xr.mp m with e|m
  .subst e;omega
  .have:=D.depL_mem m;omega
theorem D.depL_of{n:Nat}:∀{ds:List D},(∀d∈ds,d.dep<=n)->D.depL ds<=n
 |[],_=>by simp only[D.depL];omega
 |x::xs,h=>by simp only[D.depL];have h1:=h x (xm ..);have h2:=D.depL_of (ds:=xs) λd m=>h d (xf _ m);omega
end L2
namespace L2
noncomputable def j0(b:Int):Nat->Int->List Int
 |0,_=>[]
 |i+1,n=>(n/b^i%b)::j0 b i n
theorem jq(b:Int):∀(m:Nat)(n:Int),(j0 b m n).length=m
 |0,_=>rfl
 |m+1,n=>by rw[j0,xn,jq b m n]
theorem Qp(b:Int):∀{m k:Nat}{n:Int},k<m->(j0 b m n)[k]?=a3 (n/b^(m-k-1)%b)
 |m+1,0,n,_=>by rw[j0];rfl
 |m+1,k+1,n,h=>by
  rw[j0,d9,Qp b nofun];have:m-k-1=m+1-(k+1)-1:=by omega
  rw[this]
theorem Qy{b:Int}(hb:0<b):∀{m:Nat}{n v:Int},v∈j0 b m n->0<=v/\v<b
 |m+1,n,v,h=>by
  rw[j0]at h;rcases xr.mp h with e|h
  .subst e;exact⟨Py _ nofun,Ti _ hb⟩
  .exact Qy hb h
theorem Rr(n b:Int)(hb:0<b)(i:Nat):n/b^i/b=n/b^(i+1):=by rw[Int.ediv_ediv_of_nonneg (gx (bV hb)),gw]
end L2
end
section
namespace L2
open PySem PySem.Spec PyProof.Rows
def CX1(P:aq)(w:ax):CXT:=λouter H s E ev s'=>∃(e:aa)(C:a8)(H':Hp),ev=.ref e/\s'.os=s.os/\di s'.gens/\Un (frs outer) [] H H' s.heap s'.heap/\HOk P w H' s'.heap /\
 Fl (λb=>∃o,s.heap.get? b=a3 o) H' s'.heap e C/\E C a7 H'
theorem je.get{P:aq}{w:ax}{H:Hp}{h:aB}{a:aa}{o:HO}(x:je P w H h a o):∃u,h.get? a=a3 u:=by
 cases o with
 |lst xs=>obtain⟨_,_,_,_,e⟩:=x;exact⟨_,e⟩
 |tup xs=>obtain⟨_,_,_,⟨_,e,_⟩,_⟩:=x;exact⟨_,e⟩
 |dK kvs=>obtain⟨_,_,_,_,o,_,_,e,_⟩:=x;exact⟨_,e⟩
 |dT kvs=>obtain⟨_,_,_,_,o,_,_,e,_⟩:=x;exact⟨_,e⟩
 |dI xs ep=>obtain⟨_,_,_,o,_,e,_⟩:=x;exact⟨_,e⟩
 |set S n=>obtain⟨o,_,_,_,e,_⟩:=x;exact⟨_,e⟩
 |ins C dx fs=>obtain⟨_,_,_,e,_⟩:=x;exact⟨_,e⟩
 |own y=>obtain⟨_,e⟩:=x;exact⟨_,e⟩
 |xd fs=>obtain⟨_,⟨_,_,_,e,_⟩,_⟩:=x;exact⟨_,e⟩
 |rng lo hi=>obtain⟨_,_,_,e⟩:=x;exact⟨_,e⟩
 |frz ob u=>obtain⟨e,_⟩:=x;exact⟨_,e⟩
 |tbl ps=>exact⟨_,(show h.get? a=a3 _ from x)⟩
 |cod q=>obtain⟨_,e,_⟩:=x;exact⟨_,e⟩
 |met f y=>exact⟨_,(show h.get? a=a3 _ from x)⟩
 |ext φ=>obtain⟨_,⟨_,e⟩,_⟩:=x;exact⟨_,e⟩
section
variable{X:Cx}{pins:k7o}{σ:St}{H:Hp}{s:ae}
theorem Inv.old(I:Inv X pins σ H s){b:aa}(h:Old X pins b):∃o,s.heap.get? b=a3 o:=by
 rcases h with ⟨o,q,n⟩|⟨p,hp,rfl⟩|rfl|⟨x,e⟩
 .exact I.base.there b o q n
 .exact⟨_,(I.pin p hp).1⟩
 .obtain⟨m,⟨o,_,_,e,_⟩,_⟩:=I.loc;exact⟨o,e⟩
 .obtain⟨v,o,e,_⟩:=I.cell x b e;exact⟨o,e⟩
end
section
variable{P:aq}{w:ax}{K:k7m}{mg:k7p}{base:aB}{N ps:List af}{qual:af}{scope:aX}{f:aa}{cd:a8}{A:az}{outer:List dh}{s s':ae}{H H':Hp}{E:XK}{σ:St}{pins:k7o}{e:aa}{C:a8}
theorem Ek{as:List aa}{h':aB}{a0:a8}(I:Inv (v7 (CX1 P w) P w K mg base N qual scope f cd A outer s H E) pins σ H' s')(F:Fl (Old (v7 (CX1 P w) P w K mg base N qual scope f cd A outer s H E) pins) H' s'.heap e C)
  (hE:E C a7 H') (ha:∀b,b∈as↔b∈frs (bc qual scope s.heap.objs.size f cd::outer)\/(¬(∃o,s.heap.get? b=a3 o)/\H' b=a7/\b∈as)) (hfa:∀b∈frs (bc qual scope s.heap.objs.size f cd::outer),b∈as)
  (hL:Heap.LeftW (W.hideAll s'.heap as) (bc qual scope s.heap.objs.size f cd::outer) e C a0 s'.heap h'):CX1 P w outer H s E (.ref e) { s' with heap:=h' }:=by
 obtain⟨k1,k2,k3,k4⟩:=hL;have fr:∀b∈frs outer,∃o,s'.heap.get? b=a3 o/\∀vs,o.data≠.fields vs:=λb hb=>by obtain⟨o,ho,hd⟩:=(I.stack.mem (show b∈frs (bc qual scope s.heap.objs.size f cd::outer)from xf _ hb)).2;exact⟨o,ho,hd⟩
 have sfree:∀b∈frs (bc qual scope s.heap.objs.size f cd::outer),H' b=a7:=I.stkFree;have keep:∀b o,s'.heap.get? b=a3 o->b∉as->h'.get? b=a3 o:=λb o q n=>k1 b o (W.hideAll_get _ q n);have nold:∀b o,s.heap.get? b=a3 o->b∉frs outer->b∉as:=λb o q n z=>by
  rcases(ha b).mp z with z|⟨z,_⟩
  .rcases xr.mp z with z|z
   .have:=xu q;rw[show b=s.heap.objs.size from z]at this;exact absurd this (P0 _)
   .exact n z
  .exact z ⟨o,q⟩
 have ntrk:∀b u,H' b=a3 u->b∉as:=λb u q z=>by
  rcases(ha b).mp z with z|⟨_,z,_⟩
  .rw[sfree b z]at q;cases q
  .rw[z]at q;cases q
 have slot:∀b∈frs outer,∀o,s'.heap.get? b=a3 o->∃sl,h'.get? b=a3 { o with slots:=sl }:=λb hb o q=>by obtain⟨o',ho,hd⟩:=fr b hb;rw[q]at ho;cases ho;exact k4 b o q hd
 have un:=I.base;refine⟨e,C,H',rfl,I.os,I.bare,⟨λb o q n hb _=>keep b o (un.keep b o q n hb (λz=>nomatch z)) (nold b o q hb),λb o q n hb _=>?_,λb o q n _=>un.free b o q n (λz=>nomatch z),λb o q _=>?_,un.tups,un.frzs,un.tbls⟩,
  λa o q=>(I.hok a o q).stay (λb u hb r=>keep b u r ?_) (λ_ z=>z) (λ_ _ z=>z) λ_ _ _ z=>z,?_,hE⟩
 .obtain⟨sl,q'⟩:=un.slot b o q n hb (λz=>nomatch z);obtain⟨sl',q2⟩:=slot b hb _ q';exact⟨sl',q2⟩
 .obtain⟨o',q'⟩:=un.there b o q (λz=>nomatch z);by_cases hb:b∈frs outer
  .obtain⟨sl,q2⟩:=slot b hb _ q';exact⟨_,q2⟩
  .exact⟨_,keep b o' q' (nold b o q hb)⟩
 .rcases hb with rfl|hb
  .exact ntrk _ _ q
  .exact ntrk _ _ hb
 .obtain⟨oe,vs,T,oT,ts,he,⟨hc,h0⟩,hd,h1,hnT,hTe,hT,hdT,h3⟩:=k3;refine⟨λb ⟨o,q⟩=>F.new b (.inl ⟨o,q,λz=>nomatch z⟩),F.free,oe,vs,a0,he,hc,hd,h0,.inr ⟨T,oT,ts,h1,hTe,hT,hdT,h3,?_,λb ⟨o,q⟩ z=>?_⟩⟩
  .cases r:H' T with
   |none=>rfl
   |some u =>obtain⟨ob,q⟩:=(I.hok T u r).get;rw[W.hideAll_get _ q (ntrk T u r)]at hnT;cases hnT
  .subst z;obtain⟨o',q'⟩:=un.there b o q (λz=>nomatch z);by_cases hb:b∈frs outer
   .obtain⟨o2,q2,nf⟩:=fr b hb;obtain⟨sl,q3⟩:=slot b hb o2 q2;rw[q3]at hT;cases hT;exact nf ts hdT
   .rw[W.hideAll_get _ q' (nold b o q hb)]at hnT;cases hnT
theorem j3d(I:Inv (v7 (CX1 P w) P w K mg base N qual scope f cd A outer s H E) pins σ H' s')(F:Fl (Old (v7 (CX1 P w) P w K mg base N qual scope f cd A outer s H E) pins) H' s'.heap e C)(hE:E C a7 H') :
  (v7 (CX1 P w) P w K mg base N qual scope f cd A outer s H E).xe (.ref e) s':=by
 obtain⟨oe,vs,a0,he,hc,hd,h0,hT⟩:=F.obj;have hsN:∀b,(∃o,s.heap.get? b=a3 o)->Old (v7 (CX1 P w) P w K mg base N qual scope f cd A outer s H E) pins b:=λb ⟨o,q⟩=>.inl ⟨o,q,λz=>nomatch z⟩;have hin:∀(as:List aa),(∀b∈frs (bc qual scope s.heap.objs.size f cd::outer),b∈as)->∀env∈bc qual scope s.heap.objs.size f cd::outer,∀a,env.frame=a3 a->a∈as:=λas h env he a ha=>h a (tu.mpr ⟨env,he,ha⟩);subst hc;rcases hT with h1|⟨T,oT,ts,h1,hTe,hT,hdT,h3,hTf,hTn⟩
 .let as:=e::frs (bc qual scope s.heap.objs.size f cd::outer)
  have hfa:∀b∈frs (bc qual scope s.heap.objs.size f cd::outer),b∈as:=λb hb=>xf _ hb;refine wpAny_leaving_firstW (base:=W.hideAll s'.heap as) I.ok.frames (W.funFrames_hide I.stack (hin as hfa)) rfl he (λb o q=>W.of_hideAll _ q) (W.hideAll_none _ (xm ..)) hd h1 h0 λh' hL =>Ek I F hE (λb=>⟨λz=>?_,λz=>z.elim (hfa b) λz=>z.2.2⟩) hfa hL
  rcases xr.mp z with e1|z'
  .subst e1;exact .inr ⟨λq=>F.new _ (hsN _ q) rfl,F.free,z⟩
  .exact .inl z'
 .let as:=e::T::frs (bc qual scope s.heap.objs.size f cd::outer)
  have hfa:∀b∈frs (bc qual scope s.heap.objs.size f cd::outer),b∈as:=λb hb=>xf _ (xf _ hb);refine wpAny_leaving_nextW (base:=W.hideAll s'.heap as) (a0:=a0) I.ok.frames (W.funFrames_hide I.stack (hin as hfa)) rfl ⟨oe,vs,T,oT,ts,he,⟨rfl,h0⟩,hd,h1,W.hideAll_none _ (xf _ (xm ..)),hTe,hT,hdT,h3⟩
   (λb o q=>W.of_hideAll _ q) (W.hideAll_none _ (xm ..)) λh' hL =>
   Ek I F hE (λb=>⟨λz=>?_,λz=>z.elim (hfa b) λz=>z.2.2⟩) hfa hL
  rcases xr.mp z with e1|z'
  .subst e1;exact .inr ⟨λq=>F.new _ (hsN _ q) rfl,F.free,z⟩
  .rcases xr.mp z' with e1|z2
   .subst e1;exact .inr ⟨λq=>hTn _ (hsN _ q) rfl,hTf,z⟩
   .exact .inl z2
end
def spX(K:k7m)(mg:k7p)(S:List D->af->Prop):Sp:=λvs H _ E=>∃ds x C,TabOk K H/\j5 K H ds vs/\S ds x/\mg x=a3 C/\∀H',j4 H H'->E C a7 H'
section
variable{P:aq}{w:ax}{K:k7m}{mg:k7p}{base:aB}{x qual:af}{st:aW}{f:aa}{fd:aH}{N ps:List af}{k:Nat}
theorem j3r{S:List D->af->Prop}(F:Fun K x qual st f fd)(Sc:FnScope N ps (jb st))(hl:∀ds y,S ds y->ds.length=ps.length)
  (hbody:∀(cdv:a8)(A:az)(outer:List dh)(s:ae)(H:Hp)(E:XK),W6 K f cdv->Room k (A.deeper (bc qual (jb st) s.heap.objs.size f cdv))->∀ds y,S ds y ->
   DSs (v7 (CX1 P w) P w K mg base N qual (jb st) f cdv A outer s H E) (qt N ds) (ju st) { nx:=λ_=>False,rt:=λ_=>False,ex:=λz _=>z=y }):FnOk P w K mg base (CX1 P w) (k+1) f fd ps (spX K mg S):=by
 obtain⟨oc,od,dV,kV,doc,pm,an,cdv,ct,osl,rfl,lk,hcd⟩:=F.ex;refine j7q lk hcd Sc (λvs H Q E ⟨ds,y,C,tb,en,hS,_⟩=>by rw[en.length];exact hl ds y hS) λA outer s H vs Q E hr ⟨ds,y,C,tb,en,hS,hC,hE⟩=>⟨_,R8,?_⟩
 have ho:=Zm N ds;refine hbody cdv A outer s H E ⟨oc,od,_,osl,lk,rfl⟩ hr ds y hS (start N vs) H _ (Vy tb en) ⟨λρ' σ' H' n R f=>n.elim,λ_ _ _ z=>z.elim,λ_ _ _ z=>z.elim,λr v H' n z=>n.elim,λz ρ' σ' H' n R g=>?_⟩;cases(show z=y from n);intro pins H2 s' e C' I g2 hC' Fe;cases hC.symm.trans hC';unfold Fr0 at g;rw[ho,Jb]at g;exact j3d I Fe (hE H2 ((g.trans jo).trans g2))
end
def DX(X:Cx)(ρ:Rho)(e:ai)(x:af):Prop:=∀σ H Q,Rep X.K ρ σ H->Bs X σ H x->Q6 X e σ H Q
def DXA(X:Cx)(ρ:Rho)(es:List ai)(x:af):Prop:=∀σ H Q,Rep X.K ρ σ H->Bs X σ H x->Ou X es σ H Q
structure CalX(X:Cx)(x:af)(sp:Sp):Prop where
 ex:∃(k:Nat)(f:aa)(fd:aH)(ps:List af),FnOk X.prog X.w X.K X.mg X.base (CX1 X.prog X.w) k f fd ps sp/\Room k X.A/\X.mg x=a3 (.ref f)/\W.keepIn X.K (.ref f)=a6/\Binds X.K fd ps []
section
variable{X:Cx}{ρ:Rho}{e:ai}{es:List ai}{f x:af}{ds:List D}{p pos:aG}{C:a8}
theorem DX.call {S:List D->af->Prop} (c:CalX X f (spX X.K X.mg S)) (ha:DTA X ρ (e::es) ds) (hS:S ds x) (hC:X.mg x=a3 C) (hg:Gl X f) (hdb:(f==k7q)=a4)
  (he:a9 (e::es) X.env=(a4,ay e X.env)::a9 es X.env) (hpl:(aP pos (a9 es X.env)).any (·.1)=a4):DX X ρ (.Call (.Name f p) (e::es) [] pos) x:=λσ H Q R k pins s I=>by
 obtain⟨n,fa,fd,ps,F,hr,hm,hk,hb⟩:=c.ex;refine aM (Yo I hg hm ?_ hdb);refine W.callWith_K (h₀:=X.base) I.ok.mod.kin hk (thn (ha σ H (λvs H1=>j4 H H1/\j5 X.K H1 ds vs) R (λvs H1 g e=>⟨g,e⟩) pos pins s I) λus s1 ⟨vs,H1,I1,r,g,en⟩=>⟨I1.kIn,?_⟩) he hpl;have sp:spX X.K X.mg S vs H1 (λ_ _=>False) (λC' _ H'=>C'=C/\j4 H1 H'):=⟨ds,x,C,R.tb.mono g,en,hS,hC,λH' g=>⟨rfl,g⟩⟩
 have hl:us.length=ps.length:=by rw[<-r.length];exact F.len _ _ _ _ sp
 have hb':=hb s1 us I1.kIn (by rw[Xp];exact hl);rw[Xp]at hb';refine gp (bP (F.run X.A X.stack s1 H1 ⟨us,[]⟩ us vs _ _ hr I1.env0 hb' r sp) λr s' hq=>?_);cases r with
 |error ev =>obtain⟨e,C',H',rfl,os,bare,un,hok,fl,rfl,g'⟩:=hq;have I':Inv X pins σ H' s':=I1.call' os un hok bare (λb z=>nomatch z);refine k pins H' s' e C' I' (g.trans g') hC ⟨λb hb=>fl.new b (I1.old hb),fl.free,?_⟩;obtain⟨oe,ws,a0,q1,q2,q3,q4,q5⟩:=fl.obj;refine⟨oe,ws,a0,q1,q2,q3,q4,q5.imp id ?_⟩;rintro⟨T,oT,ts,z1,z2,z3,z4,z5,z6,z7⟩;exact⟨T,oT,ts,z1,z2,z3,z4,z5,z6,λb hb=>z7 b (I1.old hb)⟩
 |ok fl =>
  cases fl with
  |ret u=>obtain⟨_,_,_,_,_,_,_,z⟩:=hq;exact z.elim
  |next=>exact aR hq
  |brk=>exact aR hq
  |cont=>exact aR hq
end
section
variable{X:Cx}{ρ:Rho}{e:ai}{es:List ai}{x:af}{d:D}{p pos np cpos:aG}{P:Po}{i:Int}{y:af}{ys:List af}
noncomputable def j7n(out:af):List af->af
 |[]=>out
 |y::ys=>j7n (out++y) ys
def DPs(X:Cx)(ρ:Rho):List ai->List af->Prop
 |[],[]=>True
 |e::es,y::ys=>DE X ρ e (.str y)/\DPs X ρ es ys
 |_,_=>False
end
structure FlT(N:aa->Prop)(H:Hp)(h:aB)(e:aa)(C fl:a8):Prop where
 new:∀b,N b->b≠e
 free:H e=a7
 obj:∃(oe:de)(vs:Array a8)(a0:a8)(T:aa)(oT:de)(ts:Array a8),h.get? e=a3 oe/\oe.cls=C/\oe.data=.fields vs/\vs[0]?=a3 a0/\vs[1]?=a3 (.ref T)/\T≠e/\h.get? T=a3 oT/\oT.data=.fields ts/\ts[3]?=a3 fl /\
  H T=a7/\∀b,N b->b≠T
section
variable{X:Cx}{pins:k7o}{σ:St}{H:Hp}{s:ae}{e:aa}{C fl:a8}{M:jO}{A:az}{E:k7n}
end
end L2
end
section
namespace PySem.W
open PySem PySem.Spec PySem.Calls PyProof.Rows Builtin Builtin.ObjectAttr Builtin.Getset_descriptor
section
variable{prog:aq}{w:ax}{A:az}{E:k7n}{h:aB}{g:Array eD}{d:Drawn}{t:Nat}{os:OsState}{K:kN}{e C:aa}
end
end PySem.W
end
section
namespace L2
open PySem PySem.Spec PyProof.Rows
noncomputable def Ja:List af:=["WrongSize","NoAsk","NoWord","Twice","WrongAnswers","Unlike","NoPlace","NoText","WrongPrices","WrongWeights","NoPlan"]
noncomputable def bmV:List a8:=[.type "ValueError",.type "Exception",.type "BaseException",.type "object"]
noncomputable def jfw(K:k7m)(C:aa):Bool:=W.findIn K (.ref C) "__getattribute__" == a3 (a3 (.builtin "BaseException.__getattribute__"))&&(W.findIn K (.ref C) "__getattr__" == a3 a7&&(W.subIn K (.ref C) (.type "BaseException")==a3 a6 &&
 (W.findIn K (.ref C) "__class__" == a3 (a3 (.builtin "object.__class__"))&&(W.mroIn K C (.type "object")==a3 a6&&((W.clsIn K C).isSome&&W.excIn K C bmV "ValueError.__new__")))))
noncomputable def Dn(K:k7m):Bool:=Ja.all λx=>match W.nsIn K au x with
 |some (a3 (.ref C))=>jfw K C&&(W.kitOne K (.ref C) (.type "ValueError")==a3 a6&&((match W.nsIn K au "AskError" with
   |some (a3 a)=>W.exmOne K (.ref C) a==a3 a6
   |_=>a4)&&Ja.all λc=>match W.nsIn K au c with
   |some (a3 v)=>W.kitOne K (.ref C) v==a3 (x==c)
   |_=>a6))
 |some (a3 _)=>a4
 |_=>a6
structure XcOk(K:k7m)(C:aa):Prop where
 ga:W.findIn K (.ref C) "__getattribute__" = a3 (a3 (.builtin "BaseException.__getattribute__"))
 gt:W.findIn K (.ref C) "__getattr__" = a3 a7
 sub:W.subIn K (.ref C) (.type "BaseException")=a3 a6
 cls:W.findIn K (.ref C) "__class__" = a3 (a3 (.builtin "object.__class__"))
 mro:W.mroIn K C (.type "object")=a3 a6
 is:(W.clsIn K C).isSome=a6
 exc:W.excIn K C bmV "ValueError.__new__" = a6
structure ExOne(K:k7m)(x:af)(C:aa):Prop where
 ok:XcOk K C
 val:W.kitOne K (.ref C) (.type "ValueError")=a3 a6
 ask:∃a,W.nsIn K au "AskError" = a3 (a3 a)/\W.exmOne K (.ref C) a=a3 a6
 one:∀c∈Ja,∀v,W.nsIn K au c=a3 (a3 v)->W.kitOne K (.ref C) v=a3 (x==c)
section
variable{X:Cx}{pins pins':k7o}{σ:St}{H:Hp}{s:ae}{xe:k7n}{e:aa}
noncomputable abbrev Cx.hnd(X:Cx)(e:aa):Cx:={ X with A:=X.A.mark (a3 (.ref e)),calm:=a4,xe:=λ_ _=>False }
end
section
variable{X:Cx}{ρ:Rho}{i:Nat}{a:aa}{o:de}{x y c c1 c2:af}{p p1 p2 p3 p4 p5 pos:aG}{k:Bool}
end
structure KindsP(P:aq)(w:ax)(K:k7m)(mg:k7p)(base:aB)(f x:af)(l:List D):Prop where
 ex:∃fa:aa,mg f=a3 (.ref fa)/\W.keepIn K (.ref fa)=a6/\∀(A:az)(outer:List dh)(s:ae)(H:Hp)(e:aa)(o:de),A.depth+4<dU->A.units+150<aL->Env0 P w K mg base A outer s H->TabOk K H ->
  H e=a3 (.frz o (.own e))->W.nsIn K au x=a3 (a3 o.cls) ->
  cu (aw P w) A (.call (.ref fa) ⟨[.ref e],[]⟩) (CR CX0 outer P w H s (λv H'=>∃a xs,v=.ref a/\j4 H H'/\H a=a7/\H' a=a3 (.lst xs)/\j5 K (del H' [a]) l xs) E0) s
 nl:z9 l=a6
abbrev Kinds(X:Cx)(f x:af)(l:List D):Prop:=KindsP X.prog X.w X.K X.mg X.base f x l
section
variable{X:Cx}{ρ:Rho}{i j:Nat}{e:aa}{o:de}{f x n k A:af}{l:List D}{P:Po}{body:List aW}{p p1 p2 p3 p4 p5 pos hpos:aG}
end
section
variable{X:Cx}{ρ:Rho}{i j:Nat}{f n k:af}{P:Po}{body:List aW}{p p1 p2 p3 p4 p5 pos hpos:aG}
end
section
variable{P:aq}{w:ax}{K:k7m}{mg:k7p}{base:aB}{f:aa}{g x pn:af}{st:aW}{fd:aH}{N:List af}{l:List D}
end
section
variable{X:Cx}
def jgf:V->Option Int->Option Int->Hp->VK->Prop:=λx lo hi H Q=>∃z,x=.str z/\z.length<=aj/\Q (.str (bM z lo hi)) H
theorem part_of{v:a8}{o:Option Int}(h:eC v o):∃l:Option (Int×gW),v=partValue l/\l.map (·.1)=o:=by
 cases h with
 |none=>exact⟨a7,rfl,rfl⟩
 |int i t=>exact⟨a3 (i,t),rfl,rfl⟩
theorem jax:SlR X jgf:=by intro pins s σ H x v vl vu lo hi sl Q I rx hs pl pu h;obtain⟨z,ex,hz,q⟩:=h;subst ex;obtain⟨t,ev⟩:=rx;subst ev;obtain⟨l,el,ml⟩:=part_of pl;obtain⟨u,eu,mu⟩:=part_of pu;subst el eu ml mu;obtain⟨o,h1,h2,h3⟩:=hs;refine⟨"str",_,PySem.F.slot_str_getitem.lookup,gq s z t,wpAny_getItem_str_slice (l:=l) (u:=u) (st:=a7) ⟨o,h1,h2,h3⟩ rfl ?_⟩;exact post_val_or_str ⟨Xh (Txt.slice_le z _ _) hz,λt' k=>⟨.str _,H,I.tok k,⟨_,rfl⟩,q⟩⟩
theorem Ea:∀{ts:List af}{us:List a8},Vals (ts.map V.str) us->∃l:List (af×gW),us=strValues l/\l.map (·.1)=ts
 |[],_,r=>by cases r;exact⟨[],rfl,rfl⟩
 |t::ts,_,r=>by
  cases r with
  |cons a b =>obtain⟨k,e⟩:=a;obtain⟨l,e1,e2⟩:=Ea b;subst e e1 e2;exact⟨(t,k)::l,rfl,rfl⟩
theorem j91:MtR X "str.join" (λx vs H Q=>∃(sep:af)(l:aa)(ts:List af),x=.str sep/\vs=[.ref l]/\SqL X.K H l (ts.map V.str)/\eB sep ts=a6/\Q (.str (dB sep ts)) H):=by rintro pins s σ H x vs v us Q I rx rv ⟨sep,l,ts,e,e',sq,hok,q⟩;subst e e';obtain⟨t,ev⟩:=rx;subst ev;obtain⟨u,eu,ru⟩:=rv.one;subst eu;cases ru;obtain⟨its,ri,pl,_⟩:=I.list sq;obtain⟨ps,e1,e2⟩:=Ea ri;subst e1 e2;unfold eB at hok;rw[iy]at hok;exact bN hJ (gq _ _ _) F.entry_str_join (F.args_str_join_2 _ _) (meets_str_join_list sep t l ps hok) ⟨pl.isList,post_join ps ⟨joinFit_length hok,λt' k=>⟨.str _,H,I.tok k,⟨_,rfl⟩,q⟩⟩⟩
theorem j45 (hc:X.calm=a6):J5 X (.builtin "sum") (λxs H Q=>∃(lst:Bool)(l:aa)(ns:List Int),xs=[.ref l]/\SqB X.K lst H l (ns.map V.int)/\Q (.int ns.sum) H):=by
 rintro pins s σ H xs us Q I r ⟨lst,l,ns,e,sq,q⟩;subst e;obtain⟨u,eu,ru⟩:=vals1 r;subst eu;cases ru;obtain⟨its,rv,pl,_⟩:=I.side sq;have hl:its.length=ns.length:=by rw[<-rv.length,kj]
 have val:∀i v,its.toArray[i]?=a3 v->∃t,v=b8 (ns.getD i 0) t:=by
  intro i v hv;have hi:i<its.length:=by obtain⟨h,_⟩:=Array.getElem?_eq_some_iff.mp hv;simpa using h
  have hi':i<ns.length:=by omega
  obtain⟨w1,hw,rw1⟩:=rv.get (x:=.int (ns.getD i 0)) (i:=i) (by rw[xx,kh hi',km,kh hi'];rfl);have:its.toArray[i]?=a3 w1:=by simpa using hw
  rw[this]at hv;cases hv;exact rw1
 have tot:preSum (λi=>ns.getD i 0) its.toArray.size=ns.sum:=by rw[preSum_getD,Tg (by rw[X6];omega)]
 have fin:∀(o:de)(s':ae)(t':gW),Moved [s.heap.objs.size] (λa b=>b=a) { s with heap:=s.heap.push o } s'->EP X pins σ Q (.int (preSum (λi=>ns.getD i 0) its.toArray.size) t') s':=λo s' t' mv=>by obtain⟨hh,gg,dd,tt,oo⟩:=s';obtain⟨m1,m2,m3,m4,m5⟩:=mv;cases m2;cases m3;cases m4;rw[tot];refine⟨.int _,H,I.kept (t':=tt) λb o e=>m1 b o ?_ (xg _ e),⟨_,rfl⟩,q⟩;intro z;rw[xq.mp z]at e;exact P0 _ (xu e)
 unfold qp at pl;cases lst with
 |true =>
  rw[if_pos rfl]at pl;have hlt:l<s.heap.objs.size:=by obtain⟨_,e,_⟩:=pl;exact xu e
  refine jN (bE pl ⟨s.heap.objs.size,[s.heap.objs.size,l],[s.heap.objs.size],_,its.toArray.size,_,_,λi=>ns.getD i 0,rfl,(Walks.list (A:=X.A.in1) (I.ok.hd hc) _ _ (Xb hlt) its.toArray).toS,⟨⟨_,X5 _ rfl,rfl,rfl⟩,pl.push _⟩,?_,val,λs' t' mv=>fin _ s' t' mv⟩);intro b hb;show b<(s.heap.push _).objs.size;rw[bx];rcases xr.mp hb with z|z
  .rw[z];exact df _
  .rw[xq.mp z];exact d0 hlt
 |false =>
  rw[if_neg xj]at pl;have hlt:l<s.heap.objs.size:=by obtain⟨_,e,_⟩:=pl;exact xu e
  refine jN (eW pl ⟨s.heap.objs.size,[s.heap.objs.size,l],[s.heap.objs.size],_,its.toArray.size,_,_,λi=>ns.getD i 0,rfl,(Walks.tuple (A:=X.A.in1) (I.ok.hd hc) _ _ (Xb hlt) its.toArray).toS,⟨⟨_,X5 _ rfl,rfl,rfl⟩,pl.push _⟩,?_,val,λs' t' mv=>fin _ s' t' mv⟩);intro b hb;show b<(s.heap.push _).objs.size;rw[bx];rcases xr.mp hb with z|z
  .rw[z];exact df _
  .rw[xq.mp z];exact d0 hlt
end
section
variable{X:Cx}{ρ:Rho}{a b e:ai}{ds:List D}{i j:Int}{pos p p1 p2:aG}{y z:af}{lo hi:Option ai}{l u:Option Int}
theorem Nq{K:k7m}{H:Hp}:∀{ts:List af}{xs:List V},j5 K H (ts.map D.str) xs->xs=ts.map V.str
 |[],_,h=>h
 |t::ts,_,⟨x,r,e,h,l⟩=>by subst e;cases(show x=.str t from h);rw[Nq l];rfl
theorem v8{K:k7m}{H:Hp}:∀{ts:List Int}{xs:List V},j5 K H (ts.map D.int) xs->xs=ts.map V.int
 |[],_,h=>h
 |t::ts,_,⟨x,r,e,h,l⟩=>by subst e;cases(show x=.int t from h);rw[v8 l];rfl
theorem DE.lenS (ha:DT X ρ a (.str y)) (hy:y.length<=aj) (hm:X.mg "len" = a7) (hg:Gl X "len") (hs:a9 [a] X.env=[(a4,ay a X.env)]):DE X ρ (.Call (.Name "len" p) [a] [] pos) (.int y.length):=λσ H Q R q =>(v6 Kq hg hm fi (jd peS jz hs) (by decide) (by decide) hs).to (ha σ H _ R λv H1 g1 e1=>⟨y,by rw[show v=.str y from e1],hy,q _ H1 g1 rfl⟩)
theorem DE.catS(ha:DT X ρ a (.str y))(hb:DT X ρ b (.str z))(hl:y.length+z.length<=aj):DE X ρ (.BinOp a .Add b pos) (.str (y++z)):=λσ H Q R q =>(Y0 j16 peS peS).to (ha σ H _ R λv H1 g1 e1=>hb σ H1 _ (R.grow g1) λu H2 g2 e2=>⟨y,z,e1,e2,hl,q _ H2 (g1.trans g2) rfl⟩)
theorem DE.ixC{c:Nat}(ha:DT X ρ a (.str y))(hb:DT X ρ b (.int i))(hy:y.length<=aj)(h:L2.atI y.cps.toList i=a3 c)(hs:Ve b):DE X ρ (.Subscript a b pos) (.str ⟨#[c]⟩):=λσ H Q R q =>(Mj jci peS peS hs).to (ha σ H _ R λv H1 g1 e1=>hb σ H1 _ (R.grow g1) λu H2 g2 e2=>⟨y,i,c,e1,e2,hy,h,q _ H2 (g1.trans g2) rfl⟩)
theorem DE.sliceS(ha:DT X ρ a (.str y))(hl:DP X ρ lo l)(hu:DP X ρ hi u)(hy:y.length<=aj):DE X ρ (.Subscript a (.Slice lo hi a7 p2) pos) (.str (bM y l u)):=λσ H Q R q =>(Ra jax peS poS poS).to (ha σ H _ R λv H1 g1 e1=>hl σ H1 _ (R.grow g1) λH2 g2=>hu σ H2 _ (R.grow (g1.trans g2)) λH3 g3=>⟨y,e1,hy,q _ H3 (g1.trans (g2.trans g3)) rfl⟩)
theorem DE.int1 {k:Bool} (ha:DT X ρ a (.bl k)) (hm:X.mg "int" = a7) (hg:Gl X "int") (hs:a9 [a] X.env=[(a4,ay a X.env)]):DE X ρ (.Call (.Name "int" p) [a] [] pos) (.int (if k then 1 else 0)):=λσ H Q R q =>(Uq j4c hg hm boot_int (jd peS jz hs) (by decide) (by decide) hs).to (ha σ H _ R λv H1 g1 e1=>.inr ⟨k,by rw[show v=.bl k from e1],q _ H1 g1 rfl⟩)
theorem DE.sum (lst:Bool) {ns:List Int} (ha:DT X ρ a (D.seq lst (ns.map D.int))) (hm:X.mg "sum" = a7) (hc:X.calm=a6) (hg:Gl X "sum") (hs:a9 [a] X.env=[(a4,ay a X.env)]):DE X ρ (.Call (.Name "sum" p) [a] [] pos) (.int ns.sum):=λσ H Q R q =>
 (v6 (j45 hc) hg hm boot_sum (jd peS jz hs) (by decide) (by decide) hs).to (ha σ H _ R λv H1 g1 e1=>by
  obtain⟨t,xs,ev,sq,en⟩:=Ze e1
  subst ev
  rw[v8 en]at sq
  exact⟨lst,t,ns,rfl,sq,q _ H1 g1 rfl⟩)
theorem DE.join{sep:af}{ts:List af}{n:Nat}{p0:aG}(ha:DT X ρ a (.lst (ts.map D.str)))(hok:eB sep ts=a6)
  (hfew:((aP p2 (a9 [a] X.env)).all (λx=>!x.1)&&(bY p2 (b9 [] X.env)).all (λx=>x.1.isSome)&&decide (([a]:List ai).length+([]:List b7).length+(if ([]:List b7).isEmpty then 0 else 1)<30))=a6)
  (hbase:aT (.Constant (.str sep) n p0) "join" X.env (ay (.Constant (.str sep) n p0) X.env)=ay (.Constant (.str sep) n p0) X.env)
  (hline:(p1.endLine==p2.line)=a6) (hs:a9 [a] X.env=(a4,ay a X.env)::a9 [] X.env):DE X ρ (.Call (.Attribute (.Constant (.str sep) n p0) "join" p1) [a] [] p2) (.str (dB sep ts)):=λσ H Q R q =>
 (Ml PySem.F.plainAttrs_str hJ PySem.F.type_str_join j91 j2q (jd peS jz hs) hbase hfew hline hs rfl).to ⟨rfl,ha σ H _ R λv H1 g1 ⟨t,xs,e,sq,en⟩=>⟨sep,t,ts,rfl,by rw[e],by rw[Nq en]at sq;exact sq,hok,q _ H1 g1 rfl⟩⟩
end
section
variable{prog:aq}{w:ax}{A:az}{lst:Bool}{j t:aa}{its:Array a8}
theorem j1n(hh:A.handled=a7)(hne:t≠j):Draws prog w A j [j,t] its.size (λi v=>its[i]?=a3 v) (λi h=>qy lst h j t i/\qp lst h t its) where
 live:=λ_ _ st=>by obtain⟨o,e,_⟩:=st.1.obj;exact⟨o,e⟩
 frame:=λ_ h h' st hk=>⟨st.1.stay λo e=>hk j (by simp) o e,by
  have q:=st.2
  unfold qp at q ⊢
  cases lst with
  |true=>rw[if_pos rfl]at q ⊢;exact q.at λo e=>hk t (by simp) o e
  |false=>rw[if_neg xj]at q ⊢;exact q.at λo e=>hk t (by simp) o e⟩
 item:=λi s Q E hi st hQ=>j26 st.1 st.2 (y:=its[i]) (by simp[hi]) λh' hit' hs'=>hQ _ h' s.toks (by simp[hi]) ⟨hit',st.2.ext hs'.extBut hne⟩ hs'
 done:=λs Q E st hE=>Ck hh st.1 st.2 (by simp) hE
theorem j3s{n:Nat}(hh:A.handled=a7)(hne:t≠j)(hn:its[n]?=a7):Draws prog w A j [j,t] n (λi v=>its[i]?=a3 v) (λi h=>i=n/\qy lst h j t i/\qp lst h t its) where
 live:=λ_ _ st=>by obtain⟨o,e,_⟩:=st.2.1.obj;exact⟨o,e⟩
 frame:=λ_ h h' st hk=>⟨st.1,st.2.1.stay λo e=>hk j (by simp) o e,by
  have q:=st.2.2
  unfold qp at q ⊢
  cases lst with
  |true=>rw[if_pos rfl]at q ⊢;exact q.at λo e=>hk t (by simp) o e
  |false=>rw[if_neg xj]at q ⊢;exact q.at λo e=>hk t (by simp) o e⟩
 item:=λi s Q E hi st hQ=>absurd st.1 (Xb hi)
 done:=λs Q E st hE=>Ck hh st.2.1 st.2.2 hn hE
end
noncomputable abbrev eh2(h:aB)(lst:Bool)(t:aa):aB:=(zh1 h lst t).push { cls:=.type "enumerate",data:=.fields #[.none,.bool a4,.ref h.objs.size,dj 0,.none,.none] }
theorem j6h {lst:Bool} (t:aa) (its:Array a8):jP (eK.«enumerate.__new__» ⟨[.type "enumerate",.ref t],[]⟩) (λ_ R s=>qp lst s.heap t its/\R (.ok (.ret (.ref (zh1 s.heap lst t).objs.size))) { s with heap:=eh2 s.heap lst t }) :=
 .of_wp λprog w A R s h=>by
  obtain⟨hp,g,d,tk,os⟩:=s;obtain⟨h1,h⟩:=h;have hsub:=sub_enumerate;have e1:qp lst (Shared.heap ⟨hp,g,d,tk,os⟩) t its:=h1;have ld:∃o:de,hp.get? t=a3 o:=by
   unfold qp at e1;cases lst with
   |true=>rw[if_pos rfl]at e1;obtain⟨o,e,_⟩:=e1;exact⟨o,e⟩
   |false=>rw[if_neg xj]at e1;obtain⟨o,e,_⟩:=e1;exact⟨o,e⟩
  obtain⟨o,ho⟩:=ld
  wp_walk using bD ho
  refine wpAny_stack_any λstk=>?_;refine ah ?_;split
  .rename_i cl _ _ _ _ _;cases(cl==cg "enumerate")
   .wp_walk using bD ho,Ut e1
    exact⟨_,rfl,h⟩
   .wp_walk using bD ho,Ut e1
    exact⟨_,rfl,h⟩
  .wp_walk using bD ho,Ut e1
   exact⟨_,rfl,h⟩
noncomputable def Ite(K:k7m)(lst:Bool)(t:aa):It :=
 ⟨λi H=>∃xs x,SqB K lst H t xs/\xs[i]?=a3 x,
 λi H v H'=>∃p x,v=.ref p/\H p=a7/\H'=upd H p (.tup [.int (i:Int),x])/\∀xs,SqB K lst H t xs->xs[i]?=a3 x,
 λi H=>∃xs,SqB K lst H t xs/\xs.length<=i⟩
theorem j22{P:aq}{w:ax}{K:k7m}{es:List ai}{n:Nat}{pos:aG}{lst:Bool}{z j t:aa}(hzj:z≠j)(hzt:z≠t)(htj:t≠j) :
  Turn P w K (.Tuple es n pos) (Ite K lst t) [z,j] z (λi h=>(∃old,IsEnum h z j (i:Nat) old)/\qy lst h j t i) where
 mem:=by simp
 obj:=λi h ⟨⟨old,hz⟩,h1⟩ c hc=>by
  simp at hc;rcases hc with rfl|rfl
  .exact⟨_,hz,λv e=>by cases e⟩
  .exact h1.obj
 keep:=λi h h' ⟨⟨old,hz⟩,h1⟩ k=>⟨⟨old,k z (by simp) _ hz⟩,h1.stay λo e=>k j (by simp) o e⟩
 item:=by
  rintro X hP hw hK hc i pins s σ H E I hf ⟨⟨old,hz⟩,h1⟩ ⟨xs,x,sx,hx⟩;subst hP hw hK;obtain⟨us,ru,qu,_⟩:=I.side sx;obtain⟨u,hu,rx⟩:=ru.get hx;have hlt:i<us.toArray.size:=by obtain⟨h,_⟩:=X7.mp hu;simpa using h
  refine wpAny_pyNext_enum_itemD (j1n (A:=X.A.in1) (I.ok.hd hc) htj) hz ⟨h1,qu⟩ hlt hzj (by simp[hzj,hzt]) λv h' tk hv ho st ht sz kp=>⟨_,rfl,?_⟩
  have ev:u=v:=by
   have:us.toArray[i]?=a3 u:=by simpa using hu
   rw[this]at hv;exact av hv
  subst ev;refine wpAny_letOwnedTupleGo_enum (s:={ s with heap:=h',toks:=tk+1 }) ho λh'' z'' sb=>?_
  replace sb:bZ z h' h'':=sb
  have zlt:z<s.heap.objs.size:=xu hz;have kp':∀c o,c∉[z,j]->s.heap.get? c=a3 o->h''.get? c=a3 o:=λc o nc e=>by simp at nc;exact sb.extBut _ _ nc.1 (kp c o nc.1 nc.2 e)
  have pt:gu h'' s.heap.objs.size [.int i tk,u].toArray:=⟨_,sb.extBut _ _ (t7 zlt) ht,rfl,_,rfl⟩
  have I2:=(I.chgT hf kp' (xs:=[.int (i:Int),x]) (.cons ⟨tk,rfl⟩ (.cons rx .nil)) (by show 2<=aj;decide) pt (Z5.of (sb.extBut _ _ (t7 zlt) ht))).tok (tk+1);refine⟨.ref s.heap.objs.size,_,I2,rfl,⟨_,x,rfl,I.fresh,rfl,λws hw=>by rw[I.side_inj hw sx];exact hx⟩,⟨⟨u,?_⟩,st.1.ext sb.extBut (cw hzj)⟩,λc hc=>?_⟩
  .have e:((i+1:Nat):Int)=(i:Int)+1:=by push_cast;rfl
   rw[e];exact z''
  .obtain⟨o,e⟩:∃o,s.heap.get? c=a3 o:=by
    simp at hc;rcases hc with rfl|rfl
    .exact⟨_,hz⟩
    .obtain⟨o,e,_⟩:=h1.obj;exact⟨o,e⟩
   rw[ji (Xb (xu e))];exact(hf c hc).1
 done:=by
  rintro X hP hw hK hc i pins s σ H E I hf ⟨⟨old,hz⟩,h1⟩ ⟨xs,sx,hend⟩;subst hP hw hK;obtain⟨us,ru,qu,_⟩:=I.side sx;have e1:=ru.length;have hn:us.toArray[i]?=a7:=by simp;omega
  refine wpAny_pyNext_enum_endD (j3s (A:=X.A.in1) (I.ok.hd hc) htj hn) hz ⟨rfl,h1,qu⟩ λh' kp=>⟨rfl,I.chg hf λc o nc e=>?_⟩
  simp at nc;exact kp c o nc.2 e
 self:=λ_ _ _ _ _ ⟨⟨old,hz⟩,_⟩ h=>jI hz h
section
variable{X:Cx}{ρ:Rho}{a b:ai}{es:List ai}{n:Nat}{pos p q1 q2:aG}{ds ds':List D}{lst:Bool}
noncomputable def vz(ds:List D):List D:=ds.zipIdx.map λp=>D.tup [.int (p.2:Int),p.1]
theorem Np{i:Nat}:(vz ds)[i]?=(ds[i]?).map λd=>D.tup [.int (i:Int),d]:=by unfold vz;rw[xx,gG];cases ds[i]?<;>simp
theorem j3i{K:k7m}{F:Hp}{t:aa}{xs:List V}(s1:SqB K lst F t xs)(e1:j5 K F ds xs):Yi K F (Ite K lst t) (vz ds):=λi H A g hA=>by
 have s1':SqB K lst H t xs:=jo.seqB (g.seqB s1);have hl:(vz ds).length=ds.length:=by unfold vz;rw[kj,cL]
 refine⟨λh=>?_,λh=>⟨xs,s1',?_⟩,λv H' ⟨p,x,ev,np,eH,hx⟩=>?_⟩
 .rw[hl]at h;obtain⟨x,hx,_⟩:=e1.get (kh h);exact⟨xs,x,s1',hx⟩
 .rw[hl]at h;rw[e1.length];exact h
 .subst eH;refine⟨j7 np,λd hd=>?_⟩;rw[Np]at hd;cases z:ds[i]? with
  |none=>rw[z]at hd;cases hd
  |some d1 =>rw[z]at hd;cases hd;obtain⟨x',hx',ex⟩:=e1.get z;have q1:=hx xs s1';rw[hx']at q1;have q1:=av q1;subst q1;have pA:p∉A:=λz=>hA p z np;have gg:j4 F (del (upd H p (.tup [.int (i:Int),x'])) A):=g.trans (jg (j7 np));exact⟨p,[.int (i:Int),x'],ev,.inl (.inl (by rw[j6 pA];exact j9)),.int (i:Int),[x'],rfl,rfl,x',[],rfl,ex.mono gg,rfl⟩
theorem DI.enum (lst:Bool) (ha:DE X ρ a (D.seq lst ds)) (hm:X.mg "enumerate" = a7) (hg:Gl X "enumerate") (hs:a9 [a] X.env=[(a4,ay a X.env)]):DI X ρ (.Tuple es n q1) (.Call (.Name "enumerate" p) [a] [] pos) (vz ds):=λσ H R r q pins s I=>by
 have args:Ou X [a] σ H (λvs H'=>∃v,vs=[v]/\j4 H H'/\Enc X.K (del H' (owns ρ)) (D.seq lst ds) v) :=
  (jd peS jz hs).to (ha σ H _ r λv H1 g1 e1=>⟨v,rfl,g1,e1⟩)
 refine Call_ (Qx I hg hm boot_enumerate (callWith_type1 (thn (args pos pins s I) λus s1 h1=>?_) hs rfl));obtain⟨vs,H1,I1,r1,v,ev,g1,e1⟩:=h1;subst ev;obtain⟨t,xs,et,sq,en⟩:=Ze e1;subst et;obtain⟨u1,eu,ru1⟩:=r1.one;subst eu;cases ru1;obtain⟨w1,rw1,qw1,_⟩:=I1.side (jo.seqB sq);refine callType_new F.called_enumerate (by decide) (F.typeCall_enumerate_1 _) (F.newCall_enumerate_1 _) (λobj=>ic obj _) F.entry_enumerate_new (j6h (lst:=lst) t w1.toArray) ⟨qw1,?_⟩;have z1:(zh1 s1.heap lst t).objs.size=s1.heap.objs.size+1:=bx ..;have b2:(eh2 s1.heap lst t).get? (zh1 s1.heap lst t).objs.size=a3 _:=X5 _ rfl;have b1:(eh2 s1.heap lst t).get? s1.heap.objs.size=a3 _:=xg _ (X5 _ rfl);have kp:∀c o,s1.heap.get? c=a3 o->(eh2 s1.heap lst t).get? c=a3 o:=λc o e=>xg _ (xg _ e);show _/\_;rw[z1]at b2 ⊢;have I2:Inv X pins σ H1 { s1 with heap:=eh2 s1.heap lst t }:=I1.kept (t':=s1.toks) kp;have lt1:t<s1.heap.objs.size:=by
  unfold qp at qw1;cases lst with
  |true=>rw[if_pos rfl]at qw1;obtain⟨_,e,_⟩:=qw1;exact xu e
  |false=>rw[if_neg xj]at qw1;obtain⟨_,e,_⟩:=qw1;exact xu e
 have side:qy lst (eh2 s1.heap lst t) s1.heap.objs.size t 0:=by
  unfold qy;cases lst with
  |true=>rw[if_pos rfl];exact⟨_,b1,rfl,rfl⟩
  |false=>rw[if_neg xj];exact⟨_,b1,rfl,rfl⟩
 refine⟨⟨_,b2,rfl⟩,jI (s:={ s1 with heap:=eh2 s1.heap lst t }) b2 ?_⟩;refine⟨_,_,_,Ite X.K lst t,H1,rfl,I2,j22 (j:=s1.heap.objs.size) (Nat.succ_ne_self _) (t7 (d0 lt1)) (Xb lt1),⟨⟨_,b2⟩,side⟩,λc hc=>?_,q _ H1 g1 (j3i sq en)⟩;have hc':c=s1.heap.objs.size+1\/c=s1.heap.objs.size:=by simpa using hc
 have hge:s1.heap.objs.size<=c:=by rcases hc' with e|e<;>rw[e]<;>first|exact X3 _|exact Nat.le_add_right _ _
 obtain⟨f0,f1,f2,f3,f4,f5⟩:=I1.fpOk hge (I1.hok.fresh hge);exact⟨f0,f1,f2,f3,f4,f5⟩
end
section
variable{X:Cx}
theorem j5d:OpR X (aV .FloorDiv) (rI (λ_ j=>0<j/\j<18446744073709551616) λi j=>.int (i/j)):=opI λi j _ _ _ _ _ hc q=>by
 have e:i/j=i.fdiv j:=by rw[fL _ nofun]
 refine floordiv_int nofun (by rw[<-e];exact q) (.inl (PyProof.noPylong_of_log2 ?_))
 have h2:(2:Nat)^64=18446744073709551616:=by decide
 have:=(Nat.log2_lt (n:=j.natAbs) (k:=64) nofun).mpr (by rw[h2];omega);omega
theorem j36 (hu:X.A.units+100<aL):MtR X "list.count" (λx vs H Q=>∃t xs ds d y,x=.ref t/\vs=[y]/\SqL X.K H t xs/\j5 X.K H ds xs/\Enc X.K H d y/\D.depL ds<=97/\d.dep<10000/\Q (.int (ds.countP λe=>deq e d)) H):=by
 rintro pins s σ H x vs v us Q I rx rv ⟨t,xs,ds,d,y,e,e',sq,l,en,hd,nd,q⟩;subst e e';cases rx;obtain⟨u,eu,ru⟩:=rv.one;subst eu;obtain⟨its,ri,⟨⟨cl,dd,da,sl⟩,n,h1,h2,h4,h3⟩,_⟩:=I.list sq;have h2:cl=.type "list":=h2;have h3:da=.seq its.toArray n:=h3;subst h2 h3;refine bN gB ⟨_,h1,rfl⟩ F.entry_list_count (F.args_list_count_2 _ _) (SeqAt.list_countAt t its.toArray n dd sl u (eqW X H d)) ⟨h1,λy hy=>Yn (n:=97) I en ru nd (by show X.A.units+1+97<aL;omega) hd l ri y (by simpa using hy),?_⟩;have ev:(its.toArray.toList.countP (eqW X H d):Nat)=ds.countP λe=>deq e d:=by rw[dH];exact U8 I nofun l ri
 rw[ev];exact⟨.int _,H,I.tok _,⟨_,rfl⟩,q⟩
end
section
variable{X:Cx}{ρ:Rho}{a b e:ai}{d d':D}{ds:List D}{i j:Int}{pos p p1 p2:aG}{P:Po}
theorem DE.fdivB(ha:DT X ρ a (.int i))(hb:DT X ρ b (.int j))(h:0<j/\j<18446744073709551616):DE X ρ (.BinOp a .FloorDiv b pos) (.int (i/j)):=DE.arI (g:=λi j=>i/j) j5d ha hb h
theorem DE.countL (hu:X.A.units+100<aL) (ha:DT X ρ a (.lst ds)) (hb:DT X ρ b d) (hd:D.depL ds<=97) (nd:d.dep<10000) (hbase:aT a "count" X.env (ay a X.env)=ay a X.env)
  (hfew:((aP p2 (a9 [b] X.env)).all (λx=>!x.1)&&(bY p2 (b9 [] X.env)).all (λx=>x.1.isSome)
   && decide (([b]:List ai).length+([]:List b7).length+(if ([]:List b7).isEmpty then 0 else 1)<30))=a6) (hline:(p1.endLine==p2.line)=a6)
  (hs:a9 [b] X.env=(a4,ay b X.env)::a9 [] X.env):DE X ρ (.Call (.Attribute a "count" p1) [b] [] p2) (.int (ds.countP λe=>deq e d)):=λσ H Q R q =>
 (Ml cV gB PySem.F.type_list_count (j36 hu) peS (jd peS jz hs) hbase hfew hline hs rfl).to (ha σ H _ R λv H1 g1 ⟨t,xs,e,sq,l⟩=>⟨by rw[e];exact .inl ⟨rfl,xs,sq⟩,hb σ H1 _ (R.grow g1) λu H2 g2 e2 =>
  ⟨t,xs,ds,d,u,e,rfl,g2.seq sq,l.mono g2,e2,hd,nd,q _ H2 (g1.trans g2) rfl⟩⟩)
end
noncomputable def ddS(acc:List af)(v:af):List af:=if acc.any (· == v)=a6 then acc else acc++[v]
noncomputable def dd(ts:List af):List af:=ts.foldl ddS []
section
variable{P:aq}{w:ax}{A:az}{I S:aa}{fp wr:List aa}{Gn:Array eD->Array eD->Prop}{Pv:Nat->a8->Prop}{St:Nat->ae->Prop}{ts:List af}
end
section
variable{P:aq}{w:ax}{A:az}{E:k7n}{s:ae}
end
section
variable{X:Cx}{ρ:Rho}{a:ai}{p p1 p2 pos:aG}
end
section
variable{prog:aq}{w:ax}{A:az}{E:k7n}{s:ae}{d it vw:aa}{od:de}{es:Array fK}{ep i:Nat}{ok ov:a8}
end
noncomputable def jcm(ks:List (List Int))(ds:List D):List D:=(ks.zip ds).map λp=>D.tup [.tup (p.1.map D.int),p.2]
section
variable{X:Cx}{ρ:Rho}{a b:ai}{es:List ai}{n:Nat}{pos p p1 p2 q1:aG}{ks:List (List Int)}{ds:List D}{k:List Int}
theorem K1{P:aq}{w:ax}:∀{ks:List Int}{us:List a8},Vals (ks.map V.int) us->ItemsAre (eG P w) ks us
 |[],_,r=>by rw[c9]at r;cases r;exact .nil
 |k::ks,_,r=>by
  rw[X4]at r;cases r with
  |cons h t =>
   obtain⟨tk,e⟩:=(show ∃t,_=b8 k t from h)
   subst e;exact .cons (by simp[eG,jG]) (K1 t)
theorem Bh{pins:k7o}{σ:St}{H:Hp}{s:ae}{t:aa}(I:Inv X pins σ H s)(sq:SqT X.K H t (k.map V.int)):(eF (eG X.prog X.w)).is s.heap k t:=by obtain⟨its,rv,⟨o,e1,e2,m,e3⟩,_⟩:=I.tuple sq;exact⟨o,its.toArray,m,e1,e2,e3,by simpa using K1 rv⟩
theorem j04{pins:k7o}{σ:St}{H:Hp}{s:ae}{d:aa}{xs:List (List Int×aa×a8)}{ep:Nat}(I:Inv X pins σ H s)(hx:H d=a3 (.dI xs ep))(kt:∀x∈xs,SqT X.K H x.2.1 (x.1.map V.int)) :
  (d==dD)=a4/\xs.length<=aj/\s.heap.DictOfH (eF (eG X.prog X.w)) d xs:=by
 obtain⟨z1,z2,z3,od,en,h1,h2,h3,h4⟩:=(show je X.prog X.w H s.heap d (.dI xs ep)from I.hok _ _ hx)
 exact⟨z2,z1,od,en,ep,h1,h2,h3,h4,λx hx=>Bh I (kt x hx),z3⟩
theorem j4h{xs:List (List Int×aa×a8)}:(iM xs k).isSome=(xs.map λx=>x.1).contains k:=by
 induction xs with
 |nil=>rfl
 |cons x xs ih =>
  unfold iM at ih ⊢;rw[Option.isSome_map]at ih ⊢;rw[iQ,X4,List.contains_cons];by_cases z:x.1=k
  .simp[z]
  .have z':(k==x.1)=a4:=by simp;exact λe=>z e.symm
   rw[decide_eq_false z,z',jD];exact ih
theorem any_range:∀bs:List Bool,(ar bs.length).any (λi=>(bs[i]?).getD a6)=bs.any id
 |[]=>rfl
 |b::bs=>by rw[xn,c8,d4,List.any_map,d4,<-any_range bs];rfl
theorem Io (hc:X.calm=a6):J5 X (.builtin "any") (λxs H Q=>∃(l:aa)(bs:List Bool),xs=[.ref l]/\SqL X.K H l (bs.map V.bl)/\Q (.bl (bs.any id)) H):=by
 intro pins s σ H xs us Q I r ⟨l,bs,e,sq,q⟩;subst e;obtain⟨u,eu,ru⟩:=vals1 r;subst eu;cases ru;obtain⟨its,rv,pl,_⟩:=I.list sq;have hlt:l<s.heap.objs.size:=by obtain⟨_,_,e,_⟩:=pl;exact xu e
 have hl:its.length=bs.length:=by rw[<-rv.length,kj]
 refine call_any_walk (bE pl.isList ⟨s.heap.objs.size,[s.heap.objs.size,l],[s.heap.objs.size],its.toArray.size,_,_,λi=>(bs[i]?).getD a6,rfl,Walks.list (A:=X.A.in1) (I.ok.hd hc) _ _ (Xb hlt) its.toArray,⟨⟨_,X5 _ rfl,rfl,rfl⟩,pl.isList.push _⟩,?_,λh' tk kp=>?_⟩)
 .intro i v s' Q' E' hv hq;have hi:i<its.length:=by have:=Array.getElem?_eq_some_iff.mp hv;obtain⟨h,_⟩:=this;simpa using h
  have hb:i<bs.length:=by omega
  obtain⟨w1,hw,rw1⟩:=rv.get (x:=.bl bs[i]) (i:=i) (by rw[xx,kh hb];rfl);have:its.toArray[i]?=a3 w1:=by simpa using hw
  rw[this]at hv;cases hv;cases rw1;simp only[kh hb,cZ]at hq;exact b0 hq
 .have ev:(ar its.toArray.size).any (λi=>(bs[i]?).getD a6)=bs.any id:=by rw[X6,hl];exact any_range bs
  rw[ev];refine⟨.bl _,H,I.kept (t':=tk) λb o e=>kp b o ?_ (xg _ e),rfl,q⟩;intro z;rw[xq.mp z]at e;exact P0 _ (xu e)
theorem DE.any {bs:List Bool} (ha:DT X ρ a (.lst (bs.map D.bl))) (hm:X.mg "any" = a7) (hc:X.calm=a6) (hg:Gl X "any") (hs:a9 [a] X.env=[(a4,ay a X.env)]):DE X ρ (.Call (.Name "any" p) [a] [] pos) (.bl (bs.any id)):=λσ H Q R q =>(v6 (Io hc) hg hm boot_any (jd peS jz hs) (by decide) (by decide) hs).to (ha σ H _ R λv H1 g1 ⟨l,xs,e,sq,en⟩=>⟨l,bs,by rw[e],by rw[Rq en]at sq;exact sq,q _ H1 g1 rfl⟩)
end
def jef:TE:=λ_ H Q=>∀p,H p=a7->Q (.ref p) (upd H p (.dI [] 0))
def jeo(K:k7m)(td ty tv:TE):TS:=λD σ H=>tv σ H λv H1=>td σ H1 λx H2=>ty σ H2 λy H3 =>
 ∃(a b:aa)(xs:List (List Int×aa×a8)) (ep:Nat) (k:List Int),x=.ref a/\H3 a=a3 (.dI xs ep)/\(∀x∈xs,SqT K H3 x.2.1 (x.1.map V.int))/\y=.ref b/\SqT K H3 b (k.map V.int) /\
  (xs.map λx=>x.1).contains k=a4/\xs.length<aj/\∀u ep',RelV v u->D.nx σ (upd H3 a (.dI (xs++[(k,b,u)]) ep'))
section
variable{X:Cx}{pos pos':aG}{o i value:ai}{td ty tv:TE}
theorem Inv.bigD{pins:k7o}{σ:St}{H:Hp}{s:ae}(I:Inv X pins σ H s):dD<s.heap.objs.size:=by have h:au<s.heap.objs.size:=(I.mod.glob.keeps I.bk).lt;exact Pa (by decide) h
theorem j8t:PE X (.Dict [] [] pos) jef:=λpins s σ H Q I h =>
 wpAny_Dict_empty ⟨.ref s.heap.objs.size,_,I.laid (a:=s.heap.objs.size) (o:=.dI [] 0) (t':=s.toks) (λ_ _ q=>xg _ q) (X3 _)
  ⟨bU _,beq_eq_false_iff_ne.mpr (cw (Xb I.bigD)),fw,_,#[],X5 _ rfl,⟨rfl,rfl,rfl⟩,rfl,rfl⟩,rfl,h _ (I.hok.fresh (X3 _))⟩
theorem j8o(hu:X.A.units+100<aL)(ho:PE X o td)(hi:PE X i ty)(hv:PE X value tv)(hs:aN value (a3 (.Subscript o i pos')) pos.line X.env=pure a4) :
  PS X (.Assign [.Subscript o i pos'] value pos) (jeo X.K td ty tv):=by
 intro pins s σ H D I h;refine wpAny_Assign_Subscript (thn (hv pins s σ H _ I h) λr s1 ⟨v,H1,I1,rv,q1⟩=>thn (ho pins s1 σ H1 _ I1 q1) λu s2 ⟨x,H2,I2,rx,q2⟩=>thn (hi pins s2 σ H2 _ I2 q2) λiv s3 ⟨y,H3,I3,ry,hq⟩=>?_) hs;obtain⟨a,b,xs,ep,k,ex,hx,kt,ey,sq,nk,hl,q⟩:=hq;subst ex ey;cases rx;cases ry;obtain⟨lo,hz,dd⟩:=j04 I3 hx kt;refine wpAny_setItem_heap (hsz:=hz) (j3 nofun) (Bh I3 sq) dd λh' dd' sb=>?_;have na:iM xs k=a7:=by
  have:=j4h (xs:=xs) (k:=k);rw[nk]at this;cases z:iM xs k with
  |none=>rfl
  |some _=>rw[z]at this;cases this
 rw[storedH_new na]at dd';obtain⟨ob,es,ep',w1,w2,w3,w4,w5,w6⟩:=dd';refine⟨σ,_,I3.write (x:=a) (e:=a) (o:=.dI (xs++[(k,b,r)]) ep') (t':=s3.toks+(eF (eG X.prog X.w)).draws k) (by rw[hx];exact True.intro) (.inl rfl) (λc z nc e=>(sb.2 c nc).trans e) ⟨ob,w1⟩ ?_,q r ep' rv⟩;exact⟨by simp;omega,lo,w6,ob,es,w1,w2,w3,w4⟩
end
section
variable{X:Cx}{ρ:Rho}{it e:ai}{P:Po}{ds:List D}{x t y:Nat}{nx nt ny:af}{n8:Nat}{p1 p2 p3 p4 p5 p6 p7 p8 p9 p10 p11 p12 p13 p14 p15 p16 p17 p18:aG}
theorem j7t{H:Hp}{a:aa}{o:HO}(h:H a=a3 o):H=upd (del H [a]) a o:=funext λb=>by
 by_cases z:b=a
 .subst z;rw[j9];exact h
 .rw[ji z,j6 (by simpa using z)]
theorem Kd{H:Hp}{a:aa}{o:HO}(h:H a=a7):del (upd H a o) [a]=H:=funext λb=>by
 by_cases z:b=a
 .subst z;rw[qx (by simp)];exact h.symm
 .rw[j6 (by simpa using z),ji z]
theorem Ep{H F:Hp}{a:aa}{o:HO}(h:H a=a3 o):mrg [a] H F=upd F a o:=funext λb=>by
 by_cases z:b=a
 .subst z;rw[vq (by simp),j9];exact h
 .rw[jj (by simpa using z),ji z]
end
noncomputable def Qd:List (List Int)->List D->List Int->Option D
 |k'::ks,d::ds,k=>if k'=k then a3 d else Qd ks ds k
 |_,_,_=>a7
theorem j05{K:k7m}{H:Hp}{k:List Int}{d:D}:∀{xs:List (List Int×aa×a8)} {ds:List D} {vs:List V},Vals vs (xs.map λx=>x.2.2)->j5 K H ds vs->Qd (xs.map λx=>x.1) ds k=a3 d->∃p v,iM xs k=a3 p/\RelV v p.2/\Enc K H d v
 |[],_,_,_,_,h=>by cases h
 |x::xs,[],_,_,_,h=>by cases h
 |x::xs,d'::ds,_,rv,⟨v,r,e,h1,l⟩,h=>by
  subst e;rw[X4]at rv h;unfold iM;rw[iQ];cases rv with
  |cons a b =>
   rw[Qd]at h;by_cases z:x.1=k
   .rw[if_pos z]at h;cases h;rw[decide_eq_true z];exact⟨x.2,v,rfl,a,h1⟩
   .rw[if_neg z]at h;rw[decide_eq_false z];exact j05 b l h
section
variable{X:Cx}{ρ:Rho}{a b:ai}{d:D}{ds:List D}{ks:List (List Int)}{k:List Int}{pos p p1 p2 p3:aG}
theorem jf7(hu:X.A.units+100<aL):IxR X (λx y H Q=>∃(d:aa)(xs:List (List Int×aa×a8)) (ep:Nat) (t:aa) (k:List Int) (q:aa×a8) (v:V),x=.ref d/\y=.ref t/\H d=a3 (.dI xs ep)/\(∀x∈xs,SqT X.K H x.2.1 (x.1.map V.int))/\SqT X.K H t (k.map V.int)/\iM xs k=a3 q/\RelV v q.2/\Q v H):=by intro value slice pins s σ H x y v u Q I rx ry h hs;obtain⟨d,xs,ep,t,k,q,w,rfl,rfl,hx,kt,sq,hq,rq,hQ⟩:=h;cases rx;cases ry;obtain⟨lo,hz,dd⟩:=j04 I hx kt;exact kU dd.typeIs slot_dict_getitem.lookup (wpAny_getItem_heap (j3 nofun) (Bh I sq) dd hq ⟨w,H,I.tok _,rq,hQ⟩) hs
theorem DE.dget(hu:X.A.units+100<aL)(ha:DE X ρ a (.dct ks ds))(hb:DT X ρ b (.tup (k.map D.int)))(h:Qd ks ds k=a3 d)(hs:Ve b):DE X ρ (.Subscript a b pos) d:=λσ H Q R q =>
 (Mj (jf7 hu) peS peS hs).to (ha σ H _ R λv H1 g1 ⟨c,xs,ep,vs,e,hx,ek,kt,rv,l⟩=>hb σ H1 _ (R.grow g1) λu H2 g2 ⟨t,ys,e2,sq,l2⟩=>by
  rw[v8 l2]at sq
  subst ek
  obtain⟨q',v',z1,z2,z3⟩:=j05 rv (l.mono (jg g2)) h
  exact⟨c,xs,ep,t,k,q',v',e,e2,g2 _ _ (of_del hx).2,λx hx=>g2.seqT (jo.seqT (kt x hx)),sq,z1,z2,q v' H2 (g1.trans g2) z3⟩)
end
section
variable{prog:aq}{w:ax}{A:az}{E:k7n}{s:ae}{d it vw:aa}{od:de}{es:Array fK}{ep i:Nat}
theorem ja4 {Q:k7n} (ht:s.TypeIs (.ref d) "dict") (lo:(d==dD)=a4)
  (q:Q (.ref s.heap.objs.size) { s with heap:=s.heap.push { cls:=.type "dict_values",data:=.fields #[.ref d] } }):ao (aw prog w) A (call (.builtin "dict.values") [.ref d]) Q E s:=by
 refine bg gn ht F.entry_dict_values ?_ (F.args_dict_values_1 _);unfold eK.«dict.values»;refine a5 ?_;unfold Builtin.Dict.noArgs;refine a5 (wpAny_notOrdered_dict ht ?_);show ao _ _ (pure d) _ _ s;refine ah ?_;show ao _ _ (Builtin.Dict.showsAll d >>= _) _ _ s;unfold Builtin.Dict.showsAll;rw[if_neg (λz=>by rw[lo]at z;cases z)];exact a5 (ah (a5 (aF (ah ⟨_,rfl,q⟩))))
theorem ja3{Q:k7n}(hv:s.heap.IsValuesView vw d)(ho:s.heap.get? d=a3 od)(hd:od.data=.dict es ep)
  (q:Q (.ref s.heap.objs.size) { s with heap:=s.heap.push { cls:=.type "dict_valueiterator",data:=.fields #[.ref d,.int 0 0,.int es.size 0,.int ep 0] } }) :
  ao (aw prog w) A (ij (.ref vw)) Q E s:=by
 obtain⟨oz,z1,z2,z3⟩:=id hv;refine wpAny_pyIter_slot hv.typeIs gC (bg gC hv.typeIs F.entry_dict_values_iter ?_ (F.args_dict_values_iter_1 _));unfold eK.«dict_values.__iter__»;refine a5 (ah ?_);refine a5 ?_;unfold iB;refine a5 (cf z1 z3 (x:=.ref d) rfl (ah (a5 ?_)));unfold iA;refine a5 (ff ho hd (a5 (fZ ho hd ?_)));have own:bO "dict_valueiterator" = a4:=by decide
 simp only[own,pq,if_false];refine aF (ah ⟨_,rfl,"dict_valueiterator",_,⟨_,X5 _ rfl,rfl⟩,Pq.lookup,?_⟩);simpa [dj]using q
theorem ja2{e:fK}{Q:Option a8->ae->Prop}(hit:s.heap.IsValIter it d i es.size ep)(ho:s.heap.get? d=a3 od)(hd:od.data=.dict es ep)(he:es[i]?=a3 e)
  (hQ:∀h',h'.IsValIter it d (i+1) es.size ep->bZ it s.heap h'->Q (a3 e.val) { s with heap:=h' }):ao (aw prog w) A (dW (.ref it)) Q E s:=by
 obtain⟨o,hoI,hc,hdI⟩:=id hit;unfold dW;refine a5 (kY (bh (name:=cF "__next__") hit.typeIs Pq
  (bg Pq hit.typeIs f9 ?_ (eV _))))
 refine a5 (ah ?_);refine a5 ?_;refine a5 ?_
 first|refine a5 (bo hit.typeIs (ah ?_))|refine a5 (bX hit.typeIs (ah ?_))
 refine a5 (kQ hoI hdI ?_);have hown:bO "dict_valueiterator" = a4:=by decide
 simp only[hown,pq,if_false];show ao _ _ (if (aA d==aK)=a6 then _ else _) _ _ s;rw[if_neg (λz=>by cases z)];refine a5 (ah ?_);refine a5 (ff ho hd ?_);rw[if_neg (by simp)];refine a5 (ah ?_);refine a5 (fZ ho hd ?_);rw[if_neg (by simp)];refine ah ?_;simp only[show ¬((i:Int)<0)from by omega,if_false,Xi,he];refine a5 ?_
 first|refine a5 (bo hit.typeIs (ah ?_))|refine a5 (bX hit.typeIs (ah ?_))
 refine a5 (dP hit.typeIs ?_);show ao _ _ (setField (.ref it) 1 (dj ((i:Int)+1)) >>= _) _ _ s;refine a5 (dS hoI hdI (by simp) ?_);have hit':(s.heap.update it (fV (·.setIfInBounds 1 (dj ((i:Int)+1))))).IsValIter it d (i+1) es.size ep :=
  ⟨_,gh _ hoI (gz (cQ hdI _)),(iz ..).trans hc,by rw[cQ hdI];simp[dj]⟩
 refine a5 (eP ?_);refine a5 (dP (s:={ s with heap:=s.heap.update it (fV (·.setIfInBounds 1 (dj ((i:Int)+1)))) }) hit'.typeIs ?_);refine a5 (dP (s:={ s with heap:=s.heap.update it (fV (·.setIfInBounds 1 (dj ((i:Int)+1)))) }) hit'.typeIs ?_);show ao _ _ (pure e.val) _ _ _;exact ah (ah ⟨_,rfl,ah (hQ _ hit' (t6 ..))⟩)
theorem jdf{Q:Option a8->ae->Prop}(hh:A.handled=a7)(hit:s.heap.IsValIter it d i es.size ep)(ho:s.heap.get? d=a3 od)(hd:od.data=.dict es ep)(hge:es.size<=i)
  (hQ:∀h',dy it s.heap h'->Q a7 { s with heap:=h' }):ao (aw prog w) A (dW (.ref it)) Q E s:=by
 obtain⟨o,hoI,hc,hdI⟩:=id hit;unfold dW;refine a5 (kY (bh (name:=cF "__next__") hit.typeIs Pq
  (bg Pq hit.typeIs f9 ?_ (eV _))))
 refine a5 (ah ?_);refine a5 ?_;refine a5 ?_
 first|refine a5 (bo hit.typeIs (ah ?_))|refine a5 (bX hit.typeIs (ah ?_))
 refine a5 (kQ hoI hdI ?_);have hown:bO "dict_valueiterator" = a4:=by decide
 simp only[hown,pq,if_false];show ao _ _ (if (aA d==aK)=a6 then _ else _) _ _ s;rw[if_neg (λz=>by cases z)];refine a5 (ah ?_);refine a5 (ff ho hd ?_);rw[if_neg (by simp)];refine a5 (ah ?_);refine a5 (fZ ho hd ?_);rw[if_neg (by simp)];refine ah ?_;simp only[show ¬((i:Int)<0)from by omega,if_false,Xi,Array.getElem?_eq_none hge];refine a5 ?_
 first|refine a5 (bo hit.typeIs (ah ?_))|refine a5 (bX hit.typeIs (ah ?_))
 show ao _ _ (setField (.ref it) 0 .none >>= _) _ _ s;refine a5 (dS hoI hdI (by simp) ?_);show ao _ _ (kS (.type "StopIteration") [] >>= _) _ _ _;refine a5 ?_;simp only[kS,newTuple];refine a5 (aF ?_ (by size_fits));refine a5 (m:=dY _ _) (fO (a:=aK) (by first|rfl|(simp only[dY];rfl)) ?_);refine aF ?_ (by size_fits);simp only[raiseNew];refine a5 (kX ?_);rw[show A.in1.handled=a7 from hh];refine a5 (ah (wpAny_throw ?_));refine a5 (wpAny_isInstance (T:="StopIteration") (b:=a6) ⟨_,X5 _ rfl,rfl⟩ isSubtype_stop ?_);exact ah (hQ _ (((t6 ..).extBut.push _).push _))
theorem j6m(hh:A.handled=a7)(I:aa)(hne:d≠I)(hd:od.data=.dict es ep):Walks prog w A I [I,d] [I] es.size (λi v=>∃e,es[i]?=a3 e/\v=e.val) (λi h=>h.IsValIter I d i es.size ep/\h.get? d=a3 od) where
 sub:=λb hb=>by simp at hb;simp[hb]
 frame:=λ_ _ _ st hk=>⟨let ⟨o,ho,x⟩:=st.1;⟨o,hk I (by simp) o ho,x⟩,hk d (by simp) _ st.2⟩
 item:=λi s Q E hi st hQ=>by refine ja2 st.1 st.2 hd (bH hi) λh' hit' hs'=>?_;exact hQ _ h' s.toks ⟨_,bH hi,rfl⟩ ⟨hit',hs'.extBut _ _ hne st.2⟩ λb o hb e=>hs'.extBut b o (λh=>hb (by simp[h])) e
 done:=λs Q E st hQ=>jdf hh st.1 st.2 hd (X3 _) λh' he'=>hQ h' s.toks λb o hb e=>he' b o (λh=>hb (by simp[h])) e
 self:=λ_ _ _ _ st hQ=>wpAny_pyIter_valiter st.1 hQ
theorem jde (hd:od.data=.dict es ep):eU prog w "dict_values" vw d es.size (λi v=>∃e,es[i]?=a3 e/\v=e.val) (λh=>h.IsValuesView vw d/\h.get? d=a3 od) where
 type:=λ_ hm=>hm.1.typeIs
 there:=λ_ hm=>⟨let ⟨_,ho,_⟩:=hm.1;xu ho,xu hm.2⟩
 keep:=λ_ _ hm hk=>⟨let ⟨o,ho,x⟩:=hm.1;⟨o,hk vw (.inl rfl) o ho,x⟩,hk d (.inr rfl) _ hm.2⟩
 notList:=by decide
 notTuple:=by decide
 hint:=λ_ _ _ _ hm hq=>W.kdl_hint_values hm.1.typeIs hq
 iter:=λ_ _ hh hm=>⟨_,_,(λ_ _ hq=>ja3 hm.1 hm.2 hd hq),j6m hh _ (Xb (xu hm.2)) hd,⟨⟨_,X5 _ rfl,rfl,rfl⟩,xg _ hm.2⟩⟩
end
section
variable{prog:aq}{w:ax}{A:az}{E:k7n}{s:ae}{T:String}{r d:aa}{n:Nat}{P:Nat->a8->Prop}{OK:aB->Prop}
theorem Im{Q:List a8->ae->Prop}(K:eU prog w T r d n P OK)(hh:A.handled=a7)(hok:OK s.heap)(hn:n<=aj)
  (hQ:∀(h':aB)(tk:Nat)(acc:Array a8),(∀b o,s.heap.get? b=a3 o->h'.get? b=a3 o)->jQ P acc n->Q acc.toList { s with heap:=h',toks:=tk }):ao (aw prog w) A (collect (.ref r)) Q E s:=by
 have hlt:=K.there _ hok;have hS:(s.heap.push { cls:=.type "list",data:=.seq ([]:List a8).toArray }).get? s.heap.objs.size=a3 { cls:=.type "list",data:=.seq ([]:List a8).toArray }:=X5 _ rfl;have key:∀R:fH->ae->Prop,(∀(h':aB)(tk:Nat)(acc:Array a8)(c:Nat),(∀b o,s.heap.get? b=a3 o->h'.get? b=a3 o)->h'.get? s.heap.objs.size=a3 { cls:=.type "list",dict:=a7,data:=.seq acc c,slots:=#[] }->jQ P acc n->R (.ok (.ret (.ref s.heap.objs.size))) { s with heap:=h',toks:=tk }) ->
   cu (aw prog w) A (.builtin "proto.collect" ⟨[.ref r],[]⟩) R s:=λR hR=>by
  refine c7 F.entry_proto_collect ?_;rw[T8 F.plain_proto_collect _];show ao _ A.in1 (newList [] >>= λl=>i5 (.builtin "list.__iadd__" ⟨[l,.ref r],[]⟩)) _ _ s;refine a5 (aF ?_);refine ah ⟨cD iV _,c7 F.entry_list_iadd ?_⟩;rw[T8 iV _];show ao _ A.in1 (kF (.ref s.heap.objs.size) (.ref r) (.ref s.heap.objs.size)) _ _ _;exact W.kdl_extend (R:=R) (s:={ s with heap:=s.heap.push { cls:=.type "list",data:=.seq ([]:List a8).toArray } }) K hh (K.keep _ _ hok λb _ o e=>xg _ e) _ (t7 hlt.1) (t7 hlt.2) _ 0 hS
   (λh' tk acc c kp hS' hacc=>hR h' tk acc c (λb o e=>kp b o (Xb (xu e)) (xg _ e)) hS' hacc) hn
 unfold collect;refine a5 (wpAny_runValue (key _ λh' tk acc c kp hS' hacc=>?_));show ao _ A (load s.heap.objs.size >>= _) _ _ _;refine a5 (wpAny_load hS' ?_);exact ah (hQ h' tk acc kp hacc)
theorem Bl {Q:k7n} (K:eU prog w T r d n P OK) (hh:A.handled=a7) (hok:OK s.heap) (hsz:n<=aj) (hTt:(cg T==cg "tuple")=a4)
  (hQ:∀(h':aB)(tk:Nat)(acc:Array a8),(∀b o,s.heap.get? b=a3 o->h'.get? b=a3 o)->jQ P acc n->Q (.ref h'.objs.size) { s with heap:=h'.push { cls:=.type "tuple",data:=.seq acc },toks:=tk }) :
  ao (aw prog w) A (call (.type "tuple") [.ref r]) Q E s:=by
 refine callType_codes (Q₁:=λobj s₁=>s₁.TypeIs obj "tuple"/\Q obj s₁) F.called_tuple (F.typeCall_tuple_1 _) F.entry_object_init ?_ λobj s₁ h₁ =>⟨h₁.1,ic obj _,object_init_meets F.called_tuple.init.lookup F.called_tuple.made (by decide) prog w A.in1 _ s₁ ⟨h₁.1,rfl,h₁.2⟩⟩
 refine codeAny_of_tree ?_;show ao _ A.in1.in1 (do checkBuiltinCall "tuple.__new__" ⟨[.type "tuple",.ref r],[]⟩;i5 (.builtin "tuple.__new__" ⟨[.type "tuple",.ref r],[]⟩)) _ _ s;refine a5 (fO (F.newCall_tuple_1 _) (ah ⟨cD iU _,c7 F.entry_tuple_new ?_⟩));rw[T8 iU _];have hsub:=sub_tuple_self;have hinit:=init_tuple_lookup;have hmh:=madeHere_tuple;have hTI:=K.type s hok;have hn:=hsz
 wp_walk using wpAny_typeOf hTI,Im (A:=A.in1.in1) K hh hok hn
 intro h' tk acc kp hacc;show ao _ _ (aS acc.toList.toArray >>= λv=>ret v) _ _ _;unfold aS;refine a5 (aF ?_ (by show acc.toList.toArray.size<=aj;simp only[Array.toArray_toList];rw[hacc.1];exact hsz));refine ah ?_;have e:acc.toList.toArray=acc:=by simp
 rw[e];exact⟨⟨_,X5 _ rfl,rfl⟩,hQ h' tk acc kp hacc⟩
end
section
variable{X:Cx}{ρ:Rho}{a:ai}{ds:List D}{ks:List (List Int)}{pos p p1 p2:aG}
theorem K8{P:aq}{w:ax}{en:Array fK}{xs:List (List Int×aa×a8)}{acc:Array a8}(h:en.toList=xs.map (ja (eF (eG P w))))(ha:jQ (λi v=>∃e,en[i]?=a3 e/\v=e.val) acc en.size):acc=(xs.map λx=>x.2.2).toArray:=by
 obtain⟨h1,h2⟩:=ha;have hl:en.size=xs.length:=by have:=congrArg dA h;simpa using this
 apply Array.ext';refine Tt λi=>?_;rw[dH,xx];by_cases hi:i<acc.size
 .have hv:acc[i]?=a3 acc[i]:=bH hi;obtain⟨e,he,ev⟩:=h2 i _ hv;have he':en.toList[i]?=a3 e:=by simpa using he
  rw[h,xx]at he';rw[gd,hv,ev];obtain⟨x,hx,ex⟩:=ph.mp he';rw[hx,<-ex];rfl
 .rw[Xw (by simpa using hi),Xw nofun];rfl
theorem DE.tupVals (ha:DE X ρ a (.dct ks ds)) (hc:X.calm=a6) (hm:X.mg "tuple" = a7) (hg:Gl X "tuple") (hbase:aT a "values" X.env (ay a X.env)=ay a X.env) (hline:(p1.endLine==p2.line)=a6)
  (hs2:a9 [.Call (.Attribute a "values" p1) [] [] p2] X.env=[(a4,ay (.Call (.Attribute a "values" p1) [] [] p2) X.env)]):DE X ρ (.Call (.Name "tuple" p) [.Call (.Attribute a "values" p1) [] [] p2] [] pos) (.tup ds):=λσ H Q R q pins s I=>by
 refine aM (Qx I hg hm boot_tuple ?_);refine callWith_type1 ?_ hs2 rfl;rw[hs2];show ao _ _ (jL ((a4,ay _ X.env)::aP pos [])) _ _ s;refine gM ?_;refine wpAny_Call_method0_late hbase hline (thn (ha σ H (λv H'=>j4 H H'/\Enc X.K (del H' (owns ρ)) (.dct ks ds) v) R (λv H' g e=>⟨g,e⟩) pins s I) λv s1 ⟨x,H1,I1,r1,g1,en⟩=>?_);obtain⟨d,xs,ep,vs,ex,hx,ek,kt,rv,l⟩:=en;subst ex ek;cases r1;have hx1:H1 d=a3 (.dI xs ep):=(of_del hx).2;obtain⟨z1,z2,z3,od,en,h1,h2,h3,h4⟩:=(show je X.prog X.w H1 s1.heap d (.dI xs ep)from I1.hok _ _ hx1)
 have hsz:en.size=xs.length:=by have:=congrArg dA h4;simpa using this
 refine⟨"dict","dict.values",PySem.F.plainAttrs_dict,gn,PySem.F.type_dict_values,⟨od,h1,h2.1⟩,λb e=>by cases e;exact⟨od,h1,h2.2.1⟩,fW rfl (PySem.evalArgs_none (ja4 ⟨od,h1,h2.1⟩ z2 ?_))⟩;refine hV ?_;have v1:(s1.heap.push { cls:=.type "dict_values",data:=.fields #[.ref d] }).get? s1.heap.objs.size=a3 { cls:=.type "dict_values",data:=.fields #[.ref d] }:=X5 _ rfl;have I2:=I1.kept (t':=s1.toks) (h':=s1.heap.push { cls:=.type "dict_values",data:=.fields #[.ref d] }) λb o e=>xg _ e;refine Bl (jde (vw:=s1.heap.objs.size) (d:=d) (od:=od) h3) (I1.ok.hd hc) ⟨⟨_,v1,rfl,rfl⟩,xg _ h1⟩ (by rw[hsz];exact z1) (by decide) λh' tk acc kp hacc=>?_;have ea:=K8 h4 hacc;subst ea;have I3:Inv X pins σ H1 { s1 with heap:=h',toks:=tk }:=I2.kept (t':=tk) (h':=h') kp;have hf:H1 h'.objs.size=a7:=I3.hok.fresh (X3 _);have hl:=rv.length;have hxl:vs.length<=aj:=by rw[hl,kj];exact z1
 have I4:=I3.laid (a:=h'.objs.size) (o:=.tup vs) (t':=tk) (h':=h'.push { cls:=.type "tuple",data:=.seq (xs.map λx=>x.2.2).toArray }) (λb u q=>xg _ q) (X3 _) ⟨hxl,_,rv,IsTup.new _ _,Z5.new _ _⟩;have nt:h'.objs.size∉owns ρ:=(R.grow g1).fresh hf;exact⟨.ref h'.objs.size,_,I4,rfl,q _ _ (g1.trans (j7 hf)) ⟨h'.objs.size,vs,rfl,.inl (.inl (by rw[j6 nt];exact j9)),l.mono (jg (j7 hf))⟩⟩
end
section
variable{X:Cx}{ρ:Rho}{it e1 e2:ai}{P:Po}{ds:List D}{x t y:Nat}{nx nt ny:af}{p1 p2 p3 p4 p5 p6 p10 p11 p12 p14 p16 p17 p18:aG}
noncomputable abbrev j7j(nx nt ny:af)(it e1 e2:ai)(p1 p2 p3 p4 p5 p6 p10 p11 p12 p14 p16 p17 p18:aG):List aW :=
 [.Assign [.Name nx p1] (.Dict [] [] p2) p3,.For (.Name nt p4) it [.Assign [.Name ny p5] e1 p6,.Assign [.Subscript (.Name nx p10) (.Name nt p11) p12] e2 p14] [] p16,.Return (a3 (.Name nx p17)) p18]
theorem vf:∀ns:List Int,z9 (ns.map D.int)=a6
 |[]=>rfl
 |n::ns=>by rw[X4,z9,vf ns];rfl
theorem Cq{α:Type}:∀{l:List α}{i:Nat}{x:α},l[i]?=a3 x->l.set i x=l
 |[],_,_,_=>rfl
 |y::l,0,x,h=>by simp at h;subst h;rfl
 |y::l,i+1,x,h=>by rw[Pu,Cq (by simpa using h)]
theorem j6k{K:k7m}{H:Hp}{A:List aa}(hA:∀a∈A,Hd (H a)){ds:List D}{vs:List V}(n:z9 ds=a6)(h:j5 K H ds vs):j5 K (del H A) ds vs:=j5.hide hA n h
theorem DSs.nmake(W:Nat->Rho->List (List Int)->List Int->Prop)(rx:x<ρ.length)(rt:t<ρ.length)(ry:y<ρ.length)(hxt:x≠t)(hxy:x≠y)(hty:t≠y)(hi:DI X (ρ.set x .un) (.Name nt p4) it ds)(h0:W 0 (ρ.set x .un) [] [])
  (hs:∀i d ρ' ks ns,ds[i]?=a3 d->W i ρ' ks ns->∃k d1 n,d=.tup (k.map D.int)/\DE X (ρ'.set t (.val d)) e1 d1/\DE X (((ρ'.set t (.val d)).set y (.val d1)).set x (.val (.dct ks (ns.map D.int)))) e2 (.int n) /\
   ks.contains k=a4/\ks.length<aj/\W (i+1) ((ρ'.set t (.val d)).set y (.val d1)) (ks++[k]) (ns++[n]))
  (hd:∀ρ' ks ns,W ds.length ρ' ks ns->P.rt (.val (.dct ks (ns.map D.int))))
  (hu:X.A.units+100<aL) (hc:X.calm=a6) (hp:fJ (aw X.prog X.w) X.A X.env X.xe) (hN:X.N.Nodup) (hX:X.N[x]?=a3 nx) (hT:X.N[t]?=a3 nt) (hY:X.N[y]?=a3 ny)
  (lx:Loc X.env.scope nx) (lt:Loc X.env.scope nt) (ly:Loc X.env.scope ny) (fx:X.fn nx=a6\/X.env.scope.names.lookup nx=a3 .local) (ft:X.fn nt=a6\/X.env.scope.names.lookup nt=a3 .local) (fy:X.fn ny=a6\/X.env.scope.names.lookup ny=a3 .local)
  (dx:(nx==k7q)=a4) (cx:(nx==k7r)=a4) (dt:(nt==k7q)=a4) (ct:(nt==k7r)=a4)
  (s1:aN (.Dict [] [] p2) (a3 (.Name nx p1)) p3.line X.env=pure a4) (s2:aN e1 (a3 (.Name ny p5)) p6.line X.env=pure a4)
  (s3:aN e2 (a3 (.Subscript (.Name nx p10) (.Name nt p11) p12)) p14.line X.env=pure a4) (hf:∀x,aD it X.env x=pure x) :
  DSs X ρ (j7j nx nt ny it e1 e2 p1 p2 p3 p4 p5 p6 p10 p11 p12 p14 p16 p17 p18) P:=λσ H E R q=>by
 have vis:∀{z:af},Loc X.env.scope z->Vis X.env.scope z:=λh=>h.elim .inl λz=>.inr (.inl z);refine(Yv (Yl hN hX lx j8t s1 fx) (Yv (j2h hp hc piS (Za hN hT lt ft) (Yv (Yl hN hY ly peS s2 fy)
  (Eh (j8o hu (Qa hX (vis lx) dx cx) (Qa hT (vis lt) dt ct) peS s3))) hf)
  (Eh (Um (Qa hX (vis lx) dx cx))))).to ?_
 intro a ha;have R0:Rep X.K (ρ.set x .un) (σ.set x (a3 (.ref a))) H:=R.set_un;have hxl:x<σ.length:=by rw[R.len];exact rx
 refine j0y (A:=[a]) (R':=λJ F=>j4 H F/\Yi X.K (del F (owns (ρ.set x .un))) J ds) (λb hb=>.inr ⟨[],0,by rw[xq.mp hb];exact j9⟩) (by rw[Kd ha];exact hi _ H _ R0 λJ F g ok=>⟨g,ok⟩) λJ F ⟨g,ok⟩ hn=>?_;rw[Ep j9];have fa:F a=a7:=hn a (by simp);refine⟨λi m σ' H'=>∃ρ' Fh xs ep ns,H'=upd Fh a (.dI xs ep)/\Fh a=a7/\Rep X.K ρ' σ' Fh/\j4 F Fh/\(∀b∈owns ρ',b∈owns (ρ.set x .un))/\ρ'.length=ρ.length/\σ'[x]?=a3 (a3 (.ref a)) /\
   (∀z∈xs,SqT X.K Fh z.2.1 (z.1.map V.int))/\Vals (ns.map V.int) (xs.map λz=>z.2.2)/\W i ρ' (xs.map λz=>z.1) ns/\m=ds.length-i/\i<=ds.length,
  ⟨ds.length,ρ.set x .un,F,[],0,[],rfl,fa,R0.grow g,j4.refl _,λb hb=>hb,by simp,Uj hxl,λz hz=>(nomatch hz),.nil,h0,rfl,bU _⟩,?_⟩
 rintro i m σ' H' ⟨ρ',Fh,xs,ep,ns,rfl,fha,R',gF,sub,hL,sx,kt,rv,w,rfl,hle⟩;have gU:j4 Fh (upd Fh a (.dI xs ep)):=j7 fha;obtain⟨go,stop,yld⟩:=ok i (upd Fh a (.dI xs ep)) (a::owns ρ') (λb o eb=>by
  obtain⟨nb,eb⟩:=of_del eb
  have nba:b≠a:=λz=>by rw[z,fa]at eb;cases eb
  rw[j6,ji nba]
  .exact gF b o eb
  .intro z
   rcases xr.mp z with z|z
   .exact nba z
   .exact nb (sub b z)) (λb hb=>by
  rcases xr.mp hb with z|z
  .rw[z,j9];simp
  .obtain⟨ys,eb⟩:=R'.owned b z
   rw[gU _ _ eb];simp)
 by_cases hlt:i<ds.length
 .obtain⟨k,d1,n,ed,hE,hE2,nk,hkl,w'⟩:=hs i ds[i] ρ' _ ns (kh hlt) w;refine .inr ⟨go hlt,λσ2 H2=>∃ρ2 Fh2 xs2 ep2 ns2,H2=upd Fh2 a (.dI xs2 ep2)/\Fh2 a=a7/\Rep X.K ρ2 σ2 Fh2/\j4 F Fh2/\(∀b∈owns ρ2,b∈owns (ρ.set x .un))/\ρ2.length=ρ.length/\σ2[x]?=a3 (a3 (.ref a)) /\
   (∀z∈xs2,SqT X.K Fh2 z.2.1 (z.1.map V.int))/\Vals (ns2.map V.int) (xs2.map λz=>z.2.2)/\W (i+1) ρ2 (xs2.map λz=>z.1) ns2,
   λσ2 H2 ⟨ρ2,Fh2,xs2,ep2,ns2,z1,z2,z3,z4,z5,z5',z6,z7,z8,z10⟩=>⟨ds.length-(i+1),by omega,ρ2,Fh2,xs2,ep2,ns2,z1,z2,z3,z4,z5,z5',z6,z7,z8,z10,rfl,hlt⟩,λv H2 yv=>?_⟩
  obtain⟨g2,en⟩:=yld v H2 yv;have en:=en _ (kh hlt);have h2a:H2 a=a3 (.dI xs ep):=g2 _ _ j9;have e2:H2=upd (del H2 [a]) a (.dI xs ep):=j7t h2a;have f2a:del H2 [a] a=a7:=qx (by simp);have gF2:j4 Fh (del H2 [a]):=λb o eb=>by
   have nb:b≠a:=λz=>by rw[z,fha]at eb;cases eb
   rw[j6 (by simpa using nb)];exact g2 b o (gU b o eb)
  have en2:Enc X.K (del (del H2 [a]) (owns ρ')) ds[i] v:=by rw[Qq];exact en
  generalize del H2 [a]=F2 at e2 f2a gF2 en2;subst e2;have R2:Rep X.K (ρ'.set t (.val ds[i])) (σ'.set t (a3 v)) F2:=(R'.grow gF2).set_val en2;have sub2:∀b∈owns (ρ'.set t (.val ds[i])),b∈owns (ρ.set x .un):=λb hb=>sub b ((jf rfl).subset hb);show Q6 X e1 (σ'.set t (a3 v)) (upd F2 a (.dI xs ep)) _;refine j0z (A:=[a]) (Q':=λv F3=>j4 F2 F3/\Enc X.K (del F3 (owns (ρ'.set t (.val ds[i])))) d1 v) (λb hb=>.inr ⟨xs,ep,by rw[xq.mp hb];exact j9⟩) (by rw[Kd f2a];exact hE _ F2 _ R2 λv F3 g e=>⟨g,e⟩) λv3 F3 ⟨g3,en3⟩ hn3=>?_;rw[Ep j9];have f3a:F3 a=a7:=hn3 a (by simp);have R3:Rep X.K ((ρ'.set t (.val ds[i])).set y (.val d1)) ((σ'.set t (a3 v)).set y (a3 v3)) F3:=(R2.grow g3).set_val en3;have sub3:∀b∈owns ((ρ'.set t (.val ds[i])).set y (.val d1)),b∈owns (ρ.set x .un):=λb hb=>sub2 b ((jf rfl).subset hb);have sx3:((σ'.set t (a3 v)).set y (a3 v3))[x]?=a3 (a3 (.ref a)):=by rw[zg (cw hxy),zg (cw hxt)];exact sx
  have lenN:σ'.length=ρ.length:=by rw[R'.len,hL]
  have htl:t<σ'.length:=by rw[lenN];exact rt
  have hL3:((ρ'.set t (.val ds[i])).set y (.val d1)).length=ρ.length:=by rw[Pz,Pz,hL]
  have st3:((σ'.set t (a3 v)).set y (a3 v3))[t]?=a3 (a3 v):=by rw[zg (cw hty)];exact Uj htl
  have kt3:∀z∈xs,SqT X.K F3 z.2.1 (z.1.map V.int):=λz hz=>g3.seqT (gF2.seqT (kt z hz));rw[ed]at en2;obtain⟨tb,ys,ev,sq,li⟩:=en2;rw[v8 li]at sq;subst ev;have sq3:SqT X.K F3 tb (k.map V.int):=g3.seqT (jo.seqT sq);clear R2;show Q6 X e2 ((σ'.set t (a3 (V.ref tb))).set y (a3 v3)) (upd F3 a (.dI xs ep)) _;generalize (σ'.set t (a3 (V.ref tb))).set y (a3 v3)=σ3 at R3 sx3 st3 ⊢;generalize (ρ'.set t (.val ds[i])).set y (.val d1)=ρ3 at R3 sub3 hL3 hE2 w' ⊢;have g4:j4 F3 (upd F3 a (.dI xs ep)):=j7 f3a;have hO:∀b∈owns ρ3,Hd (upd F3 a (.dI xs ep) b):=λb hb=>.inl (let ⟨zs,e⟩:=R3.owned b hb;⟨zs,g4 _ _ e⟩);have na:a∉owns ρ3:=λz=>by obtain⟨zs,e⟩:=R3.owned a z;rw[f3a]at e;cases e
  have R4:Rep X.K (ρ3.set x (.val (.dct (xs.map λz=>z.1) (ns.map D.int)))) σ3 (upd F3 a (.dI xs ep)):=by
   have z:=(R3.grow g4).set_val (i:=x) (d:=.dct (xs.map λz=>z.1) (ns.map D.int)) (v:=.ref a) ⟨a,xs,ep,ns.map V.int,rfl,by rw[j6 na];exact j9,rfl,λz hz=>?_,rv,j6k hO (vf ns) (j5.ints ns)⟩
   .rw[Cq sx3]at z;exact z
   .have e:Enc X.K (upd F3 a (.dI xs ep)) (.tup (z.1.map D.int)) (.ref z.2.1):=⟨_,_,rfl,g4.seqT (kt3 z hz),j5.ints z.1⟩
    obtain⟨b,zs,e1,e2,e3⟩:=e.hide hO (by rw[Jy];exact vf z.1);cases e1;rw[v8 e3]at e2;exact e2
  refine hE2 σ3 _ _ R4 λv4 H4 g5 en4=>?_;cases(show v4=.int n from en4);have h4a:H4 a=a3 (.dI xs ep):=g5 _ _ j9;have f4a:del H4 [a] a=a7:=qx (by simp);have gF4:j4 F3 (del H4 [a]):=λb o eb=>by
   have nb:b≠a:=λz=>by rw[z,f3a]at eb;cases eb
   rw[j6 (by simpa using nb)];exact g5 b o (g4 b o eb)
  have gU4:j4 (del H4 [a]) H4:=jo;refine⟨.ref a,sx3,.ref tb,st3,a,tb,xs,ep,k,rfl,h4a,λz hz=>gU4.seqT (gF4.seqT (kt3 z hz)),rfl,gU4.seqT (gF4.seqT sq3),nk,by rw[kj]at hkl;exact hkl,λu ep' ru=>?_⟩;refine⟨ρ3,del H4 [a],xs++[(k,tb,u)],ep',ns++[n],?_,f4a,R3.grow gF4,gF.trans (gF2.trans (g3.trans gF4)),sub3,hL3,sx3,λz hz=>?_,?_,by rw[Xd];exact w'⟩
  .funext b
   by_cases z:b=a
   .subst z;rw[j9,j9]
   .rw[ji z,ji z,j6 (by simpa using z)]
  .rcases Pb.mp hz with hz|hz
   .exact gF4.seqT (kt3 z hz)
   .rw[xq.mp hz];exact gF4.seqT sq3
  .rw[Xd,Xd];exact rv.append (.cons ru .nil)
 .have e:i=ds.length:=by omega
  subst e;refine .inl ⟨stop (X3 _),.ref a,sx,?_⟩;refine q.rt (.val (.dct _ (ns.map D.int))) (.ref a) _ (hd ρ' _ ns w) ⟨λb o eb=>gU b o (gF b o (g b o (of_del eb).2)),a,xs,ep,ns.map V.int,rfl,j9,rfl,λz hz=>gU.seqT (kt z hz),rv,j5.ints ns⟩
end
section
variable{X:Cx}{ρ:Rho}{a e:ai}{l:List D}{d:D}{p1 pos:aG}
noncomputable def ixD(d:D):List D->Option Nat
 |[]=>a7
 |x::r=>if deq x d=a6 then a3 0 else(ixD d r).map (· + 1)
end
section
variable{X:Cx}{pins:k7o}{σ:St}{H:Hp}{l q S I:aa}{xs:List V}{R:fH->ae->Prop}
end
section
variable{X:Cx}{ρ:Rho}{σ:St}{H:Hp}{q:aa}{f:af}{l:List D}{xs:List V}{kf:Nat->Int}{a:ai}{d:D}{p p1 pk pos:aG}
end
section
variable{X:Cx}{pins:k7o}{σ:St}{H:Hp}{l S I:aa}{xs:List V}{R:fH->ae->Prop}
def je9(X:Cx)(pins:k7o)(σ:St)(H:Hp)(xs:List V)(bt:Nat->Nat->Bool):Prop:=∀(i j:Nat)(x y:V)(u v:a8)(s:ae)(Q:k7n)(E:k7n),xs[i]?=a3 x->xs[j]?=a3 y->RelV x u->RelV y v->Inv X pins σ H s ->
 Q (.bool (bt i j)) s->ao (aw X.prog X.w) X.A.in1 (fQ .Lt u v) Q E s
theorem j92(bt:Nat->Nat->Bool)(hh:X.A.handled=a7)(hl:SqL X.K H l xs)(hSI:S≠I)(fS:Q9 X pins H S)(fI:Q9 X pins H I)(cmp:je9 X pins σ H xs bt)
  (hR:∀x u s',xs[aQ bt (xs.length-1)]?=a3 x->RelV x u->Inv X pins σ H s'->R (.ok (.ret u)) s') :
  ∀(r j:Nat)(s:ae)(x:V)(u:a8)(c:Nat),xs.length-(j+1)=r->j+1<=xs.length->Inv X pins σ H s->s.heap.get? S=a3 (eE "list" #[u,u] c) ->
   s.heap.IsListIter I l (j+1)->xs[aQ bt j]?=a3 x->RelV x u->cu (aw X.prog X.w) X.A (.builtin "min.loop" ⟨[.ref I,.none,.ref S],[]⟩) R s:=by
 have hname:(toString "min" ++ toString ".loop":String) = "min.loop":=by decide
 have fp:∀b∈[S,I],Q9 X pins H b:=λb hb=>by
  rcases xr.mp hb with e|hb
  .subst e;exact fS
  .rw[xq.mp hb];exact fI
 intro r;induction r with
 |zero =>
  intro j s x u c hr hj I1 oS it hx ru;have hin:j+1=xs.length:=by omega
  obtain⟨its,rv,p,_⟩:=I1.list hl;have hlen:=rv.length;refine c7 d6 ?_;rw[T8 Pj _];show ao _ X.A.in1 (fF (.ref S) >>= _) _ _ _;refine a5 (d7 oS rfl ?_);show ao _ X.A.in1 (tryCatch (dW (.ref I)) _ >>= _) _ _ _;refine a5 (dR (iC hh it p.isList (by simp;omega) λh' eb=>?_));have I2:Inv X pins σ H { s with heap:=h' }:=I1.chg (ch:=[S,I]) fp λb o hb e=>eb b o (λz=>hb (by simp[z])) e;have oS':h'.get? S=a3 (eE "list" #[u,u] c):=eb S _ hSI oS;show ao _ X.A.in1 (updateSeq S (λ_=>#[]) >>= _) _ _ _;refine a5 ?_;refine fX oS' rfl (a5 (fP (ah ?_)));have s1:=t6 h' S (cP λ_=>(#[]:Array a8));exact hR x u _ (by rw[<-hin];exact hx) ru (I2.chg (ch:=[S,I]) fp λb o hb e=>(s1.2 b (λz=>hb (by simp[z]))).trans e)
 |succ r ih =>
  intro j s x u c hr hj I1 oS it hx ru;have hlt:j+1<xs.length:=by omega
  obtain⟨its,rv,p,_⟩:=I1.list hl;have hlen:=rv.length;have hx1:xs[j+1]?=a3 xs[j+1]:=by simp[hlt]
  obtain⟨v,hv,rv1⟩:=rv.get hx1;refine c7 d6 ?_;rw[T8 Pj _];show ao _ X.A.in1 (fF (.ref S) >>= _) _ _ _;refine a5 (d7 oS rfl ?_);show ao _ X.A.in1 (tryCatch (dW (.ref I)) _ >>= _) _ _ _;refine a5 (dR (dC it p.isList (x:=v) (by simpa using hv) λh' it' sb=>?_));have I2:Inv X pins σ H { s with heap:=h' }:=I1.chg (ch:=[S,I]) fp λb o hb e=>(sb.2 b (λz=>hb (by simp[z]))).trans e;have oS':h'.get? S=a3 (eE "list" #[u,u] c):=(sb.2 S hSI).trans oS;obtain⟨oI,eI,cI,dI⟩:=id it';show ao _ X.A.in1 (tryCatch (jM [v,v] (fQ .Lt v u >>= _)) _ >>= _) _ _ _;refine a5 (dR (eP (a5 (cmp (j+1) (aQ bt j) _ _ v u _ _ _ hx1 hx rv1 ru I2 ?_))));refine a5 (eP (b0 ?_));refine a5 (fP (ah ?_));cases hb:bt (j+1) (aQ bt j) with
  |true =>
   have s1:=t6 h' S (cP λ_=>#[v,v]);obtain⟨c2,hc2⟩:∃c2,(h'.update S (cP λ_=>#[v,v])).get? S=a3 (eE "list" #[v,v] c2):=⟨_,kI oS' λ_=>#[v,v]⟩
   simp only[if_true];refine a5 ?_;refine fX oS' rfl (a5 (fP ?_));rw[hname];exact ah ⟨cD Pj _,ih (j+1) _ _ v c2 nofun hlt (I2.chg (ch:=[S,I]) fp λb o hb e=>(s1.2 b (λz=>hb (by simp[z]))).trans e) hc2
    ⟨oI,(s1.2 I hSI.symm).trans eI,cI,dI⟩ (by simp only[aQ,hb,if_true];exact hx1) rv1⟩
  |false =>simp only[pq,if_false];refine a5 (fP ?_);rw[hname];exact ah ⟨cD Pj _,ih (j+1) _ x u c nofun hlt I2 oS' ⟨oI,eI,cI,dI⟩ (by simp only[aQ,hb,pq,if_false];exact hx) ru⟩
theorem j37(bt:Nat->Nat->Bool)(hh:X.A.handled=a7){s:ae}{Q:VK}{E:k7n}(I0:Inv X pins σ H s)(hl:SqL X.K H l xs)(hne:0<xs.length)(cmp:je9 X pins σ H xs bt)
  (hQ:∀x,xs[aQ bt (xs.length-1)]?=a3 x->Q x H):ao (aw X.prog X.w) X.A (call (.builtin "min") [.ref l]) (EP X pins σ Q) E s:=by
 have hname:(toString "min" ++ toString ".loop":String) = "min.loop":=by decide
 obtain⟨its0,rv0,p0,_⟩:=I0.list hl;refine call_function_tree PySem.F.kind_min PySem.F.plain_min PySem.F.entry_min (PySem.F.args_min1 _) ?_;show ao _ X.A.in1 (Builtin.Builtins.bindParams "min" ["key","default"] 0 ⟨[],[]⟩ >>= _) _ _ s;refine a5 (fO (show Builtin.Builtins.bindParams "min" ["key","default"] 0 ⟨[],[]⟩=pure [a7,a7]from rfl) ?_);refine a5 (ah ?_);refine a5 (bE p0.isList ?_);refine a5 (wpAny_newList ?_ (bU _));rw[hname];generalize hA:s.heap.push { cls:=.type "list_iterator",data:=.fields #[.ref l,.int 0 0] }=h1;have z1:h1.objs.size=s.heap.objs.size+1:=by rw[<-hA];exact size_push' ..
 have gI:(h1.push (eE "list" #[] 0)).get? s.heap.objs.size=a3 { cls:=.type "list_iterator",data:=.fields #[.ref l,.int 0 0] }:=by rw[<-hA];exact xg _ (X5 _ rfl)
 have gS:(h1.push (eE "list" #[] 0)).get? h1.objs.size=a3 (eE "list" #[] 0):=X5 _ rfl;have I1:Inv X pins σ H { s with heap:=h1.push (eE "list" #[] 0) }:=I0.kept (t':=s.toks) λb o e=>xg _ (by rw[<-hA];exact xg _ e);have fI:Q9 X pins H s.heap.objs.size:=I0.fpOk (X3 _) (I0.hok.fresh (X3 _));have fS:Q9 X pins H h1.objs.size:=I0.fpOk (by rw[z1];exact T4 _) (I0.hok.fresh (by rw[z1];exact T4 _));have hSI:h1.objs.size≠s.heap.objs.size:=by rw[z1];exact t7 (df _)
 have fp:∀b∈[h1.objs.size,s.heap.objs.size],Q9 X pins H b:=λb hb=>by
  rcases xr.mp hb with e|hb
  .subst e;exact fS
  .rw[xq.mp hb];exact fI
 refine ah ⟨cD Pj _,?_⟩;obtain⟨its,rv,p,_⟩:=I1.list hl;have hlen:=rv.length;have hx0:xs[0]?=a3 xs[0]:=by simp[hne]
 obtain⟨v,hv,rv1⟩:=rv.get hx0;refine c7 d6 ?_;rw[T8 Pj _];show ao _ X.A.in1 (fF (.ref _) >>= _) _ _ _;refine a5 (d7 gS rfl ?_);show ao _ X.A.in1 (tryCatch (dW (.ref s.heap.objs.size)) _ >>= _) _ _ _;refine a5 (dR (dC (i:=0) ⟨_,gI,rfl,rfl⟩ p.isList (x:=v) (by simpa using hv) λh' it' sb=>?_));have I2:Inv X pins σ H { s with heap:=h' }:=I1.chg (ch:=[h1.objs.size,s.heap.objs.size]) fp λb o hb e=>(sb.2 b (λz=>hb (by simp[z]))).trans e;have oS':h'.get? h1.objs.size=a3 (eE "list" #[] 0):=(sb.2 _ hSI).trans gS;obtain⟨oI,eI,cI,dI⟩:=id it';have s1:=t6 h' h1.objs.size (cP λ_=>#[v,v]);obtain⟨c2,hc2⟩:∃c2,(h'.update h1.objs.size (cP λ_=>#[v,v])).get? h1.objs.size=a3 (eE "list" #[v,v] c2):=⟨_,kI oS' λ_=>#[v,v]⟩
 show ao _ X.A.in1 (updateSeq h1.objs.size (λ_=>#[v,v]) >>= _) _ _ _;refine a5 ?_;refine fX oS' rfl ?_;rw[hname];exact ah ⟨cD Pj _,j92 bt hh hl hSI fS fI cmp (λx u s' hx ru I=>⟨x,H,I,ru,hQ x hx⟩) _ 0 _ _ v c2 rfl hne
  (I2.chg (ch:=[h1.objs.size,s.heap.objs.size]) fp λb o hb e=>(s1.2 b (λz=>hb (by simp[z]))).trans e) hc2 ⟨oI,(s1.2 _ hSI.symm).trans eI,cI,dI⟩ hx0 rv1⟩
end
noncomputable def Mr(l:List (List Int))(i j:Nat):Bool:=HT.lexLt (l.getD i []) (l.getD j [])
section
variable{X:Cx}{ρ:Rho}{a:ai}{l:List (List Int)}{k:List Int}{p pos:aG}
theorem DT.minT (hu:X.A.units+100<aL) (hcalm:X.calm=a6) (hm:X.mg "min" = a7) (hg:Gl X "min") (ha:DT X ρ a (.lst (l.map λk=>D.tup (k.map D.int)))) (hk:l[aQ (Mr l) (l.length-1)]?=a3 k) (hs:a9 [a] X.env=[(a4,ay a X.env)]) :
  DT X ρ (.Call (.Name "min" p) [a] [] pos) (.tup (k.map D.int)):=λσ H Q R q pins s I=>by
 refine aM (Qx I hg hm iO ?_ (by decide) (by decide));refine callWith_builtin1 (thn ((jd (es:=[]) peS jz hs).to (σ:=σ) (H:=H) (Q:=λvs H1=>∃v,vs=[v]/\j4 H H1/\Enc X.K H1 (.lst (l.map λk=>D.tup (k.map D.int))) v) (ha σ H _ R λv H1 g1 e1=>⟨v,rfl,g1,e1⟩) pos pins s I) λus s1 ⟨vs,H1,I1,r1,v,ev,g1,e1⟩=>?_) hs rfl;subst ev;obtain⟨b,xs,eb,sq,en⟩:=e1;subst eb;obtain⟨u,eu,ru⟩:=r1.one;subst eu;cases(show u=aA b from ru);have hlen:xs.length=l.length:=by rw[en.length,kj]
 have hin:=(X7.mp hk).1;have item:∀{i:Nat}{x:V},xs[i]?=a3 x->∃t,x=.ref t/\SqT X.K H1 t ((l.getD i []).map V.int)/\Enc X.K H1 (.tup ((l.getD i []).map D.int)) x:=λ{i x} hx=>by
  obtain⟨d,hd,ed⟩:=en.get' hx;rw[xx]at hd;obtain⟨k',hk',ek⟩:=ph.mp hd;subst ek;have eg:l.getD i []=k':=by rw[km,hk'];rfl
  rw[eg];obtain⟨t,ys,e1,sq',l'⟩:=id ed;rw[v8 l']at sq';exact⟨t,e1,sq',ed⟩
 refine j37 (Mr l) (I.ok.hd hcalm) I1 sq nofun (λi j x y u v s2 Q2 E2 hx hy rx ry I2 hq=>?_) λx hx=>?_
 .obtain⟨t,e1,s1',_⟩:=item hx;obtain⟨t',e2,s2',_⟩:=item hy;subst e1 e2;cases rx;cases ry;obtain⟨its,r1,p1,_⟩:=I2.tuple s1';obtain⟨its2,r2,p2,_⟩:=I2.tuple s2';exact HT.lt_tupInts (A:=X.A.in1) p1 p2 (intsAre_of r1) (intsAre_of r2) (by show X.A.units+1<aL;omega) hq
 .rw[hlen]at hx;obtain⟨t,e1,_,ed⟩:=item hx;have eg:l.getD (aQ (Mr l) (l.length-1)) []=k:=by rw[km,hk];rfl
  rw[eg]at ed;exact q x H1 g1 ed
end
section
variable{X:Cx}{ρ:Rho}{it e2:ai}{P:Po}{ds:List D}{x t:Nat}{nx nt:af}{p1 p2 p3 p4 p10 p11 p12 p14 p16 p17 p18:aG}
end
noncomputable def j1e(p q:Int×List Int):Bool:=if p.1=q.1 then HT.lexLt p.2 q.2 else decide (p.1<q.1)
noncomputable def Ql(l:List (Int×List Int))(i j:Nat):Bool:=j1e (l.getD i (0,[])) (l.getD j (0,[]))
noncomputable def pairD(p:Int×List Int):D:=.tup [.int p.1,.tup (p.2.map D.int)]
theorem Mq:∀l:List Int,HT.lexLt l l=a4
 |[]=>rfl
 |x::l=>by rw[HT.lexLt_cons,if_pos rfl,Mq l]
theorem Rw:∀l:List Int,D.depL (l.map D.int)=0
 |[]=>rfl
 |x::l=>by rw[X4,D.depL,Rw l];rfl
theorem Nr:∀{ns ms:List Int},zp (ns.map D.int) (ms.map D.int)=a6->ns=ms
 |[],[],_=>rfl
 |[],_::_,h=>nomatch h
 |_::_,[],h=>nomatch h
 |x::ns,y::ms,h=>by rw[X4,X4,Jv,Xk]at h;rw[Nr h.2,show x=y from by simpa [Kc]using h.1]
section
open PySem.SeqAt
open PySem.AutoSeq1 (wpAny_loadPart')
open PySem.MeetsSeq PySem.MeetsSeq2 PySem.MeetsSeq3
theorem Fo(l b x y:aa)(a c:Int)(t u:gW)(n n2:Nat)(dd dd2:Option aa)(sl sl2:Array (Option a8))(e r:Bool) :
  jP (eK.«tuple.__lt__» ⟨[.ref l,.ref b],[]⟩)
   (λA R s=>s.heap.get? l=a3 { cls:=.type "tuple",dict:=dd,data:=.seq #[.int a t,.ref x] n,slots:=sl }/\s.heap.get? b=a3 { cls:=.type "tuple",dict:=dd2,data:=.seq #[.int c u,.ref y] n2,slots:=sl2 } /\
    EqAt A.in1 s (.ref x) (.ref y) e/\(∀(prog:aq)(w:ax)(E:k7n)(Q:k7n),Q (.bool r) s->ao (aw prog w) A.in1 (fQ .Lt (.ref x) (.ref y)) Q E s) /\
    R (.ok (.ret (.bool (if a=c then(if e=a6 then a4 else r)else decide (a<c))))) s) :=
 .of_wp λprog w A R s h=>by
  obtain⟨hp,g,d,tk,os⟩:=s;obtain⟨hl,hb,hx,hr,h⟩:=h;have f2:=fb
  wp_walk using dE hl,dE hb,ka _ (λrest b s'=>b.1=a7/\s'=⟨hp,g,d,tk,os⟩ /\
   (rest=[(b8 a t,b8 c u),(aA x,aA y)]\/(rest=[(aA x,aA y)]/\a=c)\/(rest=[]/\a=c/\e=a6))) _
  case turn =>
   rintro⟨y',x'⟩ rest b s' ⟨hb',rfl,hz⟩;rcases hz with hz|⟨hz,ac⟩|⟨hz,_⟩
   .injection hz with hyx hrest;injection hyx with hy hx';subst hy hx';obtain⟨e',he,hiff⟩:=HT.eqAt_int A.in1 ⟨hp,g,d,tk,os⟩ a t c u;refine a5 (he prog w _ _ ?_);cases e' with
    |true =>
     wp_walk
     exact⟨rfl,rfl,.inr (.inl ⟨hrest,hiff.mp rfl⟩)⟩
    |false =>
     rw[if_neg (λq=>absurd (hiff.mpr q) xj)]at h;have hri:=HT.rcLt_int A.in1 ⟨hp,g,d,tk,os⟩ a t c u prog w
     wp_walk using hri
     exact⟨_,rfl,by simpa using h⟩
   .injection hz with hyx hrest;injection hyx with hy hx';subst hy hx';refine a5 (hx prog w _ _ ?_);rw[if_pos ac]at h;cases e with
    |true =>
     wp_walk
     exact⟨rfl,rfl,.inr (.inr ⟨hrest,ac,rfl⟩)⟩
    |false =>
     have hri:=hr prog w
     wp_walk using hri
     exact⟨_,rfl,by simpa using h⟩
   .cases hz
  case fin =>
   rintro⟨b1,b2⟩ s' ⟨hb',rfl,hz⟩;simp only at hb';subst hb';rcases hz with hz|⟨hz,ac⟩|⟨hz,ac,e1⟩
   .cases hz
   .cases hz
   .rw[if_pos ac,if_pos e1]at h
    wp_walk
    exact⟨_,rfl,by simpa [dr]using h⟩
  case h =>exact⟨rfl,rfl,.inl rfl⟩
end
section
variable{X:Cx}{ρ:Rho}{a:ai}{l:List (Int×List Int)}{k:Int×List Int}{p pos:aG}
theorem DT.minP (hu:X.A.units+100<aL) (hcalm:X.calm=a6) (hm:X.mg "min" = a7) (hg:Gl X "min") (ha:DT X ρ a (.lst (l.map pairD))) (hk:l[aQ (Ql l) (l.length-1)]?=a3 k) (hs:a9 [a] X.env=[(a4,ay a X.env)]) :
  DT X ρ (.Call (.Name "min" p) [a] [] pos) (pairD k):=λσ H Q R q pins s I=>by
 refine aM (Qx I hg hm iO ?_ (by decide) (by decide));refine callWith_builtin1 (thn ((jd (es:=[]) peS jz hs).to (σ:=σ) (H:=H) (Q:=λvs H1=>∃v,vs=[v]/\j4 H H1/\Enc X.K H1 (.lst (l.map pairD)) v) (ha σ H _ R λv H1 g1 e1=>⟨v,rfl,g1,e1⟩) pos pins s I) λus s1 ⟨vs,H1,I1,r1,v,ev,g1,e1⟩=>?_) hs rfl;subst ev;obtain⟨b,xs,eb,sq,en⟩:=e1;subst eb;obtain⟨u,eu,ru⟩:=r1.one;subst eu;cases(show u=aA b from ru);have hlen:xs.length=l.length:=by rw[en.length,kj]
 have hin:=(X7.mp hk).1;have item:∀{i:Nat}{x:V},xs[i]?=a3 x->Enc X.K H1 (pairD (l.getD i (0,[]))) x:=λ{i x} hx=>by
  obtain⟨d,hd,ed⟩:=en.get' hx;rw[xx]at hd;obtain⟨k',hk',ek⟩:=ph.mp hd;subst ek;have eg:l.getD i (0,[])=k':=by rw[km,hk'];rfl
  rw[eg];exact ed
 have part:∀{q:Int×List Int}{x:V},Enc X.K H1 (pairD q) x->∃t y,x=.ref t/\SqT X.K H1 t [.int q.1,.ref y]/\SqT X.K H1 y (q.2.map V.int)/\Enc X.K H1 (.tup (q.2.map D.int)) (.ref y):=λ{q x} ed=>by obtain⟨t,ys,e1,sq',l'⟩:=ed;obtain⟨v1,ys1,rfl,e2,v2,ys2,rfl,e3,rfl⟩:=l';cases(show v1=.int q.1 from e2);obtain⟨y,zs,e4,sq2,l4⟩:=id e3;subst e4;rw[v8 l4]at sq2;exact⟨t,y,e1,sq',sq2,e3⟩
 refine j37 (Ql l) (I.ok.hd hcalm) I1 sq nofun (λi j x y u v s2 Q2 E2 hx hy rx ry I2 hq=>?_) λx hx=>?_
 .obtain⟨t,x1,e1,s1',s1'',en1⟩:=part (item hx);obtain⟨t',y1,e2,s2',s2'',en2⟩:=part (item hy);subst e1 e2;cases rx;cases ry;obtain⟨its,r1,p1,_⟩:=I2.tuple s1';obtain⟨its2,r2,p2,_⟩:=I2.tuple s2';obtain⟨itx,rx1,px,_⟩:=I2.tuple s1'';obtain⟨ity,ry1,py,_⟩:=I2.tuple s2'';obtain⟨_,_,rfl,⟨k1,rfl⟩,eu⟩:=r1.two;obtain⟨_,_,rfl,⟨k2,rfl⟩,ev⟩:=r2.two;cases eu;cases ev;have hE:=(Z9 I2 1 X.A.in1.in1 (d:=.tup ((l.getD i (0,[])).2.map D.int)) (d':=.tup ((l.getD j (0,[])).2.map D.int)) (by rw[D.dep,Rw];decide) (by show X.A.units+1+1+1<aL;omega) (by rw[D.dep,Rw];decide) en1 rfl en2 rfl).2;obtain⟨⟨cls,dd,data,sl⟩,ho,hc,n,hd⟩:=id p1;obtain⟨⟨cls2,dd2,data2,sl2⟩,ho2,hc2,n2,hd2⟩:=id p2;simp only at hc hd hc2 hd2;subst hc hd hc2 hd2;have hb:Ql l i j=if (l.getD i (0,[])).1=(l.getD j (0,[])).1 then(if deq (.tup ((l.getD i (0,[])).2.map D.int)) (.tup ((l.getD j (0,[])).2.map D.int))=a6 then a4 else HT.lexLt (l.getD i (0,[])).2 (l.getD j (0,[])).2)else decide ((l.getD i (0,[])).1<(l.getD j (0,[])).1):=by
   show(if _ then _ else _)=_;split
   .split
    .rename_i h;rw[O4]at h;rw[Nr h,Mq]
    .rfl
   .rfl
  rw[hb]at hq;exact ig (op:=.Lt) ⟨_,ho,rfl⟩ ⟨_,ho2,rfl⟩ fM fD (fq _ _) (Fo t t' x1 y1 _ _ _ _ n n2 dd dd2 sl sl2 _ _)
   ⟨ho,ho2,hE,λprog w E Q h=>HT.lt_tupInts (A:=X.A.in1.in1) px py (intsAre_of rx1) (intsAre_of ry1) (by show X.A.units+1+1<aL;omega) h,(λx=>nomatch x),hq⟩ (by show X.A.units+1<aL;omega)
 .rw[hlen]at hx;have ed:=item hx;have eg:l.getD (aQ (Ql l) (l.length-1)) (0,[])=k:=by rw[km,hk];rfl
  rw[eg]at ed;exact q x H1 g1 ed
end
section
variable{X:Cx}{ρ:Rho}{a:ai}{p p1 p2 pos:aG}
end
noncomputable def jgr(kvs:List (af×Int))(k:af):Option Int:=(kvs.find? λp=>decide (p.1=k)).map λp=>p.2
noncomputable def jgu(kvs:List (af×Int))(k:af):Bool:=kvs.any λp=>decide (p.1=k)
noncomputable def dput(kvs:List (af×Int))(k:af)(n:Int):List (af×Int):=if jgu kvs k=a6 then kvs.map λp=>if p.1=k then(p.1,n)else p else kvs++[(k,n)]
section
variable{X:Cx}{ρ:Rho}{a b e k:ai}{rest:List aW}{P:Po}{kvs:List (af×Int)}{z:af}{n:Int}{i j:Nat}{nx ny:af}{pos pos' p p1 p2 p3 p4 p5 p6 p7 p8:aG}{td ty tv:TE}{o value:ai}
end
section
variable{prog:aq}{w:ax}{A:az}{E:k7n}{s:ae}
end
section
variable{prog:aq}{w:ax}{A:az}{E:k7n}{s:ae}{l1 l2:Bool}{z TI TO i1 i2 t1 t2 p:aa}{f:Bool}{op:de}{k:Nat}{us vs:Array a8}{x y a b:a8}
end
section
variable{X:Cx}{pins:k7o}{σ:St}{z TI TO i1 i2 t1 t2 d:aa}{l1 l2:Bool}{ks:List af}{ns:List Int}{A:az}{R:fH->ae->Prop}
end
section
variable{X:Cx}{ρ:Rho}{a b:ai}{ks:List af}{ns:List Int}{p p2 p3 p4:aG}
end
section
variable{X:Cx}{ρ:Rho}{a e:ai}{es:List ai}{x:af}{d:D}{p p1 p2 pos:aG}{y:af}{ds:List D}
theorem Bs.grow{σ:St}{H H':Hp}(k:Bs X σ H x)(g:j4 H H'):Bs X σ H' x:=λpins H2 s' e C I g2 hC Fe=>k pins H2 s' e C I (g.trans g2) hC Fe
theorem DXA.head(ha:DX X ρ a x)(hs:a9 (a::es) X.env=(a4,ay a X.env)::a9 es X.env):DXA X ρ (a::es) x:=λσ H Q R k =>(jd peS paS hs).to (ha σ H _ R k)
theorem DXA.tail(ha:DT X ρ a d)(h:DXA X ρ es x)(hs:a9 (a::es) X.env=(a4,ay a X.env)::a9 es X.env):DXA X ρ (a::es) x:=λσ H Q R k =>(jd peS paS hs).to (ha σ H _ R λv H1 g _=>h σ H1 _ (R.grow g) (k.grow g))
theorem DX.args {f:af} (ha:DXA X ρ (e::es) x) (hg:Gl X f) (hdb:(f==k7q)=a4) {fa:aa} (hfa:X.mg f=a3 (.ref fa)) (hk:W.keepIn X.K (.ref fa)=a6)
  (he:a9 (e::es) X.env=(a4,ay e X.env)::a9 es X.env) (hpl:(aP pos (a9 es X.env)).any (·.1)=a4):DX X ρ (.Call (.Name f p) (e::es) [] pos) x:=λσ H Q R k pins s I=>by
 refine aM (Yo I hg hfa ?_ hdb);exact W.callWith_K (h₀:=X.base) I.ok.mod.kin hk (thn (ha σ H (λ_ _=>False) R k pos pins s I) λus s1 ⟨vs,H1,I1,r,z⟩=>z.elim) he hpl
end
noncomputable def vm:List Int->Int
 |[]=>0
 |a::r=>r.foldl max a
theorem j5l:∀(r:List Int)(a:Int),a<=r.foldl max a
 |[],a=>bW a
 |b::r,a=>by rw[T7];have:=j5l r (max a b);omega
theorem Nk:∀(r:List Int)(a:Int),r.foldl max a∈a::r/\∀b∈a::r,b<=r.foldl max a
 |[],a=>⟨xq.mpr rfl,λb hb=>by rw[xq.mp hb];exact bW _⟩
 |c::r,a=>by
  rw[T7];obtain⟨h1,h2⟩:=Nk r (max a c);refine⟨?_,λb hb=>?_⟩
  .rcases xr.mp h1 with z|z
   .rw[z];by_cases q:a<=c
    .rw[Int.max_eq_right q];exact xf _ xm
    .rw[Int.max_eq_left nofun];exact xm
   .exact xf _ (xf _ z)
  .have l:=h2 (max a c) xm;rcases xr.mp hb with z|z
   .rw[z];omega
   .rcases xr.mp z with z|z
    .rw[z];omega
    .exact h2 b (xf _ z)
theorem Rh{ns:List Int}(h:ns≠[]):vm ns∈ns/\∀b∈ns,b<=vm ns:=by
 cases ns with
 |nil=>exact absurd rfl h
 |cons a r=>exact Nk r a
theorem Eu{ns:List Int}{M:Int}(h1:M∈ns)(h2:∀a∈ns,a<=M):vm ns=M:=by
 have hn:ns≠[]:=λe=>by rw[e]at h1;exact nomatch h1
 obtain⟨a,b⟩:=Rh hn;have:=h2 _ a;have:=b _ h1;omega
noncomputable def Qv(ns:List Int):Int:=-vm (ns.map λn=>-n)
theorem j5h{ns:List Int}(h:ns≠[]):Qv ns∈ns/\∀b∈ns,Qv ns<=b:=by
 obtain⟨h1,h2⟩:=Rh (ns:=ns.map λn=>-n) (by simpa using h);obtain⟨a,ha,e⟩:=X8.mp h1;unfold Qv;refine⟨?_,λb hb=>?_⟩
 .rw[<-e,Int.neg_neg];exact ha
 .have:=h2 _ (X8.mpr ⟨b,hb,rfl⟩);omega
theorem Es{ns:List Int}{M:Int}(h1:M∈ns)(h2:∀a∈ns,M<=a):Qv ns=M:=by
 obtain⟨a,b⟩:=j5h (ns:=ns) λe=>by rw[e]at h1;exact nomatch h1
 have:=h2 _ a;have:=b _ h1;omega
section
variable{X:Cx}{ρ:Rho}{a b e:ai}{es:List ai}{x y:af}{d:D}{i j:Int}{p p1 p2 p3 p4 pk pos:aG}{ds:List D}
theorem j78{pins:k7o}{s:ae}{σ:St}{H:Hp}{l:aa}{ns:List Int}(I:Inv X pins σ H s)(sq:SqL X.K H l (ns.map V.int))(hne:ns≠[]):∃zs,s.heap.IsList l (dX zs)/\0<zs.size/\zs.size=ns.length/\∀i,i<zs.size->fR zs i=ns.getD i 0:=by
 obtain⟨its,rv,pl,_⟩:=I.list sq;have hl:its.length=ns.length:=by rw[<-rv.length,kj]
 have val:∀(i:Nat)(v:a8),its[i]?=a3 v->∃t,v=b8 (ns.getD i 0) t:=by
  intro i v hv;have hi:i<its.length:=(X7.mp hv).1;have hi':i<ns.length:=by omega
  obtain⟨w1,hw,rw1⟩:=rv.get (x:=.int (ns.getD i 0)) (i:=i) (by rw[xx,kh hi',km,kh hi'];rfl);rw[hw]at hv;cases hv;exact rw1
 have hall:AllInts its.toArray:=by intro v hv;obtain⟨i,hi,e⟩:=Ph.mp (show v∈its by simpa using hv);obtain⟨t,e'⟩:=val i v (by rw[kh hi,e]);exact⟨_,t,e'⟩
 obtain⟨zs,hz⟩:=hall.items;have pl':=pl.isList;rw[hz]at pl';have hsz:0<zs.size:=by
  have:its.toArray.size=(dX zs).size:=by rw[hz]
  have h1:0<ns.length:=List.length_pos_iff.mpr hne;simp[dX]at this;omega
 have hns:∀i,i<zs.size->fR zs i=ns.getD i 0:=by
  intro i hi;obtain⟨v1,e1⟩:∃v,(dX zs)[i]?=a3 v:=⟨_,bH (by simpa [dX]using hi)⟩
  obtain⟨t,ht⟩:=iL e1;rw[<-hz]at e1;obtain⟨t',ht'⟩:=val i _ (by simpa using e1);rw[ht]at ht';exact(Value.int.inj ht').1
 have len:zs.size=ns.length:=by
  have:its.toArray.size=(dX zs).size:=by rw[hz]
  simp[dX]at this;omega
 exact⟨zs,pl',hsz,len,hns⟩
theorem j48 (hc:X.calm=a6):J5 X (.builtin "max") (λxs H Q=>∃(l:aa)(ns:List Int),xs=[.ref l]/\SqL X.K H l (ns.map V.int)/\ns≠[]/\Q (.int (vm ns)) H):=by
 rintro pins s σ H xs us Q I r ⟨l,ns,e,sq,hne,q⟩;subst e;obtain⟨u,eu,ru⟩:=vals1 r;subst eu;cases ru;obtain⟨zs,pl',hsz,len,hns⟩:=j78 I sq hne;refine max_intList (I.ok.hd hc) pl' hsz λv h' tk hv hk=>?_;obtain⟨t,rfl⟩:=iL hv;obtain⟨h1,h2⟩:=argBest_gt (fR zs) (zs.size-1);have hM:vm ns=fR zs (aQ (λi j=>decide (fR zs i>fR zs j)) (zs.size-1)):=by
  refine Eu ?_ λc hc=>?_
  .rw[hns _ nofun];rw[km,kh nofun];exact Xz _
  .obtain⟨k,hk,rfl⟩:=Ph.mp hc;have:=h2 k nofun
   rw[hns k nofun,km,kh hk]at this;exact this
 rw[hM]at q;exact⟨.int _,H,I.kept hk,⟨t,rfl⟩,q⟩
theorem j46 (hc:X.calm=a6):J5 X (.builtin "min") (λxs H Q=>∃(l:aa)(ns:List Int),xs=[.ref l]/\SqL X.K H l (ns.map V.int)/\ns≠[]/\Q (.int (Qv ns)) H):=by
 rintro pins s σ H xs us Q I r ⟨l,ns,e,sq,hne,q⟩;subst e;obtain⟨u,eu,ru⟩:=vals1 r;subst eu;cases ru;obtain⟨zs,pl',hsz,len,hns⟩:=j78 I sq hne;refine min_intList (I.ok.hd hc) pl' hsz λv h' tk hv hk=>?_;obtain⟨t,rfl⟩:=iL hv;obtain⟨h1,h2⟩:=argBest_lt (fR zs) (zs.size-1);have hM:Qv ns=fR zs (aQ (λi j=>decide (fR zs i<fR zs j)) (zs.size-1)):=by
  refine Es ?_ λc hc=>?_
  .rw[hns _ nofun];rw[km,kh nofun];exact Xz _
  .obtain⟨k,hk,rfl⟩:=Ph.mp hc;have:=h2 k nofun
   rw[hns k nofun,km,kh hk]at this;exact this
 rw[hM]at q;exact⟨.int _,H,I.kept hk,⟨t,rfl⟩,q⟩
theorem DE.max2 (ha:DT X ρ a (.int i)) (hb:DT X ρ b (.int j)) (hm:X.mg "max" = a7) (hc:X.calm=a6) (hg:Gl X "max") (hs:a9 [a,b] X.env=(a4,ay a X.env)::a9 [b] X.env) (hs2:a9 [b] X.env=(a4,ay b X.env)::a9 [] X.env)
  (hpl:(aP pos (a9 [b] X.env)).any (·.1)=a4):DE X ρ (.Call (.Name "max" p) [a,b] [] pos) (.int (if j>i then j else i)):=λσ H Q R q =>
 (v6 (j49 hc) hg hm boot_max (jd peS (jd peS jz hs2) hs) (by decide) (by decide) hs hpl).to (ha σ H _ R λv H1 g1 e1=>hb σ H1 _ (R.grow g1) λu H2 g2 e2=>⟨i,j,by rw[show v=.int i from e1,show u=.int j from e2],q _ H2 (g1.trans g2) rfl⟩)
theorem DE.maxL {ns:List Int} (ha:DT X ρ a (.lst (ns.map D.int))) (hn:ns≠[]) (hm:X.mg "max" = a7) (hc:X.calm=a6) (hg:Gl X "max") (hs:a9 [a] X.env=[(a4,ay a X.env)]):DE X ρ (.Call (.Name "max" p) [a] [] pos) (.int (vm ns)):=λσ H Q R q =>(v6 (j48 hc) hg hm boot_max (jd peS jz hs) (by decide) (by decide) hs).to (ha σ H _ R λv H1 g1 ⟨l,xs,e,sq,en⟩=>⟨l,ns,by rw[e],by rw[v8 en]at sq;exact sq,hn,q _ H1 g1 rfl⟩)
theorem DE.minL {ns:List Int} (ha:DT X ρ a (.lst (ns.map D.int))) (hn:ns≠[]) (hm:X.mg "min" = a7) (hc:X.calm=a6) (hg:Gl X "min") (hs:a9 [a] X.env=[(a4,ay a X.env)]):DE X ρ (.Call (.Name "min" p) [a] [] pos) (.int (Qv ns)):=λσ H Q R q =>(v6 (j46 hc) hg hm iO (jd peS jz hs) (by decide) (by decide) hs).to (ha σ H _ R λv H1 g1 ⟨l,xs,e,sq,en⟩=>⟨l,ns,by rw[e],by rw[v8 en]at sq;exact sq,hn,q _ H1 g1 rfl⟩)
theorem DG.three{i j k:Nat}{x y z:af}{n:Nat}{q1:aG}{d d' d'':D}(hN:X.N.Nodup)(hi:X.N[i]?=a3 x)(hj:X.N[j]?=a3 y)(hk:X.N[k]?=a3 z)(hx:Loc X.env.scope x)(hy:Loc X.env.scope y)(hz:Loc X.env.scope z)
  (fx:X.fn x=a6\/X.env.scope.names.lookup x=a3 .local) (fy:X.fn y=a6\/X.env.scope.names.lookup y=a3 .local) (fz:X.fn z=a6\/X.env.scope.names.lookup z=a3 .local) (hc:X.calm=a6) :
  DG X ρ (.Tuple [.Name x p1,.Name y p2,.Name z p3] n q1) (.tup [d,d',d'']) (((ρ.set i (.val d)).set j (.val d')).set k (.val d'')):=by
 refine⟨λb hb=>(jf rfl).subset ((jf rfl).subset ((jf rfl).subset hb)),λσ H v Q R en q=>?_⟩;obtain⟨t,xs,ev,sq,u,r,e,eu,u',r',e',eu',u'',r'',e'',eu'',er⟩:=en;subst e e' e'' ev er;refine(j2o hc (Vj (Za hN hi hx fx) (Vj (Za hN hj hy fy) (Vj (Za hN hk hz fz) Ej rfl) rfl) rfl) rfl rfl).to ⟨t,[u,u',u''],rfl,jo.seqT sq,rfl,u,[u',u''],rfl,u',[u''],rfl,u'',[],rfl,rfl,q _ ?_⟩;have R1:Rep X.K (ρ.set i (.val d)) (σ.set i (a3 u)) H:=R.set_val eu;have R2:Rep X.K ((ρ.set i (.val d)).set j (.val d')) ((σ.set i (a3 u)).set j (a3 u')) H:=R1.set_val (eu'.mono (zx λb hb=>(jf rfl).subset hb));exact R2.set_val (eu''.mono (zx λb hb=>(jf rfl).subset ((jf rfl).subset hb)))
end
section
variable{X:Cx}{ρ:Rho}{p1 p2 p3 p4 p5 p6 q1 pos:aG}
end
section
variable{X:Cx}{ρ:Rho}{p1 p2 p3 p4 p5 p6 q1 pos:aG}
end
noncomputable def ch1(c:Nat):af:=⟨#[c]⟩
noncomputable def chs(y:af):List D:=y.cps.toList.map λc=>D.str (ch1 c)
noncomputable def ascii(y:af):Bool:=y.cps.all (· < 128)
noncomputable def Its(y:af):It:=⟨λi _=>i<y.cps.size,λi H x H'=>H'=H/\∃c,y.cps[i]?=a3 c/\x=.str (ch1 c),λi _=>y.cps.size<=i⟩
theorem j4k {P:aq} {w:ax} {K:k7m} {tg:ai} (it:aa) (y:af) (t:gW):Turn P w K tg (Its y) [it] it (λi h=>h.IsStrIter it "str_ascii_iterator" y t i) where
 mem:=by simp
 obj:=λi h st b hb=>by
  have e:b=it:=by simpa using hb
  subst e;obtain⟨o,e,c,d⟩:=st;exact⟨o,e,λv z=>by rw[d]at z;cases z⟩
 keep:=λi h h' st k=>let ⟨o,e,r⟩:=st;⟨o,k it (by simp) o e,r⟩
 item:=by intro X hP hw hK hc i pins s σ H E I hf st hg;subst hP hw hK;obtain⟨f0,f1,f2,f3,f4,f5⟩:=hf it (by simp);have W:=Walks.strAscii (prog:=X.prog) (w:=X.w) (I.ok.hd hc) it y t;refine W.item i s _ _ hg st λv h' tk hv st' kk=>?_;obtain⟨c,u,hcu,rfl⟩:=hv;have I1:Inv X pins σ H { s with heap:=h',toks:=tk }:=I.turned (λb o hb e=>kk b o (by simpa using hb) e) f0 f1 f3 f4 f5;obtain⟨o,e,oc,d⟩:=id st';exact⟨_,rfl,Dm (s:={ s with heap:=h',toks:=tk }) e oc d (by decide) ⟨.str (ch1 c),H,I1,⟨u,rfl⟩,⟨rfl,c,hcu,rfl⟩,st',λb hb=>(hf b hb).1⟩⟩
 done:=by intro X hP hw hK hc i pins s σ H E I hf st hg;subst hP hw hK;obtain⟨f0,f1,f2,f3,f4,f5⟩:=hf it (by simp);exact wpAny_pyNext_ascii_end (I.ok.hd hc) st (by have:y.cps.size<=i:=hg;simp;omega) λh' eb=>⟨rfl,I.turned (t':=s.toks) (λb o hb e=>eb b o hb e) f0 f1 f3 f4 f5⟩
 self:=λ_ _ _ _ _ st h=>wpAny_pyIter_striter_ascii st h
section
variable{X:Cx}{ρ:Rho}{a b c e tg it:ai}{y z:af}{i j k:Int}{p p2 pos:aG}
theorem j5r{K:k7m}{F:Hp}(y:af):Yi K F (Its y) (chs y):=λi H A g hA=>by
 have hl:(chs y).length=y.cps.size:=by unfold chs;rw[kj,cA]
 rw[hl];refine⟨λh=>h,λh=>h,λx H' ⟨e,c,hc,ex⟩=>?_⟩;subst e ex;refine⟨j4.refl _,λd hd=>?_⟩;unfold chs at hd;rw[xx,gd,hc]at hd;cases hd;rfl
theorem DI.str(h:DT X ρ it (.str y))(ha:ascii y=a6):DI X ρ tg it (chs y):=λσ H R r q pins s I=>by
 refine thn (h σ H (λv H1=>v=.str y/\j4 H H1) r (λv H1 g e=>⟨e,g⟩) pins s I) λv s1 ⟨x,H1,I1,r1,ex,g1⟩=>?_;subst ex;obtain⟨t,rfl⟩:=(show ∃t,v=bA y t from r1)
 refine wpAny_pyIter_ascii ha ?_;refine⟨s1.heap.objs.size,[s1.heap.objs.size],_,_,H1,rfl,I1.kept (t':=s1.toks) λb o e=>xg _ e,j4k _ y t,⟨_,X5 _ rfl,rfl,rfl⟩,λb hb=>?_,q _ H1 g1 (j5r y)⟩;have e:b=s1.heap.objs.size:=by simpa using hb
 subst e;exact I1.fpOk (X3 _) (I1.hok.fresh (X3 _))
noncomputable def inS(y z:af):Bool:=!(eO z y 0 z.length 1).isEmpty
theorem Nf:OpR X (aI .Gt) (λx y H Q=>∃i j,x=.str i/\y=.str j/\Q (.bl (decide (j.cps.toList<i.cps.toList))) H):=by intro pins s σ H x y v u Q I rx ry h;obtain⟨i,j,rfl,rfl,q⟩:=h;obtain⟨t,rfl⟩:=rx;obtain⟨t',rfl⟩:=ry;exact P.gt_str (jn I q rfl)
theorem DE.ltS(ha:DT X ρ a (.str y))(hb:DT X ρ b (.str z)):DE X ρ (.Compare a [.Lt] [b] pos) (.bl (decide (y.cps.toList<z.cps.toList))):=λσ H Q R q =>(J7 N8 peS peS (qz _)).to (ha σ H _ R λv H1 g1 e1=>hb σ H1 _ (R.grow g1) λu H2 g2 e2=>⟨y,z,e1,e2,q _ H2 (g1.trans g2) rfl⟩)
theorem DB.ltS(ha:DT X ρ a (.str y))(hb:DT X ρ b (.str z)):DB X ρ (.Compare a [.Lt] [b] pos) (decide (y.cps.toList<z.cps.toList)):=λσ H Q R q =>(Jl N8 peS peS (qz _)).to (ha σ H _ R λv H1 g1 e1=>hb σ H1 _ (R.grow g1) λu H2 g2 e2=>⟨y,z,e1,e2,_,rfl,q H2 (g1.trans g2)⟩)
theorem DE.gtS(ha:DT X ρ a (.str y))(hb:DT X ρ b (.str z)):DE X ρ (.Compare a [.Gt] [b] pos) (.bl (decide (z.cps.toList<y.cps.toList))):=λσ H Q R q =>(J7 Nf peS peS (qz _)).to (ha σ H _ R λv H1 g1 e1=>hb σ H1 _ (R.grow g1) λu H2 g2 e2=>⟨y,z,e1,e2,q _ H2 (g1.trans g2) rfl⟩)
theorem DB.gtS(ha:DT X ρ a (.str y))(hb:DT X ρ b (.str z)):DB X ρ (.Compare a [.Gt] [b] pos) (decide (z.cps.toList<y.cps.toList)):=λσ H Q R q =>(Jl Nf peS peS (qz _)).to (ha σ H _ R λv H1 g1 e1=>hb σ H1 _ (R.grow g1) λu H2 g2 e2=>⟨y,z,e1,e2,_,rfl,q H2 (g1.trans g2)⟩)
theorem DE.inS(ha:DT X ρ a (.str y))(hb:DT X ρ b (.str z))(hm:aE .In b=a4):DE X ρ (.Compare a [.In] [b] pos) (.bl (inS y z)):=λσ H Q R q =>(J7 Nb peS peS hm).to (ha σ H _ R λv H1 g1 e1=>hb σ H1 _ (R.grow g1) λu H2 g2 e2=>⟨y,z,e1,e2,q _ H2 (g1.trans g2) rfl⟩)
theorem DB.inS(ha:DT X ρ a (.str y))(hb:DT X ρ b (.str z))(hm:aE .In b=a4):DB X ρ (.Compare a [.In] [b] pos) (inS y z):=λσ H Q R q =>(Jl Nb peS peS hm).to (ha σ H _ R λv H1 g1 e1=>hb σ H1 _ (R.grow g1) λu H2 g2 e2=>⟨y,z,e1,e2,_,rfl,q H2 (g1.trans g2)⟩)
theorem mulOk_of(h1:1<=k/\k<=1000)(h2:y.length<=1000):MulOk y k:=by
 refine⟨?_,λ_ _=>?_,λ_ _=>?_⟩
 .simp;omega
 .have:(1000:Int)<=(2^63-1)/k:=Int.le_ediv_of_mul_le nofun nofun
  omega
 .have hk:k.toNat<=1000:=by omega
  have:y.length*k.toNat<=1000000:=Nat.mul_le_mul h2 hk;unfold cc;rw[iJ];simp;omega
theorem j15:OpR X (aV .Mult) (λx y H Q=>∃i k,x=.str i/\y=.int k/\MulOk i k/\Q (.str (ib i k)) H):=by intro pins s σ H x y v u Q I rx ry h;obtain⟨i,k,rfl,rfl,hm,q⟩:=h;obtain⟨t,rfl⟩:=rx;obtain⟨t',rfl⟩:=ry;exact SB.mul hm λt' tk=>⟨.str _,H,I.un (t':=tk) Un.refl I.hok,⟨_,rfl⟩,q⟩
theorem DE.mulS(ha:DT X ρ a (.str y))(hb:DT X ρ b (.int k))(h1:1<=k/\k<=1000)(h2:y.length<=1000):DE X ρ (.BinOp a .Mult b pos) (.str (ib y k)):=λσ H Q R q =>(Y0 j15 peS peS).to (ha σ H _ R λv H1 g1 e1=>hb σ H1 _ (R.grow g1) λu H2 g2 e2=>⟨y,k,e1,e2,mulOk_of h1 h2,q _ H2 (g1.trans g2) rfl⟩)
theorem DE.chn(ha:DT X ρ a (.int i))(hb:DT X ρ b (.int j))(hc:DT X ρ c (.int k))(hm:ke [.Lt,.Lt] [b,c]=a4):DE X ρ (.Compare a [.Lt,.Lt] [b,c] pos) (.bl (decide (i<j)&&decide (j<k))):=λσ H Q R q =>
 (j5a Dk Dk peS peS peS hm).to (ha σ H _ R λv H1 g1 e1=>hb σ H1 _ (R.grow g1) λu H2 g2 e2=>⟨i,j,e1,e2,_,rfl,by
  by_cases h:i<j
  .rw[decide_eq_true h,if_pos rfl]
   exact hc σ H2 _ (R.grow (g1.trans g2)) λw H3 g3 e3=>⟨j,k,e2,e3,q _ H3 ((g1.trans g2).trans g3) (by rw[decide_eq_true h,fU];rfl)⟩
  .rw[decide_eq_false h,if_neg xj]
   exact q _ H2 (g1.trans g2) (by rw[decide_eq_false h,fB];rfl)⟩)
end
end L2
end
section
namespace L2
noncomputable def Qn(t:Int):List Int:=if t=2 then[0,1] else[t]
noncomputable def step(acc:List (List Int))(f:List Int):List (List Int):=acc.flatMap λa=>f.map λx=>a++[x]
noncomputable def qi(fs:List (List Int)):List (List Int):=fs.foldl step [[]]
noncomputable def zc:List (List Int)->List (List Int)
 |[]=>[[]]
 |f::fs=>f.flatMap λx=>(zc fs).map (x :: ·)
theorem O1:∀(fs:List (List Int)) (acc:List (List Int)),fs.foldl step acc=acc.flatMap λa=>(zc fs).map (a ++ ·)
 |[],acc=>by simp[zc]
 |f::fs,acc=>by
  rw[T7,O1 fs,step,List.flatMap_assoc];congr 1
  funext a
  rw[zc,List.map_flatMap,List.flatMap_map];congr 1
  funext x
  rw[Xa];congr 1
  funext r
  simp
theorem v9(fs:List (List Int)):qi fs=zc fs:=by rw[qi,O1];simp
noncomputable def Zk:Nat->List (List Int)
 |0=>[[]]
 |m+1=>(Zk m).map (0 :: ·)++(Zk m).map (1 :: ·)
theorem Lb:∀m,(Zk m).length=2^m
 |0=>rfl
 |m+1=>by rw[Zk,Xc,kj,kj,Lb m,Px];omega
theorem U6{b:Int}(hb:0<b)(n c:Int):∀{i m:Nat},i<=m->j0 b i (n+b^m*c)=j0 b i n
 |0,m,_=>rfl
 |i+1,m,h=>by
  rw[j0,j0,U6 hb n c nofun];congr 1;obtain⟨k,rfl⟩:∃k,m=i+(k+1):=⟨m-i-1,by omega⟩
  have hp:b^i≠0:=eN (bV hb);rw[Int.pow_add,jS,ck _ _ hp,gw,dn (b^k) b,jS,Int.add_mul_emod_self_left]
theorem Ld:∀m:Nat,(ar (2^m)).map (λn=>j0 2 m ((n:Nat):Int))=Zk m
 |0=>rfl
 |m+1=>by
  have e:2^(m+1)=2^m+2^m:=by rw[Px];omega
  rw[e,fv,Xd,Zk,<-Ld m,Xa,Xa,Xa];have pc:((2^m:Nat):Int)=(2:Int)^m:=by simp
  congr 1
  .apply Xy;intro n hn;have hn':n<2^m:=Xj.mp hn;show j0 2 (m+1) (n:Int)=0::j0 2 m (n:Int);rw[j0];congr 1;have h0:(n:Int)/2^m=0:=t8 nofun (by rw[<-pc];omega)
   rw[h0];rfl
  .apply Xy;intro n hn;have hn':n<2^m:=Xj.mp hn;show j0 2 (m+1) ((2^m+n:Nat):Int)=1::j0 2 m (n:Int);have e1:((2^m+n:Nat):Int)=(n:Int)+2^m*1:=by rw[cC,pc,kM,gy]
   rw[e1,j0,U6 (by decide) _ _ (X3 m)];congr 1;have hp:(2:Int)^m≠0:=eN (bV (by decide));have h0:(n:Int)/2^m=0:=t8 nofun (by rw[<-pc];omega)
   rw[ck _ _ hp,h0];rfl
noncomputable def fits:List Int->List Int->Bool
 |t::ts,x::xs=>(t==2 || t==x)&&fits ts xs
 |_,_=>a6
theorem Uv:∀{p:List Int},(∀t∈p,0<=t/\t<3)->(Zk p.length).filter (fits p)=zc (p.map Qn)
 |[],_=>rfl
 |t::ts,h=>by
  have ih:=Uv (p:=ts) λu hu=>h u (xf _ hu);rw[xn,Zk,Th,X4,zc,<-ih];have key:∀x:Int,((Zk ts.length).map (x :: ·)).filter (fits (t::ts))=if (t==2 || t==x)=a6 then((Zk ts.length).filter (fits ts)).map (x :: ·) else[]:=λx=>by
   rw[iS];by_cases c:(t==2 || t==x)=a6
   .rw[if_pos c];congr 1;apply List.filter_congr;intro r _;show((t==2 || t==x)&&fits ts r)=fits ts r;rw[c,fU]
   .rw[if_neg c];have:(fits (t::ts) ∘ λr=>x::r)=λ_=>a4:=by
     funext r
     show((t==2 || t==x)&&fits ts r)=a4;rw[Bool.eq_false_iff.mpr c,fB]
    rw[this];simp
  rw[key 0,key 1];have ht:=h t (xm ..);have:t=0\/t=1\/t=2:=by omega
  rcases this with e|e|e<;>subst e<;>simp[Qn]
theorem Vh:∀p:List Int,(zc (p.map Qn)).length=2^(p.countP λt=>t==2)
 |[]=>rfl
 |t::ts=>by
  have ih:=Vh ts;rw[X4,zc,Xq];by_cases c:t=2
  .subst c;simp[Qn,ih,Px];omega
  .have e1:Qn t=[t]:=if_neg c;have e2:(t==2)=a4:=by simpa using c
   rw[e1,e2];simp[ih]
end L2
end
section
namespace L2
open PySem
inductive Sv where
 |un
 |val (d:D)
 |own (l:List D)
 |exc (x:af)
noncomputable abbrev En:=List Sv
set_option genInjectivity true in
inductive Rk where
 |e (d:D)
 |o (l:List D)
 |w (l:List D)
 |t (d:D)
noncomputable def Rk.d:Rk->D
 |.e d=>d
 |.o l=>.lst l
 |.w l=>.lst l
 |.t d=>d
noncomputable def Rk.st:Rk->Option D
 |.e d=>a3 d
 |.o l=>a3 (.lst l)
 |.w l=>a7
 |.t d=>if Jy d=a6 then a3 d else a7
noncomputable def Rk.sq:Rk->Option (Bool×List D)
 |.e (.lst l)=>a3 (a6,l)
 |.e (.tup l)=>a3 (a4,l)
 |.o l=>a3 (a6,l)
 |.w l=>a3 (a6,l)
 |_=>a7
noncomputable def Rk.lw:Rk->Option (List D)
 |.o l=>a3 l
 |.w l=>a3 l
 |_=>a7
inductive Rc where
 |val (d:D)
 |fresh (l:List D)
 |err (x:af)
 |lval (d:D)
 |no
noncomputable def Rc.rk:Rc->Option Rk
 |.val d=>a3 (.e d)
 |.fresh l=>a3 (.o l)
 |_=>a7
inductive Bop where
 |add|sub|mul|fdiv|mod|pow|shl|shr|band|bxor
inductive Cop where
 |lt|le|gt|ge|eq|ne|isin|notin
inductive Bf where
 |len|min|max|all|tuple|list|sum|int|any|sorted
inductive Mf where
 |count
inductive Ex where
 |lit (d:D)
 |var (i:Nat)
 |glob (x:af)
 |bin (op:Bop) (a b:Ex)
 |cmp (op:Cop) (a b:Ex)
 |isN (a:Ex)
 |and (a b:Ex)
 |or (a b:Ex)
 |not (a:Ex)
 |ite (c a b:Ex)
 |nil
 |cons (a b:Ex)
 |tup (es:Ex)
 |lst (es:Ex)
 |ix (a b:Ex)
 |sl (a lo hi:Ex)
 |call (f:af) (es:Ex)
 |blt (f:Bf) (es:Ex)
 |meth (m:Mf) (a es:Ex)
 |isi (a:Ex) (ts:List String)
 |comp (is:List Nat) (elt it cond:Ex)
 |seq (a:Ex)
 |range (es:Ex)
 |join (sep:af) (a:Ex)
 |enum (a:Ex)
 |lrng (a:Ex)
 |dzip (a b:Ex)
 |callD (f:af) (es:Ex)
 |chn (a b c:Ex)
 |callK (f:af) (es a:Ex)
 |dix (a b:Ex)
 |dnil
 |rpr (a:Ex)
 |upr (a:Ex)
 |din (a b:Ex)
 |items (a:Ex)
 |callV (i:Nat) (es:Ex)
 |dget (a b:Ex)
 |dvals (a:Ex)
 |minT (a:Ex)
set_option genInjectivity true in
inductive W where
 |v (r:Rk)
 |a (rs:List Rk)
 |i (ds:List D)
noncomputable def jl(n:Nat):Bool:=decide (n<=aj)
noncomputable def binI:Bop->Int->Int->Option Int
 |.add,i,j=>a3 (i+j)
 |.sub,i,j=>a3 (i-j)
 |.mul,i,j=>if (-(2^64)<i/\i<2^64)\/(-(2^64)<j/\j<2^64)then a3 (i*j)else a7
 |.fdiv,i,j=>if 0<j/\j<18446744073709551616 then a3 (i/j)else a7
 |.mod,i,j=>if 0<j then a3 (i%j)else a7
 |.pow,i,j=>if 0<=j/\j<=1000000/\i.natAbs<2^64 then a3 (i^j.toNat)else a7
 |.shl,i,j=>if 0<=j/\j<=1000000/\i.natAbs<2^64 then a3 (i*2^j.toNat)else a7
 |.shr,i,j=>if 0<=j then a3 (i/2^j.toNat)else a7
 |.band,i,j=>a3 (Builtin.bitAnd i j)
 |.bxor,i,j=>a3 (Builtin.bitXor i j)
noncomputable def Zf(op:Bop)(a b:Rk):Option Rk :=
 match a.d,b.d with
 |.int i,.int j=>(binI op i j).map λk=>.e (.int k)
 |.str y,.str z=>match op with
  |.add=>if jl (y.length+z.length)=a6 then a3 (.e (.str (y++z)))else a7
  |_=>a7
 |.str y,.int k=>match op with
  |.mul=>if (1<=k/\k<=1000)/\y.length<=1000 then a3 (.e (.str (ib y k)))else a7
  |_=>a7
 |_,_=>match op,a.sq,b.sq,b.d with
  |.add,a3 (a6,l),a3 (a6,m),_=>if jl (l.length+m.length)=a6 then a3 (.o (l++m))else a7
  |.add,a3 (a4,l),a3 (a4,m),_=>if jl (l.length+m.length)=a6 then a3 (.e (.tup (l++m)))else a7
  |.mul,a3 (a4,l),_,.int k=>if 1<=k/\k<2^63/\l.isEmpty=a4/\jl (l.length*k.toNat)=a6 then a3 (.e (.tup (ak k.toNat l).flatten))else a7
  |.mul,_,_,.int k=>match a.lw with
   |some l=>if -(2^63)<=k/\k<2^63/\jl (l.length*k.toNat)=a6 then a3 (.o (ak k.toNat l).flatten)else a7
   |none=>a7
  |_,_,_,_=>a7
noncomputable def cmpI:Cop->Int->Int->Option Bool
 |.lt,i,j=>a3 (decide (i<j))
 |.le,i,j=>a3 (decide (i<=j))
 |.gt,i,j=>a3 (decide (j<i))
 |.ge,i,j=>a3 (decide (j<=i))
 |.eq,i,j=>a3 (decide (i=j))
 |.ne,i,j=>a3 (!decide (i=j))
 |_,_,_=>a7
noncomputable def D.sqv:D->Option (Bool×List D)
 |.lst l=>a3 (a6,l)
 |.tup l=>a3 (a4,l)
 |_=>a7
noncomputable def Q8(op:Cop)(a b:D):Option Bool :=
 match op,a,b with
 |op,.int i,.int j=>cmpI op i j
 |.eq,a,b=>if a.dep<=90/\b.dep<=90 then a3 (deq a b)else a7
 |.ne,.bl a,.bl b=>a3 (a != b)
 |.ne,.str a,.str b=>a3 (!decide (a=b))
 |.ne,.non,.non=>a3 a4
 |.ne,.lst l,.lst m=>if D.depL l<=90/\D.depL m<=90 then a3 (!zp l m)else a7
 |.ne,.tup l,.tup m=>if D.depL l<=90/\D.depL m<=90 then a3 (!zp l m)else a7
 |.isin,.str a,.str b=>a3 (inS a b)
 |.lt,.str a,.str b=>a3 (decide (a.cps.toList<b.cps.toList))
 |.gt,.str a,.str b=>a3 (decide (b.cps.toList<a.cps.toList))
 |.isin,a,b=>match b.sqv with
  |some (_,l)=>if D.depL l<=90/\a.dep<=90 then a3 (l.any λe=>deq e a)else a7
  |none=>a7
 |.notin,a,b=>match b.sqv with
  |some (_,l)=>if D.depL l<=90/\a.dep<=90 then a3 (!l.any λe=>deq e a)else a7
  |none=>a7
 |_,_,_=>a7
noncomputable def boolsOf:List D->Option (List Bool)
 |[]=>a3 []
 |.bl b::r=>(boolsOf r).map (b :: ·)
 |_::_=>a7
noncomputable def intsOf:List D->Option (List Int)
 |[]=>a3 []
 |.int b::r=>(intsOf r).map (b :: ·)
 |_::_=>a7
noncomputable def strsOf:List D->Option (List af)
 |[]=>a3 []
 |.str b::r=>(strsOf r).map (b :: ·)
 |_::_=>a7
noncomputable def Z1:Bf->List Rk->Option Rk
 |.len,[a]=>match a.d with
  |.lst l=>a3 (.e (.int l.length))
  |.tup l=>a3 (.e (.int l.length))
  |.str y=>if jl y.length=a6 then a3 (.e (.int y.length))else a7
  |_=>a7
 |.min,[a,b]=>match a.d,b.d with
  |.int i,.int j=>a3 (.e (.int (if j<i then j else i)))
  |_,_=>a7
 |.max,[a,b]=>match a.d,b.d with
  |.int i,.int j=>a3 (.e (.int (if j>i then j else i)))
  |_,_=>a7
 |.max,[a]=>match a.d with
  |.lst l=>match intsOf l with
   |some ns=>if ns.isEmpty=a4 then a3 (.e (.int (vm ns)))else a7
   |none=>a7
  |_=>a7
 |.min,[a]=>match a.d with
  |.lst l=>match intsOf l with
   |some ns=>if ns.isEmpty=a4 then a3 (.e (.int (Qv ns)))else a7
   |none=>a7
  |_=>a7
 |.all,[a]=>match a.d with
  |.lst l=>(boolsOf l).map λbs=>.e (.bl (bs.all id))
  |_=>a7
 |.any,[a]=>match a.d with
  |.lst l=>(boolsOf l).map λbs=>.e (.bl (bs.any id))
  |_=>a7
 |.tuple,[a]=>match a.sq with
  |some (_,l)=>a3 (.e (.tup l))
  |none=>a7
 |.list,[a]=>match a.sq with
  |some (_,l)=>a3 (.o l)
  |none=>a7
 |.sum,[a]=>match a.d with
  |.lst l=>(intsOf l).map λns=>.e (.int ns.sum)
  |.tup l=>(intsOf l).map λns=>.e (.int ns.sum)
  |_=>a7
 |.int,[a]=>match a.d with
  |.bl k=>a3 (.e (.int (if k then 1 else 0)))
  |_=>a7
 |_,_=>a7
noncomputable def j1b:Mf->Rk->List Rk->Option Rk
 |.count,a,[b]=>match a.d with
  |.tup l=>if D.depL l<=90/\b.d.dep<=90 then a3 (.e (.int (l.countP λe=>deq e b.d)))else a7
  |.lst l=>if D.depL l<=90/\b.d.dep<=90 then a3 (.e (.int (l.countP λe=>deq e b.d)))else a7
  |_=>a7
 |_,_,_=>a7
noncomputable def qw(t c:String):Option Bool :=
 if t = "function" then a7 else
 if c = "int" then a3 (t == "int" || t == "bool") else
 if c = "bool" then a3 (t == "bool") else
 if c = "str" then a3 (t == "str") else
 if c = "list" then a3 (t == "list") else
 if c = "tuple" then a3 (t == "tuple")else a7
noncomputable def jy(d:D):List String->Option Bool
 |[]=>a3 a4
 |c::cs=>match qw d.ty c,jy d cs with
  |some a,a3 b=>a3 (a || b)
  |_,_=>a7
noncomputable def zf:List Nat->D->En->Option En
 |[i],d,ρ=>a3 (ρ.set i (.val d))
 |[i,j],d,ρ=>match d with
  |.tup [a,b]=>a3 ((ρ.set i (.val a)).set j (.val b))
  |_=>a7
 |[i,j,k],d,ρ=>match d with
  |.tup [a,.tup [b,c]]=>a3 (((ρ.set i (.val a)).set j (.val b)).set k (.val c))
  |_=>a7
 |[i,j,k,_],d,ρ=>match d with
  |.tup [a,b,c]=>a3 (((ρ.set i (.val a)).set j (.val b)).set k (.val c))
  |_=>a7
 |_,_,_=>a7
noncomputable def j1k(is:List Nat)(ρ:En):Bool:=is.all λi=>match ρ[i]? with
 |some .un=>a6
 |_=>a4
noncomputable def Jj(f:D->Option (Option D)):List D->Option (List D)
 |[]=>a3 []
 |d::ds=>match f d,Jj f ds with
  |some (a3 x),a3 xs=>a3 (x::xs)
  |some a7,a3 xs=>a3 xs
  |_,_=>a7
noncomputable def zq:List Rk->Option (List D)
 |[]=>a3 []
 |r::rs=>match r.st,zq rs with
  |some d,a3 ds=>a3 (d::ds)
  |_,_=>a7
noncomputable def W.one:W->Option Rk
 |.v r=>a3 r
 |_=>a7
noncomputable def W.args:W->Option (List Rk)
 |.a rs=>a3 rs
 |_=>a7
noncomputable def W.it:W->Option (List D)
 |.i ds=>a3 ds
 |_=>a7
noncomputable def Z0:Option W->Option (Option Int)
 |some (.a [])=>a3 a7
 |some (.a [r])=>match r.d with
  |.int i=>a3 (a3 i)
  |_=>a7
 |_=>a7
noncomputable def truth:Option W->Option Bool
 |some (.v r)=>match r.d with
  |.bl k=>a3 k
  |_=>a7
 |_=>a7
noncomputable def j69:Ex->Option Nat
 |.seq (.var i)=>a3 i
 |.enum (.var i)=>a3 i
 |_=>a7
noncomputable def frz(t:Ex)(ρ:En):En:=match j69 t with
 |some i=>match ρ[i]? with
  |some (.own l)=>ρ.set i (.val (.lst l))
  |_=>ρ
 |none=>ρ
noncomputable def J2(t:Ex)(ρ:En):Bool:=match j69 t with
 |some i=>match ρ[i]? with
  |some (.own _)=>a6
  |_=>a4
 |none=>a4
noncomputable def j7c:D->Option af
 |.int i=>if -18446744073709551616<i/\i<18446744073709551616 then a3 (cF (toString i))else a7
 |.str y=>if y.length<=2000 then a3 y else a7
 |_=>a7
noncomputable def Ed:List Rk->Option (List af)
 |[]=>a3 []
 |r::rs=>match j7c r.d,Ed rs with
  |some y,a3 ys=>a3 (y::ys)
  |_,_=>a7
noncomputable def bang(x:af):af:=("!":af)++x
noncomputable def qm(f:af):af:=("??":af)++f
noncomputable def tupI:D->Option (List Int)
 |.tup l=>intsOf l
 |_=>a7
noncomputable def j1a(kf:D->Option Int):D->Int->List D->Option D
 |b,_,[]=>a3 b
 |b,kb,d::ds=>match kf d with
  |some k=>if k<kb then j1a kf d k ds else j1a kf b kb ds
  |none=>a7
noncomputable def W7:List D->Option (List (List Int))
 |[]=>a3 []
 |d::ds=>match tupI d,W7 ds with
  |some k,a3 ks=>a3 (k::ks)
  |_,_=>a7
noncomputable def prI:D->Option (Int×List Int)
 |.tup [.int a,d]=>(tupI d).map λk=>(a,k)
 |_=>a7
noncomputable def Ow:List D->Option (List (Int×List Int))
 |[]=>a3 []
 |d::ds=>match prI d,Ow ds with
  |some k,a3 ks=>a3 (k::ks)
  |_,_=>a7
noncomputable def Rc.lv:Rc->Option W
 |.lval d=>a3 (.v (.e d))
 |_=>a7
noncomputable def jfx(w:Option W):Option W:=match w with
 |some (.v x)=>match x.d with
  |.str y=>if y.length<=1000 then a3 (.v (.e (.str (PySem.Txt.upper y))))else a7
  |_=>a7
 |_=>a7
noncomputable def Dq(s:Option Sv):Option W:=match s with
 |some (.val d)=>a3 (.v (.e d))
 |some (.own l)=>a3 (.v (.w l))
 |_=>a7
noncomputable def blW(i:Option Bool):Option W:=i.map λk=>.v (.e (.bl k))
noncomputable def rkW(r:Option Rk):Option W:=r.map .v
noncomputable def J1(op:Bop)(a b:Option W):Option W:=match a,b with
 |some (.v x),a3 (.v y)=>rkW (Zf op x y)
 |_,_=>a7
noncomputable def Kh(op:Cop)(a b:Option W):Option W:=match a,b with
 |some (.v x),a3 (.v y)=>blW (Q8 op x.d y.d)
 |_,_=>a7
noncomputable def consW(a b:Option W):Option W:=match a,b with
 |some (.v x),a3 (.a xs)=>a3 (.a (x::xs))
 |_,_=>a7
noncomputable def Zz(a:Option W):Option W:=match a with
 |some (.a rs)=>match zq rs with
  |some ds=>if jl ds.length=a6 then a3 (.v (.e (.tup ds)))else a7
  |none=>a7
 |_=>a7
noncomputable def Vl(a:Option W):Option W:=match a with
 |some (.a rs)=>match zq rs with
  |some ds=>if jl ds.length=a6 then a3 (.v (.o ds))else a7
  |none=>a7
 |_=>a7
noncomputable def ixW(a b:Option W):Option W:=match a,b with
 |some (.v x),a3 (.v y)=>match x.sq,y.d with
  |some (_,l),.int i=>(atI l i).map λd=>.v (.e d)
  |none,.int i=>match x.d with
   |.str z=>if jl z.length=a6 then(atI z.cps.toList i).map λc=>.v (.e (.str ⟨#[c]⟩))else a7
   |_=>a7
  |_,_=>a7
 |_,_=>a7
noncomputable def Mt(sep:af)(a:Option W):Option W:=match a with
 |some (.v x)=>match x.d with
  |.lst l=>match strsOf l with
   |some ts=>if eB sep ts=a6 then a3 (.v (.e (.str (dB sep ts))))else a7
   |none=>a7
  |_=>a7
 |_=>a7
noncomputable def jf1(a:Option W):Option W:=match a with
 |some (.v y)=>match y.d with
  |.int n=>if 0<=n/\n<=1000000 then a3 (.v (.o ((ar n.toNat).map λ(i:Nat)=>D.int (i:Int))))else a7
  |_=>a7
 |_=>a7
noncomputable def Wd(a:Option W):Option W:=match a with
 |some (.v x)=>match x.st with
  |some (.lst l)=>a3 (.i (vz l))
  |some (.tup l)=>a3 (.i (vz l))
  |_=>a7
 |_=>a7
noncomputable def Qe(Γ:af->List D->Rc)(f:af)(a:Option W):Option W:=match a with
 |some (.a rs)=>match zq rs with
  |some ds=>rkW (Γ f ds).rk
  |none=>match Γ f (rs.map Rk.d) with
   |.val d=>a3 (.v (.t d))
   |_=>a7
 |_=>a7
noncomputable def vd(f:Bf)(a:Option W):Option W:=match a with
 |some (.a rs)=>rkW (Z1 f rs)
 |_=>a7
noncomputable def Mp(m:Mf)(a b:Option W):Option W:=match a,b with
 |some (.v x),a3 (.a rs)=>rkW (j1b m x rs)
 |_,_=>a7
noncomputable def Lz(a:Option W)(ts:List String):Option W:=match a with
 |some (.v x)=>blW (jy x.d ts)
 |_=>a7
noncomputable def Ot(a:Option W):Option W:=match a with
 |some (.v (.e (.lst l)))=>a3 (.i l)
 |some (.v (.e (.tup l)))=>a3 (.i l)
 |some (.v (.o l))=>a3 (.i l)
 |some (.v (.e (.str y)))=>if ascii y=a6 then a3 (.i (chs y))else a7
 |_=>a7
noncomputable def Mh(a:Option W):Option W:=match a with
 |some (.a [x])=>match x.d with
  |.int n=>if -(2^62)<=n/\n<2^62 then a3 (.i (upto 0 n.toNat))else a7
  |_=>a7
 |some (.a [x,y])=>match x.d,y.d with
  |.int m,.int n=>if -(2^62)<=m/\m<2^62/\-(2^62)<=n/\n<2^62 then a3 (.i (upto m (n-m).toNat))else a7
  |_,_=>a7
 |_=>a7
noncomputable def jgt(a b:Option W):Option W:=match a,b with
 |some (.v x),a3 (.v y)=>match x.d,y.d with
  |.tup l,.dct ks _=>(intsOf l).map λk=>.v (.e (.bl (ks.contains k)))
  |_,_=>a7
 |_,_=>a7
noncomputable def jcl(a:Option W):Option W:=match a with
 |some (.v (.e (.dct ks ds)))=>a3 (.i (jcm ks ds))
 |_=>a7
noncomputable def jfo(a b:Option W):Option W:=match a,b with
 |some (.v x),a3 (.v y)=>match x.st.bind D.sqv,y.st.bind D.sqv with
  |some (_,l),a3 (_,m)=>match strsOf l,intsOf m with
   |some ks,a3 ns=>if ks.Nodup/\ks.length=ns.length/\jl ks.length=a6 then a3 (.v (.e (.sct (ks.zip ns))))else a7
   |_,_=>a7
  |_,_=>a7
 |_,_=>a7
noncomputable def j1t(a b c:Option W):Option W:=match a,b,c with
 |some (.v x),a3 (.v y),a3 (.v z)=>match x.d,y.d,z.d with
  |.int i,.int j,.int k=>a3 (.v (.e (.bl (decide (i<j)&&decide (j<k)))))
  |_,_,_=>a7
 |_,_,_=>a7
noncomputable def Oa(Γ:af->List D->Rc)(s:Option Sv)(a:Option W):Option W:=match s,a with
 |some (.val (.fn x cs)),a3 (.a rs)=>match zq rs with
  |some ds=>if Jo ds=a6 then(Γ (jr x) (cs++ds)).lv else a7
  |none=>a7
 |_,_=>a7
noncomputable def O3(a b:Option W):Option W:=match a,b with
 |some (.v (.e (.dct ks ds))),a3 (.v y)=>match tupI y.d with
  |some k=>(Qd ks ds k).map λd=>.v (.e d)
  |none=>a7
 |_,_=>a7
noncomputable def O2(a:Option W):Option W:=match a with
 |some (.v (.e (.dct _ ds)))=>a3 (.v (.e (.tup ds)))
 |_=>a7
noncomputable def Mm(a:Option W):Option W:=match a with
 |some (.v x)=>match x.d with
  |.lst l=>match W7 l with
   |some ks=>(ks[aQ (Mr ks) (ks.length-1)]?).map λk=>.v (.t (.tup (k.map D.int)))
   |none=>match Ow l with
    |some ps=>(ps[aQ (Ql ps) (ps.length-1)]?).map λk=>.v (.t (pairD k))
    |none=>a7
  |_=>a7
 |_=>a7
noncomputable def jgs(a b:Option W):Option W:=match a,b with
 |some (.v x),a3 (.v y)=>match x.d,y.d with
  |.sct kvs,.str k=>(jgr kvs k).map λn=>.v (.e (.int n))
  |_,_=>a7
 |_,_=>a7
noncomputable def ev(Γ:af->List D->Rc)(G:af->Option D):Ex->En->Option W
 |.lit d,_=>a3 (.v (.e d))
 |.var i,ρ=>Dq ρ[i]?
 |.glob x,_=>(G x).map λd=>.v (.e d)
 |.bin op a b,ρ=>J1 op (ev Γ G a ρ) (ev Γ G b ρ)
 |.cmp op a b,ρ=>Kh op (ev Γ G a ρ) (ev Γ G b ρ)
 |.isN a,ρ=>match ev Γ G a ρ with
  |some (.v x)=>a3 (.v (.e (.bl x.d.isNon)))
  |_=>a7
 |.and a b,ρ=>match truth (ev Γ G a ρ) with
  |some a4=>a3 (.v (.e (.bl a4)))
  |some a6=>(truth (ev Γ G b ρ)).map λk=>.v (.e (.bl k))
  |none=>a7
 |.or a b,ρ=>match truth (ev Γ G a ρ) with
  |some a6=>a3 (.v (.e (.bl a6)))
  |some a4=>(truth (ev Γ G b ρ)).map λk=>.v (.e (.bl k))
  |none=>a7
 |.not a,ρ=>(truth (ev Γ G a ρ)).map λk=>.v (.e (.bl (!k)))
 |.ite c a b,ρ=>match truth (ev Γ G c ρ) with
  |some a6=>match ev Γ G a ρ with
   |some (.v x)=>x.st.map λd=>.v (.e d)
   |_=>a7
  |some a4=>match ev Γ G b ρ with
   |some (.v x)=>x.st.map λd=>.v (.e d)
   |_=>a7
  |none=>a7
 |.nil,_=>a3 (.a [])
 |.cons a b,ρ=>consW (ev Γ G a ρ) (ev Γ G b ρ)
 |.tup es,ρ=>Zz (ev Γ G es ρ)
 |.lst es,ρ=>Vl (ev Γ G es ρ)
 |.ix a b,ρ=>ixW (ev Γ G a ρ) (ev Γ G b ρ)
 |.sl a lo hi,ρ=>match ev Γ G a ρ,Z0 (ev Γ G lo ρ),Z0 (ev Γ G hi ρ) with
  |some (.v x),a3 l,a3 h=>match x.sq with
   |some (a6,ds)=>a3 (.v (.o (cutD ds l h)))
   |some (a4,ds)=>if HT.sIx ds.length 0 l=0/\HT.sIx ds.length ds.length h=ds.length then a7 else a3 (.v (.e (.tup (cutD ds l h))))
   |none=>match x.d with
    |.str z=>if jl z.length=a6 then a3 (.v (.e (.str (bM z l h))))else a7
    |_=>a7
  |_,_,_=>a7
 |.call f es,ρ=>Qe Γ f (ev Γ G es ρ)
 |.blt f es,ρ=>vd f (ev Γ G es ρ)
 |.meth m a es,ρ=>Mp m (ev Γ G a ρ) (ev Γ G es ρ)
 |.isi a ts,ρ=>Lz (ev Γ G a ρ) ts
 |.comp is elt it cond,ρ=>match ev Γ G it (frz it ρ) with
  |some (.i ds)=>if j1k is (frz it ρ)=a6/\jl ds.length=a6 then
    (Jj (λd=>match zf is d (frz it ρ) with
     |none=>a7
     |some ρ2=>match ev Γ G cond ρ2 with
      |some (.a [])=>match ev Γ G elt ρ2 with
       |some (.v x)=>x.st.map a3
       |_=>a7
      |some (.a [y])=>match y.d with
       |.bl a6=>match ev Γ G elt ρ2 with
        |some (.v x)=>x.st.map a3
        |_=>a7
       |.bl a4=>a3 a7
       |_=>a7
      |_=>a7) ds).bind λl=>if (J2 it ρ && !z9 l)=a6 then a7 else a3 (.v (.o l))
   else a7
  |_=>a7
 |.seq a,ρ=>Ot (ev Γ G a ρ)
 |.chn a b c,ρ=>j1t (ev Γ G a ρ) (ev Γ G b ρ) (ev Γ G c ρ)
 |.range es,ρ=>Mh (ev Γ G es ρ)
 |.join sep a,ρ=>Mt sep (ev Γ G a ρ)
 |.enum a,ρ=>Wd (ev Γ G a ρ)
 |.dzip a b,ρ=>jfo (ev Γ G a ρ) (ev Γ G b ρ)
 |.callD f es,ρ=>match ev Γ G es ρ with
  |some (.a rs)=>match zq rs with
   |some ds=>match Γ f (ds++[.non]) with
    |.val d=>a3 (.v (.e d))
    |_=>a7
   |none=>a7
  |_=>a7
 |.callK f es a,ρ=>match ev Γ G es ρ,ev Γ G a ρ with
  |some (.a rs),a3 (.v x)=>match zq rs,x.st with
   |some ds,a3 d'=>match Γ f (ds++[d']) with
    |.val d=>a3 (.v (.e d))
    |_=>a7
   |_,_=>a7
  |_,_=>a7
 |.dix a b,ρ=>jgs (ev Γ G a ρ) (ev Γ G b ρ)
 |.dnil,_=>a3 (.v (.e (.sct [])))
 |.rpr a,ρ=>match ev Γ G a ρ with
  |some (.v x)=>match x.d with
   |.str y=>if (reprText y).length<=2000 then a3 (.v (.e (.str (reprText y))))else a7
   |_=>a7
  |_=>a7
 |.upr a,ρ=>jfx (ev Γ G a ρ)
 |.lrng a,ρ=>jf1 (ev Γ G a ρ)
 |.din a b,ρ=>jgt (ev Γ G a ρ) (ev Γ G b ρ)
 |.items a,ρ=>jcl (ev Γ G a ρ)
 |.callV i es,ρ=>Oa Γ ρ[i]? (ev Γ G es ρ)
 |.dget a b,ρ=>O3 (ev Γ G a ρ) (ev Γ G b ρ)
 |.dvals a,ρ=>O2 (ev Γ G a ρ)
 |.minT a,ρ=>Mm (ev Γ G a ρ)
noncomputable def er(Γ:af->List D->Rc)(G:af->Option D):Ex->En->Option af
 |.call f es,ρ=>match er Γ G es ρ with
  |some x=>if (G (qm f)).isSome=a6 then a3 x else a7
  |none=>match ev Γ G es ρ with
   |some (.a rs)=>match Γ f (rs.map Rk.d) with
    |.err x=>if (G (bang x)).isSome=a6 then a3 x else a7
    |_=>a7
   |_=>a7
 |.cons a b,ρ=>match er Γ G a ρ with
  |some x=>a3 x
  |none=>match ev Γ G a ρ with
   |some (.v _)=>er Γ G b ρ
   |_=>a7
 |.ix a _,ρ=>er Γ G a ρ
 |.dzip a b,ρ=>match er Γ G a ρ with
  |some x=>a3 x
  |none=>match ev Γ G a ρ with
   |some (.v _)=>er Γ G b ρ
   |_=>a7
 |_,_=>a7
end L2
end
section
namespace L2
open PySem PySem.Spec PyProof.Rows
def DM(X:Cx)(ρ:Rho)(e:ai)(s:Bool)(ds:List D):Prop:=∀σ H Q,Rep X.K ρ σ H->(∀a xs H',j4 H H'->SqB X.K s H' a xs->j5 X.K (del H' (owns ρ)) ds xs->Q (.ref a) H')->Q6 X e σ H Q
section
variable{X:Cx}{ρ:Rho}{e a b c:ai}{es:List ai}{d:D}{ds ds':List D}{i j:Int}{pos p p2:aG}{k:Nat}{x:af}{s:Bool}
theorem jel{K:k7m}{H:Hp}{a:aa}{xs:List V}(h:SqL K H a xs):SqB K a6 H a xs:=by unfold SqB;rw[if_pos rfl];exact h
theorem Yj{K:k7m}{H:Hp}{a:aa}{xs:List V}(h:SqB K a6 H a xs):SqL K H a xs:=by unfold SqB at h;rw[if_pos rfl]at h;exact h
theorem Jq{K:k7m}{H:Hp}{a:aa}{xs:List V}(h:SqB K a4 H a xs):SqT K H a xs:=by unfold SqB at h;rw[if_neg xj]at h;exact h
theorem DE.toM(h:DE X ρ e (D.seq s ds)):DM X ρ e s ds:=λσ H Q R q=>h σ H Q R λv H1 g1 e1=>by obtain⟨t,xs,ev,sq,en⟩:=Ze e1;subst ev;exact q t xs H1 g1 (jo.seqB sq) en
theorem DL.toM(h:DL X ρ e ds):DM X ρ e a6 ds:=λσ H Q R q=>h σ H Q R λt xs H1 g1 m en=>q t xs H1 g1 (jel (.inl (.inl m))) en
theorem DO.toM(h:DO X ρ e ds):DM X ρ e a6 ds:=h.toL.toM
def Has(X:Cx)(ρ:Rho)(e:ai):Rk->Prop
 |.e d=>DE X ρ e d
 |.o l=>DO X ρ e l
 |.w l=>DL X ρ e l
 |.t d=>DT X ρ e d
theorem Has.toT:∀{r:Rk},Has X ρ e r->DT X ρ e r.d
 |.e _,h=>DE.toT h
 |.o _,h=>DL.toT (DO.toL h)
 |.w _,h=>DL.toT h
 |.t _,h=>h
theorem Has.toE:∀{r:Rk}{d:D},Has X ρ e r->r.st=a3 d->DE X ρ e d
 |.e _,_,h,q=>by cases q;exact h
 |.o _,_,h,q=>by cases q;exact DO.toE h
 |.w _,_,h,q=>by cases q
 |.t d',d,h,q=>by
  have q:(if Jy d'=a6 then a3 d' else a7)=a3 d:=q;by_cases z:Jy d'=a6
  .rw[if_pos z]at q;cases q;exact DT.toE h z
  .rw[if_neg z]at q;cases q
theorem Has.toM:∀{r:Rk}{s:Bool}{l:List D},Has X ρ e r->r.sq=a3 (s,l)->DM X ρ e s l
 |.e (.lst l),_,_,h,q=>by cases q;exact DE.toM (s:=a6) h
 |.e (.tup l),_,_,h,q=>by cases q;exact DE.toM (s:=a4) h
 |.e .non,_,_,_,q=>by cases q
 |.e (.bl _),_,_,_,q=>by cases q
 |.e (.int _),_,_,_,q=>by cases q
 |.e (.str _),_,_,_,q=>by cases q
 |.o l,_,_,h,q=>by cases q;exact DO.toM h
 |.w l,_,_,h,q=>by cases q;exact DL.toM h
 |.t _,_,_,_,q=>by cases q
theorem j8y:OpR X (aV .Add) (λx y H Q=>∃l b xs zs,x=.ref l/\y=.ref b/\SqL X.K H l xs/\SqL X.K H b zs/\xs.length+zs.length<=aj/\∀p,H p=a7->Q (.ref p) (upd H p (.lst (xs++zs)))):=by
 intro pins s σ H x y v u Q I rx ry h;obtain⟨l,b,xs,zs,e1,e2,hH,hB,hz,q⟩:=h;subst e1 e2;cases rx;cases ry;obtain⟨us,ru,⟨⟨c1,d1,f1,g1⟩,n1,h1,k1,w1,m1⟩,_⟩:=I.list hH;obtain⟨vs,rv,⟨⟨c2,d2,f2,g2⟩,n2,h2,k2,w2,m2⟩,_⟩:=I.list hB;have k1:c1=.type "list":=k1;have m1:f1=.seq us.toArray n1:=m1;have k2:c2=.type "list":=k2;have m2:f2=.seq vs.toArray n2:=m2;subst k1 m1 k2 m2;have l1:=ru.length;have l2:=rv.length;have ea:us.toArray++vs.toArray=(us++vs).toArray:=by simp
 refine fg ⟨_,h1,rfl⟩ ⟨_,h2,rfl⟩ noFill_list_add seq_list_add PySem.F.slot_list_add PySem.F.entry_list_add (PySem.F.args_list_add_2 _ _)
  (list_addW l b us.toArray vs.toArray n1 n2 d1 d2 g1 g2 (by rw[X6,X6,<-l1,<-l2];exact hz)) ⟨h1,h2,?_⟩
 rw[ea];exact⟨.ref _,_,I.lnew (t':=s.toks) (ru.append rv) (by rw[Xc];exact hz),rfl,q _ I.fresh⟩
theorem DO.catM(ha:DM X ρ a a6 ds)(hb:DM X ρ b a6 ds')(hl:ds.length+ds'.length<=aj):DO X ρ (.BinOp a .Add b pos) (ds++ds'):=λσ H Q R q =>
 (Y0 j8y peS peS).to (ha σ H _ R λl xs H1 g1 s1 e1=>hb σ H1 _ (R.grow g1) λl' ys H2 g2 s2 e2 =>
  ⟨l,l',xs,ys,rfl,rfl,g2.seq (Yj s1),Yj s2,by rw[e1.length,e2.length];exact hl,λp hp=>q p _ _ ((g1.trans g2).trans (j7 hp)) ((g1.trans g2).free hp) j9 (U5 hp ((e1.mono (jg g2)).append e2))⟩)
theorem DE.catTM(ha:DM X ρ a a4 ds)(hb:DM X ρ b a4 ds')(hl:ds.length+ds'.length<=aj):DE X ρ (.BinOp a .Add b pos) (.tup (ds++ds')):=λσ H Q R q =>
 (Y0 j5e peS peS).to (ha σ H _ R λt xs H1 g1 sq l=>hb σ H1 _ (R.grow g1) λt' ys H2 g2 sq' l'=>by
  have l2:=l.mono (jg g2)
  have enT:∀{t:aa}{xs:List V}{ds:List D},SqT X.K H2 t xs->j5 X.K (del H2 (owns ρ)) ds xs->Enc X.K (del H2 (owns ρ)) (.tup ds) (.ref t):=λ{t xs ds} sq l=>by
   refine⟨t,xs,rfl,?_,l⟩
   have ow:=(R.grow (g1.trans g2)).owned
   have out:∀{o:HO},H2 t=a3 o->(∀zs,o≠.lst zs)->del H2 (owns ρ) t=a3 o:=λ{o} h z=>by
    rw[j6];exact h
    intro y;obtain⟨zs,e'⟩:=ow t y;rw[h]at e';cases e';exact z zs rfl
   rcases sq with (h|⟨o,h⟩)|h
   .exact .inl (.inl (out h λ_ z=>by cases z))
   .exact .inl (.inr ⟨o,out h λ_ z=>by cases z⟩)
   .exact .inr h
  refine⟨t,t',xs,ys,rfl,rfl,g2.seqT (Jq sq),Jq sq',by rw[l.length,l'.length];exact hl,λh=>?_,λh h'=>?_,λh h' p hp=>?_⟩
  .subst h
   cases ds with
   |nil=>exact q _ H2 (g1.trans g2) (enT (Jq sq') l')
   |cons _ _=>have:=l.length;cases this
  .subst h'
   cases ds' with
   |nil=>exact q _ H2 (g1.trans g2) (by rw[Xp];exact enT (g2.seqT (Jq sq)) l2)
   |cons _ _=>have:=l'.length;cases this
  .have np:p∉owns ρ:=(R.grow (g1.trans g2)).fresh hp
   exact q _ _ ((g1.trans g2).trans (j7 hp)) ⟨p,xs++ys,rfl,.inl (.inl (by rw[j6 np];exact j9)),(l2.append l').mono (jg (j7 hp))⟩)
theorem DE.ixM(ha:DM X ρ a s ds)(hb:DT X ρ b (.int i))(h:L2.atI ds i=a3 d)(hs:Ve b):DE X ρ (.Subscript a b pos) d:=by
 cases s with
 |true=>exact λσ H Q R q=>(Mj j98 peS peS hs).to (ha σ H _ R λl xs H1 g1 sq en=>hb σ H1 _ (R.grow g1) λu H2 g2 e2=>by
   obtain⟨y,hy,ey⟩:=en.atI h
   exact⟨l,xs,i,y,rfl,e2,g2.seq (Yj sq),hy,q y H2 (g1.trans g2) (ey.mono (jg g2))⟩)
 |false=>exact λσ H Q R q=>(Mj j3g peS peS hs).to (ha σ H _ R λl xs H1 g1 sq en=>hb σ H1 _ (R.grow g1) λu H2 g2 e2=>by
   obtain⟨y,hy,ey⟩:=en.atI h
   exact⟨l,xs,i,y,rfl,e2,g2.seqT (Jq sq),hy,q y H2 (g1.trans g2) (ey.mono (jg g2))⟩)
variable{lo hi:Option ai}{l u:Option Int}
theorem DO.sliceM(ha:DM X ρ a a6 ds)(hl:DP X ρ lo l)(hu:DP X ρ hi u):DO X ρ (.Subscript a (.Slice lo hi a7 p2) pos) (cutD ds l u):=λσ H Q R q =>
 (Ra j84 peS poS poS).to (ha σ H _ R λt xs H1 g1 sq en=>hl σ H1 _ (R.grow g1) λH2 g2=>hu σ H2 _ (R.grow (g1.trans g2)) λH3 g3=>⟨t,xs,rfl,(g2.trans g3).seq (Yj sq),λp hp =>
  q p _ _ ((g1.trans (g2.trans g3)).trans (j7 hp)) ((g1.trans (g2.trans g3)).free hp) j9 (U5 hp ((en.mono (jg (g2.trans g3))).cut l u))⟩)
theorem DE.sliceM(ha:DM X ρ a a4 ds)(hl:DP X ρ lo l)(hu:DP X ρ hi u)(hw:¬(HT.sIx ds.length 0 l=0/\HT.sIx ds.length ds.length u=ds.length)):DE X ρ (.Subscript a (.Slice lo hi a7 p2) pos) (.tup (cutD ds l u)):=λσ H Q R q =>
 (Ra jaw peS poS poS).to (ha σ H _ R λt xs H1 g1 sq en=>hl σ H1 _ (R.grow g1) λH2 g2=>hu σ H2 _ (R.grow (g1.trans g2)) λH3 g3=>⟨t,xs,rfl,(g2.trans g3).seqT (Jq sq),by rw[en.length];exact hw,λp hp =>
  q _ _ ((g1.trans (g2.trans g3)).trans (j7 hp)) ⟨p,_,rfl,.inl (.inl (by rw[j6 ((R.grow (g1.trans (g2.trans g3))).fresh hp)];exact j9)),((en.mono (jg (g2.trans g3))).cut l u).mono (jg (j7 hp))⟩⟩)
theorem DE.tupM (ha:DM X ρ a s ds) (hm:X.mg "tuple" = a7) (hg:Gl X "tuple") (hs:a9 [a] X.env=[(a4,ay a X.env)]):DE X ρ (.Call (.Name "tuple" p) [a] [] pos) (.tup ds):=λσ H Q R q =>
 (Uq Df hg hm boot_tuple (jd peS jz hs) (by decide) (by decide) hs).to (ha σ H _ R λl xs H1 g1 sq en=>by
  cases s with
  |true =>
   refine⟨l,xs,rfl,.inl ⟨Yj sq,λt ht=>?_⟩⟩
   have nt:t∉owns ρ:=(R.grow g1).fresh ht
   exact q _ _ (g1.trans (j7 ht)) ⟨t,xs,rfl,.inl (.inl (by rw[j6 nt];exact j9)),en.mono (jg (j7 ht))⟩
  |false =>
   refine⟨l,xs,rfl,.inr ⟨Jq sq,?_⟩⟩
   refine q _ _ g1 ⟨l,xs,rfl,?_,en⟩
   have ow:=(R.grow g1).owned
   have out:∀{o:HO},H1 l=a3 o->(∀zs,o≠.lst zs)->del H1 (owns ρ) l=a3 o:=λ{o} h z=>by
    rw[j6];exact h
    intro y;obtain⟨zs,e'⟩:=ow l y;rw[h]at e';cases e';exact z zs rfl
   rcases Jq sq with (h|⟨o,h⟩)|h
   .exact .inl (.inl (out h λ_ z=>by cases z))
   .exact .inl (.inr ⟨o,out h λ_ z=>by cases z⟩)
   .exact .inr h)
theorem DO.listM (ha:DM X ρ a s ds) (hm:X.mg "list" = a7) (hg:Gl X "list") (hs:a9 [a] X.env=[(a4,ay a X.env)]):DO X ρ (.Call (.Name "list" p) [a] [] pos) ds:=λσ H Q R q =>
 (Uq Kp hg hm boot_list (jd peS jz hs) (by decide) (by decide) hs).to (ha σ H _ R λl xs H1 g1 sq en =>
  ⟨l,xs,rfl,(by cases s with|true=>exact .inl (Yj sq)|false=>exact .inr (Jq sq)),λp hp=>q p _ _ (g1.trans (j7 hp)) (g1.free hp) j9 (U5 hp en)⟩)
end
theorem Ba:fillsNumberSlot (.type "tuple") "mul" = pure a4 :=
 PySem.fillsNumberSlot_seq (id:="tuple.__mul__") (r:=a3 (.builtin "tuple.__rmul__")) PySem.F.slot_tuple_mul.lookup (by decide +kernel) PySem.F.slot_tuple_rmul.lookup (by decide +kernel)
theorem j8k:seqRepeat? (.type "tuple")=pure (a3 (.builtin "tuple.__mul__")):=by
 unfold seqRepeat?;rw[ie (T:="tuple") (name:="__mul__") (id:="tuple.__mul__") PySem.F.slot_tuple_mul.lookup (by decide +kernel),
  ie (T:="tuple") (name:="__rmul__") (id:="tuple.__rmul__") PySem.F.slot_tuple_rmul.lookup (by decide +kernel)]
 rfl
section
variable(a:Int)(t:gW)(l:aa)(its:Array a8)(n:Nat)(d1:Option aa)(sl:Array (Option a8))
theorem K3:jP (eK.«int.__rmul__» ⟨[.int a t,.ref l],[]⟩) (λ_ R s=>s.heap.get? l=a3 ⟨.type "tuple",d1,.seq its n,sl⟩/\R (.ok (.ret gf)) s) :=
 .of_wp λ_ _ _ _ s h=>by
  obtain⟨_,_,_,_,_⟩:=s;obtain⟨hl,h⟩:=h
  wp_walk
  exact⟨_,rfl,h⟩
theorem j4m:jP (eK.«tuple.__mul__» ⟨[.ref l,.int 1 t],[]⟩) (λ_ R s=>s.heap.get? l=a3 ⟨.type "tuple",d1,.seq its n,sl⟩/\R (.ok (.ret (.ref l))) s) :=
 .of_wp λ_ _ _ _ s h=>by
  obtain⟨_,_,_,_,_⟩:=s;obtain⟨hl,h⟩:=h
  wp_walk
  exact⟨_,rfl,h⟩
theorem j4l(h0:its.isEmpty=a4)(h1:1<a)(h2:a<2^63)(hz:its.size*a.toNat<=aj) :
  jP (eK.«tuple.__mul__» ⟨[.ref l,.int a t],[]⟩) (λ_ R s=>s.heap.get? l=a3 ⟨.type "tuple",d1,.seq its n,sl⟩ /\
   R (.ok (.ret (.ref s.heap.objs.size))) { s with heap:=s.heap.push { cls:=.type "tuple",data:=.seq (cN (λx y=>x++y) #[] (ak a.toNat its)) } }) :=
 .of_wp λ_ _ _ _ s h=>by
  obtain⟨_,_,_,_,_⟩:=s;obtain⟨hl,h⟩:=h;have c1:(decide (a < -2^63) || decide (a>=2^63))=a4:=by rw[decide_eq_false nofun,decide_eq_false nofun];rfl
  have c2:(its.isEmpty || a==1)=a4:=by rw[h0,beq_eq_false_iff_ne.mpr nofun];rfl
  have c3:(decide (a<=0) || its.isEmpty)=a4:=by rw[h0,decide_eq_false nofun];rfl
  have ea:((its.size*a.toNat:Nat):Int)=(its.size:Int)*a:=by rw[cB,Int.toNat_of_nonneg nofun]
  have hz':(its.size:Int)*a<=(aj:Int):=by rw[<-ea];exact Int.ofNat_le.mpr hz
  have c4:¬(its.size:Int)*a>(2^63-1)/8:=by
   have:(aj:Int)<=(2^63-1)/8:=by decide
   omega
  have c5:dN ((its.size:Int)*a)=a4:=by unfold dN;exact decide_eq_false nofun
  have c6:(cN (λx y=>x++y) #[] (ak a.toNat its)).size<=aj:=by rw[AutoListH.size_joined,Array.size_empty,T9,cJ];exact hz
  wp_walk
  rw[c1]
  wp_walk
  rw[c2]
  wp_walk
  rw[c3]
  wp_walk
  rw[if_neg c4]
  wp_walk
  exact⟨_,rfl,h⟩
end
theorem j8v{X:Cx}:OpR X (aV .Mult) (λx y H Q=>∃a k xs,x=.ref a/\y=.int k/\SqT X.K H a xs/\xs≠[]/\1<=k/\k<2^63/\xs.length*k.toNat<=aj /\
  (k=1->Q (.ref a) H)/\(1<k->∀p,H p=a7->Q (.ref p) (upd H p (.tup (ak k.toNat xs).flatten)))):=by
 intro pins s σ H x y v u Q I rx ry h;obtain⟨a,k,xs,e1,e2,sq,hne,h1,h2,hz,q1,q2⟩:=h;subst e1 e2;cases rx;obtain⟨t,e⟩:=ry;subst e;obtain⟨us,ru,⟨⟨c1,d1,f1,g1⟩,p1,k1,n1,m1⟩,_⟩:=I.tuple sq;have k1:c1=.type "tuple":=k1;have m1:f1=.seq us.toArray n1:=m1;subst k1 m1;have lu:=ru.length;have hne':us.toArray.isEmpty=a4:=by
  cases us with
  |nil=>cases ru;exact absurd rfl hne
  |cons _ _=>simp
 refine gD (T:="tuple") (U:="int") (by decide) ⟨_,p1,rfl⟩ (λs'=>eX s' k t) Ba jH dz j8k F.slot_int_index.lookup
  (bN dz (eX s k t) j1 (iX _ _) (K3 k t a us.toArray n1 d1 g1) ⟨p1,rfl,⟨_,p1,rfl⟩,?_⟩)
 by_cases hk:k=1
 .subst hk;exact bN iZ ⟨_,p1,rfl⟩ iW (iI _ _) (j4m t a us.toArray n1 d1 g1) ⟨p1,⟨.ref a,H,I,rfl,q1 rfl⟩⟩
 .have hz':us.toArray.size*k.toNat<=aj:=by rw[X6,<-lu];exact hz
  refine bN iZ ⟨_,p1,rfl⟩ iW (iI _ _) (j4l k t a us.toArray n1 d1 g1 hne' nofun h2 hz') ⟨p1,?_⟩;have hnew:cN (λx1 x2=>x1++x2) #[] (ak k.toNat us.toArray)=(ak k.toNat us).flatten.toArray:=by have:=foldl_rep us k.toNat [];rw[dm]at this;exact this
  rw[hnew];refine⟨.ref _,_,I.laid (t':=s.toks) (λb o e=>xg _ e) (X3 _) ?_,rfl,q2 nofun _ I.fresh⟩;exact⟨by rw[len_rep,cJ];exact hz,_,ru.rep k.toNat,IsTup.new _ _,Z5.new _ _⟩
theorem DE.repT{X:Cx}{ρ:Rho}{a b:ai}{ds:List D}{k:Int}{pos:aG}(ha:DM X ρ a a4 ds)(hb:DT X ρ b (.int k))(hne:ds≠[])(h1:1<=k)(h2:k<2^63)(hl:ds.length*k.toNat<=aj) :
  DE X ρ (.BinOp a .Mult b pos) (.tup (ak k.toNat ds).flatten):=λσ H Q R q =>
 (Y0 j8v peS peS).to (ha σ H _ R λt xs H1 g1 sq l=>hb σ H1 _ (R.grow g1) λu H2 g2 e2=>by
  have l2:=l.mono (jg g2)
  refine⟨t,k,xs,rfl,e2,g2.seqT (Jq sq),?_,h1,h2,by rw[l.length];exact hl,λh=>?_,λh p hp=>?_⟩
  .intro z;subst z
   cases ds with
   |nil=>exact hne rfl
   |cons _ _=>have:=l.length;cases this
  .subst h
   have e:(ak (1:Int).toNat ds).flatten=ds:=by simp
   rw[e]at q
   refine q _ H2 (g1.trans g2) ⟨t,xs,rfl,?_,l2⟩
   have ow:=(R.grow (g1.trans g2)).owned
   have out:∀{o:HO},H2 t=a3 o->(∀zs,o≠.lst zs)->del H2 (owns ρ) t=a3 o:=λ{o} h z=>by
    rw[j6];exact h
    intro y;obtain⟨zs,e'⟩:=ow t y;rw[h]at e';cases e';exact z zs rfl
   rcases g2.seqT (Jq sq)with (h|⟨o,h⟩)|h
   .exact .inl (.inl (out h λ_ z=>by cases z))
   .exact .inl (.inr ⟨o,out h λ_ z=>by cases z⟩)
   .exact .inr h
  .have np:p∉owns ρ:=(R.grow (g1.trans g2)).fresh hp
   exact q _ _ ((g1.trans g2).trans (j7 hp)) ⟨p,_,rfl,.inl (.inl (by rw[j6 np];exact j9)),(l2.rep k.toNat).mono (jg (j7 hp))⟩)
section
variable{X:Cx}{ρ:Rho}{a:ai}{m k:Bool}{d:D}{n:Nat}{pos p2:aG}
theorem DE.isNotN(ha:DT X ρ a d):DE X ρ (.Compare a [.IsNot] [.Constant .none n p2] pos) (.bl (!d.isNon)):=λσ H Q R q =>(J7 j8w peS j2s (qz _)).to (ha σ H _ R λx H1 g1 e1=>⟨rfl,q _ H1 g1 (by rw[Uu e1];rfl)⟩)
end
end L2
end
section
namespace PySem
open Sem (wp)
namespace F
end F
section
variable{prog:aq}{w:ax}{A:az}{E:k7n}{s:ae}{I:aa}{fp wr:List aa}{G:Array eD->Array eD->Prop}{n:Nat}{P:Nat->a8->Prop}{St:Nat->ae->Prop}
end
end PySem
namespace L2
open PySem PySem.Spec PyProof.Rows
section
variable{X:Cx}{ρ:Rho}{a:ai}{ds:List D}{p p1 p2 p3 pos:aG}
end
noncomputable def Sl.abs:Sl->Sv
 |.un=>.un
 |.val d=>.val d
 |.own _ l=>.own l
 |.raw _ _ x=>.exc x
noncomputable def j8(ρ:Rho):En:=ρ.map Sl.abs
theorem Rz{ρ:Rho}{i:Nat}:(j8 ρ)[i]?=(ρ[i]?).map Sl.abs:=xx ..
theorem Vv{ρ:Rho}{i:Nat}{d:D}(h:(j8 ρ)[i]?=a3 (.val d)):ρ[i]?=a3 (.val d):=by
 rw[Rz]at h;cases e:ρ[i]? with
 |none=>rw[e]at h;cases h
 |some s=>rw[e]at h;cases s<;>cases h;rfl
theorem jaj{ρ:Rho}{i:Nat}(h:(j8 ρ)[i]?=a3 .un):ρ[i]?=a3 .un:=by
 rw[Rz]at h;cases e:ρ[i]? with
 |none=>rw[e]at h;cases h
 |some s=>rw[e]at h;cases s<;>cases h;rfl
theorem Jx{ρ:Rho}{i:Nat}{l:List D}(h:(j8 ρ)[i]?=a3 (.own l)):∃a,ρ[i]?=a3 (.own a l):=by
 rw[Rz]at h;cases e:ρ[i]? with
 |none=>rw[e]at h;cases h
 |some s=>rw[e]at h;cases s<;>cases h;exact⟨_,rfl⟩
theorem jk{ρ:Rho}{i:Nat}{s:Sl}:j8 (ρ.set i s)=(j8 ρ).set i s.abs:=List.map_set ..
noncomputable def Bop.op:Bop->iN
 |.add=>.Add
 |.sub=>.Sub
 |.mul=>.Mult
 |.fdiv=>.FloorDiv
 |.mod=>.Mod
 |.pow=>.Pow
 |.shl=>.LShift
 |.shr=>.RShift
 |.band=>.BitAnd
 |.bxor=>.BitXor
noncomputable def Cop.op:Cop->fj
 |.lt=>.Lt
 |.le=>.LtE
 |.gt=>.Gt
 |.ge=>.GtE
 |.eq=>.Eq
 |.ne=>.NotEq
 |.isin=>.In
 |.notin=>.NotIn
noncomputable def Bf.name:Bf->af
 |.len=>"len"
 |.min=>"min"
 |.max=>"max"
 |.all=>"all"
 |.tuple=>"tuple"
 |.list=>"list"
 |.sum=>"sum"
 |.int=>"int"
 |.any=>"any"
 |.sorted=>"sorted"
noncomputable def Zy:List af:=["len","min","max","all","tuple","list","sum","int","any","sorted","isinstance","bool","str","range","zip","enumerate","reversed","ValueError","set","dict"]
noncomputable def Zx(x:af):Bool:=x.cps.toList.head?==a3 33 || x.cps.toList.head?==a3 63
inductive Nd where
 |e (x:ai)
 |b (x:ai)
 |w (x:ai)
 |a (xs:List ai)
 |i (tg it:ai)
 |o (x:Option ai)
 |c (xs:List ai)
 |p (xs:List ai)
structure Cok(X:Cx)(G:af->Option D):Prop where
 un':X.A.units+100<aL
 un:X.calm=a6->X.A.units+150<aL
 dp:X.calm=a6->X.A.depth+4<dU
 bt:∀x∈Zy,X.mg x=a7
 gl:∀x d,Zx x=a4->G x=a3 d->∃u v,X.mg x=a3 u/\RelV v u/\∀H,Enc X.K H d v
 nd:X.N.Nodup
 po:fJ (aw X.prog X.w) X.A X.env X.xe
 ea:Dn X.K=a6
 ec:∀x d,G (bang x)=a3 d->x∈Ja/\∃o,W.nsIn X.K au x=a3 (a3 o)
 el:G "?" = a3 (.bl a6)->∀c∈Ja,∃v,W.nsIn X.K au c=a3 (a3 v)
 kin:X.K.In X.base
 ns:X.base.Ns au X.mg
 kd:∀x l,G (bang x)=a3 (.lst l)->Kinds X "_law_kinds" x l
 fn:∀f d,G (qm f)=a3 d->∃fa,X.mg f=a3 (.ref fa)/\W.keepIn X.K (.ref fa)=a6
 pl:∀d,G (qm "_law_plan")=a3 d->Cal X "_law_plan" (jav X.K j7d)
 lm:∀x∈Zc,X.env.qual=x ++ ".<locals>."->∃c P,X.env.code=.ref c/\W.codeHdIn X.K c P=a6/\W.tabIn X.K x=a3 (c,P)
def Gok(X:Cx)(Γ:af->List D->Rc):Prop:=∀f ds,match Γ f ds with
 |.val d=>Cal X f (spP X.K λds' d'=>ds'=ds/\d'=d)
 |.fresh l=>Cal X f (spF X.K λds' l'=>ds'=ds/\l'=l)
 |.err x=>CalX X f (spX X.K X.mg λds' y=>ds'=ds/\y=x)
 |.lval d=>∀x,f=jr x->∃k,Room k X.A/\Dp X.prog X.w X.K X.mg X.base k x λds' d'=>ds'=ds/\d'=d
 |.no=>True
theorem Cok.comp{X:Cx}{G:af->Option D}{scope:aX}{C:aa}{s:ae}{H:Hp}{fp:List aa}{pn:k7o}(h:Cok X G):Cok (cCx X scope C s H fp pn) G:=⟨h.un',h.un,h.dp,h.bt,h.gl,h.nd,bC,h.ea,h.ec,h.el,h.kin,h.ns,h.kd,h.fn,λd e=>Cal.comp (h.pl d e),h.lm⟩
theorem Gok.comp{X:Cx}{Γ:af->List D->Rc}{scope:aX}{C:aa}{s:ae}{H:Hp}{fp:List aa}{pn:k7o}(h:Gok X Γ):Gok (cCx X scope C s H fp pn) Γ:=λf ds=>by
 have q:=h f ds;cases e:Γ f ds with
 |val d=>rw[e]at q;exact Cal.comp q
 |fresh l=>rw[e]at q;exact Cal.comp q
 |err x=>rw[e]at q;exact⟨q.ex⟩
 |lval d=>rw[e]at q;exact q
 |no=>trivial
inductive HasA(X:Cx)(ρ:Rho):List ai->List Rk->Prop where
 |nil:HasA X ρ [] []
 |cons {a:ai} {es:List ai} {r:Rk} {rs:List Rk} (hs:a9 (a::es) X.env=(a4,ay a X.env)::a9 es X.env):Has X ρ a r->HasA X ρ es rs->HasA X ρ (a::es) (r::rs)
section
variable{X:Cx}{ρ:Rho}{es:List ai}{rs:List Rk}
theorem HasA.toA:∀{es:List ai}{rs:List Rk}{ds:List D},HasA X ρ es rs->zq rs=a3 ds->DA X ρ es ds
 |_,_,_,.nil,q=>by cases q;exact DA.nil
 |_,_,ds,.cons (r:=r) (rs:=rs) hs h t,q=>by
  unfold zq at q;cases e1:r.st with
  |none=>rw[e1]at q;cases q
  |some d =>
   cases e2:zq rs with
   |none=>rw[e1,e2]at q;cases q
   |some ds'=>rw[e1,e2]at q;cases q;exact DA.cons (h.toE e1) (t.toA e2) hs
theorem HasA.toT:∀{es:List ai}{rs:List Rk},HasA X ρ es rs->DTA X ρ es (rs.map Rk.d)
 |_,_,.nil=>DTA.nil
 |_,_,.cons hs h t=>DTA.cons h.toT t.toT hs
theorem HasA.one{e:ai}(h:HasA X ρ [e] rs):∃r,rs=[r]/\Has X ρ e r/\a9 [e] X.env=[(a4,ay e X.env)]:=by cases h with|cons hs h t=>cases t;exact⟨_,rfl,h,hs⟩
theorem DO.unfrz{e:ai}{i:Nat}{a:aa}{l ds:List D}(hk:ρ[i]?=a3 (.own a l))(h:DO X (ρ.set i (.val (.lst l))) e ds)(hn:z9 ds=a6):DO X ρ e ds:=λσ H Q R q =>
 h σ H Q (R.freeze hk) λb xs H' g n m en=>q b xs H' g n m ((en.mono jo).hide (λc hc=>by
  rcases xr.mp hc with z|z
  .rw[z];exact .inl ⟨xs,m⟩
  .exact .inl ((R.grow g).owned c z)) hn)
end
theorem O6{f:D->Option (Option D)}:∀{ds l:List D},Jj f ds=a3 l ->
  l=(ds.filter (λd=>(f d).join.isSome)).map (λd=>(f d).join.getD .non)/\∀d∈ds,∃o,f d=a3 o
 |[],l,h=>by cases h;exact⟨rfl,λd hd=>nomatch hd⟩
 |d::ds,l,h=>by
  unfold Jj at h;cases e1:f d with
  |none=>rw[e1]at h;cases h
  |some o =>
   cases e2:Jj f ds with
   |none=>rw[e1,e2]at h;cases o<;>cases h
   |some xs =>
    rw[e1,e2]at h;obtain⟨q1,q2⟩:=O6 e2;have mem:∀d'∈d::ds,∃o,f d'=a3 o:=λd' hd=>by
     rcases xr.mp hd with z|z
     .subst z;exact⟨o,e1⟩
     .exact q2 d' z
    cases o with
    |none=>cases h;exact⟨by rw[bT (by rw[e1];simp)];exact q1,mem⟩
    |some x=>cases h;exact⟨by rw[bS (by rw[e1];rfl),X4,<-q1,e1];rfl,mem⟩
section
variable{X:Cx}{ρ:Rho}{a b:ai}{d da db:D}{ds ds':List D}{pos:aG}{k:Bool}
theorem j3j {t c:String} (h:qw t c=a3 k):t ≠ "function":=λz=>by unfold qw at h;rw[if_pos z]at h;cases h
theorem Ew{K:k7m}{c:String}(h:qw d.ty c=a3 k):W.kitOne K (.type d.ty) (.type c)=a3 k:=by
 have nf:d.ty ≠ "function":=j3j h;unfold qw at h;rw[if_neg nf]at h;by_cases h1:c = "int"
 .subst h1;cases d<;>first|exact absurd rfl nf|(simp[D.ty]at h;subst h;kernel_rfl)
 rw[if_neg h1]at h;by_cases h2:c = "bool"
 .subst h2;cases d<;>first|exact absurd rfl nf|(simp[D.ty]at h;subst h;kernel_rfl)
 rw[if_neg h2]at h;by_cases h3:c = "str"
 .subst h3;cases d<;>first|exact absurd rfl nf|(simp[D.ty]at h;subst h;kernel_rfl)
 rw[if_neg h3]at h;by_cases h4:c = "list"
 .subst h4;cases d<;>first|exact absurd rfl nf|(simp[D.ty]at h;subst h;kernel_rfl)
 rw[if_neg h4]at h;by_cases h5:c = "tuple"
 .subst h5;cases d<;>first|exact absurd rfl nf|(simp[D.ty]at h;subst h;kernel_rfl)
 rw[if_neg h5]at h;cases h
theorem j00 {c:String} {cs:List String} (h:jy d (c::cs)=a3 k):d.ty ≠ "function":=by
 unfold jy at h;split at h
 .rename_i e _;exact j3j e
 .cases h
theorem Ly{K:k7m}:∀{cs:List String}{k:Bool},jy d cs=a3 k->W.kitAny K (.type d.ty) (cs.map cg)=a3 k
 |[],k,h=>by cases h;rfl
 |c::cs,k,h=>by
  unfold jy at h;cases e1:qw d.ty c with
  |none=>rw[e1]at h;cases h
  |some x =>
   cases e2:jy d cs with
   |none=>rw[e1,e2]at h;cases h
   |some y =>
    rw[e1,e2]at h;cases h;rw[X4,W.kitAny,Ew e1];cases x with
    |true=>simp
    |false=>simp;exact Ly e2
theorem DE.neD(s:Bool)(hu:X.A.units+100<aL)(ha:DT X ρ a (D.seq s ds))(hb:DT X ρ b (D.seq s ds'))(hd:D.depL ds<=98)(nd:D.depL ds'<10000):DE X ρ (.Compare a [.NotEq] [b] pos) (.bl (!zp ds ds')):=λσ H Q R q =>(J7 (j2w hu) peS peS (qz _)).to (ha σ H _ R λv H1 g1 e1=>hb σ H1 _ (R.grow g1) λu H2 g2 e2=>⟨ds,ds',s,e1.mono g2,e2,hd,nd,q _ H2 (g1.trans g2) rfl⟩)
theorem DE.notIn(s:Bool)(hu:X.A.units+100<aL)(ha:DT X ρ a d)(hb:DT X ρ b (D.seq s ds))(hd:D.depL ds<=98)(nd:d.dep<10000)(hm:aE .NotIn b=a4):DE X ρ (.Compare a [.NotIn] [b] pos) (.bl (!ds.any λe=>deq e d)):=λσ H Q R q =>(J7 (N7 hu) peS peS hm).to (ha σ H _ R λv H1 g1 e1=>hb σ H1 _ (R.grow g1) λu H2 g2 e2=>⟨d,ds,s,e1.mono g2,e2,hd,nd,q _ H2 (g1.trans g2) rfl⟩)
theorem DE.in(s:Bool)(hu:X.A.units+100<aL)(ha:DT X ρ a d)(hb:DT X ρ b (D.seq s ds))(hd:D.depL ds<=98)(nd:d.dep<10000)(hm:aE .In b=a4):DE X ρ (.Compare a [.In] [b] pos) (.bl (ds.any λe=>deq e d)):=λσ H Q R q =>(J7 (j2x hu) peS peS hm).to (ha σ H _ R λv H1 g1 e1=>hb σ H1 _ (R.grow g1) λu H2 g2 e2=>⟨d,ds,s,e1.mono g2,e2,hd,nd,q _ H2 (g1.trans g2) rfl⟩)
theorem j83:∀{b:D}{s:Bool}{l:List D},b.sqv=a3 (s,l)->b=D.seq s l
 |.lst _,_,_,h=>by cases h;rfl
 |.dct _ _,_,_,h=>by cases h
 |.sct _,_,_,h=>by cases h
 |.fn _ _,_,_,h=>by cases h
 |.tup _,_,_,h=>by cases h;rfl
 |.non,_,_,h=>by cases h
 |.bl _,_,_,h=>by cases h
 |.int _,_,_,h=>by cases h
 |.str _,_,_,h=>by cases h
theorem j1s{op:Cop}{i j:Int}(h:cmpI op i j=a3 k)(ha:DT X ρ a (.int i))(hb:DT X ρ b (.int j)):DE X ρ (.Compare a [op.op] [b] pos) (.bl k)/\DB X ρ (.Compare a [op.op] [b] pos) k:=by
 cases op<;>(first|(cases h;done)|skip)
 .cases h;exact⟨DE.lt ha hb,DB.lt ha hb⟩
 .cases h;exact⟨DE.le ha hb,DB.le ha hb⟩
 .cases h;exact⟨DE.gt ha hb,DB.gt ha hb⟩
 .cases h;exact⟨DE.ge ha hb,DB.ge ha hb⟩
 .cases h;exact⟨DE.eqI ha hb,DB.eqI ha hb⟩
 .cases h;exact⟨DE.neI ha hb,DB.neI ha hb⟩
theorem Nx{op:Cop}(hu:X.A.units+100<aL)(h:Q8 op da db=a3 k)(ha:DT X ρ a da)(hb:DT X ρ b db)(hm:aE op.op b=a4) :
  DE X ρ (.Compare a [op.op] [b] pos) (.bl k)/\DB X ρ (.Compare a [op.op] [b] pos) k:=by
 have inn:∀{r:Bool->Bool},(match db.sqv with|some (_,l)=>if D.depL l<=90/\da.dep<=90 then a3 (r (l.any λe=>deq e da))else a7|none=>a7)=a3 k->∃s l,DT X ρ b (D.seq s l)/\D.depL l<=98/\da.dep<10000/\k=r (l.any λe=>deq e da):=λ{r} h=>by
  cases e:db.sqv with
  |none=>rw[e]at h;cases h
  |some p =>
   obtain⟨s,l⟩:=p;rw[e]at h;have h:(if D.depL l<=90/\da.dep<=90 then a3 (r (l.any λe=>deq e da))else a7)=a3 k:=h;by_cases z:D.depL l<=90/\da.dep<=90
   .rw[if_pos z]at h;cases h;exact⟨s,l,j83 e▸hb,by omega,by omega,rfl⟩
   .rw[if_neg z]at h;cases h
 unfold Q8 at h;split at h
 .exact j1s h ha hb
 .by_cases z:da.dep<=90/\db.dep<=90
  .rw[if_pos z]at h;cases h;exact⟨DE.eqD hu ha hb nofun nofun,DB.eqD hu ha hb nofun nofun⟩
  .rw[if_neg z]at h;cases h
 .cases h;exact⟨DE.neB ha hb,DB.neB ha hb⟩
 .cases h;exact⟨(DE.neS ha hb).eq (by rw[Ke]),(DB.neS ha hb).eq (by rw[Ke])⟩
 .cases h;exact⟨(DE.neS ha hb).eq (by simp),(DB.neS ha hb).eq (by simp)⟩
 .rename_i l m;by_cases z:D.depL l<=90/\D.depL m<=90
  .rw[if_pos z]at h;cases h;exact⟨DE.neD a6 hu ha hb nofun nofun,DB.neD a6 hu ha hb nofun nofun⟩
  .rw[if_neg z]at h;cases h
 .rename_i l m;by_cases z:D.depL l<=90/\D.depL m<=90
  .rw[if_pos z]at h;cases h;exact⟨DE.neD a4 hu ha hb nofun nofun,DB.neD a4 hu ha hb nofun nofun⟩
  .rw[if_neg z]at h;cases h
 .cases h;exact⟨DE.inS ha hb hm,DB.inS ha hb hm⟩
 .cases h;exact⟨DE.ltS ha hb,DB.ltS ha hb⟩
 .cases h;exact⟨DE.gtS ha hb,DB.gtS ha hb⟩
 .obtain⟨s,l,hb,hd,nd,e⟩:=inn (r:=id) h;subst e;exact⟨DE.in s hu ha hb hd nd hm,DB.in s hu ha hb hd nd hm⟩
 .obtain⟨s,l,hb,hd,nd,e⟩:=inn (r:=(!·)) h;subst e;exact⟨DE.notIn s hu ha hb hd nd hm,DB.notIn s hu ha hb hd nd hm⟩
 .cases h
theorem DE.shr{i j:Int}(ha:DT X ρ a (.int i))(hb:DT X ρ b (.int j))(h:0<=j):DE X ρ (.BinOp a .RShift b pos) (.int (i/2^j.toNat)):=DE.arI (g:=λi j=>i/2^j.toNat) jbt ha hb h
theorem jx{α:Type}{c:Prop}[Decidable c]{x y:α}(h:(if c then a3 x else a7)=a3 y):c/\x=y:=by
 by_cases z:c
 .rw[if_pos z]at h;exact⟨z,av h⟩
 .rw[if_neg z]at h;cases h
theorem j1v{op:Bop}{i j n:Int}(h:binI op i j=a3 n)(ha:DT X ρ a (.int i))(hb:DT X ρ b (.int j)):DE X ρ (.BinOp a op.op b pos) (.int n):=by
 cases op
 .cases h;exact DE.add ha hb
 .cases h;exact DE.sub ha hb
 .obtain⟨z,e⟩:=jx h;subst e;exact DE.mul ha hb z
 .obtain⟨z,e⟩:=jx h;subst e;exact DE.fdivB ha hb z
 .obtain⟨z,e⟩:=jx h;subst e;exact DE.mod ha hb z
 .obtain⟨z,e⟩:=jx h;subst e;exact DE.pow ha hb z
 .obtain⟨z,e⟩:=jx h;subst e;exact DE.shl ha hb z
 .obtain⟨z,e⟩:=jx h;subst e;exact DE.shr ha hb z
 .cases h;exact DE.arI0 jbz ha hb
 .cases h;exact DE.arI0 jbr ha hb
theorem za{n:Nat}(h:jl n=a6):n<=aj:=of_decide_eq_true h
end
section
variable{X:Cx}{ρ:Rho}{a b e:ai}{es:List ai}{d:D}{pos p:aG}
theorem Has.lw:∀{r:Rk}{l:List D},Has X ρ a r->r.lw=a3 l->DL X ρ a l
 |.o l,_,h,q=>by cases q;exact DO.toL h
 |.w l,_,h,q=>by cases q;exact h
 |.e _,_,_,q=>by cases q
 |.t _,_,_,q=>by cases q
theorem j4d{op:Bop}{x y r:Rk}(h:Zf op x y=a3 r)(ha:Has X ρ a x)(hb:Has X ρ b y):Has X ρ (.BinOp a op.op b pos) r:=by
 unfold Zf at h;split at h
 .rename_i i j e1 e2;cases z:binI op i j with
  |none=>rw[z]at h;cases h
  |some n=>rw[z]at h;cases h;exact j1v z (e1▸ha.toT) (e2▸hb.toT)
 .rename_i y z e1 e2;split at h
  .obtain⟨q,e⟩:=jx h;subst e;exact DE.catS (e1▸ha.toT) (e2▸hb.toT) (za q)
  .cases h
 .rename_i y k e1 e2;split at h
  .obtain⟨q,e⟩:=jx h;subst e;exact DE.mulS (e1▸ha.toT) (e2▸hb.toT) q.1 q.2
  .cases h
 .split at h
  .rename_i l m _ e1 e2;obtain⟨z,q⟩:=jx h;subst q;exact DO.catM (ha.toM e1) (hb.toM e2) (za z)
  .rename_i l m _ e1 e2;obtain⟨z,q⟩:=jx h;subst q;exact DE.catTM (ha.toM e1) (hb.toM e2) (za z)
  .rename_i l k _ _ e1 e3;obtain⟨z,q⟩:=jx h;subst q;exact DE.repT (ha.toM e1) (e3▸hb.toT) (λe=>by subst e;exact absurd z.2.2.1 (by simp)) z.1 z.2.1 (za z.2.2.2)
  .rename_i k _ _ _ e3 _;cases e:x.lw with
   |none=>rw[e]at h;cases h
   |some l =>rw[e]at h;obtain⟨z,q⟩:=jx h;subst q;exact DO.rep (ha.lw e) (e3▸hb.toT) z.1 z.2.1 (za z.2.2)
  .cases h
theorem Ub:∀{l:List D}{bs:List Bool},boolsOf l=a3 bs->l=bs.map D.bl
 |[],_,h=>by cases h;rfl
 |.bl b::r,bs,h=>by
  unfold boolsOf at h;cases e:boolsOf r with
  |none=>rw[e]at h;cases h
  |some q=>rw[e]at h;cases h;rw[Ub e];rfl
 |.non::_,_,h=>by cases h
 |.int _::_,_,h=>by cases h
 |.str _::_,_,h=>by cases h
 |.tup _::_,_,h=>by cases h
 |.lst _::_,_,h=>by cases h
 |.dct _ _::_,_,h=>by cases h
 |.sct _::_,_,h=>by cases h
 |.fn _ _::_,_,h=>by cases h
theorem Jt:∀{l:List D}{bs:List Int},intsOf l=a3 bs->l=bs.map D.int
 |[],_,h=>by cases h;rfl
 |.int b::r,bs,h=>by
  unfold intsOf at h;cases e:intsOf r with
  |none=>rw[e]at h;cases h
  |some q=>rw[e]at h;cases h;rw[Jt e];rfl
 |.non::_,_,h=>by cases h
 |.bl _::_,_,h=>by cases h
 |.str _::_,_,h=>by cases h
 |.tup _::_,_,h=>by cases h
 |.lst _::_,_,h=>by cases h
 |.dct _ _::_,_,h=>by cases h
 |.sct _::_,_,h=>by cases h
 |.fn _ _::_,_,h=>by cases h
theorem Bx:∀{l:List D}{bs:List af},strsOf l=a3 bs->l=bs.map D.str
 |[],_,h=>by cases h;rfl
 |.str b::r,bs,h=>by
  unfold strsOf at h;cases e:strsOf r with
  |none=>rw[e]at h;cases h
  |some q=>rw[e]at h;cases h;rw[Bx e];rfl
 |.non::_,_,h=>by cases h
 |.bl _::_,_,h=>by cases h
 |.int _::_,_,h=>by cases h
 |.tup _::_,_,h=>by cases h
 |.lst _::_,_,h=>by cases h
 |.dct _ _::_,_,h=>by cases h
 |.sct _::_,_,h=>by cases h
 |.fn _ _::_,_,h=>by cases h
theorem Jg{w:Option W}{k:Bool}(h:truth w=a3 k):∃r,w=a3 (.v r)/\r.d=.bl k:=by
 unfold truth at h;split at h
 .rename_i r;split at h
  .rename_i q e;cases h;exact⟨r,rfl,e⟩
  .cases h
 .cases h
def je8(X:Cx)(ρ:Rho):List ai->List Rk->Prop
 |[],[]=>True
 |e::es,r::rs=>(∀y,j7c r.d=a3 y->DE X ρ e (.str y))/\je8 X ρ es rs
 |_,_=>False
def je6(Γ:af->List D->Rc)(G:af->Option D)(X:Cx)(t:Ex):Nd->Prop
 |.e e=>∀ρ r,ev Γ G t (j8 ρ)=a3 (.v r)->Has X ρ e r
 |.b e=>∀ρ k,truth (ev Γ G t (j8 ρ))=a3 k->DB X ρ e k
 |.w e=>∀ρ k,truth (ev Γ G t (j8 ρ))=a3 k->DW X ρ e k
 |.a es=>∀ρ rs,ev Γ G t (j8 ρ)=a3 (.a rs)->HasA X ρ es rs
 |.i tg it=>∀ρ ds,ev Γ G t (j8 ρ)=a3 (.i ds)->DI X ρ tg it ds
 |.o e=>∀ρ o,Z0 (ev Γ G t (j8 ρ))=a3 o->DP X ρ e o
 |.p es=>∀ρ rs,ev Γ G t (j8 ρ)=a3 (.a rs)->je8 X ρ es rs
 |.c ifs=>∀ρ,(ev Γ G t (j8 ρ)=a3 (.a [])->DTs X ρ ifs a6)/\∀y k,ev Γ G t (j8 ρ)=a3 (.a [y])->y.d=.bl k->DTs X ρ ifs k
end
section
variable{Γ:af->List D->Rc}{G:af->Option D}{X:Cx}
theorem Wv{is:List Nat}{elt' it' c':Ex}{elt it tg:ai}{ifs:List ai}{scope:aX}{ρ:Rho}{r:Rk}
  (hit:∀ρ ds,ev Γ G it' (j8 ρ)=a3 (.i ds)->DI X ρ tg it ds)
  (hb:∀ρ d ρ2,zf is d (j8 ρ)=a3 ρ2->(∀j∈is,ρ[j]?=a3 .un)->∃ρ',j8 ρ'=ρ2/\Wk ρ' ρ/\owns ρ'=owns ρ/\∀C s H fp pn,DG (cCx X scope C s H fp pn) ρ tg d ρ')
  (he:∀C s H fp pn ρ r,ev Γ G elt' (j8 ρ)=a3 (.v r)->Has (cCx X scope C s H fp pn) ρ elt r)
  (hc:∀C s H fp pn ρ,(ev Γ G c' (j8 ρ)=a3 (.a [])->DTs (cCx X scope C s H fp pn) ρ ifs a6)/\∀y k,ev Γ G c' (j8 ρ)=a3 (.a [y])->y.d=.bl k->DTs (cCx X scope C s H fp pn) ρ ifs k)
  (h:ev Γ G (.comp is elt' it' c') (j8 ρ)=a3 (.v r)):∃(l:List D)(ρf:Rho)(ds:List D)(pr:D->Bool)(g:D->D),r=.o l/\l=(ds.filter pr).map g /\
   (ρf=ρ\/(z9 l=a6/\∃(i:Nat)(a:aa)(l':List D),ρ[i]?=a3 (.own a l')/\ρf=ρ.set i (.val (.lst l'))))/\DI X ρf tg it ds/\(∀j∈is,ρf[j]?=a3 .un)/\ds.length<=aj /\
   (∀C s H fp pn,∀d∈ds,∃ρ2,DG (cCx X scope C s H fp pn) ρf tg d ρ2/\Wk ρ2 ρf/\owns ρ2=owns ρf/\DTs (cCx X scope C s H fp pn) ρ2 ifs (pr d)/\(pr d=a6->DE (cCx X scope C s H fp pn) ρ2 elt (g d))):=by
 have fr:∃ρf,j8 ρf=frz it' (j8 ρ)/\((J2 it' (j8 ρ)=a4/\ρf=ρ)\/(J2 it' (j8 ρ)=a6/\∃i a l,ρ[i]?=a3 (.own a l)/\ρf=ρ.set i (.val (.lst l)))):=by
  by_cases z:J2 it' (j8 ρ)=a6
  .unfold J2 at z;split at z
   .rename_i i ei;split at z
    .rename_i l e;obtain⟨a,q⟩:=Jx e;refine⟨ρ.set i (.val (.lst l)),?_,.inr ⟨?_,i,a,l,q,rfl⟩⟩
     .rw[jk];simp only[frz,ei,e,Sl.abs]
     .simp only[J2,ei,e]
    .cases z
   .cases z
  .have z':J2 it' (j8 ρ)=a4:=by simpa using z
   refine⟨ρ,?_,.inl ⟨z',rfl⟩⟩;unfold frz;split
   .rename_i i ei;split
    .rename_i l e;simp only[J2,ei,e]at z';cases z'
    .rfl
   .rfl
 obtain⟨ρf,ef,fr⟩:=fr;unfold ev at h;rw[<-ef]at h;split at h
 .rename_i ds hds;split at h
  .rename_i hz;obtain⟨hfree,hlen⟩:=hz;generalize hf:(λd=>_:D->Option (Option D))=f at h;cases hl:Jj f ds with
   |none=>rw[hl]at h;cases h
   |some l =>
    rw[hl]at h;have h:(if (J2 it' (j8 ρ) && !z9 l)=a6 then a7 else a3 (W.v (.o l)))=a3 (.v r):=h;by_cases zz:(J2 it' (j8 ρ) && !z9 l)=a6
    .rw[if_pos zz]at h;cases h
    .rw[if_neg zz]at h;cases h;obtain⟨el,hmem⟩:=O6 hl;have hun:∀j∈is,ρf[j]?=a3 .un:=λj hj=>by
      have:=Pr.mp hfree j hj;split at this
      .rename_i e;exact jaj e
      .cases this
     refine⟨l,ρf,ds,_,_,rfl,el,?_,hit ρf ds hds,hun,za hlen,λC s H fp pn d hd=>?_⟩
     .rcases fr with ⟨_,e⟩|⟨e1,i,a,l',hk,e⟩
      .exact .inl e
      .exact .inr ⟨by rw[e1]at zz;simpa using zz,i,a,l',hk,e⟩
     ·
      obtain⟨o,ho⟩:=hmem d hd;rw[<-hf]at ho ⊢;dsimp only at ho ⊢;cases hb2:zf is d (j8 ρf) with
      |none=>rw[hb2]at ho;cases ho
      |some ρ2 =>
       obtain⟨ρ',e',wk,ow,dg⟩:=hb ρf d ρ2 hb2 hun;subst e';refine⟨ρ',dg C s H fp pn,wk,ow,?_⟩;rw[hb2]at ho;dsimp only at ho ⊢;cases hcv:ev Γ G c' (j8 ρ') with
       |none=>rw[hcv]at ho;cases ho
       |some w =>
        rw[hcv]at ho;split at ho
        .rename_i hw;cases hw;cases hev:ev Γ G elt' (j8 ρ') with
         |none=>rw[hev]at ho;cases ho
         |some w =>
          rw[hev]at ho;cases w with
          |i _=>cases ho
          |a _=>cases ho
          |v x =>
           dsimp only at ho ⊢;cases hst:x.st with
           |none=>rw[hst]at ho;cases ho
           |some y =>simp only[hst,eQ,i6,dG,cZ];exact⟨((hc C s H fp pn ρ').1 hcv),λ_=>(he C s H fp pn ρ' x hev).toE hst⟩
        .rename_i y hw;cases hw;split at ho
         .rename_i e1;cases hev:ev Γ G elt' (j8 ρ') with
          |none=>rw[hev]at ho;cases ho
          |some w =>
           rw[hev]at ho;cases w with
           |i _=>cases ho
           |a _=>cases ho
           |v x =>
            dsimp only at ho ⊢;cases hst:x.st with
            |none=>rw[hst]at ho;cases ho
            |some z =>simp only[e1,hst,eQ,i6,dG,cZ];exact⟨(hc C s H fp pn ρ').2 y a6 hcv e1,λ_=>(he C s H fp pn ρ' x hev).toE hst⟩
         .rename_i e1;simp only[e1,Option.join,jA];exact⟨(hc C s H fp pn ρ').2 y a4 hcv e1,λz=>by cases z⟩
         .cases ho
        .cases ho
  .cases h
 .cases h
theorem O5{is:List Nat}{elt' it' c':Ex}{elt it tg:ai}{ifs:List ai}{scope:aX}{p:aG}{ρ:Rho}{r:Rk}(hq:X.calm=a6)(hX:Cok X G)
  (hit:∀ρ ds,ev Γ G it' (j8 ρ)=a3 (.i ds)->DI X ρ tg it ds) (hkind:scope.kind=.function) (hok:Jc scope X.env X.N is=a6) (hs:∀x,aD it X.env x=pure x)
  (hb:∀ρ d ρ2,zf is d (j8 ρ)=a3 ρ2->(∀j∈is,ρ[j]?=a3 .un)->∃ρ',j8 ρ'=ρ2/\Wk ρ' ρ/\owns ρ'=owns ρ/\∀C s H fp pn,DG (cCx X scope C s H fp pn) ρ tg d ρ')
  (he:∀C s H fp pn ρ r,ev Γ G elt' (j8 ρ)=a3 (.v r)->Has (cCx X scope C s H fp pn) ρ elt r)
  (hc:∀C s H fp pn ρ,(ev Γ G c' (j8 ρ)=a3 (.a [])->DTs (cCx X scope C s H fp pn) ρ ifs a6)/\∀y k,ev Γ G c' (j8 ρ)=a3 (.a [y])->y.d=.bl k->DTs (cCx X scope C s H fp pn) ρ ifs k)
  (h:ev Γ G (.comp is elt' it' c') (j8 ρ)=a3 (.v r)):∃l,r=.o l/\DO X ρ (.ListComp elt [⟨tg,it,ifs,0⟩] scope p) l:=by
 obtain⟨l,ρf,ds,pr,g,er,el,hf,hi,hun,hz,hb'⟩:=Wv hit hb he hc h;refine⟨l,er,?_⟩;have main:DO X ρf (.ListComp elt [⟨tg,it,ifs,0⟩] scope p) ((ds.filter pr).map g):=DO.comp is _ _ hi hb' hun hz hq hkind hok hs;rw[<-el]at main;rcases hf with e|⟨hn,i,a,l',hk,e⟩
 .subst e;exact main
 .subst e;exact DO.unfrz hk main hn
end
section
variable{X:Cx}{ρ:Rho}{a b e:ai}{es:List ai}{d:D}{pos p:aG}
theorem Has.map(h:∀σ H Q,Q6 X a σ H Q->Q6 X e σ H Q):∀{r:Rk},Has X ρ a r->Has X ρ e r
 |.e _,q=>λσ H Q R z=>h σ H Q (q σ H Q R z)
 |.o _,q=>λσ H Q R z=>h σ H Q (q σ H Q R z)
 |.w _,q=>λσ H Q R z=>h σ H Q (q σ H Q R z)
 |.t _,q=>λσ H Q R z=>h σ H Q (q σ H Q R z)
theorem Has.bl{r:Rk}{k:Bool}(h:Has X ρ a r)(e:r.d=.bl k):DE X ρ a (.bl k):=DT.toE (e▸h.toT)
theorem Jw{f:Bf}{rs:List Rk}{r:Rk}{p2:aG}{G:af->Option D}(c:Cok X G)(hq:f=.min\/f=.all\/f=.sum\/f=.any\/f=.max->X.calm=a6)(hg:Gl X f.name)(h:Z1 f rs=a3 r)(ha:HasA X ρ es rs):Has X ρ (.Call (.Name f.name p) es [] p2) r:=by
 have one:∀{x:Rk},HasA X ρ es [x]->∃e,es=[e]/\Has X ρ e x/\a9 [e] X.env=[(a4,ay e X.env)]:=λ{x} h=>by cases h with|cons hs h t=>cases t;exact⟨_,rfl,h,hs⟩
 have two:∀{x y:Rk},HasA X ρ es [x,y]->∃e f,es=[e,f]/\Has X ρ e x/\Has X ρ f y/\a9 [e,f] X.env=(a4,ay e X.env)::a9 [f] X.env/\a9 [f] X.env=[(a4,ay f X.env)]:=λ{x y} h=>by cases h with|cons hs h t=>cases t with|cons hs2 h2 t2=>cases t2;exact⟨_,_,rfl,h,h2,hs,hs2⟩
 unfold Z1 at h;split at h
 .rename_i x;obtain⟨e,ee,hx,hs⟩:=one ha;subst ee;split at h
  .rename_i l el;cases h;exact DE.lenL (el▸hx.toT) (c.bt _ (by decide)) hg hs
  .rename_i l el;cases h;exact DE.lenT (el▸hx.toT) (c.bt _ (by decide)) hg hs
  .rename_i y el;obtain⟨z,q⟩:=jx h;subst q;exact DE.lenS (el▸hx.toT) (za z) (c.bt _ (by decide)) hg hs
  .cases h
 .rename_i x y;obtain⟨e,f,ee,hx,hy,hs,hs2⟩:=two ha;subst ee;split at h
  .rename_i i j ei ej;cases h;exact DE.min (ei▸hx.toT) (ej▸hy.toT) (c.bt _ (by decide)) (hq (.inl rfl)) hg hs hs2 (by rw[hs2];rfl)
  .cases h
 .rename_i x y;obtain⟨e,f,ee,hx,hy,hs,hs2⟩:=two ha;subst ee;split at h
  .rename_i i j ei ej;cases h;exact DE.max2 (ei▸hx.toT) (ej▸hy.toT) (c.bt _ (by decide)) (hq (.inr (.inr (.inr (.inr rfl))))) hg hs hs2 (by rw[hs2];rfl)
  .cases h
 .rename_i x;obtain⟨e,ee,hx,hs⟩:=one ha;subst ee;split at h
  .rename_i l el;split at h
   .rename_i ns en;obtain⟨z,q⟩:=jx h;cases q;have:=Jt en;subst this;exact DE.maxL (el▸hx.toT) (λz'=>by subst z';simp at z) (c.bt _ (by decide)) (hq (.inr (.inr (.inr (.inr rfl))))) hg hs
   .cases h
  .cases h
 .rename_i x;obtain⟨e,ee,hx,hs⟩:=one ha;subst ee;split at h
  .rename_i l el;split at h
   .rename_i ns en;obtain⟨z,q⟩:=jx h;cases q;have:=Jt en;subst this;exact DE.minL (el▸hx.toT) (λz'=>by subst z';simp at z) (c.bt _ (by decide)) (hq (.inl rfl)) hg hs
   .cases h
  .cases h
 .rename_i x;obtain⟨e,ee,hx,hs⟩:=one ha;subst ee;split at h
  .rename_i l el;cases q:boolsOf l with
   |none=>rw[q]at h;cases h
   |some bs =>rw[q]at h;cases h;have:=Ub q;subst this;exact DE.all (el▸hx.toT) (c.bt _ (by decide)) (hq (.inr (.inl rfl))) hg hs
  .cases h
 .rename_i x;obtain⟨e,ee,hx,hs⟩:=one ha;subst ee;split at h
  .rename_i l el;cases q:boolsOf l with
   |none=>rw[q]at h;cases h
   |some bs =>rw[q]at h;cases h;have:=Ub q;subst this;exact DE.any (el▸hx.toT) (c.bt _ (by decide)) (hq (.inr (.inr (.inr (.inl rfl))))) hg hs
  .cases h
 .rename_i x;obtain⟨e,ee,hx,hs⟩:=one ha;subst ee;split at h
  .rename_i s l el;cases h;exact DE.tupM (hx.toM el) (c.bt _ (by decide)) hg hs
  .cases h
 .rename_i x;obtain⟨e,ee,hx,hs⟩:=one ha;subst ee;split at h
  .rename_i s l el;cases h;exact DO.listM (hx.toM el) (c.bt _ (by decide)) hg hs
  .cases h
 .rename_i x;obtain⟨e,ee,hx,hs⟩:=one ha;subst ee;split at h
  .rename_i l el;cases q:intsOf l with
   |none=>rw[q]at h;cases h
   |some ns =>rw[q]at h;cases h;have:=Jt q;subst this;exact DE.sum a6 (show DT X ρ e (.lst (ns.map D.int))from el▸hx.toT) (c.bt _ (by decide)) (hq (.inr (.inr (.inl rfl)))) hg hs
  .rename_i l el;cases q:intsOf l with
   |none=>rw[q]at h;cases h
   |some ns =>rw[q]at h;cases h;have:=Jt q;subst this;exact DE.sum a4 (show DT X ρ e (.tup (ns.map D.int))from el▸hx.toT) (c.bt _ (by decide)) (hq (.inr (.inr (.inl rfl)))) hg hs
  .cases h
 .rename_i x;obtain⟨e,ee,hx,hs⟩:=one ha;subst ee;split at h
  .rename_i k el;cases h;exact DE.int1 (el▸hx.toT) (c.bt _ (by decide)) hg hs
  .cases h
 .cases h
end
section
variable{Γ:af->List D->Rc}{G:af->Option D}{X:Cx}
theorem Oh{d:D}{ns:List Int}(h:tupI d=a3 ns):d=.tup (ns.map D.int):=by
 unfold tupI at h;split at h
 .rw[Jt h]
 .cases h
theorem Dr:∀{l:List D}{ks:List (List Int)},W7 l=a3 ks->l=ks.map λk=>D.tup (k.map D.int)
 |[],ks,h=>by cases h;rfl
 |d::l,ks,h=>by
  unfold W7 at h;split at h
  .rename_i k ks' e1 e2;cases h;rw[Oh e1,Dr e2];rfl
  .cases h
theorem jbj:∀{d:D}{k:Int×List Int},prI d=a3 k->d=pairD k:=λ{d k} h=>by
 unfold prI at h;split at h
 .obtain⟨x,e,z⟩:=ph.mp h;subst z;rw[Oh e];rfl
 .cases h
theorem Ei:∀{l:List D}{ks:List (Int×List Int)},Ow l=a3 ks->l=ks.map pairD
 |[],ks,h=>by cases h;rfl
 |d::l,ks,h=>by
  unfold Ow at h;split at h
  .rename_i k ks' e1 e2;cases h;rw[jbj e1,Ei e2];rfl
  .cases h
theorem j1u {ρ:Rho} {f:af} {e:ai} {es:List ai} {rs:List Rk} {r:Rk} {p p2:aG} (g:Gok X Γ) (hg:Gl X f) (hdb:(f==k7q)=a4) (he:a9 (e::es) X.env=(a4,ay e X.env)::a9 es X.env)
  (hpl:(aP p2 (a9 es X.env)).any (·.1)=a4) (ha:HasA X ρ (e::es) rs)
  (h:(match zq rs with|some ds=>(Γ f ds).rk.map W.v|none=>match Γ f (rs.map Rk.d)with|.val d=>a3 (.v (.t d))|_=>a7)=a3 (.v r)):Has X ρ (.Call (.Name f p) (e::es) [] p2) r:=by
 split at h
 .rename_i ds hds;have q:=g f ds;cases z:Γ f ds with
  |val d=>rw[z]at h q;cases h;exact DE.call q (ha.toA hds) ⟨rfl,rfl⟩ hg hdb he hpl
  |fresh l=>rw[z]at h q;cases h;exact DO.call q (ha.toA hds) ⟨rfl,rfl⟩ hg hdb he hpl
  |err x=>rw[z]at h;cases h
  |lval d=>rw[z]at h;cases h
  |no=>rw[z]at h;cases h
 .have q:=g f (rs.map Rk.d);split at h
  .rename_i d z;rw[z]at q;cases h;exact DT.call q ha.toT ⟨rfl,rfl⟩ hg hdb he hpl
  .cases h
end
def XM(X:Cx)(ρ:Rho)(y:af):Nd->Prop
 |.e e=>DX X ρ e y
 |.a es=>DXA X ρ es y
 |_=>True
structure Tr(X:Cx)(t:Ex)(nd:Nd):Prop where
 m:∀(Γ:af->List D->Rc)(G:af->Option D),Cok X G->Gok X Γ->je6 Γ G X t nd
 x:∀(Γ:af->List D->Rc)(G:af->Option D),Cok X G->Gok X Γ->∀ρ y,er Γ G t (j8 ρ)=a3 y->XM X ρ y nd
theorem Tr.int:∀{X:Cx}{i:Int}{n:Nat}{p:aG},Tr X (.lit (.int i)) (.e (.Constant (.int i) n p)):=by intro _ _ _ _;refine⟨λΓ G=>?_,λ_ _ _ _ _ _ h=>nomatch h⟩;intro _ _ ρ r h;simp only[ev]at h;cases h;exact DE.int
theorem Tr.bl:∀{X:Cx}{b:Bool}{n:Nat}{p:aG},Tr X (.lit (.bl b)) (.e (.Constant (.bool b) n p)):=by intro _ _ _ _;refine⟨λΓ G=>?_,λ_ _ _ _ _ _ h=>nomatch h⟩;intro _ _ ρ r h;simp only[ev]at h;cases h;exact DE.bl
theorem Tr.non:∀{X:Cx}{n:Nat}{p:aG},Tr X (.lit .non) (.e (.Constant .none n p)):=by intro _ _ _;refine⟨λΓ G=>?_,λ_ _ _ _ _ _ h=>nomatch h⟩;intro _ _ ρ r h;simp only[ev]at h;cases h;exact DE.non
theorem Tr.str:∀{X:Cx}{y:af}{n:Nat}{p:aG},Tr X (.lit (.str y)) (.e (.Constant (.str y) n p)):=by intro _ _ _ _;refine⟨λΓ G=>?_,λ_ _ _ _ _ _ h=>nomatch h⟩;intro _ _ ρ r h;simp only[ev]at h;cases h;exact DE.str
theorem Tr.var:∀{X:Cx}{k:Nat}{x:af}{p:aG}(hN:X.N[k]?=a3 x) (hv:Vis X.env.scope x) (hd:(x==k7q)=a4) (hcd:(x==k7r)=a4),Tr X (.var k) (.e (.Name x p)):=by
 intro _ _ _ _ hN hv hd hcd;refine⟨λΓ G=>?_,λ_ _ _ _ _ _ h=>nomatch h⟩;intro _ _ ρ r h;simp only[ev,Dq]at h;split at h
 .rename_i e;cases h;exact DE.var _ (Vv e) hN hv hd hcd
 .rename_i e;cases h;obtain⟨a,q⟩:=Jx e;exact DL.var _ q hN hv hd hcd
 .cases h
theorem Tr.glob:∀{X:Cx}{x:af}{p:aG}(hg:Gl X x)(hd:(x==k7q)=a4) (hb:Zx x=a4),Tr X (.glob x) (.e (.Name x p)):=by
 intro _ _ _ hg hd hb;refine⟨λΓ G=>?_,λ_ _ _ _ _ _ h=>nomatch h⟩;rename_i X x p;intro c _ ρ r h;simp only[ev]at h;cases e:G x with
 |none=>rw[e]at h;cases h
 |some d=>rw[e]at h;cases h;obtain⟨u,v,hm,r,q⟩:=c.gl x d hb e;exact DE.glob hg hm r q hd
theorem Tr.bin:∀{X:Cx}{op:Bop}{a' b':Ex}{a b:ai}{p:aG},Tr X a' (.e a)->Tr X b' (.e b)->Tr X (.bin op a' b') (.e (.BinOp a op.op b p)):=by
 intro _ _ _ _ _ _ _ q0 q1;refine⟨λΓ G=>?_,λ_ _ _ _ _ _ h=>nomatch h⟩;have iha:=q0.m Γ G;have ihb:=q1.m Γ G;intro c g ρ r h;simp only[ev,J1]at h;split at h
 .rename_i x y ex ey;cases e:Zf _ x y with
  |none=>rw[e]at h;cases h
  |some z=>rw[e]at h;cases h;exact j4d e (iha c g ρ x ex) (ihb c g ρ y ey)
 .cases h
theorem Tr.cmp:∀{X:Cx}{op:Cop}{a' b':Ex}{a b:ai}{p:aG}(hm:aE op.op b=a4),Tr X a' (.e a)->Tr X b' (.e b)->Tr X (.cmp op a' b') (.e (.Compare a [op.op] [b] p)):=by
 intro _ _ _ _ _ _ _ hm q0 q1;refine⟨λΓ G=>?_,λ_ _ _ _ _ _ h=>nomatch h⟩;have iha:=q0.m Γ G;have ihb:=q1.m Γ G;intro c g ρ r h;simp only[ev,Kh]at h;split at h
 .rename_i x y ex ey;cases e:Q8 _ x.d y.d with
  |none=>rw[e]at h;cases h
  |some z=>rw[e]at h;cases h;exact(Nx c.un' e (iha c g ρ x ex).toT (ihb c g ρ y ey).toT hm).1
 .cases h
theorem Tr.bcmp:∀{X:Cx}{op:Cop}{a' b':Ex}{a b:ai}{p:aG}(hm:aE op.op b=a4),Tr X a' (.e a)->Tr X b' (.e b)->Tr X (.cmp op a' b') (.b (.Compare a [op.op] [b] p)):=by
 intro _ _ _ _ _ _ _ hm q0 q1;refine⟨λΓ G=>?_,λ_ _ _ _ _ _ _=>trivial⟩;have iha:=q0.m Γ G;have ihb:=q1.m Γ G;intro c g ρ k h;obtain⟨r,h,hk⟩:=Jg h;simp only[ev,Kh]at h;split at h
 .rename_i x y ex ey;cases e:Q8 _ x.d y.d with
  |none=>rw[e]at h;cases h
  |some z=>rw[e]at h;cases h;cases hk;exact(Nx c.un' e (iha c g ρ x ex).toT (ihb c g ρ y ey).toT hm).2
 .cases h
theorem Tr.isN:∀{X:Cx}{a':Ex}{a:ai}{n:Nat}{p p2:aG},Tr X a' (.e a)->Tr X (.isN a') (.e (.Compare a [.Is] [.Constant .none n p2] p)):=by
 intro _ _ _ _ _ _ q0;refine⟨λΓ G=>?_,λ_ _ _ _ _ _ h=>nomatch h⟩;have iha:=q0.m Γ G;intro c g ρ r h;simp only[ev]at h;split at h
 .rename_i x ex;cases h;exact DE.isN (iha c g ρ x ex).toT
 .cases h
theorem Tr.bisN:∀{X:Cx}{a':Ex}{a:ai}{n:Nat}{p p2:aG},Tr X a' (.e a)->Tr X (.isN a') (.b (.Compare a [.Is] [.Constant .none n p2] p)):=by
 intro _ _ _ _ _ _ q0;refine⟨λΓ G=>?_,λ_ _ _ _ _ _ _=>trivial⟩;have iha:=q0.m Γ G;intro c g ρ k h;obtain⟨r,h,hk⟩:=Jg h;simp only[ev]at h;split at h
 .rename_i x ex;cases h;cases hk;exact DB.isN (iha c g ρ x ex).toT
 .cases h
theorem Tr.isNN:∀{X:Cx}{a':Ex}{a:ai}{n:Nat}{p p2:aG},Tr X a' (.e a)->Tr X (.not (.isN a')) (.e (.Compare a [.IsNot] [.Constant .none n p2] p)):=by
 intro _ _ _ _ _ _ q0;refine⟨λΓ G=>?_,λ_ _ _ _ _ _ h=>nomatch h⟩;have iha:=q0.m Γ G;intro c g ρ r h;simp only[ev]at h;cases e:truth _ with
 |none=>rw[e]at h;cases h
 |some k =>
  rw[e]at h;cases h;obtain⟨x,ex,ed⟩:=Jg e;split at ex
  .rename_i y ey;cases ex;cases ed;exact DE.isNotN (iha c g ρ y ey).toT
  .cases ex
theorem Tr.one:∀{X:Cx}{a':Ex}{a:ai}{op:BoolOp}{p:aG},Tr X a' (.e a)->Tr X a' (.e (.BoolOp op [a] p)):=by intro _ _ _ _ _ q0;refine⟨λΓ G=>?_,λΓ G c g ρ y h σ H Q R k=>(j2r peS).to (q0.x Γ G c g ρ y h σ H Q R k)⟩;have iha:=q0.m Γ G;intro c g ρ r h;exact Has.map (λσ H Q q=>(j2r peS).to q) (iha c g ρ r h)
theorem Tr.and:∀{X:Cx}{a' t':Ex}{a b:ai}{rest:List ai}{p:aG},Tr X a' (.e a)->Tr X t' (.e (.BoolOp .And (b::rest) p))->Tr X (.and a' t') (.e (.BoolOp .And (a::b::rest) p)):=by
 intro _ _ _ _ _ _ _ q0 q1;refine⟨λΓ G=>?_,λ_ _ _ _ _ _ h=>nomatch h⟩;have iha:=q0.m Γ G;have ihb:=q1.m Γ G;intro c g ρ r h;simp only[ev]at h;split at h
 .rename_i e;cases h;obtain⟨x,ex,ed⟩:=Jg e;exact(DE.and (m:=a4) ((iha c g ρ x ex).bl ed).toT λz=>by cases z)
 .rename_i e;obtain⟨x,ex,ed⟩:=Jg e;cases e2:truth (ev Γ G _ (j8 ρ)) with
  |none=>rw[e2]at h;cases h
  |some k =>rw[e2]at h;cases h;obtain⟨y,ey,fd⟩:=Jg e2;exact(DE.and ((iha c g ρ x ex).bl ed).toT λ_=>(ihb c g ρ y ey).bl fd).eq (by simp)
 .cases h
theorem Tr.wor1:∀{X:Cx}{a':Ex}{a:ai}{p:aG},Tr X a' (.b a)->Tr X a' (.w (.BoolOp .Or [a] p)):=by intro _ _ _ _ q0;refine⟨λΓ G=>?_,λ_ _ _ _ _ _ _=>trivial⟩;have iha:=q0.m Γ G;intro c g ρ k h;exact DW.or1 (iha c g ρ k h)
theorem Tr.wor:∀{X:Cx}{a' t':Ex}{a b:ai}{rest:List ai}{p:aG},Tr X a' (.b a)->Tr X t' (.w (.BoolOp .Or (b::rest) p))->Tr X (.or a' t') (.w (.BoolOp .Or (a::b::rest) p)):=by
 intro _ _ _ _ _ _ _ q0 q1;refine⟨λΓ G=>?_,λ_ _ _ _ _ _ _=>trivial⟩;have iha:=q0.m Γ G;have ihb:=q1.m Γ G;intro c g ρ k h;obtain⟨r,h,hk⟩:=Jg h;simp only[ev]at h;split at h
 .rename_i e;cases h;cases hk;exact DW.or (m:=a4) (iha c g ρ a6 e) λz=>by cases z
 .rename_i e;cases e2:truth (ev Γ G _ (j8 ρ)) with
  |none=>rw[e2]at h;cases h
  |some m =>rw[e2]at h;cases h;cases hk;have q:=DW.or (iha c g ρ a4 e) λ_=>ihb c g ρ _ e2;rw[jD]at q;exact q
 .cases h
theorem Tr.bw:∀{X:Cx}{a':Ex}{op:BoolOp}{es:List ai}{p:aG},Tr X a' (.w (.BoolOp op es p))->Tr X a' (.b (.BoolOp op es p)):=by intro _ _ _ _ _ q0;refine⟨λΓ G=>?_,λ_ _ _ _ _ _ _=>trivial⟩;have iha:=q0.m Γ G;intro c g ρ k h;exact DW.toB (iha c g ρ k h)
theorem Tr.bnot:∀{X:Cx}{a':Ex}{a:ai}{p:aG},Tr X a' (.b a)->Tr X (.not a') (.b (.UnaryOp .Not a p)):=by
 intro _ _ _ _ q0;refine⟨λΓ G=>?_,λ_ _ _ _ _ _ _=>trivial⟩;have iha:=q0.m Γ G;intro c g ρ k h;obtain⟨r,h,hk⟩:=Jg h;simp only[ev]at h;cases e:truth (ev Γ G _ (j8 ρ)) with
 |none=>rw[e]at h;cases h
 |some m=>rw[e]at h;cases h;cases hk;exact DB.not (iha c g ρ m e)
theorem Tr.bval:∀{X:Cx}{a':Ex}{a:ai}(he:∀whole,eY a X.env whole=(do let v <-whole;jK a.pos;jM [v] (truthy v))),Tr X a' (.e a)->Tr X a' (.b a):=by intro _ _ _ he q0;refine⟨λΓ G=>?_,λ_ _ _ _ _ _ _=>trivial⟩;have iha:=q0.m Γ G;intro c g ρ k h;obtain⟨r,h,hk⟩:=Jg h;exact DB.val ((iha c g ρ r h).bl hk).toT he
theorem Tr.ite:∀{X:Cx}{c' a' b':Ex}{c a b:ai}{p:aG},Tr X c' (.b c)->Tr X a' (.e a)->Tr X b' (.e b)->Tr X (.ite c' a' b') (.e (.IfExp c a b p)):=by
 intro _ _ _ _ _ _ _ _ q0 q1 q2;refine⟨λΓ G=>?_,λ_ _ _ _ _ _ h=>nomatch h⟩;have ihc:=q0.m Γ G;have iha:=q1.m Γ G;have ihb:=q2.m Γ G;intro c g ρ r h;simp only[ev]at h;split at h
 .rename_i e;split at h
  .rename_i x ex;cases es:x.st with
   |none=>rw[es]at h;cases h
   |some d=>rw[es]at h;cases h;exact(DE.ite (d':=d) (ihc c g ρ a6 e) (λ_=>(iha c g ρ x ex).toE es) λz=>by cases z).eq (by simp)
  .cases h
 .rename_i e;split at h
  .rename_i x ex;cases es:x.st with
   |none=>rw[es]at h;cases h
   |some d=>rw[es]at h;cases h;exact(DE.ite (d:=d) (ihc c g ρ a4 e) (λz=>by cases z) λ_=>(ihb c g ρ x ex).toE es).eq (by simp)
  .cases h
 .cases h
theorem Tr.nil:∀{X:Cx},Tr X .nil (.a []):=by intro _;refine⟨λΓ G=>?_,λ_ _ _ _ _ _ h=>nomatch h⟩;intro c g ρ rs h;simp only[ev]at h;cases h;exact .nil
theorem Tr.cons:∀{X:Cx}{a' b':Ex}{a:ai}{es:List ai}(hs:a9 (a::es) X.env=(a4,ay a X.env)::a9 es X.env),Tr X a' (.e a)->Tr X b' (.a es)->Tr X (.cons a' b') (.a (a::es)):=by
 intro _ _ _ _ _ hs q0 q1;refine⟨λΓ G=>?_,λΓ G=>?_⟩
 .have iha:=q0.m Γ G;have ihb:=q1.m Γ G;intro c g ρ rs h;simp only[ev,consW]at h;split at h
  .rename_i x xs ex exs;cases h;exact .cons hs (iha c g ρ x ex) (ihb c g ρ xs exs)
  .cases h
 .skip
  intro c g ρ y h;rw[er]at h;split at h
  .rename_i x ex;cases h;exact DXA.head (q0.x Γ G c g ρ _ ex) hs
  split at h
  .rename_i r ez;exact DXA.tail (q0.m Γ G c g ρ r ez).toT (q1.x Γ G c g ρ y h) hs
  .cases h
theorem Tr.tup:∀{X:Cx}{es':Ex}{es:List ai}{n:Nat}{p:aG},Tr X es' (.a es)->Tr X (.tup es') (.e (.Tuple es n p)):=by
 intro _ _ _ _ _ q0;refine⟨λΓ G=>?_,λ_ _ _ _ _ _ h=>nomatch h⟩;have iha:=q0.m Γ G;intro c g ρ r h;simp only[ev,Zz]at h;split at h
 .rename_i rs ers;split at h
  .rename_i ds hds;obtain⟨z,q⟩:=jx h;cases q;exact DE.tup (n:=0) ((iha c g ρ rs ers).toA hds) (za z)
  .cases h
 .cases h
theorem Tr.lst:∀{X:Cx}{es':Ex}{es:List ai}{p:aG},Tr X es' (.a es)->Tr X (.lst es') (.e (.List es p)):=by
 intro _ _ _ _ q0;refine⟨λΓ G=>?_,λ_ _ _ _ _ _ h=>nomatch h⟩;have iha:=q0.m Γ G;intro c g ρ r h;simp only[ev,Vl]at h;split at h
 .rename_i rs ers;split at h
  .rename_i ds hds;obtain⟨z,q⟩:=jx h;cases q;exact DO.lst ((iha c g ρ rs ers).toA hds) (za z)
  .cases h
 .cases h
theorem Tr.ix:∀{X:Cx}{a' b':Ex}{a b:ai}{p:aG}(hs:Ve b),Tr X a' (.e a)->Tr X b' (.e b)->Tr X (.ix a' b') (.e (.Subscript a b p)):=by
 intro _ _ _ _ _ _ hs q0 q1;refine⟨λΓ G=>?_,λΓ G c g ρ y h σ H Q R k=>(Mj j3g peS peS hs).to (q0.x Γ G c g ρ y (by rw[er]at h;exact h) σ H _ R k)⟩;have iha:=q0.m Γ G;have ihb:=q1.m Γ G;intro c g ρ r h;simp only[ev,ixW]at h;split at h
 .rename_i x y ex ey;split at h
  .rename_i s l i hx hy;cases z:atI l i with
   |none=>rw[z]at h;cases h
   |some d=>rw[z]at h;cases h;exact DE.ixM ((iha c g ρ x ex).toM hx) (hy▸(ihb c g ρ y ey).toT) z hs
  .rename_i i hx hy;split at h
   .rename_i y' ed;split at h
    .rename_i hl;cases z:atI y'.cps.toList i with
     |none=>rw[z]at h;cases h
     |some d=>rw[z]at h;cases h;exact DE.ixC (ed▸(iha c g ρ x ex).toT) (hy▸(ihb c g ρ y ey).toT) (za hl) z hs
    .cases h
   .cases h
  .cases h
 .cases h
theorem Tr.oN:∀{X:Cx},Tr X .nil (.o a7):=by intro _;refine⟨λΓ G=>?_,λ_ _ _ _ _ _ _=>trivial⟩;intro c g ρ o h;simp only[ev,Z0]at h;cases h;exact DP.none
theorem Tr.oS:∀{X:Cx}{a':Ex}{a:ai},Tr X a' (.e a)->Tr X (.cons a' .nil) (.o (a3 a)):=by
 intro _ _ _ q0;refine⟨λΓ G=>?_,λ_ _ _ _ _ _ _=>trivial⟩;have iha:=q0.m Γ G;intro c g ρ o h;simp only[ev,consW]at h;split at h
 .rename_i x xs ex exs;cases exs;simp only[Z0]at h;split at h
  .rename_i i ei;cases h;exact DP.some (ei▸(iha c g ρ x ex).toT)
  .cases h
 .cases h
theorem Tr.sl:∀{X:Cx}{a' l' h':Ex}{a:ai}{lo hi:Option ai}{p p2:aG},Tr X a' (.e a)->Tr X l' (.o lo)->Tr X h' (.o hi)->Tr X (.sl a' l' h') (.e (.Subscript a (.Slice lo hi a7 p2) p)):=by
 intro _ _ _ _ _ _ _ _ _ q0 q1 q2;refine⟨λΓ G=>?_,λ_ _ _ _ _ _ h=>nomatch h⟩;have iha:=q0.m Γ G;have ihl:=q1.m Γ G;have ihh:=q2.m Γ G;intro c g ρ r h;simp only[ev]at h;split at h
 .rename_i x l hh ex el eh;split at h
  .rename_i ds e;cases h;exact DO.sliceM ((iha c g ρ x ex).toM e) (ihl c g ρ l el) (ihh c g ρ hh eh)
  .rename_i ds e;split at h
   .cases h
   .rename_i z;cases h;exact DE.sliceM ((iha c g ρ x ex).toM e) (ihl c g ρ l el) (ihh c g ρ hh eh) z
  .split at h
   .rename_i y' ed;obtain⟨z,q⟩:=jx h;cases q;exact DE.sliceS (ed▸(iha c g ρ x ex).toT) (ihl c g ρ l el) (ihh c g ρ hh eh) (za z)
   .cases h
 .cases h
theorem Tr.call:∀{X:Cx}{f:af}{es':Ex}{e:ai}{es:List ai}{p p2:aG}(hg:Gl X f) (hdb:(f==k7q)=a4) (he:a9 (e::es) X.env=(a4,ay e X.env)::a9 es X.env) (hpl:(aP p2 (a9 es X.env)).any (·.1)=a4),Tr X es' (.a (e::es))->Tr X (.call f es') (.e (.Call (.Name f p) (e::es) [] p2)):=by
 intro _ f _ _ _ _ _ hg hdb he hpl q0;refine⟨λΓ G=>?_,λΓ G=>?_⟩
 .have iha:=q0.m Γ G;intro c g ρ r h;simp only[ev,Qe]at h;split at h
  .rename_i rs ers;exact j1u g hg hdb he hpl (iha c g ρ rs ers) h
  .cases h
 .skip
  intro c g ρ y h;rw[er]at h;split at h
  .rename_i x ex;split at h
   .rename_i hz;cases h;obtain⟨d,hd⟩:=Xr.mp hz;obtain⟨fa,hfa,hk⟩:=c.fn _ d hd;exact DX.args (q0.x Γ G c g ρ _ ex) hg hdb hfa hk he hpl
   .cases h
  split at h
  .rename_i rs ers;split at h
   .rename_i z ez;split at h
    .rename_i hz;cases h;have q:=g f (rs.map Rk.d);rw[ez]at q;obtain⟨d,hd⟩:=Xr.mp hz;obtain⟨_,o,ho⟩:=c.ec _ d hd;exact DX.call q (q0.m Γ G c g ρ rs ers).toT ⟨rfl,rfl⟩ (W.mg_of c.kin c.ns ho) hg hdb he hpl
    .cases h
   .cases h
  .cases h
theorem Tr.chn:∀{X:Cx}{a' b' c':Ex}{a b c:ai}{p:aG}(hm:ke [.Lt,.Lt] [b,c]=a4),Tr X a' (.e a)->Tr X b' (.e b)->Tr X c' (.e c)->Tr X (.chn a' b' c') (.e (.Compare a [.Lt,.Lt] [b,c] p)):=by
 intro _ _ _ _ _ _ _ _ hm q0 q1 q2;refine⟨λΓ G=>?_,λ_ _ _ _ _ _ h=>nomatch h⟩;have iha:=q0.m Γ G;have ihb:=q1.m Γ G;have ihc:=q2.m Γ G;intro c g ρ r h;simp only[ev,j1t]at h;split at h
 .rename_i x y z ex ey ez;split at h
  .rename_i i j k ei ej ek;cases h;exact DE.chn (ei▸(iha c g ρ x ex).toT) (ej▸(ihb c g ρ y ey).toT) (ek▸(ihc c g ρ z ez).toT) hm
  .cases h
 .cases h
theorem Tr.max1:∀{X:Cx}{es':Ex}{e:ai}{p p2:aG}(hq:X.calm=a6)(hg:Gl X "max"),Tr X es' (.a [e])->Tr X (.blt .max es') (.e (.Call (.Name "max" p) [e] [] p2)):=by
 intro _ _ _ _ _ hq hg q0;refine⟨λΓ G=>?_,λ_ _ _ _ _ _ h=>nomatch h⟩;have iha:=q0.m Γ G;intro c g ρ r h;simp only[ev,vd]at h;split at h
 .rename_i rs ers;cases e:Z1 _ rs with
  |none=>rw[e]at h;cases h
  |some x=>rw[e]at h;cases h;exact Jw (f:=.max) c (λ_=>hq) hg e (iha c g ρ rs ers)
 .cases h
theorem Tr.min1:∀{X:Cx}{es':Ex}{e:ai}{p p2:aG}(hq:X.calm=a6)(hg:Gl X "min"),Tr X es' (.a [e])->Tr X (.blt .min es') (.e (.Call (.Name "min" p) [e] [] p2)):=by
 intro _ _ _ _ _ hq hg q0;refine⟨λΓ G=>?_,λ_ _ _ _ _ _ h=>nomatch h⟩;have iha:=q0.m Γ G;intro c g ρ r h;simp only[ev,vd]at h;split at h
 .rename_i rs ers;cases e:Z1 _ rs with
  |none=>rw[e]at h;cases h
  |some x=>rw[e]at h;cases h;exact Jw (f:=.min) c (λ_=>hq) hg e (iha c g ρ rs ers)
 .cases h
theorem Tr.len:∀{X:Cx}{es':Ex}{e:ai}{p p2:aG}(hg:Gl X "len"),Tr X es' (.a [e])->Tr X (.blt .len es') (.e (.Call (.Name "len" p) [e] [] p2)):=by
 intro _ _ _ _ _ hg q0;refine⟨λΓ G=>?_,λ_ _ _ _ _ _ h=>nomatch h⟩;have iha:=q0.m Γ G;intro c g ρ r h;simp only[ev,vd]at h;split at h
 .rename_i rs ers;cases e:Z1 _ rs with
  |none=>rw[e]at h;cases h
  |some x=>rw[e]at h;cases h;exact Jw (f:=.len) c (λz=>by rcases z with z|z|z|z|z<;>cases z) hg e (iha c g ρ rs ers)
 .cases h
theorem Tr.tuple:∀{X:Cx}{es':Ex}{e:ai}{p p2:aG}(hg:Gl X "tuple"),Tr X es' (.a [e])->Tr X (.blt .tuple es') (.e (.Call (.Name "tuple" p) [e] [] p2)):=by
 intro _ _ _ _ _ hg q0;refine⟨λΓ G=>?_,λ_ _ _ _ _ _ h=>nomatch h⟩;have iha:=q0.m Γ G;intro c g ρ r h;simp only[ev,vd]at h;split at h
 .rename_i rs ers;cases e:Z1 _ rs with
  |none=>rw[e]at h;cases h
  |some x=>rw[e]at h;cases h;exact Jw (f:=.tuple) c (λz=>by rcases z with z|z|z|z|z<;>cases z) hg e (iha c g ρ rs ers)
 .cases h
theorem Tr.min:∀{X:Cx}{es':Ex}{e f:ai}{p p2:aG}(hq:X.calm=a6)(hg:Gl X "min"),Tr X es' (.a [e,f])->Tr X (.blt .min es') (.e (.Call (.Name "min" p) [e,f] [] p2)):=by
 intro _ _ _ _ _ _ hq hg q0;refine⟨λΓ G=>?_,λ_ _ _ _ _ _ h=>nomatch h⟩;have iha:=q0.m Γ G;intro c g ρ r h;simp only[ev,vd]at h;split at h
 .rename_i rs ers;cases e:Z1 _ rs with
  |none=>rw[e]at h;cases h
  |some x=>rw[e]at h;cases h;exact Jw (f:=.min) c (λ_=>hq) hg e (iha c g ρ rs ers)
 .cases h
theorem Tr.sum:∀{X:Cx}{es':Ex}{e:ai}{p p2:aG}(hq:X.calm=a6)(hg:Gl X "sum"),Tr X es' (.a [e])->Tr X (.blt .sum es') (.e (.Call (.Name "sum" p) [e] [] p2)):=by
 intro _ _ _ _ _ hq hg q0;refine⟨λΓ G=>?_,λ_ _ _ _ _ _ h=>nomatch h⟩;have iha:=q0.m Γ G;intro c g ρ r h;simp only[ev,vd]at h;split at h
 .rename_i rs ers;cases e:Z1 _ rs with
  |none=>rw[e]at h;cases h
  |some x=>rw[e]at h;cases h;exact Jw (f:=.sum) c (λ_=>hq) hg e (iha c g ρ rs ers)
 .cases h
theorem Tr.intc:∀{X:Cx}{es':Ex}{e:ai}{p p2:aG}(hg:Gl X "int"),Tr X es' (.a [e])->Tr X (.blt .int es') (.e (.Call (.Name "int" p) [e] [] p2)):=by
 intro _ _ _ _ _ hg q0;refine⟨λΓ G=>?_,λ_ _ _ _ _ _ h=>nomatch h⟩;have iha:=q0.m Γ G;intro c g ρ r h;simp only[ev,vd]at h;split at h
 .rename_i rs ers;cases e:Z1 _ rs with
  |none=>rw[e]at h;cases h
  |some x=>rw[e]at h;cases h;exact Jw (f:=.int) c (λz=>by rcases z with z|z|z|z|z<;>cases z) hg e (iha c g ρ rs ers)
 .cases h
theorem Tr.join:∀{X:Cx}{a':Ex}{a:ai}{sep:af}{n:Nat}{p0 p1 p2:aG}(hbase:aT (.Constant (.str sep) n p0) "join" X.env (ay (.Constant (.str sep) n p0) X.env)=ay (.Constant (.str sep) n p0) X.env) (hfew:((aP p2 (a9 [a] X.env)).all (λx=>!x.1)&&(bY p2 (b9 [] X.env)).all (λx=>x.1.isSome)&&decide (([a]:List ai).length+([]:List b7).length+(if ([]:List b7).isEmpty then 0 else 1)<30))=a6) (hline:(p1.endLine==p2.line)=a6) (hs:a9 [a] X.env=(a4,ay a X.env)::a9 [] X.env),Tr X a' (.e a)->Tr X (.join sep a') (.e (.Call (.Attribute (.Constant (.str sep) n p0) "join" p1) [a] [] p2)):=by
 intro _ _ _ _ _ _ _ _ hbase hfew hline hs q0;refine⟨λΓ G=>?_,λ_ _ _ _ _ _ h=>nomatch h⟩;have iha:=q0.m Γ G;intro c g ρ r h;simp only[ev,Mt]at h;split at h
 .rename_i x ex;split at h
  .rename_i l el;split at h
   .rename_i ts et;obtain⟨z,q⟩:=jx h;cases q;have:=Bx et;subst this;exact DE.join (el▸(iha c g ρ x ex).toT) z hfew hbase hline hs
   .cases h
  .cases h
 .cases h
theorem Tr.enum:∀{X:Cx}{a':Ex}{a:ai}{es:List ai}{n:Nat}{p p2 pt:aG}(hg:Gl X "enumerate") (hs:a9 [a] X.env=[(a4,ay a X.env)]),Tr X a' (.e a)->Tr X (.enum a') (.i (.Tuple es n pt) (.Call (.Name "enumerate" p) [a] [] p2)):=by
 intro _ _ _ _ _ _ _ _ hg hs q0;refine⟨λΓ G=>?_,λ_ _ _ _ _ _ _=>trivial⟩;have iha:=q0.m Γ G;intro c g ρ ds h;simp only[ev,Wd]at h;split at h
 .rename_i x ex;have ha:=iha c g ρ x ex;split at h
  .rename_i l e1;cases h;exact DI.enum a6 (ha.toE e1) (c.bt _ (by decide)) hg hs
  .rename_i l e1;cases h;exact DI.enum a4 (ha.toE e1) (c.bt _ (by decide)) hg hs
  .cases h
 .cases h
theorem Tr.count:∀{X:Cx}{a' es':Ex}{a e:ai}{p1 p2:aG}(hbase:aT a "count" X.env (ay a X.env)=ay a X.env) (hfew:((aP p2 (a9 [e] X.env)).all (λx=>!x.1)&&(bY p2 (b9 [] X.env)).all (λx=>x.1.isSome)&&decide (([e]:List ai).length+([]:List b7).length+(if ([]:List b7).isEmpty then 0 else 1)<30))=a6) (hline:(p1.endLine==p2.line)=a6),Tr X a' (.e a)->Tr X es' (.a [e])->Tr X (.meth .count a' es') (.e (.Call (.Attribute a "count" p1) [e] [] p2)):=by
 intro _ _ _ _ _ _ _ hbase hfew hline q0 q1;refine⟨λΓ G=>?_,λ_ _ _ _ _ _ h=>nomatch h⟩;have iha:=q0.m Γ G;have ihb:=q1.m Γ G;intro c g ρ r h;simp only[ev,Mp]at h;split at h
 .rename_i x rs ex ers;obtain⟨y,e,hy,hs⟩:=(ihb c g ρ rs ers).one;subst e;simp only[j1b]at h;split at h
  .rename_i l el;split at h
   .rename_i z;cases h;exact DE.countT c.un' (el▸(iha c g ρ x ex).toT) hy.toT nofun nofun hbase hfew hline hs
   .cases h
  .rename_i l el;split at h
   .rename_i z;cases h;exact DE.countL c.un' (el▸(iha c g ρ x ex).toT) hy.toT nofun nofun hbase hfew hline hs
   .cases h
  .cases h
 .cases h
theorem Tr.isi1:∀{X:Cx}{a':Ex}{a:ai}{T:af}{c:String}{p p1 p2:aG}(hT:T∈Zy) (hv:aU T=a3 (.type c)) (hg:Gl X "isinstance") (hg2:Gl X T) (hn:T ≠ "__name__") (hd:(T==k7q)=a4) (hs:a9 [a,.Name T p1] X.env=(a4,ay a X.env)::a9 [.Name T p1] X.env),Tr X a' (.e a)->Tr X (.isi a' [c]) (.e (.Call (.Name "isinstance" p) [a,.Name T p1] [] p2)):=by
 intro _ _ _ _ _ _ _ _ hT hv hg hg2 hn hd hs q0;refine⟨λΓ G=>?_,λ_ _ _ _ _ _ h=>nomatch h⟩;have iha:=q0.m Γ G;intro c g ρ r h;simp only[ev,Lz]at h;split at h
 .rename_i x ex;cases e:jy x.d _ with
  |none=>rw[e]at h;cases h
  |some k =>
   rw[e]at h;cases h;refine DE.isi1 (iha c g ρ x ex).toT (j00 e) (c.bt _ (by decide)) (c.bt _ hT) hv ?_ hg hg2 hn hd hs rfl rfl;simp only[jy]at e;split at e
   .rename_i k1 k2 e1 e2;cases e2;cases e;rw[jC];exact Ew e1
   .cases e
 .cases h
theorem Tr.isi2:∀{X:Cx}{a':Ex}{a:ai}{T U:af}{c d:String}{n:Nat}{p p1 p2 p3 p4:aG} (hT:T∈Zy) (hU:U∈Zy) (hv:aU T=a3 (.type c)) (hw:aU U=a3 (.type d)) (hg:Gl X "isinstance") (hg1:Gl X T) (hg2:Gl X U) (hn:T ≠ "__name__") (hd:(T==k7q)=a4) (hn2:U ≠ "__name__") (hd2:(U==k7q)=a4) (hs:a9 [a,.Tuple [.Name T p1,.Name U p3] n p4] X.env=(a4,ay a X.env)::a9 [.Tuple [.Name T p1,.Name U p3] n p4] X.env),Tr X a' (.e a)->Tr X (.isi a' [c,d]) (.e (.Call (.Name "isinstance" p) [a,.Tuple [.Name T p1,.Name U p3] n p4] [] p2)):=by
 intro _ _ _ _ _ _ _ _ _ _ _ _ _ hT hU hv hw hg hg1 hg2 hn hd hn2 hd2 hs q0;refine⟨λΓ G=>?_,λ_ _ _ _ _ _ h=>nomatch h⟩;have iha:=q0.m Γ G;intro c g ρ r h;simp only[ev,Lz]at h;split at h
 .rename_i x ex;cases e:jy x.d _ with
  |none=>rw[e]at h;cases h
  |some k =>rw[e]at h;cases h;exact DE.isi2 (iha c g ρ x ex).toT (j00 e) (c.bt _ (by decide)) (c.bt _ hT) (c.bt _ hU) hv hw (Ly e) hg hg1 hg2 hn hd hn2 hd2 hs rfl rfl rfl rfl
 .cases h
theorem Tr.callV:∀{X:Cx}{i:Nat}{y:af}{es':Ex}{e:ai}{es:List ai}{p p2:aG} (hN:X.N[i]?=a3 y) (hv:Vis X.env.scope y) (hd:(y==k7q)=a4) (hcd:(y==k7r)=a4) (he:a9 (e::es) X.env=(a4,ay e X.env)::a9 es X.env) (hpl:(aP p2 (a9 es X.env)).any (·.1)=a4),Tr X es' (.a (e::es))->Tr X (.callV i es') (.e (.Call (.Name y p) (e::es) [] p2)):=by
 intro _ i y es' e es p p2 hN hv hd hcd he hpl q0;refine⟨λΓ G=>?_,λ_ _ _ _ _ _ h=>nomatch h⟩;have iha:=q0.m Γ G;intro c g ρ r h;simp only[ev,Oa]at h;split at h
 .rename_i x cs rs ei ers;split at h
  .rename_i ds eds;split at h
   .rename_i nf;have q:=g (jr x) (cs++ds);cases z:Γ (jr x) (cs++ds) with
    |lval d =>rw[z]at h q;cases h;obtain⟨k,hr,lk⟩:=q x rfl;exact DE.callV lk hr (Vv ei) ((iha c g ρ rs ers).toA eds) nf ⟨rfl,rfl⟩ hN hv hd hcd he hpl
    |val d=>rw[z]at h;cases h
    |fresh l=>rw[z]at h;cases h
    |err x=>rw[z]at h;cases h
    |no=>rw[z]at h;cases h
   .cases h
  .cases h
 .cases h
theorem Tr.dget:∀{X:Cx}{a' b':Ex}{a b:ai}{p:aG}(hs:Ve b),Tr X a' (.e a)->Tr X b' (.e b)->Tr X (.dget a' b') (.e (.Subscript a b p)):=by
 intro _ _ _ _ _ _ hs q0 q1;refine⟨λΓ G=>?_,λ_ _ _ _ _ _ h=>nomatch h⟩;have iha:=q0.m Γ G;have ihb:=q1.m Γ G;intro c g ρ r h;simp only[ev,O3]at h;split at h
 .rename_i ks ds y ex ey;split at h
  .rename_i k ek;cases e:Qd ks ds k with
   |none=>rw[e]at h;cases h
   |some d=>rw[e]at h;cases h;exact DE.dget c.un' ((iha c g ρ (.e (.dct ks ds)) ex).toE rfl) (Oh ek▸(ihb c g ρ y ey).toT) e hs
  .cases h
 .cases h
theorem Tr.dvals:∀{X:Cx}{a':Ex}{a:ai}{p p1 p2 pos:aG}(hq:X.calm=a6)(hg:Gl X "tuple") (hbase:aT a "values" X.env (ay a X.env)=ay a X.env) (hline:(p1.endLine==p2.line)=a6) (hs2:a9 [.Call (.Attribute a "values" p1) [] [] p2] X.env=[(a4,ay (.Call (.Attribute a "values" p1) [] [] p2) X.env)]),Tr X a' (.e a)->Tr X (.dvals a') (.e (.Call (.Name "tuple" p) [.Call (.Attribute a "values" p1) [] [] p2] [] pos)):=by
 intro _ _ _ _ _ _ _ hq hg hbase hline hs2 q0;refine⟨λΓ G=>?_,λ_ _ _ _ _ _ h=>nomatch h⟩;have iha:=q0.m Γ G;intro c g ρ r h;simp only[ev,O2]at h;split at h
 .rename_i ks ds ex;cases h;exact DE.tupVals ((iha c g ρ (.e (.dct ks ds)) ex).toE rfl) hq (c.bt _ (by decide)) hg hbase hline hs2
 .cases h
theorem Tr.minT:∀{X:Cx}{a':Ex}{a:ai}{p pos:aG}(hq:X.calm=a6)(hg:Gl X "min") (hs:a9 [a] X.env=[(a4,ay a X.env)]),Tr X a' (.e a)->Tr X (.minT a') (.e (.Call (.Name "min" p) [a] [] pos)):=by
 intro _ _ _ _ _ hq hg hs q0;refine⟨λΓ G=>?_,λ_ _ _ _ _ _ h=>nomatch h⟩;have iha:=q0.m Γ G;intro c g ρ r h;simp only[ev,Mm]at h;split at h
 .rename_i x ex;split at h
  .rename_i l el;split at h
   .rename_i ks ek;cases e:ks[aQ (Mr ks) (ks.length-1)]? with
    |none=>rw[e]at h;cases h
    |some k =>rw[e]at h;cases h;exact DT.minT c.un' hq (c.bt _ (by decide)) hg (by have z:=(iha c g ρ x ex).toT;rw[el,Dr ek]at z;exact z) e hs
   .split at h
    .rename_i ks ek;cases e:ks[aQ (Ql ks) (ks.length-1)]? with
     |none=>rw[e]at h;cases h
     |some k =>rw[e]at h;cases h;exact DT.minP c.un' hq (c.bt _ (by decide)) hg (by have z:=(iha c g ρ x ex).toT;rw[el,Ei ek]at z;exact z) e hs
    .cases h
  .cases h
 .cases h
theorem Tr.c0:∀{X:Cx},Tr X .nil (.c []):=by intro _;refine⟨λΓ G=>?_,λ_ _ _ _ _ _ _=>trivial⟩;intro c g ρ;exact⟨λ_=>DTs.nil,λy k h=>by simp only[ev]at h;cases h⟩
theorem Tr.c1:∀{X:Cx}{c':Ex}{c:ai},Tr X c' (.b c)->Tr X (.cons c' .nil) (.c [c]):=by
 intro _ _ _ q0;refine⟨λΓ G=>?_,λ_ _ _ _ _ _ _=>trivial⟩;have iha:=q0.m Γ G;intro c g ρ;refine⟨λh=>?_,λy k h hk=>DTs.one ?_⟩
 .simp only[ev,consW]at h;split at h<;>cases h
 .simp only[ev,consW]at h;split at h
  .rename_i x xs ex exs;cases exs;cases h;exact iha c g ρ k (by rw[ex];simp only[truth,hk])
  .cases h
theorem Tr.comp1:∀{X:Cx}{i:Nat}{y:af}{py p:aG}{elt' it' c':Ex}{elt it:ai}{ifs:List ai} {scope:aX} (hq:X.calm=a6) (hi:X.N[i]?=a3 y) (hl:Vw scope y=a6) (hkind:scope.kind=.function) (hok:Jc scope X.env X.N [i]=a6) (hs:∀x,aD it X.env x=pure x),Tr X it' (.i (.Name y py) it)->(∀C s H fp pn,Tr (cCx X scope C s H fp pn) elt' (.e elt))->(∀C s H fp pn,Tr (cCx X scope C s H fp pn) c' (.c ifs))->Tr X (.comp [i] elt' it' c') (.e (.ListComp elt [⟨.Name y py,it,ifs,0⟩] scope p)):=by
 intro _ _ _ _ _ _ _ _ _ _ _ _ hq hi hl hkind hok hs q0 q1 q2;refine⟨λΓ G=>?_,λ_ _ _ _ _ _ h=>nomatch h⟩;have ihi:=q0.m Γ G;have ihe:=λC s H fp pn=>(q1 C s H fp pn).m Γ G;have ihc:=λC s H fp pn=>(q2 C s H fp pn).m Γ G;intro c g ρ r h;obtain⟨l,e,q⟩:=O5 hq c (λρ ds z=>ihi c g ρ ds z) hkind hok hs (λρ d ρ2 hb hun=>by
  simp only[zf]at hb
  cases hb
  have hu:=hun _ (xq.mpr rfl)
  exact⟨_,jk,Wk.set hu,Zn hu,λC s H fp pn=>DG.name _ c.nd hi (W8 hl) (M5 hl)⟩)
  (λC s H fp pn ρ r z=>ihe C s H fp pn c.comp g.comp ρ r z) (λC s H fp pn ρ=>ihc C s H fp pn c.comp g.comp ρ) h
 subst e;exact q
theorem Tr.comp2:∀{X:Cx}{i j:Nat}{x y:af}{px py pt p:aG}{n:Nat}{elt' it' c':Ex}{elt it:ai} {ifs:List ai} {scope:aX} (hq:X.calm=a6) (hij:i≠j) (hi:X.N[i]?=a3 x) (hj:X.N[j]?=a3 y) (hl:Vw scope x=a6) (hl':Vw scope y=a6) (hkind:scope.kind=.function) (hok:Jc scope X.env X.N [i,j]=a6) (hs:∀x,aD it X.env x=pure x),Tr X it' (.i (.Tuple [.Name x px,.Name y py] n pt) it)->(∀C s H fp pn,Tr (cCx X scope C s H fp pn) elt' (.e elt))->(∀C s H fp pn,Tr (cCx X scope C s H fp pn) c' (.c ifs))->Tr X (.comp [i,j] elt' it' c') (.e (.ListComp elt [⟨.Tuple [.Name x px,.Name y py] n pt,it,ifs,0⟩] scope p)):=by
 intro _ i j _ _ _ _ _ _ _ _ _ _ _ _ _ _ hq hij hi hj hl hl' hkind hok hs q0 q1 q2;refine⟨λΓ G=>?_,λ_ _ _ _ _ _ h=>nomatch h⟩;have ihi:=q0.m Γ G;have ihe:=λC s H fp pn=>(q1 C s H fp pn).m Γ G;have ihc:=λC s H fp pn=>(q2 C s H fp pn).m Γ G;intro c g ρ r h;obtain⟨l,e,q⟩:=O5 hq c (λρ ds z=>ihi c g ρ ds z) hkind hok hs (λρ d ρ2 hb hun=>by
  simp only[zf]at hb
  split at hb
  .rename_i a b
   cases hb
   have hu:=hun _ (xm ..)
   have hu':=hun _ (xf _ (xq.mpr rfl))
   have h1:(ρ.set i (.val a))[j]?=a3 Sl.un:=by rw[zg hij];exact hu'
   exact⟨(ρ.set i (.val a)).set j (.val b),by rw[jk,jk];rfl,λK σ H R=>Wk.set hu K σ H (Wk.set h1 K σ H R),by rw[Zn h1,Zn hu],
    λC s H fp pn=>DG.pair _ _ hij c.nd hi hj (W8 hl) (W8 hl') (M5 hl) (M5 hl') hq⟩
  .cases hb)
  (λC s H fp pn ρ r z=>ihe C s H fp pn c.comp g.comp ρ r z) (λC s H fp pn ρ=>ihc C s H fp pn c.comp g.comp ρ) h
 subst e;exact q
theorem Tr.seq:∀{X:Cx}{a':Ex}{tg a:ai},Tr X a' (.e a)->Tr X (.seq a') (.i tg a):=by
 intro _ _ _ _ q0;refine⟨λΓ G=>?_,λ_ _ _ _ _ _ _=>trivial⟩;have iha:=q0.m Γ G;intro c g ρ ds h;simp only[ev,Ot]at h;split at h
 .rename_i l e;cases h;exact DI.lst (iha c g ρ _ e)
 .rename_i l e;cases h;exact DI.tup (iha c g ρ _ e)
 .rename_i l e;cases h;exact DI.lst (DO.toE (iha c g ρ _ e))
 .rename_i y e;obtain⟨z,q⟩:=jx h;cases q;exact DI.str (iha c g ρ _ e).toT z
 .cases h
theorem Tr.range:∀{X:Cx}{es':Ex}{tg:ai}{es:List ai}{p p2:aG}(hg:Gl X "range"),Tr X es' (.a es)->Tr X (.range es') (.i tg (.Call (.Name "range" p) es [] p2)):=by
 intro _ _ _ _ _ _ hg q0;refine⟨λΓ G=>?_,λ_ _ _ _ _ _ _=>trivial⟩;have iha:=q0.m Γ G;intro c g ρ ds h;simp only[ev,Mh]at h;split at h
 .rename_i x ex;have q:=iha c g ρ _ ex;cases q with|cons hs hx t =>
  cases t;split at h
  .rename_i n en;obtain⟨z,q⟩:=jx h;cases q;exact DI.range1 (en▸hx.toT) (c.bt _ (by decide)) z.1 z.2 hg hs
  .cases h
 .rename_i x y ex;have q:=iha c g ρ _ ex;cases q with|cons hs hx t =>
  cases t with|cons hs2 hy t2 =>
  cases t2;split at h
  .rename_i m n em en;obtain⟨z,q⟩:=jx h;cases q;exact DI.range2 (em▸hx.toT) (en▸hy.toT) (c.bt _ (by decide)) z.1 z.2.1 z.2.2.1 z.2.2.2 hg (by rw[hs,hs2];rfl) hs2 hs
  .cases h
 .cases h
section
variable{Γ:af->List D->Rc}{G:af->Option D}{X:Cx}
theorem sound{t:Ex}{nd:Nd}(h:Tr X t nd):Cok X G->Gok X Γ->je6 Γ G X t nd:=h.m Γ G
theorem Cg{t:Ex}{nd:Nd}(h:Tr X t nd):Cok X G->Gok X Γ->∀ρ y,er Γ G t (j8 ρ)=a3 y->XM X ρ y nd:=h.x Γ G
end
inductive Sx where
 |nop
 |seq (a b:Sx)
 |set (i:Nat) (e:Ex)
 |mov (i j:Nat)
 |expr (e:Ex)
 |ret (e:Ex)
 |retV (i:Nat)
 |ife (c:Ex) (a b:Sx)
 |loop (is:List Nat) (it:Ex) (body:Sx)
 |app (i:Nat) (e:Ex)
 |ext (i:Nat) (e:Ex)
 |fgt (i:Nat)
 |keep (i:Nat)
 |dcp (i j:Nat) (k e:Ex)
 |taken (h q:Nat) (a b c t:Ex)
 |unp (i j:Nat) (e:Ex)
 |dmake (x t y:Nat) (it e:Ex)
 |ioN (es e:Ex)
 |retL (x:af) (is:List Nat)
 |retC (f x:af) (a b:Ex) (is:List Nat)
 |nmake (x t y:Nat) (it e1 e2:Ex)
 |pop3 (i j k w:Nat)
 |apop (i w:Nat) (e:Ex)
 |wmake (x t:Nat) (it e:Ex)
 |fail
inductive So where
 |next (ρ:En)
 |ret (r:Rc)
 |brk (ρ:En)
 |cnt (ρ:En)
 |err (x:af) (ρ:En)
 |no
noncomputable def orE(o:So)(x:Option af)(ρ:En):So:=match o with
 |.no=>match x with
  |some y=>.err y ρ
  |none=>.no
 |o=>o
noncomputable def Q0(f:D->En->So):List D->En->So
 |[],ρ=>.next ρ
 |d::ds,ρ=>match f d ρ with
  |.next ρ'=>Q0 f ds ρ'
  |.cnt ρ'=>Q0 f ds ρ'
  |.brk ρ'=>.next ρ'
  |.ret r=>.ret r
  |.err x ρ'=>.err x ρ'
  |.no=>.no
noncomputable def j20(c:En->Option Bool)(f:En->So):Nat->En->So
 |0,_=>.no
 |n+1,ρ=>match c ρ with
  |some a4=>.next ρ
  |some a6=>match f ρ with
   |.next ρ'=>j20 c f n ρ'
   |.cnt ρ'=>j20 c f n ρ'
   |.brk ρ'=>.next ρ'
   |.ret r=>.ret r
   |.err x ρ'=>.err x ρ'
   |.no=>.no
  |none=>.no
noncomputable def stOf:Option W->Option D
 |some (.v x)=>x.st
 |_=>a7
noncomputable def j1p(f:En->Option D)(t y:Nat):List D->En->List (List Int)->List D->Option (List (List Int)×List D)
 |[],_,ks,vs=>a3 (ks,vs)
 |d::ds,ρ,ks,vs=>match d with
  |.tup l=>match intsOf l,f (ρ.set t (.val d)) with
   |some k,a3 d'=>if d'.isNon=a6 then j1p f t y ds ((ρ.set t (.val d)).set y (.val d')) ks vs
    else if ks.contains k=a4/\ks.length<aj then j1p f t y ds ((ρ.set t (.val d)).set y (.val d')) (ks++[k]) (vs++[d'])else a7
   |_,_=>a7
  |_=>a7
noncomputable def V7(f1 f2:En->Option D)(x t y:Nat):List D->En->List (List Int)->List Int->Option (List (List Int)×List Int)
 |[],_,ks,ns=>a3 (ks,ns)
 |d::ds,ρ,ks,ns=>match d with
  |.tup l=>match intsOf l,f1 (ρ.set t (.val d)) with
   |some k,a3 d1=>match f2 (((ρ.set t (.val d)).set y (.val d1)).set x (.val (.dct ks (ns.map D.int)))) with
    |some (.int n)=>if ks.contains k=a4/\ks.length<aj then V7 f1 f2 x t y ds ((ρ.set t (.val d)).set y (.val d1)) (ks++[k]) (ns++[n])else a7
    |_=>a7
   |_,_=>a7
  |_=>a7
noncomputable def j79(f2:En->Option D)(x t:Nat):List D->En->List (List Int)->List Int->Option (List (List Int)×List Int)
 |[],_,ks,ns=>a3 (ks,ns)
 |d::ds,ρ,ks,ns=>match d with
  |.tup l=>match intsOf l,f2 ((ρ.set t (.val d)).set x (.val (.dct ks (ns.map D.int)))) with
   |some k,a3 (.int n)=>if ks.contains k=a4/\ks.length<aj then j79 f2 x t ds (ρ.set t (.val d)) (ks++[k]) (ns++[n])else a7
   |_,_=>a7
  |_=>a7
noncomputable def Qs(ρ:En):List Nat->Option (List D)
 |[]=>a3 []
 |i::is=>match ρ[i]?,Qs ρ is with
  |some (.val d),a3 ds=>a3 (d::ds)
  |_,_=>a7
noncomputable def Oq(i:Nat)(w:Option W)(ρ:En):So:=match w with
 |some (.v (.o l))=>.next (ρ.set i (.own l))
 |some (.v x)=>match x.st with
  |some d=>.next (ρ.set i (.val d))
  |none=>.no
 |_=>.no
noncomputable def retS(w:Option W):So:=match w with
 |some (.v (.o l))=>.ret (.fresh l)
 |some (.v x)=>.ret (.val x.d)
 |_=>.no
noncomputable def Mg(s:Option Sv):So:=match s with
 |some (.own l)=>.ret (.fresh l)
 |some (.val d)=>.ret (.val d)
 |_=>.no
noncomputable def j19(i j:Nat)(s:Option Sv)(ρ:En):So:=match s with
 |some (.own l)=>if i=j then .no else .next ((ρ.set j .un).set i (.own l))
 |some (.val d)=>.next (ρ.set i (.val d))
 |_=>.no
noncomputable def j1m(w:Option W)(ρ:En):So:=match w with
 |some (.v _)=>.next ρ
 |_=>.no
noncomputable def Ry(i:Nat)(s:Option Sv)(w:Option W)(ρ:En):So:=match s,w with
 |some (.own l),a3 (.v x)=>match x.st with
  |some d=>if l.length<aj then .next (ρ.set i (.own (l++[d])))else .no
  |none=>.no
 |_,_=>.no
noncomputable def K6(i:Nat)(s:Option Sv)(w:Option W)(ρ:En):So:=match s,w with
 |some (.own l),a3 (.v (.o m))=>if jl (l.length+m.length)=a6 then .next (ρ.set i (.own (l++m)))else .no
 |_,_=>.no
noncomputable def jfy(i j:Nat)(d:Option D)(ρ:En):So:=match d with
 |some (.tup [d,d'])=>if i=j then .no else .next ((ρ.set i (.val d)).set j (.val d'))
 |_=>.no
noncomputable def Dl(i:Nat)(v:Option Sv)(ρ:En):So:=match v with
 |some (.own l)=>.next (ρ.set i (.val (.lst l)))
 |some (.val _)=>.next ρ
 |_=>.no
noncomputable def jgv(i j:Nat)(v:Option Sv)(k e:Option W)(ρ:En):So:=if i≠j/\i<ρ.length then match v with
  |some (.val (.sct kvs))=>match k,e with
   |some (.v y),a3 (.v x)=>match y.d,x.d with
    |.str z,.int n=>if kvs.length<aj then .next (ρ.set i (.val (.sct (dput kvs z n))))else .no
    |_,_=>.no
   |_,_=>.no
  |_=>.no
 else .no
noncomputable def jep(x:af)(v:Option (List D)):So:=match v with
 |some ds=>.ret (.val (.fn x ds))
 |none=>.no
noncomputable def Dj(r:Rc):So:=match r with
 |.val d=>if noFn d=a6 then .ret (.val d)else .no
 |_=>.no
noncomputable def Di(Γ:af->List D->Rc)(f x:af)(v:Option (List D))(a b:Option W):So:=match v,a,b with
 |some ds,a3 (.v u),a3 (.v v)=>Dj (Γ f [u.d,v.d,.fn x ds])
 |_,_,_=>.no
noncomputable def popS(i j k w:Nat)(s:Option Sv)(ρ:En):So:=match s with
 |some (.own l)=>match l.getLast? with
  |some (.tup [a,b,c])=>.next ((((ρ.set w (.own l.dropLast)).set i (.val a)).set j (.val b)).set k (.val c))
  |_=>.no
 |_=>.no
noncomputable def jfu(i w:Nat)(s t:Option Sv)(x:Option W)(ρ:En):So:=match s,t,x with
 |some (.own l),a3 (.own m),a3 (.v y)=>match y.st with
  |some (.int z)=>match ixN m.length z with
   |some k=>match m[k]? with
    |some d=>if i≠w/\l.length<aj/\m.length<=1000000 then .next ((ρ.set w (.own (m.eraseIdx k))).set i (.own (l++[d])))else .no
    |none=>.no
   |none=>.no
  |_=>.no
 |_,_,_=>.no
noncomputable def run(fu:Nat)(Γ:af->List D->Rc)(G:af->Option D):Sx->En->So
 |.nop,ρ=>.next ρ
 |.seq a b,ρ=>match run fu Γ G a ρ with
  |.next ρ'=>run fu Γ G b ρ'
  |o=>o
 |.set i e,ρ=>orE (Oq i (ev Γ G e ρ) ρ) (er Γ G e ρ) ρ
 |.mov i j,ρ=>j19 i j ρ[j]? ρ
 |.expr e,ρ=>orE (j1m (ev Γ G e ρ) ρ) (er Γ G e ρ) ρ
 |.ret e,ρ=>orE (retS (ev Γ G e ρ)) (er Γ G e ρ) ρ
 |.retV i,ρ=>Mg ρ[i]?
 |.ife c a b,ρ=>match truth (ev Γ G c ρ) with
  |some a6=>run fu Γ G a ρ
  |some a4=>run fu Γ G b ρ
  |none=>.no
 |.loop is it body,ρ=>match ev Γ G it (frz it ρ) with
  |some (.i ds)=>Q0 (λd ρ=>match zf is d ρ with
   |some ρ2=>run fu Γ G body ρ2
   |none=>.no) ds (frz it ρ)
  |_=>.no
 |.app i e,ρ=>Ry i ρ[i]? (ev Γ G e ρ) ρ
 |.ext i e,ρ=>K6 i ρ[i]? (ev Γ G e ρ) ρ
 |.fgt i,ρ=>.next (ρ.set i .un)
 |.keep i,ρ=>Dl i ρ[i]? ρ
 |.dcp i j k e,ρ=>jgv i j ρ[j]? (ev Γ G k (ρ.set i .un)) (ev Γ G e (ρ.set i .un)) ρ
 |.taken h q a b e t,ρ=>if h≠q/\h<ρ.length then match ev Γ G a ρ,ev Γ G b ρ with
   |some (.v (.o la)),a3 (.v (.o lb))=>match ev Γ G e (ρ.set h (.val (.lst [.lst la,.lst lb]))) with
    |some (.v x)=>match x.st with
     |some d=>if Jy d=a6/\truth (ev Γ G t ((ρ.set h (.val (.lst [.lst la,.lst lb]))).set q (.val d)))=a3 a4 then .next ((ρ.set h (.val (.lst [.lst la.reverse,.lst []]))).set q (.val d))else .no
     |none=>.no
    |_=>.no
   |_,_=>.no
  else .no
 |.unp i j e,ρ=>jfy i j (stOf (ev Γ G e ρ)) ρ
 |.dmake x t y it e,ρ=>if x<ρ.length/\t<ρ.length/\y<ρ.length/\x≠t/\x≠y/\t≠y then match ev Γ G it (ρ.set x .un) with
   |some (.i ds)=>match j1p (λρ=>stOf (ev Γ G e ρ)) t y ds (ρ.set x .un) [] [] with
    |some r=>.ret (.val (.dct r.1 r.2))
    |none=>.no
   |_=>.no
  else .no
 |.ioN es e,ρ=>match G (qm "_law_plan"),ev Γ G es ρ,ev Γ G e ρ with
  |some _,a3 (.a [x,y,z]),a3 (.v (.o [.int n]))=>match x.d,y.d,z.d with
   |.lst ls,.int dv,.int k=>match strsOf ls with
    |some ws=>if 0<=k/\k<=5/\ws.length<=60 then .ret (.val (Vz k.toNat ws dv n).1)else .no
    |none=>.no
   |_,_,_=>.no
  |_,_,_=>.no
 |.retL x is,ρ=>jep x (Qs ρ is)
 |.retC f x a b is,ρ=>Di Γ f x (Qs ρ is) (ev Γ G a ρ) (ev Γ G b ρ)
 |.nmake x t y it e1 e2,ρ=>if x<ρ.length/\t<ρ.length/\y<ρ.length/\x≠t/\x≠y/\t≠y then match ev Γ G it (ρ.set x .un) with
   |some (.i ds)=>match V7 (λρ=>stOf (ev Γ G e1 ρ)) (λρ=>stOf (ev Γ G e2 ρ)) x t y ds (ρ.set x .un) [] [] with
    |some r=>.ret (.val (.dct r.1 (r.2.map D.int)))
    |none=>.no
   |_=>.no
  else .no
 |.wmake x t it e,ρ=>if x<ρ.length/\t<ρ.length/\x≠t then match ev Γ G it (ρ.set x .un) with
   |some (.i ds)=>match j79 (λρ=>stOf (ev Γ G e ρ)) x t ds (ρ.set x .un) [] [] with
    |some r=>.ret (.val (.dct r.1 (r.2.map D.int)))
    |none=>.no
   |_=>.no
  else .no
 |.apop i w e,ρ=>jfu i w ρ[i]? ρ[w]? (ev Γ G e ρ) ρ
 |.pop3 i j k w,ρ=>popS i j k w ρ[w]? ρ
 |.fail,_=>.no
def j77(X:Cx):List (af×aa)->List Nat->Prop
 |[],is=>is=[]
 |p::cl,is=>∃(i:Nat)(r:List Nat),is=i::r/\X.N[i]?=a3 p.1/\X.env.scope.names.lookup p.1=a3 .cell/\X.env.cells.lookup p.1=a3 p.2/\X.fn p.1=a6/\j77 X cl r
theorem j0f{X:Cx}{ρ:Rho}:∀{cl:List (af×aa)} {is:List Nat} {ds:List D},j77 X cl is->Qs (j8 ρ) is=a3 ds->Z6 X ρ cl ds
 |[],_,ds,h,e=>by cases h;cases e;rfl
 |p::cl,_,ds,⟨i,r,ei,h1,h2,h3,h4,l⟩,e=>by
  subst ei;unfold Qs at e;split at e
  .rename_i d ds' e1 e2;cases e;exact⟨d,ds',i,rfl,h1,h2,h3,h4,Vv e1,j0f l e2⟩
  .cases e
inductive Ns where
 |s (st:aW)
 |ss (sts:List aW)
noncomputable def Rt.rc:Rt->Rc
 |.val d=>.val d
 |.fresh l=>.fresh l
def Yc(o:So)(P:Po):Prop:=match o with
 |.next ρ'=>∀ρ2,j8 ρ2=ρ'->P.nx ρ2
 |.ret r=>∀x:Rt,x.rc=r->P.rt x
 |.brk ρ'=>∀ρ2,j8 ρ2=ρ'->P.bk ρ2
 |.cnt ρ'=>∀ρ2,j8 ρ2=ρ'->P.ct ρ2
 |.err x ρ'=>∀ρ2,j8 ρ2=ρ'->P.ex x ρ2
 |.no=>False
theorem Vx{o:So}{x:Option af}{ρ:En}{P:Po}(h:Yc (orE o x ρ) P):Yc o P\/∃y,x=a3 y/\∀ρ2,j8 ρ2=ρ->P.ex y ρ2:=by
 cases o with
 |no =>
  cases x with
  |none=>exact h.elim
  |some y=>exact .inr ⟨y,rfl,h⟩
 |_=>exact .inl h
def j7s(fu:Nat)(Γ:af->List D->Rc)(G:af->Option D)(X:Cx)(t:Sx):Ns->Prop
 |.s st=>∀ρ P,Yc (run fu Γ G t (j8 ρ)) P->DS X ρ st P
 |.ss sts=>∀ρ P,Yc (run fu Γ G t (j8 ρ)) P->DSs X ρ sts P
section
variable{K:k7m}{ρ:Rho}{σ:St}{H:Hp}{i j:Nat}{a:aa}{l:List D}
theorem Rep.move(R:Rep K ρ σ H)(hj:ρ[j]?=a3 (.own a l))(hij:i≠j):Rep K ((ρ.set j .un).set i (.own a l)) (σ.set i (a3 (.ref a))) H:=by
 have s1:(owns (ρ.set j .un)).Sublist (owns ρ):=jf rfl;have na:a∉owns (ρ.set j .un):=λz=>by
  obtain⟨k,l',q⟩:=Zo z;rcases getElem?_set_of q with ⟨_,z,_⟩|⟨n,q⟩
  .cases z
  .exact n (Vk R.nd hj q)
 obtain⟨nd,sub⟩:=J8 (ds:=l) (i:=i) (s1.nodup R.nd) na;have g:j4 (del H (owns ρ)) (del H (owns ((ρ.set j .un).set i (.own a l)))):=zx λb hb=>by
  rcases sub b hb with e|z
  .exact e▸Js hj
  .exact s1.subset z
 refine⟨by simp[R.len],λk d' h=>?_,λk b ds' h=>?_,nd,λk b o x h=>?_,R.tb⟩
 .rcases getElem?_set_of h with ⟨rfl,z,_⟩|⟨n,h⟩
  .cases z
  .rcases getElem?_set_of h with ⟨rfl,z,_⟩|⟨n2,h⟩
   .cases z
   .obtain⟨u,q,e⟩:=R.val k d' h;exact⟨u,by rw[zg n];exact q,e.mono g⟩
 .rcases getElem?_set_of h with ⟨rfl,z,hl⟩|⟨n,h⟩
  .cases z;obtain⟨_,xs,hx,en⟩:=R.own j a l hj;exact⟨Uj (by rw[R.len];simpa using hl),xs,hx,en.mono g⟩
  .rcases getElem?_set_of h with ⟨rfl,z,_⟩|⟨n2,h⟩
   .cases z
   .obtain⟨q,xs,hx,en⟩:=R.own k b ds' h;exact⟨by rw[zg n];exact q,xs,hx,en.mono g⟩
 .rcases getElem?_set_of h with ⟨rfl,z,_⟩|⟨n,h⟩
  .cases z
  .rcases getElem?_set_of h with ⟨rfl,z,_⟩|⟨n2,h⟩
   .cases z
   .obtain⟨q,h,z⟩:=R.raw k b o x h;exact⟨by rw[zg n];exact q,g _ _ h,z⟩
end
section
variable{X:Cx}{ρ:Rho}{e a b c:ai}{es:List ai}{st:aW}{rest sa sb body:List aW}{P:Po}{d:D}{ds ds':List D}{pos p p1 p2 p3:aG}{x y:af}{i j:Nat}
theorem DS.freeze(i:Nat){l:aa}(h:ρ[i]?=a3 (.own l ds))(h2:DS X (ρ.set i (.val (.lst ds))) st P):DS X ρ st P:=λσ H E R q =>h2 σ H E (R.freeze h) (q.step (.drop λb hb=>(jf rfl).subset hb))
theorem DS.mov{l:aa}(hk:ρ[j]?=a3 (.own l ds))(hij:i≠j)(h:P.nx ((ρ.set j .un).set i (.own l ds)))(hN:X.N.Nodup)(hi:X.N[i]?=a3 x)(hj:X.N[j]?=a3 y)(hx:Loc X.env.scope x)
  (hf:X.fn x=a6\/X.env.scope.names.lookup x=a3 .local) (hv:Vis X.env.scope y) (hd:(y==k7q)=a4) (hcd:(y==k7r)=a4):DS X ρ (.Assign [.Name x p] (.Name y p1) pos) P:=λσ H E R q=>by
 obtain⟨hs,xs,m,en⟩:=R.own j l ds hk;refine(Yl hN hi hx (Qa hj hv hd hcd) rfl hf).to ⟨_,hs,q.nx _ _ H h (R.move hk hij) (.drop λb hb=>?_)⟩;have s1:(owns (ρ.set j .un)).Sublist (owns ρ):=jf rfl;have na:l∉owns (ρ.set j .un):=λz=>by
  obtain⟨k,l',q⟩:=Zo z;rcases getElem?_set_of q with ⟨_,z,_⟩|⟨n,q⟩
  .cases z
  .exact n (Vk R.nd hk q)
 rcases(J8 (ds:=ds) (i:=i) (s1.nodup R.nd) na).2 b hb with z|z
 .exact z▸Js hk
 .exact s1.subset z
theorem DS.setCf{ρf:Rho}{tg elt iter:ai}{ifs:List ai}{scope:aX}{spos:aG}(i:Nat)(cs:List Nat)(pr:D->Bool)(g:D->D)(hfr:∀K σ H,Rep K ρ σ H->Rep K ρf σ H)(hno:ρf=ρ\/z9 ((ds.filter pr).map g)=a6)(hi:DI X ρf tg iter ds)
  (hb:∀C s H fp pn,∀d∈ds,∃ρ2,DG (cCx X scope C s H fp pn) ρf tg d ρ2/\Wk ρ2 ρf/\owns ρ2=owns ρf/\DTs (cCx X scope C s H fp pn) ρ2 ifs (pr d)/\(pr d=a6->DE (cCx X scope C s H fp pn) ρ2 elt (g d)))
  (h:∀l,P.nx (ρ.set i (.own l ((ds.filter pr).map g)))) (hN:X.N.Nodup) (hcs:∀j∈cs,ρf[j]?=a3 .un) (hsz:ds.length<=aj) (hX:X.N[i]?=a3 x) (hx:Loc X.env.scope x)
  (hf:X.fn x=a6\/X.env.scope.names.lookup x=a3 .local)
  (hsw:aN (.ListComp elt [⟨tg,iter,ifs,0⟩] scope pos) (a3 (.Name x p1)) spos.line X.env=pure a6)
  (hc:X.calm=a6) (hkind:scope.kind=.function) (hok:Jc scope X.env X.N cs=a6)
  (hs:∀x,aD iter X.env x=pure x):DS X ρ (.Assign [.Name x p1] (.ListComp elt [⟨tg,iter,ifs,0⟩] scope pos) spos) P:=λσ H E R q pins s I=>by
 have Rf:=hfr _ _ _ R;rw[exec_Assign_Name_used _ _ _ _ hsw];refine a5 (gO (a5 ?_));show ao _ X.A (do let _ <-comprehension (.ListComp elt [⟨tg,iter,ifs,0⟩] scope pos) scope X.env _ (newList []) a4 (ay iter X.env) (a3 (eA (.Name x p1) X.env))) _ _ s;refine a5 (bp (gP (use:=a3 (eA (.Name x p1) X.env)) (Q:=λ_ s'=>SP X pins E .next s') rfl hs (O7 (Ww hok)) hkind (W3 hok)
  (thn (hi σ H (λJ H'=>j4 H H'/\Yi X.K (del H' (owns ρf)) J ds) Rf (λJ H' g1 ok=>⟨g1,ok⟩) pins s I) λv s1 h1=>thn h1 λitv s2 h2=>?_)) (λ_ s' hq=>ah (ah hq)) λ_ _ e=>e)
 obtain⟨it,fp,tn,J,H2,e,I2,T,st2,f2,g2,ok⟩:=h2;subst e;refine Nv (RR:=λacc C=>compPost (aw X.prog X.w) X.A X.xe (a3 (eA (.Name x p1) X.env)) (λ_ s'=>SP X pins E .next s') acc C) I2 (Rf.grow g2) T st2 f2 ok hc hkind hok hcs hsz hb ?_;intro D C xs H' s' m I' gg n m' en hm L;show ao _ X.A (eA (.Name x p1) X.env (.ref D)) _ _ _;refine jJ (By I' hN hX hx (v:=.ref D) rfl (λs'' I'' ⟨a,sb,ha⟩=>?_) hf);have hCa:C≠a:=by
  rcases ha with e|e
  .rw[e];exact L.loc
  .exact cw (L.cell x a e)
 have en':j5 X.K (del H' (D::owns ρ)) ((ds.filter pr).map g) xs:=by
  rcases hno with e|e
  .rw[e]at en;exact en
  .exact(en.mono jo).hide (λc hc=>by
    rcases xr.mp hc with z|z
    .rw[z];exact .inl ⟨xs,m'⟩
    .exact .inl ((R.grow (g2.trans gg)).owned c z)) e
 refine⟨m,hm.sameBut sb hCa,λh' sb'=>⟨σ.set i (a3 (.ref D)),H',I''.loose L sb',?_⟩⟩;exact q.nx _ _ H' (h D) (R.set_own (g2.trans gg) (g2.free n) m' en') (Fr0.new R (g2.trans gg) (g2.free n))
end
section
variable{fu:Nat}{Γ:af->List D->Rc}{G:af->Option D}{X:Cx}{P:Po}
theorem bind1{i:Nat}{y:af}{p:aG}(nd:X.N.Nodup)(hi:X.N[i]?=a3 y)(hx:Loc X.env.scope y)(hf:X.fn y=a6\/X.env.scope.names.lookup y=a3 .local) :
  ∀ρ d ρ2,zf [i] d (j8 ρ)=a3 ρ2->∃ρ',j8 ρ'=ρ2/\DG X ρ (.Name y p) d ρ':=λρ d ρ2 h=>by
 simp only[zf]at h;cases h;exact⟨_,jk,DG.name _ nd hi hx hf⟩
theorem jfs{i j:Nat}{x y:af}{n:Nat}{p q pt:aG}(hc:X.calm=a6)(hij:i≠j)(nd:X.N.Nodup)(hi:X.N[i]?=a3 x)(hj:X.N[j]?=a3 y)(hx:Loc X.env.scope x)(hy:Loc X.env.scope y)
  (hf:X.fn x=a6\/X.env.scope.names.lookup x=a3 .local) (hg:X.fn y=a6\/X.env.scope.names.lookup y=a3 .local) :
  ∀ρ d ρ2,zf [i,j] d (j8 ρ)=a3 ρ2->∃ρ',j8 ρ'=ρ2/\DG X ρ (.Tuple [.Name x p,.Name y q] n pt) d ρ':=λρ d ρ2 h=>by
 simp only[zf]at h;split at h
 .rename_i a b;cases h;exact⟨(ρ.set i (.val a)).set j (.val b),by rw[jk,jk];rfl,DG.pair _ _ hij nd hi hj hx hy hf hg hc⟩
 .cases h
theorem jdy{i j k:Nat}{x y z:af}{n:Nat}{p q r pt:aG}(hc:X.calm=a6)(nd:X.N.Nodup)(hi:X.N[i]?=a3 x)(hj:X.N[j]?=a3 y)(hk:X.N[k]?=a3 z)(hx:Loc X.env.scope x)(hy:Loc X.env.scope y)(hz:Loc X.env.scope z)
  (hf:X.fn x=a6\/X.env.scope.names.lookup x=a3 .local) (hg:X.fn y=a6\/X.env.scope.names.lookup y=a3 .local) (hh:X.fn z=a6\/X.env.scope.names.lookup z=a3 .local) :
  ∀ρ d ρ2,zf [i,j,k,k] d (j8 ρ)=a3 ρ2->∃ρ',j8 ρ'=ρ2/\DG X ρ (.Tuple [.Name x p,.Name y q,.Name z r] n pt) d ρ':=λρ d ρ2 h=>by
 simp only[zf]at h;split at h
 .rename_i a b c;cases h;exact⟨((ρ.set i (.val a)).set j (.val b)).set k (.val c),by rw[jk,jk,jk];rfl,DG.three nd hi hj hk hx hy hz hf hg hh hc⟩
 .cases h
theorem DS.setX{e:ai}{x y:af}{i:Nat}{p pos:aG}{ρ:Rho}(he:DX X ρ e y)(h:P.ex y ρ)(hN:X.N.Nodup)(hi:X.N[i]?=a3 x)(hx:Loc X.env.scope x)(hs:aN e (a3 (.Name x p)) pos.line X.env=pure a4)(hf:X.fn x=a6\/X.env.scope.names.lookup x=a3 .local) :
  DS X ρ (.Assign [.Name x p] e pos) P:=λσ H E R q=>(Yl hN hi hx peS hs hf).to (he σ H _ R (q.ex y ρ σ H h R (Fr0.refl _ _)))
theorem DS.exprX{e:ai}{y:af}{pos:aG}{ρ:Rho}(he:DX X ρ e y)(h:P.ex y ρ)(hs:aN e a7 pos.line X.env=pure a4):DS X ρ (.Expr e pos) P:=λσ H E R q =>(W9 peS hs).to (he σ H _ R (q.ex y ρ σ H h R (Fr0.refl _ _)))
theorem DS.retX{e:ai}{y:af}{pos:aG}{ρ:Rho}(he:DX X ρ e y)(h:P.ex y ρ):DS X ρ (.Return (a3 e) pos) P:=λσ H E R q =>(Um peS).to (he σ H _ R (q.ex y ρ σ H h R (Fr0.refl _ _)))
theorem Yx{is:List Nat}{it':Ex}{b:Sx}{it tg:ai}{body:List aW}{pos:aG}{ρ:Rho}(hq:X.calm=a6)(c:Cok X G)(hs:∀x,aD it X.env x=pure x)
  (hb:∀ρ d ρ2,zf is d (j8 ρ)=a3 ρ2->∃ρ',j8 ρ'=ρ2/\DG X ρ tg d ρ') (hi:∀ρ ds,ev Γ G it' (j8 ρ)=a3 (.i ds)->DI X ρ tg it ds)
  (ih:∀ρ P,Yc (run fu Γ G b (j8 ρ)) P->DSs X ρ body P) (h:Yc (run fu Γ G (.loop is it' b) (j8 ρ)) P):DS X ρ (.For tg it body [] pos) P:=by
 have main:∀ρf:Rho,j8 ρf=frz it' (j8 ρ)->DS X ρf (.For tg it body [] pos) P:=λρf ef=>by
  unfold run at h;rw[<-ef]at h;split at h
  .rename_i ds hds;generalize hf:(λd ρ=>_:D->En->So)=f at h;refine DS.for (ds:=ds) (λi ρ'=>Yc (Q0 f (ds.drop i) (j8 ρ')) P) (hi ρf ds hds) (by rw[fA];exact h) (λi d ρ' hd w=>?_) (λρ' w=>?_) hq c.po hs
   .have hdr:ds.drop i=d::ds.drop (i+1):=by obtain⟨hlt,e⟩:=X7.mp hd;rw[bJ hlt,e]
    rw[hdr,Q0]at w;have ef2:f d (j8 ρ')=match zf is d (j8 ρ')with|some ρ2=>run fu Γ G b ρ2|none=>.no:=by rw[<-hf]<;>rfl
    rw[ef2]at w;cases hb2:zf is d (j8 ρ') with
    |none=>rw[hb2]at w;exact w.elim
    |some ρ2 =>
     rw[hb2]at w;obtain⟨ρ3,e3,dg⟩:=hb ρ' d ρ2 hb2;refine⟨ρ3,dg,ih ρ3 _ ?_⟩;rw[e3];dsimp only at w;cases ho:run fu Γ G b ρ2 with
     |next ρ4=>rw[ho]at w;exact λρ5 e=>by rw[<-e]at w;exact w
     |cnt ρ4=>rw[ho]at w;exact λρ5 e=>by rw[<-e]at w;exact w
     |brk ρ4=>rw[ho]at w;exact w
     |ret r=>rw[ho]at w;exact w
     |err x ρ4=>rw[ho]at w;exact w
     |no=>rw[ho]at w;exact w
   .rw[iG,Q0]at w;exact w ρ' rfl
  .exact h.elim
 by_cases z:J2 it' (j8 ρ)=a6
 .unfold J2 at z;split at z
  .rename_i i ei;split at z
   .rename_i l e;obtain⟨a,q⟩:=Jx e;refine DS.freeze i q (main _ ?_);rw[jk];simp only[frz,ei,e,Sl.abs]
   .cases z
  .cases z
 .have z':J2 it' (j8 ρ)=a4:=by simpa using z
  refine main ρ ?_;unfold frz;split
  .rename_i i ei;split
   .rename_i l e;simp only[J2,ei,e]at z';cases z'
   .rfl
  .rfl
theorem j0x{is:List Nat}{elt' it' c':Ex}{elt it tg:ai}{ifs:List ai}{scope:aX}{p p1 pos:aG}{k:Nat}{z:af}{ρ:Rho}(hq:X.calm=a6)(hX:Cok X G)
  (hk:X.N[k]?=a3 z) (hx:Loc X.env.scope z) (hf:X.fn z=a6\/X.env.scope.names.lookup z=a3 .local)
  (hsw:aN (.ListComp elt [⟨tg,it,ifs,0⟩] scope p) (a3 (.Name z p1)) pos.line X.env=pure a6)
  (hit:∀ρ ds,ev Γ G it' (j8 ρ)=a3 (.i ds)->DI X ρ tg it ds) (hkind:scope.kind=.function) (hok:Jc scope X.env X.N is=a6) (hs:∀x,aD it X.env x=pure x)
  (hb:∀ρ d ρ2,zf is d (j8 ρ)=a3 ρ2->(∀j∈is,ρ[j]?=a3 .un)->∃ρ',j8 ρ'=ρ2/\Wk ρ' ρ/\owns ρ'=owns ρ/\∀C s H fp pn,DG (cCx X scope C s H fp pn) ρ tg d ρ')
  (he:∀C s H fp pn ρ r,ev Γ G elt' (j8 ρ)=a3 (.v r)->Has (cCx X scope C s H fp pn) ρ elt r)
  (hc:∀C s H fp pn ρ,(ev Γ G c' (j8 ρ)=a3 (.a [])->DTs (cCx X scope C s H fp pn) ρ ifs a6)/\∀y k,ev Γ G c' (j8 ρ)=a3 (.a [y])->y.d=.bl k->DTs (cCx X scope C s H fp pn) ρ ifs k)
  (h:Yc (run fu Γ G (.set k (.comp is elt' it' c')) (j8 ρ)) P):DS X ρ (.Assign [.Name z p1] (.ListComp elt [⟨tg,it,ifs,0⟩] scope p) pos) P:=by
 unfold run Oq at h;have h:=(Vx h).resolve_right λ⟨y,ey,_⟩=>by simp only[er]at ey;cases ey
 cases e:ev Γ G (.comp is elt' it' c') (j8 ρ) with
 |none=>rw[e]at h;exact h.elim
 |some w =>
  rw[e]at h;cases w with
  |a _=>exact h.elim
  |i _=>exact h.elim
  |v r =>
   obtain⟨l,ρf,ds,pr,g,er,el,hfz,hi,hun,hz,hb'⟩:=Wv hit hb he hc e;subst er;refine DS.setCf (ρf:=ρf) k is pr g ?_ ?_ hi hb' (λa=>?_) hX.nd hun hz hk hx hf hsw hq hkind hok hs
   .rcases hfz with e|⟨_,i,a,l',q,e⟩
    .subst e;exact λ_ _ _ R=>R
    .subst e;exact λ_ _ _ R=>R.freeze q
   .rcases hfz with e|⟨n,_⟩
    .exact .inl e
    .exact .inr (el▸n)
   .rw[<-el];exact h _ jk
theorem Eb{w:Option W}{d:D}(h:stOf w=a3 d):∃z,w=a3 (.v z)/\z.st=a3 d:=by
 unfold stOf at h;split at h
 .exact⟨_,rfl,h⟩
 .cases h
end
structure Ts(X:Cx)(t:Sx)(nd:Ns):Prop where
 m:∀(fu:Nat)(Γ:af->List D->Rc)(G:af->Option D),Cok X G->Gok X Γ->j7s fu Γ G X t nd
theorem Ts.nil:∀{X:Cx},Ts X .nop (.ss []):=by intro _;refine⟨λfu Γ G=>?_⟩;intro c g ρ P h;exact DSs.nil (h ρ rfl)
theorem Ts.cons:∀{X:Cx}{a b:Sx}{st:aW}{rest:List aW},Ts X a (.s st)->Ts X b (.ss rest)->Ts X (.seq a b) (.ss (st::rest)):=by
 intro _ _ _ _ _ q0 q1;refine⟨λfu Γ G=>?_⟩;have iha:=q0.m fu Γ G;have ihb:=q1.m fu Γ G;intro c g ρ P h;unfold run at h;split at h
 .rename_i ρ' e;exact DSs.cons (N:=λρ1=>j8 ρ1=ρ') (iha c g ρ _ (by rw[e];exact λρ2 z=>z)) λρ1 z=>ihb c g ρ1 P (by rw[z];exact h)
 .rename_i o hn;refine DSs.cons (N:=λ_=>False) (iha c g ρ _ ?_) λ_ z=>z.elim;cases e:run fu Γ G _ (j8 ρ) with
  |next ρ'=>exact absurd e (hn ρ')
  |ret r=>rw[e]at h;exact h
  |err x r=>rw[e]at h;exact h
  |brk r=>rw[e]at h;exact h
  |cnt r=>rw[e]at h;exact h
  |no=>rw[e]at h;exact h
theorem Ts.keep:∀{X:Cx}{i:Nat}{b:Sx}{sts:List aW},Ts X b (.ss sts)->Ts X (.seq (.keep i) b) (.ss sts):=by
 intro _ i _ _ q0;refine⟨λfu Γ G=>?_⟩;have ih:=q0.m fu Γ G;intro c g ρ P h;simp only[run,Dl]at h;cases e:(j8 ρ)[i]? with
 |none=>rw[e]at h;exact h.elim
 |some v =>
  rw[e]at h;cases v with
  |own l =>obtain⟨a,q⟩:=Jx e;exact DSs.freeze _ q (ih c g _ P (by rw[jk];exact h))
  |un=>exact h.elim
  |val d=>exact ih c g ρ P h
  |exc x=>exact h.elim
theorem Ts.fail:∀{X:Cx}{st:aW},Ts X .fail (.s st):=by intro _ _;refine⟨λfu Γ G=>?_⟩;intro c g ρ P h;exact h.elim
theorem Ts.set:∀{X:Cx}{i:Nat}{x:af}{e':Ex}{e:ai}{p pos:aG}(hi:X.N[i]?=a3 x) (hx:Loc X.env.scope x) (hs:aN e (a3 (.Name x p)) pos.line X.env=pure a4) (hf:X.fn x=a6\/X.env.scope.names.lookup x=a3 .local),Tr X e' (.e e)->Ts X (.set i e') (.s (.Assign [.Name x p] e pos)):=by
 intro _ _ _ _ _ _ _ hi hx hs hf he;refine⟨λfu Γ G=>?_⟩;intro c g ρ P h;have S:=sound he c g;unfold run Oq at h;rcases Vx h with h|⟨y,ey,hP⟩
 rotate_left
 .exact DS.setX (Cg he c g ρ y ey) (hP ρ rfl) c.nd hi hx hs hf
 split at h
 .rename_i l e;exact DS.setO _ (S ρ _ e) (λa=>h _ jk) c.nd hi hx hs hf
 .rename_i r hn e;split at h
  .rename_i d hd;exact DS.set _ ((S ρ _ e).toE hd) (h _ jk) c.nd hi hx hs hf
  .exact h.elim
 .exact h.elim
theorem Ts.setC1:∀{X:Cx}{k i:Nat}{z y:af}{py p p1 pos:aG}{elt' it' c':Ex}{elt it:ai}{ifs:List ai} {scope:aX} (hq:X.calm=a6) (hk:X.N[k]?=a3 z) (hx:Loc X.env.scope z) (hf:X.fn z=a6\/X.env.scope.names.lookup z=a3 .local) (hsw:aN (.ListComp elt [⟨.Name y py,it,ifs,0⟩] scope p) (a3 (.Name z p1)) pos.line X.env=pure a6) (hi:X.N[i]?=a3 y) (hl:Vw scope y=a6) (hkind:scope.kind=.function) (hok:Jc scope X.env X.N [i]=a6) (hs:∀x,aD it X.env x=pure x),Tr X it' (.i (.Name y py) it)->(∀C s H fp pn,Tr (cCx X scope C s H fp pn) elt' (.e elt))->(∀C s H fp pn,Tr (cCx X scope C s H fp pn) c' (.c ifs))->Ts X (.set k (.comp [i] elt' it' c')) (.s (.Assign [.Name z p1] (.ListComp elt [⟨.Name y py,it,ifs,0⟩] scope p) pos)):=by
 intro _ _ _ _ _ _ _ _ _ _ _ _ _ _ _ _ hq hk hx hf hsw hi hl hkind hok hs hit he hc;refine⟨λfu Γ G=>?_⟩;intro c g ρ P h;exact j0x hq c hk hx hf hsw (λρ ds z=>sound hit c g ρ ds z) hkind hok hs (λρ d ρ2 hb hun=>by
  simp only[zf]at hb
  cases hb
  have hu:=hun _ (xq.mpr rfl)
  exact⟨_,jk,Wk.set hu,Zn hu,λC s H fp pn=>DG.name _ c.nd hi (W8 hl) (M5 hl)⟩)
  (λC s H fp pn ρ r z=>sound (he C s H fp pn) c.comp g.comp ρ r z) (λC s H fp pn ρ=>sound (hc C s H fp pn) c.comp g.comp ρ) h
theorem Ts.mov:∀{X:Cx}{i j:Nat}{x y:af}{p q pos:aG}(hi:X.N[i]?=a3 x) (hj:X.N[j]?=a3 y) (hx:Loc X.env.scope x) (hf:X.fn x=a6\/X.env.scope.names.lookup x=a3 .local) (hv:Vis X.env.scope y) (hd:(y==k7q)=a4) (hcd:(y==k7r)=a4),Ts X (.mov i j) (.s (.Assign [.Name x p] (.Name y q) pos)):=by
 intro _ _ _ _ _ _ _ _ hi hj hx hf hv hd hcd;refine⟨λfu Γ G=>?_⟩;intro c g ρ P h;unfold run j19 at h;split at h
 .rename_i l e;obtain⟨a,q⟩:=Jx e;split at h
  .exact h.elim
  .rename_i hij;exact DS.mov q hij (h _ (by rw[jk,jk];rfl)) c.nd hi hj hx hf hv hd hcd
 .rename_i d e;exact DS.set _ (DE.var _ (Vv e) hj hv hd hcd) (h _ jk) c.nd hi hx rfl hf
 .exact h.elim
theorem Ts.expr:∀{X:Cx}{e':Ex}{e:ai}{pos:aG}(hs:aN e a7 pos.line X.env=pure a4),Tr X e' (.e e)->Ts X (.expr e') (.s (.Expr e pos)):=by
 intro _ _ _ _ hs he;refine⟨λfu Γ G=>?_⟩;intro c g ρ P h;unfold run j1m at h;rcases Vx h with h|⟨y,ey,hP⟩
 rotate_left
 .exact DS.exprX (Cg he c g ρ y ey) (hP ρ rfl) hs
 split at h
 .rename_i r e;exact DS.expr (sound he c g ρ r e).toT (h ρ rfl) hs
 .exact h.elim
theorem Ts.ret:∀{X:Cx}{e':Ex}{e:ai}{pos:aG},Tr X e' (.e e)->Ts X (.ret e') (.s (.Return (a3 e) pos)):=by
 intro _ _ _ _ he;refine⟨λfu Γ G=>?_⟩;intro c g ρ P h;unfold run retS at h;rcases Vx h with h|⟨y,ey,hP⟩
 rotate_left
 .exact DS.retX (Cg he c g ρ y ey) (hP ρ rfl)
 split at h
 .rename_i l e;exact DS.retO (sound he c g ρ _ e) (h _ rfl)
 .rename_i r hn e;exact DS.ret (sound he c g ρ _ e).toT (h _ rfl)
 .exact h.elim
theorem Ts.retV:∀{X:Cx}{i:Nat}{x:af}{p pos:aG}(hi:X.N[i]?=a3 x) (hv:Vis X.env.scope x) (hd:(x==k7q)=a4) (hcd:(x==k7r)=a4),Ts X (.retV i) (.s (.Return (a3 (.Name x p)) pos)):=by
 intro _ _ _ _ _ hi hv hd hcd;refine⟨λfu Γ G=>?_⟩;intro c g ρ P h;unfold run Mg at h;split at h
 .rename_i l e;obtain⟨a,q⟩:=Jx e;exact DS.retV _ q (h _ rfl) hi hv hd hcd
 .rename_i d e;exact DS.ret (DE.toT (DE.var _ (Vv e) hi hv hd hcd)) (h _ rfl)
 .exact h.elim
theorem Ts.ife:∀{X:Cx}{c':Ex}{a b:Sx}{c:ai}{sa sb:List aW}{pos:aG},Tr X c' (.b c)->Ts X a (.ss sa)->Ts X b (.ss sb)->Ts X (.ife c' a b) (.s (.If c sa sb pos)):=by
 intro _ _ _ _ _ _ _ _ hc q1 q2;refine⟨λfu Γ G=>?_⟩;have iha:=q1.m fu Γ G;have ihb:=q2.m fu Γ G;intro c g ρ P h;unfold run at h;split at h
 .rename_i e;exact DS.if (sound hc c g ρ a6 e) (λ_=>iha c g ρ P h) λz=>by cases z
 .rename_i e;exact DS.if (sound hc c g ρ a4 e) (λz=>by cases z) λ_=>ihb c g ρ P h
 .exact h.elim
theorem Ts.for1:∀{X:Cx}{i:Nat}{y:af}{it':Ex}{b:Sx}{it:ai}{body:List aW} {p pos:aG} (hq:X.calm=a6) (hi:X.N[i]?=a3 y) (hx:Loc X.env.scope y) (hf:X.fn y=a6\/X.env.scope.names.lookup y=a3 .local) (hs:∀x,aD it X.env x=pure x),Tr X it' (.i (.Name y p) it)->Ts X b (.ss body)->Ts X (.loop [i] it' b) (.s (.For (.Name y p) it body [] pos)):=by intro _ _ _ _ _ _ _ _ _ hq hi hx hf hs hit q1;refine⟨λfu Γ G=>?_⟩;have ih:=q1.m fu Γ G;intro c g ρ P h;exact Yx hq c hs (bind1 c.nd hi hx hf) (λρ ds z=>sound hit c g ρ ds z) (ih c g) h
theorem Ts.for2:∀{X:Cx}{i j:Nat}{x y:af}{it':Ex}{b:Sx}{it:ai}{body:List aW} {n:Nat} {p q pt pos:aG} (hq:X.calm=a6) (hij:i≠j) (hi:X.N[i]?=a3 x) (hj:X.N[j]?=a3 y) (hx:Loc X.env.scope x) (hy:Loc X.env.scope y) (hf:X.fn x=a6\/X.env.scope.names.lookup x=a3 .local) (hg:X.fn y=a6\/X.env.scope.names.lookup y=a3 .local) (hs:∀x,aD it X.env x=pure x),Tr X it' (.i (.Tuple [.Name x p,.Name y q] n pt) it)->Ts X b (.ss body)->Ts X (.loop [i,j] it' b) (.s (.For (.Tuple [.Name x p,.Name y q] n pt) it body [] pos)):=by intro _ _ _ _ _ _ _ _ _ _ _ _ _ _ hq hij hi hj hx hy hf hg hs hit q1;refine⟨λfu Γ G=>?_⟩;have ih:=q1.m fu Γ G;intro c g ρ P h;exact Yx hq c hs (jfs hq hij c.nd hi hj hx hy hf hg) (λρ ds z=>sound hit c g ρ ds z) (ih c g) h
theorem Ts.for3f:∀{X:Cx}{i j k:Nat}{x y z:af}{it':Ex}{b:Sx}{it:ai}{body:List aW} {n:Nat} {p q r pt pos:aG} (hq:X.calm=a6) (hi:X.N[i]?=a3 x) (hj:X.N[j]?=a3 y) (hk:X.N[k]?=a3 z) (hx:Loc X.env.scope x) (hy:Loc X.env.scope y) (hz:Loc X.env.scope z) (hf:X.fn x=a6\/X.env.scope.names.lookup x=a3 .local) (hg:X.fn y=a6\/X.env.scope.names.lookup y=a3 .local) (hh:X.fn z=a6\/X.env.scope.names.lookup z=a3 .local) (hs:∀x,aD it X.env x=pure x),Tr X it' (.i (.Tuple [.Name x p,.Name y q,.Name z r] n pt) it)->Ts X b (.ss body)->Ts X (.loop [i,j,k,k] it' b) (.s (.For (.Tuple [.Name x p,.Name y q,.Name z r] n pt) it body [] pos)):=by intro _ _ _ _ _ _ _ _ _ _ _ _ _ _ _ _ _ hq hi hj hk hx hy hz hf hg hh hs hit q1;refine⟨λfu Γ G=>?_⟩;have ih:=q1.m fu Γ G;intro c g ρ P h;exact Yx hq c hs (jdy hq c.nd hi hj hk hx hy hz hf hg hh) (λρ ds z=>sound hit c g ρ ds z) (ih c g) h
theorem Ts.app:∀{X:Cx}{i:Nat}{x:af}{e':Ex}{e:ai}{p p1 p2 pos:aG}(hN:X.N[i]?=a3 x) (hv:Vis X.env.scope x) (hd:(x==k7q)=a4) (hcd:(x==k7r)=a4) (hst:a9 [e] X.env=[(a4,ay e X.env)]) (hline:(p1.endLine==p2.line)=a6) (hbase:aT (.Name x p) "append" X.env (ay (.Name x p) X.env)=ay (.Name x p) X.env) (hfew:((aP p2 (a9 [e] X.env)).all (λx=>!x.1)&&(bY p2 (b9 [] X.env)).all (λx=>x.1.isSome)&&decide (([e]:List ai).length+([]:List b7).length+(if ([]:List b7).isEmpty then 0 else 1)<30))=a6),Tr X e' (.e e)->Ts X (.app i e') (.s (.Expr (.Call (.Attribute (.Name x p) "append" p1) [e] [] p2) pos)):=by
 intro _ _ _ _ _ _ _ _ _ hN hv hd hcd hst hline hbase hfew he;refine⟨λfu Γ G=>?_⟩;intro c g ρ P h;unfold run Ry at h;split at h
 .rename_i l x el ex;obtain⟨a,q⟩:=Jx el;split at h
  .rename_i d hd';split at h
   .rename_i hz;exact DS.append _ q ((sound he c g ρ x ex).toE hd') hz (h _ jk) hN hv hd hcd hst hline hbase hfew rfl
   .exact h.elim
  .exact h.elim
 .exact h.elim
theorem Ts.ext:∀{X:Cx}{i:Nat}{x:af}{e':Ex}{e:ai}{p p1 p2 pos:aG}(hN:X.N[i]?=a3 x) (hv:Vis X.env.scope x) (hd:(x==k7q)=a4) (hcd:(x==k7r)=a4) (hst:a9 [e] X.env=[(a4,ay e X.env)]) (hline:(p1.endLine==p2.line)=a6) (hbase:aT (.Name x p) "extend" X.env (ay (.Name x p) X.env)=ay (.Name x p) X.env) (hfew:((aP p2 (a9 [e] X.env)).all (λx=>!x.1)&&(bY p2 (b9 [] X.env)).all (λx=>x.1.isSome)&&decide (([e]:List ai).length+([]:List b7).length+(if ([]:List b7).isEmpty then 0 else 1)<30))=a6),Tr X e' (.e e)->Ts X (.ext i e') (.s (.Expr (.Call (.Attribute (.Name x p) "extend" p1) [e] [] p2) pos)):=by
 intro _ _ _ _ _ _ _ _ _ hN hv hd hcd hst hline hbase hfew he;refine⟨λfu Γ G=>?_⟩;intro c g ρ P h;unfold run K6 at h;split at h
 .rename_i l m el ex;obtain⟨a,q⟩:=Jx el;split at h
  .rename_i hz;exact DS.extend _ q (sound he c g ρ _ ex) (za hz) (h _ jk) hN hv hd hcd hst hline hbase hfew rfl
  .exact h.elim
 .exact h.elim
theorem Ts.retC:∀{X:Cx}{f x:af}{is:List Nat}{a' b':Ex}{a b:ai}{params:dw}{body:ai} {scope:aX} {cl:List (af×aa)} {p1 p2 p3 pos:aG} (hx:x∈Zc) (hqu:X.env.qual=x ++ ".<locals>.") (hdef:js params X.env=([],[])) (hcl:eZ scope X.env=pure cl) (ht:Zq X.K x=a3 (params,body,scope)) (hn:cl.map (·.1)=vo scope) (nd:(vo scope).Nodup) (hc:j77 X cl is) (hg:Gl X f) (hdb:(f==k7q)=a4) (hs1:a9 [a,b,.Lambda params body scope p1] X.env=(a4,ay a X.env)::a9 [b,.Lambda params body scope p1] X.env) (hs2:a9 [b,.Lambda params body scope p1] X.env=(a4,ay b X.env)::a9 [.Lambda params body scope p1] X.env) (hs3:a9 [.Lambda params body scope p1] X.env=(a4,ay (.Lambda params body scope p1) X.env)::a9 [] X.env) (hpl:(aP p3 (a9 [b,.Lambda params body scope p1] X.env)).any (·.1)=a4),Tr X a' (.e a)->Tr X b' (.e b)->Ts X (.retC f x a' b' is) (.s (.Return (a3 (.Call (.Name f p2) [a,b,.Lambda params body scope p1] [] p3)) pos)):=by
 intro _ f x is a' b' a b params body scope cl p1 p2 p3 pos hx hqu hdef hcl ht hn nd hc hg hdb hs1 hs2 hs3 hpl ha hb;refine⟨λfu Γ G=>?_⟩;intro c g ρ P h;unfold run Di at h;split at h
 .rename_i ds u v e1 e2 e3;have q:=g f [u.d,v.d,.fn x ds];cases z:Γ f [u.d,v.d,.fn x ds] with
  |val d =>
   rw[z]at h q;dsimp only[Dj]at h;split at h
   .rename_i nf;exact DS.ret (DT.callL q ⟨hx,hqu,c.lm _ hx hqu⟩ hdef hcl ht hn nd (j0f hc e1) (sound ha c g ρ u e2).toT (sound hb c g ρ v e3).toT nf ⟨rfl,rfl⟩ hg hdb hs1 hs2 hs3 hpl) (h (.val _) rfl)
   .exact h.elim
  |fresh l=>rw[z]at h;exact h.elim
  |err x=>rw[z]at h;exact h.elim
  |lval d=>rw[z]at h;exact h.elim
  |no=>rw[z]at h;exact h.elim
 .exact h.elim
theorem Ts.nmake:∀{X:Cx}{x t y:Nat}{nx nt ny:af}{it' e1' e2':Ex}{it e1 e2:ai}{p1 p2 p3 p4 p5 p6 p10 p11 p12 p14 p16 p17 p18:aG}(hq:X.calm=a6) (hX:X.N[x]?=a3 nx) (hT:X.N[t]?=a3 nt) (hY:X.N[y]?=a3 ny) (lx:Loc X.env.scope nx) (lt:Loc X.env.scope nt) (ly:Loc X.env.scope ny) (fx:X.fn nx=a6\/X.env.scope.names.lookup nx=a3 .local) (ft:X.fn nt=a6\/X.env.scope.names.lookup nt=a3 .local) (fy:X.fn ny=a6\/X.env.scope.names.lookup ny=a3 .local) (dx:(nx==k7q)=a4) (cx:(nx==k7r)=a4) (dt:(nt==k7q)=a4) (ct:(nt==k7r)=a4) (s1:aN (.Dict [] [] p2) (a3 (.Name nx p1)) p3.line X.env=pure a4) (s2:aN e1 (a3 (.Name ny p5)) p6.line X.env=pure a4) (s3:aN e2 (a3 (.Subscript (.Name nx p10) (.Name nt p11) p12)) p14.line X.env=pure a4) (hf:∀x,aD it X.env x=pure x),Tr X it' (.i (.Name nt p4) it)->Tr X e1' (.e e1)->Tr X e2' (.e e2)->Ts X (.nmake x t y it' e1' e2') (.ss (j7j nx nt ny it e1 e2 p1 p2 p3 p4 p5 p6 p10 p11 p12 p14 p16 p17 p18)):=by
 intro _ x t y nx nt ny it' e1' e2' it e1 e2 p1 p2 p3 p4 p5 p6 p10 p11 p12 p14 p16 p17 p18 hq hX hT hY lx lt ly fx ft fy dx cx dt ct s1 s2 s3 hf hit he1 he2;refine⟨λfu Γ G=>?_⟩;intro c g ρ P h;unfold run at h;split at h
 .rename_i hcnd;obtain⟨rx,rt,ry,hxt,hxy,hty⟩:=hcnd;have ln:(j8 ρ).length=ρ.length:=by unfold j8;rw[kj]
  rw[ln]at rx rt ry;split at h
  .rename_i ds eds;split at h
   .rename_i r er;refine DSs.nmake (W:=λi ρ' ks ns=>V7 (λρ=>stOf (ev Γ G e1' ρ)) (λρ=>stOf (ev Γ G e2' ρ)) x t y (ds.drop i) (j8 ρ') ks ns=a3 r) rx rt ry hxt hxy hty (sound hit c g (ρ.set x .un) ds (by rw[jk];exact eds))
     (by rw[fA,jk];exact er) (λi d ρ' ks ns hd w=>?_) (λρ' ks ns w=>?_) c.un' hq c.po c.nd hX hT hY lx lt ly fx ft fy dx cx dt ct s1 s2 s3 hf
    .have hdr:ds.drop i=d::ds.drop (i+1):=by obtain⟨hlt,e⟩:=X7.mp hd;rw[bJ hlt,e]
     rw[hdr]at w;cases d with
     |tup l =>
      simp only[V7]at w;split at w
      .rename_i k d1 ek ed;obtain⟨z,ez,ed2⟩:=Eb ed;have hk:=Jt ek;subst hk;split at w
       .rename_i n en;obtain⟨z2,ez2,ed3⟩:=Eb en;split at w
        .rename_i hh;refine⟨k,d1,n,rfl,(sound he1 c g (ρ'.set t (.val (.tup (k.map D.int)))) z (by rw[jk];exact ez)).toE ed2,(sound he2 c g (((ρ'.set t (.val (.tup (k.map D.int)))).set y (.val d1)).set x (.val (.dct ks (ns.map D.int)))) z2 (by rw[jk,jk,jk];exact ez2)).toE ed3,hh.1,hh.2,by rw[jk,jk];exact w⟩
        .cases w
       .cases w
      .cases w
     |_=>simp only[V7]at w;cases w
    .rw[iG,V7]at w;cases w;exact h (.val (.dct ks (ns.map D.int))) rfl
   .exact h.elim
  .exact h.elim
 .exact h.elim
section
theorem Yk{fu:Nat}{Γ:af->List D->Rc}{G:af->Option D}{X:Cx}{t:Sx}{nd:Ns}(h:Ts X t nd):Cok X G->Gok X Γ->j7s fu Γ G X t nd:=h.m fu Γ G
end
structure Fi where
 n:Nat
 nn:Nat
 body:Sx
 lam:Bool
noncomputable def j1f:Rc->Rc
 |.val d=>.lval d
 |_=>.no
noncomputable def fin:So->Rc
 |.ret r=>r
 |.next _=>.val .non
 |.err x _=>.err x
 |_=>.no
noncomputable def enter(F:Fi)(ds:List D):En:=ds.map Sv.val++ak (F.nn-F.n) Sv.un
noncomputable def evP(fu:Nat)(G:af->Option D)(T:af->Option Fi):Nat->af->List D->Rc
 |0,_,_=>.no
 |n+1,f,ds=>match T f with
  |none=>.no
  |some F=>if ds.length=F.n then(if F.lam=a6 then j1f (fin (run fu (evP fu G T n) G F.body (enter F ds)))else fin (run fu (evP fu G T n) G F.body (enter F ds)))else .no
structure Lk(P:aq)(w:ax)(K:k7m)(mg:k7p)(base:aB)(x:af)(F:Fi):Prop where
 ex:∃(st:aW)(f:aa)(fd:aH)(N ps:List af),Fun K x x st f fd/\FnScope N ps (jb st)/\ps.length=F.n/\N.length=F.nn/\Binds K fd ps []/\Dfl K x fd ps/\mg x=a3 (.ref f) /\
  ∀(cdv:a8)(A:az)(outer:List dh)(s:ae)(H:Hp)(E:XK)(xe:k7n),Ts ((v7 CX0 P w K mg base N x (jb st) f cdv A outer s H E).wish xe) F.body (.ss (ju st))
structure LkL(P:aq)(w:ax)(K:k7m)(mg:k7p)(base:aB)(x:af)(F:Fi):Prop where
 ex:∃(tx:Tx)(N ps:List af)(e:Ex),Zq K x=a3 tx/\LamScope N ps tx.2.2/\N.length=F.n/\F.nn=F.n/\F.body=.ret e /\
  (∀(cl:List (af×aa)) (pm:a8) (c:aa) (ctv:a8) (us:List a8),us.length=ps.length->dZ (W.kla_fn "<lambda>" (jr x) tx.1 tx.2.1 tx.2.2 cl pm (.ref c) ctv) ⟨us,[]⟩=pure (ps.zip us)) /\
  ∀(a c:aa)(cl:List (af×aa)) (A:az) (outer:List dh) (s:ae) (H:Hp),Tr (Y6 P w K mg base N (jr x) tx.2.2 a (.ref c) cl A outer s H) e (.e tx.2.1)
def LkF(P:aq)(w:ax)(K:k7m)(mg:k7p)(base:aB)(f:af)(F:Fi):Prop:=(F.lam=a4->Lk P w K mg base f F/\f.cps.toList.getLast?≠a3 62)/\(F.lam=a6->∃x,f=jr x/\LkL P w K mg base x F)
def j4j(P:aq)(w:ax)(K:k7m)(mg:k7p)(base:aB):Prop:=∃(f:aa)(fd:aH)(ps:List af),FnOk P w K mg base CX0 11 f fd ps (jav K j7d)/\mg "_law_plan" = a3 (.ref f)/\W.keepIn K (.ref f)=a6/\Binds K fd ps []/\Dfl K "_law_plan" fd ps
structure Tb(P:aq)(w:ax)(K:k7m)(mg:k7p)(base:aB)(G:af->Option D):Prop where
 bt:∀x∈Zy,mg x=a7
 gl:∀x d,Zx x=a4->G x=a3 d->∃u v,mg x=a3 u/\RelV v u/\∀H,Enc K H d v
 ea:Dn K=a6
 ec:∀x d,G (bang x)=a3 d->x∈Ja/\∃o,W.nsIn K au x=a3 (a3 o)
 el:G "?" = a3 (.bl a6)->∀c∈Ja,∃v,W.nsIn K au c=a3 (a3 v)
 kin:K.In base
 ns:base.Ns au mg
 kd:∀x l,G (bang x)=a3 (.lst l)->KindsP P w K mg base "_law_kinds" x l
 fn:∀f d,G (qm f)=a3 d->∃fa,mg f=a3 (.ref fa)/\W.keepIn K (.ref fa)=a6
 pl:∀d,G (qm "_law_plan")=a3 d->j4j P w K mg base
 lm:∀x∈Zc,∀f cdv,mg x=a3 (.ref f)->W6 K f cdv->∃c Pt,cdv=.ref c/\W.codeHdIn K c Pt=a6/\W.tabIn K x=a3 (c,Pt)
structure LkH(P:aq)(w:ax)(K:k7m)(mg:k7p)(base:aB)(x:af)(F:Fi):Prop where
 ex:∃(st:aW)(f:aa)(fd:aH)(N:List af)(p:af),Fun K x x st f fd/\FnScope N [p] (jb st)/\1<=N.length/\N.length=F.nn/\Binds K fd [p] []/\mg x=a3 (.ref f) /\
  ∀(cdv:a8)(A:az)(outer:List dh)(s:ae)(H:Hp),Ts { (v7 CX0 P w K mg base N x (jb st) f cdv A outer s H E0).nox with calm:=a4 } F.body (.ss (ju st))
section
variable{P:aq}{w:ax}{K:k7m}{mg:k7p}{base:aB}{fu:Nat}{G:af->Option D}{T:af->Option Fi}
theorem Ud{N:List af}{ds:List D}{F:Fi}(h1:ds.length=F.n)(h2:N.length=F.nn):j8 (qt N ds)=enter F ds:=by unfold j8 qt enter;rw[Xd,Xa,List.map_replicate,h1,h2];rfl
theorem W5(y:af):(bang y).cps.toList.head?=a3 33:=by unfold bang;show(("!":af).cps++y.cps).toList.head?=a3 33;rw[Te];rfl
theorem jae (y:af):bang y ≠ "?":=λh=>by have:=W5 y;rw[h]at this;exact absurd this (by decide)
theorem Eg(y:af):(qm y).cps.toList.head?=a3 63:=by unfold qm;show(("??":af).cps++y.cps).toList.head?=a3 63;rw[Te];rfl
theorem jeu (y:af):qm y ≠ "?":=λh=>by
 have e:((qm y).cps.toList.drop 1).head?=a3 63:=by unfold qm;show((("??":af).cps++y.cps).toList.drop 1).head?=a3 63;rw[Te];rfl
 rw[h]at e;exact absurd e (by decide)
theorem jbe{x y:af}(h:qm x=qm y):x=y:=by unfold qm at h;have h:(⟨("??":af).cps++x.cps⟩:af)=⟨("??":af).cps++y.cps⟩:=h;have h:=congrArg jT h;have e:x.cps=y.cps:=g9 h rfl;cases x;cases y;cases e;rfl
theorem j0g(x y:af):bang x≠qm y:=λh=>by have:=W5 x;rw[h,Eg]at this;exact absurd this (by decide)
theorem Wl{x y z:af}(h:x++z=y++z):x=y:=by have h:(⟨x.cps++z.cps⟩:af)=⟨y.cps++z.cps⟩:=h;have h:=congrArg jT h;have e:x.cps=y.cps:=Array.append_inj_left' h rfl;cases x;cases y;cases e;rfl
theorem j5p{x y:af}(h:jr x=jr y):x=y:=Wl (Wl h)
theorem Nj(x:af):(jr x).cps.toList.getLast?=a3 62:=by unfold jr;show(((x ++ ".<locals>.").cps)++("<lambda>":af).cps).toList.getLast?=a3 62;rw[Te,List.getLast?_append];rfl
theorem j1g(x:af):jr x∉Zc:=λh=>by
 have e:=Nj x
 revert e
 unfold Zc at h;rcases xr.mp h with h|h
 .rw[h];decide
 rcases xr.mp h with h|h
 .rw[h];decide
 rcases xr.mp h with h|h
 .rw[h];decide
 .rw[xq.mp h];decide
theorem jb7{fu:Nat}{Γ:af->List D->Rc}{G:af->Option D}{e:Ex}{ρ:En}{d:D}(h:fin (run fu Γ G (.ret e) ρ)=.val d):∃r,ev Γ G e ρ=a3 (.v r)/\r.d=d:=by
 rw[run]at h;cases z:ev Γ G e ρ with
 |none=>rw[z]at h;cases y:er Γ G e ρ<;>(rw[y]at h;cases h)
 |some w =>
  cases w with
  |v r =>
   rw[z]at h;cases r with
   |o l=>cases h
   |e d=>cases h;exact⟨_,rfl,rfl⟩
   |w l=>cases h;exact⟨_,rfl,rfl⟩
   |t d=>cases h;exact⟨_,rfl,rfl⟩
  |a l=>rw[z]at h;cases y:er Γ G e ρ<;>(rw[y]at h;cases h)
  |i l=>rw[z]at h;cases y:er Γ G e ρ<;>(rw[y]at h;cases h)
theorem Vr (t:Tb P w K mg base G) {X:Cx} {n:Nat} (h1:X.prog=P) (h2:X.w=w) (h3:X.K=K) (h4:X.mg=mg) (h5:X.base=base) (hn:12<=n) (hr:Room n X.A) (nd:X.N.Nodup) (po:fJ (aw X.prog X.w) X.A X.env X.xe) (hlm:∀x∈Zc,X.env.qual=x ++ ".<locals>."->∃c P,X.env.code=.ref c/\W.codeHdIn K c P=a6/\W.tabIn K x=a3 (c,P)):Cok X G:=by subst h1 h2 h3 h4 h5;exact⟨by have:=hr.un;omega,(λ_=>by have:=hr.un;omega),(λ_=>by have:=hr.dp;omega),t.bt,t.gl,nd,po,t.ea,t.ec,t.el,t.kin,t.ns,t.kd,t.fn,λd e=>let ⟨f,fd,ps,F,h1,h2,h3,h4⟩:=t.pl d e;⟨11,f,fd,ps,F,hr.mono hn,h1,h2,h3,h4⟩,hlm⟩
theorem Wc (t:Tb P w K mg base G) {g:af} {f:aa} {cdv:a8} {env:dh} (hm:mg g=a3 (.ref f)) (hcv:W6 K f cdv) (hq:env.qual=g ++ ".<locals>.") (hc:env.code=cdv):∀x∈Zc,env.qual=x ++ ".<locals>."->∃c P,env.code=.ref c/\W.codeHdIn K c P=a6/\W.tabIn K x=a3 (c,P):=λx hx e=>by have eg:=Wl (hq.symm.trans e);subst eg;rw[hc];exact t.lm _ hx f cdv hm hcv
noncomputable def lv:Nat->Nat
 |0=>12
 |n+1=>lv n+2
theorem Y4:∀n,12<=lv n+1
 |0=>by decide
 |n+1=>by have:=Y4 n;unfold lv;omega
theorem Mi(hT:∀x F,T x=a3 F->LkF P w K mg base x F)(t:Tb P w K mg base G):∀(n:Nat)(x:af)(ds:List D),
  ∃(f:aa)(fd:aH)(ps:List af),match evP fu G T n x ds with
   |.val d=>FnOk P w K mg base CX0 (lv n) f fd ps (spP K λds' d'=>ds'=ds/\d'=d)/\mg x=a3 (.ref f)/\W.keepIn K (.ref f)=a6/\Binds K fd ps []/\Dfl K x fd ps
   |.fresh l=>FnOk P w K mg base CX0 (lv n) f fd ps (spF K λds' l'=>ds'=ds/\l'=l)/\mg x=a3 (.ref f)/\W.keepIn K (.ref f)=a6/\Binds K fd ps []/\Dfl K x fd ps
   |.err y=>FnOk P w K mg base (CX1 P w) (lv n) f fd ps (spX K mg λds' z=>ds'=ds/\z=y)/\mg x=a3 (.ref f)/\W.keepIn K (.ref f)=a6/\Binds K fd ps []
   |.lval d=>∀y,x=jr y->Dp P w K mg base (lv n) y λds' d'=>ds'=ds/\d'=d
   |.no=>True
 |0,x,ds=>⟨0,W.fnOf x x { posonlyargs:=[],args:=[],vararg:=a7,kwonlyargs:=[],kw_defaults:=[],kwarg:=a7,defaults:=[] } [] { kind:=.function,names:=[],isGenerator:=a4,isCoroutine:=a4 } .none .none .none .none a7 .none .none,[],trivial⟩
 |n+1,x,ds=>by
  have ih:=Mi hT t n;cases hF:T x with
  |none =>
   obtain⟨f,fd,ps,_⟩:=ih x ds;refine⟨f,fd,ps,?_⟩;have e:evP fu G T (n+1) x ds=.no:=by simp only[evP,hF]
   rw[e];trivial
  |some F =>
   have gok:∀{X:Cx},X.prog=P->X.w=w->X.K=K->X.mg=mg->X.base=base->Room (lv n+1) X.A->Gok X (evP fu G T n):=λ{X} h1 h2 h3 h4 h5 hr g ds'=>by
    subst h1 h2 h3 h4 h5;obtain⟨f',fd',ps',q⟩:=ih g ds';cases z:evP fu G T n g ds' with
    |val d=>rw[z]at q;exact⟨lv n,f',fd',ps',q.1,hr,q.2.1,q.2.2.1,q.2.2.2⟩
    |fresh l=>rw[z]at q;exact⟨lv n,f',fd',ps',q.1,hr,q.2.1,q.2.2.1,q.2.2.2⟩
    |err y=>rw[z]at q;exact⟨lv n,f',fd',ps',q.1,hr.mono (T4 _),q.2.1,q.2.2.1,q.2.2.2⟩
    |lval d=>rw[z]at q;exact λy hy=>⟨lv n,hr.mono (T4 _),q y hy⟩
    |no=>trivial
   cases hlam:F.lam with
   |true =>
    obtain⟨f,fd,ps,_⟩:=ih x ds;refine⟨f,fd,ps,?_⟩;by_cases hl:ds.length=F.n
    .have e:evP fu G T (n+1) x ds=j1f (fin (run fu (evP fu G T n) G F.body (enter F ds))):=by simp only[evP,hF,if_pos hl,hlam,if_true]
     rw[e];obtain⟨y,ey,L⟩:=(hT x F hF).2 hlam;obtain⟨tx,N,ps,ex,htx,hsc,hN,hnn,hbd,hba,htr⟩:=L.ex;cases ho:fin (run fu (evP fu G T n) G F.body (enter F ds)) with
     |val d =>intro y' hy';have eyy:y=y':=j5p (ey.symm.trans hy');subst eyy;refine jcc (k:=lv n+1) htx hsc (λds' d' h=>by rw[h.1,hl,hN]) hba λa c cl A outer s H hcl hr ds' d' ⟨e1,e2⟩=>?_;subst e1 e2;have ab:j8 (qt N ds')=enter F ds':=Ud hl (by rw[hN,hnn]);rw[hbd,<-ab]at ho;obtain⟨r,er,ed⟩:=jb7 ho;exact ed▸(sound (htr a c cl A outer s H) (Vr t rfl rfl rfl rfl rfl (Y4 _) hr hsc.nd bC λz hz hq=>absurd (Wl hq▸hz) (j1g y)) (gok rfl rfl rfl rfl rfl hr) (qt N ds') r er).toT
     |fresh l=>trivial
     |err z=>trivial
     |lval z=>trivial
     |no=>trivial
    .have e:evP fu G T (n+1) x ds=.no:=by simp only[evP,hF,if_neg hl]
     rw[e];trivial
   |false =>
   obtain⟨st,f,fd,N,ps,hfun,hsc,hps,hN,hb,hdf,hm,hts⟩:=((hT x F hF).1 hlam).1.ex;refine⟨f,fd,ps,?_⟩;by_cases hl:ds.length=F.n
   .have e:evP fu G T (n+1) x ds=fin (run fu (evP fu G T n) G F.body (enter F ds)):=by simp only[evP,hF,if_pos hl,hlam,pq,if_false]
    have ab:j8 (qt N ds)=enter F ds:=Ud hl hN;cases ho:run fu (evP fu G T n) G F.body (enter F ds) with
    |next ρ' =>rw[e,ho];refine⟨Bj (k:=lv n+1) hfun hsc (λds' d' h=>by rw[h.1,hl,hps]) λcdv A outer s H E hcv hr ds' d' ⟨e1,e2⟩=>?_,hm,hfun.kp,hb,hdf⟩;subst e1 e2;refine Yk (fu:=fu) (hts cdv A outer s H E _) (Vr t rfl rfl rfl rfl rfl (Y4 _) hr hsc.nd bC (Wc t hm hcv rfl rfl)) (gok rfl rfl rfl rfl rfl hr) (qt N ds') _ ?_;rw[ab,ho];exact λ_ _=>rfl
    |ret r =>
     rw[e,ho];cases r with
     |no=>trivial
     |lval d=>exact λy hy=>absurd (hy▸Nj y) ((hT x F hF).1 hlam).2
     |err y =>refine⟨j3r (k:=lv n+1) hfun hsc (λds' d' h=>by rw[h.1,hl,hps]) λcdv A outer s H E hcv hr ds' y' ⟨e1,e2⟩=>?_,hm,hfun.kp,hb⟩;subst e1 e2;refine Yk (X:=v7 (CX1 P w) P w K mg base N x (jb st) f cdv A outer s H E) (fu:=fu) (hts cdv A outer s H E (v7 (CX1 P w) P w K mg base N x (jb st) f cdv A outer s H E).xe) (Vr t rfl rfl rfl rfl rfl (Y4 _) hr hsc.nd gb (Wc t hm hcv rfl rfl)) (gok rfl rfl rfl rfl rfl hr) (qt N ds') _ ?_;rw[ab,ho];intro z hz;cases z<;>cases hz
     |val d =>
      refine⟨Bj (k:=lv n+1) hfun hsc (λds' d' h=>by rw[h.1,hl,hps]) λcdv A outer s H E hcv hr ds' d' ⟨e1,e2⟩=>?_,hm,hfun.kp,hb,hdf⟩;subst e1 e2;refine Yk (fu:=fu) (hts cdv A outer s H E _) (Vr t rfl rfl rfl rfl rfl (Y4 _) hr hsc.nd bC (Wc t hm hcv rfl rfl)) (gok rfl rfl rfl rfl rfl hr) (qt N ds') _ ?_;rw[ab,ho];intro y hy;cases y with
      |val d=>cases hy;rfl
      |fresh l=>cases hy
     |fresh l =>
      refine⟨j6a (k:=lv n+1) hfun hsc (λds' d' h=>by rw[h.1,hl,hps]) λcdv A outer s H E hcv hr ds' d' ⟨e1,e2⟩=>?_,hm,hfun.kp,hb,hdf⟩;subst e1 e2;refine Yk (fu:=fu) (hts cdv A outer s H E _) (Vr t rfl rfl rfl rfl rfl (Y4 _) hr hsc.nd bC (Wc t hm hcv rfl rfl)) (gok rfl rfl rfl rfl rfl hr) (qt N ds') _ ?_;rw[ab,ho];intro y hy;cases y with
      |val d=>cases hy
      |fresh l=>cases hy;rfl
    |err y ρ' =>rw[e,ho];refine⟨j3r (k:=lv n+1) hfun hsc (λds' d' h=>by rw[h.1,hl,hps]) λcdv A outer s H E hcv hr ds' y' ⟨e1,e2⟩=>?_,hm,hfun.kp,hb⟩;subst e1 e2;refine Yk (X:=v7 (CX1 P w) P w K mg base N x (jb st) f cdv A outer s H E) (fu:=fu) (hts cdv A outer s H E (v7 (CX1 P w) P w K mg base N x (jb st) f cdv A outer s H E).xe) (Vr t rfl rfl rfl rfl rfl (Y4 _) hr hsc.nd gb (Wc t hm hcv rfl rfl)) (gok rfl rfl rfl rfl rfl hr) (qt N ds') _ ?_;rw[ab,ho];exact λ_ _=>rfl
    |brk _=>rw[e,ho];trivial
    |cnt _=>rw[e,ho];trivial
    |no=>rw[e,ho];trivial
   .have e:evP fu G T (n+1) x ds=.no:=by simp only[evP,hF,if_neg hl]
    rw[e];trivial
end
noncomputable def Gof(gs:List (af×D))(q:Bool)(xs:List (af×List D))(fs:List af)(x:af):Option D :=
 if Zx x=a6 then(if x = "?" then(if q=a6 then a3 (.bl a6)else a7) else((xs.find? λp=>bang p.1==x).map λp=>.lst p.2).or (if (fs.any λf=>qm f==x)=a6 then a3 .non else a7))else gs.lookup x
theorem j73{x y:af}(h:bang x=bang y):x=y:=by unfold bang at h;have h:(⟨("!":af).cps++x.cps⟩:af)=⟨("!":af).cps++y.cps⟩:=h;have h:=congrArg jT h;have e:x.cps=y.cps:=g9 h rfl;cases x;cases y;cases e;rfl
theorem Iu(x:af):Zx (bang x)=a6:=by unfold Zx;rw[W5];rfl
theorem j4g(x:af):Zx (qm x)=a6:=by unfold Zx;rw[Eg];rfl
theorem K4{gs:List (af×D)}{q:Bool}{xs:List (af×List D)}{fs:List af}{x:af}{d:D}(h:Gof gs q xs fs (bang x)=a3 d):∃p∈xs,p.1=x/\d=.lst p.2:=by
 unfold Gof at h;rw[if_pos (Iu x),if_neg (jae x)]at h;have hn:(fs.any λf=>qm f==bang x)=a4:=by rw[List.any_eq_false];intro f _ e;exact j0g x f (beq_iff_eq.mp e).symm
 rw[hn,if_neg (by decide),Option.or_none]at h;obtain⟨p,hp,rfl⟩:=ph.mp h;have z:=List.find?_some (p:=λp:af×List D=>bang p.1==bang x) hp;exact⟨p,List.mem_of_find?_eq_some hp,j73 (beq_iff_eq.mp z),rfl⟩
theorem j3n{gs:List (af×D)}{q:Bool}{xs:List (af×List D)}{fs:List af}{x:af}{d:D}(h:Gof gs q xs fs (qm x)=a3 d):x∈fs:=by
 unfold Gof at h;rw[if_pos (j4g x),if_neg (jeu x)]at h;have hn:(xs.find? λp=>bang p.1==qm x)=a7:=by rw[List.find?_eq_none];intro p _ e;exact j0g p.1 x (beq_iff_eq.mp e)
 rw[hn,Option.map_none,Option.none_or]at h;split at h
 .rename_i z;obtain⟨f,hf,e⟩:=List.any_eq_true.mp z;exact jbe (beq_iff_eq.mp e)▸hf
 .cases h
theorem jea{P:aq}{w:ax}{K:k7m}{mg:k7p}{base:aB}{gs:List (af×D)}{q:Bool}{xs:List (af×List D)}{fs:List af}(bt:∀x∈Zy,mg x=a7)
  (gl:∀x d,gs.lookup x=a3 d->∃u v,mg x=a3 u/\RelV v u/\∀H,Enc K H d v) (ea:Dn K=a6) (hx:∀p∈xs,p.1∈Ja/\∃o,W.nsIn K au p.1=a3 (a3 o))
  (el:q=a6->∀c∈Ja,∃v,W.nsIn K au c=a3 (a3 v)) (kin:K.In base) (ns:base.Ns au mg) (fn:∀f∈fs,∃fa,mg f=a3 (.ref fa)/\W.keepIn K (.ref fa)=a6) (kd:∀p∈xs,KindsP P w K mg base "_law_kinds" p.1 p.2) (lm:∀x∈Zc,∀f cdv,mg x=a3 (.ref f)->W6 K f cdv->∃c Pt,cdv=.ref c/\W.codeHdIn K c Pt=a6/\W.tabIn K x=a3 (c,Pt)) (pl:("_law_plan":af)∈fs->j4j P w K mg base:=by exact λh=>absurd h (by decide)):Tb P w K mg base (Gof gs q xs fs):=by
 refine⟨bt,λx d hb h=>?_,ea,λx d h=>?_,λh=>el ?_,kin,ns,λx l h=>?_,λf d h=>fn f (j3n h),λd h=>pl (j3n h),lm⟩
 .unfold Gof at h;rw[if_neg (by rw[hb];decide)]at h;exact gl x d h
 .obtain⟨p,hp,rfl,_⟩:=K4 h;exact hx p hp
 .unfold Gof at h;rw[if_pos (by decide),if_pos rfl]at h;split at h
  .rename_i z;exact z
  .cases h
 .obtain⟨p,hp,rfl,e⟩:=K4 h;cases e;exact kd p hp
def Dh(K:k7m):Sp:=λvs H Q _=>∃(a:aa)(ns:List Int),vs=[.ref a]/\TabOk K H/\SqL K H a (ns.map V.int)/\ns.length<=63/\∀H':Hp,j4 H H'->Q (.bl a6) H'
theorem Il{K:k7m}{H:Hp}{a:aa}{ns:List Int}(h:SqL K H a (ns.map V.int)):j5 K H [.lst (ns.map D.int)] [.ref a] :=
 ⟨_,[],rfl,⟨a,_,rfl,h,j5.ints ns⟩,rfl⟩
theorem jcb{P:aq}{w:ax}{K:k7m}{mg:k7p}{base:aB}{fu:Nat}{G:af->Option D}{T:af->Option Fi}{n:Nat}{x p:af}{fa:aa}{st:aW}{F:Fi}
  (hT:∀x F,T x=a3 F->LkF P w K mg base x F) (t:Tb P w K mg base G)
  (hx:T x=a3 F) (hlam:F.lam=a4) (hm:mg x=a3 (.ref fa)) {fd:aH} (hfun:Fun K x x st fa fd) (N:List af) (hsc:FnScope N [p] (jb st)) (h1:F.n=1) (hN:N.length=F.nn)
  (hts:∀(cdv:a8)(A:az)(outer:List dh)(s:ae)(H:Hp)(E:XK)(xe:k7n),Ts ((v7 CX0 P w K mg base N x (jb st) fa cdv A outer s H E).wish xe) F.body (.ss (ju st)))
  (hlaw:∀ns:List Int,ns.length<=63->evP fu G T (n+1) x [.lst (ns.map D.int)]=.val (.bl a6)):FnOk P w K mg base CX0 (lv (n+1)) fa fd [p] (Dh K):=by
 have S:FnOk P w K mg base CX0 (lv (n+1)) fa fd [p] (spP K λds d=>∃ns:List Int,ns.length<=63/\ds=[.lst (ns.map D.int)]/\d=.bl a6):=by
  refine Bj (k:=lv n+1) hfun hsc (λds d ⟨ns,_,h,_⟩=>by rw[h];rfl) λcdv A outer s H E hcv hr ds d ⟨ns,hns,e1,e2⟩=>?_;subst e1 e2;have e:=hlaw ns hns;simp only[evP,hx,h1,hlam,pq,if_false,xn,T6,if_true]at e;have ab:j8 (qt N [D.lst (ns.map D.int)])=enter F [D.lst (ns.map D.int)]:=Ud (by rw[h1];rfl) hN;have g:Gok (v7 CX0 P w K mg base N x (jb st) fa cdv A outer s H E).nox (evP fu G T n):=λg ds'=>by
   obtain⟨f',fd',ps',q⟩:=Mi (fu:=fu) hT t n g ds';cases z:evP fu G T n g ds' with
   |val d=>rw[z]at q;exact⟨lv n,f',fd',ps',q.1,hr,q.2.1,q.2.2.1,q.2.2.2⟩
   |fresh l=>rw[z]at q;exact⟨lv n,f',fd',ps',q.1,hr,q.2.1,q.2.2.1,q.2.2.2⟩
   |err y=>rw[z]at q;exact⟨lv n,f',fd',ps',q.1,hr.mono (T4 _),q.2.1,q.2.2.1,q.2.2.2⟩
   |lval d=>rw[z]at q;exact λy hy=>⟨lv n,hr.mono (T4 _),q y hy⟩
   |no=>trivial
  refine Yk (fu:=fu) (hts cdv A outer s H E _) (Vr t rfl rfl rfl rfl rfl (Y4 _) hr hsc.nd bC (Wc t hm hcv rfl rfl)) g (qt N _) _ ?_;rw[ab];cases ho:run fu (evP fu G T n) G F.body (enter F [D.lst (ns.map D.int)]) with
  |ret r =>
   rw[ho]at e;have e:r=.val (.bl a6):=e;subst e;intro y hy;cases y with
   |val d=>cases hy;rfl
   |fresh l=>cases hy
  |next ρ'=>rw[ho]at e;cases e
  |brk _=>rw[ho]at e;cases e
  |cnt _=>rw[ho]at e;cases e
  |err _ _=>rw[ho]at e;cases e
  |no=>rw[ho]at e;cases e
 refine S.imp λvs H Q E ⟨a,ns,hv,tb,hS,hl,k⟩=>?_;subst hv;exact⟨[],_,_,tb,(λa h=>nomatch h),by rw[Jb];exact Il hS,⟨ns,hl,rfl,rfl⟩,λv H' g e=>by cases(show v=.bl a6 from e);exact k H' g⟩
noncomputable def Dg(K:k7m):List (aa×af):=Zc.filterMap λx=>(W.tabIn K x).map λq=>(q.2,jr x)
noncomputable def tOk(K:k7m)(ts:List aa):Bool:=(Zc.all λx=>match W.nsIn K au x with
  |some a7=>a6
  |_=>match W.tabIn K x with
   |some (c,P)=>W.codeHdIn K c P&&ts.contains P
   |none=>a4)&&W.noTabs K&&decide ((Dg K).map (·.1)).Nodup
theorem j80{K:k7m}{ts:List aa}{h:aB}(hk:tOk K ts=a6)(X:K.In h)(ht:∀P∈ts,h.get? P=a3 (W.tabObj #[])):j75 (Dg K) h:=by
 unfold tOk at hk;rw[Xk,Xk]at hk;refine⟨of_decide_eq_true hk.2,λt hm=>?_⟩;obtain⟨x,hx,e⟩:=tu.mp hm;obtain⟨⟨c,P⟩,e1,e2⟩:=ph.mp e;subst e2;have z:=Pr.mp hk.1.1 x hx;split at z
 .rename_i y;exfalso;unfold W.tabIn at e1;rw[y]at e1;cases e1
 .rw[e1]at z;have z:(W.codeHdIn K c P&&ts.contains P)=a6:=z;rw[Xk]at z;exact⟨⟨c,W.codeHd_of_K X z.1⟩,ht P (by simpa using z.2)⟩
theorem jf2{K:k7m}{ts:List aa}{h:aB}{mg:k7p}(hk:tOk K ts=a6)(X:K.In h)(Gn:h.Ns au mg):∀x∈Zc,∀f cdv,mg x=a3 (.ref f)->W6 K f cdv->∃c Pt,cdv=.ref c/\W.codeHdIn K c Pt=a6/\W.tabIn K x=a3 (c,Pt):=λx hx f cdv hm hcv=>by
 unfold tOk at hk;rw[Xk,Xk]at hk;have z:=Pr.mp hk.1.1 x hx;split at z
 .rename_i y;rw[W.mg_none_of X Gn y]at hm;cases hm
 .split at z
  .rename_i c P e;rw[Xk]at z;refine⟨c,P,?_,z.1,e⟩;obtain⟨oc,od,fd,sl,e3,e4⟩:=hcv;unfold W.tabIn at e;split at e
   .rename_i f' hf;have e5:=W.mg_of X Gn hf;rw[hm]at e5;cases e5;rw[e3]at e;dsimp only at e;split at e
    .rename_i c' hc;split at e
     .split at e
      .cases e;rw[<-e4];exact hc
      .cases e
     .cases e
    .cases e
   .cases e
  .cases z
theorem jar{K:k7m}{H:Hp}(hO:Only (Dg K) H):TabOk K H:=λx hx c P e=>hO.2 (P,jr x) (tu.mpr ⟨x,hx,by rw[e];rfl⟩)
theorem j31{K:k7m}{ts:List aa}(hk:tOk K ts=a6):W.noTabs K=a6:=by unfold tOk at hk;rw[Xk,Xk]at hk;exact hk.1.2
theorem walkL{l:cY}{q:aq}{loose:List af}{XP:(af->Option a8)->aB->Prop}{YP:ax->aB->Prop}{d:DefRec}{K:kT->k7m}{k:Nat}{x:af}{ts:List aa}(hk:k<=100)(hn:l.most=a3 63)(hdf:d.params.defaults=[])
  (hY:∀(w:ax)(h:aB),YP w h->(K w.params).In h/\∀P∈ts,h.get? P=a3 (W.tabObj #[])) (hK:∀w:ax,tOk (K w.params) ts=a6)
  (F:∀(w:ax)(mg:k7p)(fa:aa)(h:aB),(K w.params).In h->h.Ns au mg->mg d.name=a3 (.ref fa)->tOk (K w.params) ts=a6 ->
   ∃fd:aH,(∀(s:ae)(u:a8),fm s fd ⟨[u],[]⟩ [(x,u)])/\∀base:aB,(K w.params).In base->base.Ns au mg->FnOk l.prog w (K w.params) mg base CX0 k fa fd [x] (Dh (K w.params))) :
  gL q loose XP YP l.row.toRowW d [] (λf vs=>gR f vs) :=
 L2.walk_of (n:=63) (k:=k) (x:=x) (CX:=λ_=>CX0) (sp:=λw=>Dh (K w.params)) (ts:=λw=>Dg (K w.params)) hn (by decide) hdf
  (Room.mono (k:=100) ⟨rfl,by decide,by decide⟩ hk) (λw h Y=>⟨(hY w h Y).1,j80 (hK w) (hY w h Y).1 (hY w h Y).2⟩) (λw=>j31 (hK w)) (λw mg fa h X G m=>F w mg fa h X G m (hK w)) (λw H a ns hl hO hS=>⟨a,ns,rfl,jar hO,hS,hl,λH' g=>⟨rfl,g⟩⟩) λ_ _ _ _ _ z=>z
def Lf(K:k7m)(x:af)(st:aW):Prop:=∃(f:aa)(oc:a8)(od:Option aa)(kV dc pm:a8)(an:Option aa)(cd ct:a8)(sl:Array (Option a8)),W.nsIn K au x=a3 (a3 (.ref f)) /\
 K.lookup f=a3 ⟨oc,od,.func (W.fnOf x x (vp st) (ju st) (jb st) .none kV dc pm an cd ct),sl⟩/\W.codeIn K cd x=a6/\W.keepIn K (.ref f)=a6
def TrT(P:aq)(w:ax)(K:k7m)(mg:k7p)(base:aB)(x:af)(N:List af)(st:aW)(b:Sx):Prop :=
 ∀(f:aa)(cdv:a8)(A:az)(outer:List dh)(s:ae)(H:Hp)(E:XK) (xe:k7n),Ts ((v7 CX0 P w K mg base N x (jb st) f cdv A outer s H E).wish xe) b (.ss (ju st))
noncomputable def lamT(st:aW):Tx:=(Bg (ju st)).getD ({ posonlyargs:=[],args:=[],vararg:=a7,kwonlyargs:=[],kw_defaults:=[],kwarg:=a7,defaults:=[] },.Name "" ⟨0,0,0,0⟩,{ kind:=.function,names:=[],isGenerator:=a4,isCoroutine:=a4 })
def TrL(P:aq)(w:ax)(K:k7m)(mg:k7p)(base:aB)(x:af)(N:List af)(t:Tx)(e:Ex):Prop :=
 ∀(a c:aa)(cl:List (af×aa)) (A:az) (outer:List dh) (s:ae) (H:Hp),Tr (Y6 P w K mg base N (jr x) t.2.2 a (.ref c) cl A outer s H) e (.e t.2.1)
theorem j96{sc:aX}(x:af)(h:sc.names.lookup x=a3 .free):x∈vo sc:=by unfold vo;rw[List.mem_reverse];exact X8.mpr ⟨(x,.free),Xu.mpr ⟨lookup_mem h,rfl⟩,rfl⟩
noncomputable def bOk(K:k7m):Bool:=Zy.all λx=>match W.nsIn K au x with
 |some a7=>a6
 |_=>a4
section
variable{P:aq}{w:ax}{K:k7m}{mg:k7p}{base h:aB}{x:af}{st:aW}{N ps:List af}{F:Fi}
theorem jfq(X:K.In h)(Gn:h.Ns au mg)(hb:bOk K=a6):∀x∈Zy,mg x=a7:=λx hx=>by
 have z:=Pr.mp hb x hx;split at z
 .rename_i e;exact W.mg_none_of X Gn e
 .cases z
theorem qj(L:Lf K x st)(X:K.In h)(Gn:h.Ns au mg)(t:TrT P w K mg base x N st F.body)(ps:List af)(sc:FnScope N ps (jb st))(h1:ps.length=F.n)(h2:N.length=F.nn)
  (hb:∀(kV doc pm:a8)(an:Option aa)(cdv ct:a8)(us:List a8),us.length=ps.length->dZ (W.fnOf x x (vp st) (ju st) (jb st) .none kV doc pm an cdv ct) ⟨us,[]⟩=pure (ps.zip us)) (hd:x∉jdg):Lk P w K mg base x F:=by
 obtain⟨f,oc,od,kV,dc,pm,an,cd,ct,sl,a,l,c,k⟩:=L;exact⟨st,f,_,N,ps,K5 l c k,sc,h1,h2,(K5 l c k).binds hb,λz=>absurd z hd,W.mg_of X Gn a,t f⟩
theorem Lx(L:Lf K x st):Zq K x=Bg (ju st):=by obtain⟨f,oc,od,kV,dc,pm,an,cd,ct,sl,a,l,c,k⟩:=L;unfold Zq;rw[a];dsimp only;rw[l]
theorem lkF(L:Lk P w K mg base x F)(h:F.lam=a4)(hn:x.cps.toList.getLast?≠a3 62):LkF P w K mg base x F:=⟨λ_=>⟨L,hn⟩,λz=>by rw[h]at z;cases z⟩
theorem jca{e:Ex}{q:af}(hq:q=jr x)(h:Zq K x=Bg (ju st))(ht:Bg (ju st)=a3 (lamT st))(tr:TrL P w K mg base x N (lamT st) e)(ps:List af)(sc:LamScope N ps (lamT st).2.2)(h1:N.length=F.n)(h2:F.nn=F.n)(hb:F.body=.ret e)(hl:F.lam=a6)
  (ha:∀(cl:List (af×aa)) (pm:a8) (c:aa) (ctv:a8) (us:List a8),us.length=ps.length->dZ (W.kla_fn "<lambda>" (jr x) (lamT st).1 (lamT st).2.1 (lamT st).2.2 cl pm (.ref c) ctv) ⟨us,[]⟩=pure (ps.zip us)):LkF P w K mg base q F :=
 ⟨λz=>by(rw[hl]at z;cases z),λ_=>⟨x,hq,⟨lamT st,N,ps,e,h.trans ht,sc,h1,h2,hb,ha,tr⟩⟩⟩
theorem us1{us:List a8}(h:us.length=1):∃a,us=[a]:=by match us,h with|[a],_=>exact⟨a,rfl⟩
theorem us2{us:List a8}(h:us.length=2):∃a b,us=[a,b]:=by match us,h with|[a,b],_=>exact⟨a,b,rfl⟩
theorem us3{us:List a8}(h:us.length=3):∃a b c,us=[a,b,c]:=by match us,h with|[a,b,c],_=>exact⟨a,b,c,rfl⟩
end
theorem lf_mk{K:k7m}{x:af}{st:aW}{f:aa}{oc:a8}{od:Option aa}{kV dc pm:a8}{an:Option aa}{cd ct:a8}{sl:Array (Option a8)}(a:W.nsIn K au x=a3 (a3 (.ref f)))
  (l:K.lookup f=a3 ⟨oc,od,.func (W.fnOf x x (vp st) (ju st) (jb st) .none kV dc pm an cd ct),sl⟩) (c:W.codeIn K cd x=a6) (k:W.keepIn K (.ref f)=a6):Lf K x st:=⟨f,oc,od,kV,dc,pm,an,cd,ct,sl,a,l,c,k⟩
end L2
end
section
namespace L2
open PySem (Str sizeLine argBest)
theorem zm{n:Nat}(h:n<=1000000):n<=aj:=Xh h (by decide)
theorem lt_size{n:Nat}(h:n<=1000000):n<aj:=bR h (by decide)
noncomputable def Cu(o:So)(f:En->So):So:=match o with
 |.next ρ=>f ρ
 |o=>o
noncomputable def ifS(c:Option Bool)(f g:En->So)(ρ:En):So:=match c with
 |some a6=>f ρ
 |some a4=>g ρ
 |none=>.no
noncomputable def Wh(is:List Nat)(f:En->So)(d:D)(ρ:En):So:=match zf is d ρ with
 |some ρ2=>f ρ2
 |none=>.no
noncomputable def j7l(is:List Nat)(w:Option W)(f:En->So)(ρ:En):So:=match w with
 |some (.i ds)=>Q0 (Wh is f) ds ρ
 |_=>.no
section
variable{fu:Nat}{Γ:af->List D->Rc}{G:af->Option D}{ρ:En}{i j:Nat}{e c k:Ex}{a b:Sx}{is:List Nat}
theorem j8a:run fu Γ G .nop ρ=.next ρ:=by rw[run]
theorem j88:run fu Γ G (.seq a b) ρ=Cu (run fu Γ G a ρ) (run fu Γ G b):=by rw[run];rfl
theorem j87:run fu Γ G (.set i e) ρ=orE (Oq i (ev Γ G e ρ) ρ) (er Γ G e ρ) ρ:=by rw[run]
theorem j8b:run fu Γ G (.mov i j) ρ=j19 i j ρ[j]? ρ:=by rw[run]
theorem j51:run fu Γ G (.expr e) ρ=orE (j1m (ev Γ G e ρ) ρ) (er Γ G e ρ) ρ:=by rw[run]
theorem j89:run fu Γ G (.ret e) ρ=orE (retS (ev Γ G e ρ)) (er Γ G e ρ) ρ:=by rw[run]
theorem j5b{ρ':En}{x:Option af}:orE (.next ρ') x ρ=.next ρ':=(rfl)
theorem El{r:Rc}{x:Option af}:orE (.ret r) x ρ=.ret r:=(rfl)
theorem j4x:run fu Γ G (.retV i) ρ=Mg ρ[i]?:=by rw[run]
theorem j8c:run fu Γ G (.ife c a b) ρ=ifS (truth (ev Γ G c ρ)) (run fu Γ G a) (run fu Γ G b) ρ:=by rw[run];rfl
theorem j4z:run fu Γ G (.loop is e a) ρ=j7l is (ev Γ G e (frz e ρ)) (run fu Γ G a) (frz e ρ):=by rw[run];rfl
theorem j8e:run fu Γ G (.app i e) ρ=Ry i ρ[i]? (ev Γ G e ρ) ρ:=by rw[run]
theorem j8d:run fu Γ G (.ext i e) ρ=K6 i ρ[i]? (ev Γ G e ρ) ρ:=by rw[run]
theorem jau{d:D}:stOf (a3 (.v (.e d)))=a3 d:=(rfl)
theorem j50:run fu Γ G (.keep i) ρ=Dl i ρ[i]? ρ:=by rw[run]
theorem j3f{l:List D}:Dl i (a3 (.own l)) ρ=.next (ρ.set i (.val (.lst l))):=(rfl)
noncomputable def jdj(s:Option Sv)(v:Option (List D)):Option (List D):=match s,v with
 |some (.val d),a3 ds=>a3 (d::ds)
 |_,_=>a7
theorem j0n:Qs ρ []=a3 []:=(rfl)
theorem Ky:Qs ρ (i::is)=jdj ρ[i]? (Qs ρ is):=(rfl)
theorem jdi{d:D}{ds:List D}:jdj (a3 (.val d)) (a3 ds)=a3 (d::ds):=(rfl)
theorem j4y{f x:af}{a b:Ex}:run fu Γ G (.retC f x a b is) ρ=Di Γ f x (Qs ρ is) (ev Γ G a ρ) (ev Γ G b ρ):=by rw[run]
theorem j8i{f x:af}{ds:List D}{d d':D}:Di Γ f x (a3 ds) (a3 (.v (.e d))) (a3 (.v (.e d')))=Dj (Γ f [d,d',.fn x ds]):=(rfl)
theorem j8j{d:D}(h:noFn d=a6):Dj (.val d)=.ret (.val d):=if_pos h
theorem j2b{x t y:Nat}{it e1 e2:Ex}{ds:List D}{r:List (List Int)×List Int}(hc:x<ρ.length/\t<ρ.length/\y<ρ.length/\x≠t/\x≠y/\t≠y)(hi:ev Γ G it (ρ.set x .un)=a3 (.i ds))(hd:V7 (λρ=>stOf (ev Γ G e1 ρ)) (λρ=>stOf (ev Γ G e2 ρ)) x t y ds (ρ.set x .un) [] []=a3 r) :
  run fu Γ G (.nmake x t y it e1 e2) ρ=.ret (.val (.dct r.1 (r.2.map D.int))):=by rw[run,if_pos hc,hi];dsimp only;rw[hd]
end
section
variable{f g:En->So}{ρ:En}{i j:Nat}{d:D}{l m:List D}{r:Rc}{x:Rk}
theorem j28:Cu (.next ρ) f=f ρ:=(rfl)
theorem Cr:Cu (.ret r) f=.ret r:=(rfl)
theorem jfc:ifS (a3 a6) f g ρ=f ρ:=(rfl)
theorem jfd:ifS (a3 a4) f g ρ=g ρ:=(rfl)
theorem jaz:Oq i (a3 (.v (.o l))) ρ=.next (ρ.set i (.own l)):=(rfl)
theorem jb0:Oq i (a3 (.v (.e d))) ρ=.next (ρ.set i (.val d)):=(rfl)
theorem jb9:retS (a3 (.v (.o l)))=.ret (.fresh l):=(rfl)
theorem j2g:retS (a3 (.v (.e d)))=.ret (.val d):=(rfl)
theorem jb8:retS (a3 (.v (.t d)))=.ret (.val d):=(rfl)
theorem j8h:Mg (a3 (.own l))=.ret (.fresh l):=(rfl)
theorem j8g:Mg (a3 (.val d))=.ret (.val d):=(rfl)
theorem jc3(h:i≠j):j19 i j (a3 (.own l)) ρ=.next ((ρ.set j .un).set i (.own l)):=if_neg h
theorem jcx:j1m (a3 (.v x)) ρ=.next ρ:=(rfl)
theorem Q3:Wh [i] f d ρ=f (ρ.set i (.val d)):=(rfl)
theorem Bo{a b:D}:Wh [i,j] f (.tup [a,b]) ρ=f ((ρ.set i (.val a)).set j (.val b)):=(rfl)
theorem j95{is:List Nat}{ds:List D}:j7l is (a3 (.i ds)) f ρ=Q0 (Wh is f) ds ρ:=(rfl)
theorem je2(h:l.length<=1000000):Ry i (a3 (.own l)) (a3 (.v (.e d))) ρ=.next (ρ.set i (.own (l++[d]))):=by simp[Ry,Rk.st,lt_size h]
theorem je1(h:l.length<=1000000)(hd:Jy d=a6):Ry i (a3 (.own l)) (a3 (.v (.t d))) ρ=.next (ρ.set i (.own (l++[d]))):=by simp[Ry,Rk.st,hd,lt_size h]
theorem jcw(h:l.length+m.length<=1000000):K6 i (a3 (.own l)) (a3 (.v (.o m))) ρ=.next (ρ.set i (.own (l++m))):=by simp[K6,jl,zm h]
theorem j02:fin (.ret r)=r:=(rfl)
theorem j6b:fin (.next ρ)=.val .non:=(rfl)
theorem jw{fu:Nat}{G:af->Option D}{T:af->Option Fi}{n:Nat}{f:af}{ds:List D}{F:Fi}(h:T f=a3 F)(hl:ds.length=F.n)(hla:F.lam=a4:=by rfl):evP fu G T (n+1) f ds=fin (run fu (evP fu G T n) G F.body (enter F ds)):=by simp only[evP,h,if_pos hl,hla,pq,if_false]
theorem j9z{fu:Nat}{G:af->Option D}{T:af->Option Fi}{n:Nat}{f:af}{ds:List D}{F:Fi}(h:T f=a3 F)(hl:ds.length=F.n)(hla:F.lam=a6:=by rfl):evP fu G T (n+1) f ds=j1f (fin (run fu (evP fu G T n) G F.body (enter F ds))):=by simp only[evP,h,if_pos hl,hla,if_true]
theorem jcd:j1f (.val d)=.lval d:=(rfl)
end
theorem Zv{f:D->En->So}(W:Nat->En->Prop):∀{ds:List D}{ρ:En}{k:Nat},W k ρ->(∀i d ρ,ds[i]?=a3 d->W (k+i) ρ->∃ρ',f d ρ=.next ρ'/\W (k+i+1) ρ')->∃ρ',Q0 f ds ρ=.next ρ'/\W (k+ds.length) ρ'
 |[],ρ,k,h0,_=>⟨ρ,rfl,h0⟩
 |d::ds,ρ,k,h0,hs=>by
  obtain⟨ρ1,e1,w1⟩:=hs 0 d ρ rfl h0;obtain⟨ρ2,e2,w2⟩:=Zv (f:=f) W (ds:=ds) (k:=k+1) w1 λi d' ρ' hi w=>by have:=hs (i+1) d' ρ' (by simpa using hi) (by rw[show k+(i+1)=k+1+i by omega];exact w);rw[show k+(i+1)+1=k+1+i+1 by omega]at this;exact this
  refine⟨ρ2,?_,by rw[xn,show k+(ds.length+1)=k+1+ds.length by omega];exact w2⟩;rw[Q0,e1];exact e2
theorem Ri{f:D->En->So}(W:Nat->En){ds:List D}{ρ:En}(h0:ρ=W 0)(hs:∀i d,ds[i]?=a3 d->f d (W i)=.next (W (i+1))):Q0 f ds ρ=.next (W ds.length):=by
 obtain⟨ρ',e,w⟩:=Zv (f:=f) (λi ρ=>ρ=W i) (k:=0) (ds:=ds) (ρ:=W 0) rfl λi d ρ hi w=>⟨W (0+i+1),by rw[w,T9];exact hs i d hi,rfl⟩
 rw[h0,e,w,T9]
theorem Qk{f:D->En->So}{ds:List D}{ρ:En}{g:En->So}{r:Rc}(W:Nat->En->Prop)(h0:W 0 ρ)(hs:∀i d ρ,ds[i]?=a3 d->W i ρ->∃ρ',f d ρ=.next ρ'/\W (i+1) ρ')(hk:∀ρ',W ds.length ρ'->fin (g ρ')=r) :
  fin (Cu (Q0 f ds ρ) g)=r:=by
 obtain⟨ρ',e,w⟩:=Zv (f:=f) W (k:=0) (ds:=ds) (ρ:=ρ) h0 λi d ρ hi w=>by rw[T9]at w ⊢;exact hs i d ρ hi w
 rw[e];rw[T9]at w;exact hk ρ' w
theorem N5{f:D->En->So}{ds:List D}{ρ:En}{g:En->So}{Q:En->Prop}(W:Nat->En->Prop)(h0:W 0 ρ)(hs:∀i d ρ,ds[i]?=a3 d->W i ρ->∃ρ',f d ρ=.next ρ'/\W (i+1) ρ')
  (hk:∀ρ',W ds.length ρ'->∃ρ2,g ρ'=.next ρ2/\Q ρ2):∃ρ2,Cu (Q0 f ds ρ) g=.next ρ2/\Q ρ2:=by
 obtain⟨ρ',e,w⟩:=Zv (f:=f) W (k:=0) (ds:=ds) (ρ:=ρ) h0 λi d ρ hi w=>by rw[T9]at w ⊢;exact hs i d ρ hi w
 rw[e];rw[T9]at w;exact hk ρ' w
noncomputable def j7o(d:Option D):Option W:=d.map λd=>.v (.e d)
noncomputable def j64(i:Option Int):Option W:=i.map λk=>.v (.e (.int k))
noncomputable def jcr(a:Option W):Option W:=match a with
 |some (.v x)=>a3 (.v (.e (.bl x.d.isNon)))
 |_=>a7
noncomputable def je4(k:Option Bool)(f:En->Option W)(ρ:En):Option W:=match k with
 |some a4=>a3 (.v (.e (.bl a4)))
 |some a6=>blW (truth (f ρ))
 |none=>a7
noncomputable def orW(k:Option Bool)(f:En->Option W)(ρ:En):Option W:=match k with
 |some a6=>a3 (.v (.e (.bl a6)))
 |some a4=>blW (truth (f ρ))
 |none=>a7
noncomputable def jc2(k:Option Bool):Option W:=k.map λk=>.v (.e (.bl (!k)))
noncomputable def stW(a:Option W):Option W:=match a with
 |some (.v x)=>x.st.map λd=>.v (.e d)
 |_=>a7
noncomputable def j5u(k:Option Bool)(f g:En->Option W)(ρ:En):Option W:=match k with
 |some a6=>stW (f ρ)
 |some a4=>stW (g ρ)
 |none=>a7
noncomputable def slW(a:Option W)(l h:Option (Option Int)):Option W:=match a,l,h with
 |some (.v x),a3 l,a3 h=>match x.sq with
  |some (a6,ds)=>a3 (.v (.o (cutD ds l h)))
  |some (a4,ds)=>if HT.sIx ds.length 0 l=0/\HT.sIx ds.length ds.length h=ds.length then a7 else a3 (.v (.e (.tup (cutD ds l h))))
  |none=>match x.d with
   |.str z=>if jl z.length=a6 then a3 (.v (.e (.str (bM z l h))))else a7
   |_=>a7
 |_,_,_=>a7
noncomputable def Zi(is:List Nat)(c e:En->Option W)(ρ:En)(d:D):Option (Option D):=match zf is d ρ with
 |none=>a7
 |some ρ2=>match c ρ2 with
  |some (.a [])=>match e ρ2 with
   |some (.v x)=>x.st.map a3
   |_=>a7
  |some (.a [y])=>match y.d with
   |.bl a6=>match e ρ2 with
    |some (.v x)=>x.st.map a3
    |_=>a7
   |.bl a4=>a3 a7
   |_=>a7
  |_=>a7
noncomputable def j1r(is:List Nat)(w:Option W)(c e:En->Option W)(z:Bool)(ρ:En):Option W:=match w with
 |some (.i ds)=>if j1k is ρ=a6/\jl ds.length=a6 then(Jj (Zi is c e ρ) ds).bind λl=>if (z && !z9 l)=a6 then a7 else a3 (.v (.o l))else a7
 |_=>a7
section
variable{Γ:af->List D->Rc}{G:af->Option D}{ρ:En}{a b c e:Ex}{op:Bop}{cp:Cop}{x f:af}{i:Nat}{d:D}
theorem jd4:ev Γ G (.lit d) ρ=a3 (.v (.e d)):=by rw[ev]
theorem jcy:ev Γ G (.var i) ρ=Dq ρ[i]?:=by rw[ev]
theorem j9t:ev Γ G (.glob x) ρ=j7o (G x):=by rw[ev];rfl
theorem jdb:ev Γ G (.bin op a b) ρ=J1 op (ev Γ G a ρ) (ev Γ G b ρ):=by rw[ev]
theorem jd8:ev Γ G (.cmp cp a b) ρ=Kh cp (ev Γ G a ρ) (ev Γ G b ρ):=by rw[ev]
theorem jd7:ev Γ G (.isN a) ρ=jcr (ev Γ G a ρ):=by rw[ev];rfl
theorem jdc:ev Γ G (.and a b) ρ=je4 (truth (ev Γ G a ρ)) (ev Γ G b) ρ:=by rw[ev];rfl
theorem jfl:ev Γ G (.or a b) ρ=orW (truth (ev Γ G a ρ)) (ev Γ G b) ρ:=by rw[ev];rfl
theorem jd1:ev Γ G (.not a) ρ=jc2 (truth (ev Γ G a ρ)):=by rw[ev];rfl
theorem jd5:ev Γ G (.ite c a b) ρ=j5u (truth (ev Γ G c ρ)) (ev Γ G a) (ev Γ G b) ρ:=by rw[ev];rfl
theorem jd2:ev Γ G .nil ρ=a3 (.a []):=by rw[ev]
theorem j9w:ev Γ G (.cons a b) ρ=consW (ev Γ G a ρ) (ev Γ G b ρ):=by rw[ev]
theorem jcz:ev Γ G (.tup a) ρ=Zz (ev Γ G a ρ):=by rw[ev]
theorem jd3:ev Γ G (.lst a) ρ=Vl (ev Γ G a ρ):=by rw[ev]
theorem jfm:ev Γ G (.ix a b) ρ=ixW (ev Γ G a ρ) (ev Γ G b ρ):=by rw[ev]
theorem jfk:ev Γ G (.sl a b c) ρ=slW (ev Γ G a ρ) (Z0 (ev Γ G b ρ)) (Z0 (ev Γ G c ρ)):=by rw[ev];rfl
theorem j9s{sep:af}:ev Γ G (.join sep a) ρ=Mt sep (ev Γ G a ρ):=by rw[ev]
theorem jd9{b c:Ex}:ev Γ G (.chn a b c) ρ=j1t (ev Γ G a ρ) (ev Γ G b ρ) (ev Γ G c ρ):=by rw[ev]
theorem jdo{i j k:Int}:j1t (a3 (.v (.e (.int i)))) (a3 (.v (.e (.int j)))) (a3 (.v (.e (.int k))))=a3 (.v (.e (.bl (decide (i<j)&&decide (j<k))))):=(rfl)
theorem j6g:ev Γ G (.callV i a) ρ=Oa Γ ρ[i]? (ev Γ G a ρ):=by rw[ev]
theorem j6u{cs:List D}{u v:D}(h:Jo [u,v]=a6):Oa Γ (a3 (.val (.fn x cs))) (a3 (.a [.e u,.e v]))=(Γ (jr x) (cs++[u,v])).lv:=if_pos h
theorem jgj:(Rc.lval d).lv=a3 (.v (.e d)):=(rfl)
theorem j9v:ev Γ G (.dget a b) ρ=O3 (ev Γ G a ρ) (ev Γ G b ρ):=by rw[ev]
theorem j6f:ev Γ G (.dvals a) ρ=O2 (ev Γ G a ρ):=by rw[ev]
theorem j6l{ks:List (List Int)}{ds:List D}:O2 (a3 (.v (.e (.dct ks ds))))=a3 (.v (.e (.tup ds))):=(rfl)
theorem j9q:ev Γ G (.minT a) ρ=Mm (ev Γ G a ρ):=by rw[ev]
theorem j9u:ev Γ G (.enum a) ρ=Wd (ev Γ G a ρ):=by rw[ev]
theorem j9y:ev Γ G (.call f a) ρ=Qe Γ f (ev Γ G a ρ):=by rw[ev]
theorem jda{f:Bf}:ev Γ G (.blt f a) ρ=vd f (ev Γ G a ρ):=by rw[ev]
theorem j9r{m:Mf}:ev Γ G (.meth m a b) ρ=Mp m (ev Γ G a ρ) (ev Γ G b ρ):=by rw[ev]
theorem jd6{ts:List String}:ev Γ G (.isi a ts) ρ=Lz (ev Γ G a ρ) ts:=by rw[ev]
theorem j9x{is:List Nat}:ev Γ G (.comp is e a c) ρ=j1r is (ev Γ G a (frz a ρ)) (ev Γ G c) (ev Γ G e) (J2 a ρ) (frz a ρ):=by rw[ev];rfl
theorem jd0:ev Γ G (.seq a) ρ=Ot (ev Γ G a ρ):=by rw[ev]
theorem j6e:ev Γ G (.range a) ρ=Mh (ev Γ G a ρ):=by rw[ev]
end
section
variable{x y:Rk}{d:D}{i j k:Int}{l m:List D}{b:Bool}{f g:En->Option W}{ρ:En}{xs:List Rk}{op:Bop}{cp:Cop}
theorem jak:Dq (a3 (.val d))=a3 (.v (.e d)):=(rfl)
theorem jal:Dq (a3 (.own l))=a3 (.v (.w l)):=(rfl)
theorem j9p:j7o (a3 d)=a3 (.v (.e d)):=(rfl)
theorem jcs:j64 (a3 i)=a3 (.v (.e (.int i))):=(rfl)
theorem jfr:blW (a3 b)=a3 (.v (.e (.bl b))):=(rfl)
theorem jdz:J1 op (a3 (.v (.e (.int i)))) (a3 (.v (.e (.int j))))=j64 (binI op i j):=by simp only[J1,Zf,Rk.d,j64,rkW];cases binI op i j<;>rfl
theorem j72:binI .add i j=a3 (i+j):=(rfl)
theorem j6y:binI .sub i j=a3 (i-j):=(rfl)
theorem j70(h:(-18446744073709551616<i/\i<18446744073709551616)\/(-18446744073709551616<j/\j<18446744073709551616)):binI .mul i j=a3 (i*j):=if_pos h
theorem j4e(h:0<j/\j<18446744073709551616):binI .fdiv i j=a3 (i/j):=if_pos h
theorem j71(h:0<j):binI .mod i j=a3 (i%j):=if_pos h
theorem j6z(h:0<=j/\j<=1000000/\i.natAbs<18446744073709551616):binI .shl i j=a3 (i*2^j.toNat):=if_pos h
theorem jdu(h:l.length+m.length<=1000000):J1 .add (a3 (.v (.o l))) (a3 (.v (.o m)))=a3 (.v (.o (l++m))):=by simp[J1,Zf,Rk.d,Rk.sq,jl,zm h,rkW]
theorem jdt(h:l.length+m.length<=1000000):J1 .add (a3 (.v (.o l))) (a3 (.v (.w m)))=a3 (.v (.o (l++m))):=by simp[J1,Zf,Rk.d,Rk.sq,jl,zm h,rkW]
theorem jdq(h:l.length+m.length<=1000000):J1 .add (a3 (.v (.w l))) (a3 (.v (.o m)))=a3 (.v (.o (l++m))):=by simp[J1,Zf,Rk.d,Rk.sq,jl,zm h,rkW]
theorem jdw(h:l.length+m.length<=1000000):J1 .add (a3 (.v (.e (.lst l)))) (a3 (.v (.o m)))=a3 (.v (.o (l++m))):=by simp[J1,Zf,Rk.d,Rk.sq,jl,zm h,rkW]
theorem jdv(h:l.length+m.length<=1000000):J1 .add (a3 (.v (.e (.lst l)))) (a3 (.v (.w m)))=a3 (.v (.o (l++m))):=by simp[J1,Zf,Rk.d,Rk.sq,jl,zm h,rkW]
theorem jdr(h:l.length+m.length<=1000000):J1 .add (a3 (.v (.e (.tup l)))) (a3 (.v (.e (.tup m))))=a3 (.v (.e (.tup (l++m)))):=by simp[J1,Zf,Rk.d,Rk.sq,jl,zm h,rkW]
theorem jba(h:1<=k/\k<=1000000):J1 .mul (a3 (.v (.e (.tup [d])))) (a3 (.v (.e (.int k))))=a3 (.v (.e (.tup (ak k.toNat d)))):=by simp only[J1,Zf,Rk.d,Rk.sq];rw[if_pos ⟨h.1,by omega,rfl,decide_eq_true (zm (by simp only[xn,T6];omega))⟩];simp only[rkW,Option.map,List.flatten_replicate_singleton]
theorem jdk:Kh cp (a3 (.v x)) (a3 (.v y))=blW (Q8 cp x.d y.d):=(rfl)
theorem d_e:(Rk.e d).d=d:=(rfl)
theorem d_o:(Rk.o l).d=.lst l:=(rfl)
theorem d_w:(Rk.w l).d=.lst l:=(rfl)
theorem jdl:Q8 cp (.int i) (.int j)=cmpI cp i j:=by cases cp<;>rfl
theorem j6n{a b:Bool}:Q8 .ne (.bl a) (.bl b)=a3 (a != b):=(rfl)
theorem j6r{a b:Bool}:Q8 .eq (.bl a) (.bl b)=a3 (a==b):=(rfl)
theorem j6q(h:(D.lst l).dep<=90)(h2:(D.lst m).dep<=90):Q8 .eq (.lst l) (.lst m)=a3 (zp l m):=by simp[Q8,h,h2,O4,Ka]
theorem j6p{a b:af}:Q8 .eq (.str a) (.str b)=a3 (a==b):=by simp[Q8,D.dep,j3u]
theorem j44:Q8 .eq (.lst []) (.lst [])=a3 (zp [] []):=j6q (by simp[D.dep,D.depL]) (by simp[D.dep,D.depL])
theorem j3y(h:i<j):cmpI .lt i j=a3 a6:=by simp[cmpI,h]
theorem j3z(h:j<=i):cmpI .lt i j=a3 a4:=by simp[cmpI];omega
theorem j40(h:j<i):cmpI .gt i j=a3 a6:=by simp[cmpI,h]
theorem j41(h:i<=j):cmpI .gt i j=a3 a4:=by simp[cmpI];omega
theorem j42(h:i=j):cmpI .eq i j=a3 a6:=by simp[cmpI,h]
theorem j43(h:i≠j):cmpI .eq i j=a3 a4:=by simp[cmpI,h]
theorem ja7:cmpI .gt i j=a3 (decide (j<i)):=(rfl)
theorem j0d:cmpI .eq i j=a3 (decide (i=j)):=(rfl)
theorem jcq:jcr (a3 (.v x))=a3 (.v (.e (.bl x.d.isNon))):=(rfl)
theorem j7y:truth (a3 (.v (.e (.bl b))))=a3 b:=(rfl)
theorem je3:je4 (a3 a6) f ρ=blW (truth (f ρ)):=(rfl)
theorem jey:orW (a3 a4) f ρ=blW (truth (f ρ)):=(rfl)
theorem jc1:jc2 (a3 b)=a3 (.v (.e (.bl (!b)))):=(rfl)
theorem jek:stW (a3 (.v (.e d)))=a3 (.v (.e d)):=(rfl)
theorem jcn:j5u (a3 a6) f g ρ=stW (f ρ):=(rfl)
theorem jco:j5u (a3 a4) f g ρ=stW (g ρ):=(rfl)
theorem ja6:consW (a3 (.v x)) (a3 (.a xs))=a3 (.a (x::xs)):=(rfl)
theorem Ds(h:zq xs=a3 l)(hl:l.length<=1000000):Zz (a3 (.a xs))=a3 (.v (.e (.tup l))):=by simp[Zz,h,jl,zm hl]
theorem jc6(h:zq xs=a3 l)(hl:l.length<=1000000):Vl (a3 (.a xs))=a3 (.v (.o l)):=by simp[Vl,h,jl,zm hl]
theorem jaq:Zz (a3 (.a []))=a3 (.v (.e (.tup []))):=by simp[Zz,zq,jl]
theorem jap{a:D}:Zz (a3 (.a [.e a]))=a3 (.v (.e (.tup [a]))):=Ds rfl (by simp)
theorem jao{a b:D}:Zz (a3 (.a [.e a,.e b]))=a3 (.v (.e (.tup [a,b]))):=Ds rfl (by simp)
theorem jc9:Vl (a3 (.a []))=a3 (.v (.o [])):=by simp[Vl,zq,jl]
theorem jc8{a:D}:Vl (a3 (.a [.e a]))=a3 (.v (.o [a])):=jc6 rfl (by simp)
theorem jan{a b c:D}:Zz (a3 (.a [.e a,.e b,.e c]))=a3 (.v (.e (.tup [a,b,c]))):=Ds rfl (by simp)
noncomputable def Mv(o:Option D):Option W:=o.map λd=>.v (.e d)
theorem Cd:∀xs:List D,zq (xs.map Rk.e)=a3 xs
 |[]=>rfl
 |x::xs=>by rw[X4,zq,Cd xs];rfl
theorem jc5(xs:List D)(h:xs.length<=1000000):Vl (a3 (.a (xs.map Rk.e)))=a3 (.v (.o xs)):=by simp[Vl,Cd,jl,zm h]
theorem jc7{a b c d e f g h:D}:Vl (a3 (.a [.e a,.e b,.e c,.e d,.e e,.e f,.e g,.e h]))=a3 (.v (.o [a,b,c,d,e,f,g,h])):=jc5 [a,b,c,d,e,f,g,h] (by simp)
theorem Ez:Mv (a3 d)=a3 (.v (.e d)):=(rfl)
theorem jck:ixW (a3 (.v (.e (.lst l)))) (a3 (.v (.e (.int i))))=Mv (atI l i):=(rfl)
theorem jcj:ixW (a3 (.v (.e (.tup l)))) (a3 (.v (.e (.int i))))=Mv (atI l i):=(rfl)
theorem jfa:ixW (a3 (.v (.o l))) (a3 (.v (.e (.int i))))=Mv (atI l i):=(rfl)
theorem jf8:ixW (a3 (.v (.w l))) (a3 (.v (.e (.int i))))=Mv (atI l i):=(rfl)
noncomputable def jdn(c:Option Nat):Option W:=match c with
 |some c=>a3 (.v (.e (.str ⟨#[c]⟩)))
 |none=>a7
theorem jdm{c:Nat}:jdn (a3 c)=a3 (.v (.e (.str ⟨#[c]⟩))):=(rfl)
theorem jf9{z:af}(h:z.length<=1000000):ixW (a3 (.v (.e (.str z)))) (a3 (.v (.e (.int i))))=jdn (atI z.cps.toList i):=by simp only[ixW,Rk.sq,Rk.d,jl,zm h,decide_true,if_true];cases atI z.cps.toList i<;>rfl
theorem jen{z:af}{lo hi:Option Int}(h:z.length<=1000000):slW (a3 (.v (.e (.str z)))) (a3 lo) (a3 hi)=a3 (.v (.e (.str (bM z lo hi)))):=by simp only[slW,Rk.sq,Rk.d,jl,zm h,decide_true,if_true]
theorem jds{y z:af}(h:y.length+z.length<=1000000):J1 .add (a3 (.v (.e (.str y)))) (a3 (.v (.e (.str z))))=a3 (.v (.e (.str (y++z)))):=by simp[J1,Zf,Rk.d,jl,zm h,rkW]
theorem jfb{k:Bool}:vd .int (a3 (.a [.e (.bl k)]))=a3 (.v (.e (.int (if k then 1 else 0)))):=(rfl)
theorem Jh{ns:List Int}:intsOf (ns.map D.int)=a3 ns:=by
 induction ns with
 |nil=>rfl
 |cons b bs ih=>rw[X4,intsOf,ih];rfl
theorem j0v{ns:List af}:strsOf (ns.map D.str)=a3 ns:=by
 induction ns with
 |nil=>rfl
 |cons b bs ih=>rw[X4,strsOf,ih];rfl
theorem jei{ns:List Int}:vd .sum (a3 (.a [.o (ns.map D.int)]))=a3 (.v (.e (.int ns.sum))):=by simp only[vd,Z1,Rk.d,Jh];rfl
theorem jat{ns:List Int}:vd .sum (a3 (.a [.e (.lst (ns.map D.int))]))=a3 (.v (.e (.int ns.sum))):=by simp only[vd,Z1,Rk.d,Jh];rfl
theorem Ey{sep:af}{ts:List af}(h:eB sep ts=a6):Mt sep (a3 (.v (.o (ts.map D.str))))=a3 (.v (.e (.str (dB sep ts)))):=by simp only[Mt,Rk.d,j0v,h,if_true]
theorem ja1:Wd (a3 (.v (.o l)))=a3 (.i (vz l)):=(rfl)
theorem j6j:Wd (a3 (.v (.e (.lst l))))=a3 (.i (vz l)):=(rfl)
theorem j6i:Wd (a3 (.v (.e (.tup l))))=a3 (.i (vz l)):=(rfl)
theorem j6w:Z0 (a3 (.a []))=a3 a7:=(rfl)
theorem j6v:Z0 (a3 (.a [.e (.int i)]))=a3 (a3 i):=(rfl)
variable{lo hi:Option Int}
theorem jem:slW (a3 (.v (.w l))) (a3 lo) (a3 hi)=a3 (.v (.o (cutD l lo hi))):=(rfl)
variable{Γ:af->List D->Rc}{fn:af}
noncomputable def rcW(r:Rc):Option W:=match r with
 |.val d=>a3 (.v (.e d))
 |.fresh l=>a3 (.v (.o l))
 |_=>a7
theorem jeq:rcW (.val d)=a3 (.v (.e d)):=(rfl)
theorem jer:rcW (.fresh l)=a3 (.v (.o l)):=(rfl)
theorem Wg(h:zq xs=a3 l):Qe Γ fn (a3 (.a xs))=rcW (Γ fn l):=by simp only[Qe,h];cases Γ fn l<;>rfl
theorem jac{a:D}:Qe Γ fn (a3 (.a [.e a]))=rcW (Γ fn [a]):=Wg rfl
theorem jab{a b:D}:Qe Γ fn (a3 (.a [.e a,.e b]))=rcW (Γ fn [a,b]):=Wg rfl
theorem jaa{a b c:D}:Qe Γ fn (a3 (.a [.e a,.e b,.e c]))=rcW (Γ fn [a,b,c]):=Wg rfl
theorem j6t:Qe Γ fn (a3 (.a [.o l]))=rcW (Γ fn [.lst l]):=Wg rfl
noncomputable def rcT(r:Rc):Option W:=match r with
 |.val d=>a3 (.v (.t d))
 |_=>a7
theorem jes:rcT (.val d)=a3 (.v (.t d)):=(rfl)
theorem ja9(h:zq xs=a7):Qe Γ fn (a3 (.a xs))=rcT (Γ fn (xs.map Rk.d)):=by simp only[Qe,h];cases Γ fn (xs.map Rk.d)<;>rfl
theorem j6s{a b:D}:Qe Γ fn (a3 (.a [.w m,.e a,.e b]))=rcT (Γ fn [.lst m,a,b]):=ja9 rfl
theorem jf5:vd .len (a3 (.a [.e (.lst l)]))=a3 (.v (.e (.int l.length))):=(rfl)
theorem jf4:vd .len (a3 (.a [.e (.tup l)]))=a3 (.v (.e (.int l.length))):=(rfl)
theorem jf3:vd .len (a3 (.a [.w l]))=a3 (.v (.e (.int l.length))):=(rfl)
theorem j7k{ns:List Int}(h:ns≠[]):vd .max (a3 (.a [.o (ns.map D.int)]))=a3 (.v (.e (.int (vm ns)))):=by
 have e:ns.isEmpty=a4:=by cases ns with|nil=>exact absurd rfl h|cons _ _=>rfl
 simp only[vd,Z1,Rk.d,Jh,e,if_true];rfl
theorem jez{ns:List Int}(h:ns≠[]):vd .min (a3 (.a [.o (ns.map D.int)]))=a3 (.v (.e (.int (Qv ns)))):=by
 have e:ns.isEmpty=a4:=by cases ns with|nil=>exact absurd rfl h|cons _ _=>rfl
 simp only[vd,Z1,Rk.d,Jh,e,if_true];rfl
theorem j55{ks:List (Int×List Int)}:Ow (ks.map pairD)=a3 ks:=by
 induction ks with
 |nil=>rfl
 |cons k ks ih=>rw[X4,Ow,ih,pairD];simp only[prI,tupI,Jh,eQ]
theorem j93{k0:Int×List Int}{ks:List (Int×List Int)}{k:Int×List Int}(h:(k0::ks)[aQ (Ql (k0::ks)) ks.length]?=a3 k):Mm (a3 (.v (.o ((k0::ks).map pairD))))=a3 (.v (.t (pairD k))):=by
 have e:W7 ((k0::ks).map pairD)=a7:=by rw[X4,W7,show tupI (pairD k0)=a7 from rfl]
 simp only[Mm,Rk.d,e,j55,xn,ir,h];rfl
theorem ja5{ks:List (List Int)}{ds:List D}{k:List Int}{d:D}(h:Qd ks ds k=a3 d):O3 (a3 (.v (.e (.dct ks ds)))) (a3 (.v (.e (.tup (k.map D.int)))))=a3 (.v (.e d)):=by simp only[O3,Rk.d,tupI,Jh,h];rfl
theorem jc4:vd .min (a3 (.a [.e (.int i),.e (.int j)]))=a3 (.v (.e (.int (if j<i then j else i)))):=(rfl)
theorem j7v:vd .tuple (a3 (.a [.o l]))=a3 (.v (.e (.tup l))):=(rfl)
theorem j7u:vd .tuple (a3 (.a [.w l]))=a3 (.v (.e (.tup l))):=(rfl)
theorem j0a(h:D.depL l<=90)(h2:d.dep<=90):Mp .count (a3 (.v (.w l))) (a3 (.a [.e d]))=a3 (.v (.e (.int (l.countP λe=>deq e d)))):=by simp[Mp,j1b,Rk.d,h,h2,rkW]
theorem jcp{ts:List String}:Lz (a3 (.v x)) ts=blW (jy x.d ts):=(rfl)
theorem j86:Ot (a3 (.v (.e (.lst l))))=a3 (.i l):=(rfl)
theorem j85:Ot (a3 (.v (.e (.tup l))))=a3 (.i l):=(rfl)
theorem jb1:Ot (a3 (.v (.o l)))=a3 (.i l):=(rfl)
theorem j53(h:-4611686018427387904<=i/\i<4611686018427387904):Mh (a3 (.a [.e (.int i)]))=a3 (.i (upto 0 i.toNat)):=if_pos h
theorem q9{is:List Nat}{c e:En->Option W}{z:Bool}{ds l:List D}(hf:j1k is ρ=a6)(hl:ds.length<=1000000)(h:Jj (Zi is c e ρ) ds=a3 l)(hz:z=a4\/z9 l=a6):j1r is (a3 (.i ds)) c e z ρ=a3 (.v (.o l)):=by simp only[j1r,hf,jl,zm hl,decide_true,and_self,if_true,h,jA];rcases hz with z|z<;>simp[z]
theorem zb{i:Nat}{c e:En->Option W}(hc:c (ρ.set i (.val d))=a3 (.a [])){d':D}(he:e (ρ.set i (.val d))=a3 (.v (.e d'))):Zi [i] c e ρ d=a3 (a3 d'):=by simp[Zi,zf,hc,he,Rk.st]
theorem Ys{i:Nat}{c e:En->Option W}{b:Bool}{d':D}(hc:c (ρ.set i (.val d))=a3 (.a [.e (.bl b)]))(he:b=a6->e (ρ.set i (.val d))=a3 (.v (.e d'))):Zi [i] c e ρ d=a3 (if b=a6 then a3 d' else a7):=by
 cases b with
 |true=>simp[Zi,zf,hc,he rfl,Rk.st,Rk.d]
 |false=>simp[Zi,zf,hc,Rk.d]
theorem Og{i j:Nat}{c e:En->Option W}{a b:D}(hc:c ((ρ.set i (.val a)).set j (.val b))=a3 (.a [])){d':D}(he:e ((ρ.set i (.val a)).set j (.val b))=a3 (.v (.e d'))):Zi [i,j] c e ρ (.tup [a,b])=a3 (a3 d'):=by simp[Zi,zf,hc,he,Rk.st]
theorem Jf{α:Type}{xs:List α}{n:Nat}{x:α}(h:xs[n]?=a3 x):atI xs (n:Int)=a3 x:=jaf h
end
section
theorem j5x:jy .non ["list","tuple"]=a3 a4:=by simp[jy,qw,D.ty]
theorem j60 {b:Bool}:jy (.bl b) ["list","tuple"]=a3 a4:=by simp[jy,qw,D.ty]
theorem j9h {b:Bool}:jy (.bl b) ["bool"]=a3 a6:=by simp[jy,qw,D.ty]
theorem j9c {b:Bool}:jy (.bl b) ["str"]=a3 a4:=by simp[jy,qw,D.ty]
theorem j63 {b:Bool}:jy (.bl b) ["int","str"]=a3 a6:=by simp[jy,qw,D.ty]
theorem j5z {i:Int}:jy (.int i) ["list","tuple"]=a3 a4:=by simp[jy,qw,D.ty]
theorem j9g {i:Int}:jy (.int i) ["bool"]=a3 a4:=by simp[jy,qw,D.ty]
theorem j9b {i:Int}:jy (.int i) ["str"]=a3 a4:=by simp[jy,qw,D.ty]
theorem j62 {i:Int}:jy (.int i) ["int","str"]=a3 a6:=by simp[jy,qw,D.ty]
theorem j5w {z:af}:jy (.str z) ["list","tuple"]=a3 a4:=by simp[jy,qw,D.ty]
theorem j9f {z:af}:jy (.str z) ["bool"]=a3 a4:=by simp[jy,qw,D.ty]
theorem j9a {z:af}:jy (.str z) ["str"]=a3 a6:=by simp[jy,qw,D.ty]
theorem j61 {z:af}:jy (.str z) ["int","str"]=a3 a6:=by simp[jy,qw,D.ty]
theorem j5v {l:List D}:jy (.tup l) ["list","tuple"]=a3 a6:=by simp[jy,qw,D.ty]
theorem j9d {l:List D}:jy (.tup l) ["list"]=a3 a4:=by simp[jy,qw,D.ty]
theorem j5y {l:List D}:jy (.lst l) ["list","tuple"]=a3 a6:=by simp[jy,qw,D.ty]
theorem j9e {l:List D}:jy (.lst l) ["list"]=a3 a6:=by simp[jy,qw,D.ty]
theorem j9j:D.isNon .non=a6:=(rfl)
theorem j9l{b:Bool}:D.isNon (.bl b)=a4:=(rfl)
theorem j9k{i:Int}:D.isNon (.int i)=a4:=(rfl)
theorem j9i{z:af}:D.isNon (.str z)=a4:=(rfl)
end
section
noncomputable abbrev q8(r:List Int):D:=.tup (r.map .int)
noncomputable abbrev qe(rs:List (List Int)):List D:=rs.map q8
theorem jt{α:Type}{f:D->Option (Option D)}{h g:α->D}{L:List α}(q:∀x∈L,f (h x)=a3 (a3 (g x))):Jj f (L.map h)=a3 (L.map g):=by
 induction L with
 |nil=>rfl
 |cons x L ih=>rw[X4,Jj,q x (xm ..),ih λy hy=>q y (xf _ hy)];rfl
theorem Ug{α:Type}{f:D->Option (Option D)}{h g:α->D}{p:α->Bool}{L:List α}(q:∀x∈L,f (h x)=a3 (if p x=a6 then a3 (g x)else a7)):Jj f (L.map h)=a3 ((L.filter p).map g):=by
 induction L with
 |nil=>rfl
 |cons x L ih =>
  rw[X4,Jj,q x (xm ..),ih λy hy=>q y (xf _ hy)];by_cases z:p x=a6
  .rw[if_pos z,bS z];rfl
  .rw[if_neg z,bT z]
theorem U9{f:D->Option (Option D)}:∀{ds:List D},(∀d∈ds,f d=a3 a7)->Jj f ds=a3 []
 |[],_=>rfl
 |d::ds,h=>by rw[Jj,h d (xm ..),U9 λd hd=>h d (xf _ hd)]
theorem take_snoc{α:Type}{l:List α}{i:Nat}{x:α}(h:l[i]?=a3 x):l.take (i+1)=l.take i++[x]:=by rw[Tq,h];rfl
theorem U3{α β:Type}{f:α->β}{l:List α}{i:Nat}{y:β}(h:(l.map f)[i]?=a3 y):∃x,l[i]?=a3 x/\y=f x:=by
 rw[xx]at h;cases e:l[i]? with
 |none=>rw[e]at h;cases h
 |some x=>rw[e]at h;cases h;exact⟨x,rfl,rfl⟩
theorem j5t{α:Type}{c:Prop}[Decidable c]{x:α}:(if c then x else x)=x:=by split<;>rfl
theorem j3a{l:List D}(h:Jp (.tup l)):l.length<=1000/\Qc l:=by simpa [Jp]using h
theorem j3c{l:List D}(h:Jp (.lst l)):l.length<=1000/\Qc l:=by simpa [Jp]using h
end
section
theorem Wq:∀rs:List (List Int),z9 (qe rs)=a6
 |[]=>by simp[z9]
 |r::rs=>by rw[qe,X4,z9,<-qe,Wq rs];simp[Jy,vf]
theorem Nt(p:List Int):D.depL (p.map D.int)=0:=by
 induction p with
 |nil=>rfl
 |cons t ts ih=>simp[D.depL,D.dep,ih]
end
end L2
end
section
open PySem (Str)
open L2
noncomputable def jfi:=(k7l (k7l (k7l (k7l (k7l (k7l (k7l @j8a @j88) (k7l @j87 (k7l @j8b @j51))) (k7l (k7l @j89 (k7l @j4x @j8c)) (k7l @j4z (k7l @j8e @j8d)))) (k7l (k7l (k7l @j50 @j3f) (k7l @j0n (k7l @Ky @jdi))) (k7l (k7l @j4y (k7l @j8i @j6g)) (k7l @j9v (k7l @j6f @j6l))))) (k7l (k7l (k7l (k7l @j9q @jgj) (k7l @jcd (k7l @jd9 @jdo))) (k7l (k7l @j5b (k7l @El @j28)) (k7l @Cr (k7l @jfc @jfd)))) (k7l (k7l (k7l @jaz (k7l @jb0 @jb9)) (k7l @j2g (k7l @jb8 @j8h))) (k7l (k7l @j8g (k7l @jc3 @jcx)) (k7l @j95 (k7l @je2 @jcw)))))) (k7l (k7l (k7l (k7l (k7l @j02 @j6b) (k7l @jd4 (k7l @jcy @j9t))) (k7l (k7l @jdb (k7l @jd8 @jd7)) (k7l @jdc (k7l @jfl @jd1)))) (k7l (k7l (k7l @jd5 @jd2) (k7l @j9w (k7l @jcz @jd3))) (k7l (k7l @jfm (k7l @jfk @j9y)) (k7l @jda (k7l @j9r @jd6))))) (k7l (k7l (k7l (k7l @j9x @jd0) (k7l @j6e (k7l @jak @jal))) (k7l (k7l @j9p (k7l @jcs @jfr)) (k7l @jdz (k7l @j72 @j6y)))) (k7l (k7l (k7l @j70 (k7l @j4e @j71)) (k7l @j6z (k7l @jdu @jdt))) (k7l (k7l @jdq (k7l @jdw @jdv)) (k7l @jdr (k7l @jdk @d_e))))))) (k7l (k7l (k7l (k7l (k7l (k7l @d_o @d_w) (k7l @jdl (k7l @j6n @j6r))) (k7l (k7l @j6p (k7l @j44 @j5t)) (k7l @j3y (k7l @j3z @j40)))) (k7l (k7l (k7l @j41 @j42) (k7l @j43 (k7l @jcq @jba))) (k7l (k7l @j7y (k7l @je3 @jey)) (k7l @jc1 (k7l @jek @jcn))))) (k7l (k7l (k7l (k7l @jco @ja6) (k7l @jaq (k7l @jap @jao))) (k7l (k7l @jc9 (k7l @jc8 @jc7)) (k7l @jan (k7l @Ez @jck)))) (k7l (k7l (k7l @jcj (k7l @jfa @jf8)) (k7l @j6w (k7l @j6v @jem))) (k7l (k7l @jeq (k7l @jer @jes)) (k7l @jac (k7l @jab @jaa)))))) (k7l (k7l (k7l (k7l (k7l @j6t @jf5) (k7l @jf4 (k7l @jf3 @jc4))) (k7l (k7l @j7v (k7l @j7u @jcp)) (k7l @j86 (k7l @j85 @jb1)))) (k7l (k7l (k7l @j53 (k7l @j9s @j9u)) (k7l @jau (k7l @jdm @jf9))) (k7l (k7l @jen (k7l @jds @jfb)) (k7l @jei (k7l @jat @ja1))))) (k7l (k7l (k7l (k7l @j6j @j6i) (k7l @j5x (k7l @j60 @j9h))) (k7l (k7l @j9c (k7l @j63 @j5z)) (k7l @j9g (k7l @j9b @j62)))) (k7l (k7l (k7l @j5w (k7l @j9f @j9a)) (k7l @j61 (k7l @j5v @j9d))) (k7l (k7l @j5y (k7l @j9e @j9j)) (k7l @j9l (k7l @j9k @j9i))))))))
local macro_rules | `(tactic| walk_at "go")=>`(tactic| try simp (disch:=first | omega | assumption | (simp only [List.length_map,List.length_append,List.length_cons,List.length_nil,List.length_take,List.length_drop,List.length_reverse] <;> omega)) only [jfi,Vp,beq_self_eq_true,frz,J2,j69,List.getElem?_cons_zero,List.getElem?_cons_succ,List.set_cons_zero,List.set_cons_succ,List.map_cons,List.map_nil,List.cons_append,List.nil_append,List.replicate,List.length_map,List.length_append,List.length_cons,List.length_nil,Bool.not_true,Bool.not_false,bne_self_eq_false,Nat.reduceSub,Nat.reduceAdd,Int.reduceToNat,Int.reducePow])
local macro_rules | `(tactic| ext)=>`(tactic| walk_at "go")
local macro_rules | `(tactic| erw [$r])=>`(tactic| (rw [$r]; ext)) | `(tactic| erw [$r,$rs,*])=>`(tactic| (rw [$r]; ext; erw [$rs,*]))
namespace KL
noncomputable def Q4:Sx:=(.seq (.ret (.call "all_choices" (.cons (.comp [1] (.ite (.cmp .eq (.var 1) (.glob "NOT_TOLD")) (.glob "ANSWERS") (.tup (.cons (.var 1) .nil))) (.seq (.var 0)) .nil) .nil))) .nop)
noncomputable def fP_rows_in:Fi:=⟨1,2,Q4,a4⟩
noncomputable def vg:Sx:=(.seq (.set 1 (.lst (.cons (.tup .nil) .nil))) (.seq (.loop [2] (.seq (.var 0)) (.seq (.set 3 (.lst .nil)) (.seq (.loop [4] (.seq (.var 1)) (.seq (.ext 3 (.comp [5] (.bin .add (.var 4) (.tup (.cons (.var 5) .nil))) (.seq (.var 2)) .nil)) .nop)) (.seq (.mov 1 3) .nop)))) (.seq (.retV 1) .nop)))
noncomputable def fP_all_choices:Fi:=⟨1,6,vg,a4⟩
noncomputable def Vd:Sx:=(.seq (.ife (.cmp .lt (.var 1) (.blt .len (.cons (.var 0) .nil))) (.seq (.ret (.ix (.var 0) (.var 1))) .nop) .nop) (.seq (.set 2 (.bin .add (.lit (.int 70001)) (.bin .mul (.bin .mul (.lit (.int 911)) (.var 1)) (.var 1)))) (.seq (.ife (.cmp .gt (.blt .len (.cons (.var 0) .nil)) (.lit (.int 0))) (.seq (.set 2 (.bin .add (.var 2) (.bin .mul (.bin .mod (.ix (.var 0) (.lit (.int 0))) (.lit (.int 9973))) (.bin .add (.bin .mul (.lit (.int 3)) (.var 1)) (.lit (.int 1)))))) .nop) .nop) (.seq (.retV 2) .nop))))
noncomputable def fL_cell:Fi:=⟨2,3,Vd,a4⟩
noncomputable def Zh:Sx:=(.seq (.ife (.isi (.var 1) ["list","tuple"]) (.seq (.ife (.or (.cmp .ne (.isi (.var 0) ["list"]) (.isi (.var 1) ["list"])) (.not (.isi (.var 0) ["list","tuple"]))) (.seq (.ret (.lit (.bl a4))) .nop) .nop) (.seq (.set 2 (.comp [3] (.var 3) (.range (.cons (.blt .min (.cons (.blt .len (.cons (.var 0) .nil)) (.cons (.blt .len (.cons (.var 1) .nil)) .nil))) .nil)) (.cons (.not (.call "_law_same" (.cons (.ix (.var 0) (.var 3)) (.cons (.ix (.var 1) (.var 3)) .nil)))) .nil))) (.seq (.ret (.and (.cmp .eq (.blt .len (.cons (.var 0) .nil)) (.blt .len (.cons (.var 1) .nil))) (.cmp .eq (.var 2) (.lst .nil)))) .nop))) .nop) (.seq (.ife (.isN (.var 1)) (.seq (.ret (.isN (.var 0))) .nop) .nop) (.seq (.ife (.or (.cmp .ne (.isi (.var 0) ["bool"]) (.isi (.var 1) ["bool"])) (.cmp .ne (.isi (.var 0) ["str"]) (.isi (.var 1) ["str"]))) (.seq (.ret (.lit (.bl a4))) .nop) .nop) (.seq (.ret (.and (.isi (.var 0) ["int","str"]) (.cmp .eq (.var 0) (.var 1)))) .nop))))
noncomputable def fL_same:Fi:=⟨2,4,Zh,a4⟩
section
variable{G:af->Option D}{T:af->Option Fi}
noncomputable def qg(ns:List Int)(k:Nat):Int:=match ns[k]? with
 |some v=>v
 |none=>match ns with
  |[]=>70001+911*k*k
  |v::_=>70001+911*k*k+v%9973*(3*k+1)
theorem Zw {fu n:Nat} (hT:T "_law_cell" = a3 fL_cell) {ns:List Int} {k:Nat} (hk:k<=100):evP fu G T (n+1) "_law_cell" [.lst (ns.map .int),.int k]=.val (.int (qg ns k)):=by
 rw[jw (F:=fL_cell) hT rfl];simp only[fL_cell,Vd,enter];by_cases h:k<ns.length
 .have e:atI (ns.map D.int) (k:Int)=a3 (.int ns[k]):=Jf (by simp[h]);have q:qg ns k=ns[k]:=by simp[qg,h]
  ext;simp only[e,Ez,j2g,El,Cr,j02,q]
 .cases ns with
  |nil =>ext;simp[qg]
  |cons v r =>
   have e:atI (D.int v::r.map D.int) 0=a3 (.int v):=by simp[atI,ixN]
   have q:qg (v::r) k=70001+911*k*k+v%9973*(3*k+1):=by unfold qg;rw[Xw nofun]
   rw[X4];rw[xn]at h;ext;simp only[e];ext;rw[q]
theorem j4r(f:List Int):step [] f=[]:=rfl
theorem j25(acc:List (List Int))(a f:List Int):step (acc++[a]) f=step acc f++f.map λx=>a++[x]:=by simp[step]
theorem Kl(fs:List (List Int))(f:List Int):qi (fs++[f])=step (qi fs) f:=by simp[qi]
theorem Ca(acc:List (List Int)){f:List Int}{k:Nat}(h:f.length<=k):(step acc f).length<=acc.length*k:=by
 unfold step;induction acc with
 |nil=>simp
 |cons a acc ih =>rw[List.flatMap_cons,Xc,kj,xn,kg];omega
theorem Wx{fs:List (List Int)}{k:Nat}(h:∀f∈fs,f.length<=k):(qi fs).length<=k^fs.length:=by
 have go:∀(fs acc:List (List Int)),(∀f∈fs,f.length<=k)->(fs.foldl step acc).length<=acc.length*k^fs.length:=by
  intro fs;induction fs with
  |nil=>intro acc _;simp
  |cons f fs ih =>intro acc hf;have h1:=ih (step acc f) λg hg=>hf g (xf _ hg);have h2:=Ca acc (hf f (xm ..));rw[T7,xn,Px,cJ (k^fs.length) k,<-g6];exact Xh h1 (gY _ h2)
 have:=go fs [[]] h;simpa [qi]using this
theorem Km{fs:List (List Int)}{r:List Int}(h:r∈qi fs):r.length=fs.length:=by
 have go:∀(fs acc:List (List Int)) (k:Nat),(∀a∈acc,a.length=k)->∀r∈fs.foldl step acc,r.length=k+fs.length:=by
  intro fs;induction fs with
  |nil=>intro acc k ha r hr;exact ha r hr
  |cons f fs ih =>
   intro acc k ha r hr;have:=ih (step acc f) (k+1) (λa hm=>by
    obtain⟨b,hb,hx⟩:=List.mem_flatMap.mp hm
    obtain⟨x,_,rfl⟩:=X8.mp hx
    rw[Xc,ha b hb];rfl) r hr
   rw[this,xn];omega
 have:=go fs [[]] 0 (λa ha=>by rw[xq.mp ha];rfl) r h;omega
theorem Vs {fu n:Nat} (hT:T "all_choices" = a3 fP_all_choices) {fs:List (List Int)} (hf:∀f∈fs,f.length<=3) (hl:fs.length<=6):evP fu G T (n+1) "all_choices" [.lst (qe fs)]=.fresh (qe (qi fs)):=by
 rw[jw (F:=fP_all_choices) hT rfl];simp only[fP_all_choices,vg,enter];ext;have small:∀i,(qi (fs.take i)).length<=729:=λi=>by
  have h:=Wx (fs:=fs.take i) (k:=3) λf hm=>hf f (gE hm);have h2:(fs.take i).length<=6:=by rw[Xn];omega
  exact Xh h (bB (by decide) h2)
 refine Qk (λi ρ=>∃s2 s4,ρ=[.val (.lst (qe fs)),.own (qe (qi (fs.take i))),s2,.un,s4,.un]) ⟨.un,.un,by simp[qi,qe,q8]⟩ ?_ ?_
 .rintro i d ρ hi ⟨s2,s4,rfl⟩;obtain⟨f,hfi,rfl⟩:=U3 hi;have hf3:f.length<=3:=hf f (Xo hfi);have sm:=small i;simp only[Q3];ext;refine N5 (λj ρ=>∃s4,ρ=[.val (.lst (qe fs)),.val (.lst (qe (qi (fs.take i)))),.val (q8 f),.own (qe (step ((qi (fs.take i)).take j) f)),s4,.un]) ⟨s4,by simp[j4r]⟩ ?_ ?_
  .rintro j d ρ hj ⟨s4,rfl⟩;obtain⟨a,haj,rfl⟩:=U3 hj;have hs:=Ca ((qi (fs.take i)).take j) hf3;have hs2:((qi (fs.take i)).take j).length<=729:=by rw[Xn];omega
   have ha:a.length<=6:=by have:=Km (Xo haj);rw[Xn]at this;omega
   simp only[Q3];ext;rw[q9 (l:=(f.map λx=>q8 (a++[x]))) (by rfl) ?_ ?_ (.inl rfl)]
   .ext;refine⟨_,rfl,.val (q8 a),?_⟩;rw[take_snoc haj,j25];simp only[qe,Xd,Xa];rfl
   .simp only[kj];omega
   .refine jt λx _=>zb (by ext) ?_;ext;simp
  .rintro ρ' ⟨s4,rfl⟩;ext;refine⟨_,rfl,.val (q8 f),s4,?_⟩;rw[take_snoc hfi,Kl,bF]
 .rintro ρ' ⟨s2,s4,rfl⟩;ext;rw[bF]
theorem j6c(t:Int):(Qn t).length<=3:=by unfold Qn;split<;>simp
theorem Ie {fu n:Nat} (hT:T "rows_in" = a3 fP_rows_in) (hC:T "all_choices" = a3 fP_all_choices) (gNT:G "NOT_TOLD" = a3 (.int 2)) (gAN:G "ANSWERS" = a3 (.tup [.int 0,.int 1])) {p:List Int} (hp:p.length<=6):evP fu G T (n+2) "rows_in" [q8 p]=.fresh (qe (qi (p.map Qn))):=by
 rw[jw (F:=fP_rows_in) hT rfl];simp only[fP_rows_in,Q4,enter];ext;rw[q9 (l:=qe (p.map Qn)) (by rfl) ?_ ?_ (.inl rfl)]
 .ext;rw[Vs hC (λf hf=>by obtain⟨t,_,rfl⟩:=X8.mp hf;exact j6c t) (by rw[kj];exact hp)];ext
 .rw[kj];omega
 .rw[qe,Xa];refine jt λt _=>zb (by ext) ?_;by_cases h:t=2
  .ext;simp only[gNT];ext;simp only[gAN];ext;simp[Qn,h]
  .ext;simp only[gNT];ext;simp[Qn,h]
theorem j2a {fu:Nat} (hT:T "_law_same" = a3 fL_same):∀(k:Nat){x:D}{n:Nat},x.dep<=k->Jp x->evP fu G T (n+k+1) "_law_same" [x,x]=.val (.bl a6):=by
 intro k;induction k with
 |zero =>
  intro x n hk hx;rw[jw (F:=fL_same) hT rfl];simp only[fL_same,Zh,enter];cases x with
  |tup l=>simp[D.dep]at hk
  |lst l=>simp[D.dep]at hk
  |dct ks l=>simp[D.dep]at hk
  |sct k=>simp[D.dep]at hk
  |fn x l=>simp[D.dep]at hk
  |non=>ext
  |bl b=>ext
  |int i=>ext
  |str z=>ext
 |succ k ih =>
  intro x n hk hx;have ih':∀{x:D},x.dep<=k->Jp x->evP fu G T (n+(k+1)) "_law_same" [x,x]=.val (.bl a6):=λh1 h2=>ih h1 h2;rw[jw (F:=fL_same) hT rfl];simp only[fL_same,Zh,enter];cases x with
  |dct ks l=>exact aR (by simpa [Jp]using hx)
  |sct k=>exact aR (by simpa [Jp]using hx)
  |fn x l=>exact aR (by simpa [Jp]using hx)
  |tup l =>
   obtain⟨hl,hx⟩:=j3a hx;have hk:D.depL l<=k:=by simp only[D.dep]at hk;omega
   ext;rw[Xi,q9 (l:=[]) (by rfl) (by rw[qb];omega) ?_ (.inl rfl)]
   .ext
   .refine U9 λd hd=>?_;obtain⟨j,hj,rfl⟩:=Ls hd;have hg:atI l (0+(j:Int))=a3 l[j]:=by rw[Tc];exact Jf (kh hj)
    have hm:l[j]∈l:=Xz hj;refine Ys (b:=a4) (d':=.non) ?_ λz=>by cases z
    ext;simp only[hg];ext;rw[ih' (Xh (D.depL_mem hm) hk) (Yy hx hm)];ext
  |lst l =>
   obtain⟨hl,hx⟩:=j3c hx;have hk:D.depL l<=k:=by simp only[D.dep]at hk;omega
   ext;rw[Xi,q9 (l:=[]) (by rfl) (by rw[qb];omega) ?_ (.inl rfl)]
   .ext
   .refine U9 λd hd=>?_;obtain⟨j,hj,rfl⟩:=Ls hd;have hg:atI l (0+(j:Int))=a3 l[j]:=by rw[Tc];exact Jf (kh hj)
    have hm:l[j]∈l:=Xz hj;refine Ys (b:=a4) (d':=.non) ?_ λz=>by cases z
    ext;simp only[hg];ext;rw[ih' (Xh (D.depL_mem hm) hk) (Yy hx hm)];ext
  |non=>ext
  |bl b=>ext
  |int i=>ext
  |str z=>ext
theorem j3b{r:List Int}(h:r.length<=1000):Jp (q8 r):=by
 simp only[Jp,kj];refine⟨h,Ni λd hd=>?_⟩;obtain⟨i,_,rfl⟩:=X8.mp hd
 trivial
theorem Qj(n:Nat):upto 0 n=(ar n).map λ(k:Nat)=>D.int (0+(k:Int)):=rfl
theorem jbk{m:Nat}(h:m<=6):(1:Int)<=2^m/\(2:Int)^m<=64:=by
 have:m=0\/m=1\/m=2\/m=3\/m=4\/m=5\/m=6:=by omega
 rcases this with e|e|e|e|e|e|e<;>subst e<;>decide
theorem j01{p:List Int}{k:Nat}(h:k<p.length):atI (p.map D.int) (0+(k:Int))=a3 (.int (p.getD k 0)):=by rw[Tc];refine Jf ?_;rw[xx,kh h,km,kh h];rfl
end
end KL
namespace KV
open PySem
noncomputable def letters:List Nat:=[109,100,107,98,118,113,104,122,99,103,114,110,97,112,120,111,108,115,105,101,102,119,116,121,106,117]
theorem j94:("mdkbvqhzcgrnapxolsiefwtyju":af).cps.toList=letters:=by decide +kernel
noncomputable def lt(n:Int):Nat:=letters.getD n.toNat 0
noncomputable def sL(l:List Nat):af:=⟨l.toArray⟩
theorem Je{l:List Nat}:(sL l).length=l.length:=by simp[sL,kO]
theorem Uk{l m:List Nat}:sL l++sL m=sL (l++m):=by show(⟨l.toArray++m.toArray⟩:af)=_;simp[sL]
theorem Ms:∀l:List Nat,dB ("":af) (l.map λc=>(⟨#[c]⟩:af))=sL l:=by
 intro l;show kP _ _=_;rw[StrLaws.glued_eq_join];induction l with
 |nil=>rfl
 |cons a r ih =>
  cases r with
  |nil=>rfl
  |cons b r =>
   rw[X4,X4,Str.join,<-X4 (f:=λc=>(⟨#[c]⟩:af)),ih]
   .show(⟨(#[a] ++ #[])++(b::r).toArray⟩:af)=⟨(a::b::r).toArray⟩
    simp
   .intro z;cases z
theorem jb3{l:List Nat}:(sL l).cps.toList=l:=by simp[sL]
theorem Mx{k n:Nat}:aC a7 (a3 (k:Int)) 1 n=aC (a3 ((0:Nat):Int)) (a3 (k:Int)) 1 n:=by
 have e:max (0:Int) (min 0 (n:Int))=0:=by omega
 simp[aC,e]
theorem Mz{k n:Nat}:aC (a3 (k:Int)) a7 1 n=aC (a3 (k:Int)) (a3 (n:Int)) 1 n:=by
 have e:max (0:Int) (min (n:Int) (n:Int))=n:=by omega
 have e2:¬((n:Int)<0):=by omega
 simp[aC,e,e2]
theorem Cj{l:List Nat}{a b:Nat}{lo hi:Option Int}(he:aC lo hi 1 (sL l).length=aC (a3 (a:Int)) (a3 (b:Int)) 1 (sL l).length)(hab:a<=b)(hb:b<=l.length):bM (sL l) lo hi=sL ((l.drop a).take (b-a)):=by
 have hb':b<=(sL l).length:=by rw[Je];exact hb
 have q:=StrLaws.sliced_plain (sL l) hab hb';rw[jb3]at q;have e1:=StrLaws.strSliceIndices_plain hab hb';unfold bM;rw[he];by_cases h:((1:Int)==1&&(aC (a3 (a:Int)) (a3 (b:Int)) 1 (sL l).length).length==(sL l).length)=a6
 .rw[if_pos h];rw[e1,Je,kj,Xe]at h;have:b-a=l.length:=by simpa using h
  have ha:a=0:=by omega
  subst ha;rw[this,fA,bF]
 .rw[if_neg h,q];rfl
theorem M7{l:List Nat}{k:Nat}(h:k<=l.length):bM (sL l) a7 (a3 (k:Int))=sL (l.take k):=by rw[Cj (a:=0) (b:=k) Mx (bU _) h];simp
theorem M8{l:List Nat}{k:Nat}(h:k<=l.length):bM (sL l) (a3 (k:Int)) a7=sL (l.drop k):=by rw[Cj (a:=k) (b:=l.length) (by rw[Mz,Je]) h (X3 _),Tg (by rw[Tf];omega)]
theorem Us {l:List Nat} (h:l.length<=100):eB ("":af) (l.map λc=>(⟨#[c]⟩:af))=a6:=by
 unfold eB;rw[iy];have e:∀(r:List Nat)(k:Nat),(r.map λc=>(⟨#[c]⟩:af)).foldl (λ(x:Nat) (y:af)=>x+y.length+("":af).length) k=k+r.length:=by
  intro r;induction r with
  |nil=>intro k;rfl
  |cons a r ih =>intro k;rw[X4,T7,ih,xn];show k+1+0+r.length=_;omega
 show cc _=a4;have:=e l 0;rw[List.foldl_toArray];show cc (cN (λ(x:Nat) (y:af)=>x+y.length+("":af).length) 0 _)=a4;rw[this];unfold cc;simp;have:=iJ;omega
noncomputable def Va(c:Int):List Nat:=(ar 8).map λ(k:Nat)=>lt (c/(4+5*(k:Int))%26)
noncomputable def Zj(c:Int)(s:Nat):List Nat:=(ar s).map λ(k:Nat)=>lt ((c/32+3*(k:Int)*(k:Int)+(k:Int))%26)
theorem Qw(c:Int):(Va c).length=8:=by simp[Va]
theorem vh(c:Int)(s:Nat):(Zj c s).length=s:=by simp[Zj]
noncomputable def stN(c:Int)(m:Nat):Nat:=(c/8%(9-(m:Int))).toNat
noncomputable def szN(c:Int):Nat:=(c/4%8).toNat
noncomputable def atN(c:Int):Nat:=(c/512%((szN c:Int)+1)).toNat
noncomputable def wrd(c:Int)(m k:Nat):List Nat :=
 if c%4<2 then(if c%4=0 then(Va c).take (stN c m+k+1) else(Va c).drop (8-stN c m-k-1))
 else(Zj c (szN c)).take (atN c)++lt ((c/9+7*(k:Int))%26)::(Zj c (szN c)).drop (atN c)
noncomputable def J6(c:Int)(m:Nat):List af:=(ar m).map λ(k:Nat)=>sL (wrd c m k)
theorem jej{c:Int}{m:Nat}(h:m<=6):stN c m+m<=8:=by unfold stN;have h1:=Py (c/8) (show(9-(m:Int))≠0 by omega);have h2:=Ti (c/8) (show(0:Int)<9-(m:Int)by omega);omega
theorem jft(c:Int):atN c<=szN c/\szN c<=7:=by unfold atN;have h1:=Py (c/512) (show((szN c:Int)+1)≠0 by omega);have h2:=Ti (c/512) (show(0:Int)<(szN c:Int)+1 by omega);refine⟨by omega,?_⟩;unfold szN;omega
theorem Ue(c:Int)(m:Nat):(J6 c m).length=m:=by simp[J6]
end KV
open PySem (Str)
open L2
namespace KW
open KL KV PySem
noncomputable def Zg:Sx:=(.seq (.set 2 (.lit (.str "mdkbvqhzcgrnapxolsiefwtyju"))) (.seq (.ife (.cmp .lt (.bin .mod (.var 0) (.lit (.int 4))) (.lit (.int 2))) (.seq (.set 3 (.join "" (.comp [4] (.ix (.var 2) (.bin .mod (.bin .fdiv (.var 0) (.bin .add (.lit (.int 4)) (.bin .mul (.lit (.int 5)) (.var 4)))) (.lit (.int 26)))) (.range (.cons (.lit (.int 8)) .nil)) .nil))) (.seq (.set 5 (.bin .mod (.bin .fdiv (.var 0) (.lit (.int 8))) (.bin .sub (.lit (.int 9)) (.var 1)))) (.seq (.ife (.cmp .eq (.bin .mod (.var 0) (.lit (.int 4))) (.lit (.int 0))) (.seq (.ret (.comp [4] (.sl (.var 3) .nil (.cons (.bin .add (.bin .add (.var 5) (.var 4)) (.lit (.int 1))) .nil)) (.range (.cons (.var 1) .nil)) .nil)) .nop) .nop) (.seq (.ret (.comp [4] (.sl (.var 3) (.cons (.bin .sub (.bin .sub (.bin .sub (.lit (.int 8)) (.var 5)) (.var 4)) (.lit (.int 1))) .nil) .nil) (.range (.cons (.var 1) .nil)) .nil)) .nop)))) .nop) (.seq (.set 6 (.bin .mod (.bin .fdiv (.var 0) (.lit (.int 4))) (.lit (.int 8)))) (.seq (.set 7 (.join "" (.comp [4] (.ix (.var 2) (.bin .mod (.bin .add (.bin .add (.bin .fdiv (.var 0) (.lit (.int 32))) (.bin .mul (.bin .mul (.lit (.int 3)) (.var 4)) (.var 4))) (.var 4)) (.lit (.int 26)))) (.range (.cons (.var 6) .nil)) .nil))) (.seq (.set 8 (.bin .mod (.bin .fdiv (.var 0) (.lit (.int 512))) (.bin .add (.var 6) (.lit (.int 1))))) (.seq (.ret (.comp [4] (.bin .add (.bin .add (.sl (.var 7) .nil (.cons (.var 8) .nil)) (.ix (.var 2) (.bin .mod (.bin .add (.bin .fdiv (.var 0) (.lit (.int 9))) (.bin .mul (.lit (.int 7)) (.var 4))) (.lit (.int 26))))) (.sl (.var 7) (.cons (.var 8) .nil) .nil)) (.range (.cons (.var 1) .nil)) .nil)) .nop))))))
noncomputable def fL_words:Fi:=⟨2,9,Zg,a4⟩
noncomputable def Yq:Sx:=(.seq (.set 3 (.comp [4] (.var 4) (.range (.cons (.blt .len (.cons (.var 0) .nil)) .nil)) (.cons (.cmp .eq (.bin .mod (.bin .fdiv (.var 2) (.bin .shl (.lit (.int 1)) (.var 4))) (.lit (.int 2))) (.lit (.int 1))) .nil))) (.seq (.set 5 (.blt .sum (.cons (.comp [4] (.bin .shl (.ix (.var 0) (.var 4)) (.var 4)) (.seq (.var 3)) .nil) .nil))) (.seq (.set 6 (.blt .sum (.cons (.comp [4,7] (.bin .shl (.var 7) (.var 4)) (.enum (.var 0)) .nil) .nil))) (.seq (.ife (.cmp .eq (.var 1) (.lit (.int 1))) (.seq (.ret (.blt .int (.cons (.cmp .gt (.blt .sum (.cons (.var 0) .nil)) (.bin .mod (.bin .fdiv (.var 2) (.lit (.int 64))) (.blt .len (.cons (.var 0) .nil)))) .nil))) .nop) .nop) (.seq (.ife (.cmp .eq (.var 1) (.lit (.int 2))) (.seq (.set 8 (.bin .mod (.bin .mul (.bin .add (.var 6) (.lit (.int 1))) (.bin .add (.lit (.int 1)) (.bin .mod (.var 2) (.lit (.int 1000003))))) (.lit (.int 2147483629)))) (.seq (.ret (.blt .int (.cons (.cmp .eq (.bin .mod (.bin .fdiv (.var 8) (.lit (.int 32))) (.lit (.int 5))) (.lit (.int 0))) .nil))) .nop)) .nop) (.seq (.ife (.cmp .eq (.var 1) (.lit (.int 3))) (.seq (.set 8 (.bin .mul (.bin .add (.bin .add (.bin .mul (.var 5) (.var 5)) (.bin .mul (.lit (.int 17)) (.var 5))) (.lit (.int 69621))) (.bin .add (.lit (.int 1)) (.bin .mod (.var 2) (.lit (.int 1000003)))))) (.seq (.ret (.bin .mod (.bin .fdiv (.bin .mod (.var 8) (.lit (.int 2147483647))) (.lit (.int 16))) (.lit (.int 2)))) .nop)) .nop) (.seq (.ife (.cmp .eq (.var 1) (.lit (.int 4))) (.seq (.ret (.bin .mod (.bin .add (.blt .sum (.cons (.comp [4] (.ix (.var 0) (.var 4)) (.seq (.var 3)) .nil) .nil)) (.bin .fdiv (.var 2) (.lit (.int 64)))) (.lit (.int 2)))) .nop) .nop) (.seq (.set 8 (.bin .mul (.bin .add (.bin .mul (.var 6) (.var 6)) (.lit (.int 48271))) (.bin .add (.bin .add (.bin .mod (.var 2) (.lit (.int 1000003))) (.var 6)) (.lit (.int 1))))) (.seq (.ret (.bin .mod (.bin .fdiv (.bin .mod (.var 8) (.lit (.int 2147483647))) (.lit (.int 64))) (.lit (.int 2)))) .nop)))))))))
noncomputable def fL_bit:Fi:=⟨3,9,Yq,a4⟩
noncomputable def Jm:Sx:=(.seq (.set 3 (.bin .add (.lit (.int 1)) (.bin .mod (.call "_law_cell" (.cons (.var 0) (.cons (.var 1) .nil))) (.var 2)))) (.seq (.set 4 (.call "_law_words" (.cons (.call "_law_cell" (.cons (.var 0) (.cons (.bin .add (.var 1) (.lit (.int 1))) .nil))) (.cons (.var 3) .nil)))) (.seq (.set 5 (.bin .mod (.bin .fdiv (.call "_law_cell" (.cons (.var 0) (.cons (.var 1) .nil))) (.var 2)) (.lit (.int 5)))) (.seq (.set 6 (.lst .nil)) (.seq (.loop [7] (.range (.cons (.bin .shl (.lit (.int 1)) (.var 3)) .nil)) (.seq (.set 8 (.comp [9] (.bin .mod (.bin .fdiv (.var 7) (.bin .shl (.lit (.int 1)) (.bin .sub (.bin .sub (.var 3) (.var 9)) (.lit (.int 1))))) (.lit (.int 2))) (.range (.cons (.var 3) .nil)) .nil)) (.seq (.app 6 (.call "_law_bit" (.cons (.var 8) (.cons (.var 5) (.cons (.call "_law_cell" (.cons (.var 0) (.cons (.bin .add (.var 1) (.lit (.int 2))) .nil))) .nil))))) .nop))) (.seq (.ret (.tup (.cons (.blt .tuple (.cons (.var 4) .nil)) (.cons (.blt .tuple (.cons (.var 6) .nil)) .nil)))) .nop))))))
noncomputable def fL_question:Fi:=⟨3,10,Jm,a4⟩
section
variable{G:af->Option D}{T:af->Option Fi}
theorem j1c {n:Int} (h:0<=n/\n<26):atI ("mdkbvqhzcgrnapxolsiefwtyju":af).cps.toList n=a3 (lt n):=by
 obtain⟨k,rfl⟩:∃k:Nat,n=(k:Int):=⟨n.toNat,by omega⟩
 have hk:k<letters.length:=by show k<26;omega
 rw[j94];refine Jf ?_;unfold lt;rw[kh hk,Xi,km,kh hk];rfl
theorem jf6:("mdkbvqhzcgrnapxolsiefwtyju":af).length<=1000000:=by decide +kernel
theorem j0l {fu n m:Nat} (hT:T "_law_words" = a3 fL_words) {c:Int} (hm:1<=m/\m<=6):evP fu G T (n+1) "_law_words" [.int c,.int m]=.fresh ((J6 c m).map D.str):=by
 rw[jw (F:=fL_words) hT rfl];simp only[fL_words,Zg,enter];have ll:=jf6;by_cases h:c%4<2
 .ext;rw[q9 (l:=((Va c).map λx=>(⟨#[x]⟩:af)).map D.str) (by rfl) (by rw[qb];decide) ?_ (.inl rfl)];rotate_left
  .rw[Qj,Va,Xa,Xa];refine jt λk hk'=>zb (by ext) ?_;have hk:=Xj.mp hk';ext;rw[j1c nofun];ext;simp
  rw[Ey (Us (by rw[Qw];decide)),Ms];have st:=jej (c:=c) hm.2;obtain⟨s,hs⟩:∃s:Nat,s=stN c m:=⟨_,rfl⟩
  have es:c/8%(9-(m:Int))=(s:Int):=by rw[hs];unfold stN;have:=Py (c/8) (show(9-(m:Int))≠0 by omega);omega
  have lg:(sL (Va c)).length=8:=by rw[Je,Qw]
  by_cases h0:c%4=0
  .ext;rw[es,q9 (l:=(J6 c m).map D.str) (by rfl) (by rw[qb];omega) ?_ (.inl rfl)]
   .ext
   .rw[Xi,Qj,J6,Xa];refine jt λk hk'=>zb (by ext) ?_;have hk:=Xj.mp hk';ext;have e:(s:Int)+(0+(k:Int))+1=((s+k+1:Nat):Int):=by omega
    have hh:wrd c m k=(Va c).take (stN c m+k+1):=by unfold wrd;rw[if_pos h,if_pos h0]
    rw[e,M7 (by rw[Qw];omega)];simp only[cO,hh,hs]
  .ext;rw[es,q9 (l:=(J6 c m).map D.str) (by rfl) (by rw[qb];omega) ?_ (.inl rfl)]
   .ext
   .rw[Xi,Qj,J6,Xa];refine jt λk hk'=>zb (by ext) ?_;have hk:=Xj.mp hk';ext;have e:8-(s:Int)-(0+(k:Int))-1=((8-s-k-1:Nat):Int):=by omega
    have hh:wrd c m k=(Va c).drop (8-stN c m-k-1):=by unfold wrd;rw[if_pos h,if_neg h0]
    rw[e,M8 (by rw[Qw];omega)];simp only[cO,hh,hs]
 .have a:=jft c;obtain⟨s,hs⟩:∃s:Nat,s=szN c:=⟨_,rfl⟩
  have es:c/4%8=(s:Int):=by rw[hs];unfold szN;omega
  obtain⟨q,hq⟩:∃q:Nat,q=atN c:=⟨_,rfl⟩
  have eq:c/512%((s:Int)+1)=(q:Int):=by rw[hq];unfold atN;have:=Py (c/512) (show((s:Int)+1)≠0 by omega);rw[<-hs];omega
  ext;rw[es,q9 (l:=((Zj c s).map λx=>(⟨#[x]⟩:af)).map D.str) (by rfl) (by rw[qb];omega) ?_ (.inl rfl)];rotate_left
  .rw[Xi,Qj,Zj,Xa,Xa];refine jt λk hk'=>zb (by ext) ?_;have hk:=Xj.mp hk';ext;rw[j1c nofun];ext;simp
  rw[Ey (Us (by rw[vh];omega)),Ms];have lg:(sL (Zj c s)).length=s:=by rw[Je,vh]
  ext;rw[eq,q9 (l:=(J6 c m).map D.str) (by rfl) (by rw[qb];omega) ?_ (.inl rfl)]
  .ext
  .rw[Xi,Qj,J6,Xa];refine jt λk hk'=>zb (by ext) ?_;have hk:=Xj.mp hk';ext;rw[j1c nofun];ext;rw[M7 (by rw[vh];omega),M8 (by rw[vh];omega)];have e1:(⟨#[lt ((c/9+7*(0+(k:Int)))%26)]⟩:af)=sL [lt ((c/9+7*(0+(k:Int)))%26)]:=rfl;have l1:(sL ((Zj c s).take q)).length=q:=by rw[Je,Xn,vh];omega
   have l2:(sL ((Zj c s).drop q)).length=s-q:=by rw[Je,Tf,vh]
   have l3:(sL [lt ((c/9+7*(0+(k:Int)))%26)]).length=1:=rfl;have l4:(sL ((Zj c s).take q)++sL [lt ((c/9+7*(0+(k:Int)))%26)]).length=q+1:=by rw[Uk,Je,Xc,Xn,vh,xn,T6];omega
   rw[e1];ext;rw[Uk,Uk];simp only[cO,wrd,h,if_false,<-hs,<-hq,Td,List.singleton_append,Tc]
theorem Dy:∀{l:List Int},(∀x∈l,0<=x/\x<=32)->0<=l.sum/\l.sum<=32*(l.length:Int)
 |[],_=>by simp
 |a::r,h=>by have h1:=h a (xm ..);have h2:=Dy (l:=r) λx hx=>h x (xf _ hx);rw[List.sum_cons,xn];omega
theorem p2k{k:Nat}(h:k<=5):0<(2:Int)^k/\(2:Int)^k<=32:=by
 have:k=0\/k=1\/k=2\/k=3\/k=4\/k=5:=by omega
 rcases this with e|e|e|e|e|e<;>subst e<;>decide
noncomputable def V6(row:List Int)(c:Int):List Nat:=(ar row.length).filter λ(k:Nat)=>decide (c/(1*2^(0+(k:Int)).toNat)%2=1)
noncomputable def Y5(row:List Int)(c:Int):List Int:=(V6 row c).map λ(k:Nat)=>row.getD k 0*2^(0+(k:Int)).toNat
noncomputable def byL(row:List Int):List Int:=row.zipIdx.map λp=>p.1*2^((p.2:Nat):Int).toNat
theorem t0k(k:Nat):(0+(k:Int)).toNat=k:=by omega
theorem Do{row:List Int}(h01:∀x∈row,x=0\/x=1)(k:Nat):row.getD k 0=0\/row.getD k 0=1:=by
 rw[km];cases h:row[k]? with
 |none=>exact .inl rfl
 |some v=>exact h01 v (Xo h)
theorem j97{row:List Int}{c:Int}(h01:∀x∈row,x=0\/x=1)(hl:row.length<=6):0<=(Y5 row c).sum/\(Y5 row c).sum<=192:=by
 have h:=Dy (l:=Y5 row c) λx hx=>by
  obtain⟨k,hk,rfl⟩:=X8.mp hx;have hk2:=Xj.mp (Xu.mp hk).1;have p:=p2k (k:=k) nofun
  rw[t0k];rcases Do h01 k with e|e<;>rw[e]<;>omega
 have l:(Y5 row c).length<=6:=by unfold Y5 V6;rw[kj];exact Xh (Xv _ _) (by rw[Xe];exact hl)
 omega
theorem jfp{row:List Int}(h01:∀x∈row,x=0\/x=1)(hl:row.length<=6):0<=(byL row).sum/\(byL row).sum<=192:=by
 have h:=Dy (l:=byL row) λx hx=>by
  obtain⟨p,hp,rfl⟩:=X8.mp hx;obtain⟨a,k⟩:=p;have hm:=iP hp;have p:=p2k (k:=k) nofun
  show 0<=a*2^((k:Nat):Int).toNat/\a*2^((k:Nat):Int).toNat<=32;rw[Xi];have:=h01 a (by rw[hm.2.2];exact Xz _);rcases this with e|e<;>rw[e]<;>omega
 have l:(byL row).length<=6:=by unfold byL;rw[kj,cL];exact hl
 omega
theorem jdx {fu n:Nat} (hT:T "_law_bit" = a3 fL_bit) {row:List Int} {kd c:Int} (h01:∀x∈row,x=0\/x=1) (hl:1<=row.length/\row.length<=6):∃b:Int,(b=0\/b=1)/\evP fu G T (n+1) "_law_bit" [.lst (row.map D.int),.int kd,.int c]=.val (.int b):=by
 rw[jw (F:=fL_bit) hT rfl];simp only[fL_bit,Yq,enter];have kb:=j97 (c:=c) h01 hl.2;have bb:=jfp h01 hl.2;have sl:(V6 row c).length<=6:=by unfold V6;exact Xh (Xv _ _) (by rw[Xe];exact hl.2)
 have get:∀k:Nat,k∈V6 row c->atI (row.map D.int) (0+(k:Int))=a3 (.int (row.getD k 0)):=λk hk=>j01 (Xj.mp (Xu.mp hk).1);ext;rw[q9 (l:=(V6 row c).map λ(k:Nat)=>D.int (0+(k:Int))) (by rfl) (by rw[qb];omega) ?_ (.inl rfl)];rotate_left
 .rw[Xi,Qj,V6];refine Ug λk hk'=>?_;have hk:=Xj.mp hk';have p:0<(2:Int)^(0+(k:Int)).toNat/\(2:Int)^(0+(k:Int)).toNat<=32:=by rw[t0k];exact p2k nofun
  refine Ys ?_ λ_=>?_
  .ext;simp only[j0d];ext
  .ext
 ext;rw[q9 (l:=(Y5 row c).map D.int) (by rfl) (by rw[kj];omega) ?_ (.inr (vf _))];rotate_left
 .rw[Y5,Xa];refine jt λk hk'=>zb (by ext) ?_;have b:=Do h01 k;have hk:=Xj.mp (Xu.mp hk').1;ext;rw[get k hk'];ext;rfl
 ext;rw[q9 (l:=(byL row).map D.int) (by rfl) (by simp only[vz,kj,cL];omega) ?_ (.inl rfl)];rotate_left
 .rw[byL,Xa,vz,List.zipIdx_map,Xa];refine jt λq hq=>?_;obtain⟨a,k⟩:=q;have hm:=iP hq;have h1:=h01 a (by rw[hm.2.2];exact Xz _);show Zi _ _ _ _ (D.tup [.int (k:Int),.int a])=_;refine Og (by ext) ?_;ext;rfl
 ext;generalize (Y5 row c).sum=kept at *;generalize (byL row).sum=byr at *;by_cases k1:kd=1
 .refine⟨if decide (c/64%(row.length:Int)<row.sum)=a6 then 1 else 0,by split<;>simp,?_⟩;ext;simp only[ja7];ext
 .by_cases k2:kd=2
  .refine⟨if decide ((byr+1)*(1+c%1000003)%2147483629/32%5=0)=a6 then 1 else 0,by split<;>simp,?_⟩;ext;simp only[j0d];ext
  .by_cases k3:kd=3
   .refine⟨(kept*kept+17*kept+69621)*(1+c%1000003)%2147483647/16%2,by omega,?_⟩;ext
   .by_cases k4:kd=4
    .refine⟨(((V6 row c).map λ(k:Nat)=>row.getD k 0).sum+c/64)%2,by omega,?_⟩;ext;rw[q9 (l:=((V6 row c).map λ(k:Nat)=>row.getD k 0).map D.int) (by rfl) (by rw[kj];omega) ?_ (.inr (vf _))]
     .ext
     .rw[Xa];refine jt λk hk'=>zb (by ext) ?_;ext;rw[get k hk'];ext;rfl
    .refine⟨(byr*byr+48271)*(c%1000003+byr+1)%2147483647/64%2,by omega,?_⟩;ext
noncomputable def Bm(fu:Nat)(G:af->Option D)(T:af->Option Fi)(n:Nat)(row:List Int)(kd c:Int):Int:=match evP fu G T (n+1) "_law_bit" [.lst (row.map D.int),.int kd,.int c] with
 |.val (.int b)=>b
 |_=>0
theorem Kr {fu n:Nat} (hT:T "_law_bit" = a3 fL_bit) {row:List Int} {kd c:Int} (h01:∀x∈row,x=0\/x=1) (hl:1<=row.length/\row.length<=6):(Bm fu G T n row kd c=0\/Bm fu G T n row kd c=1)/\evP fu G T (n+1) "_law_bit" [.lst (row.map D.int),.int kd,.int c]=.val (.int (Bm fu G T n row kd c)):=by obtain⟨b,hb,e⟩:=jdx (fu:=fu) (n:=n) (G:=G) hT h01 hl (kd:=kd) (c:=c);unfold Bm;rw[e];exact⟨hb,rfl⟩
theorem j1q(m:Nat)(z:Int):∀x∈j0 2 m z,x=0\/x=1:=by
 intro x hx;obtain⟨i,hi⟩:=List.mem_iff_getElem?.mp hx;have hl:i<m:=by have:=(X7.mp hi).1;rw[jq]at this;exact this
 rw[Qp 2 hl]at hi;cases hi;omega
noncomputable def V8(ns:List Int)(a most:Nat):Nat:=(1+qg ns a%(most:Int)).toNat
noncomputable def Vu(fu:Nat)(G:af->Option D)(T:af->Option Fi)(n:Nat)(ns:List Int)(a most:Nat):List Int :=
 (ar (2^V8 ns a most)).map λ(k:Nat)=>Bm fu G T n (j0 2 (V8 ns a most) (k:Int)) (qg ns a/(most:Int)%5) (qg ns (a+2))
theorem Bb{ns:List Int}{a most:Nat}(h:1<=most/\most<=6):1<=V8 ns a most/\V8 ns a most<=most:=by unfold V8;have h1:=Py (qg ns a) (show(most:Int)≠0 by omega);have h2:=Ti (qg ns a) (show(0:Int)<most by omega);omega
theorem jag {fu n:Nat} (hB:T "_law_bit" = a3 fL_bit) {ns:List Int} {a most:Nat} (hm:1<=most/\most<=6):∀x∈Vu fu G T n ns a most,x=0\/x=1:=by intro x hx;obtain⟨k,_,rfl⟩:=X8.mp hx;have mb:=Bb (ns:=ns) (a:=a) hm;exact(Kr hB (j1q _ _) (by rw[jq];omega)).1
theorem Fy {fu n:Nat} (hC:T "_law_cell" = a3 fL_cell) (hW:T "_law_words" = a3 fL_words) (hB:T "_law_bit" = a3 fL_bit) (hT:T "_law_question" = a3 fL_question) {ns:List Int} {a most:Nat} (ha:a<=50) (hm:1<=most/\most<=6) :
  evP fu G T (n+2) "_law_question" [.lst (ns.map D.int),.int a,.int most]=.val (.tup [.tup ((J6 (qg ns (a+1)) (V8 ns a most)).map D.str),.tup ((Vu fu G T n ns a most).map D.int)]):=by
 rw[jw (F:=fL_question) hT rfl];simp only[fL_question,Jm,enter];have mb:=Bb (ns:=ns) (a:=a) hm;obtain⟨m,em⟩:∃m:Nat,m=V8 ns a most:=⟨_,rfl⟩
 have em2:1+qg ns a%(most:Int)=(m:Int):=by rw[em];unfold V8;have h1:=Py (qg ns a) (show(most:Int)≠0 by omega);omega
 rw[<-em]at mb;have p2:=jbk (m:=m) nofun
 have pc:((2^m:Nat):Int)=(2:Int)^m:=by simp
 have e3:(1*2^m:Int).toNat=2^m:=by rw[gZ,<-pc];exact Xi _
 have c0:evP fu G T (n+1) "_law_cell" [.lst (ns.map D.int),.int a]=.val (.int (qg ns a)):=Zw hC nofun
 have c1:evP fu G T (n+1) "_law_cell" [.lst (ns.map D.int),.int ((a:Int)+1)]=.val (.int (qg ns (a+1))):=Zw hC (k:=a+1) nofun
 have c2:evP fu G T (n+1) "_law_cell" [.lst (ns.map D.int),.int ((a:Int)+2)]=.val (.int (qg ns (a+2))):=Zw hC (k:=a+2) nofun
 have wl:(J6 (qg ns (a+1)) m).length=m:=Ue _ _;ext;rw[c0];ext;rw[em2,c1];ext;erw[j0l hW nofun,c0,Xi];rw[e3];rw[Ri (λi=>[.val (.lst (ns.map D.int)),.val (.int a),.val (.int most),.val (.int m),.own ((J6 (qg ns (a+1)) m).map D.str),.val (.int (qg ns a/(most:Int)%5)),.own (((Vu fu G T n ns a most).take i).map D.int),if i=0 then .un else .val (.int ((i:Int)-1)),if i=0 then .un else .own ((j0 2 m ((i:Int)-1)).map D.int),.un]) (by simp)]
 .ext;rw[qb,Tg (by simp[Vu,<-em]),<-em]
 .intro i d hi;obtain⟨h1,rfl⟩:=Vf hi;have hz:=j1q m (0+(i:Int));have hlz:=jq 2 m (0+(i:Int));obtain⟨hb,eb⟩:=Kr (fu:=fu) (n:=n) (G:=G) hB hz nofun (kd:=qg ns a/(most:Int)%5) (c:=qg ns (a+2))
  have lt64:2^m<=64:=by omega
  have al:(Vu fu G T n ns a most).length=2^m:=by simp[Vu,<-em]
  have ag:(Vu fu G T n ns a most)[i]?=a3 (Bm fu G T n (j0 2 m (0+(i:Int))) (qg ns a/(most:Int)%5) (qg ns (a+2))):=by unfold Vu;rw[<-em,xx,Xx h1,Tc];rfl
  simp only[Q3];ext;rw[q9 (l:=(j0 2 m (0+(i:Int))).map D.int) (by rfl) (by rw[qb];omega) ?_ (.inl rfl)];rotate_left
  .have ed:j0 2 m (0+(i:Int))=(ar m).map λ(k:Nat)=>(0+(i:Int))/2^(m-k-1)%2:=by
    refine Tt λk=>?_;by_cases hk:k<m
    .rw[Qp 2 hk,xx,Xx hk];rfl
    .rw[Xw (by rw[jq];omega),Xw (by simp;omega)]
   rw[Xi,Qj,ed,Xa];refine jt λk hk'=>zb (by ext) ?_;have hk:=Xj.mp hk';have et:((m:Int)-(0+(k:Int))-1).toNat=m-k-1:=by omega
   have p:=p2k (k:=m-k-1) nofun
   rw[<-et]at p;ext;rw[et,gZ];rfl
  ext;rw[c2];ext;rw[j6s,eb];ext;rw[je1 (by simp only[kj,Xn];omega) rfl];ext;rw[Tq,ag];simp
end
end KW
section
namespace K40
open PySem PySem.Spec PyProof.Rows L2
noncomputable def top(i:Nat):aW:=PySem.Challenge.pw_leastasks_k40_round_table_cells.main.body.getD i (.Pass ⟨0,0,0,0⟩)
noncomputable def Qg:Sx:=(.seq (.ret (.call "number_of" (.cons (.var 0) (.cons (.blt .len (.cons (.glob "ANSWERS") .nil)) .nil)))) .nop)
noncomputable def V3:Fi:=⟨1,1,Qg,a4⟩
noncomputable def Q4:Sx:=(.seq (.ret (.call "all_choices" (.cons (.comp [1] (.ite (.cmp .eq (.var 1) (.glob "NOT_TOLD")) (.glob "ANSWERS") (.tup (.cons (.var 1) .nil))) (.seq (.var 0)) .nil) .nil))) .nop)
noncomputable def fP_rows_in:Fi:=⟨1,2,Q4,a4⟩
noncomputable def Zr:Sx:=(.seq (.ret (.call "all_choices" (.cons (.comp [1] (.ite (.cmp .eq (.var 1) (.glob "NOT_TOLD")) (.glob "TELLINGS") (.tup (.cons (.var 1) .nil))) (.seq (.var 0)) .nil) .nil))) .nop)
noncomputable def Yg:Fi:=⟨1,2,Zr,a4⟩
noncomputable def vg:Sx:=(.seq (.set 1 (.lst (.cons (.tup .nil) .nil))) (.seq (.loop [2] (.seq (.var 0)) (.seq (.set 3 (.lst .nil)) (.seq (.loop [4] (.seq (.var 1)) (.seq (.ext 3 (.comp [5] (.bin .add (.var 4) (.tup (.cons (.var 5) .nil))) (.seq (.var 2)) .nil)) .nop)) (.seq (.mov 1 3) .nop)))) (.seq (.retV 1) .nop)))
noncomputable def fP_all_choices:Fi:=⟨1,6,vg,a4⟩
noncomputable def Z3:Sx:=(.seq (.set 2 (.lit (.int 0))) (.seq (.loop [3] (.seq (.var 0)) (.seq (.set 2 (.bin .add (.bin .mul (.var 2) (.var 1)) (.var 3))) .nop)) (.seq (.retV 2) .nop)))
noncomputable def Vn:Fi:=⟨2,4,Z3,a4⟩
noncomputable def Z4:Sx:=(.seq (.ret (.ix (.ix (.var 0) (.lit (.int 1))) (.call "row_number" (.cons (.var 1) .nil)))) .nop)
noncomputable def Vo:Fi:=⟨2,2,Z4,a4⟩
noncomputable def Qf:Sx:=(.seq (.set 2 (.call "counted_in" (.cons (.var 0) (.cons (.var 1) .nil)))) (.seq (.ife (.cmp .eq (.ix (.var 2) (.lit (.int 1))) (.lit (.int 0))) (.seq (.ret (.lit (.int 0))) .nop) .nop) (.seq (.ife (.cmp .eq (.ix (.var 2) (.lit (.int 0))) (.lit (.int 0))) (.seq (.ret (.lit (.int 1))) .nop) .nop) (.seq (.ret (.lit (.non))) .nop))))
noncomputable def V2:Fi:=⟨2,3,Qf,a4⟩
noncomputable def Qh:Sx:=(.seq (.set 2 (.comp [3] (.call "answer_to" (.cons (.var 0) (.cons (.var 3) .nil))) (.seq (.call "rows_in" (.cons (.var 1) .nil))) .nil)) (.seq (.ret (.tup (.cons (.meth .count (.var 2) (.cons (.lit (.int 0)) .nil)) (.cons (.meth .count (.var 2) (.cons (.lit (.int 1)) .nil)) .nil)))) .nop))
noncomputable def V4:Fi:=⟨2,4,Qh,a4⟩
noncomputable def Zt:Sx:=(.seq (.ret (.bin .mul (.tup (.cons (.glob "NOT_TOLD") .nil)) (.blt .len (.cons (.ix (.var 0) (.lit (.int 0))) .nil)))) .nop)
noncomputable def Yh:Fi:=⟨1,1,Zt,a4⟩
noncomputable def J4:Sx:=(.nmake 3 4 5 (.seq (.call "parts_in" (.cons (.var 0) .nil))) (.not (.isN (.call "settled_by" (.cons (.var 1) (.cons (.var 4) .nil))))) (.ite (.var 5) (.lit (.int 0)) (.callV 2 (.cons (.var 3) (.cons (.var 4) .nil)))))
noncomputable def Q7:Fi:=⟨3,6,J4,a4⟩
noncomputable def Q5:Sx:=(.seq (.expr (.call "refuse_wrong_round" (.cons (.var 1) .nil))) (.seq (.ret (.dvals (.call "round_numbers" (.cons (.call "all_open" (.cons (.var 0) .nil)) (.cons (.var 0) (.cons (.var 1) .nil)))))) .nop))
noncomputable def Zd:Fi:=⟨2,2,Q5,a4⟩
noncomputable def Jk:Sx:=(.seq (.retC "numbers_within" "round_numbers" (.var 0) (.var 1) [2]) .nop)
noncomputable def Qo:Fi:=⟨3,3,Jk,a4⟩
noncomputable def Qi:Sx:=(.seq (.ret (.minT (.comp [3] (.tup (.cons (.call "greatest_behind" (.cons (.var 0) (.cons (.var 1) (.cons (.var 3) .nil)))) (.cons (.var 3) .nil))) (.seq (.call "rounds_at" (.cons (.var 1) (.cons (.var 2) .nil)))) .nil))) .nop)
noncomputable def V5:Fi:=⟨3,4,Qi,a4⟩
noncomputable def J0:Sx:=(.seq (.set 3 (.call "all_choices" (.cons (.comp [4,5] (.ite (.cmp .isin (.var 4) (.var 2)) (.glob "ANSWERS") (.tup (.cons (.var 5) .nil))) (.enum (.var 1)) .nil) .nil))) (.seq (.ret (.blt .max (.cons (.comp [6] (.dget (.var 0) (.var 6)) (.seq (.var 3)) .nil) .nil))) .nop))
noncomputable def Ju:Fi:=⟨3,7,J0,a4⟩
noncomputable def Z2:Sx:=(.seq (.set 2 (.lst (.cons (.tup .nil) .nil))) (.seq (.loop [3,4] (.enum (.var 0)) (.seq (.ife (.cmp .eq (.var 4) (.glob "NOT_TOLD")) (.seq (.set 2 (.bin .add (.var 2) (.comp [5] (.bin .add (.var 5) (.tup (.cons (.var 3) .nil))) (.seq (.var 2)) (.cons (.cmp .lt (.blt .len (.cons (.var 5) .nil)) (.var 1)) .nil)))) .nop) .nop) .nop)) (.seq (.ret (.sl (.var 2) (.cons (.lit (.int 1)) .nil) .nil)) .nop)))
noncomputable def Vm:Fi:=⟨2,6,Z2,a4⟩
noncomputable def zy:Sx:=(.seq (.ife (.or (.cmp .lt (.var 0) (.glob "FEWEST_AT_ONCE")) (.cmp .gt (.var 0) (.glob "MOST_AT_ONCE"))) (.seq .fail .nop) .nop) .nop)
noncomputable def J9:Fi:=⟨1,1,zy,a4⟩
noncomputable def Vd:Sx:=(.seq (.ife (.cmp .lt (.var 1) (.blt .len (.cons (.var 0) .nil))) (.seq (.ret (.ix (.var 0) (.var 1))) .nop) .nop) (.seq (.set 2 (.bin .add (.lit (.int 70001)) (.bin .mul (.bin .mul (.lit (.int 911)) (.var 1)) (.var 1)))) (.seq (.ife (.cmp .gt (.blt .len (.cons (.var 0) .nil)) (.lit (.int 0))) (.seq (.set 2 (.bin .add (.var 2) (.bin .mul (.bin .mod (.ix (.var 0) (.lit (.int 0))) (.lit (.int 9973))) (.bin .add (.bin .mul (.lit (.int 3)) (.var 1)) (.lit (.int 1)))))) .nop) .nop) (.seq (.retV 2) .nop))))
noncomputable def fL_cell:Fi:=⟨2,3,Vd,a4⟩
noncomputable def Zg:Sx:=(.seq (.set 2 (.lit (.str "mdkbvqhzcgrnapxolsiefwtyju"))) (.seq (.ife (.cmp .lt (.bin .mod (.var 0) (.lit (.int 4))) (.lit (.int 2))) (.seq (.set 3 (.join "" (.comp [4] (.ix (.var 2) (.bin .mod (.bin .fdiv (.var 0) (.bin .add (.lit (.int 4)) (.bin .mul (.lit (.int 5)) (.var 4)))) (.lit (.int 26)))) (.range (.cons (.lit (.int 8)) .nil)) .nil))) (.seq (.set 5 (.bin .mod (.bin .fdiv (.var 0) (.lit (.int 8))) (.bin .sub (.lit (.int 9)) (.var 1)))) (.seq (.ife (.cmp .eq (.bin .mod (.var 0) (.lit (.int 4))) (.lit (.int 0))) (.seq (.ret (.comp [4] (.sl (.var 3) .nil (.cons (.bin .add (.bin .add (.var 5) (.var 4)) (.lit (.int 1))) .nil)) (.range (.cons (.var 1) .nil)) .nil)) .nop) .nop) (.seq (.ret (.comp [4] (.sl (.var 3) (.cons (.bin .sub (.bin .sub (.bin .sub (.lit (.int 8)) (.var 5)) (.var 4)) (.lit (.int 1))) .nil) .nil) (.range (.cons (.var 1) .nil)) .nil)) .nop)))) .nop) (.seq (.set 6 (.bin .mod (.bin .fdiv (.var 0) (.lit (.int 4))) (.lit (.int 8)))) (.seq (.set 7 (.join "" (.comp [4] (.ix (.var 2) (.bin .mod (.bin .add (.bin .add (.bin .fdiv (.var 0) (.lit (.int 32))) (.bin .mul (.bin .mul (.lit (.int 3)) (.var 4)) (.var 4))) (.var 4)) (.lit (.int 26)))) (.range (.cons (.var 6) .nil)) .nil))) (.seq (.set 8 (.bin .mod (.bin .fdiv (.var 0) (.lit (.int 512))) (.bin .add (.var 6) (.lit (.int 1))))) (.seq (.ret (.comp [4] (.bin .add (.bin .add (.sl (.var 7) .nil (.cons (.var 8) .nil)) (.ix (.var 2) (.bin .mod (.bin .add (.bin .fdiv (.var 0) (.lit (.int 9))) (.bin .mul (.lit (.int 7)) (.var 4))) (.lit (.int 26))))) (.sl (.var 7) (.cons (.var 8) .nil) .nil)) (.range (.cons (.var 1) .nil)) .nil)) .nop))))))
noncomputable def fL_words:Fi:=⟨2,9,Zg,a4⟩
noncomputable def Yq:Sx:=(.seq (.set 3 (.comp [4] (.var 4) (.range (.cons (.blt .len (.cons (.var 0) .nil)) .nil)) (.cons (.cmp .eq (.bin .mod (.bin .fdiv (.var 2) (.bin .shl (.lit (.int 1)) (.var 4))) (.lit (.int 2))) (.lit (.int 1))) .nil))) (.seq (.set 5 (.blt .sum (.cons (.comp [4] (.bin .shl (.ix (.var 0) (.var 4)) (.var 4)) (.seq (.var 3)) .nil) .nil))) (.seq (.set 6 (.blt .sum (.cons (.comp [4,7] (.bin .shl (.var 7) (.var 4)) (.enum (.var 0)) .nil) .nil))) (.seq (.ife (.cmp .eq (.var 1) (.lit (.int 1))) (.seq (.ret (.blt .int (.cons (.cmp .gt (.blt .sum (.cons (.var 0) .nil)) (.bin .mod (.bin .fdiv (.var 2) (.lit (.int 64))) (.blt .len (.cons (.var 0) .nil)))) .nil))) .nop) .nop) (.seq (.ife (.cmp .eq (.var 1) (.lit (.int 2))) (.seq (.set 8 (.bin .mod (.bin .mul (.bin .add (.var 6) (.lit (.int 1))) (.bin .add (.lit (.int 1)) (.bin .mod (.var 2) (.lit (.int 1000003))))) (.lit (.int 2147483629)))) (.seq (.ret (.blt .int (.cons (.cmp .eq (.bin .mod (.bin .fdiv (.var 8) (.lit (.int 32))) (.lit (.int 5))) (.lit (.int 0))) .nil))) .nop)) .nop) (.seq (.ife (.cmp .eq (.var 1) (.lit (.int 3))) (.seq (.set 8 (.bin .mul (.bin .add (.bin .add (.bin .mul (.var 5) (.var 5)) (.bin .mul (.lit (.int 17)) (.var 5))) (.lit (.int 69621))) (.bin .add (.lit (.int 1)) (.bin .mod (.var 2) (.lit (.int 1000003)))))) (.seq (.ret (.bin .mod (.bin .fdiv (.bin .mod (.var 8) (.lit (.int 2147483647))) (.lit (.int 16))) (.lit (.int 2)))) .nop)) .nop) (.seq (.ife (.cmp .eq (.var 1) (.lit (.int 4))) (.seq (.ret (.bin .mod (.bin .add (.blt .sum (.cons (.comp [4] (.ix (.var 0) (.var 4)) (.seq (.var 3)) .nil) .nil)) (.bin .fdiv (.var 2) (.lit (.int 64)))) (.lit (.int 2)))) .nop) .nop) (.seq (.set 8 (.bin .mul (.bin .add (.bin .mul (.var 6) (.var 6)) (.lit (.int 48271))) (.bin .add (.bin .add (.bin .mod (.var 2) (.lit (.int 1000003))) (.var 6)) (.lit (.int 1))))) (.seq (.ret (.bin .mod (.bin .fdiv (.bin .mod (.var 8) (.lit (.int 2147483647))) (.lit (.int 64))) (.lit (.int 2)))) .nop)))))))))
noncomputable def fL_bit:Fi:=⟨3,9,Yq,a4⟩
noncomputable def Jm:Sx:=(.seq (.set 3 (.bin .add (.lit (.int 1)) (.bin .mod (.call "_law_cell" (.cons (.var 0) (.cons (.var 1) .nil))) (.var 2)))) (.seq (.set 4 (.call "_law_words" (.cons (.call "_law_cell" (.cons (.var 0) (.cons (.bin .add (.var 1) (.lit (.int 1))) .nil))) (.cons (.var 3) .nil)))) (.seq (.set 5 (.bin .mod (.bin .fdiv (.call "_law_cell" (.cons (.var 0) (.cons (.var 1) .nil))) (.var 2)) (.lit (.int 5)))) (.seq (.set 6 (.lst .nil)) (.seq (.loop [7] (.range (.cons (.bin .shl (.lit (.int 1)) (.var 3)) .nil)) (.seq (.set 8 (.comp [9] (.bin .mod (.bin .fdiv (.var 7) (.bin .shl (.lit (.int 1)) (.bin .sub (.bin .sub (.var 3) (.var 9)) (.lit (.int 1))))) (.lit (.int 2))) (.range (.cons (.var 3) .nil)) .nil)) (.seq (.app 6 (.call "_law_bit" (.cons (.var 8) (.cons (.var 5) (.cons (.call "_law_cell" (.cons (.var 0) (.cons (.bin .add (.var 1) (.lit (.int 2))) .nil))) .nil))))) .nop))) (.seq (.ret (.tup (.cons (.blt .tuple (.cons (.var 4) .nil)) (.cons (.blt .tuple (.cons (.var 6) .nil)) .nil)))) .nop))))))
noncomputable def fL_question:Fi:=⟨3,10,Jm,a4⟩
noncomputable def Zh:Sx:=(.seq (.ife (.isi (.var 1) ["list","tuple"]) (.seq (.ife (.or (.cmp .ne (.isi (.var 0) ["list"]) (.isi (.var 1) ["list"])) (.not (.isi (.var 0) ["list","tuple"]))) (.seq (.ret (.lit (.bl a4))) .nop) .nop) (.seq (.set 2 (.comp [3] (.var 3) (.range (.cons (.blt .min (.cons (.blt .len (.cons (.var 0) .nil)) (.cons (.blt .len (.cons (.var 1) .nil)) .nil))) .nil)) (.cons (.not (.call "_law_same" (.cons (.ix (.var 0) (.var 3)) (.cons (.ix (.var 1) (.var 3)) .nil)))) .nil))) (.seq (.ret (.and (.cmp .eq (.blt .len (.cons (.var 0) .nil)) (.blt .len (.cons (.var 1) .nil))) (.cmp .eq (.var 2) (.lst .nil)))) .nop))) .nop) (.seq (.ife (.isN (.var 1)) (.seq (.ret (.isN (.var 0))) .nop) .nop) (.seq (.ife (.or (.cmp .ne (.isi (.var 0) ["bool"]) (.isi (.var 1) ["bool"])) (.cmp .ne (.isi (.var 0) ["str"]) (.isi (.var 1) ["str"]))) (.seq (.ret (.lit (.bl a4))) .nop) .nop) (.seq (.ret (.and (.isi (.var 0) ["int","str"]) (.cmp .eq (.var 0) (.var 1)))) .nop))))
noncomputable def fL_same:Fi:=⟨2,4,Zh,a4⟩
noncomputable def Y7:Sx:=(.seq (.set 1 (.lit (.int 1))) (.seq (.loop [2] (.range (.cons (.var 0) .nil)) (.seq (.set 1 (.bin .mul (.lit (.int 3)) (.var 1))) .nop)) (.seq (.retV 1) .nop)))
noncomputable def Uw:Fi:=⟨1,3,Y7,a4⟩
noncomputable def Y9:Sx:=(.seq (.set 2 (.lst .nil)) (.seq (.loop [3] (.range (.cons (.var 0) .nil)) (.seq (.set 2 (.bin .add (.lst (.cons (.bin .mod (.var 1) (.lit (.int 3))) .nil)) (.var 2))) (.seq (.set 1 (.bin .fdiv (.var 1) (.lit (.int 3)))) .nop))) (.seq (.retV 2) .nop)))
noncomputable def Uy:Fi:=⟨2,4,Y9,a4⟩
noncomputable def Uc:Sx:=(.seq (.set 2 (.call "_law_digits" (.cons (.var 0) (.cons (.var 1) .nil)))) (.seq (.set 3 (.lst .nil)) (.seq (.loop [4] (.range (.cons (.var 0) .nil)) (.seq (.ife (.cmp .eq (.ix (.var 2) (.var 4)) (.lit (.int 2))) (.seq (.set 5 (.call "_law_threes" (.cons (.bin .sub (.bin .sub (.var 0) (.lit (.int 1))) (.var 4)) .nil))) (.seq (.app 3 (.tup (.cons (.var 4) (.cons (.bin .sub (.var 1) (.bin .mul (.lit (.int 2)) (.var 5))) (.cons (.bin .sub (.var 1) (.var 5)) .nil))))) .nop)) .nop) .nop)) (.seq (.retV 3) .nop))))
noncomputable def Ro:Fi:=⟨2,6,Uc,a4⟩
noncomputable def Wj:Sx:=(.seq (.set 1 (.blt .len (.cons (.ix (.var 0) (.lit (.int 0))) .nil))) (.seq (.set 2 (.lst .nil)) (.seq (.loop [3] (.range (.cons (.call "_law_threes" (.cons (.var 1) .nil)) .nil)) (.seq (.set 4 (.call "_law_steps" (.cons (.var 1) (.cons (.var 3) .nil)))) (.seq (.ife (.cmp .eq (.blt .len (.cons (.var 4) .nil)) (.lit (.int 0))) (.seq (.set 5 (.lit (.int 0))) (.seq (.loop [6] (.seq (.call "_law_digits" (.cons (.var 1) (.cons (.var 3) .nil)))) (.seq (.set 5 (.bin .add (.bin .mul (.lit (.int 2)) (.var 5)) (.var 6))) .nop)) (.seq (.app 2 (.tup (.cons (.ix (.ix (.var 0) (.lit (.int 1))) (.var 5)) (.cons (.lit (.int 1)) .nil)))) .nop))) (.seq (.set 7 (.ix (.var 2) (.ix (.ix (.var 4) (.lit (.int 0))) (.lit (.int 1))))) (.seq (.set 8 (.ix (.var 2) (.ix (.ix (.var 4) (.lit (.int 0))) (.lit (.int 2))))) (.seq (.app 2 (.tup (.cons (.bin .add (.ix (.var 7) (.lit (.int 0))) (.ix (.var 8) (.lit (.int 0)))) (.cons (.bin .add (.ix (.var 7) (.lit (.int 1))) (.ix (.var 8) (.lit (.int 1)))) .nil)))) .nop)))) .nop))) (.seq (.retV 2) .nop))))
noncomputable def Bk:Fi:=⟨1,9,Wj,a4⟩
noncomputable def Vb:Sx:=(.seq (.ret (.chn (.lit (.int 0)) (.ix (.var 0) (.lit (.int 0))) (.ix (.var 0) (.lit (.int 1))))) .nop)
noncomputable def U4:Fi:=⟨1,1,Vb,a4⟩
noncomputable def Yb:Sx:=(.seq (.set 3 (.lst (.cons (.tup (.cons (.lst .nil) (.cons (.lst (.cons (.var 1) .nil)) .nil))) .nil))) (.seq (.loop [4,5,6,6] (.seq (.call "_law_steps" (.cons (.var 0) (.cons (.var 1) .nil)))) (.seq (.set 7 (.call "_law_threes" (.cons (.bin .sub (.bin .sub (.var 0) (.lit (.int 1))) (.var 4)) .nil))) (.seq (.set 8 (.lst .nil)) (.seq (.loop [9,10] (.seq (.var 3)) (.seq (.ife (.cmp .lt (.blt .len (.cons (.var 9) .nil)) (.var 2)) (.seq (.set 11 (.bin .add (.comp [12] (.bin .sub (.var 12) (.bin .mul (.lit (.int 2)) (.var 7))) (.seq (.var 10)) .nil) (.comp [12] (.bin .sub (.var 12) (.var 7)) (.seq (.var 10)) .nil))) (.seq (.keep 11) (.seq (.app 8 (.tup (.cons (.bin .add (.var 9) (.lst (.cons (.var 4) .nil))) (.cons (.var 11) .nil)))) .nop))) .nop) .nop)) (.seq (.set 3 (.bin .add (.var 3) (.var 8))) .nop))))) (.seq (.ret (.sl (.var 3) (.cons (.lit (.int 1)) .nil) .nil)) .nop)))
noncomputable def Uz:Fi:=⟨3,13,Yb,a4⟩
noncomputable def Y8:Sx:=(.seq (.set 2 (.blt .len (.cons (.ix (.var 0) (.lit (.int 0))) .nil))) (.seq (.set 3 (.lst .nil)) (.seq (.loop [4,5] (.enum (.call "_law_ones" (.cons (.var 0) .nil))) (.seq (.set 6 (.lit (.int 0))) (.seq (.ife (.call "_law_is_open" (.cons (.var 5) .nil)) (.seq (.set 7 (.call "_law_behind" (.cons (.var 2) (.cons (.var 4) (.cons (.var 1) .nil))))) (.seq (.set 6 (.bin .add (.lit (.int 1)) (.blt .min (.cons (.comp [8,9] (.blt .max (.cons (.comp [10] (.ix (.var 3) (.var 10)) (.seq (.var 9)) .nil) .nil)) (.seq (.var 7)) .nil) .nil)))) .nop)) .nop) (.seq (.app 3 (.var 6)) .nop)))) (.seq (.retV 3) .nop))))
noncomputable def Ux:Fi:=⟨2,11,Y8,a4⟩
noncomputable def j1w:Sx:=(.seq (.set 1 (.call "_law_question" (.cons (.var 0) (.cons (.lit (.int 0)) (.cons (.ix (.lst (.cons (.lit (.int 4)) (.cons (.lit (.int 4)) (.cons (.lit (.int 4)) (.cons (.lit (.int 4)) (.cons (.lit (.int 4)) (.cons (.lit (.int 4)) (.cons (.lit (.int 4)) (.cons (.lit (.int 5)) .nil))))))))) (.bin .mod (.call "_law_cell" (.cons (.var 0) (.cons (.lit (.int 39)) .nil))) (.lit (.int 8)))) .nil))))) (.seq (.set 2 (.call "_law_cell" (.cons (.var 0) (.cons (.lit (.int 3)) .nil)))) (.seq (.set 3 (.bin .add (.lit (.int 1)) (.bin .mod (.var 2) (.lit (.int 6))))) (.seq (.set 4 (.blt .tuple (.cons (.call "_law_rounds" (.cons (.var 1) (.cons (.var 3) .nil))) .nil))) (.seq (.ife (.not (.call "_law_same" (.cons (.call "round_table" (.cons (.var 1) (.cons (.var 3) .nil))) (.cons (.var 4) .nil)))) (.seq (.ret (.lit (.bl a4))) .nop) .nop) (.seq (.set 5 (.bin .add (.lit (.int 1)) (.bin .mod (.bin .fdiv (.var 2) (.lit (.int 6))) (.lit (.int 6))))) (.seq (.ife (.not (.call "_law_same" (.cons (.call "round_table" (.cons (.var 1) (.cons (.var 5) .nil))) (.cons (.blt .tuple (.cons (.call "_law_rounds" (.cons (.var 1) (.cons (.var 5) .nil))) .nil)) .nil)))) (.seq (.ret (.lit (.bl a4))) .nop) .nop) (.seq (.ret (.call "_law_same" (.cons (.call "round_table" (.cons (.var 1) (.cons (.var 3) .nil))) (.cons (.var 4) .nil)))) .nop))))))))
noncomputable def j1l:Fi:=⟨1,6,j1w,a4⟩
noncomputable def Ji:Ex:=(.bin .add (.lit (.int 1)) (.ix (.call "best_round" (.cons (.var 1) (.cons (.var 2) (.cons (.var 0) .nil)))) (.lit (.int 0))))
noncomputable def Qm:Fi:=⟨3,3,.ret Ji,a6⟩
noncomputable def tbl:List (af×Fi):=("row_number",V3)::("rows_in",fP_rows_in)::("parts_in",Yg)::("all_choices",fP_all_choices)::("number_of",Vn)::("answer_to",Vo)::("settled_by",V2)::("counted_in",V4)::("all_open",Yh)::("numbers_within",Q7)::("round_table",Zd)::("round_numbers",Qo)::("best_round",V5)::("greatest_behind",Ju)::("rounds_at",Vm)::("refuse_wrong_round",J9)::("_law_cell",fL_cell)::("_law_words",fL_words)::("_law_bit",fL_bit)::("_law_question",fL_question)::("_law_same",fL_same)::("_law_threes",Uw)::("_law_digits",Uy)::("_law_steps",Ro)::("_law_ones",Bk)::("_law_is_open",U4)::("_law_behind",Uz)::("_law_rounds",Ux)::("law",j1l)::("round_numbers.<locals>.<lambda>",Qm)::[]
noncomputable def T(x:af):Option Fi:=tbl.lookup x
noncomputable def gs:List (af×D):=[("ANSWERS",.tup [.int 0,.int 1]),("NOT_TOLD",.int 2),("TELLINGS",.tup [.int 0,.int 1,.int 2]),("FEWEST_AT_ONCE",.int 1),("MOST_AT_ONCE",.int 6)]
noncomputable def xs:List (af×List D):=[]
noncomputable def qs:List af:=[]
noncomputable abbrev G:af->Option D:=Gof gs a4 xs qs
end K40
end
section
open PySem PySem.Spec PyProof.Rows L2
local macro_rules | `(tactic| walk_at "vis")=>`(tactic| first | exact Or.inl rfl | exact Or.inr (Or.inl rfl) | exact Or.inr (Or.inr rfl))
local macro_rules | `(tactic| walk_at "loc")=>`(tactic| first | exact Or.inl rfl | exact Or.inr rfl)
local macro_rules | `(tactic| walk_at "cap")=>`(tactic| repeat (first | exact rfl | refine ⟨_,_,rfl,by rfl,by rfl,by rfl,by rfl,?_⟩))
local macro_rules | `(tactic| walk_at "ts")=>`(tactic| first
 |exact Tr.int|exact Tr.bl|exact Tr.non|exact Tr.str
 |exact Tr.var (by rfl) (by walk_at "vis") (by decide) (by decide)|exact Tr.glob (by rfl) (by decide) (by decide)
 |refine Tr.bin ?_ ?_|refine Tr.cmp (by rfl) ?_ ?_|refine Tr.bcmp (by rfl) ?_ ?_|refine Tr.isN ?_|refine Tr.bisN ?_|refine Tr.isNN ?_|refine Tr.bisNN ?_
 |refine Tr.and ?_ ?_|refine Tr.or ?_ ?_|refine Tr.one ?_|refine Tr.not ?_
 |refine Tr.wand ?_ ?_|refine Tr.wor ?_ ?_|refine Tr.wand1 ?_|refine Tr.wor1 ?_|refine Tr.bw ?_|refine Tr.bnot ?_
 |refine Tr.ite ?_ ?_ ?_|exact Tr.nil|refine Tr.cons (by rfl) ?_ ?_|refine Tr.tup ?_|refine Tr.lst ?_
 |refine Tr.ix (by intro _ _;rfl) ?_ ?_|exact Tr.oN|refine Tr.oS ?_|refine Tr.sl ?_ ?_ ?_
 |refine Tr.chn (by with_unfolding_all rfl) ?_ ?_ ?_|refine Tr.bchn (by with_unfolding_all rfl) ?_ ?_ ?_
 |refine Tr.max (by rfl) (by rfl) ?_|refine Tr.max1 (by rfl) (by rfl) ?_
 |refine Tr.call (by rfl) (by decide) (by rfl) (by rfl) ?_
 |refine Tr.callV (by rfl) (by walk_at "vis") (by decide) (by decide) (by rfl) (by rfl) ?_|refine Tr.dget (by intro _ _;rfl) ?_ ?_|refine Tr.dvals (by rfl) (by rfl) (by rfl) (by rfl) (by rfl) ?_|refine Tr.minT (by rfl) (by rfl) (by rfl) ?_
 |refine Tr.min1 (by rfl) (by rfl) ?_
 |refine Tr.len (by rfl) ?_|refine Tr.tuple (by rfl) ?_|refine Tr.min (by rfl) (by rfl) ?_
 |refine Tr.sum (by rfl) (by rfl) ?_|refine Tr.intc (by rfl) ?_|refine Tr.join (by rfl) (by rfl) (by rfl) (by rfl) ?_|refine Tr.enum (by rfl) (by rfl) ?_
 |refine Tr.count (by rfl) (by rfl) (by rfl) ?_ ?_
 |refine Tr.isi1 (by decide) (by decide +kernel) (by rfl) (by rfl) (by decide) (by decide) (by rfl) ?_
 |refine Tr.isi2 (by decide) (by decide) (by decide +kernel) (by decide +kernel) (by rfl) (by rfl) (by rfl) (by decide) (by decide) (by decide) (by decide) (by rfl) ?_
 |exact Tr.c0|refine Tr.c1 ?_
 |refine Tr.comp1 (by rfl) (by rfl) (by rfl) (by rfl) (by rfl) (by intro _;rfl) ?_ ?_ ?_
 |refine Tr.comp2 (by rfl) (by decide) (by rfl) (by rfl) (by rfl) (by rfl) (by rfl) (by rfl) (by intro _;rfl) ?_ ?_ ?_
 |refine Tr.seq ?_|refine Tr.range (by rfl) ?_
 |refine Tr.bval (by intro _;rfl) ?_
 |refine Ts.nmake (by rfl) (by rfl) (by rfl) (by rfl) (by walk_at "loc") (by walk_at "loc") (by walk_at "loc") (by exact aY rfl) (by exact aY rfl) (by exact aY rfl) (by decide) (by decide) (by decide) (by decide) (by rfl) (by rfl) (by rfl) (by intro _;rfl) ?_ ?_ ?_
 |refine Ts.retC (by decide) (by rfl) (by rfl) (by rfl) (Eq.trans (by assumption) rfl) (by rfl) (by decide +kernel) (by walk_at "cap") (by rfl) (by decide) (by rfl) (by rfl) (by rfl) (by rfl) ?_ ?_
 |exact Ts.nil|refine Ts.fgt ?_|refine Ts.keep ?_|refine Ts.cons ?_ ?_|exact Ts.pass|exact Ts.doc|exact Ts.fail
 |exact Ts.mov (by rfl) (by rfl) (by walk_at "loc") (by exact aY rfl) (by walk_at "vis") (by decide) (by decide)
 |refine Ts.setC1 (by rfl) (by rfl) (by walk_at "loc") (by exact aY rfl) (by rfl) (by rfl) (by rfl) (by rfl) (by rfl) (by intro _;rfl) ?_ ?_ ?_
 |refine Ts.setC2 (by rfl) (by rfl) (by walk_at "loc") (by exact aY rfl) (by rfl) (by decide) (by rfl) (by rfl) (by rfl) (by rfl) (by rfl) (by rfl) (by intro _;rfl) ?_ ?_ ?_
 |refine Ts.set (by rfl) (by walk_at "loc") (by rfl) (by exact aY rfl) ?_
 |exact Ts.retV (by rfl) (by walk_at "vis") (by decide) (by decide)|refine Ts.ret ?_
 |refine Ts.ife ?_ ?_ ?_|refine Ts.for1 (by rfl) (by rfl) (by walk_at "loc") (by exact aY rfl) (by intro _;rfl) ?_ ?_
 |refine Ts.for2 (by rfl) (by decide) (by rfl) (by rfl) (by walk_at "loc") (by walk_at "loc") (by exact aY rfl) (by exact aY rfl) (by intro _;rfl) ?_ ?_
 |refine Ts.for3f (by rfl) (by rfl) (by rfl) (by rfl) (by walk_at "loc") (by walk_at "loc") (by walk_at "loc") (by exact aY rfl) (by exact aY rfl) (by exact aY rfl) (by intro _;rfl) ?_ ?_
 |refine Ts.app (by rfl) (by walk_at "vis") (by decide) (by decide) (by rfl) (by rfl) (by rfl) (by rfl) ?_
 |refine Ts.ext (by rfl) (by walk_at "vis") (by decide) (by decide) (by rfl) (by rfl) (by rfl) (by rfl) ?_
 |refine Ts.expr (by rfl) ?_
 |intro C s H fp pn
 |intro pn xe)
local macro_rules | `(tactic| walk_at "bnd")=>`(tactic| (intro _ _ _ _ _ _ us hl; first | (obtain ⟨_,e⟩:=us1 hl; subst e; rfl) | (obtain ⟨_,_,e⟩:=us2 hl; subst e; rfl) | (obtain ⟨_,_,_,e⟩:=us3 hl; subst e; rfl)))
local macro_rules | `(tactic| walk_at "sc")=>`(tactic| exact ⟨rfl,rfl,rfl,by decide +kernel,rfl,by decide +kernel,by decide +kernel⟩)
local macro_rules | `(tactic| walk_at "lk")=>`(tactic| first | walk_at "sc" | walk_at "bnd" | decide)
local macro_rules | `(tactic| walk_at "scl")=>`(tactic| exact ⟨rfl,rfl,rfl,by decide +kernel,rfl,by decide +kernel,by decide +kernel,by decide +kernel,j96⟩)
local macro_rules | `(tactic| walk_at "bndl")=>`(tactic| (intro _ _ _ _ us hl; first | (obtain ⟨_,_,e⟩:=us2 hl; subst e; rfl)))
namespace K40
section
variable{P:aq}{w:ax}{K:k7m}{mg:k7p}{base:aB}
theorem Oj:TrT P w K mg base "row_number" ["row"] (top 7) Qg:=by
 intro f cdv A outer s H E xe;unfold Qg
 repeat' (walk_at "ts")
theorem Kz:TrT P w K mg base "rows_in" ["part","told"] (top 8) Q4:=by
 intro f cdv A outer s H E xe;unfold Q4
 repeat' (walk_at "ts")
theorem Dt:TrT P w K mg base "parts_in" ["part","told"] (top 9) Zr:=by
 intro f cdv A outer s H E xe;unfold Zr
 repeat' (walk_at "ts")
theorem M4:TrT P w K mg base "all_choices" ["figures_by_spot","chosen","figures","longer","ahead","figure"] (top 10) vg:=by
 intro f cdv A outer s H E xe;unfold vg
 repeat' (walk_at "ts")
theorem Ft:TrT P w K mg base "number_of" ["figures","base","number","figure"] (top 11) Z3:=by
 intro f cdv A outer s H E xe;unfold Z3
 repeat' (walk_at "ts")
theorem Fv:TrT P w K mg base "answer_to" ["question","row"] (top 13) Z4:=by
 intro f cdv A outer s H E xe;unfold Z4
 repeat' (walk_at "ts")
theorem Oi:TrT P w K mg base "settled_by" ["question","part","counted"] (top 14) Qf:=by
 intro f cdv A outer s H E xe;unfold Qf
 repeat' (walk_at "ts")
theorem Ol:TrT P w K mg base "counted_in" ["question","part","answers","row"] (top 15) Qh:=by
 intro f cdv A outer s H E xe;unfold Qh
 repeat' (walk_at "ts")
theorem Du:TrT P w K mg base "all_open" ["question"] (top 16) Zt:=by
 intro f cdv A outer s H E xe;unfold Zt
 repeat' (walk_at "ts")
theorem Ui:TrT P w K mg base "numbers_within" ["whole_part","question","number_unsettled","numbers","part","settled"] (top 18) J4:=by
 intro f cdv A outer s H E xe;unfold J4
 repeat' (walk_at "ts")
theorem M3:TrT P w K mg base "round_table" ["question","at_once"] (top 22) Q5:=by
 intro f cdv A outer s H E xe;unfold Q5
 repeat' (walk_at "ts")
theorem Wm (hl:Zq K "round_numbers" = Bg (ju (top 23))):TrT P w K mg base "round_numbers" ["whole_part","question","at_once"] (top 23) Jk:=by
 intro f cdv A outer s H E xe;unfold Jk
 repeat' (walk_at "ts")
theorem Om:TrT P w K mg base "best_round" ["numbers","part","at_once","spots"] (top 24) Qi:=by
 intro f cdv A outer s H E xe;unfold Qi
 repeat' (walk_at "ts")
theorem Uh:TrT P w K mg base "greatest_behind" ["numbers","part","spots","parts_behind","spot","told","behind"] (top 25) J0:=by
 intro f cdv A outer s H E xe;unfold J0
 repeat' (walk_at "ts")
theorem Fq:TrT P w K mg base "rounds_at" ["part","at_once","chosen","spot","told","spots"] (top 26) Z2:=by
 intro f cdv A outer s H E xe;unfold Z2
 repeat' (walk_at "ts")
theorem Yd:TrT P w K mg base "refuse_wrong_round" ["at_once"] (top 27) zy:=by
 intro f cdv A outer s H E xe;unfold zy
 repeat' (walk_at "ts")
theorem j4p:TrT P w K mg base "_law_cell" ["_law_script","_law_k","_law_spare"] (top 29) Vd:=by
 intro f cdv A outer s H E xe;unfold Vd
 repeat' (walk_at "ts")
theorem j23:TrT P w K mg base "_law_words" ["_law_cell_here","_law_many","_law_letters","_law_long","_law_k","_law_start","_law_size","_law_stem","_law_at"] (top 30) Zg:=by
 intro f cdv A outer s H E xe;unfold Zg
 repeat' (walk_at "ts")
theorem j7z:TrT P w K mg base "_law_bit" ["_law_row","_law_kind","_law_cell_here","_law_some","_law_k","_law_kept","_law_by_row","_law_one","_law_mixed"] (top 31) Yq:=by
 intro f cdv A outer s H E xe;unfold Yq
 repeat' (walk_at "ts")
theorem Dv:TrT P w K mg base "_law_question" ["_law_script","_law_at","_law_most","_law_many","_law_places","_law_kind","_law_answers","_law_number","_law_row","_law_k"] (top 32) Jm:=by
 intro f cdv A outer s H E xe;unfold Jm
 repeat' (walk_at "ts")
theorem j4n:TrT P w K mg base "_law_same" ["_law_found","_law_due","_law_unlike","_law_k"] (top 33) Zh:=by
 intro f cdv A outer s H E xe;unfold Zh
 repeat' (walk_at "ts")
theorem j0r:TrT P w K mg base "_law_threes" ["_law_many","_law_power","_law_k"] (top 34) Y7:=by
 intro f cdv A outer s H E xe;unfold Y7
 repeat' (walk_at "ts")
theorem j0t:TrT P w K mg base "_law_digits" ["_law_many","_law_index","_law_digits_here","_law_k"] (top 35) Y9:=by
 intro f cdv A outer s H E xe;unfold Y9
 repeat' (walk_at "ts")
theorem j24:TrT P w K mg base "_law_steps" ["_law_many","_law_index","_law_digits_here","_law_steps_here","_law_k","_law_power"] (top 36) Uc:=by
 intro f cdv A outer s H E xe;unfold Uc
 repeat' (walk_at "ts")
theorem j4o:TrT P w K mg base "_law_ones" ["_law_question_here","_law_many","_law_found","_law_index","_law_steps_here","_law_number","_law_digit","_law_if_no","_law_if_yes"] (top 37) Wj:=by
 intro f cdv A outer s H E xe;unfold Wj
 repeat' (walk_at "ts")
theorem Ia:TrT P w K mg base "_law_is_open" ["_law_counts"] (top 38) Vb:=by
 intro f cdv A outer s H E xe;unfold Vb
 repeat' (walk_at "ts")
theorem j0u:TrT P w K mg base "_law_behind" ["_law_many","_law_index","_law_at_once","_law_found","_law_spot","_law_one","_law_two","_law_power","_law_more","_law_spots","_law_some","_law_parts","_law_here"] (top 39) Yb:=by
 intro f cdv A outer s H E xe;unfold Yb
 repeat' (walk_at "ts")
theorem j0s:TrT P w K mg base "_law_rounds" ["_law_question_here","_law_at_once","_law_many","_law_table","_law_index","_law_counts","_law_number","_law_some","_law_spots","_law_parts","_law_one"] (top 40) Y8:=by
 intro f cdv A outer s H E xe;unfold Y8
 repeat' (walk_at "ts")
theorem j7a:TrT P w K mg base "law" ["_law_script","_law_question_here","_law_cell_here","_law_at_once","_law_due","_law_other"] (top 41) j1w:=by
 intro f cdv A outer s H E xe;unfold j1w
 repeat' (walk_at "ts")
theorem Wn:TrL P w K mg base "round_numbers" ["at_once","numbers","part"] (lamT (top 23)) Ji:=by
 intro a c cl A outer s H;unfold Ji
 repeat' (walk_at "ts")
end
set_option maxHeartbeats 0 in
theorem head {l:cY} {w:ax} {K:k7m} {h:aB} {mg:k7p} {fa:aa} (X:K.In h) (Gn:h.Ns au mg) (hfa:mg "law" = a3 (.ref fa))
  (h0:Lf K "row_number" (top 7))
  (h1:Lf K "rows_in" (top 8))
  (h2:Lf K "parts_in" (top 9))
  (h3:Lf K "all_choices" (top 10))
  (h4:Lf K "number_of" (top 11))
  (h5:Lf K "answer_to" (top 13))
  (h6:Lf K "settled_by" (top 14))
  (h7:Lf K "counted_in" (top 15))
  (h8:Lf K "all_open" (top 16))
  (h9:Lf K "numbers_within" (top 18))
  (h10:Lf K "round_table" (top 22))
  (h11:Lf K "round_numbers" (top 23))
  (h12:Lf K "best_round" (top 24))
  (h13:Lf K "greatest_behind" (top 25))
  (h14:Lf K "rounds_at" (top 26))
  (h15:Lf K "refuse_wrong_round" (top 27))
  (h16:Lf K "_law_cell" (top 29))
  (h17:Lf K "_law_words" (top 30))
  (h18:Lf K "_law_bit" (top 31))
  (h19:Lf K "_law_question" (top 32))
  (h20:Lf K "_law_same" (top 33))
  (h21:Lf K "_law_threes" (top 34))
  (h22:Lf K "_law_digits" (top 35))
  (h23:Lf K "_law_steps" (top 36))
  (h24:Lf K "_law_ones" (top 37))
  (h25:Lf K "_law_is_open" (top 38))
  (h26:Lf K "_law_behind" (top 39))
  (h27:Lf K "_law_rounds" (top 40))
  (h28:Lf K "law" (top 41))
  (bz:bOk K=a6) {ts:List aa} (tz:tOk K ts=a6)
  {gt1:gW} {gt2:gW} {ga0:aa} {ga0n:Nat} {ga0s:Array (Option a8)} {gt3:gW} {gt5:gW} {gt6:gW} {gt7:gW} {ga4:aa} {ga4n:Nat} {ga4s:Array (Option a8)} {gt8:gW} {gt9:gW}
  (ga0l:K.lookup ga0=a3 ⟨.type "tuple",a7,.seq #[.int 0 gt1,.int 1 gt2] ga0n,ga0s⟩) (gn0:cU K au "ANSWERS" = a3 (a3 (.ref ga0))) (gn1:cU K au "NOT_TOLD" = a3 (a3 (.int 2 gt3))) (ga4l:K.lookup ga4=a3 ⟨.type "tuple",a7,.seq #[.int 0 gt5,.int 1 gt6,.int 2 gt7] ga4n,ga4s⟩) (gn2:cU K au "TELLINGS" = a3 (a3 (.ref ga4))) (gn3:cU K au "FEWEST_AT_ONCE" = a3 (a3 (.int 1 gt8))) (gn4:cU K au "MOST_AT_ONCE" = a3 (a3 (.int 6 gt9)))
  (exa:Dn K=a6)
  {fu n:Nat} (hlaw:∀ns:List Int,ns.length<=63->evP fu G T (n+1) "law" [.lst (ns.map D.int)]=.val (.bl a6)) :
  ∃fd:aH,(∀(s:ae)(v:a8),fm s fd ⟨[v],[]⟩ [("_law_script",v)])/\∀base:aB,K.In base->base.Ns au mg->FnOk l.prog w K mg base CX0 (lv (n+1)) fa fd ["_law_script"] (Dh K):=by
 have hL:=h28;obtain⟨f,oc,od,kV,dc,pm,an,cd,ct,sl,a,lk,c,k⟩:=hL;have e:=hfa.symm.trans (cb X Gn a);cases e;refine⟨PySem.W.fnOf "law" "law" (vp (top 41)) (ju (top 41)) (jb (top 41)) .none kV dc pm an cd ct,λs v=>.of_eq rfl,λbase hKb hNb=>?_⟩;have hT:∀x F,T x=a3 F->LkF l.prog w K mg base x F:=λx F hx=>by
  have all:∀p∈tbl,LkF l.prog w K mg base p.1 p.2:=by
   intro p hp;simp only[tbl,xr,eR,or_false]at hp;rcases hp with rfl|rfl|rfl|rfl|rfl|rfl|rfl|rfl|rfl|rfl|rfl|rfl|rfl|rfl|rfl|rfl|rfl|rfl|rfl|rfl|rfl|rfl|rfl|rfl|rfl|rfl|rfl|rfl|rfl|rfl
   .refine lkF (qj h0 X Gn Oj ["row"] ?_ rfl rfl ?_ ?_) rfl ?_<;>walk_at "lk"
   .refine lkF (qj h1 X Gn Kz ["part"] ?_ rfl rfl ?_ ?_) rfl ?_<;>walk_at "lk"
   .refine lkF (qj h2 X Gn Dt ["part"] ?_ rfl rfl ?_ ?_) rfl ?_<;>walk_at "lk"
   .refine lkF (qj h3 X Gn M4 ["figures_by_spot"] ?_ rfl rfl ?_ ?_) rfl ?_<;>walk_at "lk"
   .refine lkF (qj h4 X Gn Ft ["figures","base"] ?_ rfl rfl ?_ ?_) rfl ?_<;>walk_at "lk"
   .refine lkF (qj h5 X Gn Fv ["question","row"] ?_ rfl rfl ?_ ?_) rfl ?_<;>walk_at "lk"
   .refine lkF (qj h6 X Gn Oi ["question","part"] ?_ rfl rfl ?_ ?_) rfl ?_<;>walk_at "lk"
   .refine lkF (qj h7 X Gn Ol ["question","part"] ?_ rfl rfl ?_ ?_) rfl ?_<;>walk_at "lk"
   .refine lkF (qj h8 X Gn Du ["question"] ?_ rfl rfl ?_ ?_) rfl ?_<;>walk_at "lk"
   .refine lkF (qj h9 X Gn Ui ["whole_part","question","number_unsettled"] ?_ rfl rfl ?_ ?_) rfl ?_<;>walk_at "lk"
   .refine lkF (qj h10 X Gn M3 ["question","at_once"] ?_ rfl rfl ?_ ?_) rfl ?_<;>walk_at "lk"
   .refine lkF (qj h11 X Gn (Wm (Lx h11)) ["whole_part","question","at_once"] ?_ rfl rfl ?_ ?_) rfl ?_<;>walk_at "lk"
   .refine lkF (qj h12 X Gn Om ["numbers","part","at_once"] ?_ rfl rfl ?_ ?_) rfl ?_<;>walk_at "lk"
   .refine lkF (qj h13 X Gn Uh ["numbers","part","spots"] ?_ rfl rfl ?_ ?_) rfl ?_<;>walk_at "lk"
   .refine lkF (qj h14 X Gn Fq ["part","at_once"] ?_ rfl rfl ?_ ?_) rfl ?_<;>walk_at "lk"
   .refine lkF (qj h15 X Gn Yd ["at_once"] ?_ rfl rfl ?_ ?_) rfl ?_<;>walk_at "lk"
   .refine lkF (qj h16 X Gn j4p ["_law_script","_law_k"] ?_ rfl rfl ?_ ?_) rfl ?_<;>walk_at "lk"
   .refine lkF (qj h17 X Gn j23 ["_law_cell_here","_law_many"] ?_ rfl rfl ?_ ?_) rfl ?_<;>walk_at "lk"
   .refine lkF (qj h18 X Gn j7z ["_law_row","_law_kind","_law_cell_here"] ?_ rfl rfl ?_ ?_) rfl ?_<;>walk_at "lk"
   .refine lkF (qj h19 X Gn Dv ["_law_script","_law_at","_law_most"] ?_ rfl rfl ?_ ?_) rfl ?_<;>walk_at "lk"
   .refine lkF (qj h20 X Gn j4n ["_law_found","_law_due"] ?_ rfl rfl ?_ ?_) rfl ?_<;>walk_at "lk"
   .refine lkF (qj h21 X Gn j0r ["_law_many"] ?_ rfl rfl ?_ ?_) rfl ?_<;>walk_at "lk"
   .refine lkF (qj h22 X Gn j0t ["_law_many","_law_index"] ?_ rfl rfl ?_ ?_) rfl ?_<;>walk_at "lk"
   .refine lkF (qj h23 X Gn j24 ["_law_many","_law_index"] ?_ rfl rfl ?_ ?_) rfl ?_<;>walk_at "lk"
   .refine lkF (qj h24 X Gn j4o ["_law_question_here"] ?_ rfl rfl ?_ ?_) rfl ?_<;>walk_at "lk"
   .refine lkF (qj h25 X Gn Ia ["_law_counts"] ?_ rfl rfl ?_ ?_) rfl ?_<;>walk_at "lk"
   .refine lkF (qj h26 X Gn j0u ["_law_many","_law_index","_law_at_once"] ?_ rfl rfl ?_ ?_) rfl ?_<;>walk_at "lk"
   .refine lkF (qj h27 X Gn j0s ["_law_question_here","_law_at_once"] ?_ rfl rfl ?_ ?_) rfl ?_<;>walk_at "lk"
   .refine lkF (qj h28 X Gn j7a ["_law_script"] ?_ rfl rfl ?_ ?_) rfl ?_<;>walk_at "lk"
   .exact jca (by decide +kernel) (Lx h11) rfl Wn ["numbers","part"] (by walk_at "scl") rfl rfl rfl rfl (by walk_at "bndl")
  exact all (x,F) (lookup_mem hx)
 have bt:=jfq X Gn bz;have gl:∀x d,gs.lookup x=a3 d->∃u v,mg x=a3 u/\RelV v u/\∀H,Enc K H d v:=by
  intro x d hx;have hm:=lookup_mem hx;simp only[gs,xr,eR,or_false,Prod.mk.injEq]at hm;rcases hm with ⟨e1,e2⟩|⟨e1,e2⟩|⟨e1,e2⟩|⟨e1,e2⟩|⟨e1,e2⟩
  .subst e1 e2;exact⟨.ref ga0,.ref ga0,cb X Gn gn0,rfl,λH=>⟨ga0,[.int 0,.int 1],rfl,.inr ⟨_,_,_,ga0l,rfl,rfl,rfl,(by show 2<=aj;decide),(.cons ⟨_,rfl⟩ (.cons ⟨_,rfl⟩ .nil))⟩,⟨_,_,rfl,rfl,⟨_,_,rfl,rfl,rfl⟩⟩⟩⟩
  .subst e1 e2;exact⟨.int 2 gt3,.int 2,cb X Gn gn1,⟨_,rfl⟩,λ_=>rfl⟩
  .subst e1 e2;exact⟨.ref ga4,.ref ga4,cb X Gn gn2,rfl,λH=>⟨ga4,[.int 0,.int 1,.int 2],rfl,.inr ⟨_,_,_,ga4l,rfl,rfl,rfl,(by show 3<=aj;decide),(.cons ⟨_,rfl⟩ (.cons ⟨_,rfl⟩ (.cons ⟨_,rfl⟩ .nil)))⟩,⟨_,_,rfl,rfl,⟨_,_,rfl,rfl,⟨_,_,rfl,rfl,rfl⟩⟩⟩⟩⟩
  .subst e1 e2;exact⟨.int 1 gt8,.int 1,cb X Gn gn3,⟨_,rfl⟩,λ_=>rfl⟩
  .subst e1 e2;exact⟨.int 6 gt9,.int 6,cb X Gn gn4,⟨_,rfl⟩,λ_=>rfl⟩
 have qn:∀f∈qs,∃fa,mg f=a3 (.ref fa)/\PySem.W.keepIn K (.ref fa)=a6:=by exact λf hf=>nomatch hf
 have tb:Tb l.prog w K mg base G:=jea bt gl exa (λp hp=>nomatch hp) (λz=>by cases z) hKb hNb qn (λp hp=>nomatch hp) (jf2 tz X Gn);exact jcb hT tb (F:=j1l) (by rfl) rfl hfa (K5 lk c k) _ (by walk_at "sc") rfl rfl (j7a _) hlaw
end K40
end
open PySem (Str sizeLine argBest)
open L2
namespace K40
open KL KW KV
theorem j1j:T "_law_cell" = a3 KL.fL_cell:=by rfl
theorem jfh:T "_law_same" = a3 KL.fL_same:=by rfl
theorem Rj:T "all_choices" = a3 KL.fP_all_choices:=by rfl
theorem j9o:T "rows_in" = a3 KL.fP_rows_in:=by rfl
theorem jcu:T "_law_words" = a3 KW.fL_words:=by rfl
theorem jcv:T "_law_bit" = a3 KW.fL_bit:=by rfl
theorem j3m:T "_law_question" = a3 KW.fL_question:=by rfl
theorem gN:G "NOT_TOLD" = a3 (.int 2):=by rfl
theorem gA:G "ANSWERS" = a3 (.tup [.int 0,.int 1]):=by rfl
theorem gT:G "TELLINGS" = a3 (.tup [.int 0,.int 1,.int 2]):=by rfl
theorem Qp{b:Int}:∀{m i:Nat}{z:Int},i<m->(j0 b m z)[i]?=a3 (z/b^(m-1-i)%b)
 |m+1,0,z,_=>by rw[j0,List.getElem?_cons_zero];simp
 |m+1,i+1,z,h=>by rw[j0,d9,Qp nofun];congr 3;congr 1;omega
theorem Ii {fu n m:Nat} {z b:Int} (hm:m<=6) (hb:b=2\/b=3) (hz:0<=z/\z<b^m):evP fu G T (n+1) "number_of" [.tup ((j0 b m z).map .int),.int b]=.val (.int z):=by
 rw[jw (F:=Vn) (by rfl) rfl];simp only[Vn,Z3,enter];ext;have z0:z/b^m=0:=t8 hz.1 hz.2;refine Qk (λi ρ=>∃s3,ρ=[.val (.tup ((j0 b m z).map .int)),.val (.int b),.val (.int (z/b^(m-i))),s3]) ⟨.un,by rw[ki,z0]⟩ ?_ ?_
 .rintro i d ρ hi ⟨s3,rfl⟩;obtain⟨v,hv,rfl⟩:=U3 hi;have hlt:i<m:=by have:=(X7.mp hv).1;rw[jq]at this;exact this
  rw[Qp hlt]at hv;cases hv;simp only[Q3];ext;refine⟨_,rfl,?_⟩;have e1:m-i=(m-1-i)+1:=by omega
  have e2:m-(i+1)=m-1-i:=by omega
  have e3:z/b^(m-i)*b+z/b^(m-1-i)%b=z/b^(m-(i+1)):=by rw[e1,e2,<-Rr z b nofun,dn];exact gK _ _
  rw[e3];exact⟨_,rfl⟩
 .rintro ρ' ⟨s3,rfl⟩;ext;simp[jq]
theorem j2f {n m:Nat} {z:Int} (h:1<=m/\m<=6) (hz:0<=z/\z<2^m):evP 1000 G T (n+2) "row_number" [q8 (j0 2 m z)]=.val (.int z):=by
 rw[jw (F:=V3) (by rfl) rfl];simp only[V3,Qg,enter];ext;simp only[gA];ext;have e:evP 1000 G T (n+1) "number_of" [q8 (j0 2 m z),.int 2]=.val (.int z):=Ii h.2 (.inl rfl) hz;have e2:(((0+1+1:Nat):Int))=2:=rfl
 first|rw[e]|(rw[e2,e])
 ext
noncomputable def qD(ws:List af)(a:List Int):D:=.tup [.tup (ws.map D.str),.tup (a.map D.int)]
theorem j68{p:List Int}{k:Nat}(h:k<p.length):atI (p.map D.int) (k:Int)=a3 (.int (p.getD k 0)):=by
 have:=j01 h
 rwa [Tc]at this
theorem Iv {n m k:Nat} {ws:List af} {a:List Int} (hm:1<=m/\m<=6) (ha:a.length=2^m) (hk:k<2^m):evP 1000 G T (n+3) "answer_to" [qD ws a,q8 (j0 2 m (k:Int))]=.val (.int (a.getD k 0)):=by
 rw[jw (F:=Vo) (by rfl) rfl];simp only[Vo,Z4,enter,qD];have pc:((2^m:Nat):Int)=(2:Int)^m:=by simp
 have i1:atI [D.tup (ws.map D.str),.tup (a.map D.int)] 1=a3 (.tup (a.map D.int)):=rfl;ext;erw[i1,j2f (n:=n) hm nofun,j68 nofun]
theorem j3w{l:List D}{k:Nat}(h:k<=l.length):cutD l (a3 (k:Int)) a7=l.drop k:=by unfold cutD;rw[HT.sIx_none,HT.sIx_nat,Nat.min_eq_left h,Tg (by rw[Tf];omega)]
noncomputable def inL(p:List Int)(m:Nat):List Nat:=(ar (2^m)).filter λ(k:Nat)=>fits p (j0 2 m (k:Int))
noncomputable def cnt(a p:List Int)(m:Nat)(v:Int):Nat:=(inL p m).countP λ(k:Nat)=>a.getD k 0==v
theorem Yz{p:List Int}{m:Nat}(hp:p.length=m)(hp3:∀t∈p,0<=t/\t<3):qi (p.map Qn)=(inL p m).map λ(k:Nat)=>j0 2 m (k:Int):=by rw[v9,<-Uv hp3,hp,<-Ld,iS];rfl
theorem j9n{p:List Int}{m:Nat}(hp:p.length=m)(hp3:∀t∈p,0<=t/\t<3):1<=(inL p m).length/\(inL p m).length<=2^m:=by
 have h1:=congrArg dA (Yz hp hp3);rw[v9,Vh,kj]at h1;constructor
 .rw[<-h1];exact Nat.one_le_two_pow
 .unfold inL;exact Xh (Xv _ _) (by rw[Xe];exact X3 _)
theorem j0b{a:List Int}(h01:∀x∈a,x=0\/x=1):∀L:List Nat,(L.countP λ(k:Nat)=>a.getD k 0==0)+(L.countP λ(k:Nat)=>a.getD k 0==1)=L.length
 |[]=>rfl
 |k::L=>by
  have ih:=j0b h01 L;rw[Xq,Xq,xn]
  try dsimp only
  rcases Do h01 k with e|e
  .rw[e,if_pos (by decide),if_neg (by decide)];omega
  .rw[e,if_neg (by decide),if_pos (by decide)];omega
theorem Kf {n m:Nat} {ws:List af} {a p:List Int} (hm:1<=m/\m<=6) (ha:a.length=2^m) (hp:p.length=m) (hp3:∀t∈p,0<=t/\t<3):evP 1000 G T (n+4) "counted_in" [qD ws a,q8 p]=.val (.tup [.int (cnt a p m 0),.int (cnt a p m 1)]):=by
 rw[jw (F:=V4) (by rfl) rfl];simp only[V4,Qh,enter];have ri:evP 1000 G T (n+3) "rows_in" [q8 p]=.fresh (qe (qi (p.map Qn))):=Ie (n:=n+1) j9o Rj gN gA nofun
 have as1:∀k:Nat,k<2^m->evP 1000 G T (n+3) "answer_to" [qD ws a,q8 (j0 2 m (k:Int))]=.val (.int (a.getD k 0)):=λk hk=>Iv hm ha hk;have l:=j9n hp hp3;have p2:=jbk hm.2;have pc:((2^m:Nat):Int)=(2:Int)^m:=by simp
 have cn:∀v:Int,(((inL p m).map λ(k:Nat)=>D.int (a.getD k 0)).countP λe=>deq e (.int v))=cnt a p m v:=λv=>by rw[iT];rfl
 have dp:D.depL ((inL p m).map λ(k:Nat)=>D.int (a.getD k 0))<=90:=by
  have:=D.depL_of (ds:=(inL p m).map λ(k:Nat)=>D.int (a.getD k 0)) (n:=0) λd hd=>by obtain⟨x,_,rfl⟩:=X8.mp hd;simp[D.dep]
  omega
 ext;rw[ri,Yz hp hp3];ext;rw[q9 (l:=(inL p m).map λ(k:Nat)=>D.int (a.getD k 0)) (by rfl) (by simp only[qe,kj];omega) ?_ (.inl rfl)];rotate_left
 .rw[qe,Xa];refine jt λk hk'=>zb (by ext) ?_;have hk:=Xj.mp (Xu.mp hk').1;ext;rw[cO,as1 k hk];ext
 ext;rw[j0a dp (by simp[D.dep]),j0a dp (by simp[D.dep]),cn,cn];ext
theorem Cp {n m:Nat} {ws:List af} {a p:List Int} (hm:1<=m/\m<=6) (ha:a.length=2^m) (hp:p.length=m) (hp3:∀t∈p,0<=t/\t<3):evP 1000 G T (n+5) "settled_by" [qD ws a,q8 p]=.val (if cnt a p m 1=0 then .int 0 else if cnt a p m 0=0 then .int 1 else .non):=by
 rw[jw (F:=V2) (by rfl) rfl];simp only[V2,Qf,enter];have i0:∀x y:D,atI [x,y] 0=a3 x:=λ_ _=>rfl;have i1:∀x y:D,atI [x,y] 1=a3 y:=λ_ _=>rfl;have c:=Kf (n:=n) (ws:=ws) hm ha hp hp3;ext;rw[c];ext;rw[i1];by_cases h1:cnt a p m 1=0
 .ext;rw[if_pos h1]
 .rw[if_neg h1];ext;rw[i0];by_cases h0:cnt a p m 0=0
  .ext;rw[if_pos h0]
  .ext;rw[if_neg h0]
noncomputable def j0w(c0 c1:Nat):D:=if c1=0 then .int 0 else if c0=0 then .int 1 else .non
theorem j27 {n m:Nat} {ws:List af} {a p:List Int} (hm:1<=m/\m<=6) (ha:a.length=2^m) (hp:p.length=m) (hp3:∀t∈p,0<=t/\t<3):evP 1000 G T (n+5) "settled_by" [.tup [.tup (ws.map D.str),.tup (a.map D.int)],q8 p]=.val (j0w (cnt a p m 0) (cnt a p m 1)):=Cp hm ha hp hp3
noncomputable def Zu(m:Nat):List (List Int):=(ar (3^m)).map λn=>j0 3 m ((n:Nat):Int)
theorem Ih(m:Nat):Zu (m+1)=(Zu m).map (0 :: ·)++(Zu m).map (1 :: ·)++(Zu m).map (2 :: ·):=by
 have e:3^(m+1)=3^m+3^m+3^m:=by rw[Px];omega
 have pc:((3^m:Nat):Int)=(3:Int)^m:=by simp
 have hp:(3:Int)^m≠0:=eN (bV (by decide));have key:∀(c n:Nat),c<3->n<3^m->j0 3 (m+1) (((n:Nat):Int)+3^m*(c:Int))=(c:Int)::j0 3 m (n:Int):=λc n hc hn=>by
  rw[j0,U6 (by decide) _ _ (X3 m)];congr 1;have h0:(n:Int)/3^m=0:=t8 nofun (by rw[<-pc];omega)
  rw[ck _ _ hp,h0,Tc];omega
 unfold Zu;rw[e,fv,fv,Xd,Xd,Xa,Xa,Xa,Xa,Xa];congr 1
 .congr 1
  .apply Xy;intro n hn;have:=key 0 n (by decide) (Xj.mp hn);simpa using this
  .apply Xy;intro n hn;have:=key 1 n (by decide) (Xj.mp hn);show j0 3 (m+1) ((3^m+n:Nat):Int)=1::j0 3 m (n:Int);rw[show((3^m+n:Nat):Int)=(n:Int)+3^m*((1:Nat):Int)by rw[cC,pc];omega,this];rfl
 .apply Xy;intro n hn;have:=key 2 n (by decide) (Xj.mp hn);show j0 3 (m+1) ((3^m+3^m+n:Nat):Int)=2::j0 3 m (n:Int);rw[show((3^m+3^m+n:Nat):Int)=(n:Int)+3^m*((2:Nat):Int)by rw[cC,cC,pc];omega,this];rfl
theorem j10{m:Nat}(h:m<=6):1<=3^m/\3^m<=729:=by
 have:m=0\/m=1\/m=2\/m=3\/m=4\/m=5\/m=6:=by omega
 rcases this with e|e|e|e|e|e|e<;>subst e<;>decide
theorem Nm(p:List Int):vz (p.map D.int)=(ar p.length).map λ(s:Nat)=>D.tup [.int (s:Int),.int (p.getD s 0)]:=by
 refine Tt λi=>?_;rw[Np,xx,xx];by_cases h:i<p.length
 .rw[Xx h,kh h];simp[h]
 .rw[Xw nofun,Xw (by simp;omega)];rfl
noncomputable def stD(a p:List Int)(m:Nat):D:=j0w (cnt a p m 0) (cnt a p m 1)
theorem j5g(c:Int):∃most:Nat,(most=4\/most=5)/\atI [D.int 4,.int 4,.int 4,.int 4,.int 4,.int 4,.int 4,.int 5] (c%8)=a3 (.int (most:Int)):=by
 have h1:=Py c (show(8:Int)≠0 by decide);have h2:=Ti c (show(0:Int)<8 by decide);have:c%8=0\/c%8=1\/c%8=2\/c%8=3\/c%8=4\/c%8=5\/c%8=6\/c%8=7:=by omega
 rcases this with e|e|e|e|e|e|e|e<;>rw[e]
 .exact⟨4,.inl rfl,rfl⟩
 .exact⟨4,.inl rfl,rfl⟩
 .exact⟨4,.inl rfl,rfl⟩
 .exact⟨4,.inl rfl,rfl⟩
 .exact⟨4,.inl rfl,rfl⟩
 .exact⟨4,.inl rfl,rfl⟩
 .exact⟨4,.inl rfl,rfl⟩
 .exact⟨5,.inr rfl,rfl⟩
theorem Rn:∀{p r:List Int}{s:Nat}{x:Int},p.length=r.length->s<p.length->p.getD s 0=2->x≠2->fits (p.set s x) r=(fits p r&&decide (x=r.getD s 0))
 |[],_,s,x,_,hs,_,_=>by simp at hs
 |_::_,[],_,_,h,_,_,_=>by simp at h
 |t::ts,y::ys,0,x,h,_,h2,hx=>by
  have:t=2:=by simpa using h2
  subst this;simp only[T3,fits,dM];by_cases e:x=y
  .subst e;simp[hx]
  .simp[hx,e]
 |t::ts,y::ys,s+1,x,h,hs,h2,hx=>by have ih:=Rn (p:=ts) (r:=ys) (s:=s) (x:=x) (by simpa using h) (by simpa using hs) (by simpa using h2) hx;simp only[Pu,fits,bK,ih,Bool.and_assoc]
theorem Wu{f g h:Nat->Bool}:∀{L:List Nat},(∀k∈L,(f k=a6->g k=a4)/\(h k=(f k || g k)))->L.countP f+L.countP g=L.countP h
 |[],_=>rfl
 |k::L,q=>by
  have ih:=Wu (f:=f) (g:=g) (h:=h) (L:=L) λj hj=>q j (xf _ hj);obtain⟨q1,q2⟩:=q k (xm ..);rw[Xq,Xq,Xq,q2];cases e1:f k with
  |true=>rw[q1 e1];simp;omega
  |false=>cases e2:g k<;>simp<;>omega
theorem j3x{a p:List Int}{m s:Nat}{v:Int}(hp:p.length=m)(hs:s<m)(h2:p.getD s 0=2):cnt a (p.set s 0) m v+cnt a (p.set s 1) m v=cnt a p m v:=by unfold cnt inL;rw[dQ,dQ,dQ];refine Wu λk hk=>?_;have l:=jq 2 m (k:Int);have b:=Do (j1q m (k:Int)) s;rw[Rn nofun nofun h2 (by decide),Rn nofun nofun h2 (by decide)];rcases b with e|e<;>rw[e]<;>cases(a.getD k 0==v)<;>cases fits p (j0 2 m (k:Int))<;>simp
theorem jay{p:List Int}{m s:Nat}{v:Int}(hp:p.length=m)(hp3:∀t∈p,0<=t/\t<3)(hv:v=0\/v=1):(p.set s v).length=m/\∀t∈p.set s v,0<=t/\t<3:=by
 refine⟨by rw[Pz];exact hp,λt ht=>?_⟩;rcases List.mem_or_eq_of_mem_set ht with h|h
 .exact hp3 t h
 .rw[h];omega
theorem j0c{a p:List Int}{m:Nat}(h01:∀x∈a,x=0\/x=1)(hp:p.length=m)(hp3:∀t∈p,0<=t/\t<3):cnt a p m 0+cnt a p m 1=2^(p.countP λt=>t==2):=by have h:=j0b h01 (inL p m);have h1:=congrArg dA (Yz hp hp3);rw[v9,Vh,kj]at h1;unfold cnt;omega
theorem N6:∀{p:List Int},(p.countP λt=>t==2)=0->zc (p.map Qn)=[p]
 |[],_=>rfl
 |t::ts,h=>by
  rw[Xq]at h;have h1:(ts.countP λt=>t==2)=0:=by omega
  have h2:t≠2:=λz=>by subst z;simp at h
  rw[X4,zc,N6 h1];simp[Qn,h2]
theorem j4q{p:List Int}{m:Nat}(hp:p.length=m)(hp3:∀t∈p,0<=t/\t<3)(h0:(p.countP λt=>t==2)=0):∃k:Nat,k<2^m/\p=j0 2 m (k:Int)/\inL p m=[k]:=by
 have h:=Yz hp hp3;rw[v9,N6 h0]at h;cases e:inL p m with
 |nil=>rw[e]at h;cases h
 |cons k r =>
  rw[e]at h;cases r with
  |cons j r=>simp at h
  |nil =>
   simp only[X4,c9,List.cons.injEq,and_true]at h;have hk:k∈inL p m:=by rw[e];exact xm ..
   exact⟨k,Xj.mp (Xu.mp hk).1,h,rfl⟩
theorem Nu{p:List Int}{s:Nat}{v:Int}(hs:s<p.length)(h2:p.getD s 0=2)(hv:v=0\/v=1):((p.set s v).countP λt=>t==2)+1=p.countP λt=>t==2:=by
 have g:p[s]=2:=by rw[km,kh hs]at h2;exact h2
 have e:p=p.take s++2::p.drop (s+1):=by have:=gv s p;rw[bJ hs,g]at this;exact this.symm
 rw[List.set_eq_take_append_cons_drop,if_pos hs]
 conv=>rhs;rw[e]
 rw[i9,i9,Xq,Xq];have hv2:(v==2)=a4:=by rcases hv with h|h<;>subst h<;>rfl
 simp[hv2]
 try omega
noncomputable def jc(p:List Int)(m:Nat):List Nat:=(ar m).filter λ(k:Nat)=>decide (p.getD k 0=2)
theorem Lh:∀(p:List Int),(jc p p.length).length=p.countP λt=>t==2:=by
 intro p;unfold jc;rw[<-List.countP_eq_length_filter];have:∀(p:List Int),(ar p.length).countP (λ(k:Nat)=>decide (p.getD k 0=2))=p.countP λt=>t==2:=by
  intro p;induction p with
  |nil=>rfl
  |cons t ts ih =>
   rw[xn,c8,Xq,iT,Xq,<-ih];congr 1
   try simp only[dM]
   try (by_cases h:t=2<;>simp[h])
 exact this p
noncomputable def J3(t:Int):List Int:=if t=2 then[0,1,2] else[t]
theorem Lg {n:Nat} {p:List Int} (hp:p.length<=6):evP 1000 G T (n+2) "parts_in" [q8 p]=.fresh (qe (qi (p.map J3))):=by
 rw[jw (F:=Yg) (by rfl) rfl];simp only[Yg,Zr,enter];ext;rw[q9 (l:=qe (p.map J3)) (by rfl) ?_ ?_ (.inl rfl)]
 .ext;rw[Vs Rj (λf hf=>by obtain⟨t,_,rfl⟩:=X8.mp hf;unfold J3;split<;>simp) (by rw[kj];exact hp)];ext
 .rw[kj];omega
 .rw[qe,Xa];refine jt λt _=>zb (by ext) ?_;by_cases h:t=2
  .ext;simp only[gN];ext;simp only[gT];ext;simp[J3,h]
  .ext;simp only[gN];ext;simp[J3,h]
theorem j2u(m:Nat):qi ((ak m (2:Int)).map J3)=Zu m:=by
 rw[v9];induction m with
 |zero=>rfl
 |succ k ih=>rw[Pk,X4,zc,ih,Ih];simp[J3]
theorem Yw:∀l:List Int,Jo (l.map D.int)=a6
 |[]=>rfl
 |_::l=>by rw[X4,Jo,Yw l];rfl
theorem Lq(ks:List (List Int))(ns:List Int):noFn (.dct ks (ns.map D.int))=a6:=by rw[noFn,Yw]
theorem j5f(l:List Int):noFn (.tup (l.map D.int))=a6:=by rw[noFn,Yw]
theorem at0(a b:D):atI [a,b] 0=a3 a:=rfl
theorem at1(a b:D):atI [a,b] 1=a3 b:=rfl
noncomputable def jh:List Int->Int
 |[]=>0
 |d::ds=>d*3^ds.length+jh ds
theorem Z8:∀{p:List Int},(∀t∈p,0<=t/\t<3)->0<=jh p/\jh p<3^p.length
 |[],_=>⟨by decide,by decide⟩
 |d::ds,h=>by
  obtain⟨h1,h2⟩:=Z8 (p:=ds) λt ht=>h t (xf _ ht);have hd:=h d xm;have hp:(0:Int)<3^ds.length:=bV (by decide);rw[jh,xn,gw];have:d=0\/d=1\/d=2:=by omega
  rcases this with e|e|e<;>subst e<;>exact⟨by omega,by omega⟩
theorem Ru:∀{p:List Int},(∀t∈p,0<=t/\t<3)->j0 3 p.length (jh p)=p
 |[],_=>rfl
 |d::ds,h=>by have h':∀t∈ds,0<=t/\t<3:=λt ht=>h t (xf _ ht);obtain⟨h1,h2⟩:=Z8 h';have hd:=h d xm;have hp:(3:Int)^ds.length≠0:=eN (bV (by decide));rw[jh,xn,show d*3^ds.length+jh ds=jh ds+3^ds.length*d by rw[dn,gy],j0,U6 (by decide) _ _ (X3 _),Ru h'];congr 1;rw[ck _ _ hp,t8 h1 h2,Tc];omega
theorem Yr(i:Nat):∀m:Nat,jh (j0 3 m (i:Int))=((i%3^m:Nat):Int)
 |0=>by rw[Nat.pow_zero,Nat.mod_one];rfl
 |m+1=>by
  have pc:((3^m:Nat):Int)=(3:Int)^m:=by simp
  have e:((i/3^m%3:Nat):Int)=(i:Int)/3^m%3:=by rw[Int.natCast_emod,Int.natCast_ediv,pc];rfl
  rw[j0,jh,jq,Yr i m,Px,Nat.mod_mul,cC,cB,e,pc,dn,gy]
theorem Oe:∀{p:List Int}{s:Nat}{c:Int},s<p.length->jh (p.set s c)=jh p+(c-p.getD s 0)*3^(p.length-1-s)
 |d::ds,0,c,_=>by rw[T3,jh,jh,xn,dM,show ds.length+1-1-0=ds.length by omega,Int.sub_mul];omega
 |d::ds,s+1,c,h=>by have:=Oe (p:=ds) (s:=s) (c:=c) (by simpa using h);rw[Pu,jh,jh,Pz,xn,bK,this,show ds.length+1-1-(s+1)=ds.length-1-s by omega];omega
theorem Iw{m i s:Nat}{c:Nat}(hi:i<3^m)(hs:s<m)(h2:(j0 3 m (i:Int)).getD s 0=2)(hc:c=0\/c=1):(2-c)*3^(m-1-s)<=i/\(j0 3 m (i:Int)).set s (c:Int)=j0 3 m ((i-(2-c)*3^(m-1-s):Nat):Int):=by
 have hl:(j0 3 m (i:Int)).length=m:=jq 3 m _;have h3:∀t∈(j0 3 m (i:Int)).set s (c:Int),0<=t/\t<3:=(jay hl (λt ht=>Qy (by decide) ht) nofun).2;have l2:((j0 3 m (i:Int)).set s (c:Int)).length=m:=by rw[Pz];exact hl
 have v:=Oe (p:=j0 3 m (i:Int)) (c:=(c:Int)) (hl▸hs);rw[Yr,f6 hi,h2,hl]at v;obtain⟨b1,b2⟩:=Z8 h3;have d:=Ru h3;rw[l2]at d;have pc:((3^(m-1-s):Nat):Int)=(3:Int)^(m-1-s):=by simp
 have le:(2-c)*3^(m-1-s)<=i:=by
  have:(((2-c)*3^(m-1-s):Nat):Int)=(2-(c:Int))*3^(m-1-s):=by rw[cB,pc];congr 1;omega
  have e2:((c:Int)-2)*3^(m-1-s) = -((2-(c:Int))*3^(m-1-s)):=by rw[<-kL];congr 1;omega
  omega
 refine⟨le,?_⟩;rw[<-d,v];congr 1;rw[Int.natCast_sub le,cB,pc];have e2:((c:Int)-2)*3^(m-1-s) = -((2-(c:Int))*3^(m-1-s)):=by rw[<-kL];congr 1;omega
 have e3:((2-c:Nat):Int)=2-(c:Int):=by omega
 rw[e2,e3];omega
noncomputable def opB(a:List Int)(m:Nat)(p:List Int):Bool:=(stD a p m).isNon
theorem Em{a p:List Int}{m:Nat}(h01:∀x∈a,x=0\/x=1)(hp:p.length=m)(hp3:∀t∈p,0<=t/\t<3)(h:opB a m p=a6):jc p m≠[]:=λe=>by
 subst hp;have o:=Lh p;rw[e]at o;have c:=j0c (a:=a) h01 rfl hp3;rw[<-o]at c;unfold opB stD j0w at h;have c:cnt a p p.length 0+cnt a p p.length 1=1:=c;split at h
 .cases h
 .split at h
  .cases h
  .omega
noncomputable def PK(p:List Int):List (List Int):=zc (p.map J3)
theorem Wb{t:Int}{p q:List Int}:q∈PK (t::p) ↔ ∃x∈J3 t,∃r∈PK p,q=x::r:=by
 unfold PK;rw[X4,zc,iE];constructor
 .rintro⟨x,hx,h⟩;obtain⟨r,hr,e⟩:=X8.mp h;exact⟨x,hx,r,hr,e.symm⟩
 .rintro⟨x,hx,r,hr,e⟩;exact⟨x,hx,X8.mpr ⟨r,hr,e.symm⟩⟩
theorem j03{t x:Int}(h:x∈J3 t):(t=2/\(x=0\/x=1\/x=2))\/(t≠2/\x=t):=by
 unfold J3 at h;split at h
 .rename_i e;simp only[xr,eR,or_false]at h;exact .inl ⟨e,h⟩
 .rename_i e;exact .inr ⟨e,xq.mp h⟩
theorem j12:∀{p q:List Int},(∀t∈p,0<=t/\t<3)->q∈PK p->q.length=p.length/\∀t∈q,0<=t/\t<3
 |[],q,_,h=>by have e:q=[]:=xq.mp h;rw[e];exact⟨rfl,λt ht=>nomatch ht⟩
 |t::p,q,h3,h=>by
  obtain⟨x,hx,r,hr,e⟩:=Wb.mp h;obtain⟨h1,h2⟩:=j12 (λt ht=>h3 t (xf _ ht)) hr;have ht:=h3 t xm;subst e;refine⟨by rw[xn,xn,h1],λy hy=>?_⟩;rcases xr.mp hy with q|q
  .subst q;rcases j03 hx with ⟨_,z⟩|⟨_,z⟩<;>omega
  .exact h2 y q
theorem Up:∀{p:List Int},(∀t∈p,0<=t/\t<3)->(PK p).Pairwise λx y=>jh x<jh y
 |[],_=>List.pairwise_singleton _ _
 |t::p,h3=>by
  have h3':∀t∈p,0<=t/\t<3:=λt ht=>h3 t (xf _ ht);have ih:=Up h3';have bd:∀r∈PK p,0<=jh r/\jh r<3^p.length/\r.length=p.length:=λr hr=>by obtain⟨h1,h2⟩:=j12 h3' hr;obtain⟨b1,b2⟩:=Z8 h2;rw[h1]at b2;exact⟨b1,b2,h1⟩
  have one:∀c:Int,((PK p).map (c :: ·)).Pairwise λx y=>jh x<jh y:=λc=>by rw[List.pairwise_map];refine ih.imp_of_mem λ{x y} hx hy h=>?_;rw[jh,jh,(bd x hx).2.2,(bd y hy).2.2];omega
  have two:∀{c d:Int},c<d->∀x∈(PK p).map (c :: ·),∀y∈(PK p).map (d :: ·),jh x<jh y:=λ{c d} hcd x hx y hy=>by
   obtain⟨r,hr,rfl⟩:=X8.mp hx;obtain⟨r',hr',rfl⟩:=X8.mp hy;obtain⟨b1,b2,b3⟩:=bd r hr;obtain⟨d1,d2,d3⟩:=bd r' hr';show c*3^r.length+jh r<d*3^r'.length+jh r';rw[b3,d3];have:c*3^p.length+3^p.length<=d*3^p.length:=by have h:=f7 (show c+1<=d by omega) (show(0:Int)<=3^p.length by exact gx (bV (by decide)));rw[Int.add_mul,gZ]at h;exact h
   omega
  by_cases e:t=2
  .have ek:PK (t::p)=(PK p).map (0 :: ·)++((PK p).map (1 :: ·)++(PK p).map (2 :: ·)):=by unfold PK;rw[X4,zc,e];simp[J3]
   rw[ek];refine List.pairwise_append.mpr ⟨one 0,List.pairwise_append.mpr ⟨one 1,one 2,two (by decide)⟩,λx hx y hy=>?_⟩;rcases Pb.mp hy with q|q
   .exact two (by decide) x hx y q
   .exact two (by decide) x hx y q
  .have ek:PK (t::p)=(PK p).map (t :: ·):=by unfold PK;rw[X4,zc];simp[J3,e]
   rw[ek];exact one t
theorem j56{p:List Int}(h3:∀t∈p,0<=t/\t<3):(PK p).Nodup:=(Up h3).imp λh e=>by rw[e]at h;omega
theorem j57{p r:List Int}{i:Nat}(h3:∀t∈p,0<=t/\t<3)(hi:i<(PK p).length)(hr:r∈PK p)(hv:jh r<jh (PK p)[i]):r∈(PK p).take i:=by
 obtain⟨j,hj,rfl⟩:=Ph.mp hr;have hs:=List.pairwise_iff_getElem.mp (Up h3);have:j<i:=by
  rcases Nat.lt_or_ge j i with q|q
  .exact q
  .rcases Nat.eq_or_lt_of_le q with q|q
   .subst q;omega
   .have:=hs i j hi hj q;omega
 exact Ph.mpr ⟨j,by rw[Xn];omega,iv⟩
theorem K9{f:List Int->D}:∀{ks:List (List Int)} {q:List Int},q∈ks->Qd ks (ks.map f) q=a3 (f q)
 |k::ks,q,h=>by
  rw[X4,Qd];by_cases e:k=q
  .rw[if_pos e,e]
  .rw[if_neg e];exact K9 ((xr.mp h).resolve_left λz=>e z.symm)
theorem j2k:∀{p:List Int},(PK p).length<=3^p.length
 |[]=>X3 _
 |t::p=>by
  have ih:=j2k (p:=p);by_cases e:t=2
  .have ek:PK (t::p)=(PK p).map (0 :: ·)++((PK p).map (1 :: ·)++(PK p).map (2 :: ·)):=by unfold PK;rw[X4,zc,e];simp[J3]
   rw[ek,Xc,Xc,kj,kj,kj,xn,Px];omega
  .have ek:PK (t::p)=(PK p).map (t :: ·):=by unfold PK;rw[X4,zc];simp[J3,e]
   rw[ek,kj,xn,Px];omega
theorem j33{f1 f2:En->Option D}{A B C:D}{L:List (List Int)}{W:List Int->Int}{op:List Int->Bool}(hm:L.length<=1000000)(nd:L.Nodup)
  (h1:∀(q:List Int)(s5:Sv),q∈L->f1 [.val A,.val B,.val C,.un,.val (.tup (q.map D.int)),s5]=a3 (.bl (!op q)))
  (h2:∀(i:Nat)(hi:i<L.length),f2 [.val A,.val B,.val C,.val (.dct (L.take i) (((L.take i).map W).map D.int)),.val (.tup (L[i].map D.int)),.val (.bl (!op L[i]))]=a3 (.int (W L[i]))) :
  ∀(r i:Nat)(s4 s5:Sv),i+r=L.length->V7 f1 f2 3 4 5 (qe (L.drop i)) [.val A,.val B,.val C,.un,s4,s5] (L.take i) ((L.take i).map W)=a3 (L,L.map W):=by
 intro r;induction r with
 |zero =>intro i s4 s5 e;rw[Nat.add_zero]at e;rw[List.drop_of_length_le nofun,Tg nofun];rfl
 |succ r ih =>
  intro i s4 s5 e;have hi:i<L.length:=by omega
  have ed:L.drop i=L[i]::L.drop (i+1):=bJ hi;have et:L.take (i+1)=L.take i++[L[i]]:=by rw[Tq,kh hi];rfl
  have nc:(L.take i).contains L[i]=a4:=by
   have nd:=nd;rw[<-gv i L,ed]at nd;have:=(List.nodup_append.mp nd).2.2;cases z:(L.take i).contains L[i] with
   |false=>rfl
   |true=>exact absurd rfl (this _ (by simpa using z) _ xm)
  have ll:(L.take i).length<aj:=lt_size (by rw[Xn];omega);have g:=ih (i+1) (.val (.tup (L[i].map D.int))) (.val (.bl (!op L[i]))) nofun
  rw[et,Xd,X4,c9]at g;rw[ed,qe,X4,<-qe,V7];simp only[q8,Jh,T3,Pu,h1 _ _ (Xz hi),h2 i hi];rw[if_pos ⟨nc,ll⟩];exact g
theorem Ku {n m:Nat} {ws:List af} {a:List Int} (hm:1<=m/\m<=6) (hw:ws.length=m):evP 1000 G T (n+1) "all_open" [qD ws a]=.val (q8 (ak m 2)):=by
 rw[jw (F:=Yh) (by rfl) rfl];simp only[Yh,Zt,enter,qD];ext;simp only[gN];ext;rw[at0];ext;rw[hw]
 first|rfl|simp[q8]
theorem Ye {n k:Nat} (hk:k<=6):evP 1000 G T (n+1) "_law_threes" [.int k]=.val (.int ((3^k:Nat):Int)):=by
 rw[jw (F:=Uw) (by rfl) rfl];simp only[Uw,Y7,enter];ext;rw[Ri (λi=>[.val (.int k),.val (.int ((3^i:Nat):Int)),if i=0 then .un else .val (.int ((i:Int)-1))]) (by simp)]
 .ext;rw[qb];simp
 .intro i d hi;obtain⟨h1,rfl⟩:=Vf hi;simp only[Q3];ext;have e:(3:Int)*((3^i:Nat):Int)=((3^(i+1):Nat):Int):=by rw[Px,cB,dn];rfl
  rw[e];simp
theorem Ws {n m:Nat} {z:Int} (hm:m<=6):evP 1000 G T (n+1) "_law_digits" [.int m,.int z]=.fresh ((j0 3 m z).map D.int):=by
 rw[jw (F:=Uy) (by rfl) rfl];simp only[Uy,Y9,enter];ext;rw[Ri (λi=>[.val (.int m),.val (.int (z/3^i)),.own ((j0 3 i z).map .int),if i=0 then .un else .val (.int ((i:Int)-1))]) (by simp[j0])]
 .ext;rw[qb];simp
 .intro i d hi;obtain⟨h1,rfl⟩:=Vf hi;have hl:(j0 3 i z).length=i:=jq 3 i z;simp only[Q3];ext;rw[Rr z 3 (by decide),j0];simp
noncomputable def stp(m i s:Nat):D:=.tup [.int (s:Int),.int ((i:Int)-2*((3^(m-1-s):Nat):Int)),.int ((i:Int)-((3^(m-1-s):Nat):Int))]
noncomputable def opU(p:List Int)(j:Nat):List Nat:=(ar j).filter λ(k:Nat)=>decide (p.getD k 0=2)
theorem j2z{p:List Int}{j:Nat}(h:p.getD j 0=2):opU p (j+1)=opU p j++[j]:=by rw[opU,opU,cz,Th];congr 1;exact bS (decide_eq_true h)
theorem Eo{p:List Int}{j:Nat}(h:¬p.getD j 0=2):opU p (j+1)=opU p j:=by rw[opU,opU,cz,Th];have e:[j].filter (λ(k:Nat)=>decide (p.getD k 0=2))=[]:=bT (λz=>h (of_decide_eq_true z));rw[e,Xp]
theorem j8z(p:List Int)(j:Nat):(opU p j).length<=j:=Xh (Xv _ _) (by rw[Xe];exact X3 _)
theorem M6 {n m i:Nat} (hm:m<=6):evP 1000 G T (n+2) "_law_steps" [.int m,.int i]=.fresh ((jc (j0 3 m (i:Int)) m).map (stp m i)):=by
 rw[jw (F:=Ro) (by rfl) rfl];simp only[Ro,Uc,enter];ext;rw[Ws (n:=n) hm];ext;have hl:(j0 3 m (i:Int)).length=m:=jq 3 m _;refine Qk (λj ρ=>∃s4 s5,ρ=[.val (.int m),.val (.int i),.own ((j0 3 m (i:Int)).map D.int),.own ((opU (j0 3 m (i:Int)) j).map (stp m i)),s4,s5]) ⟨_,_,rfl⟩ ?_ ?_
 .rintro j d ρ hj ⟨s4,s5,rfl⟩;obtain⟨h1,rfl⟩:=Vf hj;have h1:j<m:=by omega
  have g:=j68 (p:=j0 3 m (i:Int)) (k:=j) nofun
  have ol:=j8z (j0 3 m (i:Int)) j;simp only[Q3];ext;rw[Tc,g];by_cases h2:(j0 3 m (i:Int)).getD j 0=2
  .have t:=Ye (n:=n) (k:=m-1-j) nofun
   have e:(m:Int)-1-(j:Int)=((m-1-j:Nat):Int):=by omega
   ext;rw[e,t];ext;refine⟨_,rfl,.val (.int (j:Int)),.val (.int ((3^(m-1-j):Nat):Int)),?_⟩;rw[j2z h2,Xd];rfl
  .ext;refine⟨_,rfl,.val (.int (j:Int)),s5,?_⟩;rw[Eo h2]
 .rintro ρ ⟨s4,s5,rfl⟩;ext;rw[qb];simp[opU,jc]
noncomputable def Qt(p:List Int):Nat:=p.countP λt=>t==2
noncomputable def onD(a:List Int)(m j:Nat):D:=.tup [.int (cnt a (j0 3 m (j:Int)) m 1:Nat),.int ((2^Qt (j0 3 m (j:Int)):Nat):Int)]
theorem j3o{a:List Int}{m i j:Nat}(h:j<i):atI ((ar i).map (onD a m)) (j:Int)=a3 (onD a m j):=Jf (by rw[xx,Xx h];rfl)
theorem jgx(x y z:D):atI [x,y,z] 1=a3 y:=rfl
theorem jgw(x y z:D):atI [x,y,z] 2=a3 z:=rfl
theorem je0(x:D)(l:List D):atI (x::l) 0=a3 x:=by have:=Jf (xs:=x::l) (n:=0) rfl;exact this
theorem j30 {n m:Nat} {ws:List af} {a:List Int} (hw:ws.length=m) (hm:1<=m/\m<=6) (ha:a.length=2^m) (h01:∀x∈a,x=0\/x=1):evP 1000 G T (n+3) "_law_ones" [qD ws a]=.fresh ((ar (3^m)).map (onD a m)):=by
 rw[jw (F:=Bk) (by rfl) rfl];simp only[Bk,Wj,enter,qD];ext;erw[at0,hw];rw[Ye (n:=n+1) hm.2];have p3:=j10 hm.2;ext;refine Qk (λi ρ=>∃s3 s4 s5 s6 s7 s8,ρ=[.val (.tup [.tup (ws.map D.str),.tup (a.map D.int)]),.val (.int m),.own ((ar i).map (onD a m)),s3,s4,s5,s6,s7,s8]) ⟨_,_,_,_,_,_,rfl⟩ ?_ ?_
 .rintro i d ρ hi ⟨s3,s4,s5,s6,s7,s8,rfl⟩;obtain⟨h1,rfl⟩:=Vf hi;have hi:i<3^m:=by rw[Xi]at h1;exact h1
  have hl:(j0 3 m (i:Int)).length=m:=jq 3 m _;have h3:∀t∈j0 3 m (i:Int),0<=t/\t<3:=λt ht=>Qy (by decide) ht;have ol:(jc (j0 3 m (i:Int)) m).length=Qt (j0 3 m (i:Int)):=by have:=Lh (j0 3 m (i:Int));rw[hl]at this;exact this
  have rl:(ar i).length=i:=Xe;simp only[Q3];ext;rw[Tc,M6 (n:=n) hm.2];ext;cases z:jc (j0 3 m (i:Int)) m with
  |nil =>
   rw[z]at ol;obtain⟨k,hk,ek,ik⟩:=j4q hl h3 ol.symm;have dg:=Ws (n:=n+1) (z:=(i:Int)) hm.2;ext;rw[dg];ext;have k2:(k:Int)<2^m:=by
    have:((2^m:Nat):Int)=2^m:=by simp
    rw[<-this];omega
   have z0:(k:Int)/2^m=0:=t8 nofun k2;obtain⟨ρ',el,s6',hρ⟩:=Zv (f:=Wh [6] (run 1000 (evP 1000 G T (n+2)) G (.seq (.set 5 (.bin .add (.bin .mul (.lit (.int 2)) (.var 5)) (.var 6))) .nop)))
    (λj ρ=>∃s6,ρ=[.val (.tup [.tup (ws.map D.str),.tup (a.map D.int)]),.val (.int m),.own ((ar i).map (onD a m)),.val (.int (i:Int)),.own [],.val (.int ((k:Int)/2^(m-j))),s6,s7,s8]) (k:=0) (ds:=(j0 3 m (i:Int)).map D.int)
    (ρ:=[.val (.tup [.tup (ws.map D.str),.tup (a.map D.int)]),.val (.int m),.own ((ar i).map (onD a m)),.val (.int (i:Int)),.own [],.val (.int 0),s6,s7,s8]) ⟨s6,by rw[ki,z0]⟩ (by
    rintro j d ρ hj ⟨s6,rfl⟩
    rw[T9]
    obtain⟨v,hv,rfl⟩:=U3 hj
    rw[ek]at hv
    have hlt:j<m:=by
     have:=(X7.mp hv).1
     rw[jq]at this;exact this
    rw[Qp hlt]at hv
    cases hv
    simp only[Q3]
    ext
    refine⟨_,rfl,?_⟩
    have e1:m-j=(m-1-j)+1:=by omega
    have e2:m-(j+1)=m-1-j:=by omega
    have e3:2*((k:Int)/2^(m-j))+(k:Int)/2^(m-1-j)%2=(k:Int)/2^(m-(j+1)):=by
     rw[e1,e2,<-Rr (k:Int) 2 nofun]
     exact gK _ _
    rw[e3]
    exact⟨_,rfl⟩)
   have e:(k:Int)/2^(m-(0+((j0 3 m (i:Int)).map D.int).length))=(k:Int):=by rw[kj,hl,T9,Nat.sub_self];simp
   rw[e]at hρ;subst hρ;have g:=j68 (p:=a) (k:=k) nofun
   erw[el,at1,g];refine⟨_,rfl,.val (.int (i:Int)),.own [],.val (.int (k:Int)),s6',s7,s8,?_⟩;have c1:((cnt a (j0 3 m (i:Int)) m 1:Nat):Int)=a.getD k 0:=by
    unfold cnt;rw[ik];have:a.getD k 0=0\/a.getD k 0=1:=by rw[km,kh nofun];exact h01 _ (Xz _)
    rw[Xq,List.countP_nil];rcases this with q|q<;>rw[q]<;>rfl
   have t0:Qt (j0 3 m (i:Int))=0:=ol.symm;rw[cz,Xd];show _=[_,_,Sv.own (_++[onD a m i]),_,_,_,_,_,_]
   rw[onD,c1,t0];rfl
  |cons s L =>
   have hs:s<m/\(j0 3 m (i:Int)).getD s 0=2:=by
    have:s∈jc (j0 3 m (i:Int)) m:=by rw[z];exact xm
    obtain⟨h1,h2⟩:=Xu.mp this;exact⟨Xj.mp h1,of_decide_eq_true h2⟩
   obtain⟨l0,e0⟩:=Iw (c:=0) hi hs.1 hs.2 (.inl rfl);obtain⟨l1,e1⟩:=Iw (c:=1) hi hs.1 hs.2 (.inr rfl);have w:0<3^(m-1-s):=Nat.pos_of_ne_zero (by simp);have i0:(i:Int)-2*((3^(m-1-s):Nat):Int)=((i-(2-0)*3^(m-1-s):Nat):Int):=by omega
   have i1:(i:Int)-((3^(m-1-s):Nat):Int)=((i-(2-1)*3^(m-1-s):Nat):Int):=by omega
   have g0:=j3o (a:=a) (m:=m) (i:=i) (j:=i-(2-0)*3^(m-1-s)) nofun
   have g1:=j3o (a:=a) (m:=m) (i:=i) (j:=i-(2-1)*3^(m-1-s)) nofun
   have cs:=j3x (a:=a) (v:=1) hl hs.1 hs.2;have c0:=Nu (v:=0) (by rw[hl];exact hs.1) hs.2 (.inl rfl);have c1:=Nu (v:=1) (by rw[hl];exact hs.1) hs.2 (.inr rfl);rw[show((0:Nat):Int)=0 from rfl]at e0;rw[show((1:Nat):Int)=1 from rfl]at e1;rw[e0,e1]at cs;rw[e0]at c0;rw[e1]at c1;have k1:((cnt a (j0 3 m ((i-(2-0)*3^(m-1-s):Nat):Int)) m 1:Nat):Int)+((cnt a (j0 3 m ((i-(2-1)*3^(m-1-s):Nat):Int)) m 1:Nat):Int)=((cnt a (j0 3 m (i:Int)) m 1:Nat):Int):=by omega
   have k2:((2^Qt (j0 3 m ((i-(2-0)*3^(m-1-s):Nat):Int)):Nat):Int)+((2^Qt (j0 3 m ((i-(2-1)*3^(m-1-s):Nat):Int)):Nat):Int)=((2^Qt (j0 3 m (i:Int)):Nat):Int):=by have c0:Qt (j0 3 m ((i-(2-0)*3^(m-1-s):Nat):Int))+1=Qt (j0 3 m (i:Int)):=c0;have c1:Qt (j0 3 m ((i-(2-1)*3^(m-1-s):Nat):Int))+1=Qt (j0 3 m (i:Int)):=c1;rw[show Qt (j0 3 m ((i-(2-1)*3^(m-1-s):Nat):Int))=Qt (j0 3 m ((i-(2-0)*3^(m-1-s):Nat):Int))by omega,<-c0,Px];omega
   rw[onD]at g0 g1;have er:(ar (i+1)).map (onD a m)=(ar i).map (onD a m)++[onD a m i]:=by rw[cz,Xd];rfl
   rw[er,onD,<-k1,<-k2];ext;rw[stp,je0];ext;rw[jgx];ext;rw[i0,g0];ext;erw[je0,jgw];rw[i1,g1];ext;rw[at0,at0,at1,at1];ext;exact⟨_,rfl,_,_,_,_,_,_,rfl⟩
 .rintro ρ ⟨s3,s4,s5,s6,s7,s8,rfl⟩;ext;rw[qb,Xi]
theorem Ik {n m i:Nat} {a:List Int} (h01:∀x∈a,x=0\/x=1):evP 1000 G T (n+1) "_law_is_open" [onD a m i]=.val (.bl (opB a m (j0 3 m (i:Int)))):=by
 have hl:(j0 3 m (i:Int)).length=m:=jq 3 m _;have c:=j0c (a:=a) h01 hl λt ht=>Qy (by decide) ht;have e:(decide ((0:Int)<(cnt a (j0 3 m (i:Int)) m 1:Nat))&&decide (((cnt a (j0 3 m (i:Int)) m 1:Nat):Int)<((2^Qt (j0 3 m (i:Int)):Nat):Int)))=opB a m (j0 3 m (i:Int)):=by
  have c:cnt a (j0 3 m (i:Int)) m 0+cnt a (j0 3 m (i:Int)) m 1=2^Qt (j0 3 m (i:Int)):=c;rw[<-c];unfold opB stD j0w;by_cases h1:cnt a (j0 3 m (i:Int)) m 1=0
  .rw[if_pos h1,h1];rfl
  .rw[if_neg h1,decide_eq_true nofun,fU];by_cases h0:cnt a (j0 3 m (i:Int)) m 0=0
   .rw[if_pos h0,h0,decide_eq_false nofun];rfl
   .rw[if_neg h0,decide_eq_true nofun];rfl
 rw[jw (F:=U4) (by rfl) rfl];simp only[U4,Vb,enter,onD];ext;rw[at0,at1];ext;rw[e]
theorem ja0{a:List Int}{m N:Nat}:vz ((ar N).map (onD a m))=(ar N).map λ(j:Nat)=>D.tup [.int (j:Int),onD a m j]:=by
 apply Tt;intro i;unfold vz;rw[xx,gG,xx,xx];by_cases h:i<N
 .rw[Xx h];simp
 .rw[Xw (by rw[Xe];omega)];rfl
noncomputable def rsS(k:Nat)(c:List (List Nat))(s:Nat):List (List Nat):=c++(c.filter λS=>decide (S.length<k)).map (· ++ [s])
noncomputable def rsC(k:Nat)(os:List Nat):List (List Nat):=os.foldl (rsS k) [[]]
noncomputable def rsL(k:Nat)(os:List Nat):List (List Nat):=(rsC k os).drop 1
theorem Cz{k s:Nat}{os:List Nat}:rsC k (os++[s])=rsS k (rsC k os) s:=by unfold rsC;rw[iw];rfl
theorem jb6{k s:Nat}{c:List (List Nat)}{S:List Nat}(h:S∈rsS k c s):S∈c\/∃R∈c,R.length<k/\S=R++[s]:=by
 rcases Pb.mp h with h|h
 .exact .inl h
 .obtain⟨R,hR,e⟩:=X8.mp h;obtain⟨h1,h2⟩:=Xu.mp hR;exact .inr ⟨R,h1,of_decide_eq_true h2,e.symm⟩
theorem Ef{k:Nat}:∀{os:List Nat}{c:List (List Nat)},(∃r,c=[]::r/\∀S∈r,S≠[])->∃r,os.foldl (rsS k) c=[]::r/\∀S∈r,S≠[]
 |[],c,h=>h
 |s::os,c,⟨r,e,h⟩=>by
  refine Ef (os:=os) (c:=rsS k c s) ⟨r++(c.filter λS=>decide (S.length<k)).map (· ++ [s]),by rw[e];rfl,λS hS=>?_⟩;rcases Pb.mp hS with q|q
  .exact h S q
  .obtain⟨R,_,e⟩:=X8.mp q;rw[<-e];simp
theorem j2c{k:Nat}:∀{os pre:List Nat}{c:List (List Nat)},(∀S∈c,S.Sublist pre/\S.length<=k)->∀S∈os.foldl (rsS k) c,S.Sublist (pre++os)/\S.length<=k
 |[],pre,c,h,S,hS=>by rw[Xp];exact h S hS
 |s::os,pre,c,h,S,hS=>by
  have:=j2c (os:=os) (pre:=pre++[s]) (c:=rsS k c s) (λR hR=>by
   rcases jb6 hR with q|⟨R',h1,h2,e⟩
   .exact⟨(h R q).1.trans (List.sublist_append_left ..),(h R q).2⟩
   .rw[e];exact⟨(h R' h1).1.append (cy _),by rw[Xc];exact h2⟩) S hS
  rwa [Td]at this
theorem j2d{k:Nat}:∀{os:List Nat}{c:List (List Nat)},(os.foldl (rsS k) c).length<=c.length*2^os.length
 |[],c=>by simp
 |s::os,c=>by
  have h:=j2d (k:=k) (os:=os) (c:=rsS k c s);have l:(rsS k c s).length<=c.length*2:=by unfold rsS;rw[Xc,kj];have:=Xv (λS:List Nat=>decide (S.length<k)) c;omega
  have:=gY (2^os.length) l;rw[xn,Px,cJ (2^os.length) 2,<-g6];exact Xh h this
theorem Yu{k:Nat}{os:List Nat}:rsC k os=[]::rsL k os/\∀S∈rsL k os,S≠[]:=by obtain⟨r,e,h⟩:=Ef (k:=k) (os:=os) (c:=[[]]) ⟨[],rfl,λS hS=>nomatch hS⟩;have e':rsC k os=[]::r:=e;unfold rsL;rw[e'];exact⟨rfl,h⟩
theorem La{k:Nat}{os S:List Nat}(h:S∈rsC k os):S.Sublist os/\S.length<=k :=
 j2c (k:=k) (os:=os) (pre:=[]) (c:=[[]]) (λS hS=>by rw[xq.mp hS];exact⟨cy _,bU _⟩) S h
theorem Ul{k:Nat}{os S:List Nat}(h:S∈rsL k os):S.Sublist os/\S.length<=k/\S≠[]:=by obtain⟨e,h2⟩:=Yu (k:=k) (os:=os);have:=La (show S∈rsC k os by rw[e];exact xf _ h);exact⟨this.1,this.2,h2 S h⟩
theorem j8f{k:Nat}{os:List Nat}:(rsC k os).length<=2^os.length:=by have:=j2d (k:=k) (os:=os) (c:=[[]]);rw[cj,gX]at this;exact this
theorem j2e{k:Nat}{os:List Nat}(hk:1<=k)(ho:os≠[]):rsL k os≠[]:=λz=>by
 obtain⟨e,_⟩:=Yu (k:=k) (os:=os);have grow:∀{os:List Nat}{c:List (List Nat)},c.length<=(os.foldl (rsS k) c).length:=λ{os}=>by
  induction os with
  |nil=>intro c;exact X3 _
  |cons s os ih=>intro c;exact Xh (by unfold rsS;rw[Xc];omega) (ih (c:=rsS k c s))
 cases os with
 |nil=>exact ho rfl
 |cons s os =>
  have h:=grow (os:=os) (c:=rsS k [[]] s);have l:(rsS k [[]] s).length=2:=by simp[rsS,show 0<k from hk]
  have h':2<=(rsC k (s::os)).length:=by rw[<-l];exact h
  rw[e,z]at h';simp at h'
noncomputable def seF(qs:List (List Int))(s:Nat):List (List Int):=qs.map (·.set s 0)++qs.map (·.set s 1)
noncomputable def seL(p:List Int)(S:List Nat):List (List Int):=S.foldl seF [p]
theorem j4w{p:List Int}{S:List Nat}{s:Nat}:seL p (S++[s])=seF (seL p S) s:=by unfold seL;rw[iw];rfl
def Beh(p:List Int)(S:List Nat)(q:List Int):Prop:=q.length=p.length/\∀j,j<p.length->(j∈S->q.getD j 0=0\/q.getD j 0=1)/\(j∉S->q.getD j 0=p.getD j 0)
theorem Rm{p:List Int}{s j:Nat}{c:Int}(hs:s<p.length):(p.set s c).getD j 0=if s=j then c else p.getD j 0:=by
 rw[km,cX];by_cases e:s=j
 .rw[if_pos e,if_pos e,if_pos hs];rfl
 .rw[if_neg e,if_neg e,km]
theorem j6d{p q:List Int}(hl:q.length=p.length)(h:∀j,j<p.length->q.getD j 0=p.getD j 0):q=p:=by
 refine List.ext_getElem hl λj h1 h2=>?_;have:=h j h2
 rwa [km,km,kh h1,kh h2]at this
theorem j38{n:Nat}:∀{S:List Nat}{qs:List (List Int)} {q:List Int},(∀s∈S,s<n)->(∀p∈qs,p.length=n)->(q∈S.foldl seF qs ↔ ∃p∈qs,Beh p S q)
 |[],qs,q,_,hq=>by refine⟨λh=>⟨q,h,rfl,λj _=>⟨λz=>(nomatch z),λ_=>rfl⟩⟩,λ⟨p,hp,h1,h2⟩=>?_⟩;rw[j6d h1 λj hj=>(h2 j hj).2 (λz=>nomatch z)];exact hp
 |s::S,qs,q,hS,hq=>by
  have hs:=hS s xm;rw[T7,j38 (n:=n) (S:=S) (qs:=seF qs s) (λt ht=>hS t (xf _ ht)) (λp hp=>by
   rcases Pb.mp hp with h|h<;>(obtain⟨r,hr,e⟩:=X8.mp h;rw[<-e,Pz];exact hq r hr))]
  constructor
  .rintro⟨p,hp,h1,h2⟩;have:∃r∈qs,∃c:Int,(c=0\/c=1)/\p=r.set s c:=by
    rcases Pb.mp hp with h|h<;>obtain⟨r,hr,e⟩:=X8.mp h
    .exact⟨r,hr,0,.inl rfl,e.symm⟩
    .exact⟨r,hr,1,.inr rfl,e.symm⟩
   obtain⟨r,hr,c,hc,rfl⟩:=this;rw[Pz]at h1 h2;have hl:=hq r hr;refine⟨r,hr,h1,λj hj=>⟨λhm=>?_,λhm=>?_⟩⟩
   .by_cases e:j∈S
    .exact(h2 j hj).1 e
    .have ej:j=s:=(xr.mp hm).resolve_right e;rw[(h2 j hj).2 e,Rm nofun,if_pos ej.symm];exact hc
   .rw[(h2 j hj).2 λz=>hm (xf _ z),Rm nofun,if_neg λz=>hm (by rw[z];exact xm)]
  .rintro⟨r,hr,h1,h2⟩;have hl:=hq r hr;have hc:=(h2 s nofun).1 xm;refine⟨r.set s (q.getD s 0),?_,by rw[Pz];exact h1,λj hj=>?_⟩
   .rcases hc with e|e<;>rw[e]
    .exact T5 _ (X8.mpr ⟨r,hr,rfl⟩)
    .exact Xf _ (X8.mpr ⟨r,hr,rfl⟩)
   .rw[Pz]at hj;refine⟨λhm=>(h2 j hj).1 (xf _ hm),λhm=>?_⟩;rw[Rm nofun];by_cases e:s=j
    .rw[if_pos e,e]
    .rw[if_neg e];exact(h2 j hj).2 λz=>(xr.mp z).elim (λz=>e z.symm) hm
theorem Ym{p q:List Int}{S:List Nat}(hS:∀s∈S,s<p.length):q∈seL p S↔Beh p S q:=by unfold seL;rw[j38 (n:=p.length) hS λr hr=>by rw[xq.mp hr]];exact⟨λ⟨r,hr,h⟩=>by rwa [xq.mp hr]at h,λh=>⟨p,xq.mpr rfl,h⟩⟩
theorem Cy:∀{S:List Nat}{qs:List (List Int)},qs≠[]->S.foldl seF qs≠[]
 |[],_,h=>h
 |s::S,qs,h=>Cy (S:=S) λz=>h (by unfold seF at z;exact List.map_eq_nil_iff.mp (List.append_eq_nil_iff.mp z).1)
theorem Cw:∀{S:List Nat}{qs:List (List Int)},(S.foldl seF qs).length=qs.length*2^S.length
 |[],qs=>by simp
 |s::S,qs=>by rw[T7,Cw (S:=S),seF,Xc,kj,kj,xn,Px,cJ (2^S.length) 2,<-g6];congr 1;omega
theorem Bv:∀{p q:List Int},q.length=p.length->(∀j,j<p.length->q.getD j 0<=p.getD j 0)->jh q<=jh p/\((∃j,j<p.length/\q.getD j 0<p.getD j 0)->jh q<jh p)
 |[],[],_,_=>⟨bW _,λ⟨j,h,_⟩=>absurd h (iY _)⟩
 |[],_::_,h,_=>by cases h
 |_::_,[],h,_=>by cases h
 |x::p,y::q,hl,h=>by
  have hl':q.length=p.length:=by simpa using hl
  obtain⟨i1,i2⟩:=Bv hl' λj hj=>by have:=h (j+1) (by rw[xn];omega);simpa using this
  have h0:y<=x:=by have:=h 0 (by simp);simpa using this
  have w:(0:Int)<3^p.length:=bV (by decide);have e:jh (y::q)=y*3^q.length+jh q:=rfl;have e':jh (x::p)=x*3^p.length+jh p:=rfl;rw[e,e',hl'];have hm:y*3^p.length<=x*3^p.length:=f7 h0 (gx w);refine⟨by omega,λ⟨j,hj,hlt⟩=>?_⟩;cases j with
  |zero =>
   have hlt:y<x:=by simpa using hlt
   have:=Int.mul_lt_mul_of_pos_right hlt w;omega
  |succ j =>have:=i2 ⟨j,by rw[xn]at hj;omega,by simpa using hlt⟩;omega
theorem Rb{p:List Int}{m s:Nat}(h:s∈jc p m):s<m/\p.getD s 0=2:=by obtain⟨h1,h2⟩:=Xu.mp h;exact⟨Xj.mp h1,of_decide_eq_true h2⟩
theorem Bp{p q:List Int}{S:List Nat}(h:Beh p S q)(hp3:∀t∈p,0<=t/\t<3):∀t∈q,0<=t/\t<3:=λt ht=>by
 obtain⟨j,hj,e⟩:=Ph.mp ht;have eq:q.getD j 0=t:=by rw[km,kh hj,e];rfl
 have hj':j<p.length:=by rw[<-h.1];exact hj
 rw[<-eq];by_cases z:j∈S
 .have:=(h.2 j hj').1 z;omega
 .rw[(h.2 j hj').2 z];exact hp3 _ (by rw[km,kh hj'];exact Xz hj')
theorem Wi{p q:List Int}{S:List Nat}(hne:S≠[])(hS:∀s∈S,s<p.length/\p.getD s 0=2)(h:Beh p S q):jh q<jh p:=by
 refine(Bv h.1 λj hj=>?_).2 ?_
 .by_cases z:j∈S
  .have:=(h.2 j hj).1 z;have:=(hS j z).2;omega
  .rw[(h.2 j hj).2 z];exact bW _
 .cases S with
  |nil=>exact absurd rfl hne
  |cons s S =>obtain⟨h1,h2⟩:=hS s xm;refine⟨s,h1,?_⟩;have:=(h.2 s h1).1 xm;omega
theorem j39{l l':List Int}(hl:l≠[])(h:∀x,x∈l↔x∈l'):vm l=vm l':=by
 have hl':l'≠[]:=λz=>by
  cases l with
  |nil=>exact hl rfl
  |cons x l=>have:=(h x).mp xm;rw[z]at this;cases this
 obtain⟨a1,a2⟩:=Rh hl';exact Eu ((h _).mpr a1) λx hx=>a2 x ((h x).mp hx)
noncomputable def RpF(k:Nat)(a:List Int)(m:Nat):Nat->List Int->Int
 |0,_=>0
 |f+1,p=>if opB a m p=a6 then 1+Qv ((rsL k (jc p m)).map λS=>vm ((seL p S).map (RpF k a m f)))else 0
noncomputable def Rp(k:Nat)(a:List Int)(m:Nat)(p:List Int):Int:=RpF k a m (3^m) p
theorem Vg{k m:Nat}{p:List Int}{S:List Nat}(hp:p.length=m)(h:S∈rsL k (jc p m)):∀s∈S,s<p.length/\p.getD s 0=2:=λs hs=>by rw[hp];exact Rb ((Ul h).1.subset hs)
theorem j4i{k m:Nat}{a:List Int}:∀{f f':Nat}{p:List Int},p.length=m->(∀t∈p,0<=t/\t<3)->jh p<f->f<=f'->RpF k a m f p=RpF k a m f' p
 |0,f',p,_,h3,hv,_=>by have:=(Z8 h3).1;omega
 |f+1,0,p,_,_,_,h=>by omega
 |f+1,f'+1,p,hp,h3,hv,h=>by rw[RpF,RpF];congr 3;refine Xy λS hS=>?_;congr 1;have ok:=Vg hp hS;refine Xy λq hq=>?_;have b:=(Ym λs hs=>(ok s hs).1).mp hq;have:=Wi (Ul hS).2.2 ok b;exact j4i (by rw[b.1];exact hp) (Bp b h3) nofun nofun
theorem Fj{k m:Nat}{a p:List Int}(h:opB a m p=a4):Rp k a m p=0:=by
 unfold Rp;obtain⟨f,e⟩:∃f,3^m=f+1:=⟨3^m-1,by have:0<3^m:=kK (by decide);omega⟩
 rw[e,RpF,h];rfl
theorem j0j{k m:Nat}{a p:List Int}(hp:p.length=m)(h3:∀t∈p,0<=t/\t<3)(h:opB a m p=a6):Rp k a m p=1+Qv ((rsL k (jc p m)).map λS=>vm ((seL p S).map (Rp k a m))):=by
 obtain⟨f,e⟩:∃f,3^m=f+1:=⟨3^m-1,by have:0<3^m:=kK (by decide);omega⟩
 have hb:=(Z8 h3).2;rw[hp]at hb;have hb:jh p<((3^m:Nat):Int):=by simpa using hb
 show RpF k a m (3^m) p=_;have step:RpF k a m (3^m) p=1+Qv ((rsL k (jc p m)).map λS=>vm ((seL p S).map (RpF k a m f))):=by rw[e,RpF,if_pos h]
 rw[step];congr 2;refine Xy λS hS=>?_;congr 1;have ok:=Vg hp hS;refine Xy λq hq=>?_;have b:=(Ym λs hs=>(ok s hs).1).mp hq;have:=Wi (Ul hS).2.2 ok b;exact j4i (by rw[b.1];exact hp) (Bp b h3) nofun nofun
noncomputable def spI(S:List Nat):List Int:=S.map λ(s:Nat)=>(s:Int)
theorem Et{S:List Nat}{j:Nat}:(j:Int)∈spI S↔j∈S:=by unfold spI;rw[X8];exact⟨λ⟨s,h,e⟩=>by rwa [<-Int.ofNat.inj e],λh=>⟨j,h,rfl⟩⟩
theorem j0i{i:Int}:∀{l:List Int},((l.map D.int).any λe=>deq e (.int i))=decide (i∈l)
 |[]=>by simp
 |x::l=>by
  rw[X4,d4,j0i,Kc];by_cases e:x=i
  .simp[e]
  .simp[e,cw e]
theorem j6o{i:Int}{l:List Int}:Q8 .isin (.int i) (.tup (l.map D.int))=a3 (decide (i∈l)):=by rw[<-j0i];simp[Q8,D.sqv,D.dep,Nt]
noncomputable def V1(p:List Int)(S:List Nat)(j:Nat):List Int:=if (j:Int)∈spI S then[0,1] else[p.getD j 0]
theorem Rg:∀{l:List (List Int)} {q:List Int},q∈zc l↔q.length=l.length/\∀j,j<l.length->q.getD j 0∈l.getD j []
 |[],q=>by rw[zc,xq];exact⟨λe=>by rw[e];exact⟨rfl,λj h=>absurd h (iY _)⟩,λh=>List.length_eq_zero_iff.mp h.1⟩
 |f::l,q=>by
  rw[zc,iE];constructor
  .rintro⟨x,hx,h⟩;obtain⟨r,hr,rfl⟩:=X8.mp h;obtain⟨h1,h2⟩:=Rg.mp hr;refine⟨by rw[xn,xn,h1],λj hj=>?_⟩;cases j with
   |zero=>simpa using hx
   |succ j=>have:=h2 j (by rw[xn]at hj;omega);simpa using this
  .rintro⟨h1,h2⟩;cases q with
   |nil=>cases h1
   |cons x r =>refine⟨x,by have:=h2 0 (by simp);simpa using this,X8.mpr ⟨r,Rg.mpr ⟨by simpa using h1,λj hj=>?_⟩,rfl⟩⟩;have:=h2 (j+1) (by rw[xn];omega);simpa using this
theorem Lw{p q:List Int}{S:List Nat}:q∈zc ((ar p.length).map (V1 p S))↔Beh p S q:=by
 rw[Rg,kj,Xe];refine and_congr_right λhl=>forall_congr' λj=>forall_congr' λhj=>?_;have e:((ar p.length).map (V1 p S)).getD j []=V1 p S j:=by rw[km,xx,Xx hj];rfl
 rw[e,V1];by_cases z:j∈S
 .rw[if_pos (Et.mpr z)];simp[z]
 .rw[if_neg λh=>z (Et.mp h)];simp[z]
theorem De{n:Nat}{p:List Int}{S:List Nat}{ks:List (List Int)}{ns:List Int}{R:List Int->Int}(hl:p.length<=6)(hS:∀s∈S,s<p.length)(hx:∀q,Beh p S q->Qd ks (ns.map D.int) q=a3 (.int (R q))) :
  evP 1000 G T (n+2) "greatest_behind" [.dct ks (ns.map D.int),q8 p,q8 (spI S)]=.val (.int (vm ((seL p S).map R))):=by
 rw[jw (F:=Ju) (by rfl) rfl];simp only[Ju,J0,enter,q8];ext;rw[q9 (l:=qe ((ar p.length).map (V1 p S))) (by rfl) (by unfold vz;rw[kj,cL,kj];omega) ?_ (.inl rfl)];rotate_left
 .rw[Nm,qe,Xa];refine jt λj hj=>Og (by ext) ?_;ext;rw[j6o];ext;by_cases z:(j:Int)∈spI S
  .rw[decide_eq_true z];ext;simp only[gA];ext;simp[V1,z,q8]
  .rw[decide_eq_false z];ext;simp[V1,z,q8]
 ext;rw[Vs Rj (λf hf=>by obtain⟨j,_,rfl⟩:=X8.mp hf;unfold V1;split<;>simp) (by rw[kj,Xe];exact hl),v9];ext;have ne:seL p S≠[]:=Cy (by simp);have pe:∀q,q∈zc ((ar p.length).map (V1 p S))↔q∈seL p S:=λq=>by rw[Lw,Ym hS]
 rw[q9 (l:=((zc ((ar p.length).map (V1 p S))).map R).map D.int) (by rfl) ?_ ?_ (.inr (vf _))]
 .ext;rw[j7k (λz=>?_)]
  .ext;rw[j39 (l':=(seL p S).map R) (λz=>?_) λx=>?_]
   .exact ne (List.eq_nil_iff_forall_not_mem.mpr λq hq=>by
     rw[List.map_eq_nil_iff.mp z]at pe
     exact nomatch(pe q).mpr hq)
   .rw[X8,X8];exact⟨λ⟨q,h,e⟩=>⟨q,(pe q).mp h,e⟩,λ⟨q,h,e⟩=>⟨q,(pe q).mpr h,e⟩⟩
  .exact ne (List.eq_nil_iff_forall_not_mem.mpr λq hq=>by
    rw[List.map_eq_nil_iff.mp z]at pe
    exact nomatch(pe q).mpr hq)
 .rw[qe,kj,<-v9];have h:=Wx (fs:=(ar p.length).map (V1 p S)) (k:=2) (λf hf=>by obtain⟨j,_,rfl⟩:=X8.mp hf;unfold V1;split<;>simp);rw[kj,Xe]at h;have h2:=bB (show 0<2 by decide) hl;omega
 .rw[qe,Xa];refine jt λq hq=>zb (by ext) ?_;ext;simp only[q8];rw[ja5 (hx q (Lw.mp hq))];rfl
noncomputable def spD(S:List Nat):D:=q8 (spI S)
theorem j32(l:List (List Nat)):z9 (l.map spD)=a6:=by
 have:=Wq (l.map spI)
 rwa [qe,Xa]at this
theorem Ec{S:List Nat}:(spI S).length=S.length:=kj ..
theorem Ce{S:List Nat}{s:Nat}:spI (S++[s])=spI S++[(s:Int)]:=by unfold spI;rw[Xd];rfl
theorem j5c{p:List Int}{j:Nat}(h:p.getD j 0=2):jc p (j+1)=jc p j++[j]:=j2z h
theorem j2v{p:List Int}{j:Nat}(h:¬p.getD j 0=2):jc p (j+1)=jc p j:=Eo h
theorem Zb(p:List Int)(j:Nat):(jc p j).length<=j:=Xh (Xv _ _) (by rw[Xe];exact X3 _)
theorem Yt{k m:Nat}{os:List Nat}(h:os.length<=m)(hm:m<=6):(rsC k os).length<=64:=by have h1:=j8f (k:=k) (os:=os);have h2:=bB (show 0<2 by decide) (show os.length<=6 by omega);omega
theorem Ig {n k:Nat} {p:List Int} (hl:p.length<=6):evP 1000 G T (n+1) "rounds_at" [q8 p,.int k]=.fresh ((rsL k (jc p p.length)).map spD):=by
 rw[jw (F:=Vm) (by rfl) rfl];simp only[Vm,Z2,enter,q8];ext;rw[Nm];refine Qk (λi ρ=>∃s3 s4,ρ=[.val (.tup (p.map D.int)),.val (.int k),.own ((rsC k (jc p i)).map spD),s3,s4,.un]) ⟨_,_,rfl⟩ ?_ ?_
 .rintro i d ρ hi ⟨s3,s4,rfl⟩;have hi':i<p.length:=by have:=(X7.mp hi).1;rw[kj,Xe]at this;exact this
  rw[xx,Xx hi']at hi;cases hi;have sm:=Yt (k:=k) (m:=i) (Zb p i) nofun
  simp only[Bo];ext;simp only[gN];by_cases h2:p.getD i 0=2
  .ext;rw[q9 (l:=(((rsC k (jc p i)).filter λS=>decide (S.length<k)).map (· ++ [i])).map spD) (by rfl) (by rw[kj];omega) ?_ (.inr (j32 _))];rotate_left
   .rw[Xa];refine Ug λS hS=>?_;have sl:=(La hS).1.length_le;have ol:=Zb p i;have il:=Ec (S:=S);refine Ys ?_ λhb=>?_
    .simp only[spD,q8];ext;rw[il,show cmpI .lt (S.length:Int) (k:Int)=a3 (decide (S.length<k))from by simp[cmpI]];ext
    .simp only[spD,q8];ext;simp only[cO,spD,q8,Ce,Xd];rfl
   have fl:=Xv (λS:List Nat=>decide (S.length<k)) (rsC k (jc p i));ext;exact⟨_,rfl,_,_,by rw[j5c h2,Cz,rsS,Xd]⟩
  .ext;exact⟨_,rfl,.val (.int (i:Int)),.val (.int (p.getD i 0)),by rw[j2v h2]⟩
 .rintro ρ ⟨s3,s4,rfl⟩;ext;rw[Xe,rsL,jB];congr 1;exact j3w (k:=1) (by rw[kj,(Yu (k:=k) (os:=jc p p.length)).1,xn];omega)
theorem j5k{p q:Int×List Int}:(j1e p q=a6->p.1<=q.1)/\(j1e p q=a4->q.1<=p.1):=by
 unfold j1e;split
 .rename_i e;rw[e];exact⟨λ_=>bW _,λ_=>bW _⟩
 .exact⟨λh=>by have:=of_decide_eq_true h;omega,λh=>by have:=of_decide_eq_false h;omega⟩
theorem Ob(l:List (Int×List Int)):∀k,k<l.length->aQ (Ql l) k<=k/\∀j,j<=k->(l.getD (aQ (Ql l) k) (0,[])).1<=(l.getD j (0,[])).1
 |0,_=>⟨X3 _,λj hj=>by rw[show j=0 by omega];exact bW _⟩
 |k+1,hk=>by
  obtain⟨h1,h2⟩:=Ob l k nofun
  have f:=j5k (p:=l.getD (k+1) (0,[])) (q:=l.getD (aQ (Ql l) k) (0,[]));rw[aQ];cases e:Ql l (k+1) (aQ (Ql l) k) with
  |true =>
   rw[if_pos rfl];refine⟨X3 _,λj hj=>?_⟩;have g:=f.1 e;by_cases z:j=k+1
   .rw[z];exact bW _
   .exact Int.le_trans g (h2 j nofun)
  |false =>
   rw[if_neg (by simp)];refine⟨by omega,λj hj=>?_⟩;by_cases z:j=k+1
   .rw[z];exact f.2 e
   .exact h2 j nofun
theorem j4f{n k:Nat}{p:List Int}{ks:List (List Int)}{ns:List Int}{R:List Int->Int}(hk:1<=k)(hl:p.length<=6)(ho:jc p p.length≠[])
  (hx:∀S,S∈rsL k (jc p p.length)->∀q,Beh p S q->Qd ks (ns.map D.int) q=a3 (.int (R q))) :
  ∃S∈rsL k (jc p p.length),vm ((seL p S).map R)=Qv ((rsL k (jc p p.length)).map λS=>vm ((seL p S).map R)) /\
   evP 1000 G T (n+3) "best_round" [.dct ks (ns.map D.int),q8 p,.int k]=.val (.tup [.int (vm ((seL p S).map R)),spD S]):=by
 have ne:=j2e hk ho;obtain⟨S0,rest,er⟩:∃S0 rest,rsL k (jc p p.length)=S0::rest:=by
  cases h:rsL k (jc p p.length) with
  |nil=>exact absurd h ne
  |cons x l=>exact⟨x,l,rfl⟩
 let pr:List Nat->Int×List Int:=λS=>(vm ((seL p S).map R),spI S)
 have sm:=Yt (k:=k) (Zb p p.length) hl;have ll:(rsL k (jc p p.length)).length<=64:=by unfold rsL;rw[Tf];omega
 obtain⟨b1,b2⟩:=Ob ((rsL k (jc p p.length)).map pr) rest.length (by rw[kj,er,xn];omega);have hi:aQ (Ql ((rsL k (jc p p.length)).map pr)) rest.length<(rsL k (jc p p.length)).length:=by rw[er,xn];rw[er]at b1;omega
 obtain⟨S,eS⟩:∃S,(rsL k (jc p p.length))[aQ (Ql ((rsL k (jc p p.length)).map pr)) rest.length]?=a3 S:=⟨_,kh hi⟩
 have hS:=Xo eS;have gS:((rsL k (jc p p.length)).map pr)[aQ (Ql ((rsL k (jc p p.length)).map pr)) rest.length]?=a3 (pr S):=by rw[xx,eS];rfl
 refine⟨S,hS,?_,?_⟩
 .refine(Es (X8.mpr ⟨S,hS,(rfl:(λS=>vm ((seL p S).map R)) S=vm ((seL p S).map R))⟩) λc hc=>?_).symm;obtain⟨S',hS',rfl⟩:=X8.mp hc;obtain⟨j,hj,ej⟩:=Ph.mp hS';have q:=b2 j (by rw[er,xn]at hj;omega);rw[km,gS,km,xx,kh hj,ej]at q;exact q
 .rw[jw (F:=V5) (by rfl) rfl];simp only[V5,Qi,enter];have rs:=Ig (n:=n+1) (k:=k) hl;ext;rw[rs];ext;rw[q9 (l:=((rsL k (jc p p.length)).map pr).map pairD) (by rfl) (by rw[kj];omega) ?_ (.inl rfl)];rotate_left
  .rw[Xa];refine jt λS hS=>zb (by ext) ?_;have g:=De (n:=n) (R:=R) hl (λs hs=>(Vg rfl hS s hs).1) (hx S hS);ext;simp only[spD];rw[g];ext;rfl
  ext;rw[er,X4,j93 (by rw[<-X4,<-er,kj];exact gS)];ext;rfl
theorem j5n{n k:Nat}{p:List Int}{ks:List (List Int)}{ns:List Int}{R:List Int->Int}(hk:1<=k)(hl:p.length<=6)(ho:jc p p.length≠[])
  (hx:∀S,S∈rsL k (jc p p.length)->∀q,Beh p S q->Qd ks (ns.map D.int) q=a3 (.int (R q))) :
  evP 1000 G T (n+5) (jr "round_numbers") [.int k,.dct ks (ns.map D.int),q8 p]=.lval (.int (1+Qv ((rsL k (jc p p.length)).map λS=>vm ((seL p S).map R)))):=by
 obtain⟨S,_,e0,e⟩:=j4f (n:=n+1) hk hl ho hx;rw[j9z (F:=Qm) (by rfl) rfl];simp only[Qm,Ji,enter];ext;rw[e];ext;rw[at0,e0];ext
theorem j2l:∀{p q r:List Int}{S:List Nat},q∈PK p->(∀s∈S,s<q.length/\q.getD s 0=2)->Beh q S r->r∈PK p
 |[],q,r,S,h,_,hb=>by have e:q=[]:=xq.mp h;rw[e]at hb;rw[List.length_eq_zero_iff.mp hb.1];exact xq.mpr rfl
 |t::p,q,r,S,h,hS,hb=>by
  obtain⟨x,hx,q',hq,e⟩:=Wb.mp h;subst e;cases r with
  |nil=>cases hb.1
  |cons y r =>
   have hl:r.length=q'.length:=by simpa using hb.1
   refine Wb.mpr ⟨y,?_,r,j2l (S:=(S.filter λs=>decide (0<s)).map (· - 1)) hq (λs hs=>?_) ⟨hl,λj hj=>?_⟩,rfl⟩
   .have b:=hb.2 0 (by simp);by_cases z:0∈S
    .have h2:x=2:=by simpa using(hS 0 z).2
     have hy:y=0\/y=1:=by simpa using b.1 z
     have ht:t=2:=by rcases j03 hx with ⟨z,_⟩|⟨z,w⟩<;>omega
     rw[ht];unfold J3;rw[if_pos rfl];rcases hy with e|e<;>rw[e]<;>simp
    .have hy:y=x:=by simpa using b.2 z
     rw[hy];exact hx
   .obtain⟨u,hu,rfl⟩:=X8.mp hs;obtain⟨h1,h2⟩:=Xu.mp hu;have h2:=of_decide_eq_true h2;have h3:=hS u h1;obtain⟨v,rfl⟩:∃v,u=v+1:=⟨u-1,by omega⟩
    rw[xn,bK]at h3;exact⟨by show v+1-1<_;omega,by show q'.getD (v+1-1) 0=2;rw[ir];exact h3.2⟩
   .have b:=hb.2 (j+1) (by rw[xn];omega);rw[bK,bK]at b;have e:j+1∈S↔j∈(S.filter λs=>decide (0<s)).map (· - 1):=by
     rw[X8];exact⟨λh=>⟨j+1,Xu.mpr ⟨h,decide_eq_true nofun⟩,rfl⟩,λ⟨u,hu,e⟩=>by
      obtain⟨h1,h2⟩:=Xu.mp hu
      have h2:=of_decide_eq_true h2
      have e:u-1=j:=e
      rw[show j+1=u by omega];exact h1⟩
    rw[e]at b;exact b
theorem j0m{n m k:Nat}{ws:List af}{a p:List Int}(hk:1<=k)(hw:ws.length=m)(hm:1<=m/\m<=6)(ha:a.length=2^m)(h01:∀x∈a,x=0\/x=1)(hp:p.length=m)(hp3:∀t∈p,0<=t/\t<3) :
  evP 1000 G T (n+6) "numbers_within" [q8 p,qD ws a,.fn "round_numbers" [.int k]]=.val (.dct (PK p) (((PK p).map (Rp k a m)).map D.int)):=by
 rw[jw (F:=Q7) (by rfl) rfl];simp only[Q7,J4,enter];have pk:evP 1000 G T (n+5) "parts_in" [q8 p]=.fresh (qe (PK p)):=by rw[Lg (n:=n+3) nofun,v9];rfl
 have p3:=j10 hm.2;have pl:=j2k (p:=p);rw[hp]at pl;have pok:∀q∈PK p,q.length=m/\∀t∈q,0<=t/\t<3:=λq hq=>by rw[<-hp];exact j12 hp3 hq
 have hd:=j33 (f1:=λρ=>stOf (ev (evP 1000 G T (n+5)) G (.not (.isN (.call "settled_by" (.cons (.var 1) (.cons (.var 4) .nil))))) ρ))
  (f2:=λρ=>stOf (ev (evP 1000 G T (n+5)) G (.ite (.var 5) (.lit (.int 0)) (.callV 2 (.cons (.var 3) (.cons (.var 4) .nil)))) ρ))
  (A:=q8 p) (B:=qD ws a) (C:=.fn "round_numbers" [.int k]) (L:=PK p) (W:=Rp k a m) (op:=opB a m) nofun (j56 hp3)
  (λq s5 hq=>by
   have sp:evP 1000 G T (n+5) "settled_by" [.tup [.tup (ws.map D.str),.tup (a.map D.int)],q8 q]=.val (stD a q m):=j27 (n:=n) hm ha (pok q hq).1 (pok q hq).2
   simp only[q8]at sp
   simp only[qD]
   ext
   rw[sp]
   ext
   simp only[opB])
  (λi hi=>by
   have hq:=Xz hi
   obtain⟨q1,q2⟩:=pok _ hq
   cases z:opB a m (PK p)[i] with
   |false =>
    simp only[Bool.not_false]
    ext
    rw[Fj z]
   |true =>
    simp only[Bool.not_true]
    have L:=j5n (n:=n) (k:=k) (p:=(PK p)[i]) (ks:=(PK p).take i) (ns:=((PK p).take i).map (Rp k a m)) (R:=Rp k a m) hk nofun (by rw[q1];exact Em h01 q1 q2 z) (λS hS q hb=>by
     rw[q1]at hS
     have ok:=Vg q1 hS
     rw[Xa]
     exact K9 (f:=λq=>D.int (Rp k a m q)) (j57 hp3 hi (j2l hq ok hb) (Wi (Ul hS).2.2 ok hb)))
    rw[q1,<-j0j q1 q2 z]at L
    simp only[q8]at L
    ext
    rw[j6u (by rw[Jo,Lq,Jo,j5f];rfl)]
    simp only[eT,dm]
    rw[L]
    ext)
  (PK p).length 0 .un .un (T9 _)
 have hi:ev (evP 1000 G T (n+5)) G (.seq (.call "parts_in" (.cons (.var 0) .nil))) [.val (q8 p),.val (qD ws a),.val (.fn "round_numbers" [.int k]),.un,.un,.un]=a3 (.i (qe (PK p))):=by ext;rw[pk];ext
 have ru:=j2b (fu:=1000) (Γ:=evP 1000 G T (n+5)) (G:=G) (ρ:=[.val (q8 p),.val (qD ws a),.val (.fn "round_numbers" [.int k]),.un,.un,.un]) (x:=3) (t:=4) (y:=5) ⟨by simp,by simp,by simp,by decide,by decide,by decide⟩ hi hd;exact congrArg fin ru
theorem Fx{n m k:Nat}{ws:List af}{a p:List Int}(hk:1<=k)(hw:ws.length=m)(hm:1<=m/\m<=6)(ha:a.length=2^m)(h01:∀x∈a,x=0\/x=1)(hp:p.length=m)(hp3:∀t∈p,0<=t/\t<3) :
  evP 1000 G T (n+7) "round_numbers" [q8 p,qD ws a,.int k]=.val (.dct (PK p) (((PK p).map (Rp k a m)).map D.int)):=by
 rw[jw (F:=Qo) (by rfl) rfl];simp only[Qo,Jk,enter];ext;rw[j0m (n:=n) hk hw hm ha h01 hp hp3,j8j (Lq ..)];ext
theorem gFw:G "FEWEST_AT_ONCE" = a3 (.int 1):=by rfl
theorem gMo:G "MOST_AT_ONCE" = a3 (.int 6):=by rfl
theorem j52 {n k:Nat} (hk:1<=k/\k<=6):evP 1000 G T (n+1) "refuse_wrong_round" [.int k]=.val .non:=by rw[jw (F:=J9) (by rfl) rfl];simp only[J9,zy,enter];ext;simp only[gFw];ext;simp only[gMo];ext
theorem jah(m:Nat):∀t∈ak m (2:Int),0<=t/\t<3:=λt ht=>by rw[(List.mem_replicate.mp ht).2];decide
theorem Ib{n m k:Nat}{ws:List af}{a:List Int}(hk:1<=k/\k<=6)(hw:ws.length=m)(hm:1<=m/\m<=6)(ha:a.length=2^m)(h01:∀x∈a,x=0\/x=1) :
  evP 1000 G T (n+8) "round_table" [qD ws a,.int k]=.val (.tup (((PK (ak m 2)).map (Rp k a m)).map D.int)):=by
 rw[jw (F:=Zd) (by rfl) rfl];simp only[Zd,Q5,enter];ext;erw[j52 (n:=n+6) hk,Ku (n:=n+6) hm hw,Fx (n:=n) hk.1 hw hm ha h01 (du ..) (jah m)]
noncomputable def bhD(p:List Int)(S:List Nat):D:=.tup [.lst ((spI S).map D.int),.lst (((seL p S).map jh).map D.int)]
theorem Rx{f:D->Option (Option D)}{L:List (List Int)}{u w:List Int->Int}(h:∀q∈L,f (.int (u q))=a3 (a3 (.int (w q)))):Jj f ((L.map u).map D.int)=a3 ((L.map w).map D.int):=by rw[Xa,Xa];exact jt h
theorem j7w{l l':List D}:Zz (a3 (.a [.o l,.o l']))=a3 (.v (.e (.tup [.lst l,.lst l']))):=(rfl)
theorem j7x{l:List D}{d:D}:Zz (a3 (.a [.o l,.e d]))=a3 (.v (.e (.tup [.lst l,d]))):=(rfl)
theorem jad{i j k:Nat}{f:En->So}{a b c:D}{ρ:En}:Wh [i,j,k,k] f (.tup [a,b,c]) ρ=f (((ρ.set i (.val a)).set j (.val b)).set k (.val c)):=(rfl)
theorem Ir{n m i k:Nat}(hm:1<=m/\m<=6)(hi:i<3^m) :
  evP 1000 G T (n+3) "_law_behind" [.int m,.int i,.int k]=.fresh ((rsL k (jc (j0 3 m (i:Int)) m)).map (bhD (j0 3 m (i:Int)))):=by
 have hl:(j0 3 m (i:Int)).length=m:=jq 3 m _;have hv:jh (j0 3 m (i:Int))=(i:Int):=by rw[Yr,f6 hi]
 have st:=M6 (n:=n) (i:=i) hm.2;rw[jw (F:=Uz) (by rfl) rfl];simp only[Uz,Yb,enter];ext;erw[j7w,st];generalize j0 3 m (i:Int)=p at *;have on:(jc p m).Nodup:=List.filter_sublist.nodup List.nodup_range;have ol:=Zb p m;refine Qk (λj ρ=>∃s4 s5 s6 s7 s8 s9 s10 s11,ρ=[.val (.int m),.val (.int i),.val (.int k),.own ((rsC k ((jc p m).take j)).map (bhD p)),s4,s5,s6,s7,s8,s9,s10,s11,.un]) ⟨.un,.un,.un,.un,.un,.un,.un,.un,?_⟩ ?_ ?_
 .rw[<-hv];rfl
 .rintro j d ρ hj ⟨s4,s5,s6,s7,s8,s9,s10,s11,rfl⟩;have hj':j<(jc p m).length:=by have:=(X7.mp hj).1;rw[kj]at this;exact this
  rw[xx,kh hj']at hj;cases hj;obtain⟨sm,s2⟩:=Rb (Xz hj');have tk:(jc p m).take (j+1)=(jc p m).take j++[(jc p m)[j]]:=by rw[Tq,kh hj'];rfl
  generalize es:(jc p m)[j]=s at *;have ns:s∉(jc p m).take j:=λz=>by obtain⟨x,hx,ex⟩:=Ph.mp z;rw[Xn]at hx;rw[iv,<-es]at ex;have:=(iF on).mp ex;omega
  have hos:∀t∈(jc p m).take j,t<m:=λt ht=>(Rb (gE ht)).1;have tl:((jc p m).take j).length<=m:=by rw[Xn];omega
  generalize (jc p m).take j=os at *;have rl:=Yt (k:=k) tl hm.2;have p3:=Ye (n:=n+1) (k:=m-1-s) nofun
  simp only[jad,stp];ext;rw[show((m:Int)-1-(s:Int))=((m-1-s:Nat):Int)by omega,p3];ext;refine N5 (λt ρ=>∃s9 s10 s11,ρ=[.val (.int m),.val (.int i),.val (.int k),.val (.lst ((rsC k os).map (bhD p))),.val (.int s),.val (.int (i-2*((3^(m-1-s):Nat):Int))),.val (.int (i-((3^(m-1-s):Nat):Int))),.val (.int ((3^(m-1-s):Nat):Int)),
   .own (((((rsC k os).take t).filter λS=>decide (S.length<k)).map (· ++ [s])).map (bhD p)),s9,s10,s11,.un]) ⟨_,_,_,rfl⟩ ?_ ?_
  .rintro t d ρ ht ⟨s9,s10,s11,rfl⟩;have ht':t<(rsC k os).length:=by have:=(X7.mp ht).1;rw[kj]at this;exact this
   rw[xx,kh ht']at ht;cases ht;have hS:=Xz ht';have tk':(rsC k os).take (t+1)=(rsC k os).take t++[(rsC k os)[t]]:=by rw[Tq,kh ht'];rfl
   rw[tk',Th,Xd,Xd];have fl:=Xv (λS:List Nat=>decide (S.length<k)) ((rsC k os).take t);rw[Xn]at fl;generalize (rsC k os)[t]=S at *;obtain⟨su,_⟩:=La hS;have sl:=su.length_le;have il:=Ec (S:=S);have ql:(seL p S).length<=64:=by have e:=Cw (S:=S) (qs:=[p]);rw[cj,gX]at e;have h2:=bB (show 0<2 by decide) (show S.length<=6 by omega);rw[seL,e];exact h2
   have hb:∀q∈seL p S,q.length=m/\q.getD s 0=2:=λq hq=>by have b:=(Ym λt ht=>by rw[hl];exact(hos t (su.subset ht))).mp hq;exact⟨by rw[b.1,hl],by rw[(b.2 s nofun).2 λz=>ns (su.subset z),s2]⟩
   simp only[Bo,bhD];ext;by_cases z:S.length<k
   .have pc:((3^(m-1-s):Nat):Int)=(3:Int)^(m-1-s):=by simp
    have v3:∀(c:Int),∀q∈seL p S,jh (q.set s c)=jh q+(c-2)*((3^(m-1-s):Nat):Int):=λc q hq=>by obtain⟨h1,h2⟩:=hb q hq;rw[Oe nofun,h2,h1,pc]
    clear pc;generalize ((3^(m-1-s):Nat):Int)=w at *;have e:(seL p (S++[s])).map jh=(seL p S).map (λq=>jh q-2*w)++(seL p S).map (λq=>jh q-w):=by
     rw[j4w,seF,Xd,Xa,Xa];have g0:(seL p S).map (jh ∘ λx=>x.set s 0)=(seL p S).map (λq=>jh q-2*w):=Xy λq hq=>(v3 0 q hq).trans nofun
     have g1:(seL p S).map (jh ∘ λx=>x.set s 1)=(seL p S).map (λq=>jh q-w):=Xy λq hq=>(v3 1 q hq).trans nofun
     rw[g0,g1]
    ext;rw[q9 (l:=((seL p S).map (λq=>jh q-2*w)).map D.int) (by rfl) (by rw[kj,kj];omega) ?_ (.inl rfl)];rotate_left
    .refine Rx λq hq=>zb (by ext) ?_;ext
    rw[q9 (l:=((seL p S).map (λq=>jh q-w)).map D.int) (by rfl) (by rw[kj,kj];omega) ?_ (.inl rfl)];rotate_left
    .refine Rx λq hq=>zb (by ext) ?_;ext
    ext;rw[j7x];ext;refine⟨_,rfl,.val (.lst ((spI S).map D.int)),.val (.lst (((seL p S).map jh).map D.int)),.val (.lst (((seL p (S++[s])).map jh).map D.int)),?_⟩;rw[bS (by simpa using z)];simp only[iR,c9,X4,bhD,e,Ce,Xd]
   .ext;exact⟨_,rfl,.val (.lst ((spI S).map D.int)),.val (.lst (((seL p S).map jh).map D.int)),s11,by rw[bT (by simpa using z)];simp only[iR,c9,Xp]⟩
  .rintro ρ ⟨s9,s10,s11,rfl⟩;rw[kj,bF];have fl:=Xv (λS:List Nat=>decide (S.length<k)) (rsC k os);ext;exact⟨_,rfl,_,_,_,_,_,_,_,_,by rw[tk,Cz,rsS,Xd]⟩
 .rintro ρ ⟨s4,s5,s6,s7,s8,s9,s10,s11,rfl⟩;ext;rw[bF,rsL,jB];refine congrArg Rc.fresh ?_;exact j3w (k:=1) (by rw[kj,(Yu (k:=k) (os:=jc p m)).1,xn];omega)
noncomputable def Qu(k:Nat)(a:List Int)(m i:Nat):List Int:=(ar i).map λ(j:Nat)=>Rp k a m (j0 3 m (j:Int))
theorem Dw{k m i:Nat}{a:List Int}:(Qu k a m i).length=i:=by unfold Qu;rw[kj,Xe]
theorem Bw{k m i:Nat}{a:List Int}:Qu k a m (i+1)=Qu k a m i++[Rp k a m (j0 3 m (i:Int))]:=by unfold Qu;rw[cz,Xd];rfl
theorem jgo{k m i:Nat}{a q:List Int}(hq:q.length=m)(h3:∀t∈q,0<=t/\t<3)(hv:jh q<i):atI ((Qu k a m i).map D.int) (jh q)=a3 (.int (Rp k a m q)):=by
 have hb:=(Z8 h3).1;have e:jh q=((jh q).toNat:Int):=by omega
 rw[e];refine Jf ?_;rw[xx,Qu,xx,Xx nofun];show a3 (D.int (Rp k a m (j0 3 m ((jh q).toNat:Int))))=_;rw[<-e,<-hq,Ru h3]
theorem j81{k m:Nat}{a:List Int}:(PK (ak m 2)).map (Rp k a m)=Qu k a m (3^m):=by
 have e:PK (ak m 2)=Zu m:=by rw[<-j2u,v9];rfl
 rw[e,Zu,Qu,Xa];rfl
theorem Be{n m k:Nat}{ws:List af}{a:List Int}(hk:1<=k)(hw:ws.length=m)(hm:1<=m/\m<=6)(ha:a.length=2^m)(h01:∀x∈a,x=0\/x=1) :
  evP 1000 G T (n+4) "_law_rounds" [qD ws a,.int k]=.fresh ((Qu k a m (3^m)).map D.int):=by
 rw[jw (F:=Ux) (by rfl) rfl];simp only[Ux,Y8,enter];erw[show qD ws a=.tup [.tup (ws.map D.str),.tup (a.map D.int)]from rfl,at0];rw[hw];have on:=j30 (n:=n) hw hm ha h01;simp only[qD]at on;ext;rw[on];ext;rw[ja0];have p3:=j10 hm.2;refine Qk (λi ρ=>∃s4 s5 s6 s7,ρ=[.val (.tup [.tup (ws.map D.str),.tup (a.map D.int)]),.val (.int k),.val (.int m),.own ((Qu k a m i).map D.int),s4,s5,s6,s7,.un,.un,.un]) ⟨.un,.un,.un,.un,rfl⟩ ?_ ?_
 .rintro i d ρ hi ⟨s4,s5,s6,s7,rfl⟩;have hi':i<3^m:=by have:=(X7.mp hi).1;rw[kj,Xe]at this;exact this
  rw[xx,Xx hi']at hi;cases hi;have hl:(j0 3 m (i:Int)).length=m:=jq 3 m _;have hd:∀t∈j0 3 m (i:Int),0<=t/\t<3:=λt ht=>Qy (by decide) ht;have hv:jh (j0 3 m (i:Int))=(i:Int):=by rw[Yr,f6 hi']
  have tl:=Dw (k:=k) (m:=m) (i:=i) (a:=a);have io:=Ik (n:=n+2) (m:=m) (i:=i) h01;have bs:=Ir (n:=n) (k:=k) hm hi';simp only[Bo];ext;rw[io];cases z:opB a m (j0 3 m (i:Int)) with
  |false =>ext;refine⟨_,rfl,.val (.int (i:Int)),.val (onD a m i),.val (.int 0),s7,?_⟩;rw[Bw,Fj z,Xd];rfl
  |true =>
   have ne:=j2e hk (Em h01 hl hd z);have ro:=j0j (k:=k) hl hd z;have rl:=Yt (k:=k) (Zb (j0 3 m (i:Int)) m) hm.2;have ll:(rsL k (jc (j0 3 m (i:Int)) m)).length<=64:=by unfold rsL;rw[Tf];omega
   ext;rw[bs];ext;rw[q9 (l:=((rsL k (jc (j0 3 m (i:Int)) m)).map λS=>vm ((seL (j0 3 m (i:Int)) S).map (Rp k a m))).map D.int) (by rfl) (by rw[kj];omega) ?_ (.inr (vf _))];rotate_left
   .rw[Xa];refine jt λS hS=>?_;have ok:=Vg hl hS;obtain⟨so,sk,sn⟩:=Ul hS;have ol:=Zb (j0 3 m (i:Int)) m;have sl:=so.length_le;have ql:(seL (j0 3 m (i:Int)) S).length<=64:=by have e:=Cw (S:=S) (qs:=[j0 3 m (i:Int)]);rw[cj,gX]at e;have h2:=bB (show 0<2 by decide) (show S.length<=6 by omega);rw[seL,e];exact h2
    rw[bhD];refine Og (by ext) ?_;ext;rw[q9 (l:=((seL (j0 3 m (i:Int)) S).map (Rp k a m)).map D.int) (by rfl) (by rw[kj,kj];omega) (Rx λq hq=>zb (by ext) ?_) (.inl rfl)]
    .ext;rw[j7k λz=>(show seL (j0 3 m (i:Int)) S≠[]from Cy (by simp)) (List.map_eq_nil_iff.mp z)];rfl
    .have b:=(Ym λs hs=>(ok s hs).1).mp hq;have g:=jgo (k:=k) (a:=a) (i:=i) (by rw[b.1,hl]) (Bp b hd) (by rw[<-hv];exact Wi sn ok b);ext;rw[g];rfl
   ext;rw[jez (by simpa using ne)];ext;refine⟨_,rfl,.val (.int (i:Int)),.val (onD a m i),.val (.int (Rp k a m (j0 3 m (i:Int)))),.own ((rsL k (jc (j0 3 m (i:Int)) m)).map (bhD (j0 3 m (i:Int)))),?_⟩;rw[Bw,Xd,ro];rfl
 .rintro ρ ⟨s4,s5,s6,s7,rfl⟩;ext;rw[Xe]
theorem j0h(c:Int):∃k:Nat,(1<=k/\k<=6)/\1+c%6=(k:Int) :=
 ⟨(1+c%6).toNat,by have h1:=Py c (show(6:Int)≠0 by decide);have h2:=Ti c (show(0:Int)<6 by decide);omega⟩
noncomputable def depth:Nat:=11
theorem lawTrue:∀ns:List Int,ns.length<=63->evP 1000 G T (depth+1) "law" [.lst (ns.map D.int)]=.val (.bl a6):=by
 intro ns hns;rw[jw (F:=j1l) (by rfl) rfl];simp only[j1l,j1w,enter,depth];obtain⟨most,hmost,gm⟩:=j5g (qg ns 39);have mo:1<=most/\most<=6:=by omega
 have hm:=Bb (ns:=ns) (a:=0) (most:=most) mo;have qs:evP 1000 G T 11 "_law_question" [.lst (ns.map D.int),.int 0,.int most]=_:=Fy (fu:=1000) (n:=9) (G:=G) j1j jcu jcv j3m (ns:=ns) (a:=0) (most:=most) (by decide) mo;have a01:=jag (fu:=1000) (n:=9) (G:=G) jcv (ns:=ns) (a:=0) (most:=most) mo;obtain⟨m,em⟩:∃m:Nat,m=V8 ns 0 most:=⟨_,rfl⟩
 have al:(Vu 1000 G T 9 ns 0 most).length=2^m:=by simp[Vu,<-em]
 have wl:=Ue (qg ns (0+1)) m;rw[<-em]at hm qs;generalize Vu 1000 G T 9 ns 0 most=a at *;generalize J6 (qg ns (0+1)) m=ws at *;have hm6:1<=m/\m<=6:=by omega
 have c39:evP 1000 G T 11 "_law_cell" [.lst (ns.map D.int),.int 39]=.val (.int (qg ns 39)):=Zw j1j (k:=39) nofun
 have c3:evP 1000 G T 11 "_law_cell" [.lst (ns.map D.int),.int 3]=.val (.int (qg ns 3)):=Zw j1j (k:=3) nofun
 generalize qg ns 3=c at *;obtain⟨k,hk,ek⟩:=j0h c;obtain⟨k',hk',ek'⟩:=j0h (c/6);have lw:=λ(k:Nat) (hk:1<=k/\k<=6)=>Be (n:=7) (k:=k) hk.1 wl hm6 al a01;have rt:=λ(k:Nat) (hk:1<=k/\k<=6)=>Ib (n:=3) (k:=k) hk wl hm6 al a01;have p3:=j10 hm6.2;have sm:∀k:Nat,evP 1000 G T 11 "_law_same" [.tup ((Qu k a m (3^m)).map D.int),.tup ((Qu k a m (3^m)).map D.int)]=.val (.bl a6):=λk=>j2a jfh 1 (n:=9) (by simp only[D.dep];have:=Nt (Qu k a m (3^m));omega) (j3b (by rw[Dw];omega));simp only[j81]at rt;simp only[qD]at lw rt;ext;erw[c39,gm,qs,c3];rw[ek,lw k hk];ext;erw[rt k hk,sm];rw[ek',rt k' hk',lw k' hk'];ext;erw[sm,rt k hk,sm]
end K40
end
open PySem PySem.W PyProof.Rows
local macro_rules | `(tactic| walk_at "lf") => `(tactic| (refine' L2.lf_mk ?a ?l ?c ?k; (case a => k_is); (case l => k_is); (case c => k_is); (case k => k_is)))
set_option Elab.async false
namespace PySem.W.Fast
def tw15900921834221738874:=0
def tw13029943026765557294:=0
def tw10647993328776731240:=0
def tw11019359534904941477:=0
def tw11924897331907542164:=0
def tw14963844039606814861:=0
def tw11510736417478554957:=0
def tw16861064051305268650:=0
def tw5344053524216220458:=0
def tw10038089505377122225:=0
def tw15902669785564087674:=0
def tw14939872282446480727:=0
def tw9821000319327566494:=0
def tw15362191694370316296:=0
def tw7618592701622815493:=0
def tw9811573446422051520:=0
def tw11284659770114220195:=0
def tw14310863086786015254:=0
def tw3850449316667002668:=0
def tw2820571542177240003:=0
def tw10509285567147368132:=0
def tw10287396253267948672:=0
def tw7989924042185968239:=0
def tw18434093254894927152:=0
def tw13412914666895064108:=0
def tw8686327528722898571:=0
def tw13693999985531965249:=0
def tw13848879232446647101:=0
def tw4082467540325413664:=0
def tw3312855836357830136:=0
def tw59855732785956710:=0
def tw5059805878469566097:=0
def tw13483432685317819183:=0
def tw9193729908938924943:=0
def tw7391279441777585190:=0
def tw10456931333650004514:=0
def tw1094659550908704052:=0
def tw4648919282865875014:=0
def tw630692831237063243:=0
def tw6255480007414536436:=0
def tw1770869415576165008:=0
def tw13373927391193905016:=0
def tw7141472129865120923:=0
def tw7489199599522153597:=0
def tw11494071956503326873:=0
def tw11931633812449556987:=0
def tw3415146031881108822:=0
def tw12516535345568706154:=0
def tw7511989839412096263:=0
def tw6184420538994479746:=0
def tw10914625160439949408:=0
def tw16713386411152070687:=0
def tw7617818000818120646:=0
def tw5268845385793047265:=0
def tw1820638751915675981:=0
def tw13426080749552133669:=0
def tw12192564322759461047:=0
def tw14168208842641674555:=0
def tw8165306323327072240:=0
def tw10511172218125668450:=0
def tw11056837538450211896:=0
def tw1894736936368592030:=0
def tw14437808542585050171:=0
def tw4222253362075127780:=0
def tw15735464504897055851:=0
def tw8269205492531704178:=0
def tw2943331472252986287:=0
def tw16825585954943319979:=0
def tw6930580129381667729:=0
end PySem.W.Fast
set_option maxRecDepth 100000 in
set_option maxHeartbeats 0 in
theorem PySem.Challenge.cw_leastasks_k40_round_table_cells_holds : PySem.Challenge.rw_leastasks_k40_round_table_cells.Holds := by
  w_on; o_law; k_head; (case hw => w_witness2)
  k_fill
  refine L2.walkL (l := PySem.Challenge.rw_leastasks_k40_round_table_cells) (k := L2.lv (K40.depth + 1)) (x := "_law_script") (by decide) rfl rfl (fun w h Y => ⟨PySem.W.km_in_of Y, PySem.W.km_tabs_of Y⟩) ?tz ?F
  case tz => intro w; kernel_rfl
  case F =>
    intro w mg fa h KX Gn hmg tz
    refine' K40.head KX Gn hmg ?h0 ?h1 ?h2 ?h3 ?h4 ?h5 ?h6 ?h7 ?h8 ?h9 ?h10 ?h11 ?h12 ?h13 ?h14 ?h15 ?h16 ?h17 ?h18 ?h19 ?h20 ?h21 ?h22 ?h23 ?h24 ?h25 ?h26 ?h27 ?h28 ?bz tz ?ga0l ?gn0 ?gn1 ?ga4l ?gn2 ?gn3 ?gn4 ?exa K40.lawTrue
    (case h0 => walk_at "lf")
    (case h1 => walk_at "lf")
    (case h2 => walk_at "lf")
    (case h3 => walk_at "lf")
    (case h4 => walk_at "lf")
    (case h5 => walk_at "lf")
    (case h6 => walk_at "lf")
    (case h7 => walk_at "lf")
    (case h8 => walk_at "lf")
    (case h9 => walk_at "lf")
    (case h10 => walk_at "lf")
    (case h11 => walk_at "lf")
    (case h12 => walk_at "lf")
    (case h13 => walk_at "lf")
    (case h14 => walk_at "lf")
    (case h15 => walk_at "lf")
    (case h16 => walk_at "lf")
    (case h17 => walk_at "lf")
    (case h18 => walk_at "lf")
    (case h19 => walk_at "lf")
    (case h20 => walk_at "lf")
    (case h21 => walk_at "lf")
    (case h22 => walk_at "lf")
    (case h23 => walk_at "lf")
    (case h24 => walk_at "lf")
    (case h25 => walk_at "lf")
    (case h26 => walk_at "lf")
    (case h27 => walk_at "lf")
    (case h28 => walk_at "lf")
    (case gn0 => k_is)
    (case gn1 => k_is)
    (case gn2 => k_is)
    (case gn3 => k_is)
    (case gn4 => k_is)
    (case ga4l => k_is)
    (case ga0l => k_is)
    (case bz => kernel_rfl)
    (case exa => kernel_rfl)
#print axioms PySem.Challenge.cw_leastasks_k40_round_table_cells_holds