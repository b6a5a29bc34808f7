import PyProof.Rows.All
import Wide.All
import OpenK.AllK
import Wide.FinOn
import Lean
import PyProof.EqAt
import PyProof.EqKinds
import PyProof.TupleCall
import PyProof.Rows.SetFrom
import KE.KDictList
import KE.KMinKey
import PyProof.ListRange
import KE.KIntText
import KE.KRevIter
import PyProof.TupleOfGen
import PyProof.StrBlockL
import PyProof.Rows.StrSplitCount
import PySem.Challenge.RW_leastasks_k19_plans_written_and_read
set_option Elab.async false
set_option linter.all false
set_option maxRecDepth 100000
set_option maxHeartbeats 4000000
set_option genSizeOf false
set_option genInjectivity false
open Option renaming some→ae,none→ah,getD_some→cV,isSome_some→dD,map_some→eC,join_some→gp,getD_none→gq,bind→ie
open Bool renaming false→af,true→ag,or_eq_true→bX,eq_iff_iff→cB,not_eq_true'→cT,or_false→fi,false_and→i0,and_false→i3,false_or→ik,and_true→il
open PySem renaming starEach→ai,Value→aj,Addr→ak,Str→ao,Shared→aq,Expr→ar,mainGlobals→au,sizeLine→aw,Program→ay,wpAny_bind→az,model→aB,wpAny→aC,World→aE,Around→aF,wpAny_pure→aG,eval→aH,reprText→aI,Heap→aK,FuncData→aL,behindInMarks→aN,Stmt→aP,Pos→aQ,swapsWith→aR,cellsFrom→aU,backTo→aV,foldedSetIterable→aW,bootBuiltins→aY,binaryOp→aZ,compareOp→b0,wpAny_mono→b9,wpAny_Call_Name_kw→ba,cLine→bb,Scope→bh,NameKind→bp,JoinOk→bq,attributeBase→bu,recursionLimit→bD,codeAny_mono→bH,sizeLine_eq→bK,wpAny_truthy_bool→bN,keywordEach→bS,call_meets→bU,Keyword→bW,intText?→c7,bindArgs→c8,codeAny→c9,wpAny_newObj_type→cj,Obj→cy,typeIs_str→cD,sliceBounds→cE,boot_len→cF,Env→cG,wpAny_passesOwn→cN,builtinsNs→cZ,backToKw→d4,wpAny_pyIter_list→d8,isTrue→dz,letOwnedTupleGo→dB,intItems→dM,Result→dN,IsPart→dO,GenState→dP,holding→dS,wpAny_call→eF,typeIs_int→eG,wpAny_loadPart_at→eM,standAt→eN,concat_meets→eO,callerA→eQ,BindsTo→eR,noteFrame→eV,noFill_tuple_add→eW,PassesOwn→eX,wpAny_field→fc,numAt→fe,CmpOp→ff,wpAny_execs_nil→fj,Within→fk,Builtin→fx,wpAny_newFunctionEnv_cells→fG,newFunctionEnv→fH,assign→fJ,wpAny_binaryOp_repeat_ref→fS,wpAny_standAt→fX,wpAny_comprehension_free→fY,seq_tuple_add→fZ,call→g6,pushCells→gf,getMethod→gh,bindL→gi,bindC→gj,Model→gk,Arguments→gn,seqSlot_of→gy,getItem→gz,wpAny_isTrue_Compare1→gJ,codeAny_call_function→gK,lookup_relabel_local→gT,intItems_at→gU,codeAny_call_builtin→gW,Operator→gX,wpAny_pyIter_tuple→i7,wpAny_Name→i8,truthy→i9,sysModules→ia,Tok→ib,wpAny_assign_Name→iv,call_sum_walkAnyS→iw,argBest→iz,again→iA,Sem→iB,wpAny_execs_cons→iO,setFlight→iP,rule→iQ,checkBuiltinCall→iR,DictEntry→iS,pushCells_keeps→jE,wpAny_loadPart→jL,wpAny_Compare1→jM,pyIter→jN,Params→jO,wpAny_holding→jR,intBits_le_64→jS,evalPart_none→jT,call_list_seq→jU
open List renaming replicate→ax,range→aS,map_nil→bO,filterMap_cons→bR,set_cons_zero→bZ,foldl→cf,any_cons→cq,lookup→cw,of_mem_zip→cz,foldl_cons→cA,set_cons_succ→cI,getElem?_append_right→cJ,drop_zero→cK,length_range→cS,take_of_length_le→de,range_succ_eq_map→df,nil_append→dj,length_filter_le→dm,map_id→dq,getElem?_set_ne→dt,map_congr_left→dE,map_replicate→dJ,getElem?_set→dU,nodup_nil→eS,drop_eq_getElem_cons→eY,sum_cons→fg,all_cons→fh,mem_singleton_self→fm,getElem?_cons_succ→fq,filter_cons_of_pos→ft,filter_cons_of_neg→fv,length_pos_of_mem→fy,getElem?_set_self→fB,all_map→fC,singleton_append→fO,length_replicate→fP,contains_iff_mem→fQ,length→fU,getElem?_mapIdx→fV,mem_map_of_mem→g9,drop_succ_cons→gb,foldl_toArray→gr,filter_append→gu,take_sublist→gC,reverse_cons→gD,isEmpty_cons→gE,ext_getElem?→gG,any_eq_false→gH,take_length→gN,isEmpty_nil→gO,any_toArray→gP,map→hW,map_take→ig,map_drop→ij
open PySem.Txt renaming split→aA,join→bF,slice→bJ,mul→gw
open Option.some renaming inj→aD
open PySem.Value renaming ref→aJ,str→b7,int→bj,none→br,bool→bB,builtin→cQ,type→d5,float→iq,bytes→ir
open PySem.Builtin.Str renaming strSliceIndices→aM,tooLong→aX,occurrences→bo,strKind→cb,glued→f9,partsBetween→jK
open False renaming elim→aO
open PySem.Str renaming ofString→aT,empty→cH,cps→gI,join→i4,length→jJ
open Or renaming inl→b8,inr→cu
open PySem.NameKind renaming free→bc,cell→bC
open PyProof.Rows renaming envOfC→bg,AllBare→d9,boot_isinstance→dC,cnt_cons→fK,subscriptTail_builtinR→gA,IntsAre→gB,FormattedValue_plain→gY,slot_tuple_getitem→ic,formatField_str→jF,slicePart_none→jP,IsTup→jQ,subscriptTail→jV,Constant_none→jW
open PySem.Builtin.Slice renaming slicePlaces→bE,sliceAdjust→cg,sliceApplied→dG,slicePartIndex→iM,sliceFields→iN
open PySem.Builtin.Tuple renaming tupleExact→bG,tupleTooMany→dF,tupleItemsOf→iL
open Nat renaming pow_le_pow_right→bM,not_lt_zero→bY,lt_succ_self→cn,zero_le→cW,ne_of_gt→dh,le_of_lt→di,lt_succ_of_lt→eB,zero_add→fM,mul_comm→fN,min_eq_left→hR,min_self→iT,le_of_eq→iU,log2_lt→jG
open ForInStep renaming yield→bP
open Array renaming toList_append→bQ,length_toList→cC,append_inj_right→d7,toList→ip
open PySem.F renaming slot_str_split→bV,args_tuple_add_2→cM,entry_tuple_add→cR,slot_tuple_add→cX,plainAttrs_str→cY,slot_int_rmul→dn,args_str_split_2→dZ,excBase_ValueError→eD,entry_str_split→eE,type_str_split→eU,slot_list_append→fE,typeOf_object_class→gc,slot_str_join→gd,args_tuple_mul_2→gS,entry_tuple_mul→gZ,args_int_rmul_2→hJ,slot_tuple_mul→i5,entry_int_rmul→i6,fills_int_mul→iu
open PySem.Builtin.List renaming listTooLong→cx
open PySem.W renaming mg_of→cL,OpenLaw→cU,nsIn→dw,findIn→fD,WalkO→fW,looks_findIn→gv,KitX→gR,Frag→jI
open Int renaming emod_lt_of_pos→cO,natCast_nonneg→dQ,fdiv_eq_ediv_of_nonneg→eZ,zero_add→fR,emod_two_eq→hZ,le_refl→jH
open Classical renaming propDecidable→cP
open PySem.SeqAt renaming EqAt→d6,RcAt→eJ
open List.cons renaming inj→dk
open PySem.PassesOwn renaming leaving→dy
open Ne renaming symm→dH
open PySem.Heap renaming SameBut→dR
open Sum renaming inr→dW,inl→dX
open PySem.W.Looks renaming ld→dY,here→iC
open PySem.Calls renaming Name_function_global→eK,evalArgs_plain→fF
open PySem.Around renaming under→fb,frames_deeper→fw
open PySem.EqMixed renaming ne_str_int→iD,ne_str_bool→iE,ne_int_str→iF,ne_bool_str→iG,eq_str_int→iH,eq_str_bool→iI,eq_int_str→iJ,eq_bool_str→iK
open PySem.EqNone renaming ne_str_none→iV,ne_none_str→iW,ne_none_none→iX,ne_none_int→iY,ne_none_bool→iZ,ne_int_none→j1,ne_bool_none→j2,eq_str_none→j3,eq_none_str→ja,eq_none_none→jv,eq_none_int→jA,eq_none_bool→jB,eq_int_none→jC,eq_bool_none→jD
def kh:=@List.getElem?_eq_getElem
def kj:=@List.mem_cons_of_mem
def km:=@List.mem_cons
def xf:=@List.getD_eq_getElem?_getD
def xg:=@List.mem_cons_self
def xj:=@List.length_map
def xm:=@List.mem_singleton
def xn:=@List.length_cons
def xq:=@PySem.Heap.lt_size
def xu:=@PySem.Heap.get?_push_of_some
def xx:=@Bool.false_ne_true
def X3:=@List.size_toArray
def X4:=@Nat.le_refl
def X5:=@List.map_cons
def X6:=@Bool.and_eq_true
def X7:=@List.length_append
def X8:=@Nat.le_trans
def Xa:=@Nat.lt_of_lt_of_le
def Xb:=@List.lookup_cons
def Xc:=@Nat.ne_of_lt
def Xd:=@List.mem_append_right
def Xe:=@PySem.Heap.get?_push_size
def Xf:=@List.length_drop
def Xg:=@Option.isSome_iff_exists
def Xh:=@List.length_take
def Xi:=@List.getElem?_map
def Xj:=@List.map_map
def Xk:=@List.append_nil
def Xl:=@List.nodup_cons
def Xm:=@List.map_append
def Xn:=@List.getElem?_eq_some_iff
def Xo:=@List.all_eq_true
def Xp:=@List.mem_append
def Xq:=@List.mem_of_getElem?
def Xr:=@List.mem_map
def Xu:=@List.mem_append_left
def Xv:=@Nat.lt_trans
def Xw:=@List.mem_of_mem_take
def Xx:=@List.mem_of_mem_drop
def Xy:=@PySem.mem_of_lookup
def Xz:=@Int.toNat_natCast
def ph:=@List.append_assoc
def pq:=@Nat.lt_irrefl
def P0:=@List.mem_filter
def Pa:=@List.mem_range
def Pb:=@Nat.le_succ
def Pg:=@List.getElem?_append_left
def Ph:=@List.mem_filterMap
def Pj:=@List.getElem_mem
def Pk:=@List.length_nil
def Pn:=@List.replicate_succ
def Pq:=@Option.map_eq_some_iff
def Pr:=@List.cons_append
def Pu:=@List.not_mem_nil
def Py:=@PySem.PassesOwn.never
def Pz:=@List.nodup_append
def tu:=@PySem.W.hideAll_none
def T3:=@PySem.Heap.size_push
def T4:=@List.mem_replicate
def T5:=@Bool.false_eq_true
def T6:=@Nat.lt_of_le_of_lt
def T7:=@List.getElem?_eq_none
def T8:=@Int.emod_nonneg
def Tc:=@List.flatten_cons
def Td:=@Nat.lt_of_succ_le
def k5j:=@And.intro
abbrev k5k:=jI
abbrev k5l:=aj→aq→Prop
abbrev k5m:=List (ak×cy)
abbrev k5n:=ao→Option aj
abbrev k5o:=("__debug__":ao)
abbrev k5p:=("__classdict__":ao)
local macro_rules | `(tactic| omega)=>`(tactic| first | with_reducible assumption | with_reducible exact Nat.le_of_lt (by assumption) | with_reducible exact Nat.le_refl _ | lia)
local macro_rules | `(nofun)=>`(by omega)
section
namespace L2
open PySem PySem.Spec PyProof.Rows
noncomputable abbrev Key:=Sum Int ao
noncomputable def j7w:Key->aj->Bool
 |.inl k,v=>Value.isInt k v
 |.inr x,v=>Value.isStrOf x v
noncomputable def jim(w:aE):Key->Int
 |.inl k=>hashInt k
 |.inr x=>hashStr w x
theorem zy:∀{k:Key}{v:aj},j7w k v=ag->(∃i t,k=dX i/\v=bj i t)\/(∃x t,k=dW x/\v=b7 x t)
 |.inl i,v,h=>by obtain⟨t,e⟩:=Value.isInt_shape (k:=i) (v:=v) h;exact .inl ⟨i,t,rfl,e⟩
 |.inr x,v,h=>by obtain⟨t,e⟩:=Value.isStrOf_shape (x:=x) (v:=v) h;exact .inr ⟨x,t,rfl,e⟩
theorem jd8(a b:Int):decide ((dX a:Key)=dX b)=(a==b):=by
 by_cases e:a=b
 .subst e;simp
 .have h:¬(dX a:Key)=dX b:=λq=>e (Sum.inl.inj q);rw[decide_eq_false h];exact(beq_eq_false_iff_ne.mpr e).symm
theorem jd5(a b:ao):decide ((dW a:Key)=dW b)=decide (a=b):=by
 by_cases e:a=b
 .subst e;simp
 .have h:¬(dW a:Key)=dW b:=λq=>e (Sum.inr.inj q);rw[decide_eq_false h,decide_eq_false e]
theorem jd7(a:Int)(b:ao):decide ((dX a:Key)=dW b)=af:=decide_eq_false (λq=>nomatch q)
theorem jd6(a:ao)(b:Int):decide ((dW a:Key)=dX b)=af:=decide_eq_false (λq=>nomatch q)
noncomputable def Ea(prog:ay)(w:aE):PySem.KeyKind prog w Key where
 is:=j7w
 hash:=jim w
 inj:=λv a b ha hb=>by
  rcases zy ha with ⟨i,t,rfl,rfl⟩|⟨x,t,rfl,rfl⟩
  .rcases zy hb with ⟨j,u,rfl,e⟩|⟨y,u,rfl,e⟩
   .injection e with e1 _;rw[e1]
   .exact nomatch e
  .rcases zy hb with ⟨j,u,rfl,e⟩|⟨y,u,rfl,e⟩
   .exact nomatch e
   .injection e with e1 _;rw[e1]
 byValue:=λk v h=>by rcases zy h with ⟨i,t,rfl,rfl⟩|⟨x,t,rfl,rfl⟩<;>rfl
 pyHash:=λhv h=>by
  rcases zy hv with ⟨i,t,rfl,rfl⟩|⟨x,t,rfl,rfl⟩
  .exact wpAny_pyHash_int h
  .exact wpAny_pyHash_str h
 eqBool:=λhu hv h=>by
  rcases zy hu with ⟨i,t,rfl,rfl⟩|⟨x,t,rfl,rfl⟩
  .rcases zy hv with ⟨j,u,rfl,rfl⟩|⟨y,u,rfl,rfl⟩
   .rw[jd8]at h;exact wpAny_eqBool_int h
   .rw[jd7]at h;exact SeqAt.EqAt.int_str i t y u _ _ _ _ h
  .rcases zy hv with ⟨j,u,rfl,rfl⟩|⟨y,u,rfl,rfl⟩
   .rw[jd6]at h;exact SeqAt.EqAt.str_int x t j u _ _ _ _ h
   .rw[jd5]at h;exact wpAny_eqBool_str h
 «strs»:=λk x t v h=>by
  rcases zy h with ⟨i,u,rfl,e⟩|⟨y,u,rfl,e⟩
  .exact nomatch e
  .injection e with e1 _;subst e1;cases v<;>rfl
set_option genInjectivity true in
inductive V where
 |non|bl (b:Bool)|int (i:Int)|str (x:ao)|byt (b:Array UInt8)|flt (b:UInt64)|ref (a:ak)|ty (n:String)
 deriving DecidableEq
def RelV:V->aj->Prop
 |.non,u=>u=br
 |.bl b,u=>u=bB b
 |.int i,u=>∃t,u=bj i t
 |.str x,u=>∃t,u=b7 x t
 |.byt b,u=>∃t,u=ir b t
 |.flt b,u=>∃t,u=iq b t
 |.ref a,u=>u=aJ a
 |.ty n,u=>u=d5 n
abbrev Vals:List V->List aj->Prop:=Paired RelV
theorem Vals.length{xs:List V}{us:List aj}(r:Vals xs us):xs.length=us.length:=Paired.length r
theorem Vals.get:∀{xs:List V}{us:List aj}{i:Nat}{x:V},Vals xs us->xs[i]?=ae x->∃u,us[i]?=ae u/\RelV x u
 |_,_,_,_,.nil,e=>by simp at e
 |_,_,0,_,.cons r _,e=>by simp at e;subst e;exact⟨_,rfl,r⟩
 |_,_,i+1,x,.cons _ t,e=>by obtain⟨u,h1,h2⟩:=Vals.get (i:=i) (x:=x) t (by simpa using e);exact⟨u,by simpa using h1,h2⟩
theorem Vals.append:∀{xs ys:List V}{us ws:List aj},Vals xs us->Vals ys ws->Vals (xs++ys) (us++ws)
 |_,_,_,_,.nil,s=>s
 |_,_,_,_,.cons r t,s=>.cons r (Vals.append t s)
theorem Vals.take:∀{xs:List V}{us:List aj}(n:Nat),Vals xs us->Vals (xs.take n) (us.take n)
 |_,_,0,_=>.nil
 |_,_,_+1,.nil=>.nil
 |_,_,n+1,.cons r t=>.cons r (Vals.take n t)
theorem Vals.drop:∀{xs:List V}{us:List aj}(n:Nat),Vals xs us->Vals (xs.drop n) (us.drop n)
 |_,_,0,r=>r
 |_,_,_+1,.nil=>.nil
 |_,_,n+1,.cons _ t=>Vals.drop n t
def Vw:Option V->Option aj->Prop
 |some v,ae u=>RelV v u
 |none,ah=>True
 |_,_=>False
def KV{κ:Type}:List (κ×V)->List (κ×aj)->Prop:=Paired λ(p:κ×V) (q:κ×aj)=>p.1=q.1/\RelV p.2 q.2
noncomputable def kV:Key->V
 |.inl i=>.int i
 |.inr x=>.str x
inductive HO where
 |lst (xs:List V)
 |tup (xs:List V)
 |dK (kvs:List (Key×V))|dT (kvs:List (List Key×V))
 |dI (xs:List (List Int×ak×aj)) (ep:Nat)
 |set (S:Int->Bool) (n:Nat)
 |ins (C dx:ak) (fs:List (ao×V))
 |own (x:ak)
 |xd (fs:List (ao×V))
 |met (f x:ak)
 |rng (lo hi:Int)
 |frz (o:cy) (u:HO)
 |tbl (ps:Array aj)
 |cod (q:ao)
 |ext (φ:aK->Prop)
noncomputable abbrev Hp:=ak->Option HO
noncomputable def upd(H:Hp)(a:ak)(o:HO):Hp:=λb=>if b=a then ae o else H b
theorem jm{H:Hp}{a:ak}{o:HO}:upd H a o a=ae o:=by unfold upd;rw[if_pos rfl]
theorem jc{H:Hp}{a b:ak}{o:HO}(h:b≠a):upd H a o b=H b:=by unfold upd;rw[if_neg h]
theorem qx{H:Hp}{a b:ak}{o:HO}(h:H a=ae o)(h':H b=ah):a≠b:=by intro e;subst e;rw[h]at h';cases h'
def U8(h:aK)(a:ak):Prop:=∀o,h.get? a=ae o->o.dict=ah
theorem U8.new(h:aK)(xs:Array aj):U8 (h.push { cls:=.type "tuple",data:=.seq xs }) h.objs.size:=λo e=>by have z:(h.push { cls:=.type "tuple",data:=.seq xs }).get? h.objs.size=ae { cls:=.type "tuple",data:=.seq xs }:=Xe _ rfl;rw[z]at e;cases e;rfl
def j1m(o:cy)(q:ao):Prop:=∃(vs:Array aj)(t:ib),o.data=.fields vs/\vs[1]?=ae (.str q t)
section
variable(P:ay)(w:aE)
def jl(H:Hp)(h:aK)(a:ak):HO->Prop
 |.lst xs=>xs.length<=aw/\∃(its:List aj)(n:Nat),Vals xs its/\h.get? a=ae { cls:=.type "list",data:=.seq its.toArray n }
 |.tup xs=>xs.length<=aw/\∃its:List aj,Vals xs its/\jQ h a its.toArray/\U8 h a
 |.dK kvs=>kvs.length<=aw/\(a==ia)=af/\∃vs,KV kvs vs/\h.DictOf (Ea P w) a vs
 |.dT kvs=>kvs.length<=aw/\(a==ia)=af/\∃xs:List (List Key×ak×aj),
   Paired (λ(p:List Key×V) (q:List Key×ak×aj)=>p.1=q.1/\H q.2.1=ae (.tup (p.1.map kV))/\RelV p.2 q.2.2) kvs xs /\
   ∃o es ep,h.get? a=ae o/\o.ExactDict/\o.data=.dict es ep/\es.toList=xs.map (entryOfKey (tupleKind (Ea P w)))/\(xs.map (·.1)).Nodup
 |.dI xs ep=>xs.length<=aw/\(a==ia)=af/\(xs.map λx=>x.1).Nodup/\∃(o:cy)(es:Array iS),h.get? a=ae o/\o.ExactDict/\o.data=.dict es ep/\es.toList=xs.map (entryOfKey (tupleKind (intKind P w)))
 |.set S n=>h.SetOf (intKind P w) a S n
 |.ins C dx fs=>H dx=ae (.own a)/\fs.length<=1000/\dx≠a/\h.get? a=ae (W.instObj C dx) /\
   ∃mA,h.Ns1 dx mA/\(∀f,Vw (fs.lookup f) (mA f))/\fk mA (fs.map (·.1))
 |.own _=>∃o,h.get? a=ae o
 |.xd fs=>∃mA,h.Ns1 a mA/\∀f,Vw (fs.lookup f) (mA f)
 |.rng lo hi=>∃t u v,h.get? a=ae { cls:=.type "range",data:=.fields #[.int lo t,.int hi u,.int 1 v] }
 |.frz o u=>h.get? a=ae o/\jl H h a u
 |.tbl ps=>h.get? a=ae { cls:=.none,data:=.fields ps }
 |.cod q=>∃ps:Array aj,h.get? a=ae (W.tabObj ps)/\TriplesOk ps.toList/\∀pos cv,codeAmong pos ps.toList=ae cv->∃(c:ak)(oc:cy),cv=.ref c/\H c=ae (.frz oc (.own 0))/\j1m oc q
 |.met f x=>h.get? a=ae (W.methodObj (.ref f) (.ref x))
 |.ext φ=>φ h/\(∃o,h.get? a=ae o)/\∀h1 h2:aK,φ h1->(∀o,h1.get? a=ae o->h2.get? a=ae o)->φ h2
def HOk(H:Hp)(h:aK):Prop:=∀a o,H a=ae o->jl P w H h a o
end
section
variable{P:ay}{w:aE}{H H':Hp}{h h':aK}{a:ak}{o:HO}
theorem jl.lt(x:jl P w H h a o):a<h.objs.size:=by
 cases o with
 |lst xs=>obtain⟨_,_,_,_,e⟩:=x;exact xq e
 |tup xs=>obtain⟨_,_,_,p,_⟩:=x;exact p.lt
 |dK kvs=>obtain⟨_,_,_,_,o,_,_,e,_⟩:=x;exact xq e
 |dT kvs=>obtain⟨_,_,_,_,o,_,_,e,_⟩:=x;exact xq e
 |dI xs ep=>obtain⟨_,_,_,o,_,e,_⟩:=x;exact xq e
 |set S n=>obtain⟨o,_,_,_,e,_⟩:=x;exact xq e
 |ins C dx fs=>obtain⟨_,_,_,e,_⟩:=x;exact xq e
 |own y=>obtain⟨_,e⟩:=x;exact xq e
 |xd fs=>obtain⟨_,⟨_,_,_,e,_⟩,_⟩:=x;exact xq e
 |rng lo hi=>obtain⟨_,_,_,e⟩:=x;exact xq e
 |frz ob u=>obtain⟨e,_⟩:=x;exact xq e
 |tbl ps=>exact xq (show h.get? a=ae _ from x)
 |cod q=>obtain⟨_,e,_⟩:=x;exact xq e
 |met f y=>exact xq (show h.get? a=ae _ from x)
 |ext φ=>obtain⟨_,⟨_,e⟩,_⟩:=x;exact xq e
theorem Paired.mapP{α β:Type}{F G:α->β->Prop}:∀{l₁:List α}{l₂:List β},Paired F l₁ l₂->(∀a b,F a b->G a b)->Paired G l₁ l₂
 |_,_,.nil,_=>.nil
 |_,_,.cons r t,f=>.cons (f _ _ r) (Paired.mapP t f)
theorem jl.stay(x:jl P w H h a o)(k:∀b u,(b=a\/H b=ae (.own a))->h.get? b=ae u->h'.get? b=ae u)
  (ho:∀b,H b=ae (.own a)->H' b=ae (.own a)) (ht:∀b xs,H b=ae (.tup xs)->H' b=ae (.tup xs)) (hz:∀b o,(∃vs,o.data=.fields vs)->H b=ae (.frz o (.own 0))->H' b=ae (.frz o (.own 0))):jl P w H' h' a o:=by
 induction o with
 |lst xs=>obtain⟨z,its,n,r,e⟩:=x;exact⟨z,its,n,r,k _ _ (.inl rfl) e⟩
 |tup xs =>obtain⟨z,its,r,⟨ob,e,c⟩,nd⟩:=x;refine⟨z,its,r,⟨ob,k _ _ (.inl rfl) e,c⟩,λo q=>?_⟩;rw[k _ _ (.inl rfl) e]at q;cases q;exact nd _ e
 |dK kvs=>obtain⟨z,y,vs,r,ob,es,ep,e,c⟩:=x;exact⟨z,y,vs,r,ob,es,ep,k _ _ (.inl rfl) e,c⟩
 |dT kvs =>obtain⟨z,y,xs,r,ob,es,ep,e,c⟩:=x;exact⟨z,y,xs,Paired.mapP r λp q z=>⟨z.1,ht _ _ z.2.1,z.2.2⟩,ob,es,ep,k _ _ (.inl rfl) e,c⟩
 |dI xs ep=>obtain⟨z,y,nd,ob,es,e,c⟩:=x;exact⟨z,y,nd,ob,es,k _ _ (.inl rfl) e,c⟩
 |set S n=>obtain⟨ob,es,ep,t,e,c⟩:=x;exact⟨ob,es,ep,t,k _ _ (.inl rfl) e,c⟩
 |ins C dx fs =>obtain⟨d,z,ne,e,mA,⟨od,es,ep,e2,c⟩,r⟩:=x;exact⟨ho _ d,z,ne,k _ _ (.inl rfl) e,mA,⟨od,es,ep,k _ _ (.inr d) e2,c⟩,r⟩
 |own y=>obtain⟨ob,e⟩:=x;exact⟨ob,k _ _ (.inl rfl) e⟩
 |xd fs=>obtain⟨mA,⟨od,es,ep,e,c⟩,r⟩:=x;exact⟨mA,⟨od,es,ep,k _ _ (.inl rfl) e,c⟩,r⟩
 |rng lo hi=>obtain⟨t,u,v,e⟩:=x;exact⟨t,u,v,k _ _ (.inl rfl) e⟩
 |frz ob u ih=>obtain⟨e,q⟩:=x;exact⟨k _ _ (.inl rfl) e,ih q⟩
 |tbl ps =>have e:h.get? a=ae { cls:=.none,data:=.fields ps }:=x;show h'.get? a=ae { cls:=.none,data:=.fields ps };exact k a _ (.inl rfl) e
 |cod q=>obtain⟨ps,e,t,c⟩:=x;exact⟨ps,k _ _ (.inl rfl) e,t,λpos cv z=>let ⟨c,oc,e1,e2,e3⟩:=c pos cv z;⟨c,oc,e1,hz _ _ (let ⟨vs,_,z,_⟩:=e3;⟨vs,z⟩) e2,e3⟩⟩
 |met f y =>have e:h.get? a=ae (W.methodObj (.ref f) (.ref y)):=x;show h'.get? a=ae (W.methodObj (.ref f) (.ref y));exact k a _ (.inl rfl) e
 |ext φ=>obtain⟨p,⟨o,e⟩,st⟩:=x;exact⟨st _ _ p λo q=>k _ _ (.inl rfl) q,⟨o,k _ _ (.inl rfl) e⟩,st⟩
theorem HOk.lt(x:HOk P w H h)(e:H a=ae o):a<h.objs.size:=(x a o e).lt
theorem HOk.fresh(x:HOk P w H h)(e:h.objs.size<=a):H a=ah:=by
 cases q:H a with
 |none=>rfl
 |some u=>exact absurd (Xa (x.lt q) e) (pq _)
theorem HOk.kept(x:HOk P w H h)(k:∀b u,h.get? b=ae u->h'.get? b=ae u):HOk P w H h':=λa o e =>(x a o e).stay (λb u _ q=>k b u q) (λ_ q=>q) (λ_ _ q=>q) λ_ _ _ q=>q
theorem HOk.laid(x:HOk P w H h)(k:∀b u,h.get? b=ae u->h'.get? b=ae u)(hp:h.objs.size<=a)(new:jl P w (upd H a o) h' a o):HOk P w (upd H a o) h':=λb u e=>by
 have hn:=x.fresh hp;by_cases hb:b=a
 .subst hb;rw[jm]at e;cases e;exact new
 .rw[jc hb]at e;exact(x b u e).stay (λc v _ q=>k c v q) (λc q=>by rw[jc (qx q hn)];exact q) (λc xs q=>by rw[jc (qx q hn)];exact q) λc _ _ q=>by rw[jc (qx q hn)];exact q
end
def Rd(H:Hp)(a:ak)(u:HO):Prop:=H a=ae u\/∃o,H a=ae (.frz o u)
theorem Rd.ok{P:ay}{w:aE}{H:Hp}{h:aK}{a:ak}{u:HO}(r:Rd H a u)(x:HOk P w H h):jl P w H h a u:=by
 rcases r with r|⟨o,r⟩
 .exact x a u r
 .obtain⟨_,q⟩:=x a _ r;exact q
def Mut:Option HO->Prop
 |some (.lst _)=>True
 |some (.dK _)=>True
 |some (.dT _)=>True
 |some (.dI _ _)=>True
 |some (.set _ _)=>True
 |some (.ins _ _ _)=>True
 |some (.ext _)=>True
 |some (.cod _)=>True
 |_=>False
section
variable{P:ay}{w:aE}{H:Hp}{h h':aK}{x e:ak}{o':HO}
theorem HOk.write(ok:HOk P w H h)(mu:Mut (H x))(he:e=x\/H e=ae (.own x))(k:∀b u,b≠e->h.get? b=ae u->h'.get? b=ae u)(heo:∃u,h'.get? e=ae u)
  (new:jl P w (upd H x o') h' x o'):HOk P w (upd H x o') h':=λb u q=>by
 have nown:∀c y,H c=ae (.own y)->c≠x:=λc y r z=>by subst z;rw[r]at mu;exact mu
 have ntup:∀c xs,H c=ae (.tup xs)->c≠x:=λc xs r z=>by subst z;rw[r]at mu;exact mu
 have nfrz:∀c o u,H c=ae (.frz o u)->c≠x:=λc o u r z=>by subst z;rw[r]at mu;exact mu
 by_cases hb:b=x
 .subst hb;rw[jm]at q;cases q;exact new
 .rw[jc hb]at q;by_cases hbe:b=e
  .have q':H b=ae (.own x):=by
    rcases he with z|z
    .exact absurd (hbe.trans z) hb
    .rw[hbe];exact z
   rw[q]at q';cases q';obtain⟨v,hv⟩:=heo;exact⟨v,by rw[hbe];exact hv⟩
  .refine(ok b u q).stay (λc v hc r=>k c v ?_ r) (λc r=>by rw[jc (nown c b r)];exact r) (λc xs r=>by rw[jc (ntup c xs r)];exact r) λc o _ r=>by rw[jc (nfrz c o _ r)];exact r
   rcases hc with rfl|hc
   .exact hbe
   .rintro rfl;rcases he with z|z
    .exact nown c b hc z
    .rw[hc]at z;cases z;exact hb rfl
end
structure Un(fs ex:List ak)(H H':Hp)(h h':aK):Prop where
 keep:∀b o,h.get? b=ae o->H b=ah->b∉fs->b∉ex->h'.get? b=ae o
 slot:∀b o,h.get? b=ae o->H b=ah->b∈fs->b∉ex->∃sl,h'.get? b=ae { o with slots:=sl }
 free:∀b o,h.get? b=ae o->H b=ah->b∉ex->H' b=ah
 there:∀b o,h.get? b=ae o->b∉ex->∃o',h'.get? b=ae o'
 tups:∀b xs,H b=ae (.tup xs)->H' b=ae (.tup xs)
 frzs:∀b o u,H b=ae (.frz o u)->H' b=ae (.frz o u)
 tbls:∀b ps,H b=ae (.tbl ps)->∃more,H' b=ae (.tbl (ps++more))
section
variable{fs fs' ex ex':List ak}{H H1 H2:Hp}{h h1 h2 h':aK}{a x e:ak}{o:HO}
theorem Un.any(u:Un fs ex H H1 h h1){b:ak}{ob:cy}(q:h.get? b=ae ob)(n:H b=ah)(hx:b∉ex):∃sl,h1.get? b=ae { ob with slots:=sl }:=by
 by_cases hb:b∈fs
 .exact u.slot b ob q n hb hx
 .exact⟨ob.slots,u.keep b ob q n hb hx⟩
theorem Un.kept(k:∀b u,h.get? b=ae u->h'.get? b=ae u):Un fs ex H H h h' :=
 ⟨λb ob q _ _ _=>k b ob q,λb ob q _ _ _=>⟨ob.slots,k b ob q⟩,λ_ _ _ n _=>n,λb ob q _=>⟨ob,k b ob q⟩,λ_ _ q=>q,λ_ _ _ q=>q,λ_ ps q=>⟨#[],by rw[q];simp⟩⟩
theorem Un.refl:Un fs ex H H h h:=Un.kept λ_ _ q=>q
theorem Un.laid(k:∀b u,h.get? b=ae u->h'.get? b=ae u)(hp:h.objs.size<=a)(hn:H a=ah):Un fs ex H (upd H a o) h h' where
 keep:=λb u q _ _ _=>k b u q
 slot:=λb u q _ _ _=>⟨u.slots,k b u q⟩
 free:=λb u q n _=>by rw[jc (Xc (Xa (xq q) hp))];exact n
 there:=λb u q _=>⟨u,k b u q⟩
 tups:=λb xs q=>by rw[jc (qx q hn)];exact q
 frzs:=λb u xs q=>by rw[jc (qx q hn)];exact q
 tbls:=λb ps q=>⟨#[],by rw[jc (qx q hn),q];simp⟩
theorem Un.write(mu:Mut (H x))(he:e=x\/H e=ae (.own x))(k:∀b u,b≠e->h.get? b=ae u->h'.get? b=ae u)(heo:∃u,h'.get? e=ae u):Un fs ex H (upd H x o) h h':=by
 have hx:∀b,H b=ah->b≠x:=λb n z=>by subst z;rw[n]at mu;exact mu
 have hb:∀b,H b=ah->b≠e:=λb n z=>by
  subst z;rcases he with r|r
  .exact hx b n r
  .rw[n]at r;cases r
 have hm:∀b u,H b=ae u->¬Mut (ae u)->b≠x:=λb u q nm z=>by subst z;rw[q]at mu;exact nm mu
 refine⟨λb u q n _ _=>k b u (hb b n) q,λb u q n _ _=>⟨u.slots,k b u (hb b n) q⟩,λb u q n _=>by rw[jc (hx b n)];exact n,λb u q _=>?_,
  λb xs q=>by rw[jc (hm b _ q λz=>z)];exact q,λb u xs q=>by rw[jc (hm b _ q λz=>z)];exact q,λb ps q=>⟨#[],by rw[jc (hm b _ q λz=>z),q];simp⟩⟩
 by_cases hbe:b=e
 .subst hbe;exact heo
 .exact⟨u,k b u hbe q⟩
end
noncomputable def trk(h:aK)(H:Hp):List ak:=(aS h.objs.size).filter λa=>(H a).isSome
noncomputable def Ys(h:aK)(H:Hp):aK:=W.hideAll h (trk h H)
theorem j38(h:aK)(H:Hp):(Ys h H).objs.size=h.objs.size:=W.hideAll_size _ _
theorem j6g{h:aK}{H:Hp}{b:ak}{o:cy}(e:h.get? b=ae o)(n:H b=ah):(Ys h H).get? b=ae o :=
 W.hideAll_get _ e λhm=>by have q:(H b).isSome=ag:=(P0.mp hm).2;rw[n]at q;simp at q
theorem j9e{h:aK}{H:Hp}{b:ak}{o:cy}(e:(Ys h H).get? b=ae o):h.get? b=ae o/\H b=ah:=by
 have e':h.get? b=ae o:=W.of_hideAll (trk h H) e;refine⟨e',?_⟩;cases q:H b with
 |none=>rfl
 |some x =>have hm:b∈trk h H:=P0.mpr ⟨Pa.mpr (xq e'),by simp[q]⟩;have z:(Ys h H).get? b=ah:=tu (trk h H) hm;rw[z]at e;cases e
noncomputable def jav(g h:aK)(L:ak):List (ak×cy):=(aS h.objs.size).filterMap λa=>if a=L\/(g.get? a).isSome=ag then ah else(h.get? a).map λo=>(a,o)
noncomputable def rest(g h:aK)(L d:ak):List (ak×cy):=(jav g h L).filter λp=>decide (p.1≠d)
structure Mod(K:k5k)(mg:k5n)(base:aK):Prop where
 kin:K.In base
 glob:base.Ns au mg
 blt:∃mb,base.Ns cZ mb/\∀x:ao,x ≠ "__name__"->mb x=aY x
 nolimit:base.NoLimit
 bm:∃bm ob,mg "__builtins__" = ae (.ref bm)/\bm≠cZ/\base.get? bm=ae ob/\ob.cls=.type "module"/\ob.dict=ae cZ/\ob.data=.plain
structure Cx where
 prog:ay
 w:aE
 K:k5k
 mg:ao->Option aj
 base:aK
 A:aF
 N:List ao
 s₀:aq
 H₀:Hp
 env:cG
 outer:List cG
 stack:List cG
 ex:List ak
 fn:ao->Bool
 calm:Bool
 pn:List (ak×cy)
 xe:aj->aq->Prop
noncomputable def frs(l:List cG):List ak:=l.filterMap (·.frame)
noncomputable abbrev Cx.fs(X:Cx):List ak:=frs X.outer
def Vis(sc:bh)(x:ao):Prop:=sc.names.lookup x=ae .local\/sc.names.lookup x=ae .cell\/sc.names.lookup x=ae .free
def Loc(sc:bh)(x:ao):Prop:=sc.names.lookup x=ae .local\/sc.names.lookup x=ae .cell
def Look(env:cG)(h:aK)(m:k5n)(x:ao)(u:aj):Prop :=
 (env.kindOf x=ae .local/\m x=ae u)\/((env.kindOf x=ae .cell\/env.kindOf x=ae .free)/\∃c,env.cells.lookup x=ae c/\h.IsCell c (ae u))
structure Cx.Ok(X:Cx):Prop where
 mod:Mod X.K X.mg X.base
 kind:X.env.scope.kind=.function
 glob:X.env.globals=au
 blt:X.env.builtins=cZ
 above:X.s₀.heap.objs.size<=X.env.locals
 inj:∀x y c,X.env.cells.lookup x=ae c->X.env.cells.lookup y=ae c->x=y
 has:∀x,(X.env.kindOf x=ae .cell\/X.env.kindOf x=ae .free)->∃c,X.env.cells.lookup x=ae c
 cab:∀x c,X.fn x=ag->X.env.cells.lookup x=ae c->X.s₀.heap.objs.size<=c
 hd:X.calm=ag->X.A.handled=ah
 frames:X.A.frames=ae X.stack
 stk:X.stack=X.outer\/(X.stack=X.env::X.outer/\X.env.frame=ae X.env.locals)
 exf:∀b∈X.ex,b≠X.env.locals/\∀x c,X.env.cells.lookup x=ae c->c≠b
 bs:∀b o,X.base.get? b=ae o->X.s₀.heap.get? b=ae o/\X.H₀ b=ah
 bsz:X.base.objs.size<=X.s₀.heap.objs.size
 noex:∀b o,X.base.get? b=ae o->b∉X.ex
 exfs:∀b∈X.ex,b∉X.fs
 funs:X.s₀.heap.FunFrames X.base X.outer
 frf:∀b∈X.fs,X.H₀ b=ah
structure Inv(X:Cx)(pins:k5m)(σ:List (Option V))(H:Hp)(s:aq):Prop where
 ok:X.Ok
 os:s.os=X.s₀.os
 bare:d9 s.gens
 base:Un X.fs X.ex X.H₀ H X.s₀.heap s.heap
 loc:∃m,s.heap.Ns X.env.locals m/\∀(i:Nat)(x:ao)(v:V),X.N[i]?=ae x->σ[i]?=ae (ae v)->Vis X.env.scope x->∃u,RelV v u/\Look X.env s.heap m x u
 cell:∀x c,X.env.cells.lookup x=ae c->∃v,s.heap.IsCell c v
 free:H X.env.locals=ah
 freeC:∀x c,X.env.cells.lookup x=ae c->H c=ah
 pin:∀p∈X.pn++pins,s.heap.get? p.1=ae p.2/\H p.1=ah/\p.1≠X.env.locals/\p.1∉X.fs/\∀v,p.2.data≠.cell v
 hok:HOk X.prog X.w H s.heap
 len:σ.length=X.N.length
section
variable{X:Cx}{pins:k5m}{σ:List (Option V)}{H H':Hp}{s:aq}{h':aK}
theorem Cx.Ok.nofr(ok:X.Ok){b:ak}{o:cy}(e:X.base.get? b=ae o):b∉X.fs:=λhb=>by have:=(ok.funs.mem hb).1;rw[e]at this;cases this
theorem Inv.bs(I:Inv X pins σ H s):∀b o,X.base.get? b=ae o->s.heap.get? b=ae o/\H b=ah:=λb o e =>⟨I.base.keep b o (I.ok.bs b o e).1 (I.ok.bs b o e).2 (I.ok.nofr e) (I.ok.noex b o e),I.base.free b o (I.ok.bs b o e).1 (I.ok.bs b o e).2 (I.ok.noex b o e)⟩
theorem Inv.bk(I:Inv X pins σ H s):∀b o,X.base.get? b=ae o->s.heap.get? b=ae o:=λb o e=>(I.bs b o e).1
theorem Inv.mod(I:Inv X pins σ H s):Mod X.K X.mg X.base:=I.ok.mod
theorem Inv.kIn(I:Inv X pins σ H s):X.K.In s.heap:=I.ok.mod.kin.keeps I.bk
theorem Inv.lt(I:Inv X pins σ H s):X.env.locals<s.heap.objs.size:=let ⟨_,hn,_⟩:=I.loc;hn.lt
theorem Inv.sz(I:Inv X pins σ H s):X.s₀.heap.objs.size<=s.heap.objs.size:=X8 I.ok.above (di I.lt)
theorem Inv.nofs(I:Inv X pins σ H s){a:ak}(h:s.heap.objs.size<=a):a∉X.fs:=λhb=>by obtain⟨_,o,ho,_⟩:=I.ok.funs.mem hb;exact absurd (Xa (xq ho) (X8 I.sz h)) (pq _)
theorem Inv.cne(I:Inv X pins σ H s):∀x c,X.env.cells.lookup x=ae c->c≠X.env.locals:=λx c e z=>by obtain⟨v,o,ho,hd⟩:=I.cell x c e;obtain⟨m,⟨o',es,ep,ho',hd',_⟩,_⟩:=I.loc;rw[z,ho']at ho;cases ho;rw[hd']at hd;cases hd
theorem Inv.funs(I:Inv X pins σ H s):s.heap.FunFrames X.base X.outer:=by
 have all:∀(l:List cG),(∀b∈frs l,b∈X.fs)->X.s₀.heap.FunFrames X.base l->s.heap.FunFrames X.base l:=by
  intro l;induction l with
  |nil=>intro _ _;trivial
  |cons env r ih =>intro hs hl;obtain⟨hk,⟨L,o,hf,hn,ho,hd⟩,hr⟩:=hl;have hL:L∈X.fs:=hs L (by unfold frs;rw[bR,hf];exact xg);obtain⟨sl,e⟩:=I.base.slot L o ho (I.ok.frf L hL) hL λz=>I.ok.exfs L z hL;exact⟨hk,⟨L,_,hf,hn,e,hd⟩,ih (λb hb=>hs b (by unfold frs;rw[bR,hf];exact kj _ hb)) hr⟩
 exact all X.outer (λ_ hb=>hb) I.ok.funs
theorem Inv.stack(I:Inv X pins σ H s):s.heap.FunFrames X.base X.stack:=by
 rcases I.ok.stk with e|⟨e,hf⟩
 .rw[e];exact I.funs
 .rw[e];obtain⟨m,hn,_⟩:=I.loc;refine .cons (by rw[I.ok.kind];decide) hf hn ?_ I.funs;exact Heap.get?_none_of_le (X8 I.ok.bsz I.ok.above)
theorem Inv.stkSub(I:Inv X pins σ H s):∀b∈frs X.stack,b∈X.env.locals::X.fs:=λb hb=>by
 rcases I.ok.stk with e|⟨e,hf⟩
 .rw[e]at hb;exact kj _ hb
 .rw[e]at hb;unfold frs at hb;rw[bR,hf]at hb;exact hb
theorem Inv.stkFree(I:Inv X pins σ H s):∀b∈frs X.stack,H b=ah:=λb hb=>by
 rcases km.mp (I.stkSub b hb)with e|hb
 .rw[e];exact I.free
 .obtain⟨_,o,ho,_⟩:=I.ok.funs.mem hb;exact I.base.free b o ho (I.ok.frf b hb) λz=>I.ok.exfs b z hb
theorem Inv.step{g':Array dP}{t':Nat}{d':Drawn}{ch:List ak}(I:Inv X pins σ H s)
  (hch:∀b∈ch,(b∈X.ex\/X.s₀.heap.objs.size<=b)/\b≠X.env.locals/\(∀x c,X.env.cells.lookup x=ae c->c≠b)/\∀p∈X.pn++pins,p.1≠b)
  (keep:∀b o,b≠X.env.locals->b∉X.fs->b∉ch->s.heap.get? b=ae o->H b=ah->h'.get? b=ae o)
  (slot:∀b o,b≠X.env.locals->b∈X.fs->b∉ch->s.heap.get? b=ae o->H b=ah->∃sl,h'.get? b=ae { o with slots:=sl }) (free:∀b o,b∉ch->s.heap.get? b=ae o->H b=ah->H' b=ah)
  (there:∀b o,b∉ch->s.heap.get? b=ae o->∃o',h'.get? b=ae o')
  (tups:∀b xs,H b=ae (.tup xs)->H' b=ae (.tup xs)) (frzs:∀b o u,H b=ae (.frz o u)->H' b=ae (.frz o u)) (tbls:∀b ps,H b=ae (.tbl ps)->∃more,H' b=ae (.tbl (ps++more)))
  (ns:∀m,s.heap.Ns X.env.locals m->h'.Ns X.env.locals m) (hok:HOk X.prog X.w H' h') (hg:d9 g') :
  Inv X pins σ H' { s with heap:=h',gens:=g',drawn:=d',toks:=t' }:=by
 have neL:∀b o,X.s₀.heap.get? b=ae o->b≠X.env.locals:=λb o e=>Xc (Xa (xq e) I.ok.above);have neC:∀b o,X.s₀.heap.get? b=ae o->b∉X.ex->b∉ch:=λb o e hx hb=>by
  rcases(hch b hb).1 with z|z
  .exact hx z
  .exact absurd (Xa (xq e) z) (pq _)
 have cellK:∀x c,X.env.cells.lookup x=ae c->∀v,s.heap.IsCell c v->h'.IsCell c v:=λx c e v ⟨o,ho,hd⟩=>by
  have nch:c∉ch:=λz=>(hch c z).2.2.1 x c e rfl;by_cases hc:c∈X.fs
  .obtain⟨sl,q⟩:=slot c o (I.cne x c e) hc nch ho (I.freeC x c e);exact⟨_,q,hd⟩
  .exact⟨o,keep c o (I.cne x c e) hc nch ho (I.freeC x c e),hd⟩
 refine⟨I.ok,I.os,hg,⟨λb o e n hb hx=>?_,λb o e n hb hx=>?_,λb o e n hx=>?_,λb o e hx=>?_,λb xs e=>tups b xs (I.base.tups b xs e),λb o xs e=>frzs b o xs (I.base.frzs b o xs e),λb ps e=>?_⟩,?_,λx c e=>?_,?_,λx c e=>?_,λp hp=>?_,hok,I.len⟩
 .exact keep b o (neL b o e) hb (neC b o e hx) (I.base.keep b o e n hb hx) (I.base.free b o e n hx)
 .obtain⟨sl,e1⟩:=I.base.slot b o e n hb hx;obtain⟨sl',e2⟩:=slot b _ (neL b o e) hb (neC b o e hx) e1 (I.base.free b o e n hx);exact⟨sl',e2⟩
 .obtain⟨o',e1⟩:=I.base.there b o e hx;exact free b o' (neC b o e hx) e1 (I.base.free b o e n hx)
 .obtain⟨o',e1⟩:=I.base.there b o e hx;exact there b o' (neC b o e hx) e1
 .obtain⟨m1,e1⟩:=I.base.tbls b ps e;obtain⟨m2,e2⟩:=tbls b _ e1;exact⟨m1++m2,by rw[e2,Array.append_assoc]⟩
 .obtain⟨m,hn,hl⟩:=I.loc;refine⟨m,ns m hn,λi x v e1 e2 e3=>?_⟩;obtain⟨u,r,l⟩:=hl i x v e1 e2 e3;refine⟨u,r,?_⟩;rcases l with l|⟨k,c,e,z⟩
  .exact .inl l
  .exact .inr ⟨k,c,e,cellK x c e _ z⟩
 .obtain⟨v,z⟩:=I.cell x c e;exact⟨v,cellK x c e v z⟩
 .obtain⟨m,⟨o,_,_,ho,_⟩,_⟩:=I.loc;exact free _ o (λz=>(hch _ z).2.1 rfl) ho I.free
 .obtain⟨v,o,ho,hd⟩:=I.cell x c e;exact free c o (λz=>(hch c z).2.2.1 x c e rfl) ho (I.freeC x c e)
 .obtain⟨e,n,ne,nf,d⟩:=I.pin p hp;have nch:p.1∉ch:=λz=>(hch p.1 z).2.2.2 p hp rfl;exact⟨keep p.1 p.2 ne nf nch e n,free p.1 p.2 nch e n,ne,nf,d⟩
theorem Inv.un{t':Nat}(I:Inv X pins σ H s)(u:Un X.fs [] H H' s.heap h')(hok:HOk X.prog X.w H' h'):Inv X pins σ H' { s with heap:=h',toks:=t' }:=by
 obtain⟨m,⟨o,es,ep,ho,r⟩,_⟩:=id I.loc;obtain⟨sl,hL⟩:=u.any ho I.free (by simp);exact I.step (g':=s.gens) (d':=s.drawn) (ch:=[]) (λ_ z=>nomatch z) (λb o _ hb _ e n=>u.keep b o e n hb (by simp)) (λb o _ hb _ e n=>u.slot b o e n hb (by simp)) (λb o _ e n=>u.free b o e n (by simp)) (λb o _ e=>u.there b o e (by simp)) u.tups u.frzs u.tbls (λm' hm=>by
  obtain⟨o',es',ep',ho',r'⟩:=hm
  rw[ho]at ho';cases ho'
  exact⟨_,es',ep',hL,r'⟩) hok I.bare
theorem Inv.call{g':Array dP}{t':Nat}{d':Drawn}{ch:List ak}(I:Inv X pins σ H s)(u:Un (frs X.stack) ch H H' s.heap h')(hok:HOk X.prog X.w H' h')(hg:d9 g')
  (hch:∀b∈ch,(b∈X.ex\/X.s₀.heap.objs.size<=b)/\b≠X.env.locals/\(∀x c,X.env.cells.lookup x=ae c->c≠b)/\∀p∈X.pn++pins,p.1≠b) :
  Inv X pins σ H' { s with heap:=h',gens:=g',drawn:=d',toks:=t' }:=by
 obtain⟨m,⟨o,es,ep,ho,r⟩,_⟩:=id I.loc;obtain⟨sl,hL⟩:=u.any ho I.free λz=>(hch _ z).2.1 rfl;exact I.step (ch:=ch) hch (λb o hL hb hc e n=>u.keep b o e n (λz=>(km.mp (I.stkSub b z)).elim hL hb) hc) (λb o _ _ hc e n=>u.any e n hc) (λb o hc e n=>u.free b o e n hc) (λb o hc e=>u.there b o e hc) u.tups u.frzs u.tbls (λm' hm=>by
  obtain⟨o',es',ep',ho',r'⟩:=hm
  rw[ho]at ho';cases ho'
  exact⟨_,es',ep',hL,r'⟩) hok hg
theorem Inv.turned{t':Nat}{it:ak}(I:Inv X pins σ H s)(k:∀b o,b≠it->s.heap.get? b=ae o->h'.get? b=ae o)(hn:H it=ah)(hL:it≠X.env.locals)
  (h1:it∈X.ex\/X.s₀.heap.objs.size<=it) (h2:∀x c,X.env.cells.lookup x=ae c->c≠it) (h3:∀p∈X.pn++pins,p.1≠it):Inv X pins σ H { s with heap:=h',toks:=t' }:=by
 have nit:∀b u,H b=ae u->b≠it:=λb u e z=>by rw[z,hn]at e;cases e
 refine I.step (g':=s.gens) (d':=s.drawn) (ch:=[it]) (λb hb=>?_) (λb o _ _ hc e _=>k b o (λz=>hc (by simp[z])) e) (λb o _ _ hc e _=>⟨o.slots,k b o (λz=>hc (by simp[z])) e⟩) (λ_ _ _ _ n=>n)
  (λb o hc e=>⟨o,k b o (λz=>hc (by simp[z])) e⟩) (λ_ _ e=>e) (λ_ _ _ e=>e) (λb ps e=>⟨#[],by rw[e];simp⟩) (λm hm=>?_) (λb u e=>?_) I.bare
 .have e:b=it:=by simpa using hb
  subst e;exact⟨h1,hL,h2,h3⟩
 .obtain⟨o,es,ep,ho,r⟩:=hm;exact⟨o,es,ep,k _ o (dH hL) ho,r⟩
 .refine(I.hok b u e).stay (λc v hc q=>k c v ?_ q) (λ_ q=>q) (λ_ _ q=>q) λ_ _ _ q=>q;rcases hc with z|z
  .rw[z];exact nit b u e
  .exact nit c _ z
theorem Inv.tok(I:Inv X pins σ H s)(t:Nat):Inv X pins σ H { s with toks:=t }:=I.un (h':=s.heap) (t':=t) Un.refl I.hok
theorem Inv.kept{t':Nat}(I:Inv X pins σ H s)(k:∀b u,s.heap.get? b=ae u->h'.get? b=ae u):Inv X pins σ H { s with heap:=h',toks:=t' }:=I.un (Un.kept k) (I.hok.kept k)
theorem Inv.laid{a:ak}{o:HO}{t':Nat}(I:Inv X pins σ H s)(k:∀b u,s.heap.get? b=ae u->h'.get? b=ae u)(hp:s.heap.objs.size<=a)(new:jl X.prog X.w (upd H a o) h' a o) :
  Inv X pins σ (upd H a o) { s with heap:=h',toks:=t' }:=I.un (Un.laid k hp (I.hok.fresh hp)) (I.hok.laid k hp new)
theorem Inv.write{x e:ak}{o:HO}{t':Nat}(I:Inv X pins σ H s)(mu:Mut (H x))(he:e=x\/H e=ae (.own x))(k:∀b u,b≠e->s.heap.get? b=ae u->h'.get? b=ae u)(heo:∃u,h'.get? e=ae u)
  (new:jl X.prog X.w (upd H x o) h' x o):Inv X pins σ (upd H x o) { s with heap:=h',toks:=t' }:=I.un (Un.write mu he k heo) (I.hok.write mu he k heo new)
theorem Inv.pins_of{pins':k5m}(I:Inv X pins σ H s)(h:∀p∈pins',s.heap.get? p.1=ae p.2/\H p.1=ah/\p.1≠X.env.locals/\p.1∉X.fs/\∀v,p.2.data≠.cell v):Inv X pins' σ H s :=
 ⟨I.ok,I.os,I.bare,I.base,I.loc,I.cell,I.free,I.freeC,λp hp=>(Xp.mp hp).elim (λz=>I.pin p (Xu _ z)) (h p),I.hok,I.len⟩
theorem Rp{N:List ao}(hN:N.Nodup){i j:Nat}{x:ao}(a:N[i]?=ae x)(b:N[j]?=ae x):i=j:=by obtain⟨h1,e1⟩:=Xn.mp a;obtain⟨h2,e2⟩:=Xn.mp b;exact(List.getElem_inj hN).mp (e1.trans e2.symm)
theorem Uh{M:gk}{A:aF}{E:k5l}{i:Nat}{x:ao}{v:V}{u:aj}{Q:Unit->aq->Prop}(I:Inv X pins σ H s)(hN:X.N.Nodup)(hi:X.N[i]?=ae x)(hx:Loc X.env.scope x)(r:RelV v u)
  (h:∀s',Inv X pins (σ.set i (ae v)) H s'->(∃a,dR a s.heap s'.heap/\(a=X.env.locals\/X.env.cells.lookup x=ae a))->Q () s') (hf:X.fn x=ag\/X.env.scope.names.lookup x=ae .local:=by first|exact .inl rfl|exact .inr rfl|assumption):aC M A (storeName X.env x u) Q E s:=by
 obtain⟨m,hn,hl⟩:=id I.loc;have hcls:(X.env.scope.kind==.class || (X.env.scope.kind==.module&&X.env.locals != X.env.globals))=af:=by rw[I.ok.kind];rfl
 have hiσ:i<σ.length:=by rw[I.len];exact(Xn.mp hi).1
 have cne:=I.cne;have tracked:∀{a:ak}{h':aK},(∃o,s.heap.get? a=ae o/\H a=ah)->dR a s.heap h'->HOk X.prog X.w H h':=λ{a h'} ha hs b ob e=>by
  obtain⟨_,_,hfree⟩:=ha;refine(I.hok b ob e).stay (λc w' hc q=>(hs.2 c ?_).trans q) (λ_ q=>q) (λ_ _ q=>q) λ_ _ _ q=>q;rintro rfl;rcases hc with rfl|hc
  .rw[hfree]at e;cases e
  .rw[hfree]at hc;cases hc
 rcases hx with hk|hk
 .refine wpAny_storeName_local hk hn (λh' hn' hs=>?_) hcls;obtain⟨oL,_,_,hoL,_⟩:=id hn;refine h _ ⟨I.ok,I.os,I.bare,⟨λb o e n hb hx=>?_,λb o e n hb hx=>?_,I.base.free,λb o e hx=>?_,I.base.tups,I.base.frzs,I.base.tbls⟩,⟨_,hn',λj y v' e1 e2 e3=>?_⟩,λy c e=>?_,I.free,I.freeC,λp hp=>?_,tracked ⟨oL,hoL,I.free⟩ hs,by simpa using I.len⟩ ⟨_,hs,.inl rfl⟩
  .exact(hs.2 b (Xc (Xa (xq e) I.ok.above))).trans (I.base.keep b o e n hb hx)
  .obtain⟨sl,e1⟩:=I.base.slot b o e n hb hx;exact⟨sl,(hs.2 b (Xc (Xa (xq e) I.ok.above))).trans e1⟩
  .obtain⟨o',e1⟩:=I.base.there b o e hx;exact⟨o',(hs.2 b (Xc (Xa (xq e) I.ok.above))).trans e1⟩
  .by_cases hj:j=i
   .subst hj;rw[hi]at e1;cases e1;rw[fB hiσ]at e2;cases e2;exact⟨u,r,.inl ⟨hk,by simp⟩⟩
   .rw[dt (dH hj)]at e2;obtain⟨u',r',q⟩:=hl j y v' e1 e2 e3;refine⟨u',r',?_⟩;rcases q with ⟨k,e⟩|⟨k,c,e,z⟩
    .refine .inl ⟨k,?_⟩;have:y≠x:=λe=>hj (Rp hN e1 (e▸hi));simp[this,e]
    .exact .inr ⟨k,c,e,z.sameBut hs (cne y c e)⟩
  .obtain⟨w',z⟩:=I.cell y c e;exact⟨w',z.sameBut hs (cne y c e)⟩
  .obtain⟨e,n,ne,nf,d⟩:=I.pin p hp;exact⟨(hs.2 p.1 ne).trans e,n,ne,nf,d⟩
 .have hfn:X.fn x=ag:=by
   rcases hf with z|z
   .exact z
   .rw[z]at hk;cases hk
  obtain⟨c,hc⟩:=I.ok.has x (.inl hk);obtain⟨w',z⟩:=I.cell x c hc;refine wpAny_storeName_cell I.ok.kind hk hc z (λh' hc' hs=>?_);obtain⟨oc,hoc,hocd⟩:=id z;refine h { s with heap:=h' } ⟨I.ok,I.os,I.bare,⟨λb o e n hb hx=>?_,λb o e n hb hx=>?_,I.base.free,λb o e hx=>?_,I.base.tups,I.base.frzs,I.base.tbls⟩,⟨m,hn.sameBut hs (dH (cne x c hc)),λj y v' e1 e2 e3=>?_⟩,λy c' e=>?_,I.free,I.freeC,λp hp=>?_,tracked ⟨oc,hoc,I.freeC x c hc⟩ hs,by simpa using I.len⟩ ⟨c,hs,.inr hc⟩
  .exact(hs.2 b (Xc (Xa (xq e) (I.ok.cab x c hfn hc)))).trans (I.base.keep b o e n hb hx)
  .obtain⟨sl,e1⟩:=I.base.slot b o e n hb hx;exact⟨sl,(hs.2 b (Xc (Xa (xq e) (I.ok.cab x c hfn hc)))).trans e1⟩
  .obtain⟨o',e1⟩:=I.base.there b o e hx;exact⟨o',(hs.2 b (Xc (Xa (xq e) (I.ok.cab x c hfn hc)))).trans e1⟩
  .by_cases hj:j=i
   .subst hj;rw[hi]at e1;cases e1;rw[fB hiσ]at e2;cases e2;exact⟨u,r,.inr ⟨.inl hk,c,hc,hc'⟩⟩
   .rw[dt (dH hj)]at e2;obtain⟨u',r',q⟩:=hl j y v' e1 e2 e3;refine⟨u',r',?_⟩;rcases q with q|⟨k,c',e,z'⟩
    .exact .inl q
    .refine .inr ⟨k,c',e,z'.sameBut hs ?_⟩;rintro rfl;exact hj (Rp hN e1 (I.ok.inj _ _ _ e hc▸hi))
  .by_cases hcc:c'=c
   .subst hcc;exact⟨_,hc'⟩
   .obtain⟨w2,z2⟩:=I.cell y c' e;exact⟨w2,z2.sameBut hs hcc⟩
  .obtain⟨e,n,ne,nf,d⟩:=I.pin p hp;refine⟨(hs.2 p.1 ?_).trans e,n,ne,nf,d⟩;intro q;rw[q,hoc]at e;have q':oc=p.2:=aD e;exact d w' (by rw[<-q'];exact hocd)
theorem Dw{M:gk}{A:aF}{E:k5l}{i:Nat}{x:ao}{v:V}{u:aj}{Q:Unit->aq->Prop}(I:Inv X pins σ H s)(hN:X.N.Nodup)(hi:X.N[i]?=ae x)(hx:Loc X.env.scope x)(r:RelV v u)
  (h:∀s',Inv X pins (σ.set i (ae v)) H s'->Q () s') (hf:X.fn x=ag\/X.env.scope.names.lookup x=ae .local:=by first|exact .inl rfl|exact .inr rfl|assumption):aC M A (storeName X.env x u) Q E s :=
 Uh I hN hi hx r (λs' I' _=>h s' I') hf
theorem Inv.call'{s':aq}{ch:List ak}(I:Inv X pins σ H s)(ho:s'.os=s.os)(u:Un (frs X.stack) ch H H' s.heap s'.heap)(hok:HOk X.prog X.w H' s'.heap)(hg:d9 s'.gens)
  (hch:∀b∈ch,(b∈X.ex\/X.s₀.heap.objs.size<=b)/\b≠X.env.locals/\(∀x c,X.env.cells.lookup x=ae c->c≠b)/\∀p∈X.pn++pins,p.1≠b):Inv X pins σ H' s':=by
 obtain⟨h',g',d',t',o'⟩:=s';have e:o'=s.os:=ho;subst e;exact I.call (g':=g') (t':=t') (d':=d') u hok hg hch
end
abbrev XK:=aj->Option ak->Hp->Prop
noncomputable abbrev St:=List (Option V)
abbrev VK:=V->Hp->Prop
abbrev TE:=St->Hp->VK->Prop
abbrev TT:=St->Hp->(Bool->Hp->Prop)->Prop
abbrev TA:=St->Hp->(List V->Hp->Prop)->Prop
structure Ends where
 nx:St->Hp->Prop
 rt:VK
 bk:St->Hp->Prop:=λ_ _=>False
 ct:St->Hp->Prop:=λ_ _=>False
abbrev TS:=Ends->St->Hp->Prop
def EP(X:Cx)(pins:k5m)(σ:St)(Q:VK)(u:aj)(s':aq):Prop:=∃v H',Inv X pins σ H' s'/\RelV v u/\Q v H'
def TP(X:Cx)(pins:k5m)(σ:St)(Q:Bool->Hp->Prop)(b:Bool)(s':aq):Prop:=∃H',Inv X pins σ H' s'/\Q b H'
def AP(X:Cx)(pins:k5m)(σ:St)(Q:List V->Hp->Prop)(us:List aj)(s':aq):Prop:=∃vs H',Inv X pins σ H' s'/\Vals vs us/\Q vs H'
def Ext(X:Cx)(H1 H2:Hp)(s':aq):Prop:=∀b,H2 b=H1 b\/∃x o v,X.env.cells.lookup x=ae b/\X.fn x=ag/\H2 b=ae (.frz o (.own 0))/\s'.heap.get? b=ae o/\o.data=.cell v
theorem Ext.refl{X:Cx}{H:Hp}{s':aq}:Ext X H H s':=λ_=>.inl rfl
def SP(X:Cx)(pins:k5m)(D:Ends)(f:Flow)(s':aq):Prop :=
 match f with
 |.next=>∃σ' H',Inv X pins σ' H' s'/\D.nx σ' H'
 |.brk=>∃σ' H',Inv X pins σ' H' s'/\D.bk σ' H'
 |.cont=>∃σ' H',Inv X pins σ' H' s'/\D.ct σ' H'
 |.ret u=>∃v σ' H' H2,Inv X pins σ' H' s'/\RelV v u/\Ext X H' H2 s'/\D.rt v H2
def PE(X:Cx)(e:ar)(t:TE):Prop :=
 ∀(pins:k5m) (s:aq) (σ:St) (H:Hp) (Q:VK),Inv X pins σ H s->t σ H Q->aC (aB X.prog X.w) X.A (aH e X.env) (EP X pins σ Q) X.xe s
def PT(X:Cx)(e:ar)(t:TT):Prop :=
 ∀(pins:k5m) (s:aq) (σ:St) (H:Hp) (Q:Bool->Hp->Prop),Inv X pins σ H s->t σ H Q->aC (aB X.prog X.w) X.A (dz e X.env (aH e X.env)) (TP X pins σ Q) X.xe s
def PW(X:Cx)(e:ar)(t:TT):Prop :=
 ∀(whole:iB aj)(pins:k5m) (s:aq) (σ:St) (H:Hp) (Q:Bool->Hp->Prop),Inv X pins σ H s->t σ H Q->aC (aB X.prog X.w) X.A (dz e X.env whole) (TP X pins σ Q) X.xe s
def PA(X:Cx)(es:List ar)(t:TA):Prop :=
 ∀(pos:aQ)(pins:k5m) (s:aq) (σ:St) (H:Hp) (Q:List V->Hp->Prop),Inv X pins σ H s->t σ H Q->aC (aB X.prog X.w) X.A (spliced (aV pos (ai es X.env))) (AP X pins σ Q) X.xe s
def PS(X:Cx)(st:aP)(t:TS):Prop :=
 ∀(pins:k5m) (s:aq) (σ:St) (H:Hp) (D:Ends),Inv X pins σ H s->t D σ H->aC (aB X.prog X.w) X.A (exec st X.env) (SP X pins D) X.xe s
def PSs(X:Cx)(st:List aP)(t:TS):Prop :=
 ∀(pins:k5m) (s:aq) (σ:St) (H:Hp) (D:Ends),Inv X pins σ H s->t D σ H->aC (aB X.prog X.w) X.A (execs st X.env) (SP X pins D) X.xe s
theorem thn{α:Type}{t:iB α}{Q Q':α->aq->Prop}{M:gk}{A:aF}{E:k5l}{s:aq}(h:aC M A t Q E s)(hQ:∀a s,Q a s->Q' a s):aC M A t Q' E s:=b9 h hQ λ_ _ x=>x
section
variable{X:Cx}
theorem bin{a b:ar}{ta tb:TE}(ha:PE X a ta)(hb:PE X b tb){pins:k5m}{s:aq}{σ:St}{H:Hp}{R:V->V->Hp->Prop}(I:Inv X pins σ H s)(h:ta σ H λx H1=>tb σ H1 λy H2=>R x y H2)
  {α:Type} {Q:α->aq->Prop} {f:aj->aj->iB α}
  (hf:∀v u s2 x y H2,Inv X pins σ H2 s2->RelV x v->RelV y u->R x y H2->aC (aB X.prog X.w) X.A (f v u) Q X.xe s2) :
  aC (aB X.prog X.w) X.A (aH a X.env) (λv s₁=>aC (aB X.prog X.w) X.A (aH b X.env) (λu s₂=>aC (aB X.prog X.w) X.A (f v u) Q X.xe s₂) X.xe s₁) X.xe s:=by
 refine thn (ha pins s σ H _ I h) λv s1 ⟨x,H1,I1,r1,q1⟩=>?_;refine thn (hb pins s1 σ H1 _ I1 q1) λu s2 ⟨y,H2,I2,r2,q2⟩=>?_;exact hf v u s2 x y H2 I2 r1 r2 q2
def jhv(i:Nat):TE:=λσ H Q=>∃v,σ[i]?=ae (ae v)/\Q v H
def tC(v:V):TE:=λ_ H Q=>Q v H
theorem qt {i:Nat} {x:ao} {pos:aQ} (hN:X.N[i]?=ae x) (hv:Vis X.env.scope x) (hd:(x==k5o)=af:=by decide) (hcd:(x==k5p)=af:=by decide):PE X (.Name x pos) (jhv i):=by
 intro pins s σ H Q I h;obtain⟨v,e,h⟩:=h;obtain⟨m,hn,hl⟩:=I.loc;obtain⟨u,r,l⟩:=hl i x v hN e hv;have fin:EP X pins σ Q u s:=⟨v,H,I,r,h⟩
 rcases l with ⟨hk,hm⟩|⟨hk,c,hc,hcell⟩
 .exact i8 (wpAny_loadName_local I.ok.kind hk hn hm fin) hd
 .rcases hk with hk|hk
  .exact i8 (wpAny_loadName_cell I.ok.kind hk hc hcell fin) hd
  .exact i8 (wpAny_loadName_free I.ok.kind hk hc hcell fin hcd) hd
theorem Cw{i j pos}:PE X (.Constant (.int i) j pos) (tC (.int i)):=λ_ _ _ H _ I h=>wpAny_Constant_int ⟨.int i,H,I.tok _,⟨_,rfl⟩,h⟩
theorem jg3{b j pos}:PE X (.Constant (.bool b) j pos) (tC (.bl b)):=λ_ _ _ H _ I h=>Constant_bool ⟨.bl b,H,I,rfl,h⟩
theorem jc2{j pos}:PE X (.Constant .none j pos) (tC .non):=λ_ _ _ H _ I h=>jW ⟨.non,H,I,rfl,h⟩
theorem Uq{x j pos}:PE X (.Constant (.str x) j pos) (tC (.str x)):=λ_ _ _ H _ I h=>Calls.Constant_str ⟨.str x,H,I.tok _,⟨_,rfl⟩,h⟩
def Gl(X:Cx)(x:ao):Prop:=X.env.kindOf x=ae .globalImplicit
theorem Jv{E:k5l}{pins:k5m}{s:aq}{σ:St}{H:Hp}{x:ao}{u:aj}{pos:aQ}{Q:k5l}(I:Inv X pins σ H s)(hg:Gl X x)(hm:X.mg x=ae u)(h:Q u s)
  (hd:(x==k5o)=af:=by decide):aC (aB X.prog X.w) X.A (aH (.Name x pos) X.env) Q E s :=
 eK I.ok.kind hg (Calls.loadGlobal_global (by rw[I.ok.glob];exact I.mod.glob.keeps I.bk) hm h) hd
theorem Uu{E:k5l}{pins:k5m}{s:aq}{σ:St}{H:Hp}{x:ao}{u:aj}{pos:aQ}{Q:k5l}(I:Inv X pins σ H s)(hg:Gl X x)(hm:X.mg x=ah)(hv:aY x=ae u)(h:Q u s)
  (hn:x ≠ "__name__":=by decide) (hd:(x==k5o)=af:=by decide):aC (aB X.prog X.w) X.A (aH (.Name x pos) X.env) Q E s:=by
 obtain⟨mb,h1,h2⟩:=I.mod.blt;exact eK I.ok.kind hg (Calls.loadGlobal_builtin (by rw[I.ok.glob];exact I.mod.glob.keeps I.bk) hm (by rw[I.ok.blt];exact h1.keeps I.bk) ((h2 x hn).trans hv) h) hd
theorem Iu {x:ao} {v:V} {u:aj} {pos:aQ} (hg:Gl X x) (hm:X.mg x=ae u) (r:RelV v u) (hd:(x==k5o)=af:=by decide):PE X (.Name x pos) (tC v) :=
 λ_ _ _ H _ I h=>Jv I hg hm ⟨v,H,I,r,h⟩ hd
theorem j96 {x:ao} {v:V} {u:aj} {pos:aQ} (hg:Gl X x) (hm:X.mg x=ah) (hv:aY x=ae u) (r:RelV v u) (hn:x ≠ "__name__":=by decide) (hd:(x==k5o)=af:=by decide):PE X (.Name x pos) (tC v) :=
 λ_ _ _ H _ I h=>Uu I hg hm hv ⟨v,H,I,r,h⟩ hn hd
variable{a b:ar}{ta tb:TE}{pos:aQ}
def PC(X:Cx)(op:ff)(a b:ar)(t:TE):Prop :=
 ∀(pins:k5m) (s:aq) (σ:St) (H:Hp) (Q:VK),Inv X pins σ H s->t σ H Q ->
  aC (aB X.prog X.w) X.A (aH a X.env) (λv s₁=>aC (aB X.prog X.w) X.A (aH b X.env) (λu s₂=>aC (aB X.prog X.w) X.A (b0 op v u) (EP X pins σ Q) X.xe s₂) X.xe s₁) X.xe s
theorem Rq(b:ar){op:ff}(h:op≠.In)(h2:op≠.NotIn):aN op b=af:=by
 have e1:(op==CmpOp.In)=af:=by cases op<;>first|rfl|exact absurd rfl h
 have e2:(op==CmpOp.NotIn)=af:=by cases op<;>first|rfl|exact absurd rfl h2
 cases b<;>simp[aN,e1,e2]
def ji1(ta:TE):TE:=λσ H Q=>ta σ H λx H1=>Q (.bl (decide (x=.non))) H1
theorem RelV.none_iff{x:V}{v:aj}(r:RelV x v):(v==br)=decide (x=.non):=by
 cases x with
 |non=>cases r;rfl
 |bl _=>cases r;rfl
 |int _=>obtain⟨t,rfl⟩:=r;rfl
 |str _=>obtain⟨t,rfl⟩:=r;rfl
 |byt _=>obtain⟨t,rfl⟩:=r;rfl
 |flt _=>obtain⟨t,rfl⟩:=r;rfl
 |ref _=>cases r;rfl
 |ty _=>cases r;rfl
theorem j2l{j pos'}(ha:PE X a ta):PC X .Is a (.Constant .none j pos') (ji1 ta):=by intro pins s σ H Q I h;refine thn (ha pins s σ H _ I h) λv s1 ⟨x,H1,I1,r1,q1⟩=>?_;exact jW (is_none_gen ⟨.bl _,H1,I1,by rw[r1.none_iff];rfl,q1⟩)
def tB(t:TE):TT:=λσ H Q=>t σ H λx H1=>∃c,x=.bl c/\Q c H1
theorem jc4{op:ff}{t:TE}(h:PC X op a b t)(h1:aN op b=af:=by first|exact Rq _ (by decide) (by decide)|rfl):PE X (.Compare a [op] [b] pos) t:=λpins s σ H Q I hw=>jM (h pins s σ H Q I hw) h1
theorem jby{op:ff}{t:TE}(h:PC X op a b t)(h1:aN op b=af:=by first|exact Rq _ (by decide) (by decide)|rfl):PT X (.Compare a [op] [b] pos) (tB t):=by intro pins s σ H Q I hw;refine gJ (thn (h pins s σ H _ I hw) λv s1 h1=>thn h1 λu s2 h2=>thn h2 λc s3 ⟨x,H1,I1,r1,q1⟩=>?_) h1;obtain⟨d,rfl,q⟩:=q1;cases r1;exact bN ⟨H1,I1,q⟩
theorem j2c{e:ar}{t:TE}(h:PE X e t)(he:∀whole,dz e X.env whole=(do let v <-whole;eN e.pos;dS [v] (i9 v)):=by intro _;rfl):PT X e (tB t):=by intro pins s σ H Q I hw;refine isTrue_plain (thn (h pins s σ H _ I hw) λv s1 ⟨x,H1,I1,r1,q1⟩=>?_) (he _);obtain⟨d,rfl,q⟩:=q1;cases r1;exact bN ⟨H1,I1,q⟩
variable{tA tB':TT}{rest:List ar}
def tOr(t u:TT):TT:=λσ H Q=>t σ H λc H1=>if c=ag then Q ag H1 else u σ H1 Q
def jhz(t:TT):TT:=λσ H Q=>t σ H λc H1=>Q (!c) H1
theorem jbx(ha:PT X a tA):PW X (.BoolOp .Or [a] pos) tA:=by
 intro wh pins s σ H Q I h;refine isTrue_or (thn (ha pins s σ H Q I h) λc s1 e=>?_);cases c with
 |false=>exact isTrue_or_nil e
 |true=>exact e
theorem jg0(ha:PT X a tA)(hb:PW X (.BoolOp .Or (b::rest) pos) tB'):PW X (.BoolOp .Or (a::b::rest) pos) (tOr tA tB'):=by
 intro wh pins s σ H Q I h;refine isTrue_or (thn (ha pins s σ H _ I h) λc s1 ⟨H1,I1,q1⟩=>?_);cases c with
 |true=>exact⟨H1,I1,q1⟩
 |false=>exact hb wh pins s1 σ H1 Q I1 q1
theorem j2d(ha:PT X a tA):PT X (.UnaryOp .Not a pos) (jhz tA):=by intro pins s σ H Q I h;exact isTrue_not (ha pins s σ H (λc H1=>Q (!c) H1) I h)
def jfj(ta tb:TE):TE:=λσ H Q=>ta σ H λx H1=>∃c,x=.bl c/\if c=ag then tb σ H1 Q else Q (.bl af) H1
theorem j2k{op}{t:TE}(h:PE X a t):PE X (.BoolOp op [a] pos) t:=λpins s σ H Q I hw=>BoolOp_one (h pins s σ H Q I hw)
theorem jc5(ha:PE X a ta)(hb:PE X (.BoolOp .And (b::rest) pos) tb):PE X (.BoolOp .And (a::b::rest) pos) (jfj ta tb):=by
 intro pins s σ H Q I h;refine BoolOp_and (thn (ha pins s σ H _ I h) λv s1 ⟨x,H1,I1,r1,q1⟩=>?_);obtain⟨c,rfl,q1⟩:=q1;cases r1;refine bN ?_;cases c with
 |true=>exact hb pins s1 σ H1 Q I1 q1
 |false=>exact⟨.bl af,H1,I1,rfl,q1⟩
def tIf(t:TT)(ta tb:TE):TE:=λσ H Q=>t σ H λc H1=>if c=ag then ta σ H1 Q else tb σ H1 Q
theorem j5g{c:ar}(hc:PT X c tA)(ha:PE X a ta)(hb:PE X b tb):PE X (.IfExp c a b pos) (tIf tA ta tb):=by
 intro pins s σ H Q I h;refine wpAny_IfExp (thn (hc pins s σ H _ I h) λd s1 ⟨H1,I1,q1⟩=>?_);cases d with
 |true=>exact ha pins s1 σ H1 Q I1 q1
 |false=>exact hb pins s1 σ H1 Q I1 q1
end
def SqL(K:k5k)(H:Hp)(a:ak)(xs:List V):Prop :=
 Rd H a (.lst xs) \/
  ∃(o:cy)(its:Array aj)(n:Nat),K.lookup a=ae o/\o.cls=.type "list"/\o.dict=ah/\o.data=.seq its n/\its.size<=aw/\Vals xs its.toList
def SqT(K:k5k)(H:Hp)(a:ak)(xs:List V):Prop :=
 Rd H a (.tup xs) \/
  ∃(o:cy)(its:Array aj)(n:Nat),K.lookup a=ae o/\o.cls=.type "tuple"/\o.dict=ah/\o.data=.seq its n/\its.size<=aw/\Vals xs its.toList
noncomputable def jj1:aj->Option V
 |.none=>ae .non
 |.bool b=>ae (.bl b)
 |.int i _=>ae (.int i)
 |.str x _=>ae (.str x)
 |.bytes b _=>ae (.byt b)
 |.float b _=>ae (.flt b)
 |.ref a=>ae (.ref a)
 |.type n=>ae (.ty n)
 |_=>ah
theorem RelV.abs{x:V}{u:aj}(r:RelV x u):jj1 u=ae x:=by
 cases x with
 |non=>cases r;rfl
 |bl _=>cases r;rfl
 |int _=>obtain⟨t,rfl⟩:=r;rfl
 |str _=>obtain⟨t,rfl⟩:=r;rfl
 |byt _=>obtain⟨t,rfl⟩:=r;rfl
 |flt _=>obtain⟨t,rfl⟩:=r;rfl
 |ref _=>cases r;rfl
 |ty _=>cases r;rfl
theorem RelV.inj{x y:V}{u:aj}(r:RelV x u)(q:RelV y u):x=y:=aD (r.abs.symm.trans q.abs)
theorem Vals.inj:∀{xs ys:List V}{us:List aj},Vals xs us->Vals ys us->xs=ys
 |_,_,_,.nil,.nil=>rfl
 |_,_,_,.cons r t,.cons r' t'=>by rw[r.inj r',Vals.inj t t']
section
variable{X:Cx}{pins:k5m}{σ:St}{H:Hp}{s:aq}{a:ak}{xs ys:List V}
theorem SqL.of{K:k5k}(h:H a=ae (.lst xs)):SqL K H a xs:=.inl (.inl h)
theorem Inv.list(I:Inv X pins σ H s)(h:SqL X.K H a xs):∃its:List aj,Vals xs its/\PlainL s.heap a its.toArray/\xs.length<=aw:=by
 rcases h with h|⟨o,its,n,hk,hc,hd,hs,hz,r⟩
 .obtain⟨z,its,n,r,e⟩:=h.ok I.hok;exact⟨its,r,⟨_,n,e,rfl,rfl,rfl⟩,z⟩
 .refine⟨its.toList,r,⟨o,n,I.kIn a o hk,hc,hd,by simpa using hs⟩,?_⟩;have e:=r.length;simp only[cC]at e;omega
theorem Inv.tuple(I:Inv X pins σ H s)(h:SqT X.K H a xs):∃its:List aj,Vals xs its/\jQ s.heap a its.toArray/\xs.length<=aw:=by
 rcases h with h|⟨o,its,n,hk,hc,hnd,hs,hz,r⟩
 .obtain⟨z,its,r,p,_⟩:=h.ok I.hok;exact⟨its,r,p,z⟩
 .refine⟨its.toList,r,⟨o,I.kIn a o hk,hc,n,by simpa using hs⟩,?_⟩;have e:=r.length;simp only[cC]at e;omega
theorem Inv.tupD(I:Inv X pins σ H s)(h:SqT X.K H a xs):U8 s.heap a:=by
 rcases h with h|⟨o,its,n,hk,hc,hnd,hs,hz,r⟩
 .obtain⟨z,its,r,p,q⟩:=h.ok I.hok;exact q
 .intro o' e;rw[I.kIn a o hk]at e;cases e;exact hnd
theorem Inv.list_inj(I:Inv X pins σ H s)(h:SqL X.K H a xs)(h':SqL X.K H a ys):xs=ys:=by
 obtain⟨its,r,⟨o,n,e,_,_,d⟩,_⟩:=I.list h;obtain⟨its',r',⟨o',n',e',_,_,d'⟩,_⟩:=I.list h';rw[e]at e';cases e';rw[d]at d';injection d' with d1 _;have:its=its':=by simpa using congrArg ip d1
 subst this;exact r.inj r'
theorem Inv.tuple_inj(I:Inv X pins σ H s)(h:SqT X.K H a xs)(h':SqT X.K H a ys):xs=ys:=by
 obtain⟨its,r,⟨o,e,_,n,d⟩,_⟩:=I.tuple h;obtain⟨its',r',⟨o',e',_,n',d'⟩,_⟩:=I.tuple h';rw[e]at e';cases e';rw[d]at d';injection d' with d1 _;have:its=its':=by simpa using congrArg ip d1
 subst this;exact r.inj r'
end
noncomputable abbrev Cx.wish(X:Cx)(E:k5l):Cx:={ X with xe:=E }
noncomputable abbrev Cx.nox(X:Cx):Cx:=X.wish λ_ _=>False
theorem Cx.Ok.wish{X:Cx}(ok:X.Ok)(E:k5l):(X.wish E).Ok :=
 ⟨ok.mod,ok.kind,ok.glob,ok.blt,ok.above,ok.inj,ok.has,ok.cab,ok.hd,ok.frames,ok.stk,ok.exf,ok.bs,ok.bsz,ok.noex,ok.exfs,ok.funs,ok.frf⟩
theorem Cx.Ok.unwish{X:Cx}{E:k5l}(ok:(X.wish E).Ok):X.Ok :=
 ⟨ok.mod,ok.kind,ok.glob,ok.blt,ok.above,ok.inj,ok.has,ok.cab,ok.hd,ok.frames,ok.stk,ok.exf,ok.bs,ok.bsz,ok.noex,ok.exfs,ok.funs,ok.frf⟩
section
variable{X:Cx}{pins:k5m}{σ:St}{H:Hp}{s:aq}{E:k5l}
theorem Inv.wish(I:Inv X pins σ H s)(E:k5l):Inv (X.wish E) pins σ H s:=⟨I.ok.wish E,I.os,I.bare,I.base,I.loc,I.cell,I.free,I.freeC,I.pin,I.hok,I.len⟩
theorem Inv.unwish(I:Inv (X.wish E) pins σ H s):Inv X pins σ H s:=⟨I.ok.unwish,I.os,I.bare,I.base,I.loc,I.cell,I.free,I.freeC,I.pin,I.hok,I.len⟩
theorem SP.unwish{D:Ends}{f:Flow}{s':aq}(h:SP (X.wish E) pins D f s'):SP X pins D f s':=by
 cases f with
 |next=>obtain⟨σ',H',I,q⟩:=h;exact⟨σ',H',I.unwish,q⟩
 |brk=>obtain⟨σ',H',I,q⟩:=h;exact⟨σ',H',I.unwish,q⟩
 |cont=>obtain⟨σ',H',I,q⟩:=h;exact⟨σ',H',I.unwish,q⟩
 |ret u=>obtain⟨v,σ',H',H2,I,r,x,q⟩:=h;exact⟨v,σ',H',H2,I.unwish,r,x,q⟩
theorem PSs.nox{st:List aP}{t:TS}(h:PSs X.nox st t):PSs X st t:=λpins s σ H D I hw =>b9 (h pins s σ H D (I.wish _) hw) (λ_ _ q=>q.unwish) λ_ _ z=>aO z
end
section
variable{X:Cx}{st:aP}{rest:List aP}{t u:TS}{e:ar}{te:TE}{pos:aQ}
def jfd:TS:=λD σ H=>D.nx σ H
def jhx(t u:TS):TS:=λD σ H=>t { D with nx:=u D } σ H
theorem Y6:PSs X [] jfd:=λ_ _ σ H _ I h=>fj ⟨σ,H,I,h⟩
theorem vf(h1:PS X st t)(h2:PSs X rest u):PSs X (st::rest) (jhx t u):=by
 intro pins s σ H D I h;refine iO (thn (h1 pins s σ H { D with nx:=u D } I h) λf s1 q=>?_);cases f with
 |next =>obtain⟨σ',H',I',q⟩:=q;exact h2 pins s1 σ' H' D I' q
 |ret v=>exact q
 |brk=>exact q
 |cont=>exact q
theorem Y5(h1:PS X st t):PSs X [st] t:=by
 intro pins s σ H D I h;refine iO (thn (h1 pins s σ H D I h) λf s1 q=>?_);cases f with
 |next=>exact fj q
 |ret v=>exact q
 |brk=>exact q
 |cont=>exact q
theorem Inv.quiet{pins:k5m}{σ:St}{H:Hp}{s:aq}(I:Inv X pins σ H s):interactive X.env=af:=by simp[interactive,I.ok.kind]
def jfg(te:TE):TS:=λD σ H=>te σ H λ_ H1=>D.nx σ H1
theorem Ow(he:PE X e te)(hs:aR e ah pos.line X.env=pure af:=by rfl):PS X (.Expr e pos) (jfg te):=by intro pins s σ H D I h;exact wpAny_Expr_any (thn (he pins s σ H _ I h) λv s1 ⟨x,H1,I1,r1,q1⟩=>⟨σ,H1,I1,q1⟩) I.quiet hs
def jhy(te:TE):TS:=λD σ H=>te σ H D.rt
theorem Ze(he:PE X e te):PS X (.Return (ae e) pos) (jhy te):=by intro pins s σ H D I h;exact wpAny_Return_some (thn (he pins s σ H _ I h) λv s1 ⟨x,H1,I1,r1,q1⟩=>⟨x,σ,H1,H1,I1,r1,.refl,q1⟩)
def ji2(c:TT)(t u:TS):TS:=λD σ H=>c σ H λb H1=>if b=ag then t D σ H1 else u D σ H1
theorem Dg{c:ar}{a b:List aP}{tc:TT}(hc:PT X c tc)(ha:PSs X a t)(hb:PSs X b u):PS X (.If c a b pos) (ji2 tc t u):=by
 intro pins s σ H D I h;refine wpAny_If (thn (hc pins s σ H _ I h) λd s1 ⟨H1,I1,q1⟩=>?_);cases d with
 |true=>exact ha pins s1 σ H1 D I1 q1
 |false=>exact hb pins s1 σ H1 D I1 q1
end
abbrev TG:=V->St->Hp->(St->Hp->Prop)->Prop
def PG(X:Cx)(target:ar)(t:TG):Prop :=
 ∀(pins:k5m) (s:aq) (σ:St) (H:Hp) (v:V) (u:aj) (Q:St->Hp->Prop),Inv X pins σ H s->RelV v u->t v σ H Q ->
  aC (aB X.prog X.w) X.A (fJ target X.env u) (λ_ s'=>∃σ' H',Inv X pins σ' H' s'/\Q σ' H') X.xe s
section
variable{X:Cx}{pos:aQ}
def j80(i:Nat):TG:=λv σ H Q=>Q (σ.set i (ae v)) H
theorem j94{i:Nat}{x:ao}(hN:X.N.Nodup)(hi:X.N[i]?=ae x)(hx:Loc X.env.scope x)(hf:X.fn x=ag\/X.env.scope.names.lookup x=ae .local:=by first|exact .inl rfl|exact .inr rfl|assumption):PG X (.Name x pos) (j80 i):=by intro pins s σ H v u Q I r h;exact iv (Dw I hN hi hx r (λs' I'=>⟨_,H,I',h⟩) hf)
def ji5(te:TE)(g:TG):TS:=λD σ H=>te σ H λx H1=>g x σ H1 D.nx
theorem Zd{i:Nat}{x:ao}{e:ar}{te:TE}{pos':aQ}(hN:X.N.Nodup)(hi:X.N[i]?=ae x)(hx:Loc X.env.scope x)(he:PE X e te)(hs:aR e (ae (.Name x pos')) pos.line X.env=pure af:=by rfl)(hf:X.fn x=ag\/X.env.scope.names.lookup x=ae .local:=by first|exact .inl rfl|exact .inr rfl|assumption) :
  PS X (.Assign [.Name x pos'] e pos) (ji5 te (j80 i)):=by
 intro pins s σ H D I h;refine wpAny_Assign_Name (thn (he pins s σ H _ I h) λv s1 ⟨y,H1,I1,r1,q1⟩=>?_) hs;exact Dw I1 hN hi hx r1 (λs2 I2=>⟨_,H1,I2,q1⟩) hf
end
section
variable{X:Cx}{pos:aQ}
end
structure It where
 go:Nat->Hp->Prop
 yld:Nat->Hp->V->Hp->Prop
 stop:Nat->Hp->Prop
def W6(X:Cx)(pins:k5m)(H:Hp)(b:ak):Prop :=
 H b=ah/\b≠X.env.locals/\b∉X.fs/\(b∈X.ex\/X.s₀.heap.objs.size<=b)/\(∀x c,X.env.cells.lookup x=ae c->c≠b)/\∀p∈X.pn++pins,p.1≠b
theorem Inv.fpOk{X:Cx}{pins:k5m}{σ:St}{H H':Hp}{s:aq}{b:ak}(I:Inv X pins σ H s)(hb:s.heap.objs.size<=b)(hn:H' b=ah):W6 X pins H' b:=by
 refine⟨hn,dh (Xa I.lt hb),I.nofs hb,.inr (X8 I.sz hb),λx c e z=>?_,λp hp z=>?_⟩
 .obtain⟨v,q⟩:=I.cell x c e;exact absurd (Xa q.lt (by rw[z];exact hb)) (pq _)
 .exact absurd (Xa (xq (I.pin p hp).1) (by rw[z];exact hb)) (pq _)
structure Turn(P:ay)(w:aE)(K:k5k)(tg:ar)(J:It)(fp:List ak)(it:ak)(tn:Nat->aK->Prop):Prop where
 mem:it∈fp
 obj:∀i h,tn i h->∀b∈fp,∃o,h.get? b=ae o/\∀v,o.data≠.cell v
 keep:∀i h h',tn i h->(∀b∈fp,∀o,h.get? b=ae o->h'.get? b=ae o)->tn i h'
 item:∀(X:Cx),X.prog=P->X.w=w->X.K=K->X.calm=ag->∀(i:Nat)(pins:k5m) (s:aq) (σ:St) (H:Hp) (E:k5l),Inv X pins σ H s->(∀b∈fp,W6 X pins H b)->tn i s.heap->J.go i H ->
  aC (aB P w) X.A (pyNext (.ref it)) (λr s1=>∃u,r=ae u /\
   aC (aB P w) X.A (dB tg (.ref it) u) (λ_ s2=>∃x H',Inv X pins σ H' s2/\RelV x u/\J.yld i H x H'/\tn (i+1) s2.heap/\∀b∈fp,H' b=ah) E s1) E s
 done:∀(X:Cx),X.prog=P->X.w=w->X.K=K->X.calm=ag->∀(i:Nat)(pins:k5m) (s:aq) (σ:St) (H:Hp) (E:k5l),Inv X pins σ H s->(∀b∈fp,W6 X pins H b)->tn i s.heap->J.stop i H ->
  aC (aB P w) X.A (pyNext (.ref it)) (λr s1=>r=ah/\Inv X pins σ H s1) E s
 self:∀(A:aF)(i:Nat)(s:aq)(Q:k5l)(E:k5l),tn i s.heap->Q (.ref it) s->aC (aB P w) A (jN (.ref it)) Q E s
abbrev TI:=St->Hp->(It->Hp->Prop)->Prop
def PIE(X:Cx)(pins:k5m)(σ:St)(tg:ar)(R:It->Hp->Prop)(itv:aj)(s2:aq):Prop :=
 ∃(it:ak)(fp:List ak)(tn:Nat->aK->Prop)(J:It)(H':Hp),itv=.ref it/\Inv X pins σ H' s2/\Turn X.prog X.w X.K tg J fp it tn/\tn 0 s2.heap/\(∀b∈fp,W6 X pins H' b)/\R J H'
def PI(X:Cx)(tg iter:ar)(wi:TI):Prop :=
 ∀(pins:k5m) (s:aq) (σ:St) (H:Hp) (R:It->Hp->Prop),Inv X pins σ H s->wi σ H R ->
  aC (aB X.prog X.w) X.A (aH iter X.env) (λv s1=>aC (aB X.prog X.w) X.A (jN v) (PIE X pins σ tg R) X.xe s1) X.xe s
theorem Dk{M:gk}{A:aF}{E:k5l}{s:aq}{tg:ar}{it:ak}{u:aj}{o:cy}{n:String}{vs:Array aj}{Q:Unit->aq->Prop}(ho:s.heap.get? it=ae o)(hc:o.cls=.type n)(hd:o.data=.fields vs)
  (hn:["enumerate","zip","dict_itemiterator","dict_reverseitemiterator","odict_iterator","itertools.zip_longest","itertools.pairwise"].contains n=af) (hQ:Q () s):aC M A (dB tg (.ref it) u) Q E s:=by
 unfold dB;cases tg<;>first
  |exact aG hQ
  |(cases u<;>first
    |exact aG hQ
    |(refine az (wpAny_load ho ?_);rw[hc,hd];show aC M A (if (["enumerate","zip","dict_itemiterator","dict_reverseitemiterator","odict_iterator","itertools.zip_longest","itertools.pairwise"].contains n&&vs[0]?==ae (rawInt _))=ag then _ else _) Q E s;rw[if_neg (by intro h;rw[hn,i0]at h;cases h)];exact aG hQ))
noncomputable def Itl(K:k5k)(a:ak):It :=
 ⟨λi H=>∃xs x,SqL K H a xs/\xs[i]?=ae x,λi H x H'=>H'=H/\∀xs,SqL K H a xs->xs[i]?=ae x,λi H=>∃xs,SqL K H a xs/\xs.length<=i⟩
noncomputable def Itt(K:k5k)(a:ak):It :=
 ⟨λi H=>∃xs x,SqT K H a xs/\xs[i]?=ae x,λi H x H'=>H'=H/\∀xs,SqT K H a xs->xs[i]?=ae x,λi H=>∃xs,SqT K H a xs/\xs.length<=i⟩
noncomputable def Itr(lo:Int)(n:Nat):It:=⟨λi _=>i<n,λi H x H'=>H'=H/\x=.int (lo+i),λi _=>n<=i⟩
theorem j1s{P:ay}{w:aE}{K:k5k}{tg:ar}(a it:ak):Turn P w K tg (Itl K a) [it] it (λi h=>h.IsListIter it a i) where
 mem:=by simp
 obj:=λi h st b hb=>by
  have e:b=it:=by simpa using hb
  subst e;obtain⟨o,e,c,d⟩:=st;exact⟨o,e,λv z=>by rw[d]at z;cases z⟩
 keep:=λi h h' st k=>st.at λo e=>k it (by simp) o e
 item:=by intro X hP hw hK hc i pins s σ H E I hf st hg;subst hP hw hK;obtain⟨xs,x,hq,hx⟩:=hg;obtain⟨its,rv,p,hz⟩:=I.list hq;obtain⟨u,hu,ru⟩:=rv.get hx;obtain⟨f0,f1,f2,f3,f4,f5⟩:=hf it (by simp);refine wpAny_pyNext_list_item st p.isList (x:=u) (by simpa using hu) λh' st' sb=>?_;have I1:Inv X pins σ H { s with heap:=h' }:=I.turned (t':=s.toks) (λb o hb e=>(sb.2 b hb).trans e) f0 f1 f3 f4 f5;obtain⟨o,e,c,d⟩:=id st';exact⟨u,rfl,Dk (s:={ s with heap:=h' }) e c d (by decide) ⟨x,H,I1,ru,⟨rfl,λys hy=>by rw[I.list_inj hy hq];exact hx⟩,st',λb hb=>(hf b hb).1⟩⟩
 done:=by intro X hP hw hK hc i pins s σ H E I hf st hg;subst hP hw hK;obtain⟨xs,hq,hx⟩:=hg;obtain⟨its,rv,p,hz⟩:=I.list hq;obtain⟨f0,f1,f2,f3,f4,f5⟩:=hf it (by simp);have hl:=rv.length;exact wpAny_pyNext_list_end (I.ok.hd hc) st p.isList (by simp;omega) λh' eb=>⟨rfl,I.turned (t':=s.toks) (λb o hb e=>eb b o hb e) f0 f1 f3 f4 f5⟩
 self:=λ_ _ _ _ _ st h=>wpAny_pyIter_listiter st h
theorem j01{P:ay}{w:aE}{K:k5k}{tg:ar}(a it:ak):Turn P w K tg (Itt K a) [it] it (λi h=>h.IsTupleIter it a i) where
 mem:=by simp
 obj:=λi h st b hb=>by
  have e:b=it:=by simpa using hb
  subst e;obtain⟨o,e,c,d⟩:=st;exact⟨o,e,λv z=>by rw[d]at z;cases z⟩
 keep:=λi h h' st k=>st.at λo e=>k it (by simp) o e
 item:=by intro X hP hw hK hc i pins s σ H E I hf st hg;subst hP hw hK;obtain⟨xs,x,hq,hx⟩:=hg;obtain⟨its,rv,p,hz⟩:=I.tuple hq;obtain⟨u,hu,ru⟩:=rv.get hx;obtain⟨f0,f1,f2,f3,f4,f5⟩:=hf it (by simp);refine wpAny_pyNext_tuple_item st (show s.heap.IsTuple a its.toArray from p) (x:=u) (by simpa using hu) λh' st' sb=>?_;have I1:Inv X pins σ H { s with heap:=h' }:=I.turned (t':=s.toks) (λb o hb e=>(sb.2 b hb).trans e) f0 f1 f3 f4 f5;obtain⟨o,e,c,d⟩:=id st';exact⟨u,rfl,Dk (s:={ s with heap:=h' }) e c d (by decide) ⟨x,H,I1,ru,⟨rfl,λys hy=>by rw[I.tuple_inj hy hq];exact hx⟩,st',λb hb=>(hf b hb).1⟩⟩
 done:=by intro X hP hw hK hc i pins s σ H E I hf st hg;subst hP hw hK;obtain⟨xs,hq,hx⟩:=hg;obtain⟨its,rv,p,hz⟩:=I.tuple hq;obtain⟨f0,f1,f2,f3,f4,f5⟩:=hf it (by simp);have hl:=rv.length;exact wpAny_pyNext_tuple_end (I.ok.hd hc) st (show s.heap.IsTuple a its.toArray from p) (by simp;omega) λh' eb=>⟨rfl,I.turned (t':=s.toks) (λb o hb e=>eb b o hb e) f0 f1 f3 f4 f5⟩
 self:=λ_ _ _ _ _ st h=>wpAny_pyIter_tupleiter st h
theorem j02{P:ay}{w:aE}{K:k5k}{tg:ar}(it:ak)(lo:Int)(n:Nat):Turn P w K tg (Itr lo n) [it] it (λi h=>IsRangeIter h it (lo+(i:Nat)*1) ((n:Int)-(i:Nat)) 1) where
 mem:=by simp
 obj:=λi h st b hb=>by
  have e:b=it:=by simpa using hb
  subst e;exact⟨_,st,λv z=>by
   have z':Data.fields _=Data.cell v:=z
   cases z'⟩
 keep:=λi h h' st k=>k it (by simp) _ st
 item:=by intro X hP hw hK hc i pins s σ H E I hf st hg;subst hP hw hK;obtain⟨f0,f1,f2,f3,f4,f5⟩:=hf it (by simp);have W:=Walks.range (prog:=X.prog) (w:=X.w) (I.ok.hd hc) it lo 1 n;refine W.item i s _ _ hg st λv h' tk hv st' kk=>?_;obtain⟨t,rfl⟩:=hv;have I1:Inv X pins σ H { s with heap:=h',toks:=tk }:=I.turned (λb o hb e=>kk b o (by simpa using hb) e) f0 f1 f3 f4 f5;refine⟨_,rfl,Dk (s:={ s with heap:=h',toks:=tk }) (n:="range_iterator") st' rfl rfl (by decide) ⟨.int (lo+i),H,I1,⟨t,?_⟩,⟨rfl,rfl⟩,st',λb hb=>(hf b hb).1⟩⟩;rw[Int.mul_one]
 done:=by intro X hP hw hK hc i pins s σ H E I hf st hg;subst hP hw hK;obtain⟨f0,f1,f2,f3,f4,f5⟩:=hf it (by simp);exact wpAny_pyNext_range_end (I.ok.hd hc) st (by have:n<=i:=hg;omega) λh' eb=>⟨rfl,I.turned (t':=s.toks) (λb o hb e=>eb b o hb e) f0 f1 f3 f4 f5⟩
 self:=λ_ _ _ _ _ st h=>wpAny_pyIter_rangeiter st h
section
variable{X:Cx}{tg:ar}
def jgw(K:k5k)(tl:TE):TI:=λσ H R=>tl σ H λx H1=>∃a,x=.ref a/\(∃xs,SqL K H1 a xs)/\R (Itl K a) H1
def jip(K:k5k)(tl:TE):TI:=λσ H R=>tl σ H λx H1=>∃a,x=.ref a/\(∃xs,SqT K H1 a xs)/\R (Itt K a) H1
theorem j93{l:ar}{tl:TE}(hl:PE X l tl):PI X tg l (jgw X.K tl):=by
 intro pins s σ H R I h;refine thn (hl pins s σ H _ I h) λv s1 ⟨x,H1,I1,r1,q1⟩=>?_;obtain⟨a,e,⟨xs,hq⟩,q⟩:=q1;subst e;cases r1;obtain⟨its,rv,p,hz⟩:=I1.list hq;refine d8 p.isList ?_;refine⟨s1.heap.objs.size,[s1.heap.objs.size],_,_,H1,rfl,I1.kept (t':=s1.toks) λb o e=>xu _ e,j1s a _,⟨_,Xe _ rfl,rfl,rfl⟩,λb hb=>?_,q⟩;have e:b=s1.heap.objs.size:=by simpa using hb
 subst e;exact I1.fpOk (X4 _) (I1.hok.fresh (X4 _))
theorem jc1{l:ar}{tl:TE}(hl:PE X l tl):PI X tg l (jip X.K tl):=by
 intro pins s σ H R I h;refine thn (hl pins s σ H _ I h) λv s1 ⟨x,H1,I1,r1,q1⟩=>?_;obtain⟨a,e,⟨xs,hq⟩,q⟩:=q1;subst e;cases r1;obtain⟨its,rv,p,hz⟩:=I1.tuple hq;refine i7 (show s1.heap.IsTuple a its.toArray from p) ?_;refine⟨s1.heap.objs.size,[s1.heap.objs.size],_,_,H1,rfl,I1.kept (t':=s1.toks) λb o e=>xu _ e,j01 a _,⟨_,Xe _ rfl,rfl,rfl⟩,λb hb=>?_,q⟩;have e:b=s1.heap.objs.size:=by simpa using hb
 subst e;exact I1.fpOk (X4 _) (I1.hok.fresh (X4 _))
theorem Cu{pins:k5m}{σ:St}{H:Hp}{s:aq}{R:It->Hp->Prop}{E:k5l}{lo hi:Int}{t u v:ib}{tk:Nat}(I:Inv X pins σ H s)(h1:-(2^62)<=lo)(h2:lo<2^62)(h3:-(2^62)<=hi)(h4:hi<2^62)
  (q:R (Itr lo (hi-lo).toNat) H):aC (aB X.prog X.w) X.A (jN (.ref s.heap.objs.size)) (PIE X pins σ tg R) E { s with heap:=s.heap.push { cls:=.type "range",data:=.fields #[.int lo t,.int hi u,.int 1 v] },toks:=tk }:=by
 refine wpAny_pyIter_range (IsRange.new ..) (small_one h1 h2 h3 h4) ?_;have I1:Inv X pins σ H { s with heap:=s.heap.push { cls:=.type "range",data:=.fields #[.int lo t,.int hi u,.int 1 v] },toks:=tk }:=I.kept λb o e=>xu _ e;refine⟨(s.heap.push { cls:=.type "range",data:=.fields #[.int lo t,.int hi u,.int 1 v] }).objs.size,[(s.heap.push { cls:=.type "range",data:=.fields #[.int lo t,.int hi u,.int 1 v] }).objs.size],_,_,H,rfl,
  I1.kept (t':=tk) λb o e=>xu _ e,j02 _ lo (hi-lo).toNat,?_,λb hb=>?_,q⟩
 .have e1:lo+((0:Nat):Int)*1=lo:=by simp
  have e2:(((hi-lo).toNat:Nat):Int)-((0:Nat):Int)=Builtin.Range.rangeSize lo hi 1:=by rw[rangeSize_one];split<;>omega
  show IsRangeIter _ _ (lo+((0:Nat):Int)*1) ((((hi-lo).toNat:Nat):Int)-((0:Nat):Int)) 1;rw[e1,e2];exact Xe _ rfl
 .have e:b=(s.heap.push { cls:=.type "range",data:=.fields #[.int lo t,.int hi u,.int 1 v] }).objs.size:=by simpa using hb
  subst e;exact I1.fpOk (X4 _) (I1.hok.fresh (X4 _))
def jgv(ta:TA):TI:=λσ H R=>ta σ H λvs H1=>∃j:Int,vs=[.int j]/\-(2^62)<=j/\j<2^62/\R (Itr 0 j.toNat) H1
def jgu(ta:TA):TI:=λσ H R=>ta σ H λvs H1=>∃i j:Int,vs=[.int i,.int j]/\(-(2^62)<=i/\i<2^62/\-(2^62)<=j/\j<2^62)/\R (Itr i (j-i).toNat) H1
theorem j2i {a:ar} {ta:TA} {p pos:aQ} (hg:Gl X "range") (hm:X.mg "range" = ah) (ha:PA X [a] ta) (hs:ai [a] X.env=[(af,aH a X.env)]:=by rfl):PI X tg (.Call (.Name "range" p) [a] [] pos) (jgv ta):=by
 intro pins s σ H R I h;refine Call_ (Uu I hg hm boot_range (callWith_type1 (thn (ha pos pins s σ H _ I h) λus s1 ⟨vs,H1,I1,r1,q1⟩=>?_) hs rfl));obtain⟨j,e,q1,q2,q⟩:=q1;subst e;cases r1 with
 |cons r rr =>cases rr;obtain⟨t,rfl⟩:=r;exact call_range_1 (Cu I1 nofun nofun q1 q2 (by simpa using q))
theorem j2h {a b:ar} {ta:TA} {p pos:aQ} (hg:Gl X "range") (hm:X.mg "range" = ah) (ha:PA X [a,b] ta) (hs:ai [a,b] X.env=[(af,aH a X.env),(af,aH b X.env)]:=by rfl) (hs2:ai [b] X.env=[(af,aH b X.env)]:=by rfl) :
  PI X tg (.Call (.Name "range" p) [a,b] [] pos) (jgu ta):=by
 intro pins s σ H R I h;refine Call_ (Uu I hg hm boot_range (callWith_type1 (thn (ha pos pins s σ H _ I h) λus s1 ⟨vs,H1,I1,r1,q1⟩=>?_) (by rw[hs,hs2]) (by rw[hs2];rfl)));obtain⟨i,j,e,⟨q1,q2,q3,q4⟩,q⟩:=q1;subst e;cases r1 with
 |cons r rr =>
  cases rr with
  |cons r' rr =>cases rr;obtain⟨t,rfl⟩:=r;obtain⟨t',rfl⟩:=r';exact call_range_2 (Cu I1 q1 q2 q3 q4 q)
def ji3(wi:TI)(g:TG)(tb:TS):TS:=λD σ H=>wi σ H λJ H1=>∃W:Nat->Nat->St->Hp->Prop,(∃m,W 0 m σ H1)/\∀i m σ H,W i m σ H ->
 (J.stop i H/\D.nx σ H)\/(J.go i H/\∃N:St->Hp->Prop,(∀σ' H',N σ' H'->∃m',m'<m/\W (i+1) m' σ' H')/\∀x H',J.yld i H x H'->g x σ H' λσ2 H2=>tb { D with nx:=N,ct:=N,bk:=D.nx } σ2 H2)
noncomputable def V9(fp:List ak)(h:aK):List (ak×cy):=fp.filterMap λb=>(h.get? b).map λo=>(b,o)
theorem Qm{fp:List ak}{h:aK}{b:ak}{o:cy}(hb:b∈fp)(e:h.get? b=ae o):(b,o)∈V9 fp h:=Ph.mpr ⟨b,hb,by rw[e];rfl⟩
theorem Nb{fp:List ak}{h:aK}{p:ak×cy}(hp:p∈V9 fp h):p.1∈fp/\h.get? p.1=ae p.2:=by
 obtain⟨b,hb,e⟩:=Ph.mp hp;cases q:h.get? b with
 |none=>rw[q]at e;cases e
 |some o =>rw[q]at e;have e':(b,o)=p:=aD e;subst e';exact⟨hb,q⟩
theorem Inv.pinned{pins:k5m}{σ:St}{H:Hp}{s:aq}{fp:List ak}(I:Inv X pins σ H s)(hf:∀b∈fp,W6 X pins H b)(ho:∀b∈fp,∃o,s.heap.get? b=ae o/\∀v,o.data≠.cell v):Inv X (pins++V9 fp s.heap) σ H s :=
 I.pins_of λp hp=>(Xp.mp hp).elim (λz=>I.pin p (Xd _ z)) λz=>by obtain⟨hb,e⟩:=Nb z;obtain⟨f0,f1,f2,_⟩:=hf p.1 hb;obtain⟨o,e',d⟩:=ho p.1 hb;rw[e]at e';cases e';exact⟨e,f0,f1,f2,d⟩
theorem Inv.unpinned{pins pl:k5m}{σ:St}{H:Hp}{s:aq}(I:Inv X (pins++pl) σ H s):Inv X pins σ H s:=I.pins_of λp hp=>I.pin p (Xd _ (Xu _ hp))
theorem jbz{iter:ar}{body:List aP}{wi:TI}{g:TG}{tb:TS}{pos:aQ}(hp:eX (aB X.prog X.w) X.A X.env X.xe)(hc:X.calm=ag)(hi:PI X tg iter wi)(hg:PG X tg g)(hb:PSs X body tb)
  (hs:∀x,aW iter X.env x=pure x:=by intro _;rfl):PS X (.For tg iter body [] pos) (ji3 wi g tb):=by
 intro pins s σ H D I h;refine wpAny_For (thn (hi pins s σ H _ I h) λv s1 h1=>thn h1 λitv s2 h2=>?_) hs;obtain⟨it,fp,tn,J,H2,e,I2,T,st2,f2,W,⟨m0,w0⟩,turn⟩:=h2;subst e;have stat:∀{H':Hp},(∀b∈fp,H' b=ah)->∀b∈fp,W6 X pins H' b:=λhn b hb=>⟨hn b hb,(f2 b hb).2⟩
 refine codeAny_forLoop_any (λn s'=>∃i σ' H',Inv X pins σ' H' s'/\tn i s'.heap/\(∀b∈fp,H' b=ah)/\W i n σ' H') ?_ m0 ⟨0,σ,H2,I2,st2,λb hb=>(f2 b hb).1,w0⟩;rintro n s3 ⟨i,σ3,H3,I3,st3,fr3,w3⟩;rcases turn i n σ3 H3 w3 with ⟨stop,qn⟩|⟨go,N,hN,step⟩
 .refine cN hp (thn (T.done X rfl rfl rfl hc i pins s3 σ3 H3 X.xe I3 (stat fr3) st3 stop) λr s4 ⟨hr,I4⟩=>?_);subst hr;exact fj ⟨σ3,H3,I4,qn⟩
 .refine cN hp (thn (T.item X rfl rfl rfl hc i pins s3 σ3 H3 X.xe I3 (stat fr3) st3 go) λr s4 ⟨u,hr,h4⟩=>?_);subst hr;refine cN hp (thn h4 λ_ s5 ⟨x,H5,I5,r5,y5,st5,fr5⟩=>?_);have I5':=I5.pinned (stat fr5) (T.obj _ _ st5);refine cN hp (thn (hg _ s5 σ3 H5 x u _ I5' r5 (step x H5 y5)) λ_ s6 ⟨σ6,H6,I6,q6⟩=>?_);refine cN hp (thn (hb _ s6 σ6 H6 _ I6 q6) λf s7 q7=>?_);have iA:∀{σ7:St}{H7:Hp},Inv X (pins++V9 fp s5.heap) σ7 H7 s7->N σ7 H7->∃m,m<n/\∃i σ' H',Inv X pins σ' H' s7/\tn i s7.heap/\(∀b∈fp,H' b=ah)/\W i m σ' H':=λ{σ7 H7} I7 n7=>by obtain⟨m',hm,w7⟩:=hN σ7 H7 n7;refine⟨m',hm,i+1,σ7,H7,I7.unpinned,T.keep _ _ _ st5 λb hb o e=>(I7.pin (b,o) (Xd _ (Xd _ (Qm hb e)))).1,λb hb=>?_,w7⟩;obtain⟨o,e,d⟩:=T.obj _ _ st5 b hb;exact(I7.pin (b,o) (Xd _ (Xd _ (Qm hb e)))).2.1
  cases f with
  |next=>obtain⟨σ7,H7,I7,n7⟩:=q7;exact iA I7 n7
  |cont=>obtain⟨σ7,H7,I7,n7⟩:=q7;exact iA I7 n7
  |brk=>obtain⟨σ7,H7,I7,q7⟩:=q7;exact⟨σ7,H7,I7.unpinned,q7⟩
  |ret v=>obtain⟨x7,σ7,H7,H8,I7,r7,x8,q7⟩:=q7;exact⟨x7,σ7,H7,H8,I7.unpinned,r7,x8,q7⟩
end
abbrev R2:=V->V->Hp->VK->Prop
def OpR(X:Cx)(f:aj->aj->iB aj)(r:R2):Prop :=
 ∀(pins:k5m) (s:aq) (σ:St) (H:Hp) (x y:V) (v u:aj) (Q:VK),Inv X pins σ H s->RelV x v->RelV y u->r x y H Q ->
  aC (aB X.prog X.w) X.A (f v u) (EP X pins σ Q) X.xe s
def UnR(X:Cx)(f:aj->iB aj)(r:V->Hp->VK->Prop):Prop :=
 ∀(pins:k5m) (s:aq) (σ:St) (H:Hp) (x:V) (v:aj) (Q:VK),Inv X pins σ H s->RelV x v->r x H Q ->
  aC (aB X.prog X.w) X.A (f v) (EP X pins σ Q) X.xe s
def vm(X:Cx)(f:aj)(r:List V->Hp->VK->Prop):Prop :=
 ∀(pins:k5m) (s:aq) (σ:St) (H:Hp) (xs:List V) (us:List aj) (Q:VK),Inv X pins σ H s->Vals xs us->r xs H Q ->
  aC (aB X.prog X.w) X.A (call f us) (EP X pins σ Q) X.xe s
def tOp(r:R2)(ta tb:TE):TE:=λσ H Q=>ta σ H λx H1=>tb σ H1 λy H2=>r x y H2 Q
def tUn(r:V->Hp->VK->Prop)(ta:TE):TE:=λσ H Q=>ta σ H λx H1=>r x H1 Q
def rI(C:Int->Int->Prop)(g:Int->Int->V):R2:=λx y H Q=>∃i j,x=.int i/\y=.int j/\C i j/\Q (g i j) H
def rI0(g:Int->Int->V):R2:=λx y H Q=>∃i j,x=.int i/\y=.int j/\Q (g i j) H
def rU(g:Int->V):V->Hp->VK->Prop:=λx H Q=>∃i,x=.int i/\Q (g i) H
section
variable{X:Cx}{a b c:ar}{ta tb tc:TE}{pos:aQ}
theorem j73(ha:PE X a ta)(hb:PE X b tb){pins:k5m}{s:aq}{σ:St}{H:Hp}{R:V->V->Hp->Prop}(I:Inv X pins σ H s)
  (h:ta σ H λx H1=>tb σ H1 λy H2=>R x y H2) {Q:k5l} {f:aj->aj->iB aj}
  (hf:∀v u s2 x y H2,Inv X pins σ H2 s2->RelV x v->RelV y u->R x y H2->aC (aB X.prog X.w) X.A (f v u) Q X.xe s2) :
  aC (aB X.prog X.w) X.A (aH a X.env) (λv s₁=>aC (aB X.prog X.w) X.A (aH b X.env) (λu s₂=>aC (aB X.prog X.w) X.A (f v u) Q X.xe s₂) X.xe s₁) X.xe s:=by
 refine thn (ha pins s σ H _ I h) λv s1 ⟨x,H1,I1,r1,q1⟩=>?_;refine thn (hb pins s1 σ H1 _ I1 q1) λu s2 ⟨y,H2,I2,r2,q2⟩=>?_;exact hf v u s2 x y H2 I2 r1 r2 q2
theorem Zv{op:gX}{r:R2}(ho:OpR X (aZ op) r)(ha:PE X a ta)(hb:PE X b tb):PE X (.BinOp a op b pos) (tOp r ta tb):=by intro pins s σ H Q I h;exact wpAny_BinOp (j73 ha hb I h λv u s2 x y H2 I2 rx ry q=>ho pins s2 σ H2 x y v u Q I2 rx ry q)
theorem jg2{op:UnaryOp}{r:V->Hp->VK->Prop}(ho:UnR X (unaryOp op) r)(ha:PE X a ta):PE X (.UnaryOp op a pos) (tUn r ta):=by intro pins s σ H Q I h;exact UnaryOp_ (thn (ha pins s σ H _ I h) λv s1 ⟨x,H1,I1,r1,q1⟩=>ho pins s1 σ H1 x v Q I1 r1 q1)
theorem opI{f:aj->aj->iB aj}{C:Int->Int->Prop}{g:Int->Int->Int}
  (iQ:∀(i j:Int)(t u:ib)(s:aq)(Q:k5l)(E:k5l),C i j->Q (.int (g i j) s.toks) { s with toks:=s.toks+1 }->aC (aB X.prog X.w) X.A (f (.int i t) (.int j u)) Q E s) :
  OpR X f (rI C λi j=>.int (g i j)):=by
 intro pins s σ H x y v u Q I rx ry h;obtain⟨i,j,rfl,rfl,hc,q⟩:=h;obtain⟨t,rfl⟩:=rx;obtain⟨t',rfl⟩:=ry;exact iQ i j t t' s _ _ hc ⟨.int (g i j),H,I.tok _,⟨_,rfl⟩,q⟩
theorem j0s{f:aj->aj->iB aj}{g:Int->Int->Int}
  (iQ:∀(i j:Int)(t u:ib)(s:aq)(Q:k5l)(E:k5l),Q (.int (g i j) s.toks) { s with toks:=s.toks+1 }->aC (aB X.prog X.w) X.A (f (.int i t) (.int j u)) Q E s) :
  OpR X f (rI0 λi j=>.int (g i j)):=by
 intro pins s σ H x y v u Q I rx ry h;obtain⟨i,j,rfl,rfl,q⟩:=h;obtain⟨t,rfl⟩:=rx;obtain⟨t',rfl⟩:=ry;exact iQ i j t t' s _ _ ⟨.int (g i j),H,I.tok _,⟨_,rfl⟩,q⟩
theorem j0t{f:aj->aj->iB aj}{g:Int->Int->Bool}
  (iQ:∀(i j:Int)(t u:ib)(s:aq)(Q:k5l)(E:k5l),Q (.bool (g i j)) s->aC (aB X.prog X.w) X.A (f (.int i t) (.int j u)) Q E s) :
  OpR X f (rI0 λi j=>.bl (g i j)):=by
 intro pins s σ H x y v u Q I rx ry h;obtain⟨i,j,rfl,rfl,q⟩:=h;obtain⟨t,rfl⟩:=rx;obtain⟨t',rfl⟩:=ry;exact iQ i j t t' s _ _ ⟨.bl (g i j),H,I,rfl,q⟩
def j1n(i j:Int):Prop:=0<=j/\j<=1000000/\i.natAbs<2^64
def j1o(i j:Int):Prop:=(-(2^64)<i/\i<2^64)\/(-(2^64)<j/\j<2^64)
theorem j1o.ok{i j:Int}(h:j1o i j):IntMulOk i j:=by
 rcases h with ⟨h1,h2⟩|⟨h1,h2⟩
 .exact .of_left (jS h1 h2)
 .exact .of_right (jS h1 h2)
theorem j00(k:Nat):(0:Int)<=2^k:=by rw[two_pow_cast];exact dQ _
theorem j2p:OpR X (aZ .Add) (rI0 λi j=>.int (i+j)):=j0s λ_ _ _ _ _ _ _ q=>add_int q
theorem jc9:OpR X (aZ .Sub) (rI0 λi j=>.int (i-j)):=j0s λ_ _ _ _ _ _ _ q=>sub_int q
theorem jce:OpR X (aZ .Mult) (rI j1o λi j=>.int (i*j)):=opI λ_ _ _ _ _ _ _ hc q=>mul_int q hc.ok
theorem jcf:OpR X (aZ .Mod) (rI (λ_ j=>0<j) λi j=>.int (i%j)):=opI λi j _ _ _ _ _ hc q=>by have h1:(0:Int)<j:=hc;exact mod_int' nofun (by rw[Int.fmod_eq_emod_of_nonneg i nofun];exact q)
theorem jcd:OpR X (aZ .Pow) (rI j1n λi j=>.int (i^j.toNat)):=opI λ_ _ _ _ _ _ _ hc q=>pow_int_small hc.1 hc.2.1 hc.2.2 q
theorem jcb:OpR X (aZ .LShift) (rI j1n λi j=>.int (i*2^j.toNat)):=opI λ_ _ _ _ _ _ _ hc q=>lshift_int_small hc.1 hc.2.1 hc.2.2 q
theorem jca:OpR X (aZ .RShift) (rI (λ_ j=>0<=j) λi j=>.int (i/2^j.toNat)):=opI λi j _ _ _ _ _ hc q =>rshift_int hc (by rw[eZ i (j00 _)];exact q)
theorem jcg:OpR X (aZ .BitAnd) (rI0 λi j=>.int (Builtin.bitAnd i j)):=j0s λ_ _ _ _ _ _ _ q=>and_int q
theorem jc8:OpR X (aZ .BitXor) (rI0 λi j=>.int (Builtin.bitXor i j)):=j0s λ_ _ _ _ _ _ _ q=>xor_int q
theorem unI{f:aj->iB aj}{g:Int->Int}
  (iQ:∀(i:Int)(t:ib)(s:aq)(Q:k5l)(E:k5l),Q (.int (g i) s.toks) { s with toks:=s.toks+1 }->aC (aB X.prog X.w) X.A (f (.int i t)) Q E s) :
  UnR X f (rU λi=>.int (g i)):=by
 intro pins s σ H x v Q I rx h;obtain⟨i,rfl,q⟩:=h;obtain⟨t,rfl⟩:=rx;exact iQ i t s _ _ ⟨.int (g i),H,I.tok _,⟨_,rfl⟩,q⟩
theorem jb2:UnR X (unaryOp .USub) (rU λi=>.int (-i)):=unI λ_ _ _ _ _ q=>neg_int q
end
noncomputable def Ov:V->V->Bool
 |.non,.non=>ag|.non,.int _=>ag|.int _,.non=>ag|.non,.bl _=>ag|.bl _,.non=>ag|.non,.str _=>ag|.str _,.non=>ag
 |.int _,.int _=>ag|.bl _,.bl _=>ag|.str _,.str _=>ag|.byt _,.byt _=>ag
 |.int _,.str _=>ag|.str _,.int _=>ag|.bl _,.str _=>ag|.str _,.bl _=>ag
 |_,_=>af
def rEq:R2:=λx y H Q=>Ov x y=ag/\Q (.bl (decide (x=y))) H
def rNe:R2:=λx y H Q=>Ov x y=ag/\Q (.bl (!decide (x=y))) H
theorem Eo{i j:Int}:decide (V.int i=V.int j)=(i==j):=by rw[cB];simp
theorem j3j{i j:Bool}:decide (V.bl i=V.bl j)=(i==j):=by rw[cB];simp
theorem Em{i j:ao}:decide (V.str i=V.str j)=(i==j):=by rw[cB];simp
theorem Ep{i j:Array UInt8}:decide (V.byt i=V.byt j)=(i.toList==j.toList):=by rw[cB];cases i;cases j;simp
section
variable{X:Cx}{a b c:ar}{ta tb tc:TE}{pos:aQ}
theorem jx{pins:k5m}{σ:St}{H:Hp}{s:aq}{Q:VK}{k k':Bool}(I:Inv X pins σ H s)(q:Q (.bl k) H)(e:k=k'):EP X pins σ Q (.bool k') s:=by subst e;exact⟨.bl k,H,I,rfl,q⟩
theorem j7p:OpR X (b0 .Eq) rEq:=by
 intro pins s σ H x y v u Q I rx ry h;obtain⟨hs,q⟩:=h;cases x with
 |non =>
  cases rx;cases y with
  |non=>cases ry;exact jv (jx I q (by simp))
  |bl j=>cases ry;exact jB (jx I q (by simp))
  |int j=>obtain⟨t',rfl⟩:=ry;exact jA (jx I q (by simp))
  |str j=>obtain⟨t',rfl⟩:=ry;exact ja (jx I q (by simp))
  |_=>exact absurd (show af=ag from hs) xx
 |bl i =>
  cases rx;cases y with
  |non=>cases ry;exact jD (jx I q (by simp))
  |bl j=>cases ry;exact eq_bool (jx I q j3j)
  |str j=>obtain⟨t',rfl⟩:=ry;exact iK (jx I q (by simp))
  |_=>exact absurd (show af=ag from hs) xx
 |int i =>
  obtain⟨t,rfl⟩:=rx;cases y with
  |non=>cases ry;exact jC (jx I q (by simp))
  |int j=>obtain⟨t',rfl⟩:=ry;exact eq_int (jx I q Eo)
  |str j=>obtain⟨t',rfl⟩:=ry;exact iJ (jx I q (by simp))
  |_=>exact absurd (show af=ag from hs) xx
 |str i =>
  obtain⟨t,rfl⟩:=rx;cases y with
  |non=>cases ry;exact j3 (jx I q (by simp))
  |bl j=>cases ry;exact iI (jx I q (by simp))
  |int j=>obtain⟨t',rfl⟩:=ry;exact iH (jx I q (by simp))
  |str j=>obtain⟨t',rfl⟩:=ry;exact eq_str (jx I q Em)
  |_=>exact absurd (show af=ag from hs) xx
 |byt i =>
  obtain⟨t,rfl⟩:=rx;cases y with
  |byt j=>obtain⟨t',rfl⟩:=ry;exact W.eq_bytes (jx I q Ep)
  |_=>exact absurd (show af=ag from hs) xx
 |_=>cases y<;>exact absurd (show af=ag from hs) xx
theorem j7m:OpR X (b0 .NotEq) rNe:=by
 intro pins s σ H x y v u Q I rx ry h;obtain⟨hs,q⟩:=h;cases x with
 |non =>
  cases rx;cases y with
  |non=>cases ry;exact iX (jx I q (by simp))
  |bl j=>cases ry;exact iZ (jx I q (by simp))
  |int j=>obtain⟨t',rfl⟩:=ry;exact iY (jx I q (by simp))
  |str j=>obtain⟨t',rfl⟩:=ry;exact iW (jx I q (by simp))
  |_=>exact absurd (show af=ag from hs) xx
 |bl i =>
  cases rx;cases y with
  |non=>cases ry;exact j2 (jx I q (by simp))
  |bl j=>cases ry;exact ne_bool (jx I q (congrArg not j3j))
  |str j=>obtain⟨t',rfl⟩:=ry;exact iG (jx I q (by simp))
  |_=>exact absurd (show af=ag from hs) xx
 |int i =>
  obtain⟨t,rfl⟩:=rx;cases y with
  |non=>cases ry;exact j1 (jx I q (by simp))
  |int j=>obtain⟨t',rfl⟩:=ry;exact ne_int (jx I q (congrArg not Eo))
  |str j=>obtain⟨t',rfl⟩:=ry;exact iF (jx I q (by simp))
  |_=>exact absurd (show af=ag from hs) xx
 |str i =>
  obtain⟨t,rfl⟩:=rx;cases y with
  |non=>cases ry;exact iV (jx I q (by simp))
  |bl j=>cases ry;exact iE (jx I q (by simp))
  |int j=>obtain⟨t',rfl⟩:=ry;exact iD (jx I q (by simp))
  |str j=>obtain⟨t',rfl⟩:=ry;exact ne_str (jx I q (congrArg not Em))
  |_=>exact absurd (show af=ag from hs) xx
 |byt i =>
  obtain⟨t,rfl⟩:=rx;cases y with
  |byt j=>obtain⟨t',rfl⟩:=ry;exact W.ne_bytes (jx I q (congrArg not Ep))
  |_=>exact absurd (show af=ag from hs) xx
 |_=>cases y<;>exact absurd (show af=ag from hs) xx
theorem j0p:OpR X (b0 .Lt) (rI0 λi j=>.bl (decide (i<j))):=j0t λ_ _ _ _ _ _ _ q=>lt_int q
theorem j7n:OpR X (b0 .LtE) (rI0 λi j=>.bl (decide (i<=j))):=j0t λ_ _ _ _ _ _ _ q=>le_int q
theorem j7o:OpR X (b0 .Gt) (rI0 λi j=>.bl (decide (j<i))):=j0t λ_ _ _ _ _ _ _ q=>gt_int q
theorem j0q:OpR X (b0 .GtE) (rI0 λi j=>.bl (decide (j<=i))):=j0t λ_ _ _ _ _ _ _ q=>ge_int q
theorem N6:OpR X (b0 .Lt) (λx y H Q=>∃i j,x=.str i/\y=.str j/\Q (.bl (decide (i.cps.toList<j.cps.toList))) H):=by intro pins s σ H x y v u Q I rx ry h;obtain⟨i,j,rfl,rfl,q⟩:=h;obtain⟨t,rfl⟩:=rx;obtain⟨t',rfl⟩:=ry;exact lt_str (jx I q rfl)
theorem N7:OpR X (b0 .In) (λx y H Q=>∃i j,x=.str i/\y=.str j/\Q (.bl (!(bo j i 0 j.length 1).isEmpty)) H):=by intro pins s σ H x y v u Q I rx ry h;obtain⟨i,j,rfl,rfl,q⟩:=h;obtain⟨t,rfl⟩:=rx;obtain⟨t',rfl⟩:=ry;exact in_str (jx I q rfl)
theorem za(b:ar){op:ff}(h:op≠.In:=by decide)(h2:op≠.NotIn:=by decide):aN op b=af:=by
 have e1:(op==CmpOp.In)=af:=by cases op<;>first|rfl|exact absurd rfl h
 have e2:(op==CmpOp.NotIn)=af:=by cases op<;>first|rfl|exact absurd rfl h2
 cases b<;>simp[aN,e1,e2]
theorem J7{op:ff}{r:R2}(ho:OpR X (b0 op) r)(ha:PE X a ta)(hb:PE X b tb)(hm:aN op b=af):PE X (.Compare a [op] [b] pos) (tOp r ta tb):=by intro pins s σ H Q I h;exact jM (j73 ha hb I h λv u s2 x y H2 I2 rx ry q=>ho pins s2 σ H2 x y v u Q I2 rx ry q) hm
def jfb(t:TE):TT:=λσ H Q=>t σ H λx H'=>∃k,x=.bl k/\Q k H'
theorem J5{op:ff}{r:R2}(ho:OpR X (b0 op) r)(ha:PE X a ta)(hb:PE X b tb)(hm:aN op b=af):PT X (.Compare a [op] [b] pos) (jfb (tOp r ta tb)):=by
 intro pins s σ H Q I h;refine gJ (thn (ha pins s σ H _ I h) λv s1 ⟨x,H1,I1,r1,q1⟩=>thn (hb pins s1 σ H1 _ I1 q1) λu s2 ⟨y,H2,I2,r2,q2⟩ =>
  thn (ho pins s2 σ H2 x y v u _ I2 r1 r2 q2) λc s3 ⟨z,H3,I3,r3,k,e,q3⟩=>?_) hm
 subst e;cases r3;exact bN ⟨H3,I3,q3⟩
theorem Ut:(aw:Nat)<2^63:=by rw[bK];decide
theorem j0r:OpR X (aZ .Add) (λx y H Q=>∃i j,x=.str i/\y=.str j/\i.length+j.length<=aw/\Q (.str (i++j)) H):=by intro pins s σ H x y v u Q I rx ry h;obtain⟨i,j,rfl,rfl,hz,q⟩:=h;obtain⟨t,rfl⟩:=rx;obtain⟨t',rfl⟩:=ry;exact add_str (λt' tk=>⟨.str (i++j),H,I.tok _,⟨_,rfl⟩,q⟩) hz
theorem vals1{x:V}{us:List aj}(r:Vals [x] us):∃u,us=[u]/\RelV x u:=by
 cases r with
 |cons r1 r2=>cases r2;exact⟨_,rfl,r1⟩
theorem vals2{x y:V}{us:List aj}(r:Vals [x,y] us):∃u w',us=[u,w']/\RelV x u/\RelV y w':=by
 cases r with
 |cons r1 r2 =>
  cases r2 with
  |cons r3 r4=>cases r4;exact⟨_,_,rfl,r1,r3⟩
theorem j43 (hc:X.calm=ag):vm X (.builtin "max") (λxs H Q=>∃i j,xs=[.int i,.int j]/\Q (.int (if j>i then j else i)) H):=by
 intro pins s σ H xs us Q I r h;obtain⟨i,j,rfl,q⟩:=h;obtain⟨u,w',rfl,⟨t,rfl⟩,⟨t',rfl⟩⟩:=vals2 r;refine max_two_ints (I.ok.hd hc) λh' tk k=>⟨_,H,I.kept k,?_,q⟩
 by_cases hj:j>i
 .rw[if_pos hj,if_pos hj];exact⟨_,rfl⟩
 .rw[if_neg hj,if_neg hj];exact⟨_,rfl⟩
theorem j41 (hc:X.calm=ag):vm X (.builtin "min") (λxs H Q=>∃i j,xs=[.int i,.int j]/\Q (.int (if j<i then j else i)) H):=by
 intro pins s σ H xs us Q I r h;obtain⟨i,j,rfl,q⟩:=h;obtain⟨u,w',rfl,⟨t,rfl⟩,⟨t',rfl⟩⟩:=vals2 r;refine min_two_ints (I.ok.hd hc) λh' tk k=>⟨_,H,I.kept k,?_,q⟩
 by_cases hj:j<i
 .rw[if_pos hj,if_pos hj];exact⟨_,rfl⟩
 .rw[if_neg hj,if_neg hj];exact⟨_,rfl⟩
theorem j46:vm X (.type "int") (λxs H Q=>(∃i,xs=[.int i]/\Q (.int i) H)\/∃k,xs=[.bl k]/\Q (.int (if k then 1 else 0)) H):=by
 intro pins s σ H xs us Q I r h;rcases h with ⟨i,rfl,q⟩|⟨k,rfl,q⟩
 .obtain⟨u,rfl,t,rfl⟩:=vals1 r;exact call_int_int ⟨.int i,H,I,⟨_,rfl⟩,q⟩
 .obtain⟨u,rfl,r1⟩:=vals1 r;cases r1;exact call_int_bool ⟨.int (if k then 1 else 0),H,I.tok _,⟨_,rfl⟩,q⟩
theorem Kd:vm X (.type "str") (λxs H Q=>∃i,xs=[.int i]/\i.natAbs.log2<1920/\Q (.str (toString i)) H):=by intro pins s σ H xs us Q I r h;obtain⟨i,rfl,hz,q⟩:=h;obtain⟨u,rfl,t,rfl⟩:=vals1 r;exact PySem.P.str_of_int hz ⟨.str _,H,I.tok _,⟨_,rfl⟩,q⟩
end
structure ObjM(h:aK)(x dx C:ak)(mA:k5n):Prop where
 obj:h.get? x=ae (W.instObj C dx)
 ns:h.Ns1 dx mA
 ne:dx≠x
theorem j2x{h:aK}{dx:ak}{mA:k5n}(n:h.Ns1 dx mA):∃od,h.get? dx=ae od/\∀name,W.lookIn name od=ae (mA name):=by
 obtain⟨o,es,ep,ho,hd,hk,_,hm⟩:=n;refine⟨o,ho,λname=>?_⟩;have e:=hm name;unfold nsFind findBy at e;rw[<-Array.find?_toList]at e;unfold W.lookIn;rw[hd];dsimp only;split
 .rename_i y q;rw[q]at e;exact congrArg ae e
 .rename_i q;rw[q]at e;have a:es.toList.any (·.refKey)=af:=by rw[gH];intro y hy;obtain⟨z,t,hkey⟩:=hk y (Array.mem_toList_iff.mp hy);simp[DictEntry.refKey,hkey]
  have a':¬es.toList.any (·.refKey)=ag:=by rw[a];exact xx
  rw[if_neg a'];exact congrArg ae e
theorem ObjM.look{h:aK}{x dx C:ak}{mA:k5n}(I:ObjM h x dx C mA):∃od,PySem.W.InstAt h x (W.instObj C dx) C (ae od)/\∀name,W.lookIn name od=ae (mA name) :=
 let ⟨od,ho,hl⟩:=j2x I.ns
 ⟨od,⟨I.obj,rfl,rfl,ho⟩,hl⟩
section
variable{prog:ay}{w:aE}{A:aF}{E:k5l}{s:aq}{K:k5k}{x dx C f:ak}{mA:k5n}{name:ao}{v:aj}
theorem ja8{expr:Bool}{Q:k5l}(X:K.In s.heap)(I:ObjM s.heap x dx C mA)(hg:W.plainGet K C name=ag)(hh:W.hasDictIn K C=ag)
  (ha:W.findIn K (.ref C) name=ae ah) (hv:mA name=ae v) (hv':W.handedIn v=ag) (h:Q v { s with toks:=s.toks+1 }) :
  aC (aB prog w) A (getAttr (.ref x) name expr) Q E s:=by
 obtain⟨od,J,hl⟩:=I.look;exact W.get_value X J (W.plainGet_of hg).1 (W.findObj_own hh ha rfl (by rw[hl,hv])) hv' h
theorem j6h{pl:iB Bool}{Q:aj×List aj->aq->Prop}(X:K.In s.heap)(I:ObjM s.heap x dx C mA)(hg:W.plainGet K C name=ag)
  (hf:W.findIn K (.ref C) name=ae (ae (.ref f))) (ht:W.isFn K (.ref f)=ag) (hv:mA name=ah) (h:Q (.ref f,[.ref x]) s) :
  aC (aB prog w) A (gh (.ref x) name pl) Q E s:=by
 obtain⟨od,J,hl⟩:=I.look;exact W.method_fn X J (W.plainGet_of hg).1 (W.plainGet_of hg).2 hf (beq_iff_eq.mp ht) (by show(W.lookIn name od).map (·.isSome)=ae af;rw[hl,hv];rfl) h
theorem j8m{ns:List ao}{Q:Unit->aq->Prop}(X:K.In s.heap)(I:ObjM s.heap x dx C mA)
  (hs:W.findIn K (.ref C) "__setattr__" = ae (ae (.builtin "object.__setattr__"))) (hp:W.plainOver K C=ag) (ht:W.takerIn K C name=ae ah) (hh:W.hasDictIn K C=ag)
  (hw:fk mA ns) (hsz:ns.length<=aw)
  (h:∀h',ObjM h' x dx C (λy=>if y=name then ae v else mA y)->dR dx s.heap h'->Q () { s with heap:=h',toks:=s.toks+2 }) :
  aC (aB prog w) A (setAttr (.ref x) name v) Q E s:=by
 obtain⟨od,J,hl⟩:=I.look;refine W.set_plain X J hs (W.osa_open (s:={ s with toks:=s.toks+1 }) (r:=ah) X J hp ht λb=>?_);obtain⟨cd,hc,hd'⟩:=W.any_some hh;have hx:s.heap.get? x=ae ⟨.ref C,ae dx,.plain,#[]⟩:=I.obj;refine az (aG (az (az (jL hx (az (iC (s:={ s with toks:=s.toks+1 }) (W.looks_clsIn X hc) ?_))))));rw[hd'];refine aG (a:=ae dx) (az (aG (az ?_)));refine wpAny_nsSet1 (s:={ s with toks:=s.toks+1 }) I.ns λh' hn2 hs2=>?_;obtain⟨oD,esD,epD,hoD,hdD,hcD⟩:=hn2.count (PySem.Within.cons name v hw);refine az (wpAny_lookBehind hoD (by rw[hdD];exact pastItsLine_dict (X8 hcD (by rw[xn];omega))) ?_);exact aG (h _ ⟨(hs2.2 _ (dH I.ne)).trans I.obj,hn2,I.ne⟩ hs2)
theorem j5s{R:dN->aq->Prop}{vs:List aj}{kw:List (ao×aj)}(X:K.In s.heap)(hm:W.makesIn K C=ag)
  (hi:W.findIn K (.ref C) "__init__" = ae (ae (.ref f))) (hf:W.typeIn K (.ref f)=ae (.type "function"))
  (h:c9 (aB prog w) (A.under (.builtin "type.__call__" ⟨.ref C::vs,kw⟩)) (.call (.ref f) ⟨.ref (s.heap.objs.size+1)::vs,kw⟩) (PySem.W.InitBack (s.heap.objs.size+1) R)
   { s with heap:=(s.heap.push W.emptyDict).push (W.instObj C s.heap.objs.size) }) :
  c9 (aB prog w) A (.call (.ref C) ⟨vs,kw⟩) R s:=by
 obtain⟨hh,g,d,t,os⟩:=s;exact W.make_core (W.makes_of X hm) (W.looks_findIn X hi) (λself=>W.bind_fn X self hf) (.inl rfl) h
end
noncomputable def J3(f:ao)(v:V):List (ao×V)->List (ao×V)
 |[]=>[(f,v)]
 |(g,x)::r=>if g=f then(g,v)::r else(g,x)::J3 f v r
theorem Wx(f g:ao)(v:V):∀fs:List (ao×V),(J3 f v fs).lookup g=if g=f then ae v else fs.lookup g
 |[]=>by
  show cw g [(f,v)]=_;by_cases h:g=f
  .have hb:(g==f)=ag:=beq_iff_eq.mpr h;simp only[cw,hb,if_pos h]
  .have hb:(g==f)=af:=beq_eq_false_iff_ne.mpr h;simp only[cw,hb,if_neg h]
 |(k,x)::r=>by
  have ih:=Wx f g v r;rw[show J3 f v ((k,x)::r)=(if k=f then(k,v)::r else(k,x)::J3 f v r)from rfl];by_cases hk:k=f
  .rw[if_pos hk];by_cases h:g=k
   .have hb:(g==k)=ag:=beq_iff_eq.mpr h;simp only[cw,hb,if_pos (h.trans hk)]
   .have hb:(g==k)=af:=beq_eq_false_iff_ne.mpr h;simp only[cw,hb,if_neg (λe:g=f=>h (e.trans hk.symm))]
  .rw[if_neg hk];by_cases h:g=k
   .have hb:(g==k)=ag:=beq_iff_eq.mpr h;simp only[cw,hb,if_neg (λe:g=f=>hk (h.symm.trans e))]
   .have hb:(g==k)=af:=beq_eq_false_iff_ne.mpr h;simp only[cw,hb];exact ih
theorem Uv(f:ao)(v:V):∀fs:List (ao×V),f∈(J3 f v fs).map (·.1)/\∀g,g∈fs.map (·.1)->g∈(J3 f v fs).map (·.1)
 |[]=>⟨by simp[J3],λg h=>by simp at h⟩
 |(k,x)::r=>by
  obtain⟨i1,i2⟩:=Uv f v r;rw[show J3 f v ((k,x)::r)=(if k=f then(k,v)::r else(k,x)::J3 f v r)from rfl];by_cases hk:k=f
  .rw[if_pos hk];subst hk;exact⟨by simp,λg h=>by simpa using h⟩
  .rw[if_neg hk];refine⟨?_,λg h=>?_⟩
   .rw[X5];exact kj _ i1
   .rw[X5]at h ⊢;rcases km.mp h with e|e
    .exact km.mpr (.inl e)
    .exact kj _ (i2 g e)
theorem Wy(f:ao)(v:V):∀fs:List (ao×V),(J3 f v fs).length<=fs.length+1
 |[]=>by simp[J3]
 |(k,x)::r=>by
  have ih:=Wy f v r;rw[show J3 f v ((k,x)::r)=(if k=f then(k,v)::r else(k,x)::J3 f v r)from rfl];by_cases hk:k=f
  .rw[if_pos hk,xn,xn];omega
  .rw[if_neg hk,xn,xn];omega
theorem Vw.some_of{v:V}{o:Option aj}(r:Vw (ae v) o):∃u,o=ae u/\RelV v u:=by
 cases o with
 |none=>exact(show False from r).elim
 |some u=>exact⟨u,rfl,r⟩
theorem Vw.none_of{o:Option aj}(r:Vw ah o):o=ah:=by
 cases o with
 |none=>rfl
 |some u=>exact(show False from r).elim
theorem j39{v:V}{u:aj}(r:RelV v u):W.handedIn u=ag:=by
 cases v with
 |non=>cases(show u=br from r);rfl
 |bl b=>cases(show u=bB b from r);rfl
 |int i=>obtain⟨t,e⟩:=(show ∃t,u=bj i t from r);cases e;rfl
 |str x=>obtain⟨t,e⟩:=(show ∃t,u=b7 x t from r);cases e;rfl
 |byt b=>obtain⟨t,e⟩:=(show ∃t,u=ir b t from r);cases e;rfl
 |flt b=>obtain⟨t,e⟩:=(show ∃t,u=iq b t from r);cases e;rfl
 |ref a=>cases(show u=aJ a from r);rfl
 |ty n=>cases(show u=d5 n from r);rfl
section
variable{P:ay}{w:aE}{H H':Hp}{h h':aK}{a C dx:ak}{fs fs':List (ao×V)}
theorem Bg(hok:HOk P w H h)(e:H a=ae (.ins C dx fs)):∃mA,ObjM h a dx C mA/\(∀f,Vw (fs.lookup f) (mA f))/\fk mA (fs.map (·.1))/\fs.length<=1000/\H dx=ae (.own a):=by
 obtain⟨d,z,ne,ob,mA,n,r,q⟩:=(show jl P w H h a (.ins C dx fs)from hok a _ e)
 exact⟨mA,⟨ob,n,ne⟩,r,q,z,d⟩
end
structure Cls(K:k5k)(C:ak):Prop where
 pg:W.plainGet K C cH=ag
 hd:W.hasDictIn K C=ag
 po:W.plainOver K C=ag
 sa:W.findIn K (.ref C) "__setattr__" = ae (ae (.builtin "object.__setattr__"))
theorem Cls.get{K:k5k}{C:ak}(c:Cls K C)(f:ao):W.plainGet K C f=ag:=c.pg
def Qt(K:k5k)(C:ak)(f:ao):Prop:=W.findIn K (.ref C) f=ae ah
theorem Qt.taker{K:k5k}{C:ak}{f:ao}(n:Qt K C f):W.takerIn K C f=ae ah:=by unfold W.takerIn;rw[show W.findIn K (.ref C) f=ae ah from n];rfl
structure Con(K:k5k)(C:ak)(f:ao)(v:V)(u:aj):Prop where
 at_:W.findIn K (.ref C) f=ae (ae u)
 rel:RelV v u
 get:W.specialIn K u "__get__" = ae ah
 cp:W.copiedNames.contains f=af
structure Meth(K:k5k)(C:ak)(m:ao)(f:ak):Prop where
 at_:W.findIn K (.ref C) m=ae (ae (.ref f))
 fn:W.isFn K (.ref f)=ag
 kp:W.keepIn K (.ref f)=ag
section
variable{X:Cx}{pins:k5m}{σ:St}{H:Hp}{s:aq}{a C dx:ak}{fs:List (ao×V)}{f:ao}{v:V}{A:aF}{E:k5l}
theorem j14{b:Bool}{Q:k5l}(I:Inv X pins σ H s)(e:H a=ae (.ins C dx fs))(c:Cls X.K C)(n:Qt X.K C f)(l:fs.lookup f=ae v)
  (h:∀u s',Inv X pins σ H s'->RelV v u->Q u s'):aC (aB X.prog X.w) A (getAttr (.ref a) f b) Q E s:=by
 obtain⟨mA,O,r,_,_,_⟩:=Bg I.hok e;obtain⟨u,hu,ru⟩:=Vw.some_of (v:=v) (o:=mA f) (by rw[<-l];exact r f);exact ja8 I.kIn O (c.get f) c.hd n hu (j39 ru) (h u _ (I.tok _) ru)
theorem O3{m:ao}{g:ak}{pl:iB Bool}{Q:aj×List aj->aq->Prop}(I:Inv X pins σ H s)(e:H a=ae (.ins C dx fs))(c:Cls X.K C)(k:Meth X.K C m g)(l:fs.lookup m=ah)
  (h:Q (.ref g,[.ref a]) s):aC (aB X.prog X.w) A (gh (.ref a) m pl) Q E s:=by
 obtain⟨mA,O,r,_,_,_⟩:=Bg I.hok e;have hn:mA m=ah:=Vw.none_of (by rw[<-l];exact r m);exact j6h I.kIn O (c.get m) k.at_ k.fn hn h
theorem j0c{y:V}{u:aj}{Q:Unit->aq->Prop}(I:Inv X pins σ H s)(e:H a=ae (.ins C dx fs))(c:Cls X.K C)(n:Qt X.K C f)(hl:fs.length<1000)(ry:RelV y u)
  (h:∀s',Inv X pins σ (upd H a (.ins C dx (J3 f y fs))) s'->Q () s'):aC (aB X.prog X.w) A (setAttr (.ref a) f u) Q E s:=by
 obtain⟨mA,O,r,wi,_,ho⟩:=Bg I.hok e;have hz:(fs.map (·.1)).length<=aw:=by rw[xj,bK];omega
 refine j8m I.kIn O c.sa c.po n.taker c.hd wi hz λh' O' sb=>h _ ?_;have hd:∃o,h'.get? dx=ae o:=let ⟨o,_,_,e',_⟩:=O'.ns;⟨o,e'⟩;refine I.write (x:=a) (e:=dx) (by rw[e];exact True.intro) (.inr ho) (λb q hb z=>(sb.2 b hb).trans z) hd ?_;refine⟨by rw[jc O.ne];exact ho,?_,O.ne,O'.obj,_,O'.ns,λg=>?_,λg hg=>?_⟩
 .have:=Wy f y fs;omega
 .show Vw ((J3 f y fs).lookup g) (if g=f then ae u else mA g);rw[Wx];by_cases q:g=f
  .rw[if_pos q,if_pos q];exact ry
  .rw[if_neg q,if_neg q];exact r g
 .by_cases q:g=f
  .rw[q];exact(Uv f y fs).1
  .refine(Uv f y fs).2 g (wi g λz=>hg ?_);show(if g=f then ae u else mA g)=ah;rw[if_neg q];exact z
theorem Inv.made(I:Inv X pins σ H s):Inv X pins σ (upd (upd H s.heap.objs.size (.own (s.heap.objs.size+1))) (s.heap.objs.size+1) (.ins C s.heap.objs.size []))
  { s with heap:=(s.heap.push W.emptyDict).push (W.instObj C s.heap.objs.size) }:=by
 have e1:(s.heap.push W.emptyDict).get? s.heap.objs.size=ae W.emptyDict:=Xe s.heap rfl;have e2:((s.heap.push W.emptyDict).push (W.instObj C s.heap.objs.size)).get? (s.heap.objs.size+1)=ae (W.instObj C s.heap.objs.size):=by
  have:=Xe (s.heap.push W.emptyDict) (o:=W.instObj C s.heap.objs.size) rfl
  rwa [T3]at this
 have e3:(s.heap.push W.emptyDict).Ns s.heap.objs.size (λ_=>ah):=⟨W.emptyDict,#[],_,e1,rfl,(λe he=>absurd he (by simp)),λ_=>rfl⟩
 have I1:=I.laid (a:=s.heap.objs.size) (o:=.own (s.heap.objs.size+1)) (h':=s.heap.push W.emptyDict) (t':=s.toks) (λb u q=>xu _ q) (X4 _) ⟨_,e1⟩;refine I1.laid (a:=s.heap.objs.size+1) (o:=.ins C s.heap.objs.size []) (t':=s.toks) (λb u q=>xu _ q) (iU (T3 _ _)) ?_;have ne:s.heap.objs.size≠s.heap.objs.size+1:=Xc (cn _);refine⟨by rw[jc ne,jm],cW _,ne,e2,λ_=>ah,(Heap.Ns1.of_empty e3).at λo q=>xu _ q,λ_=>True.intro,λy hy=>absurd rfl hy⟩
theorem jau{prog:ay}{w:aE}{env:cG}{e:ar}{f:ao}{pos:aQ}{s:aq}{Q:k5l}(hb:bu e f env (aH e env)=aH e env)
  (h:aC (aB prog w) A (aH e env) (λo s₁=>aC (aB prog w) A (getAttr o f ag) Q E s₁) E s):aC (aB prog w) A (aH (.Attribute e f pos) env) Q E s :=
 Attribute_any_ h (by rw[arm_eval_Attribute,hb])
end
def ji4(K:k5k)(ta:TE)(f:ao):TE:=λσ H Q=>ta σ H λx H1=>∃a C dx fs v,x=.ref a/\H1 a=ae (.ins C dx fs)/\Cls K C/\Qt K C f/\fs.lookup f=ae v/\Q v H1
def jib(K:k5k)(ta tv:TE)(f:ao):TS:=λD σ H=>tv σ H λy H1=>ta σ H1 λx H2=>∃a C dx fs,x=.ref a/\H2 a=ae (.ins C dx fs)/\Cls K C/\Qt K C f/\fs.length<1000 /\
 D.nx σ (upd H2 a (.ins C dx (J3 f y fs)))
section
variable{X:Cx}{o e value:ar}{f:ao}{pos pos' tpos:aQ}{ta tv:TE}
theorem Va(he:PE X e ta)(hb:bu e f X.env (aH e X.env)=aH e X.env):PE X (.Attribute e f pos) (ji4 X.K ta f):=by intro pins s σ H Q I h;refine jau hb (thn (he pins s σ H _ I h) λu s1 ⟨x,H1,I1,rx,a,C,dx,fs,v,ex,ea,c,n,l,q⟩=>?_);subst ex;obtain rfl:u=aJ a:=rx;exact j14 I1 ea c n l λu' s2 I2 ru=>⟨v,H1,I2,ru,q⟩
theorem Cv(ha:PE X o ta)(hv:PE X value tv)(hs:aR value (ae (.Attribute o f pos')) pos.line X.env=pure af):PS X (.Assign [.Attribute o f pos'] value pos) (jib X.K ta tv f):=by intro pins s σ H D I h;refine plainObj_wpAny_Assign_Attribute (thn (hv pins s σ H _ I h) λu s1 ⟨y,H1,I1,ry,q⟩=>thn (ha pins s1 σ H1 _ I1 q) λov s2 ⟨x,H2,I2,rx,a,C,dx,fs,ex,ea,c,n,l,q2⟩=>?_) hs;subst ex;obtain rfl:ov=aJ a:=rx;exact j0c I2 ea c n l ry λs3 I3=>⟨σ,_,I3,q2⟩
end
section
variable{X:Cx}{pins:k5m}{σ:St}{H:Hp}{s:aq}{A:aF}{E:k5l}{Q:k5l}{c:aj}{b:Bool}
inductive TyOf(K:k5k)(H:Hp):V->aj->Prop where
 |non:TyOf K H .non (.type "NoneType")
 |bl (x:Bool):TyOf K H (.bl x) (.type "bool")
 |int (i:Int):TyOf K H (.int i) (.type "int")
 |str (x:ao):TyOf K H (.str x) (.type "str")
 |flt (x:UInt64):TyOf K H (.flt x) (.type "float")
 |lst {a:ak} {xs:List V} (e:H a=ae (.lst xs)):TyOf K H (.ref a) (.type "list")
 |frz {a:ak} {o:cy} {xs:List V} (e:H a=ae (.frz o (.lst xs))):TyOf K H (.ref a) (.type "list")
 |tup {a:ak} {xs:List V} (e:H a=ae (.tup xs)):TyOf K H (.ref a) (.type "tuple")
 |dK {a:ak} {kvs:List (Key×V)} (e:H a=ae (.dK kvs)):TyOf K H (.ref a) (.type "dict")
 |dT {a:ak} {kvs:List (List Key×V)} (e:H a=ae (.dT kvs)):TyOf K H (.ref a) (.type "dict")
 |ins {a C dx:ak} {fs:List (ao×V)} (e:H a=ae (.ins C dx fs)) (cl:Cls K C) (ha:W.findIn K (.ref C) "__class__" = ae (ae (.builtin "object.__class__")))
   (hn:W.specialIn K (.builtin "object.__class__") "__get__" = ae (ae (.builtin "getset_descriptor.__get__"))) (htk:W.takesIn K (.builtin "object.__class__")=ae ag)
   (hm:W.mroIn K C (.type "object")=ae ag):TyOf K H (.ref a) (.ref C)
end
structure Room(k:Nat)(A:aF):Prop where
 hd:A.handled=ah
 dp:A.depth+3*k+5<bD
 un:A.units+16*k+200<bb
theorem Room.mono{j k:Nat}{A:aF}(r:Room k A)(h:j<=k):Room j A:=⟨r.hd,by have:=r.dp;omega,by have:=r.un;omega⟩
theorem Room.deeper{k:Nat}{A:aF}(r:Room (k+1) A)(env:cG):Room k (A.deeper env) :=
 ⟨r.hd,by have:=r.dp;show A.depth+1+3*k+5<_;omega,by have:=r.un;show A.units+3+16*k+200<_;omega⟩
theorem j0w {A:aF} {C:ak} {us:List aj} {kw:List (ao×aj)}:(A.under (.builtin "type.__call__" ⟨.ref C::us,kw⟩)).depth=A.depth+1:=by first|rfl|simp[fb,Code.weight,Code.isCreation,Code.isGuard,Code.isCaller,Code.frames,Code.isFrame,guardIds]
theorem j0v {A:aF} {C:ak} {us:List aj} {kw:List (ao×aj)}:(A.under (.builtin "type.__call__" ⟨.ref C::us,kw⟩)).units=A.units+1:=by first|rfl|simp[fb,Code.cUnits,Code.frames,Code.isFrame]
theorem Room.make {k:Nat} {A:aF} (r:Room (k+1) A) (C:ak) (us:List aj) (kw:List (ao×aj)):Room k (A.under (.builtin "type.__call__" ⟨.ref C::us,kw⟩)) :=
 ⟨r.hd,by have:=r.dp;rw[j0w];omega,by have:=r.un;rw[j0v];omega⟩
theorem Room.depth{k:Nat}{A:aF}(r:Room k A):A.depth<bD:=by have:=r.dp;omega
def jb8:TA:=λ_ H Q=>Q [] H
def jfh(ta:TE)(tr:TA):TA:=λσ H Q=>ta σ H λx H1=>tr σ H1 λxs H2=>Q (x::xs) H2
section
variable{X:Cx}{e:ar}{es:List ar}{te:TE}{t:TA}{pos:aQ}
theorem ju:PA X [] jb8:=λ_ _ _ _ H Q I h=>Calls.spliced_nil ⟨[],H,I,.nil,h⟩
theorem j9(ha:PE X e te)(hr:PA X es t)(hs:ai (e::es) X.env=(af,aH e X.env)::ai es X.env:=by rfl):PA X (e::es) (jfh te t):=by intro pos pins s σ H Q I h;rw[hs];show aC _ _ (spliced ((af,aH e X.env)::aV pos (ai es X.env))) _ _ s;refine Calls.spliced_cons (thn (ha pins s σ H _ I h) λu s1 ⟨x,H1,I1,r1,q1⟩=>?_);exact thn (hr pos pins s1 σ H1 _ I1 q1) λus s2 ⟨xs,H2,I2,r2,q2⟩=>⟨x::xs,H2,I2,.cons r1 r2,q2⟩
def jhw(t:TA):TE:=λσ H Q=>t σ H λxs H1=>xs.length<=aw/\∀p,H1 p=ah->Q (.ref p) (upd H1 p (.tup xs))
def ji0(t:TA):TE:=λσ H Q=>t σ H λxs H1=>xs.length<=aw/\∀p,H1 p=ah->Q (.ref p) (upd H1 p (.lst xs))
theorem j2j{x1}(h:PA X es t):PE X (.Tuple es x1 pos) (jhw t):=by intro pins s σ H Q I hq;refine wpAny_Tuple_spliced (thn (h pos pins s σ H _ I hq) λus s1 ⟨xs,H1,I1,r,z,q⟩=>⟨by rw[<-r.length];exact z,?_⟩);have hf:H1 s1.heap.objs.size=ah:=I1.hok.fresh (X4 _);refine⟨.ref s1.heap.objs.size,upd H1 s1.heap.objs.size (.tup xs),I1.laid (t':=s1.toks) (λb u e=>xu _ e) (X4 _) ?_,rfl,q _ hf⟩;exact⟨z,us,r,⟨_,Xe _ rfl,rfl,_,rfl⟩,U8.new _ _⟩
theorem jc3(h:PA X es t):PE X (.List es pos) (ji0 t):=by intro pins s σ H Q I hq;refine wpAny_List_spliced (thn (h pos pins s σ H _ I hq) λus s1 ⟨xs,H1,I1,r,z,q⟩=>⟨by rw[<-r.length];exact z,?_⟩);have hf:H1 s1.heap.objs.size=ah:=I1.hok.fresh (X4 _);refine⟨.ref s1.heap.objs.size,upd H1 s1.heap.objs.size (.lst xs),I1.laid (t':=s1.toks) (λb u e=>xu _ e) (X4 _) ?_,rfl,q _ hf⟩;exact⟨z,us,0,r,Xe _ rfl⟩
end
abbrev Sp:=List V->Hp->VK->XK->Prop
abbrev CXT:=List cG->Hp->aq->XK->aj->aq->Prop
structure Env0(P:ay)(w:aE)(K:k5k)(mg:k5n)(base:aK)(A:aF)(outer:List cG)(s:aq)(H:Hp):Prop where
 frames:A.frames=ae outer
 mod:Mod K mg base
 bs:∀b o,base.get? b=ae o->s.heap.get? b=ae o/\H b=ah
 bsz:base.objs.size<=s.heap.objs.size
 funs:s.heap.FunFrames base outer
 frf:∀b∈frs outer,H b=ah
 hok:HOk P w H s.heap
 bare:d9 s.gens
def CE(outer:List cG)(P:ay)(w:aE)(H:Hp)(s:aq)(Q:VK)(u:aj)(s':aq):Prop :=
 ∃v H',s'.os=s.os/\d9 s'.gens/\Un (frs outer) [] H H' s.heap s'.heap/\HOk P w H' s'.heap/\RelV v u/\Q v H'
def CR(CX:CXT)(outer:List cG)(P:ay)(w:aE)(H:Hp)(s:aq)(Q:VK)(E:XK)(r:dN)(s':aq):Prop :=
 match r with
 |.ok (.ret u)=>CE outer P w H s Q u s'
 |.ok _=>False
 |.error e=>CX outer H s E e s'
structure FnOk(P:ay)(w:aE)(K:k5k)(mg:k5n)(base:aK)(CX:CXT)(k:Nat)(f:ak)(fd:aL)(ps:List ao)(sp:Sp):Prop where
 len:∀vs H Q E,sp vs H Q E->vs.length=ps.length
 run:∀(A:aF)(outer:List cG)(s:aq)(H:Hp)(args:Args)(us:List aj)(vs:List V) (Q:VK) (E:XK),Room k A->Env0 P w K mg base A outer s H->eR s fd args (ps.zip us)->Vals vs us->sp vs H Q E ->
  c9 (aB P w) A (.call (.ref f) args) (CR CX outer P w H s Q E) s
theorem FnOk.imp{P:ay}{w:aE}{K:k5k}{mg:k5n}{base:aK}{CX:CXT}{k:Nat}{f:ak}{fd:aL}{ps:List ao}{sp sp':Sp}(F:FnOk P w K mg base CX k f fd ps sp)
  (h:∀vs H Q E,sp' vs H Q E->sp vs H Q E):FnOk P w K mg base CX k f fd ps sp' :=
 ⟨λvs H Q E q=>F.len vs H Q E (h _ _ _ _ q),λA outer s H args us vs Q E hr he hb hv hs=>F.run A outer s H args us vs Q E hr he hb hv (h _ _ _ _ hs)⟩
theorem Env0.make{P:ay}{w:aE}{K:k5k}{mg:k5n}{base:aK}{A:aF}{outer:List cG}{s:aq}{H:Hp}(e:Env0 P w K mg base A outer s H)(C:ak)(us:List aj)(kw:List (ao×aj)) :
  Env0 P w K mg base (A.under (.builtin "type.__call__" ⟨.ref C::us,kw⟩)) outer s H:=⟨by first|exact e.frames|(simpa [fb,Code.envs,Code.isFrame,pushEnvs]using e.frames),e.mod,e.bs,e.bsz,e.funs,e.frf,e.hok,e.bare⟩
section
variable{X:Cx}{pins:k5m}{σ:St}{H:Hp}{s s':aq}
theorem Inv.env0(I:Inv X pins σ H s):Env0 X.prog X.w X.K X.mg X.base X.A X.stack s H :=
 ⟨I.ok.frames,I.ok.mod,I.bs,X8 I.ok.bsz I.sz,I.stack,I.stkFree,I.hok,I.bare⟩
theorem Inv.after{Q:VK}{u:aj}(I:Inv X pins σ H s)(h:CE X.stack X.prog X.w H s Q u s'):EP X pins σ Q u s':=by obtain⟨v,H',os,bare,un,hok,r,q⟩:=h;obtain⟨hh,g,d,t,os'⟩:=s';obtain rfl:os'=s.os:=os;exact⟨v,H',I.call (h':=hh) (g':=g) (d':=d) (t':=t) (ch:=[]) un hok bare (λb z=>absurd z (by simp)),r,q⟩
end
def jfi(sp:Sp)(dvs:List V)(E:XK)(t:TA):TE:=λσ H Q=>t σ H λvs H1=>sp (vs++dvs) H1 Q E
def jfe(C:ak)(m:ao)(sp:Sp)(dvs:List V)(E:XK)(ta:TE)(t:TA):TE:=λσ H Q=>ta σ H λx H1=>∃a dx fs,x=.ref a/\H1 a=ae (.ins C dx fs)/\fs.lookup m=ah /\
 t σ H1 λvs H2=>sp (x::(vs++dvs)) H2 Q E
def jff(C:ak)(sp:Sp)(dvs:List V)(E:XK)(t:TA):TE:=λσ H Q=>t σ H λvs H1=>∀x dx,H1 x=ah->H1 dx=ah->dx≠x ->
 sp (.ref x::(vs++dvs)) (upd (upd H1 dx (.own x)) x (.ins C dx [])) (λv H2=>v=.non/\Q (.ref x) H2) E
def Binds(K:k5k)(fd:aL)(ps:List ao)(ds:List aj):Prop :=
 ∀(s:aq)(us:List aj),K.In s.heap->(us++ds).length=ps.length->eR s fd ⟨us,[]⟩ (ps.zip (us++ds))
theorem Binds.all{K:k5k}{fd:aL}{ps:List ao}(h:∀us:List aj,us.length=ps.length->c8 fd ⟨us,[]⟩=pure (ps.zip us)):Binds K fd ps []:=λs us _ hl=>by rw[Xk]at hl ⊢;exact .of_eq (h us hl)
def Yj(CX:CXT)(X:Cx)(E:XK):Prop:=∀(pins:k5m) (σ:St) (H:Hp) (s:aq) (e:aj) (s':aq),Inv X pins σ H s->CX X.stack H s E e s'->X.xe e s'
section
variable{X:Cx}{CX:CXT}{k:Nat}{f C:ak}{fd:aL}{ps:List ao}{sp:Sp}{dvs:List V}{ds:List aj}{E:XK}{x m:ao}{p pos apos:aQ}{e o:ar}{es:List ar}{ta:TE}{t:TA}
theorem j25{pins:k5m}{σ:St}{H:Hp}{s:aq}{Q:VK}{us:List aj}{vs:List V}(F:FnOk X.prog X.w X.K X.mg X.base CX k f fd ps sp)(hr:Room k X.A)(hb:Binds X.K fd ps ds)(hd:Vals dvs ds)(hx:Yj CX X E)
  (I:Inv X pins σ H s) (r:Vals vs us) (h:sp (vs++dvs) H Q E):aC (aB X.prog X.w) X.A (call (.ref f) us) (EP X pins σ Q) X.xe s:=by
 have r2:Vals (vs++dvs) (us++ds):=r.append hd;have hl:(us++ds).length=ps.length:=by rw[<-r2.length];exact F.len _ _ _ _ h
 refine eF (bH (F.run X.A X.stack s H ⟨us,[]⟩ (us++ds) (vs++dvs) Q E hr I.env0 (hb s us I.kIn hl) r2 h) λr s' hq=>?_);cases r with
 |error e=>exact hx pins σ H s e s' I hq
 |ok fl =>
  cases fl with
  |ret u=>exact I.after hq
  |next=>exact aO hq
  |brk=>exact aO hq
  |cont=>exact aO hq
theorem Y7(F:FnOk X.prog X.w X.K X.mg X.base CX k f fd ps sp)(hr:Room k X.A)(hg:Gl X x)(hm:X.mg x=ae (.ref f))(hk:W.keepIn X.K (.ref f)=ag)(hb:Binds X.K fd ps ds)(hd:Vals dvs ds)(hx:Yj CX X E)
  (ha:PA X (e::es) t) (hdb:(x==k5o)=af:=by decide) (he:ai (e::es) X.env=(af,aH e X.env)::ai es X.env:=by rfl) (hpl:(aV pos (ai es X.env)).any (·.1)=af:=by rfl) :
  PE X (.Call (.Name x p) (e::es) [] pos) (jfi sp dvs E t):=by
 intro pins s σ H Q I h;refine ba (Jv I hg hm ?_ hdb);refine W.callWith_K (h₀:=X.base) I.ok.mod.kin hk (thn (ha pos pins s σ H _ I h) λus s1 ⟨vs,H1,I1,r,q⟩=>⟨I1.kIn,?_⟩) he hpl;exact j25 F hr hb hd hx I1 r q
theorem Rj{pl:iB Bool}(he:PE X o ta)(c:Cls X.K C)(hm:Meth X.K C m f)(F:FnOk X.prog X.w X.K X.mg X.base CX k f fd ps sp)(hr:Room k X.A)(hb:Binds X.K fd ps ds)(hd:Vals dvs ds)(hx:Yj CX X E)
  (ht:aH (.Call (.Attribute o m apos) [] [] pos) X.env=(do
   let ov <-aH o X.env
   eN apos.atName
   let (f,first) <-dS [ov] (gh ov m pl)
   callWith pos f first (aV pos (ai [] X.env)) (d4 pos (bS [] X.env))):=by rfl) :
  PE X (.Call (.Attribute o m apos) [] [] pos) (jfe C m sp dvs E ta jb8):=by
 intro pins s σ H Q I h;refine W.methodCall_KW (pl:=pl) (thn (he pins s σ H _ I h) λu s1 ⟨x,H1,I1,rx,a,dx,fs,ex,ea,l,q⟩=>?_) ht;subst ex;obtain rfl:u=aJ a:=rx;refine O3 I1 ea c hm l ?_;exact W.callWith_K0 (first:=[.ref a]) I1.kIn hm.kp (j25 (us:=[.ref a]) (vs:=[.ref a]) F hr hb hd hx I1 (.cons rfl .nil) q)
structure Mk(K:k5k)(C f:ak):Prop where
 makes:W.makesIn K C=ag
 init:W.findIn K (.ref C) "__init__" = ae (ae (.ref f))
 fn:W.isFn K (.ref f)=ag
 kp:W.keepIn K (.ref C)=ag
theorem j56{pins:k5m}{σ:St}{H:Hp}{s:aq}{Q:VK}{us:List aj}{vs:List V}(M:Mk X.K C f)(F:FnOk X.prog X.w X.K X.mg X.base CX k f fd ps sp)(hr:Room (k+1) X.A)(hb:Binds X.K fd ps ds)(hd:Vals dvs ds)
  (hx:Yj CX X E) (I:Inv X pins σ H s) (r:Vals vs us)
  (h:∀x dx,H x=ah->H dx=ah->dx≠x->sp (.ref x::(vs++dvs)) (upd (upd H dx (.own x)) x (.ins C dx [])) (λv H2=>v=.non/\Q (.ref x) H2) E) :
  aC (aB X.prog X.w) X.A (call (.ref C) us) (EP X pins σ Q) X.xe s:=by
 have hq:=h (s.heap.objs.size+1) s.heap.objs.size (I.hok.fresh (Pb _)) (I.hok.fresh (X4 _)) (Xc (cn _));have I2:=Inv.made (C:=C) I;have r2:Vals (V.ref (s.heap.objs.size+1)::(vs++dvs)) (aJ (s.heap.objs.size+1)::(us++ds)):=.cons rfl (r.append hd);have hl:(aJ (s.heap.objs.size+1)::us++ds).length=ps.length:=by have e:=r2.length;rw[F.len _ _ _ _ hq]at e;exact e.symm
 refine eF (j5s (f:=f) I.kIn M.makes M.init (beq_iff_eq.mp M.fn) (bH (F.run _ X.stack _ _ ⟨aJ (s.heap.objs.size+1)::us,[]⟩ (aJ (s.heap.objs.size+1)::(us++ds)) _ _ E (hr.make C us [])
  (I2.env0.make C us []) (hb _ (aJ (s.heap.objs.size+1)::us) I2.kIn hl) r2 hq) λr s' hq'=>?_))
 cases r with
 |error e=>exact hx pins σ _ _ e s' I2 hq'
 |ok fl =>
  cases fl with
  |ret u =>obtain⟨v,H',I3,rv,ev,q3⟩:=I2.after hq';subst ev;exact⟨rv,⟨V.ref (s.heap.objs.size+1),H',I3,rfl,q3⟩⟩
  |next=>exact aO hq'
  |brk=>exact aO hq'
  |cont=>exact aO hq'
theorem j95(M:Mk X.K C f)(F:FnOk X.prog X.w X.K X.mg X.base CX k f fd ps sp)(hr:Room (k+1) X.A)(hg:Gl X x)(hm:X.mg x=ae (.ref C))(hb:Binds X.K fd ps ds)(hd:Vals dvs ds)(hx:Yj CX X E)
  (ha:PA X (e::es) t) (hdb:(x==k5o)=af:=by decide) (he:ai (e::es) X.env=(af,aH e X.env)::ai es X.env:=by rfl) (hpl:(aV pos (ai es X.env)).any (·.1)=af:=by rfl) :
  PE X (.Call (.Name x p) (e::es) [] pos) (jff C sp dvs E t):=by
 intro pins s σ H Q I h;refine ba (Jv I hg hm ?_ hdb);refine W.callWith_K (h₀:=X.base) I.ok.mod.kin M.kp (thn (ha pos pins s σ H _ I h) λus s1 ⟨vs,H1,I1,r,q⟩=>⟨I1.kIn,?_⟩) he hpl;exact j56 M F hr hb hd hx I1 r q
end
section
variable{X:Cx}{CX:CXT}{k:Nat}{f C:ak}{fd:aL}{ps ks:List ao}{sp:Sp}{E:XK}{x m:ao}{p pos apos kpos:aQ}{e o:ar}{es:List ar}{kws:List bW}{te ta:TE}{t tk:TA}{nm:Option ao}
structure KBinds(K:k5k)(fd:aL)(ps ks:List ao)(g:List aj->List aj->List aj)(gV:List V->List V->List V):Prop where
 to:∀(s:aq)(us ws:List aj),K.In s.heap->(g us ws).length=ps.length->eR s fd ⟨us,ks.zip ws⟩ (ps.zip (g us ws))
 rel:∀{vs:List V}{us:List aj}{zs:List V}{ws:List aj},Vals vs us->Vals zs ws->Vals (gV vs zs) (g us ws)
variable{g:List aj->List aj->List aj}{gV:List V->List V->List V}
end
structure FnScope(N P:List ao)(sc:bh):Prop where
 kind:sc.kind=.function
 co:sc.isCoroutine=af
 gen:sc.isGenerator=af
 nd:N.Nodup
 pre:N.take P.length=P
 par:∀x∈P,sc.names.lookup x=ae .local\/sc.names.lookup x=ae .cell
 nofree:∀y∈sc.names,y.2≠.free
theorem Fj{kindOf:ao->Option bp}{x:ao}:∀{binds:List (ao×aj)} {m:k5n},(∀v,(x,v)∉binds)->gi kindOf binds m x=m x
 |[],_,_=>rfl
 |(n,v)::r,m,h=>by
  unfold gi;rw[Fj λw hw=>h w (kj _ hw)];split
  .have:x≠n:=by rintro rfl;exact h v xg
   simp[this]
  .rfl
theorem Fp{kindOf:ao->Option bp}{x:ao}:∀{binds:List (ao×aj)} {m:k5n},(∀v,(x,v)∉binds)->gj kindOf binds m x=m x
 |[],_,_=>rfl
 |(n,v)::r,m,h=>by
  unfold gj;rw[Fp λw hw=>h w (kj _ hw)];split
  .rfl
  .have:x≠n:=by rintro rfl;exact h v xg
   simp[this]
theorem Fo{kindOf:ao->Option bp}{x:ao}{v:aj}:∀{P:List ao}{vs:List aj}{i:Nat}{m:k5n},P.Nodup->P[i]?=ae x->vs[i]?=ae v->kindOf x=ae .local ->
  gi kindOf (P.zip vs) m x=ae v
 |[],_,_,_,_,h,_,_=>by simp at h
 |_::_,[],_,_,_,_,h,_=>by simp at h
 |p::P,w::vs,0,m,nd,h1,h2,hk=>by simp at h1 h2;subst h1;subst h2;show gi kindOf ((p,w)::P.zip vs) m p=_;unfold gi;rw[Fj λv hv=>(Xl.mp nd).1 (cz hv).1,if_pos hk];simp
 |p::P,w::vs,i+1,m,nd,h1,h2,hk=>by show gi kindOf ((p,w)::P.zip vs) m x=_;unfold gi;exact Fo (i:=i) (Xl.mp nd).2 (by simpa using h1) (by simpa using h2) hk
theorem Fq{kindOf:ao->Option bp}{x:ao}{v:aj}:∀{P:List ao}{vs:List aj}{i:Nat}{m:k5n},P.Nodup->P[i]?=ae x->vs[i]?=ae v->kindOf x≠ae .local ->
  gj kindOf (P.zip vs) m x=ae v
 |[],_,_,_,_,h,_,_=>by simp at h
 |_::_,[],_,_,_,_,h,_=>by simp at h
 |p::P,w::vs,0,m,nd,h1,h2,hk=>by simp at h1 h2;subst h1;subst h2;show gj kindOf ((p,w)::P.zip vs) m p=_;unfold gj;rw[Fp λv hv=>(Xl.mp nd).1 (cz hv).1,if_neg hk];simp
 |p::P,w::vs,i+1,m,nd,h1,h2,hk=>by show gj kindOf ((p,w)::P.zip vs) m x=_;unfold gj;exact Fq (i:=i) (Xl.mp nd).2 (by simpa using h1) (by simpa using h2) hk
noncomputable def start(N:List ao)(vs:List V):St:=vs.map ae++ax (N.length-vs.length) ah
noncomputable def ql(CX:CXT)(P:ay)(w:aE)(K:k5k)(mg:k5n)(base:aK)(N:List ao)(qual:ao)(scope:bh)(f:ak)(cd:aj)(A:aF)(outer:List cG)(s:aq)(H:Hp)(E:XK):Cx where
 prog:=P
 w:=w
 K:=K
 mg:=mg
 base:=base
 A:=A.deeper (bg qual scope s.heap.objs.size f cd)
 N:=N
 s₀:=s
 H₀:=H
 env:=bg qual scope s.heap.objs.size f cd
 outer:=outer
 stack:=bg qual scope s.heap.objs.size f cd::outer
 ex:=[]
 calm:=ag
 fn:=λ_=>ag
 pn:=[]
 xe:=λe s'=>aC (aB P w) (A.deeper (bg qual scope s.heap.objs.size f cd)) (leaving (bg qual scope s.heap.objs.size f cd) e) (λ_ s''=>CX outer H s E e s'') (λe' s''=>CX outer H s E e' s'') s'
theorem Kc{sc:bh}{n:Nat}{x:ao}(h:sc.names.lookup x=ae .cell):∃c,(aU n sc.names []).lookup x=ae c:=by have q:=W.cellsFrom_some sc.names n [] (.inl h);exact Xg.mp q
theorem Nq{CX:CXT}{P:ay}{w:aE}{K:k5k}{mg:k5n}{base:aK}{N ps:List ao}{qual:ao}{scope:bh}{f:ak}{cd:aj}{A:aF}{outer:List cG}{s s1:aq}{H:Hp}{E:XK}{us:List aj}{vs:List V}
  (S:FnScope N ps scope) (cm:Bool) (hd:cm=ag->A.handled=ah) (e0:Env0 P w K mg base A outer s H) (hl:vs.length=ps.length) (r:Vals vs us)
  (x:InCallC s s.heap.objs.size (gi (bg qual scope s.heap.objs.size f cd).kindOf (ps.zip us) λ_=>ah) (aU (s.heap.objs.size+1) scope.names []) (gj (bg qual scope s.heap.objs.size f cd).kindOf (ps.zip us) λ_=>ah) s1) :
  Inv { ql CX P w K mg base N qual scope f cd A outer s H E with calm:=cm } [] (start N vs) H s1:=by
 have hpl:ps.length<=N.length:=by have:=congrArg fU S.pre;rw[Xh]at this;omega
 obtain⟨h1,tk,rfl,hk⟩:=x.done;have noA:∀b:ak,b∉(ql CX P w K mg base N qual scope f cd A outer s H E).ex:=λb z=>absurd (show b∈([]:List ak)from z) (by simp);refine⟨⟨e0.mod,S.kind,rfl,rfl,X4 _,λy z c h1 h2=>?_,λy hy=>?_,λy c _ h=>?_,hd,fw e0.frames,.inr ⟨rfl,rfl⟩,λb z=>absurd z (noA b),e0.bs,e0.bsz,λb _ _=>noA b,λb z=>absurd z (noA b),e0.funs,e0.frf⟩,
  rfl,e0.bare,Un.kept hk,⟨_,x.toInCall.ns,λi y v h1 h2 h3=>?_⟩,λy c h=>⟨_,x.cell y c h⟩,e0.hok.fresh (X4 _),λy c h=>?_,λp hp=>absurd (show p∈([]:k5m)from hp) (by simp),e0.hok.kept hk,?_⟩
 .exact name_of_addr x.apart (Xy h1) (Xy h2)
 .have hy:scope.names.lookup y=ae .cell\/scope.names.lookup y=ae .free:=hy;rcases hy with hy|hy
  .exact Kc hy
  .exact absurd rfl (S.nofree _ (Xy hy))
 .exact di (x.above y c (Xy h))
 .have hi:i<vs.length:=by
   unfold start at h2;by_cases hi:i<vs.length
   .exact hi
   .rw[cJ (by simpa using hi)]at h2;rw[List.getElem?_replicate]at h2;split at h2<;>cases h2
  have ha:vs[i]?=ae v:=by
   unfold start at h2;rw[Pg (by simpa using hi),Xi]at h2;cases e:vs[i]? with
   |none=>rw[e]at h2;cases h2
   |some a=>rw[e]at h2;cases h2;rfl
  obtain⟨u,hu,rv⟩:=r.get ha;have hp:ps[i]?=ae y:=by rw[<-S.pre,List.getElem?_take_of_lt nofun];exact h1
  have ndP:ps.Nodup:=by rw[<-S.pre];exact S.nd.sublist (gC _ _)
  refine⟨u,rv,?_⟩;rcases S.par y (Xq hp)with k|k
  .exact .inl ⟨k,Fo ndP hp hu k⟩
  .obtain⟨c,e⟩:=Kc (n:=s.heap.objs.size+1) k;refine .inr ⟨.inl k,c,e,?_⟩;have q:=x.cell y c e;rw[Fq ndP hp hu (by show scope.names.lookup y≠_;rw[k];decide)]at q;exact q
 .exact e0.hok.fresh (di (x.above y c (Xy h)))
 .unfold start;show _=N.length;rw[X7,xj,fP];omega
theorem Inv.extOut{X:Cx}{pins:k5m}{σ:St}{H H2:Hp}{s:aq}(J:Inv X pins σ H s)(x:Ext X H H2 s):HOk X.prog X.w H2 s.heap/\(X.ex=[]->Un X.fs [] X.H₀ H2 X.s₀.heap s.heap):=by
 have old:∀b o,X.s₀.heap.get? b=ae o->H2 b=H b:=λb o e=>(x b).elim id λ⟨y,ob,v,hc,hf,_⟩=>absurd (Xa (xq e) (J.ok.cab y b hf hc)) (pq _);have trk:∀{b:ak}{u:HO},H b=ae u->H2 b=ae u:=λ{b u} e=>(x b).elim (λz=>z.trans e) λ⟨y,ob,v,hc,_⟩=>by rw[J.freeC y b hc]at e;cases e
 refine⟨λa o e=>?_,λhx=>?_⟩
 .rcases x a with z|⟨y,ob,v,_,_,e2,e3,_⟩
  .exact(J.hok a o (z▸e)).stay (λ_ _ _ q=>q) (λ_ q=>trk q) (λ_ _ q=>trk q) λ_ _ _ q=>trk q
  .rw[e2]at e;cases e;exact⟨e3,ob,e3⟩
 .have nx:∀b,b∉X.ex:=λb=>by rw[hx];simp
  exact⟨λb o e n hb _=>J.base.keep b o e n hb (nx b),λb o e n hb _=>J.base.slot b o e n hb (nx b),λb o e n _=>(old b o e).trans (J.base.free b o e n (nx b)),λb o e _=>J.base.there b o e (nx b),
   λb xs e=>trk (J.base.tups b xs e),λb o u e=>trk (J.base.frzs b o u e),λb ps e=>let ⟨m,z⟩:=J.base.tbls b ps e;⟨m,trk z⟩⟩
theorem Dm{CX:CXT}{P:ay}{w:aE}{K:k5k}{mg:k5n}{base:aK}{k:Nat}{f:ak}{name qual:ao}{params:gn}{body:List aP}{scope:bh}{dV kV doc pm cdv ct oc:aj}{an od:Option ak}
  {osl:Array (Option aj)} {N ps:List ao} {sp:Sp} (lk:K.lookup f=ae ⟨oc,od,.func (W.fnOf name qual params body scope dV kV doc pm an cdv ct),osl⟩) (hcd:W.codeIn K cdv qual=ag) (S:FnScope N ps scope)
  (len:∀vs H Q E,sp vs H Q E->vs.length=ps.length)
  (hbody:∀(A:aF)(outer:List cG)(s:aq)(H:Hp)(vs:List V)(Q:VK)(E:XK),Room k (A.deeper (bg qual scope s.heap.objs.size f cdv))->sp vs H Q E ->
   ∃t,PSs (ql CX P w K mg base N qual scope f cdv A outer s H E) body t/\t { nx:=λ_ H'=>Q .non H',rt:=Q } (start N vs) H) :
  FnOk P w K mg base CX (k+1) f (W.fnOf name qual params body scope dV kV doc pm an cdv ct) ps sp:=by
 refine⟨len,λA outer s H args us vs Q E hr e0 hb r hsp=>?_⟩;have hl:=len _ _ _ _ hsp;have KX:K.In s.heap:=e0.mod.kin.keeps λb o e=>(e0.bs b o e).1;have lim:s.heap.NoLimit:=e0.mod.nolimit.keeps λb o e=>(e0.bs b o e).1;have hkind:∀y∈ps.zip us,scope.names.lookup y.1=ae .local\/(scope.names.lookup y.1=ae .cell/\((aU (s.heap.objs.size+1) scope.names []).lookup y.1).isSome=ag):=λ⟨n,v⟩ hy=>by
  rcases S.par n (cz hy).1 with q|q
  .exact .inl q
  .exact .inr ⟨q,W.cellsFrom_some _ _ _ (.inl q)⟩
 refine gK hr.depth (KX _ _ lk) rfl S.co S.gen rfl (W.codeRec_of KX hcd) (hb _ _ _ _ ?_);refine fG S.kind hkind λenv he s1 x=>?_;subst he;refine⟨lim.keeps x.toInCall.keep,codeAny_func ?_⟩;obtain⟨t,ht,hq⟩:=hbody A outer s H vs Q E (hr.deeper _) hsp;have I:Inv (ql CX P w K mg base N qual scope f cdv A outer s H E) [] (start N vs) H s1:=Nq S ag (λ_=>hr.hd) e0 hl r x;refine b9 (ht [] s1 (start N vs) H _ I hq) (λfl s' hs=>?_) λe s' hs=>hs;have fin:∀{σ':St}{H':Hp}{v:V}{u:aj},Inv (ql CX P w K mg base N qual scope f cdv A outer s H E) [] σ' H' s'->RelV v u->Q v H'->CE outer P w H s Q u s' :=
  λ{σ' H' v u} J rv q=>⟨v,H',J.os,J.bare,J.base,J.hok,rv,q⟩
 cases fl with
 |ret u =>obtain⟨v,σ',H',H2,J,rv,x,q⟩:=hs;exact⟨v,H2,J.os,J.bare,(J.extOut x).2 rfl,(J.extOut x).1,rv,q⟩
 |next =>obtain⟨σ',H',J,q⟩:=hs;exact fin (v:=V.non) (u:=br) J rfl q
 |brk =>obtain⟨_,_,_,q⟩:=hs;exact aO q
 |cont =>obtain⟨_,_,_,q⟩:=hs;exact aO q
section
variable{X:Cx}{x:ao}{p pos:aQ}{e:ar}{es:List ar}{t:TA}{id T:String}{r:List V->Hp->VK->Prop}
def tCB(r:List V->Hp->VK->Prop)(t:TA):TE:=λσ H Q=>t σ H λvs H1=>r vs H1 Q
theorem qz (hc:vm X (.builtin id) r) (hg:Gl X x) (hm:X.mg x=ah) (hv:aY x=ae (.builtin id)) (ha:PA X (e::es) t) (hn:x ≠ "__name__":=by decide) (hdb:(x==k5o)=af:=by decide)
  (he:ai (e::es) X.env=(af,aH e X.env)::ai es X.env:=by rfl) (hpl:(aV pos (ai es X.env)).any (·.1)=af:=by rfl):PE X (.Call (.Name x p) (e::es) [] pos) (tCB r t):=by
 intro pins s σ H Q I h;refine ba (Uu I hg hm hv ?_ hn hdb);exact callWith_builtin1 (thn (ha pos pins s σ H _ I h) λus s1 ⟨vs,H1,I1,r1,q1⟩=>hc pins s1 σ H1 vs us Q I1 r1 q1) he hpl
theorem Zf (hc:vm X (.type T) r) (hg:Gl X x) (hm:X.mg x=ah) (hv:aY x=ae (.type T)) (ha:PA X (e::es) t) (hn:x ≠ "__name__":=by decide) (hdb:(x==k5o)=af:=by decide)
  (he:ai (e::es) X.env=(af,aH e X.env)::ai es X.env:=by rfl) (hpl:(aV pos (ai es X.env)).any (·.1)=af:=by rfl):PE X (.Call (.Name x p) (e::es) [] pos) (tCB r t):=by
 intro pins s σ H Q I h;refine ba (Uu I hg hm hv ?_ hn hdb);exact callWith_type1 (thn (ha pos pins s σ H _ I h) λus s1 ⟨vs,H1,I1,r1,q1⟩=>hc pins s1 σ H1 vs us Q I1 r1 q1) he hpl
end
end L2
namespace HT
open PySem PyProof.Rows
noncomputable def lexLt:List Int->List Int->Bool
 |[],[]=>af
 |[],_::_=>ag
 |_::_,[]=>af
 |x::xs,y::ys=>if x=y then lexLt xs ys else decide (x<y)
section
open PySem.SeqAt
open PySem.AutoSeq1 (wpAny_loadPart')
open PySem.MeetsSeq PySem.MeetsSeq2 PySem.MeetsSeq3
end
section
variable{prog:ay}{w:aE}{A:aF}{E:k5l}{s:aq}
theorem cat_tup{t b:ak}{vs ws:List aj}{Q:k5l}(ht:jQ s.heap t vs.toArray)(hb:jQ s.heap b ws.toArray)(hv:vs≠[])
  (h1:ws=[]->Q (.ref t) s) (h2:ws≠[]->Q (.ref s.heap.objs.size) { s with heap:=s.heap.push { cls:=.type "tuple",data:=.seq (vs++ws).toArray } })
  (hsz:vs.length+ws.length<=aw):aC (aB prog w) A (aZ .Add (.ref t) (.ref b)) Q E s:=by
 obtain⟨⟨cls,dd,data,sl⟩,ho,hc,n,hd⟩:=id ht;obtain⟨⟨cls2,dd2,data2,sl2⟩,ho2,hc2,n2,hd2⟩:=id hb;simp only at hc hd hc2 hd2;subst hc hd hc2 hd2;have e:vs.toArray++ws.toArray=(vs++ws).toArray:=by simp
 by_cases hw:ws=[]
 .exact eO ⟨_,ho,rfl⟩ ⟨_,ho2,rfl⟩ eW fZ cX cR (cM _ _)
   (tuple_addW1 t b vs.toArray ws.toArray n n2 dd dd2 sl sl2 (by simpa using hv) (by simp[hw])) ⟨ho,ho2,h1 hw⟩
 .refine eO ⟨_,ho,rfl⟩ ⟨_,ho2,rfl⟩ eW fZ cX cR (cM _ _)
   (tuple_addW2 t b vs.toArray ws.toArray n n2 dd dd2 sl sl2 (by simpa using hv) (by simpa using hw) (by rw[X3,X3];exact hsz)) ⟨ho,ho2,?_⟩
  rw[e];exact h2 hw
noncomputable def sIx(n d:Nat):Option Int->Nat
 |none=>d
 |some v=>if v<0 then(v+(n:Int)).toNat else min v.toNat n
theorem sIx_none(n d:Nat):sIx n d ah=d:=rfl
theorem sIx_nat(n d k:Nat):sIx n d (ae (k:Int))=min k n:=by show(if (k:Int)<0 then((k:Int)+(n:Int)).toNat else min (k:Int).toNat n)=min k n;rw[if_neg nofun,Xz]
theorem jbm(n d:Nat)(hd:d<=n)(o:Option Int):sIx n d o<=n:=by
 cases o with
 |none=>exact hd
 |some v =>
  show(if v<0 then(v+(n:Int)).toNat else min v.toNat n)<=n;by_cases hv:v<0
  .rw[if_pos hv];omega
  .rw[if_neg hv];exact Nat.min_le_right _ _
theorem Es(v:Int)(n d:Nat):(if v<0 then max (v+(n:Int)) 0 else min v (n:Int))=((sIx n d (ae v):Nat):Int):=by
 show(if v<0 then max (v+(n:Int)) 0 else min v (n:Int))=(((if v<0 then(v+(n:Int)).toNat else min v.toNat n):Nat):Int)
 by_cases hv:v<0
 .simp only[if_pos hv];omega
 .simp only[if_neg hv];omega
theorem j1k(lo hi:Option Int)(n:Nat):cg lo hi 1 (n:Int)=(((sIx n 0 lo:Nat):Int),((sIx n n hi:Nat):Int)):=by
 have h1:¬((1:Int)<0):=by omega
 unfold cg;simp only[h1,if_false];refine Prod.ext ?_ ?_
 .cases lo with
  |none=>rfl
  |some v=>exact Es v n 0
 .cases hi with
  |none=>rfl
  |some v=>exact Es v n n
theorem j0m(i j:Nat):bE (i:Int) (j:Int) 1=j-i:=by
 unfold bE;have h1:(1:Int)>0:=by omega
 simp only[h1,if_true,Int.ediv_one];split<;>omega
theorem Mh{v:aj}{o:Option Int}{Q:Option Int->aq->Prop}(p:dO v o)(h:Q o s):aC (aB prog w) A (iM v) Q E s:=by
 cases p with
 |none=>exact jP h
 |int i t=>exact slicePart_int h
theorem Ra{sl:ak}{vl vu:aj}{lo hi:Option Int}{n:Nat}{Q:Int×Int×Nat->aq->Prop}(hs:s.heap.IsSliceOf sl vl vu .none)(pl:dO vl lo)(pu:dO vu hi)
  (h:Q (((sIx n 0 lo:Nat):Int),1,sIx n n hi-sIx n 0 lo) s):aC (aB prog w) A (dG (.ref sl) (pure (n:Int))) Q E s:=by
 obtain⟨os,hos,hcs,hds⟩:=id hs;unfold dG iN;refine az (az (fc hos hds (x:=vl) rfl (az (fc hos hds (x:=vu) rfl (az (fc hos hds (x:=.none) rfl (aG ?_)))))));refine az (jP ?_);show aC _ _ (if ((1:Int)==0)=ag then _ else _) _ _ s;rw[if_neg (by decide)];refine az (Mh pl (az (Mh pu (az (aG ?_)))));show aC _ _ (match cg lo hi 1 (n:Int)with|(lo,hi)=>pure (lo,(1:Int),bE lo hi 1)) _ _ s;rw[j1k lo hi n];show aC _ _ (pure (((sIx n 0 lo:Nat):Int),(1:Int),bE ((sIx n 0 lo:Nat):Int) ((sIx n n hi:Nat):Int) 1)) _ _ s;rw[j0m];exact aG h
theorem j5f(xs:Array aj)(i k:Nat):((aS k).filterMap λ(m:Nat)=>xs[((i:Int)+(m:Int)*1).toNat]?).toArray=((xs.toList.drop i).take k).toArray:=by
 have e:(λ(m:Nat)=>xs[((i:Int)+(m:Int)*1).toNat]?)=λm=>xs[i+m]?:=by
  funext m
  have:((i:Int)+(m:Int)*1).toNat=i+m:=by omega
  rw[this]
 rw[e];have:=pick_run xs i k;rw[List.filterMap_map]at this;have e2:((λx=>xs[x]?) ∘ λx=>i+x)=λm=>xs[i+m]?:=rfl;rw[e2]at this;rw[this]
theorem getItem_tuple_cut{t sl:ak}{items:Array aj}{vl vu:aj}{lo hi:Option Int}{Q:k5l}(ht:jQ s.heap t items)(hs:s.heap.IsSliceOf sl vl vu .none)(pl:dO vl lo)(pu:dO vu hi)
  (hw:¬(sIx items.size 0 lo=0/\sIx items.size items.size hi=items.size))
  (h:Q (.ref s.heap.objs.size) { s with heap:=s.heap.push { cls:=.type "tuple",data:=.seq ((items.toList.drop (sIx items.size 0 lo)).take (sIx items.size items.size hi-sIx items.size 0 lo)).toArray } })
  (hsz:items.size<=aw):aC (aB prog w) A (gz (.ref t) (.ref sl)) Q E s:=by
 have htake:sizeOk (.seq ((items.toList.drop (sIx items.size 0 lo)).take (sIx items.size items.size hi-sIx items.size 0 lo)).toArray):=by show((items.toList.drop (sIx items.size 0 lo)).take (sIx items.size items.size hi-sIx items.size 0 lo)).toArray.size<=aw;rw[X3,Xh,Xf,cC];omega
 have hj:sIx items.size items.size hi<=items.size:=jbm _ _ (X4 _) hi;obtain⟨os,hos,hcs,hds⟩:=id hs;have hTs:s.TypeIs (.ref sl) "slice":=⟨os,hos,hcs⟩
 unfold gz
 try with_reducible refine jR ?_
 first|refine az (aG ?_)|skip
 refine az (wpAny_sequenceKey ht.typeIs (by decide) ?_);refine az (wpAny_callSpecial?_slot (name:=aT "__getitem__") ht.typeIs ic
  (wpAny_call_entry ic ht.typeIs entry_tuple_getitem ?_ (args_tuple_getitem _ _)))
 show aC _ _ (iL (.ref t) >>= _) _ _ s;refine az (tupleItemsOf_ ht ?_);refine az (wpAny_typeOf hTs ?_);rw[if_pos (by decide)];refine az (Ra hs pl pu ?_);have hno:¬((((sIx items.size 0 lo:Nat):Int)==0&&(1:Int)==1&&(sIx items.size items.size hi-sIx items.size 0 lo)==items.size)=ag):=by intro q;rw[X6,X6]at q;have q1:((sIx items.size 0 lo:Nat):Int)=0:=eq_of_beq q.1.1;have q2:sIx items.size items.size hi-sIx items.size 0 lo=items.size:=eq_of_beq q.2;exact hw ⟨by omega,by omega⟩
 show aC _ _ (if (((sIx items.size 0 lo:Nat):Int)==0&&(1:Int)==1&&(sIx items.size items.size hi-sIx items.size 0 lo)==items.size)=ag then _ else _) _ _ s;rw[if_neg hno,j5f]
 first
  |exact az (m:=bG _) (cj (aG ⟨_,rfl,aG h⟩) htake)
  |exact az (m:=bG _) (cj (az (aG (aG ⟨_,rfl,aG h⟩))) htake)
  |exact az (az (m:=bG _) (cj (aG (aG ⟨_,rfl,aG h⟩)) htake))
  |exact az (az (m:=bG _) (cj (aG ⟨_,rfl,aG h⟩) htake))
end
end HT
namespace L2
open PySem PySem.Spec PyProof.Rows
abbrev TO:=St->Hp->(Option Int->Hp->Prop)->Prop
def PO(X:Cx)(e:Option ar)(t:TO):Prop :=
 ∀(pins:k5m) (s:aq) (σ:St) (H:Hp) (Q:Option Int->Hp->Prop),Inv X pins σ H s->t σ H Q ->
  aC (aB X.prog X.w) X.A (evalPart e X.env) (λu s'=>∃o H',Inv X pins σ H' s'/\dO u o/\Q o H') X.xe s
def j8k:TO:=λ_ H Q=>Q ah H
def jfc(t:TE):TO:=λσ H Q=>t σ H λx H1=>∃i,x=.int i/\Q (ae i) H1
section
variable{X:Cx}{e:ar}{te:TE}{lo hi:Option ar}{tl th:TO}{pos p2:aQ}
theorem j92:PO X ah j8k:=by intro pins s σ H Q I h;rw[jT];exact aG ⟨ah,H,I,.none,h⟩
theorem j91(h:PE X e te):PO X (ae e) (jfc te):=by intro pins s σ H Q I hw;rw[evalPart_some];refine thn (h pins s σ H _ I hw) λu s1 ⟨x,H1,I1,r1,q1⟩=>?_;obtain⟨i,rfl,q⟩:=q1;obtain⟨t,rfl⟩:=r1;exact⟨ae i,H1,I1,.int i t,q⟩
def SlR(X:Cx)(r:V->Option Int->Option Int->Hp->VK->Prop):Prop :=
 ∀(pins:k5m) (s:aq) (σ:St) (H:Hp) (x:V) (v vl vu:aj) (lo hi:Option Int) (sl:ak) (Q:VK),Inv X pins σ H s->RelV x v->s.heap.IsSliceOf sl vl vu .none->dO vl lo->dO vu hi->r x lo hi H Q ->
  ∃T id,typeLookup (.type T) "__getitem__" = pure (ae (.builtin id))/\s.TypeIs v T/\aC (aB X.prog X.w) X.A (gz v (.ref sl)) (EP X pins σ Q) X.xe s
def tSl(r:V->Option Int->Option Int->Hp->VK->Prop)(te:TE)(tl th:TO):TE:=λσ H Q=>te σ H λx H1=>tl σ H1 λl H2=>th σ H2 λu H3=>r x l u H3 Q
theorem Ri{r:V->Option Int->Option Int->Hp->VK->Prop}(hr:SlR X r)(he:PE X e te)(hl:PO X lo tl)(hu:PO X hi th):PE X (.Subscript e (.Slice lo hi ah p2) pos) (tSl r te tl th):=by intro pins s σ H Q I h;refine Subscript_ (thn (he pins s σ H _ I h) λv s1 ⟨x,H1,I1,r1,q1⟩=>?_);refine wpAny_Slice (thn (hl pins s1 σ H1 _ I1 q1) λvl s2 ⟨l,H2,I2,pl,q2⟩=>thn (hu pins s2 σ H2 _ I2 q2) λvu s3 ⟨u,H3,I3,pu,q3⟩=>?_);rw[jT];refine aG ?_;have I4:Inv X pins σ H3 { s3 with heap:=s3.heap.push { cls:=.type "slice",data:=.fields #[vl,vu,.none] } }:=I3.kept (t':=s3.toks) λb ob q=>xu _ q;obtain⟨T,id,hT,ht,hg⟩:=hr pins { s3 with heap:=s3.heap.push { cls:=.type "slice",data:=.fields #[vl,vu,.none] } } σ H3 x v vl vu l u s3.heap.objs.size Q I4 r1 (Heap.IsSliceOf.new ..) pl pu q3;show aC (aB X.prog X.w) X.A (jV e (.Slice lo hi ah p2) v (.ref s3.heap.objs.size)) (EP X pins σ Q) X.xe { s3 with heap:=s3.heap.push { cls:=.type "slice",data:=.fields #[vl,vu,.none] } };exact tail_any (ops:=[.ref s3.heap.objs.size,v]) ht hT hg (by with_unfolding_all rfl)
noncomputable def Uy(xs:List V)(lo hi:Option Int):List V:=(xs.drop (HT.sIx xs.length 0 lo)).take (HT.sIx xs.length xs.length hi-HT.sIx xs.length 0 lo)
theorem Wz(xs:List V)(lo hi:Option Int):(Uy xs lo hi).length<=xs.length:=by unfold Uy;rw[Xh,Xf];omega
def jic(K:k5k):V->Option Int->Option Int->Hp->VK->Prop:=λx lo hi H Q=>∃a xs,x=.ref a/\SqT K H a xs /\
 ¬(HT.sIx xs.length 0 lo=0/\HT.sIx xs.length xs.length hi=xs.length)/\∀p,H p=ah->Q (.ref p) (upd H p (.tup (Uy xs lo hi)))
theorem jbb:SlR X (jic X.K):=by
 intro pins s σ H x v vl vu lo hi sl Q I rx hs pl pu h;obtain⟨a,xs,rfl,hx,hw,q⟩:=h;cases rx;obtain⟨its,r,ht,hz⟩:=I.tuple hx;have hlen:its.toArray.size=xs.length:=by rw[X3];exact r.length.symm
 refine⟨"tuple",_,slot_tuple_getitem.lookup,ht.typeIs,?_⟩;refine HT.getItem_tuple_cut ht hs pl pu (by rw[hlen];exact hw) ?_ (by rw[hlen];exact hz);rw[hlen];refine⟨.ref s.heap.objs.size,_,I.laid (t':=s.toks) (o:=.tup (Uy xs lo hi)) (λb ob q=>xu _ q) (X4 _) ?_,rfl,q _ (I.hok.fresh (X4 _))⟩;exact⟨X8 (Wz xs lo hi) hz,_,(r.drop (HT.sIx xs.length 0 lo)).take (HT.sIx xs.length xs.length hi-HT.sIx xs.length 0 lo),IsTup.new _ _,U8.new _ _⟩
def jfx(K:k5k):R2:=λx y H Q=>∃a b xs ys,x=.ref a/\y=.ref b/\SqT K H a xs/\SqT K H b ys/\xs≠[]/\xs.length+ys.length<=aw /\
 (ys=[]->Q (.ref a) H)/\(ys≠[]->∀p,H p=ah->Q (.ref p) (upd H p (.tup (xs++ys))))
theorem Vals.nil_iff{xs:List V}{us:List aj}(r:Vals xs us):us=[]↔xs=[]:=by
 cases r with
 |nil=>simp
 |cons _ _=>simp
theorem j9b:OpR X (aZ .Add) (jfx X.K):=by intro pins s σ H x y v u Q I rx ry h;obtain⟨a,b,xs,ys,rfl,rfl,ha,hb,hx,hz,q1,q2⟩:=h;cases rx;cases ry;obtain⟨its,r1,p1,_⟩:=I.tuple ha;obtain⟨its2,r2,p2,_⟩:=I.tuple hb;refine HT.cat_tup p1 p2 (λz=>hx (r1.nil_iff.mp z)) (λz=>⟨.ref a,H,I,rfl,q1 (r2.nil_iff.mp z)⟩) (λz=>?_) (by rw[<-r1.length,<-r2.length];exact hz);refine⟨.ref s.heap.objs.size,_,I.laid (t':=s.toks) (o:=.tup (xs++ys)) (λb ob q=>xu _ q) (X4 _) ?_,rfl,q2 (λw=>z (r2.nil_iff.mpr w)) _ (I.hok.fresh (X4 _))⟩;exact⟨by rw[X7];exact hz,_,r1.append r2,IsTup.new _ _,U8.new _ _⟩
end
noncomputable def ixN(n:Nat)(i:Int):Option Nat:=if 0<=i then(if i<n then ae i.toNat else ah)else if -(n:Int)<=i then ae (i+n).toNat else ah
noncomputable def atI{α:Type}(xs:List α)(i:Int):Option α:=(ixN xs.length i).bind λj=>xs[j]?
theorem j9q{n:Nat}{i:Int}{j:Nat}(h:ixN n i=ae j):seqIndex? i n=ae j/\j<n/\-(n:Int)<=i/\i<n:=by
 unfold ixN at h;by_cases h0:0<=i
 .rw[if_pos h0]at h;by_cases h1:i<n
  .rw[if_pos h1]at h;have e:i.toNat=j:=aD h;exact⟨by rw[seqIndex_of h0 h1,e],by omega,by omega,h1⟩
  .rw[if_neg h1]at h;cases h
 .rw[if_neg h0]at h;by_cases h1:-(n:Int)<=i
  .rw[if_pos h1]at h;have e:(i+n).toNat=j:=aD h;exact⟨by rw[seqIndex_neg nofun h1,e],by omega,h1,by omega⟩
  .rw[if_neg h1]at h;cases h
theorem Bs{α:Type}{xs:List α}{i:Int}{v:α}(h:atI xs i=ae v):∃j,seqIndex? i xs.length=ae j/\xs[j]?=ae v/\j<xs.length/\-(xs.length:Int)<=i/\i<xs.length:=by
 unfold atI at h;cases e:ixN xs.length i with
 |none=>rw[e]at h;cases h
 |some j =>rw[e]at h;obtain⟨h1,h2,h3,h4⟩:=j9q e;exact⟨j,h1,h,h2,h3,h4⟩
theorem Wn{α:Type}{xs:List α}{j:Nat}{v:α}(h:xs[j]?=ae v):atI xs (j:Int)=ae v:=by
 have hj:j<xs.length:=(Xn.mp h).1;have e:ixN xs.length (j:Int)=ae j:=by unfold ixN;rw[if_pos nofun,if_pos nofun];simp
 unfold atI;rw[e];exact h
def Wq(b:ar):Prop:=∀o i,subscripted b af o i=operate [o,i] (gz o i)
def IxR(X:Cx)(r:R2):Prop :=
 ∀(value slice:ar)(pins:k5m) (s:aq) (σ:St) (H:Hp) (x y:V) (v u:aj) (Q:VK),Inv X pins σ H s->RelV x v->RelV y u->r x y H Q ->
  subscripted slice af v u=operate [v,u] (gz v u)->aC (aB X.prog X.w) X.A (jV value slice v u) (EP X pins σ Q) X.xe s
def MtR(X:Cx)(id:String)(r:V->List V->Hp->VK->Prop):Prop :=
 ∀(pins:k5m) (s:aq) (σ:St) (H:Hp) (x:V) (xs:List V) (v:aj) (us:List aj) (Q:VK),Inv X pins σ H s->RelV x v->Vals xs us->r x xs H Q ->
  aC (aB X.prog X.w) X.A (call (.builtin id) (v::us)) (EP X pins σ Q) X.xe s
section
variable{X:Cx}{a b:ar}{ta tb:TE}{pos:aQ}
theorem Mm{r:R2}(hr:IxR X r)(ha:PE X a ta)(hb:PE X b tb)(hs:Wq b):PE X (.Subscript a b pos) (tOp r ta tb):=by intro pins s σ H Q I h;exact Subscript_ (j73 ha hb I h λv u s2 x y H2 I2 rx ry q=>hr a b pins s2 σ H2 x y v u Q I2 rx ry q (hs _ _))
def jbv(K:k5k):R2:=λx y H Q=>∃p xs i v,x=.ref p/\y=.int i/\SqL K H p xs/\atI xs i=ae v/\Q v H
def jbt(K:k5k):R2:=λx y H Q=>∃p xs i v,x=.ref p/\y=.int i/\SqT K H p xs/\atI xs i=ae v/\Q v H
def jbu:R2:=λx y H Q=>∃z i c,x=.str z/\y=.int i/\z.length<=aw/\atI z.cps.toList i=ae c/\Q (.str ⟨#[c]⟩) H
theorem Eg:IxR X (jbv X.K):=by
 intro value slice pins s σ H x y v u Q I rx ry h hs;obtain⟨p,xs,i,z,rfl,rfl,hq,he,q⟩:=h;cases rx;obtain⟨t,rfl⟩:=ry;obtain⟨its,r,pl,hz⟩:=I.list hq;obtain⟨j,h1,h2,h3,h4,h5⟩:=Bs he;obtain⟨w,ew,rw'⟩:=r.get h2;have hl:=r.length;have hn:=Ut;have fin:EP X pins σ Q w s:=⟨z,H,I,rw',q⟩
 by_cases h0:0<=i
 .have hj:i.toNat=j:=by rw[seqIndex_of h0 h5]at h1;exact aD h1
  exact item_listR pl.isList h0 nofun (by rw[hj];simpa using ew) fin hs
 .have hj:(i+(its.toArray.size:Int)).toNat=j:=by rw[seqIndex_neg nofun h4]at h1;rw[X3,<-hl];exact aD h1
  exact gA (x:=w) pl.isList.typeIs slot_list_getitem.lookup
   (wpAny_getItem_list_neg (Q:=λr s'=>r=w/\EP X pins σ Q r s') pl.isList nofun (by rw[X3]<;>omega) nofun (by rw[hj];simpa using ew) ⟨rfl,fin⟩) hs
theorem j35:IxR X (jbt X.K):=by
 intro value slice pins s σ H x y v u Q I rx ry h hs;obtain⟨p,xs,i,z,rfl,rfl,hq,he,q⟩:=h;cases rx;obtain⟨t,rfl⟩:=ry;obtain⟨its,r,pl,hz⟩:=I.tuple hq;obtain⟨j,h1,h2,h3,h4,h5⟩:=Bs he;obtain⟨w,ew,rw'⟩:=r.get h2;have hl:=r.length;have hn:=Ut;have fin:EP X pins σ Q w s:=⟨z,H,I,rw',q⟩
 exact gA (x:=w) pl.typeIs slot_tuple_getitem.lookup
  (getItem_tuple (j:=j) (Q:=λr s'=>r=w/\EP X pins σ Q r s') pl nofun nofun (by rw[X3,<-hl];exact h1) (by simpa using ew) ⟨rfl,fin⟩) hs
theorem jd9:IxR X jbu:=by
 intro value slice pins s σ H x y v u Q I rx ry h hs;obtain⟨z,i,c,rfl,rfl,hz,he,q⟩:=h;obtain⟨t,rfl⟩:=rx;obtain⟨t',rfl⟩:=ry;obtain⟨j,h1,h2,h3,h4,h5⟩:=Bs he;have hl:z.cps.toList.length=z.length:=by simp[jJ]
 rw[hl]at h1 h4 h5;have hn:=Ut;exact tail_any (cD s z t) slot_str_getitem.lookup (getItem_str (c:=c) (by
  have e1:decide (i < -(2^63:Int))=af:=decide_eq_false nofun
  have e2:decide (i>=2^63)=af:=decide_eq_false nofun
  rw[e1,e2,fi]) (by rw[h1];simpa using h2) ⟨.str ⟨#[c]⟩,H,I.tok _,⟨_,rfl⟩,q⟩) hs
theorem Cg(lo hi:Option Int)(n:Nat):(cE lo hi ah n).1=((HT.sIx n 0 lo:Nat):Int)/\(cE lo hi ah n).2.1=((HT.sIx n n hi:Nat):Int)/\(cE lo hi ah n).2.2=1:=by
 refine⟨?_,?_,rfl⟩
 .cases lo with
  |none=>simp[cE,HT.sIx]
  |some i =>
   simp only[cE,HT.sIx,gq,show(1:Int)>0 by decide,if_true];by_cases h:i<0
   .simp only[h,if_true]<;>omega
   .simp only[h,if_false]<;>omega
 .cases hi with
  |none=>simp[cE,HT.sIx]
  |some i =>
   simp only[cE,HT.sIx,gq,show(1:Int)>0 by decide,if_true];by_cases h:i<0
   .simp only[h,if_true]<;>omega
   .simp only[h,if_false]<;>omega
theorem Fv(its:List aj)(lo hi:Option Int):slicePick its.toArray lo hi ah=((its.drop (HT.sIx its.length 0 lo)).take (HT.sIx its.length its.length hi-HT.sIx its.length 0 lo)).toArray:=by obtain⟨h1,h2,h3⟩:=Cg lo hi its.toArray.size;unfold slicePick;rw[h1,h2,h3];simp only[sliceRange_one,pick_run,X3]<;>rfl
def jie(K:k5k):V->Option Int->Option Int->Hp->VK->Prop:=λx lo hi H Q=>∃a xs,x=.ref a/\SqL K H a xs/\∀p,H p=ah->Q (.ref p) (upd H p (.lst (Uy xs lo hi)))
theorem j8l:SlR X (jie X.K):=by intro pins s σ H x v vl vu lo hi sl Q I rx hs pl pu h;obtain⟨a,xs,rfl,hx,q⟩:=h;cases rx;obtain⟨its,r,ht,hz⟩:=I.list hx;have hlen:=r.length;refine⟨"list",_,slot_list_getitem.lookup,ht.isList.typeIs,?_⟩;refine wpAny_getItem_list_slice ht.isList hs pl pu .none (by simp) ?_ (by rw[X3]<;>omega);rw[Fv,<-hlen];refine⟨.ref s.heap.objs.size,_,I.laid (t':=s.toks) (o:=.lst (Uy xs lo hi)) (λb ob q=>xu _ q) (X4 _) ?_,rfl,q _ (I.hok.fresh (X4 _))⟩;exact⟨X8 (Wz xs lo hi) hz,_,0,(r.drop (HT.sIx xs.length 0 lo)).take (HT.sIx xs.length xs.length hi-HT.sIx xs.length 0 lo),Xe _ rfl⟩
theorem Qq:vm X (.builtin "len") (λxs H Q=>∃p ys,xs=[.ref p]/\(SqL X.K H p ys\/SqT X.K H p ys)/\Q (.int ys.length) H):=by
 intro pins s σ H xs us Q I r h;obtain⟨p,ys,rfl,hq,q⟩:=h;obtain⟨u,rfl,rx⟩:=vals1 r;cases rx;have hn:=Ut;rcases hq with hq|hq
 .obtain⟨its,r',pl,hz⟩:=I.list hq;have hlen:=r'.length;exact Calls.call_len_list pl.isList (by simp only[X3]<;>omega) ⟨.int ys.length,H,I.tok _,⟨s.toks+1,by rw[X3,hlen]⟩,q⟩
 .obtain⟨its,r',pl,hz⟩:=I.tuple hq;have hlen:=r'.length;exact len_tuple pl (by simp only[X3]<;>omega) ⟨.int ys.length,H,I.tok _,⟨s.toks+1,by rw[X3,hlen]⟩,q⟩
theorem Kf:vm X (.builtin "len") (λxs H Q=>∃z,xs=[.str z]/\z.length<=aw/\Q (.int z.length) H):=by intro pins s σ H xs us Q I r h;obtain⟨z,rfl,hz,q⟩:=h;obtain⟨u,rfl,t,rfl⟩:=vals1 r;have hn:=Ut;exact len_str nofun ⟨.int z.length,H,I.tok _,⟨_,rfl⟩,q⟩
theorem Ke:vm X (.type "list") (λxs H Q=>∃p ys,xs=[.ref p]/\(SqL X.K H p ys\/SqT X.K H p ys)/\∀l,H l=ah->Q (.ref l) (upd H l (.lst ys))):=by
 intro pins s σ H xs us Q I r h;obtain⟨p,ys,rfl,hq,q⟩:=h;obtain⟨u,rfl,rx⟩:=vals1 r;cases rx;have fin:∀(its:List aj),Vals ys its->ys.length<=aw->∀(h':aK)(c':Nat),(∀b o',s.heap.get? b=ae o'->h'.get? b=ae o') ->
   h'.get? s.heap.objs.size=ae { cls:=.type "list",dict:=ah,data:=.seq its.toArray c',slots:=#[] }->EP X pins σ Q (.ref s.heap.objs.size) { s with heap:=h' }:=λits r' hz h' c' kp e =>
  ⟨.ref s.heap.objs.size,_,I.laid (t':=s.toks) kp (X4 _) (show jl X.prog X.w _ h' _ (.lst ys) from⟨hz,its,c',r',e⟩),rfl,q _ (I.hok.fresh (X4 _))⟩
 rcases hq with hq|hq
 .obtain⟨its,r',pl,hz⟩:=I.list hq;have hlen:=r'.length;obtain⟨o,ho,hc,n,hd⟩:=pl.isList;exact jU p (.inl rfl) ho hc hd (λh' c' kp e=>fin its r' hz h' c' kp e) (by simp only[X3]<;>omega)
 .obtain⟨its,r',pl,hz⟩:=I.tuple hq;have hlen:=r'.length;obtain⟨o,ho,hc,n,hd⟩:=pl;exact jU p (.inr rfl) ho hc hd (λh' c' kp e=>fin its r' hz h' c' kp e) (by simp only[X3]<;>omega)
theorem Fw:vm X (.type "tuple") (λxs H Q=>∃p ys,xs=[.ref p]/\((SqL X.K H p ys/\∀l,H l=ah->Q (.ref l) (upd H l (.tup ys)))\/(SqT X.K H p ys/\Q (.ref p) H))):=by
 intro pins s σ H xs us Q I r h;obtain⟨p,ys,rfl,h⟩:=h;obtain⟨u,rfl,rx⟩:=vals1 r;cases rx;rcases h with ⟨hq,q⟩|⟨hq,q⟩
 .obtain⟨its,r',pl,hz⟩:=I.list hq;have hlen:=r'.length;refine call_tuple_list pl.isList (λh' kp=>?_) (by simp only[X3]<;>omega);have I1:Inv X pins σ H { s with heap:=h' }:=I.kept (t':=s.toks) kp;have I2:Inv X pins σ (upd H h'.objs.size (.tup ys)) { s with heap:=h'.push { cls:=.type "tuple",data:=.seq its.toArray } } :=
   I1.laid (t':=s.toks) (λb o e=>xu _ e) (X4 _) (show jl X.prog X.w _ _ _ (.tup ys) from⟨hz,its,r',IsTup.new _ _,U8.new _ _⟩)
  exact⟨.ref h'.objs.size,_,I2,rfl,q _ (I1.hok.fresh (X4 _))⟩
 .obtain⟨its,r',pl,hz⟩:=I.tuple hq;exact call_tuple_same pl ⟨.ref p,H,I,rfl,q⟩
def tyV(K:k5k)(T:String)(x:V)(H:Hp):Prop:=match x with
 |.str _=>T = "str"
 |.int _=>T = "int"
 |.ref p=>(T = "list"/\∃xs,SqL K H p xs)\/(T = "tuple"/\∃xs,SqT K H p xs) \/
   (T = "dict"/\((∃kvs,H p=ae (.dK kvs))\/∃kvs,H p=ae (.dT kvs)))\/(T = "set"/\∃S n,H p=ae (.set S n))
 |_=>False
theorem jb3{pins:k5m}{σ:St}{H:Hp}{s:aq}{T:String}{x:V}{v:aj}(I:Inv X pins σ H s)(r:RelV x v)(ty:tyV X.K T x H) :
  s.TypeIs v T/\∀a,v=.ref a->∃ob,s.heap.get? a=ae ob/\ob.dict=ah:=by
 cases x with
 |str z =>obtain⟨t,rfl⟩:=r;cases(show T = "str" from ty);exact⟨cD s z t,λ_ e=>nomatch e⟩
 |int i =>obtain⟨t,rfl⟩:=r;cases(show T = "int" from ty);exact⟨eG s i t,λ_ e=>nomatch e⟩
 |ref p =>
  cases r;rcases ty with ⟨rfl,xs,hq⟩|⟨rfl,xs,hq⟩|⟨rfl,hk⟩|⟨rfl,S,n,hk⟩
  .obtain⟨its,_,pl,_⟩:=I.list hq;refine⟨pl.isList.typeIs,λa e=>?_⟩;cases e;obtain⟨o,n,e,c,hd,_⟩:=pl;exact⟨o,e,hd⟩
  .obtain⟨its,_,⟨o,e1,e2,_⟩,_⟩:=I.tuple hq;refine⟨⟨o,e1,e2⟩,λa e=>?_⟩;cases e;exact⟨o,e1,I.tupD hq o e1⟩
  .have z:∃o,s.heap.get? p=ae o/\o.ExactDict:=by
    rcases hk with ⟨kvs,hk⟩|⟨kvs,hk⟩
    .obtain⟨_,_,_,_,o,_,_,e,ex,_⟩:=I.hok p _ hk;exact⟨o,e,ex⟩
    .obtain⟨_,_,_,_,o,_,_,e,ex,_⟩:=I.hok p _ hk;exact⟨o,e,ex⟩
   obtain⟨o,e,ex⟩:=z;refine⟨⟨o,e,ex.1⟩,λa e2=>?_⟩;cases e2;exact⟨o,e,ex.2.1⟩
  .obtain⟨o,_,_,_,e,ex,_⟩:=I.hok p _ hk;refine⟨⟨o,e,ex.1⟩,λa e2=>?_⟩;cases e2;exact⟨o,e,ex.2.1⟩
 |_=>exact aO ty
def tBM(K:k5k)(T:String)(r:V->List V->Hp->VK->Prop)(to:TE)(t:TA):TE:=λσ H Q=>to σ H λx H1=>tyV K T x H1/\t σ H1 λxs H2=>r x xs H2 Q
variable{o e:ar}{es:List ar}{to:TE}{t:TA}{name:ao}{apos cpos:aQ}{T id:String}{r:V->List V->Hp->VK->Prop}
theorem Di (pa:PlainAttrs T) (slot:Slot T name id) (hty:typeOf (.builtin id)=pure (.type "method_descriptor")) (hm:MtR X id r) (ho:PE X o to) (ha:PA X (e::es) t)
  (hbase:bu o name X.env (aH o X.env)=aH o X.env:=by rfl)
  (hfew:((aV cpos (ai (e::es) X.env)).all (λx=>!x.1)&&(d4 cpos (bS [] X.env)).all (λx=>x.1.isSome)
   && decide ((e::es).length+([]:List bW).length+(if ([]:List bW).isEmpty then 0 else 1)<30))=ag:=by rfl)
  (hline:(apos.endLine==cpos.line)=ag:=by rfl) (hs:ai (e::es) X.env=(af,aH e X.env)::ai es X.env:=by rfl) (hplain:(aV cpos (ai es X.env)).any (·.1)=af:=by rfl) :
  PE X (.Call (.Attribute o name apos) (e::es) [] cpos) (tBM X.K T r to t):=by
 intro pins s σ H Q I h;refine wpAny_Call_method_late hbase hfew hline rfl (thn (ho pins s σ H _ I h) λv s1 ⟨x,H1,I1,r1,ty,q1⟩=>?_);obtain⟨h1,h2⟩:=jb3 I1 r1 ty;refine⟨T,id,pa,slot,hty,h1,h2,?_⟩;have hA:=ha cpos pins s1 σ H1 _ I1 q1;rw[hs]at hA ⊢;refine Calls.callWith_builtin (by show(af || (aV cpos (ai es X.env)).any (·.1))=af;rw[hplain]<;>rfl) (fF ?_);exact thn hA λus s2 ⟨vs,H2,I2,r2,q2⟩=>hm pins s2 σ H2 x vs v us Q I2 r1 r2 q2
/- xs.append(e),list.index on a module's tuple .. are MtR facts of 06m -/
end
def MtM(X:Cx)(id:String)(r:V->List V->Hp->VK->Prop):Prop :=
 ∀(pins:k5m) (s:aq) (σ:St) (H:Hp) (x:V) (xs:List V) (v:aj) (us:List aj) (Q:VK),Inv X pins σ H s->RelV x v->Vals xs us->r x xs H Q ->
  aC (aB X.prog X.w) X.A (call (.builtin id) (v::us)) (EP X pins σ Q) X.xe s
theorem Vals.one{x:V}{us:List aj}(h:Vals [x] us):∃u,us=[u]/\RelV x u:=by cases h with|cons r t=>cases t;exact⟨_,rfl,r⟩
theorem Vals.zero:∀{us:List aj},Vals [] us->us=[]
 |_,.nil=>rfl
theorem Vals.dropLast{xs:List V}{us:List aj}(h:Vals xs us):Vals xs.dropLast us.dropLast:=by
 induction h with
 |nil=>exact .nil
 |cons r t ih =>
  cases t with
  |nil=>exact .nil
  |cons q t'=>exact .cons r ih
theorem Vals.reverse{xs:List V}{us:List aj}(h:Vals xs us):Vals xs.reverse us.reverse:=by
 induction h with
 |nil=>exact .nil
 |cons r t ih=>rw[gD,gD];exact Vals.append ih (.cons r .nil)
theorem Vals.rep{xs:List V}{us:List aj}(h:Vals xs us):∀k:Nat,Vals (ax k xs).flatten (ax k us).flatten
 |0=>.nil
 |k+1=>by rw[Pn,Pn,Tc,Tc];exact Vals.append h (Vals.rep h k)
theorem foldl_rep(its:List aj):∀(k:Nat)(acc:List aj),
  cf (λx1 x2=>x1++x2) acc.toArray (ax k its.toArray)=(acc++(ax k its).flatten).toArray
 |0,acc=>by simp
 |k+1,acc=>by
  have e:acc.toArray++its.toArray=(acc++its).toArray:=by simp
  have e2:(acc++its)++(ax k its).flatten=acc++(ax (k+1) its).flatten:=by rw[Pn,Tc,ph]
  rw[<-e2,<-foldl_rep its k (acc++its),<-e,Pn,cA]
section
variable{X:Cx}{pins:k5m}{σ:St}{H:Hp}{s:aq}{l b:ak}{xs ys zs:List V}
theorem Inv.lset{its its':List aj}{n:Nat}{f:Array aj->Array aj}{t':Nat}(I:Inv X pins σ H s)(hH:H l=ae (.lst xs))
  (e:s.heap.get? l=ae { cls:=.type "list",data:=.seq its.toArray n }) (hf:f its.toArray=its'.toArray) (hv:Vals ys its') (hz:ys.length<=aw) :
  Inv X pins σ (upd H l (.lst ys)) { s with heap:=s.heap.update l (Obj.mapSeq f),toks:=t' }:=by
 have q:=PySem.IsL.update e f;rw[hf]at q;refine I.write (x:=l) (e:=l) (by rw[hH];exact trivial) (.inl rfl) (λb' u hb hu=>(Heap.get?_update_other s.heap (Obj.mapSeq f) (dH hb)).trans hu) ⟨_,q⟩ ?_;exact⟨hz,its',_,hv,q⟩
theorem Inv.lnew{its:List aj}{t':Nat}(I:Inv X pins σ H s)(hv:Vals ys its)(hz:ys.length<=aw) :
  Inv X pins σ (upd H s.heap.objs.size (.lst ys)) { s with heap:=s.heap.push { cls:=.type "list",data:=.seq its.toArray },toks:=t' } :=
 I.laid (λ_ _ q=>xu _ q) (X4 _) ⟨hz,its,0,hv,Xe _ rfl⟩
theorem Inv.fresh(I:Inv X pins σ H s):H s.heap.objs.size=ah:=I.hok.fresh (X4 _)
theorem Inv.lstM(I:Inv X pins σ H s)(hH:H l=ae (.lst xs)):xs.length<=aw/\∃(its:List aj)(n:Nat),Vals xs its/\xs.length=its.length/\s.heap.get? l=ae { cls:=.type "list",data:=.seq its.toArray n }:=by obtain⟨z,its,n,r,e⟩:=I.hok l _ hH;exact⟨z,its,n,r,r.length,e⟩
theorem j5n{n:Nat}(h:n<=aw):cx n=af:=by unfold cx;exact decide_eq_false nofun
end
section
variable{X:Cx}
def j90:V->List V->Hp->VK->Prop:=λx vs H Q=>∃l xs y,x=.ref l/\vs=[y]/\H l=ae (.lst xs)/\xs.length<aw/\Q .non (upd H l (.lst (xs++[y])))
theorem Ng:MtM X "list.append" j90:=by intro pins s σ H x vs v us Q I rx rv h;obtain⟨l,xs,y,rfl,rfl,hH,hz,q⟩:=h;cases rx;obtain⟨u,rfl,ru⟩:=rv.one;obtain⟨z,its,n,r,hl,e⟩:=I.lstM hH;refine bU fE ⟨_,e,rfl⟩ F.entry_list_append (F.args_list_append_2 _ _) (PySem.list_append l its.toArray n u (by rw[X3];omega)) ⟨e,?_⟩;refine⟨.non,_,I.lset (its':=its++[u]) hH e (by simp) (r.append (.cons ru .nil)) ?_,rfl,q⟩;rw[X7,List.length_singleton];omega
def jig:R2:=λx y H Q=>∃l k xs,x=.ref l/\y=.int k/\H l=ae (.lst xs)/\-(2^63)<=k/\k<2^63/\xs.length*k.toNat<=aw /\
 ∀p,H p=ah->Q (.ref p) (upd H p (.lst (ax k.toNat xs).flatten))
theorem len_rep{α:Type}(xs:List α)(k:Nat):(ax k xs).flatten.length=k*xs.length:=by
 induction k with
 |zero=>simp
 |succ k ih=>rw[Pn,Tc,X7,ih,Nat.succ_mul,Nat.add_comm]
theorem jcc:OpR X (aZ .Mult) jig:=by
 intro pins s σ H x y v u Q I rx ry h;obtain⟨l,k,xs,rfl,rfl,hH,h1,h2,hz,q⟩:=h;cases rx;obtain⟨t,rfl⟩:=ry;obtain⟨z,its,n,r,hl,e⟩:=I.lstM hH;have hlen:its.toArray.size*k.toNat<=aw:=by rw[X3,<-hl];exact hz
 have hcap:¬its.toArray.size*k.toNat>(2^63-1)/8:=by
  have:(aw:Nat)<=(2^63-1)/8:=by decide
  omega
 have hfit:¬(!Builtin.List.listFitsIndex k)=ag:=by rw[fitsIndex_both h1 h2];exact xx
 have hlong:¬cx (its.toArray.size*k.toNat)=ag:=by rw[j5n hlen];exact xx
 have hnew:cf (λx1 x2=>x1++x2) #[] (ax (if its.toArray.isEmpty=ag then 0 else k.toNat) its.toArray)=(ax k.toNat its).flatten.toArray:=by
  have f0:∀m:Nat,cf (λx1 x2=>x1++x2) #[] (ax m its.toArray)=(ax m its).flatten.toArray:=λm=>by have:=foldl_rep its m [];rw[dj]at this;exact this
  rw[f0];cases its with
  |nil=>simp
  |cons a r'=>rw[if_neg (by simp)]
 refine fS (T:="list") (U:="int") (by decide) ⟨_,e,rfl⟩ (λs'=>eG s' k t) noFill_list_mul iu dn repeat_list F.slot_int_index.lookup
  (bU dn (eG s k t) i6 (hJ _ _) (int___rmul___int_list k t l its.toArray n)
   ⟨e,rfl,⟨_,e,rfl⟩,bU F.slot_list_mul ⟨_,e,rfl⟩ F.entry_list_mul (F.args_list_mul_2 _ _) (AutoListH.list___mul___list_int_3 l its.toArray n k t hfit hcap hlong) ⟨e,?_⟩⟩)
 rw[hnew];exact⟨.ref _,_,I.lnew (t':=s.toks) (r.rep k.toNat) (by rw[len_rep,fN];exact hz),rfl,q _ I.fresh⟩
end
section
variable{prog:ay}{w:aE}{A:aF}{E:k5l}{s:aq}
end
section
variable{X:Cx}
end
end L2
namespace Att
open PySem PySem.W PySem.Calls PyProof.Rows
theorem Mz{P:jO}{h:aK}:∀(ns:List Int)(vs:List aj),WellAll P h vs (ns.map WData.int)->gB vs ns:=by
 intro ns;induction ns with
 |nil =>intro vs w;rw[bO]at w;cases w;exact .nil
 |cons n ns ih =>
  intro vs w;rw[X5]at w;cases w with
  |cons a b =>cases a;exact .cons _ _ (ih _ b)
theorem j23{l:cU}{n:Nat}(hn:l.most=ae n){P:jO}{h:aK}{args:List WData}{vals:List aj}
  (hpre:l.row.toRowW.claim.pre args=ag) (hwl:WellAll P h vals args) :
  ∃a vs ns,vals=[aJ a]/\args=[WData.list (ns.map WData.int)]/\h.get? a=ae { cls:=.type "list",data:=.seq vs.toArray }/\gB vs ns/\ns.length<=n:=by
 have hsh:WShape.hasAll [] args [.list .int]=ag:=(pre_splitW hpre).1;have hc:l.pre.holds [] { args:=args }=ag:=(pre_splitW hpre).2;obtain⟨d,r,rfl,h1,h2⟩:=hasAllW_cons hsh;obtain rfl:=hasAllW_nil h2;obtain⟨xs,rfl,h3⟩:=hasW_list h1;obtain⟨ns,rfl⟩:=items_int h3;have hlen:ns.length<=n:=by
  unfold OpenLaw.pre at hc;have h4:(WTm.not (.lt (.lit (.int (n:Int))) (.len (.arg 0)))).holds [] { args:=[.list (ns.map .int)] }=ag:=by have h4:=(holds_andW hc).1;rw[hn]at h4;exact h4
  have h5:=condW_of h4 (w_not (w_lt w_lit (w_len_list (w_arg rfl))));rw[xj]at h5;refine Nat.le_of_not_lt λq=>?_;have q':(n:Int)<((ns.length:Nat):Int):=by omega
  first
   |(rw[decide_eq_true q']at h5;exact absurd h5 (by decide))
   |(simp at h5;omega)
 cases hwl with
 |cons w1 w2 =>
  cases w2;cases w1 with
  |list ho hall=>exact⟨_,_,ns,rfl,rfl,ho,Mz ns _ hall,hlen⟩
theorem j2e(l:cU)(args:List WData):l.row.toRowW.claim.post args (.bool ag) args=ag :=
 postW_of (r:=l.row.toRowW) (X:=(ag==ag))
  (show WShape.has [] (.bool ag) .bool=ag by first|rfl|decide|simp[WShape.has,WShape.arms,WShape.armsAll])
  (show(WTm.eq .res (.lit (.bool ag))).value [] { args:=args,res:=ae (.bool ag),after:=args }=ae (.bool (ag==ag))from w_eq_bool (w_res rfl) w_lit) rfl
theorem attach_call{l:cU}{n:Nat}{q:ay}{loose:List ao}{XP:(ao->Option aj)->aK->Prop}{YP:aE->aK->Prop}{d:DefRec}
  (hn:l.most=ae n) (hdf:d.params.defaults=[])
  (call:∀(w:aE)(s₀ s₁:aq)(mg mb:k5n)(fa:ak)(o:cy)(pm cd doc:aj)(a:ak) (vs:List aj) (ns:List Int),
   Ground q loose [] XP w s₀ mg mb s₁.heap->YP w s₁.heap ->
   s₁.heap.get? fa=ae o->o.data=.func (docDef d.name d.params d.body d.scope pm cd doc)->s₁.heap.CodeRec cd d.name->mg d.name=ae (.ref fa) ->
   s₁.heap.get? a=ae { cls:=.type "list",data:=.seq vs.toArray }->gB vs ns->ns.length<=n->s₁.gens = #[] ->
   c9 (aB l.prog w) eQ (.call (.ref fa) ⟨[.ref a],[]⟩) (λr s'=>r=.ok (.ret (.bool ag))/\OldK s₁.heap s'.heap/\s'.os=s₁.os/\d9 s'.gens) s₁) :
  fW q loose XP YP l.row.toRowW d [] (λf vs=>g6 f vs):=by
 intro w s₀ s₁ mg mb G Y fa o pm cd doc dV kV ho hd hcd hD hmg hg args vals as hpre hlay hrd hwl hlo;obtain rfl:dV=.none:=Dflts.none hD hdf;obtain rfl:kV=.none:=Dflts.noKw hD;obtain⟨a,vs,ns,rfl,rfl,hobj,hints,hlen⟩:=j23 hn hpre hwl;refine enter_call (bH (call w s₀ s₁ mg mb fa o pm cd doc a vs ns G Y ho (fd_plain hd) hcd hmg hobj hints hlen hg) λr s' hq=>?_);obtain⟨rfl,h2,h3,h4⟩:=hq;exact⟨.inl ⟨.bool ag,.bool ag,[],rfl,λ_=>rfl,.bool ag,j2e l _,λ_=>⟨List.Pairwise.nil,λ_ hm=>(nomatch hm)⟩⟩,h2,h3,h4⟩
section
variable{prog:ay}{w:aE}{A:aF}{E:k5l}{s:aq}{K:jI}
end
end Att
namespace L2
open PySem PySem.Spec PyProof.Rows
theorem Bx:∀{vs:List aj}{ns:List Int},gB vs ns->Vals (ns.map V.int) vs
 |_,_,.nil=>.nil
 |_,_,.cons n t h=>.cons ⟨t,rfl⟩ (Bx h)
def Only(ts:List (ak×ao))(H:Hp):Prop:=(∀b,H b=ah\/(∃o xs,H b=ae (.frz o (.lst xs)))\/∃q,(b,q)∈ts/\H b=ae (.cod q))/\∀t∈ts,H t.1=ae (.cod t.2)
def j7c(ts:List (ak×ao))(h:aK):Prop:=(ts.map (·.1)).Nodup/\∀t∈ts,(∃c,PySem.W.CodeHd h c t.1)/\h.get? t.1=ae (W.tabObj #[])
theorem Ik:∀{ts:List (ak×ao)} {b:ak} {q:ao},ts.lookup b=ae q->(b,q)∈ts
 |p::r,b,q,h=>by
  rw[Xb]at h;cases e:b==p.1 with
  |true=>rw[e]at h;cases h;rw[beq_iff_eq.mp e];exact xg ..
  |false=>rw[e]at h;exact kj _ (Ik h)
theorem lookup_tab:∀{ts:List (ak×ao)},(ts.map (·.1)).Nodup->∀t∈ts,ts.lookup t.1=ae t.2
 |[],_,_,h=>by cases h
 |p::r,nd,t,ht=>by
  rw[X5]at nd;rcases km.mp ht with e|ht
  .subst e;rw[Xb,beq_self_eq_true]
  .have ne:(t.1==p.1)=af:=beq_eq_false_iff_ne.mpr λz=>(Xl.mp nd).1 (z▸g9 ht);rw[Xb,ne];exact lookup_tab (Xl.mp nd).2 t ht
theorem j5v{P:ay}{w:aE}{K:k5k}{mg mb:k5n}{CX:CXT}{k:Nat}{fa a:ak}{fd:aL}{x:ao}{sp:Sp}{s₁:aq}{vs:List aj}{ns:List Int}{ts:List (ak×ao)}
  (KX:K.In s₁.heap) (hns:s₁.heap.Ns au mg) (hb:s₁.heap.Ns cZ mb) (hbb:∀x:ao,x ≠ "__name__"->mb x=aY x) (hlim:s₁.heap.NoLimit)
  (hbm:∃bm ob,mg "__builtins__" = ae (.ref bm)/\bm≠cZ/\s₁.heap.get? bm=ae ob/\ob.cls=.type "module"/\ob.dict=ae cZ/\ob.data=.plain) (hT:j7c ts s₁.heap) (hK0:W.noTabs K=ag) (hg:s₁.gens = #[])
  (ha:s₁.heap.get? a=ae { cls:=.type "list",data:=.seq vs.toArray }) (hi:gB vs ns) (hl:ns.length<=aw) (hr:Room k eQ)
  (F:∀base:aK,K.In base->base.Ns au mg->FnOk P w K mg base CX k fa fd [x] sp) (hbind:∀(s:aq)(u:aj),eR s fd ⟨[u],[]⟩ [(x,u)])
  (hsp:∀H:Hp,Only ts H->SqL K H a (ns.map V.int)->sp [.ref a] H (λv H'=>v=.bl ag/\∀b o,H b=ae o->H' b=ae o) λ_ _ _=>False)
  (hCX:∀H e s',CX [] H s₁ (λ_ _ _=>False) e s'->False) :
  c9 (aB P w) eQ (.call (.ref fa) ⟨[.ref a],[]⟩) (λr s'=>r=.ok (.ret (.bool ag))/\OldK s₁.heap s'.heap/\s'.os=s₁.os/\d9 s'.gens) s₁:=by
 have rv:=Bx hi;have lenV:=hi.length;have at_:∀{q:ao}{b:ak},(b,q)∈ts->s₁.heap.get? b=ae (W.tabObj #[]):=λ{q b} h=>(hT.2 _ h).2;have core:∀H:Hp,Only ts H->SqL K H a (ns.map V.int)->HOk P w H s₁.heap->(∀b,H b≠ah->b=a\/∃q,(b,q)∈ts)->(H a≠ah->K.lookup a=ah) ->
   c9 (aB P w) eQ (.call (.ref fa) ⟨[.ref a],[]⟩) (λr s'=>r=.ok (.ret (.bool ag))/\OldK s₁.heap s'.heap/\s'.os=s₁.os/\d9 s'.gens) s₁:=by
  intro H hO hS hok hA hK;have base_of:∀{b:ak}{o:cy},s₁.heap.get? b=ae o->H b=ah->(Ys s₁.heap H).get? b=ae o:=λe n=>j6g e n;have noA:∀{b:ak}{o:cy},s₁.heap.get? b=ae o->(∀vs n,o.data≠.seq vs n)->(∀vs,o.data≠.fields vs)->H b=ah:=λ{b o} e d d2=>by
   cases q:H b with
   |none=>rfl
   |some u =>
    rcases hA b (by rw[q];simp)with e'|⟨q',e'⟩
    .subst e';rw[ha]at e;cases e;exact absurd rfl (d _ _)
    .rw[at_ e']at e;cases e;exact absurd rfl (d2 _)
  have nsK:∀{b:ak}{m:k5n},s₁.heap.Ns b m->(Ys s₁.heap H).Ns b m:=λ{b m} ⟨o,es,ep,e,d,r⟩=>⟨o,es,ep,base_of e (noA e (λ_ _ z=>by rw[d]at z;cases z) λ_ z=>by rw[d]at z;cases z),d,r⟩
  have hKb:K.In (Ys s₁.heap H):=λb o e=>base_of (KX b o e) (by
   cases q:H b with
   |none=>rfl
   |some u =>
    rcases hA b (by rw[q];simp)with e'|⟨q',e'⟩
    .subst e'
     rw[hK (by rw[q];simp)]at e;cases e
    .have e2:=KX b o e
     rw[at_ e']at e2
     have h2:=Xo.mp hK0 (b,o) (W.mem_of_lookupK e)
     cases e2
     exact absurd (show af=ag from h2) xx)
  have hM:Mod K mg (Ys s₁.heap H):=⟨hKb,nsK hns,⟨mb,nsK hb,hbb⟩,(let ⟨mc,h1,h2⟩:=hlim;⟨mc,nsK h1,h2⟩),
   let ⟨bm,ob,b1,b2,b3,b4,b5,b6⟩:=hbm;⟨bm,ob,b1,b2,base_of b3 (noA b3 (λ_ _ z=>by rw[b6]at z;cases z) λ_ z=>by rw[b6]at z;cases z),b4,b5,b6⟩⟩
  have e0:Env0 P w K mg (Ys s₁.heap H) eQ [] s₁ H:=⟨rfl,hM,λb o e=>j9e e,iU (j38 _ _),trivial,λb hb=>absurd (show b∈([]:List ak)from hb) (by simp),hok,.of_eq hg⟩
  refine bH ((F _ hKb (nsK hns)).run eQ [] s₁ H ⟨[.ref a],[]⟩ [.ref a] [.ref a] _ _ hr e0 (hbind s₁ (.ref a)) (.cons rfl .nil) (hsp H hO hS)) λr s' h=>?_;cases r with
  |error e=>exact(hCX H e s' h).elim
  |ok fl =>
   cases fl with
   |next=>exact aO h
   |brk=>exact aO h
   |cont=>exact aO h
   |ret u =>
    obtain⟨v,H',os,bare,un,hok',r',q,sm⟩:=h;have q':v=.bl ag:=q;subst q';obtain rfl:u=bB ag:=r';have main:∀b o,s₁.heap.get? b=ae o->s'.heap.get? b=ae o\/((∃q,(b,q)∈ts)/\o=W.tabObj #[]/\∃ps,s'.heap.get? b=ae (W.tabObj ps)):=λb o e=>by
     cases q:H b with
     |none=>exact .inl (un.keep b o e q (by intro z;exact absurd (show b∈([]:List ak)from z) (by simp)) (by simp))
     |some u =>
      rcases hO.1 b with z|⟨ob,xs,z⟩|⟨q',hq,z⟩
      .rw[q]at z;cases z
      .have z2:=un.frzs b ob _ z;obtain⟨e1,_⟩:=hok b _ z;obtain⟨e2,_⟩:=hok' b _ z2;rw[e]at e1;cases e1;exact .inl e2
      .obtain⟨ps,e2,_⟩:=(show jl P w H' s'.heap b (.cod q')from hok' b _ (sm b _ z))
       rw[at_ hq]at e;exact .inr ⟨⟨q',hq⟩,(aD e).symm,ps,e2⟩
    refine⟨rfl,⟨λb o e=>?_,λb o e=>?_⟩,os,bare⟩
    .rcases main b o e with z|⟨⟨q,hq⟩,rfl,ps,z⟩
     .exact .inl z
     .obtain⟨c,hc⟩:=(hT.2 _ hq).1;exact .inr (.inl ⟨(hc.tab (at_ hq)).isCodeTable,rfl,#[],ps,rfl,by rw[z,Array.empty_append]⟩)
    .rcases main b o e with z|⟨_,_,ps,z⟩
     .exact⟨o,z⟩
     .exact⟨_,z⟩
 have lkT:∀b q,ts.lookup b=ae q->(b,q)∈ts:=λb q h=>Ik h;have ofT:∀t∈ts,ts.lookup t.1=ae t.2:=lookup_tab hT.1;have okT:∀(H:Hp) b q,(b,q)∈ts->jl P w H s₁.heap b (.cod q):=λH b q h=>⟨#[],at_ h,trivial,λpos cv z=>by cases z⟩
 cases hk:K.lookup a with
 |some o =>
  have e:=KX a o hk;rw[ha]at e;cases e;refine core (λb=>(ts.lookup b).map HO.cod) ⟨λb=>?_,λt ht=>by show(ts.lookup t.1).map HO.cod=_;rw[ofT t ht];rfl⟩ (.inr ⟨_,vs.toArray,_,hk,rfl,rfl,rfl,by rw[X3,lenV];exact hl,by simpa using rv⟩) (λb u z=>?_) (λb z=>?_) λz=>?_
  .cases e:ts.lookup b with
   |none=>exact .inl (by show(ts.lookup b).map HO.cod=_;rw[e];rfl)
   |some q=>exact .inr (.inr ⟨q,lkT b q e,by show(ts.lookup b).map HO.cod=_;rw[e];rfl⟩)
  .obtain⟨q,e,rfl⟩:=Pq.mp z;exact okT _ b q (lkT b q e)
  .cases e:ts.lookup b with
   |none=>exact absurd (by show(ts.lookup b).map HO.cod=_;rw[e];rfl) z
   |some q=>exact .inr ⟨q,lkT b q e⟩
  .cases e:ts.lookup a with
   |none=>exact absurd (by show(ts.lookup a).map HO.cod=_;rw[e];rfl) z
   |some q=>have:=at_ (lkT a q e);rw[ha]at this;cases this
 |none =>
  have na:∀q,(a,q)∉ts:=λq h=>by have:=at_ h;rw[ha]at this;cases this
  refine core (λb=>if b=a then ae (.frz { cls:=.type "list",data:=.seq vs.toArray } (.lst (ns.map V.int))) else(ts.lookup b).map HO.cod) ⟨λb=>?_,λt ht=>?_⟩ (.inl (.inr ⟨{ cls:=.type "list",data:=.seq vs.toArray },if_pos rfl⟩)) (λb u z=>?_) (λb z=>?_) λ_=>hk
  .by_cases hb:b=a
   .exact .inr (.inl ⟨_,_,if_pos hb⟩)
   .cases e:ts.lookup b with
    |none=>exact .inl (by show(if b=a then _ else _)=_;rw[if_neg hb,e];rfl)
    |some q=>exact .inr (.inr ⟨q,lkT b q e,by show(if b=a then _ else _)=_;rw[if_neg hb,e];rfl⟩)
  .have nb:t.1≠a:=λz=>na t.2 (z▸ht);show(if t.1=a then _ else _)=_;rw[if_neg nb,ofT t ht];rfl
  .by_cases hb:b=a
   .have z':=(if_pos hb).symm.trans z;cases z';subst hb;exact⟨ha,by rw[xj];exact hl,vs,_,rv,ha⟩
   .have z':=(if_neg hb).symm.trans z;obtain⟨q,e,rfl⟩:=Pq.mp z';exact okT _ b q (lkT b q e)
  .by_cases hb:b=a
   .exact .inl hb
   .cases e:ts.lookup b with
    |none=>exact absurd (by show(if b=a then _ else _)=_;rw[if_neg hb,e];rfl) z
    |some q=>exact .inr ⟨q,lkT b q e⟩
theorem walk_of{l:cU}{n k:Nat}{q:ay}{loose:List ao}{XP:(ao->Option aj)->aK->Prop}{YP:aE->aK->Prop}{d:DefRec}{K:jO->k5k}{CX:aE->CXT}{sp:aE->Sp}{x:ao}{ts:aE->List (ak×ao)}
  (hn:l.most=ae n) (hn2:n<=aw) (hdf:d.params.defaults=[]) (hr:Room k eQ)
  (hY:∀(w:aE)(h:aK),YP w h->(K w.params).In h/\j7c (ts w) h) (hK0:∀w:aE,W.noTabs (K w.params)=ag)
  (F:∀(w:aE)(mg:k5n)(fa:ak)(h:aK),(K w.params).In h->h.Ns au mg->mg d.name=ae (.ref fa) ->
   ∃fd:aL,(∀(s:aq)(u:aj),eR s fd ⟨[u],[]⟩ [(x,u)]) /\
    ∀base:aK,(K w.params).In base->base.Ns au mg->FnOk l.prog w (K w.params) mg base (CX w) k fa fd [x] (sp w))
  (hsp:∀(w:aE)(H:Hp)(a:ak)(ns:List Int),ns.length<=n->Only (ts w) H->SqL (K w.params) H a (ns.map V.int)->sp w [.ref a] H (λv H'=>v=.bl ag/\∀b o,H b=ae o->H' b=ae o) λ_ _ _=>False)
  (hCX:∀(w:aE)(H:Hp)(s:aq)(e:aj)(s':aq),CX w [] H s (λ_ _ _=>False) e s'->False) :
  fW q loose XP YP l.row.toRowW d [] (λf vs=>g6 f vs):=by
 refine Att.attach_call hn hdf λw s₀ s₁ mg mb fa o pm cd doc a vs ns G Y ho hd hcd hmg hobj hints hlen hg=>?_;obtain⟨KX,hT⟩:=hY w _ Y;obtain⟨fd,hb,hF⟩:=F w mg fa _ KX G.T.g hmg;exact j5v KX G.T.g G.T.b G.T.builtins G.T.nolimit G.T.bmain hT (hK0 w) hg hobj hints (X8 hlen hn2) hr hF hb (λH hO hS=>hsp w H a ns hlen hO hS) λH e s'=>hCX w H s₁ e s'
end L2
/- THE LAST THEOREM (shape;LID,My.* are yours):
 My.Adr: a structure of the addresses that your layer names (classes,functions);My.Txt K t: a structure (Prop) of the equations over K;
 My.txt_mk:{K} {implicit addresses ..} (e1:dw K au "law" = ae (ae (.ref f))) (e2:K.lookup f=ae ⟨oc,od,.func (fnOf "law" "law" params body scope dV kV doc pm an cdv ct),sl⟩) (e3:codeIn K cdv "law" = ag) ..:∃t,My.Txt K t
(the tactic k_is has no namespace: write k_is) -/
namespace L2
open PySem PySem.Spec PyProof.Rows
noncomputable def inClass(s:aP)(j:Nat):aP:=match s with
 |.ClassDef _ _ _ body _ _ _ _ _ _ _=>body.getD j (.Pass ⟨0,0,0,0⟩)
 |_=>.Pass ⟨0,0,0,0⟩
noncomputable def qu(s:aP):gn:=match s with
 |.FunctionDef _ a _ _ _ _ _ _ _ _=>a
 |_=>{ posonlyargs:=[],args:=[],vararg:=ah,kwonlyargs:=[],kw_defaults:=[],kwarg:=ah,defaults:=[] }
noncomputable def jb(s:aP):List aP:=match s with
 |.FunctionDef _ _ b _ _ _ _ _ _ _=>b
 |_=>[]
noncomputable def j0(s:aP):bh:=match s with
 |.FunctionDef _ _ _ _ _ _ sc _ _ _=>sc
 |_=>{ kind:=.function,names:=[],isGenerator:=af,isCoroutine:=af }
noncomputable abbrev CX0:CXT:=λ_ _ _ _ _ _=>False
noncomputable abbrev E0:XK:=λ_ _ _=>False
theorem Zw{X:Cx}:Yj CX0 X E0:=λ_ _ _ _ _ _ _ h=>h.elim
structure Fun(K:k5k)(x qual:ao)(st:aP)(f:ak)(fd:aL):Prop where
 ex:∃(oc:aj)(od:Option ak)(dV kV doc pm:aj)(an:Option ak)(cdv ct:aj)(osl:Array (Option aj)),
  fd=W.fnOf x qual (qu st) (jb st) (j0 st) dV kV doc pm an cdv ct/\K.lookup f=ae ⟨oc,od,.func fd,osl⟩/\W.codeIn K cdv qual=ag
 kp:W.keepIn K (.ref f)=ag
section
variable{P:ay}{w:aE}{K:k5k}{mg:k5n}{base:aK}
theorem Fun.ok{x qual:ao}{st:aP}{f:ak}{fd:aL}{N ps:List ao}{k:Nat}{sp:Sp}(F:Fun K x qual st f fd)(S:FnScope N ps (j0 st))(len:∀vs H Q E,sp vs H Q E->vs.length=ps.length)
  (hbody:∀(cdv:aj)(A:aF)(outer:List cG)(s:aq)(H:Hp)(vs:List V)(Q:VK) (E:XK),Room k (A.deeper (bg qual (j0 st) s.heap.objs.size f cdv))->sp vs H Q E ->
   ∃t,PSs (ql CX0 P w K mg base N qual (j0 st) f cdv A outer s H E).nox (jb st) t/\t { nx:=λ_ H'=>Q .non H',rt:=Q } (start N vs) H):FnOk P w K mg base CX0 (k+1) f fd ps sp:=by
 obtain⟨oc,od,dV,kV,doc,pm,an,cdv,ct,osl,rfl,lk,hcd⟩:=F.ex;refine Dm lk hcd S len λA outer s H vs Q E hr hsp=>?_;obtain⟨t,h,q⟩:=hbody cdv A outer s H vs Q E hr hsp;exact⟨t,h.nox,q⟩
theorem Fun.binds{x qual:ao}{st:aP}{f:ak}{kV doc pm:aj}{an:Option ak}{cdv ct:aj}{ps:List ao}(F:Fun K x qual st f (W.fnOf x qual (qu st) (jb st) (j0 st) .none kV doc pm an cdv ct))
  (h:∀(kV doc pm:aj)(an:Option ak)(cdv ct:aj)(us:List aj),us.length=ps.length->c8 (W.fnOf x qual (qu st) (jb st) (j0 st) .none kV doc pm an cdv ct) ⟨us,[]⟩=pure (ps.zip us)):Binds K (W.fnOf x qual (qu st) (jb st) (j0 st) .none kV doc pm an cdv ct) ps []:=.all (h kV doc pm an cdv ct)
theorem Jr{x qual:ao}{st:aP}{f:ak}{oc:aj}{od an:Option ak}{osl:Array (Option aj)}{dV kV doc pm cdv ct:aj}(l:K.lookup f=ae ⟨oc,od,.func (W.fnOf x qual (qu st) (jb st) (j0 st) dV kV doc pm an cdv ct),osl⟩)
  (c:W.codeIn K cdv qual=ag) (k:W.keepIn K (.ref f)=ag):Fun K x qual st f (W.fnOf x qual (qu st) (jb st) (j0 st) dV kV doc pm an cdv ct):=⟨⟨oc,od,dV,kV,doc,pm,an,cdv,ct,osl,rfl,l,c⟩,k⟩
end
section
variable{X:Cx}
end
theorem Bc{A B:Prop}(h:B):if af=ag then A else B:=by rw[if_neg xx];exact h
theorem Bb{A B:Prop}(h:A):if ag=ag then A else B:=by rw[if_pos rfl];exact h
theorem jin{c A B:Prop}[Decidable c](h1:c->A)(h2:¬c->B):if c then A else B:=by
 by_cases h:c
 .rw[if_pos h];exact h1 h
 .rw[if_neg h];exact h2 h
def j4(H H':Hp):Prop:=∀b o,H b=ae o->H' b=ae o
theorem j4.refl(H:Hp):j4 H H:=λ_ _ h=>h
theorem j4.trans{H H1 H2:Hp}(a:j4 H H1)(b:j4 H1 H2):j4 H H2:=λc o h=>b c o (a c o h)
theorem j4.free{H H':Hp}(e:j4 H H'){l:ak}(h:H' l=ah):H l=ah:=by
 cases q:H l with
 |none=>rfl
 |some o =>rw[e l o q]at h;cases h
theorem j4.seq{K:k5k}{H H':Hp}{a:ak}{xs:List V}(e:j4 H H')(h:SqL K H a xs):SqL K H' a xs:=by
 rcases h with (h|⟨o,h⟩)|h
 .exact .inl (.inl (e _ _ h))
 .exact .inl (.inr ⟨o,e _ _ h⟩)
 .exact .inr h
set_option genInjectivity true in
inductive D where
 |non
 |bl (b:Bool)
 |int (i:Int)
 |str (x:ao)
 |tup (ds:List D)
 |lst (ds:List D)
 |dct (ks:List (List Int)) (ds:List D)
 |sct (kvs:List (ao×Int))
 |fn (x:ao) (cs:List D)
noncomputable def kvI(kvs:List (ao×Int)):List (Key×V):=kvs.map λp=>(.inr p.1,.int p.2)
noncomputable def zb(x:ao):ao:=x ++ ".<locals>." ++ "<lambda>"
noncomputable abbrev Tx:=gn×ar×bh
noncomputable def jik:ar->Option Tx
 |.Lambda a b sc _=>ae (a,b,sc)
 |.Call _ es _ _=>match es.getLast? with
  |some (.Lambda a b sc _)=>ae (a,b,sc)
  |_=>ah
 |_=>ah
noncomputable def jd3(b:List aP):Option Tx:=match b.getLast? with
 |some (.Return (ae e) _)=>jik e
 |_=>ah
noncomputable def j12(K:k5k)(x:ao):Option Tx:=match W.nsIn K au x with
 |some (ae (.ref f))=>match K.lookup f with
  |some ⟨_,_,.func fd,_⟩=>match fd.body with
   |.stmts b=>jd3 b
   |_=>ah
  |_=>ah
 |_=>ah
noncomputable def Z7(sc:bh):List ao:=((sc.names.filter λp=>p.2==.free).map (·.1)).reverse
def zr(H:Hp):List ak->List V->Prop
 |[],vs=>vs=[]
 |c::cs,vs=>∃v r o u,vs=v::r/\H c=ae (.frz o (.own 0))/\o.data=.cell (ae u)/\RelV v u/\zr H cs r
theorem zr.mono{H H':Hp}(g:j4 H H'):∀{cs:List ak}{vs:List V},zr H cs vs->zr H' cs vs
 |[],_,h=>h
 |_::_,_,⟨v,r,o,u,e,h,d,rv,l⟩=>⟨v,r,o,u,e,g _ _ h,d,rv,l.mono g⟩
structure LamAt(K:k5k)(H:Hp)(x:ao)(a c:ak)(t:Tx)(cl:List (ao×ak))(vs:List V):Prop where
 tx:j12 K x=ae t
 fo:∃pm ctv,H a=ae (.frz (W.kla_obj "<lambda>" (zb x) t.1 t.2.1 t.2.2 cl pm c ctv) (.own 0))
 co:∃oc,H c=ae (.frz oc (.own 0))/\j1m oc (zb x)
 nm:cl.map (·.1)=Z7 t.2.2
 nd:(cl.map (·.2)).Nodup
 cs:zr H (cl.map (·.2)) vs
theorem LamAt.mono{K:k5k}{H H':Hp}{x:ao}{a c:ak}{tx:Tx}{cl:List (ao×ak)}{vs:List V}(g:j4 H H')(h:LamAt K H x a c tx cl vs):LamAt K H' x a c tx cl vs :=
 ⟨h.tx,let ⟨pm,ctv,e⟩:=h.fo;⟨pm,ctv,g _ _ e⟩,let ⟨oc,e,q⟩:=h.co;⟨oc,g _ _ e,q⟩,h.nm,h.nd,h.cs.mono g⟩
noncomputable def del(H:Hp)(A:List ak):Hp:=λb=>if b∈A then ah else H b
section
variable{H H' F:Hp}{A A':List ak}{a b:ak}{o:HO}
theorem zc(h:b∈A):del H A b=ah:=if_pos h
theorem j5(h:b∉A):del H A b=H b:=if_neg h
theorem of_del(h:del H A b=ae o):b∉A/\H b=ae o:=by
 by_cases e:b∈A
 .rw[zc e]at h;cases h
 .rw[j5 e]at h;exact⟨e,h⟩
theorem jf(g:j4 H H'):j4 (del H A) (del H' A):=λb o h=>by obtain⟨n,e⟩:=of_del h;rw[j5 n];exact g b o e
end
theorem j4.seqT{K:k5k}{H H':Hp}{a:ak}{xs:List V}(e:j4 H H')(h:SqT K H a xs):SqT K H' a xs:=by
 rcases h with (h|⟨o,h⟩)|h
 .exact .inl (.inl (e _ _ h))
 .exact .inl (.inr ⟨o,e _ _ h⟩)
 .exact .inr h
mutual
def Enc(K:k5k)(H:Hp):D->V->Prop
 |.non,v=>v=.non
 |.bl b,v=>v=.bl b
 |.int i,v=>v=.int i
 |.str x,v=>v=.str x
 |.tup ds,v=>∃a xs,v=.ref a/\SqT K H a xs/\j6 K H ds xs
 |.lst ds,v=>∃a xs,v=.ref a/\SqL K H a xs/\j6 K H ds xs
 |.dct ks ds,v=>∃(a:ak)(xs:List (List Int×ak×aj)) (ep:Nat) (vs:List V),v=.ref a/\H a=ae (.dI xs ep)/\ks=(xs.map λx=>x.1)/\(∀x∈xs,SqT K H x.2.1 (x.1.map V.int))/\Vals vs (xs.map λx=>x.2.2)/\j6 K H ds vs
 |.sct kvs,v=>∃a:ak,v=.ref a/\H a=ae (.dK (kvI kvs))
 |.fn x ds,v=>∃(a c:ak)(tx:Tx)(cl:List (ao×ak)) (vs:List V),v=.ref a/\LamAt K H x a c tx cl vs/\j6 K (del H (cl.map (·.2))) ds vs
def j6(K:k5k)(H:Hp):List D->List V->Prop
 |[],xs=>xs=[]
 |d::ds,xs=>∃x r,xs=x::r/\Enc K H d x/\j6 K H ds r
end
mutual
theorem Enc.mono{K:k5k}{H H':Hp}(g:j4 H H'):∀{d:D}{v:V},Enc K H d v->Enc K H' d v
 |.non,_,h=>h
 |.bl _,_,h=>h
 |.int _,_,h=>h
 |.str _,_,h=>h
 |.tup _,_,⟨a,xs,e,q,l⟩=>⟨a,xs,e,g.seqT q,j6.mono g l⟩
 |.lst _,_,⟨a,xs,e,q,l⟩=>⟨a,xs,e,g.seq q,j6.mono g l⟩
 |.dct _ _,_,⟨a,xs,ep,vs,e,q,ek,kt,rv,l⟩=>⟨a,xs,ep,vs,e,g _ _ q,ek,λx hx=>g.seqT (kt x hx),rv,j6.mono g l⟩
 |.sct _,_,⟨a,e,q⟩=>⟨a,e,g _ _ q⟩
 |.fn _ _,_,⟨a,c,tx,cl,vs,e,q,l⟩=>⟨a,c,tx,cl,vs,e,q.mono g,j6.mono (jf g) l⟩
theorem j6.mono{K:k5k}{H H':Hp}(g:j4 H H'):∀{ds:List D}{xs:List V},j6 K H ds xs->j6 K H' ds xs
 |[],_,h=>h
 |_::_,_,⟨x,r,e,h,l⟩=>⟨x,r,e,Enc.mono g h,j6.mono g l⟩
end
section
variable{K:k5k}{H H':Hp}{ds ds':List D}{xs ys:List V}
theorem j6.length:∀{ds:List D}{xs:List V},j6 K H ds xs->xs.length=ds.length
 |[],_,h=>by cases h;rfl
 |_::_,_,⟨x,r,e,_,l⟩=>by subst e;simp[j6.length l]
theorem j6.get:∀{ds:List D}{xs:List V}{i:Nat}{d:D},j6 K H ds xs->ds[i]?=ae d->∃x,xs[i]?=ae x/\Enc K H d x
 |[],_,i,d,_,e=>by simp at e
 |_::_,_,0,d,⟨x,r,e,h,_⟩,q=>by subst e;simp at q;subst q;exact⟨x,rfl,h⟩
 |_::_,_,i+1,d,⟨x,r,e,_,l⟩,q=>by subst e;simp at q;obtain⟨y,hy,hd⟩:=j6.get l q;exact⟨y,by simpa using hy,hd⟩
theorem j6.append:∀{ds ds':List D}{xs ys:List V},j6 K H ds xs->j6 K H ds' ys->j6 K H (ds++ds') (xs++ys)
 |[],_,_,_,h,h'=>by cases h;exact h'
 |_::_,_,_,_,⟨x,r,e,h,l⟩,h'=>by subst e;exact⟨x,_,rfl,h,j6.append l h'⟩
theorem j6.one{d:D}{x:V}(h:Enc K H d x):j6 K H [d] [x]:=⟨x,[],rfl,h,rfl⟩
theorem j6.take:∀{ds:List D}{xs:List V}(n:Nat),j6 K H ds xs->j6 K H (ds.take n) (xs.take n)
 |[],_,n,h=>by cases h;simp;exact rfl
 |_::_,_,0,⟨x,r,e,h,l⟩=>by simp;exact rfl
 |_::_,_,n+1,⟨x,r,e,h,l⟩=>by subst e;exact⟨x,_,rfl,h,j6.take n l⟩
theorem j6.drop:∀{ds:List D}{xs:List V}(n:Nat),j6 K H ds xs->j6 K H (ds.drop n) (xs.drop n)
 |[],_,n,h=>by cases h;simp;exact rfl
 |_::_,_,0,h=>h
 |_::_,_,n+1,⟨x,r,e,h,l⟩=>by subst e;exact j6.drop n l
theorem j6.rep{ds:List D}{xs:List V}(h:j6 K H ds xs):∀k:Nat,j6 K H (ax k ds).flatten (ax k xs).flatten
 |0=>rfl
 |k+1=>by rw[Pn,Pn,Tc,Tc];exact h.append (j6.rep h k)
theorem j6.ints(ns:List Int):j6 K H (ns.map D.int) (ns.map V.int):=by
 induction ns with
 |nil=>exact rfl
 |cons n ns ih=>exact⟨_,_,rfl,rfl,ih⟩
end
section
variable{H H' F:Hp}{A A':List ak}{a b:ak}{o:HO}
theorem vd:del H []=H:=funext λb=>if_neg (by simp)
theorem qb:j4 (del H A) H:=λ_ _ h=>(of_del h).2
theorem v9(h:∀b,b∈A'->b∈A):j4 (del H A) (del H A'):=λb o e=>by obtain⟨n,e⟩:=of_del e;rw[j5 λz=>n (h b z)];exact e
theorem Yc(h:a∈A):del (upd H a o) A=del H A:=funext λb=>by
 by_cases e:b∈A
 .rw[zc e,zc e]
 .rw[j5 e,j5 e,jc];rintro rfl;exact e h
noncomputable def mrg(A:List ak)(H F:Hp):Hp:=λb=>if b∈A then H b else F b
theorem vz(h:b∈A):mrg A H F b=H b:=if_pos h
theorem jh(h:b∉A):mrg A H F b=F b:=if_neg h
theorem Qh(h:∀a∈A,F a=ah):del (mrg A H F) A=F:=funext λb=>by
 by_cases e:b∈A
 .rw[zc e,h b e]
 .rw[j5 e,jh e]
theorem Rb(g:j4 (del H A) F):j4 H (mrg A H F):=λb o e=>by
 by_cases z:b∈A
 .rw[vz z];exact e
 .rw[jh z];exact g b o (by rw[j5 z];exact e)
theorem j8(h:H a=ah):j4 H (upd H a o):=λb u q=>by rw[jc (qx q h)];exact q
end
def Hd(o:Option HO):Prop:=(∃xs,o=ae (.lst xs))\/∃xs ep,o=ae (.dI xs ep)
section
variable{X:Cx}{pins:k5m}{σ σ':St}{H F:Hp}{s s':aq}{A:List ak}
theorem Inv.noFs(I:Inv X pins σ H s){b:ak}(hb:b∈X.fs):H b=ah:=by
 have q:b∈frs X.stack:=by
  rcases I.ok.stk with e|⟨e,_⟩
  .rw[e];exact hb
  .rw[e];have hb:b∈frs X.outer:=hb;unfold frs at hb ⊢;rw[bR];split
   .exact hb
   .exact kj _ hb
 exact I.stkFree b q
theorem Inv.hide(I:Inv X pins σ H s)(hA:∀a∈A,Hd (H a)):Inv X (pins++V9 A s.heap) σ (del H A) s where
 ok:=I.ok
 os:=I.os
 bare:=I.bare
 base:={
  keep:=I.base.keep
  slot:=I.base.slot
  free:=λb o e n hx=>by
   have q:=I.base.free b o e n hx
   by_cases z:b∈A
   .exact zc z
   .rw[j5 z];exact q
  there:=I.base.there
  tups:=λb xs e=>by
   have q:=I.base.tups b xs e
   rw[j5];exact q
   intro z;rcases hA b z with ⟨ys,e'⟩|⟨ys,ep,e'⟩<;>(rw[q]at e';cases e')
  frzs:=λb o u e=>by
   have q:=I.base.frzs b o u e
   rw[j5];exact q
   intro z;rcases hA b z with ⟨ys,e'⟩|⟨ys,ep,e'⟩<;>(rw[q]at e';cases e')
  tbls:=λb ps e=>by
   obtain⟨more,q⟩:=I.base.tbls b ps e
   refine⟨more,?_⟩
   rw[j5];exact q
   intro z;rcases hA b z with ⟨ys,e'⟩|⟨ys,ep,e'⟩<;>(rw[q]at e';cases e') }
 loc:=I.loc
 cell:=I.cell
 free:=by
  by_cases z:X.env.locals∈A
  .exact zc z
  .rw[j5 z];exact I.free
 freeC:=λx c e=>by
  by_cases z:c∈A
  .exact zc z
  .rw[j5 z];exact I.freeC x c e
 pin:=λp hp=>by
  rw[<-ph]at hp;rcases Xp.mp hp with hp|hp
  .obtain⟨h1,h2,h3⟩:=I.pin p hp;refine⟨h1,?_,h3⟩;by_cases z:p.1∈A
   .exact zc z
   .rw[j5 z];exact h2
  .obtain⟨h1,h2⟩:=Nb hp;rcases hA _ h1 with ⟨xs,e⟩|⟨xs,ep,e⟩
   .refine⟨h2,zc h1,λz=>?_,λz=>?_,λv z=>?_⟩
    .rw[z,I.free]at e;cases e
    .rw[I.noFs z]at e;cases e
    .obtain⟨_,its,n,_,q⟩:=(show jl X.prog X.w H s.heap p.1 (.lst xs)from I.hok _ _ e)
     rw[h2]at q;rw[aD q]at z;cases z
   .refine⟨h2,zc h1,λz=>?_,λz=>?_,λv z=>?_⟩
    .rw[z,I.free]at e;cases e
    .rw[I.noFs z]at e;cases e
    .obtain⟨_,_,_,ob,es,q,_,qd,_⟩:=(show jl X.prog X.w H s.heap p.1 (.dI xs ep)from I.hok _ _ e)
     rw[h2]at q;rw[aD q,qd]at z;cases z
 hok:=λa o e=>by
  obtain⟨n,e⟩:=of_del e;refine jl.stay (I.hok a o e) (λb u _ q=>q) (λb q=>?_) (λb xs q=>?_) (λb _ _ q=>?_)
  .rw[j5];exact q;intro z;rcases hA b z with ⟨ys,e'⟩|⟨ys,ep,e'⟩<;>(rw[q]at e';cases e')
  .rw[j5];exact q;intro z;rcases hA b z with ⟨ys,e'⟩|⟨ys,ep,e'⟩<;>(rw[q]at e';cases e')
  .rw[j5];exact q;intro z;rcases hA b z with ⟨ys,e'⟩|⟨ys,ep,e'⟩<;>(rw[q]at e';cases e')
 len:=I.len
theorem Inv.unhide(I0:Inv X pins σ H s)(hA:∀a∈A,Hd (H a))(I:Inv X (pins++V9 A s.heap) σ' F s') :
  (∀a∈A,F a=ah)/\Inv X pins σ' (mrg A H F) s':=by
 have pinned:∀a∈A,∃o,s.heap.get? a=ae o/\s'.heap.get? a=ae o/\F a=ah:=λa ha=>by
  have ob:∃o,s.heap.get? a=ae o:=by
   rcases hA a ha with ⟨xs,e⟩|⟨xs,ep,e⟩
   .obtain⟨_,its,n,_,q⟩:=(show jl X.prog X.w H s.heap a (.lst xs)from I0.hok _ _ e)
    exact⟨_,q⟩
   .obtain⟨_,_,_,o,es,q,_⟩:=(show jl X.prog X.w H s.heap a (.dI xs ep)from I0.hok _ _ e)
    exact⟨_,q⟩
  obtain⟨o,q⟩:=ob;obtain⟨h1,h2,_⟩:=I.pin (a,_) (Xd _ (Xd _ (Qm ha q)));exact⟨_,q,h1,h2⟩
 have hF:∀a∈A,F a=ah:=λa ha=>let ⟨_,_,_,q⟩:=pinned a ha;q;have out:∀{b:ak}{o:HO},F b=ae o->b∉A:=λ{b o} e z=>by rw[hF b z]at e;cases e
 refine⟨hF,?_⟩;exact{
  ok:=I.ok
  os:=I.os
  bare:=I.bare
  base:={
   keep:=I.base.keep
   slot:=I.base.slot
   free:=λb o e n hx=>by
    by_cases z:b∈A
    .rw[vz z];exact I0.base.free b o e n hx
    .rw[jh z];exact I.base.free b o e n hx
   there:=I.base.there
   tups:=λb xs e=>by
    have q:=I.base.tups b xs e
    rw[jh (out q)];exact q
   frzs:=λb o u e=>by
    have q:=I.base.frzs b o u e
    rw[jh (out q)];exact q
   tbls:=λb ps e=>by
    obtain⟨more,q⟩:=I.base.tbls b ps e
    exact⟨more,by rw[jh (out q)];exact q⟩ }
  loc:=I.loc
  cell:=I.cell
  free:=by
   by_cases z:X.env.locals∈A
   .rw[vz z];exact I0.free
   .rw[jh z];exact I.free
  freeC:=λx c e=>by
   by_cases z:c∈A
   .rw[vz z];exact I0.freeC x c e
   .rw[jh z];exact I.freeC x c e
  pin:=λp hp=>by
   obtain⟨h1,h2,h3⟩:=I.pin p (by rw[<-ph];exact Xu _ hp)
   refine⟨h1,?_,h3⟩
   by_cases z:p.1∈A
   .rw[vz z];exact(I0.pin p hp).2.1
   .rw[jh z];exact h2
  hok:=λa o e=>by
   by_cases z:a∈A
   .rw[vz z]at e
    obtain⟨o',q1,q2,_⟩:=pinned a z
    rcases hA a z with ⟨xs,e'⟩|⟨xs,ep,e'⟩
    .rw[e']at e;cases e
     obtain⟨hl,its,n,r,q⟩:=(show jl X.prog X.w H s.heap a (.lst xs)from I0.hok _ _ e')
     rw[q]at q1;cases q1
     exact⟨hl,its,n,r,q2⟩
    .rw[e']at e;cases e
     obtain⟨z1,z2,z3,ob,es,q,z4⟩:=(show jl X.prog X.w H s.heap a (.dI xs ep)from I0.hok _ _ e')
     rw[q]at q1;cases q1
     exact⟨z1,z2,z3,_,es,q2,z4⟩
   .rw[jh z]at e
    refine jl.stay (I.hok a o e) (λb u _ q=>q) (λb q=>?_) (λb xs q=>?_) (λb _ _ q=>?_)
    .rw[jh (out q)];exact q
    .rw[jh (out q)];exact q
    .rw[jh (out q)];exact q
  len:=I.len }
end
def Jk(X:Cx)(e:ar):TE:=λσ H Q=>∀pins s,Inv X pins σ H s->aC (aB X.prog X.w) X.A (aH e X.env) (EP X pins σ Q) X.xe s
def j4x(X:Cx)(e:ar):TT:=λσ H Q=>∀pins s,Inv X pins σ H s->aC (aB X.prog X.w) X.A (dz e X.env (aH e X.env)) (TP X pins σ Q) X.xe s
def Ou(X:Cx)(es:List ar):TA:=λσ H Q=>∀pos pins s,Inv X pins σ H s->aC (aB X.prog X.w) X.A (spliced (aV pos (ai es X.env))) (AP X pins σ Q) X.xe s
def j4y(X:Cx)(st:aP):TS:=λD σ H=>∀pins s,Inv X pins σ H s->aC (aB X.prog X.w) X.A (exec st X.env) (SP X pins D) X.xe s
def Z4(X:Cx)(sts:List aP):TS:=λD σ H=>∀pins s,Inv X pins σ H s->aC (aB X.prog X.w) X.A (execs sts X.env) (SP X pins D) X.xe s
def j4z(X:Cx)(tg iter:ar):TI:=λσ H R=>∀pins s,Inv X pins σ H s ->
 aC (aB X.prog X.w) X.A (aH iter X.env) (λv s1=>aC (aB X.prog X.w) X.A (jN v) (PIE X pins σ tg R) X.xe s1) X.xe s
section
variable{X:Cx}{e tg:ar}{es:List ar}{st:aP}{sts:List aP}{σ:St}{H:Hp}
theorem peS:PE X e (Jk X e):=λpins s _ _ _ I h=>h pins s I
theorem ptS:PT X e (j4x X e):=λpins s _ _ _ I h=>h pins s I
theorem paS:PA X es (Ou X es):=λpos pins s _ _ _ I h=>h pos pins s I
theorem psS:PS X st (j4y X st):=λpins s _ _ _ I h=>h pins s I
theorem J6:PSs X sts (Z4 X sts):=λpins s _ _ _ I h=>h pins s I
theorem piS:PI X tg e (j4z X tg e):=λpins s _ _ _ I h=>h pins s I
theorem PE.to{t:TE}(h:PE X e t){Q:VK}(q:t σ H Q):Jk X e σ H Q:=λpins s I=>h pins s σ H Q I q
theorem PT.to{t:TT}(h:PT X e t){Q:Bool->Hp->Prop}(q:t σ H Q):j4x X e σ H Q:=λpins s I=>h pins s σ H Q I q
theorem PA.to{t:TA}(h:PA X es t){Q:List V->Hp->Prop}(q:t σ H Q):Ou X es σ H Q:=λpos pins s I=>h pos pins s σ H Q I q
theorem PS.to{t:TS}(h:PS X st t){D:Ends}(q:t D σ H):j4y X st D σ H:=λpins s I=>h pins s σ H D I q
theorem PSs.to{t:TS}(h:PSs X sts t){D:Ends}(q:t D σ H):Z4 X sts D σ H:=λpins s I=>h pins s σ H D I q
theorem PI.to{t:TI}(h:PI X tg e t){R:It->Hp->Prop}(q:t σ H R):j4z X tg e σ H R:=λpins s I=>h pins s σ H R I q
end
inductive Sl where
 |un
 |val (d:D)
 |own (a:ak) (ds:List D)
 |raw (a:ak) (o:cy) (x:ao)
noncomputable abbrev Rho:=List Sl
noncomputable def Sl.addr:Sl->Option ak
 |.own a _=>ae a
 |_=>ah
noncomputable def owns(ρ:Rho):List ak:=ρ.filterMap Sl.addr
theorem Qw{ρ:Rho}{i:Nat}{a:ak}{ds:List D}(h:ρ[i]?=ae (.own a ds)):a∈owns ρ:=Ph.mpr ⟨_,Xq h,rfl⟩
theorem Wv{ρ:Rho}{a:ak}(h:a∈owns ρ):∃(i:Nat)(ds:List D),ρ[i]?=ae (.own a ds):=by
 obtain⟨s,hs,e⟩:=Ph.mp h;obtain⟨i,hi⟩:=List.mem_iff_getElem?.mp hs;cases s with
 |own b ds=>cases e;exact⟨i,ds,hi⟩
 |un=>cases e
 |val d=>cases e
 |raw b o x=>cases e
theorem jg(s:Sl)(ρ:Rho):owns (s::ρ)=(match s.addr with|some a=>a::owns ρ|none=>owns ρ):=by unfold owns;rw[bR];cases s.addr<;>rfl
theorem jd{s:Sl}(hs:s.addr=ah):∀{ρ:Rho}{i:Nat},(owns (ρ.set i s)).Sublist (owns ρ)
 |[],_=>List.Sublist.refl _
 |x::r,0=>by
  rw[bZ,jg,jg,hs];cases x.addr with
  |none=>exact List.Sublist.refl _
  |some a=>exact List.sublist_cons_self _ _
 |x::r,i+1=>by
  rw[cI,jg,jg];have ih:=jd hs (ρ:=r) (i:=i);cases x.addr with
  |none=>exact ih
  |some a=>exact ih.cons_cons a
theorem Zn{a:ak}{ds ds':List D}:∀{ρ:Rho}{i:Nat},ρ[i]?=ae (.own a ds)->owns (ρ.set i (.own a ds'))=owns ρ
 |[],_,h=>by simp at h
 |x::r,0,h=>by simp at h;subst h;rw[bZ,jg,jg];rfl
 |x::r,i+1,h=>by simp at h;rw[cI,jg,jg,Zn h]
theorem Wu{s:Sl}(hs:s.addr=ah):∀{ρ:Rho}{i:Nat},(∀a l,ρ[i]?≠ae (.own a l))->owns (ρ.set i s)=owns ρ
 |[],_,_=>rfl
 |x::r,0,h=>by
  rw[bZ,jg,jg,hs];cases x with
  |own a l=>exact absurd rfl (h a l)
  |un=>rfl
  |val d=>rfl
  |raw a o x=>rfl
 |x::r,i+1,h=>by rw[cI,jg,jg,Wu hs (λa l=>by simpa using h a l)]
theorem Ql{a:ak}{ds:List D}:∀{ρ:Rho}{i:Nat},(owns ρ).Nodup->a∉owns ρ->(owns (ρ.set i (.own a ds))).Nodup/\∀b∈owns (ρ.set i (.own a ds)),b=a\/b∈owns ρ
 |[],_,n,_=>⟨n,λb hb=>.inr hb⟩
 |x::r,0,n,h=>by
  rw[bZ,jg];rw[jg]at n h;have e:(Sl.own a ds).addr=ae a:=rfl;rw[e];cases q:x.addr with
  |none =>rw[q]at n h;exact⟨Xl.mpr ⟨h,n⟩,λb hb=>(km.mp hb).elim .inl λz=>.inr (by rw[jg,q];exact z)⟩
  |some c =>rw[q]at n h;exact⟨Xl.mpr ⟨λz=>h (kj _ z),(Xl.mp n).2⟩,λb hb=>(km.mp hb).elim .inl λz=>.inr (by rw[jg,q];exact kj _ z)⟩
 |x::r,i+1,n,h=>by
  rw[cI,jg];rw[jg]at n h;cases q:x.addr with
  |none =>rw[q]at n h;obtain⟨i1,i2⟩:=Ql (ds:=ds) (i:=i) n h;exact⟨i1,λb hb=>(i2 b hb).elim .inl λz=>.inr (by rw[jg,q];exact z)⟩
  |some c =>
   rw[q]at n h;obtain⟨n1,n2⟩:=Xl.mp n;obtain⟨i1,i2⟩:=Ql (ds:=ds) (i:=i) n2 (λz=>h (kj _ z));refine⟨Xl.mpr ⟨λz=>?_,i1⟩,λb hb=>?_⟩
   .rcases i2 c z with e|z
    .subst e;exact h (xg ..)
    .exact n1 z
   .rcases km.mp hb with e|z
    .exact .inr (by rw[jg,q];exact e▸xg ..)
    .exact(i2 b z).elim .inl λz=>.inr (by rw[jg,q];exact kj _ z)
theorem Rm{a:ak}{l l':List D}:∀{ρ:Rho}{i j:Nat},(owns ρ).Nodup->ρ[i]?=ae (.own a l)->ρ[j]?=ae (.own a l')->i=j
 |[],i,_,_,h,_=>by simp at h
 |x::r,0,0,_,_,_=>rfl
 |x::r,0,j+1,n,h,h'=>by simp at h h';subst h;rw[jg]at n;exact absurd (Qw h') (Xl.mp n).1
 |x::r,i+1,0,n,h,h'=>by simp at h h';subst h';rw[jg]at n;exact absurd (Qw h) (Xl.mp n).1
 |x::r,i+1,j+1,n,h,h'=>by
  simp at h h';have n':(owns r).Nodup:=by
   rw[jg]at n;cases q:x.addr with
   |none=>rw[q]at n;exact n
   |some c=>rw[q]at n;exact(Xl.mp n).2
  rw[Rm n' h h']
noncomputable def Qx:List ao:=["worst_cost_of_ask","least_numbers","whole_cost_of_ask","round_numbers"]
def TabOk(K:k5k)(H:Hp):Prop:=∀x∈Qx,∀c P,W.tabIn K x=ae (c,P)->H P=ae (.cod (zb x))
section
variable{K:k5k}{H H':Hp}
theorem TabOk.mono(h:TabOk K H)(g:j4 H H'):TabOk K H':=λx hx c P e=>g _ _ (h x hx c P e)
theorem TabOk.upd{a:ak}{o u:HO}(h:TabOk K H)(e:H a=ae u)(n:∀q,u≠.cod q):TabOk K (upd H a o):=λx hx c P z=>by have q:=h x hx c P z;rw[jc];exact q;intro y;subst y;rw[e]at q;exact n _ (aD q)
theorem TabOk.del{A:List ak}(h:TabOk K H)(hA:∀a∈A,∃xs,H a=ae (.lst xs)):TabOk K (del H A):=λx hx c P z=>by have q:=h x hx c P z;rw[j5];exact q;intro y;obtain⟨xs,e⟩:=hA _ y;rw[q]at e;cases e
end
noncomputable def rfN:ao:="@"
def Dq(K:k5k)(F:Hp)(a:ak)(o:cy)(x:ao):Prop:=x=rfN\/(F a=ae (.frz o (.own a))/\W.nsIn K au x=ae (ae o.cls))
theorem Dq.mono{K:k5k}{F F':Hp}{a:ak}{o:cy}{x:ao}(h:Dq K F a o x)(g:j4 F F'):Dq K F' a o x:=h.elim .inl λh=>.inr ⟨g _ _ h.1,h.2⟩
structure Rep(K:k5k)(ρ:Rho)(σ:St)(H:Hp):Prop where
 len:σ.length=ρ.length
 val:∀(i:Nat)(d:D),ρ[i]?=ae (.val d)->∃v,σ[i]?=ae (ae v)/\Enc K (del H (owns ρ)) d v
 own:∀(i:Nat)(a:ak)(ds:List D),ρ[i]?=ae (.own a ds)->σ[i]?=ae (ae (.ref a))/\∃xs,H a=ae (.lst xs)/\j6 K (del H (owns ρ)) ds xs
 nd:(owns ρ).Nodup
 raw:∀(i:Nat)(a:ak)(o:cy)(x:ao),ρ[i]?=ae (.raw a o x)->σ[i]?=ae (ae (.ref a))/\Dq K (del H (owns ρ)) a o x
 tb:TabOk K H
section
variable{K:k5k}{ρ ρ':Rho}{σ:St}{H H':Hp}{i:Nat}{d:D}{v:V}{a:ak}{ds ds':List D}{xs:List V}
theorem Rep.owned(R:Rep K ρ σ H):∀a∈owns ρ,∃xs,H a=ae (.lst xs):=λa h=>by obtain⟨i,ds,e⟩:=Wv h;obtain⟨_,xs,q,_⟩:=R.own i a ds e;exact⟨xs,q⟩
theorem Rep.fresh(R:Rep K ρ σ H)(h:H a=ah):a∉owns ρ:=λz=>by obtain⟨xs,e⟩:=R.owned a z;rw[h]at e;cases e
theorem Rep.grow(R:Rep K ρ σ H)(g:j4 H H'):Rep K ρ σ H' :=
 ⟨R.len,λi d e=>let ⟨v,q,h⟩:=R.val i d e;⟨v,q,h.mono (jf g)⟩,λi a ds e=>let ⟨q,xs,h,l⟩:=R.own i a ds e;⟨q,xs,g _ _ h,l.mono (jf g)⟩,R.nd,λi a o x e=>let ⟨q,h⟩:=R.raw i a o x e;⟨q,h.mono (jf g)⟩,R.tb.mono g⟩
theorem getElem?_set_of{α:Type}{l:List α}{i j:Nat}{x y:α}(h:(l.set i x)[j]?=ae y):(i=j/\y=x/\i<l.length)\/(i≠j/\l[j]?=ae y):=by
 rw[dU]at h;split at h
 .rename_i e;subst e;split at h
  .rename_i z;cases h;exact .inl ⟨rfl,rfl,z⟩
  .cases h
 .rename_i e;exact .inr ⟨e,h⟩
theorem Z9{α:Type}{l:List α}{i:Nat}{x:α}(h:i<l.length):(l.set i x)[i]?=ae x:=by simp[h]
theorem zp{α:Type}{l:List α}{i j:Nat}{x:α}(h:i≠j):(l.set i x)[j]?=l[j]?:=by simp[h]
theorem Rep.set_val(R:Rep K ρ σ H)(e:Enc K (del H (owns ρ)) d v):Rep K (ρ.set i (.val d)) (σ.set i (ae v)) H:=by
 have sub:(owns (ρ.set i (.val d))).Sublist (owns ρ):=jd rfl;have g:j4 (del H (owns ρ)) (del H (owns (ρ.set i (.val d)))):=v9 λb hb=>sub.subset hb;refine⟨by simp[R.len],λj d' h=>?_,λj a ds h=>?_,sub.nodup R.nd,λj a o x h=>?_,R.tb⟩
 .rcases getElem?_set_of h with ⟨rfl,z,hl⟩|⟨n,h⟩
  .cases z;exact⟨v,Z9 (by rw[R.len];exact hl),e.mono g⟩
  .obtain⟨u,q,h⟩:=R.val j d' h;exact⟨u,by rw[zp n];exact q,h.mono g⟩
 .rcases getElem?_set_of h with ⟨rfl,z,_⟩|⟨n,h⟩
  .cases z
  .obtain⟨q,xs,h,l⟩:=R.own j a ds h;exact⟨by rw[zp n];exact q,xs,h,l.mono g⟩
 .rcases getElem?_set_of h with ⟨rfl,z,_⟩|⟨n,h⟩
  .cases z
  .obtain⟨q,h⟩:=R.raw j a o x h;exact⟨by rw[zp n];exact q,h.mono g⟩
theorem Rep.set_un{v:Option V}(R:Rep K ρ σ H):Rep K (ρ.set i .un) (σ.set i v) H:=by
 have sub:(owns (ρ.set i .un)).Sublist (owns ρ):=jd rfl;have g:j4 (del H (owns ρ)) (del H (owns (ρ.set i .un))):=v9 λb hb=>sub.subset hb;refine⟨by simp[R.len],λj d' h=>?_,λj a ds h=>?_,sub.nodup R.nd,λj a o x h=>?_,R.tb⟩
 .rcases getElem?_set_of h with ⟨rfl,z,hl⟩|⟨n,h⟩
  .cases z
  .obtain⟨u,q,h⟩:=R.val j d' h;exact⟨u,by rw[zp n];exact q,h.mono g⟩
 .rcases getElem?_set_of h with ⟨rfl,z,_⟩|⟨n,h⟩
  .cases z
  .obtain⟨q,xs,h,l⟩:=R.own j a ds h;exact⟨by rw[zp n];exact q,xs,h,l.mono g⟩
 .rcases getElem?_set_of h with ⟨rfl,z,_⟩|⟨n,h⟩
  .cases z
  .obtain⟨q,h⟩:=R.raw j a o x h;exact⟨by rw[zp n];exact q,h.mono g⟩
theorem Rep.set_own(R:Rep K ρ σ H)(g:j4 H H')(ha:H a=ah)(e:H' a=ae (.lst xs))(l:j6 K (del H' (a::owns ρ)) ds xs):Rep K (ρ.set i (.own a ds)) (σ.set i (ae (.ref a))) H':=by
 have na:=R.fresh ha;obtain⟨nd,sub⟩:=Ql (ds:=ds) (i:=i) R.nd na;have g1:j4 (del H' (a::owns ρ)) (del H' (owns (ρ.set i (.own a ds)))):=v9 λb hb=>by
  rcases sub b hb with e|z
  .exact e▸xg ..
  .exact kj _ z
 have g2:j4 (del H (owns ρ)) (del H' (a::owns ρ)):=λb o q=>by
  obtain⟨n,q⟩:=of_del q;rw[j5];exact g b o q;intro z;rcases km.mp z with e|z
  .subst e;rw[ha]at q;cases q
  .exact n z
 refine⟨by simp[R.len],λj d' h=>?_,λj b ds' h=>?_,nd,λj b o x h=>?_,R.tb.mono g⟩
 .rcases getElem?_set_of h with ⟨rfl,z,hl⟩|⟨n,h⟩
  .cases z
  .obtain⟨u,q,h⟩:=R.val j d' h;exact⟨u,by rw[zp n];exact q,h.mono (g2.trans g1)⟩
 .rcases getElem?_set_of h with ⟨rfl,z,hl⟩|⟨n,h⟩
  .cases z;exact⟨Z9 (by rw[R.len];exact hl),xs,e,l.mono g1⟩
  .obtain⟨q,ys,h,l⟩:=R.own j b ds' h;exact⟨by rw[zp n];exact q,ys,g _ _ h,l.mono (g2.trans g1)⟩
 .rcases getElem?_set_of h with ⟨rfl,z,hl⟩|⟨n,h⟩
  .cases z
  .obtain⟨q,h⟩:=R.raw j b o x h;exact⟨by rw[zp n];exact q,h.mono (g2.trans g1)⟩
theorem Rep.upd_own(R:Rep K ρ σ H)(h:ρ[i]?=ae (.own a ds))(l:j6 K (del H (owns ρ)) ds' xs):Rep K (ρ.set i (.own a ds')) σ (upd H a (.lst xs)):=by
 have eo:owns (ρ.set i (.own a ds'))=owns ρ:=Zn h;have ed:del (upd H a (.lst xs)) (owns ρ)=del H (owns ρ):=Yc (Qw h);refine⟨by simp[R.len],λj d' q=>?_,λj b l' q=>?_,by rw[eo];exact R.nd,λj b o x q=>?_,let ⟨_,_,z,_⟩:=R.own i a ds h;R.tb.upd z λ_ y=>by cases y⟩
 .rw[eo,ed];rcases getElem?_set_of q with ⟨_,z,_⟩|⟨n,q⟩
  .cases z
  .exact R.val j d' q
 .rw[eo,ed];rcases getElem?_set_of q with ⟨rfl,z,_⟩|⟨n,q'⟩
  .cases z;exact⟨(R.own i a ds h).1,xs,jm,l⟩
  .obtain⟨z,ys,y,l''⟩:=R.own j b l' q';refine⟨z,ys,?_,l''⟩;have nb:b≠a:=λe=>n (Rm R.nd h (e▸q'));rw[jc nb];exact y
 .rw[eo,ed];rcases getElem?_set_of q with ⟨_,z,_⟩|⟨n,q⟩
  .cases z
  .exact R.raw j b o x q
theorem Rep.freeze(R:Rep K ρ σ H)(h:ρ[i]?=ae (.own a ds)):Rep K (ρ.set i (.val (.lst ds))) σ H:=by
 obtain⟨hs,xs,hx,l⟩:=R.own i a ds h;have sub:(owns (ρ.set i (.val (.lst ds)))).Sublist (owns ρ):=jd rfl;have g:j4 (del H (owns ρ)) (del H (owns (ρ.set i (.val (.lst ds))))):=v9 λb hb=>sub.subset hb;have na:a∉owns (ρ.set i (.val (.lst ds))):=λz=>by
  obtain⟨j,l',q⟩:=Wv z;rcases getElem?_set_of q with ⟨_,z,_⟩|⟨n,q⟩
  .cases z
  .exact n (Rm R.nd h q)
 refine⟨by simp[R.len],λj d' q=>?_,λj b l' q=>?_,sub.nodup R.nd,λj b o x q=>?_,R.tb⟩
 .rcases getElem?_set_of q with ⟨rfl,z,_⟩|⟨n,q⟩
  .cases z;exact⟨_,hs,a,xs,rfl,.inl (.inl (by rw[j5 na];exact hx)),l.mono g⟩
  .obtain⟨u,q,h⟩:=R.val j d' q;exact⟨u,q,h.mono g⟩
 .rcases getElem?_set_of q with ⟨rfl,z,_⟩|⟨n,q⟩
  .cases z
  .obtain⟨q,ys,h,l⟩:=R.own j b l' q;exact⟨q,ys,h,l.mono g⟩
 .rcases getElem?_set_of q with ⟨_,z,_⟩|⟨n,q⟩
  .cases z
  .obtain⟨q,h⟩:=R.raw j b o x q;exact⟨q,h.mono g⟩
end
def DE(X:Cx)(ρ:Rho)(e:ar)(d:D):Prop:=∀σ H Q,Rep X.K ρ σ H->(∀v H',j4 H H'->Enc X.K (del H' (owns ρ)) d v->Q v H')->Jk X e σ H Q
def DT(X:Cx)(ρ:Rho)(e:ar)(d:D):Prop:=∀σ H Q,Rep X.K ρ σ H->(∀v H',j4 H H'->Enc X.K H' d v->Q v H')->Jk X e σ H Q
def DO(X:Cx)(ρ:Rho)(e:ar)(ds:List D):Prop:=∀σ H Q,Rep X.K ρ σ H->(∀a xs H',j4 H H'->H a=ah->H' a=ae (.lst xs)->j6 X.K (del H' (a::owns ρ)) ds xs->Q (.ref a) H')->Jk X e σ H Q
def DL(X:Cx)(ρ:Rho)(e:ar)(ds:List D):Prop:=∀σ H Q,Rep X.K ρ σ H->(∀a xs H',j4 H H'->H' a=ae (.lst xs)->j6 X.K (del H' (owns ρ)) ds xs->Q (.ref a) H')->Jk X e σ H Q
def DB(X:Cx)(ρ:Rho)(e:ar)(b:Bool):Prop:=∀σ H Q,Rep X.K ρ σ H->(∀H',j4 H H'->Q b H')->j4x X e σ H Q
def DA(X:Cx)(ρ:Rho)(es:List ar)(ds:List D):Prop:=∀σ H Q,Rep X.K ρ σ H->(∀vs H',j4 H H'->j6 X.K (del H' (owns ρ)) ds vs->Q vs H')->Ou X es σ H Q
def DTA(X:Cx)(ρ:Rho)(es:List ar)(ds:List D):Prop:=∀σ H Q,Rep X.K ρ σ H->(∀vs H',j4 H H'->j6 X.K H' ds vs->Q vs H')->Ou X es σ H Q
def j4w(X:Cx)(e:ar):TT:=λσ H Q=>∀whole pins s,Inv X pins σ H s->aC (aB X.prog X.w) X.A (dz e X.env whole) (TP X pins σ Q) X.xe s
theorem pwS{X:Cx}{e:ar}:PW X e (j4w X e):=λwhole pins s _ _ _ I h=>h whole pins s I
theorem PW.to{X:Cx}{e:ar}{t:TT}{σ:St}{H:Hp}(h:PW X e t){Q:Bool->Hp->Prop}(q:t σ H Q):j4w X e σ H Q:=λwhole pins s I=>h whole pins s σ H Q I q
def DW(X:Cx)(ρ:Rho)(e:ar)(b:Bool):Prop:=∀σ H Q,Rep X.K ρ σ H->(∀H',j4 H H'->Q b H')->j4w X e σ H Q
mutual
noncomputable def vy:D->Bool
 |.lst _=>af
 |.dct _ _=>af
 |.sct _=>af
 |.fn _ _=>af
 |.tup ds=>qi ds
 |_=>ag
noncomputable def qi:List D->Bool
 |[]=>ag
 |d::ds=>vy d&&qi ds
end
mutual
theorem Enc.hide{K:k5k}{H:Hp}{A:List ak}(hA:∀a∈A,Hd (H a)):∀{d:D}{v:V},vy d=ag->Enc K H d v->Enc K (del H A) d v
 |.non,_,_,h=>h
 |.bl _,_,_,h=>h
 |.int _,_,_,h=>h
 |.str _,_,_,h=>h
 |.lst _,_,n,_=>by cases n
 |.dct _ _,_,n,_=>by cases n
 |.sct _,_,n,_=>by cases n
 |.fn _ _,_,n,_=>by cases n
 |.tup ds,_,n,⟨a,xs,e,q,l⟩=>by
  refine⟨a,xs,e,?_,j6.hide hA (by simpa [vy]using n) l⟩;have out:∀{o:HO},H a=ae o->(∀ys,o≠.lst ys)->(∀ys ep,o≠.dI ys ep)->del H A a=ae o:=λ{o} h z z2=>by
   rw[j5];exact h;intro y;rcases hA a y with ⟨ys,e'⟩|⟨ys,ep,e'⟩
   .rw[h]at e';cases e';exact z ys rfl
   .rw[h]at e';cases e';exact z2 ys ep rfl
  rcases q with (q|⟨o,q⟩)|q
  .exact .inl (.inl (out q (λ_ z=>by cases z) λ_ _ z=>by cases z))
  .exact .inl (.inr ⟨o,out q (λ_ z=>by cases z) λ_ _ z=>by cases z⟩)
  .exact .inr q
theorem j6.hide{K:k5k}{H:Hp}{A:List ak}(hA:∀a∈A,Hd (H a)):∀{ds:List D}{xs:List V},qi ds=ag->j6 K H ds xs->j6 K (del H A) ds xs
 |[],_,_,h=>h
 |d::ds,_,n,⟨x,r,e,h,l⟩=>by
  have n':vy d=ag/\qi ds=ag:=by simpa [qi]using n
  exact⟨x,r,e,Enc.hide hA n'.1 h,j6.hide hA n'.2 l⟩
end
section
variable{X:Cx}{ρ:Rho}{e a b c:ar}{es:List ar}{d da db:D}{ds ds':List D}{i j:Int}{pos:aQ}{k:Nat}{x:ao}
theorem DE.toT(h:DE X ρ e d):DT X ρ e d:=λσ H Q R q=>h σ H Q R λv H' g l=>q v H' g (l.mono qb)
theorem DT.toE(h:DT X ρ e d)(n:vy d=ag:=by rfl):DE X ρ e d:=λσ H Q R q=>h σ H Q R λv H' g l=>q v H' g (l.hide (λa ha=>.inl ((R.grow g).owned a ha)) n)
theorem DO.toL(h:DO X ρ e ds):DL X ρ e ds:=λσ H Q R q=>h σ H Q R λa xs H' g n m l=>q a xs H' g m (l.mono (v9 λb hb=>kj _ hb))
theorem DO.toE(h:DO X ρ e ds):DE X ρ e (.lst ds):=λσ H Q R q=>h σ H Q R λa xs H' g n m l =>q _ H' g ⟨a,xs,rfl,.inl (.inl (by rw[j5 (R.fresh n)];exact m)),l.mono (v9 λb hb=>kj _ hb)⟩
theorem DL.toT(h:DL X ρ e ds):DT X ρ e (.lst ds):=λσ H Q R q=>h σ H Q R λa xs H' g m l=>q _ H' g ⟨a,xs,rfl,.inl (.inl m),l.mono qb⟩
theorem DW.toB{k:Bool}(h:DW X ρ e k):DB X ρ e k:=λσ H Q R q pins s I=>h σ H Q R q _ pins s I
theorem DA.toT(h:DA X ρ es ds):DTA X ρ es ds:=λσ H Q R q=>h σ H Q R λv H' g l=>q v H' g (l.mono qb)
theorem DE.eq(h:DE X ρ e d){d':D}(q:d=d'):DE X ρ e d':=q▸h
theorem DB.eq{b b':Bool}(h:DB X ρ e b)(q:b=b'):DB X ρ e b':=q▸h
end
section
variable{X:Cx}{ρ:Rho}{e a b c:ar}{es:List ar}{d da db:D}{ds ds':List D}{i j:Int}{pos p:aQ}{k:Nat}{x:ao}
theorem DE.var(k:Nat)(h:ρ[k]?=ae (.val d))(hN:X.N[k]?=ae x:=by rfl)(hv:Vis X.env.scope x:=by first|exact b8 rfl|exact cu (b8 rfl)|exact cu (cu rfl))
  (hd:(x==k5o)=af:=by decide) (hcd:(x==k5p)=af:=by decide):DE X ρ (.Name x pos) d:=λσ H Q R q=>by
 obtain⟨v,hs,en⟩:=R.val k d h;exact(qt hN hv hd hcd).to ⟨v,hs,q v H (j4.refl H) en⟩
theorem DL.var(k:Nat){l:ak}(h:ρ[k]?=ae (.own l ds))(hN:X.N[k]?=ae x:=by rfl)(hv:Vis X.env.scope x:=by first|exact b8 rfl|exact cu (b8 rfl)|exact cu (cu rfl))
  (hd:(x==k5o)=af:=by decide) (hcd:(x==k5p)=af:=by decide):DL X ρ (.Name x pos) ds:=λσ H Q R q=>by
 obtain⟨hs,xs,m,en⟩:=R.own k l ds h;exact(qt hN hv hd hcd).to ⟨_,hs,q l xs H (j4.refl H) m en⟩
theorem DE.glob {u:aj} {v:V} (hg:Gl X x) (hm:X.mg x=ae u) (r:RelV v u) (h:∀H,Enc X.K H d v) (hd:(x==k5o)=af:=by decide):DE X ρ (.Name x pos) d :=
 λσ H Q R q=>(Iu hg hm r hd).to (q v H (j4.refl H) (h _))
theorem DE.int{i:Int}{n:Nat}{pos:aQ}:DE X ρ (.Constant (.int i) n pos) (.int i):=λσ H Q R q=>Cw.to (q _ H (j4.refl H) rfl)
theorem DE.bl{b:Bool}{n:Nat}:DE X ρ (.Constant (.bool b) n pos) (.bl b):=λσ H Q R q=>jg3.to (q _ H (j4.refl H) rfl)
theorem DE.non{n:Nat}:DE X ρ (.Constant .none n pos) .non:=λσ H Q R q=>jc2.to (q _ H (j4.refl H) rfl)
theorem DE.str{y:ao}{n:Nat}:DE X ρ (.Constant (.str y) n pos) (.str y):=λσ H Q R q=>Uq.to (q _ H (j4.refl H) rfl)
theorem DE.arI0{op:gX}{g:Int->Int->Int}(ho:OpR X (aZ op) (rI0 λi j=>.int (g i j)))(ha:DT X ρ a (.int i))(hb:DT X ρ b (.int j)):DE X ρ (.BinOp a op b pos) (.int (g i j)):=λσ H Q R q =>(Zv ho peS peS).to (ha σ H _ R λv H1 g1 e1=>hb σ H1 _ (R.grow g1) λu H2 g2 e2=>⟨i,j,e1,e2,q _ H2 (g1.trans g2) rfl⟩)
theorem DE.arI{op:gX}{C:Int->Int->Prop}{g:Int->Int->Int}(ho:OpR X (aZ op) (rI C λi j=>.int (g i j)))(ha:DT X ρ a (.int i))(hb:DT X ρ b (.int j))(hC:C i j):DE X ρ (.BinOp a op b pos) (.int (g i j)):=λσ H Q R q =>(Zv ho peS peS).to (ha σ H _ R λv H1 g1 e1=>hb σ H1 _ (R.grow g1) λu H2 g2 e2=>⟨i,j,e1,e2,hC,q _ H2 (g1.trans g2) rfl⟩)
theorem DE.add(ha:DT X ρ a (.int i))(hb:DT X ρ b (.int j)):DE X ρ (.BinOp a .Add b pos) (.int (i+j)):=DE.arI0 j2p ha hb
theorem DE.sub(ha:DT X ρ a (.int i))(hb:DT X ρ b (.int j)):DE X ρ (.BinOp a .Sub b pos) (.int (i-j)):=DE.arI0 jc9 ha hb
theorem DE.mul(ha:DT X ρ a (.int i))(hb:DT X ρ b (.int j))(h:j1o i j):DE X ρ (.BinOp a .Mult b pos) (.int (i*j)):=DE.arI jce ha hb h
theorem DE.mod(ha:DT X ρ a (.int i))(hb:DT X ρ b (.int j))(h:0<j):DE X ρ (.BinOp a .Mod b pos) (.int (i%j)):=DE.arI jcf ha hb h
theorem DE.pow(ha:DT X ρ a (.int i))(hb:DT X ρ b (.int j))(h:j1n i j):DE X ρ (.BinOp a .Pow b pos) (.int (i^j.toNat)):=DE.arI jcd ha hb h
theorem DE.shl(ha:DT X ρ a (.int i))(hb:DT X ρ b (.int j))(h:j1n i j):DE X ρ (.BinOp a .LShift b pos) (.int (i*2^j.toNat)):=DE.arI (g:=λi j=>i*2^j.toNat) jcb ha hb h
theorem DE.neg(ha:DT X ρ a (.int i)):DE X ρ (.UnaryOp .USub a pos) (.int (-i)):=λσ H Q R q =>(jg2 jb2 peS).to (ha σ H _ R λv H1 g1 e1=>⟨i,e1,q _ H1 g1 rfl⟩)
theorem DE.cmpI{op:ff}{g:Int->Int->Bool}(ho:OpR X (b0 op) (rI0 λi j=>.bl (g i j)))(hm:aN op b=af)(ha:DT X ρ a (.int i))(hb:DT X ρ b (.int j)):DE X ρ (.Compare a [op] [b] pos) (.bl (g i j)):=λσ H Q R q =>(J7 ho peS peS hm).to (ha σ H _ R λv H1 g1 e1=>hb σ H1 _ (R.grow g1) λu H2 g2 e2=>⟨i,j,e1,e2,q _ H2 (g1.trans g2) rfl⟩)
theorem DB.cmpI{op:ff}{g:Int->Int->Bool}(ho:OpR X (b0 op) (rI0 λi j=>.bl (g i j)))(hm:aN op b=af)(ha:DT X ρ a (.int i))(hb:DT X ρ b (.int j)):DB X ρ (.Compare a [op] [b] pos) (g i j):=λσ H Q R q =>(J5 ho peS peS hm).to (ha σ H _ R λv H1 g1 e1=>hb σ H1 _ (R.grow g1) λu H2 g2 e2=>⟨i,j,e1,e2,_,rfl,q H2 (g1.trans g2)⟩)
theorem DB.lt(ha:DT X ρ a (.int i))(hb:DT X ρ b (.int j)):DB X ρ (.Compare a [.Lt] [b] pos) (decide (i<j)):=DB.cmpI j0p (za _) ha hb
theorem DB.le(ha:DT X ρ a (.int i))(hb:DT X ρ b (.int j)):DB X ρ (.Compare a [.LtE] [b] pos) (decide (i<=j)):=DB.cmpI j7n (za _) ha hb
theorem DB.gt(ha:DT X ρ a (.int i))(hb:DT X ρ b (.int j)):DB X ρ (.Compare a [.Gt] [b] pos) (decide (j<i)):=DB.cmpI j7o (za _) ha hb
theorem DB.ge(ha:DT X ρ a (.int i))(hb:DT X ρ b (.int j)):DB X ρ (.Compare a [.GtE] [b] pos) (decide (j<=i)):=DB.cmpI j0q (za _) ha hb
theorem DE.lt(ha:DT X ρ a (.int i))(hb:DT X ρ b (.int j)):DE X ρ (.Compare a [.Lt] [b] pos) (.bl (decide (i<j))):=DE.cmpI j0p (za _) ha hb
theorem DE.le(ha:DT X ρ a (.int i))(hb:DT X ρ b (.int j)):DE X ρ (.Compare a [.LtE] [b] pos) (.bl (decide (i<=j))):=DE.cmpI j7n (za _) ha hb
theorem DE.gt(ha:DT X ρ a (.int i))(hb:DT X ρ b (.int j)):DE X ρ (.Compare a [.Gt] [b] pos) (.bl (decide (j<i))):=DE.cmpI j7o (za _) ha hb
theorem DE.ge(ha:DT X ρ a (.int i))(hb:DT X ρ b (.int j)):DE X ρ (.Compare a [.GtE] [b] pos) (.bl (decide (j<=i))):=DE.cmpI j0q (za _) ha hb
noncomputable def D.sc:D->Option V
 |.non=>ae .non
 |.bl b=>ae (.bl b)
 |.int i=>ae (.int i)
 |.str x=>ae (.str x)
 |_=>ah
theorem D.sc_enc{K:k5k}{H:Hp}{d:D}{u v:V}(h:d.sc=ae u)(q:Enc K H d v):v=u:=by cases d<;>simp[D.sc]at h<;>subst h<;>exact q
theorem DE.eqS{u v:V}(ha:DT X ρ a da)(hb:DT X ρ b db)(h1:da.sc=ae u:=by rfl)(h2:db.sc=ae v:=by rfl)(h:Ov u v=ag:=by rfl):DE X ρ (.Compare a [.Eq] [b] pos) (.bl (decide (u=v))):=λσ H Q R q =>
 (J7 j7p peS peS (za _)).to (ha σ H _ R λx H1 g1 e1=>hb σ H1 _ (R.grow g1) λy H2 g2 e2=>by
  cases D.sc_enc h1 e1;cases D.sc_enc h2 e2;exact⟨h,q _ H2 (g1.trans g2) rfl⟩)
theorem DE.neS{u v:V}(ha:DT X ρ a da)(hb:DT X ρ b db)(h1:da.sc=ae u:=by rfl)(h2:db.sc=ae v:=by rfl)(h:Ov u v=ag:=by rfl):DE X ρ (.Compare a [.NotEq] [b] pos) (.bl (!decide (u=v))):=λσ H Q R q =>
 (J7 j7m peS peS (za _)).to (ha σ H _ R λx H1 g1 e1=>hb σ H1 _ (R.grow g1) λy H2 g2 e2=>by
  cases D.sc_enc h1 e1;cases D.sc_enc h2 e2;exact⟨h,q _ H2 (g1.trans g2) rfl⟩)
theorem DB.eqS{u v:V}(ha:DT X ρ a da)(hb:DT X ρ b db)(h1:da.sc=ae u:=by rfl)(h2:db.sc=ae v:=by rfl)(h:Ov u v=ag:=by rfl):DB X ρ (.Compare a [.Eq] [b] pos) (decide (u=v)):=λσ H Q R q =>
 (J5 j7p peS peS (za _)).to (ha σ H _ R λx H1 g1 e1=>hb σ H1 _ (R.grow g1) λy H2 g2 e2=>by
  cases D.sc_enc h1 e1;cases D.sc_enc h2 e2;exact⟨h,_,rfl,q H2 (g1.trans g2)⟩)
theorem DB.neS{u v:V}(ha:DT X ρ a da)(hb:DT X ρ b db)(h1:da.sc=ae u:=by rfl)(h2:db.sc=ae v:=by rfl)(h:Ov u v=ag:=by rfl):DB X ρ (.Compare a [.NotEq] [b] pos) (!decide (u=v)):=λσ H Q R q =>
 (J5 j7m peS peS (za _)).to (ha σ H _ R λx H1 g1 e1=>hb σ H1 _ (R.grow g1) λy H2 g2 e2=>by
  cases D.sc_enc h1 e1;cases D.sc_enc h2 e2;exact⟨h,_,rfl,q H2 (g1.trans g2)⟩)
theorem Yy(i j:Int):decide (V.int i=V.int j)=decide (i=j):=by
 by_cases h:i=j
 .subst h;simp
 .rw[decide_eq_false h,decide_eq_false (λz=>h (V.int.inj z))]
theorem El(i j:Bool):decide (V.bl i=V.bl j)=(i==j):=by cases i<;>cases j<;>rfl
theorem K7(i j:ao):decide (V.str i=V.str j)=decide (i=j):=by
 by_cases h:i=j
 .subst h;simp
 .rw[decide_eq_false h,decide_eq_false (λz=>h (V.str.inj z))]
theorem DE.eqI(ha:DT X ρ a (.int i))(hb:DT X ρ b (.int j)):DE X ρ (.Compare a [.Eq] [b] pos) (.bl (decide (i=j))):=(DE.eqS ha hb).eq (by rw[Yy])
theorem DE.neI(ha:DT X ρ a (.int i))(hb:DT X ρ b (.int j)):DE X ρ (.Compare a [.NotEq] [b] pos) (.bl (!decide (i=j))):=(DE.neS ha hb).eq (by rw[Yy])
theorem DB.eqI(ha:DT X ρ a (.int i))(hb:DT X ρ b (.int j)):DB X ρ (.Compare a [.Eq] [b] pos) (decide (i=j)):=(DB.eqS ha hb).eq (by rw[Yy])
theorem DB.neI(ha:DT X ρ a (.int i))(hb:DT X ρ b (.int j)):DB X ρ (.Compare a [.NotEq] [b] pos) (!decide (i=j)):=(DB.neS ha hb).eq (by rw[Yy])
theorem DE.neB{x y:Bool}(ha:DT X ρ a (.bl x))(hb:DT X ρ b (.bl y)):DE X ρ (.Compare a [.NotEq] [b] pos) (.bl (x != y)):=(DE.neS ha hb).eq (by rw[El];rfl)
theorem DB.neB{x y:Bool}(ha:DT X ρ a (.bl x))(hb:DT X ρ b (.bl y)):DB X ρ (.Compare a [.NotEq] [b] pos) (x != y):=(DB.neS ha hb).eq (by rw[El];rfl)
noncomputable def D.isNon:D->Bool
 |.non=>ag
 |_=>af
theorem Np{K:k5k}{H:Hp}{d:D}{v:V}(q:Enc K H d v):decide (v=V.non)=d.isNon:=by
 cases d with
 |non=>cases(show v=.non from q);rfl
 |bl b=>cases(show v=.bl b from q);rfl
 |int b=>cases(show v=.int b from q);rfl
 |str b=>cases(show v=.str b from q);rfl
 |tup l=>obtain⟨a,xs,e,_⟩:=q;subst e;rfl
 |lst l=>obtain⟨a,xs,e,_⟩:=q;subst e;rfl
 |dct ks l=>obtain⟨a,xs,ep,vs,e,_⟩:=q;subst e;rfl
 |sct k=>obtain⟨a,e,_⟩:=q;subst e;rfl
 |fn x l=>obtain⟨a,c,tx,cl,vs,e,_⟩:=q;subst e;rfl
theorem DE.isN{n:Nat}{p2:aQ}(ha:DT X ρ a d):DE X ρ (.Compare a [.Is] [.Constant .none n p2] pos) (.bl d.isNon):=λσ H Q R q =>(jc4 (j2l peS)).to (ha σ H _ R λx H1 g1 e1=>q _ H1 g1 (by rw[Np e1];rfl))
theorem DB.isN{n:Nat}{p2:aQ}(ha:DT X ρ a d):DB X ρ (.Compare a [.Is] [.Constant .none n p2] pos) d.isNon:=λσ H Q R q =>(jby (j2l peS)).to (ha σ H _ R λx H1 g1 e1=>⟨_,rfl,by rw[Np e1];exact q H1 g1⟩)
theorem DB.val{k:Bool}(ha:DT X ρ a (.bl k))(he:∀whole,dz a X.env whole=(do let v <-whole;eN a.pos;dS [v] (i9 v)):=by intro _;rfl):DB X ρ a k:=λσ H Q R q =>(j2c peS he).to (ha σ H _ R λx H1 g1 e1=>⟨_,e1,q H1 g1⟩)
theorem DW.or1{k:Bool}(ha:DB X ρ a k):DW X ρ (.BoolOp .Or [a] pos) k:=λσ H Q R q=>(jbx ptS).to (ha σ H Q R q)
theorem DW.or{k m:Bool}{rest:List ar}(ha:DB X ρ a k)(hb:k=af->DW X ρ (.BoolOp .Or (b::rest) pos) m):DW X ρ (.BoolOp .Or (a::b::rest) pos) (k || m):=λσ H Q R q =>
 (jg0 ptS pwS).to (ha σ H _ R λH1 g1=>by
  cases k with
  |true=>exact Bb (q H1 g1)
  |false=>exact Bc (hb rfl σ H1 Q (R.grow g1) λH2 g2=>q H2 (g1.trans g2)))
theorem DB.not{k:Bool}(ha:DB X ρ a k):DB X ρ (.UnaryOp .Not a pos) (!k):=λσ H Q R q=>(j2d ptS).to (ha σ H _ R λH1 g1=>q H1 g1)
theorem DE.and{k m:Bool}{rest:List ar}(ha:DT X ρ a (.bl k))(hb:k=ag->DE X ρ (.BoolOp .And (b::rest) pos) (.bl m)):DE X ρ (.BoolOp .And (a::b::rest) pos) (.bl (k&&m)):=λσ H Q R q =>
 (jc5 peS peS).to (ha σ H _ R λx H1 g1 e1=>⟨k,e1,by
  cases k with
  |false=>exact Bc (q _ H1 g1 rfl)
  |true=>exact Bb (hb rfl σ H1 Q (R.grow g1) λv H2 g2=>q v H2 (g1.trans g2))⟩)
theorem DE.ite{k:Bool}{d':D}(hc:DB X ρ c k)(ha:k=ag->DE X ρ a d)(hb:k=af->DE X ρ b d'):DE X ρ (.IfExp c a b pos) (if k=ag then d else d'):=λσ H Q R q =>
 (j5g ptS peS peS).to (hc σ H _ R λH1 g1=>by
  cases k with
  |true=>exact Bb (ha rfl σ H1 Q (R.grow g1) λv H2 g2 z=>q v H2 (g1.trans g2) (by rw[if_pos rfl];exact z))
  |false=>exact Bc (hb rfl σ H1 Q (R.grow g1) λv H2 g2 z=>q v H2 (g1.trans g2) (by rw[if_neg xx];exact z)))
theorem DA.nil:DA X ρ [] []:=λσ H Q R q=>ju.to (q [] H (j4.refl H) rfl)
theorem DA.cons(ha:DE X ρ a d)(hr:DA X ρ es ds)(hs:ai (a::es) X.env=(af,aH a X.env)::ai es X.env:=by rfl):DA X ρ (a::es) (d::ds):=λσ H Q R q =>(j9 peS paS hs).to (ha σ H _ R λv H1 g1 e1=>hr σ H1 _ (R.grow g1) λvs H2 g2 e2=>q _ H2 (g1.trans g2) ⟨v,vs,rfl,e1.mono (jf g2),e2⟩)
theorem DTA.nil:DTA X ρ [] []:=λσ H Q R q=>ju.to (q [] H (j4.refl H) rfl)
theorem DTA.cons(ha:DT X ρ a d)(hr:DTA X ρ es ds)(hs:ai (a::es) X.env=(af,aH a X.env)::ai es X.env:=by rfl):DTA X ρ (a::es) (d::ds):=λσ H Q R q =>(j9 peS paS hs).to (ha σ H _ R λv H1 g1 e1=>hr σ H1 _ (R.grow g1) λvs H2 g2 e2=>q _ H2 (g1.trans g2) ⟨v,vs,rfl,e1.mono g2,e2⟩)
theorem DE.tup{n:Nat}{x1}(h:DA X ρ es ds)(hl:ds.length<=aw:=by simp only[xn,Pk];decide):DE X ρ (.Tuple es x1 pos) (.tup ds):=λσ H Q R q =>(j2j paS).to (h σ H _ R λvs H1 g1 e1=>⟨by rw[e1.length];exact hl,λp hp=>q _ _ (g1.trans (j8 hp)) ⟨p,vs,rfl,.inl (.inl (by rw[j5 ((R.grow g1).fresh hp)];exact jm)),e1.mono (jf (j8 hp))⟩⟩)
theorem DO.lst(h:DA X ρ es ds)(hl:ds.length<=aw:=by simp only[xn,Pk];decide):DO X ρ (.List es pos) ds:=λσ H Q R q =>
 (jc3 paS).to (h σ H _ R λvs H1 g1 e1=>⟨by rw[e1.length];exact hl,λp hp=>q p vs _ (g1.trans (j8 hp)) (g1.free hp) jm (e1.mono λb o z=>by
  obtain⟨n,z⟩:=of_del z
  rw[j5];exact j8 hp b o z
  intro y
  rcases km.mp y with y|y
  .subst y;rw[hp]at z;cases z
  .exact n y)⟩)
theorem j6.atI{K:k5k}{H:Hp}{xs:List V}(h:j6 K H ds xs)(q:atI ds i=ae d):∃x,L2.atI xs i=ae x/\Enc K H d x:=by
 unfold L2.atI at q ⊢;rw[h.length];cases z:ixN ds.length i with
 |none=>rw[z]at q;cases q
 |some k =>rw[z]at q;exact h.get q
noncomputable def cutD(ds:List D)(lo hi:Option Int):List D:=(ds.drop (HT.sIx ds.length 0 lo)).take (HT.sIx ds.length ds.length hi-HT.sIx ds.length 0 lo)
theorem j6.cut{K:k5k}{H:Hp}{xs:List V}(h:j6 K H ds xs)(lo hi:Option Int):j6 K H (cutD ds lo hi) (Uy xs lo hi):=by unfold cutD Uy;rw[h.length];exact(h.drop _).take _
theorem Yx{K:k5k}{H1:Hp}{A:List ak}{ds:List D}{xs:List V}{p:ak}{o:HO}(hp:H1 p=ah)(e1:j6 K (del H1 A) ds xs):j6 K (del (upd H1 p o) (p::A)) ds xs:=e1.mono λb o z=>by
 obtain⟨n,z⟩:=of_del z;rw[j5];exact j8 hp b o z;intro y;rcases km.mp y with y|y
 .subst y;rw[hp]at z;cases z
 .exact n y
theorem DO.rep(ha:DL X ρ a ds)(hb:DT X ρ b (.int i))(h1:-(2^63)<=i)(h2:i<2^63)(hl:ds.length*i.toNat<=aw):DO X ρ (.BinOp a .Mult b pos) (ax i.toNat ds).flatten:=λσ H Q R q =>
 (Zv jcc peS peS).to (ha σ H _ R λl xs H1 g1 m1 e1=>hb σ H1 _ (R.grow g1) λu H2 g2 e2 =>
  ⟨l,i,xs,rfl,e2,g2 _ _ m1,h1,h2,by rw[e1.length];exact hl,λp hp=>q p _ _ ((g1.trans g2).trans (j8 hp)) ((g1.trans g2).free hp) jm (Yx hp ((e1.mono (jf g2)).rep _))⟩)
theorem DE.lenT (ha:DT X ρ a (.tup ds)) (hm:X.mg "len" = ah) (hg:Gl X "len":=by rfl) (hs:ai [a] X.env=[(af,aH a X.env)]:=by rfl) {p2:aQ}:DE X ρ (.Call (.Name "len" p2) [a] [] pos) (.int ds.length):=λσ H Q R q =>(qz Qq hg hm cF (j9 peS ju hs) (by decide) (by decide) hs).to (ha σ H _ R λv H1 g1 ⟨l,xs,e,sq,en⟩=>⟨l,xs,by rw[e],.inr sq,q _ H1 g1 (by rw[en.length];rfl)⟩)
theorem DE.lenL (ha:DT X ρ a (.lst ds)) (hm:X.mg "len" = ah) (hg:Gl X "len":=by rfl) (hs:ai [a] X.env=[(af,aH a X.env)]:=by rfl) {p2:aQ}:DE X ρ (.Call (.Name "len" p2) [a] [] pos) (.int ds.length):=λσ H Q R q =>(qz Qq hg hm cF (j9 peS ju hs) (by decide) (by decide) hs).to (ha σ H _ R λv H1 g1 ⟨l,xs,e,sq,en⟩=>⟨l,xs,by rw[e],.inl sq,q _ H1 g1 (by rw[en.length];rfl)⟩)
end
def framed(sp:Sp):Sp:=λvs H Q E=>∃A:List ak,(∀a∈A,∃xs,H a=ae (.lst xs))/\sp vs (del H A) (λv F=>(∀a∈A,F a=ah)->Q v (mrg A H F)) E
theorem FnOk.framed{P:ay}{w:aE}{K:k5k}{mg:k5n}{base:aK}{k:Nat}{f:ak}{fd:aL}{ps:List ao}{sp:Sp}(F:FnOk P w K mg base CX0 k f fd ps sp) :
  FnOk P w K mg base CX0 k f fd ps (framed sp) where
 len:=λvs H Q E ⟨A,_,h⟩=>F.len vs _ _ _ h
 run:=by
  rintro A0 outer s H args us vs Q E hr e0 hb rv ⟨A,hA,h⟩;have nd:∀{b:ak},H b=ah->del H A b=ah:=λ{b} q=>by
   by_cases z:b∈A
   .exact zc z
   .rw[j5 z];exact q
  have out:∀{b:ak}{o:HO},H b=ae o->(∀ys,o≠.lst ys)->del H A b=ae o:=λ{b o} q z=>by rw[j5];exact q;intro y;obtain⟨ys,e'⟩:=hA b y;rw[q]at e';cases e';exact z ys rfl
  have e1:Env0 P w K mg base A0 outer s (del H A):=⟨e0.frames,e0.mod,λb o q=>⟨(e0.bs b o q).1,nd (e0.bs b o q).2⟩,e0.bsz,e0.funs,λb hb=>nd (e0.frf b hb),
   λa o q=>by
    obtain⟨_,q⟩:=of_del q
    exact jl.stay (e0.hok a o q) (λb u _ z=>z) (λb z=>out z λ_ y=>by cases y) (λb xs z=>out z λ_ y=>by cases y) (λb _ _ z=>out z λ_ y=>by cases y),e0.bare⟩
  refine bH (F.run A0 outer s (del H A) args us vs _ E hr e1 hb rv h) λr s' hq=>?_;cases r with
  |error e=>exact(show False from hq).elim
  |ok fl =>
   cases fl with
   |next=>exact(show False from hq).elim
   |brk=>exact(show False from hq).elim
   |cont=>exact(show False from hq).elim
   |ret u =>
    obtain⟨v,H',os,bare,un,hok',rel,q⟩:=(show CE outer P w (del H A) s _ u s' from hq)
    have kept:∀a∈A,∃o,s.heap.get? a=ae o/\s'.heap.get? a=ae o/\H' a=ah:=λa ha=>by
     obtain⟨xs,e⟩:=hA a ha;obtain⟨_,its,n,_,z⟩:=(show jl P w H s.heap a (.lst xs)from e0.hok _ _ e)
     have nf:a∉frs outer:=λy=>by rw[e0.frf a y]at e;cases e
     exact⟨_,z,un.keep a _ z (zc ha) nf (by simp),un.free a _ z (zc ha) (by simp)⟩
    have hF:∀a∈A,H' a=ah:=λa ha=>let ⟨_,_,_,z⟩:=kept a ha;z;have outF:∀{b:ak}{o:HO},H' b=ae o->b∉A:=λ{b o} e z=>by rw[hF b z]at e;cases e
    refine⟨v,mrg A H H',os,bare,?_,λa o e=>?_,rel,q hF⟩
    .exact{
      keep:=λb o e n=>un.keep b o e (nd n)
      slot:=λb o e n=>un.slot b o e (nd n)
      free:=λb o e n hx=>by
       by_cases z:b∈A
       .rw[vz z];exact n
       .rw[jh z];exact un.free b o e (nd n) hx
      there:=un.there
      tups:=λb xs e=>by
       have z:=un.tups b xs (out e λ_ y=>by cases y)
       rw[jh (outF z)];exact z
      frzs:=λb o u e=>by
       have z:=un.frzs b o u (out e λ_ y=>by cases y)
       rw[jh (outF z)];exact z
      tbls:=λb ps e=>by
       obtain⟨more,z⟩:=un.tbls b ps (out e λ_ y=>by cases y)
       exact⟨more,by rw[jh (outF z)];exact z⟩ }
    .by_cases z:a∈A
     .rw[vz z]at e;obtain⟨xs,e'⟩:=hA a z;rw[e']at e;cases e;obtain⟨hl,its,n,r,y⟩:=(show jl P w H s.heap a (.lst xs)from e0.hok _ _ e')
      obtain⟨o',q1,q2,_⟩:=kept a z;rw[y]at q1;cases q1;exact⟨hl,its,n,r,q2⟩
     .rw[jh z]at e;refine jl.stay (hok' a o e) (λb u _ q=>q) (λb q=>?_) (λb xs q=>?_) (λb _ _ q=>?_)
      .rw[jh (outF q)];exact q
      .rw[jh (outF q)];exact q
      .rw[jh (outF q)];exact q
def spP(K:k5k)(S:List D->D->Prop):Sp:=λvs H Q _=>∃A ds d,TabOk K H/\(∀a∈A,∃xs,H a=ae (.lst xs))/\j6 K (del H A) ds vs/\S ds d/\∀v H',j4 H H'->Enc K (del H' A) d v->Q v H'
def spF(K:k5k)(S:List D->List D->Prop):Sp:=λvs H Q _=>∃A ds l,TabOk K H/\(∀a∈A,∃xs,H a=ae (.lst xs))/\j6 K (del H A) ds vs/\S ds l /\
 ∀a xs H',j4 H H'->H a=ah->H' a=ae (.lst xs)->j6 K (del H' (a::A)) l xs->Q (.ref a) H'
def ji7(K:k5k)(S:List D->D->Prop):Sp:=λvs H Q _=>∃ds d,TabOk K H/\j6 K H ds vs/\S ds d/\∀v H',j4 H H'->Enc K H' d v->Q v H'
def ji9(K:k5k)(S:List D->List D->Prop):Sp:=λvs H Q _=>∃ds l,TabOk K H/\j6 K H ds vs/\S ds l/\∀a xs H',j4 H H'->H a=ah->H' a=ae (.lst xs)->j6 K (del H' [a]) l xs->Q (.ref a) H'
section
variable{P:ay}{w:aE}{K:k5k}{mg:k5n}{base:aK}{k:Nat}{f:ak}{fd:aL}{ps:List ao}
theorem FnOk.toP{S:List D->D->Prop}(F:FnOk P w K mg base CX0 k f fd ps (ji7 K S)):FnOk P w K mg base CX0 k f fd ps (spP K S) :=
 F.framed.imp λvs H Q E ⟨A,ds,d,tb,hA,en,hS,q⟩=>⟨A,hA,ds,d,tb.del hA,en,hS,λv F g e hF=>q v _ (Rb g) (by rw[Qh hF];exact e)⟩
theorem FnOk.toF{S:List D->List D->Prop}(F:FnOk P w K mg base CX0 k f fd ps (ji9 K S)):FnOk P w K mg base CX0 k f fd ps (spF K S) :=
 F.framed.imp λvs H Q E ⟨A,ds,l,tb,hA,en,hS,q⟩=>⟨A,hA,ds,l,tb.del hA,en,hS,λa xs F g n e l' hF=>by
  have na:a∉A:=λz=>by rw[hF a z]at e;cases e
  refine q a xs _ (Rb g) (by rw[j5 na]at n;exact n) (by rw[jh na];exact e) (l'.mono λb o z=>?_)
  obtain⟨n1,z⟩:=of_del z
  have nb:b∉A:=λy=>by rw[hF b y]at z;cases z
  rw[j5,jh nb];exact z
  intro y
  rcases km.mp y with y|y
  .exact n1 (by rw[y];exact xm.mpr rfl)
  .exact nb y⟩
end
noncomputable def jec:List ao:=["dearest_way","cost_on_whole","worst_table","worst_plan","foe_answer","whole_table","whole_plan","mean_price"]
noncomputable def kG(us ws:List aj):List aj:=match ws with
 |[w]=>us++[w]
 |_=>[]
noncomputable def kGV(vs zs:List V):List V:=match zs with
 |[z]=>vs++[z]
 |_=>[]
def Dfl(K:k5k)(x:ao)(fd:aL)(ps:List ao):Prop:=x∈jec->Binds K fd ps [.none]/\KBinds K fd ps ["prices"] kG kGV
structure Cal(X:Cx)(x:ao)(sp:Sp):Prop where
 ex:∃(k:Nat)(f:ak)(fd:aL)(ps:List ao),FnOk X.prog X.w X.K X.mg X.base CX0 k f fd ps sp/\Room (k+1) X.A/\X.mg x=ae (.ref f)/\W.keepIn X.K (.ref f)=ag/\Binds X.K fd ps []/\Dfl X.K x fd ps
section
variable{X:Cx}{ρ:Rho}{e a:ar}{es:List ar}{d:D}{ds l:List D}{pos p:aQ}{x:ao}
theorem DE.call{S:List D->D->Prop}(c:Cal X x (spP X.K S))(ha:DA X ρ (e::es) ds)(hS:S ds d)(hg:Gl X x:=by rfl)(hdb:(x==k5o)=af:=by decide)
  (he:ai (e::es) X.env=(af,aH e X.env)::ai es X.env:=by rfl) (hpl:(aV pos (ai es X.env)).any (·.1)=af:=by rfl):DE X ρ (.Call (.Name x p) (e::es) [] pos) d:=λσ H Q R q=>by
 obtain⟨k,f,fd,ps,F,hr,hm,hk,hb,_⟩:=c.ex;refine(Y7 F (hr.mono (Pb _)) hg hm hk hb .nil Zw paS hdb he hpl).to (ha σ H _ R λvs H1 g1 e1=>?_);show spP X.K S (vs++[]) H1 Q E0;rw[Xk];exact⟨owns ρ,ds,d,R.tb.mono g1,(R.grow g1).owned,e1,hS,λv H2 g2 z=>q v H2 (g1.trans g2) z⟩
theorem DT.call{S:List D->D->Prop}(c:Cal X x (spP X.K S))(ha:DTA X ρ (e::es) ds)(hS:S ds d)(hg:Gl X x:=by rfl)(hdb:(x==k5o)=af:=by decide)
  (he:ai (e::es) X.env=(af,aH e X.env)::ai es X.env:=by rfl) (hpl:(aV pos (ai es X.env)).any (·.1)=af:=by rfl):DT X ρ (.Call (.Name x p) (e::es) [] pos) d:=λσ H Q R q=>by
 obtain⟨k,f,fd,ps,F,hr,hm,hk,hb,_⟩:=c.ex;refine(Y7 F (hr.mono (Pb _)) hg hm hk hb .nil Zw paS hdb he hpl).to (ha σ H _ R λvs H1 g1 e1=>?_);show spP X.K S (vs++[]) H1 Q E0;rw[Xk];exact⟨[],ds,d,R.tb.mono g1,(λa h=>nomatch h),by rw[vd];exact e1,hS,λv H2 g2 z=>q v H2 (g1.trans g2) (by rw[vd]at z;exact z)⟩
theorem DO.call{S:List D->List D->Prop}(c:Cal X x (spF X.K S))(ha:DA X ρ (e::es) ds)(hS:S ds l)(hg:Gl X x:=by rfl)(hdb:(x==k5o)=af:=by decide)
  (he:ai (e::es) X.env=(af,aH e X.env)::ai es X.env:=by rfl) (hpl:(aV pos (ai es X.env)).any (·.1)=af:=by rfl):DO X ρ (.Call (.Name x p) (e::es) [] pos) l:=λσ H Q R q=>by
 obtain⟨k,f,fd,ps,F,hr,hm,hk,hb,_⟩:=c.ex;refine(Y7 F (hr.mono (Pb _)) hg hm hk hb .nil Zw paS hdb he hpl).to (ha σ H _ R λvs H1 g1 e1=>?_);show spF X.K S (vs++[]) H1 Q E0;rw[Xk];exact⟨owns ρ,ds,l,R.tb.mono g1,(R.grow g1).owned,e1,hS,λa xs H2 g2 n m z=>q a xs H2 (g1.trans g2) (g1.free n) m z⟩
end
inductive Rt where
 |val (d:D)
 |fresh (ds:List D)
noncomputable def Rt.d:Rt->D
 |.val d=>d
 |.fresh l=>.lst l
structure Po where
 nx:Rho->Prop
 rt:Rt->Prop
 bk:Rho->Prop:=λ_=>False
 ct:Rho->Prop:=λ_=>False
 ex:ao->Rho->Prop:=λ_ _=>False
structure Fl(N:ak->Prop)(H:Hp)(h:aK)(e:ak)(C:aj):Prop where
 new:∀b,N b->b≠e
 free:H e=ah
 obj:∃(oe:cy)(vs:Array aj)(a0:aj),h.get? e=ae oe/\oe.cls=C/\oe.data=.fields vs/\vs[0]?=ae a0 /\
  (vs[1]?=ae .none\/∃(T:ak)(oT:cy)(ts:Array aj),vs[1]?=ae (.ref T)/\T≠e/\h.get? T=ae oT/\oT.data=.fields ts/\ts[3]?=ae .none/\H T=ah/\∀b,N b->b≠T)
def Old(X:Cx)(pins:k5m)(b:ak):Prop:=(∃o,X.s₀.heap.get? b=ae o/\b∉X.ex)\/(∃p∈X.pn++pins,p.1=b)\/b=X.env.locals\/∃x,X.env.cells.lookup x=ae b
def W4(X:Cx)(σ:St)(H:Hp)(x:ao):Prop:=∀(pins:k5m) (H':Hp) (s':aq) (e:ak) (C:aj),Inv X pins σ H' s'->j4 H H'->X.mg x=ae C->Fl (Old X pins) H' s'.heap e C->X.xe (.ref e) s'
def Fr0(ρ ρ':Rho)(H H':Hp):Prop:=j4 (del H (owns ρ)) (del H' (owns ρ'))
def Bv(K:k5k)(ρ:Rho)(H H':Hp)(v:V):Rt->Prop
 |.val d=>j4 (del H (owns ρ)) H'/\Enc K H' d v
 |.fresh ds=>∃a xs,v=.ref a/\j4 (del H (owns ρ)) (del H' [a])/\H' a=ae (.lst xs)/\j6 K (del H' [a]) ds xs
structure EndsOk(X:Cx)(ρ:Rho)(H:Hp)(P:Po)(E:Ends):Prop where
 nx:∀ρ' σ' H',P.nx ρ'->Rep X.K ρ' σ' H'->Fr0 ρ ρ' H H'->E.nx σ' H'
 bk:∀ρ' σ' H',P.bk ρ'->Rep X.K ρ' σ' H'->Fr0 ρ ρ' H H'->E.bk σ' H'
 ct:∀ρ' σ' H',P.ct ρ'->Rep X.K ρ' σ' H'->Fr0 ρ ρ' H H'->E.ct σ' H'
 rt:∀r v H',P.rt r->Bv X.K ρ H H' v r->E.rt v H'
 ex:∀x ρ' σ' H',P.ex x ρ'->Rep X.K ρ' σ' H'->Fr0 ρ ρ' H H'->W4 X σ' H' x
theorem Bv.step{K:k5k}{ρ ρ1:Rho}{H H1 H':Hp}{v:V}{r:Rt}(f:Fr0 ρ ρ1 H H1)(h:Bv K ρ1 H1 H' v r):Bv K ρ H H' v r:=by
 cases r with
 |val d=>exact⟨f.trans h.1,h.2⟩
 |fresh ds=>obtain⟨a,xs,e,g,m,l⟩:=h;exact⟨a,xs,e,f.trans g,m,l⟩
theorem EndsOk.step{X:Cx}{ρ ρ1:Rho}{H H1:Hp}{P:Po}{E:Ends}(h:EndsOk X ρ H P E)(f:Fr0 ρ ρ1 H H1):EndsOk X ρ1 H1 P E :=
 ⟨λρ' σ' H' n R g=>h.nx ρ' σ' H' n R (f.trans g),λρ' σ' H' n R g=>h.bk ρ' σ' H' n R (f.trans g),λρ' σ' H' n R g=>h.ct ρ' σ' H' n R (f.trans g),λr v H' n g=>h.rt r v H' n (Bv.step f g),λx ρ' σ' H' n R g=>h.ex x ρ' σ' H' n R (f.trans g)⟩
theorem Fr0.grow{ρ:Rho}{H H':Hp}(g:j4 H H'):Fr0 ρ ρ H H':=jf g
theorem Fr0.refl(ρ:Rho)(H:Hp):Fr0 ρ ρ H H:=j4.refl _
theorem Fr0.drop{ρ ρ':Rho}{H:Hp}(h:∀b∈owns ρ',b∈owns ρ):Fr0 ρ ρ' H H:=v9 h
theorem Fr0.new{ρ:Rho}{H H':Hp}{i:Nat}{a:ak}{ds:List D}{K:k5k}{σ:St}(R:Rep K ρ σ H)(g:j4 H H')(n:H a=ah):Fr0 ρ (ρ.set i (.own a ds)) H H':=λb o q=>by
 obtain⟨nb,q⟩:=of_del q;rw[j5];exact g b o q;intro z;rcases(Ql (ds:=ds) (i:=i) R.nd (R.fresh n)).2 b z with e|z
 .subst e;rw[n]at q;cases q
 .exact nb z
def DS(X:Cx)(ρ:Rho)(st:aP)(P:Po):Prop:=∀σ H E,Rep X.K ρ σ H->EndsOk X ρ H P E->j4y X st E σ H
def DSs(X:Cx)(ρ:Rho)(sts:List aP)(P:Po):Prop:=∀σ H E,Rep X.K ρ σ H->EndsOk X ρ H P E->Z4 X sts E σ H
section
variable{X:Cx}{ρ:Rho}{e a b c:ar}{es:List ar}{st:aP}{rest sa sb body:List aP}{P:Po}{d:D}{ds ds':List D}{pos p p1 p2 p3:aQ}{x:ao}{i:Nat}
theorem DSs.nil(h:P.nx ρ):DSs X ρ [] P:=λσ H E R q=>Y6.to (q.nx ρ σ H h R (Fr0.refl ρ H))
theorem DSs.cons{N:Rho->Prop}(h1:DS X ρ st { P with nx:=N })(h2:∀ρ1,N ρ1->DSs X ρ1 rest P):DSs X ρ (st::rest) P:=λσ H E R q =>(vf psS J6).to (h1 σ H { E with nx:=Z4 X rest E } R ⟨λρ' σ' H' n R' f=>h2 ρ' n σ' H' E R' (q.step f),q.bk,q.ct,q.rt,q.ex⟩)
theorem DSs.freeze(i:Nat){l:ak}(h:ρ[i]?=ae (.own l ds))(h2:DSs X (ρ.set i (.val (.lst ds))) body P):DSs X ρ body P:=λσ H E R q =>h2 σ H E (R.freeze h) (q.step (.drop λb hb=>(jd rfl).subset hb))
theorem DS.set(i:Nat)(he:DE X ρ e d)(h:P.nx (ρ.set i (.val d)))(hN:X.N.Nodup)(hi:X.N[i]?=ae x:=by rfl)(hx:Loc X.env.scope x:=by first|exact b8 rfl|exact cu rfl)
  (hs:aR e (ae (.Name x p)) pos.line X.env=pure af:=by rfl) (hf:X.fn x=ag\/X.env.scope.names.lookup x=ae .local:=by first|exact .inl rfl|exact .inr rfl):DS X ρ (.Assign [.Name x p] e pos) P:=λσ H E R q =>
 (Zd hN hi hx peS hs hf).to (he σ H _ R λv H1 g1 e1=>q.nx _ _ H1 h ((R.grow g1).set_val e1) (j4.trans (Fr0.grow g1) (Fr0.drop λb hb=>(jd rfl).subset hb)))
theorem DS.setO(i:Nat)(he:DO X ρ e ds)(h:∀l,P.nx (ρ.set i (.own l ds)))(hN:X.N.Nodup)(hi:X.N[i]?=ae x:=by rfl)(hx:Loc X.env.scope x:=by first|exact b8 rfl|exact cu rfl)
  (hs:aR e (ae (.Name x p)) pos.line X.env=pure af:=by rfl) (hf:X.fn x=ag\/X.env.scope.names.lookup x=ae .local:=by first|exact .inl rfl|exact .inr rfl):DS X ρ (.Assign [.Name x p] e pos) P:=λσ H E R q =>
 (Zd hN hi hx peS hs hf).to (he σ H _ R λl xs H1 g1 n m e1=>q.nx _ _ H1 (h l) (R.set_own g1 n m e1) (.new R g1 n))
theorem DS.if{k:Bool}(hc:DB X ρ c k)(ha:k=ag->DSs X ρ sa P)(hb:k=af->DSs X ρ sb P):DS X ρ (.If c sa sb pos) P:=λσ H E R q =>
 (Dg ptS J6 J6).to (hc σ H _ R λH1 g1=>by
  cases k with
  |true=>exact Bb (ha rfl σ H1 E (R.grow g1) (q.step (.grow g1)))
  |false=>exact Bc (hb rfl σ H1 E (R.grow g1) (q.step (.grow g1))))
theorem DS.ret(he:DT X ρ e d)(h:P.rt (.val d)):DS X ρ (.Return (ae e) pos) P:=λσ H E R q =>(Ze peS).to (he σ H _ R λv H1 g1 e1=>q.rt _ v H1 h ⟨qb.trans g1,e1⟩)
theorem DS.retO(he:DO X ρ e ds)(h:P.rt (.fresh ds)):DS X ρ (.Return (ae e) pos) P:=λσ H E R q =>
 (Ze peS).to (he σ H _ R λl xs H1 g1 n m e1=>q.rt _ _ H1 h ⟨l,xs,rfl,(λb o z=>by
  obtain⟨nb,z⟩:=of_del z
  rw[j5];exact g1 b o z
  intro y;rw[xm.mp y,n]at z;cases z),m,e1.mono (v9 λb hb=>by rw[xm.mp hb];exact xg ..)⟩)
theorem DS.retV(k:Nat){l:ak}(hk:ρ[k]?=ae (.own l ds))(h:P.rt (.fresh ds))(hN:X.N[k]?=ae x:=by rfl)(hv:Vis X.env.scope x:=by first|exact b8 rfl|exact cu (b8 rfl)|exact cu (cu rfl))
  (hd:(x==k5o)=af:=by decide) (hcd:(x==k5p)=af:=by decide):DS X ρ (.Return (ae (.Name x p)) pos) P:=λσ H E R q=>by
 obtain⟨hs,xs,m,en⟩:=R.own k l ds hk;have g:j4 (del H (owns ρ)) (del H [l]):=v9 λb hb=>by rw[xm.mp hb];exact Qw hk
 exact(Ze (qt hN hv hd hcd)).to ⟨_,hs,q.rt _ _ H h ⟨l,xs,rfl,g,m,en.mono g⟩⟩
theorem DS.expr(he:DT X ρ e d)(h:P.nx ρ)(hs:aR e ah pos.line X.env=pure af:=by rfl):DS X ρ (.Expr e pos) P:=λσ H E R q =>(Ow peS hs).to (he σ H _ R λv H1 g1 e1=>q.nx ρ σ H1 h (R.grow g1) (.grow g1))
theorem jdm{σ:St}{H H':Hp}{l:ak}{o:HO}(hk:ρ[i]?=ae (.own l ds))(g:j4 H H'):Fr0 ρ (ρ.set i (.own l ds')) H (upd H' l o):=by unfold Fr0;rw[Zn hk,Yc (Qw hk)];exact jf g
theorem DS.append(i:Nat){l:ak}(hk:ρ[i]?=ae (.own l ds))(he:DE X ρ e d)(hl:ds.length<aw)(h:P.nx (ρ.set i (.own l (ds++[d]))))
  (hN:X.N[i]?=ae x:=by rfl) (hv:Vis X.env.scope x:=by first|exact b8 rfl|exact cu (b8 rfl)|exact cu (cu rfl)) (hd:(x==k5o)=af:=by decide) (hcd:(x==k5p)=af:=by decide)
  (hst:ai [e] X.env=[(af,aH e X.env)]:=by rfl) (hline:(p1.endLine==p2.line)=ag:=by rfl)
  (hbase:bu (.Name x p) "append" X.env (aH (.Name x p) X.env)=aH (.Name x p) X.env:=by rfl) (hfew:((aV p2 (ai [e] X.env)).all (λx=>!x.1)&&(d4 p2 (bS [] X.env)).all (λx=>x.1.isSome)
   && decide (([e]:List ar).length+([]:List bW).length+(if ([]:List bW).isEmpty then 0 else 1)<30))=ag:=by rfl)
  (hs:aR (.Call (.Attribute (.Name x p) "append" p1) [e] [] p2) ah pos.line X.env=pure af:=by rfl) :
  DS X ρ (.Expr (.Call (.Attribute (.Name x p) "append" p1) [e] [] p2) pos) P:=λσ H E R q=>by
 obtain⟨hσ,xs,m,en⟩:=R.own i l ds hk;refine(Ow (Di PySem.F.plainAttrs_list fE PySem.F.type_list_append Ng (qt hN hv hd hcd) (j9 peS ju hst) hbase hfew hline hst rfl) hs).to ?_;refine⟨_,hσ,.inl ⟨rfl,xs,.inl (.inl m)⟩,he σ H _ R λv H1 g1 e1=>⟨l,xs,v,rfl,rfl,g1 _ _ m,by rw[en.length];exact hl,?_⟩⟩;exact q.nx _ σ _ h ((R.grow g1).upd_own hk ((en.mono (jf g1)).append (.one e1))) (jdm (σ:=σ) hk g1)
def W5(K:k5k)(F:Hp)(J:It)(ds:List D):Prop:=∀(i:Nat)(H:Hp)(A:List ak),j4 F (del H A)->(∀a∈A,H a≠ah) ->
 (i<ds.length->J.go i H)/\(ds.length<=i->J.stop i H)/\∀x H',J.yld i H x H'->j4 H H'/\∀d,ds[i]?=ae d->Enc K (del H' A) d x
def DI(X:Cx)(ρ:Rho)(tg it:ar)(ds:List D):Prop:=∀σ H R,Rep X.K ρ σ H->(∀J H',j4 H H'->W5 X.K (del H' (owns ρ)) J ds->R J H')->j4z X tg it σ H R
variable{tg it:ar}
theorem j36{K:k5k}{F:Hp}{l:ak}{xs:List V}(sq:SqL K F l xs)(en:j6 K F ds xs):W5 K F (Itl K l) ds:=λi H A g hA=>by
 have sq':SqL K H l xs:=qb.seq (g.seq sq);refine⟨λh=>?_,λh=>⟨xs,sq',by rw[en.length];exact h⟩,λx H' ⟨e,y⟩=>?_⟩
 .obtain⟨v,hv,_⟩:=en.get (kh h);exact⟨xs,v,sq',hv⟩
 .subst e;refine⟨j4.refl _,λd hd=>?_⟩;obtain⟨v,hv,ev⟩:=en.get hd;have e:=y xs sq';rw[hv]at e;cases e;exact ev.mono g
theorem j5z{K:k5k}{F:Hp}{l:ak}{xs:List V}(sq:SqT K F l xs)(en:j6 K F ds xs):W5 K F (Itt K l) ds:=λi H A g hA=>by
 have sq':SqT K H l xs:=qb.seqT (g.seqT sq);refine⟨λh=>?_,λh=>⟨xs,sq',by rw[en.length];exact h⟩,λx H' ⟨e,y⟩=>?_⟩
 .obtain⟨v,hv,_⟩:=en.get (kh h);exact⟨xs,v,sq',hv⟩
 .subst e;refine⟨j4.refl _,λd hd=>?_⟩;obtain⟨v,hv,ev⟩:=en.get hd;have e:=y xs sq';rw[hv]at e;cases e;exact ev.mono g
theorem DI.lst(h:DE X ρ it (.lst ds)):DI X ρ tg it ds:=λσ H R r q=>(j93 peS).to (h σ H _ r λv H1 g1 ⟨l,xs,e,sq,en⟩=>⟨l,e,⟨xs,qb.seq sq⟩,q _ H1 g1 (j36 sq en)⟩)
theorem DI.tup(h:DE X ρ it (.tup ds)):DI X ρ tg it ds:=λσ H R r q=>(jc1 peS).to (h σ H _ r λv H1 g1 ⟨l,xs,e,sq,en⟩=>⟨l,e,⟨xs,qb.seqT sq⟩,q _ H1 g1 (j5z sq en)⟩)
noncomputable def upto(lo:Int)(n:Nat):List D:=(aS n).map λk=>D.int (lo+(k:Nat))
theorem Mw{K:k5k}{F:Hp}(lo:Int)(n:Nat):W5 K F (Itr lo n) (upto lo n):=λi H A g hA=>by
 have hl:(upto lo n).length=n:=by unfold upto;rw[xj,cS]
 rw[hl];refine⟨λh=>h,λh=>h,λx H' ⟨e,y⟩=>?_⟩;subst e;refine⟨j4.refl _,λd hd=>?_⟩;unfold upto at hd;rw[Xi]at hd;cases z:(aS n)[i]? with
 |none=>rw[z]at hd;cases hd
 |some k =>
  rw[z]at hd;have ek:k=i:=by have:=List.getElem?_range (n:=n) (i:=i) (by have:=(Xn.mp z).1;rwa [cS]at this);rw[this]at z;exact(aD z).symm
  subst ek;cases hd;exact y
theorem DI.range1 {n:Int} (h:DT X ρ a (.int n)) (hm:X.mg "range" = ah) (h1:-(2^62)<=n) (h2:n<2^62) (hg:Gl X "range":=by rfl) (hs:ai [a] X.env=[(af,aH a X.env)]:=by rfl):DI X ρ tg (.Call (.Name "range" p) [a] [] pos) (upto 0 n.toNat):=λσ H R r q =>(j2i hg hm (j9 peS ju hs) hs).to (h σ H _ r λv H1 g1 e=>⟨n,by rw[show v=.int n from e],h1,h2,q _ H1 g1 (Mw 0 _)⟩)
theorem DI.range2 {m n:Int} (h:DT X ρ a (.int m)) (h':DT X ρ b (.int n)) (hm:X.mg "range" = ah) (h1:-(2^62)<=m) (h2:m<2^62) (h3:-(2^62)<=n) (h4:n<2^62) (hg:Gl X "range":=by rfl) (hs:ai [a,b] X.env=[(af,aH a X.env),(af,aH b X.env)]:=by rfl)
  (hs2:ai [b] X.env=[(af,aH b X.env)]:=by rfl) (hs3:ai [a,b] X.env=(af,aH a X.env)::ai [b] X.env:=by rfl):DI X ρ tg (.Call (.Name "range" p) [a,b] [] pos) (upto m (n-m).toNat):=λσ H R r q =>
 (j2h hg hm (j9 peS (j9 peS ju hs2) hs3) hs hs2).to (h σ H _ r λv H1 g1 e=>h' σ H1 _ (r.grow g1) λu H2 g2 e2=>⟨m,n,by rw[show v=.int m from e,show u=.int n from e2],⟨h1,h2,h3,h4⟩,q _ H2 (g1.trans g2) (Mw m _)⟩)
def j50(X:Cx)(tg:ar):TG:=λv σ H Q=>∀pins s u,Inv X pins σ H s->RelV v u->aC (aB X.prog X.w) X.A (fJ tg X.env u) (λ_ s'=>∃σ' H',Inv X pins σ' H' s'/\Q σ' H') X.xe s
theorem pgS:PG X tg (j50 X tg):=λpins s σ H v u Q I r h=>h pins s u I r
theorem PG.to{t:TG}{σ:St}{H:Hp}{v:V}{Q:St->Hp->Prop}(h:PG X tg t)(q:t v σ H Q):j50 X tg v σ H Q:=λpins s u I r=>h pins s σ H v u Q I r q
def DG(X:Cx)(ρ:Rho)(tg:ar)(d:D)(ρ':Rho):Prop:=(∀b∈owns ρ',b∈owns ρ)/\∀σ H v Q,Rep X.K ρ σ H->Enc X.K (del H (owns ρ)) d v->(∀σ',Rep X.K ρ' σ' H->Q σ' H)->j50 X tg v σ H Q
theorem DG.name(i:Nat)(hN:X.N.Nodup)(hi:X.N[i]?=ae x:=by rfl)(hx:Loc X.env.scope x:=by first|exact b8 rfl|exact cu rfl)(hf:X.fn x=ag\/X.env.scope.names.lookup x=ae .local:=by first|exact .inl rfl|exact .inr rfl):DG X ρ (.Name x p) d (ρ.set i (.val d)) :=
 ⟨λb hb=>(jd rfl).subset hb,λσ H v Q R en q=>(j94 hN hi hx hf).to (q _ (R.set_val en))⟩
theorem DS.for(W:Nat->Rho->Prop)(hi:DI X ρ tg it ds)(h0:W 0 ρ)(hs:∀i d ρ',ds[i]?=ae d->W i ρ'->∃ρ2,DG X ρ' tg d ρ2/\DSs X ρ2 body { nx:=W (i+1),rt:=P.rt,bk:=P.nx,ct:=W (i+1),ex:=P.ex })
  (hd:∀ρ',W ds.length ρ'->P.nx ρ') (hc:X.calm=ag) (hp:eX (aB X.prog X.w) X.A X.env X.xe) (hf:∀x,aW it X.env x=pure x:=by intro _;rfl):DS X ρ (.For tg it body [] pos) P:=λσ H E R q=>by
 refine(jbz hp hc piS pgS J6 hf).to (hi σ H _ R λJ H1 g1 ok=>?_);refine⟨λi m σ' H'=>∃ρ',W i ρ'/\Rep X.K ρ' σ' H'/\Fr0 ρ ρ' H1 H'/\m=ds.length-i/\i<=ds.length,⟨ds.length,ρ,h0,R.grow g1,Fr0.refl _ _,rfl,cW _⟩,?_⟩;rintro i m σ' H' ⟨ρ',w,R',f,rfl,hle⟩;obtain⟨go,stop,yld⟩:=ok i H' (owns ρ') f λa ha=>by obtain⟨xs,e⟩:=R'.owned a ha;rw[e];simp
 by_cases hlt:i<ds.length
 .refine .inr ⟨go hlt,λσ2 H2=>∃ρ2,W (i+1) ρ2/\Rep X.K ρ2 σ2 H2/\Fr0 ρ ρ2 H1 H2,λσ2 H2 ⟨ρ2,w2,R2,f2⟩=>⟨ds.length-(i+1),by omega,ρ2,w2,R2,f2,rfl,hlt⟩,λx H2 y=>?_⟩;obtain⟨g2,en⟩:=yld x H2 y;obtain⟨ρ2,⟨sub,hG⟩,hB⟩:=hs i ds[i] ρ' (kh hlt) w;refine hG σ' H2 x _ (R'.grow g2) (en _ (kh hlt)) λσ3 R3=>?_;have f2:Fr0 ρ ρ2 H1 H2:=j4.trans f (j4.trans (Fr0.grow g2) (Fr0.drop sub));refine hB σ3 H2 _ R3 ⟨λρ3 σ4 H4 n R4 f4=>⟨ρ3,n,R4,f2.trans f4⟩,λρ3 σ4 H4 n R4 f4=>q.nx ρ3 σ4 H4 n R4 ((Fr0.grow g1).trans (f2.trans f4)),λρ3 σ4 H4 n R4 f4=>⟨ρ3,n,R4,f2.trans f4⟩,λr v H4 n z=>q.rt r v H4 n (Bv.step ((Fr0.grow g1).trans f2) z),λx ρ3 σ4 H4 n R4 f4=>q.ex x ρ3 σ4 H4 n R4 ((Fr0.grow g1).trans (f2.trans f4))⟩
 .have e:i=ds.length:=by omega
  subst e;exact .inl ⟨stop (X4 _),q.nx ρ' σ' H' (hd ρ' w) R' ((Fr0.grow g1).trans f)⟩
end
noncomputable def qg(N:List ao)(ds:List D):Rho:=ds.map Sl.val++ax (N.length-ds.length) Sl.un
theorem Q5(N:List ao)(ds:List D):owns (qg N ds)=[]:=by
 unfold owns qg;rw[List.filterMap_append];have h1:(ds.map Sl.val).filterMap Sl.addr=[]:=List.filterMap_eq_nil_iff.mpr λs hs=>by obtain⟨d,_,rfl⟩:=Xr.mp hs;rfl
 have h2:(ax (N.length-ds.length) Sl.un).filterMap Sl.addr=[]:=List.filterMap_eq_nil_iff.mpr λs hs=>by rw[(T4.mp hs).2];rfl
 rw[h1,h2];rfl
theorem Zc{K:k5k}{H:Hp}{N:List ao}{ds:List D}{vs:List V}(tb:TabOk K H)(h:j6 K H ds vs):Rep K (qg N ds) (start N vs) H:=by
 have ho:=Q5 N ds;have hl:=h.length;refine⟨by unfold qg start;simp[hl],λi d e=>?_,λi a l e=>?_,by rw[ho];exact eS,λi a o y e=>?_,tb⟩
 .rw[ho,vd];unfold qg at e;by_cases z:i<ds.length
  .rw[Pg (by simpa using z),Xi]at e;rw[kh z]at e;cases e;obtain⟨v,hv,en⟩:=h.get (kh z);refine⟨v,?_,en⟩;unfold start;rw[Pg (by rw[xj,hl];exact z),Xi,hv];rfl
  .rw[cJ (by simpa using z)]at e;have:=Xq e;cases(T4.mp this).2
 .have:=Qw e;rw[ho]at this;cases this
 .unfold qg at e;rcases Xp.mp (Xq e)with z|z
  .obtain⟨d,_,q⟩:=Xr.mp z;cases q
  .cases(T4.mp z).2
section
variable{P:ay}{w:aE}{K:k5k}{mg:k5n}{base:aK}{x qual:ao}{st:aP}{f:ak}{fd:aL}{N ps:List ao}{k:Nat}
def Vx(K:k5k)(f:ak)(cdv:aj):Prop:=∃(oc:aj)(od:Option ak)(fd:aL)(sl:Array (Option aj)),K.lookup f=ae ⟨oc,od,.func fd,sl⟩/\fd.code=cdv
theorem Fun.okC{sp:Sp}(F:Fun K x qual st f fd)(S:FnScope N ps (j0 st))(len:∀vs H Q E,sp vs H Q E->vs.length=ps.length)
  (hbody:∀(cdv:aj)(A:aF)(outer:List cG)(s:aq)(H:Hp)(vs:List V)(Q:VK) (E:XK),Vx K f cdv->Room k (A.deeper (bg qual (j0 st) s.heap.objs.size f cdv))->sp vs H Q E ->
   ∃t,PSs (ql CX0 P w K mg base N qual (j0 st) f cdv A outer s H E).nox (jb st) t/\t { nx:=λ_ H'=>Q .non H',rt:=Q } (start N vs) H):FnOk P w K mg base CX0 (k+1) f fd ps sp:=by
 obtain⟨oc,od,dV,kV,doc,pm,an,cdv,ct,osl,rfl,lk,hcd⟩:=F.ex;refine Dm lk hcd S len λA outer s H vs Q E hr hsp=>?_;obtain⟨t,h,q⟩:=hbody cdv A outer s H vs Q E ⟨oc,od,_,osl,lk,rfl⟩ hr hsp;exact⟨t,h.nox,q⟩
theorem Bk{S:List D->D->Prop}(F:Fun K x qual st f fd)(Sc:FnScope N ps (j0 st))(hl:∀ds d,S ds d->ds.length=ps.length)
  (hbody:∀(cdv:aj)(A:aF)(outer:List cG)(s:aq)(H:Hp)(E:XK),Vx K f cdv->Room k (A.deeper (bg qual (j0 st) s.heap.objs.size f cdv))->∀ds d,S ds d ->
   DSs (ql CX0 P w K mg base N qual (j0 st) f cdv A outer s H E).nox (qg N ds) (jb st) { nx:=λ_=>d=.non,rt:=λr=>r.d=d }):FnOk P w K mg base CX0 (k+1) f fd ps (spP K S):=by
 refine FnOk.toP (F.okC Sc (λvs H Q E ⟨ds,d,tb,en,hS,_⟩=>by rw[en.length];exact hl ds d hS) λcdv A outer s H vs Q E hcv hr ⟨ds,d,tb,en,hS,q⟩=>⟨_,J6,?_⟩);have ho:=Q5 N ds;refine hbody cdv A outer s H E hcv hr ds d hS (start N vs) H _ (Zc tb en) ⟨λρ' σ' H' n R f=>?_,λ_ _ _ z=>z.elim,λ_ _ _ z=>z.elim,λr v H' n z=>?_,λ_ _ _ _ z=>z.elim⟩
 .subst n;unfold Fr0 at f;rw[ho,vd]at f;exact q _ H' (f.trans qb) rfl
 .cases r with
  |val d' =>cases(show d'=d from n);obtain⟨g,en'⟩:=z;rw[ho,vd]at g;exact q v H' g en'
  |fresh l =>cases(show D.lst l=d from n);obtain⟨a,xs,e,g,m,en'⟩:=z;rw[ho,vd]at g;exact q v H' (g.trans qb) ⟨a,xs,e,.inl (.inl m),en'.mono qb⟩
theorem j6j{S:List D->List D->Prop}(F:Fun K x qual st f fd)(Sc:FnScope N ps (j0 st))(hl:∀ds d,S ds d->ds.length=ps.length)
  (hbody:∀(cdv:aj)(A:aF)(outer:List cG)(s:aq)(H:Hp)(E:XK),Vx K f cdv->Room k (A.deeper (bg qual (j0 st) s.heap.objs.size f cdv))->∀ds l,S ds l ->
   DSs (ql CX0 P w K mg base N qual (j0 st) f cdv A outer s H E).nox (qg N ds) (jb st) { nx:=λ_=>False,rt:=λr=>r=.fresh l }):FnOk P w K mg base CX0 (k+1) f fd ps (spF K S):=by
 refine FnOk.toF (F.okC Sc (λvs H Q E ⟨ds,d,tb,en,hS,_⟩=>by rw[en.length];exact hl ds d hS) λcdv A outer s H vs Q E hcv hr ⟨ds,l,tb,en,hS,q⟩=>⟨_,J6,?_⟩);have ho:=Q5 N ds;refine hbody cdv A outer s H E hcv hr ds l hS (start N vs) H _ (Zc tb en) ⟨λρ' σ' H' n R f=>n.elim,λ_ _ _ z=>z.elim,λ_ _ _ z=>z.elim,λr v H' n z=>?_,λ_ _ _ _ z=>z.elim⟩;cases(show r=.fresh l from n);obtain⟨a,xs,e,g,m,en'⟩:=z;rw[ho,vd]at g;subst e;refine q a xs H' (g.trans qb) ?_ m en';cases y:H a with
 |none=>rfl
 |some o=>have:=g a o y;rw[zc (xm.mpr rfl)]at this;cases this
end
section
variable{prog:ay}{w:aE}{A:aF}{R:dN->aq->Prop}{s:aq}
theorem K8{elt target iter:ar}{ifs:List ar}{scope:bh}{pos:aQ}{it acc:aj}{env:cG}(I:Nat->aq->Prop)
  (turn:∀n s,I n s->aC (aB prog w) A (pyNext it) (λr s₁=>match r with
   |none=>R (.ok .next) s₁
   |some v=>aC (aB prog w) A (dB target it v) (λ_ s₁'=>aC (aB prog w) A (fJ target env v) (λ_ s₂ =>
     aC (aB prog w) A (forIn ifs ag λc r=>if r=ag then do let ok <-dz c env (aH c env);pure (bP ok)else pure (bP r)) (λok s₃ =>
      if ok=ag then aC (aB prog w) A (aH elt env) (λx s₄ =>
       aC (aB prog w) A (call (.builtin "list.append") [acc,x]) (λ_ s₅=>∃m,m<n/\I m s₅) (λ_ _=>False) s₄) (λ_ _=>False) s₃
      else ∃m,m<n/\I m s₃) (λ_ _=>False) s₂) (λ_ _=>False) s₁') (λ_ _=>False) s₁) (λ_ _=>False) s)
  (n:Nat) (h:I n s) :
  c9 (aB prog w) A (.compLoop (.ListComp elt [⟨target,iter,ifs,0⟩] scope pos) 0 it acc env) R s:=by
 refine codeAny_loop rfl I (λn s hI=>?_) n h;show aC _ A ((compTurn (.ListComp elt [⟨target,iter,ifs,0⟩] scope pos) 0 it acc env).onRaise (λx=>do eV x env;theTreesLotGoes x)) _ _ s;refine wpAny_noted ?_;rw[compTurn_list];refine az (fX (az (b9 (turn n s hI) (λr s₁ h₁=>?_) λ_ _ h'=>h'.elim)));cases r with
 |none=>exact aG h₁
 |some v =>
  refine az (b9 h₁ (λ_ s₁' h₁'=>?_) λ_ _ h'=>h'.elim);refine az (b9 h₁' (λ_ s₂ h₂=>az (b9 h₂ (λok s₃ h₃=>?_) λ_ _ h'=>h'.elim)) λ_ _ h'=>h'.elim);cases ok with
  |false=>exact aG ⟨rfl,h₃⟩
  |true =>exact az (az (b9 h₃ (λx s₄ h₄=>az (b9 h₄ (λ_ s₅ h₅=>aG (aG ⟨rfl,h₅⟩)) λ_ _ h'=>h'.elim)) λ_ _ h'=>h'.elim))
end
noncomputable def zu(env:cG):List (ao×bp)->List (ao×ak)->List (ao×ak)
 |[],acc=>acc
 |(n,k)::r,acc=>zu env r (if k==.free then(match env.cells.lookup n with|some a=>(n,a)::acc|none=>acc)else acc)
theorem O7{scope:bh}{env:cG}(h:∀y∈scope.names,y.2=.free->(env.cells.lookup y.1).isSome=ag):closureFor scope env=pure (zu env scope.names []):=by
 simp only[closureFor];have step:∀(names:List (ao×bp)) (acc:List (ao×ak)),(∀y∈names,y.2=.free->(env.cells.lookup y.1).isSome=ag) ->
   (forIn names acc (λx r=>(do if (x.2==bc)=ag then(do let a <-cellOf env x.1;pure (bP ((x.1,a)::r)))else pure (bP r):iB _)):iB _)=pure (zu env names acc):=by
  intro names;induction names with
  |nil=>intro acc _;rfl
  |cons y r ih =>
   intro acc hy;obtain⟨n,k⟩:=y;rw[List.forIn_cons];by_cases e:(k==bc)=ag
   .have hk:k=.free:=by simpa using e
    have hs:=hy (n,k) (xg ..) hk;obtain⟨a,ha⟩:=Xg.mp hs;have hc:cellOf env n=pure a:=by unfold cellOf;rw[ha]
    simp only[e,if_true,hc,pure_bind];rw[ih _ λz hz=>hy z (kj _ hz)];simp only[zu,e,if_true,ha]
   .have e':(k==bc)=af:=by simpa using e
    simp only[e',T5,if_false,pure_bind];rw[ih _ λz hz=>hy z (kj _ hz)];simp only[zu,e',T5,if_false]
 have:=step scope.names [] h;rw[show(forIn scope.names ([]:List (ao×ak)) λx r=>_)=_ from this];rfl
theorem Fd{env:cG}{y:ao}{c:ak}:∀{names:List (ao×bp)} {acc:List (ao×ak)},(∀y c,acc.lookup y=ae c->env.cells.lookup y=ae c)->(zu env names acc).lookup y=ae c->env.cells.lookup y=ae c
 |[],acc,h,q=>h y c q
 |(n,k)::r,acc,h,q=>by
  unfold zu at q;refine Fd (acc:=_) ?_ q;intro z d hz;split at hz
  .split at hz
   .rename_i a ha;rw[Xb]at hz;split at hz
    .rename_i e;have e':z=n:=by simpa using e
     subst e';cases hz;exact ha
    .exact h z d hz
   .exact h z d hz
  .exact h z d hz
theorem O8{env:cG}{y:ao}:∀{names:List (ao×bp)} {acc:List (ao×ak)},(acc.lookup y).isSome=ag->((zu env names acc).lookup y).isSome=ag
 |[],acc,h=>h
 |(n,k)::r,acc,h=>by
  unfold zu;refine O8 ?_;split
  .split
   .rw[Xb];split
    .rfl
    .exact h
   .exact h
  .exact h
theorem U0{env:cG}{y:ao}(hs:(env.cells.lookup y).isSome=ag):∀{names:List (ao×bp)} {acc:List (ao×ak)},(y,bc)∈names->((zu env names acc).lookup y).isSome=ag
 |[],acc,h=>nomatch h
 |(n,k)::r,acc,h=>by
  unfold zu;rcases km.mp h with e|h
  .cases e;refine O8 ?_;obtain⟨a,ha⟩:=Xg.mp hs;rw[if_pos (by rfl),ha];rw[Xb];simp
  .exact U0 hs h
noncomputable def J9(scope:bh)(env:cG)(N:List ao)(cs:List Nat):Bool :=
 scope.names.all (λy=>(y.2 != .cell || scope.names.lookup y.1==ae .cell)&&(y.2 != .local || scope.names.lookup y.1==ae .local)&&(y.2 != .free || ((env.cells.lookup y.1).isSome&&(env.kindOf y.1==ae .cell || env.kindOf y.1==ae .free)))) &&
 (aS N.length).all (λj=>cs.contains j || (match N[j]? with|some y=>scope.names.lookup y != ae .local&&scope.names.lookup y != ae .cell|none=>ag))
theorem lookup_mem{α β:Type}[BEq α][LawfulBEq α]{l:List (α×β)}{a:α}{b:β}(h:l.lookup a=ae b):(a,b)∈l:=by
 induction l with
 |nil=>cases h
 |cons x r ih =>
  obtain⟨c,d⟩:=x;rw[Xb]at h;split at h
  .rename_i e;cases h;have e':a=c:=by simpa using e
   subst e';exact xg ..
  .exact kj _ (ih h)
theorem J0{env:cG}{x:ao}{k':bp}:∀{names:List (ao×bp)},
  (names.map λ(n,k)=>if (k==bc&&env.scope.kind==.function&&env.kindOf n==ae .cell) then(n,bC) else(n,k)).lookup x=ae k' ->
  ∃k,names.lookup x=ae k/\(k'=k\/(k=.free/\k'=.cell))
 |[],h=>by cases h
 |(n,k)::r,h=>by
  rw[X5]at h;rw[Xb];by_cases hc:(k==bc&&env.scope.kind==.function&&env.kindOf n==ae .cell)=ag
  .dsimp only at h;rw[if_pos hc,Xb]at h;cases e:x==n with
   |true =>
    rw[e]at h;cases h;have:(k==bc)=ag:=by
     cases z:k==bc with
     |true=>rfl
     |false=>rw[z]at hc;simp at hc
    exact⟨k,rfl,.inr ⟨by simpa using this,rfl⟩⟩
   |false=>rw[e]at h;exact J0 h
  .dsimp only at h;rw[if_neg hc,Xb]at h;cases e:x==n with
   |true=>rw[e]at h;cases h;exact⟨_,rfl,.inl rfl⟩
   |false=>rw[e]at h;exact J0 h
theorem Ve:∀(names:List (ao×bp)) (n:Nat) (acc:List (ao×ak)),aU n names acc=aU n names []++acc
 |[],_,_=>rfl
 |(x,k)::r,n,acc=>by
  unfold aU;split
  .rw[Ve r (n+1) ((x,n)::acc),Ve r (n+1) [(x,n)],ph];rfl
  .exact Ve r n acc
theorem O9:∀{names:List (ao×bp)} {n:Nat} {x:ao} {c:ak},(x,c)∈aU n names []->(x,bC)∈names/\n<=c
 |[],_,_,_,h=>nomatch h
 |(y,k)::r,n,x,c,h=>by
  unfold aU at h;split at h
  .rename_i hk;rw[Ve]at h;rcases Xp.mp h with h|h
   .have q:=O9 h;exact⟨kj _ q.1,Nat.le_of_succ_le q.2⟩
   .cases xm.mp h;have hk:k=bC:=by simpa using hk
    subst hk;exact⟨xg ..,X4 _⟩
  .have q:=O9 h;exact⟨kj _ q.1,q.2⟩
theorem Zx{β:Type}:∀{l m:List (ao×β)} {y:ao},(l++m).lookup y=(l.lookup y).or (m.lookup y)
 |[],m,y=>rfl
 |(x,b)::r,m,y=>by
  rw[Pr,Xb,Xb];split
  .rfl
  .exact Zx
theorem Ff{names:List (ao×bp)}{n:Nat}{acc:List (ao×ak)}{y:ao}{c:ak}(h:(aU n names acc).lookup y=ae c) :
  ((y,c)∈aU n names []/\(y,bC)∈names/\n<=c)\/((aU n names []).lookup y=ah/\acc.lookup y=ae c):=by
 rw[Ve,Zx]at h;cases e:(aU n names []).lookup y with
 |some c'=>rw[e]at h;cases h;have q:=lookup_mem e;exact .inl ⟨q,O9 q⟩
 |none=>rw[e]at h;exact .inr ⟨rfl,h⟩
theorem jel{names:List (ao×bp)}{n:Nat}{acc:List (ao×ak)}{y:ao}(h:(y,bC)∉names):(aU n names acc).lookup y=acc.lookup y:=by
 rw[Ve,Zx];cases e:(aU n names []).lookup y with
 |some c'=>exact absurd (O9 (lookup_mem e)).1 h
 |none=>rfl
theorem jan{names:List (ao×bp)}{n:Nat}{acc:List (ao×ak)}{y:ao}(h:(acc.lookup y).isSome=ag):∃c,(aU n names acc).lookup y=ae c:=by
 rw[Ve,Zx];cases e:(aU n names []).lookup y with
 |some c'=>exact⟨c',rfl⟩
 |none=>obtain⟨c,hc⟩:=Xg.mp h;exact⟨c,hc⟩
theorem Ld{M:gk}{A:aF}{E:k5l}{s:aq}{scope:bh}{globals:ak}{closure:List (ao×ak)}{qual:ao}{env:cG}{Q:cG->aq->Prop}
  (hQ:Q { scope:=scope,locals:=s.heap.objs.size,globals:=globals,cells:=aU (s.heap.objs.size+1) scope.names closure,qual:=qual,func:=ah,code:=env.code,frame:=env.frame,builtins:=env.builtins }
   { s with heap:=gf (s.heap.push { cls:=.type "dict",data:=.dict #[] }) scope.names }) :
  aC M A (fH scope globals closure [] qual ah .none (ae env)) Q E s:=by
 simp only[fH,dD,if_true];refine az (wpAny_alloc ?_);refine az (wpAny_layCells _ (λname kind cells=>by cases hkc:kind==bC<;>simp[hkc]) _ _ _ _ ?_);rw[show({ s with heap:=s.heap.push { cls:=.type "dict",data:=.dict #[] } }:aq).heap.objs.size=s.heap.objs.size+1 from T3 ..];exact az (aG (aG hQ))
noncomputable abbrev cCx(X:Cx)(scope:bh)(C:ak)(s:aq)(H:Hp)(fp:List ak)(pn:k5m):Cx :=
 { X with env:=compEnvC scope (aU (C+1) scope.names (zu X.env scope.names [])) C X.env,s₀:=s,H₀:=H,outer:=X.stack,stack:=X.stack,ex:=fp,fn:=λx=>scope.names.lookup x==ae .cell,pn:=pn,xe:=λ_ _=>False }
noncomputable def Ym(scope:bh)(y:ao):Bool:=scope.names.lookup y==ae .local || scope.names.lookup y==ae .cell
theorem Qu{env:cG}:∀{names:List (ao×bp)} {x:ao},names.lookup x=ae .cell ->
  (names.map λ(n,k)=>if (k==bc&&env.scope.kind==.function&&env.kindOf n==ae .cell) then(n,bC) else(n,k)).lookup x=ae .cell
 |[],_,h=>by simp at h
 |(n,k)::r,x,h=>by
  have ih:=@Qu env r x;rw[X5];cases hx:x==n with
  |true =>simp only[Xb,hx]at h;cases h;simp[Xb,hx]
  |false =>
   simp only[Xb,hx]at h;dsimp only;by_cases hc:(k==bc&&env.scope.kind==.function&&env.kindOf n==ae .cell)=ag
   .rw[if_pos hc];simp only[Xb,hx];exact ih h
   .rw[if_neg hc];simp only[Xb,hx];exact ih h
theorem W7{X:Cx}{scope:bh}{C:ak}{s:aq}{H:Hp}{fp:List ak}{pn:k5m}{y:ao}(h:Ym scope y=ag):Loc (cCx X scope C s H fp pn).env.scope y:=by
 unfold Ym at h;rw[bX]at h;rcases h with h|h
 .exact .inl (gT (by simpa using h))
 .exact .inr (Qu (by simpa using h))
theorem M8{X:Cx}{scope:bh}{C:ak}{s:aq}{H:Hp}{fp:List ak}{pn:k5m}{y:ao}(h:Ym scope y=ag):(cCx X scope C s H fp pn).fn y=ag\/(cCx X scope C s H fp pn).env.scope.names.lookup y=ae .local:=by
 unfold Ym at h;rw[bX]at h;rcases h with h|h
 .exact .inr (gT (by simpa using h))
 .exact .inl h
def DTs(X:Cx)(ρ:Rho)(ifs:List ar)(b:Bool):Prop:=match ifs with
 |[]=>b=ag
 |[c]=>DB X ρ c b
 |_=>False
theorem DTs.nil{X:Cx}{ρ:Rho}:DTs X ρ [] ag:=rfl
theorem DTs.one{X:Cx}{ρ:Rho}{c:ar}{b:Bool}(h:DB X ρ c b):DTs X ρ [c] b:=h
theorem DTs.run{X:Cx}{ρ:Rho}{ifs:List ar}{b:Bool}(h:DTs X ρ ifs b){pins:k5m}{σ:St}{H:Hp}{s:aq}(I:Inv X pins σ H s)(R:Rep X.K ρ σ H) :
  aC (aB X.prog X.w) X.A (forIn ifs ag λc r=>if r=ag then do let ok <-dz c X.env (aH c X.env);pure (bP ok)else pure (bP r)) (λok s'=>ok=b/\∃H',Inv X pins σ H' s'/\j4 H H') X.xe s:=by
 match ifs,h with
 |[],h=>exact wpAny_tests_nil ⟨h.symm,H,I,j4.refl H⟩
 |[c],h=>exact wpAny_tests_one (thn (h σ H (λk H'=>k=b/\j4 H H') R (λH' g=>⟨rfl,g⟩) pins s I) λk s' ⟨H',I',e,g⟩=>⟨e,H',I',g⟩)
theorem Rep.weaken{K:k5k}{ρ:Rho}{σ σ':St}{H:Hp}(R:Rep K ρ σ H)(hl:σ'.length=σ.length)(h:∀(i:Nat),ρ[i]?≠ae .un->σ'[i]?=σ[i]?):Rep K ρ σ' H :=
 ⟨by rw[hl,R.len],λi d e=>let ⟨v,q,z⟩:=R.val i d e;⟨v,by rw[h i (by rw[e];simp)];exact q,z⟩,λi a ds e=>let ⟨q,z⟩:=R.own i a ds e;⟨by rw[h i (by rw[e];simp)];exact q,z⟩,R.nd,λi a o x e=>let ⟨q,z⟩:=R.raw i a o x e;⟨by rw[h i (by rw[e];simp)];exact q,z⟩,R.tb⟩
noncomputable def mask(cs:List Nat)(σ:St):St:=σ.mapIdx λj v=>if cs.contains j then ah else v
theorem Ww(cs:List Nat)(σ:St):(mask cs σ).length=σ.length:=by unfold mask;simp
theorem j5r{cs:List Nat}{σ:St}{j:Nat}{v:V}(h:(mask cs σ)[j]?=ae (ae v)):j∉cs/\σ[j]?=ae (ae v):=by
 unfold mask at h;rw[fV]at h;cases e:σ[j]? with
 |none=>rw[e]at h;cases h
 |some u =>
  rw[e]at h;have h':(if cs.contains j then ah else u)=ae v:=aD h;by_cases z:cs.contains j=ag
  .rw[if_pos z]at h';cases h'
  .rw[if_neg z]at h';subst h';exact⟨λy=>z (by simpa using y),rfl⟩
theorem j5q{cs:List Nat}{σ:St}{j:Nat}(h:j∉cs):(mask cs σ)[j]?=σ[j]?:=by
 unfold mask;rw[fV];cases e:σ[j]? with
 |none=>rfl
 |some u=>simp[h]
def Wk(ρ2 ρ:Rho):Prop:=∀K σ H,Rep K ρ2 σ H->Rep K ρ σ H
theorem Z0(H:Hp)(A B:List ak):del (del H A) B=del H (A++B):=funext λb=>by unfold del;by_cases h1:b∈A<;>by_cases h2:b∈B<;>simp[h1,h2]
structure Loose(X:Cx)(pins:k5m)(H:Hp)(C:ak):Prop where
 free:H C=ah
 loc:C≠X.env.locals
 new:X.s₀.heap.objs.size<=C
 cell:∀x c,X.env.cells.lookup x=ae c->c≠C
 pin:∀p∈X.pn++pins,p.1≠C
section
variable{X:Cx}{pins:k5m}{σ:St}{H2:Hp}{s2:aq}{ρ:Rho}{tg elt iter:ar}{ifs:List ar}{scope:bh}{pos:aQ}{ds:List D}{cs:List Nat}{p:D->Bool}{g:D->D}
theorem Nz{J:It}{fp:List ak}{it:ak}{tn:Nat->aK->Prop}(I2:Inv X pins σ H2 s2)(R2:Rep X.K ρ σ H2)(T:Turn X.prog X.w X.K tg J fp it tn)(st2:tn 0 s2.heap)(f2:∀b∈fp,W6 X pins H2 b)
  (ok:W5 X.K (del H2 (owns ρ)) J ds) (hc:X.calm=ag) (hkind:scope.kind=.function) (hok:J9 scope X.env X.N cs=ag) (hcs:∀j∈cs,ρ[j]?=ae .un) (hsz:ds.length<=aw)
  (hb:∀C s H fp pn,∀d∈ds,∃ρ2,DG (cCx X scope C s H fp pn) ρ tg d ρ2/\Wk ρ2 ρ/\owns ρ2=owns ρ/\DTs (cCx X scope C s H fp pn) ρ2 ifs (p d)/\(p d=ag->DE (cCx X scope C s H fp pn) ρ2 elt (g d)))
  {E:k5l} {RR:aj->ak->dN->aq->Prop}
  (hRR:∀D C xs H' s' m,Inv X pins σ H' s'->j4 H2 H'->H2 D=ah->H' D=ae (.lst xs)->j6 X.K (del H' (D::owns ρ)) ((ds.filter p).map g) xs->s'.heap.Ns C m->Loose X pins H' C->RR (.ref D) C (.ok .next) s') :
  aC (aB X.prog X.w) X.A (newList []) (λacc s₃=>aC (aB X.prog X.w) X.A (fH scope X.env.globals (zu X.env scope.names []) [] X.env.qual ah .none (ae X.env)) (λcenv s₄ =>
   c9 (aB X.prog X.w) X.A (.compStart (.ListComp elt [⟨tg,iter,ifs,0⟩] scope pos) 0 (.ref it) acc { cenv with scope:=relabel scope X.env }) (RR acc cenv.locals) s₄) E s₃) E s2:=by
 unfold J9 at hok;rw[X6]at hok;obtain⟨hn,hN⟩:=hok;have hn':∀y∈scope.names,(y.2=.cell->scope.names.lookup y.1=ae .cell)/\(y.2=.free->(X.env.cells.lookup y.1).isSome=ag/\(X.env.kindOf y.1=ae .cell\/X.env.kindOf y.1=ae .free)):=λy hy=>by have:=Xo.mp hn y hy;simp only[X6,bne_iff_ne,ne_eq,bX,beq_iff_eq]at this;obtain⟨⟨a,_⟩,c⟩:=this;exact⟨λe=>a.elim (λz=>absurd e z) id,λe=>c.elim (λz=>absurd e z) id⟩
 have nocell:∀{y:ao},scope.names.lookup y=ae .free->(y,bC)∉scope.names:=λ{y} h z=>by have q:=(hn' _ z).1 rfl;rw[h]at q;cases q
 have hloc:∀(j:Nat)(y:ao),X.N[j]?=ae y->j∉cs->scope.names.lookup y≠ae .local/\scope.names.lookup y≠ae .cell:=λj y hj hc=>by
  have hlt:j<X.N.length:=(Xn.mp hj).1;have:=Xo.mp hN j (Pa.mpr hlt);rw[hj]at this;simp only[bX,X6,bne_iff_ne,ne_eq]at this;rcases this with z|z
  .exact absurd (by simpa using z) hc
  .exact z
 have cl_of:∀{y:ao}{c:ak},(zu X.env scope.names []).lookup y=ae c->X.env.cells.lookup y=ae c:=λ{y c} h=>Fd (λ_ _ z=>by cases z) h;refine cj (Ld ?_);dsimp only;generalize hH2:s2.heap.push { cls:=.type "list",dict:=ah,data:=.seq ([]:List aj).toArray }=hp2;have keep1:∀b o,hp2.get? b=ae o->(gf (hp2.push { cls:=.type "dict",data:=.dict #[] }) scope.names).get? b=ae o:=λb o e=>jE _ _ b o (xu _ e);have hns₁:(gf (hp2.push { cls:=.type "dict",data:=.dict #[] }) scope.names).Ns hp2.objs.size (λ_=>ah):=(Heap.Ns.new hp2 (.type "dict")).keeps (jE _ _);have okl:=cellsFrom_ok scope.names (hp2.push { cls:=.type "dict",data:=.dict #[] }) (hp2.objs.size+1) [] ⟨λ_ _ hm=>(nomatch hm),List.Pairwise.nil⟩ (by rw[T3];exact X4 _);rw[T3]at okl;generalize gf (hp2.push { cls:=.type "dict",data:=.dict #[] }) scope.names=h₁ at keep1 hns₁ okl ⊢;have hC:hp2.objs.size=s2.heap.objs.size+1:=by rw[<-hH2,T3]
 have hDC:s2.heap.objs.size≠hp2.objs.size:=by rw[hC];exact Xc (cn _)
 have hCle:s2.heap.objs.size<=hp2.objs.size:=by rw[hC];exact Pb _
 have below:∀b,b<s2.heap.objs.size->b≠hp2.objs.size/\b≠s2.heap.objs.size:=λb hb=>⟨by rw[hC];exact Xc (eB hb),Xc hb⟩
 have old:∀b o,s2.heap.get? b=ae o->h₁.get? b=ae o:=λb o e=>keep1 b o (hH2▸xu _ e);have hacc:h₁.get? s2.heap.objs.size=ae { cls:=.type "list",dict:=ah,data:=.seq ([]:List aj).toArray }:=keep1 _ _ (hH2▸Xe _ rfl);have none_of:∀b,s2.heap.objs.size<=b->s2.heap.get? b=ah:=λb hb=>by
  cases e:s2.heap.get? b with
  |none=>rfl
  |some o'=>exact absurd (xq e) (Nat.not_lt.mpr hb)
 have hD0:H2 s2.heap.objs.size=ah:=I2.fresh;generalize hDd:s2.heap.objs.size=Dd at *;generalize hCc:hp2.objs.size=C at *;have hC0:H2 C=ah:=I2.hok.fresh (by rw[hDd];exact hCle);have pinlt:∀p∈X.pn++pins,p.1<Dd:=λp hp=>by rw[<-hDd];exact xq (I2.pin p hp).1
 have celllt:∀y c,X.env.cells.lookup y=ae c->c<Dd:=λy c h=>by obtain⟨v,o,e,_⟩:=I2.cell y c h;rw[<-hDd];exact xq e
 have loclt:X.env.locals<Dd:=by rw[<-hDd];exact I2.lt
 have fplt:∀b∈fp,b<Dd:=λb hb=>by obtain⟨o,e,_⟩:=T.obj _ _ st2 b hb;rw[<-hDd];exact xq e
 have hDlt:Dd<C:=by omega
 have cellD:∀{y:ao}{c:ak},(aU (C+1) scope.names (zu X.env scope.names [])).lookup y=ae c->((y,c)∈aU (C+1) scope.names []/\C+1<=c)\/X.env.cells.lookup y=ae c:=λ{y c} h=>by
  rcases Ff h with ⟨q,_,z⟩|⟨_,q⟩
  .exact .inl ⟨q,z⟩
  .exact .inr (cl_of q)
 have celln:∀{y:ao}{c b:ak},(aU (C+1) scope.names (zu X.env scope.names [])).lookup y=ae c->b<Dd->(∀c,X.env.cells.lookup y=ae c->c≠b)->c≠b:=λ{y c b} h hb ho=>by
  rcases cellD h with ⟨_,z⟩|q
  .exact dh (Xv hb (Xv hDlt (Td z)))
  .exact ho c q
 have okc:(cCx X scope C s2 H2 fp (X.pn++pins)).Ok:={
  mod:=I2.ok.mod
  kind:=hkind
  glob:=I2.ok.glob
  blt:=I2.ok.blt
  above:=by show s2.heap.objs.size<=C;rw[hDd];exact hCle
  inj:=λx y c h1 h2=>by
   rcases cellD h1 with ⟨m1,z1⟩|q1<;>rcases cellD h2 with ⟨m2,z2⟩|q2
   .exact name_of_addr okl.apart m1 m2
   .exact absurd (Xv (celllt y c q2) (Xv hDlt (Td z1))) (pq _)
   .exact absurd (Xv (celllt x c q1) (Xv hDlt (Td z2))) (pq _)
   .exact I2.ok.inj x y c q1 q2
  has:=λx h=>by
   have key:∀k',(relabel scope X.env).names.lookup x=ae k'->(k'=.cell\/k'=.free)->∃c,(aU (C+1) scope.names (zu X.env scope.names [])).lookup x=ae c:=λk' hk hk'=>by
    obtain⟨k,hl,e⟩:=J0 hk
    have hm:=lookup_mem hl
    have hk0:k=.free\/k=.cell:=by
     rcases e with e|e
     .subst e
      exact hk'.symm
     .exact .inl e.1
    rcases hk0 with hk0|hk0
    .subst hk0
     exact jan (U0 ((hn' _ hm).2 rfl).1 hm)
    .subst hk0
     exact Xg.mp (W.cellsFrom_some _ _ _ (.inl hl))
   rcases h with h|h
   .exact key _ h (.inl rfl)
   .exact key _ h (.inr rfl)
  cab:=λx c h h2=>by
   have hx:scope.names.lookup x=ae .cell:=by simpa using h
   show s2.heap.objs.size<=c
   rw[hDd]
   rcases Ff h2 with ⟨_,_,z⟩|⟨z,_⟩
   .exact di (Xv hDlt (Td z))
   .obtain⟨c',hc'⟩:=Xg.mp (W.cellsFrom_some scope.names (C+1) [] (.inl hx))
    rw[z]at hc';cases hc'
  hd:=I2.ok.hd
  frames:=I2.ok.frames
  stk:=.inl rfl
  exf:=λb hb=>⟨Xc (Xv (fplt b hb) hDlt),λx c h=>celln h (fplt b hb) λc q=>(f2 b hb).2.2.2.2.1 x c q⟩
  bs:=I2.bs
  bsz:=X8 I2.ok.bsz I2.sz
  noex:=λb o e hb=>by
   rcases(f2 b hb).2.2.2.1 with z|z
   .exact I2.ok.noex b o e z
   .exact absurd (xq e) (Nat.not_lt.mpr (X8 I2.ok.bsz z))
  exfs:=λb hb hf=>by
   rcases km.mp (I2.stkSub b hf)with z|z
   .exact(f2 b hb).2.1 z
   .exact(f2 b hb).2.2.1 z
  funs:=I2.stack
  frf:=I2.stkFree }
 have hpush:HOk X.prog X.w (upd H2 Dd (.lst [])) h₁:=HOk.laid I2.hok old (by rw[hDd];exact X4 _) ⟨cW _,[],_,.nil,hacc⟩;have I0:Inv (cCx X scope C s2 H2 fp (X.pn++pins)) [] (mask cs σ) (upd H2 Dd (.lst [])) { s2 with heap:=h₁ }:={
  ok:=okc
  os:=rfl
  bare:=I2.bare
  base:=Un.laid old (by rw[hDd];exact X4 _) hD0
  loc:=by
   refine⟨_,hns₁,λj y v hj hv hvis=>?_⟩
   obtain⟨hjc,hσ⟩:=j5r hv
   obtain⟨m,hm,hlook⟩:=I2.loc
   have key:∀k',(relabel scope X.env).names.lookup y=ae k'->scope.names.lookup y=ae .free:=λk' hk=>by
    obtain⟨k,hl,e⟩:=J0 hk
    have hmm:=lookup_mem hl
    have:k=.free:=by
     rcases e with e|e
     .subst e
      rcases hvis with z|z|z
      .have z:=hk.symm.trans z;cases z;exact absurd hl (hloc j y hj hjc).1
      .have z:=hk.symm.trans z;cases z;exact absurd hl (hloc j y hj hjc).2
      .have z:=hk.symm.trans z;cases z;rfl
     .exact e.1
    rw[hl,this]
   have hfree:scope.names.lookup y=ae .free:=by rcases hvis with z|z|z<;>exact key _ z
   have hmm:=lookup_mem hfree
   obtain⟨hs,hk⟩:=(hn' _ hmm).2 rfl
   have hvis':Vis X.env.scope y:=by rcases hk with z|z;exact .inr (.inl z);exact .inr (.inr z)
   obtain⟨u,ru,look⟩:=hlook j y v hj hσ hvis'
   refine⟨u,ru,?_⟩
   rcases look with ⟨z,_⟩|⟨_,c,hcl,hcv⟩
   .rcases hk with y'|y'<;>rw[y']at z<;>cases z
   .refine .inr ⟨?_,c,?_,?_⟩
    .rcases hvis with z|z|z
     .exfalso
      obtain⟨k,hl,e⟩:=J0 z
      rw[hfree]at hl;cases hl
      rcases e with e|e
      .cases e
      .cases e.2
     .exact .inl z
     .exact .inr z
    .obtain⟨c',hc'⟩:=Xg.mp (U0 (acc:=[]) hs hmm)
     have:=cl_of hc'
     rw[hcl]at this;cases this
     exact(jel (nocell hfree)).trans hc'
    .obtain⟨o,e,d⟩:=hcv
     exact⟨o,old _ _ e,d⟩
  cell:=λx c h=>by
   rcases cellD h with ⟨q,_⟩|q
   .exact⟨_,(okl.empty x c q).1⟩
   .obtain⟨v,o,e,d⟩:=I2.cell x c q
    exact⟨v,o,old _ _ e,d⟩
  free:=by show upd H2 Dd (.lst []) C=ah;rw[jc (dh hDlt)];exact hC0
  freeC:=λx c h=>by
   rcases cellD h with ⟨_,z⟩|q
   .rw[jc (dh (Xv hDlt (Td z)))];exact I2.hok.fresh (by rw[hDd];exact di (Xv hDlt (Td z)))
   .rw[jc (Xc (celllt x c q))];exact I2.freeC x c q
  pin:=λp hp=>by
   rw[Xk]at hp
   obtain⟨h1,h2,h3,h4,h5⟩:=I2.pin p hp
   have hlt:=pinlt p hp
   refine⟨old _ _ h1,by rw[jc (Xc hlt)];exact h2,Xc (Xv hlt hDlt),λz=>?_,h5⟩
   rcases km.mp (I2.stkSub _ z)with y|y
   .exact h3 y
   .exact h4 y
  hok:=hpush
  len:=by rw[Ww];exact I2.len }
 have hDo:Dd∉owns ρ:=R2.fresh hD0;have fpok:∀{H':Hp},(∀b∈fp,H' b=ah)->∀b∈fp,W6 (cCx X scope C s2 H2 fp (X.pn++pins)) [] H' b:=λ{H'} hn b hb =>⟨hn b hb,Xc (Xv (fplt b hb) hDlt),okc.exfs b hb,.inl hb,λx c h=>celln h (fplt b hb) λc q=>(f2 b hb).2.2.2.2.1 x c q,λp hp=>by rw[Xk]at hp;exact(f2 b hb).2.2.2.2.2 p hp⟩
 have R0:Rep X.K ρ (mask cs σ) H2:=R2.weaken (Ww _ _) λj hj=>j5q λz=>hj (hcs j z);have e0:del (upd H2 Dd (.lst [])) [Dd]=H2:=by
  rw[Yc (xm.mpr rfl)]
  funext b
  by_cases z:b∈[Dd]
  .rw[zc z,xm.mp z,hD0]
  .exact j5 z
 have loop:∀s₃:aq,s₃={ s2 with heap:=h₁ } ->
   c9 (aB X.prog X.w) X.A (.compLoop (.ListComp elt [⟨tg,iter,ifs,0⟩] scope pos) 0 (.ref it) (.ref Dd) (compEnvC scope (aU (C+1) scope.names (zu X.env scope.names [])) C X.env)) (RR (.ref Dd) C) s₃:=by
  rintro s₃ rfl;refine K8 (λn s=>∃i σ' H' ys,Inv (cCx X scope C s2 H2 fp (X.pn++pins)) [] σ' H' s/\tn i s.heap/\(∀b∈fp,H' b=ah)/\i<=ds.length/\n=ds.length-i/\Rep X.K ρ σ' (del H' [Dd])/\j4 H2 (del H' [Dd])/\H' Dd=ae (.lst ys) /\
   j6 X.K (del H' (Dd::owns ρ)) (((ds.take i).filter p).map g) ys) ?_ ds.length
   ⟨0,mask cs σ,upd H2 Dd (.lst []),[],I0,T.keep _ _ _ st2 (λb _ o e=>old b o e),λb hb=>by rw[jc (Xc (fplt b hb))];exact(f2 b hb).1,cW _,rfl,by rw[e0];exact R0,by rw[e0];exact j4.refl _,jm,rfl⟩
  rintro n s3 ⟨i,σ3,H3,ys,I3,st3,fr3,hle,rfl,R3,g3,m3,en3⟩;have F3:j4 (del H2 (owns ρ)) (del H3 (Dd::owns ρ)):=by
   have:del H3 (Dd::owns ρ)=del (del H3 [Dd]) (owns ρ):=by rw[Z0];rfl
   rw[this];exact jf g3
  obtain⟨go,stop,yld⟩:=ok i H3 (Dd::owns ρ) F3 λa ha=>by
   rcases km.mp ha with e|ha
   .rw[e,m3];simp
   .obtain⟨xs,e⟩:=R3.owned a ha;rw[(of_del e).2];simp
  by_cases hlt:i<ds.length
  .refine thn (T.item (cCx X scope C s2 H2 fp (X.pn++pins)) rfl rfl rfl hc i [] s3 σ3 H3 (λ_ _=>False) I3 (fpok fr3) st3 (go hlt)) λr s4 ⟨u,hr,h4⟩=>?_;subst hr;refine thn h4 λ_ s5 ⟨x,H5,I5,r5,y5,st5,fr5⟩=>?_;obtain⟨g5,en5⟩:=yld x H5 y5;have hd:ds[i]?=ae ds[i]:=kh hlt;obtain⟨ρ2,⟨sub,hG⟩,wk,eo,hT,hE⟩:=hb C s2 H2 fp (X.pn++pins) ds[i] (Pj hlt);have m5:H5 Dd=ae (.lst ys):=g5 _ _ m3;have hA:∀a∈[Dd],Hd (H5 a):=λa ha=>.inl ⟨ys,by rw[xm.mp ha];exact m5⟩;have I5p:=I5.pinned (fpok fr5) (T.obj _ _ st5);have I5h:=I5p.hide hA;have R5:Rep X.K ρ σ3 (del H5 [Dd]):=R3.grow (jf g5);have en5':Enc X.K (del (del H5 [Dd]) (owns ρ)) ds[i] x:=by rw[Z0];exact en5 _ hd
   refine thn (hG σ3 (del H5 [Dd]) x (λσ6 F6=>F6=del H5 [Dd]/\Rep X.K ρ2 σ6 F6) R5 en5' (λσ6 R6=>⟨rfl,R6⟩) _ s5 u I5h r5) λ_ s6 ⟨σ6,F6,I6,e6,R6⟩=>?_;subst e6;refine thn (hT.run I6 R6) λokv s7 ⟨e7,F7,I7,g7⟩=>?_;subst e7;have R7:Rep X.K ρ σ6 F7:=wk _ _ _ (R6.grow g7);have g27:j4 H2 F7:=g3.trans ((jf g5).trans g7);have en7:j6 X.K (del F7 (owns ρ)) (((ds.take i).filter p).map g) ys:=en3.mono (by
    have:del H3 (Dd::owns ρ)=del (del H3 [Dd]) (owns ρ):=by rw[Z0];rfl
    rw[this];exact jf ((jf g5).trans g7))
   have iA:∀{F:Hp}{s':aq},Inv (cCx X scope C s2 H2 fp (X.pn++pins)) ([]++V9 fp s5.heap) σ6 F s'->Inv (cCx X scope C s2 H2 fp (X.pn++pins)) [] σ6 F s'/\tn (i+1) s'.heap/\∀b∈fp,F b=ah:=λ{F s'} I=>by refine⟨I.unpinned,T.keep _ _ _ st5 λb hb o e=>(I.pin (b,o) (Xd _ (Xd _ (Qm hb e)))).1,λb hb=>?_⟩;obtain⟨o,e,d⟩:=T.obj _ _ st5 b hb;exact(I.pin (b,o) (Xd _ (Xd _ (Qm hb e)))).2.1
   have tk:ds.take (i+1)=ds.take i++[ds[i]]:=by rw[List.take_add_one,hd];rfl
   cases hp:p ds[i] with
   |false =>
    rw[if_neg xx];obtain⟨hF,I8⟩:=I5p.unhide hA I7;obtain⟨I9,st9,fr9⟩:=iA I8;refine⟨ds.length-(i+1),by omega,i+1,σ6,_,ys,I9,st9,fr9,hlt,rfl,by rw[Qh hF];exact R7,by rw[Qh hF];exact g27,by rw[vz (xm.mpr rfl)];exact m5,?_⟩;have:del (mrg [Dd] H5 F7) (Dd::owns ρ)=del F7 (owns ρ):=by
     have e:del (mrg [Dd] H5 F7) (Dd::owns ρ)=del (del (mrg [Dd] H5 F7) [Dd]) (owns ρ):=by rw[Z0];rfl
     rw[e,Qh hF]
    rw[this,tk,gu];have e:[ds[i]].filter p=[]:=by simp[hp]
    rw[e,Xk];exact en7
   |true =>
    rw[if_pos rfl];refine thn (hE hp σ6 F7 (λv F8=>j4 F7 F8/\Enc X.K (del F8 (owns ρ2)) (g ds[i]) v) (R6.grow g7) (λv F8 g8 e8=>⟨g8,e8⟩) _ s7 I7) λy s8 ⟨v,F8,I8,r8,g8,e8⟩=>?_;obtain⟨hF,I8'⟩:=I5p.unhide hA I8;rw[eo]at e8;have eH:del (mrg [Dd] H5 F8) (Dd::owns ρ)=del F8 (owns ρ):=by
     have e:del (mrg [Dd] H5 F8) (Dd::owns ρ)=del (del (mrg [Dd] H5 F8) [Dd]) (owns ρ):=by rw[Z0];rfl
     rw[e,Qh hF]
    have hlen:ys.length<aw:=by have e1:=en7.length;have e2:((ds.take i).filter p).length<=(ds.take i).length:=dm _ _;rw[xj]at e1;rw[Xh]at e2;omega
    refine thn (Ng _ s8 σ6 (mrg [Dd] H5 F8) (.ref Dd) [v] (.ref Dd) [y] (λ_ H9=>H9=upd (mrg [Dd] H5 F8) Dd (.lst (ys++[v]))) I8' rfl (.cons r8 .nil)
     ⟨Dd,ys,v,rfl,rfl,by rw[vz (xm.mpr rfl)];exact m5,hlen,rfl⟩) λ_ s9 ⟨_,H9,I9,_,e9⟩=>?_
    subst e9;obtain⟨I10,st10,fr10⟩:=iA I9;have ed:del (upd (mrg [Dd] H5 F8) Dd (.lst (ys++[v]))) [Dd]=F8:=by rw[Yc (xm.mpr rfl),Qh hF]
    refine⟨ds.length-(i+1),by omega,i+1,σ6,_,ys++[v],I10,st10,fr10,hlt,rfl,by rw[ed];exact R7.grow g8,by rw[ed];exact g27.trans g8,jm,?_⟩;rw[Yc (xg ..),eH,tk,gu,Xm];have e:[ds[i]].filter p=[ds[i]]:=by simp[hp]
    rw[e];exact(en7.mono (jf g8)).append (.one e8)
  .have hi:i=ds.length:=by omega
   subst hi;refine thn (T.done (cCx X scope C s2 H2 fp (X.pn++pins)) rfl rfl rfl hc ds.length [] s3 σ3 H3 (λ_ _=>False) I3 (fpok fr3) st3 (stop (X4 _))) λr s4 ⟨hr,I4⟩=>?_;subst hr;rw[gN]at en3;obtain⟨m,hm,_⟩:=I4.loc;refine hRR Dd C ys H3 s4 m ?_ (g3.trans qb) hD0 m3 en3 hm ⟨I4.free,dh (Xv loclt hDlt),?_,λx c h=>Xc (Xv (celllt x c h) hDlt),λp hp=>Xc (Xv (pinlt p hp) hDlt)⟩
   .exact I2.call' (ch:=fp) I4.os I4.base I4.hok I4.bare λb hb=>⟨(f2 b hb).2.2.2.1,(f2 b hb).2.1,(f2 b hb).2.2.2.2.1,(f2 b hb).2.2.2.2.2⟩
   .have:=I2.sz;omega
 exact codeAny_compStart_list (loop _ rfl) (T.self _ 0 _ _ _ (T.keep _ _ _ st2 (λb _ o e=>old b o e)) (loop _ rfl))
end
section
variable{X:Cx}{ρ:Rho}{tg elt iter:ar}{ifs:List ar}{scope:bh}{pos p1 spos:aQ}{ds:List D}{cs:List Nat}{p:D->Bool}{g:D->D}{x:ao}{P:Po}
theorem R8{env:cG}{N:List ao}(h:J9 scope env N cs=ag):∀y∈scope.names,y.2=.free->(env.cells.lookup y.1).isSome=ag:=λy hy e=>by unfold J9 at h;rw[X6]at h;have:=Xo.mp h.1 y hy;simp only[X6,bne_iff_ne,ne_eq,bX]at this;exact this.2.elim (λz=>absurd e z) λz=>z.1
theorem Uz{env:cG}{N:List ao}(h:J9 scope env N cs=ag):∀y∈scope.names,y.2=.local->scope.names.lookup y.1=ae .local:=λy hy e=>by unfold J9 at h;rw[X6]at h;have:=Xo.mp h.1 y hy;simp only[X6,bne_iff_ne,ne_eq,bX,beq_iff_eq]at this;exact this.1.2.elim (λz=>absurd e z) λz=>z
theorem Inv.loose{pins:k5m}{σ:St}{H:Hp}{s:aq}{C:ak}{h':aK}(I:Inv X pins σ H s)(L:Loose X pins H C)(sb:dR C s.heap h'):Inv X pins σ H { s with heap:=h' } :=
 I.turned (t':=s.toks) (λb o hb e=>sb.extBut b o hb e) L.free L.loc (.inr L.new) L.cell L.pin
theorem DO.comp(cs:List Nat)(p:D->Bool)(g:D->D)(hi:DI X ρ tg iter ds)
  (hb:∀C s H fp pn,∀d∈ds,∃ρ2,DG (cCx X scope C s H fp pn) ρ tg d ρ2/\Wk ρ2 ρ/\owns ρ2=owns ρ/\DTs (cCx X scope C s H fp pn) ρ2 ifs (p d)/\(p d=ag->DE (cCx X scope C s H fp pn) ρ2 elt (g d)))
  (hcs:∀j∈cs,ρ[j]?=ae .un) (hsz:ds.length<=aw) (hc:X.calm=ag:=by rfl) (hkind:scope.kind=.function:=by rfl) (hok:J9 scope X.env X.N cs=ag:=by rfl)
  (hs:∀x,aW iter X.env x=pure x:=by intro _;rfl):DO X ρ (.ListComp elt [⟨tg,iter,ifs,0⟩] scope pos) ((ds.filter p).map g):=λσ H Q R q pins s I=>by
 rw[eval_ListComp];refine fY (use:=ah) rfl hs (O7 (R8 hok)) hkind (Uz hok) (thn (hi σ H (λJ H'=>j4 H H'/\W5 X.K (del H' (owns ρ)) J ds) R (λJ H' g1 ok=>⟨g1,ok⟩) pins s I) λv s1 h1=>thn h1 λitv s2 h2=>?_);obtain⟨it,fp,tn,J,H2,e,I2,T,st2,f2,g2,ok⟩:=h2;subst e;refine Nz (RR:=λacc C=>compPost (aB X.prog X.w) X.A X.xe ah (EP X pins σ Q) acc C) I2 (R.grow g2) T st2 f2 ok hc hkind hok hcs hsz hb ?_;intro D C xs H' s' m I' gg n m' en hm L;exact⟨m,hm,λh' sb=>⟨.ref D,H',I'.loose L sb,rfl,q D xs H' (g2.trans gg) (g2.free n) m' en⟩⟩
theorem Wk.set{i:Nat}{d:D}(h:ρ[i]?=ae .un):Wk (ρ.set i (.val d)) ρ:=λK σ H R=>by
 have q:=R.set_un (i:=i) (v:=(σ[i]?).join);have e:σ.set i ((σ[i]?).join)=σ:=by
  apply gG;intro j;rw[dU];split
  .rename_i h;subst h;split
   .rename_i h;rw[kh h];rfl
   .rename_i h;rw[T7 nofun]
  .rfl
 have e2:(ρ.set i (.val d)).set i .un=ρ:=by
  rw[List.set_set];apply gG;intro j;rw[dU];split
  .rename_i z;subst z;split
   .rw[h]
   .rename_i z;rw[T7 nofun]at h;cases h
  .rfl
 rw[e,e2]at q;exact q
theorem Z5{i:Nat}{d:D}(h:ρ[i]?=ae .un):owns (ρ.set i (.val d))=owns ρ:=Wu rfl λa l z=>by rw[h]at z;cases z
end
section
variable{prog:ay}{w:aE}{A:aF}{E:k5l}{s:aq}
end
def Yh(lst:Bool)(h:aK)(t:ak)(its:Array aj):Prop:=if lst=ag then h.IsList t its else h.IsTuple t its
section
variable{prog:ay}{w:aE}{A:aF}{E:k5l}{s:aq}{lst:Bool}{h h':aK}{j t b:ak}{k:Nat}{its:Array aj}
end
section
variable{prog:ay}{w:aE}{A:aF}{E:k5l}{s:aq}{l1 l2:Bool}{z TI TO i1 i2 t1 t2:ak}{k:Nat}{us vs:Array aj}{x y a b:aj}
end
section
variable{prog:ay}{w:aE}{A:aF}{E:k5l}{s:aq}{l1 l2:Bool}{t1 t2:ak}{us vs:Array aj}
end
def SqB(K:k5k)(lst:Bool)(H:Hp)(a:ak)(xs:List V):Prop:=if lst=ag then SqL K H a xs else SqT K H a xs
section
variable{X:Cx}{pins:k5m}{σ:St}{H:Hp}{s:aq}{a p:ak}{xs ys:List V}{lst:Bool}{ch:List ak}{h':aK}
theorem j4.seqB{K:k5k}{H':Hp}(e:j4 H H')(h:SqB K lst H a xs):SqB K lst H' a xs:=by
 unfold SqB at h ⊢;cases lst with
 |true=>rw[if_pos rfl]at h ⊢;exact e.seq h
 |false=>rw[if_neg xx]at h ⊢;exact e.seqT h
theorem Inv.side(I:Inv X pins σ H s)(h:SqB X.K lst H a xs):∃us:List aj,Vals xs us/\Yh lst s.heap a us.toArray/\xs.length<=aw:=by
 unfold SqB at h;unfold Yh;cases lst with
 |true=>rw[if_pos rfl]at h;obtain⟨its,r,q,l⟩:=I.list h;exact⟨its,r,by rw[if_pos rfl];exact q.isList,l⟩
 |false=>rw[if_neg xx]at h;obtain⟨its,r,q,l⟩:=I.tuple h;exact⟨its,r,by rw[if_neg xx];exact q,l⟩
end
section
variable{X:Cx}{ρ:Rho}{a b:ar}{es:List ar}{n:Nat}{pos p q1 q2:aQ}{ds ds':List D}{l1 l2:Bool}
noncomputable def D.seq(lst:Bool)(ds:List D):D:=if lst=ag then .lst ds else .tup ds
theorem V4{K:k5k}{H:Hp}{lst:Bool}{v:V}(h:Enc K H (D.seq lst ds) v):∃t xs,v=.ref t/\SqB K lst H t xs/\j6 K H ds xs:=by
 unfold D.seq at h;unfold SqB;cases lst with
 |true=>rw[if_pos rfl]at h;obtain⟨t,xs,e,s,l⟩:=h;exact⟨t,xs,e,by rw[if_pos rfl];exact s,l⟩
 |false=>rw[if_neg xx]at h;obtain⟨t,xs,e,s,l⟩:=h;exact⟨t,xs,e,by rw[if_neg xx];exact s,l⟩
end
noncomputable def D.ty:D->String
 |.non=>"NoneType"
 |.bl _=>"bool"
 |.int _=>"int"
 |.str _=>"str"
 |.tup _=>"tuple"
 |.lst _=>"list"
 |.dct _ _=>"dict"
 |.sct _=>"dict"
 |.fn _ _=>"function"
section
variable{X:Cx}{pins:k5m}{σ:St}{H:Hp}{s:aq}{A:aF}{E:k5l}{Q:k5l}{c:aj}{b:Bool}
theorem j30 {d:D} {v:V} {u:aj} (I:Inv X pins σ H s) (en:Enc X.K H d v) (r:RelV v u) (nf:d.ty ≠ "function"):∃P:aK->Prop,gR X.K u (.type d.ty) P/\P s.heap/\u≠.builtin "__main__.__loader__#opaque":=by
 cases d with
 |non=>cases(show v=.non from en);cases(show u=br from r);exact⟨_,W.kitx_none,trivial,λz=>nomatch z⟩
 |bl k=>cases(show v=.bl k from en);cases(show u=bB k from r);exact⟨_,W.kitx_bool,trivial,λz=>nomatch z⟩
 |int k=>cases(show v=.int k from en);obtain⟨t,q⟩:=(show ∃t,u=bj k t from r);cases q;exact⟨_,W.kitx_int,trivial,λz=>nomatch z⟩
 |str k=>cases(show v=.str k from en);obtain⟨t,q⟩:=(show ∃t,u=b7 k t from r);cases q;exact⟨_,W.kitx_str,trivial,λz=>nomatch z⟩
 |tup l =>obtain⟨a,xs,e,sq,_⟩:=en;subst e;cases(show u=aJ a from r);obtain⟨its,_,⟨o,h1,h2,_⟩,_⟩:=I.tuple sq;exact⟨_,W.kitx_tuple,⟨o,h1,h2⟩,λz=>nomatch z⟩
 |lst l =>obtain⟨a,xs,e,sq,_⟩:=en;subst e;cases(show u=aJ a from r);obtain⟨its,_,⟨o,n,h1,h2,_⟩,_⟩:=I.list sq;exact⟨_,W.kitx_list,⟨o,h1,h2⟩,λz=>nomatch z⟩
 |dct ks l =>
  obtain⟨a,xs,ep,vs,e,hx,_⟩:=en;subst e;cases(show u=aJ a from r);obtain⟨_,_,_,o,es,h1,h2,_⟩:=(show jl X.prog X.w H s.heap a (.dI xs ep)from I.hok _ _ hx)
  exact⟨_,W.kitx_dict,⟨o,h1,h2.1⟩,λz=>nomatch z⟩
 |sct k =>
  obtain⟨a,e,hx⟩:=en;subst e;cases(show u=aJ a from r);obtain⟨_,_,vs,_,o,es,ep,h1,h2,_⟩:=(show jl X.prog X.w H s.heap a (.dK (kvI k))from I.hok _ _ hx)
  exact⟨_,W.kitx_dict,⟨o,h1,h2.1⟩,λz=>nomatch z⟩
 |fn x l=>exact absurd rfl nf
theorem j45:vm X (.builtin "isinstance") (λxs H Q=>∃v d c b,xs=[v,.ty c]/\Enc X.K H d v/\d.ty ≠ "function"/\W.kitOne X.K (.type d.ty) (.type c)=ae b/\Q (.bl b) H):=by rintro pins s σ H xs us Q I r ⟨v,d,c,b,e,en,nf,k,q⟩;subst e;obtain⟨u,u',eu,r1,r2⟩:=vals2 r;subst eu;cases(show u'=d5 c from r2);obtain⟨P,Z,hp,hn⟩:=j30 I en r1 nf;exact W.kia_one Z I.kIn hp k hn λtk=>⟨.bl b,H,I.tok tk,rfl,q⟩
theorem j44:vm X (.builtin "isinstance") (λxs H Q=>∃(v:V)(t:ak)(d:D)(cs:List String)(b:Bool),xs=[v,.ref t]/\Enc X.K H d v/\d.ty ≠ "function"/\SqT X.K H t (cs.map V.ty)/\W.kitAny X.K (.type d.ty) (cs.map d5)=ae b/\Q (.bl b) H):=by
 rintro pins s σ H xs us Q I r ⟨v,t,d,cs,b,e,en,nf,sq,k,q⟩;subst e;obtain⟨u,u',eu,r1,r2⟩:=vals2 r;subst eu;cases(show u'=aJ t from r2);obtain⟨P,Z,hp,hn⟩:=j30 I en r1 nf;obtain⟨its,rv,⟨⟨cl,dd,da,sl⟩,h1,h2,n,h3⟩,_⟩:=I.tuple sq;have h2:cl=.type "tuple":=h2;have h3:da=.seq its.toArray n:=h3;subst h2 h3;have ei:∀{cs:List String}{its:List aj},Vals (cs.map V.ty) its->its=cs.map d5:=λ{cs}=>by
  induction cs with
  |nil=>intro its h;exact h.zero
  |cons c cs ih=>intro its h;cases h with|cons a b=>cases a;rw[ih b];rfl
 rw[ei rv]at h1;exact W.kia_tup Z I.kIn hp h1 k hn λtk=>⟨.bl b,H,I.tok tk,rfl,q⟩
end
section
variable{X:Cx}{ρ:Rho}{a b:ar}{d:D}{pos p p1 p2 p3:aQ}{T T1 T2:ao}{c c1 c2:String}{k:Bool}{n:Nat}
theorem Dh (hg:Gl X T) (hm:X.mg T=ah) (hv:aY T=ae (.type c)) (hn:T ≠ "__name__":=by decide) (hd:(T==k5o)=af:=by decide):PE X (.Name T p) (tC (.ty c)):=j96 hg hm hv rfl hn hd
theorem DE.isi1 (ha:DT X ρ a d) (nf:d.ty ≠ "function") (hm:X.mg "isinstance" = ah) (hT:X.mg T=ah) (hv:aY T=ae (.type c)) (hk:W.kitOne X.K (.type d.ty) (.type c)=ae k) (hg:Gl X "isinstance":=by rfl) (hg2:Gl X T:=by rfl)
  (hn:T ≠ "__name__":=by decide) (hd:(T==k5o)=af:=by decide)
  (hs:ai [a,.Name T p2] X.env=(af,aH a X.env)::ai [.Name T p2] X.env:=by rfl) (hs2:ai [.Name T p2] X.env=(af,aH (.Name T p2) X.env)::ai [] X.env:=by rfl) (hpl:(aV pos (ai [.Name T p2] X.env)).any (·.1)=af:=by rfl) :
  DE X ρ (.Call (.Name "isinstance" p) [a,.Name T p2] [] pos) (.bl k):=λσ H Q R q =>
 (qz j45 hg hm dC (j9 peS (j9 (Dh hg2 hT hv hn hd) ju hs2) hs) (by decide) (by decide) hs hpl).to (ha σ H _ R λv H1 g1 e1=>⟨v,d,c,k,rfl,e1,nf,hk,q _ H1 g1 rfl⟩)
theorem DE.isi2 {m:Nat} (ha:DT X ρ a d) (nf:d.ty ≠ "function") (hm:X.mg "isinstance" = ah) (hT1:X.mg T1=ah) (hT2:X.mg T2=ah) (hv1:aY T1=ae (.type c1)) (hv2:aY T2=ae (.type c2))
  (hk:W.kitAny X.K (.type d.ty) [.type c1,.type c2]=ae k) (hg:Gl X "isinstance":=by rfl) (hg1:Gl X T1:=by rfl) (hg2:Gl X T2:=by rfl)
  (hn1:T1 ≠ "__name__":=by decide) (hd1:(T1==k5o)=af:=by decide) (hn2:T2 ≠ "__name__":=by decide) (hd2:(T2==k5o)=af:=by decide)
  (hs:ai [a,.Tuple [.Name T1 p1,.Name T2 p2] m p3] X.env=(af,aH a X.env)::ai [.Tuple [.Name T1 p1,.Name T2 p2] m p3] X.env:=by rfl)
  (hs2:ai [.Tuple [.Name T1 p1,.Name T2 p2] m p3] X.env=(af,aH (.Tuple [.Name T1 p1,.Name T2 p2] m p3) X.env)::ai [] X.env:=by rfl) (hpl:(aV pos (ai [.Tuple [.Name T1 p1,.Name T2 p2] m p3] X.env)).any (·.1)=af:=by rfl)
  (hs3:ai [.Name T1 p1,.Name T2 p2] X.env=(af,aH (.Name T1 p1) X.env)::ai [.Name T2 p2] X.env:=by rfl) (hs4:ai [.Name T2 p2] X.env=(af,aH (.Name T2 p2) X.env)::ai [] X.env:=by rfl) :
  DE X ρ (.Call (.Name "isinstance" p) [a,.Tuple [.Name T1 p1,.Name T2 p2] m p3] [] pos) (.bl k):=λσ H Q R q =>
 (qz j44 hg hm dC (j9 peS (j9 (j2j (j9 (Dh hg1 hT1 hv1 hn1 hd1) (j9 (Dh hg2 hT2 hv2 hn2 hd2) ju hs4) hs3)) ju hs2) hs) (by decide) (by decide) hs hpl).to
  (ha σ H _ R λv H1 g1 e1=>⟨by show 2<=aw;decide,λt ht=>⟨v,t,d,[c1,c2],k,rfl,e1.mono (j8 ht),nf,.inl (.inl jm),hk,q _ _ (g1.trans (j8 ht)) rfl⟩⟩)
end
mutual
noncomputable def deq:D->D->Bool
 |.non,.non=>ag
 |.bl a,.bl b=>a==b
 |.bl a,.int b=>(if a then 1 else 0)==b
 |.int a,.bl b=>a==(if b then 1 else 0)
 |.int a,.int b=>a==b
 |.str a,.str b=>a==b
 |.tup xs,.tup ys=>zx xs ys
 |.lst xs,.lst ys=>zx xs ys
 |.dct k xs,.dct m ys=>decide (k=m)&&zx xs ys
 |.sct k,.sct m=>decide (k=m)
 |_,_=>af
noncomputable def zx:List D->List D->Bool
 |[],[]=>ag
 |x::xs,y::ys=>deq x y&&zx xs ys
 |_,_=>af
end
theorem jee{a b:Bool}:deq (.bl a) (.bl b)=(a==b):=(rfl)
theorem jed{a b:Int}:deq (.int a) (.int b)=(a==b):=(rfl)
theorem K5{a b:ao}:deq (.str a) (.str b)=(a==b):=(rfl)
theorem K4{a b:List D}:deq (.tup a) (.tup b)=zx a b:=(rfl)
theorem K6{a b:List D}:deq (.lst a) (.lst b)=zx a b:=(rfl)
theorem Vc:zx [] []=ag:=(rfl)
theorem Qg{x y:D}{xs ys:List D}:zx (x::xs) (y::ys)=(deq x y&&zx xs ys):=(rfl)
theorem Wg{y:D}{ys:List D}:zx [] (y::ys)=af:=(rfl)
theorem Wh{x:D}{xs:List D}:zx (x::xs) []=af:=(rfl)
mutual
noncomputable def D.dep:D->Nat
 |.tup xs=>D.depL xs+1
 |.lst xs=>D.depL xs+1
 |.dct _ _=>20000
 |.sct _=>20000
 |.fn _ _=>20000
 |_=>0
noncomputable def D.depL:List D->Nat
 |[]=>0
 |x::xs=>max x.dep (D.depL xs)
end
mutual
theorem Ru:∀d:D,d.dep<10000->deq d d=ag
 |.non,_=>rfl
 |.bl b,_=>by rw[jee];simp
 |.int i,_=>by rw[jed];simp
 |.str x,_=>by rw[K5];simp
 |.tup xs,h=>by rw[K4];exact Qf xs (by simp only[D.dep]at h;omega)
 |.lst xs,h=>by rw[K6];exact Qf xs (by simp only[D.dep]at h;omega)
 |.dct _ _,h=>by simp[D.dep]at h
 |.sct _,h=>by simp[D.dep]at h
 |.fn _ _,h=>by simp[D.dep]at h
theorem Qf:∀ds:List D,D.depL ds<10000->zx ds ds=ag
 |[],_=>rfl
 |d::ds,h=>by rw[D.depL]at h;rw[Qg,Ru d nofun,Qf ds nofun];rfl
end
theorem Vd:∀{xs ys:List D},xs.length≠ys.length->zx xs ys=af
 |[],[],h=>absurd rfl h
 |[],_::_,_=>by simp[Vc,Qg,Wg,Wh]
 |_::_,[],_=>by simp[Vc,Qg,Wg,Wh]
 |x::xs,y::ys,h=>by have:=Vd (xs:=xs) (ys:=ys) (by simpa using h);simp[Vc,Qg,Wg,Wh,this]
theorem Qo{f:Nat->Bool}:∀{xs ys:List D},xs.length=ys.length->(∀(j:Nat) x y,xs[j]?=ae x->ys[j]?=ae y->f j=deq x y)->(aS xs.length).all f=zx xs ys
 |[],[],_,_=>by simp[Vc,Qg,Wg,Wh]
 |[],_::_,h,_=>by simp at h
 |_::_,[],h,_=>by simp at h
 |x::xs,y::ys,h,hf=>by have ih:=Qo (f:=λj=>f (j+1)) (xs:=xs) (ys:=ys) (by simpa using h) (λj a b ha hb=>hf (j+1) a b (by simpa using ha) (by simpa using hb));rw[xn,df,fh,hf 0 x y rfl rfl,fC];simp only[Qg];rw[<-ih];rfl
section
variable{X:Cx}{pins:k5m}{σ:St}{H:Hp}{s:aq}
theorem Lb(I:Inv X pins σ H s){a:ak}{xs ys:List V}(h:SqT X.K H a xs)(h':SqL X.K H a ys):False:=by obtain⟨_,_,⟨o,h1,h2,_⟩,_⟩:=I.tuple h;obtain⟨_,_,⟨o',n,h1',h2',_⟩,_⟩:=I.list h';rw[h1]at h1';cases h1';rw[h2]at h2';injection h2' with e;exact absurd e (by decide)
noncomputable def D.atom:D->Option V
 |.non=>ae .non
 |.bl b=>ae (.bl b)
 |.int i=>ae (.int i)
 |.str x=>ae (.str x)
 |_=>ah
theorem Enc.at_{K:k5k}{d:D}{v u:V}(h:Enc K H d v)(e:d.atom=ae u):v=u:=by
 cases d with
 |non=>cases e;exact(show v=.non from h)
 |bl b=>cases e;exact(show v=.bl b from h)
 |int i=>cases e;exact(show v=.int i from h)
 |str x=>cases e;exact(show v=.str x from h)
 |_=>cases e
theorem Enc.ref{K:k5k}{d:D}{v:V}(h:Enc K H d v)(e:d.atom=ah):∃a,v=.ref a:=by
 cases d with
 |tup l=>obtain⟨a,_,e,_⟩:=h;exact⟨a,e⟩
 |lst l=>obtain⟨a,_,e,_⟩:=h;exact⟨a,e⟩
 |dct k l=>obtain⟨a,_,_,_,e,_⟩:=h;exact⟨a,e⟩
 |sct k=>obtain⟨a,e,_⟩:=h;exact⟨a,e⟩
 |fn x l=>obtain⟨a,_,_,_,_,e,_⟩:=h;exact⟨a,e⟩
 |_=>cases e
theorem j7a{d d':D}{u:V}(h:d.atom=ae u)(h':d'.atom=ae u):d=d':=by cases d<;>cases d'<;>first|(cases h;done)|(cases h';done)|(cases h;cases h';rfl)|(cases h;cases h')
theorem Kh{d:D}{a:ak}(h:d.atom=ae (.ref a)):False:=by cases d<;>cases h
theorem jdl(I:Inv X pins σ H s){d d':D}{v:V}(hd:d.dep<10000)(hd':d'.dep<10000)(h:Enc X.K H d v)(h':Enc X.K H d' v) :
  d=d'\/∃ds ds' xs,((d=.tup ds/\d'=.tup ds')\/(d=.lst ds/\d'=.lst ds'))/\j6 X.K H ds xs/\j6 X.K H ds' xs:=by
 cases e:d.atom with
 |some u =>
  have ev:=h.at_ e;subst ev;cases e':d'.atom with
  |some u'=>exact .inl (j7a e ((h'.at_ e')▸e'))
  |none=>obtain⟨a,ea⟩:=h'.ref e';subst ea;exact(Kh e).elim
 |none =>
  cases e':d'.atom with
  |some u'=>have ev:=h'.at_ e';subst ev;obtain⟨a,ea⟩:=h.ref e;subst ea;exact(Kh e').elim
  |none =>
   cases d with
   |tup ds =>
    obtain⟨a,xs,ea,sq,l⟩:=h;cases d' with
    |tup ds' =>obtain⟨a',ys,eb,sq',l'⟩:=h';rw[ea]at eb;cases eb;rw[I.tuple_inj sq' sq]at l';exact .inr ⟨ds,ds',xs,.inl ⟨rfl,rfl⟩,l,l'⟩
    |lst ds'=>obtain⟨a',ys,eb,sq',l'⟩:=h';rw[ea]at eb;cases eb;exact(Lb I sq sq').elim
    |dct _ _=>simp[D.dep]at hd'
    |sct _=>simp[D.dep]at hd'
    |fn _ _=>simp[D.dep]at hd'
    |_=>cases e'
   |lst ds =>
    obtain⟨a,xs,ea,sq,l⟩:=h;cases d' with
    |lst ds' =>obtain⟨a',ys,eb,sq',l'⟩:=h';rw[ea]at eb;cases eb;rw[I.list_inj sq' sq]at l';exact .inr ⟨ds,ds',xs,.inr ⟨rfl,rfl⟩,l,l'⟩
    |tup ds'=>obtain⟨a',ys,eb,sq',l'⟩:=h';rw[ea]at eb;cases eb;exact(Lb I sq' sq).elim
    |dct _ _=>simp[D.dep]at hd'
    |sct _=>simp[D.dep]at hd'
    |fn _ _=>simp[D.dep]at hd'
    |_=>cases e'
   |dct _ _=>simp[D.dep]at hd
   |sct _=>simp[D.dep]at hd
   |fn _ _=>simp[D.dep]at hd
   |_=>cases e
theorem j6f{n:Nat}(ih:∀{d d':D}{v:V},d.dep<=n->d.dep<10000->d'.dep<10000->Enc X.K H d v->Enc X.K H d' v->d=d'):∀{ds ds':List D}{xs:List V},D.depL ds<=n->D.depL ds<10000->D.depL ds'<10000->j6 X.K H ds xs->j6 X.K H ds' xs->ds=ds'
 |[],[],_,_,_,_,_,_=>rfl
 |[],_::_,_,_,_,_,h,⟨x,r,e,_⟩=>by cases h;cases e
 |_::_,[],_,_,_,_,⟨x,r,e,_⟩,h=>by cases h;cases e
 |d::ds,d'::ds',_,m,n1,n2,⟨x,r,e,h,l⟩,⟨x',r',e',h',l'⟩=>by subst e;cases e';rw[D.depL]at m n1 n2;rw[ih nofun nofun nofun h h',j6f ih nofun nofun nofun l l']
theorem j6e(I:Inv X pins σ H s):∀(n:Nat){d d':D}{v:V},d.dep<=n->d.dep<10000->d'.dep<10000->Enc X.K H d v->Enc X.K H d' v->d=d'
 |0,d,d',v,hn,hd,hd',h,h'=>by
  rcases jdl I hd hd' h h' with e|⟨ds,ds',xs,⟨e,_⟩|⟨e,_⟩,_⟩
  .exact e
  .subst e;simp[D.dep]at hn
  .subst e;simp[D.dep]at hn
 |n+1,d,d',v,hn,hd,hd',h,h'=>by
  rcases jdl I hd hd' h h' with e|⟨ds,ds',xs,⟨e,e'⟩|⟨e,e'⟩,l,l'⟩
  .exact e
  .subst e e';simp only[D.dep]at hn hd hd';rw[j6f (λa b c=>j6e I n a b c) nofun nofun nofun l l']
  .subst e e';simp only[D.dep]at hn hd hd';rw[j6f (λa b c=>j6e I n a b c) nofun nofun nofun l l']
theorem Enc.inj(I:Inv X pins σ H s){d d':D}{v:V}(hd:d.dep<10000)(hd':d'.dep<10000)(h:Enc X.K H d v)(h':Enc X.K H d' v):d=d':=j6e I d.dep (X4 _) hd hd' h h'
end
section
variable{X:Cx}{pins:k5m}{σ:St}{H:Hp}{s:aq}
theorem D.depL_le:∀{ds:List D}{j:Nat}{d:D},ds[j]?=ae d->d.dep<=D.depL ds
 |[],_,_,h=>by simp at h
 |x::xs,0,d,h=>by simp at h;subst h;simp[D.depL];omega
 |x::xs,j+1,d,h=>by have:=D.depL_le (ds:=xs) (j:=j) (d:=d) (by simpa using h);simp[D.depL];omega
theorem V3(I:Inv X pins σ H s):∀(n:Nat)(A:aF){d d':D}{v v':V}{u u':aj},d.dep<=n->A.units+n<bb->d'.dep<10000->Enc X.K H d v->RelV v u->Enc X.K H d' v'->RelV v' u' ->
  eJ A s u u' (deq d d')/\d6 A s u u' (deq d d')
 |0,A,d,d',v,v',u,u',hn,hu,nd,en,r,en',r'=>by
  have hu0:A.units<bb:=by omega
  cases d with
  |tup l=>simp[D.dep]at hn
  |lst l=>simp[D.dep]at hn
  |dct ks l=>simp[D.dep]at hn
  |sct k=>simp[D.dep]at hn
  |fn x l=>simp[D.dep]at hn
  |non =>
   cases(show v=.non from en);cases(show u=br from r);cases d' with
   |dct ks' l'=>simp[D.dep]at nd
   |sct k'=>simp[D.dep]at nd
   |fn x' l'=>simp[D.dep]at nd
   |non=>cases(show v'=.non from en');cases(show u'=br from r');exact⟨.none_none,.same _⟩
   |bl k=>cases(show v'=.bl k from en');cases(show u'=bB k from r');exact⟨.none_bool _,.none_bool _⟩
   |int k=>cases(show v'=.int k from en');obtain⟨t,q⟩:=(show ∃t,u'=bj k t from r');subst q;exact⟨.none_int _ _,.none_int _ _⟩
   |str k=>cases(show v'=.str k from en');obtain⟨t,q⟩:=(show ∃t,u'=b7 k t from r');subst q;exact⟨.none_str _ _,.none_str _ _⟩
   |tup l=>obtain⟨a,xs,e,sq,_⟩:=en';subst e;cases(show u'=aJ a from r');obtain⟨_,_,q,_⟩:=I.tuple sq;exact⟨.none_tuple q hu0,.none_tuple q hu0⟩
   |lst l=>obtain⟨a,xs,e,sq,_⟩:=en';subst e;cases(show u'=aJ a from r');obtain⟨_,_,q,_⟩:=I.list sq;exact⟨.none_list q.isList hu0,.none_list q.isList hu0⟩
  |bl b =>
   cases(show v=.bl b from en);cases(show u=bB b from r);cases d' with
   |dct ks' l'=>simp[D.dep]at nd
   |sct k'=>simp[D.dep]at nd
   |fn x' l'=>simp[D.dep]at nd
   |non=>cases(show v'=.non from en');cases(show u'=br from r');exact⟨.bool_none _,.bool_none _⟩
   |bl k=>cases(show v'=.bl k from en');cases(show u'=bB k from r');exact⟨.bool_bool _ _,.bool_bool _ _⟩
   |int k=>cases(show v'=.int k from en');obtain⟨t,q⟩:=(show ∃t,u'=bj k t from r');subst q;exact⟨.bool_int _ _ _,.bool_int _ _ _⟩
   |str k=>cases(show v'=.str k from en');obtain⟨t,q⟩:=(show ∃t,u'=b7 k t from r');subst q;exact⟨.bool_str _ _ _,.bool_str _ _ _⟩
   |tup l=>obtain⟨a,xs,e,sq,_⟩:=en';subst e;cases(show u'=aJ a from r');obtain⟨_,_,q,_⟩:=I.tuple sq;exact⟨.bool_tuple _ q hu0,.bool_tuple _ q hu0⟩
   |lst l=>obtain⟨a,xs,e,sq,_⟩:=en';subst e;cases(show u'=aJ a from r');obtain⟨_,_,q,_⟩:=I.list sq;exact⟨.bool_list _ q.isList hu0,.bool_list _ q.isList hu0⟩
  |int b =>
   cases(show v=.int b from en);obtain⟨tk,q0⟩:=(show ∃t,u=bj b t from r);subst q0;cases d' with
   |dct ks' l'=>simp[D.dep]at nd
   |sct k'=>simp[D.dep]at nd
   |fn x' l'=>simp[D.dep]at nd
   |non=>cases(show v'=.non from en');cases(show u'=br from r');exact⟨.int_none _ _,.int_none _ _⟩
   |bl k=>cases(show v'=.bl k from en');cases(show u'=bB k from r');exact⟨.int_bool _ _ _,.int_bool _ _ _⟩
   |int k=>cases(show v'=.int k from en');obtain⟨t,q⟩:=(show ∃t,u'=bj k t from r');subst q;exact⟨.int_int _ _ _ _,.int_int _ _ _ _⟩
   |str k=>cases(show v'=.str k from en');obtain⟨t,q⟩:=(show ∃t,u'=b7 k t from r');subst q;exact⟨.int_str _ _ _ _,.int_str _ _ _ _⟩
   |tup l=>obtain⟨a,xs,e,sq,_⟩:=en';subst e;cases(show u'=aJ a from r');obtain⟨_,_,q,_⟩:=I.tuple sq;exact⟨.int_tuple _ _ q hu0,.int_tuple _ _ q hu0⟩
   |lst l=>obtain⟨a,xs,e,sq,_⟩:=en';subst e;cases(show u'=aJ a from r');obtain⟨_,_,q,_⟩:=I.list sq;exact⟨.int_list _ _ q.isList hu0,.int_list _ _ q.isList hu0⟩
  |str b =>
   cases(show v=.str b from en);obtain⟨tk,q0⟩:=(show ∃t,u=b7 b t from r);subst q0;cases d' with
   |dct ks' l'=>simp[D.dep]at nd
   |sct k'=>simp[D.dep]at nd
   |fn x' l'=>simp[D.dep]at nd
   |non=>cases(show v'=.non from en');cases(show u'=br from r');exact⟨.str_none _ _,.str_none _ _⟩
   |bl k=>cases(show v'=.bl k from en');cases(show u'=bB k from r');exact⟨.str_bool _ _ _,.str_bool _ _ _⟩
   |int k=>cases(show v'=.int k from en');obtain⟨t,q⟩:=(show ∃t,u'=bj k t from r');subst q;exact⟨.str_int _ _ _ _,.str_int _ _ _ _⟩
   |str k=>cases(show v'=.str k from en');obtain⟨t,q⟩:=(show ∃t,u'=b7 k t from r');subst q;exact⟨.str_str _ _ _ _,.str_str _ _ _ _⟩
   |tup l=>obtain⟨a,xs,e,sq,_⟩:=en';subst e;cases(show u'=aJ a from r');obtain⟨_,_,q,_⟩:=I.tuple sq;exact⟨.str_tuple _ _ q hu0,.str_tuple _ _ q hu0⟩
   |lst l=>obtain⟨a,xs,e,sq,_⟩:=en';subst e;cases(show u'=aJ a from r');obtain⟨_,_,q,_⟩:=I.list sq;exact⟨.str_list _ _ q.isList hu0,.str_list _ _ q.isList hu0⟩
 |n+1,A,d,d',v,v',u,u',hn,hu,nd,en,r,en',r'=>by
  have hu0:A.units<bb:=by omega
  have hu1:A.in1.units+n<bb:=by show A.units+1+n<bb;omega
  have low:d.dep<=n->eJ A s u u' (deq d d')/\d6 A s u u' (deq d d'):=λh=>V3 I n A h nofun nd en r en' r';cases d with
  |non=>exact low (by simp[D.dep])
  |bl b=>exact low (by simp[D.dep])
  |int b=>exact low (by simp[D.dep])
  |str b=>exact low (by simp[D.dep])
  |dct ks l=>exfalso;have:(9900:Nat)=bb:=rfl;simp only[D.dep]at hn;omega
  |sct k=>exfalso;have:(9900:Nat)=bb:=rfl;simp only[D.dep]at hn;omega
  |fn x l=>exfalso;have:(9900:Nat)=bb:=rfl;simp only[D.dep]at hn;omega
  |tup ds =>
   have hd:D.depL ds<=n:=by simp[D.dep]at hn;omega
   obtain⟨a,xs,e,sq,l⟩:=id en;subst e;cases(show u=aJ a from r);obtain⟨us,rv,q,_⟩:=I.tuple sq;cases d' with
   |dct ks' l'=>simp[D.dep]at nd
   |sct k'=>simp[D.dep]at nd
   |fn x' l'=>simp[D.dep]at nd
   |non=>cases(show v'=.non from en');cases(show u'=br from r');exact⟨.tuple_none q hu0,.tuple_none q hu0⟩
   |bl k=>cases(show v'=.bl k from en');cases(show u'=bB k from r');exact⟨.tuple_bool _ q hu0,.tuple_bool _ q hu0⟩
   |int k=>cases(show v'=.int k from en');obtain⟨t,q'⟩:=(show ∃t,u'=bj k t from r');subst q';exact⟨.tuple_int _ _ q hu0,.tuple_int _ _ q hu0⟩
   |str k=>cases(show v'=.str k from en');obtain⟨t,q'⟩:=(show ∃t,u'=b7 k t from r');subst q';exact⟨.tuple_str _ _ q hu0,.tuple_str _ _ q hu0⟩
   |lst ds'=>obtain⟨a',ys,e,sq',_⟩:=en';subst e;cases(show u'=aJ a' from r');obtain⟨_,_,q',_⟩:=I.list sq';exact⟨.tuple_list q q'.isList hu0,.tuple_list q q'.isList hu0⟩
   |tup ds' =>
    obtain⟨a',ys,e,sq',l'⟩:=id en';subst e;cases(show u'=aJ a' from r');obtain⟨us',rv',q',_⟩:=I.tuple sq';have e1:us.length=ds.length:=by rw[<-rv.length,l.length]
    have e2:us'.length=ds'.length:=by rw[<-rv'.length,l'.length]
    have main:eJ A s (.ref a) (.ref a') (deq (.tup ds) (.tup ds')):=by
     have item:∀(j:Nat)(h1:j<us.toArray.size)(h2:j<us'.toArray.size),d6 A.in1 s us.toArray[j] us'.toArray[j] (deq (ds.getD j .non) (ds'.getD j .non)):=λj h1 h2=>by
      have k1:j<ds.length:=by rw[<-e1];simpa using h1
      have k2:j<ds'.length:=by rw[<-e2];simpa using h2
      obtain⟨x,hx,ex⟩:=l.get (kh k1);obtain⟨y,hy,ey⟩:=l'.get (kh k2);obtain⟨w1,hw1,rw1⟩:=rv.get hx;obtain⟨w2,hw2,rw2⟩:=rv'.get hy;have g1:us.toArray[j]=w1:=by simp at h1 ⊢;rw[kh (by simpa using h1)]at hw1;exact aD hw1
      have g2:us'.toArray[j]=w2:=by simp at h2 ⊢;rw[kh (by simpa using h2)]at hw2;exact aD hw2
      rw[g1,g2,xf,xf,kh k1,kh k2];exact(V3 I n A.in1 (X8 (D.depL_le (kh k1)) hd) hu1 (T6 (D.depL_le (kh k2)) (by simp only[D.dep]at nd;omega)) ex rw1 ey rw2).2
     have z:=SeqAt.RcAt.tuples (A:=A) (s:=s) q q' hu0 (e:=λj=>deq (ds.getD j .non) (ds'.getD j .non)) item;have ev:((aS (min us.toArray.size us'.toArray.size)).all (λj=>deq (ds.getD j .non) (ds'.getD j .non))&&us.toArray.size==us'.toArray.size)=deq (.tup ds) (.tup ds'):=by
      simp only[K4,X3,e1,e2];by_cases hl:ds.length=ds'.length
      .rw[hl,iT,beq_self_eq_true,il,<-hl];exact Qo hl λj x y hx hy=>by rw[xf,xf,hx,hy];rfl
      .rw[Vd hl,beq_false_of_ne hl,i3]
     rw[ev]at z;exact z
    refine⟨main,?_⟩;by_cases ea:a=a'
    .subst ea;have e9:(9900:Nat)=bb:=rfl;rw[Enc.inj I nofun nd en en',Ru _ nd];exact .same _
    .exact .of_refs ea main
  |lst ds =>
   have hd:D.depL ds<=n:=by simp[D.dep]at hn;omega
   obtain⟨a,xs,e,sq,l⟩:=id en;subst e;cases(show u=aJ a from r);obtain⟨us,rv,q0,_⟩:=I.list sq;have q:=q0.isList;cases d' with
   |dct ks' l'=>simp[D.dep]at nd
   |sct k'=>simp[D.dep]at nd
   |fn x' l'=>simp[D.dep]at nd
   |non=>cases(show v'=.non from en');cases(show u'=br from r');exact⟨.list_none q hu0,.list_none q hu0⟩
   |bl k=>cases(show v'=.bl k from en');cases(show u'=bB k from r');exact⟨.list_bool _ q hu0,.list_bool _ q hu0⟩
   |int k=>cases(show v'=.int k from en');obtain⟨t,q'⟩:=(show ∃t,u'=bj k t from r');subst q';exact⟨.list_int _ _ q hu0,.list_int _ _ q hu0⟩
   |str k=>cases(show v'=.str k from en');obtain⟨t,q'⟩:=(show ∃t,u'=b7 k t from r');subst q';exact⟨.list_str _ _ q hu0,.list_str _ _ q hu0⟩
   |tup ds'=>obtain⟨a',ys,e,sq',_⟩:=en';subst e;cases(show u'=aJ a' from r');obtain⟨_,_,q',_⟩:=I.tuple sq';exact⟨.list_tuple q q' hu0,.list_tuple q q' hu0⟩
   |lst ds' =>
    obtain⟨a',ys,e,sq',l'⟩:=id en';subst e;cases(show u'=aJ a' from r');obtain⟨us',rv',q0',_⟩:=I.list sq';have q':=q0'.isList;have e1:us.length=ds.length:=by rw[<-rv.length,l.length]
    have e2:us'.length=ds'.length:=by rw[<-rv'.length,l'.length]
    have main:eJ A s (.ref a) (.ref a') (deq (.lst ds) (.lst ds')):=by
     have item:∀(j:Nat)(h1:j<us.toArray.size)(h2:j<us'.toArray.size),d6 A.in1 s us.toArray[j] us'.toArray[j] (deq (ds.getD j .non) (ds'.getD j .non)):=λj h1 h2=>by
      have k1:j<ds.length:=by rw[<-e1];simpa using h1
      have k2:j<ds'.length:=by rw[<-e2];simpa using h2
      obtain⟨x,hx,ex⟩:=l.get (kh k1);obtain⟨y,hy,ey⟩:=l'.get (kh k2);obtain⟨w1,hw1,rw1⟩:=rv.get hx;obtain⟨w2,hw2,rw2⟩:=rv'.get hy;have g1:us.toArray[j]=w1:=by simp at h1 ⊢;rw[kh (by simpa using h1)]at hw1;exact aD hw1
      have g2:us'.toArray[j]=w2:=by simp at h2 ⊢;rw[kh (by simpa using h2)]at hw2;exact aD hw2
      rw[g1,g2,xf,xf,kh k1,kh k2];exact(V3 I n A.in1 (X8 (D.depL_le (kh k1)) hd) hu1 (T6 (D.depL_le (kh k2)) (by simp only[D.dep]at nd;omega)) ex rw1 ey rw2).2
     simp only[K6];by_cases hl:ds.length=ds'.length
     .have z:=SeqAt.RcAt.lists (A:=A) (s:=s) q q' (by simp[e1,e2,hl]) hu0 (e:=λj=>deq (ds.getD j .non) (ds'.getD j .non)) item;have ev:(aS us.toArray.size).all (λj=>deq (ds.getD j .non) (ds'.getD j .non))=zx ds ds':=by rw[X3,e1];exact Qo hl λj x y hx hy=>by rw[xf,xf,hx,hy];rfl
      rw[ev]at z;exact z
     .rw[Vd hl];exact .lists_lengths q q' (by simp[e1,e2,hl]) hu0
    refine⟨main,?_⟩;by_cases ea:a=a'
    .subst ea;have e9:(9900:Nat)=bb:=rfl;rw[Enc.inj I nofun nd en en',Ru _ nd];exact .same _
    .exact .of_refs ea main
end
section
variable{X:Cx}{pins:k5m}{σ:St}{H:Hp}{s:aq}{A:aF}
theorem j61(I:Inv X pins σ H s){n:Nat}{ds ds':List D}{xs ys:List V}{us us':List aj}(l:j6 X.K H ds xs)(rv:Vals xs us)(l':j6 X.K H ds' ys)(rv':Vals ys us')(hd:D.depL ds<=n)(hu:A.units+1+n<bb)(nd:D.depL ds'<10000) :
  ∀(j:Nat)(h1:j<us.toArray.size)(h2:j<us'.toArray.size),d6 A.in1 s us.toArray[j] us'.toArray[j] (deq (ds.getD j .non) (ds'.getD j .non)):=λj h1 h2=>by
 have k1:j<ds.length:=by rw[<-l.length,rv.length];simpa using h1
 have k2:j<ds'.length:=by rw[<-l'.length,rv'.length];simpa using h2
 obtain⟨x,hx,ex⟩:=l.get (kh k1);obtain⟨y,hy,ey⟩:=l'.get (kh k2);obtain⟨w1,hw1,rw1⟩:=rv.get hx;obtain⟨w2,hw2,rw2⟩:=rv'.get hy;have g1:us.toArray[j]=w1:=by simp at h1 ⊢;rw[kh (by simpa using h1)]at hw1;exact aD hw1
 have g2:us'.toArray[j]=w2:=by simp at h2 ⊢;rw[kh (by simpa using h2)]at hw2;exact aD hw2
 rw[g1,g2,xf,xf,kh k1,kh k2];exact(V3 I n A.in1 (X8 (D.depL_le (kh k1)) hd) hu (T6 (D.depL_le (kh k2)) nd) ex rw1 ey rw2).2
theorem j2o(hu:X.A.units+100<bb):OpR X (b0 .Eq) (λx y H Q=>∃d d',Enc X.K H d x/\Enc X.K H d' y/\d.dep<=100/\d'.dep<10000/\Q (.bl (deq d d')) H):=by rintro pins s σ H x y v u Q I rx ry ⟨d,d',en,en',hd,nd,q⟩;exact(V3 I 100 X.A hd hu nd en rx en' ry).1 X.prog X.w X.xe _ ⟨.bl (deq d d'),H,I,rfl,q⟩
theorem j2m(hu:X.A.units+100<bb):OpR X (b0 .NotEq) (λx y H Q=>∃ds ds' k,Enc X.K H (D.seq k ds) x/\Enc X.K H (D.seq k ds') y/\D.depL ds<=98/\D.depL ds'<10000/\Q (.bl (!zx ds ds')) H):=by
 rintro pins s σ H x y v u Q I rx ry ⟨ds,ds',k,en,en',hd,nd,q⟩;have h0:X.A.units<bb:=by omega
 obtain⟨t,xs,e,sq,l⟩:=V4 en;obtain⟨t',ys,e',sq',l'⟩:=V4 en';subst e e';cases rx;cases ry;obtain⟨us,rv,qs,_⟩:=I.side sq;obtain⟨us',rv',qs',_⟩:=I.side sq';have e1:us.length=ds.length:=by rw[<-rv.length,l.length]
 have e2:us'.length=ds'.length:=by rw[<-rv'.length,l'.length]
 have item:=j61 (A:=X.A) I l rv l' rv' hd nofun nd;unfold Yh at qs qs';cases k with
 |true =>
  rw[if_pos rfl]at qs qs';by_cases hl:ds.length=ds'.length
  .have z:=SeqAt.RcNeAt.lists (A:=X.A) (s:=s) qs qs' (by simp[e1,e2,hl]) h0 (e:=λj=>deq (ds.getD j .non) (ds'.getD j .non)) item;have ev:(aS us.toArray.size).all (λj=>deq (ds.getD j .non) (ds'.getD j .non))=zx ds ds':=by rw[X3,e1];exact Qo hl λj x y hx hy=>by rw[xf,xf,hx,hy];rfl
   rw[ev]at z;exact z X.prog X.w X.xe _ ⟨.bl (!zx ds ds'),H,I,rfl,q⟩
  .have z:=SeqAt.RcNeAt.lists_lengths (A:=X.A) (s:=s) qs qs' (by simp[e1,e2,hl]) h0;rw[Vd hl]at q;exact z X.prog X.w X.xe _ ⟨.bl ag,H,I,rfl,q⟩
 |false =>
  rw[if_neg xx]at qs qs';have z:=SeqAt.RcNeAt.tuples (A:=X.A) (s:=s) qs qs' h0 (e:=λj=>deq (ds.getD j .non) (ds'.getD j .non)) item;have ev:((aS (min us.toArray.size us'.toArray.size)).all (λj=>deq (ds.getD j .non) (ds'.getD j .non))&&us.toArray.size==us'.toArray.size)=zx ds ds':=by
   simp only[X3,e1,e2];by_cases hl:ds.length=ds'.length
   .rw[hl,iT,beq_self_eq_true,il,<-hl];exact Qo hl λj x y hx hy=>by rw[xf,xf,hx,hy];rfl
   .rw[Vd hl,beq_false_of_ne hl,i3]
  rw[ev]at z;exact z X.prog X.w X.xe _ ⟨.bl (!zx ds ds'),H,I,rfl,q⟩
noncomputable def eqW(X:Cx)(H:Hp)(d:D)(y:aj):Bool:=@decide (∃e v,e.dep<10000/\Enc X.K H e v/\RelV v y/\deq e d=ag) (cP _)
theorem j3f(I:Inv X pins σ H s){d e:D}{v:V}{y:aj}(he:e.dep<10000)(en:Enc X.K H e v)(r:RelV v y):eqW X H d y=deq e d:=by
 unfold eqW;cases h:deq e d with
 |true=>exact @decide_eq_true _ (cP _) ⟨e,v,he,en,r,h⟩
 |false =>refine @decide_eq_false _ (cP _) λ⟨e',v',he',en',r',h'⟩=>?_;rw[r'.inj r]at en';rw[Enc.inj I he' he en' en,h]at h';cases h'
theorem Bu(I:Inv X pins σ H s){d:D}:∀{ds:List D}{xs:List V}{us:List aj},D.depL ds<10000->j6 X.K H ds xs->Vals xs us->us.any (eqW X H d)=ds.any λe=>deq e d
 |[],_,_,_,h,r=>by cases h;cases r;rfl
 |e::ds,_,_,hd,⟨x,r,eq,h,l⟩,rv=>by
  subst eq;rw[D.depL]at hd;cases rv with
  |cons a b=>rw[cq,cq,Bu I nofun l b,j3f I nofun h a]
theorem Oz(I:Inv X pins σ H s){d:D}{v:V}{u:aj}(en:Enc X.K H d v)(r:RelV v u)(nd:d.dep<10000){n:Nat}(hu:A.units+n<bb):∀{ds:List D}{xs:List V}{us:List aj},D.depL ds<=n->j6 X.K H ds xs->Vals xs us->∀y∈us,d6 A s y u (eqW X H d y)
 |[],_,_,_,h,rv,y,hy=>by cases h;cases rv;cases hy
 |e::ds,_,_,hd,⟨x,r',eq,h,l⟩,rv,y,hy=>by
  subst eq;have hd':e.dep<=n/\D.depL ds<=n:=by simp[D.depL]at hd;omega
  cases rv with
  |cons a b =>
   rcases km.mp hy with rfl|hy
   .have e9:(9900:Nat)=bb:=rfl;rw[j3f I nofun h a];exact(V3 I n A hd'.1 hu nd h a en r).2
   .exact Oz I en r nd hu hd'.2 l b y hy
theorem j2n(hu:X.A.units+100<bb):OpR X (b0 .In) (λx y H Q=>∃d ds k,Enc X.K H d x/\Enc X.K H (D.seq k ds) y/\D.depL ds<=98/\d.dep<10000/\Q (.bl (ds.any λe=>deq e d)) H):=by
 rintro pins s σ H x y v u Q I rx ry ⟨d,ds,k,en,en',hd,nd,q⟩;obtain⟨t,xs,e,sq,l⟩:=V4 en';subst e;cases ry;obtain⟨us,rv,qs,_⟩:=I.side sq;have me:=λy (hy:y∈us.toArray)=>Oz (A:=X.A.in1) I en rx nd (n:=98) (by show X.A.units+1+98<bb;omega) hd l rv y (by simpa using hy);have ev:us.toArray.any (eqW X H d)=ds.any λe=>deq e d:=by rw[gP];exact Bu I nofun l rv
 unfold Yh at qs;cases k with
 |true=>rw[if_pos rfl]at qs;exact SeqAt.in_listAt (eqW X H d) qs me (by rw[ev];exact⟨.bl _,H,I,rfl,q⟩)
 |false=>rw[if_neg xx]at qs;exact SeqAt.in_tupleAt (eqW X H d) qs me (by rw[ev];exact⟨.bl _,H,I,rfl,q⟩)
theorem N5(hu:X.A.units+100<bb):OpR X (b0 .NotIn) (λx y H Q=>∃d ds k,Enc X.K H d x/\Enc X.K H (D.seq k ds) y/\D.depL ds<=98/\d.dep<10000/\Q (.bl (!ds.any λe=>deq e d)) H):=by
 rintro pins s σ H x y v u Q I rx ry ⟨d,ds,k,en,en',hd,nd,q⟩;obtain⟨t,xs,e,sq,l⟩:=V4 en';subst e;cases ry;obtain⟨us,rv,qs,_⟩:=I.side sq;have me:=λy (hy:y∈us.toArray)=>Oz (A:=X.A.in1) I en rx nd (n:=98) (by show X.A.units+1+98<bb;omega) hd l rv y (by simpa using hy);have ev:us.toArray.any (eqW X H d)=ds.any λe=>deq e d:=by rw[gP];exact Bu I nofun l rv
 unfold Yh at qs;cases k with
 |true=>rw[if_pos rfl]at qs;exact SeqAt.notIn_listAt (eqW X H d) qs me (by rw[ev];exact⟨.bl _,H,I,rfl,q⟩)
 |false=>rw[if_neg xx]at qs;exact SeqAt.notIn_tupleAt (eqW X H d) qs me (by rw[ev];exact⟨.bl _,H,I,rfl,q⟩)
theorem j5k:OpR X (aZ .Add) (λx y H Q=>∃a b xs ys,x=.ref a/\y=.ref b/\SqT X.K H a xs/\SqT X.K H b ys/\xs.length+ys.length<=aw /\
  (xs=[]->Q (.ref b) H)/\(xs≠[]->ys=[]->Q (.ref a) H)/\(xs≠[]->ys≠[]->∀p,H p=ah->Q (.ref p) (upd H p (.tup (xs++ys))))):=by
 rintro pins s σ H x y v u Q I rx ry ⟨a,b,xs,ys,e,e',sa,sb,hz,q1,q2,q3⟩;by_cases hx:xs=[]
 .subst e e' hx;cases rx;cases ry;obtain⟨us,ru,⟨⟨c1,d1,f1,g1⟩,h1,k1,n1,m1⟩,_⟩:=I.tuple sa;obtain⟨vs,rv,⟨⟨c2,d2,f2,g2⟩,h2,k2,n2,m2⟩,_⟩:=I.tuple sb;cases ru;have k1:c1=.type "tuple":=k1;have m1:f1=.seq ([]:List aj).toArray n1:=m1;have k2:c2=.type "tuple":=k2;have m2:f2=.seq vs.toArray n2:=m2;subst k1 m1 k2 m2;exact eO ⟨_,h1,rfl⟩ ⟨_,h2,rfl⟩ eW fZ cX cR (cM _ _)
   (tuple_addW0 a b ([]:List aj).toArray vs.toArray n1 n2 d1 d2 g1 g2 (by simp)) ⟨h1,h2,⟨.ref b,H,I,rfl,q1 rfl⟩⟩
 .exact j9b pins s σ H x y v u Q I rx ry ⟨a,b,xs,ys,e,e',sa,sb,hx,hz,q2 hx,q3 hx⟩
theorem all_range:∀bs:List Bool,(aS bs.length).all (λi=>(bs[i]?).getD ag)=bs.all id
 |[]=>rfl
 |b::bs=>by rw[xn,df,fh,fC,fh,<-all_range bs];rfl
theorem Ia (hc:X.calm=ag):vm X (.builtin "all") (λxs H Q=>∃(l:ak)(bs:List Bool),xs=[.ref l]/\SqL X.K H l (bs.map V.bl)/\Q (.bl (bs.all id)) H):=by
 rintro pins s σ H xs us Q I r ⟨l,bs,e,sq,q⟩;subst e;obtain⟨u,eu,ru⟩:=vals1 r;subst eu;cases ru;obtain⟨its,rv,pl,_⟩:=I.list sq;have hlt:l<s.heap.objs.size:=by obtain⟨_,_,e,_⟩:=pl;exact xq e
 have hl:its.length=bs.length:=by rw[<-rv.length,xj]
 refine call_all_walk (d8 pl.isList ⟨s.heap.objs.size,[s.heap.objs.size,l],[s.heap.objs.size],its.toArray.size,_,_,λi=>(bs[i]?).getD ag,rfl,Walks.list (A:=X.A.in1) (I.ok.hd hc) _ _ (Xc hlt) its.toArray,⟨⟨_,Xe _ rfl,rfl,rfl⟩,pl.isList.push _⟩,?_,λh' tk kp=>?_⟩)
 .intro i v s' Q' E' hv hq;have hi:i<its.length:=by have:=Array.getElem?_eq_some_iff.mp hv;obtain⟨h,_⟩:=this;simpa using h
  have hb:i<bs.length:=by omega
  obtain⟨w1,hw,rw1⟩:=rv.get (x:=.bl bs[i]) (i:=i) (by rw[Xi,kh hb];rfl);have:its.toArray[i]?=ae w1:=by simpa using hw
  rw[this]at hv;cases hv;cases rw1;simp only[kh hb,cV]at hq;exact bN hq
 .have ev:(aS its.toArray.size).all (λi=>(bs[i]?).getD ag)=bs.all id:=by rw[X3,hl];exact all_range bs
  rw[ev];refine⟨.bl _,H,I.kept (t':=tk) λb o e=>kp b o ?_ (xu _ e),rfl,q⟩;intro z;rw[xm.mp z]at e;exact pq _ (xq e)
end
section
variable{X:Cx}{ρ:Rho}{a b e:ar}{d d':D}{ds ds':List D}{i j:Int}{pos p p1 p2:aQ}{k:Nat}{x:ao}{P:Po}
theorem DE.eqD(hu:X.A.units+100<bb)(ha:DT X ρ a d)(hb:DT X ρ b d')(hd:d.dep<=100)(nd:d'.dep<10000):DE X ρ (.Compare a [.Eq] [b] pos) (.bl (deq d d')):=λσ H Q R q =>(J7 (j2o hu) peS peS (za _)).to (ha σ H _ R λv H1 g1 e1=>hb σ H1 _ (R.grow g1) λu H2 g2 e2=>⟨d,d',e1.mono g2,e2,hd,nd,q _ H2 (g1.trans g2) rfl⟩)
theorem DB.eqD(hu:X.A.units+100<bb)(ha:DT X ρ a d)(hb:DT X ρ b d')(hd:d.dep<=100)(nd:d'.dep<10000):DB X ρ (.Compare a [.Eq] [b] pos) (deq d d'):=λσ H Q R q =>(J5 (j2o hu) peS peS (za _)).to (ha σ H _ R λv H1 g1 e1=>hb σ H1 _ (R.grow g1) λu H2 g2 e2=>⟨d,d',e1.mono g2,e2,hd,nd,_,rfl,q H2 (g1.trans g2)⟩)
theorem DB.neD(s:Bool)(hu:X.A.units+100<bb)(ha:DT X ρ a (D.seq s ds))(hb:DT X ρ b (D.seq s ds'))(hd:D.depL ds<=98)(nd:D.depL ds'<10000):DB X ρ (.Compare a [.NotEq] [b] pos) (!zx ds ds'):=λσ H Q R q =>(J5 (j2m hu) peS peS (za _)).to (ha σ H _ R λv H1 g1 e1=>hb σ H1 _ (R.grow g1) λu H2 g2 e2=>⟨ds,ds',s,e1.mono g2,e2,hd,nd,_,rfl,q H2 (g1.trans g2)⟩)
theorem DB.notIn(s:Bool)(hu:X.A.units+100<bb)(ha:DT X ρ a d)(hb:DT X ρ b (D.seq s ds))(hd:D.depL ds<=98)(nd:d.dep<10000)(hm:aN .NotIn b=af:=by with_unfolding_all rfl):DB X ρ (.Compare a [.NotIn] [b] pos) (!ds.any λe=>deq e d):=λσ H Q R q =>(J5 (N5 hu) peS peS hm).to (ha σ H _ R λv H1 g1 e1=>hb σ H1 _ (R.grow g1) λu H2 g2 e2=>⟨d,ds,s,e1.mono g2,e2,hd,nd,_,rfl,q H2 (g1.trans g2)⟩)
theorem DB.in(s:Bool)(hu:X.A.units+100<bb)(ha:DT X ρ a d)(hb:DT X ρ b (D.seq s ds))(hd:D.depL ds<=98)(nd:d.dep<10000)(hm:aN .In b=af:=by with_unfolding_all rfl):DB X ρ (.Compare a [.In] [b] pos) (ds.any λe=>deq e d):=λσ H Q R q =>(J5 (j2n hu) peS peS hm).to (ha σ H _ R λv H1 g1 e1=>hb σ H1 _ (R.grow g1) λu H2 g2 e2=>⟨d,ds,s,e1.mono g2,e2,hd,nd,_,rfl,q H2 (g1.trans g2)⟩)
theorem DE.min (ha:DT X ρ a (.int i)) (hb:DT X ρ b (.int j)) (hm:X.mg "min" = ah) (hc:X.calm=ag:=by rfl) (hg:Gl X "min":=by rfl) (hs:ai [a,b] X.env=(af,aH a X.env)::ai [b] X.env:=by rfl) (hs2:ai [b] X.env=(af,aH b X.env)::ai [] X.env:=by rfl)
  (hpl:(aV pos (ai [b] X.env)).any (·.1)=af:=by rfl):DE X ρ (.Call (.Name "min" p) [a,b] [] pos) (.int (if j<i then j else i)):=λσ H Q R q =>
 (qz (j41 hc) hg hm boot_min (j9 peS (j9 peS ju hs2) hs) (by decide) (by decide) hs hpl).to (ha σ H _ R λv H1 g1 e1=>hb σ H1 _ (R.grow g1) λu H2 g2 e2=>⟨i,j,by rw[show v=.int i from e1,show u=.int j from e2],q _ H2 (g1.trans g2) rfl⟩)
theorem Rr{K:k5k}{H:Hp}:∀{bs:List Bool}{xs:List V},j6 K H (bs.map D.bl) xs->xs=bs.map V.bl
 |[],_,h=>h
 |b::bs,_,⟨x,r,e,h,l⟩=>by subst e;cases(show x=.bl b from h);rw[Rr l];rfl
theorem DE.all {bs:List Bool} (ha:DT X ρ a (.lst (bs.map D.bl))) (hm:X.mg "all" = ah) (hc:X.calm=ag:=by rfl) (hg:Gl X "all":=by rfl) (hs:ai [a] X.env=[(af,aH a X.env)]:=by rfl):DE X ρ (.Call (.Name "all" p) [a] [] pos) (.bl (bs.all id)):=λσ H Q R q =>(qz (Ia hc) hg hm boot_all (j9 peS ju hs) (by decide) (by decide) hs).to (ha σ H _ R λv H1 g1 ⟨l,xs,e,sq,en⟩=>⟨l,bs,by rw[e],by rw[Rr en]at sq;exact sq,q _ H1 g1 rfl⟩)
def jbl(X:Cx)(e:Option ar):TO:=λσ H Q=>∀pins s,Inv X pins σ H s->aC (aB X.prog X.w) X.A (evalPart e X.env) (λu s'=>∃o H',Inv X pins σ H' s'/\dO u o/\Q o H') X.xe s
theorem poS{e:Option ar}:PO X e (jbl X e):=λpins s σ H Q I h=>h pins s I
def DP(X:Cx)(ρ:Rho)(e:Option ar)(o:Option Int):Prop:=∀σ H Q,Rep X.K ρ σ H->(∀H',j4 H H'->Q o H')->jbl X e σ H Q
theorem DP.none:DP X ρ ah ah:=λσ H Q R q pins s I=>j92 pins s σ H Q I (q H (j4.refl H))
theorem DP.some(h:DT X ρ e (.int i)):DP X ρ (ae e) (ae i):=λσ H Q R q pins s I=>j91 peS pins s σ H Q I (h σ H _ R λv H1 g1 e1=>⟨i,e1,q H1 g1⟩)
variable{lo hi:Option ar}{l u:Option Int}
end
def jba(K:k5k)(S:List D->List D->D->List D->Prop):Sp:=λvs H Q _=>∃(a:ak)(ds l:List D)(d:D)(l':List D)(ws xs:List V),vs=ws++[.ref a]/\TabOk K H/\H a=ae (.lst xs)/\j6 K (del H [a]) l xs/\j6 K (del H [a]) ds ws/\S ds l d l' /\
 ∀v H' ys,j4 (del H [a]) (del H' [a])->H' a=ae (.lst ys)->j6 K (del H' [a]) l' ys->Enc K (del H' [a]) d v->Q v H'
section
variable{X:Cx}{ρ ρ1:Rho}{e e1 e2 e3 c:ar}{st:aP}{rest sa:List aP}{a:ak}{d d1 d2 d3:D}{l l':List D}{k i:Nat}{x y f:ao}{p p1 p2 p3 p4 pos:aQ}
end
noncomputable def j2g(draw n:Int):Int:=if 0<n then n%60 else(draw*48271+11)%2147483647/16
noncomputable def Rh(draw n:Int):Int:=if 0<n then n%60/6%2 else(draw*48271+11)%2147483647/128%2
noncomputable def W9(n:Int):Int:=if 0<n then n/60 else n
noncomputable def Vj:Nat->List ao->Int->Int->D×Int
 |0,_,draw,n=>(.tup [.str "tell",.int (Rh draw n)],W9 n)
 |k+1,ws,draw,n=>match ws[(j2g draw n%ws.length).toNat]? with
  |none=>(.tup [.str "tell",.int (Rh draw n)],W9 n)
  |some y=>if j2g draw n%6=0 then(.tup [.str "tell",.int (Rh draw n)],W9 n)
   else(.tup [.str "ask",.str y,(Vj k (ws.filter λz=>!(z==y)) ((draw*48271+11)%2147483647*3+1) (W9 n)).1,
     (Vj k (ws.filter λz=>!(z==y)) ((draw*48271+11)%2147483647*5+2) (Vj k (ws.filter λz=>!(z==y)) ((draw*48271+11)%2147483647*3+1) (W9 n)).2).1],
    (Vj k (ws.filter λz=>!(z==y)) ((draw*48271+11)%2147483647*5+2) (Vj k (ws.filter λz=>!(z==y)) ((draw*48271+11)%2147483647*3+1) (W9 n)).2).2)
def j7l(ds l:List D)(d:D)(l':List D):Prop:=∃(ws:List ao)(draw n:Int)(k:Nat),ds=[.lst (ws.map D.str),.int draw,.int k]/\l=[.int n]/\k<=5/\ws.length<=60/\d=(Vj k ws draw n).1/\l'=[.int (Vj k ws draw n).2]
section
variable{P:ay}{w:aE}{K:k5k}{mg:k5n}{base:aK}{x qual:ao}{st:aP}{f:ak}{fd:aL}{N ps:List ao}{k:Nat}
end
def Fz(o:Option HO):Prop:=(∃xs,o=ae (.lst xs))\/∃oc v,o=ae (.frz oc (.own 0))/\oc.data=.cell v
theorem j3b{P:ay}{w:aE}{K:k5k}{mg:k5n}{base:aK}{A0:aF}{outer:List cG}{s:aq}{H:Hp}{A:List ak}(e0:Env0 P w K mg base A0 outer s H)(hA:∀a∈A,Fz (H a)) :
  Env0 P w K mg base A0 outer s (del H A)/\∀(Q:VK)(E E':XK)(r:dN)(s':aq),CR CX0 outer P w (del H A) s (λv F=>(∀a∈A,F a=ah)->Q v (mrg A H F)) E r s'->CR CX0 outer P w H s Q E' r s':=by
 have nd:∀{b:ak},H b=ah->del H A b=ah:=λ{b} q=>by
  by_cases z:b∈A
  .exact zc z
  .rw[j5 z];exact q
 have out:∀{b:ak}{o:HO},H b=ae o->(∀ys,o≠.lst ys)->(∀oc v,o=.frz oc (.own 0)->oc.data≠.cell v)->b∉A:=λ{b o} q z z2 y=>by
  rcases hA b y with ⟨ys,e'⟩|⟨oc,v,e',d⟩
  .rw[q]at e';cases e';exact z ys rfl
  .rw[q]at e';cases e';exact z2 _ _ rfl d
 have e1:Env0 P w K mg base A0 outer s (del H A):=⟨e0.frames,e0.mod,λb o q=>⟨(e0.bs b o q).1,nd (e0.bs b o q).2⟩,e0.bsz,e0.funs,λb hb=>nd (e0.frf b hb),
  λa o q=>by
   obtain⟨_,q⟩:=of_del q
   exact jl.stay (e0.hok a o q) (λb u _ z=>z) (λb z=>by rw[j5 (out z (λ_ y=>by cases y) λ_ _ y=>by cases y)];exact z) (λb xs z=>by rw[j5 (out z (λ_ y=>by cases y) λ_ _ y=>by cases y)];exact z)
    (λb o ⟨vs,d⟩ z=>by rw[j5 (out z (λ_ y=>by cases y) λ_ _ y d'=>by cases y;rw[d]at d';cases d')];exact z),e0.bare⟩
 refine⟨e1,λQ E E' r s' hq=>?_⟩;cases r with
 |error e=>exact(show False from hq).elim
 |ok fl =>
  cases fl with
  |next=>exact(show False from hq).elim
  |brk=>exact(show False from hq).elim
  |cont=>exact(show False from hq).elim
  |ret u =>
   obtain⟨v,H',os,bare,un,hok',rel,q⟩:=(show CE outer P w (del H A) s _ u s' from hq)
   have kept:∀a∈A,∃o,s.heap.get? a=ae o/\s'.heap.get? a=ae o/\H' a=ah:=λa ha=>by
    have nf:a∉frs outer:=λy=>by have z:=e0.frf a y;rcases hA a ha with ⟨xs,e⟩|⟨oc,v,e,_⟩<;>(rw[z]at e;cases e)
    have ob:∃o,s.heap.get? a=ae o:=by
     rcases hA a ha with ⟨xs,e⟩|⟨oc,v,e,_⟩
     .obtain⟨_,its,n,_,z⟩:=(show jl P w H s.heap a (.lst xs)from e0.hok _ _ e);exact⟨_,z⟩
     .exact⟨_,(show jl P w H s.heap a (.frz oc (.own 0))from e0.hok _ _ e).1⟩
    obtain⟨o,z⟩:=ob;exact⟨_,z,un.keep a _ z (zc ha) nf (by simp),un.free a _ z (zc ha) (by simp)⟩
   have hF:∀a∈A,H' a=ah:=λa ha=>let ⟨_,_,_,z⟩:=kept a ha;z;have outF:∀{b:ak}{o:HO},H' b=ae o->b∉A:=λ{b o} e z=>by rw[hF b z]at e;cases e
   refine⟨v,mrg A H H',os,bare,?_,λa o e=>?_,rel,q hF⟩
   .exact{
     keep:=λb o e n=>un.keep b o e (nd n)
     slot:=λb o e n=>un.slot b o e (nd n)
     free:=λb o e n hx=>by
      by_cases z:b∈A
      .rw[vz z];exact n
      .rw[jh z];exact un.free b o e (nd n) hx
     there:=un.there
     tups:=λb xs e=>by
      have z:=un.tups b xs (by rw[j5 (out e (λ_ y=>by cases y) λ_ _ y=>by cases y)];exact e)
      rw[jh (outF z)];exact z
     frzs:=λb o u e=>by
      by_cases y:b∈A
      .rw[vz y];exact e
      .have z:=un.frzs b o u (by rw[j5 y];exact e)
       rw[jh y];exact z
     tbls:=λb ps e=>by
      obtain⟨more,z⟩:=un.tbls b ps (by rw[j5 (out e (λ_ y=>by cases y) λ_ _ y=>by cases y)];exact e)
      exact⟨more,by rw[jh (outF z)];exact z⟩ }
   .by_cases z:a∈A
    .rw[vz z]at e;obtain⟨o',q1,q2,_⟩:=kept a z;rcases hA a z with ⟨xs,e'⟩|⟨oc,v,e',_⟩
     .rw[e']at e;cases e;obtain⟨hl,its,n,r,y⟩:=(show jl P w H s.heap a (.lst xs)from e0.hok _ _ e')
      rw[y]at q1;cases q1;exact⟨hl,its,n,r,q2⟩
     .rw[e']at e;cases e;have y:=(show jl P w H s.heap a (.frz oc (.own 0))from e0.hok _ _ e').1;rw[y]at q1;cases q1;exact⟨q2,_,q2⟩
    .rw[jh z]at e;refine jl.stay (hok' a o e) (λb u _ q=>q) (λb q=>?_) (λb xs q=>?_) (λb _ _ q=>?_)
     .rw[jh (outF q)];exact q
     .rw[jh (outF q)];exact q
     .rw[jh (outF q)];exact q
structure LamScope(N ps:List ao)(sc:bh):Prop where
 kind:sc.kind=.function
 co:sc.isCoroutine=af
 gen:sc.isGenerator=af
 nd:N.Nodup
 nm:N=Z7 sc++ps
 lfr:∀x∈Z7 sc,sc.names.lookup x=ae .free
 lps:∀x∈ps,sc.names.lookup x=ae .local
 nocell:∀y∈sc.names,y.2≠.cell
 cov:∀x,sc.names.lookup x=ae .free->x∈Z7 sc
noncomputable def Vo(P:ay)(w:aE)(K:k5k)(mg:k5n)(base:aK)(N:List ao)(qual:ao)(scope:bh)(a:ak)(cd:aj)(cl:List (ao×ak))(A:aF)(outer:List cG)(s:aq)(H:Hp):Cx where
 prog:=P
 w:=w
 K:=K
 mg:=mg
 base:=base
 A:=A.deeper (W.envX qual scope s.heap.objs.size a cd cl)
 N:=N
 s₀:=s
 H₀:=H
 env:=W.envX qual scope s.heap.objs.size a cd cl
 outer:=outer
 stack:=W.envX qual scope s.heap.objs.size a cd cl::outer
 ex:=[]
 calm:=ag
 fn:=λ_=>af
 pn:=[]
 xe:=λ_ _=>False
def Jb(h:aK):List ak->List V->Prop
 |[],vs=>vs=[]
 |c::cs,vs=>∃v r u,vs=v::r/\h.IsCell c (ae u)/\RelV v u/\Jb h cs r
theorem Jb.get{h:aK}:∀{cs:List ak}{vs:List V}{i:Nat}{v:V},Jb h cs vs->vs[i]?=ae v->∃c u,cs[i]?=ae c/\h.IsCell c (ae u)/\RelV v u
 |[],_,i,v,e,q=>by cases e;simp at q
 |c::cs,_,0,v,⟨x,r,u,e,h1,h2,_⟩,q=>by subst e;simp at q;subst q;exact⟨c,u,rfl,h1,h2⟩
 |c::cs,_,i+1,v,⟨x,r,u,e,_,_,l⟩,q=>by subst e;obtain⟨c',u',z1,z2⟩:=Jb.get l (i:=i) (by simpa using q);exact⟨c',u',by simpa using z1,z2⟩
theorem Jb.length{h:aK}:∀{cs:List ak}{vs:List V},Jb h cs vs->vs.length=cs.length
 |[],_,e=>by cases e;rfl
 |c::cs,_,⟨x,r,u,e,_,_,l⟩=>by subst e;simp[l.length]
theorem Jb.all{h:aK}:∀{cs:List ak}{vs:List V},Jb h cs vs->∀c∈cs,∃v,h.IsCell c v
 |c::cs,_,⟨x,r,u,e,h1,_,l⟩,b,hb=>(km.mp hb).elim (λz=>z▸⟨_,h1⟩) (l.all b)
theorem lookup_at{α:Type}:∀{l:List (ao×α)} {i:Nat} {p:ao×α},(l.map (·.1)).Nodup->l[i]?=ae p->l.lookup p.1=ae p.2
 |[],i,p,_,h=>by simp at h
 |q::l,0,p,_,h=>by simp at h;subst h;rw[Xb,beq_self_eq_true]
 |q::l,i+1,p,nd,h=>by rw[X5]at nd;rw[fq]at h;have ne:(p.1==q.1)=af:=beq_eq_false_iff_ne.mpr λz=>(Xl.mp nd).1 (z▸g9 (Xq h));rw[Xb,ne];exact lookup_at (Xl.mp nd).2 h
theorem j10{ps:List ao}{us:List aj}{i:Nat}{p:ao}{u:aj}(nd:ps.Nodup)(hl:us.length=ps.length)(h1:ps[i]?=ae p)(h2:us[i]?=ae u):(ps.zip us).reverse.lookup p=ae u:=by
 have hm:(p,u)∈(ps.zip us).reverse:=List.mem_reverse.mpr (Xq (i:=i) (by rw[List.getElem?_zip_eq_some];exact⟨h1,h2⟩));have e:((ps.zip us).reverse.map (·.1))=ps.reverse:=by rw[List.map_reverse,List.map_fst_zip nofun]
 obtain⟨j,hj⟩:=List.mem_iff_getElem?.mp hm;exact lookup_at (by rw[e];exact(List.reverse_perm ps).nodup_iff.mpr nd) hj
section
variable{P:ay}{w:aE}{K:k5k}{mg:k5n}{base:aK}{A:aF}{outer:List cG}{s:aq}{H:Hp}{x:ao}{a c:ak}{tx:Tx}{cl:List (ao×ak)}{pm ctv:aj}{cvs vs:List V}{us:List aj}{N ps:List ao}{k:Nat}{Q:VK}{E:XK}
theorem ja6{h1:aK}{tk:Nat}(hh:A.handled=ah)(e0:Env0 P w K mg base A outer s H)(S:LamScope N ps tx.2.2)(hn:cl.map (·.1)=Z7 tx.2.2)(nd:(cl.map (·.2)).Nodup)(hc:Jb s.heap (cl.map (·.2)) cvs)(hf:∀q∈cl.map (·.2),H q=ah)(rv:Vals vs us)(hl:vs.length=ps.length)
  (ns:h1.Ns s.heap.objs.size λy=>(ps.zip us).reverse.lookup y) (kp:∀b o,s.heap.get? b=ae o->h1.get? b=ae o) :
  Inv (Vo P w K mg base N (zb x) tx.2.2 a (.ref c) cl A outer s H) [] (start N (cvs++vs)) H { s with heap:=h1,toks:=tk }:=by
 have ndN:(Z7 tx.2.2).Nodup:=by have:=S.nd;rw[S.nm]at this;exact(Pz.mp this).1
 have ndP:ps.Nodup:=by have:=S.nd;rw[S.nm]at this;exact(Pz.mp this).2.1
 have ndC:(cl.map (·.1)).Nodup:=by rw[hn];exact ndN
 have lenC:cvs.length=(Z7 tx.2.2).length:=by rw[hc.length,<-hn,xj,xj]
 have lenN:N.length=(cvs++vs).length:=by rw[S.nm,X7,X7,lenC,hl]
 have noA:∀b:ak,b∉(Vo P w K mg base N (zb x) tx.2.2 a (.ref c) cl A outer s H).ex:=λb z=>absurd (show b∈([]:List ak)from z) (by simp);have mem2:∀{y:ao}{q:ak},cl.lookup y=ae q->q∈cl.map (·.2):=λ{y q} h=>Xr.mpr ⟨(y,q),Xy h,rfl⟩;have inj:∀(l:List (ao×ak)),(l.map (·.2)).Nodup->∀y z q,(y,q)∈l->(z,q)∈l->y=z:=λl=>by
  induction l with
  |nil=>intro _ y z q h;cases h
  |cons p r ih =>
   intro nd y z q h1 h2;rw[X5]at nd;obtain⟨n1,n2⟩:=Xl.mp nd;rcases km.mp h1 with e1|h1<;>rcases km.mp h2 with e2|h2
   .rw[<-e1]at e2;cases e2;rfl
   .exact absurd (Xr.mpr ⟨(z,q),h2,by rw[<-e1]⟩) n1
   .exact absurd (Xr.mpr ⟨(y,q),h1,by rw[<-e2]⟩) n1
   .exact ih n2 y z q h1 h2
 refine⟨⟨e0.mod,S.kind,rfl,rfl,X4 _,λy z q h1 h2=>inj cl nd y z q (Xy h1) (Xy h2),λy hy=>?_,λy q h=>(by cases h),λ_=>hh,fw e0.frames,.inr ⟨rfl,rfl⟩,λb z=>absurd z (noA b),e0.bs,e0.bsz,λb _ _=>noA b,λb z=>absurd z (noA b),e0.funs,e0.frf⟩,
  rfl,e0.bare,Un.kept kp,⟨_,ns,λi y v h1 h2 h3=>?_⟩,λy q h=>?_,e0.hok.fresh (X4 _),λy q h=>hf q (mem2 h),λp hp=>absurd (show p∈([]:k5m)from hp) (by simp),e0.hok.kept kp,?_⟩
 .have hy:tx.2.2.names.lookup y=ae .cell\/tx.2.2.names.lookup y=ae .free:=hy;rcases hy with hy|hy
  .exact absurd rfl (S.nocell _ (Xy hy))
  .have m:=S.cov y hy;rw[<-hn]at m;obtain⟨p,hp,e⟩:=Xr.mp m;obtain⟨i,hi⟩:=List.mem_iff_getElem?.mp hp;exact⟨p.2,by have:=lookup_at ndC hi;rw[e]at this;exact this⟩
 .have h1:N[i]?=ae y:=h1;have hi:i<(cvs++vs).length:=by rw[<-lenN];exact(Xn.mp h1).1
  have ha:(cvs++vs)[i]?=ae v:=by
   unfold start at h2;rw[Pg (by simpa using hi),Xi]at h2;cases e:(cvs++vs)[i]? with
   |none=>rw[e]at h2;cases h2
   |some a=>rw[e]at h2;cases h2;rfl
  rw[S.nm]at h1;by_cases z:i<cvs.length
  .rw[Pg z]at ha;rw[Pg nofun]at h1;obtain⟨q,u,e1,e2,r⟩:=hc.get ha;refine⟨u,r,.inr ⟨.inr (S.lfr y (Xq h1)),q,?_,e2.keeps kp⟩⟩;rw[<-hn,Xi]at h1;rw[Xi]at e1;obtain⟨p,hp,ep⟩:=Pq.mp h1;rw[hp]at e1;have:=lookup_at ndC hp;rw[ep]at this;show cl.lookup y=ae q;rw[this];exact e1
  .rw[cJ nofun]at ha h1;rw[<-lenC]at h1;obtain⟨u,hu,r⟩:=rv.get ha;exact⟨u,r,.inl ⟨S.lps y (Xq h1),j10 ndP (by rw[<-rv.length,hl]) h1 hu⟩⟩
 .obtain⟨v,z⟩:=hc.all q (mem2 h);exact⟨v,z.keeps kp⟩
 .unfold start;show _=N.length;rw[X7,xj,fP];omega
theorem j5w (hr:Room (k+1) A) (e0:Env0 P w K mg base A outer s H) (ho:s.heap.get? a=ae (W.kla_obj "<lambda>" (zb x) tx.1 tx.2.1 tx.2.2 cl pm c ctv)) (hcd:s.heap.CodeRec (.ref c) (zb x))
  (S:LamScope N ps tx.2.2) (hn:cl.map (·.1)=Z7 tx.2.2) (nd:(cl.map (·.2)).Nodup) (hc:Jb s.heap (cl.map (·.2)) cvs) (hf:∀q∈cl.map (·.2),H q=ah)
  (hb:c8 (W.kla_fn "<lambda>" (zb x) tx.1 tx.2.1 tx.2.2 cl pm (.ref c) ctv) ⟨us,[]⟩=pure (ps.zip us)) (rv:Vals vs us) (hl:vs.length=ps.length)
  (body:Room k (Vo P w K mg base N (zb x) tx.2.2 a (.ref c) cl A outer s H).A->Jk (Vo P w K mg base N (zb x) tx.2.2 a (.ref c) cl A outer s H) tx.2.1 (start N (cvs++vs)) H Q) :
  c9 (aB P w) A (.call (.ref a) ⟨us,[]⟩) (CR CX0 outer P w H s Q E) s:=by
 have lim:s.heap.NoLimit:=e0.mod.nolimit.keeps λb o e=>(e0.bs b o e).1;refine W.kla_callFunE (by have:=hr.dp;omega) ho rfl S.co S.gen rfl hcd ?_;rw[hb];refine aG (wpAny_newFunctionEnv S.nocell (λy hy=>S.lps y.1 (cz (a:=y.1) (b:=y.2) hy).1) (λh1 ns sb=>⟨lim.fresh _ sb,?_⟩) S.kind);show c9 _ _ (.expr tx.2.1 (W.envX (zb x) tx.2.2 s.heap.objs.size a (.ref c) cl)) _ _;have kp:∀b o,s.heap.get? b=ae o->h1.get? b=ae o:=λb o e=>sb.extBut b o (Xc (xq e)) (xu _ e);have I:=ja6 (x:=x) (a:=a) (c:=c) (tk:=s.toks+(ps.zip us).length) hr.hd e0 S hn nd hc hf rv hl ns kp;refine W.kla_codeExpr (b9 (body (hr.deeper _) [] _ I) (λu s' ⟨v,H',J,r,q⟩=>?_) λ_ _ z=>z.elim);exact⟨v,H',J.os,J.bare,J.base,J.hok,r,q⟩
end
mutual
noncomputable def noFn:D->Bool
 |.fn _ _=>af
 |.tup ds=>Vk ds
 |.lst ds=>Vk ds
 |.dct _ ds=>Vk ds
 |_=>ag
noncomputable def Vk:List D->Bool
 |[]=>ag
 |d::ds=>noFn d&&Vk ds
end
section
variable{K:k5k}{H:Hp}{A:List ak}
def Cel(H:Hp)(A:List ak):Prop:=∀a∈A,∃oc v,H a=ae (.frz oc (.own 0))/\oc.data=.cell v
theorem Cel.out(hA:Cel H A){b:ak}{o:HO}(q:H b=ae o)(h:∀oc,o≠.frz oc (.own 0)):del H A b=ae o:=by rw[j5];exact q;intro y;obtain⟨oc,v,e,_⟩:=hA b y;rw[q]at e;exact h oc (aD e)
theorem Cel.seqT(hA:Cel H A){a:ak}{xs:List V}(h:SqT K H a xs):SqT K (del H A) a xs:=by
 rcases h with (h|⟨o,h⟩)|h
 .exact .inl (.inl (hA.out h λ_ z=>by cases z))
 .exact .inl (.inr ⟨o,hA.out h λ_ z=>by cases z⟩)
 .exact .inr h
theorem Cel.seq(hA:Cel H A){a:ak}{xs:List V}(h:SqL K H a xs):SqL K (del H A) a xs:=by
 rcases h with (h|⟨o,h⟩)|h
 .exact .inl (.inl (hA.out h λ_ z=>by cases z))
 .exact .inl (.inr ⟨o,hA.out h λ_ z=>by cases z⟩)
 .exact .inr h
mutual
theorem Enc.noc(hA:Cel H A):∀{d:D}{v:V},noFn d=ag->Enc K H d v->Enc K (del H A) d v
 |.non,_,_,h=>h
 |.bl _,_,_,h=>h
 |.int _,_,_,h=>h
 |.str _,_,_,h=>h
 |.tup _,_,n,⟨a,xs,e,q,l⟩=>⟨a,xs,e,hA.seqT q,j6.noc hA (by simpa [noFn]using n) l⟩
 |.lst _,_,n,⟨a,xs,e,q,l⟩=>⟨a,xs,e,hA.seq q,j6.noc hA (by simpa [noFn]using n) l⟩
 |.dct _ _,_,n,⟨a,xs,ep,vs,e,q,ek,kt,rv,l⟩=>⟨a,xs,ep,vs,e,hA.out q (λ_ z=>by cases z),ek,λx hx=>hA.seqT (kt x hx),rv,j6.noc hA (by simpa [noFn]using n) l⟩
 |.sct _,_,_,⟨a,e,q⟩=>⟨a,e,hA.out q λ_ z=>by cases z⟩
 |.fn _ _,_,n,_=>by cases n
theorem j6.noc(hA:Cel H A):∀{ds:List D}{xs:List V},Vk ds=ag->j6 K H ds xs->j6 K (del H A) ds xs
 |[],_,_,h=>h
 |d::ds,_,n,⟨x,r,e,h,l⟩=>by rw[Vk,X6]at n;exact⟨x,r,e,Enc.noc hA n.1 h,j6.noc hA n.2 l⟩
end
theorem zr.cel:∀{cs:List ak}{vs:List V},zr H cs vs->Cel H cs
 |[],_,_=>λ_ h=>nomatch h
 |c::cs,_,⟨v,r,o,u,e,h,d,rv,l⟩=>λa ha=>(km.mp ha).elim (λz=>⟨o,_,z▸h,d⟩) (l.cel a)
theorem zr.inn{P:ay}{w:aE}{h:aK}(ok:HOk P w H h):∀{cs:List ak}{vs:List V},zr H cs vs->Jb h cs vs
 |[],_,e=>e
 |c::cs,_,⟨v,r,o,u,e,q,d,rv,l⟩=>⟨v,r,u,e,⟨o,(show jl P w H h c (.frz o (.own 0))from ok _ _ q).1,d⟩,rv,l.inn ok⟩
theorem zr.of_del{B:List ak}:∀{cs:List ak}{vs:List V},zr (del H B) cs vs->zr H cs vs:=λh=>h.mono qb
theorem TabOk.fz(h:TabOk K H)(hA:∀a∈A,Fz (H a)):TabOk K (L2.del H A):=λx hx c P z=>by have q:=h x hx c P z;rw[j5];exact q;intro y;rcases hA _ y with ⟨xs,e⟩|⟨oc,v,e,_⟩<;>(rw[q]at e;cases e)
end
def j1l(P:ay)(w:aE)(K:k5k)(mg:k5n)(base:aK)(k:Nat)(x:ao)(S:List D->D->Prop):Prop :=
 ∀(A:aF)(outer:List cG)(s:aq)(H:Hp)(a:ak)(B:List ak)(cs ds:List D) (d:D) (vs:List V) (us:List aj) (Q:VK) (E:XK),Room k A->Env0 P w K mg base A outer s H->TabOk K H->(∀b∈B,∃xs,H b=ae (.lst xs)) ->
  Enc K (del H B) (.fn x cs) (.ref a)->j6 K (del H B) ds vs->Vk ds=ag->S (cs++ds) d->Vals vs us->(∀v H',j4 H H'->Enc K (del H' B) d v->Q v H')->c9 (aB P w) A (.call (.ref a) ⟨us,[]⟩) (CR CX0 outer P w H s Q E) s
section
variable{P:ay}{w:aE}{K:k5k}{mg:k5n}{base:aK}{k:Nat}{x:ao}{S:List D->D->Prop}{tx:Tx}{N ps:List ao}
theorem jd2(ht:j12 K x=ae tx)(Sc:LamScope N ps tx.2.2)(hl:∀ds d,S ds d->ds.length=N.length)
  (hb:∀(cl:List (ao×ak)) (pm:aj) (c:ak) (ctv:aj) (us:List aj),us.length=ps.length->c8 (W.kla_fn "<lambda>" (zb x) tx.1 tx.2.1 tx.2.2 cl pm (.ref c) ctv) ⟨us,[]⟩=pure (ps.zip us))
  (hbody:∀(a c:ak)(cl:List (ao×ak)) (A:aF) (outer:List cG) (s:aq) (H:Hp),cl.map (·.1)=Z7 tx.2.2->Room k (Vo P w K mg base N (zb x) tx.2.2 a (.ref c) cl A outer s H).A->∀ds d,S ds d->DT (Vo P w K mg base N (zb x) tx.2.2 a (.ref c) cl A outer s H) (qg N ds) tx.2.1 d):j1l P w K mg base (k+1) x S:=by
 intro A outer s H a B cs ds d vs us Q E hr e0 tb hB en ea nf hS rv q;obtain⟨a',c,tx',cl,cvs,e,L,l⟩:=en;cases e;have et:tx'=tx:=aD (L.tx.symm.trans ht);subst et;have cs_at:zr H (cl.map (·.2)) cvs:=L.cs.of_del;have hA:∀b∈B++cl.map (·.2),Fz (H b):=λb hb=>(Xp.mp hb).elim (λz=>.inl (hB b z)) λz=>.inr (cs_at.cel b z);obtain⟨e1,back⟩:=j3b e0 hA;obtain⟨pm,ctv,hfo⟩:=L.fo;obtain⟨oc,hco,vs0,t0,hd0,hv0⟩:=L.co;have ho:=(show jl P w H s.heap a (.frz _ (.own 0))from e0.hok _ _ (of_del hfo).2).1;have hcd:s.heap.CodeRec (.ref c) (zb x):=⟨c,oc,vs0,t0,rfl,(show jl P w H s.heap c (.frz oc (.own 0))from e0.hok _ _ (of_del hco).2).1,hd0,hv0⟩
 have ll:=l.length;have la:=ea.length;have hlen:=hl _ _ hS;have lenC:(cl.map (·.2)).length=(Z7 tx'.2.2).length:=by rw[<-L.nm,xj,xj]
 have lcv:=(cs_at.inn e0.hok).length;have hlv:vs.length=ps.length:=by rw[Sc.nm,X7,X7]at hlen;omega
 have celB:Cel (del H B) (cl.map (·.2)):=L.cs.cel;have ea1:j6 K (del H (B++cl.map (·.2))) ds vs:=by rw[<-Z0];exact ea.noc celB nf
 have l1:j6 K (del H (B++cl.map (·.2))) cs cvs:=by rw[<-Z0];exact l
 refine bH (j5w (E:=E) (Q:=λv F=>(∀a∈B++cl.map (·.2),F a=ah)->Q v (mrg (B++cl.map (·.2)) H F)) hr e1 ho hcd Sc L.nm L.nd (cs_at.inn e0.hok) (λb hb=>zc (Xd _ hb)) (hb cl pm c ctv us (by rw[<-rv.length];exact hlv)) rv hlv λhrm=>?_) λr s' h=>back Q E E r s' h;refine hbody a c cl A outer s _ L.nm hrm (cs++ds) d hS _ _ _ (Zc (tb.fz hA) (l1.append ea1)) λv F g en' hF=>q v _ (Rb g) (en'.mono λb o z=>?_);have nb:b∉B++cl.map (·.2):=λy=>by rw[hF b y]at z;cases z
 rw[j5 (λy=>nb (Xu _ y)),jh nb];exact z
end
section
variable{X:Cx}{ρ:Rho}{e:ar}{es:List ar}{d:D}{cs ds:List D}{pos p:aQ}{x y:ao}{i k:Nat}
end
section
variable{X:Cx}{pins:k5m}{σ:St}{H:Hp}{s:aq}
structure LMk(X:Cx)(x:ao):Prop where
 mem:x∈Qx
 qual:X.env.qual=x ++ ".<locals>."
 code:∃c P,X.env.code=.ref c/\W.codeHdIn X.K c P=ag/\W.tabIn X.K x=ae (c,P)
end
def jj6(X:Cx)(ρ:Rho):List (ao×ak)->List D->Prop
 |[],ds=>ds=[]
 |p::cl,ds=>∃(d:D)(r:List D)(i:Nat),ds=d::r/\X.N[i]?=ae p.1/\X.env.scope.names.lookup p.1=ae .cell/\X.env.cells.lookup p.1=ae p.2/\X.fn p.1=ag/\ρ[i]?=ae (.val d)/\jj6 X ρ cl r
section
variable{X:Cx}{pins:k5m}{σ:St}{H H2:Hp}{s s2:aq}{ρ:Rho}
end
section
variable{X:Cx}{ρ:Rho}{P:Po}{x:ao}{params:gn}{body:ar}{scope:bh}{cl:List (ao×ak)}{ds:List D}{pos p1 p2:aQ}
end
section
variable{X:Cx}{ρ:Rho}{e a b c:ar}{es:List ar}{st:aP}{rest sa sb body:List aP}{P:Po}{d:D}{ds ds':List D}{pos p p1 p2 p3:aQ}{x:ao}{i:Nat}
theorem DSs.last(h:DS X ρ st P):DSs X ρ [st] P:=.cons h λρ' n=>DSs.nil n
theorem Cal.comp{sp:Sp}{scope:bh}{C:ak}{s:aq}{H:Hp}{fp:List ak}{pn:k5m}(h:Cal X x sp):Cal (cCx X scope C s H fp pn) x sp:=⟨h.ex⟩
end
theorem J2(lo:Int)(n:Nat):(upto lo n).length=n:=by unfold upto;rw[xj,cS]
theorem Lh{lo:Int}{n:Nat}{d:D}(h:d∈upto lo n):∃j:Nat,j<n/\d=.int (lo+j):=by unfold upto at h;obtain⟨j,hj,e⟩:=Xr.mp h;exact⟨j,Pa.mp hj,e.symm⟩
section
variable{X:Cx}{ρ:Rho}{a b tg it:ar}{ds ds':List D}{d:D}{i:Int}{pos:aQ}
end
mutual
def vp:D->Prop
 |.tup l=>l.length<=1000/\Jg l
 |.lst l=>l.length<=1000/\Jg l
 |.dct _ _=>False
 |.sct _=>False
 |.fn _ _=>False
 |_=>True
def Jg:List D->Prop
 |[]=>True
 |d::ds=>vp d/\Jg ds
end
theorem Yr:∀{ds:List D}{d:D},Jg ds->d∈ds->vp d
 |x::xs,d,h,m=>by
  simp only[Jg]at h;rcases km.mp m with e|m
  .subst e;exact h.1
  .exact Yr h.2 m
theorem D.depL_mem:∀{ds:List D}{d:D},d∈ds->d.dep<=D.depL ds
 |x::xs,d,m=>by
  simp only[D.depL];rcases km.mp m with e|m
  .subst e;omega
  .have:=D.depL_mem m;omega
theorem D.depL_of{n:Nat}:∀{ds:List D},(∀d∈ds,d.dep<=n)->D.depL ds<=n
 |[],_=>by simp only[D.depL];omega
 |x::xs,h=>by simp only[D.depL];have h1:=h x (xg ..);have h2:=D.depL_of (ds:=xs) λd m=>h d (kj _ m);omega
end L2
namespace L2
noncomputable def jeb(b:Int):Nat->Int->List Int
 |0,_=>[]
 |i+1,n=>(n/b^i%b)::jeb b i n
end L2
end
section
namespace L2
open PySem PySem.Spec PyProof.Rows
def CX1(P:ay)(w:aE):CXT:=λouter H s E ev s'=>∃(e:ak)(C:aj)(H':Hp),ev=.ref e/\s'.os=s.os/\d9 s'.gens/\Un (frs outer) [] H H' s.heap s'.heap/\HOk P w H' s'.heap /\
 Fl (λb=>∃o,s.heap.get? b=ae o) H' s'.heap e C/\E C ah H'
theorem jl.get{P:ay}{w:aE}{H:Hp}{h:aK}{a:ak}{o:HO}(x:jl P w H h a o):∃u,h.get? a=ae u:=by
 cases o with
 |lst xs=>obtain⟨_,_,_,_,e⟩:=x;exact⟨_,e⟩
 |tup xs=>obtain⟨_,_,_,⟨_,e,_⟩,_⟩:=x;exact⟨_,e⟩
 |dK kvs=>obtain⟨_,_,_,_,o,_,_,e,_⟩:=x;exact⟨_,e⟩
 |dT kvs=>obtain⟨_,_,_,_,o,_,_,e,_⟩:=x;exact⟨_,e⟩
 |dI xs ep=>obtain⟨_,_,_,o,_,e,_⟩:=x;exact⟨_,e⟩
 |set S n=>obtain⟨o,_,_,_,e,_⟩:=x;exact⟨_,e⟩
 |ins C dx fs=>obtain⟨_,_,_,e,_⟩:=x;exact⟨_,e⟩
 |own y=>obtain⟨_,e⟩:=x;exact⟨_,e⟩
 |xd fs=>obtain⟨_,⟨_,_,_,e,_⟩,_⟩:=x;exact⟨_,e⟩
 |rng lo hi=>obtain⟨_,_,_,e⟩:=x;exact⟨_,e⟩
 |frz ob u=>obtain⟨e,_⟩:=x;exact⟨_,e⟩
 |tbl ps=>exact⟨_,(show h.get? a=ae _ from x)⟩
 |cod q=>obtain⟨_,e,_⟩:=x;exact⟨_,e⟩
 |met f y=>exact⟨_,(show h.get? a=ae _ from x)⟩
 |ext φ=>obtain⟨_,⟨_,e⟩,_⟩:=x;exact⟨_,e⟩
section
variable{X:Cx}{pins:k5m}{σ:St}{H:Hp}{s:aq}
theorem Inv.old(I:Inv X pins σ H s){b:ak}(h:Old X pins b):∃o,s.heap.get? b=ae o:=by
 rcases h with ⟨o,q,n⟩|⟨p,hp,rfl⟩|rfl|⟨x,e⟩
 .exact I.base.there b o q n
 .exact⟨_,(I.pin p hp).1⟩
 .obtain⟨m,⟨o,_,_,e,_⟩,_⟩:=I.loc;exact⟨o,e⟩
 .obtain⟨v,o,e,_⟩:=I.cell x b e;exact⟨o,e⟩
end
section
variable{P:ay}{w:aE}{K:k5k}{mg:k5n}{base:aK}{N ps:List ao}{qual:ao}{scope:bh}{f:ak}{cd:aj}{A:aF}{outer:List cG}{s s':aq}{H H':Hp}{E:XK}{σ:St}{pins:k5m}{e:ak}{C:aj}
theorem Iv{as:List ak}{h':aK}{a0:aj}(I:Inv (ql (CX1 P w) P w K mg base N qual scope f cd A outer s H E) pins σ H' s')(F:Fl (Old (ql (CX1 P w) P w K mg base N qual scope f cd A outer s H E) pins) H' s'.heap e C)
  (hE:E C ah H') (ha:∀b,b∈as↔b∈frs (bg qual scope s.heap.objs.size f cd::outer)\/(¬(∃o,s.heap.get? b=ae o)/\H' b=ah/\b∈as)) (hfa:∀b∈frs (bg qual scope s.heap.objs.size f cd::outer),b∈as)
  (hL:Heap.LeftW (W.hideAll s'.heap as) (bg qual scope s.heap.objs.size f cd::outer) e C a0 s'.heap h'):CX1 P w outer H s E (.ref e) { s' with heap:=h' }:=by
 obtain⟨k1,k2,k3,k4⟩:=hL;have fr:∀b∈frs outer,∃o,s'.heap.get? b=ae o/\∀vs,o.data≠.fields vs:=λb hb=>by obtain⟨o,ho,hd⟩:=(I.stack.mem (show b∈frs (bg qual scope s.heap.objs.size f cd::outer)from kj _ hb)).2;exact⟨o,ho,hd⟩
 have sfree:∀b∈frs (bg qual scope s.heap.objs.size f cd::outer),H' b=ah:=I.stkFree;have keep:∀b o,s'.heap.get? b=ae o->b∉as->h'.get? b=ae o:=λb o q n=>k1 b o (W.hideAll_get _ q n);have nold:∀b o,s.heap.get? b=ae o->b∉frs outer->b∉as:=λb o q n z=>by
  rcases(ha b).mp z with z|⟨z,_⟩
  .rcases km.mp z with z|z
   .have:=xq q;rw[show b=s.heap.objs.size from z]at this;exact absurd this (pq _)
   .exact n z
  .exact z ⟨o,q⟩
 have ntrk:∀b u,H' b=ae u->b∉as:=λb u q z=>by
  rcases(ha b).mp z with z|⟨_,z,_⟩
  .rw[sfree b z]at q;cases q
  .rw[z]at q;cases q
 have slot:∀b∈frs outer,∀o,s'.heap.get? b=ae o->∃sl,h'.get? b=ae { o with slots:=sl }:=λb hb o q=>by obtain⟨o',ho,hd⟩:=fr b hb;rw[q]at ho;cases ho;exact k4 b o q hd
 have un:=I.base;refine⟨e,C,H',rfl,I.os,I.bare,⟨λb o q n hb _=>keep b o (un.keep b o q n hb (λz=>nomatch z)) (nold b o q hb),λb o q n hb _=>?_,λb o q n _=>un.free b o q n (λz=>nomatch z),λb o q _=>?_,un.tups,un.frzs,un.tbls⟩,
  λa o q=>(I.hok a o q).stay (λb u hb r=>keep b u r ?_) (λ_ z=>z) (λ_ _ z=>z) λ_ _ _ z=>z,?_,hE⟩
 .obtain⟨sl,q'⟩:=un.slot b o q n hb (λz=>nomatch z);obtain⟨sl',q2⟩:=slot b hb _ q';exact⟨sl',q2⟩
 .obtain⟨o',q'⟩:=un.there b o q (λz=>nomatch z);by_cases hb:b∈frs outer
  .obtain⟨sl,q2⟩:=slot b hb _ q';exact⟨_,q2⟩
  .exact⟨_,keep b o' q' (nold b o q hb)⟩
 .rcases hb with rfl|hb
  .exact ntrk _ _ q
  .exact ntrk _ _ hb
 .obtain⟨oe,vs,T,oT,ts,he,⟨hc,h0⟩,hd,h1,hnT,hTe,hT,hdT,h3⟩:=k3;refine⟨λb ⟨o,q⟩=>F.new b (.inl ⟨o,q,λz=>nomatch z⟩),F.free,oe,vs,a0,he,hc,hd,h0,.inr ⟨T,oT,ts,h1,hTe,hT,hdT,h3,?_,λb ⟨o,q⟩ z=>?_⟩⟩
  .cases r:H' T with
   |none=>rfl
   |some u =>obtain⟨ob,q⟩:=(I.hok T u r).get;rw[W.hideAll_get _ q (ntrk T u r)]at hnT;cases hnT
  .subst z;obtain⟨o',q'⟩:=un.there b o q (λz=>nomatch z);by_cases hb:b∈frs outer
   .obtain⟨o2,q2,nf⟩:=fr b hb;obtain⟨sl,q3⟩:=slot b hb o2 q2;rw[q3]at hT;cases hT;exact nf ts hdT
   .rw[W.hideAll_get _ q' (nold b o q hb)]at hnT;cases hnT
theorem Nj(I:Inv (ql (CX1 P w) P w K mg base N qual scope f cd A outer s H E) pins σ H' s')(F:Fl (Old (ql (CX1 P w) P w K mg base N qual scope f cd A outer s H E) pins) H' s'.heap e C)(hE:E C ah H') :
  (ql (CX1 P w) P w K mg base N qual scope f cd A outer s H E).xe (.ref e) s':=by
 obtain⟨oe,vs,a0,he,hc,hd,h0,hT⟩:=F.obj;have hsN:∀b,(∃o,s.heap.get? b=ae o)->Old (ql (CX1 P w) P w K mg base N qual scope f cd A outer s H E) pins b:=λb ⟨o,q⟩=>.inl ⟨o,q,λz=>nomatch z⟩;have hin:∀(as:List ak),(∀b∈frs (bg qual scope s.heap.objs.size f cd::outer),b∈as)->∀env∈bg qual scope s.heap.objs.size f cd::outer,∀a,env.frame=ae a->a∈as:=λas h env he a ha=>h a (Ph.mpr ⟨env,he,ha⟩);subst hc;rcases hT with h1|⟨T,oT,ts,h1,hTe,hT,hdT,h3,hTf,hTn⟩
 .let as:=e::frs (bg qual scope s.heap.objs.size f cd::outer)
  have hfa:∀b∈frs (bg qual scope s.heap.objs.size f cd::outer),b∈as:=λb hb=>kj _ hb;refine wpAny_leaving_firstW (base:=W.hideAll s'.heap as) I.ok.frames (W.funFrames_hide I.stack (hin as hfa)) rfl he (λb o q=>W.of_hideAll _ q) (tu _ (xg ..)) hd h1 h0 λh' hL =>Iv I F hE (λb=>⟨λz=>?_,λz=>z.elim (hfa b) λz=>z.2.2⟩) hfa hL
  rcases km.mp z with e1|z'
  .subst e1;exact .inr ⟨λq=>F.new _ (hsN _ q) rfl,F.free,z⟩
  .exact .inl z'
 .let as:=e::T::frs (bg qual scope s.heap.objs.size f cd::outer)
  have hfa:∀b∈frs (bg qual scope s.heap.objs.size f cd::outer),b∈as:=λb hb=>kj _ (kj _ hb);refine wpAny_leaving_nextW (base:=W.hideAll s'.heap as) (a0:=a0) I.ok.frames (W.funFrames_hide I.stack (hin as hfa)) rfl ⟨oe,vs,T,oT,ts,he,⟨rfl,h0⟩,hd,h1,tu _ (kj _ (xg ..)),hTe,hT,hdT,h3⟩
   (λb o q=>W.of_hideAll _ q) (tu _ (xg ..)) λh' hL =>
   Iv I F hE (λb=>⟨λz=>?_,λz=>z.elim (hfa b) λz=>z.2.2⟩) hfa hL
  rcases km.mp z with e1|z'
  .subst e1;exact .inr ⟨λq=>F.new _ (hsN _ q) rfl,F.free,z⟩
  .rcases km.mp z' with e1|z2
   .subst e1;exact .inr ⟨λq=>hTn _ (hsN _ q) rfl,hTf,z⟩
   .exact .inl z2
end
def spX(K:k5k)(mg:k5n)(S:List D->ao->Prop):Sp:=λvs H _ E=>∃ds x C,TabOk K H/\j6 K H ds vs/\S ds x/\mg x=ae C/\∀H',j4 H H'->E C ah H'
section
variable{P:ay}{w:aE}{K:k5k}{mg:k5n}{base:aK}{x qual:ao}{st:aP}{f:ak}{fd:aL}{N ps:List ao}{k:Nat}
theorem j3c{S:List D->ao->Prop}(F:Fun K x qual st f fd)(Sc:FnScope N ps (j0 st))(hl:∀ds y,S ds y->ds.length=ps.length)
  (hbody:∀(cdv:aj)(A:aF)(outer:List cG)(s:aq)(H:Hp)(E:XK),Vx K f cdv->Room k (A.deeper (bg qual (j0 st) s.heap.objs.size f cdv))->∀ds y,S ds y ->
   DSs (ql (CX1 P w) P w K mg base N qual (j0 st) f cdv A outer s H E) (qg N ds) (jb st) { nx:=λ_=>False,rt:=λ_=>False,ex:=λz _=>z=y }):FnOk P w K mg base (CX1 P w) (k+1) f fd ps (spX K mg S):=by
 obtain⟨oc,od,dV,kV,doc,pm,an,cdv,ct,osl,rfl,lk,hcd⟩:=F.ex;refine Dm lk hcd Sc (λvs H Q E ⟨ds,y,C,tb,en,hS,_⟩=>by rw[en.length];exact hl ds y hS) λA outer s H vs Q E hr ⟨ds,y,C,tb,en,hS,hC,hE⟩=>⟨_,J6,?_⟩
 have ho:=Q5 N ds;refine hbody cdv A outer s H E ⟨oc,od,_,osl,lk,rfl⟩ hr ds y hS (start N vs) H _ (Zc tb en) ⟨λρ' σ' H' n R f=>n.elim,λ_ _ _ z=>z.elim,λ_ _ _ z=>z.elim,λr v H' n z=>n.elim,λz ρ' σ' H' n R g=>?_⟩;cases(show z=y from n);intro pins H2 s' e C' I g2 hC' Fe;cases hC.symm.trans hC';unfold Fr0 at g;rw[ho,vd]at g;exact Nj I Fe (hE H2 ((g.trans qb).trans g2))
end
def DX(X:Cx)(ρ:Rho)(e:ar)(x:ao):Prop:=∀σ H Q,Rep X.K ρ σ H->W4 X σ H x->Jk X e σ H Q
def DXA(X:Cx)(ρ:Rho)(es:List ar)(x:ao):Prop:=∀σ H Q,Rep X.K ρ σ H->W4 X σ H x->Ou X es σ H Q
structure CalX(X:Cx)(x:ao)(sp:Sp):Prop where
 ex:∃(k:Nat)(f:ak)(fd:aL)(ps:List ao),FnOk X.prog X.w X.K X.mg X.base (CX1 X.prog X.w) k f fd ps sp/\Room k X.A/\X.mg x=ae (.ref f)/\W.keepIn X.K (.ref f)=ag/\Binds X.K fd ps []
section
variable{X:Cx}{ρ:Rho}{e:ar}{es:List ar}{f x:ao}{ds:List D}{p pos:aQ}{C:aj}
theorem DX.call {S:List D->ao->Prop} (c:CalX X f (spX X.K X.mg S)) (ha:DTA X ρ (e::es) ds) (hS:S ds x) (hC:X.mg x=ae C) (hg:Gl X f) (hdb:(f==k5o)=af)
  (he:ai (e::es) X.env=(af,aH e X.env)::ai es X.env) (hpl:(aV pos (ai es X.env)).any (·.1)=af):DX X ρ (.Call (.Name f p) (e::es) [] pos) x:=λσ H Q R k pins s I=>by
 obtain⟨n,fa,fd,ps,F,hr,hm,hk,hb⟩:=c.ex;refine ba (Jv I hg hm ?_ hdb);refine W.callWith_K (h₀:=X.base) I.ok.mod.kin hk (thn (ha σ H (λvs H1=>j4 H H1/\j6 X.K H1 ds vs) R (λvs H1 g e=>⟨g,e⟩) pos pins s I) λus s1 ⟨vs,H1,I1,r,g,en⟩=>⟨I1.kIn,?_⟩) he hpl;have sp:spX X.K X.mg S vs H1 (λ_ _=>False) (λC' _ H'=>C'=C/\j4 H1 H'):=⟨ds,x,C,R.tb.mono g,en,hS,hC,λH' g=>⟨rfl,g⟩⟩
 have hl:us.length=ps.length:=by rw[<-r.length];exact F.len _ _ _ _ sp
 have hb':=hb s1 us I1.kIn (by rw[Xk];exact hl);rw[Xk]at hb';refine eF (bH (F.run X.A X.stack s1 H1 ⟨us,[]⟩ us vs _ _ hr I1.env0 hb' r sp) λr s' hq=>?_);cases r with
 |error ev =>obtain⟨e,C',H',rfl,os,bare,un,hok,fl,rfl,g'⟩:=hq;have I':Inv X pins σ H' s':=I1.call' os un hok bare (λb z=>nomatch z);refine k pins H' s' e C' I' (g.trans g') hC ⟨λb hb=>fl.new b (I1.old hb),fl.free,?_⟩;obtain⟨oe,ws,a0,q1,q2,q3,q4,q5⟩:=fl.obj;refine⟨oe,ws,a0,q1,q2,q3,q4,q5.imp id ?_⟩;rintro⟨T,oT,ts,z1,z2,z3,z4,z5,z6,z7⟩;exact⟨T,oT,ts,z1,z2,z3,z4,z5,z6,λb hb=>z7 b (I1.old hb)⟩
 |ok fl =>
  cases fl with
  |ret u=>obtain⟨_,_,_,_,_,_,_,z⟩:=hq;exact z.elim
  |next=>exact aO hq
  |brk=>exact aO hq
  |cont=>exact aO hq
end
section
variable{X:Cx}{ρ:Rho}{e:ar}{es:List ar}{x:ao}{d:D}{p pos np cpos:aQ}{P:Po}{i:Int}{y:ao}{ys:List ao}
theorem DE.fmtI(ha:DT X ρ e (.int i))(hi:i.natAbs.log2<1920):DE X ρ (.FormattedValue e (-1) ah pos) (.str (toString i)):=λσ H Q R q pins s I=>by
 refine gY (thn (ha σ H (λv H1=>v=.int i/\j4 H H1) R (λv H1 g e=>⟨e,g⟩) pins s I) λu s1 ⟨v,H1,I1,r,ev,g⟩=>?_);subst ev;obtain⟨t,rfl⟩:=(show ∃t,u=bj i t from r)
 exact formatField_int_small hi ⟨.str (toString i),H1,I1.un (t':=s1.toks+1+1) Un.refl I1.hok,⟨_,rfl⟩,q _ H1 g rfl⟩
theorem DE.fmtS(ha:DT X ρ e (.str y))(hy:y.length<=aw):DE X ρ (.FormattedValue e (-1) ah pos) (.str y):=λσ H Q R q pins s I=>by
 refine gY (thn (ha σ H (λv H1=>v=.str y/\j4 H H1) R (λv H1 g e=>⟨e,g⟩) pins s I) λu s1 ⟨v,H1,I1,r,ev,g⟩=>?_);subst ev;obtain⟨t,rfl⟩:=(show ∃t,u=b7 y t from r)
 exact jF (λt' tk=>⟨.str y,H1,I1.un (t':=tk) Un.refl I1.hok,⟨_,rfl⟩,q _ H1 g rfl⟩) hy
noncomputable def Mu(out:ao):List ao->ao
 |[]=>out
 |y::ys=>Mu (out++y) ys
def DPs(X:Cx)(ρ:Rho):List ar->List ao->Prop
 |[],[]=>True
 |e::es,y::ys=>DE X ρ e (.str y)/\DPs X ρ es ys
 |_,_=>False
theorem Lp:∀{es:List ar}{ys:List ao}{out:ao}{n:Nat}{pins:k5m} {σ:St} {H0 H:Hp} {s:aq} {Q:VK},DPs X ρ es ys->(∀y∈ys,y.length<=10000)->out.length+10000*ys.length<=aw->Inv X pins σ H s->Rep X.K ρ σ H->j4 H0 H ->
  (∀H',j4 H0 H'->Q (.str (Mu out ys)) H')->aC (aB X.prog X.w) X.A (joinParts out (evalEach es X.env)) (EP X pins σ Q) X.xe s
 |[],[],out,n,pins,σ,H0,H,s,Q,_,_,hl,I,R,g,q=>joinParts_nil ⟨.str out,H,I.un (t':=s.toks+1) Un.refl I.hok,⟨_,rfl⟩,q H g⟩ (by have:=hl;omega)
 |e::es,y::ys,out,n,pins,σ,H0,H,s,Q,hp,hy,hl,I,R,g,q=>by
  have hy0:=hy y (xg ..);rw[xn]at hl;refine joinParts_cons (thn (hp.1 σ H (λv H1=>v=.str y/\j4 H H1) R (λv H1 g e=>⟨e,g⟩) pins s I) λu s1 ⟨v,H1,I1,r,ev,g1⟩=>?_);subst ev;obtain⟨t,rfl⟩:=(show ∃t,u=b7 y t from r)
  have hz:(out++y).length<=out.length+10000:=by rw[strLen_append];omega
  exact⟨by omega,Lp (n:=n) hp.2 (λz hz=>hy z (kj _ hz)) nofun I1 (R.grow g1) (g.trans g1) q⟩
 |[],_::_,_,_,_,_,_,_,_,_,h,_,_,_,_,_,_=>h.elim
 |_::_,[],_,_,_,_,_,_,_,_,h,_,_,_,_,_,_=>h.elim
theorem DE.joined{a b:ar}(h:DPs X ρ (a::b::es) ys)(hy:∀y∈ys,y.length<=10000)(hl:ys.length<=1000):DE X ρ (.JoinedStr (a::b::es) pos) (.str (Mu cH ys)):=λσ H Q R q pins s I =>
 JoinedStr_many (Lp (n:=0) (out:=cH) h hy (by
  have e:Str.empty.length=0:=rfl
  rw[e,bK];omega) I R (j4.refl H) λH' g=>q _ H' g rfl)
theorem jaf{Q:VK}{σ:St}{H:Hp}(he:Jk X e σ H Q)(hs:ai [e] X.env=[(af,aH e X.env)]):Ou X [e] σ H (λvs H'=>∃v,vs=[v]/\Q v H') :=
 (j9 (es:=[]) peS ju hs).to λpins s I=>thn (he pins s I) λu s' ⟨v,H',I',r,q⟩=>⟨v,H',I',r,⟨v,rfl,q⟩⟩
theorem DS.raise{C:ak}{bm bmN:List aj}{newId B Bn nid initId inN:String}(O:OwnCls x C bm newId X.mg X.base)(Fn:ExcBaseFacts Bn newId inN bmN)(hBn:bm.contains (.type Bn)=ag)(FB:ExcBaseFacts B nid initId bm)(hc:X.calm=ag)
  (ha:∀σ H,Rep X.K ρ σ H->Jk X e σ H λ_ H'=>j4 H H') (hP:P.ex x ρ) (hg:Gl X x) (hdb:(x==k5o)=af) (he:ai [e] X.env=[(af,aH e X.env)])
  : DS X ρ (.Raise (ae (.Call (.Name x np) [e] [] cpos)) ah pos) P:=λσ H E R q pins s I=>by
 obtain⟨tl,N,nm,qn,bs,hdct,sn,sub,ab,col,dd,k0,k1,k2,k3,k5,mN,hC,hN,hni,T⟩:=O.obj;refine wpAny_Raise_call_subU (C:=C) (nm:=nm) (q:=qn) (N:=N) (bs:=bs) (bm:=tl) (hdct:=hdct) (sn:=sn) (sub:=sub) (ab:=ab) (col:=col) (dd:=dd) (k0:=k0) (k1:=k1) (k2:=k2) (k3:=k3) (k5:=k5)
  Fn hBn FB (mN:=mN) (T.hasType FB.hasBase) (I.ok.hd hc) (by rw[he];rfl) hni (Jv I hg O.bound ⟨rfl,?_⟩ hdb)
 have hsp:=jaf (ha σ H R) he cpos pins s I;rw[he]at hsp ⊢;refine fF (thn hsp λus s2 ⟨vs,H1,I1,r,v,ev,g⟩=>⟨rfl,?_,I1.bk _ _ hC,hN.keeps I1.bk,T.keeps I1.bk,λh' e' hm=>?_⟩)
 .show us.length<=aw;rw[<-r.length,ev];show 1<=aw;rw[bK];omega
 .have nold:∀b,(∃o,s2.heap.get? b=ae o)->b≠e':=λb ⟨o,q⟩ z=>by rw[z,hm.new]at q;cases q
  obtain⟨t,ht,_,_⟩:=hm.there;refine q.ex x ρ σ H hP R (Fr0.refl _ _) pins H1 { s2 with heap:=h' } e' (.ref C) (I1.un (t':=s2.toks) (Un.kept hm.keeps) (I1.hok.kept hm.keeps)) g O.bound ⟨λb hb=>nold b (I1.old hb),?_,_,_,_,ht,rfl,rfl,rfl,.inl rfl⟩;cases z:H1 e' with
  |none=>rfl
  |some u=>exact absurd rfl (nold e' (I1.hok e' u z).get)
end
structure FlT(N:ak->Prop)(H:Hp)(h:aK)(e:ak)(C fl:aj):Prop where
 new:∀b,N b->b≠e
 free:H e=ah
 obj:∃(oe:cy)(vs:Array aj)(a0:aj)(T:ak)(oT:cy)(ts:Array aj),h.get? e=ae oe/\oe.cls=C/\oe.data=.fields vs/\vs[0]?=ae a0/\vs[1]?=ae (.ref T)/\T≠e/\h.get? T=ae oT/\oT.data=.fields ts/\ts[3]?=ae fl /\
  H T=ah/\∀b,N b->b≠T
section
variable{X:Cx}{pins:k5m}{σ:St}{H:Hp}{s:aq}{e:ak}{C fl:aj}{M:gk}{A:aF}{E:k5l}
theorem Inv.noted{as:List ak}{h':aK}(I:Inv X pins σ H s)(ha:∀b∈as,b∈frs X.stack\/(H b=ah/\∀c,Old X pins c->c≠b))
  (keep:∀b o,s.heap.get? b=ae o->b∉as->h'.get? b=ae o) (slot:∀b o,s.heap.get? b=ae o->(∀vs,o.data≠.fields vs)->∃sl,h'.get? b=ae { o with slots:=sl }):Inv X pins σ H { s with heap:=h' }:=by
 have sf:=I.stkFree;have ntrk:∀b u,H b=ae u->b∉as:=λb u q z=>by
  rcases ha b z with z|⟨z,_⟩
  .rw[sf b z]at q;cases q
  .rw[z]at q;cases q
 have nold:∀b,Old X pins b->b∉frs X.stack->b∉as:=λb ho nf z=>(ha b z).elim nf λq=>q.2 b ho rfl;have nst:∀b o,X.s₀.heap.get? b=ae o->b∉X.fs->b∉frs X.stack:=λb o q n z=>by
  rcases km.mp (I.stkSub b z)with z|z
  .have:=xq q;rw[z]at this;exact absurd (Xa this I.ok.above) (pq _)
  .exact n z
 have nf:∀b∈frs X.stack,∀o,s.heap.get? b=ae o->∀vs,o.data≠.fields vs:=λb hb o q=>by obtain⟨o',ho,hd⟩:=(I.stack.mem hb).2;rw[q]at ho;cases ho;exact hd
 have nff:∀b∈X.fs,∀o,s.heap.get? b=ae o->∀vs,o.data≠.fields vs:=λb hb o q=>by obtain⟨o',ho,hd⟩:=(I.funs.mem hb).2;rw[q]at ho;cases ho;exact hd
 have cel:∀{c:ak}{v:Option aj},s.heap.IsCell c v->h'.IsCell c v:=λ{c v} ⟨o,q,hd⟩=>by
  obtain⟨sl,q'⟩:=slot c o q λvs z=>by rw[hd]at z;cases z
  exact⟨_,q',hd⟩
 obtain⟨m,hn,hl⟩:=id I.loc;have up:s.heap.UpToSlots h':=slot;refine⟨I.ok,I.os,I.bare,⟨λb o e n hb hx=>keep b o (I.base.keep b o e n hb hx) (nold b (.inl ⟨o,e,hx⟩) (nst b o e hb)),λb o e n hb hx=>?_,I.base.free,λb o e hx=>?_,I.base.tups,I.base.frzs,I.base.tbls⟩,
  ⟨m,up.ns hn,λi x v h1 h2 h3=>?_⟩,λx c e=>?_,I.free,I.freeC,λp hp=>?_,λa o q=>(I.hok a o q).stay (λb u hb r=>keep b u r ?_) (λ_ z=>z) (λ_ _ z=>z) λ_ _ _ z=>z,I.len⟩
 .obtain⟨sl,e1⟩:=I.base.slot b o e n hb hx;obtain⟨sl',e2⟩:=slot b _ e1 (nff b hb _ e1);exact⟨sl',e2⟩
 .obtain⟨o',e1⟩:=I.base.there b o e hx;by_cases hb:b∈frs X.stack
  .obtain⟨sl,e2⟩:=slot b o' e1 (nf b hb o' e1);exact⟨_,e2⟩
  .exact⟨o',keep b o' e1 (nold b (.inl ⟨o,e,hx⟩) hb)⟩
 .obtain⟨u,r,q⟩:=hl i x v h1 h2 h3;exact⟨u,r,q.imp id λ⟨k,c,e,z⟩=>⟨k,c,e,cel z⟩⟩
 .obtain⟨v,z⟩:=I.cell x c e;exact⟨v,cel z⟩
 .obtain⟨q,n,nl,nfs,d⟩:=I.pin p hp;refine⟨keep p.1 p.2 q (nold p.1 (.inr (.inl ⟨p,hp,rfl⟩)) λz=>?_),n,nl,nfs,d⟩;rcases km.mp (I.stkSub p.1 z)with z|z
  .exact nl z
  .exact nfs z
 .rcases hb with rfl|hb
  .exact ntrk _ _ q
  .exact ntrk _ _ hb
theorem Ro{as:List ak}{h':aK}{a0:aj}(I:Inv X pins σ H s)(hn:∀b,Old X pins b->b≠e)(hf:H e=ah)(ha:∀b∈as,b∈frs X.stack\/(H b=ah/\∀c,Old X pins c->c≠b))(hfa:∀b∈frs X.stack,b∈as)
  (k1:(W.hideAll s.heap as).StaysIn h') (k3:h'.TracedAtW (W.hideAll s.heap as) e C a0 fl) (k4:∀b o,s.heap.get? b=ae o->(∀vs,o.data≠.fields vs)->∃sl,h'.get? b=ae { o with slots:=sl }) :
  Inv X pins σ H { s with heap:=h' }/\FlT (Old X pins) H h' e C fl:=by
 have keep:∀b o,s.heap.get? b=ae o->b∉as->h'.get? b=ae o:=λb o q n=>k1 b o (W.hideAll_get _ q n);refine⟨I.noted ha keep k4,hn,hf,?_⟩;obtain⟨oe,vs,T,oT,ts,he,⟨hc,h0⟩,hd,h1,hnT,hTe,hT,hdT,h3⟩:=k3;refine⟨oe,vs,a0,T,oT,ts,he,hc,hd,h0,h1,hTe,hT,hdT,h3,?_,λb hb z=>?_⟩
 .cases r:H T with
  |none=>rfl
  |some u =>
   obtain⟨ob,q⟩:=(I.hok T u r).get;have:T∉as:=λz=>by
    rcases ha T z with z|⟨z,_⟩
    .rw[I.stkFree T z]at r;cases r
    .rw[z]at r;cases r
   rw[W.hideAll_get _ q this]at hnT;cases hnT
 .subst z;obtain⟨o,q⟩:=I.old hb;by_cases hs:b∈as
  .rcases ha b hs with hs|⟨_,z⟩
   .obtain⟨o',ho,nf⟩:=(I.stack.mem hs).2;obtain⟨sl,q3⟩:=k4 b o' ho nf;rw[q3]at hT;cases hT;exact nf ts hdT
   .exact z b hb rfl
  .rw[W.hideAll_get _ q hs]at hnT;cases hnT
theorem Bh(I:Inv X pins σ H s){as:List ak}(hfa:∀b∈frs X.stack,b∈as):s.heap.FunFrames (W.hideAll s.heap as) X.stack :=
 W.funFrames_hide I.stack λenv he a ha=>hfa a (Ph.mpr ⟨env,he,ha⟩)
theorem j9f{Q:Unit->aq->Prop}(I:Inv X pins σ H s)(hst:X.stack=X.env::X.outer)(hfm:X.env.frame=ae X.env.locals)(F:Fl (Old X pins) H s.heap e C)
  (h:∀h',Inv X pins σ H { s with heap:=h' }->FlT (Old X pins) H h' e C (rawInt X.env.locals)->Q () { s with heap:=h' }):aC (aB X.prog X.w) X.A (eV (.ref e) X.env) Q E s:=by
 obtain⟨oe,vs,a0,he,hc,hd,h0,hT⟩:=F.obj;subst hc;have hfr:X.A.frames=ae (X.env::X.outer):=by rw[<-hst];exact I.ok.frames
 rcases hT with h1|⟨T,oT,ts,h1,hTe,hT,hdT,h3,hTf,hTn⟩
 .have hfa:∀b∈frs X.stack,b∈e::frs X.stack:=λb hb=>kj _ hb;have hl:=Bh I hfa;rw[hst]at hl;unfold eV;simp only[hfm];refine az (fc he hd h1 ?_);rw[if_neg (by decide)];refine wpAny_entryW (base:=W.hideAll s.heap (e::frs X.stack)) hfr (by rw[<-hst]at hl ⊢;exact hl) hfm he (λb o q=>W.of_hideAll _ q) (tu _ (xg ..)) hd (Array.getElem?_eq_some_iff.mp h1).1 h0 λh' ⟨k1,_,k3,k4⟩=>?_;obtain⟨I',F'⟩:=Ro (as:=e::frs X.stack) I F.new F.free (λb hb=>(km.mp hb).elim (λz=>.inr ⟨z▸F.free,λc hc=>z▸F.new c hc⟩) .inl) hfa k1 k3 k4;exact h h' I' F'
 .have hfa:∀b∈frs X.stack,b∈e::T::frs X.stack:=λb hb=>kj _ (kj _ hb);have hl:=Bh I hfa;refine wpAny_noteFrame_onW (base:=W.hideAll s.heap (e::T::frs X.stack)) (a0:=a0) hfr (by rw[<-hst];exact hl) hfm ⟨oe,vs,T,oT,ts,he,⟨rfl,h0⟩,hd,h1,tu _ (kj _ (xg ..)),hTe,hT,hdT,h3⟩
   (λb o q=>W.of_hideAll _ q) (tu _ (xg ..)) λh' ⟨k1,_,k3,k4⟩=>?_
  obtain⟨I',F'⟩:=Ro (as:=e::T::frs X.stack) I F.new F.free (λb hb=>(km.mp hb).elim (λz=>.inr ⟨z▸F.free,λc hc=>z▸F.new c hc⟩) λhb=>(km.mp hb).elim (λz=>.inr ⟨z▸hTf,λc hc=>z▸hTn c hc⟩) .inl) hfa k1 k3 k4;exact h h' I' F'
theorem Ec{Q:Unit->aq->Prop}(I:Inv X pins σ H s)(F:FlT (Old X pins) H s.heap e C fl)
  (h:∀h',Inv X pins σ H { s with heap:=h' }->FlT (Old X pins) H h' e C .none->Q () { s with heap:=h' }):aC M A (iP (.ref e) ah) Q E s:=by
 obtain⟨oe,vs,a0,T,oT,ts,he,hc,hd,h0,h1,hTe,hT,hdT,h3,hTf,hTn⟩:=F.obj;subst hc;have hfa:∀b∈frs X.stack,b∈e::T::frs X.stack:=λb hb=>kj _ (kj _ hb);refine wpAny_setFlight_noneW (base:=W.hideAll s.heap (e::T::frs X.stack)) (a0:=a0) (fl:=fl) (l:=X.stack) (λb o q=>W.of_hideAll _ q) (Bh I hfa)
  ⟨oe,vs,T,oT,ts,he,⟨rfl,h0⟩,hd,h1,tu _ (kj _ (xg ..)),hTe,hT,hdT,h3⟩ λh' k1 _ k3 k4=>?_
 obtain⟨I',F'⟩:=Ro (as:=e::T::frs X.stack) I F.new F.free (λb hb=>(km.mp hb).elim (λz=>.inr ⟨z▸F.free,λc hc=>z▸F.new c hc⟩) λhb=>(km.mp hb).elim (λz=>.inr ⟨z▸hTf,λc hc=>z▸hTn c hc⟩) .inl) hfa k1 k3
  (λb o q nf=>⟨o.slots,k4 b o q nf⟩)
 exact h h' I' F'
theorem Inv.track{oe:cy}(I:Inv X pins σ H s)(he:s.heap.get? e=ae oe)(hn:∀b,Old X pins b->b≠e)(hf:H e=ah):Inv X pins σ (upd H e (.frz oe (.own e))) s:=by
 have ne:∀{b:ak}{u:HO},H b=ae u->b≠e:=λ{b u} q z=>by rw[z,hf]at q;cases q
 refine⟨I.ok,I.os,I.bare,⟨I.base.keep,I.base.slot,λb o q n hx=>?_,I.base.there,λb xs q=>?_,λb o u q=>?_,λb ps q=>?_⟩,I.loc,I.cell,?_,λx c q=>?_,λp hp=>?_,λa o q=>?_,I.len⟩
 .rw[jc (hn b (.inl ⟨o,q,hx⟩))];exact I.base.free b o q n hx
 .have z:=I.base.tups b xs q;rw[jc (ne z)];exact z
 .have z:=I.base.frzs b o u q;rw[jc (ne z)];exact z
 .obtain⟨m,z⟩:=I.base.tbls b ps q;exact⟨m,by rw[jc (ne z)];exact z⟩
 .rw[jc (hn _ (.inr (.inr (.inl rfl))))];exact I.free
 .rw[jc (hn _ (.inr (.inr (.inr ⟨x,q⟩))))];exact I.freeC x c q
 .obtain⟨q,n,r⟩:=I.pin p hp;exact⟨q,by rw[jc (hn _ (.inr (.inl ⟨p,hp,rfl⟩)))];exact n,r⟩
 .by_cases z:a=e
  .subst z;rw[jm]at q;cases q;exact⟨he,oe,he⟩
  .rw[jc z]at q;exact(I.hok a o q).stay (λ_ _ _ r=>r) (λb r=>by rw[jc (ne r)];exact r) (λb xs r=>by rw[jc (ne r)];exact r) λb _ _ r=>by rw[jc (ne r)];exact r
theorem ja7{j:Nat}{n:ao}{pos:aQ}{Q:Unit->aq->Prop}(I:Inv X pins σ H s)(hN:X.N.Nodup)(hj:X.N[j]?=ae n)(hk:X.env.kindOf n=ae .local)
  (h:∀s',Inv X pins (σ.set j ah) H s'->Q () s'):aC M A (do bindName X.env n .none;unbindBehindTheSuite X.env n pos) Q E s:=by
 obtain⟨m,hn,hl⟩:=id I.loc;have hcls:(X.env.scope.kind==.class || (X.env.scope.kind==.module&&X.env.locals != X.env.globals))=af:=by rw[I.ok.kind];rfl
 refine wpAny_nameGoes_keeps hk hn hcls λh' v hn' hs=>h _ ?_;have cne:=I.cne;refine⟨I.ok,I.os,I.bare,⟨λb o e n hb hx=>?_,λb o e n hb hx=>?_,I.base.free,λb o e hx=>?_,I.base.tups,I.base.frzs,I.base.tbls⟩,⟨_,hn',λi y v' e1 e2 e3=>?_⟩,λy c e=>?_,I.free,I.freeC,λp hp=>?_,λb ob e=>?_,by simpa using I.len⟩
 .exact(hs.2 b (Xc (Xa (xq e) I.ok.above))).trans (I.base.keep b o e n hb hx)
 .obtain⟨sl,e1⟩:=I.base.slot b o e n hb hx;exact⟨sl,(hs.2 b (Xc (Xa (xq e) I.ok.above))).trans e1⟩
 .obtain⟨o',e1⟩:=I.base.there b o e hx;exact⟨o',(hs.2 b (Xc (Xa (xq e) I.ok.above))).trans e1⟩
 .by_cases hij:i=j
  .subst hij;rcases getElem?_set_of e2 with ⟨_,z,_⟩|⟨z,_⟩
   .cases z
   .exact absurd rfl z
  .rw[dt (dH hij)]at e2;obtain⟨u',r',q⟩:=hl i y v' e1 e2 e3;refine⟨u',r',?_⟩;rcases q with ⟨k,e⟩|⟨k,c,e,z⟩
   .refine .inl ⟨k,?_⟩;have:y≠n:=λe=>hij (Rp hN e1 (e▸hj));simp[this,e]
   .exact .inr ⟨k,c,e,z.sameBut hs (cne y c e)⟩
 .obtain⟨w',z⟩:=I.cell y c e;exact⟨w',z.sameBut hs (cne y c e)⟩
 .obtain⟨e,n,ne,nf,d⟩:=I.pin p hp;exact⟨(hs.2 p.1 ne).trans e,n,ne,nf,d⟩
 .refine(I.hok b ob e).stay (λc w' hc q=>(hs.2 c ?_).trans q) (λ_ q=>q) (λ_ _ q=>q) λ_ _ _ q=>q;rintro rfl;rcases hc with rfl|hc
  .rw[I.free]at e;cases e
  .rw[I.free]at hc;cases hc
end
end L2
end
section
namespace PySem.W
open PySem PySem.Spec PySem.Calls PyProof.Rows Builtin Builtin.ObjectAttr Builtin.Getset_descriptor
section
variable{prog:ay}{w:aE}{A:aF}{E:k5l}{h:aK}{g:Array dP}{d:Drawn}{t:Nat}{os:OsState}{K:jI}{e C:ak}
theorem j3d {R:dN->aq->Prop} {tp:aj} (X:K.In h) (LT:Looks (aB prog w) h (typeOf (.ref e)) (.ref C)) (hm:mroIn K C (.type "object")=ae ag)
  (hq:R (.ok (.ret (.ref C))) ⟨h,g,d,t,os⟩):c9 (aB prog w) A (.call (.builtin "getset_descriptor.__get__") ⟨[.builtin "object.__class__",.ref e,tp],[]⟩) R ⟨h,g,d,t,os⟩:=by
 have L1:=looks_mroIn (M:=aB prog w) X hm;refine gW KF.slot_gs.plain KF.entry_gs (KF.slot_gs.check _ _ _ _ _ _ _ _ KF.type_class (KF.args_gs _ _ _) ?_);unfold fx.«getset_descriptor.__get__» descrGet;rw[dga_obj];refine az (aG ?_);unfold descrGetter descrCheckInstance descrNameAndClass isInstance;simp only[KF.owner_class]
 repeat lk
 refine⟨Code.quiet_builtin _ (by decide +kernel),codeAny_builtin KF.entry_class ?_⟩;unfold fx.«object.__class__» shownTypeOf
 repeat lk
 exact hq
theorem Kw {tk:ib} {o:cy} {Q:Fin->aq->Prop} (X:K.In h) (hx:h.get? e=ae o) (hc:o.cls=.ref C) (ha:fD K (.ref C) "__class__" = ae (ae (.builtin "object.__class__"))) (hm:mroIn K C (.type "object")=ae ag)
  (hq:Q (.done (.ret (.ref C))) ⟨h,g,d,t,os⟩):aC (aB prog w) A (fx.«object.__getattribute__» ⟨[.ref e,.str "__class__" tk],[]⟩) Q E ⟨h,g,d,t,os⟩:=by
 have hT5:(⟨h,g,d,t,os⟩:aq).TypeIs (.builtin "object.__class__") "getset_descriptor":=gc;have f5:=gc;have f6:=F.slot_gs_get.lookup;have f7:=F.slot_gs_set.lookup;have L1:=gv (M:=aB prog w) X ha;have LT:Looks (aB prog w) h (typeOf (.ref e)) (.ref C):=hc▸(dY hx).andThen .now
 repeat (any_goals (first|assumption|(with_reducible refine eM hx ?_;rw[hc])|with_reducible refine L1.at ?_|wp_step))
 refine j3d X LT hm ?_
 repeat (any_goals (first|assumption|wp_step))
theorem j6z {M:gk} {nameV:aj} {o:cy} {Q:Unit->aq->Prop} (X:K.In h) (hx:h.get? e=ae o) (hc:o.cls=.ref C) (hs:subIn K (.ref C) (.type "BaseException")=ae ag) (hq:Q () ⟨h,g,d,t,os⟩) :
  aC M A (iR "BaseException.__getattribute__" ⟨[.ref e,nameV],[]⟩) Q E ⟨h,g,d,t,os⟩:=by
 have hk:builtinKind "BaseException.__getattribute__" = ae .slot:=by decide +kernel
 have hsplit:splitId "BaseException.__getattribute__" = ae ("BaseException","__getattribute__"):=by decide +kernel
 have L2:=looks_subIn (M:=M) X hs;have ha:=F.args_bexc_ga (.ref e) nameV;simp only[iR,hk,hsplit];refine az ?_
 .unfold isInstance
  repeat (first|(with_reducible refine eM hx ?_;rw[hc])|with_reducible refine L2.at ?_|wp_step)
  exact hq
theorem j6l {tk:ib} {o:cy} {fill expr:Bool} {Q:k5l} (X:K.In h) (hx:h.get? e=ae o) (hc:o.cls=.ref C) (hga:fD K (.ref C) "__getattribute__" = ae (ae (.builtin "BaseException.__getattribute__")))
  (hgt:fD K (.ref C) "__getattr__" = ae ah) (hs:subIn K (.ref C) (.type "BaseException")=ae ag) (ha:fD K (.ref C) "__class__" = ae (ae (.builtin "object.__class__"))) (hm:mroIn K C (.type "object")=ae ag) (hpl:Slot "ValueError" "__getattribute__" "BaseException.__getattribute__")
  (hq:Q (.ref C) ⟨h,g,d,t,os⟩):aC (aB prog w) A (getAttrBy (.ref e) (.str "__class__" tk) fill expr) Q E ⟨h,g,d,t,os⟩:=by
 have f3:=hpl.bind (.ref e);have hx0:(expr&&onTheHeap (cQ "BaseException.__getattribute__"))=af:=by cases expr<;>rfl
 have hx2:(cQ "BaseException.__getattribute__" == cQ "object.__getattribute__")=af:=by decide +kernel
 have hx1:(onTheHeap (aJ C)&&cQ "BaseException.__getattribute__" == cQ "object.__getattribute__")=af:=by rw[hx2];rfl
 have L1:=gv (M:=aB prog w) X hga;have L2:=gv (M:=aB prog w) X hgt
 repeat (any_goals (first|assumption|(with_reducible refine eM hx ?_;rw[hc])|with_reducible refine L1.at ?_|with_reducible refine L2.at ?_|wp_step))
 refine gW hpl.plain F.entry_bexc_ga (j6z X hx hc hs (Kw X hx hc ha hm ?_))
 repeat (any_goals (first|assumption|wp_step))
theorem excls_attr {o:cy} {Q:Option aj->aq->Prop} (X:K.In h) (hx:h.get? e=ae o) (hc:o.cls=.ref C) (hga:fD K (.ref C) "__getattribute__" = ae (ae (.builtin "BaseException.__getattribute__")))
  (hgt:fD K (.ref C) "__getattr__" = ae ah) (hs:subIn K (.ref C) (.type "BaseException")=ae ag) (ha:fD K (.ref C) "__class__" = ae (ae (.builtin "object.__class__"))) (hm:mroIn K C (.type "object")=ae ag) (hpl:Slot "ValueError" "__getattribute__" "BaseException.__getattribute__")
  (hq:Q (ae (.ref C)) ⟨h,g,d,t+1,os⟩):aC (aB prog w) A (getAttr? (.ref e) "__class__") Q E ⟨h,g,d,t,os⟩:=by
 unfold getAttr? getAttrBy?;refine az (wpAny_mkText (az (wpAny_attempt (j6l X hx hc hga hgt hs ha hm hpl (aG hq)))))
end
end PySem.W
end
section
namespace L2
open PySem PySem.Spec PyProof.Rows
noncomputable def qe:List ao:=["WrongSize","NoAsk","NoWord","Twice","WrongAnswers","Unlike","NoPlace","NoText","WrongPrices","WrongWeights","NoPlan"]
noncomputable def bmV:List aj:=[.type "ValueError",.type "Exception",.type "BaseException",.type "object"]
noncomputable def j4e(K:k5k)(C:ak):Bool:=W.findIn K (.ref C) "__getattribute__" == ae (ae (.builtin "BaseException.__getattribute__"))&&(W.findIn K (.ref C) "__getattr__" == ae ah&&(W.subIn K (.ref C) (.type "BaseException")==ae ag &&
 (W.findIn K (.ref C) "__class__" == ae (ae (.builtin "object.__class__"))&&(W.mroIn K C (.type "object")==ae ag&&((W.clsIn K C).isSome&&W.excIn K C bmV "ValueError.__new__")))))
noncomputable def Q8(K:k5k):Bool:=qe.all λx=>match W.nsIn K au x with
 |some (ae (.ref C))=>j4e K C&&(W.kitOne K (.ref C) (.type "ValueError")==ae ag&&((match W.nsIn K au "AskError" with
   |some (ae a)=>W.exmOne K (.ref C) a==ae ag
   |_=>af)&&qe.all λc=>match W.nsIn K au c with
   |some (ae v)=>W.kitOne K (.ref C) v==ae (x==c)
   |_=>ag))
 |some (ae _)=>af
 |_=>ag
structure XcOk(K:k5k)(C:ak):Prop where
 ga:W.findIn K (.ref C) "__getattribute__" = ae (ae (.builtin "BaseException.__getattribute__"))
 gt:W.findIn K (.ref C) "__getattr__" = ae ah
 sub:W.subIn K (.ref C) (.type "BaseException")=ae ag
 cls:W.findIn K (.ref C) "__class__" = ae (ae (.builtin "object.__class__"))
 mro:W.mroIn K C (.type "object")=ae ag
 is:(W.clsIn K C).isSome=ag
 exc:W.excIn K C bmV "ValueError.__new__" = ag
theorem j8d{K:k5k}{C:ak}(h:j4e K C=ag):XcOk K C:=by unfold j4e at h;simp only[X6,beq_iff_eq]at h;exact⟨h.1,h.2.1,h.2.2.1,h.2.2.2.1,h.2.2.2.2.1,h.2.2.2.2.2.1,h.2.2.2.2.2.2⟩
structure ExOne(K:k5k)(x:ao)(C:ak):Prop where
 ok:XcOk K C
 val:W.kitOne K (.ref C) (.type "ValueError")=ae ag
 ask:∃a,W.nsIn K au "AskError" = ae (ae a)/\W.exmOne K (.ref C) a=ae ag
 one:∀c∈qe,∀v,W.nsIn K au c=ae (ae v)->W.kitOne K (.ref C) v=ae (x==c)
theorem Yv{K:k5k}(h:Q8 K=ag){x:ao}{o:aj}(hx:x∈qe)(e:W.nsIn K au x=ae (ae o)):∃C,o=.ref C/\ExOne K x C:=by
 have q:=Xo.mp h x hx;rw[e]at q;cases o with
 |ref C =>
  refine⟨C,rfl,?_⟩;dsimp only at q;simp only[X6,beq_iff_eq]at q;obtain⟨q1,q2,q3,q4⟩:=q;refine⟨j8d q1,q2,?_,λc hc v ev=>?_⟩
  .split at q3
   .rename_i a ea;exact⟨a,ea,beq_iff_eq.mp q3⟩
   .cases q3
  .have z:=Xo.mp q4 c hc;rw[ev]at z;exact beq_iff_eq.mp z
 |_=>cases q
theorem j98{K:k5k}{h₀:aK}{C:ak}{bmB:List aj}{newId:String}{x:ao}{mg:k5n}(X:K.In h₀)(hb:mg x=ae (.ref C))(q:W.excIn K C bmB newId=ag):OwnCls x C bmB newId mg h₀:=by
 refine⟨hb,?_⟩;unfold W.excIn at q;split at q
 .rename_i dd cd sl ho;split at q
  .rename_i C' bm k0 k1 k2 k3 n k5 hm hs;simp only[X6,beq_iff_eq,cT]at q;obtain⟨⟨⟨⟨⟨rfl,rfl⟩,hdel⟩,ht⟩,hok⟩,hni⟩:=q;obtain⟨nm,bs,mro,ns,qn,hd,sn,sub,ab,col,del⟩:=cd;dsimp only at hm hdel hok hni;subst hm hdel;have hsl:sl = #[k0,k1,k2,k3,ae (.builtin n),k5]:=by obtain⟨l⟩:=sl;simp only at hs;rw[hs]
   subst hsl;exact⟨bm,ns,nm,qn,bs,hd,sn,sub,ab,col,dd,k0,k1,k2,k3,k5,_,X _ _ ho,.of_isNs (W.isNs_of_in X hok),W.nsMap_none_of_in X hok hni,W.tail_of_in X ht⟩
  .cases q
 .cases q
theorem DS.raiseE{X:Cx}{ρ:Rho}{e:ar}{x:ao}{o:aj}{np cpos pos:aQ}{P:Po}(ha:Q8 X.K=ag)(hx:x∈qe)(hn:W.nsIn X.K au x=ae (ae o))(hb:X.mg x=ae o)(hK:X.K.In X.base)(hc:X.calm=ag)
  (he:∀σ H,Rep X.K ρ σ H->Jk X e σ H λ_ H'=>j4 H H') (hP:P.ex x ρ) (hg:Gl X x) (hdb:(x==k5o)=af) (hs:ai [e] X.env=[(af,aH e X.env)]):DS X ρ (.Raise (ae (.Call (.Name x np) [e] [] cpos)) ah pos) P:=by
 obtain⟨C,rfl,F⟩:=Yv ha hx hn;exact DS.raise (j98 hK hb F.ok.exc) eD (by decide +kernel) eD hc he hP hg hdb hs
theorem j5y{K:k5k}{e C:ak}{o:cy}(k:XcOk K C):gR K (.ref e) (.ref C) (λh=>h.get? e=ae o/\o.cls=.ref C) where
 ty:=λ_ _ _ p=>p.2▸(dY p.1).andThen .now
 it:=λ_ _ X _=>by
  obtain⟨cdD,hcD⟩:=Xg.mp k.is;unfold W.clsIn at hcD;split at hcD
  .rename_i c' d' cd' sl' ho;intro A' Q' E' s' k q;unfold isType loadHead;exact az (jL (k _ _ (X _ _ ho)) (aG q))
  .cases hcD
 ne:=λh tp dd its n sl X htp=>by
  obtain⟨cdD,hcD⟩:=Xg.mp k.is;refine Bool.eq_false_iff.mpr λq=>?_;have e:C=tp:=Value.ref.inj (beq_iff_eq.mp q);subst e;unfold W.clsIn at hcD;split at hcD
  .rename_i c' d' cd' sl' ho;have z:=(X _ _ ho).symm.trans htp;cases z
  .cases hcD
 ca:=λ{prog w A E Q s} X p hq=>by obtain⟨h,g,d,t,os⟩:=s;exact W.excls_attr X p.1 p.2 k.ga k.gt k.sub k.cls k.mro PySem.F.attr_ValueError.ga hq
section
variable{X:Cx}{pins pins':k5m}{σ:St}{H:Hp}{s:aq}{xe:k5l}{e:ak}
theorem Inv.toPn(I:Inv X pins σ H s):Inv { X with pn:=X.pn++pins,xe:=xe } [] σ H s :=
 ⟨⟨I.ok.mod,I.ok.kind,I.ok.glob,I.ok.blt,I.ok.above,I.ok.inj,I.ok.has,I.ok.cab,I.ok.hd,I.ok.frames,I.ok.stk,I.ok.exf,I.ok.bs,I.ok.bsz,I.ok.noex,I.ok.exfs,I.ok.funs,I.ok.frf⟩,
  I.os,I.bare,I.base,I.loc,I.cell,I.free,I.freeC,λp hp=>I.pin p (by rw[Xk]at hp;exact hp),I.hok,I.len⟩
theorem Inv.ofPn(I:Inv { X with pn:=X.pn++pins,xe:=xe } pins' σ H s):Inv X pins σ H s :=
 ⟨⟨I.ok.mod,I.ok.kind,I.ok.glob,I.ok.blt,I.ok.above,I.ok.inj,I.ok.has,I.ok.cab,I.ok.hd,I.ok.frames,I.ok.stk,I.ok.exf,I.ok.bs,I.ok.bsz,I.ok.noex,I.ok.exfs,I.ok.funs,I.ok.frf⟩,
  I.os,I.bare,I.base,I.loc,I.cell,I.free,I.freeC,λp hp=>I.pin p (Xu _ hp),I.hok,I.len⟩
theorem Old.toPn{b:ak}(h:Old X pins b):Old { X with pn:=X.pn++pins,xe:=xe } pins' b:=by
 rcases h with h|⟨p,hp,e⟩|h|h
 .exact .inl h
 .exact .inr (.inl ⟨p,Xu _ hp,e⟩)
 .exact .inr (.inr (.inl h))
 .exact .inr (.inr (.inr h))
noncomputable abbrev Cx.hnd(X:Cx)(e:ak):Cx:={ X with A:=X.A.mark (ae (.ref e)),calm:=af,xe:=λ_ _=>False }
theorem Inv.toH(I:Inv X pins σ H s):Inv (X.hnd e) pins σ H s :=
 ⟨⟨I.ok.mod,I.ok.kind,I.ok.glob,I.ok.blt,I.ok.above,I.ok.inj,I.ok.has,I.ok.cab,(λz=>by cases z),I.ok.frames,I.ok.stk,I.ok.exf,I.ok.bs,I.ok.bsz,I.ok.noex,I.ok.exfs,I.ok.funs,I.ok.frf⟩,
  I.os,I.bare,I.base,I.loc,I.cell,I.free,I.freeC,I.pin,I.hok,I.len⟩
theorem Inv.ofH(ok:X.Ok)(I:Inv (X.hnd e) pins σ H s):Inv X pins σ H s:=⟨ok,I.os,I.bare,I.base,I.loc,I.cell,I.free,I.freeC,I.pin,I.hok,I.len⟩
end
theorem Rep.set_raw{K:k5k}{ρ:Rho}{σ:St}{H:Hp}{i:Nat}{a:ak}{o:cy}{x:ao}(R:Rep K ρ σ H)(e:del H (owns ρ) a=ae (.frz o (.own a)))(hx:W.nsIn K au x=ae (ae o.cls)):Rep K (ρ.set i (.raw a o x)) (σ.set i (ae (.ref a))) H:=by
 have sub:(owns (ρ.set i (.raw a o x))).Sublist (owns ρ):=jd rfl;have g:j4 (del H (owns ρ)) (del H (owns (ρ.set i (.raw a o x)))):=v9 λb hb=>sub.subset hb;refine⟨by simp[R.len],λj d' h=>?_,λj a ds h=>?_,sub.nodup R.nd,λj a' o' x' h=>?_,R.tb⟩
 .rcases getElem?_set_of h with ⟨rfl,z,hl⟩|⟨n,h⟩
  .cases z
  .obtain⟨u,q,h⟩:=R.val j d' h;exact⟨u,by rw[zp n];exact q,h.mono g⟩
 .rcases getElem?_set_of h with ⟨rfl,z,_⟩|⟨n,h⟩
  .cases z
  .obtain⟨q,xs,h,l⟩:=R.own j a ds h;exact⟨by rw[zp n];exact q,xs,h,l.mono g⟩
 .rcases getElem?_set_of h with ⟨rfl,z,hl⟩|⟨n,h⟩
  .cases z;exact⟨Z9 (by rw[R.len];exact hl),.inr ⟨g _ _ e,hx⟩⟩
  .obtain⟨q,h⟩:=R.raw j a' o' x' h;exact⟨by rw[zp n];exact q,h.mono g⟩
section
variable{X:Cx}{ρ:Rho}{i:Nat}{a:ak}{o:cy}{x y c c1 c2:ao}{p p1 p2 p3 p4 p5 pos:aQ}{k:Bool}
theorem Fg:vm X (.builtin "isinstance") (λxs H Q=>∃(a:ak)(o:cy)(C:ak)(v:V)(u:aj)(b:Bool),xs=[.ref a,v]/\H a=ae (.frz o (.own a))/\o.cls=.ref C/\XcOk X.K C/\(∀u',RelV v u'->u'=u)/\W.kitOne X.K (.ref C) u=ae b/\Q (.bl b) H):=by rintro pins s σ H xs us Q I r ⟨a,o,C,v,u,b,e,ha,hc,hk,hv,kk,q⟩;subst e;obtain⟨u1,u2,eu,r1,r2⟩:=vals2 r;subst eu;cases(show u1=aJ a from r1);cases hv u2 r2;exact W.kia_one (j5y hk) I.kIn ⟨(I.hok a _ ha).1,hc⟩ kk (λz=>nomatch z) λtk=>⟨.bl b,H,I.tok tk,rfl,q⟩
theorem j29{σ:St}{H:Hp}(ha:Q8 X.K=ag)(hx:x∈qe)(R:Rep X.K ρ σ H)(h:ρ[i]?=ae (.raw a o x)):σ[i]?=ae (ae (.ref a))/\H a=ae (.frz o (.own a))/\∃C,o.cls=.ref C/\ExOne X.K x C:=by obtain⟨q,z⟩:=R.raw i a o x h;obtain⟨z,n⟩:=z.resolve_left λe=>absurd (e▸hx) (by decide);obtain⟨C,e,F⟩:=Yv ha hx n;exact⟨q,(of_del z).2,C,e,F⟩
theorem DE.isxV (ha:Q8 X.K=ag) (hx:x∈qe) (h:ρ[i]?=ae (.raw a o x)) (hm:X.mg "isinstance" = ah) (hT:X.mg "ValueError" = ah) (hN:X.N[i]?=ae y) (hv:Vis X.env.scope y) (hd:(y==k5o)=af) (hcd:(y==k5p)=af)
  (hg:Gl X "isinstance") (hg2:Gl X "ValueError") (hs:ai [.Name y p1,.Name "ValueError" p2] X.env=(af,aH (.Name y p1) X.env)::ai [.Name "ValueError" p2] X.env) (hs2:ai [.Name "ValueError" p2] X.env=(af,aH (.Name "ValueError" p2) X.env)::ai [] X.env)
  (hpl:(aV pos (ai [.Name "ValueError" p2] X.env)).any (·.1)=af):DE X ρ (.Call (.Name "isinstance" p) [.Name y p1,.Name "ValueError" p2] [] pos) (.bl ag):=λσ H Q R q=>by
 obtain⟨q1,q2,C,e,F⟩:=j29 ha hx R h;exact(qz Fg hg hm dC (j9 (qt hN hv hd hcd) (j9 (Dh hg2 hT (by decide +kernel)) ju hs2) hs) (by decide) (by decide) hs hpl).to ⟨.ref a,q1,a,o,C,.ty "ValueError",.type "ValueError",ag,rfl,q2,e,F.ok,λu' r=>r,F.val,q _ H (j4.refl H) rfl⟩
theorem DE.isx1 {v:aj} (ha:Q8 X.K=ag) (hx:x∈qe) (h:ρ[i]?=ae (.raw a o x)) (hm:X.mg "isinstance" = ah) (hc:c∈qe) (hn:W.nsIn X.K au c=ae (ae v)) (hT:X.mg c=ae v) (hN:X.N[i]?=ae y) (hv:Vis X.env.scope y) (hd:(y==k5o)=af) (hcd:(y==k5p)=af)
  (hg:Gl X "isinstance") (hg2:Gl X c) (hdb:(c==k5o)=af) (hs:ai [.Name y p1,.Name c p2] X.env=(af,aH (.Name y p1) X.env)::ai [.Name c p2] X.env) (hs2:ai [.Name c p2] X.env=(af,aH (.Name c p2) X.env)::ai [] X.env)
  (hpl:(aV pos (ai [.Name c p2] X.env)).any (·.1)=af):DE X ρ (.Call (.Name "isinstance" p) [.Name y p1,.Name c p2] [] pos) (.bl (x==c)):=λσ H Q R q=>by
 obtain⟨q1,q2,C,e,F⟩:=j29 ha hx R h;obtain⟨C',rfl,_⟩:=Yv ha hc hn;exact(qz Fg hg hm dC (j9 (qt hN hv hd hcd) (j9 (Iu (v:=.ref C') hg2 hT rfl hdb) ju hs2) hs) (by decide) (by decide) hs hpl).to ⟨.ref a,q1,a,o,C,.ref C',.ref C',x==c,rfl,q2,e,F.ok,λu' r=>r,F.one c hc _ hn,q _ H (j4.refl H) rfl⟩
end
structure KindsP(P:ay)(w:aE)(K:k5k)(mg:k5n)(base:aK)(f x:ao)(l:List D):Prop where
 ex:∃fa:ak,mg f=ae (.ref fa)/\W.keepIn K (.ref fa)=ag/\∀(A:aF)(outer:List cG)(s:aq)(H:Hp)(e:ak)(o:cy),A.depth+4<bD->A.units+150<bb->Env0 P w K mg base A outer s H->TabOk K H ->
  H e=ae (.frz o (.own e))->W.nsIn K au x=ae (ae o.cls) ->
  c9 (aB P w) A (.call (.ref fa) ⟨[.ref e],[]⟩) (CR CX0 outer P w H s (λv H'=>∃a xs,v=.ref a/\j4 H H'/\H a=ah/\H' a=ae (.lst xs)/\j6 K (del H' [a]) l xs) E0) s
 nl:qi l=ag
abbrev Kinds(X:Cx)(f x:ao)(l:List D):Prop:=KindsP X.prog X.w X.K X.mg X.base f x l
section
variable{X:Cx}{ρ:Rho}{i j:Nat}{e:ak}{o:cy}{f x n k A:ao}{l:List D}{P:Po}{body:List aP}{p p1 p2 p3 p4 p5 pos hpos:aQ}
theorem DO.kinds (c:Kinds X f x l) (hx:x∈qe) (h:ρ[j]?=ae (.raw e o x)) (hdp:X.A.depth+4<bD) (hun:X.A.units+150<bb) (hg:Gl X f) (hdb:(f==k5o)=af) (hN:X.N[j]?=ae n) (hv:Vis X.env.scope n) (hd:(n==k5o)=af) (hcd:(n==k5p)=af)
  (he:ai [.Name n p1] X.env=(af,aH (.Name n p1) X.env)::ai [] X.env) (hpl:(aV p2 (ai [] X.env)).any (·.1)=af):DO X ρ (.Call (.Name f p) [.Name n p1] [] p2) l:=λσ H Q R q pins s I=>by
 obtain⟨fa,hm,hk,run⟩:=c.ex;obtain⟨q1,q2⟩:=R.raw j e o x h;obtain⟨q2,q3⟩:=q2.resolve_left λe=>absurd (e▸hx) (by decide);refine ba (Jv I hg hm ?_ hdb);refine W.callWith_K (h₀:=X.base) I.ok.mod.kin hk (thn ((j9 (qt hN hv hd hcd) ju he).to (σ:=σ) (H:=H) (Q:=λvs H1=>vs=[.ref e]/\H1=H) ⟨.ref e,q1,rfl,rfl⟩ p2 pins s I) λus s1 ⟨vs,H1,I1,r,e1,e2⟩=>⟨I1.kIn,?_⟩) he hpl;subst e1 e2;obtain⟨u,eu,r1⟩:=vals1 r;subst eu;cases(show u=aJ e from r1);refine eF (bH (run X.A X.stack s1 H1 e o hdp hun I1.env0 R.tb (of_del q2).2 q3) λr s' hq=>?_);cases r with
 |error e=>exact hq.elim
 |ok fl =>
  cases fl with
  |ret u =>
   obtain⟨v,H',I',rv,a,xs,ev,g,na,m,en⟩:=I1.after hq;refine⟨v,H',I',rv,?_⟩;subst ev;exact q a xs H' g na m ((en.mono qb).hide (λc hc=>by
    rcases km.mp hc with z|z
    .rw[z];exact .inl ⟨xs,m⟩
    .exact .inl ((R.grow g).owned c z)) c.nl)
  |next=>exact aO hq
  |brk=>exact aO hq
  |cont=>exact aO hq
theorem caught{pins:k5m}{σ:St}{H H0:Hp}{s:aq}{C:aj}{E:Ends}{ρ0:Rho}(ha:Q8 X.K=ag)(hx:x∈qe)(hns:W.nsIn X.K au x=ae (ae C))(c:Kinds X f x l)(hst:X.stack=X.env::X.outer)(hfm:X.env.frame=ae X.env.locals)
  (hdp:X.A.depth+4<bD) (hun:X.A.units+150<bb) (I:Inv X pins σ H s) (R:Rep X.K ρ σ H) (Fe:Fl (Old X pins) H s.heap e C) (q:EndsOk X ρ0 H0 P E) (f0:Fr0 ρ0 ρ H0 H)
  (hP:∀oe a,P.nx (((ρ.set j (.raw e oe x)).set i (.own a l)).set j .un)) (hND:X.N.Nodup) (hgA:Gl X "AskError")
  (hg:Gl X f) (hdb:(f==k5o)=af) (hN:X.N[j]?=ae n) (hlo:X.env.scope.names.lookup n=ae .local) (hd:(n==k5o)=af) (hcd:(n==k5p)=af)
  (hi:X.N[i]?=ae k) (hxk:Loc X.env.scope k) (hfk:X.fn k=ag\/X.env.scope.names.lookup k=ae .local) (hfn:X.fn n=ag\/X.env.scope.names.lookup n=ae .local)
  (hs:aR (.Call (.Name f p) [.Name n p1] [] p2) (ae (.Name k p3)) p4.line X.env=pure af)
  (he:ai [.Name n p1] X.env=(af,aH (.Name n p1) X.env)::ai [] X.env) (hpl:(aV p2 (ai [] X.env)).any (·.1)=af) :
  aC (aB X.prog X.w) X.A (eV (.ref e) X.env) (λ_ s₂=>aC (aB X.prog X.w) X.A (iP (.ref e) ah) (λ_ s₃ =>
   aC (aB X.prog X.w) X.A (handleBy (.ref e) X.env [.ExceptHandler (ae (.Name "AskError" p5)) (ae n) [.Assign [.Name k p3] (.Call (.Name f p) [.Name n p1] [] p2) p4] hpos]) (SP X pins E) X.xe s₃) X.xe s₂) X.xe s:=by
 obtain⟨Ca,rfl,F1⟩:=Yv ha hx hns;obtain⟨av,hav,hexm⟩:=F1.ask;have hma:X.mg "AskError" = ae av:=W.mg_of I.mod.kin I.mod.glob hav;refine j9f I hst hfm Fe λh1 I1 F1'=>?_;refine Ec I1 F1' λh2 I2 F2=>?_;refine wpAny_handleBy_cons (codeAny_handlers_test (Jv (X:=X.hnd e) (Inv.toH I2) hgA hma ?_)) (by intro q;cases q);obtain⟨oe,vs,a0,T,oT,ts,hoe,hoc,_⟩:=F2.obj;refine(W.exm_one I2.kIn (hoc▸(dY hoe).andThen .now) hexm).here ?_;refine codeAny_handlers_suite_as (Ec (X:=X) I2 F2 λh3 I3 F3=>?_);obtain⟨oe,vs,a0,T,oT,ts,hoe,hoc,_⟩:=F3.obj;have I4:=I3.track hoe F3.new F3.free;have g4:j4 H (upd H e (.frz oe (.own e))):=j8 F3.free;have R4:=R.grow g4;have ho:del (upd H e (.frz oe (.own e))) (owns ρ) e=ae (.frz oe (.own e)):=by rw[j5 (R.fresh F3.free)];exact jm
 have hcls:W.nsIn X.K au x=ae (ae oe.cls):=by rw[hoc];exact hns
 refine Uh (v:=.ref e) I4 hND hN (.inl hlo) rfl (λs5 I5 _=>?_) hfn;have R5:Rep X.K (ρ.set j (.raw e oe x)) (σ.set j (ae (.ref e))) (upd H e (.frz oe (.own e))):=R4.set_raw ho hcls;have hj:(ρ.set j (.raw e oe x))[j]?=ae (.raw e oe x):=Z9 (by
  have z:=(Xn.mp hN).1
  rw[<-R.len,I.len];exact z)
 have suite:DSs (X.hnd e) (ρ.set j (.raw e oe x)) [.Assign [.Name k p3] (.Call (.Name f p) [.Name n p1] [] p2) p4] { nx:=λρ3=>∃a,ρ3=(ρ.set j (.raw e oe x)).set i (.own a l),rt:=λ_=>False } :=
  DSs.last (DS.setO i (DO.kinds (X:=X.hnd e) ⟨c.ex,c.nl⟩ hx hj hdp hun hg hdb hN (.inl hlo) hd hcd he hpl) (λa=>⟨a,rfl⟩) hND hi hxk hs hfk)
 have run:=suite _ _ { nx:=λσ6 H6=>∃a,Rep X.K ((ρ.set j (.raw e oe x)).set i (.own a l)) σ6 H6/\Fr0 (ρ.set j (.raw e oe x)) ((ρ.set j (.raw e oe x)).set i (.own a l)) (upd H e (.frz oe (.own e))) H6,rt:=λ_ _=>False,bk:=λ_ _=>False,ct:=λ_ _=>False } R5
  ⟨λρ' σ' H' ⟨a,er⟩ R' f=>⟨a,er▸R',er▸f⟩,λ_ _ _ z=>z.elim,λ_ _ _ z=>z.elim,λ_ _ _ z=>z.elim,λ_ _ _ _ z=>z.elim⟩ pins s5 (Inv.toH I5)
 refine b9 run (λfl s6 h6=>?_) λ_ _ z=>z.elim;cases fl with
 |next =>obtain⟨σ6,H6,I6,a,R6,f6⟩:=h6;refine ja7 (X:=X) (Inv.ofH I.ok I6) hND hN hlo λs7 I7=>?_;refine⟨_,H6,I7,q.nx _ _ H6 (hP oe a) R6.set_un ?_⟩;refine f0.trans (j4.trans (Fr0.grow g4) (j4.trans (Fr0.drop λb hb=>(jd rfl).subset hb) (j4.trans f6 (Fr0.drop λb hb=>(jd rfl).subset hb))))
 |ret u=>obtain⟨_,_,_,_,_,_,_,z⟩:=h6;exact z.elim
 |brk=>obtain⟨_,_,_,z⟩:=h6;exact z.elim
 |cont=>obtain⟨_,_,_,z⟩:=h6;exact z.elim
end
section
variable{X:Cx}{ρ:Rho}{i j:Nat}{f n k:ao}{P:Po}{body:List aP}{p p1 p2 p3 p4 p5 pos hpos:aQ}
noncomputable def Po.caught(P:Po)(X:Cx)(f:ao)(i j:Nat):Po:={ P with ex:=λx ρ'=>x∈qe/\(∃o,W.nsIn X.K au x=ae (ae o))/\∃l,Kinds X f x l/\∀e oe a,P.nx (((ρ'.set j (.raw e oe x)).set i (.own a l)).set j .un) }
theorem DS.tryK(hb:∀pn xe,eX (aB X.prog X.w) X.A X.env xe->DSs { X with pn:=pn,xe:=xe } ρ body (P.caught X f i j))(ha:Q8 X.K=ag)(hst:X.stack=X.env::X.outer)(hfm:X.env.frame=ae X.env.locals)(hdp:X.A.depth+4<bD)(hun:X.A.units+150<bb)
  (hND:X.N.Nodup) (hgA:Gl X "AskError") (hg:Gl X f) (hdb:(f==k5o)=af) (hN:X.N[j]?=ae n) (hlo:X.env.scope.names.lookup n=ae .local) (hd:(n==k5o)=af) (hcd:(n==k5p)=af)
  (hi:X.N[i]?=ae k) (hxk:Loc X.env.scope k) (hfk:X.fn k=ag\/X.env.scope.names.lookup k=ae .local) (hfn:X.fn n=ag\/X.env.scope.names.lookup n=ae .local)
  (hs:aR (.Call (.Name f p) [.Name n p1] [] p2) (ae (.Name k p3)) p4.line X.env=pure af)
  (he:ai [.Name n p1] X.env=(af,aH (.Name n p1) X.env)::ai [] X.env) (hpl:(aV p2 (ai [] X.env)).any (·.1)=af) :
  DS X ρ (.Try body [.ExceptHandler (ae (.Name "AskError" p5)) (ae n) [.Assign [.Name k p3] (.Call (.Name f p) [.Name n p1] [] p2) p4] hpos] [] [] pos) P:=λσ H E R q pins s I=>by
 refine wpAny_Try_except ?_;refine b9 (hb (X.pn++pins) (λe s₁=>aC (aB X.prog X.w) X.A (eV e X.env) (λ_ s₂=>aC (aB X.prog X.w) X.A (iP e ah) (λ_ s₃ =>
   aC (aB X.prog X.w) X.A (handleBy e X.env [.ExceptHandler (ae (.Name "AskError" p5)) (ae n) [.Assign [.Name k p3] (.Call (.Name f p) [.Name n p1] [] p2) p4] hpos]) (SP X pins E) X.xe s₃) X.xe s₂) X.xe s₁) PassesOwn.looking
  σ H E R ⟨q.nx,q.bk,q.ct,q.rt,λx ρ' σ' H' hP R' f'=>?_⟩ [] s I.toPn) (λfl s1 h1=>?_) λ_ _ z=>z
 .obtain⟨hx,⟨o,ho⟩,l,kd,hnx⟩:=hP;intro pins' H2 s' e C I' g hm Fe;have I2:Inv X pins σ' H2 s':=Inv.ofPn I';have hm2:X.mg x=ae o:=W.mg_of I2.mod.kin I2.mod.glob ho;cases(show ae C=ae o from(show X.mg x=ae C from hm).symm.trans hm2);exact caught ha hx ho kd hst hfm hdp hun I2 (R'.grow g) ⟨λb hb=>Fe.new b hb.toPn,Fe.free,by
   obtain⟨oe,vs,a0,z1,z2,z3,z4,z5⟩:=Fe.obj
   refine⟨oe,vs,a0,z1,z2,z3,z4,z5.imp id ?_⟩
   rintro⟨T,oT,ts,y1,y2,y3,y4,y5,y6,y7⟩
   exact⟨T,oT,ts,y1,y2,y3,y4,y5,y6,λb hb=>y7 b hb.toPn⟩⟩ q (f'.trans (Fr0.grow g)) (λoe a=>hnx e oe a) hND hgA hg hdb hN hlo hd hcd hi hxk hfk hfn hs he hpl
 .cases fl with
  |next =>obtain⟨σ',H',I',z⟩:=h1;exact(Y6 (X:=X)).to z pins s1 (Inv.ofPn I')
  |ret u =>obtain⟨v,σ',H',H2,I',r,x2,z⟩:=h1;exact⟨v,σ',H',H2,Inv.ofPn I',r,x2,z⟩
  |brk=>obtain⟨σ',H',I',z⟩:=h1;exact⟨σ',H',Inv.ofPn I',z⟩
  |cont=>obtain⟨σ',H',I',z⟩:=h1;exact⟨σ',H',Inv.ofPn I',z⟩
end
section
variable{P:ay}{w:aE}{K:k5k}{mg:k5n}{base:aK}{f:ak}{g x pn:ao}{st:aP}{fd:aL}{N:List ao}{l:List D}
theorem j8y{H:Hp}{e:ak}{o:cy}(tb:TabOk K H)(hN:1<=N.length)(h:H e=ae (.frz o (.own e)))(hx:W.nsIn K au x=ae (ae o.cls)):Rep K (.raw e o x::ax (N.length-1) .un) (start N [.ref e]) H:=by
 have ho:owns (.raw e o x::ax (N.length-1) .un)=[]:=by
  rw[jg];show owns _=[]
  exact List.filterMap_eq_nil_iff.mpr λs hs=>by rw[(T4.mp hs).2];rfl
 have un:∀(i:Nat)(s:Sl),(.raw e o x::ax (N.length-1) .un:Rho)[i]?=ae s->(i=0/\s=.raw e o x)\/s=.un:=λi s q=>by
  cases i with
  |zero=>rw[List.getElem?_cons_zero]at q;cases q;exact .inl ⟨rfl,rfl⟩
  |succ i=>rw[fq]at q;exact .inr (T4.mp (Xq q)).2
 refine⟨by unfold start;simp,λi d q=>?_,λi a ds q=>?_,by rw[ho];exact eS,λi a o' x' q=>?_,tb⟩
 .rcases un i _ q with ⟨_,z⟩|z<;>cases z
 .rcases un i _ q with ⟨_,z⟩|z<;>cases z
 .rcases un i _ q with ⟨z,z2⟩|z
  .cases z2;subst z;exact⟨rfl,.inr ⟨by rw[ho,vd];exact h,hx⟩⟩
  .cases z
theorem kinds_of(F:Fun K g g st f fd)(Sc:FnScope N [pn] (j0 st))(hbd:Binds K fd [pn] [])(hm:mg g=ae (.ref f))(hN:1<=N.length)(hnl:qi l=ag)
  (hbody:∀(cdv:aj)(A:aF)(outer:List cG)(s:aq)(H:Hp)(e:ak)(o:cy),A.depth+4<bD->A.units+150<bb ->
   DSs { (ql CX0 P w K mg base N g (j0 st) f cdv A outer s H E0).nox with calm:=af } (.raw e o x::ax (N.length-1) .un) (jb st) { nx:=λ_=>False,rt:=λr=>r=.fresh l }):KindsP P w K mg base g x l:=by
 refine⟨⟨f,hm,F.kp,λA outer s H e o hdp hun e0 tb he hx=>?_⟩,hnl⟩;obtain⟨oc,od,dV,kV,doc,pm,an,cdv,ct,osl,rfl,lk,hcd⟩:=F.ex;have KX:K.In s.heap:=e0.mod.kin.keeps λb o e=>(e0.bs b o e).1;have lim:s.heap.NoLimit:=e0.mod.nolimit.keeps λb o e=>(e0.bs b o e).1;have hb:=hbd s [.ref e] KX rfl;have hkind:∀y∈[pn].zip [aJ e],(j0 st).names.lookup y.1=ae .local\/((j0 st).names.lookup y.1=ae .cell/\((aU (s.heap.objs.size+1) (j0 st).names []).lookup y.1).isSome=ag):=λ⟨n,v⟩ hy=>by
  rcases Sc.par n (cz hy).1 with q|q
  .exact .inl q
  .exact .inr ⟨q,W.cellsFrom_some _ _ _ (.inl q)⟩
 refine gK nofun (KX _ _ lk) rfl Sc.co Sc.gen rfl (W.codeRec_of KX hcd) (hb _ _ _ _ ?_);refine fG Sc.kind hkind λenv henv s1 x1=>?_;subst henv;refine⟨lim.keeps x1.toInCall.keep,codeAny_func ?_⟩;have I:Inv { ql CX0 P w K mg base N g (j0 st) f cdv A outer s H E0 with calm:=af } [] (start N [.ref e]) H s1:=Nq Sc af (λz=>by cases z) e0 rfl (.cons rfl .nil) x1;have I':Inv { (ql CX0 P w K mg base N g (j0 st) f cdv A outer s H E0).nox with calm:=af } [] (start N [.ref e]) H s1 :=
  ⟨⟨I.ok.mod,I.ok.kind,I.ok.glob,I.ok.blt,I.ok.above,I.ok.inj,I.ok.has,I.ok.cab,I.ok.hd,I.ok.frames,I.ok.stk,I.ok.exf,I.ok.bs,I.ok.bsz,I.ok.noex,I.ok.exfs,I.ok.funs,I.ok.frf⟩,
   I.os,I.bare,I.base,I.loc,I.cell,I.free,I.freeC,I.pin,I.hok,I.len⟩
 have ho:owns (.raw e o x::ax (N.length-1) .un)=[]:=by
  rw[jg];show owns _=[]
  exact List.filterMap_eq_nil_iff.mpr λs hs=>by rw[(T4.mp hs).2];rfl
 have run:=hbody cdv A outer s H e o hdp hun (start N [.ref e]) H { nx:=λ_ _=>False,bk:=λ_ _=>False,ct:=λ_ _=>False,rt:=λv H'=>∃a xs,v=.ref a/\j4 H H'/\H a=ah/\H' a=ae (.lst xs)/\j6 K (del H' [a]) l xs } (j8y tb hN he hx)
  ⟨λ_ _ _ z=>z.elim,λ_ _ _ z=>z.elim,λ_ _ _ z=>z.elim,(λr v H' n z=>by
   cases(show r=.fresh l from n)
   obtain⟨a,xs,e,g,m,en⟩:=z
   rw[ho,vd]at g
   refine⟨a,xs,e,g.trans qb,?_,m,en⟩
   cases y:H a with
   |none=>rfl
   |some o=>have:=g a o y;rw[zc (xm.mpr rfl)]at this;cases this),λ_ _ _ _ z=>z.elim⟩ [] s1 I'
 refine b9 run (λfl s' hs=>?_) λ_ _ z=>z.elim;cases fl with
 |ret u =>obtain⟨v,σ',H',H2,J,rv,x,q⟩:=hs;exact⟨v,H2,J.os,J.bare,(J.extOut x).2 rfl,(J.extOut x).1,rv,q⟩
 |next=>obtain⟨_,_,_,q⟩:=hs;exact q.elim
 |brk=>obtain⟨_,_,_,q⟩:=hs;exact q.elim
 |cont=>obtain⟨_,_,_,q⟩:=hs;exact q.elim
end
section
variable{X:Cx}
def jid:V->Option Int->Option Int->Hp->VK->Prop:=λx lo hi H Q=>∃z,x=.str z/\z.length<=aw/\Q (.str (bJ z lo hi)) H
theorem part_of{v:aj}{o:Option Int}(h:dO v o):∃l:Option (Int×ib),v=partValue l/\l.map (·.1)=o:=by
 cases h with
 |none=>exact⟨ah,rfl,rfl⟩
 |int i t=>exact⟨ae (i,t),rfl,rfl⟩
theorem jbc:SlR X jid:=by intro pins s σ H x v vl vu lo hi sl Q I rx hs pl pu h;obtain⟨z,ex,hz,q⟩:=h;subst ex;obtain⟨t,ev⟩:=rx;subst ev;obtain⟨l,el,ml⟩:=part_of pl;obtain⟨u,eu,mu⟩:=part_of pu;subst el eu ml mu;obtain⟨o,h1,h2,h3⟩:=hs;refine⟨"str",_,PySem.F.slot_str_getitem.lookup,cD s z t,wpAny_getItem_str_slice (l:=l) (u:=u) (st:=ah) ⟨o,h1,h2,h3⟩ rfl ?_⟩;exact post_val_or_str ⟨X8 (Txt.slice_le z _ _) hz,λt' k=>⟨.str _,H,I.tok k,⟨_,rfl⟩,q⟩⟩
theorem Il:∀{ts:List ao}{us:List aj},Vals (ts.map V.str) us->∃l:List (ao×ib),us=strValues l/\l.map (·.1)=ts
 |[],_,r=>by cases r;exact⟨[],rfl,rfl⟩
 |t::ts,_,r=>by
  cases r with
  |cons a b =>obtain⟨k,e⟩:=a;obtain⟨l,e1,e2⟩:=Il b;subst e e1 e2;exact⟨(t,k)::l,rfl,rfl⟩
theorem j9g:MtR X "str.join" (λx vs H Q=>∃(sep:ao)(l:ak)(ts:List ao),x=.str sep/\vs=[.ref l]/\SqL X.K H l (ts.map V.str)/\bq sep ts=ag/\Q (.str (bF sep ts)) H):=by rintro pins s σ H x vs v us Q I rx rv ⟨sep,l,ts,e,e',sq,hok,q⟩;subst e e';obtain⟨t,ev⟩:=rx;subst ev;obtain⟨u,eu,ru⟩:=rv.one;subst eu;cases ru;obtain⟨its,ri,pl,_⟩:=I.list sq;obtain⟨ps,e1,e2⟩:=Il ri;subst e1 e2;unfold bq at hok;rw[cT]at hok;exact bU gd (cD _ _ _) F.entry_str_join (F.args_str_join_2 _ _) (meets_str_join_list sep t l ps hok) ⟨pl.isList,post_join ps ⟨joinFit_length hok,λt' k=>⟨.str _,H,I.tok k,⟨_,rfl⟩,q⟩⟩⟩
theorem j3z (hc:X.calm=ag):vm X (.builtin "sum") (λxs H Q=>∃(lst:Bool)(l:ak)(ns:List Int),xs=[.ref l]/\SqB X.K lst H l (ns.map V.int)/\Q (.int ns.sum) H):=by
 rintro pins s σ H xs us Q I r ⟨lst,l,ns,e,sq,q⟩;subst e;obtain⟨u,eu,ru⟩:=vals1 r;subst eu;cases ru;obtain⟨its,rv,pl,_⟩:=I.side sq;have hl:its.length=ns.length:=by rw[<-rv.length,xj]
 have val:∀i v,its.toArray[i]?=ae v->∃t,v=bj (ns.getD i 0) t:=by
  intro i v hv;have hi:i<its.length:=by obtain⟨h,_⟩:=Array.getElem?_eq_some_iff.mp hv;simpa using h
  have hi':i<ns.length:=by omega
  obtain⟨w1,hw,rw1⟩:=rv.get (x:=.int (ns.getD i 0)) (i:=i) (by rw[Xi,kh hi',xf,kh hi'];rfl);have:its.toArray[i]?=ae w1:=by simpa using hw
  rw[this]at hv;cases hv;exact rw1
 have tot:preSum (λi=>ns.getD i 0) its.toArray.size=ns.sum:=by rw[preSum_getD,de (by rw[X3];omega)]
 have fin:∀(o:cy)(s':aq)(t':ib),Moved [s.heap.objs.size] (λa b=>b=a) { s with heap:=s.heap.push o } s'->EP X pins σ Q (.int (preSum (λi=>ns.getD i 0) its.toArray.size) t') s':=λo s' t' mv=>by obtain⟨hh,gg,dd,tt,oo⟩:=s';obtain⟨m1,m2,m3,m4,m5⟩:=mv;cases m2;cases m3;cases m4;rw[tot];refine⟨.int _,H,I.kept (t':=tt) λb o e=>m1 b o ?_ (xu _ e),⟨_,rfl⟩,q⟩;intro z;rw[xm.mp z]at e;exact pq _ (xq e)
 unfold Yh at pl;cases lst with
 |true =>
  rw[if_pos rfl]at pl;have hlt:l<s.heap.objs.size:=by obtain⟨_,e,_⟩:=pl;exact xq e
  refine iw (d8 pl ⟨s.heap.objs.size,[s.heap.objs.size,l],[s.heap.objs.size],_,its.toArray.size,_,_,λi=>ns.getD i 0,rfl,(Walks.list (A:=X.A.in1) (I.ok.hd hc) _ _ (Xc hlt) its.toArray).toS,⟨⟨_,Xe _ rfl,rfl,rfl⟩,pl.push _⟩,?_,val,λs' t' mv=>fin _ s' t' mv⟩);intro b hb;show b<(s.heap.push _).objs.size;rw[T3];rcases km.mp hb with z|z
  .rw[z];exact cn _
  .rw[xm.mp z];exact eB hlt
 |false =>
  rw[if_neg xx]at pl;have hlt:l<s.heap.objs.size:=by obtain⟨_,e,_⟩:=pl;exact xq e
  refine iw (i7 pl ⟨s.heap.objs.size,[s.heap.objs.size,l],[s.heap.objs.size],_,its.toArray.size,_,_,λi=>ns.getD i 0,rfl,(Walks.tuple (A:=X.A.in1) (I.ok.hd hc) _ _ (Xc hlt) its.toArray).toS,⟨⟨_,Xe _ rfl,rfl,rfl⟩,pl.push _⟩,?_,val,λs' t' mv=>fin _ s' t' mv⟩);intro b hb;show b<(s.heap.push _).objs.size;rw[T3];rcases km.mp hb with z|z
  .rw[z];exact cn _
  .rw[xm.mp z];exact eB hlt
end
section
variable{X:Cx}{ρ:Rho}{a b e:ar}{ds:List D}{i j:Int}{pos p p1 p2:aQ}{y z:ao}{lo hi:Option ar}{l u:Option Int}
theorem Ny{K:k5k}{H:Hp}:∀{ts:List ao}{xs:List V},j6 K H (ts.map D.str) xs->xs=ts.map V.str
 |[],_,h=>h
 |t::ts,_,⟨x,r,e,h,l⟩=>by subst e;cases(show x=.str t from h);rw[Ny l];rfl
theorem Zz{K:k5k}{H:Hp}:∀{ts:List Int}{xs:List V},j6 K H (ts.map D.int) xs->xs=ts.map V.int
 |[],_,h=>h
 |t::ts,_,⟨x,r,e,h,l⟩=>by subst e;cases(show x=.int t from h);rw[Zz l];rfl
theorem DE.lenS (ha:DT X ρ a (.str y)) (hy:y.length<=aw) (hm:X.mg "len" = ah) (hg:Gl X "len") (hs:ai [a] X.env=[(af,aH a X.env)]):DE X ρ (.Call (.Name "len" p) [a] [] pos) (.int y.length):=λσ H Q R q =>(qz Kf hg hm cF (j9 peS ju hs) (by decide) (by decide) hs).to (ha σ H _ R λv H1 g1 e1=>⟨y,by rw[show v=.str y from e1],hy,q _ H1 g1 rfl⟩)
theorem DE.catS(ha:DT X ρ a (.str y))(hb:DT X ρ b (.str z))(hl:y.length+z.length<=aw):DE X ρ (.BinOp a .Add b pos) (.str (y++z)):=λσ H Q R q =>(Zv j0r peS peS).to (ha σ H _ R λv H1 g1 e1=>hb σ H1 _ (R.grow g1) λu H2 g2 e2=>⟨y,z,e1,e2,hl,q _ H2 (g1.trans g2) rfl⟩)
theorem DE.ixC{c:Nat}(ha:DT X ρ a (.str y))(hb:DT X ρ b (.int i))(hy:y.length<=aw)(h:L2.atI y.cps.toList i=ae c)(hs:Wq b):DE X ρ (.Subscript a b pos) (.str ⟨#[c]⟩):=λσ H Q R q =>(Mm jd9 peS peS hs).to (ha σ H _ R λv H1 g1 e1=>hb σ H1 _ (R.grow g1) λu H2 g2 e2=>⟨y,i,c,e1,e2,hy,h,q _ H2 (g1.trans g2) rfl⟩)
theorem DE.sliceS(ha:DT X ρ a (.str y))(hl:DP X ρ lo l)(hu:DP X ρ hi u)(hy:y.length<=aw):DE X ρ (.Subscript a (.Slice lo hi ah p2) pos) (.str (bJ y l u)):=λσ H Q R q =>(Ri jbc peS poS poS).to (ha σ H _ R λv H1 g1 e1=>hl σ H1 _ (R.grow g1) λH2 g2=>hu σ H2 _ (R.grow (g1.trans g2)) λH3 g3=>⟨y,e1,hy,q _ H3 (g1.trans (g2.trans g3)) rfl⟩)
theorem DE.int1 {k:Bool} (ha:DT X ρ a (.bl k)) (hm:X.mg "int" = ah) (hg:Gl X "int") (hs:ai [a] X.env=[(af,aH a X.env)]):DE X ρ (.Call (.Name "int" p) [a] [] pos) (.int (if k then 1 else 0)):=λσ H Q R q =>(Zf j46 hg hm boot_int (j9 peS ju hs) (by decide) (by decide) hs).to (ha σ H _ R λv H1 g1 e1=>.inr ⟨k,by rw[show v=.bl k from e1],q _ H1 g1 rfl⟩)
theorem DE.sum (lst:Bool) {ns:List Int} (ha:DT X ρ a (D.seq lst (ns.map D.int))) (hm:X.mg "sum" = ah) (hc:X.calm=ag) (hg:Gl X "sum") (hs:ai [a] X.env=[(af,aH a X.env)]):DE X ρ (.Call (.Name "sum" p) [a] [] pos) (.int ns.sum):=λσ H Q R q =>
 (qz (j3z hc) hg hm boot_sum (j9 peS ju hs) (by decide) (by decide) hs).to (ha σ H _ R λv H1 g1 e1=>by
  obtain⟨t,xs,ev,sq,en⟩:=V4 e1
  subst ev
  rw[Zz en]at sq
  exact⟨lst,t,ns,rfl,sq,q _ H1 g1 rfl⟩)
theorem DE.join{sep:ao}{ts:List ao}{n:Nat}{p0:aQ}(ha:DT X ρ a (.lst (ts.map D.str)))(hok:bq sep ts=ag)
  (hfew:((aV p2 (ai [a] X.env)).all (λx=>!x.1)&&(d4 p2 (bS [] X.env)).all (λx=>x.1.isSome)&&decide (([a]:List ar).length+([]:List bW).length+(if ([]:List bW).isEmpty then 0 else 1)<30))=ag)
  (hbase:bu (.Constant (.str sep) n p0) "join" X.env (aH (.Constant (.str sep) n p0) X.env)=aH (.Constant (.str sep) n p0) X.env)
  (hline:(p1.endLine==p2.line)=ag) (hs:ai [a] X.env=(af,aH a X.env)::ai [] X.env):DE X ρ (.Call (.Attribute (.Constant (.str sep) n p0) "join" p1) [a] [] p2) (.str (bF sep ts)):=λσ H Q R q =>
 (Di cY gd PySem.F.type_str_join j9g Uq (j9 peS ju hs) hbase hfew hline hs rfl).to ⟨rfl,ha σ H _ R λv H1 g1 ⟨t,xs,e,sq,en⟩=>⟨sep,t,ts,rfl,by rw[e],by rw[Ny en]at sq;exact sq,hok,q _ H1 g1 rfl⟩⟩
end
section
variable{prog:ay}{w:aE}{A:aF}{lst:Bool}{j t:ak}{its:Array aj}
end
section
variable{X:Cx}{ρ:Rho}{a b:ar}{es:List ar}{n:Nat}{pos p q1 q2:aQ}{ds ds':List D}{lst:Bool}
noncomputable def j1a(ds:List D):List D:=ds.zipIdx.map λp=>D.tup [.int (p.2:Int),p.1]
end
section
variable{X:Cx}
theorem j5j:OpR X (aZ .FloorDiv) (rI (λ_ j=>0<j/\j<18446744073709551616) λi j=>.int (i/j)):=opI λi j _ _ _ _ _ hc q=>by
 have e:i/j=i.fdiv j:=by rw[eZ _ nofun]
 refine floordiv_int nofun (by rw[<-e];exact q) (.inl (PyProof.noPylong_of_log2 ?_))
 have h2:(2:Nat)^64=18446744073709551616:=by decide
 have:=(jG (n:=j.natAbs) (k:=64) nofun).mpr (by rw[h2];omega);omega
end
section
variable{X:Cx}{ρ:Rho}{a b e:ar}{d d':D}{ds:List D}{i j:Int}{pos p p1 p2:aQ}{P:Po}
theorem DE.fdivB(ha:DT X ρ a (.int i))(hb:DT X ρ b (.int j))(h:0<j/\j<18446744073709551616):DE X ρ (.BinOp a .FloorDiv b pos) (.int (i/j)):=DE.arI (g:=λi j=>i/j) j5j ha hb h
end
noncomputable def ddS(acc:List ao)(v:ao):List ao:=if acc.any (· == v)=ag then acc else acc++[v]
noncomputable def dd(ts:List ao):List ao:=ts.foldl ddS []
section
variable{P:ay}{w:aE}{A:aF}{I S:ak}{fp wr:List ak}{Gn:Array dP->Array dP->Prop}{Pv:Nat->aj->Prop}{St:Nat->aq->Prop}{ts:List ao}
end
section
variable{P:ay}{w:aE}{A:aF}{E:k5l}{s:aq}
end
section
variable{X:Cx}{ρ:Rho}{a:ar}{p p1 p2 pos:aQ}
end
section
variable{prog:ay}{w:aE}{A:aF}{E:k5l}{s:aq}{d it vw:ak}{od:cy}{es:Array iS}{ep i:Nat}{ok ov:aj}
end
noncomputable def jdd(ks:List (List Int))(ds:List D):List D:=(ks.zip ds).map λp=>D.tup [.tup (p.1.map D.int),p.2]
section
variable{X:Cx}{ρ:Rho}{a b:ar}{es:List ar}{n:Nat}{pos p p1 p2 q1:aQ}{ks:List (List Int)}{ds:List D}{k:List Int}
theorem any_range:∀bs:List Bool,(aS bs.length).any (λi=>(bs[i]?).getD ag)=bs.any id
 |[]=>rfl
 |b::bs=>by rw[xn,df,cq,List.any_map,cq,<-any_range bs];rfl
theorem Kz (hc:X.calm=ag):vm X (.builtin "any") (λxs H Q=>∃(l:ak)(bs:List Bool),xs=[.ref l]/\SqL X.K H l (bs.map V.bl)/\Q (.bl (bs.any id)) H):=by
 intro pins s σ H xs us Q I r ⟨l,bs,e,sq,q⟩;subst e;obtain⟨u,eu,ru⟩:=vals1 r;subst eu;cases ru;obtain⟨its,rv,pl,_⟩:=I.list sq;have hlt:l<s.heap.objs.size:=by obtain⟨_,_,e,_⟩:=pl;exact xq e
 have hl:its.length=bs.length:=by rw[<-rv.length,xj]
 refine call_any_walk (d8 pl.isList ⟨s.heap.objs.size,[s.heap.objs.size,l],[s.heap.objs.size],its.toArray.size,_,_,λi=>(bs[i]?).getD ag,rfl,Walks.list (A:=X.A.in1) (I.ok.hd hc) _ _ (Xc hlt) its.toArray,⟨⟨_,Xe _ rfl,rfl,rfl⟩,pl.isList.push _⟩,?_,λh' tk kp=>?_⟩)
 .intro i v s' Q' E' hv hq;have hi:i<its.length:=by have:=Array.getElem?_eq_some_iff.mp hv;obtain⟨h,_⟩:=this;simpa using h
  have hb:i<bs.length:=by omega
  obtain⟨w1,hw,rw1⟩:=rv.get (x:=.bl bs[i]) (i:=i) (by rw[Xi,kh hb];rfl);have:its.toArray[i]?=ae w1:=by simpa using hw
  rw[this]at hv;cases hv;cases rw1;simp only[kh hb,cV]at hq;exact bN hq
 .have ev:(aS its.toArray.size).any (λi=>(bs[i]?).getD ag)=bs.any id:=by rw[X3,hl];exact any_range bs
  rw[ev];refine⟨.bl _,H,I.kept (t':=tk) λb o e=>kp b o ?_ (xu _ e),rfl,q⟩;intro z;rw[xm.mp z]at e;exact pq _ (xq e)
theorem DE.any {bs:List Bool} (ha:DT X ρ a (.lst (bs.map D.bl))) (hm:X.mg "any" = ah) (hc:X.calm=ag) (hg:Gl X "any") (hs:ai [a] X.env=[(af,aH a X.env)]):DE X ρ (.Call (.Name "any" p) [a] [] pos) (.bl (bs.any id)):=λσ H Q R q =>(qz (Kz hc) hg hm boot_any (j9 peS ju hs) (by decide) (by decide) hs).to (ha σ H _ R λv H1 g1 ⟨l,xs,e,sq,en⟩=>⟨l,bs,by rw[e],by rw[Rr en]at sq;exact sq,q _ H1 g1 rfl⟩)
end
section
variable{X:Cx}{pos pos':aQ}{o i value:ar}{td ty tv:TE}
end
section
variable{X:Cx}{ρ:Rho}{it e:ar}{P:Po}{ds:List D}{x t y:Nat}{nx nt ny:ao}{n8:Nat}{p1 p2 p3 p4 p5 p6 p7 p8 p9 p10 p11 p12 p13 p14 p15 p16 p17 p18:aQ}
end
noncomputable def j82:List (List Int)->List D->List Int->Option D
 |k'::ks,d::ds,k=>if k'=k then ae d else j82 ks ds k
 |_,_,_=>ah
section
variable{X:Cx}{ρ:Rho}{a b:ar}{d:D}{ds:List D}{ks:List (List Int)}{k:List Int}{pos p p1 p2 p3:aQ}
end
section
variable{prog:ay}{w:aE}{A:aF}{E:k5l}{s:aq}{d it vw:ak}{od:cy}{es:Array iS}{ep i:Nat}
end
section
variable{prog:ay}{w:aE}{A:aF}{E:k5l}{s:aq}{T:String}{r d:ak}{n:Nat}{P:Nat->aj->Prop}{OK:aK->Prop}
end
section
variable{X:Cx}{ρ:Rho}{a:ar}{ds:List D}{ks:List (List Int)}{pos p p1 p2:aQ}
end
section
variable{X:Cx}{ρ:Rho}{it e1 e2:ar}{P:Po}{ds:List D}{x t y:Nat}{nx nt ny:ao}{p1 p2 p3 p4 p5 p6 p10 p11 p12 p14 p16 p17 p18:aQ}
end
section
variable{X:Cx}{ρ:Rho}{a e:ar}{l:List D}{d:D}{p1 pos:aQ}
noncomputable def ixD(d:D):List D->Option Nat
 |[]=>ah
 |x::r=>if deq x d=ag then ae 0 else(ixD d r).map (· + 1)
end
section
variable{X:Cx}{pins:k5m}{σ:St}{H:Hp}{l q S I:ak}{xs:List V}{R:dN->aq->Prop}
end
section
variable{X:Cx}{ρ:Rho}{σ:St}{H:Hp}{q:ak}{f:ao}{l:List D}{xs:List V}{kf:Nat->Int}{a:ar}{d:D}{p p1 pk pos:aQ}
end
section
variable{X:Cx}{pins:k5m}{σ:St}{H:Hp}{l S I:ak}{xs:List V}{R:dN->aq->Prop}
end
noncomputable def jgd(l:List (List Int))(i j:Nat):Bool:=HT.lexLt (l.getD i []) (l.getD j [])
section
variable{X:Cx}{ρ:Rho}{a:ar}{l:List (List Int)}{k:List Int}{p pos:aQ}
end
section
variable{X:Cx}{ρ:Rho}{it e2:ar}{P:Po}{ds:List D}{x t:Nat}{nx nt:ao}{p1 p2 p3 p4 p10 p11 p12 p14 p16 p17 p18:aQ}
end
noncomputable def jij(p q:Int×List Int):Bool:=if p.1=q.1 then HT.lexLt p.2 q.2 else decide (p.1<q.1)
noncomputable def jii(l:List (Int×List Int))(i j:Nat):Bool:=jij (l.getD i (0,[])) (l.getD j (0,[]))
noncomputable def pairD(p:Int×List Int):D:=.tup [.int p.1,.tup (p.2.map D.int)]
section
open PySem.SeqAt
open PySem.AutoSeq1 (wpAny_loadPart')
open PySem.MeetsSeq PySem.MeetsSeq2 PySem.MeetsSeq3
end
section
variable{X:Cx}{ρ:Rho}{a:ar}{l:List (Int×List Int)}{k:Int×List Int}{p pos:aQ}
end
section
variable{X:Cx}{ρ:Rho}{a:ar}{p p1 p2 pos:aQ}
end
noncomputable def jis(kvs:List (ao×Int))(k:ao):Option Int:=(kvs.find? λp=>decide (p.1=k)).map λp=>p.2
noncomputable def jiv(kvs:List (ao×Int))(k:ao):Bool:=kvs.any λp=>decide (p.1=k)
noncomputable def dput(kvs:List (ao×Int))(k:ao)(n:Int):List (ao×Int):=if jiv kvs k=ag then kvs.map λp=>if p.1=k then(p.1,n)else p else kvs++[(k,n)]
section
variable{X:Cx}{ρ:Rho}{a b e k:ar}{rest:List aP}{P:Po}{kvs:List (ao×Int)}{z:ao}{n:Int}{i j:Nat}{nx ny:ao}{pos pos' p p1 p2 p3 p4 p5 p6 p7 p8:aQ}{td ty tv:TE}{o value:ar}
end
section
variable{prog:ay}{w:aE}{A:aF}{E:k5l}{s:aq}
end
section
variable{prog:ay}{w:aE}{A:aF}{E:k5l}{s:aq}{l1 l2:Bool}{z TI TO i1 i2 t1 t2 p:ak}{f:Bool}{op:cy}{k:Nat}{us vs:Array aj}{x y a b:aj}
end
section
variable{X:Cx}{pins:k5m}{σ:St}{z TI TO i1 i2 t1 t2 d:ak}{l1 l2:Bool}{ks:List ao}{ns:List Int}{A:aF}{R:dN->aq->Prop}
end
section
variable{X:Cx}{ρ:Rho}{a b:ar}{ks:List ao}{ns:List Int}{p p2 p3 p4:aQ}
end
section
variable{X:Cx}{ρ:Rho}{a e:ar}{es:List ar}{x:ao}{d:D}{p p1 p2 pos:aQ}{y:ao}{ds:List D}
theorem M3{M:gk}{A:aF}{E:k5l}{s:aq}{env:cG}{value:ar}{pos:aQ}{Q:k5l}
  (h:aC M A (aH value env) (λv s₁=>aC M A (pyReprObj v) (λr s₂=>aC M A (formatField r cH) Q E s₂) E s₁) E s) :
  aC M A (aH (.FormattedValue value 114 ah pos) env) Q E s:=by
 rw[arm_eval_FormattedValue];refine az (b9 h (λv s₁ h₁=>?_) λ_ _ x=>x);refine az (fX ?_);show aC _ _ (do let v' <-dS [v] (pyReprObj v);formatField v' cH) Q E s₁;exact az (jR h₁)
theorem DE.fmtR(ha:DT X ρ e (.str y))(hy:(aI y).length<=aw):DE X ρ (.FormattedValue e 114 ah pos) (.str (aI y)):=λσ H Q R q pins s I=>by
 refine M3 (thn (ha σ H (λv H1=>v=.str y/\j4 H H1) R (λv H1 g e=>⟨e,g⟩) pins s I) λu s1 ⟨v,H1,I1,r,ev,g⟩=>?_);subst ev;obtain⟨t,rfl⟩:=(show ∃t,u=b7 y t from r)
 refine wpAny_pyReprObj_gives (cD s1 y t) F.slot_str_repr F.entry_str_repr (F.args_str_repr_1 _) (gives_str_repr y t) ?_ rfl hy;exact jF (λt' tk=>⟨.str (aI y),H1,I1.un (t':=tk) Un.refl I1.hok,⟨_,rfl⟩,q _ H1 g rfl⟩) hy
theorem W4.grow{σ:St}{H H':Hp}(k:W4 X σ H x)(g:j4 H H'):W4 X σ H' x:=λpins H2 s' e C I g2 hC Fe=>k pins H2 s' e C I (g.trans g2) hC Fe
theorem DXA.head(ha:DX X ρ a x)(hs:ai (a::es) X.env=(af,aH a X.env)::ai es X.env):DXA X ρ (a::es) x:=λσ H Q R k =>(j9 peS paS hs).to (ha σ H _ R k)
theorem DXA.tail(ha:DT X ρ a d)(h:DXA X ρ es x)(hs:ai (a::es) X.env=(af,aH a X.env)::ai es X.env):DXA X ρ (a::es) x:=λσ H Q R k =>(j9 peS paS hs).to (ha σ H _ R λv H1 g _=>h σ H1 _ (R.grow g) (k.grow g))
theorem DX.args {f:ao} (ha:DXA X ρ (e::es) x) (hg:Gl X f) (hdb:(f==k5o)=af) {fa:ak} (hfa:X.mg f=ae (.ref fa)) (hk:W.keepIn X.K (.ref fa)=ag)
  (he:ai (e::es) X.env=(af,aH e X.env)::ai es X.env) (hpl:(aV pos (ai es X.env)).any (·.1)=af):DX X ρ (.Call (.Name f p) (e::es) [] pos) x:=λσ H Q R k pins s I=>by
 refine ba (Jv I hg hfa ?_ hdb);exact W.callWith_K (h₀:=X.base) I.ok.mod.kin hk (thn (ha σ H (λ_ _=>False) R k pos pins s I) λus s1 ⟨vs,H1,I1,r,z⟩=>z.elim) he hpl
end
noncomputable def Yp:List Int->Int
 |[]=>0
 |a::r=>r.foldl max a
theorem j5u:∀(r:List Int)(a:Int),a<=r.foldl max a
 |[],a=>jH a
 |b::r,a=>by rw[cA];have:=j5u r (max a b);omega
theorem Nt:∀(r:List Int)(a:Int),r.foldl max a∈a::r/\∀b∈a::r,b<=r.foldl max a
 |[],a=>⟨xm.mpr rfl,λb hb=>by rw[xm.mp hb];exact jH _⟩
 |c::r,a=>by
  rw[cA];obtain⟨h1,h2⟩:=Nt r (max a c);refine⟨?_,λb hb=>?_⟩
  .rcases km.mp h1 with z|z
   .rw[z];by_cases q:a<=c
    .rw[Int.max_eq_right q];exact kj _ xg
    .rw[Int.max_eq_left nofun];exact xg
   .exact kj _ (kj _ z)
  .have l:=h2 (max a c) xg;rcases km.mp hb with z|z
   .rw[z];omega
   .rcases km.mp z with z|z
    .rw[z];omega
    .exact h2 b (kj _ z)
theorem Li{ns:List Int}(h:ns≠[]):Yp ns∈ns/\∀b∈ns,b<=Yp ns:=by
 cases ns with
 |nil=>exact absurd rfl h
 |cons a r=>exact Nt r a
theorem j9i{ns:List Int}{M:Int}(h1:M∈ns)(h2:∀a∈ns,a<=M):Yp ns=M:=by
 have hn:ns≠[]:=λe=>by rw[e]at h1;exact nomatch h1
 obtain⟨a,b⟩:=Li hn;have:=h2 _ a;have:=b _ h1;omega
noncomputable def Ur(ns:List Int):Int:=-Yp (ns.map λn=>-n)
theorem j5o{ns:List Int}(h:ns≠[]):Ur ns∈ns/\∀b∈ns,Ur ns<=b:=by
 obtain⟨h1,h2⟩:=Li (ns:=ns.map λn=>-n) (by simpa using h);obtain⟨a,ha,e⟩:=Xr.mp h1;unfold Ur;refine⟨?_,λb hb=>?_⟩
 .rw[<-e,Int.neg_neg];exact ha
 .have:=h2 _ (Xr.mpr ⟨b,hb,rfl⟩);omega
theorem j9h{ns:List Int}{M:Int}(h1:M∈ns)(h2:∀a∈ns,M<=a):Ur ns=M:=by
 obtain⟨a,b⟩:=j5o (ns:=ns) λe=>by rw[e]at h1;exact nomatch h1
 have:=h2 _ a;have:=b _ h1;omega
section
variable{X:Cx}{ρ:Rho}{a b e:ar}{es:List ar}{x y:ao}{d:D}{i j:Int}{p p1 p2 p3 p4 pk pos:aQ}{ds:List D}
theorem j7e{pins:k5m}{s:aq}{σ:St}{H:Hp}{l:ak}{ns:List Int}(I:Inv X pins σ H s)(sq:SqL X.K H l (ns.map V.int))(hne:ns≠[]):∃zs,s.heap.IsList l (dM zs)/\0<zs.size/\zs.size=ns.length/\∀i,i<zs.size->fe zs i=ns.getD i 0:=by
 obtain⟨its,rv,pl,_⟩:=I.list sq;have hl:its.length=ns.length:=by rw[<-rv.length,xj]
 have val:∀(i:Nat)(v:aj),its[i]?=ae v->∃t,v=bj (ns.getD i 0) t:=by
  intro i v hv;have hi:i<its.length:=(Xn.mp hv).1;have hi':i<ns.length:=by omega
  obtain⟨w1,hw,rw1⟩:=rv.get (x:=.int (ns.getD i 0)) (i:=i) (by rw[Xi,kh hi',xf,kh hi'];rfl);rw[hw]at hv;cases hv;exact rw1
 have hall:AllInts its.toArray:=by intro v hv;obtain⟨i,hi,e⟩:=List.mem_iff_getElem.mp (show v∈its by simpa using hv);obtain⟨t,e'⟩:=val i v (by rw[kh hi,e]);exact⟨_,t,e'⟩
 obtain⟨zs,hz⟩:=hall.items;have pl':=pl.isList;rw[hz]at pl';have hsz:0<zs.size:=by
  have:its.toArray.size=(dM zs).size:=by rw[hz]
  have h1:0<ns.length:=List.length_pos_iff.mpr hne;simp[dM]at this;omega
 have hns:∀i,i<zs.size->fe zs i=ns.getD i 0:=by
  intro i hi;obtain⟨v1,e1⟩:∃v,(dM zs)[i]?=ae v:=⟨_,Array.getElem?_eq_getElem (by simpa [dM]using hi)⟩
  obtain⟨t,ht⟩:=gU e1;rw[<-hz]at e1;obtain⟨t',ht'⟩:=val i _ (by simpa using e1);rw[ht]at ht';exact(Value.int.inj ht').1
 have len:zs.size=ns.length:=by
  have:its.toArray.size=(dM zs).size:=by rw[hz]
  simp[dM]at this;omega
 exact⟨zs,pl',hsz,len,hns⟩
theorem j42 (hc:X.calm=ag):vm X (.builtin "max") (λxs H Q=>∃(l:ak)(ns:List Int),xs=[.ref l]/\SqL X.K H l (ns.map V.int)/\ns≠[]/\Q (.int (Yp ns)) H):=by
 rintro pins s σ H xs us Q I r ⟨l,ns,e,sq,hne,q⟩;subst e;obtain⟨u,eu,ru⟩:=vals1 r;subst eu;cases ru;obtain⟨zs,pl',hsz,len,hns⟩:=j7e I sq hne;refine max_intList (I.ok.hd hc) pl' hsz λv h' tk hv hk=>?_;obtain⟨t,rfl⟩:=gU hv;obtain⟨h1,h2⟩:=argBest_gt (fe zs) (zs.size-1);have hM:Yp ns=fe zs (iz (λi j=>decide (fe zs i>fe zs j)) (zs.size-1)):=by
  refine j9i ?_ λc hc=>?_
  .rw[hns _ nofun];rw[xf,kh nofun];exact Pj _
  .obtain⟨k,hk,rfl⟩:=List.mem_iff_getElem.mp hc;have:=h2 k nofun
   rw[hns k nofun,xf,kh hk]at this;exact this
 rw[hM]at q;exact⟨.int _,H,I.kept hk,⟨t,rfl⟩,q⟩
theorem j40 (hc:X.calm=ag):vm X (.builtin "min") (λxs H Q=>∃(l:ak)(ns:List Int),xs=[.ref l]/\SqL X.K H l (ns.map V.int)/\ns≠[]/\Q (.int (Ur ns)) H):=by
 rintro pins s σ H xs us Q I r ⟨l,ns,e,sq,hne,q⟩;subst e;obtain⟨u,eu,ru⟩:=vals1 r;subst eu;cases ru;obtain⟨zs,pl',hsz,len,hns⟩:=j7e I sq hne;refine min_intList (I.ok.hd hc) pl' hsz λv h' tk hv hk=>?_;obtain⟨t,rfl⟩:=gU hv;obtain⟨h1,h2⟩:=argBest_lt (fe zs) (zs.size-1);have hM:Ur ns=fe zs (iz (λi j=>decide (fe zs i<fe zs j)) (zs.size-1)):=by
  refine j9h ?_ λc hc=>?_
  .rw[hns _ nofun];rw[xf,kh nofun];exact Pj _
  .obtain⟨k,hk,rfl⟩:=List.mem_iff_getElem.mp hc;have:=h2 k nofun
   rw[hns k nofun,xf,kh hk]at this;exact this
 rw[hM]at q;exact⟨.int _,H,I.kept hk,⟨t,rfl⟩,q⟩
theorem DE.max2 (ha:DT X ρ a (.int i)) (hb:DT X ρ b (.int j)) (hm:X.mg "max" = ah) (hc:X.calm=ag) (hg:Gl X "max") (hs:ai [a,b] X.env=(af,aH a X.env)::ai [b] X.env) (hs2:ai [b] X.env=(af,aH b X.env)::ai [] X.env)
  (hpl:(aV pos (ai [b] X.env)).any (·.1)=af):DE X ρ (.Call (.Name "max" p) [a,b] [] pos) (.int (if j>i then j else i)):=λσ H Q R q =>
 (qz (j43 hc) hg hm boot_max (j9 peS (j9 peS ju hs2) hs) (by decide) (by decide) hs hpl).to (ha σ H _ R λv H1 g1 e1=>hb σ H1 _ (R.grow g1) λu H2 g2 e2=>⟨i,j,by rw[show v=.int i from e1,show u=.int j from e2],q _ H2 (g1.trans g2) rfl⟩)
theorem DE.maxL {ns:List Int} (ha:DT X ρ a (.lst (ns.map D.int))) (hn:ns≠[]) (hm:X.mg "max" = ah) (hc:X.calm=ag) (hg:Gl X "max") (hs:ai [a] X.env=[(af,aH a X.env)]):DE X ρ (.Call (.Name "max" p) [a] [] pos) (.int (Yp ns)):=λσ H Q R q =>(qz (j42 hc) hg hm boot_max (j9 peS ju hs) (by decide) (by decide) hs).to (ha σ H _ R λv H1 g1 ⟨l,xs,e,sq,en⟩=>⟨l,ns,by rw[e],by rw[Zz en]at sq;exact sq,hn,q _ H1 g1 rfl⟩)
theorem DE.minL {ns:List Int} (ha:DT X ρ a (.lst (ns.map D.int))) (hn:ns≠[]) (hm:X.mg "min" = ah) (hc:X.calm=ag) (hg:Gl X "min") (hs:ai [a] X.env=[(af,aH a X.env)]):DE X ρ (.Call (.Name "min" p) [a] [] pos) (.int (Ur ns)):=λσ H Q R q =>(qz (j40 hc) hg hm boot_min (j9 peS ju hs) (by decide) (by decide) hs).to (ha σ H _ R λv H1 g1 ⟨l,xs,e,sq,en⟩=>⟨l,ns,by rw[e],by rw[Zz en]at sq;exact sq,hn,q _ H1 g1 rfl⟩)
end
section
variable{X:Cx}{ρ:Rho}{p1 p2 p3 p4 p5 p6 q1 pos:aQ}
end
section
variable{X:Cx}{ρ:Rho}{p1 p2 p3 p4 p5 p6 q1 pos:aQ}
end
noncomputable def ch1(c:Nat):ao:=⟨#[c]⟩
noncomputable def chs(y:ao):List D:=y.cps.toList.map λc=>D.str (ch1 c)
noncomputable def ascii(y:ao):Bool:=y.cps.all (· < 128)
noncomputable def Its(y:ao):It:=⟨λi _=>i<y.cps.size,λi H x H'=>H'=H/\∃c,y.cps[i]?=ae c/\x=.str (ch1 c),λi _=>y.cps.size<=i⟩
theorem j4h {P:ay} {w:aE} {K:k5k} {tg:ar} (it:ak) (y:ao) (t:ib):Turn P w K tg (Its y) [it] it (λi h=>h.IsStrIter it "str_ascii_iterator" y t i) where
 mem:=by simp
 obj:=λi h st b hb=>by
  have e:b=it:=by simpa using hb
  subst e;obtain⟨o,e,c,d⟩:=st;exact⟨o,e,λv z=>by rw[d]at z;cases z⟩
 keep:=λi h h' st k=>let ⟨o,e,r⟩:=st;⟨o,k it (by simp) o e,r⟩
 item:=by intro X hP hw hK hc i pins s σ H E I hf st hg;subst hP hw hK;obtain⟨f0,f1,f2,f3,f4,f5⟩:=hf it (by simp);have W:=Walks.strAscii (prog:=X.prog) (w:=X.w) (I.ok.hd hc) it y t;refine W.item i s _ _ hg st λv h' tk hv st' kk=>?_;obtain⟨c,u,hcu,rfl⟩:=hv;have I1:Inv X pins σ H { s with heap:=h',toks:=tk }:=I.turned (λb o hb e=>kk b o (by simpa using hb) e) f0 f1 f3 f4 f5;obtain⟨o,e,oc,d⟩:=id st';exact⟨_,rfl,Dk (s:={ s with heap:=h',toks:=tk }) e oc d (by decide) ⟨.str (ch1 c),H,I1,⟨u,rfl⟩,⟨rfl,c,hcu,rfl⟩,st',λb hb=>(hf b hb).1⟩⟩
 done:=by intro X hP hw hK hc i pins s σ H E I hf st hg;subst hP hw hK;obtain⟨f0,f1,f2,f3,f4,f5⟩:=hf it (by simp);exact wpAny_pyNext_ascii_end (I.ok.hd hc) st (by have:y.cps.size<=i:=hg;simp;omega) λh' eb=>⟨rfl,I.turned (t':=s.toks) (λb o hb e=>eb b o hb e) f0 f1 f3 f4 f5⟩
 self:=λ_ _ _ _ _ st h=>wpAny_pyIter_striter_ascii st h
section
variable{X:Cx}{ρ:Rho}{a b c e tg it:ar}{y z:ao}{i j k:Int}{p p2 pos:aQ}
theorem j60{K:k5k}{F:Hp}(y:ao):W5 K F (Its y) (chs y):=λi H A g hA=>by
 have hl:(chs y).length=y.cps.size:=by unfold chs;rw[xj,cC]
 rw[hl];refine⟨λh=>h,λh=>h,λx H' ⟨e,c,hc,ex⟩=>?_⟩;subst e ex;refine⟨j4.refl _,λd hd=>?_⟩;unfold chs at hd;rw[Xi,Array.getElem?_toList,hc]at hd;cases hd;rfl
theorem DI.str(h:DT X ρ it (.str y))(ha:ascii y=ag):DI X ρ tg it (chs y):=λσ H R r q pins s I=>by
 refine thn (h σ H (λv H1=>v=.str y/\j4 H H1) r (λv H1 g e=>⟨e,g⟩) pins s I) λv s1 ⟨x,H1,I1,r1,ex,g1⟩=>?_;subst ex;obtain⟨t,rfl⟩:=(show ∃t,v=b7 y t from r1)
 refine wpAny_pyIter_ascii ha ?_;refine⟨s1.heap.objs.size,[s1.heap.objs.size],_,_,H1,rfl,I1.kept (t':=s1.toks) λb o e=>xu _ e,j4h _ y t,⟨_,Xe _ rfl,rfl,rfl⟩,λb hb=>?_,q _ H1 g1 (j60 y)⟩;have e:b=s1.heap.objs.size:=by simpa using hb
 subst e;exact I1.fpOk (X4 _) (I1.hok.fresh (X4 _))
noncomputable def inS(y z:ao):Bool:=!(bo z y 0 z.length 1).isEmpty
theorem N8:OpR X (b0 .Gt) (λx y H Q=>∃i j,x=.str i/\y=.str j/\Q (.bl (decide (j.cps.toList<i.cps.toList))) H):=by intro pins s σ H x y v u Q I rx ry h;obtain⟨i,j,rfl,rfl,q⟩:=h;obtain⟨t,rfl⟩:=rx;obtain⟨t',rfl⟩:=ry;exact P.gt_str (jx I q rfl)
theorem DE.ltS(ha:DT X ρ a (.str y))(hb:DT X ρ b (.str z)):DE X ρ (.Compare a [.Lt] [b] pos) (.bl (decide (y.cps.toList<z.cps.toList))):=λσ H Q R q =>(J7 N6 peS peS (za _)).to (ha σ H _ R λv H1 g1 e1=>hb σ H1 _ (R.grow g1) λu H2 g2 e2=>⟨y,z,e1,e2,q _ H2 (g1.trans g2) rfl⟩)
theorem DB.ltS(ha:DT X ρ a (.str y))(hb:DT X ρ b (.str z)):DB X ρ (.Compare a [.Lt] [b] pos) (decide (y.cps.toList<z.cps.toList)):=λσ H Q R q =>(J5 N6 peS peS (za _)).to (ha σ H _ R λv H1 g1 e1=>hb σ H1 _ (R.grow g1) λu H2 g2 e2=>⟨y,z,e1,e2,_,rfl,q H2 (g1.trans g2)⟩)
theorem DE.gtS(ha:DT X ρ a (.str y))(hb:DT X ρ b (.str z)):DE X ρ (.Compare a [.Gt] [b] pos) (.bl (decide (z.cps.toList<y.cps.toList))):=λσ H Q R q =>(J7 N8 peS peS (za _)).to (ha σ H _ R λv H1 g1 e1=>hb σ H1 _ (R.grow g1) λu H2 g2 e2=>⟨y,z,e1,e2,q _ H2 (g1.trans g2) rfl⟩)
theorem DB.gtS(ha:DT X ρ a (.str y))(hb:DT X ρ b (.str z)):DB X ρ (.Compare a [.Gt] [b] pos) (decide (z.cps.toList<y.cps.toList)):=λσ H Q R q =>(J5 N8 peS peS (za _)).to (ha σ H _ R λv H1 g1 e1=>hb σ H1 _ (R.grow g1) λu H2 g2 e2=>⟨y,z,e1,e2,_,rfl,q H2 (g1.trans g2)⟩)
theorem DE.inS(ha:DT X ρ a (.str y))(hb:DT X ρ b (.str z))(hm:aN .In b=af):DE X ρ (.Compare a [.In] [b] pos) (.bl (inS y z)):=λσ H Q R q =>(J7 N7 peS peS hm).to (ha σ H _ R λv H1 g1 e1=>hb σ H1 _ (R.grow g1) λu H2 g2 e2=>⟨y,z,e1,e2,q _ H2 (g1.trans g2) rfl⟩)
theorem DB.inS(ha:DT X ρ a (.str y))(hb:DT X ρ b (.str z))(hm:aN .In b=af):DB X ρ (.Compare a [.In] [b] pos) (inS y z):=λσ H Q R q =>(J5 N7 peS peS hm).to (ha σ H _ R λv H1 g1 e1=>hb σ H1 _ (R.grow g1) λu H2 g2 e2=>⟨y,z,e1,e2,_,rfl,q H2 (g1.trans g2)⟩)
theorem mulOk_of(h1:1<=k/\k<=1000)(h2:y.length<=1000):MulOk y k:=by
 refine⟨?_,λ_ _=>?_,λ_ _=>?_⟩
 .simp;omega
 .have:(1000:Int)<=(2^63-1)/k:=Int.le_ediv_of_mul_le nofun nofun
  omega
 .have hk:k.toNat<=1000:=by omega
  have:y.length*k.toNat<=1000000:=Nat.mul_le_mul h2 hk;unfold aX;rw[bK];simp;omega
theorem j0o:OpR X (aZ .Mult) (λx y H Q=>∃i k,x=.str i/\y=.int k/\MulOk i k/\Q (.str (gw i k)) H):=by intro pins s σ H x y v u Q I rx ry h;obtain⟨i,k,rfl,rfl,hm,q⟩:=h;obtain⟨t,rfl⟩:=rx;obtain⟨t',rfl⟩:=ry;exact SB.mul hm λt' tk=>⟨.str _,H,I.un (t':=tk) Un.refl I.hok,⟨_,rfl⟩,q⟩
theorem DE.mulS(ha:DT X ρ a (.str y))(hb:DT X ρ b (.int k))(h1:1<=k/\k<=1000)(h2:y.length<=1000):DE X ρ (.BinOp a .Mult b pos) (.str (gw y k)):=λσ H Q R q =>(Zv j0o peS peS).to (ha σ H _ R λv H1 g1 e1=>hb σ H1 _ (R.grow g1) λu H2 g2 e2=>⟨y,k,e1,e2,mulOk_of h1 h2,q _ H2 (g1.trans g2) rfl⟩)
end
section
variable{X:Cx}{pins:k5m}{σ:St}{H:Hp}{l S I:ak}{xs:List V}{R:dN->aq->Prop}{dv:aj}
end
section
variable{X:Cx}{ρ:Rho}{a b c:ar}{ns:List Int}{i j k:Int}{n:Nat}{p p1 pk pos:aQ}
end
section
variable{X:Cx}{ρ ρ1 ρ':Rho}{e c:ar}{ss sa sb:List aP}{is is2:List Nat}{d:D}{i:Nat}{x:ao}{p pos:aQ}
def DMs(X:Cx)(ρ ρ':Rho)(is:List Nat)(ss:List aP):Prop:=∀(σ:St)(H:Hp)(E:Ends),Rep X.K ρ σ H->(∀σ' H',j4 H H'->Rep X.K ρ' σ' H'->(∀j,j∉is->σ'[j]?=σ[j]?)->E.nx σ' H')->Z4 X ss E σ H
def DMt(X:Cx)(ρ ρ':Rho)(is:List Nat)(full tl:List aP):Prop:=∀(σ:St)(H:Hp)(E:Ends),Rep X.K ρ σ H->(∀σ' H',j4 H H'->Rep X.K ρ' σ' H'->(∀j,j∉is->σ'[j]?=σ[j]?)->Z4 X tl E σ' H')->Z4 X full E σ H
variable{tl:List aP}
end
def Kp(ρ ρ':Rho)(is:List Nat):Prop:=(∀b∈owns ρ',b∈owns ρ)/\∀j,j∉is->ρ'[j]?=ρ[j]?
section
variable{X:Cx}{ρ ρ1 ρ':Rho}{is js:List Nat}{i:Nat}{d:D}
end
noncomputable def jio:HO->Bool
 |.ins _ _ _=>ag
 |_=>af
def Jm(H H':Hp):Prop:=∀b o,H b=ae o->jio o=af->H' b=ae o
theorem Jm.del{H H':Hp}{A:List ak}(g:Jm H H'):Jm (del H A) (del H' A):=λb o h n=>by obtain⟨nb,e⟩:=of_del h;rw[j5 nb];exact g b o e n
theorem Jm.seq{K:k5k}{H H':Hp}{a:ak}{xs:List V}(g:Jm H H')(h:SqL K H a xs):SqL K H' a xs:=by
 rcases h with (h|⟨o,h⟩)|h
 .exact .inl (.inl (g _ _ h rfl))
 .exact .inl (.inr ⟨o,g _ _ h rfl⟩)
 .exact .inr h
theorem Jm.seqT{K:k5k}{H H':Hp}{a:ak}{xs:List V}(g:Jm H H')(h:SqT K H a xs):SqT K H' a xs:=by
 rcases h with (h|⟨o,h⟩)|h
 .exact .inl (.inl (g _ _ h rfl))
 .exact .inl (.inr ⟨o,g _ _ h rfl⟩)
 .exact .inr h
theorem zr.monoN{H H':Hp}(g:Jm H H'):∀{cs:List ak}{vs:List V},zr H cs vs->zr H' cs vs
 |[],_,h=>h
 |_::_,_,⟨v,r,o,u,e,h,d,rv,l⟩=>⟨v,r,o,u,e,g _ _ h rfl,d,rv,l.monoN g⟩
theorem LamAt.monoN{K:k5k}{H H':Hp}{x:ao}{a c:ak}{tx:Tx}{cl:List (ao×ak)}{vs:List V}(g:Jm H H')(h:LamAt K H x a c tx cl vs):LamAt K H' x a c tx cl vs :=
 ⟨h.tx,let ⟨pm,ctv,e⟩:=h.fo;⟨pm,ctv,g _ _ e rfl⟩,let ⟨oc,e,q⟩:=h.co;⟨oc,g _ _ e rfl,q⟩,h.nm,h.nd,h.cs.monoN g⟩
mutual
theorem Enc.monoN{K:k5k}{H H':Hp}(g:Jm H H'):∀{d:D}{v:V},Enc K H d v->Enc K H' d v
 |.non,_,h=>h
 |.bl _,_,h=>h
 |.int _,_,h=>h
 |.str _,_,h=>h
 |.tup _,_,⟨a,xs,e,q,l⟩=>⟨a,xs,e,g.seqT q,j6.monoN g l⟩
 |.lst _,_,⟨a,xs,e,q,l⟩=>⟨a,xs,e,g.seq q,j6.monoN g l⟩
 |.dct _ _,_,⟨a,xs,ep,vs,e,q,ek,kt,rv,l⟩=>⟨a,xs,ep,vs,e,g _ _ q rfl,ek,λx hx=>g.seqT (kt x hx),rv,j6.monoN g l⟩
 |.sct _,_,⟨a,e,q⟩=>⟨a,e,g _ _ q rfl⟩
 |.fn _ _,_,⟨a,c,tx,cl,vs,e,q,l⟩=>⟨a,c,tx,cl,vs,e,q.monoN g,j6.monoN g.del l⟩
theorem j6.monoN{K:k5k}{H H':Hp}(g:Jm H H'):∀{ds:List D}{xs:List V},j6 K H ds xs->j6 K H' ds xs
 |[],_,h=>h
 |_::_,_,⟨x,r,e,h,l⟩=>⟨x,r,e,Enc.monoN g h,j6.monoN g l⟩
end
theorem Rep.monoN{K:k5k}{ρ:Rho}{σ:St}{H H':Hp}(R:Rep K ρ σ H)(g:Jm H H'):Rep K ρ σ H' :=
 ⟨R.len,λi d e=>let ⟨v,q,h⟩:=R.val i d e;⟨v,q,h.monoN g.del⟩,λi a ds e=>let ⟨q,xs,h,l⟩:=R.own i a ds e;⟨q,xs,g _ _ h rfl,l.monoN g.del⟩,R.nd,λi a o x e=>let ⟨q,h⟩:=R.raw i a o x e;⟨q,h.elim .inl λh=>.inr ⟨g.del _ _ h.1 rfl,h.2⟩⟩,λx hx c P e=>g _ _ (R.tb x hx c P e) rfl⟩
noncomputable def pcF(b:ak)(k:Int):List (ao×V):=[("standing",.ref b),("spot",.int k)]
structure Ob where
 a:ak
 dx:ak
 b:ak
structure PcAt(C:ak)(H:Hp)(o:Ob)(ls:List ao)(k:Nat):Prop where
 ob:H o.a=ae (.ins C o.dx (pcF o.b (k:Int)))
 li:H o.b=ae (.lst (ls.map V.str))
def But(a:ak)(H H':Hp):Prop:=∀b o,b≠a->H b=ae o->H' b=ae o
theorem Cy (b:ak) (k:Int):(pcF b k).lookup ("standing":ao)=ae (.ref b):=by unfold pcF;rfl
theorem Mq (b:ak) (k:Int):(pcF b k).lookup ("spot":ao)=ae (.int k):=by
 unfold pcF;rw[Xb];have:(("spot":ao)==("standing":ao))=af:=by decide +kernel
 rw[this];rfl
theorem Cz (b:ak) (k:Int) {m:ao} (h1:(m==("standing":ao))=af) (h2:(m==("spot":ao))=af):(pcF b k).lookup m=ah:=by unfold pcF;rw[Xb,h1,Xb,h2];rfl
theorem j97 (b:ak) (k j:Int):J3 "spot" (.int j) (pcF b k)=pcF b j:=by
 have z:¬(("standing":ao) = "spot"):=by decide +kernel
 show(if ("standing":ao) = "spot" then _ else(("standing":ao),V.ref b)::(if ("spot":ao) = "spot" then[(("spot":ao),V.int j)]else _))=pcF b j;rw[if_neg z,if_pos rfl];rfl
theorem j5h (b:ak):J3 "spot" (.int 0) (J3 "standing" (.ref b) [])=pcF b 0:=by
 have z:¬(("standing":ao) = "spot"):=by decide +kernel
 show(if ("standing":ao) = "spot" then _ else(("standing":ao),V.ref b)::J3 "spot" (.int 0) [])=pcF b 0;rw[if_neg z];rfl
theorem PcAt.stay{C:ak}{H H':Hp}{o:Ob}{ls:List ao}{k:Nat}(h:PcAt C H o ls k)(g:j4 H H'):PcAt C H' o ls k:=⟨g _ _ h.ob,g _ _ h.li⟩
structure PcT(K:k5k)(mg:k5n)(C fA fT fL fI:ak):Prop where
 cl:Cls K C
 nS:Qt K C "standing"
 nP:Qt K C "spot"
 mA:Meth K C "ahead" fA
 mT:Meth K C "taken" fT
 mL:Meth K C "all_taken" fL
 mkI:Mk K C fI
 mgC:mg "Pieces" = ae (.ref C)
 len:mg "len" = ah
def W8(C:ak):Sp:=λvs H Q _=>∃(o:Ob)(ls:List ao)(k:Nat),vs=[.ref o.a]/\PcAt C H o ls k/\Q (.str (ls.getD k "")) H
def Oq(C:ak):Sp:=λvs H Q _=>∃(o:Ob)(ls:List ao)(k:Nat),vs=[.ref o.a]/\PcAt C H o ls k/\∀H',PcAt C H' o ls (k+1)->But o.a H H'->Q (.str (ls.getD k "")) H'
def j0a(C:ak):Sp:=λvs H Q _=>∃(o:Ob)(ls:List ao)(k:Nat),vs=[.ref o.a]/\PcAt C H o ls k/\Q (.bl (decide (ls.length<=k))) H
section
variable{P:ay}{w:aE}{K:k5k}{mg:k5n}{base:aK}{C fA fT fL fI f:ak}{fd fdA:aL}{st:aP}
noncomputable def j4b(n:Nat)(p1 p2 p3 p4 p5 p6 p7 p8 p9 p10 p11 p12 p13 p14 p15 p16:aQ):List aP :=
 [.If (.Compare (.Attribute (.Name "self" p1) "spot" p2) [.Lt] [.Call (.Name "len" p3) [.Attribute (.Name "self" p4) "standing" p5] [] p6] p7) [.Return (ae (.Subscript (.Attribute (.Name "self" p8) "standing" p9) (.Attribute (.Name "self" p10) "spot" p11) p12)) p13] [] p14,
 .Return (ae (.Constant (.str "") n p15)) p16]
theorem ja9 {ls:List ao} {k:Nat} (h:k<ls.length):(ls.map V.str)[k]?=ae (.str (ls.getD k "")):=by rw[Xi,kh h,xf,kh h];rfl
theorem j5m {n:Nat} {p1 p2 p3 p4 p5 p6 p7 p8 p9 p10 p11 p12 p13 p14 p15 p16:aQ} (F:Fun K "ahead" "Pieces.ahead" st f fd) (T:PcT K mg C fA fT fL fI) (S:FnScope ["self"] ["self"] (j0 st)) (hb:jb st=j4b n p1 p2 p3 p4 p5 p6 p7 p8 p9 p10 p11 p12 p13 p14 p15 p16)
  (hv:Vis (j0 st) "self") (hg:(j0 st).names.lookup ("len":ao)=ae .globalImplicit):FnOk P w K mg base CX0 1 f fd ["self"] (W8 C):=by
 refine F.ok S (λvs H Q E h=>?_) (λcdv A outer s H vs Q E hr h=>?_)
 .obtain⟨a,ls,k,rfl,_⟩:=h;rfl
 .obtain⟨⟨a,dx,b⟩,ls,k,rfl,⟨h1,h2⟩,q⟩:=h;rw[hb];refine⟨_,vf (Dg (J5 j0p (Va (qt (i:=0) rfl hv) rfl) (qz Qq hg T.len cF (j9 (Va (qt (i:=0) rfl hv) rfl) ju)) (za _)) (Y5 (Ze (Mm Eg (Va (qt (i:=0) rfl hv) rfl) (Va (qt (i:=0) rfl hv) rfl) (λ_ _=>rfl)))) Y6) (Y5 (Ze Uq)),?_⟩;refine⟨_,rfl,a,C,dx,_,_,rfl,h1,T.cl,T.nP,Mq _ _,_,rfl,a,C,dx,_,_,rfl,h1,T.cl,T.nS,Cy _ _,b,_,rfl,.inl (SqL.of h2),_,_,rfl,rfl,_,rfl,?_⟩;rw[xj];refine jin (λhc=>?_) (λhc=>?_)
  .have hlt:k<ls.length:=by have:=of_decide_eq_true hc;omega
   exact⟨_,rfl,a,C,dx,_,_,rfl,h1,T.cl,T.nS,Cy _ _,_,rfl,a,C,dx,_,_,rfl,h1,T.cl,T.nP,Mq _ _,b,_,(k:Int),_,rfl,rfl,SqL.of h2,Wn (ja9 hlt),q⟩
  .have hlt:¬k<ls.length:=λz=>hc (decide_eq_true nofun);have e:ls.getD k "" = "":=by rw[xf,T7 nofun];rfl
   rw[e]at q;exact q
def Ua(X:Cx)(o:ar)(m:ao)(apos pos:aQ):Prop:=∃pl:iB Bool,aH (.Call (.Attribute o m apos) [] [] pos) X.env=(do
   let ov <-aH o X.env
   eN apos.atName
   let (f,first) <-dS [ov] (gh ov m pl)
   callWith pos f first (aV pos (ai [] X.env)) (d4 pos (bS [] X.env)))
noncomputable def j1y(n:Nat)(p1 p2 p3 p4 p5 p6 p7 p8 p9 p10 p11 p12 p13 p14:aQ):List aP :=
 [.Assign [.Name "piece" p1] (.Call (.Attribute (.Name "self" p2) "ahead" p3) [] [] p4) p5,
 .Assign [.Attribute (.Name "self" p6) "spot" p7] (.BinOp (.Attribute (.Name "self" p8) "spot" p9) .Add (.Constant (.int 1) n p10) p11) p12,
 .Return (ae (.Name "piece" p13)) p14]
theorem j5l {n:Nat} {p1 p2 p3 p4 p5 p6 p7 p8 p9 p10 p11 p12 p13 p14:aQ} (F:Fun K "taken" "Pieces.taken" st f fd) (T:PcT K mg C fA fT fL fI) (S:FnScope ["self","piece"] ["self"] (j0 st)) (hb:jb st=j1y n p1 p2 p3 p4 p5 p6 p7 p8 p9 p10 p11 p12 p13 p14)
  (hv:Vis (j0 st) "self") (hl:(j0 st).names.lookup ("piece":ao)=ae .local) (hm:∀cdv A outer s H E,Ua (ql CX0 P w K mg base ["self","piece"] "Pieces.taken" (j0 st) f cdv A outer s H E).nox (.Name "self" p2) "ahead" p3 p4)
  (GA:FnOk P w K mg base CX0 1 fA fdA ["self"] (W8 C)) (bA:Binds K fdA ["self"] []):FnOk P w K mg base CX0 2 f fd ["self"] (Oq C):=by
 refine F.ok S (λvs H Q E h=>?_) (λcdv A outer s H vs Q E hr h=>?_)
 .obtain⟨a,ls,k,rfl,_⟩:=h;rfl
 .obtain⟨⟨a,dx,b⟩,ls,k,rfl,⟨h1,h2⟩,q⟩:=h;rw[hb];obtain⟨pl,ht⟩:=hm cdv A outer s H E;refine⟨_,vf (Zd (i:=1) S.nd rfl (b8 hl) (Rj (qt (i:=0) rfl hv) T.cl T.mA GA hr bA .nil Zw ht)) (vf (Cv (qt (i:=0) rfl hv) (Zv j2p (Va (qt (i:=0) rfl hv) rfl) Cw) rfl) (Y5 (Ze (qt (i:=1) rfl (b8 hl))))),?_⟩;have h1:H a=ae (.ins C dx (pcF b (k:Int))):=h1;have h2:H b=ae (.lst (ls.map V.str)):=h2;refine⟨_,rfl,a,dx,_,rfl,h1,Cz _ _ (by decide +kernel) (by decide +kernel),⟨a,dx,b⟩,ls,k,rfl,⟨h1,h2⟩,?_⟩;refine⟨_,rfl,a,C,dx,_,_,rfl,h1,T.cl,T.nP,Mq _ _,_,_,rfl,rfl,_,rfl,a,C,dx,_,rfl,h1,T.cl,T.nP,(by show 2<1000;decide),_,rfl,?_⟩;have nb:b≠a:=λz=>by rw[z,h1]at h2;cases h2
  refine q _ ⟨?_,by show upd H a _ b=_;rw[jc nb];exact h2⟩ (λc o n hc=>by rw[jc n];exact hc);show upd H a _ a=_;rw[jm,j97];rfl
noncomputable def allB(p1 p2 p3 p4 p5 p6 p7 p8:aQ):List aP:=[.Return (ae (.Compare (.Attribute (.Name "self" p1) "spot" p2) [.GtE] [.Call (.Name "len" p3) [.Attribute (.Name "self" p4) "standing" p5] [] p6] p7)) p8]
theorem jch {p1 p2 p3 p4 p5 p6 p7 p8:aQ} (F:Fun K "all_taken" "Pieces.all_taken" st f fd) (T:PcT K mg C fA fT fL fI) (S:FnScope ["self"] ["self"] (j0 st)) (hb:jb st=allB p1 p2 p3 p4 p5 p6 p7 p8)
  (hv:Vis (j0 st) "self") (hg:(j0 st).names.lookup ("len":ao)=ae .globalImplicit):FnOk P w K mg base CX0 1 f fd ["self"] (j0a C):=by
 refine F.ok S (λvs H Q E h=>?_) (λcdv A outer s H vs Q E hr h=>?_)
 .obtain⟨a,ls,k,rfl,_⟩:=h;rfl
 .obtain⟨⟨a,dx,b⟩,ls,k,rfl,⟨h1,h2⟩,q⟩:=h;rw[hb];refine⟨_,Y5 (Ze (J7 j0q (Va (qt (i:=0) rfl hv) rfl) (qz Qq hg T.len cF (j9 (Va (qt (i:=0) rfl hv) rfl) ju)) (Rq _ (by decide) (by decide)))),?_⟩;refine⟨_,rfl,a,C,dx,_,_,rfl,h1,T.cl,T.nP,Mq _ _,_,rfl,a,C,dx,_,_,rfl,h1,T.cl,T.nS,Cy _ _,b,_,rfl,.inl (SqL.of h2),_,_,rfl,rfl,?_⟩;rw[xj];have e:decide (((ls.length:Nat):Int)<=((k:Nat):Int))=decide (ls.length<=k):=by
   by_cases z:ls.length<=k
   .rw[decide_eq_true z,decide_eq_true nofun]
   .rw[decide_eq_false z,decide_eq_false nofun]
  rw[<-e]at q;exact q
end
theorem Bw:∀(tk:Nat)(xs:List ao),Vals (xs.map V.str) (strsFrom tk xs)
 |_,[]=>.nil
 |tk,x::r=>.cons ⟨tk,rfl⟩ (Bw (tk+1) r)
section
variable{X:Cx}{ρ:Rho}{a:ar}{p1 p2 p3:aQ}{y:ao}
theorem Lg:MtR X "str.split" (λx vs H Q=>∃z,x=.str z/\vs=[.str " "]/\z.length<=100000/\(aA z " ").length<=aw/\∀p,H p=ah->Q (.ref p) (upd H p (.lst ((aA z " ").map V.str)))):=by
 rintro pins s σ H x vs v us Q I rx rv ⟨z,e,e',hz,hl,q⟩;subst e e';obtain⟨t,rfl⟩:=(show ∃t,v=b7 z t from rx)
 obtain⟨u,eu,ru⟩:=rv.one;subst eu;obtain⟨t2,rfl⟩:=(show ∃t,u=b7 " " t from ru)
 have lay:∀(its:List aj)(tk:Nat),Vals ((aA z " ").map V.str) its->Inv X pins σ (upd H s.heap.objs.size (.lst ((aA z " ").map V.str))) { s with heap:=s.heap.push { cls:=.type "list",data:=.seq its.toArray },toks:=tk }:=λits tk hv =>I.laid (t':=tk) (λb o e=>xu _ e) (X4 _) ⟨by rw[xj];exact hl,its,0,hv,Xe _ rfl⟩
 have fr:H s.heap.objs.size=ah:=I.hok.fresh (X4 _);have hsz:z.length<=aw:=by rw[bK];omega
 have hy:((" ":ao).length==0)=af:=by decide
 by_cases h1:(decide (z.length<(" ":ao).length) || decide (cb z<cb (" ":ao)))=ag
 .have es:aA z " " = [z]:=if_pos h1;refine bU bV (cD _ _ _) eE (dZ _ _) (meets_str_split_cannot_occur z " " t t2 h1) ?_;exact⟨.ref s.heap.objs.size,_,lay _ _ (by rw[es];exact .cons ⟨t,rfl⟩ .nil),rfl,q _ fr⟩
 .have h1:(decide (z.length<(" ":ao).length) || decide (cb z<cb (" ":ao)))=af:=by simpa using h1
  by_cases h2:(bo z " " 0 z.length (z.length+1)).isEmpty=ag
  .have es:aA z " " = [z]:=by unfold aA;rw[if_neg (by rw[h1];decide),if_pos h2]
   refine bU bV (cD _ _ _) eE (dZ _ _) (meets_str_split_not_found z " " t t2 h1 hy h2) ?_;exact⟨.ref s.heap.objs.size,_,lay _ _ (by rw[es];exact .cons ⟨t,rfl⟩ .nil),rfl,q _ fr⟩
  .have h2:(bo z " " 0 z.length (z.length+1)).isEmpty=af:=by simpa using h2
   have es:aA z " " = jK z (bo z " " 0 z.length (z.length+1)) (" ":ao).length:=by unfold aA;rw[if_neg (by rw[h1];decide),if_neg (by rw[h2];decide)]
   refine bU bV (cD _ _ _) eE (dZ _ _) (meets_str_split_sep z " " t t2 h1 hy h2 hsz (by rw[<-es];exact hl)) ?_;exact⟨.ref s.heap.objs.size,_,lay _ _ (by rw[es];exact Bw _ _),rfl,q _ fr⟩
end
section
variable{P:ay}{w:aE}{K:k5k}{mg:k5n}{base:aK}{C fA fT fL fI f:ak}{fd:aL}{st:aP}
noncomputable def j7y(n n2:Nat)(p1 p2 p3 p4 p5 p6 p7 p8 p9 p10 p11:aQ):List aP :=
 [.Assign [.Attribute (.Name "self" p1) "standing" p2] (.Call (.Attribute (.Name "text" p3) "split" p4) [.Constant (.str " ") n p5] [] p6) p7,
 .Assign [.Attribute (.Name "self" p8) "spot" p9] (.Constant (.int 0) n2 p10) p11]
def Ot(C:ak):Sp:=λvs H Q _=>∃(a dx:ak)(t:ao),vs=[.ref a,.str t]/\H a=ae (.ins C dx [])/\t.length<=100000/\(aA t " ").length<=aw/\∀b H',H b=ah->PcAt C H' ⟨a,dx,b⟩ (aA t " ") 0->But a H H'->Q .non H'
theorem j9d {n n2:Nat} {p1 p2 p3 p4 p5 p6 p7 p8 p9 p10 p11:aQ} (F:Fun K "__init__" "Pieces.__init__" st f fd) (T:PcT K mg C fA fT fL fI) (S:FnScope ["self","text"] ["self","text"] (j0 st)) (hb:jb st=j7y n n2 p1 p2 p3 p4 p5 p6 p7 p8 p9 p10 p11)
  (hv:Vis (j0 st) "self") (ht:Vis (j0 st) "text") (hl:(p4.endLine==p6.line)=ag):FnOk P w K mg base CX0 1 f fd ["self","text"] (Ot C):=by
 refine F.ok S (λvs H Q E h=>?_) (λcdv A outer s H vs Q E hr h=>?_)
 .obtain⟨a,dx,t,rfl,_⟩:=h;rfl
 .obtain⟨a,dx,t,rfl,h1,hz,hn,q⟩:=h;rw[hb];refine⟨_,vf (Cv (qt (i:=0) rfl hv) (Di cY bV eU Lg (qt (i:=1) rfl ht) (j9 Uq ju) rfl rfl hl) rfl) (Y5 (Cv (qt (i:=0) rfl hv) Cw rfl)),?_⟩;refine⟨_,rfl,rfl,t,rfl,rfl,hz,hn,λb hb'=>?_⟩;have nab:a≠b:=qx h1 hb';refine⟨_,rfl,a,C,dx,[],rfl,(by rw[jc nab];exact h1),T.cl,T.nS,(by show 0<1000;decide),_,rfl,a,C,dx,_,rfl,jm,T.cl,T.nP,(by show 1<1000;decide),?_⟩;refine q b _ hb' ⟨by show upd _ a _ a=_;rw[jm,j5h];rfl,by show upd _ a _ b=_;rw[jc nab.symm,jc nab.symm,jm]⟩ λc o n hc=>?_;rw[jc n,jc n,jc (qx hc hb')];exact hc
end
structure Pm where
 nx:Rho->Nat->Prop
 rt:D->Nat->Prop
 ex:ao->Rho->Prop
def FrM(a:ak)(ρ ρ':Rho)(H H':Hp):Prop:=j4 (del H (a::owns ρ)) (del H' (a::owns ρ'))
structure EndsM(X:Cx)(C:ak)(o:Ob)(ls:List ao)(ρ:Rho)(H:Hp)(P:Pm)(E:Ends):Prop where
 nx:∀ρ' k' σ' H',P.nx ρ' k'->Rep X.K ρ' σ' H'->PcAt C (del H' (owns ρ')) o ls k'->FrM o.a ρ ρ' H H'->E.nx σ' H'
 rt:∀d k' v H',P.rt d k'->PcAt C H' o ls k'->j4 (del H (o.a::owns ρ)) (del H' [o.a])->Enc X.K H' d v->E.rt v H'
 ex:∀x ρ' σ' H',P.ex x ρ'->Rep X.K ρ' σ' H'->FrM o.a ρ ρ' H H'->W4 X σ' H' x
structure PcX(X:Cx)(C:ak):Prop where
 ex:∃(fA fT fL fI:ak)(dA dT dL dI:aL),PcT X.K X.mg C fA fT fL fI/\(FnOk X.prog X.w X.K X.mg X.base CX0 1 fA dA ["self"] (W8 C)/\Binds X.K dA ["self"] []) /\
  (FnOk X.prog X.w X.K X.mg X.base CX0 2 fT dT ["self"] (Oq C)/\Binds X.K dT ["self"] [])/\(FnOk X.prog X.w X.K X.mg X.base CX0 1 fL dL ["self"] (j0a C)/\Binds X.K dL ["self"] []) /\
  (FnOk X.prog X.w X.K X.mg X.base CX0 1 fI dI ["self","text"] (Ot C)/\Binds X.K dI ["self","text"] [])/\Room 3 X.A
def MSs(X:Cx)(C:ak)(o:Ob)(ls:List ao)(ρ:Rho)(k:Nat)(sts:List aP)(P:Pm):Prop :=
 ∀σ H E,Rep X.K ρ σ H->PcAt C (del H (owns ρ)) o ls k->EndsM X C o ls ρ H P E->Z4 X sts E σ H
section
variable{X:Cx}{C:ak}{o:Ob}{ls:List ao}{ρ ρ1:Rho}{H H1 H':Hp}{P:Pm}{E:Ends}{k k':Nat}{st:aP}{rest:List aP}{σ:St}
theorem FrM.trans{a:ak}{ρ2:Rho}{H2:Hp}(f:FrM a ρ ρ1 H H1)(g:FrM a ρ1 ρ2 H1 H2):FrM a ρ ρ2 H H2:=j4.trans f g
theorem FrM.of0{a:ak}(f:Fr0 ρ ρ1 H H1):FrM a ρ ρ1 H H1:=λb u z=>by
 obtain⟨nb,z⟩:=of_del z;have nb2:b∉owns ρ:=λy=>nb (kj _ y);obtain⟨n1,z1⟩:=of_del (f b u (by rw[j5 nb2];exact z));rw[j5];exact z1;intro y;rcases km.mp y with e|y
 .exact nb (by rw[e];exact xg)
 .exact n1 y
theorem FrM.but{a:ak}(h:But a H H'):FrM a ρ ρ H H':=λb u z=>by obtain⟨nb,z⟩:=of_del z;rw[j5 nb];exact h b u (λy=>nb (by rw[y];exact xg)) z
theorem EndsM.step(h:EndsM X C o ls ρ H P E)(f:FrM o.a ρ ρ1 H H1):EndsM X C o ls ρ1 H1 P E :=
 ⟨λρ' k' σ' H' n R pc g=>h.nx ρ' k' σ' H' n R pc (f.trans g),λd k' v H' n pc g e=>h.rt d k' v H' n pc (j4.trans f g) e,λx ρ' σ' H' n R g=>h.ex x ρ' σ' H' n R (f.trans g)⟩
theorem PcAt.nin(h:PcAt C (del H (owns ρ)) o ls k):o.a∉owns ρ/\o.b∉owns ρ:=⟨(of_del h.ob).1,(of_del h.li).1⟩
theorem PcAt.all(h:PcAt C (del H (owns ρ)) o ls k):PcAt C H o ls k:=h.stay qb
theorem PcAt.in'(h:PcAt C H' o ls k')(h0:PcAt C (del H (owns ρ)) o ls k)(sub:∀b∈owns ρ1,b∈owns ρ):PcAt C (del H' (owns ρ1)) o ls k' :=
 ⟨by rw[j5 λz=>h0.nin.1 (sub _ z)];exact h.ob,by rw[j5 λz=>h0.nin.2 (sub _ z)];exact h.li⟩
theorem Jm.but{a dx:ak}{fs:List (ao×V)}(h:H a=ae (.ins C dx fs))(b:But a H H'):Jm H H':=λc u hc n=>b c u (λz=>by rw[z,h]at hc;cases hc;cases n) hc
theorem But.ofDel{a:ak}(g:j4 (del H [a]) (del H' [a])):But a H H':=λc u n hc=>(of_del (g c u (by rw[j5 (by simpa using n)];exact hc))).2
theorem MSs.plain{N:Rho->Prop}(h1:DS X ρ st { nx:=N,rt:=λr=>∃d,r=.val d/\P.rt d k,ex:=P.ex })(h2:∀ρ1,N ρ1->MSs X C o ls ρ1 k rest P):MSs X C o ls ρ k (st::rest) P:=λσ H E R pc q =>
 (vf psS J6).to (h1 σ H { E with nx:=Z4 X rest E } R ⟨λρ' σ' H' n R' f=>h2 ρ' n σ' H' E R' (pc.stay f) (q.step (.of0 f)),λ_ _ _ n=>n.elim,λ_ _ _ n=>n.elim,
  λr v H' ⟨d,e,n⟩ z=>by
   subst e
   obtain⟨g,en⟩:=z
   refine q.rt d k v H' n (pc.stay g) (λb u y=>?_) en
   obtain⟨nb,y⟩:=of_del y
   rw[j5 (by intro z;exact nb (by rw[xm.mp z];exact xg))]
   exact g b u (by rw[j5 λz=>nb (kj _ z)];exact y),
  λx ρ' σ' H' n R' f=>q.ex x ρ' σ' H' n R' (.of0 f)⟩)
theorem MSs.ife{c:ar}{sa:List aP}{b:Bool}{pos:aQ}(hc:DB X ρ c b)(ha:b=ag->MSs X C o ls ρ k sa { P with nx:=λ_ _=>False })(hb:b=af->MSs X C o ls ρ k rest P):MSs X C o ls ρ k (.If c sa [] pos::rest) P:=λσ H E R pc q=>by
 refine(vf (Dg ptS J6 J6) J6).to (hc σ H _ R λH1 g1=>?_);have pc1:PcAt C (del H1 (owns ρ)) o ls k:=pc.stay (jf g1);have q1:=q.step (.of0 (Fr0.grow g1));cases b with
 |true=>exact Bb (ha rfl σ H1 _ (R.grow g1) pc1 ⟨λ_ _ _ _ n=>n.elim,q1.rt,q1.ex⟩)
 |false=>exact Bc (Y6.to (hb rfl σ H1 E (R.grow g1) pc1 q1))
section
variable{pi i:Nat}{ob:cy}{x y:ao}{p py p1 p2 pos:aQ}
theorem j0e {Q:VK} (T:PcX X C) (hp:ρ[pi]?=ae (.raw o.a ob rfN)) (hpN:X.N[pi]?=ae y) (hv:Vis X.env.scope y) (hd:(y==k5o)=af) (hcd:(y==k5p)=af) (mc:Ua X (.Name y py) "taken" p1 p2)
  (R:Rep X.K ρ σ H) (pc:PcAt C (del H (owns ρ)) o ls k) (q:∀H',Rep X.K ρ σ H'->PcAt C (del H' (owns ρ)) o ls (k+1)->FrM o.a ρ ρ H H'->Q (.str (ls.getD k "")) H'):Jk X (.Call (.Attribute (.Name y py) "taken" p1) [] [] p2) σ H Q:=by
 obtain⟨fA,fT,fL,fI,dA,dT,dL,dI,T,_,⟨GT,bT⟩,_,_,hr⟩:=T.ex;obtain⟨pl,ht⟩:=mc;refine(Rj (qt hpN hv hd hcd) T.cl T.mT GT (hr.mono (by decide)) bT .nil Zw ht).to ⟨_,(R.raw pi _ _ _ hp).1,o.a,o.dx,_,rfl,pc.all.ob,Cz _ _ (by decide +kernel) (by decide +kernel),o,ls,k,rfl,pc.all,λH' pc' bt=>?_⟩;exact q H' (R.monoN (.but pc.all.ob bt)) (pc'.in' pc λ_ h=>h) (.but bt)
theorem MSs.take (T:PcX X C) (hp:ρ[pi]?=ae (.raw o.a ob rfN)) (hpN:X.N[pi]?=ae y) (hv:Vis X.env.scope y) (hd:(y==k5o)=af) (hcd:(y==k5p)=af) (mc:Ua X (.Name y py) "taken" p1 p2)
  (hN:X.N.Nodup) (hi:X.N[i]?=ae x) (hx:Loc X.env.scope x) (hs:aR (.Call (.Attribute (.Name y py) "taken" p1) [] [] p2) (ae (.Name x p)) pos.line X.env=pure af) (hf:X.fn x=ag\/X.env.scope.names.lookup x=ae .local)
  (h2:MSs X C o ls (ρ.set i (.val (.str (ls.getD k "")))) (k+1) rest P):MSs X C o ls ρ k (.Assign [.Name x p] (.Call (.Attribute (.Name y py) "taken" p1) [] [] p2) pos::rest) P:=λσ H E R pc q =>
 (vf (Zd hN hi hx peS hs hf) J6).to (j0e T hp hpN hv hd hcd mc R pc λH' R' pc' f=>h2 _ H' E (R'.set_val rfl) (pc'.stay (v9 λb hb=>(jd rfl).subset hb)) (q.step (f.trans (.of0 (Fr0.drop λb hb=>(jd rfl).subset hb)))))
end
end
def ji8(K:k5k)(C:ak)(S:List ao->Nat->List D->D->Nat->Prop):Sp:=λvs H Q _=>∃(o:Ob)(ls:List ao)(k:Nat)(ds:List D)(d:D)(k':Nat)(ws:List V),vs=.ref o.a::ws/\TabOk K H/\PcAt C H o ls k/\j6 K H ds ws/\S ls k ds d k' /\
 ∀v H',PcAt C H' o ls k'->j4 (del H [o.a]) (del H' [o.a])->Enc K H' d v->Q v H'
def spM(K:k5k)(C:ak)(S:List ao->Nat->List D->D->Nat->Prop):Sp:=λvs H Q _=>∃(A:List ak)(o:Ob)(ls:List ao)(k:Nat)(ds:List D)(d:D)(k':Nat) (ws:List V),vs=.ref o.a::ws/\TabOk K H/\(∀a∈A,∃xs,H a=ae (.lst xs))/\PcAt C (del H A) o ls k/\j6 K (del H A) ds ws/\S ls k ds d k' /\
 ∀v H',PcAt C (del H' A) o ls k'->j4 (del H [o.a]) (del H' [o.a])->Enc K (del H' A) d v->Q v H'
def j09(K:k5k)(mg:k5n)(C:ak)(S:List ao->Nat->List D->ao->Prop):Sp:=λvs H _ E=>∃(o:Ob)(ls:List ao)(k:Nat)(ds:List D)(x:ao)(V:aj)(ws:List L2.V),vs=.ref o.a::ws/\TabOk K H/\PcAt C H o ls k/\j6 K H ds ws/\S ls k ds x/\mg x=ae V /\
 ∀H',j4 (del H [o.a]) (del H' [o.a])->E V ah H'
section
variable{P:ay}{w:aE}{K:k5k}{mg:k5n}{base:aK}{n:Nat}{f C:ak}{fd:aL}{ps:List ao}
theorem FnOk.toM{S:List ao->Nat->List D->D->Nat->Prop}(F:FnOk P w K mg base CX0 n f fd ps (ji8 K C S)):FnOk P w K mg base CX0 n f fd ps (spM K C S) :=
 F.framed.imp λvs H Q E ⟨A,o,ls,k,ds,d,k',ws,e,tb,hA,pc,en,hS,q⟩=>⟨A,hA,o,ls,k,ds,d,k',ws,e,tb.del hA,pc,en,hS,λv F pc' g e' hF=>by
  refine q v _ (by rw[Qh hF];exact pc') (λb u z=>?_) (by rw[Qh hF];exact e')
  obtain⟨nb,z⟩:=of_del z
  rw[j5 nb]
  by_cases y:b∈A
  .rw[vz y];exact z
  .rw[jh y]
   exact(of_del (g b u (by rw[j5 nb,j5 y];exact z))).2⟩
end
structure CalM(X:Cx)(f:ao)(C:ak)(S:List ao->Nat->List D->D->Nat->Prop):Prop where
 ex:∃(n:Nat)(fa:ak)(fd:aL)(ps:List ao),FnOk X.prog X.w X.K X.mg X.base CX0 n fa fd ps (spM X.K C S)/\Room n X.A/\X.mg f=ae (.ref fa)/\W.keepIn X.K (.ref fa)=ag/\Binds X.K fd ps []
structure CalMX(X:Cx)(f:ao)(C:ak)(S:List ao->Nat->List D->ao->Prop):Prop where
 ex:∃(n:Nat)(fa:ak)(fd:aL)(ps:List ao),FnOk X.prog X.w X.K X.mg X.base (CX1 X.prog X.w) n fa fd ps (j09 X.K X.mg C S)/\Room n X.A/\X.mg f=ae (.ref fa)/\W.keepIn X.K (.ref fa)=ag/\Binds X.K fd ps []
section
variable{X:Cx}{C:ak}{o:Ob}{ls:List ao}{ρ ρ1:Rho}{H H1 H':Hp}{P:Pm}{E:Ends}{k k':Nat}{st:aP}{rest:List aP}{σ:St}{pi i:Nat}{ob:cy}{x y f:ao}{p py pf p1 p2 pos:aQ}{es:List ar}{ds:List D}{d:D}
structure MC(X:Cx)(pi:Nat)(f:ao)(es:List ar)(c:ar):Prop where
 ex:∃(y:ao)(pf py pos:aQ),c=.Call (.Name f pf) (.Name y py::es) [] pos/\X.N[pi]?=ae y/\Vis X.env.scope y/\(y==k5o)=af/\(y==k5p)=af/\Gl X f/\(f==k5o)=af /\
  ai (.Name y py::es) X.env=(af,aH (.Name y py) X.env)::ai es X.env/\(aV pos (ai es X.env)).any (·.1)=af
theorem j22{S:List ao->Nat->List D->D->Nat->Prop}{c:ar}{Q:VK}(cl:CalM X f C S)(m:MC X pi f es c)(hp:ρ[pi]?=ae (.raw o.a ob rfN))(ha:DA X ρ es ds)(hS:S ls k ds d k')
  (R:Rep X.K ρ σ H) (pc:PcAt C (del H (owns ρ)) o ls k) (q:∀v H',Rep X.K ρ σ H'->PcAt C (del H' (owns ρ)) o ls k'->FrM o.a ρ ρ H H'->Enc X.K (del H' (owns ρ)) d v->Q v H'):Jk X c σ H Q:=by
 obtain⟨y,pf,py,pos,rfl,hpN,hv,hd,hcd,hg,hdb,he,hpl⟩:=m.ex;obtain⟨n,fa,fd,ps,F,hr,hm,hk,hb⟩:=cl.ex;refine(Y7 F hr hg hm hk hb .nil Zw (j9 (qt hpN hv hd hcd) paS he) hdb he hpl).to ⟨_,(R.raw pi _ _ _ hp).1,ha σ H _ R λvs H1 g1 e1=>?_⟩;show spM X.K C S ((.ref o.a::vs)++[]) H1 Q E0;rw[Xk];have R1:=R.grow g1;have pc1:PcAt C (del H1 (owns ρ)) o ls k:=pc.stay (jf g1);refine⟨owns ρ,o,ls,k,ds,d,k',vs,rfl,R1.tb,R1.owned,pc1,e1,hS,λv H' pc' g en=>?_⟩;have bt:=But.ofDel g;exact q v H' (R1.monoN (.but pc1.all.ob bt)) pc' ((FrM.of0 (Fr0.grow g1)).trans (.but bt)) en
theorem MSs.callS{S:List ao->Nat->List D->D->Nat->Prop}{c:ar}(cl:CalM X f C S)(m:MC X pi f es c)(hp:ρ[pi]?=ae (.raw o.a ob rfN))(ha:DA X ρ es ds)(hS:S ls k ds d k')
  (hN:X.N.Nodup) (hi:X.N[i]?=ae x) (hx:Loc X.env.scope x) (hs:aR c (ae (.Name x p)) pos.line X.env=Pure.pure af) (hf:X.fn x=ag\/X.env.scope.names.lookup x=ae .local)
  (h2:MSs X C o ls (ρ.set i (.val d)) k' rest P):MSs X C o ls ρ k (.Assign [.Name x p] c pos::rest) P:=λσ H E R pc q =>
 (vf (Zd hN hi hx peS hs hf) J6).to (j22 cl m hp ha hS R pc λv H' R' pc' f en=>h2 _ H' E (R'.set_val en) (pc'.stay (v9 λb hb=>(jd rfl).subset hb)) (q.step (f.trans (.of0 (Fr0.drop λb hb=>(jd rfl).subset hb)))))
theorem j0f{S:List ao->Nat->List D->ao->Prop}{c:ar}{Q:VK}{z:ao}{V:aj}(cl:CalMX X f C S)(m:MC X pi f es c)(hp:ρ[pi]?=ae (.raw o.a ob rfN))(ha:DTA X ρ es ds)(hS:S ls k ds z)(hC:X.mg z=ae V)
  (R:Rep X.K ρ σ H) (pc:PcAt C (del H (owns ρ)) o ls k) (q:∀H',Rep X.K ρ σ H'->FrM o.a ρ ρ H H'->W4 X σ H' z):Jk X c σ H Q:=λpins s I=>by
 obtain⟨y,pf,py,pos,rfl,hpN,hv,hd,hcd,hg,hdb,he,hpl⟩:=m.ex;obtain⟨n,fa,fd,ps,F,hr,hm,hk,hb⟩:=cl.ex;refine ba (Jv I hg hm ?_ hdb);refine W.callWith_K (h₀:=X.base) I.ok.mod.kin hk (thn ((j9 (qt hpN hv hd hcd) paS he).to (σ:=σ) (H:=H) (Q:=λvs H1=>∃ws,vs=.ref o.a::ws/\j4 H H1/\j6 X.K H1 ds ws) ⟨_,(R.raw pi _ _ _ hp).1,ha σ H _ R λvs H1 g e=>⟨vs,rfl,g,e⟩⟩ pos pins s I) λus s1 ⟨vs,H1,I1,r,ws,evs,g,en⟩=>⟨I1.kIn,?_⟩) he hpl;subst evs;have R1:=R.grow g;have pc1:PcAt C (del H1 (owns ρ)) o ls k:=pc.stay (jf g);have sp:j09 X.K X.mg C S (.ref o.a::ws) H1 (λ_ _=>False) (λC' _ H'=>C'=V/\j4 (del H1 [o.a]) (del H' [o.a])):=⟨o,ls,k,ds,z,V,ws,rfl,R1.tb,pc1.all,en,hS,hC,λH' g=>⟨rfl,g⟩⟩
 have hl:us.length=ps.length:=by rw[<-r.length];exact F.len _ _ _ _ sp
 have hb':=hb s1 us I1.kIn (by rw[Xk];exact hl);rw[Xk]at hb';refine eF (bH (F.run X.A X.stack s1 H1 ⟨us,[]⟩ us _ _ _ hr I1.env0 hb' r sp) λr s' hq=>?_);cases r with
 |error ev =>obtain⟨e,C',H',rfl,os,bare,un,hok,fl,rfl,g'⟩:=hq;have I':Inv X pins σ H' s':=I1.call' os un hok bare (λb z=>nomatch z);have bt:=But.ofDel g';refine q H' (R1.monoN (.but pc1.all.ob bt)) ((FrM.of0 (Fr0.grow g)).trans (.but bt)) pins H' s' e C' I' (j4.refl _) hC ⟨λb hb=>fl.new b (I1.old hb),fl.free,?_⟩;obtain⟨oe,ws,a0,q1,q2,q3,q4,q5⟩:=fl.obj;refine⟨oe,ws,a0,q1,q2,q3,q4,q5.imp id ?_⟩;rintro⟨T,oT,ts,z1,z2,z3,z4,z5,z6,z7⟩;exact⟨T,oT,ts,z1,z2,z3,z4,z5,z6,λb hb=>z7 b (I1.old hb)⟩
 |ok fl =>
  cases fl with
  |ret u=>obtain⟨_,_,_,_,_,_,_,z⟩:=hq;exact z.elim
  |next=>exact aO hq
  |brk=>exact aO hq
  |cont=>exact aO hq
theorem MSs.callSX{S:List ao->Nat->List D->ao->Prop}{c:ar}{z:ao}{V:aj}(cl:CalMX X f C S)(m:MC X pi f es c)(hp:ρ[pi]?=ae (.raw o.a ob rfN))(ha:DTA X ρ es ds)(hS:S ls k ds z)(hC:X.mg z=ae V)
  (hN:X.N.Nodup) (hi:X.N[i]?=ae x) (hx:Loc X.env.scope x) (hs:aR c (ae (.Name x p)) pos.line X.env=Pure.pure af) (hf:X.fn x=ag\/X.env.scope.names.lookup x=ae .local)
  (h2:P.ex z ρ):MSs X C o ls ρ k (.Assign [.Name x p] c pos::rest) P:=λσ H E R pc q =>
 (vf (Zd hN hi hx peS hs hf) J6).to (j0f cl m hp ha hS hC R pc λH' R' f=>q.ex z ρ σ H' h2 R' f)
end
section
variable{X:Cx}{C:ak}{o:Ob}{ls:List ao}{ρ ρ1:Rho}{H H1 H':Hp}{P:Pm}{E:Ends}{k k':Nat}{st:aP}{sa rest:List aP}{σ:St}{pi i:Nat}{ob:cy}{x y f:ao}{p py pf p1 p2 p3 p4 pos:aQ}{es:List ar}{ds:List D}{d:D}
theorem MSs.ifAll (T:PcX X C) (hp:ρ[pi]?=ae (.raw o.a ob rfN)) (hpN:X.N[pi]?=ae y) (hv:Vis X.env.scope y) (hd:(y==k5o)=af) (hcd:(y==k5p)=af) (mc:Ua X (.Name y py) "all_taken" p1 p2)
  (he:∀whole,dz (.Call (.Attribute (.Name y py) "all_taken" p1) [] [] p2) X.env whole=(do let v <-whole;eN (Expr.Call (.Attribute (.Name y py) "all_taken" p1) [] [] p2).pos;dS [v] (i9 v)))
  (ha:¬ls.length<=k->MSs X C o ls ρ k sa { P with nx:=λ_ _=>False }) (hb:ls.length<=k->MSs X C o ls ρ k rest P):MSs X C o ls ρ k (.If (.UnaryOp .Not (.Call (.Attribute (.Name y py) "all_taken" p1) [] [] p2) p3) sa [] pos::rest) P:=λσ H E R pc q=>by
 obtain⟨fA,fT,fL,fI,dA,dT,dL,dI,T,_,_,⟨GL,bL⟩,_,hr⟩:=T.ex;obtain⟨pl,ht⟩:=mc;refine(vf (Dg (j2d (j2c (Rj (qt hpN hv hd hcd) T.cl T.mL GL (hr.mono (by decide)) bL .nil Zw ht) he)) J6 J6) J6).to ?_;refine⟨_,(R.raw pi _ _ _ hp).1,o.a,o.dx,_,rfl,pc.all.ob,Cz _ _ (by decide +kernel) (by decide +kernel),o,ls,k,rfl,pc.all,_,rfl,?_⟩;by_cases z:ls.length<=k
 .rw[decide_eq_true z];exact Bc (Y6.to (hb z σ H E R pc q))
 .rw[decide_eq_false z];exact Bb (ha z σ H _ R pc ⟨λ_ _ _ _ n=>n.elim,q.rt,q.ex⟩)
theorem Rep.set_rf{K:k5k}{a:ak}{o:cy}(R:Rep K ρ σ H):Rep K (ρ.set i (.raw a o rfN)) (σ.set i (ae (.ref a))) H:=by
 have sub:(owns (ρ.set i (.raw a o rfN))).Sublist (owns ρ):=jd rfl;have g:j4 (del H (owns ρ)) (del H (owns (ρ.set i (.raw a o rfN)))):=v9 λb hb=>sub.subset hb;refine⟨by simp[R.len],λj d' h=>?_,λj a ds h=>?_,sub.nodup R.nd,λj a' o' x' h=>?_,R.tb⟩
 .rcases getElem?_set_of h with ⟨rfl,z,hl⟩|⟨n,h⟩
  .cases z
  .obtain⟨u,q,h⟩:=R.val j d' h;exact⟨u,by rw[zp n];exact q,h.mono g⟩
 .rcases getElem?_set_of h with ⟨rfl,z,_⟩|⟨n,h⟩
  .cases z
  .obtain⟨q,xs,h,l⟩:=R.own j a ds h;exact⟨by rw[zp n];exact q,xs,h,l.mono g⟩
 .rcases getElem?_set_of h with ⟨rfl,z,hl⟩|⟨n,h⟩
  .cases z;exact⟨Z9 (by rw[R.len];exact hl),.inl rfl⟩
  .obtain⟨q,h⟩:=R.raw j a' o' x' h;exact⟨by rw[zp n];exact q,h.mono g⟩
noncomputable def dOb:cy:={ cls:=.none }
theorem DSs.make {Q:Po} {te:ar} {t:ao} (T:PcX X C) (ht:DT X ρ te (.str t)) (h1:t.length<=100000) (h2:(aA t " ").length<=aw) (hg:Gl X "Pieces") (hst:ai [te] X.env=(af,aH te X.env)::ai [] X.env) (hpl:(aV p2 (ai [] X.env)).any (·.1)=af)
  (hN:X.N.Nodup) (hi:X.N[pi]?=ae y) (hx:Loc X.env.scope y) (hs:aR (.Call (.Name "Pieces" p1) [te] [] p2) (ae (.Name y py)) pos.line X.env=Pure.pure af) (hf:X.fn y=ag\/X.env.scope.names.lookup y=ae .local)
  (h:∀o:Ob,MSs X C o (aA t " ") (ρ.set pi (.raw o.a dOb rfN)) 0 rest { nx:=λρ' _=>Q.nx ρ',rt:=λd _=>Q.rt (.val d),ex:=Q.ex }) :
  DSs X ρ (.Assign [.Name y py] (.Call (.Name "Pieces" p1) [te] [] p2) pos::rest) Q:=λσ H E R q=>by
 obtain⟨fA,fT,fL,fI,dA,dT,dL,dI,T,_,_,_,⟨GI,bI⟩,hr⟩:=T.ex;refine(vf (Zd hN hi hx (j95 T.mkI GI (hr.mono (by decide)) hg T.mgC bI .nil Zw (j9 peS ju hst) (by decide) hst hpl) hs hf) J6).to (ht σ H _ R λv H1 g1 e1=>?_);rw[show v=.str t from e1];intro x dx nx ndx nex;refine⟨x,dx,t,rfl,jm,h1,h2,λb H' nb pc bt=>⟨rfl,?_⟩⟩;have s0:j4 H1 (upd (upd H1 dx (.own x)) x (.ins C dx [])):=λb o e=>by rw[jc (qx e nx),jc (qx e ndx)];exact e
 have s1:j4 H1 H':=λb o e=>bt b o (qx e nx) (s0 b o e);have R1:=R.grow (g1.trans s1);have sub:(owns (ρ.set pi (.raw x dOb rfN))).Sublist (owns ρ):=jd rfl;have nin:∀c,H1 c=ah->c∉owns (ρ.set pi (.raw x dOb rfN)):=λc hc z=>(R.grow g1).fresh hc (sub.subset z);have nb1:H1 b=ah:=s0.free nb;have fr:Fr0 ρ (ρ.set pi (.raw x dOb rfN)) H H':=j4.trans (Fr0.grow (g1.trans s1)) (Fr0.drop λb hb=>sub.subset hb);refine h ⟨x,dx,b⟩ _ H' E R1.set_rf ⟨?_,?_⟩ ⟨λρ' k' σ' H2 n R' pc' f=>?_,λd k' v H2 n pc' g en=>?_,λz ρ' σ' H2 n R' f=>?_⟩
 .rw[j5 (nin x nx)];exact pc.ob
 .rw[j5 (nin b nb1)];exact pc.li
 .refine q.nx ρ' σ' H2 n R' λc u z=>?_;obtain⟨n1,z1⟩:=of_del (fr c u z);have ncx:c≠x:=λe=>by obtain⟨_,y⟩:=of_del z;rw[e,g1.free nx]at y;cases y
  obtain⟨n2,z2⟩:=of_del (f c u (by rw[j5 (by intro y;rcases km.mp y with e|e;exact ncx e;exact n1 e)];exact z1));rw[j5 λy=>n2 (kj _ y)];exact z2
 .refine q.rt _ v H2 n ⟨λc u z=>?_,en⟩;obtain⟨n1,z1⟩:=of_del (fr c u z);have ncx:c≠x:=λe=>by obtain⟨_,y⟩:=of_del z;rw[e,g1.free nx]at y;cases y
  exact(of_del (g c u (by rw[j5 (by intro y;rcases km.mp y with e|e;exact ncx e;exact n1 e)];exact z1))).2
 .refine q.ex z ρ' σ' H2 n R' λc u z=>?_;obtain⟨n1,z1⟩:=of_del (fr c u z);have ncx:c≠x:=λe=>by obtain⟨_,y⟩:=of_del z;rw[e,g1.free nx]at y;cases y
  obtain⟨n2,z2⟩:=of_del (f c u (by rw[j5 (by intro y;rcases km.mp y with e|e;exact ncx e;exact n1 e)];exact z1));rw[j5 λy=>n2 (kj _ y)];exact z2
end
noncomputable def startM(N:List ao)(a:ak)(ds:List D):Rho:=(qg N (.int 0::ds)).set 0 (.raw a dOb rfN)
theorem Mj{K:k5k}{H:Hp}{N:List ao}{ds:List D}{ws:List V}{a:ak}(tb:TabOk K H)(h:j6 K H ds ws):Rep K (startM N a ds) (start N (.ref a::ws)) H :=
 (Zc (N:=N) tb (show j6 K H (.int 0::ds) (.int 0::ws) from⟨.int 0,ws,rfl,rfl,h⟩)).set_rf (i:=0) (a:=a) (o:=dOb)
theorem Wt(N:List ao)(a:ak)(ds:List D):owns (startM N a ds)=[]:=by have h:(owns (startM N a ds)).Sublist (owns (qg N (.int 0::ds))):=jd rfl;rw[Q5]at h;exact List.sublist_nil.mp h
section
variable{P:ay}{w:aE}{K:k5k}{mg:k5n}{base:aK}{x qual:ao}{st:aP}{f C:ak}{fd:aL}{N ps:List ao}{n:Nat}
theorem jiq{S:List ao->Nat->List D->D->Nat->Prop}(F:Fun K x qual st f fd)(Sc:FnScope N ps (j0 st))(hl:∀ls k ds d k',S ls k ds d k'->ds.length+1=ps.length)
  (hbody:∀(cdv:aj)(A:aF)(outer:List cG)(s:aq)(H:Hp)(E:XK),Vx K f cdv->Room n (A.deeper (bg qual (j0 st) s.heap.objs.size f cdv))->∀o ls k ds d k',S ls k ds d k' ->
   MSs (ql CX0 P w K mg base N qual (j0 st) f cdv A outer s H E).nox C o ls (startM N o.a ds) k (jb st) { nx:=λ_ _=>False,rt:=λd2 k2=>d2=d/\k2=k',ex:=λ_ _=>False }):FnOk P w K mg base CX0 (n+1) f fd ps (spM K C S):=by
 refine FnOk.toM (F.okC Sc (λvs H Q E ⟨o,ls,k,ds,d,k',ws,e,tb,pc,en,hS,_⟩=>by rw[e,xn,en.length];exact hl ls k ds d k' hS) λcdv A outer s H vs Q E hcv hr ⟨o,ls,k,ds,d,k',ws,e,tb,pc,en,hS,q⟩=>⟨_,J6,?_⟩);subst e;have ho:=Wt N o.a ds;refine hbody cdv A outer s H E hcv hr o ls k ds d k' hS _ H _ (Mj tb en) (by rw[ho,vd];exact pc) ⟨λ_ _ _ _ z=>z.elim,λd2 k2 v H' ⟨e1,e2⟩ pc' g en'=>?_,λ_ _ _ _ z=>z.elim⟩;subst e1 e2;rw[ho]at g;exact q v H' pc' g en'
theorem jgz{S:List ao->Nat->List D->ao->Prop}(F:Fun K x qual st f fd)(Sc:FnScope N ps (j0 st))(hl:∀ls k ds y,S ls k ds y->ds.length+1=ps.length)
  (hbody:∀(cdv:aj)(A:aF)(outer:List cG)(s:aq)(H:Hp)(E:XK),Vx K f cdv->Room n (A.deeper (bg qual (j0 st) s.heap.objs.size f cdv))->∀o ls k ds y,S ls k ds y ->
   MSs (ql (CX1 P w) P w K mg base N qual (j0 st) f cdv A outer s H E) C o ls (startM N o.a ds) k (jb st) { nx:=λ_ _=>False,rt:=λ_ _=>False,ex:=λz _=>z=y }):FnOk P w K mg base (CX1 P w) (n+1) f fd ps (j09 K mg C S):=by
 obtain⟨oc,od,dV,kV,doc,pm,an,cdv,ct,osl,rfl,lk,hcd⟩:=F.ex;refine Dm lk hcd Sc (λvs H Q E ⟨o,ls,k,ds,y,V,ws,e,tb,pc,en,hS,_⟩=>by rw[e,xn,en.length];exact hl ls k ds y hS) λA outer s H vs Q E hr ⟨o,ls,k,ds,y,V,ws,e,tb,pc,en,hS,hC,hE⟩=>⟨_,J6,?_⟩
 subst e;have ho:=Wt N o.a ds;refine hbody cdv A outer s H E ⟨oc,od,_,osl,lk,rfl⟩ hr o ls k ds y hS _ H _ (Mj tb en) (by rw[ho,vd];exact pc) ⟨λ_ _ _ _ z=>z.elim,λ_ _ _ _ z=>z.elim,λz ρ' σ' H' n R g=>?_⟩;cases(show z=y from n);intro pins H2 s' e C' I g2 hC' Fe;cases hC.symm.trans hC';unfold FrM at g;rw[ho]at g;refine Nj I Fe (hE H2 λb u z=>?_);obtain⟨nb,z⟩:=of_del z;obtain⟨_,z1⟩:=of_del (g b u (by rw[j5 nb];exact z));rw[j5 nb];exact g2 b u z1
end
section
variable{X:Cx}{ρ:Rho}{a:ar}{p p1 p2 pos:aQ}
theorem DO.callT {S:List D->List D->Prop} {x:ao} {e:ar} {es:List ar} {ds l:List D} (c:Cal X x (spF X.K S)) (ha:DTA X ρ (e::es) ds) (hS:S ds l) (hn:qi l=ag) (hg:Gl X x) (hdb:(x==k5o)=af)
  (he:ai (e::es) X.env=(af,aH e X.env)::ai es X.env) (hpl:(aV pos (ai es X.env)).any (·.1)=af):DO X ρ (.Call (.Name x p) (e::es) [] pos) l:=λσ H Q R q=>by
 obtain⟨k,f,fd,ps,F,hr,hm,hk,hb,_⟩:=c.ex;refine(Y7 F (hr.mono (Pb _)) hg hm hk hb .nil Zw paS hdb he hpl).to (ha σ H _ R λvs H1 g1 e1=>?_);show spF X.K S (vs++[]) H1 Q E0;rw[Xk];exact⟨[],ds,l,R.tb.mono g1,(λa h=>nomatch h),by rw[vd];exact e1,hS,λa xs H2 g2 n m z=>q a xs H2 (g1.trans g2) (g1.free n) m ((z.mono qb).hide (λc hc=>by
  rcases km.mp hc with z|z
  .rw[z];exact .inl ⟨xs,m⟩
  .exact .inl ((R.grow (g1.trans g2)).owned c z)) hn)⟩
end
section
variable{X:Cx}{ρ:Rho}{a:ar}{p p1 p2 p3 pos:aQ}{y:ao}{i n:Int}
theorem Fx:vm X (.type "int") (λxs H Q=>∃y n,xs=[.str y]/\c7 y=ae n/\y.length<=640/\Q (.int n) H):=by intro pins s σ H xs us Q I r h;obtain⟨y,n,rfl,hn,hl,q⟩:=h;obtain⟨u,rfl,t,rfl⟩:=vals1 r;exact PySem.W.KIN.call_text hn hl ⟨.int n,H,I.tok _,⟨_,rfl⟩,q⟩
theorem DE.intS (ha:DT X ρ a (.str y)) (hn:c7 y=ae n) (hl:y.length<=640) (hm:X.mg "int" = ah) (hg:Gl X "int") (hs:ai [a] X.env=[(af,aH a X.env)]):DE X ρ (.Call (.Name "int" p) [a] [] pos) (.int n):=λσ H Q R q =>(Zf Fx hg hm boot_int (j9 peS ju hs) (by decide) (by decide) hs).to (ha σ H _ R λv H1 g1 e1=>⟨y,n,by rw[show v=.str y from e1],hn,hl,q _ H1 g1 rfl⟩)
theorem DE.strI (ha:DT X ρ a (.int i)) (hi:i.natAbs.log2<1920) (hm:X.mg "str" = ah) (hg:Gl X "str") (hs:ai [a] X.env=[(af,aH a X.env)]):DE X ρ (.Call (.Name "str" p) [a] [] pos) (.str (toString i)):=λσ H Q R q =>(Zf Kd hg hm boot_str (j9 peS ju hs) (by decide) (by decide) hs).to (ha σ H _ R λv H1 g1 e1=>⟨i,by rw[show v=.int i from e1],hi,q _ H1 g1 rfl⟩)
theorem j6.strs{K:k5k}{H:Hp}:∀ns:List ao,j6 K H (ns.map D.str) (ns.map V.str)
 |[]=>rfl
 |_::ns=>⟨_,_,rfl,rfl,j6.strs ns⟩
theorem DO.split {k:Nat} (ha:DT X ρ a (.str y)) (h1:y.length<=100000) (h2:(aA y " ").length<=aw) (hs:ai [.Constant (.str " ") k p3] X.env=(af,aH (.Constant (.str " ") k p3) X.env)::ai [] X.env) (hbase:bu a "split" X.env (aH a X.env)=aH a X.env) (hfew:((aV p2 (ai [.Constant (.str " ") k p3] X.env)).all (λx=>!x.1)&&(d4 p2 (bS [] X.env)).all (λx=>x.1.isSome)&&decide (([.Constant (.str " ") k p3]:List ar).length+([]:List bW).length+(if ([]:List bW).isEmpty then 0 else 1)<30))=ag) (hline:(p1.endLine==p2.line)=ag) :
  DO X ρ (.Call (.Attribute a "split" p1) [.Constant (.str " ") k p3] [] p2) ((aA y " ").map D.str):=λσ H Q R q =>
 (Di cY bV eU Lg peS (j9 Uq ju hs) hbase hfew hline).to (ha σ H _ R λv H1 g1 e1=>by
  subst e1
  refine⟨rfl,y,rfl,rfl,h1,h2,λb hb=>?_⟩
  refine q b _ _ (λc o z=>?_) (g1.free hb) jm (j6.strs _)
  rw[jc (qx (g1 c o z) hb)]
  exact g1 c o z)
end
end L2
end
section
namespace L2
noncomputable def step(acc:List (List Int))(f:List Int):List (List Int):=acc.flatMap λa=>f.map λx=>a++[x]
noncomputable def jg1:List (List Int)->List (List Int)
 |[]=>[[]]
 |f::fs=>f.flatMap λx=>(jg1 fs).map (x :: ·)
noncomputable def j7k:Nat->List (List Int)
 |0=>[[]]
 |m+1=>(j7k m).map (0 :: ·)++(j7k m).map (1 :: ·)
noncomputable def fits:List Int->List Int->Bool
 |t::ts,x::xs=>(t==2 || t==x)&&fits ts xs
 |_,_=>ag
end L2
end
section
namespace L2
open PySem
inductive Sv where
 |un
 |val (d:D)
 |own (l:List D)
 |exc (x:ao)
noncomputable abbrev En:=List Sv
set_option genInjectivity true in
inductive Rk where
 |e (d:D)
 |o (l:List D)
 |w (l:List D)
 |t (d:D)
noncomputable def Rk.d:Rk->D
 |.e d=>d
 |.o l=>.lst l
 |.w l=>.lst l
 |.t d=>d
noncomputable def Rk.st:Rk->Option D
 |.e d=>ae d
 |.o l=>ae (.lst l)
 |.w l=>ah
 |.t d=>if vy d=ag then ae d else ah
noncomputable def Rk.sq:Rk->Option (Bool×List D)
 |.e (.lst l)=>ae (ag,l)
 |.e (.tup l)=>ae (af,l)
 |.o l=>ae (ag,l)
 |.w l=>ae (ag,l)
 |_=>ah
noncomputable def Rk.lw:Rk->Option (List D)
 |.o l=>ae l
 |.w l=>ae l
 |_=>ah
inductive Rc where
 |val (d:D)
 |fresh (l:List D)
 |err (x:ao)
 |lval (d:D)
 |mval (d:D) (k:Nat)
 |merr (x:ao)
 |no
noncomputable def Rc.rk:Rc->Option Rk
 |.val d=>ae (.e d)
 |.fresh l=>ae (.o l)
 |_=>ah
inductive Bop where
 |add|sub|mul|fdiv|mod|pow|shl|shr|band|bxor
inductive Cop where
 |lt|le|gt|ge|eq|ne|isin|notin
inductive Bf where
 |len|min|max|all|tuple|list|sum|int|any|sorted
inductive Mf where
 |count
inductive Ex where
 |lit (d:D)
 |var (i:Nat)
 |glob (x:ao)
 |bin (op:Bop) (a b:Ex)
 |neg (a:Ex)
 |cmp (op:Cop) (a b:Ex)
 |isN (a:Ex)
 |and (a b:Ex)
 |or (a b:Ex)
 |not (a:Ex)
 |ite (c a b:Ex)
 |nil
 |cons (a b:Ex)
 |tup (es:Ex)
 |lst (es:Ex)
 |ix (a b:Ex)
 |sl (a lo hi:Ex)
 |call (f:ao) (es:Ex)
 |blt (f:Bf) (es:Ex)
 |isi (a:Ex) (ts:List String)
 |comp (is:List Nat) (elt it cond:Ex)
 |seq (a:Ex)
 |range (es:Ex)
 |fst (es:Ex)
 |isx (i:Nat) (cs:List ao)
 |join (sep:ao) (a:Ex)
 |lrng (a:Ex)
 |dzip (a b:Ex)
 |callD (f:ao) (es:Ex)
 |chn (a b c:Ex)
 |che (a b c:Ex)
 |maxD (a:Ex)
 |callK (f:ao) (es a:Ex)
 |dix (a b:Ex)
 |dnil
 |rpr (a:Ex)
 |upr (a:Ex)
 |spl (a:Ex)
 |sti (a:Ex)
 |din (a b:Ex)
 |items (a:Ex)
 |callV (i:Nat) (es:Ex)
 |dget (a b:Ex)
 |dvals (a:Ex)
 |minT (a:Ex)
set_option genInjectivity true in
inductive W where
 |v (r:Rk)
 |a (rs:List Rk)
 |i (ds:List D)
noncomputable def je(n:Nat):Bool:=decide (n<=aw)
noncomputable def binI:Bop->Int->Int->Option Int
 |.add,i,j=>ae (i+j)
 |.sub,i,j=>ae (i-j)
 |.mul,i,j=>if (-(2^64)<i/\i<2^64)\/(-(2^64)<j/\j<2^64)then ae (i*j)else ah
 |.fdiv,i,j=>if 0<j/\j<18446744073709551616 then ae (i/j)else ah
 |.mod,i,j=>if 0<j then ae (i%j)else ah
 |.pow,i,j=>if 0<=j/\j<=1000000/\i.natAbs<2^64 then ae (i^j.toNat)else ah
 |.shl,i,j=>if 0<=j/\j<=1000000/\i.natAbs<2^64 then ae (i*2^j.toNat)else ah
 |.shr,i,j=>if 0<=j then ae (i/2^j.toNat)else ah
 |.band,i,j=>ae (Builtin.bitAnd i j)
 |.bxor,i,j=>ae (Builtin.bitXor i j)
noncomputable def W2(op:Bop)(a b:Rk):Option Rk :=
 match a.d,b.d with
 |.int i,.int j=>(binI op i j).map λk=>.e (.int k)
 |.str y,.str z=>match op with
  |.add=>if je (y.length+z.length)=ag then ae (.e (.str (y++z)))else ah
  |_=>ah
 |.str y,.int k=>match op with
  |.mul=>if (1<=k/\k<=1000)/\y.length<=1000 then ae (.e (.str (gw y k)))else ah
  |_=>ah
 |_,_=>match op,a.sq,b.sq,b.d with
  |.add,ae (ag,l),ae (ag,m),_=>if je (l.length+m.length)=ag then ae (.o (l++m))else ah
  |.add,ae (af,l),ae (af,m),_=>if je (l.length+m.length)=ag then ae (.e (.tup (l++m)))else ah
  |.mul,ae (af,l),_,.int k=>if 1<=k/\k<2^63/\l.isEmpty=af/\je (l.length*k.toNat)=ag then ae (.e (.tup (ax k.toNat l).flatten))else ah
  |.mul,_,_,.int k=>match a.lw with
   |some l=>if -(2^63)<=k/\k<2^63/\je (l.length*k.toNat)=ag then ae (.o (ax k.toNat l).flatten)else ah
   |none=>ah
  |_,_,_,_=>ah
noncomputable def cmpI:Cop->Int->Int->Option Bool
 |.lt,i,j=>ae (decide (i<j))
 |.le,i,j=>ae (decide (i<=j))
 |.gt,i,j=>ae (decide (j<i))
 |.ge,i,j=>ae (decide (j<=i))
 |.eq,i,j=>ae (decide (i=j))
 |.ne,i,j=>ae (!decide (i=j))
 |_,_,_=>ah
noncomputable def D.sqv:D->Option (Bool×List D)
 |.lst l=>ae (ag,l)
 |.tup l=>ae (af,l)
 |_=>ah
noncomputable def zj(op:Cop)(a b:D):Option Bool :=
 match op,a,b with
 |op,.int i,.int j=>cmpI op i j
 |.eq,a,b=>if a.dep<=90/\b.dep<=90 then ae (deq a b)else ah
 |.ne,.bl a,.bl b=>ae (a != b)
 |.ne,.str a,.str b=>ae (!decide (a=b))
 |.ne,.non,.non=>ae af
 |.ne,.lst l,.lst m=>if D.depL l<=90/\D.depL m<=90 then ae (!zx l m)else ah
 |.ne,.tup l,.tup m=>if D.depL l<=90/\D.depL m<=90 then ae (!zx l m)else ah
 |.isin,.str a,.str b=>ae (inS a b)
 |.lt,.str a,.str b=>ae (decide (a.cps.toList<b.cps.toList))
 |.gt,.str a,.str b=>ae (decide (b.cps.toList<a.cps.toList))
 |.isin,a,b=>match b.sqv with
  |some (_,l)=>if D.depL l<=90/\a.dep<=90 then ae (l.any λe=>deq e a)else ah
  |none=>ah
 |.notin,a,b=>match b.sqv with
  |some (_,l)=>if D.depL l<=90/\a.dep<=90 then ae (!l.any λe=>deq e a)else ah
  |none=>ah
 |_,_,_=>ah
noncomputable def boolsOf:List D->Option (List Bool)
 |[]=>ae []
 |.bl b::r=>(boolsOf r).map (b :: ·)
 |_::_=>ah
noncomputable def intsOf:List D->Option (List Int)
 |[]=>ae []
 |.int b::r=>(intsOf r).map (b :: ·)
 |_::_=>ah
noncomputable def strsOf:List D->Option (List ao)
 |[]=>ae []
 |.str b::r=>(strsOf r).map (b :: ·)
 |_::_=>ah
noncomputable def Z1:Bf->List Rk->Option Rk
 |.len,[a]=>match a.d with
  |.lst l=>ae (.e (.int l.length))
  |.tup l=>ae (.e (.int l.length))
  |.str y=>if je y.length=ag then ae (.e (.int y.length))else ah
  |_=>ah
 |.min,[a,b]=>match a.d,b.d with
  |.int i,.int j=>ae (.e (.int (if j<i then j else i)))
  |_,_=>ah
 |.max,[a,b]=>match a.d,b.d with
  |.int i,.int j=>ae (.e (.int (if j>i then j else i)))
  |_,_=>ah
 |.max,[a]=>match a.d with
  |.lst l=>match intsOf l with
   |some ns=>if ns.isEmpty=af then ae (.e (.int (Yp ns)))else ah
   |none=>ah
  |_=>ah
 |.min,[a]=>match a.d with
  |.lst l=>match intsOf l with
   |some ns=>if ns.isEmpty=af then ae (.e (.int (Ur ns)))else ah
   |none=>ah
  |_=>ah
 |.all,[a]=>match a.d with
  |.lst l=>(boolsOf l).map λbs=>.e (.bl (bs.all id))
  |_=>ah
 |.any,[a]=>match a.d with
  |.lst l=>(boolsOf l).map λbs=>.e (.bl (bs.any id))
  |_=>ah
 |.tuple,[a]=>match a.sq with
  |some (_,l)=>ae (.e (.tup l))
  |none=>ah
 |.list,[a]=>match a.sq with
  |some (_,l)=>ae (.o l)
  |none=>ah
 |.sum,[a]=>match a.d with
  |.lst l=>(intsOf l).map λns=>.e (.int ns.sum)
  |.tup l=>(intsOf l).map λns=>.e (.int ns.sum)
  |_=>ah
 |.int,[a]=>match a.d with
  |.bl k=>ae (.e (.int (if k then 1 else 0)))
  |.str y=>if y.length<=640 then(c7 y).map λn=>.e (.int n)else ah
  |_=>ah
 |_,_=>ah
noncomputable def qw(t c:String):Option Bool :=
 if t = "function" then ah else
 if c = "int" then ae (t == "int" || t == "bool") else
 if c = "bool" then ae (t == "bool") else
 if c = "str" then ae (t == "str") else
 if c = "list" then ae (t == "list") else
 if c = "tuple" then ae (t == "tuple")else ah
noncomputable def jz(d:D):List String->Option Bool
 |[]=>ae af
 |c::cs=>match qw d.ty c,jz d cs with
  |some a,ae b=>ae (a || b)
  |_,_=>ah
noncomputable def zm:List Nat->D->En->Option En
 |[i],d,ρ=>ae (ρ.set i (.val d))
 |[i,j],d,ρ=>match d with
  |.tup [a,b]=>ae ((ρ.set i (.val a)).set j (.val b))
  |_=>ah
 |[i,j,k],d,ρ=>match d with
  |.tup [a,.tup [b,c]]=>ae (((ρ.set i (.val a)).set j (.val b)).set k (.val c))
  |_=>ah
 |[i,j,k,_],d,ρ=>match d with
  |.tup [a,b,c]=>ae (((ρ.set i (.val a)).set j (.val b)).set k (.val c))
  |_=>ah
 |_,_,_=>ah
noncomputable def Dl(is:List Nat)(ρ:En):Bool:=is.all λi=>match ρ[i]? with
 |some .un=>ag
 |_=>af
noncomputable def Jd(f:D->Option (Option D)):List D->Option (List D)
 |[]=>ae []
 |d::ds=>match f d,Jd f ds with
  |some (ae x),ae xs=>ae (x::xs)
  |some ah,ae xs=>ae xs
  |_,_=>ah
noncomputable def zg:List Rk->Option (List D)
 |[]=>ae []
 |r::rs=>match r.st,zg rs with
  |some d,ae ds=>ae (d::ds)
  |_,_=>ah
noncomputable def W.one:W->Option Rk
 |.v r=>ae r
 |_=>ah
noncomputable def W.args:W->Option (List Rk)
 |.a rs=>ae rs
 |_=>ah
noncomputable def W.it:W->Option (List D)
 |.i ds=>ae ds
 |_=>ah
noncomputable def Jt:Option W->Option (Option Int)
 |some (.a [])=>ae ah
 |some (.a [r])=>match r.d with
  |.int i=>ae (ae i)
  |_=>ah
 |_=>ah
noncomputable def truth:Option W->Option Bool
 |some (.v r)=>match r.d with
  |.bl k=>ae k
  |_=>ah
 |_=>ah
noncomputable def j6i:Ex->Option Nat
 |.seq (.var i)=>ae i
 |_=>ah
noncomputable def frz(t:Ex)(ρ:En):En:=match j6i t with
 |some i=>match ρ[i]? with
  |some (.own l)=>ρ.set i (.val (.lst l))
  |_=>ρ
 |none=>ρ
noncomputable def J1(t:Ex)(ρ:En):Bool:=match j6i t with
 |some i=>match ρ[i]? with
  |some (.own _)=>ag
  |_=>af
 |none=>af
noncomputable def qj:D->Option ao
 |.int i=>if -18446744073709551616<i/\i<18446744073709551616 then ae (aT (toString i))else ah
 |.str y=>if y.length<=10000 then ae y else ah
 |_=>ah
noncomputable def v7:List Rk->Option (List ao)
 |[]=>ae []
 |r::rs=>match qj r.d,v7 rs with
  |some y,ae ys=>ae (y::ys)
  |_,_=>ah
noncomputable def bang(x:ao):ao:=("!":ao)++x
noncomputable def qm(f:ao):ao:=("??":ao)++f
noncomputable def mq(f:ao):ao:=("@":ao)++f
noncomputable def tupI:D->Option (List Int)
 |.tup l=>intsOf l
 |_=>ah
noncomputable def j0u(kf:D->Option Int):D->Int->List D->Option D
 |b,_,[]=>ae b
 |b,kb,d::ds=>match kf d with
  |some k=>if k<kb then j0u kf d k ds else j0u kf b kb ds
  |none=>ah
noncomputable def j7g:List D->Option (List (List Int))
 |[]=>ae []
 |d::ds=>match tupI d,j7g ds with
  |some k,ae ks=>ae (k::ks)
  |_,_=>ah
noncomputable def prI:D->Option (Int×List Int)
 |.tup [.int a,d]=>(tupI d).map λk=>(a,k)
 |_=>ah
noncomputable def jc0:List D->Option (List (Int×List Int))
 |[]=>ae []
 |d::ds=>match prI d,jc0 ds with
  |some k,ae ks=>ae (k::ks)
  |_,_=>ah
noncomputable def Rc.lv:Rc->Option W
 |.lval d=>ae (.v (.e d))
 |_=>ah
noncomputable def Vv(w:Option W):Option W:=match w with
 |some (.a rs)=>if rs.length<=1000 then(v7 rs).map λys=>.v (.e (.str (Mu cH ys)))else ah
 |_=>ah
noncomputable def Cd(w:Option W):Option W:=match w with
 |some (.v x)=>match x.d with
  |.str y=>if y.length<=100000/\je (aA y " ").length=ag then ae (.v (.o ((aA y " ").map D.str)))else ah
  |_=>ah
 |_=>ah
noncomputable def Dy(w:Option W):Option W:=match w with
 |some (.v x)=>match x.d with
  |.int i=>if -18446744073709551616<i/\i<18446744073709551616 then ae (.v (.e (.str (aT (toString i)))))else ah
  |_=>ah
 |_=>ah
noncomputable def jhs(w:Option W):Option W:=match w with
 |some (.v x)=>match x.d with
  |.str y=>if y.length<=1000 then ae (.v (.e (.str (PySem.Txt.upper y))))else ah
  |_=>ah
 |_=>ah
noncomputable def Oe(s:Option Sv):Option W:=match s with
 |some (.val d)=>ae (.v (.e d))
 |some (.own l)=>ae (.v (.w l))
 |_=>ah
noncomputable def blW(i:Option Bool):Option W:=i.map λk=>.v (.e (.bl k))
noncomputable def rkW(r:Option Rk):Option W:=r.map .v
noncomputable def Zt(op:Bop)(a b:Option W):Option W:=match a,b with
 |some (.v x),ae (.v y)=>rkW (W2 op x y)
 |_,_=>ah
noncomputable def Le(a:Option W):Option W:=match a with
 |some (.v x)=>match x.d with
  |.int i=>ae (.v (.e (.int (-i))))
  |_=>ah
 |_=>ah
noncomputable def Br(op:Cop)(a b:Option W):Option W:=match a,b with
 |some (.v x),ae (.v y)=>blW (zj op x.d y.d)
 |_,_=>ah
noncomputable def consW(a b:Option W):Option W:=match a,b with
 |some (.v x),ae (.a xs)=>ae (.a (x::xs))
 |_,_=>ah
noncomputable def Vs(a:Option W):Option W:=match a with
 |some (.a rs)=>match zg rs with
  |some ds=>if je ds.length=ag then ae (.v (.e (.tup ds)))else ah
  |none=>ah
 |_=>ah
noncomputable def Q4(a:Option W):Option W:=match a with
 |some (.a rs)=>match zg rs with
  |some ds=>if je ds.length=ag then ae (.v (.o ds))else ah
  |none=>ah
 |_=>ah
noncomputable def ixW(a b:Option W):Option W:=match a,b with
 |some (.v x),ae (.v y)=>match x.sq,y.d with
  |some (_,l),.int i=>(atI l i).map λd=>.v (.e d)
  |none,.int i=>match x.d with
   |.str z=>if je z.length=ag then(atI z.cps.toList i).map λc=>.v (.e (.str ⟨#[c]⟩))else ah
   |_=>ah
  |_,_=>ah
 |_,_=>ah
noncomputable def Jl(sep:ao)(a:Option W):Option W:=match a with
 |some (.v x)=>match x.d with
  |.lst l=>match strsOf l with
   |some ts=>if bq sep ts=ag then ae (.v (.e (.str (bF sep ts))))else ah
   |none=>ah
  |_=>ah
 |_=>ah
noncomputable def jgb(a:Option W):Option W:=match a with
 |some (.v y)=>match y.d with
  |.int n=>if 0<=n/\n<=1000000 then ae (.v (.o ((aS n.toNat).map λ(i:Nat)=>D.int (i:Int))))else ah
  |_=>ah
 |_=>ah
noncomputable def Jy(Γ:ao->List D->Rc)(f:ao)(a:Option W):Option W:=match a with
 |some (.a rs)=>match zg rs with
  |some ds=>rkW (Γ f ds).rk
  |none=>match Γ f (rs.map Rk.d) with
   |.val d=>ae (.v (.t d))
   |.fresh l=>if qi l=ag then ae (.v (.o l))else ah
   |_=>ah
 |_=>ah
noncomputable def vg(f:Bf)(a:Option W):Option W:=match a with
 |some (.a rs)=>rkW (Z1 f rs)
 |_=>ah
noncomputable def Be(a:Option W)(ts:List String):Option W:=match a with
 |some (.v x)=>blW (jz x.d ts)
 |_=>ah
noncomputable def Yo(a:Option W):Option W:=match a with
 |some (.v (.e (.lst l)))=>ae (.i l)
 |some (.v (.e (.tup l)))=>ae (.i l)
 |some (.v (.o l))=>ae (.i l)
 |some (.v (.e (.str y)))=>if ascii y=ag then ae (.i (chs y))else ah
 |_=>ah
noncomputable def Up(a:Option W):Option W:=match a with
 |some (.a [x])=>match x.d with
  |.int n=>if -(2^62)<=n/\n<2^62 then ae (.i (upto 0 n.toNat))else ah
  |_=>ah
 |some (.a [x,y])=>match x.d,y.d with
  |.int m,.int n=>if -(2^62)<=m/\m<2^62/\-(2^62)<=n/\n<2^62 then ae (.i (upto m (n-m).toNat))else ah
  |_,_=>ah
 |_=>ah
noncomputable def jiu(a b:Option W):Option W:=match a,b with
 |some (.v x),ae (.v y)=>match x.d,y.d with
  |.tup l,.dct ks _=>(intsOf l).map λk=>.v (.e (.bl (ks.contains k)))
  |_,_=>ah
 |_,_=>ah
noncomputable def jdc(a:Option W):Option W:=match a with
 |some (.v (.e (.dct ks ds)))=>ae (.i (jdd ks ds))
 |_=>ah
noncomputable def jh5(a b:Option W):Option W:=match a,b with
 |some (.v x),ae (.v y)=>match x.st.bind D.sqv,y.st.bind D.sqv with
  |some (_,l),ae (_,m)=>match strsOf l,intsOf m with
   |some ks,ae ns=>if ks.Nodup/\ks.length=ns.length/\je ks.length=ag then ae (.v (.e (.sct (ks.zip ns))))else ah
   |_,_=>ah
  |_,_=>ah
 |_,_=>ah
noncomputable def jiy(a b c:Option W):Option W:=match a,b,c with
 |some (.v x),ae (.v y),ae (.v z)=>match x.d,y.d,z.d with
  |.int i,.int j,.int k=>ae (.v (.e (.bl (decide (i<=j)&&decide (j<=k)))))
  |_,_,_=>ah
 |_,_,_=>ah
noncomputable def jga(a:Option W):Option W:=match a with
 |some (.v x)=>match x.d with
  |.lst l=>match intsOf l with
   |some ns=>ae (.v (.e (.int (Yp ns))))
   |none=>ah
  |_=>ah
 |_=>ah
noncomputable def jix(a b c:Option W):Option W:=match a,b,c with
 |some (.v x),ae (.v y),ae (.v z)=>match x.d,y.d,z.d with
  |.int i,.int j,.int k=>ae (.v (.e (.bl (decide (i<j)&&decide (j<k)))))
  |_,_,_=>ah
 |_,_,_=>ah
noncomputable def jep(Γ:ao->List D->Rc)(s:Option Sv)(a:Option W):Option W:=match s,a with
 |some (.val (.fn x cs)),ae (.a rs)=>match zg rs with
  |some ds=>if Vk ds=ag then(Γ (zb x) (cs++ds)).lv else ah
  |none=>ah
 |_,_=>ah
noncomputable def jh7(a b:Option W):Option W:=match a,b with
 |some (.v (.e (.dct ks ds))),ae (.v y)=>match tupI y.d with
  |some k=>(j82 ks ds k).map λd=>.v (.e d)
  |none=>ah
 |_,_=>ah
noncomputable def je9(a:Option W):Option W:=match a with
 |some (.v (.e (.dct _ ds)))=>ae (.v (.e (.tup ds)))
 |_=>ah
noncomputable def jg7(a:Option W):Option W:=match a with
 |some (.v x)=>match x.d with
  |.lst l=>match j7g l with
   |some ks=>(ks[iz (jgd ks) (ks.length-1)]?).map λk=>.v (.t (.tup (k.map D.int)))
   |none=>match jc0 l with
    |some ps=>(ps[iz (jii ps) (ps.length-1)]?).map λk=>.v (.t (pairD k))
    |none=>ah
  |_=>ah
 |_=>ah
noncomputable def jit(a b:Option W):Option W:=match a,b with
 |some (.v x),ae (.v y)=>match x.d,y.d with
  |.sct kvs,.str k=>(jis kvs k).map λn=>.v (.e (.int n))
  |_,_=>ah
 |_,_=>ah
noncomputable def ev(Γ:ao->List D->Rc)(G:ao->Option D):Ex->En->Option W
 |.lit d,_=>ae (.v (.e d))
 |.var i,ρ=>Oe ρ[i]?
 |.glob x,_=>(G x).map λd=>.v (.e d)
 |.bin op a b,ρ=>Zt op (ev Γ G a ρ) (ev Γ G b ρ)
 |.neg a,ρ=>Le (ev Γ G a ρ)
 |.cmp op a b,ρ=>Br op (ev Γ G a ρ) (ev Γ G b ρ)
 |.isN a,ρ=>match ev Γ G a ρ with
  |some (.v x)=>ae (.v (.e (.bl x.d.isNon)))
  |_=>ah
 |.and a b,ρ=>match truth (ev Γ G a ρ) with
  |some af=>ae (.v (.e (.bl af)))
  |some ag=>(truth (ev Γ G b ρ)).map λk=>.v (.e (.bl k))
  |none=>ah
 |.or a b,ρ=>match truth (ev Γ G a ρ) with
  |some ag=>ae (.v (.e (.bl ag)))
  |some af=>(truth (ev Γ G b ρ)).map λk=>.v (.e (.bl k))
  |none=>ah
 |.not a,ρ=>(truth (ev Γ G a ρ)).map λk=>.v (.e (.bl (!k)))
 |.ite c a b,ρ=>match truth (ev Γ G c ρ) with
  |some ag=>match ev Γ G a ρ with
   |some (.v x)=>x.st.map λd=>.v (.e d)
   |_=>ah
  |some af=>match ev Γ G b ρ with
   |some (.v x)=>x.st.map λd=>.v (.e d)
   |_=>ah
  |none=>ah
 |.nil,_=>ae (.a [])
 |.cons a b,ρ=>consW (ev Γ G a ρ) (ev Γ G b ρ)
 |.tup es,ρ=>Vs (ev Γ G es ρ)
 |.lst es,ρ=>Q4 (ev Γ G es ρ)
 |.ix a b,ρ=>ixW (ev Γ G a ρ) (ev Γ G b ρ)
 |.sl a lo hi,ρ=>match ev Γ G a ρ,Jt (ev Γ G lo ρ),Jt (ev Γ G hi ρ) with
  |some (.v x),ae l,ae h=>match x.sq with
   |some (ag,ds)=>ae (.v (.o (cutD ds l h)))
   |some (af,ds)=>if HT.sIx ds.length 0 l=0/\HT.sIx ds.length ds.length h=ds.length then ah else ae (.v (.e (.tup (cutD ds l h))))
   |none=>match x.d with
    |.str z=>if je z.length=ag then ae (.v (.e (.str (bJ z l h))))else ah
    |_=>ah
  |_,_,_=>ah
 |.call f es,ρ=>Jy Γ f (ev Γ G es ρ)
 |.blt f es,ρ=>vg f (ev Γ G es ρ)
 |.isi a ts,ρ=>Be (ev Γ G a ρ) ts
 |.comp is elt it cond,ρ=>match ev Γ G it (frz it ρ) with
  |some (.i ds)=>if Dl is (frz it ρ)=ag/\je ds.length=ag then
    (Jd (λd=>match zm is d (frz it ρ) with
     |none=>ah
     |some ρ2=>match ev Γ G cond ρ2 with
      |some (.a [])=>match ev Γ G elt ρ2 with
       |some (.v x)=>x.st.map ae
       |_=>ah
      |some (.a [y])=>match y.d with
       |.bl ag=>match ev Γ G elt ρ2 with
        |some (.v x)=>x.st.map ae
        |_=>ah
       |.bl af=>ae ah
       |_=>ah
      |_=>ah) ds).bind λl=>if (J1 it ρ && !qi l)=ag then ah else ae (.v (.o l))
   else ah
  |_=>ah
 |.seq a,ρ=>Yo (ev Γ G a ρ)
 |.chn a b c,ρ=>jix (ev Γ G a ρ) (ev Γ G b ρ) (ev Γ G c ρ)
 |.che a b c,ρ=>jiy (ev Γ G a ρ) (ev Γ G b ρ) (ev Γ G c ρ)
 |.maxD a,ρ=>jga (ev Γ G a ρ)
 |.range es,ρ=>Up (ev Γ G es ρ)
 |.fst es,ρ=>Vv (ev Γ G es ρ)
 |.isx i cs,ρ=>match ρ[i]?,G "?" with
  |some (.exc x),ae (.bl ag)=>if qe.contains x=ag then ae (.v (.e (.bl (cs.any λc=>c == "ValueError" || x==c))))else ah
  |_,_=>ah
 |.join sep a,ρ=>Jl sep (ev Γ G a ρ)
 |.dzip a b,ρ=>jh5 (ev Γ G a ρ) (ev Γ G b ρ)
 |.callD f es,ρ=>match ev Γ G es ρ with
  |some (.a rs)=>match zg rs with
   |some ds=>match Γ f (ds++[.non]) with
    |.val d=>ae (.v (.e d))
    |_=>ah
   |none=>ah
  |_=>ah
 |.callK f es a,ρ=>match ev Γ G es ρ,ev Γ G a ρ with
  |some (.a rs),ae (.v x)=>match zg rs,x.st with
   |some ds,ae d'=>match Γ f (ds++[d']) with
    |.val d=>ae (.v (.e d))
    |_=>ah
   |_,_=>ah
  |_,_=>ah
 |.dix a b,ρ=>jit (ev Γ G a ρ) (ev Γ G b ρ)
 |.dnil,_=>ae (.v (.e (.sct [])))
 |.rpr a,ρ=>match ev Γ G a ρ with
  |some (.v x)=>match x.d with
   |.str y=>if (aI y).length<=2000 then ae (.v (.e (.str (aI y))))else ah
   |_=>ah
  |_=>ah
 |.upr a,ρ=>jhs (ev Γ G a ρ)
 |.spl a,ρ=>Cd (ev Γ G a ρ)
 |.sti a,ρ=>Dy (ev Γ G a ρ)
 |.lrng a,ρ=>jgb (ev Γ G a ρ)
 |.din a b,ρ=>jiu (ev Γ G a ρ) (ev Γ G b ρ)
 |.items a,ρ=>jdc (ev Γ G a ρ)
 |.callV i es,ρ=>jep Γ ρ[i]? (ev Γ G es ρ)
 |.dget a b,ρ=>jh7 (ev Γ G a ρ) (ev Γ G b ρ)
 |.dvals a,ρ=>je9 (ev Γ G a ρ)
 |.minT a,ρ=>jg7 (ev Γ G a ρ)
section
variable{Γ:ao->List D->Rc}{G:ao->Option D}{ρ:En}
theorem Od{d}:ev Γ G (.lit d) ρ=(ae (.v (.e d))):=(rfl)
theorem jhb{i}:ev Γ G (.var i) ρ=(Oe ρ[i]?):=(rfl)
theorem jex{x}:ev Γ G (.glob x) ρ=((G x).map λd=>.v (.e d)):=(rfl)
theorem jhm{op a b}:ev Γ G (.bin op a b) ρ=(Zt op (ev Γ G a ρ) (ev Γ G b ρ)):=(rfl)
theorem jhi{a}:ev Γ G (.neg a) ρ=(Le (ev Γ G a ρ)):=(rfl)
theorem j88{op a b}:ev Γ G (.cmp op a b) ρ=(Br op (ev Γ G a ρ) (ev Γ G b ρ)):=(rfl)
theorem j87{a}:ev Γ G (.isN a) ρ=(match ev Γ G a ρ with
  |some (.v x)=>ae (.v (.e (.bl x.d.isNon)))
  |_=>ah):=(rfl)
theorem jhn{a b}:ev Γ G (.and a b) ρ=(match truth (ev Γ G a ρ) with
  |some af=>ae (.v (.e (.bl af)))
  |some ag=>(truth (ev Γ G b ρ)).map λk=>.v (.e (.bl k))
  |none=>ah):=(rfl)
theorem jj3{a b}:ev Γ G (.or a b) ρ=(match truth (ev Γ G a ρ) with
  |some ag=>ae (.v (.e (.bl ag)))
  |some af=>(truth (ev Γ G b ρ)).map λk=>.v (.e (.bl k))
  |none=>ah):=(rfl)
theorem jhh{a}:ev Γ G (.not a) ρ=((truth (ev Γ G a ρ)).map λk=>.v (.e (.bl (!k)))):=(rfl)
theorem jhk{c a b}:ev Γ G (.ite c a b) ρ=(match truth (ev Γ G c ρ) with
  |some ag=>match ev Γ G a ρ with
   |some (.v x)=>x.st.map λd=>.v (.e d)
   |_=>ah
  |some af=>match ev Γ G b ρ with
   |some (.v x)=>x.st.map λd=>.v (.e d)
   |_=>ah
  |none=>ah):=(rfl)
theorem U9:ev Γ G (.nil) ρ=(ae (.a [])):=(rfl)
theorem Yi{a b}:ev Γ G (.cons a b) ρ=(consW (ev Γ G a ρ) (ev Γ G b ρ)):=(rfl)
theorem jhc{es}:ev Γ G (.tup es) ρ=(Vs (ev Γ G es ρ)):=(rfl)
theorem jhj{es}:ev Γ G (.lst es) ρ=(Q4 (ev Γ G es ρ)):=(rfl)
theorem jj4{a b}:ev Γ G (.ix a b) ρ=(ixW (ev Γ G a ρ) (ev Γ G b ρ)):=(rfl)
theorem jj2{a lo hi}:ev Γ G (.sl a lo hi) ρ=(match ev Γ G a ρ,Jt (ev Γ G lo ρ),Jt (ev Γ G hi ρ) with
  |some (.v x),ae l,ae h=>match x.sq with
   |some (ag,ds)=>ae (.v (.o (cutD ds l h)))
   |some (af,ds)=>if HT.sIx ds.length 0 l=0/\HT.sIx ds.length ds.length h=ds.length then ah else ae (.v (.e (.tup (cutD ds l h))))
   |none=>match x.d with
    |.str z=>if je z.length=ag then ae (.v (.e (.str (bJ z l h))))else ah
    |_=>ah
  |_,_,_=>ah):=(rfl)
theorem jez{f es}:ev Γ G (.call f es) ρ=(Jy Γ f (ev Γ G es ρ)):=(rfl)
theorem Wo{f es}:ev Γ G (.blt f es) ρ=(vg f (ev Γ G es ρ)):=(rfl)
theorem j86{a ts}:ev Γ G (.isi a ts) ρ=(Be (ev Γ G a ρ) ts):=(rfl)
theorem jey{is elt it cond}:ev Γ G (.comp is elt it cond) ρ=(match ev Γ G it (frz it ρ) with
  |some (.i ds)=>if Dl is (frz it ρ)=ag/\je ds.length=ag then
    (Jd (λd=>match zm is d (frz it ρ) with
     |none=>ah
     |some ρ2=>match ev Γ G cond ρ2 with
      |some (.a [])=>match ev Γ G elt ρ2 with
       |some (.v x)=>x.st.map ae
       |_=>ah
      |some (.a [y])=>match y.d with
       |.bl ag=>match ev Γ G elt ρ2 with
        |some (.v x)=>x.st.map ae
        |_=>ah
       |.bl af=>ae ah
       |_=>ah
      |_=>ah) ds).bind λl=>if (J1 it ρ && !qi l)=ag then ah else ae (.v (.o l))
   else ah
  |_=>ah):=(rfl)
theorem jhf{a}:ev Γ G (.seq a) ρ=(Yo (ev Γ G a ρ)):=(rfl)
theorem jax{es}:ev Γ G (.range es) ρ=(Up (ev Γ G es ρ)):=(rfl)
theorem jhl{es}:ev Γ G (.fst es) ρ=(Vv (ev Γ G es ρ)):=(rfl)
theorem j85 {i cs}:ev Γ G (.isx i cs) ρ=(match ρ[i]?,G "?" with
  |some (.exc x),ae (.bl ag)=>if qe.contains x=ag then ae (.v (.e (.bl (cs.any λc=>c == "ValueError" || x==c))))else ah
  |_,_=>ah):=(rfl)
theorem jew{sep a}:ev Γ G (.join sep a) ρ=(Jl sep (ev Γ G a ρ)):=(rfl)
theorem jhg{a}:ev Γ G (.rpr a) ρ=(match ev Γ G a ρ with
  |some (.v x)=>match x.d with
   |.str y=>if (aI y).length<=2000 then ae (.v (.e (.str (aI y))))else ah
   |_=>ah
  |_=>ah):=(rfl)
theorem jhe{a}:ev Γ G (.spl a) ρ=(Cd (ev Γ G a ρ)):=(rfl)
theorem jhd{a}:ev Γ G (.sti a) ρ=(Dy (ev Γ G a ρ)):=(rfl)
end
noncomputable def er(Γ:ao->List D->Rc)(G:ao->Option D):Ex->En->Option ao
 |.call f es,ρ=>match er Γ G es ρ with
  |some x=>if (G (qm f)).isSome=ag then ae x else ah
  |none=>match ev Γ G es ρ with
   |some (.a rs)=>match Γ f (rs.map Rk.d) with
    |.err x=>if (G (bang x)).isSome=ag then ae x else ah
    |_=>ah
   |_=>ah
 |.cons a b,ρ=>match er Γ G a ρ with
  |some x=>ae x
  |none=>match ev Γ G a ρ with
   |some (.v _)=>er Γ G b ρ
   |_=>ah
 |.ix a _,ρ=>er Γ G a ρ
 |.dzip a b,ρ=>match er Γ G a ρ with
  |some x=>ae x
  |none=>match ev Γ G a ρ with
   |some (.v _)=>er Γ G b ρ
   |_=>ah
 |_,_=>ah
end L2
end
section
namespace L2
open PySem PySem.Spec PyProof.Rows
def DM(X:Cx)(ρ:Rho)(e:ar)(s:Bool)(ds:List D):Prop:=∀σ H Q,Rep X.K ρ σ H->(∀a xs H',j4 H H'->SqB X.K s H' a xs->j6 X.K (del H' (owns ρ)) ds xs->Q (.ref a) H')->Jk X e σ H Q
section
variable{X:Cx}{ρ:Rho}{e a b c:ar}{es:List ar}{d:D}{ds ds':List D}{i j:Int}{pos p p2:aQ}{k:Nat}{x:ao}{s:Bool}
theorem jfl{K:k5k}{H:Hp}{a:ak}{xs:List V}(h:SqL K H a xs):SqB K ag H a xs:=by unfold SqB;rw[if_pos rfl];exact h
theorem Vz{K:k5k}{H:Hp}{a:ak}{xs:List V}(h:SqB K ag H a xs):SqL K H a xs:=by unfold SqB at h;rw[if_pos rfl]at h;exact h
theorem Jp{K:k5k}{H:Hp}{a:ak}{xs:List V}(h:SqB K af H a xs):SqT K H a xs:=by unfold SqB at h;rw[if_neg xx]at h;exact h
theorem DE.toM(h:DE X ρ e (D.seq s ds)):DM X ρ e s ds:=λσ H Q R q=>h σ H Q R λv H1 g1 e1=>by obtain⟨t,xs,ev,sq,en⟩:=V4 e1;subst ev;exact q t xs H1 g1 (qb.seqB sq) en
theorem DL.toM(h:DL X ρ e ds):DM X ρ e ag ds:=λσ H Q R q=>h σ H Q R λt xs H1 g1 m en=>q t xs H1 g1 (jfl (.inl (.inl m))) en
theorem DO.toM(h:DO X ρ e ds):DM X ρ e ag ds:=h.toL.toM
def Has(X:Cx)(ρ:Rho)(e:ar):Rk->Prop
 |.e d=>DE X ρ e d
 |.o l=>DO X ρ e l
 |.w l=>DL X ρ e l
 |.t d=>DT X ρ e d
theorem Has.toT:∀{r:Rk},Has X ρ e r->DT X ρ e r.d
 |.e _,h=>DE.toT h
 |.o _,h=>DL.toT (DO.toL h)
 |.w _,h=>DL.toT h
 |.t _,h=>h
theorem Has.toE:∀{r:Rk}{d:D},Has X ρ e r->r.st=ae d->DE X ρ e d
 |.e _,_,h,q=>by cases q;exact h
 |.o _,_,h,q=>by cases q;exact DO.toE h
 |.w _,_,h,q=>by cases q
 |.t d',d,h,q=>by
  have q:(if vy d'=ag then ae d' else ah)=ae d:=q;by_cases z:vy d'=ag
  .rw[if_pos z]at q;cases q;exact DT.toE h z
  .rw[if_neg z]at q;cases q
theorem Has.toM:∀{r:Rk}{s:Bool}{l:List D},Has X ρ e r->r.sq=ae (s,l)->DM X ρ e s l
 |.e (.lst l),_,_,h,q=>by cases q;exact DE.toM (s:=ag) h
 |.e (.tup l),_,_,h,q=>by cases q;exact DE.toM (s:=af) h
 |.e .non,_,_,_,q=>by cases q
 |.e (.bl _),_,_,_,q=>by cases q
 |.e (.int _),_,_,_,q=>by cases q
 |.e (.str _),_,_,_,q=>by cases q
 |.o l,_,_,h,q=>by cases q;exact DO.toM h
 |.w l,_,_,h,q=>by cases q;exact DL.toM h
 |.t _,_,_,_,q=>by cases q
theorem j9c:OpR X (aZ .Add) (λx y H Q=>∃l b xs zs,x=.ref l/\y=.ref b/\SqL X.K H l xs/\SqL X.K H b zs/\xs.length+zs.length<=aw/\∀p,H p=ah->Q (.ref p) (upd H p (.lst (xs++zs)))):=by
 intro pins s σ H x y v u Q I rx ry h;obtain⟨l,b,xs,zs,e1,e2,hH,hB,hz,q⟩:=h;subst e1 e2;cases rx;cases ry;obtain⟨us,ru,⟨⟨c1,d1,f1,g1⟩,n1,h1,k1,w1,m1⟩,_⟩:=I.list hH;obtain⟨vs,rv,⟨⟨c2,d2,f2,g2⟩,n2,h2,k2,w2,m2⟩,_⟩:=I.list hB;have k1:c1=.type "list":=k1;have m1:f1=.seq us.toArray n1:=m1;have k2:c2=.type "list":=k2;have m2:f2=.seq vs.toArray n2:=m2;subst k1 m1 k2 m2;have l1:=ru.length;have l2:=rv.length;have ea:us.toArray++vs.toArray=(us++vs).toArray:=by simp
 refine eO ⟨_,h1,rfl⟩ ⟨_,h2,rfl⟩ noFill_list_add seq_list_add PySem.F.slot_list_add PySem.F.entry_list_add (PySem.F.args_list_add_2 _ _)
  (list_addW l b us.toArray vs.toArray n1 n2 d1 d2 g1 g2 (by rw[X3,X3,<-l1,<-l2];exact hz)) ⟨h1,h2,?_⟩
 rw[ea];exact⟨.ref _,_,I.lnew (t':=s.toks) (ru.append rv) (by rw[X7];exact hz),rfl,q _ I.fresh⟩
theorem DO.catM(ha:DM X ρ a ag ds)(hb:DM X ρ b ag ds')(hl:ds.length+ds'.length<=aw):DO X ρ (.BinOp a .Add b pos) (ds++ds'):=λσ H Q R q =>
 (Zv j9c peS peS).to (ha σ H _ R λl xs H1 g1 s1 e1=>hb σ H1 _ (R.grow g1) λl' ys H2 g2 s2 e2 =>
  ⟨l,l',xs,ys,rfl,rfl,g2.seq (Vz s1),Vz s2,by rw[e1.length,e2.length];exact hl,λp hp=>q p _ _ ((g1.trans g2).trans (j8 hp)) ((g1.trans g2).free hp) jm (Yx hp ((e1.mono (jf g2)).append e2))⟩)
theorem DE.catTM(ha:DM X ρ a af ds)(hb:DM X ρ b af ds')(hl:ds.length+ds'.length<=aw):DE X ρ (.BinOp a .Add b pos) (.tup (ds++ds')):=λσ H Q R q =>
 (Zv j5k peS peS).to (ha σ H _ R λt xs H1 g1 sq l=>hb σ H1 _ (R.grow g1) λt' ys H2 g2 sq' l'=>by
  have l2:=l.mono (jf g2)
  have enT:∀{t:ak}{xs:List V}{ds:List D},SqT X.K H2 t xs->j6 X.K (del H2 (owns ρ)) ds xs->Enc X.K (del H2 (owns ρ)) (.tup ds) (.ref t):=λ{t xs ds} sq l=>by
   refine⟨t,xs,rfl,?_,l⟩
   have ow:=(R.grow (g1.trans g2)).owned
   have out:∀{o:HO},H2 t=ae o->(∀zs,o≠.lst zs)->del H2 (owns ρ) t=ae o:=λ{o} h z=>by
    rw[j5];exact h
    intro y;obtain⟨zs,e'⟩:=ow t y;rw[h]at e';cases e';exact z zs rfl
   rcases sq with (h|⟨o,h⟩)|h
   .exact .inl (.inl (out h λ_ z=>by cases z))
   .exact .inl (.inr ⟨o,out h λ_ z=>by cases z⟩)
   .exact .inr h
  refine⟨t,t',xs,ys,rfl,rfl,g2.seqT (Jp sq),Jp sq',by rw[l.length,l'.length];exact hl,λh=>?_,λh h'=>?_,λh h' p hp=>?_⟩
  .subst h
   cases ds with
   |nil=>exact q _ H2 (g1.trans g2) (enT (Jp sq') l')
   |cons _ _=>have:=l.length;cases this
  .subst h'
   cases ds' with
   |nil=>exact q _ H2 (g1.trans g2) (by rw[Xk];exact enT (g2.seqT (Jp sq)) l2)
   |cons _ _=>have:=l'.length;cases this
  .have np:p∉owns ρ:=(R.grow (g1.trans g2)).fresh hp
   exact q _ _ ((g1.trans g2).trans (j8 hp)) ⟨p,xs++ys,rfl,.inl (.inl (by rw[j5 np];exact jm)),(l2.append l').mono (jf (j8 hp))⟩)
theorem DE.ixM(ha:DM X ρ a s ds)(hb:DT X ρ b (.int i))(h:L2.atI ds i=ae d)(hs:Wq b):DE X ρ (.Subscript a b pos) d:=by
 cases s with
 |true=>exact λσ H Q R q=>(Mm Eg peS peS hs).to (ha σ H _ R λl xs H1 g1 sq en=>hb σ H1 _ (R.grow g1) λu H2 g2 e2=>by
   obtain⟨y,hy,ey⟩:=en.atI h
   exact⟨l,xs,i,y,rfl,e2,g2.seq (Vz sq),hy,q y H2 (g1.trans g2) (ey.mono (jf g2))⟩)
 |false=>exact λσ H Q R q=>(Mm j35 peS peS hs).to (ha σ H _ R λl xs H1 g1 sq en=>hb σ H1 _ (R.grow g1) λu H2 g2 e2=>by
   obtain⟨y,hy,ey⟩:=en.atI h
   exact⟨l,xs,i,y,rfl,e2,g2.seqT (Jp sq),hy,q y H2 (g1.trans g2) (ey.mono (jf g2))⟩)
variable{lo hi:Option ar}{l u:Option Int}
theorem DO.sliceM(ha:DM X ρ a ag ds)(hl:DP X ρ lo l)(hu:DP X ρ hi u):DO X ρ (.Subscript a (.Slice lo hi ah p2) pos) (cutD ds l u):=λσ H Q R q =>
 (Ri j8l peS poS poS).to (ha σ H _ R λt xs H1 g1 sq en=>hl σ H1 _ (R.grow g1) λH2 g2=>hu σ H2 _ (R.grow (g1.trans g2)) λH3 g3=>⟨t,xs,rfl,(g2.trans g3).seq (Vz sq),λp hp =>
  q p _ _ ((g1.trans (g2.trans g3)).trans (j8 hp)) ((g1.trans (g2.trans g3)).free hp) jm (Yx hp ((en.mono (jf (g2.trans g3))).cut l u))⟩)
theorem DE.sliceM(ha:DM X ρ a af ds)(hl:DP X ρ lo l)(hu:DP X ρ hi u)(hw:¬(HT.sIx ds.length 0 l=0/\HT.sIx ds.length ds.length u=ds.length)):DE X ρ (.Subscript a (.Slice lo hi ah p2) pos) (.tup (cutD ds l u)):=λσ H Q R q =>
 (Ri jbb peS poS poS).to (ha σ H _ R λt xs H1 g1 sq en=>hl σ H1 _ (R.grow g1) λH2 g2=>hu σ H2 _ (R.grow (g1.trans g2)) λH3 g3=>⟨t,xs,rfl,(g2.trans g3).seqT (Jp sq),by rw[en.length];exact hw,λp hp =>
  q _ _ ((g1.trans (g2.trans g3)).trans (j8 hp)) ⟨p,_,rfl,.inl (.inl (by rw[j5 ((R.grow (g1.trans (g2.trans g3))).fresh hp)];exact jm)),((en.mono (jf (g2.trans g3))).cut l u).mono (jf (j8 hp))⟩⟩)
theorem DE.tupM (ha:DM X ρ a s ds) (hm:X.mg "tuple" = ah) (hg:Gl X "tuple") (hs:ai [a] X.env=[(af,aH a X.env)]):DE X ρ (.Call (.Name "tuple" p) [a] [] pos) (.tup ds):=λσ H Q R q =>
 (Zf Fw hg hm boot_tuple (j9 peS ju hs) (by decide) (by decide) hs).to (ha σ H _ R λl xs H1 g1 sq en=>by
  cases s with
  |true =>
   refine⟨l,xs,rfl,.inl ⟨Vz sq,λt ht=>?_⟩⟩
   have nt:t∉owns ρ:=(R.grow g1).fresh ht
   exact q _ _ (g1.trans (j8 ht)) ⟨t,xs,rfl,.inl (.inl (by rw[j5 nt];exact jm)),en.mono (jf (j8 ht))⟩
  |false =>
   refine⟨l,xs,rfl,.inr ⟨Jp sq,?_⟩⟩
   refine q _ _ g1 ⟨l,xs,rfl,?_,en⟩
   have ow:=(R.grow g1).owned
   have out:∀{o:HO},H1 l=ae o->(∀zs,o≠.lst zs)->del H1 (owns ρ) l=ae o:=λ{o} h z=>by
    rw[j5];exact h
    intro y;obtain⟨zs,e'⟩:=ow l y;rw[h]at e';cases e';exact z zs rfl
   rcases Jp sq with (h|⟨o,h⟩)|h
   .exact .inl (.inl (out h λ_ z=>by cases z))
   .exact .inl (.inr ⟨o,out h λ_ z=>by cases z⟩)
   .exact .inr h)
theorem DO.listM (ha:DM X ρ a s ds) (hm:X.mg "list" = ah) (hg:Gl X "list") (hs:ai [a] X.env=[(af,aH a X.env)]):DO X ρ (.Call (.Name "list" p) [a] [] pos) ds:=λσ H Q R q =>
 (Zf Ke hg hm boot_list (j9 peS ju hs) (by decide) (by decide) hs).to (ha σ H _ R λl xs H1 g1 sq en =>
  ⟨l,xs,rfl,(by cases s with|true=>exact .inl (Vz sq)|false=>exact .inr (Jp sq)),λp hp=>q p _ _ (g1.trans (j8 hp)) (g1.free hp) jm (Yx hp en)⟩)
end
theorem Ox:fillsNumberSlot (.type "tuple") "mul" = pure af :=
 PySem.fillsNumberSlot_seq (id:="tuple.__mul__") (r:=ae (.builtin "tuple.__rmul__")) PySem.F.slot_tuple_mul.lookup (by decide +kernel) PySem.F.slot_tuple_rmul.lookup (by decide +kernel)
theorem j8x:seqRepeat? (.type "tuple")=pure (ae (.builtin "tuple.__mul__")):=by
 unfold seqRepeat?;rw[gy (T:="tuple") (name:="__mul__") (id:="tuple.__mul__") PySem.F.slot_tuple_mul.lookup (by decide +kernel),
  gy (T:="tuple") (name:="__rmul__") (id:="tuple.__rmul__") PySem.F.slot_tuple_rmul.lookup (by decide +kernel)]
 rfl
section
variable(a:Int)(t:ib)(l:ak)(its:Array aj)(n:Nat)(d1:Option ak)(sl:Array (Option aj))
theorem Lq:Meets (fx.«int.__rmul__» ⟨[.int a t,.ref l],[]⟩) (λ_ R s=>s.heap.get? l=ae ⟨.type "tuple",d1,.seq its n,sl⟩/\R (.ok (.ret Value.notImplemented)) s) :=
 .of_wp λ_ _ _ _ s h=>by
  obtain⟨_,_,_,_,_⟩:=s;obtain⟨hl,h⟩:=h
  wp_walk
  exact⟨_,rfl,h⟩
theorem j4k:Meets (fx.«tuple.__mul__» ⟨[.ref l,.int 1 t],[]⟩) (λ_ R s=>s.heap.get? l=ae ⟨.type "tuple",d1,.seq its n,sl⟩/\R (.ok (.ret (.ref l))) s) :=
 .of_wp λ_ _ _ _ s h=>by
  obtain⟨_,_,_,_,_⟩:=s;obtain⟨hl,h⟩:=h
  wp_walk
  exact⟨_,rfl,h⟩
theorem j4j(h0:its.isEmpty=af)(h1:1<a)(h2:a<2^63)(hz:its.size*a.toNat<=aw) :
  Meets (fx.«tuple.__mul__» ⟨[.ref l,.int a t],[]⟩) (λ_ R s=>s.heap.get? l=ae ⟨.type "tuple",d1,.seq its n,sl⟩ /\
   R (.ok (.ret (.ref s.heap.objs.size))) { s with heap:=s.heap.push { cls:=.type "tuple",data:=.seq (cf (λx y=>x++y) #[] (ax a.toNat its)) } }) :=
 .of_wp λ_ _ _ _ s h=>by
  obtain⟨_,_,_,_,_⟩:=s;obtain⟨hl,h⟩:=h;have c1:(decide (a < -2^63) || decide (a>=2^63))=af:=by rw[decide_eq_false nofun,decide_eq_false nofun];rfl
  have c2:(its.isEmpty || a==1)=af:=by rw[h0,beq_eq_false_iff_ne.mpr nofun];rfl
  have c3:(decide (a<=0) || its.isEmpty)=af:=by rw[h0,decide_eq_false nofun];rfl
  have ea:((its.size*a.toNat:Nat):Int)=(its.size:Int)*a:=by rw[Int.natCast_mul,Int.toNat_of_nonneg nofun]
  have hz':(its.size:Int)*a<=(aw:Int):=by rw[<-ea];exact Int.ofNat_le.mpr hz
  have c4:¬(its.size:Int)*a>(2^63-1)/8:=by
   have:(aw:Int)<=(2^63-1)/8:=by decide
   omega
  have c5:dF ((its.size:Int)*a)=af:=by unfold dF;exact decide_eq_false nofun
  have c6:(cf (λx y=>x++y) #[] (ax a.toNat its)).size<=aw:=by rw[AutoListH.size_joined,Array.size_empty,fM,fN];exact hz
  wp_walk
  rw[c1]
  wp_walk
  rw[c2]
  wp_walk
  rw[c3]
  wp_walk
  rw[if_neg c4]
  wp_walk
  exact⟨_,rfl,h⟩
end
theorem j9a{X:Cx}:OpR X (aZ .Mult) (λx y H Q=>∃a k xs,x=.ref a/\y=.int k/\SqT X.K H a xs/\xs≠[]/\1<=k/\k<2^63/\xs.length*k.toNat<=aw /\
  (k=1->Q (.ref a) H)/\(1<k->∀p,H p=ah->Q (.ref p) (upd H p (.tup (ax k.toNat xs).flatten)))):=by
 intro pins s σ H x y v u Q I rx ry h;obtain⟨a,k,xs,e1,e2,sq,hne,h1,h2,hz,q1,q2⟩:=h;subst e1 e2;cases rx;obtain⟨t,e⟩:=ry;subst e;obtain⟨us,ru,⟨⟨c1,d1,f1,g1⟩,p1,k1,n1,m1⟩,_⟩:=I.tuple sq;have k1:c1=.type "tuple":=k1;have m1:f1=.seq us.toArray n1:=m1;subst k1 m1;have lu:=ru.length;have hne':us.toArray.isEmpty=af:=by
  cases us with
  |nil=>cases ru;exact absurd rfl hne
  |cons _ _=>simp
 refine fS (T:="tuple") (U:="int") (by decide) ⟨_,p1,rfl⟩ (λs'=>eG s' k t) Ox iu dn j8x F.slot_int_index.lookup
  (bU dn (eG s k t) i6 (hJ _ _) (Lq k t a us.toArray n1 d1 g1) ⟨p1,rfl,⟨_,p1,rfl⟩,?_⟩)
 by_cases hk:k=1
 .subst hk;exact bU i5 ⟨_,p1,rfl⟩ gZ (gS _ _) (j4k t a us.toArray n1 d1 g1) ⟨p1,⟨.ref a,H,I,rfl,q1 rfl⟩⟩
 .have hz':us.toArray.size*k.toNat<=aw:=by rw[X3,<-lu];exact hz
  refine bU i5 ⟨_,p1,rfl⟩ gZ (gS _ _) (j4j k t a us.toArray n1 d1 g1 hne' nofun h2 hz') ⟨p1,?_⟩;have hnew:cf (λx1 x2=>x1++x2) #[] (ax k.toNat us.toArray)=(ax k.toNat us).flatten.toArray:=by have:=foldl_rep us k.toNat [];rw[dj]at this;exact this
  rw[hnew];refine⟨.ref _,_,I.laid (t':=s.toks) (λb o e=>xu _ e) (X4 _) ?_,rfl,q2 nofun _ I.fresh⟩;exact⟨by rw[len_rep,fN];exact hz,_,ru.rep k.toNat,IsTup.new _ _,U8.new _ _⟩
theorem DE.repT{X:Cx}{ρ:Rho}{a b:ar}{ds:List D}{k:Int}{pos:aQ}(ha:DM X ρ a af ds)(hb:DT X ρ b (.int k))(hne:ds≠[])(h1:1<=k)(h2:k<2^63)(hl:ds.length*k.toNat<=aw) :
  DE X ρ (.BinOp a .Mult b pos) (.tup (ax k.toNat ds).flatten):=λσ H Q R q =>
 (Zv j9a peS peS).to (ha σ H _ R λt xs H1 g1 sq l=>hb σ H1 _ (R.grow g1) λu H2 g2 e2=>by
  have l2:=l.mono (jf g2)
  refine⟨t,k,xs,rfl,e2,g2.seqT (Jp sq),?_,h1,h2,by rw[l.length];exact hl,λh=>?_,λh p hp=>?_⟩
  .intro z;subst z
   cases ds with
   |nil=>exact hne rfl
   |cons _ _=>have:=l.length;cases this
  .subst h
   have e:(ax (1:Int).toNat ds).flatten=ds:=by simp
   rw[e]at q
   refine q _ H2 (g1.trans g2) ⟨t,xs,rfl,?_,l2⟩
   have ow:=(R.grow (g1.trans g2)).owned
   have out:∀{o:HO},H2 t=ae o->(∀zs,o≠.lst zs)->del H2 (owns ρ) t=ae o:=λ{o} h z=>by
    rw[j5];exact h
    intro y;obtain⟨zs,e'⟩:=ow t y;rw[h]at e';cases e';exact z zs rfl
   rcases g2.seqT (Jp sq)with (h|⟨o,h⟩)|h
   .exact .inl (.inl (out h λ_ z=>by cases z))
   .exact .inl (.inr ⟨o,out h λ_ z=>by cases z⟩)
   .exact .inr h
  .have np:p∉owns ρ:=(R.grow (g1.trans g2)).fresh hp
   exact q _ _ ((g1.trans g2).trans (j8 hp)) ⟨p,_,rfl,.inl (.inl (by rw[j5 np];exact jm)),(l2.rep k.toNat).mono (jf (j8 hp))⟩)
section
variable{X:Cx}{ρ:Rho}{a:ar}{m k:Bool}{d:D}{n:Nat}{pos p2:aQ}
end
end L2
end
section
namespace PySem
open Sem (wp)
namespace F
end F
section
variable{prog:ay}{w:aE}{A:aF}{E:k5l}{s:aq}{I:ak}{fp wr:List ak}{G:Array dP->Array dP->Prop}{n:Nat}{P:Nat->aj->Prop}{St:Nat->aq->Prop}
end
end PySem
namespace L2
open PySem PySem.Spec PyProof.Rows
section
variable{X:Cx}{ρ:Rho}{a:ar}{ds:List D}{p p1 p2 p3 pos:aQ}
end
noncomputable def Sl.abs:Sl->Sv
 |.un=>.un
 |.val d=>.val d
 |.own _ l=>.own l
 |.raw _ _ x=>.exc x
noncomputable def j7(ρ:Rho):En:=ρ.map Sl.abs
theorem U7{ρ:Rho}{i:Nat}:(j7 ρ)[i]?=(ρ[i]?).map Sl.abs:=Xi ..
theorem Km{ρ:Rho}{i:Nat}{d:D}(h:(j7 ρ)[i]?=ae (.val d)):ρ[i]?=ae (.val d):=by
 rw[U7]at h;cases e:ρ[i]? with
 |none=>rw[e]at h;cases h
 |some s=>rw[e]at h;cases s<;>cases h;rfl
theorem jaw{ρ:Rho}{i:Nat}(h:(j7 ρ)[i]?=ae .un):ρ[i]?=ae .un:=by
 rw[U7]at h;cases e:ρ[i]? with
 |none=>rw[e]at h;cases h
 |some s=>rw[e]at h;cases s<;>cases h;rfl
theorem Qe{ρ:Rho}{i:Nat}{l:List D}(h:(j7 ρ)[i]?=ae (.own l)):∃a,ρ[i]?=ae (.own a l):=by
 rw[U7]at h;cases e:ρ[i]? with
 |none=>rw[e]at h;cases h
 |some s=>rw[e]at h;cases s<;>cases h;exact⟨_,rfl⟩
theorem Ko{ρ:Rho}{i:Nat}{x:ao}(h:(j7 ρ)[i]?=ae (.exc x)):∃a o,ρ[i]?=ae (.raw a o x):=by
 rw[U7]at h;cases e:ρ[i]? with
 |none=>rw[e]at h;cases h
 |some s=>rw[e]at h;cases s<;>cases h;exact⟨_,_,rfl⟩
theorem jy{ρ:Rho}{i:Nat}{s:Sl}:j7 (ρ.set i s)=(j7 ρ).set i s.abs:=List.map_set ..
noncomputable def Bop.op:Bop->gX
 |.add=>.Add
 |.sub=>.Sub
 |.mul=>.Mult
 |.fdiv=>.FloorDiv
 |.mod=>.Mod
 |.pow=>.Pow
 |.shl=>.LShift
 |.shr=>.RShift
 |.band=>.BitAnd
 |.bxor=>.BitXor
noncomputable def Cop.op:Cop->ff
 |.lt=>.Lt
 |.le=>.LtE
 |.gt=>.Gt
 |.ge=>.GtE
 |.eq=>.Eq
 |.ne=>.NotEq
 |.isin=>.In
 |.notin=>.NotIn
noncomputable def Bf.name:Bf->ao
 |.len=>"len"
 |.min=>"min"
 |.max=>"max"
 |.all=>"all"
 |.tuple=>"tuple"
 |.list=>"list"
 |.sum=>"sum"
 |.int=>"int"
 |.any=>"any"
 |.sorted=>"sorted"
noncomputable def Qs:List ao:=["len","min","max","all","tuple","list","sum","int","any","sorted","isinstance","bool","str","range","zip","enumerate","reversed","ValueError","set","dict"]
noncomputable def Zj(x:ao):Bool:=x.cps.toList.head?==ae 33 || x.cps.toList.head?==ae 63
inductive Nd where
 |e (x:ar)
 |b (x:ar)
 |w (x:ar)
 |a (xs:List ar)
 |i (tg it:ar)
 |o (x:Option ar)
 |c (xs:List ar)
 |p (xs:List ar)
structure Cok(X:Cx)(G:ao->Option D):Prop where
 un':X.A.units+100<bb
 un:X.calm=ag->X.A.units+150<bb
 dp:X.calm=ag->X.A.depth+4<bD
 bt:∀x∈Qs,X.mg x=ah
 gl:∀x d,Zj x=af->G x=ae d->∃u v,X.mg x=ae u/\RelV v u/\∀H,Enc X.K H d v
 nd:X.N.Nodup
 po:eX (aB X.prog X.w) X.A X.env X.xe
 ea:Q8 X.K=ag
 ec:∀x d,G (bang x)=ae d->x∈qe/\∃o,W.nsIn X.K au x=ae (ae o)
 el:G "?" = ae (.bl ag)->∀c∈qe,∃v,W.nsIn X.K au c=ae (ae v)
 kin:X.K.In X.base
 ns:X.base.Ns au X.mg
 kd:∀x l,G (bang x)=ae (.lst l)->Kinds X "_law_kinds" x l
 fn:∀f d,G (qm f)=ae d->∃fa,X.mg f=ae (.ref fa)/\W.keepIn X.K (.ref fa)=ag
 pl:∀d,G (qm "_law_plan")=ae d->Cal X "_law_plan" (jba X.K j7l)
 pc:∀d,G (qm "Pieces")=ae d->∃C,X.mg "Pieces" = ae (.ref C)/\PcX X C
 lm:∀x∈Qx,X.env.qual=x ++ ".<locals>."->∃c P,X.env.code=.ref c/\W.codeHdIn X.K c P=ag/\W.tabIn X.K x=ae (c,P)
def Gok(X:Cx)(Γ:ao->List D->Rc):Prop:=∀f ds,match Γ f ds with
 |.val d=>Cal X f (spP X.K λds' d'=>ds'=ds/\d'=d)
 |.fresh l=>Cal X f (spF X.K λds' l'=>ds'=ds/\l'=l)
 |.err x=>CalX X f (spX X.K X.mg λds' y=>ds'=ds/\y=x)
 |.lval d=>∀x,f=zb x->∃k,Room k X.A/\j1l X.prog X.w X.K X.mg X.base k x λds' d'=>ds'=ds/\d'=d
 |.mval d k'=>∀g ls (k:Nat) ds',f=mq g->ds=.lst (ls.map D.str)::.int (k:Int)::ds'->∀C,X.mg "Pieces" = ae (.ref C)->CalM X g C λls2 k2 ds2 d2 k2'=>ls2=ls/\k2=k/\ds2=ds'/\d2=d/\k2'=k'
 |.merr x=>∀g ls (k:Nat) ds',f=mq g->ds=.lst (ls.map D.str)::.int (k:Int)::ds'->∀C,X.mg "Pieces" = ae (.ref C)->CalMX X g C λls2 k2 ds2 x2=>ls2=ls/\k2=k/\ds2=ds'/\x2=x
 |.no=>True
theorem Cok.comp{X:Cx}{G:ao->Option D}{scope:bh}{C:ak}{s:aq}{H:Hp}{fp:List ak}{pn:k5m}(h:Cok X G):Cok (cCx X scope C s H fp pn) G:=⟨h.un',h.un,h.dp,h.bt,h.gl,h.nd,Py,h.ea,h.ec,h.el,h.kin,h.ns,h.kd,h.fn,λd e=>Cal.comp (h.pl d e),λd e=>let ⟨C,h1,h2⟩:=h.pc d e;⟨C,h1,⟨h2.ex⟩⟩,h.lm⟩
theorem Gok.comp{X:Cx}{Γ:ao->List D->Rc}{scope:bh}{C:ak}{s:aq}{H:Hp}{fp:List ak}{pn:k5m}(h:Gok X Γ):Gok (cCx X scope C s H fp pn) Γ:=λf ds=>by
 have q:=h f ds;cases e:Γ f ds with
 |val d=>rw[e]at q;exact Cal.comp q
 |fresh l=>rw[e]at q;exact Cal.comp q
 |err x=>rw[e]at q;exact⟨q.ex⟩
 |lval d=>rw[e]at q;exact q
 |mval d k=>rw[e]at q;exact λg ls k ds' h1 h2 C h3=>⟨(q g ls k ds' h1 h2 C h3).ex⟩
 |merr x=>rw[e]at q;exact λg ls k ds' h1 h2 C h3=>⟨(q g ls k ds' h1 h2 C h3).ex⟩
 |no=>trivial
inductive HasA(X:Cx)(ρ:Rho):List ar->List Rk->Prop where
 |nil:HasA X ρ [] []
 |cons {a:ar} {es:List ar} {r:Rk} {rs:List Rk} (hs:ai (a::es) X.env=(af,aH a X.env)::ai es X.env):Has X ρ a r->HasA X ρ es rs->HasA X ρ (a::es) (r::rs)
section
variable{X:Cx}{ρ:Rho}{es:List ar}{rs:List Rk}
theorem HasA.toA:∀{es:List ar}{rs:List Rk}{ds:List D},HasA X ρ es rs->zg rs=ae ds->DA X ρ es ds
 |_,_,_,.nil,q=>by cases q;exact DA.nil
 |_,_,ds,.cons (r:=r) (rs:=rs) hs h t,q=>by
  unfold zg at q;cases e1:r.st with
  |none=>rw[e1]at q;cases q
  |some d =>
   cases e2:zg rs with
   |none=>rw[e1,e2]at q;cases q
   |some ds'=>rw[e1,e2]at q;cases q;exact DA.cons (h.toE e1) (t.toA e2) hs
theorem HasA.toT:∀{es:List ar}{rs:List Rk},HasA X ρ es rs->DTA X ρ es (rs.map Rk.d)
 |_,_,.nil=>DTA.nil
 |_,_,.cons hs h t=>DTA.cons h.toT t.toT hs
theorem DO.unfrz{e:ar}{i:Nat}{a:ak}{l ds:List D}(hk:ρ[i]?=ae (.own a l))(h:DO X (ρ.set i (.val (.lst l))) e ds)(hn:qi ds=ag):DO X ρ e ds:=λσ H Q R q =>
 h σ H Q (R.freeze hk) λb xs H' g n m en=>q b xs H' g n m ((en.mono qb).hide (λc hc=>by
  rcases km.mp hc with z|z
  .rw[z];exact .inl ⟨xs,m⟩
  .exact .inl ((R.grow g).owned c z)) hn)
end
theorem O6{f:D->Option (Option D)}:∀{ds l:List D},Jd f ds=ae l ->
  l=(ds.filter (λd=>(f d).join.isSome)).map (λd=>(f d).join.getD .non)/\∀d∈ds,∃o,f d=ae o
 |[],l,h=>by cases h;exact⟨rfl,λd hd=>nomatch hd⟩
 |d::ds,l,h=>by
  unfold Jd at h;cases e1:f d with
  |none=>rw[e1]at h;cases h
  |some o =>
   cases e2:Jd f ds with
   |none=>rw[e1,e2]at h;cases o<;>cases h
   |some xs =>
    rw[e1,e2]at h;obtain⟨q1,q2⟩:=O6 e2;have mem:∀d'∈d::ds,∃o,f d'=ae o:=λd' hd=>by
     rcases km.mp hd with z|z
     .subst z;exact⟨o,e1⟩
     .exact q2 d' z
    cases o with
    |none=>cases h;exact⟨by rw[fv (by rw[e1];simp)];exact q1,mem⟩
    |some x=>cases h;exact⟨by rw[ft (by rw[e1];rfl),X5,<-q1,e1];rfl,mem⟩
section
variable{X:Cx}{ρ:Rho}{a b:ar}{d da db:D}{ds ds':List D}{pos:aQ}{k:Bool}
theorem j37 {t c:String} (h:qw t c=ae k):t ≠ "function":=λz=>by unfold qw at h;rw[if_pos z]at h;cases h
theorem Ed{K:k5k}{c:String}(h:qw d.ty c=ae k):W.kitOne K (.type d.ty) (.type c)=ae k:=by
 have nf:d.ty ≠ "function":=j37 h;unfold qw at h;rw[if_neg nf]at h;by_cases h1:c = "int"
 .subst h1;cases d<;>first|exact absurd rfl nf|(simp[D.ty]at h;subst h;kernel_rfl)
 rw[if_neg h1]at h;by_cases h2:c = "bool"
 .subst h2;cases d<;>first|exact absurd rfl nf|(simp[D.ty]at h;subst h;kernel_rfl)
 rw[if_neg h2]at h;by_cases h3:c = "str"
 .subst h3;cases d<;>first|exact absurd rfl nf|(simp[D.ty]at h;subst h;kernel_rfl)
 rw[if_neg h3]at h;by_cases h4:c = "list"
 .subst h4;cases d<;>first|exact absurd rfl nf|(simp[D.ty]at h;subst h;kernel_rfl)
 rw[if_neg h4]at h;by_cases h5:c = "tuple"
 .subst h5;cases d<;>first|exact absurd rfl nf|(simp[D.ty]at h;subst h;kernel_rfl)
 rw[if_neg h5]at h;cases h
theorem Ei {c:String} {cs:List String} (h:jz d (c::cs)=ae k):d.ty ≠ "function":=by
 unfold jz at h;split at h
 .rename_i e _;exact j37 e
 .cases h
theorem Ln{K:k5k}:∀{cs:List String}{k:Bool},jz d cs=ae k->W.kitAny K (.type d.ty) (cs.map d5)=ae k
 |[],k,h=>by cases h;rfl
 |c::cs,k,h=>by
  unfold jz at h;cases e1:qw d.ty c with
  |none=>rw[e1]at h;cases h
  |some x =>
   cases e2:jz d cs with
   |none=>rw[e1,e2]at h;cases h
   |some y =>
    rw[e1,e2]at h;cases h;rw[X5,W.kitAny,Ed e1];cases x with
    |true=>simp
    |false=>simp;exact Ln e2
theorem DE.neD(s:Bool)(hu:X.A.units+100<bb)(ha:DT X ρ a (D.seq s ds))(hb:DT X ρ b (D.seq s ds'))(hd:D.depL ds<=98)(nd:D.depL ds'<10000):DE X ρ (.Compare a [.NotEq] [b] pos) (.bl (!zx ds ds')):=λσ H Q R q =>(J7 (j2m hu) peS peS (za _)).to (ha σ H _ R λv H1 g1 e1=>hb σ H1 _ (R.grow g1) λu H2 g2 e2=>⟨ds,ds',s,e1.mono g2,e2,hd,nd,q _ H2 (g1.trans g2) rfl⟩)
theorem DE.notIn(s:Bool)(hu:X.A.units+100<bb)(ha:DT X ρ a d)(hb:DT X ρ b (D.seq s ds))(hd:D.depL ds<=98)(nd:d.dep<10000)(hm:aN .NotIn b=af):DE X ρ (.Compare a [.NotIn] [b] pos) (.bl (!ds.any λe=>deq e d)):=λσ H Q R q =>(J7 (N5 hu) peS peS hm).to (ha σ H _ R λv H1 g1 e1=>hb σ H1 _ (R.grow g1) λu H2 g2 e2=>⟨d,ds,s,e1.mono g2,e2,hd,nd,q _ H2 (g1.trans g2) rfl⟩)
theorem DE.in(s:Bool)(hu:X.A.units+100<bb)(ha:DT X ρ a d)(hb:DT X ρ b (D.seq s ds))(hd:D.depL ds<=98)(nd:d.dep<10000)(hm:aN .In b=af):DE X ρ (.Compare a [.In] [b] pos) (.bl (ds.any λe=>deq e d)):=λσ H Q R q =>(J7 (j2n hu) peS peS hm).to (ha σ H _ R λv H1 g1 e1=>hb σ H1 _ (R.grow g1) λu H2 g2 e2=>⟨d,ds,s,e1.mono g2,e2,hd,nd,q _ H2 (g1.trans g2) rfl⟩)
theorem Oo:∀{b:D}{s:Bool}{l:List D},b.sqv=ae (s,l)->b=D.seq s l
 |.lst _,_,_,h=>by cases h;rfl
 |.dct _ _,_,_,h=>by cases h
 |.sct _,_,_,h=>by cases h
 |.fn _ _,_,_,h=>by cases h
 |.tup _,_,_,h=>by cases h;rfl
 |.non,_,_,h=>by cases h
 |.bl _,_,_,h=>by cases h
 |.int _,_,_,h=>by cases h
 |.str _,_,_,h=>by cases h
theorem j1f{op:Cop}{i j:Int}(h:cmpI op i j=ae k)(ha:DT X ρ a (.int i))(hb:DT X ρ b (.int j)):DE X ρ (.Compare a [op.op] [b] pos) (.bl k)/\DB X ρ (.Compare a [op.op] [b] pos) k:=by
 cases op<;>(first|(cases h;done)|skip)
 .cases h;exact⟨DE.lt ha hb,DB.lt ha hb⟩
 .cases h;exact⟨DE.le ha hb,DB.le ha hb⟩
 .cases h;exact⟨DE.gt ha hb,DB.gt ha hb⟩
 .cases h;exact⟨DE.ge ha hb,DB.ge ha hb⟩
 .cases h;exact⟨DE.eqI ha hb,DB.eqI ha hb⟩
 .cases h;exact⟨DE.neI ha hb,DB.neI ha hb⟩
theorem Fb{op:Cop}(hu:X.A.units+100<bb)(h:zj op da db=ae k)(ha:DT X ρ a da)(hb:DT X ρ b db)(hm:aN op.op b=af) :
  DE X ρ (.Compare a [op.op] [b] pos) (.bl k)/\DB X ρ (.Compare a [op.op] [b] pos) k:=by
 have inn:∀{r:Bool->Bool},(match db.sqv with|some (_,l)=>if D.depL l<=90/\da.dep<=90 then ae (r (l.any λe=>deq e da))else ah|none=>ah)=ae k->∃s l,DT X ρ b (D.seq s l)/\D.depL l<=98/\da.dep<10000/\k=r (l.any λe=>deq e da):=λ{r} h=>by
  cases e:db.sqv with
  |none=>rw[e]at h;cases h
  |some p =>
   obtain⟨s,l⟩:=p;rw[e]at h;have h:(if D.depL l<=90/\da.dep<=90 then ae (r (l.any λe=>deq e da))else ah)=ae k:=h;by_cases z:D.depL l<=90/\da.dep<=90
   .rw[if_pos z]at h;cases h;exact⟨s,l,Oo e▸hb,by omega,by omega,rfl⟩
   .rw[if_neg z]at h;cases h
 unfold zj at h;split at h
 .exact j1f h ha hb
 .by_cases z:da.dep<=90/\db.dep<=90
  .rw[if_pos z]at h;cases h;exact⟨DE.eqD hu ha hb nofun nofun,DB.eqD hu ha hb nofun nofun⟩
  .rw[if_neg z]at h;cases h
 .cases h;exact⟨DE.neB ha hb,DB.neB ha hb⟩
 .cases h;exact⟨(DE.neS ha hb).eq (by rw[K7]),(DB.neS ha hb).eq (by rw[K7])⟩
 .cases h;exact⟨(DE.neS ha hb).eq (by simp),(DB.neS ha hb).eq (by simp)⟩
 .rename_i l m;by_cases z:D.depL l<=90/\D.depL m<=90
  .rw[if_pos z]at h;cases h;exact⟨DE.neD ag hu ha hb nofun nofun,DB.neD ag hu ha hb nofun nofun⟩
  .rw[if_neg z]at h;cases h
 .rename_i l m;by_cases z:D.depL l<=90/\D.depL m<=90
  .rw[if_pos z]at h;cases h;exact⟨DE.neD af hu ha hb nofun nofun,DB.neD af hu ha hb nofun nofun⟩
  .rw[if_neg z]at h;cases h
 .cases h;exact⟨DE.inS ha hb hm,DB.inS ha hb hm⟩
 .cases h;exact⟨DE.ltS ha hb,DB.ltS ha hb⟩
 .cases h;exact⟨DE.gtS ha hb,DB.gtS ha hb⟩
 .obtain⟨s,l,hb,hd,nd,e⟩:=inn (r:=id) h;subst e;exact⟨DE.in s hu ha hb hd nd hm,DB.in s hu ha hb hd nd hm⟩
 .obtain⟨s,l,hb,hd,nd,e⟩:=inn (r:=(!·)) h;subst e;exact⟨DE.notIn s hu ha hb hd nd hm,DB.notIn s hu ha hb hd nd hm⟩
 .cases h
theorem DE.shr{i j:Int}(ha:DT X ρ a (.int i))(hb:DT X ρ b (.int j))(h:0<=j):DE X ρ (.BinOp a .RShift b pos) (.int (i/2^j.toNat)):=DE.arI (g:=λi j=>i/2^j.toNat) jca ha hb h
theorem jr{α:Type}{c:Prop}[Decidable c]{x y:α}(h:(if c then ae x else ah)=ae y):c/\x=y:=by
 by_cases z:c
 .rw[if_pos z]at h;exact⟨z,aD h⟩
 .rw[if_neg z]at h;cases h
theorem j1h{op:Bop}{i j n:Int}(h:binI op i j=ae n)(ha:DT X ρ a (.int i))(hb:DT X ρ b (.int j)):DE X ρ (.BinOp a op.op b pos) (.int n):=by
 cases op
 .cases h;exact DE.add ha hb
 .cases h;exact DE.sub ha hb
 .obtain⟨z,e⟩:=jr h;subst e;exact DE.mul ha hb z
 .obtain⟨z,e⟩:=jr h;subst e;exact DE.fdivB ha hb z
 .obtain⟨z,e⟩:=jr h;subst e;exact DE.mod ha hb z
 .obtain⟨z,e⟩:=jr h;subst e;exact DE.pow ha hb z
 .obtain⟨z,e⟩:=jr h;subst e;exact DE.shl ha hb z
 .obtain⟨z,e⟩:=jr h;subst e;exact DE.shr ha hb z
 .cases h;exact DE.arI0 jcg ha hb
 .cases h;exact DE.arI0 jc8 ha hb
theorem qy{n:Nat}(h:je n=ag):n<=aw:=of_decide_eq_true h
end
section
variable{X:Cx}{ρ:Rho}{a b e:ar}{es:List ar}{d:D}{pos p:aQ}
theorem Has.lw:∀{r:Rk}{l:List D},Has X ρ a r->r.lw=ae l->DL X ρ a l
 |.o l,_,h,q=>by cases q;exact DO.toL h
 |.w l,_,h,q=>by cases q;exact h
 |.e _,_,_,q=>by cases q
 |.t _,_,_,q=>by cases q
theorem j48{op:Bop}{x y r:Rk}(h:W2 op x y=ae r)(ha:Has X ρ a x)(hb:Has X ρ b y):Has X ρ (.BinOp a op.op b pos) r:=by
 unfold W2 at h;split at h
 .rename_i i j e1 e2;cases z:binI op i j with
  |none=>rw[z]at h;cases h
  |some n=>rw[z]at h;cases h;exact j1h z (e1▸ha.toT) (e2▸hb.toT)
 .rename_i y z e1 e2;split at h
  .obtain⟨q,e⟩:=jr h;subst e;exact DE.catS (e1▸ha.toT) (e2▸hb.toT) (qy q)
  .cases h
 .rename_i y k e1 e2;split at h
  .obtain⟨q,e⟩:=jr h;subst e;exact DE.mulS (e1▸ha.toT) (e2▸hb.toT) q.1 q.2
  .cases h
 .split at h
  .rename_i l m _ e1 e2;obtain⟨z,q⟩:=jr h;subst q;exact DO.catM (ha.toM e1) (hb.toM e2) (qy z)
  .rename_i l m _ e1 e2;obtain⟨z,q⟩:=jr h;subst q;exact DE.catTM (ha.toM e1) (hb.toM e2) (qy z)
  .rename_i l k _ _ e1 e3;obtain⟨z,q⟩:=jr h;subst q;exact DE.repT (ha.toM e1) (e3▸hb.toT) (λe=>by subst e;exact absurd z.2.2.1 (by simp)) z.1 z.2.1 (qy z.2.2.2)
  .rename_i k _ _ _ e3 _;cases e:x.lw with
   |none=>rw[e]at h;cases h
   |some l =>rw[e]at h;obtain⟨z,q⟩:=jr h;subst q;exact DO.rep (ha.lw e) (e3▸hb.toT) z.1 z.2.1 (qy z.2.2)
  .cases h
theorem U4:∀{l:List D}{bs:List Bool},boolsOf l=ae bs->l=bs.map D.bl
 |[],_,h=>by cases h;rfl
 |.bl b::r,bs,h=>by
  unfold boolsOf at h;cases e:boolsOf r with
  |none=>rw[e]at h;cases h
  |some q=>rw[e]at h;cases h;rw[U4 e];rfl
 |.non::_,_,h=>by cases h
 |.int _::_,_,h=>by cases h
 |.str _::_,_,h=>by cases h
 |.tup _::_,_,h=>by cases h
 |.lst _::_,_,h=>by cases h
 |.dct _ _::_,_,h=>by cases h
 |.sct _::_,_,h=>by cases h
 |.fn _ _::_,_,h=>by cases h
theorem Zg:∀{l:List D}{bs:List Int},intsOf l=ae bs->l=bs.map D.int
 |[],_,h=>by cases h;rfl
 |.int b::r,bs,h=>by
  unfold intsOf at h;cases e:intsOf r with
  |none=>rw[e]at h;cases h
  |some q=>rw[e]at h;cases h;rw[Zg e];rfl
 |.non::_,_,h=>by cases h
 |.bl _::_,_,h=>by cases h
 |.str _::_,_,h=>by cases h
 |.tup _::_,_,h=>by cases h
 |.lst _::_,_,h=>by cases h
 |.dct _ _::_,_,h=>by cases h
 |.sct _::_,_,h=>by cases h
 |.fn _ _::_,_,h=>by cases h
theorem By:∀{l:List D}{bs:List ao},strsOf l=ae bs->l=bs.map D.str
 |[],_,h=>by cases h;rfl
 |.str b::r,bs,h=>by
  unfold strsOf at h;cases e:strsOf r with
  |none=>rw[e]at h;cases h
  |some q=>rw[e]at h;cases h;rw[By e];rfl
 |.non::_,_,h=>by cases h
 |.bl _::_,_,h=>by cases h
 |.int _::_,_,h=>by cases h
 |.tup _::_,_,h=>by cases h
 |.lst _::_,_,h=>by cases h
 |.dct _ _::_,_,h=>by cases h
 |.sct _::_,_,h=>by cases h
 |.fn _ _::_,_,h=>by cases h
theorem Jo{w:Option W}{k:Bool}(h:truth w=ae k):∃r,w=ae (.v r)/\r.d=.bl k:=by
 unfold truth at h;split at h
 .rename_i r;split at h
  .rename_i q e;cases h;exact⟨r,rfl,e⟩
  .cases h
 .cases h
def Kq(X:Cx)(ρ:Rho):List ar->List Rk->Prop
 |[],[]=>True
 |e::es,r::rs=>(∀y,qj r.d=ae y->DE X ρ e (.str y))/\Kq X ρ es rs
 |_,_=>False
theorem Kq.all{X:Cx}{ρ:Rho}:∀{es:List ar}{rs:List Rk}{ys:List ao},Kq X ρ es rs->v7 rs=ae ys->DPs X ρ es ys/\ys.length=rs.length
 |[],[],ys,_,q=>by cases q;exact⟨trivial,rfl⟩
 |e::es,r::rs,ys,h,q=>by
  unfold v7 at q;cases e1:qj r.d with
  |none=>rw[e1]at q;cases q
  |some y =>
   cases e2:v7 rs with
   |none=>rw[e1,e2]at q;cases q
   |some ys' =>rw[e1,e2]at q;cases q;obtain⟨z1,z2⟩:=Kq.all h.2 e2;exact⟨⟨h.1 y e1,z1⟩,by rw[xn,xn,z2]⟩
 |[],_::_,_,h,_=>h.elim
 |_::_,[],_,h,_=>h.elim
theorem log2_small{i:Int}(h:-18446744073709551616<i/\i<18446744073709551616):i.natAbs.log2<1920:=by
 by_cases z:i.natAbs=0
 .rw[z];decide
 .have e:(2:Nat)^64=18446744073709551616:=by decide
  have:i.natAbs.log2<64:=(jG z).mpr (by rw[e];omega);omega
theorem j20{d:D}{y:ao}(h:qj d=ae y):y.length<=10000:=by
 cases d with
 |int i =>
  simp only[qj]at h;split at h
  .rename_i q;cases h;have:=int_text_length_le (k:=1920) (by decide) (log2_small q);rw[PySem.ofString_length];omega
  .cases h
 |str z =>
  simp only[qj]at h;split at h
  .rename_i q;cases h;exact q
  .cases h
 |_=>cases h
theorem Ws:∀{rs:List Rk}{ys:List ao},v7 rs=ae ys->∀y∈ys,y.length<=10000
 |[],_,q=>by cases q;exact λy hy=>nomatch hy
 |r::rs,ys,q=>by
  unfold v7 at q;cases e1:qj r.d with
  |none=>rw[e1]at q;cases q
  |some y =>
   cases e2:v7 rs with
   |none=>rw[e1,e2]at q;cases q
   |some ys' =>
    rw[e1,e2]at q;cases q;intro z hz;rcases km.mp hz with rfl|hz
    .exact j20 e1
    .exact Ws e2 z hz
theorem DE.fmt{X:Cx}{ρ:Rho}{a:ar}{d:D}{y:ao}{pos:aQ}(ha:DT X ρ a d)(h:qj d=ae y):DE X ρ (.FormattedValue a (-1) ah pos) (.str y):=by
 cases d with
 |int i =>
  simp only[qj]at h;split at h
  .rename_i q;cases h;exact DE.fmtI ha (log2_small q)
  .cases h
 |str z =>
  simp only[qj]at h;split at h
  .rename_i q;cases h;exact DE.fmtS ha (by rw[bK];omega)
  .cases h
 |_=>cases h
def jf6(Γ:ao->List D->Rc)(G:ao->Option D)(X:Cx)(t:Ex):Nd->Prop
 |.e e=>∀ρ r,ev Γ G t (j7 ρ)=ae (.v r)->Has X ρ e r
 |.b e=>∀ρ k,truth (ev Γ G t (j7 ρ))=ae k->DB X ρ e k
 |.w e=>∀ρ k,truth (ev Γ G t (j7 ρ))=ae k->DW X ρ e k
 |.a es=>∀ρ rs,ev Γ G t (j7 ρ)=ae (.a rs)->HasA X ρ es rs
 |.i tg it=>∀ρ ds,ev Γ G t (j7 ρ)=ae (.i ds)->DI X ρ tg it ds
 |.o e=>∀ρ o,Jt (ev Γ G t (j7 ρ))=ae o->DP X ρ e o
 |.p es=>∀ρ rs,ev Γ G t (j7 ρ)=ae (.a rs)->Kq X ρ es rs
 |.c ifs=>∀ρ,(ev Γ G t (j7 ρ)=ae (.a [])->DTs X ρ ifs ag)/\∀y k,ev Γ G t (j7 ρ)=ae (.a [y])->y.d=.bl k->DTs X ρ ifs k
end
section
variable{Γ:ao->List D->Rc}{G:ao->Option D}{X:Cx}
theorem Z8{is:List Nat}{elt' it' c':Ex}{elt it tg:ar}{ifs:List ar}{scope:bh}{ρ:Rho}{r:Rk}
  (hit:∀ρ ds,ev Γ G it' (j7 ρ)=ae (.i ds)->DI X ρ tg it ds)
  (hb:∀ρ d ρ2,zm is d (j7 ρ)=ae ρ2->(∀j∈is,ρ[j]?=ae .un)->∃ρ',j7 ρ'=ρ2/\Wk ρ' ρ/\owns ρ'=owns ρ/\∀C s H fp pn,DG (cCx X scope C s H fp pn) ρ tg d ρ')
  (he:∀C s H fp pn ρ r,ev Γ G elt' (j7 ρ)=ae (.v r)->Has (cCx X scope C s H fp pn) ρ elt r)
  (hc:∀C s H fp pn ρ,(ev Γ G c' (j7 ρ)=ae (.a [])->DTs (cCx X scope C s H fp pn) ρ ifs ag)/\∀y k,ev Γ G c' (j7 ρ)=ae (.a [y])->y.d=.bl k->DTs (cCx X scope C s H fp pn) ρ ifs k)
  (h:ev Γ G (.comp is elt' it' c') (j7 ρ)=ae (.v r)):∃(l:List D)(ρf:Rho)(ds:List D)(pr:D->Bool)(g:D->D),r=.o l/\l=(ds.filter pr).map g /\
   (ρf=ρ\/(qi l=ag/\∃(i:Nat)(a:ak)(l':List D),ρ[i]?=ae (.own a l')/\ρf=ρ.set i (.val (.lst l'))))/\DI X ρf tg it ds/\(∀j∈is,ρf[j]?=ae .un)/\ds.length<=aw /\
   (∀C s H fp pn,∀d∈ds,∃ρ2,DG (cCx X scope C s H fp pn) ρf tg d ρ2/\Wk ρ2 ρf/\owns ρ2=owns ρf/\DTs (cCx X scope C s H fp pn) ρ2 ifs (pr d)/\(pr d=ag->DE (cCx X scope C s H fp pn) ρ2 elt (g d))):=by
 have fr:∃ρf,j7 ρf=frz it' (j7 ρ)/\((J1 it' (j7 ρ)=af/\ρf=ρ)\/(J1 it' (j7 ρ)=ag/\∃i a l,ρ[i]?=ae (.own a l)/\ρf=ρ.set i (.val (.lst l)))):=by
  by_cases z:J1 it' (j7 ρ)=ag
  .unfold J1 at z;split at z
   .rename_i i ei;split at z
    .rename_i l e;obtain⟨a,q⟩:=Qe e;refine⟨ρ.set i (.val (.lst l)),?_,.inr ⟨?_,i,a,l,q,rfl⟩⟩
     .rw[jy];simp only[frz,ei,e,Sl.abs]
     .simp only[J1,ei,e]
    .cases z
   .cases z
  .have z':J1 it' (j7 ρ)=af:=by simpa using z
   refine⟨ρ,?_,.inl ⟨z',rfl⟩⟩;unfold frz;split
   .rename_i i ei;split
    .rename_i l e;simp only[J1,ei,e]at z';cases z'
    .rfl
   .rfl
 obtain⟨ρf,ef,fr⟩:=fr;rw[jey]at h;rw[<-ef]at h;split at h
 .rename_i ds hds;split at h
  .rename_i hz;obtain⟨hfree,hlen⟩:=hz;generalize hf:(λd=>_:D->Option (Option D))=f at h;cases hl:Jd f ds with
   |none=>rw[hl]at h;cases h
   |some l =>
    rw[hl]at h;have h:(if (J1 it' (j7 ρ) && !qi l)=ag then ah else ae (W.v (.o l)))=ae (.v r):=h;by_cases zz:(J1 it' (j7 ρ) && !qi l)=ag
    .rw[if_pos zz]at h;cases h
    .rw[if_neg zz]at h;cases h;obtain⟨el,hmem⟩:=O6 hl;have hun:∀j∈is,ρf[j]?=ae .un:=λj hj=>by
      have:=Xo.mp hfree j hj;split at this
      .rename_i e;exact jaw e
      .cases this
     refine⟨l,ρf,ds,_,_,rfl,el,?_,hit ρf ds hds,hun,qy hlen,λC s H fp pn d hd=>?_⟩
     .rcases fr with ⟨_,e⟩|⟨e1,i,a,l',hk,e⟩
      .exact .inl e
      .exact .inr ⟨by rw[e1]at zz;simpa using zz,i,a,l',hk,e⟩
     ·
      obtain⟨o,ho⟩:=hmem d hd;rw[<-hf]at ho ⊢;dsimp only at ho ⊢;cases hb2:zm is d (j7 ρf) with
      |none=>rw[hb2]at ho;cases ho
      |some ρ2 =>
       obtain⟨ρ',e',wk,ow,dg⟩:=hb ρf d ρ2 hb2 hun;subst e';refine⟨ρ',dg C s H fp pn,wk,ow,?_⟩;rw[hb2]at ho;dsimp only at ho ⊢;cases hcv:ev Γ G c' (j7 ρ') with
       |none=>rw[hcv]at ho;cases ho
       |some w =>
        rw[hcv]at ho;split at ho
        .rename_i hw;cases hw;cases hev:ev Γ G elt' (j7 ρ') with
         |none=>rw[hev]at ho;cases ho
         |some w =>
          rw[hev]at ho;cases w with
          |i _=>cases ho
          |a _=>cases ho
          |v x =>
           dsimp only at ho ⊢;cases hst:x.st with
           |none=>rw[hst]at ho;cases ho
           |some y =>simp only[hst,eC,gp,dD,cV];exact⟨((hc C s H fp pn ρ').1 hcv),λ_=>(he C s H fp pn ρ' x hev).toE hst⟩
        .rename_i y hw;cases hw;split at ho
         .rename_i e1;cases hev:ev Γ G elt' (j7 ρ') with
          |none=>rw[hev]at ho;cases ho
          |some w =>
           rw[hev]at ho;cases w with
           |i _=>cases ho
           |a _=>cases ho
           |v x =>
            dsimp only at ho ⊢;cases hst:x.st with
            |none=>rw[hst]at ho;cases ho
            |some z =>simp only[e1,hst,eC,gp,dD,cV];exact⟨(hc C s H fp pn ρ').2 y ag hcv e1,λ_=>(he C s H fp pn ρ' x hev).toE hst⟩
         .rename_i e1;simp only[e1,Option.join,ie];exact⟨(hc C s H fp pn ρ').2 y af hcv e1,λz=>by cases z⟩
         .cases ho
        .cases ho
  .cases h
 .cases h
theorem j1d{is:List Nat}{elt' it' c':Ex}{elt it tg:ar}{ifs:List ar}{scope:bh}{p:aQ}{ρ:Rho}{r:Rk}(hq:X.calm=ag)(hX:Cok X G)
  (hit:∀ρ ds,ev Γ G it' (j7 ρ)=ae (.i ds)->DI X ρ tg it ds) (hkind:scope.kind=.function) (hok:J9 scope X.env X.N is=ag) (hs:∀x,aW it X.env x=pure x)
  (hb:∀ρ d ρ2,zm is d (j7 ρ)=ae ρ2->(∀j∈is,ρ[j]?=ae .un)->∃ρ',j7 ρ'=ρ2/\Wk ρ' ρ/\owns ρ'=owns ρ/\∀C s H fp pn,DG (cCx X scope C s H fp pn) ρ tg d ρ')
  (he:∀C s H fp pn ρ r,ev Γ G elt' (j7 ρ)=ae (.v r)->Has (cCx X scope C s H fp pn) ρ elt r)
  (hc:∀C s H fp pn ρ,(ev Γ G c' (j7 ρ)=ae (.a [])->DTs (cCx X scope C s H fp pn) ρ ifs ag)/\∀y k,ev Γ G c' (j7 ρ)=ae (.a [y])->y.d=.bl k->DTs (cCx X scope C s H fp pn) ρ ifs k)
  (h:ev Γ G (.comp is elt' it' c') (j7 ρ)=ae (.v r)):∃l,r=.o l/\DO X ρ (.ListComp elt [⟨tg,it,ifs,0⟩] scope p) l:=by
 obtain⟨l,ρf,ds,pr,g,er,el,hf,hi,hun,hz,hb'⟩:=Z8 hit hb he hc h;refine⟨l,er,?_⟩;have main:DO X ρf (.ListComp elt [⟨tg,it,ifs,0⟩] scope p) ((ds.filter pr).map g):=DO.comp is _ _ hi hb' hun hz hq hkind hok hs;rw[<-el]at main;rcases hf with e|⟨hn,i,a,l',hk,e⟩
 .subst e;exact main
 .subst e;exact DO.unfrz hk main hn
end
section
variable{X:Cx}{ρ:Rho}{a b e:ar}{es:List ar}{d:D}{pos p:aQ}
theorem Has.map(h:∀σ H Q,Jk X a σ H Q->Jk X e σ H Q):∀{r:Rk},Has X ρ a r->Has X ρ e r
 |.e _,q=>λσ H Q R z=>h σ H Q (q σ H Q R z)
 |.o _,q=>λσ H Q R z=>h σ H Q (q σ H Q R z)
 |.w _,q=>λσ H Q R z=>h σ H Q (q σ H Q R z)
 |.t _,q=>λσ H Q R z=>h σ H Q (q σ H Q R z)
theorem Has.bl{r:Rk}{k:Bool}(h:Has X ρ a r)(e:r.d=.bl k):DE X ρ a (.bl k):=DT.toE (e▸h.toT)
theorem Qj{f:Bf}{rs:List Rk}{r:Rk}{p2:aQ}{G:ao->Option D}(c:Cok X G)(hq:f=.min\/f=.all\/f=.sum\/f=.any\/f=.max->X.calm=ag)(hg:Gl X f.name)(h:Z1 f rs=ae r)(ha:HasA X ρ es rs):Has X ρ (.Call (.Name f.name p) es [] p2) r:=by
 have one:∀{x:Rk},HasA X ρ es [x]->∃e,es=[e]/\Has X ρ e x/\ai [e] X.env=[(af,aH e X.env)]:=λ{x} h=>by cases h with|cons hs h t=>cases t;exact⟨_,rfl,h,hs⟩
 have two:∀{x y:Rk},HasA X ρ es [x,y]->∃e f,es=[e,f]/\Has X ρ e x/\Has X ρ f y/\ai [e,f] X.env=(af,aH e X.env)::ai [f] X.env/\ai [f] X.env=[(af,aH f X.env)]:=λ{x y} h=>by cases h with|cons hs h t=>cases t with|cons hs2 h2 t2=>cases t2;exact⟨_,_,rfl,h,h2,hs,hs2⟩
 unfold Z1 at h;split at h
 .rename_i x;obtain⟨e,ee,hx,hs⟩:=one ha;subst ee;split at h
  .rename_i l el;cases h;exact DE.lenL (el▸hx.toT) (c.bt _ (by decide)) hg hs
  .rename_i l el;cases h;exact DE.lenT (el▸hx.toT) (c.bt _ (by decide)) hg hs
  .rename_i y el;obtain⟨z,q⟩:=jr h;subst q;exact DE.lenS (el▸hx.toT) (qy z) (c.bt _ (by decide)) hg hs
  .cases h
 .rename_i x y;obtain⟨e,f,ee,hx,hy,hs,hs2⟩:=two ha;subst ee;split at h
  .rename_i i j ei ej;cases h;exact DE.min (ei▸hx.toT) (ej▸hy.toT) (c.bt _ (by decide)) (hq (.inl rfl)) hg hs hs2 (by rw[hs2];rfl)
  .cases h
 .rename_i x y;obtain⟨e,f,ee,hx,hy,hs,hs2⟩:=two ha;subst ee;split at h
  .rename_i i j ei ej;cases h;exact DE.max2 (ei▸hx.toT) (ej▸hy.toT) (c.bt _ (by decide)) (hq (.inr (.inr (.inr (.inr rfl))))) hg hs hs2 (by rw[hs2];rfl)
  .cases h
 .rename_i x;obtain⟨e,ee,hx,hs⟩:=one ha;subst ee;split at h
  .rename_i l el;split at h
   .rename_i ns en;obtain⟨z,q⟩:=jr h;cases q;have:=Zg en;subst this;exact DE.maxL (el▸hx.toT) (λz'=>by subst z';simp at z) (c.bt _ (by decide)) (hq (.inr (.inr (.inr (.inr rfl))))) hg hs
   .cases h
  .cases h
 .rename_i x;obtain⟨e,ee,hx,hs⟩:=one ha;subst ee;split at h
  .rename_i l el;split at h
   .rename_i ns en;obtain⟨z,q⟩:=jr h;cases q;have:=Zg en;subst this;exact DE.minL (el▸hx.toT) (λz'=>by subst z';simp at z) (c.bt _ (by decide)) (hq (.inl rfl)) hg hs
   .cases h
  .cases h
 .rename_i x;obtain⟨e,ee,hx,hs⟩:=one ha;subst ee;split at h
  .rename_i l el;cases q:boolsOf l with
   |none=>rw[q]at h;cases h
   |some bs =>rw[q]at h;cases h;have:=U4 q;subst this;exact DE.all (el▸hx.toT) (c.bt _ (by decide)) (hq (.inr (.inl rfl))) hg hs
  .cases h
 .rename_i x;obtain⟨e,ee,hx,hs⟩:=one ha;subst ee;split at h
  .rename_i l el;cases q:boolsOf l with
   |none=>rw[q]at h;cases h
   |some bs =>rw[q]at h;cases h;have:=U4 q;subst this;exact DE.any (el▸hx.toT) (c.bt _ (by decide)) (hq (.inr (.inr (.inr (.inl rfl))))) hg hs
  .cases h
 .rename_i x;obtain⟨e,ee,hx,hs⟩:=one ha;subst ee;split at h
  .rename_i s l el;cases h;exact DE.tupM (hx.toM el) (c.bt _ (by decide)) hg hs
  .cases h
 .rename_i x;obtain⟨e,ee,hx,hs⟩:=one ha;subst ee;split at h
  .rename_i s l el;cases h;exact DO.listM (hx.toM el) (c.bt _ (by decide)) hg hs
  .cases h
 .rename_i x;obtain⟨e,ee,hx,hs⟩:=one ha;subst ee;split at h
  .rename_i l el;cases q:intsOf l with
   |none=>rw[q]at h;cases h
   |some ns =>rw[q]at h;cases h;have:=Zg q;subst this;exact DE.sum ag (show DT X ρ e (.lst (ns.map D.int))from el▸hx.toT) (c.bt _ (by decide)) (hq (.inr (.inr (.inl rfl)))) hg hs
  .rename_i l el;cases q:intsOf l with
   |none=>rw[q]at h;cases h
   |some ns =>rw[q]at h;cases h;have:=Zg q;subst this;exact DE.sum af (show DT X ρ e (.tup (ns.map D.int))from el▸hx.toT) (c.bt _ (by decide)) (hq (.inr (.inr (.inl rfl)))) hg hs
  .cases h
 .rename_i x;obtain⟨e,ee,hx,hs⟩:=one ha;subst ee;split at h
  .rename_i k el;cases h;exact DE.int1 (el▸hx.toT) (c.bt _ (by decide)) hg hs
  .rename_i y el;split at h
   .rename_i hl;obtain⟨n,hn,rfl⟩:=Pq.mp h;exact DE.intS (el▸hx.toT) hn hl (c.bt _ (by decide)) hg hs
   .cases h
  .cases h
 .cases h
end
section
variable{Γ:ao->List D->Rc}{G:ao->Option D}{X:Cx}
theorem j1g {ρ:Rho} {f:ao} {e:ar} {es:List ar} {rs:List Rk} {r:Rk} {p p2:aQ} (g:Gok X Γ) (hg:Gl X f) (hdb:(f==k5o)=af) (he:ai (e::es) X.env=(af,aH e X.env)::ai es X.env)
  (hpl:(aV p2 (ai es X.env)).any (·.1)=af) (ha:HasA X ρ (e::es) rs)
  (h:(match zg rs with|some ds=>(Γ f ds).rk.map W.v|none=>match Γ f (rs.map Rk.d)with|.val d=>ae (.v (.t d))|.fresh l=>if qi l=ag then ae (.v (.o l))else ah|_=>ah)=ae (.v r)):Has X ρ (.Call (.Name f p) (e::es) [] p2) r:=by
 split at h
 .rename_i ds hds;have q:=g f ds;cases z:Γ f ds with
  |val d=>rw[z]at h q;cases h;exact DE.call q (ha.toA hds) ⟨rfl,rfl⟩ hg hdb he hpl
  |fresh l=>rw[z]at h q;cases h;exact DO.call q (ha.toA hds) ⟨rfl,rfl⟩ hg hdb he hpl
  |err x=>rw[z]at h;cases h
  |lval d=>rw[z]at h;cases h
  |mval d k=>rw[z]at h;cases h
  |merr x=>rw[z]at h;cases h
  |no=>rw[z]at h;cases h
 .have q:=g f (rs.map Rk.d);split at h
  .rename_i d z;rw[z]at q;cases h;exact DT.call q ha.toT ⟨rfl,rfl⟩ hg hdb he hpl
  .rename_i l z;rw[z]at q;obtain⟨hn,e1⟩:=jr h;cases e1;exact DO.callT q ha.toT ⟨rfl,rfl⟩ hn hg hdb he hpl
  .cases h
theorem jbo{a:Ex}{ρ:En}{r:Rk}(h:ev Γ G (.rpr a) ρ=ae (.v r)):∃x y,ev Γ G a ρ=ae (.v x)/\x.d=.str y/\(aI y).length<=2000/\r=.e (.str (aI y)):=by
 rw[jhg]at h;split at h
 .rename_i x ex;split at h
  .rename_i y ey;split at h
   .rename_i hl;cases h;exact⟨x,y,ex,ey,hl,rfl⟩
   .cases h
  .cases h
 .cases h
end
def XM(X:Cx)(ρ:Rho)(y:ao):Nd->Prop
 |.e e=>DX X ρ e y
 |.a es=>DXA X ρ es y
 |_=>True
structure Tr(X:Cx)(t:Ex)(nd:Nd):Prop where
 m:∀(Γ:ao->List D->Rc)(G:ao->Option D),Cok X G->Gok X Γ->jf6 Γ G X t nd
 x:∀(Γ:ao->List D->Rc)(G:ao->Option D),Cok X G->Gok X Γ->∀ρ y,er Γ G t (j7 ρ)=ae y->XM X ρ y nd
theorem Tr.int:∀{X:Cx}{i:Int}{n:Nat}{p:aQ},Tr X (.lit (.int i)) (.e (.Constant (.int i) n p)):=by intro _ _ _ _;refine⟨λΓ G=>?_,λ_ _ _ _ _ _ h=>nomatch h⟩;intro _ _ ρ r h;simp only[Od]at h;cases h;exact DE.int
theorem Tr.bl:∀{X:Cx}{b:Bool}{n:Nat}{p:aQ},Tr X (.lit (.bl b)) (.e (.Constant (.bool b) n p)):=by intro _ _ _ _;refine⟨λΓ G=>?_,λ_ _ _ _ _ _ h=>nomatch h⟩;intro _ _ ρ r h;simp only[Od]at h;cases h;exact DE.bl
theorem Tr.non:∀{X:Cx}{n:Nat}{p:aQ},Tr X (.lit .non) (.e (.Constant .none n p)):=by intro _ _ _;refine⟨λΓ G=>?_,λ_ _ _ _ _ _ h=>nomatch h⟩;intro _ _ ρ r h;simp only[Od]at h;cases h;exact DE.non
theorem Tr.str:∀{X:Cx}{y:ao}{n:Nat}{p:aQ},Tr X (.lit (.str y)) (.e (.Constant (.str y) n p)):=by intro _ _ _ _;refine⟨λΓ G=>?_,λ_ _ _ _ _ _ h=>nomatch h⟩;intro _ _ ρ r h;simp only[Od]at h;cases h;exact DE.str
theorem Tr.var:∀{X:Cx}{k:Nat}{x:ao}{p:aQ}(hN:X.N[k]?=ae x) (hv:Vis X.env.scope x) (hd:(x==k5o)=af) (hcd:(x==k5p)=af),Tr X (.var k) (.e (.Name x p)):=by
 intro _ _ _ _ hN hv hd hcd;refine⟨λΓ G=>?_,λ_ _ _ _ _ _ h=>nomatch h⟩;intro _ _ ρ r h;simp only[jhb,Oe]at h;split at h
 .rename_i e;cases h;exact DE.var _ (Km e) hN hv hd hcd
 .rename_i e;cases h;obtain⟨a,q⟩:=Qe e;exact DL.var _ q hN hv hd hcd
 .cases h
theorem Tr.glob:∀{X:Cx}{x:ao}{p:aQ}(hg:Gl X x)(hd:(x==k5o)=af) (hb:Zj x=af),Tr X (.glob x) (.e (.Name x p)):=by
 intro _ _ _ hg hd hb;refine⟨λΓ G=>?_,λ_ _ _ _ _ _ h=>nomatch h⟩;rename_i X x p;intro c _ ρ r h;simp only[jex]at h;cases e:G x with
 |none=>rw[e]at h;cases h
 |some d=>rw[e]at h;cases h;obtain⟨u,v,hm,r,q⟩:=c.gl x d hb e;exact DE.glob hg hm r q hd
theorem Tr.bin:∀{X:Cx}{op:Bop}{a' b':Ex}{a b:ar}{p:aQ},Tr X a' (.e a)->Tr X b' (.e b)->Tr X (.bin op a' b') (.e (.BinOp a op.op b p)):=by
 intro _ _ _ _ _ _ _ q0 q1;refine⟨λΓ G=>?_,λ_ _ _ _ _ _ h=>nomatch h⟩;have iha:=q0.m Γ G;have ihb:=q1.m Γ G;intro c g ρ r h;simp only[jhm,Zt]at h;split at h
 .rename_i x y ex ey;cases e:W2 _ x y with
  |none=>rw[e]at h;cases h
  |some z=>rw[e]at h;cases h;exact j48 e (iha c g ρ x ex) (ihb c g ρ y ey)
 .cases h
theorem Tr.neg:∀{X:Cx}{a':Ex}{a:ar}{p:aQ},Tr X a' (.e a)->Tr X (.neg a') (.e (.UnaryOp .USub a p)):=by
 intro _ _ _ _ q0;refine⟨λΓ G=>?_,λ_ _ _ _ _ _ h=>nomatch h⟩;have iha:=q0.m Γ G;intro c g ρ r h;simp only[jhi,Le]at h;split at h
 .rename_i x ex;split at h
  .rename_i i e;cases h;exact DE.neg (e▸(iha c g ρ x ex).toT)
  .cases h
 .cases h
theorem Tr.cmp:∀{X:Cx}{op:Cop}{a' b':Ex}{a b:ar}{p:aQ}(hm:aN op.op b=af),Tr X a' (.e a)->Tr X b' (.e b)->Tr X (.cmp op a' b') (.e (.Compare a [op.op] [b] p)):=by
 intro _ _ _ _ _ _ _ hm q0 q1;refine⟨λΓ G=>?_,λ_ _ _ _ _ _ h=>nomatch h⟩;have iha:=q0.m Γ G;have ihb:=q1.m Γ G;intro c g ρ r h;simp only[j88,Br]at h;split at h
 .rename_i x y ex ey;cases e:zj _ x.d y.d with
  |none=>rw[e]at h;cases h
  |some z=>rw[e]at h;cases h;exact(Fb c.un' e (iha c g ρ x ex).toT (ihb c g ρ y ey).toT hm).1
 .cases h
theorem Tr.bcmp:∀{X:Cx}{op:Cop}{a' b':Ex}{a b:ar}{p:aQ}(hm:aN op.op b=af),Tr X a' (.e a)->Tr X b' (.e b)->Tr X (.cmp op a' b') (.b (.Compare a [op.op] [b] p)):=by
 intro _ _ _ _ _ _ _ hm q0 q1;refine⟨λΓ G=>?_,λ_ _ _ _ _ _ _=>trivial⟩;have iha:=q0.m Γ G;have ihb:=q1.m Γ G;intro c g ρ k h;obtain⟨r,h,hk⟩:=Jo h;simp only[j88,Br]at h;split at h
 .rename_i x y ex ey;cases e:zj _ x.d y.d with
  |none=>rw[e]at h;cases h
  |some z=>rw[e]at h;cases h;cases hk;exact(Fb c.un' e (iha c g ρ x ex).toT (ihb c g ρ y ey).toT hm).2
 .cases h
theorem Tr.isN:∀{X:Cx}{a':Ex}{a:ar}{n:Nat}{p p2:aQ},Tr X a' (.e a)->Tr X (.isN a') (.e (.Compare a [.Is] [.Constant .none n p2] p)):=by
 intro _ _ _ _ _ _ q0;refine⟨λΓ G=>?_,λ_ _ _ _ _ _ h=>nomatch h⟩;have iha:=q0.m Γ G;intro c g ρ r h;simp only[j87]at h;split at h
 .rename_i x ex;cases h;exact DE.isN (iha c g ρ x ex).toT
 .cases h
theorem Tr.bisN:∀{X:Cx}{a':Ex}{a:ar}{n:Nat}{p p2:aQ},Tr X a' (.e a)->Tr X (.isN a') (.b (.Compare a [.Is] [.Constant .none n p2] p)):=by
 intro _ _ _ _ _ _ q0;refine⟨λΓ G=>?_,λ_ _ _ _ _ _ _=>trivial⟩;have iha:=q0.m Γ G;intro c g ρ k h;obtain⟨r,h,hk⟩:=Jo h;simp only[j87]at h;split at h
 .rename_i x ex;cases h;cases hk;exact DB.isN (iha c g ρ x ex).toT
 .cases h
theorem Tr.one:∀{X:Cx}{a':Ex}{a:ar}{op:BoolOp}{p:aQ},Tr X a' (.e a)->Tr X a' (.e (.BoolOp op [a] p)):=by intro _ _ _ _ _ q0;refine⟨λΓ G=>?_,λΓ G c g ρ y h σ H Q R k=>(j2k peS).to (q0.x Γ G c g ρ y h σ H Q R k)⟩;have iha:=q0.m Γ G;intro c g ρ r h;exact Has.map (λσ H Q q=>(j2k peS).to q) (iha c g ρ r h)
theorem Tr.and:∀{X:Cx}{a' t':Ex}{a b:ar}{rest:List ar}{p:aQ},Tr X a' (.e a)->Tr X t' (.e (.BoolOp .And (b::rest) p))->Tr X (.and a' t') (.e (.BoolOp .And (a::b::rest) p)):=by
 intro _ _ _ _ _ _ _ q0 q1;refine⟨λΓ G=>?_,λ_ _ _ _ _ _ h=>nomatch h⟩;have iha:=q0.m Γ G;have ihb:=q1.m Γ G;intro c g ρ r h;simp only[jhn]at h;split at h
 .rename_i e;cases h;obtain⟨x,ex,ed⟩:=Jo e;exact(DE.and (m:=af) ((iha c g ρ x ex).bl ed).toT λz=>by cases z)
 .rename_i e;obtain⟨x,ex,ed⟩:=Jo e;cases e2:truth (ev Γ G _ (j7 ρ)) with
  |none=>rw[e2]at h;cases h
  |some k =>rw[e2]at h;cases h;obtain⟨y,ey,fd⟩:=Jo e2;exact(DE.and ((iha c g ρ x ex).bl ed).toT λ_=>(ihb c g ρ y ey).bl fd).eq (by simp)
 .cases h
theorem Tr.wor1:∀{X:Cx}{a':Ex}{a:ar}{p:aQ},Tr X a' (.b a)->Tr X a' (.w (.BoolOp .Or [a] p)):=by intro _ _ _ _ q0;refine⟨λΓ G=>?_,λ_ _ _ _ _ _ _=>trivial⟩;have iha:=q0.m Γ G;intro c g ρ k h;exact DW.or1 (iha c g ρ k h)
theorem Tr.wor:∀{X:Cx}{a' t':Ex}{a b:ar}{rest:List ar}{p:aQ},Tr X a' (.b a)->Tr X t' (.w (.BoolOp .Or (b::rest) p))->Tr X (.or a' t') (.w (.BoolOp .Or (a::b::rest) p)):=by
 intro _ _ _ _ _ _ _ q0 q1;refine⟨λΓ G=>?_,λ_ _ _ _ _ _ _=>trivial⟩;have iha:=q0.m Γ G;have ihb:=q1.m Γ G;intro c g ρ k h;obtain⟨r,h,hk⟩:=Jo h;simp only[jj3]at h;split at h
 .rename_i e;cases h;cases hk;exact DW.or (m:=af) (iha c g ρ ag e) λz=>by cases z
 .rename_i e;cases e2:truth (ev Γ G _ (j7 ρ)) with
  |none=>rw[e2]at h;cases h
  |some m =>rw[e2]at h;cases h;cases hk;have q:=DW.or (iha c g ρ af e) λ_=>ihb c g ρ _ e2;rw[ik]at q;exact q
 .cases h
theorem Tr.bw:∀{X:Cx}{a':Ex}{op:BoolOp}{es:List ar}{p:aQ},Tr X a' (.w (.BoolOp op es p))->Tr X a' (.b (.BoolOp op es p)):=by intro _ _ _ _ _ q0;refine⟨λΓ G=>?_,λ_ _ _ _ _ _ _=>trivial⟩;have iha:=q0.m Γ G;intro c g ρ k h;exact DW.toB (iha c g ρ k h)
theorem Tr.bnot:∀{X:Cx}{a':Ex}{a:ar}{p:aQ},Tr X a' (.b a)->Tr X (.not a') (.b (.UnaryOp .Not a p)):=by
 intro _ _ _ _ q0;refine⟨λΓ G=>?_,λ_ _ _ _ _ _ _=>trivial⟩;have iha:=q0.m Γ G;intro c g ρ k h;obtain⟨r,h,hk⟩:=Jo h;simp only[jhh]at h;cases e:truth (ev Γ G _ (j7 ρ)) with
 |none=>rw[e]at h;cases h
 |some m=>rw[e]at h;cases h;cases hk;exact DB.not (iha c g ρ m e)
theorem Tr.bval:∀{X:Cx}{a':Ex}{a:ar}(he:∀whole,dz a X.env whole=(do let v <-whole;eN a.pos;dS [v] (i9 v))),Tr X a' (.e a)->Tr X a' (.b a):=by intro _ _ _ he q0;refine⟨λΓ G=>?_,λ_ _ _ _ _ _ _=>trivial⟩;have iha:=q0.m Γ G;intro c g ρ k h;obtain⟨r,h,hk⟩:=Jo h;exact DB.val ((iha c g ρ r h).bl hk).toT he
theorem Tr.ite:∀{X:Cx}{c' a' b':Ex}{c a b:ar}{p:aQ},Tr X c' (.b c)->Tr X a' (.e a)->Tr X b' (.e b)->Tr X (.ite c' a' b') (.e (.IfExp c a b p)):=by
 intro _ _ _ _ _ _ _ _ q0 q1 q2;refine⟨λΓ G=>?_,λ_ _ _ _ _ _ h=>nomatch h⟩;have ihc:=q0.m Γ G;have iha:=q1.m Γ G;have ihb:=q2.m Γ G;intro c g ρ r h;simp only[jhk]at h;split at h
 .rename_i e;split at h
  .rename_i x ex;cases es:x.st with
   |none=>rw[es]at h;cases h
   |some d=>rw[es]at h;cases h;exact(DE.ite (d':=d) (ihc c g ρ ag e) (λ_=>(iha c g ρ x ex).toE es) λz=>by cases z).eq (by simp)
  .cases h
 .rename_i e;split at h
  .rename_i x ex;cases es:x.st with
   |none=>rw[es]at h;cases h
   |some d=>rw[es]at h;cases h;exact(DE.ite (d:=d) (ihc c g ρ af e) (λz=>by cases z) λ_=>(ihb c g ρ x ex).toE es).eq (by simp)
  .cases h
 .cases h
theorem Tr.nil:∀{X:Cx},Tr X .nil (.a []):=by intro _;refine⟨λΓ G=>?_,λ_ _ _ _ _ _ h=>nomatch h⟩;intro c g ρ rs h;simp only[U9]at h;cases h;exact .nil
theorem Tr.cons:∀{X:Cx}{a' b':Ex}{a:ar}{es:List ar}(hs:ai (a::es) X.env=(af,aH a X.env)::ai es X.env),Tr X a' (.e a)->Tr X b' (.a es)->Tr X (.cons a' b') (.a (a::es)):=by
 intro _ _ _ _ _ hs q0 q1;refine⟨λΓ G=>?_,λΓ G=>?_⟩
 .have iha:=q0.m Γ G;have ihb:=q1.m Γ G;intro c g ρ rs h;simp only[Yi,consW]at h;split at h
  .rename_i x xs ex exs;cases h;exact .cons hs (iha c g ρ x ex) (ihb c g ρ xs exs)
  .cases h
 .skip
  intro c g ρ y h;rw[er]at h;split at h
  .rename_i x ex;cases h;exact DXA.head (q0.x Γ G c g ρ _ ex) hs
  split at h
  .rename_i r ez;exact DXA.tail (q0.m Γ G c g ρ r ez).toT (q1.x Γ G c g ρ y h) hs
  .cases h
theorem Tr.tup:∀{X:Cx}{es':Ex}{es:List ar}{n:Nat}{p:aQ},Tr X es' (.a es)->Tr X (.tup es') (.e (.Tuple es n p)):=by
 intro _ _ _ _ _ q0;refine⟨λΓ G=>?_,λ_ _ _ _ _ _ h=>nomatch h⟩;have iha:=q0.m Γ G;intro c g ρ r h;simp only[jhc,Vs]at h;split at h
 .rename_i rs ers;split at h
  .rename_i ds hds;obtain⟨z,q⟩:=jr h;cases q;exact DE.tup (n:=0) ((iha c g ρ rs ers).toA hds) (qy z)
  .cases h
 .cases h
theorem Tr.lst:∀{X:Cx}{es':Ex}{es:List ar}{p:aQ},Tr X es' (.a es)->Tr X (.lst es') (.e (.List es p)):=by
 intro _ _ _ _ q0;refine⟨λΓ G=>?_,λ_ _ _ _ _ _ h=>nomatch h⟩;have iha:=q0.m Γ G;intro c g ρ r h;simp only[jhj,Q4]at h;split at h
 .rename_i rs ers;split at h
  .rename_i ds hds;obtain⟨z,q⟩:=jr h;cases q;exact DO.lst ((iha c g ρ rs ers).toA hds) (qy z)
  .cases h
 .cases h
theorem Tr.ix:∀{X:Cx}{a' b':Ex}{a b:ar}{p:aQ}(hs:Wq b),Tr X a' (.e a)->Tr X b' (.e b)->Tr X (.ix a' b') (.e (.Subscript a b p)):=by
 intro _ _ _ _ _ _ hs q0 q1;refine⟨λΓ G=>?_,λΓ G c g ρ y h σ H Q R k=>(Mm j35 peS peS hs).to (q0.x Γ G c g ρ y (by rw[er]at h;exact h) σ H _ R k)⟩;have iha:=q0.m Γ G;have ihb:=q1.m Γ G;intro c g ρ r h;simp only[jj4,ixW]at h;split at h
 .rename_i x y ex ey;split at h
  .rename_i s l i hx hy;cases z:atI l i with
   |none=>rw[z]at h;cases h
   |some d=>rw[z]at h;cases h;exact DE.ixM ((iha c g ρ x ex).toM hx) (hy▸(ihb c g ρ y ey).toT) z hs
  .rename_i i hx hy;split at h
   .rename_i y' ed;split at h
    .rename_i hl;cases z:atI y'.cps.toList i with
     |none=>rw[z]at h;cases h
     |some d=>rw[z]at h;cases h;exact DE.ixC (ed▸(iha c g ρ x ex).toT) (hy▸(ihb c g ρ y ey).toT) (qy hl) z hs
    .cases h
   .cases h
  .cases h
 .cases h
theorem Tr.oN:∀{X:Cx},Tr X .nil (.o ah):=by intro _;refine⟨λΓ G=>?_,λ_ _ _ _ _ _ _=>trivial⟩;intro c g ρ o h;simp only[U9,Jt]at h;cases h;exact DP.none
theorem Tr.oS:∀{X:Cx}{a':Ex}{a:ar},Tr X a' (.e a)->Tr X (.cons a' .nil) (.o (ae a)):=by
 intro _ _ _ q0;refine⟨λΓ G=>?_,λ_ _ _ _ _ _ _=>trivial⟩;have iha:=q0.m Γ G;intro c g ρ o h;simp only[Yi,U9,consW]at h;split at h
 .rename_i x xs ex exs;cases exs;simp only[Jt]at h;split at h
  .rename_i i ei;cases h;exact DP.some (ei▸(iha c g ρ x ex).toT)
  .cases h
 .cases h
theorem Tr.sl:∀{X:Cx}{a' l' h':Ex}{a:ar}{lo hi:Option ar}{p p2:aQ},Tr X a' (.e a)->Tr X l' (.o lo)->Tr X h' (.o hi)->Tr X (.sl a' l' h') (.e (.Subscript a (.Slice lo hi ah p2) p)):=by
 intro _ _ _ _ _ _ _ _ _ q0 q1 q2;refine⟨λΓ G=>?_,λ_ _ _ _ _ _ h=>nomatch h⟩;have iha:=q0.m Γ G;have ihl:=q1.m Γ G;have ihh:=q2.m Γ G;intro c g ρ r h;simp only[jj2]at h;split at h
 .rename_i x l hh ex el eh;split at h
  .rename_i ds e;cases h;exact DO.sliceM ((iha c g ρ x ex).toM e) (ihl c g ρ l el) (ihh c g ρ hh eh)
  .rename_i ds e;split at h
   .cases h
   .rename_i z;cases h;exact DE.sliceM ((iha c g ρ x ex).toM e) (ihl c g ρ l el) (ihh c g ρ hh eh) z
  .split at h
   .rename_i y' ed;obtain⟨z,q⟩:=jr h;cases q;exact DE.sliceS (ed▸(iha c g ρ x ex).toT) (ihl c g ρ l el) (ihh c g ρ hh eh) (qy z)
   .cases h
 .cases h
theorem Tr.call:∀{X:Cx}{f:ao}{es':Ex}{e:ar}{es:List ar}{p p2:aQ}(hg:Gl X f) (hdb:(f==k5o)=af) (he:ai (e::es) X.env=(af,aH e X.env)::ai es X.env) (hpl:(aV p2 (ai es X.env)).any (·.1)=af),Tr X es' (.a (e::es))->Tr X (.call f es') (.e (.Call (.Name f p) (e::es) [] p2)):=by
 intro _ f _ _ _ _ _ hg hdb he hpl q0;refine⟨λΓ G=>?_,λΓ G=>?_⟩
 .have iha:=q0.m Γ G;intro c g ρ r h;simp only[jez,Jy]at h;split at h
  .rename_i rs ers;exact j1g g hg hdb he hpl (iha c g ρ rs ers) h
  .cases h
 .skip
  intro c g ρ y h;rw[er]at h;split at h
  .rename_i x ex;split at h
   .rename_i hz;cases h;obtain⟨d,hd⟩:=Xg.mp hz;obtain⟨fa,hfa,hk⟩:=c.fn _ d hd;exact DX.args (q0.x Γ G c g ρ _ ex) hg hdb hfa hk he hpl
   .cases h
  split at h
  .rename_i rs ers;split at h
   .rename_i z ez;split at h
    .rename_i hz;cases h;have q:=g f (rs.map Rk.d);rw[ez]at q;obtain⟨d,hd⟩:=Xg.mp hz;obtain⟨_,o,ho⟩:=c.ec _ d hd;exact DX.call q (q0.m Γ G c g ρ rs ers).toT ⟨rfl,rfl⟩ (W.mg_of c.kin c.ns ho) hg hdb he hpl
    .cases h
   .cases h
  .cases h
theorem Tr.len:∀{X:Cx}{es':Ex}{e:ar}{p p2:aQ}(hg:Gl X "len"),Tr X es' (.a [e])->Tr X (.blt .len es') (.e (.Call (.Name "len" p) [e] [] p2)):=by
 intro _ _ _ _ _ hg q0;refine⟨λΓ G=>?_,λ_ _ _ _ _ _ h=>nomatch h⟩;have iha:=q0.m Γ G;intro c g ρ r h;simp only[Wo,vg]at h;split at h
 .rename_i rs ers;cases e:Z1 _ rs with
  |none=>rw[e]at h;cases h
  |some x=>rw[e]at h;cases h;exact Qj (f:=.len) c (λz=>by rcases z with z|z|z|z|z<;>cases z) hg e (iha c g ρ rs ers)
 .cases h
theorem Tr.all:∀{X:Cx}{es':Ex}{e:ar}{p p2:aQ}(hq:X.calm=ag)(hg:Gl X "all"),Tr X es' (.a [e])->Tr X (.blt .all es') (.e (.Call (.Name "all" p) [e] [] p2)):=by
 intro _ _ _ _ _ hq hg q0;refine⟨λΓ G=>?_,λ_ _ _ _ _ _ h=>nomatch h⟩;have iha:=q0.m Γ G;intro c g ρ r h;simp only[Wo,vg]at h;split at h
 .rename_i rs ers;cases e:Z1 _ rs with
  |none=>rw[e]at h;cases h
  |some x=>rw[e]at h;cases h;exact Qj (f:=.all) c (λ_=>hq) hg e (iha c g ρ rs ers)
 .cases h
theorem Tr.tuple:∀{X:Cx}{es':Ex}{e:ar}{p p2:aQ}(hg:Gl X "tuple"),Tr X es' (.a [e])->Tr X (.blt .tuple es') (.e (.Call (.Name "tuple" p) [e] [] p2)):=by
 intro _ _ _ _ _ hg q0;refine⟨λΓ G=>?_,λ_ _ _ _ _ _ h=>nomatch h⟩;have iha:=q0.m Γ G;intro c g ρ r h;simp only[Wo,vg]at h;split at h
 .rename_i rs ers;cases e:Z1 _ rs with
  |none=>rw[e]at h;cases h
  |some x=>rw[e]at h;cases h;exact Qj (f:=.tuple) c (λz=>by rcases z with z|z|z|z|z<;>cases z) hg e (iha c g ρ rs ers)
 .cases h
theorem Tr.list:∀{X:Cx}{es':Ex}{e:ar}{p p2:aQ}(hg:Gl X "list"),Tr X es' (.a [e])->Tr X (.blt .list es') (.e (.Call (.Name "list" p) [e] [] p2)):=by
 intro _ _ _ _ _ hg q0;refine⟨λΓ G=>?_,λ_ _ _ _ _ _ h=>nomatch h⟩;have iha:=q0.m Γ G;intro c g ρ r h;simp only[Wo,vg]at h;split at h
 .rename_i rs ers;cases e:Z1 _ rs with
  |none=>rw[e]at h;cases h
  |some x=>rw[e]at h;cases h;exact Qj (f:=.list) c (λz=>by rcases z with z|z|z|z|z<;>cases z) hg e (iha c g ρ rs ers)
 .cases h
theorem Tr.min:∀{X:Cx}{es':Ex}{e f:ar}{p p2:aQ}(hq:X.calm=ag)(hg:Gl X "min"),Tr X es' (.a [e,f])->Tr X (.blt .min es') (.e (.Call (.Name "min" p) [e,f] [] p2)):=by
 intro _ _ _ _ _ _ hq hg q0;refine⟨λΓ G=>?_,λ_ _ _ _ _ _ h=>nomatch h⟩;have iha:=q0.m Γ G;intro c g ρ r h;simp only[Wo,vg]at h;split at h
 .rename_i rs ers;cases e:Z1 _ rs with
  |none=>rw[e]at h;cases h
  |some x=>rw[e]at h;cases h;exact Qj (f:=.min) c (λ_=>hq) hg e (iha c g ρ rs ers)
 .cases h
theorem Tr.intc:∀{X:Cx}{es':Ex}{e:ar}{p p2:aQ}(hg:Gl X "int"),Tr X es' (.a [e])->Tr X (.blt .int es') (.e (.Call (.Name "int" p) [e] [] p2)):=by
 intro _ _ _ _ _ hg q0;refine⟨λΓ G=>?_,λ_ _ _ _ _ _ h=>nomatch h⟩;have iha:=q0.m Γ G;intro c g ρ r h;simp only[Wo,vg]at h;split at h
 .rename_i rs ers;cases e:Z1 _ rs with
  |none=>rw[e]at h;cases h
  |some x=>rw[e]at h;cases h;exact Qj (f:=.int) c (λz=>by rcases z with z|z|z|z|z<;>cases z) hg e (iha c g ρ rs ers)
 .cases h
theorem Tr.join:∀{X:Cx}{a':Ex}{a:ar}{sep:ao}{n:Nat}{p0 p1 p2:aQ}(hbase:bu (.Constant (.str sep) n p0) "join" X.env (aH (.Constant (.str sep) n p0) X.env)=aH (.Constant (.str sep) n p0) X.env) (hfew:((aV p2 (ai [a] X.env)).all (λx=>!x.1)&&(d4 p2 (bS [] X.env)).all (λx=>x.1.isSome)&&decide (([a]:List ar).length+([]:List bW).length+(if ([]:List bW).isEmpty then 0 else 1)<30))=ag) (hline:(p1.endLine==p2.line)=ag) (hs:ai [a] X.env=(af,aH a X.env)::ai [] X.env),Tr X a' (.e a)->Tr X (.join sep a') (.e (.Call (.Attribute (.Constant (.str sep) n p0) "join" p1) [a] [] p2)):=by
 intro _ _ _ _ _ _ _ _ hbase hfew hline hs q0;refine⟨λΓ G=>?_,λ_ _ _ _ _ _ h=>nomatch h⟩;have iha:=q0.m Γ G;intro c g ρ r h;simp only[jew,Jl]at h;split at h
 .rename_i x ex;split at h
  .rename_i l el;split at h
   .rename_i ts et;obtain⟨z,q⟩:=jr h;cases q;have:=By et;subst this;exact DE.join (el▸(iha c g ρ x ex).toT) z hfew hbase hline hs
   .cases h
  .cases h
 .cases h
theorem Tr.isi1:∀{X:Cx}{a':Ex}{a:ar}{T:ao}{c:String}{p p1 p2:aQ}(hT:T∈Qs) (hv:aY T=ae (.type c)) (hg:Gl X "isinstance") (hg2:Gl X T) (hn:T ≠ "__name__") (hd:(T==k5o)=af) (hs:ai [a,.Name T p1] X.env=(af,aH a X.env)::ai [.Name T p1] X.env),Tr X a' (.e a)->Tr X (.isi a' [c]) (.e (.Call (.Name "isinstance" p) [a,.Name T p1] [] p2)):=by
 intro _ _ _ _ _ _ _ _ hT hv hg hg2 hn hd hs q0;refine⟨λΓ G=>?_,λ_ _ _ _ _ _ h=>nomatch h⟩;have iha:=q0.m Γ G;intro c g ρ r h;simp only[j86,Be]at h;split at h
 .rename_i x ex;cases e:jz x.d _ with
  |none=>rw[e]at h;cases h
  |some k =>
   rw[e]at h;cases h;refine DE.isi1 (iha c g ρ x ex).toT (Ei e) (c.bt _ (by decide)) (c.bt _ hT) hv ?_ hg hg2 hn hd hs rfl rfl;simp only[jz]at e;split at e
   .rename_i k1 k2 e1 e2;cases e2;cases e;rw[fi];exact Ed e1
   .cases e
 .cases h
theorem Tr.isi2:∀{X:Cx}{a':Ex}{a:ar}{T U:ao}{c d:String}{n:Nat}{p p1 p2 p3 p4:aQ} (hT:T∈Qs) (hU:U∈Qs) (hv:aY T=ae (.type c)) (hw:aY U=ae (.type d)) (hg:Gl X "isinstance") (hg1:Gl X T) (hg2:Gl X U) (hn:T ≠ "__name__") (hd:(T==k5o)=af) (hn2:U ≠ "__name__") (hd2:(U==k5o)=af) (hs:ai [a,.Tuple [.Name T p1,.Name U p3] n p4] X.env=(af,aH a X.env)::ai [.Tuple [.Name T p1,.Name U p3] n p4] X.env),Tr X a' (.e a)->Tr X (.isi a' [c,d]) (.e (.Call (.Name "isinstance" p) [a,.Tuple [.Name T p1,.Name U p3] n p4] [] p2)):=by
 intro _ _ _ _ _ _ _ _ _ _ _ _ _ hT hU hv hw hg hg1 hg2 hn hd hn2 hd2 hs q0;refine⟨λΓ G=>?_,λ_ _ _ _ _ _ h=>nomatch h⟩;have iha:=q0.m Γ G;intro c g ρ r h;simp only[j86,Be]at h;split at h
 .rename_i x ex;cases e:jz x.d _ with
  |none=>rw[e]at h;cases h
  |some k =>rw[e]at h;cases h;exact DE.isi2 (iha c g ρ x ex).toT (Ei e) (c.bt _ (by decide)) (c.bt _ hT) (c.bt _ hU) hv hw (Ln e) hg hg1 hg2 hn hd hn2 hd2 hs rfl rfl rfl rfl
 .cases h
theorem Tr.c0:∀{X:Cx},Tr X .nil (.c []):=by intro _;refine⟨λΓ G=>?_,λ_ _ _ _ _ _ _=>trivial⟩;intro c g ρ;exact⟨λ_=>DTs.nil,λy k h=>by simp only[U9]at h;cases h⟩
theorem Tr.c1:∀{X:Cx}{c':Ex}{c:ar},Tr X c' (.b c)->Tr X (.cons c' .nil) (.c [c]):=by
 intro _ _ _ q0;refine⟨λΓ G=>?_,λ_ _ _ _ _ _ _=>trivial⟩;have iha:=q0.m Γ G;intro c g ρ;refine⟨λh=>?_,λy k h hk=>DTs.one ?_⟩
 .simp only[Yi,U9,consW]at h;split at h<;>cases h
 .simp only[Yi,U9,consW]at h;split at h
  .rename_i x xs ex exs;cases exs;cases h;exact iha c g ρ k (by rw[ex];simp only[truth,hk])
  .cases h
theorem Tr.comp1:∀{X:Cx}{i:Nat}{y:ao}{py p:aQ}{elt' it' c':Ex}{elt it:ar}{ifs:List ar} {scope:bh} (hq:X.calm=ag) (hi:X.N[i]?=ae y) (hl:Ym scope y=ag) (hkind:scope.kind=.function) (hok:J9 scope X.env X.N [i]=ag) (hs:∀x,aW it X.env x=pure x),Tr X it' (.i (.Name y py) it)->(∀C s H fp pn,Tr (cCx X scope C s H fp pn) elt' (.e elt))->(∀C s H fp pn,Tr (cCx X scope C s H fp pn) c' (.c ifs))->Tr X (.comp [i] elt' it' c') (.e (.ListComp elt [⟨.Name y py,it,ifs,0⟩] scope p)):=by
 intro _ _ _ _ _ _ _ _ _ _ _ _ hq hi hl hkind hok hs q0 q1 q2;refine⟨λΓ G=>?_,λ_ _ _ _ _ _ h=>nomatch h⟩;have ihi:=q0.m Γ G;have ihe:=λC s H fp pn=>(q1 C s H fp pn).m Γ G;have ihc:=λC s H fp pn=>(q2 C s H fp pn).m Γ G;intro c g ρ r h;obtain⟨l,e,q⟩:=j1d hq c (λρ ds z=>ihi c g ρ ds z) hkind hok hs (λρ d ρ2 hb hun=>by
  simp only[zm]at hb
  cases hb
  have hu:=hun _ (xm.mpr rfl)
  exact⟨_,jy,Wk.set hu,Z5 hu,λC s H fp pn=>DG.name _ c.nd hi (W7 hl) (M8 hl)⟩)
  (λC s H fp pn ρ r z=>ihe C s H fp pn c.comp g.comp ρ r z) (λC s H fp pn ρ=>ihc C s H fp pn c.comp g.comp ρ) h
 subst e;exact q
theorem Tr.seq:∀{X:Cx}{a':Ex}{tg a:ar},Tr X a' (.e a)->Tr X (.seq a') (.i tg a):=by
 intro _ _ _ _ q0;refine⟨λΓ G=>?_,λ_ _ _ _ _ _ _=>trivial⟩;have iha:=q0.m Γ G;intro c g ρ ds h;simp only[jhf,Yo]at h;split at h
 .rename_i l e;cases h;exact DI.lst (iha c g ρ _ e)
 .rename_i l e;cases h;exact DI.tup (iha c g ρ _ e)
 .rename_i l e;cases h;exact DI.lst (DO.toE (iha c g ρ _ e))
 .rename_i y e;obtain⟨z,q⟩:=jr h;cases q;exact DI.str (iha c g ρ _ e).toT z
 .cases h
theorem Tr.range:∀{X:Cx}{es':Ex}{tg:ar}{es:List ar}{p p2:aQ}(hg:Gl X "range"),Tr X es' (.a es)->Tr X (.range es') (.i tg (.Call (.Name "range" p) es [] p2)):=by
 intro _ _ _ _ _ _ hg q0;refine⟨λΓ G=>?_,λ_ _ _ _ _ _ _=>trivial⟩;have iha:=q0.m Γ G;intro c g ρ ds h;simp only[jax,Up]at h;split at h
 .rename_i x ex;have q:=iha c g ρ _ ex;cases q with|cons hs hx t =>
  cases t;split at h
  .rename_i n en;obtain⟨z,q⟩:=jr h;cases q;exact DI.range1 (en▸hx.toT) (c.bt _ (by decide)) z.1 z.2 hg hs
  .cases h
 .rename_i x y ex;have q:=iha c g ρ _ ex;cases q with|cons hs hx t =>
  cases t with|cons hs2 hy t2 =>
  cases t2;split at h
  .rename_i m n em en;obtain⟨z,q⟩:=jr h;cases q;exact DI.range2 (em▸hx.toT) (en▸hy.toT) (c.bt _ (by decide)) z.1 z.2.1 z.2.2.1 z.2.2.2 hg (by rw[hs,hs2];rfl) hs2 hs
  .cases h
 .cases h
theorem Tr.p0:∀{X:Cx},Tr X .nil (.p []):=by intro _;refine⟨λΓ G=>?_,λ_ _ _ _ _ _ _=>trivial⟩;intro c g ρ rs h;simp only[U9]at h;cases h;trivial
theorem Tr.pC:∀{X:Cx}{y:ao}{n:Nat}{p:aQ}{b':Ex}{es:List ar},Tr X b' (.p es)->Tr X (.cons (.lit (.str y)) b') (.p (.Constant (.str y) n p::es)):=by
 intro _ _ _ _ _ _ q0;refine⟨λΓ G=>?_,λ_ _ _ _ _ _ _=>trivial⟩;have ihb:=q0.m Γ G;intro c g ρ rs h;simp only[Yi,Od,consW]at h;split at h
 .rename_i x xs ex exs;cases h;cases ex;refine⟨λz hz=>?_,ihb c g ρ xs exs⟩;have hz:(if _ then ae _ else ah)=ae z:=hz;split at hz
  .cases hz;exact DE.str
  .cases hz
 .cases h
theorem Tr.pR:∀{X:Cx}{a' b':Ex}{a:ar}{p:aQ}{es:List ar},Tr X a' (.e a)->Tr X b' (.p es)->Tr X (.cons (.rpr a') b') (.p (.FormattedValue a 114 ah p::es)):=by
 intro _ a' b' _ _ _ q0 q1;refine⟨λΓ G=>?_,λ_ _ _ _ _ _ _=>trivial⟩;have iha:=q0.m Γ G;have ihb:=q1.m Γ G;intro c g ρ rs h;rw[ev]at h;unfold consW at h;split at h
 .rename_i x xs ex exs;cases h;obtain⟨z,w,ez,ew,hl,rfl⟩:=jbo ex;refine⟨λy hy=>?_,ihb c g ρ xs exs⟩;have hy:(if (aI w).length<=10000 then ae (aI w)else ah)=ae y:=hy;rw[if_pos (X8 hl (by decide))]at hy;cases hy;exact DE.fmtR (ew▸(iha c g ρ z ez).toT) (X8 hl (by decide))
 .cases h
theorem Tr.spl:∀{X:Cx}{a':Ex}{a:ar}{k:Nat}{p1 p2 p3:aQ}(hs:ai [.Constant (.str " ") k p3] X.env=(af,aH (.Constant (.str " ") k p3) X.env)::ai [] X.env) (hbase:bu a "split" X.env (aH a X.env)=aH a X.env) (hfew:((aV p2 (ai [.Constant (.str " ") k p3] X.env)).all (λx=>!x.1)&&(d4 p2 (bS [] X.env)).all (λx=>x.1.isSome)&&decide (([.Constant (.str " ") k p3]:List ar).length+([]:List bW).length+(if ([]:List bW).isEmpty then 0 else 1)<30))=ag) (hline:(p1.endLine==p2.line)=ag),Tr X a' (.e a)->Tr X (.spl a') (.e (.Call (.Attribute a "split" p1) [.Constant (.str " ") k p3] [] p2)):=by
 intro _ _ _ _ _ _ _ hs hbase hfew hline q0;refine⟨λΓ G=>?_,λ_ _ _ _ _ _ h=>nomatch h⟩;have iha:=q0.m Γ G;intro c g ρ r h;simp only[jhe,Cd]at h;split at h
 .rename_i x ex;split at h
  .rename_i y ey;obtain⟨z,q⟩:=jr h;cases q;exact DO.split (ey▸(iha c g ρ x ex).toT) z.1 (qy z.2) hs hbase hfew hline
  .cases h
 .cases h
theorem Tr.sti:∀{X:Cx}{a':Ex}{a:ar}{p pos:aQ}(hg:Gl X "str") (hs:ai [a] X.env=[(af,aH a X.env)]),Tr X a' (.e a)->Tr X (.sti a') (.e (.Call (.Name "str" p) [a] [] pos)):=by
 intro _ _ _ _ _ hg hs q0;refine⟨λΓ G=>?_,λ_ _ _ _ _ _ h=>nomatch h⟩;have iha:=q0.m Γ G;intro c g ρ r h;simp only[jhd,Dy]at h;split at h
 .rename_i x ex;split at h
  .rename_i i ei;obtain⟨z,q⟩:=jr h;cases q;exact DE.strI (ei▸(iha c g ρ x ex).toT) (log2_small z) (c.bt _ (by decide)) hg hs
  .cases h
 .cases h
theorem Tr.pF:∀{X:Cx}{a' b':Ex}{a:ar}{p:aQ}{es:List ar},Tr X a' (.e a)->Tr X b' (.p es)->Tr X (.cons a' b') (.p (.FormattedValue a (-1) ah p::es)):=by
 intro _ _ _ _ _ _ q0 q1;refine⟨λΓ G=>?_,λ_ _ _ _ _ _ _=>trivial⟩;have iha:=q0.m Γ G;have ihb:=q1.m Γ G;intro c g ρ rs h;simp only[Yi,consW]at h;split at h
 .rename_i x xs ex exs;cases h;exact⟨λy hy=>DE.fmt (iha c g ρ x ex).toT hy,ihb c g ρ xs exs⟩
 .cases h
theorem Tr.fst:∀{X:Cx}{es':Ex}{a b:ar}{es:List ar}{p:aQ},Tr X es' (.p (a::b::es))->Tr X (.fst es') (.e (.JoinedStr (a::b::es) p)):=by
 intro _ _ _ _ _ _ q0;refine⟨λΓ G=>?_,λ_ _ _ _ _ _ h=>nomatch h⟩;have ih:=q0.m Γ G;intro c g ρ r h;simp only[jhl,Vv]at h;split at h
 .rename_i rs ers;split at h
  .rename_i hl;cases e:v7 rs with
   |none=>rw[e]at h;cases h
   |some ys =>rw[e]at h;cases h;obtain⟨z1,z2⟩:=(ih c g ρ rs ers).all e;exact DE.joined z1 (Ws e) (by rw[z2];exact hl)
  .cases h
 .cases h
theorem Tr.isxV:∀{X:Cx}{i:Nat}{y:ao}{p p1 p2 pos:aQ}(hN:X.N[i]?=ae y) (hv:Vis X.env.scope y) (hd:(y==k5o)=af) (hcd:(y==k5p)=af) (hg:Gl X "isinstance") (hg2:Gl X "ValueError") (hs:ai [.Name y p1,.Name "ValueError" p2] X.env=(af,aH (.Name y p1) X.env)::ai [.Name "ValueError" p2] X.env),Tr X (.isx i ["ValueError"]) (.e (.Call (.Name "isinstance" p) [.Name y p1,.Name "ValueError" p2] [] pos)):=by
 intro _ _ _ _ _ _ _ hN hv hd hcd hg hg2 hs;refine⟨λΓ G=>?_,λ_ _ _ _ _ _ h=>nomatch h⟩;intro c g ρ r h;simp only[j85]at h;split at h
 .rename_i x e1 e2;split at h
  .rename_i hx;cases h;obtain⟨a,o,q⟩:=Ko e1;exact DE.isxV c.ea (List.contains_iff_mem.mp hx) q (c.bt _ (by decide)) (c.bt _ (by decide)) hN hv hd hcd hg hg2 hs rfl rfl
  .cases h
 .cases h
theorem Tr.isx1:∀{X:Cx}{i:Nat}{y c:ao}{p p1 p2 pos:aQ}(hc:c∈qe)(hcV:(c==("ValueError":ao))=af) (hN:X.N[i]?=ae y) (hv:Vis X.env.scope y) (hd:(y==k5o)=af) (hcd:(y==k5p)=af) (hg:Gl X "isinstance") (hg2:Gl X c) (hdb:(c==k5o)=af) (hs:ai [.Name y p1,.Name c p2] X.env=(af,aH (.Name y p1) X.env)::ai [.Name c p2] X.env),Tr X (.isx i [c]) (.e (.Call (.Name "isinstance" p) [.Name y p1,.Name c p2] [] pos)):=by
 intro _ _ _ _ _ _ _ _ hc hcV hN hv hd hcd hg hg2 hdb hs;refine⟨λΓ G=>?_,λ_ _ _ _ _ _ h=>nomatch h⟩;intro c g ρ r h;simp only[j85]at h;split at h
 .rename_i x e1 e2;split at h
  .rename_i hx;cases h;obtain⟨a,o,q⟩:=Ko e1;obtain⟨v,hv1⟩:=c.el e2 _ hc;simp only[cq,List.any_nil,hcV,ik,fi];exact DE.isx1 c.ea (List.contains_iff_mem.mp hx) q (c.bt _ (by decide)) hc hv1 (W.mg_of c.kin c.ns hv1) hN hv hd hcd hg hg2 hdb hs rfl rfl
  .cases h
 .cases h
section
variable{Γ:ao->List D->Rc}{G:ao->Option D}{X:Cx}
theorem sound{t:Ex}{nd:Nd}(h:Tr X t nd):Cok X G->Gok X Γ->jf6 Γ G X t nd:=h.m Γ G
theorem Ce{t:Ex}{nd:Nd}(h:Tr X t nd):Cok X G->Gok X Γ->∀ρ y,er Γ G t (j7 ρ)=ae y->XM X ρ y nd:=h.x Γ G
end
inductive Px where
 |nop
 |set (i:Nat) (e:Ex) (r:Px)
 |keep (i:Nat) (r:Px)
 |ifRet (c e:Ex) (r:Px)
 |ifRai (c:Ex) (x:ao) (m:Ex) (r:Px)
 |ifCal (c:Ex) (f:ao) (es:Ex) (r:Px)
 |ret (e:Ex)
 |take (i:Nat) (r:Px)
 |takeE (r:Px)
 |takeIf (i:Nat) (c e:Ex) (r:Px)
 |callS (i:Nat) (f:ao) (es:Ex) (r:Px)
 |appC (i:Nat) (f:ao) (es:Ex) (r:Px)
 |whlA (y:ao) (b r:Px)
 |ifAll (x:ao) (m:Ex) (r:Px)
inductive Sx where
 |nop
 |seq (a b:Sx)
 |set (i:Nat) (e:Ex)
 |expr (e:Ex)
 |ret (e:Ex)
 |retV (i:Nat)
 |ife (c:Ex) (a b:Sx)
 |loop (is:List Nat) (it:Ex) (body:Sx)
 |app (i:Nat) (e:Ex)
 |fgt (i:Nat)
 |keep (i:Nat)
 |dcp (i j:Nat) (k e:Ex)
 |taken (h q:Nat) (a b c t:Ex)
 |unp (i j:Nat) (e:Ex)
 |dmake (x t y:Nat) (it e:Ex)
 |ioN (es e:Ex)
 |retL (x:ao) (is:List Nat)
 |retC (f x:ao) (a b:Ex) (is:List Nat)
 |nmake (x t y:Nat) (it e1 e2:Ex)
 |pop3 (i j k w:Nat)
 |apop (i w:Nat) (e:Ex)
 |wmake (x t:Nat) (it e:Ex)
 |lent (h:Nat) (ea eb:Ex) (mid b:Sx)
 |lend (k p f:Nat) (b r:Sx)
 |px (p:Px)
 |newP (pi:Nat) (te:Ex) (p:Px)
 |raise (x:ao) (e:Ex)
 |tryK (b:Sx) (i j:Nat)
 |fail
inductive So where
 |next (ρ:En)
 |ret (r:Rc)
 |brk (ρ:En)
 |cnt (ρ:En)
 |err (x:ao) (ρ:En)
 |no
noncomputable def orE(o:So)(x:Option ao)(ρ:En):So:=match o with
 |.no=>match x with
  |some y=>.err y ρ
  |none=>.no
 |o=>o
noncomputable def v8(f:D->En->So):List D->En->So
 |[],ρ=>.next ρ
 |d::ds,ρ=>match f d ρ with
  |.next ρ'=>v8 f ds ρ'
  |.cnt ρ'=>v8 f ds ρ'
  |.brk ρ'=>.next ρ'
  |.ret r=>.ret r
  |.err x ρ'=>.err x ρ'
  |.no=>.no
noncomputable def j1r(c:En->Option Bool)(f:En->So):Nat->En->So
 |0,_=>.no
 |n+1,ρ=>match c ρ with
  |some af=>.next ρ
  |some ag=>match f ρ with
   |.next ρ'=>j1r c f n ρ'
   |.cnt ρ'=>j1r c f n ρ'
   |.brk ρ'=>.next ρ'
   |.ret r=>.ret r
   |.err x ρ'=>.err x ρ'
   |.no=>.no
  |none=>.no
noncomputable def stOf:Option W->Option D
 |some (.v x)=>x.st
 |_=>ah
noncomputable def j1b(f:En->Option D)(t y:Nat):List D->En->List (List Int)->List D->Option (List (List Int)×List D)
 |[],_,ks,vs=>ae (ks,vs)
 |d::ds,ρ,ks,vs=>match d with
  |.tup l=>match intsOf l,f (ρ.set t (.val d)) with
   |some k,ae d'=>if d'.isNon=ag then j1b f t y ds ((ρ.set t (.val d)).set y (.val d')) ks vs
    else if ks.contains k=af/\ks.length<aw then j1b f t y ds ((ρ.set t (.val d)).set y (.val d')) (ks++[k]) (vs++[d'])else ah
   |_,_=>ah
  |_=>ah
noncomputable def j7q(f1 f2:En->Option D)(x t y:Nat):List D->En->List (List Int)->List Int->Option (List (List Int)×List Int)
 |[],_,ks,ns=>ae (ks,ns)
 |d::ds,ρ,ks,ns=>match d with
  |.tup l=>match intsOf l,f1 (ρ.set t (.val d)) with
   |some k,ae d1=>match f2 (((ρ.set t (.val d)).set y (.val d1)).set x (.val (.dct ks (ns.map D.int)))) with
    |some (.int n)=>if ks.contains k=af/\ks.length<aw then j7q f1 f2 x t y ds ((ρ.set t (.val d)).set y (.val d1)) (ks++[k]) (ns++[n])else ah
    |_=>ah
   |_,_=>ah
  |_=>ah
noncomputable def j7f(f2:En->Option D)(x t:Nat):List D->En->List (List Int)->List Int->Option (List (List Int)×List Int)
 |[],_,ks,ns=>ae (ks,ns)
 |d::ds,ρ,ks,ns=>match d with
  |.tup l=>match intsOf l,f2 ((ρ.set t (.val d)).set x (.val (.dct ks (ns.map D.int)))) with
   |some k,ae (.int n)=>if ks.contains k=af/\ks.length<aw then j7f f2 x t ds (ρ.set t (.val d)) (ks++[k]) (ns++[n])else ah
   |_,_=>ah
  |_=>ah
noncomputable def Dt(ρ:En):List Nat->Option (List D)
 |[]=>ae []
 |i::is=>match ρ[i]?,Dt ρ is with
  |some (.val d),ae ds=>ae (d::ds)
  |_,_=>ah
noncomputable def Vt(i:Nat)(w:Option W)(ρ:En):So:=match w with
 |some (.v (.o l))=>.next (ρ.set i (.own l))
 |some (.v x)=>match x.st with
  |some d=>.next (ρ.set i (.val d))
  |none=>.no
 |_=>.no
noncomputable def retS(w:Option W):So:=match w with
 |some (.v (.o l))=>.ret (.fresh l)
 |some (.v x)=>.ret (.val x.d)
 |_=>.no
noncomputable def Mi(s:Option Sv):So:=match s with
 |some (.own l)=>.ret (.fresh l)
 |some (.val d)=>.ret (.val d)
 |_=>.no
noncomputable def Bm(w:Option W)(ρ:En):So:=match w with
 |some (.v _)=>.next ρ
 |_=>.no
noncomputable def Bt(i:Nat)(s:Option Sv)(w:Option W)(ρ:En):So:=match s,w with
 |some (.own l),ae (.v x)=>match x.st with
  |some d=>if l.length<aw then .next (ρ.set i (.own (l++[d])))else .no
  |none=>.no
 |_,_=>.no
noncomputable def Rg(x:ao)(w:Option W)(d:Option D)(ρ:En):So:=match w,d with
 |some (.v _),ae _=>.err x ρ
 |_,_=>.no
noncomputable def jht(i j:Nat)(d:Option D)(ρ:En):So:=match d with
 |some (.tup [d,d'])=>if i=j then .no else .next ((ρ.set i (.val d)).set j (.val d'))
 |_=>.no
noncomputable def Wc(i:Nat)(v:Option Sv)(ρ:En):So:=match v with
 |some (.own l)=>.next (ρ.set i (.val (.lst l)))
 |some (.val _)=>.next ρ
 |_=>.no
noncomputable def jiw(i j:Nat)(v:Option Sv)(k e:Option W)(ρ:En):So:=if i≠j/\i<ρ.length then match v with
  |some (.val (.sct kvs))=>match k,e with
   |some (.v y),ae (.v x)=>match y.d,x.d with
    |.str z,.int n=>if kvs.length<aw then .next (ρ.set i (.val (.sct (dput kvs z n))))else .no
    |_,_=>.no
   |_,_=>.no
  |_=>.no
 else .no
noncomputable def jfq(x:ao)(v:Option (List D)):So:=match v with
 |some ds=>.ret (.val (.fn x ds))
 |none=>.no
noncomputable def jfs(r:Rc):So:=match r with
 |.val d=>if noFn d=ag then .ret (.val d)else .no
 |_=>.no
noncomputable def jfr(Γ:ao->List D->Rc)(f x:ao)(v:Option (List D))(a b:Option W):So:=match v,a,b with
 |some ds,ae (.v u),ae (.v v)=>jfs (Γ f [u.d,v.d,.fn x ds])
 |_,_,_=>.no
noncomputable def popS(i j k w:Nat)(s:Option Sv)(ρ:En):So:=match s with
 |some (.own l)=>match l.getLast? with
  |some (.tup [a,b,c])=>.next ((((ρ.set w (.own l.dropLast)).set i (.val a)).set j (.val b)).set k (.val c))
  |_=>.no
 |_=>.no
noncomputable def jh9(i w:Nat)(s t:Option Sv)(x:Option W)(ρ:En):So:=match s,t,x with
 |some (.own l),ae (.own m),ae (.v y)=>match y.st with
  |some (.int z)=>match ixN m.length z with
   |some k=>match m[k]? with
    |some d=>if i≠w/\l.length<aw/\m.length<=1000000 then .next ((ρ.set w (.own (m.eraseIdx k))).set i (.own (l++[d])))else .no
    |none=>.no
   |none=>.no
  |_=>.no
 |_,_,_=>.no
noncomputable def U5:Sx->List Nat
 |.seq a b=>U5 a++U5 b
 |.set i _=>[i]
 |.ife _ a b=>U5 a++U5 b
 |_=>[]
noncomputable def Um(Γ:ao->List D->Rc)(G:ao->Option D):Sx->En->Option En
 |.nop,ρ=>ae ρ
 |.seq a b,ρ=>match Um Γ G a ρ with
  |some r=>Um Γ G b r
  |none=>ah
 |.set i e,ρ=>match stOf (ev Γ G e ρ) with
  |some d=>ae (ρ.set i (.val d))
  |none=>ah
 |.ife c a b,ρ=>match truth (ev Γ G c ρ) with
  |some ag=>Um Γ G a ρ
  |some af=>Um Γ G b ρ
  |none=>ah
 |_,_=>ah
noncomputable def plainS:Sv->Bool
 |.val _=>ag
 |.un=>ag
 |_=>af
noncomputable def j7u(s:Option Sv)(t:Bool):Sv:=match s with
 |some (.val d)=>if t=ag then(if vy d=ag then .val d else .un)else .val d
 |_=>.un
noncomputable def jgf(h:Nat)(is:List Nat)(ρ r:En):En:=(aS ρ.length).map λj=>if j=h then .un else if j∈is then j7u r[j]? ag else j7u ρ[j]? af
noncomputable def jge(h:Nat)(is:List Nat)(ρ:En)(a:Option D)(b:Option W)(m:En->Option En)(k:En->So):So:=match a,b with
 |some d0,ae (.v (.o lb))=>match m (ρ.set h (.val (.lst [d0,.lst lb]))) with
  |some r=>if h<ρ.length/\h∉is/\r.length=ρ.length/\r.all plainS=ag then k (jgf h is ρ r)else .no
  |none=>.no
 |_,_=>.no
noncomputable def j7t(m:D->En->Option En):List D->En->Option En
 |[],ρ=>ae ρ
 |d::ds,ρ=>match m d ρ with
  |some ρ'=>j7t m ds ρ'
  |none=>ah
noncomputable def bindM(is:List Nat)(m:En->Option En)(d:D)(ρ:En):Option En:=match zm is d ρ with
 |some ρ2=>m ρ2
 |none=>ah
noncomputable def jgg(k p f:Nat)(is:List Nat)(s:Option Sv)(ρ:En)(m:D->En->Option En)(r:En->So):So:=match s with
 |some (.own l)=>if qi l=ag/\f∉is/\f≠k/\f≠p then match j7t m (j1a l) ρ with
   |some ρ'=>r (ρ'.set f (.own []))
   |none=>.no
  else .no
 |_=>.no
inductive Sm where
 |next (ρ:En) (k:Nat)
 |ret (d:D) (k:Nat)
 |err (x:ao) (ρ:En)
 |no
noncomputable def j1q(f g:En->Nat->Sm)(y:ao)(ls:List ao):Nat->En->Nat->Sm
 |0,_,_=>.no
 |n+1,ρ,k=>if ls.getD k "" = y then g ρ k else match f ρ k with
  |.next ρ' k'=>j1q f g y ls n ρ' k'
  |.ret d k'=>.ret d k'
  |.err x ρ'=>.err x ρ'
  |.no=>.no
noncomputable def U3(Γ:ao->List D->Rc)(ls:List ao)(f:ao)(a:Option W)(k:Nat):Rc:=match a with
 |some (.a rs)=>match zg rs with
  |some ds=>Γ (mq f) (.lst (ls.map D.str)::.int (k:Int)::ds)
  |none=>.no
 |_=>.no
noncomputable def Ck(i:Nat)(w:Option W)(ρ:En)(r:En->Sm):Sm:=match w with
 |some (.v (.o l))=>r (ρ.set i (.own l))
 |some (.v x)=>match x.st with
  |some d=>r (ρ.set i (.val d))
  |none=>.no
 |_=>.no
noncomputable def Dj(i:Nat)(s:Option Sv)(ρ:En)(r:En->Sm):Sm:=match s with
 |some (.own l)=>r (ρ.set i (.val (.lst l)))
 |some (.val _)=>r ρ
 |_=>.no
noncomputable def Uo(w:Option W)(k:Nat):Sm:=match w with
 |some (.v (.o _))=>.no
 |some (.v x)=>.ret x.d k
 |_=>.no
noncomputable def V8(x:ao)(w:Option W)(d:Option D)(ρ:En):Sm:=match w,d with
 |some (.v _),ae _=>.err x ρ
 |_,_=>.no
noncomputable def ifP(c:Option Bool)(a b:Sm):Sm:=match c with
 |some ag=>a
 |some af=>b
 |none=>.no
noncomputable def W0(G:ao->Option D)(r:Rc)(ρ:En)(f:D->Nat->Sm):Sm:=match r with
 |.mval d k=>f d k
 |.merr x=>if (G (bang x)).isSome=ag then .err x ρ else .no
 |_=>.no
noncomputable def jj0(i:Nat)(s:Option Sv)(ρ:En)(d:D)(r:En->Sm):Sm:=match s with
 |some (.own l)=>if l.length<aw then r (ρ.set i (.own (l++[d])))else .no
 |_=>.no
noncomputable def jih(s:Option Sv)(r:Sm):Sm:=match s with
 |some (.own _)=>r
 |_=>.no
noncomputable def jhr(i:Nat)(d:Option D)(ρ:En)(r:En->Sm):Sm:=match d with
 |some d=>r (ρ.set i (.val d))
 |none=>.no
noncomputable def ji(fu:Nat)(Γ:ao->List D->Rc)(G:ao->Option D)(ls:List ao):Px->En->Nat->Sm
 |.nop,ρ,k=>.next ρ k
 |.set i e r,ρ,k=>Ck i (ev Γ G e ρ) ρ λρ=>ji fu Γ G ls r ρ k
 |.keep i r,ρ,k=>Dj i ρ[i]? ρ λρ=>ji fu Γ G ls r ρ k
 |.ifRet c e r,ρ,k=>ifP (truth (ev Γ G c ρ)) (Uo (ev Γ G e ρ) k) (ji fu Γ G ls r ρ k)
 |.ifRai c x m r,ρ,k=>ifP (truth (ev Γ G c ρ)) (V8 x (ev Γ G m ρ) (G (bang x)) ρ) (ji fu Γ G ls r ρ k)
 |.ifCal c f es r,ρ,k=>ifP (truth (ev Γ G c ρ)) (W0 G (U3 Γ ls f (ev Γ G es ρ) k) ρ Sm.ret) (ji fu Γ G ls r ρ k)
 |.ret e,ρ,k=>Uo (ev Γ G e ρ) k
 |.take i r,ρ,k=>ji fu Γ G ls r (ρ.set i (.val (.str (ls.getD k "")))) (k+1)
 |.takeE r,ρ,k=>ji fu Γ G ls r ρ (k+1)
 |.takeIf i c e r,ρ,k=>ifP (truth (ev Γ G c ρ)) (ji fu Γ G ls r (ρ.set i (.val (.str (ls.getD k "")))) (k+1)) (jhr i (stOf (ev Γ G e ρ)) ρ λρ=>ji fu Γ G ls r ρ k)
 |.callS i f es r,ρ,k=>W0 G (U3 Γ ls f (ev Γ G es ρ) k) ρ λd k'=>ji fu Γ G ls r (ρ.set i (.val d)) k'
 |.appC i f es r,ρ,k=>jih ρ[i]? (W0 G (U3 Γ ls f (ev Γ G es ρ) k) ρ λd k'=>jj0 i ρ[i]? ρ d λρ=>ji fu Γ G ls r ρ k')
 |.whlA y b r,ρ,k=>j1q (λρ k=>ji fu Γ G ls b ρ k) (λρ k=>ji fu Γ G ls r ρ k) y ls fu ρ k
 |.ifAll x m r,ρ,k=>if ls.length<=k then ji fu Γ G ls r ρ k else V8 x (ev Γ G m ρ) (G (bang x)) ρ
noncomputable def pxS(l k:Option Sv)(r:List ao->Nat->Sm):So:=match l,k with
 |some (.val (.lst l)),ae (.val (.int k))=>match strsOf l with
  |some ls=>if 0<=k then match r ls k.toNat with
    |.ret d k'=>.ret (.mval d k')
    |.err x _=>.ret (.merr x)
    |_=>.no
   else .no
  |none=>.no
 |_,_=>.no
noncomputable def newS(b:Bool)(w:Option W)(g:Option D)(r:List ao->Sm):So:=match b,w,g with
 |true,ae (.v x),ae _=>match x.d with
  |.str t=>if t.length<=100000/\je (aA t " ").length=ag then match r (aA t " ") with
    |.next ρ' _=>.next ρ'
    |.ret d _=>.ret (.val d)
    |.err x ρ'=>.err x ρ'
    |.no=>.no
   else .no
  |_=>.no
 |_,_,_=>.no
noncomputable def run(fu:Nat)(Γ:ao->List D->Rc)(G:ao->Option D):Sx->En->So
 |.nop,ρ=>.next ρ
 |.seq a b,ρ=>match run fu Γ G a ρ with
  |.next ρ'=>run fu Γ G b ρ'
  |o=>o
 |.set i e,ρ=>orE (Vt i (ev Γ G e ρ) ρ) (er Γ G e ρ) ρ
 |.expr e,ρ=>orE (Bm (ev Γ G e ρ) ρ) (er Γ G e ρ) ρ
 |.ret e,ρ=>orE (retS (ev Γ G e ρ)) (er Γ G e ρ) ρ
 |.retV i,ρ=>Mi ρ[i]?
 |.ife c a b,ρ=>match truth (ev Γ G c ρ) with
  |some ag=>run fu Γ G a ρ
  |some af=>run fu Γ G b ρ
  |none=>.no
 |.loop is it body,ρ=>match ev Γ G it (frz it ρ) with
  |some (.i ds)=>v8 (λd ρ=>match zm is d ρ with
   |some ρ2=>run fu Γ G body ρ2
   |none=>.no) ds (frz it ρ)
  |_=>.no
 |.app i e,ρ=>Bt i ρ[i]? (ev Γ G e ρ) ρ
 |.fgt i,ρ=>.next (ρ.set i .un)
 |.keep i,ρ=>Wc i ρ[i]? ρ
 |.px p,ρ=>pxS ρ[0]? ρ[1]? λls k=>ji fu Γ G ls p (.exc rfN::ρ.drop 2) k
 |.newP pi te p,ρ=>newS (decide (pi<ρ.length)) (ev Γ G te ρ) (G (qm "Pieces")) λls=>ji fu Γ G ls p (ρ.set pi (.exc rfN)) 0
 |.lend k p f b r,ρ=>jgg k p f (U5 b) ρ[f]? ρ (bindM [k,p] (Um Γ G b)) (run fu Γ G r)
 |.lent h ea eb mid b,ρ=>jge h (U5 mid) ρ (stOf (ev Γ G ea ρ)) (ev Γ G eb ρ) (Um Γ G mid) (run fu Γ G b)
 |.dcp i j k e,ρ=>jiw i j ρ[j]? (ev Γ G k (ρ.set i .un)) (ev Γ G e (ρ.set i .un)) ρ
 |.taken h q a b e t,ρ=>if h≠q/\h<ρ.length then match ev Γ G a ρ,ev Γ G b ρ with
   |some (.v (.o la)),ae (.v (.o lb))=>match ev Γ G e (ρ.set h (.val (.lst [.lst la,.lst lb]))) with
    |some (.v x)=>match x.st with
     |some d=>if vy d=ag/\truth (ev Γ G t ((ρ.set h (.val (.lst [.lst la,.lst lb]))).set q (.val d)))=ae af then .next ((ρ.set h (.val (.lst [.lst la.reverse,.lst []]))).set q (.val d))else .no
     |none=>.no
    |_=>.no
   |_,_=>.no
  else .no
 |.unp i j e,ρ=>jht i j (stOf (ev Γ G e ρ)) ρ
 |.dmake x t y it e,ρ=>if x<ρ.length/\t<ρ.length/\y<ρ.length/\x≠t/\x≠y/\t≠y then match ev Γ G it (ρ.set x .un) with
   |some (.i ds)=>match j1b (λρ=>stOf (ev Γ G e ρ)) t y ds (ρ.set x .un) [] [] with
    |some r=>.ret (.val (.dct r.1 r.2))
    |none=>.no
   |_=>.no
  else .no
 |.ioN es e,ρ=>match G (qm "_law_plan"),ev Γ G es ρ,ev Γ G e ρ with
  |some _,ae (.a [x,y,z]),ae (.v (.o [.int n]))=>match x.d,y.d,z.d with
   |.lst ls,.int draw,.int k=>match strsOf ls with
    |some ws=>if 0<=k/\k<=5/\ws.length<=60 then .ret (.val (Vj k.toNat ws draw n).1)else .no
    |none=>.no
   |_,_,_=>.no
  |_,_,_=>.no
 |.retL x is,ρ=>jfq x (Dt ρ is)
 |.retC f x a b is,ρ=>jfr Γ f x (Dt ρ is) (ev Γ G a ρ) (ev Γ G b ρ)
 |.nmake x t y it e1 e2,ρ=>if x<ρ.length/\t<ρ.length/\y<ρ.length/\x≠t/\x≠y/\t≠y then match ev Γ G it (ρ.set x .un) with
   |some (.i ds)=>match j7q (λρ=>stOf (ev Γ G e1 ρ)) (λρ=>stOf (ev Γ G e2 ρ)) x t y ds (ρ.set x .un) [] [] with
    |some r=>.ret (.val (.dct r.1 (r.2.map D.int)))
    |none=>.no
   |_=>.no
  else .no
 |.wmake x t it e,ρ=>if x<ρ.length/\t<ρ.length/\x≠t then match ev Γ G it (ρ.set x .un) with
   |some (.i ds)=>match j7f (λρ=>stOf (ev Γ G e ρ)) x t ds (ρ.set x .un) [] [] with
    |some r=>.ret (.val (.dct r.1 (r.2.map D.int)))
    |none=>.no
   |_=>.no
  else .no
 |.apop i w e,ρ=>jh9 i w ρ[i]? ρ[w]? (ev Γ G e ρ) ρ
 |.pop3 i j k w,ρ=>popS i j k w ρ[w]? ρ
 |.raise x e,ρ=>Rg x (ev Γ G e ρ) (G (bang x)) ρ
 |.tryK b i j,ρ=>match run fu Γ G b ρ with
  |.err x ρ'=>match G (bang x) with
   |some (.lst l)=>.next (((ρ'.set j (.exc x)).set i (.own l)).set j .un)
   |_=>.no
  |o=>o
 |.fail,_=>.no
section
variable{Γ:ao->List D->Rc}{G:ao->Option D}{ρ:En}{fu:Nat}
theorem j8a{a b}:run fu Γ G (.seq a b) ρ=(match run fu Γ G a ρ with
  |.next ρ'=>run fu Γ G b ρ'
  |o=>o):=(rfl)
theorem j89{i e}:run fu Γ G (.set i e) ρ=(orE (Vt i (ev Γ G e ρ) ρ) (er Γ G e ρ) ρ):=(rfl)
theorem jf5{e}:run fu Γ G (.expr e) ρ=(orE (Bm (ev Γ G e ρ) ρ) (er Γ G e ρ) ρ):=(rfl)
theorem j8b{e}:run fu Γ G (.ret e) ρ=(orE (retS (ev Γ G e ρ)) (er Γ G e ρ) ρ):=(rfl)
theorem jf1{i}:run fu Γ G (.retV i) ρ=(Mi ρ[i]?):=(rfl)
theorem jho{c a b}:run fu Γ G (.ife c a b) ρ=(match truth (ev Γ G c ρ) with
  |some ag=>run fu Γ G a ρ
  |some af=>run fu Γ G b ρ
  |none=>.no):=(rfl)
theorem jf3{is it body}:run fu Γ G (.loop is it body) ρ=(match ev Γ G it (frz it ρ) with
  |some (.i ds)=>v8 (λd ρ=>match zm is d ρ with
   |some ρ2=>run fu Γ G body ρ2
   |none=>.no) ds (frz it ρ)
  |_=>.no):=(rfl)
theorem jhp{i e}:run fu Γ G (.app i e) ρ=(Bt i ρ[i]? (ev Γ G e ρ) ρ):=(rfl)
theorem jf4{i}:run fu Γ G (.keep i) ρ=(Wc i ρ[i]? ρ):=(rfl)
theorem jf2 {pi te p}:run fu Γ G (.newP pi te p) ρ=(newS (decide (pi<ρ.length)) (ev Γ G te ρ) (G (qm "Pieces")) λls=>ji fu Γ G ls p (ρ.set pi (.exc rfN)) 0):=(rfl)
theorem jay{x e}:run fu Γ G (.raise x e) ρ=(Rg x (ev Γ G e ρ) (G (bang x)) ρ):=(rfl)
theorem jf0{b i j}:run fu Γ G (.tryK b i j) ρ=(match run fu Γ G b ρ with
  |.err x ρ'=>match G (bang x) with
   |some (.lst l)=>.next (((ρ'.set j (.exc x)).set i (.own l)).set j .un)
   |_=>.no
  |o=>o):=(rfl)
end
def jj7(X:Cx):List (ao×ak)->List Nat->Prop
 |[],is=>is=[]
 |p::cl,is=>∃(i:Nat)(r:List Nat),is=i::r/\X.N[i]?=ae p.1/\X.env.scope.names.lookup p.1=ae .cell/\X.env.cells.lookup p.1=ae p.2/\X.fn p.1=ag/\jj7 X cl r
inductive Ns where
 |s (st:aP)
 |ss (sts:List aP)
def TMs(X:Cx)(b:Sx)(ss:List aP):Prop:=∀(Γ:ao->List D->Rc)(G:ao->Option D),Cok X G->Gok X Γ->∀(ρ:Rho)(r:En),Um Γ G b (j7 ρ)=ae r->∃ρ',j7 ρ'=r/\DMs X ρ ρ' (U5 b) ss/\Kp ρ ρ' (U5 b)
def TMt(X:Cx)(b:Sx)(full tl:List aP):Prop:=∀(Γ:ao->List D->Rc)(G:ao->Option D),Cok X G->Gok X Γ->∀(ρ:Rho)(r:En),Um Γ G b (j7 ρ)=ae r->∃ρ',j7 ρ'=r/\DMt X ρ ρ' (U5 b) full tl
def Q6(pi:Nat)(o:Ob)(s:Sm)(P:Pm):Prop:=match s with
 |.next ρ' k=>∀ρ2,j7 ρ2=ρ'->(∃ob,ρ2[pi]?=ae (.raw o.a ob rfN))->P.nx ρ2 k
 |.ret d k=>P.rt d k
 |.err x ρ'=>∀ρ2,j7 ρ2=ρ'->P.ex x ρ2
 |.no=>False
def MP(X:Cx)(pi:Nat)(p:Px)(sts:List aP):Prop:=∀(fu:Nat)(Γ:ao->List D->Rc)(G:ao->Option D),Cok X G->Gok X Γ->∀C,X.mg "Pieces" = ae (.ref C)->PcX X C->∀(o:Ob)(ls:List ao)(ρ:Rho)(k:Nat)(P:Pm),
 (∃ob,ρ[pi]?=ae (.raw o.a ob rfN))->Q6 pi o (ji fu Γ G ls p (j7 ρ) k) P->MSs X C o ls ρ k sts P
noncomputable def Rt.rc:Rt->Rc
 |.val d=>.val d
 |.fresh l=>.fresh l
def Vr(o:So)(P:Po):Prop:=match o with
 |.next ρ'=>∀ρ2,j7 ρ2=ρ'->P.nx ρ2
 |.ret r=>∀x:Rt,x.rc=r->P.rt x
 |.brk ρ'=>∀ρ2,j7 ρ2=ρ'->P.bk ρ2
 |.cnt ρ'=>∀ρ2,j7 ρ2=ρ'->P.ct ρ2
 |.err x ρ'=>∀ρ2,j7 ρ2=ρ'->P.ex x ρ2
 |.no=>False
theorem Vi{o:So}{x:Option ao}{ρ:En}{P:Po}(h:Vr (orE o x ρ) P):Vr o P\/∃y,x=ae y/\∀ρ2,j7 ρ2=ρ->P.ex y ρ2:=by
 cases o with
 |no =>
  cases x with
  |none=>exact h.elim
  |some y=>exact .inr ⟨y,rfl,h⟩
 |_=>exact .inl h
def j8c(fu:Nat)(Γ:ao->List D->Rc)(G:ao->Option D)(X:Cx)(t:Sx):Ns->Prop
 |.s st=>∀ρ P,Vr (run fu Γ G t (j7 ρ)) P->DS X ρ st P
 |.ss sts=>∀ρ P,Vr (run fu Γ G t (j7 ρ)) P->DSs X ρ sts P
section
variable{K:k5k}{ρ:Rho}{σ:St}{H:Hp}{i j:Nat}{a:ak}{l:List D}
end
section
variable{X:Cx}{ρ:Rho}{e a b c:ar}{es:List ar}{st:aP}{rest sa sb body:List aP}{P:Po}{d:D}{ds ds':List D}{pos p p1 p2 p3:aQ}{x y:ao}{i j:Nat}
theorem DS.freeze(i:Nat){l:ak}(h:ρ[i]?=ae (.own l ds))(h2:DS X (ρ.set i (.val (.lst ds))) st P):DS X ρ st P:=λσ H E R q =>h2 σ H E (R.freeze h) (q.step (.drop λb hb=>(jd rfl).subset hb))
theorem DS.setCf{ρf:Rho}{tg elt iter:ar}{ifs:List ar}{scope:bh}{spos:aQ}(i:Nat)(cs:List Nat)(pr:D->Bool)(g:D->D)(hfr:∀K σ H,Rep K ρ σ H->Rep K ρf σ H)(hno:ρf=ρ\/qi ((ds.filter pr).map g)=ag)(hi:DI X ρf tg iter ds)
  (hb:∀C s H fp pn,∀d∈ds,∃ρ2,DG (cCx X scope C s H fp pn) ρf tg d ρ2/\Wk ρ2 ρf/\owns ρ2=owns ρf/\DTs (cCx X scope C s H fp pn) ρ2 ifs (pr d)/\(pr d=ag->DE (cCx X scope C s H fp pn) ρ2 elt (g d)))
  (h:∀l,P.nx (ρ.set i (.own l ((ds.filter pr).map g)))) (hN:X.N.Nodup) (hcs:∀j∈cs,ρf[j]?=ae .un) (hsz:ds.length<=aw) (hX:X.N[i]?=ae x) (hx:Loc X.env.scope x)
  (hf:X.fn x=ag\/X.env.scope.names.lookup x=ae .local)
  (hsw:aR (.ListComp elt [⟨tg,iter,ifs,0⟩] scope pos) (ae (.Name x p1)) spos.line X.env=pure ag)
  (hc:X.calm=ag) (hkind:scope.kind=.function) (hok:J9 scope X.env X.N cs=ag)
  (hs:∀x,aW iter X.env x=pure x):DS X ρ (.Assign [.Name x p1] (.ListComp elt [⟨tg,iter,ifs,0⟩] scope pos) spos) P:=λσ H E R q pins s I=>by
 have Rf:=hfr _ _ _ R;rw[exec_Assign_Name_used _ _ _ _ hsw];refine az (fX (az ?_));show aC _ X.A (do let _ <-comprehension (.ListComp elt [⟨tg,iter,ifs,0⟩] scope pos) scope X.env _ (newList []) af (aH iter X.env) (ae (fJ (.Name x p1) X.env))) _ _ s;refine az (b9 (fY (use:=ae (fJ (.Name x p1) X.env)) (Q:=λ_ s'=>SP X pins E .next s') rfl hs (O7 (R8 hok)) hkind (Uz hok)
  (thn (hi σ H (λJ H'=>j4 H H'/\W5 X.K (del H' (owns ρf)) J ds) Rf (λJ H' g1 ok=>⟨g1,ok⟩) pins s I) λv s1 h1=>thn h1 λitv s2 h2=>?_)) (λ_ s' hq=>aG (aG hq)) λ_ _ e=>e)
 obtain⟨it,fp,tn,J,H2,e,I2,T,st2,f2,g2,ok⟩:=h2;subst e;refine Nz (RR:=λacc C=>compPost (aB X.prog X.w) X.A X.xe (ae (fJ (.Name x p1) X.env)) (λ_ s'=>SP X pins E .next s') acc C) I2 (Rf.grow g2) T st2 f2 ok hc hkind hok hcs hsz hb ?_;intro D C xs H' s' m I' gg n m' en hm L;show aC _ X.A (fJ (.Name x p1) X.env (.ref D)) _ _ _;refine iv (Uh I' hN hX hx (v:=.ref D) rfl (λs'' I'' ⟨a,sb,ha⟩=>?_) hf);have hCa:C≠a:=by
  rcases ha with e|e
  .rw[e];exact L.loc
  .exact dH (L.cell x a e)
 have en':j6 X.K (del H' (D::owns ρ)) ((ds.filter pr).map g) xs:=by
  rcases hno with e|e
  .rw[e]at en;exact en
  .exact(en.mono qb).hide (λc hc=>by
    rcases km.mp hc with z|z
    .rw[z];exact .inl ⟨xs,m'⟩
    .exact .inl ((R.grow (g2.trans gg)).owned c z)) e
 refine⟨m,hm.sameBut sb hCa,λh' sb'=>⟨σ.set i (ae (.ref D)),H',I''.loose L sb',?_⟩⟩;exact q.nx _ _ H' (h D) (R.set_own (g2.trans gg) (g2.free n) m' en') (Fr0.new R (g2.trans gg) (g2.free n))
end
section
variable{fu:Nat}{Γ:ao->List D->Rc}{G:ao->Option D}{X:Cx}{P:Po}
theorem bind1{i:Nat}{y:ao}{p:aQ}(nd:X.N.Nodup)(hi:X.N[i]?=ae y)(hx:Loc X.env.scope y)(hf:X.fn y=ag\/X.env.scope.names.lookup y=ae .local) :
  ∀ρ d ρ2,zm [i] d (j7 ρ)=ae ρ2->∃ρ',j7 ρ'=ρ2/\DG X ρ (.Name y p) d ρ':=λρ d ρ2 h=>by
 simp only[zm]at h;cases h;exact⟨_,jy,DG.name _ nd hi hx hf⟩
theorem DS.setX{e:ar}{x y:ao}{i:Nat}{p pos:aQ}{ρ:Rho}(he:DX X ρ e y)(h:P.ex y ρ)(hN:X.N.Nodup)(hi:X.N[i]?=ae x)(hx:Loc X.env.scope x)(hs:aR e (ae (.Name x p)) pos.line X.env=pure af)(hf:X.fn x=ag\/X.env.scope.names.lookup x=ae .local) :
  DS X ρ (.Assign [.Name x p] e pos) P:=λσ H E R q=>(Zd hN hi hx peS hs hf).to (he σ H _ R (q.ex y ρ σ H h R (Fr0.refl _ _)))
theorem DS.exprX{e:ar}{y:ao}{pos:aQ}{ρ:Rho}(he:DX X ρ e y)(h:P.ex y ρ)(hs:aR e ah pos.line X.env=pure af):DS X ρ (.Expr e pos) P:=λσ H E R q =>(Ow peS hs).to (he σ H _ R (q.ex y ρ σ H h R (Fr0.refl _ _)))
theorem DS.retX{e:ar}{y:ao}{pos:aQ}{ρ:Rho}(he:DX X ρ e y)(h:P.ex y ρ):DS X ρ (.Return (ae e) pos) P:=λσ H E R q =>(Ze peS).to (he σ H _ R (q.ex y ρ σ H h R (Fr0.refl _ _)))
theorem j0z{is:List Nat}{it':Ex}{b:Sx}{it tg:ar}{body:List aP}{pos:aQ}{ρ:Rho}(hq:X.calm=ag)(c:Cok X G)(hs:∀x,aW it X.env x=pure x)
  (hb:∀ρ d ρ2,zm is d (j7 ρ)=ae ρ2->∃ρ',j7 ρ'=ρ2/\DG X ρ tg d ρ') (hi:∀ρ ds,ev Γ G it' (j7 ρ)=ae (.i ds)->DI X ρ tg it ds)
  (ih:∀ρ P,Vr (run fu Γ G b (j7 ρ)) P->DSs X ρ body P) (h:Vr (run fu Γ G (.loop is it' b) (j7 ρ)) P):DS X ρ (.For tg it body [] pos) P:=by
 have main:∀ρf:Rho,j7 ρf=frz it' (j7 ρ)->DS X ρf (.For tg it body [] pos) P:=λρf ef=>by
  rw[jf3]at h;rw[<-ef]at h;split at h
  .rename_i ds hds;generalize hf:(λd ρ=>_:D->En->So)=f at h;refine DS.for (ds:=ds) (λi ρ'=>Vr (v8 f (ds.drop i) (j7 ρ')) P) (hi ρf ds hds) (by rw[cK];exact h) (λi d ρ' hd w=>?_) (λρ' w=>?_) hq c.po hs
   .have hdr:ds.drop i=d::ds.drop (i+1):=by obtain⟨hlt,e⟩:=Xn.mp hd;rw[eY hlt,e]
    rw[hdr,v8]at w;have ef2:f d (j7 ρ')=match zm is d (j7 ρ')with|some ρ2=>run fu Γ G b ρ2|none=>.no:=by rw[<-hf]<;>rfl
    rw[ef2]at w;cases hb2:zm is d (j7 ρ') with
    |none=>rw[hb2]at w;exact w.elim
    |some ρ2 =>
     rw[hb2]at w;obtain⟨ρ3,e3,dg⟩:=hb ρ' d ρ2 hb2;refine⟨ρ3,dg,ih ρ3 _ ?_⟩;rw[e3];dsimp only at w;cases ho:run fu Γ G b ρ2 with
     |next ρ4=>rw[ho]at w;exact λρ5 e=>by rw[<-e]at w;exact w
     |cnt ρ4=>rw[ho]at w;exact λρ5 e=>by rw[<-e]at w;exact w
     |brk ρ4=>rw[ho]at w;exact w
     |ret r=>rw[ho]at w;exact w
     |err x ρ4=>rw[ho]at w;exact w
     |no=>rw[ho]at w;exact w
   .rw[List.drop_length,v8]at w;exact w ρ' rfl
  .exact h.elim
 by_cases z:J1 it' (j7 ρ)=ag
 .unfold J1 at z;split at z
  .rename_i i ei;split at z
   .rename_i l e;obtain⟨a,q⟩:=Qe e;refine DS.freeze i q (main _ ?_);rw[jy];simp only[frz,ei,e,Sl.abs]
   .cases z
  .cases z
 .have z':J1 it' (j7 ρ)=af:=by simpa using z
  refine main ρ ?_;unfold frz;split
  .rename_i i ei;split
   .rename_i l e;simp only[J1,ei,e]at z';cases z'
   .rfl
  .rfl
theorem j0d{is:List Nat}{elt' it' c':Ex}{elt it tg:ar}{ifs:List ar}{scope:bh}{p p1 pos:aQ}{k:Nat}{z:ao}{ρ:Rho}(hq:X.calm=ag)(hX:Cok X G)
  (hk:X.N[k]?=ae z) (hx:Loc X.env.scope z) (hf:X.fn z=ag\/X.env.scope.names.lookup z=ae .local)
  (hsw:aR (.ListComp elt [⟨tg,it,ifs,0⟩] scope p) (ae (.Name z p1)) pos.line X.env=pure ag)
  (hit:∀ρ ds,ev Γ G it' (j7 ρ)=ae (.i ds)->DI X ρ tg it ds) (hkind:scope.kind=.function) (hok:J9 scope X.env X.N is=ag) (hs:∀x,aW it X.env x=pure x)
  (hb:∀ρ d ρ2,zm is d (j7 ρ)=ae ρ2->(∀j∈is,ρ[j]?=ae .un)->∃ρ',j7 ρ'=ρ2/\Wk ρ' ρ/\owns ρ'=owns ρ/\∀C s H fp pn,DG (cCx X scope C s H fp pn) ρ tg d ρ')
  (he:∀C s H fp pn ρ r,ev Γ G elt' (j7 ρ)=ae (.v r)->Has (cCx X scope C s H fp pn) ρ elt r)
  (hc:∀C s H fp pn ρ,(ev Γ G c' (j7 ρ)=ae (.a [])->DTs (cCx X scope C s H fp pn) ρ ifs ag)/\∀y k,ev Γ G c' (j7 ρ)=ae (.a [y])->y.d=.bl k->DTs (cCx X scope C s H fp pn) ρ ifs k)
  (h:Vr (run fu Γ G (.set k (.comp is elt' it' c')) (j7 ρ)) P):DS X ρ (.Assign [.Name z p1] (.ListComp elt [⟨tg,it,ifs,0⟩] scope p) pos) P:=by
 rw[j89]at h;unfold Vt at h;have h:=(Vi h).resolve_right λ⟨y,ey,_⟩=>by simp only[er]at ey;cases ey
 cases e:ev Γ G (.comp is elt' it' c') (j7 ρ) with
 |none=>rw[e]at h;exact h.elim
 |some w =>
  rw[e]at h;cases w with
  |a _=>exact h.elim
  |i _=>exact h.elim
  |v r =>
   obtain⟨l,ρf,ds,pr,g,er,el,hfz,hi,hun,hz,hb'⟩:=Z8 hit hb he hc e;subst er;refine DS.setCf (ρf:=ρf) k is pr g ?_ ?_ hi hb' (λa=>?_) hX.nd hun hz hk hx hf hsw hq hkind hok hs
   .rcases hfz with e|⟨_,i,a,l',q,e⟩
    .subst e;exact λ_ _ _ R=>R
    .subst e;exact λ_ _ _ R=>R.freeze q
   .rcases hfz with e|⟨n,_⟩
    .exact .inl e
    .exact .inr (el▸n)
   .rw[<-el];exact h _ jy
end
structure Ts(X:Cx)(t:Sx)(nd:Ns):Prop where
 m:∀(fu:Nat)(Γ:ao->List D->Rc)(G:ao->Option D),Cok X G->Gok X Γ->j8c fu Γ G X t nd
theorem Ts.nil:∀{X:Cx},Ts X .nop (.ss []):=by intro _;refine⟨λfu Γ G=>?_⟩;intro c g ρ P h;exact DSs.nil (h ρ rfl)
theorem Ts.cons:∀{X:Cx}{a b:Sx}{st:aP}{rest:List aP},Ts X a (.s st)->Ts X b (.ss rest)->Ts X (.seq a b) (.ss (st::rest)):=by
 intro _ _ _ _ _ q0 q1;refine⟨λfu Γ G=>?_⟩;have iha:=q0.m fu Γ G;have ihb:=q1.m fu Γ G;intro c g ρ P h;rw[j8a]at h;split at h
 .rename_i ρ' e;exact DSs.cons (N:=λρ1=>j7 ρ1=ρ') (iha c g ρ _ (by rw[e];exact λρ2 z=>z)) λρ1 z=>ihb c g ρ1 P (by rw[z];exact h)
 .rename_i o hn;refine DSs.cons (N:=λ_=>False) (iha c g ρ _ ?_) λ_ z=>z.elim;cases e:run fu Γ G _ (j7 ρ) with
  |next ρ'=>exact absurd e (hn ρ')
  |ret r=>rw[e]at h;exact h
  |err x r=>rw[e]at h;exact h
  |brk r=>rw[e]at h;exact h
  |cnt r=>rw[e]at h;exact h
  |no=>rw[e]at h;exact h
theorem Ts.newP:∀{X:Cx}{pi:Nat}{y:ao}{te':Ex}{p:Px}{te:ar}{rest:List aP} {py p1 p2 pos:aQ} (hg:Gl X "Pieces") (hst:ai [te] X.env=(af,aH te X.env)::ai [] X.env) (hpl:(aV p2 (ai [] X.env)).any (·.1)=af) (hi:X.N[pi]?=ae y) (hx:Loc X.env.scope y) (hs:aR (.Call (.Name "Pieces" p1) [te] [] p2) (ae (.Name y py)) pos.line X.env=pure af) (hf:X.fn y=ag\/X.env.scope.names.lookup y=ae .local),Tr X te' (.e te)->MP X pi p rest->Ts X (.newP pi te' p) (.ss (.Assign [.Name y py] (.Call (.Name "Pieces" p1) [te] [] p2) pos::rest)):=by
 intro _ pi y te' p te rest py p1 p2 pos hg hst hpl hi hx hs hf hte hm;refine⟨λfu Γ G=>?_⟩;intro c g ρ P h;rw[jf2]at h;unfold newS at h;split at h
 .rename_i x d eb ex eg;have hl:pi<ρ.length:=by have:=of_decide_eq_true eb;unfold j7 at this;rw[xj]at this;exact this
  split at h
  .rename_i t et;split at h
   .rename_i hc;obtain⟨C,hC,T⟩:=c.pc d eg;dsimp only at h;refine DSs.make T (et▸(sound hte c g ρ x ex).toT) hc.1 (qy hc.2) hg hst hpl c.nd hi hx hs hf λo=>?_;refine hm fu Γ G c g C hC T o _ _ 0 _ ⟨dOb,Z9 hl⟩ ?_;rw[jy];show Q6 pi o (ji fu Γ G (aA t " ") p ((j7 ρ).set pi (.exc rfN)) 0) _;cases z:ji fu Γ G (aA t " ") p ((j7 ρ).set pi (.exc rfN)) 0 with
    |next ρ' k=>rw[z]at h;exact λρ2 e _=>h ρ2 e
    |ret d k=>rw[z]at h;exact h (.val d) rfl
    |err x ρ'=>rw[z]at h;exact h
    |no=>rw[z]at h;exact h
   .exact h.elim
  .exact h.elim
 .exact h.elim
theorem Ts.keep:∀{X:Cx}{i:Nat}{b:Sx}{sts:List aP},Ts X b (.ss sts)->Ts X (.seq (.keep i) b) (.ss sts):=by
 intro _ i _ _ q0;refine⟨λfu Γ G=>?_⟩;have ih:=q0.m fu Γ G;intro c g ρ P h;simp only[j8a,jf4,Wc]at h;cases e:(j7 ρ)[i]? with
 |none=>rw[e]at h;exact h.elim
 |some v =>
  rw[e]at h;cases v with
  |own l =>obtain⟨a,q⟩:=Qe e;exact DSs.freeze _ q (ih c g _ P (by rw[jy];exact h))
  |un=>exact h.elim
  |val d=>exact ih c g ρ P h
  |exc x=>exact h.elim
theorem Ts.set:∀{X:Cx}{i:Nat}{x:ao}{e':Ex}{e:ar}{p pos:aQ}(hi:X.N[i]?=ae x) (hx:Loc X.env.scope x) (hs:aR e (ae (.Name x p)) pos.line X.env=pure af) (hf:X.fn x=ag\/X.env.scope.names.lookup x=ae .local),Tr X e' (.e e)->Ts X (.set i e') (.s (.Assign [.Name x p] e pos)):=by
 intro _ _ _ _ _ _ _ hi hx hs hf he;refine⟨λfu Γ G=>?_⟩;intro c g ρ P h;have S:=sound he c g;rw[j89]at h;unfold Vt at h;rcases Vi h with h|⟨y,ey,hP⟩
 rotate_left
 .exact DS.setX (Ce he c g ρ y ey) (hP ρ rfl) c.nd hi hx hs hf
 split at h
 .rename_i l e;exact DS.setO _ (S ρ _ e) (λa=>h _ jy) c.nd hi hx hs hf
 .rename_i r hn e;split at h
  .rename_i d hd;exact DS.set _ ((S ρ _ e).toE hd) (h _ jy) c.nd hi hx hs hf
  .exact h.elim
 .exact h.elim
theorem Ts.setC1:∀{X:Cx}{k i:Nat}{z y:ao}{py p p1 pos:aQ}{elt' it' c':Ex}{elt it:ar}{ifs:List ar} {scope:bh} (hq:X.calm=ag) (hk:X.N[k]?=ae z) (hx:Loc X.env.scope z) (hf:X.fn z=ag\/X.env.scope.names.lookup z=ae .local) (hsw:aR (.ListComp elt [⟨.Name y py,it,ifs,0⟩] scope p) (ae (.Name z p1)) pos.line X.env=pure ag) (hi:X.N[i]?=ae y) (hl:Ym scope y=ag) (hkind:scope.kind=.function) (hok:J9 scope X.env X.N [i]=ag) (hs:∀x,aW it X.env x=pure x),Tr X it' (.i (.Name y py) it)->(∀C s H fp pn,Tr (cCx X scope C s H fp pn) elt' (.e elt))->(∀C s H fp pn,Tr (cCx X scope C s H fp pn) c' (.c ifs))->Ts X (.set k (.comp [i] elt' it' c')) (.s (.Assign [.Name z p1] (.ListComp elt [⟨.Name y py,it,ifs,0⟩] scope p) pos)):=by
 intro _ _ _ _ _ _ _ _ _ _ _ _ _ _ _ _ hq hk hx hf hsw hi hl hkind hok hs hit he hc;refine⟨λfu Γ G=>?_⟩;intro c g ρ P h;exact j0d hq c hk hx hf hsw (λρ ds z=>sound hit c g ρ ds z) hkind hok hs (λρ d ρ2 hb hun=>by
  simp only[zm]at hb
  cases hb
  have hu:=hun _ (xm.mpr rfl)
  exact⟨_,jy,Wk.set hu,Z5 hu,λC s H fp pn=>DG.name _ c.nd hi (W7 hl) (M8 hl)⟩)
  (λC s H fp pn ρ r z=>sound (he C s H fp pn) c.comp g.comp ρ r z) (λC s H fp pn ρ=>sound (hc C s H fp pn) c.comp g.comp ρ) h
theorem Ts.expr:∀{X:Cx}{e':Ex}{e:ar}{pos:aQ}(hs:aR e ah pos.line X.env=pure af),Tr X e' (.e e)->Ts X (.expr e') (.s (.Expr e pos)):=by
 intro _ _ _ _ hs he;refine⟨λfu Γ G=>?_⟩;intro c g ρ P h;rw[jf5]at h;unfold Bm at h;rcases Vi h with h|⟨y,ey,hP⟩
 rotate_left
 .exact DS.exprX (Ce he c g ρ y ey) (hP ρ rfl) hs
 split at h
 .rename_i r e;exact DS.expr (sound he c g ρ r e).toT (h ρ rfl) hs
 .exact h.elim
theorem Ts.ret:∀{X:Cx}{e':Ex}{e:ar}{pos:aQ},Tr X e' (.e e)->Ts X (.ret e') (.s (.Return (ae e) pos)):=by
 intro _ _ _ _ he;refine⟨λfu Γ G=>?_⟩;intro c g ρ P h;rw[j8b]at h;unfold retS at h;rcases Vi h with h|⟨y,ey,hP⟩
 rotate_left
 .exact DS.retX (Ce he c g ρ y ey) (hP ρ rfl)
 split at h
 .rename_i l e;exact DS.retO (sound he c g ρ _ e) (h _ rfl)
 .rename_i r hn e;exact DS.ret (sound he c g ρ _ e).toT (h _ rfl)
 .exact h.elim
theorem Ts.retV:∀{X:Cx}{i:Nat}{x:ao}{p pos:aQ}(hi:X.N[i]?=ae x) (hv:Vis X.env.scope x) (hd:(x==k5o)=af) (hcd:(x==k5p)=af),Ts X (.retV i) (.s (.Return (ae (.Name x p)) pos)):=by
 intro _ _ _ _ _ hi hv hd hcd;refine⟨λfu Γ G=>?_⟩;intro c g ρ P h;rw[jf1]at h;unfold Mi at h;split at h
 .rename_i l e;obtain⟨a,q⟩:=Qe e;exact DS.retV _ q (h _ rfl) hi hv hd hcd
 .rename_i d e;exact DS.ret (DE.toT (DE.var _ (Km e) hi hv hd hcd)) (h _ rfl)
 .exact h.elim
theorem Ts.ife:∀{X:Cx}{c':Ex}{a b:Sx}{c:ar}{sa sb:List aP}{pos:aQ},Tr X c' (.b c)->Ts X a (.ss sa)->Ts X b (.ss sb)->Ts X (.ife c' a b) (.s (.If c sa sb pos)):=by
 intro _ _ _ _ _ _ _ _ hc q1 q2;refine⟨λfu Γ G=>?_⟩;have iha:=q1.m fu Γ G;have ihb:=q2.m fu Γ G;intro c g ρ P h;rw[jho]at h;split at h
 .rename_i e;exact DS.if (sound hc c g ρ ag e) (λ_=>iha c g ρ P h) λz=>by cases z
 .rename_i e;exact DS.if (sound hc c g ρ af e) (λz=>by cases z) λ_=>ihb c g ρ P h
 .exact h.elim
theorem Ts.for1:∀{X:Cx}{i:Nat}{y:ao}{it':Ex}{b:Sx}{it:ar}{body:List aP} {p pos:aQ} (hq:X.calm=ag) (hi:X.N[i]?=ae y) (hx:Loc X.env.scope y) (hf:X.fn y=ag\/X.env.scope.names.lookup y=ae .local) (hs:∀x,aW it X.env x=pure x),Tr X it' (.i (.Name y p) it)->Ts X b (.ss body)->Ts X (.loop [i] it' b) (.s (.For (.Name y p) it body [] pos)):=by intro _ _ _ _ _ _ _ _ _ hq hi hx hf hs hit q1;refine⟨λfu Γ G=>?_⟩;have ih:=q1.m fu Γ G;intro c g ρ P h;exact j0z hq c hs (bind1 c.nd hi hx hf) (λρ ds z=>sound hit c g ρ ds z) (ih c g) h
theorem Ts.app:∀{X:Cx}{i:Nat}{x:ao}{e':Ex}{e:ar}{p p1 p2 pos:aQ}(hN:X.N[i]?=ae x) (hv:Vis X.env.scope x) (hd:(x==k5o)=af) (hcd:(x==k5p)=af) (hst:ai [e] X.env=[(af,aH e X.env)]) (hline:(p1.endLine==p2.line)=ag) (hbase:bu (.Name x p) "append" X.env (aH (.Name x p) X.env)=aH (.Name x p) X.env) (hfew:((aV p2 (ai [e] X.env)).all (λx=>!x.1)&&(d4 p2 (bS [] X.env)).all (λx=>x.1.isSome)&&decide (([e]:List ar).length+([]:List bW).length+(if ([]:List bW).isEmpty then 0 else 1)<30))=ag),Tr X e' (.e e)->Ts X (.app i e') (.s (.Expr (.Call (.Attribute (.Name x p) "append" p1) [e] [] p2) pos)):=by
 intro _ _ _ _ _ _ _ _ _ hN hv hd hcd hst hline hbase hfew he;refine⟨λfu Γ G=>?_⟩;intro c g ρ P h;rw[jhp]at h;unfold Bt at h;split at h
 .rename_i l x el ex;obtain⟨a,q⟩:=Qe el;split at h
  .rename_i d hd';split at h
   .rename_i hz;exact DS.append _ q ((sound he c g ρ x ex).toE hd') hz (h _ jy) hN hv hd hcd hst hline hbase hfew rfl
   .exact h.elim
  .exact h.elim
 .exact h.elim
theorem Ts.raise:∀{X:Cx}{x:ao}{e':Ex}{e:ar}{np cpos pos:aQ}(hq:X.calm=ag)(hg:Gl X x) (hdb:(x==k5o)=af) (hs:ai [e] X.env=[(af,aH e X.env)]),Tr X e' (.e e)->Ts X (.raise x e') (.s (.Raise (ae (.Call (.Name x np) [e] [] cpos)) ah pos)):=by
 intro _ _ _ _ _ _ _ hq hg hdb hs he;refine⟨λfu Γ G=>?_⟩;intro c g ρ P h;rw[jay]at h;unfold Rg at h;split at h
 .rename_i r d er eg;obtain⟨hx,o,ho⟩:=c.ec _ _ eg;exact DS.raiseE c.ea hx ho (W.mg_of c.kin c.ns ho) c.kin hq (λσ H R=>(sound he c g ρ r er).toT σ H _ R λv H' g' _=>g') (h ρ rfl) hg hdb hs
 .exact h.elim
theorem Ts.tryK:∀{X:Cx}{b:Sx}{i j:Nat}{n k:ao}{body:List aP}{p p1 p2 p3 p4 p5 pos hpos:aQ}(hq:X.calm=ag) (hst:X.stack=X.env::X.outer) (hfm:X.env.frame=ae X.env.locals) (hgA:Gl X "AskError") (hg:Gl X "_law_kinds") (hN:X.N[j]?=ae n) (hlo:X.env.scope.names.lookup n=ae .local) (hd:(n==k5o)=af) (hcd:(n==k5p)=af) (hi:X.N[i]?=ae k) (hxk:Loc X.env.scope k) (hfk:X.fn k=ag\/X.env.scope.names.lookup k=ae .local) (hfn:X.fn n=ag\/X.env.scope.names.lookup n=ae .local) (hs:aR (.Call (.Name "_law_kinds" p) [.Name n p1] [] p2) (ae (.Name k p3)) p4.line X.env=pure af) (he:ai [.Name n p1] X.env=(af,aH (.Name n p1) X.env)::ai [] X.env) (hpl:(aV p2 (ai [] X.env)).any (·.1)=af),(∀pn xe,Ts { X with pn:=pn,xe:=xe } b (.ss body))->Ts X (.tryK b i j) (.s (.Try body [.ExceptHandler (ae (.Name "AskError" p5)) (ae n) [.Assign [.Name k p3] (.Call (.Name "_law_kinds" p) [.Name n p1] [] p2) p4] hpos] [] [] pos)):=by
 intro _ _ _ _ _ _ _ _ _ _ _ _ _ _ _ hq hst hfm hgA hg hN hlo hd hcd hi hxk hfk hfn hs he hpl q0;refine⟨λfu Γ G=>?_⟩;have ih:=λpn xe=>(q0 pn xe).m fu Γ G;intro c g ρ P h;refine DS.tryK (λpn xe hpo=>?_) c.ea hst hfm (c.dp hq) (c.un hq) c.nd hgA hg (by decide) hN hlo hd hcd hi hxk hfk hfn hs he hpl;refine ih pn xe ⟨c.un',c.un,c.dp,c.bt,c.gl,c.nd,hpo,c.ea,c.ec,c.el,c.kin,c.ns,c.kd,c.fn,λd e=>⟨(c.pl d e).ex⟩,λd e=>let ⟨C,h1,h2⟩:=c.pc d e;⟨C,h1,⟨h2.ex⟩⟩,c.lm⟩ ?_ ρ _ ?_
 .intro f ds;have q:=g f ds;cases e:Γ f ds with
  |val d=>rw[e]at q;exact⟨q.ex⟩
  |fresh l=>rw[e]at q;exact⟨q.ex⟩
  |err x=>rw[e]at q;exact⟨q.ex⟩
  |lval d=>rw[e]at q;exact q
  |mval d k=>rw[e]at q;exact λg ls k ds' h1 h2 C h3=>⟨(q g ls k ds' h1 h2 C h3).ex⟩
  |merr x=>rw[e]at q;exact λg ls k ds' h1 h2 C h3=>⟨(q g ls k ds' h1 h2 C h3).ex⟩
  |no=>trivial
 .rw[jf0]at h;split at h
  .rename_i x ρ' e;rw[e];split at h
   .rename_i l eg;obtain⟨hx,o,ho⟩:=c.ec _ _ eg;intro ρ2 e2;exact⟨hx,⟨o,ho⟩,l,c.kd x l eg,λe' oe a=>h _ (by rw[jy,jy,jy,e2];rfl)⟩
   .exact h.elim
  .rename_i o hn;cases e:run fu Γ G _ (j7 ρ) with
   |err x ρ'=>exact absurd e (hn x ρ')
   |next ρ'=>rw[e]at h;exact h
   |ret r=>rw[e]at h;exact h
   |brk r=>rw[e]at h;exact h
   |cnt r=>rw[e]at h;exact h
   |no=>rw[e]at h;exact h
section
theorem V7{fu:Nat}{Γ:ao->List D->Rc}{G:ao->Option D}{X:Cx}{t:Sx}{nd:Ns}(h:Ts X t nd):Cok X G->Gok X Γ->j8c fu Γ G X t nd:=h.m fu Γ G
end
section
variable{X:Cx}{pi i:Nat}{x y f:ao}{c' e' m' es':Ex}{c e m cl:ar}{es:List ar}{r b:Px}{st:aP}{sa rest:List aP}{p py p1 p2 p3 p4 p5 pos:aQ}{ρ:Rho}{o:Ob}
theorem Y4{s:Sl}(h:∃ob,ρ[pi]?=ae (.raw o.a ob rfN))(hip:i≠pi):∃ob,(ρ.set i s)[pi]?=ae (.raw o.a ob rfN):=let ⟨ob,h⟩:=h;⟨ob,by rw[zp hip];exact h⟩
theorem MP.keep(hip:i≠pi)(hr:MP X pi r rest):MP X pi (.keep i r) rest:=λfu Γ G c g C hC T o ls ρ k P hp h=>by
 rw[ji]at h;unfold Dj at h;split at h
 .rename_i l el;obtain⟨a,q⟩:=Qe el;have z:=hr fu Γ G c g C hC T o ls (ρ.set i (.val (.lst l))) k P (Y4 hp hip) (by rw[jy];exact h);exact λσ H E R pc q'=>z σ H E (R.freeze q) (pc.stay (v9 λb hb=>(jd rfl).subset hb)) (q'.step (.of0 (Fr0.drop λb hb=>(jd rfl).subset hb)))
 .exact hr fu Γ G c g C hC T o ls ρ k P hp h
 .exact h.elim
theorem MP.set(hip:i≠pi)(hi:X.N[i]?=ae x)(hx:Loc X.env.scope x)(hs:aR e (ae (.Name x p)) pos.line X.env=pure af)(hf:X.fn x=ag\/X.env.scope.names.lookup x=ae .local)(he:Tr X e' (.e e))(hr:MP X pi r rest) :
  MP X pi (.set i e' r) (.Assign [.Name x p] e pos::rest):=λfu Γ G c g C hC T o ls ρ k P hp h=>by
 rw[ji]at h;unfold Ck at h;split at h
 .rename_i l el;refine MSs.plain (N:=λρ1=>∃a,ρ1=ρ.set i (.own a l)) (DS.setO i (sound he c g ρ (.o l) el) (λa=>⟨a,rfl⟩) c.nd hi hx hs hf) λρ1 ⟨a,e1⟩=>?_;subst e1;exact hr fu Γ G c g C hC T o ls _ k P (Y4 hp hip) (by rw[jy];exact h)
 .rename_i w x' hn el;split at h
  .rename_i d ed;refine MSs.plain (N:=(· = ρ.set i (.val d))) (DS.set i ((sound he c g ρ x' el).toE ed) rfl c.nd hi hx hs hf) λρ1 e1=>?_;subst e1;exact hr fu Γ G c g C hC T o ls _ k P (Y4 hp hip) (by rw[jy];exact h)
  .exact h.elim
 .exact h.elim
theorem MP.setC{j:Nat}{z:ao}{elt' it' cd':Ex}{elt it:ar}{ifs:List ar}{scope:bh}(hip:i≠pi)(hq:X.calm=ag)(hk:X.N[i]?=ae z)(hx:Loc X.env.scope z)(hf:X.fn z=ag\/X.env.scope.names.lookup z=ae .local)
  (hsw:aR (.ListComp elt [⟨.Name y py,it,ifs,0⟩] scope p) (ae (.Name z p1)) pos.line X.env=pure ag) (hi:X.N[j]?=ae y) (hl:Ym scope y=ag) (hkind:scope.kind=.function) (hok:J9 scope X.env X.N [j]=ag) (hs:∀x,aW it X.env x=pure x)
  (hit:Tr X it' (.i (.Name y py) it)) (he:∀C s H fp pn,Tr (cCx X scope C s H fp pn) elt' (.e elt)) (hc:∀C s H fp pn,Tr (cCx X scope C s H fp pn) cd' (.c ifs)) (hr:MP X pi r rest) :
  MP X pi (.set i (.comp [j] elt' it' cd') r) (.Assign [.Name z p1] (.ListComp elt [⟨.Name y py,it,ifs,0⟩] scope p) pos::rest):=λfu Γ G cc gg C hC T o ls ρ k P hp h=>by
 rw[ji]at h;have main:∀l,ev Γ G (.comp [j] elt' it' cd') (j7 ρ)=ae (.v (.o l))->Q6 pi o (ji fu Γ G ls r ((j7 ρ).set i (.own l)) k) P->MSs X C o ls ρ k (.Assign [.Name z p1] (.ListComp elt [⟨.Name y py,it,ifs,0⟩] scope p) pos::rest) P:=λl el h=>by
  refine MSs.plain (N:=λρ1=>∃a,ρ1=ρ.set i (.own a l)) ?_ λρ1 ⟨a,e1⟩=>by subst e1;exact hr fu Γ G cc gg C hC T o ls _ k P (Y4 hp hip) (by rw[jy];exact h)
  obtain⟨l',ρf,ds,pr,g,er,el2,hfz,hi',hun,hz,hb'⟩:=Z8 (scope:=scope) (λρ ds z=>sound hit cc gg ρ ds z) (λρ d ρ2 hb hun=>by
    simp only[zm]at hb
    cases hb
    have hu:=hun _ (xm.mpr rfl)
    exact⟨_,jy,Wk.set hu,Z5 hu,λC s H fp pn=>DG.name _ cc.nd hi (W7 hl) (M8 hl)⟩)
    (λC s H fp pn ρ r z=>sound (he C s H fp pn) cc.comp gg.comp ρ r z) (λC s H fp pn ρ=>sound (hc C s H fp pn) cc.comp gg.comp ρ) el
  cases er;refine DS.setCf (ρf:=ρf) i [j] pr g ?_ ?_ hi' hb' (λa=>?_) cc.nd hun hz hk hx hf hsw hq hkind hok hs
  .rcases hfz with e|⟨_,i,a,l',q,e⟩
   .subst e;exact λ_ _ _ R=>R
   .subst e;exact λ_ _ _ R=>R.freeze q
  .rcases hfz with e|⟨n,_⟩
   .exact .inl e
   .exact .inr (el2▸n)
  .rw[<-el2];exact⟨a,rfl⟩
 unfold Ck at h;split at h
 .rename_i l el;exact main l el h
 .rename_i w x' hn el;exfalso;obtain⟨l',ρf,ds,pr,g,er,el2,hfz,hi',hun,hz,hb'⟩:=Z8 (scope:=scope) (λρ ds z=>sound hit cc gg ρ ds z) (λρ d ρ2 hb hun=>by
    simp only[zm]at hb
    cases hb
    have hu:=hun _ (xm.mpr rfl)
    exact⟨_,jy,Wk.set hu,Z5 hu,λC s H fp pn=>DG.name _ cc.nd hi (W7 hl) (M8 hl)⟩)
    (λC s H fp pn ρ r z=>sound (he C s H fp pn) cc.comp gg.comp ρ r z) (λC s H fp pn ρ=>sound (hc C s H fp pn) cc.comp gg.comp ρ) el
  subst er;exact hn l' rfl
 .exact h.elim
theorem MP.ret_ms{Γ:ao->List D->Rc}{G:ao->Option D}{C:ak}{ls:List ao}{k:Nat}{P:Pm}(he:Tr X e' (.e e))(c:Cok X G)(g:Gok X Γ)(h:Q6 pi o (Uo (ev Γ G e' (j7 ρ)) k) P):MSs X C o ls ρ k (.Return (ae e) pos::rest) P:=by
 unfold Uo at h;split at h
 .exact h.elim
 .rename_i w x' hn el;exact MSs.plain (N:=λ_=>False) (DS.ret (sound he c g ρ x' el).toT ⟨_,rfl,h⟩) λ_ z=>z.elim
 .exact h.elim
theorem MP.ret(he:Tr X e' (.e e)):MP X pi (.ret e') (.Return (ae e) pos::rest):=λfu Γ G c g C hC T o ls ρ k P hp h=>by rw[ji]at h;exact MP.ret_ms (pi:=pi) he c g h
theorem MP.ifRet(hc:Tr X c' (.b c))(he:Tr X e' (.e e))(hr:MP X pi r rest):MP X pi (.ifRet c' e' r) (.If c [.Return (ae e) p] [] pos::rest):=λfu Γ G cc g C hC T o ls ρ k P hp h=>by
 rw[ji]at h;unfold ifP at h;split at h
 .rename_i et;exact MSs.ife (sound hc cc g ρ ag et) (λ_=>MP.ret_ms (pi:=pi) he cc g (by
   unfold Q6 at h ⊢
   split at h
   .rename_i ρ' k' e1
    unfold Uo at e1
    split at e1<;>cases e1
   .exact h
   .exact h
   .exact h)) λz=>by cases z
 .rename_i et;exact MSs.ife (sound hc cc g ρ af et) (λz=>by cases z) λ_=>hr fu Γ G cc g C hC T o ls ρ k P hp h
 .exact h.elim
theorem MP.rai_ms {Γ:ao->List D->Rc} {G:ao->Option D} {C:ak} {ls:List ao} {k:Nat} {P:Pm} {np cpos:aQ} (hq:X.calm=ag) (hg:Gl X x) (hdb:(x==k5o)=af) (hs:ai [m] X.env=[(af,aH m X.env)]) (he:Tr X m' (.e m)) (c:Cok X G) (g:Gok X Γ)
  (h:Q6 pi o (V8 x (ev Γ G m' (j7 ρ)) (G (bang x)) (j7 ρ)) P):MSs X C o ls ρ k (.Raise (ae (.Call (.Name x np) [m] [] cpos)) ah pos::rest) P:=by
 unfold V8 at h;split at h
 .rename_i r d er eg;obtain⟨hx,o,ho⟩:=c.ec _ _ eg;exact MSs.plain (N:=λ_=>False) (DS.raiseE c.ea hx ho (W.mg_of c.kin c.ns ho) c.kin hq (λσ H R=>(sound he c g ρ r er).toT σ H _ R λv H' g' _=>g') (h ρ rfl) hg hdb hs) λ_ z=>z.elim
 .exact h.elim
theorem j2a{x:ao}{w:Option W}{d:Option D}{ρ:En}{P:Pm}(h:Q6 pi o (V8 x w d ρ) P):Q6 pi o (V8 x w d ρ) { P with nx:=λ_ _=>False }:=by
 unfold V8 at h ⊢;split at h
 .exact h
 .exact h
theorem MP.ifRai {np cpos:aQ} (hq:X.calm=ag) (hg:Gl X x) (hdb:(x==k5o)=af) (hs:ai [m] X.env=[(af,aH m X.env)]) (hc:Tr X c' (.b c)) (he:Tr X m' (.e m)) (hr:MP X pi r rest) :
  MP X pi (.ifRai c' x m' r) (.If c [.Raise (ae (.Call (.Name x np) [m] [] cpos)) ah p] [] pos::rest):=λfu Γ G cc g C hC T o ls ρ k P hp h=>by
 rw[ji]at h;unfold ifP at h;split at h
 .rename_i et;exact MSs.ife (sound hc cc g ρ ag et) (λ_=>MP.rai_ms (pi:=pi) hq hg hdb hs he cc g (j2a h)) λz=>by cases z
 .rename_i et;exact MSs.ife (sound hc cc g ρ af et) (λz=>by cases z) λ_=>hr fu Γ G cc g C hC T o ls ρ k P hp h
 .exact h.elim
theorem MP.ifAll {np cpos:aQ} (hq:X.calm=ag) (hg:Gl X x) (hdb:(x==k5o)=af) (hs:ai [m] X.env=[(af,aH m X.env)]) (hpN:X.N[pi]?=ae y) (hv:Vis X.env.scope y) (hd:(y==k5o)=af) (hcd:(y==k5p)=af) (mc:Ua X (.Name y py) "all_taken" p1 p2)
  (ht:∀whole,dz (.Call (.Attribute (.Name y py) "all_taken" p1) [] [] p2) X.env whole=(do let v <-whole;eN (Expr.Call (.Attribute (.Name y py) "all_taken" p1) [] [] p2).pos;dS [v] (i9 v))) (he:Tr X m' (.e m)) (hr:MP X pi r rest) :
  MP X pi (.ifAll x m' r) (.If (.UnaryOp .Not (.Call (.Attribute (.Name y py) "all_taken" p1) [] [] p2) p3) [.Raise (ae (.Call (.Name x np) [m] [] cpos)) ah p] [] pos::rest):=λfu Γ G cc g C hC T o ls ρ k P hp h=>by
 rw[ji]at h;obtain⟨ob,hp'⟩:=hp;refine MSs.ifAll T hp' hpN hv hd hcd mc ht (λz=>?_) λz=>?_
 .rw[if_neg z]at h;exact MP.rai_ms (pi:=pi) hq hg hdb hs he cc g (j2a h)
 .rw[if_pos z]at h;exact hr fu Γ G cc g C hC T o ls ρ k P ⟨ob,hp'⟩ h
theorem MP.take (hip:i≠pi) (hpN:X.N[pi]?=ae y) (hv:Vis X.env.scope y) (hd:(y==k5o)=af) (hcd:(y==k5p)=af) (mc:Ua X (.Name y py) "taken" p1 p2)
  (hi:X.N[i]?=ae x) (hx:Loc X.env.scope x) (hs:aR (.Call (.Attribute (.Name y py) "taken" p1) [] [] p2) (ae (.Name x p)) pos.line X.env=pure af) (hf:X.fn x=ag\/X.env.scope.names.lookup x=ae .local) (hr:MP X pi r rest) :
  MP X pi (.take i r) (.Assign [.Name x p] (.Call (.Attribute (.Name y py) "taken" p1) [] [] p2) pos::rest):=λfu Γ G cc g C hC T o ls ρ k P hp h=>by
 rw[ji]at h;obtain⟨ob,hp'⟩:=id hp;exact MSs.take T hp' hpN hv hd hcd mc cc.nd hi hx hs hf (hr fu Γ G cc g C hC T o ls _ (k+1) P (Y4 hp hip) (by rw[jy];exact h))
theorem j47 {Γ:ao->List D->Rc} {G:ao->Option D} {C:ak} {ls:List ao} {k:Nat} {P:Pm} {F:D->Nat->Sm} (cc:Cok X G) (g:Gok X Γ) (hC:X.mg "Pieces" = ae (.ref C)) (ha:Tr X es' (.a es)) (h:Q6 pi o (W0 G (U3 Γ ls f (ev Γ G es' (j7 ρ)) k) (j7 ρ) F) P) :
  (∃ds d k',DA X ρ es ds/\(CalM X f C λls2 k2 ds2 d2 k2'=>ls2=ls/\k2=k/\ds2=ds/\d2=d/\k2'=k')/\Q6 pi o (F d k') P) \/
  (∃ds z V,DTA X ρ es ds/\(CalMX X f C λls2 k2 ds2 x2=>ls2=ls/\k2=k/\ds2=ds/\x2=z)/\X.mg z=ae V/\P.ex z ρ):=by
 unfold U3 at h;split at h
 .rename_i rs ers;split at h
  .rename_i ds eds;have A:=sound ha cc g ρ rs ers;have q:=g (mq f) (.lst (ls.map D.str)::.int (k:Int)::ds);unfold W0 at h;split at h
   .rename_i d k' z;rw[z]at q;exact .inl ⟨ds,d,k',A.toA eds,q f ls k ds rfl rfl C hC,h⟩
   .rename_i z ez;split at h
    .rename_i hz;rw[ez]at q;obtain⟨d,hd⟩:=Xg.mp hz;obtain⟨hx,V,hV⟩:=cc.ec _ _ hd;exact .inr ⟨ds,z,V,(A.toA eds).toT,q f ls k ds rfl rfl C hC,W.mg_of cc.kin cc.ns hV,h ρ rfl⟩
    .exact h.elim
   .exact h.elim
  .exact h.elim
 .exact h.elim
theorem MP.callS(hip:i≠pi)(mm:MC X pi f es cl)(hi:X.N[i]?=ae x)(hx:Loc X.env.scope x)(hs:aR cl (ae (.Name x p)) pos.line X.env=pure af)(hf:X.fn x=ag\/X.env.scope.names.lookup x=ae .local)(ha:Tr X es' (.a es))(hr:MP X pi r rest) :
  MP X pi (.callS i f es' r) (.Assign [.Name x p] cl pos::rest):=λfu Γ G cc g C hC T o ls ρ k P hp h=>by
 rw[ji]at h;obtain⟨ob,hp'⟩:=id hp;rcases j47 cc g hC ha h with ⟨ds,d,k',A,cm,h⟩|⟨ds,z,V,A,cm,hV,h⟩
 .exact MSs.callS cm mm hp' A ⟨rfl,rfl,rfl,rfl,rfl⟩ cc.nd hi hx hs hf (hr fu Γ G cc g C hC T o ls _ k' P (Y4 hp hip) (by rw[jy];exact h))
 .exact MSs.callSX cm mm hp' A ⟨rfl,rfl,rfl,rfl⟩ hV cc.nd hi hx hs hf h
end
structure Fi where
 n:Nat
 nn:Nat
 body:Sx
 lam:Bool
noncomputable def jd4:Rc->Rc
 |.val d=>.lval d
 |_=>.no
noncomputable def fin:So->Rc
 |.ret r=>r
 |.next _=>.val .non
 |.err x _=>.err x
 |_=>.no
noncomputable def enter(F:Fi)(ds:List D):En:=ds.map Sv.val++ax (F.nn-F.n) Sv.un
noncomputable def evP(fu:Nat)(G:ao->Option D)(T:ao->Option Fi):Nat->ao->List D->Rc
 |0,_,_=>.no
 |n+1,f,ds=>match T f with
  |none=>.no
  |some F=>if ds.length=F.n then(if F.lam=ag then jd4 (fin (run fu (evP fu G T n) G F.body (enter F ds)))else fin (run fu (evP fu G T n) G F.body (enter F ds)))else .no
structure Lk(P:ay)(w:aE)(K:k5k)(mg:k5n)(base:aK)(x:ao)(F:Fi):Prop where
 ex:∃(st:aP)(f:ak)(fd:aL)(N ps:List ao),Fun K x x st f fd/\FnScope N ps (j0 st)/\ps.length=F.n/\N.length=F.nn/\Binds K fd ps []/\Dfl K x fd ps/\mg x=ae (.ref f) /\
  ∀(cdv:aj)(A:aF)(outer:List cG)(s:aq)(H:Hp)(E:XK)(xe:k5l),Ts ((ql CX0 P w K mg base N x (j0 st) f cdv A outer s H E).wish xe) F.body (.ss (jb st))
structure LkL(P:ay)(w:aE)(K:k5k)(mg:k5n)(base:aK)(x:ao)(F:Fi):Prop where
 ex:∃(tx:Tx)(N ps:List ao)(e:Ex),j12 K x=ae tx/\LamScope N ps tx.2.2/\N.length=F.n/\F.nn=F.n/\F.body=.ret e /\
  (∀(cl:List (ao×ak)) (pm:aj) (c:ak) (ctv:aj) (us:List aj),us.length=ps.length->c8 (W.kla_fn "<lambda>" (zb x) tx.1 tx.2.1 tx.2.2 cl pm (.ref c) ctv) ⟨us,[]⟩=pure (ps.zip us)) /\
  ∀(a c:ak)(cl:List (ao×ak)) (A:aF) (outer:List cG) (s:aq) (H:Hp),Tr (Vo P w K mg base N (zb x) tx.2.2 a (.ref c) cl A outer s H) e (.e tx.2.1)
def Rz(P:ay)(w:aE)(K:k5k)(mg:k5n)(base:aK)(C:ak):Prop:=∃(fA fT fL fI:ak)(dA dT dL dI:aL),PcT K mg C fA fT fL fI/\(FnOk P w K mg base CX0 1 fA dA ["self"] (W8 C)/\Binds K dA ["self"] []) /\
  (FnOk P w K mg base CX0 2 fT dT ["self"] (Oq C)/\Binds K dT ["self"] [])/\(FnOk P w K mg base CX0 1 fL dL ["self"] (j0a C)/\Binds K dL ["self"] [])/\(FnOk P w K mg base CX0 1 fI dI ["self","text"] (Ot C)/\Binds K dI ["self","text"] [])
structure LkP(P:ay)(w:aE)(K:k5k)(mg:k5n)(base:aK)(x:ao)(F:Fi):Prop where
 ex:∃(g:ao)(p:Px)(st:aP)(f:ak)(fd:aL)(N ps:List ao),x=mq g/\F.body=.px p/\Fun K g g st f fd/\FnScope N ps (j0 st)/\ps.length+1=F.n/\N.length+1=F.nn/\0<ps.length/\ps.length<=N.length/\Binds K fd ps []/\mg g=ae (.ref f)/\(∃C,mg "Pieces" = ae (.ref C)/\Rz P w K mg base C) /\
  ∀(cdv:aj)(A:aF)(outer:List cG)(s:aq)(H:Hp)(E:XK)(xe:k5l),MP ((ql CX0 P w K mg base N g (j0 st) f cdv A outer s H E).wish xe) 0 p (jb st)
def LkF(P:ay)(w:aE)(K:k5k)(mg:k5n)(base:aK)(f:ao)(F:Fi):Prop:=(F.lam=af->(Lk P w K mg base f F/\f.cps.toList.getLast?≠ae 62/\f.cps.toList.head?≠ae 64)\/LkP P w K mg base f F)/\(F.lam=ag->∃x,f=zb x/\LkL P w K mg base x F)
def j4d(P:ay)(w:aE)(K:k5k)(mg:k5n)(base:aK):Prop:=∃(f:ak)(fd:aL)(ps:List ao),FnOk P w K mg base CX0 11 f fd ps (jba K j7l)/\mg "_law_plan" = ae (.ref f)/\W.keepIn K (.ref f)=ag/\Binds K fd ps []/\Dfl K "_law_plan" fd ps
structure Tb(P:ay)(w:aE)(K:k5k)(mg:k5n)(base:aK)(G:ao->Option D):Prop where
 bt:∀x∈Qs,mg x=ah
 gl:∀x d,Zj x=af->G x=ae d->∃u v,mg x=ae u/\RelV v u/\∀H,Enc K H d v
 ea:Q8 K=ag
 ec:∀x d,G (bang x)=ae d->x∈qe/\∃o,W.nsIn K au x=ae (ae o)
 el:G "?" = ae (.bl ag)->∀c∈qe,∃v,W.nsIn K au c=ae (ae v)
 kin:K.In base
 ns:base.Ns au mg
 kd:∀x l,G (bang x)=ae (.lst l)->KindsP P w K mg base "_law_kinds" x l
 fn:∀f d,G (qm f)=ae d->∃fa,mg f=ae (.ref fa)/\W.keepIn K (.ref fa)=ag
 pl:∀d,G (qm "_law_plan")=ae d->j4d P w K mg base
 pc:∀d,G (qm "Pieces")=ae d->∃C,mg "Pieces" = ae (.ref C)/\Rz P w K mg base C
 lm:∀x∈Qx,∀f cdv,mg x=ae (.ref f)->Vx K f cdv->∃c Pt,cdv=.ref c/\W.codeHdIn K c Pt=ag/\W.tabIn K x=ae (c,Pt)
structure LkH(P:ay)(w:aE)(K:k5k)(mg:k5n)(base:aK)(x:ao)(F:Fi):Prop where
 ex:∃(st:aP)(f:ak)(fd:aL)(N:List ao)(p:ao),Fun K x x st f fd/\FnScope N [p] (j0 st)/\1<=N.length/\N.length=F.nn/\Binds K fd [p] []/\mg x=ae (.ref f) /\
  ∀(cdv:aj)(A:aF)(outer:List cG)(s:aq)(H:Hp),Ts { (ql CX0 P w K mg base N x (j0 st) f cdv A outer s H E0).nox with calm:=af } F.body (.ss (jb st))
section
variable{P:ay}{w:aE}{K:k5k}{mg:k5n}{base:aK}{fu:Nat}{G:ao->Option D}{T:ao->Option Fi}
theorem U6{N:List ao}{ds:List D}{F:Fi}(h1:ds.length=F.n)(h2:N.length=F.nn):j7 (qg N ds)=enter F ds:=by unfold j7 qg enter;rw[Xm,Xj,dJ,h1,h2];rfl
theorem W3(y:ao):(bang y).cps.toList.head?=ae 33:=by unfold bang;show(("!":ao).cps++y.cps).toList.head?=ae 33;rw[bQ];rfl
theorem Iz(y:ao):(mq y).cps.toList.head?=ae 64:=by unfold mq;show(("@":ao).cps++y.cps).toList.head?=ae 64;rw[bQ];rfl
theorem jcn{x y:ao}(h:mq x=mq y):x=y:=by unfold mq at h;have h:(⟨("@":ao).cps++x.cps⟩:ao)=⟨("@":ao).cps++y.cps⟩:=h;have h:=congrArg gI h;have e:x.cps=y.cps:=d7 h rfl;cases x;cases y;cases e;rfl
theorem Im:∀ls:List ao,strsOf (ls.map D.str)=ae ls
 |[]=>rfl
 |_::l=>by rw[X5,strsOf,Im l];rfl
theorem Ih{N:List ao}{a:ak}{ds:List D}{F:Fi}{ls:List D}{k:Int}(h1:ds.length+2=F.n)(h2:N.length+1=F.nn):j7 (startM N a ds)=.exc rfN::(enter F (.lst ls::.int k::ds)).drop 2:=by
 have e:N.length-(ds.length+1)=F.nn-F.n:=by omega
 unfold startM;rw[jy];unfold j7 qg enter;rw[Xm,Xj,dJ];simp only[X5,Pr,bZ,gb,cK,xn,e];rfl
theorem Ew (y:ao):bang y ≠ "?":=λh=>by have:=W3 y;rw[h]at this;exact absurd this (by decide)
theorem Ip(y:ao):(qm y).cps.toList.head?=ae 63:=by unfold qm;show(("??":ao).cps++y.cps).toList.head?=ae 63;rw[bQ];rfl
theorem Df (y:ao):qm y ≠ "?":=λh=>by
 have e:((qm y).cps.toList.drop 1).head?=ae 63:=by unfold qm;show((("??":ao).cps++y.cps).toList.drop 1).head?=ae 63;rw[bQ];rfl
 rw[h]at e;exact absurd e (by decide)
theorem jbw{x y:ao}(h:qm x=qm y):x=y:=by unfold qm at h;have h:(⟨("??":ao).cps++x.cps⟩:ao)=⟨("??":ao).cps++y.cps⟩:=h;have h:=congrArg gI h;have e:x.cps=y.cps:=d7 h rfl;cases x;cases y;cases e;rfl
theorem Eu(x y:ao):bang x≠qm y:=λh=>by have:=W3 x;rw[h,Ip]at this;exact absurd this (by decide)
theorem Yg{x y z:ao}(h:x++z=y++z):x=y:=by have h:(⟨x.cps++z.cps⟩:ao)=⟨y.cps++z.cps⟩:=h;have h:=congrArg gI h;have e:x.cps=y.cps:=Array.append_inj_left' h rfl;cases x;cases y;cases e;rfl
theorem j5x{x y:ao}(h:zb x=zb y):x=y:=Yg (Yg h)
theorem Nk(x:ao):(zb x).cps.toList.getLast?=ae 62:=by unfold zb;show(((x ++ ".<locals>.").cps)++("<lambda>":ao).cps).toList.getLast?=ae 62;rw[bQ,List.getLast?_append];rfl
theorem j11(x:ao):zb x∉Qx:=λh=>by
 have e:=Nk x
 revert e
 unfold Qx at h;rcases km.mp h with h|h
 .rw[h];decide
 rcases km.mp h with h|h
 .rw[h];decide
 rcases km.mp h with h|h
 .rw[h];decide
 .rw[xm.mp h];decide
theorem Kv (z:ao) (hz:z∈Qx) (hq:("_law_kinds":ao) ++ ".<locals>." = z ++ ".<locals>."):False:=by have e:=Yg hq;subst e;exact absurd hz (by decide)
noncomputable def G0(x:ao):Option D:=if x = "?" then ae (.bl ag)else ah
theorem Ku {F:Fi} (L:LkH P w K mg base "_law_kinds" F) (bt:∀x∈Qs,mg x=ah) (ea:Q8 K=ag) (el:∀c∈qe,∃v,W.nsIn K au c=ae (ae v)) (kin:K.In base) (ns:base.Ns au mg) {x:ao} {l:List D} (hnl:qi l=ag)
  (hr:run fu (λ_ _=>.no) G0 F.body (.exc x::ax (F.nn-1) .un)=.ret (.fresh l)):KindsP P w K mg base "_law_kinds" x l:=by
 obtain⟨st,f,fd,N,p,hfun,hsc,h1,hN,hb,hm,hts⟩:=L.ex;refine kinds_of hfun hsc hb hm h1 hnl λcdv A outer s H e o hdp hun=>?_;have nob:∀y,G0 (bang y)=ah:=λy=>if_neg (Ew y);have c:Cok { (ql CX0 P w K mg base N "_law_kinds" (j0 st) f cdv A outer s H E0).nox with calm:=af } G0:=by
  refine⟨?_,(λz=>by cases z),(λz=>by cases z),bt,λy d hb q=>?_,hsc.nd,Py,ea,λy d q=>?_,λ_=>el,kin,ns,λy l' q=>?_,λf d q=>?_,λd q=>?_,λd q=>?_,λz hz hq=>(Kv z hz hq).elim⟩
  .show A.units+3+100<bb;omega
  .unfold G0 at q;split at q
   .rename_i z;subst z;cases hb
   .cases q
  .rw[nob]at q;cases q
  .rw[nob]at q;cases q
  .rw[show G0 (qm f)=ah from if_neg (Df f)]at q;cases q
  .rw[show G0 (qm "_law_plan")=ah from if_neg (Df _)]at q;cases q
  .rw[show G0 (qm "Pieces")=ah from if_neg (Df _)]at q;cases q
 refine V7 (fu:=fu) (Γ:=λ_ _=>.no) (G:=G0) (hts cdv A outer s H) c (λ_ _=>trivial) _ _ ?_;have ab:j7 (.raw e o x::ax (N.length-1) .un)=.exc x::ax (F.nn-1) .un:=by unfold j7;rw[X5,dJ,hN];rfl
 rw[ab,hr];intro y hy;cases y with
 |val d=>cases hy
 |fresh l=>cases hy;rfl
theorem jbp{fu:Nat}{Γ:ao->List D->Rc}{G:ao->Option D}{e:Ex}{ρ:En}{d:D}(h:fin (run fu Γ G (.ret e) ρ)=.val d):∃r,ev Γ G e ρ=ae (.v r)/\r.d=d:=by
 rw[j8b]at h;cases z:ev Γ G e ρ with
 |none=>rw[z]at h;cases y:er Γ G e ρ<;>(rw[y]at h;cases h)
 |some w =>
  cases w with
  |v r =>
   rw[z]at h;cases r with
   |o l=>cases h
   |e d=>cases h;exact⟨_,rfl,rfl⟩
   |w l=>cases h;exact⟨_,rfl,rfl⟩
   |t d=>cases h;exact⟨_,rfl,rfl⟩
  |a l=>rw[z]at h;cases y:er Γ G e ρ<;>(rw[y]at h;cases h)
  |i l=>rw[z]at h;cases y:er Γ G e ρ<;>(rw[y]at h;cases h)
theorem j0n{C:ak}(h:Rz P w K mg base C){X:Cx}{n:Nat}(h1:X.prog=P)(h2:X.w=w)(h3:X.K=K)(h4:X.mg=mg)(h5:X.base=base)(hn:12<=n)(hr:Room n X.A):PcX X C:=by subst h1 h2 h3 h4 h5;obtain⟨fA,fT,fL,fI,dA,dT,dL,dI,a,b,c,d,e⟩:=h;exact⟨fA,fT,fL,fI,dA,dT,dL,dI,a,b,c,d,e,hr.mono nofun⟩
theorem Qp (t:Tb P w K mg base G) {X:Cx} {n:Nat} (h1:X.prog=P) (h2:X.w=w) (h3:X.K=K) (h4:X.mg=mg) (h5:X.base=base) (hn:12<=n) (hr:Room n X.A) (nd:X.N.Nodup) (po:eX (aB X.prog X.w) X.A X.env X.xe) (hlm:∀x∈Qx,X.env.qual=x ++ ".<locals>."->∃c P,X.env.code=.ref c/\W.codeHdIn K c P=ag/\W.tabIn K x=ae (c,P)):Cok X G:=by subst h1 h2 h3 h4 h5;exact⟨by have:=hr.un;omega,(λ_=>by have:=hr.un;omega),(λ_=>by have:=hr.dp;omega),t.bt,t.gl,nd,po,t.ea,t.ec,t.el,t.kin,t.ns,t.kd,t.fn,λd e=>let ⟨f,fd,ps,F,h1,h2,h3,h4⟩:=t.pl d e;⟨11,f,fd,ps,F,hr.mono hn,h1,h2,h3,h4⟩,λd e=>let ⟨C,h1,h2⟩:=t.pc d e;⟨C,h1,j0n h2 rfl rfl rfl rfl rfl hn hr⟩,hlm⟩
theorem Vm (t:Tb P w K mg base G) {g:ao} {f:ak} {cdv:aj} {env:cG} (hm:mg g=ae (.ref f)) (hcv:Vx K f cdv) (hq:env.qual=g ++ ".<locals>.") (hc:env.code=cdv):∀x∈Qx,env.qual=x ++ ".<locals>."->∃c P,env.code=.ref c/\W.codeHdIn K c P=ag/\W.tabIn K x=ae (c,P):=λx hx e=>by have eg:=Yg (hq.symm.trans e);subst eg;rw[hc];exact t.lm _ hx f cdv hm hcv
noncomputable def lv:Nat->Nat
 |0=>12
 |n+1=>lv n+2
theorem Q7:∀n,12<=lv n+1
 |0=>by decide
 |n+1=>by have:=Q7 n;unfold lv;omega
theorem Ml(hT:∀x F,T x=ae F->LkF P w K mg base x F)(t:Tb P w K mg base G):∀(n:Nat)(x:ao)(ds:List D),
  ∃(f:ak)(fd:aL)(ps:List ao),match evP fu G T n x ds with
   |.val d=>FnOk P w K mg base CX0 (lv n) f fd ps (spP K λds' d'=>ds'=ds/\d'=d)/\mg x=ae (.ref f)/\W.keepIn K (.ref f)=ag/\Binds K fd ps []/\Dfl K x fd ps
   |.fresh l=>FnOk P w K mg base CX0 (lv n) f fd ps (spF K λds' l'=>ds'=ds/\l'=l)/\mg x=ae (.ref f)/\W.keepIn K (.ref f)=ag/\Binds K fd ps []/\Dfl K x fd ps
   |.err y=>FnOk P w K mg base (CX1 P w) (lv n) f fd ps (spX K mg λds' z=>ds'=ds/\z=y)/\mg x=ae (.ref f)/\W.keepIn K (.ref f)=ag/\Binds K fd ps []
   |.lval d=>∀y,x=zb y->j1l P w K mg base (lv n) y λds' d'=>ds'=ds/\d'=d
   |.mval d k'=>∀g ls (k:Nat) ds',x=mq g->ds=.lst (ls.map D.str)::.int (k:Int)::ds'->∀C,mg "Pieces" = ae (.ref C)->FnOk P w K mg base CX0 (lv n) f fd ps (spM K C λls2 k2 ds2 d2 k2'=>ls2=ls/\k2=k/\ds2=ds'/\d2=d/\k2'=k')/\mg g=ae (.ref f)/\W.keepIn K (.ref f)=ag/\Binds K fd ps []
   |.merr y=>∀g ls (k:Nat) ds',x=mq g->ds=.lst (ls.map D.str)::.int (k:Int)::ds'->∀C,mg "Pieces" = ae (.ref C)->FnOk P w K mg base (CX1 P w) (lv n) f fd ps (j09 K mg C λls2 k2 ds2 x2=>ls2=ls/\k2=k/\ds2=ds'/\x2=y)/\mg g=ae (.ref f)/\W.keepIn K (.ref f)=ag/\Binds K fd ps []
   |.no=>True
 |0,x,ds=>⟨0,W.fnOf x x { posonlyargs:=[],args:=[],vararg:=ah,kwonlyargs:=[],kw_defaults:=[],kwarg:=ah,defaults:=[] } [] { kind:=.function,names:=[],isGenerator:=af,isCoroutine:=af } .none .none .none .none ah .none .none,[],trivial⟩
 |n+1,x,ds=>by
  have ih:=Ml hT t n;cases hF:T x with
  |none =>
   obtain⟨f,fd,ps,_⟩:=ih x ds;refine⟨f,fd,ps,?_⟩;have e:evP fu G T (n+1) x ds=.no:=by simp only[evP,hF]
   rw[e];trivial
  |some F =>
   have gok:∀{X:Cx},X.prog=P->X.w=w->X.K=K->X.mg=mg->X.base=base->Room (lv n+1) X.A->Gok X (evP fu G T n):=λ{X} h1 h2 h3 h4 h5 hr g ds'=>by
    subst h1 h2 h3 h4 h5;obtain⟨f',fd',ps',q⟩:=ih g ds';cases z:evP fu G T n g ds' with
    |val d=>rw[z]at q;exact⟨lv n,f',fd',ps',q.1,hr,q.2.1,q.2.2.1,q.2.2.2⟩
    |fresh l=>rw[z]at q;exact⟨lv n,f',fd',ps',q.1,hr,q.2.1,q.2.2.1,q.2.2.2⟩
    |err y=>rw[z]at q;exact⟨lv n,f',fd',ps',q.1,hr.mono (Pb _),q.2.1,q.2.2.1,q.2.2.2⟩
    |lval d=>rw[z]at q;exact λy hy=>⟨lv n,hr.mono (Pb _),q y hy⟩
    |mval d k=>rw[z]at q;exact λg' ls k ds'' h1 h2 C h3=>let ⟨a,b⟩:=q g' ls k ds'' h1 h2 C h3;⟨⟨lv n,f',fd',ps',a,hr.mono (Pb _),b⟩⟩
    |merr y=>rw[z]at q;exact λg' ls k ds'' h1 h2 C h3=>let ⟨a,b⟩:=q g' ls k ds'' h1 h2 C h3;⟨⟨lv n,f',fd',ps',a,hr.mono (Pb _),b⟩⟩
    |no=>trivial
   cases hlam:F.lam with
   |true =>
    obtain⟨f,fd,ps,_⟩:=ih x ds;refine⟨f,fd,ps,?_⟩;by_cases hl:ds.length=F.n
    .have e:evP fu G T (n+1) x ds=jd4 (fin (run fu (evP fu G T n) G F.body (enter F ds))):=by simp only[evP,hF,if_pos hl,hlam,if_true]
     rw[e];obtain⟨y,ey,L⟩:=(hT x F hF).2 hlam;obtain⟨tx,N,ps,ex,htx,hsc,hN,hnn,hbd,hba,htr⟩:=L.ex;cases ho:fin (run fu (evP fu G T n) G F.body (enter F ds)) with
     |val d =>intro y' hy';have eyy:y=y':=j5x (ey.symm.trans hy');subst eyy;refine jd2 (k:=lv n+1) htx hsc (λds' d' h=>by rw[h.1,hl,hN]) hba λa c cl A outer s H hcl hr ds' d' ⟨e1,e2⟩=>?_;subst e1 e2;have ab:j7 (qg N ds')=enter F ds':=U6 hl (by rw[hN,hnn]);rw[hbd,<-ab]at ho;obtain⟨r,er,ed⟩:=jbp ho;exact ed▸(sound (htr a c cl A outer s H) (Qp t rfl rfl rfl rfl rfl (Q7 _) hr hsc.nd Py λz hz hq=>absurd (Yg hq▸hz) (j11 y)) (gok rfl rfl rfl rfl rfl hr) (qg N ds') r er).toT
     |fresh l=>trivial
     |err z=>trivial
     |lval z=>trivial
     |mval z k=>trivial
     |merr z=>trivial
     |no=>trivial
    .have e:evP fu G T (n+1) x ds=.no:=by simp only[evP,hF,if_neg hl]
     rw[e];trivial
   |false =>
   rcases(hT x F hF).1 hlam with ⟨L,hlast,hhead⟩|L
   rotate_left
   .obtain⟨g0,p,st,f,fd,N,ps,hxg,hbody,hfun,hsc,hps,hN,hp0,hpN,hb,hm,⟨C0,hC0,hPc⟩,hmp⟩:=L.ex;refine⟨f,fd,ps,?_⟩;by_cases hl:ds.length=F.n
    .have e:evP fu G T (n+1) x ds=fin (run fu (evP fu G T n) G F.body (enter F ds)):=by simp only[evP,hF,if_pos hl,hlam,T5,if_false]
     rw[e,hbody,run];cases ho:pxS (enter F ds)[0]? (enter F ds)[1]? λls k=>ji fu (evP fu G T n) G ls p (.exc rfN::(enter F ds).drop 2) k with
     |next ρ' =>
      exfalso;unfold pxS at ho
      repeat' split at ho
      all_goals cases ho
     |brk _=>trivial
     |cnt _=>trivial
     |no=>trivial
     |err y ρ' =>
      exfalso;unfold pxS at ho
      repeat' split at ho
      all_goals cases ho
     |ret r =>
      have key:∀g ls (k:Nat) ds',x=mq g->ds=.lst (ls.map D.str)::.int (k:Int)::ds'->g0=g/\ds'.length+1=ps.length/\∀a:ak,
        (∀d k',r=.mval d k'->ji fu (evP fu G T n) G ls p (j7 (startM N a ds')) k=.ret d k')/\(∀y,r=.merr y->∃ρ',ji fu (evP fu G T n) G ls p (j7 (startM N a ds')) k=.err y ρ'):=λg ls k ds' h1 h2=>by
       refine⟨jcn (hxg.symm.trans h1),?_,λa=>?_⟩
       .rw[h2]at hl;simp only[xn]at hl;omega
       rw[Ih (F:=F) (ls:=ls.map D.str) (k:=(k:Int)) (by rw[h2]at hl;simp only[xn]at hl;omega) hN,<-h2];have e0:(enter F ds)[0]?=ae (.val (.lst (ls.map D.str))):=by rw[h2];rfl
       have e1:(enter F ds)[1]?=ae (.val (.int (k:Int))):=by rw[h2];rfl
       rw[e0,e1]at ho;unfold pxS at ho;simp only[Im,Xz,dQ,if_true]at ho;split at ho
       .rename_i d k' z;cases ho;exact⟨λd2 k2 q=>(by cases q;exact z),λy q=>(by cases q)⟩
       .rename_i y ρ' z;cases ho;exact⟨λd2 k2 q=>(by cases q),λy q=>(by cases q;exact⟨_,z⟩)⟩
       .cases ho
      have sh:(∃d k',r=.mval d k')\/∃y,r=.merr y:=by
       unfold pxS at ho
       repeat' split at ho
       all_goals (cases ho)
       .exact .inl ⟨_,_,rfl⟩
       .exact .inr ⟨_,rfl⟩
      rcases sh with ⟨d,k',er⟩|⟨y,er⟩
      .subst er;intro g ls k ds' h1 h2 C hC;obtain⟨eg,hl2,kk⟩:=key g ls k ds' h1 h2;subst eg;cases hC0.symm.trans hC;refine⟨jiq (n:=lv n+1) hfun hsc (λls2 k2 ds2 d2 k2' h=>by rw[h.2.2.1,hl2]) λcdv A outer s H E hcv hr o ls2 k2 ds2 d2 k2' h=>?_,hm,hfun.kp,hb⟩;obtain⟨rfl,rfl,rfl,rfl,rfl⟩:=h;have ck:=Qp t (X:=(ql CX0 P w K mg base N g0 (j0 st) f cdv A outer s H E).nox) rfl rfl rfl rfl rfl (Q7 _) hr hsc.nd Py (Vm t hm hcv rfl rfl);refine hmp cdv A outer s H E _ fu (evP fu G T n) G ck (gok rfl rfl rfl rfl rfl hr) C0 hC0 (j0n hPc rfl rfl rfl rfl rfl (Q7 _) hr) o _ _ _ _ ⟨dOb,?_⟩ ?_
       .unfold startM;exact Z9 (by unfold qg;rw[X7,xj,xn];omega)
       .rw[(kk o.a).1 _ _ rfl];exact⟨rfl,rfl⟩
      .subst er;intro g ls k ds' h1 h2 C hC;obtain⟨eg,hl2,kk⟩:=key g ls k ds' h1 h2;subst eg;cases hC0.symm.trans hC;refine⟨jgz (n:=lv n+1) hfun hsc (λls2 k2 ds2 y2 h=>by rw[h.2.2.1,hl2]) λcdv A outer s H E hcv hr o ls2 k2 ds2 y2 h=>?_,hm,hfun.kp,hb⟩;obtain⟨rfl,rfl,rfl,rfl⟩:=h;have ck:=Qp t (X:=ql (CX1 P w) P w K mg base N g0 (j0 st) f cdv A outer s H E) rfl rfl rfl rfl rfl (Q7 _) hr hsc.nd dy (Vm t hm hcv rfl rfl);refine hmp cdv A outer s H E (ql (CX1 P w) P w K mg base N g0 (j0 st) f cdv A outer s H E).xe fu (evP fu G T n) G ck (gok rfl rfl rfl rfl rfl hr) C0 hC0 (j0n hPc rfl rfl rfl rfl rfl (Q7 _) hr) o _ _ _ _ ⟨dOb,?_⟩ ?_
       .unfold startM;exact Z9 (by unfold qg;rw[X7,xj,xn];omega)
       .obtain⟨ρ',z⟩:=(kk o.a).2 _ rfl;rw[z];exact λ_ _=>rfl
    .have e:evP fu G T (n+1) x ds=.no:=by simp only[evP,hF,if_neg hl]
     rw[e];trivial
   obtain⟨st,f,fd,N,ps,hfun,hsc,hps,hN,hb,hdf,hm,hts⟩:=L.ex;refine⟨f,fd,ps,?_⟩;by_cases hl:ds.length=F.n
   .have e:evP fu G T (n+1) x ds=fin (run fu (evP fu G T n) G F.body (enter F ds)):=by simp only[evP,hF,if_pos hl,hlam,T5,if_false]
    have ab:j7 (qg N ds)=enter F ds:=U6 hl hN;cases ho:run fu (evP fu G T n) G F.body (enter F ds) with
    |next ρ' =>rw[e,ho];refine⟨Bk (k:=lv n+1) hfun hsc (λds' d' h=>by rw[h.1,hl,hps]) λcdv A outer s H E hcv hr ds' d' ⟨e1,e2⟩=>?_,hm,hfun.kp,hb,hdf⟩;subst e1 e2;refine V7 (fu:=fu) (hts cdv A outer s H E _) (Qp t rfl rfl rfl rfl rfl (Q7 _) hr hsc.nd Py (Vm t hm hcv rfl rfl)) (gok rfl rfl rfl rfl rfl hr) (qg N ds') _ ?_;rw[ab,ho];exact λ_ _=>rfl
    |ret r =>
     rw[e,ho];cases r with
     |no=>trivial
     |lval d=>exact λy hy=>absurd (hy▸Nk y) hlast
     |mval d k=>exact λg _ _ _ hy=>absurd (hy▸Iz g) hhead
     |merr d=>exact λg _ _ _ hy=>absurd (hy▸Iz g) hhead
     |err y =>refine⟨j3c (k:=lv n+1) hfun hsc (λds' d' h=>by rw[h.1,hl,hps]) λcdv A outer s H E hcv hr ds' y' ⟨e1,e2⟩=>?_,hm,hfun.kp,hb⟩;subst e1 e2;refine V7 (X:=ql (CX1 P w) P w K mg base N x (j0 st) f cdv A outer s H E) (fu:=fu) (hts cdv A outer s H E (ql (CX1 P w) P w K mg base N x (j0 st) f cdv A outer s H E).xe) (Qp t rfl rfl rfl rfl rfl (Q7 _) hr hsc.nd dy (Vm t hm hcv rfl rfl)) (gok rfl rfl rfl rfl rfl hr) (qg N ds') _ ?_;rw[ab,ho];intro z hz;cases z<;>cases hz
     |val d =>
      refine⟨Bk (k:=lv n+1) hfun hsc (λds' d' h=>by rw[h.1,hl,hps]) λcdv A outer s H E hcv hr ds' d' ⟨e1,e2⟩=>?_,hm,hfun.kp,hb,hdf⟩;subst e1 e2;refine V7 (fu:=fu) (hts cdv A outer s H E _) (Qp t rfl rfl rfl rfl rfl (Q7 _) hr hsc.nd Py (Vm t hm hcv rfl rfl)) (gok rfl rfl rfl rfl rfl hr) (qg N ds') _ ?_;rw[ab,ho];intro y hy;cases y with
      |val d=>cases hy;rfl
      |fresh l=>cases hy
     |fresh l =>
      refine⟨j6j (k:=lv n+1) hfun hsc (λds' d' h=>by rw[h.1,hl,hps]) λcdv A outer s H E hcv hr ds' d' ⟨e1,e2⟩=>?_,hm,hfun.kp,hb,hdf⟩;subst e1 e2;refine V7 (fu:=fu) (hts cdv A outer s H E _) (Qp t rfl rfl rfl rfl rfl (Q7 _) hr hsc.nd Py (Vm t hm hcv rfl rfl)) (gok rfl rfl rfl rfl rfl hr) (qg N ds') _ ?_;rw[ab,ho];intro y hy;cases y with
      |val d=>cases hy
      |fresh l=>cases hy;rfl
    |err y ρ' =>rw[e,ho];refine⟨j3c (k:=lv n+1) hfun hsc (λds' d' h=>by rw[h.1,hl,hps]) λcdv A outer s H E hcv hr ds' y' ⟨e1,e2⟩=>?_,hm,hfun.kp,hb⟩;subst e1 e2;refine V7 (X:=ql (CX1 P w) P w K mg base N x (j0 st) f cdv A outer s H E) (fu:=fu) (hts cdv A outer s H E (ql (CX1 P w) P w K mg base N x (j0 st) f cdv A outer s H E).xe) (Qp t rfl rfl rfl rfl rfl (Q7 _) hr hsc.nd dy (Vm t hm hcv rfl rfl)) (gok rfl rfl rfl rfl rfl hr) (qg N ds') _ ?_;rw[ab,ho];exact λ_ _=>rfl
    |brk _=>rw[e,ho];trivial
    |cnt _=>rw[e,ho];trivial
    |no=>rw[e,ho];trivial
   .have e:evP fu G T (n+1) x ds=.no:=by simp only[evP,hF,if_neg hl]
    rw[e];trivial
end
noncomputable def Gof(gs:List (ao×D))(q:Bool)(xs:List (ao×List D))(fs:List ao)(x:ao):Option D :=
 if Zj x=ag then(if x = "?" then(if q=ag then ae (.bl ag)else ah) else((xs.find? λp=>bang p.1==x).map λp=>.lst p.2).or (if (fs.any λf=>qm f==x)=ag then ae .non else ah))else gs.lookup x
theorem j79{x y:ao}(h:bang x=bang y):x=y:=by unfold bang at h;have h:(⟨("!":ao).cps++x.cps⟩:ao)=⟨("!":ao).cps++y.cps⟩:=h;have h:=congrArg gI h;have e:x.cps=y.cps:=d7 h rfl;cases x;cases y;cases e;rfl
theorem Ie(x:ao):Zj (bang x)=ag:=by unfold Zj;rw[W3];rfl
theorem j4a(x:ao):Zj (qm x)=ag:=by unfold Zj;rw[Ip];rfl
theorem Lw{gs:List (ao×D)}{q:Bool}{xs:List (ao×List D)}{fs:List ao}{x:ao}{d:D}(h:Gof gs q xs fs (bang x)=ae d):∃p∈xs,p.1=x/\d=.lst p.2:=by
 unfold Gof at h;rw[if_pos (Ie x),if_neg (Ew x)]at h;have hn:(fs.any λf=>qm f==bang x)=af:=by rw[gH];intro f _ e;exact Eu x f (beq_iff_eq.mp e).symm
 rw[hn,if_neg (by decide),Option.or_none]at h;obtain⟨p,hp,rfl⟩:=Pq.mp h;have z:=List.find?_some (p:=λp:ao×List D=>bang p.1==bang x) hp;exact⟨p,List.mem_of_find?_eq_some hp,j79 (beq_iff_eq.mp z),rfl⟩
theorem Lr{gs:List (ao×D)}{q:Bool}{xs:List (ao×List D)}{fs:List ao}{x:ao}{d:D}(h:Gof gs q xs fs (qm x)=ae d):x∈fs:=by
 unfold Gof at h;rw[if_pos (j4a x),if_neg (Df x)]at h;have hn:(xs.find? λp=>bang p.1==qm x)=ah:=by rw[List.find?_eq_none];intro p _ e;exact Eu p.1 x (beq_iff_eq.mp e)
 rw[hn,Option.map_none,Option.none_or]at h;split at h
 .rename_i z;obtain⟨f,hf,e⟩:=List.any_eq_true.mp z;exact jbw (beq_iff_eq.mp e)▸hf
 .cases h
theorem jfa{P:ay}{w:aE}{K:k5k}{mg:k5n}{base:aK}{gs:List (ao×D)}{q:Bool}{xs:List (ao×List D)}{fs:List ao}(bt:∀x∈Qs,mg x=ah)
  (gl:∀x d,gs.lookup x=ae d->∃u v,mg x=ae u/\RelV v u/\∀H,Enc K H d v) (ea:Q8 K=ag) (hx:∀p∈xs,p.1∈qe/\∃o,W.nsIn K au p.1=ae (ae o))
  (el:q=ag->∀c∈qe,∃v,W.nsIn K au c=ae (ae v)) (kin:K.In base) (ns:base.Ns au mg) (fn:∀f∈fs,∃fa,mg f=ae (.ref fa)/\W.keepIn K (.ref fa)=ag) (kd:∀p∈xs,KindsP P w K mg base "_law_kinds" p.1 p.2) (lm:∀x∈Qx,∀f cdv,mg x=ae (.ref f)->Vx K f cdv->∃c Pt,cdv=.ref c/\W.codeHdIn K c Pt=ag/\W.tabIn K x=ae (c,Pt)) (pl:("_law_plan":ao)∈fs->j4d P w K mg base:=by exact λh=>absurd h (by decide)) (pc:("Pieces":ao)∈fs->∃C,mg "Pieces" = ae (.ref C)/\Rz P w K mg base C:=by exact λh=>absurd h (by decide)):Tb P w K mg base (Gof gs q xs fs):=by
 refine⟨bt,λx d hb h=>?_,ea,λx d h=>?_,λh=>el ?_,kin,ns,λx l h=>?_,λf d h=>fn f (Lr h),λd h=>pl (Lr h),λd h=>pc (Lr h),lm⟩
 .unfold Gof at h;rw[if_neg (by rw[hb];decide)]at h;exact gl x d h
 .obtain⟨p,hp,rfl,_⟩:=Lw h;exact hx p hp
 .unfold Gof at h;rw[if_pos (by decide),if_pos rfl]at h;split at h
  .rename_i z;exact z
  .cases h
 .obtain⟨p,hp,rfl,e⟩:=Lw h;cases e;exact kd p hp
def Dc(K:k5k):Sp:=λvs H Q _=>∃(a:ak)(ns:List Int),vs=[.ref a]/\TabOk K H/\SqL K H a (ns.map V.int)/\ns.length<=63/\∀H':Hp,j4 H H'->Q (.bl ag) H'
theorem Ky{K:k5k}{H:Hp}{a:ak}{ns:List Int}(h:SqL K H a (ns.map V.int)):j6 K H [.lst (ns.map D.int)] [.ref a] :=
 ⟨_,[],rfl,⟨a,_,rfl,h,j6.ints ns⟩,rfl⟩
theorem jd1{P:ay}{w:aE}{K:k5k}{mg:k5n}{base:aK}{fu:Nat}{G:ao->Option D}{T:ao->Option Fi}{n:Nat}{x p:ao}{fa:ak}{st:aP}{F:Fi}
  (hT:∀x F,T x=ae F->LkF P w K mg base x F) (t:Tb P w K mg base G)
  (hx:T x=ae F) (hlam:F.lam=af) (hm:mg x=ae (.ref fa)) {fd:aL} (hfun:Fun K x x st fa fd) (N:List ao) (hsc:FnScope N [p] (j0 st)) (h1:F.n=1) (hN:N.length=F.nn)
  (hts:∀(cdv:aj)(A:aF)(outer:List cG)(s:aq)(H:Hp)(E:XK)(xe:k5l),Ts ((ql CX0 P w K mg base N x (j0 st) fa cdv A outer s H E).wish xe) F.body (.ss (jb st)))
  (hlaw:∀ns:List Int,ns.length<=63->evP fu G T (n+1) x [.lst (ns.map D.int)]=.val (.bl ag)):FnOk P w K mg base CX0 (lv (n+1)) fa fd [p] (Dc K):=by
 have S:FnOk P w K mg base CX0 (lv (n+1)) fa fd [p] (spP K λds d=>∃ns:List Int,ns.length<=63/\ds=[.lst (ns.map D.int)]/\d=.bl ag):=by
  refine Bk (k:=lv n+1) hfun hsc (λds d ⟨ns,_,h,_⟩=>by rw[h];rfl) λcdv A outer s H E hcv hr ds d ⟨ns,hns,e1,e2⟩=>?_;subst e1 e2;have e:=hlaw ns hns;simp only[evP,hx,h1,hlam,T5,if_false,xn,Pk,if_true]at e;have ab:j7 (qg N [D.lst (ns.map D.int)])=enter F [D.lst (ns.map D.int)]:=U6 (by rw[h1];rfl) hN;have g:Gok (ql CX0 P w K mg base N x (j0 st) fa cdv A outer s H E).nox (evP fu G T n):=λg ds'=>by
   obtain⟨f',fd',ps',q⟩:=Ml (fu:=fu) hT t n g ds';cases z:evP fu G T n g ds' with
   |val d=>rw[z]at q;exact⟨lv n,f',fd',ps',q.1,hr,q.2.1,q.2.2.1,q.2.2.2⟩
   |fresh l=>rw[z]at q;exact⟨lv n,f',fd',ps',q.1,hr,q.2.1,q.2.2.1,q.2.2.2⟩
   |err y=>rw[z]at q;exact⟨lv n,f',fd',ps',q.1,hr.mono (Pb _),q.2.1,q.2.2.1,q.2.2.2⟩
   |lval d=>rw[z]at q;exact λy hy=>⟨lv n,hr.mono (Pb _),q y hy⟩
   |mval d k=>rw[z]at q;exact λg' ls k ds'' h1 h2 C h3=>let ⟨a,b⟩:=q g' ls k ds'' h1 h2 C h3;⟨⟨lv n,f',fd',ps',a,hr.mono (Pb _),b⟩⟩
   |merr y=>rw[z]at q;exact λg' ls k ds'' h1 h2 C h3=>let ⟨a,b⟩:=q g' ls k ds'' h1 h2 C h3;⟨⟨lv n,f',fd',ps',a,hr.mono (Pb _),b⟩⟩
   |no=>trivial
  refine V7 (fu:=fu) (hts cdv A outer s H E _) (Qp t rfl rfl rfl rfl rfl (Q7 _) hr hsc.nd Py (Vm t hm hcv rfl rfl)) g (qg N _) _ ?_;rw[ab];cases ho:run fu (evP fu G T n) G F.body (enter F [D.lst (ns.map D.int)]) with
  |ret r =>
   rw[ho]at e;have e:r=.val (.bl ag):=e;subst e;intro y hy;cases y with
   |val d=>cases hy;rfl
   |fresh l=>cases hy
  |next ρ'=>rw[ho]at e;cases e
  |brk _=>rw[ho]at e;cases e
  |cnt _=>rw[ho]at e;cases e
  |err _ _=>rw[ho]at e;cases e
  |no=>rw[ho]at e;cases e
 refine S.imp λvs H Q E ⟨a,ns,hv,tb,hS,hl,k⟩=>?_;subst hv;exact⟨[],_,_,tb,(λa h=>nomatch h),by rw[vd];exact Ky hS,⟨ns,hl,rfl,rfl⟩,λv H' g e=>by cases(show v=.bl ag from e);exact k H' g⟩
noncomputable def Fy(K:k5k):List (ak×ao):=Qx.filterMap λx=>(W.tabIn K x).map λq=>(q.2,zb x)
noncomputable def tOk(K:k5k)(ts:List ak):Bool:=(Qx.all λx=>match W.nsIn K au x with
  |some ah=>ag
  |_=>match W.tabIn K x with
   |some (c,P)=>W.codeHdIn K c P&&ts.contains P
   |none=>af)&&W.noTabs K&&decide ((Fy K).map (·.1)).Nodup
theorem j8j{K:k5k}{ts:List ak}{h:aK}(hk:tOk K ts=ag)(X:K.In h)(ht:∀P∈ts,h.get? P=ae (W.tabObj #[])):j7c (Fy K) h:=by
 unfold tOk at hk;rw[X6,X6]at hk;refine⟨of_decide_eq_true hk.2,λt hm=>?_⟩;obtain⟨x,hx,e⟩:=Ph.mp hm;obtain⟨⟨c,P⟩,e1,e2⟩:=Pq.mp e;subst e2;have z:=Xo.mp hk.1.1 x hx;split at z
 .rename_i y;exfalso;unfold W.tabIn at e1;rw[y]at e1;cases e1
 .rw[e1]at z;have z:(W.codeHdIn K c P&&ts.contains P)=ag:=z;rw[X6]at z;exact⟨⟨c,W.codeHd_of_K X z.1⟩,ht P (by simpa using z.2)⟩
theorem jgc{K:k5k}{ts:List ak}{h:aK}{mg:k5n}(hk:tOk K ts=ag)(X:K.In h)(Gn:h.Ns au mg):∀x∈Qx,∀f cdv,mg x=ae (.ref f)->Vx K f cdv->∃c Pt,cdv=.ref c/\W.codeHdIn K c Pt=ag/\W.tabIn K x=ae (c,Pt):=λx hx f cdv hm hcv=>by
 unfold tOk at hk;rw[X6,X6]at hk;have z:=Xo.mp hk.1.1 x hx;split at z
 .rename_i y;rw[W.mg_none_of X Gn y]at hm;cases hm
 .split at z
  .rename_i c P e;rw[X6]at z;refine⟨c,P,?_,z.1,e⟩;obtain⟨oc,od,fd,sl,e3,e4⟩:=hcv;unfold W.tabIn at e;split at e
   .rename_i f' hf;have e5:=W.mg_of X Gn hf;rw[hm]at e5;cases e5;rw[e3]at e;dsimp only at e;split at e
    .rename_i c' hc;split at e
     .split at e
      .cases e;rw[<-e4];exact hc
      .cases e
     .cases e
    .cases e
   .cases e
  .cases z
theorem jb7{K:k5k}{H:Hp}(hO:Only (Fy K) H):TabOk K H:=λx hx c P e=>hO.2 (P,zb x) (Ph.mpr ⟨x,hx,by rw[e];rfl⟩)
theorem j2r{K:k5k}{ts:List ak}(hk:tOk K ts=ag):W.noTabs K=ag:=by unfold tOk at hk;rw[X6,X6]at hk;exact hk.1.2
theorem walkL{l:cU}{q:ay}{loose:List ao}{XP:(ao->Option aj)->aK->Prop}{YP:aE->aK->Prop}{d:DefRec}{K:jO->k5k}{k:Nat}{x:ao}{ts:List ak}(hk:k<=100)(hn:l.most=ae 63)(hdf:d.params.defaults=[])
  (hY:∀(w:aE)(h:aK),YP w h->(K w.params).In h/\∀P∈ts,h.get? P=ae (W.tabObj #[])) (hK:∀w:aE,tOk (K w.params) ts=ag)
  (F:∀(w:aE)(mg:k5n)(fa:ak)(h:aK),(K w.params).In h->h.Ns au mg->mg d.name=ae (.ref fa)->tOk (K w.params) ts=ag ->
   ∃fd:aL,(∀(s:aq)(u:aj),eR s fd ⟨[u],[]⟩ [(x,u)])/\∀base:aK,(K w.params).In base->base.Ns au mg->FnOk l.prog w (K w.params) mg base CX0 k fa fd [x] (Dc (K w.params))) :
  fW q loose XP YP l.row.toRowW d [] (λf vs=>g6 f vs) :=
 L2.walk_of (n:=63) (k:=k) (x:=x) (CX:=λ_=>CX0) (sp:=λw=>Dc (K w.params)) (ts:=λw=>Fy (K w.params)) hn (by decide) hdf
  (Room.mono (k:=100) ⟨rfl,by decide,by decide⟩ hk) (λw h Y=>⟨(hY w h Y).1,j8j (hK w) (hY w h Y).1 (hY w h Y).2⟩) (λw=>j2r (hK w)) (λw mg fa h X G m=>F w mg fa h X G m (hK w)) (λw H a ns hl hO hS=>⟨a,ns,rfl,jb7 hO,hS,hl,λH' g=>⟨rfl,g⟩⟩) λ_ _ _ _ _ z=>z
def Lf(K:k5k)(x:ao)(st:aP):Prop:=∃(f:ak)(oc:aj)(od:Option ak)(kV dc pm:aj)(an:Option ak)(cd ct:aj)(sl:Array (Option aj)),W.nsIn K au x=ae (ae (.ref f)) /\
 K.lookup f=ae ⟨oc,od,.func (W.fnOf x x (qu st) (jb st) (j0 st) .none kV dc pm an cd ct),sl⟩/\W.codeIn K cd x=ag/\W.keepIn K (.ref f)=ag
def TrT(P:ay)(w:aE)(K:k5k)(mg:k5n)(base:aK)(x:ao)(N:List ao)(st:aP)(b:Sx):Prop :=
 ∀(f:ak)(cdv:aj)(A:aF)(outer:List cG)(s:aq)(H:Hp)(E:XK) (xe:k5l),Ts ((ql CX0 P w K mg base N x (j0 st) f cdv A outer s H E).wish xe) b (.ss (jb st))
def TrH(P:ay)(w:aE)(K:k5k)(mg:k5n)(base:aK)(x:ao)(N:List ao)(st:aP)(b:Sx):Prop :=
 ∀(f:ak)(cdv:aj)(A:aF)(outer:List cG)(s:aq)(H:Hp),Ts { (ql CX0 P w K mg base N x (j0 st) f cdv A outer s H E0).nox with calm:=af } b (.ss (jb st))
noncomputable def bOk(K:k5k):Bool:=Qs.all λx=>match W.nsIn K au x with
 |some ah=>ag
 |_=>af
noncomputable def xOk(K:k5k):Bool:=qe.all λx=>match W.nsIn K au x with
 |some (ae _)=>ag
 |_=>af
section
variable{P:ay}{w:aE}{K:k5k}{mg:k5n}{base h:aK}{x:ao}{st:aP}{N ps:List ao}{F:Fi}
theorem j84(X:K.In h)(Gn:h.Ns au mg)(hb:bOk K=ag):∀x∈Qs,mg x=ah:=λx hx=>by
 have z:=Xo.mp hb x hx;split at z
 .rename_i e;exact W.mg_none_of X Gn e
 .cases z
theorem jh4(hx:xOk K=ag):∀c∈qe,∃v,W.nsIn K au c=ae (ae v):=λc hc=>by
 have z:=Xo.mp hx c hc;split at z
 .rename_i v e;exact⟨v,e⟩
 .cases z
theorem zf(L:Lf K x st)(X:K.In h)(Gn:h.Ns au mg)(t:TrT P w K mg base x N st F.body)(ps:List ao)(sc:FnScope N ps (j0 st))(h1:ps.length=F.n)(h2:N.length=F.nn)
  (hb:∀(kV doc pm:aj)(an:Option ak)(cdv ct:aj)(us:List aj),us.length=ps.length->c8 (W.fnOf x x (qu st) (jb st) (j0 st) .none kV doc pm an cdv ct) ⟨us,[]⟩=pure (ps.zip us)) (hd:x∉jec):Lk P w K mg base x F:=by
 obtain⟨f,oc,od,kV,dc,pm,an,cd,ct,sl,a,l,c,k⟩:=L;exact⟨st,f,_,N,ps,Jr l c k,sc,h1,h2,(Jr l c k).binds hb,λz=>absurd z hd,W.mg_of X Gn a,t f⟩
theorem jcz{p:ao}(L:Lf K x st)(X:K.In h)(Gn:h.Ns au mg)(t:TrH P w K mg base x N st F.body)(sc:FnScope N [p] (j0 st))(h1:1<=N.length)(h2:N.length=F.nn)
  (hb:∀(kV doc pm:aj)(an:Option ak)(cdv ct:aj)(us:List aj),us.length=[p].length->c8 (W.fnOf x x (qu st) (jb st) (j0 st) .none kV doc pm an cdv ct) ⟨us,[]⟩=pure ([p].zip us)):LkH P w K mg base x F:=by
 obtain⟨f,oc,od,kV,dc,pm,an,cd,ct,sl,a,l,c,k⟩:=L;exact⟨st,f,_,N,p,Jr l c k,sc,h1,h2,(Jr l c k).binds hb,W.mg_of X Gn a,t f⟩
theorem lkF(L:Lk P w K mg base x F)(h:F.lam=af)(hn:x.cps.toList.getLast?≠ae 62)(hh:x.cps.toList.head?≠ae 64):LkF P w K mg base x F:=⟨λ_=>.inl ⟨L,hn,hh⟩,λz=>by rw[h]at z;cases z⟩
theorem us1{us:List aj}(h:us.length=1):∃a,us=[a]:=by match us,h with|[a],_=>exact⟨a,rfl⟩
theorem us2{us:List aj}(h:us.length=2):∃a b,us=[a,b]:=by match us,h with|[a,b],_=>exact⟨a,b,rfl⟩
theorem us3{us:List aj}(h:us.length=3):∃a b c,us=[a,b,c]:=by match us,h with|[a,b,c],_=>exact⟨a,b,c,rfl⟩
end
theorem lf_mk{K:k5k}{x:ao}{st:aP}{f:ak}{oc:aj}{od:Option ak}{kV dc pm:aj}{an:Option ak}{cd ct:aj}{sl:Array (Option aj)}(a:W.nsIn K au x=ae (ae (.ref f)))
  (l:K.lookup f=ae ⟨oc,od,.func (W.fnOf x x (qu st) (jb st) (j0 st) .none kV dc pm an cd ct),sl⟩) (c:W.codeIn K cd x=ag) (k:W.keepIn K (.ref f)=ag):Lf K x st:=⟨f,oc,od,kV,dc,pm,an,cd,ct,sl,a,l,c,k⟩
structure PcS(P:ay)(w:aE)(K:k5k)(mg:k5n)(base:aK)(sI sA sT sL:aP):Prop where
 scI:FnScope ["self","text"] ["self","text"] (j0 sI)
 scA:FnScope ["self"] ["self"] (j0 sA)
 scT:FnScope ["self","piece"] ["self"] (j0 sT)
 scL:FnScope ["self"] ["self"] (j0 sL)
 boI:∃(n n2:Nat)(p1 p2 p3 p4 p5 p6 p7 p8 p9 p10 p11:aQ),jb sI=j7y n n2 p1 p2 p3 p4 p5 p6 p7 p8 p9 p10 p11/\(p4.endLine==p6.line)=ag
 boA:∃(n:Nat)(p1 p2 p3 p4 p5 p6 p7 p8 p9 p10 p11 p12 p13 p14 p15 p16:aQ),jb sA=j4b n p1 p2 p3 p4 p5 p6 p7 p8 p9 p10 p11 p12 p13 p14 p15 p16
 boT:∃(n:Nat)(p1 p2 p3 p4 p5 p6 p7 p8 p9 p10 p11 p12 p13 p14:aQ),jb sT=j1y n p1 p2 p3 p4 p5 p6 p7 p8 p9 p10 p11 p12 p13 p14/\∀f cdv A outer s H E,Ua (ql CX0 P w K mg base ["self","piece"] "Pieces.taken" (j0 sT) f cdv A outer s H E).nox (.Name "self" p2) "ahead" p3 p4
 boL:∃(p1 p2 p3 p4 p5 p6 p7 p8:aQ),jb sL=allB p1 p2 p3 p4 p5 p6 p7 p8
 vi:Vis (j0 sI) "self"/\Vis (j0 sI) "text"/\Vis (j0 sA) "self"/\Vis (j0 sT) "self"/\Vis (j0 sL) "self"
 na:(j0 sA).names.lookup ("len":ao)=ae .globalImplicit/\(j0 sT).names.lookup ("piece":ao)=ae .local/\(j0 sL).names.lookup ("len":ao)=ae .globalImplicit
 biI:∀(kV doc pm:aj)(an:Option ak)(cdv ct:aj)(us:List aj),us.length=2->c8 (W.fnOf "__init__" "Pieces.__init__" (qu sI) (jb sI) (j0 sI) .none kV doc pm an cdv ct) ⟨us,[]⟩=pure ((["self","text"]:List ao).zip us)
 biA:∀(kV doc pm:aj)(an:Option ak)(cdv ct:aj)(us:List aj),us.length=1->c8 (W.fnOf "ahead" "Pieces.ahead" (qu sA) (jb sA) (j0 sA) .none kV doc pm an cdv ct) ⟨us,[]⟩=pure ((["self"]:List ao).zip us)
 biT:∀(kV doc pm:aj)(an:Option ak)(cdv ct:aj)(us:List aj),us.length=1->c8 (W.fnOf "taken" "Pieces.taken" (qu sT) (jb sT) (j0 sT) .none kV doc pm an cdv ct) ⟨us,[]⟩=pure ((["self"]:List ao).zip us)
 biL:∀(kV doc pm:aj)(an:Option ak)(cdv ct:aj)(us:List aj),us.length=1->c8 (W.fnOf "all_taken" "Pieces.all_taken" (qu sL) (jb sL) (j0 sL) .none kV doc pm an cdv ct) ⟨us,[]⟩=pure ((["self"]:List ao).zip us)
def Lm(K:k5k)(C f:ak)(x q:ao)(st:aP):Prop:=∃(oc:aj)(od:Option ak)(kV dc pm:aj)(an:Option ak)(cd ct:aj)(sl:Array (Option aj)),W.findIn K (.ref C) x=ae (ae (.ref f))/\W.isFn K (.ref f)=ag /\
 K.lookup f=ae ⟨oc,od,.func (W.fnOf x q (qu st) (jb st) (j0 st) .none kV dc pm an cd ct),sl⟩/\W.codeIn K cd q=ag/\W.keepIn K (.ref f)=ag
theorem lm_mk{K:k5k}{C f:ak}{x q:ao}{st:aP}{oc:aj}{od:Option ak}{kV dc pm:aj}{an:Option ak}{cd ct:aj}{sl:Array (Option aj)}(a:W.findIn K (.ref C) x=ae (ae (.ref f)))(i:W.isFn K (.ref f)=ag)
  (l:K.lookup f=ae ⟨oc,od,.func (W.fnOf x q (qu st) (jb st) (j0 st) .none kV dc pm an cd ct),sl⟩) (c:W.codeIn K cd q=ag) (k:W.keepIn K (.ref f)=ag):∃f,Lm K C f x q st:=⟨f,oc,od,kV,dc,pm,an,cd,ct,sl,a,i,l,c,k⟩
structure PcH(K:k5k)(C:ak)(sI sA sT sL:aP):Prop where
 at_:W.nsIn K au "Pieces" = ae (ae (.ref C))
 pg:W.plainGet K C cH=ag
 hd:W.hasDictIn K C=ag
 po:W.plainOver K C=ag
 sa:W.findIn K (.ref C) "__setattr__" = ae (ae (.builtin "object.__setattr__"))
 mk_:W.makesIn K C=ag
 kc:W.keepIn K (.ref C)=ag
 nS:W.findIn K (.ref C) "standing" = ae ah
 nP:W.findIn K (.ref C) "spot" = ae ah
 mI:∃f,Lm K C f "__init__" "Pieces.__init__" sI
 mA:∃f,Lm K C f "ahead" "Pieces.ahead" sA
 mT:∃f,Lm K C f "taken" "Pieces.taken" sT
 mL:∃f,Lm K C f "all_taken" "Pieces.all_taken" sL
theorem jg4 {P:ay} {w:aE} {K:k5k} {mg:k5n} {base h:aK} {C:ak} {sI sA sT sL:aP} (S:PcS P w K mg base sI sA sT sL) (hH:PcH K C sI sA sT sL) (X:K.In h) (Gn:h.Ns au mg) (bt:mg "len" = ah) :
  ∃C,mg "Pieces" = ae (.ref C)/\Rz P w K mg base C:=by
 obtain⟨scI,scA,scT,scL,⟨n,n2,q1,q2,q3,q4,q5,q6,q7,q8,q9,q10,q11,eI,hlI⟩,⟨nA,a1,a2,a3,a4,a5,a6,a7,a8,a9,a10,a11,a12,a13,a14,a15,a16,eA⟩,⟨nT,t1,t2,t3,t4,t5,t6,t7,t8,t9,t10,t11,t12,t13,t14,eT,hmT⟩,⟨l1,l2,l3,l4,l5,l6,l7,l8,eL⟩,⟨v1,v2,v3,v4,v5⟩,⟨g1,g2,g3⟩,biI,biA,biT,biL⟩:=S;obtain⟨atC,pg,hd,po,sa,mk,kc,nS,nP,⟨fI,ocI,odI,kVI,dcI,pmI,anI,cdI,ctI,slI,fiI,fnI,lkI,coI,kpI⟩,⟨fA,ocA,odA,kVA,dcA,pmA,anA,cdA,ctA,slA,fiA,fnA,lkA,coA,kpA⟩,⟨fT,ocT,odT,kVT,dcT,pmT,anT,cdT,ctT,slT,fiT,fnT,lkT,coT,kpT⟩,⟨fL,ocL,odL,kVL,dcL,pmL,anL,cdL,ctL,slL,fiL,fnL,lkL,coL,kpL⟩⟩:=hH;have mgC:=W.mg_of X Gn atC;have T:PcT K mg C fA fT fL fI:=⟨⟨pg,hd,po,sa⟩,nS,nP,⟨fiA,fnA,kpA⟩,⟨fiT,fnT,kpT⟩,⟨fiL,fnL,kpL⟩,⟨mk,fiI,fnI,kc⟩,mgC,bt⟩
 have FI:=Jr (st:=sI) lkI coI kpI;have FA:=Jr (st:=sA) lkA coA kpA;have FT:=Jr (st:=sT) lkT coT kpT;have FL:=Jr (st:=sL) lkL coL kpL;have GA:=j5m (P:=P) (w:=w) (mg:=mg) (base:=base) FA T scA eA v3 g1;have bA:=FA.binds (ps:=["self"]) biA;exact⟨C,mgC,fA,fT,fL,fI,_,_,_,_,T,⟨GA,bA⟩,⟨j5l FT T scT eT v4 g2 (λcdv A outer s H E=>hmT fT cdv A outer s H E) GA bA,FT.binds (ps:=["self"]) biT⟩,⟨jch FL T scL eL v5 g3,FL.binds (ps:=["self"]) biL⟩,⟨j9d FI T scI eI v1 v2 hlI,FI.binds (ps:=["self","text"]) biI⟩⟩
def TrM(P:ay)(w:aE)(K:k5k)(mg:k5n)(base:aK)(x:ao)(N:List ao)(st:aP)(p:Px):Prop :=
 ∀(f:ak)(cdv:aj)(A:aF)(outer:List cG)(s:aq)(H:Hp)(E:XK) (xe:k5l),MP ((ql CX0 P w K mg base N x (j0 st) f cdv A outer s H E).wish xe) 0 p (jb st)
section
variable{P:ay}{w:aE}{K:k5k}{mg:k5n}{base h:aK}{x g:ao}{st:aP}{N ps:List ao}{F:Fi}{p:Px}
theorem jcy(hx:x=mq g)(L:Lf K g st)(X:K.In h)(Gn:h.Ns au mg)(t:TrM P w K mg base g N st p)(ps:List ao)(sc:FnScope N ps (j0 st))(hF:F.body=.px p)(hl:F.lam=af)(h1:ps.length+1=F.n)(h2:N.length+1=F.nn)(h3:0<ps.length)(h4:ps.length<=N.length)
  (hb:∀(kV doc pm:aj)(an:Option ak)(cdv ct:aj)(us:List aj),us.length=ps.length->c8 (W.fnOf g g (qu st) (jb st) (j0 st) .none kV doc pm an cdv ct) ⟨us,[]⟩=pure (ps.zip us)) (pc:∃C,mg "Pieces" = ae (.ref C)/\Rz P w K mg base C):LkF P w K mg base x F:=by
 obtain⟨f,oc,od,kV,dc,pm,an,cd,ct,sl,a,l,c,k⟩:=L;exact⟨λ_=>.inr ⟨g,p,st,f,_,N,ps,hx,hF,Jr l c k,sc,h1,h2,h3,h4,(Jr l c k).binds hb,W.mg_of X Gn a,pc,t f⟩,λz=>by rw[hl]at z;cases z⟩
theorem jfy {C:ak} {sI sA sT sL:aP} (H:PcH K C sI sA sT sL) (X:K.In h) (Gn:h.Ns au mg):∃fa,mg "Pieces" = ae (.ref fa)/\W.keepIn K (.ref fa)=ag:=⟨C,W.mg_of X Gn H.at_,H.kc⟩
end
end L2
end
section
namespace L2
open PySem (Str sizeLine argBest)
theorem vq{n:Nat}(h:n<=1000000):n<=aw:=X8 h (by decide)
theorem lt_size{n:Nat}(h:n<=1000000):n<aw:=T6 h (by decide)
noncomputable def Cp(o:So)(f:En->So):So:=match o with
 |.next ρ=>f ρ
 |o=>o
noncomputable def ifS(c:Option Bool)(f g:En->So)(ρ:En):So:=match c with
 |some ag=>f ρ
 |some af=>g ρ
 |none=>.no
noncomputable def Wl(is:List Nat)(f:En->So)(d:D)(ρ:En):So:=match zm is d ρ with
 |some ρ2=>f ρ2
 |none=>.no
noncomputable def j7s(is:List Nat)(w:Option W)(f:En->So)(ρ:En):So:=match w with
 |some (.i ds)=>v8 (Wl is f) ds ρ
 |_=>.no
section
variable{fu:Nat}{Γ:ao->List D->Rc}{G:ao->Option D}{ρ:En}{i j:Nat}{e c k:Ex}{a b:Sx}{is:List Nat}
theorem j8s:run fu Γ G .nop ρ=.next ρ:=(rfl)
theorem j8q:run fu Γ G (.seq a b) ρ=Cp (run fu Γ G a ρ) (run fu Γ G b):=(rfl)
theorem j8p:run fu Γ G (.set i e) ρ=orE (Vt i (ev Γ G e ρ) ρ) (er Γ G e ρ) ρ:=(rfl)
theorem j59:run fu Γ G (.expr e) ρ=orE (Bm (ev Γ G e ρ) ρ) (er Γ G e ρ) ρ:=(rfl)
theorem j8r:run fu Γ G (.ret e) ρ=orE (retS (ev Γ G e ρ)) (er Γ G e ρ) ρ:=(rfl)
theorem j5i{ρ':En}{x:Option ao}:orE (.next ρ') x ρ=.next ρ':=(rfl)
theorem Iw{r:Rc}{x:Option ao}:orE (.ret r) x ρ=.ret r:=(rfl)
theorem j99{y:ao}:orE .no (ae y) ρ=.err y ρ:=(rfl)
theorem jbg:Vt i ah ρ=.no:=(rfl)
theorem jdo:Bm ah ρ=.no:=(rfl)
noncomputable def erR(G:ao->Option D):Rc->Option ao
 |.err x=>if (G (bang x)).isSome=ag then ae x else ah
 |_=>ah
noncomputable def erC(Γ:ao->List D->Rc)(G:ao->Option D)(f:ao)(w:Option W):Option ao:=match w with
 |some (.a rs)=>erR G (Γ f (rs.map Rk.d))
 |_=>ah
theorem je3:ev Γ G (.fst e) ρ=Vv (ev Γ G e ρ):=(rfl)
theorem O4{rs:List Rk}{ys:List ao}(h:rs.length<=1000)(h2:v7 rs=ae ys):Vv (ae (.a rs))=ae (.v (.e (.str (Mu cH ys)))):=by unfold Vv;dsimp only;rw[if_pos h,h2];rfl
noncomputable def erK(Γ:ao->List D->Rc)(G:ao->Option D)(f:ao)(x:Option ao)(w:Option W):Option ao:=match x with
 |some x=>if (G (qm f)).isSome=ag then ae x else ah
 |none=>erC Γ G f w
theorem Bp{f:ao}:er Γ G (.call f e) ρ=erK Γ G f (er Γ G e ρ) (ev Γ G e ρ):=by
 rw[er];cases er Γ G e ρ with
 |some x=>rfl
 |none =>
  cases h:ev Γ G e ρ with
  |none=>rfl
  |some w =>
   cases w with
   |v _=>rfl
   |i _=>rfl
   |a rs =>show(match Γ f (rs.map Rk.d)with|.err x=>_|_=>_)=erR G (Γ f (rs.map Rk.d));cases Γ f (rs.map Rk.d)<;>rfl
theorem Dn{f:ao}{w:Option W}:erK Γ G f ah w=erC Γ G f w:=(rfl)
noncomputable def erN(a:Option ao)(w:Option W)(b:Option ao):Option ao:=match a with
 |some x=>ae x
 |none=>match w with
  |some (.v _)=>b
  |_=>ah
theorem Bo{b:Ex}:er Γ G (.cons e b) ρ=erN (er Γ G e ρ) (ev Γ G e ρ) (er Γ G b ρ):=by rw[er];rfl
theorem Yw{r:Rk}{b:Option ao}:erN ah (ae (.v r)) b=b:=(rfl)
theorem K3:er Γ G .nil ρ=ah:=(rfl)
theorem j3e:er Γ G (.var i) ρ=ah:=(rfl)
theorem je8{f:Bf}:er Γ G (.blt f e) ρ=ah:=(rfl)
noncomputable def j5c(w:Option W):Option W:=match w with
 |some (.v x)=>match x.d with
  |.str y=>if (aI y).length<=2000 then ae (.v (.e (.str (aI y))))else ah
  |_=>ah
 |_=>ah
theorem jdu:ev Γ G (.rpr e) ρ=j5c (ev Γ G e ρ):=(rfl)
theorem Cq{y:ao}(h:(aI y).length<=2000):j5c (ae (.v (.e (.str y))))=ae (.v (.e (.str (aI y)))):=if_pos h
theorem Do{f:ao}{rs:List Rk}:erC Γ G f (ae (.a rs))=erR G (Γ f (rs.map Rk.d)):=(rfl)
theorem j18{x:ao}(h:(G (bang x)).isSome=ag):erR G (.err x)=ae x:=if_pos h
theorem j24{x:ao}:run fu Γ G (.raise x e) ρ=Rg x (ev Γ G e ρ) (G (bang x)) ρ:=(rfl)
noncomputable def j03(i j:Nat)(G:ao->Option D)(o:So):So:=match o with
 |.err x ρ'=>match G (bang x) with
  |some (.lst l)=>.next (((ρ'.set j (.exc x)).set i (.own l)).set j .un)
  |_=>.no
 |o=>o
theorem j53:run fu Γ G (.tryK a i j) ρ=j03 i j G (run fu Γ G a ρ):=(rfl)
theorem j1t{ρ':En}:j03 i j G (.next ρ')=.next ρ':=(rfl)
theorem j4l{x:ao}{l:List D}{ρ':En}(h:G (bang x)=ae (.lst l)):j03 i j G (.err x ρ')=.next (((ρ'.set j (.exc x)).set i (.own l)).set j .un):=by unfold j03;dsimp only;rw[h]
theorem j54:run fu Γ G (.retV i) ρ=Mi ρ[i]?:=(rfl)
theorem j8t:run fu Γ G (.ife c a b) ρ=ifS (truth (ev Γ G c ρ)) (run fu Γ G a) (run fu Γ G b) ρ:=(rfl)
theorem j57:run fu Γ G (.loop is e a) ρ=j7s is (ev Γ G e (frz e ρ)) (run fu Γ G a) (frz e ρ):=(rfl)
theorem j8u:run fu Γ G (.app i e) ρ=Bt i ρ[i]? (ev Γ G e ρ) ρ:=(rfl)
theorem j31{d:D}:Wc i (ae (.val d)) ρ=.next ρ:=(rfl)
theorem j58:run fu Γ G (.keep i) ρ=Wc i ρ[i]? ρ:=(rfl)
theorem j32{l:List D}:Wc i (ae (.own l)) ρ=.next (ρ.set i (.val (.lst l))):=(rfl)
end
section
variable{f g:En->So}{ρ:En}{i j:Nat}{d:D}{l m:List D}{r:Rc}{x:Rk}
theorem j21:Cp (.next ρ) f=f ρ:=(rfl)
theorem Cm:Cp (.ret r) f=.ret r:=(rfl)
theorem j4v{x:ao}{ρ':En}:Cp (.err x ρ') f=.err x ρ':=(rfl)
theorem jgq:ifS (ae ag) f g ρ=f ρ:=(rfl)
theorem jgr:ifS (ae af) f g ρ=g ρ:=(rfl)
theorem jbf:Vt i (ae (.v (.o l))) ρ=.next (ρ.set i (.own l)):=(rfl)
theorem jbh:Vt i (ae (.v (.e d))) ρ=.next (ρ.set i (.val d)):=(rfl)
theorem jbe(h:vy d=ag):Vt i (ae (.v (.t d))) ρ=.next (ρ.set i (.val d)):=by simp[Vt,Rk.st,h]
theorem jbq:retS (ae (.v (.o l)))=.ret (.fresh l):=(rfl)
theorem j28:retS (ae (.v (.e d)))=.ret (.val d):=(rfl)
theorem j8w:Mi (ae (.val d))=.ret (.val d):=(rfl)
theorem jdn:Bm (ae (.v x)) ρ=.next ρ:=(rfl)
theorem Wj:Wl [i] f d ρ=f (ρ.set i (.val d)):=(rfl)
theorem j9k{is:List Nat}{ds:List D}:j7s is (ae (.i ds)) f ρ=v8 (Wl is f) ds ρ:=(rfl)
theorem jet(h:l.length<=1000000):Bt i (ae (.own l)) (ae (.v (.e d))) ρ=.next (ρ.set i (.own (l++[d]))):=by simp[Bt,Rk.st,lt_size h]
theorem Ej:fin (.ret r)=r:=(rfl)
theorem jae{x:ao}{ρ':En}:fin (.err x ρ')=.err x:=(rfl)
theorem j6k:fin (.next ρ)=.val .non:=(rfl)
theorem jj{fu:Nat}{G:ao->Option D}{T:ao->Option Fi}{n:Nat}{f:ao}{ds:List D}{F:Fi}(h:T f=ae F)(hl:ds.length=F.n)(hla:F.lam=af:=by rfl):evP fu G T (n+1) f ds=fin (run fu (evP fu G T n) G F.body (enter F ds)):=by simp only[evP,h,if_pos hl,hla,T5,if_false]
end
theorem Nh{f:D->En->So}(W:Nat->En->Prop):∀{ds:List D}{ρ:En}{k:Nat},W k ρ->(∀i d ρ,ds[i]?=ae d->W (k+i) ρ->∃ρ',f d ρ=.next ρ'/\W (k+i+1) ρ')->∃ρ',v8 f ds ρ=.next ρ'/\W (k+ds.length) ρ'
 |[],ρ,k,h0,_=>⟨ρ,rfl,h0⟩
 |d::ds,ρ,k,h0,hs=>by
  obtain⟨ρ1,e1,w1⟩:=hs 0 d ρ rfl h0;obtain⟨ρ2,e2,w2⟩:=Nh (f:=f) W (ds:=ds) (k:=k+1) w1 λi d' ρ' hi w=>by have:=hs (i+1) d' ρ' (by simpa using hi) (by rw[show k+(i+1)=k+1+i by omega];exact w);rw[show k+(i+1)+1=k+1+i+1 by omega]at this;exact this
  refine⟨ρ2,?_,by rw[xn,show k+(ds.length+1)=k+1+ds.length by omega];exact w2⟩;rw[v8,e1];exact e2
theorem j4u{f:D->En->So}{ds:List D}{ρ:En}{g:En->So}{r:Rc}(W:Nat->En->Prop)(h0:W 0 ρ)(hs:∀i d ρ,ds[i]?=ae d->W i ρ->∃ρ',f d ρ=.next ρ'/\W (i+1) ρ')(hk:∀ρ',W ds.length ρ'->fin (g ρ')=r) :
  fin (Cp (v8 f ds ρ) g)=r:=by
 obtain⟨ρ',e,w⟩:=Nh (f:=f) W (k:=0) (ds:=ds) (ρ:=ρ) h0 λi d ρ hi w=>by rw[fM]at w ⊢;exact hs i d ρ hi w
 rw[e];rw[fM]at w;exact hk ρ' w
theorem j2w{f:D->En->So}{ρ:En}:v8 f [] ρ=.next ρ:=(rfl)
theorem Ms{f:D->En->So}{d:D}{ds:List D}{ρ ρ':En}(h:f d ρ=.next ρ'):v8 f (d::ds) ρ=v8 f ds ρ':=by rw[v8,h]
noncomputable def j7z(d:Option D):Option W:=d.map λd=>.v (.e d)
noncomputable def j6d(i:Option Int):Option W:=i.map λk=>.v (.e (.int k))
noncomputable def jdj(a:Option W):Option W:=match a with
 |some (.v x)=>ae (.v (.e (.bl x.d.isNon)))
 |_=>ah
noncomputable def j7b(k:Option Bool)(f:En->Option W)(ρ:En):Option W:=match k with
 |some af=>ae (.v (.e (.bl af)))
 |some ag=>blW (truth (f ρ))
 |none=>ah
noncomputable def orW(k:Option Bool)(f:En->Option W)(ρ:En):Option W:=match k with
 |some ag=>ae (.v (.e (.bl ag)))
 |some af=>blW (truth (f ρ))
 |none=>ah
noncomputable def jck(k:Option Bool):Option W:=k.map λk=>.v (.e (.bl (!k)))
noncomputable def stW(a:Option W):Option W:=match a with
 |some (.v x)=>x.st.map λd=>.v (.e d)
 |_=>ah
noncomputable def j63(k:Option Bool)(f g:En->Option W)(ρ:En):Option W:=match k with
 |some ag=>stW (f ρ)
 |some af=>stW (g ρ)
 |none=>ah
noncomputable def slW(a:Option W)(l h:Option (Option Int)):Option W:=match a,l,h with
 |some (.v x),ae l,ae h=>match x.sq with
  |some (ag,ds)=>ae (.v (.o (cutD ds l h)))
  |some (af,ds)=>if HT.sIx ds.length 0 l=0/\HT.sIx ds.length ds.length h=ds.length then ah else ae (.v (.e (.tup (cutD ds l h))))
  |none=>match x.d with
   |.str z=>if je z.length=ag then ae (.v (.e (.str (bJ z l h))))else ah
   |_=>ah
 |_,_,_=>ah
noncomputable def Yl(is:List Nat)(c e:En->Option W)(ρ:En)(d:D):Option (Option D):=match zm is d ρ with
 |none=>ah
 |some ρ2=>match c ρ2 with
  |some (.a [])=>match e ρ2 with
   |some (.v x)=>x.st.map ae
   |_=>ah
  |some (.a [y])=>match y.d with
   |.bl ag=>match e ρ2 with
    |some (.v x)=>x.st.map ae
    |_=>ah
   |.bl af=>ae ah
   |_=>ah
  |_=>ah
noncomputable def j1e(is:List Nat)(w:Option W)(c e:En->Option W)(z:Bool)(ρ:En):Option W:=match w with
 |some (.i ds)=>if Dl is ρ=ag/\je ds.length=ag then(Jd (Yl is c e ρ) ds).bind λl=>if (z && !qi l)=ag then ah else ae (.v (.o l))else ah
 |_=>ah
section
variable{Γ:ao->List D->Rc}{G:ao->Option D}{ρ:En}{a b c e:Ex}{op:Bop}{cp:Cop}{x f:ao}{i:Nat}{d:D}
theorem jdz:ev Γ G (.lit d) ρ=ae (.v (.e d)):=(rfl)
theorem jdp:ev Γ G (.var i) ρ=Oe ρ[i]?:=(rfl)
theorem jah:ev Γ G (.glob x) ρ=j7z (G x):=(rfl)
theorem je6:ev Γ G (.bin op a b) ρ=Zt op (ev Γ G a ρ) (ev Γ G b ρ):=(rfl)
theorem jdx:ev Γ G (.neg a) ρ=Le (ev Γ G a ρ):=(rfl)
theorem je4:ev Γ G (.cmp cp a b) ρ=Br cp (ev Γ G a ρ) (ev Γ G b ρ):=(rfl)
theorem je2:ev Γ G (.isN a) ρ=jdj (ev Γ G a ρ):=(rfl)
theorem je7:ev Γ G (.and a b) ρ=j7b (truth (ev Γ G a ρ)) (ev Γ G b) ρ:=(rfl)
theorem jh1:ev Γ G (.or a b) ρ=orW (truth (ev Γ G a ρ)) (ev Γ G b) ρ:=(rfl)
theorem jdv:ev Γ G (.not a) ρ=jck (truth (ev Γ G a ρ)):=(rfl)
theorem je0:ev Γ G (.ite c a b) ρ=j63 (truth (ev Γ G c ρ)) (ev Γ G a) (ev Γ G b) ρ:=(rfl)
theorem jdw:ev Γ G .nil ρ=ae (.a []):=(rfl)
theorem jai:ev Γ G (.cons a b) ρ=consW (ev Γ G a ρ) (ev Γ G b ρ):=(rfl)
theorem jdq:ev Γ G (.tup a) ρ=Vs (ev Γ G a ρ):=(rfl)
theorem jdy:ev Γ G (.lst a) ρ=Q4 (ev Γ G a ρ):=(rfl)
theorem jh2:ev Γ G (.ix a b) ρ=ixW (ev Γ G a ρ) (ev Γ G b ρ):=(rfl)
theorem jh0:ev Γ G (.sl a b c) ρ=slW (ev Γ G a ρ) (Jt (ev Γ G b ρ)) (Jt (ev Γ G c ρ)):=(rfl)
theorem jag{sep:ao}:ev Γ G (.join sep a) ρ=Jl sep (ev Γ G a ρ):=(rfl)
theorem j6w{y z:ao}:zj .isin (.str y) (.str z)=ae (inS y z):=(rfl)
theorem jbj{y:ao}(h:ascii y=ag):Yo (ae (.v (.e (.str y))))=ae (.i (chs y)):=if_pos h
theorem jak:ev Γ G (.call f a) ρ=Jy Γ f (ev Γ G a ρ):=(rfl)
theorem je5{f:Bf}:ev Γ G (.blt f a) ρ=vg f (ev Γ G a ρ):=(rfl)
theorem je1{ts:List String}:ev Γ G (.isi a ts) ρ=Be (ev Γ G a ρ) ts:=(rfl)
theorem jaj{is:List Nat}:ev Γ G (.comp is e a c) ρ=j1e is (ev Γ G a (frz a ρ)) (ev Γ G c) (ev Γ G e) (J1 a ρ) (frz a ρ):=(rfl)
theorem jdt:ev Γ G (.seq a) ρ=Yo (ev Γ G a ρ):=(rfl)
theorem j6m:ev Γ G (.range a) ρ=Up (ev Γ G a ρ):=(rfl)
end
section
variable{x y:Rk}{d:D}{i j k:Int}{l m:List D}{b:Bool}{f g:En->Option W}{ρ:En}{xs:List Rk}{op:Bop}{cp:Cop}
theorem jb0:Oe (ae (.val d))=ae (.v (.e d)):=(rfl)
theorem jb1:Oe (ae (.own l))=ae (.v (.w l)):=(rfl)
theorem Bj:j7z (ae d)=ae (.v (.e d)):=(rfl)
theorem jdk:j6d (ae i)=ae (.v (.e (.int i))):=(rfl)
theorem jh8:blW (ae b)=ae (.v (.e (.bl b))):=(rfl)
theorem jer:Zt op (ae (.v (.e (.int i)))) (ae (.v (.e (.int j))))=j6d (binI op i j):=by simp only[Zt,W2,Rk.d,j6d,rkW];cases binI op i j<;>rfl
theorem j78:binI .add i j=ae (i+j):=(rfl)
theorem j74:binI .sub i j=ae (i-j):=(rfl)
theorem j76(h:(-18446744073709551616<i/\i<18446744073709551616)\/(-18446744073709551616<j/\j<18446744073709551616)):binI .mul i j=ae (i*j):=if_pos h
theorem j49(h:0<j/\j<18446744073709551616):binI .fdiv i j=ae (i/j):=if_pos h
theorem j77(h:0<j):binI .mod i j=ae (i%j):=if_pos h
theorem j75(h:0<=j/\j<=1000000/\i.natAbs<18446744073709551616):binI .pow i j=ae (i^j.toNat):=if_pos h
theorem jen(h:l.length+m.length<=1000000):Zt .add (ae (.v (.o l))) (ae (.v (.o m)))=ae (.v (.o (l++m))):=by simp[Zt,W2,Rk.d,Rk.sq,je,vq h,rkW]
theorem jeo(h:l.length+m.length<=1000000):Zt .add (ae (.v (.e (.lst l)))) (ae (.v (.o m)))=ae (.v (.o (l++m))):=by simp[Zt,W2,Rk.d,Rk.sq,je,vq h,rkW]
theorem jcm:Le (ae (.v (.e (.int i))))=ae (.v (.e (.int (-i)))):=(rfl)
theorem jeg:Br cp (ae (.v x)) (ae (.v y))=blW (zj cp x.d y.d):=(rfl)
theorem d_e:(Rk.e d).d=d:=(rfl)
theorem d_o:(Rk.o l).d=.lst l:=(rfl)
theorem d_w:(Rk.w l).d=.lst l:=(rfl)
theorem jeh:zj cp (.int i) (.int j)=cmpI cp i j:=by cases cp<;>rfl
theorem j6v{a b:Bool}:zj .ne (.bl a) (.bl b)=ae (a != b):=(rfl)
theorem Ka{a b:ao}:zj .ne (.str a) (.str b)=ae (!decide (a=b)):=(rfl)
theorem j6y{a b:Bool}:zj .eq (.bl a) (.bl b)=ae (a==b):=(rfl)
theorem Rx(h:(D.lst l).dep<=90)(h2:(D.lst m).dep<=90):zj .eq (.lst l) (.lst m)=ae (zx l m):=by simp[zj,h,h2,K4,K6]
theorem Rw(h:D.depL l<=90)(h2:D.depL m<=90):zj .ne (.lst l) (.lst m)=ae (!zx l m):=by simp[zj,h,h2]
theorem j6x{a b:ao}:zj .eq (.str a) (.str b)=ae (a==b):=by simp[zj,D.dep,K5]
theorem j3x:zj .eq (.lst []) (.lst [])=ae (zx [] []):=Rx (by simp[D.dep,D.depL]) (by simp[D.dep,D.depL])
theorem j3n(h:i<j):cmpI .lt i j=ae ag:=by simp[cmpI,h]
theorem j3o(h:j<=i):cmpI .lt i j=ae af:=by simp[cmpI];omega
theorem j3p(h:i<=j):cmpI .le i j=ae ag:=by simp[cmpI,h]
theorem j3q(h:j<i):cmpI .le i j=ae af:=by simp[cmpI];omega
theorem j3r(h:j<i):cmpI .gt i j=ae ag:=by simp[cmpI,h]
theorem j3s(h:i<=j):cmpI .gt i j=ae af:=by simp[cmpI];omega
theorem j3t(h:j<=i):cmpI .ge i j=ae ag:=by simp[cmpI,h]
theorem j3u(h:i<j):cmpI .ge i j=ae af:=by simp[cmpI];omega
theorem j3v(h:i=j):cmpI .eq i j=ae ag:=by simp[cmpI,h]
theorem j3w(h:i≠j):cmpI .eq i j=ae af:=by simp[cmpI,h]
theorem jdi:jdj (ae (.v x))=ae (.v (.e (.bl x.d.isNon))):=(rfl)
theorem j8g:truth (ae (.v (.e (.bl b))))=ae b:=(rfl)
theorem j4m:truth (ae (.v (.t (.bl b))))=ae b:=(rfl)
theorem jev:j7b (ae af) f ρ=ae (.v (.e (.bl af))):=(rfl)
theorem jeu:j7b (ae ag) f ρ=blW (truth (f ρ)):=(rfl)
theorem jg5:orW (ae ag) f ρ=ae (.v (.e (.bl ag))):=(rfl)
theorem jg6:orW (ae af) f ρ=blW (truth (f ρ)):=(rfl)
theorem jcj:jck (ae b)=ae (.v (.e (.bl (!b)))):=(rfl)
theorem jfk:stW (ae (.v (.e d)))=ae (.v (.e d)):=(rfl)
theorem jde:j63 (ae ag) f g ρ=stW (f ρ):=(rfl)
theorem jdf:j63 (ae af) f g ρ=stW (g ρ):=(rfl)
theorem Wi:consW (ae (.v x)) (ae (.a xs))=ae (.a (x::xs)):=(rfl)
theorem M4(h:zg xs=ae l)(hl:l.length<=1000000):Vs (ae (.a xs))=ae (.v (.e (.tup l))):=by simp[Vs,h,je,vq hl]
theorem Qn(h:zg xs=ae l)(hl:l.length<=1000000):Q4 (ae (.a xs))=ae (.v (.o l)):=by simp[Q4,h,je,vq hl]
theorem jb6:Vs (ae (.a []))=ae (.v (.e (.tup []))):=by simp[Vs,zg,je]
theorem jb5{a b:D}:Vs (ae (.a [.e a,.e b]))=ae (.v (.e (.tup [a,b]))):=M4 rfl (by simp)
theorem jcx:Q4 (ae (.a []))=ae (.v (.o [])):=by simp[Q4,zg,je]
theorem jcw{a:D}:Q4 (ae (.a [.e a]))=ae (.v (.o [a])):=Qn rfl (by simp)
theorem jcv{a b:D}:Q4 (ae (.a [.e a,.e b]))=ae (.v (.o [a,b])):=Qn rfl (by simp)
theorem jcu{a b c:D}:Q4 (ae (.a [.e a,.e b,.e c]))=ae (.v (.o [a,b,c])):=Qn rfl (by simp)
noncomputable def Mx(o:Option D):Option W:=o.map λd=>.v (.e d)
theorem Dz:∀xs:List D,zg (xs.map Rk.e)=ae xs
 |[]=>rfl
 |x::xs=>by rw[X5,zg,Dz xs];rfl
theorem j2u(xs:List D)(h:xs.length<=1000000):Q4 (ae (.a (xs.map Rk.e)))=ae (.v (.o xs)):=by simp[Q4,Dz,je,vq h]
theorem jct{a b c d:D}:Q4 (ae (.a [.e a,.e b,.e c,.e d]))=ae (.v (.o [a,b,c,d])):=j2u [a,b,c,d] (by simp)
theorem jcs{a b c d e f g h:D}:Q4 (ae (.a [.e a,.e b,.e c,.e d,.e e,.e f,.e g,.e h]))=ae (.v (.o [a,b,c,d,e,f,g,h])):=j2u [a,b,c,d,e,f,g,h] (by simp)
theorem Eh:Mx (ae d)=ae (.v (.e d)):=(rfl)
theorem jdb:ixW (ae (.v (.e (.lst l)))) (ae (.v (.e (.int i))))=Mx (atI l i):=(rfl)
theorem jda:ixW (ae (.v (.e (.tup l)))) (ae (.v (.e (.int i))))=Mx (atI l i):=(rfl)
theorem jgn:ixW (ae (.v (.o l))) (ae (.v (.e (.int i))))=Mx (atI l i):=(rfl)
theorem jgl:ixW (ae (.v (.w l))) (ae (.v (.e (.int i))))=Mx (atI l i):=(rfl)
noncomputable def jek(c:Option Nat):Option W:=match c with
 |some c=>ae (.v (.e (.str ⟨#[c]⟩)))
 |none=>ah
theorem jej{c:Nat}:jek (ae c)=ae (.v (.e (.str ⟨#[c]⟩))):=(rfl)
theorem jgm{z:ao}(h:z.length<=1000000):ixW (ae (.v (.e (.str z)))) (ae (.v (.e (.int i))))=jek (atI z.cps.toList i):=by simp only[ixW,Rk.sq,Rk.d,je,vq h,decide_true,if_true];cases atI z.cps.toList i<;>rfl
theorem jfo{z:ao}{lo hi:Option Int}(h:z.length<=1000000):slW (ae (.v (.e (.str z)))) (ae lo) (ae hi)=ae (.v (.e (.str (bJ z lo hi)))):=by simp only[slW,Rk.sq,Rk.d,je,vq h,decide_true,if_true]
theorem jem{y z:ao}(h:y.length+z.length<=1000000):Zt .add (ae (.v (.e (.str y)))) (ae (.v (.e (.str z))))=ae (.v (.e (.str (y++z)))):=by simp[Zt,W2,Rk.d,je,vq h,rkW]
theorem jgj{z:ao}(h:z.length<=1000000):vg .len (ae (.a [.e (.str z)]))=ae (.v (.e (.int z.length))):=by simp only[vg,Z1,Rk.d,je,vq h,decide_true,if_true];rfl
theorem Zu{ns:List ao}:strsOf (ns.map D.str)=ae ns:=by
 induction ns with
 |nil=>rfl
 |cons b bs ih=>rw[X5,strsOf,ih];rfl
theorem Wf{sep:ao}{ts:List ao}(h:bq sep ts=ag):Jl sep (ae (.v (.o (ts.map D.str))))=ae (.v (.e (.str (bF sep ts)))):=by simp only[Jl,Rk.d,Zu,h,if_true]
theorem j72:Jt (ae (.a []))=ae ah:=(rfl)
theorem j71:Jt (ae (.a [.e (.int i)]))=ae (ae i):=(rfl)
variable{lo hi:Option Int}
theorem jbd:slW (ae (.v (.e (.lst l)))) (ae lo) (ae hi)=ae (.v (.o (cutD l lo hi))):=(rfl)
theorem jfn:slW (ae (.v (.w l))) (ae lo) (ae hi)=ae (.v (.o (cutD l lo hi))):=(rfl)
variable{Γ:ao->List D->Rc}{fn:ao}
noncomputable def rcW(r:Rc):Option W:=match r with
 |.val d=>ae (.v (.e d))
 |.fresh l=>ae (.v (.o l))
 |_=>ah
theorem jfv{x:ao}:rcW (.err x)=ah:=(rfl)
theorem jft:rcW (.val d)=ae (.v (.e d)):=(rfl)
theorem jfu:rcW (.fresh l)=ae (.v (.o l)):=(rfl)
theorem Qi(h:zg xs=ae l):Jy Γ fn (ae (.a xs))=rcW (Γ fn l):=by simp only[Jy,h];cases Γ fn l<;>rfl
theorem jaq{a:D}:Jy Γ fn (ae (.a [.e a]))=rcW (Γ fn [a]):=Qi rfl
theorem jap{a b:D}:Jy Γ fn (ae (.a [.e a,.e b]))=rcW (Γ fn [a,b]):=Qi rfl
theorem jao{a b c:D}:Jy Γ fn (ae (.a [.e a,.e b,.e c]))=rcW (Γ fn [a,b,c]):=Qi rfl
theorem j70{a:D}:Jy Γ fn (ae (.a [.e a,.o l]))=rcW (Γ fn [a,.lst l]):=Qi rfl
noncomputable def rcT(r:Rc):Option W:=match r with
 |.val d=>ae (.v (.t d))
 |.fresh l=>if qi l=ag then ae (.v (.o l))else ah
 |_=>ah
theorem j0l:rcT (.val d)=ae (.v (.t d)):=(rfl)
theorem jfw{l:List D}(h:qi l=ag):rcT (.fresh l)=ae (.v (.o l)):=if_pos h
theorem Et(h:zg xs=ah):Jy Γ fn (ae (.a xs))=rcT (Γ fn (xs.map Rk.d)):=by simp only[Jy,h];cases Γ fn (xs.map Rk.d)<;>rfl
theorem Ry{a b:D}:Jy Γ fn (ae (.a [.w m,.e a,.e b]))=rcT (Γ fn [.lst m,a,b]):=Et rfl
theorem jgk:vg .len (ae (.a [.e (.lst l)]))=ae (.v (.e (.int l.length))):=(rfl)
theorem jgi:vg .len (ae (.a [.e (.tup l)]))=ae (.v (.e (.int l.length))):=(rfl)
theorem jgh:vg .len (ae (.a [.w l]))=ae (.v (.e (.int l.length))):=(rfl)
theorem jco:vg .min (ae (.a [.e (.int i),.e (.int j)]))=ae (.v (.e (.int (if j<i then j else i)))):=(rfl)
theorem j4i:vg .tuple (ae (.a [.e (.lst l)]))=ae (.v (.e (.tup l))):=(rfl)
theorem j9l:vg .list (ae (.a [.e (.lst l)]))=ae (.v (.o l)):=(rfl)
theorem Ib{bs:List Bool}:boolsOf (bs.map D.bl)=ae bs:=by
 induction bs with
 |nil=>rfl
 |cons b bs ih=>rw[X5,boolsOf,ih];rfl
theorem jha{bs:List Bool}:vg .all (ae (.a [.o (bs.map D.bl)]))=ae (.v (.e (.bl (bs.all id)))):=by simp only[vg,Z1,Rk.d,Ib];rfl
theorem jdg{ts:List String}:Be (ae (.v x)) ts=blW (jz x.d ts):=(rfl)
theorem j8n:Yo (ae (.v (.e (.lst l))))=ae (.i l):=(rfl)
theorem jbk:Yo (ae (.v (.o l)))=ae (.i l):=(rfl)
theorem j5e(h:-4611686018427387904<=i/\i<4611686018427387904):Up (ae (.a [.e (.int i)]))=ae (.i (upto 0 i.toNat)):=if_pos h
theorem Jj{is:List Nat}{c e:En->Option W}{z:Bool}{ds l:List D}(hf:Dl is ρ=ag)(hl:ds.length<=1000000)(h:Jd (Yl is c e ρ) ds=ae l)(hz:z=af\/qi l=ag):j1e is (ae (.i ds)) c e z ρ=ae (.v (.o l)):=by simp only[j1e,hf,je,vq hl,decide_true,and_self,if_true,h,ie];rcases hz with z|z<;>simp[z]
theorem V2{i:Nat}{c e:En->Option W}(hc:c (ρ.set i (.val d))=ae (.a [])){d':D}(he:e (ρ.set i (.val d))=ae (.v (.e d'))):Yl [i] c e ρ d=ae (ae d'):=by simp[Yl,zm,hc,he,Rk.st]
theorem Yk{i:Nat}{c e:En->Option W}{b:Bool}{d':D}(hc:c (ρ.set i (.val d))=ae (.a [.e (.bl b)]))(he:b=ag->e (ρ.set i (.val d))=ae (.v (.e d'))):Yl [i] c e ρ d=ae (if b=ag then ae d' else ah):=by
 cases b with
 |true=>simp[Yl,zm,hc,he rfl,Rk.st,Rk.d]
 |false=>simp[Yl,zm,hc,Rk.d]
theorem Vq{α:Type}{xs:List α}{n:Nat}{x:α}(h:xs[n]?=ae x):atI xs (n:Int)=ae x:=Wn h
end
section
theorem j66:jz .non ["list","tuple"]=ae af:=by simp[jz,qw,D.ty]
theorem j69 {b:Bool}:jz (.bl b) ["list","tuple"]=ae af:=by simp[jz,qw,D.ty]
theorem j9y {b:Bool}:jz (.bl b) ["bool"]=ae ag:=by simp[jz,qw,D.ty]
theorem j9t {b:Bool}:jz (.bl b) ["str"]=ae af:=by simp[jz,qw,D.ty]
theorem j6c {b:Bool}:jz (.bl b) ["int","str"]=ae ag:=by simp[jz,qw,D.ty]
theorem j68 {i:Int}:jz (.int i) ["list","tuple"]=ae af:=by simp[jz,qw,D.ty]
theorem j9x {i:Int}:jz (.int i) ["bool"]=ae af:=by simp[jz,qw,D.ty]
theorem j9s {i:Int}:jz (.int i) ["str"]=ae af:=by simp[jz,qw,D.ty]
theorem j6b {i:Int}:jz (.int i) ["int","str"]=ae ag:=by simp[jz,qw,D.ty]
theorem j65 {z:ao}:jz (.str z) ["list","tuple"]=ae af:=by simp[jz,qw,D.ty]
theorem j9w {z:ao}:jz (.str z) ["bool"]=ae af:=by simp[jz,qw,D.ty]
theorem j9r {z:ao}:jz (.str z) ["str"]=ae ag:=by simp[jz,qw,D.ty]
theorem j6a {z:ao}:jz (.str z) ["int","str"]=ae ag:=by simp[jz,qw,D.ty]
theorem j64 {l:List D}:jz (.tup l) ["list","tuple"]=ae ag:=by simp[jz,qw,D.ty]
theorem j9u {l:List D}:jz (.tup l) ["list"]=ae af:=by simp[jz,qw,D.ty]
theorem j67 {l:List D}:jz (.lst l) ["list","tuple"]=ae ag:=by simp[jz,qw,D.ty]
theorem j9v {l:List D}:jz (.lst l) ["list"]=ae ag:=by simp[jz,qw,D.ty]
theorem ja2:D.isNon .non=ag:=(rfl)
theorem ja5{b:Bool}:D.isNon (.bl b)=af:=(rfl)
theorem ja4{i:Int}:D.isNon (.int i)=af:=(rfl)
theorem ja1{z:ao}:D.isNon (.str z)=af:=(rfl)
theorem ja3{l:List D}:D.isNon (.lst l)=af:=(rfl)
end
section
theorem Jx{α:Type}{f:D->Option (Option D)}{h g:α->D}{L:List α}(q:∀x∈L,f (h x)=ae (ae (g x))):Jd f (L.map h)=ae (L.map g):=by
 induction L with
 |nil=>rfl
 |cons x L ih=>rw[X5,Jd,q x (xg ..),ih λy hy=>q y (kj _ hy)];rfl
theorem Uc{α:Type}{f:D->Option (Option D)}{h g:α->D}{p:α->Bool}{L:List α}(q:∀x∈L,f (h x)=ae (if p x=ag then ae (g x)else ah)):Jd f (L.map h)=ae ((L.filter p).map g):=by
 induction L with
 |nil=>rfl
 |cons x L ih =>
  rw[X5,Jd,q x (xg ..),ih λy hy=>q y (kj _ hy)];by_cases z:p x=ag
  .rw[if_pos z,ft z];rfl
  .rw[if_neg z,fv z]
theorem Yz{f:D->Option (Option D)}:∀{ds:List D},(∀d∈ds,f d=ae ah)->Jd f ds=ae []
 |[],_=>rfl
 |d::ds,h=>by rw[Jd,h d (xg ..),Yz λd hd=>h d (kj _ hd)]
theorem j62{α:Type}{c:Prop}[Decidable c]{x:α}:(if c then x else x)=x:=by split<;>rfl
theorem j2y{l:List D}(h:vp (.tup l)):l.length<=1000/\Jg l:=by simpa [vp]using h
theorem j2z{l:List D}(h:vp (.lst l)):l.length<=1000/\Jg l:=by simpa [vp]using h
end
section
end
section
variable{fu:Nat}{Γ:ao->List D->Rc}{G:ao->Option D}{ls:List ao}{ρ:En}{i j k:Nat}{e c es m:Ex}{f x y:ao}{b r:Px}
theorem jbn{p:Px}:run fu Γ G (.px p) ρ=pxS ρ[0]? ρ[1]? λls k=>ji fu Γ G ls p (.exc rfN::ρ.drop 2) k:=(rfl)
theorem j55 {p:Px}:run fu Γ G (.newP i e p) ρ=newS (decide (i<ρ.length)) (ev Γ G e ρ) (G (qm "Pieces")) λls=>ji fu Γ G ls p (ρ.set i (.exc rfN)) 0:=(rfl)
noncomputable def j15:Sm->So
 |.ret d k'=>.ret (.mval d k')
 |.err x _=>.ret (.merr x)
 |_=>.no
noncomputable def j16:Sm->So
 |.next ρ' _=>.next ρ'
 |.ret d _=>.ret (.val d)
 |.err x ρ'=>.err x ρ'
 |.no=>.no
theorem jaa{d:D}:j15 (.ret d k)=.ret (.mval d k):=(rfl)
theorem jab:j15 (.err x ρ)=.ret (.merr x):=(rfl)
theorem jac{d:D}:j16 (.ret d k)=.ret (.val d):=(rfl)
theorem jad:j16 (.err x ρ)=.err x ρ:=(rfl)
theorem jfz{g:List ao->Nat->Sm}:pxS (ae (.val (.lst (ls.map D.str)))) (ae (.val (.int (k:Int)))) g=j15 (g ls k):=by simp only[pxS,Zu,dQ,if_true,Xz];cases g ls k<;>rfl
theorem jcl {t:ao} {d:D} {g:List ao->Sm} (h1:t.length<=100000) (h2:(aA t " ").length<=1000000):newS ag (ae (.v (.e (.str t)))) (ae d) g=j16 (g (aA t " ")):=by
 have z:je (aA t " ").length=ag:=by simp[je,vq h2]
 simp only[newS,Rk.d];rw[if_pos ⟨h1,z⟩];cases g (aA t " ")<;>rfl
theorem j5a:ji fu Γ G ls (.set i e r) ρ k=Ck i (ev Γ G e ρ) ρ λρ=>ji fu Γ G ls r ρ k:=by rw[ji]
theorem j27:ji fu Γ G ls (.keep i r) ρ k=Dj i ρ[i]? ρ λρ=>ji fu Γ G ls r ρ k:=by rw[ji]
theorem j0h:ji fu Γ G ls (.ifRet c e r) ρ k=ifP (truth (ev Γ G c ρ)) (Uo (ev Γ G e ρ) k) (ji fu Γ G ls r ρ k):=by rw[ji]
theorem j0i:ji fu Γ G ls (.ifRai c x m r) ρ k=ifP (truth (ev Γ G c ρ)) (V8 x (ev Γ G m ρ) (G (bang x)) ρ) (ji fu Γ G ls r ρ k):=by rw[ji]
theorem j5b:ji fu Γ G ls (.ret e) ρ k=Uo (ev Γ G e ρ) k:=by rw[ji]
theorem j26:ji fu Γ G ls (.take i r) ρ k=ji fu Γ G ls r (ρ.set i (.val (.str (ls.getD k "")))) (k+1):=by rw[ji]
theorem j0k:ji fu Γ G ls (.callS i f es r) ρ k=W0 G (U3 Γ ls f (ev Γ G es ρ) k) ρ λd k'=>ji fu Γ G ls r (ρ.set i (.val d)) k':=by rw[ji]
theorem j0j:ji fu Γ G ls (.ifAll x m r) ρ k=if ls.length<=k then ji fu Γ G ls r ρ k else V8 x (ev Γ G m ρ) (G (bang x)) ρ:=by rw[ji]
theorem jbi{l:List D}{g:En->Sm}:Ck i (ae (.v (.o l))) ρ g=g (ρ.set i (.own l)):=(rfl)
theorem j9n{l:List D}{g:En->Sm}:Dj i (ae (.own l)) ρ g=g (ρ.set i (.val (.lst l))):=(rfl)
theorem jbr{d:D}:Uo (ae (.v (.e d))) k=.ret d k:=(rfl)
theorem jbs{d:D}{z:Rk}:V8 x (ae (.v z)) (ae d) ρ=.err x ρ:=(rfl)
theorem jgs{a b:Sm}:ifP (ae ag) a b=a:=(rfl)
theorem jgt{a b:Sm}:ifP (ae af) a b=b:=(rfl)
theorem jeq{d:D}{g:D->Nat->Sm}:W0 G (.mval d k) ρ g=g d k:=(rfl)
theorem Kg{g:D->Nat->Sm}(h:(G (bang x)).isSome=ag):W0 G (.merr x) ρ g=.err x ρ:=if_pos h
theorem jar{d:D}:U3 Γ ls f (ae (.a [.e d])) k=Γ (mq f) [.lst (ls.map D.str),.int (k:Int),d]:=(rfl)
end
section
variable{Γ:ao->List D->Rc}{G:ao->Option D}{ρ:En}{a:Ex}
theorem jds:ev Γ G (.spl a) ρ=Cd (ev Γ G a ρ):=(rfl)
theorem jdr:ev Γ G (.sti a) ρ=Dy (ev Γ G a ρ):=(rfl)
theorem jb9 {y:ao} (h1:y.length<=100000) (h2:(aA y " ").length<=1000000):Cd (ae (.v (.e (.str y))))=ae (.v (.o ((aA y " ").map D.str))):=if_pos ⟨h1,by simp[je,vq h2]⟩
theorem Ui{i:Int}(h:-18446744073709551616<i/\i<18446744073709551616):Dy (ae (.v (.e (.int i))))=ae (.v (.e (.str (aT (toString i))))):=if_pos h
theorem j7x{y:ao}{n:Int}(h:y.length<=640)(hn:c7 y=ae n):vg .int (ae (.a [.e (.str y)]))=ae (.v (.e (.int n))):=by simp only[vg,Z1,Rk.d,h,if_true,hn,eC];rfl
end
end L2
end
section
open PySem (Str)
open L2
noncomputable def jgy:=(k5j (k5j (k5j (k5j (k5j (k5j (k5j @j8s (k5j @jds @jdr)) (k5j @Ui (k5j @jbn @j55))) (k5j (k5j @jaa (k5j @jab @jac)) (k5j @jad (k5j @j5a @j27)))) (k5j (k5j (k5j @j0h (k5j @j0i @j5b)) (k5j @j26 (k5j @j0k @jbi))) (k5j (k5j @j9n (k5j @jbr @jgs)) (k5j @jgt (k5j @jeq @jar))))) (k5j (k5j (k5j (k5j @j8q (k5j @j8p @j59)) (k5j @j8r (k5j @j54 @j8t))) (k5j (k5j @j57 (k5j @j8u @j58)) (k5j @j32 (k5j @j31 @j6w)))) (k5j (k5j (k5j @jdu (k5j @j5i @je3)) (k5j @Iw (k5j @j99 @jbg))) (k5j (k5j @jdo (k5j @Do @j24)) (k5j (k5j @j53 @j1t) (k5j @j4v @jae)))))) (k5j (k5j (k5j (k5j (k5j @jfv (k5j @j21 @Cm)) (k5j @jgq (k5j @jgr @jbf))) (k5j (k5j @jbh (k5j @jbq @j28)) (k5j @j8w (k5j @jdn @j9k)))) (k5j (k5j (k5j @jet (k5j @Ej @j6k)) (k5j @jdz (k5j @jdp @jah))) (k5j (k5j @je6 (k5j @jdx @je4)) (k5j @je2 (k5j @je7 @jh1))))) (k5j (k5j (k5j (k5j @jdv (k5j @je0 @jdw)) (k5j @jai (k5j @jdq @jdy))) (k5j (k5j @jh2 (k5j @jh0 @jak)) (k5j @je5 (k5j @je1 @jaj)))) (k5j (k5j (k5j @jdt (k5j @j6m @jb0)) (k5j @jb1 (k5j @Bj @jdk))) (k5j (k5j @jh8 (k5j @jer @j78)) (k5j (k5j @j74 @j76) (k5j @j49 @j77))))))) (k5j (k5j (k5j (k5j (k5j (k5j @j75 (k5j @jen @jeo)) (k5j @jcm (k5j @jeg @d_e))) (k5j (k5j @d_o (k5j @d_w @jeh)) (k5j @j6v (k5j @j6y @j6x)))) (k5j (k5j (k5j @j3x (k5j @j62 @j3n)) (k5j @j3o (k5j @j3p @j3q))) (k5j (k5j @j3r (k5j @j3s @j3t)) (k5j @j3u (k5j @j3v @j3w))))) (k5j (k5j (k5j (k5j @jdi (k5j @j8g @j4m)) (k5j @jev (k5j @jeu @jg5))) (k5j (k5j @jg6 (k5j @jcj @jfk)) (k5j @jde (k5j @jdf @Wi)))) (k5j (k5j (k5j @jb6 (k5j @jb5 @jcx)) (k5j @jcw (k5j @jcv @jcu))) (k5j (k5j @jct (k5j @jcs @Eh)) (k5j (k5j @jdb @jda) (k5j @jgn @jgl)))))) (k5j (k5j (k5j (k5j (k5j @j72 (k5j @j71 @jbd)) (k5j @jfn (k5j @jft @jfu))) (k5j (k5j @j0l (k5j @jaq @jap)) (k5j @jao (k5j @j70 @jgk)))) (k5j (k5j (k5j @jgi (k5j @jgh @jco)) (k5j @j4i (k5j @j9l @jha))) (k5j (k5j @jdg (k5j @j8n @jbk)) (k5j (k5j @j5e @jag) (k5j @jej @jgm))))) (k5j (k5j (k5j (k5j @jfo (k5j @jem @jgj)) (k5j @j66 (k5j @j69 @j9y))) (k5j (k5j @j9t (k5j @j6c @j68)) (k5j @j9x (k5j @j9s @j6b)))) (k5j (k5j (k5j @j65 (k5j @j9w @j9r)) (k5j @j6a (k5j @j64 @j9u))) (k5j (k5j @j67 (k5j @j9v @ja2)) (k5j (k5j @ja5 @ja4) (k5j @ja1 @ja3))))))))
local macro_rules | `(tactic| walk_at "go")=>`(tactic| try simp (disch:=first | omega | assumption | (simp only [List.length_map,List.length_append,List.length_cons,List.length_nil,List.length_take,List.length_drop,List.length_reverse] <;> omega)) only [jgy,Vc,beq_self_eq_true,frz,J1,j6i,List.getElem?_cons_zero,List.getElem?_cons_succ,List.set_cons_zero,List.set_cons_succ,List.map_cons,List.map_nil,List.cons_append,List.nil_append,List.replicate,List.length_map,List.length_append,List.length_cons,List.length_nil,Bool.not_true,Bool.not_false,bne_self_eq_false,Nat.reduceSub,Nat.reduceAdd,Int.reduceToNat,Int.reducePow])
local macro_rules | `(tactic| ext)=>`(tactic| walk_at "go")
local macro_rules | `(tactic| erw [$r])=>`(tactic| (rw [$r]; ext)) | `(tactic| erw [$r,$rs,*])=>`(tactic| (rw [$r]; ext; erw [$rs,*]))
namespace KL
noncomputable def V5:Sx:=(.seq (.ife (.cmp .lt (.var 1) (.blt .len (.cons (.var 0) .nil))) (.seq (.ret (.ix (.var 0) (.var 1))) .nop) .nop) (.seq (.set 2 (.bin .add (.lit (.int 70001)) (.bin .mul (.bin .mul (.lit (.int 911)) (.var 1)) (.var 1)))) (.seq (.ife (.cmp .gt (.blt .len (.cons (.var 0) .nil)) (.lit (.int 0))) (.seq (.set 2 (.bin .add (.var 2) (.bin .mul (.bin .mod (.ix (.var 0) (.lit (.int 0))) (.lit (.int 9973))) (.bin .add (.bin .mul (.lit (.int 3)) (.var 1)) (.lit (.int 1)))))) .nop) .nop) (.seq (.retV 2) .nop))))
noncomputable def fL_cell:Fi:=⟨2,3,V5,af⟩
noncomputable def Z2:Sx:=(.seq (.ife (.isi (.var 1) ["list","tuple"]) (.seq (.ife (.or (.cmp .ne (.isi (.var 0) ["list"]) (.isi (.var 1) ["list"])) (.not (.isi (.var 0) ["list","tuple"]))) (.seq (.ret (.lit (.bl af))) .nop) .nop) (.seq (.set 2 (.comp [3] (.var 3) (.range (.cons (.blt .min (.cons (.blt .len (.cons (.var 0) .nil)) (.cons (.blt .len (.cons (.var 1) .nil)) .nil))) .nil)) (.cons (.not (.call "_law_same" (.cons (.ix (.var 0) (.var 3)) (.cons (.ix (.var 1) (.var 3)) .nil)))) .nil))) (.seq (.ret (.and (.cmp .eq (.blt .len (.cons (.var 0) .nil)) (.blt .len (.cons (.var 1) .nil))) (.cmp .eq (.var 2) (.lst .nil)))) .nop))) .nop) (.seq (.ife (.isN (.var 1)) (.seq (.ret (.isN (.var 0))) .nop) .nop) (.seq (.ife (.or (.cmp .ne (.isi (.var 0) ["bool"]) (.isi (.var 1) ["bool"])) (.cmp .ne (.isi (.var 0) ["str"]) (.isi (.var 1) ["str"]))) (.seq (.ret (.lit (.bl af))) .nop) .nop) (.seq (.ret (.and (.isi (.var 0) ["int","str"]) (.cmp .eq (.var 0) (.var 1)))) .nop))))
noncomputable def fL_same:Fi:=⟨2,4,Z2,af⟩
section
variable{G:ao->Option D}{T:ao->Option Fi}
noncomputable def qp(ns:List Int)(k:Nat):Int:=match ns[k]? with
 |some v=>v
 |none=>match ns with
  |[]=>70001+911*k*k
  |v::_=>70001+911*k*k+v%9973*(3*k+1)
theorem j3y {fu n:Nat} (hT:T "_law_cell" = ae fL_cell) {ns:List Int} {k:Nat} (hk:k<=100):evP fu G T (n+1) "_law_cell" [.lst (ns.map .int),.int k]=.val (.int (qp ns k)):=by
 rw[jj (F:=fL_cell) hT rfl];simp only[fL_cell,V5,enter];by_cases h:k<ns.length
 .have e:atI (ns.map D.int) (k:Int)=ae (.int ns[k]):=Vq (by simp[h]);have q:qp ns k=ns[k]:=by simp[qp,h]
  ext;simp only[e,Eh,j28,Iw,Cm,Ej,q]
 .cases ns with
  |nil =>ext;simp[qp]
  |cons v r =>
   have e:atI (D.int v::r.map D.int) 0=ae (.int v):=by simp[atI,ixN]
   have q:qp (v::r) k=70001+911*k*k+v%9973*(3*k+1):=by unfold qp;rw[T7 nofun]
   rw[X5];rw[xn]at h;ext;simp only[e];ext;rw[q]
theorem Uj {fu:Nat} (hT:T "_law_same" = ae fL_same):∀(k:Nat){x:D}{n:Nat},x.dep<=k->vp x->evP fu G T (n+k+1) "_law_same" [x,x]=.val (.bl ag):=by
 intro k;induction k with
 |zero =>
  intro x n hk hx;rw[jj (F:=fL_same) hT rfl];simp only[fL_same,Z2,enter];cases x with
  |tup l=>simp[D.dep]at hk
  |lst l=>simp[D.dep]at hk
  |dct ks l=>simp[D.dep]at hk
  |sct k=>simp[D.dep]at hk
  |fn x l=>simp[D.dep]at hk
  |non=>ext
  |bl b=>ext
  |int i=>ext
  |str z=>ext
 |succ k ih =>
  intro x n hk hx;have ih':∀{x:D},x.dep<=k->vp x->evP fu G T (n+(k+1)) "_law_same" [x,x]=.val (.bl ag):=λh1 h2=>ih h1 h2;rw[jj (F:=fL_same) hT rfl];simp only[fL_same,Z2,enter];cases x with
  |dct ks l=>exact aO (by simpa [vp]using hx)
  |sct k=>exact aO (by simpa [vp]using hx)
  |fn x l=>exact aO (by simpa [vp]using hx)
  |tup l =>
   obtain⟨hl,hx⟩:=j2y hx;have hk:D.depL l<=k:=by simp only[D.dep]at hk;omega
   ext;rw[Xz,Jj (l:=[]) (by rfl) (by rw[J2];omega) ?_ (.inl rfl)]
   .ext
   .refine Yz λd hd=>?_;obtain⟨j,hj,rfl⟩:=Lh hd;have hg:atI l (0+(j:Int))=ae l[j]:=by rw[fR];exact Vq (kh hj)
    have hm:l[j]∈l:=Pj hj;refine Yk (b:=af) (d':=.non) ?_ λz=>by cases z
    ext;simp only[hg];ext;rw[ih' (X8 (D.depL_mem hm) hk) (Yr hx hm)];ext
  |lst l =>
   obtain⟨hl,hx⟩:=j2z hx;have hk:D.depL l<=k:=by simp only[D.dep]at hk;omega
   ext;rw[Xz,Jj (l:=[]) (by rfl) (by rw[J2];omega) ?_ (.inl rfl)]
   .ext
   .refine Yz λd hd=>?_;obtain⟨j,hj,rfl⟩:=Lh hd;have hg:atI l (0+(j:Int))=ae l[j]:=by rw[fR];exact Vq (kh hj)
    have hm:l[j]∈l:=Pj hj;refine Yk (b:=af) (d':=.non) ?_ λz=>by cases z
    ext;simp only[hg];ext;rw[ih' (X8 (D.depL_mem hm) hk) (Yr hx hm)];ext
  |non=>ext
  |bl b=>ext
  |int i=>ext
  |str z=>ext
theorem V6(n:Nat):upto 0 n=(aS n).map λ(k:Nat)=>D.int (0+(k:Int)):=rfl
end
end KL
namespace KV
open PySem
noncomputable def letters:List Nat:=[109,100,107,98,118,113,104,122,99,103,114,110,97,112,120,111,108,115,105,101,102,119,116,121,106,117]
theorem j9j:("mdkbvqhzcgrnapxolsiefwtyju":ao).cps.toList=letters:=by decide +kernel
noncomputable def lt(n:Int):Nat:=letters.getD n.toNat 0
noncomputable def sL(l:List Nat):ao:=⟨l.toArray⟩
theorem z8{l:List Nat}:(sL l).length=l.length:=by simp[sL,jJ]
theorem Uk{l m:List Nat}(h:sL l=sL m):l=m:=by have:=congrArg (λz=>z.cps.toList) h;simpa [sL]using this
theorem Zb{l m:List Nat}:sL l++sL m=sL (l++m):=by show(⟨l.toArray++m.toArray⟩:ao)=_;simp[sL]
theorem Mt:∀l:List Nat,bF ("":ao) (l.map λc=>(⟨#[c]⟩:ao))=sL l:=by
 intro l;show f9 _ _=_;rw[StrLaws.glued_eq_join];induction l with
 |nil=>rfl
 |cons a r ih =>
  cases r with
  |nil=>rfl
  |cons b r =>
   rw[X5,X5,i4,<-X5 (f:=λc=>(⟨#[c]⟩:ao)),ih]
   .show(⟨(#[a] ++ #[])++(b::r).toArray⟩:ao)=⟨(a::b::r).toArray⟩
    simp
   .intro z;cases z
theorem Ul{l:List Nat}:(sL l).cps.toList=l:=by simp[sL]
theorem O1{k n:Nat}:aM ah (ae (k:Int)) 1 n=aM (ae ((0:Nat):Int)) (ae (k:Int)) 1 n:=by
 have e:max (0:Int) (min 0 (n:Int))=0:=by omega
 simp[aM,e]
theorem O2{k n:Nat}:aM (ae (k:Int)) ah 1 n=aM (ae (k:Int)) (ae (n:Int)) 1 n:=by
 have e:max (0:Int) (min (n:Int) (n:Int))=n:=by omega
 have e2:¬((n:Int)<0):=by omega
 simp[aM,e,e2]
theorem Ci{l:List Nat}{a b:Nat}{lo hi:Option Int}(he:aM lo hi 1 (sL l).length=aM (ae (a:Int)) (ae (b:Int)) 1 (sL l).length)(hab:a<=b)(hb:b<=l.length):bJ (sL l) lo hi=sL ((l.drop a).take (b-a)):=by
 have hb':b<=(sL l).length:=by rw[z8];exact hb
 have q:=StrLaws.sliced_plain (sL l) hab hb';rw[Ul]at q;have e1:=StrLaws.strSliceIndices_plain hab hb';unfold bJ;rw[he];by_cases h:((1:Int)==1&&(aM (ae (a:Int)) (ae (b:Int)) 1 (sL l).length).length==(sL l).length)=ag
 .rw[if_pos h];rw[e1,z8,xj,cS]at h;have:b-a=l.length:=by simpa using h
  have ha:a=0:=by omega
  subst ha;rw[this,cK,gN]
 .rw[if_neg h,q];rfl
theorem Ma{l:List Nat}{k:Nat}(h:k<=l.length):bJ (sL l) ah (ae (k:Int))=sL (l.take k):=by rw[Ci (a:=0) (b:=k) O1 (cW _) h];simp
theorem Mg{l:List Nat}{k:Nat}(h:k<=l.length):bJ (sL l) (ae (k:Int)) ah=sL (l.drop k):=by rw[Ci (a:=k) (b:=l.length) (by rw[O2,z8]) h (X4 _),de (by rw[Xf];omega)]
theorem Uw {l:List Nat} (h:l.length<=100):bq ("":ao) (l.map λc=>(⟨#[c]⟩:ao))=ag:=by
 unfold bq;rw[cT];have e:∀(r:List Nat)(k:Nat),(r.map λc=>(⟨#[c]⟩:ao)).foldl (λ(x:Nat) (y:ao)=>x+y.length+("":ao).length) k=k+r.length:=by
  intro r;induction r with
  |nil=>intro k;rfl
  |cons a r ih =>intro k;rw[X5,cA,ih,xn];show k+1+0+r.length=_;omega
 show aX _=af;have:=e l 0;rw[gr];show aX (cf (λ(x:Nat) (y:ao)=>x+y.length+("":ao).length) 0 _)=af;rw[this];unfold aX;simp;have:=bK;omega
noncomputable def Z6(c:Int):List Nat:=(aS 8).map λ(k:Nat)=>lt (c/(4+5*(k:Int))%26)
noncomputable def Qk(c:Int)(s:Nat):List Nat:=(aS s).map λ(k:Nat)=>lt ((c/32+3*(k:Int)*(k:Int)+(k:Int))%26)
theorem vo(c:Int):(Z6 c).length=8:=by simp[Z6]
theorem z9(c:Int)(s:Nat):(Qk c s).length=s:=by simp[Qk]
noncomputable def stN(c:Int)(m:Nat):Nat:=(c/8%(9-(m:Int))).toNat
noncomputable def szN(c:Int):Nat:=(c/4%8).toNat
noncomputable def atN(c:Int):Nat:=(c/512%((szN c:Int)+1)).toNat
noncomputable def wrd(c:Int)(m k:Nat):List Nat :=
 if c%4<2 then(if c%4=0 then(Z6 c).take (stN c m+k+1) else(Z6 c).drop (8-stN c m-k-1))
 else(Qk c (szN c)).take (atN c)++lt ((c/9+7*(k:Int))%26)::(Qk c (szN c)).drop (atN c)
noncomputable def Jf(c:Int)(m:Nat):List ao:=(aS m).map λ(k:Nat)=>sL (wrd c m k)
theorem jcq{a b:Int}(ha:0<=a/\a<26)(hb:0<=b/\b<26)(h:lt a=lt b):a=b:=by
 obtain⟨i,rfl⟩:∃i:Nat,a=(i:Int):=⟨a.toNat,by omega⟩
 obtain⟨j,rfl⟩:∃j:Nat,b=(j:Int):=⟨b.toNat,by omega⟩
 have key:∀i j:Fin 26,letters.getD i.val 0=letters.getD j.val 0->i=j:=by decide +kernel
 have:=key ⟨i,by omega⟩ ⟨j,by omega⟩ h;have:=congrArg Fin.val this;simp at this;omega
theorem j08{c:Int}{m:Nat}(h:m<=6):stN c m+m<=8:=by unfold stN;have h1:=T8 (c/8) (show(9-(m:Int))≠0 by omega);have h2:=cO (c/8) (show(0:Int)<9-(m:Int)by omega);omega
theorem Dp(c:Int):atN c<=szN c/\szN c<=7:=by unfold atN;have h1:=T8 (c/512) (show((szN c:Int)+1)≠0 by omega);have h2:=cO (c/512) (show(0:Int)<(szN c:Int)+1 by omega);refine⟨by omega,?_⟩;unfold szN;omega
theorem j8e{c:Int}{m k:Nat}(hm:m<=6)(hk:k<m):1<=(wrd c m k).length/\(wrd c m k).length<=8:=by
 have s:=j08 (c:=c) hm;have a:=Dp c;have l8:=vo c;have ls:=z9 c (szN c);unfold wrd;split
 .split
  .rw[Xh];omega
  .rw[Xf];omega
 .rw[X7,xn,Xh,Xf];omega
theorem j8f{c:Int}{m i j:Nat}(hm:m<=6)(hi:i<m)(hj:j<m)(h:wrd c m i=wrd c m j):i=j:=by
 have s:=j08 (c:=c) hm;have a:=Dp c;have l8:=vo c;have ls:=z9 c (szN c);unfold wrd at h;split at h
 .split at h
  .have:=congrArg fU h;rw[Xh,Xh]at this;omega
  .have:=congrArg fU h;rw[Xf,Xf]at this;omega
 .have h2:=List.append_cancel_left h;have h3:=(dk h2).1;have:=jcq nofun nofun h3;omega
end KV
open PySem (Str)
open L2
namespace KW
open KL KV PySem
noncomputable def Qd:Sx:=(.seq (.set 2 (.lit (.str "mdkbvqhzcgrnapxolsiefwtyju"))) (.seq (.ife (.cmp .lt (.bin .mod (.var 0) (.lit (.int 4))) (.lit (.int 2))) (.seq (.set 3 (.join "" (.comp [4] (.ix (.var 2) (.bin .mod (.bin .fdiv (.var 0) (.bin .add (.lit (.int 4)) (.bin .mul (.lit (.int 5)) (.var 4)))) (.lit (.int 26)))) (.range (.cons (.lit (.int 8)) .nil)) .nil))) (.seq (.set 5 (.bin .mod (.bin .fdiv (.var 0) (.lit (.int 8))) (.bin .sub (.lit (.int 9)) (.var 1)))) (.seq (.ife (.cmp .eq (.bin .mod (.var 0) (.lit (.int 4))) (.lit (.int 0))) (.seq (.ret (.comp [4] (.sl (.var 3) .nil (.cons (.bin .add (.bin .add (.var 5) (.var 4)) (.lit (.int 1))) .nil)) (.range (.cons (.var 1) .nil)) .nil)) .nop) .nop) (.seq (.ret (.comp [4] (.sl (.var 3) (.cons (.bin .sub (.bin .sub (.bin .sub (.lit (.int 8)) (.var 5)) (.var 4)) (.lit (.int 1))) .nil) .nil) (.range (.cons (.var 1) .nil)) .nil)) .nop)))) .nop) (.seq (.set 6 (.bin .mod (.bin .fdiv (.var 0) (.lit (.int 4))) (.lit (.int 8)))) (.seq (.set 7 (.join "" (.comp [4] (.ix (.var 2) (.bin .mod (.bin .add (.bin .add (.bin .fdiv (.var 0) (.lit (.int 32))) (.bin .mul (.bin .mul (.lit (.int 3)) (.var 4)) (.var 4))) (.var 4)) (.lit (.int 26)))) (.range (.cons (.var 6) .nil)) .nil))) (.seq (.set 8 (.bin .mod (.bin .fdiv (.var 0) (.lit (.int 512))) (.bin .add (.var 6) (.lit (.int 1))))) (.seq (.ret (.comp [4] (.bin .add (.bin .add (.sl (.var 7) .nil (.cons (.var 8) .nil)) (.ix (.var 2) (.bin .mod (.bin .add (.bin .fdiv (.var 0) (.lit (.int 9))) (.bin .mul (.lit (.int 7)) (.var 4))) (.lit (.int 26))))) (.sl (.var 7) (.cons (.var 8) .nil) .nil)) (.range (.cons (.var 1) .nil)) .nil)) .nop))))))
noncomputable def fL_words:Fi:=⟨2,9,Qd,af⟩
section
variable{G:ao->Option D}{T:ao->Option Fi}
theorem j0x {n:Int} (h:0<=n/\n<26):atI ("mdkbvqhzcgrnapxolsiefwtyju":ao).cps.toList n=ae (lt n):=by
 obtain⟨k,rfl⟩:∃k:Nat,n=(k:Int):=⟨n.toNat,by omega⟩
 have hk:k<letters.length:=by show k<26;omega
 rw[j9j];refine Vq ?_;unfold lt;rw[kh hk,Xz,xf,kh hk];rfl
theorem j7v:("mdkbvqhzcgrnapxolsiefwtyju":ao).length<=1000000:=by decide +kernel
theorem Dr {fu n m:Nat} (hT:T "_law_words" = ae fL_words) {c:Int} (h:¬c%4<2) (hm:m<=10):evP fu G T (n+1) "_law_words" [.int c,.int m]=.fresh ((Jf c m).map D.str):=by
 rw[jj (F:=fL_words) hT rfl];simp only[fL_words,Qd,enter];have ll:=j7v;have a:=Dp c;obtain⟨s,hs⟩:∃s:Nat,s=szN c:=⟨_,rfl⟩
 have es:c/4%8=(s:Int):=by rw[hs];unfold szN;omega
 obtain⟨q,hq⟩:∃q:Nat,q=atN c:=⟨_,rfl⟩
 have eq:c/512%((s:Int)+1)=(q:Int):=by rw[hq];unfold atN;have:=T8 (c/512) (show((s:Int)+1)≠0 by omega);rw[<-hs];omega
 ext;rw[es,Jj (l:=((Qk c s).map λx=>(⟨#[x]⟩:ao)).map D.str) (by rfl) (by rw[J2];omega) ?_ (.inl rfl)];rotate_left
 .rw[Xz,V6,Qk,Xj,Xj];refine Jx λk hk'=>V2 (by ext) ?_;have hk:=Pa.mp hk';ext;rw[j0x nofun];ext;simp
 rw[Wf (Uw (by rw[z9];omega)),Mt];have lg:(sL (Qk c s)).length=s:=by rw[z8,z9]
 ext;rw[eq,Jj (l:=(Jf c m).map D.str) (by rfl) (by rw[J2];omega) ?_ (.inl rfl)]
 .ext
 .rw[Xz,V6,Jf,Xj];refine Jx λk hk'=>V2 (by ext) ?_;have hk:=Pa.mp hk';ext;rw[j0x nofun];ext;rw[Ma (by rw[z9];omega),Mg (by rw[z9];omega)];have e1:(⟨#[lt ((c/9+7*(0+(k:Int)))%26)]⟩:ao)=sL [lt ((c/9+7*(0+(k:Int)))%26)]:=rfl;have l1:(sL ((Qk c s).take q)).length=q:=by rw[z8,Xh,z9];omega
  have l2:(sL ((Qk c s).drop q)).length=s-q:=by rw[z8,Xf,z9]
  have l3:(sL [lt ((c/9+7*(0+(k:Int)))%26)]).length=1:=rfl;have l4:(sL ((Qk c s).take q)++sL [lt ((c/9+7*(0+(k:Int)))%26)]).length=q+1:=by rw[Zb,z8,X7,Xh,z9,xn,Pk];omega
  rw[e1];ext;rw[Zb,Zb];simp only[Function.comp,wrd,h,if_false,<-hs,<-hq,ph,fO,fR]
theorem Ez {fu n m:Nat} (hT:T "_law_words" = ae fL_words) {c:Int} (hm:1<=m/\m<=6):evP fu G T (n+1) "_law_words" [.int c,.int m]=.fresh ((Jf c m).map D.str):=by
 by_cases h:c%4<2
 .rw[jj (F:=fL_words) hT rfl];simp only[fL_words,Qd,enter];have ll:=j7v;ext;rw[Jj (l:=((Z6 c).map λx=>(⟨#[x]⟩:ao)).map D.str) (by rfl) (by rw[J2];decide) ?_ (.inl rfl)];rotate_left
  .rw[V6,Z6,Xj,Xj];refine Jx λk hk'=>V2 (by ext) ?_;have hk:=Pa.mp hk';ext;rw[j0x nofun];ext;simp
  rw[Wf (Uw (by rw[vo];decide)),Mt];have st:=j08 (c:=c) hm.2;obtain⟨s,hs⟩:∃s:Nat,s=stN c m:=⟨_,rfl⟩
  have es:c/8%(9-(m:Int))=(s:Int):=by rw[hs];unfold stN;have:=T8 (c/8) (show(9-(m:Int))≠0 by omega);omega
  have lg:(sL (Z6 c)).length=8:=by rw[z8,vo]
  by_cases h0:c%4=0
  .ext;rw[es,Jj (l:=(Jf c m).map D.str) (by rfl) (by rw[J2];omega) ?_ (.inl rfl)]
   .ext
   .rw[Xz,V6,Jf,Xj];refine Jx λk hk'=>V2 (by ext) ?_;have hk:=Pa.mp hk';ext;have e:(s:Int)+(0+(k:Int))+1=((s+k+1:Nat):Int):=by omega
    have hh:wrd c m k=(Z6 c).take (stN c m+k+1):=by unfold wrd;rw[if_pos h,if_pos h0]
    rw[e,Ma (by rw[vo];omega)];simp only[Function.comp,hh,hs]
  .ext;rw[es,Jj (l:=(Jf c m).map D.str) (by rfl) (by rw[J2];omega) ?_ (.inl rfl)]
   .ext
   .rw[Xz,V6,Jf,Xj];refine Jx λk hk'=>V2 (by ext) ?_;have hk:=Pa.mp hk';ext;have e:8-(s:Int)-(0+(k:Int))-1=((8-s-k-1:Nat):Int):=by omega
    have hh:wrd c m k=(Z6 c).drop (8-stN c m-k-1):=by unfold wrd;rw[if_pos h,if_neg h0]
    rw[e,Mg (by rw[vo];omega)];simp only[Function.comp,hh,hs]
 .exact Dr hT h nofun
end
end KW
namespace KB
open PySem KV PyProof.Rows
noncomputable def jn:List (List Nat)->List Nat
 |[]=>[]
 |[x]=>x
 |x::r=>x++32::jn r
theorem Ef{x:List Nat}{r:List (List Nat)}(h:r≠[]):jn (x::r)=x++32::jn r:=by
 cases r with
 |nil=>exact absurd rfl h
 |cons y r=>rfl
theorem Zy{x y:List Nat}{r:List (List Nat)}:jn (x::y::r)=x++32::jn (y::r):=rfl
theorem j52:(" ":ao)=sL [32]:=by decide +kernel
theorem j0g(x:ao):sL x.cps.toList=x:=by cases x;simp[sL]
theorem We:∀ls:List (List Nat),i4 " " (ls.map sL)=sL (jn ls)
 |[]=>rfl
 |[x]=>rfl
 |x::y::r=>by
  rw[X5,X5,i4,<-X5 (f:=sL),We (y::r),j52,Zb,Zb,Zy]
  .congr 1;simp
  .intro z;cases z
theorem Wd (ls:List (List Nat)):bF " " (ls.map sL)=sL (jn ls):=by show f9 _ _=_;rw[StrLaws.glued_eq_join,We]
theorem Er(c:Nat):∀a b:List Nat,cnt c (a++b)=cnt c a+cnt c b
 |[],b=>by rw[dj,cnt_nil];omega
 |x::a,b=>by rw[Pr,fK,fK,Er c a b];omega
theorem K9(c:Nat):∀a:List Nat,0<=cnt c a
 |[]=>by rw[cnt_nil];omega
 |x::a=>by have:=K9 c a;rw[fK];split<;>omega
theorem j83{c:Nat}:∀{a:List Nat},cnt c a=0->c∉a
 |[],_=>by simp
 |x::a,h=>by
  rw[fK]at h;have:=K9 c a;split at h
  .omega
  .rename_i z;have:=j83 (c:=c) (a:=a) nofun
   simp only[km,not_or];exact⟨λq=>z q.symm,this⟩
theorem j3m:∀ls:List (List Nat),ls≠[]->cnt 32 (jn ls)=(ls.map (cnt 32)).sum+(ls.length:Int)-1
 |[],h=>absurd rfl h
 |[x],_=>by simp[jn]
 |x::y::r,_=>by rw[Zy,Er,fK,if_pos rfl,j3m (y::r) (by intro z;cases z)];simp only[X5,fg,xn];omega
theorem j1z:∀{l:List Int},(∀x∈l,0<=x)->0<=l.sum
 |[],_=>by simp
 |a::l,h=>by rw[fg];have:=j1z λy hy=>h y (kj _ hy);have:=h a xg;omega
theorem j7i:∀{l:List Int},(∀x∈l,0<=x)->l.sum=0->∀x∈l,x=0
 |[],_,_,_,h=>absurd h (by simp)
 |a::l,h,e,x,hx=>by
  rw[fg]at e;have h1:=h a xg;have h2:0<=l.sum:=by exact j1z λy hy=>h y (kj _ hy)
  rcases km.mp hx with rfl|hx
  .omega
  .exact j7i (λy hy=>h y (kj _ hy)) nofun x hx
def bf(ls:List (List Nat)):Prop:=∀l∈ls,32∉l
theorem j3l:∀{a b c d:List Nat},32∉a->32∉c->a++32::b=c++32::d->a=c/\b=d
 |[],b,[],d,_,_,h=>by simpa using h
 |[],b,x::c,d,_,hc,h=>by have:=(dk h).1;exact absurd (km.mpr (.inl this)) hc
 |x::a,b,[],d,ha,_,h=>by have:=(dk h).1;exact absurd (km.mpr (.inl this.symm)) ha
 |x::a,b,y::c,d,ha,hc,h=>by obtain⟨h1,h2⟩:=dk h;obtain⟨e1,e2⟩:=j3l (a:=a) (c:=c) (λz=>ha (kj _ z)) (λz=>hc (kj _ z)) h2;exact⟨by rw[h1,e1],e2⟩
theorem j33:∀{ls ms:List (List Nat)},ls≠[]->ms≠[]->bf ls->bf ms->jn ls=jn ms->ls=ms
 |[],_,h,_,_,_,_=>absurd rfl h
 |_,[],_,h,_,_,_=>absurd rfl h
 |[x],[y],_,_,_,_,h=>by rw[show x=y from h]
 |[x],y::z::r,_,_,h1,_,h=>by rw[Zy]at h;exact absurd (show 32∈x from by rw[show x=_ from h];simp) (h1 x xg)
 |x::z::r,[y],_,_,_,h1,h=>by rw[Zy]at h;exact absurd (show 32∈y from by rw[<-show _=y from h];simp) (h1 y xg)
 |x::z::r,y::u::s,_,_,h1,h2,h=>by rw[Zy,Zy]at h;obtain⟨e1,e2⟩:=j3l (h1 x xg) (h2 y xg) h;rw[e1,j33 (by intro q;cases q) (by intro q;cases q) (λl hl=>h1 l (kj _ hl)) (λl hl=>h2 l (kj _ hl)) e2]
theorem j4t (x:ao):∃ls:List (List Nat),aA x " " = ls.map sL/\ls≠[]/\bf ls/\sL (jn ls)=x:=by
 have hl:=split_len x 32;have hj:=StrLaws.join_split x " ";rw[show(⟨#[32]⟩:ao) = " " from by decide +kernel]at hl;refine⟨(aA x " ").map λs=>s.cps.toList,?_,?_,?_,?_⟩
 .rw[Xj];exact(dq _).symm.trans (dE λs _=>(j0g s).symm)
 .intro h;have:=split_pos x " ";rw[List.map_eq_nil_iff.mp h]at this;exact absurd this (by decide)
 .have e:sL (jn ((aA x " ").map λs=>s.cps.toList))=x:=by rw[<-We,Xj];rw[show(aA x " ").map (sL ∘ λs=>s.cps.toList)=aA x " " from(dE λs _=>j0g s).trans (dq _)];exact hj
  have hne:(aA x " ").map (λs=>s.cps.toList)≠[]:=by intro h;have:=split_pos x " ";rw[List.map_eq_nil_iff.mp h]at this;exact absurd this (by decide)
  have hc:=j3m _ hne;have e2:x.cps.toList=jn ((aA x " ").map λs=>s.cps.toList):=by rw[<-e,Ul,e]
  rw[<-e2,xj]at hc;have h0:(((aA x " ").map λs=>s.cps.toList).map (cnt 32)).sum=0:=by omega
  intro l hl';exact j83 (j7i (λy hy=>by obtain⟨z,_,rfl⟩:=Xr.mp hy;exact K9 _ _) h0 _ (Xr.mpr ⟨l,hl',rfl⟩))
 .rw[<-We,Xj];rw[show(aA x " ").map (sL ∘ λs=>s.cps.toList)=aA x " " from(dE λs _=>j0g s).trans (dq _)];exact hj
theorem R9 {ls:List (List Nat)} (h:ls≠[]) (hb:bf ls):aA (sL (jn ls)) " " = ls.map sL:=by obtain⟨ms,e,hm,hb2,ej⟩:=j4t (sL (jn ls));rw[e,j33 hm h hb2 hb (Uk ej)]
theorem j34:∀{ls ms:List (List Nat)},ls≠[]->ms≠[]->jn (ls++ms)=jn ls++32::jn ms
 |[],_,h,_=>absurd rfl h
 |[x],ms,_,h=>by rw[fO,Ef h];rfl
 |x::y::r,ms,_,h=>by rw[Pr,Pr,Zy,<-Pr,j34 (by intro q;cases q) h,Zy];simp
end KB
section
namespace K19
open PySem PySem.Spec PyProof.Rows L2
noncomputable def top(i:Nat):aP:=PySem.Challenge.pw_leastasks_k19_plans_written_and_read.main.body.getD i (.Pass ⟨0,0,0,0⟩)
noncomputable def V1:Sx:=(.seq (.ret (.and (.cmp .ge (.blt .len (.cons (.var 0) .nil)) (.lit (.int 1))) (.and (.cmp .le (.blt .len (.cons (.var 0) .nil)) (.glob "LONGEST_WORD")) (.call "is_made_of" (.cons (.var 0) (.cons (.glob "LETTERS") .nil)))))) .nop)
noncomputable def Yu:Fi:=⟨1,1,V1,af⟩
noncomputable def Q9:Sx:=(.seq (.ret (.blt .all (.cons (.comp [2] (.cmp .isin (.var 2) (.var 1)) (.seq (.var 0)) .nil) .nil))) .nop)
noncomputable def Zr:Fi:=⟨2,3,Q9,af⟩
noncomputable def vh:Sx:=(.seq (.ife (.or (.cmp .lt (.var 0) (.glob "FEWEST_PLACES")) (.cmp .gt (.var 0) (.glob "MOST_PLACES"))) (.seq (.raise "WrongSize" (.fst (.cons (.lit (.str "there are ")) (.cons (.glob "FEWEST_PLACES") (.cons (.lit (.str " to ")) (.cons (.glob "MOST_PLACES") (.cons (.lit (.str " places, not ")) (.cons (.var 0) .nil)))))))) .nop) .nop) .nop)
noncomputable def Jc:Fi:=⟨1,1,vh,af⟩
noncomputable def v6:Sx:=(.seq (.expr (.call "refuse_wrong_size" (.cons (.blt .len (.cons (.var 0) .nil)) .nil))) (.seq (.set 1 (.lst .nil)) (.seq (.loop [2] (.seq (.var 0)) (.seq (.ife (.not (.call "is_word" (.cons (.var 2) .nil))) (.seq (.raise "NoWord" (.fst (.cons (.rpr (.var 2)) (.cons (.lit (.str " is no word of one to eight small letters")) .nil)))) .nop) .nop) (.seq (.ife (.cmp .isin (.var 2) (.var 1)) (.seq (.raise "Twice" (.fst (.cons (.lit (.str "the place ")) (.cons (.rpr (.var 2)) (.cons (.lit (.str " stands twice")) .nil))))) .nop) .nop) (.seq (.app 1 (.var 2)) .nop)))) .nop)))
noncomputable def J4:Fi:=⟨1,3,v6,af⟩
noncomputable def Ji:Sx:=(.seq (.ife (.not (.call "is_ask" (.cons (.var 0) .nil))) (.seq (.ret (.sti (.call "answer_told" (.cons (.var 0) .nil)))) .nop) .nop) (.seq (.ret (.join " " (.lst (.cons (.call "place_asked" (.cons (.var 0) .nil)) (.cons (.call "plan_shown" (.cons (.call "plan_behind" (.cons (.var 0) (.cons (.lit (.int 0)) .nil))) .nil)) (.cons (.call "plan_shown" (.cons (.call "plan_behind" (.cons (.var 0) (.cons (.lit (.int 1)) .nil))) .nil)) .nil)))))) .nop))
noncomputable def Jh:Fi:=⟨1,1,Ji,af⟩
noncomputable def Ju:Sx:=(.seq (.expr (.call "refuse_wrong_places" (.cons (.var 1) .nil))) (.newP 2 (.var 0) (.callS 3 "plan_taken" (.cons (.var 1) .nil) (.ifAll "NoPlan" (.lit (.str "something stands behind the plan")) (.ret (.var 3))))))
noncomputable def Js:Fi:=⟨2,4,Ju,af⟩
noncomputable def V0:Sx:=(.seq (.ret (.tup (.cons (.lit (.str "tell")) (.cons (.var 0) .nil)))) .nop)
noncomputable def Yt:Fi:=⟨1,1,V0,af⟩
noncomputable def Vp:Sx:=(.seq (.ret (.tup (.cons (.lit (.str "ask")) (.cons (.var 0) (.cons (.var 1) (.cons (.var 2) .nil)))))) .nop)
noncomputable def Ux:Fi:=⟨3,3,Vp,af⟩
noncomputable def Zk:Sx:=(.seq (.ret (.cmp .eq (.ix (.var 0) (.lit (.int 0))) (.lit (.str "ask")))) .nop)
noncomputable def Zh:Fi:=⟨1,1,Zk,af⟩
noncomputable def Q0:Sx:=(.seq (.ret (.ix (.var 0) (.lit (.int 1)))) .nop)
noncomputable def Qz:Fi:=⟨1,1,Q0,af⟩
noncomputable def Jz:Sx:=(.seq (.ret (.ix (.var 0) (.lit (.int 1)))) .nop)
noncomputable def Qy:Fi:=⟨1,1,Jz,af⟩
noncomputable def Ja:Sx:=(.seq (.ret (.ite (.cmp .eq (.var 1) (.lit (.int 1))) (.ix (.var 0) (.lit (.int 3))) (.ix (.var 0) (.lit (.int 2))))) .nop)
noncomputable def J8:Fi:=⟨2,2,Ja,af⟩
noncomputable def Ud:Sx:=(.px (.take 2 (.ifRet (.cmp .eq (.var 2) (.lit (.str "0"))) (.call "telling" (.cons (.lit (.int 0)) .nil)) (.ifRet (.cmp .eq (.var 2) (.lit (.str "1"))) (.call "telling" (.cons (.lit (.int 1)) .nil)) (.ifRai (.cmp .notin (.var 2) (.var 1)) "NoPlan" (.fst (.cons (.rpr (.var 2)) (.cons (.lit (.str " is no answer, nor a place that may be asked here")) .nil))) (.set 3 (.comp [4] (.var 4) (.seq (.var 1)) (.cons (.cmp .ne (.var 4) (.var 2)) .nil)) (.keep 3 (.callS 5 "plan_taken" (.cons (.var 3) .nil) (.callS 6 "plan_taken" (.cons (.var 3) .nil) (.ret (.call "asking" (.cons (.var 2) (.cons (.var 5) (.cons (.var 6) .nil))))))))))))))
noncomputable def Zq:Fi:=⟨3,8,Ud,af⟩
noncomputable def V5:Sx:=(.seq (.ife (.cmp .lt (.var 1) (.blt .len (.cons (.var 0) .nil))) (.seq (.ret (.ix (.var 0) (.var 1))) .nop) .nop) (.seq (.set 2 (.bin .add (.lit (.int 70001)) (.bin .mul (.bin .mul (.lit (.int 911)) (.var 1)) (.var 1)))) (.seq (.ife (.cmp .gt (.blt .len (.cons (.var 0) .nil)) (.lit (.int 0))) (.seq (.set 2 (.bin .add (.var 2) (.bin .mul (.bin .mod (.ix (.var 0) (.lit (.int 0))) (.lit (.int 9973))) (.bin .add (.bin .mul (.lit (.int 3)) (.var 1)) (.lit (.int 1)))))) .nop) .nop) (.seq (.retV 2) .nop))))
noncomputable def fL_cell:Fi:=⟨2,3,V5,af⟩
noncomputable def Qd:Sx:=(.seq (.set 2 (.lit (.str "mdkbvqhzcgrnapxolsiefwtyju"))) (.seq (.ife (.cmp .lt (.bin .mod (.var 0) (.lit (.int 4))) (.lit (.int 2))) (.seq (.set 3 (.join "" (.comp [4] (.ix (.var 2) (.bin .mod (.bin .fdiv (.var 0) (.bin .add (.lit (.int 4)) (.bin .mul (.lit (.int 5)) (.var 4)))) (.lit (.int 26)))) (.range (.cons (.lit (.int 8)) .nil)) .nil))) (.seq (.set 5 (.bin .mod (.bin .fdiv (.var 0) (.lit (.int 8))) (.bin .sub (.lit (.int 9)) (.var 1)))) (.seq (.ife (.cmp .eq (.bin .mod (.var 0) (.lit (.int 4))) (.lit (.int 0))) (.seq (.ret (.comp [4] (.sl (.var 3) .nil (.cons (.bin .add (.bin .add (.var 5) (.var 4)) (.lit (.int 1))) .nil)) (.range (.cons (.var 1) .nil)) .nil)) .nop) .nop) (.seq (.ret (.comp [4] (.sl (.var 3) (.cons (.bin .sub (.bin .sub (.bin .sub (.lit (.int 8)) (.var 5)) (.var 4)) (.lit (.int 1))) .nil) .nil) (.range (.cons (.var 1) .nil)) .nil)) .nop)))) .nop) (.seq (.set 6 (.bin .mod (.bin .fdiv (.var 0) (.lit (.int 4))) (.lit (.int 8)))) (.seq (.set 7 (.join "" (.comp [4] (.ix (.var 2) (.bin .mod (.bin .add (.bin .add (.bin .fdiv (.var 0) (.lit (.int 32))) (.bin .mul (.bin .mul (.lit (.int 3)) (.var 4)) (.var 4))) (.var 4)) (.lit (.int 26)))) (.range (.cons (.var 6) .nil)) .nil))) (.seq (.set 8 (.bin .mod (.bin .fdiv (.var 0) (.lit (.int 512))) (.bin .add (.var 6) (.lit (.int 1))))) (.seq (.ret (.comp [4] (.bin .add (.bin .add (.sl (.var 7) .nil (.cons (.var 8) .nil)) (.ix (.var 2) (.bin .mod (.bin .add (.bin .fdiv (.var 0) (.lit (.int 9))) (.bin .mul (.lit (.int 7)) (.var 4))) (.lit (.int 26))))) (.sl (.var 7) (.cons (.var 8) .nil) .nil)) (.range (.cons (.var 1) .nil)) .nil)) .nop))))))
noncomputable def fL_words:Fi:=⟨2,9,Qd,af⟩
noncomputable def Z3:Sx:=(.seq (.set 1 (.bin .mod (.bin .add (.bin .mul (.var 1) (.lit (.int 48271))) (.lit (.int 11))) (.lit (.int 2147483647)))) (.seq (.ife (.or (.cmp .eq (.var 0) (.lst .nil)) (.or (.cmp .eq (.var 2) (.lit (.int 0))) (.cmp .eq (.bin .mod (.bin .fdiv (.var 1) (.lit (.int 16))) (.lit (.int 6))) (.lit (.int 0))))) (.seq (.ret (.tup (.cons (.lit (.str "tell")) (.cons (.bin .mod (.bin .fdiv (.var 1) (.lit (.int 128))) (.lit (.int 2))) .nil)))) .nop) .nop) (.seq (.set 3 (.ix (.var 0) (.bin .mod (.bin .fdiv (.var 1) (.lit (.int 16))) (.blt .len (.cons (.var 0) .nil))))) (.seq (.set 4 (.comp [5] (.var 5) (.seq (.var 0)) (.cons (.cmp .ne (.var 5) (.var 3)) .nil))) (.seq (.set 6 (.call "_law_plan" (.cons (.var 4) (.cons (.bin .add (.bin .mul (.var 1) (.lit (.int 3))) (.lit (.int 1))) (.cons (.bin .sub (.var 2) (.lit (.int 1))) .nil))))) (.seq (.ret (.tup (.cons (.lit (.str "ask")) (.cons (.var 3) (.cons (.var 6) (.cons (.call "_law_plan" (.cons (.var 4) (.cons (.bin .add (.bin .mul (.var 1) (.lit (.int 5))) (.lit (.int 2))) (.cons (.bin .sub (.var 2) (.lit (.int 1))) .nil)))) .nil)))))) .nop))))))
noncomputable def Jw:Fi:=⟨3,7,Z3,af⟩
noncomputable def Vf:Sx:=(.seq (.set 1 (.lst .nil)) (.seq (.ife (.isx 0 ["NoAsk"]) (.seq (.app 1 (.lit (.str "NoAsk"))) .nop) .nop) (.seq (.ife (.isx 0 ["NoPlace"]) (.seq (.app 1 (.lit (.str "NoPlace"))) .nop) .nop) (.seq (.ife (.isx 0 ["NoPlan"]) (.seq (.app 1 (.lit (.str "NoPlan"))) .nop) .nop) (.seq (.ife (.isx 0 ["NoText"]) (.seq (.app 1 (.lit (.str "NoText"))) .nop) .nop) (.seq (.ife (.isx 0 ["NoWord"]) (.seq (.app 1 (.lit (.str "NoWord"))) .nop) .nop) (.seq (.ife (.isx 0 ["Twice"]) (.seq (.app 1 (.lit (.str "Twice"))) .nop) .nop) (.seq (.ife (.isx 0 ["Unlike"]) (.seq (.app 1 (.lit (.str "Unlike"))) .nop) .nop) (.seq (.ife (.isx 0 ["WrongAnswers"]) (.seq (.app 1 (.lit (.str "WrongAnswers"))) .nop) .nop) (.seq (.ife (.isx 0 ["WrongPrices"]) (.seq (.app 1 (.lit (.str "WrongPrices"))) .nop) .nop) (.seq (.ife (.isx 0 ["WrongWeights"]) (.seq (.app 1 (.lit (.str "WrongWeights"))) .nop) .nop) (.seq (.ife (.isx 0 ["WrongSize"]) (.seq (.app 1 (.lit (.str "WrongSize"))) .nop) .nop) (.seq (.ife (.not (.isx 0 ["ValueError"])) (.seq (.app 1 (.lit (.str "no ValueError"))) .nop) .nop) (.seq (.retV 1) .nop))))))))))))))
noncomputable def Lz:Fi:=⟨1,2,Vf,af⟩
noncomputable def Z2:Sx:=(.seq (.ife (.isi (.var 1) ["list","tuple"]) (.seq (.ife (.or (.cmp .ne (.isi (.var 0) ["list"]) (.isi (.var 1) ["list"])) (.not (.isi (.var 0) ["list","tuple"]))) (.seq (.ret (.lit (.bl af))) .nop) .nop) (.seq (.set 2 (.comp [3] (.var 3) (.range (.cons (.blt .min (.cons (.blt .len (.cons (.var 0) .nil)) (.cons (.blt .len (.cons (.var 1) .nil)) .nil))) .nil)) (.cons (.not (.call "_law_same" (.cons (.ix (.var 0) (.var 3)) (.cons (.ix (.var 1) (.var 3)) .nil)))) .nil))) (.seq (.ret (.and (.cmp .eq (.blt .len (.cons (.var 0) .nil)) (.blt .len (.cons (.var 1) .nil))) (.cmp .eq (.var 2) (.lst .nil)))) .nop))) .nop) (.seq (.ife (.isN (.var 1)) (.seq (.ret (.isN (.var 0))) .nop) .nop) (.seq (.ife (.or (.cmp .ne (.isi (.var 0) ["bool"]) (.isi (.var 1) ["bool"])) (.cmp .ne (.isi (.var 0) ["str"]) (.isi (.var 1) ["str"]))) (.seq (.ret (.lit (.bl af))) .nop) .nop) (.seq (.ret (.and (.isi (.var 0) ["int","str"]) (.cmp .eq (.var 0) (.var 1)))) .nop))))
noncomputable def fL_same:Fi:=⟨2,4,Z2,af⟩
noncomputable def Zm:Sx:=(.seq (.ife (.cmp .eq (.ix (.var 0) (.lit (.int 0))) (.lit (.str "tell"))) (.seq (.ret (.lst (.cons (.sti (.ix (.var 0) (.lit (.int 1)))) .nil))) .nop) .nop) (.seq (.ret (.bin .add (.bin .add (.lst (.cons (.ix (.var 0) (.lit (.int 1))) .nil)) (.call "_law_pieces" (.cons (.ix (.var 0) (.lit (.int 2))) .nil))) (.call "_law_pieces" (.cons (.ix (.var 0) (.lit (.int 3))) .nil)))) .nop))
noncomputable def Zi:Fi:=⟨1,1,Zm,af⟩
noncomputable def Wm:Sx:=(.seq (.set 3 (.bin .mod (.bin .fdiv (.var 2) (.lit (.int 8))) (.blt .len (.cons (.var 0) .nil)))) (.seq (.set 4 (.bin .add (.blt .list (.cons (.var 1) .nil)) (.lst (.cons (.lit (.str "0")) (.cons (.lit (.str "1")) (.cons (.lit (.str "2")) (.cons (.lit (.str "")) (.cons (.lit (.str "q")) (.cons (.lit (.str "zq")) (.cons (.lit (.str "A")) (.cons (.lit (.str "10")) .nil))))))))))) (.seq (.set 5 (.ix (.var 4) (.bin .mod (.bin .fdiv (.var 2) (.lit (.int 2048))) (.blt .len (.cons (.var 4) .nil))))) (.seq (.set 6 (.bin .mod (.var 2) (.lit (.int 4)))) (.seq (.ife (.cmp .eq (.var 6) (.lit (.int 0))) (.seq (.ret (.bin .add (.sl (.var 0) .nil (.cons (.var 3) .nil)) (.sl (.var 0) (.cons (.bin .add (.var 3) (.lit (.int 1))) .nil) .nil))) .nop) .nop) (.seq (.ife (.cmp .eq (.var 6) (.lit (.int 1))) (.seq (.ret (.bin .add (.bin .add (.sl (.var 0) .nil (.cons (.var 3) .nil)) (.lst (.cons (.var 5) .nil))) (.sl (.var 0) (.cons (.var 3) .nil) .nil))) .nop) .nop) (.seq (.ife (.cmp .eq (.var 6) (.lit (.int 2))) (.seq (.ret (.bin .add (.bin .add (.sl (.var 0) .nil (.cons (.var 3) .nil)) (.lst (.cons (.var 5) .nil))) (.sl (.var 0) (.cons (.bin .add (.var 3) (.lit (.int 1))) .nil) .nil))) .nop) .nop) (.seq (.ife (.cmp .eq (.bin .mod (.bin .fdiv (.var 2) (.lit (.int 4))) (.lit (.int 2))) (.lit (.int 1))) (.seq (.ret (.bin .add (.var 0) (.lst (.cons (.var 5) .nil)))) .nop) .nop) (.seq (.retV 0) .nop)))))))))
noncomputable def Bl:Fi:=⟨3,7,Wm,af⟩
noncomputable def Ye:Sx:=(.seq (.ife (.cmp .eq (.var 0) (.lst .nil)) (.seq (.ret (.lit (.non))) .nop) .nop) (.seq (.set 3 (.ix (.var 0) (.lit (.int 0)))) (.seq (.ife (.or (.cmp .eq (.var 3) (.lit (.str "0"))) (.cmp .eq (.var 3) (.lit (.str "1")))) (.seq (.ret (.lst (.cons (.tup (.cons (.lit (.str "tell")) (.cons (.blt .int (.cons (.var 3) .nil)) .nil))) (.cons (.sl (.var 0) (.cons (.lit (.int 1)) .nil) .nil) .nil)))) .nop) .nop) (.seq (.ife (.or (.cmp .notin (.var 3) (.var 1)) (.cmp .isin (.var 3) (.var 2))) (.seq (.ret (.lit (.non))) .nop) .nop) (.seq (.set 4 (.call "_law_from" (.cons (.sl (.var 0) (.cons (.lit (.int 1)) .nil) .nil) (.cons (.var 1) (.cons (.bin .add (.var 2) (.lst (.cons (.var 3) .nil))) .nil))))) (.seq (.ife (.isN (.var 4)) (.seq (.ret (.lit (.non))) .nop) .nop) (.seq (.set 5 (.call "_law_from" (.cons (.ix (.var 4) (.lit (.int 1))) (.cons (.var 1) (.cons (.bin .add (.var 2) (.lst (.cons (.var 3) .nil))) .nil))))) (.seq (.ife (.isN (.var 5)) (.seq (.ret (.lit (.non))) .nop) .nop) (.seq (.ret (.lst (.cons (.tup (.cons (.lit (.str "ask")) (.cons (.var 3) (.cons (.ix (.var 4) (.lit (.int 0))) (.cons (.ix (.var 5) (.lit (.int 0))) .nil))))) (.cons (.ix (.var 5) (.lit (.int 1))) .nil)))) .nop)))))))))
noncomputable def Yb:Fi:=⟨3,6,Ye,af⟩
noncomputable def Yd:Sx:=(.seq (.set 2 (.lst .nil)) (.seq (.set 3 (.tup .nil)) (.seq (.tryK (.seq (.set 3 (.call "plan_read" (.cons (.var 0) (.cons (.var 1) .nil)))) .nop) 2 4) (.seq (.keep 2) (.seq (.ret (.lst (.cons (.var 2) (.cons (.var 3) .nil)))) .nop)))))
noncomputable def Y9:Fi:=⟨2,5,Yd,af⟩
noncomputable def Oa:Sx:=(.seq (.set 2 (.call "_law_from" (.cons (.spl (.var 0)) (.cons (.var 1) (.cons (.lst .nil) .nil))))) (.seq (.ife (.or (.isN (.var 2)) (.cmp .ne (.ix (.var 2) (.lit (.int 1))) (.lst .nil))) (.seq (.ret (.lst (.cons (.lst (.cons (.lit (.str "NoPlan")) .nil)) (.cons (.tup .nil) .nil)))) .nop) .nop) (.seq (.ret (.lst (.cons (.lst .nil) (.cons (.ix (.var 2) (.lit (.int 0))) .nil)))) .nop)))
noncomputable def K1:Fi:=⟨2,3,Oa,af⟩
noncomputable def Je:Sx:=(.seq (.set 3 (.bin .mod (.bin .fdiv (.var 2) (.lit (.int 4))) (.blt .len (.cons (.var 1) .nil)))) (.seq (.set 4 (.bin .add (.bin .add (.sl (.var 1) .nil (.cons (.var 3) .nil)) (.lst (.cons (.ix (.var 1) (.var 3)) .nil))) (.sl (.var 1) (.cons (.var 3) .nil) .nil))) (.seq (.keep 4) (.seq (.ife (.cmp .eq (.blt .len (.cons (.var 1) .nil)) (.lit (.int 6))) (.seq (.set 4 (.bin .add (.sl (.var 1) .nil (.cons (.lit (.int 5)) .nil)) (.lst (.cons (.ix (.var 1) (.bin .mod (.var 3) (.lit (.int 5)))) .nil)))) (.seq (.keep 4) .nop)) .nop) (.seq (.ife (.or (.cmp .ne (.ix (.call "_law_read" (.cons (.var 0) (.cons (.lst .nil) .nil))) (.lit (.int 0))) (.lst (.cons (.lit (.str "WrongSize")) .nil))) (.cmp .ne (.ix (.call "_law_read" (.cons (.var 0) (.cons (.var 4) .nil))) (.lit (.int 0))) (.lst (.cons (.lit (.str "Twice")) .nil)))) (.seq (.ret (.lit (.bl af))) .nop) .nop) (.seq (.ife (.cmp .ne (.ix (.call "_law_read" (.cons (.var 0) (.cons (.call "_law_words" (.cons (.bin .add (.bin .mul (.lit (.int 4)) (.bin .mod (.var 2) (.bin .pow (.lit (.int 10)) (.lit (.int 9))))) (.lit (.int 3))) (.cons (.lit (.int 7)) .nil))) .nil))) (.lit (.int 0))) (.lst (.cons (.lit (.str "WrongSize")) .nil))) (.seq (.ret (.lit (.bl af))) .nop) .nop) (.seq (.set 5 (.ix (.lst (.cons (.lit (.str "")) (.cons (.lit (.str "A")) (.cons (.lit (.str "a b")) (.cons (.lit (.str "abcdefghi")) .nil))))) (.bin .mod (.var 2) (.lit (.int 4))))) (.seq (.ret (.cmp .eq (.ix (.call "_law_read" (.cons (.var 0) (.cons (.bin .add (.bin .add (.sl (.var 1) .nil (.cons (.var 3) .nil)) (.lst (.cons (.var 5) .nil))) (.sl (.var 1) (.cons (.bin .add (.var 3) (.lit (.int 1))) .nil) .nil)) .nil))) (.lit (.int 0))) (.lst (.cons (.lit (.str "NoWord")) .nil)))) .nop))))))))
noncomputable def Qa:Fi:=⟨3,6,Je,af⟩
noncomputable def j1i:Sx:=(.seq (.set 1 (.call "_law_words" (.cons (.call "_law_cell" (.cons (.var 0) (.cons (.lit (.int 1)) .nil))) (.cons (.bin .add (.lit (.int 1)) (.bin .mod (.call "_law_cell" (.cons (.var 0) (.cons (.lit (.int 0)) .nil))) (.lit (.int 6)))) .nil)))) (.seq (.keep 1) (.seq (.set 2 (.call "_law_plan" (.cons (.blt .list (.cons (.var 1) .nil)) (.cons (.bin .mod (.call "_law_cell" (.cons (.var 0) (.cons (.lit (.int 2)) .nil))) (.lit (.int 2147483647))) (.cons (.lit (.int 6)) .nil))))) (.seq (.set 3 (.call "_law_pieces" (.cons (.var 2) .nil))) (.seq (.set 4 (.join " " (.var 3))) (.seq (.set 5 (.ix (.lst (.cons (.blt .list (.cons (.var 1) .nil)) (.cons (.blt .tuple (.cons (.var 1) .nil)) .nil))) (.bin .mod (.call "_law_cell" (.cons (.var 0) (.cons (.lit (.int 11)) .nil))) (.lit (.int 2))))) (.seq (.keep 5) (.seq (.ife (.or (.not (.call "_law_same" (.cons (.call "plan_shown" (.cons (.var 2) .nil)) (.cons (.var 4) .nil)))) (.not (.call "_law_same" (.cons (.call "plan_read" (.cons (.var 4) (.cons (.var 5) .nil))) (.cons (.var 2) .nil))))) (.seq (.ret (.lit (.bl af))) .nop) .nop) (.seq (.loop [6] (.seq (.bin .add (.lst (.cons (.call "_law_cell" (.cons (.var 0) (.cons (.lit (.int 3)) .nil))) .nil)) (.sl (.var 0) (.cons (.lit (.int 4)) .nil) (.cons (.lit (.int 10)) .nil)))) (.seq (.set 7 (.join " " (.call "_law_done" (.cons (.var 3) (.cons (.var 1) (.cons (.var 6) .nil)))))) (.seq (.set 8 (.call "_law_read" (.cons (.var 7) (.cons (.var 5) .nil)))) (.seq (.ife (.not (.call "_law_same" (.cons (.var 8) (.cons (.call "_law_due" (.cons (.var 7) (.cons (.var 1) .nil))) .nil)))) (.seq (.ret (.lit (.bl af))) .nop) .nop) .nop)))) (.seq (.ife (.or (.cmp .ne (.blt .list (.cons (.var 5) .nil)) (.blt .list (.cons (.var 1) .nil))) (.not (.call "_law_lists_refused" (.cons (.join " " (.sl (.var 3) .nil (.cons (.neg (.lit (.int 1))) .nil))) (.cons (.var 1) (.cons (.call "_law_cell" (.cons (.var 0) (.cons (.lit (.int 10)) .nil))) .nil)))))) (.seq (.ret (.lit (.bl af))) .nop) .nop) (.seq (.ret (.call "_law_same" (.cons (.call "plan_read" (.cons (.var 4) (.cons (.var 5) .nil))) (.cons (.var 2) .nil)))) .nop)))))))))))
noncomputable def j17:Fi:=⟨1,9,j1i,af⟩
noncomputable def tbl:List (ao×Fi):=("is_word",Yu)::("is_made_of",Zr)::("refuse_wrong_size",Jc)::("refuse_wrong_places",J4)::("plan_shown",Jh)::("plan_read",Js)::("telling",Yt)::("asking",Ux)::("is_ask",Zh)::("answer_told",Qz)::("place_asked",Qy)::("plan_behind",J8)::("@plan_taken",Zq)::("_law_cell",fL_cell)::("_law_words",fL_words)::("_law_plan",Jw)::("_law_kinds",Lz)::("_law_same",fL_same)::("_law_pieces",Zi)::("_law_done",Bl)::("_law_from",Yb)::("_law_read",Y9)::("_law_due",K1)::("_law_lists_refused",Qa)::("law",j17)::[]
noncomputable def T(x:ao):Option Fi:=tbl.lookup x
noncomputable def gs:List (ao×D):=[("LETTERS",.str "abcdefghijklmnopqrstuvwxyz"),("LONGEST_WORD",.int 8),("FEWEST_PLACES",.int 1),("MOST_PLACES",.int 6)]
noncomputable def xs:List (ao×List D):=[("WrongSize",[.str "WrongSize"]),("NoAsk",[.str "NoAsk"]),("NoWord",[.str "NoWord"]),("Twice",[.str "Twice"]),("WrongAnswers",[.str "WrongAnswers"]),("Unlike",[.str "Unlike"]),("NoPlace",[.str "NoPlace"]),("NoText",[.str "NoText"]),("WrongPrices",[.str "WrongPrices"]),("WrongWeights",[.str "WrongWeights"]),("NoPlan",[.str "NoPlan"])]
noncomputable def qs:List ao:=["Pieces"]
noncomputable abbrev G:ao->Option D:=Gof gs ag xs qs
end K19
end
section
open PySem PySem.Spec PyProof.Rows L2
local macro_rules | `(tactic| walk_at "vis")=>`(tactic| first | exact Or.inl rfl | exact Or.inr (Or.inl rfl) | exact Or.inr (Or.inr rfl))
local macro_rules | `(tactic| walk_at "loc")=>`(tactic| first | exact Or.inl rfl | exact Or.inr rfl)
local macro_rules | `(tactic| walk_at "cap")=>`(tactic| repeat (first | exact rfl | refine ⟨_,_,rfl,by rfl,by rfl,by rfl,by rfl,?_⟩))
local macro_rules | `(tactic| walk_at "ts")=>`(tactic| first
 |exact Tr.int|exact Tr.bl|exact Tr.non|exact Tr.str
 |exact Tr.var (by rfl) (by walk_at "vis") (by decide) (by decide)|exact Tr.glob (by rfl) (by decide) (by decide)
 |refine Tr.bin ?_ ?_|refine Tr.neg ?_|refine Tr.cmp (by rfl) ?_ ?_|refine Tr.bcmp (by rfl) ?_ ?_|refine Tr.isN ?_|refine Tr.bisN ?_|refine Tr.isNN ?_|refine Tr.bisNN ?_
 |refine Tr.and ?_ ?_|refine Tr.or ?_ ?_|refine Tr.one ?_|refine Tr.not ?_
 |refine Tr.wand ?_ ?_|refine Tr.wor ?_ ?_|refine Tr.wand1 ?_|refine Tr.wor1 ?_|refine Tr.bw ?_|refine Tr.bnot ?_
 |refine Tr.ite ?_ ?_ ?_|exact Tr.nil|refine Tr.cons (by rfl) ?_ ?_|refine Tr.tup ?_|refine Tr.lst ?_
 |refine Tr.ix (by intro _ _;rfl) ?_ ?_|exact Tr.oN|refine Tr.oS ?_|refine Tr.sl ?_ ?_ ?_
 |refine Tr.call (by rfl) (by decide) (by rfl) (by rfl) ?_
 |refine Tr.len (by rfl) ?_|refine Tr.all (by rfl) (by rfl) ?_|refine Tr.tuple (by rfl) ?_|refine Tr.list (by rfl) ?_|refine Tr.min (by rfl) (by rfl) ?_
 |refine Tr.intc (by rfl) ?_|refine Tr.join (by rfl) (by rfl) (by rfl) (by rfl) ?_
 |refine Tr.isi1 (by decide) (by decide +kernel) (by rfl) (by rfl) (by decide) (by decide) (by rfl) ?_
 |refine Tr.isi2 (by decide) (by decide) (by decide +kernel) (by decide +kernel) (by rfl) (by rfl) (by rfl) (by decide) (by decide) (by decide) (by decide) (by rfl) ?_
 |exact Tr.c0|refine Tr.c1 ?_
 |refine Tr.comp1 (by rfl) (by rfl) (by rfl) (by rfl) (by rfl) (by intro _;rfl) ?_ ?_ ?_
 |refine Tr.spl (by rfl) (by rfl) (by rfl) (by rfl) ?_|refine Tr.sti (by rfl) (by rfl) ?_
 |refine Tr.seq ?_|refine Tr.range (by rfl) ?_
 |exact Tr.p0|refine Tr.pC ?_|refine Tr.pR ?_ ?_|refine Tr.pF ?_ ?_|refine Tr.fst ?_
 |exact Tr.isxV (by rfl) (by walk_at "vis") (by decide) (by decide) (by rfl) (by rfl) (by rfl)
 |exact Tr.isx1 (by decide) (by decide) (by rfl) (by walk_at "vis") (by decide) (by decide) (by rfl) (by rfl) (by decide) (by rfl)
 |exact Tr.isx2 (by decide) (by decide) (by decide) (by decide) (by rfl) (by walk_at "vis") (by decide) (by decide) (by rfl) (by rfl) (by rfl) (by decide) (by decide) (by rfl)
 |refine Tr.bval (by intro _;rfl) ?_
 |refine' Ts.lend (by rfl) (by decide) (by rfl) (by rfl) (by walk_at "loc") (by walk_at "loc") (by exact b8 rfl) (by exact b8 rfl) (by intro _;rfl) (by rfl) (by rfl) (by rfl) (by walk_at "vis") (by decide) (by decide) (by rfl) (by rfl) ?_ ?_|refine' Ts.lent (by rfl) (by walk_at "loc") (by walk_at "vis") (by exact b8 rfl) (by decide) (by decide) (by rfl) (by rfl) (by rfl) ?_ ?_ ?_ ?_ ?_|refine TMt.set (by rfl) (by walk_at "loc") (by rfl) (by exact b8 rfl) ?_ ?_|refine TMt.ife ?_ ?_ ?_ ?_|exact TMt.nil|exact TMs.nil|exact TMs.fail|refine TMs.set (by rfl) (by walk_at "loc") (by rfl) (by exact b8 rfl) ?_ ?_|refine TMs.ife ?_ ?_ ?_ ?_|exact⟨rfl,rfl,rfl,λ_ _=>rfl⟩
 |exact Ts.nil|refine Ts.fgt ?_|refine Ts.keep ?_|refine Ts.cons ?_ ?_|exact Ts.pass|exact Ts.doc|exact Ts.fail
 |refine Ts.setC1 (by rfl) (by rfl) (by walk_at "loc") (by exact b8 rfl) (by rfl) (by rfl) (by rfl) (by rfl) (by rfl) (by intro _;rfl) ?_ ?_ ?_
 |refine Ts.set (by rfl) (by walk_at "loc") (by rfl) (by exact b8 rfl) ?_
 |exact Ts.retV (by rfl) (by walk_at "vis") (by decide) (by decide)|refine Ts.ret ?_
 |refine Ts.ife ?_ ?_ ?_|refine Ts.for1 (by rfl) (by rfl) (by walk_at "loc") (by exact b8 rfl) (by intro _;rfl) ?_ ?_
 |refine Ts.app (by rfl) (by walk_at "vis") (by decide) (by decide) (by rfl) (by rfl) (by rfl) (by rfl) ?_
 |refine Ts.raise (by rfl) (by rfl) (by decide) (by rfl) ?_
 |refine Ts.tryK (by rfl) (by rfl) (by rfl) (by rfl) (by rfl) (by rfl) (by rfl) (by decide) (by decide) (by rfl) (by walk_at "loc") (by exact b8 rfl) (by exact b8 rfl) (by rfl) (by rfl) (by rfl) ?_
 |refine Ts.expr (by rfl) ?_
 |refine Ts.newP (by rfl) (by rfl) (by rfl) (by rfl) (by walk_at "loc") (by rfl) (by exact b8 rfl) ?_ ?_
 |exact MP.nop|refine MP.keep (by decide) ?_
 |refine MP.setC (by decide) (by rfl) (by rfl) (by walk_at "loc") (by exact b8 rfl) (by rfl) (by rfl) (by rfl) (by rfl) (by rfl) (by intro _;rfl) ?_ ?_ ?_ ?_
 |refine MP.set (by decide) (by rfl) (by walk_at "loc") (by rfl) (by exact b8 rfl) ?_ ?_
 |refine MP.ret ?_|refine MP.ifRet ?_ ?_ ?_
 |refine MP.ifAll (by rfl) (by rfl) (by decide) (by rfl) (by rfl) (by walk_at "vis") (by decide) (by decide) (by exact⟨_,rfl⟩) (by intro _;rfl) ?_ ?_
 |refine MP.ifRai (by rfl) (by rfl) (by decide) (by rfl) ?_ ?_ ?_
 |refine MP.takeIf (by decide) (by rfl) (by walk_at "vis") (by decide) (by decide) (by exact⟨_,rfl⟩) (by rfl) (by walk_at "loc") (by rfl) (by exact b8 rfl) ?_ ?_ ?_
 |refine MP.take (by decide) (by rfl) (by walk_at "vis") (by decide) (by decide) (by exact⟨_,rfl⟩) (by rfl) (by walk_at "loc") (by rfl) (by exact b8 rfl) ?_
 |refine MP.takeE (by rfl) (by walk_at "vis") (by decide) (by decide) (by exact⟨_,rfl⟩) (by rfl) ?_
 |refine MP.callS (by decide) (by exact⟨_,_,_,_,rfl,by rfl,by walk_at "vis",by decide,by decide,by rfl,by decide,by rfl,by rfl⟩) (by rfl) (by walk_at "loc") (by rfl) (by exact b8 rfl) ?_ ?_
 |refine MP.ifCal (by exact⟨_,_,_,_,rfl,by rfl,by walk_at "vis",by decide,by decide,by rfl,by decide,by rfl,by rfl⟩) ?_ ?_ ?_
 |refine MP.appC (by decide) (by exact⟨_,_,_,_,rfl,by rfl,by walk_at "vis",by decide,by decide,by rfl,by decide,by rfl,by rfl⟩) (by rfl) (by walk_at "vis") (by decide) (by decide) (by rfl) (by rfl) (by rfl) (by rfl) (by rfl) ?_ ?_
 |refine MP.whlA (by rfl) (by walk_at "vis") (by decide) (by decide) (by exact⟨_,rfl⟩) ?_ ?_
 |intro C s H fp pn
 |intro pn xe)
local macro_rules | `(tactic| walk_at "bnd")=>`(tactic| (intro _ _ _ _ _ _ us hl; first | (obtain ⟨_,e⟩:=us1 hl; subst e; rfl) | (obtain ⟨_,_,e⟩:=us2 hl; subst e; rfl) | (obtain ⟨_,_,_,e⟩:=us3 hl; subst e; rfl)))
local macro_rules | `(tactic| walk_at "sc")=>`(tactic| exact ⟨rfl,rfl,rfl,by decide +kernel,rfl,by decide +kernel,by decide +kernel⟩)
local macro_rules | `(tactic| walk_at "lk")=>`(tactic| first | walk_at "sc" | walk_at "bnd" | decide)
namespace K19
section
variable{P:ay}{w:aE}{K:k5k}{mg:k5n}{base:aK}
theorem pcS:PcS P w K mg base (inClass (top 18) 0) (inClass (top 18) 1) (inClass (top 18) 2) (inClass (top 18) 3) :=
 ⟨by walk_at "sc",by walk_at "sc",by walk_at "sc",by walk_at "sc",⟨_,_,_,_,_,_,_,_,_,_,_,_,_,rfl,rfl⟩,⟨_,_,_,_,_,_,_,_,_,_,_,_,_,_,_,_,_,rfl⟩,⟨_,_,_,_,_,_,_,_,_,_,_,_,_,_,_,rfl,λf cdv A outer s H E=>⟨_,rfl⟩⟩,⟨_,_,_,_,_,_,_,_,rfl⟩,⟨by walk_at "vis",by walk_at "vis",by walk_at "vis",by walk_at "vis",by walk_at "vis"⟩,⟨rfl,rfl,rfl⟩,(by intro _ _ _ _ _ _ us hl;obtain⟨_,_,e⟩:=us2 hl;subst e;rfl),(by intro _ _ _ _ _ _ us hl;obtain⟨_,e⟩:=us1 hl;subst e;rfl),(by intro _ _ _ _ _ _ us hl;obtain⟨_,e⟩:=us1 hl;subst e;rfl),(by intro _ _ _ _ _ _ us hl;obtain⟨_,e⟩:=us1 hl;subst e;rfl)⟩
theorem Ks:TrT P w K mg base "is_word" ["piece"] (top 16) V1:=by
 intro f cdv A outer s H E xe;unfold V1
 repeat' (walk_at "ts")
theorem Oi:TrT P w K mg base "is_made_of" ["piece","signs","sign"] (top 17) Q9:=by
 intro f cdv A outer s H E xe;unfold Q9
 repeat' (walk_at "ts")
theorem Vy:TrT P w K mg base "refuse_wrong_size" ["many"] (top 22) vh:=by
 intro f cdv A outer s H E xe;unfold vh
 repeat' (walk_at "ts")
theorem Vh:TrT P w K mg base "refuse_wrong_places" ["places","ahead","place"] (top 24) v6:=by
 intro f cdv A outer s H E xe;unfold v6
 repeat' (walk_at "ts")
theorem Oh:TrT P w K mg base "plan_shown" ["plan"] (top 26) Ji:=by
 intro f cdv A outer s H E xe;unfold Ji
 repeat' (walk_at "ts")
theorem Ft:TrT P w K mg base "plan_read" ["text","places","pieces","plan"] (top 27) Ju:=by
 intro f cdv A outer s H E xe;unfold Ju
 repeat' (walk_at "ts")
theorem Kr:TrT P w K mg base "telling" ["answer"] (top 28) V0:=by
 intro f cdv A outer s H E xe;unfold V0
 repeat' (walk_at "ts")
theorem j05:TrT P w K mg base "asking" ["place","if_no","if_yes"] (top 29) Vp:=by
 intro f cdv A outer s H E xe;unfold Vp
 repeat' (walk_at "ts")
theorem j04:TrT P w K mg base "is_ask" ["plan"] (top 30) Zk:=by
 intro f cdv A outer s H E xe;unfold Zk
 repeat' (walk_at "ts")
theorem M7:TrT P w K mg base "answer_told" ["plan"] (top 31) Q0:=by
 intro f cdv A outer s H E xe;unfold Q0
 repeat' (walk_at "ts")
theorem M6:TrT P w K mg base "place_asked" ["plan"] (top 32) Jz:=by
 intro f cdv A outer s H E xe;unfold Jz
 repeat' (walk_at "ts")
theorem M5:TrT P w K mg base "plan_behind" ["plan","answer"] (top 33) Ja:=by
 intro f cdv A outer s H E xe;unfold Ja
 repeat' (walk_at "ts")
noncomputable def Ub:Px:=(.take 2 (.ifRet (.cmp .eq (.var 2) (.lit (.str "0"))) (.call "telling" (.cons (.lit (.int 0)) .nil)) (.ifRet (.cmp .eq (.var 2) (.lit (.str "1"))) (.call "telling" (.cons (.lit (.int 1)) .nil)) (.ifRai (.cmp .notin (.var 2) (.var 1)) "NoPlan" (.fst (.cons (.rpr (.var 2)) (.cons (.lit (.str " is no answer, nor a place that may be asked here")) .nil))) (.set 3 (.comp [4] (.var 4) (.seq (.var 1)) (.cons (.cmp .ne (.var 4) (.var 2)) .nil)) (.keep 3 (.callS 5 "plan_taken" (.cons (.var 3) .nil) (.callS 6 "plan_taken" (.cons (.var 3) .nil) (.ret (.call "asking" (.cons (.var 2) (.cons (.var 5) (.cons (.var 6) .nil)))))))))))))
theorem Og:TrM P w K mg base "plan_taken" ["pieces","places","piece","places_left","place","if_no","if_yes"] (top 34) Ub:=by
 intro f cdv A outer s H E xe;unfold Ub
 repeat' (walk_at "ts")
theorem j4s:TrT P w K mg base "_law_cell" ["_law_script","_law_k","_law_spare"] (top 36) V5:=by
 intro f cdv A outer s H E xe;unfold V5
 repeat' (walk_at "ts")
theorem j1u:TrT P w K mg base "_law_words" ["_law_cell_here","_law_many","_law_letters","_law_long","_law_k","_law_start","_law_size","_law_stem","_law_at"] (top 37) Qd:=by
 intro f cdv A outer s H E xe;unfold Qd
 repeat' (walk_at "ts")
theorem j4p:TrT P w K mg base "_law_plan" ["_law_left","_law_draw","_law_deep","_law_one","_law_rest","_law_other","_law_if_no"] (top 38) Z3:=by
 intro f cdv A outer s H E xe;unfold Z3
 repeat' (walk_at "ts")
theorem j1v:TrT P w K mg base "_law_kinds" ["_law_e","_law_some"] (top 39) Vf:=by
 intro f cdv A outer s H E xe;unfold Vf
 repeat' (walk_at "ts")
theorem j1x:TrH P w K mg base "_law_kinds" ["_law_e","_law_some"] (top 39) Vf:=by
 intro f cdv A outer s H;unfold Vf
 repeat' (walk_at "ts")
theorem j4n:TrT P w K mg base "_law_same" ["_law_found","_law_due_here","_law_unlike","_law_k"] (top 40) Z2:=by
 intro f cdv A outer s H E xe;unfold Z2
 repeat' (walk_at "ts")
theorem j06:TrT P w K mg base "_law_pieces" ["_law_plan_here"] (top 41) Zm:=by
 intro f cdv A outer s H E xe;unfold Zm
 repeat' (walk_at "ts")
theorem j4r:TrT P w K mg base "_law_done" ["_law_pieces_here","_law_spots","_law_cell_here","_law_at","_law_more","_law_piece","_law_way"] (top 42) Wm:=by
 intro f cdv A outer s H E xe;unfold Wm
 repeat' (walk_at "ts")
theorem j4q:TrT P w K mg base "_law_from" ["_law_pieces_here","_law_spots","_law_asked","_law_piece","_law_if_no","_law_if_yes"] (top 43) Ye:=by
 intro f cdv A outer s H E xe;unfold Ye
 repeat' (walk_at "ts")
theorem j4o:TrT P w K mg base "_law_read" ["_law_text","_law_spots","_law_kinds_here","_law_found","_law_e"] (top 44) Yd:=by
 intro f cdv A outer s H E xe;unfold Yd
 repeat' (walk_at "ts")
theorem j8h:TrT P w K mg base "_law_due" ["_law_text","_law_spots","_law_found"] (top 45) Oa:=by
 intro f cdv A outer s H E xe;unfold Oa
 repeat' (walk_at "ts")
theorem Wr:TrT P w K mg base "_law_lists_refused" ["_law_text","_law_spots","_law_cell_here","_law_at","_law_twice","_law_odd"] (top 46) Je:=by
 intro f cdv A outer s H E xe;unfold Je
 repeat' (walk_at "ts")
theorem j7h:TrT P w K mg base "law" ["_law_script","_law_spots","_law_plan_here","_law_pieces_here","_law_text","_law_handed","_law_cell_here","_law_changed","_law_found"] (top 47) j1i:=by
 intro f cdv A outer s H E xe;unfold j1i
 repeat' (walk_at "ts")
end
set_option maxHeartbeats 0 in
theorem head {l:cU} {w:aE} {K:k5k} {h:aK} {mg:k5n} {fa:ak} (X:K.In h) (Gn:h.Ns au mg) (hfa:mg "law" = ae (.ref fa))
  (h0:Lf K "is_word" (top 16))
  (h1:Lf K "is_made_of" (top 17))
  (h2:Lf K "refuse_wrong_size" (top 22))
  (h3:Lf K "refuse_wrong_places" (top 24))
  (h4:Lf K "plan_shown" (top 26))
  (h5:Lf K "plan_read" (top 27))
  (h6:Lf K "telling" (top 28))
  (h7:Lf K "asking" (top 29))
  (h8:Lf K "is_ask" (top 30))
  (h9:Lf K "answer_told" (top 31))
  (h10:Lf K "place_asked" (top 32))
  (h11:Lf K "plan_behind" (top 33))
  (h12:Lf K "plan_taken" (top 34))
  (h13:Lf K "_law_cell" (top 36))
  (h14:Lf K "_law_words" (top 37))
  (h15:Lf K "_law_plan" (top 38))
  (h16:Lf K "_law_kinds" (top 39))
  (h17:Lf K "_law_same" (top 40))
  (h18:Lf K "_law_pieces" (top 41))
  (h19:Lf K "_law_done" (top 42))
  (h20:Lf K "_law_from" (top 43))
  (h21:Lf K "_law_read" (top 44))
  (h22:Lf K "_law_due" (top 45))
  (h23:Lf K "_law_lists_refused" (top 46))
  (h24:Lf K "law" (top 47))
  (bz:bOk K=ag) {ts:List ak} (tz:tOk K ts=ag)
  {gt0:ib} {gt1:ib} {gt2:ib} {gt3:ib}
  (gn0:dw K au "LETTERS" = ae (ae (.str "abcdefghijklmnopqrstuvwxyz" gt0))) (gn1:dw K au "LONGEST_WORD" = ae (ae (.int 8 gt1))) (gn2:dw K au "FEWEST_PLACES" = ae (ae (.int 1 gt2))) (gn3:dw K au "MOST_PLACES" = ae (ae (.int 6 gt3)))
  (exa:Q8 K=ag)
  {C:ak} (hpc:PcH K C (inClass (top 18) 0) (inClass (top 18) 1) (inClass (top 18) 2) (inClass (top 18) 3))
  (xz:xOk K=ag)
  {fu n:Nat} (hlaw:∀ns:List Int,ns.length<=63->evP fu G T (n+1) "law" [.lst (ns.map D.int)]=.val (.bl ag)) :
  ∃fd:aL,(∀(s:aq)(v:aj),eR s fd ⟨[v],[]⟩ [("_law_script",v)])/\∀base:aK,K.In base->base.Ns au mg->FnOk l.prog w K mg base CX0 (lv (n+1)) fa fd ["_law_script"] (Dc K):=by
 have hL:=h24;obtain⟨f,oc,od,kV,dc,pm,an,cd,ct,sl,a,lk,c,k⟩:=hL;have e:=hfa.symm.trans (cL X Gn a);cases e;refine⟨PySem.W.fnOf "law" "law" (qu (top 47)) (jb (top 47)) (j0 (top 47)) .none kV dc pm an cd ct,λs v=>.of_eq rfl,λbase hKb hNb=>?_⟩;have pcm:∃C,mg "Pieces" = ae (.ref C)/\Rz l.prog w K mg base C:=jg4 pcS hpc X Gn (j84 X Gn bz "len" (by decide));have hT:∀x F,T x=ae F->LkF l.prog w K mg base x F:=λx F hx=>by
  have all:∀p∈tbl,LkF l.prog w K mg base p.1 p.2:=by
   intro p hp;simp only[tbl,km,Pu,or_false]at hp;rcases hp with rfl|rfl|rfl|rfl|rfl|rfl|rfl|rfl|rfl|rfl|rfl|rfl|rfl|rfl|rfl|rfl|rfl|rfl|rfl|rfl|rfl|rfl|rfl|rfl|rfl
   .refine lkF (zf h0 X Gn Ks ["piece"] ?_ rfl rfl ?_ ?_) rfl ?_ ?_<;>walk_at "lk"
   .refine lkF (zf h1 X Gn Oi ["piece","signs"] ?_ rfl rfl ?_ ?_) rfl ?_ ?_<;>walk_at "lk"
   .refine lkF (zf h2 X Gn Vy ["many"] ?_ rfl rfl ?_ ?_) rfl ?_ ?_<;>walk_at "lk"
   .refine lkF (zf h3 X Gn Vh ["places"] ?_ rfl rfl ?_ ?_) rfl ?_ ?_<;>walk_at "lk"
   .refine lkF (zf h4 X Gn Oh ["plan"] ?_ rfl rfl ?_ ?_) rfl ?_ ?_<;>walk_at "lk"
   .refine lkF (zf h5 X Gn Ft ["text","places"] ?_ rfl rfl ?_ ?_) rfl ?_ ?_<;>walk_at "lk"
   .refine lkF (zf h6 X Gn Kr ["answer"] ?_ rfl rfl ?_ ?_) rfl ?_ ?_<;>walk_at "lk"
   .refine lkF (zf h7 X Gn j05 ["place","if_no","if_yes"] ?_ rfl rfl ?_ ?_) rfl ?_ ?_<;>walk_at "lk"
   .refine lkF (zf h8 X Gn j04 ["plan"] ?_ rfl rfl ?_ ?_) rfl ?_ ?_<;>walk_at "lk"
   .refine lkF (zf h9 X Gn M7 ["plan"] ?_ rfl rfl ?_ ?_) rfl ?_ ?_<;>walk_at "lk"
   .refine lkF (zf h10 X Gn M6 ["plan"] ?_ rfl rfl ?_ ?_) rfl ?_ ?_<;>walk_at "lk"
   .refine lkF (zf h11 X Gn M5 ["plan","answer"] ?_ rfl rfl ?_ ?_) rfl ?_ ?_<;>walk_at "lk"
   .exact jcy (g:="plan_taken") (by decide +kernel) h12 X Gn Og ["pieces","places"] (by walk_at "sc") rfl rfl rfl rfl (by decide) (by decide) (by walk_at "bnd") pcm
   .refine lkF (zf h13 X Gn j4s ["_law_script","_law_k"] ?_ rfl rfl ?_ ?_) rfl ?_ ?_<;>walk_at "lk"
   .refine lkF (zf h14 X Gn j1u ["_law_cell_here","_law_many"] ?_ rfl rfl ?_ ?_) rfl ?_ ?_<;>walk_at "lk"
   .refine lkF (zf h15 X Gn j4p ["_law_left","_law_draw","_law_deep"] ?_ rfl rfl ?_ ?_) rfl ?_ ?_<;>walk_at "lk"
   .refine lkF (zf h16 X Gn j1v ["_law_e"] ?_ rfl rfl ?_ ?_) rfl ?_ ?_<;>walk_at "lk"
   .refine lkF (zf h17 X Gn j4n ["_law_found","_law_due_here"] ?_ rfl rfl ?_ ?_) rfl ?_ ?_<;>walk_at "lk"
   .refine lkF (zf h18 X Gn j06 ["_law_plan_here"] ?_ rfl rfl ?_ ?_) rfl ?_ ?_<;>walk_at "lk"
   .refine lkF (zf h19 X Gn j4r ["_law_pieces_here","_law_spots","_law_cell_here"] ?_ rfl rfl ?_ ?_) rfl ?_ ?_<;>walk_at "lk"
   .refine lkF (zf h20 X Gn j4q ["_law_pieces_here","_law_spots","_law_asked"] ?_ rfl rfl ?_ ?_) rfl ?_ ?_<;>walk_at "lk"
   .refine lkF (zf h21 X Gn j4o ["_law_text","_law_spots"] ?_ rfl rfl ?_ ?_) rfl ?_ ?_<;>walk_at "lk"
   .refine lkF (zf h22 X Gn j8h ["_law_text","_law_spots"] ?_ rfl rfl ?_ ?_) rfl ?_ ?_<;>walk_at "lk"
   .refine lkF (zf h23 X Gn Wr ["_law_text","_law_spots","_law_cell_here"] ?_ rfl rfl ?_ ?_) rfl ?_ ?_<;>walk_at "lk"
   .refine lkF (zf h24 X Gn j7h ["_law_script"] ?_ rfl rfl ?_ ?_) rfl ?_ ?_<;>walk_at "lk"
  exact all (x,F) (lookup_mem hx)
 have bt:=j84 X Gn bz;have gl:∀x d,gs.lookup x=ae d->∃u v,mg x=ae u/\RelV v u/\∀H,Enc K H d v:=by
  intro x d hx;have hm:=lookup_mem hx;simp only[gs,km,Pu,or_false,Prod.mk.injEq]at hm;rcases hm with ⟨e1,e2⟩|⟨e1,e2⟩|⟨e1,e2⟩|⟨e1,e2⟩
  .subst e1 e2;exact⟨.str "abcdefghijklmnopqrstuvwxyz" gt0,.str "abcdefghijklmnopqrstuvwxyz",cL X Gn gn0,⟨_,rfl⟩,λ_=>rfl⟩
  .subst e1 e2;exact⟨.int 8 gt1,.int 8,cL X Gn gn1,⟨_,rfl⟩,λ_=>rfl⟩
  .subst e1 e2;exact⟨.int 1 gt2,.int 1,cL X Gn gn2,⟨_,rfl⟩,λ_=>rfl⟩
  .subst e1 e2;exact⟨.int 6 gt3,.int 6,cL X Gn gn3,⟨_,rfl⟩,λ_=>rfl⟩
 have qn:∀f∈qs,∃fa,mg f=ae (.ref fa)/\PySem.W.keepIn K (.ref fa)=ag:=by
  intro f hf;simp only[qs,km,Pu,or_false]at hf;rcases hf with rfl
  .exact jfy hpc X Gn
 have el:=jh4 xz;have L:LkH l.prog w K mg base "_law_kinds" Lz:=jcz h16 X Gn j1x (by walk_at "sc") (by decide) rfl (by walk_at "bnd");have tb:Tb l.prog w K mg base G:=jfa bt gl exa (λp hp=>by
  have hp:p.1∈qe:=by
   simp only[xs,km,Pu,or_false]at hp
   rcases hp with rfl|rfl|rfl|rfl|rfl|rfl|rfl|rfl|rfl|rfl|rfl<;>decide
  exact⟨hp,el _ hp⟩
  ) (λ_=>el) hKb hNb qn (λp hp=>by
  simp only[xs,km,Pu,or_false]at hp
  rcases hp with rfl|rfl|rfl|rfl|rfl|rfl|rfl|rfl|rfl|rfl|rfl
  all_goals exact Ku (fu:=0) L bt exa el hKb hNb (by rfl) (by rfl)) (jgc tz X Gn) (pc:=λ_=>pcm)
 exact jd1 hT tb (F:=j17) (by rfl) rfl hfa (Jr lk c k) _ (by walk_at "sc") rfl rfl (j7h _) hlaw
end K19
end
open PySem (Str sizeLine argBest)
open L2
namespace K19
open KL KW KV KB
theorem j3i(a:List ao):D.depL (a.map D.str)<=90:=by
 induction a with
 |nil=>simp[D.depL]
 |cons x a ih=>rw[X5,D.depL];simp[D.dep];exact ih
theorem Y8{f:D->En->So}{d:D}{ds:List D}{ρ ρ':En}{x:ao}(h:f d ρ=.err x ρ'):v8 f (d::ds) ρ=.err x ρ':=by rw[v8,h]
theorem j0b{a:Int}(h:-18446744073709551616<a/\a<18446744073709551616):qj (.int a)=ae (aT (toString a)):=by unfold qj;exact if_pos h
theorem gF:G "FEWEST_PLACES" = ae (.int 1):=by rfl
theorem gM:G "MOST_PLACES" = ae (.int 6):=by rfl
theorem gL:G "LETTERS" = ae (.str "abcdefghijklmnopqrstuvwxyz"):=by rfl
theorem gW8:G "LONGEST_WORD" = ae (.int 8):=by rfl
theorem gWS:G (bang "WrongSize")=ae (.lst [.str "WrongSize"]):=by rfl
theorem gNW:G (bang "NoWord")=ae (.lst [.str "NoWord"]):=by rfl
theorem gTw:G (bang "Twice")=ae (.lst [.str "Twice"]):=by rfl
noncomputable def low(c:Nat):Bool:=decide (97<=c)&&decide (c<=122)
noncomputable def isW(l:List Nat):Bool:=(decide (1<=l.length)&&decide (l.length<=8))&&l.all low
def asc(l:List Nat):Prop:=∀c∈l,c<128
theorem jgp {c:Nat} (h:c<128):inS (ch1 c) "abcdefghijklmnopqrstuvwxyz" = low c:=by
 have key:∀i:Fin 128,inS (ch1 i.val) "abcdefghijklmnopqrstuvwxyz" = low i.val:=by decide +kernel
 exact key ⟨c,h⟩
theorem jes{l:List Nat}(h:asc l):ascii (sL l)=ag:=by unfold ascii sL;rw[Array.all_eq_true'];intro c hc;simpa using h c (by simpa using hc)
theorem jei{l:List Nat}:chs (sL l)=l.map λc=>D.str (ch1 c):=by unfold chs;rw[Ul]
theorem j2t {n:Nat} {l:List Nat} (h:asc l) (hl:l.length<=1000):evP 1000 G T (n+1) "is_made_of" [.str (sL l),.str "abcdefghijklmnopqrstuvwxyz"]=.val (.bl (l.all low)):=by
 rw[jj (F:=Zr) (by rfl) rfl];simp only[Zr,Q9,enter];ext;rw[jbj (jes h),jei,Jj (l:=(l.map low).map D.bl) (by rfl) (by rw[xj];omega) ?_ (.inl rfl)]
 .ext;rw[fC];rfl
 .rw[Xj];refine Jx λc hc=>V2 (by ext) ?_;ext;rw[jgp (h c hc)];rfl
theorem j1p {n:Nat} {l:List Nat} (h:asc l) (hl:l.length<=1000):evP 1000 G T (n+2) "is_word" [.str (sL l)]=.val (.bl (isW l)):=by
 rw[jj (F:=Yu) (by rfl) rfl];simp only[Yu,V1,enter];have sl:(sL l).length=l.length:=z8;have sl':(sL l).length<=1000000:=by omega
 by_cases h1:1<=l.length
 .by_cases h2:l.length<=8
  .ext;simp only[gW8];ext;simp only[gL];ext;rw[j2t h hl];ext;simp[isW,h1,h2]
  .ext;simp only[gW8];ext;simp[isW,h1,h2]
 .ext;simp[isW,h1]
noncomputable abbrev tx(l:List Nat):D:=.str (sL l)
noncomputable def Zo:List (List Nat)->List (List Nat)->Option ao
 |_,[]=>ah
 |pre,l::r=>if isW l=af then ae "NoWord" else if pre.contains l=ag then ae "Twice" else Zo (pre++[l]) r
def okT(L:List (List Nat)):Prop:=L.length<=100/\∀l∈L,asc l/\l.length<=100
theorem Ek(L:List (List Nat)):D.depL (L.map tx)<=90:=by have:=j3i (L.map sL);rw[Xj]at this;exact this
theorem Bd{L:List (List Nat)}{l:List Nat}(s:List D->D)(hs:s=D.tup\/s=D.lst):zj .isin (tx l) (s (L.map tx))=ae (L.contains l):=by
 have e:(L.map tx).any (λe=>deq e (tx l))=L.contains l:=by
  induction L with
  |nil=>rfl
  |cons x L ih =>
   rw[X5,cq,ih,List.contains_cons,K5];congr 1;by_cases z:x=l
   .subst z;simp
   .have h1:(sL x==sL l)=af:=by simpa using λq=>z (Uk q)
    have h2:(l==x)=af:=by simpa using λq=>z q.symm
    rw[h1,h2]
 have d:=Ek L;have d2:(tx l).dep<=90:=by simp[D.dep]
 rcases hs with rfl|rfl
 .show(if D.depL (L.map tx)<=90/\(tx l).dep<=90 then ae ((L.map tx).any λe=>deq e (tx l))else ah)=_;rw[if_pos ⟨d,d2⟩,e]
 .show(if D.depL (L.map tx)<=90/\(tx l).dep<=90 then ae ((L.map tx).any λe=>deq e (tx l))else ah)=_;rw[if_pos ⟨d,d2⟩,e]
theorem Io{l:List Nat}(ha:asc l)(h:l.length<=100):(aI (sL l)).length<=2000:=by have:=PySem.StrLaws.reprText_len (sL l) (by rw[Ul];exact λc hc=>Xa (ha c hc) (by decide));rw[z8]at this;omega
theorem Ir {n:Nat} {P:D} (hT:∀l:List Nat,asc l->l.length<=100->evP 1000 G T n "is_word" [tx l]=.val (.bl (isW l))):∀(r pre:List (List Nat)) (s:Sv),pre.length+r.length<=200->(∀l∈r,asc l/\l.length<=100) ->
  match Zo pre r with
  |none=>∃s',v8 (Wl [2] (run 1000 (evP 1000 G T n) G (.seq (.ife (.not (.call "is_word" (.cons (.var 2) .nil))) (.seq (.raise "NoWord" (.fst (.cons (.rpr (.var 2)) (.cons (.lit (.str " is no word of one to eight small letters")) .nil)))) .nop) .nop) (.seq (.ife (.cmp .isin (.var 2) (.var 1)) (.seq (.raise "Twice" (.fst (.cons (.lit (.str "the place ")) (.cons (.rpr (.var 2)) (.cons (.lit (.str " stands twice")) .nil))))) .nop) .nop) (.seq (.app 1 (.var 2)) .nop))))) (r.map tx) [.val P,.own (pre.map tx),s]=.next [.val P,.own ((pre++r).map tx),s']
  |some x=>∃ρ',v8 (Wl [2] (run 1000 (evP 1000 G T n) G (.seq (.ife (.not (.call "is_word" (.cons (.var 2) .nil))) (.seq (.raise "NoWord" (.fst (.cons (.rpr (.var 2)) (.cons (.lit (.str " is no word of one to eight small letters")) .nil)))) .nop) .nop) (.seq (.ife (.cmp .isin (.var 2) (.var 1)) (.seq (.raise "Twice" (.fst (.cons (.lit (.str "the place ")) (.cons (.rpr (.var 2)) (.cons (.lit (.str " stands twice")) .nil))))) .nop) .nop) (.seq (.app 1 (.var 2)) .nop))))) (r.map tx) [.val P,.own (pre.map tx),s]=.err x ρ'
 |[],pre,s,_,_=>⟨s,by rw[bO,j2w,Xk]⟩
 |l::r,pre,s,hl,hr=>by
  obtain⟨ha,hb⟩:=hr l (xg ..);have w:=hT l ha hb;have rb:=Io ha hb;have r1:∀ρ:En,Rg "NoWord" (Vv (ae (.a [.e (.str (aI (sL l))),.e (.str " is no word of one to eight small letters")]))) (G (bang "NoWord")) ρ=.err "NoWord" ρ:=λρ=>by
   rw[gNW,O4 (ys:=[aI (sL l)," is no word of one to eight small letters"]) (by simp only[xn,Pk];omega) (by
    have e:qj (.str (aI (sL l)))=ae (aI (sL l)):=by unfold qj;exact if_pos (X8 rb (by decide))
    have s2:qj (.str " is no word of one to eight small letters")=ae (aT " is no word of one to eight small letters"):=by unfold qj;exact if_pos (by decide)
    simp only[v7,Rk.d,e,s2])]
   rfl
  have r2:∀ρ:En,Rg "Twice" (Vv (ae (.a [.e (.str "the place "),.e (.str (aI (sL l))),.e (.str " stands twice")]))) (G (bang "Twice")) ρ=.err "Twice" ρ:=λρ=>by
   rw[gTw,O4 (ys:=["the place ",aI (sL l)," stands twice"]) (by simp only[xn,Pk];omega) (by
    have e:qj (.str (aI (sL l)))=ae (aI (sL l)):=by unfold qj;exact if_pos (X8 rb (by decide))
    have s1:qj (.str "the place ")=ae (aT "the place "):=by unfold qj;exact if_pos (by decide)
    have s2:qj (.str " stands twice")=ae (aT " stands twice"):=by unfold qj;exact if_pos (by decide)
    simp only[v7,Rk.d,e,s1,s2])]
   rfl
  rw[X5];unfold Zo;cases hw:isW l with
  |false =>
   rw[hw]at w;rw[if_pos rfl];refine⟨[.val P,.own (pre.map tx),.val (tx l)],?_⟩;rw[Y8];simp only[Wj];ext;erw[w,Cq rb];rw[r1]
   try ext
  |true =>
   rw[hw]at w;rw[if_neg (by simp)];have ii:=Bd (L:=pre) (l:=l) D.lst (.inr rfl);cases hc:pre.contains l with
   |true =>
    rw[hc]at ii;rw[if_pos rfl];refine⟨[.val P,.own (pre.map tx),.val (tx l)],?_⟩;rw[Y8];simp only[Wj];ext;erw[w,ii,Cq rb];rw[r2]
    try ext
   |false =>
    rw[hc]at ii;rw[if_neg (by simp)];have ih:=Ir (n:=n) (P:=P) hT r (pre++[l]) (.val (tx l)) (by rw[X7];simp at hl ⊢;omega) λx hx=>hr x (kj _ hx);have hpl:(pre.map tx).length<=1000:=by rw[xj];simp at hl;omega
    have step:Wl [2] (run 1000 (evP 1000 G T n) G (.seq (.ife (.not (.call "is_word" (.cons (.var 2) .nil))) (.seq (.raise "NoWord" (.fst (.cons (.rpr (.var 2)) (.cons (.lit (.str " is no word of one to eight small letters")) .nil)))) .nop) .nop) (.seq (.ife (.cmp .isin (.var 2) (.var 1)) (.seq (.raise "Twice" (.fst (.cons (.lit (.str "the place ")) (.cons (.rpr (.var 2)) (.cons (.lit (.str " stands twice")) .nil))))) .nop) .nop) (.seq (.app 1 (.var 2)) .nop)))) (tx l) [.val P,.own (pre.map tx),s]=.next [.val P,.own ((pre++[l]).map tx),.val (tx l)]:=by simp only[Wj];ext;erw[w,ii];rw[Xm];rfl
    rw[Ms step];rw[ph]at ih;exact ih
theorem jia{P:D}{t:Bool}{l:List D}(hP:P.sqv=ae (t,l)):Yo (ae (.v (.e P)))=ae (.i l):=by have:=Oo hP;subst this;cases t<;>rfl
theorem jd0{P:D}{t:Bool}{l:List D}(hP:P.sqv=ae (t,l)):vg .len (ae (.a [.e P]))=ae (.v (.e (.int l.length))):=by have:=Oo hP;subst this;cases t<;>simp[vg,Z1,D.seq,Rk.d,rkW]
theorem j8v {n:Nat} {m:Int} (hm:0<=m/\m<=1000):evP 1000 G T (n+1) "refuse_wrong_size" [.int m]=if m<1\/6<m then .err "WrongSize" else .val .non:=by
 rw[jj (F:=Jc) (by rfl) rfl];simp only[Jc,vh,enter];have rai:∀ρ:En,Rg "WrongSize" (Vv (ae (.a [.e (.str "there are "),.e (.int 1),.e (.str " to "),.e (.int 6),.e (.str " places, not "),.e (.int m)]))) (G (bang "WrongSize")) ρ=.err "WrongSize" ρ:=λρ=>by
  rw[gWS,O4 (ys:=["there are ",aT (toString (1:Int))," to ",aT (toString (6:Int))," places, not ",aT (toString m)]) (by simp only[xn,Pk];omega) (by
   have s1:qj (.str "there are ")=ae (aT "there are "):=by unfold qj;exact if_pos (by decide)
   have s2:qj (.str " to ")=ae (aT " to "):=by unfold qj;exact if_pos (by decide)
   have s3:qj (.str " places, not ")=ae (aT " places, not "):=by unfold qj;exact if_pos (by decide)
   simp only[v7,Rk.d,s1,s2,s3,j0b (a:=1) nofun,j0b (a:=6) nofun,j0b (a:=m) nofun])]
  rfl
 by_cases h1:m<1
 .rw[if_pos (.inl h1)];ext;simp only[gF];ext;simp only[gF,gM,Bj,Wi];rw[rai];ext
 .by_cases h2:6<m
  .rw[if_pos (.inr h2)];ext;simp only[gF];ext;simp only[gM];ext;simp only[gF,gM,Bj,Wi];rw[rai];ext
  .rw[if_neg nofun];ext;simp only[gF];ext;simp only[gM];ext
theorem jdh{x:ao}{ks:List D}(h:G (bang x)=ae (.lst ks)):(G (bang x)).isSome=ag:=by rw[h];rfl
theorem Y0{n:Nat}{P:D}{t:Bool}{L:List (List Nat)}(hP:P.sqv=ae (t,L.map tx))(hk:okT L) :
  evP 1000 G T (n+3) "refuse_wrong_places" [P]=if L.length<1\/6<L.length then .err "WrongSize" else match Zo [] L with
   |some x=>.err x
   |none=>.val .non:=by
 rw[jj (F:=J4) (by rfl) rfl];simp only[J4,v6,enter];have rs:=j8v (n:=n+1) (m:=(L.length:Int)) (by have:=hk.1;omega);ext;rw[jd0 hP];ext;by_cases h:L.length<1\/6<L.length
 .rw[if_pos nofun]at rs;rw[if_pos h,rs];ext;simp only[Bp,Bo,K3,je8,Yw];ext
  try simp only[Yw,Dn]
  try rw[jd0 hP]
  ext
  try simp only[Yw,Dn,Do,X5,bO,Rk.d,xj]
  rw[rs];simp only[j18 (jdh gWS)];ext
 .rw[if_neg nofun]at rs;rw[if_neg h,rs];ext;rw[jia hP];ext;have lp:=Ir (n:=n+2) (P:=P) (λl h1 h2=>j1p (n:=n) h1 nofun) L [] .un (by have:=hk.1;simp;omega) hk.2;cases e:Zo [] L with
  |none =>rw[e]at lp;obtain⟨s',lp⟩:=lp;rw[bO]at lp;rw[lp];ext
  |some x =>rw[e]at lp;obtain⟨ρ',lp⟩:=lp;rw[bO]at lp;rw[lp];ext
theorem jcp(n:Int):lt n=0\/low (lt n)=ag:=by
 unfold lt;have h:∀c∈letters,low c=ag:=by decide
 rw[xf];cases e:letters[n.toNat]? with
 |none=>exact .inl rfl
 |some c=>exact .inr (h c (Xq e))
theorem Ba{n:Int}(h:0<=n/\n<26):low (lt n)=ag:=by
 rcases jcp n with z|z
 .obtain⟨i,rfl⟩:∃i:Nat,n=(i:Int):=⟨n.toNat,by omega⟩
  have key:∀i:Fin 26,letters.getD i.val 0≠0:=by decide
  exact absurd z (key ⟨i,by omega⟩)
 .exact z
theorem Eb{c:Nat}(h:low c=ag):c<128:=by unfold low at h;rw[X6]at h;have:=of_decide_eq_true h.2;omega
theorem Ii{c:Int}{m k:Nat}:∀x∈wrd c m k,low x=ag:=by
 have hl:∀x∈Z6 c,low x=ag:=λx hx=>by obtain⟨k,_,rfl⟩:=Xr.mp hx;exact Ba nofun
 have hs:∀x∈Qk c (szN c),low x=ag:=λx hx=>by obtain⟨k,_,rfl⟩:=Xr.mp hx;exact Ba nofun
 intro x hx;unfold wrd at hx;split at hx
 .split at hx
  .exact hl x (Xw hx)
  .exact hl x (Xx hx)
 .rcases Xp.mp hx with z|z
  .exact hs x (Xw z)
  .rcases km.mp z with z|z
   .rw[z];exact Ba nofun
   .exact hs x (Xx z)
theorem j4f{c:Int}{m k:Nat}:(wrd c m k).length<=8:=by
 have a:=Dp c;have l8:=vo c;have ls:=z9 c (szN c);unfold wrd;split
 .split
  .rw[Xh];omega
  .rw[Xf];omega
 .rw[X7,xn,Xh,Xf];omega
noncomputable def wL(c:Int)(m:Nat):List (List Nat):=(aS m).map λk=>wrd c m k
theorem Ds(c:Int)(m:Nat):(Jf c m).map D.str=(wL c m).map tx:=by unfold Jf wL;rw[Xj,Xj];rfl
theorem jf9(c:Int)(m:Nat):∀l∈wL c m,asc l/\l.length<=100:=λl hl=>by obtain⟨k,_,rfl⟩:=Xr.mp hl;exact⟨λx hx=>Eb (Ii x hx),X8 j4f (by decide)⟩
theorem Nv:∀{r pre:List (List Nat)},(∀l∈r,isW l=ag)->(pre++r).Nodup->Zo pre r=ah
 |[],_,_,_=>rfl
 |l::r,pre,h,hn=>by
  unfold Zo;rw[h l (xg ..),if_neg (by simp)];have hc:pre.contains l=af:=by
   have:l∉pre:=λz=>by rw[Pz]at hn;exact hn.2.2 l z l (xg ..) rfl
   simpa using this
  rw[hc,if_neg (by simp)];exact Nv (λx hx=>h x (kj _ hx)) (by rw[ph];exact hn)
theorem jaz{c:Int}{m:Nat}(hm:m<=6):∀l∈wL c m,isW l=ag:=λl hl=>by obtain⟨k,hk,rfl⟩:=Xr.mp hl;have h:=j8e (c:=c) hm (Pa.mp hk);unfold isW;rw[decide_eq_true h.1,decide_eq_true h.2,Bool.and_self,Bool.true_and,Xo];exact Ii
theorem j4g{c:Int}{m:Nat}(hm:m<=6):(wL c m).Nodup:=by unfold wL;unfold List.Nodup;rw[List.pairwise_map];exact List.Pairwise.imp_of_mem (λhi hj h e=>h (j8f hm (Pa.mp hi) (Pa.mp hj) e)) (List.nodup_range (n:=m))
theorem Rv(L:List (List Nat)):D.depL (L.map tx)<=0:=D.depL_of λd hd=>by obtain⟨x,_,rfl⟩:=Xr.mp hd;simp[D.dep]
set_option genInjectivity true in
inductive Pl where
 |tell (b:Int)
 |ask (w:List Nat) (x y:Pl)
noncomputable def plD:Pl->D
 |.tell b=>.tup [.str "tell",.int b]
 |.ask w x y=>.tup [.str "ask",tx w,plD x,plD y]
noncomputable def less(L:List (List Nat))(p:List Nat):List (List Nat):=L.filter λw=>decide (w≠p)
noncomputable def tk:Nat->List (List Nat)->List (List Nat)->Option (Pl×List (List Nat))
 |0,_,_=>ah
 |_+1,[],_=>ah
 |n+1,p::r,L=>if p=[48]then ae (.tell 0,r)else if p=[49]then ae (.tell 1,r)else if L.contains p=ag then
   match tk n r (less L p) with
   |none=>ah
   |some (x,r1)=>match tk n r1 (less L p) with
    |none=>ah
    |some (y,r2)=>ae (.ask p x y,r2)
  else ah
theorem Ue:∀{n:Nat}{ps L:List (List Nat)} {x:Pl} {r:List (List Nat)},tk n ps L=ae (x,r)->∃q,ps=q++r
 |0,_,_,_,_,h=>by cases h
 |_+1,[],_,_,_,h=>by cases h
 |n+1,p::ps,L,x,r,h=>by
  unfold tk at h;split at h
  .cases h;exact⟨[p],rfl⟩
  .split at h
   .cases h;exact⟨[p],rfl⟩
   .split at h
    .split at h
     .cases h
     .rename_i x1 r1 e1;split at h
      .cases h
      .rename_i y r2 e2;cases h;obtain⟨q1,h1⟩:=Ue e1;obtain⟨q2,h2⟩:=Ue e2;exact⟨p::(q1++q2),by rw[h1,h2];simp⟩
    .cases h
theorem Jq{L:List (List Nat)}{p:List Nat}(h:p∈L):(less L p).length<L.length:=by
 unfold less;induction L with
 |nil=>cases h
 |cons w L ih =>
  rw[List.filter_cons];by_cases e:w=p
  .rw[if_neg (by simpa using e),xn];exact Nat.lt_succ_of_le (dm _ _)
  .rw[if_pos (by simpa using e),xn,xn];rcases km.mp h with z|z
   .exact absurd z.symm e
   .exact Nat.succ_lt_succ (ih z)
theorem Ij{n:Nat}{p:List Nat}{r L:List (List Nat)}(h0:p≠[48])(h1:p≠[49])(hc:L.contains p=ag):tk (n+1) (p::r) L=match tk n r (less L p) with
  |none=>ah
  |some (x,r1)=>match tk n r1 (less L p) with
   |none=>ah
   |some (y,r2)=>ae (.ask p x y,r2):=by
 conv=>lhs;unfold tk
 rw[if_neg h0,if_neg h1,if_pos hc]
theorem gNP:G (bang "NoPlan")=ae (.lst [.str "NoPlan"]):=by rfl
theorem jh6 {Ls:List (List Nat)} {k:Nat} {p:List Nat} {r:List (List Nat)} (h:Ls.drop k=p::r):(Ls.map sL).getD k "" = sL p:=by
 have:(Ls.drop k)[0]?=ae p:=by rw[h];rfl
 rw[List.getElem?_drop,Nat.add_zero]at this;rw[xf,Xi,this];rfl
theorem jea {Ls:List (List Nat)} {k:Nat} (h:Ls.drop k=[]):(Ls.map sL).getD k "" = sL []:=by have hl:=List.drop_eq_nil_iff.mp h;rw[xf,T7 (by rw[xj];exact hl)];rfl
theorem Rn{L:List (List Nat)}{l:List Nat}(s:List D->D)(hs:s=D.tup\/s=D.lst):zj .notin (tx l) (s (L.map tx))=ae (!L.contains l):=by
 have:=Bd (L:=L) (l:=l) s hs;have d:=Ek L;have d2:(tx l).dep<=90:=by simp[D.dep]
 rcases hs with rfl|rfl
 .simp only[zj,D.sqv,d,d2,and_self,if_true]at this ⊢;rw[aD this]
 .simp only[zj,D.sqv,d,d2,and_self,if_true]at this ⊢;rw[aD this]
theorem Za{a b:List Nat}(h:a≠b):(sL a==sL b)=af:=by simpa using λq=>h (Uk q)
theorem s48:("0":ao)=sL [48]:=by decide +kernel
theorem s49:("1":ao)=sL [49]:=by decide +kernel
theorem Ug {n:Nat} {b:Int}:evP 1000 G T (n+1) "telling" [.int b]=.val (plD (.tell b)):=by rw[jj (F:=Yt) (by rfl) rfl];simp only[Yt,V0,enter];ext;rfl
theorem Ig {n:Nat} {w:List Nat} {x y:Pl}:evP 1000 G T (n+1) "asking" [tx w,plD x,plD y]=.val (plD (.ask w x y)):=by rw[jj (F:=Ux) (by rfl) rfl];simp only[Ux,Vp,enter];ext;rw[M4 (l:=[.str "ask",tx w,plD x,plD y]) rfl (by simp)];ext;rfl
structure Pc(p:List Nat):Prop where
 a:asc p
 l:p.length<=100
theorem j2b {l:List Nat} (h:Pc l) (ρ:En):V8 "NoPlan" (Vv (consW (j5c (ae (.v (.e (tx l))))) (ae (.a [.e (.str " is no answer, nor a place that may be asked here")])))) (G (bang "NoPlan")) ρ=.err "NoPlan" ρ:=by
 have rb:=Io h.a h.l;rw[Cq rb,Wi,gNP,O4 (ys:=[aI (sL l)," is no answer, nor a place that may be asked here"]) (by simp) (by
  have e:qj (.str (aI (sL l)))=ae (aI (sL l)):=by unfold qj;exact if_pos (X8 rb (by decide))
  have s2:qj (.str " is no answer, nor a place that may be asked here")=ae (aT " is no answer, nor a place that may be asked here"):=by unfold qj;exact if_pos (by decide)
  simp only[v7,Rk.d,e,s2])]
 rfl
theorem j6r{α:Type}{l a b:List α}(h:l=a++b):l.drop (l.length-b.length)=b:=by subst h;rw[X7,Nat.add_sub_cancel];exact List.drop_left
noncomputable def tkR(Ls:List (List Nat)):Option (Pl×List (List Nat))->Rc
 |some (x,r)=>.mval (plD x) (Ls.length-r.length)
 |none=>.merr "NoPlan"
theorem M9 {Ls:List (List Nat)} (hP:∀p∈Ls,Pc p):∀(n:Nat)(s:List D->D)(L:List (List Nat)) (k:Nat),(s=D.tup\/s=D.lst)->L.length<n->L.length<=100->[]∉L->k<=Ls.length->evP 1000 G T (n+1) (mq "plan_taken") [.lst ((Ls.map sL).map D.str),.int (k:Int),s (L.map tx)]=tkR Ls (tk n (Ls.drop k) L)
 |0,_,_,_,_,h,_,_,_=>absurd h (bY _)
 |n+1,s,L,k,hs,hl,h100,hne,hk=>by
  rw[jj (F:=Zq) (by rfl) rfl];simp only[Zq,Ud,enter];ext;rw[jfz];simp only[gb,cK];ext;cases hd:Ls.drop k with
  |nil =>
   have nc:L.contains []=af:=by simpa using hne
   rw[jea hd,s48,s49,Za (by decide),Za (by decide)];ext;rw[Rn s hs,nc];ext;rw[j2b ⟨(λc hc=>by cases hc),by simp⟩];ext;rfl
  |cons p r =>
   have hp:p∈Ls:=Xx (i:=k) (by rw[hd];exact xg ..);have hkl:k<Ls.length:=by
    rcases Nat.lt_or_ge k Ls.length with z|z
    .exact z
    .rw[List.drop_eq_nil_iff.mpr z]at hd;cases hd
   have hr:Ls.drop (k+1)=r:=by rw[<-List.drop_drop,hd];rfl
   have rl:r.length=Ls.length-(k+1):=by rw[<-hr,Xf]
   rw[jh6 hd,s48,s49];by_cases h0:p=[48]
   .subst h0;erw[beq_self_eq_true,Ug];unfold tk;rw[if_pos rfl];show _=Rc.mval _ _;rw[rl];congr 1;omega
   .by_cases h1:p=[49]
    .subst h1;rw[Za (by decide),beq_self_eq_true];ext;rw[Ug];ext;unfold tk;rw[if_neg (by decide),if_pos rfl];show _=Rc.mval _ _;rw[rl];congr 1;omega
    .rw[Za h0,Za h1];ext;rw[Rn s hs];cases hc:L.contains p with
     |false =>ext;rw[j2b (hP p hp)];ext;unfold tk;rw[if_neg h0,if_neg h1,if_neg (by rw[hc];decide)];rfl
     |true =>
      have hmem:p∈L:=by simpa using hc
      have ll:=Jq hmem;have ih:=λk hk=>M9 hP n D.lst (less L p) k (.inr rfl) nofun nofun (λz=>hne (P0.mp z).1) hk;have sq:Yo (ae (.v (.e (s (L.map tx)))))=ae (.i (L.map tx)):=by rcases hs with rfl|rfl<;>rfl
      have tkE:=Ij (n:=n) (r:=r) h0 h1 hc;rw[tkE];ext;rw[sq,Jj (l:=(less L p).map tx) (by rfl) (by rw[xj];omega) ?_ (.inl rfl)]
      .have i1:=ih (k+1) nofun
       rw[hr]at i1;ext;rw[i1];cases e1:tk n r (less L p) with
       |none =>simp only[tkR];rw[Kg (by rw[gNP];rfl)];ext
       |some xr =>
        obtain⟨x,r1⟩:=xr;obtain⟨q1,hq1⟩:=Ue e1;have d1:Ls.drop (Ls.length-r1.length)=r1:=j6r (a:=Ls.take (k+1)++q1) (by rw[ph,<-hq1,<-hr,List.take_append_drop]);have i2:=ih (Ls.length-r1.length) nofun
        rw[d1]at i2;simp only[tkR];ext;rw[i2];cases e2:tk n r1 (less L p) with
        |none =>simp only[tkR];rw[Kg (by rw[gNP];rfl)];ext
        |some yr =>obtain⟨y,r2⟩:=yr;simp only[tkR];ext;rw[Ig];ext
      .unfold less;refine Uc (p:=λw=>decide (w≠p)) λw hw=>Yk (b:=decide (w≠p)) ?_ λ_=>?_
       .ext;rw[Ka,show decide (sL w=sL p)=decide (w=p)from by rw[decide_eq_decide];exact⟨Uk,congrArg sL⟩];ext;by_cases e:w=p
        .simp[e]
        .simp[e]
       .ext
noncomputable def left(S A:List (List Nat)):List (List Nat):=S.filter λw=>decide (w∉A)
theorem Ni{S A:List (List Nat)}{p:List Nat}:left S (A++[p])=less (left S A) p:=by unfold left less;rw[List.filter_filter];refine List.filter_congr λw _=>?_;rw[<-Bool.decide_and,decide_eq_decide];simp only[Xp,xm,not_or,ne_eq];exact And.comm
theorem j5t{S A:List (List Nat)}{p:List Nat}:(left S A).contains p=(S.contains p && !A.contains p):=by rw[cB,X6,fQ,fQ];unfold left;rw[P0];simp
noncomputable def Vn:Option (Pl×List (List Nat))->Rc
 |none=>.val .non
 |some (x,r)=>.fresh [plD x,.lst (r.map tx)]
theorem Nx{l:List (List Nat)}:zj .eq (.lst (l.map tx)) (.lst [])=ae l.isEmpty:=by have:=Rv l;rw[Rx (by simp only[D.dep];omega) (by simp[D.dep,D.depL])];cases l<;>rfl
theorem j3k{l:List D}{k:Nat}(h:k<=l.length):cutD l (ae (k:Int)) ah=l.drop k:=by unfold cutD;rw[HT.sIx_none,HT.sIx_nat,hR h,de (by rw[Xf];omega)]
theorem j6u{p:List Nat}{r:List (List Nat)}:cutD (tx p::r.map tx) (ae 1) ah=r.map tx:=j3k (l:=tx p::r.map tx) (k:=1) (by simp)
theorem jal{p:List Nat}{r:List (List Nat)}:zj .eq (.lst (tx p::r.map tx)) (.lst [])=ae af:=Nx (l:=p::r)
theorem i48:c7 (sL [48])=ae 0:=by decide +kernel
theorem i49:c7 (sL [49])=ae 1:=by decide +kernel
theorem at0{x:D}{l:List D}:atI (x::l) 0=ae x:=Wn (j:=0) rfl
theorem Q3{x y:D}:atI [x,y] 0=ae x:=rfl
theorem Oc{x y:D}:atI [x,y] 1=ae y:=rfl
theorem Mr:∀x:Pl,vy (plD x)=ag
 |.tell b=>by simp[plD,vy,qi]
 |.ask w x y=>by simp[plD,vy,qi,Mr x,Mr y]
theorem Nr {S:List (List Nat)} (hS:S.length<=100):∀(n:Nat)(s:List D->D)(A ps:List (List Nat)),(s=D.tup\/s=D.lst)->(left S A).length<n->A.length+n<=1000->ps.length<=100000->evP 1000 G T (n+1) "_law_from" [.lst (ps.map tx),s (S.map tx),.lst (A.map tx)]=Vn (tk n ps (left S A))
 |0,_,_,_,_,h,_,_=>absurd h (bY _)
 |n+1,s,A,[],hs,hl,hA,hp=>by rw[jj (F:=Yb) (by rfl) rfl];simp only[Yb,Ye,enter];ext;rfl
 |n+1,s,A,p::r,hs,hl,hA,hp=>by
  rw[jj (F:=Yb) (by rfl) rfl];simp only[Yb,Ye,enter];ext;erw[jal,at0];rw[s48];have hpl:r.length<=100000:=by simp at hp;omega
  by_cases h0:p=[48]
  .subst h0;erw[beq_self_eq_true,j7x (by decide +kernel) i48,j6u,Qn (l:=[.tup [.str "tell",.int 0],.lst (r.map tx)]) rfl (by simp)];unfold tk;rw[if_pos rfl];rfl
  .by_cases h1:p=[49]
   .subst h1;rw[Za (by decide)];ext;rw[s49,beq_self_eq_true];ext;erw[j7x (by decide +kernel) i49,j6u,Qn (l:=[.tup [.str "tell",.int 1],.lst (r.map tx)]) rfl (by simp)];unfold tk;rw[if_neg (by decide),if_pos rfl];rfl
   .rw[Za h0];ext;rw[s49,Za h1];ext;rw[Rn s hs];have lm:=j5t (S:=S) (A:=A) (p:=p);cases hc:S.contains p with
    |false =>ext;unfold tk;rw[if_neg h0,if_neg h1,if_neg (by rw[lm,hc,i0];decide)];rfl
    |true =>
     ext;rw[Bd (L:=A) (l:=p) D.lst (.inr rfl)];cases ha:A.contains p with
     |true =>ext;unfold tk;rw[if_neg h0,if_neg h1,if_neg (by rw[lm,hc,ha];decide)];rfl
     |false =>
      have hin:(left S A).contains p=ag:=by rw[lm,hc,ha];rfl
      have ll:=Jq (L:=left S A) (p:=p) (by simpa using hin);have ih:=λps hps=>Nr hS n s (A++[p]) ps hs (by rw[Ni];omega) (by simp;omega) hps;rw[Ni]at ih;have tkE:=Ij (n:=n) (r:=r) h0 h1 hin;rw[tkE];have al:(A.map tx).length+1<=1000000:=by rw[xj];omega
      ext;rw[j6u,Qi (l:=[.lst (r.map tx),s (S.map tx),.lst (A.map tx++[tx p])]) rfl];have i1:=ih r hpl;rw[Xm]at i1;have i1:evP 1000 G T (n+1) "_law_from" [.lst (r.map tx),s (S.map tx),.lst (A.map tx++[tx p])]=_:=i1;rw[i1];cases e1:tk n r (less (left S A) p) with
      |none =>simp only[Vn];ext
      |some xr =>
       obtain⟨x,r1⟩:=xr;obtain⟨q1,hq1⟩:=Ue e1;have r1l:r1.length<=100000:=by rw[hq1,X7]at hpl;omega
       simp only[Vn];ext;rw[Oc];ext;have i2:=ih r1 r1l;rw[Xm]at i2;have i2:evP 1000 G T (n+1) "_law_from" [.lst (r1.map tx),s (S.map tx),.lst (A.map tx++[tx p])]=_:=i2
       first
        |rw[Qi (l:=[.lst (r1.map tx),s (S.map tx),.lst (A.map tx++[tx p])]) rfl,i2]
        |rw[i2]
       cases e2:tk n r1 (less (left S A) p) with
       |none =>simp only[Vn];ext
       |some yr =>obtain⟨y,r2⟩:=yr;simp only[Vn];ext;rw[Q3,Oc,Q3];ext;rw[M4 (l:=[.str "ask",tx p,plD x,plD y]) rfl (by simp)];ext;rfl
theorem Oj:∀{n m:Nat}{ps L:List (List Nat)},L.length<n->L.length<m->tk n ps L=tk m ps L
 |0,_,_,_,h,_=>absurd h (bY _)
 |_+1,0,_,_,_,h=>absurd h (bY _)
 |n+1,m+1,[],L,_,_=>rfl
 |n+1,m+1,p::r,L,hn,hm=>by
  unfold tk;by_cases hc:L.contains p=ag
  .have ll:=Jq (L:=L) (p:=p) (by simpa using hc);have ih:=λps=>Oj (n:=n) (m:=m) (ps:=ps) (L:=less L p) nofun nofun
   rw[if_pos hc,if_pos hc,ih r];split
   .rfl
   .split
    .rfl
    .cases tk m r (less L p) with
     |none=>rfl
     |some v =>obtain⟨x,r1⟩:=v;dsimp only;rw[ih r1]
  .rw[if_neg hc,if_neg hc]
noncomputable def De:Option (Pl×List (List Nat))->Rc
 |some (x,[])=>.val (plD x)
 |_=>.err "NoPlan"
theorem gQ:G (qm "Pieces")=ae .non:=by rfl
theorem j8z {n:Nat} {t:ao} {Ls L:List (List Nat)} {s:List D->D} (hs:s=D.tup\/s=D.lst) (hsp:aA t " " = Ls.map sL) (hP:∀p∈Ls,Pc p) (ht:t.length<=100000) (hLs:Ls.length<=100000) (hr:evP 1000 G T (n+1) "refuse_wrong_places" [s (L.map tx)]=.val .non) (hl:L.length<n) (h100:L.length<=100) (hne:[]∉L) :
  evP 1000 G T (n+2) "plan_read" [.str t,s (L.map tx)]=De (tk n Ls L):=by
 have tp:=M9 hP n s L 0 hs hl h100 hne (cW _);rw[cK]at tp;rw[jj (F:=Js) (by rfl) rfl];simp only[Js,Ju,enter];ext;rw[hr];ext;rw[gQ,show decide (2<(3+1))=ag from rfl,jcl ht (by rw[hsp,xj];omega),hsp];ext;rw[show((0:Nat):Int)=0 from rfl]at tp ⊢;rw[tp];cases e:tk n Ls L with
 |none =>simp only[tkR];rw[Kg (by rw[gNP];rfl)];ext;rfl
 |some xr =>
  obtain⟨x,r⟩:=xr;obtain⟨q,hq⟩:=Ue e;simp only[tkR];ext;rw[j0j];cases r with
  |nil =>rw[if_pos (by simp)];ext;rfl
  |cons w r =>rw[if_neg (by rw[xj,hq];simp)];ext;rw[gNP,jbs];ext;rfl
theorem j2v {n:Nat} {t:ao} {P d:D} (h:evP 1000 G T n "plan_read" [.str t,P]=.val d):evP 1000 G T (n+1) "_law_read" [.str t,P]=.fresh [.lst [],d]:=by rw[jj (F:=Y9) (by rfl) rfl];simp only[Y9,Yd,enter];ext;rw[h];ext
theorem Us {n:Nat} {t:ao} {P:D} {x:ao} (h:evP 1000 G T n "plan_read" [.str t,P]=.err x) (hx:G (bang x)=ae (.lst [.str x])):evP 1000 G T (n+1) "_law_read" [.str t,P]=.fresh [.lst [.str x],.tup []]:=by rw[jj (F:=Y9) (by rfl) rfl];simp only[Y9,Yd,enter];ext;rw[h];ext;simp only[Bp,Bo,K3,j3e,Yw];ext;simp only[Yw,Dn,Do,X5,bO,Rk.d];rw[h];simp only[j18 (show(G (bang x)).isSome=ag from by rw[hx];rfl)];ext;rw[j4l hx];ext
noncomputable def j6q:Option (Pl×List (List Nat))->Rc
 |some (x,[])=>.fresh [.lst [],plD x]
 |_=>.fresh [.lst [.str "NoPlan"],.tup []]
theorem j0y {n:Nat} {t:ao} {P:D} {o:Option (Pl×List (List Nat))} (h:evP 1000 G T n "plan_read" [.str t,P]=De o):evP 1000 G T (n+1) "_law_read" [.str t,P]=j6q o:=by
 rcases o with _|⟨x,_|⟨w,r⟩⟩
 .exact Us h gNP
 .exact j2v h
 .exact Us h gNP
theorem j2s{l:List (List Nat)}:zj .ne (.lst (l.map tx)) (.lst [])=ae (!l.isEmpty):=by have:=Rv l;rw[Rw (by first|omega|(simp only[D.dep];omega)) (by simp[D.depL])];cases l<;>rfl
theorem j6p {n:Nat} {t:ao} {P:D} {Ls:List (List Nat)} {o:Option (Pl×List (List Nat))} (hsp:aA t " " = Ls.map sL) (ht:t.length<=100000) (hLs:Ls.length<=100000) (h:evP 1000 G T n "_law_from" [.lst (Ls.map tx),P,.lst []]=Vn o):evP 1000 G T (n+1) "_law_due" [.str t,P]=j6q o:=by
 rw[jj (F:=K1) (by rfl) rfl];simp only[K1,Oa,enter];ext;rw[jb9 ht (by rw[hsp,xj];omega),hsp,show(Ls.map sL).map D.str=Ls.map tx from by rw[Xj];rfl];ext;rw[Qi (l:=[.lst (Ls.map tx),P,.lst []]) rfl,h];rcases o with _|⟨x,r⟩
 .simp only[Vn];ext
  first|rfl|(rw[Qn (l:=[.lst [.str "NoPlan"],.tup []]) rfl (by simp)];ext;rfl)
 .simp only[Vn];ext;rw[Oc];ext;rw[j2s];cases r with
  |nil =>
   erw[gO,Q3]
   first|rfl|(rw[Qn (l:=[.lst [],plD x]) rfl (by simp)];ext;rfl)
  |cons w r =>
   rw[gE];ext
   first|rfl|(rw[Qn (l:=[.lst [.str "NoPlan"],.tup []]) rfl (by simp)];ext;rfl)
def ov:List (List Nat)->Pl->Prop
 |_,.tell b=>b=0\/b=1
 |L,.ask p x y=>p∈L/\ov (less L p) x/\ov (less L p) y
theorem Lx{L:List (List Nat)}{k:Nat}(h:k<L.length):atI (L.map tx) (k:Int)=ae (tx (L.getD k [])) :=
 Wn (by rw[Xi,xf,kh h];rfl)
theorem b01(c:Int):c%2=0\/c%2=1:=hZ c
theorem j19{l:List (List Nat)}:zj .eq (.lst (l.map tx)) (.lst [])=ae l.isEmpty:=Nx
theorem jb4{a b c d:D}(h:vy d=ag):Vs (ae (.a [.e a,.e b,.e c,.t d]))=ae (.v (.e (.tup [a,b,c,d]))):=M4 (by simp[zg,Rk.st,h]) (by simp)
theorem j9m{L:List (List Nat)}{p:List Nat}:(less L p).length<=L.length:=dm _ _
theorem j2f:∀(deep:Nat){n:Nat}{left:List (List Nat)} {draw:Int},left.length<=6->∃pl,ov left pl/\evP 1000 G T (n+deep+1) "_law_plan" [.lst (left.map tx),.int draw,.int deep]=.val (plD pl):=by
 intro deep;induction deep with
 |zero =>
  intro n left draw hl;refine⟨.tell ((draw*48271+11)%2147483647/128%2),b01 _,?_⟩;rw[jj (F:=Jw) (by rfl) rfl];simp only[Jw,Z3,enter];ext;rw[j19];cases left with
  |nil =>rw[gO];ext;rfl
  |cons w left =>rw[gE];ext;rfl
 |succ deep ih =>
  intro n left draw hl;by_cases h0:left=[]
  .subst h0;refine⟨.tell ((draw*48271+11)%2147483647/128%2),b01 _,?_⟩;rw[jj (F:=Jw) (by rfl) rfl];simp only[Jw,Z3,enter];ext;rfl
  have hne:left.isEmpty=af:=by
   cases left with
   |nil=>exact absurd rfl h0
   |cons w l=>rfl
  have hpos:1<=left.length:=by
   cases left with
   |nil=>exact absurd rfl h0
   |cons w l=>simp
  by_cases h6:(draw*48271+11)%2147483647/16%6=0
  .refine⟨.tell ((draw*48271+11)%2147483647/128%2),b01 _,?_⟩;rw[jj (F:=Jw) (by rfl) rfl];simp only[Jw,Z3,enter];ext;rw[j19,hne];ext;rfl
  obtain⟨dr,edr⟩:∃dr:Int,dr=(draw*48271+11)%2147483647:=⟨_,rfl⟩
  obtain⟨j,hj,ej⟩:∃j:Nat,j<left.length/\dr/16%(left.length:Int)=(j:Int):=by
   refine⟨(dr/16%(left.length:Int)).toNat,?_,?_⟩
   .have h1:=T8 (dr/16) (b:=(left.length:Int)) nofun
    have h2:=cO (dr/16) (b:=(left.length:Int)) nofun
    omega
   .have h1:=T8 (dr/16) (b:=(left.length:Int)) nofun
    omega
  have hrl:(less left (left.getD j [])).length<=6:=X8 j9m hl;obtain⟨p1,o1,e1'⟩:=ih (n:=n) (left:=less left (left.getD j [])) (draw:=dr*3+1) hrl;obtain⟨p2,o2,e2'⟩:=ih (n:=n) (left:=less left (left.getD j [])) (draw:=dr*5+2) hrl;have e1:evP 1000 G T (n+(deep+1)) "_law_plan" [.lst ((less left (left.getD j [])).map tx),.int (dr*3+1),.int deep]=.val (plD p1):=e1';have e2:evP 1000 G T (n+(deep+1)) "_law_plan" [.lst ((less left (left.getD j [])).map tx),.int (dr*5+2),.int deep]=.val (plD p2):=e2';have hin:left.getD j []∈left:=by rw[xf,kh hj];exact Pj hj
  refine⟨.ask (left.getD j []) p1 p2,⟨hin,o1,o2⟩,?_⟩;rw[jj (F:=Jw) (by rfl) rfl];simp only[Jw,Z3,enter];rw[<-edr]at h6;have ed1:((deep+1:Nat):Int)-1=(deep:Int):=by omega
  have ez:((deep+1:Nat):Int)≠0:=by omega
  ext;rw[<-edr,j19,hne];ext;rw[ej,Lx hj];ext;rw[Jj (l:=(less left (left.getD j [])).map tx) (by rfl) (by rw[xj];omega) ?_ (.inl rfl)]
  .ext
   try rw[Ry]
   rw[ed1,e1];ext;rw[jbe (Mr p1)];ext
   try rw[Ry]
   try rw[ed1]
   erw[e2,jb4 (Mr p2)];rfl
  .unfold less;refine Uc (p:=λw=>decide (w≠left.getD j [])) λw hw=>Yk (b:=decide (w≠left.getD j [])) ?_ λ_=>?_
   .ext;rw[Ka,show decide (sL w=sL (left.getD j []))=decide (w=left.getD j [])from by rw[decide_eq_decide];exact⟨Uk,congrArg sL⟩];ext;by_cases e:w=left.getD j []
    .simp[e]
    .simp[e]
   .ext
noncomputable def pcs:Pl->List (List Nat)
 |.tell b=>[if b=0 then[48] else[49]]
 |.ask p x y=>p::(pcs x++pcs y)
theorem Mp:∀pl:Pl,pcs pl≠[]
 |.tell b=>by intro h;cases h
 |.ask p x y=>by intro h;cases h
theorem Qv:∀{pl:Pl}{L:List (List Nat)},ov L pl->(pcs pl).length+1<=2^(L.length+1)
 |.tell b,L,_=>by have:=bM (n:=2) (by decide) (Nat.le_add_left 1 L.length);simp only[pcs,xn,Pk];omega
 |.ask p x y,L,⟨h,hx,hy⟩=>by have h1:=Qv hx;have h2:=Qv hy;have l:=Jq h;have p2:=bM (n:=2) (by decide) (show(less L p).length+1<=L.length from l);simp only[pcs,xn,X7];rw[Nat.pow_succ];omega
theorem Wa:∀{pl:Pl}{L:List (List Nat)},ov L pl->∀q∈pcs pl,q∈L\/q=[48]\/q=[49]
 |.tell b,L,_,q,hq=>by
  rw[pcs,xm]at hq;subst hq;split
  .exact .inr (.inl rfl)
  .exact .inr (.inr rfl)
 |.ask p x y,L,⟨h,hx,hy⟩,q,hq=>by
  rw[pcs,km,Xp]at hq;rcases hq with rfl|hq|hq
  .exact .inl h
  .exact(Wa hx q hq).imp (λz=>(P0.mp z).1) id
  .exact(Wa hy q hq).imp (λz=>(P0.mp z).1) id
theorem Dv:∀{pl:Pl}{L:List (List Nat)} {n:Nat} {r:List (List Nat)},ov L pl->L.length<n->[48]∉L->[49]∉L->tk n (pcs pl++r) L=ae (pl,r)
 |.tell b,L,0,r,_,h,_,_=>absurd h (bY _)
 |.ask p x y,L,0,r,_,h,_,_=>absurd h (bY _)
 |.tell b,L,n+1,r,hb,_,_,_=>by
  rcases hb with rfl|rfl
  .rfl
  .rfl
 |.ask p x y,L,n+1,r,⟨h,hx,hy⟩,hl,h0,h1=>by
  have l:=Jq h;have ix:=λr=>Dv (r:=r) (n:=n) hx nofun (λz=>h0 (P0.mp z).1) (λz=>h1 (P0.mp z).1)
  have iy:=λr=>Dv (r:=r) (n:=n) hy nofun (λz=>h0 (P0.mp z).1) (λz=>h1 (P0.mp z).1)
  rw[pcs,Pr,ph];unfold tk;have n0:p≠[48]:=λz=>h0 (z▸h);have n1:p≠[49]:=λz=>h1 (z▸h);rw[if_neg n0,if_neg n1,if_pos (by simpa using h),ix];dsimp only;rw[iy]
theorem p0{x y z w:D}:atI [x,y,z,w] 0=ae x:=rfl
theorem p1{x y z w:D}:atI [x,y,z,w] 1=ae y:=rfl
theorem p2{x y z w:D}:atI [x,y,z,w] 2=ae z:=rfl
theorem p3{x y z w:D}:atI [x,y,z,w] 3=ae w:=rfl
theorem ta:(("tell":ao)==("ask":ao))=af:=by decide
theorem aa:(("ask":ao)==("ask":ao))=ag:=by decide
theorem at':(("ask":ao)==("tell":ao))=af:=by decide
theorem tt':(("tell":ao)==("tell":ao))=ag:=by decide
theorem j9z {n:Nat} {b:Int}:evP 1000 G T (n+1) "is_ask" [plD (.tell b)]=.val (.bl af):=by
 rw[jj (F:=Zh) (by rfl) rfl];simp only[Zh,Zk,enter,plD];ext;rw[Q3];ext
 try rw[ta]
theorem ja0 {n:Nat} {p:List Nat} {x y:Pl}:evP 1000 G T (n+1) "is_ask" [plD (.ask p x y)]=.val (.bl ag):=by
 rw[jj (F:=Zh) (by rfl) rfl];simp only[Zh,Zk,enter,plD];ext;rw[p0];ext
 try rw[aa]
theorem j1w {n:Nat} {b:Int}:evP 1000 G T (n+1) "answer_told" [plD (.tell b)]=.val (.int b):=by rw[jj (F:=Qz) (by rfl) rfl];simp only[Qz,Q0,enter,plD];ext;rw[Oc];ext
theorem j1j {n:Nat} {p:List Nat} {a b:Pl}:evP 1000 G T (n+1) "place_asked" [plD (.ask p a b)]=.val (tx p):=by rw[jj (F:=Qy) (by rfl) rfl];simp only[Qy,Jz,enter,plD];ext;rw[p1];ext
theorem jat {n:Nat} {p:List Nat} {a b:Pl}:evP 1000 G T (n+1) "plan_behind" [plD (.ask p a b),.int 0]=.val (plD a):=by rw[jj (F:=J8) (by rfl) rfl];simp only[J8,Ja,enter,plD];ext;rw[p2];ext
theorem jas {n:Nat} {p:List Nat} {a b:Pl}:evP 1000 G T (n+1) "plan_behind" [plD (.ask p a b),.int 1]=.val (plD b):=by rw[jj (F:=J8) (by rfl) rfl];simp only[J8,Ja,enter,plD];ext;rw[p3];ext
theorem st0:aT (toString (0:Int))=sL [48]:=by decide +kernel
theorem st1:aT (toString (1:Int))=sL [49]:=by decide +kernel
theorem Vu:∀{pl:Pl}{L:List (List Nat)} {N:Nat},ov L pl->L.length<=6->L.length<=N->evP 1000 G T (N+1) "_law_pieces" [plD pl]=.fresh ((pcs pl).map tx)
 |.tell b,L,N,hb,_,_=>by
  rw[jj (F:=Zi) (by rfl) rfl];simp only[Zi,Zm,enter,plD];ext;rw[Q3];ext
  try rw[tt']
  ext;rw[Oc];ext;rcases hb with rfl|rfl
  .rw[Ui (by decide),st0];ext;rfl
  .rw[Ui (by decide),st1];ext;rfl
 |.ask p x y,L,0,⟨h,_,_⟩,_,hl=>by have:=fy h;omega
 |.ask p x y,L,N+1,⟨h,hx,hy⟩,h6,hl=>by
  have l:=Jq h;have ix:=Vu (N:=N) hx nofun nofun
  have iy:=Vu (N:=N) hy nofun nofun
  have lx:=Qv hx;have ly:=Qv hy;have pw:=bM (n:=2) (by decide) (show(less L p).length+1<=6 by omega);rw[jj (F:=Zi) (by rfl) rfl];simp only[Zi,Zm,enter,plD];ext;rw[p0];ext
  try rw[at']
  ext;erw[p1,p2,ix,p3,iy];rw[pcs];simp
theorem Nm{sep:ao}{ts:List ao}(hs:sep.length<=10)(h:∀t∈ts,t.length<=2500)(hl:ts.length<=300):bq sep ts=ag:=by
 unfold bq;rw[cT];have e:∀(r:List ao)(k:Nat),(∀t∈r,t.length<=2500)->r.foldl (λ(x:Nat) (y:ao)=>x+y.length+sep.length) k<=k+2510*r.length:=by
  intro r;induction r with
  |nil=>intro k _;simp
  |cons a r ih =>intro k h;rw[cA,xn];have:=ih (k+a.length+sep.length) λt ht=>h t (kj _ ht);have:=h a (xg ..);omega
 have:=e ts 0 h;show aX _=af;rw[gr];show aX (cf (λ(x:Nat) (y:ao)=>x+y.length+sep.length) 0 _)=af;unfold aX;simp only[decide_eq_false_iff_not];have:=bK;omega
theorem Du(ls:List (List Nat)):ls.map tx=(ls.map sL).map D.str:=by rw[Xj];rfl
structure Pd(p:List Nat):Prop where
 a:asc p
 l:p.length<=9
 b:32∉p
theorem Pd.pc{p:List Nat}(h:Pd p):Pc p:=⟨h.a,X8 h.l (by decide)⟩
theorem Mv:∀{ls:List (List Nat)},(∀l∈ls,Pd l)->(jn ls).length<=10*ls.length
 |[],_=>by simp[jn]
 |[x],h=>by have:=(h x (xg ..)).l;simp only[jn,xn,Pk];omega
 |x::y::r,h=>by have:=(h x (xg ..)).l;have:=Mv (ls:=y::r) λl hl=>h l (kj _ hl);rw[Zy,X7,xn];simp only[xn]at this ⊢;omega
theorem jOk {ls:List (List Nat)} (h:∀l∈ls,Pd l) (hl:ls.length<=200):bq " " (ls.map sL)=ag:=Nm (by decide +kernel) (λt ht=>by
  obtain⟨l,hl,rfl⟩:=Xr.mp ht
  have:=(h l hl).l
  rw[z8]
  omega) (by rw[xj];omega)
theorem jo {ls:List (List Nat)} (h:∀l∈ls,Pd l) (hl:ls.length<=200):Jl " " (ae (.v (.o (ls.map tx))))=ae (.v (.e (.str (sL (jn ls))))):=by rw[Du,Wf (jOk h hl),Wd]
theorem jc7:Pd [48]:=⟨λc hc=>by rw[xm.mp hc];decide,by decide,by decide⟩
theorem jc6:Pd [49]:=⟨λc hc=>by rw[xm.mp hc];decide,by decide,by decide⟩
theorem Yn:∀{pl:Pl}{L:List (List Nat)} {N:Nat},ov L pl->(∀l∈L,Pd l)->L.length<=6->L.length<=N->evP 1000 G T (N+2) "plan_shown" [plD pl]=.val (tx (jn (pcs pl)))
 |.tell b,L,N,hb,_,_,_=>by
  rw[jj (F:=Jh) (by rfl) rfl];simp only[Jh,Ji,enter];ext;erw[j9z,j1w];rcases hb with rfl|rfl
  .rw[Ui (by decide),st0];ext;rfl
  .rw[Ui (by decide),st1];ext;rfl
 |.ask p x y,L,0,⟨h,_,_⟩,_,_,hl=>by have:=fy h;omega
 |.ask p x y,L,N+1,⟨h,hx,hy⟩,hP,h6,hl=>by
  have l:=Jq h;have hP':∀q∈less L p,Pd q:=λq hq=>hP q (P0.mp hq).1;have ix:=Yn (N:=N) hx hP' nofun nofun
  have iy:=Yn (N:=N) hy hP' nofun nofun
  have lx:=Qv hx;have ly:=Qv hy;have pw:=bM (n:=2) (by decide) (show(less L p).length+1<=6 by omega);have all:∀{z:Pl},ov (less L p) z->∀q∈pcs z,Pd q:=λhz q hq=>by
   rcases Wa hz q hq with z|rfl|rfl
   .exact hP' q z
   .exact jc7
   .exact jc6
  have bx:=Mv (all hx);have by':=Mv (all hy);have jk:bq " " [sL p,sL (jn (pcs x)),sL (jn (pcs y))]=ag:=Nm (by decide +kernel) (λt ht=>by
   have:=(hP p h).l
   simp only[km,Pu,or_false]at ht
   rcases ht with rfl|rfl|rfl<;>rw[z8]<;>omega) (by simp)
  have ej:bF " " [sL p,sL (jn (pcs x)),sL (jn (pcs y))]=sL (jn (pcs (.ask p x y))):=by have:=Wd [p,jn (pcs x),jn (pcs y)];refine this.trans (congrArg sL ?_);rw[pcs,Ef (x:=p) (r:=pcs x++pcs y) (by intro z;exact Mp x (List.append_eq_nil_iff.mp z).1),j34 (Mp x) (Mp y)];rfl
  have jw:=Wf jk;rw[ej]at jw;have jw:Jl " " (ae (.v (.o [tx p,tx (jn (pcs x)),tx (jn (pcs y))])))=ae (.v (.e (tx (jn (pcs (.ask p x y)))))):=jw;rw[jj (F:=Jh) (by rfl) rfl];simp only[Jh,Ji,enter];ext;erw[ja0,j1j,jat,ix,jas,iy,jw]
theorem jef{l:List D}{k:Nat}(h:k<=l.length):cutD l ah (ae (k:Int))=l.take k:=by unfold cutD;rw[HT.sIx_none,HT.sIx_nat,hR h];simp
theorem j6t{L:List (List Nat)}{k:Nat}(h:k<=L.length):cutD (L.map tx) ah (ae (k:Int))=(L.take k).map tx:=by rw[jef (by rw[xj];exact h),ig]
theorem j1c{L:List (List Nat)}{k:Nat}(h:k<=L.length):cutD (L.map tx) (ae (k:Int)) ah=(L.drop k).map tx:=by rw[j3k (by rw[xj];exact h),ij]
theorem Wb{c:Int}{l:Nat}(h:0<l):∃k:Nat,k<l/\c%(l:Int)=(k:Int):=by
 have h1:=T8 c (b:=(l:Int)) nofun
 have h2:=cO c (b:=(l:Int)) nofun
 exact⟨(c%(l:Int)).toNat,by omega,by omega⟩
noncomputable def eight:List (List Nat):=[[48],[49],[50],[],[113],[122,113],[65],[49,48]]
theorem Kl{l:List Nat}(h:l.all (λc=>decide (c<128))=ag):asc l:=λc hc=>of_decide_eq_true (Xo.mp h c hc)
theorem j6o:∀l∈eight,Pd l:=by intro l hl;simp only[eight,km,Pu,or_false]at hl;rcases hl with rfl|rfl|rfl|rfl|rfl|rfl|rfl|rfl<;>exact⟨Kl (by decide),by decide,by decide⟩
theorem j6n:[D.str "0",D.str "1",D.str "2",D.str "",D.str "q",D.str "zq",D.str "A",D.str "10"]=eight.map tx:=by
 have h:[("0":ao),"1","2","","q","zq","A","10"]=eight.map sL:=by decide +kernel
 have:=congrArg (hW D.str) h;rw[Xj]at this;exact this
def isL(R:Rc)(l:List D):Prop:=R=.fresh l\/R=.val (.lst l)
theorem Ol{ps:List (List Nat)}(h:∀p∈ps,Pd p)(k:Nat):∀p∈ps.take k,Pd p:=λp hp=>h p (Xw hp)
theorem Bq{ps:List (List Nat)}(h:∀p∈ps,Pd p)(k:Nat):∀p∈ps.drop k,Pd p:=λp hp=>h p (Xx hp)
theorem Vg{a b:List (List Nat)}(h:∀p∈a,Pd p)(h2:∀p∈b,Pd p):∀p∈a++b,Pd p:=λp hp=>(Xp.mp hp).elim (h p) (h2 p)
theorem La{a:List Nat}(h:Pd a):∀p∈[a],Pd p:=λp hp=>by rw[xm.mp hp];exact h
theorem j3h {n:Nat} {ps L:List (List Nat)} {c:Int} (hp:∀p∈ps,Pd p) (hL:∀p∈L,Pd p) (hne:0<ps.length) (hl:ps.length<=150) (hm:L.length<=6):∃qs:List (List Nat),isL (evP 1000 G T (n+1) "_law_done" [.lst (ps.map tx),.lst (L.map tx),.int c]) (qs.map tx)/\(∀q∈qs,Pd q)/\qs.length<=151:=by
 rw[jj (F:=Bl) (by rfl) rfl];simp only[Bl,Wm,enter];obtain⟨k,hk,ek⟩:=Wb (c:=c/8) hne;obtain⟨j,hj,ej⟩:=Wb (c:=c/2048) (l:=(L++eight).length) (by simp[eight]);have hj':j<L.length+8:=by simpa [eight]using hj
 have ej':c/2048%((L.length+8:Nat):Int)=(j:Int):=by rw[<-ej,X7];rfl
 have hw:Pd ((L++eight).getD j []):=by rw[xf,kh hj];exact Vg hL j6o _ (Pj hj)
 have gx:=Lx hj;rw[Xm]at gx;generalize (L++eight).getD j []=w at *;have e1:(k:Int)+1=((k+1:Nat):Int):=by omega
 have c1:=j6t (L:=ps) (k:=k) nofun
 have c2:=j1c (L:=ps) (k:=k) nofun
 have c3:=j1c (L:=ps) (k:=k+1) nofun
 have l1:(cutD (ps.map tx) ah (ae (k:Int))).length=k:=by rw[c1,xj,Xh];omega
 have l2:(cutD (ps.map tx) (ae (k:Int)) ah).length=ps.length-k:=by rw[c2,xj,Xf]
 have l3:(cutD (ps.map tx) (ae ((k:Int)+1)) ah).length=ps.length-(k+1):=by rw[e1,c3,xj,Xf]
 ext;rw[ek];ext;rw[j6n,ej',gx];ext;have w4:c%4=0\/c%4=1\/c%4=2\/c%4=3:=by omega
 rcases w4 with z|z|z|z
 .rw[z];ext;rw[e1,c1,c3];ext;refine⟨ps.take k++ps.drop (k+1),.inl (by rw[Xm]),Vg (Ol hp _) (Bq hp _),?_⟩;simp;omega
 .rw[z];ext;rw[c1,c2];ext;refine⟨(ps.take k++[w])++ps.drop k,.inl (by rw[Xm,Xm];rfl),Vg (Vg (Ol hp _) (La hw)) (Bq hp _),?_⟩;simp;omega
 .rw[z];ext;rw[e1,c1,c3];ext;refine⟨(ps.take k++[w])++ps.drop (k+1),.inl (by rw[Xm,Xm];rfl),Vg (Vg (Ol hp _) (La hw)) (Bq hp _),?_⟩;simp;omega
 .rw[z];ext;by_cases z2:c/4%2=1
  .ext;refine⟨ps++[w],.inl (by rw[Xm];rfl),Vg hp (La hw),?_⟩;simp;omega
  .ext;exact⟨ps,.inr rfl,hp,by omega⟩
theorem j8i {qs:List (List Nat)} (h:∀q∈qs,Pd q) (hl:qs.length<=151):∃Ls:List (List Nat),aA (sL (jn qs)) " " = Ls.map sL/\(∀p∈Ls,Pc p)/\Ls.length<=151:=by
 by_cases z:qs=[]
 .subst z;exact⟨[[]],R9 (ls:=[[]]) (by simp) (λl hl=>by rw[xm.mp hl];simp),(λp hp=>by rw[xm.mp hp];exact⟨Kl (by decide),by decide⟩),by simp⟩
 .exact⟨qs,R9 z λl hl=>(h l hl).b,λp hp=>Pd.pc (h p hp),hl⟩
theorem Nu:∀{r pre:List (List Nat)},(∀l∈r,isW l=ag)->pre.Nodup->¬(pre++r).Nodup->Zo pre r=ae ("Twice":ao)
 |[],pre,_,hn,h=>absurd (by simpa using hn) h
 |l::r,pre,h,hn,hd=>by
  unfold Zo;rw[h l (xg ..),if_neg (by simp)];cases hc:pre.contains l with
  |true=>rw[if_pos rfl]
  |false =>
   rw[if_neg (by simp)];have hm:l∉pre:=by simpa using hc
   refine Nu (λx hx=>h x (kj _ hx)) ?_ (by simpa using hd);rw[Pz];refine⟨hn,by simp,λa ha b hb=>?_⟩;rw[xm.mp hb];exact λq=>hm (q▸ha)
theorem Ly:∀{a pre b:List (List Nat)} {w:List Nat},(∀l∈a,isW l=ag)->(pre++a).Nodup->isW w=af->Zo pre (a++w::b)=ae ("NoWord":ao)
 |[],pre,b,w,_,_,hw=>by rw[dj];unfold Zo;rw[if_pos hw]
 |l::a,pre,b,w,h,hn,hw=>by
  rw[Pr];unfold Zo;rw[h l (xg ..),if_neg (by simp)];have hc:pre.contains l=af:=by
   have:l∉pre:=λz=>by rw[Pz]at hn;exact hn.2.2 l z l (xg ..) rfl
   simpa using this
  rw[hc,if_neg (by simp)];exact Ly (λx hx=>h x (kj _ hx)) (by simpa using hn) hw
theorem j5d {n:Nat} {t:ao} {P:D} {x:ao} (hx:G (bang x)=ae (.lst [.str x])) (hr:evP 1000 G T n "refuse_wrong_places" [P]=.err x):evP 1000 G T (n+1) "plan_read" [.str t,P]=.err x:=by
 rw[jj (F:=Js) (by rfl) rfl];simp only[Js,Ju,enter];ext;rw[hr];ext;simp only[Bp,Bo,K3,j3e,Yw];ext
 try simp only[Yw,Dn,Do,X5,bO,Rk.d]
 try rw[hr]
 try simp only[j18 (jdh hx)]
 ext
theorem Vl {n:Nat} {t:ao} {P:D} {x:ao} (hx:G (bang x)=ae (.lst [.str x])) (hr:evP 1000 G T n "refuse_wrong_places" [P]=.err x):evP 1000 G T (n+2) "_law_read" [.str t,P]=.fresh [.lst [.str x],.tup []]:=Us (j5d hx hr) hx
theorem j3a:T "_law_words" = ae KW.fL_words:=by rfl
theorem jgx:T "_law_cell" = ae KL.fL_cell:=by rfl
theorem j13:T "_law_same" = ae KL.fL_same:=by rfl
theorem Vb{l:List Nat}(h:isW l=ag):Pd l:=by
 unfold isW at h;rw[X6,X6,decide_eq_true_eq,decide_eq_true_eq,Xo]at h;refine⟨λc hc=>Eb (h.2 c hc),by omega,λhc=>?_⟩;have:=h.2 32 hc
 revert this
 decide
theorem dps{x:ao}:D.depL [D.str x]<=90:=by simp only[D.depL,D.dep];omega
theorem ne1{x:ao}:zj .ne (.lst [.str x]) (.lst [.str x])=ae af:=by
 rw[Rw dps dps,Qf]
 .rfl
 .exact T6 dps (by decide)
theorem dpl{x:ao}:(D.lst [D.str x]).dep<=90:=by simp only[D.depL,D.dep];omega
theorem eq1{x:ao}:zj .eq (.lst [.str x]) (.lst [.str x])=ae ag:=by rw[Rx dpl dpl,Qf];exact T6 dps (by decide)
theorem j7j {n:Nat} {L:List (List Nat)} (hw:∀l∈L,isW l=ag) (hd:¬L.Nodup) (h1:1<=L.length) (h6:L.length<=6):evP 1000 G T (n+3) "refuse_wrong_places" [.lst (L.map tx)]=.err "Twice":=by rw[Y0 (t:=ag) (L:=L) rfl ⟨by omega,λl hl=>⟨(Vb (hw l hl)).a,X8 (Vb (hw l hl)).l (by decide)⟩⟩,if_neg nofun,Nu hw eS (by simpa using hd)]
theorem jfp {n:Nat} {a b:List (List Nat)} {w:List Nat} (hw:∀l∈a++b,isW l=ag) (hn:a.Nodup) (hx:isW w=af) (ha:asc w) (hl:w.length<=9) (h6:(a++w::b).length<=6):evP 1000 G T (n+3) "refuse_wrong_places" [.lst ((a++w::b).map tx)]=.err "NoWord":=by
 rw[Y0 (t:=ag) (L:=a++w::b) rfl ⟨by omega,λl hq=>?_⟩,if_neg (by simp at h6 ⊢;omega),Ly (λl hl=>hw l (Xu _ hl)) (by simpa using hn) hx];rcases Xp.mp hq with z|z
 .exact⟨(Vb (hw l (Xu _ z))).a,X8 (Vb (hw l (Xu _ z))).l (by decide)⟩
 .rcases km.mp z with rfl|z
  .exact⟨ha,by omega⟩
  .exact⟨(Vb (hw l (Xd _ z))).a,X8 (Vb (hw l (Xd _ z))).l (by decide)⟩
noncomputable def odd:List (List Nat):=[[],[65],[97,32,98],[97,98,99,100,101,102,103,104,105]]
theorem j2q:[D.str "",D.str "A",D.str "a b",D.str "abcdefghi"]=odd.map tx:=by
 have h:[("":ao),"A","a b","abcdefghi"]=odd.map sL:=by decide +kernel
 have:=congrArg (hW D.str) h;rw[Xj]at this;exact this
theorem jci:∀l∈odd,isW l=af/\asc l/\l.length<=9:=by intro l hl;simp only[odd,km,Pu,or_false]at hl;rcases hl with rfl|rfl|rfl|rfl<;>exact⟨by decide,Kl (by decide),by decide⟩
theorem Cr {n:Nat} {t:ao} {L:List (List Nat)} {c:Int} (hw:∀l∈L,isW l=ag) (hn:L.Nodup) (h1:1<=L.length) (h6:L.length<=6):evP 1000 G T (n+6) "_law_lists_refused" [.str t,.lst (L.map tx),.int c]=.val (.bl ag):=by
 obtain⟨k,hk,ek⟩:=Wb (c:=c/4) (l:=L.length) nofun
 obtain⟨j,hj,ej⟩:=Wb (c:=c) (l:=4) nofun
 have ej:c%4=(j:Int):=ej;have gx:=Lx hk;have gm:L.getD k []∈L:=by rw[xf,kh hk];exact Pj hk
 have ed:L.drop k=L.getD k []::L.drop (k+1):=by rw[xf,kh hk];exact eY hk
 have e1:(k:Int)+1=((k+1:Nat):Int):=by omega
 have c1:=j6t (L:=L) (k:=k) nofun
 have c2:=j1c (L:=L) (k:=k) nofun
 have c3:=j1c (L:=L) (k:=k+1) nofun
 have hwt:∀l∈L.take k,isW l=ag:=λl hl=>hw l (Xw hl);have r0:evP 1000 G T (n+5) "_law_read" [.str t,.lst []]=.fresh [.lst [.str "WrongSize"],.tup []]:=Vl gWS (by
  rw[Y0 (t:=ag) (L:=[]) rfl ⟨by simp,λl hl=>by cases hl⟩,if_pos (by simp)])
 obtain⟨c',ec⟩:∃c':Int,c'=4*(c%1000000000)+3:=⟨_,rfl⟩
 have w7:evP 1000 G T (n+5) "_law_words" [.int c',.int 7]=.fresh ((Jf c' 7).map D.str):=Dr (m:=7) j3a nofun (by decide)
 rw[Ds]at w7;have r7:evP 1000 G T (n+5) "_law_read" [.str t,.lst ((wL c' 7).map tx)]=.fresh [.lst [.str "WrongSize"],.tup []]:=Vl gWS (by
  have l7:(wL c' 7).length=7:=by unfold wL;simp
  rw[Y0 (t:=ag) (L:=wL c' 7) rfl ⟨by omega,jf9 c' 7⟩,if_pos nofun])
 have go:atI (odd.map tx) (j:Int)=ae (tx (odd.getD j [])):=Lx hj;obtain⟨o1,o2,o3⟩:=jci (odd.getD j []) (by
  rw[xf,kh (show j<odd.length from hj)]
  exact Pj _)
 generalize odd.getD j []=w at *;have rw':evP 1000 G T (n+5) "_law_read" [.str t,.lst ((L.take k).map tx++[tx w]++(L.drop (k+1)).map tx)]=.fresh [.lst [.str "NoWord"],.tup []]:=by
  have:=jfp (n:=n) (a:=L.take k) (b:=L.drop (k+1)) (w:=w) (λl hl=>by
   rcases Xp.mp hl with z|z
   .exact hwt l z
   .exact hw l (Xx z)) (hn.sublist (gC ..)) o1 o2 o3 (by simp;omega)
  rw[Xm,X5]at this;rw[ph];exact Vl gNW this
 obtain⟨tw,ht1,ht2⟩:∃tw:List (List Nat),evP 1000 G T (n+5) "_law_read" [.str t,.lst (tw.map tx)]=.fresh [.lst [.str "Twice"],.tup []]/\tw=(if L.length=6 then L.take 5++[L.getD (k%5) []] else(L.take k++[L.getD k []])++L.drop k):=by
  refine⟨_,Vl gTw ?_,rfl⟩;by_cases z:L.length=6
  .rw[if_pos z];have hk5:k%5<L.length:=by omega
   have g5:L.getD (k%5) []∈L.take 5:=by rw[xf,kh hk5,List.mem_take_iff_getElem];exact⟨k%5,by omega,rfl⟩
   refine j7j (λl hl=>?_) (λhd=>?_) (by simp) (by simp;omega)
   .rcases Xp.mp hl with y|y
    .exact hw l (Xw y)
    .rw[xm.mp y];exact hw _ (Xw g5)
   .rw[Pz]at hd;exact hd.2.2 _ g5 _ (fm _) rfl
  .rw[if_neg z];refine j7j (λl hl=>?_) (λhd=>?_) (by simp;omega) (by simp;omega)
   .rcases Xp.mp hl with y|y
    .rcases Xp.mp y with y|y
     .exact hwt l y
     .rw[xm.mp y];exact hw _ gm
    .exact hw l (Xx y)
   .rw[ed,Pz]at hd;exact hd.2.2 _ (Xd _ (fm _)) _ (xg ..) rfl
 have l1:(cutD (L.map tx) ah (ae (k:Int))).length=k:=by rw[c1,xj,Xh];omega
 have l2:(cutD (L.map tx) (ae (k:Int)) ah).length=L.length-k:=by rw[c2,xj,Xf]
 have l3:(cutD (L.map tx) (ae ((k:Int)+1)) ah).length=L.length-(k+1):=by rw[e1,c3,xj,Xf]
 have lt1:(L.take k).length=k:=by rw[Xh];omega
 have ld1:(L.drop k).length<=6:=by rw[Xf];omega
 rw[jj (F:=Qa) (by rfl) rfl];simp only[Qa,Je,enter];ext;rw[ek];ext;rw[gx,c1,c2];ext;by_cases z:L.length=6
 .rw[if_pos z]at ht2;have c5:=j6t (L:=L) (k:=5) nofun
  have c5:cutD (L.map tx) ah (ae 5)=(L.take 5).map tx:=c5;have g5:=Lx (L:=L) (k:=k%5) nofun
  rw[show(((k%5:Nat)):Int)=(k:Int)%5 from by omega]at g5;have lt5:(L.take 5).length=5:=by rw[Xh];omega
  have em:(L.take 5).map tx++[tx (L.getD (k%5) [])]=tw.map tx:=by rw[ht2,Xm];rfl
  ext;rw[c5,g5];ext;erw[em,r0,Q3,ne1,ht1,Q3,ne1];rw[<-ec,w7];ext;erw[r7,Q3,ne1];rw[j2q,ej,go];ext;rw[e1,c1,c3];ext;erw[rw',Q3,eq1]
 .rw[if_neg z]at ht2;have em:(L.take k).map tx++[tx (L.getD k [])]++(L.drop k).map tx=tw.map tx:=by rw[ht2,Xm,Xm];rfl
  ext;erw[em,r0,Q3,ne1,ht1,Q3,ne1];rw[<-ec,w7];ext;erw[r7,Q3,ne1];rw[j2q,ej,go];ext;rw[e1,c1,c3];ext;erw[rw',Q3,eq1]
theorem j07:∀{n:Nat}{ps L:List (List Nat)} {x:Pl} {r:List (List Nat)},tk n ps L=ae (x,r)->ov L x
 |0,_,_,_,_,h=>by cases h
 |_+1,[],_,_,_,h=>by cases h
 |n+1,p::ps,L,x,r,h=>by
  unfold tk at h;split at h
  .cases h;exact .inl rfl
  .split at h
   .cases h;exact .inr rfl
   .split at h
    .rename_i hc;split at h
     .cases h
     .rename_i x1 r1 e1;split at h
      .cases h
      .rename_i y r2 e2;cases h;exact⟨by simpa using hc,j07 e1,j07 e2⟩
    .cases h
theorem O5:∀{x:Pl}{L:List (List Nat)},ov L x->(plD x).dep<=L.length+1
 |.tell b,L,_=>by simp only[plD,D.dep,D.depL];omega
 |.ask p x y,L,⟨h,hx,hy⟩=>by have l:=Jq h;have h1:=O5 hx;have h2:=O5 hy;simp only[plD,D.dep,D.depL];omega
theorem Yq:∀x:Pl,vp (plD x)
 |.tell b=>by simp[plD,vp,Jg]
 |.ask p x y=>by have h1:=Yq x;have h2:=Yq y;simp[plD,vp,Jg,h1,h2]
theorem j8o {n:Nat} {L:List (List Nat)} {x:Pl} (h:ov L x) (h6:L.length<=6):evP 1000 G T (n+8) "_law_same" [plD x,plD x]=.val (.bl ag):=Uj j13 7 (by have:=O5 h;omega) (Yq x)
theorem same_str {n:Nat} {x:ao}:evP 1000 G T (n+1) "_law_same" [.str x,.str x]=.val (.bl ag):=Uj j13 0 (by simp[D.dep]) (by simp[vp])
noncomputable def Qc:Option (Pl×List (List Nat))->List D
 |some (x,[])=>[.lst [],plD x]
 |_=>[.lst [.str "NoPlan"],.tup []]
theorem j3g(o:Option (Pl×List (List Nat))):j6q o=.fresh (Qc o):=by
 rcases o with _|⟨x,_|⟨w,r⟩⟩
 .rfl
 .rfl
 .rfl
theorem j51 {n k:Nat} {ps L:List (List Nat)} (h6:L.length<=6):evP 1000 G T (n+9) "_law_same" [.lst (Qc (tk k ps L)),.lst (Qc (tk k ps L))]=.val (.bl ag):=by
 refine Uj j13 8 ?_ ?_
 .cases e:tk k ps L with
  |none=>simp[Qc,D.dep,D.depL]
  |some v =>
   obtain⟨x,r⟩:=v;have:=O5 (j07 e);cases r with
   |nil =>simp only[Qc,D.dep,D.depL];omega
   |cons w r=>simp[Qc,D.dep,D.depL]
 .cases e:tk k ps L with
  |none=>simp[Qc,vp,Jg]
  |some v =>
   obtain⟨x,r⟩:=v;cases r with
   |nil=>simp[Qc,vp,Jg,Yq x]
   |cons w r=>simp[Qc,vp,Jg]
theorem j5p{l:List D}{a b:Option Int}{d:D}(h:d∈cutD l a b):d∈l:=by
 unfold cutD at h
 first
  |exact Xx (Xw h)
  |exact Xw (Xx h)
theorem Lj(S:List (List Nat)):left S []=S:=by unfold left;rw[List.filter_eq_self];intro a _;simp
theorem j6s{ps:List (List Nat)}{a b:Option Int}:∃qs:List (List Nat),cutD (ps.map tx) a b=qs.map tx/\(∀q∈qs,q∈ps)/\qs.length<=ps.length:=by unfold cutD;refine⟨_,by rw[<-ij,<-ig],λq hq=>Xx (Xw hq),?_⟩;rw[Xh,Xf];omega
theorem j9o{sep:ao}{ts:List ao}(h:bq sep ts=ag):Jl sep (ae (.v (.w (ts.map D.str))))=ae (.v (.e (.str (bF sep ts)))):=by simp only[Jl,Rk.d,Zu,h,if_true]
theorem jw {ls:List (List Nat)} (h:∀l∈ls,Pd l) (hl:ls.length<=200):Jl " " (ae (.v (.w (ls.map tx))))=ae (.v (.e (.str (sL (jn ls))))):=by rw[Du,j9o (jOk h hl),Wd]
theorem Nf:∀L:List (List Nat),qi (L.map tx)=ag
 |[]=>rfl
 |x::L=>by simp[qi,vy,Nf L]
theorem j9p{sep:ao}{ts:List ao}(h:bq sep ts=ag):Jl sep (ae (.v (.t (.lst (ts.map D.str)))))=ae (.v (.e (.str (bF sep ts)))):=by simp only[Jl,Rk.d,Zu,h,if_true]
theorem jgo {R:Rc} {qs:List (List Nat)} (h:isL R (qs.map tx)) (hp:∀l∈qs,Pd l) (hl:qs.length<=200):Jl " " (rcT R)=ae (.v (.e (.str (sL (jn qs))))):=by
 rcases h with rfl|rfl
 .rw[jfw (Nf qs)];exact jo hp hl
 .rw[j0l,Du,j9p (jOk hp hl),Wd]
theorem jam{l:List D}{a b:Option Int}:(cutD l a b).length<=l.length:=by unfold cutD;rw[Xh,Xf];omega
theorem jcr{l:List D}{a:D}:Q4 (ae (.a [.o l,.e a]))=ae (.v (.o [.lst l,a])):=Qn rfl (by simp)
noncomputable def depth:Nat:=12
theorem lawTrue:∀ns:List Int,ns.length<=63->evP 1000 G T (depth+1) "law" [.lst (ns.map D.int)]=.val (.bl ag):=by
 intro ns hns;rw[jj (F:=j17) (by rfl) rfl];simp only[j17,j1i,enter,depth];have ce:∀k:Nat,k<=100->evP 1000 G T 12 "_law_cell" [.lst (ns.map D.int),.int (k:Nat)]=.val (.int (qp ns k)):=λk hk=>j3y (n:=11) jgx hk;have c0:evP 1000 G T 12 "_law_cell" [.lst (ns.map D.int),.int 0]=.val (.int (qp ns 0)):=ce 0 nofun
 have c1:evP 1000 G T 12 "_law_cell" [.lst (ns.map D.int),.int 1]=.val (.int (qp ns 1)):=ce 1 nofun
 have c2:evP 1000 G T 12 "_law_cell" [.lst (ns.map D.int),.int 2]=.val (.int (qp ns 2)):=ce 2 nofun
 have c3:evP 1000 G T 12 "_law_cell" [.lst (ns.map D.int),.int 3]=.val (.int (qp ns 3)):=ce 3 nofun
 have c10:evP 1000 G T 12 "_law_cell" [.lst (ns.map D.int),.int 10]=.val (.int (qp ns 10)):=ce 10 nofun
 have c11:evP 1000 G T 12 "_law_cell" [.lst (ns.map D.int),.int 11]=.val (.int (qp ns 11)):=ce 11 nofun
 obtain⟨m,hm,em⟩:∃m:Nat,(1<=m/\m<=6)/\1+qp ns 0%6=(m:Int):=⟨(1+qp ns 0%6).toNat,by omega,by omega⟩
 have wd:evP 1000 G T 12 "_law_words" [.int (qp ns 1),.int m]=.fresh ((Jf (qp ns 1) m).map D.str):=Ez (n:=11) j3a hm;rw[Ds]at wd;have wl:(wL (qp ns 1) m).length=m:=by unfold wL;simp
 have ww:=jaz (c:=qp ns 1) hm.2;have wn:=j4g (c:=qp ns 1) hm.2;generalize wL (qp ns 1) m=L at *;have wp:∀l∈L,Pd l:=λl hl=>Vb (ww l hl);have no:∀w:List Nat,isW w=af->w∉L:=λw h z=>by rw[ww w z]at h;cases h
 obtain⟨pl,ho,ps⟩:=j2f 6 (n:=5) (left:=L) (draw:=qp ns 2%2147483647) nofun
 have ps:evP 1000 G T 12 "_law_plan" [.lst (L.map tx),.int (qp ns 2%2147483647),.int 6]=.val (plD pl):=ps;have pc:evP 1000 G T 12 "_law_pieces" [plD pl]=.fresh ((pcs pl).map tx):=Vu (N:=11) ho nofun nofun
 have sh:evP 1000 G T 12 "plan_shown" [plD pl]=.val (tx (jn (pcs pl))):=Yn (N:=10) ho wp nofun nofun
 have pl1:(pcs pl).length<=127:=by have:=Qv ho;have:=bM (n:=2) (by decide) (show L.length+1<=7 by omega);omega
 have pn:=Mp pl;have pp:∀q∈pcs pl,Pd q:=λq hq=>by
  rcases Wa ho q hq with z|rfl|rfl
  .exact wp q z
  .exact jc7
  .exact jc6
 have rp:∀(n:Nat){s:List D->D},(s=D.tup\/s=D.lst)->evP 1000 G T (n+3) "refuse_wrong_places" [s (L.map tx)]=.val .non:=λn {s} hs=>by
  obtain⟨t,ht⟩:∃t:Bool,(s (L.map tx)).sqv=ae (t,L.map tx):=by
   rcases hs with rfl|rfl
   .exact⟨af,rfl⟩
   .exact⟨ag,rfl⟩
  rw[Y0 (n:=n) (L:=L) ht ⟨by omega,λl hl=>⟨(wp l hl).a,X8 (wp l hl).l (by decide)⟩⟩,if_neg nofun,Nv ww (by simpa using wn)]
 have rd:∀{s:List D->D}{qs:List (List Nat)},(s=D.tup\/s=D.lst)->(∀q∈qs,Pd q)->qs.length<=151->∃Ls:List (List Nat),aA (sL (jn qs)) " " = Ls.map sL/\Ls.length<=151/\∀n:Nat,evP 1000 G T (n+9) "plan_read" [.str (sL (jn qs)),s (L.map tx)]=De (tk 7 Ls L):=λ{s qs} hs h1 h2=>by obtain⟨Ls,e1,e2,e3⟩:=j8i h1 h2;refine⟨Ls,e1,e3,λn=>?_⟩;have b:=Mv h1;rw[j8z (n:=n+7) hs e1 e2 (by rw[z8];omega) nofun (rp (n+5) hs) nofun nofun (no [] (by decide)),Oj (n:=n+7) (m:=7) nofun nofun]
 have rdP:∀{s:List D->D},(s=D.tup\/s=D.lst)->evP 1000 G T 12 "plan_read" [.str (sL (jn (pcs pl))),s (L.map tx)]=.val (plD pl):=λ{s} hs=>by
  obtain⟨Ls,e1,e2,e3⟩:=rd hs pp nofun
  rw[R9 pn λl hl=>(pp l hl).b]at e1;have e4:Ls=pcs pl:=by have:=congrArg (hW λx:ao=>x.cps.toList) e1;rw[Xj,Xj]at this;have f:(λx:ao=>x.cps.toList) ∘ sL=id:=funext λl=>Ul;rw[f,dq,dq]at this;exact this.symm
  have t:=Dv (n:=7) (r:=[]) ho nofun (no [48] (by decide)) (no [49] (by decide))
  rw[Xk]at t;rw[e3 3,e4,t];rfl
 have s1:evP 1000 G T 12 "_law_same" [tx (jn (pcs pl)),tx (jn (pcs pl))]=.val (.bl ag):=same_str (n:=11);have s2:evP 1000 G T 12 "_law_same" [plD pl,plD pl]=.val (.bl ag):=j8o (n:=4) ho nofun
 obtain⟨P,s,hs,hP,eP⟩:∃(P:D)(s:List D->D),(s=D.tup\/s=D.lst)/\P=s (L.map tx)/\atI [D.lst (L.map tx),.tup (L.map tx)] (qp ns 11%2)=ae P:=by
  rcases hZ (qp ns 11)with z|z
  .exact⟨_,D.lst,.inr rfl,rfl,by rw[z];rfl⟩
  .exact⟨_,D.tup,.inl rfl,rfl,by rw[z];rfl⟩
 have jt:=jw pp nofun
 ext;rw[c0];ext;rw[em,c1];ext;erw[wd,c2]
 try rw[Qi (l:=[.lst (L.map tx),.int (qp ns 2%2147483647),.int 6]) rfl]
 erw[ps,pc,jt,c11,jcr,eP]
 try rw[hP]
 ext;erw[sh,s1,rdP hs,s2];rw[c3];have cl:(cutD (ns.map D.int) (ae 4) (ae 10)).length<=63:=X8 jam (by rw[xj];exact hns);have lr:∀{t:ao}{Ls:List (List Nat)},evP 1000 G T 11 "plan_read" [.str t,s (L.map tx)]=De (tk 7 Ls L)->evP 1000 G T 12 "_law_read" [.str t,s (L.map tx)]=.fresh (Qc (tk 7 Ls L)):=λ{t Ls} h=>by rw[<-j3g];exact j0y h
 ext;refine j4u (λ_ ρ=>∃s6 s7 s8:Sv,ρ=[.val (.lst (ns.map D.int)),.val (.lst (L.map tx)),.val (plD pl),.own ((pcs pl).map tx),.val (tx (jn (pcs pl))),.val (s (L.map tx)),s6,s7,s8]) ⟨.un,.un,.un,rfl⟩ ?_ ?_
 .rintro i d ρ hi ⟨s6,s7,s8,rfl⟩;obtain⟨c,rfl⟩:∃c:Int,d=.int c:=by
   have:=Xq hi;rcases km.mp this with z|z
   .exact⟨_,z⟩
   .obtain⟨c,_,z⟩:=Xr.mp (j5p z);exact⟨c,z.symm⟩
  obtain⟨qs,q1,q2,q3⟩:=j3h (n:=11) (c:=c) pp wp (List.length_pos_iff.mpr pn) nofun (L:=L) nofun
  obtain⟨Ls,e1,e2,e3⟩:=rd hs q2 q3;have jq:=jgo q1 q2 nofun
  have b:=Mv q2;have fr:=Nr (S:=L) nofun 10 D.lst [] Ls (.inr rfl) (by rw[Lj];omega) (by simp) nofun
  rw[Lj,Oj (n:=10) (m:=7) nofun nofun]at fr;have du:evP 1000 G T 12 "_law_due" [.str (sL (jn qs)),.lst (L.map tx)]=.fresh (Qc (tk 7 Ls L)):=by rw[<-j3g];exact j6p e1 (by rw[z8];omega) nofun fr
  have sd:evP 1000 G T 12 "_law_same" [.lst (Qc (tk 7 Ls L)),.lst (Qc (tk 7 Ls L))]=.val (.bl ag):=j51 (n:=3) nofun
  simp only[Wj];ext;rw[Ry,jq];ext;erw[lr (e3 2),du];rw[Et (xs:=[.w (Qc (tk 7 Ls L)),.o (Qc (tk 7 Ls L))]) rfl];simp only[X5,bO,Rk.d];rw[sd,j0l];ext;exact⟨_,rfl,_,_,_,rfl⟩
 rintro ρ' ⟨s6,s7,s8,rfl⟩;have li:vg .list (ae (.a [.e (s (L.map tx))]))=ae (.v (.o (L.map tx))):=by rcases hs with rfl|rfl<;>rfl
 have ns':zj .ne (.lst (L.map tx)) (.lst (L.map tx))=ae af:=by
  have:=Rv L;rw[Rw nofun nofun,Qf]
  .rfl
  .omega
 obtain⟨qs,q1,q2,q3⟩:=j6s (ps:=pcs pl) (a:=ah) (b:=ae (-1));have jq:=jo (ls:=qs) (λl hl=>pp l (q2 l hl)) nofun
 have rf:evP 1000 G T 12 "_law_lists_refused" [.str (sL (jn qs)),.lst (L.map tx),.int (qp ns 10)]=.val (.bl ag):=Cr (n:=6) ww wn nofun nofun
 ext;erw[li,ns',q1,jq,c10,rf,rdP hs,s2]
end K19
end
open PySem PySem.W PyProof.Rows
local macro_rules | `(tactic| walk_at "lf") => `(tactic| (refine' L2.lf_mk ?a ?l ?c ?k; (case a => k_is); (case l => k_is); (case c => k_is); (case k => k_is)))
local macro_rules | `(tactic| walk_at "lm") => `(tactic| (refine' L2.lm_mk ?a ?i ?l ?c ?k; (case a => k_is); (case i => k_is); (case l => k_is); (case c => k_is); (case k => k_is)))
set_option Elab.async false
namespace PySem.W.Fast
def tw15156255105536760711:=0
def tw5894195180123023902:=0
def tw13728861852328334455:=0
def tw4309702202860280810:=0
def tw18096536792745737661:=0
def tw10627096133773102236:=0
def tw7910197474945167840:=0
def tw16334314434254617552:=0
def tw11709006494534982411:=0
def tw359540494331418409:=0
def tw8591019192285479069:=0
def tw3310553009806707441:=0
def tw17648273696079936372:=0
def tw16241815395114807074:=0
def tw978060417960377782:=0
def tw18037824245173821238:=0
def tw4176626091523121228:=0
def tw2164313415030400870:=0
def tw15017380027489465656:=0
def tw13552244974553390115:=0
def tw6073204940402920622:=0
def tw15907638144318765713:=0
def tw1883247916618359696:=0
def tw16452941308393506881:=0
def tw5808981027805438974:=0
def tw13369492186279564294:=0
def tw11712642106151537968:=0
def tw384972579018660912:=0
def tw5767938074208506263:=0
def tw14317867069783609783:=0
def tw2447673650732233715:=0
def tw4928592233741717189:=0
def tw10967686659962945460:=0
def tw1825627099884081588:=0
def tw9230179921354524092:=0
def tw409364270307703192:=0
def tw8838149770827504430:=0
def tw16899222280223670757:=0
def tw2368675408195633529:=0
def tw14779383172630506398:=0
def tw10146795901062125259:=0
def tw1898750301707491742:=0
def tw10782177253082459261:=0
def tw4328839066470878915:=0
def tw2731974558097111836:=0
def tw15896945489767602135:=0
def tw8504071180460023961:=0
def tw4200451854867885009:=0
def tw4768213718290287090:=0
def tw6741985499347418035:=0
def tw9419194927145905743:=0
def tw8708764086148971185:=0
def tw13741113566385520468:=0
def tw3547586347007369776:=0
def tw2873489295144320939:=0
def tw4005468074441607567:=0
def tw4756364967880367358:=0
def tw16589073713986690066:=0
def tw9892813110209043665:=0
def tw1609027295837902678:=0
def tw10896016502796413042:=0
def tw10062816933421711609:=0
def tw4731569008668706999:=0
def tw16949868311862521461:=0
def tw10060706450931077819:=0
def tw7662870894888569624:=0
def tw16249094946982833929:=0
def tw2520101365154188855:=0
def tw15344865047414417392:=0
def tw13233574693739752001:=0
def tw8098866134846825864:=0
def tw6006280669572998819:=0
def tw4320354303763783632:=0
def tw7370923994018498769:=0
def tw9102976828082839611:=0
def tw8941265485689670394:=0
def tw3981924766752902166:=0
def tw1188476747854516813:=0
def tw16811610304819351012:=0
def tw11221567093768485837:=0
def tw4402870426330805569:=0
def tw8068952729854931408:=0
def tw17581701769718403677:=0
def tw1353710977313366615:=0
def tw2120666683782366786:=0
def tw18198793997179090983:=0
def tw12140797766825205617:=0
def tw15596781789524685471:=0
def tw7021899551150910886:=0
def tw9769996568519851668:=0
end PySem.W.Fast
set_option maxRecDepth 100000 in
set_option maxHeartbeats 0 in
theorem PySem.Challenge.cw_leastasks_k19_plans_written_and_read_holds : PySem.Challenge.rw_leastasks_k19_plans_written_and_read.Holds := by
  w_on; o_law; k_head; (case hw => w_witness2)
  k_fill
  refine L2.walkL (l := PySem.Challenge.rw_leastasks_k19_plans_written_and_read) (k := L2.lv (K19.depth + 1)) (x := "_law_script") (by decide) rfl rfl (ts := []) (fun w h Y => ⟨PySem.W.kIn_of Y, fun _ h => nomatch h⟩) ?tz ?F
  case tz => intro w; kernel_rfl
  case F =>
    intro w mg fa h KX Gn hmg tz
    refine' K19.head KX Gn hmg ?h0 ?h1 ?h2 ?h3 ?h4 ?h5 ?h6 ?h7 ?h8 ?h9 ?h10 ?h11 ?h12 ?h13 ?h14 ?h15 ?h16 ?h17 ?h18 ?h19 ?h20 ?h21 ?h22 ?h23 ?h24 ?bz tz ?gn0 ?gn1 ?gn2 ?gn3 ?exa ?hpc ?xz K19.lawTrue
    (case h0 => walk_at "lf")
    (case h1 => walk_at "lf")
    (case h2 => walk_at "lf")
    (case h3 => walk_at "lf")
    (case h4 => walk_at "lf")
    (case h5 => walk_at "lf")
    (case h6 => walk_at "lf")
    (case h7 => walk_at "lf")
    (case h8 => walk_at "lf")
    (case h9 => walk_at "lf")
    (case h10 => walk_at "lf")
    (case h11 => walk_at "lf")
    (case h12 => walk_at "lf")
    (case h13 => walk_at "lf")
    (case h14 => walk_at "lf")
    (case h15 => walk_at "lf")
    (case h16 => walk_at "lf")
    (case h17 => walk_at "lf")
    (case h18 => walk_at "lf")
    (case h19 => walk_at "lf")
    (case h20 => walk_at "lf")
    (case h21 => walk_at "lf")
    (case h22 => walk_at "lf")
    (case h23 => walk_at "lf")
    (case h24 => walk_at "lf")
    (case gn0 => k_is)
    (case gn1 => k_is)
    (case gn2 => k_is)
    (case gn3 => k_is)
    (case bz => kernel_rfl)
    (case exa => kernel_rfl)
    (case xz => kernel_rfl)
    (case hpc => (refine' L2.PcH.mk ?at_ ?pg ?hd ?po ?sa ?mk_ ?kc ?nS ?nP ?mI ?mA ?mT ?mL; (case at_ => k_is); (case pg => k_is); (case hd => k_is); (case po => k_is); (case sa => k_is); (case mk_ => k_is); (case kc => k_is); (case nS => k_is); (case nP => k_is); (case mI => walk_at "lm"); (case mA => walk_at "lm"); (case mT => walk_at "lm"); (case mL => walk_at "lm")))
#print axioms PySem.Challenge.cw_leastasks_k19_plans_written_and_read_holds