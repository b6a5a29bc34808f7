import PyProof.Rows.All
import Wide.All
import OpenK.AllK
import Wide.FinOn
import PyProof.ReprLen
import Lean
import PyProof.EqAt
import PyProof.EqKinds
import PyProof.TupleCall
import PyProof.Rows.SetFrom
import KE.KDictList
import KE.KMinKey
import PyProof.ListRange
import KE.KIntText
import PyProof.ReprRoads
import KE.KSortAsk
import KE.KSortTup
import KE.KRevIter
import PyProof.TupleOfGen
import PyProof.StrBlockL
import PySem.Challenge.RW_leastasks_k04_told_further
set_option Elab.async false
set_option linter.all false
set_option maxRecDepth 100000
set_option maxHeartbeats 4000000
set_option genSizeOf false
set_option genInjectivity false
open Option renaming some→a5,none→a7,isSome_some→dm,join_some→fW,getD_none→fX,map_none→gm,any_none→gn,bind→hR
open Bool renaming false→a6,true→a8,or_eq_true→bO,eq_iff_iff→d8,or_false→dt,and_false→eR,false_or→f9,and_true→hV,or_true→ij
open PySem renaming Value→a9,starEach→aa,Shared→ae,Addr→af,Str→ag,Expr→ah,sizeLine→ai,mainGlobals→aj,Program→ak,wpAny_bind→ao,model→ar,wpAny→aw,World→ax,Around→az,wpAny_pure→aC,Heap→aD,eval→aG,FuncData→aH,behindInMarks→aJ,cellsFrom→aK,Stmt→aM,Pos→aN,foldedSetIterable→aQ,backTo→aS,wpAny_mono→aT,bootBuiltins→aU,binaryOp→aV,compareOp→aW,cLine→aX,swapsWith→aZ,sizeLine_eq→ba,Scope→bg,wpAny_Call_Name_kw→bj,NameKind→bo,recursionLimit→bx,wpAny_truthy_bool→bE,codeAny→bR,wpAny_newObj_type→bW,codeAny_mono→bX,bindArgs→bY,Obj→c7,Env→c8,sliceBounds→cj,wpAny_passesOwn→cx,Keyword→cC,noteFrame→cH,call_meets→cL,builtinsNs→cM,wpAny_pyIter_list→cW,keywordEach→cX,attributeBase→d5,draw→d9,letOwnedTupleGo→dk,newFunctionEnv→dz,intItems→dB,Result→dC,IsPart→dD,GenState→dE,Builtin→dH,typeIs_int→dS,isTrue→dU,wpAny_loadPart_at→eF,intText?→eG,concat_meets→eI,callerA→eJ,boot_len→eK,backToKw→eL,BindsTo→eM,noFill_tuple_add→eS,PassesOwn→eT,wpAny_field→eW,numAt→eX,CmpOp→eY,wpAny_newFunctionEnv_cells→fv,assign→fw,wpAny_binaryOp_repeat_ref→fy,wpAny_holding→fE,wpAny_comprehension_free→fF,seq_tuple_add→fG,call→fH,pushCells→fP,bindL→fQ,bindC→fR,Model→fS,Arguments→fU,wpAny_noteFrame_againW→gf,seqSlot_of→gh,getItem→gj,wpAny_setFlight_noneW→gw,wpAny_isTrue_Compare1→gx,codeAny_call_function→gy,Sem→gz,lookup_relabel_local→gF,intItems_at→gG,codeAny_call_builtin→gH,Operator→gI,wpAny_pyIter_tuple→gU,wpAny_call→gW,wpAny_Name→gX,typeIs_str→gY,sysModules→gZ,wpAny_assign_Name→i0,standAt→i3,relabel→i4,holding→i5,call_sum_walkAnyS→i6,argBest→i7,again→i8,Tok→i9,wpAny_eqBool_int→iC,wpAny_call_entry→iD,setFlight→iE,rule→iF,checkBuiltinCall→iG,DictEntry→iH,wpAny_execs_nil→j3,pushCells_keeps→ja,wpAny_Compare1→jD,pyIter→jE,compEnvC→jF,Params→jG,wpAny_standAt→jJ,wpAny_newList→jK,wpAny_attempt→jL,intBits_le_64→jM,evalPart_none→jN,call_list_seq→jO
open List renaming replicate→aq,range→aE,foldl→bu,toArray→bF,getElem_mem→bG,map_congr_left→bK,filterMap_cons→bL,foldl_cons→bN,set_cons_zero→bP,getElem?_toArray→bU,any_cons→bZ,of_mem_zip→c9,length_set→cb,getElem?_range→cf,set_cons_succ→cq,getElem?_append_right→cu,getElem?_set→cD,ext_getElem?→cE,append_assoc→cF,not_mem_nil→cR,length_drop→cS,range_succ_eq_map→cZ,getElem?_set_ne→df,map_replicate→dw,take_length→dQ,range'→dX,nil_append→dY,length_nil→dZ,drop_zero→eQ,mem_of_find?_eq_some→eU,all_cons→eZ,getElem?_cons_succ→fb,take_of_length_le→fg,map_nil→fh,getElem?_set_self→fi,length_replicate→fx,getElem?_mapIdx→fB,mem_map_of_mem→fK,filter_append→fY,take_add_one→gp,reverse_cons→gq,cons_append→gB,any_toArray→gC,find?_some→gJ,range_add→gP,nodup_nil→gQ,any_nil→ic,all_map→ie
open PySem.W renaming kasC_bind→au,kas_item→ay,kasC_pure→aA,kasC→cc,OpenLaw→cG,kas_item_eq→cV,mg_of→eB,kasC_get→eC,findIn→fk,WalkO→fD,nsIn→fZ,looks_findIn→g6,KitX→gD,kasC_range→gR,kasC_lift→ik,Frag→jC
open Option.some renaming inj→aB
open PySem.Value renaming ref→aF,none→aI,type→bb,int→bh,str→bp,bool→bD,builtin→cA
open Array renaming map→aL,toList_append→bJ,getElem?_map→cn,toList_map→cO,append_inj_right→cU,getD_eq_getD_getElem?→eA,getElem?_eq_none→fc,getElem?_toList→fj,getD→fN,toList→hW
open False renaming elim→aO
open PyProof.Rows renaming SortSt→aP,seqObj→b9,envOfC→bf,pairsOf→br,IntsAre→cg,boot_isinstance→cy,Keyed→cN,AllBare→cY,FormattedValue_plain→dF,SortKind→eN,tuples'→ff,IsTup→fV,subscriptTail_builtinR→gk,slot_tuple_getitem→hJ,get?_update_seq→jv,slicePart_none→jH,arrOf→jI,subscriptTail→jP,listUpdate_at→jQ
open PySem.Obj renaming mapSeq→aR
open Or renaming inl→aY,inr→bM
open PySem.NameKind renaming free→b8,cell→bq
open PySem.Builtin.Slice renaming slicePlaces→bA,sliceAdjust→bV,sliceApplied→dr,slicePartIndex→iA,sliceFields→iB
open PySem.Builtin.Tuple renaming tupleExact→bB,tupleTooMany→dq,tupleItemsOf→iz
open PySem.Builtin.List renaming listTooLong→bC
open ForInStep renaming yield→bH
open Nat renaming zero_add→bI,zero_le→cI,lt_succ_of_lt→cJ,ne_of_gt→d6,le_of_lt→d7,lt_of_le_of_lt→dG,mul_comm→dN,lt_succ_self→dW,pow_le_pow_right→fJ,min_eq_left→gO,succ_mul→iI,pow_succ→iJ,min_self→iK,le_of_eq→iL,log2_lt→jA
open PySem.Heap renaming size_push→bQ,SameBut→fe,get?_push_ne→gc
open Int renaming zero_add→bS,natCast_add→eO,fdiv_eq_ediv_of_nonneg→eV,add_mul_ediv_left→fC,pow_pos→fM,natCast_nonneg→gr,mul_assoc→ig,pow_succ→iM,ne_of_gt→iN,le_refl→jB
open PySem.Txt renaming split→bT,slice→dn,mul→g9
open PySem.F renaming args_tuple_add_2→cw,entry_tuple_add→cB,slot_tuple_add→cK,slot_int_rmul→de,excBase_ValueError→dR,plainAttrs_list→eP,slot_list_extend→fm,slot_list_append→fq,typeOf_object_class→fO,args_tuple_mul_2→gE,entry_tuple_mul→gL,args_int_rmul_2→gM,slot_tuple_mul→gS,entry_int_rmul→gT,fills_int_mul→hZ
open Classical renaming propDecidable→cz
open PySem.PyData renaming int→cP,showableAll→dj,hasDictAll→du,depthAll→dO,showable→gb,hasDict→gv,depth→gK
open PyProof.Rows.SortSt renaming mk'→cQ
open PySem.SeqAt renaming EqAt→cT,RcAt→eD
open PySem.Str renaming ofString→d4,empty→di,cps→gu
open PySem.PassesOwn renaming leaving→dh
open Sum renaming inr→dJ,inl→dM
open Ne renaming symm→dP
open PySem.Calls renaming Name_function_global→eE,evalArgs_plain→ft
open PySem.EqMixed renaming ne_str_int→il,ne_str_bool→ip,ne_int_str→iq,ne_bool_str→ir,eq_str_int→iu,eq_str_bool→iv,eq_int_str→iw,eq_bool_str→iy
open PySem.EqNone renaming ne_str_none→iO,ne_none_str→iP,ne_none_none→iQ,ne_none_int→iR,ne_none_bool→iS,ne_int_none→iT,ne_bool_none→iU,eq_str_none→iV,eq_none_str→iW,eq_none_none→iX,eq_none_int→iY,eq_none_bool→iZ,eq_int_none→j1,eq_bool_none→j2
def kh:=@List.getElem?_eq_getElem
def kj:=@List.getD_eq_getElem?_getD
def km:=@List.mem_cons_of_mem
def xf:=@List.mem_cons
def xg:=@PySem.Heap.lt_size
def xj:=@List.mem_cons_self
def xm:=@List.size_toArray
def xn:=@List.length_map
def xq:=@PySem.Heap.get?_push_of_some
def xr:=@Bool.false_ne_true
def xu:=@List.mem_singleton
def xx:=@Nat.le_refl
def X3:=@List.getElem?_map
def X4:=@Bool.and_eq_true
def X5:=@List.length_cons
def X6:=@Nat.ne_of_lt
def X7:=@Nat.lt_of_lt_of_le
def X8:=@List.mem_append_right
def Xa:=@List.lookup_cons
def Xb:=@List.getElem?_eq_some_iff
def Xc:=@PySem.Heap.get?_push_size
def Xd:=@Nat.le_trans
def Xe:=@List.length_append
def Xf:=@Option.isSome_iff_exists
def Xg:=@List.nodup_cons
def Xh:=@List.all_eq_true
def Xi:=@List.map_cons
def Xj:=@List.mem_of_getElem?
def Xk:=@List.mem_map
def Xl:=@Nat.lt_irrefl
def Xm:=@List.mem_append_left
def Xn:=@List.append_nil
def Xo:=@PySem.mem_of_lookup
def Xp:=@Nat.lt_trans
def Xq:=@Nat.le_succ
def Xr:=@List.getElem?_append_left
def Xu:=@List.getElem?_eq_none
def Xv:=@List.mem_filterMap
def Xw:=@List.replicate_succ
def Xx:=@Option.map_eq_some_iff
def Xy:=@List.length_take
def Xz:=@List.mem_range
def ph:=@PySem.W.hideAll_none
def pq:=@Bool.false_eq_true
def P0:=@Array.size_map
def Pa:=@List.map_map
def Pb:=@PySem.PassesOwn.never
def Pg:=@Array.length_toList
def Ph:=@Option.getD_some
def Pj:=@List.mem_replicate
def Pk:=@List.map_append
def Pn:=@Option.map_some
def Pr:=@Int.toNat_natCast
def Pu:=@List.flatten_cons
def Py:=@List.length_range
def Pz:=@Nat.lt_of_succ_le
def k4m:=@And.intro
abbrev k4n:=jC
abbrev k4o:=a9→ae→Prop
abbrev k4p:=List (af×c7)
abbrev k4q:=ag→Option a9
abbrev k4r:=("__debug__":ag)
abbrev k4s:=("__classdict__":ag)
local macro_rules | `(tactic| omega)=>`(tactic| first | with_reducible assumption | with_reducible exact Nat.le_of_lt (by assumption) | with_reducible exact Nat.le_refl _ | lia)
local macro_rules | `(nofun)=>`(by omega)
section
namespace L2
open PySem PySem.Spec PyProof.Rows
noncomputable abbrev Key:=Sum Int ag
noncomputable def j2s:Key->a9->Bool
 |.inl k,v=>Value.isInt k v
 |.inr x,v=>Value.isStrOf x v
noncomputable def jcg(w:ax):Key->Int
 |.inl k=>hashInt k
 |.inr x=>hashStr w x
theorem zb:∀{k:Key}{v:a9},j2s k v=a8->(∃i t,k=dM i/\v=bh i t)\/(∃x t,k=dJ x/\v=bp x t)
 |.inl i,v,h=>by obtain⟨t,e⟩:=Value.isInt_shape (k:=i) (v:=v) h;exact .inl ⟨i,t,rfl,e⟩
 |.inr x,v,h=>by obtain⟨t,e⟩:=Value.isStrOf_shape (x:=x) (v:=v) h;exact .inr ⟨x,t,rfl,e⟩
theorem j7g(a b:Int):decide ((dM a:Key)=dM b)=(a==b):=by
 by_cases e:a=b
 .subst e;simp
 .have h:¬(dM a:Key)=dM b:=λq=>e (Sum.inl.inj q);rw[decide_eq_false h];exact(beq_eq_false_iff_ne.mpr e).symm
theorem j7d(a b:ag):decide ((dJ a:Key)=dJ b)=decide (a=b):=by
 by_cases e:a=b
 .subst e;simp
 .have h:¬(dJ a:Key)=dJ b:=λq=>e (Sum.inr.inj q);rw[decide_eq_false h,decide_eq_false e]
theorem j7f(a:Int)(b:ag):decide ((dM a:Key)=dJ b)=a6:=decide_eq_false (λq=>nomatch q)
theorem j7e(a:ag)(b:Int):decide ((dJ a:Key)=dM b)=a6:=decide_eq_false (λq=>nomatch q)
noncomputable def By(prog:ak)(w:ax):PySem.KeyKind prog w Key where
 is:=j2s
 hash:=jcg w
 inj:=λv a b ha hb=>by
  rcases zb ha with ⟨i,t,rfl,rfl⟩|⟨x,t,rfl,rfl⟩
  .rcases zb hb with ⟨j,u,rfl,e⟩|⟨y,u,rfl,e⟩
   .injection e with e1 _;rw[e1]
   .exact nomatch e
  .rcases zb hb with ⟨j,u,rfl,e⟩|⟨y,u,rfl,e⟩
   .exact nomatch e
   .injection e with e1 _;rw[e1]
 byValue:=λk v h=>by rcases zb h with ⟨i,t,rfl,rfl⟩|⟨x,t,rfl,rfl⟩<;>rfl
 pyHash:=λhv h=>by
  rcases zb hv with ⟨i,t,rfl,rfl⟩|⟨x,t,rfl,rfl⟩
  .exact wpAny_pyHash_int h
  .exact wpAny_pyHash_str h
 eqBool:=λhu hv h=>by
  rcases zb hu with ⟨i,t,rfl,rfl⟩|⟨x,t,rfl,rfl⟩
  .rcases zb hv with ⟨j,u,rfl,rfl⟩|⟨y,u,rfl,rfl⟩
   .rw[j7g]at h;exact iC h
   .rw[j7f]at h;exact SeqAt.EqAt.int_str i t y u _ _ _ _ h
  .rcases zb hv with ⟨j,u,rfl,rfl⟩|⟨y,u,rfl,rfl⟩
   .rw[j7e]at h;exact SeqAt.EqAt.str_int x t j u _ _ _ _ h
   .rw[j7d]at h;exact wpAny_eqBool_str h
 «strs»:=λk x t v h=>by
  rcases zb h with ⟨i,u,rfl,e⟩|⟨y,u,rfl,e⟩
  .exact nomatch e
  .injection e with e1 _;subst e1;cases v<;>rfl
set_option genInjectivity true in
inductive V where
 |non|bl (b:Bool)|int (i:Int)|str (x:ag)|byt (b:Array UInt8)|flt (b:UInt64)|ref (a:af)|ty (n:String)
 deriving DecidableEq
def RelV:V->a9->Prop
 |.non,u=>u=aI
 |.bl b,u=>u=bD b
 |.int i,u=>∃t,u=bh i t
 |.str x,u=>∃t,u=bp x t
 |.byt b,u=>∃t,u=Value.bytes b t
 |.flt b,u=>∃t,u=Value.float b t
 |.ref a,u=>u=aF a
 |.ty n,u=>u=bb n
abbrev Vals:List V->List a9->Prop:=Paired RelV
theorem Vals.length{xs:List V}{us:List a9}(r:Vals xs us):xs.length=us.length:=Paired.length r
theorem Vals.get:∀{xs:List V}{us:List a9}{i:Nat}{x:V},Vals xs us->xs[i]?=a5 x->∃u,us[i]?=a5 u/\RelV x u
 |_,_,_,_,.nil,e=>by simp at e
 |_,_,0,_,.cons r _,e=>by simp at e;subst e;exact⟨_,rfl,r⟩
 |_,_,i+1,x,.cons _ t,e=>by obtain⟨u,h1,h2⟩:=Vals.get (i:=i) (x:=x) t (by simpa using e);exact⟨u,by simpa using h1,h2⟩
theorem Vals.append:∀{xs ys:List V}{us ws:List a9},Vals xs us->Vals ys ws->Vals (xs++ys) (us++ws)
 |_,_,_,_,.nil,s=>s
 |_,_,_,_,.cons r t,s=>.cons r (Vals.append t s)
theorem Vals.take:∀{xs:List V}{us:List a9}(n:Nat),Vals xs us->Vals (xs.take n) (us.take n)
 |_,_,0,_=>.nil
 |_,_,_+1,.nil=>.nil
 |_,_,n+1,.cons r t=>.cons r (Vals.take n t)
theorem Vals.drop:∀{xs:List V}{us:List a9}(n:Nat),Vals xs us->Vals (xs.drop n) (us.drop n)
 |_,_,0,r=>r
 |_,_,_+1,.nil=>.nil
 |_,_,n+1,.cons _ t=>Vals.drop n t
def j90:Option V->Option a9->Prop
 |some v,a5 u=>RelV v u
 |none,a7=>True
 |_,_=>False
def KV{κ:Type}:List (κ×V)->List (κ×a9)->Prop:=Paired λ(p:κ×V) (q:κ×a9)=>p.1=q.1/\RelV p.2 q.2
noncomputable def kV:Key->V
 |.inl i=>.int i
 |.inr x=>.str x
inductive HO where
 |lst (xs:List V)
 |tup (xs:List V)
 |dK (kvs:List (Key×V))|dT (kvs:List (List Key×V))
 |dI (xs:List (List Int×af×a9)) (ep:Nat)
 |set (S:Int->Bool) (n:Nat)
 |ins (C dx:af) (fs:List (ag×V))
 |own (x:af)
 |xd (fs:List (ag×V))
 |met (f x:af)
 |rng (lo hi:Int)
 |frz (o:c7) (u:HO)
 |tbl (ps:Array a9)
 |cod (q:ag)
 |ext (φ:aD->Prop)
noncomputable abbrev Hp:=af->Option HO
noncomputable def upd(H:Hp)(a:af)(o:HO):Hp:=λb=>if b=a then a5 o else H b
theorem jr{H:Hp}{a:af}{o:HO}:upd H a o a=a5 o:=by unfold upd;rw[if_pos rfl]
theorem jf{H:Hp}{a b:af}{o:HO}(h:b≠a):upd H a o b=H b:=by unfold upd;rw[if_neg h]
theorem vg{H:Hp}{a b:af}{o:HO}(h:H a=a5 o)(h':H b=a7):a≠b:=by intro e;subst e;rw[h]at h';cases h'
def V3(h:aD)(a:af):Prop:=∀o,h.get? a=a5 o->o.dict=a7
theorem V3.new(h:aD)(xs:Array a9):V3 (h.push { cls:=.type "tuple",data:=.seq xs }) h.objs.size:=λo e=>by have z:(h.push { cls:=.type "tuple",data:=.seq xs }).get? h.objs.size=a5 { cls:=.type "tuple",data:=.seq xs }:=Xc _ rfl;rw[z]at e;cases e;rfl
def Du(o:c7)(q:ag):Prop:=∃(vs:Array a9)(t:i9),o.data=.fields vs/\vs[1]?=a5 (.str q t)
section
variable(P:ak)(w:ax)
def ji(H:Hp)(h:aD)(a:af):HO->Prop
 |.lst xs=>xs.length<=ai/\∃(its:List a9)(n:Nat),Vals xs its/\h.get? a=a5 { cls:=.type "list",data:=.seq its.toArray n }
 |.tup xs=>xs.length<=ai/\∃its:List a9,Vals xs its/\fV h a its.toArray/\V3 h a
 |.dK kvs=>kvs.length<=ai/\(a==gZ)=a6/\∃vs,KV kvs vs/\h.DictOf (By P w) a vs
 |.dT kvs=>kvs.length<=ai/\(a==gZ)=a6/\∃xs:List (List Key×af×a9),
   Paired (λ(p:List Key×V) (q:List Key×af×a9)=>p.1=q.1/\H q.2.1=a5 (.tup (p.1.map kV))/\RelV p.2 q.2.2) kvs xs /\
   ∃o es ep,h.get? a=a5 o/\o.ExactDict/\o.data=.dict es ep/\es.toList=xs.map (entryOfKey (tupleKind (By P w)))/\(xs.map (·.1)).Nodup
 |.dI xs ep=>xs.length<=ai/\(a==gZ)=a6/\(xs.map λx=>x.1).Nodup/\∃(o:c7)(es:Array iH),h.get? a=a5 o/\o.ExactDict/\o.data=.dict es ep/\es.toList=xs.map (entryOfKey (tupleKind (intKind P w)))
 |.set S n=>h.SetOf (intKind P w) a S n
 |.ins C dx fs=>H dx=a5 (.own a)/\fs.length<=1000/\dx≠a/\h.get? a=a5 (W.instObj C dx) /\
   ∃mA,h.Ns1 dx mA/\(∀f,j90 (fs.lookup f) (mA f))/\PySem.Within mA (fs.map (·.1))
 |.own _=>∃o,h.get? a=a5 o
 |.xd fs=>∃mA,h.Ns1 a mA/\∀f,j90 (fs.lookup f) (mA f)
 |.rng lo hi=>∃t u v,h.get? a=a5 { cls:=.type "range",data:=.fields #[.int lo t,.int hi u,.int 1 v] }
 |.frz o u=>h.get? a=a5 o/\ji H h a u
 |.tbl ps=>h.get? a=a5 { cls:=.none,data:=.fields ps }
 |.cod q=>∃ps:Array a9,h.get? a=a5 (W.tabObj ps)/\TriplesOk ps.toList/\∀pos cv,codeAmong pos ps.toList=a5 cv->∃(c:af)(oc:c7),cv=.ref c/\H c=a5 (.frz oc (.own 0))/\Du oc q
 |.met f x=>h.get? a=a5 (W.methodObj (.ref f) (.ref x))
 |.ext φ=>φ h/\(∃o,h.get? a=a5 o)/\∀h1 h2:aD,φ h1->(∀o,h1.get? a=a5 o->h2.get? a=a5 o)->φ h2
def HOk(H:Hp)(h:aD):Prop:=∀a o,H a=a5 o->ji P w H h a o
end
section
variable{P:ak}{w:ax}{H H':Hp}{h h':aD}{a:af}{o:HO}
theorem ji.lt(x:ji P w H h a o):a<h.objs.size:=by
 cases o with
 |lst xs=>obtain⟨_,_,_,_,e⟩:=x;exact xg e
 |tup xs=>obtain⟨_,_,_,p,_⟩:=x;exact p.lt
 |dK kvs=>obtain⟨_,_,_,_,o,_,_,e,_⟩:=x;exact xg e
 |dT kvs=>obtain⟨_,_,_,_,o,_,_,e,_⟩:=x;exact xg e
 |dI xs ep=>obtain⟨_,_,_,o,_,e,_⟩:=x;exact xg e
 |set S n=>obtain⟨o,_,_,_,e,_⟩:=x;exact xg e
 |ins C dx fs=>obtain⟨_,_,_,e,_⟩:=x;exact xg e
 |own y=>obtain⟨_,e⟩:=x;exact xg e
 |xd fs=>obtain⟨_,⟨_,_,_,e,_⟩,_⟩:=x;exact xg e
 |rng lo hi=>obtain⟨_,_,_,e⟩:=x;exact xg e
 |frz ob u=>obtain⟨e,_⟩:=x;exact xg e
 |tbl ps=>exact xg (show h.get? a=a5 _ from x)
 |cod q=>obtain⟨_,e,_⟩:=x;exact xg e
 |met f y=>exact xg (show h.get? a=a5 _ from x)
 |ext φ=>obtain⟨_,⟨_,e⟩,_⟩:=x;exact xg e
theorem Paired.mapP{α β:Type}{F G:α->β->Prop}:∀{l₁:List α}{l₂:List β},Paired F l₁ l₂->(∀a b,F a b->G a b)->Paired G l₁ l₂
 |_,_,.nil,_=>.nil
 |_,_,.cons r t,f=>.cons (f _ _ r) (Paired.mapP t f)
theorem ji.stay(x:ji P w H h a o)(k:∀b u,(b=a\/H b=a5 (.own a))->h.get? b=a5 u->h'.get? b=a5 u)
  (ho:∀b,H b=a5 (.own a)->H' b=a5 (.own a)) (ht:∀b xs,H b=a5 (.tup xs)->H' b=a5 (.tup xs)) (hz:∀b o,(∃vs,o.data=.fields vs)->H b=a5 (.frz o (.own 0))->H' b=a5 (.frz o (.own 0))):ji P w H' h' a o:=by
 induction o with
 |lst xs=>obtain⟨z,its,n,r,e⟩:=x;exact⟨z,its,n,r,k _ _ (.inl rfl) e⟩
 |tup xs =>obtain⟨z,its,r,⟨ob,e,c⟩,nd⟩:=x;refine⟨z,its,r,⟨ob,k _ _ (.inl rfl) e,c⟩,λo q=>?_⟩;rw[k _ _ (.inl rfl) e]at q;cases q;exact nd _ e
 |dK kvs=>obtain⟨z,y,vs,r,ob,es,ep,e,c⟩:=x;exact⟨z,y,vs,r,ob,es,ep,k _ _ (.inl rfl) e,c⟩
 |dT kvs =>obtain⟨z,y,xs,r,ob,es,ep,e,c⟩:=x;exact⟨z,y,xs,Paired.mapP r λp q z=>⟨z.1,ht _ _ z.2.1,z.2.2⟩,ob,es,ep,k _ _ (.inl rfl) e,c⟩
 |dI xs ep=>obtain⟨z,y,nd,ob,es,e,c⟩:=x;exact⟨z,y,nd,ob,es,k _ _ (.inl rfl) e,c⟩
 |set S n=>obtain⟨ob,es,ep,t,e,c⟩:=x;exact⟨ob,es,ep,t,k _ _ (.inl rfl) e,c⟩
 |ins C dx fs =>obtain⟨d,z,ne,e,mA,⟨od,es,ep,e2,c⟩,r⟩:=x;exact⟨ho _ d,z,ne,k _ _ (.inl rfl) e,mA,⟨od,es,ep,k _ _ (.inr d) e2,c⟩,r⟩
 |own y=>obtain⟨ob,e⟩:=x;exact⟨ob,k _ _ (.inl rfl) e⟩
 |xd fs=>obtain⟨mA,⟨od,es,ep,e,c⟩,r⟩:=x;exact⟨mA,⟨od,es,ep,k _ _ (.inl rfl) e,c⟩,r⟩
 |rng lo hi=>obtain⟨t,u,v,e⟩:=x;exact⟨t,u,v,k _ _ (.inl rfl) e⟩
 |frz ob u ih=>obtain⟨e,q⟩:=x;exact⟨k _ _ (.inl rfl) e,ih q⟩
 |tbl ps =>have e:h.get? a=a5 { cls:=.none,data:=.fields ps }:=x;show h'.get? a=a5 { cls:=.none,data:=.fields ps };exact k a _ (.inl rfl) e
 |cod q=>obtain⟨ps,e,t,c⟩:=x;exact⟨ps,k _ _ (.inl rfl) e,t,λpos cv z=>let ⟨c,oc,e1,e2,e3⟩:=c pos cv z;⟨c,oc,e1,hz _ _ (let ⟨vs,_,z,_⟩:=e3;⟨vs,z⟩) e2,e3⟩⟩
 |met f y =>have e:h.get? a=a5 (W.methodObj (.ref f) (.ref y)):=x;show h'.get? a=a5 (W.methodObj (.ref f) (.ref y));exact k a _ (.inl rfl) e
 |ext φ=>obtain⟨p,⟨o,e⟩,st⟩:=x;exact⟨st _ _ p λo q=>k _ _ (.inl rfl) q,⟨o,k _ _ (.inl rfl) e⟩,st⟩
theorem HOk.lt(x:HOk P w H h)(e:H a=a5 o):a<h.objs.size:=(x a o e).lt
theorem HOk.fresh(x:HOk P w H h)(e:h.objs.size<=a):H a=a7:=by
 cases q:H a with
 |none=>rfl
 |some u=>exact absurd (X7 (x.lt q) e) (Xl _)
theorem HOk.kept(x:HOk P w H h)(k:∀b u,h.get? b=a5 u->h'.get? b=a5 u):HOk P w H h':=λa o e =>(x a o e).stay (λb u _ q=>k b u q) (λ_ q=>q) (λ_ _ q=>q) λ_ _ _ q=>q
theorem HOk.laid(x:HOk P w H h)(k:∀b u,h.get? b=a5 u->h'.get? b=a5 u)(hp:h.objs.size<=a)(new:ji P w (upd H a o) h' a o):HOk P w (upd H a o) h':=λb u e=>by
 have hn:=x.fresh hp;by_cases hb:b=a
 .subst hb;rw[jr]at e;cases e;exact new
 .rw[jf hb]at e;exact(x b u e).stay (λc v _ q=>k c v q) (λc q=>by rw[jf (vg q hn)];exact q) (λc xs q=>by rw[jf (vg q hn)];exact q) λc _ _ q=>by rw[jf (vg q hn)];exact q
end
def Rd(H:Hp)(a:af)(u:HO):Prop:=H a=a5 u\/∃o,H a=a5 (.frz o u)
theorem Rd.ok{P:ak}{w:ax}{H:Hp}{h:aD}{a:af}{u:HO}(r:Rd H a u)(x:HOk P w H h):ji P w H h a u:=by
 rcases r with r|⟨o,r⟩
 .exact x a u r
 .obtain⟨_,q⟩:=x a _ r;exact q
def Mut:Option HO->Prop
 |some (.lst _)=>True
 |some (.dK _)=>True
 |some (.dT _)=>True
 |some (.dI _ _)=>True
 |some (.set _ _)=>True
 |some (.ins _ _ _)=>True
 |some (.ext _)=>True
 |some (.cod _)=>True
 |_=>False
section
variable{P:ak}{w:ax}{H:Hp}{h h':aD}{x e:af}{o':HO}
theorem HOk.write(ok:HOk P w H h)(mu:Mut (H x))(he:e=x\/H e=a5 (.own x))(k:∀b u,b≠e->h.get? b=a5 u->h'.get? b=a5 u)(heo:∃u,h'.get? e=a5 u)
  (new:ji P w (upd H x o') h' x o'):HOk P w (upd H x o') h':=λb u q=>by
 have nown:∀c y,H c=a5 (.own y)->c≠x:=λc y r z=>by subst z;rw[r]at mu;exact mu
 have ntup:∀c xs,H c=a5 (.tup xs)->c≠x:=λc xs r z=>by subst z;rw[r]at mu;exact mu
 have nfrz:∀c o u,H c=a5 (.frz o u)->c≠x:=λc o u r z=>by subst z;rw[r]at mu;exact mu
 by_cases hb:b=x
 .subst hb;rw[jr]at q;cases q;exact new
 .rw[jf hb]at q;by_cases hbe:b=e
  .have q':H b=a5 (.own x):=by
    rcases he with z|z
    .exact absurd (hbe.trans z) hb
    .rw[hbe];exact z
   rw[q]at q';cases q';obtain⟨v,hv⟩:=heo;exact⟨v,by rw[hbe];exact hv⟩
  .refine(ok b u q).stay (λc v hc r=>k c v ?_ r) (λc r=>by rw[jf (nown c b r)];exact r) (λc xs r=>by rw[jf (ntup c xs r)];exact r) λc o _ r=>by rw[jf (nfrz c o _ r)];exact r
   rcases hc with rfl|hc
   .exact hbe
   .rintro rfl;rcases he with z|z
    .exact nown c b hc z
    .rw[hc]at z;cases z;exact hb rfl
end
structure Un(fs ex:List af)(H H':Hp)(h h':aD):Prop where
 keep:∀b o,h.get? b=a5 o->H b=a7->b∉fs->b∉ex->h'.get? b=a5 o
 slot:∀b o,h.get? b=a5 o->H b=a7->b∈fs->b∉ex->∃sl,h'.get? b=a5 { o with slots:=sl }
 free:∀b o,h.get? b=a5 o->H b=a7->b∉ex->H' b=a7
 there:∀b o,h.get? b=a5 o->b∉ex->∃o',h'.get? b=a5 o'
 tups:∀b xs,H b=a5 (.tup xs)->H' b=a5 (.tup xs)
 frzs:∀b o u,H b=a5 (.frz o u)->H' b=a5 (.frz o u)
 tbls:∀b ps,H b=a5 (.tbl ps)->∃more,H' b=a5 (.tbl (ps++more))
section
variable{fs fs' ex ex':List af}{H H1 H2:Hp}{h h1 h2 h':aD}{a x e:af}{o:HO}
theorem Un.any(u:Un fs ex H H1 h h1){b:af}{ob:c7}(q:h.get? b=a5 ob)(n:H b=a7)(hx:b∉ex):∃sl,h1.get? b=a5 { ob with slots:=sl }:=by
 by_cases hb:b∈fs
 .exact u.slot b ob q n hb hx
 .exact⟨ob.slots,u.keep b ob q n hb hx⟩
theorem Un.kept(k:∀b u,h.get? b=a5 u->h'.get? b=a5 u):Un fs ex H H h h' :=
 ⟨λb ob q _ _ _=>k b ob q,λb ob q _ _ _=>⟨ob.slots,k b ob q⟩,λ_ _ _ n _=>n,λb ob q _=>⟨ob,k b ob q⟩,λ_ _ q=>q,λ_ _ _ q=>q,λ_ ps q=>⟨#[],by rw[q];simp⟩⟩
theorem Un.refl:Un fs ex H H h h:=Un.kept λ_ _ q=>q
theorem Un.laid(k:∀b u,h.get? b=a5 u->h'.get? b=a5 u)(hp:h.objs.size<=a)(hn:H a=a7):Un fs ex H (upd H a o) h h' where
 keep:=λb u q _ _ _=>k b u q
 slot:=λb u q _ _ _=>⟨u.slots,k b u q⟩
 free:=λb u q n _=>by rw[jf (X6 (X7 (xg q) hp))];exact n
 there:=λb u q _=>⟨u,k b u q⟩
 tups:=λb xs q=>by rw[jf (vg q hn)];exact q
 frzs:=λb u xs q=>by rw[jf (vg q hn)];exact q
 tbls:=λb ps q=>⟨#[],by rw[jf (vg q hn),q];simp⟩
theorem Un.write(mu:Mut (H x))(he:e=x\/H e=a5 (.own x))(k:∀b u,b≠e->h.get? b=a5 u->h'.get? b=a5 u)(heo:∃u,h'.get? e=a5 u):Un fs ex H (upd H x o) h h':=by
 have hx:∀b,H b=a7->b≠x:=λb n z=>by subst z;rw[n]at mu;exact mu
 have hb:∀b,H b=a7->b≠e:=λb n z=>by
  subst z;rcases he with r|r
  .exact hx b n r
  .rw[n]at r;cases r
 have hm:∀b u,H b=a5 u->¬Mut (a5 u)->b≠x:=λb u q nm z=>by subst z;rw[q]at mu;exact nm mu
 refine⟨λb u q n _ _=>k b u (hb b n) q,λb u q n _ _=>⟨u.slots,k b u (hb b n) q⟩,λb u q n _=>by rw[jf (hx b n)];exact n,λb u q _=>?_,
  λb xs q=>by rw[jf (hm b _ q λz=>z)];exact q,λb u xs q=>by rw[jf (hm b _ q λz=>z)];exact q,λb ps q=>⟨#[],by rw[jf (hm b _ q λz=>z),q];simp⟩⟩
 by_cases hbe:b=e
 .subst hbe;exact heo
 .exact⟨u,k b u hbe q⟩
end
noncomputable def trk(h:aD)(H:Hp):List af:=(aE h.objs.size).filter λa=>(H a).isSome
noncomputable def Zo(h:aD)(H:Hp):aD:=W.hideAll h (trk h H)
theorem Kg(h:aD)(H:Hp):(Zo h H).objs.size=h.objs.size:=W.hideAll_size _ _
theorem j1c{h:aD}{H:Hp}{b:af}{o:c7}(e:h.get? b=a5 o)(n:H b=a7):(Zo h H).get? b=a5 o :=
 W.hideAll_get _ e λhm=>by have q:(H b).isSome=a8:=(List.mem_filter.mp hm).2;rw[n]at q;simp at q
theorem j46{h:aD}{H:Hp}{b:af}{o:c7}(e:(Zo h H).get? b=a5 o):h.get? b=a5 o/\H b=a7:=by
 have e':h.get? b=a5 o:=W.of_hideAll (trk h H) e;refine⟨e',?_⟩;cases q:H b with
 |none=>rfl
 |some x =>have hm:b∈trk h H:=List.mem_filter.mpr ⟨Xz.mpr (xg e'),by simp[q]⟩;have z:(Zo h H).get? b=a7:=ph (trk h H) hm;rw[z]at e;cases e
noncomputable def j5a(g h:aD)(L:af):List (af×c7):=(aE h.objs.size).filterMap λa=>if a=L\/(g.get? a).isSome=a8 then a7 else(h.get? a).map λo=>(a,o)
noncomputable def rest(g h:aD)(L d:af):List (af×c7):=(j5a g h L).filter λp=>decide (p.1≠d)
structure Mod(K:k4n)(mg:k4q)(base:aD):Prop where
 kin:K.In base
 glob:base.Ns aj mg
 blt:∃mb,base.Ns cM mb/\∀x:ag,x ≠ "__name__"->mb x=aU x
 nolimit:base.NoLimit
 bm:∃bm ob,mg "__builtins__" = a5 (.ref bm)/\bm≠cM/\base.get? bm=a5 ob/\ob.cls=.type "module"/\ob.dict=a5 cM/\ob.data=.plain
structure Cx where
 prog:ak
 w:ax
 K:k4n
 mg:ag->Option a9
 base:aD
 A:az
 N:List ag
 s₀:ae
 H₀:Hp
 env:c8
 outer:List c8
 stack:List c8
 ex:List af
 fn:ag->Bool
 calm:Bool
 pn:List (af×c7)
 xe:a9->ae->Prop
noncomputable def frs(l:List c8):List af:=l.filterMap (·.frame)
noncomputable abbrev Cx.fs(X:Cx):List af:=frs X.outer
def Vis(sc:bg)(x:ag):Prop:=sc.names.lookup x=a5 .local\/sc.names.lookup x=a5 .cell\/sc.names.lookup x=a5 .free
def Loc(sc:bg)(x:ag):Prop:=sc.names.lookup x=a5 .local\/sc.names.lookup x=a5 .cell
def Look(env:c8)(h:aD)(m:k4q)(x:ag)(u:a9):Prop :=
 (env.kindOf x=a5 .local/\m x=a5 u)\/((env.kindOf x=a5 .cell\/env.kindOf x=a5 .free)/\∃c,env.cells.lookup x=a5 c/\h.IsCell c (a5 u))
structure Cx.Ok(X:Cx):Prop where
 mod:Mod X.K X.mg X.base
 kind:X.env.scope.kind=.function
 glob:X.env.globals=aj
 blt:X.env.builtins=cM
 above:X.s₀.heap.objs.size<=X.env.locals
 inj:∀x y c,X.env.cells.lookup x=a5 c->X.env.cells.lookup y=a5 c->x=y
 has:∀x,(X.env.kindOf x=a5 .cell\/X.env.kindOf x=a5 .free)->∃c,X.env.cells.lookup x=a5 c
 cab:∀x c,X.fn x=a8->X.env.cells.lookup x=a5 c->X.s₀.heap.objs.size<=c
 hd:X.calm=a8->X.A.handled=a7
 frames:X.A.frames=a5 X.stack
 stk:X.stack=X.outer\/(X.stack=X.env::X.outer/\X.env.frame=a5 X.env.locals)
 exf:∀b∈X.ex,b≠X.env.locals/\∀x c,X.env.cells.lookup x=a5 c->c≠b
 bs:∀b o,X.base.get? b=a5 o->X.s₀.heap.get? b=a5 o/\X.H₀ b=a7
 bsz:X.base.objs.size<=X.s₀.heap.objs.size
 noex:∀b o,X.base.get? b=a5 o->b∉X.ex
 exfs:∀b∈X.ex,b∉X.fs
 funs:X.s₀.heap.FunFrames X.base X.outer
 frf:∀b∈X.fs,X.H₀ b=a7
structure Inv(X:Cx)(pins:k4p)(σ:List (Option V))(H:Hp)(s:ae):Prop where
 ok:X.Ok
 os:s.os=X.s₀.os
 bare:cY s.gens
 base:Un X.fs X.ex X.H₀ H X.s₀.heap s.heap
 loc:∃m,s.heap.Ns X.env.locals m/\∀(i:Nat)(x:ag)(v:V),X.N[i]?=a5 x->σ[i]?=a5 (a5 v)->Vis X.env.scope x->∃u,RelV v u/\Look X.env s.heap m x u
 cell:∀x c,X.env.cells.lookup x=a5 c->∃v,s.heap.IsCell c v
 free:H X.env.locals=a7
 freeC:∀x c,X.env.cells.lookup x=a5 c->H c=a7
 pin:∀p∈X.pn++pins,s.heap.get? p.1=a5 p.2/\H p.1=a7/\p.1≠X.env.locals/\p.1∉X.fs/\∀v,p.2.data≠.cell v
 hok:HOk X.prog X.w H s.heap
 len:σ.length=X.N.length
section
variable{X:Cx}{pins:k4p}{σ:List (Option V)}{H H':Hp}{s:ae}{h':aD}
theorem Cx.Ok.nofr(ok:X.Ok){b:af}{o:c7}(e:X.base.get? b=a5 o):b∉X.fs:=λhb=>by have:=(ok.funs.mem hb).1;rw[e]at this;cases this
theorem Inv.bs(I:Inv X pins σ H s):∀b o,X.base.get? b=a5 o->s.heap.get? b=a5 o/\H b=a7:=λb o e =>⟨I.base.keep b o (I.ok.bs b o e).1 (I.ok.bs b o e).2 (I.ok.nofr e) (I.ok.noex b o e),I.base.free b o (I.ok.bs b o e).1 (I.ok.bs b o e).2 (I.ok.noex b o e)⟩
theorem Inv.bk(I:Inv X pins σ H s):∀b o,X.base.get? b=a5 o->s.heap.get? b=a5 o:=λb o e=>(I.bs b o e).1
theorem Inv.mod(I:Inv X pins σ H s):Mod X.K X.mg X.base:=I.ok.mod
theorem Inv.kIn(I:Inv X pins σ H s):X.K.In s.heap:=I.ok.mod.kin.keeps I.bk
theorem Inv.lt(I:Inv X pins σ H s):X.env.locals<s.heap.objs.size:=let ⟨_,hn,_⟩:=I.loc;hn.lt
theorem Inv.sz(I:Inv X pins σ H s):X.s₀.heap.objs.size<=s.heap.objs.size:=Xd I.ok.above (d7 I.lt)
theorem Inv.nofs(I:Inv X pins σ H s){a:af}(h:s.heap.objs.size<=a):a∉X.fs:=λhb=>by obtain⟨_,o,ho,_⟩:=I.ok.funs.mem hb;exact absurd (X7 (xg ho) (Xd I.sz h)) (Xl _)
theorem Inv.cne(I:Inv X pins σ H s):∀x c,X.env.cells.lookup x=a5 c->c≠X.env.locals:=λx c e z=>by obtain⟨v,o,ho,hd⟩:=I.cell x c e;obtain⟨m,⟨o',es,ep,ho',hd',_⟩,_⟩:=I.loc;rw[z,ho']at ho;cases ho;rw[hd']at hd;cases hd
theorem Inv.funs(I:Inv X pins σ H s):s.heap.FunFrames X.base X.outer:=by
 have all:∀(l:List c8),(∀b∈frs l,b∈X.fs)->X.s₀.heap.FunFrames X.base l->s.heap.FunFrames X.base l:=by
  intro l;induction l with
  |nil=>intro _ _;trivial
  |cons env r ih =>intro hs hl;obtain⟨hk,⟨L,o,hf,hn,ho,hd⟩,hr⟩:=hl;have hL:L∈X.fs:=hs L (by unfold frs;rw[bL,hf];exact xj);obtain⟨sl,e⟩:=I.base.slot L o ho (I.ok.frf L hL) hL λz=>I.ok.exfs L z hL;exact⟨hk,⟨L,_,hf,hn,e,hd⟩,ih (λb hb=>hs b (by unfold frs;rw[bL,hf];exact km _ hb)) hr⟩
 exact all X.outer (λ_ hb=>hb) I.ok.funs
theorem Inv.stack(I:Inv X pins σ H s):s.heap.FunFrames X.base X.stack:=by
 rcases I.ok.stk with e|⟨e,hf⟩
 .rw[e];exact I.funs
 .rw[e];obtain⟨m,hn,_⟩:=I.loc;refine .cons (by rw[I.ok.kind];decide) hf hn ?_ I.funs;exact Heap.get?_none_of_le (Xd I.ok.bsz I.ok.above)
theorem Inv.stkSub(I:Inv X pins σ H s):∀b∈frs X.stack,b∈X.env.locals::X.fs:=λb hb=>by
 rcases I.ok.stk with e|⟨e,hf⟩
 .rw[e]at hb;exact km _ hb
 .rw[e]at hb;unfold frs at hb;rw[bL,hf]at hb;exact hb
theorem Inv.stkFree(I:Inv X pins σ H s):∀b∈frs X.stack,H b=a7:=λb hb=>by
 rcases xf.mp (I.stkSub b hb)with e|hb
 .rw[e];exact I.free
 .obtain⟨_,o,ho,_⟩:=I.ok.funs.mem hb;exact I.base.free b o ho (I.ok.frf b hb) λz=>I.ok.exfs b z hb
theorem Inv.step{g':Array dE}{t':Nat}{d':Drawn}{ch:List af}(I:Inv X pins σ H s)
  (hch:∀b∈ch,(b∈X.ex\/X.s₀.heap.objs.size<=b)/\b≠X.env.locals/\(∀x c,X.env.cells.lookup x=a5 c->c≠b)/\∀p∈X.pn++pins,p.1≠b)
  (keep:∀b o,b≠X.env.locals->b∉X.fs->b∉ch->s.heap.get? b=a5 o->H b=a7->h'.get? b=a5 o)
  (slot:∀b o,b≠X.env.locals->b∈X.fs->b∉ch->s.heap.get? b=a5 o->H b=a7->∃sl,h'.get? b=a5 { o with slots:=sl }) (free:∀b o,b∉ch->s.heap.get? b=a5 o->H b=a7->H' b=a7)
  (there:∀b o,b∉ch->s.heap.get? b=a5 o->∃o',h'.get? b=a5 o')
  (tups:∀b xs,H b=a5 (.tup xs)->H' b=a5 (.tup xs)) (frzs:∀b o u,H b=a5 (.frz o u)->H' b=a5 (.frz o u)) (tbls:∀b ps,H b=a5 (.tbl ps)->∃more,H' b=a5 (.tbl (ps++more)))
  (ns:∀m,s.heap.Ns X.env.locals m->h'.Ns X.env.locals m) (hok:HOk X.prog X.w H' h') (hg:cY g') :
  Inv X pins σ H' { s with heap:=h',gens:=g',drawn:=d',toks:=t' }:=by
 have neL:∀b o,X.s₀.heap.get? b=a5 o->b≠X.env.locals:=λb o e=>X6 (X7 (xg e) I.ok.above);have neC:∀b o,X.s₀.heap.get? b=a5 o->b∉X.ex->b∉ch:=λb o e hx hb=>by
  rcases(hch b hb).1 with z|z
  .exact hx z
  .exact absurd (X7 (xg e) z) (Xl _)
 have cellK:∀x c,X.env.cells.lookup x=a5 c->∀v,s.heap.IsCell c v->h'.IsCell c v:=λx c e v ⟨o,ho,hd⟩=>by
  have nch:c∉ch:=λz=>(hch c z).2.2.1 x c e rfl;by_cases hc:c∈X.fs
  .obtain⟨sl,q⟩:=slot c o (I.cne x c e) hc nch ho (I.freeC x c e);exact⟨_,q,hd⟩
  .exact⟨o,keep c o (I.cne x c e) hc nch ho (I.freeC x c e),hd⟩
 refine⟨I.ok,I.os,hg,⟨λb o e n hb hx=>?_,λb o e n hb hx=>?_,λb o e n hx=>?_,λb o e hx=>?_,λb xs e=>tups b xs (I.base.tups b xs e),λb o xs e=>frzs b o xs (I.base.frzs b o xs e),λb ps e=>?_⟩,?_,λx c e=>?_,?_,λx c e=>?_,λp hp=>?_,hok,I.len⟩
 .exact keep b o (neL b o e) hb (neC b o e hx) (I.base.keep b o e n hb hx) (I.base.free b o e n hx)
 .obtain⟨sl,e1⟩:=I.base.slot b o e n hb hx;obtain⟨sl',e2⟩:=slot b _ (neL b o e) hb (neC b o e hx) e1 (I.base.free b o e n hx);exact⟨sl',e2⟩
 .obtain⟨o',e1⟩:=I.base.there b o e hx;exact free b o' (neC b o e hx) e1 (I.base.free b o e n hx)
 .obtain⟨o',e1⟩:=I.base.there b o e hx;exact there b o' (neC b o e hx) e1
 .obtain⟨m1,e1⟩:=I.base.tbls b ps e;obtain⟨m2,e2⟩:=tbls b _ e1;exact⟨m1++m2,by rw[e2,Array.append_assoc]⟩
 .obtain⟨m,hn,hl⟩:=I.loc;refine⟨m,ns m hn,λi x v e1 e2 e3=>?_⟩;obtain⟨u,r,l⟩:=hl i x v e1 e2 e3;refine⟨u,r,?_⟩;rcases l with l|⟨k,c,e,z⟩
  .exact .inl l
  .exact .inr ⟨k,c,e,cellK x c e _ z⟩
 .obtain⟨v,z⟩:=I.cell x c e;exact⟨v,cellK x c e v z⟩
 .obtain⟨m,⟨o,_,_,ho,_⟩,_⟩:=I.loc;exact free _ o (λz=>(hch _ z).2.1 rfl) ho I.free
 .obtain⟨v,o,ho,hd⟩:=I.cell x c e;exact free c o (λz=>(hch c z).2.2.1 x c e rfl) ho (I.freeC x c e)
 .obtain⟨e,n,ne,nf,d⟩:=I.pin p hp;have nch:p.1∉ch:=λz=>(hch p.1 z).2.2.2 p hp rfl;exact⟨keep p.1 p.2 ne nf nch e n,free p.1 p.2 nch e n,ne,nf,d⟩
theorem Inv.un{t':Nat}(I:Inv X pins σ H s)(u:Un X.fs [] H H' s.heap h')(hok:HOk X.prog X.w H' h'):Inv X pins σ H' { s with heap:=h',toks:=t' }:=by
 obtain⟨m,⟨o,es,ep,ho,r⟩,_⟩:=id I.loc;obtain⟨sl,hL⟩:=u.any ho I.free (by simp);exact I.step (g':=s.gens) (d':=s.drawn) (ch:=[]) (λ_ z=>nomatch z) (λb o _ hb _ e n=>u.keep b o e n hb (by simp)) (λb o _ hb _ e n=>u.slot b o e n hb (by simp)) (λb o _ e n=>u.free b o e n (by simp)) (λb o _ e=>u.there b o e (by simp)) u.tups u.frzs u.tbls (λm' hm=>by
  obtain⟨o',es',ep',ho',r'⟩:=hm
  rw[ho]at ho';cases ho'
  exact⟨_,es',ep',hL,r'⟩) hok I.bare
theorem Inv.call{g':Array dE}{t':Nat}{d':Drawn}{ch:List af}(I:Inv X pins σ H s)(u:Un (frs X.stack) ch H H' s.heap h')(hok:HOk X.prog X.w H' h')(hg:cY g')
  (hch:∀b∈ch,(b∈X.ex\/X.s₀.heap.objs.size<=b)/\b≠X.env.locals/\(∀x c,X.env.cells.lookup x=a5 c->c≠b)/\∀p∈X.pn++pins,p.1≠b) :
  Inv X pins σ H' { s with heap:=h',gens:=g',drawn:=d',toks:=t' }:=by
 obtain⟨m,⟨o,es,ep,ho,r⟩,_⟩:=id I.loc;obtain⟨sl,hL⟩:=u.any ho I.free λz=>(hch _ z).2.1 rfl;exact I.step (ch:=ch) hch (λb o hL hb hc e n=>u.keep b o e n (λz=>(xf.mp (I.stkSub b z)).elim hL hb) hc) (λb o _ _ hc e n=>u.any e n hc) (λb o hc e n=>u.free b o e n hc) (λb o hc e=>u.there b o e hc) u.tups u.frzs u.tbls (λm' hm=>by
  obtain⟨o',es',ep',ho',r'⟩:=hm
  rw[ho]at ho';cases ho'
  exact⟨_,es',ep',hL,r'⟩) hok hg
theorem Inv.turned{t':Nat}{it:af}(I:Inv X pins σ H s)(k:∀b o,b≠it->s.heap.get? b=a5 o->h'.get? b=a5 o)(hn:H it=a7)(hL:it≠X.env.locals)
  (h1:it∈X.ex\/X.s₀.heap.objs.size<=it) (h2:∀x c,X.env.cells.lookup x=a5 c->c≠it) (h3:∀p∈X.pn++pins,p.1≠it):Inv X pins σ H { s with heap:=h',toks:=t' }:=by
 have nit:∀b u,H b=a5 u->b≠it:=λb u e z=>by rw[z,hn]at e;cases e
 refine I.step (g':=s.gens) (d':=s.drawn) (ch:=[it]) (λb hb=>?_) (λb o _ _ hc e _=>k b o (λz=>hc (by simp[z])) e) (λb o _ _ hc e _=>⟨o.slots,k b o (λz=>hc (by simp[z])) e⟩) (λ_ _ _ _ n=>n)
  (λb o hc e=>⟨o,k b o (λz=>hc (by simp[z])) e⟩) (λ_ _ e=>e) (λ_ _ _ e=>e) (λb ps e=>⟨#[],by rw[e];simp⟩) (λm hm=>?_) (λb u e=>?_) I.bare
 .have e:b=it:=by simpa using hb
  subst e;exact⟨h1,hL,h2,h3⟩
 .obtain⟨o,es,ep,ho,r⟩:=hm;exact⟨o,es,ep,k _ o (dP hL) ho,r⟩
 .refine(I.hok b u e).stay (λc v hc q=>k c v ?_ q) (λ_ q=>q) (λ_ _ q=>q) λ_ _ _ q=>q;rcases hc with z|z
  .rw[z];exact nit b u e
  .exact nit c _ z
theorem Inv.tok(I:Inv X pins σ H s)(t:Nat):Inv X pins σ H { s with toks:=t }:=I.un (h':=s.heap) (t':=t) Un.refl I.hok
theorem Inv.kept{t':Nat}(I:Inv X pins σ H s)(k:∀b u,s.heap.get? b=a5 u->h'.get? b=a5 u):Inv X pins σ H { s with heap:=h',toks:=t' }:=I.un (Un.kept k) (I.hok.kept k)
theorem Inv.laid{a:af}{o:HO}{t':Nat}(I:Inv X pins σ H s)(k:∀b u,s.heap.get? b=a5 u->h'.get? b=a5 u)(hp:s.heap.objs.size<=a)(new:ji X.prog X.w (upd H a o) h' a o) :
  Inv X pins σ (upd H a o) { s with heap:=h',toks:=t' }:=I.un (Un.laid k hp (I.hok.fresh hp)) (I.hok.laid k hp new)
theorem Inv.write{x e:af}{o:HO}{t':Nat}(I:Inv X pins σ H s)(mu:Mut (H x))(he:e=x\/H e=a5 (.own x))(k:∀b u,b≠e->s.heap.get? b=a5 u->h'.get? b=a5 u)(heo:∃u,h'.get? e=a5 u)
  (new:ji X.prog X.w (upd H x o) h' x o):Inv X pins σ (upd H x o) { s with heap:=h',toks:=t' }:=I.un (Un.write mu he k heo) (I.hok.write mu he k heo new)
theorem Inv.pins_of{pins':k4p}(I:Inv X pins σ H s)(h:∀p∈pins',s.heap.get? p.1=a5 p.2/\H p.1=a7/\p.1≠X.env.locals/\p.1∉X.fs/\∀v,p.2.data≠.cell v):Inv X pins' σ H s :=
 ⟨I.ok,I.os,I.bare,I.base,I.loc,I.cell,I.free,I.freeC,λp hp=>(List.mem_append.mp hp).elim (λz=>I.pin p (Xm _ z)) (h p),I.hok,I.len⟩
theorem Yp{N:List ag}(hN:N.Nodup){i j:Nat}{x:ag}(a:N[i]?=a5 x)(b:N[j]?=a5 x):i=j:=by obtain⟨h1,e1⟩:=Xb.mp a;obtain⟨h2,e2⟩:=Xb.mp b;exact(List.getElem_inj hN).mp (e1.trans e2.symm)
theorem V7{M:fS}{A:az}{E:k4o}{i:Nat}{x:ag}{v:V}{u:a9}{Q:Unit->ae->Prop}(I:Inv X pins σ H s)(hN:X.N.Nodup)(hi:X.N[i]?=a5 x)(hx:Loc X.env.scope x)(r:RelV v u)
  (h:∀s',Inv X pins (σ.set i (a5 v)) H s'->(∃a,fe a s.heap s'.heap/\(a=X.env.locals\/X.env.cells.lookup x=a5 a))->Q () s') (hf:X.fn x=a8\/X.env.scope.names.lookup x=a5 .local:=by first|exact .inl rfl|exact .inr rfl|assumption):aw M A (storeName X.env x u) Q E s:=by
 obtain⟨m,hn,hl⟩:=id I.loc;have hcls:(X.env.scope.kind==.class || (X.env.scope.kind==.module&&X.env.locals != X.env.globals))=a6:=by rw[I.ok.kind];rfl
 have hiσ:i<σ.length:=by rw[I.len];exact(Xb.mp hi).1
 have cne:=I.cne;have tracked:∀{a:af}{h':aD},(∃o,s.heap.get? a=a5 o/\H a=a7)->fe a s.heap h'->HOk X.prog X.w H h':=λ{a h'} ha hs b ob e=>by
  obtain⟨_,_,hfree⟩:=ha;refine(I.hok b ob e).stay (λc w' hc q=>(hs.2 c ?_).trans q) (λ_ q=>q) (λ_ _ q=>q) λ_ _ _ q=>q;rintro rfl;rcases hc with rfl|hc
  .rw[hfree]at e;cases e
  .rw[hfree]at hc;cases hc
 rcases hx with hk|hk
 .refine wpAny_storeName_local hk hn (λh' hn' hs=>?_) hcls;obtain⟨oL,_,_,hoL,_⟩:=id hn;refine h _ ⟨I.ok,I.os,I.bare,⟨λb o e n hb hx=>?_,λb o e n hb hx=>?_,I.base.free,λb o e hx=>?_,I.base.tups,I.base.frzs,I.base.tbls⟩,⟨_,hn',λj y v' e1 e2 e3=>?_⟩,λy c e=>?_,I.free,I.freeC,λp hp=>?_,tracked ⟨oL,hoL,I.free⟩ hs,by simpa using I.len⟩ ⟨_,hs,.inl rfl⟩
  .exact(hs.2 b (X6 (X7 (xg e) I.ok.above))).trans (I.base.keep b o e n hb hx)
  .obtain⟨sl,e1⟩:=I.base.slot b o e n hb hx;exact⟨sl,(hs.2 b (X6 (X7 (xg e) I.ok.above))).trans e1⟩
  .obtain⟨o',e1⟩:=I.base.there b o e hx;exact⟨o',(hs.2 b (X6 (X7 (xg e) I.ok.above))).trans e1⟩
  .by_cases hj:j=i
   .subst hj;rw[hi]at e1;cases e1;rw[fi hiσ]at e2;cases e2;exact⟨u,r,.inl ⟨hk,by simp⟩⟩
   .rw[df (dP hj)]at e2;obtain⟨u',r',q⟩:=hl j y v' e1 e2 e3;refine⟨u',r',?_⟩;rcases q with ⟨k,e⟩|⟨k,c,e,z⟩
    .refine .inl ⟨k,?_⟩;have:y≠x:=λe=>hj (Yp hN e1 (e▸hi));simp[this,e]
    .exact .inr ⟨k,c,e,z.sameBut hs (cne y c e)⟩
  .obtain⟨w',z⟩:=I.cell y c e;exact⟨w',z.sameBut hs (cne y c e)⟩
  .obtain⟨e,n,ne,nf,d⟩:=I.pin p hp;exact⟨(hs.2 p.1 ne).trans e,n,ne,nf,d⟩
 .have hfn:X.fn x=a8:=by
   rcases hf with z|z
   .exact z
   .rw[z]at hk;cases hk
  obtain⟨c,hc⟩:=I.ok.has x (.inl hk);obtain⟨w',z⟩:=I.cell x c hc;refine wpAny_storeName_cell I.ok.kind hk hc z (λh' hc' hs=>?_);obtain⟨oc,hoc,hocd⟩:=id z;refine h { s with heap:=h' } ⟨I.ok,I.os,I.bare,⟨λb o e n hb hx=>?_,λb o e n hb hx=>?_,I.base.free,λb o e hx=>?_,I.base.tups,I.base.frzs,I.base.tbls⟩,⟨m,hn.sameBut hs (dP (cne x c hc)),λj y v' e1 e2 e3=>?_⟩,λy c' e=>?_,I.free,I.freeC,λp hp=>?_,tracked ⟨oc,hoc,I.freeC x c hc⟩ hs,by simpa using I.len⟩ ⟨c,hs,.inr hc⟩
  .exact(hs.2 b (X6 (X7 (xg e) (I.ok.cab x c hfn hc)))).trans (I.base.keep b o e n hb hx)
  .obtain⟨sl,e1⟩:=I.base.slot b o e n hb hx;exact⟨sl,(hs.2 b (X6 (X7 (xg e) (I.ok.cab x c hfn hc)))).trans e1⟩
  .obtain⟨o',e1⟩:=I.base.there b o e hx;exact⟨o',(hs.2 b (X6 (X7 (xg e) (I.ok.cab x c hfn hc)))).trans e1⟩
  .by_cases hj:j=i
   .subst hj;rw[hi]at e1;cases e1;rw[fi hiσ]at e2;cases e2;exact⟨u,r,.inr ⟨.inl hk,c,hc,hc'⟩⟩
   .rw[df (dP hj)]at e2;obtain⟨u',r',q⟩:=hl j y v' e1 e2 e3;refine⟨u',r',?_⟩;rcases q with q|⟨k,c',e,z'⟩
    .exact .inl q
    .refine .inr ⟨k,c',e,z'.sameBut hs ?_⟩;rintro rfl;exact hj (Yp hN e1 (I.ok.inj _ _ _ e hc▸hi))
  .by_cases hcc:c'=c
   .subst hcc;exact⟨_,hc'⟩
   .obtain⟨w2,z2⟩:=I.cell y c' e;exact⟨w2,z2.sameBut hs hcc⟩
  .obtain⟨e,n,ne,nf,d⟩:=I.pin p hp;refine⟨(hs.2 p.1 ?_).trans e,n,ne,nf,d⟩;intro q;rw[q,hoc]at e;have q':oc=p.2:=aB e;exact d w' (by rw[<-q'];exact hocd)
theorem M5{M:fS}{A:az}{E:k4o}{i:Nat}{x:ag}{v:V}{u:a9}{Q:Unit->ae->Prop}(I:Inv X pins σ H s)(hN:X.N.Nodup)(hi:X.N[i]?=a5 x)(hx:Loc X.env.scope x)(r:RelV v u)
  (h:∀s',Inv X pins (σ.set i (a5 v)) H s'->Q () s') (hf:X.fn x=a8\/X.env.scope.names.lookup x=a5 .local:=by first|exact .inl rfl|exact .inr rfl|assumption):aw M A (storeName X.env x u) Q E s :=
 V7 I hN hi hx r (λs' I' _=>h s' I') hf
theorem Inv.call'{s':ae}{ch:List af}(I:Inv X pins σ H s)(ho:s'.os=s.os)(u:Un (frs X.stack) ch H H' s.heap s'.heap)(hok:HOk X.prog X.w H' s'.heap)(hg:cY s'.gens)
  (hch:∀b∈ch,(b∈X.ex\/X.s₀.heap.objs.size<=b)/\b≠X.env.locals/\(∀x c,X.env.cells.lookup x=a5 c->c≠b)/\∀p∈X.pn++pins,p.1≠b):Inv X pins σ H' s':=by
 obtain⟨h',g',d',t',o'⟩:=s';have e:o'=s.os:=ho;subst e;exact I.call (g':=g') (t':=t') (d':=d') u hok hg hch
end
abbrev XK:=a9->Option af->Hp->Prop
noncomputable abbrev St:=List (Option V)
abbrev VK:=V->Hp->Prop
abbrev TE:=St->Hp->VK->Prop
abbrev TT:=St->Hp->(Bool->Hp->Prop)->Prop
abbrev TA:=St->Hp->(List V->Hp->Prop)->Prop
structure Ends where
 nx:St->Hp->Prop
 rt:VK
 bk:St->Hp->Prop:=λ_ _=>False
 ct:St->Hp->Prop:=λ_ _=>False
abbrev TS:=Ends->St->Hp->Prop
def EP(X:Cx)(pins:k4p)(σ:St)(Q:VK)(u:a9)(s':ae):Prop:=∃v H',Inv X pins σ H' s'/\RelV v u/\Q v H'
def TP(X:Cx)(pins:k4p)(σ:St)(Q:Bool->Hp->Prop)(b:Bool)(s':ae):Prop:=∃H',Inv X pins σ H' s'/\Q b H'
def AP(X:Cx)(pins:k4p)(σ:St)(Q:List V->Hp->Prop)(us:List a9)(s':ae):Prop:=∃vs H',Inv X pins σ H' s'/\Vals vs us/\Q vs H'
def Ext(X:Cx)(H1 H2:Hp)(s':ae):Prop:=∀b,H2 b=H1 b\/∃x o v,X.env.cells.lookup x=a5 b/\X.fn x=a8/\H2 b=a5 (.frz o (.own 0))/\s'.heap.get? b=a5 o/\o.data=.cell v
theorem Ext.refl{X:Cx}{H:Hp}{s':ae}:Ext X H H s':=λ_=>.inl rfl
def SP(X:Cx)(pins:k4p)(D:Ends)(f:Flow)(s':ae):Prop :=
 match f with
 |.next=>∃σ' H',Inv X pins σ' H' s'/\D.nx σ' H'
 |.brk=>∃σ' H',Inv X pins σ' H' s'/\D.bk σ' H'
 |.cont=>∃σ' H',Inv X pins σ' H' s'/\D.ct σ' H'
 |.ret u=>∃v σ' H' H2,Inv X pins σ' H' s'/\RelV v u/\Ext X H' H2 s'/\D.rt v H2
def PE(X:Cx)(e:ah)(t:TE):Prop :=
 ∀(pins:k4p) (s:ae) (σ:St) (H:Hp) (Q:VK),Inv X pins σ H s->t σ H Q->aw (ar X.prog X.w) X.A (aG e X.env) (EP X pins σ Q) X.xe s
def PT(X:Cx)(e:ah)(t:TT):Prop :=
 ∀(pins:k4p) (s:ae) (σ:St) (H:Hp) (Q:Bool->Hp->Prop),Inv X pins σ H s->t σ H Q->aw (ar X.prog X.w) X.A (dU e X.env (aG e X.env)) (TP X pins σ Q) X.xe s
def PW(X:Cx)(e:ah)(t:TT):Prop :=
 ∀(whole:gz a9)(pins:k4p) (s:ae) (σ:St) (H:Hp) (Q:Bool->Hp->Prop),Inv X pins σ H s->t σ H Q->aw (ar X.prog X.w) X.A (dU e X.env whole) (TP X pins σ Q) X.xe s
def PA(X:Cx)(es:List ah)(t:TA):Prop :=
 ∀(pos:aN)(pins:k4p) (s:ae) (σ:St) (H:Hp) (Q:List V->Hp->Prop),Inv X pins σ H s->t σ H Q->aw (ar X.prog X.w) X.A (spliced (aS pos (aa es X.env))) (AP X pins σ Q) X.xe s
def PS(X:Cx)(st:aM)(t:TS):Prop :=
 ∀(pins:k4p) (s:ae) (σ:St) (H:Hp) (D:Ends),Inv X pins σ H s->t D σ H->aw (ar X.prog X.w) X.A (exec st X.env) (SP X pins D) X.xe s
def PSs(X:Cx)(st:List aM)(t:TS):Prop :=
 ∀(pins:k4p) (s:ae) (σ:St) (H:Hp) (D:Ends),Inv X pins σ H s->t D σ H->aw (ar X.prog X.w) X.A (execs st X.env) (SP X pins D) X.xe s
theorem thn{α:Type}{t:gz α}{Q Q':α->ae->Prop}{M:fS}{A:az}{E:k4o}{s:ae}(h:aw M A t Q E s)(hQ:∀a s,Q a s->Q' a s):aw M A t Q' E s:=aT h hQ λ_ _ x=>x
section
variable{X:Cx}
theorem bin{a b:ah}{ta tb:TE}(ha:PE X a ta)(hb:PE X b tb){pins:k4p}{s:ae}{σ:St}{H:Hp}{R:V->V->Hp->Prop}(I:Inv X pins σ H s)(h:ta σ H λx H1=>tb σ H1 λy H2=>R x y H2)
  {α:Type} {Q:α->ae->Prop} {f:a9->a9->gz α}
  (hf:∀v u s2 x y H2,Inv X pins σ H2 s2->RelV x v->RelV y u->R x y H2->aw (ar X.prog X.w) X.A (f v u) Q X.xe s2) :
  aw (ar X.prog X.w) X.A (aG a X.env) (λv s₁=>aw (ar X.prog X.w) X.A (aG b X.env) (λu s₂=>aw (ar X.prog X.w) X.A (f v u) Q X.xe s₂) X.xe s₁) X.xe s:=by
 refine thn (ha pins s σ H _ I h) λv s1 ⟨x,H1,I1,r1,q1⟩=>?_;refine thn (hb pins s1 σ H1 _ I1 q1) λu s2 ⟨y,H2,I2,r2,q2⟩=>?_;exact hf v u s2 x y H2 I2 r1 r2 q2
def jbp(i:Nat):TE:=λσ H Q=>∃v,σ[i]?=a5 (a5 v)/\Q v H
def tC(v:V):TE:=λ_ H Q=>Q v H
theorem Ja {i:Nat} {x:ag} {pos:aN} (hN:X.N[i]?=a5 x) (hv:Vis X.env.scope x) (hd:(x==k4r)=a6:=by decide) (hcd:(x==k4s)=a6:=by decide):PE X (.Name x pos) (jbp i):=by
 intro pins s σ H Q I h;obtain⟨v,e,h⟩:=h;obtain⟨m,hn,hl⟩:=I.loc;obtain⟨u,r,l⟩:=hl i x v hN e hv;have fin:EP X pins σ Q u s:=⟨v,H,I,r,h⟩
 rcases l with ⟨hk,hm⟩|⟨hk,c,hc,hcell⟩
 .exact gX (wpAny_loadName_local I.ok.kind hk hn hm fin) hd
 .rcases hk with hk|hk
  .exact gX (wpAny_loadName_cell I.ok.kind hk hc hcell fin) hd
  .exact gX (wpAny_loadName_free I.ok.kind hk hc hcell fin hcd) hd
theorem j6i{i j pos}:PE X (.Constant (.int i) j pos) (tC (.int i)):=λ_ _ _ H _ I h=>wpAny_Constant_int ⟨.int i,H,I.tok _,⟨_,rfl⟩,h⟩
theorem j9z{b j pos}:PE X (.Constant (.bool b) j pos) (tC (.bl b)):=λ_ _ _ H _ I h=>Constant_bool ⟨.bl b,H,I,rfl,h⟩
theorem j6g{x j pos}:PE X (.Constant (.str x) j pos) (tC (.str x)):=λ_ _ _ H _ I h=>Calls.Constant_str ⟨.str x,H,I.tok _,⟨_,rfl⟩,h⟩
def Gl(X:Cx)(x:ag):Prop:=X.env.kindOf x=a5 .globalImplicit
theorem Jt{E:k4o}{pins:k4p}{s:ae}{σ:St}{H:Hp}{x:ag}{u:a9}{pos:aN}{Q:k4o}(I:Inv X pins σ H s)(hg:Gl X x)(hm:X.mg x=a5 u)(h:Q u s)
  (hd:(x==k4r)=a6:=by decide):aw (ar X.prog X.w) X.A (aG (.Name x pos) X.env) Q E s :=
 eE I.ok.kind hg (Calls.loadGlobal_global (by rw[I.ok.glob];exact I.mod.glob.keeps I.bk) hm h) hd
theorem Zb{E:k4o}{pins:k4p}{s:ae}{σ:St}{H:Hp}{x:ag}{u:a9}{pos:aN}{Q:k4o}(I:Inv X pins σ H s)(hg:Gl X x)(hm:X.mg x=a7)(hv:aU x=a5 u)(h:Q u s)
  (hn:x ≠ "__name__":=by decide) (hd:(x==k4r)=a6:=by decide):aw (ar X.prog X.w) X.A (aG (.Name x pos) X.env) Q E s:=by
 obtain⟨mb,h1,h2⟩:=I.mod.blt;exact eE I.ok.kind hg (Calls.loadGlobal_builtin (by rw[I.ok.glob];exact I.mod.glob.keeps I.bk) hm (by rw[I.ok.blt];exact h1.keeps I.bk) ((h2 x hn).trans hv) h) hd
theorem Vv {x:ag} {v:V} {u:a9} {pos:aN} (hg:Gl X x) (hm:X.mg x=a5 u) (r:RelV v u) (hd:(x==k4r)=a6:=by decide):PE X (.Name x pos) (tC v) :=
 λ_ _ _ H _ I h=>Jt I hg hm ⟨v,H,I,r,h⟩ hd
theorem j3z {x:ag} {v:V} {u:a9} {pos:aN} (hg:Gl X x) (hm:X.mg x=a7) (hv:aU x=a5 u) (r:RelV v u) (hn:x ≠ "__name__":=by decide) (hd:(x==k4r)=a6:=by decide):PE X (.Name x pos) (tC v) :=
 λ_ _ _ H _ I h=>Zb I hg hm hv ⟨v,H,I,r,h⟩ hn hd
variable{a b:ah}{ta tb:TE}{pos:aN}
def PC(X:Cx)(op:eY)(a b:ah)(t:TE):Prop :=
 ∀(pins:k4p) (s:ae) (σ:St) (H:Hp) (Q:VK),Inv X pins σ H s->t σ H Q ->
  aw (ar X.prog X.w) X.A (aG a X.env) (λv s₁=>aw (ar X.prog X.w) X.A (aG b X.env) (λu s₂=>aw (ar X.prog X.w) X.A (aW op v u) (EP X pins σ Q) X.xe s₂) X.xe s₁) X.xe s
theorem Mr(b:ah){op:eY}(h:op≠.In)(h2:op≠.NotIn):aJ op b=a6:=by
 have e1:(op==CmpOp.In)=a6:=by cases op<;>first|rfl|exact absurd rfl h
 have e2:(op==CmpOp.NotIn)=a6:=by cases op<;>first|rfl|exact absurd rfl h2
 cases b<;>simp[aJ,e1,e2]
def jbw(ta:TE):TE:=λσ H Q=>ta σ H λx H1=>Q (.bl (decide (x=.non))) H1
theorem RelV.none_iff{x:V}{v:a9}(r:RelV x v):(v==aI)=decide (x=.non):=by
 cases x with
 |non=>cases r;rfl
 |bl _=>cases r;rfl
 |int _=>obtain⟨t,rfl⟩:=r;rfl
 |str _=>obtain⟨t,rfl⟩:=r;rfl
 |byt _=>obtain⟨t,rfl⟩:=r;rfl
 |flt _=>obtain⟨t,rfl⟩:=r;rfl
 |ref _=>cases r;rfl
 |ty _=>cases r;rfl
theorem Lq{j pos'}(ha:PE X a ta):PC X .Is a (.Constant .none j pos') (jbw ta):=by intro pins s σ H Q I h;refine thn (ha pins s σ H _ I h) λv s1 ⟨x,H1,I1,r1,q1⟩=>?_;exact Constant_none (is_none_gen ⟨.bl _,H1,I1,by rw[r1.none_iff];rfl,q1⟩)
def tB(t:TE):TT:=λσ H Q=>t σ H λx H1=>∃c,x=.bl c/\Q c H1
theorem j6j{op:eY}{t:TE}(h:PC X op a b t)(h1:aJ op b=a6:=by first|exact Mr _ (by decide) (by decide)|rfl):PE X (.Compare a [op] [b] pos) t:=λpins s σ H Q I hw=>jD (h pins s σ H Q I hw) h1
theorem j6c{op:eY}{t:TE}(h:PC X op a b t)(h1:aJ op b=a6:=by first|exact Mr _ (by decide) (by decide)|rfl):PT X (.Compare a [op] [b] pos) (tB t):=by intro pins s σ H Q I hw;refine gx (thn (h pins s σ H _ I hw) λv s1 h1=>thn h1 λu s2 h2=>thn h2 λc s3 ⟨x,H1,I1,r1,q1⟩=>?_) h1;obtain⟨d,rfl,q⟩:=q1;cases r1;exact bE ⟨H1,I1,q⟩
theorem j6a{e:ah}{t:TE}(h:PE X e t)(he:∀whole,dU e X.env whole=(do let v <-whole;i3 e.pos;i5 [v] (truthy v)):=by intro _;rfl):PT X e (tB t):=by intro pins s σ H Q I hw;refine isTrue_plain (thn (h pins s σ H _ I hw) λv s1 ⟨x,H1,I1,r1,q1⟩=>?_) (he _);obtain⟨d,rfl,q⟩:=q1;cases r1;exact bE ⟨H1,I1,q⟩
variable{tA tB':TT}{rest:List ah}
def tOr(t u:TT):TT:=λσ H Q=>t σ H λc H1=>if c=a8 then Q a8 H1 else u σ H1 Q
def jbt(t:TT):TT:=λσ H Q=>t σ H λc H1=>Q (!c) H1
theorem j69(ha:PT X a tA):PW X (.BoolOp .Or [a] pos) tA:=by
 intro wh pins s σ H Q I h;refine isTrue_or (thn (ha pins s σ H Q I h) λc s1 e=>?_);cases c with
 |false=>exact isTrue_or_nil e
 |true=>exact e
theorem j9v(ha:PT X a tA)(hb:PW X (.BoolOp .Or (b::rest) pos) tB'):PW X (.BoolOp .Or (a::b::rest) pos) (tOr tA tB'):=by
 intro wh pins s σ H Q I h;refine isTrue_or (thn (ha pins s σ H _ I h) λc s1 ⟨H1,I1,q1⟩=>?_);cases c with
 |true=>exact⟨H1,I1,q1⟩
 |false=>exact hb wh pins s1 σ H1 Q I1 q1
theorem j6b(ha:PT X a tA):PT X (.UnaryOp .Not a pos) (jbt tA):=by intro pins s σ H Q I h;exact isTrue_not (ha pins s σ H (λc H1=>Q (!c) H1) I h)
def j9j(ta tb:TE):TE:=λσ H Q=>ta σ H λx H1=>∃c,x=.bl c/\if c=a8 then tb σ H1 Q else Q (.bl a6) H1
theorem Lp{op}{t:TE}(h:PE X a t):PE X (.BoolOp op [a] pos) t:=λpins s σ H Q I hw=>BoolOp_one (h pins s σ H Q I hw)
theorem j6k(ha:PE X a ta)(hb:PE X (.BoolOp .And (b::rest) pos) tb):PE X (.BoolOp .And (a::b::rest) pos) (j9j ta tb):=by
 intro pins s σ H Q I h;refine BoolOp_and (thn (ha pins s σ H _ I h) λv s1 ⟨x,H1,I1,r1,q1⟩=>?_);obtain⟨c,rfl,q1⟩:=q1;cases r1;refine bE ?_;cases c with
 |true=>exact hb pins s1 σ H1 Q I1 q1
 |false=>exact⟨.bl a6,H1,I1,rfl,q1⟩
def tIf(t:TT)(ta tb:TE):TE:=λσ H Q=>t σ H λc H1=>if c=a8 then ta σ H1 Q else tb σ H1 Q
theorem j0h{c:ah}(hc:PT X c tA)(ha:PE X a ta)(hb:PE X b tb):PE X (.IfExp c a b pos) (tIf tA ta tb):=by
 intro pins s σ H Q I h;refine wpAny_IfExp (thn (hc pins s σ H _ I h) λd s1 ⟨H1,I1,q1⟩=>?_);cases d with
 |true=>exact ha pins s1 σ H1 Q I1 q1
 |false=>exact hb pins s1 σ H1 Q I1 q1
end
def SqL(K:k4n)(H:Hp)(a:af)(xs:List V):Prop :=
 Rd H a (.lst xs) \/
  ∃(o:c7)(its:Array a9)(n:Nat),K.lookup a=a5 o/\o.cls=.type "list"/\o.dict=a7/\o.data=.seq its n/\its.size<=ai/\Vals xs its.toList
def SqT(K:k4n)(H:Hp)(a:af)(xs:List V):Prop :=
 Rd H a (.tup xs) \/
  ∃(o:c7)(its:Array a9)(n:Nat),K.lookup a=a5 o/\o.cls=.type "tuple"/\o.dict=a7/\o.data=.seq its n/\its.size<=ai/\Vals xs its.toList
noncomputable def jcu:a9->Option V
 |.none=>a5 .non
 |.bool b=>a5 (.bl b)
 |.int i _=>a5 (.int i)
 |.str x _=>a5 (.str x)
 |.bytes b _=>a5 (.byt b)
 |.float b _=>a5 (.flt b)
 |.ref a=>a5 (.ref a)
 |.type n=>a5 (.ty n)
 |_=>a7
theorem RelV.abs{x:V}{u:a9}(r:RelV x u):jcu u=a5 x:=by
 cases x with
 |non=>cases r;rfl
 |bl _=>cases r;rfl
 |int _=>obtain⟨t,rfl⟩:=r;rfl
 |str _=>obtain⟨t,rfl⟩:=r;rfl
 |byt _=>obtain⟨t,rfl⟩:=r;rfl
 |flt _=>obtain⟨t,rfl⟩:=r;rfl
 |ref _=>cases r;rfl
 |ty _=>cases r;rfl
theorem RelV.inj{x y:V}{u:a9}(r:RelV x u)(q:RelV y u):x=y:=aB (r.abs.symm.trans q.abs)
theorem Vals.inj:∀{xs ys:List V}{us:List a9},Vals xs us->Vals ys us->xs=ys
 |_,_,_,.nil,.nil=>rfl
 |_,_,_,.cons r t,.cons r' t'=>by rw[r.inj r',Vals.inj t t']
section
variable{X:Cx}{pins:k4p}{σ:St}{H:Hp}{s:ae}{a:af}{xs ys:List V}
theorem Inv.list(I:Inv X pins σ H s)(h:SqL X.K H a xs):∃its:List a9,Vals xs its/\PlainL s.heap a its.toArray/\xs.length<=ai:=by
 rcases h with h|⟨o,its,n,hk,hc,hd,hs,hz,r⟩
 .obtain⟨z,its,n,r,e⟩:=h.ok I.hok;exact⟨its,r,⟨_,n,e,rfl,rfl,rfl⟩,z⟩
 .refine⟨its.toList,r,⟨o,n,I.kIn a o hk,hc,hd,by simpa using hs⟩,?_⟩;have e:=r.length;simp only[Pg]at e;omega
theorem Inv.tuple(I:Inv X pins σ H s)(h:SqT X.K H a xs):∃its:List a9,Vals xs its/\fV s.heap a its.toArray/\xs.length<=ai:=by
 rcases h with h|⟨o,its,n,hk,hc,hnd,hs,hz,r⟩
 .obtain⟨z,its,r,p,_⟩:=h.ok I.hok;exact⟨its,r,p,z⟩
 .refine⟨its.toList,r,⟨o,I.kIn a o hk,hc,n,by simpa using hs⟩,?_⟩;have e:=r.length;simp only[Pg]at e;omega
theorem Inv.tupD(I:Inv X pins σ H s)(h:SqT X.K H a xs):V3 s.heap a:=by
 rcases h with h|⟨o,its,n,hk,hc,hnd,hs,hz,r⟩
 .obtain⟨z,its,r,p,q⟩:=h.ok I.hok;exact q
 .intro o' e;rw[I.kIn a o hk]at e;cases e;exact hnd
theorem Inv.list_inj(I:Inv X pins σ H s)(h:SqL X.K H a xs)(h':SqL X.K H a ys):xs=ys:=by
 obtain⟨its,r,⟨o,n,e,_,_,d⟩,_⟩:=I.list h;obtain⟨its',r',⟨o',n',e',_,_,d'⟩,_⟩:=I.list h';rw[e]at e';cases e';rw[d]at d';injection d' with d1 _;have:its=its':=by simpa using congrArg hW d1
 subst this;exact r.inj r'
theorem Inv.tuple_inj(I:Inv X pins σ H s)(h:SqT X.K H a xs)(h':SqT X.K H a ys):xs=ys:=by
 obtain⟨its,r,⟨o,e,_,n,d⟩,_⟩:=I.tuple h;obtain⟨its',r',⟨o',e',_,n',d'⟩,_⟩:=I.tuple h';rw[e]at e';cases e';rw[d]at d';injection d' with d1 _;have:its=its':=by simpa using congrArg hW d1
 subst this;exact r.inj r'
end
noncomputable abbrev Cx.wish(X:Cx)(E:k4o):Cx:={ X with xe:=E }
noncomputable abbrev Cx.nox(X:Cx):Cx:=X.wish λ_ _=>False
theorem Cx.Ok.wish{X:Cx}(ok:X.Ok)(E:k4o):(X.wish E).Ok :=
 ⟨ok.mod,ok.kind,ok.glob,ok.blt,ok.above,ok.inj,ok.has,ok.cab,ok.hd,ok.frames,ok.stk,ok.exf,ok.bs,ok.bsz,ok.noex,ok.exfs,ok.funs,ok.frf⟩
theorem Cx.Ok.unwish{X:Cx}{E:k4o}(ok:(X.wish E).Ok):X.Ok :=
 ⟨ok.mod,ok.kind,ok.glob,ok.blt,ok.above,ok.inj,ok.has,ok.cab,ok.hd,ok.frames,ok.stk,ok.exf,ok.bs,ok.bsz,ok.noex,ok.exfs,ok.funs,ok.frf⟩
section
variable{X:Cx}{pins:k4p}{σ:St}{H:Hp}{s:ae}{E:k4o}
theorem Inv.wish(I:Inv X pins σ H s)(E:k4o):Inv (X.wish E) pins σ H s:=⟨I.ok.wish E,I.os,I.bare,I.base,I.loc,I.cell,I.free,I.freeC,I.pin,I.hok,I.len⟩
theorem Inv.unwish(I:Inv (X.wish E) pins σ H s):Inv X pins σ H s:=⟨I.ok.unwish,I.os,I.bare,I.base,I.loc,I.cell,I.free,I.freeC,I.pin,I.hok,I.len⟩
theorem SP.unwish{D:Ends}{f:Flow}{s':ae}(h:SP (X.wish E) pins D f s'):SP X pins D f s':=by
 cases f with
 |next=>obtain⟨σ',H',I,q⟩:=h;exact⟨σ',H',I.unwish,q⟩
 |brk=>obtain⟨σ',H',I,q⟩:=h;exact⟨σ',H',I.unwish,q⟩
 |cont=>obtain⟨σ',H',I,q⟩:=h;exact⟨σ',H',I.unwish,q⟩
 |ret u=>obtain⟨v,σ',H',H2,I,r,x,q⟩:=h;exact⟨v,σ',H',H2,I.unwish,r,x,q⟩
theorem PSs.nox{st:List aM}{t:TS}(h:PSs X.nox st t):PSs X st t:=λpins s σ H D I hw =>aT (h pins s σ H D (I.wish _) hw) (λ_ _ q=>q.unwish) λ_ _ z=>aO z
end
section
variable{X:Cx}{st:aM}{rest:List aM}{t u:TS}{e:ah}{te:TE}{pos:aN}
def j9f:TS:=λD σ H=>D.nx σ H
def jbr(t u:TS):TS:=λD σ H=>t { D with nx:=u D } σ H
theorem Bu:PSs X [] j9f:=λ_ _ σ H _ I h=>j3 ⟨σ,H,I,h⟩
theorem j0f(h1:PS X st t)(h2:PSs X rest u):PSs X (st::rest) (jbr t u):=by
 intro pins s σ H D I h;refine wpAny_execs_cons (thn (h1 pins s σ H { D with nx:=u D } I h) λf s1 q=>?_);cases f with
 |next =>obtain⟨σ',H',I',q⟩:=q;exact h2 pins s1 σ' H' D I' q
 |ret v=>exact q
 |brk=>exact q
 |cont=>exact q
theorem Inv.quiet{pins:k4p}{σ:St}{H:Hp}{s:ae}(I:Inv X pins σ H s):interactive X.env=a6:=by simp[interactive,I.ok.kind]
def j9g(te:TE):TS:=λD σ H=>te σ H λ_ H1=>D.nx σ H1
theorem Vt(he:PE X e te)(hs:aZ e a7 pos.line X.env=pure a6:=by rfl):PS X (.Expr e pos) (j9g te):=by intro pins s σ H D I h;exact wpAny_Expr_any (thn (he pins s σ H _ I h) λv s1 ⟨x,H1,I1,r1,q1⟩=>⟨σ,H1,I1,q1⟩) I.quiet hs
def jbs(te:TE):TS:=λD σ H=>te σ H D.rt
theorem U7(he:PE X e te):PS X (.Return (a5 e) pos) (jbs te):=by intro pins s σ H D I h;exact wpAny_Return_some (thn (he pins s σ H _ I h) λv s1 ⟨x,H1,I1,r1,q1⟩=>⟨x,σ,H1,H1,I1,r1,.refl,q1⟩)
def jbx(c:TT)(t u:TS):TS:=λD σ H=>c σ H λb H1=>if b=a8 then t D σ H1 else u D σ H1
theorem j9w{c:ah}{a b:List aM}{tc:TT}(hc:PT X c tc)(ha:PSs X a t)(hb:PSs X b u):PS X (.If c a b pos) (jbx tc t u):=by
 intro pins s σ H D I h;refine wpAny_If (thn (hc pins s σ H _ I h) λd s1 ⟨H1,I1,q1⟩=>?_);cases d with
 |true=>exact ha pins s1 σ H1 D I1 q1
 |false=>exact hb pins s1 σ H1 D I1 q1
end
abbrev TG:=V->St->Hp->(St->Hp->Prop)->Prop
def PG(X:Cx)(target:ah)(t:TG):Prop :=
 ∀(pins:k4p) (s:ae) (σ:St) (H:Hp) (v:V) (u:a9) (Q:St->Hp->Prop),Inv X pins σ H s->RelV v u->t v σ H Q ->
  aw (ar X.prog X.w) X.A (fw target X.env u) (λ_ s'=>∃σ' H',Inv X pins σ' H' s'/\Q σ' H') X.xe s
section
variable{X:Cx}{pos:aN}
def j2v(i:Nat):TG:=λv σ H Q=>Q (σ.set i (a5 v)) H
theorem j3y{i:Nat}{x:ag}(hN:X.N.Nodup)(hi:X.N[i]?=a5 x)(hx:Loc X.env.scope x)(hf:X.fn x=a8\/X.env.scope.names.lookup x=a5 .local:=by first|exact .inl rfl|exact .inr rfl|assumption):PG X (.Name x pos) (j2v i):=by intro pins s σ H v u Q I r h;exact i0 (M5 I hN hi hx r (λs' I'=>⟨_,H,I',h⟩) hf)
def jbz(te:TE)(g:TG):TS:=λD σ H=>te σ H λx H1=>g x σ H1 D.nx
theorem U6{i:Nat}{x:ag}{e:ah}{te:TE}{pos':aN}(hN:X.N.Nodup)(hi:X.N[i]?=a5 x)(hx:Loc X.env.scope x)(he:PE X e te)(hs:aZ e (a5 (.Name x pos')) pos.line X.env=pure a6:=by rfl)(hf:X.fn x=a8\/X.env.scope.names.lookup x=a5 .local:=by first|exact .inl rfl|exact .inr rfl|assumption) :
  PS X (.Assign [.Name x pos'] e pos) (jbz te (j2v i)):=by
 intro pins s σ H D I h;refine wpAny_Assign_Name (thn (he pins s σ H _ I h) λv s1 ⟨y,H1,I1,r1,q1⟩=>?_) hs;exact M5 I1 hN hi hx r1 (λs2 I2=>⟨_,H1,I2,q1⟩) hf
end
section
variable{X:Cx}{pos:aN}
end
structure It where
 go:Nat->Hp->Prop
 yld:Nat->Hp->V->Hp->Prop
 stop:Nat->Hp->Prop
def V5(X:Cx)(pins:k4p)(H:Hp)(b:af):Prop :=
 H b=a7/\b≠X.env.locals/\b∉X.fs/\(b∈X.ex\/X.s₀.heap.objs.size<=b)/\(∀x c,X.env.cells.lookup x=a5 c->c≠b)/\∀p∈X.pn++pins,p.1≠b
theorem Inv.fpOk{X:Cx}{pins:k4p}{σ:St}{H H':Hp}{s:ae}{b:af}(I:Inv X pins σ H s)(hb:s.heap.objs.size<=b)(hn:H' b=a7):V5 X pins H' b:=by
 refine⟨hn,d6 (X7 I.lt hb),I.nofs hb,.inr (Xd I.sz hb),λx c e z=>?_,λp hp z=>?_⟩
 .obtain⟨v,q⟩:=I.cell x c e;exact absurd (X7 q.lt (by rw[z];exact hb)) (Xl _)
 .exact absurd (X7 (xg (I.pin p hp).1) (by rw[z];exact hb)) (Xl _)
structure Turn(P:ak)(w:ax)(K:k4n)(tg:ah)(J:It)(fp:List af)(it:af)(tn:Nat->aD->Prop):Prop where
 mem:it∈fp
 obj:∀i h,tn i h->∀b∈fp,∃o,h.get? b=a5 o/\∀v,o.data≠.cell v
 keep:∀i h h',tn i h->(∀b∈fp,∀o,h.get? b=a5 o->h'.get? b=a5 o)->tn i h'
 item:∀(X:Cx),X.prog=P->X.w=w->X.K=K->X.calm=a8->∀(i:Nat)(pins:k4p) (s:ae) (σ:St) (H:Hp) (E:k4o),Inv X pins σ H s->(∀b∈fp,V5 X pins H b)->tn i s.heap->J.go i H ->
  aw (ar P w) X.A (pyNext (.ref it)) (λr s1=>∃u,r=a5 u /\
   aw (ar P w) X.A (dk tg (.ref it) u) (λ_ s2=>∃x H',Inv X pins σ H' s2/\RelV x u/\J.yld i H x H'/\tn (i+1) s2.heap/\∀b∈fp,H' b=a7) E s1) E s
 done:∀(X:Cx),X.prog=P->X.w=w->X.K=K->X.calm=a8->∀(i:Nat)(pins:k4p) (s:ae) (σ:St) (H:Hp) (E:k4o),Inv X pins σ H s->(∀b∈fp,V5 X pins H b)->tn i s.heap->J.stop i H ->
  aw (ar P w) X.A (pyNext (.ref it)) (λr s1=>r=a7/\Inv X pins σ H s1) E s
 self:∀(A:az)(i:Nat)(s:ae)(Q:k4o)(E:k4o),tn i s.heap->Q (.ref it) s->aw (ar P w) A (jE (.ref it)) Q E s
abbrev TI:=St->Hp->(It->Hp->Prop)->Prop
def PIE(X:Cx)(pins:k4p)(σ:St)(tg:ah)(R:It->Hp->Prop)(itv:a9)(s2:ae):Prop :=
 ∃(it:af)(fp:List af)(tn:Nat->aD->Prop)(J:It)(H':Hp),itv=.ref it/\Inv X pins σ H' s2/\Turn X.prog X.w X.K tg J fp it tn/\tn 0 s2.heap/\(∀b∈fp,V5 X pins H' b)/\R J H'
def PI(X:Cx)(tg iter:ah)(wi:TI):Prop :=
 ∀(pins:k4p) (s:ae) (σ:St) (H:Hp) (R:It->Hp->Prop),Inv X pins σ H s->wi σ H R ->
  aw (ar X.prog X.w) X.A (aG iter X.env) (λv s1=>aw (ar X.prog X.w) X.A (jE v) (PIE X pins σ tg R) X.xe s1) X.xe s
theorem Ru{M:fS}{A:az}{E:k4o}{s:ae}{tg:ah}{it:af}{u:a9}{o:c7}{n:String}{vs:Array a9}{Q:Unit->ae->Prop}(ho:s.heap.get? it=a5 o)(hc:o.cls=.type n)(hd:o.data=.fields vs)
  (hn:["enumerate","zip","dict_itemiterator","dict_reverseitemiterator","odict_iterator","itertools.zip_longest","itertools.pairwise"].contains n=a6) (hQ:Q () s):aw M A (dk tg (.ref it) u) Q E s:=by
 unfold dk;cases tg<;>first
  |exact aC hQ
  |(cases u<;>first
    |exact aC hQ
    |(refine ao (wpAny_load ho ?_);rw[hc,hd];show aw M A (if (["enumerate","zip","dict_itemiterator","dict_reverseitemiterator","odict_iterator","itertools.zip_longest","itertools.pairwise"].contains n&&vs[0]?==a5 (rawInt _))=a8 then _ else _) Q E s;rw[if_neg (by intro h;rw[hn,Bool.false_and]at h;cases h)];exact aC hQ))
noncomputable def Itl(K:k4n)(a:af):It :=
 ⟨λi H=>∃xs x,SqL K H a xs/\xs[i]?=a5 x,λi H x H'=>H'=H/\∀xs,SqL K H a xs->xs[i]?=a5 x,λi H=>∃xs,SqL K H a xs/\xs.length<=i⟩
noncomputable def Itt(K:k4n)(a:af):It :=
 ⟨λi H=>∃xs x,SqT K H a xs/\xs[i]?=a5 x,λi H x H'=>H'=H/\∀xs,SqT K H a xs->xs[i]?=a5 x,λi H=>∃xs,SqT K H a xs/\xs.length<=i⟩
noncomputable def Itr(lo:Int)(n:Nat):It:=⟨λi _=>i<n,λi H x H'=>H'=H/\x=.int (lo+i),λi _=>n<=i⟩
theorem Cd{P:ak}{w:ax}{K:k4n}{tg:ah}(a it:af):Turn P w K tg (Itl K a) [it] it (λi h=>h.IsListIter it a i) where
 mem:=by simp
 obj:=λi h st b hb=>by
  have e:b=it:=by simpa using hb
  subst e;obtain⟨o,e,c,d⟩:=st;exact⟨o,e,λv z=>by rw[d]at z;cases z⟩
 keep:=λi h h' st k=>st.at λo e=>k it (by simp) o e
 item:=by intro X hP hw hK hc i pins s σ H E I hf st hg;subst hP hw hK;obtain⟨xs,x,hq,hx⟩:=hg;obtain⟨its,rv,p,hz⟩:=I.list hq;obtain⟨u,hu,ru⟩:=rv.get hx;obtain⟨f0,f1,f2,f3,f4,f5⟩:=hf it (by simp);refine wpAny_pyNext_list_item st p.isList (x:=u) (by simpa using hu) λh' st' sb=>?_;have I1:Inv X pins σ H { s with heap:=h' }:=I.turned (t':=s.toks) (λb o hb e=>(sb.2 b hb).trans e) f0 f1 f3 f4 f5;obtain⟨o,e,c,d⟩:=id st';exact⟨u,rfl,Ru (s:={ s with heap:=h' }) e c d (by decide) ⟨x,H,I1,ru,⟨rfl,λys hy=>by rw[I.list_inj hy hq];exact hx⟩,st',λb hb=>(hf b hb).1⟩⟩
 done:=by intro X hP hw hK hc i pins s σ H E I hf st hg;subst hP hw hK;obtain⟨xs,hq,hx⟩:=hg;obtain⟨its,rv,p,hz⟩:=I.list hq;obtain⟨f0,f1,f2,f3,f4,f5⟩:=hf it (by simp);have hl:=rv.length;exact wpAny_pyNext_list_end (I.ok.hd hc) st p.isList (by simp;omega) λh' eb=>⟨rfl,I.turned (t':=s.toks) (λb o hb e=>eb b o hb e) f0 f1 f3 f4 f5⟩
 self:=λ_ _ _ _ _ st h=>wpAny_pyIter_listiter st h
theorem Nt{P:ak}{w:ax}{K:k4n}{tg:ah}(a it:af):Turn P w K tg (Itt K a) [it] it (λi h=>h.IsTupleIter it a i) where
 mem:=by simp
 obj:=λi h st b hb=>by
  have e:b=it:=by simpa using hb
  subst e;obtain⟨o,e,c,d⟩:=st;exact⟨o,e,λv z=>by rw[d]at z;cases z⟩
 keep:=λi h h' st k=>st.at λo e=>k it (by simp) o e
 item:=by intro X hP hw hK hc i pins s σ H E I hf st hg;subst hP hw hK;obtain⟨xs,x,hq,hx⟩:=hg;obtain⟨its,rv,p,hz⟩:=I.tuple hq;obtain⟨u,hu,ru⟩:=rv.get hx;obtain⟨f0,f1,f2,f3,f4,f5⟩:=hf it (by simp);refine wpAny_pyNext_tuple_item st (show s.heap.IsTuple a its.toArray from p) (x:=u) (by simpa using hu) λh' st' sb=>?_;have I1:Inv X pins σ H { s with heap:=h' }:=I.turned (t':=s.toks) (λb o hb e=>(sb.2 b hb).trans e) f0 f1 f3 f4 f5;obtain⟨o,e,c,d⟩:=id st';exact⟨u,rfl,Ru (s:={ s with heap:=h' }) e c d (by decide) ⟨x,H,I1,ru,⟨rfl,λys hy=>by rw[I.tuple_inj hy hq];exact hx⟩,st',λb hb=>(hf b hb).1⟩⟩
 done:=by intro X hP hw hK hc i pins s σ H E I hf st hg;subst hP hw hK;obtain⟨xs,hq,hx⟩:=hg;obtain⟨its,rv,p,hz⟩:=I.tuple hq;obtain⟨f0,f1,f2,f3,f4,f5⟩:=hf it (by simp);have hl:=rv.length;exact wpAny_pyNext_tuple_end (I.ok.hd hc) st (show s.heap.IsTuple a its.toArray from p) (by simp;omega) λh' eb=>⟨rfl,I.turned (t':=s.toks) (λb o hb e=>eb b o hb e) f0 f1 f3 f4 f5⟩
 self:=λ_ _ _ _ _ st h=>wpAny_pyIter_tupleiter st h
theorem Nu{P:ak}{w:ax}{K:k4n}{tg:ah}(it:af)(lo:Int)(n:Nat):Turn P w K tg (Itr lo n) [it] it (λi h=>IsRangeIter h it (lo+(i:Nat)*1) ((n:Int)-(i:Nat)) 1) where
 mem:=by simp
 obj:=λi h st b hb=>by
  have e:b=it:=by simpa using hb
  subst e;exact⟨_,st,λv z=>by
   have z':Data.fields _=Data.cell v:=z
   cases z'⟩
 keep:=λi h h' st k=>k it (by simp) _ st
 item:=by intro X hP hw hK hc i pins s σ H E I hf st hg;subst hP hw hK;obtain⟨f0,f1,f2,f3,f4,f5⟩:=hf it (by simp);have W:=Walks.range (prog:=X.prog) (w:=X.w) (I.ok.hd hc) it lo 1 n;refine W.item i s _ _ hg st λv h' tk hv st' kk=>?_;obtain⟨t,rfl⟩:=hv;have I1:Inv X pins σ H { s with heap:=h',toks:=tk }:=I.turned (λb o hb e=>kk b o (by simpa using hb) e) f0 f1 f3 f4 f5;refine⟨_,rfl,Ru (s:={ s with heap:=h',toks:=tk }) (n:="range_iterator") st' rfl rfl (by decide) ⟨.int (lo+i),H,I1,⟨t,?_⟩,⟨rfl,rfl⟩,st',λb hb=>(hf b hb).1⟩⟩;rw[Int.mul_one]
 done:=by intro X hP hw hK hc i pins s σ H E I hf st hg;subst hP hw hK;obtain⟨f0,f1,f2,f3,f4,f5⟩:=hf it (by simp);exact wpAny_pyNext_range_end (I.ok.hd hc) st (by have:n<=i:=hg;omega) λh' eb=>⟨rfl,I.turned (t':=s.toks) (λb o hb e=>eb b o hb e) f0 f1 f3 f4 f5⟩
 self:=λ_ _ _ _ _ st h=>wpAny_pyIter_rangeiter st h
section
variable{X:Cx}{tg:ah}
def jam(K:k4n)(tl:TE):TI:=λσ H R=>tl σ H λx H1=>∃a,x=.ref a/\(∃xs,SqL K H1 a xs)/\R (Itl K a) H1
def jci(K:k4n)(tl:TE):TI:=λσ H R=>tl σ H λx H1=>∃a,x=.ref a/\(∃xs,SqT K H1 a xs)/\R (Itt K a) H1
theorem j3x{l:ah}{tl:TE}(hl:PE X l tl):PI X tg l (jam X.K tl):=by
 intro pins s σ H R I h;refine thn (hl pins s σ H _ I h) λv s1 ⟨x,H1,I1,r1,q1⟩=>?_;obtain⟨a,e,⟨xs,hq⟩,q⟩:=q1;subst e;cases r1;obtain⟨its,rv,p,hz⟩:=I1.list hq;refine cW p.isList ?_;refine⟨s1.heap.objs.size,[s1.heap.objs.size],_,_,H1,rfl,I1.kept (t':=s1.toks) λb o e=>xq _ e,Cd a _,⟨_,Xc _ rfl,rfl,rfl⟩,λb hb=>?_,q⟩;have e:b=s1.heap.objs.size:=by simpa using hb
 subst e;exact I1.fpOk (xx _) (I1.hok.fresh (xx _))
theorem j6f{l:ah}{tl:TE}(hl:PE X l tl):PI X tg l (jci X.K tl):=by
 intro pins s σ H R I h;refine thn (hl pins s σ H _ I h) λv s1 ⟨x,H1,I1,r1,q1⟩=>?_;obtain⟨a,e,⟨xs,hq⟩,q⟩:=q1;subst e;cases r1;obtain⟨its,rv,p,hz⟩:=I1.tuple hq;refine gU (show s1.heap.IsTuple a its.toArray from p) ?_;refine⟨s1.heap.objs.size,[s1.heap.objs.size],_,_,H1,rfl,I1.kept (t':=s1.toks) λb o e=>xq _ e,Nt a _,⟨_,Xc _ rfl,rfl,rfl⟩,λb hb=>?_,q⟩;have e:b=s1.heap.objs.size:=by simpa using hb
 subst e;exact I1.fpOk (xx _) (I1.hok.fresh (xx _))
theorem Ml{pins:k4p}{σ:St}{H:Hp}{s:ae}{R:It->Hp->Prop}{E:k4o}{lo hi:Int}{t u v:i9}{tk:Nat}(I:Inv X pins σ H s)(h1:-(2^62)<=lo)(h2:lo<2^62)(h3:-(2^62)<=hi)(h4:hi<2^62)
  (q:R (Itr lo (hi-lo).toNat) H):aw (ar X.prog X.w) X.A (jE (.ref s.heap.objs.size)) (PIE X pins σ tg R) E { s with heap:=s.heap.push { cls:=.type "range",data:=.fields #[.int lo t,.int hi u,.int 1 v] },toks:=tk }:=by
 refine wpAny_pyIter_range (IsRange.new ..) (small_one h1 h2 h3 h4) ?_;have I1:Inv X pins σ H { s with heap:=s.heap.push { cls:=.type "range",data:=.fields #[.int lo t,.int hi u,.int 1 v] },toks:=tk }:=I.kept λb o e=>xq _ e;refine⟨(s.heap.push { cls:=.type "range",data:=.fields #[.int lo t,.int hi u,.int 1 v] }).objs.size,[(s.heap.push { cls:=.type "range",data:=.fields #[.int lo t,.int hi u,.int 1 v] }).objs.size],_,_,H,rfl,
  I1.kept (t':=tk) λb o e=>xq _ e,Nu _ lo (hi-lo).toNat,?_,λb hb=>?_,q⟩
 .have e1:lo+((0:Nat):Int)*1=lo:=by simp
  have e2:(((hi-lo).toNat:Nat):Int)-((0:Nat):Int)=Builtin.Range.rangeSize lo hi 1:=by rw[rangeSize_one];split<;>omega
  show IsRangeIter _ _ (lo+((0:Nat):Int)*1) ((((hi-lo).toNat:Nat):Int)-((0:Nat):Int)) 1;rw[e1,e2];exact Xc _ rfl
 .have e:b=(s.heap.push { cls:=.type "range",data:=.fields #[.int lo t,.int hi u,.int 1 v] }).objs.size:=by simpa using hb
  subst e;exact I1.fpOk (xx _) (I1.hok.fresh (xx _))
def jal(ta:TA):TI:=λσ H R=>ta σ H λvs H1=>∃j:Int,vs=[.int j]/\-(2^62)<=j/\j<2^62/\R (Itr 0 j.toNat) H1
def jak(ta:TA):TI:=λσ H R=>ta σ H λvs H1=>∃i j:Int,vs=[.int i,.int j]/\(-(2^62)<=i/\i<2^62/\-(2^62)<=j/\j<2^62)/\R (Itr i (j-i).toNat) H1
theorem Ln {a:ah} {ta:TA} {p pos:aN} (hg:Gl X "range") (hm:X.mg "range" = a7) (ha:PA X [a] ta) (hs:aa [a] X.env=[(a6,aG a X.env)]:=by rfl):PI X tg (.Call (.Name "range" p) [a] [] pos) (jal ta):=by
 intro pins s σ H R I h;refine Call_ (Zb I hg hm boot_range (callWith_type1 (thn (ha pos pins s σ H _ I h) λus s1 ⟨vs,H1,I1,r1,q1⟩=>?_) hs rfl));obtain⟨j,e,q1,q2,q⟩:=q1;subst e;cases r1 with
 |cons r rr =>cases rr;obtain⟨t,rfl⟩:=r;exact call_range_1 (Ml I1 nofun nofun q1 q2 (by simpa using q))
theorem Lj {a b:ah} {ta:TA} {p pos:aN} (hg:Gl X "range") (hm:X.mg "range" = a7) (ha:PA X [a,b] ta) (hs:aa [a,b] X.env=[(a6,aG a X.env),(a6,aG b X.env)]:=by rfl) (hs2:aa [b] X.env=[(a6,aG b X.env)]:=by rfl) :
  PI X tg (.Call (.Name "range" p) [a,b] [] pos) (jak ta):=by
 intro pins s σ H R I h;refine Call_ (Zb I hg hm boot_range (callWith_type1 (thn (ha pos pins s σ H _ I h) λus s1 ⟨vs,H1,I1,r1,q1⟩=>?_) (by rw[hs,hs2]) (by rw[hs2];rfl)));obtain⟨i,j,e,⟨q1,q2,q3,q4⟩,q⟩:=q1;subst e;cases r1 with
 |cons r rr =>
  cases rr with
  |cons r' rr =>cases rr;obtain⟨t,rfl⟩:=r;obtain⟨t',rfl⟩:=r';exact call_range_2 (Ml I1 q1 q2 q3 q4 q)
def jby(wi:TI)(g:TG)(tb:TS):TS:=λD σ H=>wi σ H λJ H1=>∃W:Nat->Nat->St->Hp->Prop,(∃m,W 0 m σ H1)/\∀i m σ H,W i m σ H ->
 (J.stop i H/\D.nx σ H)\/(J.go i H/\∃N:St->Hp->Prop,(∀σ' H',N σ' H'->∃m',m'<m/\W (i+1) m' σ' H')/\∀x H',J.yld i H x H'->g x σ H' λσ2 H2=>tb { D with nx:=N,ct:=N,bk:=D.nx } σ2 H2)
noncomputable def Qk(fp:List af)(h:aD):List (af×c7):=fp.filterMap λb=>(h.get? b).map λo=>(b,o)
theorem Jj{fp:List af}{h:aD}{b:af}{o:c7}(hb:b∈fp)(e:h.get? b=a5 o):(b,o)∈Qk fp h:=Xv.mpr ⟨b,hb,by rw[e];rfl⟩
theorem Wj{fp:List af}{h:aD}{p:af×c7}(hp:p∈Qk fp h):p.1∈fp/\h.get? p.1=a5 p.2:=by
 obtain⟨b,hb,e⟩:=Xv.mp hp;cases q:h.get? b with
 |none=>rw[q]at e;cases e
 |some o =>rw[q]at e;have e':(b,o)=p:=aB e;subst e';exact⟨hb,q⟩
theorem Inv.pinned{pins:k4p}{σ:St}{H:Hp}{s:ae}{fp:List af}(I:Inv X pins σ H s)(hf:∀b∈fp,V5 X pins H b)(ho:∀b∈fp,∃o,s.heap.get? b=a5 o/\∀v,o.data≠.cell v):Inv X (pins++Qk fp s.heap) σ H s :=
 I.pins_of λp hp=>(List.mem_append.mp hp).elim (λz=>I.pin p (X8 _ z)) λz=>by obtain⟨hb,e⟩:=Wj z;obtain⟨f0,f1,f2,_⟩:=hf p.1 hb;obtain⟨o,e',d⟩:=ho p.1 hb;rw[e]at e';cases e';exact⟨e,f0,f1,f2,d⟩
theorem Inv.unpinned{pins pl:k4p}{σ:St}{H:Hp}{s:ae}(I:Inv X (pins++pl) σ H s):Inv X pins σ H s:=I.pins_of λp hp=>I.pin p (X8 _ (Xm _ hp))
theorem j6d{iter:ah}{body:List aM}{wi:TI}{g:TG}{tb:TS}{pos:aN}(hp:eT (ar X.prog X.w) X.A X.env X.xe)(hc:X.calm=a8)(hi:PI X tg iter wi)(hg:PG X tg g)(hb:PSs X body tb)
  (hs:∀x,aQ iter X.env x=pure x:=by intro _;rfl):PS X (.For tg iter body [] pos) (jby wi g tb):=by
 intro pins s σ H D I h;refine wpAny_For (thn (hi pins s σ H _ I h) λv s1 h1=>thn h1 λitv s2 h2=>?_) hs;obtain⟨it,fp,tn,J,H2,e,I2,T,st2,f2,W,⟨m0,w0⟩,turn⟩:=h2;subst e;have stat:∀{H':Hp},(∀b∈fp,H' b=a7)->∀b∈fp,V5 X pins H' b:=λhn b hb=>⟨hn b hb,(f2 b hb).2⟩
 refine codeAny_forLoop_any (λn s'=>∃i σ' H',Inv X pins σ' H' s'/\tn i s'.heap/\(∀b∈fp,H' b=a7)/\W i n σ' H') ?_ m0 ⟨0,σ,H2,I2,st2,λb hb=>(f2 b hb).1,w0⟩;rintro n s3 ⟨i,σ3,H3,I3,st3,fr3,w3⟩;rcases turn i n σ3 H3 w3 with ⟨stop,qn⟩|⟨go,N,hN,step⟩
 .refine cx hp (thn (T.done X rfl rfl rfl hc i pins s3 σ3 H3 X.xe I3 (stat fr3) st3 stop) λr s4 ⟨hr,I4⟩=>?_);subst hr;exact j3 ⟨σ3,H3,I4,qn⟩
 .refine cx hp (thn (T.item X rfl rfl rfl hc i pins s3 σ3 H3 X.xe I3 (stat fr3) st3 go) λr s4 ⟨u,hr,h4⟩=>?_);subst hr;refine cx hp (thn h4 λ_ s5 ⟨x,H5,I5,r5,y5,st5,fr5⟩=>?_);have I5':=I5.pinned (stat fr5) (T.obj _ _ st5);refine cx hp (thn (hg _ s5 σ3 H5 x u _ I5' r5 (step x H5 y5)) λ_ s6 ⟨σ6,H6,I6,q6⟩=>?_);refine cx hp (thn (hb _ s6 σ6 H6 _ I6 q6) λf s7 q7=>?_);have i8:∀{σ7:St}{H7:Hp},Inv X (pins++Qk fp s5.heap) σ7 H7 s7->N σ7 H7->∃m,m<n/\∃i σ' H',Inv X pins σ' H' s7/\tn i s7.heap/\(∀b∈fp,H' b=a7)/\W i m σ' H':=λ{σ7 H7} I7 n7=>by obtain⟨m',hm,w7⟩:=hN σ7 H7 n7;refine⟨m',hm,i+1,σ7,H7,I7.unpinned,T.keep _ _ _ st5 λb hb o e=>(I7.pin (b,o) (X8 _ (X8 _ (Jj hb e)))).1,λb hb=>?_,w7⟩;obtain⟨o,e,d⟩:=T.obj _ _ st5 b hb;exact(I7.pin (b,o) (X8 _ (X8 _ (Jj hb e)))).2.1
  cases f with
  |next=>obtain⟨σ7,H7,I7,n7⟩:=q7;exact i8 I7 n7
  |cont=>obtain⟨σ7,H7,I7,n7⟩:=q7;exact i8 I7 n7
  |brk=>obtain⟨σ7,H7,I7,q7⟩:=q7;exact⟨σ7,H7,I7.unpinned,q7⟩
  |ret v=>obtain⟨x7,σ7,H7,H8,I7,r7,x8,q7⟩:=q7;exact⟨x7,σ7,H7,H8,I7.unpinned,r7,x8,q7⟩
end
abbrev R2:=V->V->Hp->VK->Prop
def OpR(X:Cx)(f:a9->a9->gz a9)(r:R2):Prop :=
 ∀(pins:k4p) (s:ae) (σ:St) (H:Hp) (x y:V) (v u:a9) (Q:VK),Inv X pins σ H s->RelV x v->RelV y u->r x y H Q ->
  aw (ar X.prog X.w) X.A (f v u) (EP X pins σ Q) X.xe s
def UnR(X:Cx)(f:a9->gz a9)(r:V->Hp->VK->Prop):Prop :=
 ∀(pins:k4p) (s:ae) (σ:St) (H:Hp) (x:V) (v:a9) (Q:VK),Inv X pins σ H s->RelV x v->r x H Q ->
  aw (ar X.prog X.w) X.A (f v) (EP X pins σ Q) X.xe s
def zm(X:Cx)(f:a9)(r:List V->Hp->VK->Prop):Prop :=
 ∀(pins:k4p) (s:ae) (σ:St) (H:Hp) (xs:List V) (us:List a9) (Q:VK),Inv X pins σ H s->Vals xs us->r xs H Q ->
  aw (ar X.prog X.w) X.A (call f us) (EP X pins σ Q) X.xe s
def tOp(r:R2)(ta tb:TE):TE:=λσ H Q=>ta σ H λx H1=>tb σ H1 λy H2=>r x y H2 Q
def tUn(r:V->Hp->VK->Prop)(ta:TE):TE:=λσ H Q=>ta σ H λx H1=>r x H1 Q
def rI(C:Int->Int->Prop)(g:Int->Int->V):R2:=λx y H Q=>∃i j,x=.int i/\y=.int j/\C i j/\Q (g i j) H
def rI0(g:Int->Int->V):R2:=λx y H Q=>∃i j,x=.int i/\y=.int j/\Q (g i j) H
def rU(g:Int->V):V->Hp->VK->Prop:=λx H Q=>∃i,x=.int i/\Q (g i) H
section
variable{X:Cx}{a b c:ah}{ta tb tc:TE}{pos:aN}
theorem j1x(ha:PE X a ta)(hb:PE X b tb){pins:k4p}{s:ae}{σ:St}{H:Hp}{R:V->V->Hp->Prop}(I:Inv X pins σ H s)
  (h:ta σ H λx H1=>tb σ H1 λy H2=>R x y H2) {Q:k4o} {f:a9->a9->gz a9}
  (hf:∀v u s2 x y H2,Inv X pins σ H2 s2->RelV x v->RelV y u->R x y H2->aw (ar X.prog X.w) X.A (f v u) Q X.xe s2) :
  aw (ar X.prog X.w) X.A (aG a X.env) (λv s₁=>aw (ar X.prog X.w) X.A (aG b X.env) (λu s₂=>aw (ar X.prog X.w) X.A (f v u) Q X.xe s₂) X.xe s₁) X.xe s:=by
 refine thn (ha pins s σ H _ I h) λv s1 ⟨x,H1,I1,r1,q1⟩=>?_;refine thn (hb pins s1 σ H1 _ I1 q1) λu s2 ⟨y,H2,I2,r2,q2⟩=>?_;exact hf v u s2 x y H2 I2 r1 r2 q2
theorem Qx{op:gI}{r:R2}(ho:OpR X (aV op) r)(ha:PE X a ta)(hb:PE X b tb):PE X (.BinOp a op b pos) (tOp r ta tb):=by intro pins s σ H Q I h;exact wpAny_BinOp (j1x ha hb I h λv u s2 x y H2 I2 rx ry q=>ho pins s2 σ H2 x y v u Q I2 rx ry q)
theorem j9y{op:UnaryOp}{r:V->Hp->VK->Prop}(ho:UnR X (unaryOp op) r)(ha:PE X a ta):PE X (.UnaryOp op a pos) (tUn r ta):=by intro pins s σ H Q I h;exact UnaryOp_ (thn (ha pins s σ H _ I h) λv s1 ⟨x,H1,I1,r1,q1⟩=>ho pins s1 σ H1 x v Q I1 r1 q1)
theorem opI{f:a9->a9->gz a9}{C:Int->Int->Prop}{g:Int->Int->Int}
  (iF:∀(i j:Int)(t u:i9)(s:ae)(Q:k4o)(E:k4o),C i j->Q (.int (g i j) s.toks) { s with toks:=s.toks+1 }->aw (ar X.prog X.w) X.A (f (.int i t) (.int j u)) Q E s) :
  OpR X f (rI C λi j=>.int (g i j)):=by
 intro pins s σ H x y v u Q I rx ry h;obtain⟨i,j,rfl,rfl,hc,q⟩:=h;obtain⟨t,rfl⟩:=rx;obtain⟨t',rfl⟩:=ry;exact iF i j t t' s _ _ hc ⟨.int (g i j),H,I.tok _,⟨_,rfl⟩,q⟩
theorem Fg{f:a9->a9->gz a9}{g:Int->Int->Int}
  (iF:∀(i j:Int)(t u:i9)(s:ae)(Q:k4o)(E:k4o),Q (.int (g i j) s.toks) { s with toks:=s.toks+1 }->aw (ar X.prog X.w) X.A (f (.int i t) (.int j u)) Q E s) :
  OpR X f (rI0 λi j=>.int (g i j)):=by
 intro pins s σ H x y v u Q I rx ry h;obtain⟨i,j,rfl,rfl,q⟩:=h;obtain⟨t,rfl⟩:=rx;obtain⟨t',rfl⟩:=ry;exact iF i j t t' s _ _ ⟨.int (g i j),H,I.tok _,⟨_,rfl⟩,q⟩
theorem Fj{f:a9->a9->gz a9}{g:Int->Int->Bool}
  (iF:∀(i j:Int)(t u:i9)(s:ae)(Q:k4o)(E:k4o),Q (.bool (g i j)) s->aw (ar X.prog X.w) X.A (f (.int i t) (.int j u)) Q E s) :
  OpR X f (rI0 λi j=>.bl (g i j)):=by
 intro pins s σ H x y v u Q I rx ry h;obtain⟨i,j,rfl,rfl,q⟩:=h;obtain⟨t,rfl⟩:=rx;obtain⟨t',rfl⟩:=ry;exact iF i j t t' s _ _ ⟨.bl (g i j),H,I,rfl,q⟩
def Dv(i j:Int):Prop:=0<=j/\j<=1000000/\i.natAbs<2^64
def Dw(i j:Int):Prop:=(-(2^64)<i/\i<2^64)\/(-(2^64)<j/\j<2^64)
theorem Dw.ok{i j:Int}(h:Dw i j):IntMulOk i j:=by
 rcases h with ⟨h1,h2⟩|⟨h1,h2⟩
 .exact .of_left (jM h1 h2)
 .exact .of_right (jM h1 h2)
theorem Nr(k:Nat):(0:Int)<=2^k:=by rw[two_pow_cast];exact gr _
theorem j6u:OpR X (aV .Add) (rI0 λi j=>.int (i+j)):=Fg λ_ _ _ _ _ _ _ q=>add_int q
theorem j6m:OpR X (aV .Sub) (rI0 λi j=>.int (i-j)):=Fg λ_ _ _ _ _ _ _ q=>sub_int q
theorem j6r:OpR X (aV .Mult) (rI Dw λi j=>.int (i*j)):=opI λ_ _ _ _ _ _ _ hc q=>mul_int q hc.ok
theorem j6s:OpR X (aV .Mod) (rI (λ_ j=>0<j) λi j=>.int (i%j)):=opI λi j _ _ _ _ _ hc q=>by have h1:(0:Int)<j:=hc;exact mod_int' nofun (by rw[Int.fmod_eq_emod_of_nonneg i nofun];exact q)
theorem j6q:OpR X (aV .Pow) (rI Dv λi j=>.int (i^j.toNat)):=opI λ_ _ _ _ _ _ _ hc q=>pow_int_small hc.1 hc.2.1 hc.2.2 q
theorem j6o:OpR X (aV .LShift) (rI Dv λi j=>.int (i*2^j.toNat)):=opI λ_ _ _ _ _ _ _ hc q=>lshift_int_small hc.1 hc.2.1 hc.2.2 q
theorem j6n:OpR X (aV .RShift) (rI (λ_ j=>0<=j) λi j=>.int (i/2^j.toNat)):=opI λi j _ _ _ _ _ hc q =>rshift_int hc (by rw[eV i (Nr _)];exact q)
theorem j6t:OpR X (aV .BitAnd) (rI0 λi j=>.int (Builtin.bitAnd i j)):=Fg λ_ _ _ _ _ _ _ q=>and_int q
theorem j6l:OpR X (aV .BitXor) (rI0 λi j=>.int (Builtin.bitXor i j)):=Fg λ_ _ _ _ _ _ _ q=>xor_int q
theorem unI{f:a9->gz a9}{g:Int->Int}
  (iF:∀(i:Int)(t:i9)(s:ae)(Q:k4o)(E:k4o),Q (.int (g i) s.toks) { s with toks:=s.toks+1 }->aw (ar X.prog X.w) X.A (f (.int i t)) Q E s) :
  UnR X f (rU λi=>.int (g i)):=by
 intro pins s σ H x v Q I rx h;obtain⟨i,rfl,q⟩:=h;obtain⟨t,rfl⟩:=rx;exact iF i t s _ _ ⟨.int (g i),H,I.tok _,⟨_,rfl⟩,q⟩
theorem j5g:UnR X (unaryOp .USub) (rU λi=>.int (-i)):=unI λ_ _ _ _ _ q=>neg_int q
end
noncomputable def Uv:V->V->Bool
 |.non,.non=>a8|.non,.int _=>a8|.int _,.non=>a8|.non,.bl _=>a8|.bl _,.non=>a8|.non,.str _=>a8|.str _,.non=>a8
 |.int _,.int _=>a8|.bl _,.bl _=>a8|.str _,.str _=>a8|.byt _,.byt _=>a8
 |.int _,.str _=>a8|.str _,.int _=>a8|.bl _,.str _=>a8|.str _,.bl _=>a8
 |_,_=>a6
def rEq:R2:=λx y H Q=>Uv x y=a8/\Q (.bl (decide (x=y))) H
def rNe:R2:=λx y H Q=>Uv x y=a8/\Q (.bl (!decide (x=y))) H
theorem Ni{i j:Int}:decide (V.int i=V.int j)=(i==j):=by rw[d8];simp
theorem Kw{i j:Bool}:decide (V.bl i=V.bl j)=(i==j):=by rw[d8];simp
theorem Nh{i j:ag}:decide (V.str i=V.str j)=(i==j):=by rw[d8];simp
theorem Nj{i j:Array UInt8}:decide (V.byt i=V.byt j)=(i.toList==j.toList):=by rw[d8];cases i;cases j;simp
section
variable{X:Cx}{a b c:ah}{ta tb tc:TE}{pos:aN}
theorem jj{pins:k4p}{σ:St}{H:Hp}{s:ae}{Q:VK}{k k':Bool}(I:Inv X pins σ H s)(q:Q (.bl k) H)(e:k=k'):EP X pins σ Q (.bool k') s:=by subst e;exact⟨.bl k,H,I,rfl,q⟩
theorem j2l:OpR X (aW .Eq) rEq:=by
 intro pins s σ H x y v u Q I rx ry h;obtain⟨hs,q⟩:=h;cases x with
 |non =>
  cases rx;cases y with
  |non=>cases ry;exact iX (jj I q (by simp))
  |bl j=>cases ry;exact iZ (jj I q (by simp))
  |int j=>obtain⟨t',rfl⟩:=ry;exact iY (jj I q (by simp))
  |str j=>obtain⟨t',rfl⟩:=ry;exact iW (jj I q (by simp))
  |_=>exact absurd (show a6=a8 from hs) xr
 |bl i =>
  cases rx;cases y with
  |non=>cases ry;exact j2 (jj I q (by simp))
  |bl j=>cases ry;exact eq_bool (jj I q Kw)
  |str j=>obtain⟨t',rfl⟩:=ry;exact iy (jj I q (by simp))
  |_=>exact absurd (show a6=a8 from hs) xr
 |int i =>
  obtain⟨t,rfl⟩:=rx;cases y with
  |non=>cases ry;exact j1 (jj I q (by simp))
  |int j=>obtain⟨t',rfl⟩:=ry;exact eq_int (jj I q Ni)
  |str j=>obtain⟨t',rfl⟩:=ry;exact iw (jj I q (by simp))
  |_=>exact absurd (show a6=a8 from hs) xr
 |str i =>
  obtain⟨t,rfl⟩:=rx;cases y with
  |non=>cases ry;exact iV (jj I q (by simp))
  |bl j=>cases ry;exact iv (jj I q (by simp))
  |int j=>obtain⟨t',rfl⟩:=ry;exact iu (jj I q (by simp))
  |str j=>obtain⟨t',rfl⟩:=ry;exact eq_str (jj I q Nh)
  |_=>exact absurd (show a6=a8 from hs) xr
 |byt i =>
  obtain⟨t,rfl⟩:=rx;cases y with
  |byt j=>obtain⟨t',rfl⟩:=ry;exact W.eq_bytes (jj I q Nj)
  |_=>exact absurd (show a6=a8 from hs) xr
 |_=>cases y<;>exact absurd (show a6=a8 from hs) xr
theorem j2g:OpR X (aW .NotEq) rNe:=by
 intro pins s σ H x y v u Q I rx ry h;obtain⟨hs,q⟩:=h;cases x with
 |non =>
  cases rx;cases y with
  |non=>cases ry;exact iQ (jj I q (by simp))
  |bl j=>cases ry;exact iS (jj I q (by simp))
  |int j=>obtain⟨t',rfl⟩:=ry;exact iR (jj I q (by simp))
  |str j=>obtain⟨t',rfl⟩:=ry;exact iP (jj I q (by simp))
  |_=>exact absurd (show a6=a8 from hs) xr
 |bl i =>
  cases rx;cases y with
  |non=>cases ry;exact iU (jj I q (by simp))
  |bl j=>cases ry;exact ne_bool (jj I q (congrArg not Kw))
  |str j=>obtain⟨t',rfl⟩:=ry;exact ir (jj I q (by simp))
  |_=>exact absurd (show a6=a8 from hs) xr
 |int i =>
  obtain⟨t,rfl⟩:=rx;cases y with
  |non=>cases ry;exact iT (jj I q (by simp))
  |int j=>obtain⟨t',rfl⟩:=ry;exact ne_int (jj I q (congrArg not Ni))
  |str j=>obtain⟨t',rfl⟩:=ry;exact iq (jj I q (by simp))
  |_=>exact absurd (show a6=a8 from hs) xr
 |str i =>
  obtain⟨t,rfl⟩:=rx;cases y with
  |non=>cases ry;exact iO (jj I q (by simp))
  |bl j=>cases ry;exact ip (jj I q (by simp))
  |int j=>obtain⟨t',rfl⟩:=ry;exact il (jj I q (by simp))
  |str j=>obtain⟨t',rfl⟩:=ry;exact ne_str (jj I q (congrArg not Nh))
  |_=>exact absurd (show a6=a8 from hs) xr
 |byt i =>
  obtain⟨t,rfl⟩:=rx;cases y with
  |byt j=>obtain⟨t',rfl⟩:=ry;exact W.ne_bytes (jj I q (congrArg not Nj))
  |_=>exact absurd (show a6=a8 from hs) xr
 |_=>cases y<;>exact absurd (show a6=a8 from hs) xr
theorem j2h:OpR X (aW .Lt) (rI0 λi j=>.bl (decide (i<j))):=Fj λ_ _ _ _ _ _ _ q=>lt_int q
theorem j2i:OpR X (aW .LtE) (rI0 λi j=>.bl (decide (i<=j))):=Fj λ_ _ _ _ _ _ _ q=>le_int q
theorem j2j:OpR X (aW .Gt) (rI0 λi j=>.bl (decide (j<i))):=Fj λ_ _ _ _ _ _ _ q=>gt_int q
theorem j2k:OpR X (aW .GtE) (rI0 λi j=>.bl (decide (j<=i))):=Fj λ_ _ _ _ _ _ _ q=>ge_int q
theorem Wg:OpR X (aW .Lt) (λx y H Q=>∃i j,x=.str i/\y=.str j/\Q (.bl (decide (i.cps.toList<j.cps.toList))) H):=by intro pins s σ H x y v u Q I rx ry h;obtain⟨i,j,rfl,rfl,q⟩:=h;obtain⟨t,rfl⟩:=rx;obtain⟨t',rfl⟩:=ry;exact lt_str (jj I q rfl)
theorem Wh:OpR X (aW .In) (λx y H Q=>∃i j,x=.str i/\y=.str j/\Q (.bl (!(Builtin.Str.occurrences j i 0 j.length 1).isEmpty)) H):=by intro pins s σ H x y v u Q I rx ry h;obtain⟨i,j,rfl,rfl,q⟩:=h;obtain⟨t,rfl⟩:=rx;obtain⟨t',rfl⟩:=ry;exact in_str (jj I q rfl)
theorem qw(b:ah){op:eY}(h:op≠.In:=by decide)(h2:op≠.NotIn:=by decide):aJ op b=a6:=by
 have e1:(op==CmpOp.In)=a6:=by cases op<;>first|rfl|exact absurd rfl h
 have e2:(op==CmpOp.NotIn)=a6:=by cases op<;>first|rfl|exact absurd rfl h2
 cases b<;>simp[aJ,e1,e2]
theorem vm{op:eY}{r:R2}(ho:OpR X (aW op) r)(ha:PE X a ta)(hb:PE X b tb)(hm:aJ op b=a6):PE X (.Compare a [op] [b] pos) (tOp r ta tb):=by intro pins s σ H Q I h;exact jD (j1x ha hb I h λv u s2 x y H2 I2 rx ry q=>ho pins s2 σ H2 x y v u Q I2 rx ry q) hm
def j9d(t:TE):TT:=λσ H Q=>t σ H λx H'=>∃k,x=.bl k/\Q k H'
theorem vh{op:eY}{r:R2}(ho:OpR X (aW op) r)(ha:PE X a ta)(hb:PE X b tb)(hm:aJ op b=a6):PT X (.Compare a [op] [b] pos) (j9d (tOp r ta tb)):=by
 intro pins s σ H Q I h;refine gx (thn (ha pins s σ H _ I h) λv s1 ⟨x,H1,I1,r1,q1⟩=>thn (hb pins s1 σ H1 _ I1 q1) λu s2 ⟨y,H2,I2,r2,q2⟩ =>
  thn (ho pins s2 σ H2 x y v u _ I2 r1 r2 q2) λc s3 ⟨z,H3,I3,r3,k,e,q3⟩=>?_) hm
 subst e;cases r3;exact bE ⟨H3,I3,q3⟩
theorem Ve:(ai:Nat)<2^63:=by rw[ba];decide
theorem Ff:OpR X (aV .Add) (λx y H Q=>∃i j,x=.str i/\y=.str j/\i.length+j.length<=ai/\Q (.str (i++j)) H):=by intro pins s σ H x y v u Q I rx ry h;obtain⟨i,j,rfl,rfl,hz,q⟩:=h;obtain⟨t,rfl⟩:=rx;obtain⟨t',rfl⟩:=ry;exact add_str (λt' tk=>⟨.str (i++j),H,I.tok _,⟨_,rfl⟩,q⟩) hz
theorem vals1{x:V}{us:List a9}(r:Vals [x] us):∃u,us=[u]/\RelV x u:=by
 cases r with
 |cons r1 r2=>cases r2;exact⟨_,rfl,r1⟩
theorem vals2{x y:V}{us:List a9}(r:Vals [x,y] us):∃u w',us=[u,w']/\RelV x u/\RelV y w':=by
 cases r with
 |cons r1 r2 =>
  cases r2 with
  |cons r3 r4=>cases r4;exact⟨_,_,rfl,r1,r3⟩
theorem Iv (hc:X.calm=a8):zm X (.builtin "max") (λxs H Q=>∃i j,xs=[.int i,.int j]/\Q (.int (if j>i then j else i)) H):=by
 intro pins s σ H xs us Q I r h;obtain⟨i,j,rfl,q⟩:=h;obtain⟨u,w',rfl,⟨t,rfl⟩,⟨t',rfl⟩⟩:=vals2 r;refine max_two_ints (I.ok.hd hc) λh' tk k=>⟨_,H,I.kept k,?_,q⟩
 by_cases hj:j>i
 .rw[if_pos hj,if_pos hj];exact⟨_,rfl⟩
 .rw[if_neg hj,if_neg hj];exact⟨_,rfl⟩
theorem Ir (hc:X.calm=a8):zm X (.builtin "min") (λxs H Q=>∃i j,xs=[.int i,.int j]/\Q (.int (if j<i then j else i)) H):=by
 intro pins s σ H xs us Q I r h;obtain⟨i,j,rfl,q⟩:=h;obtain⟨u,w',rfl,⟨t,rfl⟩,⟨t',rfl⟩⟩:=vals2 r;refine min_two_ints (I.ok.hd hc) λh' tk k=>⟨_,H,I.kept k,?_,q⟩
 by_cases hj:j<i
 .rw[if_pos hj,if_pos hj];exact⟨_,rfl⟩
 .rw[if_neg hj,if_neg hj];exact⟨_,rfl⟩
theorem Eb:zm X (.type "int") (λxs H Q=>(∃i,xs=[.int i]/\Q (.int i) H)\/∃k,xs=[.bl k]/\Q (.int (if k then 1 else 0)) H):=by
 intro pins s σ H xs us Q I r h;rcases h with ⟨i,rfl,q⟩|⟨k,rfl,q⟩
 .obtain⟨u,rfl,t,rfl⟩:=vals1 r;exact call_int_int ⟨.int i,H,I,⟨_,rfl⟩,q⟩
 .obtain⟨u,rfl,r1⟩:=vals1 r;cases r1;exact call_int_bool ⟨.int (if k then 1 else 0),H,I.tok _,⟨_,rfl⟩,q⟩
end
structure ObjM(h:aD)(x dx C:af)(mA:k4q):Prop where
 obj:h.get? x=a5 (W.instObj C dx)
 ns:h.Ns1 dx mA
 ne:dx≠x
section
variable{prog:ak}{w:ax}{A:az}{E:k4o}{s:ae}{K:k4n}{x dx C f:af}{mA:k4q}{name:ag}{v:a9}
end
noncomputable def j0e(f:ag)(v:V):List (ag×V)->List (ag×V)
 |[]=>[(f,v)]
 |(g,x)::r=>if g=f then(g,v)::r else(g,x)::j0e f v r
section
variable{P:ak}{w:ax}{H H':Hp}{h h':aD}{a C dx:af}{fs fs':List (ag×V)}
end
structure Cls(K:k4n)(C:af):Prop where
 pg:W.plainGet K C di=a8
 hd:W.hasDictIn K C=a8
 po:W.plainOver K C=a8
 sa:W.findIn K (.ref C) "__setattr__" = a5 (a5 (.builtin "object.__setattr__"))
def Vn(K:k4n)(C:af)(f:ag):Prop:=W.findIn K (.ref C) f=a5 a7
structure Con(K:k4n)(C:af)(f:ag)(v:V)(u:a9):Prop where
 at_:W.findIn K (.ref C) f=a5 (a5 u)
 rel:RelV v u
 get:W.specialIn K u "__get__" = a5 a7
 cp:W.copiedNames.contains f=a6
structure Meth(K:k4n)(C:af)(m:ag)(f:af):Prop where
 at_:W.findIn K (.ref C) m=a5 (a5 (.ref f))
 fn:W.isFn K (.ref f)=a8
 kp:W.keepIn K (.ref f)=a8
section
variable{X:Cx}{pins:k4p}{σ:St}{H:Hp}{s:ae}{a C dx:af}{fs:List (ag×V)}{f:ag}{v:V}{A:az}{E:k4o}
end
section
variable{X:Cx}{o e value:ah}{f:ag}{pos pos' tpos:aN}{ta tv:TE}
end
section
variable{X:Cx}{pins:k4p}{σ:St}{H:Hp}{s:ae}{A:az}{E:k4o}{Q:k4o}{c:a9}{b:Bool}
inductive TyOf(K:k4n)(H:Hp):V->a9->Prop where
 |non:TyOf K H .non (.type "NoneType")
 |bl (x:Bool):TyOf K H (.bl x) (.type "bool")
 |int (i:Int):TyOf K H (.int i) (.type "int")
 |str (x:ag):TyOf K H (.str x) (.type "str")
 |flt (x:UInt64):TyOf K H (.flt x) (.type "float")
 |lst {a:af} {xs:List V} (e:H a=a5 (.lst xs)):TyOf K H (.ref a) (.type "list")
 |frz {a:af} {o:c7} {xs:List V} (e:H a=a5 (.frz o (.lst xs))):TyOf K H (.ref a) (.type "list")
 |tup {a:af} {xs:List V} (e:H a=a5 (.tup xs)):TyOf K H (.ref a) (.type "tuple")
 |dK {a:af} {kvs:List (Key×V)} (e:H a=a5 (.dK kvs)):TyOf K H (.ref a) (.type "dict")
 |dT {a:af} {kvs:List (List Key×V)} (e:H a=a5 (.dT kvs)):TyOf K H (.ref a) (.type "dict")
 |ins {a C dx:af} {fs:List (ag×V)} (e:H a=a5 (.ins C dx fs)) (cl:Cls K C) (ha:W.findIn K (.ref C) "__class__" = a5 (a5 (.builtin "object.__class__")))
   (hn:W.specialIn K (.builtin "object.__class__") "__get__" = a5 (a5 (.builtin "getset_descriptor.__get__"))) (htk:W.takesIn K (.builtin "object.__class__")=a5 a8)
   (hm:W.mroIn K C (.type "object")=a5 a8):TyOf K H (.ref a) (.ref C)
end
structure Room(k:Nat)(A:az):Prop where
 hd:A.handled=a7
 dp:A.depth+3*k+5<bx
 un:A.units+16*k+200<aX
 gd:A.guards=a5 []
theorem Room.mono{j k:Nat}{A:az}(r:Room k A)(h:j<=k):Room j A:=⟨r.hd,by have:=r.dp;omega,by have:=r.un;omega,r.gd⟩
theorem Room.deeper{k:Nat}{A:az}(r:Room (k+1) A)(env:c8):Room k (A.deeper env) :=
 ⟨r.hd,by have:=r.dp;show A.depth+1+3*k+5<_;omega,by have:=r.un;show A.units+3+16*k+200<_;omega,r.gd⟩
theorem Room.depth{k:Nat}{A:az}(r:Room k A):A.depth<bx:=by have:=r.dp;omega
def jbu:TA:=λ_ H Q=>Q [] H
def j9h(ta:TE)(tr:TA):TA:=λσ H Q=>ta σ H λx H1=>tr σ H1 λxs H2=>Q (x::xs) H2
section
variable{X:Cx}{e:ah}{es:List ah}{te:TE}{t:TA}{pos:aN}
theorem jn:PA X [] jbu:=λ_ _ _ _ H Q I h=>Calls.spliced_nil ⟨[],H,I,.nil,h⟩
theorem j9(ha:PE X e te)(hr:PA X es t)(hs:aa (e::es) X.env=(a6,aG e X.env)::aa es X.env:=by rfl):PA X (e::es) (j9h te t):=by intro pos pins s σ H Q I h;rw[hs];show aw _ _ (spliced ((a6,aG e X.env)::aS pos (aa es X.env))) _ _ s;refine Calls.spliced_cons (thn (ha pins s σ H _ I h) λu s1 ⟨x,H1,I1,r1,q1⟩=>?_);exact thn (hr pos pins s1 σ H1 _ I1 q1) λus s2 ⟨xs,H2,I2,r2,q2⟩=>⟨x::xs,H2,I2,.cons r1 r2,q2⟩
def jbq(t:TA):TE:=λσ H Q=>t σ H λxs H1=>xs.length<=ai/\∀p,H1 p=a7->Q (.ref p) (upd H1 p (.tup xs))
def jbv(t:TA):TE:=λσ H Q=>t σ H λxs H1=>xs.length<=ai/\∀p,H1 p=a7->Q (.ref p) (upd H1 p (.lst xs))
theorem Mm{x1}(h:PA X es t):PE X (.Tuple es x1 pos) (jbq t):=by intro pins s σ H Q I hq;refine wpAny_Tuple_spliced (thn (h pos pins s σ H _ I hq) λus s1 ⟨xs,H1,I1,r,z,q⟩=>⟨by rw[<-r.length];exact z,?_⟩);have hf:H1 s1.heap.objs.size=a7:=I1.hok.fresh (xx _);refine⟨.ref s1.heap.objs.size,upd H1 s1.heap.objs.size (.tup xs),I1.laid (t':=s1.toks) (λb u e=>xq _ e) (xx _) ?_,rfl,q _ hf⟩;exact⟨z,us,r,⟨_,Xc _ rfl,rfl,_,rfl⟩,V3.new _ _⟩
theorem j6h(h:PA X es t):PE X (.List es pos) (jbv t):=by intro pins s σ H Q I hq;refine wpAny_List_spliced (thn (h pos pins s σ H _ I hq) λus s1 ⟨xs,H1,I1,r,z,q⟩=>⟨by rw[<-r.length];exact z,?_⟩);have hf:H1 s1.heap.objs.size=a7:=I1.hok.fresh (xx _);refine⟨.ref s1.heap.objs.size,upd H1 s1.heap.objs.size (.lst xs),I1.laid (t':=s1.toks) (λb u e=>xq _ e) (xx _) ?_,rfl,q _ hf⟩;exact⟨z,us,0,r,Xc _ rfl⟩
end
abbrev Sp:=List V->Hp->VK->XK->Prop
abbrev CXT:=List c8->Hp->ae->XK->a9->ae->Prop
structure Env0(P:ak)(w:ax)(K:k4n)(mg:k4q)(base:aD)(A:az)(outer:List c8)(s:ae)(H:Hp):Prop where
 frames:A.frames=a5 outer
 mod:Mod K mg base
 bs:∀b o,base.get? b=a5 o->s.heap.get? b=a5 o/\H b=a7
 bsz:base.objs.size<=s.heap.objs.size
 funs:s.heap.FunFrames base outer
 frf:∀b∈frs outer,H b=a7
 hok:HOk P w H s.heap
 bare:cY s.gens
def CE(outer:List c8)(P:ak)(w:ax)(H:Hp)(s:ae)(Q:VK)(u:a9)(s':ae):Prop :=
 ∃v H',s'.os=s.os/\cY s'.gens/\Un (frs outer) [] H H' s.heap s'.heap/\HOk P w H' s'.heap/\RelV v u/\Q v H'
def CR(CX:CXT)(outer:List c8)(P:ak)(w:ax)(H:Hp)(s:ae)(Q:VK)(E:XK)(r:dC)(s':ae):Prop :=
 match r with
 |.ok (.ret u)=>CE outer P w H s Q u s'
 |.ok _=>False
 |.error e=>CX outer H s E e s'
structure FnOk(P:ak)(w:ax)(K:k4n)(mg:k4q)(base:aD)(CX:CXT)(k:Nat)(f:af)(fd:aH)(ps:List ag)(sp:Sp):Prop where
 len:∀vs H Q E,sp vs H Q E->vs.length=ps.length
 run:∀(A:az)(outer:List c8)(s:ae)(H:Hp)(args:Args)(us:List a9)(vs:List V) (Q:VK) (E:XK),Room k A->Env0 P w K mg base A outer s H->eM s fd args (ps.zip us)->Vals vs us->sp vs H Q E ->
  bR (ar P w) A (.call (.ref f) args) (CR CX outer P w H s Q E) s
theorem FnOk.imp{P:ak}{w:ax}{K:k4n}{mg:k4q}{base:aD}{CX:CXT}{k:Nat}{f:af}{fd:aH}{ps:List ag}{sp sp':Sp}(F:FnOk P w K mg base CX k f fd ps sp)
  (h:∀vs H Q E,sp' vs H Q E->sp vs H Q E):FnOk P w K mg base CX k f fd ps sp' :=
 ⟨λvs H Q E q=>F.len vs H Q E (h _ _ _ _ q),λA outer s H args us vs Q E hr he hb hv hs=>F.run A outer s H args us vs Q E hr he hb hv (h _ _ _ _ hs)⟩
section
variable{X:Cx}{pins:k4p}{σ:St}{H:Hp}{s s':ae}
theorem Inv.env0(I:Inv X pins σ H s):Env0 X.prog X.w X.K X.mg X.base X.A X.stack s H :=
 ⟨I.ok.frames,I.ok.mod,I.bs,Xd I.ok.bsz I.sz,I.stack,I.stkFree,I.hok,I.bare⟩
theorem Inv.after{Q:VK}{u:a9}(I:Inv X pins σ H s)(h:CE X.stack X.prog X.w H s Q u s'):EP X pins σ Q u s':=by obtain⟨v,H',os,bare,un,hok,r,q⟩:=h;obtain⟨hh,g,d,t,os'⟩:=s';obtain rfl:os'=s.os:=os;exact⟨v,H',I.call (h':=hh) (g':=g) (d':=d) (t':=t) (ch:=[]) un hok bare (λb z=>absurd z (by simp)),r,q⟩
end
def j9i(sp:Sp)(dvs:List V)(E:XK)(t:TA):TE:=λσ H Q=>t σ H λvs H1=>sp (vs++dvs) H1 Q E
def Binds(K:k4n)(fd:aH)(ps:List ag)(ds:List a9):Prop :=
 ∀(s:ae)(us:List a9),K.In s.heap->(us++ds).length=ps.length->eM s fd ⟨us,[]⟩ (ps.zip (us++ds))
theorem Binds.all{K:k4n}{fd:aH}{ps:List ag}(h:∀us:List a9,us.length=ps.length->bY fd ⟨us,[]⟩=pure (ps.zip us)):Binds K fd ps []:=λs us _ hl=>by rw[Xn]at hl ⊢;exact .of_eq (h us hl)
def Ou(CX:CXT)(X:Cx)(E:XK):Prop:=∀(pins:k4p) (σ:St) (H:Hp) (s:ae) (e:a9) (s':ae),Inv X pins σ H s->CX X.stack H s E e s'->X.xe e s'
section
variable{X:Cx}{CX:CXT}{k:Nat}{f C:af}{fd:aH}{ps:List ag}{sp:Sp}{dvs:List V}{ds:List a9}{E:XK}{x m:ag}{p pos apos:aN}{e o:ah}{es:List ah}{ta:TE}{t:TA}
theorem j5z{pins:k4p}{σ:St}{H:Hp}{s:ae}{Q:VK}{us:List a9}{vs:List V}(F:FnOk X.prog X.w X.K X.mg X.base CX k f fd ps sp)(hr:Room k X.A)(hb:Binds X.K fd ps ds)(hd:Vals dvs ds)(hx:Ou CX X E)
  (I:Inv X pins σ H s) (r:Vals vs us) (h:sp (vs++dvs) H Q E):aw (ar X.prog X.w) X.A (call (.ref f) us) (EP X pins σ Q) X.xe s:=by
 have r2:Vals (vs++dvs) (us++ds):=r.append hd;have hl:(us++ds).length=ps.length:=by rw[<-r2.length];exact F.len _ _ _ _ h
 refine gW (bX (F.run X.A X.stack s H ⟨us,[]⟩ (us++ds) (vs++dvs) Q E hr I.env0 (hb s us I.kIn hl) r2 h) λr s' hq=>?_);cases r with
 |error e=>exact hx pins σ H s e s' I hq
 |ok fl =>
  cases fl with
  |ret u=>exact I.after hq
  |next=>exact aO hq
  |brk=>exact aO hq
  |cont=>exact aO hq
theorem Vw(F:FnOk X.prog X.w X.K X.mg X.base CX k f fd ps sp)(hr:Room k X.A)(hg:Gl X x)(hm:X.mg x=a5 (.ref f))(hk:W.keepIn X.K (.ref f)=a8)(hb:Binds X.K fd ps ds)(hd:Vals dvs ds)(hx:Ou CX X E)
  (ha:PA X (e::es) t) (hdb:(x==k4r)=a6:=by decide) (he:aa (e::es) X.env=(a6,aG e X.env)::aa es X.env:=by rfl) (hpl:(aS pos (aa es X.env)).any (·.1)=a6:=by rfl) :
  PE X (.Call (.Name x p) (e::es) [] pos) (j9i sp dvs E t):=by
 intro pins s σ H Q I h;refine bj (Jt I hg hm ?_ hdb);refine W.callWith_K (h₀:=X.base) I.ok.mod.kin hk (thn (ha pos pins s σ H _ I h) λus s1 ⟨vs,H1,I1,r,q⟩=>⟨I1.kIn,?_⟩) he hpl;exact j5z F hr hb hd hx I1 r q
structure Mk(K:k4n)(C f:af):Prop where
 makes:W.makesIn K C=a8
 init:W.findIn K (.ref C) "__init__" = a5 (a5 (.ref f))
 fn:W.isFn K (.ref f)=a8
 kp:W.keepIn K (.ref C)=a8
end
section
variable{X:Cx}{CX:CXT}{k:Nat}{f C:af}{fd:aH}{ps ks:List ag}{sp:Sp}{E:XK}{x m:ag}{p pos apos kpos:aN}{e o:ah}{es:List ah}{kws:List cC}{te ta:TE}{t tk:TA}{nm:Option ag}
structure KBinds(K:k4n)(fd:aH)(ps ks:List ag)(g:List a9->List a9->List a9)(gV:List V->List V->List V):Prop where
 to:∀(s:ae)(us ws:List a9),K.In s.heap->(g us ws).length=ps.length->eM s fd ⟨us,ks.zip ws⟩ (ps.zip (g us ws))
 rel:∀{vs:List V}{us:List a9}{zs:List V}{ws:List a9},Vals vs us->Vals zs ws->Vals (gV vs zs) (g us ws)
variable{g:List a9->List a9->List a9}{gV:List V->List V->List V}
end
structure FnScope(N P:List ag)(sc:bg):Prop where
 kind:sc.kind=.function
 co:sc.isCoroutine=a6
 gen:sc.isGenerator=a6
 nd:N.Nodup
 pre:N.take P.length=P
 par:∀x∈P,sc.names.lookup x=a5 .local\/sc.names.lookup x=a5 .cell
 nofree:∀y∈sc.names,y.2≠.free
theorem R8{kindOf:ag->Option bo}{x:ag}:∀{binds:List (ag×a9)} {m:k4q},(∀v,(x,v)∉binds)->fQ kindOf binds m x=m x
 |[],_,_=>rfl
 |(n,v)::r,m,h=>by
  unfold fQ;rw[R8 λw hw=>h w (km _ hw)];split
  .have:x≠n:=by rintro rfl;exact h v xj
   simp[this]
  .rfl
theorem Ra{kindOf:ag->Option bo}{x:ag}:∀{binds:List (ag×a9)} {m:k4q},(∀v,(x,v)∉binds)->fR kindOf binds m x=m x
 |[],_,_=>rfl
 |(n,v)::r,m,h=>by
  unfold fR;rw[Ra λw hw=>h w (km _ hw)];split
  .rfl
  .have:x≠n:=by rintro rfl;exact h v xj
   simp[this]
theorem R9{kindOf:ag->Option bo}{x:ag}{v:a9}:∀{P:List ag}{vs:List a9}{i:Nat}{m:k4q},P.Nodup->P[i]?=a5 x->vs[i]?=a5 v->kindOf x=a5 .local ->
  fQ kindOf (P.zip vs) m x=a5 v
 |[],_,_,_,_,h,_,_=>by simp at h
 |_::_,[],_,_,_,_,h,_=>by simp at h
 |p::P,w::vs,0,m,nd,h1,h2,hk=>by simp at h1 h2;subst h1;subst h2;show fQ kindOf ((p,w)::P.zip vs) m p=_;unfold fQ;rw[R8 λv hv=>(Xg.mp nd).1 (c9 hv).1,if_pos hk];simp
 |p::P,w::vs,i+1,m,nd,h1,h2,hk=>by show fQ kindOf ((p,w)::P.zip vs) m x=_;unfold fQ;exact R9 (i:=i) (Xg.mp nd).2 (by simpa using h1) (by simpa using h2) hk
theorem Rb{kindOf:ag->Option bo}{x:ag}{v:a9}:∀{P:List ag}{vs:List a9}{i:Nat}{m:k4q},P.Nodup->P[i]?=a5 x->vs[i]?=a5 v->kindOf x≠a5 .local ->
  fR kindOf (P.zip vs) m x=a5 v
 |[],_,_,_,_,h,_,_=>by simp at h
 |_::_,[],_,_,_,_,h,_=>by simp at h
 |p::P,w::vs,0,m,nd,h1,h2,hk=>by simp at h1 h2;subst h1;subst h2;show fR kindOf ((p,w)::P.zip vs) m p=_;unfold fR;rw[Ra λv hv=>(Xg.mp nd).1 (c9 hv).1,if_neg hk];simp
 |p::P,w::vs,i+1,m,nd,h1,h2,hk=>by show fR kindOf ((p,w)::P.zip vs) m x=_;unfold fR;exact Rb (i:=i) (Xg.mp nd).2 (by simpa using h1) (by simpa using h2) hk
noncomputable def start(N:List ag)(vs:List V):St:=vs.map a5++aq (N.length-vs.length) a7
noncomputable def jy(CX:CXT)(P:ak)(w:ax)(K:k4n)(mg:k4q)(base:aD)(N:List ag)(qual:ag)(scope:bg)(f:af)(cd:a9)(A:az)(outer:List c8)(s:ae)(H:Hp)(E:XK):Cx where
 prog:=P
 w:=w
 K:=K
 mg:=mg
 base:=base
 A:=A.deeper (bf qual scope s.heap.objs.size f cd)
 N:=N
 s₀:=s
 H₀:=H
 env:=bf qual scope s.heap.objs.size f cd
 outer:=outer
 stack:=bf qual scope s.heap.objs.size f cd::outer
 ex:=[]
 calm:=a8
 fn:=λ_=>a8
 pn:=[]
 xe:=λe s'=>aw (ar P w) (A.deeper (bf qual scope s.heap.objs.size f cd)) (leaving (bf qual scope s.heap.objs.size f cd) e) (λ_ s''=>CX outer H s E e s'') (λe' s''=>CX outer H s E e' s'') s'
theorem Om{sc:bg}{n:Nat}{x:ag}(h:sc.names.lookup x=a5 .cell):∃c,(aK n sc.names []).lookup x=a5 c:=by have q:=W.cellsFrom_some sc.names n [] (.inl h);exact Xf.mp q
theorem Ws{CX:CXT}{P:ak}{w:ax}{K:k4n}{mg:k4q}{base:aD}{N ps:List ag}{qual:ag}{scope:bg}{f:af}{cd:a9}{A:az}{outer:List c8}{s s1:ae}{H:Hp}{E:XK}{us:List a9}{vs:List V}
  (S:FnScope N ps scope) (cm:Bool) (hd:cm=a8->A.handled=a7) (e0:Env0 P w K mg base A outer s H) (hl:vs.length=ps.length) (r:Vals vs us)
  (x:InCallC s s.heap.objs.size (fQ (bf qual scope s.heap.objs.size f cd).kindOf (ps.zip us) λ_=>a7) (aK (s.heap.objs.size+1) scope.names []) (fR (bf qual scope s.heap.objs.size f cd).kindOf (ps.zip us) λ_=>a7) s1) :
  Inv { jy CX P w K mg base N qual scope f cd A outer s H E with calm:=cm } [] (start N vs) H s1:=by
 have hpl:ps.length<=N.length:=by have:=congrArg List.length S.pre;rw[Xy]at this;omega
 obtain⟨h1,tk,rfl,hk⟩:=x.done;have noA:∀b:af,b∉(jy CX P w K mg base N qual scope f cd A outer s H E).ex:=λb z=>absurd (show b∈([]:List af)from z) (by simp);refine⟨⟨e0.mod,S.kind,rfl,rfl,xx _,λy z c h1 h2=>?_,λy hy=>?_,λy c _ h=>?_,hd,Around.frames_deeper e0.frames,.inr ⟨rfl,rfl⟩,λb z=>absurd z (noA b),e0.bs,e0.bsz,λb _ _=>noA b,λb z=>absurd z (noA b),e0.funs,e0.frf⟩,
  rfl,e0.bare,Un.kept hk,⟨_,x.toInCall.ns,λi y v h1 h2 h3=>?_⟩,λy c h=>⟨_,x.cell y c h⟩,e0.hok.fresh (xx _),λy c h=>?_,λp hp=>absurd (show p∈([]:k4p)from hp) (by simp),e0.hok.kept hk,?_⟩
 .exact name_of_addr x.apart (Xo h1) (Xo h2)
 .have hy:scope.names.lookup y=a5 .cell\/scope.names.lookup y=a5 .free:=hy;rcases hy with hy|hy
  .exact Om hy
  .exact absurd rfl (S.nofree _ (Xo hy))
 .exact d7 (x.above y c (Xo h))
 .have hi:i<vs.length:=by
   unfold start at h2;by_cases hi:i<vs.length
   .exact hi
   .rw[cu (by simpa using hi)]at h2;rw[List.getElem?_replicate]at h2;split at h2<;>cases h2
  have ha:vs[i]?=a5 v:=by
   unfold start at h2;rw[Xr (by simpa using hi),X3]at h2;cases e:vs[i]? with
   |none=>rw[e]at h2;cases h2
   |some a=>rw[e]at h2;cases h2;rfl
  obtain⟨u,hu,rv⟩:=r.get ha;have hp:ps[i]?=a5 y:=by rw[<-S.pre,List.getElem?_take_of_lt nofun];exact h1
  have ndP:ps.Nodup:=by rw[<-S.pre];exact S.nd.sublist (List.take_sublist _ _)
  refine⟨u,rv,?_⟩;rcases S.par y (Xj hp)with k|k
  .exact .inl ⟨k,R9 ndP hp hu k⟩
  .obtain⟨c,e⟩:=Om (n:=s.heap.objs.size+1) k;refine .inr ⟨.inl k,c,e,?_⟩;have q:=x.cell y c e;rw[Rb ndP hp hu (by show scope.names.lookup y≠_;rw[k];decide)]at q;exact q
 .exact e0.hok.fresh (d7 (x.above y c (Xo h)))
 .unfold start;show _=N.length;rw[Xe,xn,fx];omega
theorem Inv.extOut{X:Cx}{pins:k4p}{σ:St}{H H2:Hp}{s:ae}(J:Inv X pins σ H s)(x:Ext X H H2 s):HOk X.prog X.w H2 s.heap/\(X.ex=[]->Un X.fs [] X.H₀ H2 X.s₀.heap s.heap):=by
 have old:∀b o,X.s₀.heap.get? b=a5 o->H2 b=H b:=λb o e=>(x b).elim id λ⟨y,ob,v,hc,hf,_⟩=>absurd (X7 (xg e) (J.ok.cab y b hf hc)) (Xl _);have trk:∀{b:af}{u:HO},H b=a5 u->H2 b=a5 u:=λ{b u} e=>(x b).elim (λz=>z.trans e) λ⟨y,ob,v,hc,_⟩=>by rw[J.freeC y b hc]at e;cases e
 refine⟨λa o e=>?_,λhx=>?_⟩
 .rcases x a with z|⟨y,ob,v,_,_,e2,e3,_⟩
  .exact(J.hok a o (z▸e)).stay (λ_ _ _ q=>q) (λ_ q=>trk q) (λ_ _ q=>trk q) λ_ _ _ q=>trk q
  .rw[e2]at e;cases e;exact⟨e3,ob,e3⟩
 .have nx:∀b,b∉X.ex:=λb=>by rw[hx];simp
  exact⟨λb o e n hb _=>J.base.keep b o e n hb (nx b),λb o e n hb _=>J.base.slot b o e n hb (nx b),λb o e n _=>(old b o e).trans (J.base.free b o e n (nx b)),λb o e _=>J.base.there b o e (nx b),
   λb xs e=>trk (J.base.tups b xs e),λb o u e=>trk (J.base.frzs b o u e),λb ps e=>let ⟨m,z⟩:=J.base.tbls b ps e;⟨m,trk z⟩⟩
theorem Dc{CX:CXT}{P:ak}{w:ax}{K:k4n}{mg:k4q}{base:aD}{k:Nat}{f:af}{name qual:ag}{params:fU}{body:List aM}{scope:bg}{dV kV doc pm cdv ct oc:a9}{an od:Option af}
  {osl:Array (Option a9)} {N ps:List ag} {sp:Sp} (lk:K.lookup f=a5 ⟨oc,od,.func (W.fnOf name qual params body scope dV kV doc pm an cdv ct),osl⟩) (hcd:W.codeIn K cdv qual=a8) (S:FnScope N ps scope)
  (len:∀vs H Q E,sp vs H Q E->vs.length=ps.length)
  (hbody:∀(A:az)(outer:List c8)(s:ae)(H:Hp)(vs:List V)(Q:VK)(E:XK),Room k (A.deeper (bf qual scope s.heap.objs.size f cdv))->sp vs H Q E ->
   ∃t,PSs (jy CX P w K mg base N qual scope f cdv A outer s H E) body t/\t { nx:=λ_ H'=>Q .non H',rt:=Q } (start N vs) H) :
  FnOk P w K mg base CX (k+1) f (W.fnOf name qual params body scope dV kV doc pm an cdv ct) ps sp:=by
 refine⟨len,λA outer s H args us vs Q E hr e0 hb r hsp=>?_⟩;have hl:=len _ _ _ _ hsp;have KX:K.In s.heap:=e0.mod.kin.keeps λb o e=>(e0.bs b o e).1;have lim:s.heap.NoLimit:=e0.mod.nolimit.keeps λb o e=>(e0.bs b o e).1;have hkind:∀y∈ps.zip us,scope.names.lookup y.1=a5 .local\/(scope.names.lookup y.1=a5 .cell/\((aK (s.heap.objs.size+1) scope.names []).lookup y.1).isSome=a8):=λ⟨n,v⟩ hy=>by
  rcases S.par n (c9 hy).1 with q|q
  .exact .inl q
  .exact .inr ⟨q,W.cellsFrom_some _ _ _ (.inl q)⟩
 refine gy hr.depth (KX _ _ lk) rfl S.co S.gen rfl (W.codeRec_of KX hcd) (hb _ _ _ _ ?_);refine fv S.kind hkind λenv he s1 x=>?_;subst he;refine⟨lim.keeps x.toInCall.keep,codeAny_func ?_⟩;obtain⟨t,ht,hq⟩:=hbody A outer s H vs Q E (hr.deeper _) hsp;have I:Inv (jy CX P w K mg base N qual scope f cdv A outer s H E) [] (start N vs) H s1:=Ws S a8 (λ_=>hr.hd) e0 hl r x;refine aT (ht [] s1 (start N vs) H _ I hq) (λfl s' hs=>?_) λe s' hs=>hs;have fin:∀{σ':St}{H':Hp}{v:V}{u:a9},Inv (jy CX P w K mg base N qual scope f cdv A outer s H E) [] σ' H' s'->RelV v u->Q v H'->CE outer P w H s Q u s' :=
  λ{σ' H' v u} J rv q=>⟨v,H',J.os,J.bare,J.base,J.hok,rv,q⟩
 cases fl with
 |ret u =>obtain⟨v,σ',H',H2,J,rv,x,q⟩:=hs;exact⟨v,H2,J.os,J.bare,(J.extOut x).2 rfl,(J.extOut x).1,rv,q⟩
 |next =>obtain⟨σ',H',J,q⟩:=hs;exact fin (v:=V.non) (u:=aI) J rfl q
 |brk =>obtain⟨_,_,_,q⟩:=hs;exact aO q
 |cont =>obtain⟨_,_,_,q⟩:=hs;exact aO q
section
variable{X:Cx}{x:ag}{p pos:aN}{e:ah}{es:List ah}{t:TA}{id T:String}{r:List V->Hp->VK->Prop}
def tCB(r:List V->Hp->VK->Prop)(t:TA):TE:=λσ H Q=>t σ H λvs H1=>r vs H1 Q
theorem qt (hc:zm X (.builtin id) r) (hg:Gl X x) (hm:X.mg x=a7) (hv:aU x=a5 (.builtin id)) (ha:PA X (e::es) t) (hn:x ≠ "__name__":=by decide) (hdb:(x==k4r)=a6:=by decide)
  (he:aa (e::es) X.env=(a6,aG e X.env)::aa es X.env:=by rfl) (hpl:(aS pos (aa es X.env)).any (·.1)=a6:=by rfl):PE X (.Call (.Name x p) (e::es) [] pos) (tCB r t):=by
 intro pins s σ H Q I h;refine bj (Zb I hg hm hv ?_ hn hdb);exact callWith_builtin1 (thn (ha pos pins s σ H _ I h) λus s1 ⟨vs,H1,I1,r1,q1⟩=>hc pins s1 σ H1 vs us Q I1 r1 q1) he hpl
theorem Qy (hc:zm X (.type T) r) (hg:Gl X x) (hm:X.mg x=a7) (hv:aU x=a5 (.type T)) (ha:PA X (e::es) t) (hn:x ≠ "__name__":=by decide) (hdb:(x==k4r)=a6:=by decide)
  (he:aa (e::es) X.env=(a6,aG e X.env)::aa es X.env:=by rfl) (hpl:(aS pos (aa es X.env)).any (·.1)=a6:=by rfl):PE X (.Call (.Name x p) (e::es) [] pos) (tCB r t):=by
 intro pins s σ H Q I h;refine bj (Zb I hg hm hv ?_ hn hdb);exact callWith_type1 (thn (ha pos pins s σ H _ I h) λus s1 ⟨vs,H1,I1,r1,q1⟩=>hc pins s1 σ H1 vs us Q I1 r1 q1) he hpl
end
end L2
namespace HT
open PySem PyProof.Rows
noncomputable def lexLt:List Int->List Int->Bool
 |[],[]=>a6
 |[],_::_=>a8
 |_::_,[]=>a6
 |x::xs,y::ys=>if x=y then lexLt xs ys else decide (x<y)
theorem lexLt_cons(x y:Int)(xs ys:List Int):lexLt (x::xs) (y::ys)=if x=y then lexLt xs ys else decide (x<y):=rfl
section
open PySem.SeqAt
open PySem.AutoSeq1 (wpAny_loadPart')
open PySem.MeetsSeq PySem.MeetsSeq2 PySem.MeetsSeq3
end
section
variable{prog:ak}{w:ax}{A:az}{E:k4o}{s:ae}
theorem cat_tup{t b:af}{vs ws:List a9}{Q:k4o}(ht:fV s.heap t vs.toArray)(hb:fV s.heap b ws.toArray)(hv:vs≠[])
  (h1:ws=[]->Q (.ref t) s) (h2:ws≠[]->Q (.ref s.heap.objs.size) { s with heap:=s.heap.push { cls:=.type "tuple",data:=.seq (vs++ws).toArray } })
  (hsz:vs.length+ws.length<=ai):aw (ar prog w) A (aV .Add (.ref t) (.ref b)) Q E s:=by
 obtain⟨⟨cls,dd,data,sl⟩,ho,hc,n,hd⟩:=id ht;obtain⟨⟨cls2,dd2,data2,sl2⟩,ho2,hc2,n2,hd2⟩:=id hb;simp only at hc hd hc2 hd2;subst hc hd hc2 hd2;have e:vs.toArray++ws.toArray=(vs++ws).toArray:=by simp
 by_cases hw:ws=[]
 .exact eI ⟨_,ho,rfl⟩ ⟨_,ho2,rfl⟩ eS fG cK cB (cw _ _)
   (tuple_addW1 t b vs.toArray ws.toArray n n2 dd dd2 sl sl2 (by simpa using hv) (by simp[hw])) ⟨ho,ho2,h1 hw⟩
 .refine eI ⟨_,ho,rfl⟩ ⟨_,ho2,rfl⟩ eS fG cK cB (cw _ _)
   (tuple_addW2 t b vs.toArray ws.toArray n n2 dd dd2 sl sl2 (by simpa using hv) (by simpa using hw) (by rw[xm,xm];exact hsz)) ⟨ho,ho2,?_⟩
  rw[e];exact h2 hw
noncomputable def sIx(n d:Nat):Option Int->Nat
 |none=>d
 |some v=>if v<0 then(v+(n:Int)).toNat else min v.toNat n
theorem sIx_none(n d:Nat):sIx n d a7=d:=rfl
theorem sIx_nat(n d k:Nat):sIx n d (a5 (k:Int))=min k n:=by show(if (k:Int)<0 then((k:Int)+(n:Int)).toNat else min (k:Int).toNat n)=min k n;rw[if_neg nofun,Pr]
theorem j5y(n d:Nat)(hd:d<=n)(o:Option Int):sIx n d o<=n:=by
 cases o with
 |none=>exact hd
 |some v =>
  show(if v<0 then(v+(n:Int)).toNat else min v.toNat n)<=n;by_cases hv:v<0
  .rw[if_pos hv];omega
  .rw[if_neg hv];exact Nat.min_le_right _ _
theorem Nk(v:Int)(n d:Nat):(if v<0 then max (v+(n:Int)) 0 else min v (n:Int))=((sIx n d (a5 v):Nat):Int):=by
 show(if v<0 then max (v+(n:Int)) 0 else min v (n:Int))=(((if v<0 then(v+(n:Int)).toNat else min v.toNat n):Nat):Int)
 by_cases hv:v<0
 .simp only[if_pos hv];omega
 .simp only[if_neg hv];omega
theorem Dp(lo hi:Option Int)(n:Nat):bV lo hi 1 (n:Int)=(((sIx n 0 lo:Nat):Int),((sIx n n hi:Nat):Int)):=by
 have h1:¬((1:Int)<0):=by omega
 unfold bV;simp only[h1,if_false];refine Prod.ext ?_ ?_
 .cases lo with
  |none=>rfl
  |some v=>exact Nk v n 0
 .cases hi with
  |none=>rfl
  |some v=>exact Nk v n n
theorem Nz(i j:Nat):bA (i:Int) (j:Int) 1=j-i:=by
 unfold bA;have h1:(1:Int)>0:=by omega
 simp only[h1,if_true,Int.ediv_one];split<;>omega
theorem U3{v:a9}{o:Option Int}{Q:Option Int->ae->Prop}(p:dD v o)(h:Q o s):aw (ar prog w) A (iA v) Q E s:=by
 cases p with
 |none=>exact jH h
 |int i t=>exact slicePart_int h
theorem Yh{sl:af}{vl vu:a9}{lo hi:Option Int}{n:Nat}{Q:Int×Int×Nat->ae->Prop}(hs:s.heap.IsSliceOf sl vl vu .none)(pl:dD vl lo)(pu:dD vu hi)
  (h:Q (((sIx n 0 lo:Nat):Int),1,sIx n n hi-sIx n 0 lo) s):aw (ar prog w) A (dr (.ref sl) (pure (n:Int))) Q E s:=by
 obtain⟨os,hos,hcs,hds⟩:=id hs;unfold dr iB;refine ao (ao (eW hos hds (x:=vl) rfl (ao (eW hos hds (x:=vu) rfl (ao (eW hos hds (x:=.none) rfl (aC ?_)))))));refine ao (jH ?_);show aw _ _ (if ((1:Int)==0)=a8 then _ else _) _ _ s;rw[if_neg (by decide)];refine ao (U3 pl (ao (U3 pu (ao (aC ?_)))));show aw _ _ (match bV lo hi 1 (n:Int)with|(lo,hi)=>pure (lo,(1:Int),bA lo hi 1)) _ _ s;rw[Dp lo hi n];show aw _ _ (pure (((sIx n 0 lo:Nat):Int),(1:Int),bA ((sIx n 0 lo:Nat):Int) ((sIx n n hi:Nat):Int) 1)) _ _ s;rw[Nz];exact aC h
theorem j0g(xs:Array a9)(i k:Nat):((aE k).filterMap λ(m:Nat)=>xs[((i:Int)+(m:Int)*1).toNat]?).toArray=((xs.toList.drop i).take k).toArray:=by
 have e:(λ(m:Nat)=>xs[((i:Int)+(m:Int)*1).toNat]?)=λm=>xs[i+m]?:=by
  funext m
  have:((i:Int)+(m:Int)*1).toNat=i+m:=by omega
  rw[this]
 rw[e];have:=pick_run xs i k;rw[List.filterMap_map]at this;have e2:((λx=>xs[x]?) ∘ λx=>i+x)=λm=>xs[i+m]?:=rfl;rw[e2]at this;rw[this]
theorem getItem_tuple_cut{t sl:af}{items:Array a9}{vl vu:a9}{lo hi:Option Int}{Q:k4o}(ht:fV s.heap t items)(hs:s.heap.IsSliceOf sl vl vu .none)(pl:dD vl lo)(pu:dD vu hi)
  (hw:¬(sIx items.size 0 lo=0/\sIx items.size items.size hi=items.size))
  (h:Q (.ref s.heap.objs.size) { s with heap:=s.heap.push { cls:=.type "tuple",data:=.seq ((items.toList.drop (sIx items.size 0 lo)).take (sIx items.size items.size hi-sIx items.size 0 lo)).toArray } })
  (hsz:items.size<=ai):aw (ar prog w) A (gj (.ref t) (.ref sl)) Q E s:=by
 have htake:sizeOk (.seq ((items.toList.drop (sIx items.size 0 lo)).take (sIx items.size items.size hi-sIx items.size 0 lo)).toArray):=by show((items.toList.drop (sIx items.size 0 lo)).take (sIx items.size items.size hi-sIx items.size 0 lo)).toArray.size<=ai;rw[xm,Xy,cS,Pg];omega
 have hj:sIx items.size items.size hi<=items.size:=j5y _ _ (xx _) hi;obtain⟨os,hos,hcs,hds⟩:=id hs;have hTs:s.TypeIs (.ref sl) "slice":=⟨os,hos,hcs⟩
 unfold gj
 try with_reducible refine fE ?_
 first|refine ao (aC ?_)|skip
 refine ao (wpAny_sequenceKey ht.typeIs (by decide) ?_);refine ao (wpAny_callSpecial?_slot (name:=d4 "__getitem__") ht.typeIs hJ
  (iD hJ ht.typeIs entry_tuple_getitem ?_ (args_tuple_getitem _ _)))
 show aw _ _ (iz (.ref t) >>= _) _ _ s;refine ao (tupleItemsOf_ ht ?_);refine ao (wpAny_typeOf hTs ?_);rw[if_pos (by decide)];refine ao (Yh hs pl pu ?_);have hno:¬((((sIx items.size 0 lo:Nat):Int)==0&&(1:Int)==1&&(sIx items.size items.size hi-sIx items.size 0 lo)==items.size)=a8):=by intro q;rw[X4,X4]at q;have q1:((sIx items.size 0 lo:Nat):Int)=0:=eq_of_beq q.1.1;have q2:sIx items.size items.size hi-sIx items.size 0 lo=items.size:=eq_of_beq q.2;exact hw ⟨by omega,by omega⟩
 show aw _ _ (if (((sIx items.size 0 lo:Nat):Int)==0&&(1:Int)==1&&(sIx items.size items.size hi-sIx items.size 0 lo)==items.size)=a8 then _ else _) _ _ s;rw[if_neg hno,j0g]
 first
  |exact ao (m:=bB _) (bW (aC ⟨_,rfl,aC h⟩) htake)
  |exact ao (m:=bB _) (bW (ao (aC (aC ⟨_,rfl,aC h⟩))) htake)
  |exact ao (ao (m:=bB _) (bW (aC (aC ⟨_,rfl,aC h⟩)) htake))
  |exact ao (ao (m:=bB _) (bW (aC ⟨_,rfl,aC h⟩) htake))
end
end HT
namespace L2
open PySem PySem.Spec PyProof.Rows
abbrev TO:=St->Hp->(Option Int->Hp->Prop)->Prop
def PO(X:Cx)(e:Option ah)(t:TO):Prop :=
 ∀(pins:k4p) (s:ae) (σ:St) (H:Hp) (Q:Option Int->Hp->Prop),Inv X pins σ H s->t σ H Q ->
  aw (ar X.prog X.w) X.A (evalPart e X.env) (λu s'=>∃o H',Inv X pins σ H' s'/\dD u o/\Q o H') X.xe s
def j3d:TO:=λ_ H Q=>Q a7 H
def j9e(t:TE):TO:=λσ H Q=>t σ H λx H1=>∃i,x=.int i/\Q (a5 i) H1
theorem intsAre_of{ns:List Int}:∀{us:List a9},Vals (ns.map V.int) us->cg us ns:=by
 induction ns with
 |nil=>intro us r;rw[fh]at r;cases r;exact .nil
 |cons n ns ih =>
  intro us r;rw[Xi]at r;cases r with
  |cons r1 r2 =>obtain⟨t,e⟩:=r1;subst e;exact .cons n t (ih r2)
section
variable{X:Cx}{e:ah}{te:TE}{lo hi:Option ah}{tl th:TO}{pos p2:aN}
theorem j3w:PO X a7 j3d:=by intro pins s σ H Q I h;rw[jN];exact aC ⟨a7,H,I,.none,h⟩
theorem j3v(h:PE X e te):PO X (a5 e) (j9e te):=by intro pins s σ H Q I hw;rw[evalPart_some];refine thn (h pins s σ H _ I hw) λu s1 ⟨x,H1,I1,r1,q1⟩=>?_;obtain⟨i,rfl,q⟩:=q1;obtain⟨t,rfl⟩:=r1;exact⟨a5 i,H1,I1,.int i t,q⟩
def SlR(X:Cx)(r:V->Option Int->Option Int->Hp->VK->Prop):Prop :=
 ∀(pins:k4p) (s:ae) (σ:St) (H:Hp) (x:V) (v vl vu:a9) (lo hi:Option Int) (sl:af) (Q:VK),Inv X pins σ H s->RelV x v->s.heap.IsSliceOf sl vl vu .none->dD vl lo->dD vu hi->r x lo hi H Q ->
  ∃T id,typeLookup (.type T) "__getitem__" = pure (a5 (.builtin id))/\s.TypeIs v T/\aw (ar X.prog X.w) X.A (gj v (.ref sl)) (EP X pins σ Q) X.xe s
def tSl(r:V->Option Int->Option Int->Hp->VK->Prop)(te:TE)(tl th:TO):TE:=λσ H Q=>te σ H λx H1=>tl σ H1 λl H2=>th σ H2 λu H3=>r x l u H3 Q
theorem Yn{r:V->Option Int->Option Int->Hp->VK->Prop}(hr:SlR X r)(he:PE X e te)(hl:PO X lo tl)(hu:PO X hi th):PE X (.Subscript e (.Slice lo hi a7 p2) pos) (tSl r te tl th):=by intro pins s σ H Q I h;refine Subscript_ (thn (he pins s σ H _ I h) λv s1 ⟨x,H1,I1,r1,q1⟩=>?_);refine wpAny_Slice (thn (hl pins s1 σ H1 _ I1 q1) λvl s2 ⟨l,H2,I2,pl,q2⟩=>thn (hu pins s2 σ H2 _ I2 q2) λvu s3 ⟨u,H3,I3,pu,q3⟩=>?_);rw[jN];refine aC ?_;have I4:Inv X pins σ H3 { s3 with heap:=s3.heap.push { cls:=.type "slice",data:=.fields #[vl,vu,.none] } }:=I3.kept (t':=s3.toks) λb ob q=>xq _ q;obtain⟨T,id,hT,ht,hg⟩:=hr pins { s3 with heap:=s3.heap.push { cls:=.type "slice",data:=.fields #[vl,vu,.none] } } σ H3 x v vl vu l u s3.heap.objs.size Q I4 r1 (Heap.IsSliceOf.new ..) pl pu q3;show aw (ar X.prog X.w) X.A (jP e (.Slice lo hi a7 p2) v (.ref s3.heap.objs.size)) (EP X pins σ Q) X.xe { s3 with heap:=s3.heap.push { cls:=.type "slice",data:=.fields #[vl,vu,.none] } };exact tail_any (ops:=[.ref s3.heap.objs.size,v]) ht hT hg (by with_unfolding_all rfl)
noncomputable def Vi(xs:List V)(lo hi:Option Int):List V:=(xs.drop (HT.sIx xs.length 0 lo)).take (HT.sIx xs.length xs.length hi-HT.sIx xs.length 0 lo)
theorem Yb(xs:List V)(lo hi:Option Int):(Vi xs lo hi).length<=xs.length:=by unfold Vi;rw[Xy,cS];omega
def jc6(K:k4n):V->Option Int->Option Int->Hp->VK->Prop:=λx lo hi H Q=>∃a xs,x=.ref a/\SqT K H a xs /\
 ¬(HT.sIx xs.length 0 lo=0/\HT.sIx xs.length xs.length hi=xs.length)/\∀p,H p=a7->Q (.ref p) (upd H p (.tup (Vi xs lo hi)))
theorem j5q:SlR X (jc6 X.K):=by
 intro pins s σ H x v vl vu lo hi sl Q I rx hs pl pu h;obtain⟨a,xs,rfl,hx,hw,q⟩:=h;cases rx;obtain⟨its,r,ht,hz⟩:=I.tuple hx;have hlen:its.toArray.size=xs.length:=by rw[xm];exact r.length.symm
 refine⟨"tuple",_,slot_tuple_getitem.lookup,ht.typeIs,?_⟩;refine HT.getItem_tuple_cut ht hs pl pu (by rw[hlen];exact hw) ?_ (by rw[hlen];exact hz);rw[hlen];refine⟨.ref s.heap.objs.size,_,I.laid (t':=s.toks) (o:=.tup (Vi xs lo hi)) (λb ob q=>xq _ q) (xx _) ?_,rfl,q _ (I.hok.fresh (xx _))⟩;exact⟨Xd (Yb xs lo hi) hz,_,(r.drop (HT.sIx xs.length 0 lo)).take (HT.sIx xs.length xs.length hi-HT.sIx xs.length 0 lo),IsTup.new _ _,V3.new _ _⟩
def j9u(K:k4n):R2:=λx y H Q=>∃a b xs ys,x=.ref a/\y=.ref b/\SqT K H a xs/\SqT K H b ys/\xs≠[]/\xs.length+ys.length<=ai /\
 (ys=[]->Q (.ref a) H)/\(ys≠[]->∀p,H p=a7->Q (.ref p) (upd H p (.tup (xs++ys))))
theorem Vals.nil_iff{xs:List V}{us:List a9}(r:Vals xs us):us=[]↔xs=[]:=by
 cases r with
 |nil=>simp
 |cons _ _=>simp
theorem j43:OpR X (aV .Add) (j9u X.K):=by intro pins s σ H x y v u Q I rx ry h;obtain⟨a,b,xs,ys,rfl,rfl,ha,hb,hx,hz,q1,q2⟩:=h;cases rx;cases ry;obtain⟨its,r1,p1,_⟩:=I.tuple ha;obtain⟨its2,r2,p2,_⟩:=I.tuple hb;refine HT.cat_tup p1 p2 (λz=>hx (r1.nil_iff.mp z)) (λz=>⟨.ref a,H,I,rfl,q1 (r2.nil_iff.mp z)⟩) (λz=>?_) (by rw[<-r1.length,<-r2.length];exact hz);refine⟨.ref s.heap.objs.size,_,I.laid (t':=s.toks) (o:=.tup (xs++ys)) (λb ob q=>xq _ q) (xx _) ?_,rfl,q2 (λw=>z (r2.nil_iff.mpr w)) _ (I.hok.fresh (xx _))⟩;exact⟨by rw[Xe];exact hz,_,r1.append r2,IsTup.new _ _,V3.new _ _⟩
end
noncomputable def ixN(n:Nat)(i:Int):Option Nat:=if 0<=i then(if i<n then a5 i.toNat else a7)else if -(n:Int)<=i then a5 (i+n).toNat else a7
noncomputable def atI{α:Type}(xs:List α)(i:Int):Option α:=(ixN xs.length i).bind λj=>xs[j]?
theorem j4e{n:Nat}{i:Int}{j:Nat}(h:ixN n i=a5 j):seqIndex? i n=a5 j/\j<n/\-(n:Int)<=i/\i<n:=by
 unfold ixN at h;by_cases h0:0<=i
 .rw[if_pos h0]at h;by_cases h1:i<n
  .rw[if_pos h1]at h;have e:i.toNat=j:=aB h;exact⟨by rw[seqIndex_of h0 h1,e],by omega,by omega,h1⟩
  .rw[if_neg h1]at h;cases h
 .rw[if_neg h0]at h;by_cases h1:-(n:Int)<=i
  .rw[if_pos h1]at h;have e:(i+n).toNat=j:=aB h;exact⟨by rw[seqIndex_neg nofun h1,e],by omega,h1,by omega⟩
  .rw[if_neg h1]at h;cases h
theorem W9{α:Type}{xs:List α}{i:Int}{v:α}(h:atI xs i=a5 v):∃j,seqIndex? i xs.length=a5 j/\xs[j]?=a5 v/\j<xs.length/\-(xs.length:Int)<=i/\i<xs.length:=by
 unfold atI at h;cases e:ixN xs.length i with
 |none=>rw[e]at h;cases h
 |some j =>rw[e]at h;obtain⟨h1,h2,h3,h4⟩:=j4e e;exact⟨j,h1,h,h2,h3,h4⟩
theorem j59{α:Type}{xs:List α}{j:Nat}{v:α}(h:xs[j]?=a5 v):atI xs (j:Int)=a5 v:=by
 have hj:j<xs.length:=(Xb.mp h).1;have e:ixN xs.length (j:Int)=a5 j:=by unfold ixN;rw[if_pos nofun,if_pos nofun];simp
 unfold atI;rw[e];exact h
def Y0(b:ah):Prop:=∀o i,subscripted b a6 o i=operate [o,i] (gj o i)
def IxR(X:Cx)(r:R2):Prop :=
 ∀(value slice:ah)(pins:k4p) (s:ae) (σ:St) (H:Hp) (x y:V) (v u:a9) (Q:VK),Inv X pins σ H s->RelV x v->RelV y u->r x y H Q ->
  subscripted slice a6 v u=operate [v,u] (gj v u)->aw (ar X.prog X.w) X.A (jP value slice v u) (EP X pins σ Q) X.xe s
def MtR(X:Cx)(id:String)(r:V->List V->Hp->VK->Prop):Prop :=
 ∀(pins:k4p) (s:ae) (σ:St) (H:Hp) (x:V) (xs:List V) (v:a9) (us:List a9) (Q:VK),Inv X pins σ H s->RelV x v->Vals xs us->r x xs H Q ->
  aw (ar X.prog X.w) X.A (call (.builtin id) (v::us)) (EP X pins σ Q) X.xe s
section
variable{X:Cx}{a b:ah}{ta tb:TE}{pos:aN}
theorem Rq{r:R2}(hr:IxR X r)(ha:PE X a ta)(hb:PE X b tb)(hs:Y0 b):PE X (.Subscript a b pos) (tOp r ta tb):=by intro pins s σ H Q I h;exact Subscript_ (j1x ha hb I h λv u s2 x y H2 I2 rx ry q=>hr a b pins s2 σ H2 x y v u Q I2 rx ry q (hs _ _))
def j67(K:k4n):R2:=λx y H Q=>∃p xs i v,x=.ref p/\y=.int i/\SqL K H p xs/\atI xs i=a5 v/\Q v H
def j65(K:k4n):R2:=λx y H Q=>∃p xs i v,x=.ref p/\y=.int i/\SqT K H p xs/\atI xs i=a5 v/\Q v H
def j66:R2:=λx y H Q=>∃z i c,x=.str z/\y=.int i/\z.length<=ai/\atI z.cps.toList i=a5 c/\Q (.str ⟨#[c]⟩) H
theorem j4d:IxR X (j67 X.K):=by
 intro value slice pins s σ H x y v u Q I rx ry h hs;obtain⟨p,xs,i,z,rfl,rfl,hq,he,q⟩:=h;cases rx;obtain⟨t,rfl⟩:=ry;obtain⟨its,r,pl,hz⟩:=I.list hq;obtain⟨j,h1,h2,h3,h4,h5⟩:=W9 he;obtain⟨w,ew,rw'⟩:=r.get h2;have hl:=r.length;have hn:=Ve;have fin:EP X pins σ Q w s:=⟨z,H,I,rw',q⟩
 by_cases h0:0<=i
 .have hj:i.toNat=j:=by rw[seqIndex_of h0 h5]at h1;exact aB h1
  exact item_listR pl.isList h0 nofun (by rw[hj];simpa using ew) fin hs
 .have hj:(i+(its.toArray.size:Int)).toNat=j:=by rw[seqIndex_neg nofun h4]at h1;rw[xm,<-hl];exact aB h1
  exact gk (x:=w) pl.isList.typeIs slot_list_getitem.lookup
   (wpAny_getItem_list_neg (Q:=λr s'=>r=w/\EP X pins σ Q r s') pl.isList nofun (by rw[xm]<;>omega) nofun (by rw[hj];simpa using ew) ⟨rfl,fin⟩) hs
theorem Kd:IxR X (j65 X.K):=by
 intro value slice pins s σ H x y v u Q I rx ry h hs;obtain⟨p,xs,i,z,rfl,rfl,hq,he,q⟩:=h;cases rx;obtain⟨t,rfl⟩:=ry;obtain⟨its,r,pl,hz⟩:=I.tuple hq;obtain⟨j,h1,h2,h3,h4,h5⟩:=W9 he;obtain⟨w,ew,rw'⟩:=r.get h2;have hl:=r.length;have hn:=Ve;have fin:EP X pins σ Q w s:=⟨z,H,I,rw',q⟩
 exact gk (x:=w) pl.typeIs slot_tuple_getitem.lookup
  (getItem_tuple (j:=j) (Q:=λr s'=>r=w/\EP X pins σ Q r s') pl nofun nofun (by rw[xm,<-hl];exact h1) (by simpa using ew) ⟨rfl,fin⟩) hs
theorem j7h:IxR X j66:=by
 intro value slice pins s σ H x y v u Q I rx ry h hs;obtain⟨z,i,c,rfl,rfl,hz,he,q⟩:=h;obtain⟨t,rfl⟩:=rx;obtain⟨t',rfl⟩:=ry;obtain⟨j,h1,h2,h3,h4,h5⟩:=W9 he;have hl:z.cps.toList.length=z.length:=by simp[Str.length]
 rw[hl]at h1 h4 h5;have hn:=Ve;exact tail_any (gY s z t) slot_str_getitem.lookup (getItem_str (c:=c) (by
  have e1:decide (i < -(2^63:Int))=a6:=decide_eq_false nofun
  have e2:decide (i>=2^63)=a6:=decide_eq_false nofun
  rw[e1,e2,dt]) (by rw[h1];simpa using h2) ⟨.str ⟨#[c]⟩,H,I.tok _,⟨_,rfl⟩,q⟩) hs
theorem Mg(lo hi:Option Int)(n:Nat):(cj lo hi a7 n).1=((HT.sIx n 0 lo:Nat):Int)/\(cj lo hi a7 n).2.1=((HT.sIx n n hi:Nat):Int)/\(cj lo hi a7 n).2.2=1:=by
 refine⟨?_,?_,rfl⟩
 .cases lo with
  |none=>simp[cj,HT.sIx]
  |some i =>
   simp only[cj,HT.sIx,fX,show(1:Int)>0 by decide,if_true];by_cases h:i<0
   .simp only[h,if_true]<;>omega
   .simp only[h,if_false]<;>omega
 .cases hi with
  |none=>simp[cj,HT.sIx]
  |some i =>
   simp only[cj,HT.sIx,fX,show(1:Int)>0 by decide,if_true];by_cases h:i<0
   .simp only[h,if_true]<;>omega
   .simp only[h,if_false]<;>omega
theorem Rg(its:List a9)(lo hi:Option Int):slicePick its.toArray lo hi a7=((its.drop (HT.sIx its.length 0 lo)).take (HT.sIx its.length its.length hi-HT.sIx its.length 0 lo)).toArray:=by obtain⟨h1,h2,h3⟩:=Mg lo hi its.toArray.size;unfold slicePick;rw[h1,h2,h3];simp only[sliceRange_one,pick_run,xm]<;>rfl
def jc8(K:k4n):V->Option Int->Option Int->Hp->VK->Prop:=λx lo hi H Q=>∃a xs,x=.ref a/\SqL K H a xs/\∀p,H p=a7->Q (.ref p) (upd H p (.lst (Vi xs lo hi)))
theorem j3g:SlR X (jc8 X.K):=by intro pins s σ H x v vl vu lo hi sl Q I rx hs pl pu h;obtain⟨a,xs,rfl,hx,q⟩:=h;cases rx;obtain⟨its,r,ht,hz⟩:=I.list hx;have hlen:=r.length;refine⟨"list",_,slot_list_getitem.lookup,ht.isList.typeIs,?_⟩;refine wpAny_getItem_list_slice ht.isList hs pl pu .none (by simp) ?_ (by rw[xm]<;>omega);rw[Rg,<-hlen];refine⟨.ref s.heap.objs.size,_,I.laid (t':=s.toks) (o:=.lst (Vi xs lo hi)) (λb ob q=>xq _ q) (xx _) ?_,rfl,q _ (I.hok.fresh (xx _))⟩;exact⟨Xd (Yb xs lo hi) hz,_,0,(r.drop (HT.sIx xs.length 0 lo)).take (HT.sIx xs.length xs.length hi-HT.sIx xs.length 0 lo),Xc _ rfl⟩
theorem Vk:zm X (.builtin "len") (λxs H Q=>∃p ys,xs=[.ref p]/\(SqL X.K H p ys\/SqT X.K H p ys)/\Q (.int ys.length) H):=by
 intro pins s σ H xs us Q I r h;obtain⟨p,ys,rfl,hq,q⟩:=h;obtain⟨u,rfl,rx⟩:=vals1 r;cases rx;have hn:=Ve;rcases hq with hq|hq
 .obtain⟨its,r',pl,hz⟩:=I.list hq;have hlen:=r'.length;exact Calls.call_len_list pl.isList (by simp only[xm]<;>omega) ⟨.int ys.length,H,I.tok _,⟨s.toks+1,by rw[xm,hlen]⟩,q⟩
 .obtain⟨its,r',pl,hz⟩:=I.tuple hq;have hlen:=r'.length;exact len_tuple pl (by simp only[xm]<;>omega) ⟨.int ys.length,H,I.tok _,⟨s.toks+1,by rw[xm,hlen]⟩,q⟩
theorem Oq:zm X (.builtin "len") (λxs H Q=>∃z,xs=[.str z]/\z.length<=ai/\Q (.int z.length) H):=by intro pins s σ H xs us Q I r h;obtain⟨z,rfl,hz,q⟩:=h;obtain⟨u,rfl,t,rfl⟩:=vals1 r;have hn:=Ve;exact len_str nofun ⟨.int z.length,H,I.tok _,⟨_,rfl⟩,q⟩
theorem Oo:zm X (.type "list") (λxs H Q=>∃p ys,xs=[.ref p]/\(SqL X.K H p ys\/SqT X.K H p ys)/\∀l,H l=a7->Q (.ref l) (upd H l (.lst ys))):=by
 intro pins s σ H xs us Q I r h;obtain⟨p,ys,rfl,hq,q⟩:=h;obtain⟨u,rfl,rx⟩:=vals1 r;cases rx;have fin:∀(its:List a9),Vals ys its->ys.length<=ai->∀(h':aD)(c':Nat),(∀b o',s.heap.get? b=a5 o'->h'.get? b=a5 o') ->
   h'.get? s.heap.objs.size=a5 { cls:=.type "list",dict:=a7,data:=.seq its.toArray c',slots:=#[] }->EP X pins σ Q (.ref s.heap.objs.size) { s with heap:=h' }:=λits r' hz h' c' kp e =>
  ⟨.ref s.heap.objs.size,_,I.laid (t':=s.toks) kp (xx _) (show ji X.prog X.w _ h' _ (.lst ys) from⟨hz,its,c',r',e⟩),rfl,q _ (I.hok.fresh (xx _))⟩
 rcases hq with hq|hq
 .obtain⟨its,r',pl,hz⟩:=I.list hq;have hlen:=r'.length;obtain⟨o,ho,hc,n,hd⟩:=pl.isList;exact jO p (.inl rfl) ho hc hd (λh' c' kp e=>fin its r' hz h' c' kp e) (by simp only[xm]<;>omega)
 .obtain⟨its,r',pl,hz⟩:=I.tuple hq;have hlen:=r'.length;obtain⟨o,ho,hc,n,hd⟩:=pl;exact jO p (.inr rfl) ho hc hd (λh' c' kp e=>fin its r' hz h' c' kp e) (by simp only[xm]<;>omega)
theorem Rh:zm X (.type "tuple") (λxs H Q=>∃p ys,xs=[.ref p]/\((SqL X.K H p ys/\∀l,H l=a7->Q (.ref l) (upd H l (.tup ys)))\/(SqT X.K H p ys/\Q (.ref p) H))):=by
 intro pins s σ H xs us Q I r h;obtain⟨p,ys,rfl,h⟩:=h;obtain⟨u,rfl,rx⟩:=vals1 r;cases rx;rcases h with ⟨hq,q⟩|⟨hq,q⟩
 .obtain⟨its,r',pl,hz⟩:=I.list hq;have hlen:=r'.length;refine call_tuple_list pl.isList (λh' kp=>?_) (by simp only[xm]<;>omega);have I1:Inv X pins σ H { s with heap:=h' }:=I.kept (t':=s.toks) kp;have I2:Inv X pins σ (upd H h'.objs.size (.tup ys)) { s with heap:=h'.push { cls:=.type "tuple",data:=.seq its.toArray } } :=
   I1.laid (t':=s.toks) (λb o e=>xq _ e) (xx _) (show ji X.prog X.w _ _ _ (.tup ys) from⟨hz,its,r',IsTup.new _ _,V3.new _ _⟩)
  exact⟨.ref h'.objs.size,_,I2,rfl,q _ (I1.hok.fresh (xx _))⟩
 .obtain⟨its,r',pl,hz⟩:=I.tuple hq;exact call_tuple_same pl ⟨.ref p,H,I,rfl,q⟩
def tyV(K:k4n)(T:String)(x:V)(H:Hp):Prop:=match x with
 |.str _=>T = "str"
 |.int _=>T = "int"
 |.ref p=>(T = "list"/\∃xs,SqL K H p xs)\/(T = "tuple"/\∃xs,SqT K H p xs) \/
   (T = "dict"/\((∃kvs,H p=a5 (.dK kvs))\/∃kvs,H p=a5 (.dT kvs)))\/(T = "set"/\∃S n,H p=a5 (.set S n))
 |_=>False
theorem j5h{pins:k4p}{σ:St}{H:Hp}{s:ae}{T:String}{x:V}{v:a9}(I:Inv X pins σ H s)(r:RelV x v)(ty:tyV X.K T x H) :
  s.TypeIs v T/\∀a,v=.ref a->∃ob,s.heap.get? a=a5 ob/\ob.dict=a7:=by
 cases x with
 |str z =>obtain⟨t,rfl⟩:=r;cases(show T = "str" from ty);exact⟨gY s z t,λ_ e=>nomatch e⟩
 |int i =>obtain⟨t,rfl⟩:=r;cases(show T = "int" from ty);exact⟨dS s i t,λ_ e=>nomatch e⟩
 |ref p =>
  cases r;rcases ty with ⟨rfl,xs,hq⟩|⟨rfl,xs,hq⟩|⟨rfl,hk⟩|⟨rfl,S,n,hk⟩
  .obtain⟨its,_,pl,_⟩:=I.list hq;refine⟨pl.isList.typeIs,λa e=>?_⟩;cases e;obtain⟨o,n,e,c,hd,_⟩:=pl;exact⟨o,e,hd⟩
  .obtain⟨its,_,⟨o,e1,e2,_⟩,_⟩:=I.tuple hq;refine⟨⟨o,e1,e2⟩,λa e=>?_⟩;cases e;exact⟨o,e1,I.tupD hq o e1⟩
  .have z:∃o,s.heap.get? p=a5 o/\o.ExactDict:=by
    rcases hk with ⟨kvs,hk⟩|⟨kvs,hk⟩
    .obtain⟨_,_,_,_,o,_,_,e,ex,_⟩:=I.hok p _ hk;exact⟨o,e,ex⟩
    .obtain⟨_,_,_,_,o,_,_,e,ex,_⟩:=I.hok p _ hk;exact⟨o,e,ex⟩
   obtain⟨o,e,ex⟩:=z;refine⟨⟨o,e,ex.1⟩,λa e2=>?_⟩;cases e2;exact⟨o,e,ex.2.1⟩
  .obtain⟨o,_,_,_,e,ex,_⟩:=I.hok p _ hk;refine⟨⟨o,e,ex.1⟩,λa e2=>?_⟩;cases e2;exact⟨o,e,ex.2.1⟩
 |_=>exact aO ty
def tBM(K:k4n)(T:String)(r:V->List V->Hp->VK->Prop)(to:TE)(t:TA):TE:=λσ H Q=>to σ H λx H1=>tyV K T x H1/\t σ H1 λxs H2=>r x xs H2 Q
variable{o e:ah}{es:List ah}{to:TE}{t:TA}{name:ag}{apos cpos:aN}{T id:String}{r:V->List V->Hp->VK->Prop}
theorem j2f (pa:PlainAttrs T) (slot:Slot T name id) (hty:typeOf (.builtin id)=pure (.type "method_descriptor")) (hm:MtR X id r) (ho:PE X o to) (ha:PA X (e::es) t)
  (hbase:d5 o name X.env (aG o X.env)=aG o X.env:=by rfl)
  (hfew:((aS cpos (aa (e::es) X.env)).all (λx=>!x.1)&&(eL cpos (cX [] X.env)).all (λx=>x.1.isSome)
   && decide ((e::es).length+([]:List cC).length+(if ([]:List cC).isEmpty then 0 else 1)<30))=a8:=by rfl)
  (hline:(apos.endLine==cpos.line)=a8:=by rfl) (hs:aa (e::es) X.env=(a6,aG e X.env)::aa es X.env:=by rfl) (hplain:(aS cpos (aa es X.env)).any (·.1)=a6:=by rfl) :
  PE X (.Call (.Attribute o name apos) (e::es) [] cpos) (tBM X.K T r to t):=by
 intro pins s σ H Q I h;refine wpAny_Call_method_late hbase hfew hline rfl (thn (ho pins s σ H _ I h) λv s1 ⟨x,H1,I1,r1,ty,q1⟩=>?_);obtain⟨h1,h2⟩:=j5h I1 r1 ty;refine⟨T,id,pa,slot,hty,h1,h2,?_⟩;have hA:=ha cpos pins s1 σ H1 _ I1 q1;rw[hs]at hA ⊢;refine Calls.callWith_builtin (by show(a6 || (aS cpos (aa es X.env)).any (·.1))=a6;rw[hplain]<;>rfl) (ft ?_);exact thn hA λus s2 ⟨vs,H2,I2,r2,q2⟩=>hm pins s2 σ H2 x vs v us Q I2 r1 r2 q2
/- xs.append(e),list.index on a module's tuple .. are MtR facts of 06m -/
end
def MtM(X:Cx)(id:String)(r:V->List V->Hp->VK->Prop):Prop :=
 ∀(pins:k4p) (s:ae) (σ:St) (H:Hp) (x:V) (xs:List V) (v:a9) (us:List a9) (Q:VK),Inv X pins σ H s->RelV x v->Vals xs us->r x xs H Q ->
  aw (ar X.prog X.w) X.A (call (.builtin id) (v::us)) (EP X pins σ Q) X.xe s
theorem Vals.one{x:V}{us:List a9}(h:Vals [x] us):∃u,us=[u]/\RelV x u:=by cases h with|cons r t=>cases t;exact⟨_,rfl,r⟩
theorem Vals.zero:∀{us:List a9},Vals [] us->us=[]
 |_,.nil=>rfl
theorem Vals.dropLast{xs:List V}{us:List a9}(h:Vals xs us):Vals xs.dropLast us.dropLast:=by
 induction h with
 |nil=>exact .nil
 |cons r t ih =>
  cases t with
  |nil=>exact .nil
  |cons q t'=>exact .cons r ih
theorem Vals.reverse{xs:List V}{us:List a9}(h:Vals xs us):Vals xs.reverse us.reverse:=by
 induction h with
 |nil=>exact .nil
 |cons r t ih=>rw[gq,gq];exact Vals.append ih (.cons r .nil)
theorem Vals.rep{xs:List V}{us:List a9}(h:Vals xs us):∀k:Nat,Vals (aq k xs).flatten (aq k us).flatten
 |0=>.nil
 |k+1=>by rw[Xw,Xw,Pu,Pu];exact Vals.append h (Vals.rep h k)
theorem foldl_rep(its:List a9):∀(k:Nat)(acc:List a9),
  bu (λx1 x2=>x1++x2) acc.toArray (aq k its.toArray)=(acc++(aq k its).flatten).toArray
 |0,acc=>by simp
 |k+1,acc=>by
  have e:acc.toArray++its.toArray=(acc++its).toArray:=by simp
  have e2:(acc++its)++(aq k its).flatten=acc++(aq (k+1) its).flatten:=by rw[Xw,Pu,cF]
  rw[<-e2,<-foldl_rep its k (acc++its),<-e,Xw,bN]
section
variable{X:Cx}{pins:k4p}{σ:St}{H:Hp}{s:ae}{l b:af}{xs ys zs:List V}
theorem Inv.lset{its its':List a9}{n:Nat}{f:Array a9->Array a9}{t':Nat}(I:Inv X pins σ H s)(hH:H l=a5 (.lst xs))
  (e:s.heap.get? l=a5 { cls:=.type "list",data:=.seq its.toArray n }) (hf:f its.toArray=its'.toArray) (hv:Vals ys its') (hz:ys.length<=ai) :
  Inv X pins σ (upd H l (.lst ys)) { s with heap:=s.heap.update l (aR f),toks:=t' }:=by
 have q:=PySem.IsL.update e f;rw[hf]at q;refine I.write (x:=l) (e:=l) (by rw[hH];exact trivial) (.inl rfl) (λb' u hb hu=>(Heap.get?_update_other s.heap (aR f) (dP hb)).trans hu) ⟨_,q⟩ ?_;exact⟨hz,its',_,hv,q⟩
theorem Inv.lnew{its:List a9}{t':Nat}(I:Inv X pins σ H s)(hv:Vals ys its)(hz:ys.length<=ai) :
  Inv X pins σ (upd H s.heap.objs.size (.lst ys)) { s with heap:=s.heap.push { cls:=.type "list",data:=.seq its.toArray },toks:=t' } :=
 I.laid (λ_ _ q=>xq _ q) (xx _) ⟨hz,its,0,hv,Xc _ rfl⟩
theorem Inv.fresh(I:Inv X pins σ H s):H s.heap.objs.size=a7:=I.hok.fresh (xx _)
theorem Inv.lstM(I:Inv X pins σ H s)(hH:H l=a5 (.lst xs)):xs.length<=ai/\∃(its:List a9)(n:Nat),Vals xs its/\xs.length=its.length/\s.heap.get? l=a5 { cls:=.type "list",data:=.seq its.toArray n }:=by obtain⟨z,its,n,r,e⟩:=I.hok l _ hH;exact⟨z,its,n,r,r.length,e⟩
theorem Mq{n:Nat}(h:n<=ai):bC n=a6:=by unfold bC;exact decide_eq_false nofun
end
section
variable{X:Cx}
def j3u:V->List V->Hp->VK->Prop:=λx vs H Q=>∃l xs y,x=.ref l/\vs=[y]/\H l=a5 (.lst xs)/\xs.length<ai/\Q .non (upd H l (.lst (xs++[y])))
theorem Wl:MtM X "list.append" j3u:=by intro pins s σ H x vs v us Q I rx rv h;obtain⟨l,xs,y,rfl,rfl,hH,hz,q⟩:=h;cases rx;obtain⟨u,rfl,ru⟩:=rv.one;obtain⟨z,its,n,r,hl,e⟩:=I.lstM hH;refine cL fq ⟨_,e,rfl⟩ F.entry_list_append (F.args_list_append_2 _ _) (PySem.list_append l its.toArray n u (by rw[xm];omega)) ⟨e,?_⟩;refine⟨.non,_,I.lset (its':=its++[u]) hH e (by simp) (r.append (.cons ru .nil)) ?_,rfl,q⟩;rw[Xe,List.length_singleton];omega
def j3t:V->List V->Hp->VK->Prop:=λx vs H Q=>∃l b xs zs,x=.ref l/\vs=[.ref b]/\H l=a5 (.lst xs)/\H b=a5 (.lst zs)/\xs.length+zs.length<=ai/\Q .non (upd H l (.lst (xs++zs)))
theorem K1:MtM X "list.extend" j3t:=by
 intro pins s σ H x vs v us Q I rx rv h;obtain⟨l,b,xs,zs,rfl,rfl,hH,hB,hz,q⟩:=h;cases rx;obtain⟨u,rfl,ru⟩:=rv.one;cases ru;obtain⟨z,its,n,r,hl,e⟩:=I.lstM hH;obtain⟨z2,its2,n2,r2,hl2,e2⟩:=I.lstM hB;have hsz:its.toArray.size+its2.toArray.size<=ai:=by rw[xm,xm];omega
 have hlong:¬(!its.toArray.isEmpty&&bC (its.toArray.size+its2.toArray.size))=a8:=by rw[Mq hsz,eR];exact xr
 refine cL fm ⟨_,e,rfl⟩ F.entry_list_extend (F.args_list_extend_2 _ _)
  (AutoSeq1.list_extend_list_list_0 l its.toArray n b its2.toArray n2 hlong (by rw[xm];omega) nofun) ⟨e,e2,?_⟩
 refine⟨.non,_,I.lset (its':=its++its2) hH e (by simp) (r.append r2) ?_,rfl,q⟩;rw[Xe];omega
def jca:R2:=λx y H Q=>∃l k xs,x=.ref l/\y=.int k/\H l=a5 (.lst xs)/\-(2^63)<=k/\k<2^63/\xs.length*k.toNat<=ai /\
 ∀p,H p=a7->Q (.ref p) (upd H p (.lst (aq k.toNat xs).flatten))
theorem len_rep{α:Type}(xs:List α)(k:Nat):(aq k xs).flatten.length=k*xs.length:=by
 induction k with
 |zero=>simp
 |succ k ih=>rw[Xw,Pu,Xe,ih,iI,Nat.add_comm]
theorem j6p:OpR X (aV .Mult) jca:=by
 intro pins s σ H x y v u Q I rx ry h;obtain⟨l,k,xs,rfl,rfl,hH,h1,h2,hz,q⟩:=h;cases rx;obtain⟨t,rfl⟩:=ry;obtain⟨z,its,n,r,hl,e⟩:=I.lstM hH;have hlen:its.toArray.size*k.toNat<=ai:=by rw[xm,<-hl];exact hz
 have hcap:¬its.toArray.size*k.toNat>(2^63-1)/8:=by
  have:(ai:Nat)<=(2^63-1)/8:=by decide
  omega
 have hfit:¬(!Builtin.List.listFitsIndex k)=a8:=by rw[fitsIndex_both h1 h2];exact xr
 have hlong:¬bC (its.toArray.size*k.toNat)=a8:=by rw[Mq hlen];exact xr
 have hnew:bu (λx1 x2=>x1++x2) #[] (aq (if its.toArray.isEmpty=a8 then 0 else k.toNat) its.toArray)=(aq k.toNat its).flatten.toArray:=by
  have f0:∀m:Nat,bu (λx1 x2=>x1++x2) #[] (aq m its.toArray)=(aq m its).flatten.toArray:=λm=>by have:=foldl_rep its m [];rw[dY]at this;exact this
  rw[f0];cases its with
  |nil=>simp
  |cons a r'=>rw[if_neg (by simp)]
 refine fy (T:="list") (U:="int") (by decide) ⟨_,e,rfl⟩ (λs'=>dS s' k t) noFill_list_mul hZ de repeat_list F.slot_int_index.lookup
  (cL de (dS s k t) gT (gM _ _) (int___rmul___int_list k t l its.toArray n)
   ⟨e,rfl,⟨_,e,rfl⟩,cL F.slot_list_mul ⟨_,e,rfl⟩ F.entry_list_mul (F.args_list_mul_2 _ _) (AutoListH.list___mul___list_int_3 l its.toArray n k t hfit hcap hlong) ⟨e,?_⟩⟩)
 rw[hnew];exact⟨.ref _,_,I.lnew (t':=s.toks) (r.rep k.toNat) (by rw[len_rep,dN];exact hz),rfl,q _ I.fresh⟩
end
section
variable{prog:ak}{w:ax}{A:az}{E:k4o}{s:ae}
end
section
variable{X:Cx}
end
end L2
namespace Att
open PySem PySem.W PySem.Calls PyProof.Rows
theorem Uh{P:jG}{h:aD}:∀(ns:List Int)(vs:List a9),WellAll P h vs (ns.map WData.int)->cg vs ns:=by
 intro ns;induction ns with
 |nil =>intro vs w;rw[fh]at w;cases w;exact .nil
 |cons n ns ih =>
  intro vs w;rw[Xi]at w;cases w with
  |cons a b =>cases a;exact .cons _ _ (ih _ b)
theorem La{l:cG}{n:Nat}(hn:l.most=a5 n){P:jG}{h:aD}{args:List WData}{vals:List a9}
  (hpre:l.row.toRowW.claim.pre args=a8) (hwl:WellAll P h vals args) :
  ∃a vs ns,vals=[aF a]/\args=[WData.list (ns.map WData.int)]/\h.get? a=a5 { cls:=.type "list",data:=.seq vs.toArray }/\cg vs ns/\ns.length<=n:=by
 have hsh:WShape.hasAll [] args [.list .int]=a8:=(pre_splitW hpre).1;have hc:l.pre.holds [] { args:=args }=a8:=(pre_splitW hpre).2;obtain⟨d,r,rfl,h1,h2⟩:=hasAllW_cons hsh;obtain rfl:=hasAllW_nil h2;obtain⟨xs,rfl,h3⟩:=hasW_list h1;obtain⟨ns,rfl⟩:=items_int h3;have hlen:ns.length<=n:=by
  unfold OpenLaw.pre at hc;have h4:(WTm.not (.lt (.lit (.int (n:Int))) (.len (.arg 0)))).holds [] { args:=[.list (ns.map .int)] }=a8:=by have h4:=(holds_andW hc).1;rw[hn]at h4;exact h4
  have h5:=condW_of h4 (w_not (w_lt w_lit (w_len_list (w_arg rfl))));rw[xn]at h5;refine Nat.le_of_not_lt λq=>?_;have q':(n:Int)<((ns.length:Nat):Int):=by omega
  first
   |(rw[decide_eq_true q']at h5;exact absurd h5 (by decide))
   |(simp at h5;omega)
 cases hwl with
 |cons w1 w2 =>
  cases w2;cases w1 with
  |list ho hall=>exact⟨_,_,ns,rfl,rfl,ho,Uh ns _ hall,hlen⟩
theorem Lh(l:cG)(args:List WData):l.row.toRowW.claim.post args (.bool a8) args=a8 :=
 postW_of (r:=l.row.toRowW) (X:=(a8==a8))
  (show WShape.has [] (.bool a8) .bool=a8 by first|rfl|decide|simp[WShape.has,WShape.arms,WShape.armsAll])
  (show(WTm.eq .res (.lit (.bool a8))).value [] { args:=args,res:=a5 (.bool a8),after:=args }=a5 (.bool (a8==a8))from w_eq_bool (w_res rfl) w_lit) rfl
theorem attach_call{l:cG}{n:Nat}{q:ak}{loose:List ag}{XP:(ag->Option a9)->aD->Prop}{YP:ax->aD->Prop}{d:DefRec}
  (hn:l.most=a5 n) (hdf:d.params.defaults=[])
  (call:∀(w:ax)(s₀ s₁:ae)(mg mb:k4q)(fa:af)(o:c7)(pm cd doc:a9)(a:af) (vs:List a9) (ns:List Int),
   Ground q loose [] XP w s₀ mg mb s₁.heap->YP w s₁.heap ->
   s₁.heap.get? fa=a5 o->o.data=.func (docDef d.name d.params d.body d.scope pm cd doc)->s₁.heap.CodeRec cd d.name->mg d.name=a5 (.ref fa) ->
   s₁.heap.get? a=a5 { cls:=.type "list",data:=.seq vs.toArray }->cg vs ns->ns.length<=n->s₁.gens = #[] ->
   bR (ar l.prog w) eJ (.call (.ref fa) ⟨[.ref a],[]⟩) (λr s'=>r=.ok (.ret (.bool a8))/\OldK s₁.heap s'.heap/\s'.os=s₁.os/\cY s'.gens) s₁) :
  fD q loose XP YP l.row.toRowW d [] (λf vs=>fH f vs):=by
 intro w s₀ s₁ mg mb G Y fa o pm cd doc dV kV ho hd hcd hD hmg hg args vals as hpre hlay hrd hwl hlo;obtain rfl:dV=.none:=Dflts.none hD hdf;obtain rfl:kV=.none:=Dflts.noKw hD;obtain⟨a,vs,ns,rfl,rfl,hobj,hints,hlen⟩:=La hn hpre hwl;refine enter_call (bX (call w s₀ s₁ mg mb fa o pm cd doc a vs ns G Y ho (fd_plain hd) hcd hmg hobj hints hlen hg) λr s' hq=>?_);obtain⟨rfl,h2,h3,h4⟩:=hq;exact⟨.inl ⟨.bool a8,.bool a8,[],rfl,λ_=>rfl,.bool a8,Lh l _,λ_=>⟨List.Pairwise.nil,λ_ hm=>(nomatch hm)⟩⟩,h2,h3,h4⟩
section
variable{prog:ak}{w:ax}{A:az}{E:k4o}{s:ae}{K:jC}
end
end Att
namespace L2
open PySem PySem.Spec PyProof.Rows
theorem Wd:∀{vs:List a9}{ns:List Int},cg vs ns->Vals (ns.map V.int) vs
 |_,_,.nil=>.nil
 |_,_,.cons n t h=>.cons ⟨t,rfl⟩ (Wd h)
def Only(ts:List (af×ag))(H:Hp):Prop:=(∀b,H b=a7\/(∃o xs,H b=a5 (.frz o (.lst xs)))\/∃q,(b,q)∈ts/\H b=a5 (.cod q))/\∀t∈ts,H t.1=a5 (.cod t.2)
def j26(ts:List (af×ag))(h:aD):Prop:=(ts.map (·.1)).Nodup/\∀t∈ts,(∃c,PySem.W.CodeHd h c t.1)/\h.get? t.1=a5 (W.tabObj #[])
theorem Bl:∀{ts:List (af×ag)} {b:af} {q:ag},ts.lookup b=a5 q->(b,q)∈ts
 |p::r,b,q,h=>by
  rw[Xa]at h;cases e:b==p.1 with
  |true=>rw[e]at h;cases h;rw[beq_iff_eq.mp e];exact xj ..
  |false=>rw[e]at h;exact km _ (Bl h)
theorem lookup_tab:∀{ts:List (af×ag)},(ts.map (·.1)).Nodup->∀t∈ts,ts.lookup t.1=a5 t.2
 |[],_,_,h=>by cases h
 |p::r,nd,t,ht=>by
  rw[Xi]at nd;rcases xf.mp ht with e|ht
  .subst e;rw[Xa,beq_self_eq_true]
  .have ne:(t.1==p.1)=a6:=beq_eq_false_iff_ne.mpr λz=>(Xg.mp nd).1 (z▸fK ht);rw[Xa,ne];exact lookup_tab (Xg.mp nd).2 t ht
theorem j0q{P:ak}{w:ax}{K:k4n}{mg mb:k4q}{CX:CXT}{k:Nat}{fa a:af}{fd:aH}{x:ag}{sp:Sp}{s₁:ae}{vs:List a9}{ns:List Int}{ts:List (af×ag)}
  (KX:K.In s₁.heap) (hns:s₁.heap.Ns aj mg) (hb:s₁.heap.Ns cM mb) (hbb:∀x:ag,x ≠ "__name__"->mb x=aU x) (hlim:s₁.heap.NoLimit)
  (hbm:∃bm ob,mg "__builtins__" = a5 (.ref bm)/\bm≠cM/\s₁.heap.get? bm=a5 ob/\ob.cls=.type "module"/\ob.dict=a5 cM/\ob.data=.plain) (hT:j26 ts s₁.heap) (hK0:W.noTabs K=a8) (hg:s₁.gens = #[])
  (ha:s₁.heap.get? a=a5 { cls:=.type "list",data:=.seq vs.toArray }) (hi:cg vs ns) (hl:ns.length<=ai) (hr:Room k eJ)
  (F:∀base:aD,K.In base->base.Ns aj mg->FnOk P w K mg base CX k fa fd [x] sp) (hbind:∀(s:ae)(u:a9),eM s fd ⟨[u],[]⟩ [(x,u)])
  (hsp:∀H:Hp,Only ts H->SqL K H a (ns.map V.int)->sp [.ref a] H (λv H'=>v=.bl a8/\∀b o,H b=a5 o->H' b=a5 o) λ_ _ _=>False)
  (hCX:∀H e s',CX [] H s₁ (λ_ _ _=>False) e s'->False) :
  bR (ar P w) eJ (.call (.ref fa) ⟨[.ref a],[]⟩) (λr s'=>r=.ok (.ret (.bool a8))/\OldK s₁.heap s'.heap/\s'.os=s₁.os/\cY s'.gens) s₁:=by
 have rv:=Wd hi;have lenV:=hi.length;have at_:∀{q:ag}{b:af},(b,q)∈ts->s₁.heap.get? b=a5 (W.tabObj #[]):=λ{q b} h=>(hT.2 _ h).2;have core:∀H:Hp,Only ts H->SqL K H a (ns.map V.int)->HOk P w H s₁.heap->(∀b,H b≠a7->b=a\/∃q,(b,q)∈ts)->(H a≠a7->K.lookup a=a7) ->
   bR (ar P w) eJ (.call (.ref fa) ⟨[.ref a],[]⟩) (λr s'=>r=.ok (.ret (.bool a8))/\OldK s₁.heap s'.heap/\s'.os=s₁.os/\cY s'.gens) s₁:=by
  intro H hO hS hok hA hK;have base_of:∀{b:af}{o:c7},s₁.heap.get? b=a5 o->H b=a7->(Zo s₁.heap H).get? b=a5 o:=λe n=>j1c e n;have noA:∀{b:af}{o:c7},s₁.heap.get? b=a5 o->(∀vs n,o.data≠.seq vs n)->(∀vs,o.data≠.fields vs)->H b=a7:=λ{b o} e d d2=>by
   cases q:H b with
   |none=>rfl
   |some u =>
    rcases hA b (by rw[q];simp)with e'|⟨q',e'⟩
    .subst e';rw[ha]at e;cases e;exact absurd rfl (d _ _)
    .rw[at_ e']at e;cases e;exact absurd rfl (d2 _)
  have nsK:∀{b:af}{m:k4q},s₁.heap.Ns b m->(Zo s₁.heap H).Ns b m:=λ{b m} ⟨o,es,ep,e,d,r⟩=>⟨o,es,ep,base_of e (noA e (λ_ _ z=>by rw[d]at z;cases z) λ_ z=>by rw[d]at z;cases z),d,r⟩
  have hKb:K.In (Zo s₁.heap H):=λb o e=>base_of (KX b o e) (by
   cases q:H b with
   |none=>rfl
   |some u =>
    rcases hA b (by rw[q];simp)with e'|⟨q',e'⟩
    .subst e'
     rw[hK (by rw[q];simp)]at e;cases e
    .have e2:=KX b o e
     rw[at_ e']at e2
     have h2:=Xh.mp hK0 (b,o) (W.mem_of_lookupK e)
     cases e2
     exact absurd (show a6=a8 from h2) xr)
  have hM:Mod K mg (Zo s₁.heap H):=⟨hKb,nsK hns,⟨mb,nsK hb,hbb⟩,(let ⟨mc,h1,h2⟩:=hlim;⟨mc,nsK h1,h2⟩),
   let ⟨bm,ob,b1,b2,b3,b4,b5,b6⟩:=hbm;⟨bm,ob,b1,b2,base_of b3 (noA b3 (λ_ _ z=>by rw[b6]at z;cases z) λ_ z=>by rw[b6]at z;cases z),b4,b5,b6⟩⟩
  have e0:Env0 P w K mg (Zo s₁.heap H) eJ [] s₁ H:=⟨rfl,hM,λb o e=>j46 e,iL (Kg _ _),trivial,λb hb=>absurd (show b∈([]:List af)from hb) (by simp),hok,.of_eq hg⟩
  refine bX ((F _ hKb (nsK hns)).run eJ [] s₁ H ⟨[.ref a],[]⟩ [.ref a] [.ref a] _ _ hr e0 (hbind s₁ (.ref a)) (.cons rfl .nil) (hsp H hO hS)) λr s' h=>?_;cases r with
  |error e=>exact(hCX H e s' h).elim
  |ok fl =>
   cases fl with
   |next=>exact aO h
   |brk=>exact aO h
   |cont=>exact aO h
   |ret u =>
    obtain⟨v,H',os,bare,un,hok',r',q,sm⟩:=h;have q':v=.bl a8:=q;subst q';obtain rfl:u=bD a8:=r';have main:∀b o,s₁.heap.get? b=a5 o->s'.heap.get? b=a5 o\/((∃q,(b,q)∈ts)/\o=W.tabObj #[]/\∃ps,s'.heap.get? b=a5 (W.tabObj ps)):=λb o e=>by
     cases q:H b with
     |none=>exact .inl (un.keep b o e q (by intro z;exact absurd (show b∈([]:List af)from z) (by simp)) (by simp))
     |some u =>
      rcases hO.1 b with z|⟨ob,xs,z⟩|⟨q',hq,z⟩
      .rw[q]at z;cases z
      .have z2:=un.frzs b ob _ z;obtain⟨e1,_⟩:=hok b _ z;obtain⟨e2,_⟩:=hok' b _ z2;rw[e]at e1;cases e1;exact .inl e2
      .obtain⟨ps,e2,_⟩:=(show ji P w H' s'.heap b (.cod q')from hok' b _ (sm b _ z))
       rw[at_ hq]at e;exact .inr ⟨⟨q',hq⟩,(aB e).symm,ps,e2⟩
    refine⟨rfl,⟨λb o e=>?_,λb o e=>?_⟩,os,bare⟩
    .rcases main b o e with z|⟨⟨q,hq⟩,rfl,ps,z⟩
     .exact .inl z
     .obtain⟨c,hc⟩:=(hT.2 _ hq).1;exact .inr (.inl ⟨(hc.tab (at_ hq)).isCodeTable,rfl,#[],ps,rfl,by rw[z,Array.empty_append]⟩)
    .rcases main b o e with z|⟨_,_,ps,z⟩
     .exact⟨o,z⟩
     .exact⟨_,z⟩
 have lkT:∀b q,ts.lookup b=a5 q->(b,q)∈ts:=λb q h=>Bl h;have ofT:∀t∈ts,ts.lookup t.1=a5 t.2:=lookup_tab hT.1;have okT:∀(H:Hp) b q,(b,q)∈ts->ji P w H s₁.heap b (.cod q):=λH b q h=>⟨#[],at_ h,trivial,λpos cv z=>by cases z⟩
 cases hk:K.lookup a with
 |some o =>
  have e:=KX a o hk;rw[ha]at e;cases e;refine core (λb=>(ts.lookup b).map HO.cod) ⟨λb=>?_,λt ht=>by show(ts.lookup t.1).map HO.cod=_;rw[ofT t ht];rfl⟩ (.inr ⟨_,vs.toArray,_,hk,rfl,rfl,rfl,by rw[xm,lenV];exact hl,by simpa using rv⟩) (λb u z=>?_) (λb z=>?_) λz=>?_
  .cases e:ts.lookup b with
   |none=>exact .inl (by show(ts.lookup b).map HO.cod=_;rw[e];rfl)
   |some q=>exact .inr (.inr ⟨q,lkT b q e,by show(ts.lookup b).map HO.cod=_;rw[e];rfl⟩)
  .obtain⟨q,e,rfl⟩:=Xx.mp z;exact okT _ b q (lkT b q e)
  .cases e:ts.lookup b with
   |none=>exact absurd (by show(ts.lookup b).map HO.cod=_;rw[e];rfl) z
   |some q=>exact .inr ⟨q,lkT b q e⟩
  .cases e:ts.lookup a with
   |none=>exact absurd (by show(ts.lookup a).map HO.cod=_;rw[e];rfl) z
   |some q=>have:=at_ (lkT a q e);rw[ha]at this;cases this
 |none =>
  have na:∀q,(a,q)∉ts:=λq h=>by have:=at_ h;rw[ha]at this;cases this
  refine core (λb=>if b=a then a5 (.frz { cls:=.type "list",data:=.seq vs.toArray } (.lst (ns.map V.int))) else(ts.lookup b).map HO.cod) ⟨λb=>?_,λt ht=>?_⟩ (.inl (.inr ⟨{ cls:=.type "list",data:=.seq vs.toArray },if_pos rfl⟩)) (λb u z=>?_) (λb z=>?_) λ_=>hk
  .by_cases hb:b=a
   .exact .inr (.inl ⟨_,_,if_pos hb⟩)
   .cases e:ts.lookup b with
    |none=>exact .inl (by show(if b=a then _ else _)=_;rw[if_neg hb,e];rfl)
    |some q=>exact .inr (.inr ⟨q,lkT b q e,by show(if b=a then _ else _)=_;rw[if_neg hb,e];rfl⟩)
  .have nb:t.1≠a:=λz=>na t.2 (z▸ht);show(if t.1=a then _ else _)=_;rw[if_neg nb,ofT t ht];rfl
  .by_cases hb:b=a
   .have z':=(if_pos hb).symm.trans z;cases z';subst hb;exact⟨ha,by rw[xn];exact hl,vs,_,rv,ha⟩
   .have z':=(if_neg hb).symm.trans z;obtain⟨q,e,rfl⟩:=Xx.mp z';exact okT _ b q (lkT b q e)
  .by_cases hb:b=a
   .exact .inl hb
   .cases e:ts.lookup b with
    |none=>exact absurd (by show(if b=a then _ else _)=_;rw[if_neg hb,e];rfl) z
    |some q=>exact .inr ⟨q,lkT b q e⟩
theorem walk_of{l:cG}{n k:Nat}{q:ak}{loose:List ag}{XP:(ag->Option a9)->aD->Prop}{YP:ax->aD->Prop}{d:DefRec}{K:jG->k4n}{CX:ax->CXT}{sp:ax->Sp}{x:ag}{ts:ax->List (af×ag)}
  (hn:l.most=a5 n) (hn2:n<=ai) (hdf:d.params.defaults=[]) (hr:Room k eJ)
  (hY:∀(w:ax)(h:aD),YP w h->(K w.params).In h/\j26 (ts w) h) (hK0:∀w:ax,W.noTabs (K w.params)=a8)
  (F:∀(w:ax)(mg:k4q)(fa:af)(h:aD),(K w.params).In h->h.Ns aj mg->mg d.name=a5 (.ref fa) ->
   ∃fd:aH,(∀(s:ae)(u:a9),eM s fd ⟨[u],[]⟩ [(x,u)]) /\
    ∀base:aD,(K w.params).In base->base.Ns aj mg->FnOk l.prog w (K w.params) mg base (CX w) k fa fd [x] (sp w))
  (hsp:∀(w:ax)(H:Hp)(a:af)(ns:List Int),ns.length<=n->Only (ts w) H->SqL (K w.params) H a (ns.map V.int)->sp w [.ref a] H (λv H'=>v=.bl a8/\∀b o,H b=a5 o->H' b=a5 o) λ_ _ _=>False)
  (hCX:∀(w:ax)(H:Hp)(s:ae)(e:a9)(s':ae),CX w [] H s (λ_ _ _=>False) e s'->False) :
  fD q loose XP YP l.row.toRowW d [] (λf vs=>fH f vs):=by
 refine Att.attach_call hn hdf λw s₀ s₁ mg mb fa o pm cd doc a vs ns G Y ho hd hcd hmg hobj hints hlen hg=>?_;obtain⟨KX,hT⟩:=hY w _ Y;obtain⟨fd,hb,hF⟩:=F w mg fa _ KX G.T.g hmg;exact j0q KX G.T.g G.T.b G.T.builtins G.T.nolimit G.T.bmain hT (hK0 w) hg hobj hints (Xd hlen hn2) hr hF hb (λH hO hS=>hsp w H a ns hlen hO hS) λH e s'=>hCX w H s₁ e s'
end L2
/- THE LAST THEOREM (shape;LID,My.* are yours):
 My.Adr: a structure of the addresses that your layer names (classes,functions);My.Txt K t: a structure (Prop) of the equations over K;
 My.txt_mk:{K} {implicit addresses ..} (e1:fZ K aj "law" = a5 (a5 (.ref f))) (e2:K.lookup f=a5 ⟨oc,od,.func (fnOf "law" "law" params body scope dV kV doc pm an cdv ct),sl⟩) (e3:codeIn K cdv "law" = a8) ..:∃t,My.Txt K t
(the tactic k_is has no namespace: write k_is) -/
namespace L2
open PySem PySem.Spec PyProof.Rows
noncomputable def qe(s:aM):fU:=match s with
 |.FunctionDef _ a _ _ _ _ _ _ _ _=>a
 |_=>{ posonlyargs:=[],args:=[],vararg:=a7,kwonlyargs:=[],kw_defaults:=[],kwarg:=a7,defaults:=[] }
noncomputable def jb(s:aM):List aM:=match s with
 |.FunctionDef _ _ b _ _ _ _ _ _ _=>b
 |_=>[]
noncomputable def j0(s:aM):bg:=match s with
 |.FunctionDef _ _ _ _ _ _ sc _ _ _=>sc
 |_=>{ kind:=.function,names:=[],isGenerator:=a6,isCoroutine:=a6 }
noncomputable abbrev CX0:CXT:=λ_ _ _ _ _ _=>False
noncomputable abbrev E0:XK:=λ_ _ _=>False
theorem Rr{X:Cx}:Ou CX0 X E0:=λ_ _ _ _ _ _ _ h=>h.elim
structure Fun(K:k4n)(x qual:ag)(st:aM)(f:af)(fd:aH):Prop where
 ex:∃(oc:a9)(od:Option af)(dV kV doc pm:a9)(an:Option af)(cdv ct:a9)(osl:Array (Option a9)),
  fd=W.fnOf x qual (qe st) (jb st) (j0 st) dV kV doc pm an cdv ct/\K.lookup f=a5 ⟨oc,od,.func fd,osl⟩/\W.codeIn K cdv qual=a8
 kp:W.keepIn K (.ref f)=a8
section
variable{P:ak}{w:ax}{K:k4n}{mg:k4q}{base:aD}
theorem Fun.binds{x qual:ag}{st:aM}{f:af}{kV doc pm:a9}{an:Option af}{cdv ct:a9}{ps:List ag}(F:Fun K x qual st f (W.fnOf x qual (qe st) (jb st) (j0 st) .none kV doc pm an cdv ct))
  (h:∀(kV doc pm:a9)(an:Option af)(cdv ct:a9)(us:List a9),us.length=ps.length->bY (W.fnOf x qual (qe st) (jb st) (j0 st) .none kV doc pm an cdv ct) ⟨us,[]⟩=pure (ps.zip us)):Binds K (W.fnOf x qual (qe st) (jb st) (j0 st) .none kV doc pm an cdv ct) ps []:=.all (h kV doc pm an cdv ct)
theorem Vg{x qual:ag}{st:aM}{f:af}{oc:a9}{od an:Option af}{osl:Array (Option a9)}{dV kV doc pm cdv ct:a9}(l:K.lookup f=a5 ⟨oc,od,.func (W.fnOf x qual (qe st) (jb st) (j0 st) dV kV doc pm an cdv ct),osl⟩)
  (c:W.codeIn K cdv qual=a8) (k:W.keepIn K (.ref f)=a8):Fun K x qual st f (W.fnOf x qual (qe st) (jb st) (j0 st) dV kV doc pm an cdv ct):=⟨⟨oc,od,dV,kV,doc,pm,an,cdv,ct,osl,rfl,l,c⟩,k⟩
end
section
variable{X:Cx}
end
theorem Fy{A B:Prop}(h:B):if a6=a8 then A else B:=by rw[if_neg xr];exact h
theorem Fx{A B:Prop}(h:A):if a8=a8 then A else B:=by rw[if_pos rfl];exact h
def j4(H H':Hp):Prop:=∀b o,H b=a5 o->H' b=a5 o
theorem j4.refl(H:Hp):j4 H H:=λ_ _ h=>h
theorem j4.trans{H H1 H2:Hp}(a:j4 H H1)(b:j4 H1 H2):j4 H H2:=λc o h=>b c o (a c o h)
theorem j4.free{H H':Hp}(e:j4 H H'){l:af}(h:H' l=a7):H l=a7:=by
 cases q:H l with
 |none=>rfl
 |some o =>rw[e l o q]at h;cases h
theorem j4.seq{K:k4n}{H H':Hp}{a:af}{xs:List V}(e:j4 H H')(h:SqL K H a xs):SqL K H' a xs:=by
 rcases h with (h|⟨o,h⟩)|h
 .exact .inl (.inl (e _ _ h))
 .exact .inl (.inr ⟨o,e _ _ h⟩)
 .exact .inr h
set_option genInjectivity true in
inductive D where
 |non
 |bl (b:Bool)
 |int (i:Int)
 |str (x:ag)
 |tup (ds:List D)
 |lst (ds:List D)
 |dct (ks:List (List Int)) (ds:List D)
 |sct (kvs:List (ag×Int))
 |fn (x:ag) (cs:List D)
noncomputable def kvI(kvs:List (ag×Int)):List (Key×V):=kvs.map λp=>(.inr p.1,.int p.2)
noncomputable def qu(x:ag):ag:=x ++ ".<locals>." ++ "<lambda>"
noncomputable abbrev Tx:=fU×ah×bg
noncomputable def jce:ah->Option Tx
 |.Lambda a b sc _=>a5 (a,b,sc)
 |.Call _ es _ _=>match es.getLast? with
  |some (.Lambda a b sc _)=>a5 (a,b,sc)
  |_=>a7
 |_=>a7
noncomputable def j7b(b:List aM):Option Tx:=match b.getLast? with
 |some (.Return (a5 e) _)=>jce e
 |_=>a7
noncomputable def Fv(K:k4n)(x:ag):Option Tx:=match W.nsIn K aj x with
 |some (a5 (.ref f))=>match K.lookup f with
  |some ⟨_,_,.func fd,_⟩=>match fd.body with
   |.stmts b=>j7b b
   |_=>a7
  |_=>a7
 |_=>a7
noncomputable def Q3(sc:bg):List ag:=((sc.names.filter λp=>p.2==.free).map (·.1)).reverse
def zr(H:Hp):List af->List V->Prop
 |[],vs=>vs=[]
 |c::cs,vs=>∃v r o u,vs=v::r/\H c=a5 (.frz o (.own 0))/\o.data=.cell (a5 u)/\RelV v u/\zr H cs r
theorem zr.mono{H H':Hp}(g:j4 H H'):∀{cs:List af}{vs:List V},zr H cs vs->zr H' cs vs
 |[],_,h=>h
 |_::_,_,⟨v,r,o,u,e,h,d,rv,l⟩=>⟨v,r,o,u,e,g _ _ h,d,rv,l.mono g⟩
structure LamAt(K:k4n)(H:Hp)(x:ag)(a c:af)(t:Tx)(cl:List (ag×af))(vs:List V):Prop where
 tx:Fv K x=a5 t
 fo:∃pm ctv,H a=a5 (.frz (W.kla_obj "<lambda>" (qu x) t.1 t.2.1 t.2.2 cl pm c ctv) (.own 0))
 co:∃oc,H c=a5 (.frz oc (.own 0))/\Du oc (qu x)
 nm:cl.map (·.1)=Q3 t.2.2
 nd:(cl.map (·.2)).Nodup
 cs:zr H (cl.map (·.2)) vs
theorem LamAt.mono{K:k4n}{H H':Hp}{x:ag}{a c:af}{tx:Tx}{cl:List (ag×af)}{vs:List V}(g:j4 H H')(h:LamAt K H x a c tx cl vs):LamAt K H' x a c tx cl vs :=
 ⟨h.tx,let ⟨pm,ctv,e⟩:=h.fo;⟨pm,ctv,g _ _ e⟩,let ⟨oc,e,q⟩:=h.co;⟨oc,g _ _ e,q⟩,h.nm,h.nd,h.cs.mono g⟩
noncomputable def del(H:Hp)(A:List af):Hp:=λb=>if b∈A then a7 else H b
section
variable{H H' F:Hp}{A A':List af}{a b:af}{o:HO}
theorem qx(h:b∈A):del H A b=a7:=if_pos h
theorem j8(h:b∉A):del H A b=H b:=if_neg h
theorem of_del(h:del H A b=a5 o):b∉A/\H b=a5 o:=by
 by_cases e:b∈A
 .rw[qx e]at h;cases h
 .rw[j8 e]at h;exact⟨e,h⟩
theorem je(g:j4 H H'):j4 (del H A) (del H' A):=λb o h=>by obtain⟨n,e⟩:=of_del h;rw[j8 n];exact g b o e
end
theorem j4.seqT{K:k4n}{H H':Hp}{a:af}{xs:List V}(e:j4 H H')(h:SqT K H a xs):SqT K H' a xs:=by
 rcases h with (h|⟨o,h⟩)|h
 .exact .inl (.inl (e _ _ h))
 .exact .inl (.inr ⟨o,e _ _ h⟩)
 .exact .inr h
mutual
def Enc(K:k4n)(H:Hp):D->V->Prop
 |.non,v=>v=.non
 |.bl b,v=>v=.bl b
 |.int i,v=>v=.int i
 |.str x,v=>v=.str x
 |.tup ds,v=>∃a xs,v=.ref a/\SqT K H a xs/\j5 K H ds xs
 |.lst ds,v=>∃a xs,v=.ref a/\SqL K H a xs/\j5 K H ds xs
 |.dct ks ds,v=>∃(a:af)(xs:List (List Int×af×a9)) (ep:Nat) (vs:List V),v=.ref a/\H a=a5 (.dI xs ep)/\ks=(xs.map λx=>x.1)/\(∀x∈xs,SqT K H x.2.1 (x.1.map V.int))/\Vals vs (xs.map λx=>x.2.2)/\j5 K H ds vs
 |.sct kvs,v=>∃a:af,v=.ref a/\H a=a5 (.dK (kvI kvs))
 |.fn x ds,v=>∃(a c:af)(tx:Tx)(cl:List (ag×af)) (vs:List V),v=.ref a/\LamAt K H x a c tx cl vs/\j5 K (del H (cl.map (·.2))) ds vs
def j5(K:k4n)(H:Hp):List D->List V->Prop
 |[],xs=>xs=[]
 |d::ds,xs=>∃x r,xs=x::r/\Enc K H d x/\j5 K H ds r
end
mutual
theorem Enc.mono{K:k4n}{H H':Hp}(g:j4 H H'):∀{d:D}{v:V},Enc K H d v->Enc K H' d v
 |.non,_,h=>h
 |.bl _,_,h=>h
 |.int _,_,h=>h
 |.str _,_,h=>h
 |.tup _,_,⟨a,xs,e,q,l⟩=>⟨a,xs,e,g.seqT q,j5.mono g l⟩
 |.lst _,_,⟨a,xs,e,q,l⟩=>⟨a,xs,e,g.seq q,j5.mono g l⟩
 |.dct _ _,_,⟨a,xs,ep,vs,e,q,ek,kt,rv,l⟩=>⟨a,xs,ep,vs,e,g _ _ q,ek,λx hx=>g.seqT (kt x hx),rv,j5.mono g l⟩
 |.sct _,_,⟨a,e,q⟩=>⟨a,e,g _ _ q⟩
 |.fn _ _,_,⟨a,c,tx,cl,vs,e,q,l⟩=>⟨a,c,tx,cl,vs,e,q.mono g,j5.mono (je g) l⟩
theorem j5.mono{K:k4n}{H H':Hp}(g:j4 H H'):∀{ds:List D}{xs:List V},j5 K H ds xs->j5 K H' ds xs
 |[],_,h=>h
 |_::_,_,⟨x,r,e,h,l⟩=>⟨x,r,e,Enc.mono g h,j5.mono g l⟩
end
section
variable{K:k4n}{H H':Hp}{ds ds':List D}{xs ys:List V}
theorem j5.length:∀{ds:List D}{xs:List V},j5 K H ds xs->xs.length=ds.length
 |[],_,h=>by cases h;rfl
 |_::_,_,⟨x,r,e,_,l⟩=>by subst e;simp[j5.length l]
theorem j5.get:∀{ds:List D}{xs:List V}{i:Nat}{d:D},j5 K H ds xs->ds[i]?=a5 d->∃x,xs[i]?=a5 x/\Enc K H d x
 |[],_,i,d,_,e=>by simp at e
 |_::_,_,0,d,⟨x,r,e,h,_⟩,q=>by subst e;simp at q;subst q;exact⟨x,rfl,h⟩
 |_::_,_,i+1,d,⟨x,r,e,_,l⟩,q=>by subst e;simp at q;obtain⟨y,hy,hd⟩:=j5.get l q;exact⟨y,by simpa using hy,hd⟩
theorem j5.append:∀{ds ds':List D}{xs ys:List V},j5 K H ds xs->j5 K H ds' ys->j5 K H (ds++ds') (xs++ys)
 |[],_,_,_,h,h'=>by cases h;exact h'
 |_::_,_,_,_,⟨x,r,e,h,l⟩,h'=>by subst e;exact⟨x,_,rfl,h,j5.append l h'⟩
theorem j5.one{d:D}{x:V}(h:Enc K H d x):j5 K H [d] [x]:=⟨x,[],rfl,h,rfl⟩
theorem j5.take:∀{ds:List D}{xs:List V}(n:Nat),j5 K H ds xs->j5 K H (ds.take n) (xs.take n)
 |[],_,n,h=>by cases h;simp;exact rfl
 |_::_,_,0,⟨x,r,e,h,l⟩=>by simp;exact rfl
 |_::_,_,n+1,⟨x,r,e,h,l⟩=>by subst e;exact⟨x,_,rfl,h,j5.take n l⟩
theorem j5.drop:∀{ds:List D}{xs:List V}(n:Nat),j5 K H ds xs->j5 K H (ds.drop n) (xs.drop n)
 |[],_,n,h=>by cases h;simp;exact rfl
 |_::_,_,0,h=>h
 |_::_,_,n+1,⟨x,r,e,h,l⟩=>by subst e;exact j5.drop n l
theorem j5.rep{ds:List D}{xs:List V}(h:j5 K H ds xs):∀k:Nat,j5 K H (aq k ds).flatten (aq k xs).flatten
 |0=>rfl
 |k+1=>by rw[Xw,Xw,Pu,Pu];exact h.append (j5.rep h k)
theorem j5.ints(ns:List Int):j5 K H (ns.map D.int) (ns.map V.int):=by
 induction ns with
 |nil=>exact rfl
 |cons n ns ih=>exact⟨_,_,rfl,rfl,ih⟩
end
section
variable{H H' F:Hp}{A A':List af}{a b:af}{o:HO}
theorem zj:del H []=H:=funext λb=>if_neg (by simp)
theorem jw:j4 (del H A) H:=λ_ _ h=>(of_del h).2
theorem zp(h:∀b,b∈A'->b∈A):j4 (del H A) (del H A'):=λb o e=>by obtain⟨n,e⟩:=of_del e;rw[j8 λz=>n (h b z)];exact e
theorem Zc(h:a∈A):del (upd H a o) A=del H A:=funext λb=>by
 by_cases e:b∈A
 .rw[qx e,qx e]
 .rw[j8 e,j8 e,jf];rintro rfl;exact e h
noncomputable def mrg(A:List af)(H F:Hp):Hp:=λb=>if b∈A then H b else F b
theorem zx(h:b∈A):mrg A H F b=H b:=if_pos h
theorem jd(h:b∉A):mrg A H F b=F b:=if_neg h
theorem Ji(h:∀a∈A,F a=a7):del (mrg A H F) A=F:=funext λb=>by
 by_cases e:b∈A
 .rw[qx e,h b e]
 .rw[j8 e,jd e]
theorem Yl(g:j4 (del H A) F):j4 H (mrg A H F):=λb o e=>by
 by_cases z:b∈A
 .rw[zx z];exact e
 .rw[jd z];exact g b o (by rw[j8 z];exact e)
theorem j6(h:H a=a7):j4 H (upd H a o):=λb u q=>by rw[jf (vg q h)];exact q
end
def Hd(o:Option HO):Prop:=(∃xs,o=a5 (.lst xs))\/∃xs ep,o=a5 (.dI xs ep)
section
variable{X:Cx}{pins:k4p}{σ σ':St}{H F:Hp}{s s':ae}{A:List af}
theorem Inv.noFs(I:Inv X pins σ H s){b:af}(hb:b∈X.fs):H b=a7:=by
 have q:b∈frs X.stack:=by
  rcases I.ok.stk with e|⟨e,_⟩
  .rw[e];exact hb
  .rw[e];have hb:b∈frs X.outer:=hb;unfold frs at hb ⊢;rw[bL];split
   .exact hb
   .exact km _ hb
 exact I.stkFree b q
theorem Inv.hide(I:Inv X pins σ H s)(hA:∀a∈A,Hd (H a)):Inv X (pins++Qk A s.heap) σ (del H A) s where
 ok:=I.ok
 os:=I.os
 bare:=I.bare
 base:={
  keep:=I.base.keep
  slot:=I.base.slot
  free:=λb o e n hx=>by
   have q:=I.base.free b o e n hx
   by_cases z:b∈A
   .exact qx z
   .rw[j8 z];exact q
  there:=I.base.there
  tups:=λb xs e=>by
   have q:=I.base.tups b xs e
   rw[j8];exact q
   intro z;rcases hA b z with ⟨ys,e'⟩|⟨ys,ep,e'⟩<;>(rw[q]at e';cases e')
  frzs:=λb o u e=>by
   have q:=I.base.frzs b o u e
   rw[j8];exact q
   intro z;rcases hA b z with ⟨ys,e'⟩|⟨ys,ep,e'⟩<;>(rw[q]at e';cases e')
  tbls:=λb ps e=>by
   obtain⟨more,q⟩:=I.base.tbls b ps e
   refine⟨more,?_⟩
   rw[j8];exact q
   intro z;rcases hA b z with ⟨ys,e'⟩|⟨ys,ep,e'⟩<;>(rw[q]at e';cases e') }
 loc:=I.loc
 cell:=I.cell
 free:=by
  by_cases z:X.env.locals∈A
  .exact qx z
  .rw[j8 z];exact I.free
 freeC:=λx c e=>by
  by_cases z:c∈A
  .exact qx z
  .rw[j8 z];exact I.freeC x c e
 pin:=λp hp=>by
  rw[<-cF]at hp;rcases List.mem_append.mp hp with hp|hp
  .obtain⟨h1,h2,h3⟩:=I.pin p hp;refine⟨h1,?_,h3⟩;by_cases z:p.1∈A
   .exact qx z
   .rw[j8 z];exact h2
  .obtain⟨h1,h2⟩:=Wj hp;rcases hA _ h1 with ⟨xs,e⟩|⟨xs,ep,e⟩
   .refine⟨h2,qx h1,λz=>?_,λz=>?_,λv z=>?_⟩
    .rw[z,I.free]at e;cases e
    .rw[I.noFs z]at e;cases e
    .obtain⟨_,its,n,_,q⟩:=(show ji X.prog X.w H s.heap p.1 (.lst xs)from I.hok _ _ e)
     rw[h2]at q;rw[aB q]at z;cases z
   .refine⟨h2,qx h1,λz=>?_,λz=>?_,λv z=>?_⟩
    .rw[z,I.free]at e;cases e
    .rw[I.noFs z]at e;cases e
    .obtain⟨_,_,_,ob,es,q,_,qd,_⟩:=(show ji X.prog X.w H s.heap p.1 (.dI xs ep)from I.hok _ _ e)
     rw[h2]at q;rw[aB q,qd]at z;cases z
 hok:=λa o e=>by
  obtain⟨n,e⟩:=of_del e;refine ji.stay (I.hok a o e) (λb u _ q=>q) (λb q=>?_) (λb xs q=>?_) (λb _ _ q=>?_)
  .rw[j8];exact q;intro z;rcases hA b z with ⟨ys,e'⟩|⟨ys,ep,e'⟩<;>(rw[q]at e';cases e')
  .rw[j8];exact q;intro z;rcases hA b z with ⟨ys,e'⟩|⟨ys,ep,e'⟩<;>(rw[q]at e';cases e')
  .rw[j8];exact q;intro z;rcases hA b z with ⟨ys,e'⟩|⟨ys,ep,e'⟩<;>(rw[q]at e';cases e')
 len:=I.len
theorem Inv.unhide(I0:Inv X pins σ H s)(hA:∀a∈A,Hd (H a))(I:Inv X (pins++Qk A s.heap) σ' F s') :
  (∀a∈A,F a=a7)/\Inv X pins σ' (mrg A H F) s':=by
 have pinned:∀a∈A,∃o,s.heap.get? a=a5 o/\s'.heap.get? a=a5 o/\F a=a7:=λa ha=>by
  have ob:∃o,s.heap.get? a=a5 o:=by
   rcases hA a ha with ⟨xs,e⟩|⟨xs,ep,e⟩
   .obtain⟨_,its,n,_,q⟩:=(show ji X.prog X.w H s.heap a (.lst xs)from I0.hok _ _ e)
    exact⟨_,q⟩
   .obtain⟨_,_,_,o,es,q,_⟩:=(show ji X.prog X.w H s.heap a (.dI xs ep)from I0.hok _ _ e)
    exact⟨_,q⟩
  obtain⟨o,q⟩:=ob;obtain⟨h1,h2,_⟩:=I.pin (a,_) (X8 _ (X8 _ (Jj ha q)));exact⟨_,q,h1,h2⟩
 have hF:∀a∈A,F a=a7:=λa ha=>let ⟨_,_,_,q⟩:=pinned a ha;q;have out:∀{b:af}{o:HO},F b=a5 o->b∉A:=λ{b o} e z=>by rw[hF b z]at e;cases e
 refine⟨hF,?_⟩;exact{
  ok:=I.ok
  os:=I.os
  bare:=I.bare
  base:={
   keep:=I.base.keep
   slot:=I.base.slot
   free:=λb o e n hx=>by
    by_cases z:b∈A
    .rw[zx z];exact I0.base.free b o e n hx
    .rw[jd z];exact I.base.free b o e n hx
   there:=I.base.there
   tups:=λb xs e=>by
    have q:=I.base.tups b xs e
    rw[jd (out q)];exact q
   frzs:=λb o u e=>by
    have q:=I.base.frzs b o u e
    rw[jd (out q)];exact q
   tbls:=λb ps e=>by
    obtain⟨more,q⟩:=I.base.tbls b ps e
    exact⟨more,by rw[jd (out q)];exact q⟩ }
  loc:=I.loc
  cell:=I.cell
  free:=by
   by_cases z:X.env.locals∈A
   .rw[zx z];exact I0.free
   .rw[jd z];exact I.free
  freeC:=λx c e=>by
   by_cases z:c∈A
   .rw[zx z];exact I0.freeC x c e
   .rw[jd z];exact I.freeC x c e
  pin:=λp hp=>by
   obtain⟨h1,h2,h3⟩:=I.pin p (by rw[<-cF];exact Xm _ hp)
   refine⟨h1,?_,h3⟩
   by_cases z:p.1∈A
   .rw[zx z];exact(I0.pin p hp).2.1
   .rw[jd z];exact h2
  hok:=λa o e=>by
   by_cases z:a∈A
   .rw[zx z]at e
    obtain⟨o',q1,q2,_⟩:=pinned a z
    rcases hA a z with ⟨xs,e'⟩|⟨xs,ep,e'⟩
    .rw[e']at e;cases e
     obtain⟨hl,its,n,r,q⟩:=(show ji X.prog X.w H s.heap a (.lst xs)from I0.hok _ _ e')
     rw[q]at q1;cases q1
     exact⟨hl,its,n,r,q2⟩
    .rw[e']at e;cases e
     obtain⟨z1,z2,z3,ob,es,q,z4⟩:=(show ji X.prog X.w H s.heap a (.dI xs ep)from I0.hok _ _ e')
     rw[q]at q1;cases q1
     exact⟨z1,z2,z3,_,es,q2,z4⟩
   .rw[jd z]at e
    refine ji.stay (I.hok a o e) (λb u _ q=>q) (λb q=>?_) (λb xs q=>?_) (λb _ _ q=>?_)
    .rw[jd (out q)];exact q
    .rw[jd (out q)];exact q
    .rw[jd (out q)];exact q
  len:=I.len }
end
def Jf(X:Cx)(e:ah):TE:=λσ H Q=>∀pins s,Inv X pins σ H s->aw (ar X.prog X.w) X.A (aG e X.env) (EP X pins σ Q) X.xe s
def j04(X:Cx)(e:ah):TT:=λσ H Q=>∀pins s,Inv X pins σ H s->aw (ar X.prog X.w) X.A (dU e X.env (aG e X.env)) (TP X pins σ Q) X.xe s
def Uu(X:Cx)(es:List ah):TA:=λσ H Q=>∀pos pins s,Inv X pins σ H s->aw (ar X.prog X.w) X.A (spliced (aS pos (aa es X.env))) (AP X pins σ Q) X.xe s
def j05(X:Cx)(st:aM):TS:=λD σ H=>∀pins s,Inv X pins σ H s->aw (ar X.prog X.w) X.A (exec st X.env) (SP X pins D) X.xe s
def Qa(X:Cx)(sts:List aM):TS:=λD σ H=>∀pins s,Inv X pins σ H s->aw (ar X.prog X.w) X.A (execs sts X.env) (SP X pins D) X.xe s
def j06(X:Cx)(tg iter:ah):TI:=λσ H R=>∀pins s,Inv X pins σ H s ->
 aw (ar X.prog X.w) X.A (aG iter X.env) (λv s1=>aw (ar X.prog X.w) X.A (jE v) (PIE X pins σ tg R) X.xe s1) X.xe s
section
variable{X:Cx}{e tg:ah}{es:List ah}{st:aM}{sts:List aM}{σ:St}{H:Hp}
theorem peS:PE X e (Jf X e):=λpins s _ _ _ I h=>h pins s I
theorem ptS:PT X e (j04 X e):=λpins s _ _ _ I h=>h pins s I
theorem paS:PA X es (Uu X es):=λpos pins s _ _ _ I h=>h pos pins s I
theorem psS:PS X st (j05 X st):=λpins s _ _ _ I h=>h pins s I
theorem Zj:PSs X sts (Qa X sts):=λpins s _ _ _ I h=>h pins s I
theorem piS:PI X tg e (j06 X tg e):=λpins s _ _ _ I h=>h pins s I
theorem PE.to{t:TE}(h:PE X e t){Q:VK}(q:t σ H Q):Jf X e σ H Q:=λpins s I=>h pins s σ H Q I q
theorem PT.to{t:TT}(h:PT X e t){Q:Bool->Hp->Prop}(q:t σ H Q):j04 X e σ H Q:=λpins s I=>h pins s σ H Q I q
theorem PA.to{t:TA}(h:PA X es t){Q:List V->Hp->Prop}(q:t σ H Q):Uu X es σ H Q:=λpos pins s I=>h pos pins s σ H Q I q
theorem PS.to{t:TS}(h:PS X st t){D:Ends}(q:t D σ H):j05 X st D σ H:=λpins s I=>h pins s σ H D I q
theorem PSs.to{t:TS}(h:PSs X sts t){D:Ends}(q:t D σ H):Qa X sts D σ H:=λpins s I=>h pins s σ H D I q
theorem PI.to{t:TI}(h:PI X tg e t){R:It->Hp->Prop}(q:t σ H R):j06 X tg e σ H R:=λpins s I=>h pins s σ H R I q
end
inductive Sl where
 |un
 |val (d:D)
 |own (a:af) (ds:List D)
 |raw (a:af) (o:c7) (x:ag)
noncomputable abbrev Rho:=List Sl
noncomputable def Sl.addr:Sl->Option af
 |.own a _=>a5 a
 |_=>a7
noncomputable def owns(ρ:Rho):List af:=ρ.filterMap Sl.addr
theorem J1{ρ:Rho}{i:Nat}{a:af}{ds:List D}(h:ρ[i]?=a5 (.own a ds)):a∈owns ρ:=Xv.mpr ⟨_,Xj h,rfl⟩
theorem Jz{ρ:Rho}{a:af}(h:a∈owns ρ):∃(i:Nat)(ds:List D),ρ[i]?=a5 (.own a ds):=by
 obtain⟨s,hs,e⟩:=Xv.mp h;obtain⟨i,hi⟩:=List.mem_iff_getElem?.mp hs;cases s with
 |own b ds=>cases e;exact⟨i,ds,hi⟩
 |un=>cases e
 |val d=>cases e
 |raw b o x=>cases e
theorem jc(s:Sl)(ρ:Rho):owns (s::ρ)=(match s.addr with|some a=>a::owns ρ|none=>owns ρ):=by unfold owns;rw[bL];cases s.addr<;>rfl
theorem jl{s:Sl}(hs:s.addr=a7):∀{ρ:Rho}{i:Nat},(owns (ρ.set i s)).Sublist (owns ρ)
 |[],_=>List.Sublist.refl _
 |x::r,0=>by
  rw[bP,jc,jc,hs];cases x.addr with
  |none=>exact List.Sublist.refl _
  |some a=>exact List.sublist_cons_self _ _
 |x::r,i+1=>by
  rw[cq,jc,jc];have ih:=jl hs (ρ:=r) (i:=i);cases x.addr with
  |none=>exact ih
  |some a=>exact ih.cons_cons a
theorem Q9{a:af}{ds ds':List D}:∀{ρ:Rho}{i:Nat},ρ[i]?=a5 (.own a ds)->owns (ρ.set i (.own a ds'))=owns ρ
 |[],_,h=>by simp at h
 |x::r,0,h=>by simp at h;subst h;rw[bP,jc,jc];rfl
 |x::r,i+1,h=>by simp at h;rw[cq,jc,jc,Q9 h]
theorem Y8{s:Sl}(hs:s.addr=a7):∀{ρ:Rho}{i:Nat},(∀a l,ρ[i]?≠a5 (.own a l))->owns (ρ.set i s)=owns ρ
 |[],_,_=>rfl
 |x::r,0,h=>by
  rw[bP,jc,jc,hs];cases x with
  |own a l=>exact absurd rfl (h a l)
  |un=>rfl
  |val d=>rfl
  |raw a o x=>rfl
 |x::r,i+1,h=>by rw[cq,jc,jc,Y8 hs (λa l=>by simpa using h a l)]
theorem v9{a:af}{ds:List D}:∀{ρ:Rho}{i:Nat},(owns ρ).Nodup->a∉owns ρ->(owns (ρ.set i (.own a ds))).Nodup/\∀b∈owns (ρ.set i (.own a ds)),b=a\/b∈owns ρ
 |[],_,n,_=>⟨n,λb hb=>.inr hb⟩
 |x::r,0,n,h=>by
  rw[bP,jc];rw[jc]at n h;have e:(Sl.own a ds).addr=a5 a:=rfl;rw[e];cases q:x.addr with
  |none =>rw[q]at n h;exact⟨Xg.mpr ⟨h,n⟩,λb hb=>(xf.mp hb).elim .inl λz=>.inr (by rw[jc,q];exact z)⟩
  |some c =>rw[q]at n h;exact⟨Xg.mpr ⟨λz=>h (km _ z),(Xg.mp n).2⟩,λb hb=>(xf.mp hb).elim .inl λz=>.inr (by rw[jc,q];exact km _ z)⟩
 |x::r,i+1,n,h=>by
  rw[cq,jc];rw[jc]at n h;cases q:x.addr with
  |none =>rw[q]at n h;obtain⟨i1,i2⟩:=v9 (ds:=ds) (i:=i) n h;exact⟨i1,λb hb=>(i2 b hb).elim .inl λz=>.inr (by rw[jc,q];exact z)⟩
  |some c =>
   rw[q]at n h;obtain⟨n1,n2⟩:=Xg.mp n;obtain⟨i1,i2⟩:=v9 (ds:=ds) (i:=i) n2 (λz=>h (km _ z));refine⟨Xg.mpr ⟨λz=>?_,i1⟩,λb hb=>?_⟩
   .rcases i2 c z with e|z
    .subst e;exact h (xj ..)
    .exact n1 z
   .rcases xf.mp hb with e|z
    .exact .inr (by rw[jc,q];exact e▸xj ..)
    .exact(i2 b z).elim .inl λz=>.inr (by rw[jc,q];exact km _ z)
theorem Ql{a:af}{l l':List D}:∀{ρ:Rho}{i j:Nat},(owns ρ).Nodup->ρ[i]?=a5 (.own a l)->ρ[j]?=a5 (.own a l')->i=j
 |[],i,_,_,h,_=>by simp at h
 |x::r,0,0,_,_,_=>rfl
 |x::r,0,j+1,n,h,h'=>by simp at h h';subst h;rw[jc]at n;exact absurd (J1 h') (Xg.mp n).1
 |x::r,i+1,0,n,h,h'=>by simp at h h';subst h';rw[jc]at n;exact absurd (J1 h) (Xg.mp n).1
 |x::r,i+1,j+1,n,h,h'=>by
  simp at h h';have n':(owns r).Nodup:=by
   rw[jc]at n;cases q:x.addr with
   |none=>rw[q]at n;exact n
   |some c=>rw[q]at n;exact(Xg.mp n).2
  rw[Ql n' h h']
noncomputable def Ju:List ag:=["worst_cost_of_ask","least_numbers","whole_cost_of_ask","round_numbers"]
def TabOk(K:k4n)(H:Hp):Prop:=∀x∈Ju,∀c P,W.tabIn K x=a5 (c,P)->H P=a5 (.cod (qu x))
section
variable{K:k4n}{H H':Hp}
theorem TabOk.mono(h:TabOk K H)(g:j4 H H'):TabOk K H':=λx hx c P e=>g _ _ (h x hx c P e)
theorem TabOk.upd{a:af}{o u:HO}(h:TabOk K H)(e:H a=a5 u)(n:∀q,u≠.cod q):TabOk K (upd H a o):=λx hx c P z=>by have q:=h x hx c P z;rw[jf];exact q;intro y;subst y;rw[e]at q;exact n _ (aB q)
theorem TabOk.del{A:List af}(h:TabOk K H)(hA:∀a∈A,∃xs,H a=a5 (.lst xs)):TabOk K (del H A):=λx hx c P z=>by have q:=h x hx c P z;rw[j8];exact q;intro y;obtain⟨xs,e⟩:=hA _ y;rw[q]at e;cases e
end
noncomputable def rfN:ag:="@"
def Rw(K:k4n)(F:Hp)(a:af)(o:c7)(x:ag):Prop:=x=rfN\/(F a=a5 (.frz o (.own a))/\W.nsIn K aj x=a5 (a5 o.cls))
theorem Rw.mono{K:k4n}{F F':Hp}{a:af}{o:c7}{x:ag}(h:Rw K F a o x)(g:j4 F F'):Rw K F' a o x:=h.elim .inl λh=>.inr ⟨g _ _ h.1,h.2⟩
structure Rep(K:k4n)(ρ:Rho)(σ:St)(H:Hp):Prop where
 len:σ.length=ρ.length
 val:∀(i:Nat)(d:D),ρ[i]?=a5 (.val d)->∃v,σ[i]?=a5 (a5 v)/\Enc K (del H (owns ρ)) d v
 own:∀(i:Nat)(a:af)(ds:List D),ρ[i]?=a5 (.own a ds)->σ[i]?=a5 (a5 (.ref a))/\∃xs,H a=a5 (.lst xs)/\j5 K (del H (owns ρ)) ds xs
 nd:(owns ρ).Nodup
 raw:∀(i:Nat)(a:af)(o:c7)(x:ag),ρ[i]?=a5 (.raw a o x)->σ[i]?=a5 (a5 (.ref a))/\Rw K (del H (owns ρ)) a o x
 tb:TabOk K H
section
variable{K:k4n}{ρ ρ':Rho}{σ:St}{H H':Hp}{i:Nat}{d:D}{v:V}{a:af}{ds ds':List D}{xs:List V}
theorem Rep.owned(R:Rep K ρ σ H):∀a∈owns ρ,∃xs,H a=a5 (.lst xs):=λa h=>by obtain⟨i,ds,e⟩:=Jz h;obtain⟨_,xs,q,_⟩:=R.own i a ds e;exact⟨xs,q⟩
theorem Rep.fresh(R:Rep K ρ σ H)(h:H a=a7):a∉owns ρ:=λz=>by obtain⟨xs,e⟩:=R.owned a z;rw[h]at e;cases e
theorem Rep.grow(R:Rep K ρ σ H)(g:j4 H H'):Rep K ρ σ H' :=
 ⟨R.len,λi d e=>let ⟨v,q,h⟩:=R.val i d e;⟨v,q,h.mono (je g)⟩,λi a ds e=>let ⟨q,xs,h,l⟩:=R.own i a ds e;⟨q,xs,g _ _ h,l.mono (je g)⟩,R.nd,λi a o x e=>let ⟨q,h⟩:=R.raw i a o x e;⟨q,h.mono (je g)⟩,R.tb.mono g⟩
theorem getElem?_set_of{α:Type}{l:List α}{i j:Nat}{x y:α}(h:(l.set i x)[j]?=a5 y):(i=j/\y=x/\i<l.length)\/(i≠j/\l[j]?=a5 y):=by
 rw[cD]at h;split at h
 .rename_i e;subst e;split at h
  .rename_i z;cases h;exact .inl ⟨rfl,rfl,z⟩
  .cases h
 .rename_i e;exact .inr ⟨e,h⟩
theorem Q5{α:Type}{l:List α}{i:Nat}{x:α}(h:i<l.length):(l.set i x)[i]?=a5 x:=by simp[h]
theorem qi{α:Type}{l:List α}{i j:Nat}{x:α}(h:i≠j):(l.set i x)[j]?=l[j]?:=by simp[h]
theorem Rep.set_val(R:Rep K ρ σ H)(e:Enc K (del H (owns ρ)) d v):Rep K (ρ.set i (.val d)) (σ.set i (a5 v)) H:=by
 have sub:(owns (ρ.set i (.val d))).Sublist (owns ρ):=jl rfl;have g:j4 (del H (owns ρ)) (del H (owns (ρ.set i (.val d)))):=zp λb hb=>sub.subset hb;refine⟨by simp[R.len],λj d' h=>?_,λj a ds h=>?_,sub.nodup R.nd,λj a o x h=>?_,R.tb⟩
 .rcases getElem?_set_of h with ⟨rfl,z,hl⟩|⟨n,h⟩
  .cases z;exact⟨v,Q5 (by rw[R.len];exact hl),e.mono g⟩
  .obtain⟨u,q,h⟩:=R.val j d' h;exact⟨u,by rw[qi n];exact q,h.mono g⟩
 .rcases getElem?_set_of h with ⟨rfl,z,_⟩|⟨n,h⟩
  .cases z
  .obtain⟨q,xs,h,l⟩:=R.own j a ds h;exact⟨by rw[qi n];exact q,xs,h,l.mono g⟩
 .rcases getElem?_set_of h with ⟨rfl,z,_⟩|⟨n,h⟩
  .cases z
  .obtain⟨q,h⟩:=R.raw j a o x h;exact⟨by rw[qi n];exact q,h.mono g⟩
theorem Rep.set_un{v:Option V}(R:Rep K ρ σ H):Rep K (ρ.set i .un) (σ.set i v) H:=by
 have sub:(owns (ρ.set i .un)).Sublist (owns ρ):=jl rfl;have g:j4 (del H (owns ρ)) (del H (owns (ρ.set i .un))):=zp λb hb=>sub.subset hb;refine⟨by simp[R.len],λj d' h=>?_,λj a ds h=>?_,sub.nodup R.nd,λj a o x h=>?_,R.tb⟩
 .rcases getElem?_set_of h with ⟨rfl,z,hl⟩|⟨n,h⟩
  .cases z
  .obtain⟨u,q,h⟩:=R.val j d' h;exact⟨u,by rw[qi n];exact q,h.mono g⟩
 .rcases getElem?_set_of h with ⟨rfl,z,_⟩|⟨n,h⟩
  .cases z
  .obtain⟨q,xs,h,l⟩:=R.own j a ds h;exact⟨by rw[qi n];exact q,xs,h,l.mono g⟩
 .rcases getElem?_set_of h with ⟨rfl,z,_⟩|⟨n,h⟩
  .cases z
  .obtain⟨q,h⟩:=R.raw j a o x h;exact⟨by rw[qi n];exact q,h.mono g⟩
theorem Rep.set_own(R:Rep K ρ σ H)(g:j4 H H')(ha:H a=a7)(e:H' a=a5 (.lst xs))(l:j5 K (del H' (a::owns ρ)) ds xs):Rep K (ρ.set i (.own a ds)) (σ.set i (a5 (.ref a))) H':=by
 have na:=R.fresh ha;obtain⟨nd,sub⟩:=v9 (ds:=ds) (i:=i) R.nd na;have g1:j4 (del H' (a::owns ρ)) (del H' (owns (ρ.set i (.own a ds)))):=zp λb hb=>by
  rcases sub b hb with e|z
  .exact e▸xj ..
  .exact km _ z
 have g2:j4 (del H (owns ρ)) (del H' (a::owns ρ)):=λb o q=>by
  obtain⟨n,q⟩:=of_del q;rw[j8];exact g b o q;intro z;rcases xf.mp z with e|z
  .subst e;rw[ha]at q;cases q
  .exact n z
 refine⟨by simp[R.len],λj d' h=>?_,λj b ds' h=>?_,nd,λj b o x h=>?_,R.tb.mono g⟩
 .rcases getElem?_set_of h with ⟨rfl,z,hl⟩|⟨n,h⟩
  .cases z
  .obtain⟨u,q,h⟩:=R.val j d' h;exact⟨u,by rw[qi n];exact q,h.mono (g2.trans g1)⟩
 .rcases getElem?_set_of h with ⟨rfl,z,hl⟩|⟨n,h⟩
  .cases z;exact⟨Q5 (by rw[R.len];exact hl),xs,e,l.mono g1⟩
  .obtain⟨q,ys,h,l⟩:=R.own j b ds' h;exact⟨by rw[qi n];exact q,ys,g _ _ h,l.mono (g2.trans g1)⟩
 .rcases getElem?_set_of h with ⟨rfl,z,hl⟩|⟨n,h⟩
  .cases z
  .obtain⟨q,h⟩:=R.raw j b o x h;exact⟨by rw[qi n];exact q,h.mono (g2.trans g1)⟩
theorem Rep.upd_own(R:Rep K ρ σ H)(h:ρ[i]?=a5 (.own a ds))(l:j5 K (del H (owns ρ)) ds' xs):Rep K (ρ.set i (.own a ds')) σ (upd H a (.lst xs)):=by
 have eo:owns (ρ.set i (.own a ds'))=owns ρ:=Q9 h;have ed:del (upd H a (.lst xs)) (owns ρ)=del H (owns ρ):=Zc (J1 h);refine⟨by simp[R.len],λj d' q=>?_,λj b l' q=>?_,by rw[eo];exact R.nd,λj b o x q=>?_,let ⟨_,_,z,_⟩:=R.own i a ds h;R.tb.upd z λ_ y=>by cases y⟩
 .rw[eo,ed];rcases getElem?_set_of q with ⟨_,z,_⟩|⟨n,q⟩
  .cases z
  .exact R.val j d' q
 .rw[eo,ed];rcases getElem?_set_of q with ⟨rfl,z,_⟩|⟨n,q'⟩
  .cases z;exact⟨(R.own i a ds h).1,xs,jr,l⟩
  .obtain⟨z,ys,y,l''⟩:=R.own j b l' q';refine⟨z,ys,?_,l''⟩;have nb:b≠a:=λe=>n (Ql R.nd h (e▸q'));rw[jf nb];exact y
 .rw[eo,ed];rcases getElem?_set_of q with ⟨_,z,_⟩|⟨n,q⟩
  .cases z
  .exact R.raw j b o x q
theorem Rep.freeze(R:Rep K ρ σ H)(h:ρ[i]?=a5 (.own a ds)):Rep K (ρ.set i (.val (.lst ds))) σ H:=by
 obtain⟨hs,xs,hx,l⟩:=R.own i a ds h;have sub:(owns (ρ.set i (.val (.lst ds)))).Sublist (owns ρ):=jl rfl;have g:j4 (del H (owns ρ)) (del H (owns (ρ.set i (.val (.lst ds))))):=zp λb hb=>sub.subset hb;have na:a∉owns (ρ.set i (.val (.lst ds))):=λz=>by
  obtain⟨j,l',q⟩:=Jz z;rcases getElem?_set_of q with ⟨_,z,_⟩|⟨n,q⟩
  .cases z
  .exact n (Ql R.nd h q)
 refine⟨by simp[R.len],λj d' q=>?_,λj b l' q=>?_,sub.nodup R.nd,λj b o x q=>?_,R.tb⟩
 .rcases getElem?_set_of q with ⟨rfl,z,_⟩|⟨n,q⟩
  .cases z;exact⟨_,hs,a,xs,rfl,.inl (.inl (by rw[j8 na];exact hx)),l.mono g⟩
  .obtain⟨u,q,h⟩:=R.val j d' q;exact⟨u,q,h.mono g⟩
 .rcases getElem?_set_of q with ⟨rfl,z,_⟩|⟨n,q⟩
  .cases z
  .obtain⟨q,ys,h,l⟩:=R.own j b l' q;exact⟨q,ys,h,l.mono g⟩
 .rcases getElem?_set_of q with ⟨_,z,_⟩|⟨n,q⟩
  .cases z
  .obtain⟨q,h⟩:=R.raw j b o x q;exact⟨q,h.mono g⟩
end
def DE(X:Cx)(ρ:Rho)(e:ah)(d:D):Prop:=∀σ H Q,Rep X.K ρ σ H->(∀v H',j4 H H'->Enc X.K (del H' (owns ρ)) d v->Q v H')->Jf X e σ H Q
def DT(X:Cx)(ρ:Rho)(e:ah)(d:D):Prop:=∀σ H Q,Rep X.K ρ σ H->(∀v H',j4 H H'->Enc X.K H' d v->Q v H')->Jf X e σ H Q
def DO(X:Cx)(ρ:Rho)(e:ah)(ds:List D):Prop:=∀σ H Q,Rep X.K ρ σ H->(∀a xs H',j4 H H'->H a=a7->H' a=a5 (.lst xs)->j5 X.K (del H' (a::owns ρ)) ds xs->Q (.ref a) H')->Jf X e σ H Q
def DL(X:Cx)(ρ:Rho)(e:ah)(ds:List D):Prop:=∀σ H Q,Rep X.K ρ σ H->(∀a xs H',j4 H H'->H' a=a5 (.lst xs)->j5 X.K (del H' (owns ρ)) ds xs->Q (.ref a) H')->Jf X e σ H Q
def DB(X:Cx)(ρ:Rho)(e:ah)(b:Bool):Prop:=∀σ H Q,Rep X.K ρ σ H->(∀H',j4 H H'->Q b H')->j04 X e σ H Q
def DA(X:Cx)(ρ:Rho)(es:List ah)(ds:List D):Prop:=∀σ H Q,Rep X.K ρ σ H->(∀vs H',j4 H H'->j5 X.K (del H' (owns ρ)) ds vs->Q vs H')->Uu X es σ H Q
def DTA(X:Cx)(ρ:Rho)(es:List ah)(ds:List D):Prop:=∀σ H Q,Rep X.K ρ σ H->(∀vs H',j4 H H'->j5 X.K H' ds vs->Q vs H')->Uu X es σ H Q
def j03(X:Cx)(e:ah):TT:=λσ H Q=>∀whole pins s,Inv X pins σ H s->aw (ar X.prog X.w) X.A (dU e X.env whole) (TP X pins σ Q) X.xe s
theorem pwS{X:Cx}{e:ah}:PW X e (j03 X e):=λwhole pins s _ _ _ I h=>h whole pins s I
theorem PW.to{X:Cx}{e:ah}{t:TT}{σ:St}{H:Hp}(h:PW X e t){Q:Bool->Hp->Prop}(q:t σ H Q):j03 X e σ H Q:=λwhole pins s I=>h whole pins s σ H Q I q
def DW(X:Cx)(ρ:Rho)(e:ah)(b:Bool):Prop:=∀σ H Q,Rep X.K ρ σ H->(∀H',j4 H H'->Q b H')->j03 X e σ H Q
mutual
noncomputable def Jd:D->Bool
 |.lst _=>a6
 |.dct _ _=>a6
 |.sct _=>a6
 |.fn _ _=>a6
 |.tup ds=>ju ds
 |_=>a8
noncomputable def ju:List D->Bool
 |[]=>a8
 |d::ds=>Jd d&&ju ds
end
mutual
theorem Enc.hide{K:k4n}{H:Hp}{A:List af}(hA:∀a∈A,Hd (H a)):∀{d:D}{v:V},Jd d=a8->Enc K H d v->Enc K (del H A) d v
 |.non,_,_,h=>h
 |.bl _,_,_,h=>h
 |.int _,_,_,h=>h
 |.str _,_,_,h=>h
 |.lst _,_,n,_=>by cases n
 |.dct _ _,_,n,_=>by cases n
 |.sct _,_,n,_=>by cases n
 |.fn _ _,_,n,_=>by cases n
 |.tup ds,_,n,⟨a,xs,e,q,l⟩=>by
  refine⟨a,xs,e,?_,j5.hide hA (by simpa [Jd]using n) l⟩;have out:∀{o:HO},H a=a5 o->(∀ys,o≠.lst ys)->(∀ys ep,o≠.dI ys ep)->del H A a=a5 o:=λ{o} h z z2=>by
   rw[j8];exact h;intro y;rcases hA a y with ⟨ys,e'⟩|⟨ys,ep,e'⟩
   .rw[h]at e';cases e';exact z ys rfl
   .rw[h]at e';cases e';exact z2 ys ep rfl
  rcases q with (q|⟨o,q⟩)|q
  .exact .inl (.inl (out q (λ_ z=>by cases z) λ_ _ z=>by cases z))
  .exact .inl (.inr ⟨o,out q (λ_ z=>by cases z) λ_ _ z=>by cases z⟩)
  .exact .inr q
theorem j5.hide{K:k4n}{H:Hp}{A:List af}(hA:∀a∈A,Hd (H a)):∀{ds:List D}{xs:List V},ju ds=a8->j5 K H ds xs->j5 K (del H A) ds xs
 |[],_,_,h=>h
 |d::ds,_,n,⟨x,r,e,h,l⟩=>by
  have n':Jd d=a8/\ju ds=a8:=by simpa [ju]using n
  exact⟨x,r,e,Enc.hide hA n'.1 h,j5.hide hA n'.2 l⟩
end
section
variable{X:Cx}{ρ:Rho}{e a b c:ah}{es:List ah}{d da db:D}{ds ds':List D}{i j:Int}{pos:aN}{k:Nat}{x:ag}
theorem DE.toT(h:DE X ρ e d):DT X ρ e d:=λσ H Q R q=>h σ H Q R λv H' g l=>q v H' g (l.mono jw)
theorem DT.toE(h:DT X ρ e d)(n:Jd d=a8:=by rfl):DE X ρ e d:=λσ H Q R q=>h σ H Q R λv H' g l=>q v H' g (l.hide (λa ha=>.inl ((R.grow g).owned a ha)) n)
theorem DO.toL(h:DO X ρ e ds):DL X ρ e ds:=λσ H Q R q=>h σ H Q R λa xs H' g n m l=>q a xs H' g m (l.mono (zp λb hb=>km _ hb))
theorem DO.toE(h:DO X ρ e ds):DE X ρ e (.lst ds):=λσ H Q R q=>h σ H Q R λa xs H' g n m l =>q _ H' g ⟨a,xs,rfl,.inl (.inl (by rw[j8 (R.fresh n)];exact m)),l.mono (zp λb hb=>km _ hb)⟩
theorem DL.toT(h:DL X ρ e ds):DT X ρ e (.lst ds):=λσ H Q R q=>h σ H Q R λa xs H' g m l=>q _ H' g ⟨a,xs,rfl,.inl (.inl m),l.mono jw⟩
theorem DW.toB{k:Bool}(h:DW X ρ e k):DB X ρ e k:=λσ H Q R q pins s I=>h σ H Q R q _ pins s I
theorem DE.eq(h:DE X ρ e d){d':D}(q:d=d'):DE X ρ e d':=q▸h
theorem DB.eq{b b':Bool}(h:DB X ρ e b)(q:b=b'):DB X ρ e b':=q▸h
end
section
variable{X:Cx}{ρ:Rho}{e a b c:ah}{es:List ah}{d da db:D}{ds ds':List D}{i j:Int}{pos p:aN}{k:Nat}{x:ag}
theorem DE.var(k:Nat)(h:ρ[k]?=a5 (.val d))(hN:X.N[k]?=a5 x:=by rfl)(hv:Vis X.env.scope x:=by first|exact aY rfl|exact bM (aY rfl)|exact bM (bM rfl))
  (hd:(x==k4r)=a6:=by decide) (hcd:(x==k4s)=a6:=by decide):DE X ρ (.Name x pos) d:=λσ H Q R q=>by
 obtain⟨v,hs,en⟩:=R.val k d h;exact(Ja hN hv hd hcd).to ⟨v,hs,q v H (j4.refl H) en⟩
theorem DL.var(k:Nat){l:af}(h:ρ[k]?=a5 (.own l ds))(hN:X.N[k]?=a5 x:=by rfl)(hv:Vis X.env.scope x:=by first|exact aY rfl|exact bM (aY rfl)|exact bM (bM rfl))
  (hd:(x==k4r)=a6:=by decide) (hcd:(x==k4s)=a6:=by decide):DL X ρ (.Name x pos) ds:=λσ H Q R q=>by
 obtain⟨hs,xs,m,en⟩:=R.own k l ds h;exact(Ja hN hv hd hcd).to ⟨_,hs,q l xs H (j4.refl H) m en⟩
theorem DE.glob {u:a9} {v:V} (hg:Gl X x) (hm:X.mg x=a5 u) (r:RelV v u) (h:∀H,Enc X.K H d v) (hd:(x==k4r)=a6:=by decide):DE X ρ (.Name x pos) d :=
 λσ H Q R q=>(Vv hg hm r hd).to (q v H (j4.refl H) (h _))
theorem DE.int{i:Int}{n:Nat}{pos:aN}:DE X ρ (.Constant (.int i) n pos) (.int i):=λσ H Q R q=>j6i.to (q _ H (j4.refl H) rfl)
theorem DE.bl{b:Bool}{n:Nat}:DE X ρ (.Constant (.bool b) n pos) (.bl b):=λσ H Q R q=>j9z.to (q _ H (j4.refl H) rfl)
theorem DE.str{y:ag}{n:Nat}:DE X ρ (.Constant (.str y) n pos) (.str y):=λσ H Q R q=>j6g.to (q _ H (j4.refl H) rfl)
theorem DE.arI0{op:gI}{g:Int->Int->Int}(ho:OpR X (aV op) (rI0 λi j=>.int (g i j)))(ha:DT X ρ a (.int i))(hb:DT X ρ b (.int j)):DE X ρ (.BinOp a op b pos) (.int (g i j)):=λσ H Q R q =>(Qx ho peS peS).to (ha σ H _ R λv H1 g1 e1=>hb σ H1 _ (R.grow g1) λu H2 g2 e2=>⟨i,j,e1,e2,q _ H2 (g1.trans g2) rfl⟩)
theorem DE.arI{op:gI}{C:Int->Int->Prop}{g:Int->Int->Int}(ho:OpR X (aV op) (rI C λi j=>.int (g i j)))(ha:DT X ρ a (.int i))(hb:DT X ρ b (.int j))(hC:C i j):DE X ρ (.BinOp a op b pos) (.int (g i j)):=λσ H Q R q =>(Qx ho peS peS).to (ha σ H _ R λv H1 g1 e1=>hb σ H1 _ (R.grow g1) λu H2 g2 e2=>⟨i,j,e1,e2,hC,q _ H2 (g1.trans g2) rfl⟩)
theorem DE.add(ha:DT X ρ a (.int i))(hb:DT X ρ b (.int j)):DE X ρ (.BinOp a .Add b pos) (.int (i+j)):=DE.arI0 j6u ha hb
theorem DE.sub(ha:DT X ρ a (.int i))(hb:DT X ρ b (.int j)):DE X ρ (.BinOp a .Sub b pos) (.int (i-j)):=DE.arI0 j6m ha hb
theorem DE.mul(ha:DT X ρ a (.int i))(hb:DT X ρ b (.int j))(h:Dw i j):DE X ρ (.BinOp a .Mult b pos) (.int (i*j)):=DE.arI j6r ha hb h
theorem DE.mod(ha:DT X ρ a (.int i))(hb:DT X ρ b (.int j))(h:0<j):DE X ρ (.BinOp a .Mod b pos) (.int (i%j)):=DE.arI j6s ha hb h
theorem DE.pow(ha:DT X ρ a (.int i))(hb:DT X ρ b (.int j))(h:Dv i j):DE X ρ (.BinOp a .Pow b pos) (.int (i^j.toNat)):=DE.arI j6q ha hb h
theorem DE.shl(ha:DT X ρ a (.int i))(hb:DT X ρ b (.int j))(h:Dv i j):DE X ρ (.BinOp a .LShift b pos) (.int (i*2^j.toNat)):=DE.arI (g:=λi j=>i*2^j.toNat) j6o ha hb h
theorem DE.neg(ha:DT X ρ a (.int i)):DE X ρ (.UnaryOp .USub a pos) (.int (-i)):=λσ H Q R q =>(j9y j5g peS).to (ha σ H _ R λv H1 g1 e1=>⟨i,e1,q _ H1 g1 rfl⟩)
theorem DE.cmpI{op:eY}{g:Int->Int->Bool}(ho:OpR X (aW op) (rI0 λi j=>.bl (g i j)))(hm:aJ op b=a6)(ha:DT X ρ a (.int i))(hb:DT X ρ b (.int j)):DE X ρ (.Compare a [op] [b] pos) (.bl (g i j)):=λσ H Q R q =>(vm ho peS peS hm).to (ha σ H _ R λv H1 g1 e1=>hb σ H1 _ (R.grow g1) λu H2 g2 e2=>⟨i,j,e1,e2,q _ H2 (g1.trans g2) rfl⟩)
theorem DB.cmpI{op:eY}{g:Int->Int->Bool}(ho:OpR X (aW op) (rI0 λi j=>.bl (g i j)))(hm:aJ op b=a6)(ha:DT X ρ a (.int i))(hb:DT X ρ b (.int j)):DB X ρ (.Compare a [op] [b] pos) (g i j):=λσ H Q R q =>(vh ho peS peS hm).to (ha σ H _ R λv H1 g1 e1=>hb σ H1 _ (R.grow g1) λu H2 g2 e2=>⟨i,j,e1,e2,_,rfl,q H2 (g1.trans g2)⟩)
theorem DB.lt(ha:DT X ρ a (.int i))(hb:DT X ρ b (.int j)):DB X ρ (.Compare a [.Lt] [b] pos) (decide (i<j)):=DB.cmpI j2h (qw _) ha hb
theorem DB.le(ha:DT X ρ a (.int i))(hb:DT X ρ b (.int j)):DB X ρ (.Compare a [.LtE] [b] pos) (decide (i<=j)):=DB.cmpI j2i (qw _) ha hb
theorem DB.gt(ha:DT X ρ a (.int i))(hb:DT X ρ b (.int j)):DB X ρ (.Compare a [.Gt] [b] pos) (decide (j<i)):=DB.cmpI j2j (qw _) ha hb
theorem DB.ge(ha:DT X ρ a (.int i))(hb:DT X ρ b (.int j)):DB X ρ (.Compare a [.GtE] [b] pos) (decide (j<=i)):=DB.cmpI j2k (qw _) ha hb
theorem DE.lt(ha:DT X ρ a (.int i))(hb:DT X ρ b (.int j)):DE X ρ (.Compare a [.Lt] [b] pos) (.bl (decide (i<j))):=DE.cmpI j2h (qw _) ha hb
theorem DE.le(ha:DT X ρ a (.int i))(hb:DT X ρ b (.int j)):DE X ρ (.Compare a [.LtE] [b] pos) (.bl (decide (i<=j))):=DE.cmpI j2i (qw _) ha hb
theorem DE.gt(ha:DT X ρ a (.int i))(hb:DT X ρ b (.int j)):DE X ρ (.Compare a [.Gt] [b] pos) (.bl (decide (j<i))):=DE.cmpI j2j (qw _) ha hb
theorem DE.ge(ha:DT X ρ a (.int i))(hb:DT X ρ b (.int j)):DE X ρ (.Compare a [.GtE] [b] pos) (.bl (decide (j<=i))):=DE.cmpI j2k (qw _) ha hb
noncomputable def D.sc:D->Option V
 |.non=>a5 .non
 |.bl b=>a5 (.bl b)
 |.int i=>a5 (.int i)
 |.str x=>a5 (.str x)
 |_=>a7
theorem D.sc_enc{K:k4n}{H:Hp}{d:D}{u v:V}(h:d.sc=a5 u)(q:Enc K H d v):v=u:=by cases d<;>simp[D.sc]at h<;>subst h<;>exact q
theorem DE.eqS{u v:V}(ha:DT X ρ a da)(hb:DT X ρ b db)(h1:da.sc=a5 u:=by rfl)(h2:db.sc=a5 v:=by rfl)(h:Uv u v=a8:=by rfl):DE X ρ (.Compare a [.Eq] [b] pos) (.bl (decide (u=v))):=λσ H Q R q =>
 (vm j2l peS peS (qw _)).to (ha σ H _ R λx H1 g1 e1=>hb σ H1 _ (R.grow g1) λy H2 g2 e2=>by
  cases D.sc_enc h1 e1;cases D.sc_enc h2 e2;exact⟨h,q _ H2 (g1.trans g2) rfl⟩)
theorem DE.neS{u v:V}(ha:DT X ρ a da)(hb:DT X ρ b db)(h1:da.sc=a5 u:=by rfl)(h2:db.sc=a5 v:=by rfl)(h:Uv u v=a8:=by rfl):DE X ρ (.Compare a [.NotEq] [b] pos) (.bl (!decide (u=v))):=λσ H Q R q =>
 (vm j2g peS peS (qw _)).to (ha σ H _ R λx H1 g1 e1=>hb σ H1 _ (R.grow g1) λy H2 g2 e2=>by
  cases D.sc_enc h1 e1;cases D.sc_enc h2 e2;exact⟨h,q _ H2 (g1.trans g2) rfl⟩)
theorem DB.eqS{u v:V}(ha:DT X ρ a da)(hb:DT X ρ b db)(h1:da.sc=a5 u:=by rfl)(h2:db.sc=a5 v:=by rfl)(h:Uv u v=a8:=by rfl):DB X ρ (.Compare a [.Eq] [b] pos) (decide (u=v)):=λσ H Q R q =>
 (vh j2l peS peS (qw _)).to (ha σ H _ R λx H1 g1 e1=>hb σ H1 _ (R.grow g1) λy H2 g2 e2=>by
  cases D.sc_enc h1 e1;cases D.sc_enc h2 e2;exact⟨h,_,rfl,q H2 (g1.trans g2)⟩)
theorem DB.neS{u v:V}(ha:DT X ρ a da)(hb:DT X ρ b db)(h1:da.sc=a5 u:=by rfl)(h2:db.sc=a5 v:=by rfl)(h:Uv u v=a8:=by rfl):DB X ρ (.Compare a [.NotEq] [b] pos) (!decide (u=v)):=λσ H Q R q =>
 (vh j2g peS peS (qw _)).to (ha σ H _ R λx H1 g1 e1=>hb σ H1 _ (R.grow g1) λy H2 g2 e2=>by
  cases D.sc_enc h1 e1;cases D.sc_enc h2 e2;exact⟨h,_,rfl,q H2 (g1.trans g2)⟩)
theorem Zt(i j:Int):decide (V.int i=V.int j)=decide (i=j):=by
 by_cases h:i=j
 .subst h;simp
 .rw[decide_eq_false h,decide_eq_false (λz=>h (V.int.inj z))]
theorem Ng(i j:Bool):decide (V.bl i=V.bl j)=(i==j):=by cases i<;>cases j<;>rfl
theorem Oe(i j:ag):decide (V.str i=V.str j)=decide (i=j):=by
 by_cases h:i=j
 .subst h;simp
 .rw[decide_eq_false h,decide_eq_false (λz=>h (V.str.inj z))]
theorem DE.eqI(ha:DT X ρ a (.int i))(hb:DT X ρ b (.int j)):DE X ρ (.Compare a [.Eq] [b] pos) (.bl (decide (i=j))):=(DE.eqS ha hb).eq (by rw[Zt])
theorem DE.neI(ha:DT X ρ a (.int i))(hb:DT X ρ b (.int j)):DE X ρ (.Compare a [.NotEq] [b] pos) (.bl (!decide (i=j))):=(DE.neS ha hb).eq (by rw[Zt])
theorem DB.eqI(ha:DT X ρ a (.int i))(hb:DT X ρ b (.int j)):DB X ρ (.Compare a [.Eq] [b] pos) (decide (i=j)):=(DB.eqS ha hb).eq (by rw[Zt])
theorem DB.neI(ha:DT X ρ a (.int i))(hb:DT X ρ b (.int j)):DB X ρ (.Compare a [.NotEq] [b] pos) (!decide (i=j)):=(DB.neS ha hb).eq (by rw[Zt])
theorem DE.neB{x y:Bool}(ha:DT X ρ a (.bl x))(hb:DT X ρ b (.bl y)):DE X ρ (.Compare a [.NotEq] [b] pos) (.bl (x != y)):=(DE.neS ha hb).eq (by rw[Ng];rfl)
theorem DB.neB{x y:Bool}(ha:DT X ρ a (.bl x))(hb:DT X ρ b (.bl y)):DB X ρ (.Compare a [.NotEq] [b] pos) (x != y):=(DB.neS ha hb).eq (by rw[Ng];rfl)
noncomputable def D.isNon:D->Bool
 |.non=>a8
 |_=>a6
theorem Wr{K:k4n}{H:Hp}{d:D}{v:V}(q:Enc K H d v):decide (v=V.non)=d.isNon:=by
 cases d with
 |non=>cases(show v=.non from q);rfl
 |bl b=>cases(show v=.bl b from q);rfl
 |int b=>cases(show v=.int b from q);rfl
 |str b=>cases(show v=.str b from q);rfl
 |tup l=>obtain⟨a,xs,e,_⟩:=q;subst e;rfl
 |lst l=>obtain⟨a,xs,e,_⟩:=q;subst e;rfl
 |dct ks l=>obtain⟨a,xs,ep,vs,e,_⟩:=q;subst e;rfl
 |sct k=>obtain⟨a,e,_⟩:=q;subst e;rfl
 |fn x l=>obtain⟨a,c,tx,cl,vs,e,_⟩:=q;subst e;rfl
theorem DE.isN{n:Nat}{p2:aN}(ha:DT X ρ a d):DE X ρ (.Compare a [.Is] [.Constant .none n p2] pos) (.bl d.isNon):=λσ H Q R q =>(j6j (Lq peS)).to (ha σ H _ R λx H1 g1 e1=>q _ H1 g1 (by rw[Wr e1];rfl))
theorem DB.isN{n:Nat}{p2:aN}(ha:DT X ρ a d):DB X ρ (.Compare a [.Is] [.Constant .none n p2] pos) d.isNon:=λσ H Q R q =>(j6c (Lq peS)).to (ha σ H _ R λx H1 g1 e1=>⟨_,rfl,by rw[Wr e1];exact q H1 g1⟩)
theorem DB.val{k:Bool}(ha:DT X ρ a (.bl k))(he:∀whole,dU a X.env whole=(do let v <-whole;i3 a.pos;i5 [v] (truthy v)):=by intro _;rfl):DB X ρ a k:=λσ H Q R q =>(j6a peS he).to (ha σ H _ R λx H1 g1 e1=>⟨_,e1,q H1 g1⟩)
theorem DW.or1{k:Bool}(ha:DB X ρ a k):DW X ρ (.BoolOp .Or [a] pos) k:=λσ H Q R q=>(j69 ptS).to (ha σ H Q R q)
theorem DW.or{k m:Bool}{rest:List ah}(ha:DB X ρ a k)(hb:k=a6->DW X ρ (.BoolOp .Or (b::rest) pos) m):DW X ρ (.BoolOp .Or (a::b::rest) pos) (k || m):=λσ H Q R q =>
 (j9v ptS pwS).to (ha σ H _ R λH1 g1=>by
  cases k with
  |true=>exact Fx (q H1 g1)
  |false=>exact Fy (hb rfl σ H1 Q (R.grow g1) λH2 g2=>q H2 (g1.trans g2)))
theorem DB.not{k:Bool}(ha:DB X ρ a k):DB X ρ (.UnaryOp .Not a pos) (!k):=λσ H Q R q=>(j6b ptS).to (ha σ H _ R λH1 g1=>q H1 g1)
theorem DE.and{k m:Bool}{rest:List ah}(ha:DT X ρ a (.bl k))(hb:k=a8->DE X ρ (.BoolOp .And (b::rest) pos) (.bl m)):DE X ρ (.BoolOp .And (a::b::rest) pos) (.bl (k&&m)):=λσ H Q R q =>
 (j6k peS peS).to (ha σ H _ R λx H1 g1 e1=>⟨k,e1,by
  cases k with
  |false=>exact Fy (q _ H1 g1 rfl)
  |true=>exact Fx (hb rfl σ H1 Q (R.grow g1) λv H2 g2=>q v H2 (g1.trans g2))⟩)
theorem DE.ite{k:Bool}{d':D}(hc:DB X ρ c k)(ha:k=a8->DE X ρ a d)(hb:k=a6->DE X ρ b d'):DE X ρ (.IfExp c a b pos) (if k=a8 then d else d'):=λσ H Q R q =>
 (j0h ptS peS peS).to (hc σ H _ R λH1 g1=>by
  cases k with
  |true=>exact Fx (ha rfl σ H1 Q (R.grow g1) λv H2 g2 z=>q v H2 (g1.trans g2) (by rw[if_pos rfl];exact z))
  |false=>exact Fy (hb rfl σ H1 Q (R.grow g1) λv H2 g2 z=>q v H2 (g1.trans g2) (by rw[if_neg xr];exact z)))
theorem DA.nil:DA X ρ [] []:=λσ H Q R q=>jn.to (q [] H (j4.refl H) rfl)
theorem DA.cons(ha:DE X ρ a d)(hr:DA X ρ es ds)(hs:aa (a::es) X.env=(a6,aG a X.env)::aa es X.env:=by rfl):DA X ρ (a::es) (d::ds):=λσ H Q R q =>(j9 peS paS hs).to (ha σ H _ R λv H1 g1 e1=>hr σ H1 _ (R.grow g1) λvs H2 g2 e2=>q _ H2 (g1.trans g2) ⟨v,vs,rfl,e1.mono (je g2),e2⟩)
theorem DTA.nil:DTA X ρ [] []:=λσ H Q R q=>jn.to (q [] H (j4.refl H) rfl)
theorem DTA.cons(ha:DT X ρ a d)(hr:DTA X ρ es ds)(hs:aa (a::es) X.env=(a6,aG a X.env)::aa es X.env:=by rfl):DTA X ρ (a::es) (d::ds):=λσ H Q R q =>(j9 peS paS hs).to (ha σ H _ R λv H1 g1 e1=>hr σ H1 _ (R.grow g1) λvs H2 g2 e2=>q _ H2 (g1.trans g2) ⟨v,vs,rfl,e1.mono g2,e2⟩)
theorem DE.tup{n:Nat}{x1}(h:DA X ρ es ds)(hl:ds.length<=ai:=by simp only[X5,dZ];decide):DE X ρ (.Tuple es x1 pos) (.tup ds):=λσ H Q R q =>(Mm paS).to (h σ H _ R λvs H1 g1 e1=>⟨by rw[e1.length];exact hl,λp hp=>q _ _ (g1.trans (j6 hp)) ⟨p,vs,rfl,.inl (.inl (by rw[j8 ((R.grow g1).fresh hp)];exact jr)),e1.mono (je (j6 hp))⟩⟩)
theorem DO.lst(h:DA X ρ es ds)(hl:ds.length<=ai:=by simp only[X5,dZ];decide):DO X ρ (.List es pos) ds:=λσ H Q R q =>
 (j6h paS).to (h σ H _ R λvs H1 g1 e1=>⟨by rw[e1.length];exact hl,λp hp=>q p vs _ (g1.trans (j6 hp)) (g1.free hp) jr (e1.mono λb o z=>by
  obtain⟨n,z⟩:=of_del z
  rw[j8];exact j6 hp b o z
  intro y
  rcases xf.mp y with y|y
  .subst y;rw[hp]at z;cases z
  .exact n y)⟩)
theorem j5.atI{K:k4n}{H:Hp}{xs:List V}(h:j5 K H ds xs)(q:atI ds i=a5 d):∃x,L2.atI xs i=a5 x/\Enc K H d x:=by
 unfold L2.atI at q ⊢;rw[h.length];cases z:ixN ds.length i with
 |none=>rw[z]at q;cases q
 |some k =>rw[z]at q;exact h.get q
noncomputable def cutD(ds:List D)(lo hi:Option Int):List D:=(ds.drop (HT.sIx ds.length 0 lo)).take (HT.sIx ds.length ds.length hi-HT.sIx ds.length 0 lo)
theorem j5.cut{K:k4n}{H:Hp}{xs:List V}(h:j5 K H ds xs)(lo hi:Option Int):j5 K H (cutD ds lo hi) (Vi xs lo hi):=by unfold cutD Vi;rw[h.length];exact(h.drop _).take _
theorem Zr{K:k4n}{H1:Hp}{A:List af}{ds:List D}{xs:List V}{p:af}{o:HO}(hp:H1 p=a7)(e1:j5 K (del H1 A) ds xs):j5 K (del (upd H1 p o) (p::A)) ds xs:=e1.mono λb o z=>by
 obtain⟨n,z⟩:=of_del z;rw[j8];exact j6 hp b o z;intro y;rcases xf.mp y with y|y
 .subst y;rw[hp]at z;cases z
 .exact n y
theorem DO.rep(ha:DL X ρ a ds)(hb:DT X ρ b (.int i))(h1:-(2^63)<=i)(h2:i<2^63)(hl:ds.length*i.toNat<=ai):DO X ρ (.BinOp a .Mult b pos) (aq i.toNat ds).flatten:=λσ H Q R q =>
 (Qx j6p peS peS).to (ha σ H _ R λl xs H1 g1 m1 e1=>hb σ H1 _ (R.grow g1) λu H2 g2 e2 =>
  ⟨l,i,xs,rfl,e2,g2 _ _ m1,h1,h2,by rw[e1.length];exact hl,λp hp=>q p _ _ ((g1.trans g2).trans (j6 hp)) ((g1.trans g2).free hp) jr (Zr hp ((e1.mono (je g2)).rep _))⟩)
theorem DE.lenT (ha:DT X ρ a (.tup ds)) (hm:X.mg "len" = a7) (hg:Gl X "len":=by rfl) (hs:aa [a] X.env=[(a6,aG a X.env)]:=by rfl) {p2:aN}:DE X ρ (.Call (.Name "len" p2) [a] [] pos) (.int ds.length):=λσ H Q R q =>(qt Vk hg hm eK (j9 peS jn hs) (by decide) (by decide) hs).to (ha σ H _ R λv H1 g1 ⟨l,xs,e,sq,en⟩=>⟨l,xs,by rw[e],.inr sq,q _ H1 g1 (by rw[en.length];rfl)⟩)
theorem DE.lenL (ha:DT X ρ a (.lst ds)) (hm:X.mg "len" = a7) (hg:Gl X "len":=by rfl) (hs:aa [a] X.env=[(a6,aG a X.env)]:=by rfl) {p2:aN}:DE X ρ (.Call (.Name "len" p2) [a] [] pos) (.int ds.length):=λσ H Q R q =>(qt Vk hg hm eK (j9 peS jn hs) (by decide) (by decide) hs).to (ha σ H _ R λv H1 g1 ⟨l,xs,e,sq,en⟩=>⟨l,xs,by rw[e],.inl sq,q _ H1 g1 (by rw[en.length];rfl)⟩)
end
def framed(sp:Sp):Sp:=λvs H Q E=>∃A:List af,(∀a∈A,∃xs,H a=a5 (.lst xs))/\sp vs (del H A) (λv F=>(∀a∈A,F a=a7)->Q v (mrg A H F)) E
theorem FnOk.framed{P:ak}{w:ax}{K:k4n}{mg:k4q}{base:aD}{k:Nat}{f:af}{fd:aH}{ps:List ag}{sp:Sp}(F:FnOk P w K mg base CX0 k f fd ps sp) :
  FnOk P w K mg base CX0 k f fd ps (framed sp) where
 len:=λvs H Q E ⟨A,_,h⟩=>F.len vs _ _ _ h
 run:=by
  rintro A0 outer s H args us vs Q E hr e0 hb rv ⟨A,hA,h⟩;have nd:∀{b:af},H b=a7->del H A b=a7:=λ{b} q=>by
   by_cases z:b∈A
   .exact qx z
   .rw[j8 z];exact q
  have out:∀{b:af}{o:HO},H b=a5 o->(∀ys,o≠.lst ys)->del H A b=a5 o:=λ{b o} q z=>by rw[j8];exact q;intro y;obtain⟨ys,e'⟩:=hA b y;rw[q]at e';cases e';exact z ys rfl
  have e1:Env0 P w K mg base A0 outer s (del H A):=⟨e0.frames,e0.mod,λb o q=>⟨(e0.bs b o q).1,nd (e0.bs b o q).2⟩,e0.bsz,e0.funs,λb hb=>nd (e0.frf b hb),
   λa o q=>by
    obtain⟨_,q⟩:=of_del q
    exact ji.stay (e0.hok a o q) (λb u _ z=>z) (λb z=>out z λ_ y=>by cases y) (λb xs z=>out z λ_ y=>by cases y) (λb _ _ z=>out z λ_ y=>by cases y),e0.bare⟩
  refine bX (F.run A0 outer s (del H A) args us vs _ E hr e1 hb rv h) λr s' hq=>?_;cases r with
  |error e=>exact(show False from hq).elim
  |ok fl =>
   cases fl with
   |next=>exact(show False from hq).elim
   |brk=>exact(show False from hq).elim
   |cont=>exact(show False from hq).elim
   |ret u =>
    obtain⟨v,H',os,bare,un,hok',rel,q⟩:=(show CE outer P w (del H A) s _ u s' from hq)
    have kept:∀a∈A,∃o,s.heap.get? a=a5 o/\s'.heap.get? a=a5 o/\H' a=a7:=λa ha=>by
     obtain⟨xs,e⟩:=hA a ha;obtain⟨_,its,n,_,z⟩:=(show ji P w H s.heap a (.lst xs)from e0.hok _ _ e)
     have nf:a∉frs outer:=λy=>by rw[e0.frf a y]at e;cases e
     exact⟨_,z,un.keep a _ z (qx ha) nf (by simp),un.free a _ z (qx ha) (by simp)⟩
    have hF:∀a∈A,H' a=a7:=λa ha=>let ⟨_,_,_,z⟩:=kept a ha;z;have outF:∀{b:af}{o:HO},H' b=a5 o->b∉A:=λ{b o} e z=>by rw[hF b z]at e;cases e
    refine⟨v,mrg A H H',os,bare,?_,λa o e=>?_,rel,q hF⟩
    .exact{
      keep:=λb o e n=>un.keep b o e (nd n)
      slot:=λb o e n=>un.slot b o e (nd n)
      free:=λb o e n hx=>by
       by_cases z:b∈A
       .rw[zx z];exact n
       .rw[jd z];exact un.free b o e (nd n) hx
      there:=un.there
      tups:=λb xs e=>by
       have z:=un.tups b xs (out e λ_ y=>by cases y)
       rw[jd (outF z)];exact z
      frzs:=λb o u e=>by
       have z:=un.frzs b o u (out e λ_ y=>by cases y)
       rw[jd (outF z)];exact z
      tbls:=λb ps e=>by
       obtain⟨more,z⟩:=un.tbls b ps (out e λ_ y=>by cases y)
       exact⟨more,by rw[jd (outF z)];exact z⟩ }
    .by_cases z:a∈A
     .rw[zx z]at e;obtain⟨xs,e'⟩:=hA a z;rw[e']at e;cases e;obtain⟨hl,its,n,r,y⟩:=(show ji P w H s.heap a (.lst xs)from e0.hok _ _ e')
      obtain⟨o',q1,q2,_⟩:=kept a z;rw[y]at q1;cases q1;exact⟨hl,its,n,r,q2⟩
     .rw[jd z]at e;refine ji.stay (hok' a o e) (λb u _ q=>q) (λb q=>?_) (λb xs q=>?_) (λb _ _ q=>?_)
      .rw[jd (outF q)];exact q
      .rw[jd (outF q)];exact q
      .rw[jd (outF q)];exact q
def spP(K:k4n)(S:List D->D->Prop):Sp:=λvs H Q _=>∃A ds d,TabOk K H/\(∀a∈A,∃xs,H a=a5 (.lst xs))/\j5 K (del H A) ds vs/\S ds d/\∀v H',j4 H H'->Enc K (del H' A) d v->Q v H'
def spF(K:k4n)(S:List D->List D->Prop):Sp:=λvs H Q _=>∃A ds l,TabOk K H/\(∀a∈A,∃xs,H a=a5 (.lst xs))/\j5 K (del H A) ds vs/\S ds l /\
 ∀a xs H',j4 H H'->H a=a7->H' a=a5 (.lst xs)->j5 K (del H' (a::A)) l xs->Q (.ref a) H'
def jc2(K:k4n)(S:List D->D->Prop):Sp:=λvs H Q _=>∃ds d,TabOk K H/\j5 K H ds vs/\S ds d/\∀v H',j4 H H'->Enc K H' d v->Q v H'
def jc4(K:k4n)(S:List D->List D->Prop):Sp:=λvs H Q _=>∃ds l,TabOk K H/\j5 K H ds vs/\S ds l/\∀a xs H',j4 H H'->H a=a7->H' a=a5 (.lst xs)->j5 K (del H' [a]) l xs->Q (.ref a) H'
section
variable{P:ak}{w:ax}{K:k4n}{mg:k4q}{base:aD}{k:Nat}{f:af}{fd:aH}{ps:List ag}
theorem FnOk.toP{S:List D->D->Prop}(F:FnOk P w K mg base CX0 k f fd ps (jc2 K S)):FnOk P w K mg base CX0 k f fd ps (spP K S) :=
 F.framed.imp λvs H Q E ⟨A,ds,d,tb,hA,en,hS,q⟩=>⟨A,hA,ds,d,tb.del hA,en,hS,λv F g e hF=>q v _ (Yl g) (by rw[Ji hF];exact e)⟩
theorem FnOk.toF{S:List D->List D->Prop}(F:FnOk P w K mg base CX0 k f fd ps (jc4 K S)):FnOk P w K mg base CX0 k f fd ps (spF K S) :=
 F.framed.imp λvs H Q E ⟨A,ds,l,tb,hA,en,hS,q⟩=>⟨A,hA,ds,l,tb.del hA,en,hS,λa xs F g n e l' hF=>by
  have na:a∉A:=λz=>by rw[hF a z]at e;cases e
  refine q a xs _ (Yl g) (by rw[j8 na]at n;exact n) (by rw[jd na];exact e) (l'.mono λb o z=>?_)
  obtain⟨n1,z⟩:=of_del z
  have nb:b∉A:=λy=>by rw[hF b y]at z;cases z
  rw[j8,jd nb];exact z
  intro y
  rcases xf.mp y with y|y
  .exact n1 (by rw[y];exact xu.mpr rfl)
  .exact nb y⟩
end
noncomputable def j8i:List ag:=["dearest_way","cost_on_whole","worst_table","worst_plan","foe_answer","whole_table","whole_plan","mean_price"]
noncomputable def kG(us ws:List a9):List a9:=match ws with
 |[w]=>us++[w]
 |_=>[]
noncomputable def kGV(vs zs:List V):List V:=match zs with
 |[z]=>vs++[z]
 |_=>[]
def Dfl(K:k4n)(x:ag)(fd:aH)(ps:List ag):Prop:=x∈j8i->Binds K fd ps [.none]/\KBinds K fd ps ["prices"] kG kGV
structure Cal(X:Cx)(x:ag)(sp:Sp):Prop where
 ex:∃(k:Nat)(f:af)(fd:aH)(ps:List ag),FnOk X.prog X.w X.K X.mg X.base CX0 k f fd ps sp/\Room (k+1) X.A/\X.mg x=a5 (.ref f)/\W.keepIn X.K (.ref f)=a8/\Binds X.K fd ps []/\Dfl X.K x fd ps
section
variable{X:Cx}{ρ:Rho}{e a:ah}{es:List ah}{d:D}{ds l:List D}{pos p:aN}{x:ag}
theorem DE.call{S:List D->D->Prop}(c:Cal X x (spP X.K S))(ha:DA X ρ (e::es) ds)(hS:S ds d)(hg:Gl X x:=by rfl)(hdb:(x==k4r)=a6:=by decide)
  (he:aa (e::es) X.env=(a6,aG e X.env)::aa es X.env:=by rfl) (hpl:(aS pos (aa es X.env)).any (·.1)=a6:=by rfl):DE X ρ (.Call (.Name x p) (e::es) [] pos) d:=λσ H Q R q=>by
 obtain⟨k,f,fd,ps,F,hr,hm,hk,hb,_⟩:=c.ex;refine(Vw F (hr.mono (Xq _)) hg hm hk hb .nil Rr paS hdb he hpl).to (ha σ H _ R λvs H1 g1 e1=>?_);show spP X.K S (vs++[]) H1 Q E0;rw[Xn];exact⟨owns ρ,ds,d,R.tb.mono g1,(R.grow g1).owned,e1,hS,λv H2 g2 z=>q v H2 (g1.trans g2) z⟩
theorem DT.call{S:List D->D->Prop}(c:Cal X x (spP X.K S))(ha:DTA X ρ (e::es) ds)(hS:S ds d)(hg:Gl X x:=by rfl)(hdb:(x==k4r)=a6:=by decide)
  (he:aa (e::es) X.env=(a6,aG e X.env)::aa es X.env:=by rfl) (hpl:(aS pos (aa es X.env)).any (·.1)=a6:=by rfl):DT X ρ (.Call (.Name x p) (e::es) [] pos) d:=λσ H Q R q=>by
 obtain⟨k,f,fd,ps,F,hr,hm,hk,hb,_⟩:=c.ex;refine(Vw F (hr.mono (Xq _)) hg hm hk hb .nil Rr paS hdb he hpl).to (ha σ H _ R λvs H1 g1 e1=>?_);show spP X.K S (vs++[]) H1 Q E0;rw[Xn];exact⟨[],ds,d,R.tb.mono g1,(λa h=>nomatch h),by rw[zj];exact e1,hS,λv H2 g2 z=>q v H2 (g1.trans g2) (by rw[zj]at z;exact z)⟩
theorem DO.call{S:List D->List D->Prop}(c:Cal X x (spF X.K S))(ha:DA X ρ (e::es) ds)(hS:S ds l)(hg:Gl X x:=by rfl)(hdb:(x==k4r)=a6:=by decide)
  (he:aa (e::es) X.env=(a6,aG e X.env)::aa es X.env:=by rfl) (hpl:(aS pos (aa es X.env)).any (·.1)=a6:=by rfl):DO X ρ (.Call (.Name x p) (e::es) [] pos) l:=λσ H Q R q=>by
 obtain⟨k,f,fd,ps,F,hr,hm,hk,hb,_⟩:=c.ex;refine(Vw F (hr.mono (Xq _)) hg hm hk hb .nil Rr paS hdb he hpl).to (ha σ H _ R λvs H1 g1 e1=>?_);show spF X.K S (vs++[]) H1 Q E0;rw[Xn];exact⟨owns ρ,ds,l,R.tb.mono g1,(R.grow g1).owned,e1,hS,λa xs H2 g2 n m z=>q a xs H2 (g1.trans g2) (g1.free n) m z⟩
end
inductive Rt where
 |val (d:D)
 |fresh (ds:List D)
noncomputable def Rt.d:Rt->D
 |.val d=>d
 |.fresh l=>.lst l
structure Po where
 nx:Rho->Prop
 rt:Rt->Prop
 bk:Rho->Prop:=λ_=>False
 ct:Rho->Prop:=λ_=>False
 ex:ag->Rho->Prop:=λ_ _=>False
structure FlQ(q:a9->Prop)(N:af->Prop)(H:Hp)(h:aD)(e:af)(C:a9):Prop where
 new:∀b,N b->b≠e
 free:H e=a7
 obj:∃(oe:c7)(vs:Array a9)(a0:a9),h.get? e=a5 oe/\oe.cls=C/\oe.data=.fields vs/\vs[0]?=a5 a0 /\
  (vs[1]?=a5 .none\/∃(T:af)(oT:c7)(ts:Array a9)(fl:a9),vs[1]?=a5 (.ref T)/\T≠e/\h.get? T=a5 oT/\oT.data=.fields ts/\(ts[3]?=a5 fl/\q fl)/\H T=a7/\∀b,N b->b≠T)
def flN(v:a9):Prop:=v=.none
def flF(env:c8)(v:a9):Prop:=v=.none\/∃L,env.frame=a5 L/\v=rawInt L
abbrev Fl(N:af->Prop)(H:Hp)(h:aD)(e:af)(C:a9):Prop:=FlQ flN N H h e C
theorem FlQ.up{q q':a9->Prop}{N N':af->Prop}{H:Hp}{h:aD}{e:af}{C:a9}(F:FlQ q N H h e C)(hq:∀v,q v->q' v)(hN:∀b,N' b->N b):FlQ q' N' H h e C:=by refine⟨λb hb=>F.new b (hN b hb),F.free,?_⟩;obtain⟨oe,vs,a0,z1,z2,z3,z4,z5⟩:=F.obj;refine⟨oe,vs,a0,z1,z2,z3,z4,z5.imp id ?_⟩;rintro⟨T,oT,ts,fl,y1,y2,y3,y4,⟨y5,y6⟩,y7,y8⟩;exact⟨T,oT,ts,fl,y1,y2,y3,y4,⟨y5,hq _ y6⟩,y7,λb hb=>y8 b (hN b hb)⟩
def Old(X:Cx)(pins:k4p)(b:af):Prop:=(∃o,X.s₀.heap.get? b=a5 o/\b∉X.ex)\/(∃p∈X.pn++pins,p.1=b)\/b=X.env.locals\/∃x,X.env.cells.lookup x=a5 b
def Yy(X:Cx)(σ:St)(H:Hp)(x:ag):Prop:=∀(pins:k4p) (H':Hp) (s':ae) (e:af) (C:a9),Inv X pins σ H' s'->j4 H H'->X.mg x=a5 C->FlQ (flF X.env) (Old X pins) H' s'.heap e C->X.xe (.ref e) s'
def Fr0(ρ ρ':Rho)(H H':Hp):Prop:=j4 (del H (owns ρ)) (del H' (owns ρ'))
def Wc(K:k4n)(ρ:Rho)(H H':Hp)(v:V):Rt->Prop
 |.val d=>j4 (del H (owns ρ)) H'/\Enc K H' d v
 |.fresh ds=>∃a xs,v=.ref a/\j4 (del H (owns ρ)) (del H' [a])/\H' a=a5 (.lst xs)/\j5 K (del H' [a]) ds xs
structure EndsOk(X:Cx)(ρ:Rho)(H:Hp)(P:Po)(E:Ends):Prop where
 nx:∀ρ' σ' H',P.nx ρ'->Rep X.K ρ' σ' H'->Fr0 ρ ρ' H H'->E.nx σ' H'
 bk:∀ρ' σ' H',P.bk ρ'->Rep X.K ρ' σ' H'->Fr0 ρ ρ' H H'->E.bk σ' H'
 ct:∀ρ' σ' H',P.ct ρ'->Rep X.K ρ' σ' H'->Fr0 ρ ρ' H H'->E.ct σ' H'
 rt:∀r v H',P.rt r->Wc X.K ρ H H' v r->E.rt v H'
 ex:∀x ρ' σ' H',P.ex x ρ'->Rep X.K ρ' σ' H'->Fr0 ρ ρ' H H'->Yy X σ' H' x
theorem Wc.step{K:k4n}{ρ ρ1:Rho}{H H1 H':Hp}{v:V}{r:Rt}(f:Fr0 ρ ρ1 H H1)(h:Wc K ρ1 H1 H' v r):Wc K ρ H H' v r:=by
 cases r with
 |val d=>exact⟨f.trans h.1,h.2⟩
 |fresh ds=>obtain⟨a,xs,e,g,m,l⟩:=h;exact⟨a,xs,e,f.trans g,m,l⟩
theorem EndsOk.step{X:Cx}{ρ ρ1:Rho}{H H1:Hp}{P:Po}{E:Ends}(h:EndsOk X ρ H P E)(f:Fr0 ρ ρ1 H H1):EndsOk X ρ1 H1 P E :=
 ⟨λρ' σ' H' n R g=>h.nx ρ' σ' H' n R (f.trans g),λρ' σ' H' n R g=>h.bk ρ' σ' H' n R (f.trans g),λρ' σ' H' n R g=>h.ct ρ' σ' H' n R (f.trans g),λr v H' n g=>h.rt r v H' n (Wc.step f g),λx ρ' σ' H' n R g=>h.ex x ρ' σ' H' n R (f.trans g)⟩
theorem Fr0.grow{ρ:Rho}{H H':Hp}(g:j4 H H'):Fr0 ρ ρ H H':=je g
theorem Fr0.refl(ρ:Rho)(H:Hp):Fr0 ρ ρ H H:=j4.refl _
theorem Fr0.drop{ρ ρ':Rho}{H:Hp}(h:∀b∈owns ρ',b∈owns ρ):Fr0 ρ ρ' H H:=zp h
theorem Fr0.new{ρ:Rho}{H H':Hp}{i:Nat}{a:af}{ds:List D}{K:k4n}{σ:St}(R:Rep K ρ σ H)(g:j4 H H')(n:H a=a7):Fr0 ρ (ρ.set i (.own a ds)) H H':=λb o q=>by
 obtain⟨nb,q⟩:=of_del q;rw[j8];exact g b o q;intro z;rcases(v9 (ds:=ds) (i:=i) R.nd (R.fresh n)).2 b z with e|z
 .subst e;rw[n]at q;cases q
 .exact nb z
def DS(X:Cx)(ρ:Rho)(st:aM)(P:Po):Prop:=∀σ H E,Rep X.K ρ σ H->EndsOk X ρ H P E->j05 X st E σ H
def DSs(X:Cx)(ρ:Rho)(sts:List aM)(P:Po):Prop:=∀σ H E,Rep X.K ρ σ H->EndsOk X ρ H P E->Qa X sts E σ H
section
variable{X:Cx}{ρ:Rho}{e a b c:ah}{es:List ah}{st:aM}{rest sa sb body:List aM}{P:Po}{d:D}{ds ds':List D}{pos p p1 p2 p3:aN}{x:ag}{i:Nat}
theorem DSs.nil(h:P.nx ρ):DSs X ρ [] P:=λσ H E R q=>Bu.to (q.nx ρ σ H h R (Fr0.refl ρ H))
theorem DSs.cons{N:Rho->Prop}(h1:DS X ρ st { P with nx:=N })(h2:∀ρ1,N ρ1->DSs X ρ1 rest P):DSs X ρ (st::rest) P:=λσ H E R q =>(j0f psS Zj).to (h1 σ H { E with nx:=Qa X rest E } R ⟨λρ' σ' H' n R' f=>h2 ρ' n σ' H' E R' (q.step f),q.bk,q.ct,q.rt,q.ex⟩)
theorem DSs.freeze(i:Nat){l:af}(h:ρ[i]?=a5 (.own l ds))(h2:DSs X (ρ.set i (.val (.lst ds))) body P):DSs X ρ body P:=λσ H E R q =>h2 σ H E (R.freeze h) (q.step (.drop λb hb=>(jl rfl).subset hb))
theorem DS.set(i:Nat)(he:DE X ρ e d)(h:P.nx (ρ.set i (.val d)))(hN:X.N.Nodup)(hi:X.N[i]?=a5 x:=by rfl)(hx:Loc X.env.scope x:=by first|exact aY rfl|exact bM rfl)
  (hs:aZ e (a5 (.Name x p)) pos.line X.env=pure a6:=by rfl) (hf:X.fn x=a8\/X.env.scope.names.lookup x=a5 .local:=by first|exact .inl rfl|exact .inr rfl):DS X ρ (.Assign [.Name x p] e pos) P:=λσ H E R q =>
 (U6 hN hi hx peS hs hf).to (he σ H _ R λv H1 g1 e1=>q.nx _ _ H1 h ((R.grow g1).set_val e1) (j4.trans (Fr0.grow g1) (Fr0.drop λb hb=>(jl rfl).subset hb)))
theorem DS.setO(i:Nat)(he:DO X ρ e ds)(h:∀l,P.nx (ρ.set i (.own l ds)))(hN:X.N.Nodup)(hi:X.N[i]?=a5 x:=by rfl)(hx:Loc X.env.scope x:=by first|exact aY rfl|exact bM rfl)
  (hs:aZ e (a5 (.Name x p)) pos.line X.env=pure a6:=by rfl) (hf:X.fn x=a8\/X.env.scope.names.lookup x=a5 .local:=by first|exact .inl rfl|exact .inr rfl):DS X ρ (.Assign [.Name x p] e pos) P:=λσ H E R q =>
 (U6 hN hi hx peS hs hf).to (he σ H _ R λl xs H1 g1 n m e1=>q.nx _ _ H1 (h l) (R.set_own g1 n m e1) (.new R g1 n))
theorem DS.if{k:Bool}(hc:DB X ρ c k)(ha:k=a8->DSs X ρ sa P)(hb:k=a6->DSs X ρ sb P):DS X ρ (.If c sa sb pos) P:=λσ H E R q =>
 (j9w ptS Zj Zj).to (hc σ H _ R λH1 g1=>by
  cases k with
  |true=>exact Fx (ha rfl σ H1 E (R.grow g1) (q.step (.grow g1)))
  |false=>exact Fy (hb rfl σ H1 E (R.grow g1) (q.step (.grow g1))))
theorem DS.ret(he:DT X ρ e d)(h:P.rt (.val d)):DS X ρ (.Return (a5 e) pos) P:=λσ H E R q =>(U7 peS).to (he σ H _ R λv H1 g1 e1=>q.rt _ v H1 h ⟨jw.trans g1,e1⟩)
theorem DS.retO(he:DO X ρ e ds)(h:P.rt (.fresh ds)):DS X ρ (.Return (a5 e) pos) P:=λσ H E R q =>
 (U7 peS).to (he σ H _ R λl xs H1 g1 n m e1=>q.rt _ _ H1 h ⟨l,xs,rfl,(λb o z=>by
  obtain⟨nb,z⟩:=of_del z
  rw[j8];exact g1 b o z
  intro y;rw[xu.mp y,n]at z;cases z),m,e1.mono (zp λb hb=>by rw[xu.mp hb];exact xj ..)⟩)
theorem DS.retV(k:Nat){l:af}(hk:ρ[k]?=a5 (.own l ds))(h:P.rt (.fresh ds))(hN:X.N[k]?=a5 x:=by rfl)(hv:Vis X.env.scope x:=by first|exact aY rfl|exact bM (aY rfl)|exact bM (bM rfl))
  (hd:(x==k4r)=a6:=by decide) (hcd:(x==k4s)=a6:=by decide):DS X ρ (.Return (a5 (.Name x p)) pos) P:=λσ H E R q=>by
 obtain⟨hs,xs,m,en⟩:=R.own k l ds hk;have g:j4 (del H (owns ρ)) (del H [l]):=zp λb hb=>by rw[xu.mp hb];exact J1 hk
 exact(U7 (Ja hN hv hd hcd)).to ⟨_,hs,q.rt _ _ H h ⟨l,xs,rfl,g,m,en.mono g⟩⟩
theorem DS.expr(he:DT X ρ e d)(h:P.nx ρ)(hs:aZ e a7 pos.line X.env=pure a6:=by rfl):DS X ρ (.Expr e pos) P:=λσ H E R q =>(Vt peS hs).to (he σ H _ R λv H1 g1 e1=>q.nx ρ σ H1 h (R.grow g1) (.grow g1))
theorem Kl{σ:St}{H H':Hp}{l:af}{o:HO}(hk:ρ[i]?=a5 (.own l ds))(g:j4 H H'):Fr0 ρ (ρ.set i (.own l ds')) H (upd H' l o):=by unfold Fr0;rw[Q9 hk,Zc (J1 hk)];exact je g
theorem DS.append(i:Nat){l:af}(hk:ρ[i]?=a5 (.own l ds))(he:DE X ρ e d)(hl:ds.length<ai)(h:P.nx (ρ.set i (.own l (ds++[d]))))
  (hN:X.N[i]?=a5 x:=by rfl) (hv:Vis X.env.scope x:=by first|exact aY rfl|exact bM (aY rfl)|exact bM (bM rfl)) (hd:(x==k4r)=a6:=by decide) (hcd:(x==k4s)=a6:=by decide)
  (hst:aa [e] X.env=[(a6,aG e X.env)]:=by rfl) (hline:(p1.endLine==p2.line)=a8:=by rfl)
  (hbase:d5 (.Name x p) "append" X.env (aG (.Name x p) X.env)=aG (.Name x p) X.env:=by rfl) (hfew:((aS p2 (aa [e] X.env)).all (λx=>!x.1)&&(eL p2 (cX [] X.env)).all (λx=>x.1.isSome)
   && decide (([e]:List ah).length+([]:List cC).length+(if ([]:List cC).isEmpty then 0 else 1)<30))=a8:=by rfl)
  (hs:aZ (.Call (.Attribute (.Name x p) "append" p1) [e] [] p2) a7 pos.line X.env=pure a6:=by rfl) :
  DS X ρ (.Expr (.Call (.Attribute (.Name x p) "append" p1) [e] [] p2) pos) P:=λσ H E R q=>by
 obtain⟨hσ,xs,m,en⟩:=R.own i l ds hk;refine(Vt (j2f eP fq PySem.F.type_list_append Wl (Ja hN hv hd hcd) (j9 peS jn hst) hbase hfew hline hst rfl) hs).to ?_;refine⟨_,hσ,.inl ⟨rfl,xs,.inl (.inl m)⟩,he σ H _ R λv H1 g1 e1=>⟨l,xs,v,rfl,rfl,g1 _ _ m,by rw[en.length];exact hl,?_⟩⟩;exact q.nx _ σ _ h ((R.grow g1).upd_own hk ((en.mono (je g1)).append (.one e1))) (Kl (σ:=σ) hk g1)
theorem DS.extend(i:Nat){l:af}(hk:ρ[i]?=a5 (.own l ds))(he:DO X ρ e ds')(hl:ds.length+ds'.length<=ai)(h:P.nx (ρ.set i (.own l (ds++ds'))))
  (hN:X.N[i]?=a5 x:=by rfl) (hv:Vis X.env.scope x:=by first|exact aY rfl|exact bM (aY rfl)|exact bM (bM rfl)) (hd:(x==k4r)=a6:=by decide) (hcd:(x==k4s)=a6:=by decide)
  (hst:aa [e] X.env=[(a6,aG e X.env)]:=by rfl) (hline:(p1.endLine==p2.line)=a8:=by rfl)
  (hbase:d5 (.Name x p) "extend" X.env (aG (.Name x p) X.env)=aG (.Name x p) X.env:=by rfl) (hfew:((aS p2 (aa [e] X.env)).all (λx=>!x.1)&&(eL p2 (cX [] X.env)).all (λx=>x.1.isSome)
   && decide (([e]:List ah).length+([]:List cC).length+(if ([]:List cC).isEmpty then 0 else 1)<30))=a8:=by rfl)
  (hs:aZ (.Call (.Attribute (.Name x p) "extend" p1) [e] [] p2) a7 pos.line X.env=pure a6:=by rfl) :
  DS X ρ (.Expr (.Call (.Attribute (.Name x p) "extend" p1) [e] [] p2) pos) P:=λσ H E R q=>by
 obtain⟨hσ,xs,m,en⟩:=R.own i l ds hk;refine(Vt (j2f eP fm PySem.F.type_list_extend K1 (Ja hN hv hd hcd) (j9 peS jn hst) hbase hfew hline hst rfl) hs).to ?_;refine⟨_,hσ,.inl ⟨rfl,xs,.inl (.inl m)⟩,he σ H _ R λb ys H1 g1 n1 m1 e1=>⟨l,b,xs,ys,rfl,rfl,g1 _ _ m,m1,by rw[en.length,e1.length];exact hl,?_⟩⟩;exact q.nx _ σ _ h ((R.grow g1).upd_own hk ((en.mono (je g1)).append (e1.mono (zp λc hc=>km _ hc)))) (Kl (σ:=σ) hk g1)
def Vo(K:k4n)(F:Hp)(J:It)(ds:List D):Prop:=∀(i:Nat)(H:Hp)(A:List af),j4 F (del H A)->(∀a∈A,H a≠a7) ->
 (i<ds.length->J.go i H)/\(ds.length<=i->J.stop i H)/\∀x H',J.yld i H x H'->j4 H H'/\∀d,ds[i]?=a5 d->Enc K (del H' A) d x
def DI(X:Cx)(ρ:Rho)(tg it:ah)(ds:List D):Prop:=∀σ H R,Rep X.K ρ σ H->(∀J H',j4 H H'->Vo X.K (del H' (owns ρ)) J ds->R J H')->j06 X tg it σ H R
variable{tg it:ah}
theorem Ke{K:k4n}{F:Hp}{l:af}{xs:List V}(sq:SqL K F l xs)(en:j5 K F ds xs):Vo K F (Itl K l) ds:=λi H A g hA=>by
 have sq':SqL K H l xs:=jw.seq (g.seq sq);refine⟨λh=>?_,λh=>⟨xs,sq',by rw[en.length];exact h⟩,λx H' ⟨e,y⟩=>?_⟩
 .obtain⟨v,hv,_⟩:=en.get (kh h);exact⟨xs,v,sq',hv⟩
 .subst e;refine⟨j4.refl _,λd hd=>?_⟩;obtain⟨v,hv,ev⟩:=en.get hd;have e:=y xs sq';rw[hv]at e;cases e;exact ev.mono g
theorem j0u{K:k4n}{F:Hp}{l:af}{xs:List V}(sq:SqT K F l xs)(en:j5 K F ds xs):Vo K F (Itt K l) ds:=λi H A g hA=>by
 have sq':SqT K H l xs:=jw.seqT (g.seqT sq);refine⟨λh=>?_,λh=>⟨xs,sq',by rw[en.length];exact h⟩,λx H' ⟨e,y⟩=>?_⟩
 .obtain⟨v,hv,_⟩:=en.get (kh h);exact⟨xs,v,sq',hv⟩
 .subst e;refine⟨j4.refl _,λd hd=>?_⟩;obtain⟨v,hv,ev⟩:=en.get hd;have e:=y xs sq';rw[hv]at e;cases e;exact ev.mono g
theorem DI.lst(h:DE X ρ it (.lst ds)):DI X ρ tg it ds:=λσ H R r q=>(j3x peS).to (h σ H _ r λv H1 g1 ⟨l,xs,e,sq,en⟩=>⟨l,e,⟨xs,jw.seq sq⟩,q _ H1 g1 (Ke sq en)⟩)
theorem DI.tup(h:DE X ρ it (.tup ds)):DI X ρ tg it ds:=λσ H R r q=>(j6f peS).to (h σ H _ r λv H1 g1 ⟨l,xs,e,sq,en⟩=>⟨l,e,⟨xs,jw.seqT sq⟩,q _ H1 g1 (j0u sq en)⟩)
noncomputable def upto(lo:Int)(n:Nat):List D:=(aE n).map λk=>D.int (lo+(k:Nat))
theorem Ug{K:k4n}{F:Hp}(lo:Int)(n:Nat):Vo K F (Itr lo n) (upto lo n):=λi H A g hA=>by
 have hl:(upto lo n).length=n:=by unfold upto;rw[xn,Py]
 rw[hl];refine⟨λh=>h,λh=>h,λx H' ⟨e,y⟩=>?_⟩;subst e;refine⟨j4.refl _,λd hd=>?_⟩;unfold upto at hd;rw[X3]at hd;cases z:(aE n)[i]? with
 |none=>rw[z]at hd;cases hd
 |some k =>
  rw[z]at hd;have ek:k=i:=by have:=cf (n:=n) (i:=i) (by have:=(Xb.mp z).1;rwa [Py]at this);rw[this]at z;exact(aB z).symm
  subst ek;cases hd;exact y
theorem DI.range1 {n:Int} (h:DT X ρ a (.int n)) (hm:X.mg "range" = a7) (h1:-(2^62)<=n) (h2:n<2^62) (hg:Gl X "range":=by rfl) (hs:aa [a] X.env=[(a6,aG a X.env)]:=by rfl):DI X ρ tg (.Call (.Name "range" p) [a] [] pos) (upto 0 n.toNat):=λσ H R r q =>(Ln hg hm (j9 peS jn hs) hs).to (h σ H _ r λv H1 g1 e=>⟨n,by rw[show v=.int n from e],h1,h2,q _ H1 g1 (Ug 0 _)⟩)
theorem DI.range2 {m n:Int} (h:DT X ρ a (.int m)) (h':DT X ρ b (.int n)) (hm:X.mg "range" = a7) (h1:-(2^62)<=m) (h2:m<2^62) (h3:-(2^62)<=n) (h4:n<2^62) (hg:Gl X "range":=by rfl) (hs:aa [a,b] X.env=[(a6,aG a X.env),(a6,aG b X.env)]:=by rfl)
  (hs2:aa [b] X.env=[(a6,aG b X.env)]:=by rfl) (hs3:aa [a,b] X.env=(a6,aG a X.env)::aa [b] X.env:=by rfl):DI X ρ tg (.Call (.Name "range" p) [a,b] [] pos) (upto m (n-m).toNat):=λσ H R r q =>
 (Lj hg hm (j9 peS (j9 peS jn hs2) hs3) hs hs2).to (h σ H _ r λv H1 g1 e=>h' σ H1 _ (r.grow g1) λu H2 g2 e2=>⟨m,n,by rw[show v=.int m from e,show u=.int n from e2],⟨h1,h2,h3,h4⟩,q _ H2 (g1.trans g2) (Ug m _)⟩)
def j07(X:Cx)(tg:ah):TG:=λv σ H Q=>∀pins s u,Inv X pins σ H s->RelV v u->aw (ar X.prog X.w) X.A (fw tg X.env u) (λ_ s'=>∃σ' H',Inv X pins σ' H' s'/\Q σ' H') X.xe s
theorem pgS:PG X tg (j07 X tg):=λpins s σ H v u Q I r h=>h pins s u I r
theorem PG.to{t:TG}{σ:St}{H:Hp}{v:V}{Q:St->Hp->Prop}(h:PG X tg t)(q:t v σ H Q):j07 X tg v σ H Q:=λpins s u I r=>h pins s σ H v u Q I r q
def DG(X:Cx)(ρ:Rho)(tg:ah)(d:D)(ρ':Rho):Prop:=(∀b∈owns ρ',b∈owns ρ)/\∀σ H v Q,Rep X.K ρ σ H->Enc X.K (del H (owns ρ)) d v->(∀σ',Rep X.K ρ' σ' H->Q σ' H)->j07 X tg v σ H Q
theorem DG.name(i:Nat)(hN:X.N.Nodup)(hi:X.N[i]?=a5 x:=by rfl)(hx:Loc X.env.scope x:=by first|exact aY rfl|exact bM rfl)(hf:X.fn x=a8\/X.env.scope.names.lookup x=a5 .local:=by first|exact .inl rfl|exact .inr rfl):DG X ρ (.Name x p) d (ρ.set i (.val d)) :=
 ⟨λb hb=>(jl rfl).subset hb,λσ H v Q R en q=>(j3y hN hi hx hf).to (q _ (R.set_val en))⟩
theorem DS.for(W:Nat->Rho->Prop)(hi:DI X ρ tg it ds)(h0:W 0 ρ)(hs:∀i d ρ',ds[i]?=a5 d->W i ρ'->∃ρ2,DG X ρ' tg d ρ2/\DSs X ρ2 body { nx:=W (i+1),rt:=P.rt,bk:=P.nx,ct:=W (i+1),ex:=P.ex })
  (hd:∀ρ',W ds.length ρ'->P.nx ρ') (hc:X.calm=a8) (hp:eT (ar X.prog X.w) X.A X.env X.xe) (hf:∀x,aQ it X.env x=pure x:=by intro _;rfl):DS X ρ (.For tg it body [] pos) P:=λσ H E R q=>by
 refine(j6d hp hc piS pgS Zj hf).to (hi σ H _ R λJ H1 g1 ok=>?_);refine⟨λi m σ' H'=>∃ρ',W i ρ'/\Rep X.K ρ' σ' H'/\Fr0 ρ ρ' H1 H'/\m=ds.length-i/\i<=ds.length,⟨ds.length,ρ,h0,R.grow g1,Fr0.refl _ _,rfl,cI _⟩,?_⟩;rintro i m σ' H' ⟨ρ',w,R',f,rfl,hle⟩;obtain⟨go,stop,yld⟩:=ok i H' (owns ρ') f λa ha=>by obtain⟨xs,e⟩:=R'.owned a ha;rw[e];simp
 by_cases hlt:i<ds.length
 .refine .inr ⟨go hlt,λσ2 H2=>∃ρ2,W (i+1) ρ2/\Rep X.K ρ2 σ2 H2/\Fr0 ρ ρ2 H1 H2,λσ2 H2 ⟨ρ2,w2,R2,f2⟩=>⟨ds.length-(i+1),by omega,ρ2,w2,R2,f2,rfl,hlt⟩,λx H2 y=>?_⟩;obtain⟨g2,en⟩:=yld x H2 y;obtain⟨ρ2,⟨sub,hG⟩,hB⟩:=hs i ds[i] ρ' (kh hlt) w;refine hG σ' H2 x _ (R'.grow g2) (en _ (kh hlt)) λσ3 R3=>?_;have f2:Fr0 ρ ρ2 H1 H2:=j4.trans f (j4.trans (Fr0.grow g2) (Fr0.drop sub));refine hB σ3 H2 _ R3 ⟨λρ3 σ4 H4 n R4 f4=>⟨ρ3,n,R4,f2.trans f4⟩,λρ3 σ4 H4 n R4 f4=>q.nx ρ3 σ4 H4 n R4 ((Fr0.grow g1).trans (f2.trans f4)),λρ3 σ4 H4 n R4 f4=>⟨ρ3,n,R4,f2.trans f4⟩,λr v H4 n z=>q.rt r v H4 n (Wc.step ((Fr0.grow g1).trans f2) z),λx ρ3 σ4 H4 n R4 f4=>q.ex x ρ3 σ4 H4 n R4 ((Fr0.grow g1).trans (f2.trans f4))⟩
 .have e:i=ds.length:=by omega
  subst e;exact .inl ⟨stop (xx _),q.nx ρ' σ' H' (hd ρ' w) R' ((Fr0.grow g1).trans f)⟩
end
noncomputable def jt(N:List ag)(ds:List D):Rho:=ds.map Sl.val++aq (N.length-ds.length) Sl.un
theorem Jb(N:List ag)(ds:List D):owns (jt N ds)=[]:=by
 unfold owns jt;rw[List.filterMap_append];have h1:(ds.map Sl.val).filterMap Sl.addr=[]:=List.filterMap_eq_nil_iff.mpr λs hs=>by obtain⟨d,_,rfl⟩:=Xk.mp hs;rfl
 have h2:(aq (N.length-ds.length) Sl.un).filterMap Sl.addr=[]:=List.filterMap_eq_nil_iff.mpr λs hs=>by rw[(Pj.mp hs).2];rfl
 rw[h1,h2];rfl
theorem Q6{K:k4n}{H:Hp}{N:List ag}{ds:List D}{vs:List V}(tb:TabOk K H)(h:j5 K H ds vs):Rep K (jt N ds) (start N vs) H:=by
 have ho:=Jb N ds;have hl:=h.length;refine⟨by unfold jt start;simp[hl],λi d e=>?_,λi a l e=>?_,by rw[ho];exact gQ,λi a o y e=>?_,tb⟩
 .rw[ho,zj];unfold jt at e;by_cases z:i<ds.length
  .rw[Xr (by simpa using z),X3]at e;rw[kh z]at e;cases e;obtain⟨v,hv,en⟩:=h.get (kh z);refine⟨v,?_,en⟩;unfold start;rw[Xr (by rw[xn,hl];exact z),X3,hv];rfl
  .rw[cu (by simpa using z)]at e;have:=Xj e;cases(Pj.mp this).2
 .have:=J1 e;rw[ho]at this;cases this
 .unfold jt at e;rcases List.mem_append.mp (Xj e)with z|z
  .obtain⟨d,_,q⟩:=Xk.mp z;cases q
  .cases(Pj.mp z).2
section
variable{P:ak}{w:ax}{K:k4n}{mg:k4q}{base:aD}{x qual:ag}{st:aM}{f:af}{fd:aH}{N ps:List ag}{k:Nat}
def Z9(K:k4n)(f:af)(cdv:a9):Prop:=∃(oc:a9)(od:Option af)(fd:aH)(sl:Array (Option a9)),K.lookup f=a5 ⟨oc,od,.func fd,sl⟩/\fd.code=cdv
theorem Fun.okC{sp:Sp}(F:Fun K x qual st f fd)(S:FnScope N ps (j0 st))(len:∀vs H Q E,sp vs H Q E->vs.length=ps.length)
  (hbody:∀(cdv:a9)(A:az)(outer:List c8)(s:ae)(H:Hp)(vs:List V)(Q:VK) (E:XK),Z9 K f cdv->Room k (A.deeper (bf qual (j0 st) s.heap.objs.size f cdv))->sp vs H Q E ->
   ∃t,PSs (jy CX0 P w K mg base N qual (j0 st) f cdv A outer s H E).nox (jb st) t/\t { nx:=λ_ H'=>Q .non H',rt:=Q } (start N vs) H):FnOk P w K mg base CX0 (k+1) f fd ps sp:=by
 obtain⟨oc,od,dV,kV,doc,pm,an,cdv,ct,osl,rfl,lk,hcd⟩:=F.ex;refine Dc lk hcd S len λA outer s H vs Q E hr hsp=>?_;obtain⟨t,h,q⟩:=hbody cdv A outer s H vs Q E ⟨oc,od,_,osl,lk,rfl⟩ hr hsp;exact⟨t,h.nox,q⟩
theorem W5{S:List D->D->Prop}(F:Fun K x qual st f fd)(Sc:FnScope N ps (j0 st))(hl:∀ds d,S ds d->ds.length=ps.length)
  (hbody:∀(cdv:a9)(A:az)(outer:List c8)(s:ae)(H:Hp)(E:XK),Z9 K f cdv->Room k (A.deeper (bf qual (j0 st) s.heap.objs.size f cdv))->∀ds d,S ds d ->
   DSs (jy CX0 P w K mg base N qual (j0 st) f cdv A outer s H E).nox (jt N ds) (jb st) { nx:=λ_=>d=.non,rt:=λr=>r.d=d }):FnOk P w K mg base CX0 (k+1) f fd ps (spP K S):=by
 refine FnOk.toP (F.okC Sc (λvs H Q E ⟨ds,d,tb,en,hS,_⟩=>by rw[en.length];exact hl ds d hS) λcdv A outer s H vs Q E hcv hr ⟨ds,d,tb,en,hS,q⟩=>⟨_,Zj,?_⟩);have ho:=Jb N ds;refine hbody cdv A outer s H E hcv hr ds d hS (start N vs) H _ (Q6 tb en) ⟨λρ' σ' H' n R f=>?_,λ_ _ _ z=>z.elim,λ_ _ _ z=>z.elim,λr v H' n z=>?_,λ_ _ _ _ z=>z.elim⟩
 .subst n;unfold Fr0 at f;rw[ho,zj]at f;exact q _ H' (f.trans jw) rfl
 .cases r with
  |val d' =>cases(show d'=d from n);obtain⟨g,en'⟩:=z;rw[ho,zj]at g;exact q v H' g en'
  |fresh l =>cases(show D.lst l=d from n);obtain⟨a,xs,e,g,m,en'⟩:=z;rw[ho,zj]at g;exact q v H' (g.trans jw) ⟨a,xs,e,.inl (.inl m),en'.mono jw⟩
theorem j1e{S:List D->List D->Prop}(F:Fun K x qual st f fd)(Sc:FnScope N ps (j0 st))(hl:∀ds d,S ds d->ds.length=ps.length)
  (hbody:∀(cdv:a9)(A:az)(outer:List c8)(s:ae)(H:Hp)(E:XK),Z9 K f cdv->Room k (A.deeper (bf qual (j0 st) s.heap.objs.size f cdv))->∀ds l,S ds l ->
   DSs (jy CX0 P w K mg base N qual (j0 st) f cdv A outer s H E).nox (jt N ds) (jb st) { nx:=λ_=>False,rt:=λr=>r=.fresh l }):FnOk P w K mg base CX0 (k+1) f fd ps (spF K S):=by
 refine FnOk.toF (F.okC Sc (λvs H Q E ⟨ds,d,tb,en,hS,_⟩=>by rw[en.length];exact hl ds d hS) λcdv A outer s H vs Q E hcv hr ⟨ds,l,tb,en,hS,q⟩=>⟨_,Zj,?_⟩);have ho:=Jb N ds;refine hbody cdv A outer s H E hcv hr ds l hS (start N vs) H _ (Q6 tb en) ⟨λρ' σ' H' n R f=>n.elim,λ_ _ _ z=>z.elim,λ_ _ _ z=>z.elim,λr v H' n z=>?_,λ_ _ _ _ z=>z.elim⟩;cases(show r=.fresh l from n);obtain⟨a,xs,e,g,m,en'⟩:=z;rw[ho,zj]at g;subst e;refine q a xs H' (g.trans jw) ?_ m en';cases y:H a with
 |none=>rfl
 |some o=>have:=g a o y;rw[qx (xu.mpr rfl)]at this;cases this
end
section
variable{prog:ak}{w:ax}{A:az}{R:dC->ae->Prop}{s:ae}
theorem Oh{elt target iter:ah}{ifs:List ah}{scope:bg}{pos:aN}{it acc:a9}{env:c8}(I:Nat->ae->Prop)
  (turn:∀n s,I n s->aw (ar prog w) A (pyNext it) (λr s₁=>match r with
   |none=>R (.ok .next) s₁
   |some v=>aw (ar prog w) A (dk target it v) (λ_ s₁'=>aw (ar prog w) A (fw target env v) (λ_ s₂ =>
     aw (ar prog w) A (forIn ifs a8 λc r=>if r=a8 then do let ok <-dU c env (aG c env);pure (bH ok)else pure (bH r)) (λok s₃ =>
      if ok=a8 then aw (ar prog w) A (aG elt env) (λx s₄ =>
       aw (ar prog w) A (call (.builtin "list.append") [acc,x]) (λ_ s₅=>∃m,m<n/\I m s₅) (λ_ _=>False) s₄) (λ_ _=>False) s₃
      else ∃m,m<n/\I m s₃) (λ_ _=>False) s₂) (λ_ _=>False) s₁') (λ_ _=>False) s₁) (λ_ _=>False) s)
  (n:Nat) (h:I n s) :
  bR (ar prog w) A (.compLoop (.ListComp elt [⟨target,iter,ifs,0⟩] scope pos) 0 it acc env) R s:=by
 refine codeAny_loop rfl I (λn s hI=>?_) n h;show aw _ A ((compTurn (.ListComp elt [⟨target,iter,ifs,0⟩] scope pos) 0 it acc env).onRaise (λx=>do cH x env;theTreesLotGoes x)) _ _ s;refine wpAny_noted ?_;rw[compTurn_list];refine ao (jJ (ao (aT (turn n s hI) (λr s₁ h₁=>?_) λ_ _ h'=>h'.elim)));cases r with
 |none=>exact aC h₁
 |some v =>
  refine ao (aT h₁ (λ_ s₁' h₁'=>?_) λ_ _ h'=>h'.elim);refine ao (aT h₁' (λ_ s₂ h₂=>ao (aT h₂ (λok s₃ h₃=>?_) λ_ _ h'=>h'.elim)) λ_ _ h'=>h'.elim);cases ok with
  |false=>exact aC ⟨rfl,h₃⟩
  |true =>exact ao (ao (aT h₃ (λx s₄ h₄=>ao (aT h₄ (λ_ s₅ h₅=>aC (aC ⟨rfl,h₅⟩)) λ_ _ h'=>h'.elim)) λ_ _ h'=>h'.elim))
end
noncomputable def qy(env:c8):List (ag×bo)->List (ag×af)->List (ag×af)
 |[],acc=>acc
 |(n,k)::r,acc=>qy env r (if k==.free then(match env.cells.lookup n with|some a=>(n,a)::acc|none=>acc)else acc)
theorem Um{scope:bg}{env:c8}(h:∀y∈scope.names,y.2=.free->(env.cells.lookup y.1).isSome=a8):closureFor scope env=pure (qy env scope.names []):=by
 simp only[closureFor];have step:∀(names:List (ag×bo)) (acc:List (ag×af)),(∀y∈names,y.2=.free->(env.cells.lookup y.1).isSome=a8) ->
   (forIn names acc (λx r=>(do if (x.2==b8)=a8 then(do let a <-cellOf env x.1;pure (bH ((x.1,a)::r)))else pure (bH r):gz _)):gz _)=pure (qy env names acc):=by
  intro names;induction names with
  |nil=>intro acc _;rfl
  |cons y r ih =>
   intro acc hy;obtain⟨n,k⟩:=y;rw[List.forIn_cons];by_cases e:(k==b8)=a8
   .have hk:k=.free:=by simpa using e
    have hs:=hy (n,k) (xj ..) hk;obtain⟨a,ha⟩:=Xf.mp hs;have hc:cellOf env n=pure a:=by unfold cellOf;rw[ha]
    simp only[e,if_true,hc,pure_bind];rw[ih _ λz hz=>hy z (km _ hz)];simp only[qy,e,if_true,ha]
   .have e':(k==b8)=a6:=by simpa using e
    simp only[e',pq,if_false,pure_bind];rw[ih _ λz hz=>hy z (km _ hz)];simp only[qy,e',pq,if_false]
 have:=step scope.names [] h;rw[show(forIn scope.names ([]:List (ag×af)) λx r=>_)=_ from this];rfl
theorem Wx{env:c8}{y:ag}{c:af}:∀{names:List (ag×bo)} {acc:List (ag×af)},(∀y c,acc.lookup y=a5 c->env.cells.lookup y=a5 c)->(qy env names acc).lookup y=a5 c->env.cells.lookup y=a5 c
 |[],acc,h,q=>h y c q
 |(n,k)::r,acc,h,q=>by
  unfold qy at q;refine Wx (acc:=_) ?_ q;intro z d hz;split at hz
  .split at hz
   .rename_i a ha;rw[Xa]at hz;split at hz
    .rename_i e;have e':z=n:=by simpa using e
     subst e';cases hz;exact ha
    .exact h z d hz
   .exact h z d hz
  .exact h z d hz
theorem Uo{env:c8}{y:ag}:∀{names:List (ag×bo)} {acc:List (ag×af)},(acc.lookup y).isSome=a8->((qy env names acc).lookup y).isSome=a8
 |[],acc,h=>h
 |(n,k)::r,acc,h=>by
  unfold qy;refine Uo ?_;split
  .split
   .rw[Xa];split
    .rfl
    .exact h
   .exact h
  .exact h
theorem Zw{env:c8}{y:ag}(hs:(env.cells.lookup y).isSome=a8):∀{names:List (ag×bo)} {acc:List (ag×af)},(y,b8)∈names->((qy env names acc).lookup y).isSome=a8
 |[],acc,h=>nomatch h
 |(n,k)::r,acc,h=>by
  unfold qy;rcases xf.mp h with e|h
  .cases e;refine Uo ?_;obtain⟨a,ha⟩:=Xf.mp hs;rw[if_pos (by rfl),ha];rw[Xa];simp
  .exact Zw hs h
noncomputable def vd(scope:bg)(env:c8)(N:List ag)(cs:List Nat):Bool :=
 scope.names.all (λy=>(y.2 != .cell || scope.names.lookup y.1==a5 .cell)&&(y.2 != .local || scope.names.lookup y.1==a5 .local)&&(y.2 != .free || ((env.cells.lookup y.1).isSome&&(env.kindOf y.1==a5 .cell || env.kindOf y.1==a5 .free)))) &&
 (aE N.length).all (λj=>cs.contains j || (match N[j]? with|some y=>scope.names.lookup y != a5 .local&&scope.names.lookup y != a5 .cell|none=>a8))
theorem lookup_mem{α β:Type}[BEq α][LawfulBEq α]{l:List (α×β)}{a:α}{b:β}(h:l.lookup a=a5 b):(a,b)∈l:=by
 induction l with
 |nil=>cases h
 |cons x r ih =>
  obtain⟨c,d⟩:=x;rw[Xa]at h;split at h
  .rename_i e;cases h;have e':a=c:=by simpa using e
   subst e';exact xj ..
  .exact km _ (ih h)
theorem zy{env:c8}{x:ag}{k':bo}:∀{names:List (ag×bo)},
  (names.map λ(n,k)=>if (k==b8&&env.scope.kind==.function&&env.kindOf n==a5 .cell) then(n,bq) else(n,k)).lookup x=a5 k' ->
  ∃k,names.lookup x=a5 k/\(k'=k\/(k=.free/\k'=.cell))
 |[],h=>by cases h
 |(n,k)::r,h=>by
  rw[Xi]at h;rw[Xa];by_cases hc:(k==b8&&env.scope.kind==.function&&env.kindOf n==a5 .cell)=a8
  .dsimp only at h;rw[if_pos hc,Xa]at h;cases e:x==n with
   |true =>
    rw[e]at h;cases h;have:(k==b8)=a8:=by
     cases z:k==b8 with
     |true=>rfl
     |false=>rw[z]at hc;simp at hc
    exact⟨k,rfl,.inr ⟨by simpa using this,rfl⟩⟩
   |false=>rw[e]at h;exact zy h
  .dsimp only at h;rw[if_neg hc,Xa]at h;cases e:x==n with
   |true=>rw[e]at h;cases h;exact⟨_,rfl,.inl rfl⟩
   |false=>rw[e]at h;exact zy h
theorem Qo:∀(names:List (ag×bo)) (n:Nat) (acc:List (ag×af)),aK n names acc=aK n names []++acc
 |[],_,_=>rfl
 |(x,k)::r,n,acc=>by
  unfold aK;split
  .rw[Qo r (n+1) ((x,n)::acc),Qo r (n+1) [(x,n)],cF];rfl
  .exact Qo r n acc
theorem Up:∀{names:List (ag×bo)} {n:Nat} {x:ag} {c:af},(x,c)∈aK n names []->(x,bq)∈names/\n<=c
 |[],_,_,_,h=>nomatch h
 |(y,k)::r,n,x,c,h=>by
  unfold aK at h;split at h
  .rename_i hk;rw[Qo]at h;rcases List.mem_append.mp h with h|h
   .have q:=Up h;exact⟨km _ q.1,Nat.le_of_succ_le q.2⟩
   .cases xu.mp h;have hk:k=bq:=by simpa using hk
    subst hk;exact⟨xj ..,xx _⟩
  .have q:=Up h;exact⟨km _ q.1,q.2⟩
theorem Qc{β:Type}:∀{l m:List (ag×β)} {y:ag},(l++m).lookup y=(l.lookup y).or (m.lookup y)
 |[],m,y=>rfl
 |(x,b)::r,m,y=>by
  rw[gB,Xa,Xa];split
  .rfl
  .exact Qc
theorem Wy{names:List (ag×bo)}{n:Nat}{acc:List (ag×af)}{y:ag}{c:af}(h:(aK n names acc).lookup y=a5 c) :
  ((y,c)∈aK n names []/\(y,bq)∈names/\n<=c)\/((aK n names []).lookup y=a7/\acc.lookup y=a5 c):=by
 rw[Qo,Qc]at h;cases e:(aK n names []).lookup y with
 |some c'=>rw[e]at h;cases h;have q:=lookup_mem e;exact .inl ⟨q,Up q⟩
 |none=>rw[e]at h;exact .inr ⟨rfl,h⟩
theorem j8p{names:List (ag×bo)}{n:Nat}{acc:List (ag×af)}{y:ag}(h:(y,bq)∉names):(aK n names acc).lookup y=acc.lookup y:=by
 rw[Qo,Qc];cases e:(aK n names []).lookup y with
 |some c'=>exact absurd (Up (lookup_mem e)).1 h
 |none=>rfl
theorem j55{names:List (ag×bo)}{n:Nat}{acc:List (ag×af)}{y:ag}(h:(acc.lookup y).isSome=a8):∃c,(aK n names acc).lookup y=a5 c:=by
 rw[Qo,Qc];cases e:(aK n names []).lookup y with
 |some c'=>exact⟨c',rfl⟩
 |none=>obtain⟨c,hc⟩:=Xf.mp h;exact⟨c,hc⟩
theorem Ms{M:fS}{A:az}{E:k4o}{s:ae}{scope:bg}{globals:af}{closure:List (ag×af)}{qual:ag}{env:c8}{Q:c8->ae->Prop}
  (hQ:Q { scope:=scope,locals:=s.heap.objs.size,globals:=globals,cells:=aK (s.heap.objs.size+1) scope.names closure,qual:=qual,func:=a7,code:=env.code,frame:=env.frame,builtins:=env.builtins }
   { s with heap:=fP (s.heap.push { cls:=.type "dict",data:=.dict #[] }) scope.names }) :
  aw M A (dz scope globals closure [] qual a7 .none (a5 env)) Q E s:=by
 simp only[dz,dm,if_true];refine ao (wpAny_alloc ?_);refine ao (wpAny_layCells _ (λname kind cells=>by cases hkc:kind==bq<;>simp[hkc]) _ _ _ _ ?_);rw[show({ s with heap:=s.heap.push { cls:=.type "dict",data:=.dict #[] } }:ae).heap.objs.size=s.heap.objs.size+1 from bQ ..];exact ao (aC (aC hQ))
noncomputable abbrev cCx(X:Cx)(scope:bg)(C:af)(s:ae)(H:Hp)(fp:List af)(pn:k4p):Cx :=
 { X with env:=jF scope (aK (C+1) scope.names (qy X.env scope.names [])) C X.env,s₀:=s,H₀:=H,outer:=X.stack,stack:=X.stack,ex:=fp,fn:=λx=>scope.names.lookup x==a5 .cell,pn:=pn,xe:=λ_ _=>False }
noncomputable def Vq(scope:bg)(y:ag):Bool:=scope.names.lookup y==a5 .local || scope.names.lookup y==a5 .cell
theorem Jr{env:c8}:∀{names:List (ag×bo)} {x:ag},names.lookup x=a5 .cell ->
  (names.map λ(n,k)=>if (k==b8&&env.scope.kind==.function&&env.kindOf n==a5 .cell) then(n,bq) else(n,k)).lookup x=a5 .cell
 |[],_,h=>by simp at h
 |(n,k)::r,x,h=>by
  have ih:=@Jr env r x;rw[Xi];cases hx:x==n with
  |true =>simp only[Xa,hx]at h;cases h;simp[Xa,hx]
  |false =>
   simp only[Xa,hx]at h;dsimp only;by_cases hc:(k==b8&&env.scope.kind==.function&&env.kindOf n==a5 .cell)=a8
   .rw[if_pos hc];simp only[Xa,hx];exact ih h
   .rw[if_neg hc];simp only[Xa,hx];exact ih h
theorem Bk{X:Cx}{scope:bg}{C:af}{s:ae}{H:Hp}{fp:List af}{pn:k4p}{y:ag}(h:Vq scope y=a8):Loc (cCx X scope C s H fp pn).env.scope y:=by
 unfold Vq at h;rw[bO]at h;rcases h with h|h
 .exact .inl (gF (by simpa using h))
 .exact .inr (Jr (by simpa using h))
theorem Cm{X:Cx}{scope:bg}{C:af}{s:ae}{H:Hp}{fp:List af}{pn:k4p}{y:ag}(h:Vq scope y=a8):(cCx X scope C s H fp pn).fn y=a8\/(cCx X scope C s H fp pn).env.scope.names.lookup y=a5 .local:=by
 unfold Vq at h;rw[bO]at h;rcases h with h|h
 .exact .inr (gF (by simpa using h))
 .exact .inl h
def DTs(X:Cx)(ρ:Rho)(ifs:List ah)(b:Bool):Prop:=match ifs with
 |[]=>b=a8
 |[c]=>DB X ρ c b
 |_=>False
theorem DTs.nil{X:Cx}{ρ:Rho}:DTs X ρ [] a8:=rfl
theorem DTs.one{X:Cx}{ρ:Rho}{c:ah}{b:Bool}(h:DB X ρ c b):DTs X ρ [c] b:=h
theorem DTs.run{X:Cx}{ρ:Rho}{ifs:List ah}{b:Bool}(h:DTs X ρ ifs b){pins:k4p}{σ:St}{H:Hp}{s:ae}(I:Inv X pins σ H s)(R:Rep X.K ρ σ H) :
  aw (ar X.prog X.w) X.A (forIn ifs a8 λc r=>if r=a8 then do let ok <-dU c X.env (aG c X.env);pure (bH ok)else pure (bH r)) (λok s'=>ok=b/\∃H',Inv X pins σ H' s'/\j4 H H') X.xe s:=by
 match ifs,h with
 |[],h=>exact wpAny_tests_nil ⟨h.symm,H,I,j4.refl H⟩
 |[c],h=>exact wpAny_tests_one (thn (h σ H (λk H'=>k=b/\j4 H H') R (λH' g=>⟨rfl,g⟩) pins s I) λk s' ⟨H',I',e,g⟩=>⟨e,H',I',g⟩)
theorem Rep.weaken{K:k4n}{ρ:Rho}{σ σ':St}{H:Hp}(R:Rep K ρ σ H)(hl:σ'.length=σ.length)(h:∀(i:Nat),ρ[i]?≠a5 .un->σ'[i]?=σ[i]?):Rep K ρ σ' H :=
 ⟨by rw[hl,R.len],λi d e=>let ⟨v,q,z⟩:=R.val i d e;⟨v,by rw[h i (by rw[e];simp)];exact q,z⟩,λi a ds e=>let ⟨q,z⟩:=R.own i a ds e;⟨by rw[h i (by rw[e];simp)];exact q,z⟩,R.nd,λi a o x e=>let ⟨q,z⟩:=R.raw i a o x e;⟨by rw[h i (by rw[e];simp)];exact q,z⟩,R.tb⟩
noncomputable def mask(cs:List Nat)(σ:St):St:=σ.mapIdx λj v=>if cs.contains j then a7 else v
theorem Y9(cs:List Nat)(σ:St):(mask cs σ).length=σ.length:=by unfold mask;simp
theorem j0n{cs:List Nat}{σ:St}{j:Nat}{v:V}(h:(mask cs σ)[j]?=a5 (a5 v)):j∉cs/\σ[j]?=a5 (a5 v):=by
 unfold mask at h;rw[fB]at h;cases e:σ[j]? with
 |none=>rw[e]at h;cases h
 |some u =>
  rw[e]at h;have h':(if cs.contains j then a7 else u)=a5 v:=aB h;by_cases z:cs.contains j=a8
  .rw[if_pos z]at h';cases h'
  .rw[if_neg z]at h';subst h';exact⟨λy=>z (by simpa using y),rfl⟩
theorem j0m{cs:List Nat}{σ:St}{j:Nat}(h:j∉cs):(mask cs σ)[j]?=σ[j]?:=by
 unfold mask;rw[fB];cases e:σ[j]? with
 |none=>rfl
 |some u=>simp[h]
def Wk(ρ2 ρ:Rho):Prop:=∀K σ H,Rep K ρ2 σ H->Rep K ρ σ H
theorem Jw(H:Hp)(A B:List af):del (del H A) B=del H (A++B):=funext λb=>by unfold del;by_cases h1:b∈A<;>by_cases h2:b∈B<;>simp[h1,h2]
structure Loose(X:Cx)(pins:k4p)(H:Hp)(C:af):Prop where
 free:H C=a7
 loc:C≠X.env.locals
 new:X.s₀.heap.objs.size<=C
 cell:∀x c,X.env.cells.lookup x=a5 c->c≠C
 pin:∀p∈X.pn++pins,p.1≠C
section
variable{X:Cx}{pins:k4p}{σ:St}{H2:Hp}{s2:ae}{ρ:Rho}{tg elt iter:ah}{ifs:List ah}{scope:bg}{pos:aN}{ds:List D}{cs:List Nat}{p:D->Bool}{g:D->D}
theorem j1m{J:It}{fp:List af}{it:af}{tn:Nat->aD->Prop}(I2:Inv X pins σ H2 s2)(T:Turn X.prog X.w X.K tg J fp it tn)(st2:tn 0 s2.heap)(f2:∀b∈fp,V5 X pins H2 b)
  (hkind:scope.kind=.function) (hok:vd scope X.env X.N cs=a8) {E:k4o} {RR:a9->af->dC->ae->Prop}
  (hk:∀(C Dd:af)(h₁:aD),(cCx X scope C s2 H2 fp (X.pn++pins)).Ok->Inv (cCx X scope C s2 H2 fp (X.pn++pins)) [] (mask cs σ) (upd H2 Dd (.lst [])) { s2 with heap:=h₁ }->s2.heap.objs.size=Dd->Dd<C->H2 Dd=a7->(∀b o,s2.heap.get? b=a5 o->h₁.get? b=a5 o) ->
   bR (ar X.prog X.w) X.A (.compLoop (.ListComp elt [⟨tg,iter,ifs,0⟩] scope pos) 0 (.ref it) (.ref Dd) (jF scope (aK (C+1) scope.names (qy X.env scope.names [])) C X.env)) (RR (.ref Dd) C) { s2 with heap:=h₁ }) :
  aw (ar X.prog X.w) X.A (newList []) (λacc s₃=>aw (ar X.prog X.w) X.A (dz scope X.env.globals (qy X.env scope.names []) [] X.env.qual a7 .none (a5 X.env)) (λcenv s₄=>cenv.frame=X.env.frame /\
   bR (ar X.prog X.w) X.A (.compStart (.ListComp elt [⟨tg,iter,ifs,0⟩] scope pos) 0 (.ref it) acc { cenv with scope:=i4 scope X.env }) (RR acc cenv.locals) s₄) E s₃) E s2:=by
 unfold vd at hok;rw[X4]at hok;obtain⟨hn,hN⟩:=hok;have hn':∀y∈scope.names,(y.2=.cell->scope.names.lookup y.1=a5 .cell)/\(y.2=.free->(X.env.cells.lookup y.1).isSome=a8/\(X.env.kindOf y.1=a5 .cell\/X.env.kindOf y.1=a5 .free)):=λy hy=>by have:=Xh.mp hn y hy;simp only[X4,bne_iff_ne,ne_eq,bO,beq_iff_eq]at this;obtain⟨⟨a,_⟩,c⟩:=this;exact⟨λe=>a.elim (λz=>absurd e z) id,λe=>c.elim (λz=>absurd e z) id⟩
 have nocell:∀{y:ag},scope.names.lookup y=a5 .free->(y,bq)∉scope.names:=λ{y} h z=>by have q:=(hn' _ z).1 rfl;rw[h]at q;cases q
 have hloc:∀(j:Nat)(y:ag),X.N[j]?=a5 y->j∉cs->scope.names.lookup y≠a5 .local/\scope.names.lookup y≠a5 .cell:=λj y hj hc=>by
  have hlt:j<X.N.length:=(Xb.mp hj).1;have:=Xh.mp hN j (Xz.mpr hlt);rw[hj]at this;simp only[bO,X4,bne_iff_ne,ne_eq]at this;rcases this with z|z
  .exact absurd (by simpa using z) hc
  .exact z
 have cl_of:∀{y:ag}{c:af},(qy X.env scope.names []).lookup y=a5 c->X.env.cells.lookup y=a5 c:=λ{y c} h=>Wx (λ_ _ z=>by cases z) h;refine bW (Ms ?_);dsimp only;generalize hH2:s2.heap.push { cls:=.type "list",dict:=a7,data:=.seq ([]:List a9).toArray }=hp2;have keep1:∀b o,hp2.get? b=a5 o->(fP (hp2.push { cls:=.type "dict",data:=.dict #[] }) scope.names).get? b=a5 o:=λb o e=>ja _ _ b o (xq _ e);have hns₁:(fP (hp2.push { cls:=.type "dict",data:=.dict #[] }) scope.names).Ns hp2.objs.size (λ_=>a7):=(Heap.Ns.new hp2 (.type "dict")).keeps (ja _ _);have okl:=cellsFrom_ok scope.names (hp2.push { cls:=.type "dict",data:=.dict #[] }) (hp2.objs.size+1) [] ⟨λ_ _ hm=>(nomatch hm),List.Pairwise.nil⟩ (by rw[bQ];exact xx _);rw[bQ]at okl;generalize fP (hp2.push { cls:=.type "dict",data:=.dict #[] }) scope.names=h₁ at keep1 hns₁ okl ⊢;have hC:hp2.objs.size=s2.heap.objs.size+1:=by rw[<-hH2,bQ]
 have hDC:s2.heap.objs.size≠hp2.objs.size:=by rw[hC];exact X6 (dW _)
 have hCle:s2.heap.objs.size<=hp2.objs.size:=by rw[hC];exact Xq _
 have below:∀b,b<s2.heap.objs.size->b≠hp2.objs.size/\b≠s2.heap.objs.size:=λb hb=>⟨by rw[hC];exact X6 (cJ hb),X6 hb⟩
 have old:∀b o,s2.heap.get? b=a5 o->h₁.get? b=a5 o:=λb o e=>keep1 b o (hH2▸xq _ e);have hacc:h₁.get? s2.heap.objs.size=a5 { cls:=.type "list",dict:=a7,data:=.seq ([]:List a9).toArray }:=keep1 _ _ (hH2▸Xc _ rfl);have none_of:∀b,s2.heap.objs.size<=b->s2.heap.get? b=a7:=λb hb=>by
  cases e:s2.heap.get? b with
  |none=>rfl
  |some o'=>exact absurd (xg e) (Nat.not_lt.mpr hb)
 have hD0:H2 s2.heap.objs.size=a7:=I2.fresh;generalize hDd:s2.heap.objs.size=Dd at *;generalize hCc:hp2.objs.size=C at *;have hC0:H2 C=a7:=I2.hok.fresh (by rw[hDd];exact hCle);have pinlt:∀p∈X.pn++pins,p.1<Dd:=λp hp=>by rw[<-hDd];exact xg (I2.pin p hp).1
 have celllt:∀y c,X.env.cells.lookup y=a5 c->c<Dd:=λy c h=>by obtain⟨v,o,e,_⟩:=I2.cell y c h;rw[<-hDd];exact xg e
 have loclt:X.env.locals<Dd:=by rw[<-hDd];exact I2.lt
 have fplt:∀b∈fp,b<Dd:=λb hb=>by obtain⟨o,e,_⟩:=T.obj _ _ st2 b hb;rw[<-hDd];exact xg e
 have hDlt:Dd<C:=by omega
 have cellD:∀{y:ag}{c:af},(aK (C+1) scope.names (qy X.env scope.names [])).lookup y=a5 c->((y,c)∈aK (C+1) scope.names []/\C+1<=c)\/X.env.cells.lookup y=a5 c:=λ{y c} h=>by
  rcases Wy h with ⟨q,_,z⟩|⟨_,q⟩
  .exact .inl ⟨q,z⟩
  .exact .inr (cl_of q)
 have celln:∀{y:ag}{c b:af},(aK (C+1) scope.names (qy X.env scope.names [])).lookup y=a5 c->b<Dd->(∀c,X.env.cells.lookup y=a5 c->c≠b)->c≠b:=λ{y c b} h hb ho=>by
  rcases cellD h with ⟨_,z⟩|q
  .exact d6 (Xp hb (Xp hDlt (Pz z)))
  .exact ho c q
 have okc:(cCx X scope C s2 H2 fp (X.pn++pins)).Ok:={
  mod:=I2.ok.mod
  kind:=hkind
  glob:=I2.ok.glob
  blt:=I2.ok.blt
  above:=by show s2.heap.objs.size<=C;rw[hDd];exact hCle
  inj:=λx y c h1 h2=>by
   rcases cellD h1 with ⟨m1,z1⟩|q1<;>rcases cellD h2 with ⟨m2,z2⟩|q2
   .exact name_of_addr okl.apart m1 m2
   .exact absurd (Xp (celllt y c q2) (Xp hDlt (Pz z1))) (Xl _)
   .exact absurd (Xp (celllt x c q1) (Xp hDlt (Pz z2))) (Xl _)
   .exact I2.ok.inj x y c q1 q2
  has:=λx h=>by
   have key:∀k',(i4 scope X.env).names.lookup x=a5 k'->(k'=.cell\/k'=.free)->∃c,(aK (C+1) scope.names (qy X.env scope.names [])).lookup x=a5 c:=λk' hk hk'=>by
    obtain⟨k,hl,e⟩:=zy hk
    have hm:=lookup_mem hl
    have hk0:k=.free\/k=.cell:=by
     rcases e with e|e
     .subst e
      exact hk'.symm
     .exact .inl e.1
    rcases hk0 with hk0|hk0
    .subst hk0
     exact j55 (Zw ((hn' _ hm).2 rfl).1 hm)
    .subst hk0
     exact Xf.mp (W.cellsFrom_some _ _ _ (.inl hl))
   rcases h with h|h
   .exact key _ h (.inl rfl)
   .exact key _ h (.inr rfl)
  cab:=λx c h h2=>by
   have hx:scope.names.lookup x=a5 .cell:=by simpa using h
   show s2.heap.objs.size<=c
   rw[hDd]
   rcases Wy h2 with ⟨_,_,z⟩|⟨z,_⟩
   .exact d7 (Xp hDlt (Pz z))
   .obtain⟨c',hc'⟩:=Xf.mp (W.cellsFrom_some scope.names (C+1) [] (.inl hx))
    rw[z]at hc';cases hc'
  hd:=I2.ok.hd
  frames:=I2.ok.frames
  stk:=.inl rfl
  exf:=λb hb=>⟨X6 (Xp (fplt b hb) hDlt),λx c h=>celln h (fplt b hb) λc q=>(f2 b hb).2.2.2.2.1 x c q⟩
  bs:=I2.bs
  bsz:=Xd I2.ok.bsz I2.sz
  noex:=λb o e hb=>by
   rcases(f2 b hb).2.2.2.1 with z|z
   .exact I2.ok.noex b o e z
   .exact absurd (xg e) (Nat.not_lt.mpr (Xd I2.ok.bsz z))
  exfs:=λb hb hf=>by
   rcases xf.mp (I2.stkSub b hf)with z|z
   .exact(f2 b hb).2.1 z
   .exact(f2 b hb).2.2.1 z
  funs:=I2.stack
  frf:=I2.stkFree }
 have hpush:HOk X.prog X.w (upd H2 Dd (.lst [])) h₁:=HOk.laid I2.hok old (by rw[hDd];exact xx _) ⟨cI _,[],_,.nil,hacc⟩;have I0:Inv (cCx X scope C s2 H2 fp (X.pn++pins)) [] (mask cs σ) (upd H2 Dd (.lst [])) { s2 with heap:=h₁ }:={
  ok:=okc
  os:=rfl
  bare:=I2.bare
  base:=Un.laid old (by rw[hDd];exact xx _) hD0
  loc:=by
   refine⟨_,hns₁,λj y v hj hv hvis=>?_⟩
   obtain⟨hjc,hσ⟩:=j0n hv
   obtain⟨m,hm,hlook⟩:=I2.loc
   have key:∀k',(i4 scope X.env).names.lookup y=a5 k'->scope.names.lookup y=a5 .free:=λk' hk=>by
    obtain⟨k,hl,e⟩:=zy hk
    have hmm:=lookup_mem hl
    have:k=.free:=by
     rcases e with e|e
     .subst e
      rcases hvis with z|z|z
      .have z:=hk.symm.trans z;cases z;exact absurd hl (hloc j y hj hjc).1
      .have z:=hk.symm.trans z;cases z;exact absurd hl (hloc j y hj hjc).2
      .have z:=hk.symm.trans z;cases z;rfl
     .exact e.1
    rw[hl,this]
   have hfree:scope.names.lookup y=a5 .free:=by rcases hvis with z|z|z<;>exact key _ z
   have hmm:=lookup_mem hfree
   obtain⟨hs,hk⟩:=(hn' _ hmm).2 rfl
   have hvis':Vis X.env.scope y:=by rcases hk with z|z;exact .inr (.inl z);exact .inr (.inr z)
   obtain⟨u,ru,look⟩:=hlook j y v hj hσ hvis'
   refine⟨u,ru,?_⟩
   rcases look with ⟨z,_⟩|⟨_,c,hcl,hcv⟩
   .rcases hk with y'|y'<;>rw[y']at z<;>cases z
   .refine .inr ⟨?_,c,?_,?_⟩
    .rcases hvis with z|z|z
     .exfalso
      obtain⟨k,hl,e⟩:=zy z
      rw[hfree]at hl;cases hl
      rcases e with e|e
      .cases e
      .cases e.2
     .exact .inl z
     .exact .inr z
    .obtain⟨c',hc'⟩:=Xf.mp (Zw (acc:=[]) hs hmm)
     have:=cl_of hc'
     rw[hcl]at this;cases this
     exact(j8p (nocell hfree)).trans hc'
    .obtain⟨o,e,d⟩:=hcv
     exact⟨o,old _ _ e,d⟩
  cell:=λx c h=>by
   rcases cellD h with ⟨q,_⟩|q
   .exact⟨_,(okl.empty x c q).1⟩
   .obtain⟨v,o,e,d⟩:=I2.cell x c q
    exact⟨v,o,old _ _ e,d⟩
  free:=by show upd H2 Dd (.lst []) C=a7;rw[jf (d6 hDlt)];exact hC0
  freeC:=λx c h=>by
   rcases cellD h with ⟨_,z⟩|q
   .rw[jf (d6 (Xp hDlt (Pz z)))];exact I2.hok.fresh (by rw[hDd];exact d7 (Xp hDlt (Pz z)))
   .rw[jf (X6 (celllt x c q))];exact I2.freeC x c q
  pin:=λp hp=>by
   rw[Xn]at hp
   obtain⟨h1,h2,h3,h4,h5⟩:=I2.pin p hp
   have hlt:=pinlt p hp
   refine⟨old _ _ h1,by rw[jf (X6 hlt)];exact h2,X6 (Xp hlt hDlt),λz=>?_,h5⟩
   rcases xf.mp (I2.stkSub _ z)with y|y
   .exact h3 y
   .exact h4 y
  hok:=hpush
  len:=by rw[Y9];exact I2.len }
 have go:=hk C Dd h₁ okc I0 rfl hDlt hD0 old;exact⟨rfl,codeAny_compStart_list go (T.self _ 0 _ _ _ (T.keep _ _ _ st2 (λb _ o e=>old b o e)) go)⟩
theorem Wv{J:It}{fp:List af}{it:af}{tn:Nat->aD->Prop}(I2:Inv X pins σ H2 s2)(R2:Rep X.K ρ σ H2)(T:Turn X.prog X.w X.K tg J fp it tn)(st2:tn 0 s2.heap)(f2:∀b∈fp,V5 X pins H2 b)
  (ok:Vo X.K (del H2 (owns ρ)) J ds) (hc:X.calm=a8) (hkind:scope.kind=.function) (hok:vd scope X.env X.N cs=a8) (hcs:∀j∈cs,ρ[j]?=a5 .un) (hsz:ds.length<=ai)
  (hb:∀C s H fp pn,∀d∈ds,∃ρ2,DG (cCx X scope C s H fp pn) ρ tg d ρ2/\Wk ρ2 ρ/\owns ρ2=owns ρ/\DTs (cCx X scope C s H fp pn) ρ2 ifs (p d)/\(p d=a8->DE (cCx X scope C s H fp pn) ρ2 elt (g d)))
  {E:k4o} {RR:a9->af->dC->ae->Prop}
  (hRR:∀D C xs H' s' m,Inv X pins σ H' s'->j4 H2 H'->H2 D=a7->H' D=a5 (.lst xs)->j5 X.K (del H' (D::owns ρ)) ((ds.filter p).map g) xs->s'.heap.Ns C m->Loose X pins H' C->RR (.ref D) C (.ok .next) s') :
  aw (ar X.prog X.w) X.A (newList []) (λacc s₃=>aw (ar X.prog X.w) X.A (dz scope X.env.globals (qy X.env scope.names []) [] X.env.qual a7 .none (a5 X.env)) (λcenv s₄ =>
   bR (ar X.prog X.w) X.A (.compStart (.ListComp elt [⟨tg,iter,ifs,0⟩] scope pos) 0 (.ref it) acc { cenv with scope:=i4 scope X.env }) (RR acc cenv.locals) s₄) E s₃) E s2:=by
 refine thn (j1m (RR:=RR) I2 T st2 f2 hkind hok λC Dd h₁ okc I0 hDd hDlt hD0 old=>?_) λacc s₃ h=>thn h λcenv s₄ h=>h.2;have hDlt:@LT.lt Nat _ Dd C:=hDlt;have pinlt:∀p∈X.pn++pins,p.1<Dd:=λp hp=>by rw[<-hDd];exact xg (I2.pin p hp).1
 have celllt:∀y c,X.env.cells.lookup y=a5 c->c<Dd:=λy c h=>by obtain⟨v,o,e,_⟩:=I2.cell y c h;rw[<-hDd];exact xg e
 have loclt:X.env.locals<Dd:=by rw[<-hDd];exact I2.lt
 have fplt:∀b∈fp,b<Dd:=λb hb=>by obtain⟨o,e,_⟩:=T.obj _ _ st2 b hb;rw[<-hDd];exact xg e
 have hDo:Dd∉owns ρ:=R2.fresh hD0;have fpok:∀{H':Hp},(∀b∈fp,H' b=a7)->∀b∈fp,V5 (cCx X scope C s2 H2 fp (X.pn++pins)) [] H' b:=λ{H'} hn b hb =>⟨hn b hb,(okc.exf b hb).1,okc.exfs b hb,.inl hb,(okc.exf b hb).2,λp hp=>by rw[Xn]at hp;exact(f2 b hb).2.2.2.2.2 p hp⟩
 have R0:Rep X.K ρ (mask cs σ) H2:=R2.weaken (Y9 _ _) λj hj=>j0m λz=>hj (hcs j z);have e0:del (upd H2 Dd (.lst [])) [Dd]=H2:=by
  rw[Zc (xu.mpr rfl)]
  funext b
  by_cases z:b∈[Dd]
  .rw[qx z,xu.mp z,hD0]
  .exact j8 z
 have loop:∀s₃:ae,s₃={ s2 with heap:=h₁ } ->
   bR (ar X.prog X.w) X.A (.compLoop (.ListComp elt [⟨tg,iter,ifs,0⟩] scope pos) 0 (.ref it) (.ref Dd) (jF scope (aK (C+1) scope.names (qy X.env scope.names [])) C X.env)) (RR (.ref Dd) C) s₃:=by
  rintro s₃ rfl;refine Oh (λn s=>∃i σ' H' ys,Inv (cCx X scope C s2 H2 fp (X.pn++pins)) [] σ' H' s/\tn i s.heap/\(∀b∈fp,H' b=a7)/\i<=ds.length/\n=ds.length-i/\Rep X.K ρ σ' (del H' [Dd])/\j4 H2 (del H' [Dd])/\H' Dd=a5 (.lst ys) /\
   j5 X.K (del H' (Dd::owns ρ)) (((ds.take i).filter p).map g) ys) ?_ ds.length
   ⟨0,mask cs σ,upd H2 Dd (.lst []),[],I0,T.keep _ _ _ st2 (λb _ o e=>old b o e),λb hb=>by rw[jf (X6 (fplt b hb))];exact(f2 b hb).1,cI _,rfl,by rw[e0];exact R0,by rw[e0];exact j4.refl _,jr,rfl⟩
  rintro n s3 ⟨i,σ3,H3,ys,I3,st3,fr3,hle,rfl,R3,g3,m3,en3⟩;have F3:j4 (del H2 (owns ρ)) (del H3 (Dd::owns ρ)):=by
   have:del H3 (Dd::owns ρ)=del (del H3 [Dd]) (owns ρ):=by rw[Jw];rfl
   rw[this];exact je g3
  obtain⟨go,stop,yld⟩:=ok i H3 (Dd::owns ρ) F3 λa ha=>by
   rcases xf.mp ha with e|ha
   .rw[e,m3];simp
   .obtain⟨xs,e⟩:=R3.owned a ha;rw[(of_del e).2];simp
  by_cases hlt:i<ds.length
  .refine thn (T.item (cCx X scope C s2 H2 fp (X.pn++pins)) rfl rfl rfl hc i [] s3 σ3 H3 (λ_ _=>False) I3 (fpok fr3) st3 (go hlt)) λr s4 ⟨u,hr,h4⟩=>?_;subst hr;refine thn h4 λ_ s5 ⟨x,H5,I5,r5,y5,st5,fr5⟩=>?_;obtain⟨g5,en5⟩:=yld x H5 y5;have hd:ds[i]?=a5 ds[i]:=kh hlt;obtain⟨ρ2,⟨sub,hG⟩,wk,eo,hT,hE⟩:=hb C s2 H2 fp (X.pn++pins) ds[i] (bG hlt);have m5:H5 Dd=a5 (.lst ys):=g5 _ _ m3;have hA:∀a∈[Dd],Hd (H5 a):=λa ha=>.inl ⟨ys,by rw[xu.mp ha];exact m5⟩;have I5p:=I5.pinned (fpok fr5) (T.obj _ _ st5);have I5h:=I5p.hide hA;have R5:Rep X.K ρ σ3 (del H5 [Dd]):=R3.grow (je g5);have en5':Enc X.K (del (del H5 [Dd]) (owns ρ)) ds[i] x:=by rw[Jw];exact en5 _ hd
   refine thn (hG σ3 (del H5 [Dd]) x (λσ6 F6=>F6=del H5 [Dd]/\Rep X.K ρ2 σ6 F6) R5 en5' (λσ6 R6=>⟨rfl,R6⟩) _ s5 u I5h r5) λ_ s6 ⟨σ6,F6,I6,e6,R6⟩=>?_;subst e6;refine thn (hT.run I6 R6) λokv s7 ⟨e7,F7,I7,g7⟩=>?_;subst e7;have R7:Rep X.K ρ σ6 F7:=wk _ _ _ (R6.grow g7);have g27:j4 H2 F7:=g3.trans ((je g5).trans g7);have en7:j5 X.K (del F7 (owns ρ)) (((ds.take i).filter p).map g) ys:=en3.mono (by
    have:del H3 (Dd::owns ρ)=del (del H3 [Dd]) (owns ρ):=by rw[Jw];rfl
    rw[this];exact je ((je g5).trans g7))
   have i8:∀{F:Hp}{s':ae},Inv (cCx X scope C s2 H2 fp (X.pn++pins)) ([]++Qk fp s5.heap) σ6 F s'->Inv (cCx X scope C s2 H2 fp (X.pn++pins)) [] σ6 F s'/\tn (i+1) s'.heap/\∀b∈fp,F b=a7:=λ{F s'} I=>by refine⟨I.unpinned,T.keep _ _ _ st5 λb hb o e=>(I.pin (b,o) (X8 _ (X8 _ (Jj hb e)))).1,λb hb=>?_⟩;obtain⟨o,e,d⟩:=T.obj _ _ st5 b hb;exact(I.pin (b,o) (X8 _ (X8 _ (Jj hb e)))).2.1
   have tk:ds.take (i+1)=ds.take i++[ds[i]]:=by rw[gp,hd];rfl
   cases hp:p ds[i] with
   |false =>
    rw[if_neg xr];obtain⟨hF,I8⟩:=I5p.unhide hA I7;obtain⟨I9,st9,fr9⟩:=i8 I8;refine⟨ds.length-(i+1),by omega,i+1,σ6,_,ys,I9,st9,fr9,hlt,rfl,by rw[Ji hF];exact R7,by rw[Ji hF];exact g27,by rw[zx (xu.mpr rfl)];exact m5,?_⟩;have:del (mrg [Dd] H5 F7) (Dd::owns ρ)=del F7 (owns ρ):=by
     have e:del (mrg [Dd] H5 F7) (Dd::owns ρ)=del (del (mrg [Dd] H5 F7) [Dd]) (owns ρ):=by rw[Jw];rfl
     rw[e,Ji hF]
    rw[this,tk,fY];have e:[ds[i]].filter p=[]:=by simp[hp]
    rw[e,Xn];exact en7
   |true =>
    rw[if_pos rfl];refine thn (hE hp σ6 F7 (λv F8=>j4 F7 F8/\Enc X.K (del F8 (owns ρ2)) (g ds[i]) v) (R6.grow g7) (λv F8 g8 e8=>⟨g8,e8⟩) _ s7 I7) λy s8 ⟨v,F8,I8,r8,g8,e8⟩=>?_;obtain⟨hF,I8'⟩:=I5p.unhide hA I8;rw[eo]at e8;have eH:del (mrg [Dd] H5 F8) (Dd::owns ρ)=del F8 (owns ρ):=by
     have e:del (mrg [Dd] H5 F8) (Dd::owns ρ)=del (del (mrg [Dd] H5 F8) [Dd]) (owns ρ):=by rw[Jw];rfl
     rw[e,Ji hF]
    have hlen:ys.length<ai:=by have e1:=en7.length;have e2:((ds.take i).filter p).length<=(ds.take i).length:=List.length_filter_le _ _;rw[xn]at e1;rw[Xy]at e2;omega
    refine thn (Wl _ s8 σ6 (mrg [Dd] H5 F8) (.ref Dd) [v] (.ref Dd) [y] (λ_ H9=>H9=upd (mrg [Dd] H5 F8) Dd (.lst (ys++[v]))) I8' rfl (.cons r8 .nil)
     ⟨Dd,ys,v,rfl,rfl,by rw[zx (xu.mpr rfl)];exact m5,hlen,rfl⟩) λ_ s9 ⟨_,H9,I9,_,e9⟩=>?_
    subst e9;obtain⟨I10,st10,fr10⟩:=i8 I9;have ed:del (upd (mrg [Dd] H5 F8) Dd (.lst (ys++[v]))) [Dd]=F8:=by rw[Zc (xu.mpr rfl),Ji hF]
    refine⟨ds.length-(i+1),by omega,i+1,σ6,_,ys++[v],I10,st10,fr10,hlt,rfl,by rw[ed];exact R7.grow g8,by rw[ed];exact g27.trans g8,jr,?_⟩;rw[Zc (xj ..),eH,tk,fY,Pk];have e:[ds[i]].filter p=[ds[i]]:=by simp[hp]
    rw[e];exact(en7.mono (je g8)).append (.one e8)
  .have hi:i=ds.length:=by omega
   subst hi;refine thn (T.done (cCx X scope C s2 H2 fp (X.pn++pins)) rfl rfl rfl hc ds.length [] s3 σ3 H3 (λ_ _=>False) I3 (fpok fr3) st3 (stop (xx _))) λr s4 ⟨hr,I4⟩=>?_;subst hr;rw[dQ]at en3;obtain⟨m,hm,_⟩:=I4.loc;refine hRR Dd C ys H3 s4 m ?_ (g3.trans jw) hD0 m3 en3 hm ⟨I4.free,d6 (Xp loclt hDlt),?_,λx c h=>X6 (Xp (celllt x c h) hDlt),λp hp=>X6 (Xp (pinlt p hp) hDlt)⟩
   .exact I2.call' (ch:=fp) I4.os I4.base I4.hok I4.bare λb hb=>⟨(f2 b hb).2.2.2.1,(f2 b hb).2.1,(f2 b hb).2.2.2.2.1,(f2 b hb).2.2.2.2.2⟩
   .have:=I2.sz;omega
 exact loop _ rfl
end
section
variable{X:Cx}{ρ:Rho}{tg elt iter:ah}{ifs:List ah}{scope:bg}{pos p1 spos:aN}{ds:List D}{cs:List Nat}{p:D->Bool}{g:D->D}{x:ag}{P:Po}
theorem Yd{env:c8}{N:List ag}(h:vd scope env N cs=a8):∀y∈scope.names,y.2=.free->(env.cells.lookup y.1).isSome=a8:=λy hy e=>by unfold vd at h;rw[X4]at h;have:=Xh.mp h.1 y hy;simp only[X4,bne_iff_ne,ne_eq,bO]at this;exact this.2.elim (λz=>absurd e z) λz=>z.1
theorem Vj{env:c8}{N:List ag}(h:vd scope env N cs=a8):∀y∈scope.names,y.2=.local->scope.names.lookup y.1=a5 .local:=λy hy e=>by unfold vd at h;rw[X4]at h;have:=Xh.mp h.1 y hy;simp only[X4,bne_iff_ne,ne_eq,bO,beq_iff_eq]at this;exact this.1.2.elim (λz=>absurd e z) λz=>z
theorem Inv.loose{pins:k4p}{σ:St}{H:Hp}{s:ae}{C:af}{h':aD}(I:Inv X pins σ H s)(L:Loose X pins H C)(sb:fe C s.heap h'):Inv X pins σ H { s with heap:=h' } :=
 I.turned (t':=s.toks) (λb o hb e=>sb.extBut b o hb e) L.free L.loc (.inr L.new) L.cell L.pin
theorem DO.comp(cs:List Nat)(p:D->Bool)(g:D->D)(hi:DI X ρ tg iter ds)
  (hb:∀C s H fp pn,∀d∈ds,∃ρ2,DG (cCx X scope C s H fp pn) ρ tg d ρ2/\Wk ρ2 ρ/\owns ρ2=owns ρ/\DTs (cCx X scope C s H fp pn) ρ2 ifs (p d)/\(p d=a8->DE (cCx X scope C s H fp pn) ρ2 elt (g d)))
  (hcs:∀j∈cs,ρ[j]?=a5 .un) (hsz:ds.length<=ai) (hc:X.calm=a8:=by rfl) (hkind:scope.kind=.function:=by rfl) (hok:vd scope X.env X.N cs=a8:=by rfl)
  (hs:∀x,aQ iter X.env x=pure x:=by intro _;rfl):DO X ρ (.ListComp elt [⟨tg,iter,ifs,0⟩] scope pos) ((ds.filter p).map g):=λσ H Q R q pins s I=>by
 rw[eval_ListComp];refine fF (use:=a7) rfl hs (Um (Yd hok)) hkind (Vj hok) (thn (hi σ H (λJ H'=>j4 H H'/\Vo X.K (del H' (owns ρ)) J ds) R (λJ H' g1 ok=>⟨g1,ok⟩) pins s I) λv s1 h1=>thn h1 λitv s2 h2=>?_);obtain⟨it,fp,tn,J,H2,e,I2,T,st2,f2,g2,ok⟩:=h2;subst e;refine Wv (RR:=λacc C=>compPost (ar X.prog X.w) X.A X.xe a7 (EP X pins σ Q) acc C) I2 (R.grow g2) T st2 f2 ok hc hkind hok hcs hsz hb ?_;intro D C xs H' s' m I' gg n m' en hm L;exact⟨m,hm,λh' sb=>⟨.ref D,H',I'.loose L sb,rfl,q D xs H' (g2.trans gg) (g2.free n) m' en⟩⟩
theorem Wk.set{i:Nat}{d:D}(h:ρ[i]?=a5 .un):Wk (ρ.set i (.val d)) ρ:=λK σ H R=>by
 have q:=R.set_un (i:=i) (v:=(σ[i]?).join);have e:σ.set i ((σ[i]?).join)=σ:=by
  apply cE;intro j;rw[cD];split
  .rename_i h;subst h;split
   .rename_i h;rw[kh h];rfl
   .rename_i h;rw[Xu nofun]
  .rfl
 have e2:(ρ.set i (.val d)).set i .un=ρ:=by
  rw[List.set_set];apply cE;intro j;rw[cD];split
  .rename_i z;subst z;split
   .rw[h]
   .rename_i z;rw[Xu nofun]at h;cases h
  .rfl
 rw[e,e2]at q;exact q
theorem Y7{i:Nat}{d:D}(h:ρ[i]?=a5 .un):owns (ρ.set i (.val d))=owns ρ:=Y8 rfl λa l z=>by rw[h]at z;cases z
end
section
variable{prog:ak}{w:ax}{A:az}{E:k4o}{s:ae}
end
def Zg(lst:Bool)(h:aD)(t:af)(its:Array a9):Prop:=if lst=a8 then h.IsList t its else h.IsTuple t its
section
variable{prog:ak}{w:ax}{A:az}{E:k4o}{s:ae}{lst:Bool}{h h':aD}{j t b:af}{k:Nat}{its:Array a9}
end
section
variable{prog:ak}{w:ax}{A:az}{E:k4o}{s:ae}{l1 l2:Bool}{z TI TO i1 i2 t1 t2:af}{k:Nat}{us vs:Array a9}{x y a b:a9}
end
section
variable{prog:ak}{w:ax}{A:az}{E:k4o}{s:ae}{l1 l2:Bool}{t1 t2:af}{us vs:Array a9}
end
def SqB(K:k4n)(lst:Bool)(H:Hp)(a:af)(xs:List V):Prop:=if lst=a8 then SqL K H a xs else SqT K H a xs
section
variable{X:Cx}{pins:k4p}{σ:St}{H:Hp}{s:ae}{a p:af}{xs ys:List V}{lst:Bool}{ch:List af}{h':aD}
theorem j4.seqB{K:k4n}{H':Hp}(e:j4 H H')(h:SqB K lst H a xs):SqB K lst H' a xs:=by
 unfold SqB at h ⊢;cases lst with
 |true=>rw[if_pos rfl]at h ⊢;exact e.seq h
 |false=>rw[if_neg xr]at h ⊢;exact e.seqT h
theorem Inv.side(I:Inv X pins σ H s)(h:SqB X.K lst H a xs):∃us:List a9,Vals xs us/\Zg lst s.heap a us.toArray/\xs.length<=ai:=by
 unfold SqB at h;unfold Zg;cases lst with
 |true=>rw[if_pos rfl]at h;obtain⟨its,r,q,l⟩:=I.list h;exact⟨its,r,by rw[if_pos rfl];exact q.isList,l⟩
 |false=>rw[if_neg xr]at h;obtain⟨its,r,q,l⟩:=I.tuple h;exact⟨its,r,by rw[if_neg xr];exact q,l⟩
end
section
variable{X:Cx}{ρ:Rho}{a b:ah}{es:List ah}{n:Nat}{pos p q1 q2:aN}{ds ds':List D}{l1 l2:Bool}
noncomputable def D.seq(lst:Bool)(ds:List D):D:=if lst=a8 then .lst ds else .tup ds
theorem Qf{K:k4n}{H:Hp}{lst:Bool}{v:V}(h:Enc K H (D.seq lst ds) v):∃t xs,v=.ref t/\SqB K lst H t xs/\j5 K H ds xs:=by
 unfold D.seq at h;unfold SqB;cases lst with
 |true=>rw[if_pos rfl]at h;obtain⟨t,xs,e,s,l⟩:=h;exact⟨t,xs,e,by rw[if_pos rfl];exact s,l⟩
 |false=>rw[if_neg xr]at h;obtain⟨t,xs,e,s,l⟩:=h;exact⟨t,xs,e,by rw[if_neg xr];exact s,l⟩
end
noncomputable def D.ty:D->String
 |.non=>"NoneType"
 |.bl _=>"bool"
 |.int _=>"int"
 |.str _=>"str"
 |.tup _=>"tuple"
 |.lst _=>"list"
 |.dct _ _=>"dict"
 |.sct _=>"dict"
 |.fn _ _=>"function"
section
variable{X:Cx}{pins:k4p}{σ:St}{H:Hp}{s:ae}{A:az}{E:k4o}{Q:k4o}{c:a9}{b:Bool}
theorem Ka {d:D} {v:V} {u:a9} (I:Inv X pins σ H s) (en:Enc X.K H d v) (r:RelV v u) (nf:d.ty ≠ "function"):∃P:aD->Prop,gD X.K u (.type d.ty) P/\P s.heap/\u≠.builtin "__main__.__loader__#opaque":=by
 cases d with
 |non=>cases(show v=.non from en);cases(show u=aI from r);exact⟨_,W.kitx_none,trivial,λz=>nomatch z⟩
 |bl k=>cases(show v=.bl k from en);cases(show u=bD k from r);exact⟨_,W.kitx_bool,trivial,λz=>nomatch z⟩
 |int k=>cases(show v=.int k from en);obtain⟨t,q⟩:=(show ∃t,u=bh k t from r);cases q;exact⟨_,W.kitx_int,trivial,λz=>nomatch z⟩
 |str k=>cases(show v=.str k from en);obtain⟨t,q⟩:=(show ∃t,u=bp k t from r);cases q;exact⟨_,W.kitx_str,trivial,λz=>nomatch z⟩
 |tup l =>obtain⟨a,xs,e,sq,_⟩:=en;subst e;cases(show u=aF a from r);obtain⟨its,_,⟨o,h1,h2,_⟩,_⟩:=I.tuple sq;exact⟨_,W.kitx_tuple,⟨o,h1,h2⟩,λz=>nomatch z⟩
 |lst l =>obtain⟨a,xs,e,sq,_⟩:=en;subst e;cases(show u=aF a from r);obtain⟨its,_,⟨o,n,h1,h2,_⟩,_⟩:=I.list sq;exact⟨_,W.kitx_list,⟨o,h1,h2⟩,λz=>nomatch z⟩
 |dct ks l =>
  obtain⟨a,xs,ep,vs,e,hx,_⟩:=en;subst e;cases(show u=aF a from r);obtain⟨_,_,_,o,es,h1,h2,_⟩:=(show ji X.prog X.w H s.heap a (.dI xs ep)from I.hok _ _ hx)
  exact⟨_,W.kitx_dict,⟨o,h1,h2.1⟩,λz=>nomatch z⟩
 |sct k =>
  obtain⟨a,e,hx⟩:=en;subst e;cases(show u=aF a from r);obtain⟨_,_,vs,_,o,es,ep,h1,h2,_⟩:=(show ji X.prog X.w H s.heap a (.dK (kvI k))from I.hok _ _ hx)
  exact⟨_,W.kitx_dict,⟨o,h1,h2.1⟩,λz=>nomatch z⟩
 |fn x l=>exact absurd rfl nf
theorem Ea:zm X (.builtin "isinstance") (λxs H Q=>∃v d c b,xs=[v,.ty c]/\Enc X.K H d v/\d.ty ≠ "function"/\W.kitOne X.K (.type d.ty) (.type c)=a5 b/\Q (.bl b) H):=by rintro pins s σ H xs us Q I r ⟨v,d,c,b,e,en,nf,k,q⟩;subst e;obtain⟨u,u',eu,r1,r2⟩:=vals2 r;subst eu;cases(show u'=bb c from r2);obtain⟨P,Z,hp,hn⟩:=Ka I en r1 nf;exact W.kia_one Z I.kIn hp k hn λtk=>⟨.bl b,H,I.tok tk,rfl,q⟩
theorem Iz:zm X (.builtin "isinstance") (λxs H Q=>∃(v:V)(t:af)(d:D)(cs:List String)(b:Bool),xs=[v,.ref t]/\Enc X.K H d v/\d.ty ≠ "function"/\SqT X.K H t (cs.map V.ty)/\W.kitAny X.K (.type d.ty) (cs.map bb)=a5 b/\Q (.bl b) H):=by
 rintro pins s σ H xs us Q I r ⟨v,t,d,cs,b,e,en,nf,sq,k,q⟩;subst e;obtain⟨u,u',eu,r1,r2⟩:=vals2 r;subst eu;cases(show u'=aF t from r2);obtain⟨P,Z,hp,hn⟩:=Ka I en r1 nf;obtain⟨its,rv,⟨⟨cl,dd,da,sl⟩,h1,h2,n,h3⟩,_⟩:=I.tuple sq;have h2:cl=.type "tuple":=h2;have h3:da=.seq its.toArray n:=h3;subst h2 h3;have ei:∀{cs:List String}{its:List a9},Vals (cs.map V.ty) its->its=cs.map bb:=λ{cs}=>by
  induction cs with
  |nil=>intro its h;exact h.zero
  |cons c cs ih=>intro its h;cases h with|cons a b=>cases a;rw[ih b];rfl
 rw[ei rv]at h1;exact W.kia_tup Z I.kIn hp h1 k hn λtk=>⟨.bl b,H,I.tok tk,rfl,q⟩
end
section
variable{X:Cx}{ρ:Rho}{a b:ah}{d:D}{pos p p1 p2 p3:aN}{T T1 T2:ag}{c c1 c2:String}{k:Bool}{n:Nat}
theorem Rp (hg:Gl X T) (hm:X.mg T=a7) (hv:aU T=a5 (.type c)) (hn:T ≠ "__name__":=by decide) (hd:(T==k4r)=a6:=by decide):PE X (.Name T p) (tC (.ty c)):=j3z hg hm hv rfl hn hd
theorem DE.isi1 (ha:DT X ρ a d) (nf:d.ty ≠ "function") (hm:X.mg "isinstance" = a7) (hT:X.mg T=a7) (hv:aU T=a5 (.type c)) (hk:W.kitOne X.K (.type d.ty) (.type c)=a5 k) (hg:Gl X "isinstance":=by rfl) (hg2:Gl X T:=by rfl)
  (hn:T ≠ "__name__":=by decide) (hd:(T==k4r)=a6:=by decide)
  (hs:aa [a,.Name T p2] X.env=(a6,aG a X.env)::aa [.Name T p2] X.env:=by rfl) (hs2:aa [.Name T p2] X.env=(a6,aG (.Name T p2) X.env)::aa [] X.env:=by rfl) (hpl:(aS pos (aa [.Name T p2] X.env)).any (·.1)=a6:=by rfl) :
  DE X ρ (.Call (.Name "isinstance" p) [a,.Name T p2] [] pos) (.bl k):=λσ H Q R q =>
 (qt Ea hg hm cy (j9 peS (j9 (Rp hg2 hT hv hn hd) jn hs2) hs) (by decide) (by decide) hs hpl).to (ha σ H _ R λv H1 g1 e1=>⟨v,d,c,k,rfl,e1,nf,hk,q _ H1 g1 rfl⟩)
theorem DE.isi2 {m:Nat} (ha:DT X ρ a d) (nf:d.ty ≠ "function") (hm:X.mg "isinstance" = a7) (hT1:X.mg T1=a7) (hT2:X.mg T2=a7) (hv1:aU T1=a5 (.type c1)) (hv2:aU T2=a5 (.type c2))
  (hk:W.kitAny X.K (.type d.ty) [.type c1,.type c2]=a5 k) (hg:Gl X "isinstance":=by rfl) (hg1:Gl X T1:=by rfl) (hg2:Gl X T2:=by rfl)
  (hn1:T1 ≠ "__name__":=by decide) (hd1:(T1==k4r)=a6:=by decide) (hn2:T2 ≠ "__name__":=by decide) (hd2:(T2==k4r)=a6:=by decide)
  (hs:aa [a,.Tuple [.Name T1 p1,.Name T2 p2] m p3] X.env=(a6,aG a X.env)::aa [.Tuple [.Name T1 p1,.Name T2 p2] m p3] X.env:=by rfl)
  (hs2:aa [.Tuple [.Name T1 p1,.Name T2 p2] m p3] X.env=(a6,aG (.Tuple [.Name T1 p1,.Name T2 p2] m p3) X.env)::aa [] X.env:=by rfl) (hpl:(aS pos (aa [.Tuple [.Name T1 p1,.Name T2 p2] m p3] X.env)).any (·.1)=a6:=by rfl)
  (hs3:aa [.Name T1 p1,.Name T2 p2] X.env=(a6,aG (.Name T1 p1) X.env)::aa [.Name T2 p2] X.env:=by rfl) (hs4:aa [.Name T2 p2] X.env=(a6,aG (.Name T2 p2) X.env)::aa [] X.env:=by rfl) :
  DE X ρ (.Call (.Name "isinstance" p) [a,.Tuple [.Name T1 p1,.Name T2 p2] m p3] [] pos) (.bl k):=λσ H Q R q =>
 (qt Iz hg hm cy (j9 peS (j9 (Mm (j9 (Rp hg1 hT1 hv1 hn1 hd1) (j9 (Rp hg2 hT2 hv2 hn2 hd2) jn hs4) hs3)) jn hs2) hs) (by decide) (by decide) hs hpl).to
  (ha σ H _ R λv H1 g1 e1=>⟨by show 2<=ai;decide,λt ht=>⟨v,t,d,[c1,c2],k,rfl,e1.mono (j6 ht),nf,.inl (.inl jr),hk,q _ _ (g1.trans (j6 ht)) rfl⟩⟩)
end
mutual
noncomputable def deq:D->D->Bool
 |.non,.non=>a8
 |.bl a,.bl b=>a==b
 |.bl a,.int b=>(if a then 1 else 0)==b
 |.int a,.bl b=>a==(if b then 1 else 0)
 |.int a,.int b=>a==b
 |.str a,.str b=>a==b
 |.tup xs,.tup ys=>z9 xs ys
 |.lst xs,.lst ys=>z9 xs ys
 |.dct k xs,.dct m ys=>decide (k=m)&&z9 xs ys
 |.sct k,.sct m=>decide (k=m)
 |_,_=>a6
noncomputable def z9:List D->List D->Bool
 |[],[]=>a8
 |x::xs,y::ys=>deq x y&&z9 xs ys
 |_,_=>a6
end
theorem j8k{a b:Bool}:deq (.bl a) (.bl b)=(a==b):=(rfl)
theorem j8j{a b:Int}:deq (.int a) (.int b)=(a==b):=(rfl)
theorem Ku{a b:ag}:deq (.str a) (.str b)=(a==b):=(rfl)
theorem Oc{a b:List D}:deq (.tup a) (.tup b)=z9 a b:=(rfl)
theorem Od{a b:List D}:deq (.lst a) (.lst b)=z9 a b:=(rfl)
theorem Qm:z9 [] []=a8:=(rfl)
theorem Jh{x y:D}{xs ys:List D}:z9 (x::xs) (y::ys)=(deq x y&&z9 xs ys):=(rfl)
theorem Vx{y:D}{ys:List D}:z9 [] (y::ys)=a6:=(rfl)
theorem Vy{x:D}{xs:List D}:z9 (x::xs) []=a6:=(rfl)
mutual
noncomputable def D.dep:D->Nat
 |.tup xs=>D.depL xs+1
 |.lst xs=>D.depL xs+1
 |.dct _ _=>20000
 |.sct _=>20000
 |.fn _ _=>20000
 |_=>0
noncomputable def D.depL:List D->Nat
 |[]=>0
 |x::xs=>max x.dep (D.depL xs)
end
mutual
theorem Yv:∀d:D,d.dep<10000->deq d d=a8
 |.non,_=>rfl
 |.bl b,_=>by rw[j8k];simp
 |.int i,_=>by rw[j8j];simp
 |.str x,_=>by rw[Ku];simp
 |.tup xs,h=>by rw[Oc];exact Z3 xs (by simp only[D.dep]at h;omega)
 |.lst xs,h=>by rw[Od];exact Z3 xs (by simp only[D.dep]at h;omega)
 |.dct _ _,h=>by simp[D.dep]at h
 |.sct _,h=>by simp[D.dep]at h
 |.fn _ _,h=>by simp[D.dep]at h
theorem Z3:∀ds:List D,D.depL ds<10000->z9 ds ds=a8
 |[],_=>rfl
 |d::ds,h=>by rw[D.depL]at h;rw[Jh,Yv d nofun,Z3 ds nofun];rfl
end
theorem Qn:∀{xs ys:List D},xs.length≠ys.length->z9 xs ys=a6
 |[],[],h=>absurd rfl h
 |[],_::_,_=>by simp[Qm,Jh,Vx,Vy]
 |_::_,[],_=>by simp[Qm,Jh,Vx,Vy]
 |x::xs,y::ys,h=>by have:=Qn (xs:=xs) (ys:=ys) (by simpa using h);simp[Qm,Jh,Vx,Vy,this]
theorem Jm{f:Nat->Bool}:∀{xs ys:List D},xs.length=ys.length->(∀(j:Nat) x y,xs[j]?=a5 x->ys[j]?=a5 y->f j=deq x y)->(aE xs.length).all f=z9 xs ys
 |[],[],_,_=>by simp[Qm,Jh,Vx,Vy]
 |[],_::_,h,_=>by simp at h
 |_::_,[],h,_=>by simp at h
 |x::xs,y::ys,h,hf=>by have ih:=Jm (f:=λj=>f (j+1)) (xs:=xs) (ys:=ys) (by simpa using h) (λj a b ha hb=>hf (j+1) a b (by simpa using ha) (by simpa using hb));rw[X5,cZ,eZ,hf 0 x y rfl rfl,ie];simp only[Jh];rw[<-ih];rfl
section
variable{X:Cx}{pins:k4p}{σ:St}{H:Hp}{s:ae}
theorem Mp(I:Inv X pins σ H s){a:af}{xs ys:List V}(h:SqT X.K H a xs)(h':SqL X.K H a ys):False:=by obtain⟨_,_,⟨o,h1,h2,_⟩,_⟩:=I.tuple h;obtain⟨_,_,⟨o',n,h1',h2',_⟩,_⟩:=I.list h';rw[h1]at h1';cases h1';rw[h2]at h2';injection h2' with e;exact absurd e (by decide)
noncomputable def D.atom:D->Option V
 |.non=>a5 .non
 |.bl b=>a5 (.bl b)
 |.int i=>a5 (.int i)
 |.str x=>a5 (.str x)
 |_=>a7
theorem Enc.at_{K:k4n}{d:D}{v u:V}(h:Enc K H d v)(e:d.atom=a5 u):v=u:=by
 cases d with
 |non=>cases e;exact(show v=.non from h)
 |bl b=>cases e;exact(show v=.bl b from h)
 |int i=>cases e;exact(show v=.int i from h)
 |str x=>cases e;exact(show v=.str x from h)
 |_=>cases e
theorem Enc.ref{K:k4n}{d:D}{v:V}(h:Enc K H d v)(e:d.atom=a7):∃a,v=.ref a:=by
 cases d with
 |tup l=>obtain⟨a,_,e,_⟩:=h;exact⟨a,e⟩
 |lst l=>obtain⟨a,_,e,_⟩:=h;exact⟨a,e⟩
 |dct k l=>obtain⟨a,_,_,_,e,_⟩:=h;exact⟨a,e⟩
 |sct k=>obtain⟨a,e,_⟩:=h;exact⟨a,e⟩
 |fn x l=>obtain⟨a,_,_,_,_,e,_⟩:=h;exact⟨a,e⟩
 |_=>cases e
theorem j24{d d':D}{u:V}(h:d.atom=a5 u)(h':d'.atom=a5 u):d=d':=by cases d<;>cases d'<;>first|(cases h;done)|(cases h';done)|(cases h;cases h';rfl)|(cases h;cases h')
theorem Ot{d:D}{a:af}(h:d.atom=a5 (.ref a)):False:=by cases d<;>cases h
theorem j7s(I:Inv X pins σ H s){d d':D}{v:V}(hd:d.dep<10000)(hd':d'.dep<10000)(h:Enc X.K H d v)(h':Enc X.K H d' v) :
  d=d'\/∃ds ds' xs,((d=.tup ds/\d'=.tup ds')\/(d=.lst ds/\d'=.lst ds'))/\j5 X.K H ds xs/\j5 X.K H ds' xs:=by
 cases e:d.atom with
 |some u =>
  have ev:=h.at_ e;subst ev;cases e':d'.atom with
  |some u'=>exact .inl (j24 e ((h'.at_ e')▸e'))
  |none=>obtain⟨a,ea⟩:=h'.ref e';subst ea;exact(Ot e).elim
 |none =>
  cases e':d'.atom with
  |some u'=>have ev:=h'.at_ e';subst ev;obtain⟨a,ea⟩:=h.ref e;subst ea;exact(Ot e').elim
  |none =>
   cases d with
   |tup ds =>
    obtain⟨a,xs,ea,sq,l⟩:=h;cases d' with
    |tup ds' =>obtain⟨a',ys,eb,sq',l'⟩:=h';rw[ea]at eb;cases eb;rw[I.tuple_inj sq' sq]at l';exact .inr ⟨ds,ds',xs,.inl ⟨rfl,rfl⟩,l,l'⟩
    |lst ds'=>obtain⟨a',ys,eb,sq',l'⟩:=h';rw[ea]at eb;cases eb;exact(Mp I sq sq').elim
    |dct _ _=>simp[D.dep]at hd'
    |sct _=>simp[D.dep]at hd'
    |fn _ _=>simp[D.dep]at hd'
    |_=>cases e'
   |lst ds =>
    obtain⟨a,xs,ea,sq,l⟩:=h;cases d' with
    |lst ds' =>obtain⟨a',ys,eb,sq',l'⟩:=h';rw[ea]at eb;cases eb;rw[I.list_inj sq' sq]at l';exact .inr ⟨ds,ds',xs,.inr ⟨rfl,rfl⟩,l,l'⟩
    |tup ds'=>obtain⟨a',ys,eb,sq',l'⟩:=h';rw[ea]at eb;cases eb;exact(Mp I sq' sq).elim
    |dct _ _=>simp[D.dep]at hd'
    |sct _=>simp[D.dep]at hd'
    |fn _ _=>simp[D.dep]at hd'
    |_=>cases e'
   |dct _ _=>simp[D.dep]at hd
   |sct _=>simp[D.dep]at hd
   |fn _ _=>simp[D.dep]at hd
   |_=>cases e
theorem j1a{n:Nat}(ih:∀{d d':D}{v:V},d.dep<=n->d.dep<10000->d'.dep<10000->Enc X.K H d v->Enc X.K H d' v->d=d'):∀{ds ds':List D}{xs:List V},D.depL ds<=n->D.depL ds<10000->D.depL ds'<10000->j5 X.K H ds xs->j5 X.K H ds' xs->ds=ds'
 |[],[],_,_,_,_,_,_=>rfl
 |[],_::_,_,_,_,_,h,⟨x,r,e,_⟩=>by cases h;cases e
 |_::_,[],_,_,_,_,⟨x,r,e,_⟩,h=>by cases h;cases e
 |d::ds,d'::ds',_,m,n1,n2,⟨x,r,e,h,l⟩,⟨x',r',e',h',l'⟩=>by subst e;cases e';rw[D.depL]at m n1 n2;rw[ih nofun nofun nofun h h',j1a ih nofun nofun nofun l l']
theorem j19(I:Inv X pins σ H s):∀(n:Nat){d d':D}{v:V},d.dep<=n->d.dep<10000->d'.dep<10000->Enc X.K H d v->Enc X.K H d' v->d=d'
 |0,d,d',v,hn,hd,hd',h,h'=>by
  rcases j7s I hd hd' h h' with e|⟨ds,ds',xs,⟨e,_⟩|⟨e,_⟩,_⟩
  .exact e
  .subst e;simp[D.dep]at hn
  .subst e;simp[D.dep]at hn
 |n+1,d,d',v,hn,hd,hd',h,h'=>by
  rcases j7s I hd hd' h h' with e|⟨ds,ds',xs,⟨e,e'⟩|⟨e,e'⟩,l,l'⟩
  .exact e
  .subst e e';simp only[D.dep]at hn hd hd';rw[j1a (λa b c=>j19 I n a b c) nofun nofun nofun l l']
  .subst e e';simp only[D.dep]at hn hd hd';rw[j1a (λa b c=>j19 I n a b c) nofun nofun nofun l l']
theorem Enc.inj(I:Inv X pins σ H s){d d':D}{v:V}(hd:d.dep<10000)(hd':d'.dep<10000)(h:Enc X.K H d v)(h':Enc X.K H d' v):d=d':=j19 I d.dep (xx _) hd hd' h h'
end
section
variable{X:Cx}{pins:k4p}{σ:St}{H:Hp}{s:ae}
theorem D.depL_le:∀{ds:List D}{j:Nat}{d:D},ds[j]?=a5 d->d.dep<=D.depL ds
 |[],_,_,h=>by simp at h
 |x::xs,0,d,h=>by simp at h;subst h;simp[D.depL];omega
 |x::xs,j+1,d,h=>by have:=D.depL_le (ds:=xs) (j:=j) (d:=d) (by simpa using h);simp[D.depL];omega
theorem Qe(I:Inv X pins σ H s):∀(n:Nat)(A:az){d d':D}{v v':V}{u u':a9},d.dep<=n->A.units+n<aX->d'.dep<10000->Enc X.K H d v->RelV v u->Enc X.K H d' v'->RelV v' u' ->
  eD A s u u' (deq d d')/\cT A s u u' (deq d d')
 |0,A,d,d',v,v',u,u',hn,hu,nd,en,r,en',r'=>by
  have hu0:A.units<aX:=by omega
  cases d with
  |tup l=>simp[D.dep]at hn
  |lst l=>simp[D.dep]at hn
  |dct ks l=>simp[D.dep]at hn
  |sct k=>simp[D.dep]at hn
  |fn x l=>simp[D.dep]at hn
  |non =>
   cases(show v=.non from en);cases(show u=aI from r);cases d' with
   |dct ks' l'=>simp[D.dep]at nd
   |sct k'=>simp[D.dep]at nd
   |fn x' l'=>simp[D.dep]at nd
   |non=>cases(show v'=.non from en');cases(show u'=aI from r');exact⟨.none_none,.same _⟩
   |bl k=>cases(show v'=.bl k from en');cases(show u'=bD k from r');exact⟨.none_bool _,.none_bool _⟩
   |int k=>cases(show v'=.int k from en');obtain⟨t,q⟩:=(show ∃t,u'=bh k t from r');subst q;exact⟨.none_int _ _,.none_int _ _⟩
   |str k=>cases(show v'=.str k from en');obtain⟨t,q⟩:=(show ∃t,u'=bp k t from r');subst q;exact⟨.none_str _ _,.none_str _ _⟩
   |tup l=>obtain⟨a,xs,e,sq,_⟩:=en';subst e;cases(show u'=aF a from r');obtain⟨_,_,q,_⟩:=I.tuple sq;exact⟨.none_tuple q hu0,.none_tuple q hu0⟩
   |lst l=>obtain⟨a,xs,e,sq,_⟩:=en';subst e;cases(show u'=aF a from r');obtain⟨_,_,q,_⟩:=I.list sq;exact⟨.none_list q.isList hu0,.none_list q.isList hu0⟩
  |bl b =>
   cases(show v=.bl b from en);cases(show u=bD b from r);cases d' with
   |dct ks' l'=>simp[D.dep]at nd
   |sct k'=>simp[D.dep]at nd
   |fn x' l'=>simp[D.dep]at nd
   |non=>cases(show v'=.non from en');cases(show u'=aI from r');exact⟨.bool_none _,.bool_none _⟩
   |bl k=>cases(show v'=.bl k from en');cases(show u'=bD k from r');exact⟨.bool_bool _ _,.bool_bool _ _⟩
   |int k=>cases(show v'=.int k from en');obtain⟨t,q⟩:=(show ∃t,u'=bh k t from r');subst q;exact⟨.bool_int _ _ _,.bool_int _ _ _⟩
   |str k=>cases(show v'=.str k from en');obtain⟨t,q⟩:=(show ∃t,u'=bp k t from r');subst q;exact⟨.bool_str _ _ _,.bool_str _ _ _⟩
   |tup l=>obtain⟨a,xs,e,sq,_⟩:=en';subst e;cases(show u'=aF a from r');obtain⟨_,_,q,_⟩:=I.tuple sq;exact⟨.bool_tuple _ q hu0,.bool_tuple _ q hu0⟩
   |lst l=>obtain⟨a,xs,e,sq,_⟩:=en';subst e;cases(show u'=aF a from r');obtain⟨_,_,q,_⟩:=I.list sq;exact⟨.bool_list _ q.isList hu0,.bool_list _ q.isList hu0⟩
  |int b =>
   cases(show v=.int b from en);obtain⟨tk,q0⟩:=(show ∃t,u=bh b t from r);subst q0;cases d' with
   |dct ks' l'=>simp[D.dep]at nd
   |sct k'=>simp[D.dep]at nd
   |fn x' l'=>simp[D.dep]at nd
   |non=>cases(show v'=.non from en');cases(show u'=aI from r');exact⟨.int_none _ _,.int_none _ _⟩
   |bl k=>cases(show v'=.bl k from en');cases(show u'=bD k from r');exact⟨.int_bool _ _ _,.int_bool _ _ _⟩
   |int k=>cases(show v'=.int k from en');obtain⟨t,q⟩:=(show ∃t,u'=bh k t from r');subst q;exact⟨.int_int _ _ _ _,.int_int _ _ _ _⟩
   |str k=>cases(show v'=.str k from en');obtain⟨t,q⟩:=(show ∃t,u'=bp k t from r');subst q;exact⟨.int_str _ _ _ _,.int_str _ _ _ _⟩
   |tup l=>obtain⟨a,xs,e,sq,_⟩:=en';subst e;cases(show u'=aF a from r');obtain⟨_,_,q,_⟩:=I.tuple sq;exact⟨.int_tuple _ _ q hu0,.int_tuple _ _ q hu0⟩
   |lst l=>obtain⟨a,xs,e,sq,_⟩:=en';subst e;cases(show u'=aF a from r');obtain⟨_,_,q,_⟩:=I.list sq;exact⟨.int_list _ _ q.isList hu0,.int_list _ _ q.isList hu0⟩
  |str b =>
   cases(show v=.str b from en);obtain⟨tk,q0⟩:=(show ∃t,u=bp b t from r);subst q0;cases d' with
   |dct ks' l'=>simp[D.dep]at nd
   |sct k'=>simp[D.dep]at nd
   |fn x' l'=>simp[D.dep]at nd
   |non=>cases(show v'=.non from en');cases(show u'=aI from r');exact⟨.str_none _ _,.str_none _ _⟩
   |bl k=>cases(show v'=.bl k from en');cases(show u'=bD k from r');exact⟨.str_bool _ _ _,.str_bool _ _ _⟩
   |int k=>cases(show v'=.int k from en');obtain⟨t,q⟩:=(show ∃t,u'=bh k t from r');subst q;exact⟨.str_int _ _ _ _,.str_int _ _ _ _⟩
   |str k=>cases(show v'=.str k from en');obtain⟨t,q⟩:=(show ∃t,u'=bp k t from r');subst q;exact⟨.str_str _ _ _ _,.str_str _ _ _ _⟩
   |tup l=>obtain⟨a,xs,e,sq,_⟩:=en';subst e;cases(show u'=aF a from r');obtain⟨_,_,q,_⟩:=I.tuple sq;exact⟨.str_tuple _ _ q hu0,.str_tuple _ _ q hu0⟩
   |lst l=>obtain⟨a,xs,e,sq,_⟩:=en';subst e;cases(show u'=aF a from r');obtain⟨_,_,q,_⟩:=I.list sq;exact⟨.str_list _ _ q.isList hu0,.str_list _ _ q.isList hu0⟩
 |n+1,A,d,d',v,v',u,u',hn,hu,nd,en,r,en',r'=>by
  have hu0:A.units<aX:=by omega
  have hu1:A.in1.units+n<aX:=by show A.units+1+n<aX;omega
  have low:d.dep<=n->eD A s u u' (deq d d')/\cT A s u u' (deq d d'):=λh=>Qe I n A h nofun nd en r en' r';cases d with
  |non=>exact low (by simp[D.dep])
  |bl b=>exact low (by simp[D.dep])
  |int b=>exact low (by simp[D.dep])
  |str b=>exact low (by simp[D.dep])
  |dct ks l=>exfalso;have:(9900:Nat)=aX:=rfl;simp only[D.dep]at hn;omega
  |sct k=>exfalso;have:(9900:Nat)=aX:=rfl;simp only[D.dep]at hn;omega
  |fn x l=>exfalso;have:(9900:Nat)=aX:=rfl;simp only[D.dep]at hn;omega
  |tup ds =>
   have hd:D.depL ds<=n:=by simp[D.dep]at hn;omega
   obtain⟨a,xs,e,sq,l⟩:=id en;subst e;cases(show u=aF a from r);obtain⟨us,rv,q,_⟩:=I.tuple sq;cases d' with
   |dct ks' l'=>simp[D.dep]at nd
   |sct k'=>simp[D.dep]at nd
   |fn x' l'=>simp[D.dep]at nd
   |non=>cases(show v'=.non from en');cases(show u'=aI from r');exact⟨.tuple_none q hu0,.tuple_none q hu0⟩
   |bl k=>cases(show v'=.bl k from en');cases(show u'=bD k from r');exact⟨.tuple_bool _ q hu0,.tuple_bool _ q hu0⟩
   |int k=>cases(show v'=.int k from en');obtain⟨t,q'⟩:=(show ∃t,u'=bh k t from r');subst q';exact⟨.tuple_int _ _ q hu0,.tuple_int _ _ q hu0⟩
   |str k=>cases(show v'=.str k from en');obtain⟨t,q'⟩:=(show ∃t,u'=bp k t from r');subst q';exact⟨.tuple_str _ _ q hu0,.tuple_str _ _ q hu0⟩
   |lst ds'=>obtain⟨a',ys,e,sq',_⟩:=en';subst e;cases(show u'=aF a' from r');obtain⟨_,_,q',_⟩:=I.list sq';exact⟨.tuple_list q q'.isList hu0,.tuple_list q q'.isList hu0⟩
   |tup ds' =>
    obtain⟨a',ys,e,sq',l'⟩:=id en';subst e;cases(show u'=aF a' from r');obtain⟨us',rv',q',_⟩:=I.tuple sq';have e1:us.length=ds.length:=by rw[<-rv.length,l.length]
    have e2:us'.length=ds'.length:=by rw[<-rv'.length,l'.length]
    have main:eD A s (.ref a) (.ref a') (deq (.tup ds) (.tup ds')):=by
     have item:∀(j:Nat)(h1:j<us.toArray.size)(h2:j<us'.toArray.size),cT A.in1 s us.toArray[j] us'.toArray[j] (deq (ds.getD j .non) (ds'.getD j .non)):=λj h1 h2=>by
      have k1:j<ds.length:=by rw[<-e1];simpa using h1
      have k2:j<ds'.length:=by rw[<-e2];simpa using h2
      obtain⟨x,hx,ex⟩:=l.get (kh k1);obtain⟨y,hy,ey⟩:=l'.get (kh k2);obtain⟨w1,hw1,rw1⟩:=rv.get hx;obtain⟨w2,hw2,rw2⟩:=rv'.get hy;have g1:us.toArray[j]=w1:=by simp at h1 ⊢;rw[kh (by simpa using h1)]at hw1;exact aB hw1
      have g2:us'.toArray[j]=w2:=by simp at h2 ⊢;rw[kh (by simpa using h2)]at hw2;exact aB hw2
      rw[g1,g2,kj,kj,kh k1,kh k2];exact(Qe I n A.in1 (Xd (D.depL_le (kh k1)) hd) hu1 (dG (D.depL_le (kh k2)) (by simp only[D.dep]at nd;omega)) ex rw1 ey rw2).2
     have z:=SeqAt.RcAt.tuples (A:=A) (s:=s) q q' hu0 (e:=λj=>deq (ds.getD j .non) (ds'.getD j .non)) item;have ev:((aE (min us.toArray.size us'.toArray.size)).all (λj=>deq (ds.getD j .non) (ds'.getD j .non))&&us.toArray.size==us'.toArray.size)=deq (.tup ds) (.tup ds'):=by
      simp only[Oc,xm,e1,e2];by_cases hl:ds.length=ds'.length
      .rw[hl,iK,beq_self_eq_true,hV,<-hl];exact Jm hl λj x y hx hy=>by rw[kj,kj,hx,hy];rfl
      .rw[Qn hl,beq_false_of_ne hl,eR]
     rw[ev]at z;exact z
    refine⟨main,?_⟩;by_cases ea:a=a'
    .subst ea;have e9:(9900:Nat)=aX:=rfl;rw[Enc.inj I nofun nd en en',Yv _ nd];exact .same _
    .exact .of_refs ea main
  |lst ds =>
   have hd:D.depL ds<=n:=by simp[D.dep]at hn;omega
   obtain⟨a,xs,e,sq,l⟩:=id en;subst e;cases(show u=aF a from r);obtain⟨us,rv,q0,_⟩:=I.list sq;have q:=q0.isList;cases d' with
   |dct ks' l'=>simp[D.dep]at nd
   |sct k'=>simp[D.dep]at nd
   |fn x' l'=>simp[D.dep]at nd
   |non=>cases(show v'=.non from en');cases(show u'=aI from r');exact⟨.list_none q hu0,.list_none q hu0⟩
   |bl k=>cases(show v'=.bl k from en');cases(show u'=bD k from r');exact⟨.list_bool _ q hu0,.list_bool _ q hu0⟩
   |int k=>cases(show v'=.int k from en');obtain⟨t,q'⟩:=(show ∃t,u'=bh k t from r');subst q';exact⟨.list_int _ _ q hu0,.list_int _ _ q hu0⟩
   |str k=>cases(show v'=.str k from en');obtain⟨t,q'⟩:=(show ∃t,u'=bp k t from r');subst q';exact⟨.list_str _ _ q hu0,.list_str _ _ q hu0⟩
   |tup ds'=>obtain⟨a',ys,e,sq',_⟩:=en';subst e;cases(show u'=aF a' from r');obtain⟨_,_,q',_⟩:=I.tuple sq';exact⟨.list_tuple q q' hu0,.list_tuple q q' hu0⟩
   |lst ds' =>
    obtain⟨a',ys,e,sq',l'⟩:=id en';subst e;cases(show u'=aF a' from r');obtain⟨us',rv',q0',_⟩:=I.list sq';have q':=q0'.isList;have e1:us.length=ds.length:=by rw[<-rv.length,l.length]
    have e2:us'.length=ds'.length:=by rw[<-rv'.length,l'.length]
    have main:eD A s (.ref a) (.ref a') (deq (.lst ds) (.lst ds')):=by
     have item:∀(j:Nat)(h1:j<us.toArray.size)(h2:j<us'.toArray.size),cT A.in1 s us.toArray[j] us'.toArray[j] (deq (ds.getD j .non) (ds'.getD j .non)):=λj h1 h2=>by
      have k1:j<ds.length:=by rw[<-e1];simpa using h1
      have k2:j<ds'.length:=by rw[<-e2];simpa using h2
      obtain⟨x,hx,ex⟩:=l.get (kh k1);obtain⟨y,hy,ey⟩:=l'.get (kh k2);obtain⟨w1,hw1,rw1⟩:=rv.get hx;obtain⟨w2,hw2,rw2⟩:=rv'.get hy;have g1:us.toArray[j]=w1:=by simp at h1 ⊢;rw[kh (by simpa using h1)]at hw1;exact aB hw1
      have g2:us'.toArray[j]=w2:=by simp at h2 ⊢;rw[kh (by simpa using h2)]at hw2;exact aB hw2
      rw[g1,g2,kj,kj,kh k1,kh k2];exact(Qe I n A.in1 (Xd (D.depL_le (kh k1)) hd) hu1 (dG (D.depL_le (kh k2)) (by simp only[D.dep]at nd;omega)) ex rw1 ey rw2).2
     simp only[Od];by_cases hl:ds.length=ds'.length
     .have z:=SeqAt.RcAt.lists (A:=A) (s:=s) q q' (by simp[e1,e2,hl]) hu0 (e:=λj=>deq (ds.getD j .non) (ds'.getD j .non)) item;have ev:(aE us.toArray.size).all (λj=>deq (ds.getD j .non) (ds'.getD j .non))=z9 ds ds':=by rw[xm,e1];exact Jm hl λj x y hx hy=>by rw[kj,kj,hx,hy];rfl
      rw[ev]at z;exact z
     .rw[Qn hl];exact .lists_lengths q q' (by simp[e1,e2,hl]) hu0
    refine⟨main,?_⟩;by_cases ea:a=a'
    .subst ea;have e9:(9900:Nat)=aX:=rfl;rw[Enc.inj I nofun nd en en',Yv _ nd];exact .same _
    .exact .of_refs ea main
end
section
variable{X:Cx}{pins:k4p}{σ:St}{H:Hp}{s:ae}{A:az}
theorem j0w(I:Inv X pins σ H s){n:Nat}{ds ds':List D}{xs ys:List V}{us us':List a9}(l:j5 X.K H ds xs)(rv:Vals xs us)(l':j5 X.K H ds' ys)(rv':Vals ys us')(hd:D.depL ds<=n)(hu:A.units+1+n<aX)(nd:D.depL ds'<10000) :
  ∀(j:Nat)(h1:j<us.toArray.size)(h2:j<us'.toArray.size),cT A.in1 s us.toArray[j] us'.toArray[j] (deq (ds.getD j .non) (ds'.getD j .non)):=λj h1 h2=>by
 have k1:j<ds.length:=by rw[<-l.length,rv.length];simpa using h1
 have k2:j<ds'.length:=by rw[<-l'.length,rv'.length];simpa using h2
 obtain⟨x,hx,ex⟩:=l.get (kh k1);obtain⟨y,hy,ey⟩:=l'.get (kh k2);obtain⟨w1,hw1,rw1⟩:=rv.get hx;obtain⟨w2,hw2,rw2⟩:=rv'.get hy;have g1:us.toArray[j]=w1:=by simp at h1 ⊢;rw[kh (by simpa using h1)]at hw1;exact aB hw1
 have g2:us'.toArray[j]=w2:=by simp at h2 ⊢;rw[kh (by simpa using h2)]at hw2;exact aB hw2
 rw[g1,g2,kj,kj,kh k1,kh k2];exact(Qe I n A.in1 (Xd (D.depL_le (kh k1)) hd) hu (dG (D.depL_le (kh k2)) nd) ex rw1 ey rw2).2
theorem Ly(hu:X.A.units+100<aX):OpR X (aW .Eq) (λx y H Q=>∃d d',Enc X.K H d x/\Enc X.K H d' y/\d.dep<=100/\d'.dep<10000/\Q (.bl (deq d d')) H):=by rintro pins s σ H x y v u Q I rx ry ⟨d,d',en,en',hd,nd,q⟩;exact(Qe I 100 X.A hd hu nd en rx en' ry).1 X.prog X.w X.xe _ ⟨.bl (deq d d'),H,I,rfl,q⟩
theorem Lw(hu:X.A.units+100<aX):OpR X (aW .NotEq) (λx y H Q=>∃ds ds' k,Enc X.K H (D.seq k ds) x/\Enc X.K H (D.seq k ds') y/\D.depL ds<=98/\D.depL ds'<10000/\Q (.bl (!z9 ds ds')) H):=by
 rintro pins s σ H x y v u Q I rx ry ⟨ds,ds',k,en,en',hd,nd,q⟩;have h0:X.A.units<aX:=by omega
 obtain⟨t,xs,e,sq,l⟩:=Qf en;obtain⟨t',ys,e',sq',l'⟩:=Qf en';subst e e';cases rx;cases ry;obtain⟨us,rv,qs,_⟩:=I.side sq;obtain⟨us',rv',qs',_⟩:=I.side sq';have e1:us.length=ds.length:=by rw[<-rv.length,l.length]
 have e2:us'.length=ds'.length:=by rw[<-rv'.length,l'.length]
 have item:=j0w (A:=X.A) I l rv l' rv' hd nofun nd;unfold Zg at qs qs';cases k with
 |true =>
  rw[if_pos rfl]at qs qs';by_cases hl:ds.length=ds'.length
  .have z:=SeqAt.RcNeAt.lists (A:=X.A) (s:=s) qs qs' (by simp[e1,e2,hl]) h0 (e:=λj=>deq (ds.getD j .non) (ds'.getD j .non)) item;have ev:(aE us.toArray.size).all (λj=>deq (ds.getD j .non) (ds'.getD j .non))=z9 ds ds':=by rw[xm,e1];exact Jm hl λj x y hx hy=>by rw[kj,kj,hx,hy];rfl
   rw[ev]at z;exact z X.prog X.w X.xe _ ⟨.bl (!z9 ds ds'),H,I,rfl,q⟩
  .have z:=SeqAt.RcNeAt.lists_lengths (A:=X.A) (s:=s) qs qs' (by simp[e1,e2,hl]) h0;rw[Qn hl]at q;exact z X.prog X.w X.xe _ ⟨.bl a8,H,I,rfl,q⟩
 |false =>
  rw[if_neg xr]at qs qs';have z:=SeqAt.RcNeAt.tuples (A:=X.A) (s:=s) qs qs' h0 (e:=λj=>deq (ds.getD j .non) (ds'.getD j .non)) item;have ev:((aE (min us.toArray.size us'.toArray.size)).all (λj=>deq (ds.getD j .non) (ds'.getD j .non))&&us.toArray.size==us'.toArray.size)=z9 ds ds':=by
   simp only[xm,e1,e2];by_cases hl:ds.length=ds'.length
   .rw[hl,iK,beq_self_eq_true,hV,<-hl];exact Jm hl λj x y hx hy=>by rw[kj,kj,hx,hy];rfl
   .rw[Qn hl,beq_false_of_ne hl,eR]
  rw[ev]at z;exact z X.prog X.w X.xe _ ⟨.bl (!z9 ds ds'),H,I,rfl,q⟩
noncomputable def eqW(X:Cx)(H:Hp)(d:D)(y:a9):Bool:=@decide (∃e v,e.dep<10000/\Enc X.K H e v/\RelV v y/\deq e d=a8) (cz _)
theorem Ks(I:Inv X pins σ H s){d e:D}{v:V}{y:a9}(he:e.dep<10000)(en:Enc X.K H e v)(r:RelV v y):eqW X H d y=deq e d:=by
 unfold eqW;cases h:deq e d with
 |true=>exact @decide_eq_true _ (cz _) ⟨e,v,he,en,r,h⟩
 |false =>refine @decide_eq_false _ (cz _) λ⟨e',v',he',en',r',h'⟩=>?_;rw[r'.inj r]at en';rw[Enc.inj I he' he en' en,h]at h';cases h'
theorem Wa(I:Inv X pins σ H s){d:D}:∀{ds:List D}{xs:List V}{us:List a9},D.depL ds<10000->j5 X.K H ds xs->Vals xs us->us.any (eqW X H d)=ds.any λe=>deq e d
 |[],_,_,_,h,r=>by cases h;cases r;rfl
 |e::ds,_,_,hd,⟨x,r,eq,h,l⟩,rv=>by
  subst eq;rw[D.depL]at hd;cases rv with
  |cons a b=>rw[bZ,bZ,Wa I nofun l b,Ks I nofun h a]
theorem Uz(I:Inv X pins σ H s){d:D}{v:V}{u:a9}(en:Enc X.K H d v)(r:RelV v u)(nd:d.dep<10000){n:Nat}(hu:A.units+n<aX):∀{ds:List D}{xs:List V}{us:List a9},D.depL ds<=n->j5 X.K H ds xs->Vals xs us->∀y∈us,cT A s y u (eqW X H d y)
 |[],_,_,_,h,rv,y,hy=>by cases h;cases rv;cases hy
 |e::ds,_,_,hd,⟨x,r',eq,h,l⟩,rv,y,hy=>by
  subst eq;have hd':e.dep<=n/\D.depL ds<=n:=by simp[D.depL]at hd;omega
  cases rv with
  |cons a b =>
   rcases xf.mp hy with rfl|hy
   .have e9:(9900:Nat)=aX:=rfl;rw[Ks I nofun h a];exact(Qe I n A hd'.1 hu nd h a en r).2
   .exact Uz I en r nd hu hd'.2 l b y hy
theorem Lx(hu:X.A.units+100<aX):OpR X (aW .In) (λx y H Q=>∃d ds k,Enc X.K H d x/\Enc X.K H (D.seq k ds) y/\D.depL ds<=98/\d.dep<10000/\Q (.bl (ds.any λe=>deq e d)) H):=by
 rintro pins s σ H x y v u Q I rx ry ⟨d,ds,k,en,en',hd,nd,q⟩;obtain⟨t,xs,e,sq,l⟩:=Qf en';subst e;cases ry;obtain⟨us,rv,qs,_⟩:=I.side sq;have me:=λy (hy:y∈us.toArray)=>Uz (A:=X.A.in1) I en rx nd (n:=98) (by show X.A.units+1+98<aX;omega) hd l rv y (by simpa using hy);have ev:us.toArray.any (eqW X H d)=ds.any λe=>deq e d:=by rw[gC];exact Wa I nofun l rv
 unfold Zg at qs;cases k with
 |true=>rw[if_pos rfl]at qs;exact SeqAt.in_listAt (eqW X H d) qs me (by rw[ev];exact⟨.bl _,H,I,rfl,q⟩)
 |false=>rw[if_neg xr]at qs;exact SeqAt.in_tupleAt (eqW X H d) qs me (by rw[ev];exact⟨.bl _,H,I,rfl,q⟩)
theorem Wf(hu:X.A.units+100<aX):OpR X (aW .NotIn) (λx y H Q=>∃d ds k,Enc X.K H d x/\Enc X.K H (D.seq k ds) y/\D.depL ds<=98/\d.dep<10000/\Q (.bl (!ds.any λe=>deq e d)) H):=by
 rintro pins s σ H x y v u Q I rx ry ⟨d,ds,k,en,en',hd,nd,q⟩;obtain⟨t,xs,e,sq,l⟩:=Qf en';subst e;cases ry;obtain⟨us,rv,qs,_⟩:=I.side sq;have me:=λy (hy:y∈us.toArray)=>Uz (A:=X.A.in1) I en rx nd (n:=98) (by show X.A.units+1+98<aX;omega) hd l rv y (by simpa using hy);have ev:us.toArray.any (eqW X H d)=ds.any λe=>deq e d:=by rw[gC];exact Wa I nofun l rv
 unfold Zg at qs;cases k with
 |true=>rw[if_pos rfl]at qs;exact SeqAt.notIn_listAt (eqW X H d) qs me (by rw[ev];exact⟨.bl _,H,I,rfl,q⟩)
 |false=>rw[if_neg xr]at qs;exact SeqAt.notIn_tupleAt (eqW X H d) qs me (by rw[ev];exact⟨.bl _,H,I,rfl,q⟩)
theorem j0k:OpR X (aV .Add) (λx y H Q=>∃a b xs ys,x=.ref a/\y=.ref b/\SqT X.K H a xs/\SqT X.K H b ys/\xs.length+ys.length<=ai /\
  (xs=[]->Q (.ref b) H)/\(xs≠[]->ys=[]->Q (.ref a) H)/\(xs≠[]->ys≠[]->∀p,H p=a7->Q (.ref p) (upd H p (.tup (xs++ys))))):=by
 rintro pins s σ H x y v u Q I rx ry ⟨a,b,xs,ys,e,e',sa,sb,hz,q1,q2,q3⟩;by_cases hx:xs=[]
 .subst e e' hx;cases rx;cases ry;obtain⟨us,ru,⟨⟨c1,d1,f1,g1⟩,h1,k1,n1,m1⟩,_⟩:=I.tuple sa;obtain⟨vs,rv,⟨⟨c2,d2,f2,g2⟩,h2,k2,n2,m2⟩,_⟩:=I.tuple sb;cases ru;have k1:c1=.type "tuple":=k1;have m1:f1=.seq ([]:List a9).toArray n1:=m1;have k2:c2=.type "tuple":=k2;have m2:f2=.seq vs.toArray n2:=m2;subst k1 m1 k2 m2;exact eI ⟨_,h1,rfl⟩ ⟨_,h2,rfl⟩ eS fG cK cB (cw _ _)
   (tuple_addW0 a b ([]:List a9).toArray vs.toArray n1 n2 d1 d2 g1 g2 (by simp)) ⟨h1,h2,⟨.ref b,H,I,rfl,q1 rfl⟩⟩
 .exact j43 pins s σ H x y v u Q I rx ry ⟨a,b,xs,ys,e,e',sa,sb,hx,hz,q2 hx,q3 hx⟩
theorem all_range:∀bs:List Bool,(aE bs.length).all (λi=>(bs[i]?).getD a8)=bs.all id
 |[]=>rfl
 |b::bs=>by rw[X5,cZ,eZ,ie,eZ,<-all_range bs];rfl
theorem Bg (hc:X.calm=a8):zm X (.builtin "all") (λxs H Q=>∃(l:af)(bs:List Bool),xs=[.ref l]/\SqL X.K H l (bs.map V.bl)/\Q (.bl (bs.all id)) H):=by
 rintro pins s σ H xs us Q I r ⟨l,bs,e,sq,q⟩;subst e;obtain⟨u,eu,ru⟩:=vals1 r;subst eu;cases ru;obtain⟨its,rv,pl,_⟩:=I.list sq;have hlt:l<s.heap.objs.size:=by obtain⟨_,_,e,_⟩:=pl;exact xg e
 have hl:its.length=bs.length:=by rw[<-rv.length,xn]
 refine call_all_walk (cW pl.isList ⟨s.heap.objs.size,[s.heap.objs.size,l],[s.heap.objs.size],its.toArray.size,_,_,λi=>(bs[i]?).getD a8,rfl,Walks.list (A:=X.A.in1) (I.ok.hd hc) _ _ (X6 hlt) its.toArray,⟨⟨_,Xc _ rfl,rfl,rfl⟩,pl.isList.push _⟩,?_,λh' tk kp=>?_⟩)
 .intro i v s' Q' E' hv hq;have hi:i<its.length:=by have:=Array.getElem?_eq_some_iff.mp hv;obtain⟨h,_⟩:=this;simpa using h
  have hb:i<bs.length:=by omega
  obtain⟨w1,hw,rw1⟩:=rv.get (x:=.bl bs[i]) (i:=i) (by rw[X3,kh hb];rfl);have:its.toArray[i]?=a5 w1:=by simpa using hw
  rw[this]at hv;cases hv;cases rw1;simp only[kh hb,Ph]at hq;exact bE hq
 .have ev:(aE its.toArray.size).all (λi=>(bs[i]?).getD a8)=bs.all id:=by rw[xm,hl];exact all_range bs
  rw[ev];refine⟨.bl _,H,I.kept (t':=tk) λb o e=>kp b o ?_ (xq _ e),rfl,q⟩;intro z;rw[xu.mp z]at e;exact Xl _ (xg e)
end
section
variable{X:Cx}{ρ:Rho}{a b e:ah}{d d':D}{ds ds':List D}{i j:Int}{pos p p1 p2:aN}{k:Nat}{x:ag}{P:Po}
theorem DE.eqD(hu:X.A.units+100<aX)(ha:DT X ρ a d)(hb:DT X ρ b d')(hd:d.dep<=100)(nd:d'.dep<10000):DE X ρ (.Compare a [.Eq] [b] pos) (.bl (deq d d')):=λσ H Q R q =>(vm (Ly hu) peS peS (qw _)).to (ha σ H _ R λv H1 g1 e1=>hb σ H1 _ (R.grow g1) λu H2 g2 e2=>⟨d,d',e1.mono g2,e2,hd,nd,q _ H2 (g1.trans g2) rfl⟩)
theorem DB.eqD(hu:X.A.units+100<aX)(ha:DT X ρ a d)(hb:DT X ρ b d')(hd:d.dep<=100)(nd:d'.dep<10000):DB X ρ (.Compare a [.Eq] [b] pos) (deq d d'):=λσ H Q R q =>(vh (Ly hu) peS peS (qw _)).to (ha σ H _ R λv H1 g1 e1=>hb σ H1 _ (R.grow g1) λu H2 g2 e2=>⟨d,d',e1.mono g2,e2,hd,nd,_,rfl,q H2 (g1.trans g2)⟩)
theorem DB.neD(s:Bool)(hu:X.A.units+100<aX)(ha:DT X ρ a (D.seq s ds))(hb:DT X ρ b (D.seq s ds'))(hd:D.depL ds<=98)(nd:D.depL ds'<10000):DB X ρ (.Compare a [.NotEq] [b] pos) (!z9 ds ds'):=λσ H Q R q =>(vh (Lw hu) peS peS (qw _)).to (ha σ H _ R λv H1 g1 e1=>hb σ H1 _ (R.grow g1) λu H2 g2 e2=>⟨ds,ds',s,e1.mono g2,e2,hd,nd,_,rfl,q H2 (g1.trans g2)⟩)
theorem DB.notIn(s:Bool)(hu:X.A.units+100<aX)(ha:DT X ρ a d)(hb:DT X ρ b (D.seq s ds))(hd:D.depL ds<=98)(nd:d.dep<10000)(hm:aJ .NotIn b=a6:=by with_unfolding_all rfl):DB X ρ (.Compare a [.NotIn] [b] pos) (!ds.any λe=>deq e d):=λσ H Q R q =>(vh (Wf hu) peS peS hm).to (ha σ H _ R λv H1 g1 e1=>hb σ H1 _ (R.grow g1) λu H2 g2 e2=>⟨d,ds,s,e1.mono g2,e2,hd,nd,_,rfl,q H2 (g1.trans g2)⟩)
theorem DB.in(s:Bool)(hu:X.A.units+100<aX)(ha:DT X ρ a d)(hb:DT X ρ b (D.seq s ds))(hd:D.depL ds<=98)(nd:d.dep<10000)(hm:aJ .In b=a6:=by with_unfolding_all rfl):DB X ρ (.Compare a [.In] [b] pos) (ds.any λe=>deq e d):=λσ H Q R q =>(vh (Lx hu) peS peS hm).to (ha σ H _ R λv H1 g1 e1=>hb σ H1 _ (R.grow g1) λu H2 g2 e2=>⟨d,ds,s,e1.mono g2,e2,hd,nd,_,rfl,q H2 (g1.trans g2)⟩)
theorem DE.min (ha:DT X ρ a (.int i)) (hb:DT X ρ b (.int j)) (hm:X.mg "min" = a7) (hc:X.calm=a8:=by rfl) (hg:Gl X "min":=by rfl) (hs:aa [a,b] X.env=(a6,aG a X.env)::aa [b] X.env:=by rfl) (hs2:aa [b] X.env=(a6,aG b X.env)::aa [] X.env:=by rfl)
  (hpl:(aS pos (aa [b] X.env)).any (·.1)=a6:=by rfl):DE X ρ (.Call (.Name "min" p) [a,b] [] pos) (.int (if j<i then j else i)):=λσ H Q R q =>
 (qt (Ir hc) hg hm boot_min (j9 peS (j9 peS jn hs2) hs) (by decide) (by decide) hs hpl).to (ha σ H _ R λv H1 g1 e1=>hb σ H1 _ (R.grow g1) λu H2 g2 e2=>⟨i,j,by rw[show v=.int i from e1,show u=.int j from e2],q _ H2 (g1.trans g2) rfl⟩)
theorem Yu{K:k4n}{H:Hp}:∀{bs:List Bool}{xs:List V},j5 K H (bs.map D.bl) xs->xs=bs.map V.bl
 |[],_,h=>h
 |b::bs,_,⟨x,r,e,h,l⟩=>by subst e;cases(show x=.bl b from h);rw[Yu l];rfl
theorem DE.all {bs:List Bool} (ha:DT X ρ a (.lst (bs.map D.bl))) (hm:X.mg "all" = a7) (hc:X.calm=a8:=by rfl) (hg:Gl X "all":=by rfl) (hs:aa [a] X.env=[(a6,aG a X.env)]:=by rfl):DE X ρ (.Call (.Name "all" p) [a] [] pos) (.bl (bs.all id)):=λσ H Q R q =>(qt (Bg hc) hg hm boot_all (j9 peS jn hs) (by decide) (by decide) hs).to (ha σ H _ R λv H1 g1 ⟨l,xs,e,sq,en⟩=>⟨l,bs,by rw[e],by rw[Yu en]at sq;exact sq,q _ H1 g1 rfl⟩)
def j5x(X:Cx)(e:Option ah):TO:=λσ H Q=>∀pins s,Inv X pins σ H s->aw (ar X.prog X.w) X.A (evalPart e X.env) (λu s'=>∃o H',Inv X pins σ H' s'/\dD u o/\Q o H') X.xe s
theorem poS{e:Option ah}:PO X e (j5x X e):=λpins s σ H Q I h=>h pins s I
def DP(X:Cx)(ρ:Rho)(e:Option ah)(o:Option Int):Prop:=∀σ H Q,Rep X.K ρ σ H->(∀H',j4 H H'->Q o H')->j5x X e σ H Q
theorem DP.none:DP X ρ a7 a7:=λσ H Q R q pins s I=>j3w pins s σ H Q I (q H (j4.refl H))
theorem DP.some(h:DT X ρ e (.int i)):DP X ρ (a5 e) (a5 i):=λσ H Q R q pins s I=>j3v peS pins s σ H Q I (h σ H _ R λv H1 g1 e1=>⟨i,e1,q H1 g1⟩)
variable{lo hi:Option ah}{l u:Option Int}
end
def j5p(K:k4n)(S:List D->List D->D->List D->Prop):Sp:=λvs H Q _=>∃(a:af)(ds l:List D)(d:D)(l':List D)(ws xs:List V),vs=ws++[.ref a]/\TabOk K H/\H a=a5 (.lst xs)/\j5 K (del H [a]) l xs/\j5 K (del H [a]) ds ws/\S ds l d l' /\
 ∀v H' ys,j4 (del H [a]) (del H' [a])->H' a=a5 (.lst ys)->j5 K (del H' [a]) l' ys->Enc K (del H' [a]) d v->Q v H'
section
variable{X:Cx}{ρ ρ1:Rho}{e e1 e2 e3 c:ah}{st:aM}{rest sa:List aM}{a:af}{d d1 d2 d3:D}{l l':List D}{k i:Nat}{x y f:ag}{p p1 p2 p3 p4 pos:aN}
end
noncomputable def Li(d9 n:Int):Int:=if 0<n then n%60 else(d9*48271+11)%2147483647/16
noncomputable def Ym(d9 n:Int):Int:=if 0<n then n%60/6%2 else(d9*48271+11)%2147483647/128%2
noncomputable def Vu(n:Int):Int:=if 0<n then n/60 else n
noncomputable def Qw:Nat->List ag->Int->Int->D×Int
 |0,_,d9,n=>(.tup [.str "tell",.int (Ym d9 n)],Vu n)
 |k+1,ws,d9,n=>match ws[(Li d9 n%ws.length).toNat]? with
  |none=>(.tup [.str "tell",.int (Ym d9 n)],Vu n)
  |some y=>if Li d9 n%6=0 then(.tup [.str "tell",.int (Ym d9 n)],Vu n)
   else(.tup [.str "ask",.str y,(Qw k (ws.filter λz=>!(z==y)) ((d9*48271+11)%2147483647*3+1) (Vu n)).1,
     (Qw k (ws.filter λz=>!(z==y)) ((d9*48271+11)%2147483647*5+2) (Qw k (ws.filter λz=>!(z==y)) ((d9*48271+11)%2147483647*3+1) (Vu n)).2).1],
    (Qw k (ws.filter λz=>!(z==y)) ((d9*48271+11)%2147483647*5+2) (Qw k (ws.filter λz=>!(z==y)) ((d9*48271+11)%2147483647*3+1) (Vu n)).2).2)
def j2e(ds l:List D)(d:D)(l':List D):Prop:=∃(ws:List ag)(d9 n:Int)(k:Nat),ds=[.lst (ws.map D.str),.int d9,.int k]/\l=[.int n]/\k<=5/\ws.length<=60/\d=(Qw k ws d9 n).1/\l'=[.int (Qw k ws d9 n).2]
section
variable{P:ak}{w:ax}{K:k4n}{mg:k4q}{base:aD}{x qual:ag}{st:aM}{f:af}{fd:aH}{N ps:List ag}{k:Nat}
end
def Fz(o:Option HO):Prop:=(∃xs,o=a5 (.lst xs))\/∃oc v,o=a5 (.frz oc (.own 0))/\oc.data=.cell v
theorem Kh{P:ak}{w:ax}{K:k4n}{mg:k4q}{base:aD}{A0:az}{outer:List c8}{s:ae}{H:Hp}{A:List af}(e0:Env0 P w K mg base A0 outer s H)(hA:∀a∈A,Fz (H a)) :
  Env0 P w K mg base A0 outer s (del H A)/\∀(Q:VK)(E E':XK)(r:dC)(s':ae),CR CX0 outer P w (del H A) s (λv F=>(∀a∈A,F a=a7)->Q v (mrg A H F)) E r s'->CR CX0 outer P w H s Q E' r s':=by
 have nd:∀{b:af},H b=a7->del H A b=a7:=λ{b} q=>by
  by_cases z:b∈A
  .exact qx z
  .rw[j8 z];exact q
 have out:∀{b:af}{o:HO},H b=a5 o->(∀ys,o≠.lst ys)->(∀oc v,o=.frz oc (.own 0)->oc.data≠.cell v)->b∉A:=λ{b o} q z z2 y=>by
  rcases hA b y with ⟨ys,e'⟩|⟨oc,v,e',d⟩
  .rw[q]at e';cases e';exact z ys rfl
  .rw[q]at e';cases e';exact z2 _ _ rfl d
 have e1:Env0 P w K mg base A0 outer s (del H A):=⟨e0.frames,e0.mod,λb o q=>⟨(e0.bs b o q).1,nd (e0.bs b o q).2⟩,e0.bsz,e0.funs,λb hb=>nd (e0.frf b hb),
  λa o q=>by
   obtain⟨_,q⟩:=of_del q
   exact ji.stay (e0.hok a o q) (λb u _ z=>z) (λb z=>by rw[j8 (out z (λ_ y=>by cases y) λ_ _ y=>by cases y)];exact z) (λb xs z=>by rw[j8 (out z (λ_ y=>by cases y) λ_ _ y=>by cases y)];exact z)
    (λb o ⟨vs,d⟩ z=>by rw[j8 (out z (λ_ y=>by cases y) λ_ _ y d'=>by cases y;rw[d]at d';cases d')];exact z),e0.bare⟩
 refine⟨e1,λQ E E' r s' hq=>?_⟩;cases r with
 |error e=>exact(show False from hq).elim
 |ok fl =>
  cases fl with
  |next=>exact(show False from hq).elim
  |brk=>exact(show False from hq).elim
  |cont=>exact(show False from hq).elim
  |ret u =>
   obtain⟨v,H',os,bare,un,hok',rel,q⟩:=(show CE outer P w (del H A) s _ u s' from hq)
   have kept:∀a∈A,∃o,s.heap.get? a=a5 o/\s'.heap.get? a=a5 o/\H' a=a7:=λa ha=>by
    have nf:a∉frs outer:=λy=>by have z:=e0.frf a y;rcases hA a ha with ⟨xs,e⟩|⟨oc,v,e,_⟩<;>(rw[z]at e;cases e)
    have ob:∃o,s.heap.get? a=a5 o:=by
     rcases hA a ha with ⟨xs,e⟩|⟨oc,v,e,_⟩
     .obtain⟨_,its,n,_,z⟩:=(show ji P w H s.heap a (.lst xs)from e0.hok _ _ e);exact⟨_,z⟩
     .exact⟨_,(show ji P w H s.heap a (.frz oc (.own 0))from e0.hok _ _ e).1⟩
    obtain⟨o,z⟩:=ob;exact⟨_,z,un.keep a _ z (qx ha) nf (by simp),un.free a _ z (qx ha) (by simp)⟩
   have hF:∀a∈A,H' a=a7:=λa ha=>let ⟨_,_,_,z⟩:=kept a ha;z;have outF:∀{b:af}{o:HO},H' b=a5 o->b∉A:=λ{b o} e z=>by rw[hF b z]at e;cases e
   refine⟨v,mrg A H H',os,bare,?_,λa o e=>?_,rel,q hF⟩
   .exact{
     keep:=λb o e n=>un.keep b o e (nd n)
     slot:=λb o e n=>un.slot b o e (nd n)
     free:=λb o e n hx=>by
      by_cases z:b∈A
      .rw[zx z];exact n
      .rw[jd z];exact un.free b o e (nd n) hx
     there:=un.there
     tups:=λb xs e=>by
      have z:=un.tups b xs (by rw[j8 (out e (λ_ y=>by cases y) λ_ _ y=>by cases y)];exact e)
      rw[jd (outF z)];exact z
     frzs:=λb o u e=>by
      by_cases y:b∈A
      .rw[zx y];exact e
      .have z:=un.frzs b o u (by rw[j8 y];exact e)
       rw[jd y];exact z
     tbls:=λb ps e=>by
      obtain⟨more,z⟩:=un.tbls b ps (by rw[j8 (out e (λ_ y=>by cases y) λ_ _ y=>by cases y)];exact e)
      exact⟨more,by rw[jd (outF z)];exact z⟩ }
   .by_cases z:a∈A
    .rw[zx z]at e;obtain⟨o',q1,q2,_⟩:=kept a z;rcases hA a z with ⟨xs,e'⟩|⟨oc,v,e',_⟩
     .rw[e']at e;cases e;obtain⟨hl,its,n,r,y⟩:=(show ji P w H s.heap a (.lst xs)from e0.hok _ _ e')
      rw[y]at q1;cases q1;exact⟨hl,its,n,r,q2⟩
     .rw[e']at e;cases e;have y:=(show ji P w H s.heap a (.frz oc (.own 0))from e0.hok _ _ e').1;rw[y]at q1;cases q1;exact⟨q2,_,q2⟩
    .rw[jd z]at e;refine ji.stay (hok' a o e) (λb u _ q=>q) (λb q=>?_) (λb xs q=>?_) (λb _ _ q=>?_)
     .rw[jd (outF q)];exact q
     .rw[jd (outF q)];exact q
     .rw[jd (outF q)];exact q
structure LamScope(N ps:List ag)(sc:bg):Prop where
 kind:sc.kind=.function
 co:sc.isCoroutine=a6
 gen:sc.isGenerator=a6
 nd:N.Nodup
 nm:N=Q3 sc++ps
 lfr:∀x∈Q3 sc,sc.names.lookup x=a5 .free
 lps:∀x∈ps,sc.names.lookup x=a5 .local
 nocell:∀y∈sc.names,y.2≠.cell
 cov:∀x,sc.names.lookup x=a5 .free->x∈Q3 sc
noncomputable def Z4(P:ak)(w:ax)(K:k4n)(mg:k4q)(base:aD)(N:List ag)(qual:ag)(scope:bg)(a:af)(cd:a9)(cl:List (ag×af))(A:az)(outer:List c8)(s:ae)(H:Hp):Cx where
 prog:=P
 w:=w
 K:=K
 mg:=mg
 base:=base
 A:=A.deeper (W.envX qual scope s.heap.objs.size a cd cl)
 N:=N
 s₀:=s
 H₀:=H
 env:=W.envX qual scope s.heap.objs.size a cd cl
 outer:=outer
 stack:=W.envX qual scope s.heap.objs.size a cd cl::outer
 ex:=[]
 calm:=a8
 fn:=λ_=>a6
 pn:=[]
 xe:=λ_ _=>False
def vf(h:aD):List af->List V->Prop
 |[],vs=>vs=[]
 |c::cs,vs=>∃v r u,vs=v::r/\h.IsCell c (a5 u)/\RelV v u/\vf h cs r
theorem vf.get{h:aD}:∀{cs:List af}{vs:List V}{i:Nat}{v:V},vf h cs vs->vs[i]?=a5 v->∃c u,cs[i]?=a5 c/\h.IsCell c (a5 u)/\RelV v u
 |[],_,i,v,e,q=>by cases e;simp at q
 |c::cs,_,0,v,⟨x,r,u,e,h1,h2,_⟩,q=>by subst e;simp at q;subst q;exact⟨c,u,rfl,h1,h2⟩
 |c::cs,_,i+1,v,⟨x,r,u,e,_,_,l⟩,q=>by subst e;obtain⟨c',u',z1,z2⟩:=vf.get l (i:=i) (by simpa using q);exact⟨c',u',by simpa using z1,z2⟩
theorem vf.length{h:aD}:∀{cs:List af}{vs:List V},vf h cs vs->vs.length=cs.length
 |[],_,e=>by cases e;rfl
 |c::cs,_,⟨x,r,u,e,_,_,l⟩=>by subst e;simp[l.length]
theorem vf.all{h:aD}:∀{cs:List af}{vs:List V},vf h cs vs->∀c∈cs,∃v,h.IsCell c v
 |c::cs,_,⟨x,r,u,e,h1,_,l⟩,b,hb=>(xf.mp hb).elim (λz=>z▸⟨_,h1⟩) (l.all b)
theorem lookup_at{α:Type}:∀{l:List (ag×α)} {i:Nat} {p:ag×α},(l.map (·.1)).Nodup->l[i]?=a5 p->l.lookup p.1=a5 p.2
 |[],i,p,_,h=>by simp at h
 |q::l,0,p,_,h=>by simp at h;subst h;rw[Xa,beq_self_eq_true]
 |q::l,i+1,p,nd,h=>by rw[Xi]at nd;rw[fb]at h;have ne:(p.1==q.1)=a6:=beq_eq_false_iff_ne.mpr λz=>(Xg.mp nd).1 (z▸fK (Xj h));rw[Xa,ne];exact lookup_at (Xg.mp nd).2 h
theorem Fq{ps:List ag}{us:List a9}{i:Nat}{p:ag}{u:a9}(nd:ps.Nodup)(hl:us.length=ps.length)(h1:ps[i]?=a5 p)(h2:us[i]?=a5 u):(ps.zip us).reverse.lookup p=a5 u:=by
 have hm:(p,u)∈(ps.zip us).reverse:=List.mem_reverse.mpr (Xj (i:=i) (by rw[List.getElem?_zip_eq_some];exact⟨h1,h2⟩));have e:((ps.zip us).reverse.map (·.1))=ps.reverse:=by rw[List.map_reverse,List.map_fst_zip nofun]
 obtain⟨j,hj⟩:=List.mem_iff_getElem?.mp hm;exact lookup_at (by rw[e];exact(List.reverse_perm ps).nodup_iff.mpr nd) hj
section
variable{P:ak}{w:ax}{K:k4n}{mg:k4q}{base:aD}{A:az}{outer:List c8}{s:ae}{H:Hp}{x:ag}{a c:af}{tx:Tx}{cl:List (ag×af)}{pm ctv:a9}{cvs vs:List V}{us:List a9}{N ps:List ag}{k:Nat}{Q:VK}{E:XK}
theorem j4r{h1:aD}{tk:Nat}(hh:A.handled=a7)(e0:Env0 P w K mg base A outer s H)(S:LamScope N ps tx.2.2)(hn:cl.map (·.1)=Q3 tx.2.2)(nd:(cl.map (·.2)).Nodup)(hc:vf s.heap (cl.map (·.2)) cvs)(hf:∀q∈cl.map (·.2),H q=a7)(rv:Vals vs us)(hl:vs.length=ps.length)
  (ns:h1.Ns s.heap.objs.size λy=>(ps.zip us).reverse.lookup y) (kp:∀b o,s.heap.get? b=a5 o->h1.get? b=a5 o) :
  Inv (Z4 P w K mg base N (qu x) tx.2.2 a (.ref c) cl A outer s H) [] (start N (cvs++vs)) H { s with heap:=h1,toks:=tk }:=by
 have ndN:(Q3 tx.2.2).Nodup:=by have:=S.nd;rw[S.nm]at this;exact(List.nodup_append.mp this).1
 have ndP:ps.Nodup:=by have:=S.nd;rw[S.nm]at this;exact(List.nodup_append.mp this).2.1
 have ndC:(cl.map (·.1)).Nodup:=by rw[hn];exact ndN
 have lenC:cvs.length=(Q3 tx.2.2).length:=by rw[hc.length,<-hn,xn,xn]
 have lenN:N.length=(cvs++vs).length:=by rw[S.nm,Xe,Xe,lenC,hl]
 have noA:∀b:af,b∉(Z4 P w K mg base N (qu x) tx.2.2 a (.ref c) cl A outer s H).ex:=λb z=>absurd (show b∈([]:List af)from z) (by simp);have mem2:∀{y:ag}{q:af},cl.lookup y=a5 q->q∈cl.map (·.2):=λ{y q} h=>Xk.mpr ⟨(y,q),Xo h,rfl⟩;have inj:∀(l:List (ag×af)),(l.map (·.2)).Nodup->∀y z q,(y,q)∈l->(z,q)∈l->y=z:=λl=>by
  induction l with
  |nil=>intro _ y z q h;cases h
  |cons p r ih =>
   intro nd y z q h1 h2;rw[Xi]at nd;obtain⟨n1,n2⟩:=Xg.mp nd;rcases xf.mp h1 with e1|h1<;>rcases xf.mp h2 with e2|h2
   .rw[<-e1]at e2;cases e2;rfl
   .exact absurd (Xk.mpr ⟨(z,q),h2,by rw[<-e1]⟩) n1
   .exact absurd (Xk.mpr ⟨(y,q),h1,by rw[<-e2]⟩) n1
   .exact ih n2 y z q h1 h2
 refine⟨⟨e0.mod,S.kind,rfl,rfl,xx _,λy z q h1 h2=>inj cl nd y z q (Xo h1) (Xo h2),λy hy=>?_,λy q h=>(by cases h),λ_=>hh,Around.frames_deeper e0.frames,.inr ⟨rfl,rfl⟩,λb z=>absurd z (noA b),e0.bs,e0.bsz,λb _ _=>noA b,λb z=>absurd z (noA b),e0.funs,e0.frf⟩,
  rfl,e0.bare,Un.kept kp,⟨_,ns,λi y v h1 h2 h3=>?_⟩,λy q h=>?_,e0.hok.fresh (xx _),λy q h=>hf q (mem2 h),λp hp=>absurd (show p∈([]:k4p)from hp) (by simp),e0.hok.kept kp,?_⟩
 .have hy:tx.2.2.names.lookup y=a5 .cell\/tx.2.2.names.lookup y=a5 .free:=hy;rcases hy with hy|hy
  .exact absurd rfl (S.nocell _ (Xo hy))
  .have m:=S.cov y hy;rw[<-hn]at m;obtain⟨p,hp,e⟩:=Xk.mp m;obtain⟨i,hi⟩:=List.mem_iff_getElem?.mp hp;exact⟨p.2,by have:=lookup_at ndC hi;rw[e]at this;exact this⟩
 .have h1:N[i]?=a5 y:=h1;have hi:i<(cvs++vs).length:=by rw[<-lenN];exact(Xb.mp h1).1
  have ha:(cvs++vs)[i]?=a5 v:=by
   unfold start at h2;rw[Xr (by simpa using hi),X3]at h2;cases e:(cvs++vs)[i]? with
   |none=>rw[e]at h2;cases h2
   |some a=>rw[e]at h2;cases h2;rfl
  rw[S.nm]at h1;by_cases z:i<cvs.length
  .rw[Xr z]at ha;rw[Xr nofun]at h1;obtain⟨q,u,e1,e2,r⟩:=hc.get ha;refine⟨u,r,.inr ⟨.inr (S.lfr y (Xj h1)),q,?_,e2.keeps kp⟩⟩;rw[<-hn,X3]at h1;rw[X3]at e1;obtain⟨p,hp,ep⟩:=Xx.mp h1;rw[hp]at e1;have:=lookup_at ndC hp;rw[ep]at this;show cl.lookup y=a5 q;rw[this];exact e1
  .rw[cu nofun]at ha h1;rw[<-lenC]at h1;obtain⟨u,hu,r⟩:=rv.get ha;exact⟨u,r,.inl ⟨S.lps y (Xj h1),Fq ndP (by rw[<-rv.length,hl]) h1 hu⟩⟩
 .obtain⟨v,z⟩:=hc.all q (mem2 h);exact⟨v,z.keeps kp⟩
 .unfold start;show _=N.length;rw[Xe,xn,fx];omega
theorem j0r (hr:Room (k+1) A) (e0:Env0 P w K mg base A outer s H) (ho:s.heap.get? a=a5 (W.kla_obj "<lambda>" (qu x) tx.1 tx.2.1 tx.2.2 cl pm c ctv)) (hcd:s.heap.CodeRec (.ref c) (qu x))
  (S:LamScope N ps tx.2.2) (hn:cl.map (·.1)=Q3 tx.2.2) (nd:(cl.map (·.2)).Nodup) (hc:vf s.heap (cl.map (·.2)) cvs) (hf:∀q∈cl.map (·.2),H q=a7)
  (hb:bY (W.kla_fn "<lambda>" (qu x) tx.1 tx.2.1 tx.2.2 cl pm (.ref c) ctv) ⟨us,[]⟩=pure (ps.zip us)) (rv:Vals vs us) (hl:vs.length=ps.length)
  (body:Room k (Z4 P w K mg base N (qu x) tx.2.2 a (.ref c) cl A outer s H).A->Jf (Z4 P w K mg base N (qu x) tx.2.2 a (.ref c) cl A outer s H) tx.2.1 (start N (cvs++vs)) H Q) :
  bR (ar P w) A (.call (.ref a) ⟨us,[]⟩) (CR CX0 outer P w H s Q E) s:=by
 have lim:s.heap.NoLimit:=e0.mod.nolimit.keeps λb o e=>(e0.bs b o e).1;refine W.kla_callFunE (by have:=hr.dp;omega) ho rfl S.co S.gen rfl hcd ?_;rw[hb];refine aC (wpAny_newFunctionEnv S.nocell (λy hy=>S.lps y.1 (c9 (a:=y.1) (b:=y.2) hy).1) (λh1 ns sb=>⟨lim.fresh _ sb,?_⟩) S.kind);show bR _ _ (.expr tx.2.1 (W.envX (qu x) tx.2.2 s.heap.objs.size a (.ref c) cl)) _ _;have kp:∀b o,s.heap.get? b=a5 o->h1.get? b=a5 o:=λb o e=>sb.extBut b o (X6 (xg e)) (xq _ e);have I:=j4r (x:=x) (a:=a) (c:=c) (tk:=s.toks+(ps.zip us).length) hr.hd e0 S hn nd hc hf rv hl ns kp;refine W.kla_codeExpr (aT (body (hr.deeper _) [] _ I) (λu s' ⟨v,H',J,r,q⟩=>?_) λ_ _ z=>z.elim);exact⟨v,H',J.os,J.bare,J.base,J.hok,r,q⟩
end
mutual
noncomputable def noFn:D->Bool
 |.fn _ _=>a6
 |.tup ds=>Qz ds
 |.lst ds=>Qz ds
 |.dct _ ds=>Qz ds
 |_=>a8
noncomputable def Qz:List D->Bool
 |[]=>a8
 |d::ds=>noFn d&&Qz ds
end
section
variable{K:k4n}{H:Hp}{A:List af}
def Cel(H:Hp)(A:List af):Prop:=∀a∈A,∃oc v,H a=a5 (.frz oc (.own 0))/\oc.data=.cell v
theorem Cel.out(hA:Cel H A){b:af}{o:HO}(q:H b=a5 o)(h:∀oc,o≠.frz oc (.own 0)):del H A b=a5 o:=by rw[j8];exact q;intro y;obtain⟨oc,v,e,_⟩:=hA b y;rw[q]at e;exact h oc (aB e)
theorem Cel.seqT(hA:Cel H A){a:af}{xs:List V}(h:SqT K H a xs):SqT K (del H A) a xs:=by
 rcases h with (h|⟨o,h⟩)|h
 .exact .inl (.inl (hA.out h λ_ z=>by cases z))
 .exact .inl (.inr ⟨o,hA.out h λ_ z=>by cases z⟩)
 .exact .inr h
theorem Cel.seq(hA:Cel H A){a:af}{xs:List V}(h:SqL K H a xs):SqL K (del H A) a xs:=by
 rcases h with (h|⟨o,h⟩)|h
 .exact .inl (.inl (hA.out h λ_ z=>by cases z))
 .exact .inl (.inr ⟨o,hA.out h λ_ z=>by cases z⟩)
 .exact .inr h
mutual
theorem Enc.noc(hA:Cel H A):∀{d:D}{v:V},noFn d=a8->Enc K H d v->Enc K (del H A) d v
 |.non,_,_,h=>h
 |.bl _,_,_,h=>h
 |.int _,_,_,h=>h
 |.str _,_,_,h=>h
 |.tup _,_,n,⟨a,xs,e,q,l⟩=>⟨a,xs,e,hA.seqT q,j5.noc hA (by simpa [noFn]using n) l⟩
 |.lst _,_,n,⟨a,xs,e,q,l⟩=>⟨a,xs,e,hA.seq q,j5.noc hA (by simpa [noFn]using n) l⟩
 |.dct _ _,_,n,⟨a,xs,ep,vs,e,q,ek,kt,rv,l⟩=>⟨a,xs,ep,vs,e,hA.out q (λ_ z=>by cases z),ek,λx hx=>hA.seqT (kt x hx),rv,j5.noc hA (by simpa [noFn]using n) l⟩
 |.sct _,_,_,⟨a,e,q⟩=>⟨a,e,hA.out q λ_ z=>by cases z⟩
 |.fn _ _,_,n,_=>by cases n
theorem j5.noc(hA:Cel H A):∀{ds:List D}{xs:List V},Qz ds=a8->j5 K H ds xs->j5 K (del H A) ds xs
 |[],_,_,h=>h
 |d::ds,_,n,⟨x,r,e,h,l⟩=>by rw[Qz,X4]at n;exact⟨x,r,e,Enc.noc hA n.1 h,j5.noc hA n.2 l⟩
end
theorem zr.cel:∀{cs:List af}{vs:List V},zr H cs vs->Cel H cs
 |[],_,_=>λ_ h=>nomatch h
 |c::cs,_,⟨v,r,o,u,e,h,d,rv,l⟩=>λa ha=>(xf.mp ha).elim (λz=>⟨o,_,z▸h,d⟩) (l.cel a)
theorem zr.inn{P:ak}{w:ax}{h:aD}(ok:HOk P w H h):∀{cs:List af}{vs:List V},zr H cs vs->vf h cs vs
 |[],_,e=>e
 |c::cs,_,⟨v,r,o,u,e,q,d,rv,l⟩=>⟨v,r,u,e,⟨o,(show ji P w H h c (.frz o (.own 0))from ok _ _ q).1,d⟩,rv,l.inn ok⟩
theorem zr.of_del{B:List af}:∀{cs:List af}{vs:List V},zr (del H B) cs vs->zr H cs vs:=λh=>h.mono jw
theorem TabOk.fz(h:TabOk K H)(hA:∀a∈A,Fz (H a)):TabOk K (L2.del H A):=λx hx c P z=>by have q:=h x hx c P z;rw[j8];exact q;intro y;rcases hA _ y with ⟨xs,e⟩|⟨oc,v,e,_⟩<;>(rw[q]at e;cases e)
end
def Dt(P:ak)(w:ax)(K:k4n)(mg:k4q)(base:aD)(k:Nat)(x:ag)(S:List D->D->Prop):Prop :=
 ∀(A:az)(outer:List c8)(s:ae)(H:Hp)(a:af)(B:List af)(cs ds:List D) (d:D) (vs:List V) (us:List a9) (Q:VK) (E:XK),Room k A->Env0 P w K mg base A outer s H->TabOk K H->(∀b∈B,∃xs,H b=a5 (.lst xs)) ->
  Enc K (del H B) (.fn x cs) (.ref a)->j5 K (del H B) ds vs->Qz ds=a8->S (cs++ds) d->Vals vs us->(∀v H',j4 H H'->Enc K (del H' B) d v->Q v H')->bR (ar P w) A (.call (.ref a) ⟨us,[]⟩) (CR CX0 outer P w H s Q E) s
section
variable{P:ak}{w:ax}{K:k4n}{mg:k4q}{base:aD}{k:Nat}{x:ag}{S:List D->D->Prop}{tx:Tx}{N ps:List ag}
theorem j7a(ht:Fv K x=a5 tx)(Sc:LamScope N ps tx.2.2)(hl:∀ds d,S ds d->ds.length=N.length)
  (hb:∀(cl:List (ag×af)) (pm:a9) (c:af) (ctv:a9) (us:List a9),us.length=ps.length->bY (W.kla_fn "<lambda>" (qu x) tx.1 tx.2.1 tx.2.2 cl pm (.ref c) ctv) ⟨us,[]⟩=pure (ps.zip us))
  (hbody:∀(a c:af)(cl:List (ag×af)) (A:az) (outer:List c8) (s:ae) (H:Hp),cl.map (·.1)=Q3 tx.2.2->Room k (Z4 P w K mg base N (qu x) tx.2.2 a (.ref c) cl A outer s H).A->∀ds d,S ds d->DT (Z4 P w K mg base N (qu x) tx.2.2 a (.ref c) cl A outer s H) (jt N ds) tx.2.1 d):Dt P w K mg base (k+1) x S:=by
 intro A outer s H a B cs ds d vs us Q E hr e0 tb hB en ea nf hS rv q;obtain⟨a',c,tx',cl,cvs,e,L,l⟩:=en;cases e;have et:tx'=tx:=aB (L.tx.symm.trans ht);subst et;have cs_at:zr H (cl.map (·.2)) cvs:=L.cs.of_del;have hA:∀b∈B++cl.map (·.2),Fz (H b):=λb hb=>(List.mem_append.mp hb).elim (λz=>.inl (hB b z)) λz=>.inr (cs_at.cel b z);obtain⟨e1,back⟩:=Kh e0 hA;obtain⟨pm,ctv,hfo⟩:=L.fo;obtain⟨oc,hco,vs0,t0,hd0,hv0⟩:=L.co;have ho:=(show ji P w H s.heap a (.frz _ (.own 0))from e0.hok _ _ (of_del hfo).2).1;have hcd:s.heap.CodeRec (.ref c) (qu x):=⟨c,oc,vs0,t0,rfl,(show ji P w H s.heap c (.frz oc (.own 0))from e0.hok _ _ (of_del hco).2).1,hd0,hv0⟩
 have ll:=l.length;have la:=ea.length;have hlen:=hl _ _ hS;have lenC:(cl.map (·.2)).length=(Q3 tx'.2.2).length:=by rw[<-L.nm,xn,xn]
 have lcv:=(cs_at.inn e0.hok).length;have hlv:vs.length=ps.length:=by rw[Sc.nm,Xe,Xe]at hlen;omega
 have celB:Cel (del H B) (cl.map (·.2)):=L.cs.cel;have ea1:j5 K (del H (B++cl.map (·.2))) ds vs:=by rw[<-Jw];exact ea.noc celB nf
 have l1:j5 K (del H (B++cl.map (·.2))) cs cvs:=by rw[<-Jw];exact l
 refine bX (j0r (E:=E) (Q:=λv F=>(∀a∈B++cl.map (·.2),F a=a7)->Q v (mrg (B++cl.map (·.2)) H F)) hr e1 ho hcd Sc L.nm L.nd (cs_at.inn e0.hok) (λb hb=>qx (X8 _ hb)) (hb cl pm c ctv us (by rw[<-rv.length];exact hlv)) rv hlv λhrm=>?_) λr s' h=>back Q E E r s' h;refine hbody a c cl A outer s _ L.nm hrm (cs++ds) d hS _ _ _ (Q6 (tb.fz hA) (l1.append ea1)) λv F g en' hF=>q v _ (Yl g) (en'.mono λb o z=>?_);have nb:b∉B++cl.map (·.2):=λy=>by rw[hF b y]at z;cases z
 rw[j8 (λy=>nb (Xm _ y)),jd nb];exact z
end
section
variable{X:Cx}{ρ:Rho}{e:ah}{es:List ah}{d:D}{cs ds:List D}{pos p:aN}{x y:ag}{i k:Nat}
end
section
variable{X:Cx}{pins:k4p}{σ:St}{H:Hp}{s:ae}
structure LMk(X:Cx)(x:ag):Prop where
 mem:x∈Ju
 qual:X.env.qual=x ++ ".<locals>."
 code:∃c P,X.env.code=.ref c/\W.codeHdIn X.K c P=a8/\W.tabIn X.K x=a5 (c,P)
end
def jcz(X:Cx)(ρ:Rho):List (ag×af)->List D->Prop
 |[],ds=>ds=[]
 |p::cl,ds=>∃(d:D)(r:List D)(i:Nat),ds=d::r/\X.N[i]?=a5 p.1/\X.env.scope.names.lookup p.1=a5 .cell/\X.env.cells.lookup p.1=a5 p.2/\X.fn p.1=a8/\ρ[i]?=a5 (.val d)/\jcz X ρ cl r
section
variable{X:Cx}{pins:k4p}{σ:St}{H H2:Hp}{s s2:ae}{ρ:Rho}
end
section
variable{X:Cx}{ρ:Rho}{P:Po}{x:ag}{params:fU}{body:ah}{scope:bg}{cl:List (ag×af)}{ds:List D}{pos p1 p2:aN}
end
section
variable{X:Cx}{ρ:Rho}{e a b c:ah}{es:List ah}{st:aM}{rest sa sb body:List aM}{P:Po}{d:D}{ds ds':List D}{pos p p1 p2 p3:aN}{x:ag}{i:Nat}
theorem DSs.last(h:DS X ρ st P):DSs X ρ [st] P:=.cons h λρ' n=>DSs.nil n
theorem Cal.comp{sp:Sp}{scope:bg}{C:af}{s:ae}{H:Hp}{fp:List af}{pn:k4p}(h:Cal X x sp):Cal (cCx X scope C s H fp pn) x sp:=⟨h.ex⟩
end
theorem Jy(lo:Int)(n:Nat):(upto lo n).length=n:=by unfold upto;rw[xn,Py]
theorem Mv{lo:Int}{n:Nat}{d:D}(h:d∈upto lo n):∃j:Nat,j<n/\d=.int (lo+j):=by unfold upto at h;obtain⟨j,hj,e⟩:=Xk.mp h;exact⟨j,Xz.mp hj,e.symm⟩
theorem Rz{lo:Int}{n j:Nat}{d:D}(h:(upto lo n)[j]?=a5 d):j<n/\d=.int (lo+j):=by
 unfold upto at h;rw[X3]at h;cases z:(aE n)[j]? with
 |none=>rw[z]at h;cases h
 |some k =>rw[z]at h;have hl:=(Xb.mp z).1;rw[Py]at hl;have:=cf (n:=n) (i:=j) hl;rw[this]at z;cases z;cases h;exact⟨hl,rfl⟩
section
variable{X:Cx}{ρ:Rho}{a b tg it:ah}{ds ds':List D}{d:D}{i:Int}{pos:aN}
end
mutual
def vq:D->Prop
 |.tup l=>l.length<=1000/\Jc l
 |.lst l=>l.length<=1000/\Jc l
 |.dct _ _=>False
 |.sct _=>False
 |.fn _ _=>False
 |_=>True
def Jc:List D->Prop
 |[]=>True
 |d::ds=>vq d/\Jc ds
end
theorem Zm:∀{ds:List D}{d:D},Jc ds->d∈ds->vq d
 |x::xs,d,h,m=>by
  simp only[Jc]at h;rcases xf.mp m with e|m
  .subst e;exact h.1
  .exact Zm h.2 m
theorem Wn:∀{ds:List D},(∀d∈ds,vq d)->Jc ds
 |[],_=>by simp only[Jc]
 |x::xs,h=>by simp only[Jc];exact⟨h x (xj ..),Wn λd m=>h d (km _ m)⟩
theorem D.depL_mem:∀{ds:List D}{d:D},d∈ds->d.dep<=D.depL ds
 |x::xs,d,m=>by
  simp only[D.depL];rcases xf.mp m with e|m
  .subst e;omega
  .have:=D.depL_mem m;omega
theorem D.depL_of{n:Nat}:∀{ds:List D},(∀d∈ds,d.dep<=n)->D.depL ds<=n
 |[],_=>by simp only[D.depL];omega
 |x::xs,h=>by simp only[D.depL];have h1:=h x (xj ..);have h2:=D.depL_of (ds:=xs) λd m=>h d (km _ m);omega
end L2
namespace L2
noncomputable def z8(b:Int):Nat->Int->List Int
 |0,_=>[]
 |i+1,n=>(n/b^i%b)::z8 b i n
theorem Z8(b:Int):∀(m:Nat)(n:Int),(z8 b m n).length=m
 |0,_=>rfl
 |m+1,n=>by rw[z8,X5,Z8 b m n]
theorem Uk{b:Int}(hb:0<b):∀{m:Nat}{n v:Int},v∈z8 b m n->0<=v/\v<b
 |m+1,n,v,h=>by
  rw[z8]at h;rcases xf.mp h with e|h
  .subst e;exact⟨Int.emod_nonneg _ nofun,Int.emod_lt_of_pos _ hb⟩
  .exact Uk hb h
theorem j1i(n b:Int)(hb:0<b)(i:Nat):n/b^i/b=n/b^(i+1):=by rw[Int.ediv_ediv_of_nonneg (Int.le_of_lt (fM hb)),iM]
end L2
end
section
namespace L2
open PySem PySem.Spec PyProof.Rows
def CX1(P:ak)(w:ax):CXT:=λouter H s E ev s'=>∃(e:af)(C:a9)(H':Hp),ev=.ref e/\s'.os=s.os/\cY s'.gens/\Un (frs outer) [] H H' s.heap s'.heap/\HOk P w H' s'.heap /\
 Fl (λb=>∃o,s.heap.get? b=a5 o) H' s'.heap e C/\E C a7 H'
theorem ji.get{P:ak}{w:ax}{H:Hp}{h:aD}{a:af}{o:HO}(x:ji P w H h a o):∃u,h.get? a=a5 u:=by
 cases o with
 |lst xs=>obtain⟨_,_,_,_,e⟩:=x;exact⟨_,e⟩
 |tup xs=>obtain⟨_,_,_,⟨_,e,_⟩,_⟩:=x;exact⟨_,e⟩
 |dK kvs=>obtain⟨_,_,_,_,o,_,_,e,_⟩:=x;exact⟨_,e⟩
 |dT kvs=>obtain⟨_,_,_,_,o,_,_,e,_⟩:=x;exact⟨_,e⟩
 |dI xs ep=>obtain⟨_,_,_,o,_,e,_⟩:=x;exact⟨_,e⟩
 |set S n=>obtain⟨o,_,_,_,e,_⟩:=x;exact⟨_,e⟩
 |ins C dx fs=>obtain⟨_,_,_,e,_⟩:=x;exact⟨_,e⟩
 |own y=>obtain⟨_,e⟩:=x;exact⟨_,e⟩
 |xd fs=>obtain⟨_,⟨_,_,_,e,_⟩,_⟩:=x;exact⟨_,e⟩
 |rng lo hi=>obtain⟨_,_,_,e⟩:=x;exact⟨_,e⟩
 |frz ob u=>obtain⟨e,_⟩:=x;exact⟨_,e⟩
 |tbl ps=>exact⟨_,(show h.get? a=a5 _ from x)⟩
 |cod q=>obtain⟨_,e,_⟩:=x;exact⟨_,e⟩
 |met f y=>exact⟨_,(show h.get? a=a5 _ from x)⟩
 |ext φ=>obtain⟨_,⟨_,e⟩,_⟩:=x;exact⟨_,e⟩
section
variable{X:Cx}{pins:k4p}{σ:St}{H:Hp}{s:ae}
theorem Inv.old(I:Inv X pins σ H s){b:af}(h:Old X pins b):∃o,s.heap.get? b=a5 o:=by
 rcases h with ⟨o,q,n⟩|⟨p,hp,rfl⟩|rfl|⟨x,e⟩
 .exact I.base.there b o q n
 .exact⟨_,(I.pin p hp).1⟩
 .obtain⟨m,⟨o,_,_,e,_⟩,_⟩:=I.loc;exact⟨o,e⟩
 .obtain⟨v,o,e,_⟩:=I.cell x b e;exact⟨o,e⟩
end
section
variable{P:ak}{w:ax}{K:k4n}{mg:k4q}{base:aD}{N ps:List ag}{qual:ag}{scope:bg}{f:af}{cd:a9}{A:az}{outer:List c8}{s s':ae}{H H':Hp}{E:XK}{σ:St}{pins:k4p}{e:af}{C:a9}
theorem Ux{as:List af}{h':aD}{a0:a9}(I:Inv (jy (CX1 P w) P w K mg base N qual scope f cd A outer s H E) pins σ H' s')(F:FlQ (flF (jy (CX1 P w) P w K mg base N qual scope f cd A outer s H E).env) (Old (jy (CX1 P w) P w K mg base N qual scope f cd A outer s H E) pins) H' s'.heap e C)
  (hE:E C a7 H') (ha:∀b,b∈as↔b∈frs (bf qual scope s.heap.objs.size f cd::outer)\/(¬(∃o,s.heap.get? b=a5 o)/\H' b=a7/\b∈as)) (hfa:∀b∈frs (bf qual scope s.heap.objs.size f cd::outer),b∈as)
  (hL:Heap.LeftW (W.hideAll s'.heap as) (bf qual scope s.heap.objs.size f cd::outer) e C a0 s'.heap h'):CX1 P w outer H s E (.ref e) { s' with heap:=h' }:=by
 obtain⟨k1,k2,k3,k4⟩:=hL;have fr:∀b∈frs outer,∃o,s'.heap.get? b=a5 o/\∀vs,o.data≠.fields vs:=λb hb=>by obtain⟨o,ho,hd⟩:=(I.stack.mem (show b∈frs (bf qual scope s.heap.objs.size f cd::outer)from km _ hb)).2;exact⟨o,ho,hd⟩
 have sfree:∀b∈frs (bf qual scope s.heap.objs.size f cd::outer),H' b=a7:=I.stkFree;have keep:∀b o,s'.heap.get? b=a5 o->b∉as->h'.get? b=a5 o:=λb o q n=>k1 b o (W.hideAll_get _ q n);have nold:∀b o,s.heap.get? b=a5 o->b∉frs outer->b∉as:=λb o q n z=>by
  rcases(ha b).mp z with z|⟨z,_⟩
  .rcases xf.mp z with z|z
   .have:=xg q;rw[show b=s.heap.objs.size from z]at this;exact absurd this (Xl _)
   .exact n z
  .exact z ⟨o,q⟩
 have ntrk:∀b u,H' b=a5 u->b∉as:=λb u q z=>by
  rcases(ha b).mp z with z|⟨_,z,_⟩
  .rw[sfree b z]at q;cases q
  .rw[z]at q;cases q
 have slot:∀b∈frs outer,∀o,s'.heap.get? b=a5 o->∃sl,h'.get? b=a5 { o with slots:=sl }:=λb hb o q=>by obtain⟨o',ho,hd⟩:=fr b hb;rw[q]at ho;cases ho;exact k4 b o q hd
 have un:=I.base;refine⟨e,C,H',rfl,I.os,I.bare,⟨λb o q n hb _=>keep b o (un.keep b o q n hb (λz=>nomatch z)) (nold b o q hb),λb o q n hb _=>?_,λb o q n _=>un.free b o q n (λz=>nomatch z),λb o q _=>?_,un.tups,un.frzs,un.tbls⟩,
  λa o q=>(I.hok a o q).stay (λb u hb r=>keep b u r ?_) (λ_ z=>z) (λ_ _ z=>z) λ_ _ _ z=>z,?_,hE⟩
 .obtain⟨sl,q'⟩:=un.slot b o q n hb (λz=>nomatch z);obtain⟨sl',q2⟩:=slot b hb _ q';exact⟨sl',q2⟩
 .obtain⟨o',q'⟩:=un.there b o q (λz=>nomatch z);by_cases hb:b∈frs outer
  .obtain⟨sl,q2⟩:=slot b hb _ q';exact⟨_,q2⟩
  .exact⟨_,keep b o' q' (nold b o q hb)⟩
 .rcases hb with rfl|hb
  .exact ntrk _ _ q
  .exact ntrk _ _ hb
 .obtain⟨oe,vs,T,oT,ts,he,⟨hc,h0⟩,hd,h1,hnT,hTe,hT,hdT,h3⟩:=k3;refine⟨λb ⟨o,q⟩=>F.new b (.inl ⟨o,q,λz=>nomatch z⟩),F.free,oe,vs,a0,he,hc,hd,h0,.inr ⟨T,oT,ts,.none,h1,hTe,hT,hdT,⟨h3,rfl⟩,?_,λb ⟨o,q⟩ z=>?_⟩⟩
  .cases r:H' T with
   |none=>rfl
   |some u =>obtain⟨ob,q⟩:=(I.hok T u r).get;rw[W.hideAll_get _ q (ntrk T u r)]at hnT;cases hnT
  .subst z;obtain⟨o',q'⟩:=un.there b o q (λz=>nomatch z);by_cases hb:b∈frs outer
   .obtain⟨o2,q2,nf⟩:=fr b hb;obtain⟨sl,q3⟩:=slot b hb o2 q2;rw[q3]at hT;cases hT;exact nf ts hdT
   .rw[W.hideAll_get _ q' (nold b o q hb)]at hnT;cases hnT
theorem Wo(I:Inv (jy (CX1 P w) P w K mg base N qual scope f cd A outer s H E) pins σ H' s')(F:FlQ (flF (jy (CX1 P w) P w K mg base N qual scope f cd A outer s H E).env) (Old (jy (CX1 P w) P w K mg base N qual scope f cd A outer s H E) pins) H' s'.heap e C)(hE:E C a7 H') :
  (jy (CX1 P w) P w K mg base N qual scope f cd A outer s H E).xe (.ref e) s':=by
 obtain⟨oe,vs,a0,he,hc,hd,h0,hT⟩:=F.obj;have hsN:∀b,(∃o,s.heap.get? b=a5 o)->Old (jy (CX1 P w) P w K mg base N qual scope f cd A outer s H E) pins b:=λb ⟨o,q⟩=>.inl ⟨o,q,λz=>nomatch z⟩;have hin:∀(as:List af),(∀b∈frs (bf qual scope s.heap.objs.size f cd::outer),b∈as)->∀env∈bf qual scope s.heap.objs.size f cd::outer,∀a,env.frame=a5 a->a∈as:=λas h env he a ha=>h a (Xv.mpr ⟨env,he,ha⟩);subst hc;rcases hT with h1|⟨T,oT,ts,fl,h1,hTe,hT,hdT,⟨h3,hfl⟩,hTf,hTn⟩
 .let as:=e::frs (bf qual scope s.heap.objs.size f cd::outer)
  have hfa:∀b∈frs (bf qual scope s.heap.objs.size f cd::outer),b∈as:=λb hb=>km _ hb;refine wpAny_leaving_firstW (base:=W.hideAll s'.heap as) I.ok.frames (W.funFrames_hide I.stack (hin as hfa)) rfl he (λb o q=>W.of_hideAll _ q) (ph _ (xj ..)) hd h1 h0 λh' hL =>Ux I F hE (λb=>⟨λz=>?_,λz=>z.elim (hfa b) λz=>z.2.2⟩) hfa hL
  rcases xf.mp z with e1|z'
  .subst e1;exact .inr ⟨λq=>F.new _ (hsN _ q) rfl,F.free,z⟩
  .exact .inl z'
 .let as:=e::T::frs (bf qual scope s.heap.objs.size f cd::outer)
  have hfa:∀b∈frs (bf qual scope s.heap.objs.size f cd::outer),b∈as:=λb hb=>km _ (km _ hb);have mem:∀b∈as,b∈frs (bf qual scope s.heap.objs.size f cd::outer)\/(¬(∃o,s.heap.get? b=a5 o)/\H' b=a7/\b∈as):=λb z=>by
   rcases xf.mp z with e1|z'
   .subst e1;exact .inr ⟨λq=>F.new _ (hsN _ q) rfl,F.free,z⟩
   .rcases xf.mp z' with e1|z2
    .subst e1;exact .inr ⟨λq=>hTn _ (hsN _ q) rfl,hTf,z⟩
    .exact .inl z2
  have tr:s'.heap.TracedAtW (W.hideAll s'.heap as) e oe.cls a0 fl:=⟨oe,vs,T,oT,ts,he,⟨rfl,h0⟩,hd,h1,ph _ (km _ (xj ..)),hTe,hT,hdT,h3⟩
  rcases hfl with hfl|⟨L,hfL,hfl⟩
  .subst hfl;exact wpAny_leaving_nextW (base:=W.hideAll s'.heap as) (a0:=a0) I.ok.frames (W.funFrames_hide I.stack (hin as hfa)) rfl tr
    (λb o q=>W.of_hideAll _ q) (ph _ (xj ..)) λh' hL =>
    Ux I F hE (λb=>⟨mem b,λz=>z.elim (hfa b) λz=>z.2.2⟩) hfa hL
  .subst hfl;show aw _ _ (leaving _ (.ref e)) _ _ s';unfold leaving;refine ao (gf (base:=W.hideAll s'.heap as) (a0:=a0) hfL tr ?_);exact gw (base:=W.hideAll s'.heap as) (a0:=a0) (λb o q=>W.of_hideAll _ q) (W.funFrames_hide I.stack (hin as hfa)) tr λh' k1 k2 k3 k4 =>Ux I F hE (λb=>⟨mem b,λz=>z.elim (hfa b) λz=>z.2.2⟩) hfa ⟨k1,k2,k3,λb o hb hn=>⟨o.slots,k4 b o hb hn⟩⟩
end
def spX(K:k4n)(mg:k4q)(S:List D->ag->Prop):Sp:=λvs H _ E=>∃ds x C,TabOk K H/\j5 K H ds vs/\S ds x/\mg x=a5 C/\∀H',j4 H H'->E C a7 H'
section
variable{P:ak}{w:ax}{K:k4n}{mg:k4q}{base:aD}{x qual:ag}{st:aM}{f:af}{fd:aH}{N ps:List ag}{k:Nat}
theorem Km{S:List D->ag->Prop}(F:Fun K x qual st f fd)(Sc:FnScope N ps (j0 st))(hl:∀ds y,S ds y->ds.length=ps.length)
  (hbody:∀(cdv:a9)(A:az)(outer:List c8)(s:ae)(H:Hp)(E:XK),Z9 K f cdv->Room k (A.deeper (bf qual (j0 st) s.heap.objs.size f cdv))->∀ds y,S ds y ->
   DSs (jy (CX1 P w) P w K mg base N qual (j0 st) f cdv A outer s H E) (jt N ds) (jb st) { nx:=λ_=>False,rt:=λ_=>False,ex:=λz _=>z=y }):FnOk P w K mg base (CX1 P w) (k+1) f fd ps (spX K mg S):=by
 obtain⟨oc,od,dV,kV,doc,pm,an,cdv,ct,osl,rfl,lk,hcd⟩:=F.ex;refine Dc lk hcd Sc (λvs H Q E ⟨ds,y,C,tb,en,hS,_⟩=>by rw[en.length];exact hl ds y hS) λA outer s H vs Q E hr ⟨ds,y,C,tb,en,hS,hC,hE⟩=>⟨_,Zj,?_⟩
 have ho:=Jb N ds;refine hbody cdv A outer s H E ⟨oc,od,_,osl,lk,rfl⟩ hr ds y hS (start N vs) H _ (Q6 tb en) ⟨λρ' σ' H' n R f=>n.elim,λ_ _ _ z=>z.elim,λ_ _ _ z=>z.elim,λr v H' n z=>n.elim,λz ρ' σ' H' n R g=>?_⟩;cases(show z=y from n);intro pins H2 s' e C' I g2 hC' Fe;cases hC.symm.trans hC';unfold Fr0 at g;rw[ho,zj]at g;exact Wo I Fe (hE H2 ((g.trans jw).trans g2))
end
def DX(X:Cx)(ρ:Rho)(e:ah)(x:ag):Prop:=∀σ H Q,Rep X.K ρ σ H->Yy X σ H x->Jf X e σ H Q
def DXA(X:Cx)(ρ:Rho)(es:List ah)(x:ag):Prop:=∀σ H Q,Rep X.K ρ σ H->Yy X σ H x->Uu X es σ H Q
structure CalX(X:Cx)(x:ag)(sp:Sp):Prop where
 ex:∃(k:Nat)(f:af)(fd:aH)(ps:List ag),FnOk X.prog X.w X.K X.mg X.base (CX1 X.prog X.w) k f fd ps sp/\Room k X.A/\X.mg x=a5 (.ref f)/\W.keepIn X.K (.ref f)=a8/\Binds X.K fd ps []
section
variable{X:Cx}{ρ:Rho}{e:ah}{es:List ah}{f x:ag}{ds:List D}{p pos:aN}{C:a9}
theorem DX.call {S:List D->ag->Prop} (c:CalX X f (spX X.K X.mg S)) (ha:DTA X ρ (e::es) ds) (hS:S ds x) (hC:X.mg x=a5 C) (hg:Gl X f) (hdb:(f==k4r)=a6)
  (he:aa (e::es) X.env=(a6,aG e X.env)::aa es X.env) (hpl:(aS pos (aa es X.env)).any (·.1)=a6):DX X ρ (.Call (.Name f p) (e::es) [] pos) x:=λσ H Q R k pins s I=>by
 obtain⟨n,fa,fd,ps,F,hr,hm,hk,hb⟩:=c.ex;refine bj (Jt I hg hm ?_ hdb);refine W.callWith_K (h₀:=X.base) I.ok.mod.kin hk (thn (ha σ H (λvs H1=>j4 H H1/\j5 X.K H1 ds vs) R (λvs H1 g e=>⟨g,e⟩) pos pins s I) λus s1 ⟨vs,H1,I1,r,g,en⟩=>⟨I1.kIn,?_⟩) he hpl;have sp:spX X.K X.mg S vs H1 (λ_ _=>False) (λC' _ H'=>C'=C/\j4 H1 H'):=⟨ds,x,C,R.tb.mono g,en,hS,hC,λH' g=>⟨rfl,g⟩⟩
 have hl:us.length=ps.length:=by rw[<-r.length];exact F.len _ _ _ _ sp
 have hb':=hb s1 us I1.kIn (by rw[Xn];exact hl);rw[Xn]at hb';refine gW (bX (F.run X.A X.stack s1 H1 ⟨us,[]⟩ us vs _ _ hr I1.env0 hb' r sp) λr s' hq=>?_);cases r with
 |error ev =>obtain⟨e,C',H',rfl,os,bare,un,hok,fl,rfl,g'⟩:=hq;have I':Inv X pins σ H' s':=I1.call' os un hok bare (λb z=>nomatch z);refine k pins H' s' e C' I' (g.trans g') hC (FlQ.up fl (λ_ z=>.inl z) λb hb=>I1.old hb)
 |ok fl =>
  cases fl with
  |ret u=>obtain⟨_,_,_,_,_,_,_,z⟩:=hq;exact z.elim
  |next=>exact aO hq
  |brk=>exact aO hq
  |cont=>exact aO hq
end
section
variable{X:Cx}{ρ:Rho}{e:ah}{es:List ah}{x:ag}{d:D}{p pos np cpos:aN}{P:Po}{i:Int}{y:ag}{ys:List ag}
theorem DE.fmtI(ha:DT X ρ e (.int i))(hi:i.natAbs.log2<1920):DE X ρ (.FormattedValue e (-1) a7 pos) (.str (toString i)):=λσ H Q R q pins s I=>by
 refine dF (thn (ha σ H (λv H1=>v=.int i/\j4 H H1) R (λv H1 g e=>⟨e,g⟩) pins s I) λu s1 ⟨v,H1,I1,r,ev,g⟩=>?_);subst ev;obtain⟨t,rfl⟩:=(show ∃t,u=bh i t from r)
 exact formatField_int_small hi ⟨.str (toString i),H1,I1.un (t':=s1.toks+1+1) Un.refl I1.hok,⟨_,rfl⟩,q _ H1 g rfl⟩
theorem DE.fmtS(ha:DT X ρ e (.str y))(hy:y.length<=ai):DE X ρ (.FormattedValue e (-1) a7 pos) (.str y):=λσ H Q R q pins s I=>by
 refine dF (thn (ha σ H (λv H1=>v=.str y/\j4 H H1) R (λv H1 g e=>⟨e,g⟩) pins s I) λu s1 ⟨v,H1,I1,r,ev,g⟩=>?_);subst ev;obtain⟨t,rfl⟩:=(show ∃t,u=bp y t from r)
 exact formatField_str (λt' tk=>⟨.str y,H1,I1.un (t':=tk) Un.refl I1.hok,⟨_,rfl⟩,q _ H1 g rfl⟩) hy
noncomputable def Ue(out:ag):List ag->ag
 |[]=>out
 |y::ys=>Ue (out++y) ys
def DPs(X:Cx)(ρ:Rho):List ah->List ag->Prop
 |[],[]=>True
 |e::es,y::ys=>DE X ρ e (.str y)/\DPs X ρ es ys
 |_,_=>False
theorem O2:∀{es:List ah}{ys:List ag}{out:ag}{n:Nat}{pins:k4p} {σ:St} {H0 H:Hp} {s:ae} {Q:VK},DPs X ρ es ys->(∀y∈ys,y.length<=10000)->out.length+10000*ys.length<=ai->Inv X pins σ H s->Rep X.K ρ σ H->j4 H0 H ->
  (∀H',j4 H0 H'->Q (.str (Ue out ys)) H')->aw (ar X.prog X.w) X.A (joinParts out (evalEach es X.env)) (EP X pins σ Q) X.xe s
 |[],[],out,n,pins,σ,H0,H,s,Q,_,_,hl,I,R,g,q=>joinParts_nil ⟨.str out,H,I.un (t':=s.toks+1) Un.refl I.hok,⟨_,rfl⟩,q H g⟩ (by have:=hl;omega)
 |e::es,y::ys,out,n,pins,σ,H0,H,s,Q,hp,hy,hl,I,R,g,q=>by
  have hy0:=hy y (xj ..);rw[X5]at hl;refine joinParts_cons (thn (hp.1 σ H (λv H1=>v=.str y/\j4 H H1) R (λv H1 g e=>⟨e,g⟩) pins s I) λu s1 ⟨v,H1,I1,r,ev,g1⟩=>?_);subst ev;obtain⟨t,rfl⟩:=(show ∃t,u=bp y t from r)
  have hz:(out++y).length<=out.length+10000:=by rw[strLen_append];omega
  exact⟨by omega,O2 (n:=n) hp.2 (λz hz=>hy z (km _ hz)) nofun I1 (R.grow g1) (g.trans g1) q⟩
 |[],_::_,_,_,_,_,_,_,_,_,h,_,_,_,_,_,_=>h.elim
 |_::_,[],_,_,_,_,_,_,_,_,h,_,_,_,_,_,_=>h.elim
theorem DE.joined{a b:ah}(h:DPs X ρ (a::b::es) ys)(hy:∀y∈ys,y.length<=10000)(hl:ys.length<=1000):DE X ρ (.JoinedStr (a::b::es) pos) (.str (Ue di ys)):=λσ H Q R q pins s I =>
 JoinedStr_many (O2 (n:=0) (out:=di) h hy (by
  have e:Str.empty.length=0:=rfl
  rw[e,ba];omega) I R (j4.refl H) λH' g=>q _ H' g rfl)
theorem j4v{Q:VK}{σ:St}{H:Hp}(he:Jf X e σ H Q)(hs:aa [e] X.env=[(a6,aG e X.env)]):Uu X [e] σ H (λvs H'=>∃v,vs=[v]/\Q v H') :=
 (j9 (es:=[]) peS jn hs).to λpins s I=>thn (he pins s I) λu s' ⟨v,H',I',r,q⟩=>⟨v,H',I',r,⟨v,rfl,q⟩⟩
theorem DS.raise{C:af}{bm bmN:List a9}{newId B Bn nid initId inN:String}(O:OwnCls x C bm newId X.mg X.base)(Fn:ExcBaseFacts Bn newId inN bmN)(hBn:bm.contains (.type Bn)=a8)(FB:ExcBaseFacts B nid initId bm)(hc:X.calm=a8)
  (ha:∀σ H,Rep X.K ρ σ H->Jf X e σ H λ_ H'=>j4 H H') (hP:P.ex x ρ) (hg:Gl X x) (hdb:(x==k4r)=a6) (he:aa [e] X.env=[(a6,aG e X.env)])
  : DS X ρ (.Raise (a5 (.Call (.Name x np) [e] [] cpos)) a7 pos) P:=λσ H E R q pins s I=>by
 obtain⟨tl,N,nm,qn,bs,hdct,sn,sub,ab,col,dd,k0,k1,k2,k3,k5,mN,hC,hN,hni,T⟩:=O.obj;refine wpAny_Raise_call_subU (C:=C) (nm:=nm) (q:=qn) (N:=N) (bs:=bs) (bm:=tl) (hdct:=hdct) (sn:=sn) (sub:=sub) (ab:=ab) (col:=col) (dd:=dd) (k0:=k0) (k1:=k1) (k2:=k2) (k3:=k3) (k5:=k5)
  Fn hBn FB (mN:=mN) (T.hasType FB.hasBase) (I.ok.hd hc) (by rw[he];rfl) hni (Jt I hg O.bound ⟨rfl,?_⟩ hdb)
 have hsp:=j4v (ha σ H R) he cpos pins s I;rw[he]at hsp ⊢;refine ft (thn hsp λus s2 ⟨vs,H1,I1,r,v,ev,g⟩=>⟨rfl,?_,I1.bk _ _ hC,hN.keeps I1.bk,T.keeps I1.bk,λh' e' hm=>?_⟩)
 .show us.length<=ai;rw[<-r.length,ev];show 1<=ai;rw[ba];omega
 .have nold:∀b,(∃o,s2.heap.get? b=a5 o)->b≠e':=λb ⟨o,q⟩ z=>by rw[z,hm.new]at q;cases q
  obtain⟨t,ht,_,_⟩:=hm.there;refine q.ex x ρ σ H hP R (Fr0.refl _ _) pins H1 { s2 with heap:=h' } e' (.ref C) (I1.un (t':=s2.toks) (Un.kept hm.keeps) (I1.hok.kept hm.keeps)) g O.bound ⟨λb hb=>nold b (I1.old hb),?_,_,_,_,ht,rfl,rfl,rfl,.inl rfl⟩;cases z:H1 e' with
  |none=>rfl
  |some u=>exact absurd rfl (nold e' (I1.hok e' u z).get)
end
structure FlT(N:af->Prop)(H:Hp)(h:aD)(e:af)(C fl:a9):Prop where
 new:∀b,N b->b≠e
 free:H e=a7
 obj:∃(oe:c7)(vs:Array a9)(a0:a9)(T:af)(oT:c7)(ts:Array a9),h.get? e=a5 oe/\oe.cls=C/\oe.data=.fields vs/\vs[0]?=a5 a0/\vs[1]?=a5 (.ref T)/\T≠e/\h.get? T=a5 oT/\oT.data=.fields ts/\ts[3]?=a5 fl /\
  H T=a7/\∀b,N b->b≠T
section
variable{X:Cx}{pins:k4p}{σ:St}{H:Hp}{s:ae}{e:af}{C fl:a9}{M:fS}{A:az}{E:k4o}
theorem Inv.noted{as:List af}{h':aD}(I:Inv X pins σ H s)(ha:∀b∈as,b∈frs X.stack\/(H b=a7/\∀c,Old X pins c->c≠b))
  (keep:∀b o,s.heap.get? b=a5 o->b∉as->h'.get? b=a5 o) (slot:∀b o,s.heap.get? b=a5 o->(∀vs,o.data≠.fields vs)->∃sl,h'.get? b=a5 { o with slots:=sl }):Inv X pins σ H { s with heap:=h' }:=by
 have sf:=I.stkFree;have ntrk:∀b u,H b=a5 u->b∉as:=λb u q z=>by
  rcases ha b z with z|⟨z,_⟩
  .rw[sf b z]at q;cases q
  .rw[z]at q;cases q
 have nold:∀b,Old X pins b->b∉frs X.stack->b∉as:=λb ho nf z=>(ha b z).elim nf λq=>q.2 b ho rfl;have nst:∀b o,X.s₀.heap.get? b=a5 o->b∉X.fs->b∉frs X.stack:=λb o q n z=>by
  rcases xf.mp (I.stkSub b z)with z|z
  .have:=xg q;rw[z]at this;exact absurd (X7 this I.ok.above) (Xl _)
  .exact n z
 have nf:∀b∈frs X.stack,∀o,s.heap.get? b=a5 o->∀vs,o.data≠.fields vs:=λb hb o q=>by obtain⟨o',ho,hd⟩:=(I.stack.mem hb).2;rw[q]at ho;cases ho;exact hd
 have nff:∀b∈X.fs,∀o,s.heap.get? b=a5 o->∀vs,o.data≠.fields vs:=λb hb o q=>by obtain⟨o',ho,hd⟩:=(I.funs.mem hb).2;rw[q]at ho;cases ho;exact hd
 have cel:∀{c:af}{v:Option a9},s.heap.IsCell c v->h'.IsCell c v:=λ{c v} ⟨o,q,hd⟩=>by
  obtain⟨sl,q'⟩:=slot c o q λvs z=>by rw[hd]at z;cases z
  exact⟨_,q',hd⟩
 obtain⟨m,hn,hl⟩:=id I.loc;have up:s.heap.UpToSlots h':=slot;refine⟨I.ok,I.os,I.bare,⟨λb o e n hb hx=>keep b o (I.base.keep b o e n hb hx) (nold b (.inl ⟨o,e,hx⟩) (nst b o e hb)),λb o e n hb hx=>?_,I.base.free,λb o e hx=>?_,I.base.tups,I.base.frzs,I.base.tbls⟩,
  ⟨m,up.ns hn,λi x v h1 h2 h3=>?_⟩,λx c e=>?_,I.free,I.freeC,λp hp=>?_,λa o q=>(I.hok a o q).stay (λb u hb r=>keep b u r ?_) (λ_ z=>z) (λ_ _ z=>z) λ_ _ _ z=>z,I.len⟩
 .obtain⟨sl,e1⟩:=I.base.slot b o e n hb hx;obtain⟨sl',e2⟩:=slot b _ e1 (nff b hb _ e1);exact⟨sl',e2⟩
 .obtain⟨o',e1⟩:=I.base.there b o e hx;by_cases hb:b∈frs X.stack
  .obtain⟨sl,e2⟩:=slot b o' e1 (nf b hb o' e1);exact⟨_,e2⟩
  .exact⟨o',keep b o' e1 (nold b (.inl ⟨o,e,hx⟩) hb)⟩
 .obtain⟨u,r,q⟩:=hl i x v h1 h2 h3;exact⟨u,r,q.imp id λ⟨k,c,e,z⟩=>⟨k,c,e,cel z⟩⟩
 .obtain⟨v,z⟩:=I.cell x c e;exact⟨v,cel z⟩
 .obtain⟨q,n,nl,nfs,d⟩:=I.pin p hp;refine⟨keep p.1 p.2 q (nold p.1 (.inr (.inl ⟨p,hp,rfl⟩)) λz=>?_),n,nl,nfs,d⟩;rcases xf.mp (I.stkSub p.1 z)with z|z
  .exact nl z
  .exact nfs z
 .rcases hb with rfl|hb
  .exact ntrk _ _ q
  .exact ntrk _ _ hb
theorem Yo{as:List af}{h':aD}{a0:a9}(I:Inv X pins σ H s)(hn:∀b,Old X pins b->b≠e)(hf:H e=a7)(ha:∀b∈as,b∈frs X.stack\/(H b=a7/\∀c,Old X pins c->c≠b))(hfa:∀b∈frs X.stack,b∈as)
  (k1:(W.hideAll s.heap as).StaysIn h') (k3:h'.TracedAtW (W.hideAll s.heap as) e C a0 fl) (k4:∀b o,s.heap.get? b=a5 o->(∀vs,o.data≠.fields vs)->∃sl,h'.get? b=a5 { o with slots:=sl }) :
  Inv X pins σ H { s with heap:=h' }/\FlT (Old X pins) H h' e C fl:=by
 have keep:∀b o,s.heap.get? b=a5 o->b∉as->h'.get? b=a5 o:=λb o q n=>k1 b o (W.hideAll_get _ q n);refine⟨I.noted ha keep k4,hn,hf,?_⟩;obtain⟨oe,vs,T,oT,ts,he,⟨hc,h0⟩,hd,h1,hnT,hTe,hT,hdT,h3⟩:=k3;refine⟨oe,vs,a0,T,oT,ts,he,hc,hd,h0,h1,hTe,hT,hdT,h3,?_,λb hb z=>?_⟩
 .cases r:H T with
  |none=>rfl
  |some u =>
   obtain⟨ob,q⟩:=(I.hok T u r).get;have:T∉as:=λz=>by
    rcases ha T z with z|⟨z,_⟩
    .rw[I.stkFree T z]at r;cases r
    .rw[z]at r;cases r
   rw[W.hideAll_get _ q this]at hnT;cases hnT
 .subst z;obtain⟨o,q⟩:=I.old hb;by_cases hs:b∈as
  .rcases ha b hs with hs|⟨_,z⟩
   .obtain⟨o',ho,nf⟩:=(I.stack.mem hs).2;obtain⟨sl,q3⟩:=k4 b o' ho nf;rw[q3]at hT;cases hT;exact nf ts hdT
   .exact z b hb rfl
  .rw[W.hideAll_get _ q hs]at hnT;cases hnT
theorem W3(I:Inv X pins σ H s){as:List af}(hfa:∀b∈frs X.stack,b∈as):s.heap.FunFrames (W.hideAll s.heap as) X.stack :=
 W.funFrames_hide I.stack λenv he a ha=>hfa a (Xv.mpr ⟨env,he,ha⟩)
theorem U9{e:a9}{env env':c8}(h:env.frame=env'.frame):cH e env=cH e env':=by unfold cH PySem.frameOf;rw[h]
theorem j47{Q:Unit->ae->Prop}{env0:c8}{out0:List c8}{L:af}(I:Inv X pins σ H s)(hst:X.stack=env0::out0)(hfm:env0.frame=a5 L)(hfx:X.env.frame=a5 L)(F:FlQ (flF X.env) (Old X pins) H s.heap e C)
  (h:∀h',Inv X pins σ H { s with heap:=h' }->FlT (Old X pins) H h' e C (rawInt L)->Q () { s with heap:=h' }):aw (ar X.prog X.w) X.A (cH (.ref e) X.env) Q E s:=by
 rw[U9 (hfx.trans hfm.symm)];obtain⟨oe,vs,a0,he,hc,hd,h0,hT⟩:=F.obj;subst hc;have hfr:X.A.frames=a5 (env0::out0):=by rw[<-hst];exact I.ok.frames
 rcases hT with h1|⟨T,oT,ts,fl,h1,hTe,hT,hdT,⟨h3,hfl⟩,hTf,hTn⟩
 .have hfa:∀b∈frs X.stack,b∈e::frs X.stack:=λb hb=>km _ hb;have hl:=W3 I hfa;rw[hst]at hl;unfold cH;simp only[hfm];refine ao (eW he hd h1 ?_);rw[if_neg (by decide)];refine wpAny_entryW (base:=W.hideAll s.heap (e::frs X.stack)) hfr (by rw[<-hst]at hl ⊢;exact hl) hfm he (λb o q=>W.of_hideAll _ q) (ph _ (xj ..)) hd (Array.getElem?_eq_some_iff.mp h1).1 h0 λh' ⟨k1,_,k3,k4⟩=>?_;obtain⟨I',F'⟩:=Yo (as:=e::frs X.stack) I F.new F.free (λb hb=>(xf.mp hb).elim (λz=>.inr ⟨z▸F.free,λc hc=>z▸F.new c hc⟩) .inl) hfa k1 k3 k4;exact h h' I' F'
 .rcases hfl with hfl|⟨L',hL',hfl⟩
  rotate_left
  .subst hfl;cases hfx.symm.trans hL';refine gf (base:=W.hideAll s.heap [T]) (a0:=a0) (cls:=oe.cls) hfm ⟨oe,vs,T,oT,ts,he,⟨rfl,h0⟩,hd,h1,ph _ (xj ..),hTe,hT,hdT,h3⟩ ?_;exact h s.heap I ⟨F.new,F.free,oe,vs,a0,T,oT,ts,he,rfl,hd,h0,h1,hTe,hT,hdT,h3,hTf,hTn⟩
  subst hfl;have hfa:∀b∈frs X.stack,b∈e::T::frs X.stack:=λb hb=>km _ (km _ hb);have hl:=W3 I hfa;refine wpAny_noteFrame_onW (base:=W.hideAll s.heap (e::T::frs X.stack)) (a0:=a0) hfr (by rw[<-hst];exact hl) hfm ⟨oe,vs,T,oT,ts,he,⟨rfl,h0⟩,hd,h1,ph _ (km _ (xj ..)),hTe,hT,hdT,h3⟩
   (λb o q=>W.of_hideAll _ q) (ph _ (xj ..)) λh' ⟨k1,_,k3,k4⟩=>?_
  obtain⟨I',F'⟩:=Yo (as:=e::T::frs X.stack) I F.new F.free (λb hb=>(xf.mp hb).elim (λz=>.inr ⟨z▸F.free,λc hc=>z▸F.new c hc⟩) λhb=>(xf.mp hb).elim (λz=>.inr ⟨z▸hTf,λc hc=>z▸hTn c hc⟩) .inl) hfa k1 k3 k4;exact h h' I' F'
theorem N5{Q:Unit->ae->Prop}(I:Inv X pins σ H s)(F:FlT (Old X pins) H s.heap e C fl)
  (h:∀h',Inv X pins σ H { s with heap:=h' }->FlT (Old X pins) H h' e C .none->Q () { s with heap:=h' }):aw M A (iE (.ref e) a7) Q E s:=by
 obtain⟨oe,vs,a0,T,oT,ts,he,hc,hd,h0,h1,hTe,hT,hdT,h3,hTf,hTn⟩:=F.obj;subst hc;have hfa:∀b∈frs X.stack,b∈e::T::frs X.stack:=λb hb=>km _ (km _ hb);refine gw (base:=W.hideAll s.heap (e::T::frs X.stack)) (a0:=a0) (fl:=fl) (l:=X.stack) (λb o q=>W.of_hideAll _ q) (W3 I hfa)
  ⟨oe,vs,T,oT,ts,he,⟨rfl,h0⟩,hd,h1,ph _ (km _ (xj ..)),hTe,hT,hdT,h3⟩ λh' k1 _ k3 k4=>?_
 obtain⟨I',F'⟩:=Yo (as:=e::T::frs X.stack) I F.new F.free (λb hb=>(xf.mp hb).elim (λz=>.inr ⟨z▸F.free,λc hc=>z▸F.new c hc⟩) λhb=>(xf.mp hb).elim (λz=>.inr ⟨z▸hTf,λc hc=>z▸hTn c hc⟩) .inl) hfa k1 k3
  (λb o q nf=>⟨o.slots,k4 b o q nf⟩)
 exact h h' I' F'
theorem Inv.track{oe:c7}(I:Inv X pins σ H s)(he:s.heap.get? e=a5 oe)(hn:∀b,Old X pins b->b≠e)(hf:H e=a7):Inv X pins σ (upd H e (.frz oe (.own e))) s:=by
 have ne:∀{b:af}{u:HO},H b=a5 u->b≠e:=λ{b u} q z=>by rw[z,hf]at q;cases q
 refine⟨I.ok,I.os,I.bare,⟨I.base.keep,I.base.slot,λb o q n hx=>?_,I.base.there,λb xs q=>?_,λb o u q=>?_,λb ps q=>?_⟩,I.loc,I.cell,?_,λx c q=>?_,λp hp=>?_,λa o q=>?_,I.len⟩
 .rw[jf (hn b (.inl ⟨o,q,hx⟩))];exact I.base.free b o q n hx
 .have z:=I.base.tups b xs q;rw[jf (ne z)];exact z
 .have z:=I.base.frzs b o u q;rw[jf (ne z)];exact z
 .obtain⟨m,z⟩:=I.base.tbls b ps q;exact⟨m,by rw[jf (ne z)];exact z⟩
 .rw[jf (hn _ (.inr (.inr (.inl rfl))))];exact I.free
 .rw[jf (hn _ (.inr (.inr (.inr ⟨x,q⟩))))];exact I.freeC x c q
 .obtain⟨q,n,r⟩:=I.pin p hp;exact⟨q,by rw[jf (hn _ (.inr (.inl ⟨p,hp,rfl⟩)))];exact n,r⟩
 .by_cases z:a=e
  .subst z;rw[jr]at q;cases q;exact⟨he,oe,he⟩
  .rw[jf z]at q;exact(I.hok a o q).stay (λ_ _ _ r=>r) (λb r=>by rw[jf (ne r)];exact r) (λb xs r=>by rw[jf (ne r)];exact r) λb _ _ r=>by rw[jf (ne r)];exact r
theorem j4s{j:Nat}{n:ag}{pos:aN}{Q:Unit->ae->Prop}(I:Inv X pins σ H s)(hN:X.N.Nodup)(hj:X.N[j]?=a5 n)(hk:X.env.kindOf n=a5 .local)
  (h:∀s',Inv X pins (σ.set j a7) H s'->Q () s'):aw M A (do bindName X.env n .none;unbindBehindTheSuite X.env n pos) Q E s:=by
 obtain⟨m,hn,hl⟩:=id I.loc;have hcls:(X.env.scope.kind==.class || (X.env.scope.kind==.module&&X.env.locals != X.env.globals))=a6:=by rw[I.ok.kind];rfl
 refine wpAny_nameGoes_keeps hk hn hcls λh' v hn' hs=>h _ ?_;have cne:=I.cne;refine⟨I.ok,I.os,I.bare,⟨λb o e n hb hx=>?_,λb o e n hb hx=>?_,I.base.free,λb o e hx=>?_,I.base.tups,I.base.frzs,I.base.tbls⟩,⟨_,hn',λi y v' e1 e2 e3=>?_⟩,λy c e=>?_,I.free,I.freeC,λp hp=>?_,λb ob e=>?_,by simpa using I.len⟩
 .exact(hs.2 b (X6 (X7 (xg e) I.ok.above))).trans (I.base.keep b o e n hb hx)
 .obtain⟨sl,e1⟩:=I.base.slot b o e n hb hx;exact⟨sl,(hs.2 b (X6 (X7 (xg e) I.ok.above))).trans e1⟩
 .obtain⟨o',e1⟩:=I.base.there b o e hx;exact⟨o',(hs.2 b (X6 (X7 (xg e) I.ok.above))).trans e1⟩
 .by_cases hij:i=j
  .subst hij;rcases getElem?_set_of e2 with ⟨_,z,_⟩|⟨z,_⟩
   .cases z
   .exact absurd rfl z
  .rw[df (dP hij)]at e2;obtain⟨u',r',q⟩:=hl i y v' e1 e2 e3;refine⟨u',r',?_⟩;rcases q with ⟨k,e⟩|⟨k,c,e,z⟩
   .refine .inl ⟨k,?_⟩;have:y≠n:=λe=>hij (Yp hN e1 (e▸hj));simp[this,e]
   .exact .inr ⟨k,c,e,z.sameBut hs (cne y c e)⟩
 .obtain⟨w',z⟩:=I.cell y c e;exact⟨w',z.sameBut hs (cne y c e)⟩
 .obtain⟨e,n,ne,nf,d⟩:=I.pin p hp;exact⟨(hs.2 p.1 ne).trans e,n,ne,nf,d⟩
 .refine(I.hok b ob e).stay (λc w' hc q=>(hs.2 c ?_).trans q) (λ_ q=>q) (λ_ _ q=>q) λ_ _ _ q=>q;rintro rfl;rcases hc with rfl|hc
  .rw[I.free]at e;cases e
  .rw[I.free]at hc;cases hc
end
end L2
end
section
namespace PySem.W
open PySem PySem.Spec PySem.Calls PyProof.Rows Builtin Builtin.ObjectAttr Builtin.Getset_descriptor
section
variable{prog:ak}{w:ax}{A:az}{E:k4o}{h:aD}{g:Array dE}{d:Drawn}{t:Nat}{os:OsState}{K:jC}{e C:af}
theorem Ko {R:dC->ae->Prop} {tp:a9} (X:K.In h) (LT:Looks (ar prog w) h (typeOf (.ref e)) (.ref C)) (hm:mroIn K C (.type "object")=a5 a8)
  (hq:R (.ok (.ret (.ref C))) ⟨h,g,d,t,os⟩):bR (ar prog w) A (.call (.builtin "getset_descriptor.__get__") ⟨[.builtin "object.__class__",.ref e,tp],[]⟩) R ⟨h,g,d,t,os⟩:=by
 have L1:=looks_mroIn (M:=ar prog w) X hm;refine gH KF.slot_gs.plain KF.entry_gs (KF.slot_gs.check _ _ _ _ _ _ _ _ KF.type_class (KF.args_gs _ _ _) ?_);unfold dH.«getset_descriptor.__get__» descrGet;rw[dga_obj];refine ao (aC ?_);unfold descrGetter descrCheckInstance descrNameAndClass isInstance;simp only[KF.owner_class]
 repeat lk
 refine⟨Code.quiet_builtin _ (by decide +kernel),codeAny_builtin KF.entry_class ?_⟩;unfold dH.«object.__class__» shownTypeOf
 repeat lk
 exact hq
theorem Bc {tk:i9} {o:c7} {Q:Fin->ae->Prop} (X:K.In h) (hx:h.get? e=a5 o) (hc:o.cls=.ref C) (ha:fk K (.ref C) "__class__" = a5 (a5 (.builtin "object.__class__"))) (hm:mroIn K C (.type "object")=a5 a8)
  (hq:Q (.done (.ret (.ref C))) ⟨h,g,d,t,os⟩):aw (ar prog w) A (dH.«object.__getattribute__» ⟨[.ref e,.str "__class__" tk],[]⟩) Q E ⟨h,g,d,t,os⟩:=by
 have hT5:(⟨h,g,d,t,os⟩:ae).TypeIs (.builtin "object.__class__") "getset_descriptor":=fO;have f5:=fO;have f6:=F.slot_gs_get.lookup;have f7:=F.slot_gs_set.lookup;have L1:=g6 (M:=ar prog w) X ha;have LT:Looks (ar prog w) h (typeOf (.ref e)) (.ref C):=hc▸(Looks.ld hx).andThen .now
 repeat (any_goals (first|assumption|(with_reducible refine eF hx ?_;rw[hc])|with_reducible refine L1.at ?_|wp_step))
 refine Ko X LT hm ?_
 repeat (any_goals (first|assumption|wp_step))
theorem j1s {M:fS} {nameV:a9} {o:c7} {Q:Unit->ae->Prop} (X:K.In h) (hx:h.get? e=a5 o) (hc:o.cls=.ref C) (hs:subIn K (.ref C) (.type "BaseException")=a5 a8) (hq:Q () ⟨h,g,d,t,os⟩) :
  aw M A (iG "BaseException.__getattribute__" ⟨[.ref e,nameV],[]⟩) Q E ⟨h,g,d,t,os⟩:=by
 have hk:builtinKind "BaseException.__getattribute__" = a5 .slot:=by decide +kernel
 have hsplit:splitId "BaseException.__getattribute__" = a5 ("BaseException","__getattribute__"):=by decide +kernel
 have L2:=looks_subIn (M:=M) X hs;have ha:=F.args_bexc_ga (.ref e) nameV;simp only[iG,hk,hsplit];refine ao ?_
 .unfold isInstance
  repeat (first|(with_reducible refine eF hx ?_;rw[hc])|with_reducible refine L2.at ?_|wp_step)
  exact hq
theorem j1f {tk:i9} {o:c7} {fill expr:Bool} {Q:k4o} (X:K.In h) (hx:h.get? e=a5 o) (hc:o.cls=.ref C) (hga:fk K (.ref C) "__getattribute__" = a5 (a5 (.builtin "BaseException.__getattribute__")))
  (hgt:fk K (.ref C) "__getattr__" = a5 a7) (hs:subIn K (.ref C) (.type "BaseException")=a5 a8) (ha:fk K (.ref C) "__class__" = a5 (a5 (.builtin "object.__class__"))) (hm:mroIn K C (.type "object")=a5 a8) (hpl:Slot "ValueError" "__getattribute__" "BaseException.__getattribute__")
  (hq:Q (.ref C) ⟨h,g,d,t,os⟩):aw (ar prog w) A (getAttrBy (.ref e) (.str "__class__" tk) fill expr) Q E ⟨h,g,d,t,os⟩:=by
 have f3:=hpl.bind (.ref e);have hx0:(expr&&onTheHeap (cA "BaseException.__getattribute__"))=a6:=by cases expr<;>rfl
 have hx2:(cA "BaseException.__getattribute__" == cA "object.__getattribute__")=a6:=by decide +kernel
 have hx1:(onTheHeap (aF C)&&cA "BaseException.__getattribute__" == cA "object.__getattribute__")=a6:=by rw[hx2];rfl
 have L1:=g6 (M:=ar prog w) X hga;have L2:=g6 (M:=ar prog w) X hgt
 repeat (any_goals (first|assumption|(with_reducible refine eF hx ?_;rw[hc])|with_reducible refine L1.at ?_|with_reducible refine L2.at ?_|wp_step))
 refine gH hpl.plain F.entry_bexc_ga (j1s X hx hc hs (Bc X hx hc ha hm ?_))
 repeat (any_goals (first|assumption|wp_step))
theorem excls_attr {o:c7} {Q:Option a9->ae->Prop} (X:K.In h) (hx:h.get? e=a5 o) (hc:o.cls=.ref C) (hga:fk K (.ref C) "__getattribute__" = a5 (a5 (.builtin "BaseException.__getattribute__")))
  (hgt:fk K (.ref C) "__getattr__" = a5 a7) (hs:subIn K (.ref C) (.type "BaseException")=a5 a8) (ha:fk K (.ref C) "__class__" = a5 (a5 (.builtin "object.__class__"))) (hm:mroIn K C (.type "object")=a5 a8) (hpl:Slot "ValueError" "__getattribute__" "BaseException.__getattribute__")
  (hq:Q (a5 (.ref C)) ⟨h,g,d,t+1,os⟩):aw (ar prog w) A (getAttr? (.ref e) "__class__") Q E ⟨h,g,d,t,os⟩:=by
 unfold getAttr? getAttrBy?;refine ao (wpAny_mkText (ao (jL (j1f X hx hc hga hgt hs ha hm hpl (aC hq)))))
end
end PySem.W
end
section
namespace L2
open PySem PySem.Spec PyProof.Rows
noncomputable def jh:List ag:=["WrongSize","NoAsk","NoWord","Twice","WrongAnswers","Unlike","NoPlace","NoText","WrongPrices","WrongWeights","NoPlan"]
noncomputable def bmV:List a9:=[.type "ValueError",.type "Exception",.type "BaseException",.type "object"]
noncomputable def Ei(K:k4n)(C:af):Bool:=W.findIn K (.ref C) "__getattribute__" == a5 (a5 (.builtin "BaseException.__getattribute__"))&&(W.findIn K (.ref C) "__getattr__" == a5 a7&&(W.subIn K (.ref C) (.type "BaseException")==a5 a8 &&
 (W.findIn K (.ref C) "__class__" == a5 (a5 (.builtin "object.__class__"))&&(W.mroIn K C (.type "object")==a5 a8&&((W.clsIn K C).isSome&&W.excIn K C bmV "ValueError.__new__")))))
noncomputable def J7(K:k4n):Bool:=jh.all λx=>match W.nsIn K aj x with
 |some (a5 (.ref C))=>Ei K C&&(W.kitOne K (.ref C) (.type "ValueError")==a5 a8&&((match W.nsIn K aj "AskError" with
   |some (a5 a)=>W.exmOne K (.ref C) a==a5 a8
   |_=>a6)&&jh.all λc=>match W.nsIn K aj c with
   |some (a5 v)=>W.kitOne K (.ref C) v==a5 (x==c)
   |_=>a8))
 |some (a5 _)=>a6
 |_=>a8
structure XcOk(K:k4n)(C:af):Prop where
 ga:W.findIn K (.ref C) "__getattribute__" = a5 (a5 (.builtin "BaseException.__getattribute__"))
 gt:W.findIn K (.ref C) "__getattr__" = a5 a7
 sub:W.subIn K (.ref C) (.type "BaseException")=a5 a8
 cls:W.findIn K (.ref C) "__class__" = a5 (a5 (.builtin "object.__class__"))
 mro:W.mroIn K C (.type "object")=a5 a8
 is:(W.clsIn K C).isSome=a8
 exc:W.excIn K C bmV "ValueError.__new__" = a8
theorem j36{K:k4n}{C:af}(h:Ei K C=a8):XcOk K C:=by unfold Ei at h;simp only[X4,beq_iff_eq]at h;exact⟨h.1,h.2.1,h.2.2.1,h.2.2.2.1,h.2.2.2.2.1,h.2.2.2.2.2.1,h.2.2.2.2.2.2⟩
structure ExOne(K:k4n)(x:ag)(C:af):Prop where
 ok:XcOk K C
 val:W.kitOne K (.ref C) (.type "ValueError")=a5 a8
 ask:∃a,W.nsIn K aj "AskError" = a5 (a5 a)/\W.exmOne K (.ref C) a=a5 a8
 one:∀c∈jh,∀v,W.nsIn K aj c=a5 (a5 v)->W.kitOne K (.ref C) v=a5 (x==c)
theorem Jv{K:k4n}(h:J7 K=a8){x:ag}{o:a9}(hx:x∈jh)(e:W.nsIn K aj x=a5 (a5 o)):∃C,o=.ref C/\ExOne K x C:=by
 have q:=Xh.mp h x hx;rw[e]at q;cases o with
 |ref C =>
  refine⟨C,rfl,?_⟩;dsimp only at q;simp only[X4,beq_iff_eq]at q;obtain⟨q1,q2,q3,q4⟩:=q;refine⟨j36 q1,q2,?_,λc hc v ev=>?_⟩
  .split at q3
   .rename_i a ea;exact⟨a,ea,beq_iff_eq.mp q3⟩
   .cases q3
  .have z:=Xh.mp q4 c hc;rw[ev]at z;exact beq_iff_eq.mp z
 |_=>cases q
theorem j40{K:k4n}{h₀:aD}{C:af}{bmB:List a9}{newId:String}{x:ag}{mg:k4q}(X:K.In h₀)(hb:mg x=a5 (.ref C))(q:W.excIn K C bmB newId=a8):OwnCls x C bmB newId mg h₀:=by
 refine⟨hb,?_⟩;unfold W.excIn at q;split at q
 .rename_i dd cd sl ho;split at q
  .rename_i C' bm k0 k1 k2 k3 n k5 hm hs;simp only[X4,beq_iff_eq,Bool.not_eq_true']at q;obtain⟨⟨⟨⟨⟨rfl,rfl⟩,hdel⟩,ht⟩,hok⟩,hni⟩:=q;obtain⟨nm,bs,mro,ns,qn,hd,sn,sub,ab,col,del⟩:=cd;dsimp only at hm hdel hok hni;subst hm hdel;have hsl:sl = #[k0,k1,k2,k3,a5 (.builtin n),k5]:=by obtain⟨l⟩:=sl;simp only at hs;rw[hs]
   subst hsl;exact⟨bm,ns,nm,qn,bs,hd,sn,sub,ab,col,dd,k0,k1,k2,k3,k5,_,X _ _ ho,.of_isNs (W.isNs_of_in X hok),W.nsMap_none_of_in X hok hni,W.tail_of_in X ht⟩
  .cases q
 .cases q
theorem DS.raiseE{X:Cx}{ρ:Rho}{e:ah}{x:ag}{o:a9}{np cpos pos:aN}{P:Po}(ha:J7 X.K=a8)(hx:x∈jh)(hn:W.nsIn X.K aj x=a5 (a5 o))(hb:X.mg x=a5 o)(hK:X.K.In X.base)(hc:X.calm=a8)
  (he:∀σ H,Rep X.K ρ σ H->Jf X e σ H λ_ H'=>j4 H H') (hP:P.ex x ρ) (hg:Gl X x) (hdb:(x==k4r)=a6) (hs:aa [e] X.env=[(a6,aG e X.env)]):DS X ρ (.Raise (a5 (.Call (.Name x np) [e] [] cpos)) a7 pos) P:=by
 obtain⟨C,rfl,F⟩:=Jv ha hx hn;exact DS.raise (j40 hK hb F.ok.exc) dR (by decide +kernel) dR hc he hP hg hdb hs
theorem Mz{K:k4n}{e C:af}{o:c7}(k:XcOk K C):gD K (.ref e) (.ref C) (λh=>h.get? e=a5 o/\o.cls=.ref C) where
 ty:=λ_ _ _ p=>p.2▸(PySem.W.Looks.ld p.1).andThen .now
 it:=λ_ _ X _=>by
  obtain⟨cdD,hcD⟩:=Xf.mp k.is;unfold W.clsIn at hcD;split at hcD
  .rename_i c' d' cd' sl' ho;intro A' Q' E' s' k q;unfold isType loadHead;exact ao (wpAny_loadPart (k _ _ (X _ _ ho)) (aC q))
  .cases hcD
 ne:=λh tp dd its n sl X htp=>by
  obtain⟨cdD,hcD⟩:=Xf.mp k.is;refine Bool.eq_false_iff.mpr λq=>?_;have e:C=tp:=Value.ref.inj (beq_iff_eq.mp q);subst e;unfold W.clsIn at hcD;split at hcD
  .rename_i c' d' cd' sl' ho;have z:=(X _ _ ho).symm.trans htp;cases z
  .cases hcD
 ca:=λ{prog w A E Q s} X p hq=>by obtain⟨h,g,d,t,os⟩:=s;exact W.excls_attr X p.1 p.2 k.ga k.gt k.sub k.cls k.mro PySem.F.attr_ValueError.ga hq
section
variable{X:Cx}{pins pins':k4p}{σ:St}{H:Hp}{s:ae}{xe:k4o}{e:af}
theorem Inv.toPn(I:Inv X pins σ H s):Inv { X with pn:=X.pn++pins,xe:=xe } [] σ H s :=
 ⟨⟨I.ok.mod,I.ok.kind,I.ok.glob,I.ok.blt,I.ok.above,I.ok.inj,I.ok.has,I.ok.cab,I.ok.hd,I.ok.frames,I.ok.stk,I.ok.exf,I.ok.bs,I.ok.bsz,I.ok.noex,I.ok.exfs,I.ok.funs,I.ok.frf⟩,
  I.os,I.bare,I.base,I.loc,I.cell,I.free,I.freeC,λp hp=>I.pin p (by rw[Xn]at hp;exact hp),I.hok,I.len⟩
theorem Inv.ofPn(I:Inv { X with pn:=X.pn++pins,xe:=xe } pins' σ H s):Inv X pins σ H s :=
 ⟨⟨I.ok.mod,I.ok.kind,I.ok.glob,I.ok.blt,I.ok.above,I.ok.inj,I.ok.has,I.ok.cab,I.ok.hd,I.ok.frames,I.ok.stk,I.ok.exf,I.ok.bs,I.ok.bsz,I.ok.noex,I.ok.exfs,I.ok.funs,I.ok.frf⟩,
  I.os,I.bare,I.base,I.loc,I.cell,I.free,I.freeC,λp hp=>I.pin p (Xm _ hp),I.hok,I.len⟩
theorem Old.toPn{b:af}(h:Old X pins b):Old { X with pn:=X.pn++pins,xe:=xe } pins' b:=by
 rcases h with h|⟨p,hp,e⟩|h|h
 .exact .inl h
 .exact .inr (.inl ⟨p,Xm _ hp,e⟩)
 .exact .inr (.inr (.inl h))
 .exact .inr (.inr (.inr h))
noncomputable abbrev Cx.hnd(X:Cx)(e:af):Cx:={ X with A:=X.A.mark (a5 (.ref e)),calm:=a6,xe:=λ_ _=>False }
theorem Inv.toH(I:Inv X pins σ H s):Inv (X.hnd e) pins σ H s :=
 ⟨⟨I.ok.mod,I.ok.kind,I.ok.glob,I.ok.blt,I.ok.above,I.ok.inj,I.ok.has,I.ok.cab,(λz=>by cases z),I.ok.frames,I.ok.stk,I.ok.exf,I.ok.bs,I.ok.bsz,I.ok.noex,I.ok.exfs,I.ok.funs,I.ok.frf⟩,
  I.os,I.bare,I.base,I.loc,I.cell,I.free,I.freeC,I.pin,I.hok,I.len⟩
theorem Inv.ofH(ok:X.Ok)(I:Inv (X.hnd e) pins σ H s):Inv X pins σ H s:=⟨ok,I.os,I.bare,I.base,I.loc,I.cell,I.free,I.freeC,I.pin,I.hok,I.len⟩
end
theorem Rep.set_raw{K:k4n}{ρ:Rho}{σ:St}{H:Hp}{i:Nat}{a:af}{o:c7}{x:ag}(R:Rep K ρ σ H)(e:del H (owns ρ) a=a5 (.frz o (.own a)))(hx:W.nsIn K aj x=a5 (a5 o.cls)):Rep K (ρ.set i (.raw a o x)) (σ.set i (a5 (.ref a))) H:=by
 have sub:(owns (ρ.set i (.raw a o x))).Sublist (owns ρ):=jl rfl;have g:j4 (del H (owns ρ)) (del H (owns (ρ.set i (.raw a o x)))):=zp λb hb=>sub.subset hb;refine⟨by simp[R.len],λj d' h=>?_,λj a ds h=>?_,sub.nodup R.nd,λj a' o' x' h=>?_,R.tb⟩
 .rcases getElem?_set_of h with ⟨rfl,z,hl⟩|⟨n,h⟩
  .cases z
  .obtain⟨u,q,h⟩:=R.val j d' h;exact⟨u,by rw[qi n];exact q,h.mono g⟩
 .rcases getElem?_set_of h with ⟨rfl,z,_⟩|⟨n,h⟩
  .cases z
  .obtain⟨q,xs,h,l⟩:=R.own j a ds h;exact⟨by rw[qi n];exact q,xs,h,l.mono g⟩
 .rcases getElem?_set_of h with ⟨rfl,z,hl⟩|⟨n,h⟩
  .cases z;exact⟨Q5 (by rw[R.len];exact hl),.inr ⟨g _ _ e,hx⟩⟩
  .obtain⟨q,h⟩:=R.raw j a' o' x' h;exact⟨by rw[qi n];exact q,h.mono g⟩
section
variable{X:Cx}{ρ:Rho}{i:Nat}{a:af}{o:c7}{x y c c1 c2:ag}{p p1 p2 p3 p4 p5 pos:aN}{k:Bool}
theorem R1:zm X (.builtin "isinstance") (λxs H Q=>∃(a:af)(o:c7)(C:af)(v:V)(u:a9)(b:Bool),xs=[.ref a,v]/\H a=a5 (.frz o (.own a))/\o.cls=.ref C/\XcOk X.K C/\(∀u',RelV v u'->u'=u)/\W.kitOne X.K (.ref C) u=a5 b/\Q (.bl b) H):=by rintro pins s σ H xs us Q I r ⟨a,o,C,v,u,b,e,ha,hc,hk,hv,kk,q⟩;subst e;obtain⟨u1,u2,eu,r1,r2⟩:=vals2 r;subst eu;cases(show u1=aF a from r1);cases hv u2 r2;exact W.kia_one (Mz hk) I.kIn ⟨(I.hok a _ ha).1,hc⟩ kk (λz=>nomatch z) λtk=>⟨.bl b,H,I.tok tk,rfl,q⟩
theorem Iw:zm X (.builtin "isinstance") (λxs H Q=>∃(a t:af)(o:c7)(C C1 C2:af)(b:Bool),xs=[.ref a,.ref t]/\H a=a5 (.frz o (.own a))/\o.cls=.ref C/\XcOk X.K C/\SqT X.K H t [.ref C1,.ref C2]/\W.kitAny X.K (.ref C) [.ref C1,.ref C2]=a5 b/\Q (.bl b) H):=by rintro pins s σ H xs us Q I r ⟨a,t,o,C,C1,C2,b,e,ha,hc,hk,sq,kk,q⟩;subst e;obtain⟨u1,u2,eu,r1,r2⟩:=vals2 r;subst eu;cases(show u1=aF a from r1);cases(show u2=aF t from r2);obtain⟨its,rv,⟨⟨cl,dd,da,sl⟩,h1,h2,n,h3⟩,_⟩:=I.tuple sq;have h2:cl=.type "tuple":=h2;have h3:da=.seq its.toArray n:=h3;subst h2 h3;obtain⟨v1,v2,ei,q1,q2⟩:=vals2 rv;subst ei;cases(show v1=aF C1 from q1);cases(show v2=aF C2 from q2);exact W.kia_tup (Mz hk) I.kIn ⟨(I.hok a _ ha).1,hc⟩ h1 kk (λz=>nomatch z) λtk=>⟨.bl b,H,I.tok tk,rfl,q⟩
theorem Mj{σ:St}{H:Hp}(ha:J7 X.K=a8)(hx:x∈jh)(R:Rep X.K ρ σ H)(h:ρ[i]?=a5 (.raw a o x)):σ[i]?=a5 (a5 (.ref a))/\H a=a5 (.frz o (.own a))/\∃C,o.cls=.ref C/\ExOne X.K x C:=by obtain⟨q,z⟩:=R.raw i a o x h;obtain⟨z,n⟩:=z.resolve_left λe=>absurd (e▸hx) (by decide);obtain⟨C,e,F⟩:=Jv ha hx n;exact⟨q,(of_del z).2,C,e,F⟩
theorem DE.isxV (ha:J7 X.K=a8) (hx:x∈jh) (h:ρ[i]?=a5 (.raw a o x)) (hm:X.mg "isinstance" = a7) (hT:X.mg "ValueError" = a7) (hN:X.N[i]?=a5 y) (hv:Vis X.env.scope y) (hd:(y==k4r)=a6) (hcd:(y==k4s)=a6)
  (hg:Gl X "isinstance") (hg2:Gl X "ValueError") (hs:aa [.Name y p1,.Name "ValueError" p2] X.env=(a6,aG (.Name y p1) X.env)::aa [.Name "ValueError" p2] X.env) (hs2:aa [.Name "ValueError" p2] X.env=(a6,aG (.Name "ValueError" p2) X.env)::aa [] X.env)
  (hpl:(aS pos (aa [.Name "ValueError" p2] X.env)).any (·.1)=a6):DE X ρ (.Call (.Name "isinstance" p) [.Name y p1,.Name "ValueError" p2] [] pos) (.bl a8):=λσ H Q R q=>by
 obtain⟨q1,q2,C,e,F⟩:=Mj ha hx R h;exact(qt R1 hg hm cy (j9 (Ja hN hv hd hcd) (j9 (Rp hg2 hT (by decide +kernel)) jn hs2) hs) (by decide) (by decide) hs hpl).to ⟨.ref a,q1,a,o,C,.ty "ValueError",.type "ValueError",a8,rfl,q2,e,F.ok,λu' r=>r,F.val,q _ H (j4.refl H) rfl⟩
theorem DE.isx1 {v:a9} (ha:J7 X.K=a8) (hx:x∈jh) (h:ρ[i]?=a5 (.raw a o x)) (hm:X.mg "isinstance" = a7) (hc:c∈jh) (hn:W.nsIn X.K aj c=a5 (a5 v)) (hT:X.mg c=a5 v) (hN:X.N[i]?=a5 y) (hv:Vis X.env.scope y) (hd:(y==k4r)=a6) (hcd:(y==k4s)=a6)
  (hg:Gl X "isinstance") (hg2:Gl X c) (hdb:(c==k4r)=a6) (hs:aa [.Name y p1,.Name c p2] X.env=(a6,aG (.Name y p1) X.env)::aa [.Name c p2] X.env) (hs2:aa [.Name c p2] X.env=(a6,aG (.Name c p2) X.env)::aa [] X.env)
  (hpl:(aS pos (aa [.Name c p2] X.env)).any (·.1)=a6):DE X ρ (.Call (.Name "isinstance" p) [.Name y p1,.Name c p2] [] pos) (.bl (x==c)):=λσ H Q R q=>by
 obtain⟨q1,q2,C,e,F⟩:=Mj ha hx R h;obtain⟨C',rfl,_⟩:=Jv ha hc hn;exact(qt R1 hg hm cy (j9 (Ja hN hv hd hcd) (j9 (Vv (v:=.ref C') hg2 hT rfl hdb) jn hs2) hs) (by decide) (by decide) hs hpl).to ⟨.ref a,q1,a,o,C,.ref C',.ref C',x==c,rfl,q2,e,F.ok,λu' r=>r,F.one c hc _ hn,q _ H (j4.refl H) rfl⟩
theorem DE.isx2 {v1 v2:a9} {m:Nat} (ha:J7 X.K=a8) (hx:x∈jh) (h:ρ[i]?=a5 (.raw a o x)) (hm:X.mg "isinstance" = a7) (hc1:c1∈jh) (hc2:c2∈jh) (hn1:W.nsIn X.K aj c1=a5 (a5 v1)) (hn2:W.nsIn X.K aj c2=a5 (a5 v2))
  (hT1:X.mg c1=a5 v1) (hT2:X.mg c2=a5 v2) (hN:X.N[i]?=a5 y) (hv:Vis X.env.scope y) (hd:(y==k4r)=a6) (hcd:(y==k4s)=a6) (hg:Gl X "isinstance") (hg1:Gl X c1) (hg2:Gl X c2) (hdb1:(c1==k4r)=a6) (hdb2:(c2==k4r)=a6)
  (hs:aa [.Name y p1,.Tuple [.Name c1 p2,.Name c2 p3] m p4] X.env=(a6,aG (.Name y p1) X.env)::aa [.Tuple [.Name c1 p2,.Name c2 p3] m p4] X.env)
  (hs2:aa [.Tuple [.Name c1 p2,.Name c2 p3] m p4] X.env=(a6,aG (.Tuple [.Name c1 p2,.Name c2 p3] m p4) X.env)::aa [] X.env) (hpl:(aS pos (aa [.Tuple [.Name c1 p2,.Name c2 p3] m p4] X.env)).any (·.1)=a6)
  (hs3:aa [.Name c1 p2,.Name c2 p3] X.env=(a6,aG (.Name c1 p2) X.env)::aa [.Name c2 p3] X.env) (hs4:aa [.Name c2 p3] X.env=(a6,aG (.Name c2 p3) X.env)::aa [] X.env) :
  DE X ρ (.Call (.Name "isinstance" p) [.Name y p1,.Tuple [.Name c1 p2,.Name c2 p3] m p4] [] pos) (.bl (x==c1 || x==c2)):=λσ H Q R q=>by
 obtain⟨q1,q2,C,e,F⟩:=Mj ha hx R h;obtain⟨C1,rfl,_⟩:=Jv ha hc1 hn1;obtain⟨C2,rfl,_⟩:=Jv ha hc2 hn2;have kk:W.kitAny X.K (.ref C) [.ref C1,.ref C2]=a5 (x==c1 || x==c2):=by
  unfold W.kitAny;rw[F.one c1 hc1 _ hn1];cases(x==c1)
  .unfold W.kitAny;rw[F.one c2 hc2 _ hn2];cases(x==c2)<;>rfl
  .rfl
 exact(qt Iw hg hm cy (j9 (Ja hN hv hd hcd) (j9 (Mm (j9 (Vv (v:=.ref C1) hg1 hT1 rfl hdb1) (j9 (Vv (v:=.ref C2) hg2 hT2 rfl hdb2) jn hs4) hs3)) jn hs2) hs) (by decide) (by decide) hs hpl).to
  ⟨.ref a,q1,by show 2<=ai;decide,λt ht=>⟨a,t,o,C,C1,C2,_,rfl,by rw[jf (λz=>by rw[z,ht]at q2;cases q2)];exact q2,e,F.ok,.inl (.inl jr),kk,q _ _ (j6 ht) rfl⟩⟩
end
structure KindsP(P:ak)(w:ax)(K:k4n)(mg:k4q)(base:aD)(f x:ag)(l:List D):Prop where
 ex:∃fa:af,mg f=a5 (.ref fa)/\W.keepIn K (.ref fa)=a8/\∀(A:az)(outer:List c8)(s:ae)(H:Hp)(e:af)(o:c7),A.depth+4<bx->A.units+150<aX->Env0 P w K mg base A outer s H->TabOk K H ->
  H e=a5 (.frz o (.own e))->W.nsIn K aj x=a5 (a5 o.cls) ->
  bR (ar P w) A (.call (.ref fa) ⟨[.ref e],[]⟩) (CR CX0 outer P w H s (λv H'=>∃a xs,v=.ref a/\j4 H H'/\H a=a7/\H' a=a5 (.lst xs)/\j5 K (del H' [a]) l xs) E0) s
 nl:ju l=a8
abbrev Kinds(X:Cx)(f x:ag)(l:List D):Prop:=KindsP X.prog X.w X.K X.mg X.base f x l
section
variable{X:Cx}{ρ:Rho}{i j:Nat}{e:af}{o:c7}{f x n k A:ag}{l:List D}{P:Po}{body:List aM}{p p1 p2 p3 p4 p5 pos hpos:aN}
theorem DO.kinds (c:Kinds X f x l) (hx:x∈jh) (h:ρ[j]?=a5 (.raw e o x)) (hdp:X.A.depth+4<bx) (hun:X.A.units+150<aX) (hg:Gl X f) (hdb:(f==k4r)=a6) (hN:X.N[j]?=a5 n) (hv:Vis X.env.scope n) (hd:(n==k4r)=a6) (hcd:(n==k4s)=a6)
  (he:aa [.Name n p1] X.env=(a6,aG (.Name n p1) X.env)::aa [] X.env) (hpl:(aS p2 (aa [] X.env)).any (·.1)=a6):DO X ρ (.Call (.Name f p) [.Name n p1] [] p2) l:=λσ H Q R q pins s I=>by
 obtain⟨fa,hm,hk,run⟩:=c.ex;obtain⟨q1,q2⟩:=R.raw j e o x h;obtain⟨q2,q3⟩:=q2.resolve_left λe=>absurd (e▸hx) (by decide);refine bj (Jt I hg hm ?_ hdb);refine W.callWith_K (h₀:=X.base) I.ok.mod.kin hk (thn ((j9 (Ja hN hv hd hcd) jn he).to (σ:=σ) (H:=H) (Q:=λvs H1=>vs=[.ref e]/\H1=H) ⟨.ref e,q1,rfl,rfl⟩ p2 pins s I) λus s1 ⟨vs,H1,I1,r,e1,e2⟩=>⟨I1.kIn,?_⟩) he hpl;subst e1 e2;obtain⟨u,eu,r1⟩:=vals1 r;subst eu;cases(show u=aF e from r1);refine gW (bX (run X.A X.stack s1 H1 e o hdp hun I1.env0 R.tb (of_del q2).2 q3) λr s' hq=>?_);cases r with
 |error e=>exact hq.elim
 |ok fl =>
  cases fl with
  |ret u =>
   obtain⟨v,H',I',rv,a,xs,ev,g,na,m,en⟩:=I1.after hq;refine⟨v,H',I',rv,?_⟩;subst ev;exact q a xs H' g na m ((en.mono jw).hide (λc hc=>by
    rcases xf.mp hc with z|z
    .rw[z];exact .inl ⟨xs,m⟩
    .exact .inl ((R.grow g).owned c z)) c.nl)
  |next=>exact aO hq
  |brk=>exact aO hq
  |cont=>exact aO hq
theorem caught{pins:k4p}{σ:St}{H H0:Hp}{s:ae}{C:a9}{E:Ends}{ρ0:Rho}(ha:J7 X.K=a8)(hx:x∈jh)(hns:W.nsIn X.K aj x=a5 (a5 C))(c:Kinds X f x l)(hst:X.stack=X.env::X.outer)(hfm:X.env.frame=a5 X.env.locals)
  (hdp:X.A.depth+4<bx) (hun:X.A.units+150<aX) (I:Inv X pins σ H s) (R:Rep X.K ρ σ H) (Fe:FlQ (flF X.env) (Old X pins) H s.heap e C) (q:EndsOk X ρ0 H0 P E) (f0:Fr0 ρ0 ρ H0 H)
  (hP:∀oe a,P.nx (((ρ.set j (.raw e oe x)).set i (.own a l)).set j .un)) (hND:X.N.Nodup) (hgA:Gl X "AskError")
  (hg:Gl X f) (hdb:(f==k4r)=a6) (hN:X.N[j]?=a5 n) (hlo:X.env.scope.names.lookup n=a5 .local) (hd:(n==k4r)=a6) (hcd:(n==k4s)=a6)
  (hi:X.N[i]?=a5 k) (hxk:Loc X.env.scope k) (hfk:X.fn k=a8\/X.env.scope.names.lookup k=a5 .local) (hfn:X.fn n=a8\/X.env.scope.names.lookup n=a5 .local)
  (hs:aZ (.Call (.Name f p) [.Name n p1] [] p2) (a5 (.Name k p3)) p4.line X.env=pure a6)
  (he:aa [.Name n p1] X.env=(a6,aG (.Name n p1) X.env)::aa [] X.env) (hpl:(aS p2 (aa [] X.env)).any (·.1)=a6) :
  aw (ar X.prog X.w) X.A (cH (.ref e) X.env) (λ_ s₂=>aw (ar X.prog X.w) X.A (iE (.ref e) a7) (λ_ s₃ =>
   aw (ar X.prog X.w) X.A (handleBy (.ref e) X.env [.ExceptHandler (a5 (.Name "AskError" p5)) (a5 n) [.Assign [.Name k p3] (.Call (.Name f p) [.Name n p1] [] p2) p4] hpos]) (SP X pins E) X.xe s₃) X.xe s₂) X.xe s:=by
 obtain⟨Ca,rfl,F1⟩:=Jv ha hx hns;obtain⟨av,hav,hexm⟩:=F1.ask;have hma:X.mg "AskError" = a5 av:=W.mg_of I.mod.kin I.mod.glob hav;refine j47 I hst hfm hfm Fe λh1 I1 F1'=>?_;refine N5 I1 F1' λh2 I2 F2=>?_;refine wpAny_handleBy_cons (codeAny_handlers_test (Jt (X:=X.hnd e) (Inv.toH I2) hgA hma ?_)) (by intro q;cases q);obtain⟨oe,vs,a0,T,oT,ts,hoe,hoc,_⟩:=F2.obj;refine(W.exm_one I2.kIn (hoc▸(PySem.W.Looks.ld hoe).andThen .now) hexm).here ?_;refine codeAny_handlers_suite_as (N5 (X:=X) I2 F2 λh3 I3 F3=>?_);obtain⟨oe,vs,a0,T,oT,ts,hoe,hoc,_⟩:=F3.obj;have I4:=I3.track hoe F3.new F3.free;have g4:j4 H (upd H e (.frz oe (.own e))):=j6 F3.free;have R4:=R.grow g4;have ho:del (upd H e (.frz oe (.own e))) (owns ρ) e=a5 (.frz oe (.own e)):=by rw[j8 (R.fresh F3.free)];exact jr
 have hcls:W.nsIn X.K aj x=a5 (a5 oe.cls):=by rw[hoc];exact hns
 refine V7 (v:=.ref e) I4 hND hN (.inl hlo) rfl (λs5 I5 _=>?_) hfn;have R5:Rep X.K (ρ.set j (.raw e oe x)) (σ.set j (a5 (.ref e))) (upd H e (.frz oe (.own e))):=R4.set_raw ho hcls;have hj:(ρ.set j (.raw e oe x))[j]?=a5 (.raw e oe x):=Q5 (by
  have z:=(Xb.mp hN).1
  rw[<-R.len,I.len];exact z)
 have suite:DSs (X.hnd e) (ρ.set j (.raw e oe x)) [.Assign [.Name k p3] (.Call (.Name f p) [.Name n p1] [] p2) p4] { nx:=λρ3=>∃a,ρ3=(ρ.set j (.raw e oe x)).set i (.own a l),rt:=λ_=>False } :=
  DSs.last (DS.setO i (DO.kinds (X:=X.hnd e) ⟨c.ex,c.nl⟩ hx hj hdp hun hg hdb hN (.inl hlo) hd hcd he hpl) (λa=>⟨a,rfl⟩) hND hi hxk hs hfk)
 have run:=suite _ _ { nx:=λσ6 H6=>∃a,Rep X.K ((ρ.set j (.raw e oe x)).set i (.own a l)) σ6 H6/\Fr0 (ρ.set j (.raw e oe x)) ((ρ.set j (.raw e oe x)).set i (.own a l)) (upd H e (.frz oe (.own e))) H6,rt:=λ_ _=>False,bk:=λ_ _=>False,ct:=λ_ _=>False } R5
  ⟨λρ' σ' H' ⟨a,er⟩ R' f=>⟨a,er▸R',er▸f⟩,λ_ _ _ z=>z.elim,λ_ _ _ z=>z.elim,λ_ _ _ z=>z.elim,λ_ _ _ _ z=>z.elim⟩ pins s5 (Inv.toH I5)
 refine aT run (λfl s6 h6=>?_) λ_ _ z=>z.elim;cases fl with
 |next =>obtain⟨σ6,H6,I6,a,R6,f6⟩:=h6;refine j4s (X:=X) (Inv.ofH I.ok I6) hND hN hlo λs7 I7=>?_;refine⟨_,H6,I7,q.nx _ _ H6 (hP oe a) R6.set_un ?_⟩;refine f0.trans (j4.trans (Fr0.grow g4) (j4.trans (Fr0.drop λb hb=>(jl rfl).subset hb) (j4.trans f6 (Fr0.drop λb hb=>(jl rfl).subset hb))))
 |ret u=>obtain⟨_,_,_,_,_,_,_,z⟩:=h6;exact z.elim
 |brk=>obtain⟨_,_,_,z⟩:=h6;exact z.elim
 |cont=>obtain⟨_,_,_,z⟩:=h6;exact z.elim
end
section
variable{X:Cx}{ρ:Rho}{i j:Nat}{f n k:ag}{P:Po}{body:List aM}{p p1 p2 p3 p4 p5 pos hpos:aN}
noncomputable def Po.caught(P:Po)(X:Cx)(f:ag)(i j:Nat):Po:={ P with ex:=λx ρ'=>x∈jh/\(∃o,W.nsIn X.K aj x=a5 (a5 o))/\∃l,Kinds X f x l/\∀e oe a,P.nx (((ρ'.set j (.raw e oe x)).set i (.own a l)).set j .un) }
theorem DS.tryK(hb:∀pn xe,eT (ar X.prog X.w) X.A X.env xe->DSs { X with pn:=pn,xe:=xe } ρ body (P.caught X f i j))(ha:J7 X.K=a8)(hst:X.stack=X.env::X.outer)(hfm:X.env.frame=a5 X.env.locals)(hdp:X.A.depth+4<bx)(hun:X.A.units+150<aX)
  (hND:X.N.Nodup) (hgA:Gl X "AskError") (hg:Gl X f) (hdb:(f==k4r)=a6) (hN:X.N[j]?=a5 n) (hlo:X.env.scope.names.lookup n=a5 .local) (hd:(n==k4r)=a6) (hcd:(n==k4s)=a6)
  (hi:X.N[i]?=a5 k) (hxk:Loc X.env.scope k) (hfk:X.fn k=a8\/X.env.scope.names.lookup k=a5 .local) (hfn:X.fn n=a8\/X.env.scope.names.lookup n=a5 .local)
  (hs:aZ (.Call (.Name f p) [.Name n p1] [] p2) (a5 (.Name k p3)) p4.line X.env=pure a6)
  (he:aa [.Name n p1] X.env=(a6,aG (.Name n p1) X.env)::aa [] X.env) (hpl:(aS p2 (aa [] X.env)).any (·.1)=a6) :
  DS X ρ (.Try body [.ExceptHandler (a5 (.Name "AskError" p5)) (a5 n) [.Assign [.Name k p3] (.Call (.Name f p) [.Name n p1] [] p2) p4] hpos] [] [] pos) P:=λσ H E R q pins s I=>by
 refine wpAny_Try_except ?_;refine aT (hb (X.pn++pins) (λe s₁=>aw (ar X.prog X.w) X.A (cH e X.env) (λ_ s₂=>aw (ar X.prog X.w) X.A (iE e a7) (λ_ s₃ =>
   aw (ar X.prog X.w) X.A (handleBy e X.env [.ExceptHandler (a5 (.Name "AskError" p5)) (a5 n) [.Assign [.Name k p3] (.Call (.Name f p) [.Name n p1] [] p2) p4] hpos]) (SP X pins E) X.xe s₃) X.xe s₂) X.xe s₁) PassesOwn.looking
  σ H E R ⟨q.nx,q.bk,q.ct,q.rt,λx ρ' σ' H' hP R' f'=>?_⟩ [] s I.toPn) (λfl s1 h1=>?_) λ_ _ z=>z
 .obtain⟨hx,⟨o,ho⟩,l,kd,hnx⟩:=hP;intro pins' H2 s' e C I' g hm Fe;have I2:Inv X pins σ' H2 s':=Inv.ofPn I';have hm2:X.mg x=a5 o:=W.mg_of I2.mod.kin I2.mod.glob ho;cases(show a5 C=a5 o from(show X.mg x=a5 C from hm).symm.trans hm2);exact caught ha hx ho kd hst hfm hdp hun I2 (R'.grow g) (FlQ.up Fe (λ_ z=>z) λb hb=>hb.toPn) q (f'.trans (Fr0.grow g)) (λoe a=>hnx e oe a) hND hgA hg hdb hN hlo hd hcd hi hxk hfk hfn hs he hpl
 .cases fl with
  |next =>obtain⟨σ',H',I',z⟩:=h1;exact(Bu (X:=X)).to z pins s1 (Inv.ofPn I')
  |ret u =>obtain⟨v,σ',H',H2,I',r,x2,z⟩:=h1;exact⟨v,σ',H',H2,Inv.ofPn I',r,x2,z⟩
  |brk=>obtain⟨σ',H',I',z⟩:=h1;exact⟨σ',H',Inv.ofPn I',z⟩
  |cont=>obtain⟨σ',H',I',z⟩:=h1;exact⟨σ',H',Inv.ofPn I',z⟩
end
section
variable{P:ak}{w:ax}{K:k4n}{mg:k4q}{base:aD}{f:af}{g x pn:ag}{st:aM}{fd:aH}{N:List ag}{l:List D}
theorem j3s{H:Hp}{e:af}{o:c7}(tb:TabOk K H)(hN:1<=N.length)(h:H e=a5 (.frz o (.own e)))(hx:W.nsIn K aj x=a5 (a5 o.cls)):Rep K (.raw e o x::aq (N.length-1) .un) (start N [.ref e]) H:=by
 have ho:owns (.raw e o x::aq (N.length-1) .un)=[]:=by
  rw[jc];show owns _=[]
  exact List.filterMap_eq_nil_iff.mpr λs hs=>by rw[(Pj.mp hs).2];rfl
 have un:∀(i:Nat)(s:Sl),(.raw e o x::aq (N.length-1) .un:Rho)[i]?=a5 s->(i=0/\s=.raw e o x)\/s=.un:=λi s q=>by
  cases i with
  |zero=>rw[List.getElem?_cons_zero]at q;cases q;exact .inl ⟨rfl,rfl⟩
  |succ i=>rw[fb]at q;exact .inr (Pj.mp (Xj q)).2
 refine⟨by unfold start;simp,λi d q=>?_,λi a ds q=>?_,by rw[ho];exact gQ,λi a o' x' q=>?_,tb⟩
 .rcases un i _ q with ⟨_,z⟩|z<;>cases z
 .rcases un i _ q with ⟨_,z⟩|z<;>cases z
 .rcases un i _ q with ⟨z,z2⟩|z
  .cases z2;subst z;exact⟨rfl,.inr ⟨by rw[ho,zj];exact h,hx⟩⟩
  .cases z
theorem kinds_of(F:Fun K g g st f fd)(Sc:FnScope N [pn] (j0 st))(hbd:Binds K fd [pn] [])(hm:mg g=a5 (.ref f))(hN:1<=N.length)(hnl:ju l=a8)
  (hbody:∀(cdv:a9)(A:az)(outer:List c8)(s:ae)(H:Hp)(e:af)(o:c7),A.depth+4<bx->A.units+150<aX ->
   DSs { (jy CX0 P w K mg base N g (j0 st) f cdv A outer s H E0).nox with calm:=a6 } (.raw e o x::aq (N.length-1) .un) (jb st) { nx:=λ_=>False,rt:=λr=>r=.fresh l }):KindsP P w K mg base g x l:=by
 refine⟨⟨f,hm,F.kp,λA outer s H e o hdp hun e0 tb he hx=>?_⟩,hnl⟩;obtain⟨oc,od,dV,kV,doc,pm,an,cdv,ct,osl,rfl,lk,hcd⟩:=F.ex;have KX:K.In s.heap:=e0.mod.kin.keeps λb o e=>(e0.bs b o e).1;have lim:s.heap.NoLimit:=e0.mod.nolimit.keeps λb o e=>(e0.bs b o e).1;have hb:=hbd s [.ref e] KX rfl;have hkind:∀y∈[pn].zip [aF e],(j0 st).names.lookup y.1=a5 .local\/((j0 st).names.lookup y.1=a5 .cell/\((aK (s.heap.objs.size+1) (j0 st).names []).lookup y.1).isSome=a8):=λ⟨n,v⟩ hy=>by
  rcases Sc.par n (c9 hy).1 with q|q
  .exact .inl q
  .exact .inr ⟨q,W.cellsFrom_some _ _ _ (.inl q)⟩
 refine gy nofun (KX _ _ lk) rfl Sc.co Sc.gen rfl (W.codeRec_of KX hcd) (hb _ _ _ _ ?_);refine fv Sc.kind hkind λenv henv s1 x1=>?_;subst henv;refine⟨lim.keeps x1.toInCall.keep,codeAny_func ?_⟩;have I:Inv { jy CX0 P w K mg base N g (j0 st) f cdv A outer s H E0 with calm:=a6 } [] (start N [.ref e]) H s1:=Ws Sc a6 (λz=>by cases z) e0 rfl (.cons rfl .nil) x1;have I':Inv { (jy CX0 P w K mg base N g (j0 st) f cdv A outer s H E0).nox with calm:=a6 } [] (start N [.ref e]) H s1 :=
  ⟨⟨I.ok.mod,I.ok.kind,I.ok.glob,I.ok.blt,I.ok.above,I.ok.inj,I.ok.has,I.ok.cab,I.ok.hd,I.ok.frames,I.ok.stk,I.ok.exf,I.ok.bs,I.ok.bsz,I.ok.noex,I.ok.exfs,I.ok.funs,I.ok.frf⟩,
   I.os,I.bare,I.base,I.loc,I.cell,I.free,I.freeC,I.pin,I.hok,I.len⟩
 have ho:owns (.raw e o x::aq (N.length-1) .un)=[]:=by
  rw[jc];show owns _=[]
  exact List.filterMap_eq_nil_iff.mpr λs hs=>by rw[(Pj.mp hs).2];rfl
 have run:=hbody cdv A outer s H e o hdp hun (start N [.ref e]) H { nx:=λ_ _=>False,bk:=λ_ _=>False,ct:=λ_ _=>False,rt:=λv H'=>∃a xs,v=.ref a/\j4 H H'/\H a=a7/\H' a=a5 (.lst xs)/\j5 K (del H' [a]) l xs } (j3s tb hN he hx)
  ⟨λ_ _ _ z=>z.elim,λ_ _ _ z=>z.elim,λ_ _ _ z=>z.elim,(λr v H' n z=>by
   cases(show r=.fresh l from n)
   obtain⟨a,xs,e,g,m,en⟩:=z
   rw[ho,zj]at g
   refine⟨a,xs,e,g.trans jw,?_,m,en⟩
   cases y:H a with
   |none=>rfl
   |some o=>have:=g a o y;rw[qx (xu.mpr rfl)]at this;cases this),λ_ _ _ _ z=>z.elim⟩ [] s1 I'
 refine aT run (λfl s' hs=>?_) λ_ _ z=>z.elim;cases fl with
 |ret u =>obtain⟨v,σ',H',H2,J,rv,x,q⟩:=hs;exact⟨v,H2,J.os,J.bare,(J.extOut x).2 rfl,(J.extOut x).1,rv,q⟩
 |next=>obtain⟨_,_,_,q⟩:=hs;exact q.elim
 |brk=>obtain⟨_,_,_,q⟩:=hs;exact q.elim
 |cont=>obtain⟨_,_,_,q⟩:=hs;exact q.elim
end
section
variable{X:Cx}
def jc7:V->Option Int->Option Int->Hp->VK->Prop:=λx lo hi H Q=>∃z,x=.str z/\z.length<=ai/\Q (.str (dn z lo hi)) H
theorem part_of{v:a9}{o:Option Int}(h:dD v o):∃l:Option (Int×i9),v=partValue l/\l.map (·.1)=o:=by
 cases h with
 |none=>exact⟨a7,rfl,rfl⟩
 |int i t=>exact⟨a5 (i,t),rfl,rfl⟩
theorem j5r:SlR X jc7:=by intro pins s σ H x v vl vu lo hi sl Q I rx hs pl pu h;obtain⟨z,ex,hz,q⟩:=h;subst ex;obtain⟨t,ev⟩:=rx;subst ev;obtain⟨l,el,ml⟩:=part_of pl;obtain⟨u,eu,mu⟩:=part_of pu;subst el eu ml mu;obtain⟨o,h1,h2,h3⟩:=hs;refine⟨"str",_,PySem.F.slot_str_getitem.lookup,gY s z t,wpAny_getItem_str_slice (l:=l) (u:=u) (st:=a7) ⟨o,h1,h2,h3⟩ rfl ?_⟩;exact post_val_or_str ⟨Xd (Txt.slice_le z _ _) hz,λt' k=>⟨.str _,H,I.tok k,⟨_,rfl⟩,q⟩⟩
theorem Io (hc:X.calm=a8):zm X (.builtin "sum") (λxs H Q=>∃(lst:Bool)(l:af)(ns:List Int),xs=[.ref l]/\SqB X.K lst H l (ns.map V.int)/\Q (.int ns.sum) H):=by
 rintro pins s σ H xs us Q I r ⟨lst,l,ns,e,sq,q⟩;subst e;obtain⟨u,eu,ru⟩:=vals1 r;subst eu;cases ru;obtain⟨its,rv,pl,_⟩:=I.side sq;have hl:its.length=ns.length:=by rw[<-rv.length,xn]
 have val:∀i v,its.toArray[i]?=a5 v->∃t,v=bh (ns.getD i 0) t:=by
  intro i v hv;have hi:i<its.length:=by obtain⟨h,_⟩:=Array.getElem?_eq_some_iff.mp hv;simpa using h
  have hi':i<ns.length:=by omega
  obtain⟨w1,hw,rw1⟩:=rv.get (x:=.int (ns.getD i 0)) (i:=i) (by rw[X3,kh hi',kj,kh hi'];rfl);have:its.toArray[i]?=a5 w1:=by simpa using hw
  rw[this]at hv;cases hv;exact rw1
 have tot:preSum (λi=>ns.getD i 0) its.toArray.size=ns.sum:=by rw[preSum_getD,fg (by rw[xm];omega)]
 have fin:∀(o:c7)(s':ae)(t':i9),Moved [s.heap.objs.size] (λa b=>b=a) { s with heap:=s.heap.push o } s'->EP X pins σ Q (.int (preSum (λi=>ns.getD i 0) its.toArray.size) t') s':=λo s' t' mv=>by obtain⟨hh,gg,dd,tt,oo⟩:=s';obtain⟨m1,m2,m3,m4,m5⟩:=mv;cases m2;cases m3;cases m4;rw[tot];refine⟨.int _,H,I.kept (t':=tt) λb o e=>m1 b o ?_ (xq _ e),⟨_,rfl⟩,q⟩;intro z;rw[xu.mp z]at e;exact Xl _ (xg e)
 unfold Zg at pl;cases lst with
 |true =>
  rw[if_pos rfl]at pl;have hlt:l<s.heap.objs.size:=by obtain⟨_,e,_⟩:=pl;exact xg e
  refine i6 (cW pl ⟨s.heap.objs.size,[s.heap.objs.size,l],[s.heap.objs.size],_,its.toArray.size,_,_,λi=>ns.getD i 0,rfl,(Walks.list (A:=X.A.in1) (I.ok.hd hc) _ _ (X6 hlt) its.toArray).toS,⟨⟨_,Xc _ rfl,rfl,rfl⟩,pl.push _⟩,?_,val,λs' t' mv=>fin _ s' t' mv⟩);intro b hb;show b<(s.heap.push _).objs.size;rw[bQ];rcases xf.mp hb with z|z
  .rw[z];exact dW _
  .rw[xu.mp z];exact cJ hlt
 |false =>
  rw[if_neg xr]at pl;have hlt:l<s.heap.objs.size:=by obtain⟨_,e,_⟩:=pl;exact xg e
  refine i6 (gU pl ⟨s.heap.objs.size,[s.heap.objs.size,l],[s.heap.objs.size],_,its.toArray.size,_,_,λi=>ns.getD i 0,rfl,(Walks.tuple (A:=X.A.in1) (I.ok.hd hc) _ _ (X6 hlt) its.toArray).toS,⟨⟨_,Xc _ rfl,rfl,rfl⟩,pl.push _⟩,?_,val,λs' t' mv=>fin _ s' t' mv⟩);intro b hb;show b<(s.heap.push _).objs.size;rw[bQ];rcases xf.mp hb with z|z
  .rw[z];exact dW _
  .rw[xu.mp z];exact cJ hlt
end
section
variable{X:Cx}{ρ:Rho}{a b e:ah}{ds:List D}{i j:Int}{pos p p1 p2:aN}{y z:ag}{lo hi:Option ah}{l u:Option Int}
theorem Jl{K:k4n}{H:Hp}:∀{ts:List Int}{xs:List V},j5 K H (ts.map D.int) xs->xs=ts.map V.int
 |[],_,h=>h
 |t::ts,_,⟨x,r,e,h,l⟩=>by subst e;cases(show x=.int t from h);rw[Jl l];rfl
theorem DE.lenS (ha:DT X ρ a (.str y)) (hy:y.length<=ai) (hm:X.mg "len" = a7) (hg:Gl X "len") (hs:aa [a] X.env=[(a6,aG a X.env)]):DE X ρ (.Call (.Name "len" p) [a] [] pos) (.int y.length):=λσ H Q R q =>(qt Oq hg hm eK (j9 peS jn hs) (by decide) (by decide) hs).to (ha σ H _ R λv H1 g1 e1=>⟨y,by rw[show v=.str y from e1],hy,q _ H1 g1 rfl⟩)
theorem DE.catS(ha:DT X ρ a (.str y))(hb:DT X ρ b (.str z))(hl:y.length+z.length<=ai):DE X ρ (.BinOp a .Add b pos) (.str (y++z)):=λσ H Q R q =>(Qx Ff peS peS).to (ha σ H _ R λv H1 g1 e1=>hb σ H1 _ (R.grow g1) λu H2 g2 e2=>⟨y,z,e1,e2,hl,q _ H2 (g1.trans g2) rfl⟩)
theorem DE.ixC{c:Nat}(ha:DT X ρ a (.str y))(hb:DT X ρ b (.int i))(hy:y.length<=ai)(h:L2.atI y.cps.toList i=a5 c)(hs:Y0 b):DE X ρ (.Subscript a b pos) (.str ⟨#[c]⟩):=λσ H Q R q =>(Rq j7h peS peS hs).to (ha σ H _ R λv H1 g1 e1=>hb σ H1 _ (R.grow g1) λu H2 g2 e2=>⟨y,i,c,e1,e2,hy,h,q _ H2 (g1.trans g2) rfl⟩)
theorem DE.sliceS(ha:DT X ρ a (.str y))(hl:DP X ρ lo l)(hu:DP X ρ hi u)(hy:y.length<=ai):DE X ρ (.Subscript a (.Slice lo hi a7 p2) pos) (.str (dn y l u)):=λσ H Q R q =>(Yn j5r peS poS poS).to (ha σ H _ R λv H1 g1 e1=>hl σ H1 _ (R.grow g1) λH2 g2=>hu σ H2 _ (R.grow (g1.trans g2)) λH3 g3=>⟨y,e1,hy,q _ H3 (g1.trans (g2.trans g3)) rfl⟩)
theorem DE.int1 {k:Bool} (ha:DT X ρ a (.bl k)) (hm:X.mg "int" = a7) (hg:Gl X "int") (hs:aa [a] X.env=[(a6,aG a X.env)]):DE X ρ (.Call (.Name "int" p) [a] [] pos) (.int (if k then 1 else 0)):=λσ H Q R q =>(Qy Eb hg hm boot_int (j9 peS jn hs) (by decide) (by decide) hs).to (ha σ H _ R λv H1 g1 e1=>.inr ⟨k,by rw[show v=.bl k from e1],q _ H1 g1 rfl⟩)
theorem DE.sum (lst:Bool) {ns:List Int} (ha:DT X ρ a (D.seq lst (ns.map D.int))) (hm:X.mg "sum" = a7) (hc:X.calm=a8) (hg:Gl X "sum") (hs:aa [a] X.env=[(a6,aG a X.env)]):DE X ρ (.Call (.Name "sum" p) [a] [] pos) (.int ns.sum):=λσ H Q R q =>
 (qt (Io hc) hg hm boot_sum (j9 peS jn hs) (by decide) (by decide) hs).to (ha σ H _ R λv H1 g1 e1=>by
  obtain⟨t,xs,ev,sq,en⟩:=Qf e1
  subst ev
  rw[Jl en]at sq
  exact⟨lst,t,ns,rfl,sq,q _ H1 g1 rfl⟩)
end
section
variable{prog:ak}{w:ax}{A:az}{lst:Bool}{j t:af}{its:Array a9}
end
section
variable{X:Cx}{ρ:Rho}{a b:ah}{es:List ah}{n:Nat}{pos p q1 q2:aN}{ds ds':List D}{lst:Bool}
noncomputable def Df(ds:List D):List D:=ds.zipIdx.map λp=>D.tup [.int (p.2:Int),p.1]
end
section
variable{X:Cx}
theorem j0j:OpR X (aV .FloorDiv) (rI (λ_ j=>0<j/\j<18446744073709551616) λi j=>.int (i/j)):=opI λi j _ _ _ _ _ hc q=>by
 have e:i/j=i.fdiv j:=by rw[eV _ nofun]
 refine floordiv_int nofun (by rw[<-e];exact q) (.inl (PyProof.noPylong_of_log2 ?_))
 have h2:(2:Nat)^64=18446744073709551616:=by decide
 have:=(jA (n:=j.natAbs) (k:=64) nofun).mpr (by rw[h2];omega);omega
end
section
variable{X:Cx}{ρ:Rho}{a b e:ah}{d d':D}{ds:List D}{i j:Int}{pos p p1 p2:aN}{P:Po}
theorem DE.fdivB(ha:DT X ρ a (.int i))(hb:DT X ρ b (.int j))(h:0<j/\j<18446744073709551616):DE X ρ (.BinOp a .FloorDiv b pos) (.int (i/j)):=DE.arI (g:=λi j=>i/j) j0j ha hb h
end
noncomputable def ddS(acc:List ag)(v:ag):List ag:=if acc.any (· == v)=a8 then acc else acc++[v]
noncomputable def dd(ts:List ag):List ag:=ts.foldl ddS []
section
variable{P:ak}{w:ax}{A:az}{I S:af}{fp wr:List af}{Gn:Array dE->Array dE->Prop}{Pv:Nat->a9->Prop}{St:Nat->ae->Prop}{ts:List ag}
end
section
variable{P:ak}{w:ax}{A:az}{E:k4o}{s:ae}
end
section
variable{X:Cx}{ρ:Rho}{a:ah}{p p1 p2 pos:aN}
end
section
variable{prog:ak}{w:ax}{A:az}{E:k4o}{s:ae}{d it vw:af}{od:c7}{es:Array iH}{ep i:Nat}{ok ov:a9}
end
noncomputable def j7l(ks:List (List Int))(ds:List D):List D:=(ks.zip ds).map λp=>D.tup [.tup (p.1.map D.int),p.2]
section
variable{X:Cx}{ρ:Rho}{a b:ah}{es:List ah}{n:Nat}{pos p p1 p2 q1:aN}{ks:List (List Int)}{ds:List D}{k:List Int}
theorem any_range:∀bs:List Bool,(aE bs.length).any (λi=>(bs[i]?).getD a8)=bs.any id
 |[]=>rfl
 |b::bs=>by rw[X5,cZ,bZ,List.any_map,bZ,<-any_range bs];rfl
theorem Be (hc:X.calm=a8):zm X (.builtin "any") (λxs H Q=>∃(l:af)(bs:List Bool),xs=[.ref l]/\SqL X.K H l (bs.map V.bl)/\Q (.bl (bs.any id)) H):=by
 intro pins s σ H xs us Q I r ⟨l,bs,e,sq,q⟩;subst e;obtain⟨u,eu,ru⟩:=vals1 r;subst eu;cases ru;obtain⟨its,rv,pl,_⟩:=I.list sq;have hlt:l<s.heap.objs.size:=by obtain⟨_,_,e,_⟩:=pl;exact xg e
 have hl:its.length=bs.length:=by rw[<-rv.length,xn]
 refine call_any_walk (cW pl.isList ⟨s.heap.objs.size,[s.heap.objs.size,l],[s.heap.objs.size],its.toArray.size,_,_,λi=>(bs[i]?).getD a8,rfl,Walks.list (A:=X.A.in1) (I.ok.hd hc) _ _ (X6 hlt) its.toArray,⟨⟨_,Xc _ rfl,rfl,rfl⟩,pl.isList.push _⟩,?_,λh' tk kp=>?_⟩)
 .intro i v s' Q' E' hv hq;have hi:i<its.length:=by have:=Array.getElem?_eq_some_iff.mp hv;obtain⟨h,_⟩:=this;simpa using h
  have hb:i<bs.length:=by omega
  obtain⟨w1,hw,rw1⟩:=rv.get (x:=.bl bs[i]) (i:=i) (by rw[X3,kh hb];rfl);have:its.toArray[i]?=a5 w1:=by simpa using hw
  rw[this]at hv;cases hv;cases rw1;simp only[kh hb,Ph]at hq;exact bE hq
 .have ev:(aE its.toArray.size).any (λi=>(bs[i]?).getD a8)=bs.any id:=by rw[xm,hl];exact any_range bs
  rw[ev];refine⟨.bl _,H,I.kept (t':=tk) λb o e=>kp b o ?_ (xq _ e),rfl,q⟩;intro z;rw[xu.mp z]at e;exact Xl _ (xg e)
theorem DE.any {bs:List Bool} (ha:DT X ρ a (.lst (bs.map D.bl))) (hm:X.mg "any" = a7) (hc:X.calm=a8) (hg:Gl X "any") (hs:aa [a] X.env=[(a6,aG a X.env)]):DE X ρ (.Call (.Name "any" p) [a] [] pos) (.bl (bs.any id)):=λσ H Q R q =>(qt (Be hc) hg hm boot_any (j9 peS jn hs) (by decide) (by decide) hs).to (ha σ H _ R λv H1 g1 ⟨l,xs,e,sq,en⟩=>⟨l,bs,by rw[e],by rw[Yu en]at sq;exact sq,q _ H1 g1 rfl⟩)
end
section
variable{X:Cx}{pos pos':aN}{o i value:ah}{td ty tv:TE}
end
section
variable{X:Cx}{ρ:Rho}{it e:ah}{P:Po}{ds:List D}{x t y:Nat}{nx nt ny:ag}{n8:Nat}{p1 p2 p3 p4 p5 p6 p7 p8 p9 p10 p11 p12 p13 p14 p15 p16 p17 p18:aN}
end
noncomputable def j2y:List (List Int)->List D->List Int->Option D
 |k'::ks,d::ds,k=>if k'=k then a5 d else j2y ks ds k
 |_,_,_=>a7
section
variable{X:Cx}{ρ:Rho}{a b:ah}{d:D}{ds:List D}{ks:List (List Int)}{k:List Int}{pos p p1 p2 p3:aN}
end
section
variable{prog:ak}{w:ax}{A:az}{E:k4o}{s:ae}{d it vw:af}{od:c7}{es:Array iH}{ep i:Nat}
end
section
variable{prog:ak}{w:ax}{A:az}{E:k4o}{s:ae}{T:String}{r d:af}{n:Nat}{P:Nat->a9->Prop}{OK:aD->Prop}
end
section
variable{X:Cx}{ρ:Rho}{a:ah}{ds:List D}{ks:List (List Int)}{pos p p1 p2:aN}
end
section
variable{X:Cx}{ρ:Rho}{it e1 e2:ah}{P:Po}{ds:List D}{x t y:Nat}{nx nt ny:ag}{p1 p2 p3 p4 p5 p6 p10 p11 p12 p14 p16 p17 p18:aN}
end
section
variable{X:Cx}{ρ:Rho}{a e:ah}{l:List D}{d:D}{p1 pos:aN}
noncomputable def ixD(d:D):List D->Option Nat
 |[]=>a7
 |x::r=>if deq x d=a8 then a5 0 else(ixD d r).map (· + 1)
end
section
variable{X:Cx}{pins:k4p}{σ:St}{H:Hp}{l q S I:af}{xs:List V}{R:dC->ae->Prop}
end
section
variable{X:Cx}{ρ:Rho}{σ:St}{H:Hp}{q:af}{f:ag}{l:List D}{xs:List V}{kf:Nat->Int}{a:ah}{d:D}{p p1 pk pos:aN}
end
section
variable{X:Cx}{pins:k4p}{σ:St}{H:Hp}{l S I:af}{xs:List V}{R:dC->ae->Prop}
end
noncomputable def ja9(l:List (List Int))(i j:Nat):Bool:=HT.lexLt (l.getD i []) (l.getD j [])
section
variable{X:Cx}{ρ:Rho}{a:ah}{l:List (List Int)}{k:List Int}{p pos:aN}
end
section
variable{X:Cx}{ρ:Rho}{it e2:ah}{P:Po}{ds:List D}{x t:Nat}{nx nt:ag}{p1 p2 p3 p4 p10 p11 p12 p14 p16 p17 p18:aN}
end
noncomputable def jcd(p q:Int×List Int):Bool:=if p.1=q.1 then HT.lexLt p.2 q.2 else decide (p.1<q.1)
noncomputable def jcc(l:List (Int×List Int))(i j:Nat):Bool:=jcd (l.getD i (0,[])) (l.getD j (0,[]))
noncomputable def pairD(p:Int×List Int):D:=.tup [.int p.1,.tup (p.2.map D.int)]
section
open PySem.SeqAt
open PySem.AutoSeq1 (wpAny_loadPart')
open PySem.MeetsSeq PySem.MeetsSeq2 PySem.MeetsSeq3
end
section
variable{X:Cx}{ρ:Rho}{a:ah}{l:List (Int×List Int)}{k:Int×List Int}{p pos:aN}
end
section
variable{X:Cx}{ρ:Rho}{a:ah}{p p1 p2 pos:aN}
end
noncomputable def jck(kvs:List (ag×Int))(k:ag):Option Int:=(kvs.find? λp=>decide (p.1=k)).map λp=>p.2
noncomputable def jcn(kvs:List (ag×Int))(k:ag):Bool:=kvs.any λp=>decide (p.1=k)
noncomputable def dput(kvs:List (ag×Int))(k:ag)(n:Int):List (ag×Int):=if jcn kvs k=a8 then kvs.map λp=>if p.1=k then(p.1,n)else p else kvs++[(k,n)]
section
variable{X:Cx}{ρ:Rho}{a b e k:ah}{rest:List aM}{P:Po}{kvs:List (ag×Int)}{z:ag}{n:Int}{i j:Nat}{nx ny:ag}{pos pos' p p1 p2 p3 p4 p5 p6 p7 p8:aN}{td ty tv:TE}{o value:ah}
end
section
variable{prog:ak}{w:ax}{A:az}{E:k4o}{s:ae}
end
section
variable{prog:ak}{w:ax}{A:az}{E:k4o}{s:ae}{l1 l2:Bool}{z TI TO i1 i2 t1 t2 p:af}{f:Bool}{op:c7}{k:Nat}{us vs:Array a9}{x y a b:a9}
end
section
variable{X:Cx}{pins:k4p}{σ:St}{z TI TO i1 i2 t1 t2 d:af}{l1 l2:Bool}{ks:List ag}{ns:List Int}{A:az}{R:dC->ae->Prop}
end
section
variable{X:Cx}{ρ:Rho}{a b:ah}{ks:List ag}{ns:List Int}{p p2 p3 p4:aN}
end
section
variable{X:Cx}{ρ:Rho}{a e:ah}{es:List ah}{x:ag}{d:D}{p p1 p2 pos:aN}{y:ag}{ds:List D}
theorem Yy.grow{σ:St}{H H':Hp}(k:Yy X σ H x)(g:j4 H H'):Yy X σ H' x:=λpins H2 s' e C I g2 hC Fe=>k pins H2 s' e C I (g.trans g2) hC Fe
theorem DXA.head(ha:DX X ρ a x)(hs:aa (a::es) X.env=(a6,aG a X.env)::aa es X.env):DXA X ρ (a::es) x:=λσ H Q R k =>(j9 peS paS hs).to (ha σ H _ R k)
theorem DXA.tail(ha:DT X ρ a d)(h:DXA X ρ es x)(hs:aa (a::es) X.env=(a6,aG a X.env)::aa es X.env):DXA X ρ (a::es) x:=λσ H Q R k =>(j9 peS paS hs).to (ha σ H _ R λv H1 g _=>h σ H1 _ (R.grow g) (k.grow g))
theorem DX.args {f:ag} (ha:DXA X ρ (e::es) x) (hg:Gl X f) (hdb:(f==k4r)=a6) {fa:af} (hfa:X.mg f=a5 (.ref fa)) (hk:W.keepIn X.K (.ref fa)=a8)
  (he:aa (e::es) X.env=(a6,aG e X.env)::aa es X.env) (hpl:(aS pos (aa es X.env)).any (·.1)=a6):DX X ρ (.Call (.Name f p) (e::es) [] pos) x:=λσ H Q R k pins s I=>by
 refine bj (Jt I hg hfa ?_ hdb);exact W.callWith_K (h₀:=X.base) I.ok.mod.kin hk (thn (ha σ H (λ_ _=>False) R k pos pins s I) λus s1 ⟨vs,H1,I1,r,z⟩=>z.elim) he hpl
end
noncomputable def Zk:List Int->Int
 |[]=>0
 |a::r=>r.foldl max a
theorem j0p:∀(r:List Int)(a:Int),a<=r.foldl max a
 |[],a=>jB a
 |b::r,a=>by rw[bN];have:=j0p r (max a b);omega
theorem Wt:∀(r:List Int)(a:Int),r.foldl max a∈a::r/\∀b∈a::r,b<=r.foldl max a
 |[],a=>⟨xu.mpr rfl,λb hb=>by rw[xu.mp hb];exact jB _⟩
 |c::r,a=>by
  rw[bN];obtain⟨h1,h2⟩:=Wt r (max a c);refine⟨?_,λb hb=>?_⟩
  .rcases xf.mp h1 with z|z
   .rw[z];by_cases q:a<=c
    .rw[Int.max_eq_right q];exact km _ xj
    .rw[Int.max_eq_left nofun];exact xj
   .exact km _ (km _ z)
  .have l:=h2 (max a c) xj;rcases xf.mp hb with z|z
   .rw[z];omega
   .rcases xf.mp z with z|z
    .rw[z];omega
    .exact h2 b (km _ z)
theorem Mw{ns:List Int}(h:ns≠[]):Zk ns∈ns/\∀b∈ns,b<=Zk ns:=by
 cases ns with
 |nil=>exact absurd rfl h
 |cons a r=>exact Wt r a
theorem j49{ns:List Int}{M:Int}(h1:M∈ns)(h2:∀a∈ns,a<=M):Zk ns=M:=by
 have hn:ns≠[]:=λe=>by rw[e]at h1;exact nomatch h1
 obtain⟨a,b⟩:=Mw hn;have:=h2 _ a;have:=b _ h1;omega
noncomputable def Vd(ns:List Int):Int:=-Zk (ns.map λn=>-n)
theorem j0l{ns:List Int}(h:ns≠[]):Vd ns∈ns/\∀b∈ns,Vd ns<=b:=by
 obtain⟨h1,h2⟩:=Mw (ns:=ns.map λn=>-n) (by simpa using h);obtain⟨a,ha,e⟩:=Xk.mp h1;unfold Vd;refine⟨?_,λb hb=>?_⟩
 .rw[<-e,Int.neg_neg];exact ha
 .have:=h2 _ (Xk.mpr ⟨b,hb,rfl⟩);omega
theorem j48{ns:List Int}{M:Int}(h1:M∈ns)(h2:∀a∈ns,M<=a):Vd ns=M:=by
 obtain⟨a,b⟩:=j0l (ns:=ns) λe=>by rw[e]at h1;exact nomatch h1
 have:=h2 _ a;have:=b _ h1;omega
section
variable{X:Cx}{ρ:Rho}{a b e:ah}{es:List ah}{x y:ag}{d:D}{i j:Int}{p p1 p2 p3 p4 pk pos:aN}{ds:List D}
theorem j28{pins:k4p}{s:ae}{σ:St}{H:Hp}{l:af}{ns:List Int}(I:Inv X pins σ H s)(sq:SqL X.K H l (ns.map V.int))(hne:ns≠[]):∃zs,s.heap.IsList l (dB zs)/\0<zs.size/\zs.size=ns.length/\∀i,i<zs.size->eX zs i=ns.getD i 0:=by
 obtain⟨its,rv,pl,_⟩:=I.list sq;have hl:its.length=ns.length:=by rw[<-rv.length,xn]
 have val:∀(i:Nat)(v:a9),its[i]?=a5 v->∃t,v=bh (ns.getD i 0) t:=by
  intro i v hv;have hi:i<its.length:=(Xb.mp hv).1;have hi':i<ns.length:=by omega
  obtain⟨w1,hw,rw1⟩:=rv.get (x:=.int (ns.getD i 0)) (i:=i) (by rw[X3,kh hi',kj,kh hi'];rfl);rw[hw]at hv;cases hv;exact rw1
 have hall:AllInts its.toArray:=by intro v hv;obtain⟨i,hi,e⟩:=List.mem_iff_getElem.mp (show v∈its by simpa using hv);obtain⟨t,e'⟩:=val i v (by rw[kh hi,e]);exact⟨_,t,e'⟩
 obtain⟨zs,hz⟩:=hall.items;have pl':=pl.isList;rw[hz]at pl';have hsz:0<zs.size:=by
  have:its.toArray.size=(dB zs).size:=by rw[hz]
  have h1:0<ns.length:=List.length_pos_iff.mpr hne;simp[dB]at this;omega
 have hns:∀i,i<zs.size->eX zs i=ns.getD i 0:=by
  intro i hi;obtain⟨v1,e1⟩:∃v,(dB zs)[i]?=a5 v:=⟨_,Array.getElem?_eq_getElem (by simpa [dB]using hi)⟩
  obtain⟨t,ht⟩:=gG e1;rw[<-hz]at e1;obtain⟨t',ht'⟩:=val i _ (by simpa using e1);rw[ht]at ht';exact(Value.int.inj ht').1
 have len:zs.size=ns.length:=by
  have:its.toArray.size=(dB zs).size:=by rw[hz]
  simp[dB]at this;omega
 exact⟨zs,pl',hsz,len,hns⟩
theorem Iu (hc:X.calm=a8):zm X (.builtin "max") (λxs H Q=>∃(l:af)(ns:List Int),xs=[.ref l]/\SqL X.K H l (ns.map V.int)/\ns≠[]/\Q (.int (Zk ns)) H):=by
 rintro pins s σ H xs us Q I r ⟨l,ns,e,sq,hne,q⟩;subst e;obtain⟨u,eu,ru⟩:=vals1 r;subst eu;cases ru;obtain⟨zs,pl',hsz,len,hns⟩:=j28 I sq hne;refine max_intList (I.ok.hd hc) pl' hsz λv h' tk hv hk=>?_;obtain⟨t,rfl⟩:=gG hv;obtain⟨h1,h2⟩:=argBest_gt (eX zs) (zs.size-1);have hM:Zk ns=eX zs (i7 (λi j=>decide (eX zs i>eX zs j)) (zs.size-1)):=by
  refine j49 ?_ λc hc=>?_
  .rw[hns _ nofun];rw[kj,kh nofun];exact bG _
  .obtain⟨k,hk,rfl⟩:=List.mem_iff_getElem.mp hc;have:=h2 k nofun
   rw[hns k nofun,kj,kh hk]at this;exact this
 rw[hM]at q;exact⟨.int _,H,I.kept hk,⟨t,rfl⟩,q⟩
theorem Ip (hc:X.calm=a8):zm X (.builtin "min") (λxs H Q=>∃(l:af)(ns:List Int),xs=[.ref l]/\SqL X.K H l (ns.map V.int)/\ns≠[]/\Q (.int (Vd ns)) H):=by
 rintro pins s σ H xs us Q I r ⟨l,ns,e,sq,hne,q⟩;subst e;obtain⟨u,eu,ru⟩:=vals1 r;subst eu;cases ru;obtain⟨zs,pl',hsz,len,hns⟩:=j28 I sq hne;refine min_intList (I.ok.hd hc) pl' hsz λv h' tk hv hk=>?_;obtain⟨t,rfl⟩:=gG hv;obtain⟨h1,h2⟩:=argBest_lt (eX zs) (zs.size-1);have hM:Vd ns=eX zs (i7 (λi j=>decide (eX zs i<eX zs j)) (zs.size-1)):=by
  refine j48 ?_ λc hc=>?_
  .rw[hns _ nofun];rw[kj,kh nofun];exact bG _
  .obtain⟨k,hk,rfl⟩:=List.mem_iff_getElem.mp hc;have:=h2 k nofun
   rw[hns k nofun,kj,kh hk]at this;exact this
 rw[hM]at q;exact⟨.int _,H,I.kept hk,⟨t,rfl⟩,q⟩
theorem DE.max2 (ha:DT X ρ a (.int i)) (hb:DT X ρ b (.int j)) (hm:X.mg "max" = a7) (hc:X.calm=a8) (hg:Gl X "max") (hs:aa [a,b] X.env=(a6,aG a X.env)::aa [b] X.env) (hs2:aa [b] X.env=(a6,aG b X.env)::aa [] X.env)
  (hpl:(aS pos (aa [b] X.env)).any (·.1)=a6):DE X ρ (.Call (.Name "max" p) [a,b] [] pos) (.int (if j>i then j else i)):=λσ H Q R q =>
 (qt (Iv hc) hg hm boot_max (j9 peS (j9 peS jn hs2) hs) (by decide) (by decide) hs hpl).to (ha σ H _ R λv H1 g1 e1=>hb σ H1 _ (R.grow g1) λu H2 g2 e2=>⟨i,j,by rw[show v=.int i from e1,show u=.int j from e2],q _ H2 (g1.trans g2) rfl⟩)
theorem DE.maxL {ns:List Int} (ha:DT X ρ a (.lst (ns.map D.int))) (hn:ns≠[]) (hm:X.mg "max" = a7) (hc:X.calm=a8) (hg:Gl X "max") (hs:aa [a] X.env=[(a6,aG a X.env)]):DE X ρ (.Call (.Name "max" p) [a] [] pos) (.int (Zk ns)):=λσ H Q R q =>(qt (Iu hc) hg hm boot_max (j9 peS jn hs) (by decide) (by decide) hs).to (ha σ H _ R λv H1 g1 ⟨l,xs,e,sq,en⟩=>⟨l,ns,by rw[e],by rw[Jl en]at sq;exact sq,hn,q _ H1 g1 rfl⟩)
theorem DE.minL {ns:List Int} (ha:DT X ρ a (.lst (ns.map D.int))) (hn:ns≠[]) (hm:X.mg "min" = a7) (hc:X.calm=a8) (hg:Gl X "min") (hs:aa [a] X.env=[(a6,aG a X.env)]):DE X ρ (.Call (.Name "min" p) [a] [] pos) (.int (Vd ns)):=λσ H Q R q =>(qt (Ip hc) hg hm boot_min (j9 peS jn hs) (by decide) (by decide) hs).to (ha σ H _ R λv H1 g1 ⟨l,xs,e,sq,en⟩=>⟨l,ns,by rw[e],by rw[Jl en]at sq;exact sq,hn,q _ H1 g1 rfl⟩)
end
section
variable{X:Cx}{ρ:Rho}{p1 p2 p3 p4 p5 p6 q1 pos:aN}
end
section
variable{X:Cx}{ρ:Rho}{p1 p2 p3 p4 p5 p6 q1 pos:aN}
end
noncomputable def ch1(c:Nat):ag:=⟨#[c]⟩
noncomputable def chs(y:ag):List D:=y.cps.toList.map λc=>D.str (ch1 c)
noncomputable def ascii(y:ag):Bool:=y.cps.all (· < 128)
noncomputable def Its(y:ag):It:=⟨λi _=>i<y.cps.size,λi H x H'=>H'=H/\∃c,y.cps[i]?=a5 c/\x=.str (ch1 c),λi _=>y.cps.size<=i⟩
theorem Ek {P:ak} {w:ax} {K:k4n} {tg:ah} (it:af) (y:ag) (t:i9):Turn P w K tg (Its y) [it] it (λi h=>h.IsStrIter it "str_ascii_iterator" y t i) where
 mem:=by simp
 obj:=λi h st b hb=>by
  have e:b=it:=by simpa using hb
  subst e;obtain⟨o,e,c,d⟩:=st;exact⟨o,e,λv z=>by rw[d]at z;cases z⟩
 keep:=λi h h' st k=>let ⟨o,e,r⟩:=st;⟨o,k it (by simp) o e,r⟩
 item:=by intro X hP hw hK hc i pins s σ H E I hf st hg;subst hP hw hK;obtain⟨f0,f1,f2,f3,f4,f5⟩:=hf it (by simp);have W:=Walks.strAscii (prog:=X.prog) (w:=X.w) (I.ok.hd hc) it y t;refine W.item i s _ _ hg st λv h' tk hv st' kk=>?_;obtain⟨c,u,hcu,rfl⟩:=hv;have I1:Inv X pins σ H { s with heap:=h',toks:=tk }:=I.turned (λb o hb e=>kk b o (by simpa using hb) e) f0 f1 f3 f4 f5;obtain⟨o,e,oc,d⟩:=id st';exact⟨_,rfl,Ru (s:={ s with heap:=h',toks:=tk }) e oc d (by decide) ⟨.str (ch1 c),H,I1,⟨u,rfl⟩,⟨rfl,c,hcu,rfl⟩,st',λb hb=>(hf b hb).1⟩⟩
 done:=by intro X hP hw hK hc i pins s σ H E I hf st hg;subst hP hw hK;obtain⟨f0,f1,f2,f3,f4,f5⟩:=hf it (by simp);exact wpAny_pyNext_ascii_end (I.ok.hd hc) st (by have:y.cps.size<=i:=hg;simp;omega) λh' eb=>⟨rfl,I.turned (t':=s.toks) (λb o hb e=>eb b o hb e) f0 f1 f3 f4 f5⟩
 self:=λ_ _ _ _ _ st h=>wpAny_pyIter_striter_ascii st h
section
variable{X:Cx}{ρ:Rho}{a b c e tg it:ah}{y z:ag}{i j k:Int}{p p2 pos:aN}
theorem j0v{K:k4n}{F:Hp}(y:ag):Vo K F (Its y) (chs y):=λi H A g hA=>by
 have hl:(chs y).length=y.cps.size:=by unfold chs;rw[xn,Pg]
 rw[hl];refine⟨λh=>h,λh=>h,λx H' ⟨e,c,hc,ex⟩=>?_⟩;subst e ex;refine⟨j4.refl _,λd hd=>?_⟩;unfold chs at hd;rw[X3,fj,hc]at hd;cases hd;rfl
theorem DI.str(h:DT X ρ it (.str y))(ha:ascii y=a8):DI X ρ tg it (chs y):=λσ H R r q pins s I=>by
 refine thn (h σ H (λv H1=>v=.str y/\j4 H H1) r (λv H1 g e=>⟨e,g⟩) pins s I) λv s1 ⟨x,H1,I1,r1,ex,g1⟩=>?_;subst ex;obtain⟨t,rfl⟩:=(show ∃t,v=bp y t from r1)
 refine wpAny_pyIter_ascii ha ?_;refine⟨s1.heap.objs.size,[s1.heap.objs.size],_,_,H1,rfl,I1.kept (t':=s1.toks) λb o e=>xq _ e,Ek _ y t,⟨_,Xc _ rfl,rfl,rfl⟩,λb hb=>?_,q _ H1 g1 (j0v y)⟩;have e:b=s1.heap.objs.size:=by simpa using hb
 subst e;exact I1.fpOk (xx _) (I1.hok.fresh (xx _))
noncomputable def inS(y z:ag):Bool:=!(Builtin.Str.occurrences z y 0 z.length 1).isEmpty
theorem Wi:OpR X (aW .Gt) (λx y H Q=>∃i j,x=.str i/\y=.str j/\Q (.bl (decide (j.cps.toList<i.cps.toList))) H):=by intro pins s σ H x y v u Q I rx ry h;obtain⟨i,j,rfl,rfl,q⟩:=h;obtain⟨t,rfl⟩:=rx;obtain⟨t',rfl⟩:=ry;exact P.gt_str (jj I q rfl)
theorem DE.ltS(ha:DT X ρ a (.str y))(hb:DT X ρ b (.str z)):DE X ρ (.Compare a [.Lt] [b] pos) (.bl (decide (y.cps.toList<z.cps.toList))):=λσ H Q R q =>(vm Wg peS peS (qw _)).to (ha σ H _ R λv H1 g1 e1=>hb σ H1 _ (R.grow g1) λu H2 g2 e2=>⟨y,z,e1,e2,q _ H2 (g1.trans g2) rfl⟩)
theorem DB.ltS(ha:DT X ρ a (.str y))(hb:DT X ρ b (.str z)):DB X ρ (.Compare a [.Lt] [b] pos) (decide (y.cps.toList<z.cps.toList)):=λσ H Q R q =>(vh Wg peS peS (qw _)).to (ha σ H _ R λv H1 g1 e1=>hb σ H1 _ (R.grow g1) λu H2 g2 e2=>⟨y,z,e1,e2,_,rfl,q H2 (g1.trans g2)⟩)
theorem DE.gtS(ha:DT X ρ a (.str y))(hb:DT X ρ b (.str z)):DE X ρ (.Compare a [.Gt] [b] pos) (.bl (decide (z.cps.toList<y.cps.toList))):=λσ H Q R q =>(vm Wi peS peS (qw _)).to (ha σ H _ R λv H1 g1 e1=>hb σ H1 _ (R.grow g1) λu H2 g2 e2=>⟨y,z,e1,e2,q _ H2 (g1.trans g2) rfl⟩)
theorem DB.gtS(ha:DT X ρ a (.str y))(hb:DT X ρ b (.str z)):DB X ρ (.Compare a [.Gt] [b] pos) (decide (z.cps.toList<y.cps.toList)):=λσ H Q R q =>(vh Wi peS peS (qw _)).to (ha σ H _ R λv H1 g1 e1=>hb σ H1 _ (R.grow g1) λu H2 g2 e2=>⟨y,z,e1,e2,_,rfl,q H2 (g1.trans g2)⟩)
theorem DE.inS(ha:DT X ρ a (.str y))(hb:DT X ρ b (.str z))(hm:aJ .In b=a6):DE X ρ (.Compare a [.In] [b] pos) (.bl (inS y z)):=λσ H Q R q =>(vm Wh peS peS hm).to (ha σ H _ R λv H1 g1 e1=>hb σ H1 _ (R.grow g1) λu H2 g2 e2=>⟨y,z,e1,e2,q _ H2 (g1.trans g2) rfl⟩)
theorem DB.inS(ha:DT X ρ a (.str y))(hb:DT X ρ b (.str z))(hm:aJ .In b=a6):DB X ρ (.Compare a [.In] [b] pos) (inS y z):=λσ H Q R q =>(vh Wh peS peS hm).to (ha σ H _ R λv H1 g1 e1=>hb σ H1 _ (R.grow g1) λu H2 g2 e2=>⟨y,z,e1,e2,_,rfl,q H2 (g1.trans g2)⟩)
theorem mulOk_of(h1:1<=k/\k<=1000)(h2:y.length<=1000):MulOk y k:=by
 refine⟨?_,λ_ _=>?_,λ_ _=>?_⟩
 .simp;omega
 .have:(1000:Int)<=(2^63-1)/k:=Int.le_ediv_of_mul_le nofun nofun
  omega
 .have hk:k.toNat<=1000:=by omega
  have:y.length*k.toNat<=1000000:=Nat.mul_le_mul h2 hk;unfold Builtin.Str.tooLong;rw[ba];simp;omega
theorem Fd:OpR X (aV .Mult) (λx y H Q=>∃i k,x=.str i/\y=.int k/\MulOk i k/\Q (.str (g9 i k)) H):=by intro pins s σ H x y v u Q I rx ry h;obtain⟨i,k,rfl,rfl,hm,q⟩:=h;obtain⟨t,rfl⟩:=rx;obtain⟨t',rfl⟩:=ry;exact SB.mul hm λt' tk=>⟨.str _,H,I.un (t':=tk) Un.refl I.hok,⟨_,rfl⟩,q⟩
theorem DE.mulS(ha:DT X ρ a (.str y))(hb:DT X ρ b (.int k))(h1:1<=k/\k<=1000)(h2:y.length<=1000):DE X ρ (.BinOp a .Mult b pos) (.str (g9 y k)):=λσ H Q R q =>(Qx Fd peS peS).to (ha σ H _ R λv H1 g1 e1=>hb σ H1 _ (R.grow g1) λu H2 g2 e2=>⟨y,k,e1,e2,mulOk_of h1 h2,q _ H2 (g1.trans g2) rfl⟩)
end
section
variable{X:Cx}{pins:k4p}{σ:St}{H:Hp}{l S I:af}{xs:List V}{R:dC->ae->Prop}{dv:a9}
end
section
variable{X:Cx}{ρ:Rho}{a b c:ah}{ns:List Int}{i j k:Int}{n:Nat}{p p1 pk pos:aN}
end
section
variable{X:Cx}{ρ ρ1 ρ':Rho}{e c:ah}{ss sa sb:List aM}{is is2:List Nat}{d:D}{i:Nat}{x:ag}{p pos:aN}
def DMs(X:Cx)(ρ ρ':Rho)(is:List Nat)(ss:List aM):Prop:=∀(σ:St)(H:Hp)(E:Ends),Rep X.K ρ σ H->(∀σ' H',j4 H H'->Rep X.K ρ' σ' H'->(∀j,j∉is->σ'[j]?=σ[j]?)->E.nx σ' H')->Qa X ss E σ H
def DMt(X:Cx)(ρ ρ':Rho)(is:List Nat)(full tl:List aM):Prop:=∀(σ:St)(H:Hp)(E:Ends),Rep X.K ρ σ H->(∀σ' H',j4 H H'->Rep X.K ρ' σ' H'->(∀j,j∉is->σ'[j]?=σ[j]?)->Qa X tl E σ' H')->Qa X full E σ H
variable{tl:List aM}
end
def Kp(ρ ρ':Rho)(is:List Nat):Prop:=(∀b∈owns ρ',b∈owns ρ)/\∀j,j∉is->ρ'[j]?=ρ[j]?
section
variable{X:Cx}{ρ ρ1 ρ':Rho}{is js:List Nat}{i:Nat}{d:D}
end
noncomputable def pcF(b:af)(k:Int):List (ag×V):=[("standing",.ref b),("spot",.int k)]
structure Ob where
 a:af
 dx:af
 b:af
structure PcAt(C:af)(H:Hp)(o:Ob)(ls:List ag)(k:Nat):Prop where
 ob:H o.a=a5 (.ins C o.dx (pcF o.b (k:Int)))
 li:H o.b=a5 (.lst (ls.map V.str))
def But(a:af)(H H':Hp):Prop:=∀b o,b≠a->H b=a5 o->H' b=a5 o
structure PcT(K:k4n)(mg:k4q)(C fA fT fL fI:af):Prop where
 cl:Cls K C
 nS:Vn K C "standing"
 nP:Vn K C "spot"
 mA:Meth K C "ahead" fA
 mT:Meth K C "taken" fT
 mL:Meth K C "all_taken" fL
 mkI:Mk K C fI
 mgC:mg "Pieces" = a5 (.ref C)
 len:mg "len" = a7
def Bs(C:af):Sp:=λvs H Q _=>∃(o:Ob)(ls:List ag)(k:Nat),vs=[.ref o.a]/\PcAt C H o ls k/\Q (.str (ls.getD k "")) H
def Bq(C:af):Sp:=λvs H Q _=>∃(o:Ob)(ls:List ag)(k:Nat),vs=[.ref o.a]/\PcAt C H o ls k/\∀H',PcAt C H' o ls (k+1)->But o.a H H'->Q (.str (ls.getD k "")) H'
def j2c(C:af):Sp:=λvs H Q _=>∃(o:Ob)(ls:List ag)(k:Nat),vs=[.ref o.a]/\PcAt C H o ls k/\Q (.bl (decide (ls.length<=k))) H
section
variable{P:ak}{w:ax}{K:k4n}{mg:k4q}{base:aD}{C fA fT fL fI f:af}{fd fdA:aH}{st:aM}
noncomputable def j8y(n:Nat)(p1 p2 p3 p4 p5 p6 p7 p8 p9 p10 p11 p12 p13 p14 p15 p16:aN):List aM :=
 [.If (.Compare (.Attribute (.Name "self" p1) "spot" p2) [.Lt] [.Call (.Name "len" p3) [.Attribute (.Name "self" p4) "standing" p5] [] p6] p7) [.Return (a5 (.Subscript (.Attribute (.Name "self" p8) "standing" p9) (.Attribute (.Name "self" p10) "spot" p11) p12)) p13] [] p14,
 .Return (a5 (.Constant (.str "") n p15)) p16]
def jbj(X:Cx)(o:ah)(m:ag)(apos pos:aN):Prop:=∃pl:gz Bool,aG (.Call (.Attribute o m apos) [] [] pos) X.env=(do
   let ov <-aG o X.env
   i3 apos.atName
   let (f,first) <-i5 [ov] (getMethod ov m pl)
   callWith pos f first (aS pos (aa [] X.env)) (eL pos (cX [] X.env)))
noncomputable def j5l(n:Nat)(p1 p2 p3 p4 p5 p6 p7 p8 p9 p10 p11 p12 p13 p14:aN):List aM :=
 [.Assign [.Name "piece" p1] (.Call (.Attribute (.Name "self" p2) "ahead" p3) [] [] p4) p5,
 .Assign [.Attribute (.Name "self" p6) "spot" p7] (.BinOp (.Attribute (.Name "self" p8) "spot" p9) .Add (.Constant (.int 1) n p10) p11) p12,
 .Return (a5 (.Name "piece" p13)) p14]
noncomputable def allB(p1 p2 p3 p4 p5 p6 p7 p8:aN):List aM:=[.Return (a5 (.Compare (.Attribute (.Name "self" p1) "spot" p2) [.GtE] [.Call (.Name "len" p3) [.Attribute (.Name "self" p4) "standing" p5] [] p6] p7)) p8]
end
section
variable{X:Cx}{ρ:Rho}{a:ah}{p1 p2 p3:aN}{y:ag}
end
section
variable{P:ak}{w:ax}{K:k4n}{mg:k4q}{base:aD}{C fA fT fL fI f:af}{fd:aH}{st:aM}
noncomputable def jah(n n2:Nat)(p1 p2 p3 p4 p5 p6 p7 p8 p9 p10 p11:aN):List aM :=
 [.Assign [.Attribute (.Name "self" p1) "standing" p2] (.Call (.Attribute (.Name "text" p3) "split" p4) [.Constant (.str " ") n p5] [] p6) p7,
 .Assign [.Attribute (.Name "self" p8) "spot" p9] (.Constant (.int 0) n2 p10) p11]
def Br(C:af):Sp:=λvs H Q _=>∃(a dx:af)(t:ag),vs=[.ref a,.str t]/\H a=a5 (.ins C dx [])/\t.length<=100000/\(bT t " ").length<=ai/\∀b H',H b=a7->PcAt C H' ⟨a,dx,b⟩ (bT t " ") 0->But a H H'->Q .non H'
end
structure Pm where
 nx:Rho->Nat->Prop
 rt:D->Nat->Prop
 ex:ag->Rho->Prop
def FrM(a:af)(ρ ρ':Rho)(H H':Hp):Prop:=j4 (del H (a::owns ρ)) (del H' (a::owns ρ'))
structure EndsM(X:Cx)(C:af)(o:Ob)(ls:List ag)(ρ:Rho)(H:Hp)(P:Pm)(E:Ends):Prop where
 nx:∀ρ' k' σ' H',P.nx ρ' k'->Rep X.K ρ' σ' H'->PcAt C (del H' (owns ρ')) o ls k'->FrM o.a ρ ρ' H H'->E.nx σ' H'
 rt:∀d k' v H',P.rt d k'->PcAt C H' o ls k'->j4 (del H (o.a::owns ρ)) (del H' [o.a])->Enc X.K H' d v->E.rt v H'
 ex:∀x ρ' σ' H',P.ex x ρ'->Rep X.K ρ' σ' H'->FrM o.a ρ ρ' H H'->Yy X σ' H' x
structure PcX(X:Cx)(C:af):Prop where
 ex:∃(fA fT fL fI:af)(dA dT dL dI:aH),PcT X.K X.mg C fA fT fL fI/\(FnOk X.prog X.w X.K X.mg X.base CX0 1 fA dA ["self"] (Bs C)/\Binds X.K dA ["self"] []) /\
  (FnOk X.prog X.w X.K X.mg X.base CX0 2 fT dT ["self"] (Bq C)/\Binds X.K dT ["self"] [])/\(FnOk X.prog X.w X.K X.mg X.base CX0 1 fL dL ["self"] (j2c C)/\Binds X.K dL ["self"] []) /\
  (FnOk X.prog X.w X.K X.mg X.base CX0 1 fI dI ["self","text"] (Br C)/\Binds X.K dI ["self","text"] [])/\Room 3 X.A
def MSs(X:Cx)(C:af)(o:Ob)(ls:List ag)(ρ:Rho)(k:Nat)(sts:List aM)(P:Pm):Prop :=
 ∀σ H E,Rep X.K ρ σ H->PcAt C (del H (owns ρ)) o ls k->EndsM X C o ls ρ H P E->Qa X sts E σ H
section
variable{X:Cx}{C:af}{o:Ob}{ls:List ag}{ρ ρ1:Rho}{H H1 H':Hp}{P:Pm}{E:Ends}{k k':Nat}{st:aM}{rest:List aM}{σ:St}
section
variable{pi i:Nat}{ob:c7}{x y:ag}{p py p1 p2 pos:aN}
end
end
def jc3(K:k4n)(C:af)(S:List ag->Nat->List D->D->Nat->Prop):Sp:=λvs H Q _=>∃(o:Ob)(ls:List ag)(k:Nat)(ds:List D)(d:D)(k':Nat)(ws:List V),vs=.ref o.a::ws/\TabOk K H/\PcAt C H o ls k/\j5 K H ds ws/\S ls k ds d k' /\
 ∀v H',PcAt C H' o ls k'->j4 (del H [o.a]) (del H' [o.a])->Enc K H' d v->Q v H'
def spM(K:k4n)(C:af)(S:List ag->Nat->List D->D->Nat->Prop):Sp:=λvs H Q _=>∃(A:List af)(o:Ob)(ls:List ag)(k:Nat)(ds:List D)(d:D)(k':Nat) (ws:List V),vs=.ref o.a::ws/\TabOk K H/\(∀a∈A,∃xs,H a=a5 (.lst xs))/\PcAt C (del H A) o ls k/\j5 K (del H A) ds ws/\S ls k ds d k' /\
 ∀v H',PcAt C (del H' A) o ls k'->j4 (del H [o.a]) (del H' [o.a])->Enc K (del H' A) d v->Q v H'
def j00(K:k4n)(mg:k4q)(C:af)(S:List ag->Nat->List D->ag->Prop):Sp:=λvs H _ E=>∃(o:Ob)(ls:List ag)(k:Nat)(ds:List D)(x:ag)(V:a9)(ws:List L2.V),vs=.ref o.a::ws/\TabOk K H/\PcAt C H o ls k/\j5 K H ds ws/\S ls k ds x/\mg x=a5 V /\
 ∀H',j4 (del H [o.a]) (del H' [o.a])->E V a7 H'
section
variable{P:ak}{w:ax}{K:k4n}{mg:k4q}{base:aD}{n:Nat}{f C:af}{fd:aH}{ps:List ag}
theorem FnOk.toM{S:List ag->Nat->List D->D->Nat->Prop}(F:FnOk P w K mg base CX0 n f fd ps (jc3 K C S)):FnOk P w K mg base CX0 n f fd ps (spM K C S) :=
 F.framed.imp λvs H Q E ⟨A,o,ls,k,ds,d,k',ws,e,tb,hA,pc,en,hS,q⟩=>⟨A,hA,o,ls,k,ds,d,k',ws,e,tb.del hA,pc,en,hS,λv F pc' g e' hF=>by
  refine q v _ (by rw[Ji hF];exact pc') (λb u z=>?_) (by rw[Ji hF];exact e')
  obtain⟨nb,z⟩:=of_del z
  rw[j8 nb]
  by_cases y:b∈A
  .rw[zx y];exact z
  .rw[jd y]
   exact(of_del (g b u (by rw[j8 nb,j8 y];exact z))).2⟩
end
structure CalM(X:Cx)(f:ag)(C:af)(S:List ag->Nat->List D->D->Nat->Prop):Prop where
 ex:∃(n:Nat)(fa:af)(fd:aH)(ps:List ag),FnOk X.prog X.w X.K X.mg X.base CX0 n fa fd ps (spM X.K C S)/\Room n X.A/\X.mg f=a5 (.ref fa)/\W.keepIn X.K (.ref fa)=a8/\Binds X.K fd ps []
structure CalMX(X:Cx)(f:ag)(C:af)(S:List ag->Nat->List D->ag->Prop):Prop where
 ex:∃(n:Nat)(fa:af)(fd:aH)(ps:List ag),FnOk X.prog X.w X.K X.mg X.base (CX1 X.prog X.w) n fa fd ps (j00 X.K X.mg C S)/\Room n X.A/\X.mg f=a5 (.ref fa)/\W.keepIn X.K (.ref fa)=a8/\Binds X.K fd ps []
section
variable{X:Cx}{C:af}{o:Ob}{ls:List ag}{ρ ρ1:Rho}{H H1 H':Hp}{P:Pm}{E:Ends}{k k':Nat}{st:aM}{rest:List aM}{σ:St}{pi i:Nat}{ob:c7}{x y f:ag}{p py pf p1 p2 pos:aN}{es:List ah}{ds:List D}{d:D}
structure MC(X:Cx)(pi:Nat)(f:ag)(es:List ah)(c:ah):Prop where
 ex:∃(y:ag)(pf py pos:aN),c=.Call (.Name f pf) (.Name y py::es) [] pos/\X.N[pi]?=a5 y/\Vis X.env.scope y/\(y==k4r)=a6/\(y==k4s)=a6/\Gl X f/\(f==k4r)=a6 /\
  aa (.Name y py::es) X.env=(a6,aG (.Name y py) X.env)::aa es X.env/\(aS pos (aa es X.env)).any (·.1)=a6
end
section
variable{X:Cx}{C:af}{o:Ob}{ls:List ag}{ρ ρ1:Rho}{H H1 H':Hp}{P:Pm}{E:Ends}{k k':Nat}{st:aM}{sa rest:List aM}{σ:St}{pi i:Nat}{ob:c7}{x y f:ag}{p py pf p1 p2 p3 p4 pos:aN}{es:List ah}{ds:List D}{d:D}
theorem Rep.set_rf{K:k4n}{a:af}{o:c7}(R:Rep K ρ σ H):Rep K (ρ.set i (.raw a o rfN)) (σ.set i (a5 (.ref a))) H:=by
 have sub:(owns (ρ.set i (.raw a o rfN))).Sublist (owns ρ):=jl rfl;have g:j4 (del H (owns ρ)) (del H (owns (ρ.set i (.raw a o rfN)))):=zp λb hb=>sub.subset hb;refine⟨by simp[R.len],λj d' h=>?_,λj a ds h=>?_,sub.nodup R.nd,λj a' o' x' h=>?_,R.tb⟩
 .rcases getElem?_set_of h with ⟨rfl,z,hl⟩|⟨n,h⟩
  .cases z
  .obtain⟨u,q,h⟩:=R.val j d' h;exact⟨u,by rw[qi n];exact q,h.mono g⟩
 .rcases getElem?_set_of h with ⟨rfl,z,_⟩|⟨n,h⟩
  .cases z
  .obtain⟨q,xs,h,l⟩:=R.own j a ds h;exact⟨by rw[qi n];exact q,xs,h,l.mono g⟩
 .rcases getElem?_set_of h with ⟨rfl,z,hl⟩|⟨n,h⟩
  .cases z;exact⟨Q5 (by rw[R.len];exact hl),.inl rfl⟩
  .obtain⟨q,h⟩:=R.raw j a' o' x' h;exact⟨by rw[qi n];exact q,h.mono g⟩
noncomputable def dOb:c7:={ cls:=.none }
end
noncomputable def startM(N:List ag)(a:af)(ds:List D):Rho:=(jt N (.int 0::ds)).set 0 (.raw a dOb rfN)
theorem U4{K:k4n}{H:Hp}{N:List ag}{ds:List D}{ws:List V}{a:af}(tb:TabOk K H)(h:j5 K H ds ws):Rep K (startM N a ds) (start N (.ref a::ws)) H :=
 (Q6 (N:=N) tb (show j5 K H (.int 0::ds) (.int 0::ws) from⟨.int 0,ws,rfl,rfl,h⟩)).set_rf (i:=0) (a:=a) (o:=dOb)
theorem Y6(N:List ag)(a:af)(ds:List D):owns (startM N a ds)=[]:=by have h:(owns (startM N a ds)).Sublist (owns (jt N (.int 0::ds))):=jl rfl;rw[Jb]at h;exact List.sublist_nil.mp h
section
variable{P:ak}{w:ax}{K:k4n}{mg:k4q}{base:aD}{x qual:ag}{st:aM}{f C:af}{fd:aH}{N ps:List ag}{n:Nat}
theorem jcj{S:List ag->Nat->List D->D->Nat->Prop}(F:Fun K x qual st f fd)(Sc:FnScope N ps (j0 st))(hl:∀ls k ds d k',S ls k ds d k'->ds.length+1=ps.length)
  (hbody:∀(cdv:a9)(A:az)(outer:List c8)(s:ae)(H:Hp)(E:XK),Z9 K f cdv->Room n (A.deeper (bf qual (j0 st) s.heap.objs.size f cdv))->∀o ls k ds d k',S ls k ds d k' ->
   MSs (jy CX0 P w K mg base N qual (j0 st) f cdv A outer s H E).nox C o ls (startM N o.a ds) k (jb st) { nx:=λ_ _=>False,rt:=λd2 k2=>d2=d/\k2=k',ex:=λ_ _=>False }):FnOk P w K mg base CX0 (n+1) f fd ps (spM K C S):=by
 refine FnOk.toM (F.okC Sc (λvs H Q E ⟨o,ls,k,ds,d,k',ws,e,tb,pc,en,hS,_⟩=>by rw[e,X5,en.length];exact hl ls k ds d k' hS) λcdv A outer s H vs Q E hcv hr ⟨o,ls,k,ds,d,k',ws,e,tb,pc,en,hS,q⟩=>⟨_,Zj,?_⟩);subst e;have ho:=Y6 N o.a ds;refine hbody cdv A outer s H E hcv hr o ls k ds d k' hS _ H _ (U4 tb en) (by rw[ho,zj];exact pc) ⟨λ_ _ _ _ z=>z.elim,λd2 k2 v H' ⟨e1,e2⟩ pc' g en'=>?_,λ_ _ _ _ z=>z.elim⟩;subst e1 e2;rw[ho]at g;exact q v H' pc' g en'
theorem jaq{S:List ag->Nat->List D->ag->Prop}(F:Fun K x qual st f fd)(Sc:FnScope N ps (j0 st))(hl:∀ls k ds y,S ls k ds y->ds.length+1=ps.length)
  (hbody:∀(cdv:a9)(A:az)(outer:List c8)(s:ae)(H:Hp)(E:XK),Z9 K f cdv->Room n (A.deeper (bf qual (j0 st) s.heap.objs.size f cdv))->∀o ls k ds y,S ls k ds y ->
   MSs (jy (CX1 P w) P w K mg base N qual (j0 st) f cdv A outer s H E) C o ls (startM N o.a ds) k (jb st) { nx:=λ_ _=>False,rt:=λ_ _=>False,ex:=λz _=>z=y }):FnOk P w K mg base (CX1 P w) (n+1) f fd ps (j00 K mg C S):=by
 obtain⟨oc,od,dV,kV,doc,pm,an,cdv,ct,osl,rfl,lk,hcd⟩:=F.ex;refine Dc lk hcd Sc (λvs H Q E ⟨o,ls,k,ds,y,V,ws,e,tb,pc,en,hS,_⟩=>by rw[e,X5,en.length];exact hl ls k ds y hS) λA outer s H vs Q E hr ⟨o,ls,k,ds,y,V,ws,e,tb,pc,en,hS,hC,hE⟩=>⟨_,Zj,?_⟩
 subst e;have ho:=Y6 N o.a ds;refine hbody cdv A outer s H E ⟨oc,od,_,osl,lk,rfl⟩ hr o ls k ds y hS _ H _ (U4 tb en) (by rw[ho,zj];exact pc) ⟨λ_ _ _ _ z=>z.elim,λ_ _ _ _ z=>z.elim,λz ρ' σ' H' n R g=>?_⟩;cases(show z=y from n);intro pins H2 s' e C' I g2 hC' Fe;cases hC.symm.trans hC';unfold FrM at g;rw[ho]at g;refine Wo I Fe (hE H2 λb u z=>?_);obtain⟨nb,z⟩:=of_del z;obtain⟨_,z1⟩:=of_del (g b u (by rw[j8 nb];exact z));rw[j8 nb];exact g2 b u z1
end
section
variable{X:Cx}{ρ:Rho}{a:ah}{p p1 p2 pos:aN}
theorem DO.callT {S:List D->List D->Prop} {x:ag} {e:ah} {es:List ah} {ds l:List D} (c:Cal X x (spF X.K S)) (ha:DTA X ρ (e::es) ds) (hS:S ds l) (hn:ju l=a8) (hg:Gl X x) (hdb:(x==k4r)=a6)
  (he:aa (e::es) X.env=(a6,aG e X.env)::aa es X.env) (hpl:(aS pos (aa es X.env)).any (·.1)=a6):DO X ρ (.Call (.Name x p) (e::es) [] pos) l:=λσ H Q R q=>by
 obtain⟨k,f,fd,ps,F,hr,hm,hk,hb,_⟩:=c.ex;refine(Vw F (hr.mono (Xq _)) hg hm hk hb .nil Rr paS hdb he hpl).to (ha σ H _ R λvs H1 g1 e1=>?_);show spF X.K S (vs++[]) H1 Q E0;rw[Xn];exact⟨[],ds,l,R.tb.mono g1,(λa h=>nomatch h),by rw[zj];exact e1,hS,λa xs H2 g2 n m z=>q a xs H2 (g1.trans g2) (g1.free n) m ((z.mono jw).hide (λc hc=>by
  rcases xf.mp hc with z|z
  .rw[z];exact .inl ⟨xs,m⟩
  .exact .inl ((R.grow (g1.trans g2)).owned c z)) hn)⟩
end
section
variable{X:Cx}{ρ:Rho}{a:ah}{p p1 p2 p3 pos:aN}{y:ag}{i n:Int}
theorem Ri:zm X (.type "int") (λxs H Q=>∃y n,xs=[.str y]/\eG y=a5 n/\y.length<=640/\Q (.int n) H):=by intro pins s σ H xs us Q I r h;obtain⟨y,n,rfl,hn,hl,q⟩:=h;obtain⟨u,rfl,t,rfl⟩:=vals1 r;exact PySem.W.KIN.call_text hn hl ⟨.int n,H,I.tok _,⟨_,rfl⟩,q⟩
theorem DE.intS (ha:DT X ρ a (.str y)) (hn:eG y=a5 n) (hl:y.length<=640) (hm:X.mg "int" = a7) (hg:Gl X "int") (hs:aa [a] X.env=[(a6,aG a X.env)]):DE X ρ (.Call (.Name "int" p) [a] [] pos) (.int n):=λσ H Q R q =>(Qy Ri hg hm boot_int (j9 peS jn hs) (by decide) (by decide) hs).to (ha σ H _ R λv H1 g1 e1=>⟨y,n,by rw[show v=.str y from e1],hn,hl,q _ H1 g1 rfl⟩)
end
section
variable{prog:ak}{w:ax}{A:az}{E:k4o}{s:ae}
end
section
variable{X:Cx}{ρ:Rho}{p1 p2 p3 q1 pos:aN}{n:Nat}
end
section
variable{M:fS}{A:az}{E:k4o}{env:c8}{s:ae}
end
section
variable{X:Cx}{pins:k4p}{σ:St}{H:Hp}{s:ae}{e C T:af}{Cv fl:a9}
end
section
variable{X:Cx}{ρ:Rho}{tg elt iter:ah}{scope:bg}{pos:aN}{ds:List D}{d0:D}{cs:List Nat}{x:ag}
end
section
variable{X:Cx}{ρ:Rho}{e:ah}{pos:aN}
noncomputable def tupS(is:List Int):ag:=(PyData.tuple (is.map cP)).shown
theorem U5{K:k4n}{H:Hp}{h:aD}:∀{is:List Int}{xs:List V}{us:List a9},j5 K H (is.map D.int) xs->Vals xs us->ReadsAll h us (is.map cP) []
 |[],xs,us,en,rv=>by have:xs=[]:=en;subst this;cases rv;exact .nil
 |i::is,xs,us,⟨x,r,e,ex,en⟩,rv=>by
  subst e;have ex:x=.int i:=ex;subst ex;cases rv with
  |cons ru rr =>obtain⟨t,rfl⟩:=ru;exact .cons (as:=[]) (.int i t) (U5 en rr)
theorem V6:∀{is:List Int},(∀i∈is,i.natAbs.log2<1920)->dj (is.map cP)=a8
 |[],_=>by simp[dj]
 |i::is,h=>by simp[dj,gb,h i (xj ..),V6 λj hj=>h j (km _ hj)]
theorem Vh:∀{is:List Int},dO (is.map cP)=0/\du (is.map cP)=a6
 |[]=>by simp[dO,du]
 |i::is=>by have:=Vh (is:=is);simp[dO,du,gK,gv,this.1,this.2]
theorem DE.fmtT{is:List Int}(hg:X.A.guards=a5 [])(hu:X.A.units+100<aX)(ha:DT X ρ e (.tup (is.map D.int)))(hi:∀i∈is,i.natAbs.log2<1920)(hz:(tupS is).length<=ai):DE X ρ (.FormattedValue e (-1) a7 pos) (.str (tupS is)):=λσ H Q R q pins s I=>by
 refine dF (thn (ha σ H (λv H1=>Enc X.K H1 (.tup (is.map D.int)) v/\j4 H H1) R (λv H1 g e=>⟨e,g⟩) pins s I) λu s1 ⟨v,H1,I1,r,ev,g⟩=>?_);obtain⟨a,xs,rfl,sq,en⟩:=ev;cases(show u=aF a from r);obtain⟨its,rv,⟨o,ho,hoc,m,hod⟩,_⟩:=I1.tuple sq;have rd:Reads s1.heap (.ref a) (.tuple (is.map cP)) []:=.tuple ho hoc hod (by simpa using U5 (h:=s1.heap) en rv);exact formatField_of_reads rd (by rw[gb];exact V6 hi) (λz=>by rw[gv,Vh.2]at z;cases z) hg (by rw[gK,Vh.1];omega) (λ_ _ z=>z)
  (λh' w tk hk=>⟨.str (tupS is),H1,I1.kept hk,⟨_,rfl⟩,q _ H1 g rfl⟩) hz
end
end L2
end
section
namespace PySem.W
open PySem PySem.Calls PyProof.Rows
section
variable{prog:ak}{w:ax}{A:az}{E:k4o}{κ:eN}{it:Array cN}{s:ae}
noncomputable def ks(κ:eN)(it:Array cN)(p:Array Nat)(pd:Array (Nat×Nat×Nat))(g:Nat):aP:=cQ κ (p.map (ay it)) pd g a7
theorem Ez{β:Type}{a b n:Nat}{c:β}{f:Nat->β->StateT aP gz (ForInStep β)}{Q:β->aP->ae->Prop}{st:aP}(hn:b-a=n)(h:cc (ar prog w) A E (forIn (dX a n) c f) Q st s):cc (ar prog w) A E (forIn [a:b] c f) Q st s:=gR (by rw[hn];exact h)
theorem Bp{β:Type}{x n:Nat}{b:β}{f:Nat->β->StateT aP gz (ForInStep β)}{Q:β->aP->ae->Prop}{st:aP}
  (h:cc (ar prog w) A E (f x b) (λr st' s'=>match r with|.done b'=>Q b' st' s'|.yield b'=>cc (ar prog w) A E (forIn (dX (x+1) n) b' f) Q st' s') st s):cc (ar prog w) A E (forIn (dX x (n+1)) b f) Q st s:=by
 rw[List.range'_succ];exact kasC_cons h
end
end PySem.W
end
section
namespace PySem.W
open PySem PySem.Calls PyProof.Rows
section
variable{prog:ak}{w:ax}{A:az}{E:k4o}{κ:eN}{it:Array cN}{N:Nat}
def Cmp(prog:ak)(w:ax)(A:az)(κ:eN)(it:Array cN)(N:Nat)(s:ae):Prop:=∀i j,i<N->j<N->∀C:Bool->ae->Prop,C (decide (i<j)) s->kas_cmp prog w A κ it i j C s
def Low(N:Nat)(a:Array Nat):Prop:=∀(i x:Nat),a[i]?=a5 x->x<N
theorem Low.ext{N:Nat}{a:Array Nat}(h:Low N a)(i j:Nat):Low N (a.extract i j):=λk x e=>by
 rw[Array.getElem?_extract]at e;split at e
 .exact h _ _ e
 .cases e
noncomputable def qz{γ:Type}(stp:γ->Option (γ×Bool)):Nat->γ->Option γ
 |0,c=>a5 c
 |n+1,c=>match stp c with|none=>a7|some (c',a8)=>a5 c'|some (c',a6)=>qz stp n c'
noncomputable def fis{β:Type}(d:Bool)(b:β):ForInStep β:=match d with|true=>.done b|false=>.yield b
theorem Yq{γ β:Type}(enc:γ->β)(es:γ->aP)(stp:γ->Option (γ×Bool)){f:Nat->β->StateT aP gz (ForInStep β)}{Q:β->aP->ae->Prop}{s:ae}
  (hf:∀x c c' d (K:ForInStep β->aP->ae->Prop),stp c=a5 (c',d)->K (fis d (enc c')) (es c') s->cc (ar prog w) A E (f x (enc c)) K (es c) s) :
  ∀n a c c',qz stp n c=a5 c'->Q (enc c') (es c') s->cc (ar prog w) A E (forIn (dX a n) (enc c) f) Q (es c) s
 |0,a,c,c',e,h=>by cases e;exact kasC_nil h
 |n+1,a,c,c',e,h=>by
  refine Bp ?_;unfold qz at e;cases q:stp c with
  |none=>rw[q]at e;cases e
  |some r =>
   obtain⟨c2,d⟩:=r;rw[q]at e;cases d with
   |true=>cases e;exact hf _ _ _ _ _ q h
   |false=>exact hf _ _ _ _ _ q (Yq enc es stp hf n (a+1) c2 c' e h)
theorem Jg{γ β:Type}(enc:γ->β)(es:γ->aP)(stp:γ->Option (γ×Bool)){f:Nat->β->StateT aP gz (ForInStep β)}{Q:β->aP->ae->Prop}{s:ae}{n:Nat}{c c':γ}
  (hf:∀x c c' d (K:ForInStep β->aP->ae->Prop),stp c=a5 (c',d)->K (fis d (enc c')) (es c') s->cc (ar prog w) A E (f x (enc c)) K (es c) s)
  (e:qz stp n c=a5 c') (h:Q (enc c') (es c') s):cc (ar prog w) A E (forIn [0:n] (enc c) f) Q (es c) s :=
 gR (Yq enc es stp hf n 0 c c' e h)
theorem jx{p:Array Nat}{i n:Nat}{st:aP}{Q:cN->aP->ae->Prop}{s:ae}(hn:p[i]?=a5 n)(h:Q (ay it n) st s):cc (ar prog w) A E ((sortPriv% PySem.Builtin.elem) (p.map (ay it)) i) Q st s:=by show cc _ _ _ (elem' _ _) _ _ _;rw[elem'_eq,cn,hn];exact aA h
theorem Vr{p:Array Nat}{pd:Array (Nat×Nat×Nat)}{g i j:Nat}{Q:Option Bool->aP->ae->Prop}{s:ae}(hc:Cmp prog w A κ it N s)
  (hi:i<N) (hj:j<N) (h:Q (a5 (decide (i<j))) (ks κ it p pd g) s):cc (ar prog w) A E ((sortPriv% PySem.Builtin.lt) (ay it i) (ay it j)) Q (ks κ it p pd g) s:=by
 show cc _ _ _ (lt' _ _) _ _ _;rw[lt'_eq];refine au (eC ?_);refine au (ik (jL (aT (hc _ _ hi hj (λc s'=>c=decide (i<j)/\s'=s) ⟨rfl,rfl⟩) (λc s' hc=>?_) λ_ _ hF=>hF.elim)));obtain⟨rfl,rfl⟩:=hc;exact aA h
noncomputable def bey(l:Bool)(key:Nat)(a:Array Nat)(i:Nat):Option Bool:=match a[i]? with|none=>a7|some x=>a5 (if l then decide (x<key)else !decide (key<x))
noncomputable def gs1(l:Bool)(key:Nat)(a:Array Nat)(at_:Nat->Nat)(stopAt:Bool)(mx:Nat)(c:Nat×Nat):Option ((Nat×Nat)×Bool) :=
 if c.2>=mx then a5 (c,a8)else match bey l key a (at_ c.2) with
  |none=>a7
  |some b=>if b=stopAt then a5 (c,a8)else a5 ((c.2,2*c.2+1),a6)
noncomputable def gs2(l:Bool)(key:Nat)(a:Array Nat)(base:Nat)(c:Nat×Nat):Option ((Nat×Nat)×Bool) :=
 if c.1>=c.2 then a5 (c,a8)else match bey l key a (base+(c.1+(c.2-c.1)/2)) with
  |none=>a7
  |some b=>if b then a5 ((c.1+(c.2-c.1)/2+1,c.2),a6)else a5 ((c.1,c.1+(c.2-c.1)/2),a6)
noncomputable def gal(l:Bool)(key:Nat)(a:Array Nat)(base n hint:Nat):Option Nat :=
 match bey l key a (base+hint) with
 |none=>a7
 |some a8=>match qz (gs1 l key a (λo=>base+(hint+o)) a6 (n-hint)) n (0,1) with
  |none=>a7
  |some c=>(qz (gs2 l key a base) n (hint+c.1+1,hint+min c.2 (n-hint))).map (·.2)
 |some a6=>match qz (gs1 l key a (λo=>base+(hint-o)) a8 (hint+1)) n (0,1) with
  |none=>a7
  |some c=>(qz (gs2 l key a base) n (hint+1-min c.2 (hint+1),hint-c.1)).map (·.2)
theorem Ze{left:Bool}{key i:Nat}{a p:Array Nat}{pd:Array (Nat×Nat×Nat)}{g:Nat}{b:Bool}{K:Option Bool->aP->ae->Prop}{s:ae}(hc:Cmp prog w A κ it N s)
  (hk:key<N) (ha:Low N a) (e:bey left key a i=a5 b) (h:K (a5 b) (ks κ it p pd g) s) :
  cc (ar prog w) A E (do let x <-elem' (a.map (ay it)) i;if left=a8 then lt' x (ay it key)else do { let r <-lt' (ay it key) x;pure (Option.map (λx=>!x) r) }) K (ks κ it p pd g) s:=by
 unfold bey at e;cases q:a[i]? with
 |none=>rw[q]at e;cases e
 |some x =>
  rw[q]at e;cases e;refine au (jx q ?_);cases left with
  |true=>exact Vr hc (ha _ _ q) hk h
  |false=>exact au (Vr hc hk (ha _ _ q) (aA h))
theorem Jk{left:Bool}{key base n hint k:Nat}{a p:Array Nat}{pd:Array (Nat×Nat×Nat)}{g:Nat}{Q:Option Nat->aP->ae->Prop}{s:ae}(hc:Cmp prog w A κ it N s)
  (hkN:key<N) (haN:Low N a) (e:gal left key a base n hint=a5 k) (h:Q (a5 k) (ks κ it p pd g) s) :
  cc (ar prog w) A E ((sortPriv% PySem.Builtin.gallop) left (ay it key) (a.map (ay it)) base n hint) Q (ks κ it p pd g) s:=by
 unfold gal at e;refine au ?_;cases q:bey left key a (base+hint) with
 |none=>rw[q]at e;cases e
 |some b =>
  refine Ze hc hkN haN q ?_;rw[q]at e;cases b with
  |true =>
   dsimp only at e ⊢;rw[if_pos rfl];cases q2:qz (gs1 left key a (λo=>base+(hint+o)) a6 (n-hint)) n (0,1) with
   |none=>rw[q2]at e;cases e
   |some c =>
    rw[q2]at e;refine au (Jg (λc:Nat×Nat=>((a7:Option (Option Nat)),c.1,c.2)) (λ_=>ks κ it p pd g) (gs1 left key a (λo=>base+(hint+o)) a6 (n-hint)) ?_ q2 ?_)
    .intro x c c' d K e1 hk;dsimp only;unfold gs1 at e1;by_cases hz:c.2>=n-hint
     .rw[if_pos hz]at e1 ⊢;cases e1;exact aA hk
     .rw[if_neg hz]at e1 ⊢;cases q3:bey left key a (base+(hint+c.2)) with
      |none=>rw[q3]at e1;cases e1
      |some b =>
       rw[q3]at e1;refine au (Ze hc hkN haN q3 ?_);cases b with
       |true=>cases e1;exact aA hk
       |false=>cases e1;exact aA hk
    .dsimp only at e ⊢;cases q4:qz (gs2 left key a base) n (hint+c.1+1,hint+min c.2 (n-hint)) with
     |none=>rw[q4]at e;cases e
     |some c2 =>
      rw[q4]at e;refine au (Jg (λc:Nat×Nat=>((a7:Option (Option Nat)),c.1,c.2)) (λ_=>ks κ it p pd g) (gs2 left key a base) ?_ q4 ?_)
      .intro x c c' d K e1 hk;dsimp only;unfold gs2 at e1;by_cases hz:c.1>=c.2
       .rw[if_pos hz]at e1 ⊢;cases e1;exact aA hk
       .rw[if_neg hz]at e1 ⊢;cases q3:bey left key a (base+(c.1+(c.2-c.1)/2)) with
        |none=>rw[q3]at e1;cases e1
        |some b =>
         rw[q3]at e1;refine au (Ze hc hkN haN q3 ?_);cases b with
         |true=>cases e1;exact aA hk
         |false=>cases e1;exact aA hk
      .cases e;exact aA h
  |false =>
   dsimp only at e ⊢;rw[if_neg (by simp)];cases q2:qz (gs1 left key a (λo=>base+(hint-o)) a8 (hint+1)) n (0,1) with
   |none=>rw[q2]at e;cases e
   |some c =>
    rw[q2]at e;refine au (Jg (λc:Nat×Nat=>((a7:Option (Option Nat)),c.1,c.2)) (λ_=>ks κ it p pd g) (gs1 left key a (λo=>base+(hint-o)) a8 (hint+1)) ?_ q2 ?_)
    .intro x c c' d K e1 hk;dsimp only;unfold gs1 at e1;by_cases hz:c.2>=hint+1
     .rw[if_pos hz]at e1 ⊢;cases e1;exact aA hk
     .rw[if_neg hz]at e1 ⊢;cases q3:bey left key a (base+(hint-c.2)) with
      |none=>rw[q3]at e1;cases e1
      |some b =>
       rw[q3]at e1;refine au (Ze hc hkN haN q3 ?_);cases b with
       |true=>cases e1;exact aA hk
       |false=>cases e1;exact aA hk
    .dsimp only at e ⊢;cases q4:qz (gs2 left key a base) n (hint+1-min c.2 (hint+1),hint-c.1) with
     |none=>rw[q4]at e;cases e
     |some c2 =>
      rw[q4]at e;refine au (Jg (λc:Nat×Nat=>((a7:Option (Option Nat)),c.1,c.2)) (λ_=>ks κ it p pd g) (gs2 left key a base) ?_ q4 ?_)
      .intro x c c' d K e1 hk;dsimp only;unfold gs2 at e1;by_cases hz:c.1>=c.2
       .rw[if_pos hz]at e1 ⊢;cases e1;exact aA hk
       .rw[if_neg hz]at e1 ⊢;cases q3:bey left key a (base+(c.1+(c.2-c.1)/2)) with
        |none=>rw[q3]at e1;cases e1
        |some b =>
         rw[q3]at e1;refine au (Ze hc hkN haN q3 ?_);cases b with
         |true=>cases e1;exact aA hk
         |false=>cases e1;exact aA hk
      .cases e;exact aA h
end
end PySem.W
end
section
namespace PySem.W
open PySem PySem.Calls PyProof.Rows
noncomputable def ms1(a b:Array Nat)(mg:Nat):(Option (Array Nat)×Array Nat×Nat×Nat×Nat×Nat)->Option ((Option (Array Nat)×Array Nat×Nat×Nat×Nat×Nat)×Bool)
 |(_,o,ia,ib,ac,bc)=>match b[ib]?,a[ia]? with
  |some y,a5 x =>
   if y<x then
    if ib+1==b.size then a5 ((a5 (o.push y++a.extract ia++b.extract (ib+1)),o.push y,ia,ib+1,0,bc+1),a8)
    else a5 ((a7,o.push y,ia,ib+1,0,bc+1),decide (bc+1>=mg))
   else
    if ia+1+1==a.size then a5 ((a5 (o.push x++b.extract ib++a.extract (ia+1)),o.push x,ia+1,ib,ac+1,0),a8)
    else a5 ((a7,o.push x,ia+1,ib,ac+1,0),decide (ac+1>=mg))
  |_,_=>a7
noncomputable def ms2(a b:Array Nat):(Nat×Option (Array Nat)×Array Nat×Nat×Nat×Nat×Nat×Nat)->Option ((Nat×Option (Array Nat)×Array Nat×Nat×Nat×Nat×Nat×Nat)×Bool)
 |(_,_,o,ia,ib,mg,_,_)=>if mg<=1 then a7 else match b[ib]? with
  |none=>a7
  |some y=>match gal a6 y a ia (a.size-ia) 0 with
   |none=>a7
   |some k =>
    if k>0/\(ia+k+1==a.size || ia+k==a.size)then a7
    else
     let o1:=if k>0 then o++a.extract ia (ia+k)else o
     let i1:=if k>0 then ia+k else ia
     if ib+1==b.size then a7
     else match a[i1]? with
      |none=>a7
      |some x=>match gal a8 x b (ib+1) (b.size-(ib+1)) 0 with
       |none=>a7
       |some l =>
        if l>0/\(ib+1+l==b.size)then a5 ((mg-1,a5 ((o1.push y++b.extract (ib+1) (ib+1+l))++a.extract i1++b.extract (ib+1+l)),o1.push y++b.extract (ib+1) (ib+1+l),i1,ib+1+l,mg-1,k,l),a8)
        else
         let o2:=if l>0 then o1.push y++b.extract (ib+1) (ib+1+l)else o1.push y
         let i2:=if l>0 then ib+1+l else ib+1
         if i1+1+1==a.size then a7
         else a5 ((mg-1,a7,o2.push x,i1+1,i2,mg-1,k,l),decide (k<7)&&decide (l<7))
noncomputable def ms3(a b:Array Nat):(Nat×Option (Array Nat)×Array Nat×Nat×Nat×Nat)->Option ((Nat×Option (Array Nat)×Array Nat×Nat×Nat×Nat)×Bool)
 |(g,_,o,ia,ib,mg)=>match qz (ms1 a b mg) (a.size+b.size) (a7,o,ia,ib,0,0) with
  |none=>a7
  |some (a5 r,o,ia,ib,_,_)=>a5 ((g,a5 r,o,ia,ib,mg),a8)
  |some (a7,o,ia,ib,ac,bc)=>match qz (ms2 a b) (a.size+b.size) (g,a7,o,ia,ib,mg+1,ac,bc) with
   |none=>a7
   |some (g,a5 r,o,ia,ib,mg,_,_)=>a5 ((g,a5 r,o,ia,ib,mg),a8)
   |some (_,a7,o,ia,ib,mg,_,_)=>a5 ((mg+1,a7,o,ia,ib,mg+1),a6)
noncomputable def mlo(a b:Array Nat)(g:Nat):Option (Array Nat×Nat):=match b[0]? with
 |none=>a7
 |some y=>if 1==b.size || 0+1==a.size then a7 else match qz (ms3 a b) (a.size+b.size) (g,a7,#[y],0,1,g) with
  |some (g,a5 r,_)=>a5 (r,g)
  |_=>a7
noncomputable def rnk(n j:Nat):List Nat:=(aE (2^n)).filter (λi=>i/2^(n-1-j)%2==0)++(aE (2^n)).filter (λi=>i/2^(n-1-j)%2==1)
section
variable{prog:ak}{w:ax}{A:az}{E:k4o}{κ:eN}{it:Array cN}{N:Nat}
theorem Ub{p:Array Nat}{i j:Nat}:(aL (ay it) p).extract i j=aL (ay it) (p.extract i j):=by simp
theorem Q7{p:Array Nat}{n:Nat}:(aL (ay it) p).push (ay it n)=aL (ay it) (p.push n):=by simp
theorem Uc{p q:Array Nat}:aL (ay it) p++aL (ay it) q=aL (ay it) (p++q):=by simp
theorem Bo{p:Array Nat}{pd:Array (Nat×Nat×Nat)}{g m:Nat}{Q:Unit->aP->ae->Prop}{s:ae}(h:Q () (ks κ it p pd m) s):cc (ar prog w) A E ((sortPriv% PySem.Builtin.setMinGallop) m) Q (ks κ it p pd g) s:=kasC_modify h
theorem zf{α:Type}{c:Prop}[Decidable c]{m n:StateT aP gz α}{Q:α->aP->ae->Prop}{st:aP}{s:ae}(hc:c)(h:cc (ar prog w) A E m Q st s):cc (ar prog w) A E (if c then m else n) Q st s:=by rw[if_pos hc];exact h
theorem qj{α:Type}{c:Prop}[Decidable c]{m n:StateT aP gz α}{Q:α->aP->ae->Prop}{st:aP}{s:ae}(hc:¬c)(h:cc (ar prog w) A E n Q st s):cc (ar prog w) A E (if c then m else n) Q st s:=by rw[if_neg hc];exact h
noncomputable def j1h(it:Array cN):(Option (Array Nat)×Array Nat×Nat×Nat×Nat×Nat)->(Option (Array cN)×Array cN×Nat×Nat×Nat×Nat)
 |(r,o,x)=>(r.map (aL (ay it)),aL (ay it) o,x)
noncomputable def j8g(it:Array cN):(Nat×Option (Array Nat)×Array Nat×Nat×Nat×Nat×Nat×Nat)->(Option (Array cN)×Array cN×Nat×Nat×Nat×Nat×Nat)
 |(_,r,o,x)=>(r.map (aL (ay it)),aL (ay it) o,x)
noncomputable def j8f(it:Array cN):(Nat×Option (Array Nat)×Array Nat×Nat×Nat×Nat)->(Option (Array cN)×Array cN×Nat×Nat×Nat)
 |(_,r,o,x)=>(r.map (aL (ay it)),aL (ay it) o,x)
theorem j70{a b p:Array Nat}{pd:Array (Nat×Nat×Nat)}{g g':Nat}{r:Array Nat}{Q:Array cN->aP->ae->Prop}{s:ae}(hc:Cmp prog w A κ it N s)
  (haN:Low N a) (hbN:Low N b) (e:mlo a b g=a5 (r,g')) (h:Q (aL (ay it) r) (ks κ it p pd g') s) :
  cc (ar prog w) A E ((sortPriv% PySem.Builtin.mergeLo) (a.map (ay it)) (b.map (ay it))) Q (ks κ it p pd g) s:=by
 unfold mlo at e;cases q:b[0]? with
 |none=>rw[q]at e;cases e
 |some y =>
  rw[q]at e;dsimp only at e;by_cases hz:(1==b.size || 0+1==a.size)=a8
  .rw[if_pos hz]at e;cases e
  .rw[if_neg hz]at e;have hz1:¬(1==(aL (ay it) b).size)=a8:=by rw[P0];intro z;exact hz (by rw[z];rfl)
   have hz2:¬(0+1==(aL (ay it) a).size)=a8:=by rw[P0];intro z;exact hz (by rw[z,ij])
   refine au ?_;refine ik (wpAny_rule ?_);dsimp only;refine au (jx q ?_);rw[if_neg hz1,if_neg hz2];refine au (eC ?_);rw[P0,P0];cases q3:qz (ms3 a b) (a.size+b.size) (g,a7,#[y],0,1,g) with
   |none=>rw[q3]at e;cases e
   |some c =>
    obtain⟨g2,r2,o2,x2⟩:=c;rw[q3]at e;cases r2 with
    |none=>cases e
    |some r2 =>
    cases e;have e0:#[ay it y]=aL (ay it) #[y]:=by simp
    rw[e0];refine au (Jg (j8f it) (λc=>ks κ it p pd c.1) (ms3 a b) ?_ q3 (aA h));rintro x ⟨g,r0,o,ia,ib,mg⟩ c' d K e1 hk;unfold ms3 at e1;dsimp only[j8f]at e1 ⊢;cases q1:qz (ms1 a b mg) (a.size+b.size) (a7,o,ia,ib,0,0) with
    |none=>rw[q1]at e1;cases e1
    |some c1 =>
     rw[q1]at e1;refine au (Jg (j1h it) (λ_=>ks κ it p pd g) (ms1 a b mg) ?_ q1 ?_)
     .rintro x ⟨r0,o,ia,ib,ac,bc⟩ c' d K e1 hk;unfold ms1 at e1;dsimp only[j1h]at e1 ⊢;cases qb:b[ib]? with
      |none=>rw[qb]at e1;cases e1
      |some y =>
      cases qa:a[ia]? with
      |none=>rw[qb,qa]at e1;cases e1
      |some x =>
      rw[qb,qa]at e1;dsimp only at e1;refine au (jx qb ?_);refine au (jx qa ?_);refine au (Vr hc (hbN _ _ qb) (haN _ _ qa) ?_);dsimp only;by_cases hyx:y<x
      .rw[if_pos hyx]at e1;rw[if_pos (decide_eq_true hyx)];refine au (jx qb ?_);simp only[Ub,Q7,Uc,P0];by_cases z:(ib+1==b.size)=a8
       .rw[if_pos z]at e1 ⊢;cases e1;exact aA hk
       .rw[if_neg z]at e1 ⊢;cases e1;by_cases z2:bc+1>=mg
        .rw[if_pos z2];rw[decide_eq_true z2]at hk;exact aA hk
        .rw[if_neg z2];rw[decide_eq_false z2]at hk;exact aA hk
      .rw[if_neg hyx]at e1;rw[if_neg (by simp[hyx])];refine au (jx qa ?_);simp only[Ub,Q7,Uc,P0];by_cases z:(ia+1+1==a.size)=a8
       .rw[if_pos z]at e1 ⊢;cases e1;exact aA hk
       .rw[if_neg z]at e1 ⊢;cases e1;by_cases z2:ac+1>=mg
        .rw[if_pos z2];rw[decide_eq_true z2]at hk;exact aA hk
        .rw[if_neg z2];rw[decide_eq_false z2]at hk;exact aA hk
     .obtain⟨r1,o1,ia1,ib1,ac1,bc1⟩:=c1;cases r1 with
      |some r1=>cases e1;exact aA hk
      |none =>
      dsimp only[j1h,gm]at e1 ⊢;refine au (ik (wpAny_rule ?_));cases q2:qz (ms2 a b) (a.size+b.size) (g,a7,o1,ia1,ib1,mg+1,ac1,bc1) with
      |none=>rw[q2]at e1;cases e1
      |some c2 =>
      rw[q2]at e1;refine au (Jg (j8g it) (λc=>ks κ it p pd c.1) (ms2 a b) ?_ q2 ?_)
      .rintro x ⟨g,r0,o,ia,ib,mg,ac,bc⟩ c' d K e1 hk;unfold ms2 at e1;dsimp only[j8g]at e1 ⊢;by_cases hm:mg<=1
       .rw[if_pos hm]at e1;cases e1
       rw[if_neg hm]at e1;refine zf (show mg>1 by omega) ?_;cases qb:b[ib]? with
       |none=>rw[qb]at e1;cases e1
       |some y =>
       rw[qb]at e1;dsimp only at e1;refine au (Bo ?_);refine au (jx qb ?_);simp only[Ub,Uc,P0];cases qg:gal a6 y a ia (a.size-ia) 0 with
       |none=>rw[qg]at e1;cases e1
       |some k =>
       rw[qg]at e1;dsimp only at e1;refine au (Jk hc (hbN _ _ qb) haN qg ?_);dsimp only;by_cases hk1:k>0/\(ia+k+1==a.size || ia+k==a.size)=a8
       .rw[if_pos hk1]at e1;cases e1
       rw[if_neg hk1]at e1;by_cases hb1:(ib+1==b.size)=a8
       .rw[if_pos hb1]at e1;cases e1
       rw[if_neg hb1]at e1;by_cases hk0:k>0
       .have n1:¬(ia+k+1==a.size)=a8:=λz=>hk1 ⟨hk0,by rw[z];rfl⟩;have n2:¬(ia+k==a.size)=a8:=λz=>hk1 ⟨hk0,by rw[z,ij]⟩;refine zf hk0 (qj n1 (qj n2 ?_));rw[if_pos hk0,if_pos hk0]at e1;refine au (jx qb (qj hb1 ?_));cases qa:a[(ia+k)]? with
        |none=>rw[qa]at e1;cases e1
        |some x =>
        rw[qa]at e1;dsimp only at e1;refine au (jx qa ?_);cases ql:gal a8 x b (ib+1) (b.size-(ib+1)) 0 with
        |none=>rw[ql]at e1;cases e1
        |some l =>
        rw[ql]at e1;dsimp only at e1;refine au (Jk hc (haN _ _ qa) hbN ql ?_);simp only[Q7,Uc];by_cases hl0:l>0
        .by_cases hl1:(ib+1+l==b.size)=a8
         .rw[if_pos ⟨hl0,hl1⟩]at e1;cases e1;exact zf hl0 (zf hl1 (aA hk))
         .rw[if_neg (λz=>hl1 z.2),if_pos hl0,if_pos hl0]at e1;by_cases ha2:((ia+k)+1+1==a.size)=a8
          .rw[if_pos ha2]at e1;cases e1
          rw[if_neg ha2]at e1;cases e1;refine zf hl0 (qj hl1 (au (jx qa (qj ha2 ?_))));rw[Q7];by_cases hq:(decide (k<7)&&decide (l<7))=a8
          .rw[hq]at hk;exact zf hq (aA hk)
          .rw[Bool.eq_false_iff.mpr hq]at hk;exact qj hq (aA hk)
        .rw[if_neg (λz=>hl0 z.1),if_neg hl0,if_neg hl0]at e1;by_cases ha2:((ia+k)+1+1==a.size)=a8
         .rw[if_pos ha2]at e1;cases e1
         rw[if_neg ha2]at e1;cases e1;refine qj hl0 (au (jx qa (qj ha2 ?_)));rw[Q7];by_cases hq:(decide (k<7)&&decide (l<7))=a8
         .rw[hq]at hk;exact zf hq (aA hk)
         .rw[Bool.eq_false_iff.mpr hq]at hk;exact qj hq (aA hk)
       .refine qj hk0 ?_;rw[if_neg hk0,if_neg hk0]at e1;refine au (jx qb (qj hb1 ?_));cases qa:a[ia]? with
        |none=>rw[qa]at e1;cases e1
        |some x =>
        rw[qa]at e1;dsimp only at e1;refine au (jx qa ?_);cases ql:gal a8 x b (ib+1) (b.size-(ib+1)) 0 with
        |none=>rw[ql]at e1;cases e1
        |some l =>
        rw[ql]at e1;dsimp only at e1;refine au (Jk hc (haN _ _ qa) hbN ql ?_);simp only[Q7,Uc];by_cases hl0:l>0
        .by_cases hl1:(ib+1+l==b.size)=a8
         .rw[if_pos ⟨hl0,hl1⟩]at e1;cases e1;exact zf hl0 (zf hl1 (aA hk))
         .rw[if_neg (λz=>hl1 z.2),if_pos hl0,if_pos hl0]at e1;by_cases ha2:(ia+1+1==a.size)=a8
          .rw[if_pos ha2]at e1;cases e1
          rw[if_neg ha2]at e1;cases e1;refine zf hl0 (qj hl1 (au (jx qa (qj ha2 ?_))));rw[Q7];by_cases hq:(decide (k<7)&&decide (l<7))=a8
          .rw[hq]at hk;exact zf hq (aA hk)
          .rw[Bool.eq_false_iff.mpr hq]at hk;exact qj hq (aA hk)
        .rw[if_neg (λz=>hl0 z.1),if_neg hl0,if_neg hl0]at e1;by_cases ha2:(ia+1+1==a.size)=a8
         .rw[if_pos ha2]at e1;cases e1
         rw[if_neg ha2]at e1;cases e1;refine qj hl0 (au (jx qa (qj ha2 ?_)));rw[Q7];by_cases hq:(decide (k<7)&&decide (l<7))=a8
         .rw[hq]at hk;exact zf hq (aA hk)
         .rw[Bool.eq_false_iff.mpr hq]at hk;exact qj hq (aA hk)
      .obtain⟨g3,r3,o3,ia3,ib3,mg3,ac3,bc3⟩:=c2;cases r3 with
       |some r3=>cases e1;exact aA hk
       |none =>cases e1;exact au (Bo (aA hk))
end
end PySem.W
end
section
namespace PySem.W
open PySem PySem.Calls PyProof.Rows
section
variable{prog:ak}{w:ax}{A:az}{E:k4o}{κ:eN}{it:Array cN}{N:Nat}
theorem K9{p:Array Nat}{pd:Array (Nat×Nat×Nat)}{g:Nat}:jI (ks κ it p pd g)=p.map (ay it):=rfl
theorem jaf{p:Array Nat}{pd:Array (Nat×Nat×Nat)}{g:Nat}:pendingOf (ks κ it p pd g)=pd:=rfl
theorem j0t{p:Array Nat}{pd pd':Array (Nat×Nat×Nat)}{g:Nat}:setPending (ks κ it p pd g) pd'=ks κ it p pd' g:=rfl
noncomputable def as1(p:Array Nat)(lo n:Nat):Option (Nat×Bool):=match p[lo+n]?,p[lo+n-1]? with
 |some y,a5 x=>if y<x then a5 (n,a8)else a5 (n+1,a6)
 |_,_=>a7
theorem K3{p:Array Nat}{pd:Array (Nat×Nat×Nat)}{g i j x y:Nat}{Q:Option Bool->aP->ae->Prop}{s:ae}(hc:Cmp prog w A κ it N s)
  (hp:Low N p) (hi:p[i]?=a5 x) (hj:p[j]?=a5 y) (h:Q (a5 (decide (x<y))) (ks κ it p pd g) s):cc (ar prog w) A E (ltAt' i j) Q (ks κ it p pd g) s:=by
 rw[ltAt'_eq];refine au (eC ?_);exact au (jx hi (au (jx hj (Vr hc (hp _ _ hi) (hp _ _ hj) h))))
theorem Og{p:Array Nat}{pd:Array (Nat×Nat×Nat)}{g lo nrem n x y:Nat}{Q:Option Nat->aP->ae->Prop}{s:ae}(hc:Cmp prog w A κ it N s)
  (hp:Low N p) (e:qz (as1 p lo) (nrem-1) 1=a5 n) (hn:n>1) (e1:p[lo]?=a5 x) (e2:p[lo+n-1]?=a5 y) (hxy:x<y) (h:Q (a5 n) (ks κ it p pd g) s):cc (ar prog w) A E (countRun' lo nrem) Q (ks κ it p pd g) s:=by
 rw[countRun'_eq];refine au (gR (Yq (λn:Nat=>((a7:Option (Option Nat)),n)) (λ_=>ks κ it p pd g) (as1 p lo) ?_ _ _ _ _ e ?_))
 .intro x n c' d K e1 hk;unfold as1 at e1;dsimp only;cases qa:p[lo+n]? with
  |none=>rw[qa]at e1;cases e1
  |some y =>
  cases qb:p[lo+n-1]? with
  |none=>rw[qa,qb]at e1;cases e1
  |some x =>
  rw[qa,qb]at e1;dsimp only at e1;refine au (K3 hc hp qa qb ?_);dsimp only;by_cases hz:y<x
  .rw[if_pos hz]at e1;cases e1;exact zf (decide_eq_true hz) (aA hk)
  .rw[if_neg hz]at e1;cases e1;exact qj (by simp[hz]) (aA hk)
 .dsimp only;by_cases z:(n==nrem)=a8
  .exact zf z (aA h)
  .refine qj z (zf hn ?_);refine au (K3 hc hp e1 e2 ?_);exact zf (decide_eq_true hxy) (aA h)
theorem ja6{p o:Array Nat}{c:Nat}:bu (λa x=>a.setIfInBounds (c+x.snd) x.fst) (aL (ay it) p) (aL (ay it) o).toList.zipIdx=aL (ay it) (bu (λa x=>a.setIfInBounds (c+x.snd) x.fst) p o.toList.zipIdx):=by
 rw[cO,List.zipIdx_map,List.foldl_map];generalize o.toList.zipIdx=l;induction l generalizing p with
 |nil=>rfl
 |cons x l ih =>rw[bN,bN,<-ih];congr 1;simp[Prod.map]
theorem j5n{st st':aP}{Q:PUnit->aP->ae->Prop}{s:ae}(h:Q ⟨⟩ st' s):cc (ar prog w) A E (set st':StateT aP gz PUnit) Q st s:=by unfold cc;rw[StateT.run_set];exact aC h
theorem j72{p r:Array Nat}{g' k l x y:Nat}{Q:Bool->aP->ae->Prop}{s:ae}(hc:Cmp prog w A κ it N s)
  (hp:Low N p) (ex:p[32]?=a5 x) (e1:gal a6 x p 0 32 0=a5 k) (h1:¬(32-k==0)=a8) (ey:p[0+k+(32-k)-1]?=a5 y) (e2:gal a8 y p 32 32 31=a5 l) (h2:¬(l==0)=a8) (h3:32-k<=l)
  (e3:mlo (p.extract (0+k) 32) (p.extract 32 (32+l)) 7=a5 (r,g')) (h:Q a8 (ks κ it (bu (λa x=>a.setIfInBounds (0+k+x.snd) x.fst) p r.toList.zipIdx) #[(0,64,1)] g') s) :
  cc (ar prog w) A E (mergeAt' 0) Q (ks κ it p #[(0,32,1),(32,32,0)] 7) s:=by
 refine au (eC ?_);have g2:((#[(0,32,1),(32,32,0)]:Array (Nat×Nat×Nat)).setIfInBounds 0 (0,32+32,1)).eraseIdxIfInBounds (0+1) = #[(0,64,1)]:=by simp
 refine au (j5n (st':=ks κ it p (((#[(0,32,1),(32,32,0)]:Array (Nat×Nat×Nat)).setIfInBounds 0 (0,32+32,1)).eraseIdxIfInBounds (0+1)) 7) ?_);rw[g2];refine au (jx ex ?_);refine au (Jk hc (hp _ _ ex) hp e1 ?_);refine qj h1 ?_;refine au (jx ey ?_);refine au (Jk hc (hp _ _ ey) hp e2 ?_);refine qj h2 ?_;have a1:jI (ks κ it p #[(0,32,1),(32,32,0)] 7)=aL (ay it) p:=rfl;refine zf (show 32-k<=l from h3) (au ?_);show cc _ _ _ ((sortPriv% PySem.Builtin.mergeLo) ((aL (ay it) p).extract (0+k) 32) ((aL (ay it) p).extract 32 (32+l))) _ _ _;rw[Ub,Ub];refine j70 hc (hp.ext _ _) (hp.ext _ _) e3 ?_;refine au (kasC_modify ?_);refine au (eC (aA ?_));unfold ks at h;rw[<-ja6 (it:=it)]at h;exact h
noncomputable def m64(p:Array Nat):Option (Array Nat) :=
 if p.size=64 then match qz (as1 p 0) 63 1 with
  |some 64=>if p.getD 0 0<p.getD 63 0 then a5 p else a7
  |some 32=>if p.getD 0 0<p.getD 31 0/\qz (as1 p 32) 31 1=a5 32/\p.getD 32 0<p.getD 63 0 then
    match gal a6 (p.getD 32 0) p 0 32 0 with
    |none=>a7
    |some k=>match gal a8 (p.getD (0+k+(32-k)-1) 0) p 32 32 31 with
     |none=>a7
     |some l=>if k<32/\0<l/\32-k<=l then match mlo (p.extract (0+k) 32) (p.extract 32 (32+l)) 7 with
       |none=>a7
       |some r=>a5 (bu (λa x=>a.setIfInBounds (0+k+x.snd) x.fst) p r.1.toList.zipIdx)
      else a7
   else a7
  |_=>a7
 else a7
theorem getD_some{p:Array Nat}{i:Nat}(h:i<p.size):p[i]?=a5 (p.getD i 0):=by simp[fN,h]
local macro_rules | `(tactic| walk_at "ksm")=>`(tactic| simp only [K9,jaf,j0t,Nat.zero_add,Nat.reduceAdd,Nat.reduceSub,Nat.reduceMul,Nat.reduceDiv,Nat.reduceBEq,Nat.reduceLT,Nat.reduceLeDiff,Nat.reduceGT,ge_iff_le,gt_iff_lt,Bool.false_eq_true,↓reduceIte,reduceCtorEq,Array.size_map,beq_self_eq_true,Bool.not_true,Bool.not_false])
local macro_rules | `(tactic| walk_at "kst")=>`(tactic| with_reducible first | refine kasC_get ?_ | refine kasC_modify ?_ | refine kasC_pure ?_ | refine Ez (by rfl) ?_ | refine kasC_nil ?_ | refine Bp ?_ | refine kasC_bind ?_)
theorem j9n{p q:Array Nat}{Q:Unit->aP->ae->Prop}{s:ae}(hc:Cmp prog w A κ it N s)(hp:Low N p)(e:m64 p=a5 q)(h:∀g pd,Q () (ks κ it q pd g) s):cc (ar prog w) A E sortRuns' Q (ks κ it p #[] 7) s:=by
 unfold m64 at e;by_cases hz:p.size=64
 case neg=>rw[if_neg hz]at e;cases e
 rw[if_pos hz]at e;have sz:(jI (ks κ it p #[] 7)).size=64:=by rw[K9,P0];exact hz
 have mr:minRun' 64 64 0=32:=by rfl
 have b0:(#[]:Array (Nat×Nat×Nat)).back?=a7:=rfl;have gd:∀i,i<64->p[i]?=a5 (p.getD i 0):=λi hi=>getD_some nofun
 rw[sortRuns'_eq];refine au (eC ?_);simp only[sz,mr];cases q1:qz (as1 p 0) 63 1 with
 |none=>rw[q1]at e;cases e
 |some n =>
 rw[q1]at e;by_cases h64:n=64
 .subst h64
  change (if p.getD 0 0<p.getD 63 0 then a5 p else a7)=a5 q at e
  by_cases c1:p.getD 0 0<p.getD 63 0
  case neg=>rw[if_neg c1]at e;cases e
  rw[if_pos c1]at e;cases e;have b1:(#[]:Array (Nat×Nat×Nat)).push (0,64,0) = #[(0,64,0)]:=rfl;have b3:(#[(0,64,0)]:Array (Nat×Nat×Nat)).size=1:=rfl
  repeat (first|refine Og hc hp q1 (by decide) (gd 0 (by decide)) (gd 63 (by decide)) c1 ?_|(walk_at "kst";try walk_at "ksm")|walk_at "ksm"|simp only[b0,b1,b3,gn])
  exact h _ _
 .by_cases h32:n=32
  .subst h32
   replace e:(if p.getD 0 0<p.getD 31 0/\qz (as1 p 32) 31 1=a5 32/\p.getD 32 0<p.getD 63 0 then
    match gal a6 (p.getD 32 0) p 0 32 0 with
    |none=>a7
    |some k=>match gal a8 (p.getD (0+k+(32-k)-1) 0) p 32 32 31 with
     |none=>a7
     |some l=>if k<32/\0<l/\32-k<=l then match mlo (p.extract (0+k) 32) (p.extract 32 (32+l)) 7 with
       |none=>a7
       |some r=>a5 (bu (λa x=>a.setIfInBounds (0+k+x.snd) x.fst) p r.1.toList.zipIdx)
      else a7
   else a7)=a5 q:=e
   by_cases c1:p.getD 0 0<p.getD 31 0/\qz (as1 p 32) 31 1=a5 32/\p.getD 32 0<p.getD 63 0
   case neg=>rw[if_neg c1]at e;cases e
   rw[if_pos c1]at e;obtain⟨c1,c2,c3⟩:=c1;cases q2:gal a6 (p.getD 32 0) p 0 32 0 with
   |none=>rw[q2]at e;cases e
   |some k =>
   rw[q2]at e;dsimp only at e;cases q3:gal a8 (p.getD (0+k+(32-k)-1) 0) p 32 32 31 with
   |none=>rw[q3]at e;cases e
   |some l =>
   rw[q3]at e;dsimp only at e;by_cases c4:k<32/\0<l/\32-k<=l
   case neg=>rw[if_neg c4]at e;cases e
   rw[if_pos c4]at e;obtain⟨c4,c5,c6⟩:=c4;cases q4:mlo (p.extract (0+k) 32) (p.extract 32 (32+l)) 7 with
   |none=>rw[q4]at e;cases e
   |some r =>
   rw[q4]at e;cases e;have b1:(#[]:Array (Nat×Nat×Nat)).push (0,32,0) = #[(0,32,0)]:=rfl;have b2:(#[(0,32,0)]:Array (Nat×Nat×Nat)).back?=a5 (0,32,0):=rfl;have b3:(#[(0,32,0)]:Array (Nat×Nat×Nat)).size=1:=rfl;have b4:∀f:Nat×Nat×Nat->Nat×Nat×Nat,(#[(0,32,0)]:Array (Nat×Nat×Nat)).modify 0 f = #[f (0,32,0)]:=λ_=>rfl;have pw:power' 64 32 96 64=1:=rfl;have b5:(#[(0,32,1)]:Array (Nat×Nat×Nat)).push (32,32,0) = #[(0,32,1),(32,32,0)]:=rfl;have b6:(#[(0,32,1),(32,32,0)]:Array (Nat×Nat×Nat)).size=2:=rfl;have b7:(#[(0,64,1)]:Array (Nat×Nat×Nat)).size=1:=rfl
   repeat (first|refine Og hc hp q1 (by decide) (gd 0 (by decide)) (gd 31 (by decide)) c1 ?_|refine Og hc hp c2 (by decide) (gd 32 (by decide)) (gd 63 (by decide)) c3 ?_|(walk_at "kst";try walk_at "ksm")|walk_at "ksm"|simp only[b0,b1,b2,b3,b4,b5,b6,pw,gn])
   refine j72 (r:=r.1) (g':=r.2) hc hp (gd 32 (by decide)) q2 (by simp;omega) (gd _ nofun) q3 (by simp;omega) c6 q4 ?_;simp only[bI]at h
   repeat (first|(walk_at "kst";try walk_at "ksm")|walk_at "ksm"|simp only[b7])
   exact h _ _
  .exfalso
   revert e
   split
   .rename_i z;cases z;exact absurd rfl h64
   .rename_i z;cases z;exact absurd rfl h32
   .intro e;cases e
end
theorem j4a:∀j<6,m64 (rnk 6 j).toArray=a5 (aE 64).toArray:=by decide +kernel
end PySem.W
end
section
namespace PySem.W
open PySem PySem.Calls PyProof.Rows
section
variable{prog:ak}{w:ax}{A:az}{E:k4o}{s:ae}{vs:List a9}{q:List Nat}
def Srt(prog:ak)(w:ax)(A:az)(E:k4o)(vs:List a9)(q:List Nat)(s:ae):Prop :=
 aw (ar prog w) A (keyKind' vs.toArray) (λκ s1=>s1=s/\cc (ar prog w) A E sortRuns' (λ_ st s2=>s2=s/\jI st=q.toArray.map (ay (br vs))/\failedOf st=a7) (cQ κ (br vs) #[] 7 a7) s) E s
theorem j01 {a:af} {n:Nat} {P:PySem.Fin->ae->Prop} (ho:s.heap.get? a=a5 (b9 "list" vs.toArray n)) (h2:2<=vs.length) (hz:vs.length<=64) (hq:q.length=vs.length)
  (hS:∀s':ae,(∀b o,b≠a->s.heap.get? b=a5 o->s'.heap.get? b=a5 o)->Srt prog w A E vs q s')
  (h:∀h' c,(∀b o,b≠a->s.heap.get? b=a5 o->h'.get? b=a5 o)->h'.get? a=a5 (b9 "list" (q.map λi=>vs.getD i aI).toArray c)->P (.done (.ret .none)) { s with heap:=h' }) :
  aw (ar prog w) A (dH.«list.sort» ⟨[.ref a],[]⟩) P E s:=by
 have ha:a<s.heap.objs.size:=xg ho;have s1:=Heap.SameBut.update s.heap a (aR λ_=>(#[]:Array a9));obtain⟨e1,ho1⟩:∃e1,(s.heap.update a (aR λ_=>(#[]:Array a9))).get? a=a5 (b9 "list" #[] e1):=⟨_,jv ho λ_=>#[]⟩
 have kp:∀b o,b≠a->s.heap.get? b=a5 o->(((s.heap.update a (aR λ_=>(#[]:Array a9))).push (b9 "tuple" vs.toArray 0)).push (b9 "list" #[] 0)).get? b=a5 o:=λb o nb e =>xq _ (xq _ ((s1.2 b nb).trans e))
 have na:(((s.heap.update a (aR λ_=>(#[]:Array a9))).push (b9 "tuple" vs.toArray 0)).push (b9 "list" #[] 0)).get? a=a5 (b9 "list" #[] e1):=xq _ (xq _ ho1);rw[list_sort_plain];refine ao (listItems_at ho rfl ?_);refine ao (jQ ho rfl ?_ (by rw[xm,ba];omega) (cI _));refine ao (seqEpoch_at ho1 rfl ?_);refine ao (wpAny_newTuple ?_ (by show vs.length<=_;rw[ba];omega));refine ao (jK ?_ (cI _));refine fE ?_;show aw (ar prog w) A _ P E { s with heap:=((s.heap.update a (aR λ_=>(#[]:Array a9))).push (b9 "tuple" vs.toArray 0)).push (b9 "list" #[] 0) };dsimp only;have hn2:¬vs.toArray.size<2:=by rw[xm];omega
 rw[if_neg hn2,if_neg hn2];refine ao (aT (hS { s with heap:=((s.heap.update a (aR λ_=>(#[]:Array a9))).push (b9 "tuple" vs.toArray 0)).push (b9 "list" #[] 0) } kp) (λκ s2 z=>?_) λ_ _ e=>e);obtain⟨rfl,z⟩:=z;refine ao (aT z ?_ λ_ _ e=>e);rintro⟨⟨⟩,st'⟩ s' ⟨rfl,har,hf⟩;dsimp only;have hout:(jI st').map (·.2)=bF (q.map λi=>vs.getD i aI):=by apply Array.toList_inj.mp;rw[har,Array.map_map,cO];exact bK λi _=>by show(ay (br vs) i).2=_;rw[cV]
 have hsz:(bF (q.map λi=>vs.getD i aI)).size=vs.length:=by rw[xm,xn,hq]
 rw[hout];have s2:=Heap.SameBut.update (((s.heap.update a (aR λ_=>(#[]:Array a9))).push (b9 "tuple" vs.toArray 0)).push (b9 "list" #[] 0)) a (aR λ_=>bF (q.map λi=>vs.getD i aI));obtain⟨c2,hc2⟩:∃c2,((((s.heap.update a (aR λ_=>(#[]:Array a9))).push (b9 "tuple" vs.toArray 0)).push (b9 "list" #[] 0)).update a (aR λ_=>bF (q.map λi=>vs.getD i aI))).get? a=a5 (b9 "list" (bF (q.map λi=>vs.getD i aI)) c2):=⟨_,jv na λ_=>bF (q.map λi=>vs.getD i aI)⟩
 refine ao (seqEpoch_at na rfl ?_);refine ao (jQ na rfl ?_ (cI _) (Xd (iL hsz) (by rw[ba];omega)));rw[hf];simp only[bne_self_eq_false,pq,if_false];exact aC (h _ c2 (λb o nb e=>(s2.2 b nb).trans (kp b o nb e)) hc2)
theorem U0{l:af}{Q:k4o}(hl:s.heap.IsList l vs.toArray)(h2:2<=vs.length)(hz:vs.length<=64)(hq:q.length=vs.length)
  (hS:∀s':ae,(∀b o,s.heap.get? b=a5 o->s'.heap.get? b=a5 o)->Srt prog w A.in1.in1 E vs q s')
  (h:∀D h' c,s.heap.objs.size<=D->(∀b o,s.heap.get? b=a5 o->h'.get? b=a5 o)->h'.get? D=a5 (b9 "list" (q.map λi=>vs.getD i aI).toArray c)->Q (.ref D) { s with heap:=h' }) :
  aw (ar prog w) A (call (.builtin "sorted") [.ref l]) Q E s:=by
 refine Calls.call_function_entry kind_sorted plain_sorted entry_sorted (args_sorted1 _) ?_;unfold dH.«sorted»;refine ao (m:=checkCount "sorted" 1 1 _) (aC ?_);refine ao (collect_list hl ?_ (by rw[ba];omega));refine ao (jK ?_ (by rw[ba];omega));have hsz:((s.heap.push (b9 "list" #[] 0)).update s.heap.objs.size (aR (· ++ vs.toArray))).objs.size=s.heap.objs.size+1:=by rw[Heap.size_update,size_push']
 have hoL:(((s.heap.push (b9 "list" #[] 0)).update s.heap.objs.size (aR (· ++ vs.toArray))).push (b9 "list" vs.toArray 0)).get? (s.heap.objs.size+1)=a5 (b9 "list" vs.toArray 0):=by rw[<-hsz];exact Xc _ rfl
 have keep:∀b o,s.heap.get? b=a5 o->(((s.heap.push (b9 "list" #[] 0)).update s.heap.objs.size (aR (· ++ vs.toArray))).push (b9 "list" vs.toArray 0)).get? b=a5 o:=λb o q=>by have hlt:b<s.heap.objs.size:=xg q;rw[gc _ _ _ (by rw[hsz];exact X6 (cJ hlt)),Heap.get?_update_ne _ _ _ _ (X6 hlt),gc _ _ _ (X6 hlt)];exact q
 have ne:∀b o,s.heap.get? b=a5 o->b≠s.heap.objs.size+1:=λb o e z=>absurd (xg e) (Nat.not_lt.mpr (by rw[z];exact Xq _));show aw _ _ _ _ _ { s with heap:=((s.heap.push (b9 "list" #[] 0)).update s.heap.objs.size (aR (· ++ vs.toArray))).push (b9 "list" vs.toArray 0) };rw[hsz];refine ao (fE (iD slot_list_sort ⟨_,hoL,rfl⟩ entry_list_sort ?body (args_list_sort _)))
 case body =>refine j01 (s:={ s with heap:=((s.heap.push (b9 "list" #[] 0)).update s.heap.objs.size (aR (· ++ vs.toArray))).push (b9 "list" vs.toArray 0) }) hoL h2 hz hq (λs' kp=>hS s' λb o e=>kp b o (ne b o e) (keep b o e)) λh' c kp e=>?_;exact⟨_,rfl,aC ⟨_,rfl,h _ h' c (Xq _) (λb o e=>kp b o (ne b o e) (keep b o e)) e⟩⟩
end
end PySem.W
end
section
namespace PySem.W
open PySem PySem.Calls PyProof.Rows
noncomputable def evO{α:Type}(n:Nat)(r:Nat->Nat->Bool):KasT α->Option α
 |.ret a=>a5 a
 |.ask i j k=>if i<n/\j<n then evO n r (k (r i j))else a7
theorem Kr{α:Type}{n:Nat}{r:Nat->Nat->Bool}{cmp:Nat->Nat->(Bool->ae->Prop)->ae->Prop}{Q:α->ae->Prop}{s:ae}(hc:∀i j,i<n->j<n->∀C:Bool->ae->Prop,C (r i j) s->cmp i j C s):∀(t:KasT α){a:α},evO n r t=a5 a->Q a s->t.kasWp cmp Q s
 |.ret _,_,e,h=>by cases e;exact h
 |.ask i j k,a,e,h=>by
  unfold evO at e;by_cases z:i<n/\j<n
  .rw[if_pos z]at e;exact hc i j z.1 z.2 _ (Kr hc (k (r i j)) e h)
  .rw[if_neg z]at e;cases e
noncomputable def pst(k j:Nat):List Nat:=(aE (2^k)).map λr=>(rnk k j).idxOf r
theorem Va:∀k<7,∀j<k,(rnk k j).length=2^k/\(pst k j).length=2^k/\(∀i<2^k,(rnk k j).getD i 0<2^k/\(pst k j).getD ((rnk k j).getD i 0) 0=i/\(pst k j).getD i 0<2^k/\(rnk k j).getD ((pst k j).getD i 0) 0=i):=by decide +kernel
theorem Cq:∀k<6,∀j<k,evO (2^k) (λa b=>decide ((rnk k j).getD a 0<(rnk k j).getD b 0)) (kas_sort (2^k))=a5 (pst k j).toArray:=by decide +kernel
section
variable{prog:ak}{w:ax}{A:az}{E:k4o}{s:ae}
theorem j45{b:Bool}{x y:Int}{t u:i9}{Q:Bool->ae->Prop}(h:Q (decide (x<y)) s):aw (ar prog w) A (oneLt' b (.int x t) (.int y u)) Q E s:=by
 cases b with
 |true=>exact oneLt_int h
 |false=>exact kat_one _ _ (lt_int h)
theorem Mx{Q:Bool->ae->Prop}{b:Bool}:∀{us vs:List a9}{ns ms:List Int}(i:Nat)(fin:Bool),cg us ns->cg vs ms->ns.length=ms.length->fin=a6->Q (HT.lexLt ns ms) s->KatLex prog w A b fin Q (us.zip vs) i s
 |_,_,[],[],i,fin,.nil,.nil,_,ef,h=>by subst ef;exact h
 |_,_,n::ns,m::ms,i,fin,.cons _ t hu,.cons _ u hv,hl,ef,h=>by
  refine kat_cons (iC ?_);rw[HT.lexLt_cons]at h;by_cases e:n=m
  .rw[if_pos e]at h;rw[show(n==m)=a8 from by simp[e]];exact kat_yes (Mx (i+1) fin hu hv (by simpa using hl) ef h)
  .rw[if_neg e]at h;rw[show(n==m)=a6 from by simp[e]];exact kat_no (j45 h)
theorem j4c{b:Bool}{x y:af}{xs ys:Array a9}{ns ms:List Int}{Q:Bool->ae->Prop}(hx:fV s.heap x xs)(hy:fV s.heap y ys)(hn:cg xs.toList ns)(hm:cg ys.toList ms)(hl:ns.length=ms.length)(h:Q (HT.lexLt ns ms) s) :
  aw (ar prog w) A (keyLt' (ff b) (.ref x) (.ref y)) Q E s:=by
 obtain⟨ox,ex,_,n,dx⟩:=hx;obtain⟨oy,ey,_,k,dy⟩:=hy;have e1:xs.size=ys.size:=by rw[<-Pg,<-Pg,hn.length,hm.length,hl]
 exact kat_lt ex dx ey dy (Mx 0 _ hn hm hl (by rw[e1];simp) h)
def Wb(h:aD)(z:Nat)(vs:List a9)(l:List (List Int)):Prop:=vs.length=l.length/\∀i<l.length,(l.getD i []).length=z/\∃a items,vs.getD i aI=.ref a/\fV h a items/\cg items.toList (l.getD i [])
theorem Vf:∀l:List Int,HT.lexLt l l=a6
 |[]=>rfl
 |x::l=>by rw[HT.lexLt_cons,if_pos rfl];exact Vf l
theorem Z7:∀a b c:List Int,HT.lexLt a b=a8->HT.lexLt b c=a8->HT.lexLt a c=a8
 |[],[],_,h,_=>by cases h
 |[],_::_,[],_,h=>by cases h
 |[],_::_,_::_,_,_=>rfl
 |_::_,[],_,h,_=>by cases h
 |_::_,_::_,[],_,h=>by cases h
 |x::a,y::b,z::c,h1,h2=>by
  rw[HT.lexLt_cons]at h1 h2 ⊢;by_cases e1:x=y
  .subst e1;rw[if_pos rfl]at h1;by_cases e2:x=z
   .rw[if_pos e2]at h2 ⊢;exact Z7 a b c h1 h2
   .rw[if_neg e2]at h2 ⊢;exact h2
  .rw[if_neg e1]at h1;by_cases e2:y=z
   .subst e2;rw[if_neg e1];exact h1
   .rw[if_neg e2]at h2;have h1:=of_decide_eq_true h1;have h2:=of_decide_eq_true h2;rw[if_neg nofun];exact decide_eq_true nofun
noncomputable def Zn:List (List Int)->Bool
 |a::b::r=>HT.lexLt a b&&Zn (b::r)
 |_=>a8
theorem W2:∀(l:List (List Int)),Zn l=a8->∀i j,i<j->j<l.length->HT.lexLt (l.getD i []) (l.getD j [])=a8
 |[],_,_,_,_,h=>by cases h
 |[a],_,i,j,h1,h2=>by simp at h2;omega
 |a::b::r,h,i,j,h1,h2=>by
  unfold Zn at h;rw[X4]at h;obtain⟨j,rfl⟩:∃j',j=j'+1:=⟨j-1,by omega⟩
  have go:=W2 (b::r) h.2;cases i with
  |zero =>
   cases j with
   |zero=>exact h.1
   |succ j=>exact Z7 _ _ _ h.1 (go 0 (j+1) nofun (by simpa using h2))
  |succ i=>exact go i j nofun (by simpa using h2)
theorem j1b{l:List (List Int)}(h:Zn l=a8){i j:Nat}(hi:i<l.length)(hj:j<l.length):HT.lexLt (l.getD i []) (l.getD j [])=decide (i<j):=by
 rcases Nat.lt_trichotomy i j with z|z|z
 .rw[W2 l h i j z hj,decide_eq_true z]
 .subst z;rw[Vf,decide_eq_false (Xl _)]
 .rw[decide_eq_false nofun];cases e:HT.lexLt (l.getD i []) (l.getD j []) with
  |false=>rfl
  |true =>have:=Z7 _ _ _ e (W2 l h j i z hi);rw[Vf]at this;cases this
theorem El:∀{vs:List a9}{l:List (List Int)} {z:Nat},Wb s.heap (z+1) vs l->∃fs,KatTups s.heap vs fs/\fs.length=l.length/\∀v∈fs,∃n t,v=bh n t:=by
 intro vs;induction vs with
 |nil=>intro l z h;cases l with
  |nil=>exact⟨[],trivial,rfl,λ_ h=>by cases h⟩
  |cons _ _=>simp[Wb]at h
 |cons v vs ih =>
  intro l z h;cases l with
  |nil=>simp[Wb]at h
  |cons k l =>
   obtain⟨h1,h2⟩:=h;obtain⟨fs,t,el,ei⟩:=ih (l:=l) (z:=z) ⟨by simpa using h1,λi hi=>by simpa using h2 (i+1) (by simpa using hi)⟩;obtain⟨hz,a,items,e1,⟨o,e2,e3,n,e4⟩,e5⟩:=h2 0 (by simp);have e1:v=.ref a:=e1;have e5:cg items.toList k:=e5;have hz:k.length=z+1:=hz;cases k with
   |nil=>simp at hz
   |cons m ms =>
    cases q:items.toList with
    |nil=>rw[q]at e5;cases e5
    |cons u us =>
     rw[q]at e5;cases e5 with
     |cons _ t' _ =>
     refine⟨.int m t'::fs,?_,by simp[el],λv hv=>?_⟩
     .subst e1;refine .cons e2 e3 e4 ?_ t;rw[<-fj,q];rfl
     .rcases xf.mp hv with e|e
      .exact⟨_,_,e⟩
      .exact ei v e
theorem Ls(vs:List a9){i:Nat}(h:i<vs.length):(br vs)[i]?=a5 (vs.getD i aI,vs.getD i aI):=by simp[br,h]
theorem M8{vs:List a9}{l:List (List Int)}{z k j:Nat}(hk:k<7)(hj:j<k)(hl:l.length=2^k)(hT:Wb s.heap (z+1) vs l)(hi:Zn ((pst k j).map λi=>l.getD i [])=a8):Srt prog w A E vs (pst k j) s:=by
 obtain⟨f1,f2,f3⟩:=Va k hk j hj;obtain⟨fs,kt,el,ei⟩:=El hT;have hn:0<l.length:=by rw[hl];exact Nat.two_pow_pos k
 have cmp0:∀b i i',i<2^k->i'<2^k->∀C:Bool->ae->Prop,C (decide ((rnk k j).getD i 0<(rnk k j).getD i' 0)) s->aw (ar prog w) A (keyLt' (ff b) (vs.getD i aI) (vs.getD i' aI)) C (λ_ _=>False) s:=λb i i' h1 h2 C hC=>by
  obtain⟨z1,a1,it1,e1,p1,n1⟩:=hT.2 i nofun
  obtain⟨z2,a2,it2,e2,p2,n2⟩:=hT.2 i' nofun
  rw[e1,e2];refine j4c p1 p2 n1 n2 nofun ?_;have q:=j1b hi (i:=(rnk k j).getD i 0) (j:=(rnk k j).getD i' 0) (by rw[xn,f2];exact(f3 i h1).1) (by rw[xn,f2];exact(f3 i' h2).1);have g:∀i,i<2^k->((pst k j).map λi=>l.getD i []).getD ((rnk k j).getD i 0) []=l.getD i []:=λi h=>by
   have a:=(f3 i h).1;have b:=(f3 i h).2.1;have c:(rnk k j).getD i 0<(pst k j).length:=by rw[f2];exact a
   rw[kj,X3,kh c,Pn,Ph];rw[kj,kh c,Ph]at b;rw[b]
  rw[g i h1,g i' h2]at q;rw[q];exact hC
 refine kat_kind kt nofun (T:=.type "int") (λv hv=>?_) (by decide) ⟨rfl,?_⟩
 .obtain⟨n,t,e⟩:=ei v hv;subst e;exact Looks.of_pure rfl
 .have hv:vs.length=2^k:=hT.1.trans hl;by_cases h6:k=6
  .subst h6;have e0:br vs=(rnk 6 j).toArray.map (ay ((pst 6 j).toArray.map (ay (br vs)))):=by
    apply Array.ext_getElem?;intro i;by_cases hi:i<64
    .rw[Ls vs nofun,cn];have a:=f3 i hi;have e1:(rnk 6 j).toArray[i]?=a5 ((rnk 6 j).getD i 0):=by rw[bU,kj,kh nofun];rfl
     rw[e1,Pn];congr 1;have e2:ay ((pst 6 j).toArray.map (ay (br vs))) ((rnk 6 j).getD i 0)=ay (br vs) ((pst 6 j).getD ((rnk 6 j).getD i 0) 0):=by
      show fN _ _ _=_;have c:(rnk 6 j).getD i 0<(pst 6 j).length:=by rw[f2];exact a.1
      simp only[eA,cn,bU,kj]at c ⊢;rw[kh c];rfl
     rw[e2,a.2.1,cV]
    .rw[fc (by rw[pairsOf_size];omega),fc (by rw[P0,xm];omega)]
   have est:cQ (ff (bb "int" != bb "tuple")) (br vs) #[] 7 a7=ks (ff (bb "int" != bb "tuple")) ((pst 6 j).toArray.map (ay (br vs))) (rnk 6 j).toArray #[] 7:=by unfold ks;rw[<-e0]
   rw[est];have kp:∀i,i<64->ay ((pst 6 j).toArray.map (ay (br vs))) i=ay (br vs) ((pst 6 j).getD i 0):=λi hi=>by
    show fN _ _ _=_;have c:i<(pst 6 j).length:=by rw[f2];exact hi
    simp only[eA,cn,bU,kj]at c ⊢;rw[kh c];rfl
   refine j9n (N:=64) (λi i' h1 h2 C hC=>?_) (λi x e=>?_) (j4a j hj) λg pd=>⟨rfl,?_,rfl⟩
   .unfold kas_cmp;rw[kp i h1,kp i' h2,cV,cV];refine cmp0 _ _ _ (f3 i h1).2.2.1 (f3 i' h2).2.2.1 C ?_;rw[(f3 i h1).2.2.2,(f3 i' h2).2.2.2];exact hC
   .rw[bU]at e;have hi:i<(rnk 6 j).length:=(Xb.mp e).1;have:=(f3 i nofun).1;rw[kj,e]at this;exact this
   .show aL _ (aE 64).toArray=_;apply Array.toList_inj.mp;rw[cO,cO];apply cE;intro i;rw[X3,X3];by_cases hi:i<64
    .rw[cf hi,kh (l:=(pst 6 j)) nofun,Pn,Pn,kp i hi];rw[kj,kh (l:=(pst 6 j)) nofun];rfl
    .rw[Xu (by rw[Py];omega),Xu (l:=(pst 6 j)) nofun];rfl
  .have est:cQ (ff (bb "int" != bb "tuple")) (br vs) #[] 7 a7=kas_st (ff (bb "int" != bb "tuple")) (br vs) (bF (aE vs.length)):=by have e:=kas_range (br vs);rw[pairsOf_size]at e;show cQ _ (br vs) #[] 7 a7=cQ _ ((bF (aE vs.length)).map (ay (br vs))) #[] 7 a7;rw[e]
   have k5:k<6:=by omega
   have p1:2<=2^k/\2^k<64:=by
    have:∀k<6,0<k->2<=2^k/\2^k<64:=by decide
    exact this k k5 nofun
   rw[est];refine kas_runs nofun nofun (G:=λp s'=>p=(pst k j).toArray/\s'=s) (λp' st' s' a1 a2 a3 a4=>?_) ?_
   .obtain⟨rfl,rfl⟩:=a4;exact⟨rfl,a2,a3⟩
   .rw[hv];refine Kr (n:=2^k) (λi i' h1 h2 C hC=>?_) _ (Cq k k5 j hj) ⟨rfl,rfl⟩;unfold kas_cmp;rw[cV,cV];exact cmp0 _ _ _ h1 h2 C hC
end
end PySem.W
end
section
namespace L2
open PySem PySem.Spec PyProof.Rows
open PySem.W (pst rnk Zn Va M8 U0 Wb)
noncomputable def Rm(l:List (List Int))(k:Nat):List Nat->Option (List (List Int))
 |[]=>a7
 |j::js=>if Zn ((pst k j).map λi=>l.getD i [])then a5 ((pst k j).map λi=>l.getD i [])else Rm l k js
noncomputable def V8(l:List (List Int)):Option (List (List Int)):=match l with
 |[]=>a7
 |a::_=>if a.length≠0/\l.all (λb=>b.length==a.length)=a8 then match [1,2,3,4,5,6].find? λk=>l.length==2^k with
   |some k=>Rm l k (aE k)
   |none=>a7
  else a7
theorem M9{l S:List (List Int)}{k:Nat}:∀js:List Nat,Rm l k js=a5 S->∃j∈js,Zn ((pst k j).map λi=>l.getD i [])=a8/\S=(pst k j).map λi=>l.getD i []
 |[],h=>by cases h
 |j::js,h=>by
  unfold Rm at h;split at h
  .rename_i e;cases h;exact⟨j,xj ..,e,rfl⟩
  .obtain⟨j',h1,h2⟩:=M9 js h;exact⟨j',km _ h1,h2⟩
theorem j3e{l S:List (List Int)}(h:V8 l=a5 S):∃k j z,k<7/\j<k/\l.length=2^k/\(∀i<l.length,(l.getD i []).length=z+1)/\Zn ((pst k j).map λi=>l.getD i [])=a8/\S=(pst k j).map λi=>l.getD i []:=by
 unfold V8 at h;split at h
 .cases h
 .rename_i a r;split at h
  .rename_i ha;split at h
   .rename_i k hk;have k1:=eU hk;have k2:=gJ hk;obtain⟨j,hj,h1,h2⟩:=M9 _ h;refine⟨k,j,a.length-1,?_,Xz.mp hj,by simpa using k2,λi hi=>?_,h1,h2⟩
    .have:∀k∈[1,2,3,4,5,6],k<7:=by decide
     exact this k k1
    .have:=Xh.mp ha.2 ((a::r).getD i []) (by rw[kj,kh hi];exact bG hi);have e:=beq_iff_eq.mp this;have:=ha.1;omega
   .cases h
  .cases h
theorem j5.pick{K:k4n}{H:Hp}{ds:List D}{xs:List V}(h:j5 K H ds xs):∀q:List Nat,(∀i∈q,i<ds.length)->j5 K H (q.map λi=>ds.getD i .non) (q.map λi=>xs.getD i .non)
 |[],_=>rfl
 |i::q,hq=>by have hi:=hq i (xj ..);obtain⟨x,hx,e⟩:=h.get (kh hi);refine⟨xs.getD i .non,_,rfl,?_,j5.pick h q λi hi=>hq i (km _ hi)⟩;show Enc K H (ds.getD i .non) _;rw[kj,kj,hx,kh hi];exact e
theorem Vals.pick{xs:List V}{us:List a9}(h:Vals xs us):∀q:List Nat,(∀i∈q,i<xs.length)->Vals (q.map λi=>xs.getD i .non) (q.map λi=>us.getD i aI)
 |[],_=>.nil
 |i::q,hq=>by have hi:=hq i (xj ..);obtain⟨u,hu,r⟩:=h.get (kh hi);refine .cons ?_ (Vals.pick h q λi hi=>hq i (km _ hi));show RelV (xs.getD i .non) (us.getD i aI);rw[kj,kj,hu,kh hi];exact r
theorem Ua:∀l:List (List Int),ju (l.map λk=>D.tup (k.map D.int))=a8
 |[]=>rfl
 |k::l=>by
  have:∀k:List Int,ju (k.map D.int)=a8:=λk=>by
   induction k with
   |nil=>rfl
   |cons _ _ ih=>show(Jd _&&ju _)=a8;rw[ih];rfl
  show(ju _&&ju _)=a8;rw[this k,Ua l];rfl
section
variable{X:Cx}{ρ:Rho}{a:ah}{p pos:aN}
theorem DO.sortedT {l S:List (List Int)} (hS:V8 l=a5 S) (hm:X.mg "sorted" = a7) (hg:Gl X "sorted") (ha:DT X ρ a (.lst (l.map λk=>D.tup (k.map D.int)))) (hs:aa [a] X.env=[(a6,aG a X.env)]) :
  DO X ρ (.Call (.Name "sorted" p) [a] [] pos) (S.map λk=>D.tup (k.map D.int)):=λσ H Q R q pins s I=>by
 obtain⟨k,j,z,k7,jk,hl,hz,hi,rfl⟩:=j3e hS;obtain⟨f1,f2,f3⟩:=Va k k7 j jk;have k1:2<=2^k/\2^k<=64:=by
  have:∀k<7,0<k->2<=2^k/\2^k<=64:=by decide
  exact this k k7 nofun
 have pl:∀i∈pst k j,i<l.length:=λi h=>by obtain⟨r,hr,e⟩:=List.getElem_of_mem h;have:=(f3 r nofun).2.2.1;rw[kj,kh hr,Ph,e]at this;omega
 refine bj (Zb I hg hm boot_sorted ?_);refine callWith_builtin1 (thn ((j9 (es:=[]) peS jn hs).to (σ:=σ) (H:=H) (Q:=λvs H1=>∃v,vs=[v]/\j4 H H1/\Enc X.K H1 (.lst (l.map λk=>D.tup (k.map D.int))) v) (ha σ H _ R λv H1 g1 e1=>⟨v,rfl,g1,e1⟩) pos pins s I) λus s1 ⟨vs,H1,I1,r1,v,ev,g1,e1⟩=>?_) hs rfl;subst ev;obtain⟨b,xs,eb,sq,en⟩:=e1;subst eb;obtain⟨u,eu,ru⟩:=r1.one;subst eu;cases(show u=aF b from ru);have hlen:xs.length=l.length:=by rw[en.length,xn]
 obtain⟨its,rv,pL,_⟩:=I1.list sq;have hil:its.length=l.length:=by rw[<-rv.length,hlen]
 have T0:∀s':ae,(∀b o,s1.heap.get? b=a5 o->s'.heap.get? b=a5 o)->Wb s'.heap (z+1) its l:=λs' kp=>by refine⟨hil,λi h=>⟨hz i h,?_⟩⟩;obtain⟨x,hx,ex⟩:=en.get (i:=i) (d:=D.tup ((l.getD i []).map D.int)) (by rw[X3,kj,kh h];rfl);obtain⟨t,ys,e1,sq',l'⟩:=ex;rw[Jl l']at sq';obtain⟨u,hu,r⟩:=rv.get hx;subst e1;cases(show u=aF t from r);obtain⟨ts,r2,⟨o,e2,e3⟩,_⟩:=I1.tuple sq';exact⟨t,ts.toArray,by rw[kj,hu];rfl,⟨o,kp _ _ e2,e3⟩,intsAre_of r2⟩
 refine U0 pL.isList nofun nofun (q:=pst k j) nofun (λs' kp=>M8 k7 jk hl (T0 s' kp) hi) λD' h' c hD kp e=>?_;have hf:H1 D'=a7:=I1.hok.fresh hD;have vv:=Vals.pick rv (pst k j) (λi h=>by rw[hlen];exact pl i h);have zz:((pst k j).map λi=>xs.getD i .non).length<=ai:=by rw[xn,f2,ba];omega
 have I4:=I1.laid (t':=s1.toks) (o:=.lst ((pst k j).map λi=>xs.getD i .non)) kp hD ⟨zz,_,c,vv,e⟩;refine⟨.ref D',_,I4,rfl,q _ _ _ (g1.trans (j6 hf)) (g1.free hf) jr ?_⟩;have en2:=j5.pick en (pst k j) (λi h=>by rw[xn];exact pl i h);have e3:((pst k j).map λi=>(l.map λk=>D.tup (k.map D.int)).getD i .non)=((pst k j).map λi=>l.getD i []).map λk=>D.tup (k.map D.int):=by rw[Pa];refine bK λi h=>?_;have:=pl i h;simp only[Function.comp,kj,X3,kh this];rfl
 rw[e3]at en2;exact(en2.mono (j6 hf)).hide (λc hc=>by
  rcases xf.mp hc with z|z
  .rw[z];exact .inl ⟨_,jr⟩
  .exact .inl ((R.grow (g1.trans (j6 hf))).owned c z)) (Ua _)
end
end L2
end
section
namespace L2
noncomputable def vo(t:Int):List Int:=if t=2 then[0,1] else[t]
noncomputable def step(acc:List (List Int))(f:List Int):List (List Int):=acc.flatMap λa=>f.map λx=>a++[x]
noncomputable def jm(fs:List (List Int)):List (List Int):=fs.foldl step [[]]
noncomputable def j9x:List (List Int)->List (List Int)
 |[]=>[[]]
 |f::fs=>f.flatMap λx=>(j9x fs).map (x :: ·)
noncomputable def j2d:Nat->List (List Int)
 |0=>[[]]
 |m+1=>(j2d m).map (0 :: ·)++(j2d m).map (1 :: ·)
theorem Oa{b:Int}(hb:0<b)(n c:Int):∀{i m:Nat},i<=m->z8 b i (n+b^m*c)=z8 b i n
 |0,m,_=>rfl
 |i+1,m,h=>by
  rw[z8,z8,Oa hb n c nofun];congr 1;obtain⟨k,rfl⟩:∃k,m=i+(k+1):=⟨m-i-1,by omega⟩
  have hp:b^i≠0:=iN (fM hb);rw[Int.pow_add,ig,fC _ _ hp,iM,Int.mul_comm (b^k) b,ig,Int.add_mul_emod_self_left]
noncomputable def fits:List Int->List Int->Bool
 |t::ts,x::xs=>(t==2 || t==x)&&fits ts xs
 |_,_=>a8
end L2
end
section
namespace L2
open PySem
inductive Sv where
 |un
 |val (d:D)
 |own (l:List D)
 |exc (x:ag)
noncomputable abbrev En:=List Sv
set_option genInjectivity true in
inductive Rk where
 |e (d:D)
 |o (l:List D)
 |w (l:List D)
 |t (d:D)
noncomputable def Rk.d:Rk->D
 |.e d=>d
 |.o l=>.lst l
 |.w l=>.lst l
 |.t d=>d
noncomputable def Rk.st:Rk->Option D
 |.e d=>a5 d
 |.o l=>a5 (.lst l)
 |.w l=>a7
 |.t d=>if Jd d=a8 then a5 d else a7
noncomputable def Rk.sq:Rk->Option (Bool×List D)
 |.e (.lst l)=>a5 (a8,l)
 |.e (.tup l)=>a5 (a6,l)
 |.o l=>a5 (a8,l)
 |.w l=>a5 (a8,l)
 |_=>a7
noncomputable def Rk.lw:Rk->Option (List D)
 |.o l=>a5 l
 |.w l=>a5 l
 |_=>a7
inductive Rc where
 |val (d:D)
 |fresh (l:List D)
 |err (x:ag)
 |lval (d:D)
 |mval (d:D) (k:Nat)
 |merr (x:ag)
 |no
noncomputable def Rc.rk:Rc->Option Rk
 |.val d=>a5 (.e d)
 |.fresh l=>a5 (.o l)
 |_=>a7
inductive Bop where
 |add|sub|mul|fdiv|mod|pow|shl|shr|band|bxor
inductive Cop where
 |lt|le|gt|ge|eq|ne|isin|notin
inductive Bf where
 |len|min|max|all|tuple|list|sum|int|any|sorted
inductive Mf where
 |count
inductive Ex where
 |lit (d:D)
 |var (i:Nat)
 |glob (x:ag)
 |bin (op:Bop) (a b:Ex)
 |neg (a:Ex)
 |cmp (op:Cop) (a b:Ex)
 |isN (a:Ex)
 |and (a b:Ex)
 |or (a b:Ex)
 |not (a:Ex)
 |ite (c a b:Ex)
 |nil
 |cons (a b:Ex)
 |tup (es:Ex)
 |lst (es:Ex)
 |ix (a b:Ex)
 |sl (a lo hi:Ex)
 |call (f:ag) (es:Ex)
 |blt (f:Bf) (es:Ex)
 |isi (a:Ex) (ts:List String)
 |comp (is:List Nat) (elt it cond:Ex)
 |seq (a:Ex)
 |range (es:Ex)
 |fst (es:Ex)
 |isx (i:Nat) (cs:List ag)
 |lrng (a:Ex)
 |srt (a:Ex)
 |dzip (a b:Ex)
 |callD (f:ag) (es:Ex)
 |chn (a b c:Ex)
 |che (a b c:Ex)
 |maxD (a:Ex)
 |callK (f:ag) (es a:Ex)
 |dix (a b:Ex)
 |dnil
 |rpr (a:Ex)
 |upr (a:Ex)
 |spl (a:Ex)
 |exc (a:Ex)
 |sti (a:Ex)
 |din (a b:Ex)
 |items (a:Ex)
 |callV (i:Nat) (es:Ex)
 |dget (a b:Ex)
 |dvals (a:Ex)
 |minT (a:Ex)
set_option genInjectivity true in
inductive W where
 |v (r:Rk)
 |a (rs:List Rk)
 |i (ds:List D)
noncomputable def jg(n:Nat):Bool:=decide (n<=ai)
noncomputable def binI:Bop->Int->Int->Option Int
 |.add,i,j=>a5 (i+j)
 |.sub,i,j=>a5 (i-j)
 |.mul,i,j=>if (-(2^64)<i/\i<2^64)\/(-(2^64)<j/\j<2^64)then a5 (i*j)else a7
 |.fdiv,i,j=>if 0<j/\j<18446744073709551616 then a5 (i/j)else a7
 |.mod,i,j=>if 0<j then a5 (i%j)else a7
 |.pow,i,j=>if 0<=j/\j<=1000000/\i.natAbs<2^64 then a5 (i^j.toNat)else a7
 |.shl,i,j=>if 0<=j/\j<=1000000/\i.natAbs<2^64 then a5 (i*2^j.toNat)else a7
 |.shr,i,j=>if 0<=j then a5 (i/2^j.toNat)else a7
 |.band,i,j=>a5 (Builtin.bitAnd i j)
 |.bxor,i,j=>a5 (Builtin.bitXor i j)
noncomputable def Zy(op:Bop)(a b:Rk):Option Rk :=
 match a.d,b.d with
 |.int i,.int j=>(binI op i j).map λk=>.e (.int k)
 |.str y,.str z=>match op with
  |.add=>if jg (y.length+z.length)=a8 then a5 (.e (.str (y++z)))else a7
  |_=>a7
 |.str y,.int k=>match op with
  |.mul=>if (1<=k/\k<=1000)/\y.length<=1000 then a5 (.e (.str (g9 y k)))else a7
  |_=>a7
 |_,_=>match op,a.sq,b.sq,b.d with
  |.add,a5 (a8,l),a5 (a8,m),_=>if jg (l.length+m.length)=a8 then a5 (.o (l++m))else a7
  |.add,a5 (a6,l),a5 (a6,m),_=>if jg (l.length+m.length)=a8 then a5 (.e (.tup (l++m)))else a7
  |.mul,a5 (a6,l),_,.int k=>if 1<=k/\k<2^63/\l.isEmpty=a6/\jg (l.length*k.toNat)=a8 then a5 (.e (.tup (aq k.toNat l).flatten))else a7
  |.mul,_,_,.int k=>match a.lw with
   |some l=>if -(2^63)<=k/\k<2^63/\jg (l.length*k.toNat)=a8 then a5 (.o (aq k.toNat l).flatten)else a7
   |none=>a7
  |_,_,_,_=>a7
noncomputable def cmpI:Cop->Int->Int->Option Bool
 |.lt,i,j=>a5 (decide (i<j))
 |.le,i,j=>a5 (decide (i<=j))
 |.gt,i,j=>a5 (decide (j<i))
 |.ge,i,j=>a5 (decide (j<=i))
 |.eq,i,j=>a5 (decide (i=j))
 |.ne,i,j=>a5 (!decide (i=j))
 |_,_,_=>a7
noncomputable def D.sqv:D->Option (Bool×List D)
 |.lst l=>a5 (a8,l)
 |.tup l=>a5 (a6,l)
 |_=>a7
noncomputable def vp(op:Cop)(a b:D):Option Bool :=
 match op,a,b with
 |op,.int i,.int j=>cmpI op i j
 |.eq,a,b=>if a.dep<=90/\b.dep<=90 then a5 (deq a b)else a7
 |.ne,.bl a,.bl b=>a5 (a != b)
 |.ne,.str a,.str b=>a5 (!decide (a=b))
 |.ne,.non,.non=>a5 a6
 |.ne,.lst l,.lst m=>if D.depL l<=90/\D.depL m<=90 then a5 (!z9 l m)else a7
 |.ne,.tup l,.tup m=>if D.depL l<=90/\D.depL m<=90 then a5 (!z9 l m)else a7
 |.isin,.str a,.str b=>a5 (inS a b)
 |.lt,.str a,.str b=>a5 (decide (a.cps.toList<b.cps.toList))
 |.gt,.str a,.str b=>a5 (decide (b.cps.toList<a.cps.toList))
 |.isin,a,b=>match b.sqv with
  |some (_,l)=>if D.depL l<=90/\a.dep<=90 then a5 (l.any λe=>deq e a)else a7
  |none=>a7
 |.notin,a,b=>match b.sqv with
  |some (_,l)=>if D.depL l<=90/\a.dep<=90 then a5 (!l.any λe=>deq e a)else a7
  |none=>a7
 |_,_,_=>a7
noncomputable def boolsOf:List D->Option (List Bool)
 |[]=>a5 []
 |.bl b::r=>(boolsOf r).map (b :: ·)
 |_::_=>a7
noncomputable def intsOf:List D->Option (List Int)
 |[]=>a5 []
 |.int b::r=>(intsOf r).map (b :: ·)
 |_::_=>a7
noncomputable def strsOf:List D->Option (List ag)
 |[]=>a5 []
 |.str b::r=>(strsOf r).map (b :: ·)
 |_::_=>a7
noncomputable def W8:Bf->List Rk->Option Rk
 |.len,[a]=>match a.d with
  |.lst l=>a5 (.e (.int l.length))
  |.tup l=>a5 (.e (.int l.length))
  |.str y=>if jg y.length=a8 then a5 (.e (.int y.length))else a7
  |_=>a7
 |.min,[a,b]=>match a.d,b.d with
  |.int i,.int j=>a5 (.e (.int (if j<i then j else i)))
  |_,_=>a7
 |.max,[a,b]=>match a.d,b.d with
  |.int i,.int j=>a5 (.e (.int (if j>i then j else i)))
  |_,_=>a7
 |.max,[a]=>match a.d with
  |.lst l=>match intsOf l with
   |some ns=>if ns.isEmpty=a6 then a5 (.e (.int (Zk ns)))else a7
   |none=>a7
  |_=>a7
 |.min,[a]=>match a.d with
  |.lst l=>match intsOf l with
   |some ns=>if ns.isEmpty=a6 then a5 (.e (.int (Vd ns)))else a7
   |none=>a7
  |_=>a7
 |.all,[a]=>match a.d with
  |.lst l=>(boolsOf l).map λbs=>.e (.bl (bs.all id))
  |_=>a7
 |.any,[a]=>match a.d with
  |.lst l=>(boolsOf l).map λbs=>.e (.bl (bs.any id))
  |_=>a7
 |.tuple,[a]=>match a.sq with
  |some (_,l)=>a5 (.e (.tup l))
  |none=>a7
 |.list,[a]=>match a.sq with
  |some (_,l)=>a5 (.o l)
  |none=>a7
 |.sum,[a]=>match a.d with
  |.lst l=>(intsOf l).map λns=>.e (.int ns.sum)
  |.tup l=>(intsOf l).map λns=>.e (.int ns.sum)
  |_=>a7
 |.int,[a]=>match a.d with
  |.bl k=>a5 (.e (.int (if k then 1 else 0)))
  |.str y=>if y.length<=640 then(eG y).map λn=>.e (.int n)else a7
  |_=>a7
 |_,_=>a7
noncomputable def q8(t c:String):Option Bool :=
 if t = "function" then a7 else
 if c = "int" then a5 (t == "int" || t == "bool") else
 if c = "bool" then a5 (t == "bool") else
 if c = "str" then a5 (t == "str") else
 if c = "list" then a5 (t == "list") else
 if c = "tuple" then a5 (t == "tuple")else a7
noncomputable def jq(d:D):List String->Option Bool
 |[]=>a5 a6
 |c::cs=>match q8 d.ty c,jq d cs with
  |some a,a5 b=>a5 (a || b)
  |_,_=>a7
noncomputable def zc:List Nat->D->En->Option En
 |[i],d,ρ=>a5 (ρ.set i (.val d))
 |[i,j],d,ρ=>match d with
  |.tup [a,b]=>a5 ((ρ.set i (.val a)).set j (.val b))
  |_=>a7
 |[i,j,k],d,ρ=>match d with
  |.tup [a,.tup [b,c]]=>a5 (((ρ.set i (.val a)).set j (.val b)).set k (.val c))
  |_=>a7
 |[i,j,k,_],d,ρ=>match d with
  |.tup [a,b,c]=>a5 (((ρ.set i (.val a)).set j (.val b)).set k (.val c))
  |_=>a7
 |_,_,_=>a7
noncomputable def Uj(is:List Nat)(ρ:En):Bool:=is.all λi=>match ρ[i]? with
 |some .un=>a8
 |_=>a6
noncomputable def vy(f:D->Option (Option D)):List D->Option (List D)
 |[]=>a5 []
 |d::ds=>match f d,vy f ds with
  |some (a5 x),a5 xs=>a5 (x::xs)
  |some a7,a5 xs=>a5 xs
  |_,_=>a7
noncomputable def za:List Rk->Option (List D)
 |[]=>a5 []
 |r::rs=>match r.st,za rs with
  |some d,a5 ds=>a5 (d::ds)
  |_,_=>a7
noncomputable def W.one:W->Option Rk
 |.v r=>a5 r
 |_=>a7
noncomputable def W.args:W->Option (List Rk)
 |.a rs=>a5 rs
 |_=>a7
noncomputable def W.it:W->Option (List D)
 |.i ds=>a5 ds
 |_=>a7
noncomputable def J4:Option W->Option (Option Int)
 |some (.a [])=>a5 a7
 |some (.a [r])=>match r.d with
  |.int i=>a5 (a5 i)
  |_=>a7
 |_=>a7
noncomputable def truth:Option W->Option Bool
 |some (.v r)=>match r.d with
  |.bl k=>a5 k
  |_=>a7
 |_=>a7
noncomputable def j1d:Ex->Option Nat
 |.seq (.var i)=>a5 i
 |_=>a7
noncomputable def frz(t:Ex)(ρ:En):En:=match j1d t with
 |some i=>match ρ[i]? with
  |some (.own l)=>ρ.set i (.val (.lst l))
  |_=>ρ
 |none=>ρ
noncomputable def v4(t:Ex)(ρ:En):Bool:=match j1d t with
 |some i=>match ρ[i]? with
  |some (.own _)=>a8
  |_=>a6
 |none=>a6
noncomputable def zg:D->Option ag
 |.int i=>if -18446744073709551616<i/\i<18446744073709551616 then a5 (d4 (toString i))else a7
 |.str y=>if y.length<=10000 then a5 y else a7
 |.tup l=>match intsOf l with
  |some is=>if (∀i∈is,-18446744073709551616<i/\i<18446744073709551616)/\(tupS is).length<=10000 then a5 (tupS is)else a7
  |none=>a7
 |_=>a7
noncomputable def z7:List Rk->Option (List ag)
 |[]=>a5 []
 |r::rs=>match zg r.d,z7 rs with
  |some y,a5 ys=>a5 (y::ys)
  |_,_=>a7
noncomputable def bang(x:ag):ag:=("!":ag)++x
noncomputable def qm(f:ag):ag:=("??":ag)++f
noncomputable def mq(f:ag):ag:=("@":ag)++f
noncomputable def tupI:D->Option (List Int)
 |.tup l=>intsOf l
 |_=>a7
noncomputable def Fo(kf:D->Option Int):D->Int->List D->Option D
 |b,_,[]=>a5 b
 |b,kb,d::ds=>match kf d with
  |some k=>if k<kb then Fo kf d k ds else Fo kf b kb ds
  |none=>a7
noncomputable def Qt:List D->Option (List (List Int))
 |[]=>a5 []
 |d::ds=>match tupI d,Qt ds with
  |some k,a5 ks=>a5 (k::ks)
  |_,_=>a7
noncomputable def prI:D->Option (Int×List Int)
 |.tup [.int a,d]=>(tupI d).map λk=>(a,k)
 |_=>a7
noncomputable def j6e:List D->Option (List (Int×List Int))
 |[]=>a5 []
 |d::ds=>match prI d,j6e ds with
  |some k,a5 ks=>a5 (k::ks)
  |_,_=>a7
noncomputable def Rc.lv:Rc->Option W
 |.lval d=>a5 (.v (.e d))
 |_=>a7
noncomputable def Ys(w:Option W):Option W:=match w with
 |some (.a rs)=>if rs.length<=1000 then(z7 rs).map λys=>.v (.e (.str (Ue di ys)))else a7
 |_=>a7
noncomputable def jc1(w:Option W):Option W:=match w with
 |some (.v x)=>match x.d with
  |.str y=>if y.length<=100000/\jg (bT y " ").length=a8 then a5 (.v (.o ((bT y " ").map D.str)))else a7
  |_=>a7
 |_=>a7
noncomputable def jc0(w:Option W):Option W:=match w with
 |some (.v x)=>match x.d with
  |.int i=>if -18446744073709551616<i/\i<18446744073709551616 then a5 (.v (.e (.str (d4 (toString i)))))else a7
  |_=>a7
 |_=>a7
noncomputable def jbm(w:Option W):Option W:=match w with
 |some (.v x)=>match x.d with
  |.str y=>if y.length<=1000 then a5 (.v (.e (.str (PySem.Txt.upper y))))else a7
  |_=>a7
 |_=>a7
noncomputable def Uq(s:Option Sv):Option W:=match s with
 |some (.val d)=>a5 (.v (.e d))
 |some (.own l)=>a5 (.v (.w l))
 |_=>a7
noncomputable def blW(i:Option Bool):Option W:=i.map λk=>.v (.e (.bl k))
noncomputable def rkW(r:Option Rk):Option W:=r.map .v
noncomputable def Jp(op:Bop)(a b:Option W):Option W:=match a,b with
 |some (.v x),a5 (.v y)=>rkW (Zy op x y)
 |_,_=>a7
noncomputable def Mt(a:Option W):Option W:=match a with
 |some (.v x)=>match x.d with
  |.int i=>a5 (.v (.e (.int (-i))))
  |_=>a7
 |_=>a7
noncomputable def W7(op:Cop)(a b:Option W):Option W:=match a,b with
 |some (.v x),a5 (.v y)=>blW (vp op x.d y.d)
 |_,_=>a7
noncomputable def consW(a b:Option W):Option W:=match a,b with
 |some (.v x),a5 (.a xs)=>a5 (.a (x::xs))
 |_,_=>a7
noncomputable def Zi(a:Option W):Option W:=match a with
 |some (.a rs)=>match za rs with
  |some ds=>if jg ds.length=a8 then a5 (.v (.e (.tup ds)))else a7
  |none=>a7
 |_=>a7
noncomputable def Js(a:Option W):Option W:=match a with
 |some (.a rs)=>match za rs with
  |some ds=>if jg ds.length=a8 then a5 (.v (.o ds))else a7
  |none=>a7
 |_=>a7
noncomputable def ixW(a b:Option W):Option W:=match a,b with
 |some (.v x),a5 (.v y)=>match x.sq,y.d with
  |some (_,l),.int i=>(atI l i).map λd=>.v (.e d)
  |none,.int i=>match x.d with
   |.str z=>if jg z.length=a8 then(atI z.cps.toList i).map λc=>.v (.e (.str ⟨#[c]⟩))else a7
   |_=>a7
  |_,_=>a7
 |_,_=>a7
noncomputable def ja7(a:Option W):Option W:=match a with
 |some (.v y)=>match y.d with
  |.int n=>if 0<=n/\n<=1000000 then a5 (.v (.o ((aE n.toNat).map λ(i:Nat)=>D.int (i:Int))))else a7
  |_=>a7
 |_=>a7
noncomputable def Us(a:Option W):Option W:=match a with
 |some (.v x)=>match x.d with
  |.lst l=>match Qt l with
   |some ks=>(V8 ks).map λS=>.v (.o (S.map λk=>D.tup (k.map D.int)))
   |none=>a7
  |_=>a7
 |_=>a7
noncomputable def Q4(Γ:ag->List D->Rc)(f:ag)(a:Option W):Option W:=match a with
 |some (.a rs)=>match za rs with
  |some ds=>rkW (Γ f ds).rk
  |none=>match Γ f (rs.map Rk.d) with
   |.val d=>a5 (.v (.t d))
   |.fresh l=>if ju l=a8 then a5 (.v (.o l))else a7
   |_=>a7
 |_=>a7
noncomputable def Qp(f:Bf)(a:Option W):Option W:=match a with
 |some (.a rs)=>rkW (W8 f rs)
 |_=>a7
noncomputable def W0(a:Option W)(ts:List String):Option W:=match a with
 |some (.v x)=>blW (jq x.d ts)
 |_=>a7
noncomputable def Yk(a:Option W):Option W:=match a with
 |some (.v (.e (.lst l)))=>a5 (.i l)
 |some (.v (.e (.tup l)))=>a5 (.i l)
 |some (.v (.o l))=>a5 (.i l)
 |some (.v (.e (.str y)))=>if ascii y=a8 then a5 (.i (chs y))else a7
 |_=>a7
noncomputable def Vc(a:Option W):Option W:=match a with
 |some (.a [x])=>match x.d with
  |.int n=>if -(2^62)<=n/\n<2^62 then a5 (.i (upto 0 n.toNat))else a7
  |_=>a7
 |some (.a [x,y])=>match x.d,y.d with
  |.int m,.int n=>if -(2^62)<=m/\m<2^62/\-(2^62)<=n/\n<2^62 then a5 (.i (upto m (n-m).toNat))else a7
  |_,_=>a7
 |_=>a7
noncomputable def jcm(a b:Option W):Option W:=match a,b with
 |some (.v x),a5 (.v y)=>match x.d,y.d with
  |.tup l,.dct ks _=>(intsOf l).map λk=>.v (.e (.bl (ks.contains k)))
  |_,_=>a7
 |_,_=>a7
noncomputable def j7k(a:Option W):Option W:=match a with
 |some (.v (.e (.dct ks ds)))=>a5 (.i (j7l ks ds))
 |_=>a7
noncomputable def jaz(a b:Option W):Option W:=match a,b with
 |some (.v x),a5 (.v y)=>match x.st.bind D.sqv,y.st.bind D.sqv with
  |some (_,l),a5 (_,m)=>match strsOf l,intsOf m with
   |some ks,a5 ns=>if ks.Nodup/\ks.length=ns.length/\jg ks.length=a8 then a5 (.v (.e (.sct (ks.zip ns))))else a7
   |_,_=>a7
  |_,_=>a7
 |_,_=>a7
noncomputable def jcr(a b c:Option W):Option W:=match a,b,c with
 |some (.v x),a5 (.v y),a5 (.v z)=>match x.d,y.d,z.d with
  |.int i,.int j,.int k=>a5 (.v (.e (.bl (decide (i<=j)&&decide (j<=k)))))
  |_,_,_=>a7
 |_,_,_=>a7
noncomputable def ja5(a:Option W):Option W:=match a with
 |some (.v x)=>match x.d with
  |.lst l=>match intsOf l with
   |some ns=>a5 (.v (.e (.int (Zk ns))))
   |none=>a7
  |_=>a7
 |_=>a7
noncomputable def jcp(a b c:Option W):Option W:=match a,b,c with
 |some (.v x),a5 (.v y),a5 (.v z)=>match x.d,y.d,z.d with
  |.int i,.int j,.int k=>a5 (.v (.e (.bl (decide (i<j)&&decide (j<k)))))
  |_,_,_=>a7
 |_,_,_=>a7
noncomputable def j8u(Γ:ag->List D->Rc)(s:Option Sv)(a:Option W):Option W:=match s,a with
 |some (.val (.fn x cs)),a5 (.a rs)=>match za rs with
  |some ds=>if Qz ds=a8 then(Γ (qu x) (cs++ds)).lv else a7
  |none=>a7
 |_,_=>a7
noncomputable def jb0(a b:Option W):Option W:=match a,b with
 |some (.v (.e (.dct ks ds))),a5 (.v y)=>match tupI y.d with
  |some k=>(j2y ks ds k).map λd=>.v (.e d)
  |none=>a7
 |_,_=>a7
noncomputable def j8h(a:Option W):Option W:=match a with
 |some (.v (.e (.dct _ ds)))=>a5 (.v (.e (.tup ds)))
 |_=>a7
noncomputable def ja2(a:Option W):Option W:=match a with
 |some (.v x)=>match x.d with
  |.lst l=>match Qt l with
   |some ks=>(ks[i7 (ja9 ks) (ks.length-1)]?).map λk=>.v (.t (.tup (k.map D.int)))
   |none=>match j6e l with
    |some ps=>(ps[i7 (jcc ps) (ps.length-1)]?).map λk=>.v (.t (pairD k))
    |none=>a7
  |_=>a7
 |_=>a7
noncomputable def jcl(a b:Option W):Option W:=match a,b with
 |some (.v x),a5 (.v y)=>match x.d,y.d with
  |.sct kvs,.str k=>(jck kvs k).map λn=>.v (.e (.int n))
  |_,_=>a7
 |_,_=>a7
noncomputable def ev(Γ:ag->List D->Rc)(G:ag->Option D):Ex->En->Option W
 |.lit d,_=>a5 (.v (.e d))
 |.var i,ρ=>Uq ρ[i]?
 |.glob x,_=>(G x).map λd=>.v (.e d)
 |.bin op a b,ρ=>Jp op (ev Γ G a ρ) (ev Γ G b ρ)
 |.neg a,ρ=>Mt (ev Γ G a ρ)
 |.cmp op a b,ρ=>W7 op (ev Γ G a ρ) (ev Γ G b ρ)
 |.isN a,ρ=>match ev Γ G a ρ with
  |some (.v x)=>a5 (.v (.e (.bl x.d.isNon)))
  |_=>a7
 |.and a b,ρ=>match truth (ev Γ G a ρ) with
  |some a6=>a5 (.v (.e (.bl a6)))
  |some a8=>(truth (ev Γ G b ρ)).map λk=>.v (.e (.bl k))
  |none=>a7
 |.or a b,ρ=>match truth (ev Γ G a ρ) with
  |some a8=>a5 (.v (.e (.bl a8)))
  |some a6=>(truth (ev Γ G b ρ)).map λk=>.v (.e (.bl k))
  |none=>a7
 |.not a,ρ=>(truth (ev Γ G a ρ)).map λk=>.v (.e (.bl (!k)))
 |.ite c a b,ρ=>match truth (ev Γ G c ρ) with
  |some a8=>match ev Γ G a ρ with
   |some (.v x)=>x.st.map λd=>.v (.e d)
   |_=>a7
  |some a6=>match ev Γ G b ρ with
   |some (.v x)=>x.st.map λd=>.v (.e d)
   |_=>a7
  |none=>a7
 |.nil,_=>a5 (.a [])
 |.cons a b,ρ=>consW (ev Γ G a ρ) (ev Γ G b ρ)
 |.tup es,ρ=>Zi (ev Γ G es ρ)
 |.lst es,ρ=>Js (ev Γ G es ρ)
 |.ix a b,ρ=>ixW (ev Γ G a ρ) (ev Γ G b ρ)
 |.sl a lo hi,ρ=>match ev Γ G a ρ,J4 (ev Γ G lo ρ),J4 (ev Γ G hi ρ) with
  |some (.v x),a5 l,a5 h=>match x.sq with
   |some (a8,ds)=>a5 (.v (.o (cutD ds l h)))
   |some (a6,ds)=>if HT.sIx ds.length 0 l=0/\HT.sIx ds.length ds.length h=ds.length then a7 else a5 (.v (.e (.tup (cutD ds l h))))
   |none=>match x.d with
    |.str z=>if jg z.length=a8 then a5 (.v (.e (.str (dn z l h))))else a7
    |_=>a7
  |_,_,_=>a7
 |.call f es,ρ=>Q4 Γ f (ev Γ G es ρ)
 |.blt f es,ρ=>Qp f (ev Γ G es ρ)
 |.isi a ts,ρ=>W0 (ev Γ G a ρ) ts
 |.comp is elt it cond,ρ=>match ev Γ G it (frz it ρ) with
  |some (.i ds)=>if Uj is (frz it ρ)=a8/\jg ds.length=a8 then
    (vy (λd=>match zc is d (frz it ρ) with
     |none=>a7
     |some ρ2=>match ev Γ G cond ρ2 with
      |some (.a [])=>match ev Γ G elt ρ2 with
       |some (.v x)=>x.st.map a5
       |_=>a7
      |some (.a [y])=>match y.d with
       |.bl a8=>match ev Γ G elt ρ2 with
        |some (.v x)=>x.st.map a5
        |_=>a7
       |.bl a6=>a5 a7
       |_=>a7
      |_=>a7) ds).bind λl=>if (v4 it ρ && !ju l)=a8 then a7 else a5 (.v (.o l))
   else a7
  |_=>a7
 |.seq a,ρ=>Yk (ev Γ G a ρ)
 |.chn a b c,ρ=>jcp (ev Γ G a ρ) (ev Γ G b ρ) (ev Γ G c ρ)
 |.che a b c,ρ=>jcr (ev Γ G a ρ) (ev Γ G b ρ) (ev Γ G c ρ)
 |.maxD a,ρ=>ja5 (ev Γ G a ρ)
 |.range es,ρ=>Vc (ev Γ G es ρ)
 |.fst es,ρ=>Ys (ev Γ G es ρ)
 |.isx i cs,ρ=>match ρ[i]?,G "?" with
  |some (.exc x),a5 (.bl a8)=>if jh.contains x=a8 then a5 (.v (.e (.bl (cs.any λc=>c == "ValueError" || x==c))))else a7
  |_,_=>a7
 |.dzip a b,ρ=>jaz (ev Γ G a ρ) (ev Γ G b ρ)
 |.callD f es,ρ=>match ev Γ G es ρ with
  |some (.a rs)=>match za rs with
   |some ds=>match Γ f (ds++[.non]) with
    |.val d=>a5 (.v (.e d))
    |_=>a7
   |none=>a7
  |_=>a7
 |.callK f es a,ρ=>match ev Γ G es ρ,ev Γ G a ρ with
  |some (.a rs),a5 (.v x)=>match za rs,x.st with
   |some ds,a5 d'=>match Γ f (ds++[d']) with
    |.val d=>a5 (.v (.e d))
    |_=>a7
   |_,_=>a7
  |_,_=>a7
 |.dix a b,ρ=>jcl (ev Γ G a ρ) (ev Γ G b ρ)
 |.dnil,_=>a5 (.v (.e (.sct [])))
 |.rpr a,ρ=>match ev Γ G a ρ with
  |some (.v x)=>match x.d with
   |.str y=>if (reprText y).length<=2000 then a5 (.v (.e (.str (reprText y))))else a7
   |_=>a7
  |_=>a7
 |.upr a,ρ=>jbm (ev Γ G a ρ)
 |.spl a,ρ=>jc1 (ev Γ G a ρ)
 |.exc a,ρ=>ev Γ G a ρ
 |.sti a,ρ=>jc0 (ev Γ G a ρ)
 |.lrng a,ρ=>ja7 (ev Γ G a ρ)
 |.srt a,ρ=>Us (ev Γ G a ρ)
 |.din a b,ρ=>jcm (ev Γ G a ρ) (ev Γ G b ρ)
 |.items a,ρ=>j7k (ev Γ G a ρ)
 |.callV i es,ρ=>j8u Γ ρ[i]? (ev Γ G es ρ)
 |.dget a b,ρ=>jb0 (ev Γ G a ρ) (ev Γ G b ρ)
 |.dvals a,ρ=>j8h (ev Γ G a ρ)
 |.minT a,ρ=>ja2 (ev Γ G a ρ)
section
variable{Γ:ag->List D->Rc}{G:ag->Option D}{ρ:En}
theorem Rx{d}:ev Γ G (.lit d) ρ=(a5 (.v (.e d))):=(rfl)
theorem jb4{i}:ev Γ G (.var i) ρ=(Uq ρ[i]?):=(rfl)
theorem j91{x}:ev Γ G (.glob x) ρ=((G x).map λd=>.v (.e d)):=(rfl)
theorem jbd{op a b}:ev Γ G (.bin op a b) ρ=(Jp op (ev Γ G a ρ) (ev Γ G b ρ)):=(rfl)
theorem jb9{a}:ev Γ G (.neg a) ρ=(Mt (ev Γ G a ρ)):=(rfl)
theorem j31{op a b}:ev Γ G (.cmp op a b) ρ=(W7 op (ev Γ G a ρ) (ev Γ G b ρ)):=(rfl)
theorem j30{a}:ev Γ G (.isN a) ρ=(match ev Γ G a ρ with
  |some (.v x)=>a5 (.v (.e (.bl x.d.isNon)))
  |_=>a7):=(rfl)
theorem jbe{a b}:ev Γ G (.and a b) ρ=(match truth (ev Γ G a ρ) with
  |some a6=>a5 (.v (.e (.bl a6)))
  |some a8=>(truth (ev Γ G b ρ)).map λk=>.v (.e (.bl k))
  |none=>a7):=(rfl)
theorem jcw{a b}:ev Γ G (.or a b) ρ=(match truth (ev Γ G a ρ) with
  |some a8=>a5 (.v (.e (.bl a8)))
  |some a6=>(truth (ev Γ G b ρ)).map λk=>.v (.e (.bl k))
  |none=>a7):=(rfl)
theorem jb8{a}:ev Γ G (.not a) ρ=((truth (ev Γ G a ρ)).map λk=>.v (.e (.bl (!k)))):=(rfl)
theorem jbb{c a b}:ev Γ G (.ite c a b) ρ=(match truth (ev Γ G c ρ) with
  |some a8=>match ev Γ G a ρ with
   |some (.v x)=>x.st.map λd=>.v (.e d)
   |_=>a7
  |some a6=>match ev Γ G b ρ with
   |some (.v x)=>x.st.map λd=>.v (.e d)
   |_=>a7
  |none=>a7):=(rfl)
theorem V4:ev Γ G (.nil) ρ=(a5 (.a [])):=(rfl)
theorem Zh{a b}:ev Γ G (.cons a b) ρ=(consW (ev Γ G a ρ) (ev Γ G b ρ)):=(rfl)
theorem jb5{es}:ev Γ G (.tup es) ρ=(Zi (ev Γ G es ρ)):=(rfl)
theorem jba{es}:ev Γ G (.lst es) ρ=(Js (ev Γ G es ρ)):=(rfl)
theorem jcx{a b}:ev Γ G (.ix a b) ρ=(ixW (ev Γ G a ρ) (ev Γ G b ρ)):=(rfl)
theorem jcv{a lo hi}:ev Γ G (.sl a lo hi) ρ=(match ev Γ G a ρ,J4 (ev Γ G lo ρ),J4 (ev Γ G hi ρ) with
  |some (.v x),a5 l,a5 h=>match x.sq with
   |some (a8,ds)=>a5 (.v (.o (cutD ds l h)))
   |some (a6,ds)=>if HT.sIx ds.length 0 l=0/\HT.sIx ds.length ds.length h=ds.length then a7 else a5 (.v (.e (.tup (cutD ds l h))))
   |none=>match x.d with
    |.str z=>if jg z.length=a8 then a5 (.v (.e (.str (dn z l h))))else a7
    |_=>a7
  |_,_,_=>a7):=(rfl)
theorem j93{f es}:ev Γ G (.call f es) ρ=(Q4 Γ f (ev Γ G es ρ)):=(rfl)
theorem Dr{f es}:ev Γ G (.blt f es) ρ=(Qp f (ev Γ G es ρ)):=(rfl)
theorem j2z{a ts}:ev Γ G (.isi a ts) ρ=(W0 (ev Γ G a ρ) ts):=(rfl)
theorem j92{is elt it cond}:ev Γ G (.comp is elt it cond) ρ=(match ev Γ G it (frz it ρ) with
  |some (.i ds)=>if Uj is (frz it ρ)=a8/\jg ds.length=a8 then
    (vy (λd=>match zc is d (frz it ρ) with
     |none=>a7
     |some ρ2=>match ev Γ G cond ρ2 with
      |some (.a [])=>match ev Γ G elt ρ2 with
       |some (.v x)=>x.st.map a5
       |_=>a7
      |some (.a [y])=>match y.d with
       |.bl a8=>match ev Γ G elt ρ2 with
        |some (.v x)=>x.st.map a5
        |_=>a7
       |.bl a6=>a5 a7
       |_=>a7
      |_=>a7) ds).bind λl=>if (v4 it ρ && !ju l)=a8 then a7 else a5 (.v (.o l))
   else a7
  |_=>a7):=(rfl)
theorem jb7{a}:ev Γ G (.seq a) ρ=(Yk (ev Γ G a ρ)):=(rfl)
theorem j5c{es}:ev Γ G (.range es) ρ=(Vc (ev Γ G es ρ)):=(rfl)
theorem jbc{es}:ev Γ G (.fst es) ρ=(Ys (ev Γ G es ρ)):=(rfl)
theorem Dq {i cs}:ev Γ G (.isx i cs) ρ=(match ρ[i]?,G "?" with
  |some (.exc x),a5 (.bl a8)=>if jh.contains x=a8 then a5 (.v (.e (.bl (cs.any λc=>c == "ValueError" || x==c))))else a7
  |_,_=>a7):=(rfl)
theorem jb6{a}:ev Γ G (.srt a) ρ=(Us (ev Γ G a ρ)):=(rfl)
end
noncomputable def er(Γ:ag->List D->Rc)(G:ag->Option D):Ex->En->Option ag
 |.call f es,ρ=>match er Γ G es ρ with
  |some x=>if (G (qm f)).isSome=a8 then a5 x else a7
  |none=>match ev Γ G es ρ with
   |some (.a rs)=>match Γ f (rs.map Rk.d) with
    |.err x=>if (G (bang x)).isSome=a8 then a5 x else a7
    |_=>a7
   |_=>a7
 |.cons a b,ρ=>match er Γ G a ρ with
  |some x=>a5 x
  |none=>match ev Γ G a ρ with
   |some (.v _)=>er Γ G b ρ
   |_=>a7
 |.ix a _,ρ=>er Γ G a ρ
 |.dget a b,ρ=>match er Γ G a ρ with
  |some x=>a5 x
  |none=>match ev Γ G a ρ with
   |some (.v _)=>er Γ G b ρ
   |_=>a7
 |.exc (.comp [i] elt it .nil),ρ=>match ev Γ G it ρ with
  |some (.i (d::_))=>if Uj [i] ρ=a8 then er Γ G elt (ρ.set i (.val d))else a7
  |_=>a7
 |.dzip a b,ρ=>match er Γ G a ρ with
  |some x=>a5 x
  |none=>match ev Γ G a ρ with
   |some (.v _)=>er Γ G b ρ
   |_=>a7
 |_,_=>a7
end L2
end
section
namespace L2
open PySem PySem.Spec PyProof.Rows
def DM(X:Cx)(ρ:Rho)(e:ah)(s:Bool)(ds:List D):Prop:=∀σ H Q,Rep X.K ρ σ H->(∀a xs H',j4 H H'->SqB X.K s H' a xs->j5 X.K (del H' (owns ρ)) ds xs->Q (.ref a) H')->Jf X e σ H Q
section
variable{X:Cx}{ρ:Rho}{e a b c:ah}{es:List ah}{d:D}{ds ds':List D}{i j:Int}{pos p p2:aN}{k:Nat}{x:ag}{s:Bool}
theorem j9l{K:k4n}{H:Hp}{a:af}{xs:List V}(h:SqL K H a xs):SqB K a8 H a xs:=by unfold SqB;rw[if_pos rfl];exact h
theorem Za{K:k4n}{H:Hp}{a:af}{xs:List V}(h:SqB K a8 H a xs):SqL K H a xs:=by unfold SqB at h;rw[if_pos rfl]at h;exact h
theorem J0{K:k4n}{H:Hp}{a:af}{xs:List V}(h:SqB K a6 H a xs):SqT K H a xs:=by unfold SqB at h;rw[if_neg xr]at h;exact h
theorem DE.toM(h:DE X ρ e (D.seq s ds)):DM X ρ e s ds:=λσ H Q R q=>h σ H Q R λv H1 g1 e1=>by obtain⟨t,xs,ev,sq,en⟩:=Qf e1;subst ev;exact q t xs H1 g1 (jw.seqB sq) en
theorem DL.toM(h:DL X ρ e ds):DM X ρ e a8 ds:=λσ H Q R q=>h σ H Q R λt xs H1 g1 m en=>q t xs H1 g1 (j9l (.inl (.inl m))) en
theorem DO.toM(h:DO X ρ e ds):DM X ρ e a8 ds:=h.toL.toM
def Has(X:Cx)(ρ:Rho)(e:ah):Rk->Prop
 |.e d=>DE X ρ e d
 |.o l=>DO X ρ e l
 |.w l=>DL X ρ e l
 |.t d=>DT X ρ e d
theorem Has.toT:∀{r:Rk},Has X ρ e r->DT X ρ e r.d
 |.e _,h=>DE.toT h
 |.o _,h=>DL.toT (DO.toL h)
 |.w _,h=>DL.toT h
 |.t _,h=>h
theorem Has.toE:∀{r:Rk}{d:D},Has X ρ e r->r.st=a5 d->DE X ρ e d
 |.e _,_,h,q=>by cases q;exact h
 |.o _,_,h,q=>by cases q;exact DO.toE h
 |.w _,_,h,q=>by cases q
 |.t d',d,h,q=>by
  have q:(if Jd d'=a8 then a5 d' else a7)=a5 d:=q;by_cases z:Jd d'=a8
  .rw[if_pos z]at q;cases q;exact DT.toE h z
  .rw[if_neg z]at q;cases q
theorem Has.toM:∀{r:Rk}{s:Bool}{l:List D},Has X ρ e r->r.sq=a5 (s,l)->DM X ρ e s l
 |.e (.lst l),_,_,h,q=>by cases q;exact DE.toM (s:=a8) h
 |.e (.tup l),_,_,h,q=>by cases q;exact DE.toM (s:=a6) h
 |.e .non,_,_,_,q=>by cases q
 |.e (.bl _),_,_,_,q=>by cases q
 |.e (.int _),_,_,_,q=>by cases q
 |.e (.str _),_,_,_,q=>by cases q
 |.o l,_,_,h,q=>by cases q;exact DO.toM h
 |.w l,_,_,h,q=>by cases q;exact DL.toM h
 |.t _,_,_,_,q=>by cases q
theorem j44:OpR X (aV .Add) (λx y H Q=>∃l b xs zs,x=.ref l/\y=.ref b/\SqL X.K H l xs/\SqL X.K H b zs/\xs.length+zs.length<=ai/\∀p,H p=a7->Q (.ref p) (upd H p (.lst (xs++zs)))):=by
 intro pins s σ H x y v u Q I rx ry h;obtain⟨l,b,xs,zs,e1,e2,hH,hB,hz,q⟩:=h;subst e1 e2;cases rx;cases ry;obtain⟨us,ru,⟨⟨c1,d1,f1,g1⟩,n1,h1,k1,w1,m1⟩,_⟩:=I.list hH;obtain⟨vs,rv,⟨⟨c2,d2,f2,g2⟩,n2,h2,k2,w2,m2⟩,_⟩:=I.list hB;have k1:c1=.type "list":=k1;have m1:f1=.seq us.toArray n1:=m1;have k2:c2=.type "list":=k2;have m2:f2=.seq vs.toArray n2:=m2;subst k1 m1 k2 m2;have l1:=ru.length;have l2:=rv.length;have ea:us.toArray++vs.toArray=(us++vs).toArray:=by simp
 refine eI ⟨_,h1,rfl⟩ ⟨_,h2,rfl⟩ noFill_list_add seq_list_add PySem.F.slot_list_add PySem.F.entry_list_add (PySem.F.args_list_add_2 _ _)
  (list_addW l b us.toArray vs.toArray n1 n2 d1 d2 g1 g2 (by rw[xm,xm,<-l1,<-l2];exact hz)) ⟨h1,h2,?_⟩
 rw[ea];exact⟨.ref _,_,I.lnew (t':=s.toks) (ru.append rv) (by rw[Xe];exact hz),rfl,q _ I.fresh⟩
theorem DO.catM(ha:DM X ρ a a8 ds)(hb:DM X ρ b a8 ds')(hl:ds.length+ds'.length<=ai):DO X ρ (.BinOp a .Add b pos) (ds++ds'):=λσ H Q R q =>
 (Qx j44 peS peS).to (ha σ H _ R λl xs H1 g1 s1 e1=>hb σ H1 _ (R.grow g1) λl' ys H2 g2 s2 e2 =>
  ⟨l,l',xs,ys,rfl,rfl,g2.seq (Za s1),Za s2,by rw[e1.length,e2.length];exact hl,λp hp=>q p _ _ ((g1.trans g2).trans (j6 hp)) ((g1.trans g2).free hp) jr (Zr hp ((e1.mono (je g2)).append e2))⟩)
theorem DE.catTM(ha:DM X ρ a a6 ds)(hb:DM X ρ b a6 ds')(hl:ds.length+ds'.length<=ai):DE X ρ (.BinOp a .Add b pos) (.tup (ds++ds')):=λσ H Q R q =>
 (Qx j0k peS peS).to (ha σ H _ R λt xs H1 g1 sq l=>hb σ H1 _ (R.grow g1) λt' ys H2 g2 sq' l'=>by
  have l2:=l.mono (je g2)
  have enT:∀{t:af}{xs:List V}{ds:List D},SqT X.K H2 t xs->j5 X.K (del H2 (owns ρ)) ds xs->Enc X.K (del H2 (owns ρ)) (.tup ds) (.ref t):=λ{t xs ds} sq l=>by
   refine⟨t,xs,rfl,?_,l⟩
   have ow:=(R.grow (g1.trans g2)).owned
   have out:∀{o:HO},H2 t=a5 o->(∀zs,o≠.lst zs)->del H2 (owns ρ) t=a5 o:=λ{o} h z=>by
    rw[j8];exact h
    intro y;obtain⟨zs,e'⟩:=ow t y;rw[h]at e';cases e';exact z zs rfl
   rcases sq with (h|⟨o,h⟩)|h
   .exact .inl (.inl (out h λ_ z=>by cases z))
   .exact .inl (.inr ⟨o,out h λ_ z=>by cases z⟩)
   .exact .inr h
  refine⟨t,t',xs,ys,rfl,rfl,g2.seqT (J0 sq),J0 sq',by rw[l.length,l'.length];exact hl,λh=>?_,λh h'=>?_,λh h' p hp=>?_⟩
  .subst h
   cases ds with
   |nil=>exact q _ H2 (g1.trans g2) (enT (J0 sq') l')
   |cons _ _=>have:=l.length;cases this
  .subst h'
   cases ds' with
   |nil=>exact q _ H2 (g1.trans g2) (by rw[Xn];exact enT (g2.seqT (J0 sq)) l2)
   |cons _ _=>have:=l'.length;cases this
  .have np:p∉owns ρ:=(R.grow (g1.trans g2)).fresh hp
   exact q _ _ ((g1.trans g2).trans (j6 hp)) ⟨p,xs++ys,rfl,.inl (.inl (by rw[j8 np];exact jr)),(l2.append l').mono (je (j6 hp))⟩)
theorem DE.ixM(ha:DM X ρ a s ds)(hb:DT X ρ b (.int i))(h:L2.atI ds i=a5 d)(hs:Y0 b):DE X ρ (.Subscript a b pos) d:=by
 cases s with
 |true=>exact λσ H Q R q=>(Rq j4d peS peS hs).to (ha σ H _ R λl xs H1 g1 sq en=>hb σ H1 _ (R.grow g1) λu H2 g2 e2=>by
   obtain⟨y,hy,ey⟩:=en.atI h
   exact⟨l,xs,i,y,rfl,e2,g2.seq (Za sq),hy,q y H2 (g1.trans g2) (ey.mono (je g2))⟩)
 |false=>exact λσ H Q R q=>(Rq Kd peS peS hs).to (ha σ H _ R λl xs H1 g1 sq en=>hb σ H1 _ (R.grow g1) λu H2 g2 e2=>by
   obtain⟨y,hy,ey⟩:=en.atI h
   exact⟨l,xs,i,y,rfl,e2,g2.seqT (J0 sq),hy,q y H2 (g1.trans g2) (ey.mono (je g2))⟩)
variable{lo hi:Option ah}{l u:Option Int}
theorem DO.sliceM(ha:DM X ρ a a8 ds)(hl:DP X ρ lo l)(hu:DP X ρ hi u):DO X ρ (.Subscript a (.Slice lo hi a7 p2) pos) (cutD ds l u):=λσ H Q R q =>
 (Yn j3g peS poS poS).to (ha σ H _ R λt xs H1 g1 sq en=>hl σ H1 _ (R.grow g1) λH2 g2=>hu σ H2 _ (R.grow (g1.trans g2)) λH3 g3=>⟨t,xs,rfl,(g2.trans g3).seq (Za sq),λp hp =>
  q p _ _ ((g1.trans (g2.trans g3)).trans (j6 hp)) ((g1.trans (g2.trans g3)).free hp) jr (Zr hp ((en.mono (je (g2.trans g3))).cut l u))⟩)
theorem DE.sliceM(ha:DM X ρ a a6 ds)(hl:DP X ρ lo l)(hu:DP X ρ hi u)(hw:¬(HT.sIx ds.length 0 l=0/\HT.sIx ds.length ds.length u=ds.length)):DE X ρ (.Subscript a (.Slice lo hi a7 p2) pos) (.tup (cutD ds l u)):=λσ H Q R q =>
 (Yn j5q peS poS poS).to (ha σ H _ R λt xs H1 g1 sq en=>hl σ H1 _ (R.grow g1) λH2 g2=>hu σ H2 _ (R.grow (g1.trans g2)) λH3 g3=>⟨t,xs,rfl,(g2.trans g3).seqT (J0 sq),by rw[en.length];exact hw,λp hp =>
  q _ _ ((g1.trans (g2.trans g3)).trans (j6 hp)) ⟨p,_,rfl,.inl (.inl (by rw[j8 ((R.grow (g1.trans (g2.trans g3))).fresh hp)];exact jr)),((en.mono (je (g2.trans g3))).cut l u).mono (je (j6 hp))⟩⟩)
theorem DE.tupM (ha:DM X ρ a s ds) (hm:X.mg "tuple" = a7) (hg:Gl X "tuple") (hs:aa [a] X.env=[(a6,aG a X.env)]):DE X ρ (.Call (.Name "tuple" p) [a] [] pos) (.tup ds):=λσ H Q R q =>
 (Qy Rh hg hm boot_tuple (j9 peS jn hs) (by decide) (by decide) hs).to (ha σ H _ R λl xs H1 g1 sq en=>by
  cases s with
  |true =>
   refine⟨l,xs,rfl,.inl ⟨Za sq,λt ht=>?_⟩⟩
   have nt:t∉owns ρ:=(R.grow g1).fresh ht
   exact q _ _ (g1.trans (j6 ht)) ⟨t,xs,rfl,.inl (.inl (by rw[j8 nt];exact jr)),en.mono (je (j6 ht))⟩
  |false =>
   refine⟨l,xs,rfl,.inr ⟨J0 sq,?_⟩⟩
   refine q _ _ g1 ⟨l,xs,rfl,?_,en⟩
   have ow:=(R.grow g1).owned
   have out:∀{o:HO},H1 l=a5 o->(∀zs,o≠.lst zs)->del H1 (owns ρ) l=a5 o:=λ{o} h z=>by
    rw[j8];exact h
    intro y;obtain⟨zs,e'⟩:=ow l y;rw[h]at e';cases e';exact z zs rfl
   rcases J0 sq with (h|⟨o,h⟩)|h
   .exact .inl (.inl (out h λ_ z=>by cases z))
   .exact .inl (.inr ⟨o,out h λ_ z=>by cases z⟩)
   .exact .inr h)
theorem DO.listM (ha:DM X ρ a s ds) (hm:X.mg "list" = a7) (hg:Gl X "list") (hs:aa [a] X.env=[(a6,aG a X.env)]):DO X ρ (.Call (.Name "list" p) [a] [] pos) ds:=λσ H Q R q =>
 (Qy Oo hg hm boot_list (j9 peS jn hs) (by decide) (by decide) hs).to (ha σ H _ R λl xs H1 g1 sq en =>
  ⟨l,xs,rfl,(by cases s with|true=>exact .inl (Za sq)|false=>exact .inr (J0 sq)),λp hp=>q p _ _ (g1.trans (j6 hp)) (g1.free hp) jr (Zr hp en)⟩)
end
theorem Uy:fillsNumberSlot (.type "tuple") "mul" = pure a6 :=
 PySem.fillsNumberSlot_seq (id:="tuple.__mul__") (r:=a5 (.builtin "tuple.__rmul__")) PySem.F.slot_tuple_mul.lookup (by decide +kernel) PySem.F.slot_tuple_rmul.lookup (by decide +kernel)
theorem j3r:seqRepeat? (.type "tuple")=pure (a5 (.builtin "tuple.__mul__")):=by
 unfold seqRepeat?;rw[gh (T:="tuple") (name:="__mul__") (id:="tuple.__mul__") PySem.F.slot_tuple_mul.lookup (by decide +kernel),
  gh (T:="tuple") (name:="__rmul__") (id:="tuple.__rmul__") PySem.F.slot_tuple_rmul.lookup (by decide +kernel)]
 rfl
section
variable(a:Int)(t:i9)(l:af)(its:Array a9)(n:Nat)(d1:Option af)(sl:Array (Option a9))
theorem O3:Meets (dH.«int.__rmul__» ⟨[.int a t,.ref l],[]⟩) (λ_ R s=>s.heap.get? l=a5 ⟨.type "tuple",d1,.seq its n,sl⟩/\R (.ok (.ret Value.notImplemented)) s) :=
 .of_wp λ_ _ _ _ s h=>by
  obtain⟨_,_,_,_,_⟩:=s;obtain⟨hl,h⟩:=h
  wp_walk
  exact⟨_,rfl,h⟩
theorem Eo:Meets (dH.«tuple.__mul__» ⟨[.ref l,.int 1 t],[]⟩) (λ_ R s=>s.heap.get? l=a5 ⟨.type "tuple",d1,.seq its n,sl⟩/\R (.ok (.ret (.ref l))) s) :=
 .of_wp λ_ _ _ _ s h=>by
  obtain⟨_,_,_,_,_⟩:=s;obtain⟨hl,h⟩:=h
  wp_walk
  exact⟨_,rfl,h⟩
theorem Em(h0:its.isEmpty=a6)(h1:1<a)(h2:a<2^63)(hz:its.size*a.toNat<=ai) :
  Meets (dH.«tuple.__mul__» ⟨[.ref l,.int a t],[]⟩) (λ_ R s=>s.heap.get? l=a5 ⟨.type "tuple",d1,.seq its n,sl⟩ /\
   R (.ok (.ret (.ref s.heap.objs.size))) { s with heap:=s.heap.push { cls:=.type "tuple",data:=.seq (bu (λx y=>x++y) #[] (aq a.toNat its)) } }) :=
 .of_wp λ_ _ _ _ s h=>by
  obtain⟨_,_,_,_,_⟩:=s;obtain⟨hl,h⟩:=h;have c1:(decide (a < -2^63) || decide (a>=2^63))=a6:=by rw[decide_eq_false nofun,decide_eq_false nofun];rfl
  have c2:(its.isEmpty || a==1)=a6:=by rw[h0,beq_eq_false_iff_ne.mpr nofun];rfl
  have c3:(decide (a<=0) || its.isEmpty)=a6:=by rw[h0,decide_eq_false nofun];rfl
  have ea:((its.size*a.toNat:Nat):Int)=(its.size:Int)*a:=by rw[Int.natCast_mul,Int.toNat_of_nonneg nofun]
  have hz':(its.size:Int)*a<=(ai:Int):=by rw[<-ea];exact Int.ofNat_le.mpr hz
  have c4:¬(its.size:Int)*a>(2^63-1)/8:=by
   have:(ai:Int)<=(2^63-1)/8:=by decide
   omega
  have c5:dq ((its.size:Int)*a)=a6:=by unfold dq;exact decide_eq_false nofun
  have c6:(bu (λx y=>x++y) #[] (aq a.toNat its)).size<=ai:=by rw[AutoListH.size_joined,Array.size_empty,bI,dN];exact hz
  wp_walk
  rw[c1]
  wp_walk
  rw[c2]
  wp_walk
  rw[c3]
  wp_walk
  rw[if_neg c4]
  wp_walk
  exact⟨_,rfl,h⟩
end
theorem j42{X:Cx}:OpR X (aV .Mult) (λx y H Q=>∃a k xs,x=.ref a/\y=.int k/\SqT X.K H a xs/\xs≠[]/\1<=k/\k<2^63/\xs.length*k.toNat<=ai /\
  (k=1->Q (.ref a) H)/\(1<k->∀p,H p=a7->Q (.ref p) (upd H p (.tup (aq k.toNat xs).flatten)))):=by
 intro pins s σ H x y v u Q I rx ry h;obtain⟨a,k,xs,e1,e2,sq,hne,h1,h2,hz,q1,q2⟩:=h;subst e1 e2;cases rx;obtain⟨t,e⟩:=ry;subst e;obtain⟨us,ru,⟨⟨c1,d1,f1,g1⟩,p1,k1,n1,m1⟩,_⟩:=I.tuple sq;have k1:c1=.type "tuple":=k1;have m1:f1=.seq us.toArray n1:=m1;subst k1 m1;have lu:=ru.length;have hne':us.toArray.isEmpty=a6:=by
  cases us with
  |nil=>cases ru;exact absurd rfl hne
  |cons _ _=>simp
 refine fy (T:="tuple") (U:="int") (by decide) ⟨_,p1,rfl⟩ (λs'=>dS s' k t) Uy hZ de j3r F.slot_int_index.lookup
  (cL de (dS s k t) gT (gM _ _) (O3 k t a us.toArray n1 d1 g1) ⟨p1,rfl,⟨_,p1,rfl⟩,?_⟩)
 by_cases hk:k=1
 .subst hk;exact cL gS ⟨_,p1,rfl⟩ gL (gE _ _) (Eo t a us.toArray n1 d1 g1) ⟨p1,⟨.ref a,H,I,rfl,q1 rfl⟩⟩
 .have hz':us.toArray.size*k.toNat<=ai:=by rw[xm,<-lu];exact hz
  refine cL gS ⟨_,p1,rfl⟩ gL (gE _ _) (Em k t a us.toArray n1 d1 g1 hne' nofun h2 hz') ⟨p1,?_⟩;have hnew:bu (λx1 x2=>x1++x2) #[] (aq k.toNat us.toArray)=(aq k.toNat us).flatten.toArray:=by have:=foldl_rep us k.toNat [];rw[dY]at this;exact this
  rw[hnew];refine⟨.ref _,_,I.laid (t':=s.toks) (λb o e=>xq _ e) (xx _) ?_,rfl,q2 nofun _ I.fresh⟩;exact⟨by rw[len_rep,dN];exact hz,_,ru.rep k.toNat,IsTup.new _ _,V3.new _ _⟩
theorem DE.repT{X:Cx}{ρ:Rho}{a b:ah}{ds:List D}{k:Int}{pos:aN}(ha:DM X ρ a a6 ds)(hb:DT X ρ b (.int k))(hne:ds≠[])(h1:1<=k)(h2:k<2^63)(hl:ds.length*k.toNat<=ai) :
  DE X ρ (.BinOp a .Mult b pos) (.tup (aq k.toNat ds).flatten):=λσ H Q R q =>
 (Qx j42 peS peS).to (ha σ H _ R λt xs H1 g1 sq l=>hb σ H1 _ (R.grow g1) λu H2 g2 e2=>by
  have l2:=l.mono (je g2)
  refine⟨t,k,xs,rfl,e2,g2.seqT (J0 sq),?_,h1,h2,by rw[l.length];exact hl,λh=>?_,λh p hp=>?_⟩
  .intro z;subst z
   cases ds with
   |nil=>exact hne rfl
   |cons _ _=>have:=l.length;cases this
  .subst h
   have e:(aq (1:Int).toNat ds).flatten=ds:=by simp
   rw[e]at q
   refine q _ H2 (g1.trans g2) ⟨t,xs,rfl,?_,l2⟩
   have ow:=(R.grow (g1.trans g2)).owned
   have out:∀{o:HO},H2 t=a5 o->(∀zs,o≠.lst zs)->del H2 (owns ρ) t=a5 o:=λ{o} h z=>by
    rw[j8];exact h
    intro y;obtain⟨zs,e'⟩:=ow t y;rw[h]at e';cases e';exact z zs rfl
   rcases g2.seqT (J0 sq)with (h|⟨o,h⟩)|h
   .exact .inl (.inl (out h λ_ z=>by cases z))
   .exact .inl (.inr ⟨o,out h λ_ z=>by cases z⟩)
   .exact .inr h
  .have np:p∉owns ρ:=(R.grow (g1.trans g2)).fresh hp
   exact q _ _ ((g1.trans g2).trans (j6 hp)) ⟨p,_,rfl,.inl (.inl (by rw[j8 np];exact jr)),(l2.rep k.toNat).mono (je (j6 hp))⟩)
section
variable{X:Cx}{ρ:Rho}{a:ah}{m k:Bool}{d:D}{n:Nat}{pos p2:aN}
end
end L2
end
section
namespace PySem
open Sem (wp)
namespace F
end F
section
variable{prog:ak}{w:ax}{A:az}{E:k4o}{s:ae}{I:af}{fp wr:List af}{G:Array dE->Array dE->Prop}{n:Nat}{P:Nat->a9->Prop}{St:Nat->ae->Prop}
end
end PySem
namespace L2
open PySem PySem.Spec PyProof.Rows
section
variable{X:Cx}{ρ:Rho}{a:ah}{ds:List D}{p p1 p2 p3 pos:aN}
end
noncomputable def Sl.abs:Sl->Sv
 |.un=>.un
 |.val d=>.val d
 |.own _ l=>.own l
 |.raw _ _ x=>.exc x
noncomputable def j7(ρ:Rho):En:=ρ.map Sl.abs
theorem V2{ρ:Rho}{i:Nat}:(j7 ρ)[i]?=(ρ[i]?).map Sl.abs:=X3 ..
theorem Yw{ρ:Rho}{i:Nat}{d:D}(h:(j7 ρ)[i]?=a5 (.val d)):ρ[i]?=a5 (.val d):=by
 rw[V2]at h;cases e:ρ[i]? with
 |none=>rw[e]at h;cases h
 |some s=>rw[e]at h;cases s<;>cases h;rfl
theorem j5b{ρ:Rho}{i:Nat}(h:(j7 ρ)[i]?=a5 .un):ρ[i]?=a5 .un:=by
 rw[V2]at h;cases e:ρ[i]? with
 |none=>rw[e]at h;cases h
 |some s=>rw[e]at h;cases s<;>cases h;rfl
theorem J5{ρ:Rho}{i:Nat}{l:List D}(h:(j7 ρ)[i]?=a5 (.own l)):∃a,ρ[i]?=a5 (.own a l):=by
 rw[V2]at h;cases e:ρ[i]? with
 |none=>rw[e]at h;cases h
 |some s=>rw[e]at h;cases s<;>cases h;exact⟨_,rfl⟩
theorem Yx{ρ:Rho}{i:Nat}{x:ag}(h:(j7 ρ)[i]?=a5 (.exc x)):∃a o,ρ[i]?=a5 (.raw a o x):=by
 rw[V2]at h;cases e:ρ[i]? with
 |none=>rw[e]at h;cases h
 |some s=>rw[e]at h;cases s<;>cases h;exact⟨_,_,rfl⟩
theorem jz{ρ:Rho}{i:Nat}{s:Sl}:j7 (ρ.set i s)=(j7 ρ).set i s.abs:=List.map_set ..
noncomputable def Bop.op:Bop->gI
 |.add=>.Add
 |.sub=>.Sub
 |.mul=>.Mult
 |.fdiv=>.FloorDiv
 |.mod=>.Mod
 |.pow=>.Pow
 |.shl=>.LShift
 |.shr=>.RShift
 |.band=>.BitAnd
 |.bxor=>.BitXor
noncomputable def Cop.op:Cop->eY
 |.lt=>.Lt
 |.le=>.LtE
 |.gt=>.Gt
 |.ge=>.GtE
 |.eq=>.Eq
 |.ne=>.NotEq
 |.isin=>.In
 |.notin=>.NotIn
noncomputable def Bf.name:Bf->ag
 |.len=>"len"
 |.min=>"min"
 |.max=>"max"
 |.all=>"all"
 |.tuple=>"tuple"
 |.list=>"list"
 |.sum=>"sum"
 |.int=>"int"
 |.any=>"any"
 |.sorted=>"sorted"
noncomputable def Jq:List ag:=["len","min","max","all","tuple","list","sum","int","any","sorted","isinstance","bool","str","range","zip","enumerate","reversed","ValueError","set","dict"]
noncomputable def Q8(x:ag):Bool:=x.cps.toList.head?==a5 33 || x.cps.toList.head?==a5 63
inductive Nd where
 |e (x:ah)
 |b (x:ah)
 |w (x:ah)
 |a (xs:List ah)
 |i (tg it:ah)
 |o (x:Option ah)
 |c (xs:List ah)
 |p (xs:List ah)
structure Cok(X:Cx)(G:ag->Option D):Prop where
 un':X.A.units+100<aX
 un:X.calm=a8->X.A.units+150<aX
 dp:X.calm=a8->X.A.depth+4<bx
 bt:∀x∈Jq,X.mg x=a7
 gl:∀x d,Q8 x=a6->G x=a5 d->∃u v,X.mg x=a5 u/\RelV v u/\∀H,Enc X.K H d v
 nd:X.N.Nodup
 po:eT (ar X.prog X.w) X.A X.env X.xe
 ea:J7 X.K=a8
 ec:∀x d,G (bang x)=a5 d->x∈jh/\∃o,W.nsIn X.K aj x=a5 (a5 o)
 el:G "?" = a5 (.bl a8)->∀c∈jh,∃v,W.nsIn X.K aj c=a5 (a5 v)
 kin:X.K.In X.base
 ns:X.base.Ns aj X.mg
 kd:∀x l,G (bang x)=a5 (.lst l)->Kinds X "_law_kinds" x l
 fn:∀f d,G (qm f)=a5 d->∃fa,X.mg f=a5 (.ref fa)/\W.keepIn X.K (.ref fa)=a8
 pl:∀d,G (qm "_law_plan")=a5 d->Cal X "_law_plan" (j5p X.K j2e)
 pc:∀d,G (qm "Pieces")=a5 d->∃C,X.mg "Pieces" = a5 (.ref C)/\PcX X C
 gd:X.calm=a8->X.A.guards=a5 []
 fr:∃(env0:c8)(out0:List c8)(L:af),X.stack=env0::out0/\env0.frame=a5 L/\X.env.frame=a5 L
 lm:∀x∈Ju,X.env.qual=x ++ ".<locals>."->∃c P,X.env.code=.ref c/\W.codeHdIn X.K c P=a8/\W.tabIn X.K x=a5 (c,P)
def Gok(X:Cx)(Γ:ag->List D->Rc):Prop:=∀f ds,match Γ f ds with
 |.val d=>Cal X f (spP X.K λds' d'=>ds'=ds/\d'=d)
 |.fresh l=>Cal X f (spF X.K λds' l'=>ds'=ds/\l'=l)
 |.err x=>CalX X f (spX X.K X.mg λds' y=>ds'=ds/\y=x)
 |.lval d=>∀x,f=qu x->∃k,Room k X.A/\Dt X.prog X.w X.K X.mg X.base k x λds' d'=>ds'=ds/\d'=d
 |.mval d k'=>∀g ls (k:Nat) ds',f=mq g->ds=.lst (ls.map D.str)::.int (k:Int)::ds'->∀C,X.mg "Pieces" = a5 (.ref C)->CalM X g C λls2 k2 ds2 d2 k2'=>ls2=ls/\k2=k/\ds2=ds'/\d2=d/\k2'=k'
 |.merr x=>∀g ls (k:Nat) ds',f=mq g->ds=.lst (ls.map D.str)::.int (k:Int)::ds'->∀C,X.mg "Pieces" = a5 (.ref C)->CalMX X g C λls2 k2 ds2 x2=>ls2=ls/\k2=k/\ds2=ds'/\x2=x
 |.no=>True
theorem Cok.comp{X:Cx}{G:ag->Option D}{scope:bg}{C:af}{s:ae}{H:Hp}{fp:List af}{pn:k4p}(h:Cok X G):Cok (cCx X scope C s H fp pn) G:=⟨h.un',h.un,h.dp,h.bt,h.gl,h.nd,Pb,h.ea,h.ec,h.el,h.kin,h.ns,h.kd,h.fn,λd e=>Cal.comp (h.pl d e),λd e=>let ⟨C,h1,h2⟩:=h.pc d e;⟨C,h1,⟨h2.ex⟩⟩,h.gd,h.fr,h.lm⟩
theorem Gok.comp{X:Cx}{Γ:ag->List D->Rc}{scope:bg}{C:af}{s:ae}{H:Hp}{fp:List af}{pn:k4p}(h:Gok X Γ):Gok (cCx X scope C s H fp pn) Γ:=λf ds=>by
 have q:=h f ds;cases e:Γ f ds with
 |val d=>rw[e]at q;exact Cal.comp q
 |fresh l=>rw[e]at q;exact Cal.comp q
 |err x=>rw[e]at q;exact⟨q.ex⟩
 |lval d=>rw[e]at q;exact q
 |mval d k=>rw[e]at q;exact λg ls k ds' h1 h2 C h3=>⟨(q g ls k ds' h1 h2 C h3).ex⟩
 |merr x=>rw[e]at q;exact λg ls k ds' h1 h2 C h3=>⟨(q g ls k ds' h1 h2 C h3).ex⟩
 |no=>trivial
inductive HasA(X:Cx)(ρ:Rho):List ah->List Rk->Prop where
 |nil:HasA X ρ [] []
 |cons {a:ah} {es:List ah} {r:Rk} {rs:List Rk} (hs:aa (a::es) X.env=(a6,aG a X.env)::aa es X.env):Has X ρ a r->HasA X ρ es rs->HasA X ρ (a::es) (r::rs)
section
variable{X:Cx}{ρ:Rho}{es:List ah}{rs:List Rk}
theorem HasA.toA:∀{es:List ah}{rs:List Rk}{ds:List D},HasA X ρ es rs->za rs=a5 ds->DA X ρ es ds
 |_,_,_,.nil,q=>by cases q;exact DA.nil
 |_,_,ds,.cons (r:=r) (rs:=rs) hs h t,q=>by
  unfold za at q;cases e1:r.st with
  |none=>rw[e1]at q;cases q
  |some d =>
   cases e2:za rs with
   |none=>rw[e1,e2]at q;cases q
   |some ds'=>rw[e1,e2]at q;cases q;exact DA.cons (h.toE e1) (t.toA e2) hs
theorem HasA.toT:∀{es:List ah}{rs:List Rk},HasA X ρ es rs->DTA X ρ es (rs.map Rk.d)
 |_,_,.nil=>DTA.nil
 |_,_,.cons hs h t=>DTA.cons h.toT t.toT hs
theorem DO.unfrz{e:ah}{i:Nat}{a:af}{l ds:List D}(hk:ρ[i]?=a5 (.own a l))(h:DO X (ρ.set i (.val (.lst l))) e ds)(hn:ju ds=a8):DO X ρ e ds:=λσ H Q R q =>
 h σ H Q (R.freeze hk) λb xs H' g n m en=>q b xs H' g n m ((en.mono jw).hide (λc hc=>by
  rcases xf.mp hc with z|z
  .rw[z];exact .inl ⟨xs,m⟩
  .exact .inl ((R.grow g).owned c z)) hn)
end
theorem Ul{f:D->Option (Option D)}:∀{ds l:List D},vy f ds=a5 l ->
  l=(ds.filter (λd=>(f d).join.isSome)).map (λd=>(f d).join.getD .non)/\∀d∈ds,∃o,f d=a5 o
 |[],l,h=>by cases h;exact⟨rfl,λd hd=>nomatch hd⟩
 |d::ds,l,h=>by
  unfold vy at h;cases e1:f d with
  |none=>rw[e1]at h;cases h
  |some o =>
   cases e2:vy f ds with
   |none=>rw[e1,e2]at h;cases o<;>cases h
   |some xs =>
    rw[e1,e2]at h;obtain⟨q1,q2⟩:=Ul e2;have mem:∀d'∈d::ds,∃o,f d'=a5 o:=λd' hd=>by
     rcases xf.mp hd with z|z
     .subst z;exact⟨o,e1⟩
     .exact q2 d' z
    cases o with
    |none=>cases h;exact⟨by rw[List.filter_cons_of_neg (by rw[e1];simp)];exact q1,mem⟩
    |some x=>cases h;exact⟨by rw[List.filter_cons_of_pos (by rw[e1];rfl),Xi,<-q1,e1];rfl,mem⟩
section
variable{X:Cx}{ρ:Rho}{a b:ah}{d da db:D}{ds ds':List D}{pos:aN}{k:Bool}
theorem Kf {t c:String} (h:q8 t c=a5 k):t ≠ "function":=λz=>by unfold q8 at h;rw[if_pos z]at h;cases h
theorem N6{K:k4n}{c:String}(h:q8 d.ty c=a5 k):W.kitOne K (.type d.ty) (.type c)=a5 k:=by
 have nf:d.ty ≠ "function":=Kf h;unfold q8 at h;rw[if_neg nf]at h;by_cases h1:c = "int"
 .subst h1;cases d<;>first|exact absurd rfl nf|(simp[D.ty]at h;subst h;kernel_rfl)
 rw[if_neg h1]at h;by_cases h2:c = "bool"
 .subst h2;cases d<;>first|exact absurd rfl nf|(simp[D.ty]at h;subst h;kernel_rfl)
 rw[if_neg h2]at h;by_cases h3:c = "str"
 .subst h3;cases d<;>first|exact absurd rfl nf|(simp[D.ty]at h;subst h;kernel_rfl)
 rw[if_neg h3]at h;by_cases h4:c = "list"
 .subst h4;cases d<;>first|exact absurd rfl nf|(simp[D.ty]at h;subst h;kernel_rfl)
 rw[if_neg h4]at h;by_cases h5:c = "tuple"
 .subst h5;cases d<;>first|exact absurd rfl nf|(simp[D.ty]at h;subst h;kernel_rfl)
 rw[if_neg h5]at h;cases h
theorem N8 {c:String} {cs:List String} (h:jq d (c::cs)=a5 k):d.ty ≠ "function":=by
 unfold jq at h;split at h
 .rename_i e _;exact Kf e
 .cases h
theorem O1{K:k4n}:∀{cs:List String}{k:Bool},jq d cs=a5 k->W.kitAny K (.type d.ty) (cs.map bb)=a5 k
 |[],k,h=>by cases h;rfl
 |c::cs,k,h=>by
  unfold jq at h;cases e1:q8 d.ty c with
  |none=>rw[e1]at h;cases h
  |some x =>
   cases e2:jq d cs with
   |none=>rw[e1,e2]at h;cases h
   |some y =>
    rw[e1,e2]at h;cases h;rw[Xi,W.kitAny,N6 e1];cases x with
    |true=>simp
    |false=>simp;exact O1 e2
theorem DE.neD(s:Bool)(hu:X.A.units+100<aX)(ha:DT X ρ a (D.seq s ds))(hb:DT X ρ b (D.seq s ds'))(hd:D.depL ds<=98)(nd:D.depL ds'<10000):DE X ρ (.Compare a [.NotEq] [b] pos) (.bl (!z9 ds ds')):=λσ H Q R q =>(vm (Lw hu) peS peS (qw _)).to (ha σ H _ R λv H1 g1 e1=>hb σ H1 _ (R.grow g1) λu H2 g2 e2=>⟨ds,ds',s,e1.mono g2,e2,hd,nd,q _ H2 (g1.trans g2) rfl⟩)
theorem DE.notIn(s:Bool)(hu:X.A.units+100<aX)(ha:DT X ρ a d)(hb:DT X ρ b (D.seq s ds))(hd:D.depL ds<=98)(nd:d.dep<10000)(hm:aJ .NotIn b=a6):DE X ρ (.Compare a [.NotIn] [b] pos) (.bl (!ds.any λe=>deq e d)):=λσ H Q R q =>(vm (Wf hu) peS peS hm).to (ha σ H _ R λv H1 g1 e1=>hb σ H1 _ (R.grow g1) λu H2 g2 e2=>⟨d,ds,s,e1.mono g2,e2,hd,nd,q _ H2 (g1.trans g2) rfl⟩)
theorem DE.in(s:Bool)(hu:X.A.units+100<aX)(ha:DT X ρ a d)(hb:DT X ρ b (D.seq s ds))(hd:D.depL ds<=98)(nd:d.dep<10000)(hm:aJ .In b=a6):DE X ρ (.Compare a [.In] [b] pos) (.bl (ds.any λe=>deq e d)):=λσ H Q R q =>(vm (Lx hu) peS peS hm).to (ha σ H _ R λv H1 g1 e1=>hb σ H1 _ (R.grow g1) λu H2 g2 e2=>⟨d,ds,s,e1.mono g2,e2,hd,nd,q _ H2 (g1.trans g2) rfl⟩)
theorem j3f:∀{b:D}{s:Bool}{l:List D},b.sqv=a5 (s,l)->b=D.seq s l
 |.lst _,_,_,h=>by cases h;rfl
 |.dct _ _,_,_,h=>by cases h
 |.sct _,_,_,h=>by cases h
 |.fn _ _,_,_,h=>by cases h
 |.tup _,_,_,h=>by cases h;rfl
 |.non,_,_,h=>by cases h
 |.bl _,_,_,h=>by cases h
 |.int _,_,_,h=>by cases h
 |.str _,_,_,h=>by cases h
theorem Dj{op:Cop}{i j:Int}(h:cmpI op i j=a5 k)(ha:DT X ρ a (.int i))(hb:DT X ρ b (.int j)):DE X ρ (.Compare a [op.op] [b] pos) (.bl k)/\DB X ρ (.Compare a [op.op] [b] pos) k:=by
 cases op<;>(first|(cases h;done)|skip)
 .cases h;exact⟨DE.lt ha hb,DB.lt ha hb⟩
 .cases h;exact⟨DE.le ha hb,DB.le ha hb⟩
 .cases h;exact⟨DE.gt ha hb,DB.gt ha hb⟩
 .cases h;exact⟨DE.ge ha hb,DB.ge ha hb⟩
 .cases h;exact⟨DE.eqI ha hb,DB.eqI ha hb⟩
 .cases h;exact⟨DE.neI ha hb,DB.neI ha hb⟩
theorem Ww{op:Cop}(hu:X.A.units+100<aX)(h:vp op da db=a5 k)(ha:DT X ρ a da)(hb:DT X ρ b db)(hm:aJ op.op b=a6) :
  DE X ρ (.Compare a [op.op] [b] pos) (.bl k)/\DB X ρ (.Compare a [op.op] [b] pos) k:=by
 have inn:∀{r:Bool->Bool},(match db.sqv with|some (_,l)=>if D.depL l<=90/\da.dep<=90 then a5 (r (l.any λe=>deq e da))else a7|none=>a7)=a5 k->∃s l,DT X ρ b (D.seq s l)/\D.depL l<=98/\da.dep<10000/\k=r (l.any λe=>deq e da):=λ{r} h=>by
  cases e:db.sqv with
  |none=>rw[e]at h;cases h
  |some p =>
   obtain⟨s,l⟩:=p;rw[e]at h;have h:(if D.depL l<=90/\da.dep<=90 then a5 (r (l.any λe=>deq e da))else a7)=a5 k:=h;by_cases z:D.depL l<=90/\da.dep<=90
   .rw[if_pos z]at h;cases h;exact⟨s,l,j3f e▸hb,by omega,by omega,rfl⟩
   .rw[if_neg z]at h;cases h
 unfold vp at h;split at h
 .exact Dj h ha hb
 .by_cases z:da.dep<=90/\db.dep<=90
  .rw[if_pos z]at h;cases h;exact⟨DE.eqD hu ha hb nofun nofun,DB.eqD hu ha hb nofun nofun⟩
  .rw[if_neg z]at h;cases h
 .cases h;exact⟨DE.neB ha hb,DB.neB ha hb⟩
 .cases h;exact⟨(DE.neS ha hb).eq (by rw[Oe]),(DB.neS ha hb).eq (by rw[Oe])⟩
 .cases h;exact⟨(DE.neS ha hb).eq (by simp),(DB.neS ha hb).eq (by simp)⟩
 .rename_i l m;by_cases z:D.depL l<=90/\D.depL m<=90
  .rw[if_pos z]at h;cases h;exact⟨DE.neD a8 hu ha hb nofun nofun,DB.neD a8 hu ha hb nofun nofun⟩
  .rw[if_neg z]at h;cases h
 .rename_i l m;by_cases z:D.depL l<=90/\D.depL m<=90
  .rw[if_pos z]at h;cases h;exact⟨DE.neD a6 hu ha hb nofun nofun,DB.neD a6 hu ha hb nofun nofun⟩
  .rw[if_neg z]at h;cases h
 .cases h;exact⟨DE.inS ha hb hm,DB.inS ha hb hm⟩
 .cases h;exact⟨DE.ltS ha hb,DB.ltS ha hb⟩
 .cases h;exact⟨DE.gtS ha hb,DB.gtS ha hb⟩
 .obtain⟨s,l,hb,hd,nd,e⟩:=inn (r:=id) h;subst e;exact⟨DE.in s hu ha hb hd nd hm,DB.in s hu ha hb hd nd hm⟩
 .obtain⟨s,l,hb,hd,nd,e⟩:=inn (r:=(!·)) h;subst e;exact⟨DE.notIn s hu ha hb hd nd hm,DB.notIn s hu ha hb hd nd hm⟩
 .cases h
theorem DE.shr{i j:Int}(ha:DT X ρ a (.int i))(hb:DT X ρ b (.int j))(h:0<=j):DE X ρ (.BinOp a .RShift b pos) (.int (i/2^j.toNat)):=DE.arI (g:=λi j=>i/2^j.toNat) j6n ha hb h
theorem jo{α:Type}{c:Prop}[Decidable c]{x y:α}(h:(if c then a5 x else a7)=a5 y):c/\x=y:=by
 by_cases z:c
 .rw[if_pos z]at h;exact⟨z,aB h⟩
 .rw[if_neg z]at h;cases h
theorem Dm{op:Bop}{i j n:Int}(h:binI op i j=a5 n)(ha:DT X ρ a (.int i))(hb:DT X ρ b (.int j)):DE X ρ (.BinOp a op.op b pos) (.int n):=by
 cases op
 .cases h;exact DE.add ha hb
 .cases h;exact DE.sub ha hb
 .obtain⟨z,e⟩:=jo h;subst e;exact DE.mul ha hb z
 .obtain⟨z,e⟩:=jo h;subst e;exact DE.fdivB ha hb z
 .obtain⟨z,e⟩:=jo h;subst e;exact DE.mod ha hb z
 .obtain⟨z,e⟩:=jo h;subst e;exact DE.pow ha hb z
 .obtain⟨z,e⟩:=jo h;subst e;exact DE.shl ha hb z
 .obtain⟨z,e⟩:=jo h;subst e;exact DE.shr ha hb z
 .cases h;exact DE.arI0 j6t ha hb
 .cases h;exact DE.arI0 j6l ha hb
theorem qp{n:Nat}(h:jg n=a8):n<=ai:=of_decide_eq_true h
end
section
variable{X:Cx}{ρ:Rho}{a b e:ah}{es:List ah}{d:D}{pos p:aN}
theorem Has.lw:∀{r:Rk}{l:List D},Has X ρ a r->r.lw=a5 l->DL X ρ a l
 |.o l,_,h,q=>by cases q;exact DO.toL h
 |.w l,_,h,q=>by cases q;exact h
 |.e _,_,_,q=>by cases q
 |.t _,_,_,q=>by cases q
theorem Ec{op:Bop}{x y r:Rk}(h:Zy op x y=a5 r)(ha:Has X ρ a x)(hb:Has X ρ b y):Has X ρ (.BinOp a op.op b pos) r:=by
 unfold Zy at h;split at h
 .rename_i i j e1 e2;cases z:binI op i j with
  |none=>rw[z]at h;cases h
  |some n=>rw[z]at h;cases h;exact Dm z (e1▸ha.toT) (e2▸hb.toT)
 .rename_i y z e1 e2;split at h
  .obtain⟨q,e⟩:=jo h;subst e;exact DE.catS (e1▸ha.toT) (e2▸hb.toT) (qp q)
  .cases h
 .rename_i y k e1 e2;split at h
  .obtain⟨q,e⟩:=jo h;subst e;exact DE.mulS (e1▸ha.toT) (e2▸hb.toT) q.1 q.2
  .cases h
 .split at h
  .rename_i l m _ e1 e2;obtain⟨z,q⟩:=jo h;subst q;exact DO.catM (ha.toM e1) (hb.toM e2) (qp z)
  .rename_i l m _ e1 e2;obtain⟨z,q⟩:=jo h;subst q;exact DE.catTM (ha.toM e1) (hb.toM e2) (qp z)
  .rename_i l k _ _ e1 e3;obtain⟨z,q⟩:=jo h;subst q;exact DE.repT (ha.toM e1) (e3▸hb.toT) (λe=>by subst e;exact absurd z.2.2.1 (by simp)) z.1 z.2.1 (qp z.2.2.2)
  .rename_i k _ _ _ e3 _;cases e:x.lw with
   |none=>rw[e]at h;cases h
   |some l =>rw[e]at h;obtain⟨z,q⟩:=jo h;subst q;exact DO.rep (ha.lw e) (e3▸hb.toT) z.1 z.2.1 (qp z.2.2)
  .cases h
theorem Zx:∀{l:List D}{bs:List Bool},boolsOf l=a5 bs->l=bs.map D.bl
 |[],_,h=>by cases h;rfl
 |.bl b::r,bs,h=>by
  unfold boolsOf at h;cases e:boolsOf r with
  |none=>rw[e]at h;cases h
  |some q=>rw[e]at h;cases h;rw[Zx e];rfl
 |.non::_,_,h=>by cases h
 |.int _::_,_,h=>by cases h
 |.str _::_,_,h=>by cases h
 |.tup _::_,_,h=>by cases h
 |.lst _::_,_,h=>by cases h
 |.dct _ _::_,_,h=>by cases h
 |.sct _::_,_,h=>by cases h
 |.fn _ _::_,_,h=>by cases h
theorem J2:∀{l:List D}{bs:List Int},intsOf l=a5 bs->l=bs.map D.int
 |[],_,h=>by cases h;rfl
 |.int b::r,bs,h=>by
  unfold intsOf at h;cases e:intsOf r with
  |none=>rw[e]at h;cases h
  |some q=>rw[e]at h;cases h;rw[J2 e];rfl
 |.non::_,_,h=>by cases h
 |.bl _::_,_,h=>by cases h
 |.str _::_,_,h=>by cases h
 |.tup _::_,_,h=>by cases h
 |.lst _::_,_,h=>by cases h
 |.dct _ _::_,_,h=>by cases h
 |.sct _::_,_,h=>by cases h
 |.fn _ _::_,_,h=>by cases h
theorem vz{w:Option W}{k:Bool}(h:truth w=a5 k):∃r,w=a5 (.v r)/\r.d=.bl k:=by
 unfold truth at h;split at h
 .rename_i r;split at h
  .rename_i q e;cases h;exact⟨r,rfl,e⟩
  .cases h
 .cases h
def Ov(X:Cx)(ρ:Rho):List ah->List Rk->Prop
 |[],[]=>True
 |e::es,r::rs=>(∀y,zg r.d=a5 y->DE X ρ e (.str y))/\Ov X ρ es rs
 |_,_=>False
theorem Ov.all{X:Cx}{ρ:Rho}:∀{es:List ah}{rs:List Rk}{ys:List ag},Ov X ρ es rs->z7 rs=a5 ys->DPs X ρ es ys/\ys.length=rs.length
 |[],[],ys,_,q=>by cases q;exact⟨trivial,rfl⟩
 |e::es,r::rs,ys,h,q=>by
  unfold z7 at q;cases e1:zg r.d with
  |none=>rw[e1]at q;cases q
  |some y =>
   cases e2:z7 rs with
   |none=>rw[e1,e2]at q;cases q
   |some ys' =>rw[e1,e2]at q;cases q;obtain⟨z1,z2⟩:=Ov.all h.2 e2;exact⟨⟨h.1 y e1,z1⟩,by rw[X5,X5,z2]⟩
 |[],_::_,_,h,_=>h.elim
 |_::_,[],_,h,_=>h.elim
theorem log2_small{i:Int}(h:-18446744073709551616<i/\i<18446744073709551616):i.natAbs.log2<1920:=by
 by_cases z:i.natAbs=0
 .rw[z];decide
 .have e:(2:Nat)^64=18446744073709551616:=by decide
  have:i.natAbs.log2<64:=(jA z).mpr (by rw[e];omega);omega
theorem Cw{d:D}{y:ag}(h:zg d=a5 y):y.length<=10000:=by
 cases d with
 |int i =>
  simp only[zg]at h;split at h
  .rename_i q;cases h;have:=int_text_length_le (k:=1920) (by decide) (log2_small q);rw[PySem.ofString_length];omega
  .cases h
 |str z =>
  simp only[zg]at h;split at h
  .rename_i q;cases h;exact q
  .cases h
 |tup l =>
  simp only[zg]at h;split at h
  .split at h
   .rename_i q;cases h;exact q.2
   .cases h
  .cases h
 |_=>cases h
theorem Y4:∀{rs:List Rk}{ys:List ag},z7 rs=a5 ys->∀y∈ys,y.length<=10000
 |[],_,q=>by cases q;exact λy hy=>nomatch hy
 |r::rs,ys,q=>by
  unfold z7 at q;cases e1:zg r.d with
  |none=>rw[e1]at q;cases q
  |some y =>
   cases e2:z7 rs with
   |none=>rw[e1,e2]at q;cases q
   |some ys' =>
    rw[e1,e2]at q;cases q;intro z hz;rcases xf.mp hz with rfl|hz
    .exact Cw e1
    .exact Y4 e2 z hz
theorem DE.fmt{X:Cx}{ρ:Rho}{a:ah}{d:D}{y:ag}{pos:aN}(hg:X.A.guards=a5 [])(hu:X.A.units+100<aX)(ha:DT X ρ a d)(h:zg d=a5 y):DE X ρ (.FormattedValue a (-1) a7 pos) (.str y):=by
 cases d with
 |int i =>
  simp only[zg]at h;split at h
  .rename_i q;cases h;exact DE.fmtI ha (log2_small q)
  .cases h
 |str z =>
  simp only[zg]at h;split at h
  .rename_i q;cases h;exact DE.fmtS ha (by rw[ba];omega)
  .cases h
 |tup l =>
  simp only[zg]at h;split at h
  .rename_i is ei;split at h
   .rename_i q;cases h;have e:=J2 ei;subst e;exact DE.fmtT hg hu ha (λi hi=>log2_small (q.1 i hi)) (by rw[ba];omega)
   .cases h
  .cases h
 |_=>cases h
def j99(Γ:ag->List D->Rc)(G:ag->Option D)(X:Cx)(t:Ex):Nd->Prop
 |.e e=>∀ρ r,ev Γ G t (j7 ρ)=a5 (.v r)->Has X ρ e r
 |.b e=>∀ρ k,truth (ev Γ G t (j7 ρ))=a5 k->DB X ρ e k
 |.w e=>∀ρ k,truth (ev Γ G t (j7 ρ))=a5 k->DW X ρ e k
 |.a es=>∀ρ rs,ev Γ G t (j7 ρ)=a5 (.a rs)->HasA X ρ es rs
 |.i tg it=>∀ρ ds,ev Γ G t (j7 ρ)=a5 (.i ds)->DI X ρ tg it ds
 |.o e=>∀ρ o,J4 (ev Γ G t (j7 ρ))=a5 o->DP X ρ e o
 |.p es=>∀ρ rs,ev Γ G t (j7 ρ)=a5 (.a rs)->Ov X ρ es rs
 |.c ifs=>∀ρ,(ev Γ G t (j7 ρ)=a5 (.a [])->DTs X ρ ifs a8)/\∀y k,ev Γ G t (j7 ρ)=a5 (.a [y])->y.d=.bl k->DTs X ρ ifs k
end
section
variable{Γ:ag->List D->Rc}{G:ag->Option D}{X:Cx}
theorem Yc{is:List Nat}{elt' it' c':Ex}{elt it tg:ah}{ifs:List ah}{scope:bg}{ρ:Rho}{r:Rk}
  (hit:∀ρ ds,ev Γ G it' (j7 ρ)=a5 (.i ds)->DI X ρ tg it ds)
  (hb:∀ρ d ρ2,zc is d (j7 ρ)=a5 ρ2->(∀j∈is,ρ[j]?=a5 .un)->∃ρ',j7 ρ'=ρ2/\Wk ρ' ρ/\owns ρ'=owns ρ/\∀C s H fp pn,DG (cCx X scope C s H fp pn) ρ tg d ρ')
  (he:∀C s H fp pn ρ r,ev Γ G elt' (j7 ρ)=a5 (.v r)->Has (cCx X scope C s H fp pn) ρ elt r)
  (hc:∀C s H fp pn ρ,(ev Γ G c' (j7 ρ)=a5 (.a [])->DTs (cCx X scope C s H fp pn) ρ ifs a8)/\∀y k,ev Γ G c' (j7 ρ)=a5 (.a [y])->y.d=.bl k->DTs (cCx X scope C s H fp pn) ρ ifs k)
  (h:ev Γ G (.comp is elt' it' c') (j7 ρ)=a5 (.v r)):∃(l:List D)(ρf:Rho)(ds:List D)(pr:D->Bool)(g:D->D),r=.o l/\l=(ds.filter pr).map g /\
   (ρf=ρ\/(ju l=a8/\∃(i:Nat)(a:af)(l':List D),ρ[i]?=a5 (.own a l')/\ρf=ρ.set i (.val (.lst l'))))/\DI X ρf tg it ds/\(∀j∈is,ρf[j]?=a5 .un)/\ds.length<=ai /\
   (∀C s H fp pn,∀d∈ds,∃ρ2,DG (cCx X scope C s H fp pn) ρf tg d ρ2/\Wk ρ2 ρf/\owns ρ2=owns ρf/\DTs (cCx X scope C s H fp pn) ρ2 ifs (pr d)/\(pr d=a8->DE (cCx X scope C s H fp pn) ρ2 elt (g d))):=by
 have fr:∃ρf,j7 ρf=frz it' (j7 ρ)/\((v4 it' (j7 ρ)=a6/\ρf=ρ)\/(v4 it' (j7 ρ)=a8/\∃i a l,ρ[i]?=a5 (.own a l)/\ρf=ρ.set i (.val (.lst l)))):=by
  by_cases z:v4 it' (j7 ρ)=a8
  .unfold v4 at z;split at z
   .rename_i i ei;split at z
    .rename_i l e;obtain⟨a,q⟩:=J5 e;refine⟨ρ.set i (.val (.lst l)),?_,.inr ⟨?_,i,a,l,q,rfl⟩⟩
     .rw[jz];simp only[frz,ei,e,Sl.abs]
     .simp only[v4,ei,e]
    .cases z
   .cases z
  .have z':v4 it' (j7 ρ)=a6:=by simpa using z
   refine⟨ρ,?_,.inl ⟨z',rfl⟩⟩;unfold frz;split
   .rename_i i ei;split
    .rename_i l e;simp only[v4,ei,e]at z';cases z'
    .rfl
   .rfl
 obtain⟨ρf,ef,fr⟩:=fr;rw[j92]at h;rw[<-ef]at h;split at h
 .rename_i ds hds;split at h
  .rename_i hz;obtain⟨hfree,hlen⟩:=hz;generalize hf:(λd=>_:D->Option (Option D))=f at h;cases hl:vy f ds with
   |none=>rw[hl]at h;cases h
   |some l =>
    rw[hl]at h;have h:(if (v4 it' (j7 ρ) && !ju l)=a8 then a7 else a5 (W.v (.o l)))=a5 (.v r):=h;by_cases zz:(v4 it' (j7 ρ) && !ju l)=a8
    .rw[if_pos zz]at h;cases h
    .rw[if_neg zz]at h;cases h;obtain⟨el,hmem⟩:=Ul hl;have hun:∀j∈is,ρf[j]?=a5 .un:=λj hj=>by
      have:=Xh.mp hfree j hj;split at this
      .rename_i e;exact j5b e
      .cases this
     refine⟨l,ρf,ds,_,_,rfl,el,?_,hit ρf ds hds,hun,qp hlen,λC s H fp pn d hd=>?_⟩
     .rcases fr with ⟨_,e⟩|⟨e1,i,a,l',hk,e⟩
      .exact .inl e
      .exact .inr ⟨by rw[e1]at zz;simpa using zz,i,a,l',hk,e⟩
     ·
      obtain⟨o,ho⟩:=hmem d hd;rw[<-hf]at ho ⊢;dsimp only at ho ⊢;cases hb2:zc is d (j7 ρf) with
      |none=>rw[hb2]at ho;cases ho
      |some ρ2 =>
       obtain⟨ρ',e',wk,ow,dg⟩:=hb ρf d ρ2 hb2 hun;subst e';refine⟨ρ',dg C s H fp pn,wk,ow,?_⟩;rw[hb2]at ho;dsimp only at ho ⊢;cases hcv:ev Γ G c' (j7 ρ') with
       |none=>rw[hcv]at ho;cases ho
       |some w =>
        rw[hcv]at ho;split at ho
        .rename_i hw;cases hw;cases hev:ev Γ G elt' (j7 ρ') with
         |none=>rw[hev]at ho;cases ho
         |some w =>
          rw[hev]at ho;cases w with
          |i _=>cases ho
          |a _=>cases ho
          |v x =>
           dsimp only at ho ⊢;cases hst:x.st with
           |none=>rw[hst]at ho;cases ho
           |some y =>simp only[hst,Pn,fW,dm,Ph];exact⟨((hc C s H fp pn ρ').1 hcv),λ_=>(he C s H fp pn ρ' x hev).toE hst⟩
        .rename_i y hw;cases hw;split at ho
         .rename_i e1;cases hev:ev Γ G elt' (j7 ρ') with
          |none=>rw[hev]at ho;cases ho
          |some w =>
           rw[hev]at ho;cases w with
           |i _=>cases ho
           |a _=>cases ho
           |v x =>
            dsimp only at ho ⊢;cases hst:x.st with
            |none=>rw[hst]at ho;cases ho
            |some z =>simp only[e1,hst,Pn,fW,dm,Ph];exact⟨(hc C s H fp pn ρ').2 y a8 hcv e1,λ_=>(he C s H fp pn ρ' x hev).toE hst⟩
         .rename_i e1;simp only[e1,Option.join,hR];exact⟨(hc C s H fp pn ρ').2 y a6 hcv e1,λz=>by cases z⟩
         .cases ho
        .cases ho
  .cases h
 .cases h
theorem Dh{is:List Nat}{elt' it' c':Ex}{elt it tg:ah}{ifs:List ah}{scope:bg}{p:aN}{ρ:Rho}{r:Rk}(hq:X.calm=a8)(hX:Cok X G)
  (hit:∀ρ ds,ev Γ G it' (j7 ρ)=a5 (.i ds)->DI X ρ tg it ds) (hkind:scope.kind=.function) (hok:vd scope X.env X.N is=a8) (hs:∀x,aQ it X.env x=pure x)
  (hb:∀ρ d ρ2,zc is d (j7 ρ)=a5 ρ2->(∀j∈is,ρ[j]?=a5 .un)->∃ρ',j7 ρ'=ρ2/\Wk ρ' ρ/\owns ρ'=owns ρ/\∀C s H fp pn,DG (cCx X scope C s H fp pn) ρ tg d ρ')
  (he:∀C s H fp pn ρ r,ev Γ G elt' (j7 ρ)=a5 (.v r)->Has (cCx X scope C s H fp pn) ρ elt r)
  (hc:∀C s H fp pn ρ,(ev Γ G c' (j7 ρ)=a5 (.a [])->DTs (cCx X scope C s H fp pn) ρ ifs a8)/\∀y k,ev Γ G c' (j7 ρ)=a5 (.a [y])->y.d=.bl k->DTs (cCx X scope C s H fp pn) ρ ifs k)
  (h:ev Γ G (.comp is elt' it' c') (j7 ρ)=a5 (.v r)):∃l,r=.o l/\DO X ρ (.ListComp elt [⟨tg,it,ifs,0⟩] scope p) l:=by
 obtain⟨l,ρf,ds,pr,g,er,el,hf,hi,hun,hz,hb'⟩:=Yc hit hb he hc h;refine⟨l,er,?_⟩;have main:DO X ρf (.ListComp elt [⟨tg,it,ifs,0⟩] scope p) ((ds.filter pr).map g):=DO.comp is _ _ hi hb' hun hz hq hkind hok hs;rw[<-el]at main;rcases hf with e|⟨hn,i,a,l',hk,e⟩
 .subst e;exact main
 .subst e;exact DO.unfrz hk main hn
end
section
variable{X:Cx}{ρ:Rho}{a b e:ah}{es:List ah}{d:D}{pos p:aN}
theorem Has.map(h:∀σ H Q,Jf X a σ H Q->Jf X e σ H Q):∀{r:Rk},Has X ρ a r->Has X ρ e r
 |.e _,q=>λσ H Q R z=>h σ H Q (q σ H Q R z)
 |.o _,q=>λσ H Q R z=>h σ H Q (q σ H Q R z)
 |.w _,q=>λσ H Q R z=>h σ H Q (q σ H Q R z)
 |.t _,q=>λσ H Q R z=>h σ H Q (q σ H Q R z)
theorem Has.bl{r:Rk}{k:Bool}(h:Has X ρ a r)(e:r.d=.bl k):DE X ρ a (.bl k):=DT.toE (e▸h.toT)
theorem Vl{f:Bf}{rs:List Rk}{r:Rk}{p2:aN}{G:ag->Option D}(c:Cok X G)(hq:f=.min\/f=.all\/f=.sum\/f=.any\/f=.max->X.calm=a8)(hg:Gl X f.name)(h:W8 f rs=a5 r)(ha:HasA X ρ es rs):Has X ρ (.Call (.Name f.name p) es [] p2) r:=by
 have one:∀{x:Rk},HasA X ρ es [x]->∃e,es=[e]/\Has X ρ e x/\aa [e] X.env=[(a6,aG e X.env)]:=λ{x} h=>by cases h with|cons hs h t=>cases t;exact⟨_,rfl,h,hs⟩
 have two:∀{x y:Rk},HasA X ρ es [x,y]->∃e f,es=[e,f]/\Has X ρ e x/\Has X ρ f y/\aa [e,f] X.env=(a6,aG e X.env)::aa [f] X.env/\aa [f] X.env=[(a6,aG f X.env)]:=λ{x y} h=>by cases h with|cons hs h t=>cases t with|cons hs2 h2 t2=>cases t2;exact⟨_,_,rfl,h,h2,hs,hs2⟩
 unfold W8 at h;split at h
 .rename_i x;obtain⟨e,ee,hx,hs⟩:=one ha;subst ee;split at h
  .rename_i l el;cases h;exact DE.lenL (el▸hx.toT) (c.bt _ (by decide)) hg hs
  .rename_i l el;cases h;exact DE.lenT (el▸hx.toT) (c.bt _ (by decide)) hg hs
  .rename_i y el;obtain⟨z,q⟩:=jo h;subst q;exact DE.lenS (el▸hx.toT) (qp z) (c.bt _ (by decide)) hg hs
  .cases h
 .rename_i x y;obtain⟨e,f,ee,hx,hy,hs,hs2⟩:=two ha;subst ee;split at h
  .rename_i i j ei ej;cases h;exact DE.min (ei▸hx.toT) (ej▸hy.toT) (c.bt _ (by decide)) (hq (.inl rfl)) hg hs hs2 (by rw[hs2];rfl)
  .cases h
 .rename_i x y;obtain⟨e,f,ee,hx,hy,hs,hs2⟩:=two ha;subst ee;split at h
  .rename_i i j ei ej;cases h;exact DE.max2 (ei▸hx.toT) (ej▸hy.toT) (c.bt _ (by decide)) (hq (.inr (.inr (.inr (.inr rfl))))) hg hs hs2 (by rw[hs2];rfl)
  .cases h
 .rename_i x;obtain⟨e,ee,hx,hs⟩:=one ha;subst ee;split at h
  .rename_i l el;split at h
   .rename_i ns en;obtain⟨z,q⟩:=jo h;cases q;have:=J2 en;subst this;exact DE.maxL (el▸hx.toT) (λz'=>by subst z';simp at z) (c.bt _ (by decide)) (hq (.inr (.inr (.inr (.inr rfl))))) hg hs
   .cases h
  .cases h
 .rename_i x;obtain⟨e,ee,hx,hs⟩:=one ha;subst ee;split at h
  .rename_i l el;split at h
   .rename_i ns en;obtain⟨z,q⟩:=jo h;cases q;have:=J2 en;subst this;exact DE.minL (el▸hx.toT) (λz'=>by subst z';simp at z) (c.bt _ (by decide)) (hq (.inl rfl)) hg hs
   .cases h
  .cases h
 .rename_i x;obtain⟨e,ee,hx,hs⟩:=one ha;subst ee;split at h
  .rename_i l el;cases q:boolsOf l with
   |none=>rw[q]at h;cases h
   |some bs =>rw[q]at h;cases h;have:=Zx q;subst this;exact DE.all (el▸hx.toT) (c.bt _ (by decide)) (hq (.inr (.inl rfl))) hg hs
  .cases h
 .rename_i x;obtain⟨e,ee,hx,hs⟩:=one ha;subst ee;split at h
  .rename_i l el;cases q:boolsOf l with
   |none=>rw[q]at h;cases h
   |some bs =>rw[q]at h;cases h;have:=Zx q;subst this;exact DE.any (el▸hx.toT) (c.bt _ (by decide)) (hq (.inr (.inr (.inr (.inl rfl))))) hg hs
  .cases h
 .rename_i x;obtain⟨e,ee,hx,hs⟩:=one ha;subst ee;split at h
  .rename_i s l el;cases h;exact DE.tupM (hx.toM el) (c.bt _ (by decide)) hg hs
  .cases h
 .rename_i x;obtain⟨e,ee,hx,hs⟩:=one ha;subst ee;split at h
  .rename_i s l el;cases h;exact DO.listM (hx.toM el) (c.bt _ (by decide)) hg hs
  .cases h
 .rename_i x;obtain⟨e,ee,hx,hs⟩:=one ha;subst ee;split at h
  .rename_i l el;cases q:intsOf l with
   |none=>rw[q]at h;cases h
   |some ns =>rw[q]at h;cases h;have:=J2 q;subst this;exact DE.sum a8 (show DT X ρ e (.lst (ns.map D.int))from el▸hx.toT) (c.bt _ (by decide)) (hq (.inr (.inr (.inl rfl)))) hg hs
  .rename_i l el;cases q:intsOf l with
   |none=>rw[q]at h;cases h
   |some ns =>rw[q]at h;cases h;have:=J2 q;subst this;exact DE.sum a6 (show DT X ρ e (.tup (ns.map D.int))from el▸hx.toT) (c.bt _ (by decide)) (hq (.inr (.inr (.inl rfl)))) hg hs
  .cases h
 .rename_i x;obtain⟨e,ee,hx,hs⟩:=one ha;subst ee;split at h
  .rename_i k el;cases h;exact DE.int1 (el▸hx.toT) (c.bt _ (by decide)) hg hs
  .rename_i y el;split at h
   .rename_i hl;obtain⟨n,hn,rfl⟩:=Xx.mp h;exact DE.intS (el▸hx.toT) hn hl (c.bt _ (by decide)) hg hs
   .cases h
  .cases h
 .cases h
end
section
variable{Γ:ag->List D->Rc}{G:ag->Option D}{X:Cx}
theorem j3a{d:D}{ns:List Int}(h:tupI d=a5 ns):d=.tup (ns.map D.int):=by
 unfold tupI at h;split at h
 .rw[J2 h]
 .cases h
theorem M4:∀{l:List D}{ks:List (List Int)},Qt l=a5 ks->l=ks.map λk=>D.tup (k.map D.int)
 |[],ks,h=>by cases h;rfl
 |d::l,ks,h=>by
  unfold Qt at h;split at h
  .rename_i k ks' e1 e2;cases h;rw[j3a e1,M4 e2];rfl
  .cases h
theorem Dk {ρ:Rho} {f:ag} {e:ah} {es:List ah} {rs:List Rk} {r:Rk} {p p2:aN} (g:Gok X Γ) (hg:Gl X f) (hdb:(f==k4r)=a6) (he:aa (e::es) X.env=(a6,aG e X.env)::aa es X.env)
  (hpl:(aS p2 (aa es X.env)).any (·.1)=a6) (ha:HasA X ρ (e::es) rs)
  (h:(match za rs with|some ds=>(Γ f ds).rk.map W.v|none=>match Γ f (rs.map Rk.d)with|.val d=>a5 (.v (.t d))|.fresh l=>if ju l=a8 then a5 (.v (.o l))else a7|_=>a7)=a5 (.v r)):Has X ρ (.Call (.Name f p) (e::es) [] p2) r:=by
 split at h
 .rename_i ds hds;have q:=g f ds;cases z:Γ f ds with
  |val d=>rw[z]at h q;cases h;exact DE.call q (ha.toA hds) ⟨rfl,rfl⟩ hg hdb he hpl
  |fresh l=>rw[z]at h q;cases h;exact DO.call q (ha.toA hds) ⟨rfl,rfl⟩ hg hdb he hpl
  |err x=>rw[z]at h;cases h
  |lval d=>rw[z]at h;cases h
  |mval d k=>rw[z]at h;cases h
  |merr x=>rw[z]at h;cases h
  |no=>rw[z]at h;cases h
 .have q:=g f (rs.map Rk.d);split at h
  .rename_i d z;rw[z]at q;cases h;exact DT.call q ha.toT ⟨rfl,rfl⟩ hg hdb he hpl
  .rename_i l z;rw[z]at q;obtain⟨hn,e1⟩:=jo h;cases e1;exact DO.callT q ha.toT ⟨rfl,rfl⟩ hn hg hdb he hpl
  .cases h
end
def XM(X:Cx)(ρ:Rho)(y:ag):Nd->Prop
 |.e e=>DX X ρ e y
 |.a es=>DXA X ρ es y
 |_=>True
structure Tr(X:Cx)(t:Ex)(nd:Nd):Prop where
 m:∀(Γ:ag->List D->Rc)(G:ag->Option D),Cok X G->Gok X Γ->j99 Γ G X t nd
 x:∀(Γ:ag->List D->Rc)(G:ag->Option D),Cok X G->Gok X Γ->∀ρ y,er Γ G t (j7 ρ)=a5 y->XM X ρ y nd
theorem Tr.int:∀{X:Cx}{i:Int}{n:Nat}{p:aN},Tr X (.lit (.int i)) (.e (.Constant (.int i) n p)):=by intro _ _ _ _;refine⟨λΓ G=>?_,λ_ _ _ _ _ _ h=>nomatch h⟩;intro _ _ ρ r h;simp only[Rx]at h;cases h;exact DE.int
theorem Tr.bl:∀{X:Cx}{b:Bool}{n:Nat}{p:aN},Tr X (.lit (.bl b)) (.e (.Constant (.bool b) n p)):=by intro _ _ _ _;refine⟨λΓ G=>?_,λ_ _ _ _ _ _ h=>nomatch h⟩;intro _ _ ρ r h;simp only[Rx]at h;cases h;exact DE.bl
theorem Tr.str:∀{X:Cx}{y:ag}{n:Nat}{p:aN},Tr X (.lit (.str y)) (.e (.Constant (.str y) n p)):=by intro _ _ _ _;refine⟨λΓ G=>?_,λ_ _ _ _ _ _ h=>nomatch h⟩;intro _ _ ρ r h;simp only[Rx]at h;cases h;exact DE.str
theorem Tr.var:∀{X:Cx}{k:Nat}{x:ag}{p:aN}(hN:X.N[k]?=a5 x) (hv:Vis X.env.scope x) (hd:(x==k4r)=a6) (hcd:(x==k4s)=a6),Tr X (.var k) (.e (.Name x p)):=by
 intro _ _ _ _ hN hv hd hcd;refine⟨λΓ G=>?_,λ_ _ _ _ _ _ h=>nomatch h⟩;intro _ _ ρ r h;simp only[jb4,Uq]at h;split at h
 .rename_i e;cases h;exact DE.var _ (Yw e) hN hv hd hcd
 .rename_i e;cases h;obtain⟨a,q⟩:=J5 e;exact DL.var _ q hN hv hd hcd
 .cases h
theorem Tr.glob:∀{X:Cx}{x:ag}{p:aN}(hg:Gl X x)(hd:(x==k4r)=a6) (hb:Q8 x=a6),Tr X (.glob x) (.e (.Name x p)):=by
 intro _ _ _ hg hd hb;refine⟨λΓ G=>?_,λ_ _ _ _ _ _ h=>nomatch h⟩;rename_i X x p;intro c _ ρ r h;simp only[j91]at h;cases e:G x with
 |none=>rw[e]at h;cases h
 |some d=>rw[e]at h;cases h;obtain⟨u,v,hm,r,q⟩:=c.gl x d hb e;exact DE.glob hg hm r q hd
theorem Tr.bin:∀{X:Cx}{op:Bop}{a' b':Ex}{a b:ah}{p:aN},Tr X a' (.e a)->Tr X b' (.e b)->Tr X (.bin op a' b') (.e (.BinOp a op.op b p)):=by
 intro _ _ _ _ _ _ _ q0 q1;refine⟨λΓ G=>?_,λ_ _ _ _ _ _ h=>nomatch h⟩;have iha:=q0.m Γ G;have ihb:=q1.m Γ G;intro c g ρ r h;simp only[jbd,Jp]at h;split at h
 .rename_i x y ex ey;cases e:Zy _ x y with
  |none=>rw[e]at h;cases h
  |some z=>rw[e]at h;cases h;exact Ec e (iha c g ρ x ex) (ihb c g ρ y ey)
 .cases h
theorem Tr.neg:∀{X:Cx}{a':Ex}{a:ah}{p:aN},Tr X a' (.e a)->Tr X (.neg a') (.e (.UnaryOp .USub a p)):=by
 intro _ _ _ _ q0;refine⟨λΓ G=>?_,λ_ _ _ _ _ _ h=>nomatch h⟩;have iha:=q0.m Γ G;intro c g ρ r h;simp only[jb9,Mt]at h;split at h
 .rename_i x ex;split at h
  .rename_i i e;cases h;exact DE.neg (e▸(iha c g ρ x ex).toT)
  .cases h
 .cases h
theorem Tr.cmp:∀{X:Cx}{op:Cop}{a' b':Ex}{a b:ah}{p:aN}(hm:aJ op.op b=a6),Tr X a' (.e a)->Tr X b' (.e b)->Tr X (.cmp op a' b') (.e (.Compare a [op.op] [b] p)):=by
 intro _ _ _ _ _ _ _ hm q0 q1;refine⟨λΓ G=>?_,λ_ _ _ _ _ _ h=>nomatch h⟩;have iha:=q0.m Γ G;have ihb:=q1.m Γ G;intro c g ρ r h;simp only[j31,W7]at h;split at h
 .rename_i x y ex ey;cases e:vp _ x.d y.d with
  |none=>rw[e]at h;cases h
  |some z=>rw[e]at h;cases h;exact(Ww c.un' e (iha c g ρ x ex).toT (ihb c g ρ y ey).toT hm).1
 .cases h
theorem Tr.bcmp:∀{X:Cx}{op:Cop}{a' b':Ex}{a b:ah}{p:aN}(hm:aJ op.op b=a6),Tr X a' (.e a)->Tr X b' (.e b)->Tr X (.cmp op a' b') (.b (.Compare a [op.op] [b] p)):=by
 intro _ _ _ _ _ _ _ hm q0 q1;refine⟨λΓ G=>?_,λ_ _ _ _ _ _ _=>trivial⟩;have iha:=q0.m Γ G;have ihb:=q1.m Γ G;intro c g ρ k h;obtain⟨r,h,hk⟩:=vz h;simp only[j31,W7]at h;split at h
 .rename_i x y ex ey;cases e:vp _ x.d y.d with
  |none=>rw[e]at h;cases h
  |some z=>rw[e]at h;cases h;cases hk;exact(Ww c.un' e (iha c g ρ x ex).toT (ihb c g ρ y ey).toT hm).2
 .cases h
theorem Tr.isN:∀{X:Cx}{a':Ex}{a:ah}{n:Nat}{p p2:aN},Tr X a' (.e a)->Tr X (.isN a') (.e (.Compare a [.Is] [.Constant .none n p2] p)):=by
 intro _ _ _ _ _ _ q0;refine⟨λΓ G=>?_,λ_ _ _ _ _ _ h=>nomatch h⟩;have iha:=q0.m Γ G;intro c g ρ r h;simp only[j30]at h;split at h
 .rename_i x ex;cases h;exact DE.isN (iha c g ρ x ex).toT
 .cases h
theorem Tr.bisN:∀{X:Cx}{a':Ex}{a:ah}{n:Nat}{p p2:aN},Tr X a' (.e a)->Tr X (.isN a') (.b (.Compare a [.Is] [.Constant .none n p2] p)):=by
 intro _ _ _ _ _ _ q0;refine⟨λΓ G=>?_,λ_ _ _ _ _ _ _=>trivial⟩;have iha:=q0.m Γ G;intro c g ρ k h;obtain⟨r,h,hk⟩:=vz h;simp only[j30]at h;split at h
 .rename_i x ex;cases h;cases hk;exact DB.isN (iha c g ρ x ex).toT
 .cases h
theorem Tr.one:∀{X:Cx}{a':Ex}{a:ah}{op:BoolOp}{p:aN},Tr X a' (.e a)->Tr X a' (.e (.BoolOp op [a] p)):=by intro _ _ _ _ _ q0;refine⟨λΓ G=>?_,λΓ G c g ρ y h σ H Q R k=>(Lp peS).to (q0.x Γ G c g ρ y h σ H Q R k)⟩;have iha:=q0.m Γ G;intro c g ρ r h;exact Has.map (λσ H Q q=>(Lp peS).to q) (iha c g ρ r h)
theorem Tr.and:∀{X:Cx}{a' t':Ex}{a b:ah}{rest:List ah}{p:aN},Tr X a' (.e a)->Tr X t' (.e (.BoolOp .And (b::rest) p))->Tr X (.and a' t') (.e (.BoolOp .And (a::b::rest) p)):=by
 intro _ _ _ _ _ _ _ q0 q1;refine⟨λΓ G=>?_,λ_ _ _ _ _ _ h=>nomatch h⟩;have iha:=q0.m Γ G;have ihb:=q1.m Γ G;intro c g ρ r h;simp only[jbe]at h;split at h
 .rename_i e;cases h;obtain⟨x,ex,ed⟩:=vz e;exact(DE.and (m:=a6) ((iha c g ρ x ex).bl ed).toT λz=>by cases z)
 .rename_i e;obtain⟨x,ex,ed⟩:=vz e;cases e2:truth (ev Γ G _ (j7 ρ)) with
  |none=>rw[e2]at h;cases h
  |some k =>rw[e2]at h;cases h;obtain⟨y,ey,fd⟩:=vz e2;exact(DE.and ((iha c g ρ x ex).bl ed).toT λ_=>(ihb c g ρ y ey).bl fd).eq (by simp)
 .cases h
theorem Tr.wor1:∀{X:Cx}{a':Ex}{a:ah}{p:aN},Tr X a' (.b a)->Tr X a' (.w (.BoolOp .Or [a] p)):=by intro _ _ _ _ q0;refine⟨λΓ G=>?_,λ_ _ _ _ _ _ _=>trivial⟩;have iha:=q0.m Γ G;intro c g ρ k h;exact DW.or1 (iha c g ρ k h)
theorem Tr.wor:∀{X:Cx}{a' t':Ex}{a b:ah}{rest:List ah}{p:aN},Tr X a' (.b a)->Tr X t' (.w (.BoolOp .Or (b::rest) p))->Tr X (.or a' t') (.w (.BoolOp .Or (a::b::rest) p)):=by
 intro _ _ _ _ _ _ _ q0 q1;refine⟨λΓ G=>?_,λ_ _ _ _ _ _ _=>trivial⟩;have iha:=q0.m Γ G;have ihb:=q1.m Γ G;intro c g ρ k h;obtain⟨r,h,hk⟩:=vz h;simp only[jcw]at h;split at h
 .rename_i e;cases h;cases hk;exact DW.or (m:=a6) (iha c g ρ a8 e) λz=>by cases z
 .rename_i e;cases e2:truth (ev Γ G _ (j7 ρ)) with
  |none=>rw[e2]at h;cases h
  |some m =>rw[e2]at h;cases h;cases hk;have q:=DW.or (iha c g ρ a6 e) λ_=>ihb c g ρ _ e2;rw[f9]at q;exact q
 .cases h
theorem Tr.bw:∀{X:Cx}{a':Ex}{op:BoolOp}{es:List ah}{p:aN},Tr X a' (.w (.BoolOp op es p))->Tr X a' (.b (.BoolOp op es p)):=by intro _ _ _ _ _ q0;refine⟨λΓ G=>?_,λ_ _ _ _ _ _ _=>trivial⟩;have iha:=q0.m Γ G;intro c g ρ k h;exact DW.toB (iha c g ρ k h)
theorem Tr.bnot:∀{X:Cx}{a':Ex}{a:ah}{p:aN},Tr X a' (.b a)->Tr X (.not a') (.b (.UnaryOp .Not a p)):=by
 intro _ _ _ _ q0;refine⟨λΓ G=>?_,λ_ _ _ _ _ _ _=>trivial⟩;have iha:=q0.m Γ G;intro c g ρ k h;obtain⟨r,h,hk⟩:=vz h;simp only[jb8]at h;cases e:truth (ev Γ G _ (j7 ρ)) with
 |none=>rw[e]at h;cases h
 |some m=>rw[e]at h;cases h;cases hk;exact DB.not (iha c g ρ m e)
theorem Tr.bval:∀{X:Cx}{a':Ex}{a:ah}(he:∀whole,dU a X.env whole=(do let v <-whole;i3 a.pos;i5 [v] (truthy v))),Tr X a' (.e a)->Tr X a' (.b a):=by intro _ _ _ he q0;refine⟨λΓ G=>?_,λ_ _ _ _ _ _ _=>trivial⟩;have iha:=q0.m Γ G;intro c g ρ k h;obtain⟨r,h,hk⟩:=vz h;exact DB.val ((iha c g ρ r h).bl hk).toT he
theorem Tr.ite:∀{X:Cx}{c' a' b':Ex}{c a b:ah}{p:aN},Tr X c' (.b c)->Tr X a' (.e a)->Tr X b' (.e b)->Tr X (.ite c' a' b') (.e (.IfExp c a b p)):=by
 intro _ _ _ _ _ _ _ _ q0 q1 q2;refine⟨λΓ G=>?_,λ_ _ _ _ _ _ h=>nomatch h⟩;have ihc:=q0.m Γ G;have iha:=q1.m Γ G;have ihb:=q2.m Γ G;intro c g ρ r h;simp only[jbb]at h;split at h
 .rename_i e;split at h
  .rename_i x ex;cases es:x.st with
   |none=>rw[es]at h;cases h
   |some d=>rw[es]at h;cases h;exact(DE.ite (d':=d) (ihc c g ρ a8 e) (λ_=>(iha c g ρ x ex).toE es) λz=>by cases z).eq (by simp)
  .cases h
 .rename_i e;split at h
  .rename_i x ex;cases es:x.st with
   |none=>rw[es]at h;cases h
   |some d=>rw[es]at h;cases h;exact(DE.ite (d:=d) (ihc c g ρ a6 e) (λz=>by cases z) λ_=>(ihb c g ρ x ex).toE es).eq (by simp)
  .cases h
 .cases h
theorem Tr.nil:∀{X:Cx},Tr X .nil (.a []):=by intro _;refine⟨λΓ G=>?_,λ_ _ _ _ _ _ h=>nomatch h⟩;intro c g ρ rs h;simp only[V4]at h;cases h;exact .nil
theorem Tr.cons:∀{X:Cx}{a' b':Ex}{a:ah}{es:List ah}(hs:aa (a::es) X.env=(a6,aG a X.env)::aa es X.env),Tr X a' (.e a)->Tr X b' (.a es)->Tr X (.cons a' b') (.a (a::es)):=by
 intro _ _ _ _ _ hs q0 q1;refine⟨λΓ G=>?_,λΓ G=>?_⟩
 .have iha:=q0.m Γ G;have ihb:=q1.m Γ G;intro c g ρ rs h;simp only[Zh,consW]at h;split at h
  .rename_i x xs ex exs;cases h;exact .cons hs (iha c g ρ x ex) (ihb c g ρ xs exs)
  .cases h
 .skip
  intro c g ρ y h;rw[er]at h;split at h
  .rename_i x ex;cases h;exact DXA.head (q0.x Γ G c g ρ _ ex) hs
  split at h
  .rename_i r ez;exact DXA.tail (q0.m Γ G c g ρ r ez).toT (q1.x Γ G c g ρ y h) hs
  .cases h
theorem Tr.tup:∀{X:Cx}{es':Ex}{es:List ah}{n:Nat}{p:aN},Tr X es' (.a es)->Tr X (.tup es') (.e (.Tuple es n p)):=by
 intro _ _ _ _ _ q0;refine⟨λΓ G=>?_,λ_ _ _ _ _ _ h=>nomatch h⟩;have iha:=q0.m Γ G;intro c g ρ r h;simp only[jb5,Zi]at h;split at h
 .rename_i rs ers;split at h
  .rename_i ds hds;obtain⟨z,q⟩:=jo h;cases q;exact DE.tup (n:=0) ((iha c g ρ rs ers).toA hds) (qp z)
  .cases h
 .cases h
theorem Tr.lst:∀{X:Cx}{es':Ex}{es:List ah}{p:aN},Tr X es' (.a es)->Tr X (.lst es') (.e (.List es p)):=by
 intro _ _ _ _ q0;refine⟨λΓ G=>?_,λ_ _ _ _ _ _ h=>nomatch h⟩;have iha:=q0.m Γ G;intro c g ρ r h;simp only[jba,Js]at h;split at h
 .rename_i rs ers;split at h
  .rename_i ds hds;obtain⟨z,q⟩:=jo h;cases q;exact DO.lst ((iha c g ρ rs ers).toA hds) (qp z)
  .cases h
 .cases h
theorem Tr.ix:∀{X:Cx}{a' b':Ex}{a b:ah}{p:aN}(hs:Y0 b),Tr X a' (.e a)->Tr X b' (.e b)->Tr X (.ix a' b') (.e (.Subscript a b p)):=by
 intro _ _ _ _ _ _ hs q0 q1;refine⟨λΓ G=>?_,λΓ G c g ρ y h σ H Q R k=>(Rq Kd peS peS hs).to (q0.x Γ G c g ρ y (by rw[er]at h;exact h) σ H _ R k)⟩;have iha:=q0.m Γ G;have ihb:=q1.m Γ G;intro c g ρ r h;simp only[jcx,ixW]at h;split at h
 .rename_i x y ex ey;split at h
  .rename_i s l i hx hy;cases z:atI l i with
   |none=>rw[z]at h;cases h
   |some d=>rw[z]at h;cases h;exact DE.ixM ((iha c g ρ x ex).toM hx) (hy▸(ihb c g ρ y ey).toT) z hs
  .rename_i i hx hy;split at h
   .rename_i y' ed;split at h
    .rename_i hl;cases z:atI y'.cps.toList i with
     |none=>rw[z]at h;cases h
     |some d=>rw[z]at h;cases h;exact DE.ixC (ed▸(iha c g ρ x ex).toT) (hy▸(ihb c g ρ y ey).toT) (qp hl) z hs
    .cases h
   .cases h
  .cases h
 .cases h
theorem Tr.oN:∀{X:Cx},Tr X .nil (.o a7):=by intro _;refine⟨λΓ G=>?_,λ_ _ _ _ _ _ _=>trivial⟩;intro c g ρ o h;simp only[V4,J4]at h;cases h;exact DP.none
theorem Tr.oS:∀{X:Cx}{a':Ex}{a:ah},Tr X a' (.e a)->Tr X (.cons a' .nil) (.o (a5 a)):=by
 intro _ _ _ q0;refine⟨λΓ G=>?_,λ_ _ _ _ _ _ _=>trivial⟩;have iha:=q0.m Γ G;intro c g ρ o h;simp only[Zh,V4,consW]at h;split at h
 .rename_i x xs ex exs;cases exs;simp only[J4]at h;split at h
  .rename_i i ei;cases h;exact DP.some (ei▸(iha c g ρ x ex).toT)
  .cases h
 .cases h
theorem Tr.sl:∀{X:Cx}{a' l' h':Ex}{a:ah}{lo hi:Option ah}{p p2:aN},Tr X a' (.e a)->Tr X l' (.o lo)->Tr X h' (.o hi)->Tr X (.sl a' l' h') (.e (.Subscript a (.Slice lo hi a7 p2) p)):=by
 intro _ _ _ _ _ _ _ _ _ q0 q1 q2;refine⟨λΓ G=>?_,λ_ _ _ _ _ _ h=>nomatch h⟩;have iha:=q0.m Γ G;have ihl:=q1.m Γ G;have ihh:=q2.m Γ G;intro c g ρ r h;simp only[jcv]at h;split at h
 .rename_i x l hh ex el eh;split at h
  .rename_i ds e;cases h;exact DO.sliceM ((iha c g ρ x ex).toM e) (ihl c g ρ l el) (ihh c g ρ hh eh)
  .rename_i ds e;split at h
   .cases h
   .rename_i z;cases h;exact DE.sliceM ((iha c g ρ x ex).toM e) (ihl c g ρ l el) (ihh c g ρ hh eh) z
  .split at h
   .rename_i y' ed;obtain⟨z,q⟩:=jo h;cases q;exact DE.sliceS (ed▸(iha c g ρ x ex).toT) (ihl c g ρ l el) (ihh c g ρ hh eh) (qp z)
   .cases h
 .cases h
theorem Tr.call:∀{X:Cx}{f:ag}{es':Ex}{e:ah}{es:List ah}{p p2:aN}(hg:Gl X f) (hdb:(f==k4r)=a6) (he:aa (e::es) X.env=(a6,aG e X.env)::aa es X.env) (hpl:(aS p2 (aa es X.env)).any (·.1)=a6),Tr X es' (.a (e::es))->Tr X (.call f es') (.e (.Call (.Name f p) (e::es) [] p2)):=by
 intro _ f _ _ _ _ _ hg hdb he hpl q0;refine⟨λΓ G=>?_,λΓ G=>?_⟩
 .have iha:=q0.m Γ G;intro c g ρ r h;simp only[j93,Q4]at h;split at h
  .rename_i rs ers;exact Dk g hg hdb he hpl (iha c g ρ rs ers) h
  .cases h
 .skip
  intro c g ρ y h;rw[er]at h;split at h
  .rename_i x ex;split at h
   .rename_i hz;cases h;obtain⟨d,hd⟩:=Xf.mp hz;obtain⟨fa,hfa,hk⟩:=c.fn _ d hd;exact DX.args (q0.x Γ G c g ρ _ ex) hg hdb hfa hk he hpl
   .cases h
  split at h
  .rename_i rs ers;split at h
   .rename_i z ez;split at h
    .rename_i hz;cases h;have q:=g f (rs.map Rk.d);rw[ez]at q;obtain⟨d,hd⟩:=Xf.mp hz;obtain⟨_,o,ho⟩:=c.ec _ d hd;exact DX.call q (q0.m Γ G c g ρ rs ers).toT ⟨rfl,rfl⟩ (W.mg_of c.kin c.ns ho) hg hdb he hpl
    .cases h
   .cases h
  .cases h
theorem Tr.len:∀{X:Cx}{es':Ex}{e:ah}{p p2:aN}(hg:Gl X "len"),Tr X es' (.a [e])->Tr X (.blt .len es') (.e (.Call (.Name "len" p) [e] [] p2)):=by
 intro _ _ _ _ _ hg q0;refine⟨λΓ G=>?_,λ_ _ _ _ _ _ h=>nomatch h⟩;have iha:=q0.m Γ G;intro c g ρ r h;simp only[Dr,Qp]at h;split at h
 .rename_i rs ers;cases e:W8 _ rs with
  |none=>rw[e]at h;cases h
  |some x=>rw[e]at h;cases h;exact Vl (f:=.len) c (λz=>by rcases z with z|z|z|z|z<;>cases z) hg e (iha c g ρ rs ers)
 .cases h
theorem Tr.tuple:∀{X:Cx}{es':Ex}{e:ah}{p p2:aN}(hg:Gl X "tuple"),Tr X es' (.a [e])->Tr X (.blt .tuple es') (.e (.Call (.Name "tuple" p) [e] [] p2)):=by
 intro _ _ _ _ _ hg q0;refine⟨λΓ G=>?_,λ_ _ _ _ _ _ h=>nomatch h⟩;have iha:=q0.m Γ G;intro c g ρ r h;simp only[Dr,Qp]at h;split at h
 .rename_i rs ers;cases e:W8 _ rs with
  |none=>rw[e]at h;cases h
  |some x=>rw[e]at h;cases h;exact Vl (f:=.tuple) c (λz=>by rcases z with z|z|z|z|z<;>cases z) hg e (iha c g ρ rs ers)
 .cases h
theorem Tr.min:∀{X:Cx}{es':Ex}{e f:ah}{p p2:aN}(hq:X.calm=a8)(hg:Gl X "min"),Tr X es' (.a [e,f])->Tr X (.blt .min es') (.e (.Call (.Name "min" p) [e,f] [] p2)):=by
 intro _ _ _ _ _ _ hq hg q0;refine⟨λΓ G=>?_,λ_ _ _ _ _ _ h=>nomatch h⟩;have iha:=q0.m Γ G;intro c g ρ r h;simp only[Dr,Qp]at h;split at h
 .rename_i rs ers;cases e:W8 _ rs with
  |none=>rw[e]at h;cases h
  |some x=>rw[e]at h;cases h;exact Vl (f:=.min) c (λ_=>hq) hg e (iha c g ρ rs ers)
 .cases h
theorem Tr.srt:∀{X:Cx}{a':Ex}{a:ah}{p pos:aN}(hg:Gl X "sorted") (hs:aa [a] X.env=[(a6,aG a X.env)]),Tr X a' (.e a)->Tr X (.srt a') (.e (.Call (.Name "sorted" p) [a] [] pos)):=by
 intro _ _ _ _ _ hg hs q0;refine⟨λΓ G=>?_,λ_ _ _ _ _ _ h=>nomatch h⟩;have iha:=q0.m Γ G;intro c g ρ r h;simp only[jb6,Us]at h;split at h
 .rename_i x ex;split at h
  .rename_i l el;split at h
   .rename_i ks ek;cases e:V8 ks with
    |none=>rw[e]at h;cases h
    |some S =>rw[e]at h;cases h;exact DO.sortedT e (c.bt _ (by decide)) hg (by have z:=(iha c g ρ x ex).toT;rw[el,M4 ek]at z;exact z) hs
   .cases h
  .cases h
 .cases h
theorem Tr.isi1:∀{X:Cx}{a':Ex}{a:ah}{T:ag}{c:String}{p p1 p2:aN}(hT:T∈Jq) (hv:aU T=a5 (.type c)) (hg:Gl X "isinstance") (hg2:Gl X T) (hn:T ≠ "__name__") (hd:(T==k4r)=a6) (hs:aa [a,.Name T p1] X.env=(a6,aG a X.env)::aa [.Name T p1] X.env),Tr X a' (.e a)->Tr X (.isi a' [c]) (.e (.Call (.Name "isinstance" p) [a,.Name T p1] [] p2)):=by
 intro _ _ _ _ _ _ _ _ hT hv hg hg2 hn hd hs q0;refine⟨λΓ G=>?_,λ_ _ _ _ _ _ h=>nomatch h⟩;have iha:=q0.m Γ G;intro c g ρ r h;simp only[j2z,W0]at h;split at h
 .rename_i x ex;cases e:jq x.d _ with
  |none=>rw[e]at h;cases h
  |some k =>
   rw[e]at h;cases h;refine DE.isi1 (iha c g ρ x ex).toT (N8 e) (c.bt _ (by decide)) (c.bt _ hT) hv ?_ hg hg2 hn hd hs rfl rfl;simp only[jq]at e;split at e
   .rename_i k1 k2 e1 e2;cases e2;cases e;rw[dt];exact N6 e1
   .cases e
 .cases h
theorem Tr.isi2:∀{X:Cx}{a':Ex}{a:ah}{T U:ag}{c d:String}{n:Nat}{p p1 p2 p3 p4:aN} (hT:T∈Jq) (hU:U∈Jq) (hv:aU T=a5 (.type c)) (hw:aU U=a5 (.type d)) (hg:Gl X "isinstance") (hg1:Gl X T) (hg2:Gl X U) (hn:T ≠ "__name__") (hd:(T==k4r)=a6) (hn2:U ≠ "__name__") (hd2:(U==k4r)=a6) (hs:aa [a,.Tuple [.Name T p1,.Name U p3] n p4] X.env=(a6,aG a X.env)::aa [.Tuple [.Name T p1,.Name U p3] n p4] X.env),Tr X a' (.e a)->Tr X (.isi a' [c,d]) (.e (.Call (.Name "isinstance" p) [a,.Tuple [.Name T p1,.Name U p3] n p4] [] p2)):=by
 intro _ _ _ _ _ _ _ _ _ _ _ _ _ hT hU hv hw hg hg1 hg2 hn hd hn2 hd2 hs q0;refine⟨λΓ G=>?_,λ_ _ _ _ _ _ h=>nomatch h⟩;have iha:=q0.m Γ G;intro c g ρ r h;simp only[j2z,W0]at h;split at h
 .rename_i x ex;cases e:jq x.d _ with
  |none=>rw[e]at h;cases h
  |some k =>rw[e]at h;cases h;exact DE.isi2 (iha c g ρ x ex).toT (N8 e) (c.bt _ (by decide)) (c.bt _ hT) (c.bt _ hU) hv hw (O1 e) hg hg1 hg2 hn hd hn2 hd2 hs rfl rfl rfl rfl
 .cases h
theorem Tr.c0:∀{X:Cx},Tr X .nil (.c []):=by intro _;refine⟨λΓ G=>?_,λ_ _ _ _ _ _ _=>trivial⟩;intro c g ρ;exact⟨λ_=>DTs.nil,λy k h=>by simp only[V4]at h;cases h⟩
theorem Tr.c1:∀{X:Cx}{c':Ex}{c:ah},Tr X c' (.b c)->Tr X (.cons c' .nil) (.c [c]):=by
 intro _ _ _ q0;refine⟨λΓ G=>?_,λ_ _ _ _ _ _ _=>trivial⟩;have iha:=q0.m Γ G;intro c g ρ;refine⟨λh=>?_,λy k h hk=>DTs.one ?_⟩
 .simp only[Zh,V4,consW]at h;split at h<;>cases h
 .simp only[Zh,V4,consW]at h;split at h
  .rename_i x xs ex exs;cases exs;cases h;exact iha c g ρ k (by rw[ex];simp only[truth,hk])
  .cases h
theorem Tr.comp1:∀{X:Cx}{i:Nat}{y:ag}{py p:aN}{elt' it' c':Ex}{elt it:ah}{ifs:List ah} {scope:bg} (hq:X.calm=a8) (hi:X.N[i]?=a5 y) (hl:Vq scope y=a8) (hkind:scope.kind=.function) (hok:vd scope X.env X.N [i]=a8) (hs:∀x,aQ it X.env x=pure x),Tr X it' (.i (.Name y py) it)->(∀C s H fp pn,Tr (cCx X scope C s H fp pn) elt' (.e elt))->(∀C s H fp pn,Tr (cCx X scope C s H fp pn) c' (.c ifs))->Tr X (.comp [i] elt' it' c') (.e (.ListComp elt [⟨.Name y py,it,ifs,0⟩] scope p)):=by
 intro _ _ _ _ _ _ _ _ _ _ _ _ hq hi hl hkind hok hs q0 q1 q2;refine⟨λΓ G=>?_,λ_ _ _ _ _ _ h=>nomatch h⟩;have ihi:=q0.m Γ G;have ihe:=λC s H fp pn=>(q1 C s H fp pn).m Γ G;have ihc:=λC s H fp pn=>(q2 C s H fp pn).m Γ G;intro c g ρ r h;obtain⟨l,e,q⟩:=Dh hq c (λρ ds z=>ihi c g ρ ds z) hkind hok hs (λρ d ρ2 hb hun=>by
  simp only[zc]at hb
  cases hb
  have hu:=hun _ (xu.mpr rfl)
  exact⟨_,jz,Wk.set hu,Y7 hu,λC s H fp pn=>DG.name _ c.nd hi (Bk hl) (Cm hl)⟩)
  (λC s H fp pn ρ r z=>ihe C s H fp pn c.comp g.comp ρ r z) (λC s H fp pn ρ=>ihc C s H fp pn c.comp g.comp ρ) h
 subst e;exact q
theorem Tr.seq:∀{X:Cx}{a':Ex}{tg a:ah},Tr X a' (.e a)->Tr X (.seq a') (.i tg a):=by
 intro _ _ _ _ q0;refine⟨λΓ G=>?_,λ_ _ _ _ _ _ _=>trivial⟩;have iha:=q0.m Γ G;intro c g ρ ds h;simp only[jb7,Yk]at h;split at h
 .rename_i l e;cases h;exact DI.lst (iha c g ρ _ e)
 .rename_i l e;cases h;exact DI.tup (iha c g ρ _ e)
 .rename_i l e;cases h;exact DI.lst (DO.toE (iha c g ρ _ e))
 .rename_i y e;obtain⟨z,q⟩:=jo h;cases q;exact DI.str (iha c g ρ _ e).toT z
 .cases h
theorem Tr.range:∀{X:Cx}{es':Ex}{tg:ah}{es:List ah}{p p2:aN}(hg:Gl X "range"),Tr X es' (.a es)->Tr X (.range es') (.i tg (.Call (.Name "range" p) es [] p2)):=by
 intro _ _ _ _ _ _ hg q0;refine⟨λΓ G=>?_,λ_ _ _ _ _ _ _=>trivial⟩;have iha:=q0.m Γ G;intro c g ρ ds h;simp only[j5c,Vc]at h;split at h
 .rename_i x ex;have q:=iha c g ρ _ ex;cases q with|cons hs hx t =>
  cases t;split at h
  .rename_i n en;obtain⟨z,q⟩:=jo h;cases q;exact DI.range1 (en▸hx.toT) (c.bt _ (by decide)) z.1 z.2 hg hs
  .cases h
 .rename_i x y ex;have q:=iha c g ρ _ ex;cases q with|cons hs hx t =>
  cases t with|cons hs2 hy t2 =>
  cases t2;split at h
  .rename_i m n em en;obtain⟨z,q⟩:=jo h;cases q;exact DI.range2 (em▸hx.toT) (en▸hy.toT) (c.bt _ (by decide)) z.1 z.2.1 z.2.2.1 z.2.2.2 hg (by rw[hs,hs2];rfl) hs2 hs
  .cases h
 .cases h
theorem Tr.p0:∀{X:Cx},Tr X .nil (.p []):=by intro _;refine⟨λΓ G=>?_,λ_ _ _ _ _ _ _=>trivial⟩;intro c g ρ rs h;simp only[V4]at h;cases h;trivial
theorem Tr.pC:∀{X:Cx}{y:ag}{n:Nat}{p:aN}{b':Ex}{es:List ah},Tr X b' (.p es)->Tr X (.cons (.lit (.str y)) b') (.p (.Constant (.str y) n p::es)):=by
 intro _ _ _ _ _ _ q0;refine⟨λΓ G=>?_,λ_ _ _ _ _ _ _=>trivial⟩;have ihb:=q0.m Γ G;intro c g ρ rs h;simp only[Zh,Rx,consW]at h;split at h
 .rename_i x xs ex exs;cases h;cases ex;refine⟨λz hz=>?_,ihb c g ρ xs exs⟩;have hz:(if _ then a5 _ else a7)=a5 z:=hz;split at hz
  .cases hz;exact DE.str
  .cases hz
 .cases h
theorem Tr.pF:∀{X:Cx}{a' b':Ex}{a:ah}{p:aN}{es:List ah}(hq:X.calm=a8),Tr X a' (.e a)->Tr X b' (.p es)->Tr X (.cons a' b') (.p (.FormattedValue a (-1) a7 p::es)):=by
 intro _ _ _ _ _ _ hq q0 q1;refine⟨λΓ G=>?_,λ_ _ _ _ _ _ _=>trivial⟩;have iha:=q0.m Γ G;have ihb:=q1.m Γ G;intro c g ρ rs h;simp only[Zh,consW]at h;split at h
 .rename_i x xs ex exs;cases h;exact⟨λy hy=>DE.fmt (c.gd hq) c.un' (iha c g ρ x ex).toT hy,ihb c g ρ xs exs⟩
 .cases h
theorem Tr.fst:∀{X:Cx}{es':Ex}{a b:ah}{es:List ah}{p:aN},Tr X es' (.p (a::b::es))->Tr X (.fst es') (.e (.JoinedStr (a::b::es) p)):=by
 intro _ _ _ _ _ _ q0;refine⟨λΓ G=>?_,λ_ _ _ _ _ _ h=>nomatch h⟩;have ih:=q0.m Γ G;intro c g ρ r h;simp only[jbc,Ys]at h;split at h
 .rename_i rs ers;split at h
  .rename_i hl;cases e:z7 rs with
   |none=>rw[e]at h;cases h
   |some ys =>rw[e]at h;cases h;obtain⟨z1,z2⟩:=(ih c g ρ rs ers).all e;exact DE.joined z1 (Y4 e) (by rw[z2];exact hl)
  .cases h
 .cases h
theorem Tr.isxV:∀{X:Cx}{i:Nat}{y:ag}{p p1 p2 pos:aN}(hN:X.N[i]?=a5 y) (hv:Vis X.env.scope y) (hd:(y==k4r)=a6) (hcd:(y==k4s)=a6) (hg:Gl X "isinstance") (hg2:Gl X "ValueError") (hs:aa [.Name y p1,.Name "ValueError" p2] X.env=(a6,aG (.Name y p1) X.env)::aa [.Name "ValueError" p2] X.env),Tr X (.isx i ["ValueError"]) (.e (.Call (.Name "isinstance" p) [.Name y p1,.Name "ValueError" p2] [] pos)):=by
 intro _ _ _ _ _ _ _ hN hv hd hcd hg hg2 hs;refine⟨λΓ G=>?_,λ_ _ _ _ _ _ h=>nomatch h⟩;intro c g ρ r h;simp only[Dq]at h;split at h
 .rename_i x e1 e2;split at h
  .rename_i hx;cases h;obtain⟨a,o,q⟩:=Yx e1;exact DE.isxV c.ea (List.contains_iff_mem.mp hx) q (c.bt _ (by decide)) (c.bt _ (by decide)) hN hv hd hcd hg hg2 hs rfl rfl
  .cases h
 .cases h
theorem Tr.isx1:∀{X:Cx}{i:Nat}{y c:ag}{p p1 p2 pos:aN}(hc:c∈jh)(hcV:(c==("ValueError":ag))=a6) (hN:X.N[i]?=a5 y) (hv:Vis X.env.scope y) (hd:(y==k4r)=a6) (hcd:(y==k4s)=a6) (hg:Gl X "isinstance") (hg2:Gl X c) (hdb:(c==k4r)=a6) (hs:aa [.Name y p1,.Name c p2] X.env=(a6,aG (.Name y p1) X.env)::aa [.Name c p2] X.env),Tr X (.isx i [c]) (.e (.Call (.Name "isinstance" p) [.Name y p1,.Name c p2] [] pos)):=by
 intro _ _ _ _ _ _ _ _ hc hcV hN hv hd hcd hg hg2 hdb hs;refine⟨λΓ G=>?_,λ_ _ _ _ _ _ h=>nomatch h⟩;intro c g ρ r h;simp only[Dq]at h;split at h
 .rename_i x e1 e2;split at h
  .rename_i hx;cases h;obtain⟨a,o,q⟩:=Yx e1;obtain⟨v,hv1⟩:=c.el e2 _ hc;simp only[bZ,ic,hcV,f9,dt];exact DE.isx1 c.ea (List.contains_iff_mem.mp hx) q (c.bt _ (by decide)) hc hv1 (W.mg_of c.kin c.ns hv1) hN hv hd hcd hg hg2 hdb hs rfl rfl
  .cases h
 .cases h
theorem Tr.isx2:∀{X:Cx}{i:Nat}{y c1 c2:ag}{m:Nat}{p p1 p2 p3 p4 pos:aN}(hc1:c1∈jh)(hc2:c2∈jh) (hcV1:(c1==("ValueError":ag))=a6) (hcV2:(c2==("ValueError":ag))=a6) (hN:X.N[i]?=a5 y) (hv:Vis X.env.scope y) (hd:(y==k4r)=a6) (hcd:(y==k4s)=a6) (hg:Gl X "isinstance") (hg1:Gl X c1) (hg2:Gl X c2) (hdb1:(c1==k4r)=a6) (hdb2:(c2==k4r)=a6) (hs:aa [.Name y p1,.Tuple [.Name c1 p2,.Name c2 p3] m p4] X.env=(a6,aG (.Name y p1) X.env)::aa [.Tuple [.Name c1 p2,.Name c2 p3] m p4] X.env),Tr X (.isx i [c1,c2]) (.e (.Call (.Name "isinstance" p) [.Name y p1,.Tuple [.Name c1 p2,.Name c2 p3] m p4] [] pos)):=by
 intro _ _ _ _ _ _ _ _ _ _ _ _ hc1 hc2 hcV1 hcV2 hN hv hd hcd hg hg1 hg2 hdb1 hdb2 hs;refine⟨λΓ G=>?_,λ_ _ _ _ _ _ h=>nomatch h⟩;intro c g ρ r h;simp only[Dq]at h;split at h
 .rename_i x e1 e2;split at h
  .rename_i hx;cases h;obtain⟨a,o,q⟩:=Yx e1;obtain⟨v1,hv1⟩:=c.el e2 _ hc1;obtain⟨v2,hv2⟩:=c.el e2 _ hc2;simp only[bZ,ic,hcV1,hcV2,f9,dt];exact DE.isx2 c.ea (List.contains_iff_mem.mp hx) q (c.bt _ (by decide)) hc1 hc2 hv1 hv2 (W.mg_of c.kin c.ns hv1) (W.mg_of c.kin c.ns hv2) hN hv hd hcd hg hg1 hg2 hdb1 hdb2 hs rfl rfl rfl rfl
  .cases h
 .cases h
section
variable{Γ:ag->List D->Rc}{G:ag->Option D}{X:Cx}
theorem sound{t:Ex}{nd:Nd}(h:Tr X t nd):Cok X G->Gok X Γ->j99 Γ G X t nd:=h.m Γ G
theorem Ma{t:Ex}{nd:Nd}(h:Tr X t nd):Cok X G->Gok X Γ->∀ρ y,er Γ G t (j7 ρ)=a5 y->XM X ρ y nd:=h.x Γ G
end
inductive Px where
 |nop
 |set (i:Nat) (e:Ex) (r:Px)
 |keep (i:Nat) (r:Px)
 |ifRet (c e:Ex) (r:Px)
 |ifRai (c:Ex) (x:ag) (m:Ex) (r:Px)
 |ifCal (c:Ex) (f:ag) (es:Ex) (r:Px)
 |ret (e:Ex)
 |take (i:Nat) (r:Px)
 |takeE (r:Px)
 |takeIf (i:Nat) (c e:Ex) (r:Px)
 |callS (i:Nat) (f:ag) (es:Ex) (r:Px)
 |appC (i:Nat) (f:ag) (es:Ex) (r:Px)
 |whlA (y:ag) (b r:Px)
 |ifAll (x:ag) (m:Ex) (r:Px)
inductive Sx where
 |nop
 |seq (a b:Sx)
 |set (i:Nat) (e:Ex)
 |mov (i j:Nat)
 |expr (e:Ex)
 |ret (e:Ex)
 |retV (i:Nat)
 |ife (c:Ex) (a b:Sx)
 |loop (is:List Nat) (it:Ex) (body:Sx)
 |app (i:Nat) (e:Ex)
 |ext (i:Nat) (e:Ex)
 |fgt (i:Nat)
 |keep (i:Nat)
 |dcp (i j:Nat) (k e:Ex)
 |taken (h q:Nat) (a b c t:Ex)
 |unp (i j:Nat) (e:Ex)
 |unp3 (i j k:Nat) (e:Ex)
 |dmake (x t y:Nat) (it e:Ex)
 |ioN (es e:Ex)
 |retL (x:ag) (is:List Nat)
 |retC (f x:ag) (a b:Ex) (is:List Nat)
 |nmake (x t y:Nat) (it e1 e2:Ex)
 |pop3 (i j k w:Nat)
 |apop (i w:Nat) (e:Ex)
 |wmake (x t:Nat) (it e:Ex)
 |lent (h:Nat) (ea eb:Ex) (mid b:Sx)
 |lend (k p f:Nat) (b r:Sx)
 |px (p:Px)
 |newP (pi:Nat) (te:Ex) (p:Px)
 |raise (x:ag) (e:Ex)
 |tryK (b:Sx) (i j:Nat)
 |fail
inductive So where
 |next (ρ:En)
 |ret (r:Rc)
 |brk (ρ:En)
 |cnt (ρ:En)
 |err (x:ag) (ρ:En)
 |no
noncomputable def orE(o:So)(x:Option ag)(ρ:En):So:=match o with
 |.no=>match x with
  |some y=>.err y ρ
  |none=>.no
 |o=>o
noncomputable def zu(f:D->En->So):List D->En->So
 |[],ρ=>.next ρ
 |d::ds,ρ=>match f d ρ with
  |.next ρ'=>zu f ds ρ'
  |.cnt ρ'=>zu f ds ρ'
  |.brk ρ'=>.next ρ'
  |.ret r=>.ret r
  |.err x ρ'=>.err x ρ'
  |.no=>.no
noncomputable def Dz(c:En->Option Bool)(f:En->So):Nat->En->So
 |0,_=>.no
 |n+1,ρ=>match c ρ with
  |some a6=>.next ρ
  |some a8=>match f ρ with
   |.next ρ'=>Dz c f n ρ'
   |.cnt ρ'=>Dz c f n ρ'
   |.brk ρ'=>.next ρ'
   |.ret r=>.ret r
   |.err x ρ'=>.err x ρ'
   |.no=>.no
  |none=>.no
noncomputable def stOf:Option W->Option D
 |some (.v x)=>x.st
 |_=>a7
noncomputable def Dg(f:En->Option D)(t y:Nat):List D->En->List (List Int)->List D->Option (List (List Int)×List D)
 |[],_,ks,vs=>a5 (ks,vs)
 |d::ds,ρ,ks,vs=>match d with
  |.tup l=>match intsOf l,f (ρ.set t (.val d)) with
   |some k,a5 d'=>if d'.isNon=a8 then Dg f t y ds ((ρ.set t (.val d)).set y (.val d')) ks vs
    else if ks.contains k=a6/\ks.length<ai then Dg f t y ds ((ρ.set t (.val d)).set y (.val d')) (ks++[k]) (vs++[d'])else a7
   |_,_=>a7
  |_=>a7
noncomputable def j2m(f1 f2:En->Option D)(x t y:Nat):List D->En->List (List Int)->List Int->Option (List (List Int)×List Int)
 |[],_,ks,ns=>a5 (ks,ns)
 |d::ds,ρ,ks,ns=>match d with
  |.tup l=>match intsOf l,f1 (ρ.set t (.val d)) with
   |some k,a5 d1=>match f2 (((ρ.set t (.val d)).set y (.val d1)).set x (.val (.dct ks (ns.map D.int)))) with
    |some (.int n)=>if ks.contains k=a6/\ks.length<ai then j2m f1 f2 x t y ds ((ρ.set t (.val d)).set y (.val d1)) (ks++[k]) (ns++[n])else a7
    |_=>a7
   |_,_=>a7
  |_=>a7
noncomputable def j29(f2:En->Option D)(x t:Nat):List D->En->List (List Int)->List Int->Option (List (List Int)×List Int)
 |[],_,ks,ns=>a5 (ks,ns)
 |d::ds,ρ,ks,ns=>match d with
  |.tup l=>match intsOf l,f2 ((ρ.set t (.val d)).set x (.val (.dct ks (ns.map D.int)))) with
   |some k,a5 (.int n)=>if ks.contains k=a6/\ks.length<ai then j29 f2 x t ds (ρ.set t (.val d)) (ks++[k]) (ns++[n])else a7
   |_,_=>a7
  |_=>a7
noncomputable def Ry(ρ:En):List Nat->Option (List D)
 |[]=>a5 []
 |i::is=>match ρ[i]?,Ry ρ is with
  |some (.val d),a5 ds=>a5 (d::ds)
  |_,_=>a7
noncomputable def Yi(i:Nat)(w:Option W)(ρ:En):So:=match w with
 |some (.v (.o l))=>.next (ρ.set i (.own l))
 |some (.v x)=>match x.st with
  |some d=>.next (ρ.set i (.val d))
  |none=>.no
 |_=>.no
noncomputable def retS(w:Option W):So:=match w with
 |some (.v (.o l))=>.ret (.fresh l)
 |some (.v x)=>.ret (.val x.d)
 |_=>.no
noncomputable def Vs(s:Option Sv):So:=match s with
 |some (.own l)=>.ret (.fresh l)
 |some (.val d)=>.ret (.val d)
 |_=>.no
noncomputable def Mu(i j:Nat)(s:Option Sv)(ρ:En):So:=match s with
 |some (.own l)=>if i=j then .no else .next ((ρ.set j .un).set i (.own l))
 |some (.val d)=>.next (ρ.set i (.val d))
 |_=>.no
noncomputable def O9(w:Option W)(ρ:En):So:=match w with
 |some (.v _)=>.next ρ
 |_=>.no
noncomputable def j25(i:Nat)(s:Option Sv)(w:Option W)(ρ:En):So:=match s,w with
 |some (.own l),a5 (.v x)=>match x.st with
  |some d=>if l.length<ai then .next (ρ.set i (.own (l++[d])))else .no
  |none=>.no
 |_,_=>.no
noncomputable def W6(i:Nat)(s:Option Sv)(w:Option W)(ρ:En):So:=match s,w with
 |some (.own l),a5 (.v (.o m))=>if jg (l.length+m.length)=a8 then .next (ρ.set i (.own (l++m)))else .no
 |_,_=>.no
noncomputable def Uw(x:ag)(w:Option W)(d:Option D)(ρ:En):So:=match w,d with
 |some (.v _),a5 _=>.err x ρ
 |_,_=>.no
noncomputable def jbn(i j:Nat)(d:Option D)(ρ:En):So:=match d with
 |some (.tup [d,d'])=>if i=j then .no else .next ((ρ.set i (.val d)).set j (.val d'))
 |_=>.no
noncomputable def j9b(i j k:Nat)(d:Option D)(ρ:En):So:=match d with
 |some (.lst [a,b,c])=>.next (((ρ.set i (.val a)).set j (.val b)).set k (.val c))
 |_=>.no
noncomputable def Ud(i:Nat)(v:Option Sv)(ρ:En):So:=match v with
 |some (.own l)=>.next (ρ.set i (.val (.lst l)))
 |some (.val _)=>.next ρ
 |_=>.no
noncomputable def jco(i j:Nat)(v:Option Sv)(k e:Option W)(ρ:En):So:=if i≠j/\i<ρ.length then match v with
  |some (.val (.sct kvs))=>match k,e with
   |some (.v y),a5 (.v x)=>match y.d,x.d with
    |.str z,.int n=>if kvs.length<ai then .next (ρ.set i (.val (.sct (dput kvs z n))))else .no
    |_,_=>.no
   |_,_=>.no
  |_=>.no
 else .no
noncomputable def j9o(x:ag)(v:Option (List D)):So:=match v with
 |some ds=>.ret (.val (.fn x ds))
 |none=>.no
noncomputable def j9q(r:Rc):So:=match r with
 |.val d=>if noFn d=a8 then .ret (.val d)else .no
 |_=>.no
noncomputable def j9p(Γ:ag->List D->Rc)(f x:ag)(v:Option (List D))(a b:Option W):So:=match v,a,b with
 |some ds,a5 (.v u),a5 (.v v)=>j9q (Γ f [u.d,v.d,.fn x ds])
 |_,_,_=>.no
noncomputable def popS(i j k w:Nat)(s:Option Sv)(ρ:En):So:=match s with
 |some (.own l)=>match l.getLast? with
  |some (.tup [a,b,c])=>.next ((((ρ.set w (.own l.dropLast)).set i (.val a)).set j (.val b)).set k (.val c))
  |_=>.no
 |_=>.no
noncomputable def jb3(i w:Nat)(s t:Option Sv)(x:Option W)(ρ:En):So:=match s,t,x with
 |some (.own l),a5 (.own m),a5 (.v y)=>match y.st with
  |some (.int z)=>match ixN m.length z with
   |some k=>match m[k]? with
    |some d=>if i≠w/\l.length<ai/\m.length<=1000000 then .next ((ρ.set w (.own (m.eraseIdx k))).set i (.own (l++[d])))else .no
    |none=>.no
   |none=>.no
  |_=>.no
 |_,_,_=>.no
noncomputable def V0:Sx->List Nat
 |.seq a b=>V0 a++V0 b
 |.set i _=>[i]
 |.ife _ a b=>V0 a++V0 b
 |_=>[]
noncomputable def V9(Γ:ag->List D->Rc)(G:ag->Option D):Sx->En->Option En
 |.nop,ρ=>a5 ρ
 |.seq a b,ρ=>match V9 Γ G a ρ with
  |some r=>V9 Γ G b r
  |none=>a7
 |.set i e,ρ=>match stOf (ev Γ G e ρ) with
  |some d=>a5 (ρ.set i (.val d))
  |none=>a7
 |.ife c a b,ρ=>match truth (ev Γ G c ρ) with
  |some a8=>V9 Γ G a ρ
  |some a6=>V9 Γ G b ρ
  |none=>a7
 |_,_=>a7
noncomputable def plainS:Sv->Bool
 |.val _=>a8
 |.un=>a8
 |_=>a6
noncomputable def j2r(s:Option Sv)(t:Bool):Sv:=match s with
 |some (.val d)=>if t=a8 then(if Jd d=a8 then .val d else .un)else .val d
 |_=>.un
noncomputable def jab(h:Nat)(is:List Nat)(ρ r:En):En:=(aE ρ.length).map λj=>if j=h then .un else if j∈is then j2r r[j]? a8 else j2r ρ[j]? a6
noncomputable def jaa(h:Nat)(is:List Nat)(ρ:En)(a:Option D)(b:Option W)(m:En->Option En)(k:En->So):So:=match a,b with
 |some d0,a5 (.v (.o lb))=>match m (ρ.set h (.val (.lst [d0,.lst lb]))) with
  |some r=>if h<ρ.length/\h∉is/\r.length=ρ.length/\r.all plainS=a8 then k (jab h is ρ r)else .no
  |none=>.no
 |_,_=>.no
noncomputable def j2p(m:D->En->Option En):List D->En->Option En
 |[],ρ=>a5 ρ
 |d::ds,ρ=>match m d ρ with
  |some ρ'=>j2p m ds ρ'
  |none=>a7
noncomputable def bindM(is:List Nat)(m:En->Option En)(d:D)(ρ:En):Option En:=match zc is d ρ with
 |some ρ2=>m ρ2
 |none=>a7
noncomputable def jac(k p f:Nat)(is:List Nat)(s:Option Sv)(ρ:En)(m:D->En->Option En)(r:En->So):So:=match s with
 |some (.own l)=>if ju l=a8/\f∉is/\f≠k/\f≠p then match j2p m (Df l) ρ with
   |some ρ'=>r (ρ'.set f (.own []))
   |none=>.no
  else .no
 |_=>.no
inductive Sm where
 |next (ρ:En) (k:Nat)
 |ret (d:D) (k:Nat)
 |err (x:ag) (ρ:En)
 |no
noncomputable def Dy(f g:En->Nat->Sm)(y:ag)(ls:List ag):Nat->En->Nat->Sm
 |0,_,_=>.no
 |n+1,ρ,k=>if ls.getD k "" = y then g ρ k else match f ρ k with
  |.next ρ' k'=>Dy f g y ls n ρ' k'
  |.ret d k'=>.ret d k'
  |.err x ρ'=>.err x ρ'
  |.no=>.no
noncomputable def Dl(Γ:ag->List D->Rc)(ls:List ag)(f:ag)(a:Option W)(k:Nat):Rc:=match a with
 |some (.a rs)=>match za rs with
  |some ds=>Γ (mq f) (.lst (ls.map D.str)::.int (k:Int)::ds)
  |none=>.no
 |_=>.no
noncomputable def jc5(i:Nat)(w:Option W)(ρ:En)(r:En->Sm):Sm:=match w with
 |some (.v (.o l))=>r (ρ.set i (.own l))
 |some (.v x)=>match x.st with
  |some d=>r (ρ.set i (.val d))
  |none=>.no
 |_=>.no
noncomputable def jag(i:Nat)(s:Option Sv)(ρ:En)(r:En->Sm):Sm:=match s with
 |some (.own l)=>r (ρ.set i (.val (.lst l)))
 |some (.val _)=>r ρ
 |_=>.no
noncomputable def j62(w:Option W)(k:Nat):Sm:=match w with
 |some (.v (.o _))=>.no
 |some (.v x)=>.ret x.d k
 |_=>.no
noncomputable def j64(x:ag)(w:Option W)(d:Option D)(ρ:En):Sm:=match w,d with
 |some (.v _),a5 _=>.err x ρ
 |_,_=>.no
noncomputable def ifP(c:Option Bool)(a b:Sm):Sm:=match c with
 |some a8=>a
 |some a6=>b
 |none=>.no
noncomputable def j1u(G:ag->Option D)(r:Rc)(ρ:En)(f:D->Nat->Sm):Sm:=match r with
 |.mval d k=>f d k
 |.merr x=>if (G (bang x)).isSome=a8 then .err x ρ else .no
 |_=>.no
noncomputable def jct(i:Nat)(s:Option Sv)(ρ:En)(d:D)(r:En->Sm):Sm:=match s with
 |some (.own l)=>if l.length<ai then r (ρ.set i (.own (l++[d])))else .no
 |_=>.no
noncomputable def jcb(s:Option Sv)(r:Sm):Sm:=match s with
 |some (.own _)=>r
 |_=>.no
noncomputable def jbl(i:Nat)(d:Option D)(ρ:En)(r:En->Sm):Sm:=match d with
 |some d=>r (ρ.set i (.val d))
 |none=>.no
noncomputable def v7(fu:Nat)(Γ:ag->List D->Rc)(G:ag->Option D)(ls:List ag):Px->En->Nat->Sm
 |.nop,ρ,k=>.next ρ k
 |.set i e r,ρ,k=>jc5 i (ev Γ G e ρ) ρ λρ=>v7 fu Γ G ls r ρ k
 |.keep i r,ρ,k=>jag i ρ[i]? ρ λρ=>v7 fu Γ G ls r ρ k
 |.ifRet c e r,ρ,k=>ifP (truth (ev Γ G c ρ)) (j62 (ev Γ G e ρ) k) (v7 fu Γ G ls r ρ k)
 |.ifRai c x m r,ρ,k=>ifP (truth (ev Γ G c ρ)) (j64 x (ev Γ G m ρ) (G (bang x)) ρ) (v7 fu Γ G ls r ρ k)
 |.ifCal c f es r,ρ,k=>ifP (truth (ev Γ G c ρ)) (j1u G (Dl Γ ls f (ev Γ G es ρ) k) ρ Sm.ret) (v7 fu Γ G ls r ρ k)
 |.ret e,ρ,k=>j62 (ev Γ G e ρ) k
 |.take i r,ρ,k=>v7 fu Γ G ls r (ρ.set i (.val (.str (ls.getD k "")))) (k+1)
 |.takeE r,ρ,k=>v7 fu Γ G ls r ρ (k+1)
 |.takeIf i c e r,ρ,k=>ifP (truth (ev Γ G c ρ)) (v7 fu Γ G ls r (ρ.set i (.val (.str (ls.getD k "")))) (k+1)) (jbl i (stOf (ev Γ G e ρ)) ρ λρ=>v7 fu Γ G ls r ρ k)
 |.callS i f es r,ρ,k=>j1u G (Dl Γ ls f (ev Γ G es ρ) k) ρ λd k'=>v7 fu Γ G ls r (ρ.set i (.val d)) k'
 |.appC i f es r,ρ,k=>jcb ρ[i]? (j1u G (Dl Γ ls f (ev Γ G es ρ) k) ρ λd k'=>jct i ρ[i]? ρ d λρ=>v7 fu Γ G ls r ρ k')
 |.whlA y b r,ρ,k=>Dy (λρ k=>v7 fu Γ G ls b ρ k) (λρ k=>v7 fu Γ G ls r ρ k) y ls fu ρ k
 |.ifAll x m r,ρ,k=>if ls.length<=k then v7 fu Γ G ls r ρ k else j64 x (ev Γ G m ρ) (G (bang x)) ρ
noncomputable def pxS(l k:Option Sv)(r:List ag->Nat->Sm):So:=match l,k with
 |some (.val (.lst l)),a5 (.val (.int k))=>match strsOf l with
  |some ls=>if 0<=k then match r ls k.toNat with
    |.ret d k'=>.ret (.mval d k')
    |.err x _=>.ret (.merr x)
    |_=>.no
   else .no
  |none=>.no
 |_,_=>.no
noncomputable def newS(b:Bool)(w:Option W)(g:Option D)(r:List ag->Sm):So:=match b,w,g with
 |true,a5 (.v x),a5 _=>match x.d with
  |.str t=>if t.length<=100000/\jg (bT t " ").length=a8 then match r (bT t " ") with
    |.next ρ' _=>.next ρ'
    |.ret d _=>.ret (.val d)
    |.err x ρ'=>.err x ρ'
    |.no=>.no
   else .no
  |_=>.no
 |_,_,_=>.no
noncomputable def run(fu:Nat)(Γ:ag->List D->Rc)(G:ag->Option D):Sx->En->So
 |.nop,ρ=>.next ρ
 |.seq a b,ρ=>match run fu Γ G a ρ with
  |.next ρ'=>run fu Γ G b ρ'
  |o=>o
 |.set i e,ρ=>orE (Yi i (ev Γ G e ρ) ρ) (er Γ G e ρ) ρ
 |.mov i j,ρ=>Mu i j ρ[j]? ρ
 |.expr e,ρ=>orE (O9 (ev Γ G e ρ) ρ) (er Γ G e ρ) ρ
 |.ret e,ρ=>orE (retS (ev Γ G e ρ)) (er Γ G e ρ) ρ
 |.retV i,ρ=>Vs ρ[i]?
 |.ife c a b,ρ=>match truth (ev Γ G c ρ) with
  |some a8=>run fu Γ G a ρ
  |some a6=>run fu Γ G b ρ
  |none=>.no
 |.loop is it body,ρ=>match ev Γ G it (frz it ρ) with
  |some (.i ds)=>zu (λd ρ=>match zc is d ρ with
   |some ρ2=>run fu Γ G body ρ2
   |none=>.no) ds (frz it ρ)
  |_=>.no
 |.app i e,ρ=>j25 i ρ[i]? (ev Γ G e ρ) ρ
 |.ext i e,ρ=>W6 i ρ[i]? (ev Γ G e ρ) ρ
 |.fgt i,ρ=>.next (ρ.set i .un)
 |.keep i,ρ=>Ud i ρ[i]? ρ
 |.px p,ρ=>pxS ρ[0]? ρ[1]? λls k=>v7 fu Γ G ls p (.exc rfN::ρ.drop 2) k
 |.newP pi te p,ρ=>newS (decide (pi<ρ.length)) (ev Γ G te ρ) (G (qm "Pieces")) λls=>v7 fu Γ G ls p (ρ.set pi (.exc rfN)) 0
 |.lend k p f b r,ρ=>jac k p f (V0 b) ρ[f]? ρ (bindM [k,p] (V9 Γ G b)) (run fu Γ G r)
 |.lent h ea eb mid b,ρ=>jaa h (V0 mid) ρ (stOf (ev Γ G ea ρ)) (ev Γ G eb ρ) (V9 Γ G mid) (run fu Γ G b)
 |.dcp i j k e,ρ=>jco i j ρ[j]? (ev Γ G k (ρ.set i .un)) (ev Γ G e (ρ.set i .un)) ρ
 |.taken h q a b e t,ρ=>if h≠q/\h<ρ.length then match ev Γ G a ρ,ev Γ G b ρ with
   |some (.v (.o la)),a5 (.v (.o lb))=>match ev Γ G e (ρ.set h (.val (.lst [.lst la,.lst lb]))) with
    |some (.v x)=>match x.st with
     |some d=>if Jd d=a8/\truth (ev Γ G t ((ρ.set h (.val (.lst [.lst la,.lst lb]))).set q (.val d)))=a5 a6 then .next ((ρ.set h (.val (.lst [.lst la.reverse,.lst []]))).set q (.val d))else .no
     |none=>.no
    |_=>.no
   |_,_=>.no
  else .no
 |.unp i j e,ρ=>jbn i j (stOf (ev Γ G e ρ)) ρ
 |.unp3 i j k e,ρ=>j9b i j k (stOf (ev Γ G e ρ)) ρ
 |.dmake x t y it e,ρ=>if x<ρ.length/\t<ρ.length/\y<ρ.length/\x≠t/\x≠y/\t≠y then match ev Γ G it (ρ.set x .un) with
   |some (.i ds)=>match Dg (λρ=>stOf (ev Γ G e ρ)) t y ds (ρ.set x .un) [] [] with
    |some r=>.ret (.val (.dct r.1 r.2))
    |none=>.no
   |_=>.no
  else .no
 |.ioN es e,ρ=>match G (qm "_law_plan"),ev Γ G es ρ,ev Γ G e ρ with
  |some _,a5 (.a [x,y,z]),a5 (.v (.o [.int n]))=>match x.d,y.d,z.d with
   |.lst ls,.int d9,.int k=>match strsOf ls with
    |some ws=>if 0<=k/\k<=5/\ws.length<=60 then .ret (.val (Qw k.toNat ws d9 n).1)else .no
    |none=>.no
   |_,_,_=>.no
  |_,_,_=>.no
 |.retL x is,ρ=>j9o x (Ry ρ is)
 |.retC f x a b is,ρ=>j9p Γ f x (Ry ρ is) (ev Γ G a ρ) (ev Γ G b ρ)
 |.nmake x t y it e1 e2,ρ=>if x<ρ.length/\t<ρ.length/\y<ρ.length/\x≠t/\x≠y/\t≠y then match ev Γ G it (ρ.set x .un) with
   |some (.i ds)=>match j2m (λρ=>stOf (ev Γ G e1 ρ)) (λρ=>stOf (ev Γ G e2 ρ)) x t y ds (ρ.set x .un) [] [] with
    |some r=>.ret (.val (.dct r.1 (r.2.map D.int)))
    |none=>.no
   |_=>.no
  else .no
 |.wmake x t it e,ρ=>if x<ρ.length/\t<ρ.length/\x≠t then match ev Γ G it (ρ.set x .un) with
   |some (.i ds)=>match j29 (λρ=>stOf (ev Γ G e ρ)) x t ds (ρ.set x .un) [] [] with
    |some r=>.ret (.val (.dct r.1 (r.2.map D.int)))
    |none=>.no
   |_=>.no
  else .no
 |.apop i w e,ρ=>jb3 i w ρ[i]? ρ[w]? (ev Γ G e ρ) ρ
 |.pop3 i j k w,ρ=>popS i j k w ρ[w]? ρ
 |.raise x e,ρ=>Uw x (ev Γ G e ρ) (G (bang x)) ρ
 |.tryK b i j,ρ=>match run fu Γ G b ρ with
  |.err x ρ'=>match G (bang x) with
   |some (.lst l)=>.next (((ρ'.set j (.exc x)).set i (.own l)).set j .un)
   |_=>.no
  |o=>o
 |.fail,_=>.no
section
variable{Γ:ag->List D->Rc}{G:ag->Option D}{ρ:En}{fu:Nat}
theorem j33{a b}:run fu Γ G (.seq a b) ρ=(match run fu Γ G a ρ with
  |.next ρ'=>run fu Γ G b ρ'
  |o=>o):=(rfl)
theorem j32{i e}:run fu Γ G (.set i e) ρ=(orE (Yi i (ev Γ G e ρ) ρ) (er Γ G e ρ) ρ):=(rfl)
theorem jbf{i j}:run fu Γ G (.mov i j) ρ=(Mu i j ρ[j]? ρ):=(rfl)
theorem j98{e}:run fu Γ G (.expr e) ρ=(orE (O9 (ev Γ G e ρ) ρ) (er Γ G e ρ) ρ):=(rfl)
theorem j34{e}:run fu Γ G (.ret e) ρ=(orE (retS (ev Γ G e ρ)) (er Γ G e ρ) ρ):=(rfl)
theorem j95{i}:run fu Γ G (.retV i) ρ=(Vs ρ[i]?):=(rfl)
theorem jbg{c a b}:run fu Γ G (.ife c a b) ρ=(match truth (ev Γ G c ρ) with
  |some a8=>run fu Γ G a ρ
  |some a6=>run fu Γ G b ρ
  |none=>.no):=(rfl)
theorem j96{is it body}:run fu Γ G (.loop is it body) ρ=(match ev Γ G it (frz it ρ) with
  |some (.i ds)=>zu (λd ρ=>match zc is d ρ with
   |some ρ2=>run fu Γ G body ρ2
   |none=>.no) ds (frz it ρ)
  |_=>.no):=(rfl)
theorem jbi{i e}:run fu Γ G (.app i e) ρ=(j25 i ρ[i]? (ev Γ G e ρ) ρ):=(rfl)
theorem jbh{i e}:run fu Γ G (.ext i e) ρ=(W6 i ρ[i]? (ev Γ G e ρ) ρ):=(rfl)
theorem j97{i}:run fu Γ G (.keep i) ρ=(Ud i ρ[i]? ρ):=(rfl)
theorem j5d{x e}:run fu Γ G (.raise x e) ρ=(Uw x (ev Γ G e ρ) (G (bang x)) ρ):=(rfl)
theorem j94{b i j}:run fu Γ G (.tryK b i j) ρ=(match run fu Γ G b ρ with
  |.err x ρ'=>match G (bang x) with
   |some (.lst l)=>.next (((ρ'.set j (.exc x)).set i (.own l)).set j .un)
   |_=>.no
  |o=>o):=(rfl)
end
def jd0(X:Cx):List (ag×af)->List Nat->Prop
 |[],is=>is=[]
 |p::cl,is=>∃(i:Nat)(r:List Nat),is=i::r/\X.N[i]?=a5 p.1/\X.env.scope.names.lookup p.1=a5 .cell/\X.env.cells.lookup p.1=a5 p.2/\X.fn p.1=a8/\jd0 X cl r
inductive Ns where
 |s (st:aM)
 |ss (sts:List aM)
def TMs(X:Cx)(b:Sx)(ss:List aM):Prop:=∀(Γ:ag->List D->Rc)(G:ag->Option D),Cok X G->Gok X Γ->∀(ρ:Rho)(r:En),V9 Γ G b (j7 ρ)=a5 r->∃ρ',j7 ρ'=r/\DMs X ρ ρ' (V0 b) ss/\Kp ρ ρ' (V0 b)
def TMt(X:Cx)(b:Sx)(full tl:List aM):Prop:=∀(Γ:ag->List D->Rc)(G:ag->Option D),Cok X G->Gok X Γ->∀(ρ:Rho)(r:En),V9 Γ G b (j7 ρ)=a5 r->∃ρ',j7 ρ'=r/\DMt X ρ ρ' (V0 b) full tl
def j8z(pi:Nat)(o:Ob)(s:Sm)(P:Pm):Prop:=match s with
 |.next ρ' k=>∀ρ2,j7 ρ2=ρ'->(∃ob,ρ2[pi]?=a5 (.raw o.a ob rfN))->P.nx ρ2 k
 |.ret d k=>P.rt d k
 |.err x ρ'=>∀ρ2,j7 ρ2=ρ'->P.ex x ρ2
 |.no=>False
def MP(X:Cx)(pi:Nat)(p:Px)(sts:List aM):Prop:=∀(fu:Nat)(Γ:ag->List D->Rc)(G:ag->Option D),Cok X G->Gok X Γ->∀C,X.mg "Pieces" = a5 (.ref C)->PcX X C->∀(o:Ob)(ls:List ag)(ρ:Rho)(k:Nat)(P:Pm),
 (∃ob,ρ[pi]?=a5 (.raw o.a ob rfN))->j8z pi o (v7 fu Γ G ls p (j7 ρ) k) P->MSs X C o ls ρ k sts P
noncomputable def Rt.rc:Rt->Rc
 |.val d=>.val d
 |.fresh l=>.fresh l
def Z6(o:So)(P:Po):Prop:=match o with
 |.next ρ'=>∀ρ2,j7 ρ2=ρ'->P.nx ρ2
 |.ret r=>∀x:Rt,x.rc=r->P.rt x
 |.brk ρ'=>∀ρ2,j7 ρ2=ρ'->P.bk ρ2
 |.cnt ρ'=>∀ρ2,j7 ρ2=ρ'->P.ct ρ2
 |.err x ρ'=>∀ρ2,j7 ρ2=ρ'->P.ex x ρ2
 |.no=>False
theorem Qu{o:So}{x:Option ag}{ρ:En}{P:Po}(h:Z6 (orE o x ρ) P):Z6 o P\/∃y,x=a5 y/\∀ρ2,j7 ρ2=ρ->P.ex y ρ2:=by
 cases o with
 |no =>
  cases x with
  |none=>exact h.elim
  |some y=>exact .inr ⟨y,rfl,h⟩
 |_=>exact .inl h
def j35(fu:Nat)(Γ:ag->List D->Rc)(G:ag->Option D)(X:Cx)(t:Sx):Ns->Prop
 |.s st=>∀ρ P,Z6 (run fu Γ G t (j7 ρ)) P->DS X ρ st P
 |.ss sts=>∀ρ P,Z6 (run fu Γ G t (j7 ρ)) P->DSs X ρ sts P
section
variable{K:k4n}{ρ:Rho}{σ:St}{H:Hp}{i j:Nat}{a:af}{l:List D}
theorem Rep.move(R:Rep K ρ σ H)(hj:ρ[j]?=a5 (.own a l))(hij:i≠j):Rep K ((ρ.set j .un).set i (.own a l)) (σ.set i (a5 (.ref a))) H:=by
 have s1:(owns (ρ.set j .un)).Sublist (owns ρ):=jl rfl;have na:a∉owns (ρ.set j .un):=λz=>by
  obtain⟨k,l',q⟩:=Jz z;rcases getElem?_set_of q with ⟨_,z,_⟩|⟨n,q⟩
  .cases z
  .exact n (Ql R.nd hj q)
 obtain⟨nd,sub⟩:=v9 (ds:=l) (i:=i) (s1.nodup R.nd) na;have g:j4 (del H (owns ρ)) (del H (owns ((ρ.set j .un).set i (.own a l)))):=zp λb hb=>by
  rcases sub b hb with e|z
  .exact e▸J1 hj
  .exact s1.subset z
 refine⟨by simp[R.len],λk d' h=>?_,λk b ds' h=>?_,nd,λk b o x h=>?_,R.tb⟩
 .rcases getElem?_set_of h with ⟨rfl,z,_⟩|⟨n,h⟩
  .cases z
  .rcases getElem?_set_of h with ⟨rfl,z,_⟩|⟨n2,h⟩
   .cases z
   .obtain⟨u,q,e⟩:=R.val k d' h;exact⟨u,by rw[qi n];exact q,e.mono g⟩
 .rcases getElem?_set_of h with ⟨rfl,z,hl⟩|⟨n,h⟩
  .cases z;obtain⟨_,xs,hx,en⟩:=R.own j a l hj;exact⟨Q5 (by rw[R.len];simpa using hl),xs,hx,en.mono g⟩
  .rcases getElem?_set_of h with ⟨rfl,z,_⟩|⟨n2,h⟩
   .cases z
   .obtain⟨q,xs,hx,en⟩:=R.own k b ds' h;exact⟨by rw[qi n];exact q,xs,hx,en.mono g⟩
 .rcases getElem?_set_of h with ⟨rfl,z,_⟩|⟨n,h⟩
  .cases z
  .rcases getElem?_set_of h with ⟨rfl,z,_⟩|⟨n2,h⟩
   .cases z
   .obtain⟨q,h⟩:=R.raw k b o x h;exact⟨by rw[qi n];exact q,h.mono g⟩
end
section
variable{X:Cx}{ρ:Rho}{e a b c:ah}{es:List ah}{st:aM}{rest sa sb body:List aM}{P:Po}{d:D}{ds ds':List D}{pos p p1 p2 p3:aN}{x y:ag}{i j:Nat}
theorem DS.freeze(i:Nat){l:af}(h:ρ[i]?=a5 (.own l ds))(h2:DS X (ρ.set i (.val (.lst ds))) st P):DS X ρ st P:=λσ H E R q =>h2 σ H E (R.freeze h) (q.step (.drop λb hb=>(jl rfl).subset hb))
theorem DS.mov{l:af}(hk:ρ[j]?=a5 (.own l ds))(hij:i≠j)(h:P.nx ((ρ.set j .un).set i (.own l ds)))(hN:X.N.Nodup)(hi:X.N[i]?=a5 x)(hj:X.N[j]?=a5 y)(hx:Loc X.env.scope x)
  (hf:X.fn x=a8\/X.env.scope.names.lookup x=a5 .local) (hv:Vis X.env.scope y) (hd:(y==k4r)=a6) (hcd:(y==k4s)=a6):DS X ρ (.Assign [.Name x p] (.Name y p1) pos) P:=λσ H E R q=>by
 obtain⟨hs,xs,m,en⟩:=R.own j l ds hk;refine(U6 hN hi hx (Ja hj hv hd hcd) rfl hf).to ⟨_,hs,q.nx _ _ H h (R.move hk hij) (.drop λb hb=>?_)⟩;have s1:(owns (ρ.set j .un)).Sublist (owns ρ):=jl rfl;have na:l∉owns (ρ.set j .un):=λz=>by
  obtain⟨k,l',q⟩:=Jz z;rcases getElem?_set_of q with ⟨_,z,_⟩|⟨n,q⟩
  .cases z
  .exact n (Ql R.nd hk q)
 rcases(v9 (ds:=ds) (i:=i) (s1.nodup R.nd) na).2 b hb with z|z
 .exact z▸J1 hk
 .exact s1.subset z
theorem DS.setCf{ρf:Rho}{tg elt iter:ah}{ifs:List ah}{scope:bg}{spos:aN}(i:Nat)(cs:List Nat)(pr:D->Bool)(g:D->D)(hfr:∀K σ H,Rep K ρ σ H->Rep K ρf σ H)(hno:ρf=ρ\/ju ((ds.filter pr).map g)=a8)(hi:DI X ρf tg iter ds)
  (hb:∀C s H fp pn,∀d∈ds,∃ρ2,DG (cCx X scope C s H fp pn) ρf tg d ρ2/\Wk ρ2 ρf/\owns ρ2=owns ρf/\DTs (cCx X scope C s H fp pn) ρ2 ifs (pr d)/\(pr d=a8->DE (cCx X scope C s H fp pn) ρ2 elt (g d)))
  (h:∀l,P.nx (ρ.set i (.own l ((ds.filter pr).map g)))) (hN:X.N.Nodup) (hcs:∀j∈cs,ρf[j]?=a5 .un) (hsz:ds.length<=ai) (hX:X.N[i]?=a5 x) (hx:Loc X.env.scope x)
  (hf:X.fn x=a8\/X.env.scope.names.lookup x=a5 .local)
  (hsw:aZ (.ListComp elt [⟨tg,iter,ifs,0⟩] scope pos) (a5 (.Name x p1)) spos.line X.env=pure a8)
  (hc:X.calm=a8) (hkind:scope.kind=.function) (hok:vd scope X.env X.N cs=a8)
  (hs:∀x,aQ iter X.env x=pure x):DS X ρ (.Assign [.Name x p1] (.ListComp elt [⟨tg,iter,ifs,0⟩] scope pos) spos) P:=λσ H E R q pins s I=>by
 have Rf:=hfr _ _ _ R;rw[exec_Assign_Name_used _ _ _ _ hsw];refine ao (jJ (ao ?_));show aw _ X.A (do let _ <-comprehension (.ListComp elt [⟨tg,iter,ifs,0⟩] scope pos) scope X.env _ (newList []) a6 (aG iter X.env) (a5 (fw (.Name x p1) X.env))) _ _ s;refine ao (aT (fF (use:=a5 (fw (.Name x p1) X.env)) (Q:=λ_ s'=>SP X pins E .next s') rfl hs (Um (Yd hok)) hkind (Vj hok)
  (thn (hi σ H (λJ H'=>j4 H H'/\Vo X.K (del H' (owns ρf)) J ds) Rf (λJ H' g1 ok=>⟨g1,ok⟩) pins s I) λv s1 h1=>thn h1 λitv s2 h2=>?_)) (λ_ s' hq=>aC (aC hq)) λ_ _ e=>e)
 obtain⟨it,fp,tn,J,H2,e,I2,T,st2,f2,g2,ok⟩:=h2;subst e;refine Wv (RR:=λacc C=>compPost (ar X.prog X.w) X.A X.xe (a5 (fw (.Name x p1) X.env)) (λ_ s'=>SP X pins E .next s') acc C) I2 (Rf.grow g2) T st2 f2 ok hc hkind hok hcs hsz hb ?_;intro D C xs H' s' m I' gg n m' en hm L;show aw _ X.A (fw (.Name x p1) X.env (.ref D)) _ _ _;refine i0 (V7 I' hN hX hx (v:=.ref D) rfl (λs'' I'' ⟨a,sb,ha⟩=>?_) hf);have hCa:C≠a:=by
  rcases ha with e|e
  .rw[e];exact L.loc
  .exact dP (L.cell x a e)
 have en':j5 X.K (del H' (D::owns ρ)) ((ds.filter pr).map g) xs:=by
  rcases hno with e|e
  .rw[e]at en;exact en
  .exact(en.mono jw).hide (λc hc=>by
    rcases xf.mp hc with z|z
    .rw[z];exact .inl ⟨xs,m'⟩
    .exact .inl ((R.grow (g2.trans gg)).owned c z)) e
 refine⟨m,hm.sameBut sb hCa,λh' sb'=>⟨σ.set i (a5 (.ref D)),H',I''.loose L sb',?_⟩⟩;exact q.nx _ _ H' (h D) (R.set_own (g2.trans gg) (g2.free n) m' en') (Fr0.new R (g2.trans gg) (g2.free n))
end
section
variable{fu:Nat}{Γ:ag->List D->Rc}{G:ag->Option D}{X:Cx}{P:Po}
theorem bind1{i:Nat}{y:ag}{p:aN}(nd:X.N.Nodup)(hi:X.N[i]?=a5 y)(hx:Loc X.env.scope y)(hf:X.fn y=a8\/X.env.scope.names.lookup y=a5 .local) :
  ∀ρ d ρ2,zc [i] d (j7 ρ)=a5 ρ2->∃ρ',j7 ρ'=ρ2/\DG X ρ (.Name y p) d ρ':=λρ d ρ2 h=>by
 simp only[zc]at h;cases h;exact⟨_,jz,DG.name _ nd hi hx hf⟩
theorem DS.setX{e:ah}{x y:ag}{i:Nat}{p pos:aN}{ρ:Rho}(he:DX X ρ e y)(h:P.ex y ρ)(hN:X.N.Nodup)(hi:X.N[i]?=a5 x)(hx:Loc X.env.scope x)(hs:aZ e (a5 (.Name x p)) pos.line X.env=pure a6)(hf:X.fn x=a8\/X.env.scope.names.lookup x=a5 .local) :
  DS X ρ (.Assign [.Name x p] e pos) P:=λσ H E R q=>(U6 hN hi hx peS hs hf).to (he σ H _ R (q.ex y ρ σ H h R (Fr0.refl _ _)))
theorem DS.exprX{e:ah}{y:ag}{pos:aN}{ρ:Rho}(he:DX X ρ e y)(h:P.ex y ρ)(hs:aZ e a7 pos.line X.env=pure a6):DS X ρ (.Expr e pos) P:=λσ H E R q =>(Vt peS hs).to (he σ H _ R (q.ex y ρ σ H h R (Fr0.refl _ _)))
theorem DS.retX{e:ah}{y:ag}{pos:aN}{ρ:Rho}(he:DX X ρ e y)(h:P.ex y ρ):DS X ρ (.Return (a5 e) pos) P:=λσ H E R q =>(U7 peS).to (he σ H _ R (q.ex y ρ σ H h R (Fr0.refl _ _)))
theorem Fp{is:List Nat}{it':Ex}{b:Sx}{it tg:ah}{body:List aM}{pos:aN}{ρ:Rho}(hq:X.calm=a8)(c:Cok X G)(hs:∀x,aQ it X.env x=pure x)
  (hb:∀ρ d ρ2,zc is d (j7 ρ)=a5 ρ2->∃ρ',j7 ρ'=ρ2/\DG X ρ tg d ρ') (hi:∀ρ ds,ev Γ G it' (j7 ρ)=a5 (.i ds)->DI X ρ tg it ds)
  (ih:∀ρ P,Z6 (run fu Γ G b (j7 ρ)) P->DSs X ρ body P) (h:Z6 (run fu Γ G (.loop is it' b) (j7 ρ)) P):DS X ρ (.For tg it body [] pos) P:=by
 have main:∀ρf:Rho,j7 ρf=frz it' (j7 ρ)->DS X ρf (.For tg it body [] pos) P:=λρf ef=>by
  rw[j96]at h;rw[<-ef]at h;split at h
  .rename_i ds hds;generalize hf:(λd ρ=>_:D->En->So)=f at h;refine DS.for (ds:=ds) (λi ρ'=>Z6 (zu f (ds.drop i) (j7 ρ')) P) (hi ρf ds hds) (by rw[eQ];exact h) (λi d ρ' hd w=>?_) (λρ' w=>?_) hq c.po hs
   .have hdr:ds.drop i=d::ds.drop (i+1):=by obtain⟨hlt,e⟩:=Xb.mp hd;rw[List.drop_eq_getElem_cons hlt,e]
    rw[hdr,zu]at w;have ef2:f d (j7 ρ')=match zc is d (j7 ρ')with|some ρ2=>run fu Γ G b ρ2|none=>.no:=by rw[<-hf]<;>rfl
    rw[ef2]at w;cases hb2:zc is d (j7 ρ') with
    |none=>rw[hb2]at w;exact w.elim
    |some ρ2 =>
     rw[hb2]at w;obtain⟨ρ3,e3,dg⟩:=hb ρ' d ρ2 hb2;refine⟨ρ3,dg,ih ρ3 _ ?_⟩;rw[e3];dsimp only at w;cases ho:run fu Γ G b ρ2 with
     |next ρ4=>rw[ho]at w;exact λρ5 e=>by rw[<-e]at w;exact w
     |cnt ρ4=>rw[ho]at w;exact λρ5 e=>by rw[<-e]at w;exact w
     |brk ρ4=>rw[ho]at w;exact w
     |ret r=>rw[ho]at w;exact w
     |err x ρ4=>rw[ho]at w;exact w
     |no=>rw[ho]at w;exact w
   .rw[List.drop_length,zu]at w;exact w ρ' rfl
  .exact h.elim
 by_cases z:v4 it' (j7 ρ)=a8
 .unfold v4 at z;split at z
  .rename_i i ei;split at z
   .rename_i l e;obtain⟨a,q⟩:=J5 e;refine DS.freeze i q (main _ ?_);rw[jz];simp only[frz,ei,e,Sl.abs]
   .cases z
  .cases z
 .have z':v4 it' (j7 ρ)=a6:=by simpa using z
  refine main ρ ?_;unfold frz;split
  .rename_i i ei;split
   .rename_i l e;simp only[v4,ei,e]at z';cases z'
   .rfl
  .rfl
theorem Nx{is:List Nat}{elt' it' c':Ex}{elt it tg:ah}{ifs:List ah}{scope:bg}{p p1 pos:aN}{k:Nat}{z:ag}{ρ:Rho}(hq:X.calm=a8)(hX:Cok X G)
  (hk:X.N[k]?=a5 z) (hx:Loc X.env.scope z) (hf:X.fn z=a8\/X.env.scope.names.lookup z=a5 .local)
  (hsw:aZ (.ListComp elt [⟨tg,it,ifs,0⟩] scope p) (a5 (.Name z p1)) pos.line X.env=pure a8)
  (hit:∀ρ ds,ev Γ G it' (j7 ρ)=a5 (.i ds)->DI X ρ tg it ds) (hkind:scope.kind=.function) (hok:vd scope X.env X.N is=a8) (hs:∀x,aQ it X.env x=pure x)
  (hb:∀ρ d ρ2,zc is d (j7 ρ)=a5 ρ2->(∀j∈is,ρ[j]?=a5 .un)->∃ρ',j7 ρ'=ρ2/\Wk ρ' ρ/\owns ρ'=owns ρ/\∀C s H fp pn,DG (cCx X scope C s H fp pn) ρ tg d ρ')
  (he:∀C s H fp pn ρ r,ev Γ G elt' (j7 ρ)=a5 (.v r)->Has (cCx X scope C s H fp pn) ρ elt r)
  (hc:∀C s H fp pn ρ,(ev Γ G c' (j7 ρ)=a5 (.a [])->DTs (cCx X scope C s H fp pn) ρ ifs a8)/\∀y k,ev Γ G c' (j7 ρ)=a5 (.a [y])->y.d=.bl k->DTs (cCx X scope C s H fp pn) ρ ifs k)
  (h:Z6 (run fu Γ G (.set k (.comp is elt' it' c')) (j7 ρ)) P):DS X ρ (.Assign [.Name z p1] (.ListComp elt [⟨tg,it,ifs,0⟩] scope p) pos) P:=by
 rw[j32]at h;unfold Yi at h;have h:=(Qu h).resolve_right λ⟨y,ey,_⟩=>by simp only[er]at ey;cases ey
 cases e:ev Γ G (.comp is elt' it' c') (j7 ρ) with
 |none=>rw[e]at h;exact h.elim
 |some w =>
  rw[e]at h;cases w with
  |a _=>exact h.elim
  |i _=>exact h.elim
  |v r =>
   obtain⟨l,ρf,ds,pr,g,er,el,hfz,hi,hun,hz,hb'⟩:=Yc hit hb he hc e;subst er;refine DS.setCf (ρf:=ρf) k is pr g ?_ ?_ hi hb' (λa=>?_) hX.nd hun hz hk hx hf hsw hq hkind hok hs
   .rcases hfz with e|⟨_,i,a,l',q,e⟩
    .subst e;exact λ_ _ _ R=>R
    .subst e;exact λ_ _ _ R=>R.freeze q
   .rcases hfz with e|⟨n,_⟩
    .exact .inl e
    .exact .inr (el▸n)
   .rw[<-el];exact h _ jz
end
structure Ts(X:Cx)(t:Sx)(nd:Ns):Prop where
 m:∀(fu:Nat)(Γ:ag->List D->Rc)(G:ag->Option D),Cok X G->Gok X Γ->j35 fu Γ G X t nd
theorem Ts.nil:∀{X:Cx},Ts X .nop (.ss []):=by intro _;refine⟨λfu Γ G=>?_⟩;intro c g ρ P h;exact DSs.nil (h ρ rfl)
theorem Ts.cons:∀{X:Cx}{a b:Sx}{st:aM}{rest:List aM},Ts X a (.s st)->Ts X b (.ss rest)->Ts X (.seq a b) (.ss (st::rest)):=by
 intro _ _ _ _ _ q0 q1;refine⟨λfu Γ G=>?_⟩;have iha:=q0.m fu Γ G;have ihb:=q1.m fu Γ G;intro c g ρ P h;rw[j33]at h;split at h
 .rename_i ρ' e;exact DSs.cons (N:=λρ1=>j7 ρ1=ρ') (iha c g ρ _ (by rw[e];exact λρ2 z=>z)) λρ1 z=>ihb c g ρ1 P (by rw[z];exact h)
 .rename_i o hn;refine DSs.cons (N:=λ_=>False) (iha c g ρ _ ?_) λ_ z=>z.elim;cases e:run fu Γ G _ (j7 ρ) with
  |next ρ'=>exact absurd e (hn ρ')
  |ret r=>rw[e]at h;exact h
  |err x r=>rw[e]at h;exact h
  |brk r=>rw[e]at h;exact h
  |cnt r=>rw[e]at h;exact h
  |no=>rw[e]at h;exact h
theorem Ts.keep:∀{X:Cx}{i:Nat}{b:Sx}{sts:List aM},Ts X b (.ss sts)->Ts X (.seq (.keep i) b) (.ss sts):=by
 intro _ i _ _ q0;refine⟨λfu Γ G=>?_⟩;have ih:=q0.m fu Γ G;intro c g ρ P h;simp only[j33,j97,Ud]at h;cases e:(j7 ρ)[i]? with
 |none=>rw[e]at h;exact h.elim
 |some v =>
  rw[e]at h;cases v with
  |own l =>obtain⟨a,q⟩:=J5 e;exact DSs.freeze _ q (ih c g _ P (by rw[jz];exact h))
  |un=>exact h.elim
  |val d=>exact ih c g ρ P h
  |exc x=>exact h.elim
theorem Ts.set:∀{X:Cx}{i:Nat}{x:ag}{e':Ex}{e:ah}{p pos:aN}(hi:X.N[i]?=a5 x) (hx:Loc X.env.scope x) (hs:aZ e (a5 (.Name x p)) pos.line X.env=pure a6) (hf:X.fn x=a8\/X.env.scope.names.lookup x=a5 .local),Tr X e' (.e e)->Ts X (.set i e') (.s (.Assign [.Name x p] e pos)):=by
 intro _ _ _ _ _ _ _ hi hx hs hf he;refine⟨λfu Γ G=>?_⟩;intro c g ρ P h;have S:=sound he c g;rw[j32]at h;unfold Yi at h;rcases Qu h with h|⟨y,ey,hP⟩
 rotate_left
 .exact DS.setX (Ma he c g ρ y ey) (hP ρ rfl) c.nd hi hx hs hf
 split at h
 .rename_i l e;exact DS.setO _ (S ρ _ e) (λa=>h _ jz) c.nd hi hx hs hf
 .rename_i r hn e;split at h
  .rename_i d hd;exact DS.set _ ((S ρ _ e).toE hd) (h _ jz) c.nd hi hx hs hf
  .exact h.elim
 .exact h.elim
theorem Ts.setC1:∀{X:Cx}{k i:Nat}{z y:ag}{py p p1 pos:aN}{elt' it' c':Ex}{elt it:ah}{ifs:List ah} {scope:bg} (hq:X.calm=a8) (hk:X.N[k]?=a5 z) (hx:Loc X.env.scope z) (hf:X.fn z=a8\/X.env.scope.names.lookup z=a5 .local) (hsw:aZ (.ListComp elt [⟨.Name y py,it,ifs,0⟩] scope p) (a5 (.Name z p1)) pos.line X.env=pure a8) (hi:X.N[i]?=a5 y) (hl:Vq scope y=a8) (hkind:scope.kind=.function) (hok:vd scope X.env X.N [i]=a8) (hs:∀x,aQ it X.env x=pure x),Tr X it' (.i (.Name y py) it)->(∀C s H fp pn,Tr (cCx X scope C s H fp pn) elt' (.e elt))->(∀C s H fp pn,Tr (cCx X scope C s H fp pn) c' (.c ifs))->Ts X (.set k (.comp [i] elt' it' c')) (.s (.Assign [.Name z p1] (.ListComp elt [⟨.Name y py,it,ifs,0⟩] scope p) pos)):=by
 intro _ _ _ _ _ _ _ _ _ _ _ _ _ _ _ _ hq hk hx hf hsw hi hl hkind hok hs hit he hc;refine⟨λfu Γ G=>?_⟩;intro c g ρ P h;exact Nx hq c hk hx hf hsw (λρ ds z=>sound hit c g ρ ds z) hkind hok hs (λρ d ρ2 hb hun=>by
  simp only[zc]at hb
  cases hb
  have hu:=hun _ (xu.mpr rfl)
  exact⟨_,jz,Wk.set hu,Y7 hu,λC s H fp pn=>DG.name _ c.nd hi (Bk hl) (Cm hl)⟩)
  (λC s H fp pn ρ r z=>sound (he C s H fp pn) c.comp g.comp ρ r z) (λC s H fp pn ρ=>sound (hc C s H fp pn) c.comp g.comp ρ) h
theorem Ts.mov:∀{X:Cx}{i j:Nat}{x y:ag}{p q pos:aN}(hi:X.N[i]?=a5 x) (hj:X.N[j]?=a5 y) (hx:Loc X.env.scope x) (hf:X.fn x=a8\/X.env.scope.names.lookup x=a5 .local) (hv:Vis X.env.scope y) (hd:(y==k4r)=a6) (hcd:(y==k4s)=a6),Ts X (.mov i j) (.s (.Assign [.Name x p] (.Name y q) pos)):=by
 intro _ _ _ _ _ _ _ _ hi hj hx hf hv hd hcd;refine⟨λfu Γ G=>?_⟩;intro c g ρ P h;rw[jbf]at h;unfold Mu at h;split at h
 .rename_i l e;obtain⟨a,q⟩:=J5 e;split at h
  .exact h.elim
  .rename_i hij;exact DS.mov q hij (h _ (by rw[jz,jz];rfl)) c.nd hi hj hx hf hv hd hcd
 .rename_i d e;exact DS.set _ (DE.var _ (Yw e) hj hv hd hcd) (h _ jz) c.nd hi hx rfl hf
 .exact h.elim
theorem Ts.expr:∀{X:Cx}{e':Ex}{e:ah}{pos:aN}(hs:aZ e a7 pos.line X.env=pure a6),Tr X e' (.e e)->Ts X (.expr e') (.s (.Expr e pos)):=by
 intro _ _ _ _ hs he;refine⟨λfu Γ G=>?_⟩;intro c g ρ P h;rw[j98]at h;unfold O9 at h;rcases Qu h with h|⟨y,ey,hP⟩
 rotate_left
 .exact DS.exprX (Ma he c g ρ y ey) (hP ρ rfl) hs
 split at h
 .rename_i r e;exact DS.expr (sound he c g ρ r e).toT (h ρ rfl) hs
 .exact h.elim
theorem Ts.ret:∀{X:Cx}{e':Ex}{e:ah}{pos:aN},Tr X e' (.e e)->Ts X (.ret e') (.s (.Return (a5 e) pos)):=by
 intro _ _ _ _ he;refine⟨λfu Γ G=>?_⟩;intro c g ρ P h;rw[j34]at h;unfold retS at h;rcases Qu h with h|⟨y,ey,hP⟩
 rotate_left
 .exact DS.retX (Ma he c g ρ y ey) (hP ρ rfl)
 split at h
 .rename_i l e;exact DS.retO (sound he c g ρ _ e) (h _ rfl)
 .rename_i r hn e;exact DS.ret (sound he c g ρ _ e).toT (h _ rfl)
 .exact h.elim
theorem Ts.retV:∀{X:Cx}{i:Nat}{x:ag}{p pos:aN}(hi:X.N[i]?=a5 x) (hv:Vis X.env.scope x) (hd:(x==k4r)=a6) (hcd:(x==k4s)=a6),Ts X (.retV i) (.s (.Return (a5 (.Name x p)) pos)):=by
 intro _ _ _ _ _ hi hv hd hcd;refine⟨λfu Γ G=>?_⟩;intro c g ρ P h;rw[j95]at h;unfold Vs at h;split at h
 .rename_i l e;obtain⟨a,q⟩:=J5 e;exact DS.retV _ q (h _ rfl) hi hv hd hcd
 .rename_i d e;exact DS.ret (DE.toT (DE.var _ (Yw e) hi hv hd hcd)) (h _ rfl)
 .exact h.elim
theorem Ts.ife:∀{X:Cx}{c':Ex}{a b:Sx}{c:ah}{sa sb:List aM}{pos:aN},Tr X c' (.b c)->Ts X a (.ss sa)->Ts X b (.ss sb)->Ts X (.ife c' a b) (.s (.If c sa sb pos)):=by
 intro _ _ _ _ _ _ _ _ hc q1 q2;refine⟨λfu Γ G=>?_⟩;have iha:=q1.m fu Γ G;have ihb:=q2.m fu Γ G;intro c g ρ P h;rw[jbg]at h;split at h
 .rename_i e;exact DS.if (sound hc c g ρ a8 e) (λ_=>iha c g ρ P h) λz=>by cases z
 .rename_i e;exact DS.if (sound hc c g ρ a6 e) (λz=>by cases z) λ_=>ihb c g ρ P h
 .exact h.elim
theorem Ts.for1:∀{X:Cx}{i:Nat}{y:ag}{it':Ex}{b:Sx}{it:ah}{body:List aM} {p pos:aN} (hq:X.calm=a8) (hi:X.N[i]?=a5 y) (hx:Loc X.env.scope y) (hf:X.fn y=a8\/X.env.scope.names.lookup y=a5 .local) (hs:∀x,aQ it X.env x=pure x),Tr X it' (.i (.Name y p) it)->Ts X b (.ss body)->Ts X (.loop [i] it' b) (.s (.For (.Name y p) it body [] pos)):=by intro _ _ _ _ _ _ _ _ _ hq hi hx hf hs hit q1;refine⟨λfu Γ G=>?_⟩;have ih:=q1.m fu Γ G;intro c g ρ P h;exact Fp hq c hs (bind1 c.nd hi hx hf) (λρ ds z=>sound hit c g ρ ds z) (ih c g) h
theorem Ts.app:∀{X:Cx}{i:Nat}{x:ag}{e':Ex}{e:ah}{p p1 p2 pos:aN}(hN:X.N[i]?=a5 x) (hv:Vis X.env.scope x) (hd:(x==k4r)=a6) (hcd:(x==k4s)=a6) (hst:aa [e] X.env=[(a6,aG e X.env)]) (hline:(p1.endLine==p2.line)=a8) (hbase:d5 (.Name x p) "append" X.env (aG (.Name x p) X.env)=aG (.Name x p) X.env) (hfew:((aS p2 (aa [e] X.env)).all (λx=>!x.1)&&(eL p2 (cX [] X.env)).all (λx=>x.1.isSome)&&decide (([e]:List ah).length+([]:List cC).length+(if ([]:List cC).isEmpty then 0 else 1)<30))=a8),Tr X e' (.e e)->Ts X (.app i e') (.s (.Expr (.Call (.Attribute (.Name x p) "append" p1) [e] [] p2) pos)):=by
 intro _ _ _ _ _ _ _ _ _ hN hv hd hcd hst hline hbase hfew he;refine⟨λfu Γ G=>?_⟩;intro c g ρ P h;rw[jbi]at h;unfold j25 at h;split at h
 .rename_i l x el ex;obtain⟨a,q⟩:=J5 el;split at h
  .rename_i d hd';split at h
   .rename_i hz;exact DS.append _ q ((sound he c g ρ x ex).toE hd') hz (h _ jz) hN hv hd hcd hst hline hbase hfew rfl
   .exact h.elim
  .exact h.elim
 .exact h.elim
theorem Ts.ext:∀{X:Cx}{i:Nat}{x:ag}{e':Ex}{e:ah}{p p1 p2 pos:aN}(hN:X.N[i]?=a5 x) (hv:Vis X.env.scope x) (hd:(x==k4r)=a6) (hcd:(x==k4s)=a6) (hst:aa [e] X.env=[(a6,aG e X.env)]) (hline:(p1.endLine==p2.line)=a8) (hbase:d5 (.Name x p) "extend" X.env (aG (.Name x p) X.env)=aG (.Name x p) X.env) (hfew:((aS p2 (aa [e] X.env)).all (λx=>!x.1)&&(eL p2 (cX [] X.env)).all (λx=>x.1.isSome)&&decide (([e]:List ah).length+([]:List cC).length+(if ([]:List cC).isEmpty then 0 else 1)<30))=a8),Tr X e' (.e e)->Ts X (.ext i e') (.s (.Expr (.Call (.Attribute (.Name x p) "extend" p1) [e] [] p2) pos)):=by
 intro _ _ _ _ _ _ _ _ _ hN hv hd hcd hst hline hbase hfew he;refine⟨λfu Γ G=>?_⟩;intro c g ρ P h;rw[jbh]at h;unfold W6 at h;split at h
 .rename_i l m el ex;obtain⟨a,q⟩:=J5 el;split at h
  .rename_i hz;exact DS.extend _ q (sound he c g ρ _ ex) (qp hz) (h _ jz) hN hv hd hcd hst hline hbase hfew rfl
  .exact h.elim
 .exact h.elim
theorem Ts.raise:∀{X:Cx}{x:ag}{e':Ex}{e:ah}{np cpos pos:aN}(hq:X.calm=a8)(hg:Gl X x) (hdb:(x==k4r)=a6) (hs:aa [e] X.env=[(a6,aG e X.env)]),Tr X e' (.e e)->Ts X (.raise x e') (.s (.Raise (a5 (.Call (.Name x np) [e] [] cpos)) a7 pos)):=by
 intro _ _ _ _ _ _ _ hq hg hdb hs he;refine⟨λfu Γ G=>?_⟩;intro c g ρ P h;rw[j5d]at h;unfold Uw at h;split at h
 .rename_i r d er eg;obtain⟨hx,o,ho⟩:=c.ec _ _ eg;exact DS.raiseE c.ea hx ho (W.mg_of c.kin c.ns ho) c.kin hq (λσ H R=>(sound he c g ρ r er).toT σ H _ R λv H' g' _=>g') (h ρ rfl) hg hdb hs
 .exact h.elim
theorem Ts.tryK:∀{X:Cx}{b:Sx}{i j:Nat}{n k:ag}{body:List aM}{p p1 p2 p3 p4 p5 pos hpos:aN}(hq:X.calm=a8) (hst:X.stack=X.env::X.outer) (hfm:X.env.frame=a5 X.env.locals) (hgA:Gl X "AskError") (hg:Gl X "_law_kinds") (hN:X.N[j]?=a5 n) (hlo:X.env.scope.names.lookup n=a5 .local) (hd:(n==k4r)=a6) (hcd:(n==k4s)=a6) (hi:X.N[i]?=a5 k) (hxk:Loc X.env.scope k) (hfk:X.fn k=a8\/X.env.scope.names.lookup k=a5 .local) (hfn:X.fn n=a8\/X.env.scope.names.lookup n=a5 .local) (hs:aZ (.Call (.Name "_law_kinds" p) [.Name n p1] [] p2) (a5 (.Name k p3)) p4.line X.env=pure a6) (he:aa [.Name n p1] X.env=(a6,aG (.Name n p1) X.env)::aa [] X.env) (hpl:(aS p2 (aa [] X.env)).any (·.1)=a6),(∀pn xe,Ts { X with pn:=pn,xe:=xe } b (.ss body))->Ts X (.tryK b i j) (.s (.Try body [.ExceptHandler (a5 (.Name "AskError" p5)) (a5 n) [.Assign [.Name k p3] (.Call (.Name "_law_kinds" p) [.Name n p1] [] p2) p4] hpos] [] [] pos)):=by
 intro _ _ _ _ _ _ _ _ _ _ _ _ _ _ _ hq hst hfm hgA hg hN hlo hd hcd hi hxk hfk hfn hs he hpl q0;refine⟨λfu Γ G=>?_⟩;have ih:=λpn xe=>(q0 pn xe).m fu Γ G;intro c g ρ P h;refine DS.tryK (λpn xe hpo=>?_) c.ea hst hfm (c.dp hq) (c.un hq) c.nd hgA hg (by decide) hN hlo hd hcd hi hxk hfk hfn hs he hpl;refine ih pn xe ⟨c.un',c.un,c.dp,c.bt,c.gl,c.nd,hpo,c.ea,c.ec,c.el,c.kin,c.ns,c.kd,c.fn,λd e=>⟨(c.pl d e).ex⟩,λd e=>let ⟨C,h1,h2⟩:=c.pc d e;⟨C,h1,⟨h2.ex⟩⟩,c.gd,c.fr,c.lm⟩ ?_ ρ _ ?_
 .intro f ds;have q:=g f ds;cases e:Γ f ds with
  |val d=>rw[e]at q;exact⟨q.ex⟩
  |fresh l=>rw[e]at q;exact⟨q.ex⟩
  |err x=>rw[e]at q;exact⟨q.ex⟩
  |lval d=>rw[e]at q;exact q
  |mval d k=>rw[e]at q;exact λg ls k ds' h1 h2 C h3=>⟨(q g ls k ds' h1 h2 C h3).ex⟩
  |merr x=>rw[e]at q;exact λg ls k ds' h1 h2 C h3=>⟨(q g ls k ds' h1 h2 C h3).ex⟩
  |no=>trivial
 .rw[j94]at h;split at h
  .rename_i x ρ' e;rw[e];split at h
   .rename_i l eg;obtain⟨hx,o,ho⟩:=c.ec _ _ eg;intro ρ2 e2;exact⟨hx,⟨o,ho⟩,l,c.kd x l eg,λe' oe a=>h _ (by rw[jz,jz,jz,e2];rfl)⟩
   .exact h.elim
  .rename_i o hn;cases e:run fu Γ G _ (j7 ρ) with
   |err x ρ'=>exact absurd e (hn x ρ')
   |next ρ'=>rw[e]at h;exact h
   |ret r=>rw[e]at h;exact h
   |brk r=>rw[e]at h;exact h
   |cnt r=>rw[e]at h;exact h
   |no=>rw[e]at h;exact h
section
theorem Qj{fu:Nat}{Γ:ag->List D->Rc}{G:ag->Option D}{X:Cx}{t:Sx}{nd:Ns}(h:Ts X t nd):Cok X G->Gok X Γ->j35 fu Γ G X t nd:=h.m fu Γ G
end
section
variable{X:Cx}{pi i:Nat}{x y f:ag}{c' e' m' es':Ex}{c e m cl:ah}{es:List ah}{r b:Px}{st:aM}{sa rest:List aM}{p py p1 p2 p3 p4 p5 pos:aN}{ρ:Rho}{o:Ob}
end
structure Fi where
 n:Nat
 nn:Nat
 body:Sx
 lam:Bool
noncomputable def j7c:Rc->Rc
 |.val d=>.lval d
 |_=>.no
noncomputable def fin:So->Rc
 |.ret r=>r
 |.next _=>.val .non
 |.err x _=>.err x
 |_=>.no
noncomputable def enter(F:Fi)(ds:List D):En:=ds.map Sv.val++aq (F.nn-F.n) Sv.un
noncomputable def evP(fu:Nat)(G:ag->Option D)(T:ag->Option Fi):Nat->ag->List D->Rc
 |0,_,_=>.no
 |n+1,f,ds=>match T f with
  |none=>.no
  |some F=>if ds.length=F.n then(if F.lam=a8 then j7c (fin (run fu (evP fu G T n) G F.body (enter F ds)))else fin (run fu (evP fu G T n) G F.body (enter F ds)))else .no
structure Lk(P:ak)(w:ax)(K:k4n)(mg:k4q)(base:aD)(x:ag)(F:Fi):Prop where
 ex:∃(st:aM)(f:af)(fd:aH)(N ps:List ag),Fun K x x st f fd/\FnScope N ps (j0 st)/\ps.length=F.n/\N.length=F.nn/\Binds K fd ps []/\Dfl K x fd ps/\mg x=a5 (.ref f) /\
  ∀(cdv:a9)(A:az)(outer:List c8)(s:ae)(H:Hp)(E:XK)(xe:k4o),Ts ((jy CX0 P w K mg base N x (j0 st) f cdv A outer s H E).wish xe) F.body (.ss (jb st))
structure LkL(P:ak)(w:ax)(K:k4n)(mg:k4q)(base:aD)(x:ag)(F:Fi):Prop where
 ex:∃(tx:Tx)(N ps:List ag)(e:Ex),Fv K x=a5 tx/\LamScope N ps tx.2.2/\N.length=F.n/\F.nn=F.n/\F.body=.ret e /\
  (∀(cl:List (ag×af)) (pm:a9) (c:af) (ctv:a9) (us:List a9),us.length=ps.length->bY (W.kla_fn "<lambda>" (qu x) tx.1 tx.2.1 tx.2.2 cl pm (.ref c) ctv) ⟨us,[]⟩=pure (ps.zip us)) /\
  ∀(a c:af)(cl:List (ag×af)) (A:az) (outer:List c8) (s:ae) (H:Hp),Tr (Z4 P w K mg base N (qu x) tx.2.2 a (.ref c) cl A outer s H) e (.e tx.2.1)
def Ds(P:ak)(w:ax)(K:k4n)(mg:k4q)(base:aD)(C:af):Prop:=∃(fA fT fL fI:af)(dA dT dL dI:aH),PcT K mg C fA fT fL fI/\(FnOk P w K mg base CX0 1 fA dA ["self"] (Bs C)/\Binds K dA ["self"] []) /\
  (FnOk P w K mg base CX0 2 fT dT ["self"] (Bq C)/\Binds K dT ["self"] [])/\(FnOk P w K mg base CX0 1 fL dL ["self"] (j2c C)/\Binds K dL ["self"] [])/\(FnOk P w K mg base CX0 1 fI dI ["self","text"] (Br C)/\Binds K dI ["self","text"] [])
structure LkP(P:ak)(w:ax)(K:k4n)(mg:k4q)(base:aD)(x:ag)(F:Fi):Prop where
 ex:∃(g:ag)(p:Px)(st:aM)(f:af)(fd:aH)(N ps:List ag),x=mq g/\F.body=.px p/\Fun K g g st f fd/\FnScope N ps (j0 st)/\ps.length+1=F.n/\N.length+1=F.nn/\0<ps.length/\ps.length<=N.length/\Binds K fd ps []/\mg g=a5 (.ref f)/\(∃C,mg "Pieces" = a5 (.ref C)/\Ds P w K mg base C) /\
  ∀(cdv:a9)(A:az)(outer:List c8)(s:ae)(H:Hp)(E:XK)(xe:k4o),MP ((jy CX0 P w K mg base N g (j0 st) f cdv A outer s H E).wish xe) 0 p (jb st)
def LkF(P:ak)(w:ax)(K:k4n)(mg:k4q)(base:aD)(f:ag)(F:Fi):Prop:=(F.lam=a6->(Lk P w K mg base f F/\f.cps.toList.getLast?≠a5 62/\f.cps.toList.head?≠a5 64)\/LkP P w K mg base f F)/\(F.lam=a8->∃x,f=qu x/\LkL P w K mg base x F)
def Eh(P:ak)(w:ax)(K:k4n)(mg:k4q)(base:aD):Prop:=∃(f:af)(fd:aH)(ps:List ag),FnOk P w K mg base CX0 11 f fd ps (j5p K j2e)/\mg "_law_plan" = a5 (.ref f)/\W.keepIn K (.ref f)=a8/\Binds K fd ps []/\Dfl K "_law_plan" fd ps
structure Tb(P:ak)(w:ax)(K:k4n)(mg:k4q)(base:aD)(G:ag->Option D):Prop where
 bt:∀x∈Jq,mg x=a7
 gl:∀x d,Q8 x=a6->G x=a5 d->∃u v,mg x=a5 u/\RelV v u/\∀H,Enc K H d v
 ea:J7 K=a8
 ec:∀x d,G (bang x)=a5 d->x∈jh/\∃o,W.nsIn K aj x=a5 (a5 o)
 el:G "?" = a5 (.bl a8)->∀c∈jh,∃v,W.nsIn K aj c=a5 (a5 v)
 kin:K.In base
 ns:base.Ns aj mg
 kd:∀x l,G (bang x)=a5 (.lst l)->KindsP P w K mg base "_law_kinds" x l
 fn:∀f d,G (qm f)=a5 d->∃fa,mg f=a5 (.ref fa)/\W.keepIn K (.ref fa)=a8
 pl:∀d,G (qm "_law_plan")=a5 d->Eh P w K mg base
 pc:∀d,G (qm "Pieces")=a5 d->∃C,mg "Pieces" = a5 (.ref C)/\Ds P w K mg base C
 lm:∀x∈Ju,∀f cdv,mg x=a5 (.ref f)->Z9 K f cdv->∃c Pt,cdv=.ref c/\W.codeHdIn K c Pt=a8/\W.tabIn K x=a5 (c,Pt)
structure LkH(P:ak)(w:ax)(K:k4n)(mg:k4q)(base:aD)(x:ag)(F:Fi):Prop where
 ex:∃(st:aM)(f:af)(fd:aH)(N:List ag)(p:ag),Fun K x x st f fd/\FnScope N [p] (j0 st)/\1<=N.length/\N.length=F.nn/\Binds K fd [p] []/\mg x=a5 (.ref f) /\
  ∀(cdv:a9)(A:az)(outer:List c8)(s:ae)(H:Hp),Ts { (jy CX0 P w K mg base N x (j0 st) f cdv A outer s H E0).nox with calm:=a6 } F.body (.ss (jb st))
section
variable{P:ak}{w:ax}{K:k4n}{mg:k4q}{base:aD}{fu:Nat}{G:ag->Option D}{T:ag->Option Fi}
theorem V1{N:List ag}{ds:List D}{F:Fi}(h1:ds.length=F.n)(h2:N.length=F.nn):j7 (jt N ds)=enter F ds:=by unfold j7 jt enter;rw[Pk,Pa,dw,h1,h2];rfl
theorem Vm(y:ag):(bang y).cps.toList.head?=a5 33:=by unfold bang;show(("!":ag).cps++y.cps).toList.head?=a5 33;rw[bJ];rfl
theorem Bx(y:ag):(mq y).cps.toList.head?=a5 64:=by unfold mq;show(("@":ag).cps++y.cps).toList.head?=a5 64;rw[bJ];rfl
theorem j6y{x y:ag}(h:mq x=mq y):x=y:=by unfold mq at h;have h:(⟨("@":ag).cps++x.cps⟩:ag)=⟨("@":ag).cps++y.cps⟩:=h;have h:=congrArg gu h;have e:x.cps=y.cps:=cU h rfl;cases x;cases y;cases e;rfl
theorem Bm:∀ls:List ag,strsOf (ls.map D.str)=a5 ls
 |[]=>rfl
 |_::l=>by rw[Xi,strsOf,Bm l];rfl
theorem Bj{N:List ag}{a:af}{ds:List D}{F:Fi}{ls:List D}{k:Int}(h1:ds.length+2=F.n)(h2:N.length+1=F.nn):j7 (startM N a ds)=.exc rfN::(enter F (.lst ls::.int k::ds)).drop 2:=by
 have e:N.length-(ds.length+1)=F.nn-F.n:=by omega
 unfold startM;rw[jz];unfold j7 jt enter;rw[Pk,Pa,dw];simp only[Xi,gB,bP,List.drop_succ_cons,eQ,X5,e];rfl
theorem Np (y:ag):bang y ≠ "?":=λh=>by have:=Vm y;rw[h]at this;exact absurd this (by decide)
theorem Bt(y:ag):(qm y).cps.toList.head?=a5 63:=by unfold qm;show(("??":ag).cps++y.cps).toList.head?=a5 63;rw[bJ];rfl
theorem Ro (y:ag):qm y ≠ "?":=λh=>by
 have e:((qm y).cps.toList.drop 1).head?=a5 63:=by unfold qm;show((("??":ag).cps++y.cps).toList.drop 1).head?=a5 63;rw[bJ];rfl
 rw[h]at e;exact absurd e (by decide)
theorem j68{x y:ag}(h:qm x=qm y):x=y:=by unfold qm at h;have h:(⟨("??":ag).cps++x.cps⟩:ag)=⟨("??":ag).cps++y.cps⟩:=h;have h:=congrArg gu h;have e:x.cps=y.cps:=cU h rfl;cases x;cases y;cases e;rfl
theorem Nm(x y:ag):bang x≠qm y:=λh=>by have:=Vm x;rw[h,Bt]at this;exact absurd this (by decide)
theorem Zf{x y z:ag}(h:x++z=y++z):x=y:=by have h:(⟨x.cps++z.cps⟩:ag)=⟨y.cps++z.cps⟩:=h;have h:=congrArg gu h;have e:x.cps=y.cps:=Array.append_inj_left' h rfl;cases x;cases y;cases e;rfl
theorem j0s{x y:ag}(h:qu x=qu y):x=y:=Zf (Zf h)
theorem Wq(x:ag):(qu x).cps.toList.getLast?=a5 62:=by unfold qu;show(((x ++ ".<locals>.").cps)++("<lambda>":ag).cps).toList.getLast?=a5 62;rw[bJ,List.getLast?_append];rfl
theorem Ft(x:ag):qu x∉Ju:=λh=>by
 have e:=Wq x
 revert e
 unfold Ju at h;rcases xf.mp h with h|h
 .rw[h];decide
 rcases xf.mp h with h|h
 .rw[h];decide
 rcases xf.mp h with h|h
 .rw[h];decide
 .rw[xu.mp h];decide
theorem Bb (z:ag) (hz:z∈Ju) (hq:("_law_kinds":ag) ++ ".<locals>." = z ++ ".<locals>."):False:=by have e:=Zf hq;subst e;exact absurd hz (by decide)
noncomputable def G0(x:ag):Option D:=if x = "?" then a5 (.bl a8)else a7
theorem Ba {F:Fi} (L:LkH P w K mg base "_law_kinds" F) (bt:∀x∈Jq,mg x=a7) (ea:J7 K=a8) (el:∀c∈jh,∃v,W.nsIn K aj c=a5 (a5 v)) (kin:K.In base) (ns:base.Ns aj mg) {x:ag} {l:List D} (hnl:ju l=a8)
  (hr:run fu (λ_ _=>.no) G0 F.body (.exc x::aq (F.nn-1) .un)=.ret (.fresh l)):KindsP P w K mg base "_law_kinds" x l:=by
 obtain⟨st,f,fd,N,p,hfun,hsc,h1,hN,hb,hm,hts⟩:=L.ex;refine kinds_of hfun hsc hb hm h1 hnl λcdv A outer s H e o hdp hun=>?_;have nob:∀y,G0 (bang y)=a7:=λy=>if_neg (Np y);have c:Cok { (jy CX0 P w K mg base N "_law_kinds" (j0 st) f cdv A outer s H E0).nox with calm:=a6 } G0:=by
  refine⟨?_,(λz=>by cases z),(λz=>by cases z),bt,λy d hb q=>?_,hsc.nd,Pb,ea,λy d q=>?_,λ_=>el,kin,ns,λy l' q=>?_,λf d q=>?_,λd q=>?_,λd q=>?_,(λz=>by cases z),⟨_,_,_,rfl,rfl,rfl⟩,λz hz hq=>(Bb z hz hq).elim⟩
  .show A.units+3+100<aX;omega
  .unfold G0 at q;split at q
   .rename_i z;subst z;cases hb
   .cases q
  .rw[nob]at q;cases q
  .rw[nob]at q;cases q
  .rw[show G0 (qm f)=a7 from if_neg (Ro f)]at q;cases q
  .rw[show G0 (qm "_law_plan")=a7 from if_neg (Ro _)]at q;cases q
  .rw[show G0 (qm "Pieces")=a7 from if_neg (Ro _)]at q;cases q
 refine Qj (fu:=fu) (Γ:=λ_ _=>.no) (G:=G0) (hts cdv A outer s H) c (λ_ _=>trivial) _ _ ?_;have ab:j7 (.raw e o x::aq (N.length-1) .un)=.exc x::aq (F.nn-1) .un:=by unfold j7;rw[Xi,dw,hN];rfl
 rw[ab,hr];intro y hy;cases y with
 |val d=>cases hy
 |fresh l=>cases hy;rfl
theorem j60{fu:Nat}{Γ:ag->List D->Rc}{G:ag->Option D}{e:Ex}{ρ:En}{d:D}(h:fin (run fu Γ G (.ret e) ρ)=.val d):∃r,ev Γ G e ρ=a5 (.v r)/\r.d=d:=by
 rw[j34]at h;cases z:ev Γ G e ρ with
 |none=>rw[z]at h;cases y:er Γ G e ρ<;>(rw[y]at h;cases h)
 |some w =>
  cases w with
  |v r =>
   rw[z]at h;cases r with
   |o l=>cases h
   |e d=>cases h;exact⟨_,rfl,rfl⟩
   |w l=>cases h;exact⟨_,rfl,rfl⟩
   |t d=>cases h;exact⟨_,rfl,rfl⟩
  |a l=>rw[z]at h;cases y:er Γ G e ρ<;>(rw[y]at h;cases h)
  |i l=>rw[z]at h;cases y:er Γ G e ρ<;>(rw[y]at h;cases h)
theorem Fb{C:af}(h:Ds P w K mg base C){X:Cx}{n:Nat}(h1:X.prog=P)(h2:X.w=w)(h3:X.K=K)(h4:X.mg=mg)(h5:X.base=base)(hn:12<=n)(hr:Room n X.A):PcX X C:=by subst h1 h2 h3 h4 h5;obtain⟨fA,fT,fL,fI,dA,dT,dL,dI,a,b,c,d,e⟩:=h;exact⟨fA,fT,fL,fI,dA,dT,dL,dI,a,b,c,d,e,hr.mono nofun⟩
theorem Jo (t:Tb P w K mg base G) {X:Cx} {n:Nat} (h1:X.prog=P) (h2:X.w=w) (h3:X.K=K) (h4:X.mg=mg) (h5:X.base=base) (hn:12<=n) (hr:Room n X.A) (nd:X.N.Nodup) (po:eT (ar X.prog X.w) X.A X.env X.xe) (hlm:∀x∈Ju,X.env.qual=x ++ ".<locals>."->∃c P,X.env.code=.ref c/\W.codeHdIn K c P=a8/\W.tabIn K x=a5 (c,P)) (hfr:∃(env0:c8)(out0:List c8)(L:af),X.stack=env0::out0/\env0.frame=a5 L/\X.env.frame=a5 L:=by exact⟨_,_,_,rfl,rfl,rfl⟩):Cok X G:=by subst h1 h2 h3 h4 h5;exact⟨by have:=hr.un;omega,(λ_=>by have:=hr.un;omega),(λ_=>by have:=hr.dp;omega),t.bt,t.gl,nd,po,t.ea,t.ec,t.el,t.kin,t.ns,t.kd,t.fn,λd e=>let ⟨f,fd,ps,F,h1,h2,h3,h4⟩:=t.pl d e;⟨11,f,fd,ps,F,hr.mono hn,h1,h2,h3,h4⟩,λd e=>let ⟨C,h1,h2⟩:=t.pc d e;⟨C,h1,Fb h2 rfl rfl rfl rfl rfl hn hr⟩,(λ_=>hr.gd),hfr,hlm⟩
theorem Z2 (t:Tb P w K mg base G) {g:ag} {f:af} {cdv:a9} {env:c8} (hm:mg g=a5 (.ref f)) (hcv:Z9 K f cdv) (hq:env.qual=g ++ ".<locals>.") (hc:env.code=cdv):∀x∈Ju,env.qual=x ++ ".<locals>."->∃c P,env.code=.ref c/\W.codeHdIn K c P=a8/\W.tabIn K x=a5 (c,P):=λx hx e=>by have eg:=Zf (hq.symm.trans e);subst eg;rw[hc];exact t.lm _ hx f cdv hm hcv
noncomputable def lv:Nat->Nat
 |0=>12
 |n+1=>lv n+2
theorem Je:∀n,12<=lv n+1
 |0=>by decide
 |n+1=>by have:=Je n;unfold lv;omega
theorem U8(hT:∀x F,T x=a5 F->LkF P w K mg base x F)(t:Tb P w K mg base G):∀(n:Nat)(x:ag)(ds:List D),
  ∃(f:af)(fd:aH)(ps:List ag),match evP fu G T n x ds with
   |.val d=>FnOk P w K mg base CX0 (lv n) f fd ps (spP K λds' d'=>ds'=ds/\d'=d)/\mg x=a5 (.ref f)/\W.keepIn K (.ref f)=a8/\Binds K fd ps []/\Dfl K x fd ps
   |.fresh l=>FnOk P w K mg base CX0 (lv n) f fd ps (spF K λds' l'=>ds'=ds/\l'=l)/\mg x=a5 (.ref f)/\W.keepIn K (.ref f)=a8/\Binds K fd ps []/\Dfl K x fd ps
   |.err y=>FnOk P w K mg base (CX1 P w) (lv n) f fd ps (spX K mg λds' z=>ds'=ds/\z=y)/\mg x=a5 (.ref f)/\W.keepIn K (.ref f)=a8/\Binds K fd ps []
   |.lval d=>∀y,x=qu y->Dt P w K mg base (lv n) y λds' d'=>ds'=ds/\d'=d
   |.mval d k'=>∀g ls (k:Nat) ds',x=mq g->ds=.lst (ls.map D.str)::.int (k:Int)::ds'->∀C,mg "Pieces" = a5 (.ref C)->FnOk P w K mg base CX0 (lv n) f fd ps (spM K C λls2 k2 ds2 d2 k2'=>ls2=ls/\k2=k/\ds2=ds'/\d2=d/\k2'=k')/\mg g=a5 (.ref f)/\W.keepIn K (.ref f)=a8/\Binds K fd ps []
   |.merr y=>∀g ls (k:Nat) ds',x=mq g->ds=.lst (ls.map D.str)::.int (k:Int)::ds'->∀C,mg "Pieces" = a5 (.ref C)->FnOk P w K mg base (CX1 P w) (lv n) f fd ps (j00 K mg C λls2 k2 ds2 x2=>ls2=ls/\k2=k/\ds2=ds'/\x2=y)/\mg g=a5 (.ref f)/\W.keepIn K (.ref f)=a8/\Binds K fd ps []
   |.no=>True
 |0,x,ds=>⟨0,W.fnOf x x { posonlyargs:=[],args:=[],vararg:=a7,kwonlyargs:=[],kw_defaults:=[],kwarg:=a7,defaults:=[] } [] { kind:=.function,names:=[],isGenerator:=a6,isCoroutine:=a6 } .none .none .none .none a7 .none .none,[],trivial⟩
 |n+1,x,ds=>by
  have ih:=U8 hT t n;cases hF:T x with
  |none =>
   obtain⟨f,fd,ps,_⟩:=ih x ds;refine⟨f,fd,ps,?_⟩;have e:evP fu G T (n+1) x ds=.no:=by simp only[evP,hF]
   rw[e];trivial
  |some F =>
   have gok:∀{X:Cx},X.prog=P->X.w=w->X.K=K->X.mg=mg->X.base=base->Room (lv n+1) X.A->Gok X (evP fu G T n):=λ{X} h1 h2 h3 h4 h5 hr g ds'=>by
    subst h1 h2 h3 h4 h5;obtain⟨f',fd',ps',q⟩:=ih g ds';cases z:evP fu G T n g ds' with
    |val d=>rw[z]at q;exact⟨lv n,f',fd',ps',q.1,hr,q.2.1,q.2.2.1,q.2.2.2⟩
    |fresh l=>rw[z]at q;exact⟨lv n,f',fd',ps',q.1,hr,q.2.1,q.2.2.1,q.2.2.2⟩
    |err y=>rw[z]at q;exact⟨lv n,f',fd',ps',q.1,hr.mono (Xq _),q.2.1,q.2.2.1,q.2.2.2⟩
    |lval d=>rw[z]at q;exact λy hy=>⟨lv n,hr.mono (Xq _),q y hy⟩
    |mval d k=>rw[z]at q;exact λg' ls k ds'' h1 h2 C h3=>let ⟨a,b⟩:=q g' ls k ds'' h1 h2 C h3;⟨⟨lv n,f',fd',ps',a,hr.mono (Xq _),b⟩⟩
    |merr y=>rw[z]at q;exact λg' ls k ds'' h1 h2 C h3=>let ⟨a,b⟩:=q g' ls k ds'' h1 h2 C h3;⟨⟨lv n,f',fd',ps',a,hr.mono (Xq _),b⟩⟩
    |no=>trivial
   cases hlam:F.lam with
   |true =>
    obtain⟨f,fd,ps,_⟩:=ih x ds;refine⟨f,fd,ps,?_⟩;by_cases hl:ds.length=F.n
    .have e:evP fu G T (n+1) x ds=j7c (fin (run fu (evP fu G T n) G F.body (enter F ds))):=by simp only[evP,hF,if_pos hl,hlam,if_true]
     rw[e];obtain⟨y,ey,L⟩:=(hT x F hF).2 hlam;obtain⟨tx,N,ps,ex,htx,hsc,hN,hnn,hbd,hba,htr⟩:=L.ex;cases ho:fin (run fu (evP fu G T n) G F.body (enter F ds)) with
     |val d =>intro y' hy';have eyy:y=y':=j0s (ey.symm.trans hy');subst eyy;refine j7a (k:=lv n+1) htx hsc (λds' d' h=>by rw[h.1,hl,hN]) hba λa c cl A outer s H hcl hr ds' d' ⟨e1,e2⟩=>?_;subst e1 e2;have ab:j7 (jt N ds')=enter F ds':=V1 hl (by rw[hN,hnn]);rw[hbd,<-ab]at ho;obtain⟨r,er,ed⟩:=j60 ho;exact ed▸(sound (htr a c cl A outer s H) (Jo t rfl rfl rfl rfl rfl (Je _) hr hsc.nd Pb λz hz hq=>absurd (Zf hq▸hz) (Ft y)) (gok rfl rfl rfl rfl rfl hr) (jt N ds') r er).toT
     |fresh l=>trivial
     |err z=>trivial
     |lval z=>trivial
     |mval z k=>trivial
     |merr z=>trivial
     |no=>trivial
    .have e:evP fu G T (n+1) x ds=.no:=by simp only[evP,hF,if_neg hl]
     rw[e];trivial
   |false =>
   rcases(hT x F hF).1 hlam with ⟨L,hlast,hhead⟩|L
   rotate_left
   .obtain⟨g0,p,st,f,fd,N,ps,hxg,hbody,hfun,hsc,hps,hN,hp0,hpN,hb,hm,⟨C0,hC0,hPc⟩,hmp⟩:=L.ex;refine⟨f,fd,ps,?_⟩;by_cases hl:ds.length=F.n
    .have e:evP fu G T (n+1) x ds=fin (run fu (evP fu G T n) G F.body (enter F ds)):=by simp only[evP,hF,if_pos hl,hlam,pq,if_false]
     rw[e,hbody,run];cases ho:pxS (enter F ds)[0]? (enter F ds)[1]? λls k=>v7 fu (evP fu G T n) G ls p (.exc rfN::(enter F ds).drop 2) k with
     |next ρ' =>
      exfalso;unfold pxS at ho
      repeat' split at ho
      all_goals cases ho
     |brk _=>trivial
     |cnt _=>trivial
     |no=>trivial
     |err y ρ' =>
      exfalso;unfold pxS at ho
      repeat' split at ho
      all_goals cases ho
     |ret r =>
      have key:∀g ls (k:Nat) ds',x=mq g->ds=.lst (ls.map D.str)::.int (k:Int)::ds'->g0=g/\ds'.length+1=ps.length/\∀a:af,
        (∀d k',r=.mval d k'->v7 fu (evP fu G T n) G ls p (j7 (startM N a ds')) k=.ret d k')/\(∀y,r=.merr y->∃ρ',v7 fu (evP fu G T n) G ls p (j7 (startM N a ds')) k=.err y ρ'):=λg ls k ds' h1 h2=>by
       refine⟨j6y (hxg.symm.trans h1),?_,λa=>?_⟩
       .rw[h2]at hl;simp only[X5]at hl;omega
       rw[Bj (F:=F) (ls:=ls.map D.str) (k:=(k:Int)) (by rw[h2]at hl;simp only[X5]at hl;omega) hN,<-h2];have e0:(enter F ds)[0]?=a5 (.val (.lst (ls.map D.str))):=by rw[h2];rfl
       have e1:(enter F ds)[1]?=a5 (.val (.int (k:Int))):=by rw[h2];rfl
       rw[e0,e1]at ho;unfold pxS at ho;simp only[Bm,Pr,gr,if_true]at ho;split at ho
       .rename_i d k' z;cases ho;exact⟨λd2 k2 q=>(by cases q;exact z),λy q=>(by cases q)⟩
       .rename_i y ρ' z;cases ho;exact⟨λd2 k2 q=>(by cases q),λy q=>(by cases q;exact⟨_,z⟩)⟩
       .cases ho
      have sh:(∃d k',r=.mval d k')\/∃y,r=.merr y:=by
       unfold pxS at ho
       repeat' split at ho
       all_goals (cases ho)
       .exact .inl ⟨_,_,rfl⟩
       .exact .inr ⟨_,rfl⟩
      rcases sh with ⟨d,k',er⟩|⟨y,er⟩
      .subst er;intro g ls k ds' h1 h2 C hC;obtain⟨eg,hl2,kk⟩:=key g ls k ds' h1 h2;subst eg;cases hC0.symm.trans hC;refine⟨jcj (n:=lv n+1) hfun hsc (λls2 k2 ds2 d2 k2' h=>by rw[h.2.2.1,hl2]) λcdv A outer s H E hcv hr o ls2 k2 ds2 d2 k2' h=>?_,hm,hfun.kp,hb⟩;obtain⟨rfl,rfl,rfl,rfl,rfl⟩:=h;have ck:=Jo t (X:=(jy CX0 P w K mg base N g0 (j0 st) f cdv A outer s H E).nox) rfl rfl rfl rfl rfl (Je _) hr hsc.nd Pb (Z2 t hm hcv rfl rfl);refine hmp cdv A outer s H E _ fu (evP fu G T n) G ck (gok rfl rfl rfl rfl rfl hr) C0 hC0 (Fb hPc rfl rfl rfl rfl rfl (Je _) hr) o _ _ _ _ ⟨dOb,?_⟩ ?_
       .unfold startM;exact Q5 (by unfold jt;rw[Xe,xn,X5];omega)
       .rw[(kk o.a).1 _ _ rfl];exact⟨rfl,rfl⟩
      .subst er;intro g ls k ds' h1 h2 C hC;obtain⟨eg,hl2,kk⟩:=key g ls k ds' h1 h2;subst eg;cases hC0.symm.trans hC;refine⟨jaq (n:=lv n+1) hfun hsc (λls2 k2 ds2 y2 h=>by rw[h.2.2.1,hl2]) λcdv A outer s H E hcv hr o ls2 k2 ds2 y2 h=>?_,hm,hfun.kp,hb⟩;obtain⟨rfl,rfl,rfl,rfl⟩:=h;have ck:=Jo t (X:=jy (CX1 P w) P w K mg base N g0 (j0 st) f cdv A outer s H E) rfl rfl rfl rfl rfl (Je _) hr hsc.nd dh (Z2 t hm hcv rfl rfl);refine hmp cdv A outer s H E (jy (CX1 P w) P w K mg base N g0 (j0 st) f cdv A outer s H E).xe fu (evP fu G T n) G ck (gok rfl rfl rfl rfl rfl hr) C0 hC0 (Fb hPc rfl rfl rfl rfl rfl (Je _) hr) o _ _ _ _ ⟨dOb,?_⟩ ?_
       .unfold startM;exact Q5 (by unfold jt;rw[Xe,xn,X5];omega)
       .obtain⟨ρ',z⟩:=(kk o.a).2 _ rfl;rw[z];exact λ_ _=>rfl
    .have e:evP fu G T (n+1) x ds=.no:=by simp only[evP,hF,if_neg hl]
     rw[e];trivial
   obtain⟨st,f,fd,N,ps,hfun,hsc,hps,hN,hb,hdf,hm,hts⟩:=L.ex;refine⟨f,fd,ps,?_⟩;by_cases hl:ds.length=F.n
   .have e:evP fu G T (n+1) x ds=fin (run fu (evP fu G T n) G F.body (enter F ds)):=by simp only[evP,hF,if_pos hl,hlam,pq,if_false]
    have ab:j7 (jt N ds)=enter F ds:=V1 hl hN;cases ho:run fu (evP fu G T n) G F.body (enter F ds) with
    |next ρ' =>rw[e,ho];refine⟨W5 (k:=lv n+1) hfun hsc (λds' d' h=>by rw[h.1,hl,hps]) λcdv A outer s H E hcv hr ds' d' ⟨e1,e2⟩=>?_,hm,hfun.kp,hb,hdf⟩;subst e1 e2;refine Qj (fu:=fu) (hts cdv A outer s H E _) (Jo t rfl rfl rfl rfl rfl (Je _) hr hsc.nd Pb (Z2 t hm hcv rfl rfl)) (gok rfl rfl rfl rfl rfl hr) (jt N ds') _ ?_;rw[ab,ho];exact λ_ _=>rfl
    |ret r =>
     rw[e,ho];cases r with
     |no=>trivial
     |lval d=>exact λy hy=>absurd (hy▸Wq y) hlast
     |mval d k=>exact λg _ _ _ hy=>absurd (hy▸Bx g) hhead
     |merr d=>exact λg _ _ _ hy=>absurd (hy▸Bx g) hhead
     |err y =>refine⟨Km (k:=lv n+1) hfun hsc (λds' d' h=>by rw[h.1,hl,hps]) λcdv A outer s H E hcv hr ds' y' ⟨e1,e2⟩=>?_,hm,hfun.kp,hb⟩;subst e1 e2;refine Qj (X:=jy (CX1 P w) P w K mg base N x (j0 st) f cdv A outer s H E) (fu:=fu) (hts cdv A outer s H E (jy (CX1 P w) P w K mg base N x (j0 st) f cdv A outer s H E).xe) (Jo t rfl rfl rfl rfl rfl (Je _) hr hsc.nd dh (Z2 t hm hcv rfl rfl)) (gok rfl rfl rfl rfl rfl hr) (jt N ds') _ ?_;rw[ab,ho];intro z hz;cases z<;>cases hz
     |val d =>
      refine⟨W5 (k:=lv n+1) hfun hsc (λds' d' h=>by rw[h.1,hl,hps]) λcdv A outer s H E hcv hr ds' d' ⟨e1,e2⟩=>?_,hm,hfun.kp,hb,hdf⟩;subst e1 e2;refine Qj (fu:=fu) (hts cdv A outer s H E _) (Jo t rfl rfl rfl rfl rfl (Je _) hr hsc.nd Pb (Z2 t hm hcv rfl rfl)) (gok rfl rfl rfl rfl rfl hr) (jt N ds') _ ?_;rw[ab,ho];intro y hy;cases y with
      |val d=>cases hy;rfl
      |fresh l=>cases hy
     |fresh l =>
      refine⟨j1e (k:=lv n+1) hfun hsc (λds' d' h=>by rw[h.1,hl,hps]) λcdv A outer s H E hcv hr ds' d' ⟨e1,e2⟩=>?_,hm,hfun.kp,hb,hdf⟩;subst e1 e2;refine Qj (fu:=fu) (hts cdv A outer s H E _) (Jo t rfl rfl rfl rfl rfl (Je _) hr hsc.nd Pb (Z2 t hm hcv rfl rfl)) (gok rfl rfl rfl rfl rfl hr) (jt N ds') _ ?_;rw[ab,ho];intro y hy;cases y with
      |val d=>cases hy
      |fresh l=>cases hy;rfl
    |err y ρ' =>rw[e,ho];refine⟨Km (k:=lv n+1) hfun hsc (λds' d' h=>by rw[h.1,hl,hps]) λcdv A outer s H E hcv hr ds' y' ⟨e1,e2⟩=>?_,hm,hfun.kp,hb⟩;subst e1 e2;refine Qj (X:=jy (CX1 P w) P w K mg base N x (j0 st) f cdv A outer s H E) (fu:=fu) (hts cdv A outer s H E (jy (CX1 P w) P w K mg base N x (j0 st) f cdv A outer s H E).xe) (Jo t rfl rfl rfl rfl rfl (Je _) hr hsc.nd dh (Z2 t hm hcv rfl rfl)) (gok rfl rfl rfl rfl rfl hr) (jt N ds') _ ?_;rw[ab,ho];exact λ_ _=>rfl
    |brk _=>rw[e,ho];trivial
    |cnt _=>rw[e,ho];trivial
    |no=>rw[e,ho];trivial
   .have e:evP fu G T (n+1) x ds=.no:=by simp only[evP,hF,if_neg hl]
    rw[e];trivial
end
noncomputable def Gof(gs:List (ag×D))(q:Bool)(xs:List (ag×List D))(fs:List ag)(x:ag):Option D :=
 if Q8 x=a8 then(if x = "?" then(if q=a8 then a5 (.bl a8)else a7) else((xs.find? λp=>bang p.1==x).map λp=>.lst p.2).or (if (fs.any λf=>qm f==x)=a8 then a5 .non else a7))else gs.lookup x
theorem j23{x y:ag}(h:bang x=bang y):x=y:=by unfold bang at h;have h:(⟨("!":ag).cps++x.cps⟩:ag)=⟨("!":ag).cps++y.cps⟩:=h;have h:=congrArg gu h;have e:x.cps=y.cps:=cU h rfl;cases x;cases y;cases e;rfl
theorem Bh(x:ag):Q8 (bang x)=a8:=by unfold Q8;rw[Vm];rfl
theorem Ef(x:ag):Q8 (qm x)=a8:=by unfold Q8;rw[Bt];rfl
theorem O6{gs:List (ag×D)}{q:Bool}{xs:List (ag×List D)}{fs:List ag}{x:ag}{d:D}(h:Gof gs q xs fs (bang x)=a5 d):∃p∈xs,p.1=x/\d=.lst p.2:=by
 unfold Gof at h;rw[if_pos (Bh x),if_neg (Np x)]at h;have hn:(fs.any λf=>qm f==bang x)=a6:=by rw[List.any_eq_false];intro f _ e;exact Nm x f (beq_iff_eq.mp e).symm
 rw[hn,if_neg (by decide),Option.or_none]at h;obtain⟨p,hp,rfl⟩:=Xx.mp h;have z:=gJ (p:=λp:ag×List D=>bang p.1==bang x) hp;exact⟨p,eU hp,j23 (beq_iff_eq.mp z),rfl⟩
theorem O5{gs:List (ag×D)}{q:Bool}{xs:List (ag×List D)}{fs:List ag}{x:ag}{d:D}(h:Gof gs q xs fs (qm x)=a5 d):x∈fs:=by
 unfold Gof at h;rw[if_pos (Ef x),if_neg (Ro x)]at h;have hn:(xs.find? λp=>bang p.1==qm x)=a7:=by rw[List.find?_eq_none];intro p _ e;exact Nm p.1 x (beq_iff_eq.mp e)
 rw[hn,gm,Option.none_or]at h;split at h
 .rename_i z;obtain⟨f,hf,e⟩:=List.any_eq_true.mp z;exact j68 (beq_iff_eq.mp e)▸hf
 .cases h
theorem j9c{P:ak}{w:ax}{K:k4n}{mg:k4q}{base:aD}{gs:List (ag×D)}{q:Bool}{xs:List (ag×List D)}{fs:List ag}(bt:∀x∈Jq,mg x=a7)
  (gl:∀x d,gs.lookup x=a5 d->∃u v,mg x=a5 u/\RelV v u/\∀H,Enc K H d v) (ea:J7 K=a8) (hx:∀p∈xs,p.1∈jh/\∃o,W.nsIn K aj p.1=a5 (a5 o))
  (el:q=a8->∀c∈jh,∃v,W.nsIn K aj c=a5 (a5 v)) (kin:K.In base) (ns:base.Ns aj mg) (fn:∀f∈fs,∃fa,mg f=a5 (.ref fa)/\W.keepIn K (.ref fa)=a8) (kd:∀p∈xs,KindsP P w K mg base "_law_kinds" p.1 p.2) (lm:∀x∈Ju,∀f cdv,mg x=a5 (.ref f)->Z9 K f cdv->∃c Pt,cdv=.ref c/\W.codeHdIn K c Pt=a8/\W.tabIn K x=a5 (c,Pt)) (pl:("_law_plan":ag)∈fs->Eh P w K mg base:=by exact λh=>absurd h (by decide)) (pc:("Pieces":ag)∈fs->∃C,mg "Pieces" = a5 (.ref C)/\Ds P w K mg base C:=by exact λh=>absurd h (by decide)):Tb P w K mg base (Gof gs q xs fs):=by
 refine⟨bt,λx d hb h=>?_,ea,λx d h=>?_,λh=>el ?_,kin,ns,λx l h=>?_,λf d h=>fn f (O5 h),λd h=>pl (O5 h),λd h=>pc (O5 h),lm⟩
 .unfold Gof at h;rw[if_neg (by rw[hb];decide)]at h;exact gl x d h
 .obtain⟨p,hp,rfl,_⟩:=O6 h;exact hx p hp
 .unfold Gof at h;rw[if_pos (by decide),if_pos rfl]at h;split at h
  .rename_i z;exact z
  .cases h
 .obtain⟨p,hp,rfl,e⟩:=O6 h;cases e;exact kd p hp
def Rn(K:k4n):Sp:=λvs H Q _=>∃(a:af)(ns:List Int),vs=[.ref a]/\TabOk K H/\SqL K H a (ns.map V.int)/\ns.length<=63/\∀H':Hp,j4 H H'->Q (.bl a8) H'
theorem Bd{K:k4n}{H:Hp}{a:af}{ns:List Int}(h:SqL K H a (ns.map V.int)):j5 K H [.lst (ns.map D.int)] [.ref a] :=
 ⟨_,[],rfl,⟨a,_,rfl,h,j5.ints ns⟩,rfl⟩
theorem j79{P:ak}{w:ax}{K:k4n}{mg:k4q}{base:aD}{fu:Nat}{G:ag->Option D}{T:ag->Option Fi}{n:Nat}{x p:ag}{fa:af}{st:aM}{F:Fi}
  (hT:∀x F,T x=a5 F->LkF P w K mg base x F) (t:Tb P w K mg base G)
  (hx:T x=a5 F) (hlam:F.lam=a6) (hm:mg x=a5 (.ref fa)) {fd:aH} (hfun:Fun K x x st fa fd) (N:List ag) (hsc:FnScope N [p] (j0 st)) (h1:F.n=1) (hN:N.length=F.nn)
  (hts:∀(cdv:a9)(A:az)(outer:List c8)(s:ae)(H:Hp)(E:XK)(xe:k4o),Ts ((jy CX0 P w K mg base N x (j0 st) fa cdv A outer s H E).wish xe) F.body (.ss (jb st)))
  (hlaw:∀ns:List Int,ns.length<=63->evP fu G T (n+1) x [.lst (ns.map D.int)]=.val (.bl a8)):FnOk P w K mg base CX0 (lv (n+1)) fa fd [p] (Rn K):=by
 have S:FnOk P w K mg base CX0 (lv (n+1)) fa fd [p] (spP K λds d=>∃ns:List Int,ns.length<=63/\ds=[.lst (ns.map D.int)]/\d=.bl a8):=by
  refine W5 (k:=lv n+1) hfun hsc (λds d ⟨ns,_,h,_⟩=>by rw[h];rfl) λcdv A outer s H E hcv hr ds d ⟨ns,hns,e1,e2⟩=>?_;subst e1 e2;have e:=hlaw ns hns;simp only[evP,hx,h1,hlam,pq,if_false,X5,dZ,if_true]at e;have ab:j7 (jt N [D.lst (ns.map D.int)])=enter F [D.lst (ns.map D.int)]:=V1 (by rw[h1];rfl) hN;have g:Gok (jy CX0 P w K mg base N x (j0 st) fa cdv A outer s H E).nox (evP fu G T n):=λg ds'=>by
   obtain⟨f',fd',ps',q⟩:=U8 (fu:=fu) hT t n g ds';cases z:evP fu G T n g ds' with
   |val d=>rw[z]at q;exact⟨lv n,f',fd',ps',q.1,hr,q.2.1,q.2.2.1,q.2.2.2⟩
   |fresh l=>rw[z]at q;exact⟨lv n,f',fd',ps',q.1,hr,q.2.1,q.2.2.1,q.2.2.2⟩
   |err y=>rw[z]at q;exact⟨lv n,f',fd',ps',q.1,hr.mono (Xq _),q.2.1,q.2.2.1,q.2.2.2⟩
   |lval d=>rw[z]at q;exact λy hy=>⟨lv n,hr.mono (Xq _),q y hy⟩
   |mval d k=>rw[z]at q;exact λg' ls k ds'' h1 h2 C h3=>let ⟨a,b⟩:=q g' ls k ds'' h1 h2 C h3;⟨⟨lv n,f',fd',ps',a,hr.mono (Xq _),b⟩⟩
   |merr y=>rw[z]at q;exact λg' ls k ds'' h1 h2 C h3=>let ⟨a,b⟩:=q g' ls k ds'' h1 h2 C h3;⟨⟨lv n,f',fd',ps',a,hr.mono (Xq _),b⟩⟩
   |no=>trivial
  refine Qj (fu:=fu) (hts cdv A outer s H E _) (Jo t rfl rfl rfl rfl rfl (Je _) hr hsc.nd Pb (Z2 t hm hcv rfl rfl)) g (jt N _) _ ?_;rw[ab];cases ho:run fu (evP fu G T n) G F.body (enter F [D.lst (ns.map D.int)]) with
  |ret r =>
   rw[ho]at e;have e:r=.val (.bl a8):=e;subst e;intro y hy;cases y with
   |val d=>cases hy;rfl
   |fresh l=>cases hy
  |next ρ'=>rw[ho]at e;cases e
  |brk _=>rw[ho]at e;cases e
  |cnt _=>rw[ho]at e;cases e
  |err _ _=>rw[ho]at e;cases e
  |no=>rw[ho]at e;cases e
 refine S.imp λvs H Q E ⟨a,ns,hv,tb,hS,hl,k⟩=>?_;subst hv;exact⟨[],_,_,tb,(λa h=>nomatch h),by rw[zj];exact Bd hS,⟨ns,hl,rfl,rfl⟩,λv H' g e=>by cases(show v=.bl a8 from e);exact k H' g⟩
noncomputable def Rj(K:k4n):List (af×ag):=Ju.filterMap λx=>(W.tabIn K x).map λq=>(q.2,qu x)
noncomputable def tOk(K:k4n)(ts:List af):Bool:=(Ju.all λx=>match W.nsIn K aj x with
  |some a7=>a8
  |_=>match W.tabIn K x with
   |some (c,P)=>W.codeHdIn K c P&&ts.contains P
   |none=>a6)&&W.noTabs K&&decide ((Rj K).map (·.1)).Nodup
theorem j3c{K:k4n}{ts:List af}{h:aD}(hk:tOk K ts=a8)(X:K.In h)(ht:∀P∈ts,h.get? P=a5 (W.tabObj #[])):j26 (Rj K) h:=by
 unfold tOk at hk;rw[X4,X4]at hk;refine⟨of_decide_eq_true hk.2,λt hm=>?_⟩;obtain⟨x,hx,e⟩:=Xv.mp hm;obtain⟨⟨c,P⟩,e1,e2⟩:=Xx.mp e;subst e2;have z:=Xh.mp hk.1.1 x hx;split at z
 .rename_i y;exfalso;unfold W.tabIn at e1;rw[y]at e1;cases e1
 .rw[e1]at z;have z:(W.codeHdIn K c P&&ts.contains P)=a8:=z;rw[X4]at z;exact⟨⟨c,W.codeHd_of_K X z.1⟩,ht P (by simpa using z.2)⟩
theorem ja8{K:k4n}{ts:List af}{h:aD}{mg:k4q}(hk:tOk K ts=a8)(X:K.In h)(Gn:h.Ns aj mg):∀x∈Ju,∀f cdv,mg x=a5 (.ref f)->Z9 K f cdv->∃c Pt,cdv=.ref c/\W.codeHdIn K c Pt=a8/\W.tabIn K x=a5 (c,Pt):=λx hx f cdv hm hcv=>by
 unfold tOk at hk;rw[X4,X4]at hk;have z:=Xh.mp hk.1.1 x hx;split at z
 .rename_i y;rw[W.mg_none_of X Gn y]at hm;cases hm
 .split at z
  .rename_i c P e;rw[X4]at z;refine⟨c,P,?_,z.1,e⟩;obtain⟨oc,od,fd,sl,e3,e4⟩:=hcv;unfold W.tabIn at e;split at e
   .rename_i f' hf;have e5:=W.mg_of X Gn hf;rw[hm]at e5;cases e5;rw[e3]at e;dsimp only at e;split at e
    .rename_i c' hc;split at e
     .split at e
      .cases e;rw[<-e4];exact hc
      .cases e
     .cases e
    .cases e
   .cases e
  .cases z
theorem j5m{K:k4n}{H:Hp}(hO:Only (Rj K) H):TabOk K H:=λx hx c P e=>hO.2 (P,qu x) (Xv.mpr ⟨x,hx,by rw[e];rfl⟩)
theorem Lz{K:k4n}{ts:List af}(hk:tOk K ts=a8):W.noTabs K=a8:=by unfold tOk at hk;rw[X4,X4]at hk;exact hk.1.2
theorem walkL{l:cG}{q:ak}{loose:List ag}{XP:(ag->Option a9)->aD->Prop}{YP:ax->aD->Prop}{d:DefRec}{K:jG->k4n}{k:Nat}{x:ag}{ts:List af}(hk:k<=100)(hn:l.most=a5 63)(hdf:d.params.defaults=[])
  (hY:∀(w:ax)(h:aD),YP w h->(K w.params).In h/\∀P∈ts,h.get? P=a5 (W.tabObj #[])) (hK:∀w:ax,tOk (K w.params) ts=a8)
  (F:∀(w:ax)(mg:k4q)(fa:af)(h:aD),(K w.params).In h->h.Ns aj mg->mg d.name=a5 (.ref fa)->tOk (K w.params) ts=a8 ->
   ∃fd:aH,(∀(s:ae)(u:a9),eM s fd ⟨[u],[]⟩ [(x,u)])/\∀base:aD,(K w.params).In base->base.Ns aj mg->FnOk l.prog w (K w.params) mg base CX0 k fa fd [x] (Rn (K w.params))) :
  fD q loose XP YP l.row.toRowW d [] (λf vs=>fH f vs) :=
 L2.walk_of (n:=63) (k:=k) (x:=x) (CX:=λ_=>CX0) (sp:=λw=>Rn (K w.params)) (ts:=λw=>Rj (K w.params)) hn (by decide) hdf
  (Room.mono (k:=100) ⟨rfl,by decide,by decide,rfl⟩ hk) (λw h Y=>⟨(hY w h Y).1,j3c (hK w) (hY w h Y).1 (hY w h Y).2⟩) (λw=>Lz (hK w)) (λw mg fa h X G m=>F w mg fa h X G m (hK w)) (λw H a ns hl hO hS=>⟨a,ns,rfl,j5m hO,hS,hl,λH' g=>⟨rfl,g⟩⟩) λ_ _ _ _ _ z=>z
def Lf(K:k4n)(x:ag)(st:aM):Prop:=∃(f:af)(oc:a9)(od:Option af)(kV dc pm:a9)(an:Option af)(cd ct:a9)(sl:Array (Option a9)),W.nsIn K aj x=a5 (a5 (.ref f)) /\
 K.lookup f=a5 ⟨oc,od,.func (W.fnOf x x (qe st) (jb st) (j0 st) .none kV dc pm an cd ct),sl⟩/\W.codeIn K cd x=a8/\W.keepIn K (.ref f)=a8
def TrT(P:ak)(w:ax)(K:k4n)(mg:k4q)(base:aD)(x:ag)(N:List ag)(st:aM)(b:Sx):Prop :=
 ∀(f:af)(cdv:a9)(A:az)(outer:List c8)(s:ae)(H:Hp)(E:XK) (xe:k4o),Ts ((jy CX0 P w K mg base N x (j0 st) f cdv A outer s H E).wish xe) b (.ss (jb st))
def TrH(P:ak)(w:ax)(K:k4n)(mg:k4q)(base:aD)(x:ag)(N:List ag)(st:aM)(b:Sx):Prop :=
 ∀(f:af)(cdv:a9)(A:az)(outer:List c8)(s:ae)(H:Hp),Ts { (jy CX0 P w K mg base N x (j0 st) f cdv A outer s H E0).nox with calm:=a6 } b (.ss (jb st))
noncomputable def bOk(K:k4n):Bool:=Jq.all λx=>match W.nsIn K aj x with
 |some a7=>a8
 |_=>a6
noncomputable def xOk(K:k4n):Bool:=jh.all λx=>match W.nsIn K aj x with
 |some (a5 _)=>a8
 |_=>a6
section
variable{P:ak}{w:ax}{K:k4n}{mg:k4q}{base h:aD}{x:ag}{st:aM}{N ps:List ag}{F:Fi}
theorem jb1(X:K.In h)(Gn:h.Ns aj mg)(hb:bOk K=a8):∀x∈Jq,mg x=a7:=λx hx=>by
 have z:=Xh.mp hb x hx;split at z
 .rename_i e;exact W.mg_none_of X Gn e
 .cases z
theorem jay(hx:xOk K=a8):∀c∈jh,∃v,W.nsIn K aj c=a5 (a5 v):=λc hc=>by
 have z:=Xh.mp hx c hc;split at z
 .rename_i v e;exact⟨v,e⟩
 .cases z
theorem Q0(L:Lf K x st)(X:K.In h)(Gn:h.Ns aj mg)(t:TrT P w K mg base x N st F.body)(ps:List ag)(sc:FnScope N ps (j0 st))(h1:ps.length=F.n)(h2:N.length=F.nn)
  (hb:∀(kV doc pm:a9)(an:Option af)(cdv ct:a9)(us:List a9),us.length=ps.length->bY (W.fnOf x x (qe st) (jb st) (j0 st) .none kV doc pm an cdv ct) ⟨us,[]⟩=pure (ps.zip us)) (hd:x∉j8i):Lk P w K mg base x F:=by
 obtain⟨f,oc,od,kV,dc,pm,an,cd,ct,sl,a,l,c,k⟩:=L;exact⟨st,f,_,N,ps,Vg l c k,sc,h1,h2,(Vg l c k).binds hb,λz=>absurd z hd,W.mg_of X Gn a,t f⟩
theorem j78{p:ag}(L:Lf K x st)(X:K.In h)(Gn:h.Ns aj mg)(t:TrH P w K mg base x N st F.body)(sc:FnScope N [p] (j0 st))(h1:1<=N.length)(h2:N.length=F.nn)
  (hb:∀(kV doc pm:a9)(an:Option af)(cdv ct:a9)(us:List a9),us.length=[p].length->bY (W.fnOf x x (qe st) (jb st) (j0 st) .none kV doc pm an cdv ct) ⟨us,[]⟩=pure ([p].zip us)):LkH P w K mg base x F:=by
 obtain⟨f,oc,od,kV,dc,pm,an,cd,ct,sl,a,l,c,k⟩:=L;exact⟨st,f,_,N,p,Vg l c k,sc,h1,h2,(Vg l c k).binds hb,W.mg_of X Gn a,t f⟩
theorem lkF(L:Lk P w K mg base x F)(h:F.lam=a6)(hn:x.cps.toList.getLast?≠a5 62)(hh:x.cps.toList.head?≠a5 64):LkF P w K mg base x F:=⟨λ_=>.inl ⟨L,hn,hh⟩,λz=>by rw[h]at z;cases z⟩
theorem us1{us:List a9}(h:us.length=1):∃a,us=[a]:=by match us,h with|[a],_=>exact⟨a,rfl⟩
theorem us2{us:List a9}(h:us.length=2):∃a b,us=[a,b]:=by match us,h with|[a,b],_=>exact⟨a,b,rfl⟩
theorem us3{us:List a9}(h:us.length=3):∃a b c,us=[a,b,c]:=by match us,h with|[a,b,c],_=>exact⟨a,b,c,rfl⟩
end
theorem lf_mk{K:k4n}{x:ag}{st:aM}{f:af}{oc:a9}{od:Option af}{kV dc pm:a9}{an:Option af}{cd ct:a9}{sl:Array (Option a9)}(a:W.nsIn K aj x=a5 (a5 (.ref f)))
  (l:K.lookup f=a5 ⟨oc,od,.func (W.fnOf x x (qe st) (jb st) (j0 st) .none kV dc pm an cd ct),sl⟩) (c:W.codeIn K cd x=a8) (k:W.keepIn K (.ref f)=a8):Lf K x st:=⟨f,oc,od,kV,dc,pm,an,cd,ct,sl,a,l,c,k⟩
structure PcS(P:ak)(w:ax)(K:k4n)(mg:k4q)(base:aD)(sI sA sT sL:aM):Prop where
 scI:FnScope ["self","text"] ["self","text"] (j0 sI)
 scA:FnScope ["self"] ["self"] (j0 sA)
 scT:FnScope ["self","piece"] ["self"] (j0 sT)
 scL:FnScope ["self"] ["self"] (j0 sL)
 boI:∃(n n2:Nat)(p1 p2 p3 p4 p5 p6 p7 p8 p9 p10 p11:aN),jb sI=jah n n2 p1 p2 p3 p4 p5 p6 p7 p8 p9 p10 p11/\(p4.endLine==p6.line)=a8
 boA:∃(n:Nat)(p1 p2 p3 p4 p5 p6 p7 p8 p9 p10 p11 p12 p13 p14 p15 p16:aN),jb sA=j8y n p1 p2 p3 p4 p5 p6 p7 p8 p9 p10 p11 p12 p13 p14 p15 p16
 boT:∃(n:Nat)(p1 p2 p3 p4 p5 p6 p7 p8 p9 p10 p11 p12 p13 p14:aN),jb sT=j5l n p1 p2 p3 p4 p5 p6 p7 p8 p9 p10 p11 p12 p13 p14/\∀f cdv A outer s H E,jbj (jy CX0 P w K mg base ["self","piece"] "Pieces.taken" (j0 sT) f cdv A outer s H E).nox (.Name "self" p2) "ahead" p3 p4
 boL:∃(p1 p2 p3 p4 p5 p6 p7 p8:aN),jb sL=allB p1 p2 p3 p4 p5 p6 p7 p8
 vi:Vis (j0 sI) "self"/\Vis (j0 sI) "text"/\Vis (j0 sA) "self"/\Vis (j0 sT) "self"/\Vis (j0 sL) "self"
 na:(j0 sA).names.lookup ("len":ag)=a5 .globalImplicit/\(j0 sT).names.lookup ("piece":ag)=a5 .local/\(j0 sL).names.lookup ("len":ag)=a5 .globalImplicit
 biI:∀(kV doc pm:a9)(an:Option af)(cdv ct:a9)(us:List a9),us.length=2->bY (W.fnOf "__init__" "Pieces.__init__" (qe sI) (jb sI) (j0 sI) .none kV doc pm an cdv ct) ⟨us,[]⟩=pure ((["self","text"]:List ag).zip us)
 biA:∀(kV doc pm:a9)(an:Option af)(cdv ct:a9)(us:List a9),us.length=1->bY (W.fnOf "ahead" "Pieces.ahead" (qe sA) (jb sA) (j0 sA) .none kV doc pm an cdv ct) ⟨us,[]⟩=pure ((["self"]:List ag).zip us)
 biT:∀(kV doc pm:a9)(an:Option af)(cdv ct:a9)(us:List a9),us.length=1->bY (W.fnOf "taken" "Pieces.taken" (qe sT) (jb sT) (j0 sT) .none kV doc pm an cdv ct) ⟨us,[]⟩=pure ((["self"]:List ag).zip us)
 biL:∀(kV doc pm:a9)(an:Option af)(cdv ct:a9)(us:List a9),us.length=1->bY (W.fnOf "all_taken" "Pieces.all_taken" (qe sL) (jb sL) (j0 sL) .none kV doc pm an cdv ct) ⟨us,[]⟩=pure ((["self"]:List ag).zip us)
def Lm(K:k4n)(C f:af)(x q:ag)(st:aM):Prop:=∃(oc:a9)(od:Option af)(kV dc pm:a9)(an:Option af)(cd ct:a9)(sl:Array (Option a9)),W.findIn K (.ref C) x=a5 (a5 (.ref f))/\W.isFn K (.ref f)=a8 /\
 K.lookup f=a5 ⟨oc,od,.func (W.fnOf x q (qe st) (jb st) (j0 st) .none kV dc pm an cd ct),sl⟩/\W.codeIn K cd q=a8/\W.keepIn K (.ref f)=a8
structure PcH(K:k4n)(C:af)(sI sA sT sL:aM):Prop where
 at_:W.nsIn K aj "Pieces" = a5 (a5 (.ref C))
 pg:W.plainGet K C di=a8
 hd:W.hasDictIn K C=a8
 po:W.plainOver K C=a8
 sa:W.findIn K (.ref C) "__setattr__" = a5 (a5 (.builtin "object.__setattr__"))
 mk_:W.makesIn K C=a8
 kc:W.keepIn K (.ref C)=a8
 nS:W.findIn K (.ref C) "standing" = a5 a7
 nP:W.findIn K (.ref C) "spot" = a5 a7
 mI:∃f,Lm K C f "__init__" "Pieces.__init__" sI
 mA:∃f,Lm K C f "ahead" "Pieces.ahead" sA
 mT:∃f,Lm K C f "taken" "Pieces.taken" sT
 mL:∃f,Lm K C f "all_taken" "Pieces.all_taken" sL
section
variable{P:ak}{w:ax}{K:k4n}{mg:k4q}{base h:aD}{x g:ag}{st:aM}{N ps:List ag}{F:Fi}{p:Px}
end
end L2
end
section
namespace L2
open PySem (Str sizeLine argBest)
theorem J6{n:Nat}(h:n<=1000000):n<=ai:=Xd h (by decide)
noncomputable def Ut(o:So)(f:En->So):So:=match o with
 |.next ρ=>f ρ
 |o=>o
noncomputable def ifS(c:Option Bool)(f g:En->So)(ρ:En):So:=match c with
 |some a8=>f ρ
 |some a6=>g ρ
 |none=>.no
noncomputable def Rv(is:List Nat)(f:En->So)(d:D)(ρ:En):So:=match zc is d ρ with
 |some ρ2=>f ρ2
 |none=>.no
noncomputable def j2o(is:List Nat)(w:Option W)(f:En->So)(ρ:En):So:=match w with
 |some (.i ds)=>zu (Rv is f) ds ρ
 |_=>.no
section
variable{fu:Nat}{Γ:ag->List D->Rc}{G:ag->Option D}{ρ:En}{i j:Nat}{e c k:Ex}{a b:Sx}{is:List Nat}
theorem j3l:run fu Γ G .nop ρ=.next ρ:=(rfl)
theorem j3j:run fu Γ G (.seq a b) ρ=Ut (run fu Γ G a ρ) (run fu Γ G b):=(rfl)
theorem run_set:run fu Γ G (.set i e) ρ=orE (Yi i (ev Γ G e ρ) ρ) (er Γ G e ρ) ρ:=(rfl)
theorem j3m:run fu Γ G (.mov i j) ρ=Mu i j ρ[j]? ρ:=(rfl)
theorem j0c:run fu Γ G (.expr e) ρ=orE (O9 (ev Γ G e ρ) ρ) (er Γ G e ρ) ρ:=(rfl)
theorem j3k:run fu Γ G (.ret e) ρ=orE (retS (ev Γ G e ρ)) (er Γ G e ρ) ρ:=(rfl)
theorem j0i{ρ':En}{x:Option ag}:orE (.next ρ') x ρ=.next ρ':=(rfl)
theorem Bv{r:Rc}{x:Option ag}:orE (.ret r) x ρ=.ret r:=(rfl)
theorem j41{y:ag}:orE .no (a5 y) ρ=.err y ρ:=(rfl)
theorem j7w:O9 a7 ρ=.no:=(rfl)
noncomputable def erR(G:ag->Option D):Rc->Option ag
 |.err x=>if (G (bang x)).isSome=a8 then a5 x else a7
 |_=>a7
noncomputable def erC(Γ:ag->List D->Rc)(G:ag->Option D)(f:ag)(w:Option W):Option ag:=match w with
 |some (.a rs)=>erR G (Γ f (rs.map Rk.d))
 |_=>a7
theorem j88:ev Γ G (.fst e) ρ=Ys (ev Γ G e ρ):=(rfl)
theorem j7u{rs:List Rk}{ys:List ag}(h:rs.length<=1000)(h2:z7 rs=a5 ys):Ys (a5 (.a rs))=a5 (.v (.e (.str (Ue di ys)))):=by unfold Ys;dsimp only;rw[if_pos h,h2];rfl
noncomputable def erK(Γ:ag->List D->Rc)(G:ag->Option D)(f:ag)(x:Option ag)(w:Option W):Option ag:=match x with
 |some x=>if (G (qm f)).isSome=a8 then a5 x else a7
 |none=>erC Γ G f w
theorem j51{f:ag}:er Γ G (.call f e) ρ=erK Γ G f (er Γ G e ρ) (ev Γ G e ρ):=by
 rw[er];cases er Γ G e ρ with
 |some x=>rfl
 |none =>
  cases h:ev Γ G e ρ with
  |none=>rfl
  |some w =>
   cases w with
   |v _=>rfl
   |i _=>rfl
   |a rs =>show(match Γ f (rs.map Rk.d)with|.err x=>_|_=>_)=erR G (Γ f (rs.map Rk.d));cases Γ f (rs.map Rk.d)<;>rfl
theorem jaw{f:ag}{w:Option W}:erK Γ G f a7 w=erC Γ G f w:=(rfl)
noncomputable def erN(a:Option ag)(w:Option W)(b:Option ag):Option ag:=match a with
 |some x=>a5 x
 |none=>match w with
  |some (.v _)=>b
  |_=>a7
theorem j50{b:Ex}:er Γ G (.cons e b) ρ=erN (er Γ G e ρ) (ev Γ G e ρ) (er Γ G b ρ):=by rw[er];rfl
theorem j2x{r:Rk}{b:Option ag}:erN a7 (a5 (.v r)) b=b:=(rfl)
theorem j8e:er Γ G .nil ρ=a7:=(rfl)
theorem j8d:er Γ G (.var i) ρ=a7:=(rfl)
theorem jax{f:ag}{rs:List Rk}:erC Γ G f (a5 (.a rs))=erR G (Γ f (rs.map Rk.d)):=(rfl)
theorem jav{x:ag}(h:(G (bang x)).isSome=a8):erR G (.err x)=a5 x:=if_pos h
theorem Ld{x:ag}:run fu Γ G (.raise x e) ρ=Uw x (ev Γ G e ρ) (G (bang x)) ρ:=(rfl)
theorem Lg{x:ag}{r:Rk}{d:D}:Uw x (a5 (.v r)) (a5 d) ρ=.err x ρ:=(rfl)
noncomputable def Er(i j:Nat)(G:ag->Option D)(o:So):So:=match o with
 |.err x ρ'=>match G (bang x) with
  |some (.lst l)=>.next (((ρ'.set j (.exc x)).set i (.own l)).set j .un)
  |_=>.no
 |o=>o
theorem j08:run fu Γ G (.tryK a i j) ρ=Er i j G (run fu Γ G a ρ):=(rfl)
theorem Ep{x:ag}{l:List D}{ρ':En}(h:G (bang x)=a5 (.lst l)):Er i j G (.err x ρ')=.next (((ρ'.set j (.exc x)).set i (.own l)).set j .un):=by unfold Er;dsimp only;rw[h]
theorem j09:run fu Γ G (.retV i) ρ=Vs ρ[i]?:=(rfl)
theorem j3n:run fu Γ G (.ife c a b) ρ=ifS (truth (ev Γ G c ρ)) (run fu Γ G a) (run fu Γ G b) ρ:=(rfl)
theorem j0a:run fu Γ G (.loop is e a) ρ=j2o is (ev Γ G e (frz e ρ)) (run fu Γ G a) (frz e ρ):=(rfl)
theorem j3o:run fu Γ G (.ext i e) ρ=W6 i ρ[i]? (ev Γ G e ρ) ρ:=(rfl)
theorem j0b:run fu Γ G (.keep i) ρ=Ud i ρ[i]? ρ:=(rfl)
theorem Kc{l:List D}:Ud i (a5 (.own l)) ρ=.next (ρ.set i (.val (.lst l))):=(rfl)
end
section
variable{f g:En->So}{ρ:En}{i j:Nat}{d:D}{l m:List D}{r:Rc}{x:Rk}
theorem Cz:Ut (.next ρ) f=f ρ:=(rfl)
theorem Mi:Ut (.ret r) f=.ret r:=(rfl)
theorem j02{x:ag}{ρ':En}:Ut (.err x ρ') f=.err x ρ':=(rfl)
theorem jai:ifS (a5 a8) f g ρ=f ρ:=(rfl)
theorem jaj:ifS (a5 a6) f g ρ=g ρ:=(rfl)
theorem j5u:Yi i (a5 (.v (.o l))) ρ=.next (ρ.set i (.own l)):=(rfl)
theorem j5v:Yi i (a5 (.v (.e d))) ρ=.next (ρ.set i (.val d)):=(rfl)
theorem j61:retS (a5 (.v (.o l)))=.ret (.fresh l):=(rfl)
theorem Le:retS (a5 (.v (.e d)))=.ret (.val d):=(rfl)
theorem j3q:Vs (a5 (.own l))=.ret (.fresh l):=(rfl)
theorem j3p:Vs (a5 (.val d))=.ret (.val d):=(rfl)
theorem j6z(h:i≠j):Mu i j (a5 (.own l)) ρ=.next ((ρ.set j .un).set i (.own l)):=if_neg h
theorem Qg:Rv [i] f d ρ=f (ρ.set i (.val d)):=(rfl)
theorem j4b{is:List Nat}{ds:List D}:j2o is (a5 (.i ds)) f ρ=zu (Rv is f) ds ρ:=(rfl)
theorem j7v(h:l.length+m.length<=1000000):W6 i (a5 (.own l)) (a5 (.v (.o m))) ρ=.next (ρ.set i (.own (l++m))):=by simp[W6,jg,J6 h]
theorem Nf:fin (.ret r)=r:=(rfl)
theorem j4u{x:ag}{ρ':En}:fin (.err x ρ')=.err x:=(rfl)
theorem J3{fu:Nat}{G:ag->Option D}{T:ag->Option Fi}{n:Nat}{f:ag}{ds:List D}{F:Fi}(h:T f=a5 F)(hl:ds.length=F.n)(hla:F.lam=a6:=by rfl):evP fu G T (n+1) f ds=fin (run fu (evP fu G T n) G F.body (enter F ds)):=by simp only[evP,h,if_pos hl,hla,pq,if_false]
end
theorem Z0{f:D->En->So}(W:Nat->En->Prop):∀{ds:List D}{ρ:En}{k:Nat},W k ρ->(∀i d ρ,ds[i]?=a5 d->W (k+i) ρ->∃ρ',f d ρ=.next ρ'/\W (k+i+1) ρ')->∃ρ',zu f ds ρ=.next ρ'/\W (k+ds.length) ρ'
 |[],ρ,k,h0,_=>⟨ρ,rfl,h0⟩
 |d::ds,ρ,k,h0,hs=>by
  obtain⟨ρ1,e1,w1⟩:=hs 0 d ρ rfl h0;obtain⟨ρ2,e2,w2⟩:=Z0 (f:=f) W (ds:=ds) (k:=k+1) w1 λi d' ρ' hi w=>by have:=hs (i+1) d' ρ' (by simpa using hi) (by rw[show k+(i+1)=k+1+i by omega];exact w);rw[show k+(i+1)+1=k+1+i+1 by omega]at this;exact this
  refine⟨ρ2,?_,by rw[X5,show k+(ds.length+1)=k+1+ds.length by omega];exact w2⟩;rw[zu,e1];exact e2
theorem j0o{f:D->En->So}(W:Nat->En){ds:List D}{ρ:En}(h0:ρ=W 0)(hs:∀i d,ds[i]?=a5 d->f d (W i)=.next (W (i+1))):zu f ds ρ=.next (W ds.length):=by
 obtain⟨ρ',e,w⟩:=Z0 (f:=f) (λi ρ=>ρ=W i) (k:=0) (ds:=ds) (ρ:=W 0) rfl λi d ρ hi w=>⟨W (0+i+1),by rw[w,bI];exact hs i d hi,rfl⟩
 rw[h0,e,w,bI]
theorem Yj{f:D->En->So}{ds:List D}{ρ:En}{g:En->So}{r:Rc}(W:Nat->En->Prop)(h0:W 0 ρ)(hs:∀i d ρ,ds[i]?=a5 d->W i ρ->∃ρ',f d ρ=.next ρ'/\W (i+1) ρ')(hk:∀ρ',W ds.length ρ'->fin (g ρ')=r) :
  fin (Ut (zu f ds ρ) g)=r:=by
 obtain⟨ρ',e,w⟩:=Z0 (f:=f) W (k:=0) (ds:=ds) (ρ:=ρ) h0 λi d ρ hi w=>by rw[bI]at w ⊢;exact hs i d ρ hi w
 rw[e];rw[bI]at w;exact hk ρ' w
theorem Cy{f:D->En->So}{ds:List D}{ρ:En}{g:En->So}{Q:En->Prop}(W:Nat->En->Prop)(h0:W 0 ρ)(hs:∀i d ρ,ds[i]?=a5 d->W i ρ->∃ρ',f d ρ=.next ρ'/\W (i+1) ρ')
  (hk:∀ρ',W ds.length ρ'->∃ρ2,g ρ'=.next ρ2/\Q ρ2):∃ρ2,Ut (zu f ds ρ) g=.next ρ2/\Q ρ2:=by
 obtain⟨ρ',e,w⟩:=Z0 (f:=f) W (k:=0) (ds:=ds) (ρ:=ρ) h0 λi d ρ hi w=>by rw[bI]at w ⊢;exact hs i d ρ hi w
 rw[e];rw[bI]at w;exact hk ρ' w
theorem K5{f:D->En->So}{ρ:En}:zu f [] ρ=.next ρ:=(rfl)
theorem Z1{f:D->En->So}{d:D}{ds:List D}{ρ ρ':En}(h:f d ρ=.next ρ'):zu f (d::ds) ρ=zu f ds ρ':=by rw[zu,h]
noncomputable def j2u(d:Option D):Option W:=d.map λd=>.v (.e d)
noncomputable def j18(i:Option Int):Option W:=i.map λk=>.v (.e (.int k))
noncomputable def j7q(a:Option W):Option W:=match a with
 |some (.v x)=>a5 (.v (.e (.bl x.d.isNon)))
 |_=>a7
noncomputable def j8x(k:Option Bool)(f:En->Option W)(ρ:En):Option W:=match k with
 |some a6=>a5 (.v (.e (.bl a6)))
 |some a8=>blW (truth (f ρ))
 |none=>a7
noncomputable def orW(k:Option Bool)(f:En->Option W)(ρ:En):Option W:=match k with
 |some a8=>a5 (.v (.e (.bl a8)))
 |some a6=>blW (truth (f ρ))
 |none=>a7
noncomputable def j6w(k:Option Bool):Option W:=k.map λk=>.v (.e (.bl (!k)))
noncomputable def stW(a:Option W):Option W:=match a with
 |some (.v x)=>x.st.map λd=>.v (.e d)
 |_=>a7
noncomputable def j0y(k:Option Bool)(f g:En->Option W)(ρ:En):Option W:=match k with
 |some a8=>stW (f ρ)
 |some a6=>stW (g ρ)
 |none=>a7
noncomputable def slW(a:Option W)(l h:Option (Option Int)):Option W:=match a,l,h with
 |some (.v x),a5 l,a5 h=>match x.sq with
  |some (a8,ds)=>a5 (.v (.o (cutD ds l h)))
  |some (a6,ds)=>if HT.sIx ds.length 0 l=0/\HT.sIx ds.length ds.length h=ds.length then a7 else a5 (.v (.e (.tup (cutD ds l h))))
  |none=>match x.d with
   |.str z=>if jg z.length=a8 then a5 (.v (.e (.str (dn z l h))))else a7
   |_=>a7
 |_,_,_=>a7
noncomputable def Qs(is:List Nat)(c e:En->Option W)(ρ:En)(d:D):Option (Option D):=match zc is d ρ with
 |none=>a7
 |some ρ2=>match c ρ2 with
  |some (.a [])=>match e ρ2 with
   |some (.v x)=>x.st.map a5
   |_=>a7
  |some (.a [y])=>match y.d with
   |.bl a8=>match e ρ2 with
    |some (.v x)=>x.st.map a5
    |_=>a7
   |.bl a6=>a5 a7
   |_=>a7
  |_=>a7
noncomputable def Di(is:List Nat)(w:Option W)(c e:En->Option W)(z:Bool)(ρ:En):Option W:=match w with
 |some (.i ds)=>if Uj is ρ=a8/\jg ds.length=a8 then(vy (Qs is c e ρ) ds).bind λl=>if (z && !ju l)=a8 then a7 else a5 (.v (.o l))else a7
 |_=>a7
section
variable{Γ:ag->List D->Rc}{G:ag->Option D}{ρ:En}{a b c e:Ex}{op:Bop}{cp:Cop}{x f:ag}{i:Nat}{d:D}
theorem j84:ev Γ G (.lit d) ρ=a5 (.v (.e d)):=(rfl)
theorem Kq:ev Γ G (.var i) ρ=Uq ρ[i]?:=(rfl)
theorem j4w:ev Γ G (.glob x) ρ=j2u (G x):=(rfl)
theorem j8b:ev Γ G (.bin op a b) ρ=Jp op (ev Γ G a ρ) (ev Γ G b ρ):=(rfl)
theorem j82:ev Γ G (.neg a) ρ=Mt (ev Γ G a ρ):=(rfl)
theorem j89:ev Γ G (.cmp cp a b) ρ=W7 cp (ev Γ G a ρ) (ev Γ G b ρ):=(rfl)
theorem j87:ev Γ G (.isN a) ρ=j7q (ev Γ G a ρ):=(rfl)
theorem j8c:ev Γ G (.and a b) ρ=j8x (truth (ev Γ G a ρ)) (ev Γ G b) ρ:=(rfl)
theorem jas:ev Γ G (.or a b) ρ=orW (truth (ev Γ G a ρ)) (ev Γ G b) ρ:=(rfl)
theorem j80:ev Γ G (.not a) ρ=j6w (truth (ev Γ G a ρ)):=(rfl)
theorem j85:ev Γ G (.ite c a b) ρ=j0y (truth (ev Γ G c ρ)) (ev Γ G a) (ev Γ G b) ρ:=(rfl)
theorem j81:ev Γ G .nil ρ=a5 (.a []):=(rfl)
theorem j4x:ev Γ G (.cons a b) ρ=consW (ev Γ G a ρ) (ev Γ G b ρ):=(rfl)
theorem j7x:ev Γ G (.tup a) ρ=Zi (ev Γ G a ρ):=(rfl)
theorem j83:ev Γ G (.lst a) ρ=Js (ev Γ G a ρ):=(rfl)
theorem jat:ev Γ G (.ix a b) ρ=ixW (ev Γ G a ρ) (ev Γ G b ρ):=(rfl)
theorem jar:ev Γ G (.sl a b c) ρ=slW (ev Γ G a ρ) (J4 (ev Γ G b ρ)) (J4 (ev Γ G c ρ)):=(rfl)
theorem j7y:ev Γ G (.srt a) ρ=Us (ev Γ G a ρ):=(rfl)
theorem j4z:ev Γ G (.call f a) ρ=Q4 Γ f (ev Γ G a ρ):=(rfl)
theorem j8a{f:Bf}:ev Γ G (.blt f a) ρ=Qp f (ev Γ G a ρ):=(rfl)
theorem j86{ts:List String}:ev Γ G (.isi a ts) ρ=W0 (ev Γ G a ρ) ts:=(rfl)
theorem j4y{is:List Nat}:ev Γ G (.comp is e a c) ρ=Di is (ev Γ G a (frz a ρ)) (ev Γ G c) (ev Γ G e) (v4 a ρ) (frz a ρ):=(rfl)
theorem j7z:ev Γ G (.seq a) ρ=Yk (ev Γ G a ρ):=(rfl)
theorem j1g:ev Γ G (.range a) ρ=Vc (ev Γ G a ρ):=(rfl)
end
section
variable{x y:Rk}{d:D}{i j k:Int}{l m:List D}{b:Bool}{f g:En->Option W}{ρ:En}{xs:List Rk}{op:Bop}{cp:Cop}
theorem j5e:Uq (a5 (.val d))=a5 (.v (.e d)):=(rfl)
theorem j5f:Uq (a5 (.own l))=a5 (.v (.w l)):=(rfl)
theorem j4t:j2u (a5 d)=a5 (.v (.e d)):=(rfl)
theorem j7r:j18 (a5 i)=a5 (.v (.e (.int i))):=(rfl)
theorem jb2:blW (a5 b)=a5 (.v (.e (.bl b))):=(rfl)
theorem j8v:Jp op (a5 (.v (.e (.int i)))) (a5 (.v (.e (.int j))))=j18 (binI op i j):=by simp only[Jp,Zy,Rk.d,j18,rkW];cases binI op i j<;>rfl
theorem j22:binI .add i j=a5 (i+j):=(rfl)
theorem j1y:binI .sub i j=a5 (i-j):=(rfl)
theorem j20(h:(-18446744073709551616<i/\i<18446744073709551616)\/(-18446744073709551616<j/\j<18446744073709551616)):binI .mul i j=a5 (i*j):=if_pos h
theorem Ed(h:0<j/\j<18446744073709551616):binI .fdiv i j=a5 (i/j):=if_pos h
theorem j21(h:0<j):binI .mod i j=a5 (i%j):=if_pos h
theorem j1z(h:0<=j/\j<=1000000/\i.natAbs<18446744073709551616):binI .pow i j=a5 (i^j.toNat):=if_pos h
theorem j8t(h:l.length+m.length<=1000000):Jp .add (a5 (.v (.o l))) (a5 (.v (.o m)))=a5 (.v (.o (l++m))):=by simp[Jp,Zy,Rk.d,Rk.sq,jg,J6 h,rkW]
theorem j8s(h:l.length+m.length<=1000000):Jp .add (a5 (.v (.o l))) (a5 (.v (.w m)))=a5 (.v (.o (l++m))):=by simp[Jp,Zy,Rk.d,Rk.sq,jg,J6 h,rkW]
theorem j8q(h:l.length+m.length<=1000000):Jp .add (a5 (.v (.w l))) (a5 (.v (.o m)))=a5 (.v (.o (l++m))):=by simp[Jp,Zy,Rk.d,Rk.sq,jg,J6 h,rkW]
theorem j8r(h:l.length+m.length<=1000000):Jp .add (a5 (.v (.e (.tup l)))) (a5 (.v (.e (.tup m))))=a5 (.v (.e (.tup (l++m)))):=by simp[Jp,Zy,Rk.d,Rk.sq,jg,J6 h,rkW]
theorem j6x:Mt (a5 (.v (.e (.int i))))=a5 (.v (.e (.int (-i)))):=(rfl)
theorem j8n:W7 cp (a5 (.v x)) (a5 (.v y))=blW (vp cp x.d y.d):=(rfl)
theorem d_e:(Rk.e d).d=d:=(rfl)
theorem d_o:(Rk.o l).d=.lst l:=(rfl)
theorem d_w:(Rk.w l).d=.lst l:=(rfl)
theorem j8o:vp cp (.int i) (.int j)=cmpI cp i j:=by cases cp<;>rfl
theorem j1o{a b:Bool}:vp .ne (.bl a) (.bl b)=a5 (a != b):=(rfl)
theorem j1r{a b:Bool}:vp .eq (.bl a) (.bl b)=a5 (a==b):=(rfl)
theorem j1q(h:(D.lst l).dep<=90)(h2:(D.lst m).dep<=90):vp .eq (.lst l) (.lst m)=a5 (z9 l m):=by simp[vp,h,h2,Oc,Od]
theorem j1n(h:D.depL l<=90)(h2:D.depL m<=90):vp .ne (.lst l) (.lst m)=a5 (!z9 l m):=by simp[vp,h,h2]
theorem j1p{a b:ag}:vp .eq (.str a) (.str b)=a5 (a==b):=by simp[vp,D.dep,Ku]
theorem Il:vp .eq (.lst []) (.lst [])=a5 (z9 [] []):=j1q (by simp[D.dep,D.depL]) (by simp[D.dep,D.depL])
theorem Ia(h:i<j):cmpI .lt i j=a5 a8:=by simp[cmpI,h]
theorem Ib(h:j<=i):cmpI .lt i j=a5 a6:=by simp[cmpI];omega
theorem Ie(h:j<i):cmpI .gt i j=a5 a8:=by simp[cmpI,h]
theorem Ig(h:i<=j):cmpI .gt i j=a5 a6:=by simp[cmpI];omega
theorem Ih(h:j<=i):cmpI .ge i j=a5 a8:=by simp[cmpI,h]
theorem Ii(h:i<j):cmpI .ge i j=a5 a6:=by simp[cmpI];omega
theorem Ij(h:i=j):cmpI .eq i j=a5 a8:=by simp[cmpI,h]
theorem Ik(h:i≠j):cmpI .eq i j=a5 a6:=by simp[cmpI,h]
theorem Ky(h:i≠j):cmpI .ne i j=a5 a8:=by simp[cmpI,h]
theorem Kz(h:i=j):cmpI .ne i j=a5 a6:=by simp[cmpI,h]
theorem j7p:j7q (a5 (.v x))=a5 (.v (.e (.bl x.d.isNon))):=(rfl)
theorem j3b:truth (a5 (.v (.e (.bl b))))=a5 b:=(rfl)
theorem j8w:j8x (a5 a8) f ρ=blW (truth (f ρ)):=(rfl)
theorem ja0:orW (a5 a8) f ρ=a5 (.v (.e (.bl a8))):=(rfl)
theorem ja1:orW (a5 a6) f ρ=blW (truth (f ρ)):=(rfl)
theorem j6v:j6w (a5 b)=a5 (.v (.e (.bl (!b)))):=(rfl)
theorem j9k:stW (a5 (.v (.e d)))=a5 (.v (.e d)):=(rfl)
theorem j7m:j0y (a5 a8) f g ρ=stW (f ρ):=(rfl)
theorem j7n:j0y (a5 a6) f g ρ=stW (g ρ):=(rfl)
theorem j52:consW (a5 (.v x)) (a5 (.a xs))=a5 (.a (x::xs)):=(rfl)
theorem j5i(h:za xs=a5 l)(hl:l.length<=1000000):Zi (a5 (.a xs))=a5 (.v (.e (.tup l))):=by simp[Zi,h,jg,J6 hl]
theorem K4(h:za xs=a5 l)(hl:l.length<=1000000):Js (a5 (.a xs))=a5 (.v (.o l)):=by simp[Js,h,jg,J6 hl]
theorem j5k:Zi (a5 (.a []))=a5 (.v (.e (.tup []))):=by simp[Zi,za,jg]
theorem j5j{a:D}:Zi (a5 (.a [.e a]))=a5 (.v (.e (.tup [a]))):=j5i rfl (by simp)
theorem j77:Js (a5 (.a []))=a5 (.v (.o [])):=by simp[Js,za,jg]
theorem j76{a:D}:Js (a5 (.a [.e a]))=a5 (.v (.o [a])):=K4 rfl (by simp)
theorem j75{a b:D}:Js (a5 (.a [.e a,.e b]))=a5 (.v (.o [a,b])):=K4 rfl (by simp)
noncomputable def Fw(o:Option D):Option W:=o.map λd=>.v (.e d)
theorem M7:∀xs:List D,za (xs.map Rk.e)=a5 xs
 |[]=>rfl
 |x::xs=>by rw[Xi,za,M7 xs];rfl
theorem j73(xs:List D)(h:xs.length<=1000000):Js (a5 (.a (xs.map Rk.e)))=a5 (.v (.o xs)):=by simp[Js,M7,jg,J6 h]
theorem j74{a b c d e:D}:Js (a5 (.a [.e a,.e b,.e c,.e d,.e e]))=a5 (.v (.o [a,b,c,d,e])):=j73 [a,b,c,d,e] (by simp)
theorem N7:Fw (a5 d)=a5 (.v (.e d)):=(rfl)
theorem j7j:ixW (a5 (.v (.e (.lst l)))) (a5 (.v (.e (.int i))))=Fw (atI l i):=(rfl)
theorem j7i:ixW (a5 (.v (.e (.tup l)))) (a5 (.v (.e (.int i))))=Fw (atI l i):=(rfl)
theorem Ui{ns:List Int}:intsOf (ns.map D.int)=a5 ns:=by
 induction ns with
 |nil=>rfl
 |cons b bs ih=>rw[Xi,intsOf,ih];rfl
theorem j1w:J4 (a5 (.a []))=a5 a7:=(rfl)
theorem j1v:J4 (a5 (.a [.e (.int i)]))=a5 (a5 i):=(rfl)
variable{lo hi:Option Int}
theorem j5s:slW (a5 (.v (.e (.lst l)))) (a5 lo) (a5 hi)=a5 (.v (.o (cutD l lo hi))):=(rfl)
theorem Cr(h:¬(HT.sIx l.length 0 lo=0/\HT.sIx l.length l.length hi=l.length)):slW (a5 (.v (.e (.tup l)))) (a5 lo) (a5 hi)=a5 (.v (.e (.tup (cutD l lo hi)))):=if_neg h
variable{Γ:ag->List D->Rc}{fn:ag}
noncomputable def rcW(r:Rc):Option W:=match r with
 |.val d=>a5 (.v (.e d))
 |.fresh l=>a5 (.v (.o l))
 |_=>a7
theorem j9t{x:ag}:rcW (.err x)=a7:=(rfl)
theorem j9r:rcW (.val d)=a5 (.v (.e d)):=(rfl)
theorem j9s:rcW (.fresh l)=a5 (.v (.o l)):=(rfl)
theorem Vz(h:za xs=a5 l):Q4 Γ fn (a5 (.a xs))=rcW (Γ fn l):=by simp only[Q4,h];cases Γ fn l<;>rfl
theorem j58{a:D}:Q4 Γ fn (a5 (.a [.e a]))=rcW (Γ fn [a]):=Vz rfl
theorem j57{a b:D}:Q4 Γ fn (a5 (.a [.e a,.e b]))=rcW (Γ fn [a,b]):=Vz rfl
theorem j56{a b c:D}:Q4 Γ fn (a5 (.a [.e a,.e b,.e c]))=rcW (Γ fn [a,b,c]):=Vz rfl
theorem j1t:Q4 Γ fn (a5 (.a [.o l]))=rcW (Γ fn [.lst l]):=Vz rfl
theorem jae:Qp .len (a5 (.a [.e (.lst l)]))=a5 (.v (.e (.int l.length))):=(rfl)
theorem jad:Qp .len (a5 (.a [.e (.tup l)]))=a5 (.v (.e (.int l.length))):=(rfl)
theorem Ce{ks:List (List Int)}:Qt (ks.map λk=>D.tup (k.map D.int))=a5 ks:=by
 induction ks with
 |nil=>rfl
 |cons k ks ih=>rw[Xi,Qt,ih];simp only[tupI,Ui]
theorem j71:Qp .min (a5 (.a [.e (.int i),.e (.int j)]))=a5 (.v (.e (.int (if j<i then j else i)))):=(rfl)
theorem j38:Qp .tuple (a5 (.a [.o l]))=a5 (.v (.e (.tup l))):=(rfl)
theorem j37:Qp .tuple (a5 (.a [.w l]))=a5 (.v (.e (.tup l))):=(rfl)
theorem j7o{ts:List String}:W0 (a5 (.v x)) ts=blW (jq x.d ts):=(rfl)
theorem j3i:Yk (a5 (.v (.e (.lst l))))=a5 (.i l):=(rfl)
theorem j3h:Yk (a5 (.v (.e (.tup l))))=a5 (.i l):=(rfl)
theorem j5w:Yk (a5 (.v (.o l)))=a5 (.i l):=(rfl)
theorem j0d(h:-4611686018427387904<=i/\i<4611686018427387904):Vc (a5 (.a [.e (.int i)]))=a5 (.i (upto 0 i.toNat)):=if_pos h
theorem Zd{is:List Nat}{c e:En->Option W}{z:Bool}{ds l:List D}(hf:Uj is ρ=a8)(hl:ds.length<=1000000)(h:vy (Qs is c e ρ) ds=a5 l)(hz:z=a6\/ju l=a8):Di is (a5 (.i ds)) c e z ρ=a5 (.v (.o l)):=by simp only[Di,hf,jg,J6 hl,decide_true,and_self,if_true,h,hR];rcases hz with z|z<;>simp[z]
theorem Vp{i:Nat}{c e:En->Option W}(hc:c (ρ.set i (.val d))=a5 (.a [])){d':D}(he:e (ρ.set i (.val d))=a5 (.v (.e d'))):Qs [i] c e ρ d=a5 (a5 d'):=by simp[Qs,zc,hc,he,Rk.st]
theorem M3{i:Nat}{c e:En->Option W}{b:Bool}{d':D}(hc:c (ρ.set i (.val d))=a5 (.a [.e (.bl b)]))(he:b=a8->e (ρ.set i (.val d))=a5 (.v (.e d'))):Qs [i] c e ρ d=a5 (if b=a8 then a5 d' else a7):=by
 cases b with
 |true=>simp[Qs,zc,hc,he rfl,Rk.st,Rk.d]
 |false=>simp[Qs,zc,hc,Rk.d]
theorem Z5{α:Type}{xs:List α}{n:Nat}{x:α}(h:xs[n]?=a5 x):atI xs (n:Int)=a5 x:=j59 h
end
section
theorem j11:jq .non ["list","tuple"]=a5 a6:=by simp[jq,q8,D.ty]
theorem j14 {b:Bool}:jq (.bl b) ["list","tuple"]=a5 a6:=by simp[jq,q8,D.ty]
theorem j4m {b:Bool}:jq (.bl b) ["bool"]=a5 a8:=by simp[jq,q8,D.ty]
theorem j4h {b:Bool}:jq (.bl b) ["str"]=a5 a6:=by simp[jq,q8,D.ty]
theorem j17 {b:Bool}:jq (.bl b) ["int","str"]=a5 a8:=by simp[jq,q8,D.ty]
theorem j13 {i:Int}:jq (.int i) ["list","tuple"]=a5 a6:=by simp[jq,q8,D.ty]
theorem j4l {i:Int}:jq (.int i) ["bool"]=a5 a6:=by simp[jq,q8,D.ty]
theorem j4g {i:Int}:jq (.int i) ["str"]=a5 a6:=by simp[jq,q8,D.ty]
theorem j16 {i:Int}:jq (.int i) ["int","str"]=a5 a8:=by simp[jq,q8,D.ty]
theorem j10 {z:ag}:jq (.str z) ["list","tuple"]=a5 a6:=by simp[jq,q8,D.ty]
theorem j4k {z:ag}:jq (.str z) ["bool"]=a5 a6:=by simp[jq,q8,D.ty]
theorem j4f {z:ag}:jq (.str z) ["str"]=a5 a8:=by simp[jq,q8,D.ty]
theorem j15 {z:ag}:jq (.str z) ["int","str"]=a5 a8:=by simp[jq,q8,D.ty]
theorem j0z {l:List D}:jq (.tup l) ["list","tuple"]=a5 a8:=by simp[jq,q8,D.ty]
theorem j4i {l:List D}:jq (.tup l) ["list"]=a5 a6:=by simp[jq,q8,D.ty]
theorem j12 {l:List D}:jq (.lst l) ["list","tuple"]=a5 a8:=by simp[jq,q8,D.ty]
theorem j4j {l:List D}:jq (.lst l) ["list"]=a5 a8:=by simp[jq,q8,D.ty]
theorem j4o:D.isNon .non=a8:=(rfl)
theorem j4q{b:Bool}:D.isNon (.bl b)=a6:=(rfl)
theorem j4p{i:Int}:D.isNon (.int i)=a6:=(rfl)
theorem j4n{z:ag}:D.isNon (.str z)=a6:=(rfl)
end
section
noncomputable abbrev q9(r:List Int):D:=.tup (r.map .int)
noncomputable abbrev z6(rs:List (List Int)):List D:=rs.map q9
theorem Zv{α:Type}{f:D->Option (Option D)}{h g:α->D}{L:List α}(q:∀x∈L,f (h x)=a5 (a5 (g x))):vy f (L.map h)=a5 (L.map g):=by
 induction L with
 |nil=>rfl
 |cons x L ih=>rw[Xi,vy,q x (xj ..),ih λy hy=>q y (km _ hy)];rfl
theorem Zu{f:D->Option (Option D)}:∀{ds:List D},(∀d∈ds,f d=a5 a7)->vy f ds=a5 []
 |[],_=>rfl
 |d::ds,h=>by rw[vy,h d (xj ..),Zu λd hd=>h d (km _ hd)]
theorem take_snoc{α:Type}{l:List α}{i:Nat}{x:α}(h:l[i]?=a5 x):l.take (i+1)=l.take i++[x]:=by rw[gp,h];rfl
theorem Yr{α β:Type}{f:α->β}{l:List α}{i:Nat}{y:β}(h:(l.map f)[i]?=a5 y):∃x,l[i]?=a5 x/\y=f x:=by
 rw[X3]at h;cases e:l[i]? with
 |none=>rw[e]at h;cases h
 |some x=>rw[e]at h;cases h;exact⟨x,rfl,rfl⟩
theorem j0x{α:Type}{c:Prop}[Decidable c]{x:α}:(if c then x else x)=x:=by split<;>rfl
theorem K6{l:List D}(h:vq (.tup l)):l.length<=1000/\Jc l:=by simpa [vq]using h
theorem K8{l:List D}(h:vq (.lst l)):l.length<=1000/\Jc l:=by simpa [vq]using h
end
section
theorem Wu(p:List Int):D.depL (p.map D.int)=0:=by
 induction p with
 |nil=>rfl
 |cons t ts ih=>simp[D.depL,D.dep,ih]
end
section
variable{fu:Nat}{Γ:ag->List D->Rc}{G:ag->Option D}{ls:List ag}{ρ:En}{i j k:Nat}{e c es m:Ex}{f x y:ag}{b r:Px}
end
section
variable{Γ:ag->List D->Rc}{G:ag->Option D}{ρ:En}{a:Ex}
end
end L2
end
section
open PySem (Str)
open L2
noncomputable def jap:=(k4m (k4m (k4m (k4m (k4m (k4m (k4m @j3l @j3j) (k4m @run_set @j3m)) (k4m (k4m @j0c @j3k) (k4m @j09 (k4m @j3n @j0a)))) (k4m (k4m (k4m @j3o @j0b) (k4m @Kc (k4m @j7y @j0i))) (k4m (k4m @j88 @Bv) (k4m @j41 (k4m @j7w @jax))))) (k4m (k4m (k4m (k4m @Ld @Lg) (k4m @j08 (k4m @j02 @j4u))) (k4m (k4m @j9t @Cz) (k4m @Mi (k4m @jai @jaj)))) (k4m (k4m (k4m @j5u @j5v) (k4m @j61 (k4m @Le @j3q))) (k4m (k4m @j3p @j6z) (k4m @j4b (k4m @j7v @Nf)))))) (k4m (k4m (k4m (k4m (k4m @j84 @Kq) (k4m @j4w (k4m @j8b @j82))) (k4m (k4m @j89 @j87) (k4m @j8c (k4m @jas @j80)))) (k4m (k4m (k4m @j85 @j81) (k4m @j4x (k4m @j7x @j83))) (k4m (k4m @jat @jar) (k4m @j4z (k4m @j8a @j86))))) (k4m (k4m (k4m (k4m @j4y @j7z) (k4m @j1g (k4m @j5e @j5f))) (k4m (k4m @j4t @j7r) (k4m @jb2 (k4m @j8v @j22)))) (k4m (k4m (k4m @j1y @j20) (k4m @Ed (k4m @j21 @j1z))) (k4m (k4m @j8t @j8s) (k4m @j8q (k4m @j8r @j6x))))))) (k4m (k4m (k4m (k4m (k4m (k4m @j8n @d_e) (k4m @d_o @d_w)) (k4m (k4m @j8o @j1o) (k4m @j1r (k4m @j1p @Il)))) (k4m (k4m (k4m @j0x @Ia) (k4m @Ib (k4m @Ie @Ig))) (k4m (k4m @Ih @Ii) (k4m @Ij (k4m @Ik @Ky))))) (k4m (k4m (k4m (k4m @Kz @j7p) (k4m @j3b (k4m @j8w @ja0))) (k4m (k4m @ja1 @j6v) (k4m @j9k (k4m @j7m @j7n)))) (k4m (k4m (k4m @j52 @j5k) (k4m @j5j (k4m @j77 @j76))) (k4m (k4m @j75 @j74) (k4m @N7 (k4m @j7j @j7i)))))) (k4m (k4m (k4m (k4m (k4m @j1w @j1v) (k4m @j5s (k4m @j9r @j9s))) (k4m (k4m @j58 @j57) (k4m @j56 (k4m @j1t @jae)))) (k4m (k4m (k4m @jad @j71) (k4m @j38 (k4m @j37 @j7o))) (k4m (k4m @j3i @j3h) (k4m @j5w (k4m @j0d @j11))))) (k4m (k4m (k4m (k4m @j14 @j4m) (k4m @j4h (k4m @j17 @j13))) (k4m (k4m @j4l @j4g) (k4m @j16 (k4m @j10 @j4k)))) (k4m (k4m (k4m @j4f @j15) (k4m @j0z (k4m @j4i @j12))) (k4m (k4m @j4j @j4o) (k4m @j4q (k4m @j4p @j4n))))))))
local macro_rules | `(tactic| walk_at "go")=>`(tactic| try simp (disch:=first | omega | assumption | (simp only [List.length_map,List.length_append,List.length_cons,List.length_nil,List.length_take,List.length_drop,List.length_reverse] <;> omega)) only [jap,Qm,beq_self_eq_true,frz,v4,j1d,List.getElem?_cons_zero,List.getElem?_cons_succ,List.set_cons_zero,List.set_cons_succ,List.map_cons,List.map_nil,List.cons_append,List.nil_append,List.replicate,List.length_map,List.length_append,List.length_cons,List.length_nil,Bool.not_true,Bool.not_false,bne_self_eq_false,Nat.reduceSub,Nat.reduceAdd,Int.reduceToNat,Int.reducePow])
local macro_rules | `(tactic| ext)=>`(tactic| walk_at "go")
local macro_rules | `(tactic| erw [$r])=>`(tactic| (rw [$r]; ext)) | `(tactic| erw [$r,$rs,*])=>`(tactic| (rw [$r]; ext; erw [$rs,*]))
namespace KL
noncomputable def J9:Sx:=(.seq (.ret (.call "all_choices" (.cons (.comp [1] (.ite (.cmp .eq (.var 1) (.glob "NOT_TOLD")) (.glob "ANSWERS") (.tup (.cons (.var 1) .nil))) (.seq (.var 0)) .nil) .nil))) .nop)
noncomputable def fP_rows_in:Fi:=⟨1,2,J9,a6⟩
noncomputable def zq:Sx:=(.seq (.set 1 (.lst (.cons (.tup .nil) .nil))) (.seq (.loop [2] (.seq (.var 0)) (.seq (.set 3 (.lst .nil)) (.seq (.loop [4] (.seq (.var 1)) (.seq (.ext 3 (.comp [5] (.bin .add (.var 4) (.tup (.cons (.var 5) .nil))) (.seq (.var 2)) .nil)) .nop)) (.seq (.mov 1 3) .nop)))) (.seq (.retV 1) .nop)))
noncomputable def fP_all_choices:Fi:=⟨1,6,zq,a6⟩
noncomputable def Qi:Sx:=(.seq (.ife (.cmp .lt (.var 1) (.blt .len (.cons (.var 0) .nil))) (.seq (.ret (.ix (.var 0) (.var 1))) .nop) .nop) (.seq (.set 2 (.bin .add (.lit (.int 70001)) (.bin .mul (.bin .mul (.lit (.int 911)) (.var 1)) (.var 1)))) (.seq (.ife (.cmp .gt (.blt .len (.cons (.var 0) .nil)) (.lit (.int 0))) (.seq (.set 2 (.bin .add (.var 2) (.bin .mul (.bin .mod (.ix (.var 0) (.lit (.int 0))) (.lit (.int 9973))) (.bin .add (.bin .mul (.lit (.int 3)) (.var 1)) (.lit (.int 1)))))) .nop) .nop) (.seq (.retV 2) .nop))))
noncomputable def fL_cell:Fi:=⟨2,3,Qi,a6⟩
noncomputable def Jx:Sx:=(.seq (.ife (.isi (.var 1) ["list","tuple"]) (.seq (.ife (.or (.cmp .ne (.isi (.var 0) ["list"]) (.isi (.var 1) ["list"])) (.not (.isi (.var 0) ["list","tuple"]))) (.seq (.ret (.lit (.bl a6))) .nop) .nop) (.seq (.set 2 (.comp [3] (.var 3) (.range (.cons (.blt .min (.cons (.blt .len (.cons (.var 0) .nil)) (.cons (.blt .len (.cons (.var 1) .nil)) .nil))) .nil)) (.cons (.not (.call "_law_same" (.cons (.ix (.var 0) (.var 3)) (.cons (.ix (.var 1) (.var 3)) .nil)))) .nil))) (.seq (.ret (.and (.cmp .eq (.blt .len (.cons (.var 0) .nil)) (.blt .len (.cons (.var 1) .nil))) (.cmp .eq (.var 2) (.lst .nil)))) .nop))) .nop) (.seq (.ife (.isN (.var 1)) (.seq (.ret (.isN (.var 0))) .nop) .nop) (.seq (.ife (.or (.cmp .ne (.isi (.var 0) ["bool"]) (.isi (.var 1) ["bool"])) (.cmp .ne (.isi (.var 0) ["str"]) (.isi (.var 1) ["str"]))) (.seq (.ret (.lit (.bl a6))) .nop) .nop) (.seq (.ret (.and (.isi (.var 0) ["int","str"]) (.cmp .eq (.var 0) (.var 1)))) .nop))))
noncomputable def fL_same:Fi:=⟨2,4,Jx,a6⟩
noncomputable def Qh:Sx:=(.seq (.set 2 (.lst .nil)) (.seq (.loop [3] (.range (.cons (.var 0) .nil)) (.seq (.set 2 (.bin .add (.lst (.cons (.bin .mod (.var 1) (.lit (.int 3))) .nil)) (.var 2))) (.seq (.set 1 (.bin .fdiv (.var 1) (.lit (.int 3)))) .nop))) (.seq (.ret (.blt .tuple (.cons (.var 2) .nil))) .nop)))
noncomputable def fL_part:Fi:=⟨2,4,Qh,a6⟩
section
variable{G:ag->Option D}{T:ag->Option Fi}
noncomputable def J8(ns:List Int)(k:Nat):Int:=match ns[k]? with
 |some v=>v
 |none=>match ns with
  |[]=>70001+911*k*k
  |v::_=>70001+911*k*k+v%9973*(3*k+1)
theorem Wz {fu n:Nat} (hT:T "_law_cell" = a5 fL_cell) {ns:List Int} {k:Nat} (hk:k<=100):evP fu G T (n+1) "_law_cell" [.lst (ns.map .int),.int k]=.val (.int (J8 ns k)):=by
 rw[J3 (F:=fL_cell) hT rfl];simp only[fL_cell,Qi,enter];by_cases h:k<ns.length
 .have e:atI (ns.map D.int) (k:Int)=a5 (.int ns[k]):=Z5 (by simp[h]);have q:J8 ns k=ns[k]:=by simp[J8,h]
  ext;simp only[e,N7,Le,Bv,Mi,Nf,q]
 .cases ns with
  |nil =>ext;simp[J8]
  |cons v r =>
   have e:atI (D.int v::r.map D.int) 0=a5 (.int v):=by simp[atI,ixN]
   have q:J8 (v::r) k=70001+911*k*k+v%9973*(3*k+1):=by unfold J8;rw[Xu nofun]
   rw[Xi];rw[X5]at h;ext;simp only[e];ext;rw[q]
theorem Lr {fu n m:Nat} (hT:T "_law_part" = a5 fL_part) {z:Int} (hm:m<=6):evP fu G T (n+1) "_law_part" [.int m,.int z]=.val (.tup ((z8 3 m z).map .int)):=by
 rw[J3 (F:=fL_part) hT rfl];simp only[fL_part,Qh,enter];ext;rw[j0o (λi=>[.val (.int m),.val (.int (z/3^i)),.own ((z8 3 i z).map .int),if i=0 then .un else .val (.int ((i:Int)-1))]) (by simp[z8])]
 .ext;rw[Jy];simp
 .intro i d hi;obtain⟨h1,rfl⟩:=Rz hi;have hl:(z8 3 i z).length=i:=Z8 3 i z;simp only[Qg];ext;rw[j1i z 3 (by decide),z8];simp
theorem Ey(f:List Int):step [] f=[]:=rfl
theorem Cp(acc:List (List Int))(a f:List Int):step (acc++[a]) f=step acc f++f.map λx=>a++[x]:=by simp[step]
theorem Oj(fs:List (List Int))(f:List Int):jm (fs++[f])=step (jm fs) f:=by simp[jm]
theorem M6(acc:List (List Int)){f:List Int}{k:Nat}(h:f.length<=k):(step acc f).length<=acc.length*k:=by
 unfold step;induction acc with
 |nil=>simp
 |cons a acc ih =>rw[List.flatMap_cons,Xe,xn,X5,iI];omega
theorem Ye{fs:List (List Int)}{k:Nat}(h:∀f∈fs,f.length<=k):(jm fs).length<=k^fs.length:=by
 have go:∀(fs acc:List (List Int)),(∀f∈fs,f.length<=k)->(fs.foldl step acc).length<=acc.length*k^fs.length:=by
  intro fs;induction fs with
  |nil=>intro acc _;simp
  |cons f fs ih =>intro acc hf;have h1:=ih (step acc f) λg hg=>hf g (km _ hg);have h2:=M6 acc (hf f (xj ..));rw[bN,X5,iJ,dN (k^fs.length) k,<-Nat.mul_assoc];exact Xd h1 (Nat.mul_le_mul_right _ h2)
 have:=go fs [[]] h;simpa [jm]using this
theorem Ol{fs:List (List Int)}{r:List Int}(h:r∈jm fs):r.length=fs.length:=by
 have go:∀(fs acc:List (List Int)) (k:Nat),(∀a∈acc,a.length=k)->∀r∈fs.foldl step acc,r.length=k+fs.length:=by
  intro fs;induction fs with
  |nil=>intro acc k ha r hr;exact ha r hr
  |cons f fs ih =>
   intro acc k ha r hr;have:=ih (step acc f) (k+1) (λa hm=>by
    obtain⟨b,hb,hx⟩:=List.mem_flatMap.mp hm
    obtain⟨x,_,rfl⟩:=Xk.mp hx
    rw[Xe,ha b hb];rfl) r hr
   rw[this,X5];omega
 have:=go fs [[]] 0 (λa ha=>by rw[xu.mp ha];rfl) r h;omega
theorem Oi {fu n:Nat} (hT:T "all_choices" = a5 fP_all_choices) {fs:List (List Int)} (hf:∀f∈fs,f.length<=3) (hl:fs.length<=6):evP fu G T (n+1) "all_choices" [.lst (z6 fs)]=.fresh (z6 (jm fs)):=by
 rw[J3 (F:=fP_all_choices) hT rfl];simp only[fP_all_choices,zq,enter];ext;have small:∀i,(jm (fs.take i)).length<=729:=λi=>by
  have h:=Ye (fs:=fs.take i) (k:=3) λf hm=>hf f (List.mem_of_mem_take hm);have h2:(fs.take i).length<=6:=by rw[Xy];omega
  exact Xd h (fJ (by decide) h2)
 refine Yj (λi ρ=>∃s2 s4,ρ=[.val (.lst (z6 fs)),.own (z6 (jm (fs.take i))),s2,.un,s4,.un]) ⟨.un,.un,by simp[jm,z6,q9]⟩ ?_ ?_
 .rintro i d ρ hi ⟨s2,s4,rfl⟩;obtain⟨f,hfi,rfl⟩:=Yr hi;have hf3:f.length<=3:=hf f (Xj hfi);have sm:=small i;simp only[Qg];ext;refine Cy (λj ρ=>∃s4,ρ=[.val (.lst (z6 fs)),.val (.lst (z6 (jm (fs.take i)))),.val (q9 f),.own (z6 (step ((jm (fs.take i)).take j) f)),s4,.un]) ⟨s4,by simp[Ey]⟩ ?_ ?_
  .rintro j d ρ hj ⟨s4,rfl⟩;obtain⟨a,haj,rfl⟩:=Yr hj;have hs:=M6 ((jm (fs.take i)).take j) hf3;have hs2:((jm (fs.take i)).take j).length<=729:=by rw[Xy];omega
   have ha:a.length<=6:=by have:=Ol (Xj haj);rw[Xy]at this;omega
   simp only[Qg];ext;rw[Zd (l:=(f.map λx=>q9 (a++[x]))) (by rfl) ?_ ?_ (.inl rfl)]
   .ext;refine⟨_,rfl,.val (q9 a),?_⟩;rw[take_snoc haj,Cp];simp only[z6,Pk,Pa];rfl
   .simp only[xn];omega
   .refine Zv λx _=>Vp (by ext) ?_;ext;simp
  .rintro ρ' ⟨s4,rfl⟩;ext;refine⟨_,rfl,.val (q9 f),s4,?_⟩;rw[take_snoc hfi,Oj,dQ]
 .rintro ρ' ⟨s2,s4,rfl⟩;ext;rw[dQ]
theorem O7(t:Int):(vo t).length<=3:=by unfold vo;split<;>simp
theorem Y5 {fu n:Nat} (hT:T "rows_in" = a5 fP_rows_in) (hC:T "all_choices" = a5 fP_all_choices) (gNT:G "NOT_TOLD" = a5 (.int 2)) (gAN:G "ANSWERS" = a5 (.tup [.int 0,.int 1])) {p:List Int} (hp:p.length<=6):evP fu G T (n+2) "rows_in" [q9 p]=.fresh (z6 (jm (p.map vo))):=by
 rw[J3 (F:=fP_rows_in) hT rfl];simp only[fP_rows_in,J9,enter];ext;rw[Zd (l:=z6 (p.map vo)) (by rfl) ?_ ?_ (.inl rfl)]
 .ext;rw[Oi hC (λf hf=>by obtain⟨t,_,rfl⟩:=Xk.mp hf;exact O7 t) (by rw[xn];exact hp)];ext
 .rw[xn];omega
 .rw[z6,Pa];refine Zv λt _=>Vp (by ext) ?_;by_cases h:t=2
  .ext;simp only[gNT];ext;simp only[gAN];ext;simp[vo,h]
  .ext;simp only[gNT];ext;simp[vo,h]
theorem Lb {fu:Nat} (hT:T "_law_same" = a5 fL_same):∀(k:Nat){x:D}{n:Nat},x.dep<=k->vq x->evP fu G T (n+k+1) "_law_same" [x,x]=.val (.bl a8):=by
 intro k;induction k with
 |zero =>
  intro x n hk hx;rw[J3 (F:=fL_same) hT rfl];simp only[fL_same,Jx,enter];cases x with
  |tup l=>simp[D.dep]at hk
  |lst l=>simp[D.dep]at hk
  |dct ks l=>simp[D.dep]at hk
  |sct k=>simp[D.dep]at hk
  |fn x l=>simp[D.dep]at hk
  |non=>ext
  |bl b=>ext
  |int i=>ext
  |str z=>ext
 |succ k ih =>
  intro x n hk hx;have ih':∀{x:D},x.dep<=k->vq x->evP fu G T (n+(k+1)) "_law_same" [x,x]=.val (.bl a8):=λh1 h2=>ih h1 h2;rw[J3 (F:=fL_same) hT rfl];simp only[fL_same,Jx,enter];cases x with
  |dct ks l=>exact aO (by simpa [vq]using hx)
  |sct k=>exact aO (by simpa [vq]using hx)
  |fn x l=>exact aO (by simpa [vq]using hx)
  |tup l =>
   obtain⟨hl,hx⟩:=K6 hx;have hk:D.depL l<=k:=by simp only[D.dep]at hk;omega
   ext;rw[Pr,Zd (l:=[]) (by rfl) (by rw[Jy];omega) ?_ (.inl rfl)]
   .ext
   .refine Zu λd hd=>?_;obtain⟨j,hj,rfl⟩:=Mv hd;have hg:atI l (0+(j:Int))=a5 l[j]:=by rw[bS];exact Z5 (kh hj)
    have hm:l[j]∈l:=bG hj;refine M3 (b:=a6) (d':=.non) ?_ λz=>by cases z
    ext;simp only[hg];ext;rw[ih' (Xd (D.depL_mem hm) hk) (Zm hx hm)];ext
  |lst l =>
   obtain⟨hl,hx⟩:=K8 hx;have hk:D.depL l<=k:=by simp only[D.dep]at hk;omega
   ext;rw[Pr,Zd (l:=[]) (by rfl) (by rw[Jy];omega) ?_ (.inl rfl)]
   .ext
   .refine Zu λd hd=>?_;obtain⟨j,hj,rfl⟩:=Mv hd;have hg:atI l (0+(j:Int))=a5 l[j]:=by rw[bS];exact Z5 (kh hj)
    have hm:l[j]∈l:=bG hj;refine M3 (b:=a6) (d':=.non) ?_ λz=>by cases z
    ext;simp only[hg];ext;rw[ih' (Xd (D.depL_mem hm) hk) (Zm hx hm)];ext
  |non=>ext
  |bl b=>ext
  |int i=>ext
  |str z=>ext
theorem j1k(rs:List (List Int)):(D.lst (z6 rs)).dep<=2:=by
 have:D.depL (z6 rs)<=1:=D.depL_of λd hd=>by obtain⟨r,_,rfl⟩:=Xk.mp hd;simp[D.dep,Wu]
 simp only[D.dep];omega
theorem K7{r:List Int}(h:r.length<=1000):vq (q9 r):=by
 simp only[vq,xn];refine⟨h,Wn λd hd=>?_⟩;obtain⟨i,_,rfl⟩:=Xk.mp hd
 trivial
theorem Ej(n:Nat):upto 0 n=(aE n).map λ(k:Nat)=>D.int (0+(k:Int)):=rfl
theorem W4{p:List Int}{k:Nat}(h:k<p.length):atI (p.map D.int) (0+(k:Int))=a5 (.int (p.getD k 0)):=by rw[bS];refine Z5 ?_;rw[X3,kh h,kj,kh h];rfl
theorem j1l(ns:List Int)(lo hi:Option Int):∃ms:List Int,cutD (ns.map D.int) lo hi=ms.map D.int/\ms.length<=ns.length:=by unfold cutD;refine⟨(ns.drop _).take _,by rw[List.map_take,List.map_drop],?_⟩;rw[Xy,cS];omega
end
end KL
namespace KV
open PySem
noncomputable def letters:List Nat:=[109,100,107,98,118,113,104,122,99,103,114,110,97,112,120,111,108,115,105,101,102,119,116,121,106,117]
noncomputable def lt(n:Int):Nat:=letters.getD n.toNat 0
noncomputable def sL(l:List Nat):ag:=⟨l.toArray⟩
end KV
open PySem (Str)
open L2
namespace KW
open KL KV PySem
section
variable{G:ag->Option D}{T:ag->Option Fi}
end
end KW
section
namespace K04
open PySem PySem.Spec PyProof.Rows L2
noncomputable def top(i:Nat):aM:=PySem.Challenge.pw_leastasks_k04_told_further.main.body.getD i (.Pass ⟨0,0,0,0⟩)
noncomputable def J9:Sx:=(.seq (.ret (.call "all_choices" (.cons (.comp [1] (.ite (.cmp .eq (.var 1) (.glob "NOT_TOLD")) (.glob "ANSWERS") (.tup (.cons (.var 1) .nil))) (.seq (.var 0)) .nil) .nil))) .nop)
noncomputable def fP_rows_in:Fi:=⟨1,2,J9,a6⟩
noncomputable def v6:Sx:=(.seq (.ife (.or (.cmp .lt (.var 1) (.lit (.int 0))) (.or (.cmp .ge (.var 1) (.blt .len (.cons (.var 0) .nil))) (.cmp .ne (.ix (.var 0) (.var 1)) (.glob "NOT_TOLD")))) (.seq (.raise "NoAsk" (.fst (.cons (.lit (.str "nothing can be asked at spot ")) (.cons (.var 1) (.cons (.lit (.str " of ")) (.cons (.var 0) .nil)))))) .nop) .nop) (.seq (.ret (.bin .add (.bin .add (.sl (.var 0) .nil (.cons (.var 1) .nil)) (.tup (.cons (.var 2) .nil))) (.sl (.var 0) (.cons (.bin .add (.var 1) (.lit (.int 1))) .nil) .nil))) .nop))
noncomputable def v5:Fi:=⟨3,3,v6,a6⟩
noncomputable def zq:Sx:=(.seq (.set 1 (.lst (.cons (.tup .nil) .nil))) (.seq (.loop [2] (.seq (.var 0)) (.seq (.set 3 (.lst .nil)) (.seq (.loop [4] (.seq (.var 1)) (.seq (.ext 3 (.comp [5] (.bin .add (.var 4) (.tup (.cons (.var 5) .nil))) (.seq (.var 2)) .nil)) .nop)) (.seq (.mov 1 3) .nop)))) (.seq (.retV 1) .nop)))
noncomputable def fP_all_choices:Fi:=⟨1,6,zq,a6⟩
noncomputable def Qi:Sx:=(.seq (.ife (.cmp .lt (.var 1) (.blt .len (.cons (.var 0) .nil))) (.seq (.ret (.ix (.var 0) (.var 1))) .nop) .nop) (.seq (.set 2 (.bin .add (.lit (.int 70001)) (.bin .mul (.bin .mul (.lit (.int 911)) (.var 1)) (.var 1)))) (.seq (.ife (.cmp .gt (.blt .len (.cons (.var 0) .nil)) (.lit (.int 0))) (.seq (.set 2 (.bin .add (.var 2) (.bin .mul (.bin .mod (.ix (.var 0) (.lit (.int 0))) (.lit (.int 9973))) (.bin .add (.bin .mul (.lit (.int 3)) (.var 1)) (.lit (.int 1)))))) .nop) .nop) (.seq (.retV 2) .nop))))
noncomputable def fL_cell:Fi:=⟨2,3,Qi,a6⟩
noncomputable def Qq:Sx:=(.seq (.set 1 (.lst .nil)) (.seq (.ife (.isx 0 ["NoAsk"]) (.seq (.app 1 (.lit (.str "NoAsk"))) .nop) .nop) (.seq (.ife (.isx 0 ["NoPlace"]) (.seq (.app 1 (.lit (.str "NoPlace"))) .nop) .nop) (.seq (.ife (.isx 0 ["NoPlan","NoText"]) (.seq (.app 1 (.lit (.str "NoPlan or NoText"))) .nop) .nop) (.seq (.ife (.isx 0 ["NoWord"]) (.seq (.app 1 (.lit (.str "NoWord"))) .nop) .nop) (.seq (.ife (.isx 0 ["Twice"]) (.seq (.app 1 (.lit (.str "Twice"))) .nop) .nop) (.seq (.ife (.isx 0 ["Unlike"]) (.seq (.app 1 (.lit (.str "Unlike"))) .nop) .nop) (.seq (.ife (.isx 0 ["WrongAnswers"]) (.seq (.app 1 (.lit (.str "WrongAnswers"))) .nop) .nop) (.seq (.ife (.isx 0 ["WrongPrices","WrongWeights"]) (.seq (.app 1 (.lit (.str "WrongPrices or WrongWeights"))) .nop) .nop) (.seq (.ife (.isx 0 ["WrongSize"]) (.seq (.app 1 (.lit (.str "WrongSize"))) .nop) .nop) (.seq (.ife (.not (.isx 0 ["ValueError"])) (.seq (.app 1 (.lit (.str "no ValueError"))) .nop) .nop) (.seq (.retV 1) .nop))))))))))))
noncomputable def O8:Fi:=⟨1,2,Qq,a6⟩
noncomputable def Jx:Sx:=(.seq (.ife (.isi (.var 1) ["list","tuple"]) (.seq (.ife (.or (.cmp .ne (.isi (.var 0) ["list"]) (.isi (.var 1) ["list"])) (.not (.isi (.var 0) ["list","tuple"]))) (.seq (.ret (.lit (.bl a6))) .nop) .nop) (.seq (.set 2 (.comp [3] (.var 3) (.range (.cons (.blt .min (.cons (.blt .len (.cons (.var 0) .nil)) (.cons (.blt .len (.cons (.var 1) .nil)) .nil))) .nil)) (.cons (.not (.call "_law_same" (.cons (.ix (.var 0) (.var 3)) (.cons (.ix (.var 1) (.var 3)) .nil)))) .nil))) (.seq (.ret (.and (.cmp .eq (.blt .len (.cons (.var 0) .nil)) (.blt .len (.cons (.var 1) .nil))) (.cmp .eq (.var 2) (.lst .nil)))) .nop))) .nop) (.seq (.ife (.isN (.var 1)) (.seq (.ret (.isN (.var 0))) .nop) .nop) (.seq (.ife (.or (.cmp .ne (.isi (.var 0) ["bool"]) (.isi (.var 1) ["bool"])) (.cmp .ne (.isi (.var 0) ["str"]) (.isi (.var 1) ["str"]))) (.seq (.ret (.lit (.bl a6))) .nop) .nop) (.seq (.ret (.and (.isi (.var 0) ["int","str"]) (.cmp .eq (.var 0) (.var 1)))) .nop))))
noncomputable def fL_same:Fi:=⟨2,4,Jx,a6⟩
noncomputable def Qh:Sx:=(.seq (.set 2 (.lst .nil)) (.seq (.loop [3] (.range (.cons (.var 0) .nil)) (.seq (.set 2 (.bin .add (.lst (.cons (.bin .mod (.var 1) (.lit (.int 3))) .nil)) (.var 2))) (.seq (.set 1 (.bin .fdiv (.var 1) (.lit (.int 3)))) .nop))) (.seq (.ret (.blt .tuple (.cons (.var 2) .nil))) .nop)))
noncomputable def fL_part:Fi:=⟨2,4,Qh,a6⟩
noncomputable def Qd:Sx:=(.seq (.set 3 (.lst .nil)) (.seq (.tryK (.seq (.expr (.call "told_further" (.cons (.var 0) (.cons (.var 1) (.cons (.var 2) .nil))))) .nop) 3 4) (.seq (.retV 3) .nop)))
noncomputable def Zq:Fi:=⟨3,5,Qd,a6⟩
noncomputable def Zz:Sx:=(.seq (.loop [1] (.range (.cons (.blt .len (.cons (.var 0) .nil)) .nil)) (.seq (.ife (.cmp .eq (.ix (.var 0) (.var 1)) (.lit (.int 2))) (.seq (.set 2 (.lst .nil)) (.seq (.loop [3] (.seq (.lst (.cons (.lit (.int 0)) (.cons (.lit (.int 1)) .nil)))) (.seq (.set 4 (.blt .tuple (.cons (.comp [5] (.ite (.cmp .eq (.var 5) (.var 1)) (.var 3) (.ix (.var 0) (.var 5))) (.range (.cons (.blt .len (.cons (.var 0) .nil)) .nil)) .nil) .nil))) (.seq (.set 6 (.call "told_further" (.cons (.var 0) (.cons (.var 1) (.cons (.var 3) .nil))))) (.seq (.ife (.not (.call "_law_same" (.cons (.var 6) (.cons (.var 4) .nil)))) (.seq (.ret (.lit (.bl a6))) .nop) .nop) (.seq (.set 2 (.bin .add (.var 2) (.call "rows_in" (.cons (.var 6) .nil)))) .nop))))) (.seq (.ife (.cmp .ne (.srt (.var 2)) (.call "rows_in" (.cons (.var 0) .nil))) (.seq (.ret (.lit (.bl a6))) .nop) .nop) .nop))) (.seq (.ife (.or (.cmp .ne (.call "_law_refused" (.cons (.var 0) (.cons (.var 1) (.cons (.lit (.int 0)) .nil)))) (.lst (.cons (.lit (.str "NoAsk")) .nil))) (.cmp .ne (.call "_law_refused" (.cons (.var 0) (.cons (.var 1) (.cons (.lit (.int 1)) .nil)))) (.lst (.cons (.lit (.str "NoAsk")) .nil)))) (.seq (.ret (.lit (.bl a6))) .nop) .nop) .nop)) .nop)) (.seq (.ret (.lit (.bl a8))) .nop))
noncomputable def Yt:Fi:=⟨1,7,Zz,a6⟩
noncomputable def Do:Sx:=(.seq (.set 1 (.bin .add (.lit (.int 1)) (.bin .mod (.call "_law_cell" (.cons (.var 0) (.cons (.lit (.int 0)) .nil))) (.lit (.int 6))))) (.seq (.loop [2] (.seq (.bin .add (.lst (.cons (.call "_law_cell" (.cons (.var 0) (.cons (.lit (.int 1)) .nil))) .nil)) (.sl (.var 0) (.cons (.lit (.int 2)) .nil) (.cons (.lit (.int 12)) .nil)))) (.seq (.set 3 (.call "_law_part" (.cons (.var 1) (.cons (.bin .mod (.var 2) (.bin .pow (.lit (.int 3)) (.lit (.int 6)))) .nil)))) (.seq (.set 4 (.bin .mod (.bin .fdiv (.var 2) (.bin .pow (.lit (.int 3)) (.lit (.int 6)))) (.bin .pow (.lit (.int 10)) (.lit (.int 6))))) (.seq (.set 5 (.lst (.cons (.bin .add (.var 1) (.var 4)) (.cons (.bin .sub (.neg (.lit (.int 1))) (.var 4)) (.cons (.var 1) (.cons (.neg (.lit (.int 1))) (.cons (.bin .sub (.lit (.int 0)) (.var 1)) .nil))))))) (.seq (.keep 5) (.seq (.ife (.or (.not (.call "_law_right" (.cons (.var 3) .nil))) (.cmp .ne (.call "_law_refused" (.cons (.var 3) (.cons (.ix (.var 5) (.bin .mod (.var 4) (.lit (.int 5)))) (.cons (.bin .mod (.bin .fdiv (.var 4) (.lit (.int 5))) (.lit (.int 2))) .nil)))) (.lst (.cons (.lit (.str "NoAsk")) .nil)))) (.seq (.ret (.lit (.bl a6))) .nop) .nop) .nop)))))) (.seq (.ret (.lit (.bl a8))) .nop)))
noncomputable def De:Fi:=⟨1,6,Do,a6⟩
noncomputable def tbl:List (ag×Fi):=("rows_in",fP_rows_in)::("told_further",v5)::("all_choices",fP_all_choices)::("_law_cell",fL_cell)::("_law_kinds",O8)::("_law_same",fL_same)::("_law_part",fL_part)::("_law_refused",Zq)::("_law_right",Yt)::("law",De)::[]
noncomputable def T(x:ag):Option Fi:=tbl.lookup x
noncomputable def gs:List (ag×D):=[("ANSWERS",.tup [.int 0,.int 1]),("NOT_TOLD",.int 2)]
noncomputable def xs:List (ag×List D):=[("WrongSize",[.str "WrongSize"]),("NoAsk",[.str "NoAsk"]),("NoWord",[.str "NoWord"]),("Twice",[.str "Twice"]),("WrongAnswers",[.str "WrongAnswers"]),("Unlike",[.str "Unlike"]),("NoPlace",[.str "NoPlace"]),("NoText",[.str "NoPlan or NoText"]),("WrongPrices",[.str "WrongPrices or WrongWeights"]),("WrongWeights",[.str "WrongPrices or WrongWeights"]),("NoPlan",[.str "NoPlan or NoText"])]
noncomputable def qs:List ag:=[]
noncomputable abbrev G:ag->Option D:=Gof gs a8 xs qs
end K04
end
section
open PySem PySem.Spec PyProof.Rows L2
local macro_rules | `(tactic| walk_at "vis")=>`(tactic| first | exact Or.inl rfl | exact Or.inr (Or.inl rfl) | exact Or.inr (Or.inr rfl))
local macro_rules | `(tactic| walk_at "loc")=>`(tactic| first | exact Or.inl rfl | exact Or.inr rfl)
local macro_rules | `(tactic| walk_at "cap")=>`(tactic| repeat (first | exact rfl | refine ⟨_,_,rfl,by rfl,by rfl,by rfl,by rfl,?_⟩))
local macro_rules | `(tactic| walk_at "ts")=>`(tactic| first
 |exact Tr.int|exact Tr.bl|exact Tr.str
 |exact Tr.var (by rfl) (by walk_at "vis") (by decide) (by decide)|exact Tr.glob (by rfl) (by decide) (by decide)
 |refine Tr.bin ?_ ?_|refine Tr.neg ?_|refine Tr.cmp (by rfl) ?_ ?_|refine Tr.bcmp (by rfl) ?_ ?_|refine Tr.isN ?_|refine Tr.bisN ?_|refine Tr.isNN ?_|refine Tr.bisNN ?_
 |refine Tr.and ?_ ?_|refine Tr.or ?_ ?_|refine Tr.one ?_|refine Tr.not ?_
 |refine Tr.wand ?_ ?_|refine Tr.wor ?_ ?_|refine Tr.wand1 ?_|refine Tr.wor1 ?_|refine Tr.bw ?_|refine Tr.bnot ?_
 |refine Tr.ite ?_ ?_ ?_|exact Tr.nil|refine Tr.cons (by rfl) ?_ ?_|refine Tr.tup ?_|refine Tr.lst ?_
 |refine Tr.ix (by intro _ _;rfl) ?_ ?_|exact Tr.oN|refine Tr.oS ?_|refine Tr.sl ?_ ?_ ?_
 |refine Tr.call (by rfl) (by decide) (by rfl) (by rfl) ?_
 |refine Tr.srt (by rfl) (by rfl) ?_|refine Tr.len (by rfl) ?_|refine Tr.tuple (by rfl) ?_|refine Tr.min (by rfl) (by rfl) ?_
 |refine Tr.isi1 (by decide) (by decide +kernel) (by rfl) (by rfl) (by decide) (by decide) (by rfl) ?_
 |refine Tr.isi2 (by decide) (by decide) (by decide +kernel) (by decide +kernel) (by rfl) (by rfl) (by rfl) (by decide) (by decide) (by decide) (by decide) (by rfl) ?_
 |exact Tr.c0|refine Tr.c1 ?_
 |refine Tr.comp1 (by rfl) (by rfl) (by rfl) (by rfl) (by rfl) (by intro _;rfl) ?_ ?_ ?_
 |refine Tr.seq ?_|refine Tr.range (by rfl) ?_
 |exact Tr.p0|refine Tr.pC ?_|refine Tr.pF (by rfl) ?_ ?_|refine Tr.fst ?_
 |exact Tr.isxV (by rfl) (by walk_at "vis") (by decide) (by decide) (by rfl) (by rfl) (by rfl)
 |exact Tr.isx1 (by decide) (by decide) (by rfl) (by walk_at "vis") (by decide) (by decide) (by rfl) (by rfl) (by decide) (by rfl)
 |exact Tr.isx2 (by decide) (by decide) (by decide) (by decide) (by rfl) (by walk_at "vis") (by decide) (by decide) (by rfl) (by rfl) (by rfl) (by decide) (by decide) (by rfl)
 |refine Tr.bval (by intro _;rfl) ?_
 |refine' Ts.lend (by rfl) (by decide) (by rfl) (by rfl) (by walk_at "loc") (by walk_at "loc") (by exact aY rfl) (by exact aY rfl) (by intro _;rfl) (by rfl) (by rfl) (by rfl) (by walk_at "vis") (by decide) (by decide) (by rfl) (by rfl) ?_ ?_|refine' Ts.lent (by rfl) (by walk_at "loc") (by walk_at "vis") (by exact aY rfl) (by decide) (by decide) (by rfl) (by rfl) (by rfl) ?_ ?_ ?_ ?_ ?_|refine TMt.set (by rfl) (by walk_at "loc") (by rfl) (by exact aY rfl) ?_ ?_|refine TMt.ife ?_ ?_ ?_ ?_|exact TMt.nil|exact TMs.nil|exact TMs.fail|refine TMs.set (by rfl) (by walk_at "loc") (by rfl) (by exact aY rfl) ?_ ?_|refine TMs.ife ?_ ?_ ?_ ?_|exact⟨rfl,rfl,rfl,λ_ _=>rfl⟩
 |exact Ts.nil|refine Ts.fgt ?_|refine Ts.keep ?_|refine Ts.cons ?_ ?_|exact Ts.pass|exact Ts.doc|exact Ts.fail
 |exact Ts.mov (by rfl) (by rfl) (by walk_at "loc") (by exact aY rfl) (by walk_at "vis") (by decide) (by decide)
 |refine Ts.setC1 (by rfl) (by rfl) (by walk_at "loc") (by exact aY rfl) (by rfl) (by rfl) (by rfl) (by rfl) (by rfl) (by intro _;rfl) ?_ ?_ ?_
 |refine Ts.set (by rfl) (by walk_at "loc") (by rfl) (by exact aY rfl) ?_
 |exact Ts.retV (by rfl) (by walk_at "vis") (by decide) (by decide)|refine Ts.ret ?_
 |refine Ts.ife ?_ ?_ ?_|refine Ts.for1 (by rfl) (by rfl) (by walk_at "loc") (by exact aY rfl) (by intro _;rfl) ?_ ?_
 |refine Ts.app (by rfl) (by walk_at "vis") (by decide) (by decide) (by rfl) (by rfl) (by rfl) (by rfl) ?_
 |refine Ts.ext (by rfl) (by walk_at "vis") (by decide) (by decide) (by rfl) (by rfl) (by rfl) (by rfl) ?_
 |refine Ts.raise (by rfl) (by rfl) (by decide) (by rfl) ?_
 |refine Ts.tryK (by rfl) (by rfl) (by rfl) (by rfl) (by rfl) (by rfl) (by rfl) (by decide) (by decide) (by rfl) (by walk_at "loc") (by exact aY rfl) (by exact aY rfl) (by rfl) (by rfl) (by rfl) ?_
 |refine Ts.expr (by rfl) ?_
 |exact MP.nop|refine MP.keep (by decide) ?_
 |refine MP.setC (by decide) (by rfl) (by rfl) (by walk_at "loc") (by exact aY rfl) (by rfl) (by rfl) (by rfl) (by rfl) (by rfl) (by intro _;rfl) ?_ ?_ ?_ ?_
 |refine MP.set (by decide) (by rfl) (by walk_at "loc") (by rfl) (by exact aY rfl) ?_ ?_
 |refine MP.ret ?_|refine MP.ifRet ?_ ?_ ?_
 |refine MP.ifAll (by rfl) (by rfl) (by decide) (by rfl) (by rfl) (by walk_at "vis") (by decide) (by decide) (by exact⟨_,rfl⟩) (by intro _;rfl) ?_ ?_
 |refine MP.ifRai (by rfl) (by rfl) (by decide) (by rfl) ?_ ?_ ?_
 |refine MP.takeIf (by decide) (by rfl) (by walk_at "vis") (by decide) (by decide) (by exact⟨_,rfl⟩) (by rfl) (by walk_at "loc") (by rfl) (by exact aY rfl) ?_ ?_ ?_
 |refine MP.take (by decide) (by rfl) (by walk_at "vis") (by decide) (by decide) (by exact⟨_,rfl⟩) (by rfl) (by walk_at "loc") (by rfl) (by exact aY rfl) ?_
 |refine MP.takeE (by rfl) (by walk_at "vis") (by decide) (by decide) (by exact⟨_,rfl⟩) (by rfl) ?_
 |refine MP.callS (by decide) (by exact⟨_,_,_,_,rfl,by rfl,by walk_at "vis",by decide,by decide,by rfl,by decide,by rfl,by rfl⟩) (by rfl) (by walk_at "loc") (by rfl) (by exact aY rfl) ?_ ?_
 |refine MP.ifCal (by exact⟨_,_,_,_,rfl,by rfl,by walk_at "vis",by decide,by decide,by rfl,by decide,by rfl,by rfl⟩) ?_ ?_ ?_
 |refine MP.appC (by decide) (by exact⟨_,_,_,_,rfl,by rfl,by walk_at "vis",by decide,by decide,by rfl,by decide,by rfl,by rfl⟩) (by rfl) (by walk_at "vis") (by decide) (by decide) (by rfl) (by rfl) (by rfl) (by rfl) (by rfl) ?_ ?_
 |refine MP.whlA (by rfl) (by walk_at "vis") (by decide) (by decide) (by exact⟨_,rfl⟩) ?_ ?_
 |intro C s H fp pn xe
 |intro C s H fp pn
 |intro pn xe)
local macro_rules | `(tactic| walk_at "bnd")=>`(tactic| (intro _ _ _ _ _ _ us hl; first | (obtain ⟨_,e⟩:=us1 hl; subst e; rfl) | (obtain ⟨_,_,e⟩:=us2 hl; subst e; rfl) | (obtain ⟨_,_,_,e⟩:=us3 hl; subst e; rfl)))
local macro_rules | `(tactic| walk_at "sc")=>`(tactic| exact ⟨rfl,rfl,rfl,by decide +kernel,rfl,by decide +kernel,by decide +kernel⟩)
local macro_rules | `(tactic| walk_at "lk")=>`(tactic| first | walk_at "sc" | walk_at "bnd" | decide)
namespace K04
section
variable{P:ak}{w:ax}{K:k4n}{mg:k4q}{base:aD}
theorem Ow:TrT P w K mg base "rows_in" ["part","told"] (top 16) J9:=by
 intro f cdv A outer s H E xe;unfold J9
 repeat' (walk_at "ts")
theorem Yg:TrT P w K mg base "told_further" ["part","spot","answer"] (top 17) v6:=by
 intro f cdv A outer s H E xe;unfold v6
 repeat' (walk_at "ts")
theorem Yz:TrT P w K mg base "all_choices" ["figures_by_spot","chosen","figures","longer","ahead","figure"] (top 18) zq:=by
 intro f cdv A outer s H E xe;unfold zq
 repeat' (walk_at "ts")
theorem Eu:TrT P w K mg base "_law_cell" ["_law_script","_law_k","_law_spare"] (top 20) Qi:=by
 intro f cdv A outer s H E xe;unfold Qi
 repeat' (walk_at "ts")
theorem Ci:TrT P w K mg base "_law_kinds" ["_law_e","_law_some"] (top 21) Qq:=by
 intro f cdv A outer s H E xe;unfold Qq
 repeat' (walk_at "ts")
theorem Ck:TrH P w K mg base "_law_kinds" ["_law_e","_law_some"] (top 21) Qq:=by
 intro f cdv A outer s H;unfold Qq
 repeat' (walk_at "ts")
theorem Es:TrT P w K mg base "_law_same" ["_law_found","_law_due","_law_unlike","_law_k"] (top 22) Jx:=by
 intro f cdv A outer s H E xe;unfold Jx
 repeat' (walk_at "ts")
theorem Et:TrT P w K mg base "_law_part" ["_law_many","_law_number","_law_part_here","_law_k"] (top 23) Qh:=by
 intro f cdv A outer s H E xe;unfold Qh
 repeat' (walk_at "ts")
theorem Ox:TrT P w K mg base "_law_refused" ["_law_part_here","_law_spot","_law_answer","_law_kinds_here","_law_e"] (top 24) Qd:=by
 intro f cdv A outer s H E xe;unfold Qd
 repeat' (walk_at "ts")
theorem Cg:TrT P w K mg base "_law_right" ["_law_part_here","_law_spot","_law_rows","_law_answer","_law_due","_law_k","_law_found"] (top 25) Zz:=by
 intro f cdv A outer s H E xe;unfold Zz
 repeat' (walk_at "ts")
theorem j2a:TrT P w K mg base "law" ["_law_script","_law_many","_law_cell_here","_law_part_here","_law_far","_law_spots"] (top 26) Do:=by
 intro f cdv A outer s H E xe;unfold Do
 repeat' (walk_at "ts")
end
set_option maxHeartbeats 0 in
theorem head {l:cG} {w:ax} {K:k4n} {h:aD} {mg:k4q} {fa:af} (X:K.In h) (Gn:h.Ns aj mg) (hfa:mg "law" = a5 (.ref fa))
  (h0:Lf K "rows_in" (top 16))
  (h1:Lf K "told_further" (top 17))
  (h2:Lf K "all_choices" (top 18))
  (h3:Lf K "_law_cell" (top 20))
  (h4:Lf K "_law_kinds" (top 21))
  (h5:Lf K "_law_same" (top 22))
  (h6:Lf K "_law_part" (top 23))
  (h7:Lf K "_law_refused" (top 24))
  (h8:Lf K "_law_right" (top 25))
  (h9:Lf K "law" (top 26))
  (bz:bOk K=a8) {ts:List af} (tz:tOk K ts=a8)
  {gt1:i9} {gt2:i9} {ga0:af} {ga0n:Nat} {ga0s:Array (Option a9)} {gt3:i9}
  (ga0l:K.lookup ga0=a5 ⟨.type "tuple",a7,.seq #[.int 0 gt1,.int 1 gt2] ga0n,ga0s⟩) (gn0:fZ K aj "ANSWERS" = a5 (a5 (.ref ga0))) (gn1:fZ K aj "NOT_TOLD" = a5 (a5 (.int 2 gt3)))
  (exa:J7 K=a8)
  (xz:xOk K=a8)
  {fu n:Nat} (hlaw:∀ns:List Int,ns.length<=63->evP fu G T (n+1) "law" [.lst (ns.map D.int)]=.val (.bl a8)) :
  ∃fd:aH,(∀(s:ae)(v:a9),eM s fd ⟨[v],[]⟩ [("_law_script",v)])/\∀base:aD,K.In base->base.Ns aj mg->FnOk l.prog w K mg base CX0 (lv (n+1)) fa fd ["_law_script"] (Rn K):=by
 have hL:=h9;obtain⟨f,oc,od,kV,dc,pm,an,cd,ct,sl,a,lk,c,k⟩:=hL;have e:=hfa.symm.trans (eB X Gn a);cases e;refine⟨PySem.W.fnOf "law" "law" (qe (top 26)) (jb (top 26)) (j0 (top 26)) .none kV dc pm an cd ct,λs v=>.of_eq rfl,λbase hKb hNb=>?_⟩;have hT:∀x F,T x=a5 F->LkF l.prog w K mg base x F:=λx F hx=>by
  have all:∀p∈tbl,LkF l.prog w K mg base p.1 p.2:=by
   intro p hp;simp only[tbl,xf,cR,or_false]at hp;rcases hp with rfl|rfl|rfl|rfl|rfl|rfl|rfl|rfl|rfl|rfl
   .refine lkF (Q0 h0 X Gn Ow ["part"] ?_ rfl rfl ?_ ?_) rfl ?_ ?_<;>walk_at "lk"
   .refine lkF (Q0 h1 X Gn Yg ["part","spot","answer"] ?_ rfl rfl ?_ ?_) rfl ?_ ?_<;>walk_at "lk"
   .refine lkF (Q0 h2 X Gn Yz ["figures_by_spot"] ?_ rfl rfl ?_ ?_) rfl ?_ ?_<;>walk_at "lk"
   .refine lkF (Q0 h3 X Gn Eu ["_law_script","_law_k"] ?_ rfl rfl ?_ ?_) rfl ?_ ?_<;>walk_at "lk"
   .refine lkF (Q0 h4 X Gn Ci ["_law_e"] ?_ rfl rfl ?_ ?_) rfl ?_ ?_<;>walk_at "lk"
   .refine lkF (Q0 h5 X Gn Es ["_law_found","_law_due"] ?_ rfl rfl ?_ ?_) rfl ?_ ?_<;>walk_at "lk"
   .refine lkF (Q0 h6 X Gn Et ["_law_many","_law_number"] ?_ rfl rfl ?_ ?_) rfl ?_ ?_<;>walk_at "lk"
   .refine lkF (Q0 h7 X Gn Ox ["_law_part_here","_law_spot","_law_answer"] ?_ rfl rfl ?_ ?_) rfl ?_ ?_<;>walk_at "lk"
   .refine lkF (Q0 h8 X Gn Cg ["_law_part_here"] ?_ rfl rfl ?_ ?_) rfl ?_ ?_<;>walk_at "lk"
   .refine lkF (Q0 h9 X Gn j2a ["_law_script"] ?_ rfl rfl ?_ ?_) rfl ?_ ?_<;>walk_at "lk"
  exact all (x,F) (lookup_mem hx)
 have bt:=jb1 X Gn bz;have gl:∀x d,gs.lookup x=a5 d->∃u v,mg x=a5 u/\RelV v u/\∀H,Enc K H d v:=by
  intro x d hx;have hm:=lookup_mem hx;simp only[gs,xf,cR,or_false,Prod.mk.injEq]at hm;rcases hm with ⟨e1,e2⟩|⟨e1,e2⟩
  .subst e1 e2;exact⟨.ref ga0,.ref ga0,eB X Gn gn0,rfl,λH=>⟨ga0,[.int 0,.int 1],rfl,.inr ⟨_,_,_,ga0l,rfl,rfl,rfl,(by show 2<=ai;decide),(.cons ⟨_,rfl⟩ (.cons ⟨_,rfl⟩ .nil))⟩,⟨_,_,rfl,rfl,⟨_,_,rfl,rfl,rfl⟩⟩⟩⟩
  .subst e1 e2;exact⟨.int 2 gt3,.int 2,eB X Gn gn1,⟨_,rfl⟩,λ_=>rfl⟩
 have qn:∀f∈qs,∃fa,mg f=a5 (.ref fa)/\PySem.W.keepIn K (.ref fa)=a8:=by exact λf hf=>nomatch hf
 have el:=jay xz;have L:LkH l.prog w K mg base "_law_kinds" O8:=j78 h4 X Gn Ck (by walk_at "sc") (by decide) rfl (by walk_at "bnd");have tb:Tb l.prog w K mg base G:=j9c bt gl exa (λp hp=>by
  have hp:p.1∈jh:=by
   simp only[xs,xf,cR,or_false]at hp
   rcases hp with rfl|rfl|rfl|rfl|rfl|rfl|rfl|rfl|rfl|rfl|rfl<;>decide
  exact⟨hp,el _ hp⟩
  ) (λ_=>el) hKb hNb qn (λp hp=>by
  simp only[xs,xf,cR,or_false]at hp
  rcases hp with rfl|rfl|rfl|rfl|rfl|rfl|rfl|rfl|rfl|rfl|rfl
  all_goals exact Ba (fu:=0) L bt exa el hKb hNb (by rfl) (by rfl)) (ja8 tz X Gn)
 exact j79 hT tb (F:=De) (by rfl) rfl hfa (Vg lk c k) _ (by walk_at "sc") rfl rfl (j2a _) hlaw
end K04
end
open PySem (Str sizeLine argBest)
open L2
namespace K04
open KL KW KV
theorem j2t:T "_law_cell" = a5 KL.fL_cell:=by rfl
theorem jan:T "_law_same" = a5 KL.fL_same:=by rfl
theorem O4:T "all_choices" = a5 KL.fP_all_choices:=by rfl
theorem Nb:T "rows_in" = a5 KL.fP_rows_in:=by rfl
theorem gN:G "NOT_TOLD" = a5 (.int 2):=by rfl
theorem gA:G "ANSWERS" = a5 (.tup [.int 0,.int 1]):=by rfl
theorem j7t{p:List Int}{k:Nat}(h:k<p.length):atI (p.map D.int) (k:Int)=a5 (.int (p.getD k 0)):=by
 have:=W4 h
 rwa [bS]at this
theorem j8m{l:List D}{k:Nat}(h:k<=l.length):cutD l a7 (a5 (k:Int))=l.take k:=by unfold cutD;rw[HT.sIx_none,HT.sIx_nat,eQ,Nat.sub_zero,gO h]
theorem j8l{l:List D}{k:Nat}(h:k<=l.length):cutD l (a5 (k:Int)) a7=l.drop k:=by unfold cutD;rw[HT.sIx_none,HT.sIx_nat,gO h,fg (by rw[cS];omega)]
theorem Cj {n s:Nat} {p:List Int} {v:Int} (hl:p.length<=6) (hs:s<p.length) (h2:p.getD s 0=2):evP 1000 G T (n+1) "told_further" [q9 p,.int s,.int v]=.val (q9 (p.set s v)):=by
 rw[J3 (F:=v5) (by rfl) rfl];simp only[v5,v6,enter];have gi:=j7t hs;rw[h2]at gi;have lp:(p.map D.int).length=p.length:=xn ..;have w1:¬(HT.sIx (p.map D.int).length 0 a7=0/\HT.sIx (p.map D.int).length (p.map D.int).length (a5 (s:Int))=(p.map D.int).length):=by rw[HT.sIx_nat,lp];omega
 have e1:(s:Int)+1=((s+1:Nat):Int):=by omega
 have w2:¬(HT.sIx (p.map D.int).length 0 (a5 ((s+1:Nat):Int))=0/\HT.sIx (p.map D.int).length (p.map D.int).length a7=(p.map D.int).length):=by rw[HT.sIx_nat,lp];omega
 ext;rw[gi];ext;simp only[gN];ext;rw[Cr w1,e1,Cr w2,j8m nofun,j8l nofun];ext;rw[q9,List.set_eq_take_append_cons_drop,if_pos hs];simp
noncomputable def v8(m:Nat):List (List Int):=(aE (3^m)).map λn=>z8 3 m ((n:Nat):Int)
theorem Oz(m:Nat):v8 (m+1)=(v8 m).map (0 :: ·)++(v8 m).map (1 :: ·)++(v8 m).map (2 :: ·):=by
 have e:3^(m+1)=3^m+3^m+3^m:=by rw[iJ];omega
 have pc:((3^m:Nat):Int)=(3:Int)^m:=by simp
 have hp:(3:Int)^m≠0:=iN (fM (by decide));have key:∀(c n:Nat),c<3->n<3^m->z8 3 (m+1) (((n:Nat):Int)+3^m*(c:Int))=(c:Int)::z8 3 m (n:Int):=λc n hc hn=>by
  rw[z8,Oa (by decide) _ _ (xx m)];congr 1;have h0:(n:Int)/3^m=0:=Int.ediv_eq_zero_of_lt nofun (by rw[<-pc];omega)
  rw[fC _ _ hp,h0,bS];omega
 unfold v8;rw[e,gP,gP,Pk,Pk,Pa,Pa,Pa,Pa,Pa];congr 1
 .congr 1
  .apply bK;intro n hn;have:=key 0 n (by decide) (Xz.mp hn);simpa using this
  .apply bK;intro n hn;have:=key 1 n (by decide) (Xz.mp hn);show z8 3 (m+1) ((3^m+n:Nat):Int)=1::z8 3 m (n:Int);rw[show((3^m+n:Nat):Int)=(n:Int)+3^m*((1:Nat):Int)by rw[eO,pc];omega,this];rfl
 .apply bK;intro n hn;have:=key 2 n (by decide) (Xz.mp hn);show z8 3 (m+1) ((3^m+3^m+n:Nat):Int)=2::z8 3 m (n:Int);rw[show((3^m+3^m+n:Nat):Int)=(n:Int)+3^m*((2:Nat):Int)by rw[eO,eO,pc];omega,this];rfl
theorem Wm:∀{m:Nat}{p:List Int},p.length=m->(∀t∈p,0<=t/\t<3)->p∈v8 m
 |0,p,h,_=>by have:p=[]:=List.length_eq_zero_iff.mp h;subst this;decide
 |m+1,[],h,_=>by cases h
 |m+1,t::p,h,h3=>by
  have ih:=Wm (m:=m) (p:=p) (by simpa using h) λx hx=>h3 x (km _ hx);have ht:=h3 t (xj ..);rw[Oz];have:t=0\/t=1\/t=2:=by omega
  rcases this with e|e|e<;>subst e
  .exact Xm _ (Xm _ (Xk.mpr ⟨p,ih,rfl⟩))
  .exact Xm _ (X8 _ (Xk.mpr ⟨p,ih,rfl⟩))
  .exact X8 _ (Xk.mpr ⟨p,ih,rfl⟩)
theorem Qv{r:Rk}{rs:List Rk}{y:ag}{ys:List ag}(h:zg r.d=a5 y)(h2:z7 rs=a5 ys):z7 (r::rs)=a5 (y::ys):=by unfold z7;rw[h,h2]
theorem Cu{y:ag}(h:y.length<=10000):zg (.str y)=a5 y:=by unfold zg;exact if_pos h
theorem j5t{i:Int}(h:-18446744073709551616<i/\i<18446744073709551616):zg (.int i)=a5 (d4 (toString i)):=by unfold zg;exact if_pos h
theorem jao:T "_law_part" = a5 KL.fL_part:=by rfl
theorem gNA:G (bang "NoAsk")=a5 (.lst [.str "NoAsk"]):=by rfl
theorem iNA:(G (bang "NoAsk")).isSome=a8:=by rfl
theorem js1:∀p:List Int,(∀t∈p,0<=t/\t<3)->((PySem.PyData.shownAll (p.map PySem.PyData.int)).map (·.length)).sum<=p.length/\(PySem.PyData.shownAll (p.map PySem.PyData.int)).length=p.length
 |[],_=>⟨Nat.le_refl _,rfl⟩
 |t::p,h=>by
  obtain⟨a,b⟩:=js1 p λx hx=>h x (List.mem_cons_of_mem _ hx)
  have ht:=h t (List.mem_cons_self ..)
  have e:(PySem.PyData.shown (.int t)).length=1:=by
   have:t=0\/t=1\/t=2:=by omega
   rcases this with e|e|e<;>subst e<;>decide +kernel
  rw[List.map_cons];unfold PySem.PyData.shownAll;rw[List.map_cons,List.sum_cons,e,List.length_cons,List.length_cons,b];exact⟨by omega,rfl⟩
theorem j39{m:Nat}{p:List Int}(hm:m<=6)(hl:p.length=m)(hp3:∀t∈p,0<=t/\t<3):(tupS p).length<=100:=by
 obtain⟨a,b⟩:=js1 p hp3;have h:(tupS p).length<=_:=PySem.tupleText_len_le (PySem.PyData.shownAll (p.map PySem.PyData.int));omega
theorem Nv{m:Nat}{p:List Int}(hm:m<=6)(hp:p.length=m)(hp3:∀t∈p,0<=t/\t<3):∃z,zg (.tup (p.map D.int))=a5 z:=by have tl:=j39 hm hp hp3;refine⟨tupS p,?_⟩;simp only[zg,Ui];rw[if_pos ⟨λi hi=>by have:=hp3 i hi;omega,Xd tl (by decide)⟩]
theorem j63 {s:Int} {d:D} (hs:-10000000<s/\s<10000000) (sh:∃z,zg d=a5 z) (ρ:En):Uw "NoAsk" (Ys (a5 (.a [.e (.str "nothing can be asked at spot "),.e (.int s),.e (.str " of "),.e d]))) (G (bang "NoAsk")) ρ=.err "NoAsk" ρ:=by
 obtain⟨z,s4⟩:=sh;have e:z7 [.e (.str "nothing can be asked at spot "),.e (.int s),.e (.str " of "),.e d]=a5 ([("nothing can be asked at spot ":ag),d4 (toString s),(" of ":ag),z]:List ag) :=
  Qv (r:=.e (.str "nothing can be asked at spot ")) (Cu (y:="nothing can be asked at spot ") (by decide +kernel)) (Qv (r:=.e (.int s)) (j5t nofun) (Qv (r:=.e (.str " of ")) (Cu (y:=" of ") (by decide +kernel)) (Qv (r:=.e d) (rs:=[]) (ys:=[]) s4 (by rw[z7]))))
 rw[gNA,j7u (by simp) e,Lg]
theorem Ew {n m:Nat} {s c:Int} {p:List Int} (hm:m<=6) (hp:p∈v8 m) (hl:p.length=m) (hp3:∀t∈p,0<=t/\t<3) (hs:-10000000<s/\s<10000000) (h2:s<0\/(m:Int)<=s\/∃k:Nat,s=(k:Int)/\k<m/\p.getD k 0≠2):evP 1000 G T (n+1) "told_further" [q9 p,.int s,.int c]=.err "NoAsk":=by
 have rai:=j63 (s:=s) (d:=.tup (p.map D.int)) hs (Nv hm hl hp3);have lp:(p.map D.int).length=m:=by rw[xn,hl]
 rw[J3 (F:=v5) (by rfl) rfl];simp only[v5,v6,enter,q9];by_cases c1:s<0
 .ext;rw[rai];ext
 .by_cases c2:(m:Int)<=s
  .ext;rw[rai];ext
  .obtain⟨k,rfl,hk,h3⟩:∃k:Nat,s=(k:Int)/\k<m/\p.getD k 0≠2:=by
    rcases h2 with h|h|h
    .exact absurd h c1
    .exact absurd h c2
    .exact h
   ext;rw[j7t nofun];simp only[gN];ext;rw[rai];ext
theorem Vb {n m:Nat} {s c:Int} {p:List Int} (hm:m<=6) (hp:p∈v8 m) (hl:p.length=m) (hp3:∀t∈p,0<=t/\t<3) (hs:-10000000<s/\s<10000000) (h2:s<0\/(m:Int)<=s\/∃k:Nat,s=(k:Int)/\k<m/\p.getD k 0≠2):evP 1000 G T (n+2) "_law_refused" [q9 p,.int s,.int c]=.fresh [.str "NoAsk"]:=by
 have e1:=Ew (n:=n) (c:=c) hm hp hl hp3 hs h2;rw[J3 (F:=Zq) (by rfl) rfl];simp only[Zq,Qd,enter];ext;simp only[j51];ext
 try simp only[Rk.d]
 simp only[j50,j8e,j8d,j2x,Kq];ext;simp only[j2x,jaw];ext
 try simp only[Rk.d]
 rw[e1];simp only[jav iNA];ext;rw[Ep gNA];ext
theorem j5o{ks S:List (List Int)}(h:V8 ks=a5 S):Us (a5 (.v (.w (z6 ks))))=a5 (.v (.o (z6 S))):=by simp only[Us,Rk.d,z6];rw[show Qt (ks.map q9)=a5 ks from Ce];dsimp only;rw[h];rfl
noncomputable def jcq(p:List Int):Bool:=(aE p.length).all λs=>if p.getD s 0=2 then decide (V8 (jm ((p.set s 0).map vo)++jm ((p.set s 1).map vo))=a5 (jm (p.map vo)))else a8
theorem js2{m:Nat}{P:List Int->Bool}(h0:((v8 m).all λp=>P (0::p))=a8)(h1:((v8 m).all λp=>P (1::p))=a8)(h2:((v8 m).all λp=>P (2::p))=a8):(v8 (m+1)).all P=a8:=by
 rw[Oz,List.all_append,List.all_append,List.all_map,List.all_map,List.all_map]
 show (((v8 m).all λp=>P (0::p))&&((v8 m).all λp=>P (1::p))&&((v8 m).all λp=>P (2::p)))=a8
 rw[h0,h1,h2];rfl
theorem js3:∀m:Fin 5,(v8 m.val).all jcq=a8:=by decide +kernel
theorem jt0:((v8 4).all λp=>jcq (0::p))=a8:=by decide +kernel
theorem jt1:((v8 4).all λp=>jcq (1::p))=a8:=by decide +kernel
theorem jt2:((v8 4).all λp=>jcq (2::p))=a8:=by decide +kernel
theorem ju00:((v8 4).all λp=>jcq (0::0::p))=a8:=by decide +kernel
theorem ju01:((v8 4).all λp=>jcq (0::1::p))=a8:=by decide +kernel
theorem ju02:((v8 4).all λp=>jcq (0::2::p))=a8:=by decide +kernel
theorem ju10:((v8 4).all λp=>jcq (1::0::p))=a8:=by decide +kernel
theorem ju11:((v8 4).all λp=>jcq (1::1::p))=a8:=by decide +kernel
theorem ju12:((v8 4).all λp=>jcq (1::2::p))=a8:=by decide +kernel
theorem ju20:((v8 4).all λp=>jcq (2::0::p))=a8:=by decide +kernel
theorem ju21:((v8 4).all λp=>jcq (2::1::p))=a8:=by decide +kernel
theorem ju22:((v8 4).all λp=>jcq (2::2::p))=a8:=by decide +kernel
theorem j54:∀m:Fin 7,(v8 m.val).all jcq=a8:=λm=>by
 by_cases h:m.val<5
 .exact js3 ⟨m.val,h⟩
 .by_cases h5:m.val=5
  .rw[h5];exact js2 jt0 jt1 jt2
  .have h6:m.val=6:=by have:=m.isLt;omega
   rw[h6];exact js2 (js2 ju00 ju01 ju02) (js2 ju10 ju11 ju12) (js2 ju20 ju21 ju22)
theorem j53{m i:Nat}{p:List Int}(hm:m<=6)(hp:p∈v8 m)(hi:i<p.length)(h2:p.getD i 0=2):V8 (jm ((p.set i 0).map vo)++jm ((p.set i 1).map vo))=a5 (jm (p.map vo)):=by have h:=Xh.mp (j54 ⟨m,by omega⟩) p hp;have h:=Xh.mp h i (Xz.mpr hi);rw[if_pos h2]at h;exact of_decide_eq_true h
theorem j1j{i m:Nat}{a:Int}{p:List Int}{Γ:ag->List D->Rc}{s2 s4 s6:Sv}(hl:p.length=m)(hi:i<m)(hm:m<=6):vy (Qs [5] (ev Γ G .nil) (ev Γ G (.ite (.cmp .eq (.var 5) (.var 1)) (.var 3) (.ix (.var 0) (.var 5)))) [.val (q9 p),.val (.int (i:Int)),s2,.val (.int a),s4,.un,s6]) (upto 0 m)=a5 ((p.set i a).map D.int):=by
 have e:(p.set i a).map D.int=(aE m).map λk=>D.int (if k=i then a else p.getD k 0):=by
  apply cE;intro k;rw[X3,X3];by_cases hk:k<m
  .rw[cf hk,cD,Pn];by_cases z:i=k
   .subst z;rw[if_pos rfl,if_pos nofun,if_pos rfl];rfl
   .rw[if_neg z,if_neg (λh=>z h.symm),kj,kh nofun];rfl
  .rw[Xu (by rw[cb];omega),Xu (by rw[Py];omega)];rfl
 rw[e,Ej];refine Zv λk hk=>?_;have hk':k<m:=Xz.mp hk;have g1:=W4 (p:=p) (k:=k) nofun
 by_cases z:k=i
 .refine Vp (by ext) ?_;ext;subst z;simp
 .refine Vp (by ext) ?_;ext;simp only[g1];ext;rw[if_neg z]
noncomputable def Dn:Sx:=(.seq (.set 4 (.blt .tuple (.cons (.comp [5] (.ite (.cmp .eq (.var 5) (.var 1)) (.var 3) (.ix (.var 0) (.var 5))) (.range (.cons (.blt .len (.cons (.var 0) .nil)) .nil)) .nil) .nil))) (.seq (.set 6 (.call "told_further" (.cons (.var 0) (.cons (.var 1) (.cons (.var 3) .nil))))) (.seq (.ife (.not (.call "_law_same" (.cons (.var 6) (.cons (.var 4) .nil)))) (.seq (.ret (.lit (.bl a6))) .nop) .nop) (.seq (.set 2 (.bin .add (.var 2) (.call "rows_in" (.cons (.var 6) .nil)))) .nop))))
theorem Bw{l:List D}(h:D.depL l<=90):vp .ne (.lst l) (.lst l)=a5 a6:=by
 rw[j1n h h,Z3]
 .rfl
 .omega
theorem Kv(l:List (List Int)):D.depL (z6 l)<=90:=by have:=j1k l;simp only[D.dep]at this;omega
theorem ne1{x:ag}:vp .ne (.lst [.str x]) (.lst [.str x])=a5 a6:=Bw (by simp[D.depL,D.dep])
theorem Im{p:List Int}(h:p.length<=6):(jm (p.map vo)).length<=729:=by have:=Ye (fs:=p.map vo) (k:=3) (λf hf=>by obtain⟨t,_,rfl⟩:=Xk.mp hf;exact O7 t);rw[xn]at this;exact Xd this (fJ (n:=3) (by decide) h)
theorem We{n m i:Nat}{p:List Int}{a:Int}{l:List (List Int)}{s3 s4 s6:Sv}(hm:1<=m/\m<=6)(hl:p.length=m)(hi:i<m)(h2:p.getD i 0=2)(hll:l.length<=1000):Rv [3] (run 1000 (evP 1000 G T (n+3)) G Dn) (.int a) [.val (q9 p),.val (.int (0+(i:Int))),.own (z6 l),s3,s4,.un,s6] =
  .next [.val (q9 p),.val (.int (0+(i:Int))),.own (z6 (l++jm ((p.set i a).map vo))),.val (.int a),.val (q9 (p.set i a)),.un,.val (q9 (p.set i a))]:=by
 have R:evP 1000 G T (n+3) "rows_in" [q9 (p.set i a)]=.fresh (z6 (jm ((p.set i a).map vo))):=Y5 Nb O4 gN gA (by rw[cb];omega);have S:evP 1000 G T (n+3) "_law_same" [q9 (p.set i a),q9 (p.set i a)]=.val (.bl a8):=Lb jan 1 (n:=n+1) (by simp only[q9,D.dep];rw[Wu];omega) (K7 (by rw[cb];omega));have t:evP 1000 G T (n+3) "told_further" [q9 p,.int (0+(i:Int)),.int a]=.val (q9 (p.set i a)):=by rw[bS];exact Cj (n:=n+2) nofun nofun h2
 have C:=λ(s2 s4 s6:Sv)=>j1j (a:=a) (Γ:=evP 1000 G T (n+3)) (s2:=s2) (s4:=s4) (s6:=s6) hl hi nofun
 have lp:(p.map D.int).length=m:=by rw[xn,hl]
 have cl:=Im (p:=p.set i a) (by rw[cb];omega);rw[bS]at t ⊢;simp only[Dn,Qg];ext;simp only[xn,hl,Pr];erw[Zd (l:=(p.set i a).map D.int) (by rfl) (by rw[Jy];omega) (C _ _ _) (.inl rfl),t];rw[show D.tup ((p.set i a).map D.int)=q9 (p.set i a)from rfl,S];ext;rw[R];ext;simp only[z6,Pk]
theorem Ny {n m:Nat} {p:List Int} (hm:1<=m/\m<=6) (hp:p∈v8 m) (hl:p.length=m) (hp3:∀t∈p,0<=t/\t<3):evP 1000 G T (n+4) "_law_right" [q9 p]=.val (.bl a8):=by
 rw[J3 (F:=Yt) (by rfl) rfl];simp only[Yt,Zz,enter];have lp:(p.map D.int).length=m:=by rw[xn,hl]
 ext;simp only[q9,xn,hl,Pr];refine Yj (λi ρ=>∃s1 s2 s3 s4 s6,ρ=[.val (q9 p),s1,s2,s3,s4,.un,s6]) ⟨_,_,_,_,_,rfl⟩ ?_ ?_
 .rintro i d ρ hi ⟨s1,s2,s3,s4,s6,rfl⟩;obtain⟨h1,rfl⟩:=Rz hi;simp only[Qg];have gi:=W4 (p:=p) (k:=i) nofun
  by_cases h2:p.getD i 0=2
  .rw[h2]at gi;ext;simp only[gi];ext;have k1:=We (n:=n) (a:=0) (l:=[]) (s3:=s3) (s4:=s4) (s6:=s6) hm hl h1 h2 (by decide);rw[dY]at k1;have k2:=We (n:=n) (a:=1) (l:=jm ((p.set i 0).map vo)) (s3:=.val (.int 0)) (s4:=.val (q9 (p.set i 0))) (s6:=.val (q9 (p.set i 0))) hm hl h1 h2 (Xd (Im (by rw[cb];omega)) (by decide));unfold Dn at k1 k2;simp only[z6,fh]at k1 k2 ⊢;rw[Z1 k1,Z1 k2,K5];have R:evP 1000 G T (n+3) "rows_in" [q9 p]=.fresh (z6 (jm (p.map vo))):=Y5 Nb O4 gN gA nofun
   ext;rw[j5o (j53 hm.2 hp nofun h2),R];ext;rw[Bw (Kv _)];ext;exact⟨_,rfl,_,_,_,_,_,rfl⟩
  .have r0:=λc:Int=>Vb (n:=n+1) (c:=c) (s:=0+(i:Int)) hm.2 hp hl hp3 nofun (.inr (.inr ⟨i,by omega,h1,h2⟩))
   ext;simp only[gi];ext;erw[r0,ne1,r0,ne1];exact⟨_,rfl,_,_,_,_,_,rfl⟩
 .rintro ρ' ⟨s1,s2,s3,s4,s6,rfl⟩;ext
noncomputable def depth:Nat:=10
theorem lawTrue:∀ns:List Int,ns.length<=63->evP 1000 G T (depth+1) "law" [.lst (ns.map D.int)]=.val (.bl a8):=by
 intro ns hns;rw[J3 (F:=De) (by rfl) rfl];simp only[De,Do,enter,depth];obtain⟨ms,hms,hml⟩:=j1l ns (a5 2) (a5 12);have c0:evP 1000 G T 10 "_law_cell" [.lst (ns.map D.int),.int 0]=.val (.int (J8 ns 0)):=Wz j2t (k:=0) (by decide);have c1:evP 1000 G T 10 "_law_cell" [.lst (ns.map D.int),.int 1]=.val (.int (J8 ns 1)):=Wz j2t (k:=1) (by decide);obtain⟨m,hm⟩:∃m:Nat,1+J8 ns 0%6=(m:Int):=⟨(1+J8 ns 0%6).toNat,by omega⟩
 have hm6:1<=m/\m<=6:=by omega
 ext;rw[c0];ext;rw[c1,hm,hms];ext;rw[<-Xi];refine Yj (λi ρ=>∃s2 s3 s4 s5,ρ=[.val (.lst (ns.map D.int)),.val (.int m),s2,s3,s4,s5]) ⟨_,_,_,_,rfl⟩ ?_ ?_
 .rintro i d ρ hi ⟨s2,s3,s4,s5,rfl⟩;obtain⟨z,hz,rfl⟩:=Yr hi;simp only[Qg];ext;have hd:(z8 3 m (z%729)).length=m:=Z8 3 m _;have hr:∀t∈z8 3 m (z%729),0<=t/\t<3:=λt ht=>Uk (by decide) ht;have hp:=Wm hd hr;have rs:=Ny (n:=6) hm6 hp hd hr;obtain⟨f,hf⟩:∃f:Nat,z/729%1000000=(f:Int):=⟨(z/729%1000000).toNat,by omega⟩
  have hf6:f<1000000:=by omega
  erw[Lr jao hm6.2,hf];rw[show D.tup ((z8 3 m (z%729)).map D.int)=q9 (z8 3 m (z%729))from rfl,rs];ext;have key:∃s:Int,atI [D.int ((m:Int)+f),.int (-1-f),.int (m:Int),.int (-1),.int (0-m)] ((f:Int)%5)=a5 (.int s)/\(-10000000<s/\s<10000000)/\(s<0\/(m:Int)<=s):=by
   have:(f:Int)%5=0\/(f:Int)%5=1\/(f:Int)%5=2\/(f:Int)%5=3\/(f:Int)%5=4:=by omega
   rcases this with e|e|e|e|e<;>rw[e]
   .exact⟨_,rfl,by omega,by omega⟩
   .exact⟨_,rfl,by omega,by omega⟩
   .exact⟨_,rfl,by omega,by omega⟩
   .exact⟨_,rfl,by omega,by omega⟩
   .exact⟨_,rfl,by omega,by omega⟩
  obtain⟨s,e1,e2,e3⟩:=key
  erw[e1,Vb (n:=8) hm6.2 hp hd hr e2 (e3.elim .inl λh=>.inr (.inl h)),ne1];exact⟨_,rfl,_,_,_,_,rfl⟩
 .rintro ρ' ⟨s2,s3,s4,s5,rfl⟩;ext
end K04
end
open PySem PySem.W PyProof.Rows
local macro_rules | `(tactic| walk_at "lf") => `(tactic| (refine' L2.lf_mk ?a ?l ?c ?k; (case a => k_is); (case l => k_is); (case c => k_is); (case k => k_is)))
set_option Elab.async false
namespace PySem.W.Fast
def tw12046032753546045273:=0
def tw2916466663549795841:=0
def tw13077610272835233763:=0
def tw17159740065255781682:=0
def tw12293611971587209054:=0
def tw14650610677091769614:=0
def tw16005516292658021674:=0
def tw14380236854262329619:=0
def tw4050878126870332187:=0
def tw9185475504372448995:=0
def tw8554554917895291310:=0
def tw4749069248757183651:=0
def tw17656923264260592485:=0
def tw10129560362174218310:=0
def tw15081945605667171392:=0
def tw4373635544118691174:=0
def tw2361651906755430710:=0
def tw2095668177800848576:=0
def tw15973781756138138885:=0
def tw177760119267713359:=0
def tw5723784839058251120:=0
def tw10801628038180054404:=0
def tw17577750591686207957:=0
def tw407029796734756794:=0
def tw17303974266075735381:=0
def tw5838020255988051858:=0
def tw7856050307466766213:=0
def tw16714390757995292148:=0
def tw9079421307838488509:=0
def tw4736407192507911248:=0
def tw8467269212264407742:=0
def tw10448269927348454467:=0
def tw14958302552001057001:=0
def tw4233706819326287842:=0
def tw5724197909509640261:=0
def tw4152458948389334176:=0
def tw4621819853004602114:=0
def tw8511845569583798294:=0
def tw7531173872980049646:=0
def tw1044121691471662725:=0
def tw16402032098227592750:=0
def tw5384074616645656769:=0
def tw17379303779774687839:=0
def tw5050801527138127669:=0
def tw573478256819838024:=0
def tw13062562070693003681:=0
def tw3326773867528885474:=0
def tw9879090387687075493:=0
def tw17027073305079114322:=0
def tw12925213568553213483:=0
def tw4895926319042592564:=0
def tw16201923279786577131:=0
def tw5811135438278628586:=0
def tw12575913778668152795:=0
def tw2824665019181706002:=0
def tw8034097341931809864:=0
def tw7273462813168649395:=0
def tw16214764959814423328:=0
def tw10110591485091051217:=0
def tw15508789579816115685:=0
def tw5328446343340703794:=0
def tw15120854807420310897:=0
def tw8756079000895320941:=0
def tw17657723694980772372:=0
def tw7855841872910375600:=0
def tw4320073893661146095:=0
def tw6419439515740114771:=0
def tw2478069753875625441:=0
def tw5322923577602882771:=0
def tw15953903757821406451:=0
def tw8552737304852518875:=0
def tw1666020378146790396:=0
def tw1291015760339955653:=0
def tw5203546870084158881:=0
def tw17701184469135725271:=0
def tw14536028032927175968:=0
def tw12287356986669074071:=0
def tw2519920503412105601:=0
def tw12147971841097509819:=0
def tw15854169890121994466:=0
def tw13867818860995219695:=0
def tw11783916828474875930:=0
def tw18206462612851940581:=0
def tw9620845947865505704:=0
def tw16563071770269455572:=0
def tw10544749536488423789:=0
def tw13715175482022756646:=0
def tw17189120931231489972:=0
def tw4961291469941649650:=0
def tw13384834969526518253:=0
def tw854271878282881874:=0
def tw10588868833666455109:=0
def tw4081422341252512292:=0
def tw12778517632326799768:=0
def tw468098633904043480:=0
def tw6110577860652808915:=0
def tw18245634388605528053:=0
def tw10784537155474748456:=0
def tw7017409755959817355:=0
def tw15900838002957196722:=0
def tw15270250762664887149:=0
def tw8380323720984448974:=0
def tw17528797892577865645:=0
def tw5640413618090477724:=0
def tw3878937231112197697:=0
def tw5153569246783627551:=0
def tw242876718136883731:=0
def tw14373172928713224424:=0
def tw7087238064143164060:=0
def tw3014052887513501576:=0
def tw18285233144306554443:=0
def tw12404342632790580931:=0
def tw3938101108638323100:=0
def tw8490635055164458399:=0
def tw9112788079226202820:=0
def tw15155307195456842100:=0
def tw4897227469005403409:=0
def tw18427914250150870138:=0
def tw2221755225953101312:=0
def tw5936479127682345838:=0
def tw6690356727222506067:=0
def tw9475849051785161841:=0
def tw9042310915948634059:=0
def tw16211036131890320938:=0
def tw6923338308540467965:=0
def tw17849444993091489694:=0
def tw4061794824088405958:=0
def tw7729534660686771674:=0
def tw17007870889183173561:=0
def tw8468518401677226250:=0
def tw8251570716460504213:=0
def tw4247845713679447182:=0
def tw1547658754837054815:=0
def tw17078790046946396462:=0
def tw13048133119038141196:=0
def tw15380886539816644174:=0
def tw4874801838015441642:=0
def tw8160211265235477341:=0
def tw7440675982460264837:=0
def tw2617586113755864022:=0
def tw9429711754159559104:=0
def tw15651329196585001943:=0
def tw3592322879969766609:=0
def tw11305104329373005436:=0
def tw15351611743229228119:=0
def tw5964448735519165419:=0
def tw6728308786746413820:=0
def tw11678421605711314318:=0
def tw192509820587568332:=0
def tw8543893156870239710:=0
def tw15621498167009406974:=0
def tw319674650419458398:=0
def tw15580304912036311797:=0
def tw5069969569665011442:=0
def tw187154316663662554:=0
def tw16108812639249810645:=0
def tw4524431274191230809:=0
def tw17853757756481771835:=0
def tw4333122322423033097:=0
def tw8266199857631118821:=0
def tw8443877328852293525:=0
def tw2713817917253239833:=0
def tw14953468382208525227:=0
def tw11010079345374539257:=0
def tw14040644654906913134:=0
def tw12030548167779007204:=0
def tw2170876078422933642:=0
def tw2960438783391463540:=0
def tw4644335729152802163:=0
def tw9440109597934266077:=0
def tw6737602659780816777:=0
def tw12624011552919215756:=0
def tw9304846481982268749:=0
def tw15833067341144251144:=0
def tw9464573193533328004:=0
def tw8168643372440713185:=0
def tw12865655598021726476:=0
def tw11272865604422480035:=0
def tw663333478834661319:=0
def tw14428848693005015827:=0
def tw13392045557465074464:=0
def tw15084048719212090064:=0
def tw5984000258995208898:=0
end PySem.W.Fast
set_option maxRecDepth 100000 in
set_option maxHeartbeats 0 in
theorem PySem.Challenge.cw_leastasks_k04_told_further_holds : PySem.Challenge.rw_leastasks_k04_told_further.Holds := by
  w_on; o_law; k_head; (case hw => w_witness2)
  k_fill
  refine L2.walkL (l := PySem.Challenge.rw_leastasks_k04_told_further) (k := L2.lv (K04.depth + 1)) (x := "_law_script") (by decide) rfl rfl (ts := []) (fun w h Y => ⟨PySem.W.kIn_of Y, fun _ h => nomatch h⟩) ?tz ?F
  case tz => intro w; kernel_rfl
  case F =>
    intro w mg fa h KX Gn hmg tz
    refine' K04.head KX Gn hmg ?h0 ?h1 ?h2 ?h3 ?h4 ?h5 ?h6 ?h7 ?h8 ?h9 ?bz tz ?ga0l ?gn0 ?gn1 ?exa ?xz K04.lawTrue
    (case h0 => walk_at "lf")
    (case h1 => walk_at "lf")
    (case h2 => walk_at "lf")
    (case h3 => walk_at "lf")
    (case h4 => walk_at "lf")
    (case h5 => walk_at "lf")
    (case h6 => walk_at "lf")
    (case h7 => walk_at "lf")
    (case h8 => walk_at "lf")
    (case h9 => walk_at "lf")
    (case gn0 => k_is)
    (case gn1 => k_is)
    (case ga0l => k_is)
    (case bz => kernel_rfl)
    (case exa => kernel_rfl)
    (case xz => kernel_rfl)
#print axioms PySem.Challenge.cw_leastasks_k04_told_further_holds