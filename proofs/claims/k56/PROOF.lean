import PyProof.Rows.All
import Wide.All
import OpenK.AllK
import Wide.FinOn
import Lean
import PyProof.EqAt
import PyProof.EqKinds
import PyProof.TupleCall
import KE.KDictList
import KE.KMinKey
import PyProof.ListRange
import KE.KIntText
import PyProof.ReprRoads
import KE.KSortAsk
import KE.KSortTup
import PyProof.Rows.TupTab
import PyProof.TupleOfSeq
import PyProof.Rows.SortStr
import PyProof.Rows.SortWalk
import KE.KItemsList
import KE.KRevIter
import PyProof.TupleOfGen
import PyProof.StrBlockL
import PySem.Challenge.RW_leastasks_k56_played
set_option Elab.async false
set_option linter.all false
set_option maxRecDepth 100000
set_option maxHeartbeats 4000000
set_option genSizeOf false
set_option genInjectivity false
open Option renaming some→aa,none→ah,getD_some→cT,isSome_some→dX,join_some→iy,getD_none→iz,map_some→iJ,bind→jM
open Bool renaming false→ae,true→ag,or_eq_true→bV,eq_iff_iff→dD,not_eq_true'→f6,and_true→gh,and_false→jF,or_false→jN,false_or→jO
open PySem renaming starEach→af,Addr→ai,Value→aj,Str→ao,Shared→aq,Expr→ar,sizeLine→au,Program→av,wpAny_bind→aw,mainGlobals→ax,eval→az,World→aA,wpAny→aC,FuncData→aD,Around→aE,model→aF,Stmt→aG,wpAny_pure→aH,Heap→aI,backTo→aJ,Pos→aL,behindInMarks→aN,swapsWith→aO,foldedSetIterable→aQ,cellsFrom→aR,attributeBase→aS,keywordEach→aT,sizeLine_eq→aW,compareOp→aX,cLine→aY,bootBuiltins→aZ,binaryOp→b0,Keyword→b9,Scope→be,backToKw→bq,wpAny_mono→bu,wpAny_Call_Name_kw→bx,bindArgs→bB,NameKind→bC,assignEach→bD,wpAny_passesOwn→bL,wpAny_truthy_bool→bN,wpAny_newObj_type→bO,codeAny→bS,call_meets→bX,reprText→c9,codeAny_mono→cb,Env→cf,Obj→cw,sliceBounds→cz,getMethod→cR,PassesOwn→cS,builtinsNs→cV,wpAny_pyIter_list→dj,holding→dk,sysModules→dP,standAt→dQ,assign→dR,wpAny_execs_nil→dU,letOwnedTupleGo→dW,recursionLimit→eK,newFunctionEnv→eM,intItems→eN,Result→eO,JoinOk→eQ,IsPart→eR,typeIs_str→fm,typeIs_int→fq,isTrue→ft,intText?→fM,concat_meets→fN,callerA→fO,callWith→fQ,boot_len→fS,BindsTo→fU,noFill_tuple_add→fX,numAt→gb,CmpOp→gc,Within→gj,Model→gy,GenState→gz,wpAny_binaryOp_repeat_ref→gO,wpAny_standAt→hZ,wpAny_comprehension_free→ia,swapsWithSole→ib,swappedStores→ic,seq_tuple_add→ie,call→ig,pushCells→iq,bindL→iu,bindC→iv,Arguments→iw,valueAt→iE,seqSlot_of→iF,getItem→iG,Builtin→iH,wpAny_isTrue_Compare1→iO,wpAny_field→iV,lookup_relabel_local→iW,intItems_at→iX,Sem→iY,Operator→iZ,wpAny_pyIter_tuple→jI,wpAny_call→jJ,wpAny_Name→jK,wpAny_assign_Name→jU,relabel→jV,call_sum_walkAnyS→jW,again→jX,Tok→jY,wpAny_execs_cons→kD,wpAny_call_entry→kE,DictEntry→kF,pushCells_keeps→l6,wpAny_Compare1→ly,pyIter→lz,compEnvC→lD,Params→lE,wpAny_holding→lK,intBits_le_64→lL,evalPart_none→lM,call_list_seq→lN
open List renaming replicate→ay,range→aP,filterMap_cons→bQ,find?_cons→bU,length_filter_le→bZ,mem_append_left→cg,lookup→cj,of_mem_zip→cq,set_cons_succ→cC,map_replicate→cD,getElem?_append_right→cE,foldl→cG,mem_of_find?_eq_some→cL,length_range→cP,not_mem_nil→cX,filter_cons_of_pos→cY,filter_cons_of_neg→cZ,range_succ_eq_map→dn,map_nil→du,foldl_cons→dB,length_singleton→dE,length_replicate→dH,getElem?_eq_none→dJ,find?_eq_none→eE,set→eX,getElem?_set→eY,any_eq_false→eZ,cons_append→fi,nil_append→fv,find?_some→fw,drop_zero→fW,all_cons→gf,take_of_length_le→gr,any_map→gu,all_map→gv,singleton_append→gH,mem_of_mem_take→gQ,mem_of_mem_drop→gW,length→gX,getElem?_mapIdx→gY,mem_map_of_mem→ij,zip_cons_cons→iA,filter_append→iB,reverse_cons→iK,ext_getElem?→iL,take_length→iP,range'_succ→iQ,any_toArray→iR,any_eq_true→iS,idxOf_cons→ja,any_append→jv,nodup_nil→jE,range'→kK
open Option.some renaming inj→aB
open PySem.Value renaming ref→aK,str→bh,int→bj,none→bp,bool→bE,type→de,isStrOf→jA,float→jQ,bytes→jR
open PySem.Builtin.Str renaming strSliceIndices→aM,tooLong→bY,occurrences→fh,glued→lx
open False renaming elim→aU
open Or renaming inl→aV,inr→bW
open Ne renaming symm→ba
open PySem.W renaming findIn→bb,fnOf→br,nsIn→cM,OpenLaw→cQ,keepIn→dy,codeIn→gw,WalkO→hJ,isFn→iT,Frag→lq
open PyProof.Rows renaming envOfC→bc,AllBare→dm,FormattedValue_plain→eS,IntsAre→gp,SortKind→gC,subscriptTail_builtinR→iI,slot_tuple_getitem→jL,IsTup→jZ,formatField_str→l7,boot_isinstance→l9,tail_any→lG,slicePart_none→lH,Keyed→lI,subscriptTail→lO
open PySem.NameKind renaming free→bf,cell→bG
open Sum renaming inr→bg,inl→f7
open PySem.Builtin.Slice renaming slicePlaces→bH,sliceAdjust→c8,sliceApplied→dZ,slicePartIndex→kB,sliceFields→kC
open PySem.Builtin.Tuple renaming tupleExact→bI,tupleTooMany→dY,tupleItemsOf→kA
open PySem.Txt renaming slice→bJ,join→dN,mul→iC,split→lJ
open Nat renaming zero_le→bM,ne_of_gt→cA,lt_of_le_of_lt→cI,le_of_lt→dz,lt_succ_of_lt→f9,zero_add→gD,mul_comm→gE,min_self→kH,lt_or_ge→kI,le_of_eq→kJ,log2_lt→lb,le_succ→lh
open ForInStep renaming yield→bP
open PySem.Builtin.List renaming listTooLong→cn
open Array renaming length_toList→cu,toList→jP
open PySem.SeqAt renaming EqAt→cy,RcAt→fB
open PySem.Str renaming empty→cB,cps→fV,ofString→ke,length→lr
open PySem.F renaming args_tuple_add_2→cH,plainAttrs_list→cN,entry_tuple_add→cO,slot_tuple_add→cU,slot_tuple_index→df,slot_list_append→dh,slot_int_rmul→dM,excBase_ValueError→fj,type_tuple_index→fC,type_list_append→fD,plainAttrs_tuple→fE,slot_list_index→gJ,slot_dict_items→gN,slot_str_join→il,args_tuple_mul_2→iU,entry_tuple_mul→jC,args_int_rmul_2→jD,slot_tuple_mul→jG,entry_int_rmul→jH,fills_int_mul→jS
open Int renaming emod_lt_of_pos→cJ,zero_add→dC,fdiv_eq_ediv_of_nonneg→fZ,natCast_nonneg→iM,le_refl→lj
open Classical renaming propDecidable→cK
open PySem.PyData renaming int→cW,showableAll→dS,hasDictAll→eB,depthAll→ff,showable→iD,hasDict→iN,depth→jB
open Sum.inr renaming inj→dw
open PySem.PassesOwn renaming leaving→dO
open PySem.Around renaming under→eC,frames_deeper→gm
open PySem.Heap renaming SameBut→eW
open PySem.Calls renaming Name_function_global→fH,callWith_builtin→gi,evalArgs_plain→gx,spliced_cons→hV,spliced_nil→ip
open PySem.Code renaming isFrame→gk,isGuard→jT,frames→kz
open PySem.EqMixed renaming ne_str_int→kg,ne_str_bool→ki,ne_int_str→kl,ne_bool_str→kn,eq_str_int→kq,eq_str_bool→ku,eq_int_str→kx,eq_bool_str→ky
open PySem.EqNone renaming ne_str_none→kL,ne_none_str→kM,ne_none_none→kN,ne_none_int→kO,ne_none_bool→kP,ne_int_none→kQ,ne_bool_none→kS,eq_str_none→kT,eq_none_str→kU,eq_none_none→kW,eq_none_int→kX,eq_none_bool→kY,eq_int_none→kZ,eq_bool_none→l5
def kh:=@List.getElem?_eq_getElem
def kj:=@List.mem_cons_of_mem
def km:=@List.getD_eq_getElem?_getD
def xf:=@List.mem_cons
def xg:=@List.length_cons
def xj:=@List.lookup_cons
def xm:=@PySem.Heap.lt_size
def xn:=@PySem.Heap.get?_push_of_some
def xu:=@Bool.false_ne_true
def xx:=@List.map_cons
def X3:=@Nat.le_refl
def X4:=@List.mem_cons_self
def X5:=@List.length_map
def X6:=@List.size_toArray
def X7:=@List.mem_singleton
def X8:=@List.length_append
def Xa:=@Nat.ne_of_lt
def Xb:=@Bool.and_eq_true
def Xc:=@PySem.Heap.get?_push_size
def Xd:=@List.nodup_cons
def Xe:=@List.getElem?_map
def Xf:=@Nat.le_trans
def Xg:=@List.mem_of_getElem?
def Xh:=@List.getElem?_eq_some_iff
def Xi:=@List.mem_append_right
def Xj:=@Nat.lt_of_lt_of_le
def Xk:=@List.all_eq_true
def Xl:=@List.getElem?_set_ne
def Xm:=@Option.isSome_iff_exists
def Xn:=@List.mem_map
def Xo:=@List.length_take
def Xp:=@List.append_nil
def Xq:=@Nat.lt_trans
def Xr:=@List.getElem?_set_self
def Xu:=@List.length_drop
def Xv:=@PySem.mem_of_lookup
def Xw:=@Int.toNat_natCast
def Xx:=@Nat.lt_irrefl
def Xy:=@List.mem_range
def Xz:=@List.map_map
def ph:=@List.getElem?_append_left
def pq:=@Bool.false_eq_true
def P0:=@List.append_assoc
def Pa:=@PySem.PassesOwn.never
def Pb:=@List.replicate_succ
def Pg:=@Array.toList_append
def Ph:=@Option.map_eq_some_iff
def Pj:=@Nat.lt_succ_self
def Pn:=@List.mem_filterMap
def Pq:=@List.mem_filter
def Pr:=@List.mem_append
def Pu:=@Int.emod_nonneg
def Py:=@List.any_cons
def Pz:=@PySem.Heap.size_push
def tu:=@List.getElem_mem
def T3:=@Array.append_inj_right
def T4:=@List.set_cons_zero
def T5:=@List.idxOf_lt_length_of_mem
def T6:=@List.length_nil
def T7:=@List.map_append
def T8:=@PySem.W.mg_of
def T9:=@List.flatten_cons
def Tc:=@Nat.lt_of_succ_le
def k5f:=@And.intro
abbrev k5g:=lq
abbrev k5h:=aj→aq→Prop
abbrev k5i:=List (ai×cw)
abbrev k5j:=ao→Option aj
abbrev k5k:=("__debug__":ao)
abbrev k5l:=("__classdict__":ao)
local macro_rules | `(tactic| omega)=>`(tactic| first | with_reducible assumption | with_reducible exact Nat.le_of_lt (by assumption) | with_reducible exact Nat.le_refl _ | lia)
section
namespace L2
open PySem PySem.Spec PyProof.Rows
noncomputable abbrev Key:=Sum Int ao
noncomputable def Ms:Key->aj->Bool
 |.inl k,v=>Value.isInt k v
 |.inr x,v=>jA x v
noncomputable def jh4(w:aA):Key->Int
 |.inl k=>hashInt k
 |.inr x=>hashStr w x
theorem zm:∀{k:Key}{v:aj},Ms k v=ag->(∃i t,k=f7 i/\v=bj i t)\/(∃x t,k=bg x/\v=bh x t)
 |.inl i,v,h=>by obtain⟨t,e⟩:=Value.isInt_shape (k:=i) (v:=v) h;exact .inl ⟨i,t,rfl,e⟩
 |.inr x,v,h=>by obtain⟨t,e⟩:=Value.isStrOf_shape (x:=x) (v:=v) h;exact .inr ⟨x,t,rfl,e⟩
theorem j29(x:ao)(t:jY):Ms (.inr x) (.str x t)=ag:=by simp[Ms,jA]
theorem jby(a b:Int):decide ((f7 a:Key)=f7 b)=(a==b):=by
 by_cases e:a=b
 .subst e;simp
 .have h:¬(f7 a:Key)=f7 b:=λq=>e (Sum.inl.inj q);rw[decide_eq_false h];exact(beq_eq_false_iff_ne.mpr e).symm
theorem jbv(a b:ao):decide ((bg a:Key)=bg b)=decide (a=b):=by
 by_cases e:a=b
 .subst e;simp
 .have h:¬(bg a:Key)=bg b:=λq=>e (dw q);rw[decide_eq_false h,decide_eq_false e]
theorem jbx(a:Int)(b:ao):decide ((f7 a:Key)=bg b)=ae:=decide_eq_false (λq=>nomatch q)
theorem jbw(a:ao)(b:Int):decide ((bg a:Key)=f7 b)=ae:=decide_eq_false (λq=>nomatch q)
noncomputable def Yc(prog:av)(w:aA):PySem.KeyKind prog w Key where
 is:=Ms
 hash:=jh4 w
 inj:=λv a b ha hb=>by
  rcases zm ha with ⟨i,t,rfl,rfl⟩|⟨x,t,rfl,rfl⟩
  .rcases zm hb with ⟨j,u,rfl,e⟩|⟨y,u,rfl,e⟩
   .injection e with e1 _;rw[e1]
   .exact nomatch e
  .rcases zm hb with ⟨j,u,rfl,e⟩|⟨y,u,rfl,e⟩
   .exact nomatch e
   .injection e with e1 _;rw[e1]
 byValue:=λk v h=>by rcases zm h with ⟨i,t,rfl,rfl⟩|⟨x,t,rfl,rfl⟩<;>rfl
 pyHash:=λhv h=>by
  rcases zm hv with ⟨i,t,rfl,rfl⟩|⟨x,t,rfl,rfl⟩
  .exact wpAny_pyHash_int h
  .exact wpAny_pyHash_str h
 eqBool:=λhu hv h=>by
  rcases zm hu with ⟨i,t,rfl,rfl⟩|⟨x,t,rfl,rfl⟩
  .rcases zm hv with ⟨j,u,rfl,rfl⟩|⟨y,u,rfl,rfl⟩
   .rw[jby]at h;exact wpAny_eqBool_int h
   .rw[jbx]at h;exact SeqAt.EqAt.int_str i t y u _ _ _ _ h
  .rcases zm hv with ⟨j,u,rfl,rfl⟩|⟨y,u,rfl,rfl⟩
   .rw[jbw]at h;exact SeqAt.EqAt.str_int x t j u _ _ _ _ h
   .rw[jbv]at h;exact wpAny_eqBool_str h
 «strs»:=λk x t v h=>by
  rcases zm h with ⟨i,u,rfl,e⟩|⟨y,u,rfl,e⟩
  .exact nomatch e
  .injection e with e1 _;subst e1;cases v<;>rfl
theorem Vz(prog:av)(w:aA)(x:ao)(t:jY):(Yc prog w).is (.inr x) (.str x t)=ag:=j29 x t
set_option genInjectivity true in
inductive V where
 |non|bl (b:Bool)|int (i:Int)|str (x:ao)|byt (b:Array UInt8)|flt (b:UInt64)|ref (a:ai)|ty (n:String)
 deriving DecidableEq
def RelV:V->aj->Prop
 |.non,u=>u=bp
 |.bl b,u=>u=bE b
 |.int i,u=>∃t,u=bj i t
 |.str x,u=>∃t,u=bh x t
 |.byt b,u=>∃t,u=jR b t
 |.flt b,u=>∃t,u=jQ b t
 |.ref a,u=>u=aK a
 |.ty n,u=>u=de n
abbrev Vals:List V->List aj->Prop:=Paired RelV
theorem Vals.length{xs:List V}{us:List aj}(r:Vals xs us):xs.length=us.length:=Paired.length r
theorem Vals.get:∀{xs:List V}{us:List aj}{i:Nat}{x:V},Vals xs us->xs[i]?=aa x->∃u,us[i]?=aa u/\RelV x u
 |_,_,_,_,.nil,e=>by simp at e
 |_,_,0,_,.cons r _,e=>by simp at e;subst e;exact⟨_,rfl,r⟩
 |_,_,i+1,x,.cons _ t,e=>by obtain⟨u,h1,h2⟩:=Vals.get (i:=i) (x:=x) t (by simpa using e);exact⟨u,by simpa using h1,h2⟩
theorem Vals.append:∀{xs ys:List V}{us ws:List aj},Vals xs us->Vals ys ws->Vals (xs++ys) (us++ws)
 |_,_,_,_,.nil,s=>s
 |_,_,_,_,.cons r t,s=>.cons r (Vals.append t s)
theorem Vals.take:∀{xs:List V}{us:List aj}(n:Nat),Vals xs us->Vals (xs.take n) (us.take n)
 |_,_,0,_=>.nil
 |_,_,_+1,.nil=>.nil
 |_,_,n+1,.cons r t=>.cons r (Vals.take n t)
theorem Vals.drop:∀{xs:List V}{us:List aj}(n:Nat),Vals xs us->Vals (xs.drop n) (us.drop n)
 |_,_,0,r=>r
 |_,_,_+1,.nil=>.nil
 |_,_,n+1,.cons _ t=>Vals.drop n t
def Y4:Option V->Option aj->Prop
 |some v,aa u=>RelV v u
 |none,ah=>True
 |_,_=>False
def KV{κ:Type}:List (κ×V)->List (κ×aj)->Prop:=Paired λ(p:κ×V) (q:κ×aj)=>p.1=q.1/\RelV p.2 q.2
noncomputable def kV:Key->V
 |.inl i=>.int i
 |.inr x=>.str x
inductive HO where
 |lst (xs:List V)
 |tup (xs:List V)
 |dK (kvs:List (Key×V))|dT (kvs:List (List Key×V))
 |dI (xs:List (List Int×ai×aj)) (ep:Nat)
 |set (S:Int->Bool) (n:Nat)
 |ins (C dx:ai) (fs:List (ao×V))
 |own (x:ai)
 |xd (fs:List (ao×V))
 |met (f x:ai)
 |rng (lo hi:Int)
 |frz (o:cw) (u:HO)
 |tbl (ps:Array aj)
 |cod (q:ao)
 |ext (φ:aI->Prop)
noncomputable abbrev Hp:=ai->Option HO
noncomputable def upd(H:Hp)(a:ai)(o:HO):Hp:=λb=>if b=a then aa o else H b
theorem je{H:Hp}{a:ai}{o:HO}:upd H a o a=aa o:=by unfold upd;rw[if_pos rfl]
theorem jj{H:Hp}{a b:ai}{o:HO}(h:b≠a):upd H a o b=H b:=by unfold upd;rw[if_neg h]
theorem j7h{H:Hp}{a:ai}{o u:HO}:upd (upd H a o) a u=upd H a u:=by funext b;unfold upd;split<;>rfl
theorem jm{H:Hp}{a b:ai}{o:HO}(h:H a=aa o)(h':H b=ah):a≠b:=by intro e;subst e;rw[h]at h';cases h'
def Zy(h:aI)(a:ai):Prop:=∀o,h.get? a=aa o->o.dict=ah
theorem Zy.new(h:aI)(xs:Array aj):Zy (h.push { cls:=.type "tuple",data:=.seq xs }) h.objs.size:=λo e=>by have z:(h.push { cls:=.type "tuple",data:=.seq xs }).get? h.objs.size=aa { cls:=.type "tuple",data:=.seq xs }:=Xc _ rfl;rw[z]at e;cases e;rfl
theorem Zy.of{h:aI}{a:ai}{d:Data}{c:aj}(e:h.get? a=aa { cls:=c,data:=d }):Zy h a:=λo e'=>by rw[e]at e';cases e';rfl
def j0y(o:cw)(q:ao):Prop:=∃(vs:Array aj)(t:jY),o.data=.fields vs/\vs[1]?=aa (.str q t)
section
variable(P:av)(w:aA)
def jo(H:Hp)(h:aI)(a:ai):HO->Prop
 |.lst xs=>xs.length<=au/\∃(its:List aj)(n:Nat),Vals xs its/\h.get? a=aa { cls:=.type "list",data:=.seq its.toArray n }
 |.tup xs=>xs.length<=au/\∃its:List aj,Vals xs its/\jZ h a its.toArray/\Zy h a
 |.dK kvs=>kvs.length<=au/\(a==dP)=ae/\∃vs,KV kvs vs/\h.DictOf (Yc P w) a vs
 |.dT kvs=>kvs.length<=au/\(a==dP)=ae/\∃xs:List (List Key×ai×aj),
   Paired (λ(p:List Key×V) (q:List Key×ai×aj)=>p.1=q.1/\H q.2.1=aa (.tup (p.1.map kV))/\RelV p.2 q.2.2) kvs xs /\
   ∃o es ep,h.get? a=aa o/\o.ExactDict/\o.data=.dict es ep/\es.toList=xs.map (entryOfKey (tupleKind (Yc P w)))/\(xs.map (·.1)).Nodup
 |.dI xs ep=>xs.length<=au/\(a==dP)=ae/\(xs.map λx=>x.1).Nodup/\∃(o:cw)(es:Array kF),h.get? a=aa o/\o.ExactDict/\o.data=.dict es ep/\es.toList=xs.map (entryOfKey (tupleKind (intKind P w)))
 |.set S n=>h.SetOf (intKind P w) a S n
 |.ins C dx fs=>H dx=aa (.own a)/\fs.length<=1000/\dx≠a/\h.get? a=aa (W.instObj C dx) /\
   ∃mA,h.Ns1 dx mA/\(∀f,Y4 (fs.lookup f) (mA f))/\gj mA (fs.map (·.1))
 |.own _=>∃o,h.get? a=aa o
 |.xd fs=>∃mA,h.Ns1 a mA/\∀f,Y4 (fs.lookup f) (mA f)
 |.rng lo hi=>∃t u v,h.get? a=aa { cls:=.type "range",data:=.fields #[.int lo t,.int hi u,.int 1 v] }
 |.frz o u=>h.get? a=aa o/\jo H h a u
 |.tbl ps=>h.get? a=aa { cls:=.none,data:=.fields ps }
 |.cod q=>∃ps:Array aj,h.get? a=aa (W.tabObj ps)/\TriplesOk ps.toList/\∀pos cv,codeAmong pos ps.toList=aa cv->∃(c:ai)(oc:cw),cv=.ref c/\H c=aa (.frz oc (.own 0))/\j0y oc q
 |.met f x=>h.get? a=aa (W.methodObj (.ref f) (.ref x))
 |.ext φ=>φ h/\(∃o,h.get? a=aa o)/\∀h1 h2:aI,φ h1->(∀o,h1.get? a=aa o->h2.get? a=aa o)->φ h2
def HOk(H:Hp)(h:aI):Prop:=∀a o,H a=aa o->jo P w H h a o
end
section
variable{P:av}{w:aA}{H H':Hp}{h h':aI}{a:ai}{o:HO}
theorem jo.lt(x:jo P w H h a o):a<h.objs.size:=by
 cases o with
 |lst xs=>obtain⟨_,_,_,_,e⟩:=x;exact xm e
 |tup xs=>obtain⟨_,_,_,p,_⟩:=x;exact p.lt
 |dK kvs=>obtain⟨_,_,_,_,o,_,_,e,_⟩:=x;exact xm e
 |dT kvs=>obtain⟨_,_,_,_,o,_,_,e,_⟩:=x;exact xm e
 |dI xs ep=>obtain⟨_,_,_,o,_,e,_⟩:=x;exact xm e
 |set S n=>obtain⟨o,_,_,_,e,_⟩:=x;exact xm e
 |ins C dx fs=>obtain⟨_,_,_,e,_⟩:=x;exact xm e
 |own y=>obtain⟨_,e⟩:=x;exact xm e
 |xd fs=>obtain⟨_,⟨_,_,_,e,_⟩,_⟩:=x;exact xm e
 |rng lo hi=>obtain⟨_,_,_,e⟩:=x;exact xm e
 |frz ob u=>obtain⟨e,_⟩:=x;exact xm e
 |tbl ps=>exact xm (show h.get? a=aa _ from x)
 |cod q=>obtain⟨_,e,_⟩:=x;exact xm e
 |met f y=>exact xm (show h.get? a=aa _ from x)
 |ext φ=>obtain⟨_,⟨_,e⟩,_⟩:=x;exact xm e
theorem Paired.mapP{α β:Type}{F G:α->β->Prop}:∀{l₁:List α}{l₂:List β},Paired F l₁ l₂->(∀a b,F a b->G a b)->Paired G l₁ l₂
 |_,_,.nil,_=>.nil
 |_,_,.cons r t,f=>.cons (f _ _ r) (Paired.mapP t f)
theorem jo.stay(x:jo P w H h a o)(k:∀b u,(b=a\/H b=aa (.own a))->h.get? b=aa u->h'.get? b=aa u)
  (ho:∀b,H b=aa (.own a)->H' b=aa (.own a)) (ht:∀b xs,H b=aa (.tup xs)->H' b=aa (.tup xs)) (hz:∀b o,(∃vs,o.data=.fields vs)->H b=aa (.frz o (.own 0))->H' b=aa (.frz o (.own 0))):jo P w H' h' a o:=by
 induction o with
 |lst xs=>obtain⟨z,its,n,r,e⟩:=x;exact⟨z,its,n,r,k _ _ (.inl rfl) e⟩
 |tup xs =>obtain⟨z,its,r,⟨ob,e,c⟩,nd⟩:=x;refine⟨z,its,r,⟨ob,k _ _ (.inl rfl) e,c⟩,λo q=>?_⟩;rw[k _ _ (.inl rfl) e]at q;cases q;exact nd _ e
 |dK kvs=>obtain⟨z,y,vs,r,ob,es,ep,e,c⟩:=x;exact⟨z,y,vs,r,ob,es,ep,k _ _ (.inl rfl) e,c⟩
 |dT kvs =>obtain⟨z,y,xs,r,ob,es,ep,e,c⟩:=x;exact⟨z,y,xs,Paired.mapP r λp q z=>⟨z.1,ht _ _ z.2.1,z.2.2⟩,ob,es,ep,k _ _ (.inl rfl) e,c⟩
 |dI xs ep=>obtain⟨z,y,nd,ob,es,e,c⟩:=x;exact⟨z,y,nd,ob,es,k _ _ (.inl rfl) e,c⟩
 |set S n=>obtain⟨ob,es,ep,t,e,c⟩:=x;exact⟨ob,es,ep,t,k _ _ (.inl rfl) e,c⟩
 |ins C dx fs =>obtain⟨d,z,ne,e,mA,⟨od,es,ep,e2,c⟩,r⟩:=x;exact⟨ho _ d,z,ne,k _ _ (.inl rfl) e,mA,⟨od,es,ep,k _ _ (.inr d) e2,c⟩,r⟩
 |own y=>obtain⟨ob,e⟩:=x;exact⟨ob,k _ _ (.inl rfl) e⟩
 |xd fs=>obtain⟨mA,⟨od,es,ep,e,c⟩,r⟩:=x;exact⟨mA,⟨od,es,ep,k _ _ (.inl rfl) e,c⟩,r⟩
 |rng lo hi=>obtain⟨t,u,v,e⟩:=x;exact⟨t,u,v,k _ _ (.inl rfl) e⟩
 |frz ob u ih=>obtain⟨e,q⟩:=x;exact⟨k _ _ (.inl rfl) e,ih q⟩
 |tbl ps =>have e:h.get? a=aa { cls:=.none,data:=.fields ps }:=x;show h'.get? a=aa { cls:=.none,data:=.fields ps };exact k a _ (.inl rfl) e
 |cod q=>obtain⟨ps,e,t,c⟩:=x;exact⟨ps,k _ _ (.inl rfl) e,t,λpos cv z=>let ⟨c,oc,e1,e2,e3⟩:=c pos cv z;⟨c,oc,e1,hz _ _ (let ⟨vs,_,z,_⟩:=e3;⟨vs,z⟩) e2,e3⟩⟩
 |met f y =>have e:h.get? a=aa (W.methodObj (.ref f) (.ref y)):=x;show h'.get? a=aa (W.methodObj (.ref f) (.ref y));exact k a _ (.inl rfl) e
 |ext φ=>obtain⟨p,⟨o,e⟩,st⟩:=x;exact⟨st _ _ p λo q=>k _ _ (.inl rfl) q,⟨o,k _ _ (.inl rfl) e⟩,st⟩
theorem HOk.lt(x:HOk P w H h)(e:H a=aa o):a<h.objs.size:=(x a o e).lt
theorem HOk.fresh(x:HOk P w H h)(e:h.objs.size<=a):H a=ah:=by
 cases q:H a with
 |none=>rfl
 |some u=>exact absurd (Xj (x.lt q) e) (Xx _)
theorem HOk.kept(x:HOk P w H h)(k:∀b u,h.get? b=aa u->h'.get? b=aa u):HOk P w H h':=λa o e =>(x a o e).stay (λb u _ q=>k b u q) (λ_ q=>q) (λ_ _ q=>q) λ_ _ _ q=>q
theorem HOk.laid(x:HOk P w H h)(k:∀b u,h.get? b=aa u->h'.get? b=aa u)(hp:h.objs.size<=a)(new:jo P w (upd H a o) h' a o):HOk P w (upd H a o) h':=λb u e=>by
 have hn:=x.fresh hp;by_cases hb:b=a
 .subst hb;rw[je]at e;cases e;exact new
 .rw[jj hb]at e;exact(x b u e).stay (λc v _ q=>k c v q) (λc q=>by rw[jj (jm q hn)];exact q) (λc xs q=>by rw[jj (jm q hn)];exact q) λc _ _ q=>by rw[jj (jm q hn)];exact q
end
def Rd(H:Hp)(a:ai)(u:HO):Prop:=H a=aa u\/∃o,H a=aa (.frz o u)
theorem Rd.ok{P:av}{w:aA}{H:Hp}{h:aI}{a:ai}{u:HO}(r:Rd H a u)(x:HOk P w H h):jo P w H h a u:=by
 rcases r with r|⟨o,r⟩
 .exact x a u r
 .obtain⟨_,q⟩:=x a _ r;exact q
def Mut:Option HO->Prop
 |some (.lst _)=>True
 |some (.dK _)=>True
 |some (.dT _)=>True
 |some (.dI _ _)=>True
 |some (.set _ _)=>True
 |some (.ins _ _ _)=>True
 |some (.ext _)=>True
 |some (.cod _)=>True
 |_=>False
section
variable{P:av}{w:aA}{H:Hp}{h h':aI}{x e:ai}{o':HO}
theorem HOk.write(ok:HOk P w H h)(mu:Mut (H x))(he:e=x\/H e=aa (.own x))(k:∀b u,b≠e->h.get? b=aa u->h'.get? b=aa u)(heo:∃u,h'.get? e=aa u)
  (new:jo P w (upd H x o') h' x o'):HOk P w (upd H x o') h':=λb u q=>by
 have nown:∀c y,H c=aa (.own y)->c≠x:=λc y r z=>by subst z;rw[r]at mu;exact mu
 have ntup:∀c xs,H c=aa (.tup xs)->c≠x:=λc xs r z=>by subst z;rw[r]at mu;exact mu
 have nfrz:∀c o u,H c=aa (.frz o u)->c≠x:=λc o u r z=>by subst z;rw[r]at mu;exact mu
 by_cases hb:b=x
 .subst hb;rw[je]at q;cases q;exact new
 .rw[jj hb]at q;by_cases hbe:b=e
  .have q':H b=aa (.own x):=by
    rcases he with z|z
    .exact absurd (hbe.trans z) hb
    .rw[hbe];exact z
   rw[q]at q';cases q';obtain⟨v,hv⟩:=heo;exact⟨v,by rw[hbe];exact hv⟩
  .refine(ok b u q).stay (λc v hc r=>k c v ?_ r) (λc r=>by rw[jj (nown c b r)];exact r) (λc xs r=>by rw[jj (ntup c xs r)];exact r) λc o _ r=>by rw[jj (nfrz c o _ r)];exact r
   rcases hc with rfl|hc
   .exact hbe
   .rintro rfl;rcases he with z|z
    .exact nown c b hc z
    .rw[hc]at z;cases z;exact hb rfl
end
structure Un(fs ex:List ai)(H H':Hp)(h h':aI):Prop where
 keep:∀b o,h.get? b=aa o->H b=ah->b∉fs->b∉ex->h'.get? b=aa o
 slot:∀b o,h.get? b=aa o->H b=ah->b∈fs->b∉ex->∃sl,h'.get? b=aa { o with slots:=sl }
 free:∀b o,h.get? b=aa o->H b=ah->b∉ex->H' b=ah
 there:∀b o,h.get? b=aa o->b∉ex->∃o',h'.get? b=aa o'
 tups:∀b xs,H b=aa (.tup xs)->H' b=aa (.tup xs)
 frzs:∀b o u,H b=aa (.frz o u)->H' b=aa (.frz o u)
 tbls:∀b ps,H b=aa (.tbl ps)->∃more,H' b=aa (.tbl (ps++more))
section
variable{fs fs' ex ex':List ai}{H H1 H2:Hp}{h h1 h2 h':aI}{a x e:ai}{o:HO}
theorem Un.any(u:Un fs ex H H1 h h1){b:ai}{ob:cw}(q:h.get? b=aa ob)(n:H b=ah)(hx:b∉ex):∃sl,h1.get? b=aa { ob with slots:=sl }:=by
 by_cases hb:b∈fs
 .exact u.slot b ob q n hb hx
 .exact⟨ob.slots,u.keep b ob q n hb hx⟩
theorem Un.kept(k:∀b u,h.get? b=aa u->h'.get? b=aa u):Un fs ex H H h h' :=
 ⟨λb ob q _ _ _=>k b ob q,λb ob q _ _ _=>⟨ob.slots,k b ob q⟩,λ_ _ _ n _=>n,λb ob q _=>⟨ob,k b ob q⟩,λ_ _ q=>q,λ_ _ _ q=>q,λ_ ps q=>⟨#[],by rw[q];simp⟩⟩
theorem Un.refl:Un fs ex H H h h:=Un.kept λ_ _ q=>q
theorem Un.laid(k:∀b u,h.get? b=aa u->h'.get? b=aa u)(hp:h.objs.size<=a)(hn:H a=ah):Un fs ex H (upd H a o) h h' where
 keep:=λb u q _ _ _=>k b u q
 slot:=λb u q _ _ _=>⟨u.slots,k b u q⟩
 free:=λb u q n _=>by rw[jj (Xa (Xj (xm q) hp))];exact n
 there:=λb u q _=>⟨u,k b u q⟩
 tups:=λb xs q=>by rw[jj (jm q hn)];exact q
 frzs:=λb u xs q=>by rw[jj (jm q hn)];exact q
 tbls:=λb ps q=>⟨#[],by rw[jj (jm q hn),q];simp⟩
theorem Un.write(mu:Mut (H x))(he:e=x\/H e=aa (.own x))(k:∀b u,b≠e->h.get? b=aa u->h'.get? b=aa u)(heo:∃u,h'.get? e=aa u):Un fs ex H (upd H x o) h h':=by
 have hx:∀b,H b=ah->b≠x:=λb n z=>by subst z;rw[n]at mu;exact mu
 have hb:∀b,H b=ah->b≠e:=λb n z=>by
  subst z;rcases he with r|r
  .exact hx b n r
  .rw[n]at r;cases r
 have hm:∀b u,H b=aa u->¬Mut (aa u)->b≠x:=λb u q nm z=>by subst z;rw[q]at mu;exact nm mu
 refine⟨λb u q n _ _=>k b u (hb b n) q,λb u q n _ _=>⟨u.slots,k b u (hb b n) q⟩,λb u q n _=>by rw[jj (hx b n)];exact n,λb u q _=>?_,
  λb xs q=>by rw[jj (hm b _ q λz=>z)];exact q,λb u xs q=>by rw[jj (hm b _ q λz=>z)];exact q,λb ps q=>⟨#[],by rw[jj (hm b _ q λz=>z),q];simp⟩⟩
 by_cases hbe:b=e
 .subst hbe;exact heo
 .exact⟨u,k b u hbe q⟩
end
noncomputable def trk(h:aI)(H:Hp):List ai:=(aP h.objs.size).filter λa=>(H a).isSome
noncomputable def Yz(h:aI)(H:Hp):aI:=W.hideAll h (trk h H)
theorem j2g(h:aI)(H:Hp):(Yz h H).objs.size=h.objs.size:=W.hideAll_size _ _
theorem j5f{h:aI}{H:Hp}{b:ai}{o:cw}(e:h.get? b=aa o)(n:H b=ah):(Yz h H).get? b=aa o :=
 W.hideAll_get _ e λhm=>by have q:(H b).isSome=ag:=(Pq.mp hm).2;rw[n]at q;simp at q
theorem j8e{h:aI}{H:Hp}{b:ai}{o:cw}(e:(Yz h H).get? b=aa o):h.get? b=aa o/\H b=ah:=by
 have e':h.get? b=aa o:=W.of_hideAll (trk h H) e;refine⟨e',?_⟩;cases q:H b with
 |none=>rfl
 |some x =>have hm:b∈trk h H:=Pq.mpr ⟨Xy.mpr (xm e'),by simp[q]⟩;have z:(Yz h H).get? b=ah:=W.hideAll_none (trk h H) hm;rw[z]at e;cases e
noncomputable def j9o(g h:aI)(L:ai):List (ai×cw):=(aP h.objs.size).filterMap λa=>if a=L\/(g.get? a).isSome=ag then ah else(h.get? a).map λo=>(a,o)
noncomputable def rest(g h:aI)(L d:ai):List (ai×cw):=(j9o g h L).filter λp=>decide (p.1≠d)
structure Mod(K:k5g)(mg:k5j)(base:aI):Prop where
 kin:K.In base
 glob:base.Ns ax mg
 blt:∃mb,base.Ns cV mb/\∀x:ao,x ≠ "__name__"->mb x=aZ x
 nolimit:base.NoLimit
 bm:∃bm ob,mg "__builtins__" = aa (.ref bm)/\bm≠cV/\base.get? bm=aa ob/\ob.cls=.type "module"/\ob.dict=aa cV/\ob.data=.plain
structure Cx where
 prog:av
 w:aA
 K:k5g
 mg:ao->Option aj
 base:aI
 A:aE
 N:List ao
 s₀:aq
 H₀:Hp
 env:cf
 outer:List cf
 stack:List cf
 ex:List ai
 fn:ao->Bool
 calm:Bool
 pn:List (ai×cw)
 xe:aj->aq->Prop
noncomputable def frs(l:List cf):List ai:=l.filterMap (·.frame)
noncomputable abbrev Cx.fs(X:Cx):List ai:=frs X.outer
def Vis(sc:be)(x:ao):Prop:=sc.names.lookup x=aa .local\/sc.names.lookup x=aa .cell\/sc.names.lookup x=aa .free
def Loc(sc:be)(x:ao):Prop:=sc.names.lookup x=aa .local\/sc.names.lookup x=aa .cell
def Look(env:cf)(h:aI)(m:k5j)(x:ao)(u:aj):Prop :=
 (env.kindOf x=aa .local/\m x=aa u)\/((env.kindOf x=aa .cell\/env.kindOf x=aa .free)/\∃c,env.cells.lookup x=aa c/\h.IsCell c (aa u))
structure Cx.Ok(X:Cx):Prop where
 mod:Mod X.K X.mg X.base
 kind:X.env.scope.kind=.function
 glob:X.env.globals=ax
 blt:X.env.builtins=cV
 above:X.s₀.heap.objs.size<=X.env.locals
 inj:∀x y c,X.env.cells.lookup x=aa c->X.env.cells.lookup y=aa c->x=y
 has:∀x,(X.env.kindOf x=aa .cell\/X.env.kindOf x=aa .free)->∃c,X.env.cells.lookup x=aa c
 cab:∀x c,X.fn x=ag->X.env.cells.lookup x=aa c->X.s₀.heap.objs.size<=c
 hd:X.calm=ag->X.A.handled=ah
 frames:X.A.frames=aa X.stack
 stk:X.stack=X.outer\/(X.stack=X.env::X.outer/\X.env.frame=aa X.env.locals)
 exf:∀b∈X.ex,b≠X.env.locals/\∀x c,X.env.cells.lookup x=aa c->c≠b
 bs:∀b o,X.base.get? b=aa o->X.s₀.heap.get? b=aa o/\X.H₀ b=ah
 bsz:X.base.objs.size<=X.s₀.heap.objs.size
 noex:∀b o,X.base.get? b=aa o->b∉X.ex
 exfs:∀b∈X.ex,b∉X.fs
 funs:X.s₀.heap.FunFrames X.base X.outer
 frf:∀b∈X.fs,X.H₀ b=ah
structure Inv(X:Cx)(pins:k5i)(σ:List (Option V))(H:Hp)(s:aq):Prop where
 ok:X.Ok
 os:s.os=X.s₀.os
 bare:dm s.gens
 base:Un X.fs X.ex X.H₀ H X.s₀.heap s.heap
 loc:∃m,s.heap.Ns X.env.locals m/\∀(i:Nat)(x:ao)(v:V),X.N[i]?=aa x->σ[i]?=aa (aa v)->Vis X.env.scope x->∃u,RelV v u/\Look X.env s.heap m x u
 cell:∀x c,X.env.cells.lookup x=aa c->∃v,s.heap.IsCell c v
 free:H X.env.locals=ah
 freeC:∀x c,X.env.cells.lookup x=aa c->H c=ah
 pin:∀p∈X.pn++pins,s.heap.get? p.1=aa p.2/\H p.1=ah/\p.1≠X.env.locals/\p.1∉X.fs/\∀v,p.2.data≠.cell v
 hok:HOk X.prog X.w H s.heap
 len:σ.length=X.N.length
section
variable{X:Cx}{pins:k5i}{σ:List (Option V)}{H H':Hp}{s:aq}{h':aI}
theorem Cx.Ok.nofr(ok:X.Ok){b:ai}{o:cw}(e:X.base.get? b=aa o):b∉X.fs:=λhb=>by have:=(ok.funs.mem hb).1;rw[e]at this;cases this
theorem Inv.bs(I:Inv X pins σ H s):∀b o,X.base.get? b=aa o->s.heap.get? b=aa o/\H b=ah:=λb o e =>⟨I.base.keep b o (I.ok.bs b o e).1 (I.ok.bs b o e).2 (I.ok.nofr e) (I.ok.noex b o e),I.base.free b o (I.ok.bs b o e).1 (I.ok.bs b o e).2 (I.ok.noex b o e)⟩
theorem Inv.bk(I:Inv X pins σ H s):∀b o,X.base.get? b=aa o->s.heap.get? b=aa o:=λb o e=>(I.bs b o e).1
theorem Inv.mod(I:Inv X pins σ H s):Mod X.K X.mg X.base:=I.ok.mod
theorem Inv.kIn(I:Inv X pins σ H s):X.K.In s.heap:=I.ok.mod.kin.keeps I.bk
theorem Inv.lt(I:Inv X pins σ H s):X.env.locals<s.heap.objs.size:=let ⟨_,hn,_⟩:=I.loc;hn.lt
theorem Inv.sz(I:Inv X pins σ H s):X.s₀.heap.objs.size<=s.heap.objs.size:=Xf I.ok.above (dz I.lt)
theorem Inv.nofs(I:Inv X pins σ H s){a:ai}(h:s.heap.objs.size<=a):a∉X.fs:=λhb=>by obtain⟨_,o,ho,_⟩:=I.ok.funs.mem hb;exact absurd (Xj (xm ho) (Xf I.sz h)) (Xx _)
theorem Inv.cne(I:Inv X pins σ H s):∀x c,X.env.cells.lookup x=aa c->c≠X.env.locals:=λx c e z=>by obtain⟨v,o,ho,hd⟩:=I.cell x c e;obtain⟨m,⟨o',es,ep,ho',hd',_⟩,_⟩:=I.loc;rw[z,ho']at ho;cases ho;rw[hd']at hd;cases hd
theorem Inv.funs(I:Inv X pins σ H s):s.heap.FunFrames X.base X.outer:=by
 have all:∀(l:List cf),(∀b∈frs l,b∈X.fs)->X.s₀.heap.FunFrames X.base l->s.heap.FunFrames X.base l:=by
  intro l;induction l with
  |nil=>intro _ _;trivial
  |cons env r ih =>intro hs hl;obtain⟨hk,⟨L,o,hf,hn,ho,hd⟩,hr⟩:=hl;have hL:L∈X.fs:=hs L (by unfold frs;rw[bQ,hf];exact X4);obtain⟨sl,e⟩:=I.base.slot L o ho (I.ok.frf L hL) hL λz=>I.ok.exfs L z hL;exact⟨hk,⟨L,_,hf,hn,e,hd⟩,ih (λb hb=>hs b (by unfold frs;rw[bQ,hf];exact kj _ hb)) hr⟩
 exact all X.outer (λ_ hb=>hb) I.ok.funs
theorem Inv.stack(I:Inv X pins σ H s):s.heap.FunFrames X.base X.stack:=by
 rcases I.ok.stk with e|⟨e,hf⟩
 .rw[e];exact I.funs
 .rw[e];obtain⟨m,hn,_⟩:=I.loc;refine .cons (by rw[I.ok.kind];decide) hf hn ?_ I.funs;exact Heap.get?_none_of_le (Xf I.ok.bsz I.ok.above)
theorem Inv.stkSub(I:Inv X pins σ H s):∀b∈frs X.stack,b∈X.env.locals::X.fs:=λb hb=>by
 rcases I.ok.stk with e|⟨e,hf⟩
 .rw[e]at hb;exact kj _ hb
 .rw[e]at hb;unfold frs at hb;rw[bQ,hf]at hb;exact hb
theorem Inv.stkFree(I:Inv X pins σ H s):∀b∈frs X.stack,H b=ah:=λb hb=>by
 rcases xf.mp (I.stkSub b hb)with e|hb
 .rw[e];exact I.free
 .obtain⟨_,o,ho,_⟩:=I.ok.funs.mem hb;exact I.base.free b o ho (I.ok.frf b hb) λz=>I.ok.exfs b z hb
theorem Inv.step{g':Array gz}{t':Nat}{d':Drawn}{ch:List ai}(I:Inv X pins σ H s)
  (hch:∀b∈ch,(b∈X.ex\/X.s₀.heap.objs.size<=b)/\b≠X.env.locals/\(∀x c,X.env.cells.lookup x=aa c->c≠b)/\∀p∈X.pn++pins,p.1≠b)
  (keep:∀b o,b≠X.env.locals->b∉X.fs->b∉ch->s.heap.get? b=aa o->H b=ah->h'.get? b=aa o)
  (slot:∀b o,b≠X.env.locals->b∈X.fs->b∉ch->s.heap.get? b=aa o->H b=ah->∃sl,h'.get? b=aa { o with slots:=sl }) (free:∀b o,b∉ch->s.heap.get? b=aa o->H b=ah->H' b=ah)
  (there:∀b o,b∉ch->s.heap.get? b=aa o->∃o',h'.get? b=aa o')
  (tups:∀b xs,H b=aa (.tup xs)->H' b=aa (.tup xs)) (frzs:∀b o u,H b=aa (.frz o u)->H' b=aa (.frz o u)) (tbls:∀b ps,H b=aa (.tbl ps)->∃more,H' b=aa (.tbl (ps++more)))
  (ns:∀m,s.heap.Ns X.env.locals m->h'.Ns X.env.locals m) (hok:HOk X.prog X.w H' h') (hg:dm g') :
  Inv X pins σ H' { s with heap:=h',gens:=g',drawn:=d',toks:=t' }:=by
 have neL:∀b o,X.s₀.heap.get? b=aa o->b≠X.env.locals:=λb o e=>Xa (Xj (xm e) I.ok.above);have neC:∀b o,X.s₀.heap.get? b=aa o->b∉X.ex->b∉ch:=λb o e hx hb=>by
  rcases(hch b hb).1 with z|z
  .exact hx z
  .exact absurd (Xj (xm e) z) (Xx _)
 have cellK:∀x c,X.env.cells.lookup x=aa c->∀v,s.heap.IsCell c v->h'.IsCell c v:=λx c e v ⟨o,ho,hd⟩=>by
  have nch:c∉ch:=λz=>(hch c z).2.2.1 x c e rfl;by_cases hc:c∈X.fs
  .obtain⟨sl,q⟩:=slot c o (I.cne x c e) hc nch ho (I.freeC x c e);exact⟨_,q,hd⟩
  .exact⟨o,keep c o (I.cne x c e) hc nch ho (I.freeC x c e),hd⟩
 refine⟨I.ok,I.os,hg,⟨λb o e n hb hx=>?_,λb o e n hb hx=>?_,λb o e n hx=>?_,λb o e hx=>?_,λb xs e=>tups b xs (I.base.tups b xs e),λb o xs e=>frzs b o xs (I.base.frzs b o xs e),λb ps e=>?_⟩,?_,λx c e=>?_,?_,λx c e=>?_,λp hp=>?_,hok,I.len⟩
 .exact keep b o (neL b o e) hb (neC b o e hx) (I.base.keep b o e n hb hx) (I.base.free b o e n hx)
 .obtain⟨sl,e1⟩:=I.base.slot b o e n hb hx;obtain⟨sl',e2⟩:=slot b _ (neL b o e) hb (neC b o e hx) e1 (I.base.free b o e n hx);exact⟨sl',e2⟩
 .obtain⟨o',e1⟩:=I.base.there b o e hx;exact free b o' (neC b o e hx) e1 (I.base.free b o e n hx)
 .obtain⟨o',e1⟩:=I.base.there b o e hx;exact there b o' (neC b o e hx) e1
 .obtain⟨m1,e1⟩:=I.base.tbls b ps e;obtain⟨m2,e2⟩:=tbls b _ e1;exact⟨m1++m2,by rw[e2,Array.append_assoc]⟩
 .obtain⟨m,hn,hl⟩:=I.loc;refine⟨m,ns m hn,λi x v e1 e2 e3=>?_⟩;obtain⟨u,r,l⟩:=hl i x v e1 e2 e3;refine⟨u,r,?_⟩;rcases l with l|⟨k,c,e,z⟩
  .exact .inl l
  .exact .inr ⟨k,c,e,cellK x c e _ z⟩
 .obtain⟨v,z⟩:=I.cell x c e;exact⟨v,cellK x c e v z⟩
 .obtain⟨m,⟨o,_,_,ho,_⟩,_⟩:=I.loc;exact free _ o (λz=>(hch _ z).2.1 rfl) ho I.free
 .obtain⟨v,o,ho,hd⟩:=I.cell x c e;exact free c o (λz=>(hch c z).2.2.1 x c e rfl) ho (I.freeC x c e)
 .obtain⟨e,n,ne,nf,d⟩:=I.pin p hp;have nch:p.1∉ch:=λz=>(hch p.1 z).2.2.2 p hp rfl;exact⟨keep p.1 p.2 ne nf nch e n,free p.1 p.2 nch e n,ne,nf,d⟩
theorem Inv.un{t':Nat}(I:Inv X pins σ H s)(u:Un X.fs [] H H' s.heap h')(hok:HOk X.prog X.w H' h'):Inv X pins σ H' { s with heap:=h',toks:=t' }:=by
 obtain⟨m,⟨o,es,ep,ho,r⟩,_⟩:=id I.loc;obtain⟨sl,hL⟩:=u.any ho I.free (by simp);exact I.step (g':=s.gens) (d':=s.drawn) (ch:=[]) (λ_ z=>nomatch z) (λb o _ hb _ e n=>u.keep b o e n hb (by simp)) (λb o _ hb _ e n=>u.slot b o e n hb (by simp)) (λb o _ e n=>u.free b o e n (by simp)) (λb o _ e=>u.there b o e (by simp)) u.tups u.frzs u.tbls (λm' hm=>by
  obtain⟨o',es',ep',ho',r'⟩:=hm
  rw[ho]at ho';cases ho'
  exact⟨_,es',ep',hL,r'⟩) hok I.bare
theorem Inv.call{g':Array gz}{t':Nat}{d':Drawn}{ch:List ai}(I:Inv X pins σ H s)(u:Un (frs X.stack) ch H H' s.heap h')(hok:HOk X.prog X.w H' h')(hg:dm g')
  (hch:∀b∈ch,(b∈X.ex\/X.s₀.heap.objs.size<=b)/\b≠X.env.locals/\(∀x c,X.env.cells.lookup x=aa c->c≠b)/\∀p∈X.pn++pins,p.1≠b) :
  Inv X pins σ H' { s with heap:=h',gens:=g',drawn:=d',toks:=t' }:=by
 obtain⟨m,⟨o,es,ep,ho,r⟩,_⟩:=id I.loc;obtain⟨sl,hL⟩:=u.any ho I.free λz=>(hch _ z).2.1 rfl;exact I.step (ch:=ch) hch (λb o hL hb hc e n=>u.keep b o e n (λz=>(xf.mp (I.stkSub b z)).elim hL hb) hc) (λb o _ _ hc e n=>u.any e n hc) (λb o hc e n=>u.free b o e n hc) (λb o hc e=>u.there b o e hc) u.tups u.frzs u.tbls (λm' hm=>by
  obtain⟨o',es',ep',ho',r'⟩:=hm
  rw[ho]at ho';cases ho'
  exact⟨_,es',ep',hL,r'⟩) hok hg
theorem Inv.turned{t':Nat}{it:ai}(I:Inv X pins σ H s)(k:∀b o,b≠it->s.heap.get? b=aa o->h'.get? b=aa o)(hn:H it=ah)(hL:it≠X.env.locals)
  (h1:it∈X.ex\/X.s₀.heap.objs.size<=it) (h2:∀x c,X.env.cells.lookup x=aa c->c≠it) (h3:∀p∈X.pn++pins,p.1≠it):Inv X pins σ H { s with heap:=h',toks:=t' }:=by
 have nit:∀b u,H b=aa u->b≠it:=λb u e z=>by rw[z,hn]at e;cases e
 refine I.step (g':=s.gens) (d':=s.drawn) (ch:=[it]) (λb hb=>?_) (λb o _ _ hc e _=>k b o (λz=>hc (by simp[z])) e) (λb o _ _ hc e _=>⟨o.slots,k b o (λz=>hc (by simp[z])) e⟩) (λ_ _ _ _ n=>n)
  (λb o hc e=>⟨o,k b o (λz=>hc (by simp[z])) e⟩) (λ_ _ e=>e) (λ_ _ _ e=>e) (λb ps e=>⟨#[],by rw[e];simp⟩) (λm hm=>?_) (λb u e=>?_) I.bare
 .have e:b=it:=by simpa using hb
  subst e;exact⟨h1,hL,h2,h3⟩
 .obtain⟨o,es,ep,ho,r⟩:=hm;exact⟨o,es,ep,k _ o (ba hL) ho,r⟩
 .refine(I.hok b u e).stay (λc v hc q=>k c v ?_ q) (λ_ q=>q) (λ_ _ q=>q) λ_ _ _ q=>q;rcases hc with z|z
  .rw[z];exact nit b u e
  .exact nit c _ z
theorem Inv.tok(I:Inv X pins σ H s)(t:Nat):Inv X pins σ H { s with toks:=t }:=I.un (h':=s.heap) (t':=t) Un.refl I.hok
theorem Inv.kept{t':Nat}(I:Inv X pins σ H s)(k:∀b u,s.heap.get? b=aa u->h'.get? b=aa u):Inv X pins σ H { s with heap:=h',toks:=t' }:=I.un (Un.kept k) (I.hok.kept k)
theorem Inv.laid{a:ai}{o:HO}{t':Nat}(I:Inv X pins σ H s)(k:∀b u,s.heap.get? b=aa u->h'.get? b=aa u)(hp:s.heap.objs.size<=a)(new:jo X.prog X.w (upd H a o) h' a o) :
  Inv X pins σ (upd H a o) { s with heap:=h',toks:=t' }:=I.un (Un.laid k hp (I.hok.fresh hp)) (I.hok.laid k hp new)
theorem Inv.write{x e:ai}{o:HO}{t':Nat}(I:Inv X pins σ H s)(mu:Mut (H x))(he:e=x\/H e=aa (.own x))(k:∀b u,b≠e->s.heap.get? b=aa u->h'.get? b=aa u)(heo:∃u,h'.get? e=aa u)
  (new:jo X.prog X.w (upd H x o) h' x o):Inv X pins σ (upd H x o) { s with heap:=h',toks:=t' }:=I.un (Un.write mu he k heo) (I.hok.write mu he k heo new)
theorem Inv.pins_of{pins':k5i}(I:Inv X pins σ H s)(h:∀p∈pins',s.heap.get? p.1=aa p.2/\H p.1=ah/\p.1≠X.env.locals/\p.1∉X.fs/\∀v,p.2.data≠.cell v):Inv X pins' σ H s :=
 ⟨I.ok,I.os,I.bare,I.base,I.loc,I.cell,I.free,I.freeC,λp hp=>(Pr.mp hp).elim (λz=>I.pin p (cg _ z)) (h p),I.hok,I.len⟩
theorem Ck{N:List ao}(hN:N.Nodup){i j:Nat}{x:ao}(a:N[i]?=aa x)(b:N[j]?=aa x):i=j:=by obtain⟨h1,e1⟩:=Xh.mp a;obtain⟨h2,e2⟩:=Xh.mp b;exact(List.getElem_inj hN).mp (e1.trans e2.symm)
theorem Bs{M:gy}{A:aE}{E:k5h}{i:Nat}{x:ao}{v:V}{u:aj}{Q:Unit->aq->Prop}(I:Inv X pins σ H s)(hN:X.N.Nodup)(hi:X.N[i]?=aa x)(hx:Loc X.env.scope x)(r:RelV v u)
  (h:∀s',Inv X pins (σ.set i (aa v)) H s'->(∃a,eW a s.heap s'.heap/\(a=X.env.locals\/X.env.cells.lookup x=aa a))->Q () s') (hf:X.fn x=ag\/X.env.scope.names.lookup x=aa .local:=by first|exact .inl rfl|exact .inr rfl|assumption):aC M A (storeName X.env x u) Q E s:=by
 obtain⟨m,hn,hl⟩:=id I.loc;have hcls:(X.env.scope.kind==.class || (X.env.scope.kind==.module&&X.env.locals != X.env.globals))=ae:=by rw[I.ok.kind];rfl
 have hiσ:i<σ.length:=by rw[I.len];exact(Xh.mp hi).1
 have cne:=I.cne;have tracked:∀{a:ai}{h':aI},(∃o,s.heap.get? a=aa o/\H a=ah)->eW a s.heap h'->HOk X.prog X.w H h':=λ{a h'} ha hs b ob e=>by
  obtain⟨_,_,hfree⟩:=ha;refine(I.hok b ob e).stay (λc w' hc q=>(hs.2 c ?_).trans q) (λ_ q=>q) (λ_ _ q=>q) λ_ _ _ q=>q;rintro rfl;rcases hc with rfl|hc
  .rw[hfree]at e;cases e
  .rw[hfree]at hc;cases hc
 rcases hx with hk|hk
 .refine wpAny_storeName_local hk hn (λh' hn' hs=>?_) hcls;obtain⟨oL,_,_,hoL,_⟩:=id hn;refine h _ ⟨I.ok,I.os,I.bare,⟨λb o e n hb hx=>?_,λb o e n hb hx=>?_,I.base.free,λb o e hx=>?_,I.base.tups,I.base.frzs,I.base.tbls⟩,⟨_,hn',λj y v' e1 e2 e3=>?_⟩,λy c e=>?_,I.free,I.freeC,λp hp=>?_,tracked ⟨oL,hoL,I.free⟩ hs,by simpa using I.len⟩ ⟨_,hs,.inl rfl⟩
  .exact(hs.2 b (Xa (Xj (xm e) I.ok.above))).trans (I.base.keep b o e n hb hx)
  .obtain⟨sl,e1⟩:=I.base.slot b o e n hb hx;exact⟨sl,(hs.2 b (Xa (Xj (xm e) I.ok.above))).trans e1⟩
  .obtain⟨o',e1⟩:=I.base.there b o e hx;exact⟨o',(hs.2 b (Xa (Xj (xm e) I.ok.above))).trans e1⟩
  .by_cases hj:j=i
   .subst hj;rw[hi]at e1;cases e1;rw[Xr hiσ]at e2;cases e2;exact⟨u,r,.inl ⟨hk,by simp⟩⟩
   .rw[Xl (ba hj)]at e2;obtain⟨u',r',q⟩:=hl j y v' e1 e2 e3;refine⟨u',r',?_⟩;rcases q with ⟨k,e⟩|⟨k,c,e,z⟩
    .refine .inl ⟨k,?_⟩;have:y≠x:=λe=>hj (Ck hN e1 (e▸hi));simp[this,e]
    .exact .inr ⟨k,c,e,z.sameBut hs (cne y c e)⟩
  .obtain⟨w',z⟩:=I.cell y c e;exact⟨w',z.sameBut hs (cne y c e)⟩
  .obtain⟨e,n,ne,nf,d⟩:=I.pin p hp;exact⟨(hs.2 p.1 ne).trans e,n,ne,nf,d⟩
 .have hfn:X.fn x=ag:=by
   rcases hf with z|z
   .exact z
   .rw[z]at hk;cases hk
  obtain⟨c,hc⟩:=I.ok.has x (.inl hk);obtain⟨w',z⟩:=I.cell x c hc;refine wpAny_storeName_cell I.ok.kind hk hc z (λh' hc' hs=>?_);obtain⟨oc,hoc,hocd⟩:=id z;refine h { s with heap:=h' } ⟨I.ok,I.os,I.bare,⟨λb o e n hb hx=>?_,λb o e n hb hx=>?_,I.base.free,λb o e hx=>?_,I.base.tups,I.base.frzs,I.base.tbls⟩,⟨m,hn.sameBut hs (ba (cne x c hc)),λj y v' e1 e2 e3=>?_⟩,λy c' e=>?_,I.free,I.freeC,λp hp=>?_,tracked ⟨oc,hoc,I.freeC x c hc⟩ hs,by simpa using I.len⟩ ⟨c,hs,.inr hc⟩
  .exact(hs.2 b (Xa (Xj (xm e) (I.ok.cab x c hfn hc)))).trans (I.base.keep b o e n hb hx)
  .obtain⟨sl,e1⟩:=I.base.slot b o e n hb hx;exact⟨sl,(hs.2 b (Xa (Xj (xm e) (I.ok.cab x c hfn hc)))).trans e1⟩
  .obtain⟨o',e1⟩:=I.base.there b o e hx;exact⟨o',(hs.2 b (Xa (Xj (xm e) (I.ok.cab x c hfn hc)))).trans e1⟩
  .by_cases hj:j=i
   .subst hj;rw[hi]at e1;cases e1;rw[Xr hiσ]at e2;cases e2;exact⟨u,r,.inr ⟨.inl hk,c,hc,hc'⟩⟩
   .rw[Xl (ba hj)]at e2;obtain⟨u',r',q⟩:=hl j y v' e1 e2 e3;refine⟨u',r',?_⟩;rcases q with q|⟨k,c',e,z'⟩
    .exact .inl q
    .refine .inr ⟨k,c',e,z'.sameBut hs ?_⟩;rintro rfl;exact hj (Ck hN e1 (I.ok.inj _ _ _ e hc▸hi))
  .by_cases hcc:c'=c
   .subst hcc;exact⟨_,hc'⟩
   .obtain⟨w2,z2⟩:=I.cell y c' e;exact⟨w2,z2.sameBut hs hcc⟩
  .obtain⟨e,n,ne,nf,d⟩:=I.pin p hp;refine⟨(hs.2 p.1 ?_).trans e,n,ne,nf,d⟩;intro q;rw[q,hoc]at e;have q':oc=p.2:=aB e;exact d w' (by rw[<-q'];exact hocd)
theorem Dm{M:gy}{A:aE}{E:k5h}{i:Nat}{x:ao}{v:V}{u:aj}{Q:Unit->aq->Prop}(I:Inv X pins σ H s)(hN:X.N.Nodup)(hi:X.N[i]?=aa x)(hx:Loc X.env.scope x)(r:RelV v u)
  (h:∀s',Inv X pins (σ.set i (aa v)) H s'->Q () s') (hf:X.fn x=ag\/X.env.scope.names.lookup x=aa .local:=by first|exact .inl rfl|exact .inr rfl|assumption):aC M A (storeName X.env x u) Q E s :=
 Bs I hN hi hx r (λs' I' _=>h s' I') hf
theorem Inv.call'{s':aq}{ch:List ai}(I:Inv X pins σ H s)(ho:s'.os=s.os)(u:Un (frs X.stack) ch H H' s.heap s'.heap)(hok:HOk X.prog X.w H' s'.heap)(hg:dm s'.gens)
  (hch:∀b∈ch,(b∈X.ex\/X.s₀.heap.objs.size<=b)/\b≠X.env.locals/\(∀x c,X.env.cells.lookup x=aa c->c≠b)/\∀p∈X.pn++pins,p.1≠b):Inv X pins σ H' s':=by
 obtain⟨h',g',d',t',o'⟩:=s';have e:o'=s.os:=ho;subst e;exact I.call (g':=g') (t':=t') (d':=d') u hok hg hch
end
abbrev XK:=aj->Option ai->Hp->Prop
noncomputable abbrev St:=List (Option V)
abbrev VK:=V->Hp->Prop
abbrev TE:=St->Hp->VK->Prop
abbrev TT:=St->Hp->(Bool->Hp->Prop)->Prop
abbrev TA:=St->Hp->(List V->Hp->Prop)->Prop
structure Ends where
 nx:St->Hp->Prop
 rt:VK
 bk:St->Hp->Prop:=λ_ _=>False
 ct:St->Hp->Prop:=λ_ _=>False
abbrev TS:=Ends->St->Hp->Prop
def EP(X:Cx)(pins:k5i)(σ:St)(Q:VK)(u:aj)(s':aq):Prop:=∃v H',Inv X pins σ H' s'/\RelV v u/\Q v H'
def TP(X:Cx)(pins:k5i)(σ:St)(Q:Bool->Hp->Prop)(b:Bool)(s':aq):Prop:=∃H',Inv X pins σ H' s'/\Q b H'
def AP(X:Cx)(pins:k5i)(σ:St)(Q:List V->Hp->Prop)(us:List aj)(s':aq):Prop:=∃vs H',Inv X pins σ H' s'/\Vals vs us/\Q vs H'
def Ext(X:Cx)(H1 H2:Hp)(s':aq):Prop:=∀b,H2 b=H1 b\/∃x o v,X.env.cells.lookup x=aa b/\X.fn x=ag/\H2 b=aa (.frz o (.own 0))/\s'.heap.get? b=aa o/\o.data=.cell v
theorem Ext.refl{X:Cx}{H:Hp}{s':aq}:Ext X H H s':=λ_=>.inl rfl
def SP(X:Cx)(pins:k5i)(D:Ends)(f:Flow)(s':aq):Prop :=
 match f with
 |.next=>∃σ' H',Inv X pins σ' H' s'/\D.nx σ' H'
 |.brk=>∃σ' H',Inv X pins σ' H' s'/\D.bk σ' H'
 |.cont=>∃σ' H',Inv X pins σ' H' s'/\D.ct σ' H'
 |.ret u=>∃v σ' H' H2,Inv X pins σ' H' s'/\RelV v u/\Ext X H' H2 s'/\D.rt v H2
def PE(X:Cx)(e:ar)(t:TE):Prop :=
 ∀(pins:k5i) (s:aq) (σ:St) (H:Hp) (Q:VK),Inv X pins σ H s->t σ H Q->aC (aF X.prog X.w) X.A (az e X.env) (EP X pins σ Q) X.xe s
def PT(X:Cx)(e:ar)(t:TT):Prop :=
 ∀(pins:k5i) (s:aq) (σ:St) (H:Hp) (Q:Bool->Hp->Prop),Inv X pins σ H s->t σ H Q->aC (aF X.prog X.w) X.A (ft e X.env (az e X.env)) (TP X pins σ Q) X.xe s
def PW(X:Cx)(e:ar)(t:TT):Prop :=
 ∀(whole:iY aj)(pins:k5i) (s:aq) (σ:St) (H:Hp) (Q:Bool->Hp->Prop),Inv X pins σ H s->t σ H Q->aC (aF X.prog X.w) X.A (ft e X.env whole) (TP X pins σ Q) X.xe s
def PA(X:Cx)(es:List ar)(t:TA):Prop :=
 ∀(pos:aL)(pins:k5i) (s:aq) (σ:St) (H:Hp) (Q:List V->Hp->Prop),Inv X pins σ H s->t σ H Q->aC (aF X.prog X.w) X.A (spliced (aJ pos (af es X.env))) (AP X pins σ Q) X.xe s
def PS(X:Cx)(st:aG)(t:TS):Prop :=
 ∀(pins:k5i) (s:aq) (σ:St) (H:Hp) (D:Ends),Inv X pins σ H s->t D σ H->aC (aF X.prog X.w) X.A (exec st X.env) (SP X pins D) X.xe s
def PSs(X:Cx)(st:List aG)(t:TS):Prop :=
 ∀(pins:k5i) (s:aq) (σ:St) (H:Hp) (D:Ends),Inv X pins σ H s->t D σ H->aC (aF X.prog X.w) X.A (execs st X.env) (SP X pins D) X.xe s
theorem thn{α:Type}{t:iY α}{Q Q':α->aq->Prop}{M:gy}{A:aE}{E:k5h}{s:aq}(h:aC M A t Q E s)(hQ:∀a s,Q a s->Q' a s):aC M A t Q' E s:=bu h hQ λ_ _ x=>x
section
variable{X:Cx}
theorem bin{a b:ar}{ta tb:TE}(ha:PE X a ta)(hb:PE X b tb){pins:k5i}{s:aq}{σ:St}{H:Hp}{R:V->V->Hp->Prop}(I:Inv X pins σ H s)(h:ta σ H λx H1=>tb σ H1 λy H2=>R x y H2)
  {α:Type} {Q:α->aq->Prop} {f:aj->aj->iY α}
  (hf:∀v u s2 x y H2,Inv X pins σ H2 s2->RelV x v->RelV y u->R x y H2->aC (aF X.prog X.w) X.A (f v u) Q X.xe s2) :
  aC (aF X.prog X.w) X.A (az a X.env) (λv s₁=>aC (aF X.prog X.w) X.A (az b X.env) (λu s₂=>aC (aF X.prog X.w) X.A (f v u) Q X.xe s₂) X.xe s₁) X.xe s:=by
 refine thn (ha pins s σ H _ I h) λv s1 ⟨x,H1,I1,r1,q1⟩=>?_;refine thn (hb pins s1 σ H1 _ I1 q1) λu s2 ⟨y,H2,I2,r2,q2⟩=>?_;exact hf v u s2 x y H2 I2 r1 r2 q2
def jg6(i:Nat):TE:=λσ H Q=>∃v,σ[i]?=aa (aa v)/\Q v H
def tC(v:V):TE:=λ_ H Q=>Q v H
theorem qb {i:Nat} {x:ao} {pos:aL} (hN:X.N[i]?=aa x) (hv:Vis X.env.scope x) (hd:(x==k5k)=ae:=by decide) (hcd:(x==k5l)=ae:=by decide):PE X (.Name x pos) (jg6 i):=by
 intro pins s σ H Q I h;obtain⟨v,e,h⟩:=h;obtain⟨m,hn,hl⟩:=I.loc;obtain⟨u,r,l⟩:=hl i x v hN e hv;have fin:EP X pins σ Q u s:=⟨v,H,I,r,h⟩
 rcases l with ⟨hk,hm⟩|⟨hk,c,hc,hcell⟩
 .exact jK (wpAny_loadName_local I.ok.kind hk hn hm fin) hd
 .rcases hk with hk|hk
  .exact jK (wpAny_loadName_cell I.ok.kind hk hc hcell fin) hd
  .exact jK (wpAny_loadName_free I.ok.kind hk hc hcell fin hcd) hd
theorem Mp{i j pos}:PE X (.Constant (.int i) j pos) (tC (.int i)):=λ_ _ _ H _ I h=>wpAny_Constant_int ⟨.int i,H,I.tok _,⟨_,rfl⟩,h⟩
theorem jei{b j pos}:PE X (.Constant (.bool b) j pos) (tC (.bl b)):=λ_ _ _ H _ I h=>Constant_bool ⟨.bl b,H,I,rfl,h⟩
theorem Ce{x j pos}:PE X (.Constant (.str x) j pos) (tC (.str x)):=λ_ _ _ H _ I h=>Calls.Constant_str ⟨.str x,H,I.tok _,⟨_,rfl⟩,h⟩
def Gl(X:Cx)(x:ao):Prop:=X.env.kindOf x=aa .globalImplicit
theorem Z7{E:k5h}{pins:k5i}{s:aq}{σ:St}{H:Hp}{x:ao}{u:aj}{pos:aL}{Q:k5h}(I:Inv X pins σ H s)(hg:Gl X x)(hm:X.mg x=aa u)(h:Q u s)
  (hd:(x==k5k)=ae:=by decide):aC (aF X.prog X.w) X.A (az (.Name x pos) X.env) Q E s :=
 fH I.ok.kind hg (Calls.loadGlobal_global (by rw[I.ok.glob];exact I.mod.glob.keeps I.bk) hm h) hd
theorem Yg{E:k5h}{pins:k5i}{s:aq}{σ:St}{H:Hp}{x:ao}{u:aj}{pos:aL}{Q:k5h}(I:Inv X pins σ H s)(hg:Gl X x)(hm:X.mg x=ah)(hv:aZ x=aa u)(h:Q u s)
  (hn:x ≠ "__name__":=by decide) (hd:(x==k5k)=ae:=by decide):aC (aF X.prog X.w) X.A (az (.Name x pos) X.env) Q E s:=by
 obtain⟨mb,h1,h2⟩:=I.mod.blt;exact fH I.ok.kind hg (Calls.loadGlobal_builtin (by rw[I.ok.glob];exact I.mod.glob.keeps I.bk) hm (by rw[I.ok.blt];exact h1.keeps I.bk) ((h2 x hn).trans hv) h) hd
theorem j88 {x:ao} {v:V} {u:aj} {pos:aL} (hg:Gl X x) (hm:X.mg x=aa u) (r:RelV v u) (hd:(x==k5k)=ae:=by decide):PE X (.Name x pos) (tC v) :=
 λ_ _ _ H _ I h=>Z7 I hg hm ⟨v,H,I,r,h⟩ hd
theorem j89 {x:ao} {v:V} {u:aj} {pos:aL} (hg:Gl X x) (hm:X.mg x=ah) (hv:aZ x=aa u) (r:RelV v u) (hn:x ≠ "__name__":=by decide) (hd:(x==k5k)=ae:=by decide):PE X (.Name x pos) (tC v) :=
 λ_ _ _ H _ I h=>Yg I hg hm hv ⟨v,H,I,r,h⟩ hn hd
variable{a b:ar}{ta tb:TE}{pos:aL}
def PC(X:Cx)(op:gc)(a b:ar)(t:TE):Prop :=
 ∀(pins:k5i) (s:aq) (σ:St) (H:Hp) (Q:VK),Inv X pins σ H s->t σ H Q ->
  aC (aF X.prog X.w) X.A (az a X.env) (λv s₁=>aC (aF X.prog X.w) X.A (az b X.env) (λu s₂=>aC (aF X.prog X.w) X.A (aX op v u) (EP X pins σ Q) X.xe s₂) X.xe s₁) X.xe s
theorem Cm(b:ar){op:gc}(h:op≠.In)(h2:op≠.NotIn):aN op b=ae:=by
 have e1:(op==CmpOp.In)=ae:=by cases op<;>first|rfl|exact absurd rfl h
 have e2:(op==CmpOp.NotIn)=ae:=by cases op<;>first|rfl|exact absurd rfl h2
 cases b<;>simp[aN,e1,e2]
def jgc(ta:TE):TE:=λσ H Q=>ta σ H λx H1=>Q (.bl (decide (x=.non))) H1
theorem RelV.none_iff{x:V}{v:aj}(r:RelV x v):(v==bp)=decide (x=.non):=by
 cases x with
 |non=>cases r;rfl
 |bl _=>cases r;rfl
 |int _=>obtain⟨t,rfl⟩:=r;rfl
 |str _=>obtain⟨t,rfl⟩:=r;rfl
 |byt _=>obtain⟨t,rfl⟩:=r;rfl
 |flt _=>obtain⟨t,rfl⟩:=r;rfl
 |ref _=>cases r;rfl
 |ty _=>cases r;rfl
theorem j1r{j pos'}(ha:PE X a ta):PC X .Is a (.Constant .none j pos') (jgc ta):=by intro pins s σ H Q I h;refine thn (ha pins s σ H _ I h) λv s1 ⟨x,H1,I1,r1,q1⟩=>?_;exact Constant_none (is_none_gen ⟨.bl _,H1,I1,by rw[r1.none_iff];rfl,q1⟩)
def tB(t:TE):TT:=λσ H Q=>t σ H λx H1=>∃c,x=.bl c/\Q c H1
theorem jb6{op:gc}{t:TE}(h:PC X op a b t)(h1:aN op b=ae:=by first|exact Cm _ (by decide) (by decide)|rfl):PE X (.Compare a [op] [b] pos) t:=λpins s σ H Q I hw=>ly (h pins s σ H Q I hw) h1
theorem jaz{op:gc}{t:TE}(h:PC X op a b t)(h1:aN op b=ae:=by first|exact Cm _ (by decide) (by decide)|rfl):PT X (.Compare a [op] [b] pos) (tB t):=by intro pins s σ H Q I hw;refine iO (thn (h pins s σ H _ I hw) λv s1 h1=>thn h1 λu s2 h2=>thn h2 λc s3 ⟨x,H1,I1,r1,q1⟩=>?_) h1;obtain⟨d,rfl,q⟩:=q1;cases r1;exact bN ⟨H1,I1,q⟩
theorem j1h{e:ar}{t:TE}(h:PE X e t)(he:∀whole,ft e X.env whole=(do let v <-whole;dQ e.pos;dk [v] (truthy v)):=by intro _;rfl):PT X e (tB t):=by intro pins s σ H Q I hw;refine isTrue_plain (thn (h pins s σ H _ I hw) λv s1 ⟨x,H1,I1,r1,q1⟩=>?_) (he _);obtain⟨d,rfl,q⟩:=q1;cases r1;exact bN ⟨H1,I1,q⟩
variable{tA tB':TT}{rest:List ar}
def tOr(t u:TT):TT:=λσ H Q=>t σ H λc H1=>if c=ag then Q ag H1 else u σ H1 Q
def jga(t:TT):TT:=λσ H Q=>t σ H λc H1=>Q (!c) H1
theorem jay(ha:PT X a tA):PW X (.BoolOp .Or [a] pos) tA:=by
 intro wh pins s σ H Q I h;refine isTrue_or (thn (ha pins s σ H Q I h) λc s1 e=>?_);cases c with
 |false=>exact isTrue_or_nil e
 |true=>exact e
theorem jeg(ha:PT X a tA)(hb:PW X (.BoolOp .Or (b::rest) pos) tB'):PW X (.BoolOp .Or (a::b::rest) pos) (tOr tA tB'):=by
 intro wh pins s σ H Q I h;refine isTrue_or (thn (ha pins s σ H _ I h) λc s1 ⟨H1,I1,q1⟩=>?_);cases c with
 |true=>exact⟨H1,I1,q1⟩
 |false=>exact hb wh pins s1 σ H1 Q I1 q1
theorem j1i(ha:PT X a tA):PT X (.UnaryOp .Not a pos) (jga tA):=by intro pins s σ H Q I h;exact isTrue_not (ha pins s σ H (λc H1=>Q (!c) H1) I h)
def je4(ta tb:TE):TE:=λσ H Q=>ta σ H λx H1=>∃c,x=.bl c/\if c=ag then tb σ H1 Q else Q (.bl ae) H1
theorem Cg{op}{t:TE}(h:PE X a t):PE X (.BoolOp op [a] pos) t:=λpins s σ H Q I hw=>BoolOp_one (h pins s σ H Q I hw)
theorem j1q(ha:PE X a ta)(hb:PE X (.BoolOp .And (b::rest) pos) tb):PE X (.BoolOp .And (a::b::rest) pos) (je4 ta tb):=by
 intro pins s σ H Q I h;refine BoolOp_and (thn (ha pins s σ H _ I h) λv s1 ⟨x,H1,I1,r1,q1⟩=>?_);obtain⟨c,rfl,q1⟩:=q1;cases r1;refine bN ?_;cases c with
 |true=>exact hb pins s1 σ H1 Q I1 q1
 |false=>exact⟨.bl ae,H1,I1,rfl,q1⟩
def tIf(t:TT)(ta tb:TE):TE:=λσ H Q=>t σ H λc H1=>if c=ag then ta σ H1 Q else tb σ H1 Q
theorem j4b{c:ar}(hc:PT X c tA)(ha:PE X a ta)(hb:PE X b tb):PE X (.IfExp c a b pos) (tIf tA ta tb):=by
 intro pins s σ H Q I h;refine wpAny_IfExp (thn (hc pins s σ H _ I h) λd s1 ⟨H1,I1,q1⟩=>?_);cases d with
 |true=>exact ha pins s1 σ H1 Q I1 q1
 |false=>exact hb pins s1 σ H1 Q I1 q1
end
def SqL(K:k5g)(H:Hp)(a:ai)(xs:List V):Prop :=
 Rd H a (.lst xs) \/
  ∃(o:cw)(its:Array aj)(n:Nat),K.lookup a=aa o/\o.cls=.type "list"/\o.dict=ah/\o.data=.seq its n/\its.size<=au/\Vals xs its.toList
def SqT(K:k5g)(H:Hp)(a:ai)(xs:List V):Prop :=
 Rd H a (.tup xs) \/
  ∃(o:cw)(its:Array aj)(n:Nat),K.lookup a=aa o/\o.cls=.type "tuple"/\o.dict=ah/\o.data=.seq its n/\its.size<=au/\Vals xs its.toList
noncomputable def jhj:aj->Option V
 |.none=>aa .non
 |.bool b=>aa (.bl b)
 |.int i _=>aa (.int i)
 |.str x _=>aa (.str x)
 |.bytes b _=>aa (.byt b)
 |.float b _=>aa (.flt b)
 |.ref a=>aa (.ref a)
 |.type n=>aa (.ty n)
 |_=>ah
theorem RelV.abs{x:V}{u:aj}(r:RelV x u):jhj u=aa x:=by
 cases x with
 |non=>cases r;rfl
 |bl _=>cases r;rfl
 |int _=>obtain⟨t,rfl⟩:=r;rfl
 |str _=>obtain⟨t,rfl⟩:=r;rfl
 |byt _=>obtain⟨t,rfl⟩:=r;rfl
 |flt _=>obtain⟨t,rfl⟩:=r;rfl
 |ref _=>cases r;rfl
 |ty _=>cases r;rfl
theorem RelV.inj{x y:V}{u:aj}(r:RelV x u)(q:RelV y u):x=y:=aB (r.abs.symm.trans q.abs)
theorem Vals.inj:∀{xs ys:List V}{us:List aj},Vals xs us->Vals ys us->xs=ys
 |_,_,_,.nil,.nil=>rfl
 |_,_,_,.cons r t,.cons r' t'=>by rw[r.inj r',Vals.inj t t']
section
variable{X:Cx}{pins:k5i}{σ:St}{H:Hp}{s:aq}{a:ai}{xs ys:List V}
theorem Inv.list(I:Inv X pins σ H s)(h:SqL X.K H a xs):∃its:List aj,Vals xs its/\PlainL s.heap a its.toArray/\xs.length<=au:=by
 rcases h with h|⟨o,its,n,hk,hc,hd,hs,hz,r⟩
 .obtain⟨z,its,n,r,e⟩:=h.ok I.hok;exact⟨its,r,⟨_,n,e,rfl,rfl,rfl⟩,z⟩
 .refine⟨its.toList,r,⟨o,n,I.kIn a o hk,hc,hd,by simpa using hs⟩,?_⟩;have e:=r.length;simp only[cu]at e;omega
theorem Inv.tuple(I:Inv X pins σ H s)(h:SqT X.K H a xs):∃its:List aj,Vals xs its/\jZ s.heap a its.toArray/\xs.length<=au:=by
 rcases h with h|⟨o,its,n,hk,hc,hnd,hs,hz,r⟩
 .obtain⟨z,its,r,p,_⟩:=h.ok I.hok;exact⟨its,r,p,z⟩
 .refine⟨its.toList,r,⟨o,I.kIn a o hk,hc,n,by simpa using hs⟩,?_⟩;have e:=r.length;simp only[cu]at e;omega
theorem Inv.tupD(I:Inv X pins σ H s)(h:SqT X.K H a xs):Zy s.heap a:=by
 rcases h with h|⟨o,its,n,hk,hc,hnd,hs,hz,r⟩
 .obtain⟨z,its,r,p,q⟩:=h.ok I.hok;exact q
 .intro o' e;rw[I.kIn a o hk]at e;cases e;exact hnd
theorem Inv.list_inj(I:Inv X pins σ H s)(h:SqL X.K H a xs)(h':SqL X.K H a ys):xs=ys:=by
 obtain⟨its,r,⟨o,n,e,_,_,d⟩,_⟩:=I.list h;obtain⟨its',r',⟨o',n',e',_,_,d'⟩,_⟩:=I.list h';rw[e]at e';cases e';rw[d]at d';injection d' with d1 _;have:its=its':=by simpa using congrArg jP d1
 subst this;exact r.inj r'
theorem Inv.tuple_inj(I:Inv X pins σ H s)(h:SqT X.K H a xs)(h':SqT X.K H a ys):xs=ys:=by
 obtain⟨its,r,⟨o,e,_,n,d⟩,_⟩:=I.tuple h;obtain⟨its',r',⟨o',e',_,n',d'⟩,_⟩:=I.tuple h';rw[e]at e';cases e';rw[d]at d';injection d' with d1 _;have:its=its':=by simpa using congrArg jP d1
 subst this;exact r.inj r'
end
noncomputable abbrev Cx.wish(X:Cx)(E:k5h):Cx:={ X with xe:=E }
noncomputable abbrev Cx.nox(X:Cx):Cx:=X.wish λ_ _=>False
theorem Cx.Ok.wish{X:Cx}(ok:X.Ok)(E:k5h):(X.wish E).Ok :=
 ⟨ok.mod,ok.kind,ok.glob,ok.blt,ok.above,ok.inj,ok.has,ok.cab,ok.hd,ok.frames,ok.stk,ok.exf,ok.bs,ok.bsz,ok.noex,ok.exfs,ok.funs,ok.frf⟩
theorem Cx.Ok.unwish{X:Cx}{E:k5h}(ok:(X.wish E).Ok):X.Ok :=
 ⟨ok.mod,ok.kind,ok.glob,ok.blt,ok.above,ok.inj,ok.has,ok.cab,ok.hd,ok.frames,ok.stk,ok.exf,ok.bs,ok.bsz,ok.noex,ok.exfs,ok.funs,ok.frf⟩
section
variable{X:Cx}{pins:k5i}{σ:St}{H:Hp}{s:aq}{E:k5h}
theorem Inv.wish(I:Inv X pins σ H s)(E:k5h):Inv (X.wish E) pins σ H s:=⟨I.ok.wish E,I.os,I.bare,I.base,I.loc,I.cell,I.free,I.freeC,I.pin,I.hok,I.len⟩
theorem Inv.unwish(I:Inv (X.wish E) pins σ H s):Inv X pins σ H s:=⟨I.ok.unwish,I.os,I.bare,I.base,I.loc,I.cell,I.free,I.freeC,I.pin,I.hok,I.len⟩
theorem SP.unwish{D:Ends}{f:Flow}{s':aq}(h:SP (X.wish E) pins D f s'):SP X pins D f s':=by
 cases f with
 |next=>obtain⟨σ',H',I,q⟩:=h;exact⟨σ',H',I.unwish,q⟩
 |brk=>obtain⟨σ',H',I,q⟩:=h;exact⟨σ',H',I.unwish,q⟩
 |cont=>obtain⟨σ',H',I,q⟩:=h;exact⟨σ',H',I.unwish,q⟩
 |ret u=>obtain⟨v,σ',H',H2,I,r,x,q⟩:=h;exact⟨v,σ',H',H2,I.unwish,r,x,q⟩
theorem PSs.nox{st:List aG}{t:TS}(h:PSs X.nox st t):PSs X st t:=λpins s σ H D I hw =>bu (h pins s σ H D (I.wish _) hw) (λ_ _ q=>q.unwish) λ_ _ z=>aU z
end
section
variable{X:Cx}{st:aG}{rest:List aG}{t u:TS}{e:ar}{te:TE}{pos:aL}
def je0:TS:=λD σ H=>D.nx σ H
def jg8(t u:TS):TS:=λD σ H=>t { D with nx:=u D } σ H
theorem Qq:PSs X [] je0:=λ_ _ σ H _ I h=>dU ⟨σ,H,I,h⟩
theorem qt(h1:PS X st t)(h2:PSs X rest u):PSs X (st::rest) (jg8 t u):=by
 intro pins s σ H D I h;refine kD (thn (h1 pins s σ H { D with nx:=u D } I h) λf s1 q=>?_);cases f with
 |next =>obtain⟨σ',H',I',q⟩:=q;exact h2 pins s1 σ' H' D I' q
 |ret v=>exact q
 |brk=>exact q
 |cont=>exact q
theorem Jt(h1:PS X st t):PSs X [st] t:=by
 intro pins s σ H D I h;refine kD (thn (h1 pins s σ H D I h) λf s1 q=>?_);cases f with
 |next=>exact dU q
 |ret v=>exact q
 |brk=>exact q
 |cont=>exact q
theorem Inv.quiet{pins:k5i}{σ:St}{H:Hp}{s:aq}(I:Inv X pins σ H s):interactive X.env=ae:=by simp[interactive,I.ok.kind]
def je2(te:TE):TS:=λD σ H=>te σ H λ_ H1=>D.nx σ H1
theorem Va(he:PE X e te)(hs:aO e ah pos.line X.env=pure ae:=by rfl):PS X (.Expr e pos) (je2 te):=by intro pins s σ H D I h;exact wpAny_Expr_any (thn (he pins s σ H _ I h) λv s1 ⟨x,H1,I1,r1,q1⟩=>⟨σ,H1,I1,q1⟩) I.quiet hs
def jg9(te:TE):TS:=λD σ H=>te σ H D.rt
theorem Q5(he:PE X e te):PS X (.Return (aa e) pos) (jg9 te):=by intro pins s σ H D I h;exact wpAny_Return_some (thn (he pins s σ H _ I h) λv s1 ⟨x,H1,I1,r1,q1⟩=>⟨x,σ,H1,H1,I1,r1,.refl,q1⟩)
def jgd(c:TT)(t u:TS):TS:=λD σ H=>c σ H λb H1=>if b=ag then t D σ H1 else u D σ H1
theorem Yr{c:ar}{a b:List aG}{tc:TT}(hc:PT X c tc)(ha:PSs X a t)(hb:PSs X b u):PS X (.If c a b pos) (jgd tc t u):=by
 intro pins s σ H D I h;refine wpAny_If (thn (hc pins s σ H _ I h) λd s1 ⟨H1,I1,q1⟩=>?_);cases d with
 |true=>exact ha pins s1 σ H1 D I1 q1
 |false=>exact hb pins s1 σ H1 D I1 q1
end
abbrev TG:=V->St->Hp->(St->Hp->Prop)->Prop
abbrev TGs:=List V->St->Hp->(St->Hp->Prop)->Prop
def PG(X:Cx)(target:ar)(t:TG):Prop :=
 ∀(pins:k5i) (s:aq) (σ:St) (H:Hp) (v:V) (u:aj) (Q:St->Hp->Prop),Inv X pins σ H s->RelV v u->t v σ H Q ->
  aC (aF X.prog X.w) X.A (dR target X.env u) (λ_ s'=>∃σ' H',Inv X pins σ' H' s'/\Q σ' H') X.xe s
def PGs(X:Cx)(ts:List ar)(t:TGs):Prop :=
 ∀(pins:k5i) (s:aq) (σ:St) (H:Hp) (vs:List V) (us:List aj) (Q:St->Hp->Prop),Inv X pins σ H s->Vals vs us->t vs σ H Q ->
  aC (aF X.prog X.w) X.A (assignInOrder ((bD ts X.env).map (·.2)) us) (λ_ s'=>∃σ' H',Inv X pins σ' H' s'/\Q σ' H') X.xe s
section
variable{X:Cx}{pos:aL}
def j72(i:Nat):TG:=λv σ H Q=>Q (σ.set i (aa v)) H
theorem Oz{i:Nat}{x:ao}(hN:X.N.Nodup)(hi:X.N[i]?=aa x)(hx:Loc X.env.scope x)(hf:X.fn x=ag\/X.env.scope.names.lookup x=aa .local:=by first|exact .inl rfl|exact .inr rfl|assumption):PG X (.Name x pos) (j72 i):=by intro pins s σ H v u Q I r h;exact jU (Dm I hN hi hx r (λs' I'=>⟨_,H,I',h⟩) hf)
def jhc:TGs:=λvs σ H Q=>vs=[]/\Q σ H
def jfc(t:TG)(u:TGs):TGs:=λvs σ H Q=>∃v r,vs=v::r/\t v σ H λσ' H'=>u r σ' H' Q
theorem j86:PGs X [] jhc:=by intro pins s σ H vs us Q I r h;obtain⟨e,h⟩:=h;subst e;cases r;exact assignInOrder_nil ⟨σ,H,I,h⟩
theorem Cd{e:ar}{es:List ar}{t:TG}{u:TGs}(h1:PG X e t)(h2:PGs X es u)
  (hs:(bD (e::es) X.env).map (·.2)=dR e X.env::(bD es X.env).map (·.2):=by rfl):PGs X (e::es) (jfc t u):=by
 intro pins s σ H vs us Q I r h;obtain⟨v,vr,e1,h⟩:=h;subst e1;cases r with
 |cons r rr =>rw[hs];refine assignInOrder_cons (thn (h1 pins s σ H _ _ _ I r h) λ_ s1 ⟨σ1,H1,I1,q1⟩=>?_);exact h2 pins s1 σ1 H1 _ _ Q I1 rr q1
def jhb(K:k5g)(n:Nat)(t:TGs):TG:=λv σ H Q=>∃a xs,v=.ref a/\SqT K H a xs/\xs.length=n/\t xs σ H Q
theorem jb5{es:List ar}{k:Nat}{t:TGs}{n:Nat}(hc:X.calm=ag)(h:PGs X es t)
  (hn:(bD es X.env).length=n:=by rfl) (hst:(bD es X.env).findIdx? (·.1)=ah:=by rfl):PG X (.Tuple es k pos) (jhb X.K n t):=by
 intro pins s σ H v u Q I r hw;obtain⟨a,xs,e1,hq,hl,hw⟩:=hw;subst e1;cases r;obtain⟨its,rv,ht,hz⟩:=I.tuple hq;refine assign_Tuple_tuple (I.ok.hd hc) ht (by simp[hn,<-hl,rv.length]) hst λh' hx=>?_;have I1:Inv X pins σ H { s with heap:=h' }:=I.kept (t':=s.toks) λb o e=>hx b o (Xa (xm e)) e;exact h pins _ σ H xs _ Q I1 (by simpa using rv) hw
def ja8(te:TE)(g:TG):TS:=λD σ H=>te σ H λx H1=>g x σ H1 D.nx
theorem jb1{tg e:ar}{te:TE}{g:TG}(he:PE X e te)(hg:PG X tg g)(hs:ib [tg] e pos.line X.env=pure ae:=by rfl)(hw:ic [tg] e X.env=pure ah:=by rfl)
  (h1:(bD [tg] X.env).map (·.2)=[dR tg X.env]:=by rfl):PS X (.Assign [tg] e pos) (ja8 te g):=by
 intro pins s σ H D I h;refine wpAny_Assign_stores (thn (he pins s σ H _ I h) λv s1 ⟨x,H1,I1,r1,q1⟩=>?_) hs hw;rw[h1];exact thn (hg pins s1 σ H1 x v _ I1 r1 q1) λ_ s2 q=>q
theorem Ve{i:Nat}{x:ao}{e:ar}{te:TE}{pos':aL}(hN:X.N.Nodup)(hi:X.N[i]?=aa x)(hx:Loc X.env.scope x)(he:PE X e te)(hs:aO e (aa (.Name x pos')) pos.line X.env=pure ae:=by rfl)(hf:X.fn x=ag\/X.env.scope.names.lookup x=aa .local:=by first|exact .inl rfl|exact .inr rfl|assumption) :
  PS X (.Assign [.Name x pos'] e pos) (ja8 te (j72 i)):=by
 intro pins s σ H D I h;refine wpAny_Assign_Name (thn (he pins s σ H _ I h) λv s1 ⟨y,H1,I1,r1,q1⟩=>?_) hs;exact Dm I1 hN hi hx r1 (λs2 I2=>⟨_,H1,I2,q1⟩) hf
end
section
variable{X:Cx}{pos:aL}
def ja4(c:TT)(tb:TS):TS:=λD σ H=>∃W:Nat->St->Hp->Prop,(∃m,W m σ H)/\∀m σ H,W m σ H ->
 c σ H λb H1=>if b=ag then ∃N:St->Hp->Prop,(∀σ' H',N σ' H'->∃m',m'<m/\W m' σ' H')/\tb { D with nx:=N,ct:=N,bk:=D.nx } σ H1 else D.nx σ H1
theorem Dw{c:ar}{body:List aG}{tc:TT}{tb:TS}(hp:cS (aF X.prog X.w) X.A X.env X.xe)(hc:PT X c tc)(hb:PSs X body tb):PS X (.While c body [] pos) (ja4 tc tb):=by
 intro pins s σ H D I h;obtain⟨W,⟨m0,w0⟩,turn⟩:=h;refine wpAny_While (codeAny_whileLoop (λn s'=>∃σ' H',Inv X pins σ' H' s'/\W n σ' H') ?_ m0 ⟨σ,H,I,w0⟩);rintro n s1 ⟨σ1,H1,I1,w1⟩;refine bL hp (thn (hc pins s1 σ1 H1 _ I1 (turn n σ1 H1 w1)) λb s2 ⟨H2,I2,q2⟩=>?_);cases b with
 |true =>
  obtain⟨N,hN,q2⟩:=q2;rw[if_pos rfl];refine bL hp (thn (hb pins s2 σ1 H2 _ I2 q2) λf s3 q3=>?_);cases f with
  |next =>obtain⟨σ3,H3,I3,n3⟩:=q3;obtain⟨m',hm,w3⟩:=hN σ3 H3 n3;exact⟨m',hm,σ3,H3,I3,w3⟩
  |cont =>obtain⟨σ3,H3,I3,n3⟩:=q3;obtain⟨m',hm,w3⟩:=hN σ3 H3 n3;exact⟨m',hm,σ3,H3,I3,w3⟩
  |brk=>exact q3
  |ret v=>exact q3
 |false =>rw[if_neg xu];exact dU ⟨σ1,H2,I2,q2⟩
end
structure It where
 go:Nat->Hp->Prop
 yld:Nat->Hp->V->Hp->Prop
 stop:Nat->Hp->Prop
def Ue(X:Cx)(pins:k5i)(H:Hp)(b:ai):Prop :=
 H b=ah/\b≠X.env.locals/\b∉X.fs/\(b∈X.ex\/X.s₀.heap.objs.size<=b)/\(∀x c,X.env.cells.lookup x=aa c->c≠b)/\∀p∈X.pn++pins,p.1≠b
theorem Inv.fpOk{X:Cx}{pins:k5i}{σ:St}{H H':Hp}{s:aq}{b:ai}(I:Inv X pins σ H s)(hb:s.heap.objs.size<=b)(hn:H' b=ah):Ue X pins H' b:=by
 refine⟨hn,cA (Xj I.lt hb),I.nofs hb,.inr (Xf I.sz hb),λx c e z=>?_,λp hp z=>?_⟩
 .obtain⟨v,q⟩:=I.cell x c e;exact absurd (Xj q.lt (by rw[z];exact hb)) (Xx _)
 .exact absurd (Xj (xm (I.pin p hp).1) (by rw[z];exact hb)) (Xx _)
structure Turn(P:av)(w:aA)(K:k5g)(tg:ar)(J:It)(fp:List ai)(it:ai)(tn:Nat->aI->Prop):Prop where
 mem:it∈fp
 obj:∀i h,tn i h->∀b∈fp,∃o,h.get? b=aa o/\∀v,o.data≠.cell v
 keep:∀i h h',tn i h->(∀b∈fp,∀o,h.get? b=aa o->h'.get? b=aa o)->tn i h'
 item:∀(X:Cx),X.prog=P->X.w=w->X.K=K->X.calm=ag->∀(i:Nat)(pins:k5i) (s:aq) (σ:St) (H:Hp) (E:k5h),Inv X pins σ H s->(∀b∈fp,Ue X pins H b)->tn i s.heap->J.go i H ->
  aC (aF P w) X.A (pyNext (.ref it)) (λr s1=>∃u,r=aa u /\
   aC (aF P w) X.A (dW tg (.ref it) u) (λ_ s2=>∃x H',Inv X pins σ H' s2/\RelV x u/\J.yld i H x H'/\tn (i+1) s2.heap/\∀b∈fp,H' b=ah) E s1) E s
 done:∀(X:Cx),X.prog=P->X.w=w->X.K=K->X.calm=ag->∀(i:Nat)(pins:k5i) (s:aq) (σ:St) (H:Hp) (E:k5h),Inv X pins σ H s->(∀b∈fp,Ue X pins H b)->tn i s.heap->J.stop i H ->
  aC (aF P w) X.A (pyNext (.ref it)) (λr s1=>r=ah/\Inv X pins σ H s1) E s
 self:∀(A:aE)(i:Nat)(s:aq)(Q:k5h)(E:k5h),tn i s.heap->Q (.ref it) s->aC (aF P w) A (lz (.ref it)) Q E s
abbrev TI:=St->Hp->(It->Hp->Prop)->Prop
def PIE(X:Cx)(pins:k5i)(σ:St)(tg:ar)(R:It->Hp->Prop)(itv:aj)(s2:aq):Prop :=
 ∃(it:ai)(fp:List ai)(tn:Nat->aI->Prop)(J:It)(H':Hp),itv=.ref it/\Inv X pins σ H' s2/\Turn X.prog X.w X.K tg J fp it tn/\tn 0 s2.heap/\(∀b∈fp,Ue X pins H' b)/\R J H'
def PI(X:Cx)(tg iter:ar)(wi:TI):Prop :=
 ∀(pins:k5i) (s:aq) (σ:St) (H:Hp) (R:It->Hp->Prop),Inv X pins σ H s->wi σ H R ->
  aC (aF X.prog X.w) X.A (az iter X.env) (λv s1=>aC (aF X.prog X.w) X.A (lz v) (PIE X pins σ tg R) X.xe s1) X.xe s
theorem Fw{M:gy}{A:aE}{E:k5h}{s:aq}{tg:ar}{it:ai}{u:aj}{o:cw}{n:String}{vs:Array aj}{Q:Unit->aq->Prop}(ho:s.heap.get? it=aa o)(hc:o.cls=.type n)(hd:o.data=.fields vs)
  (hn:["enumerate","zip","dict_itemiterator","dict_reverseitemiterator","odict_iterator","itertools.zip_longest","itertools.pairwise"].contains n=ae) (hQ:Q () s):aC M A (dW tg (.ref it) u) Q E s:=by
 unfold dW;cases tg<;>first
  |exact aH hQ
  |(cases u<;>first
    |exact aH hQ
    |(refine aw (wpAny_load ho ?_);rw[hc,hd];show aC M A (if (["enumerate","zip","dict_itemiterator","dict_reverseitemiterator","odict_iterator","itertools.zip_longest","itertools.pairwise"].contains n&&vs[0]?==aa (rawInt _))=ag then _ else _) Q E s;rw[if_neg (by intro h;rw[hn,Bool.false_and]at h;cases h)];exact aH hQ))
noncomputable def Itl(K:k5g)(a:ai):It :=
 ⟨λi H=>∃xs x,SqL K H a xs/\xs[i]?=aa x,λi H x H'=>H'=H/\∀xs,SqL K H a xs->xs[i]?=aa x,λi H=>∃xs,SqL K H a xs/\xs.length<=i⟩
noncomputable def Itt(K:k5g)(a:ai):It :=
 ⟨λi H=>∃xs x,SqT K H a xs/\xs[i]?=aa x,λi H x H'=>H'=H/\∀xs,SqT K H a xs->xs[i]?=aa x,λi H=>∃xs,SqT K H a xs/\xs.length<=i⟩
noncomputable def Itr(lo:Int)(n:Nat):It:=⟨λi _=>i<n,λi H x H'=>H'=H/\x=.int (lo+i),λi _=>n<=i⟩
theorem j14{P:av}{w:aA}{K:k5g}{tg:ar}(a it:ai):Turn P w K tg (Itl K a) [it] it (λi h=>h.IsListIter it a i) where
 mem:=by simp
 obj:=λi h st b hb=>by
  have e:b=it:=by simpa using hb
  subst e;obtain⟨o,e,c,d⟩:=st;exact⟨o,e,λv z=>by rw[d]at z;cases z⟩
 keep:=λi h h' st k=>st.at λo e=>k it (by simp) o e
 item:=by intro X hP hw hK hc i pins s σ H E I hf st hg;subst hP hw hK;obtain⟨xs,x,hq,hx⟩:=hg;obtain⟨its,rv,p,hz⟩:=I.list hq;obtain⟨u,hu,ru⟩:=rv.get hx;obtain⟨f0,f1,f2,f3,f4,f5⟩:=hf it (by simp);refine wpAny_pyNext_list_item st p.isList (x:=u) (by simpa using hu) λh' st' sb=>?_;have I1:Inv X pins σ H { s with heap:=h' }:=I.turned (t':=s.toks) (λb o hb e=>(sb.2 b hb).trans e) f0 f1 f3 f4 f5;obtain⟨o,e,c,d⟩:=id st';exact⟨u,rfl,Fw (s:={ s with heap:=h' }) e c d (by decide) ⟨x,H,I1,ru,⟨rfl,λys hy=>by rw[I.list_inj hy hq];exact hx⟩,st',λb hb=>(hf b hb).1⟩⟩
 done:=by intro X hP hw hK hc i pins s σ H E I hf st hg;subst hP hw hK;obtain⟨xs,hq,hx⟩:=hg;obtain⟨its,rv,p,hz⟩:=I.list hq;obtain⟨f0,f1,f2,f3,f4,f5⟩:=hf it (by simp);have hl:=rv.length;exact wpAny_pyNext_list_end (I.ok.hd hc) st p.isList (by simp;omega) λh' eb=>⟨rfl,I.turned (t':=s.toks) (λb o hb e=>eb b o hb e) f0 f1 f3 f4 f5⟩
 self:=λ_ _ _ _ _ st h=>wpAny_pyIter_listiter st h
theorem El{P:av}{w:aA}{K:k5g}{tg:ar}(a it:ai):Turn P w K tg (Itt K a) [it] it (λi h=>h.IsTupleIter it a i) where
 mem:=by simp
 obj:=λi h st b hb=>by
  have e:b=it:=by simpa using hb
  subst e;obtain⟨o,e,c,d⟩:=st;exact⟨o,e,λv z=>by rw[d]at z;cases z⟩
 keep:=λi h h' st k=>st.at λo e=>k it (by simp) o e
 item:=by intro X hP hw hK hc i pins s σ H E I hf st hg;subst hP hw hK;obtain⟨xs,x,hq,hx⟩:=hg;obtain⟨its,rv,p,hz⟩:=I.tuple hq;obtain⟨u,hu,ru⟩:=rv.get hx;obtain⟨f0,f1,f2,f3,f4,f5⟩:=hf it (by simp);refine wpAny_pyNext_tuple_item st (show s.heap.IsTuple a its.toArray from p) (x:=u) (by simpa using hu) λh' st' sb=>?_;have I1:Inv X pins σ H { s with heap:=h' }:=I.turned (t':=s.toks) (λb o hb e=>(sb.2 b hb).trans e) f0 f1 f3 f4 f5;obtain⟨o,e,c,d⟩:=id st';exact⟨u,rfl,Fw (s:={ s with heap:=h' }) e c d (by decide) ⟨x,H,I1,ru,⟨rfl,λys hy=>by rw[I.tuple_inj hy hq];exact hx⟩,st',λb hb=>(hf b hb).1⟩⟩
 done:=by intro X hP hw hK hc i pins s σ H E I hf st hg;subst hP hw hK;obtain⟨xs,hq,hx⟩:=hg;obtain⟨its,rv,p,hz⟩:=I.tuple hq;obtain⟨f0,f1,f2,f3,f4,f5⟩:=hf it (by simp);have hl:=rv.length;exact wpAny_pyNext_tuple_end (I.ok.hd hc) st (show s.heap.IsTuple a its.toArray from p) (by simp;omega) λh' eb=>⟨rfl,I.turned (t':=s.toks) (λb o hb e=>eb b o hb e) f0 f1 f3 f4 f5⟩
 self:=λ_ _ _ _ _ st h=>wpAny_pyIter_tupleiter st h
theorem Em{P:av}{w:aA}{K:k5g}{tg:ar}(it:ai)(lo:Int)(n:Nat):Turn P w K tg (Itr lo n) [it] it (λi h=>IsRangeIter h it (lo+(i:Nat)*1) ((n:Int)-(i:Nat)) 1) where
 mem:=by simp
 obj:=λi h st b hb=>by
  have e:b=it:=by simpa using hb
  subst e;exact⟨_,st,λv z=>by
   have z':Data.fields _=Data.cell v:=z
   cases z'⟩
 keep:=λi h h' st k=>k it (by simp) _ st
 item:=by intro X hP hw hK hc i pins s σ H E I hf st hg;subst hP hw hK;obtain⟨f0,f1,f2,f3,f4,f5⟩:=hf it (by simp);have W:=Walks.range (prog:=X.prog) (w:=X.w) (I.ok.hd hc) it lo 1 n;refine W.item i s _ _ hg st λv h' tk hv st' kk=>?_;obtain⟨t,rfl⟩:=hv;have I1:Inv X pins σ H { s with heap:=h',toks:=tk }:=I.turned (λb o hb e=>kk b o (by simpa using hb) e) f0 f1 f3 f4 f5;refine⟨_,rfl,Fw (s:={ s with heap:=h',toks:=tk }) (n:="range_iterator") st' rfl rfl (by decide) ⟨.int (lo+i),H,I1,⟨t,?_⟩,⟨rfl,rfl⟩,st',λb hb=>(hf b hb).1⟩⟩;rw[Int.mul_one]
 done:=by intro X hP hw hK hc i pins s σ H E I hf st hg;subst hP hw hK;obtain⟨f0,f1,f2,f3,f4,f5⟩:=hf it (by simp);exact wpAny_pyNext_range_end (I.ok.hd hc) st (by have:n<=i:=hg;omega) λh' eb=>⟨rfl,I.turned (t':=s.toks) (λb o hb e=>eb b o hb e) f0 f1 f3 f4 f5⟩
 self:=λ_ _ _ _ _ st h=>wpAny_pyIter_rangeiter st h
section
variable{X:Cx}{tg:ar}
def jfa(K:k5g)(tl:TE):TI:=λσ H R=>tl σ H λx H1=>∃a,x=.ref a/\(∃xs,SqL K H1 a xs)/\R (Itl K a) H1
def jh7(K:k5g)(tl:TE):TI:=λσ H R=>tl σ H λx H1=>∃a,x=.ref a/\(∃xs,SqT K H1 a xs)/\R (Itt K a) H1
theorem j85{l:ar}{tl:TE}(hl:PE X l tl):PI X tg l (jfa X.K tl):=by
 intro pins s σ H R I h;refine thn (hl pins s σ H _ I h) λv s1 ⟨x,H1,I1,r1,q1⟩=>?_;obtain⟨a,e,⟨xs,hq⟩,q⟩:=q1;subst e;cases r1;obtain⟨its,rv,p,hz⟩:=I1.list hq;refine dj p.isList ?_;refine⟨s1.heap.objs.size,[s1.heap.objs.size],_,_,H1,rfl,I1.kept (t':=s1.toks) λb o e=>xn _ e,j14 a _,⟨_,Xc _ rfl,rfl,rfl⟩,λb hb=>?_,q⟩;have e:b=s1.heap.objs.size:=by simpa using hb
 subst e;exact I1.fpOk (X3 _) (I1.hok.fresh (X3 _))
theorem jb4{l:ar}{tl:TE}(hl:PE X l tl):PI X tg l (jh7 X.K tl):=by
 intro pins s σ H R I h;refine thn (hl pins s σ H _ I h) λv s1 ⟨x,H1,I1,r1,q1⟩=>?_;obtain⟨a,e,⟨xs,hq⟩,q⟩:=q1;subst e;cases r1;obtain⟨its,rv,p,hz⟩:=I1.tuple hq;refine jI (show s1.heap.IsTuple a its.toArray from p) ?_;refine⟨s1.heap.objs.size,[s1.heap.objs.size],_,_,H1,rfl,I1.kept (t':=s1.toks) λb o e=>xn _ e,El a _,⟨_,Xc _ rfl,rfl,rfl⟩,λb hb=>?_,q⟩;have e:b=s1.heap.objs.size:=by simpa using hb
 subst e;exact I1.fpOk (X3 _) (I1.hok.fresh (X3 _))
theorem Dv{pins:k5i}{σ:St}{H:Hp}{s:aq}{R:It->Hp->Prop}{E:k5h}{lo hi:Int}{t u v:jY}{tk:Nat}(I:Inv X pins σ H s)(h1:-(2^62)<=lo)(h2:lo<2^62)(h3:-(2^62)<=hi)(h4:hi<2^62)
  (q:R (Itr lo (hi-lo).toNat) H):aC (aF X.prog X.w) X.A (lz (.ref s.heap.objs.size)) (PIE X pins σ tg R) E { s with heap:=s.heap.push { cls:=.type "range",data:=.fields #[.int lo t,.int hi u,.int 1 v] },toks:=tk }:=by
 refine wpAny_pyIter_range (IsRange.new ..) (small_one h1 h2 h3 h4) ?_;have I1:Inv X pins σ H { s with heap:=s.heap.push { cls:=.type "range",data:=.fields #[.int lo t,.int hi u,.int 1 v] },toks:=tk }:=I.kept λb o e=>xn _ e;refine⟨(s.heap.push { cls:=.type "range",data:=.fields #[.int lo t,.int hi u,.int 1 v] }).objs.size,[(s.heap.push { cls:=.type "range",data:=.fields #[.int lo t,.int hi u,.int 1 v] }).objs.size],_,_,H,rfl,
  I1.kept (t':=tk) λb o e=>xn _ e,Em _ lo (hi-lo).toNat,?_,λb hb=>?_,q⟩
 .have e1:lo+((0:Nat):Int)*1=lo:=by simp
  have e2:(((hi-lo).toNat:Nat):Int)-((0:Nat):Int)=Builtin.Range.rangeSize lo hi 1:=by rw[rangeSize_one];split<;>omega
  show IsRangeIter _ _ (lo+((0:Nat):Int)*1) ((((hi-lo).toNat:Nat):Int)-((0:Nat):Int)) 1;rw[e1,e2];exact Xc _ rfl
 .have e:b=(s.heap.push { cls:=.type "range",data:=.fields #[.int lo t,.int hi u,.int 1 v] }).objs.size:=by simpa using hb
  subst e;exact I1.fpOk (X3 _) (I1.hok.fresh (X3 _))
def jf9(ta:TA):TI:=λσ H R=>ta σ H λvs H1=>∃j:Int,vs=[.int j]/\-(2^62)<=j/\j<2^62/\R (Itr 0 j.toNat) H1
def jf8(ta:TA):TI:=λσ H R=>ta σ H λvs H1=>∃i j:Int,vs=[.int i,.int j]/\(-(2^62)<=i/\i<2^62/\-(2^62)<=j/\j<2^62)/\R (Itr i (j-i).toNat) H1
theorem j1o {a:ar} {ta:TA} {p pos:aL} (hg:Gl X "range") (hm:X.mg "range" = ah) (ha:PA X [a] ta) (hs:af [a] X.env=[(ae,az a X.env)]:=by rfl):PI X tg (.Call (.Name "range" p) [a] [] pos) (jf9 ta):=by
 intro pins s σ H R I h;refine Call_ (Yg I hg hm boot_range (callWith_type1 (thn (ha pos pins s σ H _ I h) λus s1 ⟨vs,H1,I1,r1,q1⟩=>?_) hs rfl));obtain⟨j,e,q1,q2,q⟩:=q1;subst e;cases r1 with
 |cons r rr =>cases rr;obtain⟨t,rfl⟩:=r;exact call_range_1 (Dv I1 (by omega) (by omega) q1 q2 (by simpa using q))
theorem j1n {a b:ar} {ta:TA} {p pos:aL} (hg:Gl X "range") (hm:X.mg "range" = ah) (ha:PA X [a,b] ta) (hs:af [a,b] X.env=[(ae,az a X.env),(ae,az b X.env)]:=by rfl) (hs2:af [b] X.env=[(ae,az b X.env)]:=by rfl) :
  PI X tg (.Call (.Name "range" p) [a,b] [] pos) (jf8 ta):=by
 intro pins s σ H R I h;refine Call_ (Yg I hg hm boot_range (callWith_type1 (thn (ha pos pins s σ H _ I h) λus s1 ⟨vs,H1,I1,r1,q1⟩=>?_) (by rw[hs,hs2]) (by rw[hs2];rfl)));obtain⟨i,j,e,⟨q1,q2,q3,q4⟩,q⟩:=q1;subst e;cases r1 with
 |cons r rr =>
  cases rr with
  |cons r' rr =>cases rr;obtain⟨t,rfl⟩:=r;obtain⟨t',rfl⟩:=r';exact call_range_2 (Dv I1 q1 q2 q3 q4 q)
def jge(wi:TI)(g:TG)(tb:TS):TS:=λD σ H=>wi σ H λJ H1=>∃W:Nat->Nat->St->Hp->Prop,(∃m,W 0 m σ H1)/\∀i m σ H,W i m σ H ->
 (J.stop i H/\D.nx σ H)\/(J.go i H/\∃N:St->Hp->Prop,(∀σ' H',N σ' H'->∃m',m'<m/\W (i+1) m' σ' H')/\∀x H',J.yld i H x H'->g x σ H' λσ2 H2=>tb { D with nx:=N,ct:=N,bk:=D.nx } σ2 H2)
noncomputable def Qw(fp:List ai)(h:aI):List (ai×cw):=fp.filterMap λb=>(h.get? b).map λo=>(b,o)
theorem Qy{fp:List ai}{h:aI}{b:ai}{o:cw}(hb:b∈fp)(e:h.get? b=aa o):(b,o)∈Qw fp h:=Pn.mpr ⟨b,hb,by rw[e];rfl⟩
theorem N6{fp:List ai}{h:aI}{p:ai×cw}(hp:p∈Qw fp h):p.1∈fp/\h.get? p.1=aa p.2:=by
 obtain⟨b,hb,e⟩:=Pn.mp hp;cases q:h.get? b with
 |none=>rw[q]at e;cases e
 |some o =>rw[q]at e;have e':(b,o)=p:=aB e;subst e';exact⟨hb,q⟩
theorem Inv.pinned{pins:k5i}{σ:St}{H:Hp}{s:aq}{fp:List ai}(I:Inv X pins σ H s)(hf:∀b∈fp,Ue X pins H b)(ho:∀b∈fp,∃o,s.heap.get? b=aa o/\∀v,o.data≠.cell v):Inv X (pins++Qw fp s.heap) σ H s :=
 I.pins_of λp hp=>(Pr.mp hp).elim (λz=>I.pin p (Xi _ z)) λz=>by obtain⟨hb,e⟩:=N6 z;obtain⟨f0,f1,f2,_⟩:=hf p.1 hb;obtain⟨o,e',d⟩:=ho p.1 hb;rw[e]at e';cases e';exact⟨e,f0,f1,f2,d⟩
theorem Inv.unpinned{pins pl:k5i}{σ:St}{H:Hp}{s:aq}(I:Inv X (pins++pl) σ H s):Inv X pins σ H s:=I.pins_of λp hp=>I.pin p (Xi _ (cg _ hp))
theorem jb0{iter:ar}{body:List aG}{wi:TI}{g:TG}{tb:TS}{pos:aL}(hp:cS (aF X.prog X.w) X.A X.env X.xe)(hc:X.calm=ag)(hi:PI X tg iter wi)(hg:PG X tg g)(hb:PSs X body tb)
  (hs:∀x,aQ iter X.env x=pure x:=by intro _;rfl):PS X (.For tg iter body [] pos) (jge wi g tb):=by
 intro pins s σ H D I h;refine wpAny_For (thn (hi pins s σ H _ I h) λv s1 h1=>thn h1 λitv s2 h2=>?_) hs;obtain⟨it,fp,tn,J,H2,e,I2,T,st2,f2,W,⟨m0,w0⟩,turn⟩:=h2;subst e;have stat:∀{H':Hp},(∀b∈fp,H' b=ah)->∀b∈fp,Ue X pins H' b:=λhn b hb=>⟨hn b hb,(f2 b hb).2⟩
 refine codeAny_forLoop_any (λn s'=>∃i σ' H',Inv X pins σ' H' s'/\tn i s'.heap/\(∀b∈fp,H' b=ah)/\W i n σ' H') ?_ m0 ⟨0,σ,H2,I2,st2,λb hb=>(f2 b hb).1,w0⟩;rintro n s3 ⟨i,σ3,H3,I3,st3,fr3,w3⟩;rcases turn i n σ3 H3 w3 with ⟨stop,qn⟩|⟨go,N,hN,step⟩
 .refine bL hp (thn (T.done X rfl rfl rfl hc i pins s3 σ3 H3 X.xe I3 (stat fr3) st3 stop) λr s4 ⟨hr,I4⟩=>?_);subst hr;exact dU ⟨σ3,H3,I4,qn⟩
 .refine bL hp (thn (T.item X rfl rfl rfl hc i pins s3 σ3 H3 X.xe I3 (stat fr3) st3 go) λr s4 ⟨u,hr,h4⟩=>?_);subst hr;refine bL hp (thn h4 λ_ s5 ⟨x,H5,I5,r5,y5,st5,fr5⟩=>?_);have I5':=I5.pinned (stat fr5) (T.obj _ _ st5);refine bL hp (thn (hg _ s5 σ3 H5 x u _ I5' r5 (step x H5 y5)) λ_ s6 ⟨σ6,H6,I6,q6⟩=>?_);refine bL hp (thn (hb _ s6 σ6 H6 _ I6 q6) λf s7 q7=>?_);have jX:∀{σ7:St}{H7:Hp},Inv X (pins++Qw fp s5.heap) σ7 H7 s7->N σ7 H7->∃m,m<n/\∃i σ' H',Inv X pins σ' H' s7/\tn i s7.heap/\(∀b∈fp,H' b=ah)/\W i m σ' H':=λ{σ7 H7} I7 n7=>by obtain⟨m',hm,w7⟩:=hN σ7 H7 n7;refine⟨m',hm,i+1,σ7,H7,I7.unpinned,T.keep _ _ _ st5 λb hb o e=>(I7.pin (b,o) (Xi _ (Xi _ (Qy hb e)))).1,λb hb=>?_,w7⟩;obtain⟨o,e,d⟩:=T.obj _ _ st5 b hb;exact(I7.pin (b,o) (Xi _ (Xi _ (Qy hb e)))).2.1
  cases f with
  |next=>obtain⟨σ7,H7,I7,n7⟩:=q7;exact jX I7 n7
  |cont=>obtain⟨σ7,H7,I7,n7⟩:=q7;exact jX I7 n7
  |brk=>obtain⟨σ7,H7,I7,q7⟩:=q7;exact⟨σ7,H7,I7.unpinned,q7⟩
  |ret v=>obtain⟨x7,σ7,H7,H8,I7,r7,x8,q7⟩:=q7;exact⟨x7,σ7,H7,H8,I7.unpinned,r7,x8,q7⟩
end
abbrev R2:=V->V->Hp->VK->Prop
def OpR(X:Cx)(f:aj->aj->iY aj)(r:R2):Prop :=
 ∀(pins:k5i) (s:aq) (σ:St) (H:Hp) (x y:V) (v u:aj) (Q:VK),Inv X pins σ H s->RelV x v->RelV y u->r x y H Q ->
  aC (aF X.prog X.w) X.A (f v u) (EP X pins σ Q) X.xe s
def Jg(X:Cx)(f:aj)(r:List V->Hp->VK->Prop):Prop :=
 ∀(pins:k5i) (s:aq) (σ:St) (H:Hp) (xs:List V) (us:List aj) (Q:VK),Inv X pins σ H s->Vals xs us->r xs H Q ->
  aC (aF X.prog X.w) X.A (call f us) (EP X pins σ Q) X.xe s
def tOp(r:R2)(ta tb:TE):TE:=λσ H Q=>ta σ H λx H1=>tb σ H1 λy H2=>r x y H2 Q
def rI(C:Int->Int->Prop)(g:Int->Int->V):R2:=λx y H Q=>∃i j,x=.int i/\y=.int j/\C i j/\Q (g i j) H
def rI0(g:Int->Int->V):R2:=λx y H Q=>∃i j,x=.int i/\y=.int j/\Q (g i j) H
section
variable{X:Cx}{a b c:ar}{ta tb tc:TE}{pos:aL}
theorem j61(ha:PE X a ta)(hb:PE X b tb){pins:k5i}{s:aq}{σ:St}{H:Hp}{R:V->V->Hp->Prop}(I:Inv X pins σ H s)
  (h:ta σ H λx H1=>tb σ H1 λy H2=>R x y H2) {Q:k5h} {f:aj->aj->iY aj}
  (hf:∀v u s2 x y H2,Inv X pins σ H2 s2->RelV x v->RelV y u->R x y H2->aC (aF X.prog X.w) X.A (f v u) Q X.xe s2) :
  aC (aF X.prog X.w) X.A (az a X.env) (λv s₁=>aC (aF X.prog X.w) X.A (az b X.env) (λu s₂=>aC (aF X.prog X.w) X.A (f v u) Q X.xe s₂) X.xe s₁) X.xe s:=by
 refine thn (ha pins s σ H _ I h) λv s1 ⟨x,H1,I1,r1,q1⟩=>?_;refine thn (hb pins s1 σ H1 _ I1 q1) λu s2 ⟨y,H2,I2,r2,q2⟩=>?_;exact hf v u s2 x y H2 I2 r1 r2 q2
theorem Vr{op:iZ}{r:R2}(ho:OpR X (b0 op) r)(ha:PE X a ta)(hb:PE X b tb):PE X (.BinOp a op b pos) (tOp r ta tb):=by intro pins s σ H Q I h;exact wpAny_BinOp (j61 ha hb I h λv u s2 x y H2 I2 rx ry q=>ho pins s2 σ H2 x y v u Q I2 rx ry q)
theorem opI{f:aj->aj->iY aj}{C:Int->Int->Prop}{g:Int->Int->Int}
  (rule:∀(i j:Int)(t u:jY)(s:aq)(Q:k5h)(E:k5h),C i j->Q (.int (g i j) s.toks) { s with toks:=s.toks+1 }->aC (aF X.prog X.w) X.A (f (.int i t) (.int j u)) Q E s) :
  OpR X f (rI C λi j=>.int (g i j)):=by
 intro pins s σ H x y v u Q I rx ry h;obtain⟨i,j,rfl,rfl,hc,q⟩:=h;obtain⟨t,rfl⟩:=rx;obtain⟨t',rfl⟩:=ry;exact rule i j t t' s _ _ hc ⟨.int (g i j),H,I.tok _,⟨_,rfl⟩,q⟩
theorem j04{f:aj->aj->iY aj}{g:Int->Int->Int}
  (rule:∀(i j:Int)(t u:jY)(s:aq)(Q:k5h)(E:k5h),Q (.int (g i j) s.toks) { s with toks:=s.toks+1 }->aC (aF X.prog X.w) X.A (f (.int i t) (.int j u)) Q E s) :
  OpR X f (rI0 λi j=>.int (g i j)):=by
 intro pins s σ H x y v u Q I rx ry h;obtain⟨i,j,rfl,rfl,q⟩:=h;obtain⟨t,rfl⟩:=rx;obtain⟨t',rfl⟩:=ry;exact rule i j t t' s _ _ ⟨.int (g i j),H,I.tok _,⟨_,rfl⟩,q⟩
theorem j05{f:aj->aj->iY aj}{g:Int->Int->Bool}
  (rule:∀(i j:Int)(t u:jY)(s:aq)(Q:k5h)(E:k5h),Q (.bool (g i j)) s->aC (aF X.prog X.w) X.A (f (.int i t) (.int j u)) Q E s) :
  OpR X f (rI0 λi j=>.bl (g i j)):=by
 intro pins s σ H x y v u Q I rx ry h;obtain⟨i,j,rfl,rfl,q⟩:=h;obtain⟨t,rfl⟩:=rx;obtain⟨t',rfl⟩:=ry;exact rule i j t t' s _ _ ⟨.bl (g i j),H,I,rfl,q⟩
def j0z(i j:Int):Prop:=0<=j/\j<=1000000/\i.natAbs<2^64
def j11(i j:Int):Prop:=(-(2^64)<i/\i<2^64)\/(-(2^64)<j/\j<2^64)
theorem j11.ok{i j:Int}(h:j11 i j):IntMulOk i j:=by
 rcases h with ⟨h1,h2⟩|⟨h1,h2⟩
 .exact .of_left (lL h1 h2)
 .exact .of_right (lL h1 h2)
theorem Ek(k:Nat):(0:Int)<=2^k:=by rw[two_pow_cast];exact iM _
theorem jbg:OpR X (b0 .Add) (rI0 λi j=>.int (i+j)):=j04 λ_ _ _ _ _ _ _ q=>add_int q
theorem jb8:OpR X (b0 .Sub) (rI0 λi j=>.int (i-j)):=j04 λ_ _ _ _ _ _ _ q=>sub_int q
theorem jbd:OpR X (b0 .Mult) (rI j11 λi j=>.int (i*j)):=opI λ_ _ _ _ _ _ _ hc q=>mul_int q hc.ok
theorem jbe:OpR X (b0 .Mod) (rI (λ_ j=>0<j) λi j=>.int (i%j)):=opI λi j _ _ _ _ _ hc q=>by have h1:(0:Int)<j:=hc;exact mod_int' (by omega) (by rw[Int.fmod_eq_emod_of_nonneg i (by omega)];exact q)
theorem jbc:OpR X (b0 .Pow) (rI j0z λi j=>.int (i^j.toNat)):=opI λ_ _ _ _ _ _ _ hc q=>pow_int_small hc.1 hc.2.1 hc.2.2 q
theorem jba:OpR X (b0 .LShift) (rI j0z λi j=>.int (i*2^j.toNat)):=opI λ_ _ _ _ _ _ _ hc q=>lshift_int_small hc.1 hc.2.1 hc.2.2 q
theorem jb9:OpR X (b0 .RShift) (rI (λ_ j=>0<=j) λi j=>.int (i/2^j.toNat)):=opI λi j _ _ _ _ _ hc q =>rshift_int hc (by rw[fZ i (Ek _)];exact q)
theorem jbf:OpR X (b0 .BitAnd) (rI0 λi j=>.int (Builtin.bitAnd i j)):=j04 λ_ _ _ _ _ _ _ q=>and_int q
theorem jb7:OpR X (b0 .BitXor) (rI0 λi j=>.int (Builtin.bitXor i j)):=j04 λ_ _ _ _ _ _ _ q=>xor_int q
end
noncomputable def Ot:V->V->Bool
 |.non,.non=>ag|.non,.int _=>ag|.int _,.non=>ag|.non,.bl _=>ag|.bl _,.non=>ag|.non,.str _=>ag|.str _,.non=>ag
 |.int _,.int _=>ag|.bl _,.bl _=>ag|.str _,.str _=>ag|.byt _,.byt _=>ag
 |.int _,.str _=>ag|.str _,.int _=>ag|.bl _,.str _=>ag|.str _,.bl _=>ag
 |_,_=>ae
def rEq:R2:=λx y H Q=>Ot x y=ag/\Q (.bl (decide (x=y))) H
def rNe:R2:=λx y H Q=>Ot x y=ag/\Q (.bl (!decide (x=y))) H
theorem Iz{i j:Int}:decide (V.int i=V.int j)=(i==j):=by rw[dD];simp
theorem j2m{i j:Bool}:decide (V.bl i=V.bl j)=(i==j):=by rw[dD];simp
theorem Iw{i j:ao}:decide (V.str i=V.str j)=(i==j):=by rw[dD];simp
theorem Ea{i j:Array UInt8}:decide (V.byt i=V.byt j)=(i.toList==j.toList):=by rw[dD];cases i;cases j;simp
section
variable{X:Cx}{a b c:ar}{ta tb tc:TE}{pos:aL}
theorem jx{pins:k5i}{σ:St}{H:Hp}{s:aq}{Q:VK}{k k':Bool}(I:Inv X pins σ H s)(q:Q (.bl k) H)(e:k=k'):EP X pins σ Q (.bool k') s:=by subst e;exact⟨.bl k,H,I,rfl,q⟩
theorem j6s:OpR X (aX .Eq) rEq:=by
 intro pins s σ H x y v u Q I rx ry h;obtain⟨hs,q⟩:=h;cases x with
 |non =>
  cases rx;cases y with
  |non=>cases ry;exact kW (jx I q (by simp))
  |bl j=>cases ry;exact kY (jx I q (by simp))
  |int j=>obtain⟨t',rfl⟩:=ry;exact kX (jx I q (by simp))
  |str j=>obtain⟨t',rfl⟩:=ry;exact kU (jx I q (by simp))
  |_=>exact absurd (show ae=ag from hs) xu
 |bl i =>
  cases rx;cases y with
  |non=>cases ry;exact l5 (jx I q (by simp))
  |bl j=>cases ry;exact eq_bool (jx I q j2m)
  |str j=>obtain⟨t',rfl⟩:=ry;exact ky (jx I q (by simp))
  |_=>exact absurd (show ae=ag from hs) xu
 |int i =>
  obtain⟨t,rfl⟩:=rx;cases y with
  |non=>cases ry;exact kZ (jx I q (by simp))
  |int j=>obtain⟨t',rfl⟩:=ry;exact eq_int (jx I q Iz)
  |str j=>obtain⟨t',rfl⟩:=ry;exact kx (jx I q (by simp))
  |_=>exact absurd (show ae=ag from hs) xu
 |str i =>
  obtain⟨t,rfl⟩:=rx;cases y with
  |non=>cases ry;exact kT (jx I q (by simp))
  |bl j=>cases ry;exact ku (jx I q (by simp))
  |int j=>obtain⟨t',rfl⟩:=ry;exact kq (jx I q (by simp))
  |str j=>obtain⟨t',rfl⟩:=ry;exact eq_str (jx I q Iw)
  |_=>exact absurd (show ae=ag from hs) xu
 |byt i =>
  obtain⟨t,rfl⟩:=rx;cases y with
  |byt j=>obtain⟨t',rfl⟩:=ry;exact W.eq_bytes (jx I q Ea)
  |_=>exact absurd (show ae=ag from hs) xu
 |_=>cases y<;>exact absurd (show ae=ag from hs) xu
theorem j01:OpR X (aX .NotEq) rNe:=by
 intro pins s σ H x y v u Q I rx ry h;obtain⟨hs,q⟩:=h;cases x with
 |non =>
  cases rx;cases y with
  |non=>cases ry;exact kN (jx I q (by simp))
  |bl j=>cases ry;exact kP (jx I q (by simp))
  |int j=>obtain⟨t',rfl⟩:=ry;exact kO (jx I q (by simp))
  |str j=>obtain⟨t',rfl⟩:=ry;exact kM (jx I q (by simp))
  |_=>exact absurd (show ae=ag from hs) xu
 |bl i =>
  cases rx;cases y with
  |non=>cases ry;exact kS (jx I q (by simp))
  |bl j=>cases ry;exact ne_bool (jx I q (congrArg not j2m))
  |str j=>obtain⟨t',rfl⟩:=ry;exact kn (jx I q (by simp))
  |_=>exact absurd (show ae=ag from hs) xu
 |int i =>
  obtain⟨t,rfl⟩:=rx;cases y with
  |non=>cases ry;exact kQ (jx I q (by simp))
  |int j=>obtain⟨t',rfl⟩:=ry;exact ne_int (jx I q (congrArg not Iz))
  |str j=>obtain⟨t',rfl⟩:=ry;exact kl (jx I q (by simp))
  |_=>exact absurd (show ae=ag from hs) xu
 |str i =>
  obtain⟨t,rfl⟩:=rx;cases y with
  |non=>cases ry;exact kL (jx I q (by simp))
  |bl j=>cases ry;exact ki (jx I q (by simp))
  |int j=>obtain⟨t',rfl⟩:=ry;exact kg (jx I q (by simp))
  |str j=>obtain⟨t',rfl⟩:=ry;exact ne_str (jx I q (congrArg not Iw))
  |_=>exact absurd (show ae=ag from hs) xu
 |byt i =>
  obtain⟨t,rfl⟩:=rx;cases y with
  |byt j=>obtain⟨t',rfl⟩:=ry;exact W.ne_bytes (jx I q (congrArg not Ea))
  |_=>exact absurd (show ae=ag from hs) xu
 |_=>cases y<;>exact absurd (show ae=ag from hs) xu
theorem j6o:OpR X (aX .Lt) (rI0 λi j=>.bl (decide (i<j))):=j05 λ_ _ _ _ _ _ _ q=>lt_int q
theorem j6p:OpR X (aX .LtE) (rI0 λi j=>.bl (decide (i<=j))):=j05 λ_ _ _ _ _ _ _ q=>le_int q
theorem j6q:OpR X (aX .Gt) (rI0 λi j=>.bl (decide (j<i))):=j05 λ_ _ _ _ _ _ _ q=>gt_int q
theorem j6r:OpR X (aX .GtE) (rI0 λi j=>.bl (decide (j<=i))):=j05 λ_ _ _ _ _ _ _ q=>ge_int q
theorem Bv:OpR X (aX .Lt) (λx y H Q=>∃i j,x=.str i/\y=.str j/\Q (.bl (decide (i.cps.toList<j.cps.toList))) H):=by intro pins s σ H x y v u Q I rx ry h;obtain⟨i,j,rfl,rfl,q⟩:=h;obtain⟨t,rfl⟩:=rx;obtain⟨t',rfl⟩:=ry;exact lt_str (jx I q rfl)
theorem Bw:OpR X (aX .In) (λx y H Q=>∃i j,x=.str i/\y=.str j/\Q (.bl (!(fh j i 0 j.length 1).isEmpty)) H):=by intro pins s σ H x y v u Q I rx ry h;obtain⟨i,j,rfl,rfl,q⟩:=h;obtain⟨t,rfl⟩:=rx;obtain⟨t',rfl⟩:=ry;exact in_str (jx I q rfl)
theorem zb(b:ar){op:gc}(h:op≠.In:=by decide)(h2:op≠.NotIn:=by decide):aN op b=ae:=by
 have e1:(op==CmpOp.In)=ae:=by cases op<;>first|rfl|exact absurd rfl h
 have e2:(op==CmpOp.NotIn)=ae:=by cases op<;>first|rfl|exact absurd rfl h2
 cases b<;>simp[aN,e1,e2]
theorem Ju{op:gc}{r:R2}(ho:OpR X (aX op) r)(ha:PE X a ta)(hb:PE X b tb)(hm:aN op b=ae):PE X (.Compare a [op] [b] pos) (tOp r ta tb):=by intro pins s σ H Q I h;exact ly (j61 ha hb I h λv u s2 x y H2 I2 rx ry q=>ho pins s2 σ H2 x y v u Q I2 rx ry q) hm
def jdy(t:TE):TT:=λσ H Q=>t σ H λx H'=>∃k,x=.bl k/\Q k H'
theorem vq{op:gc}{r:R2}(ho:OpR X (aX op) r)(ha:PE X a ta)(hb:PE X b tb)(hm:aN op b=ae):PT X (.Compare a [op] [b] pos) (jdy (tOp r ta tb)):=by
 intro pins s σ H Q I h;refine iO (thn (ha pins s σ H _ I h) λv s1 ⟨x,H1,I1,r1,q1⟩=>thn (hb pins s1 σ H1 _ I1 q1) λu s2 ⟨y,H2,I2,r2,q2⟩ =>
  thn (ho pins s2 σ H2 x y v u _ I2 r1 r2 q2) λc s3 ⟨z,H3,I3,r3,k,e,q3⟩=>?_) hm
 subst e;cases r3;exact bN ⟨H3,I3,q3⟩
theorem Ye:(au:Nat)<2^63:=by rw[aW];decide
theorem j03:OpR X (b0 .Add) (λx y H Q=>∃i j,x=.str i/\y=.str j/\i.length+j.length<=au/\Q (.str (i++j)) H):=by intro pins s σ H x y v u Q I rx ry h;obtain⟨i,j,rfl,rfl,hz,q⟩:=h;obtain⟨t,rfl⟩:=rx;obtain⟨t',rfl⟩:=ry;exact add_str (λt' tk=>⟨.str (i++j),H,I.tok _,⟨_,rfl⟩,q⟩) hz
theorem vals1{x:V}{us:List aj}(r:Vals [x] us):∃u,us=[u]/\RelV x u:=by
 cases r with
 |cons r1 r2=>cases r2;exact⟨_,rfl,r1⟩
theorem vals2{x y:V}{us:List aj}(r:Vals [x,y] us):∃u w',us=[u,w']/\RelV x u/\RelV y w':=by
 cases r with
 |cons r1 r2 =>
  cases r2 with
  |cons r3 r4=>cases r4;exact⟨_,_,rfl,r1,r3⟩
theorem j32 (hc:X.calm=ag):Jg X (.builtin "max") (λxs H Q=>∃i j,xs=[.int i,.int j]/\Q (.int (if j>i then j else i)) H):=by
 intro pins s σ H xs us Q I r h;obtain⟨i,j,rfl,q⟩:=h;obtain⟨u,w',rfl,⟨t,rfl⟩,⟨t',rfl⟩⟩:=vals2 r;refine max_two_ints (I.ok.hd hc) λh' tk k=>⟨_,H,I.kept k,?_,q⟩
 by_cases hj:j>i
 .rw[if_pos hj,if_pos hj];exact⟨_,rfl⟩
 .rw[if_neg hj,if_neg hj];exact⟨_,rfl⟩
theorem j30 (hc:X.calm=ag):Jg X (.builtin "min") (λxs H Q=>∃i j,xs=[.int i,.int j]/\Q (.int (if j<i then j else i)) H):=by
 intro pins s σ H xs us Q I r h;obtain⟨i,j,rfl,q⟩:=h;obtain⟨u,w',rfl,⟨t,rfl⟩,⟨t',rfl⟩⟩:=vals2 r;refine min_two_ints (I.ok.hd hc) λh' tk k=>⟨_,H,I.kept k,?_,q⟩
 by_cases hj:j<i
 .rw[if_pos hj,if_pos hj];exact⟨_,rfl⟩
 .rw[if_neg hj,if_neg hj];exact⟨_,rfl⟩
theorem j35:Jg X (.type "int") (λxs H Q=>(∃i,xs=[.int i]/\Q (.int i) H)\/∃k,xs=[.bl k]/\Q (.int (if k then 1 else 0)) H):=by
 intro pins s σ H xs us Q I r h;rcases h with ⟨i,rfl,q⟩|⟨k,rfl,q⟩
 .obtain⟨u,rfl,t,rfl⟩:=vals1 r;exact call_int_int ⟨.int i,H,I,⟨_,rfl⟩,q⟩
 .obtain⟨u,rfl,r1⟩:=vals1 r;cases r1;exact call_int_bool ⟨.int (if k then 1 else 0),H,I.tok _,⟨_,rfl⟩,q⟩
end
structure ObjM(h:aI)(x dx C:ai)(mA:k5j):Prop where
 obj:h.get? x=aa (W.instObj C dx)
 ns:h.Ns1 dx mA
 ne:dx≠x
theorem j23{h:aI}{dx:ai}{mA:k5j}(n:h.Ns1 dx mA):∃od,h.get? dx=aa od/\∀name,W.lookIn name od=aa (mA name):=by
 obtain⟨o,es,ep,ho,hd,hk,_,hm⟩:=n;refine⟨o,ho,λname=>?_⟩;have e:=hm name;unfold nsFind findBy at e;rw[<-Array.find?_toList]at e;unfold W.lookIn;rw[hd];dsimp only;split
 .rename_i y q;rw[q]at e;exact congrArg aa e
 .rename_i q;rw[q]at e;have a:es.toList.any (·.refKey)=ae:=by rw[eZ];intro y hy;obtain⟨z,t,hkey⟩:=hk y (Array.mem_toList_iff.mp hy);simp[DictEntry.refKey,hkey]
  have a':¬es.toList.any (·.refKey)=ag:=by rw[a];exact xu
  rw[if_neg a'];exact congrArg aa e
theorem ObjM.look{h:aI}{x dx C:ai}{mA:k5j}(I:ObjM h x dx C mA):∃od,PySem.W.InstAt h x (W.instObj C dx) C (aa od)/\∀name,W.lookIn name od=aa (mA name) :=
 let ⟨od,ho,hl⟩:=j23 I.ns
 ⟨od,⟨I.obj,rfl,rfl,ho⟩,hl⟩
section
variable{prog:av}{w:aA}{A:aE}{E:k5h}{s:aq}{K:k5g}{x dx C f:ai}{mA:k5j}{name:ao}{v:aj}
theorem j94{expr:Bool}{Q:k5h}(X:K.In s.heap)(I:ObjM s.heap x dx C mA)(hg:W.plainGet K C name=ag)(hh:W.hasDictIn K C=ag)
  (ha:W.findIn K (.ref C) name=aa ah) (hv:mA name=aa v) (hv':W.handedIn v=ag) (h:Q v { s with toks:=s.toks+1 }) :
  aC (aF prog w) A (getAttr (.ref x) name expr) Q E s:=by
 obtain⟨od,J,hl⟩:=I.look;exact W.get_value X J (W.plainGet_of hg).1 (W.findObj_own hh ha rfl (by rw[hl,hv])) hv' h
theorem j5h{pl:iY Bool}{Q:aj×List aj->aq->Prop}(X:K.In s.heap)(I:ObjM s.heap x dx C mA)(hg:W.plainGet K C name=ag)
  (hf:W.findIn K (.ref C) name=aa (aa (.ref f))) (ht:W.isFn K (.ref f)=ag) (hv:mA name=ah) (h:Q (.ref f,[.ref x]) s) :
  aC (aF prog w) A (cR (.ref x) name pl) Q E s:=by
 obtain⟨od,J,hl⟩:=I.look;exact W.method_fn X J (W.plainGet_of hg).1 (W.plainGet_of hg).2 hf (beq_iff_eq.mp ht) (by show(W.lookIn name od).map (·.isSome)=aa ae;rw[hl,hv];rfl) h
theorem j7p{ns:List ao}{Q:Unit->aq->Prop}(X:K.In s.heap)(I:ObjM s.heap x dx C mA)
  (hs:W.findIn K (.ref C) "__setattr__" = aa (aa (.builtin "object.__setattr__"))) (hp:W.plainOver K C=ag) (ht:W.takerIn K C name=aa ah) (hh:W.hasDictIn K C=ag)
  (hw:gj mA ns) (hsz:ns.length<=au)
  (h:∀h',ObjM h' x dx C (λy=>if y=name then aa v else mA y)->eW dx s.heap h'->Q () { s with heap:=h',toks:=s.toks+2 }) :
  aC (aF prog w) A (setAttr (.ref x) name v) Q E s:=by
 obtain⟨od,J,hl⟩:=I.look;refine W.set_plain X J hs (W.osa_open (s:={ s with toks:=s.toks+1 }) (r:=ah) X J hp ht λb=>?_);obtain⟨cd,hc,hd'⟩:=W.any_some hh;have hx:s.heap.get? x=aa ⟨.ref C,aa dx,.plain,#[]⟩:=I.obj;refine aw (aH (aw (aw (wpAny_loadPart hx (aw (PySem.W.Looks.here (s:={ s with toks:=s.toks+1 }) (W.looks_clsIn X hc) ?_))))));rw[hd'];refine aH (a:=aa dx) (aw (aH (aw ?_)));refine wpAny_nsSet1 (s:={ s with toks:=s.toks+1 }) I.ns λh' hn2 hs2=>?_;obtain⟨oD,esD,epD,hoD,hdD,hcD⟩:=hn2.count (PySem.Within.cons name v hw);refine aw (wpAny_lookBehind hoD (by rw[hdD];exact pastItsLine_dict (Xf hcD (by rw[xg];omega))) ?_);exact aH (h _ ⟨(hs2.2 _ (ba I.ne)).trans I.obj,hn2,I.ne⟩ hs2)
theorem j4o{R:eO->aq->Prop}{vs:List aj}{kw:List (ao×aj)}(X:K.In s.heap)(hm:W.makesIn K C=ag)
  (hi:W.findIn K (.ref C) "__init__" = aa (aa (.ref f))) (hf:W.typeIn K (.ref f)=aa (.type "function"))
  (h:bS (aF prog w) (A.under (.builtin "type.__call__" ⟨.ref C::vs,kw⟩)) (.call (.ref f) ⟨.ref (s.heap.objs.size+1)::vs,kw⟩) (PySem.W.InitBack (s.heap.objs.size+1) R)
   { s with heap:=(s.heap.push W.emptyDict).push (W.instObj C s.heap.objs.size) }) :
  bS (aF prog w) A (.call (.ref C) ⟨vs,kw⟩) R s:=by
 obtain⟨hh,g,d,t,os⟩:=s;exact W.make_core (W.makes_of X hm) (W.looks_findIn X hi) (λself=>W.bind_fn X self hf) (.inl rfl) h
end
noncomputable def zg(f:ao)(v:V):List (ao×V)->List (ao×V)
 |[]=>[(f,v)]
 |(g,x)::r=>if g=f then(g,v)::r else(g,x)::zg f v r
theorem Wx(f g:ao)(v:V):∀fs:List (ao×V),(zg f v fs).lookup g=if g=f then aa v else fs.lookup g
 |[]=>by
  show cj g [(f,v)]=_;by_cases h:g=f
  .have hb:(g==f)=ag:=beq_iff_eq.mpr h;simp only[cj,hb,if_pos h]
  .have hb:(g==f)=ae:=beq_eq_false_iff_ne.mpr h;simp only[cj,hb,if_neg h]
 |(k,x)::r=>by
  have ih:=Wx f g v r;rw[show zg f v ((k,x)::r)=(if k=f then(k,v)::r else(k,x)::zg f v r)from rfl];by_cases hk:k=f
  .rw[if_pos hk];by_cases h:g=k
   .have hb:(g==k)=ag:=beq_iff_eq.mpr h;simp only[cj,hb,if_pos (h.trans hk)]
   .have hb:(g==k)=ae:=beq_eq_false_iff_ne.mpr h;simp only[cj,hb,if_neg (λe:g=f=>h (e.trans hk.symm))]
  .rw[if_neg hk];by_cases h:g=k
   .have hb:(g==k)=ag:=beq_iff_eq.mpr h;simp only[cj,hb,if_neg (λe:g=f=>hk (h.symm.trans e))]
   .have hb:(g==k)=ae:=beq_eq_false_iff_ne.mpr h;simp only[cj,hb];exact ih
theorem Uu(f:ao)(v:V):∀fs:List (ao×V),f∈(zg f v fs).map (·.1)/\∀g,g∈fs.map (·.1)->g∈(zg f v fs).map (·.1)
 |[]=>⟨by simp[zg],λg h=>by simp at h⟩
 |(k,x)::r=>by
  obtain⟨i1,i2⟩:=Uu f v r;rw[show zg f v ((k,x)::r)=(if k=f then(k,v)::r else(k,x)::zg f v r)from rfl];by_cases hk:k=f
  .rw[if_pos hk];subst hk;exact⟨by simp,λg h=>by simpa using h⟩
  .rw[if_neg hk];refine⟨?_,λg h=>?_⟩
   .rw[xx];exact kj _ i1
   .rw[xx]at h ⊢;rcases xf.mp h with e|e
    .exact xf.mpr (.inl e)
    .exact kj _ (i2 g e)
theorem Wy(f:ao)(v:V):∀fs:List (ao×V),(zg f v fs).length<=fs.length+1
 |[]=>by simp[zg]
 |(k,x)::r=>by
  have ih:=Wy f v r;rw[show zg f v ((k,x)::r)=(if k=f then(k,v)::r else(k,x)::zg f v r)from rfl];by_cases hk:k=f
  .rw[if_pos hk,xg,xg];omega
  .rw[if_neg hk,xg,xg];omega
theorem Y4.some_of{v:V}{o:Option aj}(r:Y4 (aa v) o):∃u,o=aa u/\RelV v u:=by
 cases o with
 |none=>exact(show False from r).elim
 |some u=>exact⟨u,rfl,r⟩
theorem Y4.none_of{o:Option aj}(r:Y4 ah o):o=ah:=by
 cases o with
 |none=>rfl
 |some u=>exact(show False from r).elim
theorem j2h{v:V}{u:aj}(r:RelV v u):W.handedIn u=ag:=by
 cases v with
 |non=>cases(show u=bp from r);rfl
 |bl b=>cases(show u=bE b from r);rfl
 |int i=>obtain⟨t,e⟩:=(show ∃t,u=bj i t from r);cases e;rfl
 |str x=>obtain⟨t,e⟩:=(show ∃t,u=bh x t from r);cases e;rfl
 |byt b=>obtain⟨t,e⟩:=(show ∃t,u=jR b t from r);cases e;rfl
 |flt b=>obtain⟨t,e⟩:=(show ∃t,u=jQ b t from r);cases e;rfl
 |ref a=>cases(show u=aK a from r);rfl
 |ty n=>cases(show u=de n from r);rfl
section
variable{P:av}{w:aA}{H H':Hp}{h h':aI}{a C dx:ai}{fs fs':List (ao×V)}
theorem Be(hok:HOk P w H h)(e:H a=aa (.ins C dx fs)):∃mA,ObjM h a dx C mA/\(∀f,Y4 (fs.lookup f) (mA f))/\gj mA (fs.map (·.1))/\fs.length<=1000/\H dx=aa (.own a):=by
 obtain⟨d,z,ne,ob,mA,n,r,q⟩:=(show jo P w H h a (.ins C dx fs)from hok a _ e)
 exact⟨mA,⟨ob,n,ne⟩,r,q,z,d⟩
end
structure Cls(K:k5g)(C:ai):Prop where
 pg:W.plainGet K C cB=ag
 hd:W.hasDictIn K C=ag
 po:W.plainOver K C=ag
 sa:W.findIn K (.ref C) "__setattr__" = aa (aa (.builtin "object.__setattr__"))
theorem Cls.get{K:k5g}{C:ai}(c:Cls K C)(f:ao):W.plainGet K C f=ag:=c.pg
def vh(K:k5g)(C:ai)(f:ao):Prop:=W.findIn K (.ref C) f=aa ah
theorem vh.taker{K:k5g}{C:ai}{f:ao}(n:vh K C f):W.takerIn K C f=aa ah:=by unfold W.takerIn;rw[show W.findIn K (.ref C) f=aa ah from n];rfl
structure Meth(K:k5g)(C:ai)(m:ao)(f:ai):Prop where
 at_:W.findIn K (.ref C) m=aa (aa (.ref f))
 fn:W.isFn K (.ref f)=ag
 kp:W.keepIn K (.ref f)=ag
section
variable{X:Cx}{pins:k5i}{σ:St}{H:Hp}{s:aq}{a C dx:ai}{fs:List (ao×V)}{f:ao}{v:V}{A:aE}{E:k5h}
theorem j0g{b:Bool}{Q:k5h}(I:Inv X pins σ H s)(e:H a=aa (.ins C dx fs))(c:Cls X.K C)(n:vh X.K C f)(l:fs.lookup f=aa v)
  (h:∀u s',Inv X pins σ H s'->RelV v u->Q u s'):aC (aF X.prog X.w) A (getAttr (.ref a) f b) Q E s:=by
 obtain⟨mA,O,r,_,_,_⟩:=Be I.hok e;obtain⟨u,hu,ru⟩:=Y4.some_of (v:=v) (o:=mA f) (by rw[<-l];exact r f);exact j94 I.kIn O (c.get f) c.hd n hu (j2h ru) (h u _ (I.tok _) ru)
theorem U0{m:ao}{g:ai}{pl:iY Bool}{Q:aj×List aj->aq->Prop}(I:Inv X pins σ H s)(e:H a=aa (.ins C dx fs))(c:Cls X.K C)(k:Meth X.K C m g)(l:fs.lookup m=ah)
  (h:Q (.ref g,[.ref a]) s):aC (aF X.prog X.w) A (cR (.ref a) m pl) Q E s:=by
 obtain⟨mA,O,r,_,_,_⟩:=Be I.hok e;have hn:mA m=ah:=Y4.none_of (by rw[<-l];exact r m);exact j5h I.kIn O (c.get m) k.at_ k.fn hn h
theorem Et{y:V}{u:aj}{Q:Unit->aq->Prop}(I:Inv X pins σ H s)(e:H a=aa (.ins C dx fs))(c:Cls X.K C)(n:vh X.K C f)(hl:fs.length<1000)(ry:RelV y u)
  (h:∀s',Inv X pins σ (upd H a (.ins C dx (zg f y fs))) s'->Q () s'):aC (aF X.prog X.w) A (setAttr (.ref a) f u) Q E s:=by
 obtain⟨mA,O,r,wi,_,ho⟩:=Be I.hok e;have hz:(fs.map (·.1)).length<=au:=by rw[X5,aW];omega
 refine j7p I.kIn O c.sa c.po n.taker c.hd wi hz λh' O' sb=>h _ ?_;have hd:∃o,h'.get? dx=aa o:=let ⟨o,_,_,e',_⟩:=O'.ns;⟨o,e'⟩;refine I.write (x:=a) (e:=dx) (by rw[e];exact True.intro) (.inr ho) (λb q hb z=>(sb.2 b hb).trans z) hd ?_;refine⟨by rw[jj O.ne];exact ho,?_,O.ne,O'.obj,_,O'.ns,λg=>?_,λg hg=>?_⟩
 .have:=Wy f y fs;omega
 .show Y4 ((zg f y fs).lookup g) (if g=f then aa u else mA g);rw[Wx];by_cases q:g=f
  .rw[if_pos q,if_pos q];exact ry
  .rw[if_neg q,if_neg q];exact r g
 .by_cases q:g=f
  .rw[q];exact(Uu f y fs).1
  .refine(Uu f y fs).2 g (wi g λz=>hg ?_);show(if g=f then aa u else mA g)=ah;rw[if_neg q];exact z
theorem Inv.made(I:Inv X pins σ H s):Inv X pins σ (upd (upd H s.heap.objs.size (.own (s.heap.objs.size+1))) (s.heap.objs.size+1) (.ins C s.heap.objs.size []))
  { s with heap:=(s.heap.push W.emptyDict).push (W.instObj C s.heap.objs.size) }:=by
 have e1:(s.heap.push W.emptyDict).get? s.heap.objs.size=aa W.emptyDict:=Xc s.heap rfl;have e2:((s.heap.push W.emptyDict).push (W.instObj C s.heap.objs.size)).get? (s.heap.objs.size+1)=aa (W.instObj C s.heap.objs.size):=by
  have:=Xc (s.heap.push W.emptyDict) (o:=W.instObj C s.heap.objs.size) rfl
  rwa [Pz]at this
 have e3:(s.heap.push W.emptyDict).Ns s.heap.objs.size (λ_=>ah):=⟨W.emptyDict,#[],_,e1,rfl,(λe he=>absurd he (by simp)),λ_=>rfl⟩
 have I1:=I.laid (a:=s.heap.objs.size) (o:=.own (s.heap.objs.size+1)) (h':=s.heap.push W.emptyDict) (t':=s.toks) (λb u q=>xn _ q) (X3 _) ⟨_,e1⟩;refine I1.laid (a:=s.heap.objs.size+1) (o:=.ins C s.heap.objs.size []) (t':=s.toks) (λb u q=>xn _ q) (kJ (Pz _ _)) ?_;have ne:s.heap.objs.size≠s.heap.objs.size+1:=Xa (Pj _);refine⟨by rw[jj ne,je],bM _,ne,e2,λ_=>ah,(Heap.Ns1.of_empty e3).at λo q=>xn _ q,λ_=>True.intro,λy hy=>absurd rfl hy⟩
theorem j9m{prog:av}{w:aA}{env:cf}{e:ar}{f:ao}{pos:aL}{s:aq}{Q:k5h}(hb:aS e f env (az e env)=az e env)
  (h:aC (aF prog w) A (az e env) (λo s₁=>aC (aF prog w) A (getAttr o f ag) Q E s₁) E s):aC (aF prog w) A (az (.Attribute e f pos) env) Q E s :=
 Attribute_any_ h (by rw[arm_eval_Attribute,hb])
end
def jgf(K:k5g)(ta:TE)(f:ao):TE:=λσ H Q=>ta σ H λx H1=>∃a C dx fs v,x=.ref a/\H1 a=aa (.ins C dx fs)/\Cls K C/\vh K C f/\fs.lookup f=aa v/\Q v H1
def jgp(K:k5g)(ta tv:TE)(f:ao):TS:=λD σ H=>tv σ H λy H1=>ta σ H1 λx H2=>∃a C dx fs,x=.ref a/\H2 a=aa (.ins C dx fs)/\Cls K C/\vh K C f/\fs.length<1000 /\
 D.nx σ (upd H2 a (.ins C dx (zg f y fs)))
section
variable{X:Cx}{o e value:ar}{f:ao}{pos pos' tpos:aL}{ta tv:TE}
theorem Vf(he:PE X e ta)(hb:aS e f X.env (az e X.env)=az e X.env):PE X (.Attribute e f pos) (jgf X.K ta f):=by intro pins s σ H Q I h;refine j9m hb (thn (he pins s σ H _ I h) λu s1 ⟨x,H1,I1,rx,a,C,dx,fs,v,ex,ea,c,n,l,q⟩=>?_);subst ex;obtain rfl:u=aK a:=rx;exact j0g I1 ea c n l λu' s2 I2 ru=>⟨v,H1,I2,ru,q⟩
theorem Dy(ha:PE X o ta)(hv:PE X value tv)(hs:aO value (aa (.Attribute o f pos')) pos.line X.env=pure ae):PS X (.Assign [.Attribute o f pos'] value pos) (jgp X.K ta tv f):=by intro pins s σ H D I h;refine plainObj_wpAny_Assign_Attribute (thn (hv pins s σ H _ I h) λu s1 ⟨y,H1,I1,ry,q⟩=>thn (ha pins s1 σ H1 _ I1 q) λov s2 ⟨x,H2,I2,rx,a,C,dx,fs,ex,ea,c,n,l,q2⟩=>?_) hs;subst ex;obtain rfl:ov=aK a:=rx;exact Et I2 ea c n l ry λs3 I3=>⟨σ,_,I3,q2⟩
end
structure Room(k:Nat)(A:aE):Prop where
 hd:A.handled=ah
 dp:A.depth+3*k+5<eK
 un:A.units+16*k+200<aY
 gd:A.guards=aa []
theorem Room.mono{j k:Nat}{A:aE}(r:Room k A)(h:j<=k):Room j A:=⟨r.hd,by have:=r.dp;omega,by have:=r.un;omega,r.gd⟩
theorem Room.deeper{k:Nat}{A:aE}(r:Room (k+1) A)(env:cf):Room k (A.deeper env) :=
 ⟨r.hd,by have:=r.dp;show A.depth+1+3*k+5<_;omega,by have:=r.un;show A.units+3+16*k+200<_;omega,r.gd⟩
theorem j08 {A:aE} {C:ai} {us:List aj} {kw:List (ao×aj)}:(A.under (.builtin "type.__call__" ⟨.ref C::us,kw⟩)).depth=A.depth+1:=by first|rfl|simp[eC,Code.weight,Code.isCreation,jT,Code.isCaller,kz,gk,guardIds]
theorem j07 {A:aE} {C:ai} {us:List aj} {kw:List (ao×aj)}:(A.under (.builtin "type.__call__" ⟨.ref C::us,kw⟩)).units=A.units+1:=by first|rfl|simp[eC,Code.cUnits,kz,gk]
theorem Room.make {k:Nat} {A:aE} (r:Room (k+1) A) (C:ai) (us:List aj) (kw:List (ao×aj)):Room k (A.under (.builtin "type.__call__" ⟨.ref C::us,kw⟩)) :=
 ⟨r.hd,by have:=r.dp;rw[j08];omega,by have:=r.un;rw[j07];omega,by first|exact r.gd|(simp[eC,Code.guards,jT,guardIds,pushGuards];exact r.gd)⟩
theorem Room.depth{k:Nat}{A:aE}(r:Room k A):A.depth<eK:=by have:=r.dp;omega
def ja5:TA:=λ_ H Q=>Q [] H
def je3(ta:TE)(tr:TA):TA:=λσ H Q=>ta σ H λx H1=>tr σ H1 λxs H2=>Q (x::xs) H2
section
variable{X:Cx}{e:ar}{es:List ar}{te:TE}{t:TA}{pos:aL}
theorem jl:PA X [] ja5:=λ_ _ _ _ H Q I h=>ip ⟨[],H,I,.nil,h⟩
theorem ji(ha:PE X e te)(hr:PA X es t)(hs:af (e::es) X.env=(ae,az e X.env)::af es X.env:=by rfl):PA X (e::es) (je3 te t):=by intro pos pins s σ H Q I h;rw[hs];show aC _ _ (spliced ((ae,az e X.env)::aJ pos (af es X.env))) _ _ s;refine hV (thn (ha pins s σ H _ I h) λu s1 ⟨x,H1,I1,r1,q1⟩=>?_);exact thn (hr pos pins s1 σ H1 _ I1 q1) λus s2 ⟨xs,H2,I2,r2,q2⟩=>⟨x::xs,H2,I2,.cons r1 r2,q2⟩
def jg7(t:TA):TE:=λσ H Q=>t σ H λxs H1=>xs.length<=au/\∀p,H1 p=ah->Q (.ref p) (upd H1 p (.tup xs))
def jgb(t:TA):TE:=λσ H Q=>t σ H λxs H1=>xs.length<=au/\∀p,H1 p=ah->Q (.ref p) (upd H1 p (.lst xs))
theorem Mm{x1}(h:PA X es t):PE X (.Tuple es x1 pos) (jg7 t):=by intro pins s σ H Q I hq;refine wpAny_Tuple_spliced (thn (h pos pins s σ H _ I hq) λus s1 ⟨xs,H1,I1,r,z,q⟩=>⟨by rw[<-r.length];exact z,?_⟩);have hf:H1 s1.heap.objs.size=ah:=I1.hok.fresh (X3 _);refine⟨.ref s1.heap.objs.size,upd H1 s1.heap.objs.size (.tup xs),I1.laid (t':=s1.toks) (λb u e=>xn _ e) (X3 _) ?_,rfl,q _ hf⟩;exact⟨z,us,r,⟨_,Xc _ rfl,rfl,_,rfl⟩,Zy.new _ _⟩
theorem j1p(h:PA X es t):PE X (.List es pos) (jgb t):=by intro pins s σ H Q I hq;refine wpAny_List_spliced (thn (h pos pins s σ H _ I hq) λus s1 ⟨xs,H1,I1,r,z,q⟩=>⟨by rw[<-r.length];exact z,?_⟩);have hf:H1 s1.heap.objs.size=ah:=I1.hok.fresh (X3 _);refine⟨.ref s1.heap.objs.size,upd H1 s1.heap.objs.size (.lst xs),I1.laid (t':=s1.toks) (λb u e=>xn _ e) (X3 _) ?_,rfl,q _ hf⟩;exact⟨z,us,0,r,Xc _ rfl⟩
end
abbrev Sp:=List V->Hp->VK->XK->Prop
abbrev CXT:=List cf->Hp->aq->XK->aj->aq->Prop
structure Env0(P:av)(w:aA)(K:k5g)(mg:k5j)(base:aI)(A:aE)(outer:List cf)(s:aq)(H:Hp):Prop where
 frames:A.frames=aa outer
 mod:Mod K mg base
 bs:∀b o,base.get? b=aa o->s.heap.get? b=aa o/\H b=ah
 bsz:base.objs.size<=s.heap.objs.size
 funs:s.heap.FunFrames base outer
 frf:∀b∈frs outer,H b=ah
 hok:HOk P w H s.heap
 bare:dm s.gens
def CE(outer:List cf)(P:av)(w:aA)(H:Hp)(s:aq)(Q:VK)(u:aj)(s':aq):Prop :=
 ∃v H',s'.os=s.os/\dm s'.gens/\Un (frs outer) [] H H' s.heap s'.heap/\HOk P w H' s'.heap/\RelV v u/\Q v H'
def CR(CX:CXT)(outer:List cf)(P:av)(w:aA)(H:Hp)(s:aq)(Q:VK)(E:XK)(r:eO)(s':aq):Prop :=
 match r with
 |.ok (.ret u)=>CE outer P w H s Q u s'
 |.ok _=>False
 |.error e=>CX outer H s E e s'
structure FnOk(P:av)(w:aA)(K:k5g)(mg:k5j)(base:aI)(CX:CXT)(k:Nat)(f:ai)(fd:aD)(ps:List ao)(sp:Sp):Prop where
 len:∀vs H Q E,sp vs H Q E->vs.length=ps.length
 run:∀(A:aE)(outer:List cf)(s:aq)(H:Hp)(args:Args)(us:List aj)(vs:List V) (Q:VK) (E:XK),Room k A->Env0 P w K mg base A outer s H->fU s fd args (ps.zip us)->Vals vs us->sp vs H Q E ->
  bS (aF P w) A (.call (.ref f) args) (CR CX outer P w H s Q E) s
theorem FnOk.imp{P:av}{w:aA}{K:k5g}{mg:k5j}{base:aI}{CX:CXT}{k:Nat}{f:ai}{fd:aD}{ps:List ao}{sp sp':Sp}(F:FnOk P w K mg base CX k f fd ps sp)
  (h:∀vs H Q E,sp' vs H Q E->sp vs H Q E):FnOk P w K mg base CX k f fd ps sp' :=
 ⟨λvs H Q E q=>F.len vs H Q E (h _ _ _ _ q),λA outer s H args us vs Q E hr he hb hv hs=>F.run A outer s H args us vs Q E hr he hb hv (h _ _ _ _ hs)⟩
theorem Env0.make{P:av}{w:aA}{K:k5g}{mg:k5j}{base:aI}{A:aE}{outer:List cf}{s:aq}{H:Hp}(e:Env0 P w K mg base A outer s H)(C:ai)(us:List aj)(kw:List (ao×aj)) :
  Env0 P w K mg base (A.under (.builtin "type.__call__" ⟨.ref C::us,kw⟩)) outer s H:=⟨by first|exact e.frames|(simpa [eC,Code.envs,gk,pushEnvs]using e.frames),e.mod,e.bs,e.bsz,e.funs,e.frf,e.hok,e.bare⟩
section
variable{X:Cx}{pins:k5i}{σ:St}{H:Hp}{s s':aq}
theorem Inv.env0(I:Inv X pins σ H s):Env0 X.prog X.w X.K X.mg X.base X.A X.stack s H :=
 ⟨I.ok.frames,I.ok.mod,I.bs,Xf I.ok.bsz I.sz,I.stack,I.stkFree,I.hok,I.bare⟩
theorem Inv.after{Q:VK}{u:aj}(I:Inv X pins σ H s)(h:CE X.stack X.prog X.w H s Q u s'):EP X pins σ Q u s':=by obtain⟨v,H',os,bare,un,hok,r,q⟩:=h;obtain⟨hh,g,d,t,os'⟩:=s';obtain rfl:os'=s.os:=os;exact⟨v,H',I.call (h':=hh) (g':=g) (d':=d) (t':=t) (ch:=[]) un hok bare (λb z=>absurd z (by simp)),r,q⟩
end
def j6j(sp:Sp)(dvs:List V)(E:XK)(t:TA):TE:=λσ H Q=>t σ H λvs H1=>sp (vs++dvs) H1 Q E
def j6i(C:ai)(m:ao)(sp:Sp)(dvs:List V)(E:XK)(ta:TE)(t:TA):TE:=λσ H Q=>ta σ H λx H1=>∃a dx fs,x=.ref a/\H1 a=aa (.ins C dx fs)/\fs.lookup m=ah /\
 t σ H1 λvs H2=>sp (x::(vs++dvs)) H2 Q E
def je1(C:ai)(sp:Sp)(dvs:List V)(E:XK)(t:TA):TE:=λσ H Q=>t σ H λvs H1=>∀x dx,H1 x=ah->H1 dx=ah->dx≠x ->
 sp (.ref x::(vs++dvs)) (upd (upd H1 dx (.own x)) x (.ins C dx [])) (λv H2=>v=.non/\Q (.ref x) H2) E
def Binds(K:k5g)(fd:aD)(ps:List ao)(ds:List aj):Prop :=
 ∀(s:aq)(us:List aj),K.In s.heap->(us++ds).length=ps.length->fU s fd ⟨us,[]⟩ (ps.zip (us++ds))
theorem Binds.all{K:k5g}{fd:aD}{ps:List ao}(h:∀us:List aj,us.length=ps.length->bB fd ⟨us,[]⟩=pure (ps.zip us)):Binds K fd ps []:=λs us _ hl=>by rw[Xp]at hl ⊢;exact .of_eq (h us hl)
def Zt(CX:CXT)(X:Cx)(E:XK):Prop:=∀(pins:k5i) (σ:St) (H:Hp) (s:aq) (e:aj) (s':aq),Inv X pins σ H s->CX X.stack H s E e s'->X.xe e s'
section
variable{X:Cx}{CX:CXT}{k:Nat}{f C:ai}{fd:aD}{ps:List ao}{sp:Sp}{dvs:List V}{ds:List aj}{E:XK}{x m:ao}{p pos apos:aL}{e o:ar}{es:List ar}{ta:TE}{t:TA}
theorem Mh{pins:k5i}{σ:St}{H:Hp}{s:aq}{Q:VK}{us:List aj}{vs:List V}(F:FnOk X.prog X.w X.K X.mg X.base CX k f fd ps sp)(hr:Room k X.A)(hb:Binds X.K fd ps ds)(hd:Vals dvs ds)(hx:Zt CX X E)
  (I:Inv X pins σ H s) (r:Vals vs us) (h:sp (vs++dvs) H Q E):aC (aF X.prog X.w) X.A (call (.ref f) us) (EP X pins σ Q) X.xe s:=by
 have r2:Vals (vs++dvs) (us++ds):=r.append hd;have hl:(us++ds).length=ps.length:=by rw[<-r2.length];exact F.len _ _ _ _ h
 refine jJ (cb (F.run X.A X.stack s H ⟨us,[]⟩ (us++ds) (vs++dvs) Q E hr I.env0 (hb s us I.kIn hl) r2 h) λr s' hq=>?_);cases r with
 |error e=>exact hx pins σ H s e s' I hq
 |ok fl =>
  cases fl with
  |ret u=>exact I.after hq
  |next=>exact aU hq
  |brk=>exact aU hq
  |cont=>exact aU hq
theorem Jv(F:FnOk X.prog X.w X.K X.mg X.base CX k f fd ps sp)(hr:Room k X.A)(hg:Gl X x)(hm:X.mg x=aa (.ref f))(hk:W.keepIn X.K (.ref f)=ag)(hb:Binds X.K fd ps ds)(hd:Vals dvs ds)(hx:Zt CX X E)
  (ha:PA X (e::es) t) (hdb:(x==k5k)=ae:=by decide) (he:af (e::es) X.env=(ae,az e X.env)::af es X.env:=by rfl) (hpl:(aJ pos (af es X.env)).any (·.1)=ae:=by rfl) :
  PE X (.Call (.Name x p) (e::es) [] pos) (j6j sp dvs E t):=by
 intro pins s σ H Q I h;refine bx (Z7 I hg hm ?_ hdb);refine W.callWith_K (h₀:=X.base) I.ok.mod.kin hk (thn (ha pos pins s σ H _ I h) λus s1 ⟨vs,H1,I1,r,q⟩=>⟨I1.kIn,?_⟩) he hpl;exact Mh F hr hb hd hx I1 r q
theorem Ib{pl:iY Bool}(he:PE X o ta)(c:Cls X.K C)(hm:Meth X.K C m f)(F:FnOk X.prog X.w X.K X.mg X.base CX k f fd ps sp)(hr:Room k X.A)(hb:Binds X.K fd ps ds)(hd:Vals dvs ds)(hx:Zt CX X E)(ha:PA X (e::es) t)
  (hst:af (e::es) X.env=(ae,az e X.env)::af es X.env:=by rfl) (hpl:(aJ pos (af es X.env)).any (·.1)=ae:=by rfl)
  (ht:az (.Call (.Attribute o m apos) (e::es) [] pos) X.env=(do
   let ov <-az o X.env
   dQ apos.atName
   let (f,first) <-dk [ov] (cR ov m pl)
   fQ pos f first (aJ pos (af (e::es) X.env)) (bq pos (aT [] X.env))):=by rfl) :
  PE X (.Call (.Attribute o m apos) (e::es) [] pos) (j6i C m sp dvs E ta t):=by
 intro pins s σ H Q I h;refine W.methodCall_KW (pl:=pl) (thn (he pins s σ H _ I h) λu s1 ⟨x,H1,I1,rx,a,dx,fs,ex,ea,l,q⟩=>?_) ht;subst ex;obtain rfl:u=aK a:=rx;refine U0 I1 ea c hm l ?_;refine W.callWith_K (first:=[.ref a]) (h₀:=X.base) I.ok.mod.kin hm.kp (thn (ha pos pins s1 σ H1 _ I1 q) λus s2 ⟨vs,H2,I2,r,q2⟩=>⟨I2.kIn,?_⟩) hst hpl;exact Mh (us:=.ref a::us) (vs:=.ref a::vs) F hr hb hd hx I2 (.cons rfl r) q2
theorem j4a{pl:iY Bool}(he:PE X o ta)(c:Cls X.K C)(hm:Meth X.K C m f)(F:FnOk X.prog X.w X.K X.mg X.base CX k f fd ps sp)(hr:Room k X.A)(hb:Binds X.K fd ps ds)(hd:Vals dvs ds)(hx:Zt CX X E)
  (ht:az (.Call (.Attribute o m apos) [] [] pos) X.env=(do
   let ov <-az o X.env
   dQ apos.atName
   let (f,first) <-dk [ov] (cR ov m pl)
   fQ pos f first (aJ pos (af [] X.env)) (bq pos (aT [] X.env))):=by rfl) :
  PE X (.Call (.Attribute o m apos) [] [] pos) (j6i C m sp dvs E ta ja5):=by
 intro pins s σ H Q I h;refine W.methodCall_KW (pl:=pl) (thn (he pins s σ H _ I h) λu s1 ⟨x,H1,I1,rx,a,dx,fs,ex,ea,l,q⟩=>?_) ht;subst ex;obtain rfl:u=aK a:=rx;refine U0 I1 ea c hm l ?_;exact W.callWith_K0 (first:=[.ref a]) I1.kIn hm.kp (Mh (us:=[.ref a]) (vs:=[.ref a]) F hr hb hd hx I1 (.cons rfl .nil) q)
structure Mk(K:k5g)(C f:ai):Prop where
 makes:W.makesIn K C=ag
 init:W.findIn K (.ref C) "__init__" = aa (aa (.ref f))
 fn:W.isFn K (.ref f)=ag
 kp:W.keepIn K (.ref C)=ag
theorem j40{pins:k5i}{σ:St}{H:Hp}{s:aq}{Q:VK}{us:List aj}{vs:List V}(M:Mk X.K C f)(F:FnOk X.prog X.w X.K X.mg X.base CX k f fd ps sp)(hr:Room (k+1) X.A)(hb:Binds X.K fd ps ds)(hd:Vals dvs ds)
  (hx:Zt CX X E) (I:Inv X pins σ H s) (r:Vals vs us)
  (h:∀x dx,H x=ah->H dx=ah->dx≠x->sp (.ref x::(vs++dvs)) (upd (upd H dx (.own x)) x (.ins C dx [])) (λv H2=>v=.non/\Q (.ref x) H2) E) :
  aC (aF X.prog X.w) X.A (call (.ref C) us) (EP X pins σ Q) X.xe s:=by
 have hq:=h (s.heap.objs.size+1) s.heap.objs.size (I.hok.fresh (lh _)) (I.hok.fresh (X3 _)) (Xa (Pj _));have I2:=Inv.made (C:=C) I;have r2:Vals (V.ref (s.heap.objs.size+1)::(vs++dvs)) (aK (s.heap.objs.size+1)::(us++ds)):=.cons rfl (r.append hd);have hl:(aK (s.heap.objs.size+1)::us++ds).length=ps.length:=by have e:=r2.length;rw[F.len _ _ _ _ hq]at e;exact e.symm
 refine jJ (j4o (f:=f) I.kIn M.makes M.init (beq_iff_eq.mp M.fn) (cb (F.run _ X.stack _ _ ⟨aK (s.heap.objs.size+1)::us,[]⟩ (aK (s.heap.objs.size+1)::(us++ds)) _ _ E (hr.make C us [])
  (I2.env0.make C us []) (hb _ (aK (s.heap.objs.size+1)::us) I2.kIn hl) r2 hq) λr s' hq'=>?_))
 cases r with
 |error e=>exact hx pins σ _ _ e s' I2 hq'
 |ok fl =>
  cases fl with
  |ret u =>obtain⟨v,H',I3,rv,ev,q3⟩:=I2.after hq';subst ev;exact⟨rv,⟨V.ref (s.heap.objs.size+1),H',I3,rfl,q3⟩⟩
  |next=>exact aU hq'
  |brk=>exact aU hq'
  |cont=>exact aU hq'
theorem Ie(M:Mk X.K C f)(F:FnOk X.prog X.w X.K X.mg X.base CX k f fd ps sp)(hr:Room (k+1) X.A)(hg:Gl X x)(hm:X.mg x=aa (.ref C))(hb:Binds X.K fd ps ds)(hd:Vals dvs ds)(hx:Zt CX X E)
  (ha:PA X (e::es) t) (hdb:(x==k5k)=ae:=by decide) (he:af (e::es) X.env=(ae,az e X.env)::af es X.env:=by rfl) (hpl:(aJ pos (af es X.env)).any (·.1)=ae:=by rfl) :
  PE X (.Call (.Name x p) (e::es) [] pos) (je1 C sp dvs E t):=by
 intro pins s σ H Q I h;refine bx (Z7 I hg hm ?_ hdb);refine W.callWith_K (h₀:=X.base) I.ok.mod.kin M.kp (thn (ha pos pins s σ H _ I h) λus s1 ⟨vs,H1,I1,r,q⟩=>⟨I1.kIn,?_⟩) he hpl;exact j40 M F hr hb hd hx I1 r q
end
section
variable{X:Cx}{CX:CXT}{k:Nat}{f C:ai}{fd:aD}{ps ks:List ao}{sp:Sp}{E:XK}{x m:ao}{p pos apos kpos:aL}{e o:ar}{es:List ar}{kws:List b9}{te ta:TE}{t tk:TA}{nm:Option ao}
structure KBinds(K:k5g)(fd:aD)(ps ks:List ao)(g:List aj->List aj->List aj)(gV:List V->List V->List V):Prop where
 to:∀(s:aq)(us ws:List aj),K.In s.heap->(g us ws).length=ps.length->fU s fd ⟨us,ks.zip ws⟩ (ps.zip (g us ws))
 rel:∀{vs:List V}{us:List aj}{zs:List V}{ws:List aj},Vals vs us->Vals zs ws->Vals (gV vs zs) (g us ws)
variable{g:List aj->List aj->List aj}{gV:List V->List V->List V}
end
structure FnScope(N P:List ao)(sc:be):Prop where
 kind:sc.kind=.function
 co:sc.isCoroutine=ae
 gen:sc.isGenerator=ae
 nd:N.Nodup
 pre:N.take P.length=P
 par:∀x∈P,sc.names.lookup x=aa .local\/sc.names.lookup x=aa .cell
 nofree:∀y∈sc.names,y.2≠.free
theorem Nu{kindOf:ao->Option bC}{x:ao}:∀{binds:List (ao×aj)} {m:k5j},(∀v,(x,v)∉binds)->iu kindOf binds m x=m x
 |[],_,_=>rfl
 |(n,v)::r,m,h=>by
  unfold iu;rw[Nu λw hw=>h w (kj _ hw)];split
  .have:x≠n:=by rintro rfl;exact h v X4
   simp[this]
  .rfl
theorem Nx{kindOf:ao->Option bC}{x:ao}:∀{binds:List (ao×aj)} {m:k5j},(∀v,(x,v)∉binds)->iv kindOf binds m x=m x
 |[],_,_=>rfl
 |(n,v)::r,m,h=>by
  unfold iv;rw[Nx λw hw=>h w (kj _ hw)];split
  .rfl
  .have:x≠n:=by rintro rfl;exact h v X4
   simp[this]
theorem Nv{kindOf:ao->Option bC}{x:ao}{v:aj}:∀{P:List ao}{vs:List aj}{i:Nat}{m:k5j},P.Nodup->P[i]?=aa x->vs[i]?=aa v->kindOf x=aa .local ->
  iu kindOf (P.zip vs) m x=aa v
 |[],_,_,_,_,h,_,_=>by simp at h
 |_::_,[],_,_,_,_,h,_=>by simp at h
 |p::P,w::vs,0,m,nd,h1,h2,hk=>by simp at h1 h2;subst h1;subst h2;show iu kindOf ((p,w)::P.zip vs) m p=_;unfold iu;rw[Nu λv hv=>(Xd.mp nd).1 (cq hv).1,if_pos hk];simp
 |p::P,w::vs,i+1,m,nd,h1,h2,hk=>by show iu kindOf ((p,w)::P.zip vs) m x=_;unfold iu;exact Nv (i:=i) (Xd.mp nd).2 (by simpa using h1) (by simpa using h2) hk
theorem Ny{kindOf:ao->Option bC}{x:ao}{v:aj}:∀{P:List ao}{vs:List aj}{i:Nat}{m:k5j},P.Nodup->P[i]?=aa x->vs[i]?=aa v->kindOf x≠aa .local ->
  iv kindOf (P.zip vs) m x=aa v
 |[],_,_,_,_,h,_,_=>by simp at h
 |_::_,[],_,_,_,_,h,_=>by simp at h
 |p::P,w::vs,0,m,nd,h1,h2,hk=>by simp at h1 h2;subst h1;subst h2;show iv kindOf ((p,w)::P.zip vs) m p=_;unfold iv;rw[Nx λv hv=>(Xd.mp nd).1 (cq hv).1,if_neg hk];simp
 |p::P,w::vs,i+1,m,nd,h1,h2,hk=>by show iv kindOf ((p,w)::P.zip vs) m x=_;unfold iv;exact Ny (i:=i) (Xd.mp nd).2 (by simpa using h1) (by simpa using h2) hk
noncomputable def start(N:List ao)(vs:List V):St:=vs.map aa++ay (N.length-vs.length) ah
noncomputable def qg(CX:CXT)(P:av)(w:aA)(K:k5g)(mg:k5j)(base:aI)(N:List ao)(qual:ao)(scope:be)(f:ai)(cd:aj)(A:aE)(outer:List cf)(s:aq)(H:Hp)(E:XK):Cx where
 prog:=P
 w:=w
 K:=K
 mg:=mg
 base:=base
 A:=A.deeper (bc qual scope s.heap.objs.size f cd)
 N:=N
 s₀:=s
 H₀:=H
 env:=bc qual scope s.heap.objs.size f cd
 outer:=outer
 stack:=bc qual scope s.heap.objs.size f cd::outer
 ex:=[]
 calm:=ag
 fn:=λ_=>ag
 pn:=[]
 xe:=λe s'=>aC (aF P w) (A.deeper (bc qual scope s.heap.objs.size f cd)) (leaving (bc qual scope s.heap.objs.size f cd) e) (λ_ s''=>CX outer H s E e s'') (λe' s''=>CX outer H s E e' s'') s'
theorem Ly{sc:be}{n:Nat}{x:ao}(h:sc.names.lookup x=aa .cell):∃c,(aR n sc.names []).lookup x=aa c:=by have q:=W.cellsFrom_some sc.names n [] (.inl h);exact Xm.mp q
theorem j2d{CX:CXT}{P:av}{w:aA}{K:k5g}{mg:k5j}{base:aI}{N ps:List ao}{qual:ao}{scope:be}{f:ai}{cd:aj}{A:aE}{outer:List cf}{s s1:aq}{H:Hp}{E:XK}{us:List aj}{vs:List V}
  (S:FnScope N ps scope) (cm:Bool) (hd:cm=ag->A.handled=ah) (e0:Env0 P w K mg base A outer s H) (hl:vs.length=ps.length) (r:Vals vs us)
  (x:InCallC s s.heap.objs.size (iu (bc qual scope s.heap.objs.size f cd).kindOf (ps.zip us) λ_=>ah) (aR (s.heap.objs.size+1) scope.names []) (iv (bc qual scope s.heap.objs.size f cd).kindOf (ps.zip us) λ_=>ah) s1) :
  Inv { qg CX P w K mg base N qual scope f cd A outer s H E with calm:=cm } [] (start N vs) H s1:=by
 have hpl:ps.length<=N.length:=by have:=congrArg gX S.pre;rw[Xo]at this;omega
 obtain⟨h1,tk,rfl,hk⟩:=x.done;have noA:∀b:ai,b∉(qg CX P w K mg base N qual scope f cd A outer s H E).ex:=λb z=>absurd (show b∈([]:List ai)from z) (by simp);refine⟨⟨e0.mod,S.kind,rfl,rfl,X3 _,λy z c h1 h2=>?_,λy hy=>?_,λy c _ h=>?_,hd,gm e0.frames,.inr ⟨rfl,rfl⟩,λb z=>absurd z (noA b),e0.bs,e0.bsz,λb _ _=>noA b,λb z=>absurd z (noA b),e0.funs,e0.frf⟩,
  rfl,e0.bare,Un.kept hk,⟨_,x.toInCall.ns,λi y v h1 h2 h3=>?_⟩,λy c h=>⟨_,x.cell y c h⟩,e0.hok.fresh (X3 _),λy c h=>?_,λp hp=>absurd (show p∈([]:k5i)from hp) (by simp),e0.hok.kept hk,?_⟩
 .exact name_of_addr x.apart (Xv h1) (Xv h2)
 .have hy:scope.names.lookup y=aa .cell\/scope.names.lookup y=aa .free:=hy;rcases hy with hy|hy
  .exact Ly hy
  .exact absurd rfl (S.nofree _ (Xv hy))
 .exact dz (x.above y c (Xv h))
 .have hi:i<vs.length:=by
   unfold start at h2;by_cases hi:i<vs.length
   .exact hi
   .rw[cE (by simpa using hi)]at h2;rw[List.getElem?_replicate]at h2;split at h2<;>cases h2
  have ha:vs[i]?=aa v:=by
   unfold start at h2;rw[ph (by simpa using hi),Xe]at h2;cases e:vs[i]? with
   |none=>rw[e]at h2;cases h2
   |some a=>rw[e]at h2;cases h2;rfl
  obtain⟨u,hu,rv⟩:=r.get ha;have hp:ps[i]?=aa y:=by rw[<-S.pre,List.getElem?_take_of_lt (by omega)];exact h1
  have ndP:ps.Nodup:=by rw[<-S.pre];exact S.nd.sublist (List.take_sublist _ _)
  refine⟨u,rv,?_⟩;rcases S.par y (Xg hp)with k|k
  .exact .inl ⟨k,Nv ndP hp hu k⟩
  .obtain⟨c,e⟩:=Ly (n:=s.heap.objs.size+1) k;refine .inr ⟨.inl k,c,e,?_⟩;have q:=x.cell y c e;rw[Ny ndP hp hu (by show scope.names.lookup y≠_;rw[k];decide)]at q;exact q
 .exact e0.hok.fresh (dz (x.above y c (Xv h)))
 .unfold start;show _=N.length;rw[X8,X5,dH];omega
theorem Inv.extOut{X:Cx}{pins:k5i}{σ:St}{H H2:Hp}{s:aq}(J:Inv X pins σ H s)(x:Ext X H H2 s):HOk X.prog X.w H2 s.heap/\(X.ex=[]->Un X.fs [] X.H₀ H2 X.s₀.heap s.heap):=by
 have old:∀b o,X.s₀.heap.get? b=aa o->H2 b=H b:=λb o e=>(x b).elim id λ⟨y,ob,v,hc,hf,_⟩=>absurd (Xj (xm e) (J.ok.cab y b hf hc)) (Xx _);have trk:∀{b:ai}{u:HO},H b=aa u->H2 b=aa u:=λ{b u} e=>(x b).elim (λz=>z.trans e) λ⟨y,ob,v,hc,_⟩=>by rw[J.freeC y b hc]at e;cases e
 refine⟨λa o e=>?_,λhx=>?_⟩
 .rcases x a with z|⟨y,ob,v,_,_,e2,e3,_⟩
  .exact(J.hok a o (z▸e)).stay (λ_ _ _ q=>q) (λ_ q=>trk q) (λ_ _ q=>trk q) λ_ _ _ q=>trk q
  .rw[e2]at e;cases e;exact⟨e3,ob,e3⟩
 .have nx:∀b,b∉X.ex:=λb=>by rw[hx];simp
  exact⟨λb o e n hb _=>J.base.keep b o e n hb (nx b),λb o e n hb _=>J.base.slot b o e n hb (nx b),λb o e n _=>(old b o e).trans (J.base.free b o e n (nx b)),λb o e _=>J.base.there b o e (nx b),
   λb xs e=>trk (J.base.tups b xs e),λb o u e=>trk (J.base.frzs b o u e),λb ps e=>let ⟨m,z⟩:=J.base.tbls b ps e;⟨m,trk z⟩⟩
theorem Fx{CX:CXT}{P:av}{w:aA}{K:k5g}{mg:k5j}{base:aI}{k:Nat}{f:ai}{name qual:ao}{params:iw}{body:List aG}{scope:be}{dV kV doc pm cdv ct oc:aj}{an od:Option ai}
  {osl:Array (Option aj)} {N ps:List ao} {sp:Sp} (lk:K.lookup f=aa ⟨oc,od,.func (W.fnOf name qual params body scope dV kV doc pm an cdv ct),osl⟩) (hcd:W.codeIn K cdv qual=ag) (S:FnScope N ps scope)
  (len:∀vs H Q E,sp vs H Q E->vs.length=ps.length)
  (hbody:∀(A:aE)(outer:List cf)(s:aq)(H:Hp)(vs:List V)(Q:VK)(E:XK),Room k (A.deeper (bc qual scope s.heap.objs.size f cdv))->sp vs H Q E ->
   ∃t,PSs (qg CX P w K mg base N qual scope f cdv A outer s H E) body t/\t { nx:=λ_ H'=>Q .non H',rt:=Q } (start N vs) H) :
  FnOk P w K mg base CX (k+1) f (W.fnOf name qual params body scope dV kV doc pm an cdv ct) ps sp:=by
 refine⟨len,λA outer s H args us vs Q E hr e0 hb r hsp=>?_⟩;have hl:=len _ _ _ _ hsp;have KX:K.In s.heap:=e0.mod.kin.keeps λb o e=>(e0.bs b o e).1;have lim:s.heap.NoLimit:=e0.mod.nolimit.keeps λb o e=>(e0.bs b o e).1;have hkind:∀y∈ps.zip us,scope.names.lookup y.1=aa .local\/(scope.names.lookup y.1=aa .cell/\((aR (s.heap.objs.size+1) scope.names []).lookup y.1).isSome=ag):=λ⟨n,v⟩ hy=>by
  rcases S.par n (cq hy).1 with q|q
  .exact .inl q
  .exact .inr ⟨q,W.cellsFrom_some _ _ _ (.inl q)⟩
 refine codeAny_call_function hr.depth (KX _ _ lk) rfl S.co S.gen rfl (W.codeRec_of KX hcd) (hb _ _ _ _ ?_);refine wpAny_newFunctionEnv_cells S.kind hkind λenv he s1 x=>?_;subst he;refine⟨lim.keeps x.toInCall.keep,codeAny_func ?_⟩;obtain⟨t,ht,hq⟩:=hbody A outer s H vs Q E (hr.deeper _) hsp;have I:Inv (qg CX P w K mg base N qual scope f cdv A outer s H E) [] (start N vs) H s1:=j2d S ag (λ_=>hr.hd) e0 hl r x;refine bu (ht [] s1 (start N vs) H _ I hq) (λfl s' hs=>?_) λe s' hs=>hs;have fin:∀{σ':St}{H':Hp}{v:V}{u:aj},Inv (qg CX P w K mg base N qual scope f cdv A outer s H E) [] σ' H' s'->RelV v u->Q v H'->CE outer P w H s Q u s' :=
  λ{σ' H' v u} J rv q=>⟨v,H',J.os,J.bare,J.base,J.hok,rv,q⟩
 cases fl with
 |ret u =>obtain⟨v,σ',H',H2,J,rv,x,q⟩:=hs;exact⟨v,H2,J.os,J.bare,(J.extOut x).2 rfl,(J.extOut x).1,rv,q⟩
 |next =>obtain⟨σ',H',J,q⟩:=hs;exact fin (v:=V.non) (u:=bp) J rfl q
 |brk =>obtain⟨_,_,_,q⟩:=hs;exact aU q
 |cont =>obtain⟨_,_,_,q⟩:=hs;exact aU q
section
variable{X:Cx}{x:ao}{p pos:aL}{e:ar}{es:List ar}{t:TA}{id T:String}{r:List V->Hp->VK->Prop}
def tCB(r:List V->Hp->VK->Prop)(t:TA):TE:=λσ H Q=>t σ H λvs H1=>r vs H1 Q
theorem vg (hc:Jg X (.builtin id) r) (hg:Gl X x) (hm:X.mg x=ah) (hv:aZ x=aa (.builtin id)) (ha:PA X (e::es) t) (hn:x ≠ "__name__":=by decide) (hdb:(x==k5k)=ae:=by decide)
  (he:af (e::es) X.env=(ae,az e X.env)::af es X.env:=by rfl) (hpl:(aJ pos (af es X.env)).any (·.1)=ae:=by rfl):PE X (.Call (.Name x p) (e::es) [] pos) (tCB r t):=by
 intro pins s σ H Q I h;refine bx (Yg I hg hm hv ?_ hn hdb);exact callWith_builtin1 (thn (ha pos pins s σ H _ I h) λus s1 ⟨vs,H1,I1,r1,q1⟩=>hc pins s1 σ H1 vs us Q I1 r1 q1) he hpl
theorem Zm (hc:Jg X (.type T) r) (hg:Gl X x) (hm:X.mg x=ah) (hv:aZ x=aa (.type T)) (ha:PA X (e::es) t) (hn:x ≠ "__name__":=by decide) (hdb:(x==k5k)=ae:=by decide)
  (he:af (e::es) X.env=(ae,az e X.env)::af es X.env:=by rfl) (hpl:(aJ pos (af es X.env)).any (·.1)=ae:=by rfl):PE X (.Call (.Name x p) (e::es) [] pos) (tCB r t):=by
 intro pins s σ H Q I h;refine bx (Yg I hg hm hv ?_ hn hdb);exact callWith_type1 (thn (ha pos pins s σ H _ I h) λus s1 ⟨vs,H1,I1,r1,q1⟩=>hc pins s1 σ H1 vs us Q I1 r1 q1) he hpl
end
end L2
namespace HT
open PySem PyProof.Rows
noncomputable def lexLt:List Int->List Int->Bool
 |[],[]=>ae
 |[],_::_=>ag
 |_::_,[]=>ae
 |x::xs,y::ys=>if x=y then lexLt xs ys else decide (x<y)
section
variable{prog:av}{w:aA}{A:aE}{E:k5h}{s:aq}
theorem cat_tup{t b:ai}{vs ws:List aj}{Q:k5h}(ht:jZ s.heap t vs.toArray)(hb:jZ s.heap b ws.toArray)(hv:vs≠[])
  (h1:ws=[]->Q (.ref t) s) (h2:ws≠[]->Q (.ref s.heap.objs.size) { s with heap:=s.heap.push { cls:=.type "tuple",data:=.seq (vs++ws).toArray } })
  (hsz:vs.length+ws.length<=au):aC (aF prog w) A (b0 .Add (.ref t) (.ref b)) Q E s:=by
 obtain⟨⟨cls,dd,data,sl⟩,ho,hc,n,hd⟩:=id ht;obtain⟨⟨cls2,dd2,data2,sl2⟩,ho2,hc2,n2,hd2⟩:=id hb;simp only at hc hd hc2 hd2;subst hc hd hc2 hd2;have e:vs.toArray++ws.toArray=(vs++ws).toArray:=by simp
 by_cases hw:ws=[]
 .exact fN ⟨_,ho,rfl⟩ ⟨_,ho2,rfl⟩ fX ie cU cO (cH _ _)
   (tuple_addW1 t b vs.toArray ws.toArray n n2 dd dd2 sl sl2 (by simpa using hv) (by simp[hw])) ⟨ho,ho2,h1 hw⟩
 .refine fN ⟨_,ho,rfl⟩ ⟨_,ho2,rfl⟩ fX ie cU cO (cH _ _)
   (tuple_addW2 t b vs.toArray ws.toArray n n2 dd dd2 sl sl2 (by simpa using hv) (by simpa using hw) (by rw[X6,X6];exact hsz)) ⟨ho,ho2,?_⟩
  rw[e];exact h2 hw
noncomputable def sIx(n d:Nat):Option Int->Nat
 |none=>d
 |some v=>if v<0 then(v+(n:Int)).toNat else min v.toNat n
theorem jao(n d:Nat)(hd:d<=n)(o:Option Int):sIx n d o<=n:=by
 cases o with
 |none=>exact hd
 |some v =>
  show(if v<0 then(v+(n:Int)).toNat else min v.toNat n)<=n;by_cases hv:v<0
  .rw[if_pos hv];omega
  .rw[if_neg hv];exact Nat.min_le_right _ _
theorem Eb(v:Int)(n d:Nat):(if v<0 then max (v+(n:Int)) 0 else min v (n:Int))=((sIx n d (aa v):Nat):Int):=by
 show(if v<0 then max (v+(n:Int)) 0 else min v (n:Int))=(((if v<0 then(v+(n:Int)).toNat else min v.toNat n):Nat):Int)
 by_cases hv:v<0
 .simp only[if_pos hv];omega
 .simp only[if_neg hv];omega
theorem j0u(lo hi:Option Int)(n:Nat):c8 lo hi 1 (n:Int)=(((sIx n 0 lo:Nat):Int),((sIx n n hi:Nat):Int)):=by
 have h1:¬((1:Int)<0):=by omega
 unfold c8;simp only[h1,if_false];refine Prod.ext ?_ ?_
 .cases lo with
  |none=>rfl
  |some v=>exact Eb v n 0
 .cases hi with
  |none=>rfl
  |some v=>exact Eb v n n
theorem Ey(i j:Nat):bH (i:Int) (j:Int) 1=j-i:=by
 unfold bH;have h1:(1:Int)>0:=by omega
 simp only[h1,if_true,Int.ediv_one];split<;>omega
theorem Mg{v:aj}{o:Option Int}{Q:Option Int->aq->Prop}(p:eR v o)(h:Q o s):aC (aF prog w) A (kB v) Q E s:=by
 cases p with
 |none=>exact lH h
 |int i t=>exact slicePart_int h
theorem Rh{sl:ai}{vl vu:aj}{lo hi:Option Int}{n:Nat}{Q:Int×Int×Nat->aq->Prop}(hs:s.heap.IsSliceOf sl vl vu .none)(pl:eR vl lo)(pu:eR vu hi)
  (h:Q (((sIx n 0 lo:Nat):Int),1,sIx n n hi-sIx n 0 lo) s):aC (aF prog w) A (dZ (.ref sl) (pure (n:Int))) Q E s:=by
 obtain⟨os,hos,hcs,hds⟩:=id hs;unfold dZ kC;refine aw (aw (iV hos hds (x:=vl) rfl (aw (iV hos hds (x:=vu) rfl (aw (iV hos hds (x:=.none) rfl (aH ?_)))))));refine aw (lH ?_);show aC _ _ (if ((1:Int)==0)=ag then _ else _) _ _ s;rw[if_neg (by decide)];refine aw (Mg pl (aw (Mg pu (aw (aH ?_)))));show aC _ _ (match c8 lo hi 1 (n:Int)with|(lo,hi)=>pure (lo,(1:Int),bH lo hi 1)) _ _ s;rw[j0u lo hi n];show aC _ _ (pure (((sIx n 0 lo:Nat):Int),(1:Int),bH ((sIx n 0 lo:Nat):Int) ((sIx n n hi:Nat):Int) 1)) _ _ s;rw[Ey];exact aH h
theorem j49(xs:Array aj)(i k:Nat):((aP k).filterMap λ(m:Nat)=>xs[((i:Int)+(m:Int)*1).toNat]?).toArray=((xs.toList.drop i).take k).toArray:=by
 have e:(λ(m:Nat)=>xs[((i:Int)+(m:Int)*1).toNat]?)=λm=>xs[i+m]?:=by
  funext m
  have:((i:Int)+(m:Int)*1).toNat=i+m:=by omega
  rw[this]
 rw[e];have:=pick_run xs i k;rw[List.filterMap_map]at this;have e2:((λx=>xs[x]?) ∘ λx=>i+x)=λm=>xs[i+m]?:=rfl;rw[e2]at this;rw[this]
theorem getItem_tuple_cut{t sl:ai}{items:Array aj}{vl vu:aj}{lo hi:Option Int}{Q:k5h}(ht:jZ s.heap t items)(hs:s.heap.IsSliceOf sl vl vu .none)(pl:eR vl lo)(pu:eR vu hi)
  (hw:¬(sIx items.size 0 lo=0/\sIx items.size items.size hi=items.size))
  (h:Q (.ref s.heap.objs.size) { s with heap:=s.heap.push { cls:=.type "tuple",data:=.seq ((items.toList.drop (sIx items.size 0 lo)).take (sIx items.size items.size hi-sIx items.size 0 lo)).toArray } })
  (hsz:items.size<=au):aC (aF prog w) A (iG (.ref t) (.ref sl)) Q E s:=by
 have htake:sizeOk (.seq ((items.toList.drop (sIx items.size 0 lo)).take (sIx items.size items.size hi-sIx items.size 0 lo)).toArray):=by show((items.toList.drop (sIx items.size 0 lo)).take (sIx items.size items.size hi-sIx items.size 0 lo)).toArray.size<=au;rw[X6,Xo,Xu,cu];omega
 have hj:sIx items.size items.size hi<=items.size:=jao _ _ (X3 _) hi;obtain⟨os,hos,hcs,hds⟩:=id hs;have hTs:s.TypeIs (.ref sl) "slice":=⟨os,hos,hcs⟩
 unfold iG
 try with_reducible refine lK ?_
 first|refine aw (aH ?_)|skip
 refine aw (wpAny_sequenceKey ht.typeIs (by decide) ?_);refine aw (wpAny_callSpecial?_slot (name:=ke "__getitem__") ht.typeIs jL
  (kE jL ht.typeIs entry_tuple_getitem ?_ (args_tuple_getitem _ _)))
 show aC _ _ (kA (.ref t) >>= _) _ _ s;refine aw (tupleItemsOf_ ht ?_);refine aw (wpAny_typeOf hTs ?_);rw[if_pos (by decide)];refine aw (Rh hs pl pu ?_);have hno:¬((((sIx items.size 0 lo:Nat):Int)==0&&(1:Int)==1&&(sIx items.size items.size hi-sIx items.size 0 lo)==items.size)=ag):=by intro q;rw[Xb,Xb]at q;have q1:((sIx items.size 0 lo:Nat):Int)=0:=eq_of_beq q.1.1;have q2:sIx items.size items.size hi-sIx items.size 0 lo=items.size:=eq_of_beq q.2;exact hw ⟨by omega,by omega⟩
 show aC _ _ (if (((sIx items.size 0 lo:Nat):Int)==0&&(1:Int)==1&&(sIx items.size items.size hi-sIx items.size 0 lo)==items.size)=ag then _ else _) _ _ s;rw[if_neg hno,j49]
 first
  |exact aw (m:=bI _) (bO (aH ⟨_,rfl,aH h⟩) htake)
  |exact aw (m:=bI _) (bO (aw (aH (aH ⟨_,rfl,aH h⟩))) htake)
  |exact aw (aw (m:=bI _) (bO (aH (aH ⟨_,rfl,aH h⟩)) htake))
  |exact aw (aw (m:=bI _) (bO (aH ⟨_,rfl,aH h⟩) htake))
end
end HT
namespace L2
open PySem PySem.Spec PyProof.Rows
abbrev TO:=St->Hp->(Option Int->Hp->Prop)->Prop
def PO(X:Cx)(e:Option ar)(t:TO):Prop :=
 ∀(pins:k5i) (s:aq) (σ:St) (H:Hp) (Q:Option Int->Hp->Prop),Inv X pins σ H s->t σ H Q ->
  aC (aF X.prog X.w) X.A (evalPart e X.env) (λu s'=>∃o H',Inv X pins σ H' s'/\eR u o/\Q o H') X.xe s
def j7m:TO:=λ_ H Q=>Q ah H
def jdz(t:TE):TO:=λσ H Q=>t σ H λx H1=>∃i,x=.int i/\Q (aa i) H1
section
variable{X:Cx}{e:ar}{te:TE}{lo hi:Option ar}{tl th:TO}{pos p2:aL}
theorem j83:PO X ah j7m:=by intro pins s σ H Q I h;rw[lM];exact aH ⟨ah,H,I,.none,h⟩
theorem j82(h:PE X e te):PO X (aa e) (jdz te):=by intro pins s σ H Q I hw;rw[evalPart_some];refine thn (h pins s σ H _ I hw) λu s1 ⟨x,H1,I1,r1,q1⟩=>?_;obtain⟨i,rfl,q⟩:=q1;obtain⟨t,rfl⟩:=r1;exact⟨aa i,H1,I1,.int i t,q⟩
def SlR(X:Cx)(r:V->Option Int->Option Int->Hp->VK->Prop):Prop :=
 ∀(pins:k5i) (s:aq) (σ:St) (H:Hp) (x:V) (v vl vu:aj) (lo hi:Option Int) (sl:ai) (Q:VK),Inv X pins σ H s->RelV x v->s.heap.IsSliceOf sl vl vu .none->eR vl lo->eR vu hi->r x lo hi H Q ->
  ∃T id,typeLookup (.type T) "__getitem__" = pure (aa (.builtin id))/\s.TypeIs v T/\aC (aF X.prog X.w) X.A (iG v (.ref sl)) (EP X pins σ Q) X.xe s
def tSl(r:V->Option Int->Option Int->Hp->VK->Prop)(te:TE)(tl th:TO):TE:=λσ H Q=>te σ H λx H1=>tl σ H1 λl H2=>th σ H2 λu H3=>r x l u H3 Q
theorem Rn{r:V->Option Int->Option Int->Hp->VK->Prop}(hr:SlR X r)(he:PE X e te)(hl:PO X lo tl)(hu:PO X hi th):PE X (.Subscript e (.Slice lo hi ah p2) pos) (tSl r te tl th):=by intro pins s σ H Q I h;refine Subscript_ (thn (he pins s σ H _ I h) λv s1 ⟨x,H1,I1,r1,q1⟩=>?_);refine wpAny_Slice (thn (hl pins s1 σ H1 _ I1 q1) λvl s2 ⟨l,H2,I2,pl,q2⟩=>thn (hu pins s2 σ H2 _ I2 q2) λvu s3 ⟨u,H3,I3,pu,q3⟩=>?_);rw[lM];refine aH ?_;have I4:Inv X pins σ H3 { s3 with heap:=s3.heap.push { cls:=.type "slice",data:=.fields #[vl,vu,.none] } }:=I3.kept (t':=s3.toks) λb ob q=>xn _ q;obtain⟨T,id,hT,ht,hg⟩:=hr pins { s3 with heap:=s3.heap.push { cls:=.type "slice",data:=.fields #[vl,vu,.none] } } σ H3 x v vl vu l u s3.heap.objs.size Q I4 r1 (Heap.IsSliceOf.new ..) pl pu q3;show aC (aF X.prog X.w) X.A (lO e (.Slice lo hi ah p2) v (.ref s3.heap.objs.size)) (EP X pins σ Q) X.xe { s3 with heap:=s3.heap.push { cls:=.type "slice",data:=.fields #[vl,vu,.none] } };exact lG (ops:=[.ref s3.heap.objs.size,v]) ht hT hg (by with_unfolding_all rfl)
noncomputable def W2(xs:List V)(lo hi:Option Int):List V:=(xs.drop (HT.sIx xs.length 0 lo)).take (HT.sIx xs.length xs.length hi-HT.sIx xs.length 0 lo)
theorem R8(xs:List V)(lo hi:Option Int):(W2 xs lo hi).length<=xs.length:=by unfold W2;rw[Xo,Xu];omega
def jgr(K:k5g):V->Option Int->Option Int->Hp->VK->Prop:=λx lo hi H Q=>∃a xs,x=.ref a/\SqT K H a xs /\
 ¬(HT.sIx xs.length 0 lo=0/\HT.sIx xs.length xs.length hi=xs.length)/\∀p,H p=ah->Q (.ref p) (upd H p (.tup (W2 xs lo hi)))
theorem jae:SlR X (jgr X.K):=by
 intro pins s σ H x v vl vu lo hi sl Q I rx hs pl pu h;obtain⟨a,xs,rfl,hx,hw,q⟩:=h;cases rx;obtain⟨its,r,ht,hz⟩:=I.tuple hx;have hlen:its.toArray.size=xs.length:=by rw[X6];exact r.length.symm
 refine⟨"tuple",_,slot_tuple_getitem.lookup,ht.typeIs,?_⟩;refine HT.getItem_tuple_cut ht hs pl pu (by rw[hlen];exact hw) ?_ (by rw[hlen];exact hz);rw[hlen];refine⟨.ref s.heap.objs.size,_,I.laid (t':=s.toks) (o:=.tup (W2 xs lo hi)) (λb ob q=>xn _ q) (X3 _) ?_,rfl,q _ (I.hok.fresh (X3 _))⟩;exact⟨Xf (R8 xs lo hi) hz,_,(r.drop (HT.sIx xs.length 0 lo)).take (HT.sIx xs.length xs.length hi-HT.sIx xs.length 0 lo),IsTup.new _ _,Zy.new _ _⟩
def jee(K:k5g):R2:=λx y H Q=>∃a b xs ys,x=.ref a/\y=.ref b/\SqT K H a xs/\SqT K H b ys/\xs≠[]/\xs.length+ys.length<=au /\
 (ys=[]->Q (.ref a) H)/\(ys≠[]->∀p,H p=ah->Q (.ref p) (upd H p (.tup (xs++ys))))
theorem Vals.nil_iff{xs:List V}{us:List aj}(r:Vals xs us):us=[]↔xs=[]:=by
 cases r with
 |nil=>simp
 |cons _ _=>simp
theorem j8c:OpR X (b0 .Add) (jee X.K):=by intro pins s σ H x y v u Q I rx ry h;obtain⟨a,b,xs,ys,rfl,rfl,ha,hb,hx,hz,q1,q2⟩:=h;cases rx;cases ry;obtain⟨its,r1,p1,_⟩:=I.tuple ha;obtain⟨its2,r2,p2,_⟩:=I.tuple hb;refine HT.cat_tup p1 p2 (λz=>hx (r1.nil_iff.mp z)) (λz=>⟨.ref a,H,I,rfl,q1 (r2.nil_iff.mp z)⟩) (λz=>?_) (by rw[<-r1.length,<-r2.length];exact hz);refine⟨.ref s.heap.objs.size,_,I.laid (t':=s.toks) (o:=.tup (xs++ys)) (λb ob q=>xn _ q) (X3 _) ?_,rfl,q2 (λw=>z (r2.nil_iff.mpr w)) _ (I.hok.fresh (X3 _))⟩;exact⟨by rw[X8];exact hz,_,r1.append r2,IsTup.new _ _,Zy.new _ _⟩
end
noncomputable def ixN(n:Nat)(i:Int):Option Nat:=if 0<=i then(if i<n then aa i.toNat else ah)else if -(n:Int)<=i then aa (i+n).toNat else ah
noncomputable def atI{α:Type}(xs:List α)(i:Int):Option α:=(ixN xs.length i).bind λj=>xs[j]?
theorem j8o{n:Nat}{i:Int}{j:Nat}(h:ixN n i=aa j):seqIndex? i n=aa j/\j<n/\-(n:Int)<=i/\i<n:=by
 unfold ixN at h;by_cases h0:0<=i
 .rw[if_pos h0]at h;by_cases h1:i<n
  .rw[if_pos h1]at h;have e:i.toNat=j:=aB h;exact⟨by rw[seqIndex_of h0 h1,e],by omega,by omega,h1⟩
  .rw[if_neg h1]at h;cases h
 .rw[if_neg h0]at h;by_cases h1:-(n:Int)<=i
  .rw[if_pos h1]at h;have e:(i+n).toNat=j:=aB h;exact⟨by rw[seqIndex_neg (by omega) h1,e],by omega,h1,by omega⟩
  .rw[if_neg h1]at h;cases h
theorem Bl{α:Type}{xs:List α}{i:Int}{v:α}(h:atI xs i=aa v):∃j,seqIndex? i xs.length=aa j/\xs[j]?=aa v/\j<xs.length/\-(xs.length:Int)<=i/\i<xs.length:=by
 unfold atI at h;cases e:ixN xs.length i with
 |none=>rw[e]at h;cases h
 |some j =>rw[e]at h;obtain⟨h1,h2,h3,h4⟩:=j8o e;exact⟨j,h1,h,h2,h3,h4⟩
theorem Ef{α:Type}{xs:List α}{j:Nat}{v:α}(h:xs[j]?=aa v):atI xs (j:Int)=aa v:=by
 have hj:j<xs.length:=(Xh.mp h).1;have e:ixN xs.length (j:Int)=aa j:=by unfold ixN;rw[if_pos (by omega),if_pos (by omega)];simp
 unfold atI;rw[e];exact h
def Wm(b:ar):Prop:=∀o i,subscripted b ae o i=operate [o,i] (iG o i)
def IxR(X:Cx)(r:R2):Prop :=
 ∀(value slice:ar)(pins:k5i) (s:aq) (σ:St) (H:Hp) (x y:V) (v u:aj) (Q:VK),Inv X pins σ H s->RelV x v->RelV y u->r x y H Q ->
  subscripted slice ae v u=operate [v,u] (iG v u)->aC (aF X.prog X.w) X.A (lO value slice v u) (EP X pins σ Q) X.xe s
def MtR(X:Cx)(id:String)(r:V->List V->Hp->VK->Prop):Prop :=
 ∀(pins:k5i) (s:aq) (σ:St) (H:Hp) (x:V) (xs:List V) (v:aj) (us:List aj) (Q:VK),Inv X pins σ H s->RelV x v->Vals xs us->r x xs H Q ->
  aC (aF X.prog X.w) X.A (call (.builtin id) (v::us)) (EP X pins σ Q) X.xe s
section
variable{X:Cx}{a b:ar}{ta tb:TE}{pos:aL}
theorem Yu{r:R2}(hr:IxR X r)(ha:PE X a ta)(hb:PE X b tb)(hs:Wm b):PE X (.Subscript a b pos) (tOp r ta tb):=by intro pins s σ H Q I h;exact Subscript_ (j61 ha hb I h λv u s2 x y H2 I2 rx ry q=>hr a b pins s2 σ H2 x y v u Q I2 rx ry q (hs _ _))
def jaw(K:k5g):R2:=λx y H Q=>∃p xs i v,x=.ref p/\y=.int i/\SqL K H p xs/\atI xs i=aa v/\Q v H
def jau(K:k5g):R2:=λx y H Q=>∃p xs i v,x=.ref p/\y=.int i/\SqT K H p xs/\atI xs i=aa v/\Q v H
def jav:R2:=λx y H Q=>∃z i c,x=.str z/\y=.int i/\z.length<=au/\atI z.cps.toList i=aa c/\Q (.str ⟨#[c]⟩) H
theorem j8n:IxR X (jaw X.K):=by
 intro value slice pins s σ H x y v u Q I rx ry h hs;obtain⟨p,xs,i,z,rfl,rfl,hq,he,q⟩:=h;cases rx;obtain⟨t,rfl⟩:=ry;obtain⟨its,r,pl,hz⟩:=I.list hq;obtain⟨j,h1,h2,h3,h4,h5⟩:=Bl he;obtain⟨w,ew,rw'⟩:=r.get h2;have hl:=r.length;have hn:=Ye;have fin:EP X pins σ Q w s:=⟨z,H,I,rw',q⟩
 by_cases h0:0<=i
 .have hj:i.toNat=j:=by rw[seqIndex_of h0 h5]at h1;exact aB h1
  exact item_listR pl.isList h0 (by omega) (by rw[hj];simpa using ew) fin hs
 .have hj:(i+(its.toArray.size:Int)).toNat=j:=by rw[seqIndex_neg (by omega) h4]at h1;rw[X6,<-hl];exact aB h1
  exact iI (x:=w) pl.isList.typeIs slot_list_getitem.lookup
   (wpAny_getItem_list_neg (Q:=λr s'=>r=w/\EP X pins σ Q r s') pl.isList (by omega) (by rw[X6]<;>omega) (by omega) (by rw[hj];simpa using ew) ⟨rfl,fin⟩) hs
theorem Mv:IxR X (jau X.K):=by
 intro value slice pins s σ H x y v u Q I rx ry h hs;obtain⟨p,xs,i,z,rfl,rfl,hq,he,q⟩:=h;cases rx;obtain⟨t,rfl⟩:=ry;obtain⟨its,r,pl,hz⟩:=I.tuple hq;obtain⟨j,h1,h2,h3,h4,h5⟩:=Bl he;obtain⟨w,ew,rw'⟩:=r.get h2;have hl:=r.length;have hn:=Ye;have fin:EP X pins σ Q w s:=⟨z,H,I,rw',q⟩
 exact iI (x:=w) pl.typeIs slot_tuple_getitem.lookup
  (getItem_tuple (j:=j) (Q:=λr s'=>r=w/\EP X pins σ Q r s') pl (by omega) (by omega) (by rw[X6,<-hl];exact h1) (by simpa using ew) ⟨rfl,fin⟩) hs
theorem jbz:IxR X jav:=by
 intro value slice pins s σ H x y v u Q I rx ry h hs;obtain⟨z,i,c,rfl,rfl,hz,he,q⟩:=h;obtain⟨t,rfl⟩:=rx;obtain⟨t',rfl⟩:=ry;obtain⟨j,h1,h2,h3,h4,h5⟩:=Bl he;have hl:z.cps.toList.length=z.length:=by simp[lr]
 rw[hl]at h1 h4 h5;have hn:=Ye;exact lG (fm s z t) slot_str_getitem.lookup (getItem_str (c:=c) (by
  have e1:decide (i < -(2^63:Int))=ae:=decide_eq_false (by omega)
  have e2:decide (i>=2^63)=ae:=decide_eq_false (by omega)
  rw[e1,e2,jN]) (by rw[h1];simpa using h2) ⟨.str ⟨#[c]⟩,H,I.tok _,⟨_,rfl⟩,q⟩) hs
theorem Do(lo hi:Option Int)(n:Nat):(cz lo hi ah n).1=((HT.sIx n 0 lo:Nat):Int)/\(cz lo hi ah n).2.1=((HT.sIx n n hi:Nat):Int)/\(cz lo hi ah n).2.2=1:=by
 refine⟨?_,?_,rfl⟩
 .cases lo with
  |none=>simp[cz,HT.sIx]
  |some i =>
   simp only[cz,HT.sIx,iz,show(1:Int)>0 by decide,if_true];by_cases h:i<0
   .simp only[h,if_true]<;>omega
   .simp only[h,if_false]<;>omega
 .cases hi with
  |none=>simp[cz,HT.sIx]
  |some i =>
   simp only[cz,HT.sIx,iz,show(1:Int)>0 by decide,if_true];by_cases h:i<0
   .simp only[h,if_true]<;>omega
   .simp only[h,if_false]<;>omega
theorem Fd(its:List aj)(lo hi:Option Int):slicePick its.toArray lo hi ah=((its.drop (HT.sIx its.length 0 lo)).take (HT.sIx its.length its.length hi-HT.sIx its.length 0 lo)).toArray:=by obtain⟨h1,h2,h3⟩:=Do lo hi its.toArray.size;unfold slicePick;rw[h1,h2,h3];simp only[sliceRange_one,pick_run,X6]<;>rfl
def jgt(K:k5g):V->Option Int->Option Int->Hp->VK->Prop:=λx lo hi H Q=>∃a xs,x=.ref a/\SqL K H a xs/\∀p,H p=ah->Q (.ref p) (upd H p (.lst (W2 xs lo hi)))
theorem j7o:SlR X (jgt X.K):=by intro pins s σ H x v vl vu lo hi sl Q I rx hs pl pu h;obtain⟨a,xs,rfl,hx,q⟩:=h;cases rx;obtain⟨its,r,ht,hz⟩:=I.list hx;have hlen:=r.length;refine⟨"list",_,slot_list_getitem.lookup,ht.isList.typeIs,?_⟩;refine wpAny_getItem_list_slice ht.isList hs pl pu .none (by simp) ?_ (by rw[X6]<;>omega);rw[Fd,<-hlen];refine⟨.ref s.heap.objs.size,_,I.laid (t':=s.toks) (o:=.lst (W2 xs lo hi)) (λb ob q=>xn _ q) (X3 _) ?_,rfl,q _ (I.hok.fresh (X3 _))⟩;exact⟨Xf (R8 xs lo hi) hz,_,0,(r.drop (HT.sIx xs.length 0 lo)).take (HT.sIx xs.length xs.length hi-HT.sIx xs.length 0 lo),Xc _ rfl⟩
theorem W4:Jg X (.builtin "len") (λxs H Q=>∃p ys,xs=[.ref p]/\(SqL X.K H p ys\/SqT X.K H p ys)/\Q (.int ys.length) H):=by
 intro pins s σ H xs us Q I r h;obtain⟨p,ys,rfl,hq,q⟩:=h;obtain⟨u,rfl,rx⟩:=vals1 r;cases rx;have hn:=Ye;rcases hq with hq|hq
 .obtain⟨its,r',pl,hz⟩:=I.list hq;have hlen:=r'.length;exact Calls.call_len_list pl.isList (by simp only[X6]<;>omega) ⟨.int ys.length,H,I.tok _,⟨s.toks+1,by rw[X6,hlen]⟩,q⟩
 .obtain⟨its,r',pl,hz⟩:=I.tuple hq;have hlen:=r'.length;exact len_tuple pl (by simp only[X6]<;>omega) ⟨.int ys.length,H,I.tok _,⟨s.toks+1,by rw[X6,hlen]⟩,q⟩
theorem K1:Jg X (.builtin "len") (λxs H Q=>∃z,xs=[.str z]/\z.length<=au/\Q (.int z.length) H):=by intro pins s σ H xs us Q I r h;obtain⟨z,rfl,hz,q⟩:=h;obtain⟨u,rfl,t,rfl⟩:=vals1 r;have hn:=Ye;exact len_str (by omega) ⟨.int z.length,H,I.tok _,⟨_,rfl⟩,q⟩
theorem Lz:Jg X (.type "list") (λxs H Q=>∃p ys,xs=[.ref p]/\(SqL X.K H p ys\/SqT X.K H p ys)/\∀l,H l=ah->Q (.ref l) (upd H l (.lst ys))):=by
 intro pins s σ H xs us Q I r h;obtain⟨p,ys,rfl,hq,q⟩:=h;obtain⟨u,rfl,rx⟩:=vals1 r;cases rx;have fin:∀(its:List aj),Vals ys its->ys.length<=au->∀(h':aI)(c':Nat),(∀b o',s.heap.get? b=aa o'->h'.get? b=aa o') ->
   h'.get? s.heap.objs.size=aa { cls:=.type "list",dict:=ah,data:=.seq its.toArray c',slots:=#[] }->EP X pins σ Q (.ref s.heap.objs.size) { s with heap:=h' }:=λits r' hz h' c' kp e =>
  ⟨.ref s.heap.objs.size,_,I.laid (t':=s.toks) kp (X3 _) (show jo X.prog X.w _ h' _ (.lst ys) from⟨hz,its,c',r',e⟩),rfl,q _ (I.hok.fresh (X3 _))⟩
 rcases hq with hq|hq
 .obtain⟨its,r',pl,hz⟩:=I.list hq;have hlen:=r'.length;obtain⟨o,ho,hc,n,hd⟩:=pl.isList;exact lN p (.inl rfl) ho hc hd (λh' c' kp e=>fin its r' hz h' c' kp e) (by simp only[X6]<;>omega)
 .obtain⟨its,r',pl,hz⟩:=I.tuple hq;have hlen:=r'.length;obtain⟨o,ho,hc,n,hd⟩:=pl;exact lN p (.inr rfl) ho hc hd (λh' c' kp e=>fin its r' hz h' c' kp e) (by simp only[X6]<;>omega)
theorem Uj:Jg X (.type "tuple") (λxs H Q=>∃p ys,xs=[.ref p]/\((SqL X.K H p ys/\∀l,H l=ah->Q (.ref l) (upd H l (.tup ys)))\/(SqT X.K H p ys/\Q (.ref p) H))):=by
 intro pins s σ H xs us Q I r h;obtain⟨p,ys,rfl,h⟩:=h;obtain⟨u,rfl,rx⟩:=vals1 r;cases rx;rcases h with ⟨hq,q⟩|⟨hq,q⟩
 .obtain⟨its,r',pl,hz⟩:=I.list hq;have hlen:=r'.length;refine call_tuple_list pl.isList (λh' kp=>?_) (by simp only[X6]<;>omega);have I1:Inv X pins σ H { s with heap:=h' }:=I.kept (t':=s.toks) kp;have I2:Inv X pins σ (upd H h'.objs.size (.tup ys)) { s with heap:=h'.push { cls:=.type "tuple",data:=.seq its.toArray } } :=
   I1.laid (t':=s.toks) (λb o e=>xn _ e) (X3 _) (show jo X.prog X.w _ _ _ (.tup ys) from⟨hz,its,r',IsTup.new _ _,Zy.new _ _⟩)
  exact⟨.ref h'.objs.size,_,I2,rfl,q _ (I1.hok.fresh (X3 _))⟩
 .obtain⟨its,r',pl,hz⟩:=I.tuple hq;exact call_tuple_same pl ⟨.ref p,H,I,rfl,q⟩
def tyV(K:k5g)(T:String)(x:V)(H:Hp):Prop:=match x with
 |.str _=>T = "str"
 |.int _=>T = "int"
 |.ref p=>(T = "list"/\∃xs,SqL K H p xs)\/(T = "tuple"/\∃xs,SqT K H p xs) \/
   (T = "dict"/\((∃kvs,H p=aa (.dK kvs))\/∃kvs,H p=aa (.dT kvs)))\/(T = "set"/\∃S n,H p=aa (.set S n))
 |_=>False
theorem j9x{pins:k5i}{σ:St}{H:Hp}{s:aq}{T:String}{x:V}{v:aj}(I:Inv X pins σ H s)(r:RelV x v)(ty:tyV X.K T x H) :
  s.TypeIs v T/\∀a,v=.ref a->∃ob,s.heap.get? a=aa ob/\ob.dict=ah:=by
 cases x with
 |str z =>obtain⟨t,rfl⟩:=r;cases(show T = "str" from ty);exact⟨fm s z t,λ_ e=>nomatch e⟩
 |int i =>obtain⟨t,rfl⟩:=r;cases(show T = "int" from ty);exact⟨fq s i t,λ_ e=>nomatch e⟩
 |ref p =>
  cases r;rcases ty with ⟨rfl,xs,hq⟩|⟨rfl,xs,hq⟩|⟨rfl,hk⟩|⟨rfl,S,n,hk⟩
  .obtain⟨its,_,pl,_⟩:=I.list hq;refine⟨pl.isList.typeIs,λa e=>?_⟩;cases e;obtain⟨o,n,e,c,hd,_⟩:=pl;exact⟨o,e,hd⟩
  .obtain⟨its,_,⟨o,e1,e2,_⟩,_⟩:=I.tuple hq;refine⟨⟨o,e1,e2⟩,λa e=>?_⟩;cases e;exact⟨o,e1,I.tupD hq o e1⟩
  .have z:∃o,s.heap.get? p=aa o/\o.ExactDict:=by
    rcases hk with ⟨kvs,hk⟩|⟨kvs,hk⟩
    .obtain⟨_,_,_,_,o,_,_,e,ex,_⟩:=I.hok p _ hk;exact⟨o,e,ex⟩
    .obtain⟨_,_,_,_,o,_,_,e,ex,_⟩:=I.hok p _ hk;exact⟨o,e,ex⟩
   obtain⟨o,e,ex⟩:=z;refine⟨⟨o,e,ex.1⟩,λa e2=>?_⟩;cases e2;exact⟨o,e,ex.2.1⟩
  .obtain⟨o,_,_,_,e,ex,_⟩:=I.hok p _ hk;refine⟨⟨o,e,ex.1⟩,λa e2=>?_⟩;cases e2;exact⟨o,e,ex.2.1⟩
 |_=>exact aU ty
def tBM(K:k5g)(T:String)(r:V->List V->Hp->VK->Prop)(to:TE)(t:TA):TE:=λσ H Q=>to σ H λx H1=>tyV K T x H1/\t σ H1 λxs H2=>r x xs H2 Q
variable{o e:ar}{es:List ar}{to:TE}{t:TA}{name:ao}{apos cpos:aL}{T id:String}{r:V->List V->Hp->VK->Prop}
theorem W9 (pa:PlainAttrs T) (slot:Slot T name id) (hty:typeOf (.builtin id)=pure (.type "method_descriptor")) (hm:MtR X id r) (ho:PE X o to) (ha:PA X (e::es) t)
  (hbase:aS o name X.env (az o X.env)=az o X.env:=by rfl)
  (hfew:((aJ cpos (af (e::es) X.env)).all (λx=>!x.1)&&(bq cpos (aT [] X.env)).all (λx=>x.1.isSome)
   && decide ((e::es).length+([]:List b9).length+(if ([]:List b9).isEmpty then 0 else 1)<30))=ag:=by rfl)
  (hline:(apos.endLine==cpos.line)=ag:=by rfl) (hs:af (e::es) X.env=(ae,az e X.env)::af es X.env:=by rfl) (hplain:(aJ cpos (af es X.env)).any (·.1)=ae:=by rfl) :
  PE X (.Call (.Attribute o name apos) (e::es) [] cpos) (tBM X.K T r to t):=by
 intro pins s σ H Q I h;refine wpAny_Call_method_late hbase hfew hline rfl (thn (ho pins s σ H _ I h) λv s1 ⟨x,H1,I1,r1,ty,q1⟩=>?_);obtain⟨h1,h2⟩:=j9x I1 r1 ty;refine⟨T,id,pa,slot,hty,h1,h2,?_⟩;have hA:=ha cpos pins s1 σ H1 _ I1 q1;rw[hs]at hA ⊢;refine gi (by show(ae || (aJ cpos (af es X.env)).any (·.1))=ae;rw[hplain]<;>rfl) (gx ?_);exact thn hA λus s2 ⟨vs,H2,I2,r2,q2⟩=>hm pins s2 σ H2 x vs v us Q I2 r1 r2 q2
/- xs.append(e),list.index on a module's tuple .. are MtR facts of 06m -/
end
def MtM(X:Cx)(id:String)(r:V->List V->Hp->VK->Prop):Prop :=
 ∀(pins:k5i) (s:aq) (σ:St) (H:Hp) (x:V) (xs:List V) (v:aj) (us:List aj) (Q:VK),Inv X pins σ H s->RelV x v->Vals xs us->r x xs H Q ->
  aC (aF X.prog X.w) X.A (call (.builtin id) (v::us)) (EP X pins σ Q) X.xe s
theorem Vals.one{x:V}{us:List aj}(h:Vals [x] us):∃u,us=[u]/\RelV x u:=by cases h with|cons r t=>cases t;exact⟨_,rfl,r⟩
theorem Vals.zero:∀{us:List aj},Vals [] us->us=[]
 |_,.nil=>rfl
theorem Vals.reverse{xs:List V}{us:List aj}(h:Vals xs us):Vals xs.reverse us.reverse:=by
 induction h with
 |nil=>exact .nil
 |cons r t ih=>rw[iK,iK];exact Vals.append ih (.cons r .nil)
theorem Vals.rep{xs:List V}{us:List aj}(h:Vals xs us):∀k:Nat,Vals (ay k xs).flatten (ay k us).flatten
 |0=>.nil
 |k+1=>by rw[Pb,Pb,T9,T9];exact Vals.append h (Vals.rep h k)
theorem foldl_rep(its:List aj):∀(k:Nat)(acc:List aj),
  cG (λx1 x2=>x1++x2) acc.toArray (ay k its.toArray)=(acc++(ay k its).flatten).toArray
 |0,acc=>by simp
 |k+1,acc=>by
  have e:acc.toArray++its.toArray=(acc++its).toArray:=by simp
  have e2:(acc++its)++(ay k its).flatten=acc++(ay (k+1) its).flatten:=by rw[Pb,T9,P0]
  rw[<-e2,<-foldl_rep its k (acc++its),<-e,Pb,dB]
section
variable{X:Cx}{pins:k5i}{σ:St}{H:Hp}{s:aq}{l b:ai}{xs ys zs:List V}
theorem Inv.lset{its its':List aj}{n:Nat}{f:Array aj->Array aj}{t':Nat}(I:Inv X pins σ H s)(hH:H l=aa (.lst xs))
  (e:s.heap.get? l=aa { cls:=.type "list",data:=.seq its.toArray n }) (hf:f its.toArray=its'.toArray) (hv:Vals ys its') (hz:ys.length<=au) :
  Inv X pins σ (upd H l (.lst ys)) { s with heap:=s.heap.update l (Obj.mapSeq f),toks:=t' }:=by
 have q:=PySem.IsL.update e f;rw[hf]at q;refine I.write (x:=l) (e:=l) (by rw[hH];exact trivial) (.inl rfl) (λb' u hb hu=>(Heap.get?_update_other s.heap (Obj.mapSeq f) (ba hb)).trans hu) ⟨_,q⟩ ?_;exact⟨hz,its',_,hv,q⟩
theorem Inv.lnew{its:List aj}{t':Nat}(I:Inv X pins σ H s)(hv:Vals ys its)(hz:ys.length<=au) :
  Inv X pins σ (upd H s.heap.objs.size (.lst ys)) { s with heap:=s.heap.push { cls:=.type "list",data:=.seq its.toArray },toks:=t' } :=
 I.laid (λ_ _ q=>xn _ q) (X3 _) ⟨hz,its,0,hv,Xc _ rfl⟩
theorem Inv.fresh(I:Inv X pins σ H s):H s.heap.objs.size=ah:=I.hok.fresh (X3 _)
theorem Inv.lstM(I:Inv X pins σ H s)(hH:H l=aa (.lst xs)):xs.length<=au/\∃(its:List aj)(n:Nat),Vals xs its/\xs.length=its.length/\s.heap.get? l=aa { cls:=.type "list",data:=.seq its.toArray n }:=by obtain⟨z,its,n,r,e⟩:=I.hok l _ hH;exact⟨z,its,n,r,r.length,e⟩
theorem j4j{n:Nat}(h:n<=au):cn n=ae:=by unfold cn;exact decide_eq_false (by omega)
end
section
variable{X:Cx}
def j81:V->List V->Hp->VK->Prop:=λx vs H Q=>∃l xs y,x=.ref l/\vs=[y]/\H l=aa (.lst xs)/\xs.length<au/\Q .non (upd H l (.lst (xs++[y])))
theorem Uq:MtM X "list.append" j81:=by intro pins s σ H x vs v us Q I rx rv h;obtain⟨l,xs,y,rfl,rfl,hH,hz,q⟩:=h;cases rx;obtain⟨u,rfl,ru⟩:=rv.one;obtain⟨z,its,n,r,hl,e⟩:=I.lstM hH;refine bX dh ⟨_,e,rfl⟩ F.entry_list_append (F.args_list_append_2 _ _) (PySem.list_append l its.toArray n u (by rw[X6];omega)) ⟨e,?_⟩;refine⟨.non,_,I.lset (its':=its++[u]) hH e (by simp) (r.append (.cons ru .nil)) ?_,rfl,q⟩;rw[X8,dE];omega
def jgv:R2:=λx y H Q=>∃l k xs,x=.ref l/\y=.int k/\H l=aa (.lst xs)/\-(2^63)<=k/\k<2^63/\xs.length*k.toNat<=au /\
 ∀p,H p=ah->Q (.ref p) (upd H p (.lst (ay k.toNat xs).flatten))
theorem len_rep{α:Type}(xs:List α)(k:Nat):(ay k xs).flatten.length=k*xs.length:=by
 induction k with
 |zero=>simp
 |succ k ih=>rw[Pb,T9,X8,ih,Nat.succ_mul,Nat.add_comm]
theorem jbb:OpR X (b0 .Mult) jgv:=by
 intro pins s σ H x y v u Q I rx ry h;obtain⟨l,k,xs,rfl,rfl,hH,h1,h2,hz,q⟩:=h;cases rx;obtain⟨t,rfl⟩:=ry;obtain⟨z,its,n,r,hl,e⟩:=I.lstM hH;have hlen:its.toArray.size*k.toNat<=au:=by rw[X6,<-hl];exact hz
 have hcap:¬its.toArray.size*k.toNat>(2^63-1)/8:=by
  have:(au:Nat)<=(2^63-1)/8:=by decide
  omega
 have hfit:¬(!Builtin.List.listFitsIndex k)=ag:=by rw[fitsIndex_both h1 h2];exact xu
 have hlong:¬cn (its.toArray.size*k.toNat)=ag:=by rw[j4j hlen];exact xu
 have hnew:cG (λx1 x2=>x1++x2) #[] (ay (if its.toArray.isEmpty=ag then 0 else k.toNat) its.toArray)=(ay k.toNat its).flatten.toArray:=by
  have f0:∀m:Nat,cG (λx1 x2=>x1++x2) #[] (ay m its.toArray)=(ay m its).flatten.toArray:=λm=>by have:=foldl_rep its m [];rw[fv]at this;exact this
  rw[f0];cases its with
  |nil=>simp
  |cons a r'=>rw[if_neg (by simp)]
 refine gO (T:="list") (U:="int") (by decide) ⟨_,e,rfl⟩ (λs'=>fq s' k t) noFill_list_mul jS dM repeat_list F.slot_int_index.lookup
  (bX dM (fq s k t) jH (jD _ _) (int___rmul___int_list k t l its.toArray n)
   ⟨e,rfl,⟨_,e,rfl⟩,bX F.slot_list_mul ⟨_,e,rfl⟩ F.entry_list_mul (F.args_list_mul_2 _ _) (AutoListH.list___mul___list_int_3 l its.toArray n k t hfit hcap hlong) ⟨e,?_⟩⟩)
 rw[hnew];exact⟨.ref _,_,I.lnew (t':=s.toks) (r.rep k.toNat) (by rw[len_rep,gE];exact hz),rfl,q _ I.fresh⟩
end
end L2
namespace Att
open PySem PySem.W PySem.Calls PyProof.Rows
theorem O1{P:lE}{h:aI}:∀(ns:List Int)(vs:List aj),WellAll P h vs (ns.map WData.int)->gp vs ns:=by
 intro ns;induction ns with
 |nil =>intro vs w;rw[du]at w;cases w;exact .nil
 |cons n ns ih =>
  intro vs w;rw[xx]at w;cases w with
  |cons a b =>cases a;exact .cons _ _ (ih _ b)
theorem j1e{l:cQ}{n:Nat}(hn:l.most=aa n){P:lE}{h:aI}{args:List WData}{vals:List aj}
  (hpre:l.row.toRowW.claim.pre args=ag) (hwl:WellAll P h vals args) :
  ∃a vs ns,vals=[aK a]/\args=[WData.list (ns.map WData.int)]/\h.get? a=aa { cls:=.type "list",data:=.seq vs.toArray }/\gp vs ns/\ns.length<=n:=by
 have hsh:WShape.hasAll [] args [.list .int]=ag:=(pre_splitW hpre).1;have hc:l.pre.holds [] { args:=args }=ag:=(pre_splitW hpre).2;obtain⟨d,r,rfl,h1,h2⟩:=hasAllW_cons hsh;obtain rfl:=hasAllW_nil h2;obtain⟨xs,rfl,h3⟩:=hasW_list h1;obtain⟨ns,rfl⟩:=items_int h3;have hlen:ns.length<=n:=by
  unfold OpenLaw.pre at hc;have h4:(WTm.not (.lt (.lit (.int (n:Int))) (.len (.arg 0)))).holds [] { args:=[.list (ns.map .int)] }=ag:=by have h4:=(holds_andW hc).1;rw[hn]at h4;exact h4
  have h5:=condW_of h4 (w_not (w_lt w_lit (w_len_list (w_arg rfl))));rw[X5]at h5;refine Nat.le_of_not_lt λq=>?_;have q':(n:Int)<((ns.length:Nat):Int):=by omega
  first
   |(rw[decide_eq_true q']at h5;exact absurd h5 (by decide))
   |(simp at h5;omega)
 cases hwl with
 |cons w1 w2 =>
  cases w2;cases w1 with
  |list ho hall=>exact⟨_,_,ns,rfl,rfl,ho,O1 ns _ hall,hlen⟩
theorem j1j(l:cQ)(args:List WData):l.row.toRowW.claim.post args (.bool ag) args=ag :=
 postW_of (r:=l.row.toRowW) (X:=(ag==ag))
  (show WShape.has [] (.bool ag) .bool=ag by first|rfl|decide|simp[WShape.has,WShape.arms,WShape.armsAll])
  (show(WTm.eq .res (.lit (.bool ag))).value [] { args:=args,res:=aa (.bool ag),after:=args }=aa (.bool (ag==ag))from w_eq_bool (w_res rfl) w_lit) rfl
theorem attach_call{l:cQ}{n:Nat}{q:av}{loose:List ao}{XP:(ao->Option aj)->aI->Prop}{YP:aA->aI->Prop}{d:DefRec}
  (hn:l.most=aa n) (hdf:d.params.defaults=[])
  (call:∀(w:aA)(s₀ s₁:aq)(mg mb:k5j)(fa:ai)(o:cw)(pm cd doc:aj)(a:ai) (vs:List aj) (ns:List Int),
   Ground q loose [] XP w s₀ mg mb s₁.heap->YP w s₁.heap ->
   s₁.heap.get? fa=aa o->o.data=.func (docDef d.name d.params d.body d.scope pm cd doc)->s₁.heap.CodeRec cd d.name->mg d.name=aa (.ref fa) ->
   s₁.heap.get? a=aa { cls:=.type "list",data:=.seq vs.toArray }->gp vs ns->ns.length<=n->s₁.gens = #[] ->
   bS (aF l.prog w) fO (.call (.ref fa) ⟨[.ref a],[]⟩) (λr s'=>r=.ok (.ret (.bool ag))/\OldK s₁.heap s'.heap/\s'.os=s₁.os/\dm s'.gens) s₁) :
  hJ q loose XP YP l.row.toRowW d [] (λf vs=>ig f vs):=by
 intro w s₀ s₁ mg mb G Y fa o pm cd doc dV kV ho hd hcd hD hmg hg args vals as hpre hlay hrd hwl hlo;obtain rfl:dV=.none:=Dflts.none hD hdf;obtain rfl:kV=.none:=Dflts.noKw hD;obtain⟨a,vs,ns,rfl,rfl,hobj,hints,hlen⟩:=j1e hn hpre hwl;refine enter_call (cb (call w s₀ s₁ mg mb fa o pm cd doc a vs ns G Y ho (fd_plain hd) hcd hmg hobj hints hlen hg) λr s' hq=>?_);obtain⟨rfl,h2,h3,h4⟩:=hq;exact⟨.inl ⟨.bool ag,.bool ag,[],rfl,λ_=>rfl,.bool ag,j1j l _,λ_=>⟨List.Pairwise.nil,λ_ hm=>(nomatch hm)⟩⟩,h2,h3,h4⟩
end Att
namespace L2
open PySem PySem.Spec PyProof.Rows
theorem Bp:∀{vs:List aj}{ns:List Int},gp vs ns->Vals (ns.map V.int) vs
 |_,_,.nil=>.nil
 |_,_,.cons n t h=>.cons ⟨t,rfl⟩ (Bp h)
def Only(ts:List (ai×ao))(H:Hp):Prop:=(∀b,H b=ah\/(∃o xs,H b=aa (.frz o (.lst xs)))\/∃q,(b,q)∈ts/\H b=aa (.cod q))/\∀t∈ts,H t.1=aa (.cod t.2)
def j6b(ts:List (ai×ao))(h:aI):Prop:=(ts.map (·.1)).Nodup/\∀t∈ts,(∃c,PySem.W.CodeHd h c t.1)/\h.get? t.1=aa (W.tabObj #[])
theorem Kq:∀{ts:List (ai×ao)} {b:ai} {q:ao},ts.lookup b=aa q->(b,q)∈ts
 |p::r,b,q,h=>by
  rw[xj]at h;cases e:b==p.1 with
  |true=>rw[e]at h;cases h;rw[beq_iff_eq.mp e];exact X4 ..
  |false=>rw[e]at h;exact kj _ (Kq h)
theorem lookup_tab:∀{ts:List (ai×ao)},(ts.map (·.1)).Nodup->∀t∈ts,ts.lookup t.1=aa t.2
 |[],_,_,h=>by cases h
 |p::r,nd,t,ht=>by
  rw[xx]at nd;rcases xf.mp ht with e|ht
  .subst e;rw[xj,beq_self_eq_true]
  .have ne:(t.1==p.1)=ae:=beq_eq_false_iff_ne.mpr λz=>(Xd.mp nd).1 (z▸ij ht);rw[xj,ne];exact lookup_tab (Xd.mp nd).2 t ht
theorem j4r{P:av}{w:aA}{K:k5g}{mg mb:k5j}{CX:CXT}{k:Nat}{fa a:ai}{fd:aD}{x:ao}{sp:Sp}{s₁:aq}{vs:List aj}{ns:List Int}{ts:List (ai×ao)}
  (KX:K.In s₁.heap) (hns:s₁.heap.Ns ax mg) (hb:s₁.heap.Ns cV mb) (hbb:∀x:ao,x ≠ "__name__"->mb x=aZ x) (hlim:s₁.heap.NoLimit)
  (hbm:∃bm ob,mg "__builtins__" = aa (.ref bm)/\bm≠cV/\s₁.heap.get? bm=aa ob/\ob.cls=.type "module"/\ob.dict=aa cV/\ob.data=.plain) (hT:j6b ts s₁.heap) (hK0:W.noTabs K=ag) (hg:s₁.gens = #[])
  (ha:s₁.heap.get? a=aa { cls:=.type "list",data:=.seq vs.toArray }) (hi:gp vs ns) (hl:ns.length<=au) (hr:Room k fO)
  (F:∀base:aI,K.In base->base.Ns ax mg->FnOk P w K mg base CX k fa fd [x] sp) (hbind:∀(s:aq)(u:aj),fU s fd ⟨[u],[]⟩ [(x,u)])
  (hsp:∀H:Hp,Only ts H->SqL K H a (ns.map V.int)->sp [.ref a] H (λv H'=>v=.bl ag/\∀b o,H b=aa o->H' b=aa o) λ_ _ _=>False)
  (hCX:∀H e s',CX [] H s₁ (λ_ _ _=>False) e s'->False) :
  bS (aF P w) fO (.call (.ref fa) ⟨[.ref a],[]⟩) (λr s'=>r=.ok (.ret (.bool ag))/\OldK s₁.heap s'.heap/\s'.os=s₁.os/\dm s'.gens) s₁:=by
 have rv:=Bp hi;have lenV:=hi.length;have at_:∀{q:ao}{b:ai},(b,q)∈ts->s₁.heap.get? b=aa (W.tabObj #[]):=λ{q b} h=>(hT.2 _ h).2;have core:∀H:Hp,Only ts H->SqL K H a (ns.map V.int)->HOk P w H s₁.heap->(∀b,H b≠ah->b=a\/∃q,(b,q)∈ts)->(H a≠ah->K.lookup a=ah) ->
   bS (aF P w) fO (.call (.ref fa) ⟨[.ref a],[]⟩) (λr s'=>r=.ok (.ret (.bool ag))/\OldK s₁.heap s'.heap/\s'.os=s₁.os/\dm s'.gens) s₁:=by
  intro H hO hS hok hA hK;have base_of:∀{b:ai}{o:cw},s₁.heap.get? b=aa o->H b=ah->(Yz s₁.heap H).get? b=aa o:=λe n=>j5f e n;have noA:∀{b:ai}{o:cw},s₁.heap.get? b=aa o->(∀vs n,o.data≠.seq vs n)->(∀vs,o.data≠.fields vs)->H b=ah:=λ{b o} e d d2=>by
   cases q:H b with
   |none=>rfl
   |some u =>
    rcases hA b (by rw[q];simp)with e'|⟨q',e'⟩
    .subst e';rw[ha]at e;cases e;exact absurd rfl (d _ _)
    .rw[at_ e']at e;cases e;exact absurd rfl (d2 _)
  have nsK:∀{b:ai}{m:k5j},s₁.heap.Ns b m->(Yz s₁.heap H).Ns b m:=λ{b m} ⟨o,es,ep,e,d,r⟩=>⟨o,es,ep,base_of e (noA e (λ_ _ z=>by rw[d]at z;cases z) λ_ z=>by rw[d]at z;cases z),d,r⟩
  have hKb:K.In (Yz s₁.heap H):=λb o e=>base_of (KX b o e) (by
   cases q:H b with
   |none=>rfl
   |some u =>
    rcases hA b (by rw[q];simp)with e'|⟨q',e'⟩
    .subst e'
     rw[hK (by rw[q];simp)]at e;cases e
    .have e2:=KX b o e
     rw[at_ e']at e2
     have h2:=Xk.mp hK0 (b,o) (W.mem_of_lookupK e)
     cases e2
     exact absurd (show ae=ag from h2) xu)
  have hM:Mod K mg (Yz s₁.heap H):=⟨hKb,nsK hns,⟨mb,nsK hb,hbb⟩,(let ⟨mc,h1,h2⟩:=hlim;⟨mc,nsK h1,h2⟩),
   let ⟨bm,ob,b1,b2,b3,b4,b5,b6⟩:=hbm;⟨bm,ob,b1,b2,base_of b3 (noA b3 (λ_ _ z=>by rw[b6]at z;cases z) λ_ z=>by rw[b6]at z;cases z),b4,b5,b6⟩⟩
  have e0:Env0 P w K mg (Yz s₁.heap H) fO [] s₁ H:=⟨rfl,hM,λb o e=>j8e e,kJ (j2g _ _),trivial,λb hb=>absurd (show b∈([]:List ai)from hb) (by simp),hok,.of_eq hg⟩
  refine cb ((F _ hKb (nsK hns)).run fO [] s₁ H ⟨[.ref a],[]⟩ [.ref a] [.ref a] _ _ hr e0 (hbind s₁ (.ref a)) (.cons rfl .nil) (hsp H hO hS)) λr s' h=>?_;cases r with
  |error e=>exact(hCX H e s' h).elim
  |ok fl =>
   cases fl with
   |next=>exact aU h
   |brk=>exact aU h
   |cont=>exact aU h
   |ret u =>
    obtain⟨v,H',os,bare,un,hok',r',q,sm⟩:=h;have q':v=.bl ag:=q;subst q';obtain rfl:u=bE ag:=r';have main:∀b o,s₁.heap.get? b=aa o->s'.heap.get? b=aa o\/((∃q,(b,q)∈ts)/\o=W.tabObj #[]/\∃ps,s'.heap.get? b=aa (W.tabObj ps)):=λb o e=>by
     cases q:H b with
     |none=>exact .inl (un.keep b o e q (by intro z;exact absurd (show b∈([]:List ai)from z) (by simp)) (by simp))
     |some u =>
      rcases hO.1 b with z|⟨ob,xs,z⟩|⟨q',hq,z⟩
      .rw[q]at z;cases z
      .have z2:=un.frzs b ob _ z;obtain⟨e1,_⟩:=hok b _ z;obtain⟨e2,_⟩:=hok' b _ z2;rw[e]at e1;cases e1;exact .inl e2
      .obtain⟨ps,e2,_⟩:=(show jo P w H' s'.heap b (.cod q')from hok' b _ (sm b _ z))
       rw[at_ hq]at e;exact .inr ⟨⟨q',hq⟩,(aB e).symm,ps,e2⟩
    refine⟨rfl,⟨λb o e=>?_,λb o e=>?_⟩,os,bare⟩
    .rcases main b o e with z|⟨⟨q,hq⟩,rfl,ps,z⟩
     .exact .inl z
     .obtain⟨c,hc⟩:=(hT.2 _ hq).1;exact .inr (.inl ⟨(hc.tab (at_ hq)).isCodeTable,rfl,#[],ps,rfl,by rw[z,Array.empty_append]⟩)
    .rcases main b o e with z|⟨_,_,ps,z⟩
     .exact⟨o,z⟩
     .exact⟨_,z⟩
 have lkT:∀b q,ts.lookup b=aa q->(b,q)∈ts:=λb q h=>Kq h;have ofT:∀t∈ts,ts.lookup t.1=aa t.2:=lookup_tab hT.1;have okT:∀(H:Hp) b q,(b,q)∈ts->jo P w H s₁.heap b (.cod q):=λH b q h=>⟨#[],at_ h,trivial,λpos cv z=>by cases z⟩
 cases hk:K.lookup a with
 |some o =>
  have e:=KX a o hk;rw[ha]at e;cases e;refine core (λb=>(ts.lookup b).map HO.cod) ⟨λb=>?_,λt ht=>by show(ts.lookup t.1).map HO.cod=_;rw[ofT t ht];rfl⟩ (.inr ⟨_,vs.toArray,_,hk,rfl,rfl,rfl,by rw[X6,lenV];exact hl,by simpa using rv⟩) (λb u z=>?_) (λb z=>?_) λz=>?_
  .cases e:ts.lookup b with
   |none=>exact .inl (by show(ts.lookup b).map HO.cod=_;rw[e];rfl)
   |some q=>exact .inr (.inr ⟨q,lkT b q e,by show(ts.lookup b).map HO.cod=_;rw[e];rfl⟩)
  .obtain⟨q,e,rfl⟩:=Ph.mp z;exact okT _ b q (lkT b q e)
  .cases e:ts.lookup b with
   |none=>exact absurd (by show(ts.lookup b).map HO.cod=_;rw[e];rfl) z
   |some q=>exact .inr ⟨q,lkT b q e⟩
  .cases e:ts.lookup a with
   |none=>exact absurd (by show(ts.lookup a).map HO.cod=_;rw[e];rfl) z
   |some q=>have:=at_ (lkT a q e);rw[ha]at this;cases this
 |none =>
  have na:∀q,(a,q)∉ts:=λq h=>by have:=at_ h;rw[ha]at this;cases this
  refine core (λb=>if b=a then aa (.frz { cls:=.type "list",data:=.seq vs.toArray } (.lst (ns.map V.int))) else(ts.lookup b).map HO.cod) ⟨λb=>?_,λt ht=>?_⟩ (.inl (.inr ⟨{ cls:=.type "list",data:=.seq vs.toArray },if_pos rfl⟩)) (λb u z=>?_) (λb z=>?_) λ_=>hk
  .by_cases hb:b=a
   .exact .inr (.inl ⟨_,_,if_pos hb⟩)
   .cases e:ts.lookup b with
    |none=>exact .inl (by show(if b=a then _ else _)=_;rw[if_neg hb,e];rfl)
    |some q=>exact .inr (.inr ⟨q,lkT b q e,by show(if b=a then _ else _)=_;rw[if_neg hb,e];rfl⟩)
  .have nb:t.1≠a:=λz=>na t.2 (z▸ht);show(if t.1=a then _ else _)=_;rw[if_neg nb,ofT t ht];rfl
  .by_cases hb:b=a
   .have z':=(if_pos hb).symm.trans z;cases z';subst hb;exact⟨ha,by rw[X5];exact hl,vs,_,rv,ha⟩
   .have z':=(if_neg hb).symm.trans z;obtain⟨q,e,rfl⟩:=Ph.mp z';exact okT _ b q (lkT b q e)
  .by_cases hb:b=a
   .exact .inl hb
   .cases e:ts.lookup b with
    |none=>exact absurd (by show(if b=a then _ else _)=_;rw[if_neg hb,e];rfl) z
    |some q=>exact .inr ⟨q,lkT b q e⟩
theorem walk_of{l:cQ}{n k:Nat}{q:av}{loose:List ao}{XP:(ao->Option aj)->aI->Prop}{YP:aA->aI->Prop}{d:DefRec}{K:lE->k5g}{CX:aA->CXT}{sp:aA->Sp}{x:ao}{ts:aA->List (ai×ao)}
  (hn:l.most=aa n) (hn2:n<=au) (hdf:d.params.defaults=[]) (hr:Room k fO)
  (hY:∀(w:aA)(h:aI),YP w h->(K w.params).In h/\j6b (ts w) h) (hK0:∀w:aA,W.noTabs (K w.params)=ag)
  (F:∀(w:aA)(mg:k5j)(fa:ai)(h:aI),(K w.params).In h->h.Ns ax mg->mg d.name=aa (.ref fa) ->
   ∃fd:aD,(∀(s:aq)(u:aj),fU s fd ⟨[u],[]⟩ [(x,u)]) /\
    ∀base:aI,(K w.params).In base->base.Ns ax mg->FnOk l.prog w (K w.params) mg base (CX w) k fa fd [x] (sp w))
  (hsp:∀(w:aA)(H:Hp)(a:ai)(ns:List Int),ns.length<=n->Only (ts w) H->SqL (K w.params) H a (ns.map V.int)->sp w [.ref a] H (λv H'=>v=.bl ag/\∀b o,H b=aa o->H' b=aa o) λ_ _ _=>False)
  (hCX:∀(w:aA)(H:Hp)(s:aq)(e:aj)(s':aq),CX w [] H s (λ_ _ _=>False) e s'->False) :
  hJ q loose XP YP l.row.toRowW d [] (λf vs=>ig f vs):=by
 refine Att.attach_call hn hdf λw s₀ s₁ mg mb fa o pm cd doc a vs ns G Y ho hd hcd hmg hobj hints hlen hg=>?_;obtain⟨KX,hT⟩:=hY w _ Y;obtain⟨fd,hb,hF⟩:=F w mg fa _ KX G.T.g hmg;exact j4r KX G.T.g G.T.b G.T.builtins G.T.nolimit G.T.bmain hT (hK0 w) hg hobj hints (Xf hlen hn2) hr hF hb (λH hO hS=>hsp w H a ns hlen hO hS) λH e s'=>hCX w H s₁ e s'
end L2
/- THE LAST THEOREM (shape;LID,My.* are yours):
 My.Adr: a structure of the addresses that your layer names (classes,functions);My.Txt K t: a structure (Prop) of the equations over K;
 My.txt_mk:{K} {implicit addresses ..} (e1:cM K ax "law" = aa (aa (.ref f))) (e2:K.lookup f=aa ⟨oc,od,.func (br "law" "law" params body scope dV kV doc pm an cdv ct),sl⟩) (e3:gw K cdv "law" = ag) ..:∃t,My.Txt K t
(the tactic k_is has no namespace: write k_is) -/
namespace L2
open PySem PySem.Spec PyProof.Rows
noncomputable def inClass(s:aG)(j:Nat):aG:=match s with
 |.ClassDef _ _ _ body _ _ _ _ _ _ _=>body.getD j (.Pass ⟨0,0,0,0⟩)
 |_=>.Pass ⟨0,0,0,0⟩
noncomputable def jy(s:aG):iw:=match s with
 |.FunctionDef _ a _ _ _ _ _ _ _ _=>a
 |_=>{ posonlyargs:=[],args:=[],vararg:=ah,kwonlyargs:=[],kw_defaults:=[],kwarg:=ah,defaults:=[] }
noncomputable def jh(s:aG):List aG:=match s with
 |.FunctionDef _ _ b _ _ _ _ _ _ _=>b
 |_=>[]
noncomputable def j0(s:aG):be:=match s with
 |.FunctionDef _ _ _ _ _ _ sc _ _ _=>sc
 |_=>{ kind:=.function,names:=[],isGenerator:=ae,isCoroutine:=ae }
noncomputable abbrev CX0:CXT:=λ_ _ _ _ _ _=>False
noncomputable abbrev E0:XK:=λ_ _ _=>False
theorem Jj{X:Cx}:Zt CX0 X E0:=λ_ _ _ _ _ _ _ h=>h.elim
structure Fun(K:k5g)(x qual:ao)(st:aG)(f:ai)(fd:aD):Prop where
 ex:∃(oc:aj)(od:Option ai)(dV kV doc pm:aj)(an:Option ai)(cdv ct:aj)(osl:Array (Option aj)),
  fd=W.fnOf x qual (jy st) (jh st) (j0 st) dV kV doc pm an cdv ct/\K.lookup f=aa ⟨oc,od,.func fd,osl⟩/\W.codeIn K cdv qual=ag
 kp:W.keepIn K (.ref f)=ag
section
variable{P:av}{w:aA}{K:k5g}{mg:k5j}{base:aI}
theorem Fun.ok{x qual:ao}{st:aG}{f:ai}{fd:aD}{N ps:List ao}{k:Nat}{sp:Sp}(F:Fun K x qual st f fd)(S:FnScope N ps (j0 st))(len:∀vs H Q E,sp vs H Q E->vs.length=ps.length)
  (hbody:∀(cdv:aj)(A:aE)(outer:List cf)(s:aq)(H:Hp)(vs:List V)(Q:VK) (E:XK),Room k (A.deeper (bc qual (j0 st) s.heap.objs.size f cdv))->sp vs H Q E ->
   ∃t,PSs (qg CX0 P w K mg base N qual (j0 st) f cdv A outer s H E).nox (jh st) t/\t { nx:=λ_ H'=>Q .non H',rt:=Q } (start N vs) H):FnOk P w K mg base CX0 (k+1) f fd ps sp:=by
 obtain⟨oc,od,dV,kV,doc,pm,an,cdv,ct,osl,rfl,lk,hcd⟩:=F.ex;refine Fx lk hcd S len λA outer s H vs Q E hr hsp=>?_;obtain⟨t,h,q⟩:=hbody cdv A outer s H vs Q E hr hsp;exact⟨t,h.nox,q⟩
theorem Fun.binds{x qual:ao}{st:aG}{f:ai}{kV doc pm:aj}{an:Option ai}{cdv ct:aj}{ps:List ao}(F:Fun K x qual st f (W.fnOf x qual (jy st) (jh st) (j0 st) .none kV doc pm an cdv ct))
  (h:∀(kV doc pm:aj)(an:Option ai)(cdv ct:aj)(us:List aj),us.length=ps.length->bB (W.fnOf x qual (jy st) (jh st) (j0 st) .none kV doc pm an cdv ct) ⟨us,[]⟩=pure (ps.zip us)):Binds K (W.fnOf x qual (jy st) (jh st) (j0 st) .none kV doc pm an cdv ct) ps []:=.all (h kV doc pm an cdv ct)
theorem Qh{x qual:ao}{st:aG}{f:ai}{oc:aj}{od an:Option ai}{osl:Array (Option aj)}{dV kV doc pm cdv ct:aj}(l:K.lookup f=aa ⟨oc,od,.func (W.fnOf x qual (jy st) (jh st) (j0 st) dV kV doc pm an cdv ct),osl⟩)
  (c:W.codeIn K cdv qual=ag) (k:W.keepIn K (.ref f)=ag):Fun K x qual st f (W.fnOf x qual (jy st) (jh st) (j0 st) dV kV doc pm an cdv ct):=⟨⟨oc,od,dV,kV,doc,pm,an,cdv,ct,osl,rfl,l,c⟩,k⟩
end
theorem Zw{A B:Prop}(h:B):if ae=ag then A else B:=by rw[if_neg xu];exact h
theorem Uw{A B:Prop}(h:A):if ag=ag then A else B:=by rw[if_pos rfl];exact h
def jb(H H':Hp):Prop:=∀b o,H b=aa o->H' b=aa o
theorem jb.refl(H:Hp):jb H H:=λ_ _ h=>h
theorem jb.trans{H H1 H2:Hp}(a:jb H H1)(b:jb H1 H2):jb H H2:=λc o h=>b c o (a c o h)
theorem jb.free{H H':Hp}(e:jb H H'){l:ai}(h:H' l=ah):H l=ah:=by
 cases q:H l with
 |none=>rfl
 |some o =>rw[e l o q]at h;cases h
theorem jb.seq{K:k5g}{H H':Hp}{a:ai}{xs:List V}(e:jb H H')(h:SqL K H a xs):SqL K H' a xs:=by
 rcases h with (h|⟨o,h⟩)|h
 .exact .inl (.inl (e _ _ h))
 .exact .inl (.inr ⟨o,e _ _ h⟩)
 .exact .inr h
set_option genInjectivity true in
inductive D where
 |non
 |bl (b:Bool)
 |int (i:Int)
 |str (x:ao)
 |tup (ds:List D)
 |lst (ds:List D)
 |dct (ks:List (List Int)) (ds:List D)
 |sct (kvs:List (ao×Int))
 |fn (x:ao) (cs:List D)
noncomputable def kvI(kvs:List (ao×Int)):List (Key×V):=kvs.map λp=>(.inr p.1,.int p.2)
noncomputable def zc(x:ao):ao:=x ++ ".<locals>." ++ "<lambda>"
noncomputable abbrev Tx:=iw×ar×be
noncomputable def jh2:ar->Option Tx
 |.Lambda a b sc _=>aa (a,b,sc)
 |.Call _ es _ _=>match es.getLast? with
  |some (.Lambda a b sc _)=>aa (a,b,sc)
  |_=>ah
 |_=>ah
noncomputable def jbr(b:List aG):Option Tx:=match b.getLast? with
 |some (.Return (aa e) _)=>jh2 e
 |_=>ah
noncomputable def j0e(K:k5g)(x:ao):Option Tx:=match W.nsIn K ax x with
 |some (aa (.ref f))=>match K.lookup f with
  |some ⟨_,_,.func fd,_⟩=>match fd.body with
   |.stmts b=>jbr b
   |_=>ah
  |_=>ah
 |_=>ah
noncomputable def Zk(sc:be):List ao:=((sc.names.filter λp=>p.2==.free).map (·.1)).reverse
def vy(H:Hp):List ai->List V->Prop
 |[],vs=>vs=[]
 |c::cs,vs=>∃v r o u,vs=v::r/\H c=aa (.frz o (.own 0))/\o.data=.cell (aa u)/\RelV v u/\vy H cs r
theorem vy.mono{H H':Hp}(g:jb H H'):∀{cs:List ai}{vs:List V},vy H cs vs->vy H' cs vs
 |[],_,h=>h
 |_::_,_,⟨v,r,o,u,e,h,d,rv,l⟩=>⟨v,r,o,u,e,g _ _ h,d,rv,l.mono g⟩
structure LamAt(K:k5g)(H:Hp)(x:ao)(a c:ai)(t:Tx)(cl:List (ao×ai))(vs:List V):Prop where
 tx:j0e K x=aa t
 fo:∃pm ctv,H a=aa (.frz (W.kla_obj "<lambda>" (zc x) t.1 t.2.1 t.2.2 cl pm c ctv) (.own 0))
 co:∃oc,H c=aa (.frz oc (.own 0))/\j0y oc (zc x)
 nm:cl.map (·.1)=Zk t.2.2
 nd:(cl.map (·.2)).Nodup
 cs:vy H (cl.map (·.2)) vs
theorem LamAt.mono{K:k5g}{H H':Hp}{x:ao}{a c:ai}{tx:Tx}{cl:List (ao×ai)}{vs:List V}(g:jb H H')(h:LamAt K H x a c tx cl vs):LamAt K H' x a c tx cl vs :=
 ⟨h.tx,let ⟨pm,ctv,e⟩:=h.fo;⟨pm,ctv,g _ _ e⟩,let ⟨oc,e,q⟩:=h.co;⟨oc,g _ _ e,q⟩,h.nm,h.nd,h.cs.mono g⟩
noncomputable def del(H:Hp)(A:List ai):Hp:=λb=>if b∈A then ah else H b
section
variable{H H' F:Hp}{A A':List ai}{a b:ai}{o:HO}
theorem qp(h:b∈A):del H A b=ah:=if_pos h
theorem jc(h:b∉A):del H A b=H b:=if_neg h
theorem of_del(h:del H A b=aa o):b∉A/\H b=aa o:=by
 by_cases e:b∈A
 .rw[qp e]at h;cases h
 .rw[jc e]at h;exact⟨e,h⟩
theorem jk(g:jb H H'):jb (del H A) (del H' A):=λb o h=>by obtain⟨n,e⟩:=of_del h;rw[jc n];exact g b o e
end
theorem jb.seqT{K:k5g}{H H':Hp}{a:ai}{xs:List V}(e:jb H H')(h:SqT K H a xs):SqT K H' a xs:=by
 rcases h with (h|⟨o,h⟩)|h
 .exact .inl (.inl (e _ _ h))
 .exact .inl (.inr ⟨o,e _ _ h⟩)
 .exact .inr h
mutual
def Enc(K:k5g)(H:Hp):D->V->Prop
 |.non,v=>v=.non
 |.bl b,v=>v=.bl b
 |.int i,v=>v=.int i
 |.str x,v=>v=.str x
 |.tup ds,v=>∃a xs,v=.ref a/\SqT K H a xs/\jd K H ds xs
 |.lst ds,v=>∃a xs,v=.ref a/\SqL K H a xs/\jd K H ds xs
 |.dct ks ds,v=>∃(a:ai)(xs:List (List Int×ai×aj)) (ep:Nat) (vs:List V),v=.ref a/\H a=aa (.dI xs ep)/\ks=(xs.map λx=>x.1)/\(∀x∈xs,SqT K H x.2.1 (x.1.map V.int))/\Vals vs (xs.map λx=>x.2.2)/\jd K H ds vs
 |.sct kvs,v=>∃a:ai,v=.ref a/\H a=aa (.dK (kvI kvs))
 |.fn x ds,v=>∃(a c:ai)(tx:Tx)(cl:List (ao×ai)) (vs:List V),v=.ref a/\LamAt K H x a c tx cl vs/\jd K (del H (cl.map (·.2))) ds vs
def jd(K:k5g)(H:Hp):List D->List V->Prop
 |[],xs=>xs=[]
 |d::ds,xs=>∃x r,xs=x::r/\Enc K H d x/\jd K H ds r
end
mutual
theorem Enc.mono{K:k5g}{H H':Hp}(g:jb H H'):∀{d:D}{v:V},Enc K H d v->Enc K H' d v
 |.non,_,h=>h
 |.bl _,_,h=>h
 |.int _,_,h=>h
 |.str _,_,h=>h
 |.tup _,_,⟨a,xs,e,q,l⟩=>⟨a,xs,e,g.seqT q,jd.mono g l⟩
 |.lst _,_,⟨a,xs,e,q,l⟩=>⟨a,xs,e,g.seq q,jd.mono g l⟩
 |.dct _ _,_,⟨a,xs,ep,vs,e,q,ek,kt,rv,l⟩=>⟨a,xs,ep,vs,e,g _ _ q,ek,λx hx=>g.seqT (kt x hx),rv,jd.mono g l⟩
 |.sct _,_,⟨a,e,q⟩=>⟨a,e,g _ _ q⟩
 |.fn _ _,_,⟨a,c,tx,cl,vs,e,q,l⟩=>⟨a,c,tx,cl,vs,e,q.mono g,jd.mono (jk g) l⟩
theorem jd.mono{K:k5g}{H H':Hp}(g:jb H H'):∀{ds:List D}{xs:List V},jd K H ds xs->jd K H' ds xs
 |[],_,h=>h
 |_::_,_,⟨x,r,e,h,l⟩=>⟨x,r,e,Enc.mono g h,jd.mono g l⟩
end
section
variable{K:k5g}{H H':Hp}{ds ds':List D}{xs ys:List V}
theorem jd.length:∀{ds:List D}{xs:List V},jd K H ds xs->xs.length=ds.length
 |[],_,h=>by cases h;rfl
 |_::_,_,⟨x,r,e,_,l⟩=>by subst e;simp[jd.length l]
theorem jd.get:∀{ds:List D}{xs:List V}{i:Nat}{d:D},jd K H ds xs->ds[i]?=aa d->∃x,xs[i]?=aa x/\Enc K H d x
 |[],_,i,d,_,e=>by simp at e
 |_::_,_,0,d,⟨x,r,e,h,_⟩,q=>by subst e;simp at q;subst q;exact⟨x,rfl,h⟩
 |_::_,_,i+1,d,⟨x,r,e,_,l⟩,q=>by subst e;simp at q;obtain⟨y,hy,hd⟩:=jd.get l q;exact⟨y,by simpa using hy,hd⟩
theorem jd.append:∀{ds ds':List D}{xs ys:List V},jd K H ds xs->jd K H ds' ys->jd K H (ds++ds') (xs++ys)
 |[],_,_,_,h,h'=>by cases h;exact h'
 |_::_,_,_,_,⟨x,r,e,h,l⟩,h'=>by subst e;exact⟨x,_,rfl,h,jd.append l h'⟩
theorem jd.one{d:D}{x:V}(h:Enc K H d x):jd K H [d] [x]:=⟨x,[],rfl,h,rfl⟩
theorem jd.take:∀{ds:List D}{xs:List V}(n:Nat),jd K H ds xs->jd K H (ds.take n) (xs.take n)
 |[],_,n,h=>by cases h;simp;exact rfl
 |_::_,_,0,⟨x,r,e,h,l⟩=>by simp;exact rfl
 |_::_,_,n+1,⟨x,r,e,h,l⟩=>by subst e;exact⟨x,_,rfl,h,jd.take n l⟩
theorem jd.drop:∀{ds:List D}{xs:List V}(n:Nat),jd K H ds xs->jd K H (ds.drop n) (xs.drop n)
 |[],_,n,h=>by cases h;simp;exact rfl
 |_::_,_,0,h=>h
 |_::_,_,n+1,⟨x,r,e,h,l⟩=>by subst e;exact jd.drop n l
theorem jd.rep{ds:List D}{xs:List V}(h:jd K H ds xs):∀k:Nat,jd K H (ay k ds).flatten (ay k xs).flatten
 |0=>rfl
 |k+1=>by rw[Pb,Pb,T9,T9];exact h.append (jd.rep h k)
theorem jd.ints(ns:List Int):jd K H (ns.map D.int) (ns.map V.int):=by
 induction ns with
 |nil=>exact rfl
 |cons n ns ih=>exact⟨_,_,rfl,rfl,ih⟩
end
section
variable{H H' F:Hp}{A A':List ai}{a b:ai}{o:HO}
theorem zr:del H []=H:=funext λb=>if_neg (by simp)
theorem jq:jb (del H A) H:=λ_ _ h=>(of_del h).2
theorem J7(h:∀b,b∈A'->b∈A):jb (del H A) (del H A'):=λb o e=>by obtain⟨n,e⟩:=of_del e;rw[jc λz=>n (h b z)];exact e
theorem Yh(h:a∈A):del (upd H a o) A=del H A:=funext λb=>by
 by_cases e:b∈A
 .rw[qp e,qp e]
 .rw[jc e,jc e,jj];rintro rfl;exact e h
noncomputable def mrg(A:List ai)(H F:Hp):Hp:=λb=>if b∈A then H b else F b
theorem J0(h:b∈A):mrg A H F b=H b:=if_pos h
theorem jn(h:b∉A):mrg A H F b=F b:=if_neg h
theorem Qt(h:∀a∈A,F a=ah):del (mrg A H F) A=F:=funext λb=>by
 by_cases e:b∈A
 .rw[qp e,h b e]
 .rw[jc e,jn e]
theorem Ri(g:jb (del H A) F):jb H (mrg A H F):=λb o e=>by
 by_cases z:b∈A
 .rw[J0 z];exact e
 .rw[jn z];exact g b o (by rw[jc z];exact e)
theorem jg(h:H a=ah):jb H (upd H a o):=λb u q=>by rw[jj (jm q h)];exact q
end
def Hd(o:Option HO):Prop:=(∃xs,o=aa (.lst xs))\/∃xs ep,o=aa (.dI xs ep)
def Hq(o:Option HO):Prop:=(∃xs,o=aa (.lst xs))\/(∃xs ep,o=aa (.dI xs ep))\/∃kvs,o=aa (.dK kvs)
theorem Hd.q{o:Option HO}(h:Hd o):Hq o:=h.elim .inl λh=>.inr (.inl h)
section
variable{X:Cx}{pins:k5i}{σ σ':St}{H F:Hp}{s s':aq}{A:List ai}
theorem Inv.noFs(I:Inv X pins σ H s){b:ai}(hb:b∈X.fs):H b=ah:=by
 have q:b∈frs X.stack:=by
  rcases I.ok.stk with e|⟨e,_⟩
  .rw[e];exact hb
  .rw[e];have hb:b∈frs X.outer:=hb;unfold frs at hb ⊢;rw[bQ];split
   .exact hb
   .exact kj _ hb
 exact I.stkFree b q
theorem Inv.hideQ(I:Inv X pins σ H s)(hA:∀a∈A,Hq (H a)):Inv X (pins++Qw A s.heap) σ (del H A) s where
 ok:=I.ok
 os:=I.os
 bare:=I.bare
 base:={
  keep:=I.base.keep
  slot:=I.base.slot
  free:=λb o e n hx=>by
   have q:=I.base.free b o e n hx
   by_cases z:b∈A
   .exact qp z
   .rw[jc z];exact q
  there:=I.base.there
  tups:=λb xs e=>by
   have q:=I.base.tups b xs e
   rw[jc];exact q
   intro z;rcases hA b z with ⟨ys,e'⟩|⟨ys,ep,e'⟩|⟨ys,e'⟩<;>(rw[q]at e';cases e')
  frzs:=λb o u e=>by
   have q:=I.base.frzs b o u e
   rw[jc];exact q
   intro z;rcases hA b z with ⟨ys,e'⟩|⟨ys,ep,e'⟩|⟨ys,e'⟩<;>(rw[q]at e';cases e')
  tbls:=λb ps e=>by
   obtain⟨more,q⟩:=I.base.tbls b ps e
   refine⟨more,?_⟩
   rw[jc];exact q
   intro z;rcases hA b z with ⟨ys,e'⟩|⟨ys,ep,e'⟩|⟨ys,e'⟩<;>(rw[q]at e';cases e') }
 loc:=I.loc
 cell:=I.cell
 free:=by
  by_cases z:X.env.locals∈A
  .exact qp z
  .rw[jc z];exact I.free
 freeC:=λx c e=>by
  by_cases z:c∈A
  .exact qp z
  .rw[jc z];exact I.freeC x c e
 pin:=λp hp=>by
  rw[<-P0]at hp;rcases Pr.mp hp with hp|hp
  .obtain⟨h1,h2,h3⟩:=I.pin p hp;refine⟨h1,?_,h3⟩;by_cases z:p.1∈A
   .exact qp z
   .rw[jc z];exact h2
  .obtain⟨h1,h2⟩:=N6 hp;rcases hA _ h1 with ⟨xs,e⟩|⟨xs,ep,e⟩|⟨xs,e⟩
   .refine⟨h2,qp h1,λz=>?_,λz=>?_,λv z=>?_⟩
    .rw[z,I.free]at e;cases e
    .rw[I.noFs z]at e;cases e
    .obtain⟨_,its,n,_,q⟩:=(show jo X.prog X.w H s.heap p.1 (.lst xs)from I.hok _ _ e)
     rw[h2]at q;rw[aB q]at z;cases z
   .refine⟨h2,qp h1,λz=>?_,λz=>?_,λv z=>?_⟩
    .rw[z,I.free]at e;cases e
    .rw[I.noFs z]at e;cases e
    .obtain⟨_,_,_,ob,es,q,_,qd,_⟩:=(show jo X.prog X.w H s.heap p.1 (.dI xs ep)from I.hok _ _ e)
     rw[h2]at q;rw[aB q,qd]at z;cases z
   .refine⟨h2,qp h1,λz=>?_,λz=>?_,λv z=>?_⟩
    .rw[z,I.free]at e;cases e
    .rw[I.noFs z]at e;cases e
    .obtain⟨_,_,vs,_,ob,es,ep,q,_,qd,_⟩:=(show jo X.prog X.w H s.heap p.1 (.dK xs)from I.hok _ _ e)
     rw[h2]at q;rw[aB q,qd]at z;cases z
 hok:=λa o e=>by
  obtain⟨n,e⟩:=of_del e;refine jo.stay (I.hok a o e) (λb u _ q=>q) (λb q=>?_) (λb xs q=>?_) (λb _ _ q=>?_)
  .rw[jc];exact q;intro z;rcases hA b z with ⟨ys,e'⟩|⟨ys,ep,e'⟩|⟨ys,e'⟩<;>(rw[q]at e';cases e')
  .rw[jc];exact q;intro z;rcases hA b z with ⟨ys,e'⟩|⟨ys,ep,e'⟩|⟨ys,e'⟩<;>(rw[q]at e';cases e')
  .rw[jc];exact q;intro z;rcases hA b z with ⟨ys,e'⟩|⟨ys,ep,e'⟩|⟨ys,e'⟩<;>(rw[q]at e';cases e')
 len:=I.len
theorem Inv.unhideQ(I0:Inv X pins σ H s)(hA:∀a∈A,Hq (H a))(I:Inv X (pins++Qw A s.heap) σ' F s') :
  (∀a∈A,F a=ah)/\Inv X pins σ' (mrg A H F) s':=by
 have pinned:∀a∈A,∃o,s.heap.get? a=aa o/\s'.heap.get? a=aa o/\F a=ah:=λa ha=>by
  have ob:∃o,s.heap.get? a=aa o:=by
   rcases hA a ha with ⟨xs,e⟩|⟨xs,ep,e⟩|⟨xs,e⟩
   .obtain⟨_,its,n,_,q⟩:=(show jo X.prog X.w H s.heap a (.lst xs)from I0.hok _ _ e)
    exact⟨_,q⟩
   .obtain⟨_,_,_,o,es,q,_⟩:=(show jo X.prog X.w H s.heap a (.dI xs ep)from I0.hok _ _ e)
    exact⟨_,q⟩
   .obtain⟨_,_,_,_,o,es,ep,q,_⟩:=(show jo X.prog X.w H s.heap a (.dK xs)from I0.hok _ _ e)
    exact⟨_,q⟩
  obtain⟨o,q⟩:=ob;obtain⟨h1,h2,_⟩:=I.pin (a,_) (Xi _ (Xi _ (Qy ha q)));exact⟨_,q,h1,h2⟩
 have hF:∀a∈A,F a=ah:=λa ha=>let ⟨_,_,_,q⟩:=pinned a ha;q;have out:∀{b:ai}{o:HO},F b=aa o->b∉A:=λ{b o} e z=>by rw[hF b z]at e;cases e
 refine⟨hF,?_⟩;exact{
  ok:=I.ok
  os:=I.os
  bare:=I.bare
  base:={
   keep:=I.base.keep
   slot:=I.base.slot
   free:=λb o e n hx=>by
    by_cases z:b∈A
    .rw[J0 z];exact I0.base.free b o e n hx
    .rw[jn z];exact I.base.free b o e n hx
   there:=I.base.there
   tups:=λb xs e=>by
    have q:=I.base.tups b xs e
    rw[jn (out q)];exact q
   frzs:=λb o u e=>by
    have q:=I.base.frzs b o u e
    rw[jn (out q)];exact q
   tbls:=λb ps e=>by
    obtain⟨more,q⟩:=I.base.tbls b ps e
    exact⟨more,by rw[jn (out q)];exact q⟩ }
  loc:=I.loc
  cell:=I.cell
  free:=by
   by_cases z:X.env.locals∈A
   .rw[J0 z];exact I0.free
   .rw[jn z];exact I.free
  freeC:=λx c e=>by
   by_cases z:c∈A
   .rw[J0 z];exact I0.freeC x c e
   .rw[jn z];exact I.freeC x c e
  pin:=λp hp=>by
   obtain⟨h1,h2,h3⟩:=I.pin p (by rw[<-P0];exact cg _ hp)
   refine⟨h1,?_,h3⟩
   by_cases z:p.1∈A
   .rw[J0 z];exact(I0.pin p hp).2.1
   .rw[jn z];exact h2
  hok:=λa o e=>by
   by_cases z:a∈A
   .rw[J0 z]at e
    obtain⟨o',q1,q2,_⟩:=pinned a z
    rcases hA a z with ⟨xs,e'⟩|⟨xs,ep,e'⟩|⟨xs,e'⟩
    .rw[e']at e;cases e
     obtain⟨hl,its,n,r,q⟩:=(show jo X.prog X.w H s.heap a (.lst xs)from I0.hok _ _ e')
     rw[q]at q1;cases q1
     exact⟨hl,its,n,r,q2⟩
    .rw[e']at e;cases e
     obtain⟨z1,z2,z3,ob,es,q,z4⟩:=(show jo X.prog X.w H s.heap a (.dI xs ep)from I0.hok _ _ e')
     rw[q]at q1;cases q1
     exact⟨z1,z2,z3,_,es,q2,z4⟩
    .rw[e']at e;cases e
     obtain⟨z1,z2,vs,z3,ob,es,ep,q,z4⟩:=(show jo X.prog X.w H s.heap a (.dK xs)from I0.hok _ _ e')
     rw[q]at q1;cases q1
     exact⟨z1,z2,vs,z3,_,es,ep,q2,z4⟩
   .rw[jn z]at e
    refine jo.stay (I.hok a o e) (λb u _ q=>q) (λb q=>?_) (λb xs q=>?_) (λb _ _ q=>?_)
    .rw[jn (out q)];exact q
    .rw[jn (out q)];exact q
    .rw[jn (out q)];exact q
  len:=I.len }
theorem Inv.hide(I:Inv X pins σ H s)(hA:∀a∈A,Hd (H a)):Inv X (pins++Qw A s.heap) σ (del H A) s:=I.hideQ λa h=>(hA a h).q
theorem Inv.unhide(I0:Inv X pins σ H s)(hA:∀a∈A,Hd (H a))(I:Inv X (pins++Qw A s.heap) σ' F s'):(∀a∈A,F a=ah)/\Inv X pins σ' (mrg A H F) s':=I0.unhideQ (λa h=>(hA a h).q) I
end
def vm(X:Cx)(e:ar):TE:=λσ H Q=>∀pins s,Inv X pins σ H s->aC (aF X.prog X.w) X.A (az e X.env) (EP X pins σ Q) X.xe s
def Ds(X:Cx)(e:ar):TT:=λσ H Q=>∀pins s,Inv X pins σ H s->aC (aF X.prog X.w) X.A (ft e X.env (az e X.env)) (TP X pins σ Q) X.xe s
def Oq(X:Cx)(es:List ar):TA:=λσ H Q=>∀pos pins s,Inv X pins σ H s->aC (aF X.prog X.w) X.A (spliced (aJ pos (af es X.env))) (AP X pins σ Q) X.xe s
def Dt(X:Cx)(st:aG):TS:=λD σ H=>∀pins s,Inv X pins σ H s->aC (aF X.prog X.w) X.A (exec st X.env) (SP X pins D) X.xe s
def Jx(X:Cx)(sts:List aG):TS:=λD σ H=>∀pins s,Inv X pins σ H s->aC (aF X.prog X.w) X.A (execs sts X.env) (SP X pins D) X.xe s
def j3w(X:Cx)(tg iter:ar):TI:=λσ H R=>∀pins s,Inv X pins σ H s ->
 aC (aF X.prog X.w) X.A (az iter X.env) (λv s1=>aC (aF X.prog X.w) X.A (lz v) (PIE X pins σ tg R) X.xe s1) X.xe s
section
variable{X:Cx}{e tg:ar}{es:List ar}{st:aG}{sts:List aG}{σ:St}{H:Hp}
theorem peS:PE X e (vm X e):=λpins s _ _ _ I h=>h pins s I
theorem ptS:PT X e (Ds X e):=λpins s _ _ _ I h=>h pins s I
theorem paS:PA X es (Oq X es):=λpos pins s _ _ _ I h=>h pos pins s I
theorem psS:PS X st (Dt X st):=λpins s _ _ _ I h=>h pins s I
theorem zj:PSs X sts (Jx X sts):=λpins s _ _ _ I h=>h pins s I
theorem piS:PI X tg e (j3w X tg e):=λpins s _ _ _ I h=>h pins s I
theorem PE.to{t:TE}(h:PE X e t){Q:VK}(q:t σ H Q):vm X e σ H Q:=λpins s I=>h pins s σ H Q I q
theorem PT.to{t:TT}(h:PT X e t){Q:Bool->Hp->Prop}(q:t σ H Q):Ds X e σ H Q:=λpins s I=>h pins s σ H Q I q
theorem PA.to{t:TA}(h:PA X es t){Q:List V->Hp->Prop}(q:t σ H Q):Oq X es σ H Q:=λpos pins s I=>h pos pins s σ H Q I q
theorem PS.to{t:TS}(h:PS X st t){D:Ends}(q:t D σ H):Dt X st D σ H:=λpins s I=>h pins s σ H D I q
theorem PSs.to{t:TS}(h:PSs X sts t){D:Ends}(q:t D σ H):Jx X sts D σ H:=λpins s I=>h pins s σ H D I q
theorem PI.to{t:TI}(h:PI X tg e t){R:It->Hp->Prop}(q:t σ H R):j3w X tg e σ H R:=λpins s I=>h pins s σ H R I q
theorem Jh{A:List ai}{Q Q':VK}(hA:∀a∈A,Hq (H a))(h:vm X e σ (del H A) Q')(hq:∀v F,Q' v F->(∀a∈A,F a=ah)->Q v (mrg A H F)):vm X e σ H Q :=
 λpins s I=>thn (h _ s (I.hideQ hA)) λv s' ⟨x,F,I',r,q⟩=>let ⟨n,I2⟩:=I.unhideQ hA I';⟨x,_,I2,r,hq x F q n⟩
end
inductive Sl where
 |un
 |val (d:D)
 |own (a:ai) (ds:List D)
 |raw (a:ai) (o:cw) (x:ao)
noncomputable abbrev Rho:=List Sl
noncomputable def Sl.addr:Sl->Option ai
 |.own a _=>aa a
 |_=>ah
noncomputable def owns(ρ:Rho):List ai:=ρ.filterMap Sl.addr
theorem Z6{ρ:Rho}{i:Nat}{a:ai}{ds:List D}(h:ρ[i]?=aa (.own a ds)):a∈owns ρ:=Pn.mpr ⟨_,Xg h,rfl⟩
theorem Wu{ρ:Rho}{a:ai}(h:a∈owns ρ):∃(i:Nat)(ds:List D),ρ[i]?=aa (.own a ds):=by
 obtain⟨s,hs,e⟩:=Pn.mp h;obtain⟨i,hi⟩:=List.mem_iff_getElem?.mp hs;cases s with
 |own b ds=>cases e;exact⟨i,ds,hi⟩
 |un=>cases e
 |val d=>cases e
 |raw b o x=>cases e
theorem jr(s:Sl)(ρ:Rho):owns (s::ρ)=(match s.addr with|some a=>a::owns ρ|none=>owns ρ):=by unfold owns;rw[bQ];cases s.addr<;>rfl
theorem ju{s:Sl}(hs:s.addr=ah):∀{ρ:Rho}{i:Nat},(owns (ρ.set i s)).Sublist (owns ρ)
 |[],_=>List.Sublist.refl _
 |x::r,0=>by
  rw[T4,jr,jr,hs];cases x.addr with
  |none=>exact List.Sublist.refl _
  |some a=>exact List.sublist_cons_self _ _
 |x::r,i+1=>by
  rw[cC,jr,jr];have ih:=ju hs (ρ:=r) (i:=i);cases x.addr with
  |none=>exact ih
  |some a=>exact ih.cons_cons a
theorem Zu{a:ai}{ds ds':List D}:∀{ρ:Rho}{i:Nat},ρ[i]?=aa (.own a ds)->owns (ρ.set i (.own a ds'))=owns ρ
 |[],_,h=>by simp at h
 |x::r,0,h=>by simp at h;subst h;rw[T4,jr,jr];rfl
 |x::r,i+1,h=>by simp at h;rw[cC,jr,jr,Zu h]
theorem Wt{s:Sl}(hs:s.addr=ah):∀{ρ:Rho}{i:Nat},(∀a l,ρ[i]?≠aa (.own a l))->owns (ρ.set i s)=owns ρ
 |[],_,_=>rfl
 |x::r,0,h=>by
  rw[T4,jr,jr,hs];cases x with
  |own a l=>exact absurd rfl (h a l)
  |un=>rfl
  |val d=>rfl
  |raw a o x=>rfl
 |x::r,i+1,h=>by rw[cC,jr,jr,Wt hs (λa l=>by simpa using h a l)]
theorem Qx{a:ai}{ds:List D}:∀{ρ:Rho}{i:Nat},(owns ρ).Nodup->a∉owns ρ->(owns (ρ.set i (.own a ds))).Nodup/\∀b∈owns (ρ.set i (.own a ds)),b=a\/b∈owns ρ
 |[],_,n,_=>⟨n,λb hb=>.inr hb⟩
 |x::r,0,n,h=>by
  rw[T4,jr];rw[jr]at n h;have e:(Sl.own a ds).addr=aa a:=rfl;rw[e];cases q:x.addr with
  |none =>rw[q]at n h;exact⟨Xd.mpr ⟨h,n⟩,λb hb=>(xf.mp hb).elim .inl λz=>.inr (by rw[jr,q];exact z)⟩
  |some c =>rw[q]at n h;exact⟨Xd.mpr ⟨λz=>h (kj _ z),(Xd.mp n).2⟩,λb hb=>(xf.mp hb).elim .inl λz=>.inr (by rw[jr,q];exact kj _ z)⟩
 |x::r,i+1,n,h=>by
  rw[cC,jr];rw[jr]at n h;cases q:x.addr with
  |none =>rw[q]at n h;obtain⟨i1,i2⟩:=Qx (ds:=ds) (i:=i) n h;exact⟨i1,λb hb=>(i2 b hb).elim .inl λz=>.inr (by rw[jr,q];exact z)⟩
  |some c =>
   rw[q]at n h;obtain⟨n1,n2⟩:=Xd.mp n;obtain⟨i1,i2⟩:=Qx (ds:=ds) (i:=i) n2 (λz=>h (kj _ z));refine⟨Xd.mpr ⟨λz=>?_,i1⟩,λb hb=>?_⟩
   .rcases i2 c z with e|z
    .subst e;exact h (X4 ..)
    .exact n1 z
   .rcases xf.mp hb with e|z
    .exact .inr (by rw[jr,q];exact e▸X4 ..)
    .exact(i2 b z).elim .inl λz=>.inr (by rw[jr,q];exact kj _ z)
theorem Ro{a:ai}{l l':List D}:∀{ρ:Rho}{i j:Nat},(owns ρ).Nodup->ρ[i]?=aa (.own a l)->ρ[j]?=aa (.own a l')->i=j
 |[],i,_,_,h,_=>by simp at h
 |x::r,0,0,_,_,_=>rfl
 |x::r,0,j+1,n,h,h'=>by simp at h h';subst h;rw[jr]at n;exact absurd (Z6 h') (Xd.mp n).1
 |x::r,i+1,0,n,h,h'=>by simp at h h';subst h';rw[jr]at n;exact absurd (Z6 h) (Xd.mp n).1
 |x::r,i+1,j+1,n,h,h'=>by
  simp at h h';have n':(owns r).Nodup:=by
   rw[jr]at n;cases q:x.addr with
   |none=>rw[q]at n;exact n
   |some c=>rw[q]at n;exact(Xd.mp n).2
  rw[Ro n' h h']
noncomputable def Zv:List ao:=["worst_cost_of_ask","least_numbers","whole_cost_of_ask","round_numbers"]
def TabOk(K:k5g)(H:Hp):Prop:=∀x∈Zv,∀c P,W.tabIn K x=aa (c,P)->H P=aa (.cod (zc x))
section
variable{K:k5g}{H H':Hp}
theorem TabOk.mono(h:TabOk K H)(g:jb H H'):TabOk K H':=λx hx c P e=>g _ _ (h x hx c P e)
theorem TabOk.upd{a:ai}{o u:HO}(h:TabOk K H)(e:H a=aa u)(n:∀q,u≠.cod q):TabOk K (upd H a o):=λx hx c P z=>by have q:=h x hx c P z;rw[jj];exact q;intro y;subst y;rw[e]at q;exact n _ (aB q)
theorem TabOk.del{A:List ai}(h:TabOk K H)(hA:∀a∈A,∃xs,H a=aa (.lst xs)):TabOk K (del H A):=λx hx c P z=>by have q:=h x hx c P z;rw[jc];exact q;intro y;obtain⟨xs,e⟩:=hA _ y;rw[q]at e;cases e
end
noncomputable def rfN:ao:="@"
def Df(K:k5g)(F:Hp)(a:ai)(o:cw)(x:ao):Prop:=x=rfN\/(F a=aa (.frz o (.own a))/\W.nsIn K ax x=aa (aa o.cls))
theorem Df.mono{K:k5g}{F F':Hp}{a:ai}{o:cw}{x:ao}(h:Df K F a o x)(g:jb F F'):Df K F' a o x:=h.elim .inl λh=>.inr ⟨g _ _ h.1,h.2⟩
structure Rep(K:k5g)(ρ:Rho)(σ:St)(H:Hp):Prop where
 len:σ.length=ρ.length
 val:∀(i:Nat)(d:D),ρ[i]?=aa (.val d)->∃v,σ[i]?=aa (aa v)/\Enc K (del H (owns ρ)) d v
 own:∀(i:Nat)(a:ai)(ds:List D),ρ[i]?=aa (.own a ds)->σ[i]?=aa (aa (.ref a))/\∃xs,H a=aa (.lst xs)/\jd K (del H (owns ρ)) ds xs
 nd:(owns ρ).Nodup
 raw:∀(i:Nat)(a:ai)(o:cw)(x:ao),ρ[i]?=aa (.raw a o x)->σ[i]?=aa (aa (.ref a))/\Df K (del H (owns ρ)) a o x
 tb:TabOk K H
section
variable{K:k5g}{ρ ρ':Rho}{σ:St}{H H':Hp}{i:Nat}{d:D}{v:V}{a:ai}{ds ds':List D}{xs:List V}
theorem Rep.owned(R:Rep K ρ σ H):∀a∈owns ρ,∃xs,H a=aa (.lst xs):=λa h=>by obtain⟨i,ds,e⟩:=Wu h;obtain⟨_,xs,q,_⟩:=R.own i a ds e;exact⟨xs,q⟩
theorem Rep.fresh(R:Rep K ρ σ H)(h:H a=ah):a∉owns ρ:=λz=>by obtain⟨xs,e⟩:=R.owned a z;rw[h]at e;cases e
theorem Rep.grow(R:Rep K ρ σ H)(g:jb H H'):Rep K ρ σ H' :=
 ⟨R.len,λi d e=>let ⟨v,q,h⟩:=R.val i d e;⟨v,q,h.mono (jk g)⟩,λi a ds e=>let ⟨q,xs,h,l⟩:=R.own i a ds e;⟨q,xs,g _ _ h,l.mono (jk g)⟩,R.nd,λi a o x e=>let ⟨q,h⟩:=R.raw i a o x e;⟨q,h.mono (jk g)⟩,R.tb.mono g⟩
theorem getElem?_set_of{α:Type}{l:List α}{i j:Nat}{x y:α}(h:(l.set i x)[j]?=aa y):(i=j/\y=x/\i<l.length)\/(i≠j/\l[j]?=aa y):=by
 rw[eY]at h;split at h
 .rename_i e;subst e;split at h
  .rename_i z;cases h;exact .inl ⟨rfl,rfl,z⟩
  .cases h
 .rename_i e;exact .inr ⟨e,h⟩
theorem Yb{α:Type}{l:List α}{i:Nat}{x:α}(h:i<l.length):(l.set i x)[i]?=aa x:=by simp[h]
theorem J5{α:Type}{l:List α}{i j:Nat}{x:α}(h:i≠j):(l.set i x)[j]?=l[j]?:=by simp[h]
theorem Rep.set_val(R:Rep K ρ σ H)(e:Enc K (del H (owns ρ)) d v):Rep K (ρ.set i (.val d)) (σ.set i (aa v)) H:=by
 have sub:(owns (ρ.set i (.val d))).Sublist (owns ρ):=ju rfl;have g:jb (del H (owns ρ)) (del H (owns (ρ.set i (.val d)))):=J7 λb hb=>sub.subset hb;refine⟨by simp[R.len],λj d' h=>?_,λj a ds h=>?_,sub.nodup R.nd,λj a o x h=>?_,R.tb⟩
 .rcases getElem?_set_of h with ⟨rfl,z,hl⟩|⟨n,h⟩
  .cases z;exact⟨v,Yb (by rw[R.len];exact hl),e.mono g⟩
  .obtain⟨u,q,h⟩:=R.val j d' h;exact⟨u,by rw[J5 n];exact q,h.mono g⟩
 .rcases getElem?_set_of h with ⟨rfl,z,_⟩|⟨n,h⟩
  .cases z
  .obtain⟨q,xs,h,l⟩:=R.own j a ds h;exact⟨by rw[J5 n];exact q,xs,h,l.mono g⟩
 .rcases getElem?_set_of h with ⟨rfl,z,_⟩|⟨n,h⟩
  .cases z
  .obtain⟨q,h⟩:=R.raw j a o x h;exact⟨by rw[J5 n];exact q,h.mono g⟩
theorem Rep.set_un{v:Option V}(R:Rep K ρ σ H):Rep K (ρ.set i .un) (σ.set i v) H:=by
 have sub:(owns (ρ.set i .un)).Sublist (owns ρ):=ju rfl;have g:jb (del H (owns ρ)) (del H (owns (ρ.set i .un))):=J7 λb hb=>sub.subset hb;refine⟨by simp[R.len],λj d' h=>?_,λj a ds h=>?_,sub.nodup R.nd,λj a o x h=>?_,R.tb⟩
 .rcases getElem?_set_of h with ⟨rfl,z,hl⟩|⟨n,h⟩
  .cases z
  .obtain⟨u,q,h⟩:=R.val j d' h;exact⟨u,by rw[J5 n];exact q,h.mono g⟩
 .rcases getElem?_set_of h with ⟨rfl,z,_⟩|⟨n,h⟩
  .cases z
  .obtain⟨q,xs,h,l⟩:=R.own j a ds h;exact⟨by rw[J5 n];exact q,xs,h,l.mono g⟩
 .rcases getElem?_set_of h with ⟨rfl,z,_⟩|⟨n,h⟩
  .cases z
  .obtain⟨q,h⟩:=R.raw j a o x h;exact⟨by rw[J5 n];exact q,h.mono g⟩
theorem Rep.set_own(R:Rep K ρ σ H)(g:jb H H')(ha:H a=ah)(e:H' a=aa (.lst xs))(l:jd K (del H' (a::owns ρ)) ds xs):Rep K (ρ.set i (.own a ds)) (σ.set i (aa (.ref a))) H':=by
 have na:=R.fresh ha;obtain⟨nd,sub⟩:=Qx (ds:=ds) (i:=i) R.nd na;have g1:jb (del H' (a::owns ρ)) (del H' (owns (ρ.set i (.own a ds)))):=J7 λb hb=>by
  rcases sub b hb with e|z
  .exact e▸X4 ..
  .exact kj _ z
 have g2:jb (del H (owns ρ)) (del H' (a::owns ρ)):=λb o q=>by
  obtain⟨n,q⟩:=of_del q;rw[jc];exact g b o q;intro z;rcases xf.mp z with e|z
  .subst e;rw[ha]at q;cases q
  .exact n z
 refine⟨by simp[R.len],λj d' h=>?_,λj b ds' h=>?_,nd,λj b o x h=>?_,R.tb.mono g⟩
 .rcases getElem?_set_of h with ⟨rfl,z,hl⟩|⟨n,h⟩
  .cases z
  .obtain⟨u,q,h⟩:=R.val j d' h;exact⟨u,by rw[J5 n];exact q,h.mono (g2.trans g1)⟩
 .rcases getElem?_set_of h with ⟨rfl,z,hl⟩|⟨n,h⟩
  .cases z;exact⟨Yb (by rw[R.len];exact hl),xs,e,l.mono g1⟩
  .obtain⟨q,ys,h,l⟩:=R.own j b ds' h;exact⟨by rw[J5 n];exact q,ys,g _ _ h,l.mono (g2.trans g1)⟩
 .rcases getElem?_set_of h with ⟨rfl,z,hl⟩|⟨n,h⟩
  .cases z
  .obtain⟨q,h⟩:=R.raw j b o x h;exact⟨by rw[J5 n];exact q,h.mono (g2.trans g1)⟩
theorem Rep.upd_own(R:Rep K ρ σ H)(h:ρ[i]?=aa (.own a ds))(l:jd K (del H (owns ρ)) ds' xs):Rep K (ρ.set i (.own a ds')) σ (upd H a (.lst xs)):=by
 have eo:owns (ρ.set i (.own a ds'))=owns ρ:=Zu h;have ed:del (upd H a (.lst xs)) (owns ρ)=del H (owns ρ):=Yh (Z6 h);refine⟨by simp[R.len],λj d' q=>?_,λj b l' q=>?_,by rw[eo];exact R.nd,λj b o x q=>?_,let ⟨_,_,z,_⟩:=R.own i a ds h;R.tb.upd z λ_ y=>by cases y⟩
 .rw[eo,ed];rcases getElem?_set_of q with ⟨_,z,_⟩|⟨n,q⟩
  .cases z
  .exact R.val j d' q
 .rw[eo,ed];rcases getElem?_set_of q with ⟨rfl,z,_⟩|⟨n,q'⟩
  .cases z;exact⟨(R.own i a ds h).1,xs,je,l⟩
  .obtain⟨z,ys,y,l''⟩:=R.own j b l' q';refine⟨z,ys,?_,l''⟩;have nb:b≠a:=λe=>n (Ro R.nd h (e▸q'));rw[jj nb];exact y
 .rw[eo,ed];rcases getElem?_set_of q with ⟨_,z,_⟩|⟨n,q⟩
  .cases z
  .exact R.raw j b o x q
theorem Rep.freeze(R:Rep K ρ σ H)(h:ρ[i]?=aa (.own a ds)):Rep K (ρ.set i (.val (.lst ds))) σ H:=by
 obtain⟨hs,xs,hx,l⟩:=R.own i a ds h;have sub:(owns (ρ.set i (.val (.lst ds)))).Sublist (owns ρ):=ju rfl;have g:jb (del H (owns ρ)) (del H (owns (ρ.set i (.val (.lst ds))))):=J7 λb hb=>sub.subset hb;have na:a∉owns (ρ.set i (.val (.lst ds))):=λz=>by
  obtain⟨j,l',q⟩:=Wu z;rcases getElem?_set_of q with ⟨_,z,_⟩|⟨n,q⟩
  .cases z
  .exact n (Ro R.nd h q)
 refine⟨by simp[R.len],λj d' q=>?_,λj b l' q=>?_,sub.nodup R.nd,λj b o x q=>?_,R.tb⟩
 .rcases getElem?_set_of q with ⟨rfl,z,_⟩|⟨n,q⟩
  .cases z;exact⟨_,hs,a,xs,rfl,.inl (.inl (by rw[jc na];exact hx)),l.mono g⟩
  .obtain⟨u,q,h⟩:=R.val j d' q;exact⟨u,q,h.mono g⟩
 .rcases getElem?_set_of q with ⟨rfl,z,_⟩|⟨n,q⟩
  .cases z
  .obtain⟨q,ys,h,l⟩:=R.own j b l' q;exact⟨q,ys,h,l.mono g⟩
 .rcases getElem?_set_of q with ⟨_,z,_⟩|⟨n,q⟩
  .cases z
  .obtain⟨q,h⟩:=R.raw j b o x q;exact⟨q,h.mono g⟩
end
def DE(X:Cx)(ρ:Rho)(e:ar)(d:D):Prop:=∀σ H Q,Rep X.K ρ σ H->(∀v H',jb H H'->Enc X.K (del H' (owns ρ)) d v->Q v H')->vm X e σ H Q
def DT(X:Cx)(ρ:Rho)(e:ar)(d:D):Prop:=∀σ H Q,Rep X.K ρ σ H->(∀v H',jb H H'->Enc X.K H' d v->Q v H')->vm X e σ H Q
def DO(X:Cx)(ρ:Rho)(e:ar)(ds:List D):Prop:=∀σ H Q,Rep X.K ρ σ H->(∀a xs H',jb H H'->H a=ah->H' a=aa (.lst xs)->jd X.K (del H' (a::owns ρ)) ds xs->Q (.ref a) H')->vm X e σ H Q
def DL(X:Cx)(ρ:Rho)(e:ar)(ds:List D):Prop:=∀σ H Q,Rep X.K ρ σ H->(∀a xs H',jb H H'->H' a=aa (.lst xs)->jd X.K (del H' (owns ρ)) ds xs->Q (.ref a) H')->vm X e σ H Q
def DB(X:Cx)(ρ:Rho)(e:ar)(b:Bool):Prop:=∀σ H Q,Rep X.K ρ σ H->(∀H',jb H H'->Q b H')->Ds X e σ H Q
def DA(X:Cx)(ρ:Rho)(es:List ar)(ds:List D):Prop:=∀σ H Q,Rep X.K ρ σ H->(∀vs H',jb H H'->jd X.K (del H' (owns ρ)) ds vs->Q vs H')->Oq X es σ H Q
def DTA(X:Cx)(ρ:Rho)(es:List ar)(ds:List D):Prop:=∀σ H Q,Rep X.K ρ σ H->(∀vs H',jb H H'->jd X.K H' ds vs->Q vs H')->Oq X es σ H Q
def j3v(X:Cx)(e:ar):TT:=λσ H Q=>∀whole pins s,Inv X pins σ H s->aC (aF X.prog X.w) X.A (ft e X.env whole) (TP X pins σ Q) X.xe s
theorem pwS{X:Cx}{e:ar}:PW X e (j3v X e):=λwhole pins s _ _ _ I h=>h whole pins s I
theorem PW.to{X:Cx}{e:ar}{t:TT}{σ:St}{H:Hp}(h:PW X e t){Q:Bool->Hp->Prop}(q:t σ H Q):j3v X e σ H Q:=λwhole pins s I=>h whole pins s σ H Q I q
def DW(X:Cx)(ρ:Rho)(e:ar)(b:Bool):Prop:=∀σ H Q,Rep X.K ρ σ H->(∀H',jb H H'->Q b H')->j3v X e σ H Q
mutual
noncomputable def Jy:D->Bool
 |.lst _=>ae
 |.dct _ _=>ae
 |.sct _=>ae
 |.fn _ _=>ae
 |.tup ds=>qu ds
 |_=>ag
noncomputable def qu:List D->Bool
 |[]=>ag
 |d::ds=>Jy d&&qu ds
end
mutual
theorem Enc.hide{K:k5g}{H:Hp}{A:List ai}(hA:∀a∈A,Hd (H a)):∀{d:D}{v:V},Jy d=ag->Enc K H d v->Enc K (del H A) d v
 |.non,_,_,h=>h
 |.bl _,_,_,h=>h
 |.int _,_,_,h=>h
 |.str _,_,_,h=>h
 |.lst _,_,n,_=>by cases n
 |.dct _ _,_,n,_=>by cases n
 |.sct _,_,n,_=>by cases n
 |.fn _ _,_,n,_=>by cases n
 |.tup ds,_,n,⟨a,xs,e,q,l⟩=>by
  refine⟨a,xs,e,?_,jd.hide hA (by simpa [Jy]using n) l⟩;have out:∀{o:HO},H a=aa o->(∀ys,o≠.lst ys)->(∀ys ep,o≠.dI ys ep)->del H A a=aa o:=λ{o} h z z2=>by
   rw[jc];exact h;intro y;rcases hA a y with ⟨ys,e'⟩|⟨ys,ep,e'⟩
   .rw[h]at e';cases e';exact z ys rfl
   .rw[h]at e';cases e';exact z2 ys ep rfl
  rcases q with (q|⟨o,q⟩)|q
  .exact .inl (.inl (out q (λ_ z=>by cases z) λ_ _ z=>by cases z))
  .exact .inl (.inr ⟨o,out q (λ_ z=>by cases z) λ_ _ z=>by cases z⟩)
  .exact .inr q
theorem jd.hide{K:k5g}{H:Hp}{A:List ai}(hA:∀a∈A,Hd (H a)):∀{ds:List D}{xs:List V},qu ds=ag->jd K H ds xs->jd K (del H A) ds xs
 |[],_,_,h=>h
 |d::ds,_,n,⟨x,r,e,h,l⟩=>by
  have n':Jy d=ag/\qu ds=ag:=by simpa [qu]using n
  exact⟨x,r,e,Enc.hide hA n'.1 h,jd.hide hA n'.2 l⟩
end
section
variable{X:Cx}{ρ:Rho}{e a b c:ar}{es:List ar}{d da db:D}{ds ds':List D}{i j:Int}{pos:aL}{k:Nat}{x:ao}
theorem DE.toT(h:DE X ρ e d):DT X ρ e d:=λσ H Q R q=>h σ H Q R λv H' g l=>q v H' g (l.mono jq)
theorem DT.toE(h:DT X ρ e d)(n:Jy d=ag:=by rfl):DE X ρ e d:=λσ H Q R q=>h σ H Q R λv H' g l=>q v H' g (l.hide (λa ha=>.inl ((R.grow g).owned a ha)) n)
theorem DO.toL(h:DO X ρ e ds):DL X ρ e ds:=λσ H Q R q=>h σ H Q R λa xs H' g n m l=>q a xs H' g m (l.mono (J7 λb hb=>kj _ hb))
theorem DO.toE(h:DO X ρ e ds):DE X ρ e (.lst ds):=λσ H Q R q=>h σ H Q R λa xs H' g n m l =>q _ H' g ⟨a,xs,rfl,.inl (.inl (by rw[jc (R.fresh n)];exact m)),l.mono (J7 λb hb=>kj _ hb)⟩
theorem DL.toT(h:DL X ρ e ds):DT X ρ e (.lst ds):=λσ H Q R q=>h σ H Q R λa xs H' g m l=>q _ H' g ⟨a,xs,rfl,.inl (.inl m),l.mono jq⟩
theorem DW.toB{k:Bool}(h:DW X ρ e k):DB X ρ e k:=λσ H Q R q pins s I=>h σ H Q R q _ pins s I
theorem DE.eq(h:DE X ρ e d){d':D}(q:d=d'):DE X ρ e d':=q▸h
theorem DB.eq{b b':Bool}(h:DB X ρ e b)(q:b=b'):DB X ρ e b':=q▸h
end
section
variable{X:Cx}{ρ:Rho}{e a b c:ar}{es:List ar}{d da db:D}{ds ds':List D}{i j:Int}{pos p:aL}{k:Nat}{x:ao}
theorem DE.var(k:Nat)(h:ρ[k]?=aa (.val d))(hN:X.N[k]?=aa x:=by rfl)(hv:Vis X.env.scope x:=by first|exact aV rfl|exact bW (aV rfl)|exact bW (bW rfl))
  (hd:(x==k5k)=ae:=by decide) (hcd:(x==k5l)=ae:=by decide):DE X ρ (.Name x pos) d:=λσ H Q R q=>by
 obtain⟨v,hs,en⟩:=R.val k d h;exact(qb hN hv hd hcd).to ⟨v,hs,q v H (jb.refl H) en⟩
theorem DL.var(k:Nat){l:ai}(h:ρ[k]?=aa (.own l ds))(hN:X.N[k]?=aa x:=by rfl)(hv:Vis X.env.scope x:=by first|exact aV rfl|exact bW (aV rfl)|exact bW (bW rfl))
  (hd:(x==k5k)=ae:=by decide) (hcd:(x==k5l)=ae:=by decide):DL X ρ (.Name x pos) ds:=λσ H Q R q=>by
 obtain⟨hs,xs,m,en⟩:=R.own k l ds h;exact(qb hN hv hd hcd).to ⟨_,hs,q l xs H (jb.refl H) m en⟩
theorem DE.glob {u:aj} {v:V} (hg:Gl X x) (hm:X.mg x=aa u) (r:RelV v u) (h:∀H,Enc X.K H d v) (hd:(x==k5k)=ae:=by decide):DE X ρ (.Name x pos) d :=
 λσ H Q R q=>(j88 hg hm r hd).to (q v H (jb.refl H) (h _))
theorem DE.int{i:Int}{n:Nat}{pos:aL}:DE X ρ (.Constant (.int i) n pos) (.int i):=λσ H Q R q=>Mp.to (q _ H (jb.refl H) rfl)
theorem DE.bl{b:Bool}{n:Nat}:DE X ρ (.Constant (.bool b) n pos) (.bl b):=λσ H Q R q=>jei.to (q _ H (jb.refl H) rfl)
theorem DE.str{y:ao}{n:Nat}:DE X ρ (.Constant (.str y) n pos) (.str y):=λσ H Q R q=>Ce.to (q _ H (jb.refl H) rfl)
theorem DE.arI0{op:iZ}{g:Int->Int->Int}(ho:OpR X (b0 op) (rI0 λi j=>.int (g i j)))(ha:DT X ρ a (.int i))(hb:DT X ρ b (.int j)):DE X ρ (.BinOp a op b pos) (.int (g i j)):=λσ H Q R q =>(Vr ho peS peS).to (ha σ H _ R λv H1 g1 e1=>hb σ H1 _ (R.grow g1) λu H2 g2 e2=>⟨i,j,e1,e2,q _ H2 (g1.trans g2) rfl⟩)
theorem DE.arI{op:iZ}{C:Int->Int->Prop}{g:Int->Int->Int}(ho:OpR X (b0 op) (rI C λi j=>.int (g i j)))(ha:DT X ρ a (.int i))(hb:DT X ρ b (.int j))(hC:C i j):DE X ρ (.BinOp a op b pos) (.int (g i j)):=λσ H Q R q =>(Vr ho peS peS).to (ha σ H _ R λv H1 g1 e1=>hb σ H1 _ (R.grow g1) λu H2 g2 e2=>⟨i,j,e1,e2,hC,q _ H2 (g1.trans g2) rfl⟩)
theorem DE.add(ha:DT X ρ a (.int i))(hb:DT X ρ b (.int j)):DE X ρ (.BinOp a .Add b pos) (.int (i+j)):=DE.arI0 jbg ha hb
theorem DE.sub(ha:DT X ρ a (.int i))(hb:DT X ρ b (.int j)):DE X ρ (.BinOp a .Sub b pos) (.int (i-j)):=DE.arI0 jb8 ha hb
theorem DE.mul(ha:DT X ρ a (.int i))(hb:DT X ρ b (.int j))(h:j11 i j):DE X ρ (.BinOp a .Mult b pos) (.int (i*j)):=DE.arI jbd ha hb h
theorem DE.mod(ha:DT X ρ a (.int i))(hb:DT X ρ b (.int j))(h:0<j):DE X ρ (.BinOp a .Mod b pos) (.int (i%j)):=DE.arI jbe ha hb h
theorem DE.pow(ha:DT X ρ a (.int i))(hb:DT X ρ b (.int j))(h:j0z i j):DE X ρ (.BinOp a .Pow b pos) (.int (i^j.toNat)):=DE.arI jbc ha hb h
theorem DE.shl(ha:DT X ρ a (.int i))(hb:DT X ρ b (.int j))(h:j0z i j):DE X ρ (.BinOp a .LShift b pos) (.int (i*2^j.toNat)):=DE.arI (g:=λi j=>i*2^j.toNat) jba ha hb h
theorem DE.cmpI{op:gc}{g:Int->Int->Bool}(ho:OpR X (aX op) (rI0 λi j=>.bl (g i j)))(hm:aN op b=ae)(ha:DT X ρ a (.int i))(hb:DT X ρ b (.int j)):DE X ρ (.Compare a [op] [b] pos) (.bl (g i j)):=λσ H Q R q =>(Ju ho peS peS hm).to (ha σ H _ R λv H1 g1 e1=>hb σ H1 _ (R.grow g1) λu H2 g2 e2=>⟨i,j,e1,e2,q _ H2 (g1.trans g2) rfl⟩)
theorem DB.cmpI{op:gc}{g:Int->Int->Bool}(ho:OpR X (aX op) (rI0 λi j=>.bl (g i j)))(hm:aN op b=ae)(ha:DT X ρ a (.int i))(hb:DT X ρ b (.int j)):DB X ρ (.Compare a [op] [b] pos) (g i j):=λσ H Q R q =>(vq ho peS peS hm).to (ha σ H _ R λv H1 g1 e1=>hb σ H1 _ (R.grow g1) λu H2 g2 e2=>⟨i,j,e1,e2,_,rfl,q H2 (g1.trans g2)⟩)
theorem DB.lt(ha:DT X ρ a (.int i))(hb:DT X ρ b (.int j)):DB X ρ (.Compare a [.Lt] [b] pos) (decide (i<j)):=DB.cmpI j6o (zb _) ha hb
theorem DB.le(ha:DT X ρ a (.int i))(hb:DT X ρ b (.int j)):DB X ρ (.Compare a [.LtE] [b] pos) (decide (i<=j)):=DB.cmpI j6p (zb _) ha hb
theorem DB.gt(ha:DT X ρ a (.int i))(hb:DT X ρ b (.int j)):DB X ρ (.Compare a [.Gt] [b] pos) (decide (j<i)):=DB.cmpI j6q (zb _) ha hb
theorem DB.ge(ha:DT X ρ a (.int i))(hb:DT X ρ b (.int j)):DB X ρ (.Compare a [.GtE] [b] pos) (decide (j<=i)):=DB.cmpI j6r (zb _) ha hb
theorem DE.lt(ha:DT X ρ a (.int i))(hb:DT X ρ b (.int j)):DE X ρ (.Compare a [.Lt] [b] pos) (.bl (decide (i<j))):=DE.cmpI j6o (zb _) ha hb
theorem DE.le(ha:DT X ρ a (.int i))(hb:DT X ρ b (.int j)):DE X ρ (.Compare a [.LtE] [b] pos) (.bl (decide (i<=j))):=DE.cmpI j6p (zb _) ha hb
theorem DE.gt(ha:DT X ρ a (.int i))(hb:DT X ρ b (.int j)):DE X ρ (.Compare a [.Gt] [b] pos) (.bl (decide (j<i))):=DE.cmpI j6q (zb _) ha hb
theorem DE.ge(ha:DT X ρ a (.int i))(hb:DT X ρ b (.int j)):DE X ρ (.Compare a [.GtE] [b] pos) (.bl (decide (j<=i))):=DE.cmpI j6r (zb _) ha hb
noncomputable def D.sc:D->Option V
 |.non=>aa .non
 |.bl b=>aa (.bl b)
 |.int i=>aa (.int i)
 |.str x=>aa (.str x)
 |_=>ah
theorem D.sc_enc{K:k5g}{H:Hp}{d:D}{u v:V}(h:d.sc=aa u)(q:Enc K H d v):v=u:=by cases d<;>simp[D.sc]at h<;>subst h<;>exact q
theorem DE.eqS{u v:V}(ha:DT X ρ a da)(hb:DT X ρ b db)(h1:da.sc=aa u:=by rfl)(h2:db.sc=aa v:=by rfl)(h:Ot u v=ag:=by rfl):DE X ρ (.Compare a [.Eq] [b] pos) (.bl (decide (u=v))):=λσ H Q R q =>
 (Ju j6s peS peS (zb _)).to (ha σ H _ R λx H1 g1 e1=>hb σ H1 _ (R.grow g1) λy H2 g2 e2=>by
  cases D.sc_enc h1 e1;cases D.sc_enc h2 e2;exact⟨h,q _ H2 (g1.trans g2) rfl⟩)
theorem DE.neS{u v:V}(ha:DT X ρ a da)(hb:DT X ρ b db)(h1:da.sc=aa u:=by rfl)(h2:db.sc=aa v:=by rfl)(h:Ot u v=ag:=by rfl):DE X ρ (.Compare a [.NotEq] [b] pos) (.bl (!decide (u=v))):=λσ H Q R q =>
 (Ju j01 peS peS (zb _)).to (ha σ H _ R λx H1 g1 e1=>hb σ H1 _ (R.grow g1) λy H2 g2 e2=>by
  cases D.sc_enc h1 e1;cases D.sc_enc h2 e2;exact⟨h,q _ H2 (g1.trans g2) rfl⟩)
theorem DB.eqS{u v:V}(ha:DT X ρ a da)(hb:DT X ρ b db)(h1:da.sc=aa u:=by rfl)(h2:db.sc=aa v:=by rfl)(h:Ot u v=ag:=by rfl):DB X ρ (.Compare a [.Eq] [b] pos) (decide (u=v)):=λσ H Q R q =>
 (vq j6s peS peS (zb _)).to (ha σ H _ R λx H1 g1 e1=>hb σ H1 _ (R.grow g1) λy H2 g2 e2=>by
  cases D.sc_enc h1 e1;cases D.sc_enc h2 e2;exact⟨h,_,rfl,q H2 (g1.trans g2)⟩)
theorem DB.neS{u v:V}(ha:DT X ρ a da)(hb:DT X ρ b db)(h1:da.sc=aa u:=by rfl)(h2:db.sc=aa v:=by rfl)(h:Ot u v=ag:=by rfl):DB X ρ (.Compare a [.NotEq] [b] pos) (!decide (u=v)):=λσ H Q R q =>
 (vq j01 peS peS (zb _)).to (ha σ H _ R λx H1 g1 e1=>hb σ H1 _ (R.grow g1) λy H2 g2 e2=>by
  cases D.sc_enc h1 e1;cases D.sc_enc h2 e2;exact⟨h,_,rfl,q H2 (g1.trans g2)⟩)
theorem U6(i j:Int):decide (V.int i=V.int j)=decide (i=j):=by
 by_cases h:i=j
 .subst h;simp
 .rw[decide_eq_false h,decide_eq_false (λz=>h (V.int.inj z))]
theorem Iv(i j:Bool):decide (V.bl i=V.bl j)=(i==j):=by cases i<;>cases j<;>rfl
theorem Ls(i j:ao):decide (V.str i=V.str j)=decide (i=j):=by
 by_cases h:i=j
 .subst h;simp
 .rw[decide_eq_false h,decide_eq_false (λz=>h (V.str.inj z))]
theorem DE.eqI(ha:DT X ρ a (.int i))(hb:DT X ρ b (.int j)):DE X ρ (.Compare a [.Eq] [b] pos) (.bl (decide (i=j))):=(DE.eqS ha hb).eq (by rw[U6])
theorem DE.neI(ha:DT X ρ a (.int i))(hb:DT X ρ b (.int j)):DE X ρ (.Compare a [.NotEq] [b] pos) (.bl (!decide (i=j))):=(DE.neS ha hb).eq (by rw[U6])
theorem DB.eqI(ha:DT X ρ a (.int i))(hb:DT X ρ b (.int j)):DB X ρ (.Compare a [.Eq] [b] pos) (decide (i=j)):=(DB.eqS ha hb).eq (by rw[U6])
theorem DB.neI(ha:DT X ρ a (.int i))(hb:DT X ρ b (.int j)):DB X ρ (.Compare a [.NotEq] [b] pos) (!decide (i=j)):=(DB.neS ha hb).eq (by rw[U6])
theorem DE.neB{x y:Bool}(ha:DT X ρ a (.bl x))(hb:DT X ρ b (.bl y)):DE X ρ (.Compare a [.NotEq] [b] pos) (.bl (x != y)):=(DE.neS ha hb).eq (by rw[Iv];rfl)
theorem DB.neB{x y:Bool}(ha:DT X ρ a (.bl x))(hb:DT X ρ b (.bl y)):DB X ρ (.Compare a [.NotEq] [b] pos) (x != y):=(DB.neS ha hb).eq (by rw[Iv];rfl)
noncomputable def D.isNon:D->Bool
 |.non=>ag
 |_=>ae
theorem Nj{K:k5g}{H:Hp}{d:D}{v:V}(q:Enc K H d v):decide (v=V.non)=d.isNon:=by
 cases d with
 |non=>cases(show v=.non from q);rfl
 |bl b=>cases(show v=.bl b from q);rfl
 |int b=>cases(show v=.int b from q);rfl
 |str b=>cases(show v=.str b from q);rfl
 |tup l=>obtain⟨a,xs,e,_⟩:=q;subst e;rfl
 |lst l=>obtain⟨a,xs,e,_⟩:=q;subst e;rfl
 |dct ks l=>obtain⟨a,xs,ep,vs,e,_⟩:=q;subst e;rfl
 |sct k=>obtain⟨a,e,_⟩:=q;subst e;rfl
 |fn x l=>obtain⟨a,c,tx,cl,vs,e,_⟩:=q;subst e;rfl
theorem DE.isN{n:Nat}{p2:aL}(ha:DT X ρ a d):DE X ρ (.Compare a [.Is] [.Constant .none n p2] pos) (.bl d.isNon):=λσ H Q R q =>(jb6 (j1r peS)).to (ha σ H _ R λx H1 g1 e1=>q _ H1 g1 (by rw[Nj e1];rfl))
theorem DB.isN{n:Nat}{p2:aL}(ha:DT X ρ a d):DB X ρ (.Compare a [.Is] [.Constant .none n p2] pos) d.isNon:=λσ H Q R q =>(jaz (j1r peS)).to (ha σ H _ R λx H1 g1 e1=>⟨_,rfl,by rw[Nj e1];exact q H1 g1⟩)
theorem DB.val{k:Bool}(ha:DT X ρ a (.bl k))(he:∀whole,ft a X.env whole=(do let v <-whole;dQ a.pos;dk [v] (truthy v)):=by intro _;rfl):DB X ρ a k:=λσ H Q R q =>(j1h peS he).to (ha σ H _ R λx H1 g1 e1=>⟨_,e1,q H1 g1⟩)
theorem DW.or1{k:Bool}(ha:DB X ρ a k):DW X ρ (.BoolOp .Or [a] pos) k:=λσ H Q R q=>(jay ptS).to (ha σ H Q R q)
theorem DW.or{k m:Bool}{rest:List ar}(ha:DB X ρ a k)(hb:k=ae->DW X ρ (.BoolOp .Or (b::rest) pos) m):DW X ρ (.BoolOp .Or (a::b::rest) pos) (k || m):=λσ H Q R q =>
 (jeg ptS pwS).to (ha σ H _ R λH1 g1=>by
  cases k with
  |true=>exact Uw (q H1 g1)
  |false=>exact Zw (hb rfl σ H1 Q (R.grow g1) λH2 g2=>q H2 (g1.trans g2)))
theorem DB.not{k:Bool}(ha:DB X ρ a k):DB X ρ (.UnaryOp .Not a pos) (!k):=λσ H Q R q=>(j1i ptS).to (ha σ H _ R λH1 g1=>q H1 g1)
theorem DE.and{k m:Bool}{rest:List ar}(ha:DT X ρ a (.bl k))(hb:k=ag->DE X ρ (.BoolOp .And (b::rest) pos) (.bl m)):DE X ρ (.BoolOp .And (a::b::rest) pos) (.bl (k&&m)):=λσ H Q R q =>
 (j1q peS peS).to (ha σ H _ R λx H1 g1 e1=>⟨k,e1,by
  cases k with
  |false=>exact Zw (q _ H1 g1 rfl)
  |true=>exact Uw (hb rfl σ H1 Q (R.grow g1) λv H2 g2=>q v H2 (g1.trans g2))⟩)
theorem DE.ite{k:Bool}{d':D}(hc:DB X ρ c k)(ha:k=ag->DE X ρ a d)(hb:k=ae->DE X ρ b d'):DE X ρ (.IfExp c a b pos) (if k=ag then d else d'):=λσ H Q R q =>
 (j4b ptS peS peS).to (hc σ H _ R λH1 g1=>by
  cases k with
  |true=>exact Uw (ha rfl σ H1 Q (R.grow g1) λv H2 g2 z=>q v H2 (g1.trans g2) (by rw[if_pos rfl];exact z))
  |false=>exact Zw (hb rfl σ H1 Q (R.grow g1) λv H2 g2 z=>q v H2 (g1.trans g2) (by rw[if_neg xu];exact z)))
theorem DA.nil:DA X ρ [] []:=λσ H Q R q=>jl.to (q [] H (jb.refl H) rfl)
theorem DA.cons(ha:DE X ρ a d)(hr:DA X ρ es ds)(hs:af (a::es) X.env=(ae,az a X.env)::af es X.env:=by rfl):DA X ρ (a::es) (d::ds):=λσ H Q R q =>(ji peS paS hs).to (ha σ H _ R λv H1 g1 e1=>hr σ H1 _ (R.grow g1) λvs H2 g2 e2=>q _ H2 (g1.trans g2) ⟨v,vs,rfl,e1.mono (jk g2),e2⟩)
theorem DTA.nil:DTA X ρ [] []:=λσ H Q R q=>jl.to (q [] H (jb.refl H) rfl)
theorem DTA.cons(ha:DT X ρ a d)(hr:DTA X ρ es ds)(hs:af (a::es) X.env=(ae,az a X.env)::af es X.env:=by rfl):DTA X ρ (a::es) (d::ds):=λσ H Q R q =>(ji peS paS hs).to (ha σ H _ R λv H1 g1 e1=>hr σ H1 _ (R.grow g1) λvs H2 g2 e2=>q _ H2 (g1.trans g2) ⟨v,vs,rfl,e1.mono g2,e2⟩)
theorem DE.tup{n:Nat}{x1}(h:DA X ρ es ds)(hl:ds.length<=au:=by simp only[xg,T6];decide):DE X ρ (.Tuple es x1 pos) (.tup ds):=λσ H Q R q =>(Mm paS).to (h σ H _ R λvs H1 g1 e1=>⟨by rw[e1.length];exact hl,λp hp=>q _ _ (g1.trans (jg hp)) ⟨p,vs,rfl,.inl (.inl (by rw[jc ((R.grow g1).fresh hp)];exact je)),e1.mono (jk (jg hp))⟩⟩)
theorem DO.lst(h:DA X ρ es ds)(hl:ds.length<=au:=by simp only[xg,T6];decide):DO X ρ (.List es pos) ds:=λσ H Q R q =>
 (j1p paS).to (h σ H _ R λvs H1 g1 e1=>⟨by rw[e1.length];exact hl,λp hp=>q p vs _ (g1.trans (jg hp)) (g1.free hp) je (e1.mono λb o z=>by
  obtain⟨n,z⟩:=of_del z
  rw[jc];exact jg hp b o z
  intro y
  rcases xf.mp y with y|y
  .subst y;rw[hp]at z;cases z
  .exact n y)⟩)
theorem jd.atI{K:k5g}{H:Hp}{xs:List V}(h:jd K H ds xs)(q:atI ds i=aa d):∃x,L2.atI xs i=aa x/\Enc K H d x:=by
 unfold L2.atI at q ⊢;rw[h.length];cases z:ixN ds.length i with
 |none=>rw[z]at q;cases q
 |some k =>rw[z]at q;exact h.get q
noncomputable def cutD(ds:List D)(lo hi:Option Int):List D:=(ds.drop (HT.sIx ds.length 0 lo)).take (HT.sIx ds.length ds.length hi-HT.sIx ds.length 0 lo)
theorem jd.cut{K:k5g}{H:Hp}{xs:List V}(h:jd K H ds xs)(lo hi:Option Int):jd K H (cutD ds lo hi) (W2 xs lo hi):=by unfold cutD W2;rw[h.length];exact(h.drop _).take _
theorem U4{K:k5g}{H1:Hp}{A:List ai}{ds:List D}{xs:List V}{p:ai}{o:HO}(hp:H1 p=ah)(e1:jd K (del H1 A) ds xs):jd K (del (upd H1 p o) (p::A)) ds xs:=e1.mono λb o z=>by
 obtain⟨n,z⟩:=of_del z;rw[jc];exact jg hp b o z;intro y;rcases xf.mp y with y|y
 .subst y;rw[hp]at z;cases z
 .exact n y
theorem DO.rep(ha:DL X ρ a ds)(hb:DT X ρ b (.int i))(h1:-(2^63)<=i)(h2:i<2^63)(hl:ds.length*i.toNat<=au):DO X ρ (.BinOp a .Mult b pos) (ay i.toNat ds).flatten:=λσ H Q R q =>
 (Vr jbb peS peS).to (ha σ H _ R λl xs H1 g1 m1 e1=>hb σ H1 _ (R.grow g1) λu H2 g2 e2 =>
  ⟨l,i,xs,rfl,e2,g2 _ _ m1,h1,h2,by rw[e1.length];exact hl,λp hp=>q p _ _ ((g1.trans g2).trans (jg hp)) ((g1.trans g2).free hp) je (U4 hp ((e1.mono (jk g2)).rep _))⟩)
theorem DE.lenT (ha:DT X ρ a (.tup ds)) (hm:X.mg "len" = ah) (hg:Gl X "len":=by rfl) (hs:af [a] X.env=[(ae,az a X.env)]:=by rfl) {p2:aL}:DE X ρ (.Call (.Name "len" p2) [a] [] pos) (.int ds.length):=λσ H Q R q =>(vg W4 hg hm fS (ji peS jl hs) (by decide) (by decide) hs).to (ha σ H _ R λv H1 g1 ⟨l,xs,e,sq,en⟩=>⟨l,xs,by rw[e],.inr sq,q _ H1 g1 (by rw[en.length];rfl)⟩)
theorem DE.lenL (ha:DT X ρ a (.lst ds)) (hm:X.mg "len" = ah) (hg:Gl X "len":=by rfl) (hs:af [a] X.env=[(ae,az a X.env)]:=by rfl) {p2:aL}:DE X ρ (.Call (.Name "len" p2) [a] [] pos) (.int ds.length):=λσ H Q R q =>(vg W4 hg hm fS (ji peS jl hs) (by decide) (by decide) hs).to (ha σ H _ R λv H1 g1 ⟨l,xs,e,sq,en⟩=>⟨l,xs,by rw[e],.inl sq,q _ H1 g1 (by rw[en.length];rfl)⟩)
end
def framed(sp:Sp):Sp:=λvs H Q E=>∃A:List ai,(∀a∈A,∃xs,H a=aa (.lst xs))/\sp vs (del H A) (λv F=>(∀a∈A,F a=ah)->Q v (mrg A H F)) E
theorem FnOk.framed{P:av}{w:aA}{K:k5g}{mg:k5j}{base:aI}{k:Nat}{f:ai}{fd:aD}{ps:List ao}{sp:Sp}(F:FnOk P w K mg base CX0 k f fd ps sp) :
  FnOk P w K mg base CX0 k f fd ps (framed sp) where
 len:=λvs H Q E ⟨A,_,h⟩=>F.len vs _ _ _ h
 run:=by
  rintro A0 outer s H args us vs Q E hr e0 hb rv ⟨A,hA,h⟩;have nd:∀{b:ai},H b=ah->del H A b=ah:=λ{b} q=>by
   by_cases z:b∈A
   .exact qp z
   .rw[jc z];exact q
  have out:∀{b:ai}{o:HO},H b=aa o->(∀ys,o≠.lst ys)->del H A b=aa o:=λ{b o} q z=>by rw[jc];exact q;intro y;obtain⟨ys,e'⟩:=hA b y;rw[q]at e';cases e';exact z ys rfl
  have e1:Env0 P w K mg base A0 outer s (del H A):=⟨e0.frames,e0.mod,λb o q=>⟨(e0.bs b o q).1,nd (e0.bs b o q).2⟩,e0.bsz,e0.funs,λb hb=>nd (e0.frf b hb),
   λa o q=>by
    obtain⟨_,q⟩:=of_del q
    exact jo.stay (e0.hok a o q) (λb u _ z=>z) (λb z=>out z λ_ y=>by cases y) (λb xs z=>out z λ_ y=>by cases y) (λb _ _ z=>out z λ_ y=>by cases y),e0.bare⟩
  refine cb (F.run A0 outer s (del H A) args us vs _ E hr e1 hb rv h) λr s' hq=>?_;cases r with
  |error e=>exact(show False from hq).elim
  |ok fl =>
   cases fl with
   |next=>exact(show False from hq).elim
   |brk=>exact(show False from hq).elim
   |cont=>exact(show False from hq).elim
   |ret u =>
    obtain⟨v,H',os,bare,un,hok',rel,q⟩:=(show CE outer P w (del H A) s _ u s' from hq)
    have kept:∀a∈A,∃o,s.heap.get? a=aa o/\s'.heap.get? a=aa o/\H' a=ah:=λa ha=>by
     obtain⟨xs,e⟩:=hA a ha;obtain⟨_,its,n,_,z⟩:=(show jo P w H s.heap a (.lst xs)from e0.hok _ _ e)
     have nf:a∉frs outer:=λy=>by rw[e0.frf a y]at e;cases e
     exact⟨_,z,un.keep a _ z (qp ha) nf (by simp),un.free a _ z (qp ha) (by simp)⟩
    have hF:∀a∈A,H' a=ah:=λa ha=>let ⟨_,_,_,z⟩:=kept a ha;z;have outF:∀{b:ai}{o:HO},H' b=aa o->b∉A:=λ{b o} e z=>by rw[hF b z]at e;cases e
    refine⟨v,mrg A H H',os,bare,?_,λa o e=>?_,rel,q hF⟩
    .exact{
      keep:=λb o e n=>un.keep b o e (nd n)
      slot:=λb o e n=>un.slot b o e (nd n)
      free:=λb o e n hx=>by
       by_cases z:b∈A
       .rw[J0 z];exact n
       .rw[jn z];exact un.free b o e (nd n) hx
      there:=un.there
      tups:=λb xs e=>by
       have z:=un.tups b xs (out e λ_ y=>by cases y)
       rw[jn (outF z)];exact z
      frzs:=λb o u e=>by
       have z:=un.frzs b o u (out e λ_ y=>by cases y)
       rw[jn (outF z)];exact z
      tbls:=λb ps e=>by
       obtain⟨more,z⟩:=un.tbls b ps (out e λ_ y=>by cases y)
       exact⟨more,by rw[jn (outF z)];exact z⟩ }
    .by_cases z:a∈A
     .rw[J0 z]at e;obtain⟨xs,e'⟩:=hA a z;rw[e']at e;cases e;obtain⟨hl,its,n,r,y⟩:=(show jo P w H s.heap a (.lst xs)from e0.hok _ _ e')
      obtain⟨o',q1,q2,_⟩:=kept a z;rw[y]at q1;cases q1;exact⟨hl,its,n,r,q2⟩
     .rw[jn z]at e;refine jo.stay (hok' a o e) (λb u _ q=>q) (λb q=>?_) (λb xs q=>?_) (λb _ _ q=>?_)
      .rw[jn (outF q)];exact q
      .rw[jn (outF q)];exact q
      .rw[jn (outF q)];exact q
def spP(K:k5g)(S:List D->D->Prop):Sp:=λvs H Q _=>∃A ds d,TabOk K H/\(∀a∈A,∃xs,H a=aa (.lst xs))/\jd K (del H A) ds vs/\S ds d/\∀v H',jb H H'->Enc K (del H' A) d v->Q v H'
def spF(K:k5g)(S:List D->List D->Prop):Sp:=λvs H Q _=>∃A ds l,TabOk K H/\(∀a∈A,∃xs,H a=aa (.lst xs))/\jd K (del H A) ds vs/\S ds l /\
 ∀a xs H',jb H H'->H a=ah->H' a=aa (.lst xs)->jd K (del H' (a::A)) l xs->Q (.ref a) H'
def jgi(K:k5g)(S:List D->D->Prop):Sp:=λvs H Q _=>∃ds d,TabOk K H/\jd K H ds vs/\S ds d/\∀v H',jb H H'->Enc K H' d v->Q v H'
def jgk(K:k5g)(S:List D->List D->Prop):Sp:=λvs H Q _=>∃ds l,TabOk K H/\jd K H ds vs/\S ds l/\∀a xs H',jb H H'->H a=ah->H' a=aa (.lst xs)->jd K (del H' [a]) l xs->Q (.ref a) H'
section
variable{P:av}{w:aA}{K:k5g}{mg:k5j}{base:aI}{k:Nat}{f:ai}{fd:aD}{ps:List ao}
theorem FnOk.toP{S:List D->D->Prop}(F:FnOk P w K mg base CX0 k f fd ps (jgi K S)):FnOk P w K mg base CX0 k f fd ps (spP K S) :=
 F.framed.imp λvs H Q E ⟨A,ds,d,tb,hA,en,hS,q⟩=>⟨A,hA,ds,d,tb.del hA,en,hS,λv F g e hF=>q v _ (Ri g) (by rw[Qt hF];exact e)⟩
theorem FnOk.toF{S:List D->List D->Prop}(F:FnOk P w K mg base CX0 k f fd ps (jgk K S)):FnOk P w K mg base CX0 k f fd ps (spF K S) :=
 F.framed.imp λvs H Q E ⟨A,ds,l,tb,hA,en,hS,q⟩=>⟨A,hA,ds,l,tb.del hA,en,hS,λa xs F g n e l' hF=>by
  have na:a∉A:=λz=>by rw[hF a z]at e;cases e
  refine q a xs _ (Ri g) (by rw[jc na]at n;exact n) (by rw[jn na];exact e) (l'.mono λb o z=>?_)
  obtain⟨n1,z⟩:=of_del z
  have nb:b∉A:=λy=>by rw[hF b y]at z;cases z
  rw[jc,jn nb];exact z
  intro y
  rcases xf.mp y with y|y
  .exact n1 (by rw[y];exact X7.mpr rfl)
  .exact nb y⟩
end
noncomputable def jcz:List ao:=["dearest_way","cost_on_whole","worst_table","worst_plan","foe_answer","whole_table","whole_plan","mean_price"]
noncomputable def kG(us ws:List aj):List aj:=match ws with
 |[w]=>us++[w]
 |_=>[]
noncomputable def kGV(vs zs:List V):List V:=match zs with
 |[z]=>vs++[z]
 |_=>[]
def Dfl(K:k5g)(x:ao)(fd:aD)(ps:List ao):Prop:=x∈jcz->Binds K fd ps [.none]/\KBinds K fd ps ["prices"] kG kGV
structure Cal(X:Cx)(x:ao)(sp:Sp):Prop where
 ex:∃(k:Nat)(f:ai)(fd:aD)(ps:List ao),FnOk X.prog X.w X.K X.mg X.base CX0 k f fd ps sp/\Room (k+3) X.A/\X.mg x=aa (.ref f)/\W.keepIn X.K (.ref f)=ag/\Binds X.K fd ps []/\Dfl X.K x fd ps
section
variable{X:Cx}{ρ:Rho}{e a:ar}{es:List ar}{d:D}{ds l:List D}{pos p:aL}{x:ao}
theorem DE.call{S:List D->D->Prop}(c:Cal X x (spP X.K S))(ha:DA X ρ (e::es) ds)(hS:S ds d)(hg:Gl X x:=by rfl)(hdb:(x==k5k)=ae:=by decide)
  (he:af (e::es) X.env=(ae,az e X.env)::af es X.env:=by rfl) (hpl:(aJ pos (af es X.env)).any (·.1)=ae:=by rfl):DE X ρ (.Call (.Name x p) (e::es) [] pos) d:=λσ H Q R q=>by
 obtain⟨k,f,fd,ps,F,hr,hm,hk,hb,_⟩:=c.ex;refine(Jv F (hr.mono (by omega)) hg hm hk hb .nil Jj paS hdb he hpl).to (ha σ H _ R λvs H1 g1 e1=>?_);show spP X.K S (vs++[]) H1 Q E0;rw[Xp];exact⟨owns ρ,ds,d,R.tb.mono g1,(R.grow g1).owned,e1,hS,λv H2 g2 z=>q v H2 (g1.trans g2) z⟩
theorem DT.call{S:List D->D->Prop}(c:Cal X x (spP X.K S))(ha:DTA X ρ (e::es) ds)(hS:S ds d)(hg:Gl X x:=by rfl)(hdb:(x==k5k)=ae:=by decide)
  (he:af (e::es) X.env=(ae,az e X.env)::af es X.env:=by rfl) (hpl:(aJ pos (af es X.env)).any (·.1)=ae:=by rfl):DT X ρ (.Call (.Name x p) (e::es) [] pos) d:=λσ H Q R q=>by
 obtain⟨k,f,fd,ps,F,hr,hm,hk,hb,_⟩:=c.ex;refine(Jv F (hr.mono (by omega)) hg hm hk hb .nil Jj paS hdb he hpl).to (ha σ H _ R λvs H1 g1 e1=>?_);show spP X.K S (vs++[]) H1 Q E0;rw[Xp];exact⟨[],ds,d,R.tb.mono g1,(λa h=>nomatch h),by rw[zr];exact e1,hS,λv H2 g2 z=>q v H2 (g1.trans g2) (by rw[zr]at z;exact z)⟩
theorem DO.call{S:List D->List D->Prop}(c:Cal X x (spF X.K S))(ha:DA X ρ (e::es) ds)(hS:S ds l)(hg:Gl X x:=by rfl)(hdb:(x==k5k)=ae:=by decide)
  (he:af (e::es) X.env=(ae,az e X.env)::af es X.env:=by rfl) (hpl:(aJ pos (af es X.env)).any (·.1)=ae:=by rfl):DO X ρ (.Call (.Name x p) (e::es) [] pos) l:=λσ H Q R q=>by
 obtain⟨k,f,fd,ps,F,hr,hm,hk,hb,_⟩:=c.ex;refine(Jv F (hr.mono (by omega)) hg hm hk hb .nil Jj paS hdb he hpl).to (ha σ H _ R λvs H1 g1 e1=>?_);show spF X.K S (vs++[]) H1 Q E0;rw[Xp];exact⟨owns ρ,ds,l,R.tb.mono g1,(R.grow g1).owned,e1,hS,λa xs H2 g2 n m z=>q a xs H2 (g1.trans g2) (g1.free n) m z⟩
end
inductive Rt where
 |val (d:D)
 |fresh (ds:List D)
noncomputable def Rt.d:Rt->D
 |.val d=>d
 |.fresh l=>.lst l
structure Po where
 nx:Rho->Prop
 rt:Rt->Prop
 bk:Rho->Prop:=λ_=>False
 ct:Rho->Prop:=λ_=>False
 ex:ao->Rho->Prop:=λ_ _=>False
structure FlQ(q:aj->Prop)(N:ai->Prop)(H:Hp)(h:aI)(e:ai)(C:aj):Prop where
 new:∀b,N b->b≠e
 free:H e=ah
 obj:∃(oe:cw)(vs:Array aj)(a0:aj),h.get? e=aa oe/\oe.cls=C/\oe.data=.fields vs/\vs[0]?=aa a0 /\
  (vs[1]?=aa .none\/∃(T:ai)(oT:cw)(ts:Array aj)(fl:aj),vs[1]?=aa (.ref T)/\T≠e/\h.get? T=aa oT/\oT.data=.fields ts/\(ts[3]?=aa fl/\q fl)/\H T=ah/\∀b,N b->b≠T)
def flN(v:aj):Prop:=v=.none
def flF(env:cf)(v:aj):Prop:=v=.none\/∃L,env.frame=aa L/\v=rawInt L
abbrev Fl(N:ai->Prop)(H:Hp)(h:aI)(e:ai)(C:aj):Prop:=FlQ flN N H h e C
theorem FlQ.up{q q':aj->Prop}{N N':ai->Prop}{H:Hp}{h:aI}{e:ai}{C:aj}(F:FlQ q N H h e C)(hq:∀v,q v->q' v)(hN:∀b,N' b->N b):FlQ q' N' H h e C:=by refine⟨λb hb=>F.new b (hN b hb),F.free,?_⟩;obtain⟨oe,vs,a0,z1,z2,z3,z4,z5⟩:=F.obj;refine⟨oe,vs,a0,z1,z2,z3,z4,z5.imp id ?_⟩;rintro⟨T,oT,ts,fl,y1,y2,y3,y4,⟨y5,y6⟩,y7,y8⟩;exact⟨T,oT,ts,fl,y1,y2,y3,y4,⟨y5,hq _ y6⟩,y7,λb hb=>y8 b (hN b hb)⟩
def Old(X:Cx)(pins:k5i)(b:ai):Prop:=(∃o,X.s₀.heap.get? b=aa o/\b∉X.ex)\/(∃p∈X.pn++pins,p.1=b)\/b=X.env.locals\/∃x,X.env.cells.lookup x=aa b
def Rz(X:Cx)(σ:St)(H:Hp)(x:ao):Prop:=∀(pins:k5i) (H':Hp) (s':aq) (e:ai) (C:aj),Inv X pins σ H' s'->jb H H'->X.mg x=aa C->FlQ (flF X.env) (Old X pins) H' s'.heap e C->X.xe (.ref e) s'
def Fr0(ρ ρ':Rho)(H H':Hp):Prop:=jb (del H (owns ρ)) (del H' (owns ρ'))
def M3(K:k5g)(ρ:Rho)(H H':Hp)(v:V):Rt->Prop
 |.val d=>jb (del H (owns ρ)) H'/\Enc K H' d v
 |.fresh ds=>∃a xs,v=.ref a/\jb (del H (owns ρ)) (del H' [a])/\H' a=aa (.lst xs)/\jd K (del H' [a]) ds xs
structure EndsOk(X:Cx)(ρ:Rho)(H:Hp)(P:Po)(E:Ends):Prop where
 nx:∀ρ' σ' H',P.nx ρ'->Rep X.K ρ' σ' H'->Fr0 ρ ρ' H H'->E.nx σ' H'
 bk:∀ρ' σ' H',P.bk ρ'->Rep X.K ρ' σ' H'->Fr0 ρ ρ' H H'->E.bk σ' H'
 ct:∀ρ' σ' H',P.ct ρ'->Rep X.K ρ' σ' H'->Fr0 ρ ρ' H H'->E.ct σ' H'
 rt:∀r v H',P.rt r->M3 X.K ρ H H' v r->E.rt v H'
 ex:∀x ρ' σ' H',P.ex x ρ'->Rep X.K ρ' σ' H'->Fr0 ρ ρ' H H'->Rz X σ' H' x
theorem M3.step{K:k5g}{ρ ρ1:Rho}{H H1 H':Hp}{v:V}{r:Rt}(f:Fr0 ρ ρ1 H H1)(h:M3 K ρ1 H1 H' v r):M3 K ρ H H' v r:=by
 cases r with
 |val d=>exact⟨f.trans h.1,h.2⟩
 |fresh ds=>obtain⟨a,xs,e,g,m,l⟩:=h;exact⟨a,xs,e,f.trans g,m,l⟩
theorem EndsOk.step{X:Cx}{ρ ρ1:Rho}{H H1:Hp}{P:Po}{E:Ends}(h:EndsOk X ρ H P E)(f:Fr0 ρ ρ1 H H1):EndsOk X ρ1 H1 P E :=
 ⟨λρ' σ' H' n R g=>h.nx ρ' σ' H' n R (f.trans g),λρ' σ' H' n R g=>h.bk ρ' σ' H' n R (f.trans g),λρ' σ' H' n R g=>h.ct ρ' σ' H' n R (f.trans g),λr v H' n g=>h.rt r v H' n (M3.step f g),λx ρ' σ' H' n R g=>h.ex x ρ' σ' H' n R (f.trans g)⟩
theorem Fr0.grow{ρ:Rho}{H H':Hp}(g:jb H H'):Fr0 ρ ρ H H':=jk g
theorem Fr0.refl(ρ:Rho)(H:Hp):Fr0 ρ ρ H H:=jb.refl _
theorem Fr0.drop{ρ ρ':Rho}{H:Hp}(h:∀b∈owns ρ',b∈owns ρ):Fr0 ρ ρ' H H:=J7 h
theorem Fr0.new{ρ:Rho}{H H':Hp}{i:Nat}{a:ai}{ds:List D}{K:k5g}{σ:St}(R:Rep K ρ σ H)(g:jb H H')(n:H a=ah):Fr0 ρ (ρ.set i (.own a ds)) H H':=λb o q=>by
 obtain⟨nb,q⟩:=of_del q;rw[jc];exact g b o q;intro z;rcases(Qx (ds:=ds) (i:=i) R.nd (R.fresh n)).2 b z with e|z
 .subst e;rw[n]at q;cases q
 .exact nb z
def DS(X:Cx)(ρ:Rho)(st:aG)(P:Po):Prop:=∀σ H E,Rep X.K ρ σ H->EndsOk X ρ H P E->Dt X st E σ H
def DSs(X:Cx)(ρ:Rho)(sts:List aG)(P:Po):Prop:=∀σ H E,Rep X.K ρ σ H->EndsOk X ρ H P E->Jx X sts E σ H
section
variable{X:Cx}{ρ:Rho}{e a b c:ar}{es:List ar}{st:aG}{rest sa sb body:List aG}{P:Po}{d:D}{ds ds':List D}{pos p p1 p2 p3:aL}{x:ao}{i:Nat}
theorem DSs.nil(h:P.nx ρ):DSs X ρ [] P:=λσ H E R q=>Qq.to (q.nx ρ σ H h R (Fr0.refl ρ H))
theorem DSs.cons{N:Rho->Prop}(h1:DS X ρ st { P with nx:=N })(h2:∀ρ1,N ρ1->DSs X ρ1 rest P):DSs X ρ (st::rest) P:=λσ H E R q =>(qt psS zj).to (h1 σ H { E with nx:=Jx X rest E } R ⟨λρ' σ' H' n R' f=>h2 ρ' n σ' H' E R' (q.step f),q.bk,q.ct,q.rt,q.ex⟩)
theorem DSs.freeze(i:Nat){l:ai}(h:ρ[i]?=aa (.own l ds))(h2:DSs X (ρ.set i (.val (.lst ds))) body P):DSs X ρ body P:=λσ H E R q =>h2 σ H E (R.freeze h) (q.step (.drop λb hb=>(ju rfl).subset hb))
theorem DS.set(i:Nat)(he:DE X ρ e d)(h:P.nx (ρ.set i (.val d)))(hN:X.N.Nodup)(hi:X.N[i]?=aa x:=by rfl)(hx:Loc X.env.scope x:=by first|exact aV rfl|exact bW rfl)
  (hs:aO e (aa (.Name x p)) pos.line X.env=pure ae:=by rfl) (hf:X.fn x=ag\/X.env.scope.names.lookup x=aa .local:=by first|exact .inl rfl|exact .inr rfl):DS X ρ (.Assign [.Name x p] e pos) P:=λσ H E R q =>
 (Ve hN hi hx peS hs hf).to (he σ H _ R λv H1 g1 e1=>q.nx _ _ H1 h ((R.grow g1).set_val e1) (jb.trans (Fr0.grow g1) (Fr0.drop λb hb=>(ju rfl).subset hb)))
theorem DS.setO(i:Nat)(he:DO X ρ e ds)(h:∀l,P.nx (ρ.set i (.own l ds)))(hN:X.N.Nodup)(hi:X.N[i]?=aa x:=by rfl)(hx:Loc X.env.scope x:=by first|exact aV rfl|exact bW rfl)
  (hs:aO e (aa (.Name x p)) pos.line X.env=pure ae:=by rfl) (hf:X.fn x=ag\/X.env.scope.names.lookup x=aa .local:=by first|exact .inl rfl|exact .inr rfl):DS X ρ (.Assign [.Name x p] e pos) P:=λσ H E R q =>
 (Ve hN hi hx peS hs hf).to (he σ H _ R λl xs H1 g1 n m e1=>q.nx _ _ H1 (h l) (R.set_own g1 n m e1) (.new R g1 n))
theorem DS.if{k:Bool}(hc:DB X ρ c k)(ha:k=ag->DSs X ρ sa P)(hb:k=ae->DSs X ρ sb P):DS X ρ (.If c sa sb pos) P:=λσ H E R q =>
 (Yr ptS zj zj).to (hc σ H _ R λH1 g1=>by
  cases k with
  |true=>exact Uw (ha rfl σ H1 E (R.grow g1) (q.step (.grow g1)))
  |false=>exact Zw (hb rfl σ H1 E (R.grow g1) (q.step (.grow g1))))
theorem DS.ret(he:DT X ρ e d)(h:P.rt (.val d)):DS X ρ (.Return (aa e) pos) P:=λσ H E R q =>(Q5 peS).to (he σ H _ R λv H1 g1 e1=>q.rt _ v H1 h ⟨jq.trans g1,e1⟩)
theorem DS.retO(he:DO X ρ e ds)(h:P.rt (.fresh ds)):DS X ρ (.Return (aa e) pos) P:=λσ H E R q =>
 (Q5 peS).to (he σ H _ R λl xs H1 g1 n m e1=>q.rt _ _ H1 h ⟨l,xs,rfl,(λb o z=>by
  obtain⟨nb,z⟩:=of_del z
  rw[jc];exact g1 b o z
  intro y;rw[X7.mp y,n]at z;cases z),m,e1.mono (J7 λb hb=>by rw[X7.mp hb];exact X4 ..)⟩)
theorem DS.retV(k:Nat){l:ai}(hk:ρ[k]?=aa (.own l ds))(h:P.rt (.fresh ds))(hN:X.N[k]?=aa x:=by rfl)(hv:Vis X.env.scope x:=by first|exact aV rfl|exact bW (aV rfl)|exact bW (bW rfl))
  (hd:(x==k5k)=ae:=by decide) (hcd:(x==k5l)=ae:=by decide):DS X ρ (.Return (aa (.Name x p)) pos) P:=λσ H E R q=>by
 obtain⟨hs,xs,m,en⟩:=R.own k l ds hk;have g:jb (del H (owns ρ)) (del H [l]):=J7 λb hb=>by rw[X7.mp hb];exact Z6 hk
 exact(Q5 (qb hN hv hd hcd)).to ⟨_,hs,q.rt _ _ H h ⟨l,xs,rfl,g,m,en.mono g⟩⟩
theorem DS.expr(he:DT X ρ e d)(h:P.nx ρ)(hs:aO e ah pos.line X.env=pure ae:=by rfl):DS X ρ (.Expr e pos) P:=λσ H E R q =>(Va peS hs).to (he σ H _ R λv H1 g1 e1=>q.nx ρ σ H1 h (R.grow g1) (.grow g1))
theorem jce{σ:St}{H H':Hp}{l:ai}{o:HO}(hk:ρ[i]?=aa (.own l ds))(g:jb H H'):Fr0 ρ (ρ.set i (.own l ds')) H (upd H' l o):=by unfold Fr0;rw[Zu hk,Yh (Z6 hk)];exact jk g
theorem DS.append(i:Nat){l:ai}(hk:ρ[i]?=aa (.own l ds))(he:DE X ρ e d)(hl:ds.length<au)(h:P.nx (ρ.set i (.own l (ds++[d]))))
  (hN:X.N[i]?=aa x:=by rfl) (hv:Vis X.env.scope x:=by first|exact aV rfl|exact bW (aV rfl)|exact bW (bW rfl)) (hd:(x==k5k)=ae:=by decide) (hcd:(x==k5l)=ae:=by decide)
  (hst:af [e] X.env=[(ae,az e X.env)]:=by rfl) (hline:(p1.endLine==p2.line)=ag:=by rfl)
  (hbase:aS (.Name x p) "append" X.env (az (.Name x p) X.env)=az (.Name x p) X.env:=by rfl) (hfew:((aJ p2 (af [e] X.env)).all (λx=>!x.1)&&(bq p2 (aT [] X.env)).all (λx=>x.1.isSome)
   && decide (([e]:List ar).length+([]:List b9).length+(if ([]:List b9).isEmpty then 0 else 1)<30))=ag:=by rfl)
  (hs:aO (.Call (.Attribute (.Name x p) "append" p1) [e] [] p2) ah pos.line X.env=pure ae:=by rfl) :
  DS X ρ (.Expr (.Call (.Attribute (.Name x p) "append" p1) [e] [] p2) pos) P:=λσ H E R q=>by
 obtain⟨hσ,xs,m,en⟩:=R.own i l ds hk;refine(Va (W9 cN dh fD Uq (qb hN hv hd hcd) (ji peS jl hst) hbase hfew hline hst rfl) hs).to ?_;refine⟨_,hσ,.inl ⟨rfl,xs,.inl (.inl m)⟩,he σ H _ R λv H1 g1 e1=>⟨l,xs,v,rfl,rfl,g1 _ _ m,by rw[en.length];exact hl,?_⟩⟩;exact q.nx _ σ _ h ((R.grow g1).upd_own hk ((en.mono (jk g1)).append (.one e1))) (jce (σ:=σ) hk g1)
def W6(K:k5g)(F:Hp)(J:It)(ds:List D):Prop:=∀(i:Nat)(H:Hp)(A:List ai),jb F (del H A)->(∀a∈A,H a≠ah) ->
 (i<ds.length->J.go i H)/\(ds.length<=i->J.stop i H)/\∀x H',J.yld i H x H'->jb H H'/\∀d,ds[i]?=aa d->Enc K (del H' A) d x
def DI(X:Cx)(ρ:Rho)(tg it:ar)(ds:List D):Prop:=∀σ H R,Rep X.K ρ σ H->(∀J H',jb H H'->W6 X.K (del H' (owns ρ)) J ds->R J H')->j3w X tg it σ H R
variable{tg it:ar}
theorem j2b{K:k5g}{F:Hp}{l:ai}{xs:List V}(sq:SqL K F l xs)(en:jd K F ds xs):W6 K F (Itl K l) ds:=λi H A g hA=>by
 have sq':SqL K H l xs:=jq.seq (g.seq sq);refine⟨λh=>?_,λh=>⟨xs,sq',by rw[en.length];exact h⟩,λx H' ⟨e,y⟩=>?_⟩
 .obtain⟨v,hv,_⟩:=en.get (kh h);exact⟨xs,v,sq',hv⟩
 .subst e;refine⟨jb.refl _,λd hd=>?_⟩;obtain⟨v,hv,ev⟩:=en.get hd;have e:=y xs sq';rw[hv]at e;cases e;exact ev.mono g
theorem j4x{K:k5g}{F:Hp}{l:ai}{xs:List V}(sq:SqT K F l xs)(en:jd K F ds xs):W6 K F (Itt K l) ds:=λi H A g hA=>by
 have sq':SqT K H l xs:=jq.seqT (g.seqT sq);refine⟨λh=>?_,λh=>⟨xs,sq',by rw[en.length];exact h⟩,λx H' ⟨e,y⟩=>?_⟩
 .obtain⟨v,hv,_⟩:=en.get (kh h);exact⟨xs,v,sq',hv⟩
 .subst e;refine⟨jb.refl _,λd hd=>?_⟩;obtain⟨v,hv,ev⟩:=en.get hd;have e:=y xs sq';rw[hv]at e;cases e;exact ev.mono g
theorem DI.lst(h:DE X ρ it (.lst ds)):DI X ρ tg it ds:=λσ H R r q=>(j85 peS).to (h σ H _ r λv H1 g1 ⟨l,xs,e,sq,en⟩=>⟨l,e,⟨xs,jq.seq sq⟩,q _ H1 g1 (j2b sq en)⟩)
theorem DI.tup(h:DE X ρ it (.tup ds)):DI X ρ tg it ds:=λσ H R r q=>(jb4 peS).to (h σ H _ r λv H1 g1 ⟨l,xs,e,sq,en⟩=>⟨l,e,⟨xs,jq.seqT sq⟩,q _ H1 g1 (j4x sq en)⟩)
noncomputable def upto(lo:Int)(n:Nat):List D:=(aP n).map λk=>D.int (lo+(k:Nat))
theorem Mw{K:k5g}{F:Hp}(lo:Int)(n:Nat):W6 K F (Itr lo n) (upto lo n):=λi H A g hA=>by
 have hl:(upto lo n).length=n:=by unfold upto;rw[X5,cP]
 rw[hl];refine⟨λh=>h,λh=>h,λx H' ⟨e,y⟩=>?_⟩;subst e;refine⟨jb.refl _,λd hd=>?_⟩;unfold upto at hd;rw[Xe]at hd;cases z:(aP n)[i]? with
 |none=>rw[z]at hd;cases hd
 |some k =>
  rw[z]at hd;have ek:k=i:=by have:=List.getElem?_range (n:=n) (i:=i) (by have:=(Xh.mp z).1;rwa [cP]at this);rw[this]at z;exact(aB z).symm
  subst ek;cases hd;exact y
theorem DI.range1 {n:Int} (h:DT X ρ a (.int n)) (hm:X.mg "range" = ah) (h1:-(2^62)<=n) (h2:n<2^62) (hg:Gl X "range":=by rfl) (hs:af [a] X.env=[(ae,az a X.env)]:=by rfl):DI X ρ tg (.Call (.Name "range" p) [a] [] pos) (upto 0 n.toNat):=λσ H R r q =>(j1o hg hm (ji peS jl hs) hs).to (h σ H _ r λv H1 g1 e=>⟨n,by rw[show v=.int n from e],h1,h2,q _ H1 g1 (Mw 0 _)⟩)
theorem DI.range2 {m n:Int} (h:DT X ρ a (.int m)) (h':DT X ρ b (.int n)) (hm:X.mg "range" = ah) (h1:-(2^62)<=m) (h2:m<2^62) (h3:-(2^62)<=n) (h4:n<2^62) (hg:Gl X "range":=by rfl) (hs:af [a,b] X.env=[(ae,az a X.env),(ae,az b X.env)]:=by rfl)
  (hs2:af [b] X.env=[(ae,az b X.env)]:=by rfl) (hs3:af [a,b] X.env=(ae,az a X.env)::af [b] X.env:=by rfl):DI X ρ tg (.Call (.Name "range" p) [a,b] [] pos) (upto m (n-m).toNat):=λσ H R r q =>
 (j1n hg hm (ji peS (ji peS jl hs2) hs3) hs hs2).to (h σ H _ r λv H1 g1 e=>h' σ H1 _ (r.grow g1) λu H2 g2 e2=>⟨m,n,by rw[show v=.int m from e,show u=.int n from e2],⟨h1,h2,h3,h4⟩,q _ H2 (g1.trans g2) (Mw m _)⟩)
def j3x(X:Cx)(tg:ar):TG:=λv σ H Q=>∀pins s u,Inv X pins σ H s->RelV v u->aC (aF X.prog X.w) X.A (dR tg X.env u) (λ_ s'=>∃σ' H',Inv X pins σ' H' s'/\Q σ' H') X.xe s
theorem pgS:PG X tg (j3x X tg):=λpins s σ H v u Q I r h=>h pins s u I r
theorem PG.to{t:TG}{σ:St}{H:Hp}{v:V}{Q:St->Hp->Prop}(h:PG X tg t)(q:t v σ H Q):j3x X tg v σ H Q:=λpins s u I r=>h pins s σ H v u Q I r q
def DG(X:Cx)(ρ:Rho)(tg:ar)(d:D)(ρ':Rho):Prop:=(∀b∈owns ρ',b∈owns ρ)/\∀σ H v Q,Rep X.K ρ σ H->Enc X.K (del H (owns ρ)) d v->(∀σ',Rep X.K ρ' σ' H->Q σ' H)->j3x X tg v σ H Q
theorem DG.name(i:Nat)(hN:X.N.Nodup)(hi:X.N[i]?=aa x:=by rfl)(hx:Loc X.env.scope x:=by first|exact aV rfl|exact bW rfl)(hf:X.fn x=ag\/X.env.scope.names.lookup x=aa .local:=by first|exact .inl rfl|exact .inr rfl):DG X ρ (.Name x p) d (ρ.set i (.val d)) :=
 ⟨λb hb=>(ju rfl).subset hb,λσ H v Q R en q=>(Oz hN hi hx hf).to (q _ (R.set_val en))⟩
theorem DS.for(W:Nat->Rho->Prop)(hi:DI X ρ tg it ds)(h0:W 0 ρ)(hs:∀i d ρ',ds[i]?=aa d->W i ρ'->∃ρ2,DG X ρ' tg d ρ2/\DSs X ρ2 body { nx:=W (i+1),rt:=P.rt,bk:=P.nx,ct:=W (i+1),ex:=P.ex })
  (hd:∀ρ',W ds.length ρ'->P.nx ρ') (hc:X.calm=ag) (hp:cS (aF X.prog X.w) X.A X.env X.xe) (hf:∀x,aQ it X.env x=pure x:=by intro _;rfl):DS X ρ (.For tg it body [] pos) P:=λσ H E R q=>by
 refine(jb0 hp hc piS pgS zj hf).to (hi σ H _ R λJ H1 g1 ok=>?_);refine⟨λi m σ' H'=>∃ρ',W i ρ'/\Rep X.K ρ' σ' H'/\Fr0 ρ ρ' H1 H'/\m=ds.length-i/\i<=ds.length,⟨ds.length,ρ,h0,R.grow g1,Fr0.refl _ _,rfl,bM _⟩,?_⟩;rintro i m σ' H' ⟨ρ',w,R',f,rfl,hle⟩;obtain⟨go,stop,yld⟩:=ok i H' (owns ρ') f λa ha=>by obtain⟨xs,e⟩:=R'.owned a ha;rw[e];simp
 by_cases hlt:i<ds.length
 .refine .inr ⟨go hlt,λσ2 H2=>∃ρ2,W (i+1) ρ2/\Rep X.K ρ2 σ2 H2/\Fr0 ρ ρ2 H1 H2,λσ2 H2 ⟨ρ2,w2,R2,f2⟩=>⟨ds.length-(i+1),by omega,ρ2,w2,R2,f2,rfl,hlt⟩,λx H2 y=>?_⟩;obtain⟨g2,en⟩:=yld x H2 y;obtain⟨ρ2,⟨sub,hG⟩,hB⟩:=hs i ds[i] ρ' (kh hlt) w;refine hG σ' H2 x _ (R'.grow g2) (en _ (kh hlt)) λσ3 R3=>?_;have f2:Fr0 ρ ρ2 H1 H2:=jb.trans f (jb.trans (Fr0.grow g2) (Fr0.drop sub));refine hB σ3 H2 _ R3 ⟨λρ3 σ4 H4 n R4 f4=>⟨ρ3,n,R4,f2.trans f4⟩,λρ3 σ4 H4 n R4 f4=>q.nx ρ3 σ4 H4 n R4 ((Fr0.grow g1).trans (f2.trans f4)),λρ3 σ4 H4 n R4 f4=>⟨ρ3,n,R4,f2.trans f4⟩,λr v H4 n z=>q.rt r v H4 n (M3.step ((Fr0.grow g1).trans f2) z),λx ρ3 σ4 H4 n R4 f4=>q.ex x ρ3 σ4 H4 n R4 ((Fr0.grow g1).trans (f2.trans f4))⟩
 .have e:i=ds.length:=by omega
  subst e;exact .inl ⟨stop (X3 _),q.nx ρ' σ' H' (hd ρ' w) R' ((Fr0.grow g1).trans f)⟩
end
noncomputable def jz(N:List ao)(ds:List D):Rho:=ds.map Sl.val++ay (N.length-ds.length) Sl.un
theorem Qg(N:List ao)(ds:List D):owns (jz N ds)=[]:=by
 unfold owns jz;rw[List.filterMap_append];have h1:(ds.map Sl.val).filterMap Sl.addr=[]:=List.filterMap_eq_nil_iff.mpr λs hs=>by obtain⟨d,_,rfl⟩:=Xn.mp hs;rfl
 have h2:(ay (N.length-ds.length) Sl.un).filterMap Sl.addr=[]:=List.filterMap_eq_nil_iff.mpr λs hs=>by rw[(List.mem_replicate.mp hs).2];rfl
 rw[h1,h2];rfl
theorem Qp{K:k5g}{H:Hp}{N:List ao}{ds:List D}{vs:List V}(tb:TabOk K H)(h:jd K H ds vs):Rep K (jz N ds) (start N vs) H:=by
 have ho:=Qg N ds;have hl:=h.length;refine⟨by unfold jz start;simp[hl],λi d e=>?_,λi a l e=>?_,by rw[ho];exact jE,λi a o y e=>?_,tb⟩
 .rw[ho,zr];unfold jz at e;by_cases z:i<ds.length
  .rw[ph (by simpa using z),Xe]at e;rw[kh z]at e;cases e;obtain⟨v,hv,en⟩:=h.get (kh z);refine⟨v,?_,en⟩;unfold start;rw[ph (by rw[X5,hl];exact z),Xe,hv];rfl
  .rw[cE (by simpa using z)]at e;have:=Xg e;cases(List.mem_replicate.mp this).2
 .have:=Z6 e;rw[ho]at this;cases this
 .unfold jz at e;rcases Pr.mp (Xg e)with z|z
  .obtain⟨d,_,q⟩:=Xn.mp z;cases q
  .cases(List.mem_replicate.mp z).2
section
variable{P:av}{w:aA}{K:k5g}{mg:k5j}{base:aI}{x qual:ao}{st:aG}{f:ai}{fd:aD}{N ps:List ao}{k:Nat}
def Vm(K:k5g)(f:ai)(cdv:aj):Prop:=∃(oc:aj)(od:Option ai)(fd:aD)(sl:Array (Option aj)),K.lookup f=aa ⟨oc,od,.func fd,sl⟩/\fd.code=cdv
theorem Fun.okC{sp:Sp}(F:Fun K x qual st f fd)(S:FnScope N ps (j0 st))(len:∀vs H Q E,sp vs H Q E->vs.length=ps.length)
  (hbody:∀(cdv:aj)(A:aE)(outer:List cf)(s:aq)(H:Hp)(vs:List V)(Q:VK) (E:XK),Vm K f cdv->Room k (A.deeper (bc qual (j0 st) s.heap.objs.size f cdv))->sp vs H Q E ->
   ∃t,PSs (qg CX0 P w K mg base N qual (j0 st) f cdv A outer s H E).nox (jh st) t/\t { nx:=λ_ H'=>Q .non H',rt:=Q } (start N vs) H):FnOk P w K mg base CX0 (k+1) f fd ps sp:=by
 obtain⟨oc,od,dV,kV,doc,pm,an,cdv,ct,osl,rfl,lk,hcd⟩:=F.ex;refine Fx lk hcd S len λA outer s H vs Q E hr hsp=>?_;obtain⟨t,h,q⟩:=hbody cdv A outer s H vs Q E ⟨oc,od,_,osl,lk,rfl⟩ hr hsp;exact⟨t,h.nox,q⟩
theorem Bg{S:List D->D->Prop}(F:Fun K x qual st f fd)(Sc:FnScope N ps (j0 st))(hl:∀ds d,S ds d->ds.length=ps.length)
  (hbody:∀(cdv:aj)(A:aE)(outer:List cf)(s:aq)(H:Hp)(E:XK),Vm K f cdv->Room k (A.deeper (bc qual (j0 st) s.heap.objs.size f cdv))->∀ds d,S ds d ->
   DSs (qg CX0 P w K mg base N qual (j0 st) f cdv A outer s H E).nox (jz N ds) (jh st) { nx:=λ_=>d=.non,rt:=λr=>r.d=d }):FnOk P w K mg base CX0 (k+1) f fd ps (spP K S):=by
 refine FnOk.toP (F.okC Sc (λvs H Q E ⟨ds,d,tb,en,hS,_⟩=>by rw[en.length];exact hl ds d hS) λcdv A outer s H vs Q E hcv hr ⟨ds,d,tb,en,hS,q⟩=>⟨_,zj,?_⟩);have ho:=Qg N ds;refine hbody cdv A outer s H E hcv hr ds d hS (start N vs) H _ (Qp tb en) ⟨λρ' σ' H' n R f=>?_,λ_ _ _ z=>z.elim,λ_ _ _ z=>z.elim,λr v H' n z=>?_,λ_ _ _ _ z=>z.elim⟩
 .subst n;unfold Fr0 at f;rw[ho,zr]at f;exact q _ H' (f.trans jq) rfl
 .cases r with
  |val d' =>cases(show d'=d from n);obtain⟨g,en'⟩:=z;rw[ho,zr]at g;exact q v H' g en'
  |fresh l =>cases(show D.lst l=d from n);obtain⟨a,xs,e,g,m,en'⟩:=z;rw[ho,zr]at g;exact q v H' (g.trans jq) ⟨a,xs,e,.inl (.inl m),en'.mono jq⟩
theorem j5m{S:List D->List D->Prop}(F:Fun K x qual st f fd)(Sc:FnScope N ps (j0 st))(hl:∀ds d,S ds d->ds.length=ps.length)
  (hbody:∀(cdv:aj)(A:aE)(outer:List cf)(s:aq)(H:Hp)(E:XK),Vm K f cdv->Room k (A.deeper (bc qual (j0 st) s.heap.objs.size f cdv))->∀ds l,S ds l ->
   DSs (qg CX0 P w K mg base N qual (j0 st) f cdv A outer s H E).nox (jz N ds) (jh st) { nx:=λ_=>False,rt:=λr=>r=.fresh l }):FnOk P w K mg base CX0 (k+1) f fd ps (spF K S):=by
 refine FnOk.toF (F.okC Sc (λvs H Q E ⟨ds,d,tb,en,hS,_⟩=>by rw[en.length];exact hl ds d hS) λcdv A outer s H vs Q E hcv hr ⟨ds,l,tb,en,hS,q⟩=>⟨_,zj,?_⟩);have ho:=Qg N ds;refine hbody cdv A outer s H E hcv hr ds l hS (start N vs) H _ (Qp tb en) ⟨λρ' σ' H' n R f=>n.elim,λ_ _ _ z=>z.elim,λ_ _ _ z=>z.elim,λr v H' n z=>?_,λ_ _ _ _ z=>z.elim⟩;cases(show r=.fresh l from n);obtain⟨a,xs,e,g,m,en'⟩:=z;rw[ho,zr]at g;subst e;refine q a xs H' (g.trans jq) ?_ m en';cases y:H a with
 |none=>rfl
 |some o=>have:=g a o y;rw[qp (X7.mpr rfl)]at this;cases this
end
section
variable{prog:av}{w:aA}{A:aE}{R:eO->aq->Prop}{s:aq}
theorem Lw{elt target iter:ar}{ifs:List ar}{scope:be}{pos:aL}{it acc:aj}{env:cf}(I:Nat->aq->Prop)
  (turn:∀n s,I n s->aC (aF prog w) A (pyNext it) (λr s₁=>match r with
   |none=>R (.ok .next) s₁
   |some v=>aC (aF prog w) A (dW target it v) (λ_ s₁'=>aC (aF prog w) A (dR target env v) (λ_ s₂ =>
     aC (aF prog w) A (forIn ifs ag λc r=>if r=ag then do let ok <-ft c env (az c env);pure (bP ok)else pure (bP r)) (λok s₃ =>
      if ok=ag then aC (aF prog w) A (az elt env) (λx s₄ =>
       aC (aF prog w) A (call (.builtin "list.append") [acc,x]) (λ_ s₅=>∃m,m<n/\I m s₅) (λ_ _=>False) s₄) (λ_ _=>False) s₃
      else ∃m,m<n/\I m s₃) (λ_ _=>False) s₂) (λ_ _=>False) s₁') (λ_ _=>False) s₁) (λ_ _=>False) s)
  (n:Nat) (h:I n s) :
  bS (aF prog w) A (.compLoop (.ListComp elt [⟨target,iter,ifs,0⟩] scope pos) 0 it acc env) R s:=by
 refine codeAny_loop rfl I (λn s hI=>?_) n h;show aC _ A ((compTurn (.ListComp elt [⟨target,iter,ifs,0⟩] scope pos) 0 it acc env).onRaise (λx=>do noteFrame x env;theTreesLotGoes x)) _ _ s;refine wpAny_noted ?_;rw[compTurn_list];refine aw (hZ (aw (bu (turn n s hI) (λr s₁ h₁=>?_) λ_ _ h'=>h'.elim)));cases r with
 |none=>exact aH h₁
 |some v =>
  refine aw (bu h₁ (λ_ s₁' h₁'=>?_) λ_ _ h'=>h'.elim);refine aw (bu h₁' (λ_ s₂ h₂=>aw (bu h₂ (λok s₃ h₃=>?_) λ_ _ h'=>h'.elim)) λ_ _ h'=>h'.elim);cases ok with
  |false=>exact aH ⟨rfl,h₃⟩
  |true =>exact aw (aw (bu h₃ (λx s₄ h₄=>aw (bu h₄ (λ_ s₅ h₅=>aH (aH ⟨rfl,h₅⟩)) λ_ _ h'=>h'.elim)) λ_ _ h'=>h'.elim))
end
noncomputable def zf(env:cf):List (ao×bC)->List (ao×ai)->List (ao×ai)
 |[],acc=>acc
 |(n,k)::r,acc=>zf env r (if k==.free then(match env.cells.lookup n with|some a=>(n,a)::acc|none=>acc)else acc)
theorem O8{scope:be}{env:cf}(h:∀y∈scope.names,y.2=.free->(env.cells.lookup y.1).isSome=ag):closureFor scope env=pure (zf env scope.names []):=by
 simp only[closureFor];have step:∀(names:List (ao×bC)) (acc:List (ao×ai)),(∀y∈names,y.2=.free->(env.cells.lookup y.1).isSome=ag) ->
   (forIn names acc (λx r=>(do if (x.2==bf)=ag then(do let a <-cellOf env x.1;pure (bP ((x.1,a)::r)))else pure (bP r):iY _)):iY _)=pure (zf env names acc):=by
  intro names;induction names with
  |nil=>intro acc _;rfl
  |cons y r ih =>
   intro acc hy;obtain⟨n,k⟩:=y;rw[List.forIn_cons];by_cases e:(k==bf)=ag
   .have hk:k=.free:=by simpa using e
    have hs:=hy (n,k) (X4 ..) hk;obtain⟨a,ha⟩:=Xm.mp hs;have hc:cellOf env n=pure a:=by unfold cellOf;rw[ha]
    simp only[e,if_true,hc,pure_bind];rw[ih _ λz hz=>hy z (kj _ hz)];simp only[zf,e,if_true,ha]
   .have e':(k==bf)=ae:=by simpa using e
    simp only[e',pq,if_false,pure_bind];rw[ih _ λz hz=>hy z (kj _ hz)];simp only[zf,e',pq,if_false]
 have:=step scope.names [] h;rw[show(forIn scope.names ([]:List (ao×ai)) λx r=>_)=_ from this];rfl
theorem Nr{env:cf}{y:ao}{c:ai}:∀{names:List (ao×bC)} {acc:List (ao×ai)},(∀y c,acc.lookup y=aa c->env.cells.lookup y=aa c)->(zf env names acc).lookup y=aa c->env.cells.lookup y=aa c
 |[],acc,h,q=>h y c q
 |(n,k)::r,acc,h,q=>by
  unfold zf at q;refine Nr (acc:=_) ?_ q;intro z d hz;split at hz
  .split at hz
   .rename_i a ha;rw[xj]at hz;split at hz
    .rename_i e;have e':z=n:=by simpa using e
     subst e';cases hz;exact ha
    .exact h z d hz
   .exact h z d hz
  .exact h z d hz
theorem O9{env:cf}{y:ao}:∀{names:List (ao×bC)} {acc:List (ao×ai)},(acc.lookup y).isSome=ag->((zf env names acc).lookup y).isSome=ag
 |[],acc,h=>h
 |(n,k)::r,acc,h=>by
  unfold zf;refine O9 ?_;split
  .split
   .rw[xj];split
    .rfl
    .exact h
   .exact h
  .exact h
theorem U8{env:cf}{y:ao}(hs:(env.cells.lookup y).isSome=ag):∀{names:List (ao×bC)} {acc:List (ao×ai)},(y,bf)∈names->((zf env names acc).lookup y).isSome=ag
 |[],acc,h=>nomatch h
 |(n,k)::r,acc,h=>by
  unfold zf;rcases xf.mp h with e|h
  .cases e;refine O9 ?_;obtain⟨a,ha⟩:=Xm.mp hs;rw[if_pos (by rfl),ha];rw[xj];simp
  .exact U8 hs h
noncomputable def Je(scope:be)(env:cf)(N:List ao)(cs:List Nat):Bool :=
 scope.names.all (λy=>(y.2 != .cell || scope.names.lookup y.1==aa .cell)&&(y.2 != .local || scope.names.lookup y.1==aa .local)&&(y.2 != .free || ((env.cells.lookup y.1).isSome&&(env.kindOf y.1==aa .cell || env.kindOf y.1==aa .free)))) &&
 (aP N.length).all (λj=>cs.contains j || (match N[j]? with|some y=>scope.names.lookup y != aa .local&&scope.names.lookup y != aa .cell|none=>ag))
theorem lookup_mem{α β:Type}[BEq α][LawfulBEq α]{l:List (α×β)}{a:α}{b:β}(h:l.lookup a=aa b):(a,b)∈l:=by
 induction l with
 |nil=>cases h
 |cons x r ih =>
  obtain⟨c,d⟩:=x;rw[xj]at h;split at h
  .rename_i e;cases h;have e':a=c:=by simpa using e
   subst e';exact X4 ..
  .exact kj _ (ih h)
theorem Jc{env:cf}{x:ao}{k':bC}:∀{names:List (ao×bC)},
  (names.map λ(n,k)=>if (k==bf&&env.scope.kind==.function&&env.kindOf n==aa .cell) then(n,bG) else(n,k)).lookup x=aa k' ->
  ∃k,names.lookup x=aa k/\(k'=k\/(k=.free/\k'=.cell))
 |[],h=>by cases h
 |(n,k)::r,h=>by
  rw[xx]at h;rw[xj];by_cases hc:(k==bf&&env.scope.kind==.function&&env.kindOf n==aa .cell)=ag
  .dsimp only at h;rw[if_pos hc,xj]at h;cases e:x==n with
   |true =>
    rw[e]at h;cases h;have:(k==bf)=ag:=by
     cases z:k==bf with
     |true=>rfl
     |false=>rw[z]at hc;simp at hc
    exact⟨k,rfl,.inr ⟨by simpa using this,rfl⟩⟩
   |false=>rw[e]at h;exact Jc h
  .dsimp only at h;rw[if_neg hc,xj]at h;cases e:x==n with
   |true=>rw[e]at h;cases h;exact⟨_,rfl,.inl rfl⟩
   |false=>rw[e]at h;exact Jc h
theorem Vj:∀(names:List (ao×bC)) (n:Nat) (acc:List (ao×ai)),aR n names acc=aR n names []++acc
 |[],_,_=>rfl
 |(x,k)::r,n,acc=>by
  unfold aR;split
  .rw[Vj r (n+1) ((x,n)::acc),Vj r (n+1) [(x,n)],P0];rfl
  .exact Vj r n acc
theorem Oa:∀{names:List (ao×bC)} {n:Nat} {x:ao} {c:ai},(x,c)∈aR n names []->(x,bG)∈names/\n<=c
 |[],_,_,_,h=>nomatch h
 |(y,k)::r,n,x,c,h=>by
  unfold aR at h;split at h
  .rename_i hk;rw[Vj]at h;rcases Pr.mp h with h|h
   .have q:=Oa h;exact⟨kj _ q.1,Nat.le_of_succ_le q.2⟩
   .cases X7.mp h;have hk:k=bG:=by simpa using hk
    subst hk;exact⟨X4 ..,X3 _⟩
  .have q:=Oa h;exact⟨kj _ q.1,q.2⟩
theorem V5{β:Type}:∀{l m:List (ao×β)} {y:ao},(l++m).lookup y=(l.lookup y).or (m.lookup y)
 |[],m,y=>rfl
 |(x,b)::r,m,y=>by
  rw[fi,xj,xj];split
  .rfl
  .exact V5
theorem Nt{names:List (ao×bC)}{n:Nat}{acc:List (ao×ai)}{y:ao}{c:ai}(h:(aR n names acc).lookup y=aa c) :
  ((y,c)∈aR n names []/\(y,bG)∈names/\n<=c)\/((aR n names []).lookup y=ah/\acc.lookup y=aa c):=by
 rw[Vj,V5]at h;cases e:(aR n names []).lookup y with
 |some c'=>rw[e]at h;cases h;have q:=lookup_mem e;exact .inl ⟨q,Oa q⟩
 |none=>rw[e]at h;exact .inr ⟨rfl,h⟩
theorem jd7{names:List (ao×bC)}{n:Nat}{acc:List (ao×ai)}{y:ao}(h:(y,bG)∉names):(aR n names acc).lookup y=acc.lookup y:=by
 rw[Vj,V5];cases e:(aR n names []).lookup y with
 |some c'=>exact absurd (Oa (lookup_mem e)).1 h
 |none=>rfl
theorem j9g{names:List (ao×bC)}{n:Nat}{acc:List (ao×ai)}{y:ao}(h:(acc.lookup y).isSome=ag):∃c,(aR n names acc).lookup y=aa c:=by
 rw[Vj,V5];cases e:(aR n names []).lookup y with
 |some c'=>exact⟨c',rfl⟩
 |none=>obtain⟨c,hc⟩:=Xm.mp h;exact⟨c,hc⟩
theorem Cp{M:gy}{A:aE}{E:k5h}{s:aq}{scope:be}{globals:ai}{closure:List (ao×ai)}{qual:ao}{env:cf}{Q:cf->aq->Prop}
  (hQ:Q { scope:=scope,locals:=s.heap.objs.size,globals:=globals,cells:=aR (s.heap.objs.size+1) scope.names closure,qual:=qual,func:=ah,code:=env.code,frame:=env.frame,builtins:=env.builtins }
   { s with heap:=iq (s.heap.push { cls:=.type "dict",data:=.dict #[] }) scope.names }) :
  aC M A (eM scope globals closure [] qual ah .none (aa env)) Q E s:=by
 simp only[eM,dX,if_true];refine aw (wpAny_alloc ?_);refine aw (wpAny_layCells _ (λname kind cells=>by cases hkc:kind==bG<;>simp[hkc]) _ _ _ _ ?_);rw[show({ s with heap:=s.heap.push { cls:=.type "dict",data:=.dict #[] } }:aq).heap.objs.size=s.heap.objs.size+1 from Pz ..];exact aw (aH (aH hQ))
noncomputable abbrev cCx(X:Cx)(scope:be)(C:ai)(s:aq)(H:Hp)(fp:List ai)(pn:k5i):Cx :=
 { X with env:=lD scope (aR (C+1) scope.names (zf X.env scope.names [])) C X.env,s₀:=s,H₀:=H,outer:=X.stack,stack:=X.stack,ex:=fp,fn:=λx=>scope.names.lookup x==aa .cell,pn:=pn,xe:=λ_ _=>False }
noncomputable def Ym(scope:be)(y:ao):Bool:=scope.names.lookup y==aa .local || scope.names.lookup y==aa .cell
theorem Z4{env:cf}:∀{names:List (ao×bC)} {x:ao},names.lookup x=aa .cell ->
  (names.map λ(n,k)=>if (k==bf&&env.scope.kind==.function&&env.kindOf n==aa .cell) then(n,bG) else(n,k)).lookup x=aa .cell
 |[],_,h=>by simp at h
 |(n,k)::r,x,h=>by
  have ih:=@Z4 env r x;rw[xx];cases hx:x==n with
  |true =>simp only[xj,hx]at h;cases h;simp[xj,hx]
  |false =>
   simp only[xj,hx]at h;dsimp only;by_cases hc:(k==bf&&env.scope.kind==.function&&env.kindOf n==aa .cell)=ag
   .rw[if_pos hc];simp only[xj,hx];exact ih h
   .rw[if_neg hc];simp only[xj,hx];exact ih h
theorem Km{X:Cx}{scope:be}{C:ai}{s:aq}{H:Hp}{fp:List ai}{pn:k5i}{y:ao}(h:Ym scope y=ag):Loc (cCx X scope C s H fp pn).env.scope y:=by
 unfold Ym at h;rw[bV]at h;rcases h with h|h
 .exact .inl (iW (by simpa using h))
 .exact .inr (Z4 (by simpa using h))
theorem j18{X:Cx}{scope:be}{C:ai}{s:aq}{H:Hp}{fp:List ai}{pn:k5i}{y:ao}(h:Ym scope y=ag):(cCx X scope C s H fp pn).fn y=ag\/(cCx X scope C s H fp pn).env.scope.names.lookup y=aa .local:=by
 unfold Ym at h;rw[bV]at h;rcases h with h|h
 .exact .inr (iW (by simpa using h))
 .exact .inl h
def DTs(X:Cx)(ρ:Rho)(ifs:List ar)(b:Bool):Prop:=match ifs with
 |[]=>b=ag
 |[c]=>DB X ρ c b
 |_=>False
theorem DTs.nil{X:Cx}{ρ:Rho}:DTs X ρ [] ag:=rfl
theorem DTs.one{X:Cx}{ρ:Rho}{c:ar}{b:Bool}(h:DB X ρ c b):DTs X ρ [c] b:=h
theorem DTs.run{X:Cx}{ρ:Rho}{ifs:List ar}{b:Bool}(h:DTs X ρ ifs b){pins:k5i}{σ:St}{H:Hp}{s:aq}(I:Inv X pins σ H s)(R:Rep X.K ρ σ H) :
  aC (aF X.prog X.w) X.A (forIn ifs ag λc r=>if r=ag then do let ok <-ft c X.env (az c X.env);pure (bP ok)else pure (bP r)) (λok s'=>ok=b/\∃H',Inv X pins σ H' s'/\jb H H') X.xe s:=by
 match ifs,h with
 |[],h=>exact wpAny_tests_nil ⟨h.symm,H,I,jb.refl H⟩
 |[c],h=>exact wpAny_tests_one (thn (h σ H (λk H'=>k=b/\jb H H') R (λH' g=>⟨rfl,g⟩) pins s I) λk s' ⟨H',I',e,g⟩=>⟨e,H',I',g⟩)
theorem Rep.weaken{K:k5g}{ρ:Rho}{σ σ':St}{H:Hp}(R:Rep K ρ σ H)(hl:σ'.length=σ.length)(h:∀(i:Nat),ρ[i]?≠aa .un->σ'[i]?=σ[i]?):Rep K ρ σ' H :=
 ⟨by rw[hl,R.len],λi d e=>let ⟨v,q,z⟩:=R.val i d e;⟨v,by rw[h i (by rw[e];simp)];exact q,z⟩,λi a ds e=>let ⟨q,z⟩:=R.own i a ds e;⟨by rw[h i (by rw[e];simp)];exact q,z⟩,R.nd,λi a o x e=>let ⟨q,z⟩:=R.raw i a o x e;⟨by rw[h i (by rw[e];simp)];exact q,z⟩,R.tb⟩
noncomputable def mask(cs:List Nat)(σ:St):St:=σ.mapIdx λj v=>if cs.contains j then ah else v
theorem Ww(cs:List Nat)(σ:St):(mask cs σ).length=σ.length:=by unfold mask;simp
theorem j4n{cs:List Nat}{σ:St}{j:Nat}{v:V}(h:(mask cs σ)[j]?=aa (aa v)):j∉cs/\σ[j]?=aa (aa v):=by
 unfold mask at h;rw[gY]at h;cases e:σ[j]? with
 |none=>rw[e]at h;cases h
 |some u =>
  rw[e]at h;have h':(if cs.contains j then ah else u)=aa v:=aB h;by_cases z:cs.contains j=ag
  .rw[if_pos z]at h';cases h'
  .rw[if_neg z]at h';subst h';exact⟨λy=>z (by simpa using y),rfl⟩
theorem j4m{cs:List Nat}{σ:St}{j:Nat}(h:j∉cs):(mask cs σ)[j]?=σ[j]?:=by
 unfold mask;rw[gY];cases e:σ[j]? with
 |none=>rfl
 |some u=>simp[h]
def Wk(ρ2 ρ:Rho):Prop:=∀K σ H,Rep K ρ2 σ H->Rep K ρ σ H
theorem Ze(H:Hp)(A B:List ai):del (del H A) B=del H (A++B):=funext λb=>by unfold del;by_cases h1:b∈A<;>by_cases h2:b∈B<;>simp[h1,h2]
structure Loose(X:Cx)(pins:k5i)(H:Hp)(C:ai):Prop where
 free:H C=ah
 loc:C≠X.env.locals
 new:X.s₀.heap.objs.size<=C
 cell:∀x c,X.env.cells.lookup x=aa c->c≠C
 pin:∀p∈X.pn++pins,p.1≠C
section
variable{X:Cx}{pins:k5i}{σ:St}{H2:Hp}{s2:aq}{ρ:Rho}{tg elt iter:ar}{ifs:List ar}{scope:be}{pos:aL}{ds:List D}{cs:List Nat}{p:D->Bool}{g:D->D}
theorem j5t{J:It}{fp:List ai}{it:ai}{tn:Nat->aI->Prop}(I2:Inv X pins σ H2 s2)(T:Turn X.prog X.w X.K tg J fp it tn)(st2:tn 0 s2.heap)(f2:∀b∈fp,Ue X pins H2 b)
  (hkind:scope.kind=.function) (hok:Je scope X.env X.N cs=ag) {E:k5h} {RR:aj->ai->eO->aq->Prop}
  (hk:∀(C Dd:ai)(h₁:aI),(cCx X scope C s2 H2 fp (X.pn++pins)).Ok->Inv (cCx X scope C s2 H2 fp (X.pn++pins)) [] (mask cs σ) (upd H2 Dd (.lst [])) { s2 with heap:=h₁ }->s2.heap.objs.size=Dd->Dd<C->H2 Dd=ah->(∀b o,s2.heap.get? b=aa o->h₁.get? b=aa o) ->
   bS (aF X.prog X.w) X.A (.compLoop (.ListComp elt [⟨tg,iter,ifs,0⟩] scope pos) 0 (.ref it) (.ref Dd) (lD scope (aR (C+1) scope.names (zf X.env scope.names [])) C X.env)) (RR (.ref Dd) C) { s2 with heap:=h₁ }) :
  aC (aF X.prog X.w) X.A (newList []) (λacc s₃=>aC (aF X.prog X.w) X.A (eM scope X.env.globals (zf X.env scope.names []) [] X.env.qual ah .none (aa X.env)) (λcenv s₄=>cenv.frame=X.env.frame /\
   bS (aF X.prog X.w) X.A (.compStart (.ListComp elt [⟨tg,iter,ifs,0⟩] scope pos) 0 (.ref it) acc { cenv with scope:=jV scope X.env }) (RR acc cenv.locals) s₄) E s₃) E s2:=by
 unfold Je at hok;rw[Xb]at hok;obtain⟨hn,hN⟩:=hok;have hn':∀y∈scope.names,(y.2=.cell->scope.names.lookup y.1=aa .cell)/\(y.2=.free->(X.env.cells.lookup y.1).isSome=ag/\(X.env.kindOf y.1=aa .cell\/X.env.kindOf y.1=aa .free)):=λy hy=>by have:=Xk.mp hn y hy;simp only[Xb,bne_iff_ne,ne_eq,bV,beq_iff_eq]at this;obtain⟨⟨a,_⟩,c⟩:=this;exact⟨λe=>a.elim (λz=>absurd e z) id,λe=>c.elim (λz=>absurd e z) id⟩
 have nocell:∀{y:ao},scope.names.lookup y=aa .free->(y,bG)∉scope.names:=λ{y} h z=>by have q:=(hn' _ z).1 rfl;rw[h]at q;cases q
 have hloc:∀(j:Nat)(y:ao),X.N[j]?=aa y->j∉cs->scope.names.lookup y≠aa .local/\scope.names.lookup y≠aa .cell:=λj y hj hc=>by
  have hlt:j<X.N.length:=(Xh.mp hj).1;have:=Xk.mp hN j (Xy.mpr hlt);rw[hj]at this;simp only[bV,Xb,bne_iff_ne,ne_eq]at this;rcases this with z|z
  .exact absurd (by simpa using z) hc
  .exact z
 have cl_of:∀{y:ao}{c:ai},(zf X.env scope.names []).lookup y=aa c->X.env.cells.lookup y=aa c:=λ{y c} h=>Nr (λ_ _ z=>by cases z) h;refine bO (Cp ?_);dsimp only;generalize hH2:s2.heap.push { cls:=.type "list",dict:=ah,data:=.seq ([]:List aj).toArray }=hp2;have keep1:∀b o,hp2.get? b=aa o->(iq (hp2.push { cls:=.type "dict",data:=.dict #[] }) scope.names).get? b=aa o:=λb o e=>l6 _ _ b o (xn _ e);have hns₁:(iq (hp2.push { cls:=.type "dict",data:=.dict #[] }) scope.names).Ns hp2.objs.size (λ_=>ah):=(Heap.Ns.new hp2 (.type "dict")).keeps (l6 _ _);have okl:=cellsFrom_ok scope.names (hp2.push { cls:=.type "dict",data:=.dict #[] }) (hp2.objs.size+1) [] ⟨λ_ _ hm=>(nomatch hm),List.Pairwise.nil⟩ (by rw[Pz];exact X3 _);rw[Pz]at okl;generalize iq (hp2.push { cls:=.type "dict",data:=.dict #[] }) scope.names=h₁ at keep1 hns₁ okl ⊢;have hC:hp2.objs.size=s2.heap.objs.size+1:=by rw[<-hH2,Pz]
 have hDC:s2.heap.objs.size≠hp2.objs.size:=by rw[hC];exact Xa (Pj _)
 have hCle:s2.heap.objs.size<=hp2.objs.size:=by rw[hC];exact lh _
 have below:∀b,b<s2.heap.objs.size->b≠hp2.objs.size/\b≠s2.heap.objs.size:=λb hb=>⟨by rw[hC];exact Xa (f9 hb),Xa hb⟩
 have old:∀b o,s2.heap.get? b=aa o->h₁.get? b=aa o:=λb o e=>keep1 b o (hH2▸xn _ e);have hacc:h₁.get? s2.heap.objs.size=aa { cls:=.type "list",dict:=ah,data:=.seq ([]:List aj).toArray }:=keep1 _ _ (hH2▸Xc _ rfl);have none_of:∀b,s2.heap.objs.size<=b->s2.heap.get? b=ah:=λb hb=>by
  cases e:s2.heap.get? b with
  |none=>rfl
  |some o'=>exact absurd (xm e) (Nat.not_lt.mpr hb)
 have hD0:H2 s2.heap.objs.size=ah:=I2.fresh;generalize hDd:s2.heap.objs.size=Dd at *;generalize hCc:hp2.objs.size=C at *;have hC0:H2 C=ah:=I2.hok.fresh (by rw[hDd];exact hCle);have pinlt:∀p∈X.pn++pins,p.1<Dd:=λp hp=>by rw[<-hDd];exact xm (I2.pin p hp).1
 have celllt:∀y c,X.env.cells.lookup y=aa c->c<Dd:=λy c h=>by obtain⟨v,o,e,_⟩:=I2.cell y c h;rw[<-hDd];exact xm e
 have loclt:X.env.locals<Dd:=by rw[<-hDd];exact I2.lt
 have fplt:∀b∈fp,b<Dd:=λb hb=>by obtain⟨o,e,_⟩:=T.obj _ _ st2 b hb;rw[<-hDd];exact xm e
 have hDlt:Dd<C:=by omega
 have cellD:∀{y:ao}{c:ai},(aR (C+1) scope.names (zf X.env scope.names [])).lookup y=aa c->((y,c)∈aR (C+1) scope.names []/\C+1<=c)\/X.env.cells.lookup y=aa c:=λ{y c} h=>by
  rcases Nt h with ⟨q,_,z⟩|⟨_,q⟩
  .exact .inl ⟨q,z⟩
  .exact .inr (cl_of q)
 have celln:∀{y:ao}{c b:ai},(aR (C+1) scope.names (zf X.env scope.names [])).lookup y=aa c->b<Dd->(∀c,X.env.cells.lookup y=aa c->c≠b)->c≠b:=λ{y c b} h hb ho=>by
  rcases cellD h with ⟨_,z⟩|q
  .exact cA (Xq hb (Xq hDlt (Tc z)))
  .exact ho c q
 have okc:(cCx X scope C s2 H2 fp (X.pn++pins)).Ok:={
  mod:=I2.ok.mod
  kind:=hkind
  glob:=I2.ok.glob
  blt:=I2.ok.blt
  above:=by show s2.heap.objs.size<=C;rw[hDd];exact hCle
  inj:=λx y c h1 h2=>by
   rcases cellD h1 with ⟨m1,z1⟩|q1<;>rcases cellD h2 with ⟨m2,z2⟩|q2
   .exact name_of_addr okl.apart m1 m2
   .exact absurd (Xq (celllt y c q2) (Xq hDlt (Tc z1))) (Xx _)
   .exact absurd (Xq (celllt x c q1) (Xq hDlt (Tc z2))) (Xx _)
   .exact I2.ok.inj x y c q1 q2
  has:=λx h=>by
   have key:∀k',(jV scope X.env).names.lookup x=aa k'->(k'=.cell\/k'=.free)->∃c,(aR (C+1) scope.names (zf X.env scope.names [])).lookup x=aa c:=λk' hk hk'=>by
    obtain⟨k,hl,e⟩:=Jc hk
    have hm:=lookup_mem hl
    have hk0:k=.free\/k=.cell:=by
     rcases e with e|e
     .subst e
      exact hk'.symm
     .exact .inl e.1
    rcases hk0 with hk0|hk0
    .subst hk0
     exact j9g (U8 ((hn' _ hm).2 rfl).1 hm)
    .subst hk0
     exact Xm.mp (W.cellsFrom_some _ _ _ (.inl hl))
   rcases h with h|h
   .exact key _ h (.inl rfl)
   .exact key _ h (.inr rfl)
  cab:=λx c h h2=>by
   have hx:scope.names.lookup x=aa .cell:=by simpa using h
   show s2.heap.objs.size<=c
   rw[hDd]
   rcases Nt h2 with ⟨_,_,z⟩|⟨z,_⟩
   .exact dz (Xq hDlt (Tc z))
   .obtain⟨c',hc'⟩:=Xm.mp (W.cellsFrom_some scope.names (C+1) [] (.inl hx))
    rw[z]at hc';cases hc'
  hd:=I2.ok.hd
  frames:=I2.ok.frames
  stk:=.inl rfl
  exf:=λb hb=>⟨Xa (Xq (fplt b hb) hDlt),λx c h=>celln h (fplt b hb) λc q=>(f2 b hb).2.2.2.2.1 x c q⟩
  bs:=I2.bs
  bsz:=Xf I2.ok.bsz I2.sz
  noex:=λb o e hb=>by
   rcases(f2 b hb).2.2.2.1 with z|z
   .exact I2.ok.noex b o e z
   .exact absurd (xm e) (Nat.not_lt.mpr (Xf I2.ok.bsz z))
  exfs:=λb hb hf=>by
   rcases xf.mp (I2.stkSub b hf)with z|z
   .exact(f2 b hb).2.1 z
   .exact(f2 b hb).2.2.1 z
  funs:=I2.stack
  frf:=I2.stkFree }
 have hpush:HOk X.prog X.w (upd H2 Dd (.lst [])) h₁:=HOk.laid I2.hok old (by rw[hDd];exact X3 _) ⟨bM _,[],_,.nil,hacc⟩;have I0:Inv (cCx X scope C s2 H2 fp (X.pn++pins)) [] (mask cs σ) (upd H2 Dd (.lst [])) { s2 with heap:=h₁ }:={
  ok:=okc
  os:=rfl
  bare:=I2.bare
  base:=Un.laid old (by rw[hDd];exact X3 _) hD0
  loc:=by
   refine⟨_,hns₁,λj y v hj hv hvis=>?_⟩
   obtain⟨hjc,hσ⟩:=j4n hv
   obtain⟨m,hm,hlook⟩:=I2.loc
   have key:∀k',(jV scope X.env).names.lookup y=aa k'->scope.names.lookup y=aa .free:=λk' hk=>by
    obtain⟨k,hl,e⟩:=Jc hk
    have hmm:=lookup_mem hl
    have:k=.free:=by
     rcases e with e|e
     .subst e
      rcases hvis with z|z|z
      .have z:=hk.symm.trans z;cases z;exact absurd hl (hloc j y hj hjc).1
      .have z:=hk.symm.trans z;cases z;exact absurd hl (hloc j y hj hjc).2
      .have z:=hk.symm.trans z;cases z;rfl
     .exact e.1
    rw[hl,this]
   have hfree:scope.names.lookup y=aa .free:=by rcases hvis with z|z|z<;>exact key _ z
   have hmm:=lookup_mem hfree
   obtain⟨hs,hk⟩:=(hn' _ hmm).2 rfl
   have hvis':Vis X.env.scope y:=by rcases hk with z|z;exact .inr (.inl z);exact .inr (.inr z)
   obtain⟨u,ru,look⟩:=hlook j y v hj hσ hvis'
   refine⟨u,ru,?_⟩
   rcases look with ⟨z,_⟩|⟨_,c,hcl,hcv⟩
   .rcases hk with y'|y'<;>rw[y']at z<;>cases z
   .refine .inr ⟨?_,c,?_,?_⟩
    .rcases hvis with z|z|z
     .exfalso
      obtain⟨k,hl,e⟩:=Jc z
      rw[hfree]at hl;cases hl
      rcases e with e|e
      .cases e
      .cases e.2
     .exact .inl z
     .exact .inr z
    .obtain⟨c',hc'⟩:=Xm.mp (U8 (acc:=[]) hs hmm)
     have:=cl_of hc'
     rw[hcl]at this;cases this
     exact(jd7 (nocell hfree)).trans hc'
    .obtain⟨o,e,d⟩:=hcv
     exact⟨o,old _ _ e,d⟩
  cell:=λx c h=>by
   rcases cellD h with ⟨q,_⟩|q
   .exact⟨_,(okl.empty x c q).1⟩
   .obtain⟨v,o,e,d⟩:=I2.cell x c q
    exact⟨v,o,old _ _ e,d⟩
  free:=by show upd H2 Dd (.lst []) C=ah;rw[jj (cA hDlt)];exact hC0
  freeC:=λx c h=>by
   rcases cellD h with ⟨_,z⟩|q
   .rw[jj (cA (Xq hDlt (Tc z)))];exact I2.hok.fresh (by rw[hDd];exact dz (Xq hDlt (Tc z)))
   .rw[jj (Xa (celllt x c q))];exact I2.freeC x c q
  pin:=λp hp=>by
   rw[Xp]at hp
   obtain⟨h1,h2,h3,h4,h5⟩:=I2.pin p hp
   have hlt:=pinlt p hp
   refine⟨old _ _ h1,by rw[jj (Xa hlt)];exact h2,Xa (Xq hlt hDlt),λz=>?_,h5⟩
   rcases xf.mp (I2.stkSub _ z)with y|y
   .exact h3 y
   .exact h4 y
  hok:=hpush
  len:=by rw[Ww];exact I2.len }
 have go:=hk C Dd h₁ okc I0 rfl hDlt hD0 old;exact⟨rfl,codeAny_compStart_list go (T.self _ 0 _ _ _ (T.keep _ _ _ st2 (λb _ o e=>old b o e)) go)⟩
theorem Np{J:It}{fp:List ai}{it:ai}{tn:Nat->aI->Prop}(I2:Inv X pins σ H2 s2)(R2:Rep X.K ρ σ H2)(T:Turn X.prog X.w X.K tg J fp it tn)(st2:tn 0 s2.heap)(f2:∀b∈fp,Ue X pins H2 b)
  (ok:W6 X.K (del H2 (owns ρ)) J ds) (hc:X.calm=ag) (hkind:scope.kind=.function) (hok:Je scope X.env X.N cs=ag) (hcs:∀j∈cs,ρ[j]?=aa .un) (hsz:ds.length<=au)
  (hb:∀C s H fp pn,∀d∈ds,∃ρ2,DG (cCx X scope C s H fp pn) ρ tg d ρ2/\Wk ρ2 ρ/\owns ρ2=owns ρ/\DTs (cCx X scope C s H fp pn) ρ2 ifs (p d)/\(p d=ag->DE (cCx X scope C s H fp pn) ρ2 elt (g d)))
  {E:k5h} {RR:aj->ai->eO->aq->Prop}
  (hRR:∀D C xs H' s' m,Inv X pins σ H' s'->jb H2 H'->H2 D=ah->H' D=aa (.lst xs)->jd X.K (del H' (D::owns ρ)) ((ds.filter p).map g) xs->s'.heap.Ns C m->Loose X pins H' C->RR (.ref D) C (.ok .next) s') :
  aC (aF X.prog X.w) X.A (newList []) (λacc s₃=>aC (aF X.prog X.w) X.A (eM scope X.env.globals (zf X.env scope.names []) [] X.env.qual ah .none (aa X.env)) (λcenv s₄ =>
   bS (aF X.prog X.w) X.A (.compStart (.ListComp elt [⟨tg,iter,ifs,0⟩] scope pos) 0 (.ref it) acc { cenv with scope:=jV scope X.env }) (RR acc cenv.locals) s₄) E s₃) E s2:=by
 refine thn (j5t (RR:=RR) I2 T st2 f2 hkind hok λC Dd h₁ okc I0 hDd hDlt hD0 old=>?_) λacc s₃ h=>thn h λcenv s₄ h=>h.2;have hDlt:@LT.lt Nat _ Dd C:=hDlt;have pinlt:∀p∈X.pn++pins,p.1<Dd:=λp hp=>by rw[<-hDd];exact xm (I2.pin p hp).1
 have celllt:∀y c,X.env.cells.lookup y=aa c->c<Dd:=λy c h=>by obtain⟨v,o,e,_⟩:=I2.cell y c h;rw[<-hDd];exact xm e
 have loclt:X.env.locals<Dd:=by rw[<-hDd];exact I2.lt
 have fplt:∀b∈fp,b<Dd:=λb hb=>by obtain⟨o,e,_⟩:=T.obj _ _ st2 b hb;rw[<-hDd];exact xm e
 have hDo:Dd∉owns ρ:=R2.fresh hD0;have fpok:∀{H':Hp},(∀b∈fp,H' b=ah)->∀b∈fp,Ue (cCx X scope C s2 H2 fp (X.pn++pins)) [] H' b:=λ{H'} hn b hb =>⟨hn b hb,(okc.exf b hb).1,okc.exfs b hb,.inl hb,(okc.exf b hb).2,λp hp=>by rw[Xp]at hp;exact(f2 b hb).2.2.2.2.2 p hp⟩
 have R0:Rep X.K ρ (mask cs σ) H2:=R2.weaken (Ww _ _) λj hj=>j4m λz=>hj (hcs j z);have e0:del (upd H2 Dd (.lst [])) [Dd]=H2:=by
  rw[Yh (X7.mpr rfl)]
  funext b
  by_cases z:b∈[Dd]
  .rw[qp z,X7.mp z,hD0]
  .exact jc z
 have loop:∀s₃:aq,s₃={ s2 with heap:=h₁ } ->
   bS (aF X.prog X.w) X.A (.compLoop (.ListComp elt [⟨tg,iter,ifs,0⟩] scope pos) 0 (.ref it) (.ref Dd) (lD scope (aR (C+1) scope.names (zf X.env scope.names [])) C X.env)) (RR (.ref Dd) C) s₃:=by
  rintro s₃ rfl;refine Lw (λn s=>∃i σ' H' ys,Inv (cCx X scope C s2 H2 fp (X.pn++pins)) [] σ' H' s/\tn i s.heap/\(∀b∈fp,H' b=ah)/\i<=ds.length/\n=ds.length-i/\Rep X.K ρ σ' (del H' [Dd])/\jb H2 (del H' [Dd])/\H' Dd=aa (.lst ys) /\
   jd X.K (del H' (Dd::owns ρ)) (((ds.take i).filter p).map g) ys) ?_ ds.length
   ⟨0,mask cs σ,upd H2 Dd (.lst []),[],I0,T.keep _ _ _ st2 (λb _ o e=>old b o e),λb hb=>by rw[jj (Xa (fplt b hb))];exact(f2 b hb).1,bM _,rfl,by rw[e0];exact R0,by rw[e0];exact jb.refl _,je,rfl⟩
  rintro n s3 ⟨i,σ3,H3,ys,I3,st3,fr3,hle,rfl,R3,g3,m3,en3⟩;have F3:jb (del H2 (owns ρ)) (del H3 (Dd::owns ρ)):=by
   have:del H3 (Dd::owns ρ)=del (del H3 [Dd]) (owns ρ):=by rw[Ze];rfl
   rw[this];exact jk g3
  obtain⟨go,stop,yld⟩:=ok i H3 (Dd::owns ρ) F3 λa ha=>by
   rcases xf.mp ha with e|ha
   .rw[e,m3];simp
   .obtain⟨xs,e⟩:=R3.owned a ha;rw[(of_del e).2];simp
  by_cases hlt:i<ds.length
  .refine thn (T.item (cCx X scope C s2 H2 fp (X.pn++pins)) rfl rfl rfl hc i [] s3 σ3 H3 (λ_ _=>False) I3 (fpok fr3) st3 (go hlt)) λr s4 ⟨u,hr,h4⟩=>?_;subst hr;refine thn h4 λ_ s5 ⟨x,H5,I5,r5,y5,st5,fr5⟩=>?_;obtain⟨g5,en5⟩:=yld x H5 y5;have hd:ds[i]?=aa ds[i]:=kh hlt;obtain⟨ρ2,⟨sub,hG⟩,wk,eo,hT,hE⟩:=hb C s2 H2 fp (X.pn++pins) ds[i] (tu hlt);have m5:H5 Dd=aa (.lst ys):=g5 _ _ m3;have hA:∀a∈[Dd],Hd (H5 a):=λa ha=>.inl ⟨ys,by rw[X7.mp ha];exact m5⟩;have I5p:=I5.pinned (fpok fr5) (T.obj _ _ st5);have I5h:=I5p.hide hA;have R5:Rep X.K ρ σ3 (del H5 [Dd]):=R3.grow (jk g5);have en5':Enc X.K (del (del H5 [Dd]) (owns ρ)) ds[i] x:=by rw[Ze];exact en5 _ hd
   refine thn (hG σ3 (del H5 [Dd]) x (λσ6 F6=>F6=del H5 [Dd]/\Rep X.K ρ2 σ6 F6) R5 en5' (λσ6 R6=>⟨rfl,R6⟩) _ s5 u I5h r5) λ_ s6 ⟨σ6,F6,I6,e6,R6⟩=>?_;subst e6;refine thn (hT.run I6 R6) λokv s7 ⟨e7,F7,I7,g7⟩=>?_;subst e7;have R7:Rep X.K ρ σ6 F7:=wk _ _ _ (R6.grow g7);have g27:jb H2 F7:=g3.trans ((jk g5).trans g7);have en7:jd X.K (del F7 (owns ρ)) (((ds.take i).filter p).map g) ys:=en3.mono (by
    have:del H3 (Dd::owns ρ)=del (del H3 [Dd]) (owns ρ):=by rw[Ze];rfl
    rw[this];exact jk ((jk g5).trans g7))
   have jX:∀{F:Hp}{s':aq},Inv (cCx X scope C s2 H2 fp (X.pn++pins)) ([]++Qw fp s5.heap) σ6 F s'->Inv (cCx X scope C s2 H2 fp (X.pn++pins)) [] σ6 F s'/\tn (i+1) s'.heap/\∀b∈fp,F b=ah:=λ{F s'} I=>by refine⟨I.unpinned,T.keep _ _ _ st5 λb hb o e=>(I.pin (b,o) (Xi _ (Xi _ (Qy hb e)))).1,λb hb=>?_⟩;obtain⟨o,e,d⟩:=T.obj _ _ st5 b hb;exact(I.pin (b,o) (Xi _ (Xi _ (Qy hb e)))).2.1
   have tk:ds.take (i+1)=ds.take i++[ds[i]]:=by rw[List.take_add_one,hd];rfl
   cases hp:p ds[i] with
   |false =>
    rw[if_neg xu];obtain⟨hF,I8⟩:=I5p.unhide hA I7;obtain⟨I9,st9,fr9⟩:=jX I8;refine⟨ds.length-(i+1),by omega,i+1,σ6,_,ys,I9,st9,fr9,hlt,rfl,by rw[Qt hF];exact R7,by rw[Qt hF];exact g27,by rw[J0 (X7.mpr rfl)];exact m5,?_⟩;have:del (mrg [Dd] H5 F7) (Dd::owns ρ)=del F7 (owns ρ):=by
     have e:del (mrg [Dd] H5 F7) (Dd::owns ρ)=del (del (mrg [Dd] H5 F7) [Dd]) (owns ρ):=by rw[Ze];rfl
     rw[e,Qt hF]
    rw[this,tk,iB];have e:[ds[i]].filter p=[]:=by simp[hp]
    rw[e,Xp];exact en7
   |true =>
    rw[if_pos rfl];refine thn (hE hp σ6 F7 (λv F8=>jb F7 F8/\Enc X.K (del F8 (owns ρ2)) (g ds[i]) v) (R6.grow g7) (λv F8 g8 e8=>⟨g8,e8⟩) _ s7 I7) λy s8 ⟨v,F8,I8,r8,g8,e8⟩=>?_;obtain⟨hF,I8'⟩:=I5p.unhide hA I8;rw[eo]at e8;have eH:del (mrg [Dd] H5 F8) (Dd::owns ρ)=del F8 (owns ρ):=by
     have e:del (mrg [Dd] H5 F8) (Dd::owns ρ)=del (del (mrg [Dd] H5 F8) [Dd]) (owns ρ):=by rw[Ze];rfl
     rw[e,Qt hF]
    have hlen:ys.length<au:=by have e1:=en7.length;have e2:((ds.take i).filter p).length<=(ds.take i).length:=bZ _ _;rw[X5]at e1;rw[Xo]at e2;omega
    refine thn (Uq _ s8 σ6 (mrg [Dd] H5 F8) (.ref Dd) [v] (.ref Dd) [y] (λ_ H9=>H9=upd (mrg [Dd] H5 F8) Dd (.lst (ys++[v]))) I8' rfl (.cons r8 .nil)
     ⟨Dd,ys,v,rfl,rfl,by rw[J0 (X7.mpr rfl)];exact m5,hlen,rfl⟩) λ_ s9 ⟨_,H9,I9,_,e9⟩=>?_
    subst e9;obtain⟨I10,st10,fr10⟩:=jX I9;have ed:del (upd (mrg [Dd] H5 F8) Dd (.lst (ys++[v]))) [Dd]=F8:=by rw[Yh (X7.mpr rfl),Qt hF]
    refine⟨ds.length-(i+1),by omega,i+1,σ6,_,ys++[v],I10,st10,fr10,hlt,rfl,by rw[ed];exact R7.grow g8,by rw[ed];exact g27.trans g8,je,?_⟩;rw[Yh (X4 ..),eH,tk,iB,T7];have e:[ds[i]].filter p=[ds[i]]:=by simp[hp]
    rw[e];exact(en7.mono (jk g8)).append (.one e8)
  .have hi:i=ds.length:=by omega
   subst hi;refine thn (T.done (cCx X scope C s2 H2 fp (X.pn++pins)) rfl rfl rfl hc ds.length [] s3 σ3 H3 (λ_ _=>False) I3 (fpok fr3) st3 (stop (X3 _))) λr s4 ⟨hr,I4⟩=>?_;subst hr;rw[iP]at en3;obtain⟨m,hm,_⟩:=I4.loc;refine hRR Dd C ys H3 s4 m ?_ (g3.trans jq) hD0 m3 en3 hm ⟨I4.free,cA (Xq loclt hDlt),?_,λx c h=>Xa (Xq (celllt x c h) hDlt),λp hp=>Xa (Xq (pinlt p hp) hDlt)⟩
   .exact I2.call' (ch:=fp) I4.os I4.base I4.hok I4.bare λb hb=>⟨(f2 b hb).2.2.2.1,(f2 b hb).2.1,(f2 b hb).2.2.2.2.1,(f2 b hb).2.2.2.2.2⟩
   .have:=I2.sz;omega
 exact loop _ rfl
end
section
variable{X:Cx}{ρ:Rho}{tg elt iter:ar}{ifs:List ar}{scope:be}{pos p1 spos:aL}{ds:List D}{cs:List Nat}{p:D->Bool}{g:D->D}{x:ao}{P:Po}
theorem Ra{env:cf}{N:List ao}(h:Je scope env N cs=ag):∀y∈scope.names,y.2=.free->(env.cells.lookup y.1).isSome=ag:=λy hy e=>by unfold Je at h;rw[Xb]at h;have:=Xk.mp h.1 y hy;simp only[Xb,bne_iff_ne,ne_eq,bV]at this;exact this.2.elim (λz=>absurd e z) λz=>z.1
theorem W3{env:cf}{N:List ao}(h:Je scope env N cs=ag):∀y∈scope.names,y.2=.local->scope.names.lookup y.1=aa .local:=λy hy e=>by unfold Je at h;rw[Xb]at h;have:=Xk.mp h.1 y hy;simp only[Xb,bne_iff_ne,ne_eq,bV,beq_iff_eq]at this;exact this.1.2.elim (λz=>absurd e z) λz=>z
theorem Inv.loose{pins:k5i}{σ:St}{H:Hp}{s:aq}{C:ai}{h':aI}(I:Inv X pins σ H s)(L:Loose X pins H C)(sb:eW C s.heap h'):Inv X pins σ H { s with heap:=h' } :=
 I.turned (t':=s.toks) (λb o hb e=>sb.extBut b o hb e) L.free L.loc (.inr L.new) L.cell L.pin
theorem DO.comp(cs:List Nat)(p:D->Bool)(g:D->D)(hi:DI X ρ tg iter ds)
  (hb:∀C s H fp pn,∀d∈ds,∃ρ2,DG (cCx X scope C s H fp pn) ρ tg d ρ2/\Wk ρ2 ρ/\owns ρ2=owns ρ/\DTs (cCx X scope C s H fp pn) ρ2 ifs (p d)/\(p d=ag->DE (cCx X scope C s H fp pn) ρ2 elt (g d)))
  (hcs:∀j∈cs,ρ[j]?=aa .un) (hsz:ds.length<=au) (hc:X.calm=ag:=by rfl) (hkind:scope.kind=.function:=by rfl) (hok:Je scope X.env X.N cs=ag:=by rfl)
  (hs:∀x,aQ iter X.env x=pure x:=by intro _;rfl):DO X ρ (.ListComp elt [⟨tg,iter,ifs,0⟩] scope pos) ((ds.filter p).map g):=λσ H Q R q pins s I=>by
 rw[eval_ListComp];refine ia (use:=ah) rfl hs (O8 (Ra hok)) hkind (W3 hok) (thn (hi σ H (λJ H'=>jb H H'/\W6 X.K (del H' (owns ρ)) J ds) R (λJ H' g1 ok=>⟨g1,ok⟩) pins s I) λv s1 h1=>thn h1 λitv s2 h2=>?_);obtain⟨it,fp,tn,J,H2,e,I2,T,st2,f2,g2,ok⟩:=h2;subst e;refine Np (RR:=λacc C=>compPost (aF X.prog X.w) X.A X.xe ah (EP X pins σ Q) acc C) I2 (R.grow g2) T st2 f2 ok hc hkind hok hcs hsz hb ?_;intro D C xs H' s' m I' gg n m' en hm L;exact⟨m,hm,λh' sb=>⟨.ref D,H',I'.loose L sb,rfl,q D xs H' (g2.trans gg) (g2.free n) m' en⟩⟩
theorem Wk.set{i:Nat}{d:D}(h:ρ[i]?=aa .un):Wk (ρ.set i (.val d)) ρ:=λK σ H R=>by
 have q:=R.set_un (i:=i) (v:=(σ[i]?).join);have e:σ.set i ((σ[i]?).join)=σ:=by
  apply iL;intro j;rw[eY];split
  .rename_i h;subst h;split
   .rename_i h;rw[kh h];rfl
   .rename_i h;rw[dJ (by omega)]
  .rfl
 have e2:(ρ.set i (.val d)).set i .un=ρ:=by
  rw[List.set_set];apply iL;intro j;rw[eY];split
  .rename_i z;subst z;split
   .rw[h]
   .rename_i z;rw[dJ (by omega)]at h;cases h
  .rfl
 rw[e,e2]at q;exact q
theorem Ws{i:Nat}{d:D}(h:ρ[i]?=aa .un):owns (ρ.set i (.val d))=owns ρ:=Wt rfl λa l z=>by rw[h]at z;cases z
end
def Yi(lst:Bool)(h:aI)(t:ai)(its:Array aj):Prop:=if lst=ag then h.IsList t its else h.IsTuple t its
def SqB(K:k5g)(lst:Bool)(H:Hp)(a:ai)(xs:List V):Prop:=if lst=ag then SqL K H a xs else SqT K H a xs
section
variable{X:Cx}{pins:k5i}{σ:St}{H:Hp}{s:aq}{a p:ai}{xs ys:List V}{lst:Bool}{ch:List ai}{h':aI}
theorem jb.seqB{K:k5g}{H':Hp}(e:jb H H')(h:SqB K lst H a xs):SqB K lst H' a xs:=by
 unfold SqB at h ⊢;cases lst with
 |true=>rw[if_pos rfl]at h ⊢;exact e.seq h
 |false=>rw[if_neg xu]at h ⊢;exact e.seqT h
theorem Inv.side(I:Inv X pins σ H s)(h:SqB X.K lst H a xs):∃us:List aj,Vals xs us/\Yi lst s.heap a us.toArray/\xs.length<=au:=by
 unfold SqB at h;unfold Yi;cases lst with
 |true=>rw[if_pos rfl]at h;obtain⟨its,r,q,l⟩:=I.list h;exact⟨its,r,by rw[if_pos rfl];exact q.isList,l⟩
 |false=>rw[if_neg xu]at h;obtain⟨its,r,q,l⟩:=I.tuple h;exact⟨its,r,by rw[if_neg xu];exact q,l⟩
end
section
variable{X:Cx}{ρ:Rho}{a b:ar}{es:List ar}{n:Nat}{pos p q1 q2:aL}{ds ds':List D}{l1 l2:Bool}
noncomputable def D.seq(lst:Bool)(ds:List D):D:=if lst=ag then .lst ds else .tup ds
theorem Vb{K:k5g}{H:Hp}{lst:Bool}{v:V}(h:Enc K H (D.seq lst ds) v):∃t xs,v=.ref t/\SqB K lst H t xs/\jd K H ds xs:=by
 unfold D.seq at h;unfold SqB;cases lst with
 |true=>rw[if_pos rfl]at h;obtain⟨t,xs,e,s,l⟩:=h;exact⟨t,xs,e,by rw[if_pos rfl];exact s,l⟩
 |false=>rw[if_neg xu]at h;obtain⟨t,xs,e,s,l⟩:=h;exact⟨t,xs,e,by rw[if_neg xu];exact s,l⟩
theorem DG.pair{x y:ao}(i j:Nat){d d':D}(hij:i≠j)(hN:X.N.Nodup)(hi:X.N[i]?=aa x:=by rfl)(hj:X.N[j]?=aa y:=by rfl)(hx:Loc X.env.scope x:=by first|exact aV rfl|exact bW rfl)(hy:Loc X.env.scope y:=by first|exact aV rfl|exact bW rfl)
  (fx:X.fn x=ag\/X.env.scope.names.lookup x=aa .local:=by first|exact .inl rfl|exact .inr rfl) (fy:X.fn y=ag\/X.env.scope.names.lookup y=aa .local:=by first|exact .inl rfl|exact .inr rfl) (hc:X.calm=ag:=by rfl)
  (hn:(bD [.Name x q1,.Name y q2] X.env).length=2:=by rfl) (hst:(bD [.Name x q1,.Name y q2] X.env).findIdx? (·.1)=ah:=by rfl)
  (e1:(bD [.Name x q1,.Name y q2] X.env).map (·.2)=dR (.Name x q1) X.env::(bD [.Name y q2] X.env).map (·.2):=by rfl) (e2:(bD [.Name y q2] X.env).map (·.2)=dR (.Name y q2) X.env::(bD [] X.env).map (·.2):=by rfl) :
  DG X ρ (.Tuple [.Name x q1,.Name y q2] n pos) (.tup [d,d']) ((ρ.set i (.val d)).set j (.val d')):=by
 refine⟨λb hb=>(ju rfl).subset ((ju rfl).subset hb),λσ H v Q R en q=>?_⟩;obtain⟨t,xs,ev,sq,u,r,e,eu,u',r',e',eu',er⟩:=en;subst e e' ev er;refine(jb5 hc (Cd (Oz hN hi hx fx) (Cd (Oz hN hj hy fy) j86 e2) e1) hn hst).to ⟨t,[u,u'],rfl,jq.seqT sq,rfl,u,[u'],rfl,u',[],rfl,rfl,?_⟩;refine q _ ?_;have R1:Rep X.K (ρ.set i (.val d)) (σ.set i (aa u)) H:=R.set_val eu;exact R1.set_val (eu'.mono (J7 λb hb=>(ju rfl).subset hb))
end
noncomputable def D.ty:D->String
 |.non=>"NoneType"
 |.bl _=>"bool"
 |.int _=>"int"
 |.str _=>"str"
 |.tup _=>"tuple"
 |.lst _=>"list"
 |.dct _ _=>"dict"
 |.sct _=>"dict"
 |.fn _ _=>"function"
section
variable{X:Cx}{pins:k5i}{σ:St}{H:Hp}{s:aq}{A:aE}{E:k5h}{Q:k5h}{c:aj}{b:Bool}
theorem j28 {d:D} {v:V} {u:aj} (I:Inv X pins σ H s) (en:Enc X.K H d v) (r:RelV v u) (nf:d.ty ≠ "function"):∃P:aI->Prop,PySem.W.KitX X.K u (.type d.ty) P/\P s.heap/\u≠.builtin "__main__.__loader__#opaque":=by
 cases d with
 |non=>cases(show v=.non from en);cases(show u=bp from r);exact⟨_,W.kitx_none,trivial,λz=>nomatch z⟩
 |bl k=>cases(show v=.bl k from en);cases(show u=bE k from r);exact⟨_,W.kitx_bool,trivial,λz=>nomatch z⟩
 |int k=>cases(show v=.int k from en);obtain⟨t,q⟩:=(show ∃t,u=bj k t from r);cases q;exact⟨_,W.kitx_int,trivial,λz=>nomatch z⟩
 |str k=>cases(show v=.str k from en);obtain⟨t,q⟩:=(show ∃t,u=bh k t from r);cases q;exact⟨_,W.kitx_str,trivial,λz=>nomatch z⟩
 |tup l =>obtain⟨a,xs,e,sq,_⟩:=en;subst e;cases(show u=aK a from r);obtain⟨its,_,⟨o,h1,h2,_⟩,_⟩:=I.tuple sq;exact⟨_,W.kitx_tuple,⟨o,h1,h2⟩,λz=>nomatch z⟩
 |lst l =>obtain⟨a,xs,e,sq,_⟩:=en;subst e;cases(show u=aK a from r);obtain⟨its,_,⟨o,n,h1,h2,_⟩,_⟩:=I.list sq;exact⟨_,W.kitx_list,⟨o,h1,h2⟩,λz=>nomatch z⟩
 |dct ks l =>
  obtain⟨a,xs,ep,vs,e,hx,_⟩:=en;subst e;cases(show u=aK a from r);obtain⟨_,_,_,o,es,h1,h2,_⟩:=(show jo X.prog X.w H s.heap a (.dI xs ep)from I.hok _ _ hx)
  exact⟨_,W.kitx_dict,⟨o,h1,h2.1⟩,λz=>nomatch z⟩
 |sct k =>
  obtain⟨a,e,hx⟩:=en;subst e;cases(show u=aK a from r);obtain⟨_,_,vs,_,o,es,ep,h1,h2,_⟩:=(show jo X.prog X.w H s.heap a (.dK (kvI k))from I.hok _ _ hx)
  exact⟨_,W.kitx_dict,⟨o,h1,h2.1⟩,λz=>nomatch z⟩
 |fn x l=>exact absurd rfl nf
theorem j34:Jg X (.builtin "isinstance") (λxs H Q=>∃v d c b,xs=[v,.ty c]/\Enc X.K H d v/\d.ty ≠ "function"/\W.kitOne X.K (.type d.ty) (.type c)=aa b/\Q (.bl b) H):=by rintro pins s σ H xs us Q I r ⟨v,d,c,b,e,en,nf,k,q⟩;subst e;obtain⟨u,u',eu,r1,r2⟩:=vals2 r;subst eu;cases(show u'=de c from r2);obtain⟨P,Z,hp,hn⟩:=j28 I en r1 nf;exact W.kia_one Z I.kIn hp k hn λtk=>⟨.bl b,H,I.tok tk,rfl,q⟩
theorem j33:Jg X (.builtin "isinstance") (λxs H Q=>∃(v:V)(t:ai)(d:D)(cs:List String)(b:Bool),xs=[v,.ref t]/\Enc X.K H d v/\d.ty ≠ "function"/\SqT X.K H t (cs.map V.ty)/\W.kitAny X.K (.type d.ty) (cs.map de)=aa b/\Q (.bl b) H):=by
 rintro pins s σ H xs us Q I r ⟨v,t,d,cs,b,e,en,nf,sq,k,q⟩;subst e;obtain⟨u,u',eu,r1,r2⟩:=vals2 r;subst eu;cases(show u'=aK t from r2);obtain⟨P,Z,hp,hn⟩:=j28 I en r1 nf;obtain⟨its,rv,⟨⟨cl,dd,da,sl⟩,h1,h2,n,h3⟩,_⟩:=I.tuple sq;have h2:cl=.type "tuple":=h2;have h3:da=.seq its.toArray n:=h3;subst h2 h3;have ei:∀{cs:List String}{its:List aj},Vals (cs.map V.ty) its->its=cs.map de:=λ{cs}=>by
  induction cs with
  |nil=>intro its h;exact h.zero
  |cons c cs ih=>intro its h;cases h with|cons a b=>cases a;rw[ih b];rfl
 rw[ei rv]at h1;exact W.kia_tup Z I.kIn hp h1 k hn λtk=>⟨.bl b,H,I.tok tk,rfl,q⟩
end
section
variable{X:Cx}{ρ:Rho}{a b:ar}{d:D}{pos p p1 p2 p3:aL}{T T1 T2:ao}{c c1 c2:String}{k:Bool}{n:Nat}
theorem Ez (hg:Gl X T) (hm:X.mg T=ah) (hv:aZ T=aa (.type c)) (hn:T ≠ "__name__":=by decide) (hd:(T==k5k)=ae:=by decide):PE X (.Name T p) (tC (.ty c)):=j89 hg hm hv rfl hn hd
theorem DE.isi1 (ha:DT X ρ a d) (nf:d.ty ≠ "function") (hm:X.mg "isinstance" = ah) (hT:X.mg T=ah) (hv:aZ T=aa (.type c)) (hk:W.kitOne X.K (.type d.ty) (.type c)=aa k) (hg:Gl X "isinstance":=by rfl) (hg2:Gl X T:=by rfl)
  (hn:T ≠ "__name__":=by decide) (hd:(T==k5k)=ae:=by decide)
  (hs:af [a,.Name T p2] X.env=(ae,az a X.env)::af [.Name T p2] X.env:=by rfl) (hs2:af [.Name T p2] X.env=(ae,az (.Name T p2) X.env)::af [] X.env:=by rfl) (hpl:(aJ pos (af [.Name T p2] X.env)).any (·.1)=ae:=by rfl) :
  DE X ρ (.Call (.Name "isinstance" p) [a,.Name T p2] [] pos) (.bl k):=λσ H Q R q =>
 (vg j34 hg hm l9 (ji peS (ji (Ez hg2 hT hv hn hd) jl hs2) hs) (by decide) (by decide) hs hpl).to (ha σ H _ R λv H1 g1 e1=>⟨v,d,c,k,rfl,e1,nf,hk,q _ H1 g1 rfl⟩)
theorem DE.isi2 {m:Nat} (ha:DT X ρ a d) (nf:d.ty ≠ "function") (hm:X.mg "isinstance" = ah) (hT1:X.mg T1=ah) (hT2:X.mg T2=ah) (hv1:aZ T1=aa (.type c1)) (hv2:aZ T2=aa (.type c2))
  (hk:W.kitAny X.K (.type d.ty) [.type c1,.type c2]=aa k) (hg:Gl X "isinstance":=by rfl) (hg1:Gl X T1:=by rfl) (hg2:Gl X T2:=by rfl)
  (hn1:T1 ≠ "__name__":=by decide) (hd1:(T1==k5k)=ae:=by decide) (hn2:T2 ≠ "__name__":=by decide) (hd2:(T2==k5k)=ae:=by decide)
  (hs:af [a,.Tuple [.Name T1 p1,.Name T2 p2] m p3] X.env=(ae,az a X.env)::af [.Tuple [.Name T1 p1,.Name T2 p2] m p3] X.env:=by rfl)
  (hs2:af [.Tuple [.Name T1 p1,.Name T2 p2] m p3] X.env=(ae,az (.Tuple [.Name T1 p1,.Name T2 p2] m p3) X.env)::af [] X.env:=by rfl) (hpl:(aJ pos (af [.Tuple [.Name T1 p1,.Name T2 p2] m p3] X.env)).any (·.1)=ae:=by rfl)
  (hs3:af [.Name T1 p1,.Name T2 p2] X.env=(ae,az (.Name T1 p1) X.env)::af [.Name T2 p2] X.env:=by rfl) (hs4:af [.Name T2 p2] X.env=(ae,az (.Name T2 p2) X.env)::af [] X.env:=by rfl) :
  DE X ρ (.Call (.Name "isinstance" p) [a,.Tuple [.Name T1 p1,.Name T2 p2] m p3] [] pos) (.bl k):=λσ H Q R q =>
 (vg j33 hg hm l9 (ji peS (ji (Mm (ji (Ez hg1 hT1 hv1 hn1 hd1) (ji (Ez hg2 hT2 hv2 hn2 hd2) jl hs4) hs3)) jl hs2) hs) (by decide) (by decide) hs hpl).to
  (ha σ H _ R λv H1 g1 e1=>⟨by show 2<=au;decide,λt ht=>⟨v,t,d,[c1,c2],k,rfl,e1.mono (jg ht),nf,.inl (.inl je),hk,q _ _ (g1.trans (jg ht)) rfl⟩⟩)
end
mutual
noncomputable def deq:D->D->Bool
 |.non,.non=>ag
 |.bl a,.bl b=>a==b
 |.bl a,.int b=>(if a then 1 else 0)==b
 |.int a,.bl b=>a==(if b then 1 else 0)
 |.int a,.int b=>a==b
 |.str a,.str b=>a==b
 |.tup xs,.tup ys=>vd xs ys
 |.lst xs,.lst ys=>vd xs ys
 |.dct k xs,.dct m ys=>decide (k=m)&&vd xs ys
 |.sct k,.sct m=>decide (k=m)
 |_,_=>ae
noncomputable def vd:List D->List D->Bool
 |[],[]=>ag
 |x::xs,y::ys=>deq x y&&vd xs ys
 |_,_=>ae
end
theorem jd1{a b:Bool}:deq (.bl a) (.bl b)=(a==b):=(rfl)
theorem j2l{a b:Int}:deq (.int a) (.int b)=(a==b):=(rfl)
theorem Vh{a b:ao}:deq (.str a) (.str b)=(a==b):=(rfl)
theorem O6{a b:List D}:deq (.tup a) (.tup b)=vd a b:=(rfl)
theorem Lr{a b:List D}:deq (.lst a) (.lst b)=vd a b:=(rfl)
theorem Zd:vd [] []=ag:=(rfl)
theorem Jo{x y:D}{xs ys:List D}:vd (x::xs) (y::ys)=(deq x y&&vd xs ys):=(rfl)
theorem Wd{y:D}{ys:List D}:vd [] (y::ys)=ae:=(rfl)
theorem We{x:D}{xs:List D}:vd (x::xs) []=ae:=(rfl)
mutual
noncomputable def D.dep:D->Nat
 |.tup xs=>D.depL xs+1
 |.lst xs=>D.depL xs+1
 |.dct _ _=>20000
 |.sct _=>20000
 |.fn _ _=>20000
 |_=>0
noncomputable def D.depL:List D->Nat
 |[]=>0
 |x::xs=>max x.dep (D.depL xs)
end
mutual
theorem Ru:∀d:D,d.dep<10000->deq d d=ag
 |.non,_=>rfl
 |.bl b,_=>by rw[jd1];simp
 |.int i,_=>by rw[j2l];simp
 |.str x,_=>by rw[Vh];simp
 |.tup xs,h=>by rw[O6];exact Uz xs (by simp only[D.dep]at h;omega)
 |.lst xs,h=>by rw[Lr];exact Uz xs (by simp only[D.dep]at h;omega)
 |.dct _ _,h=>by simp[D.dep]at h
 |.sct _,h=>by simp[D.dep]at h
 |.fn _ _,h=>by simp[D.dep]at h
theorem Uz:∀ds:List D,D.depL ds<10000->vd ds ds=ag
 |[],_=>rfl
 |d::ds,h=>by rw[D.depL]at h;rw[Jo,Ru d (by omega),Uz ds (by omega)];rfl
end
theorem Vi:∀{xs ys:List D},xs.length≠ys.length->vd xs ys=ae
 |[],[],h=>absurd rfl h
 |[],_::_,_=>by simp[Zd,Jo,Wd,We]
 |_::_,[],_=>by simp[Zd,Jo,Wd,We]
 |x::xs,y::ys,h=>by have:=Vi (xs:=xs) (ys:=ys) (by simpa using h);simp[Zd,Jo,Wd,We,this]
theorem Z1{f:Nat->Bool}:∀{xs ys:List D},xs.length=ys.length->(∀(j:Nat) x y,xs[j]?=aa x->ys[j]?=aa y->f j=deq x y)->(aP xs.length).all f=vd xs ys
 |[],[],_,_=>by simp[Zd,Jo,Wd,We]
 |[],_::_,h,_=>by simp at h
 |_::_,[],h,_=>by simp at h
 |x::xs,y::ys,h,hf=>by have ih:=Z1 (f:=λj=>f (j+1)) (xs:=xs) (ys:=ys) (by simpa using h) (λj a b ha hb=>hf (j+1) a b (by simpa using ha) (by simpa using hb));rw[xg,dn,gf,hf 0 x y rfl rfl,gv];simp only[Jo];rw[<-ih];rfl
section
variable{X:Cx}{pins:k5i}{σ:St}{H:Hp}{s:aq}
theorem Cj(I:Inv X pins σ H s){a:ai}{xs ys:List V}(h:SqT X.K H a xs)(h':SqL X.K H a ys):False:=by obtain⟨_,_,⟨o,h1,h2,_⟩,_⟩:=I.tuple h;obtain⟨_,_,⟨o',n,h1',h2',_⟩,_⟩:=I.list h';rw[h1]at h1';cases h1';rw[h2]at h2';injection h2' with e;exact absurd e (by decide)
noncomputable def D.atom:D->Option V
 |.non=>aa .non
 |.bl b=>aa (.bl b)
 |.int i=>aa (.int i)
 |.str x=>aa (.str x)
 |_=>ah
theorem Enc.at_{K:k5g}{d:D}{v u:V}(h:Enc K H d v)(e:d.atom=aa u):v=u:=by
 cases d with
 |non=>cases e;exact(show v=.non from h)
 |bl b=>cases e;exact(show v=.bl b from h)
 |int i=>cases e;exact(show v=.int i from h)
 |str x=>cases e;exact(show v=.str x from h)
 |_=>cases e
theorem Enc.ref{K:k5g}{d:D}{v:V}(h:Enc K H d v)(e:d.atom=ah):∃a,v=.ref a:=by
 cases d with
 |tup l=>obtain⟨a,_,e,_⟩:=h;exact⟨a,e⟩
 |lst l=>obtain⟨a,_,e,_⟩:=h;exact⟨a,e⟩
 |dct k l=>obtain⟨a,_,_,_,e,_⟩:=h;exact⟨a,e⟩
 |sct k=>obtain⟨a,e,_⟩:=h;exact⟨a,e⟩
 |fn x l=>obtain⟨a,_,_,_,_,e,_⟩:=h;exact⟨a,e⟩
 |_=>cases e
theorem j68{d d':D}{u:V}(h:d.atom=aa u)(h':d'.atom=aa u):d=d':=by cases d<;>cases d'<;>first|(cases h;done)|(cases h';done)|(cases h;cases h';rfl)|(cases h;cases h')
theorem K4{d:D}{a:ai}(h:d.atom=aa (.ref a)):False:=by cases d<;>cases h
theorem jca(I:Inv X pins σ H s){d d':D}{v:V}(hd:d.dep<10000)(hd':d'.dep<10000)(h:Enc X.K H d v)(h':Enc X.K H d' v) :
  d=d'\/∃ds ds' xs,((d=.tup ds/\d'=.tup ds')\/(d=.lst ds/\d'=.lst ds'))/\jd X.K H ds xs/\jd X.K H ds' xs:=by
 cases e:d.atom with
 |some u =>
  have ev:=h.at_ e;subst ev;cases e':d'.atom with
  |some u'=>exact .inl (j68 e ((h'.at_ e')▸e'))
  |none=>obtain⟨a,ea⟩:=h'.ref e';subst ea;exact(K4 e).elim
 |none =>
  cases e':d'.atom with
  |some u'=>have ev:=h'.at_ e';subst ev;obtain⟨a,ea⟩:=h.ref e;subst ea;exact(K4 e').elim
  |none =>
   cases d with
   |tup ds =>
    obtain⟨a,xs,ea,sq,l⟩:=h;cases d' with
    |tup ds' =>obtain⟨a',ys,eb,sq',l'⟩:=h';rw[ea]at eb;cases eb;rw[I.tuple_inj sq' sq]at l';exact .inr ⟨ds,ds',xs,.inl ⟨rfl,rfl⟩,l,l'⟩
    |lst ds'=>obtain⟨a',ys,eb,sq',l'⟩:=h';rw[ea]at eb;cases eb;exact(Cj I sq sq').elim
    |dct _ _=>simp[D.dep]at hd'
    |sct _=>simp[D.dep]at hd'
    |fn _ _=>simp[D.dep]at hd'
    |_=>cases e'
   |lst ds =>
    obtain⟨a,xs,ea,sq,l⟩:=h;cases d' with
    |lst ds' =>obtain⟨a',ys,eb,sq',l'⟩:=h';rw[ea]at eb;cases eb;rw[I.list_inj sq' sq]at l';exact .inr ⟨ds,ds',xs,.inr ⟨rfl,rfl⟩,l,l'⟩
    |tup ds'=>obtain⟨a',ys,eb,sq',l'⟩:=h';rw[ea]at eb;cases eb;exact(Cj I sq' sq).elim
    |dct _ _=>simp[D.dep]at hd'
    |sct _=>simp[D.dep]at hd'
    |fn _ _=>simp[D.dep]at hd'
    |_=>cases e'
   |dct _ _=>simp[D.dep]at hd
   |sct _=>simp[D.dep]at hd
   |fn _ _=>simp[D.dep]at hd
   |_=>cases e
theorem j5d{n:Nat}(ih:∀{d d':D}{v:V},d.dep<=n->d.dep<10000->d'.dep<10000->Enc X.K H d v->Enc X.K H d' v->d=d'):∀{ds ds':List D}{xs:List V},D.depL ds<=n->D.depL ds<10000->D.depL ds'<10000->jd X.K H ds xs->jd X.K H ds' xs->ds=ds'
 |[],[],_,_,_,_,_,_=>rfl
 |[],_::_,_,_,_,_,h,⟨x,r,e,_⟩=>by cases h;cases e
 |_::_,[],_,_,_,_,⟨x,r,e,_⟩,h=>by cases h;cases e
 |d::ds,d'::ds',_,m,n1,n2,⟨x,r,e,h,l⟩,⟨x',r',e',h',l'⟩=>by subst e;cases e';rw[D.depL]at m n1 n2;rw[ih (by omega) (by omega) (by omega) h h',j5d ih (by omega) (by omega) (by omega) l l']
theorem j5c(I:Inv X pins σ H s):∀(n:Nat){d d':D}{v:V},d.dep<=n->d.dep<10000->d'.dep<10000->Enc X.K H d v->Enc X.K H d' v->d=d'
 |0,d,d',v,hn,hd,hd',h,h'=>by
  rcases jca I hd hd' h h' with e|⟨ds,ds',xs,⟨e,_⟩|⟨e,_⟩,_⟩
  .exact e
  .subst e;simp[D.dep]at hn
  .subst e;simp[D.dep]at hn
 |n+1,d,d',v,hn,hd,hd',h,h'=>by
  rcases jca I hd hd' h h' with e|⟨ds,ds',xs,⟨e,e'⟩|⟨e,e'⟩,l,l'⟩
  .exact e
  .subst e e';simp only[D.dep]at hn hd hd';rw[j5d (λa b c=>j5c I n a b c) (by omega) (by omega) (by omega) l l']
  .subst e e';simp only[D.dep]at hn hd hd';rw[j5d (λa b c=>j5c I n a b c) (by omega) (by omega) (by omega) l l']
theorem Enc.inj(I:Inv X pins σ H s){d d':D}{v:V}(hd:d.dep<10000)(hd':d'.dep<10000)(h:Enc X.K H d v)(h':Enc X.K H d' v):d=d':=j5c I d.dep (X3 _) hd hd' h h'
end
section
variable{X:Cx}{pins:k5i}{σ:St}{H:Hp}{s:aq}
theorem D.depL_le:∀{ds:List D}{j:Nat}{d:D},ds[j]?=aa d->d.dep<=D.depL ds
 |[],_,_,h=>by simp at h
 |x::xs,0,d,h=>by simp at h;subst h;simp[D.depL];omega
 |x::xs,j+1,d,h=>by have:=D.depL_le (ds:=xs) (j:=j) (d:=d) (by simpa using h);simp[D.depL];omega
theorem V9(I:Inv X pins σ H s):∀(n:Nat)(A:aE){d d':D}{v v':V}{u u':aj},d.dep<=n->A.units+n<aY->d'.dep<10000->Enc X.K H d v->RelV v u->Enc X.K H d' v'->RelV v' u' ->
  fB A s u u' (deq d d')/\cy A s u u' (deq d d')
 |0,A,d,d',v,v',u,u',hn,hu,nd,en,r,en',r'=>by
  have hu0:A.units<aY:=by omega
  cases d with
  |tup l=>simp[D.dep]at hn
  |lst l=>simp[D.dep]at hn
  |dct ks l=>simp[D.dep]at hn
  |sct k=>simp[D.dep]at hn
  |fn x l=>simp[D.dep]at hn
  |non =>
   cases(show v=.non from en);cases(show u=bp from r);cases d' with
   |dct ks' l'=>simp[D.dep]at nd
   |sct k'=>simp[D.dep]at nd
   |fn x' l'=>simp[D.dep]at nd
   |non=>cases(show v'=.non from en');cases(show u'=bp from r');exact⟨.none_none,.same _⟩
   |bl k=>cases(show v'=.bl k from en');cases(show u'=bE k from r');exact⟨.none_bool _,.none_bool _⟩
   |int k=>cases(show v'=.int k from en');obtain⟨t,q⟩:=(show ∃t,u'=bj k t from r');subst q;exact⟨.none_int _ _,.none_int _ _⟩
   |str k=>cases(show v'=.str k from en');obtain⟨t,q⟩:=(show ∃t,u'=bh k t from r');subst q;exact⟨.none_str _ _,.none_str _ _⟩
   |tup l=>obtain⟨a,xs,e,sq,_⟩:=en';subst e;cases(show u'=aK a from r');obtain⟨_,_,q,_⟩:=I.tuple sq;exact⟨.none_tuple q hu0,.none_tuple q hu0⟩
   |lst l=>obtain⟨a,xs,e,sq,_⟩:=en';subst e;cases(show u'=aK a from r');obtain⟨_,_,q,_⟩:=I.list sq;exact⟨.none_list q.isList hu0,.none_list q.isList hu0⟩
  |bl b =>
   cases(show v=.bl b from en);cases(show u=bE b from r);cases d' with
   |dct ks' l'=>simp[D.dep]at nd
   |sct k'=>simp[D.dep]at nd
   |fn x' l'=>simp[D.dep]at nd
   |non=>cases(show v'=.non from en');cases(show u'=bp from r');exact⟨.bool_none _,.bool_none _⟩
   |bl k=>cases(show v'=.bl k from en');cases(show u'=bE k from r');exact⟨.bool_bool _ _,.bool_bool _ _⟩
   |int k=>cases(show v'=.int k from en');obtain⟨t,q⟩:=(show ∃t,u'=bj k t from r');subst q;exact⟨.bool_int _ _ _,.bool_int _ _ _⟩
   |str k=>cases(show v'=.str k from en');obtain⟨t,q⟩:=(show ∃t,u'=bh k t from r');subst q;exact⟨.bool_str _ _ _,.bool_str _ _ _⟩
   |tup l=>obtain⟨a,xs,e,sq,_⟩:=en';subst e;cases(show u'=aK a from r');obtain⟨_,_,q,_⟩:=I.tuple sq;exact⟨.bool_tuple _ q hu0,.bool_tuple _ q hu0⟩
   |lst l=>obtain⟨a,xs,e,sq,_⟩:=en';subst e;cases(show u'=aK a from r');obtain⟨_,_,q,_⟩:=I.list sq;exact⟨.bool_list _ q.isList hu0,.bool_list _ q.isList hu0⟩
  |int b =>
   cases(show v=.int b from en);obtain⟨tk,q0⟩:=(show ∃t,u=bj b t from r);subst q0;cases d' with
   |dct ks' l'=>simp[D.dep]at nd
   |sct k'=>simp[D.dep]at nd
   |fn x' l'=>simp[D.dep]at nd
   |non=>cases(show v'=.non from en');cases(show u'=bp from r');exact⟨.int_none _ _,.int_none _ _⟩
   |bl k=>cases(show v'=.bl k from en');cases(show u'=bE k from r');exact⟨.int_bool _ _ _,.int_bool _ _ _⟩
   |int k=>cases(show v'=.int k from en');obtain⟨t,q⟩:=(show ∃t,u'=bj k t from r');subst q;exact⟨.int_int _ _ _ _,.int_int _ _ _ _⟩
   |str k=>cases(show v'=.str k from en');obtain⟨t,q⟩:=(show ∃t,u'=bh k t from r');subst q;exact⟨.int_str _ _ _ _,.int_str _ _ _ _⟩
   |tup l=>obtain⟨a,xs,e,sq,_⟩:=en';subst e;cases(show u'=aK a from r');obtain⟨_,_,q,_⟩:=I.tuple sq;exact⟨.int_tuple _ _ q hu0,.int_tuple _ _ q hu0⟩
   |lst l=>obtain⟨a,xs,e,sq,_⟩:=en';subst e;cases(show u'=aK a from r');obtain⟨_,_,q,_⟩:=I.list sq;exact⟨.int_list _ _ q.isList hu0,.int_list _ _ q.isList hu0⟩
  |str b =>
   cases(show v=.str b from en);obtain⟨tk,q0⟩:=(show ∃t,u=bh b t from r);subst q0;cases d' with
   |dct ks' l'=>simp[D.dep]at nd
   |sct k'=>simp[D.dep]at nd
   |fn x' l'=>simp[D.dep]at nd
   |non=>cases(show v'=.non from en');cases(show u'=bp from r');exact⟨.str_none _ _,.str_none _ _⟩
   |bl k=>cases(show v'=.bl k from en');cases(show u'=bE k from r');exact⟨.str_bool _ _ _,.str_bool _ _ _⟩
   |int k=>cases(show v'=.int k from en');obtain⟨t,q⟩:=(show ∃t,u'=bj k t from r');subst q;exact⟨.str_int _ _ _ _,.str_int _ _ _ _⟩
   |str k=>cases(show v'=.str k from en');obtain⟨t,q⟩:=(show ∃t,u'=bh k t from r');subst q;exact⟨.str_str _ _ _ _,.str_str _ _ _ _⟩
   |tup l=>obtain⟨a,xs,e,sq,_⟩:=en';subst e;cases(show u'=aK a from r');obtain⟨_,_,q,_⟩:=I.tuple sq;exact⟨.str_tuple _ _ q hu0,.str_tuple _ _ q hu0⟩
   |lst l=>obtain⟨a,xs,e,sq,_⟩:=en';subst e;cases(show u'=aK a from r');obtain⟨_,_,q,_⟩:=I.list sq;exact⟨.str_list _ _ q.isList hu0,.str_list _ _ q.isList hu0⟩
 |n+1,A,d,d',v,v',u,u',hn,hu,nd,en,r,en',r'=>by
  have hu0:A.units<aY:=by omega
  have hu1:A.in1.units+n<aY:=by show A.units+1+n<aY;omega
  have low:d.dep<=n->fB A s u u' (deq d d')/\cy A s u u' (deq d d'):=λh=>V9 I n A h (by omega) nd en r en' r';cases d with
  |non=>exact low (by simp[D.dep])
  |bl b=>exact low (by simp[D.dep])
  |int b=>exact low (by simp[D.dep])
  |str b=>exact low (by simp[D.dep])
  |dct ks l=>exfalso;have:(9900:Nat)=aY:=rfl;simp only[D.dep]at hn;omega
  |sct k=>exfalso;have:(9900:Nat)=aY:=rfl;simp only[D.dep]at hn;omega
  |fn x l=>exfalso;have:(9900:Nat)=aY:=rfl;simp only[D.dep]at hn;omega
  |tup ds =>
   have hd:D.depL ds<=n:=by simp[D.dep]at hn;omega
   obtain⟨a,xs,e,sq,l⟩:=id en;subst e;cases(show u=aK a from r);obtain⟨us,rv,q,_⟩:=I.tuple sq;cases d' with
   |dct ks' l'=>simp[D.dep]at nd
   |sct k'=>simp[D.dep]at nd
   |fn x' l'=>simp[D.dep]at nd
   |non=>cases(show v'=.non from en');cases(show u'=bp from r');exact⟨.tuple_none q hu0,.tuple_none q hu0⟩
   |bl k=>cases(show v'=.bl k from en');cases(show u'=bE k from r');exact⟨.tuple_bool _ q hu0,.tuple_bool _ q hu0⟩
   |int k=>cases(show v'=.int k from en');obtain⟨t,q'⟩:=(show ∃t,u'=bj k t from r');subst q';exact⟨.tuple_int _ _ q hu0,.tuple_int _ _ q hu0⟩
   |str k=>cases(show v'=.str k from en');obtain⟨t,q'⟩:=(show ∃t,u'=bh k t from r');subst q';exact⟨.tuple_str _ _ q hu0,.tuple_str _ _ q hu0⟩
   |lst ds'=>obtain⟨a',ys,e,sq',_⟩:=en';subst e;cases(show u'=aK a' from r');obtain⟨_,_,q',_⟩:=I.list sq';exact⟨.tuple_list q q'.isList hu0,.tuple_list q q'.isList hu0⟩
   |tup ds' =>
    obtain⟨a',ys,e,sq',l'⟩:=id en';subst e;cases(show u'=aK a' from r');obtain⟨us',rv',q',_⟩:=I.tuple sq';have e1:us.length=ds.length:=by rw[<-rv.length,l.length]
    have e2:us'.length=ds'.length:=by rw[<-rv'.length,l'.length]
    have main:fB A s (.ref a) (.ref a') (deq (.tup ds) (.tup ds')):=by
     have item:∀(j:Nat)(h1:j<us.toArray.size)(h2:j<us'.toArray.size),cy A.in1 s us.toArray[j] us'.toArray[j] (deq (ds.getD j .non) (ds'.getD j .non)):=λj h1 h2=>by
      have k1:j<ds.length:=by rw[<-e1];simpa using h1
      have k2:j<ds'.length:=by rw[<-e2];simpa using h2
      obtain⟨x,hx,ex⟩:=l.get (kh k1);obtain⟨y,hy,ey⟩:=l'.get (kh k2);obtain⟨w1,hw1,rw1⟩:=rv.get hx;obtain⟨w2,hw2,rw2⟩:=rv'.get hy;have g1:us.toArray[j]=w1:=by simp at h1 ⊢;rw[kh (by simpa using h1)]at hw1;exact aB hw1
      have g2:us'.toArray[j]=w2:=by simp at h2 ⊢;rw[kh (by simpa using h2)]at hw2;exact aB hw2
      rw[g1,g2,km,km,kh k1,kh k2];exact(V9 I n A.in1 (Xf (D.depL_le (kh k1)) hd) hu1 (cI (D.depL_le (kh k2)) (by simp only[D.dep]at nd;omega)) ex rw1 ey rw2).2
     have z:=SeqAt.RcAt.tuples (A:=A) (s:=s) q q' hu0 (e:=λj=>deq (ds.getD j .non) (ds'.getD j .non)) item;have ev:((aP (min us.toArray.size us'.toArray.size)).all (λj=>deq (ds.getD j .non) (ds'.getD j .non))&&us.toArray.size==us'.toArray.size)=deq (.tup ds) (.tup ds'):=by
      simp only[O6,X6,e1,e2];by_cases hl:ds.length=ds'.length
      .rw[hl,kH,beq_self_eq_true,gh,<-hl];exact Z1 hl λj x y hx hy=>by rw[km,km,hx,hy];rfl
      .rw[Vi hl,beq_false_of_ne hl,jF]
     rw[ev]at z;exact z
    refine⟨main,?_⟩;by_cases ea:a=a'
    .subst ea;have e9:(9900:Nat)=aY:=rfl;rw[Enc.inj I (by omega) nd en en',Ru _ nd];exact .same _
    .exact .of_refs ea main
  |lst ds =>
   have hd:D.depL ds<=n:=by simp[D.dep]at hn;omega
   obtain⟨a,xs,e,sq,l⟩:=id en;subst e;cases(show u=aK a from r);obtain⟨us,rv,q0,_⟩:=I.list sq;have q:=q0.isList;cases d' with
   |dct ks' l'=>simp[D.dep]at nd
   |sct k'=>simp[D.dep]at nd
   |fn x' l'=>simp[D.dep]at nd
   |non=>cases(show v'=.non from en');cases(show u'=bp from r');exact⟨.list_none q hu0,.list_none q hu0⟩
   |bl k=>cases(show v'=.bl k from en');cases(show u'=bE k from r');exact⟨.list_bool _ q hu0,.list_bool _ q hu0⟩
   |int k=>cases(show v'=.int k from en');obtain⟨t,q'⟩:=(show ∃t,u'=bj k t from r');subst q';exact⟨.list_int _ _ q hu0,.list_int _ _ q hu0⟩
   |str k=>cases(show v'=.str k from en');obtain⟨t,q'⟩:=(show ∃t,u'=bh k t from r');subst q';exact⟨.list_str _ _ q hu0,.list_str _ _ q hu0⟩
   |tup ds'=>obtain⟨a',ys,e,sq',_⟩:=en';subst e;cases(show u'=aK a' from r');obtain⟨_,_,q',_⟩:=I.tuple sq';exact⟨.list_tuple q q' hu0,.list_tuple q q' hu0⟩
   |lst ds' =>
    obtain⟨a',ys,e,sq',l'⟩:=id en';subst e;cases(show u'=aK a' from r');obtain⟨us',rv',q0',_⟩:=I.list sq';have q':=q0'.isList;have e1:us.length=ds.length:=by rw[<-rv.length,l.length]
    have e2:us'.length=ds'.length:=by rw[<-rv'.length,l'.length]
    have main:fB A s (.ref a) (.ref a') (deq (.lst ds) (.lst ds')):=by
     have item:∀(j:Nat)(h1:j<us.toArray.size)(h2:j<us'.toArray.size),cy A.in1 s us.toArray[j] us'.toArray[j] (deq (ds.getD j .non) (ds'.getD j .non)):=λj h1 h2=>by
      have k1:j<ds.length:=by rw[<-e1];simpa using h1
      have k2:j<ds'.length:=by rw[<-e2];simpa using h2
      obtain⟨x,hx,ex⟩:=l.get (kh k1);obtain⟨y,hy,ey⟩:=l'.get (kh k2);obtain⟨w1,hw1,rw1⟩:=rv.get hx;obtain⟨w2,hw2,rw2⟩:=rv'.get hy;have g1:us.toArray[j]=w1:=by simp at h1 ⊢;rw[kh (by simpa using h1)]at hw1;exact aB hw1
      have g2:us'.toArray[j]=w2:=by simp at h2 ⊢;rw[kh (by simpa using h2)]at hw2;exact aB hw2
      rw[g1,g2,km,km,kh k1,kh k2];exact(V9 I n A.in1 (Xf (D.depL_le (kh k1)) hd) hu1 (cI (D.depL_le (kh k2)) (by simp only[D.dep]at nd;omega)) ex rw1 ey rw2).2
     simp only[Lr];by_cases hl:ds.length=ds'.length
     .have z:=SeqAt.RcAt.lists (A:=A) (s:=s) q q' (by simp[e1,e2,hl]) hu0 (e:=λj=>deq (ds.getD j .non) (ds'.getD j .non)) item;have ev:(aP us.toArray.size).all (λj=>deq (ds.getD j .non) (ds'.getD j .non))=vd ds ds':=by rw[X6,e1];exact Z1 hl λj x y hx hy=>by rw[km,km,hx,hy];rfl
      rw[ev]at z;exact z
     .rw[Vi hl];exact .lists_lengths q q' (by simp[e1,e2,hl]) hu0
    refine⟨main,?_⟩;by_cases ea:a=a'
    .subst ea;have e9:(9900:Nat)=aY:=rfl;rw[Enc.inj I (by omega) nd en en',Ru _ nd];exact .same _
    .exact .of_refs ea main
end
section
variable{X:Cx}{pins:k5i}{σ:St}{H:Hp}{s:aq}{A:aE}
theorem j4z(I:Inv X pins σ H s){n:Nat}{ds ds':List D}{xs ys:List V}{us us':List aj}(l:jd X.K H ds xs)(rv:Vals xs us)(l':jd X.K H ds' ys)(rv':Vals ys us')(hd:D.depL ds<=n)(hu:A.units+1+n<aY)(nd:D.depL ds'<10000) :
  ∀(j:Nat)(h1:j<us.toArray.size)(h2:j<us'.toArray.size),cy A.in1 s us.toArray[j] us'.toArray[j] (deq (ds.getD j .non) (ds'.getD j .non)):=λj h1 h2=>by
 have k1:j<ds.length:=by rw[<-l.length,rv.length];simpa using h1
 have k2:j<ds'.length:=by rw[<-l'.length,rv'.length];simpa using h2
 obtain⟨x,hx,ex⟩:=l.get (kh k1);obtain⟨y,hy,ey⟩:=l'.get (kh k2);obtain⟨w1,hw1,rw1⟩:=rv.get hx;obtain⟨w2,hw2,rw2⟩:=rv'.get hy;have g1:us.toArray[j]=w1:=by simp at h1 ⊢;rw[kh (by simpa using h1)]at hw1;exact aB hw1
 have g2:us'.toArray[j]=w2:=by simp at h2 ⊢;rw[kh (by simpa using h2)]at hw2;exact aB hw2
 rw[g1,g2,km,km,kh k1,kh k2];exact(V9 I n A.in1 (Xf (D.depL_le (kh k1)) hd) hu (cI (D.depL_le (kh k2)) nd) ex rw1 ey rw2).2
theorem j1w(hu:X.A.units+100<aY):OpR X (aX .Eq) (λx y H Q=>∃d d',Enc X.K H d x/\Enc X.K H d' y/\d.dep<=100/\d'.dep<10000/\Q (.bl (deq d d')) H):=by rintro pins s σ H x y v u Q I rx ry ⟨d,d',en,en',hd,nd,q⟩;exact(V9 I 100 X.A hd hu nd en rx en' ry).1 X.prog X.w X.xe _ ⟨.bl (deq d d'),H,I,rfl,q⟩
theorem j1u(hu:X.A.units+100<aY):OpR X (aX .NotEq) (λx y H Q=>∃ds ds' k,Enc X.K H (D.seq k ds) x/\Enc X.K H (D.seq k ds') y/\D.depL ds<=98/\D.depL ds'<10000/\Q (.bl (!vd ds ds')) H):=by
 rintro pins s σ H x y v u Q I rx ry ⟨ds,ds',k,en,en',hd,nd,q⟩;have h0:X.A.units<aY:=by omega
 obtain⟨t,xs,e,sq,l⟩:=Vb en;obtain⟨t',ys,e',sq',l'⟩:=Vb en';subst e e';cases rx;cases ry;obtain⟨us,rv,qs,_⟩:=I.side sq;obtain⟨us',rv',qs',_⟩:=I.side sq';have e1:us.length=ds.length:=by rw[<-rv.length,l.length]
 have e2:us'.length=ds'.length:=by rw[<-rv'.length,l'.length]
 have item:=j4z (A:=X.A) I l rv l' rv' hd (by omega) nd;unfold Yi at qs qs';cases k with
 |true =>
  rw[if_pos rfl]at qs qs';by_cases hl:ds.length=ds'.length
  .have z:=SeqAt.RcNeAt.lists (A:=X.A) (s:=s) qs qs' (by simp[e1,e2,hl]) h0 (e:=λj=>deq (ds.getD j .non) (ds'.getD j .non)) item;have ev:(aP us.toArray.size).all (λj=>deq (ds.getD j .non) (ds'.getD j .non))=vd ds ds':=by rw[X6,e1];exact Z1 hl λj x y hx hy=>by rw[km,km,hx,hy];rfl
   rw[ev]at z;exact z X.prog X.w X.xe _ ⟨.bl (!vd ds ds'),H,I,rfl,q⟩
  .have z:=SeqAt.RcNeAt.lists_lengths (A:=X.A) (s:=s) qs qs' (by simp[e1,e2,hl]) h0;rw[Vi hl]at q;exact z X.prog X.w X.xe _ ⟨.bl ag,H,I,rfl,q⟩
 |false =>
  rw[if_neg xu]at qs qs';have z:=SeqAt.RcNeAt.tuples (A:=X.A) (s:=s) qs qs' h0 (e:=λj=>deq (ds.getD j .non) (ds'.getD j .non)) item;have ev:((aP (min us.toArray.size us'.toArray.size)).all (λj=>deq (ds.getD j .non) (ds'.getD j .non))&&us.toArray.size==us'.toArray.size)=vd ds ds':=by
   simp only[X6,e1,e2];by_cases hl:ds.length=ds'.length
   .rw[hl,kH,beq_self_eq_true,gh,<-hl];exact Z1 hl λj x y hx hy=>by rw[km,km,hx,hy];rfl
   .rw[Vi hl,beq_false_of_ne hl,jF]
  rw[ev]at z;exact z X.prog X.w X.xe _ ⟨.bl (!vd ds ds'),H,I,rfl,q⟩
noncomputable def eqW(X:Cx)(H:Hp)(d:D)(y:aj):Bool:=@decide (∃e v,e.dep<10000/\Enc X.K H e v/\RelV v y/\deq e d=ag) (cK _)
theorem O5(I:Inv X pins σ H s){d e:D}{v:V}{y:aj}(he:e.dep<10000)(en:Enc X.K H e v)(r:RelV v y):eqW X H d y=deq e d:=by
 unfold eqW;cases h:deq e d with
 |true=>exact @decide_eq_true _ (cK _) ⟨e,v,he,en,r,h⟩
 |false =>refine @decide_eq_false _ (cK _) λ⟨e',v',he',en',r',h'⟩=>?_;rw[r'.inj r]at en';rw[Enc.inj I he' he en' en,h]at h';cases h'
theorem Bo(I:Inv X pins σ H s){d:D}:∀{ds:List D}{xs:List V}{us:List aj},D.depL ds<10000->jd X.K H ds xs->Vals xs us->us.any (eqW X H d)=ds.any λe=>deq e d
 |[],_,_,_,h,r=>by cases h;cases r;rfl
 |e::ds,_,_,hd,⟨x,r,eq,h,l⟩,rv=>by
  subst eq;rw[D.depL]at hd;cases rv with
  |cons a b=>rw[Py,Py,Bo I (by omega) l b,O5 I (by omega) h a]
theorem Yd(I:Inv X pins σ H s){d:D}{v:V}{u:aj}(en:Enc X.K H d v)(r:RelV v u)(nd:d.dep<10000){n:Nat}(hu:A.units+n<aY):∀{ds:List D}{xs:List V}{us:List aj},D.depL ds<=n->jd X.K H ds xs->Vals xs us->∀y∈us,cy A s y u (eqW X H d y)
 |[],_,_,_,h,rv,y,hy=>by cases h;cases rv;cases hy
 |e::ds,_,_,hd,⟨x,r',eq,h,l⟩,rv,y,hy=>by
  subst eq;have hd':e.dep<=n/\D.depL ds<=n:=by simp[D.depL]at hd;omega
  cases rv with
  |cons a b =>
   rcases xf.mp hy with rfl|hy
   .have e9:(9900:Nat)=aY:=rfl;rw[O5 I (by omega) h a];exact(V9 I n A hd'.1 hu nd h a en r).2
   .exact Yd I en r nd hu hd'.2 l b y hy
theorem j1v(hu:X.A.units+100<aY):OpR X (aX .In) (λx y H Q=>∃d ds k,Enc X.K H d x/\Enc X.K H (D.seq k ds) y/\D.depL ds<=98/\d.dep<10000/\Q (.bl (ds.any λe=>deq e d)) H):=by
 rintro pins s σ H x y v u Q I rx ry ⟨d,ds,k,en,en',hd,nd,q⟩;obtain⟨t,xs,e,sq,l⟩:=Vb en';subst e;cases ry;obtain⟨us,rv,qs,_⟩:=I.side sq;have me:=λy (hy:y∈us.toArray)=>Yd (A:=X.A.in1) I en rx nd (n:=98) (by show X.A.units+1+98<aY;omega) hd l rv y (by simpa using hy);have ev:us.toArray.any (eqW X H d)=ds.any λe=>deq e d:=by rw[iR];exact Bo I (by omega) l rv
 unfold Yi at qs;cases k with
 |true=>rw[if_pos rfl]at qs;exact SeqAt.in_listAt (eqW X H d) qs me (by rw[ev];exact⟨.bl _,H,I,rfl,q⟩)
 |false=>rw[if_neg xu]at qs;exact SeqAt.in_tupleAt (eqW X H d) qs me (by rw[ev];exact⟨.bl _,H,I,rfl,q⟩)
theorem Up(hu:X.A.units+100<aY):OpR X (aX .NotIn) (λx y H Q=>∃d ds k,Enc X.K H d x/\Enc X.K H (D.seq k ds) y/\D.depL ds<=98/\d.dep<10000/\Q (.bl (!ds.any λe=>deq e d)) H):=by
 rintro pins s σ H x y v u Q I rx ry ⟨d,ds,k,en,en',hd,nd,q⟩;obtain⟨t,xs,e,sq,l⟩:=Vb en';subst e;cases ry;obtain⟨us,rv,qs,_⟩:=I.side sq;have me:=λy (hy:y∈us.toArray)=>Yd (A:=X.A.in1) I en rx nd (n:=98) (by show X.A.units+1+98<aY;omega) hd l rv y (by simpa using hy);have ev:us.toArray.any (eqW X H d)=ds.any λe=>deq e d:=by rw[iR];exact Bo I (by omega) l rv
 unfold Yi at qs;cases k with
 |true=>rw[if_pos rfl]at qs;exact SeqAt.notIn_listAt (eqW X H d) qs me (by rw[ev];exact⟨.bl _,H,I,rfl,q⟩)
 |false=>rw[if_neg xu]at qs;exact SeqAt.notIn_tupleAt (eqW X H d) qs me (by rw[ev];exact⟨.bl _,H,I,rfl,q⟩)
theorem j4g:OpR X (b0 .Add) (λx y H Q=>∃a b xs ys,x=.ref a/\y=.ref b/\SqT X.K H a xs/\SqT X.K H b ys/\xs.length+ys.length<=au /\
  (xs=[]->Q (.ref b) H)/\(xs≠[]->ys=[]->Q (.ref a) H)/\(xs≠[]->ys≠[]->∀p,H p=ah->Q (.ref p) (upd H p (.tup (xs++ys))))):=by
 rintro pins s σ H x y v u Q I rx ry ⟨a,b,xs,ys,e,e',sa,sb,hz,q1,q2,q3⟩;by_cases hx:xs=[]
 .subst e e' hx;cases rx;cases ry;obtain⟨us,ru,⟨⟨c1,d1,f1,g1⟩,h1,k1,n1,m1⟩,_⟩:=I.tuple sa;obtain⟨vs,rv,⟨⟨c2,d2,f2,g2⟩,h2,k2,n2,m2⟩,_⟩:=I.tuple sb;cases ru;have k1:c1=.type "tuple":=k1;have m1:f1=.seq ([]:List aj).toArray n1:=m1;have k2:c2=.type "tuple":=k2;have m2:f2=.seq vs.toArray n2:=m2;subst k1 m1 k2 m2;exact fN ⟨_,h1,rfl⟩ ⟨_,h2,rfl⟩ fX ie cU cO (cH _ _)
   (tuple_addW0 a b ([]:List aj).toArray vs.toArray n1 n2 d1 d2 g1 g2 (by simp)) ⟨h1,h2,⟨.ref b,H,I,rfl,q1 rfl⟩⟩
 .exact j8c pins s σ H x y v u Q I rx ry ⟨a,b,xs,ys,e,e',sa,sb,hx,hz,q2 hx,q3 hx⟩
theorem all_range:∀bs:List Bool,(aP bs.length).all (λi=>(bs[i]?).getD ag)=bs.all id
 |[]=>rfl
 |b::bs=>by rw[xg,dn,gf,gv,gf,<-all_range bs];rfl
theorem Kd (hc:X.calm=ag):Jg X (.builtin "all") (λxs H Q=>∃(l:ai)(bs:List Bool),xs=[.ref l]/\SqL X.K H l (bs.map V.bl)/\Q (.bl (bs.all id)) H):=by
 rintro pins s σ H xs us Q I r ⟨l,bs,e,sq,q⟩;subst e;obtain⟨u,eu,ru⟩:=vals1 r;subst eu;cases ru;obtain⟨its,rv,pl,_⟩:=I.list sq;have hlt:l<s.heap.objs.size:=by obtain⟨_,_,e,_⟩:=pl;exact xm e
 have hl:its.length=bs.length:=by rw[<-rv.length,X5]
 refine call_all_walk (dj pl.isList ⟨s.heap.objs.size,[s.heap.objs.size,l],[s.heap.objs.size],its.toArray.size,_,_,λi=>(bs[i]?).getD ag,rfl,Walks.list (A:=X.A.in1) (I.ok.hd hc) _ _ (Xa hlt) its.toArray,⟨⟨_,Xc _ rfl,rfl,rfl⟩,pl.isList.push _⟩,?_,λh' tk kp=>?_⟩)
 .intro i v s' Q' E' hv hq;have hi:i<its.length:=by have:=Array.getElem?_eq_some_iff.mp hv;obtain⟨h,_⟩:=this;simpa using h
  have hb:i<bs.length:=by omega
  obtain⟨w1,hw,rw1⟩:=rv.get (x:=.bl bs[i]) (i:=i) (by rw[Xe,kh hb];rfl);have:its.toArray[i]?=aa w1:=by simpa using hw
  rw[this]at hv;cases hv;cases rw1;simp only[kh hb,cT]at hq;exact bN hq
 .have ev:(aP its.toArray.size).all (λi=>(bs[i]?).getD ag)=bs.all id:=by rw[X6,hl];exact all_range bs
  rw[ev];refine⟨.bl _,H,I.kept (t':=tk) λb o e=>kp b o ?_ (xn _ e),rfl,q⟩;intro z;rw[X7.mp z]at e;exact Xx _ (xm e)
end
section
variable{X:Cx}{ρ:Rho}{a b e:ar}{d d':D}{ds ds':List D}{i j:Int}{pos p p1 p2:aL}{k:Nat}{x:ao}{P:Po}
theorem DE.eqD(hu:X.A.units+100<aY)(ha:DT X ρ a d)(hb:DT X ρ b d')(hd:d.dep<=100)(nd:d'.dep<10000):DE X ρ (.Compare a [.Eq] [b] pos) (.bl (deq d d')):=λσ H Q R q =>(Ju (j1w hu) peS peS (zb _)).to (ha σ H _ R λv H1 g1 e1=>hb σ H1 _ (R.grow g1) λu H2 g2 e2=>⟨d,d',e1.mono g2,e2,hd,nd,q _ H2 (g1.trans g2) rfl⟩)
theorem DB.eqD(hu:X.A.units+100<aY)(ha:DT X ρ a d)(hb:DT X ρ b d')(hd:d.dep<=100)(nd:d'.dep<10000):DB X ρ (.Compare a [.Eq] [b] pos) (deq d d'):=λσ H Q R q =>(vq (j1w hu) peS peS (zb _)).to (ha σ H _ R λv H1 g1 e1=>hb σ H1 _ (R.grow g1) λu H2 g2 e2=>⟨d,d',e1.mono g2,e2,hd,nd,_,rfl,q H2 (g1.trans g2)⟩)
theorem DB.neD(s:Bool)(hu:X.A.units+100<aY)(ha:DT X ρ a (D.seq s ds))(hb:DT X ρ b (D.seq s ds'))(hd:D.depL ds<=98)(nd:D.depL ds'<10000):DB X ρ (.Compare a [.NotEq] [b] pos) (!vd ds ds'):=λσ H Q R q =>(vq (j1u hu) peS peS (zb _)).to (ha σ H _ R λv H1 g1 e1=>hb σ H1 _ (R.grow g1) λu H2 g2 e2=>⟨ds,ds',s,e1.mono g2,e2,hd,nd,_,rfl,q H2 (g1.trans g2)⟩)
theorem DB.notIn(s:Bool)(hu:X.A.units+100<aY)(ha:DT X ρ a d)(hb:DT X ρ b (D.seq s ds))(hd:D.depL ds<=98)(nd:d.dep<10000)(hm:aN .NotIn b=ae:=by with_unfolding_all rfl):DB X ρ (.Compare a [.NotIn] [b] pos) (!ds.any λe=>deq e d):=λσ H Q R q =>(vq (Up hu) peS peS hm).to (ha σ H _ R λv H1 g1 e1=>hb σ H1 _ (R.grow g1) λu H2 g2 e2=>⟨d,ds,s,e1.mono g2,e2,hd,nd,_,rfl,q H2 (g1.trans g2)⟩)
theorem DB.in(s:Bool)(hu:X.A.units+100<aY)(ha:DT X ρ a d)(hb:DT X ρ b (D.seq s ds))(hd:D.depL ds<=98)(nd:d.dep<10000)(hm:aN .In b=ae:=by with_unfolding_all rfl):DB X ρ (.Compare a [.In] [b] pos) (ds.any λe=>deq e d):=λσ H Q R q =>(vq (j1v hu) peS peS hm).to (ha σ H _ R λv H1 g1 e1=>hb σ H1 _ (R.grow g1) λu H2 g2 e2=>⟨d,ds,s,e1.mono g2,e2,hd,nd,_,rfl,q H2 (g1.trans g2)⟩)
theorem DE.min (ha:DT X ρ a (.int i)) (hb:DT X ρ b (.int j)) (hm:X.mg "min" = ah) (hc:X.calm=ag:=by rfl) (hg:Gl X "min":=by rfl) (hs:af [a,b] X.env=(ae,az a X.env)::af [b] X.env:=by rfl) (hs2:af [b] X.env=(ae,az b X.env)::af [] X.env:=by rfl)
  (hpl:(aJ pos (af [b] X.env)).any (·.1)=ae:=by rfl):DE X ρ (.Call (.Name "min" p) [a,b] [] pos) (.int (if j<i then j else i)):=λσ H Q R q =>
 (vg (j30 hc) hg hm boot_min (ji peS (ji peS jl hs2) hs) (by decide) (by decide) hs hpl).to (ha σ H _ R λv H1 g1 e1=>hb σ H1 _ (R.grow g1) λu H2 g2 e2=>⟨i,j,by rw[show v=.int i from e1,show u=.int j from e2],q _ H2 (g1.trans g2) rfl⟩)
theorem Rr{K:k5g}{H:Hp}:∀{bs:List Bool}{xs:List V},jd K H (bs.map D.bl) xs->xs=bs.map V.bl
 |[],_,h=>h
 |b::bs,_,⟨x,r,e,h,l⟩=>by subst e;cases(show x=.bl b from h);rw[Rr l];rfl
theorem DE.all {bs:List Bool} (ha:DT X ρ a (.lst (bs.map D.bl))) (hm:X.mg "all" = ah) (hc:X.calm=ag:=by rfl) (hg:Gl X "all":=by rfl) (hs:af [a] X.env=[(ae,az a X.env)]:=by rfl):DE X ρ (.Call (.Name "all" p) [a] [] pos) (.bl (bs.all id)):=λσ H Q R q =>(vg (Kd hc) hg hm boot_all (ji peS jl hs) (by decide) (by decide) hs).to (ha σ H _ R λv H1 g1 ⟨l,xs,e,sq,en⟩=>⟨l,bs,by rw[e],by rw[Rr en]at sq;exact sq,q _ H1 g1 rfl⟩)
def jam(X:Cx)(e:Option ar):TO:=λσ H Q=>∀pins s,Inv X pins σ H s->aC (aF X.prog X.w) X.A (evalPart e X.env) (λu s'=>∃o H',Inv X pins σ H' s'/\eR u o/\Q o H') X.xe s
theorem poS{e:Option ar}:PO X e (jam X e):=λpins s σ H Q I h=>h pins s I
def DP(X:Cx)(ρ:Rho)(e:Option ar)(o:Option Int):Prop:=∀σ H Q,Rep X.K ρ σ H->(∀H',jb H H'->Q o H')->jam X e σ H Q
theorem DP.none:DP X ρ ah ah:=λσ H Q R q pins s I=>j83 pins s σ H Q I (q H (jb.refl H))
theorem DP.some(h:DT X ρ e (.int i)):DP X ρ (aa e) (aa i):=λσ H Q R q pins s I=>j82 peS pins s σ H Q I (h σ H _ R λv H1 g1 e1=>⟨i,e1,q H1 g1⟩)
variable{lo hi:Option ar}{l u:Option Int}
end
def jab(K:k5g)(S:List D->List D->D->List D->Prop):Sp:=λvs H Q _=>∃(a:ai)(ds l:List D)(d:D)(l':List D)(ws xs:List V),vs=ws++[.ref a]/\TabOk K H/\H a=aa (.lst xs)/\jd K (del H [a]) l xs/\jd K (del H [a]) ds ws/\S ds l d l' /\
 ∀v H' ys,jb (del H [a]) (del H' [a])->H' a=aa (.lst ys)->jd K (del H' [a]) l' ys->Enc K (del H' [a]) d v->Q v H'
noncomputable def j1m(draw n:Int):Int:=if 0<n then n%60 else(draw*48271+11)%2147483647/16
noncomputable def Rm(draw n:Int):Int:=if 0<n then n%60/6%2 else(draw*48271+11)%2147483647/128%2
noncomputable def W8(n:Int):Int:=if 0<n then n/60 else n
noncomputable def Yt:Nat->List ao->Int->Int->D×Int
 |0,_,draw,n=>(.tup [.str "tell",.int (Rm draw n)],W8 n)
 |k+1,ws,draw,n=>match ws[(j1m draw n%ws.length).toNat]? with
  |none=>(.tup [.str "tell",.int (Rm draw n)],W8 n)
  |some y=>if j1m draw n%6=0 then(.tup [.str "tell",.int (Rm draw n)],W8 n)
   else(.tup [.str "ask",.str y,(Yt k (ws.filter λz=>!(z==y)) ((draw*48271+11)%2147483647*3+1) (W8 n)).1,
     (Yt k (ws.filter λz=>!(z==y)) ((draw*48271+11)%2147483647*5+2) (Yt k (ws.filter λz=>!(z==y)) ((draw*48271+11)%2147483647*3+1) (W8 n)).2).1],
    (Yt k (ws.filter λz=>!(z==y)) ((draw*48271+11)%2147483647*5+2) (Yt k (ws.filter λz=>!(z==y)) ((draw*48271+11)%2147483647*3+1) (W8 n)).2).2)
def j6n(ds l:List D)(d:D)(l':List D):Prop:=∃(ws:List ao)(draw n:Int)(k:Nat),ds=[.lst (ws.map D.str),.int draw,.int k]/\l=[.int n]/\k<=5/\ws.length<=60/\d=(Yt k ws draw n).1/\l'=[.int (Yt k ws draw n).2]
def Fz(o:Option HO):Prop:=(∃xs,o=aa (.lst xs))\/∃oc v,o=aa (.frz oc (.own 0))/\oc.data=.cell v
theorem j2i{P:av}{w:aA}{K:k5g}{mg:k5j}{base:aI}{A0:aE}{outer:List cf}{s:aq}{H:Hp}{A:List ai}(e0:Env0 P w K mg base A0 outer s H)(hA:∀a∈A,Fz (H a)) :
  Env0 P w K mg base A0 outer s (del H A)/\∀(Q:VK)(E E':XK)(r:eO)(s':aq),CR CX0 outer P w (del H A) s (λv F=>(∀a∈A,F a=ah)->Q v (mrg A H F)) E r s'->CR CX0 outer P w H s Q E' r s':=by
 have nd:∀{b:ai},H b=ah->del H A b=ah:=λ{b} q=>by
  by_cases z:b∈A
  .exact qp z
  .rw[jc z];exact q
 have out:∀{b:ai}{o:HO},H b=aa o->(∀ys,o≠.lst ys)->(∀oc v,o=.frz oc (.own 0)->oc.data≠.cell v)->b∉A:=λ{b o} q z z2 y=>by
  rcases hA b y with ⟨ys,e'⟩|⟨oc,v,e',d⟩
  .rw[q]at e';cases e';exact z ys rfl
  .rw[q]at e';cases e';exact z2 _ _ rfl d
 have e1:Env0 P w K mg base A0 outer s (del H A):=⟨e0.frames,e0.mod,λb o q=>⟨(e0.bs b o q).1,nd (e0.bs b o q).2⟩,e0.bsz,e0.funs,λb hb=>nd (e0.frf b hb),
  λa o q=>by
   obtain⟨_,q⟩:=of_del q
   exact jo.stay (e0.hok a o q) (λb u _ z=>z) (λb z=>by rw[jc (out z (λ_ y=>by cases y) λ_ _ y=>by cases y)];exact z) (λb xs z=>by rw[jc (out z (λ_ y=>by cases y) λ_ _ y=>by cases y)];exact z)
    (λb o ⟨vs,d⟩ z=>by rw[jc (out z (λ_ y=>by cases y) λ_ _ y d'=>by cases y;rw[d]at d';cases d')];exact z),e0.bare⟩
 refine⟨e1,λQ E E' r s' hq=>?_⟩;cases r with
 |error e=>exact(show False from hq).elim
 |ok fl =>
  cases fl with
  |next=>exact(show False from hq).elim
  |brk=>exact(show False from hq).elim
  |cont=>exact(show False from hq).elim
  |ret u =>
   obtain⟨v,H',os,bare,un,hok',rel,q⟩:=(show CE outer P w (del H A) s _ u s' from hq)
   have kept:∀a∈A,∃o,s.heap.get? a=aa o/\s'.heap.get? a=aa o/\H' a=ah:=λa ha=>by
    have nf:a∉frs outer:=λy=>by have z:=e0.frf a y;rcases hA a ha with ⟨xs,e⟩|⟨oc,v,e,_⟩<;>(rw[z]at e;cases e)
    have ob:∃o,s.heap.get? a=aa o:=by
     rcases hA a ha with ⟨xs,e⟩|⟨oc,v,e,_⟩
     .obtain⟨_,its,n,_,z⟩:=(show jo P w H s.heap a (.lst xs)from e0.hok _ _ e);exact⟨_,z⟩
     .exact⟨_,(show jo P w H s.heap a (.frz oc (.own 0))from e0.hok _ _ e).1⟩
    obtain⟨o,z⟩:=ob;exact⟨_,z,un.keep a _ z (qp ha) nf (by simp),un.free a _ z (qp ha) (by simp)⟩
   have hF:∀a∈A,H' a=ah:=λa ha=>let ⟨_,_,_,z⟩:=kept a ha;z;have outF:∀{b:ai}{o:HO},H' b=aa o->b∉A:=λ{b o} e z=>by rw[hF b z]at e;cases e
   refine⟨v,mrg A H H',os,bare,?_,λa o e=>?_,rel,q hF⟩
   .exact{
     keep:=λb o e n=>un.keep b o e (nd n)
     slot:=λb o e n=>un.slot b o e (nd n)
     free:=λb o e n hx=>by
      by_cases z:b∈A
      .rw[J0 z];exact n
      .rw[jn z];exact un.free b o e (nd n) hx
     there:=un.there
     tups:=λb xs e=>by
      have z:=un.tups b xs (by rw[jc (out e (λ_ y=>by cases y) λ_ _ y=>by cases y)];exact e)
      rw[jn (outF z)];exact z
     frzs:=λb o u e=>by
      by_cases y:b∈A
      .rw[J0 y];exact e
      .have z:=un.frzs b o u (by rw[jc y];exact e)
       rw[jn y];exact z
     tbls:=λb ps e=>by
      obtain⟨more,z⟩:=un.tbls b ps (by rw[jc (out e (λ_ y=>by cases y) λ_ _ y=>by cases y)];exact e)
      exact⟨more,by rw[jn (outF z)];exact z⟩ }
   .by_cases z:a∈A
    .rw[J0 z]at e;obtain⟨o',q1,q2,_⟩:=kept a z;rcases hA a z with ⟨xs,e'⟩|⟨oc,v,e',_⟩
     .rw[e']at e;cases e;obtain⟨hl,its,n,r,y⟩:=(show jo P w H s.heap a (.lst xs)from e0.hok _ _ e')
      rw[y]at q1;cases q1;exact⟨hl,its,n,r,q2⟩
     .rw[e']at e;cases e;have y:=(show jo P w H s.heap a (.frz oc (.own 0))from e0.hok _ _ e').1;rw[y]at q1;cases q1;exact⟨q2,_,q2⟩
    .rw[jn z]at e;refine jo.stay (hok' a o e) (λb u _ q=>q) (λb q=>?_) (λb xs q=>?_) (λb _ _ q=>?_)
     .rw[jn (outF q)];exact q
     .rw[jn (outF q)];exact q
     .rw[jn (outF q)];exact q
structure LamScope(N ps:List ao)(sc:be):Prop where
 kind:sc.kind=.function
 co:sc.isCoroutine=ae
 gen:sc.isGenerator=ae
 nd:N.Nodup
 nm:N=Zk sc++ps
 lfr:∀x∈Zk sc,sc.names.lookup x=aa .free
 lps:∀x∈ps,sc.names.lookup x=aa .local
 nocell:∀y∈sc.names,y.2≠.cell
 cov:∀x,sc.names.lookup x=aa .free->x∈Zk sc
noncomputable def Vu(P:av)(w:aA)(K:k5g)(mg:k5j)(base:aI)(N:List ao)(qual:ao)(scope:be)(a:ai)(cd:aj)(cl:List (ao×ai))(A:aE)(outer:List cf)(s:aq)(H:Hp):Cx where
 prog:=P
 w:=w
 K:=K
 mg:=mg
 base:=base
 A:=A.deeper (W.envX qual scope s.heap.objs.size a cd cl)
 N:=N
 s₀:=s
 H₀:=H
 env:=W.envX qual scope s.heap.objs.size a cd cl
 outer:=outer
 stack:=W.envX qual scope s.heap.objs.size a cd cl::outer
 ex:=[]
 calm:=ag
 fn:=λ_=>ae
 pn:=[]
 xe:=λ_ _=>False
def Jm(h:aI):List ai->List V->Prop
 |[],vs=>vs=[]
 |c::cs,vs=>∃v r u,vs=v::r/\h.IsCell c (aa u)/\RelV v u/\Jm h cs r
theorem Jm.get{h:aI}:∀{cs:List ai}{vs:List V}{i:Nat}{v:V},Jm h cs vs->vs[i]?=aa v->∃c u,cs[i]?=aa c/\h.IsCell c (aa u)/\RelV v u
 |[],_,i,v,e,q=>by cases e;simp at q
 |c::cs,_,0,v,⟨x,r,u,e,h1,h2,_⟩,q=>by subst e;simp at q;subst q;exact⟨c,u,rfl,h1,h2⟩
 |c::cs,_,i+1,v,⟨x,r,u,e,_,_,l⟩,q=>by subst e;obtain⟨c',u',z1,z2⟩:=Jm.get l (i:=i) (by simpa using q);exact⟨c',u',by simpa using z1,z2⟩
theorem Jm.length{h:aI}:∀{cs:List ai}{vs:List V},Jm h cs vs->vs.length=cs.length
 |[],_,e=>by cases e;rfl
 |c::cs,_,⟨x,r,u,e,_,_,l⟩=>by subst e;simp[l.length]
theorem Jm.all{h:aI}:∀{cs:List ai}{vs:List V},Jm h cs vs->∀c∈cs,∃v,h.IsCell c v
 |c::cs,_,⟨x,r,u,e,h1,_,l⟩,b,hb=>(xf.mp hb).elim (λz=>z▸⟨_,h1⟩) (l.all b)
theorem lookup_at{α:Type}:∀{l:List (ao×α)} {i:Nat} {p:ao×α},(l.map (·.1)).Nodup->l[i]?=aa p->l.lookup p.1=aa p.2
 |[],i,p,_,h=>by simp at h
 |q::l,0,p,_,h=>by simp at h;subst h;rw[xj,beq_self_eq_true]
 |q::l,i+1,p,nd,h=>by rw[xx]at nd;rw[List.getElem?_cons_succ]at h;have ne:(p.1==q.1)=ae:=beq_eq_false_iff_ne.mpr λz=>(Xd.mp nd).1 (z▸ij (Xg h));rw[xj,ne];exact lookup_at (Xd.mp nd).2 h
theorem j0c{ps:List ao}{us:List aj}{i:Nat}{p:ao}{u:aj}(nd:ps.Nodup)(hl:us.length=ps.length)(h1:ps[i]?=aa p)(h2:us[i]?=aa u):(ps.zip us).reverse.lookup p=aa u:=by
 have hm:(p,u)∈(ps.zip us).reverse:=List.mem_reverse.mpr (Xg (i:=i) (by rw[List.getElem?_zip_eq_some];exact⟨h1,h2⟩));have e:((ps.zip us).reverse.map (·.1))=ps.reverse:=by rw[List.map_reverse,List.map_fst_zip (by omega)]
 obtain⟨j,hj⟩:=List.mem_iff_getElem?.mp hm;exact lookup_at (by rw[e];exact(List.reverse_perm ps).nodup_iff.mpr nd) hj
section
variable{P:av}{w:aA}{K:k5g}{mg:k5j}{base:aI}{A:aE}{outer:List cf}{s:aq}{H:Hp}{x:ao}{a c:ai}{tx:Tx}{cl:List (ao×ai)}{pm ctv:aj}{cvs vs:List V}{us:List aj}{N ps:List ao}{k:Nat}{Q:VK}{E:XK}
theorem j91{h1:aI}{tk:Nat}(hh:A.handled=ah)(e0:Env0 P w K mg base A outer s H)(S:LamScope N ps tx.2.2)(hn:cl.map (·.1)=Zk tx.2.2)(nd:(cl.map (·.2)).Nodup)(hc:Jm s.heap (cl.map (·.2)) cvs)(hf:∀q∈cl.map (·.2),H q=ah)(rv:Vals vs us)(hl:vs.length=ps.length)
  (ns:h1.Ns s.heap.objs.size λy=>(ps.zip us).reverse.lookup y) (kp:∀b o,s.heap.get? b=aa o->h1.get? b=aa o) :
  Inv (Vu P w K mg base N (zc x) tx.2.2 a (.ref c) cl A outer s H) [] (start N (cvs++vs)) H { s with heap:=h1,toks:=tk }:=by
 have ndN:(Zk tx.2.2).Nodup:=by have:=S.nd;rw[S.nm]at this;exact(List.nodup_append.mp this).1
 have ndP:ps.Nodup:=by have:=S.nd;rw[S.nm]at this;exact(List.nodup_append.mp this).2.1
 have ndC:(cl.map (·.1)).Nodup:=by rw[hn];exact ndN
 have lenC:cvs.length=(Zk tx.2.2).length:=by rw[hc.length,<-hn,X5,X5]
 have lenN:N.length=(cvs++vs).length:=by rw[S.nm,X8,X8,lenC,hl]
 have noA:∀b:ai,b∉(Vu P w K mg base N (zc x) tx.2.2 a (.ref c) cl A outer s H).ex:=λb z=>absurd (show b∈([]:List ai)from z) (by simp);have mem2:∀{y:ao}{q:ai},cl.lookup y=aa q->q∈cl.map (·.2):=λ{y q} h=>Xn.mpr ⟨(y,q),Xv h,rfl⟩;have inj:∀(l:List (ao×ai)),(l.map (·.2)).Nodup->∀y z q,(y,q)∈l->(z,q)∈l->y=z:=λl=>by
  induction l with
  |nil=>intro _ y z q h;cases h
  |cons p r ih =>
   intro nd y z q h1 h2;rw[xx]at nd;obtain⟨n1,n2⟩:=Xd.mp nd;rcases xf.mp h1 with e1|h1<;>rcases xf.mp h2 with e2|h2
   .rw[<-e1]at e2;cases e2;rfl
   .exact absurd (Xn.mpr ⟨(z,q),h2,by rw[<-e1]⟩) n1
   .exact absurd (Xn.mpr ⟨(y,q),h1,by rw[<-e2]⟩) n1
   .exact ih n2 y z q h1 h2
 refine⟨⟨e0.mod,S.kind,rfl,rfl,X3 _,λy z q h1 h2=>inj cl nd y z q (Xv h1) (Xv h2),λy hy=>?_,λy q h=>(by cases h),λ_=>hh,gm e0.frames,.inr ⟨rfl,rfl⟩,λb z=>absurd z (noA b),e0.bs,e0.bsz,λb _ _=>noA b,λb z=>absurd z (noA b),e0.funs,e0.frf⟩,
  rfl,e0.bare,Un.kept kp,⟨_,ns,λi y v h1 h2 h3=>?_⟩,λy q h=>?_,e0.hok.fresh (X3 _),λy q h=>hf q (mem2 h),λp hp=>absurd (show p∈([]:k5i)from hp) (by simp),e0.hok.kept kp,?_⟩
 .have hy:tx.2.2.names.lookup y=aa .cell\/tx.2.2.names.lookup y=aa .free:=hy;rcases hy with hy|hy
  .exact absurd rfl (S.nocell _ (Xv hy))
  .have m:=S.cov y hy;rw[<-hn]at m;obtain⟨p,hp,e⟩:=Xn.mp m;obtain⟨i,hi⟩:=List.mem_iff_getElem?.mp hp;exact⟨p.2,by have:=lookup_at ndC hi;rw[e]at this;exact this⟩
 .have h1:N[i]?=aa y:=h1;have hi:i<(cvs++vs).length:=by rw[<-lenN];exact(Xh.mp h1).1
  have ha:(cvs++vs)[i]?=aa v:=by
   unfold start at h2;rw[ph (by simpa using hi),Xe]at h2;cases e:(cvs++vs)[i]? with
   |none=>rw[e]at h2;cases h2
   |some a=>rw[e]at h2;cases h2;rfl
  rw[S.nm]at h1;by_cases z:i<cvs.length
  .rw[ph z]at ha;rw[ph (by omega)]at h1;obtain⟨q,u,e1,e2,r⟩:=hc.get ha;refine⟨u,r,.inr ⟨.inr (S.lfr y (Xg h1)),q,?_,e2.keeps kp⟩⟩;rw[<-hn,Xe]at h1;rw[Xe]at e1;obtain⟨p,hp,ep⟩:=Ph.mp h1;rw[hp]at e1;have:=lookup_at ndC hp;rw[ep]at this;show cl.lookup y=aa q;rw[this];exact e1
  .rw[cE (by omega)]at ha h1;rw[<-lenC]at h1;obtain⟨u,hu,r⟩:=rv.get ha;exact⟨u,r,.inl ⟨S.lps y (Xg h1),j0c ndP (by rw[<-rv.length,hl]) h1 hu⟩⟩
 .obtain⟨v,z⟩:=hc.all q (mem2 h);exact⟨v,z.keeps kp⟩
 .unfold start;show _=N.length;rw[X8,X5,dH];omega
theorem j4s (hr:Room (k+1) A) (e0:Env0 P w K mg base A outer s H) (ho:s.heap.get? a=aa (W.kla_obj "<lambda>" (zc x) tx.1 tx.2.1 tx.2.2 cl pm c ctv)) (hcd:s.heap.CodeRec (.ref c) (zc x))
  (S:LamScope N ps tx.2.2) (hn:cl.map (·.1)=Zk tx.2.2) (nd:(cl.map (·.2)).Nodup) (hc:Jm s.heap (cl.map (·.2)) cvs) (hf:∀q∈cl.map (·.2),H q=ah)
  (hb:bB (W.kla_fn "<lambda>" (zc x) tx.1 tx.2.1 tx.2.2 cl pm (.ref c) ctv) ⟨us,[]⟩=pure (ps.zip us)) (rv:Vals vs us) (hl:vs.length=ps.length)
  (body:Room k (Vu P w K mg base N (zc x) tx.2.2 a (.ref c) cl A outer s H).A->vm (Vu P w K mg base N (zc x) tx.2.2 a (.ref c) cl A outer s H) tx.2.1 (start N (cvs++vs)) H Q) :
  bS (aF P w) A (.call (.ref a) ⟨us,[]⟩) (CR CX0 outer P w H s Q E) s:=by
 have lim:s.heap.NoLimit:=e0.mod.nolimit.keeps λb o e=>(e0.bs b o e).1;refine W.kla_callFunE (by have:=hr.dp;omega) ho rfl S.co S.gen rfl hcd ?_;rw[hb];refine aH (wpAny_newFunctionEnv S.nocell (λy hy=>S.lps y.1 (cq (a:=y.1) (b:=y.2) hy).1) (λh1 ns sb=>⟨lim.fresh _ sb,?_⟩) S.kind);show bS _ _ (.expr tx.2.1 (W.envX (zc x) tx.2.2 s.heap.objs.size a (.ref c) cl)) _ _;have kp:∀b o,s.heap.get? b=aa o->h1.get? b=aa o:=λb o e=>sb.extBut b o (Xa (xm e)) (xn _ e);have I:=j91 (x:=x) (a:=a) (c:=c) (tk:=s.toks+(ps.zip us).length) hr.hd e0 S hn nd hc hf rv hl ns kp;refine W.kla_codeExpr (bu (body (hr.deeper _) [] _ I) (λu s' ⟨v,H',J,r,q⟩=>?_) λ_ _ z=>z.elim);exact⟨v,H',J.os,J.bare,J.base,J.hok,r,q⟩
end
mutual
noncomputable def noFn:D->Bool
 |.fn _ _=>ae
 |.tup ds=>Vs ds
 |.lst ds=>Vs ds
 |.dct _ ds=>Vs ds
 |_=>ag
noncomputable def Vs:List D->Bool
 |[]=>ag
 |d::ds=>noFn d&&Vs ds
end
section
variable{K:k5g}{H:Hp}{A:List ai}
def Cel(H:Hp)(A:List ai):Prop:=∀a∈A,∃oc v,H a=aa (.frz oc (.own 0))/\oc.data=.cell v
theorem Cel.out(hA:Cel H A){b:ai}{o:HO}(q:H b=aa o)(h:∀oc,o≠.frz oc (.own 0)):del H A b=aa o:=by rw[jc];exact q;intro y;obtain⟨oc,v,e,_⟩:=hA b y;rw[q]at e;exact h oc (aB e)
theorem Cel.seqT(hA:Cel H A){a:ai}{xs:List V}(h:SqT K H a xs):SqT K (del H A) a xs:=by
 rcases h with (h|⟨o,h⟩)|h
 .exact .inl (.inl (hA.out h λ_ z=>by cases z))
 .exact .inl (.inr ⟨o,hA.out h λ_ z=>by cases z⟩)
 .exact .inr h
theorem Cel.seq(hA:Cel H A){a:ai}{xs:List V}(h:SqL K H a xs):SqL K (del H A) a xs:=by
 rcases h with (h|⟨o,h⟩)|h
 .exact .inl (.inl (hA.out h λ_ z=>by cases z))
 .exact .inl (.inr ⟨o,hA.out h λ_ z=>by cases z⟩)
 .exact .inr h
mutual
theorem Enc.noc(hA:Cel H A):∀{d:D}{v:V},noFn d=ag->Enc K H d v->Enc K (del H A) d v
 |.non,_,_,h=>h
 |.bl _,_,_,h=>h
 |.int _,_,_,h=>h
 |.str _,_,_,h=>h
 |.tup _,_,n,⟨a,xs,e,q,l⟩=>⟨a,xs,e,hA.seqT q,jd.noc hA (by simpa [noFn]using n) l⟩
 |.lst _,_,n,⟨a,xs,e,q,l⟩=>⟨a,xs,e,hA.seq q,jd.noc hA (by simpa [noFn]using n) l⟩
 |.dct _ _,_,n,⟨a,xs,ep,vs,e,q,ek,kt,rv,l⟩=>⟨a,xs,ep,vs,e,hA.out q (λ_ z=>by cases z),ek,λx hx=>hA.seqT (kt x hx),rv,jd.noc hA (by simpa [noFn]using n) l⟩
 |.sct _,_,_,⟨a,e,q⟩=>⟨a,e,hA.out q λ_ z=>by cases z⟩
 |.fn _ _,_,n,_=>by cases n
theorem jd.noc(hA:Cel H A):∀{ds:List D}{xs:List V},Vs ds=ag->jd K H ds xs->jd K (del H A) ds xs
 |[],_,_,h=>h
 |d::ds,_,n,⟨x,r,e,h,l⟩=>by rw[Vs,Xb]at n;exact⟨x,r,e,Enc.noc hA n.1 h,jd.noc hA n.2 l⟩
end
theorem vy.cel:∀{cs:List ai}{vs:List V},vy H cs vs->Cel H cs
 |[],_,_=>λ_ h=>nomatch h
 |c::cs,_,⟨v,r,o,u,e,h,d,rv,l⟩=>λa ha=>(xf.mp ha).elim (λz=>⟨o,_,z▸h,d⟩) (l.cel a)
theorem vy.inn{P:av}{w:aA}{h:aI}(ok:HOk P w H h):∀{cs:List ai}{vs:List V},vy H cs vs->Jm h cs vs
 |[],_,e=>e
 |c::cs,_,⟨v,r,o,u,e,q,d,rv,l⟩=>⟨v,r,u,e,⟨o,(show jo P w H h c (.frz o (.own 0))from ok _ _ q).1,d⟩,rv,l.inn ok⟩
theorem vy.of_del{B:List ai}:∀{cs:List ai}{vs:List V},vy (del H B) cs vs->vy H cs vs:=λh=>h.mono jq
theorem TabOk.fz(h:TabOk K H)(hA:∀a∈A,Fz (H a)):TabOk K (L2.del H A):=λx hx c P z=>by have q:=h x hx c P z;rw[jc];exact q;intro y;rcases hA _ y with ⟨xs,e⟩|⟨oc,v,e,_⟩<;>(rw[q]at e;cases e)
end
def j0w(P:av)(w:aA)(K:k5g)(mg:k5j)(base:aI)(k:Nat)(x:ao)(S:List D->D->Prop):Prop :=
 ∀(A:aE)(outer:List cf)(s:aq)(H:Hp)(a:ai)(B:List ai)(cs ds:List D) (d:D) (vs:List V) (us:List aj) (Q:VK) (E:XK),Room k A->Env0 P w K mg base A outer s H->TabOk K H->(∀b∈B,∃xs,H b=aa (.lst xs)) ->
  Enc K (del H B) (.fn x cs) (.ref a)->jd K (del H B) ds vs->Vs ds=ag->S (cs++ds) d->Vals vs us->(∀v H',jb H H'->Enc K (del H' B) d v->Q v H')->bS (aF P w) A (.call (.ref a) ⟨us,[]⟩) (CR CX0 outer P w H s Q E) s
section
variable{P:av}{w:aA}{K:k5g}{mg:k5j}{base:aI}{k:Nat}{x:ao}{S:List D->D->Prop}{tx:Tx}{N ps:List ao}
theorem jbq(ht:j0e K x=aa tx)(Sc:LamScope N ps tx.2.2)(hl:∀ds d,S ds d->ds.length=N.length)
  (hb:∀(cl:List (ao×ai)) (pm:aj) (c:ai) (ctv:aj) (us:List aj),us.length=ps.length->bB (W.kla_fn "<lambda>" (zc x) tx.1 tx.2.1 tx.2.2 cl pm (.ref c) ctv) ⟨us,[]⟩=pure (ps.zip us))
  (hbody:∀(a c:ai)(cl:List (ao×ai)) (A:aE) (outer:List cf) (s:aq) (H:Hp),cl.map (·.1)=Zk tx.2.2->Room k (Vu P w K mg base N (zc x) tx.2.2 a (.ref c) cl A outer s H).A->∀ds d,S ds d->DT (Vu P w K mg base N (zc x) tx.2.2 a (.ref c) cl A outer s H) (jz N ds) tx.2.1 d):j0w P w K mg base (k+1) x S:=by
 intro A outer s H a B cs ds d vs us Q E hr e0 tb hB en ea nf hS rv q;obtain⟨a',c,tx',cl,cvs,e,L,l⟩:=en;cases e;have et:tx'=tx:=aB (L.tx.symm.trans ht);subst et;have cs_at:vy H (cl.map (·.2)) cvs:=L.cs.of_del;have hA:∀b∈B++cl.map (·.2),Fz (H b):=λb hb=>(Pr.mp hb).elim (λz=>.inl (hB b z)) λz=>.inr (cs_at.cel b z);obtain⟨e1,back⟩:=j2i e0 hA;obtain⟨pm,ctv,hfo⟩:=L.fo;obtain⟨oc,hco,vs0,t0,hd0,hv0⟩:=L.co;have ho:=(show jo P w H s.heap a (.frz _ (.own 0))from e0.hok _ _ (of_del hfo).2).1;have hcd:s.heap.CodeRec (.ref c) (zc x):=⟨c,oc,vs0,t0,rfl,(show jo P w H s.heap c (.frz oc (.own 0))from e0.hok _ _ (of_del hco).2).1,hd0,hv0⟩
 have ll:=l.length;have la:=ea.length;have hlen:=hl _ _ hS;have lenC:(cl.map (·.2)).length=(Zk tx'.2.2).length:=by rw[<-L.nm,X5,X5]
 have lcv:=(cs_at.inn e0.hok).length;have hlv:vs.length=ps.length:=by rw[Sc.nm,X8,X8]at hlen;omega
 have celB:Cel (del H B) (cl.map (·.2)):=L.cs.cel;have ea1:jd K (del H (B++cl.map (·.2))) ds vs:=by rw[<-Ze];exact ea.noc celB nf
 have l1:jd K (del H (B++cl.map (·.2))) cs cvs:=by rw[<-Ze];exact l
 refine cb (j4s (E:=E) (Q:=λv F=>(∀a∈B++cl.map (·.2),F a=ah)->Q v (mrg (B++cl.map (·.2)) H F)) hr e1 ho hcd Sc L.nm L.nd (cs_at.inn e0.hok) (λb hb=>qp (Xi _ hb)) (hb cl pm c ctv us (by rw[<-rv.length];exact hlv)) rv hlv λhrm=>?_) λr s' h=>back Q E E r s' h;refine hbody a c cl A outer s _ L.nm hrm (cs++ds) d hS _ _ _ (Qp (tb.fz hA) (l1.append ea1)) λv F g en' hF=>q v _ (Ri g) (en'.mono λb o z=>?_);have nb:b∉B++cl.map (·.2):=λy=>by rw[hF b y]at z;cases z
 rw[jc (λy=>nb (cg _ y)),jn nb];exact z
end
section
variable{X:Cx}{ρ:Rho}{e a b c:ar}{es:List ar}{st:aG}{rest sa sb body:List aG}{P:Po}{d:D}{ds ds':List D}{pos p p1 p2 p3:aL}{x:ao}{i:Nat}
theorem Cal.comp{sp:Sp}{scope:be}{C:ai}{s:aq}{H:Hp}{fp:List ai}{pn:k5i}(h:Cal X x sp):Cal (cCx X scope C s H fp pn) x sp:=⟨h.ex⟩
end
theorem vp(lo:Int)(n:Nat):(upto lo n).length=n:=by unfold upto;rw[X5,cP]
theorem Cq{lo:Int}{n:Nat}{d:D}(h:d∈upto lo n):∃j:Nat,j<n/\d=.int (lo+j):=by unfold upto at h;obtain⟨j,hj,e⟩:=Xn.mp h;exact⟨j,Xy.mp hj,e.symm⟩
mutual
def J3:D->Prop
 |.tup l=>l.length<=1000/\Js l
 |.lst l=>l.length<=1000/\Js l
 |.dct _ _=>False
 |.sct _=>False
 |.fn _ _=>False
 |_=>True
def Js:List D->Prop
 |[]=>True
 |d::ds=>J3 d/\Js ds
end
theorem Yy:∀{ds:List D}{d:D},Js ds->d∈ds->J3 d
 |x::xs,d,h,m=>by
  simp only[Js]at h;rcases xf.mp m with e|m
  .subst e;exact h.1
  .exact Yy h.2 m
theorem Ng:∀{ds:List D},(∀d∈ds,J3 d)->Js ds
 |[],_=>by simp only[Js]
 |x::xs,h=>by simp only[Js];exact⟨h x (X4 ..),Ng λd m=>h d (kj _ m)⟩
theorem D.depL_mem:∀{ds:List D}{d:D},d∈ds->d.dep<=D.depL ds
 |x::xs,d,m=>by
  simp only[D.depL];rcases xf.mp m with e|m
  .subst e;omega
  .have:=D.depL_mem m;omega
theorem D.depL_of{n:Nat}:∀{ds:List D},(∀d∈ds,d.dep<=n)->D.depL ds<=n
 |[],_=>by simp only[D.depL];omega
 |x::xs,h=>by simp only[D.depL];have h1:=h x (X4 ..);have h2:=D.depL_of (ds:=xs) λd m=>h d (kj _ m);omega
end L2
end
section
namespace L2
open PySem PySem.Spec PyProof.Rows
def CX1(P:av)(w:aA):CXT:=λouter H s E ev s'=>∃(e:ai)(C:aj)(H':Hp),ev=.ref e/\s'.os=s.os/\dm s'.gens/\Un (frs outer) [] H H' s.heap s'.heap/\HOk P w H' s'.heap /\
 Fl (λb=>∃o,s.heap.get? b=aa o) H' s'.heap e C/\E C ah H'
theorem jo.get{P:av}{w:aA}{H:Hp}{h:aI}{a:ai}{o:HO}(x:jo P w H h a o):∃u,h.get? a=aa u:=by
 cases o with
 |lst xs=>obtain⟨_,_,_,_,e⟩:=x;exact⟨_,e⟩
 |tup xs=>obtain⟨_,_,_,⟨_,e,_⟩,_⟩:=x;exact⟨_,e⟩
 |dK kvs=>obtain⟨_,_,_,_,o,_,_,e,_⟩:=x;exact⟨_,e⟩
 |dT kvs=>obtain⟨_,_,_,_,o,_,_,e,_⟩:=x;exact⟨_,e⟩
 |dI xs ep=>obtain⟨_,_,_,o,_,e,_⟩:=x;exact⟨_,e⟩
 |set S n=>obtain⟨o,_,_,_,e,_⟩:=x;exact⟨_,e⟩
 |ins C dx fs=>obtain⟨_,_,_,e,_⟩:=x;exact⟨_,e⟩
 |own y=>obtain⟨_,e⟩:=x;exact⟨_,e⟩
 |xd fs=>obtain⟨_,⟨_,_,_,e,_⟩,_⟩:=x;exact⟨_,e⟩
 |rng lo hi=>obtain⟨_,_,_,e⟩:=x;exact⟨_,e⟩
 |frz ob u=>obtain⟨e,_⟩:=x;exact⟨_,e⟩
 |tbl ps=>exact⟨_,(show h.get? a=aa _ from x)⟩
 |cod q=>obtain⟨_,e,_⟩:=x;exact⟨_,e⟩
 |met f y=>exact⟨_,(show h.get? a=aa _ from x)⟩
 |ext φ=>obtain⟨_,⟨_,e⟩,_⟩:=x;exact⟨_,e⟩
section
variable{X:Cx}{pins:k5i}{σ:St}{H:Hp}{s:aq}
theorem Inv.old(I:Inv X pins σ H s){b:ai}(h:Old X pins b):∃o,s.heap.get? b=aa o:=by
 rcases h with ⟨o,q,n⟩|⟨p,hp,rfl⟩|rfl|⟨x,e⟩
 .exact I.base.there b o q n
 .exact⟨_,(I.pin p hp).1⟩
 .obtain⟨m,⟨o,_,_,e,_⟩,_⟩:=I.loc;exact⟨o,e⟩
 .obtain⟨v,o,e,_⟩:=I.cell x b e;exact⟨o,e⟩
end
section
variable{P:av}{w:aA}{K:k5g}{mg:k5j}{base:aI}{N ps:List ao}{qual:ao}{scope:be}{f:ai}{cd:aj}{A:aE}{outer:List cf}{s s':aq}{H H':Hp}{E:XK}{σ:St}{pins:k5i}{e:ai}{C:aj}
theorem Ba{as:List ai}{h':aI}{a0:aj}(I:Inv (qg (CX1 P w) P w K mg base N qual scope f cd A outer s H E) pins σ H' s')(F:FlQ (flF (qg (CX1 P w) P w K mg base N qual scope f cd A outer s H E).env) (Old (qg (CX1 P w) P w K mg base N qual scope f cd A outer s H E) pins) H' s'.heap e C)
  (hE:E C ah H') (ha:∀b,b∈as↔b∈frs (bc qual scope s.heap.objs.size f cd::outer)\/(¬(∃o,s.heap.get? b=aa o)/\H' b=ah/\b∈as)) (hfa:∀b∈frs (bc qual scope s.heap.objs.size f cd::outer),b∈as)
  (hL:Heap.LeftW (W.hideAll s'.heap as) (bc qual scope s.heap.objs.size f cd::outer) e C a0 s'.heap h'):CX1 P w outer H s E (.ref e) { s' with heap:=h' }:=by
 obtain⟨k1,k2,k3,k4⟩:=hL;have fr:∀b∈frs outer,∃o,s'.heap.get? b=aa o/\∀vs,o.data≠.fields vs:=λb hb=>by obtain⟨o,ho,hd⟩:=(I.stack.mem (show b∈frs (bc qual scope s.heap.objs.size f cd::outer)from kj _ hb)).2;exact⟨o,ho,hd⟩
 have sfree:∀b∈frs (bc qual scope s.heap.objs.size f cd::outer),H' b=ah:=I.stkFree;have keep:∀b o,s'.heap.get? b=aa o->b∉as->h'.get? b=aa o:=λb o q n=>k1 b o (W.hideAll_get _ q n);have nold:∀b o,s.heap.get? b=aa o->b∉frs outer->b∉as:=λb o q n z=>by
  rcases(ha b).mp z with z|⟨z,_⟩
  .rcases xf.mp z with z|z
   .have:=xm q;rw[show b=s.heap.objs.size from z]at this;exact absurd this (Xx _)
   .exact n z
  .exact z ⟨o,q⟩
 have ntrk:∀b u,H' b=aa u->b∉as:=λb u q z=>by
  rcases(ha b).mp z with z|⟨_,z,_⟩
  .rw[sfree b z]at q;cases q
  .rw[z]at q;cases q
 have slot:∀b∈frs outer,∀o,s'.heap.get? b=aa o->∃sl,h'.get? b=aa { o with slots:=sl }:=λb hb o q=>by obtain⟨o',ho,hd⟩:=fr b hb;rw[q]at ho;cases ho;exact k4 b o q hd
 have un:=I.base;refine⟨e,C,H',rfl,I.os,I.bare,⟨λb o q n hb _=>keep b o (un.keep b o q n hb (λz=>nomatch z)) (nold b o q hb),λb o q n hb _=>?_,λb o q n _=>un.free b o q n (λz=>nomatch z),λb o q _=>?_,un.tups,un.frzs,un.tbls⟩,
  λa o q=>(I.hok a o q).stay (λb u hb r=>keep b u r ?_) (λ_ z=>z) (λ_ _ z=>z) λ_ _ _ z=>z,?_,hE⟩
 .obtain⟨sl,q'⟩:=un.slot b o q n hb (λz=>nomatch z);obtain⟨sl',q2⟩:=slot b hb _ q';exact⟨sl',q2⟩
 .obtain⟨o',q'⟩:=un.there b o q (λz=>nomatch z);by_cases hb:b∈frs outer
  .obtain⟨sl,q2⟩:=slot b hb _ q';exact⟨_,q2⟩
  .exact⟨_,keep b o' q' (nold b o q hb)⟩
 .rcases hb with rfl|hb
  .exact ntrk _ _ q
  .exact ntrk _ _ hb
 .obtain⟨oe,vs,T,oT,ts,he,⟨hc,h0⟩,hd,h1,hnT,hTe,hT,hdT,h3⟩:=k3;refine⟨λb ⟨o,q⟩=>F.new b (.inl ⟨o,q,λz=>nomatch z⟩),F.free,oe,vs,a0,he,hc,hd,h0,.inr ⟨T,oT,ts,.none,h1,hTe,hT,hdT,⟨h3,rfl⟩,?_,λb ⟨o,q⟩ z=>?_⟩⟩
  .cases r:H' T with
   |none=>rfl
   |some u =>obtain⟨ob,q⟩:=(I.hok T u r).get;rw[W.hideAll_get _ q (ntrk T u r)]at hnT;cases hnT
  .subst z;obtain⟨o',q'⟩:=un.there b o q (λz=>nomatch z);by_cases hb:b∈frs outer
   .obtain⟨o2,q2,nf⟩:=fr b hb;obtain⟨sl,q3⟩:=slot b hb o2 q2;rw[q3]at hT;cases hT;exact nf ts hdT
   .rw[W.hideAll_get _ q' (nold b o q hb)]at hnT;cases hnT
theorem Nh(I:Inv (qg (CX1 P w) P w K mg base N qual scope f cd A outer s H E) pins σ H' s')(F:FlQ (flF (qg (CX1 P w) P w K mg base N qual scope f cd A outer s H E).env) (Old (qg (CX1 P w) P w K mg base N qual scope f cd A outer s H E) pins) H' s'.heap e C)(hE:E C ah H') :
  (qg (CX1 P w) P w K mg base N qual scope f cd A outer s H E).xe (.ref e) s':=by
 obtain⟨oe,vs,a0,he,hc,hd,h0,hT⟩:=F.obj;have hsN:∀b,(∃o,s.heap.get? b=aa o)->Old (qg (CX1 P w) P w K mg base N qual scope f cd A outer s H E) pins b:=λb ⟨o,q⟩=>.inl ⟨o,q,λz=>nomatch z⟩;have hin:∀(as:List ai),(∀b∈frs (bc qual scope s.heap.objs.size f cd::outer),b∈as)->∀env∈bc qual scope s.heap.objs.size f cd::outer,∀a,env.frame=aa a->a∈as:=λas h env he a ha=>h a (Pn.mpr ⟨env,he,ha⟩);subst hc;rcases hT with h1|⟨T,oT,ts,fl,h1,hTe,hT,hdT,⟨h3,hfl⟩,hTf,hTn⟩
 .let as:=e::frs (bc qual scope s.heap.objs.size f cd::outer)
  have hfa:∀b∈frs (bc qual scope s.heap.objs.size f cd::outer),b∈as:=λb hb=>kj _ hb;refine wpAny_leaving_firstW (base:=W.hideAll s'.heap as) I.ok.frames (W.funFrames_hide I.stack (hin as hfa)) rfl he (λb o q=>W.of_hideAll _ q) (W.hideAll_none _ (X4 ..)) hd h1 h0 λh' hL =>Ba I F hE (λb=>⟨λz=>?_,λz=>z.elim (hfa b) λz=>z.2.2⟩) hfa hL
  rcases xf.mp z with e1|z'
  .subst e1;exact .inr ⟨λq=>F.new _ (hsN _ q) rfl,F.free,z⟩
  .exact .inl z'
 .let as:=e::T::frs (bc qual scope s.heap.objs.size f cd::outer)
  have hfa:∀b∈frs (bc qual scope s.heap.objs.size f cd::outer),b∈as:=λb hb=>kj _ (kj _ hb);have mem:∀b∈as,b∈frs (bc qual scope s.heap.objs.size f cd::outer)\/(¬(∃o,s.heap.get? b=aa o)/\H' b=ah/\b∈as):=λb z=>by
   rcases xf.mp z with e1|z'
   .subst e1;exact .inr ⟨λq=>F.new _ (hsN _ q) rfl,F.free,z⟩
   .rcases xf.mp z' with e1|z2
    .subst e1;exact .inr ⟨λq=>hTn _ (hsN _ q) rfl,hTf,z⟩
    .exact .inl z2
  have tr:s'.heap.TracedAtW (W.hideAll s'.heap as) e oe.cls a0 fl:=⟨oe,vs,T,oT,ts,he,⟨rfl,h0⟩,hd,h1,W.hideAll_none _ (kj _ (X4 ..)),hTe,hT,hdT,h3⟩
  rcases hfl with hfl|⟨L,hfL,hfl⟩
  .subst hfl;exact wpAny_leaving_nextW (base:=W.hideAll s'.heap as) (a0:=a0) I.ok.frames (W.funFrames_hide I.stack (hin as hfa)) rfl tr
    (λb o q=>W.of_hideAll _ q) (W.hideAll_none _ (X4 ..)) λh' hL =>
    Ba I F hE (λb=>⟨mem b,λz=>z.elim (hfa b) λz=>z.2.2⟩) hfa hL
  .subst hfl;show aC _ _ (leaving _ (.ref e)) _ _ s';unfold leaving;refine aw (wpAny_noteFrame_againW (base:=W.hideAll s'.heap as) (a0:=a0) hfL tr ?_);exact wpAny_setFlight_noneW (base:=W.hideAll s'.heap as) (a0:=a0) (λb o q=>W.of_hideAll _ q) (W.funFrames_hide I.stack (hin as hfa)) tr λh' k1 k2 k3 k4 =>Ba I F hE (λb=>⟨mem b,λz=>z.elim (hfa b) λz=>z.2.2⟩) hfa ⟨k1,k2,k3,λb o hb hn=>⟨o.slots,k4 b o hb hn⟩⟩
end
def spX(K:k5g)(mg:k5j)(S:List D->ao->Prop):Sp:=λvs H _ E=>∃ds x C,TabOk K H/\jd K H ds vs/\S ds x/\mg x=aa C/\∀H',jb H H'->E C ah H'
section
variable{P:av}{w:aA}{K:k5g}{mg:k5j}{base:aI}{x qual:ao}{st:aG}{f:ai}{fd:aD}{N ps:List ao}{k:Nat}
theorem j2j{S:List D->ao->Prop}(F:Fun K x qual st f fd)(Sc:FnScope N ps (j0 st))(hl:∀ds y,S ds y->ds.length=ps.length)
  (hbody:∀(cdv:aj)(A:aE)(outer:List cf)(s:aq)(H:Hp)(E:XK),Vm K f cdv->Room k (A.deeper (bc qual (j0 st) s.heap.objs.size f cdv))->∀ds y,S ds y ->
   DSs (qg (CX1 P w) P w K mg base N qual (j0 st) f cdv A outer s H E) (jz N ds) (jh st) { nx:=λ_=>False,rt:=λ_=>False,ex:=λz _=>z=y }):FnOk P w K mg base (CX1 P w) (k+1) f fd ps (spX K mg S):=by
 obtain⟨oc,od,dV,kV,doc,pm,an,cdv,ct,osl,rfl,lk,hcd⟩:=F.ex;refine Fx lk hcd Sc (λvs H Q E ⟨ds,y,C,tb,en,hS,_⟩=>by rw[en.length];exact hl ds y hS) λA outer s H vs Q E hr ⟨ds,y,C,tb,en,hS,hC,hE⟩=>⟨_,zj,?_⟩
 have ho:=Qg N ds;refine hbody cdv A outer s H E ⟨oc,od,_,osl,lk,rfl⟩ hr ds y hS (start N vs) H _ (Qp tb en) ⟨λρ' σ' H' n R f=>n.elim,λ_ _ _ z=>z.elim,λ_ _ _ z=>z.elim,λr v H' n z=>n.elim,λz ρ' σ' H' n R g=>?_⟩;cases(show z=y from n);intro pins H2 s' e C' I g2 hC' Fe;cases hC.symm.trans hC';unfold Fr0 at g;rw[ho,zr]at g;exact Nh I Fe (hE H2 ((g.trans jq).trans g2))
end
def DX(X:Cx)(ρ:Rho)(e:ar)(x:ao):Prop:=∀σ H Q,Rep X.K ρ σ H->Rz X σ H x->vm X e σ H Q
def DXA(X:Cx)(ρ:Rho)(es:List ar)(x:ao):Prop:=∀σ H Q,Rep X.K ρ σ H->Rz X σ H x->Oq X es σ H Q
structure CalX(X:Cx)(x:ao)(sp:Sp):Prop where
 ex:∃(k:Nat)(f:ai)(fd:aD)(ps:List ao),FnOk X.prog X.w X.K X.mg X.base (CX1 X.prog X.w) k f fd ps sp/\Room k X.A/\X.mg x=aa (.ref f)/\W.keepIn X.K (.ref f)=ag/\Binds X.K fd ps []
section
variable{X:Cx}{ρ:Rho}{e:ar}{es:List ar}{f x:ao}{ds:List D}{p pos:aL}{C:aj}
theorem DX.call {S:List D->ao->Prop} (c:CalX X f (spX X.K X.mg S)) (ha:DTA X ρ (e::es) ds) (hS:S ds x) (hC:X.mg x=aa C) (hg:Gl X f) (hdb:(f==k5k)=ae)
  (he:af (e::es) X.env=(ae,az e X.env)::af es X.env) (hpl:(aJ pos (af es X.env)).any (·.1)=ae):DX X ρ (.Call (.Name f p) (e::es) [] pos) x:=λσ H Q R k pins s I=>by
 obtain⟨n,fa,fd,ps,F,hr,hm,hk,hb⟩:=c.ex;refine bx (Z7 I hg hm ?_ hdb);refine W.callWith_K (h₀:=X.base) I.ok.mod.kin hk (thn (ha σ H (λvs H1=>jb H H1/\jd X.K H1 ds vs) R (λvs H1 g e=>⟨g,e⟩) pos pins s I) λus s1 ⟨vs,H1,I1,r,g,en⟩=>⟨I1.kIn,?_⟩) he hpl;have sp:spX X.K X.mg S vs H1 (λ_ _=>False) (λC' _ H'=>C'=C/\jb H1 H'):=⟨ds,x,C,R.tb.mono g,en,hS,hC,λH' g=>⟨rfl,g⟩⟩
 have hl:us.length=ps.length:=by rw[<-r.length];exact F.len _ _ _ _ sp
 have hb':=hb s1 us I1.kIn (by rw[Xp];exact hl);rw[Xp]at hb';refine jJ (cb (F.run X.A X.stack s1 H1 ⟨us,[]⟩ us vs _ _ hr I1.env0 hb' r sp) λr s' hq=>?_);cases r with
 |error ev =>obtain⟨e,C',H',rfl,os,bare,un,hok,fl,rfl,g'⟩:=hq;have I':Inv X pins σ H' s':=I1.call' os un hok bare (λb z=>nomatch z);refine k pins H' s' e C' I' (g.trans g') hC (FlQ.up fl (λ_ z=>.inl z) λb hb=>I1.old hb)
 |ok fl =>
  cases fl with
  |ret u=>obtain⟨_,_,_,_,_,_,_,z⟩:=hq;exact z.elim
  |next=>exact aU hq
  |brk=>exact aU hq
  |cont=>exact aU hq
end
section
variable{X:Cx}{ρ:Rho}{e:ar}{es:List ar}{x:ao}{d:D}{p pos np cpos:aL}{P:Po}{i:Int}{y:ao}{ys:List ao}
theorem DE.fmtI(ha:DT X ρ e (.int i))(hi:i.natAbs.log2<1920):DE X ρ (.FormattedValue e (-1) ah pos) (.str (toString i)):=λσ H Q R q pins s I=>by
 refine eS (thn (ha σ H (λv H1=>v=.int i/\jb H H1) R (λv H1 g e=>⟨e,g⟩) pins s I) λu s1 ⟨v,H1,I1,r,ev,g⟩=>?_);subst ev;obtain⟨t,rfl⟩:=(show ∃t,u=bj i t from r)
 exact formatField_int_small hi ⟨.str (toString i),H1,I1.un (t':=s1.toks+1+1) Un.refl I1.hok,⟨_,rfl⟩,q _ H1 g rfl⟩
theorem DE.fmtS(ha:DT X ρ e (.str y))(hy:y.length<=au):DE X ρ (.FormattedValue e (-1) ah pos) (.str y):=λσ H Q R q pins s I=>by
 refine eS (thn (ha σ H (λv H1=>v=.str y/\jb H H1) R (λv H1 g e=>⟨e,g⟩) pins s I) λu s1 ⟨v,H1,I1,r,ev,g⟩=>?_);subst ev;obtain⟨t,rfl⟩:=(show ∃t,u=bh y t from r)
 exact l7 (λt' tk=>⟨.str y,H1,I1.un (t':=tk) Un.refl I1.hok,⟨_,rfl⟩,q _ H1 g rfl⟩) hy
noncomputable def Ft(out:ao):List ao->ao
 |[]=>out
 |y::ys=>Ft (out++y) ys
def DPs(X:Cx)(ρ:Rho):List ar->List ao->Prop
 |[],[]=>True
 |e::es,y::ys=>DE X ρ e (.str y)/\DPs X ρ es ys
 |_,_=>False
theorem La:∀{es:List ar}{ys:List ao}{out:ao}{n:Nat}{pins:k5i} {σ:St} {H0 H:Hp} {s:aq} {Q:VK},DPs X ρ es ys->(∀y∈ys,y.length<=10000)->out.length+10000*ys.length<=au->Inv X pins σ H s->Rep X.K ρ σ H->jb H0 H ->
  (∀H',jb H0 H'->Q (.str (Ft out ys)) H')->aC (aF X.prog X.w) X.A (joinParts out (evalEach es X.env)) (EP X pins σ Q) X.xe s
 |[],[],out,n,pins,σ,H0,H,s,Q,_,_,hl,I,R,g,q=>joinParts_nil ⟨.str out,H,I.un (t':=s.toks+1) Un.refl I.hok,⟨_,rfl⟩,q H g⟩ (by have:=hl;omega)
 |e::es,y::ys,out,n,pins,σ,H0,H,s,Q,hp,hy,hl,I,R,g,q=>by
  have hy0:=hy y (X4 ..);rw[xg]at hl;refine joinParts_cons (thn (hp.1 σ H (λv H1=>v=.str y/\jb H H1) R (λv H1 g e=>⟨e,g⟩) pins s I) λu s1 ⟨v,H1,I1,r,ev,g1⟩=>?_);subst ev;obtain⟨t,rfl⟩:=(show ∃t,u=bh y t from r)
  have hz:(out++y).length<=out.length+10000:=by rw[strLen_append];omega
  exact⟨by omega,La (n:=n) hp.2 (λz hz=>hy z (kj _ hz)) (by omega) I1 (R.grow g1) (g.trans g1) q⟩
 |[],_::_,_,_,_,_,_,_,_,_,h,_,_,_,_,_,_=>h.elim
 |_::_,[],_,_,_,_,_,_,_,_,h,_,_,_,_,_,_=>h.elim
theorem DE.joined{a b:ar}(h:DPs X ρ (a::b::es) ys)(hy:∀y∈ys,y.length<=10000)(hl:ys.length<=1000):DE X ρ (.JoinedStr (a::b::es) pos) (.str (Ft cB ys)):=λσ H Q R q pins s I =>
 JoinedStr_many (La (n:=0) (out:=cB) h hy (by
  have e:Str.empty.length=0:=rfl
  rw[e,aW];omega) I R (jb.refl H) λH' g=>q _ H' g rfl)
theorem j96{Q:VK}{σ:St}{H:Hp}(he:vm X e σ H Q)(hs:af [e] X.env=[(ae,az e X.env)]):Oq X [e] σ H (λvs H'=>∃v,vs=[v]/\Q v H') :=
 (ji (es:=[]) peS jl hs).to λpins s I=>thn (he pins s I) λu s' ⟨v,H',I',r,q⟩=>⟨v,H',I',r,⟨v,rfl,q⟩⟩
theorem DS.raise{C:ai}{bm bmN:List aj}{newId B Bn nid initId inN:String}(O:OwnCls x C bm newId X.mg X.base)(Fn:ExcBaseFacts Bn newId inN bmN)(hBn:bm.contains (.type Bn)=ag)(FB:ExcBaseFacts B nid initId bm)(hc:X.calm=ag)
  (ha:∀σ H,Rep X.K ρ σ H->vm X e σ H λ_ H'=>jb H H') (hP:P.ex x ρ) (hg:Gl X x) (hdb:(x==k5k)=ae) (he:af [e] X.env=[(ae,az e X.env)])
  : DS X ρ (.Raise (aa (.Call (.Name x np) [e] [] cpos)) ah pos) P:=λσ H E R q pins s I=>by
 obtain⟨tl,N,nm,qn,bs,hdct,sn,sub,ab,col,dd,k0,k1,k2,k3,k5,mN,hC,hN,hni,T⟩:=O.obj;refine wpAny_Raise_call_subU (C:=C) (nm:=nm) (q:=qn) (N:=N) (bs:=bs) (bm:=tl) (hdct:=hdct) (sn:=sn) (sub:=sub) (ab:=ab) (col:=col) (dd:=dd) (k0:=k0) (k1:=k1) (k2:=k2) (k3:=k3) (k5:=k5)
  Fn hBn FB (mN:=mN) (T.hasType FB.hasBase) (I.ok.hd hc) (by rw[he];rfl) hni (Z7 I hg O.bound ⟨rfl,?_⟩ hdb)
 have hsp:=j96 (ha σ H R) he cpos pins s I;rw[he]at hsp ⊢;refine gx (thn hsp λus s2 ⟨vs,H1,I1,r,v,ev,g⟩=>⟨rfl,?_,I1.bk _ _ hC,hN.keeps I1.bk,T.keeps I1.bk,λh' e' hm=>?_⟩)
 .show us.length<=au;rw[<-r.length,ev];show 1<=au;rw[aW];omega
 .have nold:∀b,(∃o,s2.heap.get? b=aa o)->b≠e':=λb ⟨o,q⟩ z=>by rw[z,hm.new]at q;cases q
  obtain⟨t,ht,_,_⟩:=hm.there;refine q.ex x ρ σ H hP R (Fr0.refl _ _) pins H1 { s2 with heap:=h' } e' (.ref C) (I1.un (t':=s2.toks) (Un.kept hm.keeps) (I1.hok.kept hm.keeps)) g O.bound ⟨λb hb=>nold b (I1.old hb),?_,_,_,_,ht,rfl,rfl,rfl,.inl rfl⟩;cases z:H1 e' with
  |none=>rfl
  |some u=>exact absurd rfl (nold e' (I1.hok e' u z).get)
end
end L2
end
section
namespace L2
open PySem PySem.Spec PyProof.Rows
noncomputable def vf:List ao:=["WrongSize","NoAsk","NoWord","Twice","WrongAnswers","Unlike","NoPlace","NoText","WrongPrices","WrongWeights","NoPlan"]
noncomputable def bmV:List aj:=[.type "ValueError",.type "Exception",.type "BaseException",.type "object"]
noncomputable def j3e(K:k5g)(C:ai):Bool:=W.findIn K (.ref C) "__getattribute__" == aa (aa (.builtin "BaseException.__getattribute__"))&&(W.findIn K (.ref C) "__getattr__" == aa ah&&(W.subIn K (.ref C) (.type "BaseException")==aa ag &&
 (W.findIn K (.ref C) "__class__" == aa (aa (.builtin "object.__class__"))&&(W.mroIn K C (.type "object")==aa ag&&((W.clsIn K C).isSome&&W.excIn K C bmV "ValueError.__new__")))))
noncomputable def Wc(K:k5g):Bool:=vf.all λx=>match W.nsIn K ax x with
 |some (aa (.ref C))=>j3e K C&&(W.kitOne K (.ref C) (.type "ValueError")==aa ag&&((match W.nsIn K ax "AskError" with
   |some (aa a)=>W.exmOne K (.ref C) a==aa ag
   |_=>ae)&&vf.all λc=>match W.nsIn K ax c with
   |some (aa v)=>W.kitOne K (.ref C) v==aa (x==c)
   |_=>ag))
 |some (aa _)=>ae
 |_=>ag
structure XcOk(K:k5g)(C:ai):Prop where
 ga:W.findIn K (.ref C) "__getattribute__" = aa (aa (.builtin "BaseException.__getattribute__"))
 gt:W.findIn K (.ref C) "__getattr__" = aa ah
 sub:W.subIn K (.ref C) (.type "BaseException")=aa ag
 cls:W.findIn K (.ref C) "__class__" = aa (aa (.builtin "object.__class__"))
 mro:W.mroIn K C (.type "object")=aa ag
 is:(W.clsIn K C).isSome=ag
 exc:W.excIn K C bmV "ValueError.__new__" = ag
theorem j7c{K:k5g}{C:ai}(h:j3e K C=ag):XcOk K C:=by unfold j3e at h;simp only[Xb,beq_iff_eq]at h;exact⟨h.1,h.2.1,h.2.2.1,h.2.2.2.1,h.2.2.2.2.1,h.2.2.2.2.2.1,h.2.2.2.2.2.2⟩
structure ExOne(K:k5g)(x:ao)(C:ai):Prop where
 ok:XcOk K C
 val:W.kitOne K (.ref C) (.type "ValueError")=aa ag
 ask:∃a,W.nsIn K ax "AskError" = aa (aa a)/\W.exmOne K (.ref C) a=aa ag
 one:∀c∈vf,∀v,W.nsIn K ax c=aa (aa v)->W.kitOne K (.ref C) v=aa (x==c)
theorem j5o{K:k5g}(h:Wc K=ag){x:ao}{o:aj}(hx:x∈vf)(e:W.nsIn K ax x=aa (aa o)):∃C,o=.ref C/\ExOne K x C:=by
 have q:=Xk.mp h x hx;rw[e]at q;cases o with
 |ref C =>
  refine⟨C,rfl,?_⟩;dsimp only at q;simp only[Xb,beq_iff_eq]at q;obtain⟨q1,q2,q3,q4⟩:=q;refine⟨j7c q1,q2,?_,λc hc v ev=>?_⟩
  .split at q3
   .rename_i a ea;exact⟨a,ea,beq_iff_eq.mp q3⟩
   .cases q3
  .have z:=Xk.mp q4 c hc;rw[ev]at z;exact beq_iff_eq.mp z
 |_=>cases q
theorem j8a{K:k5g}{h₀:aI}{C:ai}{bmB:List aj}{newId:String}{x:ao}{mg:k5j}(X:K.In h₀)(hb:mg x=aa (.ref C))(q:W.excIn K C bmB newId=ag):OwnCls x C bmB newId mg h₀:=by
 refine⟨hb,?_⟩;unfold W.excIn at q;split at q
 .rename_i dd cd sl ho;split at q
  .rename_i C' bm k0 k1 k2 k3 n k5 hm hs;simp only[Xb,beq_iff_eq,f6]at q;obtain⟨⟨⟨⟨⟨rfl,rfl⟩,hdel⟩,ht⟩,hok⟩,hni⟩:=q;obtain⟨nm,bs,mro,ns,qn,hd,sn,sub,ab,col,del⟩:=cd;dsimp only at hm hdel hok hni;subst hm hdel;have hsl:sl = #[k0,k1,k2,k3,aa (.builtin n),k5]:=by obtain⟨l⟩:=sl;simp only at hs;rw[hs]
   subst hsl;exact⟨bm,ns,nm,qn,bs,hd,sn,sub,ab,col,dd,k0,k1,k2,k3,k5,_,X _ _ ho,.of_isNs (W.isNs_of_in X hok),W.nsMap_none_of_in X hok hni,W.tail_of_in X ht⟩
  .cases q
 .cases q
theorem DS.raiseE{X:Cx}{ρ:Rho}{e:ar}{x:ao}{o:aj}{np cpos pos:aL}{P:Po}(ha:Wc X.K=ag)(hx:x∈vf)(hn:W.nsIn X.K ax x=aa (aa o))(hb:X.mg x=aa o)(hK:X.K.In X.base)(hc:X.calm=ag)
  (he:∀σ H,Rep X.K ρ σ H->vm X e σ H λ_ H'=>jb H H') (hP:P.ex x ρ) (hg:Gl X x) (hdb:(x==k5k)=ae) (hs:af [e] X.env=[(ae,az e X.env)]):DS X ρ (.Raise (aa (.Call (.Name x np) [e] [] cpos)) ah pos) P:=by
 obtain⟨C,rfl,F⟩:=j5o ha hx hn;exact DS.raise (j8a hK hb F.ok.exc) fj (by decide +kernel) fj hc he hP hg hdb hs
section
variable{X:Cx}{pins pins':k5i}{σ:St}{H:Hp}{s:aq}{xe:k5h}{e:ai}
noncomputable abbrev Cx.hnd(X:Cx)(e:ai):Cx:={ X with A:=X.A.mark (aa (.ref e)),calm:=ae,xe:=λ_ _=>False }
end
structure KindsP(P:av)(w:aA)(K:k5g)(mg:k5j)(base:aI)(f x:ao)(l:List D):Prop where
 ex:∃fa:ai,mg f=aa (.ref fa)/\W.keepIn K (.ref fa)=ag/\∀(A:aE)(outer:List cf)(s:aq)(H:Hp)(e:ai)(o:cw),A.depth+4<eK->A.units+150<aY->Env0 P w K mg base A outer s H->TabOk K H ->
  H e=aa (.frz o (.own e))->W.nsIn K ax x=aa (aa o.cls) ->
  bS (aF P w) A (.call (.ref fa) ⟨[.ref e],[]⟩) (CR CX0 outer P w H s (λv H'=>∃a xs,v=.ref a/\jb H H'/\H a=ah/\H' a=aa (.lst xs)/\jd K (del H' [a]) l xs) E0) s
 nl:qu l=ag
abbrev Kinds(X:Cx)(f x:ao)(l:List D):Prop:=KindsP X.prog X.w X.K X.mg X.base f x l
section
variable{X:Cx}
def jgs:V->Option Int->Option Int->Hp->VK->Prop:=λx lo hi H Q=>∃z,x=.str z/\z.length<=au/\Q (.str (bJ z lo hi)) H
theorem part_of{v:aj}{o:Option Int}(h:eR v o):∃l:Option (Int×jY),v=partValue l/\l.map (·.1)=o:=by
 cases h with
 |none=>exact⟨ah,rfl,rfl⟩
 |int i t=>exact⟨aa (i,t),rfl,rfl⟩
theorem jaf:SlR X jgs:=by intro pins s σ H x v vl vu lo hi sl Q I rx hs pl pu h;obtain⟨z,ex,hz,q⟩:=h;subst ex;obtain⟨t,ev⟩:=rx;subst ev;obtain⟨l,el,ml⟩:=part_of pl;obtain⟨u,eu,mu⟩:=part_of pu;subst el eu ml mu;obtain⟨o,h1,h2,h3⟩:=hs;refine⟨"str",_,PySem.F.slot_str_getitem.lookup,fm s z t,wpAny_getItem_str_slice (l:=l) (u:=u) (st:=ah) ⟨o,h1,h2,h3⟩ rfl ?_⟩;exact post_val_or_str ⟨Xf (Txt.slice_le z _ _) hz,λt' k=>⟨.str _,H,I.tok k,⟨_,rfl⟩,q⟩⟩
theorem Kr:∀{ts:List ao}{us:List aj},Vals (ts.map V.str) us->∃l:List (ao×jY),us=strValues l/\l.map (·.1)=ts
 |[],_,r=>by cases r;exact⟨[],rfl,rfl⟩
 |t::ts,_,r=>by
  cases r with
  |cons a b =>obtain⟨k,e⟩:=a;obtain⟨l,e1,e2⟩:=Kr b;subst e e1 e2;exact⟨(t,k)::l,rfl,rfl⟩
theorem j8f:MtR X "str.join" (λx vs H Q=>∃(sep:ao)(l:ai)(ts:List ao),x=.str sep/\vs=[.ref l]/\SqL X.K H l (ts.map V.str)/\eQ sep ts=ag/\Q (.str (dN sep ts)) H):=by rintro pins s σ H x vs v us Q I rx rv ⟨sep,l,ts,e,e',sq,hok,q⟩;subst e e';obtain⟨t,ev⟩:=rx;subst ev;obtain⟨u,eu,ru⟩:=rv.one;subst eu;cases ru;obtain⟨its,ri,pl,_⟩:=I.list sq;obtain⟨ps,e1,e2⟩:=Kr ri;subst e1 e2;unfold eQ at hok;rw[f6]at hok;exact bX il (fm _ _ _) F.entry_str_join (F.args_str_join_2 _ _) (meets_str_join_list sep t l ps hok) ⟨pl.isList,post_join ps ⟨joinFit_length hok,λt' k=>⟨.str _,H,I.tok k,⟨_,rfl⟩,q⟩⟩⟩
theorem j2y (hc:X.calm=ag):Jg X (.builtin "sum") (λxs H Q=>∃(lst:Bool)(l:ai)(ns:List Int),xs=[.ref l]/\SqB X.K lst H l (ns.map V.int)/\Q (.int ns.sum) H):=by
 rintro pins s σ H xs us Q I r ⟨lst,l,ns,e,sq,q⟩;subst e;obtain⟨u,eu,ru⟩:=vals1 r;subst eu;cases ru;obtain⟨its,rv,pl,_⟩:=I.side sq;have hl:its.length=ns.length:=by rw[<-rv.length,X5]
 have val:∀i v,its.toArray[i]?=aa v->∃t,v=bj (ns.getD i 0) t:=by
  intro i v hv;have hi:i<its.length:=by obtain⟨h,_⟩:=Array.getElem?_eq_some_iff.mp hv;simpa using h
  have hi':i<ns.length:=by omega
  obtain⟨w1,hw,rw1⟩:=rv.get (x:=.int (ns.getD i 0)) (i:=i) (by rw[Xe,kh hi',km,kh hi'];rfl);have:its.toArray[i]?=aa w1:=by simpa using hw
  rw[this]at hv;cases hv;exact rw1
 have tot:preSum (λi=>ns.getD i 0) its.toArray.size=ns.sum:=by rw[preSum_getD,gr (by rw[X6];omega)]
 have fin:∀(o:cw)(s':aq)(t':jY),Moved [s.heap.objs.size] (λa b=>b=a) { s with heap:=s.heap.push o } s'->EP X pins σ Q (.int (preSum (λi=>ns.getD i 0) its.toArray.size) t') s':=λo s' t' mv=>by obtain⟨hh,gg,dd,tt,oo⟩:=s';obtain⟨m1,m2,m3,m4,m5⟩:=mv;cases m2;cases m3;cases m4;rw[tot];refine⟨.int _,H,I.kept (t':=tt) λb o e=>m1 b o ?_ (xn _ e),⟨_,rfl⟩,q⟩;intro z;rw[X7.mp z]at e;exact Xx _ (xm e)
 unfold Yi at pl;cases lst with
 |true =>
  rw[if_pos rfl]at pl;have hlt:l<s.heap.objs.size:=by obtain⟨_,e,_⟩:=pl;exact xm e
  refine jW (dj pl ⟨s.heap.objs.size,[s.heap.objs.size,l],[s.heap.objs.size],_,its.toArray.size,_,_,λi=>ns.getD i 0,rfl,(Walks.list (A:=X.A.in1) (I.ok.hd hc) _ _ (Xa hlt) its.toArray).toS,⟨⟨_,Xc _ rfl,rfl,rfl⟩,pl.push _⟩,?_,val,λs' t' mv=>fin _ s' t' mv⟩);intro b hb;show b<(s.heap.push _).objs.size;rw[Pz];rcases xf.mp hb with z|z
  .rw[z];exact Pj _
  .rw[X7.mp z];exact f9 hlt
 |false =>
  rw[if_neg xu]at pl;have hlt:l<s.heap.objs.size:=by obtain⟨_,e,_⟩:=pl;exact xm e
  refine jW (jI pl ⟨s.heap.objs.size,[s.heap.objs.size,l],[s.heap.objs.size],_,its.toArray.size,_,_,λi=>ns.getD i 0,rfl,(Walks.tuple (A:=X.A.in1) (I.ok.hd hc) _ _ (Xa hlt) its.toArray).toS,⟨⟨_,Xc _ rfl,rfl,rfl⟩,pl.push _⟩,?_,val,λs' t' mv=>fin _ s' t' mv⟩);intro b hb;show b<(s.heap.push _).objs.size;rw[Pz];rcases xf.mp hb with z|z
  .rw[z];exact Pj _
  .rw[X7.mp z];exact f9 hlt
end
section
variable{X:Cx}{ρ:Rho}{a b e:ar}{ds:List D}{i j:Int}{pos p p1 p2:aL}{y z:ao}{lo hi:Option ar}{l u:Option Int}
theorem Vt{K:k5g}{H:Hp}:∀{ts:List ao}{xs:List V},jd K H (ts.map D.str) xs->xs=ts.map V.str
 |[],_,h=>h
 |t::ts,_,⟨x,r,e,h,l⟩=>by subst e;cases(show x=.str t from h);rw[Vt l];rfl
theorem Qz{K:k5g}{H:Hp}:∀{ts:List Int}{xs:List V},jd K H (ts.map D.int) xs->xs=ts.map V.int
 |[],_,h=>h
 |t::ts,_,⟨x,r,e,h,l⟩=>by subst e;cases(show x=.int t from h);rw[Qz l];rfl
theorem DE.lenS (ha:DT X ρ a (.str y)) (hy:y.length<=au) (hm:X.mg "len" = ah) (hg:Gl X "len") (hs:af [a] X.env=[(ae,az a X.env)]):DE X ρ (.Call (.Name "len" p) [a] [] pos) (.int y.length):=λσ H Q R q =>(vg K1 hg hm fS (ji peS jl hs) (by decide) (by decide) hs).to (ha σ H _ R λv H1 g1 e1=>⟨y,by rw[show v=.str y from e1],hy,q _ H1 g1 rfl⟩)
theorem DE.catS(ha:DT X ρ a (.str y))(hb:DT X ρ b (.str z))(hl:y.length+z.length<=au):DE X ρ (.BinOp a .Add b pos) (.str (y++z)):=λσ H Q R q =>(Vr j03 peS peS).to (ha σ H _ R λv H1 g1 e1=>hb σ H1 _ (R.grow g1) λu H2 g2 e2=>⟨y,z,e1,e2,hl,q _ H2 (g1.trans g2) rfl⟩)
theorem DE.ixC{c:Nat}(ha:DT X ρ a (.str y))(hb:DT X ρ b (.int i))(hy:y.length<=au)(h:L2.atI y.cps.toList i=aa c)(hs:Wm b):DE X ρ (.Subscript a b pos) (.str ⟨#[c]⟩):=λσ H Q R q =>(Yu jbz peS peS hs).to (ha σ H _ R λv H1 g1 e1=>hb σ H1 _ (R.grow g1) λu H2 g2 e2=>⟨y,i,c,e1,e2,hy,h,q _ H2 (g1.trans g2) rfl⟩)
theorem DE.sliceS(ha:DT X ρ a (.str y))(hl:DP X ρ lo l)(hu:DP X ρ hi u)(hy:y.length<=au):DE X ρ (.Subscript a (.Slice lo hi ah p2) pos) (.str (bJ y l u)):=λσ H Q R q =>(Rn jaf peS poS poS).to (ha σ H _ R λv H1 g1 e1=>hl σ H1 _ (R.grow g1) λH2 g2=>hu σ H2 _ (R.grow (g1.trans g2)) λH3 g3=>⟨y,e1,hy,q _ H3 (g1.trans (g2.trans g3)) rfl⟩)
theorem DE.int1 {k:Bool} (ha:DT X ρ a (.bl k)) (hm:X.mg "int" = ah) (hg:Gl X "int") (hs:af [a] X.env=[(ae,az a X.env)]):DE X ρ (.Call (.Name "int" p) [a] [] pos) (.int (if k then 1 else 0)):=λσ H Q R q =>(Zm j35 hg hm boot_int (ji peS jl hs) (by decide) (by decide) hs).to (ha σ H _ R λv H1 g1 e1=>.inr ⟨k,by rw[show v=.bl k from e1],q _ H1 g1 rfl⟩)
theorem DE.sum (lst:Bool) {ns:List Int} (ha:DT X ρ a (D.seq lst (ns.map D.int))) (hm:X.mg "sum" = ah) (hc:X.calm=ag) (hg:Gl X "sum") (hs:af [a] X.env=[(ae,az a X.env)]):DE X ρ (.Call (.Name "sum" p) [a] [] pos) (.int ns.sum):=λσ H Q R q =>
 (vg (j2y hc) hg hm boot_sum (ji peS jl hs) (by decide) (by decide) hs).to (ha σ H _ R λv H1 g1 e1=>by
  obtain⟨t,xs,ev,sq,en⟩:=Vb e1
  subst ev
  rw[Qz en]at sq
  exact⟨lst,t,ns,rfl,sq,q _ H1 g1 rfl⟩)
theorem DE.join{sep:ao}{ts:List ao}{n:Nat}{p0:aL}(ha:DT X ρ a (.lst (ts.map D.str)))(hok:eQ sep ts=ag)
  (hfew:((aJ p2 (af [a] X.env)).all (λx=>!x.1)&&(bq p2 (aT [] X.env)).all (λx=>x.1.isSome)&&decide (([a]:List ar).length+([]:List b9).length+(if ([]:List b9).isEmpty then 0 else 1)<30))=ag)
  (hbase:aS (.Constant (.str sep) n p0) "join" X.env (az (.Constant (.str sep) n p0) X.env)=az (.Constant (.str sep) n p0) X.env)
  (hline:(p1.endLine==p2.line)=ag) (hs:af [a] X.env=(ae,az a X.env)::af [] X.env):DE X ρ (.Call (.Attribute (.Constant (.str sep) n p0) "join" p1) [a] [] p2) (.str (dN sep ts)):=λσ H Q R q =>
 (W9 PySem.F.plainAttrs_str il PySem.F.type_str_join j8f Ce (ji peS jl hs) hbase hfew hline hs rfl).to ⟨rfl,ha σ H _ R λv H1 g1 ⟨t,xs,e,sq,en⟩=>⟨sep,t,ts,rfl,by rw[e],by rw[Vt en]at sq;exact sq,hok,q _ H1 g1 rfl⟩⟩
end
section
variable{X:Cx}
theorem j4f:OpR X (b0 .FloorDiv) (rI (λ_ j=>0<j/\j<18446744073709551616) λi j=>.int (i/j)):=opI λi j _ _ _ _ _ hc q=>by
 have e:i/j=i.fdiv j:=by rw[fZ _ (by omega)]
 refine floordiv_int (by omega) (by rw[<-e];exact q) (.inl (PyProof.noPylong_of_log2 ?_));have h2:(2:Nat)^64=18446744073709551616:=by decide
 have:=(lb (n:=j.natAbs) (k:=64) (by omega)).mpr (by rw[h2];omega);omega
end
section
variable{X:Cx}{ρ:Rho}{a b e:ar}{d d':D}{ds:List D}{i j:Int}{pos p p1 p2:aL}{P:Po}
theorem DE.fdivB(ha:DT X ρ a (.int i))(hb:DT X ρ b (.int j))(h:0<j/\j<18446744073709551616):DE X ρ (.BinOp a .FloorDiv b pos) (.int (i/j)):=DE.arI (g:=λi j=>i/j) j4f ha hb h
end
section
variable{prog:av}{w:aA}{A:aE}{E:k5h}{s:aq}{d it vw:ai}{od:cw}{es:Array kF}{ep i:Nat}{ok ov:aj}
theorem j9e {Q:k5h} (ht:s.TypeIs (.ref d) "dict") (lo:(d==dP)=ae)
  (q:Q (.ref s.heap.objs.size) { s with heap:=s.heap.push { cls:=.type "dict_items",data:=.fields #[.ref d] } }):aC (aF prog w) A (call (.builtin "dict.items") [.ref d]) Q E s:=by
 refine kE gN ht F.entry_dict_items ?_ (F.args_dict_items_1 _);unfold iH.«dict.items»;refine aw ?_;unfold Builtin.Dict.noArgs;refine aw (wpAny_notOrdered_dict ht ?_);show aC _ _ (pure d) _ _ s;refine aH ?_;show aC _ _ (Builtin.Dict.showsAll d >>= _) _ _ s;unfold Builtin.Dict.showsAll;rw[if_neg (λz=>by rw[lo]at z;cases z)];exact aw (aH (aw (bO (aH ⟨_,rfl,q⟩))))
end
section
variable{X:Cx}{ρ:Rho}{a b:ar}{es:List ar}{n:Nat}{pos p p1 p2 q1:aL}{ks:List (List Int)}{ds:List D}{k:List Int}
theorem any_range:∀bs:List Bool,(aP bs.length).any (λi=>(bs[i]?).getD ag)=bs.any id
 |[]=>rfl
 |b::bs=>by rw[xg,dn,Py,gu,Py,<-any_range bs];rfl
theorem Kc (hc:X.calm=ag):Jg X (.builtin "any") (λxs H Q=>∃(l:ai)(bs:List Bool),xs=[.ref l]/\SqL X.K H l (bs.map V.bl)/\Q (.bl (bs.any id)) H):=by
 intro pins s σ H xs us Q I r ⟨l,bs,e,sq,q⟩;subst e;obtain⟨u,eu,ru⟩:=vals1 r;subst eu;cases ru;obtain⟨its,rv,pl,_⟩:=I.list sq;have hlt:l<s.heap.objs.size:=by obtain⟨_,_,e,_⟩:=pl;exact xm e
 have hl:its.length=bs.length:=by rw[<-rv.length,X5]
 refine call_any_walk (dj pl.isList ⟨s.heap.objs.size,[s.heap.objs.size,l],[s.heap.objs.size],its.toArray.size,_,_,λi=>(bs[i]?).getD ag,rfl,Walks.list (A:=X.A.in1) (I.ok.hd hc) _ _ (Xa hlt) its.toArray,⟨⟨_,Xc _ rfl,rfl,rfl⟩,pl.isList.push _⟩,?_,λh' tk kp=>?_⟩)
 .intro i v s' Q' E' hv hq;have hi:i<its.length:=by have:=Array.getElem?_eq_some_iff.mp hv;obtain⟨h,_⟩:=this;simpa using h
  have hb:i<bs.length:=by omega
  obtain⟨w1,hw,rw1⟩:=rv.get (x:=.bl bs[i]) (i:=i) (by rw[Xe,kh hb];rfl);have:its.toArray[i]?=aa w1:=by simpa using hw
  rw[this]at hv;cases hv;cases rw1;simp only[kh hb,cT]at hq;exact bN hq
 .have ev:(aP its.toArray.size).any (λi=>(bs[i]?).getD ag)=bs.any id:=by rw[X6,hl];exact any_range bs
  rw[ev];refine⟨.bl _,H,I.kept (t':=tk) λb o e=>kp b o ?_ (xn _ e),rfl,q⟩;intro z;rw[X7.mp z]at e;exact Xx _ (xm e)
theorem DE.any {bs:List Bool} (ha:DT X ρ a (.lst (bs.map D.bl))) (hm:X.mg "any" = ah) (hc:X.calm=ag) (hg:Gl X "any") (hs:af [a] X.env=[(ae,az a X.env)]):DE X ρ (.Call (.Name "any" p) [a] [] pos) (.bl (bs.any id)):=λσ H Q R q =>(vg (Kc hc) hg hm boot_any (ji peS jl hs) (by decide) (by decide) hs).to (ha σ H _ R λv H1 g1 ⟨l,xs,e,sq,en⟩=>⟨l,bs,by rw[e],by rw[Rr en]at sq;exact sq,q _ H1 g1 rfl⟩)
theorem DS.unp{i j:Nat}{x y:ao}{e:ar}{P:Po}{d d':D}(hij:i≠j)(he:DE X ρ e (.tup [d,d']))(h:P.nx ((ρ.set i (.val d)).set j (.val d')))(hc:X.calm=ag)(hN:X.N.Nodup)(hi:X.N[i]?=aa x)(hj:X.N[j]?=aa y)(hx:Loc X.env.scope x)(hy:Loc X.env.scope y)
  (fx:X.fn x=ag\/X.env.scope.names.lookup x=aa .local) (fy:X.fn y=ag\/X.env.scope.names.lookup y=aa .local)
  (hs:ib [.Tuple [.Name x p1,.Name y p2] n q1] e pos.line X.env=pure ae) (hw:ic [.Tuple [.Name x p1,.Name y p2] n q1] e X.env=pure ah) :
  DS X ρ (.Assign [.Tuple [.Name x p1,.Name y p2] n q1] e pos) P:=λσ H E R q=>by
 refine(jb1 peS pgS hs hw).to (he σ H _ R λv H1 g1 e1=>?_);obtain⟨sub,hG⟩:=DG.pair (ρ:=ρ) (q1:=p1) (q2:=p2) (n:=n) (pos:=q1) (d:=d) (d':=d') i j hij hN hi hj hx hy fx fy hc;exact hG σ H1 v _ (R.grow g1) e1 λσ' R'=>q.nx _ σ' H1 h R' (jb.trans (Fr0.grow g1) (Fr0.drop sub))
end
section
variable{X:Cx}{pos pos':aL}{o i value:ar}{td ty tv:TE}
theorem Inv.bigD{pins:k5i}{σ:St}{H:Hp}{s:aq}(I:Inv X pins σ H s):dP<s.heap.objs.size:=by have h:ax<s.heap.objs.size:=(I.mod.glob.keeps I.bk).lt;exact Xq (by decide) h
end
section
variable{X:Cx}{ρ:Rho}{it e:ar}{P:Po}{ds:List D}{x t y:Nat}{nx nt ny:ao}{n8:Nat}{p1 p2 p3 p4 p5 p6 p7 p8 p9 p10 p11 p12 p13 p14 p15 p16 p17 p18:aL}
theorem Y5{H:Hp}{a:ai}{o:HO}(h:H a=aa o):H=upd (del H [a]) a o:=funext λb=>by
 by_cases z:b=a
 .subst z;rw[je];exact h
 .rw[jj z,jc (by simpa using z)]
theorem J2{H:Hp}{a:ai}{o:HO}(h:H a=ah):del (upd H a o) [a]=H:=funext λb=>by
 by_cases z:b=a
 .subst z;rw[qp (by simp)];exact h.symm
 .rw[jc (by simpa using z),jj z]
theorem J6{H F:Hp}{a:ai}{o:HO}(h:H a=aa o):mrg [a] H F=upd F a o:=funext λb=>by
 by_cases z:b=a
 .subst z;rw[J0 (by simp),je];exact h
 .rw[jn (by simpa using z),jj z]
end
noncomputable def j0k:List (List Int)->List D->List Int->Option D
 |k'::ks,d::ds,k=>if k'=k then aa d else j0k ks ds k
 |_,_,_=>ah
section
variable{X:Cx}{ρ:Rho}{it e1 e2:ar}{P:Po}{ds:List D}{x t y:Nat}{nx nt ny:ao}{p1 p2 p3 p4 p5 p6 p10 p11 p12 p14 p16 p17 p18:aL}
theorem Wv:∀ns:List Int,qu (ns.map D.int)=ag
 |[]=>rfl
 |n::ns=>by rw[xx,qu,Wv ns];rfl
end
theorem Og{M:gy}{A:aE}{E:k5h}{s:aq}{β:Type}{a b:Nat}(f:Nat->β->iY (ForInStep β))(I:Nat->β->aq->Prop)(Q:β->aq->Prop)
  (turn:∀i c st,a<=i->i<b->I i c st->aC M A (f i c) (λr s'=>match r with|.yield c'=>I (i+1) c' s'|.done c'=>Q c' s') E st)
  (fin:∀c st,I (max a b) c st->Q c st) (c:β) (h:I a c s):aC M A (forIn [a:b] c f) Q E s:=by
 rw[Std.Legacy.Range.forIn_eq_forIn_range'];have hsz:([a:b]:Std.Legacy.Range).size=b-a:=by simp[Std.Legacy.Range.size]
 show aC M A (forIn (kK a ([a:b]:Std.Legacy.Range).size 1) c f) Q E s;rw[hsz];refine wpAny_forIn_list f (λl c st=>∃i,a<=i/\i<=max a b/\l=kK i (max a b-i) 1/\I i c st) Q ?_ ?_ _ c ⟨a,X3 _,by omega,by congr 1;omega,h⟩
 .rintro x rest c st ⟨i,hai,hib,hl,hI⟩;have hlt:i<max a b:=by
   rcases kI i (max a b)with h'|h'
   .exact h'
   .rw[show max a b-i=0 by omega]at hl;simp at hl
  obtain⟨n,hn⟩:∃n,max a b-i=n+1:=⟨max a b-i-1,by omega⟩
  rw[hn,iQ]at hl;obtain⟨rfl,rfl⟩:=List.cons.inj hl;refine bu (turn x c st hai (by omega) hI) (λr st' h'=>?_) λ_ _ h=>h;cases r with
  |done c'=>exact h'
  |yield c'=>exact⟨x+1,by omega,by omega,by congr 1;omega,h'⟩
 .rintro c st ⟨i,hai,hib,hl,hI⟩;have:i=max a b:=by
   rcases kI i (max a b)with h'|h'
   .obtain⟨n,hn⟩:∃n,max a b-i=n+1:=⟨max a b-i-1,by omega⟩
    rw[hn,iQ]at hl;cases hl
   .omega
  subst this;exact fin c st hI
theorem Fb(l:ai)(items:Array aj)(n:Nat)(dd:Option ai)(sl:Array (Option aj))(x:aj)(e:aj->Bool)(k:Nat)(hk:k<items.size)(h0:∀(j:Nat)(h:j<items.size),j<k->e items[j]=ae)(h1:e items[k]=ag) :
  Meets (iH.«tuple.index» ⟨[.ref l,x],[]⟩)
   (λA R s=>s.heap.get? l=aa { cls:=.type "tuple",dict:=dd,data:=.seq items n,slots:=sl }/\(∀y,y∈items->cy A.in1 s y x (e y))/\R (.ok (.ret (.int k s.toks))) { s with toks:=s.toks+1 }) :=
 .of_wp λprog w A R s h=>by
  obtain⟨hp,g,d,tk,os⟩:=s;obtain⟨hl,he,h⟩:=h
  wp_walk using wpAny_loadPart' hl,Og _ (λi b s'=>b.1=ah/\s'=⟨hp,g,d,tk,os⟩/\i<=k) _
  case turn =>
   rintro i c s'-hi ⟨hb,rfl,hik⟩;have hlt:i<items.size:=by omega
   have hy:items[i]?=aa items[i]:=by simp[hlt]
   rw[hy];refine aw (he items[i] (Array.getElem_mem hlt) prog w _ _ ?_);by_cases z:i=k
   .subst z;rw[h1]
    wp_walk
    exact⟨_,rfl,h⟩
   .rw[h0 i hlt (by omega)]
    wp_walk
    exact⟨rfl,rfl,by omega⟩
  case fin =>rintro c s' ⟨hb,rfl,hik⟩;omega
  case h =>exact⟨rfl,rfl,bM _⟩
section
variable{X:Cx}{ρ:Rho}{a e:ar}{l:List D}{d:D}{p1 pos:aL}
noncomputable def ixD(d:D):List D->Option Nat
 |[]=>ah
 |x::r=>if deq x d=ag then aa 0 else(ixD d r).map (· + 1)
theorem Le{d:D}:∀{l:List D}{k:Nat},ixD d l=aa k->∃x,l[k]?=aa x/\deq x d=ag/\∀j y,j<k->l[j]?=aa y->deq y d=ae
 |[],k,h=>by cases h
 |x::r,k,h=>by
  unfold ixD at h;split at h
  .rename_i z;cases h;exact⟨x,rfl,z,λj y hj=>absurd hj (Nat.not_lt_zero _)⟩
  .rename_i z;cases q:ixD d r with
   |none=>rw[q]at h;cases h
   |some m =>
    rw[q]at h;cases h;obtain⟨y,hy,e,f⟩:=Le q;refine⟨y,hy,e,λj y hj hq=>?_⟩;cases j with
    |zero=>cases hq;simpa using z
    |succ j=>exact f j y (Nat.lt_of_succ_lt_succ hj) hq
theorem N7 (hu:X.A.units+100<aY):MtR X "tuple.index" (λx vs H Q=>∃t xs ds d y k,x=.ref t/\vs=[y]/\SqT X.K H t xs/\jd X.K H ds xs/\Enc X.K H d y/\D.depL ds<=97/\d.dep<10000/\ixD d ds=aa k/\Q (.int (k:Nat)) H):=by
 rintro pins s σ H x vs v us Q I rx rv ⟨t,xs,ds,d,y,k,e,e',sq,l,en,hd,nd,hk,q⟩;subst e e';cases rx;obtain⟨u,eu,ru⟩:=rv.one;subst eu;obtain⟨its,ri,⟨⟨cl,dd,da,sl⟩,h1,h2,n,h3⟩,_⟩:=I.tuple sq;have h2:cl=.type "tuple":=h2;have h3:da=.seq its.toArray n:=h3;subst h2 h3;obtain⟨z,hz,ez,fz⟩:=Le hk;have ll:=l.length;have rl:=ri.length;have hks:k<its.toArray.size:=by have:=(Xh.mp hz).1;simp;omega
 have at_:∀(j:Nat)(h:j<its.toArray.size)(z:D),ds[j]?=aa z->eqW X H d its.toArray[j]=deq z d:=λj h z hz=>by
  obtain⟨x,hx,ex⟩:=l.get hz;obtain⟨w,hw,rw⟩:=ri.get hx;have g1:its.toArray[j]=w:=by simp at h ⊢;rw[kh (by simpa using h)]at hw;exact aB hw
  have:=D.depL_le hz;rw[g1];exact O5 I (by omega) ex rw
 refine bX df ⟨_,h1,rfl⟩ F.entry_tuple_index (F.args_tuple_index_2 _ _) (Fb t its.toArray n dd sl u (eqW X H d) k hks (λj h hj=>?_) (by rw[at_ k hks z hz];exact ez))
  ⟨h1,λy hy=>Yd (n:=97) I en ru nd (by show X.A.units+1+97<aY;omega) hd l ri y (by simpa using hy),⟨.int _,H,I.tok _,⟨_,rfl⟩,q⟩⟩
 have hlt:j<ds.length:=by simp at h;omega
 rw[at_ j h ds[j] (kh hlt)];exact fz j _ hj (kh hlt)
theorem DE.indexT {b:ar} {ds:List D} {k:Nat} {p2:aL} (hu:X.A.units+100<aY) (ha:DT X ρ a (.tup ds)) (hb:DT X ρ b d) (hd:D.depL ds<=97) (nd:d.dep<10000) (hk:ixD d ds=aa k) (hbase:aS a "index" X.env (az a X.env)=az a X.env)
  (hfew:((aJ p2 (af [b] X.env)).all (λx=>!x.1)&&(bq p2 (aT [] X.env)).all (λx=>x.1.isSome)
   && decide (([b]:List ar).length+([]:List b9).length+(if ([]:List b9).isEmpty then 0 else 1)<30))=ag) (hline:(p1.endLine==p2.line)=ag)
  (hs:af [b] X.env=(ae,az b X.env)::af [] X.env):DE X ρ (.Call (.Attribute a "index" p1) [b] [] p2) (.int (k:Nat)):=λσ H Q R q =>
 (W9 fE df fC (N7 hu) peS (ji peS jl hs) hbase hfew hline hs rfl).to (ha σ H _ R λv H1 g1 ⟨t,xs,e,sq,l⟩=>⟨by rw[e];exact .inr (.inl ⟨rfl,xs,sq⟩),hb σ H1 _ (R.grow g1) λu H2 g2 e2 =>
  ⟨t,xs,ds,d,u,k,e,rfl,g2.seqT sq,l.mono g2,e2,hd,nd,hk,q _ H2 (g1.trans g2) rfl⟩⟩)
end
noncomputable def j6w(l:List (List Int))(i j:Nat):Bool:=HT.lexLt (l.getD i []) (l.getD j [])
noncomputable def dval(kvs:List (ao×Int))(k:ao):Option Int:=(kvs.find? λp=>decide (p.1=k)).map λp=>p.2
noncomputable def qz(kvs:List (ao×Int))(k:ao):Bool:=kvs.any λp=>decide (p.1=k)
noncomputable def dput(kvs:List (ao×Int))(k:ao)(n:Int):List (ao×Int):=if qz kvs k=ag then kvs.map λp=>if p.1=k then(p.1,n)else p else kvs++[(k,n)]
theorem j5q{kvs:List (ao×Int)}{k:ao}{n:Int}:(dput kvs k n).length<=kvs.length+1:=by
 unfold dput;split
 .rw[X5];omega
 .rw[X8];simp
theorem Z8{p:ao×Int}{kvs:List (ao×Int)}{vs:List (Key×aj)}(r:KV (kvI (p::kvs)) vs):∃t qs,vs=(.inr p.1,.int p.2 t)::qs/\KV (kvI kvs) qs:=by
 have r':KV ((.inr p.1,.int p.2)::kvI kvs) vs:=r;unfold KV at r';cases r' with
 |@cons _ q _ qs h t =>
  obtain⟨h1,h2⟩:=h;obtain⟨q1,q2⟩:=q;obtain⟨tk,e⟩:=(show ∃t,q2=bj p.2 t from h2)
  have h1:bg p.1=q1:=h1;subst h1 e;exact⟨tk,qs,rfl,t⟩
theorem Ut:∀{kvs:List (ao×Int)} {vs:List (Key×aj)},KV (kvI kvs) vs->vs.length=kvs.length
 |[],vs,r=>by have r':KV ([]:List (Key×V)) vs:=r;unfold KV at r';cases r';rfl
 |p::kvs,vs,r=>by obtain⟨t,qs,e,r'⟩:=Z8 r;subst e;rw[xg,xg,Ut r']
theorem Us{vs:List (Key×aj)}(r:KV (kvI []) vs):vs=[]:=by have:=Ut r;exact List.length_eq_zero_iff.mp this
theorem j26{k:ao}{n:Int}:∀{kvs:List (ao×Int)} {vs:List (Key×aj)},KV (kvI kvs) vs->dval kvs k=aa n->∃t,iE vs (.inr k)=aa (.int n t)
 |[],_,_,h=>by cases h
 |p::kvs,vs,r,h=>by
  obtain⟨t,qs,e,r'⟩:=Z8 r;subst e;unfold dval at h;rw[bU]at h;by_cases z:p.1=k
  .rw[decide_eq_true z]at h;cases h;exact⟨t,by simp[iE,bU,z]⟩
  .rw[decide_eq_false z]at h;obtain⟨t',e'⟩:=j26 (kvs:=kvs) r' h;refine⟨t',?_⟩;rw[<-e'];have z':¬((bg p.1:Key)=bg k):=λy=>z (dw y);simp[iE,bU,z']
theorem j27{k:ao}:∀{kvs:List (ao×Int)} {vs:List (Key×aj)},KV (kvI kvs) vs->(vs.any λkv=>decide (kv.1=(bg k:Key)))=qz kvs k
 |[],_,r=>by rw[Us r];rfl
 |p::kvs,vs,r=>by
  obtain⟨t,qs,e,r'⟩:=Z8 r;subst e;have ih:=j27 (k:=k) r';unfold qz at ih ⊢;rw[Py,Py,ih];congr 1;by_cases z:p.1=k
  .simp[z]
  .have z':¬((bg p.1:Key)=bg k):=λy=>z (dw y);rw[decide_eq_false z,decide_eq_false z']
theorem Ik{k:ao}{n:Int}{u:aj}(ru:RelV (.int n) u):∀{kvs:List (ao×Int)} {vs:List (Key×aj)},KV (kvI kvs) vs ->
  KV (kvI (kvs.map λp=>if p.1=k then(p.1,n)else p)) (vs.map λkv=>if kv.1=(bg k:Key) then(kv.1,u)else kv)
 |[],_,r=>by rw[Us r];exact Paired.nil
 |p::kvs,vs,r=>by
  obtain⟨t,qs,e,r'⟩:=Z8 r;subst e;have ih:=Ik (k:=k) ru r';by_cases z:p.1=k
  .have z':(bg p.1:Key)=bg k:=congrArg _ z;rw[xx,xx,if_pos z,if_pos z'];exact Paired.cons ⟨rfl,ru⟩ ih
  .have z':¬((bg p.1:Key)=bg k):=λy=>z (dw y);rw[xx,xx,if_neg z,if_neg z'];exact Paired.cons ⟨rfl,t,rfl⟩ ih
theorem Ij{p:ao×Int}{u:aj}(ru:RelV (.int p.2) u):∀{kvs:List (ao×Int)} {vs:List (Key×aj)},KV (kvI kvs) vs->KV (kvI (kvs++[p])) (vs++[(.inr p.1,u)])
 |[],_,r=>by rw[Us r];exact Paired.cons ⟨rfl,ru⟩ Paired.nil
 |q::kvs,vs,r=>by obtain⟨t,qs,e,r'⟩:=Z8 r;subst e;exact Paired.cons ⟨rfl,t,rfl⟩ (Ij ru r')
theorem jbt{k:ao}{n:Int}{u:aj}{kvs:List (ao×Int)}{vs:List (Key×aj)}(r:KV (kvI kvs) vs)(ru:RelV (.int n) u):KV (kvI (dput kvs k n)) (stored vs (.inr k) u):=by
 unfold dput stored;rw[j27 r];by_cases z:qz kvs k=ag
 .rw[if_pos z,if_pos z];exact Ik ru r
 .rw[if_neg z,if_neg z];exact Ij (p:=(k,n)) ru r
section
variable{X:Cx}{ρ:Rho}{a b e k:ar}{rest:List aG}{P:Po}{kvs:List (ao×Int)}{z:ao}{n:Int}{i j:Nat}{nx ny:ao}{pos pos' p p1 p2 p3 p4 p5 p6 p7 p8:aL}{td ty tv:TE}{o value:ar}
theorem Fy{pins:k5i}{σ:St}{H:Hp}{s:aq}{d:ai}(I:Inv X pins σ H s)(hx:H d=aa (.dK (kvI kvs))):kvs.length<=au/\(d==dP)=ae/\∃vs,KV (kvI kvs) vs/\s.heap.DictOf (Yc X.prog X.w) d vs:=by
 obtain⟨z1,z2,z3⟩:=(show jo X.prog X.w H s.heap d (.dK (kvI kvs))from I.hok _ _ hx)
 exact⟨by simpa [kvI]using z1,z2,z3⟩
theorem jf0:IxR X (λx y H Q=>∃(d:ai)(kvs:List (ao×Int)) (k:ao) (n:Int),x=.ref d/\y=.str k/\H d=aa (.dK (kvI kvs))/\dval kvs k=aa n/\Q (.int n) H):=by intro value slice pins s σ H x y v u Q I rx ry h hs;obtain⟨d,kvs,k,n,rfl,rfl,hx,hv,q⟩:=h;cases rx;obtain⟨t,rfl⟩:=ry;obtain⟨hz,hd,vs,rel,dd⟩:=Fy I hx;obtain⟨t',hw⟩:=j26 rel hv;exact lG dd.typeIs slot_dict_getitem.lookup (wpAny_getItem_of (Vz X.prog X.w k t) dd.mapOf hw ⟨.int n,H,I.tok _,⟨_,rfl⟩,q⟩) hs
def ja7:TE:=λ_ H Q=>∀p,H p=ah->Q (.ref p) (upd H p (.dK (kvI [])))
theorem j4c:PE X (.Dict [] [] pos) ja7:=λpins s σ H Q I h =>
 wpAny_Dict_empty ⟨.ref s.heap.objs.size,_,I.laid (a:=s.heap.objs.size) (o:=.dK (kvI [])) (t':=s.toks) (λ_ _ q=>xn _ q) (X3 _)
  ⟨bM _,beq_eq_false_iff_ne.mpr (ba (Xa I.bigD)),[],Paired.nil,Heap.DictOf.new s.heap⟩,rfl,h _ (I.hok.fresh (X3 _))⟩
def jap(td ty tv:TE):TS:=λD σ H=>tv σ H λv H1=>td σ H1 λx H2=>ty σ H2 λy H3 =>∃(d:ai)(kvs:List (ao×Int)) (k:ao) (n:Int),x=.ref d/\H3 d=aa (.dK (kvI kvs))/\y=.str k/\v=.int n/\kvs.length<au/\D.nx σ (upd H3 d (.dK (kvI (dput kvs k n))))
theorem j47(ho:PE X o td)(hi:PE X k ty)(hv:PE X value tv)(hs:aO value (aa (.Subscript o k pos')) pos.line X.env=pure ae) :
  PS X (.Assign [.Subscript o k pos'] value pos) (jap td ty tv):=by
 intro pins s σ H D I h;refine wpAny_Assign_Subscript (thn (hv pins s σ H _ I h) λr s1 ⟨v,H1,I1,rv,q1⟩=>thn (ho pins s1 σ H1 _ I1 q1) λu s2 ⟨x,H2,I2,rx,q2⟩=>thn (hi pins s2 σ H2 _ I2 q2) λiv s3 ⟨y,H3,I3,ry,hq⟩=>?_) hs;obtain⟨d,kvs,k,n,ex,hx,ey,ev,hl,q⟩:=hq;subst ex ey ev;cases rx;obtain⟨t,rfl⟩:=ry;obtain⟨hz,hd,vs,rel,dd⟩:=Fy I3 hx;refine wpAny_setItem_pairs (hsz:=by rw[Ut rel];exact hz) (Vz X.prog X.w k t) dd λh' dd' sb=>?_;have he:∃q,h'.get? d=aa q:=let ⟨q,_,_,hq,_⟩:=dd';⟨q,hq⟩;have hl':(dput kvs k n).length<=au:=by have:=j5q (kvs:=kvs) (k:=k) (n:=n);omega
 exact⟨σ,_,I3.write (x:=d) (e:=d) (o:=.dK (kvI (dput kvs k n))) (t':=s3.toks+1) (by rw[hx];exact True.intro) (.inl rfl) (λb q hb z=>(sb.2 b hb).trans z) he ⟨by simpa [kvI]using hl',hd,_,jbt rel rv,dd'⟩,q⟩
theorem j20 (hu:X.A.units+100<aY):MtR X "list.index" (λx vs H Q=>∃t xs ds d y k,x=.ref t/\vs=[y]/\SqL X.K H t xs/\jd X.K H ds xs/\Enc X.K H d y/\D.depL ds<=97/\d.dep<10000/\ixD d ds=aa k/\Q (.int (k:Nat)) H):=by
 rintro pins s σ H x vs v us Q I rx rv ⟨t,xs,ds,d,y,k,e,e',sq,l,en,hd,nd,hk,q⟩;subst e e';cases rx;obtain⟨u,eu,ru⟩:=rv.one;subst eu;obtain⟨its,ri,⟨⟨cl,dd,da,sl⟩,n,h1,h2,h4,h3⟩,hz0⟩:=I.list sq;have h2:cl=.type "list":=h2;have h3:da=.seq its.toArray n:=h3;subst h2 h3;obtain⟨z,hz,ez,fz⟩:=Le hk;have ll:=l.length;have rl:=ri.length;have hks:k<its.toArray.size:=by have:=(Xh.mp hz).1;simp;omega
 have at_:∀(j:Nat)(h:j<its.toArray.size)(z:D),ds[j]?=aa z->eqW X H d its.toArray[j]=deq z d:=λj h z hz=>by
  obtain⟨x,hx,ex⟩:=l.get hz;obtain⟨w,hw,rw⟩:=ri.get hx;have g1:its.toArray[j]=w:=by simp at h ⊢;rw[kh (by simpa using h)]at hw;exact aB hw
  have:=D.depL_le hz;rw[g1];exact O5 I (by omega) ex rw
 have hn:=Ye;have hks':k<its.length:=by simpa using hks
 refine bX gJ ⟨_,h1,rfl⟩ F.entry_list_index (F.args_list_index_2 _ _) (SeqAt.list_indexAt t its.toArray n dd sl u (eqW X H d) k hks (by omega) (by rw[at_ k hks z hz];exact ez) (λj h hj=>?_))
  ⟨h1,λy hy=>Yd (n:=97) I en ru nd (by show X.A.units+1+97<aY;omega) hd l ri y (by simpa using hy),⟨.int _,H,I.tok _,⟨_,rfl⟩,q⟩⟩
 have hlt:j<ds.length:=by simp at h;omega
 rw[at_ j h ds[j] (kh hlt)];exact fz j _ hj (kh hlt)
theorem DE.indexL {ds:List D} {d:D} {k':Nat} (hu:X.A.units+100<aY) (ha:DT X ρ a (.lst ds)) (hb:DT X ρ b d) (hd:D.depL ds<=97) (nd:d.dep<10000) (hk:ixD d ds=aa k') (hbase:aS a "index" X.env (az a X.env)=az a X.env)
  (hfew:((aJ p2 (af [b] X.env)).all (λx=>!x.1)&&(bq p2 (aT [] X.env)).all (λx=>x.1.isSome)
   && decide (([b]:List ar).length+([]:List b9).length+(if ([]:List b9).isEmpty then 0 else 1)<30))=ag) (hline:(p1.endLine==p2.line)=ag)
  (hs:af [b] X.env=(ae,az b X.env)::af [] X.env):DE X ρ (.Call (.Attribute a "index" p1) [b] [] p2) (.int (k':Nat)):=λσ H Q R q =>
 (W9 cN gJ PySem.F.type_list_index (j20 hu) peS (ji peS jl hs) hbase hfew hline hs rfl).to (ha σ H _ R λv H1 g1 ⟨t,xs,e,sq,l⟩=>⟨by rw[e];exact .inl ⟨rfl,xs,sq⟩,hb σ H1 _ (R.grow g1) λu H2 g2 e2 =>
  ⟨t,xs,ds,d,u,k',e,rfl,g2.seq sq,l.mono g2,e2,hd,nd,hk,q _ H2 (g1.trans g2) rfl⟩⟩)
end
section
variable{X:Cx}{ρ:Rho}{a e:ar}{es:List ar}{x:ao}{d:D}{p p1 p2 pos:aL}{y:ao}{ds:List D}
theorem M4{M:gy}{A:aE}{E:k5h}{s:aq}{env:cf}{value:ar}{pos:aL}{Q:k5h}
  (h:aC M A (az value env) (λv s₁=>aC M A (pyReprObj v) (λr s₂=>aC M A (formatField r cB) Q E s₂) E s₁) E s) :
  aC M A (az (.FormattedValue value 114 ah pos) env) Q E s:=by
 rw[arm_eval_FormattedValue];refine aw (bu h (λv s₁ h₁=>?_) λ_ _ x=>x);refine aw (hZ ?_);show aC _ _ (do let v' <-dk [v] (pyReprObj v);formatField v' cB) Q E s₁;exact aw (lK h₁)
theorem DE.fmtR(ha:DT X ρ e (.str y))(hy:(c9 y).length<=au):DE X ρ (.FormattedValue e 114 ah pos) (.str (c9 y)):=λσ H Q R q pins s I=>by
 refine M4 (thn (ha σ H (λv H1=>v=.str y/\jb H H1) R (λv H1 g e=>⟨e,g⟩) pins s I) λu s1 ⟨v,H1,I1,r,ev,g⟩=>?_);subst ev;obtain⟨t,rfl⟩:=(show ∃t,u=bh y t from r)
 refine wpAny_pyReprObj_gives (fm s1 y t) F.slot_str_repr F.entry_str_repr (F.args_str_repr_1 _) (gives_str_repr y t) ?_ rfl hy;exact l7 (λt' tk=>⟨.str (c9 y),H1,I1.un (t':=tk) Un.refl I1.hok,⟨_,rfl⟩,q _ H1 g rfl⟩) hy
theorem Rz.grow{σ:St}{H H':Hp}(k:Rz X σ H x)(g:jb H H'):Rz X σ H' x:=λpins H2 s' e C I g2 hC Fe=>k pins H2 s' e C I (g.trans g2) hC Fe
theorem DXA.head(ha:DX X ρ a x)(hs:af (a::es) X.env=(ae,az a X.env)::af es X.env):DXA X ρ (a::es) x:=λσ H Q R k =>(ji peS paS hs).to (ha σ H _ R k)
theorem DXA.tail(ha:DT X ρ a d)(h:DXA X ρ es x)(hs:af (a::es) X.env=(ae,az a X.env)::af es X.env):DXA X ρ (a::es) x:=λσ H Q R k =>(ji peS paS hs).to (ha σ H _ R λv H1 g _=>h σ H1 _ (R.grow g) (k.grow g))
theorem DX.args {f:ao} (ha:DXA X ρ (e::es) x) (hg:Gl X f) (hdb:(f==k5k)=ae) {fa:ai} (hfa:X.mg f=aa (.ref fa)) (hk:W.keepIn X.K (.ref fa)=ag)
  (he:af (e::es) X.env=(ae,az e X.env)::af es X.env) (hpl:(aJ pos (af es X.env)).any (·.1)=ae):DX X ρ (.Call (.Name f p) (e::es) [] pos) x:=λσ H Q R k pins s I=>by
 refine bx (Z7 I hg hfa ?_ hdb);exact W.callWith_K (h₀:=X.base) I.ok.mod.kin hk (thn (ha σ H (λ_ _=>False) R k pos pins s I) λus s1 ⟨vs,H1,I1,r,z⟩=>z.elim) he hpl
end
noncomputable def Y0:List Int->Int
 |[]=>0
 |a::r=>r.foldl max a
theorem Nk:∀(r:List Int)(a:Int),r.foldl max a∈a::r/\∀b∈a::r,b<=r.foldl max a
 |[],a=>⟨X7.mpr rfl,λb hb=>by rw[X7.mp hb];exact lj _⟩
 |c::r,a=>by
  rw[dB];obtain⟨h1,h2⟩:=Nk r (max a c);refine⟨?_,λb hb=>?_⟩
  .rcases xf.mp h1 with z|z
   .rw[z];by_cases q:a<=c
    .rw[Int.max_eq_right q];exact kj _ X4
    .rw[Int.max_eq_left (by omega)];exact X4
   .exact kj _ (kj _ z)
  .have l:=h2 (max a c) X4;rcases xf.mp hb with z|z
   .rw[z];omega
   .rcases xf.mp z with z|z
    .rw[z];omega
    .exact h2 b (kj _ z)
theorem Cr{ns:List Int}(h:ns≠[]):Y0 ns∈ns/\∀b∈ns,b<=Y0 ns:=by
 cases ns with
 |nil=>exact absurd rfl h
 |cons a r=>exact Nk r a
theorem j8h{ns:List Int}{M:Int}(h1:M∈ns)(h2:∀a∈ns,a<=M):Y0 ns=M:=by
 have hn:ns≠[]:=λe=>by rw[e]at h1;exact nomatch h1
 obtain⟨a,b⟩:=Cr hn;have:=h2 _ a;have:=b _ h1;omega
noncomputable def Ur(ns:List Int):Int:=-Y0 (ns.map λn=>-n)
theorem j4l{ns:List Int}(h:ns≠[]):Ur ns∈ns/\∀b∈ns,Ur ns<=b:=by
 obtain⟨h1,h2⟩:=Cr (ns:=ns.map λn=>-n) (by simpa using h);obtain⟨a,ha,e⟩:=Xn.mp h1;unfold Ur;refine⟨?_,λb hb=>?_⟩
 .rw[<-e,Int.neg_neg];exact ha
 .have:=h2 _ (Xn.mpr ⟨b,hb,rfl⟩);omega
theorem j8g{ns:List Int}{M:Int}(h1:M∈ns)(h2:∀a∈ns,M<=a):Ur ns=M:=by
 obtain⟨a,b⟩:=j4l (ns:=ns) λe=>by rw[e]at h1;exact nomatch h1
 have:=h2 _ a;have:=b _ h1;omega
section
variable{X:Cx}{ρ:Rho}{a b e:ar}{es:List ar}{x y:ao}{d:D}{i j:Int}{p p1 p2 p3 p4 pk pos:aL}{ds:List D}
theorem j6d{pins:k5i}{s:aq}{σ:St}{H:Hp}{l:ai}{ns:List Int}(I:Inv X pins σ H s)(sq:SqL X.K H l (ns.map V.int))(hne:ns≠[]):∃zs,s.heap.IsList l (eN zs)/\0<zs.size/\zs.size=ns.length/\∀i,i<zs.size->gb zs i=ns.getD i 0:=by
 obtain⟨its,rv,pl,_⟩:=I.list sq;have hl:its.length=ns.length:=by rw[<-rv.length,X5]
 have val:∀(i:Nat)(v:aj),its[i]?=aa v->∃t,v=bj (ns.getD i 0) t:=by
  intro i v hv;have hi:i<its.length:=(Xh.mp hv).1;have hi':i<ns.length:=by omega
  obtain⟨w1,hw,rw1⟩:=rv.get (x:=.int (ns.getD i 0)) (i:=i) (by rw[Xe,kh hi',km,kh hi'];rfl);rw[hw]at hv;cases hv;exact rw1
 have hall:AllInts its.toArray:=by intro v hv;obtain⟨i,hi,e⟩:=List.mem_iff_getElem.mp (show v∈its by simpa using hv);obtain⟨t,e'⟩:=val i v (by rw[kh hi,e]);exact⟨_,t,e'⟩
 obtain⟨zs,hz⟩:=hall.items;have pl':=pl.isList;rw[hz]at pl';have hsz:0<zs.size:=by
  have:its.toArray.size=(eN zs).size:=by rw[hz]
  have h1:0<ns.length:=List.length_pos_iff.mpr hne;simp[eN]at this;omega
 have hns:∀i,i<zs.size->gb zs i=ns.getD i 0:=by
  intro i hi;obtain⟨v1,e1⟩:∃v,(eN zs)[i]?=aa v:=⟨_,Array.getElem?_eq_getElem (by simpa [eN]using hi)⟩
  obtain⟨t,ht⟩:=iX e1;rw[<-hz]at e1;obtain⟨t',ht'⟩:=val i _ (by simpa using e1);rw[ht]at ht';exact(Value.int.inj ht').1
 have len:zs.size=ns.length:=by
  have:its.toArray.size=(eN zs).size:=by rw[hz]
  simp[eN]at this;omega
 exact⟨zs,pl',hsz,len,hns⟩
theorem j31 (hc:X.calm=ag):Jg X (.builtin "max") (λxs H Q=>∃(l:ai)(ns:List Int),xs=[.ref l]/\SqL X.K H l (ns.map V.int)/\ns≠[]/\Q (.int (Y0 ns)) H):=by
 rintro pins s σ H xs us Q I r ⟨l,ns,e,sq,hne,q⟩;subst e;obtain⟨u,eu,ru⟩:=vals1 r;subst eu;cases ru;obtain⟨zs,pl',hsz,len,hns⟩:=j6d I sq hne;refine max_intList (I.ok.hd hc) pl' hsz λv h' tk hv hk=>?_;obtain⟨t,rfl⟩:=iX hv;obtain⟨h1,h2⟩:=argBest_gt (gb zs) (zs.size-1);have hM:Y0 ns=gb zs (argBest (λi j=>decide (gb zs i>gb zs j)) (zs.size-1)):=by
  refine j8h ?_ λc hc=>?_
  .rw[hns _ (by omega)];rw[km,kh (by omega)];exact tu _
  .obtain⟨k,hk,rfl⟩:=List.mem_iff_getElem.mp hc;have:=h2 k (by omega);rw[hns k (by omega),km,kh hk]at this;exact this
 rw[hM]at q;exact⟨.int _,H,I.kept hk,⟨t,rfl⟩,q⟩
theorem j2z (hc:X.calm=ag):Jg X (.builtin "min") (λxs H Q=>∃(l:ai)(ns:List Int),xs=[.ref l]/\SqL X.K H l (ns.map V.int)/\ns≠[]/\Q (.int (Ur ns)) H):=by
 rintro pins s σ H xs us Q I r ⟨l,ns,e,sq,hne,q⟩;subst e;obtain⟨u,eu,ru⟩:=vals1 r;subst eu;cases ru;obtain⟨zs,pl',hsz,len,hns⟩:=j6d I sq hne;refine min_intList (I.ok.hd hc) pl' hsz λv h' tk hv hk=>?_;obtain⟨t,rfl⟩:=iX hv;obtain⟨h1,h2⟩:=argBest_lt (gb zs) (zs.size-1);have hM:Ur ns=gb zs (argBest (λi j=>decide (gb zs i<gb zs j)) (zs.size-1)):=by
  refine j8g ?_ λc hc=>?_
  .rw[hns _ (by omega)];rw[km,kh (by omega)];exact tu _
  .obtain⟨k,hk,rfl⟩:=List.mem_iff_getElem.mp hc;have:=h2 k (by omega);rw[hns k (by omega),km,kh hk]at this;exact this
 rw[hM]at q;exact⟨.int _,H,I.kept hk,⟨t,rfl⟩,q⟩
theorem DE.max2 (ha:DT X ρ a (.int i)) (hb:DT X ρ b (.int j)) (hm:X.mg "max" = ah) (hc:X.calm=ag) (hg:Gl X "max") (hs:af [a,b] X.env=(ae,az a X.env)::af [b] X.env) (hs2:af [b] X.env=(ae,az b X.env)::af [] X.env)
  (hpl:(aJ pos (af [b] X.env)).any (·.1)=ae):DE X ρ (.Call (.Name "max" p) [a,b] [] pos) (.int (if j>i then j else i)):=λσ H Q R q =>
 (vg (j32 hc) hg hm boot_max (ji peS (ji peS jl hs2) hs) (by decide) (by decide) hs hpl).to (ha σ H _ R λv H1 g1 e1=>hb σ H1 _ (R.grow g1) λu H2 g2 e2=>⟨i,j,by rw[show v=.int i from e1,show u=.int j from e2],q _ H2 (g1.trans g2) rfl⟩)
theorem DE.maxL {ns:List Int} (ha:DT X ρ a (.lst (ns.map D.int))) (hn:ns≠[]) (hm:X.mg "max" = ah) (hc:X.calm=ag) (hg:Gl X "max") (hs:af [a] X.env=[(ae,az a X.env)]):DE X ρ (.Call (.Name "max" p) [a] [] pos) (.int (Y0 ns)):=λσ H Q R q =>(vg (j31 hc) hg hm boot_max (ji peS jl hs) (by decide) (by decide) hs).to (ha σ H _ R λv H1 g1 ⟨l,xs,e,sq,en⟩=>⟨l,ns,by rw[e],by rw[Qz en]at sq;exact sq,hn,q _ H1 g1 rfl⟩)
theorem DE.minL {ns:List Int} (ha:DT X ρ a (.lst (ns.map D.int))) (hn:ns≠[]) (hm:X.mg "min" = ah) (hc:X.calm=ag) (hg:Gl X "min") (hs:af [a] X.env=[(ae,az a X.env)]):DE X ρ (.Call (.Name "min" p) [a] [] pos) (.int (Ur ns)):=λσ H Q R q =>(vg (j2z hc) hg hm boot_min (ji peS jl hs) (by decide) (by decide) hs).to (ha σ H _ R λv H1 g1 ⟨l,xs,e,sq,en⟩=>⟨l,ns,by rw[e],by rw[Qz en]at sq;exact sq,hn,q _ H1 g1 rfl⟩)
end
noncomputable def ch1(c:Nat):ao:=⟨#[c]⟩
noncomputable def chs(y:ao):List D:=y.cps.toList.map λc=>D.str (ch1 c)
noncomputable def ascii(y:ao):Bool:=y.cps.all (· < 128)
noncomputable def Its(y:ao):It:=⟨λi _=>i<y.cps.size,λi H x H'=>H'=H/\∃c,y.cps[i]?=aa c/\x=.str (ch1 c),λi _=>y.cps.size<=i⟩
theorem j3i {P:av} {w:aA} {K:k5g} {tg:ar} (it:ai) (y:ao) (t:jY):Turn P w K tg (Its y) [it] it (λi h=>h.IsStrIter it "str_ascii_iterator" y t i) where
 mem:=by simp
 obj:=λi h st b hb=>by
  have e:b=it:=by simpa using hb
  subst e;obtain⟨o,e,c,d⟩:=st;exact⟨o,e,λv z=>by rw[d]at z;cases z⟩
 keep:=λi h h' st k=>let ⟨o,e,r⟩:=st;⟨o,k it (by simp) o e,r⟩
 item:=by intro X hP hw hK hc i pins s σ H E I hf st hg;subst hP hw hK;obtain⟨f0,f1,f2,f3,f4,f5⟩:=hf it (by simp);have W:=Walks.strAscii (prog:=X.prog) (w:=X.w) (I.ok.hd hc) it y t;refine W.item i s _ _ hg st λv h' tk hv st' kk=>?_;obtain⟨c,u,hcu,rfl⟩:=hv;have I1:Inv X pins σ H { s with heap:=h',toks:=tk }:=I.turned (λb o hb e=>kk b o (by simpa using hb) e) f0 f1 f3 f4 f5;obtain⟨o,e,oc,d⟩:=id st';exact⟨_,rfl,Fw (s:={ s with heap:=h',toks:=tk }) e oc d (by decide) ⟨.str (ch1 c),H,I1,⟨u,rfl⟩,⟨rfl,c,hcu,rfl⟩,st',λb hb=>(hf b hb).1⟩⟩
 done:=by intro X hP hw hK hc i pins s σ H E I hf st hg;subst hP hw hK;obtain⟨f0,f1,f2,f3,f4,f5⟩:=hf it (by simp);exact wpAny_pyNext_ascii_end (I.ok.hd hc) st (by have:y.cps.size<=i:=hg;simp;omega) λh' eb=>⟨rfl,I.turned (t':=s.toks) (λb o hb e=>eb b o hb e) f0 f1 f3 f4 f5⟩
 self:=λ_ _ _ _ _ st h=>wpAny_pyIter_striter_ascii st h
section
variable{X:Cx}{ρ:Rho}{a b c e tg it:ar}{y z:ao}{i j k:Int}{p p2 pos:aL}
theorem j4y{K:k5g}{F:Hp}(y:ao):W6 K F (Its y) (chs y):=λi H A g hA=>by
 have hl:(chs y).length=y.cps.size:=by unfold chs;rw[X5,cu]
 rw[hl];refine⟨λh=>h,λh=>h,λx H' ⟨e,c,hc,ex⟩=>?_⟩;subst e ex;refine⟨jb.refl _,λd hd=>?_⟩;unfold chs at hd;rw[Xe,Array.getElem?_toList,hc]at hd;cases hd;rfl
theorem DI.str(h:DT X ρ it (.str y))(ha:ascii y=ag):DI X ρ tg it (chs y):=λσ H R r q pins s I=>by
 refine thn (h σ H (λv H1=>v=.str y/\jb H H1) r (λv H1 g e=>⟨e,g⟩) pins s I) λv s1 ⟨x,H1,I1,r1,ex,g1⟩=>?_;subst ex;obtain⟨t,rfl⟩:=(show ∃t,v=bh y t from r1)
 refine wpAny_pyIter_ascii ha ?_;refine⟨s1.heap.objs.size,[s1.heap.objs.size],_,_,H1,rfl,I1.kept (t':=s1.toks) λb o e=>xn _ e,j3i _ y t,⟨_,Xc _ rfl,rfl,rfl⟩,λb hb=>?_,q _ H1 g1 (j4y y)⟩;have e:b=s1.heap.objs.size:=by simpa using hb
 subst e;exact I1.fpOk (X3 _) (I1.hok.fresh (X3 _))
noncomputable def inS(y z:ao):Bool:=!(fh z y 0 z.length 1).isEmpty
theorem Bx:OpR X (aX .Gt) (λx y H Q=>∃i j,x=.str i/\y=.str j/\Q (.bl (decide (j.cps.toList<i.cps.toList))) H):=by intro pins s σ H x y v u Q I rx ry h;obtain⟨i,j,rfl,rfl,q⟩:=h;obtain⟨t,rfl⟩:=rx;obtain⟨t',rfl⟩:=ry;exact P.gt_str (jx I q rfl)
theorem DE.ltS(ha:DT X ρ a (.str y))(hb:DT X ρ b (.str z)):DE X ρ (.Compare a [.Lt] [b] pos) (.bl (decide (y.cps.toList<z.cps.toList))):=λσ H Q R q =>(Ju Bv peS peS (zb _)).to (ha σ H _ R λv H1 g1 e1=>hb σ H1 _ (R.grow g1) λu H2 g2 e2=>⟨y,z,e1,e2,q _ H2 (g1.trans g2) rfl⟩)
theorem DB.ltS(ha:DT X ρ a (.str y))(hb:DT X ρ b (.str z)):DB X ρ (.Compare a [.Lt] [b] pos) (decide (y.cps.toList<z.cps.toList)):=λσ H Q R q =>(vq Bv peS peS (zb _)).to (ha σ H _ R λv H1 g1 e1=>hb σ H1 _ (R.grow g1) λu H2 g2 e2=>⟨y,z,e1,e2,_,rfl,q H2 (g1.trans g2)⟩)
theorem DE.gtS(ha:DT X ρ a (.str y))(hb:DT X ρ b (.str z)):DE X ρ (.Compare a [.Gt] [b] pos) (.bl (decide (z.cps.toList<y.cps.toList))):=λσ H Q R q =>(Ju Bx peS peS (zb _)).to (ha σ H _ R λv H1 g1 e1=>hb σ H1 _ (R.grow g1) λu H2 g2 e2=>⟨y,z,e1,e2,q _ H2 (g1.trans g2) rfl⟩)
theorem DB.gtS(ha:DT X ρ a (.str y))(hb:DT X ρ b (.str z)):DB X ρ (.Compare a [.Gt] [b] pos) (decide (z.cps.toList<y.cps.toList)):=λσ H Q R q =>(vq Bx peS peS (zb _)).to (ha σ H _ R λv H1 g1 e1=>hb σ H1 _ (R.grow g1) λu H2 g2 e2=>⟨y,z,e1,e2,_,rfl,q H2 (g1.trans g2)⟩)
theorem DE.inS(ha:DT X ρ a (.str y))(hb:DT X ρ b (.str z))(hm:aN .In b=ae):DE X ρ (.Compare a [.In] [b] pos) (.bl (inS y z)):=λσ H Q R q =>(Ju Bw peS peS hm).to (ha σ H _ R λv H1 g1 e1=>hb σ H1 _ (R.grow g1) λu H2 g2 e2=>⟨y,z,e1,e2,q _ H2 (g1.trans g2) rfl⟩)
theorem DB.inS(ha:DT X ρ a (.str y))(hb:DT X ρ b (.str z))(hm:aN .In b=ae):DB X ρ (.Compare a [.In] [b] pos) (inS y z):=λσ H Q R q =>(vq Bw peS peS hm).to (ha σ H _ R λv H1 g1 e1=>hb σ H1 _ (R.grow g1) λu H2 g2 e2=>⟨y,z,e1,e2,_,rfl,q H2 (g1.trans g2)⟩)
theorem mulOk_of(h1:1<=k/\k<=1000)(h2:y.length<=1000):MulOk y k:=by
 refine⟨?_,λ_ _=>?_,λ_ _=>?_⟩
 .simp;omega
 .have:(1000:Int)<=(2^63-1)/k:=Int.le_ediv_of_mul_le (by omega) (by omega);omega
 .have hk:k.toNat<=1000:=by omega
  have:y.length*k.toNat<=1000000:=Nat.mul_le_mul h2 hk;unfold bY;rw[aW];simp;omega
theorem j02:OpR X (b0 .Mult) (λx y H Q=>∃i k,x=.str i/\y=.int k/\MulOk i k/\Q (.str (iC i k)) H):=by intro pins s σ H x y v u Q I rx ry h;obtain⟨i,k,rfl,rfl,hm,q⟩:=h;obtain⟨t,rfl⟩:=rx;obtain⟨t',rfl⟩:=ry;exact SB.mul hm λt' tk=>⟨.str _,H,I.un (t':=tk) Un.refl I.hok,⟨_,rfl⟩,q⟩
theorem DE.mulS(ha:DT X ρ a (.str y))(hb:DT X ρ b (.int k))(h1:1<=k/\k<=1000)(h2:y.length<=1000):DE X ρ (.BinOp a .Mult b pos) (.str (iC y k)):=λσ H Q R q =>(Vr j02 peS peS).to (ha σ H _ R λv H1 g1 e1=>hb σ H1 _ (R.grow g1) λu H2 g2 e2=>⟨y,k,e1,e2,mulOk_of h1 h2,q _ H2 (g1.trans g2) rfl⟩)
end
section
variable{X:Cx}{ρ ρ1 ρ':Rho}{e c:ar}{ss sa sb:List aG}{is is2:List Nat}{d:D}{i:Nat}{x:ao}{p pos:aL}
def DMs(X:Cx)(ρ ρ':Rho)(is:List Nat)(ss:List aG):Prop:=∀(σ:St)(H:Hp)(E:Ends),Rep X.K ρ σ H->(∀σ' H',jb H H'->Rep X.K ρ' σ' H'->(∀j,j∉is->σ'[j]?=σ[j]?)->E.nx σ' H')->Jx X ss E σ H
def DMt(X:Cx)(ρ ρ':Rho)(is:List Nat)(full tl:List aG):Prop:=∀(σ:St)(H:Hp)(E:Ends),Rep X.K ρ σ H->(∀σ' H',jb H H'->Rep X.K ρ' σ' H'->(∀j,j∉is->σ'[j]?=σ[j]?)->Jx X tl E σ' H')->Jx X full E σ H
variable{tl:List aG}
end
def Kp(ρ ρ':Rho)(is:List Nat):Prop:=(∀b∈owns ρ',b∈owns ρ)/\∀j,j∉is->ρ'[j]?=ρ[j]?
noncomputable def jh6:HO->Bool
 |.ins _ _ _=>ag
 |_=>ae
def Wl(H H':Hp):Prop:=∀b o,H b=aa o->jh6 o=ae->H' b=aa o
theorem Wl.seqT{K:k5g}{H H':Hp}{a:ai}{xs:List V}(g:Wl H H')(h:SqT K H a xs):SqT K H' a xs:=by
 rcases h with (h|⟨o,h⟩)|h
 .exact .inl (.inl (g _ _ h rfl))
 .exact .inl (.inr ⟨o,g _ _ h rfl⟩)
 .exact .inr h
noncomputable def pcF(b:ai)(k:Int):List (ao×V):=[("standing",.ref b),("spot",.int k)]
structure Ob where
 a:ai
 dx:ai
 b:ai
structure PcAt(C:ai)(H:Hp)(o:Ob)(ls:List ao)(k:Nat):Prop where
 ob:H o.a=aa (.ins C o.dx (pcF o.b (k:Int)))
 li:H o.b=aa (.lst (ls.map V.str))
def But(a:ai)(H H':Hp):Prop:=∀b o,b≠a->H b=aa o->H' b=aa o
theorem But.trans{a:ai}{H H1 H2:Hp}(g:But a H H1)(g2:But a H1 H2):But a H H2:=λb o n h=>g2 b o n (g b o n h)
structure PcT(K:k5g)(mg:k5j)(C fA fT fL fI:ai):Prop where
 cl:Cls K C
 nS:vh K C "standing"
 nP:vh K C "spot"
 mA:Meth K C "ahead" fA
 mT:Meth K C "taken" fT
 mL:Meth K C "all_taken" fL
 mkI:Mk K C fI
 mgC:mg "Pieces" = aa (.ref C)
 len:mg "len" = ah
def Kw(C:ai):Sp:=λvs H Q _=>∃(o:Ob)(ls:List ao)(k:Nat),vs=[.ref o.a]/\PcAt C H o ls k/\Q (.str (ls.getD k "")) H
def Ku(C:ai):Sp:=λvs H Q _=>∃(o:Ob)(ls:List ao)(k:Nat),vs=[.ref o.a]/\PcAt C H o ls k/\∀H',PcAt C H' o ls (k+1)->But o.a H H'->Q (.str (ls.getD k "")) H'
def j6l(C:ai):Sp:=λvs H Q _=>∃(o:Ob)(ls:List ao)(k:Nat),vs=[.ref o.a]/\PcAt C H o ls k/\Q (.bl (decide (ls.length<=k))) H
section
variable{P:av}{w:aA}{K:k5g}{mg:k5j}{base:aI}{C fA fT fL fI f:ai}{fd fdA:aD}{st:aG}
def Wn(X:Cx)(o:ar)(m:ao)(apos pos:aL):Prop:=∃pl:iY Bool,az (.Call (.Attribute o m apos) [] [] pos) X.env=(do
   let ov <-az o X.env
   dQ apos.atName
   let (f,first) <-dk [ov] (cR ov m pl)
   fQ pos f first (aJ pos (af [] X.env)) (bq pos (aT [] X.env)))
end
section
variable{P:av}{w:aA}{K:k5g}{mg:k5j}{base:aI}{C fA fT fL fI f:ai}{fd:aD}{st:aG}
def Kv(C:ai):Sp:=λvs H Q _=>∃(a dx:ai)(t:ao),vs=[.ref a,.str t]/\H a=aa (.ins C dx [])/\t.length<=100000/\(lJ t " ").length<=au/\∀b H',H b=ah->PcAt C H' ⟨a,dx,b⟩ (lJ t " ") 0->But a H H'->Q .non H'
end
structure Pm where
 nx:Rho->Nat->Prop
 rt:D->Nat->Prop
 ex:ao->Rho->Prop
def FrM(a:ai)(ρ ρ':Rho)(H H':Hp):Prop:=jb (del H (a::owns ρ)) (del H' (a::owns ρ'))
structure EndsM(X:Cx)(C:ai)(o:Ob)(ls:List ao)(ρ:Rho)(H:Hp)(P:Pm)(E:Ends):Prop where
 nx:∀ρ' k' σ' H',P.nx ρ' k'->Rep X.K ρ' σ' H'->PcAt C (del H' (owns ρ')) o ls k'->FrM o.a ρ ρ' H H'->E.nx σ' H'
 rt:∀d k' v H',P.rt d k'->PcAt C H' o ls k'->jb (del H (o.a::owns ρ)) (del H' [o.a])->Enc X.K H' d v->E.rt v H'
 ex:∀x ρ' σ' H',P.ex x ρ'->Rep X.K ρ' σ' H'->FrM o.a ρ ρ' H H'->Rz X σ' H' x
structure PcX(X:Cx)(C:ai):Prop where
 ex:∃(fA fT fL fI:ai)(dA dT dL dI:aD),PcT X.K X.mg C fA fT fL fI/\(FnOk X.prog X.w X.K X.mg X.base CX0 1 fA dA ["self"] (Kw C)/\Binds X.K dA ["self"] []) /\
  (FnOk X.prog X.w X.K X.mg X.base CX0 2 fT dT ["self"] (Ku C)/\Binds X.K dT ["self"] [])/\(FnOk X.prog X.w X.K X.mg X.base CX0 1 fL dL ["self"] (j6l C)/\Binds X.K dL ["self"] []) /\
  (FnOk X.prog X.w X.K X.mg X.base CX0 1 fI dI ["self","text"] (Kv C)/\Binds X.K dI ["self","text"] [])/\Room 3 X.A
def MSs(X:Cx)(C:ai)(o:Ob)(ls:List ao)(ρ:Rho)(k:Nat)(sts:List aG)(P:Pm):Prop :=
 ∀σ H E,Rep X.K ρ σ H->PcAt C (del H (owns ρ)) o ls k->EndsM X C o ls ρ H P E->Jx X sts E σ H
section
variable{X:Cx}{C:ai}{o:Ob}{ls:List ao}{ρ ρ1:Rho}{H H1 H':Hp}{P:Pm}{E:Ends}{k k':Nat}{st:aG}{rest:List aG}{σ:St}
theorem Wl.but{a dx:ai}{fs:List (ao×V)}(h:H a=aa (.ins C dx fs))(b:But a H H'):Wl H H':=λc u hc n=>b c u (λz=>by rw[z,h]at hc;cases hc;cases n) hc
end
def jgj(K:k5g)(C:ai)(S:List ao->Nat->List D->D->Nat->Prop):Sp:=λvs H Q _=>∃(o:Ob)(ls:List ao)(k:Nat)(ds:List D)(d:D)(k':Nat)(ws:List V),vs=.ref o.a::ws/\TabOk K H/\PcAt C H o ls k/\jd K H ds ws/\S ls k ds d k' /\
 ∀v H',PcAt C H' o ls k'->jb (del H [o.a]) (del H' [o.a])->Enc K H' d v->Q v H'
def spM(K:k5g)(C:ai)(S:List ao->Nat->List D->D->Nat->Prop):Sp:=λvs H Q _=>∃(A:List ai)(o:Ob)(ls:List ao)(k:Nat)(ds:List D)(d:D)(k':Nat) (ws:List V),vs=.ref o.a::ws/\TabOk K H/\(∀a∈A,∃xs,H a=aa (.lst xs))/\PcAt C (del H A) o ls k/\jd K (del H A) ds ws/\S ls k ds d k' /\
 ∀v H',PcAt C (del H' A) o ls k'->jb (del H [o.a]) (del H' [o.a])->Enc K (del H' A) d v->Q v H'
def j3s(K:k5g)(mg:k5j)(C:ai)(S:List ao->Nat->List D->ao->Prop):Sp:=λvs H _ E=>∃(o:Ob)(ls:List ao)(k:Nat)(ds:List D)(x:ao)(V:aj)(ws:List L2.V),vs=.ref o.a::ws/\TabOk K H/\PcAt C H o ls k/\jd K H ds ws/\S ls k ds x/\mg x=aa V /\
 ∀H',jb (del H [o.a]) (del H' [o.a])->E V ah H'
section
variable{P:av}{w:aA}{K:k5g}{mg:k5j}{base:aI}{n:Nat}{f C:ai}{fd:aD}{ps:List ao}
theorem FnOk.toM{S:List ao->Nat->List D->D->Nat->Prop}(F:FnOk P w K mg base CX0 n f fd ps (jgj K C S)):FnOk P w K mg base CX0 n f fd ps (spM K C S) :=
 F.framed.imp λvs H Q E ⟨A,o,ls,k,ds,d,k',ws,e,tb,hA,pc,en,hS,q⟩=>⟨A,hA,o,ls,k,ds,d,k',ws,e,tb.del hA,pc,en,hS,λv F pc' g e' hF=>by
  refine q v _ (by rw[Qt hF];exact pc') (λb u z=>?_) (by rw[Qt hF];exact e')
  obtain⟨nb,z⟩:=of_del z
  rw[jc nb]
  by_cases y:b∈A
  .rw[J0 y];exact z
  .rw[jn y]
   exact(of_del (g b u (by rw[jc nb,jc y];exact z))).2⟩
end
structure CalM(X:Cx)(f:ao)(C:ai)(S:List ao->Nat->List D->D->Nat->Prop):Prop where
 ex:∃(n:Nat)(fa:ai)(fd:aD)(ps:List ao),FnOk X.prog X.w X.K X.mg X.base CX0 n fa fd ps (spM X.K C S)/\Room n X.A/\X.mg f=aa (.ref fa)/\W.keepIn X.K (.ref fa)=ag/\Binds X.K fd ps []
structure CalMX(X:Cx)(f:ao)(C:ai)(S:List ao->Nat->List D->ao->Prop):Prop where
 ex:∃(n:Nat)(fa:ai)(fd:aD)(ps:List ao),FnOk X.prog X.w X.K X.mg X.base (CX1 X.prog X.w) n fa fd ps (j3s X.K X.mg C S)/\Room n X.A/\X.mg f=aa (.ref fa)/\W.keepIn X.K (.ref fa)=ag/\Binds X.K fd ps []
section
variable{X:Cx}{C:ai}{o:Ob}{ls:List ao}{ρ ρ1:Rho}{H H1 H':Hp}{P:Pm}{E:Ends}{k k':Nat}{st:aG}{sa rest:List aG}{σ:St}{pi i:Nat}{ob:cw}{x y f:ao}{p py pf p1 p2 p3 p4 pos:aL}{es:List ar}{ds:List D}{d:D}
theorem Rep.set_rf{K:k5g}{a:ai}{o:cw}(R:Rep K ρ σ H):Rep K (ρ.set i (.raw a o rfN)) (σ.set i (aa (.ref a))) H:=by
 have sub:(owns (ρ.set i (.raw a o rfN))).Sublist (owns ρ):=ju rfl;have g:jb (del H (owns ρ)) (del H (owns (ρ.set i (.raw a o rfN)))):=J7 λb hb=>sub.subset hb;refine⟨by simp[R.len],λj d' h=>?_,λj a ds h=>?_,sub.nodup R.nd,λj a' o' x' h=>?_,R.tb⟩
 .rcases getElem?_set_of h with ⟨rfl,z,hl⟩|⟨n,h⟩
  .cases z
  .obtain⟨u,q,h⟩:=R.val j d' h;exact⟨u,by rw[J5 n];exact q,h.mono g⟩
 .rcases getElem?_set_of h with ⟨rfl,z,_⟩|⟨n,h⟩
  .cases z
  .obtain⟨q,xs,h,l⟩:=R.own j a ds h;exact⟨by rw[J5 n];exact q,xs,h,l.mono g⟩
 .rcases getElem?_set_of h with ⟨rfl,z,hl⟩|⟨n,h⟩
  .cases z;exact⟨Yb (by rw[R.len];exact hl),.inl rfl⟩
  .obtain⟨q,h⟩:=R.raw j a' o' x' h;exact⟨by rw[J5 n];exact q,h.mono g⟩
noncomputable def dOb:cw:={ cls:=.none }
end
noncomputable def startM(N:List ao)(a:ai)(ds:List D):Rho:=(jz N (.int 0::ds)).set 0 (.raw a dOb rfN)
theorem Yq{K:k5g}{H:Hp}{N:List ao}{ds:List D}{ws:List V}{a:ai}(tb:TabOk K H)(h:jd K H ds ws):Rep K (startM N a ds) (start N (.ref a::ws)) H :=
 (Qp (N:=N) tb (show jd K H (.int 0::ds) (.int 0::ws) from⟨.int 0,ws,rfl,rfl,h⟩)).set_rf (i:=0) (a:=a) (o:=dOb)
theorem Vy(N:List ao)(a:ai)(ds:List D):owns (startM N a ds)=[]:=by have h:(owns (startM N a ds)).Sublist (owns (jz N (.int 0::ds))):=ju rfl;rw[Qg]at h;exact List.sublist_nil.mp h
section
variable{P:av}{w:aA}{K:k5g}{mg:k5j}{base:aI}{x qual:ao}{st:aG}{f C:ai}{fd:aD}{N ps:List ao}{n:Nat}
theorem jhd{S:List ao->Nat->List D->D->Nat->Prop}(F:Fun K x qual st f fd)(Sc:FnScope N ps (j0 st))(hl:∀ls k ds d k',S ls k ds d k'->ds.length+1=ps.length)
  (hbody:∀(cdv:aj)(A:aE)(outer:List cf)(s:aq)(H:Hp)(E:XK),Vm K f cdv->Room n (A.deeper (bc qual (j0 st) s.heap.objs.size f cdv))->∀o ls k ds d k',S ls k ds d k' ->
   MSs (qg CX0 P w K mg base N qual (j0 st) f cdv A outer s H E).nox C o ls (startM N o.a ds) k (jh st) { nx:=λ_ _=>False,rt:=λd2 k2=>d2=d/\k2=k',ex:=λ_ _=>False }):FnOk P w K mg base CX0 (n+1) f fd ps (spM K C S):=by
 refine FnOk.toM (F.okC Sc (λvs H Q E ⟨o,ls,k,ds,d,k',ws,e,tb,pc,en,hS,_⟩=>by rw[e,xg,en.length];exact hl ls k ds d k' hS) λcdv A outer s H vs Q E hcv hr ⟨o,ls,k,ds,d,k',ws,e,tb,pc,en,hS,q⟩=>⟨_,zj,?_⟩);subst e;have ho:=Vy N o.a ds;refine hbody cdv A outer s H E hcv hr o ls k ds d k' hS _ H _ (Yq tb en) (by rw[ho,zr];exact pc) ⟨λ_ _ _ _ z=>z.elim,λd2 k2 v H' ⟨e1,e2⟩ pc' g en'=>?_,λ_ _ _ _ z=>z.elim⟩;subst e1 e2;rw[ho]at g;exact q v H' pc' g en'
theorem jfd{S:List ao->Nat->List D->ao->Prop}(F:Fun K x qual st f fd)(Sc:FnScope N ps (j0 st))(hl:∀ls k ds y,S ls k ds y->ds.length+1=ps.length)
  (hbody:∀(cdv:aj)(A:aE)(outer:List cf)(s:aq)(H:Hp)(E:XK),Vm K f cdv->Room n (A.deeper (bc qual (j0 st) s.heap.objs.size f cdv))->∀o ls k ds y,S ls k ds y ->
   MSs (qg (CX1 P w) P w K mg base N qual (j0 st) f cdv A outer s H E) C o ls (startM N o.a ds) k (jh st) { nx:=λ_ _=>False,rt:=λ_ _=>False,ex:=λz _=>z=y }):FnOk P w K mg base (CX1 P w) (n+1) f fd ps (j3s K mg C S):=by
 obtain⟨oc,od,dV,kV,doc,pm,an,cdv,ct,osl,rfl,lk,hcd⟩:=F.ex;refine Fx lk hcd Sc (λvs H Q E ⟨o,ls,k,ds,y,V,ws,e,tb,pc,en,hS,_⟩=>by rw[e,xg,en.length];exact hl ls k ds y hS) λA outer s H vs Q E hr ⟨o,ls,k,ds,y,V,ws,e,tb,pc,en,hS,hC,hE⟩=>⟨_,zj,?_⟩
 subst e;have ho:=Vy N o.a ds;refine hbody cdv A outer s H E ⟨oc,od,_,osl,lk,rfl⟩ hr o ls k ds y hS _ H _ (Yq tb en) (by rw[ho,zr];exact pc) ⟨λ_ _ _ _ z=>z.elim,λ_ _ _ _ z=>z.elim,λz ρ' σ' H' n R g=>?_⟩;cases(show z=y from n);intro pins H2 s' e C' I g2 hC' Fe;cases hC.symm.trans hC';unfold FrM at g;rw[ho]at g;refine Nh I Fe (hE H2 λb u z=>?_);obtain⟨nb,z⟩:=of_del z;obtain⟨_,z1⟩:=of_del (g b u (by rw[jc nb];exact z));rw[jc nb];exact g2 b u z1
end
section
variable{X:Cx}{ρ:Rho}{a:ar}{p p1 p2 pos:aL}
theorem DO.callT {S:List D->List D->Prop} {x:ao} {e:ar} {es:List ar} {ds l:List D} (c:Cal X x (spF X.K S)) (ha:DTA X ρ (e::es) ds) (hS:S ds l) (hn:qu l=ag) (hg:Gl X x) (hdb:(x==k5k)=ae)
  (he:af (e::es) X.env=(ae,az e X.env)::af es X.env) (hpl:(aJ pos (af es X.env)).any (·.1)=ae):DO X ρ (.Call (.Name x p) (e::es) [] pos) l:=λσ H Q R q=>by
 obtain⟨k,f,fd,ps,F,hr,hm,hk,hb,_⟩:=c.ex;refine(Jv F (hr.mono (by omega)) hg hm hk hb .nil Jj paS hdb he hpl).to (ha σ H _ R λvs H1 g1 e1=>?_);show spF X.K S (vs++[]) H1 Q E0;rw[Xp];exact⟨[],ds,l,R.tb.mono g1,(λa h=>nomatch h),by rw[zr];exact e1,hS,λa xs H2 g2 n m z=>q a xs H2 (g1.trans g2) (g1.free n) m ((z.mono jq).hide (λc hc=>by
  rcases xf.mp hc with z|z
  .rw[z];exact .inl ⟨xs,m⟩
  .exact .inl ((R.grow (g1.trans g2)).owned c z)) hn)⟩
end
section
variable{X:Cx}{ρ:Rho}{a:ar}{p p1 p2 p3 pos:aL}{y:ao}{i n:Int}
theorem Fg:Jg X (.type "int") (λxs H Q=>∃y n,xs=[.str y]/\fM y=aa n/\y.length<=640/\Q (.int n) H):=by intro pins s σ H xs us Q I r h;obtain⟨y,n,rfl,hn,hl,q⟩:=h;obtain⟨u,rfl,t,rfl⟩:=vals1 r;exact PySem.W.KIN.call_text hn hl ⟨.int n,H,I.tok _,⟨_,rfl⟩,q⟩
theorem DE.intS (ha:DT X ρ a (.str y)) (hn:fM y=aa n) (hl:y.length<=640) (hm:X.mg "int" = ah) (hg:Gl X "int") (hs:af [a] X.env=[(ae,az a X.env)]):DE X ρ (.Call (.Name "int" p) [a] [] pos) (.int n):=λσ H Q R q =>(Zm Fg hg hm boot_int (ji peS jl hs) (by decide) (by decide) hs).to (ha σ H _ R λv H1 g1 e1=>⟨y,n,by rw[show v=.str y from e1],hn,hl,q _ H1 g1 rfl⟩)
end
section
variable{X:Cx}{ρ:Rho}{e:ar}{pos:aL}
noncomputable def tupS(is:List Int):ao:=(PyData.tuple (is.map cW)).shown
theorem Mj{K:k5g}{H:Hp}{h:aI}:∀{is:List Int}{xs:List V}{us:List aj},jd K H (is.map D.int) xs->Vals xs us->ReadsAll h us (is.map cW) []
 |[],xs,us,en,rv=>by have:xs=[]:=en;subst this;cases rv;exact .nil
 |i::is,xs,us,⟨x,r,e,ex,en⟩,rv=>by
  subst e;have ex:x=.int i:=ex;subst ex;cases rv with
  |cons ru rr =>obtain⟨t,rfl⟩:=ru;exact .cons (as:=[]) (.int i t) (Mj en rr)
theorem Ug:∀{is:List Int},(∀i∈is,i.natAbs.log2<1920)->dS (is.map cW)=ag
 |[],_=>by simp[dS]
 |i::is,h=>by simp[dS,iD,h i (X4 ..),Ug λj hj=>h j (kj _ hj)]
theorem Ux:∀{is:List Int},ff (is.map cW)=0/\eB (is.map cW)=ae
 |[]=>by simp[ff,eB]
 |i::is=>by have:=Ux (is:=is);simp[ff,eB,jB,iN,this.1,this.2]
theorem DE.fmtT{is:List Int}(hg:X.A.guards=aa [])(hu:X.A.units+100<aY)(ha:DT X ρ e (.tup (is.map D.int)))(hi:∀i∈is,i.natAbs.log2<1920)(hz:(tupS is).length<=au):DE X ρ (.FormattedValue e (-1) ah pos) (.str (tupS is)):=λσ H Q R q pins s I=>by
 refine eS (thn (ha σ H (λv H1=>Enc X.K H1 (.tup (is.map D.int)) v/\jb H H1) R (λv H1 g e=>⟨e,g⟩) pins s I) λu s1 ⟨v,H1,I1,r,ev,g⟩=>?_);obtain⟨a,xs,rfl,sq,en⟩:=ev;cases(show u=aK a from r);obtain⟨its,rv,⟨o,ho,hoc,m,hod⟩,_⟩:=I1.tuple sq;have rd:Reads s1.heap (.ref a) (.tuple (is.map cW)) []:=.tuple ho hoc hod (by simpa using Mj (h:=s1.heap) en rv);exact formatField_of_reads rd (by rw[iD];exact Ug hi) (λz=>by rw[iN,Ux.2]at z;cases z) hg (by rw[jB,Ux.1];omega) (λ_ _ z=>z)
  (λh' w tk hk=>⟨.str (tupS is),H1,I1.kept hk,⟨_,rfl⟩,q _ H1 g rfl⟩) hz
end
end L2
end
section
namespace PySem.W
open PySem PySem.Calls PyProof.Rows
section
variable{prog:av}{w:aA}{A:aE}{E:k5h}{κ:gC}{it:Array lI}{s:aq}
noncomputable def ks(κ:gC)(it:Array lI)(p:Array Nat)(pd:Array (Nat×Nat×Nat))(g:Nat):SortSt:=SortSt.mk' κ (p.map (kas_item it)) pd g ah
end
end PySem.W
end
section
namespace PySem.W
open PySem PySem.Calls PyProof.Rows
noncomputable def rnk(n j:Nat):List Nat:=(aP (2^n)).filter (λi=>i/2^(n-1-j)%2==0)++(aP (2^n)).filter (λi=>i/2^(n-1-j)%2==1)
end PySem.W
end
section
namespace PySem.W
open PySem PySem.Calls PyProof.Rows
section
variable{prog:av}{w:aA}{A:aE}{E:k5h}{κ:gC}{it:Array lI}{N:Nat}
theorem jbu{p:Array Nat}{pd:Array (Nat×Nat×Nat)}{g:Nat}:arrOf (ks κ it p pd g)=p.map (kas_item it):=rfl
theorem jew{p:Array Nat}{pd:Array (Nat×Nat×Nat)}{g:Nat}:pendingOf (ks κ it p pd g)=pd:=rfl
theorem j4u{p:Array Nat}{pd pd':Array (Nat×Nat×Nat)}{g:Nat}:setPending (ks κ it p pd g) pd'=ks κ it p pd' g:=rfl
local macro_rules | `(tactic| walk_at "ksm")=>`(tactic| simp only [jbu,jew,j4u,Nat.zero_add,Nat.reduceAdd,Nat.reduceSub,Nat.reduceMul,Nat.reduceDiv,Nat.reduceBEq,Nat.reduceLT,Nat.reduceLeDiff,Nat.reduceGT,ge_iff_le,gt_iff_lt,Bool.false_eq_true,↓reduceIte,reduceCtorEq,Array.size_map,beq_self_eq_true,Bool.not_true,Bool.not_false])
local macro_rules | `(tactic| walk_at "kst")=>`(tactic| with_reducible first | refine kasC_get ?_ | refine kasC_modify ?_ | refine kasC_pure ?_ | refine st_range (by rfl) ?_ | refine kasC_nil ?_ | refine st_cons ?_ | refine kasC_bind ?_)
end
end PySem.W
end
section
namespace PySem.W
open PySem PySem.Calls PyProof.Rows
noncomputable def pst(k j:Nat):List Nat:=(aP (2^k)).map λr=>(rnk k j).idxOf r
section
variable{prog:av}{w:aA}{A:aE}{E:k5h}{s:aq}
def jhk(h:aI)(z:Nat)(vs:List aj)(l:List (List Int)):Prop:=vs.length=l.length/\∀i<l.length,(l.getD i []).length=z/\∃a items,vs.getD i bp=.ref a/\jZ h a items/\gp items.toList (l.getD i [])
noncomputable def j5e:List (List Int)->Bool
 |a::b::r=>HT.lexLt a b&&j5e (b::r)
 |_=>ag
end
end PySem.W
end
section
namespace L2
open PySem PySem.Spec PyProof.Rows
def W7(K:k5g)(a:ai)(ks:List (List Int))(ns:List Int)(F H:Hp):Prop:=∃(xs:List (List Int×ai×aj)) (ep:Nat),H=upd F a (.dI xs ep)/\F a=ah/\ks=(xs.map λz=>z.1)/\(∀z∈xs,SqT K F z.2.1 (z.1.map V.int))/\Vals (ns.map V.int) (xs.map λz=>z.2.2)
def spD(K:k5g)(S:List (List Int)->List Int->List D->D->List (List Int)->List Int->Prop):Sp:=λvs H Q _=>∃(a:ai)(F:Hp)(ks:List (List Int)) (ns:List Int) (ds:List D) (d:D) (ks':List (List Int)) (ns':List Int) (ws:List V),
 vs=.ref a::ws/\TabOk K F/\W7 K a ks ns F H/\jd K F ds ws/\S ks ns ds d ks' ns'/\∀v F' H',jb F F'->W7 K a ks' ns' F' H'->Enc K F' d v->Q v H'
structure CalD(X:Cx)(x:ao)(S:List (List Int)->List Int->List D->D->List (List Int)->List Int->Prop):Prop where
 ex:∃(k:Nat)(f:ai)(fd:aD)(ps:List ao),FnOk X.prog X.w X.K X.mg X.base CX0 k f fd ps (spD X.K S)/\Room (k+3) X.A/\X.mg x=aa (.ref f)/\W.keepIn X.K (.ref f)=ag/\Binds X.K fd ps []
def DDb(X:Cx)(ρ:Rho)(sts:List aG)(a:ai)(ks:List (List Int))(ns:List Int)(d:D)(ks':List (List Int))(ns':List Int):Prop:=∀σ F H E,Rep X.K ρ σ F->W7 X.K a ks ns F H ->
 (∀v F' H',jb F F'->W7 X.K a ks' ns' F' H'->Enc X.K F' d v->E.rt v H')->Jx X sts E σ H
section
variable{P:av}{w:aA}{K:k5g}{mg:k5j}{base:aI}{x qual:ao}{st:aG}{f:ai}{fd:aD}{N ps:List ao}{n:Nat}
theorem jhe{S:List (List Int)->List Int->List D->D->List (List Int)->List Int->Prop}(F:Fun K x qual st f fd)(Sc:FnScope N ps (j0 st))(hl:∀ks ns ds d ks' ns',S ks ns ds d ks' ns'->ds.length+1=ps.length)
  (hbody:∀(cdv:aj)(A:aE)(outer:List cf)(s:aq)(H:Hp)(E:XK),Vm K f cdv->Room n (A.deeper (bc qual (j0 st) s.heap.objs.size f cdv))->∀a ks ns ds d ks' ns',S ks ns ds d ks' ns' ->
   DDb (qg CX0 P w K mg base N qual (j0 st) f cdv A outer s H E).nox (startM N a ds) (jh st) a ks ns d ks' ns'):FnOk P w K mg base CX0 (n+1) f fd ps (spD K S):=by
 refine F.okC Sc (λvs H Q E ⟨a,F0,ks,ns,ds,d,ks',ns',ws,e,tb,dc,en,hS,_⟩=>by rw[e,xg,en.length];exact hl _ _ _ _ _ _ hS) λcdv A outer s H vs Q E hcv hr ⟨a,F0,ks,ns,ds,d,ks',ns',ws,e,tb,dc,en,hS,q⟩=>⟨_,zj,?_⟩
 subst e;exact hbody cdv A outer s H E hcv hr a ks ns ds d ks' ns' hS _ F0 H _ (Yq tb en) dc λv F' H' g dc' en'=>q v F' H' g dc' en'
end
end L2
end
section
namespace L2
open PySem PySem.Spec PyProof.Rows
mutual
noncomputable def flt:D->Bool
 |.non=>ag
 |.bl _=>ag
 |.int _=>ag
 |.str _=>ag
 |.tup l=>jcf l
 |_=>ae
noncomputable def jcf:List D->Bool
 |[]=>ag
 |d::l=>flt d&&jcf l
end
theorem Il{k:ao}:∀{kvs:List (ao×Int)} {vs:List (Key×aj)},KV (kvI kvs) vs->(iE vs (.inr k)).isSome=qz kvs k
 |[],_,r=>by rw[Us r];rfl
 |p::kvs,vs,r=>by
  obtain⟨t,qs,e,r'⟩:=Z8 r;subst e;have ih:=Il (k:=k) r';unfold qz at ih ⊢;unfold iE at ih ⊢;rw[Py,<-ih,bU];by_cases z:p.1=k
  .simp[z]
  .have z':¬((bg p.1:Key)=bg k):=λy=>z (dw y);rw[decide_eq_false z,decide_eq_false z',jO]
section
variable{X:Cx}
theorem j1t:OpR X (aX .NotIn) (λx y H Q=>∃(k:ao)(d:ai)(kvs:List (ao×Int)),x=.str k/\y=.ref d/\H d=aa (.dK (kvI kvs))/\Q (.bl (!qz kvs k)) H):=by intro pins s σ H x y v u Q I rx ry ⟨k,d,kvs,ex,ey,hx,q⟩;subst ex ey;obtain⟨t,rfl⟩:=rx;cases ry;obtain⟨hz,hd,vs,rel,dd⟩:=Fy I hx;refine wpAny_notIn_of (Vz X.prog X.w k t) hd dd.mapOf ?_;rw[Il rel];exact⟨.bl _,H,I.tok _,rfl,q⟩
end
structure Ko where
 a:ai
 dx:ai
 t:ai
 b:ai
 fs:List (ao×V)
 ps:List ao
 fa:ao->Int
structure KpAt(K:k5g)(C:ai)(H:Hp)(o:Ko)(kvs:List (ao×Int)):Prop where
 ob:H o.a=aa (.ins C o.dx o.fs)
 fP:o.fs.lookup ("places":ao)=aa (.ref o.t)
 fR:o.fs.lookup ("remembered":ao)=aa (.ref o.b)
 n1:o.fs.lookup ("answer":ao)=ah
 n2:o.fs.lookup ("told":ao)=ah
 n3:o.fs.lookup ("first_answer":ao)=ah
 tp:SqT K H o.t (o.ps.map V.str)
 di:H o.b=aa (.dK (kvI kvs))
structure KpT(K:k5g)(C fA fT fF:ai):Prop where
 cl:Cls K C
 nP:vh K C "places"
 nR:vh K C "remembered"
 mA:Meth K C "answer" fA
 mT:Meth K C "told" fT
 mF:Meth K C "first_answer" fF
noncomputable def J4(o:Ko)(kvs:List (ao×Int))(p:ao):List (ao×Int):=if qz kvs p=ag then kvs else kvs++[(p,o.fa p)]
def Y8(K:k5g)(C:ai)(Z:Hp->Ko->Prop):Sp:=λvs H Q _=>∃(o:Ko)(kvs:List (ao×Int)) (p:ao),vs=[.ref o.a,.str p]/\KpAt K C H o kvs/\Z H o/\p∈o.ps/\Q (.int (o.fa p)) H
def Yo(K:k5g)(C:ai)(Z:Hp->Ko->Prop):Sp:=λvs H Q _=>∃(o:Ko)(kvs:List (ao×Int)) (p:ao) (n:Int),vs=[.ref o.a,.str p]/\KpAt K C H o kvs/\Z H o/\p∈o.ps/\o.ps.length<=1000/\kvs.length<1000/\dval (J4 o kvs p) p=aa n/\Q (.int n) (upd H o.b (.dK (kvI (J4 o kvs p))))
section
variable{P:av}{w:aA}{K:k5g}{mg:k5j}{base:aI}{C fA fT fF f:ai}{fd fdF:aD}{st:aG}{Z:Hp->Ko->Prop}
def Z3(X:Cx)(o:ar)(m:ao)(e:ar)(apos pos:aL):Prop:=∃pl:iY Bool,az (.Call (.Attribute o m apos) [e] [] pos) X.env=(do
   let ov <-az o X.env
   dQ apos.atName
   let (f,first) <-dk [ov] (cR ov m pl)
   fQ pos f first (aJ pos (af [e] X.env)) (bq pos (aT [] X.env)))
noncomputable def Eg(r:List aG)(p1 p2 p3 p4 p5 p6 p7 p8 p9 p10 p11 p12 p13 p14 p15 p16 p17 p18 p19 p20 p21 p22 p23 p24:aL):List aG :=
 [.If (.Compare (.Name "place" p1) [.NotIn] [.Attribute (.Name "self" p2) "places" p3] p4) r [] p5,
 .If (.Compare (.Name "place" p6) [.NotIn] [.Attribute (.Name "self" p7) "remembered" p8] p9) [.Assign [.Subscript (.Attribute (.Name "self" p10) "remembered" p11) (.Name "place" p12) p13] (.Call (.Attribute (.Name "self" p14) "first_answer" p15) [.Name "place" p16] [] p17) p18] [] p19,
 .Return (aa (.Subscript (.Attribute (.Name "self" p20) "remembered" p21) (.Name "place" p22) p23)) p24]
theorem j9n{ps:List ao}{p:ao}(h:p∈ps):((ps.map D.str).any λe=>deq e (.str p))=ag:=by rw[gu,iS];exact⟨p,h,by show deq (.str p) (.str p)=ag;rw[Vh];exact beq_self_eq_true p⟩
theorem Bj{H:Hp}:∀(ps:List ao),jd K H (ps.map D.str) (ps.map V.str)
 |[]=>rfl
 |p::ps=>⟨_,_,rfl,rfl,Bj ps⟩
theorem N5 {r:List aG} {p1 p2 p3 p4 p5 p6 p7 p8 p9 p10 p11 p12 p13 p14 p15 p16 p17 p18 p19 p20 p21 p22 p23 p24:aL} (F:Fun K "answer" "Keeper.answer" st f fd) (T:KpT K C fA fT fF) (S:FnScope ["self","place"] ["self","place"] (j0 st))
  (hb:jh st=Eg r p1 p2 p3 p4 p5 p6 p7 p8 p9 p10 p11 p12 p13 p14 p15 p16 p17 p18 p19 p20 p21 p22 p23 p24) (hv:Vis (j0 st) "self") (hv2:Vis (j0 st) "place")
  (hm:∀cdv A outer s H E,Z3 (qg CX0 P w K mg base ["self","place"] "Keeper.answer" (j0 st) f cdv A outer s H E).nox (.Name "self" p14) "first_answer" (.Name "place" p16) p15 p17)
  (GF:FnOk P w K mg base CX0 1 fF fdF ["self","place"] (Y8 K C Z)) (bF:Binds K fdF ["self","place"] []):FnOk P w K mg base CX0 2 f fd ["self","place"] (Yo K C Z):=by
 refine F.ok S (λvs H Q E h=>?_) (λcdv A outer s H vs Q E hr h=>?_)
 .obtain⟨o,kvs,p,n,rfl,_⟩:=h;rfl
 .obtain⟨⟨a,dx,t,b,fs,ps,fa⟩,kvs,p,n,rfl,at_,z,hp,hl,hk,hv3,q⟩:=h;rw[hb];obtain⟨pl,ht⟩:=hm cdv A outer s H E;have hu:A.units+3+100<aY:=by have:=hr.un;show A.units+3+100<_;have e:(A.deeper (bc "Keeper.answer" (j0 st) s.heap.objs.size f cdv)).units=A.units+3:=rfl;omega
  refine⟨_,qt (Yr (vq (Up hu) (qb (i:=1) rfl hv2) (Vf (qb (i:=0) rfl hv) rfl) (by with_unfolding_all rfl)) zj Qq) (qt (Yr (vq j1t (qb (i:=1) rfl hv2) (Vf (qb (i:=0) rfl hv) rfl) (by with_unfolding_all rfl)) (Jt (j47 (Vf (qb (i:=0) rfl hv) rfl) (qb (i:=1) rfl hv2) (Ib (qb (i:=0) rfl hv) T.cl T.mF GF hr bF .nil Jj (ji (qb (i:=1) rfl hv2) jl) rfl rfl ht) rfl)) Qq) (Jt (Q5 (Yu jf0 (Vf (qb (i:=0) rfl hv) rfl) (qb (i:=1) rfl hv2) (λ_ _=>rfl))))),?_⟩;obtain⟨h1,hP,hR,n1,n2,n3,tp,di⟩:=at_;have h1:H a=aa (.ins C dx fs):=h1;have di:H b=aa (.dK (kvI kvs)):=di;have ep:Enc K H (D.seq ae (ps.map D.str)) (.ref t):=⟨t,ps.map V.str,rfl,tp,Bj ps⟩
  have dl:D.depL (ps.map D.str)<=98:=Xf (D.depL_of (n:=0) λd hd=>by
   obtain⟨x,_,rfl⟩:=Xn.mp hd
   simp[D.dep]) (by decide)
  refine⟨_,rfl,_,rfl,a,C,dx,fs,_,rfl,h1,T.cl,T.nP,hP,.str p,ps.map D.str,ae,rfl,ep,dl,by simp[D.dep],_,rfl,?_⟩;rw[j9n hp];refine Zw ?_;refine⟨_,rfl,_,rfl,a,C,dx,fs,_,rfl,h1,T.cl,T.nR,hR,p,b,kvs,rfl,rfl,di,_,rfl,?_⟩;have last:∀kvs':List (ao×Int),dval kvs' p=aa n->kvs'=J4 ⟨a,dx,t,b,fs,ps,fa⟩ kvs p->True:=λ_ _ _=>trivial;have nab:a≠b:=λy=>by rw[y,di]at h1;cases h1
  cases hh:qz kvs p with
  |true =>
   refine Zw ?_;have e:J4 ⟨a,dx,t,b,fs,ps,fa⟩ kvs p=kvs:=if_pos hh;rw[e]at hv3 q;have eH:upd H b (.dK (kvI kvs))=H:=by
    funext c
    by_cases y:c=b
    .rw[y,je,di]
    .rw[jj y]
   rw[show(⟨a,dx,t,b,fs,ps,fa⟩:Ko).b=b from rfl,eH]at q;exact⟨_,rfl,a,C,dx,fs,_,rfl,h1,T.cl,T.nR,hR,_,rfl,b,kvs,p,n,rfl,rfl,di,hv3,q⟩
  |false =>
   refine Uw ?_;have e:J4 ⟨a,dx,t,b,fs,ps,fa⟩ kvs p=kvs++[(p,fa p)]:=if_neg (by rw[hh];decide);rw[e]at hv3 q;have e2:dput kvs p (fa p)=kvs++[(p,fa p)]:=by unfold dput;rw[hh,if_neg (by decide)]
   refine⟨_,rfl,a,dx,fs,rfl,h1,n3,_,rfl,⟨a,dx,t,b,fs,ps,fa⟩,kvs,p,rfl,⟨h1,hP,hR,n1,n2,n3,tp,di⟩,z,hp,?_⟩;refine⟨_,rfl,a,C,dx,fs,_,rfl,h1,T.cl,T.nR,hR,_,rfl,b,kvs,p,_,rfl,di,rfl,rfl,by rw[aW];omega,?_⟩;rw[e2];exact⟨_,rfl,a,C,dx,fs,_,rfl,by rw[jj nab];exact h1,T.cl,T.nR,hR,_,rfl,b,_,p,n,rfl,rfl,je,hv3,q⟩
def Z0:Hp->Ko->Prop:=λ_ o=>∀p,o.fa p=0
theorem j1y {n:Nat} {p1 p2:aL} (F:Fun K "first_answer" "Keeper.first_answer" st f fd) (S:FnScope ["self","place"] ["self","place"] (j0 st)) (hb:jh st=[.Return (aa (.Constant (.int 0) n p1)) p2]):FnOk P w K mg base CX0 1 f fd ["self","place"] (Y8 K C Z0):=by
 refine F.ok S (λvs H Q E h=>?_) (λcdv A outer s H vs Q E hr h=>?_)
 .obtain⟨o,kvs,p,rfl,_⟩:=h;rfl
 .obtain⟨o,kvs,p,rfl,at_,z,hp,q⟩:=h;rw[hb];rw[z p]at q;exact⟨_,Jt (Q5 Mp),q⟩
def ZR(K:k5g):Hp->Ko->Prop:=λH o=>∃(r:ai)(row:List Int),o.fs.lookup ("row":ao)=aa (.ref r)/\SqT K H r (row.map V.int)/\row.length=o.ps.length/\∀p∈o.ps,o.fa p=row.getD (o.ps.idxOf p) 0
noncomputable def j2k(p1 p2 p3 p4 p5 p6 p7 p8 p9:aL):List aG:=[.Return (aa (.Subscript (.Attribute (.Name "self" p1) "row" p2) (.Call (.Attribute (.Attribute (.Name "self" p3) "places" p4) "index" p5) [.Name "place" p6] [] p7) p8)) p9]
theorem Ld:∀{ps:List ao}{p:ao},p∈ps->ixD (.str p) (ps.map D.str)=aa (ps.idxOf p)
 |[],p,h=>by cases h
 |x::ps,p,h=>by
  unfold ixD;rw[xx];dsimp only;rw[Vh,ja];by_cases e:x=p
  .subst e;simp
  .have e2:(x==p)=ae:=by simpa using e
   have h2:p∈ps:=by
    rcases xf.mp h with z|z
    .exact absurd z.symm e
    .exact z
   rw[e2,Ld h2];rfl
theorem j1x {p1 p2 p3 p4 p5 p6 p7 p8 p9:aL} (F:Fun K "first_answer" "RowKeeper.first_answer" st f fd) (c:Cls K C) (nP:vh K C "places") (nW:vh K C "row") (S:FnScope ["self","place"] ["self","place"] (j0 st)) (hb:jh st=j2k p1 p2 p3 p4 p5 p6 p7 p8 p9)
  (hv:Vis (j0 st) "self") (hv2:Vis (j0 st) "place") (hline:(p5.endLine==p7.line)=ag):FnOk P w K mg base CX0 1 f fd ["self","place"] (Y8 K C (ZR K)):=by
 refine F.ok S (λvs H Q E h=>?_) (λcdv A outer s H vs Q E hr h=>?_)
 .obtain⟨o,kvs,p,rfl,_⟩:=h;rfl
 .obtain⟨⟨a,dx,t,b,fs,ps,fa⟩,kvs,p,rfl,⟨h1,hP,hR,n1,n2,n3,tp,di⟩,⟨r,row,hW,sr,hl,hf⟩,hp,q⟩:=h;rw[hb];have hu:A.units+3+100<aY:=by have:=hr.un;have e:(A.deeper (bc "RowKeeper.first_answer" (j0 st) s.heap.objs.size f cdv)).units=A.units+3:=rfl;omega
  refine⟨_,Jt (Q5 (Yu Mv (Vf (qb (i:=0) rfl hv) rfl) (W9 fE df fC (N7 hu) (Vf (qb (i:=0) rfl hv) rfl) (ji (qb (i:=1) rfl hv2) jl) rfl rfl hline) (λ_ _=>rfl))),?_⟩;have h1:H a=aa (.ins C dx fs):=h1;have hp:p∈ps:=hp;have tp:SqT K H t (ps.map V.str):=tp;have dl:D.depL (ps.map D.str)<=97:=Xf (D.depL_of (n:=0) λd hd=>by
   obtain⟨x,_,rfl⟩:=Xn.mp hd
   simp[D.dep]) (by decide)
  have hi:ps.idxOf p<row.length:=by rw[hl];exact T5 hp
  refine⟨_,rfl,a,C,dx,fs,_,rfl,h1,c,nW,hW,_,rfl,a,C,dx,fs,_,rfl,h1,c,nP,hP,.inr (.inl ⟨rfl,_,tp⟩),_,rfl,t,ps.map V.str,ps.map D.str,.str p,_,_,rfl,rfl,tp,Bj ps,rfl,dl,by simp[D.dep],Ld hp,?_⟩;refine⟨r,row.map V.int,_,_,rfl,rfl,sr,Ef (v:=.int (row.getD (ps.idxOf p) 0)) (by rw[Xe,km,kh hi];rfl),?_⟩;rw[<-hf p hp];exact q
end
noncomputable def prD(p:ao×Int):D:=.tup [.str p.1,.int p.2]
theorem j6z:∀{kvs:List (ao×Int)} {vs:List (Key×aj)} {j:Nat} {k:Key} {x:aj},KV (kvI kvs) vs->vs[j]?=aa (k,x)->∃p t,kvs[j]?=aa p/\k=.inr p.1/\x=.int p.2 t
 |[],vs,j,k,x,r,h=>by rw[Us r]at h;cases h
 |p::kvs,vs,j,k,x,r,h=>by
  obtain⟨t,qs,e,r'⟩:=Z8 r;subst e;cases j with
  |zero=>cases h;exact⟨p,t,rfl,rfl,rfl⟩
  |succ j =>obtain⟨p',t',a1,a2,a3⟩:=j6z (kvs:=kvs) (j:=j) r' (by simpa using h);exact⟨p',t',by simpa using a1,a2,a3⟩
noncomputable def tH(H:Hp)(S:ai)(as:List ai)(kvs:List (ao×Int)):Hp:=λb=>if b=S then aa (.lst (as.map V.ref))else match (as.zip kvs).find? (λq=>decide (q.1=b)) with
 |some q=>aa (.tup [.str q.2.1,.int q.2.2])
 |none=>H b
theorem j19{H:Hp}{S b:ai}{as:List ai}{kvs:List (ao×Int)}(ha:∀a∈as,S<a)(h:b<S):tH H S as kvs b=H b:=by
 unfold tH;rw[if_neg (Xa h)];have:(as.zip kvs).find? (λq=>decide (q.1=b))=ah:=by rw[eE];intro q hq z;have z:=of_decide_eq_true z;have:=ha _ (cq hq).1;rw[z]at this;exact absurd h (Nat.lt_asymm this)
 rw[this]
theorem Dh:∀{as:List ai}{kvs:List (ao×Int)} {j:Nat} {a:ai} {p:ao×Int},as.Pairwise (· < ·)->as[j]?=aa a->kvs[j]?=aa p->(as.zip kvs).find? (λq=>decide (q.1=a))=aa (a,p)
 |[],_,j,a,p,_,h,_=>by cases h
 |_::_,[],j,a,p,_,_,h=>by cases h
 |x::as,y::kvs,0,a,p,_,h1,h2=>by cases h1;cases h2;rw[iA,bU,decide_eq_true rfl]
 |x::as,y::kvs,j+1,a,p,hp,h1,h2=>by have hx:x<a:=(List.pairwise_cons.mp hp).1 a (Xg (by simpa using h1));rw[iA,bU,decide_eq_false (Xa hx)];exact Dh (List.pairwise_cons.mp hp).2 (by simpa using h1) (by simpa using h2)
theorem ja6{H:Hp}{S a:ai}{as:List ai}{kvs:List (ao×Int)}{j:Nat}{p:ao×Int}(hp:as.Pairwise (· < ·))(ha:∀a∈as,S<a)(h1:as[j]?=aa a)(h2:kvs[j]?=aa p):tH H S as kvs a=aa (.tup [.str p.1,.int p.2]):=by unfold tH;rw[if_neg (cA (ha _ (Xg h1))),Dh hp h1 h2]
theorem j3q{H:Hp}{S b:ai}{as:List ai}{kvs:List (ao×Int)}{u:HO}(h:tH H S as kvs b=aa u):(b=S/\u=.lst (as.map V.ref))\/(∃(j:Nat)(p:ao×Int),as[j]?=aa b/\kvs[j]?=aa p/\u=.tup [.str p.1,.int p.2])\/(b≠S/\H b=aa u):=by
 unfold tH at h;by_cases e:b=S
 .rw[if_pos e]at h;cases h;exact .inl ⟨e,rfl⟩
 .rw[if_neg e]at h;split at h
  .rename_i q hq;cases h;have e1:q.1=b:=by simpa using fw hq
   obtain⟨j,hj⟩:=List.mem_iff_getElem?.mp (cL hq);obtain⟨z1,z2⟩:=List.getElem?_zip_eq_some.mp hj;exact .inr (.inl ⟨j,q.2,by rw[<-e1];exact z1,z2,rfl⟩)
  .exact .inr (.inr ⟨e,h⟩)
theorem Dj:∀as:List ai,Vals (as.map V.ref) (as.map aK)
 |[]=>.nil
 |_::as=>.cons rfl (Dj as)
theorem Nm{K:k5g}{F:Hp}:∀(as:List ai)(kvs:List (ao×Int)),as.length=kvs.length->(∀(j:Nat)(a:ai)(p:ao×Int),as[j]?=aa a->kvs[j]?=aa p->F a=aa (.tup [.str p.1,.int p.2]))->jd K F (kvs.map prD) (as.map V.ref)
 |[],[],_,_=>rfl
 |[],_::_,h,_=>by cases h
 |_::_,[],h,_=>by cases h
 |a::as,p::kvs,h,f=>⟨_,_,rfl,⟨a,_,rfl,.inl (.inl (f 0 a p rfl rfl)),_,_,rfl,rfl,_,_,rfl,rfl,rfl⟩,Nm as kvs (by simpa using h) λj a p h1 h2=>f (j+1) a p (by simpa using h1) (by simpa using h2)⟩
section
variable{X:Cx}{e:ar}{te:TE}{p p1 p2 pos:aL}
def jdx(K:k5g)(te:TE):TE:=λσ H Q=>te σ H λx H1=>∃(d:ai)(kvs:List (ao×Int)),x=.ref d/\H1 d=aa (.dK (kvI kvs)) /\
 ∀(a:ai)(xs:List V)(H2:Hp),jb H1 H2->H1 a=ah->H2 a=aa (.lst xs)->jd K (del H2 [a]) (kvs.map prD) xs->Q (.ref a) H2
theorem j87 (he:PE X e te) (hh:X.A.handled=ah) (hg:Gl X "list") (hm:X.mg "list" = ah) (hbase:aS e "items" X.env (az e X.env)=az e X.env) (hline:(p1.endLine==p2.line)=ag)
  (hst:af [.Call (.Attribute e "items" p1) [] [] p2] X.env=[(ae,az (.Call (.Attribute e "items" p1) [] [] p2) X.env)]:=by rfl):PE X (.Call (.Name "list" p) [.Call (.Attribute e "items" p1) [] [] p2] [] pos) (jdx X.K te):=by
 intro pins s σ H Q I h;refine bx (Yg I hg hm boot_list ?_ (by decide) (by decide));refine callWith_type1 ?_ hst rfl;rw[hst];refine hV ?_;refine wpAny_Call_method0_late hbase hline (thn (he pins s σ H _ I h) λv s1 ⟨x,H1,I1,r1,d,kvs,ex,hx,q⟩=>?_);subst ex;cases r1;obtain⟨hz,hd,vs,rel,dd⟩:=Fy I1 hx;obtain⟨ep,dd⟩:=dd.dictAt;obtain⟨od,en,h1,h2,h3,_⟩:=id dd;refine⟨"dict","dict.items",PySem.F.plainAttrs_dict,gN,PySem.F.type_dict_items,⟨od,h1,h2.1⟩,λb e=>by cases e;exact⟨od,h1,h2.2.1⟩,gi rfl (PySem.evalArgs_none (j9e ⟨od,h1,h2.1⟩ hd ?_))⟩;refine ip ?_;have v1:(s1.heap.push { cls:=.type "dict_items",data:=.fields #[.ref d] }).get? s1.heap.objs.size=aa { cls:=.type "dict_items",data:=.fields #[.ref d] }:=Xc _ rfl;have I2:=I1.kept (t':=s1.toks) (h':=s1.heap.push { cls:=.type "dict_items",data:=.fields #[.ref d] }) λb o e=>xn _ e;refine W.kdx_call (knd:=Yc X.prog X.w) (kvs:=vs) (ep:=ep) hh ⟨_,v1,rfl,rfl⟩ (dd.push _) (by rw[Ut rel];exact hz) λh' tk acc c as hk hS hl hG hacc=>?_;have low:∀b u,H1 b=aa u->b<(s1.heap.push { cls:=.type "dict_items",data:=.fields #[.ref d] }).objs.size:=λb u e=>(I2.hok b u e).lt;have hlk:as.length=kvs.length:=by rw[hl];have:=Ut rel;omega
 have fr:H1 (s1.heap.push { cls:=.type "dict_items",data:=.fields #[.ref d] }).objs.size=ah:=I2.hok.fresh (X3 _);have sm:jb H1 (tH H1 (s1.heap.push { cls:=.type "dict_items",data:=.fields #[.ref d] }).objs.size as kvs):=λb u e=>by rw[j19 hG.above (low b u e)];exact e
 have un:Un X.fs [] H1 (tH H1 (s1.heap.push { cls:=.type "dict_items",data:=.fields #[.ref d] }).objs.size as kvs) (s1.heap.push { cls:=.type "dict_items",data:=.fields #[.ref d] }) h' :=
  { keep:=λb u q _ _ _=>hk b u q,
    slot:=λb u q _ _ _=>⟨u.slots,hk b u q⟩,
    free:=λb u q n _=>(by rw[j19 hG.above (xm q)];exact n),
    there:=λb u q _=>⟨u,hk b u q⟩,
    tups:=λb xs q=>sm _ _ q,
    frzs:=λb u xs q=>sm _ _ q,
    tbls:=λb ps q=>⟨#[],by rw[sm _ _ q];simp⟩ }
 have hok:HOk X.prog X.w (tH H1 (s1.heap.push { cls:=.type "dict_items",data:=.fields #[.ref d] }).objs.size as kvs) h':=λb u e=>by
  rcases j3q e with ⟨rfl,rfl⟩|⟨j,pr,e1,e2,rfl⟩|⟨nb,e⟩
  .refine⟨by rw[X5,hlk];exact hz,acc.toList,c,?_,by rw[Array.toArray_toList];exact hS⟩;rw[hacc];exact Dj as
  .obtain⟨key,k,x,f1,f2,f3⟩:=hG.pairs j b e1;obtain⟨p',t',g1,g2,g3⟩:=j6z rel f1;rw[e2]at g1;cases g1;subst g2 g3;rcases zm (show Ms (bg pr.1) key=ag from f2)with ⟨i,t,y,_⟩|⟨z,t,y,rfl⟩
   .cases y
   .cases y;refine⟨by show 2<=au;rw[aW];omega,[.str pr.1 t,.int pr.2 t'],.cons ⟨t,rfl⟩ (.cons ⟨t',rfl⟩ .nil),⟨_,f3,rfl,_,rfl⟩,Zy.of f3⟩
  .exact(I2.hok b u e).stay (λc v _ q=>hk c v q) (λc q=>sm _ _ q) (λc xs q=>sm _ _ q) λc _ _ q=>sm _ _ q
 refine⟨.ref _,_,I2.un (t':=tk) un hok,rfl,q _ (as.map V.ref) _ sm fr (by unfold tH;rw[if_pos rfl]) (Nm as kvs hlk λj a pr h1 h2=>?_)⟩;rw[jc (by intro z;exact absurd (hG.above a (Xg h1)) (by rw[X7.mp z];exact Xx _))];exact ja6 hG.rise hG.above h1 h2
end
def M8(K:k5g)(C:ai):Sp:=λvs H Q _=>∃(o:Ko)(kvs:List (ao×Int)),vs=[.ref o.a]/\KpAt K C H o kvs/\∀(a:ai)(xs:List V)(H2:Hp),jb H H2->H a=ah->H2 a=aa (.lst xs)->jd K (del H2 [a]) (kvs.map prD) xs->Q (.ref a) H2
section
variable{P:av}{w:aA}{K:k5g}{mg:k5j}{base:aI}{C fA fT fF f:ai}{fd fdF:aD}{st:aG}{Z:Hp->Ko->Prop}
theorem Ih {p1 p2 p3 p4 p5 p6 p7:aL} (F:Fun K "told" "Keeper.told" st f fd) (T:KpT K C fA fT fF) (S:FnScope ["self"] ["self"] (j0 st)) (hb:jh st=[.Return (aa (.Call (.Name "list" p1) [.Call (.Attribute (.Attribute (.Name "self" p2) "remembered" p3) "items" p4) [] [] p5] [] p6)) p7])
  (hv:Vis (j0 st) "self") (hg:(j0 st).names.lookup ("list":ao)=aa .globalImplicit) (hm:mg "list" = ah) (hline:(p4.endLine==p5.line)=ag):FnOk P w K mg base CX0 1 f fd ["self"] (M8 K C):=by
 refine F.ok S (λvs H Q E h=>?_) (λcdv A outer s H vs Q E hr h=>?_)
 .obtain⟨o,kvs,rfl,_⟩:=h;rfl
 .obtain⟨⟨a,dx,t,b,fs,ps,fa⟩,kvs,rfl,⟨h1,hP,hR,n1,n2,n3,tp,di⟩,q⟩:=h;rw[hb];refine⟨_,Jt (Q5 (j87 (Vf (qb (i:=0) rfl hv) rfl) hr.hd hg hm rfl hline)),?_⟩;exact⟨_,rfl,a,C,dx,fs,_,rfl,h1,T.cl,T.nR,hR,b,kvs,rfl,di,q⟩
end
structure CMeth(K:k5g)(C:ai)(m:ao)(f:ai):Prop where
 ex:∃mc:aj,W.readsIn K C mc=ag/\W.findCls K (.ref C) mc m=aa (.val (.ref f))
 hh:W.handedIn (.ref f)=ag
 ga:W.specialIn K (.ref C) "__getattribute__" = aa (aa (.builtin "type.__getattribute__"))
 kp:W.keepIn K (.ref f)=ag
section
variable{X:Cx}{CX:CXT}{k:Nat}{f C:ai}{fd:aD}{ps:List ao}{sp:Sp}{dvs:List V}{ds:List aj}{E:XK}{x m:ao}{p pos apos:aL}{e o:ar}{es:List ar}{ta:TE}{t:TA}
theorem j4d{pl:iY Bool}(hg:Gl X x)(hmg:X.mg x=aa (.ref C))(M:CMeth X.K C m f)(F:FnOk X.prog X.w X.K X.mg X.base CX k f fd ps sp)(hr:Room k X.A)(hb:Binds X.K fd ps ds)(hd:Vals dvs ds)(hx:Zt CX X E)(ha:PA X (e::es) t)
  (hdb:(x==k5k)=ae) (hst:af (e::es) X.env=(ae,az e X.env)::af es X.env:=by rfl) (hpl:(aJ pos (af es X.env)).any (·.1)=ae:=by rfl)
  (ht:az (.Call (.Attribute (.Name x p) m apos) (e::es) [] pos) X.env=(do
   let ov <-az (.Name x p) X.env
   dQ apos.atName
   let (f,first) <-dk [ov] (cR ov m pl)
   fQ pos f first (aJ pos (af (e::es) X.env)) (bq pos (aT [] X.env))):=by rfl) :
  PE X (.Call (.Attribute (.Name x p) m apos) (e::es) [] pos) (j6j sp dvs E t):=by
 intro pins s σ H Q I h;obtain⟨mc,h1,h2⟩:=M.ex;refine W.methodCall_KW (pl:=pl) (Z7 I hg hmg ?_ hdb) ht;refine W.method_cls I.kIn M.ga (W.cls_value I.kIn h1 h2 M.hh ?_);have I':=I.tok (s.toks+1);refine W.callWith_K (first:=[]) (h₀:=X.base) I.ok.mod.kin M.kp (thn (ha pos pins _ σ H _ I' h) λus s2 ⟨vs,H2,I2,r,q2⟩=>⟨I2.kIn,?_⟩) hst hpl;exact Mh (us:=us) (vs:=vs) F hr hb hd hx I2 r q2
end
noncomputable def kpF(t b:ai):List (ao×V):=[("places",.ref t),("remembered",.ref b)]
noncomputable def rkF(t b r:ai):List (ao×V):=[("places",.ref t),("remembered",.ref b),("row",.ref r)]
theorem j4w (t b:ai):zg "remembered" (.ref b) (zg "places" (.ref t) [])=kpF t b:=by
 have z:¬(("places":ao) = "remembered"):=by decide +kernel
 show(if ("places":ao) = "remembered" then _ else(("places":ao),V.ref t)::zg "remembered" (.ref b) [])=kpF t b;rw[if_neg z];rfl
theorem j44 (t b r:ai):zg "row" (.ref r) (kpF t b)=rkF t b r:=by
 have z1:¬(("places":ao) = "row"):=by decide +kernel
 have z2:¬(("remembered":ao) = "row"):=by decide +kernel
 show(if ("places":ao) = "row" then _ else(("places":ao),V.ref t)::(if ("remembered":ao) = "row" then _ else(("remembered":ao),V.ref b)::zg "row" (.ref r) []))=rkF t b r;rw[if_neg z1,if_neg z2];rfl
noncomputable def j2f(p1 p2 p3 p4 p5 p6 p7 p8 p9 p10 p11 p12 p13 p14:aL):List aG :=
 [.Expr (.Call (.Name "refuse_wrong_places" p1) [.Name "places" p2] [] p3) p4,
 .Assign [.Attribute (.Name "self" p5) "places" p6] (.Call (.Name "tuple" p7) [.Name "places" p8] [] p9) p10,
 .Assign [.Attribute (.Name "self" p11) "remembered" p12] (.Dict [] [] p13) p14]
def j3t(K:k5g)(C:ai)(sq:Bool)(ps:List ao):Sp:=λvs H Q _=>∃(a dx:ai)(v:V),vs=[.ref a,v]/\H a=aa (.ins C dx [])/\TabOk K H/\Enc K H (D.seq sq (ps.map D.str)) v /\
 ∀(t b:ai)(H':Hp),H b=ah->b≠a->H' a=aa (.ins C dx (kpF t b))->SqT K H' t (ps.map V.str)->H' b=aa (.dK (kvI []))->But a H H'->Q .non H'
section
variable{P:av}{w:aA}{K:k5g}{mg:k5j}{base:aI}{C fA fT fF f fR:ai}{fd fdR:aD}{st:aG}{k:Nat}{psR:List ao}{sq:Bool}{ps:List ao}
theorem SqT.but{H H':Hp}{a t:ai}{C dx:ai}{fs:List (ao×V)}{xs:List V}(h:SqT K H t xs)(ha:H a=aa (.ins C dx fs))(b:But a H H'):SqT K H' t xs:=Wl.seqT (Wl.but ha b) h
theorem Ci {p1 p2 p3 p4 p5 p6 p7 p8 p9 p10 p11 p12 p13 p14:aL} (F:Fun K "__init__" "Keeper.__init__" st f fd) (c:Cls K C) (nP:vh K C "places") (nR:vh K C "remembered") (S:FnScope ["self","places"] ["self","places"] (j0 st))
  (hb:jh st=j2f p1 p2 p3 p4 p5 p6 p7 p8 p9 p10 p11 p12 p13 p14) (hv:Vis (j0 st) "self") (hv2:Vis (j0 st) "places") (hgR:(j0 st).names.lookup ("refuse_wrong_places":ao)=aa .globalImplicit) (hgT:(j0 st).names.lookup ("tuple":ao)=aa .globalImplicit) (mT:mg "tuple" = ah)
  (GR:FnOk P w K mg base CX0 k fR fdR psR (spP K λds d=>ds=[D.seq sq (ps.map D.str)]/\d=.non)) (hmR:mg "refuse_wrong_places" = aa (.ref fR)) (kR:W.keepIn K (.ref fR)=ag) (bR:Binds K fdR psR []):FnOk P w K mg base CX0 (k+1) f fd ["self","places"] (j3t K C sq ps):=by
 refine F.ok S (λvs H Q E h=>?_) (λcdv A outer s H vs Q E hr h=>?_)
 .obtain⟨a,dx,v,rfl,_⟩:=h;rfl
 .obtain⟨a,dx,v,rfl,h1,tb,en,q⟩:=h;rw[hb];refine⟨_,qt (Va (Jv GR hr hgR hmR kR bR .nil Jj (ji (qb (i:=1) rfl hv2) jl) (by decide)) rfl) (qt (Dy (qb (i:=0) rfl hv) (Zm Uj hgT mT boot_tuple (ji (qb (i:=1) rfl hv2) jl)) rfl) (Jt (Dy (qb (i:=0) rfl hv) j4c rfl))),?_⟩;refine⟨_,rfl,[],[D.seq sq (ps.map D.str)],.non,tb,(λa h=>nomatch h),by rw[zr];exact⟨v,[],rfl,en,rfl⟩,⟨rfl,rfl⟩,λu H1 g1 _=>?_⟩;have h1':H1 a=aa (.ins C dx []):=g1 _ _ h1;have en1:=en.mono g1;have fin:∀(t:ai)(H2:Hp),jb H1 H2->SqT K H2 t (ps.map V.str)->∀b,upd H2 a (.ins C dx (zg "places" (.ref t) [])) b=ah->Q .non (upd (upd (upd H2 a (.ins C dx (zg "places" (.ref t) []))) b (.dK (kvI []))) a (.ins C dx (zg "remembered" (.ref b) (zg "places" (.ref t) [])))):=λt H2 g2 sqt b hb'=>by
   have nba:b≠a:=λz=>by rw[z,je]at hb';cases hb'
   rw[jj nba]at hb';have hbn:H b=ah:=by
    cases e:H b with
    |none=>rfl
    |some u=>rw[g2 _ _ (g1 _ _ e)]at hb';cases hb'
   have ha2:H2 a=aa (.ins C dx []):=g2 _ _ h1';have bt:But a H2 (upd (upd (upd H2 a (.ins C dx (zg "places" (.ref t) []))) b (.dK (kvI []))) a (.ins C dx (zg "remembered" (.ref b) (zg "places" (.ref t) [])))):=λc' u n hc=>by rw[jj n,jj (jm hc hb'),jj n];exact hc
   refine q t b _ hbn nba (by rw[je,j4w]) (sqt.but ha2 bt) (by rw[jj nba,je]) λc' u n hc=>bt c' u n (g2 _ _ (g1 _ _ hc))
  cases sq with
  |true =>
   obtain⟨l,xs,e,sl,el⟩:=en1;have ex:=Vt el;subst e ex;refine⟨_,rfl,l,_,rfl,.inl ⟨sl,λt ht=>?_⟩⟩;have g2:jb H1 (upd H1 t (.tup (ps.map V.str))):=jg ht;refine⟨_,rfl,a,C,dx,[],rfl,g2 _ _ h1',c,nP,by show 0<1000;decide,λb hb'=>⟨_,rfl,a,C,dx,_,rfl,?_,c,nR,by show 1<1000;decide,fin t _ g2 (.inl (.inl je)) b hb'⟩⟩;have nba:a≠b:=λz=>by rw[<-z,je]at hb';cases hb'
   rw[jj nba,je]
  |false =>
   obtain⟨t,xs,e,sl,el⟩:=en1;have ex:=Vt el;subst e ex;refine⟨_,rfl,t,_,rfl,.inr ⟨sl,?_⟩⟩;refine⟨_,rfl,a,C,dx,[],rfl,h1',c,nP,by show 0<1000;decide,λb hb'=>⟨_,rfl,a,C,dx,_,rfl,?_,c,nR,by show 1<1000;decide,fin t _ (jb.refl _) sl b hb'⟩⟩;have nba:a≠b:=λz=>by rw[<-z,je]at hb';cases hb'
   rw[jj nba,je]
noncomputable def j2e(p1 p2 p3 p4 p5 p6 p7 p8 p9 p10:aL):List aG :=
 [.Expr (.Call (.Attribute (.Name "Keeper" p1) "__init__" p2) [.Name "self" p3,.Name "places" p4] [] p5) p6,
 .Assign [.Attribute (.Name "self" p7) "row" p8] (.Name "row" p9) p10]
def j3d(X:Cx)(o:ar)(m:ao)(e e2:ar)(apos pos:aL):Prop:=∃pl:iY Bool,az (.Call (.Attribute o m apos) [e,e2] [] pos) X.env=(do
   let ov <-az o X.env
   dQ apos.atName
   let (f,first) <-dk [ov] (cR ov m pl)
   fQ pos f first (aJ pos (af [e,e2] X.env)) (bq pos (aT [] X.env)))
def jaa(K:k5g)(C:ai)(sq:Bool)(ps:List ao)(row:List Int):Sp:=λvs H Q _=>∃(a dx r:ai)(v:V),vs=[.ref a,v,.ref r]/\H a=aa (.ins C dx [])/\TabOk K H/\Enc K H (D.seq sq (ps.map D.str)) v/\SqT K H r (row.map V.int) /\
 ∀(t b:ai)(H':Hp),H b=ah->b≠a->H' a=aa (.ins C dx (rkF t b r))->SqT K H' t (ps.map V.str)->SqT K H' r (row.map V.int)->H' b=aa (.dK (kvI []))->But a H H'->Q .non H'
theorem j4h {row:List Int} {CK fK:ai} {fdK:aD} {p1 p2 p3 p4 p5 p6 p7 p8 p9 p10:aL} (F:Fun K "__init__" "RowKeeper.__init__" st f fd) (c:Cls K C) (nW:vh K C "row") (S:FnScope ["self","places","row"] ["self","places","row"] (j0 st))
  (hb:jh st=j2e p1 p2 p3 p4 p5 p6 p7 p8 p9 p10) (hv:Vis (j0 st) "self") (hv2:Vis (j0 st) "places") (hv3:Vis (j0 st) "row") (hgK:(j0 st).names.lookup ("Keeper":ao)=aa .globalImplicit) (mgK:mg "Keeper" = aa (.ref CK)) (M:CMeth K CK "__init__" fK)
  (hm:∀cdv A outer s H E,j3d (qg CX0 P w K mg base ["self","places","row"] "RowKeeper.__init__" (j0 st) f cdv A outer s H E).nox (.Name "Keeper" p1) "__init__" (.Name "self" p3) (.Name "places" p4) p2 p5)
  (GK:FnOk P w K mg base CX0 k fK fdK ["self","places"] (j3t K C sq ps)) (bK:Binds K fdK ["self","places"] []):FnOk P w K mg base CX0 (k+1) f fd ["self","places","row"] (jaa K C sq ps row):=by
 refine F.ok S (λvs H Q E h=>?_) (λcdv A outer s H vs Q E hr h=>?_)
 .obtain⟨a,dx,r,v,rfl,_⟩:=h;rfl
 .obtain⟨a,dx,r,v,rfl,h1,tb,en,sr,q⟩:=h;rw[hb];obtain⟨pl,ht⟩:=hm cdv A outer s H E;refine⟨_,qt (Va (j4d hgK mgK M GK hr bK .nil Jj (ji (qb (i:=0) rfl hv) (ji (qb (i:=1) rfl hv2) jl)) (by decide) rfl rfl ht) rfl) (Jt (Dy (qb (i:=0) rfl hv) (qb (i:=2) rfl hv3) rfl)),?_⟩;refine⟨_,rfl,_,rfl,a,dx,v,rfl,h1,tb,en,λt b H1 hb' nba ha sqt hbd bt=>?_⟩;refine⟨_,rfl,_,rfl,a,C,dx,_,rfl,ha,c,nW,by show 2<1000;decide,?_⟩;have bt2:But a H1 (upd H1 a (.ins C dx (zg "row" (.ref r) (kpF t b)))):=λc' u n hc=>by rw[jj n];exact hc
  exact q t b _ hb' nba (by rw[je,j44]) (sqt.but ha bt2) ((sr.but h1 bt).but ha bt2) (by rw[jj nba];exact hbd) (bt.trans bt2)
end
section
variable{X:Cx}{st:aG}{c:ar}{σ:St}{H:Hp}
theorem Wq{A:List ai}{D D':Ends}(hA:∀a∈A,Hq (H a))(h:Dt X st D' σ (del H A))(hn:∀σ' F,D'.nx σ' F->(∀a∈A,F a=ah)->D.nx σ' (mrg A H F))(hr:∀v F,D'.rt v F->D.rt v (mrg A H F))(hb:∀v F,¬D'.bk v F)(hc:∀v F,¬D'.ct v F):Dt X st D σ H :=
 λpins s I=>thn (h _ s (I.hideQ hA)) λf s' q=>by
  cases f with
  |next=>obtain⟨σ',F,I',q⟩:=q;obtain⟨n,I2⟩:=I.unhideQ hA I';exact⟨σ',_,I2,hn σ' F q n⟩
  |brk=>obtain⟨σ',F,_,q⟩:=q;exact absurd q (hb _ _)
  |cont=>obtain⟨σ',F,_,q⟩:=q;exact absurd q (hc _ _)
  |ret u =>
   obtain⟨v,σ',F,F2,I',rv,ex,q⟩:=q;obtain⟨n,I2⟩:=I.unhideQ hA I';refine⟨v,σ',_,mrg A H F2,I2,rv,λb=>?_,hr v F2 q⟩;by_cases hb':b∈A
   .exact .inl (by unfold mrg;rw[if_pos hb',if_pos hb'])
   .rcases ex b with e|⟨x,o,v',e1,e2,e3,e4,e5⟩
    .exact .inl (by unfold mrg;rw[if_neg hb',if_neg hb'];exact e)
    .exact .inr ⟨x,o,v',e1,e2,by unfold mrg;rw[if_neg hb'];exact e3,e4,e5⟩
theorem Vx{A:List ai}{Q Q':Bool->Hp->Prop}(hA:∀a∈A,Hq (H a))(h:Ds X c σ (del H A) Q')(hq:∀v F,Q' v F->(∀a∈A,F a=ah)->Q v (mrg A H F)):Ds X c σ H Q :=
 λpins s I=>thn (h _ s (I.hideQ hA)) λv s' ⟨F,I',q⟩=>let ⟨n,I2⟩:=I.unhideQ hA I';⟨_,I2,hq v F q n⟩
end
structure KFo(K:k5g)(C:ai)(Z:Hp->Ko->Prop)(G:Hp)(o:Ko):Prop where
 ob:G o.a=aa (.ins C o.dx o.fs)
 fP:o.fs.lookup ("places":ao)=aa (.ref o.t)
 fR:o.fs.lookup ("remembered":ao)=aa (.ref o.b)
 n1:o.fs.lookup ("answer":ao)=ah
 n2:o.fs.lookup ("told":ao)=ah
 n3:o.fs.lookup ("first_answer":ao)=ah
 tp:SqT K G o.t (o.ps.map V.str)
 z:Z G o
def ZOk(Z:Hp->Ko->Prop):Prop:=∀G G' o,jb G G'->Z G o->Z G' o
theorem jdu:ZOk Z0:=λ_ _ _ _ h=>h
theorem j6e(K:k5g):ZOk (ZR K):=λ_ _ _ g ⟨r,row,h1,h2,h3⟩=>⟨r,row,h1,g.seqT h2,h3⟩
section
variable{K:k5g}{C:ai}{Z:Hp->Ko->Prop}{G G' F:Hp}{o:Ko}{kvs:List (ao×Int)}
theorem KFo.stay(hz:ZOk Z)(h:KFo K C Z G o)(g:jb G G'):KFo K C Z G' o:=⟨g _ _ h.ob,h.fP,h.fR,h.n1,h.n2,h.n3,g.seqT h.tp,hz _ _ _ g h.z⟩
theorem KFo.at_(hz:ZOk Z)(h:KFo K C Z G o)(g:jb G F)(hb:F o.b=ah):KpAt K C (upd F o.b (.dK (kvI kvs))) o kvs/\Z (upd F o.b (.dK (kvI kvs))) o :=
 have g2:jb G (upd F o.b (.dK (kvI kvs))):=g.trans (jg hb)
 ⟨⟨g2 _ _ h.ob,h.fP,h.fR,h.n1,h.n2,h.n3,g2.seqT h.tp,je⟩,hz _ _ _ g2 h.z⟩
end
structure Pk where
 nx:Rho->List (ao×Int)->Prop
 rt:Bool->Prop
structure EndsK(X:Cx)(o:Ko)(ρ:Rho)(F:Hp)(P:Pk)(E:Ends):Prop where
 nx:∀ρ' kvs' σ' F',P.nx ρ' kvs'->Rep X.K ρ' σ' F'->F' o.b=ah->Fr0 ρ ρ' F F'->E.nx σ' (upd F' o.b (.dK (kvI kvs')))
 rt:∀b kvs' F',P.rt b->jb (del F (owns ρ)) F'->E.rt (.bl b) (upd F' o.b (.dK (kvI kvs')))
def KSs(X:Cx)(C:ai)(Z:Hp->Ko->Prop)(o:Ko)(ρ:Rho)(kvs:List (ao×Int))(sts:List aG)(P:Pk):Prop :=
 ∀σ F E,Rep X.K ρ σ F->F o.b=ah->KFo X.K C Z (del F (owns ρ)) o->EndsK X o ρ F P E->Jx X sts E σ (upd F o.b (.dK (kvI kvs)))
section
variable{X:Cx}{C:ai}{Z:Hp->Ko->Prop}{o:Ko}{ρ ρ1:Rho}{F F1:Hp}{P:Pk}{E:Ends}{kvs:List (ao×Int)}{st:aG}{rest:List aG}{σ:St}
theorem EndsK.step(h:EndsK X o ρ F P E)(f:Fr0 ρ ρ1 F F1):EndsK X o ρ1 F1 P E:=⟨λρ' kvs' σ' F' n R hb g=>h.nx ρ' kvs' σ' F' n R hb (jb.trans f g),λb kvs' F' n g=>h.rt b kvs' F' n (jb.trans f g)⟩
theorem Vg{F:Hp}{b:ai}{kvs:List (ao×Int)}:∀c∈[b],Hq (upd F b (.dK (kvI kvs)) c):=λc hc=>.inr (.inr ⟨kvI kvs,by rw[X7.mp hc];exact je⟩)
theorem KSs.nil(h:P.nx ρ kvs):KSs X C Z o ρ kvs [] P:=λσ F E R hb _ q=>Qq.to (q.nx ρ kvs σ F h R hb (Fr0.refl ρ F))
theorem KSs.plain(hz:ZOk Z){N:Rho->Prop}(h1:DS X ρ st { nx:=N,rt:=λr=>∃b,r=.val (.bl b)/\P.rt b })(h2:∀ρ1,N ρ1->KSs X C Z o ρ1 kvs rest P):KSs X C Z o ρ kvs (st::rest) P:=λσ F E R hb kf q=>by
 refine(qt psS zj).to (Wq (A:=[o.b]) (D':={ nx:=λσ' F'=>∃ρ',N ρ'/\Rep X.K ρ' σ' F'/\Fr0 ρ ρ' F F',rt:=λv F'=>∃b,v=.bl b/\P.rt b/\jb (del F (owns ρ)) F' }) Vg ?_ ?_ ?_ (λ_ _ h=>h) (λ_ _ h=>h))
 .rw[J2 hb];refine h1 σ F _ R ⟨λρ' σ' F' n R' f=>⟨ρ',n,R',f⟩,λ_ _ _ n=>n.elim,λ_ _ _ n=>n.elim,λr v F' ⟨b,e,n⟩ z=>?_,λ_ _ _ _ n=>n.elim⟩;subst e;obtain⟨g,en⟩:=z;exact⟨b,en,n,g⟩
 .rintro σ' F' ⟨ρ',n,R',f⟩ hn;rw[J6 je];exact h2 ρ' n σ' F' E R' (hn o.b (by simp)) (kf.stay hz f) (q.step f)
 .rintro v F' ⟨b,rfl,n,g⟩;rw[J6 je];exact q.rt b kvs F' n g
end
def Qf(o:Ko)(kvs:List (ao×Int)):Prop:=∀q∈kvs,q.2=o.fa q.1
theorem Cy{o:Ko}{kvs:List (ao×Int)}{p:ao}(h:Qf o kvs):Qf o (J4 o kvs p):=by
 unfold J4;split
 .exact h
 .intro q hq;rcases Pr.mp hq with z|z
  .exact h q z
  .rw[X7.mp z]
theorem j4v{o:Ko}{p:ao}:∀{kvs:List (ao×Int)},Qf o kvs->dval (J4 o kvs p) p=aa (o.fa p):=λ{kvs} h=>by
 unfold J4 dval;by_cases e:qz kvs p=ag
 .rw[if_pos e];unfold qz at e;cases f:kvs.find? (λq=>decide (q.1=p)) with
  |none =>obtain⟨q,hq,z⟩:=List.any_eq_true.mp e;exact absurd z (by simpa using List.find?_eq_none.mp f q hq)
  |some q =>
   have e1:q.1=p:=by simpa using fw f
   have e2:=h q (cL f);rw[e1]at e2;exact congrArg aa e2
 .rw[if_neg e];have f:kvs.find? (λq=>decide (q.1=p))=ah:=by rw[eE];intro q hq z;exact e (List.any_eq_true.mpr ⟨q,hq,z⟩)
  rw[List.find?_append,f];simp
theorem Cw{o:Ko}{kvs:List (ao×Int)}{p:ao}:(J4 o kvs p).length<=kvs.length+1:=by unfold J4;split<;>simp
structure KpX(X:Cx)(C:ai)(Z:Hp->Ko->Prop):Prop where
 ex:∃(fA fT fF:ai)(dA dT:aD),KpT X.K C fA fT fF/\(FnOk X.prog X.w X.K X.mg X.base CX0 2 fA dA ["self","place"] (Yo X.K C Z)/\Binds X.K dA ["self","place"] [])/\(FnOk X.prog X.w X.K X.mg X.base CX0 1 fT dT ["self"] (M8 X.K C)/\Binds X.K dT ["self"] [])/\Room 3 X.A
section
variable{X:Cx}{C:ai}{Z:Hp->Ko->Prop}{o:Ko}{ρ ρ1:Rho}{F F1:Hp}{P:Pk}{E:Ends}{kvs:List (ao×Int)}{st:aG}{rest:List aG}{σ:St}{pi i:Nat}{ob:cw}{x y p:ao}{py p1 p2 p3 pos:aL}{e:ar}
theorem Wr {Q:VK} (T:KpX X C Z) (hz:ZOk Z) (hp:ρ[pi]?=aa (.raw o.a ob rfN)) (hpN:X.N[pi]?=aa y) (hv:Vis X.env.scope y) (hd:(y==k5k)=ae) (hcd:(y==k5l)=ae) (mc:Z3 X (.Name y py) "answer" e p1 p2)
  (hst:af [e] X.env=(ae,az e X.env)::af [] X.env) (he:DT X ρ e (.str p)) (hps:p∈o.ps) (hl:o.ps.length<=1000) (hk:kvs.length<1000) (hc:Qf o kvs)
  (R:Rep X.K ρ σ F) (hb:F o.b=ah) (kf:KFo X.K C Z (del F (owns ρ)) o) (q:∀F',jb F F'->F' o.b=ah->Q (.int (o.fa p)) (upd F' o.b (.dK (kvI (J4 o kvs p))))):vm X (.Call (.Attribute (.Name y py) "answer" p1) [e] [] p2) σ (upd F o.b (.dK (kvI kvs))) Q:=by
 obtain⟨fA,fT,fF,dA,dT,T,⟨GA,bA⟩,_,hr⟩:=T.ex;obtain⟨pl,ht⟩:=mc;have at0:=(kf.at_ (kvs:=kvs) hz jq hb).1;refine(Ib (qb hpN hv hd hcd) T.cl T.mA GA (hr.mono (by decide)) bA .nil Jj (ji peS jl hst) hst rfl ht).to ⟨_,(R.raw pi _ _ _ hp).1,o.a,o.dx,_,rfl,at0.ob,kf.n1,?_⟩;refine Jh (A:=[o.b]) (Q':=λv F'=>jb F F'/\Enc X.K F' (.str p) v) Vg (by rw[J2 hb];exact he σ F _ R λv F' g en=>⟨g,en⟩) λv F' ⟨g,en⟩ hn=>?_;rw[J6 je];have hb':F' o.b=ah:=hn o.b (by simp);cases(show v=.str p from en);obtain⟨a1,z1⟩:=kf.at_ (kvs:=kvs) hz (jq.trans g) hb';refine⟨o,kvs,p,o.fa p,rfl,a1,z1,hps,hl,hk,j4v hc,?_⟩;rw[j7h];exact q F' g hb'
theorem KSs.ans (T:KpX X C Z) (hz:ZOk Z) (hp:ρ[pi]?=aa (.raw o.a ob rfN)) (hpN:X.N[pi]?=aa y) (hv:Vis X.env.scope y) (hd:(y==k5k)=ae) (hcd:(y==k5l)=ae) (mc:Z3 X (.Name y py) "answer" e p1 p2)
  (hst:af [e] X.env=(ae,az e X.env)::af [] X.env) (he:DT X ρ e (.str p)) (hps:p∈o.ps) (hl:o.ps.length<=1000) (hk:kvs.length<1000) (hc:Qf o kvs)
  (hN:X.N.Nodup) (hi:X.N[i]?=aa x) (hx:Loc X.env.scope x) (hs:aO (.Call (.Attribute (.Name y py) "answer" p1) [e] [] p2) (aa (.Name x p3)) pos.line X.env=pure ae) (hf:X.fn x=ag\/X.env.scope.names.lookup x=aa .local)
  (h2:KSs X C Z o (ρ.set i (.val (.int (o.fa p)))) (J4 o kvs p) rest P):KSs X C Z o ρ kvs (.Assign [.Name x p3] (.Call (.Attribute (.Name y py) "answer" p1) [e] [] p2) pos::rest) P:=λσ F E R hb kf q =>
 (qt (Ve hN hi hx peS hs hf) zj).to (Wr T hz hp hpN hv hd hcd mc hst he hps hl hk hc R hb kf λF' g hb'=>by
  have sub:∀b∈owns (ρ.set i (.val (.int (o.fa p)))),b∈owns ρ:=λb hb=>(ju rfl).subset hb
  exact h2 _ F' E ((R.grow g).set_val rfl) hb' (kf.stay hz ((jk g).trans (J7 sub))) (q.step ((Fr0.grow g).trans (Fr0.drop sub))))
end
end L2
end
section
namespace L2
noncomputable def step(acc:List (List Int))(f:List Int):List (List Int):=acc.flatMap λa=>f.map λx=>a++[x]
end L2
end
section
namespace L2
open PySem
inductive Sv where
 |un
 |val (d:D)
 |own (l:List D)
 |exc (x:ao)
noncomputable abbrev En:=List Sv
set_option genInjectivity true in
inductive Rk where
 |e (d:D)
 |o (l:List D)
 |w (l:List D)
 |t (d:D)
noncomputable def Rk.d:Rk->D
 |.e d=>d
 |.o l=>.lst l
 |.w l=>.lst l
 |.t d=>d
noncomputable def Rk.st:Rk->Option D
 |.e d=>aa d
 |.o l=>aa (.lst l)
 |.w l=>ah
 |.t d=>if Jy d=ag then aa d else ah
noncomputable def Rk.sq:Rk->Option (Bool×List D)
 |.e (.lst l)=>aa (ag,l)
 |.e (.tup l)=>aa (ae,l)
 |.o l=>aa (ag,l)
 |.w l=>aa (ag,l)
 |_=>ah
noncomputable def Rk.lw:Rk->Option (List D)
 |.o l=>aa l
 |.w l=>aa l
 |_=>ah
inductive Rc where
 |val (d:D)
 |fresh (l:List D)
 |err (x:ao)
 |lval (d:D)
 |mval (d:D) (k:Nat)
 |merr (x:ao)
 |dval (d:D) (ks:List (List Int)) (ns:List Int)
 |hnd (sp:k5g->(ao->Option aj)->Sp)
 |no
noncomputable def Rc.rk:Rc->Option Rk
 |.val d=>aa (.e d)
 |.fresh l=>aa (.o l)
 |_=>ah
inductive Bop where
 |add|sub|mul|fdiv|mod|pow|shl|shr|band|bxor
inductive Cop where
 |lt|le|gt|ge|eq|ne|isin|notin
inductive Bf where
 |len|min|max|all|tuple|list|sum|int|any|sorted
inductive Ex where
 |lit (d:D)
 |var (i:Nat)
 |glob (x:ao)
 |bin (op:Bop) (a b:Ex)
 |cmp (op:Cop) (a b:Ex)
 |isN (a:Ex)
 |and (a b:Ex)
 |or (a b:Ex)
 |not (a:Ex)
 |ite (c a b:Ex)
 |nil
 |cons (a b:Ex)
 |tup (es:Ex)
 |lst (es:Ex)
 |ix (a b:Ex)
 |sl (a lo hi:Ex)
 |call (f:ao) (es:Ex)
 |blt (f:Bf) (es:Ex)
 |isi (a:Ex) (ts:List String)
 |comp (is:List Nat) (elt it cond:Ex)
 |seq (a:Ex)
 |range (es:Ex)
 |fst (es:Ex)
 |join (sep:ao) (a:Ex)
 |tix (a b:Ex)
 |rpr (a:Ex)
 |exc (a:Ex)
 |dget (a b:Ex)
set_option genInjectivity true in
inductive W where
 |v (r:Rk)
 |a (rs:List Rk)
 |i (ds:List D)
noncomputable def jt(n:Nat):Bool:=decide (n<=au)
noncomputable def binI:Bop->Int->Int->Option Int
 |.add,i,j=>aa (i+j)
 |.sub,i,j=>aa (i-j)
 |.mul,i,j=>if (-(2^64)<i/\i<2^64)\/(-(2^64)<j/\j<2^64)then aa (i*j)else ah
 |.fdiv,i,j=>if 0<j/\j<18446744073709551616 then aa (i/j)else ah
 |.mod,i,j=>if 0<j then aa (i%j)else ah
 |.pow,i,j=>if 0<=j/\j<=1000000/\i.natAbs<2^64 then aa (i^j.toNat)else ah
 |.shl,i,j=>if 0<=j/\j<=1000000/\i.natAbs<2^64 then aa (i*2^j.toNat)else ah
 |.shr,i,j=>if 0<=j then aa (i/2^j.toNat)else ah
 |.band,i,j=>aa (Builtin.bitAnd i j)
 |.bxor,i,j=>aa (Builtin.bitXor i j)
noncomputable def Ua(op:Bop)(a b:Rk):Option Rk :=
 match a.d,b.d with
 |.int i,.int j=>(binI op i j).map λk=>.e (.int k)
 |.str y,.str z=>match op with
  |.add=>if jt (y.length+z.length)=ag then aa (.e (.str (y++z)))else ah
  |_=>ah
 |.str y,.int k=>match op with
  |.mul=>if (1<=k/\k<=1000)/\y.length<=1000 then aa (.e (.str (iC y k)))else ah
  |_=>ah
 |_,_=>match op,a.sq,b.sq,b.d with
  |.add,aa (ag,l),aa (ag,m),_=>if jt (l.length+m.length)=ag then aa (.o (l++m))else ah
  |.add,aa (ae,l),aa (ae,m),_=>if jt (l.length+m.length)=ag then aa (.e (.tup (l++m)))else ah
  |.mul,aa (ae,l),_,.int k=>if 1<=k/\k<2^63/\l.isEmpty=ae/\jt (l.length*k.toNat)=ag then aa (.e (.tup (ay k.toNat l).flatten))else ah
  |.mul,_,_,.int k=>match a.lw with
   |some l=>if -(2^63)<=k/\k<2^63/\jt (l.length*k.toNat)=ag then aa (.o (ay k.toNat l).flatten)else ah
   |none=>ah
  |_,_,_,_=>ah
noncomputable def cmpI:Cop->Int->Int->Option Bool
 |.lt,i,j=>aa (decide (i<j))
 |.le,i,j=>aa (decide (i<=j))
 |.gt,i,j=>aa (decide (j<i))
 |.ge,i,j=>aa (decide (j<=i))
 |.eq,i,j=>aa (decide (i=j))
 |.ne,i,j=>aa (!decide (i=j))
 |_,_,_=>ah
noncomputable def D.sqv:D->Option (Bool×List D)
 |.lst l=>aa (ag,l)
 |.tup l=>aa (ae,l)
 |_=>ah
noncomputable def Jr(op:Cop)(a b:D):Option Bool :=
 match op,a,b with
 |op,.int i,.int j=>cmpI op i j
 |.eq,a,b=>if a.dep<=90/\b.dep<=90 then aa (deq a b)else ah
 |.ne,.bl a,.bl b=>aa (a != b)
 |.ne,.str a,.str b=>aa (!decide (a=b))
 |.ne,.non,.non=>aa ae
 |.ne,.lst l,.lst m=>if D.depL l<=90/\D.depL m<=90 then aa (!vd l m)else ah
 |.ne,.tup l,.tup m=>if D.depL l<=90/\D.depL m<=90 then aa (!vd l m)else ah
 |.isin,.str a,.str b=>aa (inS a b)
 |.lt,.str a,.str b=>aa (decide (a.cps.toList<b.cps.toList))
 |.gt,.str a,.str b=>aa (decide (b.cps.toList<a.cps.toList))
 |.isin,a,b=>match b.sqv with
  |some (_,l)=>if D.depL l<=90/\a.dep<=90 then aa (l.any λe=>deq e a)else ah
  |none=>ah
 |.notin,a,b=>match b.sqv with
  |some (_,l)=>if D.depL l<=90/\a.dep<=90 then aa (!l.any λe=>deq e a)else ah
  |none=>ah
 |_,_,_=>ah
noncomputable def boolsOf:List D->Option (List Bool)
 |[]=>aa []
 |.bl b::r=>(boolsOf r).map (b :: ·)
 |_::_=>ah
noncomputable def intsOf:List D->Option (List Int)
 |[]=>aa []
 |.int b::r=>(intsOf r).map (b :: ·)
 |_::_=>ah
noncomputable def strsOf:List D->Option (List ao)
 |[]=>aa []
 |.str b::r=>(strsOf r).map (b :: ·)
 |_::_=>ah
noncomputable def Vk:Bf->List Rk->Option Rk
 |.len,[a]=>match a.d with
  |.lst l=>aa (.e (.int l.length))
  |.tup l=>aa (.e (.int l.length))
  |.str y=>if jt y.length=ag then aa (.e (.int y.length))else ah
  |_=>ah
 |.min,[a,b]=>match a.d,b.d with
  |.int i,.int j=>aa (.e (.int (if j<i then j else i)))
  |_,_=>ah
 |.max,[a,b]=>match a.d,b.d with
  |.int i,.int j=>aa (.e (.int (if j>i then j else i)))
  |_,_=>ah
 |.max,[a]=>match a.d with
  |.lst l=>match intsOf l with
   |some ns=>if ns.isEmpty=ae then aa (.e (.int (Y0 ns)))else ah
   |none=>ah
  |_=>ah
 |.min,[a]=>match a.d with
  |.lst l=>match intsOf l with
   |some ns=>if ns.isEmpty=ae then aa (.e (.int (Ur ns)))else ah
   |none=>ah
  |_=>ah
 |.all,[a]=>match a.d with
  |.lst l=>(boolsOf l).map λbs=>.e (.bl (bs.all id))
  |_=>ah
 |.any,[a]=>match a.d with
  |.lst l=>(boolsOf l).map λbs=>.e (.bl (bs.any id))
  |_=>ah
 |.tuple,[a]=>match a.sq with
  |some (_,l)=>aa (.e (.tup l))
  |none=>ah
 |.list,[a]=>match a.sq with
  |some (_,l)=>aa (.o l)
  |none=>ah
 |.sum,[a]=>match a.d with
  |.lst l=>(intsOf l).map λns=>.e (.int ns.sum)
  |.tup l=>(intsOf l).map λns=>.e (.int ns.sum)
  |_=>ah
 |.int,[a]=>match a.d with
  |.bl k=>aa (.e (.int (if k then 1 else 0)))
  |.str y=>if y.length<=640 then(fM y).map λn=>.e (.int n)else ah
  |_=>ah
 |_,_=>ah
noncomputable def qw(t c:String):Option Bool :=
 if t = "function" then ah else
 if c = "int" then aa (t == "int" || t == "bool") else
 if c = "bool" then aa (t == "bool") else
 if c = "str" then aa (t == "str") else
 if c = "list" then aa (t == "list") else
 if c = "tuple" then aa (t == "tuple")else ah
noncomputable def qi(d:D):List String->Option Bool
 |[]=>aa ae
 |c::cs=>match qw d.ty c,qi d cs with
  |some a,aa b=>aa (a || b)
  |_,_=>ah
noncomputable def zx:List Nat->D->En->Option En
 |[i],d,ρ=>aa (ρ.set i (.val d))
 |[i,j],d,ρ=>match d with
  |.tup [a,b]=>aa ((ρ.set i (.val a)).set j (.val b))
  |_=>ah
 |[i,j,k],d,ρ=>match d with
  |.tup [a,.tup [b,c]]=>aa (((ρ.set i (.val a)).set j (.val b)).set k (.val c))
  |_=>ah
 |[i,j,k,_],d,ρ=>match d with
  |.tup [a,b,c]=>aa (((ρ.set i (.val a)).set j (.val b)).set k (.val c))
  |_=>ah
 |_,_,_=>ah
noncomputable def O4(is:List Nat)(ρ:En):Bool:=is.all λi=>match ρ[i]? with
 |some .un=>ag
 |_=>ae
noncomputable def Jq(f:D->Option (Option D)):List D->Option (List D)
 |[]=>aa []
 |d::ds=>match f d,Jq f ds with
  |some (aa x),aa xs=>aa (x::xs)
  |some ah,aa xs=>aa xs
  |_,_=>ah
noncomputable def zu:List Rk->Option (List D)
 |[]=>aa []
 |r::rs=>match r.st,zu rs with
  |some d,aa ds=>aa (d::ds)
  |_,_=>ah
noncomputable def W.one:W->Option Rk
 |.v r=>aa r
 |_=>ah
noncomputable def W.args:W->Option (List Rk)
 |.a rs=>aa rs
 |_=>ah
noncomputable def W.it:W->Option (List D)
 |.i ds=>aa ds
 |_=>ah
noncomputable def Q6:Option W->Option (Option Int)
 |some (.a [])=>aa ah
 |some (.a [r])=>match r.d with
  |.int i=>aa (aa i)
  |_=>ah
 |_=>ah
noncomputable def truth:Option W->Option Bool
 |some (.v r)=>match r.d with
  |.bl k=>aa k
  |_=>ah
 |_=>ah
noncomputable def j5l:Ex->Option Nat
 |.seq (.var i)=>aa i
 |_=>ah
noncomputable def frz(t:Ex)(ρ:En):En:=match j5l t with
 |some i=>match ρ[i]? with
  |some (.own l)=>ρ.set i (.val (.lst l))
  |_=>ρ
 |none=>ρ
noncomputable def Jd(t:Ex)(ρ:En):Bool:=match j5l t with
 |some i=>match ρ[i]? with
  |some (.own _)=>ag
  |_=>ae
 |none=>ae
noncomputable def Qj:D->Option ao
 |.int i=>if -18446744073709551616<i/\i<18446744073709551616 then aa (ke (toString i))else ah
 |.str y=>if y.length<=10000 then aa y else ah
 |.tup l=>match intsOf l with
  |some is=>if (∀i∈is,-18446744073709551616<i/\i<18446744073709551616)/\(tupS is).length<=10000 then aa (tupS is)else ah
  |none=>ah
 |_=>ah
noncomputable def Q7:List Rk->Option (List ao)
 |[]=>aa []
 |r::rs=>match Qj r.d,Q7 rs with
  |some y,aa ys=>aa (y::ys)
  |_,_=>ah
noncomputable def bang(x:ao):ao:=("!":ao)++x
noncomputable def qm(f:ao):ao:=("??":ao)++f
noncomputable def mq(f:ao):ao:=("@":ao)++f
noncomputable def dq(f:ao):ao:=("#":ao)++f
noncomputable def gq(f:ao):ao:=("&":ao)++f
noncomputable def tupI:D->Option (List Int)
 |.tup l=>intsOf l
 |_=>ah
noncomputable def Rc.lv:Rc->Option W
 |.lval d=>aa (.v (.e d))
 |_=>ah
noncomputable def j5k(w:Option W):Option W:=match w with
 |some (.a rs)=>if rs.length<=1000 then(Q7 rs).map λys=>.v (.e (.str (Ft cB ys)))else ah
 |_=>ah
noncomputable def Oh(s:Option Sv):Option W:=match s with
 |some (.val d)=>aa (.v (.e d))
 |some (.own l)=>aa (.v (.w l))
 |_=>ah
noncomputable def blW(i:Option Bool):Option W:=i.map λk=>.v (.e (.bl k))
noncomputable def rkW(r:Option Rk):Option W:=r.map .v
noncomputable def Z2(op:Bop)(a b:Option W):Option W:=match a,b with
 |some (.v x),aa (.v y)=>rkW (Ua op x y)
 |_,_=>ah
noncomputable def Bk(op:Cop)(a b:Option W):Option W:=match a,b with
 |some (.v x),aa (.v y)=>blW (Jr op x.d y.d)
 |_,_=>ah
noncomputable def consW(a b:Option W):Option W:=match a,b with
 |some (.v x),aa (.a xs)=>aa (.a (x::xs))
 |_,_=>ah
noncomputable def Yl(a:Option W):Option W:=match a with
 |some (.a rs)=>match zu rs with
  |some ds=>if jt ds.length=ag then aa (.v (.e (.tup ds)))else ah
  |none=>ah
 |_=>ah
noncomputable def Yx(a:Option W):Option W:=match a with
 |some (.a rs)=>match zu rs with
  |some ds=>if jt ds.length=ag then aa (.v (.o ds))else ah
  |none=>ah
 |_=>ah
noncomputable def ixW(a b:Option W):Option W:=match a,b with
 |some (.v x),aa (.v y)=>match x.sq,y.d with
  |some (_,l),.int i=>(atI l i).map λd=>.v (.e d)
  |none,.int i=>match x.d with
   |.str z=>if jt z.length=ag then(atI z.cps.toList i).map λc=>.v (.e (.str ⟨#[c]⟩))else ah
   |_=>ah
  |_,_=>ah
 |_,_=>ah
noncomputable def Wb(sep:ao)(a:Option W):Option W:=match a with
 |some (.v x)=>match x.d with
  |.lst l=>match strsOf l with
   |some ts=>if eQ sep ts=ag then aa (.v (.e (.str (dN sep ts))))else ah
   |none=>ah
  |_=>ah
 |_=>ah
noncomputable def Uk(a b:Option W):Option W:=match a,b with
 |some (.v x),aa (.v y)=>match x.d with
  |.tup l=>if D.depL l<=90/\y.d.dep<=90 then(ixD y.d l).map λk=>.v (.e (.int (k:Nat)))else ah
  |.lst l=>if D.depL l<=90/\y.d.dep<=90 then(ixD y.d l).map λk=>.v (.e (.int (k:Nat)))else ah
  |_=>ah
 |_,_=>ah
noncomputable def Qa(Γ:ao->List D->Rc)(f:ao)(a:Option W):Option W:=match a with
 |some (.a rs)=>match zu rs with
  |some ds=>rkW (Γ f ds).rk
  |none=>match Γ f (rs.map Rk.d) with
   |.val d=>aa (.v (.t d))
   |.fresh l=>if qu l=ag then aa (.v (.o l))else ah
   |_=>ah
 |_=>ah
noncomputable def Jl(f:Bf)(a:Option W):Option W:=match a with
 |some (.a rs)=>rkW (Vk f rs)
 |_=>ah
noncomputable def Bd(a:Option W)(ts:List String):Option W:=match a with
 |some (.v x)=>blW (qi x.d ts)
 |_=>ah
noncomputable def Ul(a:Option W):Option W:=match a with
 |some (.v (.e (.lst l)))=>aa (.i l)
 |some (.v (.e (.tup l)))=>aa (.i l)
 |some (.v (.o l))=>aa (.i l)
 |some (.v (.e (.str y)))=>if ascii y=ag then aa (.i (chs y))else ah
 |_=>ah
noncomputable def Uo(a:Option W):Option W:=match a with
 |some (.a [x])=>match x.d with
  |.int n=>if -(2^62)<=n/\n<2^62 then aa (.i (upto 0 n.toNat))else ah
  |_=>ah
 |some (.a [x,y])=>match x.d,y.d with
  |.int m,.int n=>if -(2^62)<=m/\m<2^62/\-(2^62)<=n/\n<2^62 then aa (.i (upto m (n-m).toNat))else ah
  |_,_=>ah
 |_=>ah
noncomputable def noOwn(ρ:En):Bool:=ρ.all λs=>match s with
 |.own _=>ae
 |_=>ag
noncomputable def jfj(a b:Option W):Option W:=match a,b with
 |some (.v (.e (.dct ks ds))),aa (.v y)=>match tupI y.d with
  |some k=>(j0k ks ds k).map λd=>.v (.e d)
  |none=>ah
 |_,_=>ah
noncomputable def ev(Γ:ao->List D->Rc)(G:ao->Option D):Ex->En->Option W
 |.lit d,_=>aa (.v (.e d))
 |.var i,ρ=>Oh ρ[i]?
 |.glob x,_=>(G x).map λd=>.v (.e d)
 |.bin op a b,ρ=>Z2 op (ev Γ G a ρ) (ev Γ G b ρ)
 |.cmp op a b,ρ=>Bk op (ev Γ G a ρ) (ev Γ G b ρ)
 |.isN a,ρ=>match ev Γ G a ρ with
  |some (.v x)=>aa (.v (.e (.bl x.d.isNon)))
  |_=>ah
 |.and a b,ρ=>match truth (ev Γ G a ρ) with
  |some ae=>aa (.v (.e (.bl ae)))
  |some ag=>(truth (ev Γ G b ρ)).map λk=>.v (.e (.bl k))
  |none=>ah
 |.or a b,ρ=>match truth (ev Γ G a ρ) with
  |some ag=>aa (.v (.e (.bl ag)))
  |some ae=>(truth (ev Γ G b ρ)).map λk=>.v (.e (.bl k))
  |none=>ah
 |.not a,ρ=>(truth (ev Γ G a ρ)).map λk=>.v (.e (.bl (!k)))
 |.ite c a b,ρ=>match truth (ev Γ G c ρ) with
  |some ag=>match ev Γ G a ρ with
   |some (.v x)=>x.st.map λd=>.v (.e d)
   |_=>ah
  |some ae=>match ev Γ G b ρ with
   |some (.v x)=>x.st.map λd=>.v (.e d)
   |_=>ah
  |none=>ah
 |.nil,_=>aa (.a [])
 |.cons a b,ρ=>consW (ev Γ G a ρ) (ev Γ G b ρ)
 |.tup es,ρ=>Yl (ev Γ G es ρ)
 |.lst es,ρ=>Yx (ev Γ G es ρ)
 |.ix a b,ρ=>ixW (ev Γ G a ρ) (ev Γ G b ρ)
 |.sl a lo hi,ρ=>match ev Γ G a ρ,Q6 (ev Γ G lo ρ),Q6 (ev Γ G hi ρ) with
  |some (.v x),aa l,aa h=>match x.sq with
   |some (ag,ds)=>aa (.v (.o (cutD ds l h)))
   |some (ae,ds)=>if HT.sIx ds.length 0 l=0/\HT.sIx ds.length ds.length h=ds.length then ah else aa (.v (.e (.tup (cutD ds l h))))
   |none=>match x.d with
    |.str z=>if jt z.length=ag then aa (.v (.e (.str (bJ z l h))))else ah
    |_=>ah
  |_,_,_=>ah
 |.call f es,ρ=>Qa Γ f (ev Γ G es ρ)
 |.blt f es,ρ=>Jl f (ev Γ G es ρ)
 |.isi a ts,ρ=>Bd (ev Γ G a ρ) ts
 |.comp is elt it cond,ρ=>match ev Γ G it (frz it ρ) with
  |some (.i ds)=>if O4 is (frz it ρ)=ag/\jt ds.length=ag then
    (Jq (λd=>match zx is d (frz it ρ) with
     |none=>ah
     |some ρ2=>match ev Γ G cond ρ2 with
      |some (.a [])=>match ev Γ G elt ρ2 with
       |some (.v x)=>x.st.map aa
       |_=>ah
      |some (.a [y])=>match y.d with
       |.bl ag=>match ev Γ G elt ρ2 with
        |some (.v x)=>x.st.map aa
        |_=>ah
       |.bl ae=>aa ah
       |_=>ah
      |_=>ah) ds).bind λl=>if (Jd it ρ && !qu l)=ag then ah else aa (.v (.o l))
   else ah
  |_=>ah
 |.seq a,ρ=>Ul (ev Γ G a ρ)
 |.range es,ρ=>Uo (ev Γ G es ρ)
 |.fst es,ρ=>j5k (ev Γ G es ρ)
 |.join sep a,ρ=>Wb sep (ev Γ G a ρ)
 |.tix a b,ρ=>Uk (ev Γ G a ρ) (ev Γ G b ρ)
 |.rpr a,ρ=>match ev Γ G a ρ with
  |some (.v x)=>match x.d with
   |.str y=>if (c9 y).length<=2000 then aa (.v (.e (.str (c9 y))))else ah
   |_=>ah
  |_=>ah
 |.exc a,ρ=>ev Γ G a ρ
 |.dget a b,ρ=>jfj (ev Γ G a ρ) (ev Γ G b ρ)
section
variable{Γ:ao->List D->Rc}{G:ao->Option D}{ρ:En}
theorem Dg{d}:ev Γ G (.lit d) ρ=(aa (.v (.e d))):=(rfl)
theorem jfn{i}:ev Γ G (.var i) ρ=(Oh ρ[i]?):=(rfl)
theorem jdj{x}:ev Γ G (.glob x) ρ=((G x).map λd=>.v (.e d)):=(rfl)
theorem jfw{op a b}:ev Γ G (.bin op a b) ρ=(Z2 op (ev Γ G a ρ) (ev Γ G b ρ)):=(rfl)
theorem j77{op a b}:ev Γ G (.cmp op a b) ρ=(Bk op (ev Γ G a ρ) (ev Γ G b ρ)):=(rfl)
theorem j76{a}:ev Γ G (.isN a) ρ=(match ev Γ G a ρ with
  |some (.v x)=>aa (.v (.e (.bl x.d.isNon)))
  |_=>ah):=(rfl)
theorem jfx{a b}:ev Γ G (.and a b) ρ=(match truth (ev Γ G a ρ) with
  |some ae=>aa (.v (.e (.bl ae)))
  |some ag=>(truth (ev Γ G b ρ)).map λk=>.v (.e (.bl k))
  |none=>ah):=(rfl)
theorem jhm{a b}:ev Γ G (.or a b) ρ=(match truth (ev Γ G a ρ) with
  |some ag=>aa (.v (.e (.bl ag)))
  |some ae=>(truth (ev Γ G b ρ)).map λk=>.v (.e (.bl k))
  |none=>ah):=(rfl)
theorem jfs{a}:ev Γ G (.not a) ρ=((truth (ev Γ G a ρ)).map λk=>.v (.e (.bl (!k)))):=(rfl)
theorem jfu{c a b}:ev Γ G (.ite c a b) ρ=(match truth (ev Γ G c ρ) with
  |some ag=>match ev Γ G a ρ with
   |some (.v x)=>x.st.map λd=>.v (.e d)
   |_=>ah
  |some ae=>match ev Γ G b ρ with
   |some (.v x)=>x.st.map λd=>.v (.e d)
   |_=>ah
  |none=>ah):=(rfl)
theorem Ud:ev Γ G (.nil) ρ=(aa (.a [])):=(rfl)
theorem Vl{a b}:ev Γ G (.cons a b) ρ=(consW (ev Γ G a ρ) (ev Γ G b ρ)):=(rfl)
theorem jfo{es}:ev Γ G (.tup es) ρ=(Yl (ev Γ G es ρ)):=(rfl)
theorem jft{es}:ev Γ G (.lst es) ρ=(Yx (ev Γ G es ρ)):=(rfl)
theorem jhn{a b}:ev Γ G (.ix a b) ρ=(ixW (ev Γ G a ρ) (ev Γ G b ρ)):=(rfl)
theorem jhl{a lo hi}:ev Γ G (.sl a lo hi) ρ=(match ev Γ G a ρ,Q6 (ev Γ G lo ρ),Q6 (ev Γ G hi ρ) with
  |some (.v x),aa l,aa h=>match x.sq with
   |some (ag,ds)=>aa (.v (.o (cutD ds l h)))
   |some (ae,ds)=>if HT.sIx ds.length 0 l=0/\HT.sIx ds.length ds.length h=ds.length then ah else aa (.v (.e (.tup (cutD ds l h))))
   |none=>match x.d with
    |.str z=>if jt z.length=ag then aa (.v (.e (.str (bJ z l h))))else ah
    |_=>ah
  |_,_,_=>ah):=(rfl)
theorem jdl{f es}:ev Γ G (.call f es) ρ=(Qa Γ f (ev Γ G es ρ)):=(rfl)
theorem Oe{f es}:ev Γ G (.blt f es) ρ=(Jl f (ev Γ G es ρ)):=(rfl)
theorem j75{a ts}:ev Γ G (.isi a ts) ρ=(Bd (ev Γ G a ρ) ts):=(rfl)
theorem jdk{is elt it cond}:ev Γ G (.comp is elt it cond) ρ=(match ev Γ G it (frz it ρ) with
  |some (.i ds)=>if O4 is (frz it ρ)=ag/\jt ds.length=ag then
    (Jq (λd=>match zx is d (frz it ρ) with
     |none=>ah
     |some ρ2=>match ev Γ G cond ρ2 with
      |some (.a [])=>match ev Γ G elt ρ2 with
       |some (.v x)=>x.st.map aa
       |_=>ah
      |some (.a [y])=>match y.d with
       |.bl ag=>match ev Γ G elt ρ2 with
        |some (.v x)=>x.st.map aa
        |_=>ah
       |.bl ae=>aa ah
       |_=>ah
      |_=>ah) ds).bind λl=>if (Jd it ρ && !qu l)=ag then ah else aa (.v (.o l))
   else ah
  |_=>ah):=(rfl)
theorem jfq{a}:ev Γ G (.seq a) ρ=(Ul (ev Γ G a ρ)):=(rfl)
theorem j9q{es}:ev Γ G (.range es) ρ=(Uo (ev Γ G es ρ)):=(rfl)
theorem jfv{es}:ev Γ G (.fst es) ρ=(j5k (ev Γ G es ρ)):=(rfl)
theorem jdi{sep a}:ev Γ G (.join sep a) ρ=(Wb sep (ev Γ G a ρ)):=(rfl)
theorem jfp{a b}:ev Γ G (.tix a b) ρ=(Uk (ev Γ G a ρ) (ev Γ G b ρ)):=(rfl)
theorem jfr{a}:ev Γ G (.rpr a) ρ=(match ev Γ G a ρ with
  |some (.v x)=>match x.d with
   |.str y=>if (c9 y).length<=2000 then aa (.v (.e (.str (c9 y))))else ah
   |_=>ah
  |_=>ah):=(rfl)
end
noncomputable def er(Γ:ao->List D->Rc)(G:ao->Option D):Ex->En->Option ao
 |.call f es,ρ=>match er Γ G es ρ with
  |some x=>if (G (qm f)).isSome=ag then aa x else ah
  |none=>match ev Γ G es ρ with
   |some (.a rs)=>match Γ f (rs.map Rk.d) with
    |.err x=>if (G (bang x)).isSome=ag then aa x else ah
    |_=>ah
   |_=>ah
 |.cons a b,ρ=>match er Γ G a ρ with
  |some x=>aa x
  |none=>match ev Γ G a ρ with
   |some (.v _)=>er Γ G b ρ
   |_=>ah
 |.ix a _,ρ=>er Γ G a ρ
 |.dget a b,ρ=>match er Γ G a ρ with
  |some x=>aa x
  |none=>match ev Γ G a ρ with
   |some (.v _)=>er Γ G b ρ
   |_=>ah
 |.exc (.comp [i] elt it .nil),ρ=>match ev Γ G it ρ with
  |some (.i (d::_))=>if O4 [i] ρ=ag then er Γ G elt (ρ.set i (.val d))else ah
  |_=>ah
 |_,_=>ah
end L2
end
section
namespace L2
open PySem PySem.Spec PyProof.Rows
def DM(X:Cx)(ρ:Rho)(e:ar)(s:Bool)(ds:List D):Prop:=∀σ H Q,Rep X.K ρ σ H->(∀a xs H',jb H H'->SqB X.K s H' a xs->jd X.K (del H' (owns ρ)) ds xs->Q (.ref a) H')->vm X e σ H Q
section
variable{X:Cx}{ρ:Rho}{e a b c:ar}{es:List ar}{d:D}{ds ds':List D}{i j:Int}{pos p p2:aL}{k:Nat}{x:ao}{s:Bool}
theorem je6{K:k5g}{H:Hp}{a:ai}{xs:List V}(h:SqL K H a xs):SqB K ag H a xs:=by unfold SqB;rw[if_pos rfl];exact h
theorem Y7{K:k5g}{H:Hp}{a:ai}{xs:List V}(h:SqB K ag H a xs):SqL K H a xs:=by unfold SqB at h;rw[if_pos rfl]at h;exact h
theorem Q4{K:k5g}{H:Hp}{a:ai}{xs:List V}(h:SqB K ae H a xs):SqT K H a xs:=by unfold SqB at h;rw[if_neg xu]at h;exact h
theorem DE.toM(h:DE X ρ e (D.seq s ds)):DM X ρ e s ds:=λσ H Q R q=>h σ H Q R λv H1 g1 e1=>by obtain⟨t,xs,ev,sq,en⟩:=Vb e1;subst ev;exact q t xs H1 g1 (jq.seqB sq) en
theorem DL.toM(h:DL X ρ e ds):DM X ρ e ag ds:=λσ H Q R q=>h σ H Q R λt xs H1 g1 m en=>q t xs H1 g1 (je6 (.inl (.inl m))) en
theorem DO.toM(h:DO X ρ e ds):DM X ρ e ag ds:=h.toL.toM
def Has(X:Cx)(ρ:Rho)(e:ar):Rk->Prop
 |.e d=>DE X ρ e d
 |.o l=>DO X ρ e l
 |.w l=>DL X ρ e l
 |.t d=>DT X ρ e d
theorem Has.toT:∀{r:Rk},Has X ρ e r->DT X ρ e r.d
 |.e _,h=>DE.toT h
 |.o _,h=>DL.toT (DO.toL h)
 |.w _,h=>DL.toT h
 |.t _,h=>h
theorem Has.toE:∀{r:Rk}{d:D},Has X ρ e r->r.st=aa d->DE X ρ e d
 |.e _,_,h,q=>by cases q;exact h
 |.o _,_,h,q=>by cases q;exact DO.toE h
 |.w _,_,h,q=>by cases q
 |.t d',d,h,q=>by
  have q:(if Jy d'=ag then aa d' else ah)=aa d:=q;by_cases z:Jy d'=ag
  .rw[if_pos z]at q;cases q;exact DT.toE h z
  .rw[if_neg z]at q;cases q
theorem Has.toM:∀{r:Rk}{s:Bool}{l:List D},Has X ρ e r->r.sq=aa (s,l)->DM X ρ e s l
 |.e (.lst l),_,_,h,q=>by cases q;exact DE.toM (s:=ag) h
 |.e (.tup l),_,_,h,q=>by cases q;exact DE.toM (s:=ae) h
 |.e .non,_,_,_,q=>by cases q
 |.e (.bl _),_,_,_,q=>by cases q
 |.e (.int _),_,_,_,q=>by cases q
 |.e (.str _),_,_,_,q=>by cases q
 |.o l,_,_,h,q=>by cases q;exact DO.toM h
 |.w l,_,_,h,q=>by cases q;exact DL.toM h
 |.t _,_,_,_,q=>by cases q
theorem j8d:OpR X (b0 .Add) (λx y H Q=>∃l b xs zs,x=.ref l/\y=.ref b/\SqL X.K H l xs/\SqL X.K H b zs/\xs.length+zs.length<=au/\∀p,H p=ah->Q (.ref p) (upd H p (.lst (xs++zs)))):=by
 intro pins s σ H x y v u Q I rx ry h;obtain⟨l,b,xs,zs,e1,e2,hH,hB,hz,q⟩:=h;subst e1 e2;cases rx;cases ry;obtain⟨us,ru,⟨⟨c1,d1,f1,g1⟩,n1,h1,k1,w1,m1⟩,_⟩:=I.list hH;obtain⟨vs,rv,⟨⟨c2,d2,f2,g2⟩,n2,h2,k2,w2,m2⟩,_⟩:=I.list hB;have k1:c1=.type "list":=k1;have m1:f1=.seq us.toArray n1:=m1;have k2:c2=.type "list":=k2;have m2:f2=.seq vs.toArray n2:=m2;subst k1 m1 k2 m2;have l1:=ru.length;have l2:=rv.length;have ea:us.toArray++vs.toArray=(us++vs).toArray:=by simp
 refine fN ⟨_,h1,rfl⟩ ⟨_,h2,rfl⟩ noFill_list_add seq_list_add PySem.F.slot_list_add PySem.F.entry_list_add (PySem.F.args_list_add_2 _ _)
  (list_addW l b us.toArray vs.toArray n1 n2 d1 d2 g1 g2 (by rw[X6,X6,<-l1,<-l2];exact hz)) ⟨h1,h2,?_⟩
 rw[ea];exact⟨.ref _,_,I.lnew (t':=s.toks) (ru.append rv) (by rw[X8];exact hz),rfl,q _ I.fresh⟩
theorem DO.catM(ha:DM X ρ a ag ds)(hb:DM X ρ b ag ds')(hl:ds.length+ds'.length<=au):DO X ρ (.BinOp a .Add b pos) (ds++ds'):=λσ H Q R q =>
 (Vr j8d peS peS).to (ha σ H _ R λl xs H1 g1 s1 e1=>hb σ H1 _ (R.grow g1) λl' ys H2 g2 s2 e2 =>
  ⟨l,l',xs,ys,rfl,rfl,g2.seq (Y7 s1),Y7 s2,by rw[e1.length,e2.length];exact hl,λp hp=>q p _ _ ((g1.trans g2).trans (jg hp)) ((g1.trans g2).free hp) je (U4 hp ((e1.mono (jk g2)).append e2))⟩)
theorem DE.catTM(ha:DM X ρ a ae ds)(hb:DM X ρ b ae ds')(hl:ds.length+ds'.length<=au):DE X ρ (.BinOp a .Add b pos) (.tup (ds++ds')):=λσ H Q R q =>
 (Vr j4g peS peS).to (ha σ H _ R λt xs H1 g1 sq l=>hb σ H1 _ (R.grow g1) λt' ys H2 g2 sq' l'=>by
  have l2:=l.mono (jk g2)
  have enT:∀{t:ai}{xs:List V}{ds:List D},SqT X.K H2 t xs->jd X.K (del H2 (owns ρ)) ds xs->Enc X.K (del H2 (owns ρ)) (.tup ds) (.ref t):=λ{t xs ds} sq l=>by
   refine⟨t,xs,rfl,?_,l⟩
   have ow:=(R.grow (g1.trans g2)).owned
   have out:∀{o:HO},H2 t=aa o->(∀zs,o≠.lst zs)->del H2 (owns ρ) t=aa o:=λ{o} h z=>by
    rw[jc];exact h
    intro y;obtain⟨zs,e'⟩:=ow t y;rw[h]at e';cases e';exact z zs rfl
   rcases sq with (h|⟨o,h⟩)|h
   .exact .inl (.inl (out h λ_ z=>by cases z))
   .exact .inl (.inr ⟨o,out h λ_ z=>by cases z⟩)
   .exact .inr h
  refine⟨t,t',xs,ys,rfl,rfl,g2.seqT (Q4 sq),Q4 sq',by rw[l.length,l'.length];exact hl,λh=>?_,λh h'=>?_,λh h' p hp=>?_⟩
  .subst h
   cases ds with
   |nil=>exact q _ H2 (g1.trans g2) (enT (Q4 sq') l')
   |cons _ _=>have:=l.length;cases this
  .subst h'
   cases ds' with
   |nil=>exact q _ H2 (g1.trans g2) (by rw[Xp];exact enT (g2.seqT (Q4 sq)) l2)
   |cons _ _=>have:=l'.length;cases this
  .have np:p∉owns ρ:=(R.grow (g1.trans g2)).fresh hp
   exact q _ _ ((g1.trans g2).trans (jg hp)) ⟨p,xs++ys,rfl,.inl (.inl (by rw[jc np];exact je)),(l2.append l').mono (jk (jg hp))⟩)
theorem DE.ixM(ha:DM X ρ a s ds)(hb:DT X ρ b (.int i))(h:L2.atI ds i=aa d)(hs:Wm b):DE X ρ (.Subscript a b pos) d:=by
 cases s with
 |true=>exact λσ H Q R q=>(Yu j8n peS peS hs).to (ha σ H _ R λl xs H1 g1 sq en=>hb σ H1 _ (R.grow g1) λu H2 g2 e2=>by
   obtain⟨y,hy,ey⟩:=en.atI h
   exact⟨l,xs,i,y,rfl,e2,g2.seq (Y7 sq),hy,q y H2 (g1.trans g2) (ey.mono (jk g2))⟩)
 |false=>exact λσ H Q R q=>(Yu Mv peS peS hs).to (ha σ H _ R λl xs H1 g1 sq en=>hb σ H1 _ (R.grow g1) λu H2 g2 e2=>by
   obtain⟨y,hy,ey⟩:=en.atI h
   exact⟨l,xs,i,y,rfl,e2,g2.seqT (Q4 sq),hy,q y H2 (g1.trans g2) (ey.mono (jk g2))⟩)
variable{lo hi:Option ar}{l u:Option Int}
theorem DO.sliceM(ha:DM X ρ a ag ds)(hl:DP X ρ lo l)(hu:DP X ρ hi u):DO X ρ (.Subscript a (.Slice lo hi ah p2) pos) (cutD ds l u):=λσ H Q R q =>
 (Rn j7o peS poS poS).to (ha σ H _ R λt xs H1 g1 sq en=>hl σ H1 _ (R.grow g1) λH2 g2=>hu σ H2 _ (R.grow (g1.trans g2)) λH3 g3=>⟨t,xs,rfl,(g2.trans g3).seq (Y7 sq),λp hp =>
  q p _ _ ((g1.trans (g2.trans g3)).trans (jg hp)) ((g1.trans (g2.trans g3)).free hp) je (U4 hp ((en.mono (jk (g2.trans g3))).cut l u))⟩)
theorem DE.sliceM(ha:DM X ρ a ae ds)(hl:DP X ρ lo l)(hu:DP X ρ hi u)(hw:¬(HT.sIx ds.length 0 l=0/\HT.sIx ds.length ds.length u=ds.length)):DE X ρ (.Subscript a (.Slice lo hi ah p2) pos) (.tup (cutD ds l u)):=λσ H Q R q =>
 (Rn jae peS poS poS).to (ha σ H _ R λt xs H1 g1 sq en=>hl σ H1 _ (R.grow g1) λH2 g2=>hu σ H2 _ (R.grow (g1.trans g2)) λH3 g3=>⟨t,xs,rfl,(g2.trans g3).seqT (Q4 sq),by rw[en.length];exact hw,λp hp =>
  q _ _ ((g1.trans (g2.trans g3)).trans (jg hp)) ⟨p,_,rfl,.inl (.inl (by rw[jc ((R.grow (g1.trans (g2.trans g3))).fresh hp)];exact je)),((en.mono (jk (g2.trans g3))).cut l u).mono (jk (jg hp))⟩⟩)
theorem DE.tupM (ha:DM X ρ a s ds) (hm:X.mg "tuple" = ah) (hg:Gl X "tuple") (hs:af [a] X.env=[(ae,az a X.env)]):DE X ρ (.Call (.Name "tuple" p) [a] [] pos) (.tup ds):=λσ H Q R q =>
 (Zm Uj hg hm boot_tuple (ji peS jl hs) (by decide) (by decide) hs).to (ha σ H _ R λl xs H1 g1 sq en=>by
  cases s with
  |true =>
   refine⟨l,xs,rfl,.inl ⟨Y7 sq,λt ht=>?_⟩⟩
   have nt:t∉owns ρ:=(R.grow g1).fresh ht
   exact q _ _ (g1.trans (jg ht)) ⟨t,xs,rfl,.inl (.inl (by rw[jc nt];exact je)),en.mono (jk (jg ht))⟩
  |false =>
   refine⟨l,xs,rfl,.inr ⟨Q4 sq,?_⟩⟩
   refine q _ _ g1 ⟨l,xs,rfl,?_,en⟩
   have ow:=(R.grow g1).owned
   have out:∀{o:HO},H1 l=aa o->(∀zs,o≠.lst zs)->del H1 (owns ρ) l=aa o:=λ{o} h z=>by
    rw[jc];exact h
    intro y;obtain⟨zs,e'⟩:=ow l y;rw[h]at e';cases e';exact z zs rfl
   rcases Q4 sq with (h|⟨o,h⟩)|h
   .exact .inl (.inl (out h λ_ z=>by cases z))
   .exact .inl (.inr ⟨o,out h λ_ z=>by cases z⟩)
   .exact .inr h)
theorem DO.listM (ha:DM X ρ a s ds) (hm:X.mg "list" = ah) (hg:Gl X "list") (hs:af [a] X.env=[(ae,az a X.env)]):DO X ρ (.Call (.Name "list" p) [a] [] pos) ds:=λσ H Q R q =>
 (Zm Lz hg hm boot_list (ji peS jl hs) (by decide) (by decide) hs).to (ha σ H _ R λl xs H1 g1 sq en =>
  ⟨l,xs,rfl,(by cases s with|true=>exact .inl (Y7 sq)|false=>exact .inr (Q4 sq)),λp hp=>q p _ _ (g1.trans (jg hp)) (g1.free hp) je (U4 hp en)⟩)
end
theorem Bb:fillsNumberSlot (.type "tuple") "mul" = pure ae :=
 PySem.fillsNumberSlot_seq (id:="tuple.__mul__") (r:=aa (.builtin "tuple.__rmul__")) PySem.F.slot_tuple_mul.lookup (by decide +kernel) PySem.F.slot_tuple_rmul.lookup (by decide +kernel)
theorem j80:seqRepeat? (.type "tuple")=pure (aa (.builtin "tuple.__mul__")):=by
 unfold seqRepeat?;rw[iF (T:="tuple") (name:="__mul__") (id:="tuple.__mul__") PySem.F.slot_tuple_mul.lookup (by decide +kernel),
  iF (T:="tuple") (name:="__rmul__") (id:="tuple.__rmul__") PySem.F.slot_tuple_rmul.lookup (by decide +kernel)]
 rfl
section
variable(a:Int)(t:jY)(l:ai)(its:Array aj)(n:Nat)(d1:Option ai)(sl:Array (Option aj))
theorem Lg:Meets (iH.«int.__rmul__» ⟨[.int a t,.ref l],[]⟩) (λ_ R s=>s.heap.get? l=aa ⟨.type "tuple",d1,.seq its n,sl⟩/\R (.ok (.ret Value.notImplemented)) s) :=
 .of_wp λ_ _ _ _ s h=>by
  obtain⟨_,_,_,_,_⟩:=s;obtain⟨hl,h⟩:=h
  wp_walk
  exact⟨_,rfl,h⟩
theorem j3l:Meets (iH.«tuple.__mul__» ⟨[.ref l,.int 1 t],[]⟩) (λ_ R s=>s.heap.get? l=aa ⟨.type "tuple",d1,.seq its n,sl⟩/\R (.ok (.ret (.ref l))) s) :=
 .of_wp λ_ _ _ _ s h=>by
  obtain⟨_,_,_,_,_⟩:=s;obtain⟨hl,h⟩:=h
  wp_walk
  exact⟨_,rfl,h⟩
theorem j3k(h0:its.isEmpty=ae)(h1:1<a)(h2:a<2^63)(hz:its.size*a.toNat<=au) :
  Meets (iH.«tuple.__mul__» ⟨[.ref l,.int a t],[]⟩) (λ_ R s=>s.heap.get? l=aa ⟨.type "tuple",d1,.seq its n,sl⟩ /\
   R (.ok (.ret (.ref s.heap.objs.size))) { s with heap:=s.heap.push { cls:=.type "tuple",data:=.seq (cG (λx y=>x++y) #[] (ay a.toNat its)) } }) :=
 .of_wp λ_ _ _ _ s h=>by
  obtain⟨_,_,_,_,_⟩:=s;obtain⟨hl,h⟩:=h;have c1:(decide (a < -2^63) || decide (a>=2^63))=ae:=by rw[decide_eq_false (by omega),decide_eq_false (by omega)];rfl
  have c2:(its.isEmpty || a==1)=ae:=by rw[h0,beq_eq_false_iff_ne.mpr (by omega)];rfl
  have c3:(decide (a<=0) || its.isEmpty)=ae:=by rw[h0,decide_eq_false (by omega)];rfl
  have ea:((its.size*a.toNat:Nat):Int)=(its.size:Int)*a:=by rw[Int.natCast_mul,Int.toNat_of_nonneg (by omega)]
  have hz':(its.size:Int)*a<=(au:Int):=by rw[<-ea];exact Int.ofNat_le.mpr hz
  have c4:¬(its.size:Int)*a>(2^63-1)/8:=by
   have:(au:Int)<=(2^63-1)/8:=by decide
   omega
  have c5:dY ((its.size:Int)*a)=ae:=by unfold dY;exact decide_eq_false (by omega)
  have c6:(cG (λx y=>x++y) #[] (ay a.toNat its)).size<=au:=by rw[AutoListH.size_joined,Array.size_empty,gD,gE];exact hz
  wp_walk
  rw[c1]
  wp_walk
  rw[c2]
  wp_walk
  rw[c3]
  wp_walk
  rw[if_neg c4]
  wp_walk
  exact⟨_,rfl,h⟩
end
theorem j8b{X:Cx}:OpR X (b0 .Mult) (λx y H Q=>∃a k xs,x=.ref a/\y=.int k/\SqT X.K H a xs/\xs≠[]/\1<=k/\k<2^63/\xs.length*k.toNat<=au /\
  (k=1->Q (.ref a) H)/\(1<k->∀p,H p=ah->Q (.ref p) (upd H p (.tup (ay k.toNat xs).flatten)))):=by
 intro pins s σ H x y v u Q I rx ry h;obtain⟨a,k,xs,e1,e2,sq,hne,h1,h2,hz,q1,q2⟩:=h;subst e1 e2;cases rx;obtain⟨t,e⟩:=ry;subst e;obtain⟨us,ru,⟨⟨c1,d1,f1,g1⟩,p1,k1,n1,m1⟩,_⟩:=I.tuple sq;have k1:c1=.type "tuple":=k1;have m1:f1=.seq us.toArray n1:=m1;subst k1 m1;have lu:=ru.length;have hne':us.toArray.isEmpty=ae:=by
  cases us with
  |nil=>cases ru;exact absurd rfl hne
  |cons _ _=>simp
 refine gO (T:="tuple") (U:="int") (by decide) ⟨_,p1,rfl⟩ (λs'=>fq s' k t) Bb jS dM j80 F.slot_int_index.lookup
  (bX dM (fq s k t) jH (jD _ _) (Lg k t a us.toArray n1 d1 g1) ⟨p1,rfl,⟨_,p1,rfl⟩,?_⟩)
 by_cases hk:k=1
 .subst hk;exact bX jG ⟨_,p1,rfl⟩ jC (iU _ _) (j3l t a us.toArray n1 d1 g1) ⟨p1,⟨.ref a,H,I,rfl,q1 rfl⟩⟩
 .have hz':us.toArray.size*k.toNat<=au:=by rw[X6,<-lu];exact hz
  refine bX jG ⟨_,p1,rfl⟩ jC (iU _ _) (j3k k t a us.toArray n1 d1 g1 hne' (by omega) h2 hz') ⟨p1,?_⟩;have hnew:cG (λx1 x2=>x1++x2) #[] (ay k.toNat us.toArray)=(ay k.toNat us).flatten.toArray:=by have:=foldl_rep us k.toNat [];rw[fv]at this;exact this
  rw[hnew];refine⟨.ref _,_,I.laid (t':=s.toks) (λb o e=>xn _ e) (X3 _) ?_,rfl,q2 (by omega) _ I.fresh⟩;exact⟨by rw[len_rep,gE];exact hz,_,ru.rep k.toNat,IsTup.new _ _,Zy.new _ _⟩
theorem DE.repT{X:Cx}{ρ:Rho}{a b:ar}{ds:List D}{k:Int}{pos:aL}(ha:DM X ρ a ae ds)(hb:DT X ρ b (.int k))(hne:ds≠[])(h1:1<=k)(h2:k<2^63)(hl:ds.length*k.toNat<=au) :
  DE X ρ (.BinOp a .Mult b pos) (.tup (ay k.toNat ds).flatten):=λσ H Q R q =>
 (Vr j8b peS peS).to (ha σ H _ R λt xs H1 g1 sq l=>hb σ H1 _ (R.grow g1) λu H2 g2 e2=>by
  have l2:=l.mono (jk g2)
  refine⟨t,k,xs,rfl,e2,g2.seqT (Q4 sq),?_,h1,h2,by rw[l.length];exact hl,λh=>?_,λh p hp=>?_⟩
  .intro z;subst z
   cases ds with
   |nil=>exact hne rfl
   |cons _ _=>have:=l.length;cases this
  .subst h
   have e:(ay (1:Int).toNat ds).flatten=ds:=by simp
   rw[e]at q
   refine q _ H2 (g1.trans g2) ⟨t,xs,rfl,?_,l2⟩
   have ow:=(R.grow (g1.trans g2)).owned
   have out:∀{o:HO},H2 t=aa o->(∀zs,o≠.lst zs)->del H2 (owns ρ) t=aa o:=λ{o} h z=>by
    rw[jc];exact h
    intro y;obtain⟨zs,e'⟩:=ow t y;rw[h]at e';cases e';exact z zs rfl
   rcases g2.seqT (Q4 sq)with (h|⟨o,h⟩)|h
   .exact .inl (.inl (out h λ_ z=>by cases z))
   .exact .inl (.inr ⟨o,out h λ_ z=>by cases z⟩)
   .exact .inr h
  .have np:p∉owns ρ:=(R.grow (g1.trans g2)).fresh hp
   exact q _ _ ((g1.trans g2).trans (jg hp)) ⟨p,_,rfl,.inl (.inl (by rw[jc np];exact je)),(l2.rep k.toNat).mono (jk (jg hp))⟩)
end L2
end
section
namespace L2
open PySem PySem.Spec PyProof.Rows
noncomputable def Sl.abs:Sl->Sv
 |.un=>.un
 |.val d=>.val d
 |.own _ l=>.own l
 |.raw _ _ x=>.exc x
noncomputable def jf(ρ:Rho):En:=ρ.map Sl.abs
theorem Ry{ρ:Rho}{i:Nat}:(jf ρ)[i]?=(ρ[i]?).map Sl.abs:=Xe ..
theorem K5{ρ:Rho}{i:Nat}{d:D}(h:(jf ρ)[i]?=aa (.val d)):ρ[i]?=aa (.val d):=by
 rw[Ry]at h;cases e:ρ[i]? with
 |none=>rw[e]at h;cases h
 |some s=>rw[e]at h;cases s<;>cases h;rfl
theorem j9p{ρ:Rho}{i:Nat}(h:(jf ρ)[i]?=aa .un):ρ[i]?=aa .un:=by
 rw[Ry]at h;cases e:ρ[i]? with
 |none=>rw[e]at h;cases h
 |some s=>rw[e]at h;cases s<;>cases h;rfl
theorem Zh{ρ:Rho}{i:Nat}{l:List D}(h:(jf ρ)[i]?=aa (.own l)):∃a,ρ[i]?=aa (.own a l):=by
 rw[Ry]at h;cases e:ρ[i]? with
 |none=>rw[e]at h;cases h
 |some s=>rw[e]at h;cases s<;>cases h;exact⟨_,rfl⟩
theorem jw{ρ:Rho}{i:Nat}{s:Sl}:jf (ρ.set i s)=(jf ρ).set i s.abs:=List.map_set ..
noncomputable def Bop.op:Bop->iZ
 |.add=>.Add
 |.sub=>.Sub
 |.mul=>.Mult
 |.fdiv=>.FloorDiv
 |.mod=>.Mod
 |.pow=>.Pow
 |.shl=>.LShift
 |.shr=>.RShift
 |.band=>.BitAnd
 |.bxor=>.BitXor
noncomputable def Cop.op:Cop->gc
 |.lt=>.Lt
 |.le=>.LtE
 |.gt=>.Gt
 |.ge=>.GtE
 |.eq=>.Eq
 |.ne=>.NotEq
 |.isin=>.In
 |.notin=>.NotIn
noncomputable def Bf.name:Bf->ao
 |.len=>"len"
 |.min=>"min"
 |.max=>"max"
 |.all=>"all"
 |.tuple=>"tuple"
 |.list=>"list"
 |.sum=>"sum"
 |.int=>"int"
 |.any=>"any"
 |.sorted=>"sorted"
noncomputable def Zr:List ao:=["len","min","max","all","tuple","list","sum","int","any","sorted","isinstance","bool","str","range","zip","enumerate","reversed","ValueError","set","dict"]
noncomputable def Zq(x:ao):Bool:=x.cps.toList.head?==aa 33 || x.cps.toList.head?==aa 63
inductive Nd where
 |e (x:ar)
 |b (x:ar)
 |w (x:ar)
 |a (xs:List ar)
 |i (tg it:ar)
 |o (x:Option ar)
 |c (xs:List ar)
 |p (xs:List ar)
structure Cok(X:Cx)(G:ao->Option D):Prop where
 un':X.A.units+100<aY
 un:X.calm=ag->X.A.units+150<aY
 dp:X.calm=ag->X.A.depth+4<eK
 bt:∀x∈Zr,X.mg x=ah
 gl:∀x d,Zq x=ae->G x=aa d->∃u v,X.mg x=aa u/\RelV v u/\∀H,Enc X.K H d v
 nd:X.N.Nodup
 po:cS (aF X.prog X.w) X.A X.env X.xe
 ea:Wc X.K=ag
 ec:∀x d,G (bang x)=aa d->x∈vf/\∃o,W.nsIn X.K ax x=aa (aa o)
 el:G "?" = aa (.bl ag)->∀c∈vf,∃v,W.nsIn X.K ax c=aa (aa v)
 kin:X.K.In X.base
 ns:X.base.Ns ax X.mg
 kd:∀x l,G (bang x)=aa (.lst l)->Kinds X "_law_kinds" x l
 fn:∀f d,G (qm f)=aa d->∃fa,X.mg f=aa (.ref fa)/\W.keepIn X.K (.ref fa)=ag
 pl:∀d,G (qm "_law_plan")=aa d->Cal X "_law_plan" (jab X.K j6n)
 pc:∀d,G (qm "Pieces")=aa d->∃C,X.mg "Pieces" = aa (.ref C)/\PcX X C
 gd:X.calm=ag->X.A.guards=aa []
 fr:∃(env0:cf)(out0:List cf)(L:ai),X.stack=env0::out0/\env0.frame=aa L/\X.env.frame=aa L
 lm:∀x∈Zv,X.env.qual=x ++ ".<locals>."->∃c P,X.env.code=.ref c/\W.codeHdIn X.K c P=ag/\W.tabIn X.K x=aa (c,P)
structure CalG(X:Cx)(x:ao)(sp:Sp):Prop where
 ex:∃(k:Nat)(f:ai)(fd:aD)(ps:List ao),FnOk X.prog X.w X.K X.mg X.base CX0 k f fd ps sp/\Room (k+3) X.A/\X.mg x=aa (.ref f)/\W.keepIn X.K (.ref f)=ag/\Binds X.K fd ps []
def Gok(X:Cx)(Γ:ao->List D->Rc):Prop:=∀f ds,match Γ f ds with
 |.val d=>Cal X f (spP X.K λds' d'=>ds'=ds/\d'=d)
 |.fresh l=>Cal X f (spF X.K λds' l'=>ds'=ds/\l'=l)
 |.err x=>CalX X f (spX X.K X.mg λds' y=>ds'=ds/\y=x)
 |.lval d=>∀x,f=zc x->∃k,Room k X.A/\j0w X.prog X.w X.K X.mg X.base k x λds' d'=>ds'=ds/\d'=d
 |.mval d k'=>∀g ls (k:Nat) ds',f=mq g->ds=.lst (ls.map D.str)::.int (k:Int)::ds'->∀C,X.mg "Pieces" = aa (.ref C)->CalM X g C λls2 k2 ds2 d2 k2'=>ls2=ls/\k2=k/\ds2=ds'/\d2=d/\k2'=k'
 |.merr x=>∀g ls (k:Nat) ds',f=mq g->ds=.lst (ls.map D.str)::.int (k:Int)::ds'->∀C,X.mg "Pieces" = aa (.ref C)->CalMX X g C λls2 k2 ds2 x2=>ls2=ls/\k2=k/\ds2=ds'/\x2=x
 |.dval d ks' ns'=>∀g ks ns ds',f=dq g->ds=.dct ks (ns.map D.int)::ds'->CalD X g λks2 ns2 ds2 d2 ks2' ns2'=>ks2=ks/\ns2=ns/\ds2=ds'/\d2=d/\ks2'=ks'/\ns2'=ns'
 |.hnd sp=>∀g,f=gq g->CalG X g (sp X.K X.mg)
 |.no=>True
theorem Cok.comp{X:Cx}{G:ao->Option D}{scope:be}{C:ai}{s:aq}{H:Hp}{fp:List ai}{pn:k5i}(h:Cok X G):Cok (cCx X scope C s H fp pn) G:=⟨h.un',h.un,h.dp,h.bt,h.gl,h.nd,Pa,h.ea,h.ec,h.el,h.kin,h.ns,h.kd,h.fn,λd e=>Cal.comp (h.pl d e),λd e=>let ⟨C,h1,h2⟩:=h.pc d e;⟨C,h1,⟨h2.ex⟩⟩,h.gd,h.fr,h.lm⟩
theorem Gok.comp{X:Cx}{Γ:ao->List D->Rc}{scope:be}{C:ai}{s:aq}{H:Hp}{fp:List ai}{pn:k5i}(h:Gok X Γ):Gok (cCx X scope C s H fp pn) Γ:=λf ds=>by
 have q:=h f ds;cases e:Γ f ds with
 |val d=>rw[e]at q;exact Cal.comp q
 |fresh l=>rw[e]at q;exact Cal.comp q
 |err x=>rw[e]at q;exact⟨q.ex⟩
 |lval d=>rw[e]at q;exact q
 |mval d k=>rw[e]at q;exact λg ls k ds' h1 h2 C h3=>⟨(q g ls k ds' h1 h2 C h3).ex⟩
 |merr x=>rw[e]at q;exact λg ls k ds' h1 h2 C h3=>⟨(q g ls k ds' h1 h2 C h3).ex⟩
 |dval d ks ns=>rw[e]at q;exact λg ks ns ds' h1 h2=>⟨(q g ks ns ds' h1 h2).ex⟩
 |hnd sp=>rw[e]at q;exact λg h1=>⟨(q g h1).ex⟩
 |no=>trivial
inductive HasA(X:Cx)(ρ:Rho):List ar->List Rk->Prop where
 |nil:HasA X ρ [] []
 |cons {a:ar} {es:List ar} {r:Rk} {rs:List Rk} (hs:af (a::es) X.env=(ae,az a X.env)::af es X.env):Has X ρ a r->HasA X ρ es rs->HasA X ρ (a::es) (r::rs)
section
variable{X:Cx}{ρ:Rho}{es:List ar}{rs:List Rk}
theorem HasA.toA:∀{es:List ar}{rs:List Rk}{ds:List D},HasA X ρ es rs->zu rs=aa ds->DA X ρ es ds
 |_,_,_,.nil,q=>by cases q;exact DA.nil
 |_,_,ds,.cons (r:=r) (rs:=rs) hs h t,q=>by
  unfold zu at q;cases e1:r.st with
  |none=>rw[e1]at q;cases q
  |some d =>
   cases e2:zu rs with
   |none=>rw[e1,e2]at q;cases q
   |some ds'=>rw[e1,e2]at q;cases q;exact DA.cons (h.toE e1) (t.toA e2) hs
theorem HasA.toT:∀{es:List ar}{rs:List Rk},HasA X ρ es rs->DTA X ρ es (rs.map Rk.d)
 |_,_,.nil=>DTA.nil
 |_,_,.cons hs h t=>DTA.cons h.toT t.toT hs
theorem DO.unfrz{e:ar}{i:Nat}{a:ai}{l ds:List D}(hk:ρ[i]?=aa (.own a l))(h:DO X (ρ.set i (.val (.lst l))) e ds)(hn:qu ds=ag):DO X ρ e ds:=λσ H Q R q =>
 h σ H Q (R.freeze hk) λb xs H' g n m en=>q b xs H' g n m ((en.mono jq).hide (λc hc=>by
  rcases xf.mp hc with z|z
  .rw[z];exact .inl ⟨xs,m⟩
  .exact .inl ((R.grow g).owned c z)) hn)
end
theorem O7{f:D->Option (Option D)}:∀{ds l:List D},Jq f ds=aa l ->
  l=(ds.filter (λd=>(f d).join.isSome)).map (λd=>(f d).join.getD .non)/\∀d∈ds,∃o,f d=aa o
 |[],l,h=>by cases h;exact⟨rfl,λd hd=>nomatch hd⟩
 |d::ds,l,h=>by
  unfold Jq at h;cases e1:f d with
  |none=>rw[e1]at h;cases h
  |some o =>
   cases e2:Jq f ds with
   |none=>rw[e1,e2]at h;cases o<;>cases h
   |some xs =>
    rw[e1,e2]at h;obtain⟨q1,q2⟩:=O7 e2;have mem:∀d'∈d::ds,∃o,f d'=aa o:=λd' hd=>by
     rcases xf.mp hd with z|z
     .subst z;exact⟨o,e1⟩
     .exact q2 d' z
    cases o with
    |none=>cases h;exact⟨by rw[cZ (by rw[e1];simp)];exact q1,mem⟩
    |some x=>cases h;exact⟨by rw[cY (by rw[e1];rfl),xx,<-q1,e1];rfl,mem⟩
section
variable{X:Cx}{C:ai}{Z:Hp->Ko->Prop}{o:Ko}{ρ:Rho}{F:Hp}{E:Ends}{kvs:List (ao×Int)}{rest body:List aG}{σ:St}{c:ar}{pos:aL}
theorem j7g(hz:ZOk Z)(W:Nat->Rho->List (ao×Int)->Prop)(m:Nat)(h0:W m ρ kvs)(hpo:cS (aF X.prog X.w) X.A X.env X.xe)(R:Rep X.K ρ σ F)(hb:F o.b=ah)(kf:KFo X.K C Z (del F (owns ρ)) o)
  (hs:∀m ρ' kvs',W m ρ' kvs'->∃k,DB X ρ' c k/\(k=ag->KSs X C Z o ρ' kvs' body { nx:=λρ2 kvs2=>∃m2,m2<m/\W m2 ρ2 kvs2,rt:=λ_=>False }) /\
   (k=ae->∀σ' F',Rep X.K ρ' σ' F'->F' o.b=ah->KFo X.K C Z (del F' (owns ρ')) o->Fr0 ρ ρ' F F'->Jx X rest E σ' (upd F' o.b (.dK (kvI kvs'))))) :
  Jx X (.While c body [] pos::rest) E σ (upd F o.b (.dK (kvI kvs))):=by
 refine(qt (Dw hpo ptS zj) zj).to ?_;refine⟨λm σ' H'=>∃ρ' kvs' F',H'=upd F' o.b (.dK (kvI kvs'))/\F' o.b=ah/\W m ρ' kvs'/\Rep X.K ρ' σ' F'/\KFo X.K C Z (del F' (owns ρ')) o/\Fr0 ρ ρ' F F',⟨m,ρ,kvs,F,rfl,hb,h0,R,kf,Fr0.refl _ _⟩,?_⟩;rintro m σ' H' ⟨ρ',kvs',F',rfl,hb',w,R',kf',f⟩;obtain⟨k,hc,ht,hf⟩:=hs m ρ' kvs' w;refine Vx (A:=[o.b]) (Q':=λb F1=>b=k/\jb F' F1) Vg (by rw[J2 hb'];exact hc σ' F' _ R' λF1 g=>⟨rfl,g⟩) ?_;rintro b F1 ⟨rfl,g⟩ hn;rw[J6 je];have hb1:F1 o.b=ah:=hn o.b (by simp);have kf1:KFo X.K C Z (del F1 (owns ρ')) o:=kf'.stay hz (jk g);have f1:Fr0 ρ ρ' F F1:=jb.trans f (Fr0.grow g);cases b with
 |true =>refine Uw ?_;refine⟨λσ2 H2=>∃ρ2 kvs2 F2,H2=upd F2 o.b (.dK (kvI kvs2))/\F2 o.b=ah/\(∃m2,m2<m/\W m2 ρ2 kvs2)/\Rep X.K ρ2 σ2 F2/\KFo X.K C Z (del F2 (owns ρ2)) o/\Fr0 ρ ρ2 F F2,λσ2 H2 ⟨ρ2,kvs2,F2,e2,hb2,⟨m2,hlt,w2⟩,R2,kf2,f2⟩=>⟨m2,hlt,ρ2,kvs2,F2,e2,hb2,w2,R2,kf2,f2⟩,?_⟩;exact ht rfl σ' F1 _ (R'.grow g) hb1 kf1 ⟨λρ2 kvs2 σ2 F2 n R2 hb2 f2=>⟨ρ2,kvs2,F2,rfl,hb2,n,R2,kf1.stay hz f2,jb.trans f1 f2⟩,λ_ _ _ n=>n.elim⟩
 |false=>exact Zw (hf rfl σ' F1 (R'.grow g) hb1 kf1 f1)
end
noncomputable def Ja(Γ:ao->List D->Rc)(fa:ao->Int):Nat->D->Option (List ao×Int)
 |0,_=>ah
 |m+1,d=>match Γ "is_ask" [d] with
  |.val (.bl ag)=>match Γ "place_asked" [d] with
   |.val (.str p)=>match Γ "plan_behind" [d,.int (fa p)] with
    |.val d'=>(Ja Γ fa m d').map λq=>(p::q.1,q.2)
    |_=>ah
   |_=>ah
  |.val (.bl ae)=>match Γ "answer_told" [d] with
   |.val (.int n)=>aa ([],n)
   |_=>ah
  |_=>ah
theorem K9{Γ:ao->List D->Rc}{fa:ao->Int}{m:Nat}{d:D}{l:List ao}{n:Int}(h:Ja Γ fa m d=aa (l,n)) :
  ∃m',m=m'+1/\((∃p d' l',Γ "is_ask" [d]=.val (.bl ag)/\Γ "place_asked" [d]=.val (.str p)/\Γ "plan_behind" [d,.int (fa p)]=.val d'/\Ja Γ fa m' d'=aa (l',n)/\l=p::l') \/
   (Γ "is_ask" [d]=.val (.bl ae)/\Γ "answer_told" [d]=.val (.int n)/\l=[])):=by
 cases m with
 |zero=>cases h
 |succ m =>
  refine⟨m,rfl,?_⟩;unfold Ja at h;split at h
  .rename_i e1;split at h
   .rename_i p e2;split at h
    .rename_i d' e3;cases e4:Ja Γ fa m d' with
     |none=>rw[e4]at h;cases h
     |some q =>rw[e4]at h;obtain⟨l',n'⟩:=q;cases h;exact .inl ⟨p,d',l',e1,e2,e3,e4,rfl⟩
    .cases h
   .cases h
  .rename_i e1;split at h
   .rename_i n' e2;cases h;exact .inr ⟨e1,e2,rfl⟩
   .cases h
  .cases h
noncomputable def qy(o:Ko)(l:List ao)(kvs:List (ao×Int)):List (ao×Int):=l.foldl (J4 o) kvs
theorem Rw{o:Ko}:∀{l:List ao}{kvs:List (ao×Int)},Qf o kvs->Qf o (qy o l kvs)
 |[],_,h=>h
 |p::l,kvs,h=>by show Qf o (qy o l (J4 o kvs p));exact Rw (Cy h)
theorem Rv{o:Ko}:∀{l:List ao}{kvs:List (ao×Int)},(qy o l kvs).length<=kvs.length+l.length
 |[],_=>X3 _
 |p::l,kvs=>by have h1:=Rv (o:=o) (l:=l) (kvs:=J4 o kvs p);have h2:=Cw (o:=o) (kvs:=kvs) (p:=p);show(qy o l (J4 o kvs p)).length<=_;rw[xg];omega
noncomputable def ql(fa:ao->Int)(l:List ao):List D:=l.map λp=>prD (p,fa p)
noncomputable def Fq(n n2:Nat)(p1 p2 p3 p4 p5 p6 p7 p8 p9 p10 p11 p12 p13 p14 p15 p16 p17 p18 p19 p20 p21 p22 p23 p24 p25 p26 p27 p28 p29 p30 p31 p32 p33 p34 p35 p36 p37:aL):List aG :=
 [.Assign [.Name "told" p1] (.List [] p2) p3,
 .While (.Call (.Name "is_ask" p4) [.Name "plan" p5] [] p6)
  [.Assign [.Name "place" p7] (.Call (.Name "place_asked" p8) [.Name "plan" p9] [] p10) p11,
  .Assign [.Name "answer" p12] (.Call (.Attribute (.Name "keeper" p13) "answer" p14) [.Name "place" p15] [] p16) p17,
  .Expr (.Call (.Attribute (.Name "told" p18) "append" p19) [.Tuple [.Name "place" p20,.Name "answer" p21] n p22] [] p23) p24,
  .Assign [.Name "plan" p25] (.Call (.Name "plan_behind" p26) [.Name "plan" p27,.Name "answer" p28] [] p29) p30] [] p31,
 .Return (aa (.Tuple [.Call (.Name "answer_told" p32) [.Name "plan" p33] [] p34,.Name "told" p35] n2 p36)) p37]
structure PlX(X:Cx):Prop where
 hN:X.N=([("plan":ao),"keeper","told","place","answer"]:List ao)
 lo:∀x∈(["plan","told","place","answer"]:List ao),Loc X.env.scope x/\(X.fn x=ag\/X.env.scope.names.lookup x=aa .local)
 vi:∀x∈(["plan","keeper","told","place","answer"]:List ao),Vis X.env.scope x
 gl:∀x∈(["is_ask","place_asked","plan_behind","answer_told"]:List ao),Gl X x
 po:cS (aF X.prog X.w) X.A X.env X.xe
section
variable{X:Cx}{C:ai}{Z:Hp->Ko->Prop}{o:Ko}{F:Hp}{E:Ends}{kvs:List (ao×Int)}{σ:St}{d:D}{n0 n02:Nat}{p1 p2 p3 p4 p5 p6 p7 p8 p9 p10 p11 p12 p13 p14 p15 p16 p17 p18 p19 p20 p21 p22 p23 p24 p25 p26 p27 p28 p29 p30 p31 p32 p33 p34 p35 p36 p37:aL}{Γ:ao->List D->Rc}{m:Nat}{l:List ao}{n:Int}{ob:cw}
theorem j1k (T:KpX X C Z) (hz:ZOk Z) (L:PlX X) (g:Gok X Γ) (mc:Z3 X (.Name "keeper" p13) "answer" (.Name "place" p15) p14 p16) (hline:(p19.endLine==p23.line)=ag)
  (hp:Ja Γ o.fa m d=aa (l,n)) (hl:∀p∈l,p∈o.ps) (hl2:o.ps.length<=1000) (hk:kvs.length+l.length<1000) (hc:Qf o kvs)
  (R:Rep X.K [.val d,.raw o.a ob rfN,.un,.un,.un] σ F) (hb:F o.b=ah) (kf:KFo X.K C Z F o)
  (q:∀(p' l':ai)(xs:List V)(F':Hp),jb F F'->F' o.b=ah->F p'=ah->F l'=ah->p'≠l'->F' p'=aa (.tup [.int n,.ref l'])->F' l'=aa (.lst xs)->jd X.K (del F' [l']) (ql o.fa l) xs->E.rt (.ref p') (upd F' o.b (.dK (kvI (qy o l kvs))))) :
  Jx X (Fq n0 n02 p1 p2 p3 p4 p5 p6 p7 p8 p9 p10 p11 p12 p13 p14 p15 p16 p17 p18 p19 p20 p21 p22 p23 p24 p25 p26 p27 p28 p29 p30 p31 p32 p33 p34 p35 p36 p37) E σ (upd F o.b (.dK (kvI kvs))):=by
 have nd:X.N.Nodup:=by rw[L.hN];decide
 have N0:X.N[0]?=aa ("plan":ao):=by rw[L.hN];rfl
 have N1:X.N[1]?=aa ("keeper":ao):=by rw[L.hN];rfl
 have N2:X.N[2]?=aa ("told":ao):=by rw[L.hN];rfl
 have N3:X.N[3]?=aa ("place":ao):=by rw[L.hN];rfl
 have N4:X.N[4]?=aa ("answer":ao):=by rw[L.hN];rfl
 have V0:=L.vi "plan" (by simp);have V1:=L.vi "keeper" (by simp);have V2:=L.vi "told" (by simp);have V3:=L.vi "place" (by simp);have V4:=L.vi "answer" (by simp);have cal:∀{f:ao}{ds:List D}{d:D},Γ f ds=.val d->Cal X f (spP X.K λds' d'=>ds'=ds/\d'=d):=λ{f ds d} e=>by have z:=g f ds;rw[e]at z;exact z
 unfold Fq;refine(qt (Ve nd N2 (L.lo "told" (by simp)).1 (j1p jl) rfl (L.lo "told" (by simp)).2) zj).to ?_;refine⟨by rw[aW];decide,λlA hA=>?_⟩;have nAb:lA≠o.b:=λz=>by rw[z,je]at hA;cases hA
 rw[jj nAb]at hA;have eU:upd (upd F o.b (.dK (kvI kvs))) lA (.lst [])=upd (upd F lA (.lst [])) o.b (.dK (kvI kvs)):=by
  funext c
  unfold upd;by_cases z1:c=lA
  .subst z1;rw[if_pos rfl,if_neg nAb,if_pos rfl]
  .rw[if_neg z1,if_neg z1]
 rw[eU];have g1:jb F (upd F lA (.lst [])):=jg hA;have R1:Rep X.K [.val d,.raw o.a ob rfN,.own lA (ql o.fa []),.un,.un] (σ.set 2 (aa (.ref lA))) (upd F lA (.lst [])):=R.set_own (i:=2) g1 hA je rfl;have hb1:upd F lA (.lst []) o.b=ah:=by rw[jj (ba nAb)];exact hb
 have kf1:KFo X.K C Z (del (upd F lA (.lst [])) [lA]) o:=kf.stay hz λc u e=>by have nc:c≠lA:=jm e hA;rw[jc (by simpa using nc),jj nc];exact e
 refine j7g (o:=o) hz (λm ρ' kvs'=>∃d' rem done s3 s4,Ja Γ o.fa m d'=aa (rem,n)/\l=done++rem/\ρ'=[.val d',.raw o.a ob rfN,.own lA (ql o.fa done),s3,s4]/\kvs'=qy o done kvs/\owns [s3,s4]=[]) m ⟨d,l,[],.un,.un,hp,rfl,rfl,rfl,rfl⟩ L.po R1 hb1 kf1 ?_;rintro m ρ' kvs' ⟨d',rem,done,s3,s4,hp',el,rfl,rfl,so⟩;have dl:done.length+rem.length=l.length:=by rw[el,X8]
 have ak:=Rv (o:=o) (l:=done) (kvs:=kvs);obtain⟨m',rfl,⟨p,d2,rem',e1,e2,e3,e4,rfl⟩|⟨e1,e2,rfl⟩⟩:=K9 hp'
 .refine⟨ag,DB.val (DE.call (cal e1) (DA.cons (DE.var 0 rfl N0 V0) DA.nil) ⟨rfl,rfl⟩ (L.gl "is_ask" (by simp))).toT,λ_=>?_,λz=>absurd z (by decide)⟩;have hpp:p∈o.ps:=hl p (by rw[el];simp);rw[xg]at dl;refine KSs.plain hz (DS.set 3 (d:=.str p) (DE.call (cal e2) (DA.cons (DE.var 0 rfl N0 V0) DA.nil) ⟨rfl,rfl⟩ (L.gl "place_asked" (by simp))) rfl nd N3 (L.lo "place" (by simp)).1 rfl (L.lo "place" (by simp)).2) ?_;rintro ρ1 rfl;refine KSs.ans (i:=4) (pi:=1) (ob:=ob) T hz rfl N1 V1 (by decide) (by decide) mc rfl (DE.var 3 rfl N3 V3).toT hpp hl2 (by omega) (Rw hc) nd N4 (L.lo "answer" (by simp)).1 rfl (L.lo "answer" (by simp)).2 ?_;refine KSs.plain hz (DS.append 2 (d:=prD (p,o.fa p)) rfl (DE.tup (n:=0) (DA.cons (DE.var 3 rfl N3 V3) (DA.cons (DE.var 4 rfl N4 V4) DA.nil))) (by rw[aW];simp[ql];omega) rfl N2 V2 (by decide) (by decide) rfl hline) ?_;rintro ρ1 rfl;refine KSs.plain hz (DS.set 0 (d:=d2) (DE.call (cal e3) (DA.cons (DE.var 0 rfl N0 V0) (DA.cons (DE.var 4 rfl N4 V4) DA.nil)) ⟨rfl,rfl⟩ (L.gl "plan_behind" (by simp))) rfl nd N0 (L.lo "plan" (by simp)).1 rfl (L.lo "plan" (by simp)).2) ?_;rintro ρ1 rfl;refine KSs.nil ⟨m',Pj _,d2,rem',done++[p],.val (.str p),.val (.int (o.fa p)),e4,by rw[el];simp,?_,?_,rfl⟩
  .unfold ql;rw[T7];rfl
  .unfold qy;rw[List.foldl_append];rfl
 .refine⟨ae,DB.val (DE.call (cal e1) (DA.cons (DE.var 0 rfl N0 V0) DA.nil) ⟨rfl,rfl⟩ (L.gl "is_ask" (by simp))).toT,λz=>absurd z (by decide),λ_ σ' F' R' hb' kf' f=>?_⟩;rw[Xp]at el;subst el;refine(Jt (Q5 (Mm (ji peS (ji (qb N2 V2 (by decide) (by decide)) jl))))).to ?_;refine Jh (A:=[o.b]) (Q':=λv F1=>jb F' F1/\Enc X.K F1 (.int n) v) Vg (by rw[J2 hb'];exact(DE.call (cal e2) (DA.cons (DE.var 0 rfl N0 V0) DA.nil) ⟨rfl,rfl⟩ (L.gl "answer_told" (by simp))).toT σ' F' _ R' λv F1 g en=>⟨g,en⟩) λv F1 ⟨g,en⟩ hn=>?_;rw[J6 je];cases(show v=.int n from en);have hb2:F1 o.b=ah:=hn o.b (by simp);obtain⟨hσ,xs,hm,ex⟩:=R'.own 2 lA _ rfl;refine⟨_,hσ,by show 2<=au;rw[aW];decide,λp' hp2=>?_⟩;have npb:p'≠o.b:=λz=>by rw[z,je]at hp2;cases hp2
  rw[jj npb]at hp2;have ow:owns [Sl.val d',.raw o.a ob rfN,.own lA (ql o.fa l),s3,s4]=[lA]:=by
   show lA::owns [s3,s4]=[lA]
   rw[so]
  have sF:jb F F':=λc u e=>by have nc:c≠lA:=jm e hA;exact(of_del (f c u (by show del (upd F lA (.lst [])) [lA] c=aa u;rw[jc (by simpa using nc),jj nc];exact e))).2
  have gT:jb F1 (upd F1 p' (.tup [.int n,.ref lA])):=jg hp2;have eV:upd (upd F1 o.b (.dK (kvI (qy o l kvs)))) p' (.tup [.int n,.ref lA])=upd (upd F1 p' (.tup [.int n,.ref lA])) o.b (.dK (kvI (qy o l kvs))):=by
   funext c
   unfold upd;by_cases z1:c=p'
   .subst z1;rw[if_pos rfl,if_neg npb,if_pos rfl]
   .rw[if_neg z1,if_neg z1]
  rw[eV];have hlA:F1 lA=aa (.lst xs):=g _ _ hm;have npl:p'≠lA:=λz=>by rw[z,hlA]at hp2;cases hp2
  refine q p' lA xs _ (sF.trans (g.trans gT)) (by rw[jj (ba npb)];exact hb2) ?_ hA npl je (by rw[jj (ba npl)];exact hlA) ?_
  .cases e:F p' with
   |none=>rfl
   |some u=>rw[g _ _ (sF _ _ e)]at hp2;cases hp2
  .rw[ow]at ex;exact ex.mono (jk (g.trans gT))
end
def Es(K:k5g)(C:ai)(Z:Hp->Ko->Prop)(d:D)(l:List ao)(n:Int)(ps:List ao)(fa:ao->Int):Sp:=λvs H Q _=>∃(o:Ko)(kvs:List (ao×Int)) (F:Hp) (v:V),vs=[v,.ref o.a]/\H=upd F o.b (.dK (kvI kvs))/\F o.b=ah/\KFo K C Z F o/\TabOk K F/\Enc K F d v /\
 o.ps=ps/\o.fa=fa/\kvs.length+l.length<1000/\Qf o kvs /\
 ∀(p' l':ai)(xs:List V)(F':Hp),jb F F'->F' o.b=ah->F p'=ah->F l'=ah->p'≠l'->F' p'=aa (.tup [.int n,.ref l'])->F' l'=aa (.lst xs)->jd K (del F' [l']) (ql fa l) xs->Q (.ref p') (upd F' o.b (.dK (kvI (qy o l kvs))))
section
variable{P:av}{w:aA}{K:k5g}{mg:k5j}{base:aI}{C f:ai}{fd:aD}{st:aG}{k:Nat}{Z:Hp->Ko->Prop}{Γ:ao->List D->Rc}{d:D}{l ps:List ao}{n:Int}{fa:ao->Int}{m:Nat}
theorem By {n0 n02:Nat} {p1 p2 p3 p4 p5 p6 p7 p8 p9 p10 p11 p12 p13 p14 p15 p16 p17 p18 p19 p20 p21 p22 p23 p24 p25 p26 p27 p28 p29 p30 p31 p32 p33 p34 p35 p36 p37:aL} (F:Fun K "played" "played" st f fd) (S:FnScope [("plan":ao),"keeper","told","place","answer"] ["plan","keeper"] (j0 st))
  (hb:jh st=Fq n0 n02 p1 p2 p3 p4 p5 p6 p7 p8 p9 p10 p11 p12 p13 p14 p15 p16 p17 p18 p19 p20 p21 p22 p23 p24 p25 p26 p27 p28 p29 p30 p31 p32 p33 p34 p35 p36 p37)
  (hlo:∀x∈([("plan":ao),"keeper","told","place","answer"]:List ao),(j0 st).names.lookup x=aa .local) (hgl:∀x∈([("is_ask":ao),"place_asked","plan_behind","answer_told"]:List ao),(j0 st).names.lookup x=aa .globalImplicit)
  (hm:∀cdv A outer s H E,Z3 (qg CX0 P w K mg base [("plan":ao),"keeper","told","place","answer"] "played" (j0 st) f cdv A outer s H E).nox (.Name "keeper" p13) "answer" (.Name "place" p15) p14 p16) (hline:(p19.endLine==p23.line)=ag)
  (gok:∀{X:Cx},X.prog=P->X.w=w->X.K=K->X.mg=mg->X.base=base->Room k X.A->Gok X Γ) (T:∀{X:Cx},X.prog=P->X.w=w->X.K=K->X.mg=mg->X.base=base->Room k X.A->KpX X C Z) (hz:ZOk Z)
  (hp:Ja Γ fa m d=aa (l,n)) (hl:∀p∈l,p∈ps) (hl2:ps.length<=1000):FnOk P w K mg base CX0 (k+1) f fd ["plan","keeper"] (Es K C Z d l n ps fa):=by
 refine F.ok S (λvs H Q E h=>?_) (λcdv A outer s H vs Q E hr h=>?_)
 .obtain⟨o,kvs,F,v,rfl,_⟩:=h;rfl
 .obtain⟨o,kvs,Fh,v,rfl,rfl,hb0,kf,tb,en,rfl,rfl,hk,hc,q⟩:=h;rw[hb];refine⟨_,zj,?_⟩;have R0:Rep K (jz [("plan":ao),"keeper","told","place","answer"] [d,.non]) (start [("plan":ao),"keeper","told","place","answer"] [v,.non]) Fh:=Qp tb ⟨v,_,rfl,en,.non,_,rfl,rfl,rfl⟩;have R1:Rep K [.val d,.raw o.a dOb rfN,.un,.un,.un] (start [("plan":ao),"keeper","told","place","answer"] [v,.ref o.a]) Fh:=R0.set_rf (i:=1);refine j1k (o:=o) (ob:=dOb) (T rfl rfl rfl rfl rfl hr) hz ⟨rfl,λx hx=>?_,λx hx=>.inl (hlo x hx),λx hx=>hgl x hx,?_⟩ (gok rfl rfl rfl rfl rfl hr) (hm cdv A outer s _ E) hline hp hl hl2 hk hc R1 hb0 kf q
  .have z:(j0 st).names.lookup x=aa .local:=hlo x (by simp at hx ⊢;rcases hx with h|h|h|h<;>simp[h]);exact⟨.inl z,.inr z⟩
  .exact Pa
end
section
variable{X:Cx}{C:ai}{Z:Hp->Ko->Prop}{o:Ko}{ρ ρ1:Rho}{F F1:Hp}{P:Pk}{E:Ends}{kvs:List (ao×Int)}{st:aG}{sts rest sa:List aG}{σ:St}{pi i:Nat}{ob:cw}{x y p:ao}{py p1 p2 p3 p4 p5 p6 pos:aL}{c e e2:ar}{n:Int}
theorem KSs.ife{b:Bool}(hz:ZOk Z)(hc:DB X ρ c b)(ha:b=ag->KSs X C Z o ρ kvs sa { nx:=λρ' kvs'=>KSs X C Z o ρ' kvs' rest P,rt:=P.rt })(hb2:b=ae->KSs X C Z o ρ kvs rest P):KSs X C Z o ρ kvs (.If c sa [] pos::rest) P:=λσ F E R hb kf q=>by
 refine(qt (Yr ptS zj zj) zj).to ?_;refine Vx (A:=[o.b]) (Q':=λk F1=>k=b/\jb F F1) Vg (by rw[J2 hb];exact hc σ F _ R λF1 g=>⟨rfl,g⟩) ?_;rintro k F1 ⟨rfl,g⟩ hn;rw[J6 je];have hb1:F1 o.b=ah:=hn o.b (by simp);have kf1:KFo X.K C Z (del F1 (owns ρ)) o:=kf.stay hz (jk g);have q1:=q.step (Fr0.grow g);cases k with
 |true=>exact Uw (ha rfl σ F1 _ (R.grow g) hb1 kf1 ⟨λρ' kvs' σ' F' n R' hb' f=>n σ' F' E R' hb' (kf1.stay hz f) (q1.step f),q1.rt⟩)
 |false=>exact Zw (Qq.to (hb2 rfl σ F1 E (R.grow g) hb1 kf1 q1))
theorem KSs.ansEq (T:KpX X C Z) (hz:ZOk Z) (hp:ρ[pi]?=aa (.raw o.a ob rfN)) (hpN:X.N[pi]?=aa y) (hv:Vis X.env.scope y) (hd:(y==k5k)=ae) (hcd:(y==k5l)=ae) (mc:Z3 X (.Name y py) "answer" e p1 p2)
  (hst:af [e] X.env=(ae,az e X.env)::af [] X.env) (he:DT X ρ e (.str p)) (hps:p∈o.ps) (hl:o.ps.length<=1000) (hk:kvs.length<1000) (hc:Qf o kvs) (he2:DT X ρ e2 (.int (o.fa p)))
  (h2:KSs X C Z o ρ (J4 o kvs p) rest P):KSs X C Z o ρ kvs (.If (.Compare (.Call (.Attribute (.Name y py) "answer" p1) [e] [] p2) [.NotEq] [e2] p3) sa [] pos::rest) P:=λσ F E R hb kf q=>by
 refine(qt (Yr (vq j01 peS peS (zb _)) zj zj) zj).to (Wr T hz hp hpN hv hd hcd mc hst he hps hl hk hc R hb kf λF' g hb'=>?_);refine Jh (A:=[o.b]) (Q':=λv F1=>jb F' F1/\Enc X.K F1 (.int (o.fa p)) v) Vg (by rw[J2 hb'];exact he2 σ F' _ (R.grow g) λv F1 g en=>⟨g,en⟩) λv F1 ⟨g1,en⟩ hn=>?_;rw[J6 je];cases(show v=.int (o.fa p)from en);have hb1:F1 o.b=ah:=hn o.b (by simp);have g2:=g.trans g1;refine⟨rfl,_,rfl,?_⟩;rw[show(!decide (V.int (o.fa p)=V.int (o.fa p)))=ae by simp];exact Zw (Qq.to (h2 σ F1 E (R.grow g2) hb1 (kf.stay hz (jk g2)) (q.step (Fr0.grow g2))))
end
section
variable{X:Cx}{C:ai}{Z:Hp->Ko->Prop}{o:Ko}{ρ ρ1:Rho}{F F1:Hp}{P:Pk}{E:Ends}{kvs:List (ao×Int)}{st:aG}{sts rest sa:List aG}{σ:St}{pi i:Nat}{ob:cw}{x y p:ao}{py p1 p2 p3 p4 p5 p6 p7 pos:aL}{c e e1 e2:ar}{n:Int}{d d2:D}{l:List ao}{Q:VK}
theorem Uh (T:KpX X C Z) (hz:ZOk Z) (hp:ρ[pi]?=aa (.raw o.a ob rfN)) (hpN:X.N[pi]?=aa y) (hv:Vis X.env.scope y) (hd:(y==k5k)=ae) (hcd:(y==k5l)=ae) (mc:Wn X (.Name y py) "told" p1 p2)
  (cs:Cal X "_law_same" (spP X.K λds' d'=>ds'=[.lst (kvs.map prD),d2]/\d'=.bl ag)) (hg:Gl X "_law_same") (he2:DT X ρ e2 d2)
  (s1:af [.Call (.Attribute (.Name y py) "told" p1) [] [] p2,e2] X.env=(ae,az (.Call (.Attribute (.Name y py) "told" p1) [] [] p2) X.env)::af [e2] X.env) (s2:af [e2] X.env=(ae,az e2 X.env)::af [] X.env) (hpl:(aJ p3 (af [e2] X.env)).any (·.1)=ae)
  (R:Rep X.K ρ σ F) (hb:F o.b=ah) (kf:KFo X.K C Z (del F (owns ρ)) o) (q:∀F',jb F F'->F' o.b=ah->Q (.bl ag) (upd F' o.b (.dK (kvI kvs)))) :
  vm X (.Call (.Name "_law_same" p4) [.Call (.Attribute (.Name y py) "told" p1) [] [] p2,e2] [] p3) σ (upd F o.b (.dK (kvI kvs))) Q:=by
 obtain⟨fA,fT,fF,dA,dT,T,_,⟨GT,bT⟩,hr⟩:=T.ex;obtain⟨pl,ht⟩:=mc;obtain⟨k,f,fd,ps,Fs,hrs,hms,hks,hbs,_⟩:=cs.ex;have at0:=(kf.at_ (kvs:=kvs) hz jq hb).1;refine(Jv Fs (hrs.mono (by omega)) hg hms hks hbs .nil Jj (ji (j4a (qb hpN hv hd hcd) T.cl T.mT GT (hr.mono (by decide)) bT .nil Jj ht) (ji peS jl s2) s1) (by decide) s1 hpl).to ?_;refine⟨_,(R.raw pi _ _ _ hp).1,o.a,o.dx,_,rfl,at0.ob,kf.n2,o,kvs,rfl,at0,λa xs H2 g2 na ha ea=>?_⟩;have h2b:H2 o.b=aa (.dK (kvI kvs)):=g2 _ _ je;have e2':H2=upd (del H2 [o.b]) o.b (.dK (kvI kvs)):=Y5 h2b;have f2b:del H2 [o.b] o.b=ah:=qp (by simp);have gF:jb F (del H2 [o.b]):=λc u ec=>by have nc:c≠o.b:=jm ec hb;rw[jc (by simpa using nc)];exact g2 c u (by rw[jj nc];exact ec)
 have nab:a≠o.b:=λz=>by rw[z,je]at na;cases na
 have ha':del H2 [o.b] a=aa (.lst xs):=by rw[jc (by simpa using nab)];exact ha
 generalize del H2 [o.b]=F2 at e2' f2b gF ha';subst e2';refine Jh (A:=[o.b]) (Q':=λv F3=>jb F2 F3/\Enc X.K F3 d2 v) Vg (by rw[J2 f2b];exact he2 σ F2 _ (R.grow gF) λv F3 g en=>⟨g,en⟩) λv F3 ⟨g3,en⟩ hn=>?_;rw[J6 je];have f3b:F3 o.b=ah:=hn o.b (by simp);have gU:jb F3 (upd F3 o.b (.dK (kvI kvs))):=jg f3b;have gA:jb (upd F2 o.b (.dK (kvI kvs))) (upd F3 o.b (.dK (kvI kvs))):=λc u ec=>by
  by_cases z:c=o.b
  .subst z;rw[je]at ec ⊢;exact ec
  .rw[jj z]at ec ⊢;exact g3 _ _ ec
 have tb:TabOk X.K (upd F3 o.b (.dK (kvI kvs))):=(R.grow (gF.trans (g3.trans gU))).tb;have en1:Enc X.K (upd F3 o.b (.dK (kvI kvs))) (.lst (kvs.map prD)) (.ref a):=⟨a,xs,rfl,.inl (.inl (gU _ _ (g3 _ _ ha'))),ea.mono (jq.trans gA)⟩
 refine⟨[],[.lst (kvs.map prD),d2],.bl ag,tb,(λa h=>nomatch h),by rw[zr];exact⟨_,_,rfl,en1,_,_,rfl,en.mono gU,rfl⟩,⟨rfl,rfl⟩,λu H4 g4 e4=>?_⟩;cases(show u=.bl ag from e4);have h4b:H4 o.b=aa (.dK (kvI kvs)):=g4 _ _ je;rw[show H4=upd (del H4 [o.b]) o.b (.dK (kvI kvs))from Y5 h4b];refine q _ (λc u ec=>?_) (qp (by simp));have nc:c≠o.b:=jm ec hb;rw[jc (by simpa using nc)];exact g4 _ _ (gU _ _ (g3 _ _ (gF _ _ ec)))
end
structure CalPl(X:Cx)(C:ai)(Z:Hp->Ko->Prop)(d:D)(l:List ao)(n:Int)(ps:List ao)(fa:ao->Int):Prop where
 ex:∃(k:Nat)(f:ai)(fd:aD)(pp:List ao),FnOk X.prog X.w X.K X.mg X.base CX0 k f fd pp (Es X.K C Z d l n ps fa)/\Room k X.A/\X.mg "played" = aa (.ref f)/\W.keepIn X.K (.ref f)=ag/\Binds X.K fd pp []
section
variable{X:Cx}{C:ai}{Z:Hp->Ko->Prop}{o:Ko}{ρ ρ1:Rho}{F F1:Hp}{P:Pk}{E:Ends}{kvs:List (ao×Int)}{st:aG}{sts rest sa:List aG}{σ:St}{pi i:Nat}{ob:cw}{x y p:ao}{py p1 p2 p3 p4 p5 p6 p7 pos:aL}{c e e1 e2:ar}{n:Int}{d d2:D}{l:List ao}{Q:VK}
theorem Bt (cp:CalPl X C Z d l n o.ps o.fa) (hz:ZOk Z) (hp:ρ[pi]?=aa (.raw o.a ob rfN)) (hpN:X.N[pi]?=aa y) (hv:Vis X.env.scope y) (hd:(y==k5k)=ae) (hcd:(y==k5l)=ae) (hg:Gl X "played") (he:DT X ρ e d) (hk:kvs.length+l.length<1000) (hc:Qf o kvs)
  (s1:af [e,.Name y py] X.env=(ae,az e X.env)::af [.Name y py] X.env) (hpl:(aJ p3 (af [.Name y py] X.env)).any (·.1)=ae)
  (R:Rep X.K ρ σ F) (hb:F o.b=ah) (kf:KFo X.K C Z (del F (owns ρ)) o)
  (q:∀(p' l':ai)(xs:List V)(F':Hp),jb F F'->F' o.b=ah->F p'=ah->F l'=ah->p'≠l'->F' p'=aa (.tup [.int n,.ref l'])->F' l'=aa (.lst xs)->jd X.K (del F' [l']) (ql o.fa l) xs->Q (.ref p') (upd F' o.b (.dK (kvI (qy o l kvs))))) :
  vm X (.Call (.Name "played" p4) [e,.Name y py] [] p3) σ (upd F o.b (.dK (kvI kvs))) Q:=by
 obtain⟨k,f,fd,pp,Fp,hr,hm,hkp,hbp⟩:=cp.ex;refine(Jv Fp hr hg hm hkp hbp .nil Jj (ji peS (ji (qb hpN hv hd hcd) jl) s1) (by decide) s1 hpl).to ?_;refine Jh (A:=[o.b]) (Q':=λv F1=>jb F F1/\Enc X.K F1 d v) Vg (by rw[J2 hb];exact he σ F _ R λv F1 g en=>⟨g,en⟩) λv F1 ⟨g,en⟩ hn=>?_;rw[J6 je];have hb1:F1 o.b=ah:=hn o.b (by simp);have back:∀{c:ai},F1 c=ah->F c=ah:=λ{c} h=>by
  cases e:F c with
  |none=>rfl
  |some u=>rw[g _ _ e]at h;cases h
 refine⟨_,(R.raw pi _ _ _ hp).1,o,kvs,F1,v,rfl,rfl,hb1,kf.stay hz (jq.trans g),(R.grow g).tb,en,rfl,rfl,hk,hc,λp' l' xs F' g' hb' n1 n2 n3 t1 t2 t3=>?_⟩;exact q p' l' xs F' (g.trans g') hb' (back n1) (back n2) n3 t1 t2 t3
theorem Ff (cp:CalPl X C Z d l n o.ps o.fa) (hz:ZOk Z) (hp:ρ[pi]?=aa (.raw o.a ob rfN)) (hpN:X.N[pi]?=aa y) (hv:Vis X.env.scope y) (hd:(y==k5k)=ae) (hcd:(y==k5l)=ae) (hg:Gl X "played") (he:DT X ρ e d) (hk:kvs.length+l.length<1000) (hc:Qf o kvs)
  (s1:af [e,.Name y py] X.env=(ae,az e X.env)::af [.Name y py] X.env) (hpl:(aJ p3 (af [.Name y py] X.env)).any (·.1)=ae)
  (cs:Cal X "_law_same" (spP X.K λds' d'=>ds'=[.tup [.int n,.lst (ql o.fa l)],d2]/\d'=.bl ag)) (hgs:Gl X "_law_same") (he2:DT X ρ e2 d2)
  (t1:af [.Call (.Name "played" p4) [e,.Name y py] [] p3,e2] X.env=(ae,az (.Call (.Name "played" p4) [e,.Name y py] [] p3) X.env)::af [e2] X.env) (t2:af [e2] X.env=(ae,az e2 X.env)::af [] X.env) (hpl2:(aJ p5 (af [e2] X.env)).any (·.1)=ae)
  (R:Rep X.K ρ σ F) (hb:F o.b=ah) (kf:KFo X.K C Z (del F (owns ρ)) o) (q:∀F',jb F F'->F' o.b=ah->Q (.bl ag) (upd F' o.b (.dK (kvI (qy o l kvs))))) :
  vm X (.Call (.Name "_law_same" p6) [.Call (.Name "played" p4) [e,.Name y py] [] p3,e2] [] p5) σ (upd F o.b (.dK (kvI kvs))) Q:=by
 obtain⟨k,f,fd,ps,Fs,hrs,hms,hks,hbs,_⟩:=cs.ex;refine(Jv Fs (hrs.mono (by omega)) hgs hms hks hbs .nil Jj (ji peS (ji peS jl t2) t1) (by decide) t1 hpl2).to ?_;refine Bt cp hz hp hpN hv hd hcd hg he hk hc s1 hpl R hb kf λp' l' xs F2 g2 hb2 _ _ _ x1 x2 x3=>?_;refine Jh (A:=[o.b]) (Q':=λv F3=>jb F2 F3/\Enc X.K F3 d2 v) Vg (by rw[J2 hb2];exact he2 σ F2 _ (R.grow g2) λv F3 g en=>⟨g,en⟩) λv F3 ⟨g3,en⟩ hn=>?_;rw[J6 je];have f3b:F3 o.b=ah:=hn o.b (by simp);have gU:jb F3 (upd F3 o.b (.dK (kvI (qy o l kvs)))):=jg f3b;have gA:=g3.trans gU;have en1:Enc X.K (upd F3 o.b (.dK (kvI (qy o l kvs)))) (.tup [.int n,.lst (ql o.fa l)]) (.ref p'):=⟨p',_,rfl,.inl (.inl (gA _ _ x1)),_,_,rfl,rfl,_,_,rfl,⟨l',xs,rfl,.inl (.inl (gA _ _ x2)),x3.mono (jq.trans gA)⟩,rfl⟩
 refine⟨[],[.tup [.int n,.lst (ql o.fa l)],d2],.bl ag,(R.grow (g2.trans gA)).tb,(λa h=>nomatch h),by rw[zr];exact⟨_,_,rfl,en1,_,_,rfl,en.mono gU,rfl⟩,⟨rfl,rfl⟩,λu H4 g4 e4=>?_⟩;cases(show u=.bl ag from e4);have h4b:H4 o.b=aa (.dK (kvI (qy o l kvs))):=g4 _ _ je;rw[show H4=upd (del H4 [o.b]) o.b (.dK (kvI (qy o l kvs)))from Y5 h4b];refine q _ (λc u ec=>?_) (qp (by simp));have nc:c≠o.b:=jm ec hb;rw[jc (by simpa using nc)];exact g4 _ _ (gA _ _ (g2 _ _ ec))
theorem KSs.last {e3:ar} {d3:D} {q1 q2 q3 q4 q5:aL} (T:KpX X C Z) (cp:CalPl X C Z d l n o.ps o.fa) (hz:ZOk Z) (hp:ρ[pi]?=aa (.raw o.a ob rfN)) (hpN:X.N[pi]?=aa y) (hv:Vis X.env.scope y) (hd:(y==k5k)=ae) (hcd:(y==k5l)=ae) (hg:Gl X "played") (he:DT X ρ e d) (hk:kvs.length+l.length<1000) (hc:Qf o kvs)
  (s1:af [e,.Name y py] X.env=(ae,az e X.env)::af [.Name y py] X.env) (hpl:(aJ p3 (af [.Name y py] X.env)).any (·.1)=ae)
  (cs:Cal X "_law_same" (spP X.K λds' d'=>ds'=[.tup [.int n,.lst (ql o.fa l)],d2]/\d'=.bl ag)) (hgs:Gl X "_law_same") (he2:DT X ρ e2 d2)
  (t1:af [.Call (.Name "played" p4) [e,.Name y py] [] p3,e2] X.env=(ae,az (.Call (.Name "played" p4) [e,.Name y py] [] p3) X.env)::af [e2] X.env) (t2:af [e2] X.env=(ae,az e2 X.env)::af [] X.env) (hpl2:(aJ p5 (af [e2] X.env)).any (·.1)=ae)
  (mc:Wn X (.Name y q1) "told" p1 p2) (cs3:Cal X "_law_same" (spP X.K λds' d'=>ds'=[.lst ((qy o l kvs).map prD),d3]/\d'=.bl ag)) (he3:DT X ρ e3 d3)
  (u1:af [.Call (.Attribute (.Name y q1) "told" p1) [] [] p2,e3] X.env=(ae,az (.Call (.Attribute (.Name y q1) "told" p1) [] [] p2) X.env)::af [e3] X.env) (u2:af [e3] X.env=(ae,az e3 X.env)::af [] X.env) (hpl3:(aJ q2 (af [e3] X.env)).any (·.1)=ae)
  (hrt:P.rt ag):KSs X C Z o ρ kvs [.Return (aa (.BoolOp .And [.Call (.Name "_law_same" p6) [.Call (.Name "played" p4) [e,.Name y py] [] p3,e2] [] p5,.Call (.Name "_law_same" q3) [.Call (.Attribute (.Name y q1) "told" p1) [] [] p2,e3] [] q2] q4)) q5] P:=λσ F E R hb kf q=>by
 refine(Jt (Q5 (j1q peS (Cg peS)))).to (Ff cp hz hp hpN hv hd hcd hg he hk hc s1 hpl cs hgs he2 t1 t2 hpl2 R hb kf λF1 g1 hb1=>⟨ag,rfl,?_⟩);rw[if_pos rfl];exact Uh T hz hp hpN hv hd hcd mc cs3 hgs he3 u1 u2 hpl3 (R.grow g1) hb1 (kf.stay hz (jk g1)) λF2 g2 hb2=>q.rt ag (qy o l kvs) F2 hrt (jq.trans (g1.trans g2))
end
theorem jgw{b l':ai}{H G:Hp}{x y:HO}(hb:H b=aa x)(hl:H l'=aa y)(ne:l'≠b):mrg [b,l'] H G=upd (upd G l' y) b x:=by
 funext c
 unfold mrg upd;by_cases z:c=b
 .subst z;simp[hb]
 .by_cases z2:c=l'
  .subst z2;simp[ne,hl]
  .simp[z,z2]
theorem Bq{K:k5g}{G G':Hp}(h:∀c u,G c=aa u->(∀ys,u≠.lst ys)->G' c=aa u){fa:ao->Int}:∀{l:List ao}{xs:List V},jd K G (ql fa l) xs->jd K G' (ql fa l) xs
 |[],_,z=>z
 |p::l,_,⟨x,r,e,⟨a,ys,ea,sq,el⟩,z⟩=>by
  obtain⟨y1,r1,e1,h1,y2,r2,e2,h2,h3⟩:=el;refine⟨x,r,e,⟨a,ys,ea,?_,y1,r1,e1,h1,y2,r2,e2,h2,h3⟩,Bq h z⟩;rcases sq with (sq|⟨o,sq⟩)|sq
  .exact .inl (.inl (h _ _ sq (λ_=>nofun)))
  .exact .inl (.inr ⟨o,h _ _ sq (λ_=>nofun)⟩)
  .exact .inr sq
section
variable{X:Cx}{C:ai}{Z:Hp->Ko->Prop}{o:Ko}{ρ ρ1:Rho}{F F1:Hp}{P:Pk}{E:Ends}{kvs:List (ao×Int)}{st8:aG}{sts rest sa sa2:List aG}{σ:St}{pi f:Nat}{ob:cw}{x y nf:ao}{py p1 p2 p3 p4 p5 p6 p7 p8 q1 q2 q3 q4 q5 q6 q7 q8 q9 q10 q11 pos pos2:aL}{c7 e e9:ar}{n:Int}{d d9:D}{l:List ao}{n1 n2 n3 n4:Nat}
theorem KSs.mid (T:KpX X C Z) (cp:CalPl X C Z d l n o.ps o.fa) (hz:ZOk Z) (hp:ρ[pi]?=aa (.raw o.a ob rfN)) (hpN:X.N[pi]?=aa y) (hv:Vis X.env.scope y) (hd:(y==k5k)=ae) (hcd:(y==k5l)=ae) (hg:Gl X "played") (he:DT X ρ e d) (hk:kvs.length+l.length<1000) (hc:Qf o kvs)
  (s1:af [e,.Name y py] X.env=(ae,az e X.env)::af [.Name y py] X.env) (hpl:(aJ p3 (af [.Name y py] X.env)).any (·.1)=ae)
  (hN:X.N.Nodup) (hF:X.N[f]?=aa nf) (lF:Loc X.env.scope nf) (vF:Vis X.env.scope nf) (fF:X.fn nf=ag\/X.env.scope.names.lookup nf=aa .local) (dF:(nf==k5k)=ae) (cF:(nf==k5l)=ae) (rf:f<ρ.length)
  (sw:aO (.Call (.Name "played" p4) [e,.Name y py] [] p3) (aa (.Name nf p5)) p6.line X.env=pure ae)
  (h7:DB X (ρ.set f (.val (.tup [.int n,.lst (ql o.fa l)]))) c7 ae) (N8:ai->Rho->Prop) (h8:∀p',DS X (ρ.set f (.raw p' dOb rfN)) st8 { nx:=N8 p',rt:=λ_=>False })
  (h9:∀p' ρ2,N8 p' ρ2->ρ2[f]?=aa (.raw p' dOb rfN)/\ρ2[pi]?=aa (.raw o.a ob rfN)/\DT X ρ2 e9 d9/\KSs X C Z o ρ2 (qy o l kvs) rest P)
  (mc:Wn X (.Name y q1) "told" p1 p2) (cs:Cal X "_law_same" (spP X.K λds' d'=>ds'=[.lst ((qy o l kvs).map prD),d9]/\d'=.bl ag)) (hgs:Gl X "_law_same")
  (u1:af [.Call (.Attribute (.Name y q1) "told" p1) [] [] p2,e9] X.env=(ae,az (.Call (.Attribute (.Name y q1) "told" p1) [] [] p2) X.env)::af [e9] X.env) (u2:af [e9] X.env=(ae,az e9 X.env)::af [] X.env) (hpl2:(aJ q2 (af [e9] X.env)).any (·.1)=ae)
  (hbase:aS (.Subscript (.Name nf q5) (.Constant (.int 1) n1 q6) q7) "append" X.env (az (.Subscript (.Name nf q5) (.Constant (.int 1) n1 q6) q7) X.env)=az (.Subscript (.Name nf q5) (.Constant (.int 1) n1 q6) q7) X.env) (hline:(q8.endLine==q10.line)=ag)
  (hfew:((aJ q10 (af [.Tuple [.Constant (.str "x") n2 p7,.Constant (.int 0) n3 p8] n4 q9] X.env)).all (λx=>!x.1)&&(bq q10 (aT [] X.env)).all (λx=>x.1.isSome)
   && decide (([.Tuple [.Constant (.str "x") n2 p7,.Constant (.int 0) n3 p8] n4 q9]:List ar).length+([]:List b9).length+(if ([]:List b9).isEmpty then 0 else 1)<30))=ag)
  (s3:aO (.Call (.Attribute (.Subscript (.Name nf q5) (.Constant (.int 1) n1 q6) q7) "append" q8) [.Tuple [.Constant (.str "x") n2 p7,.Constant (.int 0) n3 p8] n4 q9] [] q10) ah q11.line X.env=pure ae) (hz2:(ql o.fa l).length<au) :
  KSs X C Z o ρ kvs (.Assign [.Name nf p5] (.Call (.Name "played" p4) [e,.Name y py] [] p3) p6::.If c7 sa [] pos::st8::.If (.UnaryOp .Not (.Call (.Name "_law_same" q3) [.Call (.Attribute (.Name y q1) "told" p1) [] [] p2,e9] [] q2) q4) sa2 [] pos2 ::
   .Expr (.Call (.Attribute (.Subscript (.Name nf q5) (.Constant (.int 1) n1 q6) q7) "append" q8) [.Tuple [.Constant (.str "x") n2 p7,.Constant (.int 0) n3 p8] n4 q9] [] q10) q11::rest) P:=λσ F E R hb kf q=>by
 refine(qt (Ve hN hF lF peS sw fF) (qt (Yr ptS zj zj) (qt psS (qt (Yr (j1i (j1h peS)) zj zj) (qt (Va (W9 cN dh fD Uq (Yu Mv (qb hF vF dF cF) Mp (λ_ _=>rfl)) (ji (Mm (ji Ce (ji Mp jl))) jl rfl) hbase hfew hline rfl rfl) s3) zj))))).to ?_;refine Bt cp hz hp hpN hv hd hcd hg he hk hc s1 hpl R hb kf λp' l' xs F1 g1 hb1 np nl ne t1 t2 t3=>?_;generalize hkv:qy o l kvs=kvs' at *;have hxl:f<σ.length:=by rw[R.len];exact rf
 have npo:p'∉owns ρ:=λz=>by obtain⟨ys,ea⟩:=R.owned p' z;rw[np]at ea;cases ea
 have nlo:l'∉owns ρ:=λz=>by obtain⟨ys,ea⟩:=R.owned l' z;rw[nl]at ea;cases ea
 have subF:∀b∈owns (ρ.set f (.val (.tup [.int n,.lst (ql o.fa l)]))),b∈owns ρ:=λb hb=>(ju rfl).subset hb;have subR:∀{a:ai},∀b∈owns (ρ.set f (.raw a dOb rfN)),b∈owns ρ:=λ{a} b hb=>(ju rfl).subset hb;have en1:Enc X.K (del F1 (owns ρ)) (.tup [.int n,.lst (ql o.fa l)]) (.ref p'):=by
  refine⟨p',_,rfl,.inl (.inl (by rw[jc npo];exact t1)),_,_,rfl,rfl,_,_,rfl,⟨l',xs,rfl,.inl (.inl (by rw[jc nlo];exact t2)),Bq (λc u hc nl=>?_) t3⟩,rfl⟩;have hc:=(of_del hc).2;rw[jc]
  .exact hc
  .intro z;obtain⟨ys,ea⟩:=R.owned c z;rw[g1 _ _ ea]at hc;cases hc;exact nl _ rfl
 have R1:Rep X.K (ρ.set f (.val (.tup [.int n,.lst (ql o.fa l)]))) (σ.set f (aa (.ref p'))) F1:=(R.grow g1).set_val en1;refine Vx (A:=[o.b]) (Q':=λk F2=>k=ae/\jb F1 F2) Vg (by rw[J2 hb1];exact h7 _ F1 _ R1 λF2 g=>⟨rfl,g⟩) ?_;rintro k F2 ⟨rfl,g2⟩ hn2;rw[J6 je];have hb2:F2 o.b=ah:=hn2 o.b (by simp);refine Zw (Qq.to ?_);have nlb:l'≠o.b:=λz=>by rw[z,hb1]at t2;cases t2
 have npb:p'≠o.b:=λz=>by rw[z,hb1]at t1;cases t1
 have l2:F2 l'=aa (.lst xs):=g2 _ _ t2;have x2:F2 p'=aa (.tup [.int n,.ref l']):=g2 _ _ t1;have gG:jb F (del F2 [l']):=λc u ec=>by have nc:c≠l':=jm ec nl;rw[jc (by simpa using nc)];exact g2 _ _ (g1 _ _ ec)
 have RG:Rep X.K (ρ.set f (.raw p' dOb rfN)) (σ.set f (aa (.ref p'))) (del F2 [l']):=(R.grow gG).set_rf;have dG:del (upd F2 o.b (.dK (kvI kvs'))) [o.b,l']=del F2 [l']:=by
  funext c
  unfold del upd;by_cases z:c=o.b
  .subst z;simp[hb2]
  .by_cases z2:c=l'
   .subst z2;simp
   .simp[z,z2]
 have hq2:∀c∈[o.b,l'],Hq (upd F2 o.b (.dK (kvI kvs')) c):=λc hc'=>by
  rcases xf.mp hc' with z|z
  .rw[z];exact .inr (.inr ⟨kvI kvs',je⟩)
  .rw[X7.mp z,jj nlb,l2];exact .inl ⟨xs,rfl⟩
 refine Wq (A:=[o.b,l']) (D':={ nx:=λσ' G3=>∃ρ2,N8 p' ρ2/\Rep X.K ρ2 σ' G3/\Fr0 (ρ.set f (.raw p' dOb rfN)) ρ2 (del F2 [l']) G3,rt:=λ_ _=>False }) hq2 ?_ ?_ (λ_ _ h=>h.elim) (λ_ _ h=>h) (λ_ _ h=>h)
 .rw[dG];exact h8 p' _ _ _ RG ⟨λρ' σ' G3 n R' fr=>⟨ρ',n,R',fr⟩,λ_ _ _ n=>n.elim,λ_ _ _ n=>n.elim,λ_ _ _ n=>n.elim,λ_ _ _ _ n=>n.elim⟩
 rintro σ3 G3 ⟨ρ2,n8,R3,fr⟩ hn3;have g3b:G3 o.b=ah:=hn3 o.b (by simp);have g3l:G3 l'=ah:=hn3 l' (by simp);rw[jgw je (by rw[jj nlb];exact l2) nlb];obtain⟨k1,k2,k3,k4⟩:=h9 p' ρ2 n8;have gU:jb G3 (upd G3 l' (.lst xs)):=jg g3l;have fr0:Fr0 ρ (ρ.set f (.raw p' dOb rfN)) F (del F2 [l']):=jb.trans (Fr0.grow gG) (Fr0.drop subR);have frA:Fr0 ρ ρ2 F G3:=jb.trans fr0 fr;have kf3:KFo X.K C Z (del G3 (owns ρ2)) o:=kf.stay hz frA;have g3p:G3 p'=aa (.tup [.int n,.ref l']):=by refine(of_del (fr p' _ ?_)).2;rw[jc λz=>npo (subR _ z),jc (by simpa using ne)];exact x2
 refine Uh T hz k2 hpN hv hd hcd mc cs hgs k3 u1 u2 hpl2 (R3.grow gU) (by rw[jj (ba nlb)];exact g3b) (kf3.stay hz (jk gU)) λF4 g4 hb4=>⟨_,rfl,Zw (Qq.to ?_)⟩
 have l4:F4 l'=aa (.lst xs):=g4 _ _ je;have p4':F4 p'=aa (.tup [.int n,.ref l']):=g4 _ _ (gU _ _ g3p);have gB:jb F4 (upd F4 o.b (.dK (kvI kvs'))):=jg hb4;have xl:xs.length<au:=by rw[t3.length];exact hz2
 refine⟨_,(R3.raw f _ _ _ k1).1,p',_,1,_,rfl,rfl,.inl (.inl (gB _ _ p4')),rfl,.inl ⟨rfl,xs,.inl (.inl (gB _ _ l4))⟩,?_⟩;refine⟨by show 2<=au;rw[aW];decide,λt ht=>?_⟩;have ntb:t≠o.b:=λz=>by rw[z,je]at ht;cases ht
 rw[jj ntb]at ht;have ntl:l'≠t:=λz=>by rw[<-z,l4]at ht;cases ht
 refine⟨l',xs,_,rfl,rfl,by rw[jj ntl];exact gB _ _ l4,xl,?_⟩;have eV:upd (upd (upd F4 o.b (.dK (kvI kvs'))) t (.tup [.str "x",.int 0])) l' (.lst (xs++[.ref t]))=upd (upd (upd F4 t (.tup [.str "x",.int 0])) l' (.lst (xs++[.ref t]))) o.b (.dK (kvI kvs')):=by
  funext c
  unfold upd;by_cases z:c=l'
  .subst z;simp[nlb]
  .by_cases z2:c=t
   .subst z2;simp[z,ntb]
   .simp[z,z2]
 rw[eV];have gZ:jb G3 (upd (upd F4 t (.tup [.str "x",.int 0])) l' (.lst (xs++[.ref t]))):=λc u ec=>by have nc:c≠l':=jm ec g3l;have hc4:=g4 _ _ (gU _ _ ec);rw[jj nc,jj (jm hc4 ht)];exact hc4
 exact k4 σ3 _ E (R3.grow gZ) (by rw[jj (ba nlb),jj (ba ntb)];exact hb4) (kf3.stay hz (jk gZ)) (q.step (jb.trans frA (Fr0.grow gZ)))
end
theorem j1a{K:k5g}{G G':Hp}{a:ai}{xs:List V}(h:∀u,G a=aa u->(∀ys,u≠.lst ys)->(∀kv,u≠.dK kv)->G' a=aa u)(sq:SqT K G a xs):SqT K G' a xs:=by
 rcases sq with (sq|⟨o,sq⟩)|sq
 .exact .inl (.inl (h _ sq (λ_=>nofun) (λ_=>nofun)))
 .exact .inl (.inr ⟨o,h _ sq (λ_=>nofun) (λ_=>nofun)⟩)
 .exact .inr sq
structure CalR(X:Cx)(C:ai)(sq:Bool)(ps:List ao)(row:List Int):Prop where
 ex:∃(k:Nat)(f:ai)(fd:aD),FnOk X.prog X.w X.K X.mg X.base CX0 k f fd ["self","places","row"] (jaa X.K C sq ps row)/\Room (k+1) X.A/\X.mg "RowKeeper" = aa (.ref C)/\Mk X.K C f/\Binds X.K fd ["self","places","row"] []
section
variable{X:Cx}{C:ai}{ρ:Rho}{P:Po}{rest:List aG}{i:Nat}{y:ao}{e1 e2:ar}{p1 p2 p3 pos:aL}{sq:Bool}{ps:List ao}{row:List Int}
theorem DSs.rkeep (cr:CalR X C sq ps row) (hg:Gl X "RowKeeper") (he1:DT X ρ e1 (D.seq sq (ps.map D.str))) (he2:DT X ρ e2 (.tup (row.map D.int))) (hlr:row.length=ps.length)
  (s1:af [e1,e2] X.env=(ae,az e1 X.env)::af [e2] X.env) (s2:af [e2] X.env=(ae,az e2 X.env)::af [] X.env) (hpl:(aJ p3 (af [e2] X.env)).any (·.1)=ae)
  (hN:X.N.Nodup) (hY:X.N[i]?=aa y) (lY:Loc X.env.scope y) (fY:X.fn y=ag\/X.env.scope.names.lookup y=aa .local) (sw:aO (.Call (.Name "RowKeeper" p2) [e1,e2] [] p3) (aa (.Name y p1)) pos.line X.env=pure ae)
  (h2:∀o:Ko,o.ps=ps->(o.fa=λp=>row.getD (ps.idxOf p) 0)->KSs X C (ZR X.K) o (ρ.set i (.raw o.a dOb rfN)) [] rest { nx:=λ_ _=>False,rt:=λb=>P.rt (.val (.bl b)) }) :
  DSs X ρ (.Assign [.Name y p1] (.Call (.Name "RowKeeper" p2) [e1,e2] [] p3) pos::rest) P:=λσ H E R q=>by
 obtain⟨k,f,fd,GI,hr,hm,M,hb⟩:=cr.ex;refine(qt (Ve hN hY lY (Ie M GI hr hg hm hb .nil Jj (ji peS (ji peS jl s2) s1) (by decide) s1 hpl) sw fY) zj).to ?_;refine he1 σ H _ R λv H1 g1 en1=>he2 σ H1 _ (R.grow g1) λv2 H2 g2 ⟨r,xs,e,sr,er⟩=>?_;have exs:=Qz er;subst e exs;intro x dx hx hdx ndx;have g0:=g1.trans g2;have gI:jb H2 (upd (upd H2 dx (.own x)) x (.ins C dx [])):=λc u ec=>by rw[jj (jm ec hx),jj (jm ec hdx)];exact ec
 refine⟨x,dx,r,v,rfl,je,(R.grow (g0.trans gI)).tb,(en1.mono (g2.trans gI)),gI.seqT sr,λt b H' hbn nba ha sqt sr' hbd bt=>⟨rfl,?_⟩⟩;have back:∀{c:ai},H2 c=ah->H c=ah:=λ{c} h=>by
  cases e:H c with
  |none=>rfl
  |some u=>rw[g0 _ _ e]at h;cases h
 have hbn2:H2 b=ah:=by
  cases e:H2 b with
  |none=>rfl
  |some u=>rw[gI _ _ e]at hbn;cases hbn
 have hHb:=back hbn2;have hHx:=back hx;have gF:jb H (del H' [b]):=λc u ec=>by have nc:c≠b:=jm ec hHb;have nx:c≠x:=jm ec hHx;rw[jc (by simpa using nc)];exact bt c u nx (gI _ _ (g0 _ _ ec))
 have eH:H'=upd (del H' [b]) b (.dK (kvI [])):=Y5 hbd;have nxo:x∉owns ρ:=λz=>by obtain⟨ys,ea⟩:=R.owned x z;rw[hHx]at ea;cases ea
 have R1:Rep X.K (ρ.set i (.raw x dOb rfN)) (σ.set i (aa (.ref x))) (del H' [b]):=(R.grow gF).set_rf;have sub:∀c∈owns (ρ.set i (.raw x dOb rfN)),c∈owns ρ:=λc hc=>(ju rfl).subset hc;have mv:∀{a:ai}{ys:List V},SqT X.K H' a ys->SqT X.K (del (del H' [b]) (owns (ρ.set i (.raw x dOb rfN)))) a ys:=λ{a ys} h=>j1a (λu hu n1 n2=>by
  have nb:a≠b:=λz=>by rw[z,hbd]at hu;cases hu;exact n2 _ rfl
  rw[jc,jc (by simpa using nb)]
  .exact hu
  .intro z
   obtain⟨zs,ez⟩:=R1.owned a z
   rw[jc (by simpa using nb),hu]at ez
   cases ez
   exact n1 _ rfl) h
 rw[eH];refine h2 ⟨x,dx,t,b,rkF t b r,ps,λp=>row.getD (ps.idxOf p) 0⟩ rfl rfl _ _ E R1 (qp (by simp)) ⟨?_,?_,?_,?_,?_,?_,mv sqt,r,row,?_,mv sr',hlr,λ_ _=>rfl⟩ ⟨λ_ _ _ _ n=>n.elim,λb' kvs' F' n g=>?_⟩
 .show del (del H' [b]) (owns (ρ.set i (.raw x dOb rfN))) x=_;rw[jc λz=>nxo (sub _ z),jc (by simpa using ba nba)];exact ha
 .rfl
 .show(rkF t b r).lookup ("remembered":ao)=_;unfold rkF;rw[xj,show(("remembered":ao)==("places":ao))=ae by decide +kernel];rfl
 .show(rkF t b r).lookup ("answer":ao)=ah;unfold rkF;rw[xj,show(("answer":ao)==("places":ao))=ae by decide +kernel,xj,show(("answer":ao)==("remembered":ao))=ae by decide +kernel,xj,show(("answer":ao)==("row":ao))=ae by decide +kernel];rfl
 .show(rkF t b r).lookup ("told":ao)=ah;unfold rkF;rw[xj,show(("told":ao)==("places":ao))=ae by decide +kernel,xj,show(("told":ao)==("remembered":ao))=ae by decide +kernel,xj,show(("told":ao)==("row":ao))=ae by decide +kernel];rfl
 .show(rkF t b r).lookup ("first_answer":ao)=ah;unfold rkF;rw[xj,show(("first_answer":ao)==("places":ao))=ae by decide +kernel,xj,show(("first_answer":ao)==("remembered":ao))=ae by decide +kernel,xj,show(("first_answer":ao)==("row":ao))=ae by decide +kernel];rfl
 .show(rkF t b r).lookup ("row":ao)=_;unfold rkF;rw[xj,show(("row":ao)==("places":ao))=ae by decide +kernel,xj,show(("row":ao)==("remembered":ao))=ae by decide +kernel];rfl
 .refine q.rt _ _ _ n ⟨λc u ec=>?_,rfl⟩;obtain⟨nc,ec⟩:=of_del ec;have ncb:c≠b:=jm ec hHb;show upd F' b _ c=_;rw[jj ncb];exact g c u (by rw[jc λz=>nc (sub _ z)];exact gF _ _ ec)
end
section
variable{X:Cx}{ρ:Rho}{a b:ar}{d da db:D}{ds ds':List D}{pos:aL}{k:Bool}
theorem j2c {t c:String} (h:qw t c=aa k):t ≠ "function":=λz=>by unfold qw at h;rw[if_pos z]at h;cases h
theorem Im{K:k5g}{c:String}(h:qw d.ty c=aa k):W.kitOne K (.type d.ty) (.type c)=aa k:=by
 have nf:d.ty ≠ "function":=j2c h;unfold qw at h;rw[if_neg nf]at h;by_cases h1:c = "int"
 .subst h1;cases d<;>first|exact absurd rfl nf|(simp[D.ty]at h;subst h;kernel_rfl)
 rw[if_neg h1]at h;by_cases h2:c = "bool"
 .subst h2;cases d<;>first|exact absurd rfl nf|(simp[D.ty]at h;subst h;kernel_rfl)
 rw[if_neg h2]at h;by_cases h3:c = "str"
 .subst h3;cases d<;>first|exact absurd rfl nf|(simp[D.ty]at h;subst h;kernel_rfl)
 rw[if_neg h3]at h;by_cases h4:c = "list"
 .subst h4;cases d<;>first|exact absurd rfl nf|(simp[D.ty]at h;subst h;kernel_rfl)
 rw[if_neg h4]at h;by_cases h5:c = "tuple"
 .subst h5;cases d<;>first|exact absurd rfl nf|(simp[D.ty]at h;subst h;kernel_rfl)
 rw[if_neg h5]at h;cases h
theorem Ir {c:String} {cs:List String} (h:qi d (c::cs)=aa k):d.ty ≠ "function":=by
 unfold qi at h;split at h
 .rename_i e _;exact j2c e
 .cases h
theorem Cz{K:k5g}:∀{cs:List String}{k:Bool},qi d cs=aa k->W.kitAny K (.type d.ty) (cs.map de)=aa k
 |[],k,h=>by cases h;rfl
 |c::cs,k,h=>by
  unfold qi at h;cases e1:qw d.ty c with
  |none=>rw[e1]at h;cases h
  |some x =>
   cases e2:qi d cs with
   |none=>rw[e1,e2]at h;cases h
   |some y =>
    rw[e1,e2]at h;cases h;rw[xx,W.kitAny,Im e1];cases x with
    |true=>simp
    |false=>simp;exact Cz e2
theorem DE.neD(s:Bool)(hu:X.A.units+100<aY)(ha:DT X ρ a (D.seq s ds))(hb:DT X ρ b (D.seq s ds'))(hd:D.depL ds<=98)(nd:D.depL ds'<10000):DE X ρ (.Compare a [.NotEq] [b] pos) (.bl (!vd ds ds')):=λσ H Q R q =>(Ju (j1u hu) peS peS (zb _)).to (ha σ H _ R λv H1 g1 e1=>hb σ H1 _ (R.grow g1) λu H2 g2 e2=>⟨ds,ds',s,e1.mono g2,e2,hd,nd,q _ H2 (g1.trans g2) rfl⟩)
theorem DE.notIn(s:Bool)(hu:X.A.units+100<aY)(ha:DT X ρ a d)(hb:DT X ρ b (D.seq s ds))(hd:D.depL ds<=98)(nd:d.dep<10000)(hm:aN .NotIn b=ae):DE X ρ (.Compare a [.NotIn] [b] pos) (.bl (!ds.any λe=>deq e d)):=λσ H Q R q =>(Ju (Up hu) peS peS hm).to (ha σ H _ R λv H1 g1 e1=>hb σ H1 _ (R.grow g1) λu H2 g2 e2=>⟨d,ds,s,e1.mono g2,e2,hd,nd,q _ H2 (g1.trans g2) rfl⟩)
theorem DE.in(s:Bool)(hu:X.A.units+100<aY)(ha:DT X ρ a d)(hb:DT X ρ b (D.seq s ds))(hd:D.depL ds<=98)(nd:d.dep<10000)(hm:aN .In b=ae):DE X ρ (.Compare a [.In] [b] pos) (.bl (ds.any λe=>deq e d)):=λσ H Q R q =>(Ju (j1v hu) peS peS hm).to (ha σ H _ R λv H1 g1 e1=>hb σ H1 _ (R.grow g1) λu H2 g2 e2=>⟨d,ds,s,e1.mono g2,e2,hd,nd,q _ H2 (g1.trans g2) rfl⟩)
theorem Om:∀{b:D}{s:Bool}{l:List D},b.sqv=aa (s,l)->b=D.seq s l
 |.lst _,_,_,h=>by cases h;rfl
 |.dct _ _,_,_,h=>by cases h
 |.sct _,_,_,h=>by cases h
 |.fn _ _,_,_,h=>by cases h
 |.tup _,_,_,h=>by cases h;rfl
 |.non,_,_,h=>by cases h
 |.bl _,_,_,h=>by cases h
 |.int _,_,_,h=>by cases h
 |.str _,_,_,h=>by cases h
theorem j0n{op:Cop}{i j:Int}(h:cmpI op i j=aa k)(ha:DT X ρ a (.int i))(hb:DT X ρ b (.int j)):DE X ρ (.Compare a [op.op] [b] pos) (.bl k)/\DB X ρ (.Compare a [op.op] [b] pos) k:=by
 cases op<;>(first|(cases h;done)|skip)
 .cases h;exact⟨DE.lt ha hb,DB.lt ha hb⟩
 .cases h;exact⟨DE.le ha hb,DB.le ha hb⟩
 .cases h;exact⟨DE.gt ha hb,DB.gt ha hb⟩
 .cases h;exact⟨DE.ge ha hb,DB.ge ha hb⟩
 .cases h;exact⟨DE.eqI ha hb,DB.eqI ha hb⟩
 .cases h;exact⟨DE.neI ha hb,DB.neI ha hb⟩
theorem Nq{op:Cop}(hu:X.A.units+100<aY)(h:Jr op da db=aa k)(ha:DT X ρ a da)(hb:DT X ρ b db)(hm:aN op.op b=ae) :
  DE X ρ (.Compare a [op.op] [b] pos) (.bl k)/\DB X ρ (.Compare a [op.op] [b] pos) k:=by
 have inn:∀{r:Bool->Bool},(match db.sqv with|some (_,l)=>if D.depL l<=90/\da.dep<=90 then aa (r (l.any λe=>deq e da))else ah|none=>ah)=aa k->∃s l,DT X ρ b (D.seq s l)/\D.depL l<=98/\da.dep<10000/\k=r (l.any λe=>deq e da):=λ{r} h=>by
  cases e:db.sqv with
  |none=>rw[e]at h;cases h
  |some p =>
   obtain⟨s,l⟩:=p;rw[e]at h;have h:(if D.depL l<=90/\da.dep<=90 then aa (r (l.any λe=>deq e da))else ah)=aa k:=h;by_cases z:D.depL l<=90/\da.dep<=90
   .rw[if_pos z]at h;cases h;exact⟨s,l,Om e▸hb,by omega,by omega,rfl⟩
   .rw[if_neg z]at h;cases h
 unfold Jr at h;split at h
 .exact j0n h ha hb
 .by_cases z:da.dep<=90/\db.dep<=90
  .rw[if_pos z]at h;cases h;exact⟨DE.eqD hu ha hb (by omega) (by omega),DB.eqD hu ha hb (by omega) (by omega)⟩
  .rw[if_neg z]at h;cases h
 .cases h;exact⟨DE.neB ha hb,DB.neB ha hb⟩
 .cases h;exact⟨(DE.neS ha hb).eq (by rw[Ls]),(DB.neS ha hb).eq (by rw[Ls])⟩
 .cases h;exact⟨(DE.neS ha hb).eq (by simp),(DB.neS ha hb).eq (by simp)⟩
 .rename_i l m;by_cases z:D.depL l<=90/\D.depL m<=90
  .rw[if_pos z]at h;cases h;exact⟨DE.neD ag hu ha hb (by omega) (by omega),DB.neD ag hu ha hb (by omega) (by omega)⟩
  .rw[if_neg z]at h;cases h
 .rename_i l m;by_cases z:D.depL l<=90/\D.depL m<=90
  .rw[if_pos z]at h;cases h;exact⟨DE.neD ae hu ha hb (by omega) (by omega),DB.neD ae hu ha hb (by omega) (by omega)⟩
  .rw[if_neg z]at h;cases h
 .cases h;exact⟨DE.inS ha hb hm,DB.inS ha hb hm⟩
 .cases h;exact⟨DE.ltS ha hb,DB.ltS ha hb⟩
 .cases h;exact⟨DE.gtS ha hb,DB.gtS ha hb⟩
 .obtain⟨s,l,hb,hd,nd,e⟩:=inn (r:=id) h;subst e;exact⟨DE.in s hu ha hb hd nd hm,DB.in s hu ha hb hd nd hm⟩
 .obtain⟨s,l,hb,hd,nd,e⟩:=inn (r:=(!·)) h;subst e;exact⟨DE.notIn s hu ha hb hd nd hm,DB.notIn s hu ha hb hd nd hm⟩
 .cases h
theorem DE.shr{i j:Int}(ha:DT X ρ a (.int i))(hb:DT X ρ b (.int j))(h:0<=j):DE X ρ (.BinOp a .RShift b pos) (.int (i/2^j.toNat)):=DE.arI (g:=λi j=>i/2^j.toNat) jb9 ha hb h
theorem qe{α:Type}{c:Prop}[Decidable c]{x y:α}(h:(if c then aa x else ah)=aa y):c/\x=y:=by
 by_cases z:c
 .rw[if_pos z]at h;exact⟨z,aB h⟩
 .rw[if_neg z]at h;cases h
theorem j0q{op:Bop}{i j n:Int}(h:binI op i j=aa n)(ha:DT X ρ a (.int i))(hb:DT X ρ b (.int j)):DE X ρ (.BinOp a op.op b pos) (.int n):=by
 cases op
 .cases h;exact DE.add ha hb
 .cases h;exact DE.sub ha hb
 .obtain⟨z,e⟩:=qe h;subst e;exact DE.mul ha hb z
 .obtain⟨z,e⟩:=qe h;subst e;exact DE.fdivB ha hb z
 .obtain⟨z,e⟩:=qe h;subst e;exact DE.mod ha hb z
 .obtain⟨z,e⟩:=qe h;subst e;exact DE.pow ha hb z
 .obtain⟨z,e⟩:=qe h;subst e;exact DE.shl ha hb z
 .obtain⟨z,e⟩:=qe h;subst e;exact DE.shr ha hb z
 .cases h;exact DE.arI0 jbf ha hb
 .cases h;exact DE.arI0 jb7 ha hb
theorem zp{n:Nat}(h:jt n=ag):n<=au:=of_decide_eq_true h
end
section
variable{X:Cx}{ρ:Rho}{a b e:ar}{es:List ar}{d:D}{pos p:aL}
theorem Has.lw:∀{r:Rk}{l:List D},Has X ρ a r->r.lw=aa l->DL X ρ a l
 |.o l,_,h,q=>by cases q;exact DO.toL h
 |.w l,_,h,q=>by cases q;exact h
 |.e _,_,_,q=>by cases q
 |.t _,_,_,q=>by cases q
theorem j37{op:Bop}{x y r:Rk}(h:Ua op x y=aa r)(ha:Has X ρ a x)(hb:Has X ρ b y):Has X ρ (.BinOp a op.op b pos) r:=by
 unfold Ua at h;split at h
 .rename_i i j e1 e2;cases z:binI op i j with
  |none=>rw[z]at h;cases h
  |some n=>rw[z]at h;cases h;exact j0q z (e1▸ha.toT) (e2▸hb.toT)
 .rename_i y z e1 e2;split at h
  .obtain⟨q,e⟩:=qe h;subst e;exact DE.catS (e1▸ha.toT) (e2▸hb.toT) (zp q)
  .cases h
 .rename_i y k e1 e2;split at h
  .obtain⟨q,e⟩:=qe h;subst e;exact DE.mulS (e1▸ha.toT) (e2▸hb.toT) q.1 q.2
  .cases h
 .split at h
  .rename_i l m _ e1 e2;obtain⟨z,q⟩:=qe h;subst q;exact DO.catM (ha.toM e1) (hb.toM e2) (zp z)
  .rename_i l m _ e1 e2;obtain⟨z,q⟩:=qe h;subst q;exact DE.catTM (ha.toM e1) (hb.toM e2) (zp z)
  .rename_i l k _ _ e1 e3;obtain⟨z,q⟩:=qe h;subst q;exact DE.repT (ha.toM e1) (e3▸hb.toT) (λe=>by subst e;exact absurd z.2.2.1 (by simp)) z.1 z.2.1 (zp z.2.2.2)
  .rename_i k _ _ _ e3 _;cases e:x.lw with
   |none=>rw[e]at h;cases h
   |some l =>rw[e]at h;obtain⟨z,q⟩:=qe h;subst q;exact DO.rep (ha.lw e) (e3▸hb.toT) z.1 z.2.1 (zp z.2.2)
  .cases h
theorem U9:∀{l:List D}{bs:List Bool},boolsOf l=aa bs->l=bs.map D.bl
 |[],_,h=>by cases h;rfl
 |.bl b::r,bs,h=>by
  unfold boolsOf at h;cases e:boolsOf r with
  |none=>rw[e]at h;cases h
  |some q=>rw[e]at h;cases h;rw[U9 e];rfl
 |.non::_,_,h=>by cases h
 |.int _::_,_,h=>by cases h
 |.str _::_,_,h=>by cases h
 |.tup _::_,_,h=>by cases h
 |.lst _::_,_,h=>by cases h
 |.dct _ _::_,_,h=>by cases h
 |.sct _::_,_,h=>by cases h
 |.fn _ _::_,_,h=>by cases h
theorem Qs:∀{l:List D}{bs:List Int},intsOf l=aa bs->l=bs.map D.int
 |[],_,h=>by cases h;rfl
 |.int b::r,bs,h=>by
  unfold intsOf at h;cases e:intsOf r with
  |none=>rw[e]at h;cases h
  |some q=>rw[e]at h;cases h;rw[Qs e];rfl
 |.non::_,_,h=>by cases h
 |.bl _::_,_,h=>by cases h
 |.str _::_,_,h=>by cases h
 |.tup _::_,_,h=>by cases h
 |.lst _::_,_,h=>by cases h
 |.dct _ _::_,_,h=>by cases h
 |.sct _::_,_,h=>by cases h
 |.fn _ _::_,_,h=>by cases h
theorem Br:∀{l:List D}{bs:List ao},strsOf l=aa bs->l=bs.map D.str
 |[],_,h=>by cases h;rfl
 |.str b::r,bs,h=>by
  unfold strsOf at h;cases e:strsOf r with
  |none=>rw[e]at h;cases h
  |some q=>rw[e]at h;cases h;rw[Br e];rfl
 |.non::_,_,h=>by cases h
 |.bl _::_,_,h=>by cases h
 |.int _::_,_,h=>by cases h
 |.tup _::_,_,h=>by cases h
 |.lst _::_,_,h=>by cases h
 |.dct _ _::_,_,h=>by cases h
 |.sct _::_,_,h=>by cases h
 |.fn _ _::_,_,h=>by cases h
theorem Q3{w:Option W}{k:Bool}(h:truth w=aa k):∃r,w=aa (.v r)/\r.d=.bl k:=by
 unfold truth at h;split at h
 .rename_i r;split at h
  .rename_i q e;cases h;exact⟨r,rfl,e⟩
  .cases h
 .cases h
def K6(X:Cx)(ρ:Rho):List ar->List Rk->Prop
 |[],[]=>True
 |e::es,r::rs=>(∀y,Qj r.d=aa y->DE X ρ e (.str y))/\K6 X ρ es rs
 |_,_=>False
theorem K6.all{X:Cx}{ρ:Rho}:∀{es:List ar}{rs:List Rk}{ys:List ao},K6 X ρ es rs->Q7 rs=aa ys->DPs X ρ es ys/\ys.length=rs.length
 |[],[],ys,_,q=>by cases q;exact⟨trivial,rfl⟩
 |e::es,r::rs,ys,h,q=>by
  unfold Q7 at q;cases e1:Qj r.d with
  |none=>rw[e1]at q;cases q
  |some y =>
   cases e2:Q7 rs with
   |none=>rw[e1,e2]at q;cases q
   |some ys' =>rw[e1,e2]at q;cases q;obtain⟨z1,z2⟩:=K6.all h.2 e2;exact⟨⟨h.1 y e1,z1⟩,by rw[xg,xg,z2]⟩
 |[],_::_,_,h,_=>h.elim
 |_::_,[],_,h,_=>h.elim
theorem log2_small{i:Int}(h:-18446744073709551616<i/\i<18446744073709551616):i.natAbs.log2<1920:=by
 by_cases z:i.natAbs=0
 .rw[z];decide
 .have e:(2:Nat)^64=18446744073709551616:=by decide
  have:i.natAbs.log2<64:=(lb z).mpr (by rw[e];omega);omega
theorem j1b{d:D}{y:ao}(h:Qj d=aa y):y.length<=10000:=by
 cases d with
 |int i =>
  simp only[Qj]at h;split at h
  .rename_i q;cases h;have:=int_text_length_le (k:=1920) (by decide) (log2_small q);rw[PySem.ofString_length];omega
  .cases h
 |str z =>
  simp only[Qj]at h;split at h
  .rename_i q;cases h;exact q
  .cases h
 |tup l =>
  simp only[Qj]at h;split at h
  .split at h
   .rename_i q;cases h;exact q.2
   .cases h
  .cases h
 |_=>cases h
theorem Wo:∀{rs:List Rk}{ys:List ao},Q7 rs=aa ys->∀y∈ys,y.length<=10000
 |[],_,q=>by cases q;exact λy hy=>nomatch hy
 |r::rs,ys,q=>by
  unfold Q7 at q;cases e1:Qj r.d with
  |none=>rw[e1]at q;cases q
  |some y =>
   cases e2:Q7 rs with
   |none=>rw[e1,e2]at q;cases q
   |some ys' =>
    rw[e1,e2]at q;cases q;intro z hz;rcases xf.mp hz with rfl|hz
    .exact j1b e1
    .exact Wo e2 z hz
theorem DE.fmt{X:Cx}{ρ:Rho}{a:ar}{d:D}{y:ao}{pos:aL}(hg:X.A.guards=aa [])(hu:X.A.units+100<aY)(ha:DT X ρ a d)(h:Qj d=aa y):DE X ρ (.FormattedValue a (-1) ah pos) (.str y):=by
 cases d with
 |int i =>
  simp only[Qj]at h;split at h
  .rename_i q;cases h;exact DE.fmtI ha (log2_small q)
  .cases h
 |str z =>
  simp only[Qj]at h;split at h
  .rename_i q;cases h;exact DE.fmtS ha (by rw[aW];omega)
  .cases h
 |tup l =>
  simp only[Qj]at h;split at h
  .rename_i is ei;split at h
   .rename_i q;cases h;have e:=Qs ei;subst e;exact DE.fmtT hg hu ha (λi hi=>log2_small (q.1 i hi)) (by rw[aW];omega)
   .cases h
  .cases h
 |_=>cases h
def jdr(Γ:ao->List D->Rc)(G:ao->Option D)(X:Cx)(t:Ex):Nd->Prop
 |.e e=>∀ρ r,ev Γ G t (jf ρ)=aa (.v r)->Has X ρ e r
 |.b e=>∀ρ k,truth (ev Γ G t (jf ρ))=aa k->DB X ρ e k
 |.w e=>∀ρ k,truth (ev Γ G t (jf ρ))=aa k->DW X ρ e k
 |.a es=>∀ρ rs,ev Γ G t (jf ρ)=aa (.a rs)->HasA X ρ es rs
 |.i tg it=>∀ρ ds,ev Γ G t (jf ρ)=aa (.i ds)->DI X ρ tg it ds
 |.o e=>∀ρ o,Q6 (ev Γ G t (jf ρ))=aa o->DP X ρ e o
 |.p es=>∀ρ rs,ev Γ G t (jf ρ)=aa (.a rs)->K6 X ρ es rs
 |.c ifs=>∀ρ,(ev Γ G t (jf ρ)=aa (.a [])->DTs X ρ ifs ag)/\∀y k,ev Γ G t (jf ρ)=aa (.a [y])->y.d=.bl k->DTs X ρ ifs k
end
section
variable{Γ:ao->List D->Rc}{G:ao->Option D}{X:Cx}
theorem R9{is:List Nat}{elt' it' c':Ex}{elt it tg:ar}{ifs:List ar}{scope:be}{ρ:Rho}{r:Rk}
  (hit:∀ρ ds,ev Γ G it' (jf ρ)=aa (.i ds)->DI X ρ tg it ds)
  (hb:∀ρ d ρ2,zx is d (jf ρ)=aa ρ2->(∀j∈is,ρ[j]?=aa .un)->∃ρ',jf ρ'=ρ2/\Wk ρ' ρ/\owns ρ'=owns ρ/\∀C s H fp pn,DG (cCx X scope C s H fp pn) ρ tg d ρ')
  (he:∀C s H fp pn ρ r,ev Γ G elt' (jf ρ)=aa (.v r)->Has (cCx X scope C s H fp pn) ρ elt r)
  (hc:∀C s H fp pn ρ,(ev Γ G c' (jf ρ)=aa (.a [])->DTs (cCx X scope C s H fp pn) ρ ifs ag)/\∀y k,ev Γ G c' (jf ρ)=aa (.a [y])->y.d=.bl k->DTs (cCx X scope C s H fp pn) ρ ifs k)
  (h:ev Γ G (.comp is elt' it' c') (jf ρ)=aa (.v r)):∃(l:List D)(ρf:Rho)(ds:List D)(pr:D->Bool)(g:D->D),r=.o l/\l=(ds.filter pr).map g /\
   (ρf=ρ\/(qu l=ag/\∃(i:Nat)(a:ai)(l':List D),ρ[i]?=aa (.own a l')/\ρf=ρ.set i (.val (.lst l'))))/\DI X ρf tg it ds/\(∀j∈is,ρf[j]?=aa .un)/\ds.length<=au /\
   (∀C s H fp pn,∀d∈ds,∃ρ2,DG (cCx X scope C s H fp pn) ρf tg d ρ2/\Wk ρ2 ρf/\owns ρ2=owns ρf/\DTs (cCx X scope C s H fp pn) ρ2 ifs (pr d)/\(pr d=ag->DE (cCx X scope C s H fp pn) ρ2 elt (g d))):=by
 have fr:∃ρf,jf ρf=frz it' (jf ρ)/\((Jd it' (jf ρ)=ae/\ρf=ρ)\/(Jd it' (jf ρ)=ag/\∃i a l,ρ[i]?=aa (.own a l)/\ρf=ρ.set i (.val (.lst l)))):=by
  by_cases z:Jd it' (jf ρ)=ag
  .unfold Jd at z;split at z
   .rename_i i ei;split at z
    .rename_i l e;obtain⟨a,q⟩:=Zh e;refine⟨ρ.set i (.val (.lst l)),?_,.inr ⟨?_,i,a,l,q,rfl⟩⟩
     .rw[jw];simp only[frz,ei,e,Sl.abs]
     .simp only[Jd,ei,e]
    .cases z
   .cases z
  .have z':Jd it' (jf ρ)=ae:=by simpa using z
   refine⟨ρ,?_,.inl ⟨z',rfl⟩⟩;unfold frz;split
   .rename_i i ei;split
    .rename_i l e;simp only[Jd,ei,e]at z';cases z'
    .rfl
   .rfl
 obtain⟨ρf,ef,fr⟩:=fr;rw[jdk]at h;rw[<-ef]at h;split at h
 .rename_i ds hds;split at h
  .rename_i hz;obtain⟨hfree,hlen⟩:=hz;generalize hf:(λd=>_:D->Option (Option D))=f at h;cases hl:Jq f ds with
   |none=>rw[hl]at h;cases h
   |some l =>
    rw[hl]at h;have h:(if (Jd it' (jf ρ) && !qu l)=ag then ah else aa (W.v (.o l)))=aa (.v r):=h;by_cases zz:(Jd it' (jf ρ) && !qu l)=ag
    .rw[if_pos zz]at h;cases h
    .rw[if_neg zz]at h;cases h;obtain⟨el,hmem⟩:=O7 hl;have hun:∀j∈is,ρf[j]?=aa .un:=λj hj=>by
      have:=Xk.mp hfree j hj;split at this
      .rename_i e;exact j9p e
      .cases this
     refine⟨l,ρf,ds,_,_,rfl,el,?_,hit ρf ds hds,hun,zp hlen,λC s H fp pn d hd=>?_⟩
     .rcases fr with ⟨_,e⟩|⟨e1,i,a,l',hk,e⟩
      .exact .inl e
      .exact .inr ⟨by rw[e1]at zz;simpa using zz,i,a,l',hk,e⟩
     ·
      obtain⟨o,ho⟩:=hmem d hd;rw[<-hf]at ho ⊢;dsimp only at ho ⊢;cases hb2:zx is d (jf ρf) with
      |none=>rw[hb2]at ho;cases ho
      |some ρ2 =>
       obtain⟨ρ',e',wk,ow,dg⟩:=hb ρf d ρ2 hb2 hun;subst e';refine⟨ρ',dg C s H fp pn,wk,ow,?_⟩;rw[hb2]at ho;dsimp only at ho ⊢;cases hcv:ev Γ G c' (jf ρ') with
       |none=>rw[hcv]at ho;cases ho
       |some w =>
        rw[hcv]at ho;split at ho
        .rename_i hw;cases hw;cases hev:ev Γ G elt' (jf ρ') with
         |none=>rw[hev]at ho;cases ho
         |some w =>
          rw[hev]at ho;cases w with
          |i _=>cases ho
          |a _=>cases ho
          |v x =>
           dsimp only at ho ⊢;cases hst:x.st with
           |none=>rw[hst]at ho;cases ho
           |some y =>simp only[hst,iJ,iy,dX,cT];exact⟨((hc C s H fp pn ρ').1 hcv),λ_=>(he C s H fp pn ρ' x hev).toE hst⟩
        .rename_i y hw;cases hw;split at ho
         .rename_i e1;cases hev:ev Γ G elt' (jf ρ') with
          |none=>rw[hev]at ho;cases ho
          |some w =>
           rw[hev]at ho;cases w with
           |i _=>cases ho
           |a _=>cases ho
           |v x =>
            dsimp only at ho ⊢;cases hst:x.st with
            |none=>rw[hst]at ho;cases ho
            |some z =>simp only[e1,hst,iJ,iy,dX,cT];exact⟨(hc C s H fp pn ρ').2 y ag hcv e1,λ_=>(he C s H fp pn ρ' x hev).toE hst⟩
         .rename_i e1;simp only[e1,Option.join,jM];exact⟨(hc C s H fp pn ρ').2 y ae hcv e1,λz=>by cases z⟩
         .cases ho
        .cases ho
  .cases h
 .cases h
theorem j0l{is:List Nat}{elt' it' c':Ex}{elt it tg:ar}{ifs:List ar}{scope:be}{p:aL}{ρ:Rho}{r:Rk}(hq:X.calm=ag)(hX:Cok X G)
  (hit:∀ρ ds,ev Γ G it' (jf ρ)=aa (.i ds)->DI X ρ tg it ds) (hkind:scope.kind=.function) (hok:Je scope X.env X.N is=ag) (hs:∀x,aQ it X.env x=pure x)
  (hb:∀ρ d ρ2,zx is d (jf ρ)=aa ρ2->(∀j∈is,ρ[j]?=aa .un)->∃ρ',jf ρ'=ρ2/\Wk ρ' ρ/\owns ρ'=owns ρ/\∀C s H fp pn,DG (cCx X scope C s H fp pn) ρ tg d ρ')
  (he:∀C s H fp pn ρ r,ev Γ G elt' (jf ρ)=aa (.v r)->Has (cCx X scope C s H fp pn) ρ elt r)
  (hc:∀C s H fp pn ρ,(ev Γ G c' (jf ρ)=aa (.a [])->DTs (cCx X scope C s H fp pn) ρ ifs ag)/\∀y k,ev Γ G c' (jf ρ)=aa (.a [y])->y.d=.bl k->DTs (cCx X scope C s H fp pn) ρ ifs k)
  (h:ev Γ G (.comp is elt' it' c') (jf ρ)=aa (.v r)):∃l,r=.o l/\DO X ρ (.ListComp elt [⟨tg,it,ifs,0⟩] scope p) l:=by
 obtain⟨l,ρf,ds,pr,g,er,el,hf,hi,hun,hz,hb'⟩:=R9 hit hb he hc h;refine⟨l,er,?_⟩;have main:DO X ρf (.ListComp elt [⟨tg,it,ifs,0⟩] scope p) ((ds.filter pr).map g):=DO.comp is _ _ hi hb' hun hz hq hkind hok hs;rw[<-el]at main;rcases hf with e|⟨hn,i,a,l',hk,e⟩
 .subst e;exact main
 .subst e;exact DO.unfrz hk main hn
end
section
variable{X:Cx}{ρ:Rho}{a b e:ar}{es:List ar}{d:D}{pos p:aL}
theorem Has.map(h:∀σ H Q,vm X a σ H Q->vm X e σ H Q):∀{r:Rk},Has X ρ a r->Has X ρ e r
 |.e _,q=>λσ H Q R z=>h σ H Q (q σ H Q R z)
 |.o _,q=>λσ H Q R z=>h σ H Q (q σ H Q R z)
 |.w _,q=>λσ H Q R z=>h σ H Q (q σ H Q R z)
 |.t _,q=>λσ H Q R z=>h σ H Q (q σ H Q R z)
theorem Has.bl{r:Rk}{k:Bool}(h:Has X ρ a r)(e:r.d=.bl k):DE X ρ a (.bl k):=DT.toE (e▸h.toT)
theorem Zo{f:Bf}{rs:List Rk}{r:Rk}{p2:aL}{G:ao->Option D}(c:Cok X G)(hq:f=.min\/f=.all\/f=.sum\/f=.any\/f=.max->X.calm=ag)(hg:Gl X f.name)(h:Vk f rs=aa r)(ha:HasA X ρ es rs):Has X ρ (.Call (.Name f.name p) es [] p2) r:=by
 have one:∀{x:Rk},HasA X ρ es [x]->∃e,es=[e]/\Has X ρ e x/\af [e] X.env=[(ae,az e X.env)]:=λ{x} h=>by cases h with|cons hs h t=>cases t;exact⟨_,rfl,h,hs⟩
 have two:∀{x y:Rk},HasA X ρ es [x,y]->∃e f,es=[e,f]/\Has X ρ e x/\Has X ρ f y/\af [e,f] X.env=(ae,az e X.env)::af [f] X.env/\af [f] X.env=[(ae,az f X.env)]:=λ{x y} h=>by cases h with|cons hs h t=>cases t with|cons hs2 h2 t2=>cases t2;exact⟨_,_,rfl,h,h2,hs,hs2⟩
 unfold Vk at h;split at h
 .rename_i x;obtain⟨e,ee,hx,hs⟩:=one ha;subst ee;split at h
  .rename_i l el;cases h;exact DE.lenL (el▸hx.toT) (c.bt _ (by decide)) hg hs
  .rename_i l el;cases h;exact DE.lenT (el▸hx.toT) (c.bt _ (by decide)) hg hs
  .rename_i y el;obtain⟨z,q⟩:=qe h;subst q;exact DE.lenS (el▸hx.toT) (zp z) (c.bt _ (by decide)) hg hs
  .cases h
 .rename_i x y;obtain⟨e,f,ee,hx,hy,hs,hs2⟩:=two ha;subst ee;split at h
  .rename_i i j ei ej;cases h;exact DE.min (ei▸hx.toT) (ej▸hy.toT) (c.bt _ (by decide)) (hq (.inl rfl)) hg hs hs2 (by rw[hs2];rfl)
  .cases h
 .rename_i x y;obtain⟨e,f,ee,hx,hy,hs,hs2⟩:=two ha;subst ee;split at h
  .rename_i i j ei ej;cases h;exact DE.max2 (ei▸hx.toT) (ej▸hy.toT) (c.bt _ (by decide)) (hq (.inr (.inr (.inr (.inr rfl))))) hg hs hs2 (by rw[hs2];rfl)
  .cases h
 .rename_i x;obtain⟨e,ee,hx,hs⟩:=one ha;subst ee;split at h
  .rename_i l el;split at h
   .rename_i ns en;obtain⟨z,q⟩:=qe h;cases q;have:=Qs en;subst this;exact DE.maxL (el▸hx.toT) (λz'=>by subst z';simp at z) (c.bt _ (by decide)) (hq (.inr (.inr (.inr (.inr rfl))))) hg hs
   .cases h
  .cases h
 .rename_i x;obtain⟨e,ee,hx,hs⟩:=one ha;subst ee;split at h
  .rename_i l el;split at h
   .rename_i ns en;obtain⟨z,q⟩:=qe h;cases q;have:=Qs en;subst this;exact DE.minL (el▸hx.toT) (λz'=>by subst z';simp at z) (c.bt _ (by decide)) (hq (.inl rfl)) hg hs
   .cases h
  .cases h
 .rename_i x;obtain⟨e,ee,hx,hs⟩:=one ha;subst ee;split at h
  .rename_i l el;cases q:boolsOf l with
   |none=>rw[q]at h;cases h
   |some bs =>rw[q]at h;cases h;have:=U9 q;subst this;exact DE.all (el▸hx.toT) (c.bt _ (by decide)) (hq (.inr (.inl rfl))) hg hs
  .cases h
 .rename_i x;obtain⟨e,ee,hx,hs⟩:=one ha;subst ee;split at h
  .rename_i l el;cases q:boolsOf l with
   |none=>rw[q]at h;cases h
   |some bs =>rw[q]at h;cases h;have:=U9 q;subst this;exact DE.any (el▸hx.toT) (c.bt _ (by decide)) (hq (.inr (.inr (.inr (.inl rfl))))) hg hs
  .cases h
 .rename_i x;obtain⟨e,ee,hx,hs⟩:=one ha;subst ee;split at h
  .rename_i s l el;cases h;exact DE.tupM (hx.toM el) (c.bt _ (by decide)) hg hs
  .cases h
 .rename_i x;obtain⟨e,ee,hx,hs⟩:=one ha;subst ee;split at h
  .rename_i s l el;cases h;exact DO.listM (hx.toM el) (c.bt _ (by decide)) hg hs
  .cases h
 .rename_i x;obtain⟨e,ee,hx,hs⟩:=one ha;subst ee;split at h
  .rename_i l el;cases q:intsOf l with
   |none=>rw[q]at h;cases h
   |some ns =>rw[q]at h;cases h;have:=Qs q;subst this;exact DE.sum ag (show DT X ρ e (.lst (ns.map D.int))from el▸hx.toT) (c.bt _ (by decide)) (hq (.inr (.inr (.inl rfl)))) hg hs
  .rename_i l el;cases q:intsOf l with
   |none=>rw[q]at h;cases h
   |some ns =>rw[q]at h;cases h;have:=Qs q;subst this;exact DE.sum ae (show DT X ρ e (.tup (ns.map D.int))from el▸hx.toT) (c.bt _ (by decide)) (hq (.inr (.inr (.inl rfl)))) hg hs
  .cases h
 .rename_i x;obtain⟨e,ee,hx,hs⟩:=one ha;subst ee;split at h
  .rename_i k el;cases h;exact DE.int1 (el▸hx.toT) (c.bt _ (by decide)) hg hs
  .rename_i y el;split at h
   .rename_i hl;obtain⟨n,hn,rfl⟩:=Ph.mp h;exact DE.intS (el▸hx.toT) hn hl (c.bt _ (by decide)) hg hs
   .cases h
  .cases h
 .cases h
end
section
variable{Γ:ao->List D->Rc}{G:ao->Option D}{X:Cx}
theorem j0o {ρ:Rho} {f:ao} {e:ar} {es:List ar} {rs:List Rk} {r:Rk} {p p2:aL} (g:Gok X Γ) (hg:Gl X f) (hdb:(f==k5k)=ae) (he:af (e::es) X.env=(ae,az e X.env)::af es X.env)
  (hpl:(aJ p2 (af es X.env)).any (·.1)=ae) (ha:HasA X ρ (e::es) rs)
  (h:(match zu rs with|some ds=>(Γ f ds).rk.map W.v|none=>match Γ f (rs.map Rk.d)with|.val d=>aa (.v (.t d))|.fresh l=>if qu l=ag then aa (.v (.o l))else ah|_=>ah)=aa (.v r)):Has X ρ (.Call (.Name f p) (e::es) [] p2) r:=by
 split at h
 .rename_i ds hds;have q:=g f ds;cases z:Γ f ds with
  |val d=>rw[z]at h q;cases h;exact DE.call q (ha.toA hds) ⟨rfl,rfl⟩ hg hdb he hpl
  |fresh l=>rw[z]at h q;cases h;exact DO.call q (ha.toA hds) ⟨rfl,rfl⟩ hg hdb he hpl
  |err x=>rw[z]at h;cases h
  |lval d=>rw[z]at h;cases h
  |mval d k=>rw[z]at h;cases h
  |merr x=>rw[z]at h;cases h
  |dval d ks ns=>rw[z]at h;cases h
  |hnd sp=>rw[z]at h;cases h
  |no=>rw[z]at h;cases h
 .have q:=g f (rs.map Rk.d);split at h
  .rename_i d z;rw[z]at q;cases h;exact DT.call q ha.toT ⟨rfl,rfl⟩ hg hdb he hpl
  .rename_i l z;rw[z]at q;obtain⟨hn,e1⟩:=qe h;cases e1;exact DO.callT q ha.toT ⟨rfl,rfl⟩ hn hg hdb he hpl
  .cases h
theorem jaq{a:Ex}{ρ:En}{r:Rk}(h:ev Γ G (.rpr a) ρ=aa (.v r)):∃x y,ev Γ G a ρ=aa (.v x)/\x.d=.str y/\(c9 y).length<=2000/\r=.e (.str (c9 y)):=by
 rw[jfr]at h;split at h
 .rename_i x ex;split at h
  .rename_i y ey;split at h
   .rename_i hl;cases h;exact⟨x,y,ex,ey,hl,rfl⟩
   .cases h
  .cases h
 .cases h
end
def XM(X:Cx)(ρ:Rho)(y:ao):Nd->Prop
 |.e e=>DX X ρ e y
 |.a es=>DXA X ρ es y
 |_=>True
structure Tr(X:Cx)(t:Ex)(nd:Nd):Prop where
 m:∀(Γ:ao->List D->Rc)(G:ao->Option D),Cok X G->Gok X Γ->jdr Γ G X t nd
 x:∀(Γ:ao->List D->Rc)(G:ao->Option D),Cok X G->Gok X Γ->∀ρ y,er Γ G t (jf ρ)=aa y->XM X ρ y nd
theorem Tr.int:∀{X:Cx}{i:Int}{n:Nat}{p:aL},Tr X (.lit (.int i)) (.e (.Constant (.int i) n p)):=by intro _ _ _ _;refine⟨λΓ G=>?_,λ_ _ _ _ _ _ h=>nomatch h⟩;intro _ _ ρ r h;simp only[Dg]at h;cases h;exact DE.int
theorem Tr.bl:∀{X:Cx}{b:Bool}{n:Nat}{p:aL},Tr X (.lit (.bl b)) (.e (.Constant (.bool b) n p)):=by intro _ _ _ _;refine⟨λΓ G=>?_,λ_ _ _ _ _ _ h=>nomatch h⟩;intro _ _ ρ r h;simp only[Dg]at h;cases h;exact DE.bl
theorem Tr.str:∀{X:Cx}{y:ao}{n:Nat}{p:aL},Tr X (.lit (.str y)) (.e (.Constant (.str y) n p)):=by intro _ _ _ _;refine⟨λΓ G=>?_,λ_ _ _ _ _ _ h=>nomatch h⟩;intro _ _ ρ r h;simp only[Dg]at h;cases h;exact DE.str
theorem Tr.var:∀{X:Cx}{k:Nat}{x:ao}{p:aL}(hN:X.N[k]?=aa x) (hv:Vis X.env.scope x) (hd:(x==k5k)=ae) (hcd:(x==k5l)=ae),Tr X (.var k) (.e (.Name x p)):=by
 intro _ _ _ _ hN hv hd hcd;refine⟨λΓ G=>?_,λ_ _ _ _ _ _ h=>nomatch h⟩;intro _ _ ρ r h;simp only[jfn,Oh]at h;split at h
 .rename_i e;cases h;exact DE.var _ (K5 e) hN hv hd hcd
 .rename_i e;cases h;obtain⟨a,q⟩:=Zh e;exact DL.var _ q hN hv hd hcd
 .cases h
theorem Tr.glob:∀{X:Cx}{x:ao}{p:aL}(hg:Gl X x)(hd:(x==k5k)=ae) (hb:Zq x=ae),Tr X (.glob x) (.e (.Name x p)):=by
 intro _ _ _ hg hd hb;refine⟨λΓ G=>?_,λ_ _ _ _ _ _ h=>nomatch h⟩;rename_i X x p;intro c _ ρ r h;simp only[jdj]at h;cases e:G x with
 |none=>rw[e]at h;cases h
 |some d=>rw[e]at h;cases h;obtain⟨u,v,hm,r,q⟩:=c.gl x d hb e;exact DE.glob hg hm r q hd
theorem Tr.bin:∀{X:Cx}{op:Bop}{a' b':Ex}{a b:ar}{p:aL},Tr X a' (.e a)->Tr X b' (.e b)->Tr X (.bin op a' b') (.e (.BinOp a op.op b p)):=by
 intro _ _ _ _ _ _ _ q0 q1;refine⟨λΓ G=>?_,λ_ _ _ _ _ _ h=>nomatch h⟩;have iha:=q0.m Γ G;have ihb:=q1.m Γ G;intro c g ρ r h;simp only[jfw,Z2]at h;split at h
 .rename_i x y ex ey;cases e:Ua _ x y with
  |none=>rw[e]at h;cases h
  |some z=>rw[e]at h;cases h;exact j37 e (iha c g ρ x ex) (ihb c g ρ y ey)
 .cases h
theorem Tr.cmp:∀{X:Cx}{op:Cop}{a' b':Ex}{a b:ar}{p:aL}(hm:aN op.op b=ae),Tr X a' (.e a)->Tr X b' (.e b)->Tr X (.cmp op a' b') (.e (.Compare a [op.op] [b] p)):=by
 intro _ _ _ _ _ _ _ hm q0 q1;refine⟨λΓ G=>?_,λ_ _ _ _ _ _ h=>nomatch h⟩;have iha:=q0.m Γ G;have ihb:=q1.m Γ G;intro c g ρ r h;simp only[j77,Bk]at h;split at h
 .rename_i x y ex ey;cases e:Jr _ x.d y.d with
  |none=>rw[e]at h;cases h
  |some z=>rw[e]at h;cases h;exact(Nq c.un' e (iha c g ρ x ex).toT (ihb c g ρ y ey).toT hm).1
 .cases h
theorem Tr.bcmp:∀{X:Cx}{op:Cop}{a' b':Ex}{a b:ar}{p:aL}(hm:aN op.op b=ae),Tr X a' (.e a)->Tr X b' (.e b)->Tr X (.cmp op a' b') (.b (.Compare a [op.op] [b] p)):=by
 intro _ _ _ _ _ _ _ hm q0 q1;refine⟨λΓ G=>?_,λ_ _ _ _ _ _ _=>trivial⟩;have iha:=q0.m Γ G;have ihb:=q1.m Γ G;intro c g ρ k h;obtain⟨r,h,hk⟩:=Q3 h;simp only[j77,Bk]at h;split at h
 .rename_i x y ex ey;cases e:Jr _ x.d y.d with
  |none=>rw[e]at h;cases h
  |some z=>rw[e]at h;cases h;cases hk;exact(Nq c.un' e (iha c g ρ x ex).toT (ihb c g ρ y ey).toT hm).2
 .cases h
theorem Tr.isN:∀{X:Cx}{a':Ex}{a:ar}{n:Nat}{p p2:aL},Tr X a' (.e a)->Tr X (.isN a') (.e (.Compare a [.Is] [.Constant .none n p2] p)):=by
 intro _ _ _ _ _ _ q0;refine⟨λΓ G=>?_,λ_ _ _ _ _ _ h=>nomatch h⟩;have iha:=q0.m Γ G;intro c g ρ r h;simp only[j76]at h;split at h
 .rename_i x ex;cases h;exact DE.isN (iha c g ρ x ex).toT
 .cases h
theorem Tr.bisN:∀{X:Cx}{a':Ex}{a:ar}{n:Nat}{p p2:aL},Tr X a' (.e a)->Tr X (.isN a') (.b (.Compare a [.Is] [.Constant .none n p2] p)):=by
 intro _ _ _ _ _ _ q0;refine⟨λΓ G=>?_,λ_ _ _ _ _ _ _=>trivial⟩;have iha:=q0.m Γ G;intro c g ρ k h;obtain⟨r,h,hk⟩:=Q3 h;simp only[j76]at h;split at h
 .rename_i x ex;cases h;cases hk;exact DB.isN (iha c g ρ x ex).toT
 .cases h
theorem Tr.one:∀{X:Cx}{a':Ex}{a:ar}{op:BoolOp}{p:aL},Tr X a' (.e a)->Tr X a' (.e (.BoolOp op [a] p)):=by intro _ _ _ _ _ q0;refine⟨λΓ G=>?_,λΓ G c g ρ y h σ H Q R k=>(Cg peS).to (q0.x Γ G c g ρ y h σ H Q R k)⟩;have iha:=q0.m Γ G;intro c g ρ r h;exact Has.map (λσ H Q q=>(Cg peS).to q) (iha c g ρ r h)
theorem Tr.and:∀{X:Cx}{a' t':Ex}{a b:ar}{rest:List ar}{p:aL},Tr X a' (.e a)->Tr X t' (.e (.BoolOp .And (b::rest) p))->Tr X (.and a' t') (.e (.BoolOp .And (a::b::rest) p)):=by
 intro _ _ _ _ _ _ _ q0 q1;refine⟨λΓ G=>?_,λ_ _ _ _ _ _ h=>nomatch h⟩;have iha:=q0.m Γ G;have ihb:=q1.m Γ G;intro c g ρ r h;simp only[jfx]at h;split at h
 .rename_i e;cases h;obtain⟨x,ex,ed⟩:=Q3 e;exact(DE.and (m:=ae) ((iha c g ρ x ex).bl ed).toT λz=>by cases z)
 .rename_i e;obtain⟨x,ex,ed⟩:=Q3 e;cases e2:truth (ev Γ G _ (jf ρ)) with
  |none=>rw[e2]at h;cases h
  |some k =>rw[e2]at h;cases h;obtain⟨y,ey,fd⟩:=Q3 e2;exact(DE.and ((iha c g ρ x ex).bl ed).toT λ_=>(ihb c g ρ y ey).bl fd).eq (by simp)
 .cases h
theorem Tr.wor1:∀{X:Cx}{a':Ex}{a:ar}{p:aL},Tr X a' (.b a)->Tr X a' (.w (.BoolOp .Or [a] p)):=by intro _ _ _ _ q0;refine⟨λΓ G=>?_,λ_ _ _ _ _ _ _=>trivial⟩;have iha:=q0.m Γ G;intro c g ρ k h;exact DW.or1 (iha c g ρ k h)
theorem Tr.wor:∀{X:Cx}{a' t':Ex}{a b:ar}{rest:List ar}{p:aL},Tr X a' (.b a)->Tr X t' (.w (.BoolOp .Or (b::rest) p))->Tr X (.or a' t') (.w (.BoolOp .Or (a::b::rest) p)):=by
 intro _ _ _ _ _ _ _ q0 q1;refine⟨λΓ G=>?_,λ_ _ _ _ _ _ _=>trivial⟩;have iha:=q0.m Γ G;have ihb:=q1.m Γ G;intro c g ρ k h;obtain⟨r,h,hk⟩:=Q3 h;simp only[jhm]at h;split at h
 .rename_i e;cases h;cases hk;exact DW.or (m:=ae) (iha c g ρ ag e) λz=>by cases z
 .rename_i e;cases e2:truth (ev Γ G _ (jf ρ)) with
  |none=>rw[e2]at h;cases h
  |some m =>rw[e2]at h;cases h;cases hk;have q:=DW.or (iha c g ρ ae e) λ_=>ihb c g ρ _ e2;rw[jO]at q;exact q
 .cases h
theorem Tr.bw:∀{X:Cx}{a':Ex}{op:BoolOp}{es:List ar}{p:aL},Tr X a' (.w (.BoolOp op es p))->Tr X a' (.b (.BoolOp op es p)):=by intro _ _ _ _ _ q0;refine⟨λΓ G=>?_,λ_ _ _ _ _ _ _=>trivial⟩;have iha:=q0.m Γ G;intro c g ρ k h;exact DW.toB (iha c g ρ k h)
theorem Tr.bnot:∀{X:Cx}{a':Ex}{a:ar}{p:aL},Tr X a' (.b a)->Tr X (.not a') (.b (.UnaryOp .Not a p)):=by
 intro _ _ _ _ q0;refine⟨λΓ G=>?_,λ_ _ _ _ _ _ _=>trivial⟩;have iha:=q0.m Γ G;intro c g ρ k h;obtain⟨r,h,hk⟩:=Q3 h;simp only[jfs]at h;cases e:truth (ev Γ G _ (jf ρ)) with
 |none=>rw[e]at h;cases h
 |some m=>rw[e]at h;cases h;cases hk;exact DB.not (iha c g ρ m e)
theorem Tr.bval:∀{X:Cx}{a':Ex}{a:ar}(he:∀whole,ft a X.env whole=(do let v <-whole;dQ a.pos;dk [v] (truthy v))),Tr X a' (.e a)->Tr X a' (.b a):=by intro _ _ _ he q0;refine⟨λΓ G=>?_,λ_ _ _ _ _ _ _=>trivial⟩;have iha:=q0.m Γ G;intro c g ρ k h;obtain⟨r,h,hk⟩:=Q3 h;exact DB.val ((iha c g ρ r h).bl hk).toT he
theorem Tr.ite:∀{X:Cx}{c' a' b':Ex}{c a b:ar}{p:aL},Tr X c' (.b c)->Tr X a' (.e a)->Tr X b' (.e b)->Tr X (.ite c' a' b') (.e (.IfExp c a b p)):=by
 intro _ _ _ _ _ _ _ _ q0 q1 q2;refine⟨λΓ G=>?_,λ_ _ _ _ _ _ h=>nomatch h⟩;have ihc:=q0.m Γ G;have iha:=q1.m Γ G;have ihb:=q2.m Γ G;intro c g ρ r h;simp only[jfu]at h;split at h
 .rename_i e;split at h
  .rename_i x ex;cases es:x.st with
   |none=>rw[es]at h;cases h
   |some d=>rw[es]at h;cases h;exact(DE.ite (d':=d) (ihc c g ρ ag e) (λ_=>(iha c g ρ x ex).toE es) λz=>by cases z).eq (by simp)
  .cases h
 .rename_i e;split at h
  .rename_i x ex;cases es:x.st with
   |none=>rw[es]at h;cases h
   |some d=>rw[es]at h;cases h;exact(DE.ite (d:=d) (ihc c g ρ ae e) (λz=>by cases z) λ_=>(ihb c g ρ x ex).toE es).eq (by simp)
  .cases h
 .cases h
theorem Tr.nil:∀{X:Cx},Tr X .nil (.a []):=by intro _;refine⟨λΓ G=>?_,λ_ _ _ _ _ _ h=>nomatch h⟩;intro c g ρ rs h;simp only[Ud]at h;cases h;exact .nil
theorem Tr.cons:∀{X:Cx}{a' b':Ex}{a:ar}{es:List ar}(hs:af (a::es) X.env=(ae,az a X.env)::af es X.env),Tr X a' (.e a)->Tr X b' (.a es)->Tr X (.cons a' b') (.a (a::es)):=by
 intro _ _ _ _ _ hs q0 q1;refine⟨λΓ G=>?_,λΓ G=>?_⟩
 .have iha:=q0.m Γ G;have ihb:=q1.m Γ G;intro c g ρ rs h;simp only[Vl,consW]at h;split at h
  .rename_i x xs ex exs;cases h;exact .cons hs (iha c g ρ x ex) (ihb c g ρ xs exs)
  .cases h
 .skip
  intro c g ρ y h;rw[er]at h;split at h
  .rename_i x ex;cases h;exact DXA.head (q0.x Γ G c g ρ _ ex) hs
  split at h
  .rename_i r ez;exact DXA.tail (q0.m Γ G c g ρ r ez).toT (q1.x Γ G c g ρ y h) hs
  .cases h
theorem Tr.tup:∀{X:Cx}{es':Ex}{es:List ar}{n:Nat}{p:aL},Tr X es' (.a es)->Tr X (.tup es') (.e (.Tuple es n p)):=by
 intro _ _ _ _ _ q0;refine⟨λΓ G=>?_,λ_ _ _ _ _ _ h=>nomatch h⟩;have iha:=q0.m Γ G;intro c g ρ r h;simp only[jfo,Yl]at h;split at h
 .rename_i rs ers;split at h
  .rename_i ds hds;obtain⟨z,q⟩:=qe h;cases q;exact DE.tup (n:=0) ((iha c g ρ rs ers).toA hds) (zp z)
  .cases h
 .cases h
theorem Tr.lst:∀{X:Cx}{es':Ex}{es:List ar}{p:aL},Tr X es' (.a es)->Tr X (.lst es') (.e (.List es p)):=by
 intro _ _ _ _ q0;refine⟨λΓ G=>?_,λ_ _ _ _ _ _ h=>nomatch h⟩;have iha:=q0.m Γ G;intro c g ρ r h;simp only[jft,Yx]at h;split at h
 .rename_i rs ers;split at h
  .rename_i ds hds;obtain⟨z,q⟩:=qe h;cases q;exact DO.lst ((iha c g ρ rs ers).toA hds) (zp z)
  .cases h
 .cases h
theorem Tr.ix:∀{X:Cx}{a' b':Ex}{a b:ar}{p:aL}(hs:Wm b),Tr X a' (.e a)->Tr X b' (.e b)->Tr X (.ix a' b') (.e (.Subscript a b p)):=by
 intro _ _ _ _ _ _ hs q0 q1;refine⟨λΓ G=>?_,λΓ G c g ρ y h σ H Q R k=>(Yu Mv peS peS hs).to (q0.x Γ G c g ρ y (by rw[er]at h;exact h) σ H _ R k)⟩;have iha:=q0.m Γ G;have ihb:=q1.m Γ G;intro c g ρ r h;simp only[jhn,ixW]at h;split at h
 .rename_i x y ex ey;split at h
  .rename_i s l i hx hy;cases z:atI l i with
   |none=>rw[z]at h;cases h
   |some d=>rw[z]at h;cases h;exact DE.ixM ((iha c g ρ x ex).toM hx) (hy▸(ihb c g ρ y ey).toT) z hs
  .rename_i i hx hy;split at h
   .rename_i y' ed;split at h
    .rename_i hl;cases z:atI y'.cps.toList i with
     |none=>rw[z]at h;cases h
     |some d=>rw[z]at h;cases h;exact DE.ixC (ed▸(iha c g ρ x ex).toT) (hy▸(ihb c g ρ y ey).toT) (zp hl) z hs
    .cases h
   .cases h
  .cases h
 .cases h
theorem Tr.oN:∀{X:Cx},Tr X .nil (.o ah):=by intro _;refine⟨λΓ G=>?_,λ_ _ _ _ _ _ _=>trivial⟩;intro c g ρ o h;simp only[Ud,Q6]at h;cases h;exact DP.none
theorem Tr.oS:∀{X:Cx}{a':Ex}{a:ar},Tr X a' (.e a)->Tr X (.cons a' .nil) (.o (aa a)):=by
 intro _ _ _ q0;refine⟨λΓ G=>?_,λ_ _ _ _ _ _ _=>trivial⟩;have iha:=q0.m Γ G;intro c g ρ o h;simp only[Vl,Ud,consW]at h;split at h
 .rename_i x xs ex exs;cases exs;simp only[Q6]at h;split at h
  .rename_i i ei;cases h;exact DP.some (ei▸(iha c g ρ x ex).toT)
  .cases h
 .cases h
theorem Tr.sl:∀{X:Cx}{a' l' h':Ex}{a:ar}{lo hi:Option ar}{p p2:aL},Tr X a' (.e a)->Tr X l' (.o lo)->Tr X h' (.o hi)->Tr X (.sl a' l' h') (.e (.Subscript a (.Slice lo hi ah p2) p)):=by
 intro _ _ _ _ _ _ _ _ _ q0 q1 q2;refine⟨λΓ G=>?_,λ_ _ _ _ _ _ h=>nomatch h⟩;have iha:=q0.m Γ G;have ihl:=q1.m Γ G;have ihh:=q2.m Γ G;intro c g ρ r h;simp only[jhl]at h;split at h
 .rename_i x l hh ex el eh;split at h
  .rename_i ds e;cases h;exact DO.sliceM ((iha c g ρ x ex).toM e) (ihl c g ρ l el) (ihh c g ρ hh eh)
  .rename_i ds e;split at h
   .cases h
   .rename_i z;cases h;exact DE.sliceM ((iha c g ρ x ex).toM e) (ihl c g ρ l el) (ihh c g ρ hh eh) z
  .split at h
   .rename_i y' ed;obtain⟨z,q⟩:=qe h;cases q;exact DE.sliceS (ed▸(iha c g ρ x ex).toT) (ihl c g ρ l el) (ihh c g ρ hh eh) (zp z)
   .cases h
 .cases h
theorem Tr.call:∀{X:Cx}{f:ao}{es':Ex}{e:ar}{es:List ar}{p p2:aL}(hg:Gl X f) (hdb:(f==k5k)=ae) (he:af (e::es) X.env=(ae,az e X.env)::af es X.env) (hpl:(aJ p2 (af es X.env)).any (·.1)=ae),Tr X es' (.a (e::es))->Tr X (.call f es') (.e (.Call (.Name f p) (e::es) [] p2)):=by
 intro _ f _ _ _ _ _ hg hdb he hpl q0;refine⟨λΓ G=>?_,λΓ G=>?_⟩
 .have iha:=q0.m Γ G;intro c g ρ r h;simp only[jdl,Qa]at h;split at h
  .rename_i rs ers;exact j0o g hg hdb he hpl (iha c g ρ rs ers) h
  .cases h
 .skip
  intro c g ρ y h;rw[er]at h;split at h
  .rename_i x ex;split at h
   .rename_i hz;cases h;obtain⟨d,hd⟩:=Xm.mp hz;obtain⟨fa,hfa,hk⟩:=c.fn _ d hd;exact DX.args (q0.x Γ G c g ρ _ ex) hg hdb hfa hk he hpl
   .cases h
  split at h
  .rename_i rs ers;split at h
   .rename_i z ez;split at h
    .rename_i hz;cases h;have q:=g f (rs.map Rk.d);rw[ez]at q;obtain⟨d,hd⟩:=Xm.mp hz;obtain⟨_,o,ho⟩:=c.ec _ d hd;exact DX.call q (q0.m Γ G c g ρ rs ers).toT ⟨rfl,rfl⟩ (W.mg_of c.kin c.ns ho) hg hdb he hpl
    .cases h
   .cases h
  .cases h
theorem Tr.len:∀{X:Cx}{es':Ex}{e:ar}{p p2:aL}(hg:Gl X "len"),Tr X es' (.a [e])->Tr X (.blt .len es') (.e (.Call (.Name "len" p) [e] [] p2)):=by
 intro _ _ _ _ _ hg q0;refine⟨λΓ G=>?_,λ_ _ _ _ _ _ h=>nomatch h⟩;have iha:=q0.m Γ G;intro c g ρ r h;simp only[Oe,Jl]at h;split at h
 .rename_i rs ers;cases e:Vk _ rs with
  |none=>rw[e]at h;cases h
  |some x=>rw[e]at h;cases h;exact Zo (f:=.len) c (λz=>by rcases z with z|z|z|z|z<;>cases z) hg e (iha c g ρ rs ers)
 .cases h
theorem Tr.all:∀{X:Cx}{es':Ex}{e:ar}{p p2:aL}(hq:X.calm=ag)(hg:Gl X "all"),Tr X es' (.a [e])->Tr X (.blt .all es') (.e (.Call (.Name "all" p) [e] [] p2)):=by
 intro _ _ _ _ _ hq hg q0;refine⟨λΓ G=>?_,λ_ _ _ _ _ _ h=>nomatch h⟩;have iha:=q0.m Γ G;intro c g ρ r h;simp only[Oe,Jl]at h;split at h
 .rename_i rs ers;cases e:Vk _ rs with
  |none=>rw[e]at h;cases h
  |some x=>rw[e]at h;cases h;exact Zo (f:=.all) c (λ_=>hq) hg e (iha c g ρ rs ers)
 .cases h
theorem Tr.tuple:∀{X:Cx}{es':Ex}{e:ar}{p p2:aL}(hg:Gl X "tuple"),Tr X es' (.a [e])->Tr X (.blt .tuple es') (.e (.Call (.Name "tuple" p) [e] [] p2)):=by
 intro _ _ _ _ _ hg q0;refine⟨λΓ G=>?_,λ_ _ _ _ _ _ h=>nomatch h⟩;have iha:=q0.m Γ G;intro c g ρ r h;simp only[Oe,Jl]at h;split at h
 .rename_i rs ers;cases e:Vk _ rs with
  |none=>rw[e]at h;cases h
  |some x=>rw[e]at h;cases h;exact Zo (f:=.tuple) c (λz=>by rcases z with z|z|z|z|z<;>cases z) hg e (iha c g ρ rs ers)
 .cases h
theorem Tr.list:∀{X:Cx}{es':Ex}{e:ar}{p p2:aL}(hg:Gl X "list"),Tr X es' (.a [e])->Tr X (.blt .list es') (.e (.Call (.Name "list" p) [e] [] p2)):=by
 intro _ _ _ _ _ hg q0;refine⟨λΓ G=>?_,λ_ _ _ _ _ _ h=>nomatch h⟩;have iha:=q0.m Γ G;intro c g ρ r h;simp only[Oe,Jl]at h;split at h
 .rename_i rs ers;cases e:Vk _ rs with
  |none=>rw[e]at h;cases h
  |some x=>rw[e]at h;cases h;exact Zo (f:=.list) c (λz=>by rcases z with z|z|z|z|z<;>cases z) hg e (iha c g ρ rs ers)
 .cases h
theorem Tr.min:∀{X:Cx}{es':Ex}{e f:ar}{p p2:aL}(hq:X.calm=ag)(hg:Gl X "min"),Tr X es' (.a [e,f])->Tr X (.blt .min es') (.e (.Call (.Name "min" p) [e,f] [] p2)):=by
 intro _ _ _ _ _ _ hq hg q0;refine⟨λΓ G=>?_,λ_ _ _ _ _ _ h=>nomatch h⟩;have iha:=q0.m Γ G;intro c g ρ r h;simp only[Oe,Jl]at h;split at h
 .rename_i rs ers;cases e:Vk _ rs with
  |none=>rw[e]at h;cases h
  |some x=>rw[e]at h;cases h;exact Zo (f:=.min) c (λ_=>hq) hg e (iha c g ρ rs ers)
 .cases h
theorem Tr.join:∀{X:Cx}{a':Ex}{a:ar}{sep:ao}{n:Nat}{p0 p1 p2:aL}(hbase:aS (.Constant (.str sep) n p0) "join" X.env (az (.Constant (.str sep) n p0) X.env)=az (.Constant (.str sep) n p0) X.env) (hfew:((aJ p2 (af [a] X.env)).all (λx=>!x.1)&&(bq p2 (aT [] X.env)).all (λx=>x.1.isSome)&&decide (([a]:List ar).length+([]:List b9).length+(if ([]:List b9).isEmpty then 0 else 1)<30))=ag) (hline:(p1.endLine==p2.line)=ag) (hs:af [a] X.env=(ae,az a X.env)::af [] X.env),Tr X a' (.e a)->Tr X (.join sep a') (.e (.Call (.Attribute (.Constant (.str sep) n p0) "join" p1) [a] [] p2)):=by
 intro _ _ _ _ _ _ _ _ hbase hfew hline hs q0;refine⟨λΓ G=>?_,λ_ _ _ _ _ _ h=>nomatch h⟩;have iha:=q0.m Γ G;intro c g ρ r h;simp only[jdi,Wb]at h;split at h
 .rename_i x ex;split at h
  .rename_i l el;split at h
   .rename_i ts et;obtain⟨z,q⟩:=qe h;cases q;have:=Br et;subst this;exact DE.join (el▸(iha c g ρ x ex).toT) z hfew hbase hline hs
   .cases h
  .cases h
 .cases h
theorem Tr.tix:∀{X:Cx}{a' b':Ex}{a e:ar}{p1 p2:aL}(hbase:aS a "index" X.env (az a X.env)=az a X.env) (hfew:((aJ p2 (af [e] X.env)).all (λx=>!x.1)&&(bq p2 (aT [] X.env)).all (λx=>x.1.isSome)&&decide (([e]:List ar).length+([]:List b9).length+(if ([]:List b9).isEmpty then 0 else 1)<30))=ag) (hline:(p1.endLine==p2.line)=ag) (hs:af [e] X.env=(ae,az e X.env)::af [] X.env),Tr X a' (.e a)->Tr X b' (.e e)->Tr X (.tix a' b') (.e (.Call (.Attribute a "index" p1) [e] [] p2)):=by
 intro _ _ _ _ _ _ _ hbase hfew hline hs q0 q1;refine⟨λΓ G=>?_,λ_ _ _ _ _ _ h=>nomatch h⟩;have iha:=q0.m Γ G;have ihb:=q1.m Γ G;intro c g ρ r h;simp only[jfp,Uk]at h;split at h
 .rename_i x y ex ey;split at h
  .rename_i l el;by_cases z:D.depL l<=90/\y.d.dep<=90
   .rw[if_pos z]at h;cases e:ixD y.d l with
    |none=>rw[e]at h;cases h
    |some k=>rw[e]at h;cases h;exact DE.indexT c.un' (el▸(iha c g ρ x ex).toT) (ihb c g ρ y ey).toT (by omega) (by omega) e hbase hfew hline hs
   .rw[if_neg z]at h;cases h
  .rename_i l el;by_cases z:D.depL l<=90/\y.d.dep<=90
   .rw[if_pos z]at h;cases e:ixD y.d l with
    |none=>rw[e]at h;cases h
    |some k=>rw[e]at h;cases h;exact DE.indexL c.un' (el▸(iha c g ρ x ex).toT) (ihb c g ρ y ey).toT (by omega) (by omega) e hbase hfew hline hs
   .rw[if_neg z]at h;cases h
  .cases h
 .cases h
theorem Tr.isi1:∀{X:Cx}{a':Ex}{a:ar}{T:ao}{c:String}{p p1 p2:aL}(hT:T∈Zr) (hv:aZ T=aa (.type c)) (hg:Gl X "isinstance") (hg2:Gl X T) (hn:T ≠ "__name__") (hd:(T==k5k)=ae) (hs:af [a,.Name T p1] X.env=(ae,az a X.env)::af [.Name T p1] X.env),Tr X a' (.e a)->Tr X (.isi a' [c]) (.e (.Call (.Name "isinstance" p) [a,.Name T p1] [] p2)):=by
 intro _ _ _ _ _ _ _ _ hT hv hg hg2 hn hd hs q0;refine⟨λΓ G=>?_,λ_ _ _ _ _ _ h=>nomatch h⟩;have iha:=q0.m Γ G;intro c g ρ r h;simp only[j75,Bd]at h;split at h
 .rename_i x ex;cases e:qi x.d _ with
  |none=>rw[e]at h;cases h
  |some k =>
   rw[e]at h;cases h;refine DE.isi1 (iha c g ρ x ex).toT (Ir e) (c.bt _ (by decide)) (c.bt _ hT) hv ?_ hg hg2 hn hd hs rfl rfl;simp only[qi]at e;split at e
   .rename_i k1 k2 e1 e2;cases e2;cases e;rw[jN];exact Im e1
   .cases e
 .cases h
theorem Tr.isi2:∀{X:Cx}{a':Ex}{a:ar}{T U:ao}{c d:String}{n:Nat}{p p1 p2 p3 p4:aL} (hT:T∈Zr) (hU:U∈Zr) (hv:aZ T=aa (.type c)) (hw:aZ U=aa (.type d)) (hg:Gl X "isinstance") (hg1:Gl X T) (hg2:Gl X U) (hn:T ≠ "__name__") (hd:(T==k5k)=ae) (hn2:U ≠ "__name__") (hd2:(U==k5k)=ae) (hs:af [a,.Tuple [.Name T p1,.Name U p3] n p4] X.env=(ae,az a X.env)::af [.Tuple [.Name T p1,.Name U p3] n p4] X.env),Tr X a' (.e a)->Tr X (.isi a' [c,d]) (.e (.Call (.Name "isinstance" p) [a,.Tuple [.Name T p1,.Name U p3] n p4] [] p2)):=by
 intro _ _ _ _ _ _ _ _ _ _ _ _ _ hT hU hv hw hg hg1 hg2 hn hd hn2 hd2 hs q0;refine⟨λΓ G=>?_,λ_ _ _ _ _ _ h=>nomatch h⟩;have iha:=q0.m Γ G;intro c g ρ r h;simp only[j75,Bd]at h;split at h
 .rename_i x ex;cases e:qi x.d _ with
  |none=>rw[e]at h;cases h
  |some k =>rw[e]at h;cases h;exact DE.isi2 (iha c g ρ x ex).toT (Ir e) (c.bt _ (by decide)) (c.bt _ hT) (c.bt _ hU) hv hw (Cz e) hg hg1 hg2 hn hd hn2 hd2 hs rfl rfl rfl rfl
 .cases h
theorem Tr.c0:∀{X:Cx},Tr X .nil (.c []):=by intro _;refine⟨λΓ G=>?_,λ_ _ _ _ _ _ _=>trivial⟩;intro c g ρ;exact⟨λ_=>DTs.nil,λy k h=>by simp only[Ud]at h;cases h⟩
theorem Tr.c1:∀{X:Cx}{c':Ex}{c:ar},Tr X c' (.b c)->Tr X (.cons c' .nil) (.c [c]):=by
 intro _ _ _ q0;refine⟨λΓ G=>?_,λ_ _ _ _ _ _ _=>trivial⟩;have iha:=q0.m Γ G;intro c g ρ;refine⟨λh=>?_,λy k h hk=>DTs.one ?_⟩
 .simp only[Vl,Ud,consW]at h;split at h<;>cases h
 .simp only[Vl,Ud,consW]at h;split at h
  .rename_i x xs ex exs;cases exs;cases h;exact iha c g ρ k (by rw[ex];simp only[truth,hk])
  .cases h
theorem Tr.comp1:∀{X:Cx}{i:Nat}{y:ao}{py p:aL}{elt' it' c':Ex}{elt it:ar}{ifs:List ar} {scope:be} (hq:X.calm=ag) (hi:X.N[i]?=aa y) (hl:Ym scope y=ag) (hkind:scope.kind=.function) (hok:Je scope X.env X.N [i]=ag) (hs:∀x,aQ it X.env x=pure x),Tr X it' (.i (.Name y py) it)->(∀C s H fp pn,Tr (cCx X scope C s H fp pn) elt' (.e elt))->(∀C s H fp pn,Tr (cCx X scope C s H fp pn) c' (.c ifs))->Tr X (.comp [i] elt' it' c') (.e (.ListComp elt [⟨.Name y py,it,ifs,0⟩] scope p)):=by
 intro _ _ _ _ _ _ _ _ _ _ _ _ hq hi hl hkind hok hs q0 q1 q2;refine⟨λΓ G=>?_,λ_ _ _ _ _ _ h=>nomatch h⟩;have ihi:=q0.m Γ G;have ihe:=λC s H fp pn=>(q1 C s H fp pn).m Γ G;have ihc:=λC s H fp pn=>(q2 C s H fp pn).m Γ G;intro c g ρ r h;obtain⟨l,e,q⟩:=j0l hq c (λρ ds z=>ihi c g ρ ds z) hkind hok hs (λρ d ρ2 hb hun=>by
  simp only[zx]at hb
  cases hb
  have hu:=hun _ (X7.mpr rfl)
  exact⟨_,jw,Wk.set hu,Ws hu,λC s H fp pn=>DG.name _ c.nd hi (Km hl) (j18 hl)⟩)
  (λC s H fp pn ρ r z=>ihe C s H fp pn c.comp g.comp ρ r z) (λC s H fp pn ρ=>ihc C s H fp pn c.comp g.comp ρ) h
 subst e;exact q
theorem Tr.seq:∀{X:Cx}{a':Ex}{tg a:ar},Tr X a' (.e a)->Tr X (.seq a') (.i tg a):=by
 intro _ _ _ _ q0;refine⟨λΓ G=>?_,λ_ _ _ _ _ _ _=>trivial⟩;have iha:=q0.m Γ G;intro c g ρ ds h;simp only[jfq,Ul]at h;split at h
 .rename_i l e;cases h;exact DI.lst (iha c g ρ _ e)
 .rename_i l e;cases h;exact DI.tup (iha c g ρ _ e)
 .rename_i l e;cases h;exact DI.lst (DO.toE (iha c g ρ _ e))
 .rename_i y e;obtain⟨z,q⟩:=qe h;cases q;exact DI.str (iha c g ρ _ e).toT z
 .cases h
theorem Tr.range:∀{X:Cx}{es':Ex}{tg:ar}{es:List ar}{p p2:aL}(hg:Gl X "range"),Tr X es' (.a es)->Tr X (.range es') (.i tg (.Call (.Name "range" p) es [] p2)):=by
 intro _ _ _ _ _ _ hg q0;refine⟨λΓ G=>?_,λ_ _ _ _ _ _ _=>trivial⟩;have iha:=q0.m Γ G;intro c g ρ ds h;simp only[j9q,Uo]at h;split at h
 .rename_i x ex;have q:=iha c g ρ _ ex;cases q with|cons hs hx t =>
  cases t;split at h
  .rename_i n en;obtain⟨z,q⟩:=qe h;cases q;exact DI.range1 (en▸hx.toT) (c.bt _ (by decide)) z.1 z.2 hg hs
  .cases h
 .rename_i x y ex;have q:=iha c g ρ _ ex;cases q with|cons hs hx t =>
  cases t with|cons hs2 hy t2 =>
  cases t2;split at h
  .rename_i m n em en;obtain⟨z,q⟩:=qe h;cases q;exact DI.range2 (em▸hx.toT) (en▸hy.toT) (c.bt _ (by decide)) z.1 z.2.1 z.2.2.1 z.2.2.2 hg (by rw[hs,hs2];rfl) hs2 hs
  .cases h
 .cases h
theorem Tr.p0:∀{X:Cx},Tr X .nil (.p []):=by intro _;refine⟨λΓ G=>?_,λ_ _ _ _ _ _ _=>trivial⟩;intro c g ρ rs h;simp only[Ud]at h;cases h;trivial
theorem Tr.pC:∀{X:Cx}{y:ao}{n:Nat}{p:aL}{b':Ex}{es:List ar},Tr X b' (.p es)->Tr X (.cons (.lit (.str y)) b') (.p (.Constant (.str y) n p::es)):=by
 intro _ _ _ _ _ _ q0;refine⟨λΓ G=>?_,λ_ _ _ _ _ _ _=>trivial⟩;have ihb:=q0.m Γ G;intro c g ρ rs h;simp only[Vl,Dg,consW]at h;split at h
 .rename_i x xs ex exs;cases h;cases ex;refine⟨λz hz=>?_,ihb c g ρ xs exs⟩;have hz:(if _ then aa _ else ah)=aa z:=hz;split at hz
  .cases hz;exact DE.str
  .cases hz
 .cases h
theorem Tr.pR:∀{X:Cx}{a' b':Ex}{a:ar}{p:aL}{es:List ar},Tr X a' (.e a)->Tr X b' (.p es)->Tr X (.cons (.rpr a') b') (.p (.FormattedValue a 114 ah p::es)):=by
 intro _ a' b' _ _ _ q0 q1;refine⟨λΓ G=>?_,λ_ _ _ _ _ _ _=>trivial⟩;have iha:=q0.m Γ G;have ihb:=q1.m Γ G;intro c g ρ rs h;rw[Vl]at h;unfold consW at h;split at h
 .rename_i x xs ex exs;cases h;obtain⟨z,w,ez,ew,hl,rfl⟩:=jaq ex;refine⟨λy hy=>?_,ihb c g ρ xs exs⟩;have hy:(if (c9 w).length<=10000 then aa (c9 w)else ah)=aa y:=hy;rw[if_pos (Xf hl (by decide))]at hy;cases hy;exact DE.fmtR (ew▸(iha c g ρ z ez).toT) (Xf hl (by decide))
 .cases h
theorem Tr.pF:∀{X:Cx}{a' b':Ex}{a:ar}{p:aL}{es:List ar}(hq:X.calm=ag),Tr X a' (.e a)->Tr X b' (.p es)->Tr X (.cons a' b') (.p (.FormattedValue a (-1) ah p::es)):=by
 intro _ _ _ _ _ _ hq q0 q1;refine⟨λΓ G=>?_,λ_ _ _ _ _ _ _=>trivial⟩;have iha:=q0.m Γ G;have ihb:=q1.m Γ G;intro c g ρ rs h;simp only[Vl,consW]at h;split at h
 .rename_i x xs ex exs;cases h;exact⟨λy hy=>DE.fmt (c.gd hq) c.un' (iha c g ρ x ex).toT hy,ihb c g ρ xs exs⟩
 .cases h
theorem Tr.fst:∀{X:Cx}{es':Ex}{a b:ar}{es:List ar}{p:aL},Tr X es' (.p (a::b::es))->Tr X (.fst es') (.e (.JoinedStr (a::b::es) p)):=by
 intro _ _ _ _ _ _ q0;refine⟨λΓ G=>?_,λ_ _ _ _ _ _ h=>nomatch h⟩;have ih:=q0.m Γ G;intro c g ρ r h;simp only[jfv,j5k]at h;split at h
 .rename_i rs ers;split at h
  .rename_i hl;cases e:Q7 rs with
   |none=>rw[e]at h;cases h
   |some ys =>rw[e]at h;cases h;obtain⟨z1,z2⟩:=(ih c g ρ rs ers).all e;exact DE.joined z1 (Wo e) (by rw[z2];exact hl)
  .cases h
 .cases h
section
variable{Γ:ao->List D->Rc}{G:ao->Option D}{X:Cx}
theorem sound{t:Ex}{nd:Nd}(h:Tr X t nd):Cok X G->Gok X Γ->jdr Γ G X t nd:=h.m Γ G
theorem Dn{t:Ex}{nd:Nd}(h:Tr X t nd):Cok X G->Gok X Γ->∀ρ y,er Γ G t (jf ρ)=aa y->XM X ρ y nd:=h.x Γ G
end
inductive Px where
 |nop
inductive Dx where
 |fill (s t:Nat) (c:Ex) (f:ao) (es:Ex)
 |minc (t j:Nat) (it:Ex) (f:ao) (es:Ex)
 |maxc (t j:Nat) (it:Ex) (f:ao) (es:Ex)
inductive So where
 |next (ρ:En)
 |ret (r:Rc)
 |brk (ρ:En)
 |cnt (ρ:En)
 |err (x:ao) (ρ:En)
 |no
inductive Sx where
 |nop
 |seq (a b:Sx)
 |set (i:Nat) (e:Ex)
 |expr (e:Ex)
 |ret (e:Ex)
 |retV (i:Nat)
 |ife (c:Ex) (a b:Sx)
 |loop (is:List Nat) (it:Ex) (body:Sx)
 |whl (c:Ex) (body:Sx)
 |app (i:Nat) (e:Ex)
 |fgt (i:Nat)
 |keep (i:Nat)
 |unp (i j:Nat) (e:Ex)
 |px (p:Px)
 |dx (p:Dx)
 |lmk (x:Nat) (g:ao) (es:Ex)
 |prm (g:Nat->(ao->List D->Rc)->(ao->Option D)->En->So)
 |raise (x:ao) (e:Ex)
 |fail
noncomputable def orE(o:So)(x:Option ao)(ρ:En):So:=match o with
 |.no=>match x with
  |some y=>.err y ρ
  |none=>.no
 |o=>o
noncomputable def Jb(f:D->En->So):List D->En->So
 |[],ρ=>.next ρ
 |d::ds,ρ=>match f d ρ with
  |.next ρ'=>Jb f ds ρ'
  |.cnt ρ'=>Jb f ds ρ'
  |.brk ρ'=>.next ρ'
  |.ret r=>.ret r
  |.err x ρ'=>.err x ρ'
  |.no=>.no
noncomputable def Q0(c:En->Option Bool)(f:En->So):Nat->En->So
 |0,_=>.no
 |n+1,ρ=>match c ρ with
  |some ae=>.next ρ
  |some ag=>match f ρ with
   |.next ρ'=>Q0 c f n ρ'
   |.cnt ρ'=>Q0 c f n ρ'
   |.brk ρ'=>.next ρ'
   |.ret r=>.ret r
   |.err x ρ'=>.err x ρ'
   |.no=>.no
  |none=>.no
noncomputable def stOf:Option W->Option D
 |some (.v x)=>x.st
 |_=>ah
noncomputable def Yp(i:Nat)(w:Option W)(ρ:En):So:=match w with
 |some (.v (.o l))=>.next (ρ.set i (.own l))
 |some (.v x)=>match x.st with
  |some d=>.next (ρ.set i (.val d))
  |none=>.no
 |_=>.no
noncomputable def retS(w:Option W):So:=match w with
 |some (.v (.o l))=>.ret (.fresh l)
 |some (.v x)=>.ret (.val x.d)
 |_=>.no
noncomputable def Mi(s:Option Sv):So:=match s with
 |some (.own l)=>.ret (.fresh l)
 |some (.val d)=>.ret (.val d)
 |_=>.no
noncomputable def Ln(w:Option W)(ρ:En):So:=match w with
 |some (.v _)=>.next ρ
 |_=>.no
noncomputable def Bm(i:Nat)(s:Option Sv)(w:Option W)(ρ:En):So:=match s,w with
 |some (.own l),aa (.v x)=>match x.st with
  |some d=>if l.length<au then .next (ρ.set i (.own (l++[d])))else .no
  |none=>.no
 |_,_=>.no
noncomputable def j46(x:ao)(w:Option W)(d:Option D)(ρ:En):So:=match w,d with
 |some (.v _),aa _=>.err x ρ
 |_,_=>.no
noncomputable def Oi(i j:Nat)(d:Option D)(ρ:En):So:=match d with
 |some (.tup [d,d'])=>if i=j then .no else .next ((ρ.set i (.val d)).set j (.val d'))
 |_=>.no
noncomputable def Mt(i:Nat)(v:Option Sv)(ρ:En):So:=match v with
 |some (.own l)=>.next (ρ.set i (.val (.lst l)))
 |some (.val _)=>.next ρ
 |_=>.no
noncomputable def Rx:Sx->List Nat
 |.seq a b=>Rx a++Rx b
 |.set i _=>[i]
 |.ife _ a b=>Rx a++Rx b
 |_=>[]
noncomputable def Ow(Γ:ao->List D->Rc)(G:ao->Option D):Sx->En->Option En
 |.nop,ρ=>aa ρ
 |.seq a b,ρ=>match Ow Γ G a ρ with
  |some r=>Ow Γ G b r
  |none=>ah
 |.set i e,ρ=>match stOf (ev Γ G e ρ) with
  |some d=>aa (ρ.set i (.val d))
  |none=>ah
 |.ife c a b,ρ=>match truth (ev Γ G c ρ) with
  |some ag=>Ow Γ G a ρ
  |some ae=>Ow Γ G b ρ
  |none=>ah
 |_,_=>ah
inductive Sm where
 |next (ρ:En) (k:Nat)
 |ret (d:D) (k:Nat)
 |err (x:ao) (ρ:En)
 |no
noncomputable def Du(fu:Nat)(Γ:ao->List D->Rc)(G:ao->Option D)(ls:List ao):Px->En->Nat->Sm
 |.nop,ρ,k=>.next ρ k
noncomputable def pxS(l k:Option Sv)(r:List ao->Nat->Sm):So:=match l,k with
 |some (.val (.lst l)),aa (.val (.int k))=>match strsOf l with
  |some ls=>if 0<=k then match r ls k.toNat with
    |.ret d k'=>.ret (.mval d k')
    |.err x _=>.ret (.merr x)
    |_=>.no
   else .no
  |none=>.no
 |_,_=>.no
noncomputable def Dc(Γ:ao->List D->Rc)(f:ao)(a:Option W)(ks:List (List Int))(ns:List Int):Option (D×List (List Int)×List Int):=match a with
 |some (.a rs)=>match zu rs with
  |some ds=>match Γ (dq f) (.dct ks (ns.map D.int)::ds) with
   |.dval d ks' ns'=>aa (d,ks',ns')
   |_=>ah
  |none=>ah
 |_=>ah
noncomputable def j0b(f:D->List (List Int)->List Int->Option (D×List (List Int)×List Int)):List D->List (List Int)->List Int->Option (List D×List (List Int)×List Int)
 |[],ks,ns=>aa ([],ks,ns)
 |d::l,ks,ns=>match f d ks ns with
  |none=>ah
  |some (r,ks1,ns1)=>match j0b f l ks1 ns1 with
   |none=>ah
   |some (rs,ks2,ns2)=>aa (r::rs,ks2,ns2)
noncomputable def j1s:List D->List D->Option (List (List Int))
 |[],[]=>aa []
 |.int n::rs,.int s::ds=>(j1s rs ds).map ([n,s] :: ·)
 |_,_=>ah
noncomputable def jh5(s:Option Sv):Bool:=match s with
 |some .un=>ag
 |_=>ae
noncomputable def lsD(t j:Nat)(w:Option W)(ρ:En):Option (List D×En):=match w with
 |some (.v (.o l))=>if l.length<=1000/\j≠0/\t≠0/\j≠t/\jh5 ρ[j]?=ag/\t<ρ.length then aa (l,ρ.set t (.val (.lst l)))else ah
 |_=>ah
noncomputable def jfe(s t:Nat)(ρ:En)(ks:List (List Int))(ns:List Int)(c:Option W)(call:Option (D×List (List Int)×List Int)):Option (D×List (List Int)×List Int):=match ρ[s]? with
 |some (.val (.tup l))=>match intsOf l with
  |some k=>if t<ρ.length/\t≠0/\s≠t then(if ks.contains k=ag then(j0k ks (ns.map D.int) k).map λd=>(d,ks,ns)else match c with
    |some (.v r)=>match r.st with
     |some (.bl ag)=>if ks.length<au then aa (.int 0,ks++[k],ns++[0])else ah
     |some (.bl ae)=>match call with
      |some (.tup (.int m::_),ks1,ns1)=>if ks1.contains k=ae/\ks1.length<au then aa (.int (1+m),ks1++[k],ns1++[1+m])else ah
      |_=>ah
     |_=>ah
    |_=>ah)else ah
  |none=>ah
 |_=>ah
noncomputable def jgx(l:List D)(r:Option (List D×List (List Int)×List Int)):Option (D×List (List Int)×List Int):=match r with
 |some (rs,ks',ns')=>match j1s rs l with
  |some ls=>(ls[argBest (j6w ls) (ls.length-1)]?).map λk=>(.tup (k.map D.int),ks',ns')
  |none=>ah
 |none=>ah
noncomputable def jeq(r:Option (List D×List (List Int)×List Int)):Option (D×List (List Int)×List Int):=match r with
 |some (rs,ks',ns')=>match intsOf rs with
  |some ms=>if ms≠[]then aa (.int (Y0 ms),ks',ns')else ah
  |none=>ah
 |none=>ah
noncomputable def j6f(r:Option (List D×En))(f:List D->En->Option (D×List (List Int)×List Int)):Option (D×List (List Int)×List Int):=match r with
 |some (l,ρ3)=>f l ρ3
 |none=>ah
noncomputable def Ew(Γ:ao->List D->Rc)(G:ao->Option D):Dx->List (List Int)->List Int->En->Option (D×List (List Int)×List Int)
 |.fill s t c f es,ks,ns,ρ=>jfe s t ρ ks ns (ev Γ G c ρ) (Dc Γ f (ev Γ G es (ρ.set t (.val (.bl ae)))) ks ns)
 |.minc t j it f es,ks,ns,ρ=>j6f (lsD t j (ev Γ G it ρ) ρ) λl ρ3=>jgx l (j0b (λd ks ns=>Dc Γ f (ev Γ G es (ρ3.set j (.val d))) ks ns) l ks ns)
 |.maxc t j it f es,ks,ns,ρ=>j6f (lsD t j (ev Γ G it ρ) ρ) λl ρ3=>jeq (j0b (λd ks ns=>Dc Γ f (ev Γ G es (ρ3.set j (.val d))) ks ns) l ks ns)
noncomputable def dxS(l:Option Sv)(r:List (List Int)->List Int->Option (D×List (List Int)×List Int)):So:=match l with
 |some (.val (.dct ks ds))=>match intsOf ds with
  |some ns=>match r ks ns with
   |some (d,ks',ns')=>.ret (.dval d ks' ns')
   |none=>.no
  |none=>.no
 |_=>.no
noncomputable def jgy(b:Bool)(r:Option (D×List (List Int)×List Int)):So:=match b,r with
 |true,aa (_,ks,ns)=>.ret (.val (.dct ks (ns.map D.int)))
 |_,_=>.no
noncomputable def run(fu:Nat)(Γ:ao->List D->Rc)(G:ao->Option D):Sx->En->So
 |.nop,ρ=>.next ρ
 |.seq a b,ρ=>match run fu Γ G a ρ with
  |.next ρ'=>run fu Γ G b ρ'
  |o=>o
 |.set i e,ρ=>orE (Yp i (ev Γ G e ρ) ρ) (er Γ G e ρ) ρ
 |.expr e,ρ=>orE (Ln (ev Γ G e ρ) ρ) (er Γ G e ρ) ρ
 |.ret e,ρ=>orE (retS (ev Γ G e ρ)) (er Γ G e ρ) ρ
 |.retV i,ρ=>Mi ρ[i]?
 |.ife c a b,ρ=>match truth (ev Γ G c ρ) with
  |some ag=>run fu Γ G a ρ
  |some ae=>run fu Γ G b ρ
  |none=>.no
 |.loop is it body,ρ=>match ev Γ G it (frz it ρ) with
  |some (.i ds)=>Jb (λd ρ=>match zx is d ρ with
   |some ρ2=>run fu Γ G body ρ2
   |none=>.no) ds (frz it ρ)
  |_=>.no
 |.whl c body,ρ=>Q0 (λρ=>truth (ev Γ G c ρ)) (λρ=>run fu Γ G body ρ) fu ρ
 |.app i e,ρ=>Bm i ρ[i]? (ev Γ G e ρ) ρ
 |.fgt i,ρ=>.next (ρ.set i .un)
 |.keep i,ρ=>Mt i ρ[i]? ρ
 |.dx p,ρ=>dxS ρ[0]? λks ns=>Ew Γ G p ks ns (ρ.set 0 (.exc rfN))
 |.lmk x g es,ρ=>jgy (decide (x<ρ.length)&&noOwn ρ) (Dc Γ g (ev Γ G es (ρ.set x .un)) [] [])
 |.px p,ρ=>pxS ρ[0]? ρ[1]? λls k=>Du fu Γ G ls p (.exc rfN::ρ.drop 2) k
 |.prm g,ρ=>g fu Γ G ρ
 |.unp i j e,ρ=>Oi i j (stOf (ev Γ G e ρ)) ρ
 |.raise x e,ρ=>j46 x (ev Γ G e ρ) (G (bang x)) ρ
 |.fail,_=>.no
section
variable{Γ:ao->List D->Rc}{G:ao->Option D}{ρ:En}{fu:Nat}
theorem j79{a b}:run fu Γ G (.seq a b) ρ=(match run fu Γ G a ρ with
  |.next ρ'=>run fu Γ G b ρ'
  |o=>o):=(rfl)
theorem j78{i e}:run fu Γ G (.set i e) ρ=(orE (Yp i (ev Γ G e ρ) ρ) (er Γ G e ρ) ρ):=(rfl)
theorem jdp{e}:run fu Γ G (.expr e) ρ=(orE (Ln (ev Γ G e ρ) ρ) (er Γ G e ρ) ρ):=(rfl)
theorem j7a{e}:run fu Γ G (.ret e) ρ=(orE (retS (ev Γ G e ρ)) (er Γ G e ρ) ρ):=(rfl)
theorem jdm{i}:run fu Γ G (.retV i) ρ=(Mi ρ[i]?):=(rfl)
theorem jg0{c a b}:run fu Γ G (.ife c a b) ρ=(match truth (ev Γ G c ρ) with
  |some ag=>run fu Γ G a ρ
  |some ae=>run fu Γ G b ρ
  |none=>.no):=(rfl)
theorem jdn{is it body}:run fu Γ G (.loop is it body) ρ=(match ev Γ G it (frz it ρ) with
  |some (.i ds)=>Jb (λd ρ=>match zx is d ρ with
   |some ρ2=>run fu Γ G body ρ2
   |none=>.no) ds (frz it ρ)
  |_=>.no):=(rfl)
theorem jfy{c body}:run fu Γ G (.whl c body) ρ=(Q0 (λρ=>truth (ev Γ G c ρ)) (λρ=>run fu Γ G body ρ) fu ρ):=(rfl)
theorem jg1{i e}:run fu Γ G (.app i e) ρ=(Bm i ρ[i]? (ev Γ G e ρ) ρ):=(rfl)
theorem jdo{i}:run fu Γ G (.keep i) ρ=(Mt i ρ[i]? ρ):=(rfl)
theorem jfz{i j e}:run fu Γ G (.unp i j e) ρ=(Oi i j (stOf (ev Γ G e ρ)) ρ):=(rfl)
theorem j9r{x e}:run fu Γ G (.raise x e) ρ=(j46 x (ev Γ G e ρ) (G (bang x)) ρ):=(rfl)
end
inductive Ns where
 |s (st:aG)
 |ss (sts:List aG)
def TMs(X:Cx)(b:Sx)(ss:List aG):Prop:=∀(Γ:ao->List D->Rc)(G:ao->Option D),Cok X G->Gok X Γ->∀(ρ:Rho)(r:En),Ow Γ G b (jf ρ)=aa r->∃ρ',jf ρ'=r/\DMs X ρ ρ' (Rx b) ss/\Kp ρ ρ' (Rx b)
def TMt(X:Cx)(b:Sx)(full tl:List aG):Prop:=∀(Γ:ao->List D->Rc)(G:ao->Option D),Cok X G->Gok X Γ->∀(ρ:Rho)(r:En),Ow Γ G b (jf ρ)=aa r->∃ρ',jf ρ'=r/\DMt X ρ ρ' (Rx b) full tl
def jdh(pi:Nat)(o:Ob)(s:Sm)(P:Pm):Prop:=match s with
 |.next ρ' k=>∀ρ2,jf ρ2=ρ'->(∃ob,ρ2[pi]?=aa (.raw o.a ob rfN))->P.nx ρ2 k
 |.ret d k=>P.rt d k
 |.err x ρ'=>∀ρ2,jf ρ2=ρ'->P.ex x ρ2
 |.no=>False
def MP(X:Cx)(pi:Nat)(p:Px)(sts:List aG):Prop:=∀(fu:Nat)(Γ:ao->List D->Rc)(G:ao->Option D),Cok X G->Gok X Γ->∀C,X.mg "Pieces" = aa (.ref C)->PcX X C->∀(o:Ob)(ls:List ao)(ρ:Rho)(k:Nat)(P:Pm),
 (∃ob,ρ[pi]?=aa (.raw o.a ob rfN))->jdh pi o (Du fu Γ G ls p (jf ρ) k) P->MSs X C o ls ρ k sts P
def MD(X:Cx)(p:Dx)(sts:List aG):Prop:=∀(Γ:ao->List D->Rc)(G:ao->Option D),Cok X G->Gok X Γ->∀(ρ:Rho)(a:ai)(ks:List (List Int)) (ns:List Int) (d:D) (ks':List (List Int)) (ns':List Int),
 (∃ob,ρ[0]?=aa (.raw a ob rfN))->owns ρ=[]->Ew Γ G p ks ns (jf ρ)=aa (d,ks',ns')->DDb X ρ sts a ks ns d ks' ns'
noncomputable def Rt.rc:Rt->Rc
 |.val d=>.val d
 |.fresh l=>.fresh l
def Ql(o:So)(P:Po):Prop:=match o with
 |.next ρ'=>∀ρ2,jf ρ2=ρ'->P.nx ρ2
 |.ret r=>∀x:Rt,x.rc=r->P.rt x
 |.brk ρ'=>∀ρ2,jf ρ2=ρ'->P.bk ρ2
 |.cnt ρ'=>∀ρ2,jf ρ2=ρ'->P.ct ρ2
 |.err x ρ'=>∀ρ2,jf ρ2=ρ'->P.ex x ρ2
 |.no=>False
theorem Vo{o:So}{x:Option ao}{ρ:En}{P:Po}(h:Ql (orE o x ρ) P):Ql o P\/∃y,x=aa y/\∀ρ2,jf ρ2=ρ->P.ex y ρ2:=by
 cases o with
 |no =>
  cases x with
  |none=>exact h.elim
  |some y=>exact .inr ⟨y,rfl,h⟩
 |_=>exact .inl h
def j7b(fu:Nat)(Γ:ao->List D->Rc)(G:ao->Option D)(X:Cx)(t:Sx):Ns->Prop
 |.s st=>∀ρ P,Ql (run fu Γ G t (jf ρ)) P->DS X ρ st P
 |.ss sts=>∀ρ P,Ql (run fu Γ G t (jf ρ)) P->DSs X ρ sts P
section
variable{X:Cx}{ρ:Rho}{e a b c:ar}{es:List ar}{st:aG}{rest sa sb body:List aG}{P:Po}{d:D}{ds ds':List D}{pos p p1 p2 p3:aL}{x y:ao}{i j:Nat}
theorem DS.freeze(i:Nat){l:ai}(h:ρ[i]?=aa (.own l ds))(h2:DS X (ρ.set i (.val (.lst ds))) st P):DS X ρ st P:=λσ H E R q =>h2 σ H E (R.freeze h) (q.step (.drop λb hb=>(ju rfl).subset hb))
theorem DS.whileN(W:Nat->Rho->Prop)(n:Nat)(h0:W n ρ)(hs:∀m ρ',W m ρ'->∃k,DB X ρ' c k/\(k=ag->DSs X ρ' body { nx:=λρ2=>∃m2,m2<m/\W m2 ρ2,rt:=P.rt,bk:=P.nx,ct:=λρ2=>∃m2,m2<m/\W m2 ρ2,ex:=P.ex })/\(k=ae->P.nx ρ'))
  (hp:cS (aF X.prog X.w) X.A X.env X.xe):DS X ρ (.While c body [] pos) P:=λσ H E R q=>by
 refine(Dw hp ptS zj).to ?_;refine⟨λm σ' H'=>∃ρ',W m ρ'/\Rep X.K ρ' σ' H'/\Fr0 ρ ρ' H H',⟨n,ρ,h0,R,Fr0.refl _ _⟩,?_⟩;rintro m σ' H' ⟨ρ',w,R',f⟩;obtain⟨k,hk,ht,hf⟩:=hs m ρ' w;refine hk σ' H' _ R' λH1 g1=>?_;have f1:Fr0 ρ ρ' H H1:=jb.trans f (Fr0.grow g1);cases k with
 |false=>exact Zw (q.nx ρ' σ' H1 (hf rfl) (R'.grow g1) f1)
 |true =>refine Uw ⟨λσ2 H2=>∃ρ2,(∃m2,m2<m/\W m2 ρ2)/\Rep X.K ρ2 σ2 H2/\Fr0 ρ ρ2 H H2,λσ2 H2 ⟨ρ2,⟨m2,hlt,w2⟩,R2,f2⟩=>⟨m2,hlt,ρ2,w2,R2,f2⟩,?_⟩;exact ht rfl σ' H1 _ (R'.grow g1) ⟨λρ3 σ4 H4 n R4 f4=>⟨ρ3,n,R4,f1.trans f4⟩,λρ3 σ4 H4 n R4 f4=>q.nx ρ3 σ4 H4 n R4 (f1.trans f4),λρ3 σ4 H4 n R4 f4=>⟨ρ3,n,R4,f1.trans f4⟩,λr v H4 n z=>q.rt r v H4 n (M3.step f1 z),λx ρ3 σ4 H4 n R4 f4=>q.ex x ρ3 σ4 H4 n R4 (f1.trans f4)⟩
theorem DS.setCf{ρf:Rho}{tg elt iter:ar}{ifs:List ar}{scope:be}{spos:aL}(i:Nat)(cs:List Nat)(pr:D->Bool)(g:D->D)(hfr:∀K σ H,Rep K ρ σ H->Rep K ρf σ H)(hno:ρf=ρ\/qu ((ds.filter pr).map g)=ag)(hi:DI X ρf tg iter ds)
  (hb:∀C s H fp pn,∀d∈ds,∃ρ2,DG (cCx X scope C s H fp pn) ρf tg d ρ2/\Wk ρ2 ρf/\owns ρ2=owns ρf/\DTs (cCx X scope C s H fp pn) ρ2 ifs (pr d)/\(pr d=ag->DE (cCx X scope C s H fp pn) ρ2 elt (g d)))
  (h:∀l,P.nx (ρ.set i (.own l ((ds.filter pr).map g)))) (hN:X.N.Nodup) (hcs:∀j∈cs,ρf[j]?=aa .un) (hsz:ds.length<=au) (hX:X.N[i]?=aa x) (hx:Loc X.env.scope x)
  (hf:X.fn x=ag\/X.env.scope.names.lookup x=aa .local)
  (hsw:aO (.ListComp elt [⟨tg,iter,ifs,0⟩] scope pos) (aa (.Name x p1)) spos.line X.env=pure ag)
  (hc:X.calm=ag) (hkind:scope.kind=.function) (hok:Je scope X.env X.N cs=ag)
  (hs:∀x,aQ iter X.env x=pure x):DS X ρ (.Assign [.Name x p1] (.ListComp elt [⟨tg,iter,ifs,0⟩] scope pos) spos) P:=λσ H E R q pins s I=>by
 have Rf:=hfr _ _ _ R;rw[exec_Assign_Name_used _ _ _ _ hsw];refine aw (hZ (aw ?_));show aC _ X.A (do let _ <-comprehension (.ListComp elt [⟨tg,iter,ifs,0⟩] scope pos) scope X.env _ (newList []) ae (az iter X.env) (aa (dR (.Name x p1) X.env))) _ _ s;refine aw (bu (ia (use:=aa (dR (.Name x p1) X.env)) (Q:=λ_ s'=>SP X pins E .next s') rfl hs (O8 (Ra hok)) hkind (W3 hok)
  (thn (hi σ H (λJ H'=>jb H H'/\W6 X.K (del H' (owns ρf)) J ds) Rf (λJ H' g1 ok=>⟨g1,ok⟩) pins s I) λv s1 h1=>thn h1 λitv s2 h2=>?_)) (λ_ s' hq=>aH (aH hq)) λ_ _ e=>e)
 obtain⟨it,fp,tn,J,H2,e,I2,T,st2,f2,g2,ok⟩:=h2;subst e;refine Np (RR:=λacc C=>compPost (aF X.prog X.w) X.A X.xe (aa (dR (.Name x p1) X.env)) (λ_ s'=>SP X pins E .next s') acc C) I2 (Rf.grow g2) T st2 f2 ok hc hkind hok hcs hsz hb ?_;intro D C xs H' s' m I' gg n m' en hm L;show aC _ X.A (dR (.Name x p1) X.env (.ref D)) _ _ _;refine jU (Bs I' hN hX hx (v:=.ref D) rfl (λs'' I'' ⟨a,sb,ha⟩=>?_) hf);have hCa:C≠a:=by
  rcases ha with e|e
  .rw[e];exact L.loc
  .exact ba (L.cell x a e)
 have en':jd X.K (del H' (D::owns ρ)) ((ds.filter pr).map g) xs:=by
  rcases hno with e|e
  .rw[e]at en;exact en
  .exact(en.mono jq).hide (λc hc=>by
    rcases xf.mp hc with z|z
    .rw[z];exact .inl ⟨xs,m'⟩
    .exact .inl ((R.grow (g2.trans gg)).owned c z)) e
 refine⟨m,hm.sameBut sb hCa,λh' sb'=>⟨σ.set i (aa (.ref D)),H',I''.loose L sb',?_⟩⟩;exact q.nx _ _ H' (h D) (R.set_own (g2.trans gg) (g2.free n) m' en') (Fr0.new R (g2.trans gg) (g2.free n))
end
section
variable{fu:Nat}{Γ:ao->List D->Rc}{G:ao->Option D}{X:Cx}{P:Po}
theorem bind1{i:Nat}{y:ao}{p:aL}(nd:X.N.Nodup)(hi:X.N[i]?=aa y)(hx:Loc X.env.scope y)(hf:X.fn y=ag\/X.env.scope.names.lookup y=aa .local) :
  ∀ρ d ρ2,zx [i] d (jf ρ)=aa ρ2->∃ρ',jf ρ'=ρ2/\DG X ρ (.Name y p) d ρ':=λρ d ρ2 h=>by
 simp only[zx]at h;cases h;exact⟨_,jw,DG.name _ nd hi hx hf⟩
theorem DS.setX{e:ar}{x y:ao}{i:Nat}{p pos:aL}{ρ:Rho}(he:DX X ρ e y)(h:P.ex y ρ)(hN:X.N.Nodup)(hi:X.N[i]?=aa x)(hx:Loc X.env.scope x)(hs:aO e (aa (.Name x p)) pos.line X.env=pure ae)(hf:X.fn x=ag\/X.env.scope.names.lookup x=aa .local) :
  DS X ρ (.Assign [.Name x p] e pos) P:=λσ H E R q=>(Ve hN hi hx peS hs hf).to (he σ H _ R (q.ex y ρ σ H h R (Fr0.refl _ _)))
theorem DS.exprX{e:ar}{y:ao}{pos:aL}{ρ:Rho}(he:DX X ρ e y)(h:P.ex y ρ)(hs:aO e ah pos.line X.env=pure ae):DS X ρ (.Expr e pos) P:=λσ H E R q =>(Va peS hs).to (he σ H _ R (q.ex y ρ σ H h R (Fr0.refl _ _)))
theorem DS.retX{e:ar}{y:ao}{pos:aL}{ρ:Rho}(he:DX X ρ e y)(h:P.ex y ρ):DS X ρ (.Return (aa e) pos) P:=λσ H E R q =>(Q5 peS).to (he σ H _ R (q.ex y ρ σ H h R (Fr0.refl _ _)))
theorem j0a{is:List Nat}{it':Ex}{b:Sx}{it tg:ar}{body:List aG}{pos:aL}{ρ:Rho}(hq:X.calm=ag)(c:Cok X G)(hs:∀x,aQ it X.env x=pure x)
  (hb:∀ρ d ρ2,zx is d (jf ρ)=aa ρ2->∃ρ',jf ρ'=ρ2/\DG X ρ tg d ρ') (hi:∀ρ ds,ev Γ G it' (jf ρ)=aa (.i ds)->DI X ρ tg it ds)
  (ih:∀ρ P,Ql (run fu Γ G b (jf ρ)) P->DSs X ρ body P) (h:Ql (run fu Γ G (.loop is it' b) (jf ρ)) P):DS X ρ (.For tg it body [] pos) P:=by
 have main:∀ρf:Rho,jf ρf=frz it' (jf ρ)->DS X ρf (.For tg it body [] pos) P:=λρf ef=>by
  rw[jdn]at h;rw[<-ef]at h;split at h
  .rename_i ds hds;generalize hf:(λd ρ=>_:D->En->So)=f at h;refine DS.for (ds:=ds) (λi ρ'=>Ql (Jb f (ds.drop i) (jf ρ')) P) (hi ρf ds hds) (by rw[fW];exact h) (λi d ρ' hd w=>?_) (λρ' w=>?_) hq c.po hs
   .have hdr:ds.drop i=d::ds.drop (i+1):=by obtain⟨hlt,e⟩:=Xh.mp hd;rw[List.drop_eq_getElem_cons hlt,e]
    rw[hdr,Jb]at w;have ef2:f d (jf ρ')=match zx is d (jf ρ')with|some ρ2=>run fu Γ G b ρ2|none=>.no:=by rw[<-hf]<;>rfl
    rw[ef2]at w;cases hb2:zx is d (jf ρ') with
    |none=>rw[hb2]at w;exact w.elim
    |some ρ2 =>
     rw[hb2]at w;obtain⟨ρ3,e3,dg⟩:=hb ρ' d ρ2 hb2;refine⟨ρ3,dg,ih ρ3 _ ?_⟩;rw[e3];dsimp only at w;cases ho:run fu Γ G b ρ2 with
     |next ρ4=>rw[ho]at w;exact λρ5 e=>by rw[<-e]at w;exact w
     |cnt ρ4=>rw[ho]at w;exact λρ5 e=>by rw[<-e]at w;exact w
     |brk ρ4=>rw[ho]at w;exact w
     |ret r=>rw[ho]at w;exact w
     |err x ρ4=>rw[ho]at w;exact w
     |no=>rw[ho]at w;exact w
   .rw[List.drop_length,Jb]at w;exact w ρ' rfl
  .exact h.elim
 by_cases z:Jd it' (jf ρ)=ag
 .unfold Jd at z;split at z
  .rename_i i ei;split at z
   .rename_i l e;obtain⟨a,q⟩:=Zh e;refine DS.freeze i q (main _ ?_);rw[jw];simp only[frz,ei,e,Sl.abs]
   .cases z
  .cases z
 .have z':Jd it' (jf ρ)=ae:=by simpa using z
  refine main ρ ?_;unfold frz;split
  .rename_i i ei;split
   .rename_i l e;simp only[Jd,ei,e]at z';cases z'
   .rfl
  .rfl
theorem K7{c':Ex}{b:Sx}{cd:ar}{body:List aG}{pos:aL}{ρ:Rho}(c:Cok X G)(hc:∀ρ k,truth (ev Γ G c' (jf ρ))=aa k->DB X ρ cd k)
  (ih:∀ρ P,Ql (run fu Γ G b (jf ρ)) P->DSs X ρ body P) (h:Ql (run fu Γ G (.whl c' b) (jf ρ)) P):DS X ρ (.While cd body [] pos) P:=by
 rw[jfy]at h;refine DS.whileN (λn ρ'=>Ql (Q0 (λρ=>truth (ev Γ G c' ρ)) (λρ=>run fu Γ G b ρ) n (jf ρ')) P) fu h (λm ρ' w=>?_) c.po;cases m with
 |zero=>rw[Q0]at w;exact w.elim
 |succ m =>
  rw[Q0]at w;split at w
  .rename_i e;exact⟨ae,hc ρ' ae e,(λz=>by cases z),λ_=>w ρ' rfl⟩
  .rename_i e;refine⟨ag,hc ρ' ag e,λ_=>ih ρ' _ ?_,λz=>by cases z⟩;cases ho:run fu Γ G b (jf ρ') with
   |next ρ4=>rw[ho]at w;exact λρ5 e=>⟨m,Pj _,by rw[<-e]at w;exact w⟩
   |cnt ρ4=>rw[ho]at w;exact λρ5 e=>⟨m,Pj _,by rw[<-e]at w;exact w⟩
   |brk ρ4=>rw[ho]at w;exact w
   |ret r=>rw[ho]at w;exact w
   |err x ρ4=>rw[ho]at w;exact w
   |no=>rw[ho]at w;exact w
  .exact w.elim
theorem Eu{is:List Nat}{elt' it' c':Ex}{elt it tg:ar}{ifs:List ar}{scope:be}{p p1 pos:aL}{k:Nat}{z:ao}{ρ:Rho}(hq:X.calm=ag)(hX:Cok X G)
  (hk:X.N[k]?=aa z) (hx:Loc X.env.scope z) (hf:X.fn z=ag\/X.env.scope.names.lookup z=aa .local)
  (hsw:aO (.ListComp elt [⟨tg,it,ifs,0⟩] scope p) (aa (.Name z p1)) pos.line X.env=pure ag)
  (hit:∀ρ ds,ev Γ G it' (jf ρ)=aa (.i ds)->DI X ρ tg it ds) (hkind:scope.kind=.function) (hok:Je scope X.env X.N is=ag) (hs:∀x,aQ it X.env x=pure x)
  (hb:∀ρ d ρ2,zx is d (jf ρ)=aa ρ2->(∀j∈is,ρ[j]?=aa .un)->∃ρ',jf ρ'=ρ2/\Wk ρ' ρ/\owns ρ'=owns ρ/\∀C s H fp pn,DG (cCx X scope C s H fp pn) ρ tg d ρ')
  (he:∀C s H fp pn ρ r,ev Γ G elt' (jf ρ)=aa (.v r)->Has (cCx X scope C s H fp pn) ρ elt r)
  (hc:∀C s H fp pn ρ,(ev Γ G c' (jf ρ)=aa (.a [])->DTs (cCx X scope C s H fp pn) ρ ifs ag)/\∀y k,ev Γ G c' (jf ρ)=aa (.a [y])->y.d=.bl k->DTs (cCx X scope C s H fp pn) ρ ifs k)
  (h:Ql (run fu Γ G (.set k (.comp is elt' it' c')) (jf ρ)) P):DS X ρ (.Assign [.Name z p1] (.ListComp elt [⟨tg,it,ifs,0⟩] scope p) pos) P:=by
 rw[j78]at h;unfold Yp at h;have h:=(Vo h).resolve_right λ⟨y,ey,_⟩=>by simp only[er]at ey;cases ey
 cases e:ev Γ G (.comp is elt' it' c') (jf ρ) with
 |none=>rw[e]at h;exact h.elim
 |some w =>
  rw[e]at h;cases w with
  |a _=>exact h.elim
  |i _=>exact h.elim
  |v r =>
   obtain⟨l,ρf,ds,pr,g,er,el,hfz,hi,hun,hz,hb'⟩:=R9 hit hb he hc e;subst er;refine DS.setCf (ρf:=ρf) k is pr g ?_ ?_ hi hb' (λa=>?_) hX.nd hun hz hk hx hf hsw hq hkind hok hs
   .rcases hfz with e|⟨_,i,a,l',q,e⟩
    .subst e;exact λ_ _ _ R=>R
    .subst e;exact λ_ _ _ R=>R.freeze q
   .rcases hfz with e|⟨n,_⟩
    .exact .inl e
    .exact .inr (el▸n)
   .rw[<-el];exact h _ jw
theorem j7n{w:Option W}{d:D}(h:stOf w=aa d):∃z,w=aa (.v z)/\z.st=aa d:=by
 unfold stOf at h;split at h
 .exact⟨_,rfl,h⟩
 .cases h
end
structure Ts(X:Cx)(t:Sx)(nd:Ns):Prop where
 m:∀(fu:Nat)(Γ:ao->List D->Rc)(G:ao->Option D),Cok X G->Gok X Γ->j7b fu Γ G X t nd
theorem Ts.nil:∀{X:Cx},Ts X .nop (.ss []):=by intro _;refine⟨λfu Γ G=>?_⟩;intro c g ρ P h;exact DSs.nil (h ρ rfl)
theorem Ts.cons:∀{X:Cx}{a b:Sx}{st:aG}{rest:List aG},Ts X a (.s st)->Ts X b (.ss rest)->Ts X (.seq a b) (.ss (st::rest)):=by
 intro _ _ _ _ _ q0 q1;refine⟨λfu Γ G=>?_⟩;have iha:=q0.m fu Γ G;have ihb:=q1.m fu Γ G;intro c g ρ P h;rw[j79]at h;split at h
 .rename_i ρ' e;exact DSs.cons (N:=λρ1=>jf ρ1=ρ') (iha c g ρ _ (by rw[e];exact λρ2 z=>z)) λρ1 z=>ihb c g ρ1 P (by rw[z];exact h)
 .rename_i o hn;refine DSs.cons (N:=λ_=>False) (iha c g ρ _ ?_) λ_ z=>z.elim;cases e:run fu Γ G _ (jf ρ) with
  |next ρ'=>exact absurd e (hn ρ')
  |ret r=>rw[e]at h;exact h
  |err x r=>rw[e]at h;exact h
  |brk r=>rw[e]at h;exact h
  |cnt r=>rw[e]at h;exact h
  |no=>rw[e]at h;exact h
theorem Ts.prm:∀{X:Cx}{g:Nat->(ao->List D->Rc)->(ao->Option D)->En->So} {b:Sx} {rest full:List aG} (hg:∀(fu:Nat)(Γ:ao->List D->Rc)(G:ao->Option D),Cok X G->Gok X Γ->∀(ρ:Rho)(P:Po)(N:Rho->Prop),Ql (g fu Γ G (jf ρ)) { P with nx:=N }->(∀ρ',N ρ'->DSs X ρ' rest P)->DSs X ρ full P),Ts X b (.ss rest)->Ts X (.seq (.prm g) b) (.ss full):=by
 intro _ g0 b rest full hg q0;refine⟨λfu Γ G=>?_⟩;have ih:=q0.m fu Γ G;intro c g ρ P ht;have er:run fu Γ G (.seq (.prm g0) b) (jf ρ)=(match g0 fu Γ G (jf ρ) with
  |.next ρ'=>run fu Γ G b ρ'
  |o=>o):=(rfl)
 rw[er]at ht;cases z:g0 fu Γ G (jf ρ) with
 |next ρ'=>rw[z]at ht;exact hg fu Γ G c g ρ P (λρ1=>jf ρ1=ρ') (by rw[z];exact λρ2 y=>y) λρ1 y=>ih c g ρ1 P (by rw[y];exact ht)
 |no=>rw[z]at ht;exact ht.elim
 |ret r=>rw[z]at ht;exact hg fu Γ G c g ρ P (λ_=>False) (by rw[z];exact ht) λ_ y=>y.elim
 |brk r=>rw[z]at ht;exact hg fu Γ G c g ρ P (λ_=>False) (by rw[z];exact ht) λ_ y=>y.elim
 |cnt r=>rw[z]at ht;exact hg fu Γ G c g ρ P (λ_=>False) (by rw[z];exact ht) λ_ y=>y.elim
 |err x r=>rw[z]at ht;exact hg fu Γ G c g ρ P (λ_=>False) (by rw[z];exact ht) λ_ y=>y.elim
theorem Ts.keep:∀{X:Cx}{i:Nat}{b:Sx}{sts:List aG},Ts X b (.ss sts)->Ts X (.seq (.keep i) b) (.ss sts):=by
 intro _ i _ _ q0;refine⟨λfu Γ G=>?_⟩;have ih:=q0.m fu Γ G;intro c g ρ P h;simp only[j79,jdo,Mt]at h;cases e:(jf ρ)[i]? with
 |none=>rw[e]at h;exact h.elim
 |some v =>
  rw[e]at h;cases v with
  |own l =>obtain⟨a,q⟩:=Zh e;exact DSs.freeze _ q (ih c g _ P (by rw[jw];exact h))
  |un=>exact h.elim
  |val d=>exact ih c g ρ P h
  |exc x=>exact h.elim
theorem Ts.set:∀{X:Cx}{i:Nat}{x:ao}{e':Ex}{e:ar}{p pos:aL}(hi:X.N[i]?=aa x) (hx:Loc X.env.scope x) (hs:aO e (aa (.Name x p)) pos.line X.env=pure ae) (hf:X.fn x=ag\/X.env.scope.names.lookup x=aa .local),Tr X e' (.e e)->Ts X (.set i e') (.s (.Assign [.Name x p] e pos)):=by
 intro _ _ _ _ _ _ _ hi hx hs hf he;refine⟨λfu Γ G=>?_⟩;intro c g ρ P h;have S:=sound he c g;rw[j78]at h;unfold Yp at h;rcases Vo h with h|⟨y,ey,hP⟩
 rotate_left
 .exact DS.setX (Dn he c g ρ y ey) (hP ρ rfl) c.nd hi hx hs hf
 split at h
 .rename_i l e;exact DS.setO _ (S ρ _ e) (λa=>h _ jw) c.nd hi hx hs hf
 .rename_i r hn e;split at h
  .rename_i d hd;exact DS.set _ ((S ρ _ e).toE hd) (h _ jw) c.nd hi hx hs hf
  .exact h.elim
 .exact h.elim
theorem Ts.setC1:∀{X:Cx}{k i:Nat}{z y:ao}{py p p1 pos:aL}{elt' it' c':Ex}{elt it:ar}{ifs:List ar} {scope:be} (hq:X.calm=ag) (hk:X.N[k]?=aa z) (hx:Loc X.env.scope z) (hf:X.fn z=ag\/X.env.scope.names.lookup z=aa .local) (hsw:aO (.ListComp elt [⟨.Name y py,it,ifs,0⟩] scope p) (aa (.Name z p1)) pos.line X.env=pure ag) (hi:X.N[i]?=aa y) (hl:Ym scope y=ag) (hkind:scope.kind=.function) (hok:Je scope X.env X.N [i]=ag) (hs:∀x,aQ it X.env x=pure x),Tr X it' (.i (.Name y py) it)->(∀C s H fp pn,Tr (cCx X scope C s H fp pn) elt' (.e elt))->(∀C s H fp pn,Tr (cCx X scope C s H fp pn) c' (.c ifs))->Ts X (.set k (.comp [i] elt' it' c')) (.s (.Assign [.Name z p1] (.ListComp elt [⟨.Name y py,it,ifs,0⟩] scope p) pos)):=by
 intro _ _ _ _ _ _ _ _ _ _ _ _ _ _ _ _ hq hk hx hf hsw hi hl hkind hok hs hit he hc;refine⟨λfu Γ G=>?_⟩;intro c g ρ P h;exact Eu hq c hk hx hf hsw (λρ ds z=>sound hit c g ρ ds z) hkind hok hs (λρ d ρ2 hb hun=>by
  simp only[zx]at hb
  cases hb
  have hu:=hun _ (X7.mpr rfl)
  exact⟨_,jw,Wk.set hu,Ws hu,λC s H fp pn=>DG.name _ c.nd hi (Km hl) (j18 hl)⟩)
  (λC s H fp pn ρ r z=>sound (he C s H fp pn) c.comp g.comp ρ r z) (λC s H fp pn ρ=>sound (hc C s H fp pn) c.comp g.comp ρ) h
theorem Ts.expr:∀{X:Cx}{e':Ex}{e:ar}{pos:aL}(hs:aO e ah pos.line X.env=pure ae),Tr X e' (.e e)->Ts X (.expr e') (.s (.Expr e pos)):=by
 intro _ _ _ _ hs he;refine⟨λfu Γ G=>?_⟩;intro c g ρ P h;rw[jdp]at h;unfold Ln at h;rcases Vo h with h|⟨y,ey,hP⟩
 rotate_left
 .exact DS.exprX (Dn he c g ρ y ey) (hP ρ rfl) hs
 split at h
 .rename_i r e;exact DS.expr (sound he c g ρ r e).toT (h ρ rfl) hs
 .exact h.elim
theorem Ts.ret:∀{X:Cx}{e':Ex}{e:ar}{pos:aL},Tr X e' (.e e)->Ts X (.ret e') (.s (.Return (aa e) pos)):=by
 intro _ _ _ _ he;refine⟨λfu Γ G=>?_⟩;intro c g ρ P h;rw[j7a]at h;unfold retS at h;rcases Vo h with h|⟨y,ey,hP⟩
 rotate_left
 .exact DS.retX (Dn he c g ρ y ey) (hP ρ rfl)
 split at h
 .rename_i l e;exact DS.retO (sound he c g ρ _ e) (h _ rfl)
 .rename_i r hn e;exact DS.ret (sound he c g ρ _ e).toT (h _ rfl)
 .exact h.elim
theorem Ts.retV:∀{X:Cx}{i:Nat}{x:ao}{p pos:aL}(hi:X.N[i]?=aa x) (hv:Vis X.env.scope x) (hd:(x==k5k)=ae) (hcd:(x==k5l)=ae),Ts X (.retV i) (.s (.Return (aa (.Name x p)) pos)):=by
 intro _ _ _ _ _ hi hv hd hcd;refine⟨λfu Γ G=>?_⟩;intro c g ρ P h;rw[jdm]at h;unfold Mi at h;split at h
 .rename_i l e;obtain⟨a,q⟩:=Zh e;exact DS.retV _ q (h _ rfl) hi hv hd hcd
 .rename_i d e;exact DS.ret (DE.toT (DE.var _ (K5 e) hi hv hd hcd)) (h _ rfl)
 .exact h.elim
theorem Ts.ife:∀{X:Cx}{c':Ex}{a b:Sx}{c:ar}{sa sb:List aG}{pos:aL},Tr X c' (.b c)->Ts X a (.ss sa)->Ts X b (.ss sb)->Ts X (.ife c' a b) (.s (.If c sa sb pos)):=by
 intro _ _ _ _ _ _ _ _ hc q1 q2;refine⟨λfu Γ G=>?_⟩;have iha:=q1.m fu Γ G;have ihb:=q2.m fu Γ G;intro c g ρ P h;rw[jg0]at h;split at h
 .rename_i e;exact DS.if (sound hc c g ρ ag e) (λ_=>iha c g ρ P h) λz=>by cases z
 .rename_i e;exact DS.if (sound hc c g ρ ae e) (λz=>by cases z) λ_=>ihb c g ρ P h
 .exact h.elim
theorem Ts.for1:∀{X:Cx}{i:Nat}{y:ao}{it':Ex}{b:Sx}{it:ar}{body:List aG} {p pos:aL} (hq:X.calm=ag) (hi:X.N[i]?=aa y) (hx:Loc X.env.scope y) (hf:X.fn y=ag\/X.env.scope.names.lookup y=aa .local) (hs:∀x,aQ it X.env x=pure x),Tr X it' (.i (.Name y p) it)->Ts X b (.ss body)->Ts X (.loop [i] it' b) (.s (.For (.Name y p) it body [] pos)):=by intro _ _ _ _ _ _ _ _ _ hq hi hx hf hs hit q1;refine⟨λfu Γ G=>?_⟩;have ih:=q1.m fu Γ G;intro c g ρ P h;exact j0a hq c hs (bind1 c.nd hi hx hf) (λρ ds z=>sound hit c g ρ ds z) (ih c g) h
theorem Ts.whl:∀{X:Cx}{c':Ex}{b:Sx}{c:ar}{body:List aG}{pos:aL},Tr X c' (.b c)->Ts X b (.ss body)->Ts X (.whl c' b) (.s (.While c body [] pos)):=by intro _ _ _ _ _ _ hc q1;refine⟨λfu Γ G=>?_⟩;have ih:=q1.m fu Γ G;intro c g ρ P h;exact K7 c (λρ k z=>sound hc c g ρ k z) (ih c g) h
theorem Ts.app:∀{X:Cx}{i:Nat}{x:ao}{e':Ex}{e:ar}{p p1 p2 pos:aL}(hN:X.N[i]?=aa x) (hv:Vis X.env.scope x) (hd:(x==k5k)=ae) (hcd:(x==k5l)=ae) (hst:af [e] X.env=[(ae,az e X.env)]) (hline:(p1.endLine==p2.line)=ag) (hbase:aS (.Name x p) "append" X.env (az (.Name x p) X.env)=az (.Name x p) X.env) (hfew:((aJ p2 (af [e] X.env)).all (λx=>!x.1)&&(bq p2 (aT [] X.env)).all (λx=>x.1.isSome)&&decide (([e]:List ar).length+([]:List b9).length+(if ([]:List b9).isEmpty then 0 else 1)<30))=ag),Tr X e' (.e e)->Ts X (.app i e') (.s (.Expr (.Call (.Attribute (.Name x p) "append" p1) [e] [] p2) pos)):=by
 intro _ _ _ _ _ _ _ _ _ hN hv hd hcd hst hline hbase hfew he;refine⟨λfu Γ G=>?_⟩;intro c g ρ P h;rw[jg1]at h;unfold Bm at h;split at h
 .rename_i l x el ex;obtain⟨a,q⟩:=Zh el;split at h
  .rename_i d hd';split at h
   .rename_i hz;exact DS.append _ q ((sound he c g ρ x ex).toE hd') hz (h _ jw) hN hv hd hcd hst hline hbase hfew rfl
   .exact h.elim
  .exact h.elim
 .exact h.elim
theorem Ts.unp:∀{X:Cx}{i j:Nat}{x y:ao}{e':Ex}{e:ar}{px py pt pos:aL}{n:Nat} (hq:X.calm=ag) (hi:X.N[i]?=aa x) (hj:X.N[j]?=aa y) (hx:Loc X.env.scope x) (hy:Loc X.env.scope y) (fx:X.fn x=ag\/X.env.scope.names.lookup x=aa .local) (fy:X.fn y=ag\/X.env.scope.names.lookup y=aa .local) (hs:ib [.Tuple [.Name x px,.Name y py] n pt] e pos.line X.env=pure ae) (hw:ic [.Tuple [.Name x px,.Name y py] n pt] e X.env=pure ah),Tr X e' (.e e)->Ts X (.unp i j e') (.s (.Assign [.Tuple [.Name x px,.Name y py] n pt] e pos)):=by
 intro _ _ _ _ _ _ _ _ _ _ _ _ hq hi hj hx hy fx fy hs hw he;refine⟨λfu Γ G=>?_⟩;intro c g ρ P h;rw[jfz]at h;unfold Oi at h;split at h
 .rename_i d d' ed;split at h
  .exact h.elim
  .rename_i hij;obtain⟨z,ez,ed⟩:=j7n ed;exact DS.unp hij ((sound he c g ρ z ez).toE ed) (h _ (by rw[jw,jw];rfl)) hq c.nd hi hj hx hy fx fy hs hw
 .exact h.elim
theorem Ts.raise:∀{X:Cx}{x:ao}{e':Ex}{e:ar}{np cpos pos:aL}(hq:X.calm=ag)(hg:Gl X x) (hdb:(x==k5k)=ae) (hs:af [e] X.env=[(ae,az e X.env)]),Tr X e' (.e e)->Ts X (.raise x e') (.s (.Raise (aa (.Call (.Name x np) [e] [] cpos)) ah pos)):=by
 intro _ _ _ _ _ _ _ hq hg hdb hs he;refine⟨λfu Γ G=>?_⟩;intro c g ρ P h;rw[j9r]at h;unfold j46 at h;split at h
 .rename_i r d er eg;obtain⟨hx,o,ho⟩:=c.ec _ _ eg;exact DS.raiseE c.ea hx ho (W.mg_of c.kin c.ns ho) c.kin hq (λσ H R=>(sound he c g ρ r er).toT σ H _ R λv H' g' _=>g') (h ρ rfl) hg hdb hs
 .exact h.elim
section
theorem Y9{fu:Nat}{Γ:ao->List D->Rc}{G:ao->Option D}{X:Cx}{t:Sx}{nd:Ns}(h:Ts X t nd):Cok X G->Gok X Γ->j7b fu Γ G X t nd:=h.m fu Γ G
end
section
variable{X:Cx}{nx nw nt g y:ao}{c:ar}{es:List ar}{c' es' it':Ex}{s t j:Nat}{st:aG}{scope:be}
def SetT(X:Cx)(t:Nat)(it':Ex)(st:aG):Prop:=∀(Γ:ao->List D->Rc)(G:ao->Option D),Cok X G->Gok X Γ->∀(ρ:Rho)(l:List D)(P:Po),ev Γ G it' (jf ρ)=aa (.v (.o l))->(∀b,P.nx (ρ.set t (.own b l)))->DS X ρ st P
end
structure Fi where
 n:Nat
 nn:Nat
 body:Sx
 lam:Bool
noncomputable def jbs:Rc->Rc
 |.val d=>.lval d
 |_=>.no
noncomputable def fin:So->Rc
 |.ret r=>r
 |.next _=>.val .non
 |.err x _=>.err x
 |_=>.no
noncomputable def enter(F:Fi)(ds:List D):En:=ds.map Sv.val++ay (F.nn-F.n) Sv.un
noncomputable def evP(fu:Nat)(G:ao->Option D)(T:ao->Option Fi):Nat->ao->List D->Rc
 |0,_,_=>.no
 |n+1,f,ds=>match T f with
  |none=>.no
  |some F=>if ds.length=F.n then(if F.lam=ag then jbs (fin (run fu (evP fu G T n) G F.body (enter F ds)))else fin (run fu (evP fu G T n) G F.body (enter F ds)))else .no
structure Lk(P:av)(w:aA)(K:k5g)(mg:k5j)(base:aI)(x:ao)(F:Fi):Prop where
 ex:∃(st:aG)(f:ai)(fd:aD)(N ps:List ao),Fun K x x st f fd/\FnScope N ps (j0 st)/\ps.length=F.n/\N.length=F.nn/\Binds K fd ps []/\Dfl K x fd ps/\mg x=aa (.ref f) /\
  ∀(cdv:aj)(A:aE)(outer:List cf)(s:aq)(H:Hp)(E:XK)(xe:k5h),Ts ((qg CX0 P w K mg base N x (j0 st) f cdv A outer s H E).wish xe) F.body (.ss (jh st))
structure LkL(P:av)(w:aA)(K:k5g)(mg:k5j)(base:aI)(x:ao)(F:Fi):Prop where
 ex:∃(tx:Tx)(N ps:List ao)(e:Ex),j0e K x=aa tx/\LamScope N ps tx.2.2/\N.length=F.n/\F.nn=F.n/\F.body=.ret e /\
  (∀(cl:List (ao×ai)) (pm:aj) (c:ai) (ctv:aj) (us:List aj),us.length=ps.length->bB (W.kla_fn "<lambda>" (zc x) tx.1 tx.2.1 tx.2.2 cl pm (.ref c) ctv) ⟨us,[]⟩=pure (ps.zip us)) /\
  ∀(a c:ai)(cl:List (ao×ai)) (A:aE) (outer:List cf) (s:aq) (H:Hp),Tr (Vu P w K mg base N (zc x) tx.2.2 a (.ref c) cl A outer s H) e (.e tx.2.1)
def j0v(P:av)(w:aA)(K:k5g)(mg:k5j)(base:aI)(C:ai):Prop:=∃(fA fT fL fI:ai)(dA dT dL dI:aD),PcT K mg C fA fT fL fI/\(FnOk P w K mg base CX0 1 fA dA ["self"] (Kw C)/\Binds K dA ["self"] []) /\
  (FnOk P w K mg base CX0 2 fT dT ["self"] (Ku C)/\Binds K dT ["self"] [])/\(FnOk P w K mg base CX0 1 fL dL ["self"] (j6l C)/\Binds K dL ["self"] [])/\(FnOk P w K mg base CX0 1 fI dI ["self","text"] (Kv C)/\Binds K dI ["self","text"] [])
structure LkP(P:av)(w:aA)(K:k5g)(mg:k5j)(base:aI)(x:ao)(F:Fi):Prop where
 ex:∃(g:ao)(p:Px)(st:aG)(f:ai)(fd:aD)(N ps:List ao),x=mq g/\F.body=.px p/\Fun K g g st f fd/\FnScope N ps (j0 st)/\ps.length+1=F.n/\N.length+1=F.nn/\0<ps.length/\ps.length<=N.length/\Binds K fd ps []/\mg g=aa (.ref f)/\(∃C,mg "Pieces" = aa (.ref C)/\j0v P w K mg base C) /\
  ∀(cdv:aj)(A:aE)(outer:List cf)(s:aq)(H:Hp)(E:XK)(xe:k5h),MP ((qg CX0 P w K mg base N g (j0 st) f cdv A outer s H E).wish xe) 0 p (jh st)
structure LkD(P:av)(w:aA)(K:k5g)(mg:k5j)(base:aI)(x:ao)(F:Fi):Prop where
 ex:∃(g:ao)(p:Dx)(st:aG)(f:ai)(fd:aD)(N ps:List ao),x=dq g/\F.body=.dx p/\Fun K g g st f fd/\FnScope N ps (j0 st)/\ps.length=F.n/\N.length=F.nn/\0<ps.length/\ps.length<=N.length/\Binds K fd ps []/\mg g=aa (.ref f) /\
  ∀(cdv:aj)(A:aE)(outer:List cf)(s:aq)(H:Hp)(E:XK)(xe:k5h),MD ((qg CX0 P w K mg base N g (j0 st) f cdv A outer s H E).wish xe) p (jh st)
def j3c(P:av)(w:aA)(K:k5g)(mg:k5j)(base:aI):Prop:=∃(f:ai)(fd:aD)(ps:List ao),FnOk P w K mg base CX0 11 f fd ps (jab K j6n)/\mg "_law_plan" = aa (.ref f)/\W.keepIn K (.ref f)=ag/\Binds K fd ps []/\Dfl K "_law_plan" fd ps
structure Tb(P:av)(w:aA)(K:k5g)(mg:k5j)(base:aI)(G:ao->Option D):Prop where
 bt:∀x∈Zr,mg x=ah
 gl:∀x d,Zq x=ae->G x=aa d->∃u v,mg x=aa u/\RelV v u/\∀H,Enc K H d v
 ea:Wc K=ag
 ec:∀x d,G (bang x)=aa d->x∈vf/\∃o,W.nsIn K ax x=aa (aa o)
 el:G "?" = aa (.bl ag)->∀c∈vf,∃v,W.nsIn K ax c=aa (aa v)
 kin:K.In base
 ns:base.Ns ax mg
 kd:∀x l,G (bang x)=aa (.lst l)->KindsP P w K mg base "_law_kinds" x l
 fn:∀f d,G (qm f)=aa d->∃fa,mg f=aa (.ref fa)/\W.keepIn K (.ref fa)=ag
 pl:∀d,G (qm "_law_plan")=aa d->j3c P w K mg base
 pc:∀d,G (qm "Pieces")=aa d->∃C,mg "Pieces" = aa (.ref C)/\j0v P w K mg base C
 lm:∀x∈Zv,∀f cdv,mg x=aa (.ref f)->Vm K f cdv->∃c Pt,cdv=.ref c/\W.codeHdIn K c Pt=ag/\W.tabIn K x=aa (c,Pt)
def jel:Rc->Prop
 |.hnd _=>True
 |.no=>True
 |_=>False
structure LkG(P:av)(w:aA)(K:k5g)(mg:k5j)(base:aI)(x:ao)(F:Fi):Prop where
 ex:∃(g:ao)(f:ai)(fd:aD)(ps:List ao),x=gq g/\mg g=aa (.ref f)/\W.keepIn K (.ref f)=ag/\Binds K fd ps []/\(∀fu Γ G ds,jel (fin (run fu Γ G F.body (enter F ds)))) /\
  ∀(fu:Nat)(Γ:ao->List D->Rc)(G:ao->Option D)(n:Nat),14<=n->Tb P w K mg base G->(∀{X:Cx},X.prog=P->X.w=w->X.K=K->X.mg=mg->X.base=base->Room n X.A->Gok X Γ) ->
   ∀(ds:List D)(sp:k5g->(ao->Option aj)->Sp),ds.length=F.n->fin (run fu Γ G F.body (enter F ds))=.hnd sp->FnOk P w K mg base CX0 (n+1) f fd ps (sp K mg)
def LkF(P:av)(w:aA)(K:k5g)(mg:k5j)(base:aI)(f:ao)(F:Fi):Prop:=(F.lam=ae->(Lk P w K mg base f F/\f.cps.toList.getLast?≠aa 62/\f.cps.toList.head?≠aa 64/\f.cps.toList.head?≠aa 35/\f.cps.toList.head?≠aa 38)\/LkP P w K mg base f F\/LkD P w K mg base f F\/LkG P w K mg base f F)/\(F.lam=ag->∃x,f=zc x/\LkL P w K mg base x F)
section
variable{P:av}{w:aA}{K:k5g}{mg:k5j}{base:aI}{fu:Nat}{G:ao->Option D}{T:ao->Option Fi}
theorem Uc{N:List ao}{ds:List D}{F:Fi}(h1:ds.length=F.n)(h2:N.length=F.nn):jf (jz N ds)=enter F ds:=by unfold jf jz enter;rw[T7,Xz,cD,h1,h2];rfl
theorem W5(y:ao):(bang y).cps.toList.head?=aa 33:=by unfold bang;show(("!":ao).cps++y.cps).toList.head?=aa 33;rw[Pg];rfl
theorem Ii(y:ao):(mq y).cps.toList.head?=aa 64:=by unfold mq;show(("@":ao).cps++y.cps).toList.head?=aa 64;rw[Pg];rfl
theorem jbj{x y:ao}(h:mq x=mq y):x=y:=by unfold mq at h;have h:(⟨("@":ao).cps++x.cps⟩:ao)=⟨("@":ao).cps++y.cps⟩:=h;have h:=congrArg fV h;have e:x.cps=y.cps:=T3 h rfl;cases x;cases y;cases e;rfl
theorem j92(y:ao):(gq y).cps.toList.head?=aa 38:=by unfold gq;show(("&":ao).cps++y.cps).toList.head?=aa 38;rw[Pg];rfl
theorem jcc{x y:ao}(h:gq x=gq y):x=y:=by unfold gq at h;have h:(⟨("&":ao).cps++x.cps⟩:ao)=⟨("&":ao).cps++y.cps⟩:=h;have h:=congrArg fV h;have e:x.cps=y.cps:=T3 h rfl;cases x;cases y;cases e;rfl
theorem j9d(y:ao):(dq y).cps.toList.head?=aa 35:=by unfold dq;show(("#":ao).cps++y.cps).toList.head?=aa 35;rw[Pg];rfl
theorem jcx{x y:ao}(h:dq x=dq y):x=y:=by unfold dq at h;have h:(⟨("#":ao).cps++x.cps⟩:ao)=⟨("#":ao).cps++y.cps⟩:=h;have h:=congrArg fV h;have e:x.cps=y.cps:=T3 h rfl;cases x;cases y;cases e;rfl
theorem Ks:∀ls:List ao,strsOf (ls.map D.str)=aa ls
 |[]=>rfl
 |_::l=>by rw[xx,strsOf,Ks l];rfl
theorem Kh{N:List ao}{a:ai}{ds:List D}{F:Fi}{ls:List D}{k:Int}(h1:ds.length+2=F.n)(h2:N.length+1=F.nn):jf (startM N a ds)=.exc rfN::(enter F (.lst ls::.int k::ds)).drop 2:=by
 have e:N.length-(ds.length+1)=F.nn-F.n:=by omega
 unfold startM;rw[jw];unfold jf jz enter;rw[T7,Xz,cD];simp only[xx,fi,T4,List.drop_succ_cons,fW,xg,e];rfl
theorem Kl{N:List ao}{a:ai}{ds:List D}{F:Fi}{d:D}(h1:ds.length+1=F.n)(h2:N.length=F.nn):jf (startM N a ds)=(enter F (d::ds)).set 0 (.exc rfN):=by
 have e:N.length-(ds.length+1)=F.nn-F.n:=by omega
 unfold startM;rw[jw];unfold jf jz enter;rw[T7,Xz,cD];simp only[xx,fi,T4,xg,e];rfl
theorem j9l (y:ao):bang y ≠ "?":=λh=>by have:=W5 y;rw[h]at this;exact absurd this (by decide)
theorem Kz(y:ao):(qm y).cps.toList.head?=aa 63:=by unfold qm;show(("??":ao).cps++y.cps).toList.head?=aa 63;rw[Pg];rfl
theorem jef (y:ao):qm y ≠ "?":=λh=>by
 have e:((qm y).cps.toList.drop 1).head?=aa 63:=by unfold qm;show((("??":ao).cps++y.cps).toList.drop 1).head?=aa 63;rw[Pg];rfl
 rw[h]at e;exact absurd e (by decide)
theorem jax{x y:ao}(h:qm x=qm y):x=y:=by unfold qm at h;have h:(⟨("??":ao).cps++x.cps⟩:ao)=⟨("??":ao).cps++y.cps⟩:=h;have h:=congrArg fV h;have e:x.cps=y.cps:=T3 h rfl;cases x;cases y;cases e;rfl
theorem Ed(x y:ao):bang x≠qm y:=λh=>by have:=W5 x;rw[h,Kz]at this;exact absurd this (by decide)
theorem Wj{x y z:ao}(h:x++z=y++z):x=y:=by have h:(⟨x.cps++z.cps⟩:ao)=⟨y.cps++z.cps⟩:=h;have h:=congrArg fV h;have e:x.cps=y.cps:=Array.append_inj_left' h rfl;cases x;cases y;cases e;rfl
theorem j4t{x y:ao}(h:zc x=zc y):x=y:=Wj (Wj h)
theorem Ni(x:ao):(zc x).cps.toList.getLast?=aa 62:=by unfold zc;show(((x ++ ".<locals>.").cps)++("<lambda>":ao).cps).toList.getLast?=aa 62;rw[Pg,List.getLast?_append];rfl
theorem j0d(x:ao):zc x∉Zv:=λh=>by
 have e:=Ni x
 revert e
 unfold Zv at h;rcases xf.mp h with h|h
 .rw[h];decide
 rcases xf.mp h with h|h
 .rw[h];decide
 rcases xf.mp h with h|h
 .rw[h];decide
 .rw[X7.mp h];decide
theorem jar{fu:Nat}{Γ:ao->List D->Rc}{G:ao->Option D}{e:Ex}{ρ:En}{d:D}(h:fin (run fu Γ G (.ret e) ρ)=.val d):∃r,ev Γ G e ρ=aa (.v r)/\r.d=d:=by
 rw[j7a]at h;cases z:ev Γ G e ρ with
 |none=>rw[z]at h;cases y:er Γ G e ρ<;>(rw[y]at h;cases h)
 |some w =>
  cases w with
  |v r =>
   rw[z]at h;cases r with
   |o l=>cases h
   |e d=>cases h;exact⟨_,rfl,rfl⟩
   |w l=>cases h;exact⟨_,rfl,rfl⟩
   |t d=>cases h;exact⟨_,rfl,rfl⟩
  |a l=>rw[z]at h;cases y:er Γ G e ρ<;>(rw[y]at h;cases h)
  |i l=>rw[z]at h;cases y:er Γ G e ρ<;>(rw[y]at h;cases h)
theorem j00{C:ai}(h:j0v P w K mg base C){X:Cx}{n:Nat}(h1:X.prog=P)(h2:X.w=w)(h3:X.K=K)(h4:X.mg=mg)(h5:X.base=base)(hn:14<=n)(hr:Room n X.A):PcX X C:=by subst h1 h2 h3 h4 h5;obtain⟨fA,fT,fL,fI,dA,dT,dL,dI,a,b,c,d,e⟩:=h;exact⟨fA,fT,fL,fI,dA,dT,dL,dI,a,b,c,d,e,hr.mono (by omega)⟩
theorem Qi (t:Tb P w K mg base G) {X:Cx} {n:Nat} (h1:X.prog=P) (h2:X.w=w) (h3:X.K=K) (h4:X.mg=mg) (h5:X.base=base) (hn:14<=n) (hr:Room n X.A) (nd:X.N.Nodup) (po:cS (aF X.prog X.w) X.A X.env X.xe) (hlm:∀x∈Zv,X.env.qual=x ++ ".<locals>."->∃c P,X.env.code=.ref c/\W.codeHdIn K c P=ag/\W.tabIn K x=aa (c,P)) (hfr:∃(env0:cf)(out0:List cf)(L:ai),X.stack=env0::out0/\env0.frame=aa L/\X.env.frame=aa L:=by exact⟨_,_,_,rfl,rfl,rfl⟩):Cok X G:=by subst h1 h2 h3 h4 h5;exact⟨by have:=hr.un;omega,(λ_=>by have:=hr.un;omega),(λ_=>by have:=hr.dp;omega),t.bt,t.gl,nd,po,t.ea,t.ec,t.el,t.kin,t.ns,t.kd,t.fn,λd e=>let ⟨f,fd,ps,F,h1,h2,h3,h4⟩:=t.pl d e;⟨11,f,fd,ps,F,hr.mono hn,h1,h2,h3,h4⟩,λd e=>let ⟨C,h1,h2⟩:=t.pc d e;⟨C,h1,j00 h2 rfl rfl rfl rfl rfl hn hr⟩,(λ_=>hr.gd),hfr,hlm⟩
theorem V6 (t:Tb P w K mg base G) {g:ao} {f:ai} {cdv:aj} {env:cf} (hm:mg g=aa (.ref f)) (hcv:Vm K f cdv) (hq:env.qual=g ++ ".<locals>.") (hc:env.code=cdv):∀x∈Zv,env.qual=x ++ ".<locals>."->∃c P,env.code=.ref c/\W.codeHdIn K c P=ag/\W.tabIn K x=aa (c,P):=λx hx e=>by have eg:=Wj (hq.symm.trans e);subst eg;rw[hc];exact t.lm _ hx f cdv hm hcv
noncomputable def lv:Nat->Nat
 |0=>12
 |n+1=>lv n+4
theorem Jz:∀n,14<=lv n+3
 |0=>by decide
 |n+1=>by have:=Jz n;unfold lv;omega
theorem Wz:∀ns:List Int,intsOf (ns.map D.int)=aa ns
 |[]=>rfl
 |n::ns=>by rw[xx,intsOf,Wz ns];rfl
theorem Ml(hT:∀x F,T x=aa F->LkF P w K mg base x F)(t:Tb P w K mg base G):∀(n:Nat)(x:ao)(ds:List D),
  ∃(f:ai)(fd:aD)(ps:List ao),match evP fu G T n x ds with
   |.val d=>FnOk P w K mg base CX0 (lv n) f fd ps (spP K λds' d'=>ds'=ds/\d'=d)/\mg x=aa (.ref f)/\W.keepIn K (.ref f)=ag/\Binds K fd ps []/\Dfl K x fd ps
   |.fresh l=>FnOk P w K mg base CX0 (lv n) f fd ps (spF K λds' l'=>ds'=ds/\l'=l)/\mg x=aa (.ref f)/\W.keepIn K (.ref f)=ag/\Binds K fd ps []/\Dfl K x fd ps
   |.err y=>FnOk P w K mg base (CX1 P w) (lv n) f fd ps (spX K mg λds' z=>ds'=ds/\z=y)/\mg x=aa (.ref f)/\W.keepIn K (.ref f)=ag/\Binds K fd ps []
   |.lval d=>∀y,x=zc y->j0w P w K mg base (lv n) y λds' d'=>ds'=ds/\d'=d
   |.mval d k'=>∀g ls (k:Nat) ds',x=mq g->ds=.lst (ls.map D.str)::.int (k:Int)::ds'->∀C,mg "Pieces" = aa (.ref C)->FnOk P w K mg base CX0 (lv n) f fd ps (spM K C λls2 k2 ds2 d2 k2'=>ls2=ls/\k2=k/\ds2=ds'/\d2=d/\k2'=k')/\mg g=aa (.ref f)/\W.keepIn K (.ref f)=ag/\Binds K fd ps []
   |.merr y=>∀g ls (k:Nat) ds',x=mq g->ds=.lst (ls.map D.str)::.int (k:Int)::ds'->∀C,mg "Pieces" = aa (.ref C)->FnOk P w K mg base (CX1 P w) (lv n) f fd ps (j3s K mg C λls2 k2 ds2 x2=>ls2=ls/\k2=k/\ds2=ds'/\x2=y)/\mg g=aa (.ref f)/\W.keepIn K (.ref f)=ag/\Binds K fd ps []
   |.dval d ks' ns'=>∀g ks ns ds',x=dq g->ds=.dct ks (ns.map D.int)::ds'->FnOk P w K mg base CX0 (lv n) f fd ps (spD K λks2 ns2 ds2 d2 ks2' ns2'=>ks2=ks/\ns2=ns/\ds2=ds'/\d2=d/\ks2'=ks'/\ns2'=ns')/\mg g=aa (.ref f)/\W.keepIn K (.ref f)=ag/\Binds K fd ps []
   |.hnd sp=>∀g,x=gq g->FnOk P w K mg base CX0 (lv n) f fd ps (sp K mg)/\mg g=aa (.ref f)/\W.keepIn K (.ref f)=ag/\Binds K fd ps []
   |.no=>True
 |0,x,ds=>⟨0,W.fnOf x x { posonlyargs:=[],args:=[],vararg:=ah,kwonlyargs:=[],kw_defaults:=[],kwarg:=ah,defaults:=[] } [] { kind:=.function,names:=[],isGenerator:=ae,isCoroutine:=ae } .none .none .none .none ah .none .none,[],trivial⟩
 |n+1,x,ds=>by
  have ih:=Ml hT t n;cases hF:T x with
  |none =>
   obtain⟨f,fd,ps,_⟩:=ih x ds;refine⟨f,fd,ps,?_⟩;have e:evP fu G T (n+1) x ds=.no:=by simp only[evP,hF]
   rw[e];trivial
  |some F =>
   have gok:∀{X:Cx},X.prog=P->X.w=w->X.K=K->X.mg=mg->X.base=base->Room (lv n+3) X.A->Gok X (evP fu G T n):=λ{X} h1 h2 h3 h4 h5 hr g ds'=>by
    subst h1 h2 h3 h4 h5;obtain⟨f',fd',ps',q⟩:=ih g ds';cases z:evP fu G T n g ds' with
    |val d=>rw[z]at q;exact⟨lv n,f',fd',ps',q.1,hr,q.2.1,q.2.2.1,q.2.2.2⟩
    |fresh l=>rw[z]at q;exact⟨lv n,f',fd',ps',q.1,hr,q.2.1,q.2.2.1,q.2.2.2⟩
    |err y=>rw[z]at q;exact⟨lv n,f',fd',ps',q.1,hr.mono (by omega),q.2.1,q.2.2.1,q.2.2.2⟩
    |lval d=>rw[z]at q;exact λy hy=>⟨lv n,hr.mono (by omega),q y hy⟩
    |mval d k=>rw[z]at q;exact λg' ls k ds'' h1 h2 C h3=>let ⟨a,b⟩:=q g' ls k ds'' h1 h2 C h3;⟨⟨lv n,f',fd',ps',a,hr.mono (by omega),b⟩⟩
    |merr y=>rw[z]at q;exact λg' ls k ds'' h1 h2 C h3=>let ⟨a,b⟩:=q g' ls k ds'' h1 h2 C h3;⟨⟨lv n,f',fd',ps',a,hr.mono (by omega),b⟩⟩
    |dval d ks ns=>rw[z]at q;exact λg' ks ns ds'' h1 h2=>let ⟨a,b⟩:=q g' ks ns ds'' h1 h2;⟨⟨lv n,f',fd',ps',a,hr,b⟩⟩
    |hnd sp=>rw[z]at q;exact λg' h1=>let ⟨a,b⟩:=q g' h1;⟨⟨lv n,f',fd',ps',a,hr,b⟩⟩
    |no=>trivial
   cases hlam:F.lam with
   |true =>
    obtain⟨f,fd,ps,_⟩:=ih x ds;refine⟨f,fd,ps,?_⟩;by_cases hl:ds.length=F.n
    .have e:evP fu G T (n+1) x ds=jbs (fin (run fu (evP fu G T n) G F.body (enter F ds))):=by simp only[evP,hF,if_pos hl,hlam,if_true]
     rw[e];obtain⟨y,ey,L⟩:=(hT x F hF).2 hlam;obtain⟨tx,N,ps,ex,htx,hsc,hN,hnn,hbd,hba,htr⟩:=L.ex;cases ho:fin (run fu (evP fu G T n) G F.body (enter F ds)) with
     |val d =>intro y' hy';have eyy:y=y':=j4t (ey.symm.trans hy');subst eyy;refine jbq (k:=lv n+3) htx hsc (λds' d' h=>by rw[h.1,hl,hN]) hba λa c cl A outer s H hcl hr ds' d' ⟨e1,e2⟩=>?_;subst e1 e2;have ab:jf (jz N ds')=enter F ds':=Uc hl (by rw[hN,hnn]);rw[hbd,<-ab]at ho;obtain⟨r,er,ed⟩:=jar ho;exact ed▸(sound (htr a c cl A outer s H) (Qi t rfl rfl rfl rfl rfl (Jz _) hr hsc.nd Pa λz hz hq=>absurd (Wj hq▸hz) (j0d y)) (gok rfl rfl rfl rfl rfl hr) (jz N ds') r er).toT
     |fresh l=>trivial
     |err z=>trivial
     |lval z=>trivial
     |mval z k=>trivial
     |merr z=>trivial
     |dval z ks ns=>trivial
     |hnd sp=>trivial
     |no=>trivial
    .have e:evP fu G T (n+1) x ds=.no:=by simp only[evP,hF,if_neg hl]
     rw[e];trivial
   |false =>
   rcases(hT x F hF).1 hlam with ⟨L,hlast,hhead,hhead2,hhead3⟩|L|L|L
   rotate_left 3
   .obtain⟨g0,f,fd,ps,hxg,hm,hk,hb,hO,hH⟩:=L.ex;refine⟨f,fd,ps,?_⟩;by_cases hl:ds.length=F.n
    .have e:evP fu G T (n+1) x ds=fin (run fu (evP fu G T n) G F.body (enter F ds)):=by simp only[evP,hF,if_pos hl,hlam,pq,if_false]
     have hh:=hH fu (evP fu G T n) G (lv n+3) (Jz _) t gok ds;have ho':=hO fu (evP fu G T n) G ds;rw[e];cases ho:fin (run fu (evP fu G T n) G F.body (enter F ds)) with
     |hnd sp=>exact λg hg=>⟨hh sp hl ho,jcc (hxg.symm.trans hg)▸hm,hk,hb⟩
     |val d=>rw[ho]at ho';exact ho'.elim
     |fresh l=>rw[ho]at ho';exact ho'.elim
     |err y=>rw[ho]at ho';exact ho'.elim
     |lval d=>rw[ho]at ho';exact ho'.elim
     |mval d k=>rw[ho]at ho';exact ho'.elim
     |merr y=>rw[ho]at ho';exact ho'.elim
     |dval d ks ns=>rw[ho]at ho';exact ho'.elim
     |no=>trivial
    .have e:evP fu G T (n+1) x ds=.no:=by simp only[evP,hF,if_neg hl]
     rw[e];trivial
   rotate_left 2
   .obtain⟨g0,p,st,f,fd,N,ps,hxg,hbody,hfun,hsc,hps,hN,hp0,hpN,hb,hm,hmd⟩:=L.ex;refine⟨f,fd,ps,?_⟩;by_cases hl:ds.length=F.n
    .have e:evP fu G T (n+1) x ds=fin (run fu (evP fu G T n) G F.body (enter F ds)):=by simp only[evP,hF,if_pos hl,hlam,pq,if_false]
     rw[e,hbody,show run fu (evP fu G T n) G (.dx p) (enter F ds)=dxS (enter F ds)[0]? (λks ns=>Ew (evP fu G T n) G p ks ns ((enter F ds).set 0 (.exc rfN))) from rfl];cases ho:dxS (enter F ds)[0]? λks ns=>Ew (evP fu G T n) G p ks ns ((enter F ds).set 0 (.exc rfN)) with
     |next ρ' =>
      exfalso;unfold dxS at ho
      repeat' split at ho
      all_goals cases ho
     |brk _=>trivial
     |cnt _=>trivial
     |no=>trivial
     |err y ρ' =>
      exfalso;unfold dxS at ho
      repeat' split at ho
      all_goals cases ho
     |ret r =>
      have sh:∃d ks' ns',r=.dval d ks' ns':=by
       unfold dxS at ho
       repeat' split at ho
       all_goals (cases ho)
       exact⟨_,_,_,rfl⟩
      obtain⟨d,ks',ns',er⟩:=sh;subst er;intro g ks ns ds' h1 h2;have eg:g0=g:=jcx (hxg.symm.trans h1);subst eg;have hl2:ds'.length+1=ps.length:=by rw[h2]at hl;simp only[xg]at hl;omega
      have z:Ew (evP fu G T n) G p ks ns ((enter F ds).set 0 (.exc rfN))=aa (d,ks',ns'):=by
       have e0:(enter F ds)[0]?=aa (.val (.dct ks (ns.map D.int))):=by rw[h2];rfl
       rw[e0]at ho;unfold dxS at ho;simp only[Wz]at ho;split at ho
       .rename_i d2 ks2 ns2 z;cases ho;exact z
       .cases ho
      refine⟨jhe (n:=lv n+3) hfun hsc (λks2 ns2 ds2 d2 ks2' ns2' h=>by rw[h.2.2.1,hl2]) λcdv A outer s H E hcv hr a ks2 ns2 ds2 d2 ks2' ns2' h=>?_,hm,hfun.kp,hb⟩;obtain⟨rfl,rfl,rfl,rfl,rfl,rfl⟩:=h;have ck:=Qi t (X:=(qg CX0 P w K mg base N g0 (j0 st) f cdv A outer s H E).nox) rfl rfl rfl rfl rfl (Jz _) hr hsc.nd Pa (V6 t hm hcv rfl rfl);refine hmd cdv A outer s H E _ (evP fu G T n) G ck (gok rfl rfl rfl rfl rfl hr) _ a _ _ _ _ _ ⟨dOb,?_⟩ (Vy _ _ _) ?_
      .unfold startM;exact Yb (by unfold jz;rw[X8,X5,xg];omega)
      .rw[Kl (F:=F) (d:=.dct ks2 (ns2.map D.int)) (by omega) hN,<-h2];exact z
    .have e:evP fu G T (n+1) x ds=.no:=by simp only[evP,hF,if_neg hl]
     rw[e];trivial
   rotate_left
   .obtain⟨g0,p,st,f,fd,N,ps,hxg,hbody,hfun,hsc,hps,hN,hp0,hpN,hb,hm,⟨C0,hC0,hPc⟩,hmp⟩:=L.ex;refine⟨f,fd,ps,?_⟩;by_cases hl:ds.length=F.n
    .have e:evP fu G T (n+1) x ds=fin (run fu (evP fu G T n) G F.body (enter F ds)):=by simp only[evP,hF,if_pos hl,hlam,pq,if_false]
     rw[e,hbody,show run fu (evP fu G T n) G (.px p) (enter F ds)=pxS (enter F ds)[0]? (enter F ds)[1]? (λls k=>Du fu (evP fu G T n) G ls p (.exc rfN::(enter F ds).drop 2) k) from rfl];cases ho:pxS (enter F ds)[0]? (enter F ds)[1]? λls k=>Du fu (evP fu G T n) G ls p (.exc rfN::(enter F ds).drop 2) k with
     |next ρ' =>
      exfalso;unfold pxS at ho
      repeat' split at ho
      all_goals cases ho
     |brk _=>trivial
     |cnt _=>trivial
     |no=>trivial
     |err y ρ' =>
      exfalso;unfold pxS at ho
      repeat' split at ho
      all_goals cases ho
     |ret r =>
      have key:∀g ls (k:Nat) ds',x=mq g->ds=.lst (ls.map D.str)::.int (k:Int)::ds'->g0=g/\ds'.length+1=ps.length/\∀a:ai,
        (∀d k',r=.mval d k'->Du fu (evP fu G T n) G ls p (jf (startM N a ds')) k=.ret d k')/\(∀y,r=.merr y->∃ρ',Du fu (evP fu G T n) G ls p (jf (startM N a ds')) k=.err y ρ'):=λg ls k ds' h1 h2=>by
       refine⟨jbj (hxg.symm.trans h1),?_,λa=>?_⟩
       .rw[h2]at hl;simp only[xg]at hl;omega
       rw[Kh (F:=F) (ls:=ls.map D.str) (k:=(k:Int)) (by rw[h2]at hl;simp only[xg]at hl;omega) hN,<-h2];have e0:(enter F ds)[0]?=aa (.val (.lst (ls.map D.str))):=by rw[h2];rfl
       have e1:(enter F ds)[1]?=aa (.val (.int (k:Int))):=by rw[h2];rfl
       rw[e0,e1]at ho;unfold pxS at ho;simp only[Ks,Xw,iM,if_true]at ho;split at ho
       .rename_i d k' z;cases ho;exact⟨λd2 k2 q=>(by cases q;exact z),λy q=>(by cases q)⟩
       .rename_i y ρ' z;cases ho;exact⟨λd2 k2 q=>(by cases q),λy q=>(by cases q;exact⟨_,z⟩)⟩
       .cases ho
      have sh:(∃d k',r=.mval d k')\/∃y,r=.merr y:=by
       unfold pxS at ho
       repeat' split at ho
       all_goals (cases ho)
       .exact .inl ⟨_,_,rfl⟩
       .exact .inr ⟨_,rfl⟩
      rcases sh with ⟨d,k',er⟩|⟨y,er⟩
      .subst er;intro g ls k ds' h1 h2 C hC;obtain⟨eg,hl2,kk⟩:=key g ls k ds' h1 h2;subst eg;cases hC0.symm.trans hC;refine⟨jhd (n:=lv n+3) hfun hsc (λls2 k2 ds2 d2 k2' h=>by rw[h.2.2.1,hl2]) λcdv A outer s H E hcv hr o ls2 k2 ds2 d2 k2' h=>?_,hm,hfun.kp,hb⟩;obtain⟨rfl,rfl,rfl,rfl,rfl⟩:=h;have ck:=Qi t (X:=(qg CX0 P w K mg base N g0 (j0 st) f cdv A outer s H E).nox) rfl rfl rfl rfl rfl (Jz _) hr hsc.nd Pa (V6 t hm hcv rfl rfl);refine hmp cdv A outer s H E _ fu (evP fu G T n) G ck (gok rfl rfl rfl rfl rfl hr) C0 hC0 (j00 hPc rfl rfl rfl rfl rfl (Jz _) hr) o _ _ _ _ ⟨dOb,?_⟩ ?_
       .unfold startM;exact Yb (by unfold jz;rw[X8,X5,xg];omega)
       .rw[(kk o.a).1 _ _ rfl];exact⟨rfl,rfl⟩
      .subst er;intro g ls k ds' h1 h2 C hC;obtain⟨eg,hl2,kk⟩:=key g ls k ds' h1 h2;subst eg;cases hC0.symm.trans hC;refine⟨jfd (n:=lv n+3) hfun hsc (λls2 k2 ds2 y2 h=>by rw[h.2.2.1,hl2]) λcdv A outer s H E hcv hr o ls2 k2 ds2 y2 h=>?_,hm,hfun.kp,hb⟩;obtain⟨rfl,rfl,rfl,rfl⟩:=h;have ck:=Qi t (X:=qg (CX1 P w) P w K mg base N g0 (j0 st) f cdv A outer s H E) rfl rfl rfl rfl rfl (Jz _) hr hsc.nd dO (V6 t hm hcv rfl rfl);refine hmp cdv A outer s H E (qg (CX1 P w) P w K mg base N g0 (j0 st) f cdv A outer s H E).xe fu (evP fu G T n) G ck (gok rfl rfl rfl rfl rfl hr) C0 hC0 (j00 hPc rfl rfl rfl rfl rfl (Jz _) hr) o _ _ _ _ ⟨dOb,?_⟩ ?_
       .unfold startM;exact Yb (by unfold jz;rw[X8,X5,xg];omega)
       .obtain⟨ρ',z⟩:=(kk o.a).2 _ rfl;rw[z];exact λ_ _=>rfl
    .have e:evP fu G T (n+1) x ds=.no:=by simp only[evP,hF,if_neg hl]
     rw[e];trivial
   obtain⟨st,f,fd,N,ps,hfun,hsc,hps,hN,hb,hdf,hm,hts⟩:=L.ex;refine⟨f,fd,ps,?_⟩;by_cases hl:ds.length=F.n
   .have e:evP fu G T (n+1) x ds=fin (run fu (evP fu G T n) G F.body (enter F ds)):=by simp only[evP,hF,if_pos hl,hlam,pq,if_false]
    have ab:jf (jz N ds)=enter F ds:=Uc hl hN;cases ho:run fu (evP fu G T n) G F.body (enter F ds) with
    |next ρ' =>rw[e,ho];refine⟨Bg (k:=lv n+3) hfun hsc (λds' d' h=>by rw[h.1,hl,hps]) λcdv A outer s H E hcv hr ds' d' ⟨e1,e2⟩=>?_,hm,hfun.kp,hb,hdf⟩;subst e1 e2;refine Y9 (fu:=fu) (hts cdv A outer s H E _) (Qi t rfl rfl rfl rfl rfl (Jz _) hr hsc.nd Pa (V6 t hm hcv rfl rfl)) (gok rfl rfl rfl rfl rfl hr) (jz N ds') _ ?_;rw[ab,ho];exact λ_ _=>rfl
    |ret r =>
     rw[e,ho];cases r with
     |no=>trivial
     |lval d=>exact λy hy=>absurd (hy▸Ni y) hlast
     |mval d k=>exact λg _ _ _ hy=>absurd (hy▸Ii g) hhead
     |merr d=>exact λg _ _ _ hy=>absurd (hy▸Ii g) hhead
     |dval d ks ns=>exact λg _ _ _ hy=>absurd (hy▸j9d g) hhead2
     |hnd sp=>exact λg hy=>absurd (hy▸j92 g) hhead3
     |err y =>refine⟨j2j (k:=lv n+3) hfun hsc (λds' d' h=>by rw[h.1,hl,hps]) λcdv A outer s H E hcv hr ds' y' ⟨e1,e2⟩=>?_,hm,hfun.kp,hb⟩;subst e1 e2;refine Y9 (X:=qg (CX1 P w) P w K mg base N x (j0 st) f cdv A outer s H E) (fu:=fu) (hts cdv A outer s H E (qg (CX1 P w) P w K mg base N x (j0 st) f cdv A outer s H E).xe) (Qi t rfl rfl rfl rfl rfl (Jz _) hr hsc.nd dO (V6 t hm hcv rfl rfl)) (gok rfl rfl rfl rfl rfl hr) (jz N ds') _ ?_;rw[ab,ho];intro z hz;cases z<;>cases hz
     |val d =>
      refine⟨Bg (k:=lv n+3) hfun hsc (λds' d' h=>by rw[h.1,hl,hps]) λcdv A outer s H E hcv hr ds' d' ⟨e1,e2⟩=>?_,hm,hfun.kp,hb,hdf⟩;subst e1 e2;refine Y9 (fu:=fu) (hts cdv A outer s H E _) (Qi t rfl rfl rfl rfl rfl (Jz _) hr hsc.nd Pa (V6 t hm hcv rfl rfl)) (gok rfl rfl rfl rfl rfl hr) (jz N ds') _ ?_;rw[ab,ho];intro y hy;cases y with
      |val d=>cases hy;rfl
      |fresh l=>cases hy
     |fresh l =>
      refine⟨j5m (k:=lv n+3) hfun hsc (λds' d' h=>by rw[h.1,hl,hps]) λcdv A outer s H E hcv hr ds' d' ⟨e1,e2⟩=>?_,hm,hfun.kp,hb,hdf⟩;subst e1 e2;refine Y9 (fu:=fu) (hts cdv A outer s H E _) (Qi t rfl rfl rfl rfl rfl (Jz _) hr hsc.nd Pa (V6 t hm hcv rfl rfl)) (gok rfl rfl rfl rfl rfl hr) (jz N ds') _ ?_;rw[ab,ho];intro y hy;cases y with
      |val d=>cases hy
      |fresh l=>cases hy;rfl
    |err y ρ' =>rw[e,ho];refine⟨j2j (k:=lv n+3) hfun hsc (λds' d' h=>by rw[h.1,hl,hps]) λcdv A outer s H E hcv hr ds' y' ⟨e1,e2⟩=>?_,hm,hfun.kp,hb⟩;subst e1 e2;refine Y9 (X:=qg (CX1 P w) P w K mg base N x (j0 st) f cdv A outer s H E) (fu:=fu) (hts cdv A outer s H E (qg (CX1 P w) P w K mg base N x (j0 st) f cdv A outer s H E).xe) (Qi t rfl rfl rfl rfl rfl (Jz _) hr hsc.nd dO (V6 t hm hcv rfl rfl)) (gok rfl rfl rfl rfl rfl hr) (jz N ds') _ ?_;rw[ab,ho];exact λ_ _=>rfl
    |brk _=>rw[e,ho];trivial
    |cnt _=>rw[e,ho];trivial
    |no=>rw[e,ho];trivial
   .have e:evP fu G T (n+1) x ds=.no:=by simp only[evP,hF,if_neg hl]
    rw[e];trivial
end
noncomputable def Gof(gs:List (ao×D))(q:Bool)(xs:List (ao×List D))(fs:List ao)(x:ao):Option D :=
 if Zq x=ag then(if x = "?" then(if q=ag then aa (.bl ag)else ah) else((xs.find? λp=>bang p.1==x).map λp=>.lst p.2).or (if (fs.any λf=>qm f==x)=ag then aa .non else ah))else gs.lookup x
theorem j67{x y:ao}(h:bang x=bang y):x=y:=by unfold bang at h;have h:(⟨("!":ao).cps++x.cps⟩:ao)=⟨("!":ao).cps++y.cps⟩:=h;have h:=congrArg fV h;have e:x.cps=y.cps:=T3 h rfl;cases x;cases y;cases e;rfl
theorem Kg(x:ao):Zq (bang x)=ag:=by unfold Zq;rw[W5];rfl
theorem j39(x:ao):Zq (qm x)=ag:=by unfold Zq;rw[Kz];rfl
theorem Li{gs:List (ao×D)}{q:Bool}{xs:List (ao×List D)}{fs:List ao}{x:ao}{d:D}(h:Gof gs q xs fs (bang x)=aa d):∃p∈xs,p.1=x/\d=.lst p.2:=by
 unfold Gof at h;rw[if_pos (Kg x),if_neg (j9l x)]at h;have hn:(fs.any λf=>qm f==bang x)=ae:=by rw[eZ];intro f _ e;exact Ed x f (beq_iff_eq.mp e).symm
 rw[hn,if_neg (by decide),Option.or_none]at h;obtain⟨p,hp,rfl⟩:=Ph.mp h;have z:=fw (p:=λp:ao×List D=>bang p.1==bang x) hp;exact⟨p,cL hp,j67 (beq_iff_eq.mp z),rfl⟩
theorem Lh{gs:List (ao×D)}{q:Bool}{xs:List (ao×List D)}{fs:List ao}{x:ao}{d:D}(h:Gof gs q xs fs (qm x)=aa d):x∈fs:=by
 unfold Gof at h;rw[if_pos (j39 x),if_neg (jef x)]at h;have hn:(xs.find? λp=>bang p.1==qm x)=ah:=by rw[eE];intro p _ e;exact Ed p.1 x (beq_iff_eq.mp e)
 rw[hn,Option.map_none,Option.none_or]at h;split at h
 .rename_i z;obtain⟨f,hf,e⟩:=List.any_eq_true.mp z;exact jax (beq_iff_eq.mp e)▸hf
 .cases h
theorem jdw{P:av}{w:aA}{K:k5g}{mg:k5j}{base:aI}{gs:List (ao×D)}{q:Bool}{xs:List (ao×List D)}{fs:List ao}(bt:∀x∈Zr,mg x=ah)
  (gl:∀x d,gs.lookup x=aa d->∃u v,mg x=aa u/\RelV v u/\∀H,Enc K H d v) (ea:Wc K=ag) (hx:∀p∈xs,p.1∈vf/\∃o,W.nsIn K ax p.1=aa (aa o))
  (el:q=ag->∀c∈vf,∃v,W.nsIn K ax c=aa (aa v)) (kin:K.In base) (ns:base.Ns ax mg) (fn:∀f∈fs,∃fa,mg f=aa (.ref fa)/\W.keepIn K (.ref fa)=ag) (kd:∀p∈xs,KindsP P w K mg base "_law_kinds" p.1 p.2) (lm:∀x∈Zv,∀f cdv,mg x=aa (.ref f)->Vm K f cdv->∃c Pt,cdv=.ref c/\W.codeHdIn K c Pt=ag/\W.tabIn K x=aa (c,Pt)) (pl:("_law_plan":ao)∈fs->j3c P w K mg base:=by exact λh=>absurd h (by decide)) (pc:("Pieces":ao)∈fs->∃C,mg "Pieces" = aa (.ref C)/\j0v P w K mg base C:=by exact λh=>absurd h (by decide)):Tb P w K mg base (Gof gs q xs fs):=by
 refine⟨bt,λx d hb h=>?_,ea,λx d h=>?_,λh=>el ?_,kin,ns,λx l h=>?_,λf d h=>fn f (Lh h),λd h=>pl (Lh h),λd h=>pc (Lh h),lm⟩
 .unfold Gof at h;rw[if_neg (by rw[hb];decide)]at h;exact gl x d h
 .obtain⟨p,hp,rfl,_⟩:=Li h;exact hx p hp
 .unfold Gof at h;rw[if_pos (by decide),if_pos rfl]at h;split at h
  .rename_i z;exact z
  .cases h
 .obtain⟨p,hp,rfl,e⟩:=Li h;cases e;exact kd p hp
def Fo(K:k5g):Sp:=λvs H Q _=>∃(a:ai)(ns:List Int),vs=[.ref a]/\TabOk K H/\SqL K H a (ns.map V.int)/\ns.length<=63/\∀H':Hp,jb H H'->Q (.bl ag) H'
theorem Ka{K:k5g}{H:Hp}{a:ai}{ns:List Int}(h:SqL K H a (ns.map V.int)):jd K H [.lst (ns.map D.int)] [.ref a] :=
 ⟨_,[],rfl,⟨a,_,rfl,h,jd.ints ns⟩,rfl⟩
theorem jbp{P:av}{w:aA}{K:k5g}{mg:k5j}{base:aI}{fu:Nat}{G:ao->Option D}{T:ao->Option Fi}{n:Nat}{x p:ao}{fa:ai}{st:aG}{F:Fi}
  (hT:∀x F,T x=aa F->LkF P w K mg base x F) (t:Tb P w K mg base G)
  (hx:T x=aa F) (hlam:F.lam=ae) (hm:mg x=aa (.ref fa)) {fd:aD} (hfun:Fun K x x st fa fd) (N:List ao) (hsc:FnScope N [p] (j0 st)) (h1:F.n=1) (hN:N.length=F.nn)
  (hts:∀(cdv:aj)(A:aE)(outer:List cf)(s:aq)(H:Hp)(E:XK)(xe:k5h),Ts ((qg CX0 P w K mg base N x (j0 st) fa cdv A outer s H E).wish xe) F.body (.ss (jh st)))
  (hlaw:∀ns:List Int,ns.length<=63->evP fu G T (n+1) x [.lst (ns.map D.int)]=.val (.bl ag)):FnOk P w K mg base CX0 (lv (n+1)) fa fd [p] (Fo K):=by
 have S:FnOk P w K mg base CX0 (lv (n+1)) fa fd [p] (spP K λds d=>∃ns:List Int,ns.length<=63/\ds=[.lst (ns.map D.int)]/\d=.bl ag):=by
  refine Bg (k:=lv n+3) hfun hsc (λds d ⟨ns,_,h,_⟩=>by rw[h];rfl) λcdv A outer s H E hcv hr ds d ⟨ns,hns,e1,e2⟩=>?_;subst e1 e2;have e:=hlaw ns hns;simp only[evP,hx,h1,hlam,pq,if_false,xg,T6,if_true]at e;have ab:jf (jz N [D.lst (ns.map D.int)])=enter F [D.lst (ns.map D.int)]:=Uc (by rw[h1];rfl) hN;have g:Gok (qg CX0 P w K mg base N x (j0 st) fa cdv A outer s H E).nox (evP fu G T n):=λg ds'=>by
   obtain⟨f',fd',ps',q⟩:=Ml (fu:=fu) hT t n g ds';cases z:evP fu G T n g ds' with
   |val d=>rw[z]at q;exact⟨lv n,f',fd',ps',q.1,hr,q.2.1,q.2.2.1,q.2.2.2⟩
   |fresh l=>rw[z]at q;exact⟨lv n,f',fd',ps',q.1,hr,q.2.1,q.2.2.1,q.2.2.2⟩
   |err y=>rw[z]at q;exact⟨lv n,f',fd',ps',q.1,hr.mono (by omega),q.2.1,q.2.2.1,q.2.2.2⟩
   |lval d=>rw[z]at q;exact λy hy=>⟨lv n,hr.mono (by omega),q y hy⟩
   |mval d k=>rw[z]at q;exact λg' ls k ds'' h1 h2 C h3=>let ⟨a,b⟩:=q g' ls k ds'' h1 h2 C h3;⟨⟨lv n,f',fd',ps',a,hr.mono (by omega),b⟩⟩
   |merr y=>rw[z]at q;exact λg' ls k ds'' h1 h2 C h3=>let ⟨a,b⟩:=q g' ls k ds'' h1 h2 C h3;⟨⟨lv n,f',fd',ps',a,hr.mono (by omega),b⟩⟩
   |dval d ks ns=>rw[z]at q;exact λg' ks ns ds'' h1 h2=>let ⟨a,b⟩:=q g' ks ns ds'' h1 h2;⟨⟨lv n,f',fd',ps',a,hr,b⟩⟩
   |hnd sp=>rw[z]at q;exact λg' h1=>let ⟨a,b⟩:=q g' h1;⟨⟨lv n,f',fd',ps',a,hr,b⟩⟩
   |no=>trivial
  refine Y9 (fu:=fu) (hts cdv A outer s H E _) (Qi t rfl rfl rfl rfl rfl (Jz _) hr hsc.nd Pa (V6 t hm hcv rfl rfl)) g (jz N _) _ ?_;rw[ab];cases ho:run fu (evP fu G T n) G F.body (enter F [D.lst (ns.map D.int)]) with
  |ret r =>
   rw[ho]at e;have e:r=.val (.bl ag):=e;subst e;intro y hy;cases y with
   |val d=>cases hy;rfl
   |fresh l=>cases hy
  |next ρ'=>rw[ho]at e;cases e
  |brk _=>rw[ho]at e;cases e
  |cnt _=>rw[ho]at e;cases e
  |err _ _=>rw[ho]at e;cases e
  |no=>rw[ho]at e;cases e
 refine S.imp λvs H Q E ⟨a,ns,hv,tb,hS,hl,k⟩=>?_;subst hv;exact⟨[],_,_,tb,(λa h=>nomatch h),by rw[zr];exact Ka hS,⟨ns,hl,rfl,rfl⟩,λv H' g e=>by cases(show v=.bl ag from e);exact k H' g⟩
noncomputable def Fj(K:k5g):List (ai×ao):=Zv.filterMap λx=>(W.tabIn K x).map λq=>(q.2,zc x)
noncomputable def tOk(K:k5g)(ts:List ai):Bool:=(Zv.all λx=>match W.nsIn K ax x with
  |some ah=>ag
  |_=>match W.tabIn K x with
   |some (c,P)=>W.codeHdIn K c P&&ts.contains P
   |none=>ae)&&W.noTabs K&&decide ((Fj K).map (·.1)).Nodup
theorem j7l{K:k5g}{ts:List ai}{h:aI}(hk:tOk K ts=ag)(X:K.In h)(ht:∀P∈ts,h.get? P=aa (W.tabObj #[])):j6b (Fj K) h:=by
 unfold tOk at hk;rw[Xb,Xb]at hk;refine⟨of_decide_eq_true hk.2,λt hm=>?_⟩;obtain⟨x,hx,e⟩:=Pn.mp hm;obtain⟨⟨c,P⟩,e1,e2⟩:=Ph.mp e;subst e2;have z:=Xk.mp hk.1.1 x hx;split at z
 .rename_i y;exfalso;unfold W.tabIn at e1;rw[y]at e1;cases e1
 .rw[e1]at z;have z:(W.codeHdIn K c P&&ts.contains P)=ag:=z;rw[Xb]at z;exact⟨⟨c,W.codeHd_of_K X z.1⟩,ht P (by simpa using z.2)⟩
theorem jer{K:k5g}{ts:List ai}{h:aI}{mg:k5j}(hk:tOk K ts=ag)(X:K.In h)(Gn:h.Ns ax mg):∀x∈Zv,∀f cdv,mg x=aa (.ref f)->Vm K f cdv->∃c Pt,cdv=.ref c/\W.codeHdIn K c Pt=ag/\W.tabIn K x=aa (c,Pt):=λx hx f cdv hm hcv=>by
 unfold tOk at hk;rw[Xb,Xb]at hk;have z:=Xk.mp hk.1.1 x hx;split at z
 .rename_i y;rw[W.mg_none_of X Gn y]at hm;cases hm
 .split at z
  .rename_i c P e;rw[Xb]at z;refine⟨c,P,?_,z.1,e⟩;obtain⟨oc,od,fd,sl,e3,e4⟩:=hcv;unfold W.tabIn at e;split at e
   .rename_i f' hf;have e5:=W.mg_of X Gn hf;rw[hm]at e5;cases e5;rw[e3]at e;dsimp only at e;split at e
    .rename_i c' hc;split at e
     .split at e
      .cases e;rw[<-e4];exact hc
      .cases e
     .cases e
    .cases e
   .cases e
  .cases z
theorem ja3{K:k5g}{H:Hp}(hO:Only (Fj K) H):TabOk K H:=λx hx c P e=>hO.2 (P,zc x) (Pn.mpr ⟨x,hx,by rw[e];rfl⟩)
theorem j1z{K:k5g}{ts:List ai}(hk:tOk K ts=ag):W.noTabs K=ag:=by unfold tOk at hk;rw[Xb,Xb]at hk;exact hk.1.2
theorem walkL{l:cQ}{q:av}{loose:List ao}{XP:(ao->Option aj)->aI->Prop}{YP:aA->aI->Prop}{d:DefRec}{K:lE->k5g}{k:Nat}{x:ao}{ts:List ai}(hk:k<=200)(hn:l.most=aa 63)(hdf:d.params.defaults=[])
  (hY:∀(w:aA)(h:aI),YP w h->(K w.params).In h/\∀P∈ts,h.get? P=aa (W.tabObj #[])) (hK:∀w:aA,tOk (K w.params) ts=ag)
  (F:∀(w:aA)(mg:k5j)(fa:ai)(h:aI),(K w.params).In h->h.Ns ax mg->mg d.name=aa (.ref fa)->tOk (K w.params) ts=ag ->
   ∃fd:aD,(∀(s:aq)(u:aj),fU s fd ⟨[u],[]⟩ [(x,u)])/\∀base:aI,(K w.params).In base->base.Ns ax mg->FnOk l.prog w (K w.params) mg base CX0 k fa fd [x] (Fo (K w.params))) :
  hJ q loose XP YP l.row.toRowW d [] (λf vs=>ig f vs) :=
 L2.walk_of (n:=63) (k:=k) (x:=x) (CX:=λ_=>CX0) (sp:=λw=>Fo (K w.params)) (ts:=λw=>Fj (K w.params)) hn (by decide) hdf
  (Room.mono (k:=200) ⟨rfl,by decide,by decide,rfl⟩ hk) (λw h Y=>⟨(hY w h Y).1,j7l (hK w) (hY w h Y).1 (hY w h Y).2⟩) (λw=>j1z (hK w)) (λw mg fa h X G m=>F w mg fa h X G m (hK w)) (λw H a ns hl hO hS=>⟨a,ns,rfl,ja3 hO,hS,hl,λH' g=>⟨rfl,g⟩⟩) λ_ _ _ _ _ z=>z
def Lf(K:k5g)(x:ao)(st:aG):Prop:=∃(f:ai)(oc:aj)(od:Option ai)(kV dc pm:aj)(an:Option ai)(cd ct:aj)(sl:Array (Option aj)),W.nsIn K ax x=aa (aa (.ref f)) /\
 K.lookup f=aa ⟨oc,od,.func (W.fnOf x x (jy st) (jh st) (j0 st) .none kV dc pm an cd ct),sl⟩/\W.codeIn K cd x=ag/\W.keepIn K (.ref f)=ag
def TrT(P:av)(w:aA)(K:k5g)(mg:k5j)(base:aI)(x:ao)(N:List ao)(st:aG)(b:Sx):Prop :=
 ∀(f:ai)(cdv:aj)(A:aE)(outer:List cf)(s:aq)(H:Hp)(E:XK) (xe:k5h),Ts ((qg CX0 P w K mg base N x (j0 st) f cdv A outer s H E).wish xe) b (.ss (jh st))
noncomputable def bOk(K:k5g):Bool:=Zr.all λx=>match W.nsIn K ax x with
 |some ah=>ag
 |_=>ae
section
variable{P:av}{w:aA}{K:k5g}{mg:k5j}{base h:aI}{x:ao}{st:aG}{N ps:List ao}{F:Fi}
theorem j0p(X:K.In h)(Gn:h.Ns ax mg)(hb:bOk K=ag):∀x∈Zr,mg x=ah:=λx hx=>by
 have z:=Xk.mp hb x hx;split at z
 .rename_i e;exact W.mg_none_of X Gn e
 .cases z
theorem Jk(L:Lf K x st)(X:K.In h)(Gn:h.Ns ax mg)(t:TrT P w K mg base x N st F.body)(ps:List ao)(sc:FnScope N ps (j0 st))(h1:ps.length=F.n)(h2:N.length=F.nn)
  (hb:∀(kV doc pm:aj)(an:Option ai)(cdv ct:aj)(us:List aj),us.length=ps.length->bB (W.fnOf x x (jy st) (jh st) (j0 st) .none kV doc pm an cdv ct) ⟨us,[]⟩=pure (ps.zip us)) (hd:x∉jcz):Lk P w K mg base x F:=by
 obtain⟨f,oc,od,kV,dc,pm,an,cd,ct,sl,a,l,c,k⟩:=L;exact⟨st,f,_,N,ps,Qh l c k,sc,h1,h2,(Qh l c k).binds hb,λz=>absurd z hd,W.mg_of X Gn a,t f⟩
theorem lkF(L:Lk P w K mg base x F)(h:F.lam=ae)(hn:x.cps.toList.getLast?≠aa 62)(hh:x.cps.toList.head?≠aa 64)(hh2:x.cps.toList.head?≠aa 35:=by decide)(hh3:x.cps.toList.head?≠aa 38:=by decide):LkF P w K mg base x F:=⟨λ_=>.inl ⟨L,hn,hh,hh2,hh3⟩,λz=>by rw[h]at z;cases z⟩
theorem us1{us:List aj}(h:us.length=1):∃a,us=[a]:=by match us,h with|[a],_=>exact⟨a,rfl⟩
theorem us2{us:List aj}(h:us.length=2):∃a b,us=[a,b]:=by match us,h with|[a,b],_=>exact⟨a,b,rfl⟩
theorem us3{us:List aj}(h:us.length=3):∃a b c,us=[a,b,c]:=by match us,h with|[a,b,c],_=>exact⟨a,b,c,rfl⟩
end
theorem lf_mk{K:k5g}{x:ao}{st:aG}{f:ai}{oc:aj}{od:Option ai}{kV dc pm:aj}{an:Option ai}{cd ct:aj}{sl:Array (Option aj)}(a:W.nsIn K ax x=aa (aa (.ref f)))
  (l:K.lookup f=aa ⟨oc,od,.func (W.fnOf x x (jy st) (jh st) (j0 st) .none kV dc pm an cd ct),sl⟩) (c:W.codeIn K cd x=ag) (k:W.keepIn K (.ref f)=ag):Lf K x st:=⟨f,oc,od,kV,dc,pm,an,cd,ct,sl,a,l,c,k⟩
def Lm(K:k5g)(C f:ai)(x q:ao)(st:aG):Prop:=∃(oc:aj)(od:Option ai)(kV dc pm:aj)(an:Option ai)(cd ct:aj)(sl:Array (Option aj)),W.findIn K (.ref C) x=aa (aa (.ref f))/\W.isFn K (.ref f)=ag /\
 K.lookup f=aa ⟨oc,od,.func (W.fnOf x q (jy st) (jh st) (j0 st) .none kV dc pm an cd ct),sl⟩/\W.codeIn K cd q=ag/\W.keepIn K (.ref f)=ag
theorem lm_mk{K:k5g}{C f:ai}{x q:ao}{st:aG}{oc:aj}{od:Option ai}{kV dc pm:aj}{an:Option ai}{cd ct:aj}{sl:Array (Option aj)}(a:W.findIn K (.ref C) x=aa (aa (.ref f)))(i:W.isFn K (.ref f)=ag)
  (l:K.lookup f=aa ⟨oc,od,.func (W.fnOf x q (jy st) (jh st) (j0 st) .none kV dc pm an cd ct),sl⟩) (c:W.codeIn K cd q=ag) (k:W.keepIn K (.ref f)=ag):∃f,Lm K C f x q st:=⟨f,oc,od,kV,dc,pm,an,cd,ct,sl,a,i,l,c,k⟩
end L2
end
section
namespace L2
open PySem (Str sizeLine argBest)
theorem Jw{n:Nat}(h:n<=1000000):n<=au:=Xf h (by decide)
theorem lt_size{n:Nat}(h:n<=1000000):n<au:=cI h (by decide)
noncomputable def Oo(o:So)(f:En->So):So:=match o with
 |.next ρ=>f ρ
 |o=>o
noncomputable def ifS(c:Option Bool)(f g:En->So)(ρ:En):So:=match c with
 |some ag=>f ρ
 |some ae=>g ρ
 |none=>.no
noncomputable def Oc(is:List Nat)(f:En->So)(d:D)(ρ:En):So:=match zx is d ρ with
 |some ρ2=>f ρ2
 |none=>.no
noncomputable def j6u(is:List Nat)(w:Option W)(f:En->So)(ρ:En):So:=match w with
 |some (.i ds)=>Jb (Oc is f) ds ρ
 |_=>.no
section
variable{fu:Nat}{Γ:ao->List D->Rc}{G:ao->Option D}{ρ:En}{i j:Nat}{e c k:Ex}{a b:Sx}{is:List Nat}
theorem j7v:run fu Γ G .nop ρ=.next ρ:=(rfl)
theorem Ou:run fu Γ G (.seq a b) ρ=Oo (run fu Γ G a ρ) (run fu Γ G b):=(rfl)
theorem j7t:run fu Γ G (.set i e) ρ=orE (Yp i (ev Γ G e ρ) ρ) (er Γ G e ρ) ρ:=(rfl)
theorem j43:run fu Γ G (.expr e) ρ=orE (Ln (ev Γ G e ρ) ρ) (er Γ G e ρ) ρ:=(rfl)
theorem j7u:run fu Γ G (.ret e) ρ=orE (retS (ev Γ G e ρ)) (er Γ G e ρ) ρ:=(rfl)
theorem j4e{ρ':En}{x:Option ao}:orE (.next ρ') x ρ=.next ρ':=(rfl)
theorem Ig{r:Rc}{x:Option ao}:orE (.ret r) x ρ=.ret r:=(rfl)
theorem j3z:run fu Γ G (.retV i) ρ=Mi ρ[i]?:=(rfl)
theorem j7w:run fu Γ G (.ife c a b) ρ=ifS (truth (ev Γ G c ρ)) (run fu Γ G a) (run fu Γ G b) ρ:=(rfl)
theorem j41:run fu Γ G (.loop is e a) ρ=j6u is (ev Γ G e (frz e ρ)) (run fu Γ G a) (frz e ρ):=(rfl)
theorem j7r:run fu Γ G (.whl c a) ρ=Q0 (λρ=>truth (ev Γ G c ρ)) (run fu Γ G a) fu ρ:=(rfl)
theorem j7x:run fu Γ G (.app i e) ρ=Bm i ρ[i]? (ev Γ G e ρ) ρ:=(rfl)
theorem j7s:run fu Γ G (.unp i j e) ρ=Oi i j (stOf (ev Γ G e ρ)) ρ:=(rfl)
theorem j9w{d d':D}(h:i≠j):Oi i j (aa (.tup [d,d'])) ρ=.next ((ρ.set i (.val d)).set j (.val d')):=by unfold Oi;dsimp only;rw[if_neg h]
theorem ja9{d:D}:stOf (aa (.v (.e d)))=aa d:=(rfl)
theorem j42:run fu Γ G (.keep i) ρ=Mt i ρ[i]? ρ:=(rfl)
theorem j2a{l:List D}:Mt i (aa (.own l)) ρ=.next (ρ.set i (.val (.lst l))):=(rfl)
end
section
variable{f g:En->So}{ρ:En}{i j:Nat}{d:D}{l m:List D}{r:Rc}{x:Rk}
theorem j1c:Oo (.next ρ) f=f ρ:=(rfl)
theorem Dr:Oo (.ret r) f=.ret r:=(rfl)
theorem jf6:ifS (aa ag) f g ρ=f ρ:=(rfl)
theorem jf7:ifS (aa ae) f g ρ=g ρ:=(rfl)
theorem jai:Yp i (aa (.v (.o l))) ρ=.next (ρ.set i (.own l)):=(rfl)
theorem jaj:Yp i (aa (.v (.e d))) ρ=.next (ρ.set i (.val d)):=(rfl)
theorem jah(h:Jy d=ag):Yp i (aa (.v (.t d))) ρ=.next (ρ.set i (.val d)):=by simp[Yp,Rk.st,h]
theorem jas:retS (aa (.v (.o l)))=.ret (.fresh l):=(rfl)
theorem j1g:retS (aa (.v (.e d)))=.ret (.val d):=(rfl)
theorem j7z:Mi (aa (.val d))=.ret (.val d):=(rfl)
theorem jcg:Ln (aa (.v x)) ρ=.next ρ:=(rfl)
theorem Ec:Oc [i] f d ρ=f (ρ.set i (.val d)):=(rfl)
theorem j8j{is:List Nat}{ds:List D}:j6u is (aa (.i ds)) f ρ=Jb (Oc is f) ds ρ:=(rfl)
theorem jdd(h:l.length<=1000000):Bm i (aa (.own l)) (aa (.v (.e d))) ρ=.next (ρ.set i (.own (l++[d]))):=by simp[Bm,Rk.st,lt_size h]
theorem Iu:fin (.ret r)=r:=(rfl)
theorem j5n:fin (.next ρ)=.val .non:=(rfl)
theorem qx{fu:Nat}{G:ao->Option D}{T:ao->Option Fi}{n:Nat}{f:ao}{ds:List D}{F:Fi}(h:T f=aa F)(hl:ds.length=F.n)(hla:F.lam=ae:=by rfl):evP fu G T (n+1) f ds=fin (run fu (evP fu G T n) G F.body (enter F ds)):=by simp only[evP,h,if_pos hl,hla,pq,if_false]
end
theorem Nb{f:D->En->So}(W:Nat->En->Prop):∀{ds:List D}{ρ:En}{k:Nat},W k ρ->(∀i d ρ,ds[i]?=aa d->W (k+i) ρ->∃ρ',f d ρ=.next ρ'/\W (k+i+1) ρ')->∃ρ',Jb f ds ρ=.next ρ'/\W (k+ds.length) ρ'
 |[],ρ,k,h0,_=>⟨ρ,rfl,h0⟩
 |d::ds,ρ,k,h0,hs=>by
  obtain⟨ρ1,e1,w1⟩:=hs 0 d ρ rfl h0;obtain⟨ρ2,e2,w2⟩:=Nb (f:=f) W (ds:=ds) (k:=k+1) w1 λi d' ρ' hi w=>by have:=hs (i+1) d' ρ' (by simpa using hi) (by rw[show k+(i+1)=k+1+i by omega];exact w);rw[show k+(i+1)+1=k+1+i+1 by omega]at this;exact this
  refine⟨ρ2,?_,by rw[xg,show k+(ds.length+1)=k+1+ds.length by omega];exact w2⟩;rw[Jb,e1];exact e2
theorem j3u{f:D->En->So}{ds:List D}{ρ:En}{g:En->So}{r:Rc}(W:Nat->En->Prop)(h0:W 0 ρ)(hs:∀i d ρ,ds[i]?=aa d->W i ρ->∃ρ',f d ρ=.next ρ'/\W (i+1) ρ')(hk:∀ρ',W ds.length ρ'->fin (g ρ')=r) :
  fin (Oo (Jb f ds ρ) g)=r:=by
 obtain⟨ρ',e,w⟩:=Nb (f:=f) W (k:=0) (ds:=ds) (ρ:=ρ) h0 λi d ρ hi w=>by rw[gD]at w ⊢;exact hs i d ρ hi w
 rw[e];rw[gD]at w;exact hk ρ' w
theorem j22{f:D->En->So}{ρ:En}:Jb f [] ρ=.next ρ:=(rfl)
theorem Mr{f:D->En->So}{d:D}{ds:List D}{ρ ρ':En}(h:f d ρ=.next ρ'):Jb f (d::ds) ρ=Jb f ds ρ':=by rw[Jb,h]
noncomputable def j71(d:Option D):Option W:=d.map λd=>.v (.e d)
noncomputable def j5b(i:Option Int):Option W:=i.map λk=>.v (.e (.int k))
noncomputable def jc7(a:Option W):Option W:=match a with
 |some (.v x)=>aa (.v (.e (.bl x.d.isNon)))
 |_=>ah
noncomputable def j6a(k:Option Bool)(f:En->Option W)(ρ:En):Option W:=match k with
 |some ae=>aa (.v (.e (.bl ae)))
 |some ag=>blW (truth (f ρ))
 |none=>ah
noncomputable def orW(k:Option Bool)(f:En->Option W)(ρ:En):Option W:=match k with
 |some ag=>aa (.v (.e (.bl ag)))
 |some ae=>blW (truth (f ρ))
 |none=>ah
noncomputable def jbi(k:Option Bool):Option W:=k.map λk=>.v (.e (.bl (!k)))
noncomputable def stW(a:Option W):Option W:=match a with
 |some (.v x)=>x.st.map λd=>.v (.e d)
 |_=>ah
noncomputable def j51(k:Option Bool)(f g:En->Option W)(ρ:En):Option W:=match k with
 |some ag=>stW (f ρ)
 |some ae=>stW (g ρ)
 |none=>ah
noncomputable def slW(a:Option W)(l h:Option (Option Int)):Option W:=match a,l,h with
 |some (.v x),aa l,aa h=>match x.sq with
  |some (ag,ds)=>aa (.v (.o (cutD ds l h)))
  |some (ae,ds)=>if HT.sIx ds.length 0 l=0/\HT.sIx ds.length ds.length h=ds.length then ah else aa (.v (.e (.tup (cutD ds l h))))
  |none=>match x.d with
   |.str z=>if jt z.length=ag then aa (.v (.e (.str (bJ z l h))))else ah
   |_=>ah
 |_,_,_=>ah
noncomputable def Yk(is:List Nat)(c e:En->Option W)(ρ:En)(d:D):Option (Option D):=match zx is d ρ with
 |none=>ah
 |some ρ2=>match c ρ2 with
  |some (.a [])=>match e ρ2 with
   |some (.v x)=>x.st.map aa
   |_=>ah
  |some (.a [y])=>match y.d with
   |.bl ag=>match e ρ2 with
    |some (.v x)=>x.st.map aa
    |_=>ah
   |.bl ae=>aa ah
   |_=>ah
  |_=>ah
noncomputable def j0m(is:List Nat)(w:Option W)(c e:En->Option W)(z:Bool)(ρ:En):Option W:=match w with
 |some (.i ds)=>if O4 is ρ=ag/\jt ds.length=ag then(Jq (Yk is c e ρ) ds).bind λl=>if (z && !qu l)=ag then ah else aa (.v (.o l))else ah
 |_=>ah
section
variable{Γ:ao->List D->Rc}{G:ao->Option D}{ρ:En}{a b c e:Ex}{op:Bop}{cp:Cop}{x f:ao}{i:Nat}{d:D}
theorem jcp:ev Γ G (.lit d) ρ=aa (.v (.e d)):=(rfl)
theorem jch:ev Γ G (.var i) ρ=Oh ρ[i]?:=(rfl)
theorem j98:ev Γ G (.glob x) ρ=j71 (G x):=(rfl)
theorem jcv:ev Γ G (.bin op a b) ρ=Z2 op (ev Γ G a ρ) (ev Γ G b ρ):=(rfl)
theorem jct:ev Γ G (.cmp cp a b) ρ=Bk cp (ev Γ G a ρ) (ev Γ G b ρ):=(rfl)
theorem jcs:ev Γ G (.isN a) ρ=jc7 (ev Γ G a ρ):=(rfl)
theorem jcw:ev Γ G (.and a b) ρ=j6a (truth (ev Γ G a ρ)) (ev Γ G b) ρ:=(rfl)
theorem jfg:ev Γ G (.or a b) ρ=orW (truth (ev Γ G a ρ)) (ev Γ G b) ρ:=(rfl)
theorem jcm:ev Γ G (.not a) ρ=jbi (truth (ev Γ G a ρ)):=(rfl)
theorem jcq:ev Γ G (.ite c a b) ρ=j51 (truth (ev Γ G c ρ)) (ev Γ G a) (ev Γ G b) ρ:=(rfl)
theorem jcn:ev Γ G .nil ρ=aa (.a []):=(rfl)
theorem j99:ev Γ G (.cons a b) ρ=consW (ev Γ G a ρ) (ev Γ G b ρ):=(rfl)
theorem jci:ev Γ G (.tup a) ρ=Yl (ev Γ G a ρ):=(rfl)
theorem jco:ev Γ G (.lst a) ρ=Yx (ev Γ G a ρ):=(rfl)
theorem jfh:ev Γ G (.ix a b) ρ=ixW (ev Γ G a ρ) (ev Γ G b ρ):=(rfl)
theorem jff:ev Γ G (.sl a b c) ρ=slW (ev Γ G a ρ) (Q6 (ev Γ G b ρ)) (Q6 (ev Γ G c ρ)):=(rfl)
theorem j97{sep:ao}:ev Γ G (.join sep a) ρ=Wb sep (ev Γ G a ρ):=(rfl)
theorem jcj:ev Γ G (.tix a b) ρ=Uk (ev Γ G a ρ) (ev Γ G b ρ):=(rfl)
theorem j5w{y z:ao}:Jr .isin (.str y) (.str z)=aa (inS y z):=(rfl)
theorem jak{y:ao}(h:ascii y=ag):Ul (aa (.v (.e (.str y))))=aa (.i (chs y)):=if_pos h
theorem Ov{g:Nat->(ao->List D->Rc)->(ao->Option D)->En->So}{fu:Nat}:run fu Γ G (.prm g) ρ=g fu Γ G ρ:=(rfl)
theorem j9b:ev Γ G (.call f a) ρ=Qa Γ f (ev Γ G a ρ):=(rfl)
theorem jcu{f:Bf}:ev Γ G (.blt f a) ρ=Jl f (ev Γ G a ρ):=(rfl)
theorem jcr{ts:List String}:ev Γ G (.isi a ts) ρ=Bd (ev Γ G a ρ) ts:=(rfl)
theorem j9a{is:List Nat}:ev Γ G (.comp is e a c) ρ=j0m is (ev Γ G a (frz a ρ)) (ev Γ G c) (ev Γ G e) (Jd a ρ) (frz a ρ):=(rfl)
theorem jcl:ev Γ G (.seq a) ρ=Ul (ev Γ G a ρ):=(rfl)
theorem j5p:ev Γ G (.range a) ρ=Uo (ev Γ G a ρ):=(rfl)
end
section
variable{x y:Rk}{d:D}{i j k:Int}{l m:List D}{b:Bool}{f g:En->Option W}{ρ:En}{xs:List Rk}{op:Bop}{cp:Cop}
theorem j9t:Oh (aa (.val d))=aa (.v (.e d)):=(rfl)
theorem j9u:Oh (aa (.own l))=aa (.v (.w l)):=(rfl)
theorem j93:j71 (aa d)=aa (.v (.e d)):=(rfl)
theorem jc8:j5b (aa i)=aa (.v (.e (.int i))):=(rfl)
theorem jfk:blW (aa b)=aa (.v (.e (.bl b))):=(rfl)
theorem jdb:Z2 op (aa (.v (.e (.int i)))) (aa (.v (.e (.int j))))=j5b (binI op i j):=by simp only[Z2,Ua,Rk.d,j5b,rkW];cases binI op i j<;>rfl
theorem j66:binI .add i j=aa (i+j):=(rfl)
theorem j62:binI .sub i j=aa (i-j):=(rfl)
theorem j64(h:(-18446744073709551616<i/\i<18446744073709551616)\/(-18446744073709551616<j/\j<18446744073709551616)):binI .mul i j=aa (i*j):=if_pos h
theorem j38(h:0<j/\j<18446744073709551616):binI .fdiv i j=aa (i/j):=if_pos h
theorem j65(h:0<j):binI .mod i j=aa (i%j):=if_pos h
theorem j63(h:0<=j/\j<=1000000/\i.natAbs<18446744073709551616):binI .shl i j=aa (i*2^j.toNat):=if_pos h
theorem jda(h:l.length+m.length<=1000000):Z2 .add (aa (.v (.o l))) (aa (.v (.o m)))=aa (.v (.o (l++m))):=by simp[Z2,Ua,Rk.d,Rk.sq,jt,Jw h,rkW]
theorem jd8(h:l.length+m.length<=1000000):Z2 .add (aa (.v (.w l))) (aa (.v (.o m)))=aa (.v (.o (l++m))):=by simp[Z2,Ua,Rk.d,Rk.sq,jt,Jw h,rkW]
theorem jat(h:1<=k/\k<=1000000):Z2 .mul (aa (.v (.e (.tup [d])))) (aa (.v (.e (.int k))))=aa (.v (.e (.tup (ay k.toNat d)))):=by simp only[Z2,Ua,Rk.d,Rk.sq];rw[if_pos ⟨h.1,by omega,rfl,decide_eq_true (Jw (by simp only[xg,T6];omega))⟩];simp only[rkW,Option.map,List.flatten_replicate_singleton]
theorem jd2:Bk cp (aa (.v x)) (aa (.v y))=blW (Jr cp x.d y.d):=(rfl)
theorem d_e:(Rk.e d).d=d:=(rfl)
theorem d_o:(Rk.o l).d=.lst l:=(rfl)
theorem d_w:(Rk.w l).d=.lst l:=(rfl)
theorem jd3:Jr cp (.int i) (.int j)=cmpI cp i j:=by cases cp<;>rfl
theorem j5v{a b:Bool}:Jr .ne (.bl a) (.bl b)=aa (a != b):=(rfl)
theorem j5u{a b:ao}:Jr .ne (.str a) (.str b)=aa (!decide (a=b)):=(rfl)
theorem j5y{a b:Bool}:Jr .eq (.bl a) (.bl b)=aa (a==b):=(rfl)
theorem Lx(h:(D.lst l).dep<=90)(h2:(D.lst m).dep<=90):Jr .eq (.lst l) (.lst m)=aa (vd l m):=by simp[Jr,h,h2,O6,Lr]
theorem j5x{a b:ao}:Jr .eq (.str a) (.str b)=aa (a==b):=by simp[Jr,D.dep,Vh]
theorem j2x:Jr .eq (.lst []) (.lst [])=aa (vd [] []):=Lx (by simp[D.dep,D.depL]) (by simp[D.dep,D.depL])
theorem j2n(h:i<j):cmpI .lt i j=aa ag:=by simp[cmpI,h]
theorem j2o(h:j<=i):cmpI .lt i j=aa ae:=by simp[cmpI];omega
theorem j2p(h:i<=j):cmpI .le i j=aa ag:=by simp[cmpI,h]
theorem j2q(h:j<i):cmpI .le i j=aa ae:=by simp[cmpI];omega
theorem j2r(h:j<i):cmpI .gt i j=aa ag:=by simp[cmpI,h]
theorem j2s(h:i<=j):cmpI .gt i j=aa ae:=by simp[cmpI];omega
theorem j2t(h:j<=i):cmpI .ge i j=aa ag:=by simp[cmpI,h]
theorem j2u(h:i<j):cmpI .ge i j=aa ae:=by simp[cmpI];omega
theorem j2v(h:i=j):cmpI .eq i j=aa ag:=by simp[cmpI,h]
theorem j2w(h:i≠j):cmpI .eq i j=aa ae:=by simp[cmpI,h]
theorem jc6:jc7 (aa (.v x))=aa (.v (.e (.bl x.d.isNon))):=(rfl)
theorem j7j:truth (aa (.v (.e (.bl b))))=aa b:=(rfl)
theorem jdf:j6a (aa ae) f ρ=aa (.v (.e (.bl ae))):=(rfl)
theorem jde:j6a (aa ag) f ρ=blW (truth (f ρ)):=(rfl)
theorem jej:orW (aa ag) f ρ=aa (.v (.e (.bl ag))):=(rfl)
theorem jek:orW (aa ae) f ρ=blW (truth (f ρ)):=(rfl)
theorem jbh:jbi (aa b)=aa (.v (.e (.bl (!b)))):=(rfl)
theorem je5:stW (aa (.v (.e d)))=aa (.v (.e d)):=(rfl)
theorem jc3:j51 (aa ag) f g ρ=stW (f ρ):=(rfl)
theorem jc4:j51 (aa ae) f g ρ=stW (g ρ):=(rfl)
theorem j9f:consW (aa (.v x)) (aa (.a xs))=aa (.a (x::xs)):=(rfl)
theorem Dk(h:zu xs=aa l)(hl:l.length<=1000000):Yl (aa (.a xs))=aa (.v (.e (.tup l))):=by simp[Yl,h,jt,Jw hl]
theorem Cu(h:zu xs=aa l)(hl:l.length<=1000000):Yx (aa (.a xs))=aa (.v (.o l)):=by simp[Yx,h,jt,Jw hl]
theorem ja0{a:D}:Yl (aa (.a [.e a]))=aa (.v (.e (.tup [a]))):=Dk rfl (by simp)
theorem j9z{a b:D}:Yl (aa (.a [.e a,.e b]))=aa (.v (.e (.tup [a,b]))):=Dk rfl (by simp)
theorem jbo:Yx (aa (.a []))=aa (.v (.o [])):=by simp[Yx,zu,jt]
theorem jbn{a:D}:Yx (aa (.a [.e a]))=aa (.v (.o [a])):=Cu rfl (by simp)
noncomputable def Mx(o:Option D):Option W:=o.map λd=>.v (.e d)
theorem Ip:Mx (aa d)=aa (.v (.e d)):=(rfl)
theorem jc1:ixW (aa (.v (.e (.lst l)))) (aa (.v (.e (.int i))))=Mx (atI l i):=(rfl)
theorem jc0:ixW (aa (.v (.e (.tup l)))) (aa (.v (.e (.int i))))=Mx (atI l i):=(rfl)
theorem jf3:ixW (aa (.v (.o l))) (aa (.v (.e (.int i))))=Mx (atI l i):=(rfl)
theorem jf1:ixW (aa (.v (.w l))) (aa (.v (.e (.int i))))=Mx (atI l i):=(rfl)
noncomputable def jd6(c:Option Nat):Option W:=match c with
 |some c=>aa (.v (.e (.str ⟨#[c]⟩)))
 |none=>ah
theorem jd5{c:Nat}:jd6 (aa c)=aa (.v (.e (.str ⟨#[c]⟩))):=(rfl)
theorem jf2{z:ao}(h:z.length<=1000000):ixW (aa (.v (.e (.str z)))) (aa (.v (.e (.int i))))=jd6 (atI z.cps.toList i):=by simp only[ixW,Rk.sq,Rk.d,jt,Jw h,decide_true,if_true];cases atI z.cps.toList i<;>rfl
theorem je8{z:ao}{lo hi:Option Int}(h:z.length<=1000000):slW (aa (.v (.e (.str z)))) (aa lo) (aa hi)=aa (.v (.e (.str (bJ z lo hi)))):=by simp only[slW,Rk.sq,Rk.d,jt,Jw h,decide_true,if_true]
theorem jd9{y z:ao}(h:y.length+z.length<=1000000):Z2 .add (aa (.v (.e (.str y)))) (aa (.v (.e (.str z))))=aa (.v (.e (.str (y++z)))):=by simp[Z2,Ua,Rk.d,jt,Jw h,rkW]
theorem jeu{z:ao}(h:z.length<=1000000):Jl .len (aa (.a [.e (.str z)]))=aa (.v (.e (.int z.length))):=by simp only[Jl,Vk,Rk.d,jt,Jw h,decide_true,if_true];rfl
theorem j0f{ns:List Int}:intsOf (ns.map D.int)=aa ns:=by
 induction ns with
 |nil=>rfl
 |cons b bs ih=>rw[xx,intsOf,ih];rfl
theorem Yn{ns:List ao}:strsOf (ns.map D.str)=aa ns:=by
 induction ns with
 |nil=>rfl
 |cons b bs ih=>rw[xx,strsOf,ih];rfl
theorem Io{sep:ao}{ts:List ao}(h:eQ sep ts=ag):Wb sep (aa (.v (.o (ts.map D.str))))=aa (.v (.e (.str (dN sep ts)))):=by simp only[Wb,Rk.d,Yn,h,if_true]
theorem j60:Q6 (aa (.a []))=aa ah:=(rfl)
theorem j5z:Q6 (aa (.a [.e (.int i)]))=aa (aa i):=(rfl)
variable{lo hi:Option Int}
theorem jag:slW (aa (.v (.e (.lst l)))) (aa lo) (aa hi)=aa (.v (.o (cutD l lo hi))):=(rfl)
variable{Γ:ao->List D->Rc}{fn:ao}
noncomputable def rcW(r:Rc):Option W:=match r with
 |.val d=>aa (.v (.e d))
 |.fresh l=>aa (.v (.o l))
 |_=>ah
theorem jeb:rcW (.val d)=aa (.v (.e d)):=(rfl)
theorem jec:rcW (.fresh l)=aa (.v (.o l)):=(rfl)
theorem Wg(h:zu xs=aa l):Qa Γ fn (aa (.a xs))=rcW (Γ fn l):=by simp only[Qa,h];cases Γ fn l<;>rfl
theorem j9k{a:D}:Qa Γ fn (aa (.a [.e a]))=rcW (Γ fn [a]):=Wg rfl
theorem j9j{a b:D}:Qa Γ fn (aa (.a [.e a,.e b]))=rcW (Γ fn [a,b]):=Wg rfl
theorem j9i{a b c:D}:Qa Γ fn (aa (.a [.e a,.e b,.e c]))=rcW (Γ fn [a,b,c]):=Wg rfl
noncomputable def rcT(r:Rc):Option W:=match r with
 |.val d=>aa (.v (.t d))
 |.fresh l=>if qu l=ag then aa (.v (.o l))else ah
 |_=>ah
theorem jed:rcT (.val d)=aa (.v (.t d)):=(rfl)
theorem j9h(h:zu xs=ah):Qa Γ fn (aa (.a xs))=rcT (Γ fn (xs.map Rk.d)):=by simp only[Qa,h];cases Γ fn (xs.map Rk.d)<;>rfl
theorem K3{a b:D}:Qa Γ fn (aa (.a [.w m,.e a,.e b]))=rcT (Γ fn [.lst m,a,b]):=j9h rfl
theorem jev:Jl .len (aa (.a [.e (.lst l)]))=aa (.v (.e (.int l.length))):=(rfl)
theorem jet:Jl .len (aa (.a [.e (.tup l)]))=aa (.v (.e (.int l.length))):=(rfl)
theorem jbk:Jl .min (aa (.a [.e (.int i),.e (.int j)]))=aa (.v (.e (.int (if j<i then j else i)))):=(rfl)
theorem j7i:Jl .tuple (aa (.a [.o l]))=aa (.v (.e (.tup l))):=(rfl)
theorem j3j:Jl .tuple (aa (.a [.e (.lst l)]))=aa (.v (.e (.tup l))):=(rfl)
theorem j8l:Jl .list (aa (.a [.e (.lst l)]))=aa (.v (.o l)):=(rfl)
theorem Ke{bs:List Bool}:boolsOf (bs.map D.bl)=aa bs:=by
 induction bs with
 |nil=>rfl
 |cons b bs ih=>rw[xx,boolsOf,ih];rfl
theorem jfm{bs:List Bool}:Jl .all (aa (.a [.o (bs.map D.bl)]))=aa (.v (.e (.bl (bs.all id)))):=by simp only[Jl,Vk,Rk.d,Ke];rfl
theorem jc5{ts:List String}:Bd (aa (.v x)) ts=blW (qi x.d ts):=(rfl)
theorem j7q:Ul (aa (.v (.e (.lst l))))=aa (.i l):=(rfl)
theorem jal:Ul (aa (.v (.o l)))=aa (.i l):=(rfl)
theorem j45(h:-4611686018427387904<=i/\i<4611686018427387904):Uo (aa (.a [.e (.int i)]))=aa (.i (upto 0 i.toNat)):=if_pos h
theorem J8{is:List Nat}{c e:En->Option W}{z:Bool}{ds l:List D}(hf:O4 is ρ=ag)(hl:ds.length<=1000000)(h:Jq (Yk is c e ρ) ds=aa l)(hz:z=ae\/qu l=ag):j0m is (aa (.i ds)) c e z ρ=aa (.v (.o l)):=by simp only[j0m,hf,jt,Jw hl,decide_true,and_self,if_true,h,jM];rcases hz with z|z<;>simp[z]
theorem Qo{i:Nat}{c e:En->Option W}(hc:c (ρ.set i (.val d))=aa (.a [])){d':D}(he:e (ρ.set i (.val d))=aa (.v (.e d'))):Yk [i] c e ρ d=aa (aa d'):=by simp[Yk,zx,hc,he,Rk.st]
theorem Yj{i:Nat}{c e:En->Option W}{b:Bool}{d':D}(hc:c (ρ.set i (.val d))=aa (.a [.e (.bl b)]))(he:b=ag->e (ρ.set i (.val d))=aa (.v (.e d'))):Yk [i] c e ρ d=aa (if b=ag then aa d' else ah):=by
 cases b with
 |true=>simp[Yk,zx,hc,he rfl,Rk.st,Rk.d]
 |false=>simp[Yk,zx,hc,Rk.d]
theorem Qu{α:Type}{xs:List α}{n:Nat}{x:α}(h:xs[n]?=aa x):atI xs (n:Int)=aa x:=Ef h
end
section
theorem j54:qi .non ["list","tuple"]=aa ae:=by simp[qi,qw,D.ty]
theorem j57 {b:Bool}:qi (.bl b) ["list","tuple"]=aa ae:=by simp[qi,qw,D.ty]
theorem j8w {b:Bool}:qi (.bl b) ["bool"]=aa ag:=by simp[qi,qw,D.ty]
theorem j8r {b:Bool}:qi (.bl b) ["str"]=aa ae:=by simp[qi,qw,D.ty]
theorem j5a {b:Bool}:qi (.bl b) ["int","str"]=aa ag:=by simp[qi,qw,D.ty]
theorem j56 {i:Int}:qi (.int i) ["list","tuple"]=aa ae:=by simp[qi,qw,D.ty]
theorem j8v {i:Int}:qi (.int i) ["bool"]=aa ae:=by simp[qi,qw,D.ty]
theorem j8q {i:Int}:qi (.int i) ["str"]=aa ae:=by simp[qi,qw,D.ty]
theorem j59 {i:Int}:qi (.int i) ["int","str"]=aa ag:=by simp[qi,qw,D.ty]
theorem j53 {z:ao}:qi (.str z) ["list","tuple"]=aa ae:=by simp[qi,qw,D.ty]
theorem j8u {z:ao}:qi (.str z) ["bool"]=aa ae:=by simp[qi,qw,D.ty]
theorem j8p {z:ao}:qi (.str z) ["str"]=aa ag:=by simp[qi,qw,D.ty]
theorem j58 {z:ao}:qi (.str z) ["int","str"]=aa ag:=by simp[qi,qw,D.ty]
theorem j52 {l:List D}:qi (.tup l) ["list","tuple"]=aa ag:=by simp[qi,qw,D.ty]
theorem j8s {l:List D}:qi (.tup l) ["list"]=aa ae:=by simp[qi,qw,D.ty]
theorem j55 {l:List D}:qi (.lst l) ["list","tuple"]=aa ag:=by simp[qi,qw,D.ty]
theorem j8t {l:List D}:qi (.lst l) ["list"]=aa ag:=by simp[qi,qw,D.ty]
theorem j8y:D.isNon .non=ag:=(rfl)
theorem j90{b:Bool}:D.isNon (.bl b)=ae:=(rfl)
theorem j8z{i:Int}:D.isNon (.int i)=ae:=(rfl)
theorem j8x{z:ao}:D.isNon (.str z)=ae:=(rfl)
end
section
noncomputable abbrev j0j(r:List Int):D:=.tup (r.map .int)
theorem Jf{α:Type}{f:D->Option (Option D)}{h g:α->D}{L:List α}(q:∀x∈L,f (h x)=aa (aa (g x))):Jq f (L.map h)=aa (L.map g):=by
 induction L with
 |nil=>rfl
 |cons x L ih=>rw[xx,Jq,q x (X4 ..),ih λy hy=>q y (kj _ hy)];rfl
theorem Ui{α:Type}{f:D->Option (Option D)}{h g:α->D}{p:α->Bool}{L:List α}(q:∀x∈L,f (h x)=aa (if p x=ag then aa (g x)else ah)):Jq f (L.map h)=aa ((L.filter p).map g):=by
 induction L with
 |nil=>rfl
 |cons x L ih =>
  rw[xx,Jq,q x (X4 ..),ih λy hy=>q y (kj _ hy)];by_cases z:p x=ag
  .rw[if_pos z,cY z];rfl
  .rw[if_neg z,cZ z]
theorem U7{f:D->Option (Option D)}:∀{ds:List D},(∀d∈ds,f d=aa ah)->Jq f ds=aa []
 |[],_=>rfl
 |d::ds,h=>by rw[Jq,h d (X4 ..),U7 λd hd=>h d (kj _ hd)]
theorem j5i{α β:Type}{f:α->β}{l:List α}{i:Nat}{y:β}(h:(l.map f)[i]?=aa y):∃x,l[i]?=aa x/\y=f x:=by
 rw[Xe]at h;cases e:l[i]? with
 |none=>rw[e]at h;cases h
 |some x=>rw[e]at h;cases h;exact⟨x,rfl,rfl⟩
theorem j50{α:Type}{c:Prop}[Decidable c]{x:α}:(if c then x else x)=x:=by split<;>rfl
theorem j24{l:List D}(h:J3 (.tup l)):l.length<=1000/\Js l:=by simpa [J3]using h
theorem j25{l:List D}(h:J3 (.lst l)):l.length<=1000/\Js l:=by simpa [J3]using h
end
section
variable{Γ:ao->List D->Rc}{G:ao->Option D}{ρ:En}{a:Ex}
theorem jck:True:=trivial
end
end L2
end
section
namespace L2
open PySem PySem.Spec PyProof.Rows
structure KpS(P:av)(w:aA)(K:k5g)(mg:k5j)(base:aI)(sI sA sT sF rI rF:aG):Prop where
 scI:FnScope ["self","places"] ["self","places"] (j0 sI)
 scA:FnScope ["self","place"] ["self","place"] (j0 sA)
 scT:FnScope ["self"] ["self"] (j0 sT)
 scF:FnScope ["self","place"] ["self","place"] (j0 sF)
 srI:FnScope ["self","places","row"] ["self","places","row"] (j0 rI)
 srF:FnScope ["self","place"] ["self","place"] (j0 rF)
 boI:∃(p1 p2 p3 p4 p5 p6 p7 p8 p9 p10 p11 p12 p13 p14:aL),jh sI=j2f p1 p2 p3 p4 p5 p6 p7 p8 p9 p10 p11 p12 p13 p14
 boA:∃(r:List aG)(p1 p2 p3 p4 p5 p6 p7 p8 p9 p10 p11 p12 p13 p14 p15 p16 p17 p18 p19 p20 p21 p22 p23 p24:aL),jh sA=Eg r p1 p2 p3 p4 p5 p6 p7 p8 p9 p10 p11 p12 p13 p14 p15 p16 p17 p18 p19 p20 p21 p22 p23 p24 /\
  ∀f cdv A outer s H E,Z3 (qg CX0 P w K mg base ["self","place"] "Keeper.answer" (j0 sA) f cdv A outer s H E).nox (.Name "self" p14) "first_answer" (.Name "place" p16) p15 p17
 boT:∃(p1 p2 p3 p4 p5 p6 p7:aL),jh sT=[.Return (aa (.Call (.Name "list" p1) [.Call (.Attribute (.Attribute (.Name "self" p2) "remembered" p3) "items" p4) [] [] p5] [] p6)) p7]/\(p4.endLine==p5.line)=ag
 boF:∃(n:Nat)(p1 p2:aL),jh sF=[.Return (aa (.Constant (.int 0) n p1)) p2]
 brI:∃(p1 p2 p3 p4 p5 p6 p7 p8 p9 p10:aL),jh rI=j2e p1 p2 p3 p4 p5 p6 p7 p8 p9 p10/\∀f cdv A outer s H E,j3d (qg CX0 P w K mg base ["self","places","row"] "RowKeeper.__init__" (j0 rI) f cdv A outer s H E).nox (.Name "Keeper" p1) "__init__" (.Name "self" p3) (.Name "places" p4) p2 p5
 brF:∃(p1 p2 p3 p4 p5 p6 p7 p8 p9:aL),jh rF=j2k p1 p2 p3 p4 p5 p6 p7 p8 p9/\(p5.endLine==p7.line)=ag
 vi:Vis (j0 sI) "self"/\Vis (j0 sI) "places"/\Vis (j0 sA) "self"/\Vis (j0 sA) "place"/\Vis (j0 sT) "self"/\Vis (j0 rI) "self"/\Vis (j0 rI) "places"/\Vis (j0 rI) "row"/\Vis (j0 rF) "self"/\Vis (j0 rF) "place"
 na:(j0 sI).names.lookup ("refuse_wrong_places":ao)=aa .globalImplicit/\(j0 sI).names.lookup ("tuple":ao)=aa .globalImplicit/\(j0 sT).names.lookup ("list":ao)=aa .globalImplicit/\(j0 rI).names.lookup ("Keeper":ao)=aa .globalImplicit
 biI:∀(kV doc pm:aj)(an:Option ai)(cdv ct:aj)(us:List aj),us.length=2->bB (br "__init__" "Keeper.__init__" (jy sI) (jh sI) (j0 sI) .none kV doc pm an cdv ct) ⟨us,[]⟩=pure ((["self","places"]:List ao).zip us)
 biA:∀(kV doc pm:aj)(an:Option ai)(cdv ct:aj)(us:List aj),us.length=2->bB (br "answer" "Keeper.answer" (jy sA) (jh sA) (j0 sA) .none kV doc pm an cdv ct) ⟨us,[]⟩=pure ((["self","place"]:List ao).zip us)
 biT:∀(kV doc pm:aj)(an:Option ai)(cdv ct:aj)(us:List aj),us.length=1->bB (br "told" "Keeper.told" (jy sT) (jh sT) (j0 sT) .none kV doc pm an cdv ct) ⟨us,[]⟩=pure ((["self"]:List ao).zip us)
 biF:∀(kV doc pm:aj)(an:Option ai)(cdv ct:aj)(us:List aj),us.length=2->bB (br "first_answer" "Keeper.first_answer" (jy sF) (jh sF) (j0 sF) .none kV doc pm an cdv ct) ⟨us,[]⟩=pure ((["self","place"]:List ao).zip us)
 brI2:∀(kV doc pm:aj)(an:Option ai)(cdv ct:aj)(us:List aj),us.length=3->bB (br "__init__" "RowKeeper.__init__" (jy rI) (jh rI) (j0 rI) .none kV doc pm an cdv ct) ⟨us,[]⟩=pure ((["self","places","row"]:List ao).zip us)
 brF2:∀(kV doc pm:aj)(an:Option ai)(cdv ct:aj)(us:List aj),us.length=2->bB (br "first_answer" "RowKeeper.first_answer" (jy rF) (jh rF) (j0 rF) .none kV doc pm an cdv ct) ⟨us,[]⟩=pure ((["self","place"]:List ao).zip us)
structure KpC(K:k5g)(x:ao)(C:ai):Prop where
 at_:cM K ax x=aa (aa (.ref C))
 pg:PySem.W.plainGet K C cB=ag
 hd:PySem.W.hasDictIn K C=ag
 po:PySem.W.plainOver K C=ag
 sa:bb K (.ref C) "__setattr__" = aa (aa (.builtin "object.__setattr__"))
 mk_:PySem.W.makesIn K C=ag
 kc:dy K (.ref C)=ag
 nP:bb K (.ref C) "places" = aa ah
 nR:bb K (.ref C) "remembered" = aa ah
structure KpH(K:k5g)(C R:ai)(sI sA sT sF rI rF:aG):Prop where
 cc:KpC K "Keeper" C
 cr:KpC K "RowKeeper" R
 nW:bb K (.ref R) "row" = aa ah
 mI:∃f,Lm K C f "__init__" "Keeper.__init__" sI/\CMeth K C "__init__" f
 mA:∃f,Lm K C f "answer" "Keeper.answer" sA/\bb K (.ref R) "answer" = aa (aa (.ref f))
 mT:∃f,Lm K C f "told" "Keeper.told" sT/\bb K (.ref R) "told" = aa (aa (.ref f))
 mF:∃f,Lm K C f "first_answer" "Keeper.first_answer" sF
 rI:∃f,Lm K R f "__init__" "RowKeeper.__init__" rI
 rF:∃f,Lm K R f "first_answer" "RowKeeper.first_answer" rF
structure CalK(X:Cx)(C:ai)(sq:Bool)(ps:List ao):Prop where
 ex:∃(k:Nat)(f:ai)(fd:aD),FnOk X.prog X.w X.K X.mg X.base CX0 k f fd ["self","places"] (j3t X.K C sq ps)/\Room (k+1) X.A/\X.mg "Keeper" = aa (.ref C)/\Mk X.K C f/\Binds X.K fd ["self","places"] []
structure KeepOk(P:av)(w:aA)(K:k5g)(mg:k5j)(base:aI)(C R:ai):Prop where
 mc:mg "Keeper" = aa (.ref C)
 mr:mg "RowKeeper" = aa (.ref R)
 xr:∀{X:Cx},X.prog=P->X.w=w->X.K=K->X.mg=mg->X.base=base->Room 3 X.A->KpX X R (ZR K)
 xk:∀{X:Cx},X.prog=P->X.w=w->X.K=K->X.mg=mg->X.base=base->Room 3 X.A->KpX X C Z0
 ir:∀{X:Cx}{sq:Bool}{ps:List ao}{row:List Int},X.prog=P->X.w=w->X.K=K->X.mg=mg->X.base=base->Cal X "refuse_wrong_places" (spP X.K λds d=>ds=[D.seq sq (ps.map D.str)]/\d=.non)->CalR X R sq ps row
 ik:∀{X:Cx}{sq:Bool}{ps:List ao},X.prog=P->X.w=w->X.K=K->X.mg=mg->X.base=base->Cal X "refuse_wrong_places" (spP X.K λds d=>ds=[D.seq sq (ps.map D.str)]/\d=.non)->CalK X C sq ps
theorem j8m {P:av} {w:aA} {K:k5g} {mg:k5j} {base h:aI} {C R:ai} {sI sA sT sF rI rF:aG} (S:KpS P w K mg base sI sA sT sF rI rF) (hH:KpH K C R sI sA sT sF rI rF) (X:K.In h) (Gn:h.Ns ax mg) (bl:mg "list" = ah) (bt:mg "tuple" = ah) :
  KeepOk P w K mg base C R:=by
 obtain⟨scI,scA,scT,scF,srI,srF,⟨i1,i2,i3,i4,i5,i6,i7,i8,i9,i10,i11,i12,i13,i14,eI⟩,⟨ra,a1,a2,a3,a4,a5,a6,a7,a8,a9,a10,a11,a12,a13,a14,a15,a16,a17,a18,a19,a20,a21,a22,a23,a24,eA,hmA⟩,⟨t1,t2,t3,t4,t5,t6,t7,eT,hlT⟩,⟨nF,f1,f2,eF⟩,⟨j1,j2,j3,j4,j5,j6,j7,j8,j9,j10,eJ,hmJ⟩,⟨g1,g2,g3,g4,g5,g6,g7,g8,g9,eG,hlG⟩,⟨v1,v2,v3,v4,v5,v6,v7,v8,v9,v10⟩,⟨na1,na2,na3,na4⟩,biI,biA,biT,biF,brI2,brF2⟩:=S;obtain⟨cc,cr,nW,⟨fI,⟨ocI,odI,kVI,dcI,pmI,anI,cdI,ctI,slI,fiI,fnI,lkI,coI,kpI⟩,cmI⟩,⟨fA,⟨ocA,odA,kVA,dcA,pmA,anA,cdA,ctA,slA,fiA,fnA,lkA,coA,kpA⟩,frA⟩,⟨fT,⟨ocT,odT,kVT,dcT,pmT,anT,cdT,ctT,slT,fiT,fnT,lkT,coT,kpT⟩,frT⟩,⟨fF,ocF,odF,kVF,dcF,pmF,anF,cdF,ctF,slF,fiF,fnF,lkF,coF,kpF⟩,⟨fJ,ocJ,odJ,kVJ,dcJ,pmJ,anJ,cdJ,ctJ,slJ,fiJ,fnJ,lkJ,coJ,kpJ⟩,⟨fG,ocG,odG,kVG,dcG,pmG,anG,cdG,ctG,slG,fiG,fnG,lkG,coG,kpG⟩⟩:=hH;have mgC:=T8 X Gn cc.at_;have mgR:=T8 X Gn cr.at_;have clC:Cls K C:=⟨cc.pg,cc.hd,cc.po,cc.sa⟩
 have clR:Cls K R:=⟨cr.pg,cr.hd,cr.po,cr.sa⟩
 have FI:=Qh (st:=sI) lkI coI kpI;have FA:=Qh (st:=sA) lkA coA kpA;have FT:=Qh (st:=sT) lkT coT kpT;have FF:=Qh (st:=sF) lkF coF kpF;have FJ:=Qh (st:=rI) lkJ coJ kpJ;have FG:=Qh (st:=rF) lkG coG kpG;have TC:KpT K C fA fT fF:=⟨clC,cc.nP,cc.nR,⟨fiA,fnA,kpA⟩,⟨fiT,fnT,kpT⟩,⟨fiF,fnF,kpF⟩⟩
 have TR:KpT K R fA fT fG:=⟨clR,cr.nP,cr.nR,⟨frA,fnA,kpA⟩,⟨frT,fnT,kpT⟩,⟨fiG,fnG,kpG⟩⟩
 have oF:FnOk P w K mg base CX0 1 fF _ ["self","place"] (Y8 K C Z0):=j1y FF scF eF;have oG:FnOk P w K mg base CX0 1 fG _ ["self","place"] (Y8 K R (ZR K)):=j1x FG clR cr.nP nW srF eG v9 v10 hlG;have oA:FnOk P w K mg base CX0 2 fA _ ["self","place"] (Yo K C Z0):=N5 FA TC scA eA v3 v4 (hmA fA) oF (FF.binds biF);have oB:FnOk P w K mg base CX0 2 fA _ ["self","place"] (Yo K R (ZR K)):=N5 FA TR scA eA v3 v4 (hmA fA) oG (FG.binds brF2);have oT:FnOk P w K mg base CX0 1 fT _ ["self"] (M8 K C):=Ih FT TC scT eT v5 na3 bl hlT;have oU:FnOk P w K mg base CX0 1 fT _ ["self"] (M8 K R):=Ih FT TR scT eT v5 na3 bl hlT;refine⟨mgC,mgR,λ{X'} h1 h2 h3 h4 h5 hr=>?_,λ{X'} h1 h2 h3 h4 h5 hr=>?_,λ{X' sq ps row} h1 h2 h3 h4 h5 cal=>?_,λ{X' sq ps} h1 h2 h3 h4 h5 cal=>?_⟩
 .subst h1 h2 h3 h4 h5;exact⟨fA,fT,fG,_,_,TR,⟨oB,FA.binds biA⟩,⟨oU,FT.binds biT⟩,hr⟩
 .subst h1 h2 h3 h4 h5;exact⟨fA,fT,fF,_,_,TC,⟨oA,FA.binds biA⟩,⟨oT,FT.binds biT⟩,hr⟩
 .subst h1 h2 h3 h4 h5;obtain⟨k,f,fd,psR,Fr,hrr,hmr,hkr,hbr,_⟩:=cal.ex;have oI:=Ci (C:=R) FI clR cr.nP cr.nR scI eI v1 v2 na1 na2 bt Fr hmr hkr hbr;have oJ:=j4h (row:=row) FJ clR nW srI eJ v6 v7 v8 na4 mgC cmI (hmJ fJ) oI (FI.binds biI);exact⟨k+2,fJ,_,oJ,hrr,mgR,⟨cr.mk_,fiJ,fnJ,cr.kc⟩,FJ.binds brI2⟩
 .subst h1 h2 h3 h4 h5;obtain⟨k,f,fd,psR,Fr,hrr,hmr,hkr,hbr,_⟩:=cal.ex;have oI:=Ci (C:=C) FI clC cc.nP cc.nR scI eI v1 v2 na1 na2 bt Fr hmr hkr hbr;exact⟨k+1,fI,_,oI,hrr.mono (by omega),mgC,⟨cc.mk_,fiI,fnI,cc.kc⟩,FI.binds biI⟩
noncomputable def Z9(ps:List ao)(row:List Int):ao->Int:=λp=>row.getD (ps.idxOf p) 0
def Vp(d:D)(ps:List ao)(row:List Int)(l:List ao)(n:Int):k5g->(ao->Option aj)->Sp:=λK mg vs H Q E=>∃R,mg "RowKeeper" = aa (.ref R)/\Es K R (ZR K) d l n ps (Z9 ps row) vs H Q E
def Vq(d:D)(ps:List ao)(l:List ao)(n:Int):k5g->(ao->Option aj)->Sp:=λK mg vs H Q E=>∃C,mg "Keeper" = aa (.ref C)/\Es K C Z0 d l n ps (λ_=>0) vs H Q E
noncomputable def Ys(ps:List ao)(r:Option (List ao×Int))(f:List ao->Int->k5g->(ao->Option aj)->Sp):So:=match r with
 |some (l,n)=>if (l.all λp=>ps.contains p)=ag/\ps.length<=1000 then .ret (.hnd (f l n))else .no
 |none=>.no
noncomputable def Q8:Nat->(ao->List D->Rc)->(ao->Option D)->En->So:=λ_ Γ _ ρ=>match ρ with
 |[.val d,.val (.tup a),.val (.tup b)]=>match strsOf a,intsOf b with
  |some ps,aa row=>Ys ps (Ja Γ (Z9 ps row) 100 d) (Vp d ps row)
  |_,_=>.no
 |[.val d,.val (.tup a),.val .non]=>match strsOf a with
  |some ps=>Ys ps (Ja Γ (λ_=>0) 100 d) (Vq d ps)
  |none=>.no
 |_=>.no
theorem Dz{ps:List ao}{r:Option (List ao×Int)}{f:List ao->Int->k5g->(ao->Option aj)->Sp}:(∃l n,r=aa (l,n)/\(∀p∈l,p∈ps)/\ps.length<=1000/\Ys ps r f=.ret (.hnd (f l n)))\/Ys ps r f=.no:=by
 unfold Ys;cases r with
 |none=>exact .inr rfl
 |some q =>
  obtain⟨l,n⟩:=q;dsimp only;by_cases h:(l.all λp=>ps.contains p)=ag/\ps.length<=1000
  .rw[if_pos h];exact .inl ⟨l,n,rfl,λp hp=>by have:=Xk.mp h.1 p hp;simpa using this,h.2,rfl⟩
  .rw[if_neg h];exact .inr rfl
theorem Ca{fu:Nat}{Γ:ao->List D->Rc}{G:ao->Option D}{ρ:En}:(∃d ps row l n,Ja Γ (Z9 ps row) 100 d=aa (l,n)/\(∀p∈l,p∈ps)/\ps.length<=1000/\Q8 fu Γ G ρ=.ret (.hnd (Vp d ps row l n)))\/(∃d ps l n,Ja Γ (λ_=>0) 100 d=aa (l,n)/\(∀p∈l,p∈ps)/\ps.length<=1000/\Q8 fu Γ G ρ=.ret (.hnd (Vq d ps l n)))\/Q8 fu Γ G ρ=.no:=by
 unfold Q8;split
 .rename_i d a b;split
  .rename_i ps row _ _;rcases Dz (ps:=ps) (r:=Ja Γ (Z9 ps row) 100 d) (f:=Vp d ps row)with ⟨l,n,h1,h2,h3,h4⟩|h
   .exact .inl ⟨d,ps,row,l,n,h1,h2,h3,h4⟩
   .exact .inr (.inr h)
  .exact .inr (.inr rfl)
 .rename_i d a;split
  .rename_i ps _;rcases Dz (ps:=ps) (r:=Ja Γ (λ_=>0) 100 d) (f:=Vq d ps)with ⟨l,n,h1,h2,h3,h4⟩|h
   .exact .inr (.inl ⟨d,ps,l,n,h1,h2,h3,h4⟩)
   .exact .inr (.inr h)
  .exact .inr (.inr rfl)
 .exact .inr (.inr rfl)
structure PlS(P:av)(w:aA)(K:k5g)(mg:k5j)(base:aI)(st:aG):Prop where
 sc:FnScope [("plan":ao),"keeper","told","place","answer"] ["plan","keeper"] (j0 st)
 bo:∃(n0 n02:Nat)(p1 p2 p3 p4 p5 p6 p7 p8 p9 p10 p11 p12 p13 p14 p15 p16 p17 p18 p19 p20 p21 p22 p23 p24 p25 p26 p27 p28 p29 p30 p31 p32 p33 p34 p35 p36 p37:aL),jh st=Fq n0 n02 p1 p2 p3 p4 p5 p6 p7 p8 p9 p10 p11 p12 p13 p14 p15 p16 p17 p18 p19 p20 p21 p22 p23 p24 p25 p26 p27 p28 p29 p30 p31 p32 p33 p34 p35 p36 p37/\(p19.endLine==p23.line)=ag /\
  ∀f cdv A outer s H E,Z3 (qg CX0 P w K mg base [("plan":ao),"keeper","told","place","answer"] "played" (j0 st) f cdv A outer s H E).nox (.Name "keeper" p13) "answer" (.Name "place" p15) p14 p16
 lo:∀x∈([("plan":ao),"keeper","told","place","answer"]:List ao),(j0 st).names.lookup x=aa .local
 gl:∀x∈([("is_ask":ao),"place_asked","plan_behind","answer_told"]:List ao),(j0 st).names.lookup x=aa .globalImplicit
 bi:∀(kV doc pm:aj)(an:Option ai)(cdv ct:aj)(us:List aj),us.length=2->bB (br "played" "played" (jy st) (jh st) (j0 st) .none kV doc pm an cdv ct) ⟨us,[]⟩=pure ((["plan","keeper"]:List ao).zip us)
theorem j8k {P:av} {w:aA} {K:k5g} {mg:k5j} {base h:aI} {C R:ai} {st:aG} {x:ao} {F:Fi} (hx:x=gq "played") (L:Lf K "played" st) (X:K.In h) (Gn:h.Ns ax mg) (S:PlS P w K mg base st) (ko:KeepOk P w K mg base C R) (hF:F.body=.seq (.prm Q8) .nop) (hl:F.lam=ae):LkF P w K mg base x F:=by
 obtain⟨f,oc,od,kV,dc,pm,an,cd,ct,sl,a,l,c,k⟩:=L;have hfun:=Qh l c k;have hm:=T8 X Gn a;obtain⟨sc,⟨n0,n02,p1,p2,p3,p4,p5,p6,p7,p8,p9,p10,p11,p12,p13,p14,p15,p16,p17,p18,p19,p20,p21,p22,p23,p24,p25,p26,p27,p28,p29,p30,p31,p32,p33,p34,p35,p36,p37,eb,hli,hmc⟩,lo,gl,bi⟩:=S;have rn:∀fu Γ G ds,run fu Γ G F.body (enter F ds)=(match Q8 fu Γ G (enter F ds)with|.next ρ'=>.next ρ'|o=>o):=λfu Γ G ds=>by rw[hF];rfl
 refine⟨λ_=>.inr (.inr (.inr ⟨"played",f,_,["plan","keeper"],hx,hm,hfun.kp,hfun.binds bi,λfu Γ G ds=>?_,λfu Γ G n h14 tb gok ds sp hlen hfin=>?_⟩)),λz=>by rw[hl]at z;cases z⟩
 .rw[rn];rcases Ca (fu:=fu) (Γ:=Γ) (G:=G) (ρ:=enter F ds)with ⟨_,_,_,_,_,_,_,_,e⟩|⟨_,_,_,_,_,_,_,e⟩|e<;>rw[e]<;>trivial
 .rw[rn]at hfin;rcases Ca (fu:=fu) (Γ:=Γ) (G:=G) (ρ:=enter F ds)with ⟨d,ps,row,l0,n1,hp,hlp,hps,e⟩|⟨d,ps,l0,n1,hp,hlp,hps,e⟩|e
  .rw[e]at hfin;have es:sp=Vp d ps row l0 n1:=by have:Rc.hnd (Vp d ps row l0 n1)=Rc.hnd sp:=hfin;injection this with this;exact this.symm
   subst es;refine(By (C:=R) (Z:=ZR K) hfun sc eb lo gl (hmc f) hli gok (λ{X'} h1 h2 h3 h4 h5 hr=>ko.xr h1 h2 h3 h4 h5 (hr.mono (by omega))) (j6e K) hp hlp hps).imp λvs H Q E ⟨R',hR,q⟩=>?_;rw[ko.mr]at hR;cases hR;exact q
  .rw[e]at hfin;have es:sp=Vq d ps l0 n1:=by have:Rc.hnd (Vq d ps l0 n1)=Rc.hnd sp:=hfin;injection this with this;exact this.symm
   subst es;refine(By (C:=C) (Z:=Z0) hfun sc eb lo gl (hmc f) hli gok (λ{X'} h1 h2 h3 h4 h5 hr=>ko.xk h1 h2 h3 h4 h5 (hr.mono (by omega))) jdu hp hlp hps).imp λvs H Q E ⟨R',hR,q⟩=>?_;rw[ko.mc]at hR;cases hR;exact q
  .rw[e]at hfin;cases hfin
structure KrA(Γ:ao->List D->Rc)(G:ao->Option D)(c5 eA eT e01:Ex)(st sa:Nat)(o:Ko)(r2 r5:En)(kvs:List (ao×Int)):Prop where
 ex:(truth (ev Γ G c5 r2)=aa ae/\r5=r2/\kvs=[])\/(truth (ev Γ G c5 r2)=aa ag/\∃pa dt x01,ev Γ G eA r2=aa (.v (.e (.str pa)))/\ev Γ G eT (r2.set sa (.val (.str pa)))=aa (.v (.e dt))/\r5=(r2.set sa (.val (.str pa))).set st (.own [dt]) /\
  ev Γ G e01 r5=aa (.v x01)/\x01.d=.int (o.fa pa)/\pa∈o.ps/\kvs=J4 o [] pa)
def KrC(Γ:ao->List D->Rc)(G:ao->Option D)(e1 e2 eD c5 eA eT e01 eP c7 e8 e9 eDu:Ex)(sk sd st sa sf:Nat)(r0:En):Prop :=
 ∃(sq:Bool)(ps:List ao)(row:List Int)(x1 x2:Rk)(dd:D)(r5:En)(kvs:List (ao×Int)) (xp:Rk) (d:D) (l:List ao) (n:Int) (ds8:List D) (x9 xq xd x3:Rk),
  ev Γ G e1 r0=aa (.v x1)/\x1.d=D.seq sq (ps.map D.str)/\ev Γ G e2 r0=aa (.v x2)/\x2.d=.tup (row.map D.int)/\row.length=ps.length/\ps.length<=1000/\l.length<400/\Γ "refuse_wrong_places" [D.seq sq (ps.map D.str)]=.val .non /\
  ev Γ G eD (r0.set sk (.exc rfN))=aa (.v (.e dd))/\(∀o:Ko,o.ps=ps->o.fa=Z9 ps row->KrA Γ G c5 eA eT e01 st sa o (((r0.set sk (.exc rfN)).set sd (.val dd)).set st (.own [])) r5 kvs) /\
  ev Γ G eP r5=aa (.v xp)/\xp.d=d/\Γ (gq "played") [d,.tup (ps.map D.str),.tup (row.map D.int)]=.hnd (Vp d ps row l n) /\
  truth (ev Γ G c7 (r5.set sf (.val (.tup [.int n,.lst (ql (Z9 ps row) l)]))))=aa ae/\ev Γ G e8 (r5.set sf (.exc rfN))=aa (.v (.o ds8)) /\
  ev Γ G e9 ((r5.set sf (.exc rfN)).set st (.own ds8))=aa (.v x9)/\ev Γ G eP ((r5.set sf (.exc rfN)).set st (.own ds8))=aa (.v xq)/\xq.d=d/\ev Γ G eDu ((r5.set sf (.exc rfN)).set st (.own ds8))=aa (.v xd) /\
  (∀o:Ko,o.ps=ps->o.fa=Z9 ps row->Γ "_law_same" [.lst ((qy o l kvs).map prD),x9.d]=.val (.bl ag)/\Γ "_law_same" [.lst ((qy o l (qy o l kvs)).map prD),x9.d]=.val (.bl ag))/\Γ "_law_same" [.tup [.int n,.lst (ql (Z9 ps row) l)],xd.d]=.val (.bl ag) /\
  sk<r0.length/\sf<r0.length/\sk≠sd/\sk≠st/\sk≠sa/\sk≠sf/\st≠sf/\st≠sa/\st≠sd/\sd≠sa/\st<r0.length/\sa≠sf/\sa<r0.length
open Classical in
noncomputable def krG(e1 e2 eD c5 eA eT e01 eP c7 e8 e9 eDu:Ex)(sk sd st sa sf:Nat):Nat->(ao->List D->Rc)->(ao->Option D)->En->So:=λ_ Γ G r0=>if KrC Γ G e1 e2 eD c5 eA eT e01 eP c7 e8 e9 eDu sk sd st sa sf r0 then .ret (.val (.bl ag))else .no
structure NmOk(X:Cx)(i:Nat)(x:ao):Prop where
 n:X.N[i]?=aa x
 l:Loc X.env.scope x
 v:Vis X.env.scope x
 f:X.fn x=ag\/X.env.scope.names.lookup x=aa .local
 d:(x==k5k)=ae
 c:(x==k5l)=ae
section
variable{X:Cx}{C R:ai}
theorem Ts.kright{e1' e2' eD' c5' eA' eT' e01' eP' c7' e8' e9' eDu':Ex}{sk sd st sa sf:Nat}{nk nd nt na nf:ao}{e1 e2 eD c5 eA eT e01 eP eP2 c7 e8 e9 e9b eDu:ar}{sa1 sa2 sa3:List aG}{n1 n2 n3 n4:Nat}
  {q1 q2 q3 q4 q5 q6 q7 q8 q9 q10 q11 q12 q13 q14 q15 q16 q17 q18 q19 q20 q21 q22 q23 q24 q25 q26 q27 q28 q29 q30 q31 q32 q33 q34 q35 q36 q37 q38 q39 q40 q41 q42 q43 q44 q45 q46 q47 q48 q49 q50 q51 q52 q53 q54 q55 q56 q57 q58:aL}
  (ko:KeepOk X.prog X.w X.K X.mg X.base C R) (hq:X.calm=ag) (gR:Gl X "RowKeeper") (gP:Gl X "played") (gS:Gl X "_law_same") (mk:NmOk X sk nk) (md:NmOk X sd nd) (mt:NmOk X st nt) (ma:NmOk X sa na) (mf:NmOk X sf nf)
  (t1:Tr X e1' (.e e1)) (t2:Tr X e2' (.e e2)) (tD:Tr X eD' (.e eD)) (t5:Tr X c5' (.b c5)) (tA:Tr X eA' (.e eA)) (tT:Tr X eT' (.e eT)) (t01:Tr X e01' (.e e01)) (tP:Tr X eP' (.e eP)) (tP2:Tr X eP' (.e eP2)) (t7:Tr X c7' (.b c7)) (t8:Tr X e8' (.e e8)) (t9:Tr X e9' (.e e9)) (t9b:Tr X e9' (.e e9b)) (tDu:Tr X eDu' (.e eDu))
  (a1:af [e1,e2] X.env=(ae,az e1 X.env)::af [e2] X.env) (a2:af [e2] X.env=(ae,az e2 X.env)::af [] X.env) (a3:(aJ q3 (af [e2] X.env)).any (·.1)=ae) (a4:aO (.Call (.Name "RowKeeper" q2) [e1,e2] [] q3) (aa (.Name nk q1)) q4.line X.env=pure ae)
  (b1:aO eD (aa (.Name nd q5)) q6.line X.env=pure ae) (b2:aO (.List [] q8) (aa (.Name nt q7)) q9.line X.env=pure ae) (b3:aO eA (aa (.Name na q10)) q11.line X.env=pure ae)
  (b4:af [eT] X.env=[(ae,az eT X.env)]) (b5:(q13.endLine==q14.line)=ag) (b6:aS (.Name nt q12) "append" X.env (az (.Name nt q12) X.env)=az (.Name nt q12) X.env) (b7:((aJ q14 (af [eT] X.env)).all (λx=>!x.1)&&(bq q14 (aT [] X.env)).all (λx=>x.1.isSome)
   && decide (([eT]:List ar).length+([]:List b9).length+(if ([]:List b9).isEmpty then 0 else 1)<30))=ag) (b8:aO (.Call (.Attribute (.Name nt q12) "append" q13) [eT] [] q14) ah q15.line X.env=pure ae)
  (c1:Z3 X (.Name nk q16) "answer" (.Name na q18) q17 q19) (d1:af [eP,.Name nk q25] X.env=(ae,az eP X.env)::af [.Name nk q25] X.env) (d2:(aJ q26 (af [.Name nk q25] X.env)).any (·.1)=ae) (d3:aO (.Call (.Name "played" q24) [eP,.Name nk q25] [] q26) (aa (.Name nf q23)) q27.line X.env=pure ae)
  (d4:aO e8 (aa (.Name nt q29)) q30.line X.env=pure ae) (d5:Wn X (.Name nk q32) "told" q33 q34) (d6:af [.Call (.Attribute (.Name nk q32) "told" q33) [] [] q34,e9] X.env=(ae,az (.Call (.Attribute (.Name nk q32) "told" q33) [] [] q34) X.env)::af [e9] X.env) (d7:af [e9] X.env=(ae,az e9 X.env)::af [] X.env) (d8:(aJ q35 (af [e9] X.env)).any (·.1)=ae)
  (f1:aS (.Subscript (.Name nf q37) (.Constant (.int 1) n1 q38) q39) "append" X.env (az (.Subscript (.Name nf q37) (.Constant (.int 1) n1 q38) q39) X.env)=az (.Subscript (.Name nf q37) (.Constant (.int 1) n1 q38) q39) X.env) (f2:(q40.endLine==q44.line)=ag)
  (f3:((aJ q44 (af [.Tuple [.Constant (.str "x") n2 q41,.Constant (.int 0) n3 q42] n4 q43] X.env)).all (λx=>!x.1)&&(bq q44 (aT [] X.env)).all (λx=>x.1.isSome)
   && decide (([.Tuple [.Constant (.str "x") n2 q41,.Constant (.int 0) n3 q42] n4 q43]:List ar).length+([]:List b9).length+(if ([]:List b9).isEmpty then 0 else 1)<30))=ag)
  (f4:aO (.Call (.Attribute (.Subscript (.Name nf q37) (.Constant (.int 1) n1 q38) q39) "append" q40) [.Tuple [.Constant (.str "x") n2 q41,.Constant (.int 0) n3 q42] n4 q43] [] q44) ah q45.line X.env=pure ae)
  (g1:af [eP2,.Name nk q48] X.env=(ae,az eP2 X.env)::af [.Name nk q48] X.env) (g2:(aJ q49 (af [.Name nk q48] X.env)).any (·.1)=ae) (g3:af [.Call (.Name "played" q47) [eP2,.Name nk q48] [] q49,eDu] X.env=(ae,az (.Call (.Name "played" q47) [eP2,.Name nk q48] [] q49) X.env)::af [eDu] X.env) (g4:af [eDu] X.env=(ae,az eDu X.env)::af [] X.env) (g5:(aJ q50 (af [eDu] X.env)).any (·.1)=ae)
  (h1:Wn X (.Name nk q52) "told" q53 q54) (h2:af [.Call (.Attribute (.Name nk q52) "told" q53) [] [] q54,e9b] X.env=(ae,az (.Call (.Attribute (.Name nk q52) "told" q53) [] [] q54) X.env)::af [e9b] X.env) (h3:af [e9b] X.env=(ae,az e9b X.env)::af [] X.env) (h4:(aJ q55 (af [e9b] X.env)).any (·.1)=ae) :
  Ts X (.seq (.prm (krG e1' e2' eD' c5' eA' eT' e01' eP' c7' e8' e9' eDu' sk sd st sa sf)) .nop) (.ss [.Assign [.Name nk q1] (.Call (.Name "RowKeeper" q2) [e1,e2] [] q3) q4,.Assign [.Name nd q5] eD q6,.Assign [.Name nt q7] (.List [] q8) q9,
   .If c5 [.Assign [.Name na q10] eA q11,.Expr (.Call (.Attribute (.Name nt q12) "append" q13) [eT] [] q14) q15,.If (.Compare (.Call (.Attribute (.Name nk q16) "answer" q17) [.Name na q18] [] q19) [.NotEq] [e01] q20) sa1 [] q21] [] q22,
   .Assign [.Name nf q23] (.Call (.Name "played" q24) [eP,.Name nk q25] [] q26) q27,.If c7 sa2 [] q28,.Assign [.Name nt q29] e8 q30,
   .If (.UnaryOp .Not (.Call (.Name "_law_same" q31) [.Call (.Attribute (.Name nk q32) "told" q33) [] [] q34,e9] [] q35) q36) sa3 [] q58,
   .Expr (.Call (.Attribute (.Subscript (.Name nf q37) (.Constant (.int 1) n1 q38) q39) "append" q40) [.Tuple [.Constant (.str "x") n2 q41,.Constant (.int 0) n3 q42] n4 q43] [] q44) q45,
   .Return (aa (.BoolOp .And [.Call (.Name "_law_same" q46) [.Call (.Name "played" q47) [eP2,.Name nk q48] [] q49,eDu] [] q50,.Call (.Name "_law_same" q51) [.Call (.Attribute (.Name nk q52) "told" q53) [] [] q54,e9b] [] q55] q56)) q57]):=by
 refine Ts.prm (rest:=[]) (λfu Γ G c g ρ P N h hr=>?_) Ts.nil;unfold krG at h;split at h
 .rename_i hx;obtain⟨sq,ps,row,x1,x2,dd,r5,kvs,xp,d,l,n,ds8,x9,xq,xd,x3,k1,k2,k3,k4,k5,k6,k7,k8,k9,k10,k11,k12,k13,k14,k15,k16,k17,k18,k19,k20,k21,z1,z2,z3,z4,z5,z6,z7,z8,z9,z10,z11,z12,z13⟩:=hx;have cal:∀{f:ao}{ds:List D}{d:D},Γ f ds=.val d->Cal X f (spP X.K λds' d'=>ds'=ds/\d'=d):=λ{f ds d} e=>by have z:=g f ds;rw[e]at z;exact z
  have cr:CalR X R sq ps row:=ko.ir rfl rfl rfl rfl rfl (cal k8);have T:KpX X R (ZR X.K):=by obtain⟨k,_,_,_,_,hrm,_⟩:=(cal k8).ex;exact ko.xr rfl rfl rfl rfl rfl (hrm.mono (by omega))
  have cp:CalPl X R (ZR X.K) d l n ps (Z9 ps row):=by have q:=g (gq "played") [d,.tup (ps.map D.str),.tup (row.map D.int)];rw[k13]at q;obtain⟨k,f,fd,pp,F,hrm,hm,hk,hb⟩:=(q "played" rfl).ex;exact⟨k,f,fd,pp,F.imp λvs H Q E z=>⟨R,ko.mr,z⟩,hrm.mono (by omega),hm,hk,hb⟩
  have hrt:P.rt (.val (.bl ag)):=h (.val (.bl ag)) rfl;have len:(jf ρ).length=ρ.length:=X5 ..;rw[len]at z1 z2 z11 z13;have hz:=j6e X.K;refine DSs.rkeep cr gR (k2▸(sound t1 c g ρ x1 k1).toT) (k4▸(sound t2 c g ρ x2 k3).toT) k5 a1 a2 a3 c.nd mk.n mk.l mk.f a4 λo eps efa=>?_;have efa:o.fa=Z9 ps row:=efa;have hps:o.ps.length<=1000:=by rw[eps];exact k6
  have cp:CalPl X R (ZR X.K) d l n o.ps o.fa:=by rw[eps,efa];exact cp
  have kr:=k10 o eps efa;obtain⟨k20a,k20b⟩:=k20 o eps efa;refine KSs.plain hz (N:=λρ1=>ρ1=(ρ.set sk (.raw o.a dOb rfN)).set sd (.val dd)) (DS.set sd (show DE X (ρ.set sk (.raw o.a dOb rfN)) eD dd from sound tD c g (ρ.set sk (.raw o.a dOb rfN)) (.e dd) (by rw[jw];exact k9)) rfl c.nd md.n md.l b1 md.f) ?_;rintro ρ1 rfl;refine KSs.plain hz (N:=λρ1=>∃lA,ρ1=((ρ.set sk (.raw o.a dOb rfN)).set sd (.val dd)).set st (.own lA [])) (DS.setO st (DO.lst DA.nil) (λl=>⟨l,rfl⟩) c.nd mt.n mt.l b2 mt.f) ?_;rintro ρ1 ⟨lA,rfl⟩;have go:∀(ρ5:Rho)(lB:ai)(dsB:List D),jf ρ5=r5->ρ5[sk]?=aa (.raw o.a dOb rfN)->ρ5[st]?=aa (.own lB dsB)->ρ5.length=ρ.length->Qf o kvs->kvs.length<=1->KSs X R (ZR X.K) o ρ5 kvs [.Assign [.Name nf q23] (.Call (.Name "played" q24) [eP,.Name nk q25] [] q26) q27,.If c7 sa2 [] q28,.Assign [.Name nt q29] e8 q30,
    .If (.UnaryOp .Not (.Call (.Name "_law_same" q31) [.Call (.Attribute (.Name nk q32) "told" q33) [] [] q34,e9] [] q35) q36) sa3 [] q58,
    .Expr (.Call (.Attribute (.Subscript (.Name nf q37) (.Constant (.int 1) n1 q38) q39) "append" q40) [.Tuple [.Constant (.str "x") n2 q41,.Constant (.int 0) n3 q42] n4 q43] [] q44) q45,
    .Return (aa (.BoolOp .And [.Call (.Name "_law_same" q46) [.Call (.Name "played" q47) [eP2,.Name nk q48] [] q49,eDu] [] q50,.Call (.Name "_law_same" q51) [.Call (.Attribute (.Name nk q52) "told" q53) [] [] q54,e9b] [] q55] q56)) q57] { nx:=λ_ _=>False,rt:=λb=>P.rt (.val (.bl b)) }:=λρ5 lB dsB ab hk5 ht5 len5 hcon hkl=>by
   subst ab;refine KSs.mid T cp hz hk5 mk.n mk.v mk.d mk.c gP (k12▸(sound tP c g ρ5 xp k11).toT) (by omega) hcon d1 d2 c.nd mf.n mf.l mf.v mf.f mf.d mf.c (by omega) d3 (sound t7 c g _ _ (by rw[jw,efa];exact k14)) (λp' ρ2=>∃lC,ρ2=(ρ5.set sf (.raw p' dOb rfN)).set st (.own lC ds8)) (λp'=>DS.setO st (show DO X (ρ5.set sf (.raw p' dOb rfN)) e8 ds8 from sound t8 c g (ρ5.set sf (.raw p' dOb rfN)) (.o ds8) (by rw[jw];exact k15)) (λl=>⟨l,rfl⟩) c.nd mt.n mt.l d4 mt.f) ?_ d5 (cal k20a) gS d6 d7 d8 f1 f2 f3 f4 (by rw[aW];simp[ql];omega);rintro p' ρ2 ⟨lC,rfl⟩;have ab8:jf ((ρ5.set sf (.raw p' dOb rfN)).set st (.own lC ds8))=((jf ρ5).set sf (.exc rfN)).set st (.own ds8):=by rw[jw,jw];rfl
   have hk8:((ρ5.set sf (.raw p' dOb rfN)).set st (.own lC ds8))[sk]?=aa (.raw o.a dOb rfN):=by rw[Xl (ba z4),Xl (ba z6)];exact hk5
   refine⟨by rw[Xl z7,Xr (by omega)],hk8,(sound t9 c g _ x9 (by rw[ab8];exact k16)).toT,?_⟩;have al:=Rv (o:=o) (l:=l) (kvs:=kvs);exact KSs.last T cp hz hk8 mk.n mk.v mk.d mk.c gP (k18▸(sound tP2 c g _ xq (by rw[ab8];exact k17)).toT) (by omega) (Rw hcon) g1 g2 (by rw[efa];exact cal k21) gS (sound tDu c g _ xd (by rw[ab8];exact k19)).toT g3 g4 g5 h1 (cal k20b) (sound t9b c g _ x9 (by rw[ab8];exact k16)).toT h2 h3 h4 hrt
  have ab2:jf (((ρ.set sk (.raw o.a dOb rfN)).set sd (.val dd)).set st (.own lA []))=(((jf ρ).set sk (.exc rfN)).set sd (.val dd)).set st (.own []):=by rw[jw,jw,jw];rfl
  have hk2:(((ρ.set sk (.raw o.a dOb rfN)).set sd (.val dd)).set st (.own lA []))[sk]?=aa (.raw o.a dOb rfN):=by rw[Xl (ba z4),Xl (ba z3),Xr z1]
  rcases kr.ex with ⟨e0,e1r,e2r⟩|⟨e0,pa,dt,x01,e1r,e2r,e3r,e4r,e5r,e6r,e7r⟩
  .subst e1r e2r;refine KSs.ife hz (sound t5 c g _ ae (by rw[ab2];exact e0)) (λz=>absurd z (by decide)) λ_=>?_;exact go _ lA [] ab2 hk2 (by rw[Xr (by simp;omega)]) (by simp) (λq hq=>nomatch hq) (by simp)
  .subst e7r;refine KSs.ife hz (sound t5 c g _ ag (by rw[ab2];exact e0)) (λ_=>?_) (λz=>absurd z (by decide));refine KSs.plain hz (N:=λρ1=>ρ1=(((ρ.set sk (.raw o.a dOb rfN)).set sd (.val dd)).set st (.own lA [])).set sa (.val (.str pa))) (DS.set sa (show DE X _ eA (.str pa)from sound tA c g (((ρ.set sk (.raw o.a dOb rfN)).set sd (.val dd)).set st (.own lA [])) (.e (.str pa)) (by rw[ab2];exact e1r)) rfl c.nd ma.n ma.l b3 ma.f) ?_;rintro ρ1 rfl;have st3:((((ρ.set sk (.raw o.a dOb rfN)).set sd (.val dd)).set st (.own lA [])).set sa (.val (.str pa)))[st]?=aa (.own lA []):=by rw[Xl (ba z8),Xr (by simp;omega)]
   refine KSs.plain hz (N:=λρ1=>ρ1=((((ρ.set sk (.raw o.a dOb rfN)).set sd (.val dd)).set st (.own lA [])).set sa (.val (.str pa))).set st (.own lA [dt])) (DS.append st (d:=dt) st3 (show DE X _ eT dt from sound tT c g ((((ρ.set sk (.raw o.a dOb rfN)).set sd (.val dd)).set st (.own lA [])).set sa (.val (.str pa))) (.e dt) (by rw[jw,ab2];exact e2r)) (by rw[aW];simp) rfl mt.n mt.v mt.d mt.c b4 b5 b6 b7 b8) ?_;rintro ρ1 rfl;have ab5:jf (((((ρ.set sk (.raw o.a dOb rfN)).set sd (.val dd)).set st (.own lA [])).set sa (.val (.str pa))).set st (.own lA [dt]))=r5:=by rw[jw,jw,ab2];exact e3r.symm
   have hk5:(((((ρ.set sk (.raw o.a dOb rfN)).set sd (.val dd)).set st (.own lA [])).set sa (.val (.str pa))).set st (.own lA [dt]))[sk]?=aa (.raw o.a dOb rfN):=by rw[Xl (ba z4),Xl (ba z5)];exact hk2
   have sa5:(((((ρ.set sk (.raw o.a dOb rfN)).set sd (.val dd)).set st (.own lA [])).set sa (.val (.str pa))).set st (.own lA [dt]))[sa]?=aa (.val (.str pa)):=by rw[Xl z8,Xr (by simp;omega)]
   refine KSs.ansEq T hz hk5 mk.n mk.v mk.d mk.c c1 rfl (DE.var sa sa5 ma.n ma.v ma.d ma.c).toT e6r hps (by simp) (λq hq=>nomatch hq) (e5r▸(sound t01 c g _ x01 (by rw[ab5];exact e4r)).toT) (KSs.nil ?_);exact go _ lA [dt] ab5 hk5 (by rw[Xr (by simp;omega)]) (by simp) (Cy λq hq=>nomatch hq) (Xf Cw (by simp))
 .exact h.elim
end
section
variable{X:Cx}{C:ai}{ρ:Rho}{P:Po}{eP eL eDu:ar}{p1 p2 p3 p4 p5 p6 p7:aL}{sq:Bool}{ps l:List ao}{n:Int}{d d2:D}
theorem DS.klast (ck:CalK X C sq ps) (cp:CalPl X C Z0 d l n ps (λ_=>0)) (cs:Cal X "_law_same" (spP X.K λds' d'=>ds'=[.tup [.int n,.lst (ql (λ_=>0) l)],d2]/\d'=.bl ag)) (gK:Gl X "Keeper") (gP:Gl X "played") (gS:Gl X "_law_same") (heP:DT X ρ eP d) (heL:DT X ρ eL (D.seq sq (ps.map D.str))) (heD:DT X ρ eDu d2) (hll:l.length<400)
  (s1:af [.Call (.Name "played" p2) [eP,.Call (.Name "Keeper" p3) [eL] [] p4] [] p5,eDu] X.env=(ae,az (.Call (.Name "played" p2) [eP,.Call (.Name "Keeper" p3) [eL] [] p4] [] p5) X.env)::af [eDu] X.env) (s2:af [eDu] X.env=(ae,az eDu X.env)::af [] X.env) (s3:(aJ p6 (af [eDu] X.env)).any (·.1)=ae)
  (s4:af [eP,.Call (.Name "Keeper" p3) [eL] [] p4] X.env=(ae,az eP X.env)::af [.Call (.Name "Keeper" p3) [eL] [] p4] X.env) (s5:af [.Call (.Name "Keeper" p3) [eL] [] p4] X.env=(ae,az (.Call (.Name "Keeper" p3) [eL] [] p4) X.env)::af [] X.env) (s6:(aJ p5 (af [.Call (.Name "Keeper" p3) [eL] [] p4] X.env)).any (·.1)=ae)
  (s7:af [eL] X.env=(ae,az eL X.env)::af [] X.env) (hrt:P.rt (.val (.bl ag))) :
  DS X ρ (.Return (aa (.Call (.Name "_law_same" p1) [.Call (.Name "played" p2) [eP,.Call (.Name "Keeper" p3) [eL] [] p4] [] p5,eDu] [] p6)) p7) P:=λσ H E R q=>by
 obtain⟨k,f,fd,GI,hr,hm,M,hb⟩:=ck.ex;obtain⟨kp,fp,fdp,pp,Fp,hrp,hmp,hkp,hbp⟩:=cp.ex;obtain⟨ks,fs,fds,pss,Fs,hrs,hms,hks,hbs,_⟩:=cs.ex;refine(Q5 (Jv Fs (hrs.mono (by omega)) gS hms hks hbs .nil Jj (ji (Jv Fp hrp gP hmp hkp hbp .nil Jj (ji peS (ji (Ie M GI hr gK hm hb .nil Jj (ji peS jl s7) (by decide) s7 rfl) jl s5) s4) (by decide) s4 s6) (ji peS jl s2) s1) (by decide) s1 s3)).to ?_;refine heP σ H _ R λvP H1 g1 enP=>heL σ H1 _ (R.grow g1) λv H2 g2 en1=>?_;intro x dx hx hdx ndx;have g0:=g1.trans g2;have gI:jb H2 (upd (upd H2 dx (.own x)) x (.ins C dx [])):=λc u ec=>by rw[jj (jm ec hx),jj (jm ec hdx)];exact ec
 refine⟨x,dx,v,rfl,je,(R.grow (g0.trans gI)).tb,(en1.mono gI),λt b H' hbn nba ha sqt hbd bt=>⟨rfl,?_⟩⟩;have back:∀{c:ai},H2 c=ah->H1 c=ah:=λ{c} h=>by
  cases e:H1 c with
  |none=>rfl
  |some u=>rw[g2 _ _ e]at h;cases h
 have hbn2:H2 b=ah:=by
  cases e:H2 b with
  |none=>rfl
  |some u=>rw[gI _ _ e]at hbn;cases hbn
 have hHb:=back hbn2;have hHx:=back hx;have gF:jb H1 (del H' [b]):=λc u ec=>by have nc:c≠b:=jm ec hHb;have nx:c≠x:=jm ec hHx;rw[jc (by simpa using nc)];exact bt c u nx (gI _ _ (g2 _ _ ec))
 have eH:H'=upd (del H' [b]) b (.dK (kvI [])):=Y5 hbd;have fb:del H' [b] b=ah:=qp (by simp);have mv:∀{a:ai}{ys:List V},SqT X.K H' a ys->SqT X.K (del H' [b]) a ys:=λ{a ys} h=>j1a (λu hu n1 n2=>by
  have nb:a≠b:=λz=>by rw[z,hbd]at hu;cases hu;exact n2 _ rfl
  rw[jc (by simpa using nb)]
  exact hu) h
 have ha':del H' [b] x=aa (.ins C dx (kpF t b)):=by rw[jc (by simpa using ba nba)];exact ha
 have sq':=mv sqt;generalize del H' [b]=F at eH fb gF ha' sq';subst eH;refine⟨⟨x,dx,t,b,kpF t b,ps,λ_=>0⟩,[],F,vP,rfl,rfl,fb,⟨ha',rfl,?_,?_,?_,?_,sq',λ_=>rfl⟩,(R.grow (g1.trans gF)).tb,enP.mono gF,rfl,rfl,by show 0+l.length<1000;omega,(λq hq=>nomatch hq),λp' l' xs F2 g2' hb2 _ _ _ x1 x2 x3=>?_⟩
 .show(kpF t b).lookup ("remembered":ao)=_;unfold kpF;rw[xj,show(("remembered":ao)==("places":ao))=ae by decide +kernel];rfl
 .show(kpF t b).lookup ("answer":ao)=ah;unfold kpF;rw[xj,show(("answer":ao)==("places":ao))=ae by decide +kernel,xj,show(("answer":ao)==("remembered":ao))=ae by decide +kernel];rfl
 .show(kpF t b).lookup ("told":ao)=ah;unfold kpF;rw[xj,show(("told":ao)==("places":ao))=ae by decide +kernel,xj,show(("told":ao)==("remembered":ao))=ae by decide +kernel];rfl
 .show(kpF t b).lookup ("first_answer":ao)=ah;unfold kpF;rw[xj,show(("first_answer":ao)==("places":ao))=ae by decide +kernel,xj,show(("first_answer":ao)==("remembered":ao))=ae by decide +kernel];rfl
 generalize qy ⟨x,dx,t,b,kpF t b,ps,λ_=>0⟩ l []=kvs';have hb2:F2 b=ah:=hb2;have gA:jb H F2:=g1.trans (gF.trans g2');show vm X eDu σ (upd F2 b (.dK (kvI kvs'))) _;refine Jh (A:=[b]) (Q':=λv F3=>jb F2 F3/\Enc X.K F3 d2 v) Vg (by rw[J2 hb2];exact heD σ F2 _ (R.grow gA) λv F3 g en=>⟨g,en⟩) λv F3 ⟨g3,en⟩ hn=>?_;rw[J6 je];have f3b:F3 b=ah:=hn b (by simp);have gU:jb F3 (upd F3 b (.dK (kvI kvs'))):=jg f3b;have gB:=g3.trans gU;have en1:Enc X.K (upd F3 b (.dK (kvI kvs'))) (.tup [.int n,.lst (ql (λ_=>0) l)]) (.ref p'):=⟨p',_,rfl,.inl (.inl (gB _ _ x1)),_,_,rfl,rfl,_,_,rfl,⟨l',xs,rfl,.inl (.inl (gB _ _ x2)),x3.mono (jq.trans gB)⟩,rfl⟩
 refine⟨[],[.tup [.int n,.lst (ql (λ_=>0) l)],d2],.bl ag,(R.grow (gA.trans gB)).tb,(λa h=>nomatch h),by rw[zr];exact⟨_,_,rfl,en1,_,_,rfl,en.mono gU,rfl⟩,⟨rfl,rfl⟩,λu H4 g4 e4=>?_⟩;cases(show u=.bl ag from e4);exact q.rt _ _ _ hrt ⟨jq.trans (gA.trans (gB.trans g4)),rfl⟩
end
def KlC(Γ:ao->List D->Rc)(G:ao->Option D)(eP eL eDu:Ex)(r0:En):Prop:=∃(sq:Bool)(ps l:List ao)(n:Int)(xp xl xd:Rk),ev Γ G eP r0=aa (.v xp)/\ev Γ G eL r0=aa (.v xl)/\xl.d=D.seq sq (ps.map D.str)/\ev Γ G eDu r0=aa (.v xd)/\l.length<400 /\
 Γ "refuse_wrong_places" [D.seq sq (ps.map D.str)]=.val .non/\Γ (gq "played") [xp.d,.tup (ps.map D.str),.non]=.hnd (Vq xp.d ps l n)/\Γ "_law_same" [.tup [.int n,.lst (ql (λ_=>0) l)],xd.d]=.val (.bl ag)
open Classical in
noncomputable def klG(eP eL eDu:Ex):Nat->(ao->List D->Rc)->(ao->Option D)->En->So:=λ_ Γ G r0=>if KlC Γ G eP eL eDu r0 then .ret (.val (.bl ag))else .no
section
variable{X:Cx}{C R:ai}
theorem Ts.klast {eP' eL' eDu':Ex} {eP eL eDu:ar} {p1 p2 p3 p4 p5 p6 p7:aL} (ko:KeepOk X.prog X.w X.K X.mg X.base C R) (gK:Gl X "Keeper") (gP:Gl X "played") (gS:Gl X "_law_same") (tP:Tr X eP' (.e eP)) (tL:Tr X eL' (.e eL)) (tD:Tr X eDu' (.e eDu))
  (s1:af [.Call (.Name "played" p2) [eP,.Call (.Name "Keeper" p3) [eL] [] p4] [] p5,eDu] X.env=(ae,az (.Call (.Name "played" p2) [eP,.Call (.Name "Keeper" p3) [eL] [] p4] [] p5) X.env)::af [eDu] X.env) (s2:af [eDu] X.env=(ae,az eDu X.env)::af [] X.env) (s3:(aJ p6 (af [eDu] X.env)).any (·.1)=ae)
  (s4:af [eP,.Call (.Name "Keeper" p3) [eL] [] p4] X.env=(ae,az eP X.env)::af [.Call (.Name "Keeper" p3) [eL] [] p4] X.env) (s5:af [.Call (.Name "Keeper" p3) [eL] [] p4] X.env=(ae,az (.Call (.Name "Keeper" p3) [eL] [] p4) X.env)::af [] X.env) (s6:(aJ p5 (af [.Call (.Name "Keeper" p3) [eL] [] p4] X.env)).any (·.1)=ae)
  (s7:af [eL] X.env=(ae,az eL X.env)::af [] X.env) :
  Ts X (.seq (.prm (klG eP' eL' eDu')) .nop) (.ss [.Return (aa (.Call (.Name "_law_same" p1) [.Call (.Name "played" p2) [eP,.Call (.Name "Keeper" p3) [eL] [] p4] [] p5,eDu] [] p6)) p7]):=by
 refine Ts.prm (rest:=[]) (λfu Γ G c g ρ P N h hr=>?_) Ts.nil;unfold klG at h;split at h
 .rename_i hx;obtain⟨sq,ps,l,n,xp,xl,xd,k1,k2,k3,k4,k5,k6,k7,k8⟩:=hx;have cal:∀{f:ao}{ds:List D}{d:D},Γ f ds=.val d->Cal X f (spP X.K λds' d'=>ds'=ds/\d'=d):=λ{f ds d} e=>by have z:=g f ds;rw[e]at z;exact z
  have cp:CalPl X C Z0 xp.d l n ps (λ_=>0):=by have q:=g (gq "played") [xp.d,.tup (ps.map D.str),.non];rw[k7]at q;obtain⟨k,f,fd,pp,F,hrm,hm,hk,hb⟩:=(q "played" rfl).ex;exact⟨k,f,fd,pp,F.imp λvs H Q E z=>⟨C,ko.mc,z⟩,hrm.mono (by omega),hm,hk,hb⟩
  have d:=DS.klast (P:={ P with nx:=λ_=>False }) (p1:=p1) (p7:=p7) (ko.ik rfl rfl rfl rfl rfl (cal k6)) cp (cal k8) gK gP gS (sound tP c g ρ xp k1).toT (k3▸(sound tL c g ρ xl k2).toT) (sound tD c g ρ xd k4).toT k5 s1 s2 s3 s4 s5 s6 s7 (h (.val (.bl ag)) rfl);exact λσ H E R q=>(Jt psS).to (d σ H E R ⟨λ_ _ _ n=>n.elim,q.bk,q.ct,q.rt,q.ex⟩)
 .exact h.elim
end
theorem lmc_mk{K:k5g}{C f:ai}{x q:ao}{st:aG}{oc:aj}{od:Option ai}{kV dc pm:aj}{an:Option ai}{cd ct:aj}{sl:Array (Option aj)}(a:bb K (.ref C) x=aa (aa (.ref f)))(i:iT K (.ref f)=ag)
  (l:K.lookup f=aa ⟨oc,od,.func (br x q (jy st) (jh st) (j0 st) .none kV dc pm an cd ct),sl⟩) (c:gw K cd q=ag) (k:dy K (.ref f)=ag) (r:PySem.W.readsIn K C (.type "type")=ag) (fc:PySem.W.findCls K (.ref C) (.type "type") x=aa (.val (.ref f)))
  (ga:PySem.W.specialIn K (.ref C) "__getattribute__" = aa (aa (.builtin "type.__getattribute__"))):∃f,Lm K C f x q st/\CMeth K C x f:=⟨f,⟨oc,od,kV,dc,pm,an,cd,ct,sl,a,i,l,c,k⟩,⟨_,r,fc⟩,rfl,ga,k⟩
theorem lmr_mk{K:k5g}{C R f:ai}{x q:ao}{st:aG}{oc:aj}{od:Option ai}{kV dc pm:aj}{an:Option ai}{cd ct:aj}{sl:Array (Option aj)}(a:bb K (.ref C) x=aa (aa (.ref f)))(i:iT K (.ref f)=ag)
  (l:K.lookup f=aa ⟨oc,od,.func (br x q (jy st) (jh st) (j0 st) .none kV dc pm an cd ct),sl⟩) (c:gw K cd q=ag) (k:dy K (.ref f)=ag) (r:bb K (.ref R) x=aa (aa (.ref f))):∃f,Lm K C f x q st/\bb K (.ref R) x=aa (aa (.ref f)):=⟨f,⟨oc,od,kV,dc,pm,an,cd,ct,sl,a,i,l,c,k⟩,r⟩
end L2
end
section
open PySem (Str)
open L2
noncomputable def jfb:=(k5f (k5f (k5f (k5f (k5f (k5f (k5f @j7v @jck) (k5f @Ou @j7t)) (k5f (k5f @j43 @j7u) (k5f @j3z (k5f @j7w @j41)))) (k5f (k5f (k5f @j7x @j42) (k5f @j2a (k5f @Ov @j5w))) (k5f (k5f @jcj @j4e) (k5f @Ig (k5f @j1c @Dr))))) (k5f (k5f (k5f (k5f @jf6 @jf7) (k5f @jai (k5f @jaj @jas))) (k5f (k5f @j1g @j7z) (k5f @jcg (k5f @j8j @jdd)))) (k5f (k5f (k5f @Iu @j5n) (k5f @jcp (k5f @jch @j98))) (k5f (k5f @jcv @jct) (k5f @jcs (k5f @jcw @jfg)))))) (k5f (k5f (k5f (k5f (k5f @jcm @jcq) (k5f @jcn (k5f @j99 @jci))) (k5f (k5f @jco @jfh) (k5f @jff (k5f @j9b @jcu)))) (k5f (k5f (k5f @jcr @j9a) (k5f @jcl (k5f @j5p @j9t))) (k5f (k5f @j9u @j93) (k5f @jc8 (k5f @jfk @jdb))))) (k5f (k5f (k5f (k5f @j66 @j62) (k5f @j64 (k5f @j38 @j65))) (k5f (k5f @j63 @jda) (k5f @jd8 (k5f @jd2 @d_e)))) (k5f (k5f (k5f @d_o @d_w) (k5f @jd3 (k5f @j5v @j5y))) (k5f (k5f @j5x @j2x) (k5f @j50 (k5f @j2n @j2o))))))) (k5f (k5f (k5f (k5f (k5f (k5f @j2p @j2q) (k5f @j2r @j2s)) (k5f (k5f @j2t @j2u) (k5f @j2v (k5f @j2w @jc6)))) (k5f (k5f (k5f @jat @j7j) (k5f @jdf (k5f @jde @jej))) (k5f (k5f @jek @jbh) (k5f @je5 (k5f @jc3 @jc4))))) (k5f (k5f (k5f (k5f @j9f @ja0) (k5f @j9z (k5f @jbo @jbn))) (k5f (k5f @Ip @jc1) (k5f @jc0 (k5f @jf3 @jf1)))) (k5f (k5f (k5f @j60 @j5z) (k5f @jag (k5f @jeb @jec))) (k5f (k5f @jed @j9k) (k5f @j9j (k5f @j9i @jev)))))) (k5f (k5f (k5f (k5f (k5f @jet @jbk) (k5f @j7i (k5f @j3j @j8l))) (k5f (k5f @jfm @jc5) (k5f @j7q (k5f @jal @j45)))) (k5f (k5f (k5f @j97 @j7s) (k5f @ja9 (k5f @j9w @jd5))) (k5f (k5f @jf2 @je8) (k5f @jd9 (k5f @jeu @j54))))) (k5f (k5f (k5f (k5f @j57 @j8w) (k5f @j8r (k5f @j5a @j56))) (k5f (k5f @j8v @j8q) (k5f @j59 (k5f @j53 @j8u)))) (k5f (k5f (k5f @j8p @j58) (k5f @j52 (k5f @j8s @j55))) (k5f (k5f @j8t @j8y) (k5f @j90 (k5f @j8z @j8x))))))))
local macro_rules | `(tactic| walk_at "go")=>`(tactic| try simp (disch:=first | omega | assumption | (simp only [List.length_map,List.length_append,List.length_cons,List.length_nil,List.length_take,List.length_drop,List.length_reverse] <;> omega)) only [jfb,Zd,beq_self_eq_true,frz,Jd,j5l,List.getElem?_cons_zero,List.getElem?_cons_succ,List.set_cons_zero,List.set_cons_succ,List.map_cons,List.map_nil,List.cons_append,List.nil_append,List.replicate,List.length_map,List.length_append,List.length_cons,List.length_nil,Bool.not_true,Bool.not_false,bne_self_eq_false,Nat.reduceSub,Nat.reduceAdd,Int.reduceToNat,Int.reducePow])
local macro_rules | `(tactic| ext)=>`(tactic| walk_at "go")
namespace KL
noncomputable def Vc:Sx:=(.seq (.ife (.cmp .lt (.var 1) (.blt .len (.cons (.var 0) .nil))) (.seq (.ret (.ix (.var 0) (.var 1))) .nop) .nop) (.seq (.set 2 (.bin .add (.lit (.int 70001)) (.bin .mul (.bin .mul (.lit (.int 911)) (.var 1)) (.var 1)))) (.seq (.ife (.cmp .gt (.blt .len (.cons (.var 0) .nil)) (.lit (.int 0))) (.seq (.set 2 (.bin .add (.var 2) (.bin .mul (.bin .mod (.ix (.var 0) (.lit (.int 0))) (.lit (.int 9973))) (.bin .add (.bin .mul (.lit (.int 3)) (.var 1)) (.lit (.int 1)))))) .nop) .nop) (.seq (.retV 2) .nop))))
noncomputable def fL_cell:Fi:=⟨2,3,Vc,ae⟩
noncomputable def Zf:Sx:=(.seq (.ife (.isi (.var 1) ["list","tuple"]) (.seq (.ife (.or (.cmp .ne (.isi (.var 0) ["list"]) (.isi (.var 1) ["list"])) (.not (.isi (.var 0) ["list","tuple"]))) (.seq (.ret (.lit (.bl ae))) .nop) .nop) (.seq (.set 2 (.comp [3] (.var 3) (.range (.cons (.blt .min (.cons (.blt .len (.cons (.var 0) .nil)) (.cons (.blt .len (.cons (.var 1) .nil)) .nil))) .nil)) (.cons (.not (.call "_law_same" (.cons (.ix (.var 0) (.var 3)) (.cons (.ix (.var 1) (.var 3)) .nil)))) .nil))) (.seq (.ret (.and (.cmp .eq (.blt .len (.cons (.var 0) .nil)) (.blt .len (.cons (.var 1) .nil))) (.cmp .eq (.var 2) (.lst .nil)))) .nop))) .nop) (.seq (.ife (.isN (.var 1)) (.seq (.ret (.isN (.var 0))) .nop) .nop) (.seq (.ife (.or (.cmp .ne (.isi (.var 0) ["bool"]) (.isi (.var 1) ["bool"])) (.cmp .ne (.isi (.var 0) ["str"]) (.isi (.var 1) ["str"]))) (.seq (.ret (.lit (.bl ae))) .nop) .nop) (.seq (.ret (.and (.isi (.var 0) ["int","str"]) (.cmp .eq (.var 0) (.var 1)))) .nop))))
noncomputable def fL_same:Fi:=⟨2,4,Zf,ae⟩
section
variable{G:ao->Option D}{T:ao->Option Fi}
noncomputable def zq(ns:List Int)(k:Nat):Int:=match ns[k]? with
 |some v=>v
 |none=>match ns with
  |[]=>70001+911*k*k
  |v::_=>70001+911*k*k+v%9973*(3*k+1)
theorem Vv {fu n:Nat} (hT:T "_law_cell" = aa fL_cell) {ns:List Int} {k:Nat} (hk:k<=100):evP fu G T (n+1) "_law_cell" [.lst (ns.map .int),.int k]=.val (.int (zq ns k)):=by
 rw[qx (F:=fL_cell) hT rfl];simp only[fL_cell,Vc,enter];by_cases h:k<ns.length
 .have e:atI (ns.map D.int) (k:Int)=aa (.int ns[k]):=Qu (by simp[h]);have q:zq ns k=ns[k]:=by simp[zq,h]
  ext;simp only[e,Ip,j1g,Ig,Dr,Iu,q]
 .cases ns with
  |nil =>ext;simp[zq]
  |cons v r =>
   have e:atI (D.int v::r.map D.int) 0=aa (.int v):=by simp[atI,ixN]
   have q:zq (v::r) k=70001+911*k*k+v%9973*(3*k+1):=by unfold zq;rw[dJ (by omega)]
   rw[xx];rw[xg]at h;ext;simp only[e];ext;rw[q]
theorem Bu {fu:Nat} (hT:T "_law_same" = aa fL_same):∀(k:Nat){x:D}{n:Nat},x.dep<=k->J3 x->evP fu G T (n+k+1) "_law_same" [x,x]=.val (.bl ag):=by
 intro k;induction k with
 |zero =>
  intro x n hk hx;rw[qx (F:=fL_same) hT rfl];simp only[fL_same,Zf,enter];cases x with
  |tup l=>simp[D.dep]at hk
  |lst l=>simp[D.dep]at hk
  |dct ks l=>simp[D.dep]at hk
  |sct k=>simp[D.dep]at hk
  |fn x l=>simp[D.dep]at hk
  |non=>ext
  |bl b=>ext
  |int i=>ext
  |str z=>ext
 |succ k ih =>
  intro x n hk hx;have ih':∀{x:D},x.dep<=k->J3 x->evP fu G T (n+(k+1)) "_law_same" [x,x]=.val (.bl ag):=λh1 h2=>ih h1 h2;rw[qx (F:=fL_same) hT rfl];simp only[fL_same,Zf,enter];cases x with
  |dct ks l=>exact aU (by simpa [J3]using hx)
  |sct k=>exact aU (by simpa [J3]using hx)
  |fn x l=>exact aU (by simpa [J3]using hx)
  |tup l =>
   obtain⟨hl,hx⟩:=j24 hx;have hk:D.depL l<=k:=by simp only[D.dep]at hk;omega
   ext;rw[Xw,J8 (l:=[]) (by rfl) (by rw[vp];omega) ?_ (.inl rfl)]
   .ext
   .refine U7 λd hd=>?_;obtain⟨j,hj,rfl⟩:=Cq hd;have hg:atI l (0+(j:Int))=aa l[j]:=by rw[dC];exact Qu (kh hj)
    have hm:l[j]∈l:=tu hj;refine Yj (b:=ae) (d':=.non) ?_ λz=>by cases z
    ext;simp only[hg];ext;rw[ih' (Xf (D.depL_mem hm) hk) (Yy hx hm)];ext
  |lst l =>
   obtain⟨hl,hx⟩:=j25 hx;have hk:D.depL l<=k:=by simp only[D.dep]at hk;omega
   ext;rw[Xw,J8 (l:=[]) (by rfl) (by rw[vp];omega) ?_ (.inl rfl)]
   .ext
   .refine U7 λd hd=>?_;obtain⟨j,hj,rfl⟩:=Cq hd;have hg:atI l (0+(j:Int))=aa l[j]:=by rw[dC];exact Qu (kh hj)
    have hm:l[j]∈l:=tu hj;refine Yj (b:=ae) (d':=.non) ?_ λz=>by cases z
    ext;simp only[hg];ext;rw[ih' (Xf (D.depL_mem hm) hk) (Yy hx hm)];ext
  |non=>ext
  |bl b=>ext
  |int i=>ext
  |str z=>ext
theorem Z5(n:Nat):upto 0 n=(aP n).map λ(k:Nat)=>D.int (0+(k:Int)):=rfl
theorem j95{p:List Int}{k:Nat}(h:k<p.length):atI (p.map D.int) (0+(k:Int))=aa (.int (p.getD k 0)):=by rw[dC];refine Qu ?_;rw[Xe,kh h,km,kh h];rfl
theorem j5s(ns:List Int)(lo hi:Option Int):∃ms:List Int,cutD (ns.map D.int) lo hi=ms.map D.int/\ms.length<=ns.length:=by unfold cutD;refine⟨(ns.drop _).take _,by rw[List.map_take,List.map_drop],?_⟩;rw[Xo,Xu];omega
end
end KL
namespace KV
open PySem
noncomputable def letters:List Nat:=[109,100,107,98,118,113,104,122,99,103,114,110,97,112,120,111,108,115,105,101,102,119,116,121,106,117]
theorem j8i:("mdkbvqhzcgrnapxolsiefwtyju":ao).cps.toList=letters:=by decide +kernel
noncomputable def lt(n:Int):Nat:=letters.getD n.toNat 0
noncomputable def sL(l:List Nat):ao:=⟨l.toArray⟩
theorem J9{l:List Nat}:(sL l).length=l.length:=by simp[sL,lr]
theorem jan{l m:List Nat}(h:sL l=sL m):l=m:=by have:=congrArg (λz=>z.cps.toList) h;simpa [sL]using this
theorem Um{l m:List Nat}:sL l++sL m=sL (l++m):=by show(⟨l.toArray++m.toArray⟩:ao)=_;simp[sL]
theorem Mu:∀l:List Nat,dN ("":ao) (l.map λc=>(⟨#[c]⟩:ao))=sL l:=by
 intro l;show lx _ _=_;rw[StrLaws.glued_eq_join];induction l with
 |nil=>rfl
 |cons a r ih =>
  cases r with
  |nil=>rfl
  |cons b r =>
   rw[xx,xx,Str.join,<-xx (f:=λc=>(⟨#[c]⟩:ao)),ih]
   .show(⟨(#[a] ++ #[])++(b::r).toArray⟩:ao)=⟨(a::b::r).toArray⟩
    simp
   .intro z;cases z
theorem j1f{l:List Nat}:(sL l).cps.toList=l:=by simp[sL]
theorem O2{k n:Nat}:aM ah (aa (k:Int)) 1 n=aM (aa ((0:Nat):Int)) (aa (k:Int)) 1 n:=by
 have e:max (0:Int) (min 0 (n:Int))=0:=by omega
 simp[aM,e]
theorem O3{k n:Nat}:aM (aa (k:Int)) ah 1 n=aM (aa (k:Int)) (aa (n:Int)) 1 n:=by
 have e:max (0:Int) (min (n:Int) (n:Int))=n:=by omega
 have e2:¬((n:Int)<0):=by omega
 simp[aM,e,e2]
theorem Dp{l:List Nat}{a b:Nat}{lo hi:Option Int}(he:aM lo hi 1 (sL l).length=aM (aa (a:Int)) (aa (b:Int)) 1 (sL l).length)(hab:a<=b)(hb:b<=l.length):bJ (sL l) lo hi=sL ((l.drop a).take (b-a)):=by
 have hb':b<=(sL l).length:=by rw[J9];exact hb
 have q:=StrLaws.sliced_plain (sL l) hab hb';rw[j1f]at q;have e1:=StrLaws.strSliceIndices_plain hab hb';unfold bJ;rw[he];by_cases h:((1:Int)==1&&(aM (aa (a:Int)) (aa (b:Int)) 1 (sL l).length).length==(sL l).length)=ag
 .rw[if_pos h];rw[e1,J9,X5,cP]at h;have:b-a=l.length:=by simpa using h
  have ha:a=0:=by omega
  subst ha;rw[this,fW,iP]
 .rw[if_neg h,q];rfl
theorem M9{l:List Nat}{k:Nat}(h:k<=l.length):bJ (sL l) ah (aa (k:Int))=sL (l.take k):=by rw[Dp (a:=0) (b:=k) O2 (bM _) h];simp
theorem Ma{l:List Nat}{k:Nat}(h:k<=l.length):bJ (sL l) (aa (k:Int)) ah=sL (l.drop k):=by rw[Dp (a:=k) (b:=l.length) (by rw[O3,J9]) h (X3 _),gr (by rw[Xu];omega)]
theorem Uv {l:List Nat} (h:l.length<=100):eQ ("":ao) (l.map λc=>(⟨#[c]⟩:ao))=ag:=by
 unfold eQ;rw[f6];have e:∀(r:List Nat)(k:Nat),(r.map λc=>(⟨#[c]⟩:ao)).foldl (λ(x:Nat) (y:ao)=>x+y.length+("":ao).length) k=k+r.length:=by
  intro r;induction r with
  |nil=>intro k;rfl
  |cons a r ih =>intro k;rw[xx,dB,ih,xg];show k+1+0+r.length=_;omega
 show bY _=ae;have:=e l 0;rw[List.foldl_toArray];show bY (cG (λ(x:Nat) (y:ao)=>x+y.length+("":ao).length) 0 _)=ae;rw[this];unfold bY;simp;have:=aW;omega
noncomputable def Zi(c:Int):List Nat:=(aP 8).map λ(k:Nat)=>lt (c/(4+5*(k:Int))%26)
noncomputable def Qv(c:Int)(s:Nat):List Nat:=(aP s).map λ(k:Nat)=>lt ((c/32+3*(k:Int)*(k:Int)+(k:Int))%26)
theorem J1(c:Int):(Zi c).length=8:=by simp[Zi]
theorem za(c:Int)(s:Nat):(Qv c s).length=s:=by simp[Qv]
noncomputable def stN(c:Int)(m:Nat):Nat:=(c/8%(9-(m:Int))).toNat
noncomputable def szN(c:Int):Nat:=(c/4%8).toNat
noncomputable def atN(c:Int):Nat:=(c/512%((szN c:Int)+1)).toNat
noncomputable def wrd(c:Int)(m k:Nat):List Nat :=
 if c%4<2 then(if c%4=0 then(Zi c).take (stN c m+k+1) else(Zi c).drop (8-stN c m-k-1))
 else(Qv c (szN c)).take (atN c)++lt ((c/9+7*(k:Int))%26)::(Qv c (szN c)).drop (atN c)
noncomputable def vz(c:Int)(m:Nat):List ao:=(aP m).map λ(k:Nat)=>sL (wrd c m k)
theorem jbm{a b:Int}(ha:0<=a/\a<26)(hb:0<=b/\b<26)(h:lt a=lt b):a=b:=by
 obtain⟨i,rfl⟩:∃i:Nat,a=(i:Int):=⟨a.toNat,by omega⟩
 obtain⟨j,rfl⟩:∃j:Nat,b=(j:Int):=⟨b.toNat,by omega⟩
 have key:∀i j:Fin 26,letters.getD i.val 0=letters.getD j.val 0->i=j:=by decide +kernel
 have:=key ⟨i,by omega⟩ ⟨j,by omega⟩ h;have:=congrArg Fin.val this;simp at this;omega
theorem Er{c:Int}{m:Nat}(h:m<=6):stN c m+m<=8:=by unfold stN;have h1:=Pu (c/8) (show(9-(m:Int))≠0 by omega);have h2:=cJ (c/8) (show(0:Int)<9-(m:Int)by omega);omega
theorem De(c:Int):atN c<=szN c/\szN c<=7:=by unfold atN;have h1:=Pu (c/512) (show((szN c:Int)+1)≠0 by omega);have h2:=cJ (c/512) (show(0:Int)<(szN c:Int)+1 by omega);refine⟨by omega,?_⟩;unfold szN;omega
theorem j7e{c:Int}{m i j:Nat}(hm:m<=6)(hi:i<m)(hj:j<m)(h:wrd c m i=wrd c m j):i=j:=by
 have s:=Er (c:=c) hm;have a:=De c;have l8:=J1 c;have ls:=za c (szN c);unfold wrd at h;split at h
 .split at h
  .have:=congrArg gX h;rw[Xo,Xo]at this;omega
  .have:=congrArg gX h;rw[Xu,Xu]at this;omega
 .have h2:=List.append_cancel_left h;have h3:=(List.cons.inj h2).1;have:=jbm (by omega) (by omega) h3;omega
theorem Nz(c:Int)(m:Nat):(vz c m).length=m:=by simp[vz]
theorem Di{c:Int}{m:Nat}(hm:m<=6):(vz c m).Nodup:=by unfold vz;unfold List.Nodup;rw[List.pairwise_map];exact List.Pairwise.imp_of_mem (λhi hj h e=>h (j7e hm (Xy.mp hi) (Xy.mp hj) (jan e))) (List.nodup_range (n:=m))
end KV
open PySem (Str)
open L2
namespace KW
open KL KV PySem
noncomputable def Qn:Sx:=(.seq (.set 2 (.lit (.str "mdkbvqhzcgrnapxolsiefwtyju"))) (.seq (.ife (.cmp .lt (.bin .mod (.var 0) (.lit (.int 4))) (.lit (.int 2))) (.seq (.set 3 (.join "" (.comp [4] (.ix (.var 2) (.bin .mod (.bin .fdiv (.var 0) (.bin .add (.lit (.int 4)) (.bin .mul (.lit (.int 5)) (.var 4)))) (.lit (.int 26)))) (.range (.cons (.lit (.int 8)) .nil)) .nil))) (.seq (.set 5 (.bin .mod (.bin .fdiv (.var 0) (.lit (.int 8))) (.bin .sub (.lit (.int 9)) (.var 1)))) (.seq (.ife (.cmp .eq (.bin .mod (.var 0) (.lit (.int 4))) (.lit (.int 0))) (.seq (.ret (.comp [4] (.sl (.var 3) .nil (.cons (.bin .add (.bin .add (.var 5) (.var 4)) (.lit (.int 1))) .nil)) (.range (.cons (.var 1) .nil)) .nil)) .nop) .nop) (.seq (.ret (.comp [4] (.sl (.var 3) (.cons (.bin .sub (.bin .sub (.bin .sub (.lit (.int 8)) (.var 5)) (.var 4)) (.lit (.int 1))) .nil) .nil) (.range (.cons (.var 1) .nil)) .nil)) .nop)))) .nop) (.seq (.set 6 (.bin .mod (.bin .fdiv (.var 0) (.lit (.int 4))) (.lit (.int 8)))) (.seq (.set 7 (.join "" (.comp [4] (.ix (.var 2) (.bin .mod (.bin .add (.bin .add (.bin .fdiv (.var 0) (.lit (.int 32))) (.bin .mul (.bin .mul (.lit (.int 3)) (.var 4)) (.var 4))) (.var 4)) (.lit (.int 26)))) (.range (.cons (.var 6) .nil)) .nil))) (.seq (.set 8 (.bin .mod (.bin .fdiv (.var 0) (.lit (.int 512))) (.bin .add (.var 6) (.lit (.int 1))))) (.seq (.ret (.comp [4] (.bin .add (.bin .add (.sl (.var 7) .nil (.cons (.var 8) .nil)) (.ix (.var 2) (.bin .mod (.bin .add (.bin .fdiv (.var 0) (.lit (.int 9))) (.bin .mul (.lit (.int 7)) (.var 4))) (.lit (.int 26))))) (.sl (.var 7) (.cons (.var 8) .nil) .nil)) (.range (.cons (.var 1) .nil)) .nil)) .nop))))))
noncomputable def fL_words:Fi:=⟨2,9,Qn,ae⟩
section
variable{G:ao->Option D}{T:ao->Option Fi}
theorem j09 {n:Int} (h:0<=n/\n<26):atI ("mdkbvqhzcgrnapxolsiefwtyju":ao).cps.toList n=aa (lt n):=by
 obtain⟨k,rfl⟩:∃k:Nat,n=(k:Int):=⟨n.toNat,by omega⟩
 have hk:k<letters.length:=by show k<26;omega
 rw[j8i];refine Qu ?_;unfold lt;rw[kh hk,Xw,km,kh hk];rfl
theorem j6y:("mdkbvqhzcgrnapxolsiefwtyju":ao).length<=1000000:=by decide +kernel
theorem j3h {fu n m:Nat} (hT:T "_law_words" = aa fL_words) {c:Int} (h:¬c%4<2) (hm:m<=10):evP fu G T (n+1) "_law_words" [.int c,.int m]=.fresh ((vz c m).map D.str):=by
 rw[qx (F:=fL_words) hT rfl];simp only[fL_words,Qn,enter];have ll:=j6y;have a:=De c;obtain⟨s,hs⟩:∃s:Nat,s=szN c:=⟨_,rfl⟩
 have es:c/4%8=(s:Int):=by rw[hs];unfold szN;omega
 obtain⟨q,hq⟩:∃q:Nat,q=atN c:=⟨_,rfl⟩
 have eq:c/512%((s:Int)+1)=(q:Int):=by rw[hq];unfold atN;have:=Pu (c/512) (show((s:Int)+1)≠0 by omega);rw[<-hs];omega
 ext;rw[es,J8 (l:=((Qv c s).map λx=>(⟨#[x]⟩:ao)).map D.str) (by rfl) (by rw[vp];omega) ?_ (.inl rfl)];rotate_left
 .rw[Xw,Z5,Qv,Xz,Xz];refine Jf λk hk'=>Qo (by ext) ?_;have hk:=Xy.mp hk';ext;rw[j09 (by omega)];ext;simp
 rw[Io (Uv (by rw[za];omega)),Mu];have lg:(sL (Qv c s)).length=s:=by rw[J9,za]
 ext;rw[eq,J8 (l:=(vz c m).map D.str) (by rfl) (by rw[vp];omega) ?_ (.inl rfl)]
 .ext
 .rw[Xw,Z5,vz,Xz];refine Jf λk hk'=>Qo (by ext) ?_;have hk:=Xy.mp hk';ext;rw[j09 (by omega)];ext;rw[M9 (by rw[za];omega),Ma (by rw[za];omega)];have e1:(⟨#[lt ((c/9+7*(0+(k:Int)))%26)]⟩:ao)=sL [lt ((c/9+7*(0+(k:Int)))%26)]:=rfl;have l1:(sL ((Qv c s).take q)).length=q:=by rw[J9,Xo,za];omega
  have l2:(sL ((Qv c s).drop q)).length=s-q:=by rw[J9,Xu,za]
  have l3:(sL [lt ((c/9+7*(0+(k:Int)))%26)]).length=1:=rfl;have l4:(sL ((Qv c s).take q)++sL [lt ((c/9+7*(0+(k:Int)))%26)]).length=q+1:=by rw[Um,J9,X8,Xo,za,xg,T6];omega
  rw[e1];ext;rw[Um,Um];simp only[Function.comp,wrd,h,if_false,<-hs,<-hq,P0,gH,dC]
theorem Ej {fu n m:Nat} (hT:T "_law_words" = aa fL_words) {c:Int} (hm:1<=m/\m<=6):evP fu G T (n+1) "_law_words" [.int c,.int m]=.fresh ((vz c m).map D.str):=by
 by_cases h:c%4<2
 .rw[qx (F:=fL_words) hT rfl];simp only[fL_words,Qn,enter];have ll:=j6y;ext;rw[J8 (l:=((Zi c).map λx=>(⟨#[x]⟩:ao)).map D.str) (by rfl) (by rw[vp];decide) ?_ (.inl rfl)];rotate_left
  .rw[Z5,Zi,Xz,Xz];refine Jf λk hk'=>Qo (by ext) ?_;have hk:=Xy.mp hk';ext;rw[j09 (by omega)];ext;simp
  rw[Io (Uv (by rw[J1];decide)),Mu];have st:=Er (c:=c) hm.2;obtain⟨s,hs⟩:∃s:Nat,s=stN c m:=⟨_,rfl⟩
  have es:c/8%(9-(m:Int))=(s:Int):=by rw[hs];unfold stN;have:=Pu (c/8) (show(9-(m:Int))≠0 by omega);omega
  have lg:(sL (Zi c)).length=8:=by rw[J9,J1]
  by_cases h0:c%4=0
  .ext;rw[es,J8 (l:=(vz c m).map D.str) (by rfl) (by rw[vp];omega) ?_ (.inl rfl)]
   .ext
   .rw[Xw,Z5,vz,Xz];refine Jf λk hk'=>Qo (by ext) ?_;have hk:=Xy.mp hk';ext;have e:(s:Int)+(0+(k:Int))+1=((s+k+1:Nat):Int):=by omega
    have hh:wrd c m k=(Zi c).take (stN c m+k+1):=by unfold wrd;rw[if_pos h,if_pos h0]
    rw[e,M9 (by rw[J1];omega)];simp only[Function.comp,hh,hs]
  .ext;rw[es,J8 (l:=(vz c m).map D.str) (by rfl) (by rw[vp];omega) ?_ (.inl rfl)]
   .ext
   .rw[Xw,Z5,vz,Xz];refine Jf λk hk'=>Qo (by ext) ?_;have hk:=Xy.mp hk';ext;have e:8-(s:Int)-(0+(k:Int))-1=((8-s-k-1:Nat):Int):=by omega
    have hh:wrd c m k=(Zi c).drop (8-stN c m-k-1):=by unfold wrd;rw[if_pos h,if_neg h0]
    rw[e,Ma (by rw[J1];omega)];simp only[Function.comp,hh,hs]
 .exact j3h hT h (by omega)
theorem p2k{k:Nat}(h:k<=5):0<(2:Int)^k/\(2:Int)^k<=32:=by
 have:k=0\/k=1\/k=2\/k=3\/k=4\/k=5:=by omega
 rcases this with e|e|e|e|e|e<;>subst e<;>decide
theorem jfl{row:List Int}(h01:∀x∈row,x=0\/x=1)(k:Nat):row.getD k 0=0\/row.getD k 0=1:=by
 rw[km];cases h:row[k]? with
 |none=>exact .inl rfl
 |some v=>exact h01 v (Xg h)
end
end KW
section
namespace K56
open PySem PySem.Spec PyProof.Rows L2
noncomputable section
noncomputable def top(i:Nat):aG:=PySem.Challenge.pw_leastasks_k56_played.main.body.getD i (.Pass ⟨0,0,0,0⟩)
noncomputable def V7:Sx:=(.seq (.ret (.and (.cmp .ge (.blt .len (.cons (.var 0) .nil)) (.lit (.int 1))) (.and (.cmp .le (.blt .len (.cons (.var 0) .nil)) (.glob "LONGEST_WORD")) (.call "is_made_of" (.cons (.var 0) (.cons (.glob "LETTERS") .nil)))))) .nop)
noncomputable def U3:Fi:=⟨1,1,V7,ae⟩
noncomputable def Qk:Sx:=(.seq (.ret (.blt .all (.cons (.comp [2] (.cmp .isin (.var 2) (.var 1)) (.seq (.var 0)) .nil) .nil))) .nop)
noncomputable def Zx:Fi:=⟨2,3,Qk,ae⟩
noncomputable def vo:Sx:=(.seq (.ife (.or (.cmp .lt (.var 0) (.glob "FEWEST_PLACES")) (.cmp .gt (.var 0) (.glob "MOST_PLACES"))) (.seq (.raise "WrongSize" (.fst (.cons (.lit (.str "there are ")) (.cons (.glob "FEWEST_PLACES") (.cons (.lit (.str " to ")) (.cons (.glob "MOST_PLACES") (.cons (.lit (.str " places, not ")) (.cons (.var 0) .nil)))))))) .nop) .nop) .nop)
noncomputable def Jp:Fi:=⟨1,1,vo,ae⟩
noncomputable def zy:Sx:=(.seq (.expr (.call "refuse_wrong_size" (.cons (.blt .len (.cons (.var 0) .nil)) .nil))) (.seq (.set 1 (.lst .nil)) (.seq (.loop [2] (.seq (.var 0)) (.seq (.ife (.not (.call "is_word" (.cons (.var 2) .nil))) (.seq (.raise "NoWord" (.fst (.cons (.rpr (.var 2)) (.cons (.lit (.str " is no word of one to eight small letters")) .nil)))) .nop) .nop) (.seq (.ife (.cmp .isin (.var 2) (.var 1)) (.seq (.raise "Twice" (.fst (.cons (.lit (.str "the place ")) (.cons (.rpr (.var 2)) (.cons (.lit (.str " stands twice")) .nil))))) .nop) .nop) (.seq (.app 1 (.var 2)) .nop)))) .nop)))
noncomputable def Ji:Fi:=⟨1,3,zy,ae⟩
noncomputable def Vw:Sx:=(.seq (.ret (.cmp .eq (.ix (.var 0) (.lit (.int 0))) (.lit (.str "ask")))) .nop)
noncomputable def Uy:Fi:=⟨1,1,Vw,ae⟩
noncomputable def Qe:Sx:=(.seq (.ret (.ix (.var 0) (.lit (.int 1)))) .nop)
noncomputable def Zc:Fi:=⟨1,1,Qe,ae⟩
noncomputable def Qd:Sx:=(.seq (.ret (.ix (.var 0) (.lit (.int 1)))) .nop)
noncomputable def Zb:Fi:=⟨1,1,Qd,ae⟩
noncomputable def Qc:Sx:=(.seq (.ret (.ite (.cmp .eq (.var 1) (.lit (.int 1))) (.ix (.var 0) (.lit (.int 3))) (.ix (.var 0) (.lit (.int 2))))) .nop)
noncomputable def Za:Fi:=⟨2,2,Qc,ae⟩
noncomputable def Vc:Sx:=(.seq (.ife (.cmp .lt (.var 1) (.blt .len (.cons (.var 0) .nil))) (.seq (.ret (.ix (.var 0) (.var 1))) .nop) .nop) (.seq (.set 2 (.bin .add (.lit (.int 70001)) (.bin .mul (.bin .mul (.lit (.int 911)) (.var 1)) (.var 1)))) (.seq (.ife (.cmp .gt (.blt .len (.cons (.var 0) .nil)) (.lit (.int 0))) (.seq (.set 2 (.bin .add (.var 2) (.bin .mul (.bin .mod (.ix (.var 0) (.lit (.int 0))) (.lit (.int 9973))) (.bin .add (.bin .mul (.lit (.int 3)) (.var 1)) (.lit (.int 1)))))) .nop) .nop) (.seq (.retV 2) .nop))))
noncomputable def fL_cell:Fi:=⟨2,3,Vc,ae⟩
noncomputable def Qn:Sx:=(.seq (.set 2 (.lit (.str "mdkbvqhzcgrnapxolsiefwtyju"))) (.seq (.ife (.cmp .lt (.bin .mod (.var 0) (.lit (.int 4))) (.lit (.int 2))) (.seq (.set 3 (.join "" (.comp [4] (.ix (.var 2) (.bin .mod (.bin .fdiv (.var 0) (.bin .add (.lit (.int 4)) (.bin .mul (.lit (.int 5)) (.var 4)))) (.lit (.int 26)))) (.range (.cons (.lit (.int 8)) .nil)) .nil))) (.seq (.set 5 (.bin .mod (.bin .fdiv (.var 0) (.lit (.int 8))) (.bin .sub (.lit (.int 9)) (.var 1)))) (.seq (.ife (.cmp .eq (.bin .mod (.var 0) (.lit (.int 4))) (.lit (.int 0))) (.seq (.ret (.comp [4] (.sl (.var 3) .nil (.cons (.bin .add (.bin .add (.var 5) (.var 4)) (.lit (.int 1))) .nil)) (.range (.cons (.var 1) .nil)) .nil)) .nop) .nop) (.seq (.ret (.comp [4] (.sl (.var 3) (.cons (.bin .sub (.bin .sub (.bin .sub (.lit (.int 8)) (.var 5)) (.var 4)) (.lit (.int 1))) .nil) .nil) (.range (.cons (.var 1) .nil)) .nil)) .nop)))) .nop) (.seq (.set 6 (.bin .mod (.bin .fdiv (.var 0) (.lit (.int 4))) (.lit (.int 8)))) (.seq (.set 7 (.join "" (.comp [4] (.ix (.var 2) (.bin .mod (.bin .add (.bin .add (.bin .fdiv (.var 0) (.lit (.int 32))) (.bin .mul (.bin .mul (.lit (.int 3)) (.var 4)) (.var 4))) (.var 4)) (.lit (.int 26)))) (.range (.cons (.var 6) .nil)) .nil))) (.seq (.set 8 (.bin .mod (.bin .fdiv (.var 0) (.lit (.int 512))) (.bin .add (.var 6) (.lit (.int 1))))) (.seq (.ret (.comp [4] (.bin .add (.bin .add (.sl (.var 7) .nil (.cons (.var 8) .nil)) (.ix (.var 2) (.bin .mod (.bin .add (.bin .fdiv (.var 0) (.lit (.int 9))) (.bin .mul (.lit (.int 7)) (.var 4))) (.lit (.int 26))))) (.sl (.var 7) (.cons (.var 8) .nil) .nil)) (.range (.cons (.var 1) .nil)) .nil)) .nop))))))
noncomputable def fL_words:Fi:=⟨2,9,Qn,ae⟩
noncomputable def Zg:Sx:=(.seq (.set 1 (.bin .mod (.bin .add (.bin .mul (.var 1) (.lit (.int 48271))) (.lit (.int 11))) (.lit (.int 2147483647)))) (.seq (.ife (.or (.cmp .eq (.var 0) (.lst .nil)) (.or (.cmp .eq (.var 2) (.lit (.int 0))) (.cmp .eq (.bin .mod (.bin .fdiv (.var 1) (.lit (.int 16))) (.lit (.int 6))) (.lit (.int 0))))) (.seq (.ret (.tup (.cons (.lit (.str "tell")) (.cons (.bin .mod (.bin .fdiv (.var 1) (.lit (.int 128))) (.lit (.int 2))) .nil)))) .nop) .nop) (.seq (.set 3 (.ix (.var 0) (.bin .mod (.bin .fdiv (.var 1) (.lit (.int 16))) (.blt .len (.cons (.var 0) .nil))))) (.seq (.set 4 (.comp [5] (.var 5) (.seq (.var 0)) (.cons (.cmp .ne (.var 5) (.var 3)) .nil))) (.seq (.set 6 (.call "_law_plan" (.cons (.var 4) (.cons (.bin .add (.bin .mul (.var 1) (.lit (.int 3))) (.lit (.int 1))) (.cons (.bin .sub (.var 2) (.lit (.int 1))) .nil))))) (.seq (.ret (.tup (.cons (.lit (.str "ask")) (.cons (.var 3) (.cons (.var 6) (.cons (.call "_law_plan" (.cons (.var 4) (.cons (.bin .add (.bin .mul (.var 1) (.lit (.int 5))) (.lit (.int 2))) (.cons (.bin .sub (.var 2) (.lit (.int 1))) .nil)))) .nil)))))) .nop))))))
noncomputable def Q9:Fi:=⟨3,7,Zg,ae⟩
noncomputable def Wh:Sx:=(.seq (.set 3 (.lst .nil)) (.seq (.whl (.cmp .eq (.ix (.var 0) (.lit (.int 0))) (.lit (.str "ask"))) (.seq (.app 3 (.ix (.var 0) (.lit (.int 1)))) (.seq (.set 0 (.ix (.var 0) (.bin .add (.lit (.int 2)) (.ix (.var 2) (.tix (.var 1) (.ix (.var 0) (.lit (.int 1)))))))) .nop))) (.seq (.keep 3) (.seq (.ret (.tup (.cons (.ix (.var 0) (.lit (.int 1))) (.cons (.var 3) .nil)))) .nop))))
noncomputable def Bh:Fi:=⟨3,4,Wh,ae⟩
noncomputable def Zf:Sx:=(.seq (.ife (.isi (.var 1) ["list","tuple"]) (.seq (.ife (.or (.cmp .ne (.isi (.var 0) ["list"]) (.isi (.var 1) ["list"])) (.not (.isi (.var 0) ["list","tuple"]))) (.seq (.ret (.lit (.bl ae))) .nop) .nop) (.seq (.set 2 (.comp [3] (.var 3) (.range (.cons (.blt .min (.cons (.blt .len (.cons (.var 0) .nil)) (.cons (.blt .len (.cons (.var 1) .nil)) .nil))) .nil)) (.cons (.not (.call "_law_same" (.cons (.ix (.var 0) (.var 3)) (.cons (.ix (.var 1) (.var 3)) .nil)))) .nil))) (.seq (.ret (.and (.cmp .eq (.blt .len (.cons (.var 0) .nil)) (.blt .len (.cons (.var 1) .nil))) (.cmp .eq (.var 2) (.lst .nil)))) .nop))) .nop) (.seq (.ife (.isN (.var 1)) (.seq (.ret (.isN (.var 0))) .nop) .nop) (.seq (.ife (.or (.cmp .ne (.isi (.var 0) ["bool"]) (.isi (.var 1) ["bool"])) (.cmp .ne (.isi (.var 0) ["str"]) (.isi (.var 1) ["str"]))) (.seq (.ret (.lit (.bl ae))) .nop) .nop) (.seq (.ret (.and (.isi (.var 0) ["int","str"]) (.cmp .eq (.var 0) (.var 1)))) .nop))))
noncomputable def fL_same:Fi:=⟨2,4,Zf,ae⟩
noncomputable def Od:Sx:=(.seq (.unp 3 4 (.call "_law_walk" (.cons (.var 0) (.cons (.var 1) (.cons (.var 2) .nil))))) (.seq (.ret (.tup (.cons (.var 3) (.cons (.comp [5] (.tup (.cons (.var 5) (.cons (.ix (.var 2) (.tix (.var 1) (.var 5))) .nil))) (.seq (.var 4)) .nil) .nil)))) .nop))
noncomputable def Lj:Fi:=⟨3,6,Od,ae⟩
noncomputable def Ub:Sx:=(.seq (.set 3 (.blt .tuple (.cons (.comp [4] (.bin .mod (.bin .fdiv (.var 2) (.bin .shl (.lit (.int 1)) (.var 4))) (.lit (.int 2))) (.range (.cons (.blt .len (.cons (.var 1) .nil)) .nil)) .nil) .nil))) (.seq (.prm (krG (.ix (.lst (.cons (.blt .list (.cons (.var 1) .nil)) (.cons (.blt .tuple (.cons (.var 1) .nil)) .nil))) (.bin .mod (.bin .fdiv (.var 2) (.lit (.int 1024))) (.lit (.int 2)))) (.var 3) (.call "_law_due" (.cons (.var 0) (.cons (.var 1) (.cons (.var 3) .nil)))) (.cmp .eq (.bin .mod (.bin .fdiv (.var 2) (.lit (.int 64))) (.lit (.int 2))) (.lit (.int 1))) (.ix (.var 1) (.bin .mod (.bin .fdiv (.var 2) (.lit (.int 128))) (.blt .len (.cons (.var 1) .nil)))) (.tup (.cons (.var 8) (.cons (.ix (.var 3) (.tix (.var 1) (.var 8))) .nil))) (.ix (.ix (.var 7) (.lit (.int 0))) (.lit (.int 1))) (.var 0) (.not (.call "_law_same" (.cons (.var 9) (.cons (.var 6) .nil)))) (.bin .add (.var 7) (.comp [10] (.var 10) (.seq (.ix (.var 6) (.lit (.int 1)))) (.cons (.cmp .notin (.var 10) (.var 7)) .nil))) (.var 7) (.var 6) 5 6 7 8 9)) .nop))
noncomputable def Rq:Fi:=⟨3,11,Ub,ae⟩
noncomputable def j0r:Sx:=(.seq (.set 1 (.call "_law_words" (.cons (.call "_law_cell" (.cons (.var 0) (.cons (.lit (.int 1)) .nil))) (.cons (.bin .add (.lit (.int 1)) (.bin .mod (.call "_law_cell" (.cons (.var 0) (.cons (.lit (.int 0)) .nil))) (.lit (.int 6)))) .nil)))) (.seq (.keep 1) (.seq (.set 2 (.call "_law_plan" (.cons (.blt .list (.cons (.var 1) .nil)) (.cons (.bin .mod (.call "_law_cell" (.cons (.var 0) (.cons (.lit (.int 2)) .nil))) (.lit (.int 2147483647))) (.cons (.lit (.int 6)) .nil))))) (.seq (.loop [3] (.seq (.bin .add (.lst (.cons (.call "_law_cell" (.cons (.var 0) (.cons (.lit (.int 3)) .nil))) .nil)) (.sl (.var 0) (.cons (.lit (.int 4)) .nil) (.cons (.lit (.int 12)) .nil)))) (.seq (.ife (.not (.call "_law_right" (.cons (.var 2) (.cons (.var 1) (.cons (.var 3) .nil))))) (.seq (.ret (.lit (.bl ae))) .nop) .nop) .nop)) (.seq (.prm (klG (.var 2) (.blt .list (.cons (.var 1) .nil)) (.call "_law_due" (.cons (.var 2) (.cons (.var 1) (.cons (.bin .mul (.tup (.cons (.lit (.int 0)) .nil)) (.blt .len (.cons (.var 1) .nil))) .nil)))))) .nop)))))
noncomputable def j0h:Fi:=⟨1,4,j0r,ae⟩
noncomputable def Zn:Fi:=⟨3,3,.seq (.prm Q8) .nop,ae⟩
noncomputable def tbl:List (ao×Fi):=("&played",Zn)::("is_word",U3)::("is_made_of",Zx)::("refuse_wrong_size",Jp)::("refuse_wrong_places",Ji)::("is_ask",Uy)::("answer_told",Zc)::("place_asked",Zb)::("plan_behind",Za)::("_law_cell",fL_cell)::("_law_words",fL_words)::("_law_plan",Q9)::("_law_walk",Bh)::("_law_same",fL_same)::("_law_due",Lj)::("_law_right",Rq)::("law",j0h)::[]
noncomputable def T(x:ao):Option Fi:=tbl.lookup x
noncomputable def gs:List (ao×D):=[("LETTERS",.str "abcdefghijklmnopqrstuvwxyz"),("LONGEST_WORD",.int 8),("FEWEST_PLACES",.int 1),("MOST_PLACES",.int 6)]
noncomputable def xs:List (ao×List D):=[]
noncomputable def qs:List ao:=[]
noncomputable abbrev G:ao->Option D:=Gof gs ae xs qs
end
end K56
end
section
open PySem PySem.Spec PyProof.Rows L2
local macro_rules | `(tactic| walk_at "vis")=>`(tactic| first | exact Or.inl rfl | exact Or.inr (Or.inl rfl) | exact Or.inr (Or.inr rfl))
local macro_rules | `(tactic| walk_at "loc")=>`(tactic| first | exact Or.inl rfl | exact Or.inr rfl)
local macro_rules | `(tactic| walk_at "nm")=>`(tactic| repeat (first | exact rfl | refine ⟨_,_,rfl,by decide,by decide,by rfl,by decide,by rfl,?_⟩))
local macro_rules | `(tactic| walk_at "cap")=>`(tactic| repeat (first | exact rfl | refine ⟨_,_,rfl,by rfl,by rfl,by rfl,by rfl,?_⟩))
local macro_rules | `(tactic| walk_at "ts")=>`(tactic| first
 |exact Tr.int|exact Tr.bl|exact Tr.str
 |exact Tr.var (by rfl) (by walk_at "vis") (by decide) (by decide)|exact Tr.glob (by rfl) (by decide) (by decide)
 |refine Tr.bin ?_ ?_|refine Tr.cmp (by rfl) ?_ ?_|refine Tr.bcmp (by rfl) ?_ ?_|refine Tr.isN ?_|refine Tr.bisN ?_|refine Tr.isNN ?_|refine Tr.bisNN ?_
 |refine Tr.and ?_ ?_|refine Tr.or ?_ ?_|refine Tr.one ?_|refine Tr.not ?_
 |refine Tr.wand ?_ ?_|refine Tr.wor ?_ ?_|refine Tr.wand1 ?_|refine Tr.wor1 ?_|refine Tr.bw ?_|refine Tr.bnot ?_
 |refine Tr.ite ?_ ?_ ?_|exact Tr.nil|refine Tr.cons (by rfl) ?_ ?_|refine Tr.tup ?_|refine Tr.lst ?_
 |refine Tr.ix (by intro _ _;rfl) ?_ ?_|exact Tr.oN|refine Tr.oS ?_|refine Tr.sl ?_ ?_ ?_
 |refine Tr.call (by rfl) (by decide) (by rfl) (by rfl) ?_
 |refine Tr.tix (by rfl) (by rfl) (by rfl) (by rfl) ?_ ?_|refine Tr.len (by rfl) ?_|refine Tr.all (by rfl) (by rfl) ?_|refine Tr.tuple (by rfl) ?_|refine Tr.list (by rfl) ?_|refine Tr.min (by rfl) (by rfl) ?_
 |refine Tr.join (by rfl) (by rfl) (by rfl) (by rfl) ?_
 |refine Tr.isi1 (by decide) (by decide +kernel) (by rfl) (by rfl) (by decide) (by decide) (by rfl) ?_
 |refine Tr.isi2 (by decide) (by decide) (by decide +kernel) (by decide +kernel) (by rfl) (by rfl) (by rfl) (by decide) (by decide) (by decide) (by decide) (by rfl) ?_
 |exact Tr.c0|refine Tr.c1 ?_
 |refine Tr.comp1 (by rfl) (by rfl) (by rfl) (by rfl) (by rfl) (by intro _;rfl) ?_ ?_ ?_
 |refine Tr.seq ?_|refine Tr.range (by rfl) ?_
 |exact Tr.p0|refine Tr.pC ?_|refine Tr.pR ?_ ?_|refine Tr.pF (by rfl) ?_ ?_|refine Tr.fst ?_
 |refine Tr.bval (by intro _;rfl) ?_
 |refine Ts.unp (by rfl) (by rfl) (by rfl) (by walk_at "loc") (by walk_at "loc") (by exact aV rfl) (by exact aV rfl) (by rfl) (by rfl) ?_
 |refine' Ts.lend (by rfl) (by decide) (by rfl) (by rfl) (by walk_at "loc") (by walk_at "loc") (by exact aV rfl) (by exact aV rfl) (by intro _;rfl) (by rfl) (by rfl) (by rfl) (by walk_at "vis") (by decide) (by decide) (by rfl) (by rfl) ?_ ?_|refine' Ts.lent (by rfl) (by walk_at "loc") (by walk_at "vis") (by exact aV rfl) (by decide) (by decide) (by rfl) (by rfl) (by rfl) ?_ ?_ ?_ ?_ ?_|refine TMt.set (by rfl) (by walk_at "loc") (by rfl) (by exact aV rfl) ?_ ?_|refine TMt.ife ?_ ?_ ?_ ?_|exact TMt.nil|exact TMs.nil|exact TMs.fail|refine TMs.set (by rfl) (by walk_at "loc") (by rfl) (by exact aV rfl) ?_ ?_|refine TMs.ife ?_ ?_ ?_ ?_|exact⟨rfl,rfl,rfl,λ_ _=>rfl⟩
 |exact Ts.nil|refine Ts.fgt ?_|refine Ts.keep ?_|refine Ts.clrs (by rfl) (by rfl) (by decide) (by rfl) (by rfl) (by rfl) (by rfl) (by walk_at "loc") (by walk_at "loc") (by exact aV rfl) (by exact aV rfl) (by decide) (by decide) (by decide) (by decide) (by rfl) (by intro _;rfl) (by rfl) (by rfl) (by rfl) ?_ ?_ ?_
 |refine Ts.smk (by rfl) (by rfl) (by walk_at "loc") (by exact aV rfl) (by decide) (by decide) (by decide) (by rfl) (by rfl) (by walk_at "loc") (by walk_at "loc") (by exact aV rfl) (by exact aV rfl) (by rfl) (by rfl) (by intro _;rfl) ?_ ?_ ?_ ?_
 |refine Ts.turn (by rfl) (by rfl) (by walk_at "loc") (by exact aV rfl) (by decide) (by decide) (by rfl) (by intro _;rfl) (by rfl) (by walk_at "vis") (by decide) (by decide) (by rfl) (by rfl) (by rfl) (by rfl) (by rfl) ?_ ?_ ?_ ?_ ?_
 |refine Ts.cons ?_ ?_|exact Ts.pass|exact Ts.doc|exact Ts.fail
 |refine Ts.setC1 (by rfl) (by rfl) (by walk_at "loc") (by exact aV rfl) (by rfl) (by rfl) (by rfl) (by rfl) (by rfl) (by intro _;rfl) ?_ ?_ ?_
 |refine Ts.set (by rfl) (by walk_at "loc") (by rfl) (by exact aV rfl) ?_
 |exact Ts.retV (by rfl) (by walk_at "vis") (by decide) (by decide)|refine Ts.ret ?_
 |refine Ts.ife ?_ ?_ ?_|refine Ts.for1 (by rfl) (by rfl) (by walk_at "loc") (by exact aV rfl) (by intro _;rfl) ?_ ?_
 |refine Ts.whl ?_ ?_
 |refine Ts.app (by rfl) (by walk_at "vis") (by decide) (by decide) (by rfl) (by rfl) (by rfl) (by rfl) ?_
 |refine Ts.raise (by rfl) (by rfl) (by decide) (by rfl) ?_
 |refine Ts.expr (by rfl) ?_
 |refine MD.fill (by rfl) (by rfl) (by rfl) (by walk_at "vis") (by walk_at "vis") (by walk_at "loc") (by exact aV rfl) (by decide) (by decide) (by decide) (by decide) (by decide) (by decide) (by with_unfolding_all rfl) (by rfl) (by rfl) (by intro _ _;rfl) (by intro _ _;rfl) (by rfl) (by decide) (by rfl) (by rfl) ?_ ?_ ?_
 |refine MD.minc ?_ ⟨by rfl,by rfl,by walk_at "vis",by decide,by decide,by rfl,by rfl,by rfl,by rfl,by intro _;rfl,by rfl,by decide,by decide,by decide,by intro _ _ _ _ _;walk_at "vis",by intro _ _ _ _ _;rfl,by intro _ _ _ _ _;rfl,by intro _ _ _ _ _;rfl,?_⟩ (by rfl) (by rfl) (by intro _ _ _ _ _;rfl) (by intro _ _ _ _ _;rfl) ?_
 |refine MD.maxc ?_ ⟨by rfl,by rfl,by walk_at "vis",by decide,by decide,by rfl,by rfl,by rfl,by rfl,by intro _;rfl,by rfl,by decide,by decide,by decide,by intro _ _ _ _ _;walk_at "vis",by intro _ _ _ _ _;rfl,by intro _ _ _ _ _;rfl,by intro _ _ _ _ _;rfl,?_⟩ (by rfl) (by rfl)
 |refine SetT.cmp (by rfl) (by rfl) (by walk_at "loc") (by exact aV rfl) (by rfl) (by rfl) (by rfl) (by rfl) (by rfl) (by intro _;rfl) ?_ ?_ ?_
 |refine SetT.e (by rfl) (by walk_at "loc") (by rfl) (by exact aV rfl) ?_
 |exact MP.nop|refine MP.keep (by decide) ?_
 |refine MP.setC (by decide) (by rfl) (by rfl) (by walk_at "loc") (by exact aV rfl) (by rfl) (by rfl) (by rfl) (by rfl) (by rfl) (by intro _;rfl) ?_ ?_ ?_ ?_
 |refine MP.set (by decide) (by rfl) (by walk_at "loc") (by rfl) (by exact aV rfl) ?_ ?_
 |refine MP.ret ?_|refine MP.ifRet ?_ ?_ ?_
 |refine MP.ifAll (by rfl) (by rfl) (by decide) (by rfl) (by rfl) (by walk_at "vis") (by decide) (by decide) (by exact⟨_,rfl⟩) (by intro _;rfl) ?_ ?_
 |refine MP.ifRai (by rfl) (by rfl) (by decide) (by rfl) ?_ ?_ ?_
 |refine MP.takeIf (by decide) (by rfl) (by walk_at "vis") (by decide) (by decide) (by exact⟨_,rfl⟩) (by rfl) (by walk_at "loc") (by rfl) (by exact aV rfl) ?_ ?_ ?_
 |refine MP.take (by decide) (by rfl) (by walk_at "vis") (by decide) (by decide) (by exact⟨_,rfl⟩) (by rfl) (by walk_at "loc") (by rfl) (by exact aV rfl) ?_
 |refine MP.takeE (by rfl) (by walk_at "vis") (by decide) (by decide) (by exact⟨_,rfl⟩) (by rfl) ?_
 |refine MP.callS (by decide) (by exact⟨_,_,_,_,rfl,by rfl,by walk_at "vis",by decide,by decide,by rfl,by decide,by rfl,by rfl⟩) (by rfl) (by walk_at "loc") (by rfl) (by exact aV rfl) ?_ ?_
 |refine MP.ifCal (by exact⟨_,_,_,_,rfl,by rfl,by walk_at "vis",by decide,by decide,by rfl,by decide,by rfl,by rfl⟩) ?_ ?_ ?_
 |refine MP.appC (by decide) (by exact⟨_,_,_,_,rfl,by rfl,by walk_at "vis",by decide,by decide,by rfl,by decide,by rfl,by rfl⟩) (by rfl) (by walk_at "vis") (by decide) (by decide) (by rfl) (by rfl) (by rfl) (by rfl) (by rfl) ?_ ?_
 |refine MP.whlA (by rfl) (by walk_at "vis") (by decide) (by decide) (by exact⟨_,rfl⟩) ?_ ?_
 |intro C s H fp pn xe
 |intro C s H fp pn
 |intro pn xe)
local macro_rules | `(tactic| walk_at "bnd")=>`(tactic| (intro _ _ _ _ _ _ us hl; first | (obtain ⟨_,e⟩:=us1 hl; subst e; rfl) | (obtain ⟨_,_,e⟩:=us2 hl; subst e; rfl) | (obtain ⟨_,_,_,e⟩:=us3 hl; subst e; rfl)))
local macro_rules | `(tactic| walk_at "sc")=>`(tactic| exact ⟨rfl,rfl,rfl,by decide +kernel,rfl,by decide +kernel,by decide +kernel⟩)
local macro_rules | `(tactic| walk_at "lk")=>`(tactic| first | walk_at "sc" | walk_at "bnd" | decide)
namespace K56
section
variable{P:av}{w:aA}{K:k5g}{mg:k5j}{base:aI}
local macro_rules | `(tactic| walk_at "ts")=>`(tactic| first | refine Ts.kright (by assumption) (by rfl) (by rfl) (by rfl) (by rfl) ⟨by rfl,by walk_at "loc",by walk_at "vis",by exact Or.inl rfl,by decide,by decide⟩ ⟨by rfl,by walk_at "loc",by walk_at "vis",by exact Or.inl rfl,by decide,by decide⟩ ⟨by rfl,by walk_at "loc",by walk_at "vis",by exact Or.inl rfl,by decide,by decide⟩ ⟨by rfl,by walk_at "loc",by walk_at "vis",by exact Or.inl rfl,by decide,by decide⟩ ⟨by rfl,by walk_at "loc",by walk_at "vis",by exact Or.inl rfl,by decide,by decide⟩ ?_ ?_ ?_ ?_ ?_ ?_ ?_ ?_ ?_ ?_ ?_ ?_ ?_ ?_ (by rfl) (by rfl) (by rfl) (by rfl) (by rfl) (by rfl) (by rfl) (by rfl) (by rfl) (by rfl) (by rfl) (by rfl) ⟨_,by rfl⟩ (by rfl) (by rfl) (by rfl) (by rfl) ⟨_,by rfl⟩ (by rfl) (by rfl) (by rfl) (by rfl) (by rfl) (by rfl) (by rfl) (by rfl) (by rfl) (by rfl) (by rfl) (by rfl) ⟨_,by rfl⟩ (by rfl) (by rfl) (by rfl) | refine Ts.klast (by assumption) (by rfl) (by rfl) (by rfl) ?_ ?_ ?_ (by rfl) (by rfl) (by rfl) (by rfl) (by rfl) (by rfl) (by rfl))
theorem kpS:KpS P w K mg base (inClass (top 23) 0) (inClass (top 23) 1) (inClass (top 23) 2) (inClass (top 23) 3) (inClass (top 24) 0) (inClass (top 24) 1) :=
 ⟨by walk_at "sc",by walk_at "sc",by walk_at "sc",by walk_at "sc",by walk_at "sc",by walk_at "sc",⟨_,_,_,_,_,_,_,_,_,_,_,_,_,_,rfl⟩,⟨_,_,_,_,_,_,_,_,_,_,_,_,_,_,_,_,_,_,_,_,_,_,_,_,_,rfl,λf cdv A outer s H E=>⟨_,rfl⟩⟩,⟨_,_,_,_,_,_,_,rfl,rfl⟩,⟨_,_,_,rfl⟩,⟨_,_,_,_,_,_,_,_,_,_,rfl,λf cdv A outer s H E=>⟨_,rfl⟩⟩,⟨_,_,_,_,_,_,_,_,_,rfl,rfl⟩,⟨by walk_at "vis",by walk_at "vis",by walk_at "vis",by walk_at "vis",by walk_at "vis",by walk_at "vis",by walk_at "vis",by walk_at "vis",by walk_at "vis",by walk_at "vis"⟩,⟨rfl,rfl,rfl,rfl⟩,(by intro _ _ _ _ _ _ us hl;obtain⟨_,_,e⟩:=us2 hl;subst e;rfl),(by intro _ _ _ _ _ _ us hl;obtain⟨_,_,e⟩:=us2 hl;subst e;rfl),(by intro _ _ _ _ _ _ us hl;obtain⟨_,e⟩:=us1 hl;subst e;rfl),(by intro _ _ _ _ _ _ us hl;obtain⟨_,_,e⟩:=us2 hl;subst e;rfl),(by intro _ _ _ _ _ _ us hl;obtain⟨_,_,_,e⟩:=us3 hl;subst e;rfl),(by intro _ _ _ _ _ _ us hl;obtain⟨_,_,e⟩:=us2 hl;subst e;rfl)⟩
theorem plS:PlS P w K mg base (top 25) :=
 ⟨by walk_at "sc",⟨_,_,_,_,_,_,_,_,_,_,_,_,_,_,_,_,_,_,_,_,_,_,_,_,_,_,_,_,_,_,_,_,_,_,_,_,_,_,_,rfl,rfl,λf cdv A outer s H E=>⟨_,rfl⟩⟩,by intro x hx;simp only[xf,cX,or_false]at hx;rcases hx with h|h|h|h|h<;>subst h<;>rfl,by intro x hx;simp only[xf,cX,or_false]at hx;rcases hx with h|h|h|h<;>subst h<;>rfl,(by intro _ _ _ _ _ _ us hl;obtain⟨_,_,e⟩:=us2 hl;subst e;rfl)⟩
theorem K8:TrT P w K mg base "is_word" ["piece"] (top 9) V7:=by
 intro f cdv A outer s H E xe;unfold V7
 repeat' (walk_at "ts")
theorem Oj:TrT P w K mg base "is_made_of" ["piece","signs","sign"] (top 10) Qk:=by
 intro f cdv A outer s H E xe;unfold Qk
 repeat' (walk_at "ts")
theorem Y6:TrT P w K mg base "refuse_wrong_size" ["many"] (top 14) vo:=by
 intro f cdv A outer s H E xe;unfold vo
 repeat' (walk_at "ts")
theorem Vn:TrT P w K mg base "refuse_wrong_places" ["places","ahead","place"] (top 16) zy:=by
 intro f cdv A outer s H E xe;unfold zy
 repeat' (walk_at "ts")
theorem Ep:TrT P w K mg base "is_ask" ["plan"] (top 18) Vw:=by
 intro f cdv A outer s H E xe;unfold Vw
 repeat' (walk_at "ts")
theorem M7:TrT P w K mg base "answer_told" ["plan"] (top 19) Qe:=by
 intro f cdv A outer s H E xe;unfold Qe
 repeat' (walk_at "ts")
theorem M6:TrT P w K mg base "place_asked" ["plan"] (top 20) Qd:=by
 intro f cdv A outer s H E xe;unfold Qd
 repeat' (walk_at "ts")
theorem M5:TrT P w K mg base "plan_behind" ["plan","answer"] (top 21) Qc:=by
 intro f cdv A outer s H E xe;unfold Qc
 repeat' (walk_at "ts")
theorem j3p:TrT P w K mg base "_law_cell" ["_law_script","_law_k","_law_spare"] (top 27) Vc:=by
 intro f cdv A outer s H E xe;unfold Vc
 repeat' (walk_at "ts")
theorem j15:TrT P w K mg base "_law_words" ["_law_cell_here","_law_many","_law_letters","_law_long","_law_k","_law_start","_law_size","_law_stem","_law_at"] (top 28) Qn:=by
 intro f cdv A outer s H E xe;unfold Qn
 repeat' (walk_at "ts")
theorem j3o:TrT P w K mg base "_law_plan" ["_law_left","_law_draw","_law_deep","_law_one","_law_rest","_law_other","_law_if_no"] (top 29) Zg:=by
 intro f cdv A outer s H E xe;unfold Zg
 repeat' (walk_at "ts")
theorem j3m:TrT P w K mg base "_law_walk" ["_law_plan_here","_law_spots","_law_row","_law_asked"] (top 30) Wh:=by
 intro f cdv A outer s H E xe;unfold Wh
 repeat' (walk_at "ts")
theorem j3n:TrT P w K mg base "_law_same" ["_law_found","_law_due_here","_law_unlike","_law_k"] (top 31) Zf:=by
 intro f cdv A outer s H E xe;unfold Zf
 repeat' (walk_at "ts")
theorem j7k:TrT P w K mg base "_law_due" ["_law_plan_here","_law_spots","_law_row","_law_answer","_law_asked","_law_one"] (top 32) Od:=by
 intro f cdv A outer s H E xe;unfold Od
 repeat' (walk_at "ts")
theorem j16 {C R:ai} (ko:KeepOk P w K mg base C R):TrT P w K mg base "_law_right" ["_law_plan_here","_law_spots","_law_cell_here","_law_row","_law_k","_law_keeper","_law_due_here","_law_told","_law_ahead","_law_found","_law_pair"] (top 33) Ub:=by
 intro f cdv A outer s H E xe;unfold Ub
 repeat' (walk_at "ts")
theorem j6g {C R:ai} (ko:KeepOk P w K mg base C R):TrT P w K mg base "law" ["_law_script","_law_spots","_law_plan_here","_law_cell_here"] (top 34) j0r:=by
 intro f cdv A outer s H E xe;unfold j0r
 repeat' (walk_at "ts")
end
set_option maxHeartbeats 0 in
theorem head {l:cQ} {w:aA} {K:k5g} {h:aI} {mg:k5j} {fa:ai} (X:K.In h) (Gn:h.Ns ax mg) (hfa:mg "law" = aa (.ref fa))
  (h0:Lf K "is_word" (top 9))
  (h1:Lf K "is_made_of" (top 10))
  (h2:Lf K "refuse_wrong_size" (top 14))
  (h3:Lf K "refuse_wrong_places" (top 16))
  (h4:Lf K "is_ask" (top 18))
  (h5:Lf K "answer_told" (top 19))
  (h6:Lf K "place_asked" (top 20))
  (h7:Lf K "plan_behind" (top 21))
  (h8:Lf K "played" (top 25))
  (h9:Lf K "_law_cell" (top 27))
  (h10:Lf K "_law_words" (top 28))
  (h11:Lf K "_law_plan" (top 29))
  (h12:Lf K "_law_walk" (top 30))
  (h13:Lf K "_law_same" (top 31))
  (h14:Lf K "_law_due" (top 32))
  (h15:Lf K "_law_right" (top 33))
  (h16:Lf K "law" (top 34))
  (bz:bOk K=ag) {ts:List ai} (tz:tOk K ts=ag)
  {gt0:jY} {gt1:jY} {gt2:jY} {gt3:jY}
  (gn0:cM K ax "LETTERS" = aa (aa (.str "abcdefghijklmnopqrstuvwxyz" gt0))) (gn1:cM K ax "LONGEST_WORD" = aa (aa (.int 8 gt1))) (gn2:cM K ax "FEWEST_PLACES" = aa (aa (.int 1 gt2))) (gn3:cM K ax "MOST_PLACES" = aa (aa (.int 6 gt3)))
  (exa:Wc K=ag)
  {C R:ai} (hkp:KpH K C R (inClass (top 23) 0) (inClass (top 23) 1) (inClass (top 23) 2) (inClass (top 23) 3) (inClass (top 24) 0) (inClass (top 24) 1))
  {fu n:Nat} (hlaw:∀ns:List Int,ns.length<=63->evP fu G T (n+1) "law" [.lst (ns.map D.int)]=.val (.bl ag)) :
  ∃fd:aD,(∀(s:aq)(v:aj),fU s fd ⟨[v],[]⟩ [("_law_script",v)])/\∀base:aI,K.In base->base.Ns ax mg->FnOk l.prog w K mg base CX0 (lv (n+1)) fa fd ["_law_script"] (Fo K):=by
 have hL:=h16;obtain⟨f,oc,od,kV,dc,pm,an,cd,ct,sl,a,lk,c,k⟩:=hL;have e:=hfa.symm.trans (T8 X Gn a);cases e;refine⟨br "law" "law" (jy (top 34)) (jh (top 34)) (j0 (top 34)) .none kV dc pm an cd ct,λs v=>.of_eq rfl,λbase hKb hNb=>?_⟩;have ko:KeepOk l.prog w K mg base C R:=j8m kpS hkp X Gn (j0p X Gn bz "list" (by decide)) (j0p X Gn bz "tuple" (by decide));have hT:∀x F,T x=aa F->LkF l.prog w K mg base x F:=λx F hx=>by
  have all:∀p∈tbl,LkF l.prog w K mg base p.1 p.2:=by
   intro p hp;simp only[tbl,xf,cX,or_false]at hp;rcases hp with rfl|rfl|rfl|rfl|rfl|rfl|rfl|rfl|rfl|rfl|rfl|rfl|rfl|rfl|rfl|rfl|rfl
   .exact j8k (by decide +kernel) h8 X Gn plS ko rfl rfl
   .refine lkF (Jk h0 X Gn K8 ["piece"] ?_ rfl rfl ?_ ?_) rfl ?_ ?_<;>walk_at "lk"
   .refine lkF (Jk h1 X Gn Oj ["piece","signs"] ?_ rfl rfl ?_ ?_) rfl ?_ ?_<;>walk_at "lk"
   .refine lkF (Jk h2 X Gn Y6 ["many"] ?_ rfl rfl ?_ ?_) rfl ?_ ?_<;>walk_at "lk"
   .refine lkF (Jk h3 X Gn Vn ["places"] ?_ rfl rfl ?_ ?_) rfl ?_ ?_<;>walk_at "lk"
   .refine lkF (Jk h4 X Gn Ep ["plan"] ?_ rfl rfl ?_ ?_) rfl ?_ ?_<;>walk_at "lk"
   .refine lkF (Jk h5 X Gn M7 ["plan"] ?_ rfl rfl ?_ ?_) rfl ?_ ?_<;>walk_at "lk"
   .refine lkF (Jk h6 X Gn M6 ["plan"] ?_ rfl rfl ?_ ?_) rfl ?_ ?_<;>walk_at "lk"
   .refine lkF (Jk h7 X Gn M5 ["plan","answer"] ?_ rfl rfl ?_ ?_) rfl ?_ ?_<;>walk_at "lk"
   .refine lkF (Jk h9 X Gn j3p ["_law_script","_law_k"] ?_ rfl rfl ?_ ?_) rfl ?_ ?_<;>walk_at "lk"
   .refine lkF (Jk h10 X Gn j15 ["_law_cell_here","_law_many"] ?_ rfl rfl ?_ ?_) rfl ?_ ?_<;>walk_at "lk"
   .refine lkF (Jk h11 X Gn j3o ["_law_left","_law_draw","_law_deep"] ?_ rfl rfl ?_ ?_) rfl ?_ ?_<;>walk_at "lk"
   .refine lkF (Jk h12 X Gn j3m ["_law_plan_here","_law_spots","_law_row"] ?_ rfl rfl ?_ ?_) rfl ?_ ?_<;>walk_at "lk"
   .refine lkF (Jk h13 X Gn j3n ["_law_found","_law_due_here"] ?_ rfl rfl ?_ ?_) rfl ?_ ?_<;>walk_at "lk"
   .refine lkF (Jk h14 X Gn j7k ["_law_plan_here","_law_spots","_law_row"] ?_ rfl rfl ?_ ?_) rfl ?_ ?_<;>walk_at "lk"
   .refine lkF (Jk h15 X Gn (j16 ko) ["_law_plan_here","_law_spots","_law_cell_here"] ?_ rfl rfl ?_ ?_) rfl ?_ ?_<;>walk_at "lk"
   .refine lkF (Jk h16 X Gn (j6g ko) ["_law_script"] ?_ rfl rfl ?_ ?_) rfl ?_ ?_<;>walk_at "lk"
  exact all (x,F) (lookup_mem hx)
 have bt:=j0p X Gn bz;have gl:∀x d,gs.lookup x=aa d->∃u v,mg x=aa u/\RelV v u/\∀H,Enc K H d v:=by
  intro x d hx;have hm:=lookup_mem hx;simp only[gs,xf,cX,or_false,Prod.mk.injEq]at hm;rcases hm with ⟨e1,e2⟩|⟨e1,e2⟩|⟨e1,e2⟩|⟨e1,e2⟩
  .subst e1 e2;exact⟨.str "abcdefghijklmnopqrstuvwxyz" gt0,.str "abcdefghijklmnopqrstuvwxyz",T8 X Gn gn0,⟨_,rfl⟩,λ_=>rfl⟩
  .subst e1 e2;exact⟨.int 8 gt1,.int 8,T8 X Gn gn1,⟨_,rfl⟩,λ_=>rfl⟩
  .subst e1 e2;exact⟨.int 1 gt2,.int 1,T8 X Gn gn2,⟨_,rfl⟩,λ_=>rfl⟩
  .subst e1 e2;exact⟨.int 6 gt3,.int 6,T8 X Gn gn3,⟨_,rfl⟩,λ_=>rfl⟩
 have qn:∀f∈qs,∃fa,mg f=aa (.ref fa)/\dy K (.ref fa)=ag:=by exact λf hf=>nomatch hf
 have tb:Tb l.prog w K mg base G:=jdw bt gl exa (λp hp=>nomatch hp) (λz=>by cases z) hKb hNb qn (λp hp=>nomatch hp) (jer tz X Gn);exact jbp hT tb (F:=j0h) (by rfl) rfl hfa (Qh lk c k) _ (by walk_at "sc") rfl rfl (j6g ko _) hlaw
end K56
end
open PySem (Str sizeLine argBest)
open L2
namespace K56
open KL KW KV
theorem Fv:T "_law_cell" = aa KL.fL_cell:=by rfl
theorem j70:T "_law_same" = aa KL.fL_same:=by rfl
theorem jcb:T "_law_words" = aa KW.fL_words:=by rfl
theorem W0(a:List ao):D.depL (a.map D.str)<=90:=by
 induction a with
 |nil=>simp[D.depL]
 |cons x a ih=>rw[xx,D.depL];simp[D.dep];exact ih
theorem j5j{p:List Int}{k:Nat}(h:k<p.length):atI (p.map D.int) (k:Int)=aa (.int (p.getD k 0)):=by
 have:=j95 h
 rwa [dC]at this
theorem jcd {p:List ao} {k:Nat} (h:k<p.length):atI (p.map D.str) (k:Int)=aa (.str (p.getD k "")):=by exact Qu (by rw[Xe,kh h];simp[h])
theorem U5(a:List ao):D.depL (a.map D.str)=0:=by
 induction a with
 |nil=>simp[D.depL]
 |cons x a ih=>rw[xx,D.depL,ih];simp[D.dep]
set_option genInjectivity true in
inductive Pl where
 |tell (b:Int)
 |ask (p:ao) (n y:Pl)
noncomputable def pD:Pl->D
 |.tell b=>.tup [.str "tell",.int b]
 |.ask p n y=>.tup [.str "ask",.str p,pD n,pD y]
def over(ws:List ao):Pl->Prop
 |.tell _=>True
 |.ask p n y=>p∈ws/\over ws n/\over ws y
noncomputable def dp:Pl->Nat
 |.tell _=>0
 |.ask _ n y=>max (dp n) (dp y)+1
noncomputable def wk(v:ao->Int):Pl->Int×List ao
 |.tell b=>(b,[])
 |.ask p n y=>if v p=1 then((wk v y).1,p::(wk v y).2) else((wk v n).1,p::(wk v n).2)
theorem Yv{ws us:List ao}(h:∀p∈us,p∈ws):∀{pl:Pl},over us pl->over ws pl
 |.tell _,_=>trivial
 |.ask _ _ _,⟨a,b,c⟩=>⟨h _ a,Yv h b,Yv h c⟩
theorem Yw:∀pl:Pl,Jy (pD pl)=ag
 |.tell _=>rfl
 |.ask _ n y=>by simp[pD,Jy,qu,Yw n,Yw y]
theorem Vd(v:ao->Int):∀pl:Pl,(wk v pl).2.length<=dp pl
 |.tell _=>by simp[wk,dp]
 |.ask p n y=>by have h1:=Vd v n;have h2:=Vd v y;unfold wk dp;split<;>simp only[xg]<;>omega
theorem Rg{c:En->Option Bool}{f:En->So}{ws:List ao}{v:ao->Int}(E:Pl->List D->En)(ht:∀b acc,c (E (.tell b) acc)=aa ae)
  (ha:∀p n y acc,p∈ws->acc.length<=100->c (E (.ask p n y) acc)=aa ag/\f (E (.ask p n y) acc)=.next (E (if v p=1 then y else n) (acc++[.str p]))) :
  ∀(pl:Pl)(acc:List D)(fu:Nat),over ws pl->dp pl<fu->acc.length+dp pl<=100->Q0 c f fu (E pl acc)=.next (E (.tell (wk v pl).1) (acc++(wk v pl).2.map D.str))
 |.tell b,acc,fu,_,hf,_=>by
  obtain⟨g,rfl⟩:∃g,fu=g+1:=⟨fu-1,by unfold dp at hf;omega⟩
  rw[Q0,ht];simp[wk]
 |.ask p n y,acc,fu,ho,hf,hl=>by
  obtain⟨g,rfl⟩:∃g,fu=g+1:=⟨fu-1,by unfold dp at hf;omega⟩
  unfold dp at hf hl;obtain⟨hp,hn,hy⟩:=ho;obtain⟨e1,e2⟩:=ha p n y acc hp (by omega);rw[Q0,e1];dsimp only;rw[e2];dsimp only;by_cases z:v p=1
  .rw[if_pos z,Rg E ht ha y _ g hy (by omega) (by rw[X8,dE];omega)];simp[wk,z]
  .rw[if_neg z,Rg E ht ha n _ g hn (by omega) (by rw[X8,dE];omega)];simp[wk,z]
noncomputable def rv(ws:List ao)(r:List Int)(p:ao):Int:=r.getD (ws.idxOf p) 0
theorem Lb:∀{ws:List ao}{p:ao},p∈ws->ixD (.str p) (ws.map D.str)=aa (ws.idxOf p)
 |[],p,h=>by cases h
 |w::ws,p,h=>by
  unfold ixD;rw[xx];dsimp only;rw[Vh];by_cases z:w=p
  .subst z;simp
  .have z':(w==p)=ae:=by simpa using z
   rw[z',if_neg (by simp),Lb (by simpa [ba z]using h),ja,z'];rfl
theorem jgq{ws:List ao}{r:List Int}{p:ao}(h01:∀x∈r,x=0\/x=1):rv ws r p=0\/rv ws r p=1:=jfl h01 _
theorem Mz {n:Nat} {pl:Pl}:evP 1000 G T (n+1) "is_ask" [pD pl]=.val (.bl (match pl with|.tell _=>ae|.ask ..=>ag)):=by
 rw[qx (F:=Uy) (by rfl) rfl];simp only[Uy,Vw,enter];have e1:(("tell":ao)==("ask":ao))=ae:=by decide
 have e2:(("ask":ao)==("ask":ao))=ag:=by decide
 cases pl with
 |tell b =>
  have i:atI [D.str "tell",.int b] 0=aa (.str "tell"):=rfl;simp only[pD];ext;rw[i];ext
  try rw[e1]
 |ask p n' y =>
  have i:atI [D.str "ask",.str p,pD n',pD y] 0=aa (.str "ask"):=rfl;simp only[pD];ext;rw[i];ext
  try rw[e2]
theorem j17 {n:Nat} {b:Int}:evP 1000 G T (n+1) "answer_told" [pD (.tell b)]=.val (.int b):=by rw[qx (F:=Zc) (by rfl) rfl];simp only[Zc,Qe,enter,pD];have i:atI [D.str "tell",.int b] 1=aa (.int b):=rfl;ext;rw[i];ext
theorem j0s {n:Nat} {p:ao} {a b:Pl}:evP 1000 G T (n+1) "place_asked" [pD (.ask p a b)]=.val (.str p):=by rw[qx (F:=Zb) (by rfl) rfl];simp only[Zb,Qd,enter,pD];have i:atI [D.str "ask",.str p,pD a,pD b] 1=aa (.str p):=rfl;ext;rw[i];ext
theorem Kf {n:Nat} {p:ao} {a b:Pl} {x:Int}:evP 1000 G T (n+1) "plan_behind" [pD (.ask p a b),.int x]=.val (pD (if x=1 then b else a)):=by
 rw[qx (F:=Za) (by rfl) rfl];simp only[Za,Qc,enter,pD];have i3:atI [D.str "ask",.str p,pD a,pD b] 3=aa (pD b):=rfl;have i2:atI [D.str "ask",.str p,pD a,pD b] 2=aa (pD a):=rfl;by_cases z:x=1
 .ext;rw[i3];ext;rw[if_pos z]
 .ext;rw[i2];ext;rw[if_neg z]
noncomputable def j69(v:ao->Int)(pl:Pl):D:=.tup [.int (wk v pl).1,.lst ((wk v pl).2.map D.str)]
theorem j13{n:Nat}{ws:List ao}{r:List Int}{pl:Pl}(hl:ws.length=r.length)(h6:ws.length<=6)(h01:∀x∈r,x=0\/x=1)(ho:over ws pl)(hd:dp pl<=50) :
  evP 1000 G T (n+1) "_law_walk" [pD pl,.lst (ws.map D.str),j0j r]=.val (j69 (rv ws r) pl):=by
 rw[qx (F:=Bh) (by rfl) rfl];simp only[Bh,Wh,enter];have e1:(("tell":ao)==("ask":ao))=ae:=by decide
 have e2:(("ask":ao)==("ask":ao))=ag:=by decide
 ext;rw[j7r,Rg (ws:=ws) (v:=rv ws r) (λpl acc=>[.val (pD pl),.val (.lst (ws.map D.str)),.val (j0j r),.own acc]) ?_ ?_ pl [] 1000 ho (by omega) (by simp;omega)]
 .have i:∀b:Int,atI [D.str "tell",.int b] 1=aa (.int b):=λ_=>rfl;simp only[pD];ext;rw[i];ext;simp[j69]
 .intro b acc;have i:atI [D.str "tell",.int b] 0=aa (.str "tell"):=rfl;simp only[pD];ext;rw[i];ext;rw[e1]
 .intro p a b acc hp hacc;have i0:atI [D.str "ask",.str p,pD a,pD b] 0=aa (.str "ask"):=rfl;have i1:atI [D.str "ask",.str p,pD a,pD b] 1=aa (.str p):=rfl;have i2:atI [D.str "ask",.str p,pD a,pD b] 2=aa (pD a):=rfl;have i3:atI [D.str "ask",.str p,pD a,pD b] 3=aa (pD b):=rfl;have tx:Uk (aa (.v (.e (.lst (ws.map D.str))))) (aa (.v (.e (.str p))))=aa (.v (.e (.int ((ws.idxOf p:Nat):Int)))):=by
   have hdl:D.depL (ws.map D.str)<=90/\(D.str p).dep<=90:=⟨W0 ws,by simp[D.dep]⟩
   simp only[Uk,Rk.d,if_pos hdl,Lb hp];rfl
  have hi:ws.idxOf p<r.length:=by rw[<-hl];exact T5 hp
  refine⟨?_,?_⟩
  .simp only[pD];ext;rw[i0];ext
  .simp only[pD];ext;rw[i1];ext;rw[i1];ext;rw[tx];simp only[j0j];ext;rw[j5j hi];ext;rcases jgq (ws:=ws) (p:=p) h01 with z|z
   .have z':r.getD (ws.idxOf p) 0=0:=z;rw[z,z',if_neg (by decide)];simp only[show(2:Int)+0=2 from rfl,i2];ext
   .have z':r.getD (ws.idxOf p) 0=1:=z;rw[z,z',if_pos rfl];simp only[show(2:Int)+1=3 from rfl,i3];ext
theorem Lp(l:List D)(h:D.depL l<=80):Jr .eq (.lst l) (.lst [])=aa l.isEmpty:=by
 rw[Lx (by simp only[D.dep];omega) (by simp[D.dep,D.depL])];cases l with
 |nil=>rfl
 |cons x l=>rfl
theorem j9y{a b c d:D}(h:Jy d=ag):Yl (aa (.a [.e a,.e b,.e c,.t d]))=aa (.v (.e (.tup [a,b,c,d]))):=Dk (by simp[zu,Rk.st,h]) (by simp)
def ov:List ao->Pl->Prop
 |_,.tell _=>True
 |ws,.ask p n y=>p∈ws/\ov (ws.filter λx=>!decide (x=p)) n/\ov (ws.filter λx=>!decide (x=p)) y
theorem j1l:∀(deep:Nat){n:Nat}{left:List ao}{draw:Int},left.length<=6->∃pl,ov left pl/\dp pl<=deep/\evP 1000 G T (n+deep+1) "_law_plan" [.lst (left.map D.str),.int draw,.int deep]=.val (pD pl):=by
 intro deep;induction deep with
 |zero =>
  intro n left draw hl;refine⟨.tell ((draw*48271+11)%2147483647/128%2),trivial,X3 _,?_⟩;rw[qx (F:=Q9) (by rfl) rfl];simp only[Q9,Zg,enter];ext;rw[Lp _ (by have:=U5 left;omega)];cases left with
  |nil =>simp only[du,List.isEmpty_nil];ext;simp only[pD]
  |cons w left =>simp only[xx,List.isEmpty_cons];ext;simp only[pD]
 |succ deep ih =>
  intro n left draw hl;by_cases h0:left=[]
  .subst h0;refine⟨.tell ((draw*48271+11)%2147483647/128%2),trivial,bM _,?_⟩;rw[qx (F:=Q9) (by rfl) rfl];simp only[Q9,Zg,enter];ext;simp only[pD]
  have hne:(left.map D.str).isEmpty=ae:=by
   cases left with
   |nil=>exact absurd rfl h0
   |cons w l=>rfl
  have hpos:1<=left.length:=by
   cases left with
   |nil=>exact absurd rfl h0
   |cons w l=>simp
  by_cases h6:(draw*48271+11)%2147483647/16%6=0
  .refine⟨.tell ((draw*48271+11)%2147483647/128%2),trivial,bM _,?_⟩;rw[qx (F:=Q9) (by rfl) rfl];simp only[Q9,Zg,enter];ext;rw[Lp _ (by have:=U5 left;omega),hne];ext;simp only[pD]
  obtain⟨dr,edr⟩:∃dr:Int,dr=(draw*48271+11)%2147483647:=⟨_,rfl⟩
  obtain⟨j,hj,ej⟩:∃j:Nat,j<left.length/\dr/16%(left.length:Int)=(j:Int):=by
   refine⟨(dr/16%(left.length:Int)).toNat,?_,?_⟩
   .have h1:=Pu (dr/16) (b:=(left.length:Int)) (by omega);have h2:=cJ (dr/16) (b:=(left.length:Int)) (by omega);omega
   .have h1:=Pu (dr/16) (b:=(left.length:Int)) (by omega);omega
  have hrl:(left.filter λx=>!decide (x=left.getD j "")).length<=6:=Xf (bZ _ _) hl;obtain⟨p1,o1,d1,e1'⟩:=ih (n:=n) (left:=left.filter λx=>!decide (x=left.getD j "")) (draw:=dr*3+1) hrl;obtain⟨p2,o2,d2,e2'⟩:=ih (n:=n) (left:=left.filter λx=>!decide (x=left.getD j "")) (draw:=dr*5+2) hrl;have e1:evP 1000 G T (n+(deep+1)) "_law_plan" [.lst ((left.filter λx=>!decide (x=left.getD j "")).map D.str),.int (dr*3+1),.int deep]=.val (pD p1):=e1';have e2:evP 1000 G T (n+(deep+1)) "_law_plan" [.lst ((left.filter λx=>!decide (x=left.getD j "")).map D.str),.int (dr*5+2),.int deep]=.val (pD p2):=e2';have sub:∀p∈left.filter λx=>!decide (x=left.getD j ""),p∈left:=λp hp=>(Pq.mp hp).1;have hin:left.getD j "" ∈ left:=by rw[km,kh hj];exact tu hj
  refine⟨.ask (left.getD j "") p1 p2,⟨hin,o1,o2⟩,by simp only[dp];omega,?_⟩;rw[qx (F:=Q9) (by rfl) rfl];simp only[Q9,Zg,enter];rw[<-edr]at h6;have ed1:((deep+1:Nat):Int)-1=(deep:Int):=by omega
  have ez:((deep+1:Nat):Int)≠0:=by omega
  ext;rw[<-edr,Lp _ (by have:=U5 left;omega),hne];ext;rw[ej,jcd hj];ext;rw[J8 (l:=(left.filter λx=>!decide (x=left.getD j "")).map D.str) (by rfl) (by rw[X5];omega) ?_ (.inl rfl)]
  .ext
   try rw[K3]
   rw[ed1,e1];ext;rw[jah (Yw p1)];ext
   try rw[K3]
   try rw[ed1]
   rw[e2];ext;rw[j9y (Yw p2)];ext;simp only[pD]
  .refine Ui (g:=D.str) (p:=λx=>!decide (x=left.getD j "")) λx hx=>Yj (b:=!decide (x=left.getD j "")) ?_ ?_
   .ext;rw[j5u];ext
   .intro _;ext
theorem Wa:∀{pl:Pl}{ws:List ao},ov ws pl->over ws pl
 |.tell _,_,_=>trivial
 |.ask p n y,ws,⟨a,b,c⟩=>⟨a,Yv (λq hq=>(Pq.mp hq).1) (Wa b),Yv (λq hq=>(Pq.mp hq).1) (Wa c)⟩
theorem Rb{v v':ao->Int}{ws:List ao}(h:∀p∈ws,v p=v' p):∀{pl:Pl},over ws pl->wk v pl=wk v' pl
 |.tell _,_=>rfl
 |.ask p n y,⟨a,b,c⟩=>by unfold wk;rw[h p a,Rb h b,Rb h c]
theorem Zz{v:ao->Int}{n:Nat}:∀(pl:Pl)(m:Nat),dp pl<m->Ja (evP 1000 G T (n+1)) v m (pD pl)=aa ((wk v pl).2,(wk v pl).1)
 |.tell b,m,h=>by
  obtain⟨m',rfl⟩:∃m',m=m'+1:=⟨m-1,by omega⟩
  unfold Ja;rw[Mz];dsimp only;rw[j17];rfl
 |.ask p a b,m,h=>by
  obtain⟨m',rfl⟩:∃m',m=m'+1:=⟨m-1,by omega⟩
  unfold Ja;rw[Mz];dsimp only;rw[j0s];dsimp only;rw[Kf];dsimp only;have ha:dp a<m':=by unfold dp at h;omega
  have hb:dp b<m':=by unfold dp at h;omega
  by_cases e:v p=1
  .rw[if_pos e,Zz b m' hb,show wk v (.ask p a b)=((wk v b).1,p::(wk v b).2)from if_pos e];rfl
  .rw[if_neg e,Zz a m' ha,show wk v (.ask p a b)=((wk v a).1,p::(wk v a).2)from if_neg e];rfl
theorem V8{v:ao->Int}{ws:List ao}:∀{pl:Pl},over ws pl->∀p∈(wk v pl).2,p∈ws
 |.tell b,_,p,hp=>by unfold wk at hp;cases hp
 |.ask q a b,ho,p,hp=>by
  obtain⟨h1,h2,h3⟩:=ho;by_cases e:v q=1
  .rw[show wk v (.ask q a b)=((wk v b).1,q::(wk v b).2)from if_pos e]at hp;rcases xf.mp hp with z|z
   .rw[z];exact h1
   .exact V8 h3 p z
  .rw[show wk v (.ask q a b)=((wk v a).1,q::(wk v a).2)from if_neg e]at hp;rcases xf.mp hp with z|z
   .rw[z];exact h1
   .exact V8 h2 p z
theorem j84{n:Nat}{ws:List ao}{r:List Int}{pl:Pl}(ho:over ws pl)(hd:dp pl<100)(hw:ws.length<=1000) :
  evP 1000 G T (n+2) (gq "played") [pD pl,.tup (ws.map D.str),.tup (r.map D.int)]=.hnd (Vp (pD pl) ws r (wk (rv ws r) pl).2 (wk (rv ws r) pl).1):=by
 have hq:gq "played" = "&played":=by decide +kernel
 rw[hq,qx (F:=Zn) (by rfl) rfl];simp only[Zn,enter];have e:Q8 1000 (evP 1000 G T (n+1)) G [.val (pD pl),.val (.tup (ws.map D.str)),.val (.tup (r.map D.int))]=.ret (.hnd (Vp (pD pl) ws r (wk (rv ws r) pl).2 (wk (rv ws r) pl).1)):=by unfold Q8;dsimp only;rw[Yn,j0f];dsimp only;have hp:=Zz (n:=n) (v:=Z9 ws r) pl 100 hd;rw[hp];unfold Ys;dsimp only;rw[if_pos ⟨Xk.mpr λp hp=>List.contains_iff_mem.mpr (V8 ho p hp),hw⟩];rfl
 rw[Ou,Ov];show fin (Oo (Q8 1000 (evP 1000 G T (n+1)) G [.val (pD pl),.val (.tup (ws.map D.str)),.val (.tup (r.map D.int))]) _)=_;rw[e];rfl
theorem j48{n:Nat}{ws:List ao}{pl:Pl}(ho:over ws pl)(hd:dp pl<100)(hw:ws.length<=1000) :
  evP 1000 G T (n+2) (gq "played") [pD pl,.tup (ws.map D.str),.non]=.hnd (Vq (pD pl) ws (wk (λ_=>0) pl).2 (wk (λ_=>0) pl).1):=by
 have hq:gq "played" = "&played":=by decide +kernel
 rw[hq,qx (F:=Zn) (by rfl) rfl];simp only[Zn,enter];have e:Q8 1000 (evP 1000 G T (n+1)) G [.val (pD pl),.val (.tup (ws.map D.str)),.val .non]=.ret (.hnd (Vq (pD pl) ws (wk (λ_=>0) pl).2 (wk (λ_=>0) pl).1)):=by unfold Q8;dsimp only;rw[Yn];dsimp only;have hp:=Zz (n:=n) (v:=λ_=>0) pl 100 hd;rw[hp];unfold Ys;dsimp only;rw[if_pos ⟨Xk.mpr λp hp=>List.contains_iff_mem.mpr (V8 ho p hp),hw⟩]
 rw[Ou,Ov];show fin (Oo (Q8 1000 (evP 1000 G T (n+1)) G [.val (pD pl),.val (.tup (ws.map D.str)),.val .non]) _)=_;rw[e];rfl
theorem j6h{ws:List ao}{p:ao}(hp:p∈ws):Uk (aa (.v (.e (.lst (ws.map D.str))))) (aa (.v (.e (.str p))))=aa (.v (.e (.int ((ws.idxOf p:Nat):Int)))):=by
 have hdl:D.depL (ws.map D.str)<=90/\(D.str p).dep<=90:=⟨W0 ws,by simp[D.dep]⟩
 simp only[Uk,Rk.d,if_pos hdl,Lb hp];rfl
noncomputable def Qm(v:ao->Int)(pl:Pl):D:=.tup [.int (wk v pl).1,.lst (ql v (wk v pl).2)]
theorem at0(a b:D):atI [a,b] 0=aa a:=rfl
theorem at1(a b:D):atI [a,b] 1=aa b:=rfl
theorem Lq{n:Nat}{ws:List ao}{r:List Int}{pl:Pl}(hl:ws.length=r.length)(h6:ws.length<=6)(h01:∀x∈r,x=0\/x=1)(ho:over ws pl)(hd:dp pl<=50) :
  evP 1000 G T (n+2) "_law_due" [pD pl,.lst (ws.map D.str),.tup (r.map D.int)]=.val (Qm (rv ws r) pl):=by
 have w:=j13 (n:=n) hl h6 h01 ho hd;have wl:=Vd (rv ws r) pl;have wo:=V8 (v:=rv ws r) ho;unfold j69 at w;rw[qx (F:=Lj) (by rfl) rfl];simp only[Lj,Od,enter];ext;rw[w];ext;rw[J8 (l:=ql (rv ws r) (wk (rv ws r) pl).2) (by rfl) (by rw[X5];omega) ?_ (.inl rfl)]
 .ext;rfl
 .unfold ql;refine Jf λp hp=>Qo (by ext) ?_;have hpw:=wo p hp;have:=T5 hpw;ext;rw[j6h hpw];ext;rw[j5j (by omega)];ext;rfl
theorem j5r{kvs:List (ao×Int)}{p q:ao}{n:Int}:qz (kvs++[(p,n)]) q=(qz kvs q || decide (p=q)):=by unfold qz;rw[jv];simp
theorem Wi{o:Ko}:∀{l:List ao}{kvs:List (ao×Int)},l.Nodup->qy o l kvs=kvs++(l.filter λp=>!qz kvs p).map λp=>(p,o.fa p)
 |[],kvs,_=>by simp[qy]
 |p::l,kvs,h=>by
  obtain⟨h1,h2⟩:=Xd.mp h;show qy o l (J4 o kvs p)=_;rw[Wi h2];unfold J4;by_cases e:qz kvs p=ag
  .rw[if_pos e,cZ (by simp[e])]
  .have e':qz kvs p=ae:=by simpa using e
   rw[if_neg e,cY (by simp[e']),xx,P0];congr 1;rw[gH];congr 2;refine List.filter_congr λq hq=>?_;rw[j5r];have:¬p=q:=λz=>h1 (by rw[z];exact hq);simp[this]
theorem j0t{o:Ko}{l:List ao}{kvs:List (ao×Int)}(h:l.Nodup):qy o l (qy o l kvs)=qy o l kvs:=by
 rw[Wi (kvs:=qy o l kvs) h];have:(l.filter λp=>!qz (qy o l kvs) p)=[]:=by
  rw[List.filter_eq_nil_iff];intro p hp;rw[Wi h];unfold qz;rw[jv];by_cases e:(kvs.any λq=>decide (q.1=p))=ag
  .simp[e]
  .have e':qz kvs p=ae:=by
    cases z:qz kvs p with
    |false=>rfl
    |true=>exact absurd z e
   have:((l.filter λp=>!qz kvs p).map λp=>(p,o.fa p)).any (λq=>decide (q.1=p))=ag:=by rw[iS];exact⟨(p,o.fa p),Xn.mpr ⟨p,Pq.mpr ⟨hp,by simp[e']⟩,rfl⟩,by simp⟩
   have this:((l.filter λp=>!kvs.any λq=>decide (q.1=p)).map λp=>(p,o.fa p)).any (λq=>decide (q.1=p))=ag:=this;rw[this,Bool.or_true];decide
 rw[this];simp
theorem Rp{v:ao->Int}:∀{pl:Pl}{ws:List ao},ov ws pl->(wk v pl).2.Nodup/\∀p∈(wk v pl).2,p∈ws
 |.tell b,ws,_=>by have:(wk v (.tell b)).2=[]:=rfl;rw[this];exact⟨jE,λp hp=>nomatch hp⟩
 |.ask q a b,ws,h=>by
  obtain⟨h1,h2,h3⟩:=h;obtain⟨a1,a2⟩:=Rp (v:=v) h2;obtain⟨b1,b2⟩:=Rp (v:=v) h3;by_cases e:v q=1
  .rw[show wk v (.ask q a b)=((wk v b).1,q::(wk v b).2)from if_pos e];refine⟨Xd.mpr ⟨λz=>?_,b1⟩,λp hp=>?_⟩
   .have:=b2 q z;simp at this
   .rcases xf.mp hp with z|z
    .rw[z];exact h1
    .exact(Pq.mp (b2 p z)).1
  .rw[show wk v (.ask q a b)=((wk v a).1,q::(wk v a).2)from if_neg e];refine⟨Xd.mpr ⟨λz=>?_,a1⟩,λp hp=>?_⟩
   .have:=a2 q z;simp at this
   .rcases xf.mp hp with z|z
    .rw[z];exact h1
    .exact(Pq.mp (a2 p z)).1
noncomputable abbrev kE1:Ex:=(.ix (.lst (.cons (.blt .list (.cons (.var 1) .nil)) (.cons (.blt .tuple (.cons (.var 1) .nil)) .nil))) (.bin .mod (.bin .fdiv (.var 2) (.lit (.int 1024))) (.lit (.int 2))))
theorem j9c{n:Nat}{ws:List ao}{c:Int}{s0 s3 s4 s5 s6 s7 s8 s9 s10:Sv}(h6:ws.length<=6):∃(sq:Bool)(x1:Rk),ev (evP 1000 G T n) G kE1 [s0,.val (.lst (ws.map D.str)),.val (.int c),s3,s4,s5,s6,s7,s8,s9,s10]=aa (.v x1)/\x1.d=D.seq sq (ws.map D.str):=by
 by_cases h:c/1024%2=0
 .refine⟨ag,?_⟩;ext;rw[Cu (l:=[.lst (ws.map D.str),.tup (ws.map D.str)]) rfl (by simp),h];ext;rw[at0];exact⟨_,rfl,rfl⟩
 .refine⟨ae,?_⟩;have h':c/1024%2=1:=by omega
  ext;rw[Cu (l:=[.lst (ws.map D.str),.tup (ws.map D.str)]) rfl (by simp),h'];ext;rw[at1];exact⟨_,rfl,rfl⟩
noncomputable abbrev qj(ws:List ao)(c:Int):List Int:=(aP ws.length).map λk=>c/2^k%2
def j0x(n:Nat)(ws:List ao)(pl:Pl)(c:Int):Prop:=KrC (evP 1000 G T (n+3)) G kE1 (.var 3) (.call "_law_due" (.cons (.var 0) (.cons (.var 1) (.cons (.var 3) .nil)))) (.cmp .eq (.bin .mod (.bin .fdiv (.var 2) (.lit (.int 64))) (.lit (.int 2))) (.lit (.int 1))) (.ix (.var 1) (.bin .mod (.bin .fdiv (.var 2) (.lit (.int 128))) (.blt .len (.cons (.var 1) .nil)))) (.tup (.cons (.var 8) (.cons (.ix (.var 3) (.tix (.var 1) (.var 8))) .nil))) (.ix (.ix (.var 7) (.lit (.int 0))) (.lit (.int 1))) (.var 0) (.not (.call "_law_same" (.cons (.var 9) (.cons (.var 6) .nil)))) (.bin .add (.var 7) (.comp [10] (.var 10) (.seq (.ix (.var 6) (.lit (.int 1)))) (.cons (.cmp .notin (.var 10) (.var 7)) .nil))) (.var 7) (.var 6) 5 6 7 8 9
   [.val (pD pl),.val (.lst (ws.map D.str)),.val (.int c),.val (.tup ((qj ws c).map D.int)),.un,.un,.un,.un,.un,.un,.un]
theorem right_of {n:Nat} {ws:List ao} {pl:Pl} {c:Int} (h6:1<=ws.length/\ws.length<=6) (kr:j0x n ws pl c):evP 1000 G T (n+4) "_law_right" [pD pl,.lst (ws.map D.str),.int c]=.val (.bl ag):=by
 unfold j0x at kr;rw[qx (F:=Rq) (by rfl) rfl];simp only[Rq,Ub,enter];ext;rw[J8 (l:=(qj ws c).map D.int) (by rfl) (by rw[vp];omega) ?_ (.inr (Wv _))]
 .ext;unfold krG;rw[if_pos kr];rfl
 .rw[Xw,Z5,Xz];refine Jf λk hk=>Qo (by ext) ?_;have hk:=Xy.mp hk;have et:(0+(k:Int)).toNat=k:=by omega
  have p:=p2k (k:=k) (by omega);rw[<-et]at p;ext;rw[et,Int.one_mul];rfl
theorem gF:G "FEWEST_PLACES" = aa (.int 1):=by rfl
theorem gM:G "MOST_PLACES" = aa (.int 6):=by rfl
theorem gL:G "LETTERS" = aa (.str "abcdefghijklmnopqrstuvwxyz"):=by rfl
theorem gW8:G "LONGEST_WORD" = aa (.int 8):=by rfl
noncomputable def low(c:Nat):Bool:=decide (97<=c)&&decide (c<=122)
noncomputable def isW(l:List Nat):Bool:=(decide (1<=l.length)&&decide (l.length<=8))&&l.all low
def asc(l:List Nat):Prop:=∀c∈l,c<128
theorem jf5 {c:Nat} (h:c<128):inS (ch1 c) "abcdefghijklmnopqrstuvwxyz" = low c:=by
 have key:∀i:Fin 128,inS (ch1 i.val) "abcdefghijklmnopqrstuvwxyz" = low i.val:=by decide +kernel
 exact key ⟨c,h⟩
theorem jdc{l:List Nat}(h:asc l):ascii (sL l)=ag:=by unfold ascii sL;rw[Array.all_eq_true'];intro c hc;simpa using h c (by simpa using hc)
theorem jd4{l:List Nat}:chs (sL l)=l.map λc=>D.str (ch1 c):=by unfold chs;rw[j1f]
theorem j21 {n:Nat} {l:List Nat} (h:asc l) (hl:l.length<=1000):evP 1000 G T (n+1) "is_made_of" [.str (sL l),.str "abcdefghijklmnopqrstuvwxyz"]=.val (.bl (l.all low)):=by
 rw[qx (F:=Zx) (by rfl) rfl];simp only[Zx,Qk,enter];ext;rw[jak (jdc h),jd4,J8 (l:=(l.map low).map D.bl) (by rfl) (by rw[X5];omega) ?_ (.inl rfl)]
 .ext;rw[gv];rfl
 .rw[Xz];refine Jf λc hc=>Qo (by ext) ?_;ext;rw[jf5 (h c hc)];rfl
theorem j12 {n:Nat} {l:List Nat} (h:asc l) (hl:l.length<=1000):evP 1000 G T (n+2) "is_word" [.str (sL l)]=.val (.bl (isW l)):=by
 rw[qx (F:=U3) (by rfl) rfl];simp only[U3,V7,enter];have sl:(sL l).length=l.length:=J9;have sl':(sL l).length<=1000000:=by omega
 by_cases h1:1<=l.length
 .by_cases h2:l.length<=8
  .ext;simp only[gW8];ext;simp only[gL];ext;rw[j21 h hl];ext;simp[isW,h1,h2]
  .ext;simp only[gW8];ext;simp[isW,h1,h2]
 .ext;simp[isW,h1]
theorem jgo{P:D}{t:Bool}{l:List D}(hP:P.sqv=aa (t,l)):Ul (aa (.v (.e P)))=aa (.i l):=by have:=Om hP;subst this;cases t<;>rfl
theorem jh1{P:D}{t:Bool}{l:List D}(hP:P.sqv=aa (t,l)):Jl .len (aa (.a [.e P]))=aa (.v (.e (.int l.length))):=by have:=Om hP;subst this;cases t<;>simp[Jl,Vk,D.seq,Rk.d,rkW]
theorem jbl(n:Int):lt n=0\/low (lt n)=ag:=by
 unfold lt;have h:∀c∈letters,low c=ag:=by decide
 rw[km];cases e:letters[n.toNat]? with
 |none=>exact .inl rfl
 |some c=>exact .inr (h c (Xg e))
theorem Bc{n:Int}(h:0<=n/\n<26):low (lt n)=ag:=by
 rcases jbl n with z|z
 .obtain⟨i,rfl⟩:∃i:Nat,n=(i:Int):=⟨n.toNat,by omega⟩
  have key:∀i:Fin 26,letters.getD i.val 0≠0:=by decide
  exact absurd z (key ⟨i,by omega⟩)
 .exact z
theorem j7d{c:Int}{m k:Nat}:∀x∈wrd c m k,low x=ag:=by
 have hl:∀x∈Zi c,low x=ag:=λx hx=>by obtain⟨k,_,rfl⟩:=Xn.mp hx;exact Bc (by omega)
 have hs:∀x∈Qv c (szN c),low x=ag:=λx hx=>by obtain⟨k,_,rfl⟩:=Xn.mp hx;exact Bc (by omega)
 intro x hx;unfold wrd at hx;split at hx
 .split at hx
  .exact hl x (gQ hx)
  .exact hl x (gW hx)
 .rcases Pr.mp hx with z|z
  .exact hs x (gQ z)
  .rcases xf.mp z with z|z
   .rw[z];exact Bc (by omega)
   .exact hs x (gW z)
theorem j3g{c:Int}{m k:Nat}:(wrd c m k).length<=8:=by
 have a:=De c;have l8:=J1 c;have ls:=za c (szN c);unfold wrd;split
 .split
  .rw[Xo];omega
  .rw[Xu];omega
 .rw[X8,xg,Xo,Xu];omega
theorem j3f{c:Int}{m:Nat}(hm:m<=6):(∀k,k<m->(wrd c m k).length=stN c m+k+1)\/∀k,k<m->(wrd c m k).length=szN c+1:=by
 have a:=De c;have l8:=J1 c;have ls:=za c (szN c);have st:=Er (c:=c) hm;by_cases h:c%4<2
 .refine .inl λk hk=>?_;unfold wrd;rw[if_pos h];split
  .rw[Xo];omega
  .rw[Xu];omega
 .refine .inr λk hk=>?_;unfold wrd;rw[if_neg h,X8,xg,Xo,Xu];omega
theorem jen{pre:List ao}{p:ao}(h:p∉pre):Jr .isin (.str p) (.lst (pre.map D.str))=aa ae:=by
 have d2:(D.str p).dep<=90:=by simp[D.dep]
 show(if D.depL (pre.map D.str)<=90/\(D.str p).dep<=90 then aa ((pre.map D.str).any λe=>deq e (.str p))else ah)=_;rw[if_pos ⟨W0 pre,d2⟩];congr 1;rw[eZ];intro e he;obtain⟨q,hq,rfl⟩:=Xn.mp he;rw[Vh];have:¬q=p:=λz=>h (z▸hq);simpa using this
theorem Ia {n:Nat} {P:D}:∀(r pre:List ao)(s:Sv),pre.length+r.length<=200->(∀p∈r,evP 1000 G T n "is_word" [.str p]=.val (.bl ag))->(pre++r).Nodup ->
  ∃s',Jb (Oc [2] (run 1000 (evP 1000 G T n) G (.seq (.ife (.not (.call "is_word" (.cons (.var 2) .nil))) (.seq (.raise "NoWord" (.fst (.cons (.rpr (.var 2)) (.cons (.lit (.str " is no word of one to eight small letters")) .nil)))) .nop) .nop) (.seq (.ife (.cmp .isin (.var 2) (.var 1)) (.seq (.raise "Twice" (.fst (.cons (.lit (.str "the place ")) (.cons (.rpr (.var 2)) (.cons (.lit (.str " stands twice")) .nil))))) .nop) .nop) (.seq (.app 1 (.var 2)) .nop))))) (r.map D.str) [.val P,.own (pre.map D.str),s]=.next [.val P,.own ((pre++r).map D.str),s']
 |[],pre,s,_,_,_=>⟨s,by rw[du,j22,Xp]⟩
 |p::r,pre,s,hl,hr,hn=>by
  have w:=hr p (X4 ..);have hp:p∉pre:=λz=>by rw[List.nodup_append]at hn;exact hn.2.2 p z p (X4 ..) rfl
  have ii:=jen hp;have hpl:(pre.map D.str).length<=1000:=by rw[X5];simp at hl;omega
  obtain⟨s',ih⟩:=Ia (n:=n) (P:=P) r (pre++[p]) (.val (.str p)) (by rw[X8];simp at hl ⊢;omega) (λx hx=>hr x (kj _ hx)) (by rw[P0];exact hn);rw[P0]at ih;refine⟨s',?_⟩;rw[xx];have step:Oc [2] (run 1000 (evP 1000 G T n) G (.seq (.ife (.not (.call "is_word" (.cons (.var 2) .nil))) (.seq (.raise "NoWord" (.fst (.cons (.rpr (.var 2)) (.cons (.lit (.str " is no word of one to eight small letters")) .nil)))) .nop) .nop) (.seq (.ife (.cmp .isin (.var 2) (.var 1)) (.seq (.raise "Twice" (.fst (.cons (.lit (.str "the place ")) (.cons (.rpr (.var 2)) (.cons (.lit (.str " stands twice")) .nil))))) .nop) .nop) (.seq (.app 1 (.var 2)) .nop)))) (.str p) [.val P,.own (pre.map D.str),s]=.next [.val P,.own ((pre++[p]).map D.str),.val (.str p)]:=by simp only[Ec];ext;rw[w];ext;rw[ii];ext;rw[T7];rfl
  rw[Mr step];exact ih
theorem j7y {n:Nat} {m:Int} (hm:1<=m/\m<=6):evP 1000 G T (n+1) "refuse_wrong_size" [.int m]=.val .non:=by
 rw[qx (F:=Jp) (by rfl) rfl];simp only[Jp,vo,enter];have h1:¬m<1:=by omega
 have h2:¬6<m:=by omega
 ext;simp only[gF];ext;simp only[gM];ext
def Ei(p:ao):Prop:=∃l,p=sL l/\asc l/\l.length<=8/\isW l=ag
theorem Ky {n:Nat} {t:Bool} {ws:List ao} (h6:1<=ws.length/\ws.length<=6) (hn:ws.Nodup) (hw:∀p∈ws,Ei p):evP 1000 G T (n+3) "refuse_wrong_places" [D.seq t (ws.map D.str)]=.val .non:=by
 have hP:(D.seq t (ws.map D.str)).sqv=aa (t,ws.map D.str):=by cases t<;>rfl
 generalize D.seq t (ws.map D.str)=P at *;rw[qx (F:=Ji) (by rfl) rfl];simp only[Ji,zy,enter];have rs:=j7y (n:=n+1) (m:=(ws.length:Int)) (by omega);ext;rw[jh1 hP];ext;rw[rs];ext;rw[jgo hP];ext;obtain⟨s',lp⟩:=Ia (n:=n+2) (P:=P) ws [] .un (by simp;omega) (λp hp=>by
  obtain⟨l,rfl,h1,h2,h3⟩:=hw p hp
  rw[j12 h1 (by omega),h3]) (by rw[fv];exact hn)
 rw[du]at lp;rw[lp];ext
theorem j7f{c:Int}{m:Nat}(hm:m<=6):∀p∈vz c m,Ei p:=λp hp=>by
 obtain⟨k,hk,rfl⟩:=Xn.mp hp;have h8:(wrd c m k).length<=8:=j3g;have hl:∀x∈wrd c m k,low x=ag:=λx hx=>j7d x hx;have h1:1<=(wrd c m k).length:=by rcases j3f (c:=c) hm with z|z<;>(rw[z k (Xy.mp hk)];omega)
 refine⟨wrd c m k,rfl,λx hx=>?_,h8,?_⟩
 .have:=hl x hx;simp[low]at this;omega
 .unfold isW;rw[Xk.mpr hl];simp[h1,h8]
theorem Wf:∀l:List (ao×Int),D.depL (l.map prD)<=1
 |[]=>by simp[D.depL]
 |q::l=>by have h:=Wf l;simp only[xx,D.depL,prD,D.dep];omega
theorem jd0{a p:ao}{x y:Int}:deq (prD (a,x)) (prD (p,y))=(decide (a=p)&&decide (x=y)):=by show deq (.tup [.str a,.int x]) (.tup [.str p,.int y])=_;rw[O6,Jo,Jo,Zd,Vh,j2l,gh];congr 1
theorem j3a{f g:ao×Int->Bool}:∀{L:List (ao×Int)},(∀x∈L,f x=g x)->L.any f=L.any g
 |[],_=>rfl
 |a::L,h=>by rw[Py,Py,h a (X4 ..),j3a λx hx=>h x (kj _ hx)]
theorem j4i{told:List (ao×Int)}{v:ao->Int}{p:ao}(h:∀q∈told,q.2=v q.1):Jr .notin (prD (p,v p)) (.lst (told.map prD))=aa (!qz told p):=by
 have d1:=Wf told;have d2:(prD (p,v p)).dep<=90:=by simp[prD,D.dep,D.depL]
 show(if D.depL (told.map prD)<=90/\(prD (p,v p)).dep<=90 then aa (!(told.map prD).any λe=>deq e (prD (p,v p)))else ah)=_;rw[if_pos ⟨by omega,d2⟩];congr 2;unfold qz;rw[gu];refine j3a λq hq=>?_;obtain⟨a,x⟩:=q;have hx:x=v a:=h _ hq;show deq (prD (a,x)) (prD (p,v p))=decide (a=p);rw[jd0,hx];by_cases e:a=p
 .subst e;simp
 .simp[e]
theorem j4p{q:ao×Int}:J3 (prD q):=by simp[prD,J3,Js]
theorem Nf{l:List (ao×Int)}(h:l.length<=1000):J3 (.lst (l.map prD)):=by simp only[J3,X5];refine⟨h,Ng λd hd=>?_⟩;obtain⟨q,_,rfl⟩:=Xn.mp hd;exact j4p
theorem j3y {n:Nat} {l:List (ao×Int)} (h:l.length<=1000):evP 1000 G T (n+4) "_law_same" [.lst (l.map prD),.lst (l.map prD)]=.val (.bl ag) :=
 Bu j70 3 (by have:=Wf l;simp only[D.dep];omega) (Nf h)
theorem Dl{v:ao->Int}{l:List ao}:ql v l=(l.map λp=>(p,v p)).map prD:=by unfold ql;rw[Xz];rfl
theorem Rj {n:Nat} {v:ao->Int} {pl:Pl} (h:dp pl<=6):evP 1000 G T (n+4) "_law_same" [Qm v pl,Qm v pl]=.val (.bl ag):=by
 have wl:=Vd v pl;refine Bu j70 3 ?_ ?_
 .unfold Qm;rw[Dl];have:=Wf ((wk v pl).2.map λp=>(p,v p));simp only[D.dep,D.depL];omega
 .unfold Qm;rw[Dl];have:J3 (.lst (((wk v pl).2.map λp=>(p,v p)).map prD)):=Nf (by rw[X5];omega);simp only[J3,Js,xg,T6]at this ⊢;exact⟨by decide,trivial,this,trivial⟩
noncomputable abbrev kR(ws:List ao)(pl:Pl)(c:Int)(t:List D)(s8 s9:Sv):En:=[.val (pD pl),.val (.lst (ws.map D.str)),.val (.int c),.val (.tup ((qj ws c).map D.int)),.un,.exc rfN,.val (Qm (rv ws (qj ws c)) pl),.own t,s8,s9,.un]
theorem jey {n:Nat} {ws:List ao} {pl:Pl} {c:Int} {t:List D} {s8:Sv} (hd:dp pl<=6):truth (ev (evP 1000 G T (n+4)) G (.not (.call "_law_same" (.cons (.var 9) (.cons (.var 6) .nil)))) (kR ws pl c t s8 (.val (Qm (rv ws (qj ws c)) pl))))=aa ae:=by have s:=Rj (n:=n) (v:=rv ws (qj ws c)) hd;ext;rw[s];ext
theorem jex{n:Nat}{ws:List ao}{pl:Pl}{c:Int}{told:List (ao×Int)}{s8 s9:Sv}(hd:dp pl<=6)(ht:∀q∈told,q.2=rv ws (qj ws c) q.1)(hl:told.length<=1) :
  ev (evP 1000 G T n) G (.bin .add (.var 7) (.comp [10] (.var 10) (.seq (.ix (.var 6) (.lit (.int 1)))) (.cons (.cmp .notin (.var 10) (.var 7)) .nil))) (kR ws pl c (told.map prD) s8 s9)=aa (.v (.o ((told++((wk (rv ws (qj ws c)) pl).2.filter λp=>!qz told p).map λp=>(p,rv ws (qj ws c) p)).map prD))):=by
 have wl:=Vd (rv ws (qj ws c)) pl;have fl:=bZ (λp=>!qz told p) (wk (rv ws (qj ws c)) pl).2;unfold kR Qm;generalize rv ws (qj ws c)=v at *;ext;rw[at1];ext;rw[J8 (l:=((wk v pl).2.filter λp=>!qz told p).map λp=>prD (p,v p)) (by rfl) (by unfold ql;rw[X5];omega) ?_ (.inl rfl)]
 .ext;rw[T7,Xz];rfl
 .unfold ql;refine Ui λp hp=>?_;have ni:=j4i (told:=told) (v:=v) (p:=p) ht;refine Yj (b:=!qz told p) ?_ λ_=>?_
  .ext;rw[ni];ext
  .ext
theorem je9{ws:List ao}{c:Int}:∀x∈qj ws c,x=0\/x=1:=λx hx=>by obtain⟨k,_,rfl⟩:=Xn.mp hx;omega
theorem Ox{ws:List ao}{c:Int}:(qj ws c).length=ws.length:=by simp[qj]
theorem jez{n:Nat}{ws:List ao}{pl:Pl}{c:Int}(h6:1<=ws.length/\ws.length<=6)(hn:ws.Nodup)(hw:∀p∈ws,Ei p)(hov:ov ws pl)(hd:dp pl<=6):j0x (n+1) ws pl c:=by
 have ho:=Wa hov;obtain⟨sq,x1,e1,e1d⟩:=j9c (n:=n+4) (c:=c) (s0:=.val (pD pl)) (s3:=.val (.tup ((qj ws c).map D.int))) (s4:=.un) (s5:=.un) (s6:=.un) (s7:=.un) (s8:=.un) (s9:=.un) (s10:=.un) h6.2;have due:=Lq (n:=n+2) (r:=qj ws c) (pl:=pl) Ox.symm h6.2 je9 ho (by omega);have sd:=Rj (n:=n) (v:=rv ws (qj ws c)) hd;have wl:=Vd (rv ws (qj ws c)) pl;have nd:=(Rp (v:=rv ws (qj ws c)) hov).1;have pw:=j84 (n:=n+2) (r:=qj ws c) ho (by omega) (by omega);have rp:evP 1000 G T (n+4) "refuse_wrong_places" [D.seq sq (ws.map D.str)]=.val .non:=Ky (n:=n+1) h6 hn hw;have fin:∀(told:List (ao×Int)) (s8:Sv),(∀q∈told,q.2=rv ws (qj ws c) q.1)->told.length<=1 ->
   (∀o:Ko,o.ps=ws->o.fa=Z9 ws (qj ws c)->KrA (evP 1000 G T (n+4)) G (.cmp .eq (.bin .mod (.bin .fdiv (.var 2) (.lit (.int 64))) (.lit (.int 2))) (.lit (.int 1))) (.ix (.var 1) (.bin .mod (.bin .fdiv (.var 2) (.lit (.int 128))) (.blt .len (.cons (.var 1) .nil)))) (.tup (.cons (.var 8) (.cons (.ix (.var 3) (.tix (.var 1) (.var 8))) .nil))) (.ix (.ix (.var 7) (.lit (.int 0))) (.lit (.int 1))) 7 8 o (kR ws pl c [] .un .un) (kR ws pl c (told.map prD) s8 .un) told)->j0x (n+1) ws pl c:=λtold s8 ht hl ka=>by
  have e8:=jex (n:=n+4) (s8:=s8) (s9:=.exc rfN) hd ht hl;have c7:=jey (n:=n) (ws:=ws) (c:=c) (t:=told.map prD) (s8:=s8) hd;have ask:∀o:Ko,o.ps=ws->o.fa=Z9 ws (qj ws c)->qy o (wk (rv ws (qj ws c)) pl).2 told=told++((wk (rv ws (qj ws c)) pl).2.filter λp=>!qz told p).map λp=>(p,rv ws (qj ws c) p):=λo h1 h2=>by rw[Wi nd,h2];rfl
  have ll:(told++((wk (rv ws (qj ws c)) pl).2.filter λp=>!qz told p).map λp=>(p,rv ws (qj ws c) p)).length<=1000:=by rw[X8,X5];have:=bZ (λp=>!qz told p) (wk (rv ws (qj ws c)) pl).2;omega
  have sp:=j3y (n:=n) ll;refine⟨sq,ws,qj ws c,x1,.e (.tup ((qj ws c).map D.int)),Qm (rv ws (qj ws c)) pl,kR ws pl c (told.map prD) s8 .un,told,.e (pD pl),pD pl,(wk (rv ws (qj ws c)) pl).2,(wk (rv ws (qj ws c)) pl).1,((told++((wk (rv ws (qj ws c)) pl).2.filter λp=>!qz told p).map λp=>(p,rv ws (qj ws c) p)).map prD),.w ((told++((wk (rv ws (qj ws c)) pl).2.filter λp=>!qz told p).map λp=>(p,rv ws (qj ws c) p)).map prD),.e (pD pl),.e (Qm (rv ws (qj ws c)) pl),.e .non,
   e1,e1d,?_,rfl,Ox,by omega,by omega,rp,?_,ka,?_,rfl,pw,c7,e8,?_,?_,rfl,?_,λo h1 h2=>⟨?_,?_⟩,sd,?_⟩
  .ext
  .simp only[eX];ext;rw[due];ext
  .ext
  .simp only[eX];ext
  .simp only[eX];ext
  .simp only[eX];ext
  .rw[ask o h1 h2];exact sp
  .rw[j0t nd,ask o h1 h2];exact sp
  .simp only[xg,T6];decide
 by_cases hc:c/64%2=1
 .obtain⟨j,hj,ej⟩:∃j:Nat,j<ws.length/\c/128%(ws.length:Int)=(j:Int):=by
   refine⟨(c/128%(ws.length:Int)).toNat,?_,?_⟩
   .have h1:=Pu (c/128) (b:=(ws.length:Int)) (by omega);have h2:=cJ (c/128) (b:=(ws.length:Int)) (by omega);omega
   .have h1:=Pu (c/128) (b:=(ws.length:Int)) (by omega);omega
  have hin:ws.getD j "" ∈ ws:=by rw[km,kh hj];exact tu hj
  have hix:=T5 hin;refine fin [(ws.getD j "",rv ws (qj ws c) (ws.getD j ""))] (.val (.str (ws.getD j ""))) (λq hq=>by rw[X7.mp hq]) (by simp) λo h1 h2=>⟨.inr ⟨?_,ws.getD j "",prD (ws.getD j "",rv ws (qj ws c) (ws.getD j "")),.e (.int (rv ws (qj ws c) (ws.getD j ""))),?_,?_,rfl,?_,by rw[h2];rfl,by rw[h1];exact hin,?_⟩⟩
  .ext
  .ext;rw[ej,jcd hj];ext
  .simp only[eX];ext;rw[j6h hin];ext;rw[j5j (by rw[Ox];exact hix)];ext;rfl
  .simp only[eX,xx,du];ext;rfl
  .unfold J4;rw[h2];rfl
 .refine fin [] .un (λq hq=>nomatch hq) (by simp) λo h1 h2=>⟨.inl ⟨?_,rfl,rfl⟩⟩
  ext
  try rw[show decide (c/64%2=1)=ae from decide_eq_false hc]
noncomputable def depth:Nat:=12
theorem rv0{ws:List ao}{r:List Int}(h:∀x∈r,x=0):∀p∈ws,rv ws r p=(λ_=>0:ao->Int) p:=λp _=>by
 unfold rv;rw[km];cases e:r[ws.idxOf p]? with
 |none=>rfl
 |some x=>exact h x (Xg e)
theorem jhh{ws:List ao}{r:List Int}{pl:Pl}(h:∀x∈r,x=0)(ho:over ws pl):Qm (rv ws r) pl=Qm (λ_=>0) pl:=by unfold Qm;rw[Rb (rv0 h) ho];congr 4;unfold ql;refine List.map_congr_left λp hp=>?_;rw[rv0 h p (V8 (v:=λ_=>0) ho p hp)]
theorem j36{Γ:ao->List D->Rc}{f:ao}{l:List D}{a b:D}:Qa Γ f (aa (.a [.o l,.e a,.e b]))=rcW (Γ f [.lst l,a,b]):=Wg rfl
theorem lawTrue:∀ns:List Int,ns.length<=63->evP 1000 G T (depth+1) "law" [.lst (ns.map D.int)]=.val (.bl ag):=by
 intro ns hns;obtain⟨ms,hms,hml⟩:=j5s ns (aa 4) (aa 12);obtain⟨m,em⟩:∃m:Nat,(m:Int)=1+zq ns 0%6:=⟨(1+zq ns 0%6).toNat,by omega⟩
 have hm:1<=m/\m<=6:=by omega
 have c0:evP 1000 G T 12 "_law_cell" [.lst (ns.map D.int),.int 0]=.val (.int (zq ns 0)):=Vv (n:=11) (k:=0) Fv (by decide);have c1:evP 1000 G T 12 "_law_cell" [.lst (ns.map D.int),.int 1]=.val (.int (zq ns 1)):=Vv (n:=11) (k:=1) Fv (by decide);have c2:evP 1000 G T 12 "_law_cell" [.lst (ns.map D.int),.int 2]=.val (.int (zq ns 2)):=Vv (n:=11) (k:=2) Fv (by decide);have c3:evP 1000 G T 12 "_law_cell" [.lst (ns.map D.int),.int 3]=.val (.int (zq ns 3)):=Vv (n:=11) (k:=3) Fv (by decide);have we:evP 1000 G T 12 "_law_words" [.int (zq ns 1),.int m]=.fresh ((vz (zq ns 1) m).map D.str):=Ej (n:=11) jcb hm;have wl:=Nz (zq ns 1) m;have wn:=Di (c:=zq ns 1) hm.2;have wo:=j7f (c:=zq ns 1) hm.2;generalize vz (zq ns 1) m=L at *;obtain⟨pl,hov,hd,pe⟩:=j1l 6 (n:=5) (left:=L) (draw:=zq ns 2%2147483647) (by omega);have pe:evP 1000 G T 12 "_law_plan" [.lst (L.map D.str),.int (zq ns 2%2147483647),.int 6]=.val (pD pl):=pe;have h6:1<=L.length/\L.length<=6:=by omega
 have ho:=Wa hov;have rr:∀c:Int,evP 1000 G T 12 "_law_right" [pD pl,.lst (L.map D.str),.int c]=.val (.bl ag):=λc=>right_of (n:=8) h6 (jez (n:=7) h6 wn wo hov hd);have z0:∀x∈ay m (0:Int),x=0:=λx hx=>(List.mem_replicate.mp hx).2;have due:evP 1000 G T 12 "_law_due" [pD pl,.lst (L.map D.str),.tup ((ay m (0:Int)).map D.int)]=.val (Qm (λ_=>0) pl):=by rw[<-jhh z0 ho];exact Lq (n:=10) (by rw[dH];exact wl) h6.2 (λx hx=>.inl (z0 x hx)) ho (by omega)
 have wkl:=Vd (λ_=>0) pl;have key:∀s3:Sv,KlC (evP 1000 G T 12) G (.var 2) (.blt .list (.cons (.var 1) .nil)) (.call "_law_due" (.cons (.var 2) (.cons (.var 1) (.cons (.bin .mul (.tup (.cons (.lit (.int 0)) .nil)) (.blt .len (.cons (.var 1) .nil))) .nil)))) [.val (.lst (ns.map D.int)),.val (.lst (L.map D.str)),.val (pD pl),s3]:=λs3=>by
  refine⟨ag,L,(wk (λ_=>0) pl).2,(wk (λ_=>0) pl).1,.e (pD pl),.o (L.map D.str),.e (Qm (λ_=>0) pl),?_,?_,rfl,?_,by omega,Ky (n:=9) h6 wn wo,j48 (n:=10) ho (by omega) (by omega),Rj (n:=8) hd⟩
  .ext
  .ext
  .ext;rw[Xw,show ay L.length (D.int 0)=(ay m (0:Int)).map D.int by rw[wl,cD],due];ext
 rw[qx (F:=j0h) (by rfl) rfl];simp only[j0h,j0r,enter,depth];ext;rw[c1,c0];ext;rw[<-em,we];ext;rw[c2];ext;rw[j36,pe];ext;rw[c3,hms];ext;rw[<-xx];refine j3u (λi ρ=>∃s3,ρ=[.val (.lst (ns.map D.int)),.val (.lst (L.map D.str)),.val (pD pl),s3]) ⟨.un,rfl⟩ ?_ ?_
 .rintro i d ρ hi ⟨s3,rfl⟩;obtain⟨z,hz,rfl⟩:=j5i hi;simp only[Ec];ext;rw[rr];ext;exact⟨_,rfl,_,rfl⟩
 .rintro ρ' ⟨s3,rfl⟩;ext;unfold klG;rw[if_pos (key s3)];rfl
end K56
end
open PySem PySem.W PyProof.Rows
local macro_rules | `(tactic| walk_at "lf") => `(tactic| (refine' L2.lf_mk ?a ?l ?c ?k; (case a => k_is); (case l => k_is); (case c => k_is); (case k => k_is)))
local macro_rules | `(tactic| walk_at "lm") => `(tactic| (refine' L2.lm_mk ?a ?i ?l ?c ?k; (case a => k_is); (case i => k_is); (case l => k_is); (case c => k_is); (case k => k_is)))
local macro_rules | `(tactic| walk_at "lmr") => `(tactic| (refine' L2.lmr_mk ?a ?i ?l ?c ?k ?r; (case a => k_is); (case i => k_is); (case l => k_is); (case c => k_is); (case k => k_is); (case r => k_is)))
local macro_rules | `(tactic| walk_at "lmc") => `(tactic| (refine' L2.lmc_mk ?a ?i ?l ?c ?k ?r ?fc ?ga; (case a => k_is); (case i => k_is); (case l => k_is); (case c => k_is); (case k => k_is); (case r => kernel_rfl); (case fc => kernel_rfl); (case ga => k_is)))
set_option Elab.async false
namespace PySem.W.Fast
def tw16197379921579524755:=0
def tw4576831291408377406:=0
def tw7938851631959380022:=0
def tw5523655889272652511:=0
def tw4141381549975471173:=0
def tw2032075732405685453:=0
def tw17699441764034862855:=0
def tw13517948972052316252:=0
def tw16373766663506202712:=0
def tw17485459109901118716:=0
def tw2334564406082713511:=0
def tw9769348166365464322:=0
def tw8967380704097550536:=0
def tw4127538149143388241:=0
def tw9375304430939766032:=0
def tw5144579148038803766:=0
def tw17816892091433008865:=0
def tw7002349690230652103:=0
def tw2486981252496002787:=0
def tw6140669726431187102:=0
def tw5811859235136430902:=0
def tw9093141595125138516:=0
def tw5489913524805855034:=0
def tw8962208722131379806:=0
def tw8964606357195280421:=0
def tw12097062152606187644:=0
def tw6144577156422388969:=0
def tw536661300065351020:=0
def tw7275994598205666795:=0
def tw17072339393765663140:=0
def tw368321738397502156:=0
def tw5557693076719399861:=0
def tw4464451614887413732:=0
def tw15120961486074424830:=0
def tw5075902945342697001:=0
def tw857084803974820861:=0
def tw9675990935377149745:=0
def tw1544573411998531653:=0
def tw72321290746339114:=0
def tw4800493909873721716:=0
def tw507777884285724937:=0
def tw3757175191794030401:=0
def tw13159357077358727366:=0
def tw7959440284359009102:=0
def tw8364506698545690004:=0
def tw16197075112382751098:=0
def tw3071838738730524448:=0
def tw3495885972488006578:=0
def tw10209349750168582708:=0
def tw15439572731694846594:=0
def tw14265389344723043689:=0
def tw15348145234134687810:=0
def tw17700174413504992644:=0
def tw10411993325886672476:=0
def tw15530001585202453543:=0
def tw2387013375881268210:=0
def tw8799744875799040146:=0
def tw8950888419439521723:=0
def tw5039761647707846779:=0
def tw17262417603872560455:=0
def tw9164702816431069283:=0
def tw14418047331975981755:=0
def tw15708858235168284825:=0
def tw12110614451854765066:=0
def tw16897727498011178171:=0
def tw15904368790086562551:=0
def tw6845081450059313415:=0
def tw8856726720094678700:=0
def tw10812704112188326204:=0
def tw9953291243458903552:=0
def tw8117411493337837731:=0
def tw3245871673525934551:=0
def tw11093844018063493159:=0
def tw13001915563944745917:=0
def tw2479738681895188190:=0
def tw15845156605419136587:=0
def tw17681154516401100856:=0
def tw16249089698707927464:=0
def tw4518509040360406102:=0
def tw13505831714433535522:=0
def tw12984091841638802577:=0
def tw2465009073337069530:=0
def tw13775108220436210575:=0
def tw635185471408019359:=0
def tw1478160927769115099:=0
def tw13488313947595521073:=0
def tw7975796696886891800:=0
def tw11166787894637550428:=0
def tw17131028492416703402:=0
def tw4795377749121426657:=0
def tw11670616311525783552:=0
def tw14693746093020588417:=0
def tw3038203885591168276:=0
def tw16501385561288778488:=0
def tw8901062079169709616:=0
def tw4427578903333161230:=0
def tw3642509664108358398:=0
def tw3486463504544418055:=0
def tw9581609556488320013:=0
def tw12205186292987121205:=0
def tw10162267110555206086:=0
def tw13536311112865271778:=0
def tw2643687046315501345:=0
def tw18044344028484483988:=0
def tw17889576394632316064:=0
def tw14718395232536838872:=0
def tw7998722370529984923:=0
def tw11633982785594374891:=0
def tw5624925202229328603:=0
def tw7947049888181818674:=0
def tw13631055166501455239:=0
def tw13195088910469930396:=0
def tw5993460157129968894:=0
def tw10413599591581739599:=0
def tw7304977986471342663:=0
def tw1055212543420207648:=0
def tw5061417810648227858:=0
def tw5048445073548877176:=0
def tw4394782242894498927:=0
def tw8374099075567315111:=0
def tw11178227842318529470:=0
def tw13110535582572457518:=0
def tw14543844641507289937:=0
def tw7027112088674425926:=0
def tw1412842575259917168:=0
def tw2210114479649327375:=0
def tw14216066659403700904:=0
def tw11816782350900266470:=0
def tw1690114277777093836:=0
def tw16548956524437638394:=0
def tw16990898857170024822:=0
def tw4592293148080875970:=0
def tw5990305094617283298:=0
def tw7451902017245778503:=0
def tw3046688026085224033:=0
def tw6367405108459355989:=0
def tw13202255137295077085:=0
def tw15697861241996621439:=0
def tw4946057960260773714:=0
def tw3111571352470983123:=0
def tw16311613779247784038:=0
def tw9651451436264755549:=0
def tw10020043631558495272:=0
def tw16781883628663637174:=0
def tw17478501144709980823:=0
def tw7205382918750902802:=0
def tw9579825289051469029:=0
def tw17649240257625133782:=0
def tw4024467896988882925:=0
def tw578818343571889529:=0
def tw1497216726403241066:=0
def tw12420964458351870591:=0
def tw13572736605150387963:=0
def tw14880007246164708888:=0
def tw12511671939635178578:=0
def tw10430611004653375878:=0
def tw4243395165919694199:=0
def tw17963169921139250894:=0
def tw3245883817810802657:=0
def tw16383112764989736767:=0
def tw3261648554001146436:=0
def tw6312911380672568634:=0
def tw12168227132209276133:=0
def tw16056611726074841891:=0
def tw13833871560912417673:=0
def tw17707210678907017228:=0
def tw14819431197391217595:=0
def tw11633105656950759344:=0
def tw13481343437342389607:=0
def tw7458721341160771449:=0
def tw7467297224094406049:=0
def tw763698916790126923:=0
def tw2590844492022465126:=0
def tw5451203539955339007:=0
def tw12726059295177611632:=0
def tw3055907022314480770:=0
def tw17283113661879874492:=0
def tw5637853444106854192:=0
def tw1103265693521363183:=0
def tw16642583838687360595:=0
def tw15853968392021673729:=0
def tw5457393829345959724:=0
def tw8119088986770772891:=0
end PySem.W.Fast
set_option maxRecDepth 100000 in
set_option maxHeartbeats 0 in
theorem PySem.Challenge.cw_leastasks_k56_played_holds : PySem.Challenge.rw_leastasks_k56_played.Holds := by
  w_on; o_law; k_head; (case hw => w_witness2)
  k_fill
  refine L2.walkL (l := PySem.Challenge.rw_leastasks_k56_played) (k := L2.lv (K56.depth + 1)) (x := "_law_script") (by decide) rfl rfl (ts := []) (fun w h Y => ⟨PySem.W.kIn_of Y, fun _ h => nomatch h⟩) ?tz ?F
  case tz => intro w; kernel_rfl
  case F =>
    intro w mg fa h KX Gn hmg tz
    refine' K56.head KX Gn hmg ?h0 ?h1 ?h2 ?h3 ?h4 ?h5 ?h6 ?h7 ?h8 ?h9 ?h10 ?h11 ?h12 ?h13 ?h14 ?h15 ?h16 ?bz tz ?gn0 ?gn1 ?gn2 ?gn3 ?exa ?hkp K56.lawTrue
    (case h0 => walk_at "lf")
    (case h1 => walk_at "lf")
    (case h2 => walk_at "lf")
    (case h3 => walk_at "lf")
    (case h4 => walk_at "lf")
    (case h5 => walk_at "lf")
    (case h6 => walk_at "lf")
    (case h7 => walk_at "lf")
    (case h8 => walk_at "lf")
    (case h9 => walk_at "lf")
    (case h10 => walk_at "lf")
    (case h11 => walk_at "lf")
    (case h12 => walk_at "lf")
    (case h13 => walk_at "lf")
    (case h14 => walk_at "lf")
    (case h15 => walk_at "lf")
    (case h16 => walk_at "lf")
    (case gn0 => k_is)
    (case gn1 => k_is)
    (case gn2 => k_is)
    (case gn3 => k_is)
    (case bz => kernel_rfl)
    (case exa => kernel_rfl)
    (case hkp => (refine' L2.KpH.mk ?cc ?cr ?nW ?mI ?mA ?mT ?mF ?rI ?rF; (case cc => (refine' L2.KpC.mk ?cat_ ?cpg ?chd ?cpo ?csa ?cmk_ ?ckc ?cnP ?cnR; (case cat_ => k_is); (case cpg => k_is); (case chd => k_is); (case cpo => k_is); (case csa => k_is); (case cmk_ => k_is); (case ckc => k_is); (case cnP => k_is); (case cnR => k_is))); (case cr => (refine' L2.KpC.mk ?rat_ ?rpg ?rhd ?rpo ?rsa ?rmk_ ?rkc ?rnP ?rnR; (case rat_ => k_is); (case rpg => k_is); (case rhd => k_is); (case rpo => k_is); (case rsa => k_is); (case rmk_ => k_is); (case rkc => k_is); (case rnP => k_is); (case rnR => k_is))); (case nW => k_is); (case mI => walk_at "lmc"); (case mA => walk_at "lmr"); (case mT => walk_at "lmr"); (case mF => walk_at "lm"); (case rI => walk_at "lm"); (case rF => walk_at "lm")))
#print axioms PySem.Challenge.cw_leastasks_k56_played_holds