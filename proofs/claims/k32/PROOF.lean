import PyProof.Rows.All
import Wide.All
import OpenK.AllK
import Wide.FinOn
import Lean
import PyProof.EqAt
import PyProof.EqKinds
import PyProof.TupleCall
import PyProof.Rows.SetFrom
import KE.KDictList
import KE.KMinKey
import KE.KRevIter
import PyProof.TupleOfGen
import PyProof.StrBlockL
import PySem.Challenge.RW_leastasks_k32_weights_refused
set_option Elab.async false
set_option linter.all false
set_option maxRecDepth 100000
set_option maxHeartbeats 4000000
set_option genSizeOf false
set_option genInjectivity false
def kh:=@List.getElem?_eq_getElem
def kj:=@List.mem_cons_of_mem
def km:=@List.length_map
def xf:=@List.getD_eq_getElem?_getD
def xg:=@Bool.false_ne_true
def xj:=@PySem.Heap.get?_push_of_some
def xm:=@List.mem_cons
def xn:=@PySem.Heap.lt_size
def xq:=@List.mem_cons_self
def xr:=@List.map_cons
def xu:=@List.mem_singleton
def xx:=@Nat.le_refl
def X3:=@List.size_toArray
def X4:=@List.length_cons
def X5:=@PySem.Heap.get?_push_size
def X6:=@List.length_append
def X7:=@List.getElem?_map
def X8:=@Nat.ne_of_lt
def Xa:=@List.getElem?_eq_some_iff
def Xb:=@Bool.and_eq_true
def Xc:=@Int.toNat_natCast
def Xd:=@Nat.lt_of_lt_of_le
def Xe:=@List.map_map
def Xf:=@List.mem_map
def Xg:=@List.mem_range
def Xh:=@List.mem_append_right
def Xi:=@List.lookup_cons
def Xj:=@List.map_append
def Xk:=@List.nodup_cons
def Xl:=@List.mem_of_getElem?
def Xm:=@Nat.le_trans
def Xn:=@Option.isSome_iff_exists
def Xo:=@List.all_eq_true
def Xp:=@List.length_replicate
def Xq:=@List.length_take
def Xr:=@List.append_nil
def Xu:=@List.replicate_succ
def Xv:=@Nat.lt_irrefl
def Xw:=@Bool.false_eq_true
def Xx:=@List.mem_filter
def Xy:=@Nat.lt_trans
def Xz:=@List.getElem?_eq_none
def ph:=@List.length_range
def pq:=@List.set_cons_succ
def P0:=@Option.map_eq_some_iff
def Pa:=@List.getElem?_append_left
def Pb:=@PySem.mem_of_lookup
def Pg:=@List.set_cons_zero
def Ph:=@List.getElem_mem
def Pj:=@List.map_nil
def Pk:=@PySem.F.plain_min_loop
def Pn:=@List.length_nil
def Pq:=@Int.emod_nonneg
def Pr:=@PySem.F.slot_dict_valueiterator_next
def Pu:=@List.drop_eq_getElem_cons
def Px:=@List.mem_filterMap
def Py:=@List.countP_cons
def Pz:=@List.mem_append_left
def t6:=@List.flatten_cons
def t7:=@List.mem_append
def t8:=@PySem.Heap.SameBut.update
def tu:=@Nat.ne_of_gt
def T3:=@List.take_of_length_le
def T4:=@Nat.zero_add
def T5:=@List.mem_replicate
def T6:=@Nat.le_succ
def T7:=@List.length_set
def T8:=@PySem.Around.under_plainId
def T9:=@List.mem_iff_getElem
def Tc:=@PySem.W.mg_of
def Td:=@Array.toList_append
def Te:=@PySem.W.hideAll_none
def Tf:=@List.length_drop
def Tg:=@Int.le_refl
def Tn:=@List.all_cons
def Tq:=@List.append_assoc
def Tt:=@Nat.lt_of_succ_le
def k84:=@And.intro
abbrev k85:=PySem.W.Frag
abbrev k86:=PySem.Value→PySem.Shared→Prop
abbrev k87:=List (PySem.Addr×PySem.Obj)
abbrev k88:=PySem.Str→Option PySem.Value
abbrev k89:=("__debug__":PySem.Str)
abbrev k8a:=("__classdict__":PySem.Str)
local macro_rules | `(tactic| omega)=>`(tactic| first | with_reducible assumption | with_reducible exact Nat.le_of_lt (by assumption) | with_reducible exact Nat.le_refl _ | lia)
section
namespace L2
open PySem PySem.Spec PyProof.Rows
noncomputable abbrev Key:=Sum Int Str
noncomputable def j9w:Key→Value→Bool
 |.inl k,v=>Value.isInt k v
 |.inr x,v=>Value.isStrOf x v
noncomputable def jit(w:World):Key→Int
 |.inl k=>hashInt k
 |.inr x=>hashStr w x
theorem v7:∀{k:Key}{v:Value},j9w k v=true→(∃i t,k=Sum.inl i∧v=Value.int i t)∨(∃x t,k=Sum.inr x∧v=Value.str x t)
 |.inl i,v,h=>by obtain⟨t,e⟩:=Value.isInt_shape (k:=i) (v:=v) h;exact .inl ⟨i,t,rfl,e⟩
 |.inr x,v,h=>by obtain⟨t,e⟩:=Value.isStrOf_shape (x:=x) (v:=v) h;exact .inr ⟨x,t,rfl,e⟩
theorem jet(a b:Int):decide ((Sum.inl a:Key)=Sum.inl b)=(a==b):=by
 by_cases e:a=b
 ·subst e;simp
 ·have h:¬(Sum.inl a:Key)=Sum.inl b:=fun q=>e (Sum.inl.inj q);rw[decide_eq_false h];exact(beq_eq_false_iff_ne.mpr e).symm
theorem jeq(a b:Str):decide ((Sum.inr a:Key)=Sum.inr b)=decide (a=b):=by
 by_cases e:a=b
 ·subst e;simp
 ·have h:¬(Sum.inr a:Key)=Sum.inr b:=fun q=>e (Sum.inr.inj q);rw[decide_eq_false h,decide_eq_false e]
theorem jes(a:Int)(b:Str):decide ((Sum.inl a:Key)=Sum.inr b)=false:=decide_eq_false (fun q=>nomatch q)
theorem jer(a:Str)(b:Int):decide ((Sum.inr a:Key)=Sum.inl b)=false:=decide_eq_false (fun q=>nomatch q)
noncomputable def j1q(prog:Program)(w:World):PySem.KeyKind prog w Key where
 is:=j9w
 hash:=jit w
 inj:=fun v a b ha hb=>by
  rcases v7 ha with ⟨i,t,rfl,rfl⟩|⟨x,t,rfl,rfl⟩
  ·rcases v7 hb with ⟨j,u,rfl,e⟩|⟨y,u,rfl,e⟩
   ·injection e with e1 _;rw[e1]
   ·exact nomatch e
  ·rcases v7 hb with ⟨j,u,rfl,e⟩|⟨y,u,rfl,e⟩
   ·exact nomatch e
   ·injection e with e1 _;rw[e1]
 byValue:=fun k v h=>by rcases v7 h with ⟨i,t,rfl,rfl⟩|⟨x,t,rfl,rfl⟩<;>rfl
 pyHash:=fun hv h=>by
  rcases v7 hv with ⟨i,t,rfl,rfl⟩|⟨x,t,rfl,rfl⟩
  ·exact wpAny_pyHash_int h
  ·exact wpAny_pyHash_str h
 eqBool:=fun hu hv h=>by
  rcases v7 hu with ⟨i,t,rfl,rfl⟩|⟨x,t,rfl,rfl⟩
  ·rcases v7 hv with ⟨j,u,rfl,rfl⟩|⟨y,u,rfl,rfl⟩
   ·rw[jet]at h;exact wpAny_eqBool_int h
   ·rw[jes]at h;exact SeqAt.EqAt.int_str i t y u _ _ _ _ h
  ·rcases v7 hv with ⟨j,u,rfl,rfl⟩|⟨y,u,rfl,rfl⟩
   ·rw[jer]at h;exact SeqAt.EqAt.str_int x t j u _ _ _ _ h
   ·rw[jeq]at h;exact wpAny_eqBool_str h
 «strs»:=fun k x t v h=>by
  rcases v7 h with ⟨i,u,rfl,e⟩|⟨y,u,rfl,e⟩
  ·exact nomatch e
  ·injection e with e1 _;subst e1;cases v<;>rfl
end L2
namespace L2
open PySem PySem.Spec PyProof.Rows
set_option genInjectivity true in
inductive V where
 |non|bl (b:Bool)|int (i:Int)|str (x:Str)|byt (b:Array UInt8)|flt (b:UInt64)|ref (a:Addr)|ty (n:String)
 deriving DecidableEq
def RelV:V→Value→Prop
 |.non,u=>u=Value.none
 |.bl b,u=>u=Value.bool b
 |.int i,u=>∃t,u=Value.int i t
 |.str x,u=>∃t,u=Value.str x t
 |.byt b,u=>∃t,u=Value.bytes b t
 |.flt b,u=>∃t,u=Value.float b t
 |.ref a,u=>u=Value.ref a
 |.ty n,u=>u=Value.type n
abbrev Vals:List V→List Value→Prop:=Paired RelV
theorem Vals.length{xs:List V}{us:List Value}(r:Vals xs us):xs.length=us.length:=Paired.length r
theorem Vals.get:∀{xs:List V}{us:List Value}{i:Nat}{x:V},Vals xs us→xs[i]?=some x→∃u,us[i]?=some u∧RelV x u
 |_,_,_,_,.nil,e=>by simp at e
 |_,_,0,_,.cons r _,e=>by simp at e;subst e;exact⟨_,rfl,r⟩
 |_,_,i+1,x,.cons _ t,e=>by obtain⟨u,h1,h2⟩:=Vals.get (i:=i) (x:=x) t (by simpa using e);exact⟨u,by simpa using h1,h2⟩
theorem Vals.set{x:V}{u:Value}(r:RelV x u):∀{xs:List V}{us:List Value}(i:Nat),Vals xs us→Vals (xs.set i x) (us.set i u)
 |_,_,_,.nil=>.nil
 |_,_,0,.cons _ t=>.cons r t
 |_,_,i+1,.cons q t=>.cons q (Vals.set r i t)
theorem Vals.append:∀{xs ys:List V}{us ws:List Value},Vals xs us→Vals ys ws→Vals (xs++ys) (us++ws)
 |_,_,_,_,.nil,s=>s
 |_,_,_,_,.cons r t,s=>.cons r (Vals.append t s)
theorem Vals.take:∀{xs:List V}{us:List Value}(n:Nat),Vals xs us→Vals (xs.take n) (us.take n)
 |_,_,0,_=>.nil
 |_,_,_+1,.nil=>.nil
 |_,_,n+1,.cons r t=>.cons r (Vals.take n t)
theorem Vals.drop:∀{xs:List V}{us:List Value}(n:Nat),Vals xs us→Vals (xs.drop n) (us.drop n)
 |_,_,0,r=>r
 |_,_,_+1,.nil=>.nil
 |_,_,n+1,.cons _ t=>Vals.drop n t
def jgf:Option V→Option Value→Prop
 |some v,some u=>RelV v u
 |none,none=>True
 |_,_=>False
def KV{κ:Type}:List (κ×V)→List (κ×Value)→Prop:=Paired fun(p:κ×V) (q:κ×Value)=>p.1=q.1∧RelV p.2 q.2
noncomputable def kV:Key→V
 |.inl i=>.int i
 |.inr x=>.str x
inductive HO where
 |lst (xs:List V)
 |tup (xs:List V)
 |dK (kvs:List (Key×V))|dT (kvs:List (List Key×V))
 |dI (xs:List (List Int×Addr×Value)) (ep:Nat)
 |set (S:Int→Bool) (n:Nat)
 |ins (C dx:Addr) (fs:List (Str×V))
 |own (x:Addr)
 |xd (fs:List (Str×V))
 |met (f x:Addr)
 |rng (lo hi:Int)
 |frz (o:Obj) (u:HO)
 |tbl (ps:Array Value)
 |cod (q:Str)
 |ext (φ:Heap→Prop)
noncomputable abbrev Hp:=Addr→Option HO
noncomputable def upd(H:Hp)(a:Addr)(o:HO):Hp:=fun b=>if b=a then some o else H b
theorem j9{H:Hp}{a:Addr}{o:HO}:upd H a o a=some o:=by unfold upd;rw[if_pos rfl]
theorem jb{H:Hp}{a b:Addr}{o:HO}(h:b≠a):upd H a o b=H b:=by unfold upd;rw[if_neg h]
theorem v6{H:Hp}{a b:Addr}{o:HO}(h:H a=some o)(h':H b=none):a≠b:=by intro e;subst e;rw[h]at h';cases h'
def V7(h:Heap)(a:Addr):Prop:=∀o,h.get? a=some o→o.dict=none
theorem V7.new(h:Heap)(xs:Array Value):V7 (h.push { cls:=.type "tuple",data:=.seq xs }) h.objs.size:=fun o e=>by have z:(h.push { cls:=.type "tuple",data:=.seq xs }).get? h.objs.size=some { cls:=.type "tuple",data:=.seq xs }:=X5 _ rfl;rw[z]at e;cases e;rfl
theorem V7.of{h:Heap}{a:Addr}{d:Data}{c:Value}(e:h.get? a=some { cls:=c,data:=d }):V7 h a:=fun o e'=>by rw[e]at e';cases e';rfl
def Mv(o:Obj)(q:Str):Prop:=∃(vs:Array Value)(t:Tok),o.data=.fields vs∧vs[1]?=some (.str q t)
section
variable(P:Program)(w:World)
def jg(H:Hp)(h:Heap)(a:Addr):HO→Prop
 |.lst xs=>xs.length≤sizeLine∧∃(its:List Value)(n:Nat),Vals xs its∧h.get? a=some { cls:=.type "list",data:=.seq its.toArray n }
 |.tup xs=>xs.length≤sizeLine∧∃its:List Value,Vals xs its∧IsTup h a its.toArray∧V7 h a
 |.dK kvs=>kvs.length≤sizeLine∧(a==sysModules)=false∧∃vs,KV kvs vs∧h.DictOf (j1q P w) a vs
 |.dT kvs=>kvs.length≤sizeLine∧(a==sysModules)=false∧∃xs:List (List Key×Addr×Value),
   Paired (fun(p:List Key×V) (q:List Key×Addr×Value)=>p.1=q.1∧H q.2.1=some (.tup (p.1.map kV))∧RelV p.2 q.2.2) kvs xs ∧
   ∃o es ep,h.get? a=some o∧o.ExactDict∧o.data=.dict es ep∧es.toList=xs.map (entryOfKey (tupleKind (j1q P w)))∧(xs.map (·.1)).Nodup
 |.dI xs ep=>xs.length≤sizeLine∧(a==sysModules)=false∧(xs.map fun x=>x.1).Nodup∧∃(o:Obj)(es:Array DictEntry),h.get? a=some o∧o.ExactDict∧o.data=.dict es ep∧es.toList=xs.map (entryOfKey (tupleKind (intKind P w)))
 |.set S n=>h.SetOf (intKind P w) a S n
 |.ins C dx fs=>H dx=some (.own a)∧fs.length≤1000∧dx≠a∧h.get? a=some (W.instObj C dx) ∧
   ∃mA,h.Ns1 dx mA∧(∀f,jgf (fs.lookup f) (mA f))∧PySem.Within mA (fs.map (·.1))
 |.own _=>∃o,h.get? a=some o
 |.xd fs=>∃mA,h.Ns1 a mA∧∀f,jgf (fs.lookup f) (mA f)
 |.rng lo hi=>∃t u v,h.get? a=some { cls:=.type "range",data:=.fields #[.int lo t,.int hi u,.int 1 v] }
 |.frz o u=>h.get? a=some o∧jg H h a u
 |.tbl ps=>h.get? a=some { cls:=.none,data:=.fields ps }
 |.cod q=>∃ps:Array Value,h.get? a=some (W.tabObj ps)∧TriplesOk ps.toList∧∀pos cv,codeAmong pos ps.toList=some cv→∃(c:Addr)(oc:Obj),cv=.ref c∧H c=some (.frz oc (.own 0))∧Mv oc q
 |.met f x=>h.get? a=some (W.methodObj (.ref f) (.ref x))
 |.ext φ=>φ h∧(∃o,h.get? a=some o)∧∀h1 h2:Heap,φ h1→(∀o,h1.get? a=some o→h2.get? a=some o)→φ h2
def HOk(H:Hp)(h:Heap):Prop:=∀a o,H a=some o→jg P w H h a o
end
section
variable{P:Program}{w:World}{H H':Hp}{h h':Heap}{a:Addr}{o:HO}
theorem jg.lt(x:jg P w H h a o):a<h.objs.size:=by
 cases o with
 |lst xs=>obtain⟨_,_,_,_,e⟩:=x;exact xn e
 |tup xs=>obtain⟨_,_,_,p,_⟩:=x;exact p.lt
 |dK kvs=>obtain⟨_,_,_,_,o,_,_,e,_⟩:=x;exact xn e
 |dT kvs=>obtain⟨_,_,_,_,o,_,_,e,_⟩:=x;exact xn e
 |dI xs ep=>obtain⟨_,_,_,o,_,e,_⟩:=x;exact xn e
 |set S n=>obtain⟨o,_,_,_,e,_⟩:=x;exact xn e
 |ins C dx fs=>obtain⟨_,_,_,e,_⟩:=x;exact xn e
 |own y=>obtain⟨_,e⟩:=x;exact xn e
 |xd fs=>obtain⟨_,⟨_,_,_,e,_⟩,_⟩:=x;exact xn e
 |rng lo hi=>obtain⟨_,_,_,e⟩:=x;exact xn e
 |frz ob u=>obtain⟨e,_⟩:=x;exact xn e
 |tbl ps=>exact xn (show h.get? a=some _ from x)
 |cod q=>obtain⟨_,e,_⟩:=x;exact xn e
 |met f y=>exact xn (show h.get? a=some _ from x)
 |ext φ=>obtain⟨_,⟨_,e⟩,_⟩:=x;exact xn e
theorem Paired.mapP{α β:Type}{F G:α→β→Prop}:∀{l₁:List α}{l₂:List β},Paired F l₁ l₂→(∀a b,F a b→G a b)→Paired G l₁ l₂
 |_,_,.nil,_=>.nil
 |_,_,.cons r t,f=>.cons (f _ _ r) (Paired.mapP t f)
theorem jg.stay(x:jg P w H h a o)(k:∀b u,(b=a∨H b=some (.own a))→h.get? b=some u→h'.get? b=some u)
  (ho:∀b,H b=some (.own a)→H' b=some (.own a)) (ht:∀b xs,H b=some (.tup xs)→H' b=some (.tup xs)) (hz:∀b o,(∃vs,o.data=.fields vs)→H b=some (.frz o (.own 0))→H' b=some (.frz o (.own 0))):jg P w H' h' a o:=by
 induction o with
 |lst xs=>obtain⟨z,its,n,r,e⟩:=x;exact⟨z,its,n,r,k _ _ (.inl rfl) e⟩
 |tup xs =>obtain⟨z,its,r,⟨ob,e,c⟩,nd⟩:=x;refine⟨z,its,r,⟨ob,k _ _ (.inl rfl) e,c⟩,fun o q=>?_⟩;rw[k _ _ (.inl rfl) e]at q;cases q;exact nd _ e
 |dK kvs=>obtain⟨z,y,vs,r,ob,es,ep,e,c⟩:=x;exact⟨z,y,vs,r,ob,es,ep,k _ _ (.inl rfl) e,c⟩
 |dT kvs =>obtain⟨z,y,xs,r,ob,es,ep,e,c⟩:=x;exact⟨z,y,xs,Paired.mapP r fun p q z=>⟨z.1,ht _ _ z.2.1,z.2.2⟩,ob,es,ep,k _ _ (.inl rfl) e,c⟩
 |dI xs ep=>obtain⟨z,y,nd,ob,es,e,c⟩:=x;exact⟨z,y,nd,ob,es,k _ _ (.inl rfl) e,c⟩
 |set S n=>obtain⟨ob,es,ep,t,e,c⟩:=x;exact⟨ob,es,ep,t,k _ _ (.inl rfl) e,c⟩
 |ins C dx fs =>obtain⟨d,z,ne,e,mA,⟨od,es,ep,e2,c⟩,r⟩:=x;exact⟨ho _ d,z,ne,k _ _ (.inl rfl) e,mA,⟨od,es,ep,k _ _ (.inr d) e2,c⟩,r⟩
 |own y=>obtain⟨ob,e⟩:=x;exact⟨ob,k _ _ (.inl rfl) e⟩
 |xd fs=>obtain⟨mA,⟨od,es,ep,e,c⟩,r⟩:=x;exact⟨mA,⟨od,es,ep,k _ _ (.inl rfl) e,c⟩,r⟩
 |rng lo hi=>obtain⟨t,u,v,e⟩:=x;exact⟨t,u,v,k _ _ (.inl rfl) e⟩
 |frz ob u ih=>obtain⟨e,q⟩:=x;exact⟨k _ _ (.inl rfl) e,ih q⟩
 |tbl ps =>have e:h.get? a=some { cls:=.none,data:=.fields ps }:=x;show h'.get? a=some { cls:=.none,data:=.fields ps };exact k a _ (.inl rfl) e
 |cod q=>obtain⟨ps,e,t,c⟩:=x;exact⟨ps,k _ _ (.inl rfl) e,t,fun pos cv z=>let ⟨c,oc,e1,e2,e3⟩:=c pos cv z;⟨c,oc,e1,hz _ _ (let ⟨vs,_,z,_⟩:=e3;⟨vs,z⟩) e2,e3⟩⟩
 |met f y =>have e:h.get? a=some (W.methodObj (.ref f) (.ref y)):=x;show h'.get? a=some (W.methodObj (.ref f) (.ref y));exact k a _ (.inl rfl) e
 |ext φ=>obtain⟨p,⟨o,e⟩,st⟩:=x;exact⟨st _ _ p fun o q=>k _ _ (.inl rfl) q,⟨o,k _ _ (.inl rfl) e⟩,st⟩
theorem HOk.lt(x:HOk P w H h)(e:H a=some o):a<h.objs.size:=(x a o e).lt
theorem HOk.fresh(x:HOk P w H h)(e:h.objs.size≤a):H a=none:=by
 cases q:H a with
 |none=>rfl
 |some u=>exact absurd (Xd (x.lt q) e) (Xv _)
theorem HOk.kept(x:HOk P w H h)(k:∀b u,h.get? b=some u→h'.get? b=some u):HOk P w H h':=fun a o e =>(x a o e).stay (fun b u _ q=>k b u q) (fun _ q=>q) (fun _ _ q=>q) fun _ _ _ q=>q
theorem HOk.laid(x:HOk P w H h)(k:∀b u,h.get? b=some u→h'.get? b=some u)(hp:h.objs.size≤a)(new:jg P w (upd H a o) h' a o):HOk P w (upd H a o) h':=fun b u e=>by
 have hn:=x.fresh hp;by_cases hb:b=a
 ·subst hb;rw[j9]at e;cases e;exact new
 ·rw[jb hb]at e;exact(x b u e).stay (fun c v _ q=>k c v q) (fun c q=>by rw[jb (v6 q hn)];exact q) (fun c xs q=>by rw[jb (v6 q hn)];exact q) fun c _ _ q=>by rw[jb (v6 q hn)];exact q
end
def Rd(H:Hp)(a:Addr)(u:HO):Prop:=H a=some u∨∃o,H a=some (.frz o u)
theorem Rd.ok{P:Program}{w:World}{H:Hp}{h:Heap}{a:Addr}{u:HO}(r:Rd H a u)(x:HOk P w H h):jg P w H h a u:=by
 rcases r with r|⟨o,r⟩
 ·exact x a u r
 ·obtain⟨_,q⟩:=x a _ r;exact q
def Mut:Option HO→Prop
 |some (.lst _)=>True
 |some (.dK _)=>True
 |some (.dT _)=>True
 |some (.dI _ _)=>True
 |some (.set _ _)=>True
 |some (.ins _ _ _)=>True
 |some (.ext _)=>True
 |some (.cod _)=>True
 |_=>False
section
variable{P:Program}{w:World}{H:Hp}{h h':Heap}{x e:Addr}{o':HO}
theorem HOk.write(ok:HOk P w H h)(mu:Mut (H x))(he:e=x∨H e=some (.own x))(k:∀b u,b≠e→h.get? b=some u→h'.get? b=some u)(heo:∃u,h'.get? e=some u)
  (new:jg P w (upd H x o') h' x o'):HOk P w (upd H x o') h':=fun b u q=>by
 have nown:∀c y,H c=some (.own y)→c≠x:=fun c y r z=>by subst z;rw[r]at mu;exact mu
 have ntup:∀c xs,H c=some (.tup xs)→c≠x:=fun c xs r z=>by subst z;rw[r]at mu;exact mu
 have nfrz:∀c o u,H c=some (.frz o u)→c≠x:=fun c o u r z=>by subst z;rw[r]at mu;exact mu
 by_cases hb:b=x
 ·subst hb;rw[j9]at q;cases q;exact new
 ·rw[jb hb]at q;by_cases hbe:b=e
  ·have q':H b=some (.own x):=by
    rcases he with z|z
    ·exact absurd (hbe.trans z) hb
    ·rw[hbe];exact z
   rw[q]at q';cases q';obtain⟨v,hv⟩:=heo;exact⟨v,by rw[hbe];exact hv⟩
  ·refine(ok b u q).stay (fun c v hc r=>k c v ?_ r) (fun c r=>by rw[jb (nown c b r)];exact r) (fun c xs r=>by rw[jb (ntup c xs r)];exact r) fun c o _ r=>by rw[jb (nfrz c o _ r)];exact r
   rcases hc with rfl|hc
   ·exact hbe
   ·rintro rfl;rcases he with z|z
    ·exact nown c b hc z
    ·rw[hc]at z;cases z;exact hb rfl
end
structure Un(fs ex:List Addr)(H H':Hp)(h h':Heap):Prop where
 keep:∀b o,h.get? b=some o→H b=none→b∉fs→b∉ex→h'.get? b=some o
 slot:∀b o,h.get? b=some o→H b=none→b∈fs→b∉ex→∃sl,h'.get? b=some { o with slots:=sl }
 free:∀b o,h.get? b=some o→H b=none→b∉ex→H' b=none
 there:∀b o,h.get? b=some o→b∉ex→∃o',h'.get? b=some o'
 tups:∀b xs,H b=some (.tup xs)→H' b=some (.tup xs)
 frzs:∀b o u,H b=some (.frz o u)→H' b=some (.frz o u)
 tbls:∀b ps,H b=some (.tbl ps)→∃more,H' b=some (.tbl (ps++more))
section
variable{fs fs' ex ex':List Addr}{H H1 H2:Hp}{h h1 h2 h':Heap}{a x e:Addr}{o:HO}
theorem Un.any(u:Un fs ex H H1 h h1){b:Addr}{ob:Obj}(q:h.get? b=some ob)(n:H b=none)(hx:b∉ex):∃sl,h1.get? b=some { ob with slots:=sl }:=by
 by_cases hb:b∈fs
 ·exact u.slot b ob q n hb hx
 ·exact⟨ob.slots,u.keep b ob q n hb hx⟩
theorem Un.kept(k:∀b u,h.get? b=some u→h'.get? b=some u):Un fs ex H H h h' :=
 ⟨fun b ob q _ _ _=>k b ob q,fun b ob q _ _ _=>⟨ob.slots,k b ob q⟩,fun _ _ _ n _=>n,fun b ob q _=>⟨ob,k b ob q⟩,fun _ _ q=>q,fun _ _ _ q=>q,fun _ ps q=>⟨#[],by rw[q];simp⟩⟩
theorem Un.refl:Un fs ex H H h h:=Un.kept fun _ _ q=>q
theorem Un.laid(k:∀b u,h.get? b=some u→h'.get? b=some u)(hp:h.objs.size≤a)(hn:H a=none):Un fs ex H (upd H a o) h h' where
 keep:=fun b u q _ _ _=>k b u q
 slot:=fun b u q _ _ _=>⟨u.slots,k b u q⟩
 free:=fun b u q n _=>by rw[jb (X8 (Xd (xn q) hp))];exact n
 there:=fun b u q _=>⟨u,k b u q⟩
 tups:=fun b xs q=>by rw[jb (v6 q hn)];exact q
 frzs:=fun b u xs q=>by rw[jb (v6 q hn)];exact q
 tbls:=fun b ps q=>⟨#[],by rw[jb (v6 q hn),q];simp⟩
theorem Un.write(mu:Mut (H x))(he:e=x∨H e=some (.own x))(k:∀b u,b≠e→h.get? b=some u→h'.get? b=some u)(heo:∃u,h'.get? e=some u):Un fs ex H (upd H x o) h h':=by
 have hx:∀b,H b=none→b≠x:=fun b n z=>by subst z;rw[n]at mu;exact mu
 have hb:∀b,H b=none→b≠e:=fun b n z=>by
  subst z;rcases he with r|r
  ·exact hx b n r
  ·rw[n]at r;cases r
 have hm:∀b u,H b=some u→¬Mut (some u)→b≠x:=fun b u q nm z=>by subst z;rw[q]at mu;exact nm mu
 refine⟨fun b u q n _ _=>k b u (hb b n) q,fun b u q n _ _=>⟨u.slots,k b u (hb b n) q⟩,fun b u q n _=>by rw[jb (hx b n)];exact n,fun b u q _=>?_,
  fun b xs q=>by rw[jb (hm b _ q fun z=>z)];exact q,fun b u xs q=>by rw[jb (hm b _ q fun z=>z)];exact q,fun b ps q=>⟨#[],by rw[jb (hm b _ q fun z=>z),q];simp⟩⟩
 by_cases hbe:b=e
 ·subst hbe;exact heo
 ·exact⟨u,k b u hbe q⟩
end
noncomputable def trk(h:Heap)(H:Hp):List Addr:=(List.range h.objs.size).filter fun a=>(H a).isSome
noncomputable def Wo(h:Heap)(H:Hp):Heap:=W.hideAll h (trk h H)
theorem j5h(h:Heap)(H:Hp):(Wo h H).objs.size=h.objs.size:=W.hideAll_size _ _
theorem j84{h:Heap}{H:Hp}{b:Addr}{o:Obj}(e:h.get? b=some o)(n:H b=none):(Wo h H).get? b=some o :=
 W.hideAll_get _ e fun hm=>by have q:(H b).isSome=true:=(Xx.mp hm).2;rw[n]at q;simp at q
theorem jbd{h:Heap}{H:Hp}{b:Addr}{o:Obj}(e:(Wo h H).get? b=some o):h.get? b=some o∧H b=none:=by
 have e':h.get? b=some o:=W.of_hideAll (trk h H) e;refine⟨e',?_⟩;cases q:H b with
 |none=>rfl
 |some x =>have hm:b∈trk h H:=Xx.mpr ⟨Xg.mpr (xn e'),by simp[q]⟩;have z:(Wo h H).get? b=none:=Te (trk h H) hm;rw[z]at e;cases e
noncomputable def jcm(g h:Heap)(L:Addr):List (Addr×Obj):=(List.range h.objs.size).filterMap fun a=>if a=L∨(g.get? a).isSome=true then none else(h.get? a).map fun o=>(a,o)
noncomputable def rest(g h:Heap)(L d:Addr):List (Addr×Obj):=(jcm g h L).filter fun p=>decide (p.1≠d)
end L2
namespace L2
open PySem PySem.Spec PyProof.Rows
structure Mod(K:k85)(mg:k88)(base:Heap):Prop where
 kin:K.In base
 glob:base.Ns mainGlobals mg
 blt:∃mb,base.Ns builtinsNs mb∧∀x:Str,x ≠ "__name__"→mb x=bootBuiltins x
 nolimit:base.NoLimit
 bm:∃bm ob,mg "__builtins__" = some (.ref bm)∧bm≠builtinsNs∧base.get? bm=some ob∧ob.cls=.type "module"∧ob.dict=some builtinsNs∧ob.data=.plain
structure Cx where
 prog:Program
 w:World
 K:k85
 mg:Str→Option Value
 base:Heap
 A:Around
 N:List Str
 s₀:Shared
 H₀:Hp
 env:Env
 outer:List Env
 stack:List Env
 ex:List Addr
 fn:Str→Bool
 calm:Bool
 pn:List (Addr×Obj)
 xe:Value→Shared→Prop
noncomputable def frs(l:List Env):List Addr:=l.filterMap (·.frame)
noncomputable abbrev Cx.fs(X:Cx):List Addr:=frs X.outer
def Vis(sc:Scope)(x:Str):Prop:=sc.names.lookup x=some .local∨sc.names.lookup x=some .cell∨sc.names.lookup x=some .free
def Loc(sc:Scope)(x:Str):Prop:=sc.names.lookup x=some .local∨sc.names.lookup x=some .cell
def Look(env:Env)(h:Heap)(m:k88)(x:Str)(u:Value):Prop :=
 (env.kindOf x=some .local∧m x=some u)∨((env.kindOf x=some .cell∨env.kindOf x=some .free)∧∃c,env.cells.lookup x=some c∧h.IsCell c (some u))
structure Cx.Ok(X:Cx):Prop where
 mod:Mod X.K X.mg X.base
 kind:X.env.scope.kind=.function
 glob:X.env.globals=mainGlobals
 blt:X.env.builtins=builtinsNs
 above:X.s₀.heap.objs.size≤X.env.locals
 inj:∀x y c,X.env.cells.lookup x=some c→X.env.cells.lookup y=some c→x=y
 has:∀x,(X.env.kindOf x=some .cell∨X.env.kindOf x=some .free)→∃c,X.env.cells.lookup x=some c
 cab:∀x c,X.fn x=true→X.env.cells.lookup x=some c→X.s₀.heap.objs.size≤c
 hd:X.calm=true→X.A.handled=none
 frames:X.A.frames=some X.stack
 stk:X.stack=X.outer∨(X.stack=X.env::X.outer∧X.env.frame=some X.env.locals)
 exf:∀b∈X.ex,b≠X.env.locals∧∀x c,X.env.cells.lookup x=some c→c≠b
 bs:∀b o,X.base.get? b=some o→X.s₀.heap.get? b=some o∧X.H₀ b=none
 bsz:X.base.objs.size≤X.s₀.heap.objs.size
 noex:∀b o,X.base.get? b=some o→b∉X.ex
 exfs:∀b∈X.ex,b∉X.fs
 funs:X.s₀.heap.FunFrames X.base X.outer
 frf:∀b∈X.fs,X.H₀ b=none
structure Inv(X:Cx)(pins:k87)(σ:List (Option V))(H:Hp)(s:Shared):Prop where
 ok:X.Ok
 os:s.os=X.s₀.os
 bare:AllBare s.gens
 base:Un X.fs X.ex X.H₀ H X.s₀.heap s.heap
 loc:∃m,s.heap.Ns X.env.locals m∧∀(i:Nat)(x:Str)(v:V),X.N[i]?=some x→σ[i]?=some (some v)→Vis X.env.scope x→∃u,RelV v u∧Look X.env s.heap m x u
 cell:∀x c,X.env.cells.lookup x=some c→∃v,s.heap.IsCell c v
 free:H X.env.locals=none
 freeC:∀x c,X.env.cells.lookup x=some c→H c=none
 pin:∀p∈X.pn++pins,s.heap.get? p.1=some p.2∧H p.1=none∧p.1≠X.env.locals∧p.1∉X.fs∧∀v,p.2.data≠.cell v
 hok:HOk X.prog X.w H s.heap
 len:σ.length=X.N.length
section
variable{X:Cx}{pins:k87}{σ:List (Option V)}{H H':Hp}{s:Shared}{h':Heap}
theorem Cx.Ok.nofr(ok:X.Ok){b:Addr}{o:Obj}(e:X.base.get? b=some o):b∉X.fs:=fun hb=>by have:=(ok.funs.mem hb).1;rw[e]at this;cases this
theorem Inv.bs(I:Inv X pins σ H s):∀b o,X.base.get? b=some o→s.heap.get? b=some o∧H b=none:=fun b o e =>⟨I.base.keep b o (I.ok.bs b o e).1 (I.ok.bs b o e).2 (I.ok.nofr e) (I.ok.noex b o e),I.base.free b o (I.ok.bs b o e).1 (I.ok.bs b o e).2 (I.ok.noex b o e)⟩
theorem Inv.bk(I:Inv X pins σ H s):∀b o,X.base.get? b=some o→s.heap.get? b=some o:=fun b o e=>(I.bs b o e).1
theorem Inv.mod(I:Inv X pins σ H s):Mod X.K X.mg X.base:=I.ok.mod
theorem Inv.kIn(I:Inv X pins σ H s):X.K.In s.heap:=I.ok.mod.kin.keeps I.bk
theorem Inv.lt(I:Inv X pins σ H s):X.env.locals<s.heap.objs.size:=let ⟨_,hn,_⟩:=I.loc;hn.lt
theorem Inv.sz(I:Inv X pins σ H s):X.s₀.heap.objs.size≤s.heap.objs.size:=Xm I.ok.above (Nat.le_of_lt I.lt)
theorem Inv.nofs(I:Inv X pins σ H s){a:Addr}(h:s.heap.objs.size≤a):a∉X.fs:=fun hb=>by obtain⟨_,o,ho,_⟩:=I.ok.funs.mem hb;exact absurd (Xd (xn ho) (Xm I.sz h)) (Xv _)
theorem Inv.cne(I:Inv X pins σ H s):∀x c,X.env.cells.lookup x=some c→c≠X.env.locals:=fun x c e z=>by obtain⟨v,o,ho,hd⟩:=I.cell x c e;obtain⟨m,⟨o',es,ep,ho',hd',_⟩,_⟩:=I.loc;rw[z,ho']at ho;cases ho;rw[hd']at hd;cases hd
theorem Inv.funs(I:Inv X pins σ H s):s.heap.FunFrames X.base X.outer:=by
 have all:∀(l:List Env),(∀b∈frs l,b∈X.fs)→X.s₀.heap.FunFrames X.base l→s.heap.FunFrames X.base l:=by
  intro l;induction l with
  |nil=>intro _ _;trivial
  |cons env r ih =>intro hs hl;obtain⟨hk,⟨L,o,hf,hn,ho,hd⟩,hr⟩:=hl;have hL:L∈X.fs:=hs L (by unfold frs;rw[List.filterMap_cons,hf];exact xq);obtain⟨sl,e⟩:=I.base.slot L o ho (I.ok.frf L hL) hL fun z=>I.ok.exfs L z hL;exact⟨hk,⟨L,_,hf,hn,e,hd⟩,ih (fun b hb=>hs b (by unfold frs;rw[List.filterMap_cons,hf];exact kj _ hb)) hr⟩
 exact all X.outer (fun _ hb=>hb) I.ok.funs
theorem Inv.stack(I:Inv X pins σ H s):s.heap.FunFrames X.base X.stack:=by
 rcases I.ok.stk with e|⟨e,hf⟩
 ·rw[e];exact I.funs
 ·rw[e];obtain⟨m,hn,_⟩:=I.loc;refine .cons (by rw[I.ok.kind];decide) hf hn ?_ I.funs;exact Heap.get?_none_of_le (Xm I.ok.bsz I.ok.above)
theorem Inv.stkSub(I:Inv X pins σ H s):∀b∈frs X.stack,b∈X.env.locals::X.fs:=fun b hb=>by
 rcases I.ok.stk with e|⟨e,hf⟩
 ·rw[e]at hb;exact kj _ hb
 ·rw[e]at hb;unfold frs at hb;rw[List.filterMap_cons,hf]at hb;exact hb
theorem Inv.stkFree(I:Inv X pins σ H s):∀b∈frs X.stack,H b=none:=fun b hb=>by
 rcases xm.mp (I.stkSub b hb)with e|hb
 ·rw[e];exact I.free
 ·obtain⟨_,o,ho,_⟩:=I.ok.funs.mem hb;exact I.base.free b o ho (I.ok.frf b hb) fun z=>I.ok.exfs b z hb
theorem Inv.step{g':Array GenState}{t':Nat}{d':Drawn}{ch:List Addr}(I:Inv X pins σ H s)
  (hch:∀b∈ch,(b∈X.ex∨X.s₀.heap.objs.size≤b)∧b≠X.env.locals∧(∀x c,X.env.cells.lookup x=some c→c≠b)∧∀p∈X.pn++pins,p.1≠b)
  (keep:∀b o,b≠X.env.locals→b∉X.fs→b∉ch→s.heap.get? b=some o→H b=none→h'.get? b=some o)
  (slot:∀b o,b≠X.env.locals→b∈X.fs→b∉ch→s.heap.get? b=some o→H b=none→∃sl,h'.get? b=some { o with slots:=sl }) (free:∀b o,b∉ch→s.heap.get? b=some o→H b=none→H' b=none)
  (there:∀b o,b∉ch→s.heap.get? b=some o→∃o',h'.get? b=some o')
  (tups:∀b xs,H b=some (.tup xs)→H' b=some (.tup xs)) (frzs:∀b o u,H b=some (.frz o u)→H' b=some (.frz o u)) (tbls:∀b ps,H b=some (.tbl ps)→∃more,H' b=some (.tbl (ps++more)))
  (ns:∀m,s.heap.Ns X.env.locals m→h'.Ns X.env.locals m) (hok:HOk X.prog X.w H' h') (hg:AllBare g') :
  Inv X pins σ H' { s with heap:=h',gens:=g',drawn:=d',toks:=t' }:=by
 have neL:∀b o,X.s₀.heap.get? b=some o→b≠X.env.locals:=fun b o e=>X8 (Xd (xn e) I.ok.above);have neC:∀b o,X.s₀.heap.get? b=some o→b∉X.ex→b∉ch:=fun b o e hx hb=>by
  rcases(hch b hb).1 with z|z
  ·exact hx z
  ·exact absurd (Xd (xn e) z) (Xv _)
 have cellK:∀x c,X.env.cells.lookup x=some c→∀v,s.heap.IsCell c v→h'.IsCell c v:=fun x c e v ⟨o,ho,hd⟩=>by
  have nch:c∉ch:=fun z=>(hch c z).2.2.1 x c e rfl;by_cases hc:c∈X.fs
  ·obtain⟨sl,q⟩:=slot c o (I.cne x c e) hc nch ho (I.freeC x c e);exact⟨_,q,hd⟩
  ·exact⟨o,keep c o (I.cne x c e) hc nch ho (I.freeC x c e),hd⟩
 refine⟨I.ok,I.os,hg,⟨fun b o e n hb hx=>?_,fun b o e n hb hx=>?_,fun b o e n hx=>?_,fun b o e hx=>?_,fun b xs e=>tups b xs (I.base.tups b xs e),fun b o xs e=>frzs b o xs (I.base.frzs b o xs e),fun b ps e=>?_⟩,?_,fun x c e=>?_,?_,fun x c e=>?_,fun p hp=>?_,hok,I.len⟩
 ·exact keep b o (neL b o e) hb (neC b o e hx) (I.base.keep b o e n hb hx) (I.base.free b o e n hx)
 ·obtain⟨sl,e1⟩:=I.base.slot b o e n hb hx;obtain⟨sl',e2⟩:=slot b _ (neL b o e) hb (neC b o e hx) e1 (I.base.free b o e n hx);exact⟨sl',e2⟩
 ·obtain⟨o',e1⟩:=I.base.there b o e hx;exact free b o' (neC b o e hx) e1 (I.base.free b o e n hx)
 ·obtain⟨o',e1⟩:=I.base.there b o e hx;exact there b o' (neC b o e hx) e1
 ·obtain⟨m1,e1⟩:=I.base.tbls b ps e;obtain⟨m2,e2⟩:=tbls b _ e1;exact⟨m1++m2,by rw[e2,Array.append_assoc]⟩
 ·obtain⟨m,hn,hl⟩:=I.loc;refine⟨m,ns m hn,fun i x v e1 e2 e3=>?_⟩;obtain⟨u,r,l⟩:=hl i x v e1 e2 e3;refine⟨u,r,?_⟩;rcases l with l|⟨k,c,e,z⟩
  ·exact .inl l
  ·exact .inr ⟨k,c,e,cellK x c e _ z⟩
 ·obtain⟨v,z⟩:=I.cell x c e;exact⟨v,cellK x c e v z⟩
 ·obtain⟨m,⟨o,_,_,ho,_⟩,_⟩:=I.loc;exact free _ o (fun z=>(hch _ z).2.1 rfl) ho I.free
 ·obtain⟨v,o,ho,hd⟩:=I.cell x c e;exact free c o (fun z=>(hch c z).2.2.1 x c e rfl) ho (I.freeC x c e)
 ·obtain⟨e,n,ne,nf,d⟩:=I.pin p hp;have nch:p.1∉ch:=fun z=>(hch p.1 z).2.2.2 p hp rfl;exact⟨keep p.1 p.2 ne nf nch e n,free p.1 p.2 nch e n,ne,nf,d⟩
theorem Inv.un{t':Nat}(I:Inv X pins σ H s)(u:Un X.fs [] H H' s.heap h')(hok:HOk X.prog X.w H' h'):Inv X pins σ H' { s with heap:=h',toks:=t' }:=by
 obtain⟨m,⟨o,es,ep,ho,r⟩,_⟩:=id I.loc;obtain⟨sl,hL⟩:=u.any ho I.free (by simp);exact I.step (g':=s.gens) (d':=s.drawn) (ch:=[]) (fun _ z=>nomatch z) (fun b o _ hb _ e n=>u.keep b o e n hb (by simp)) (fun b o _ hb _ e n=>u.slot b o e n hb (by simp)) (fun b o _ e n=>u.free b o e n (by simp)) (fun b o _ e=>u.there b o e (by simp)) u.tups u.frzs u.tbls (fun m' hm=>by
  obtain⟨o',es',ep',ho',r'⟩:=hm
  rw[ho]at ho';cases ho'
  exact⟨_,es',ep',hL,r'⟩) hok I.bare
theorem Inv.call{g':Array GenState}{t':Nat}{d':Drawn}{ch:List Addr}(I:Inv X pins σ H s)(u:Un (frs X.stack) ch H H' s.heap h')(hok:HOk X.prog X.w H' h')(hg:AllBare g')
  (hch:∀b∈ch,(b∈X.ex∨X.s₀.heap.objs.size≤b)∧b≠X.env.locals∧(∀x c,X.env.cells.lookup x=some c→c≠b)∧∀p∈X.pn++pins,p.1≠b) :
  Inv X pins σ H' { s with heap:=h',gens:=g',drawn:=d',toks:=t' }:=by
 obtain⟨m,⟨o,es,ep,ho,r⟩,_⟩:=id I.loc;obtain⟨sl,hL⟩:=u.any ho I.free fun z=>(hch _ z).2.1 rfl;exact I.step (ch:=ch) hch (fun b o hL hb hc e n=>u.keep b o e n (fun z=>(xm.mp (I.stkSub b z)).elim hL hb) hc) (fun b o _ _ hc e n=>u.any e n hc) (fun b o hc e n=>u.free b o e n hc) (fun b o hc e=>u.there b o e hc) u.tups u.frzs u.tbls (fun m' hm=>by
  obtain⟨o',es',ep',ho',r'⟩:=hm
  rw[ho]at ho';cases ho'
  exact⟨_,es',ep',hL,r'⟩) hok hg
theorem Inv.turned{t':Nat}{it:Addr}(I:Inv X pins σ H s)(k:∀b o,b≠it→s.heap.get? b=some o→h'.get? b=some o)(hn:H it=none)(hL:it≠X.env.locals)
  (h1:it∈X.ex∨X.s₀.heap.objs.size≤it) (h2:∀x c,X.env.cells.lookup x=some c→c≠it) (h3:∀p∈X.pn++pins,p.1≠it):Inv X pins σ H { s with heap:=h',toks:=t' }:=by
 have nit:∀b u,H b=some u→b≠it:=fun b u e z=>by rw[z,hn]at e;cases e
 refine I.step (g':=s.gens) (d':=s.drawn) (ch:=[it]) (fun b hb=>?_) (fun b o _ _ hc e _=>k b o (fun z=>hc (by simp[z])) e) (fun b o _ _ hc e _=>⟨o.slots,k b o (fun z=>hc (by simp[z])) e⟩) (fun _ _ _ _ n=>n)
  (fun b o hc e=>⟨o,k b o (fun z=>hc (by simp[z])) e⟩) (fun _ _ e=>e) (fun _ _ _ e=>e) (fun b ps e=>⟨#[],by rw[e];simp⟩) (fun m hm=>?_) (fun b u e=>?_) I.bare
 ·have e:b=it:=by simpa using hb
  subst e;exact⟨h1,hL,h2,h3⟩
 ·obtain⟨o,es,ep,ho,r⟩:=hm;exact⟨o,es,ep,k _ o (Ne.symm hL) ho,r⟩
 ·refine(I.hok b u e).stay (fun c v hc q=>k c v ?_ q) (fun _ q=>q) (fun _ _ q=>q) fun _ _ _ q=>q;rcases hc with z|z
  ·rw[z];exact nit b u e
  ·exact nit c _ z
theorem Inv.tok(I:Inv X pins σ H s)(t:Nat):Inv X pins σ H { s with toks:=t }:=I.un (h':=s.heap) (t':=t) Un.refl I.hok
theorem Inv.kept{t':Nat}(I:Inv X pins σ H s)(k:∀b u,s.heap.get? b=some u→h'.get? b=some u):Inv X pins σ H { s with heap:=h',toks:=t' }:=I.un (Un.kept k) (I.hok.kept k)
theorem Inv.laid{a:Addr}{o:HO}{t':Nat}(I:Inv X pins σ H s)(k:∀b u,s.heap.get? b=some u→h'.get? b=some u)(hp:s.heap.objs.size≤a)(new:jg X.prog X.w (upd H a o) h' a o) :
  Inv X pins σ (upd H a o) { s with heap:=h',toks:=t' }:=I.un (Un.laid k hp (I.hok.fresh hp)) (I.hok.laid k hp new)
theorem Inv.write{x e:Addr}{o:HO}{t':Nat}(I:Inv X pins σ H s)(mu:Mut (H x))(he:e=x∨H e=some (.own x))(k:∀b u,b≠e→s.heap.get? b=some u→h'.get? b=some u)(heo:∃u,h'.get? e=some u)
  (new:jg X.prog X.w (upd H x o) h' x o):Inv X pins σ (upd H x o) { s with heap:=h',toks:=t' }:=I.un (Un.write mu he k heo) (I.hok.write mu he k heo new)
theorem Inv.pins_of{pins':k87}(I:Inv X pins σ H s)(h:∀p∈pins',s.heap.get? p.1=some p.2∧H p.1=none∧p.1≠X.env.locals∧p.1∉X.fs∧∀v,p.2.data≠.cell v):Inv X pins' σ H s :=
 ⟨I.ok,I.os,I.bare,I.base,I.loc,I.cell,I.free,I.freeC,fun p hp=>(t7.mp hp).elim (fun z=>I.pin p (Pz _ z)) (h p),I.hok,I.len⟩
theorem Ox{N:List Str}(hN:N.Nodup){i j:Nat}{x:Str}(a:N[i]?=some x)(b:N[j]?=some x):i=j:=by obtain⟨h1,e1⟩:=Xa.mp a;obtain⟨h2,e2⟩:=Xa.mp b;exact(List.getElem_inj hN).mp (e1.trans e2.symm)
theorem Rn{M:Model}{A:Around}{E:k86}{i:Nat}{x:Str}{v:V}{u:Value}{Q:Unit→Shared→Prop}(I:Inv X pins σ H s)(hN:X.N.Nodup)(hi:X.N[i]?=some x)(hx:Loc X.env.scope x)(r:RelV v u)
  (h:∀s',Inv X pins (σ.set i (some v)) H s'→(∃a,Heap.SameBut a s.heap s'.heap∧(a=X.env.locals∨X.env.cells.lookup x=some a))→Q () s') (hf:X.fn x=true∨X.env.scope.names.lookup x=some .local:=by first|exact .inl rfl|exact .inr rfl|assumption):wpAny M A (storeName X.env x u) Q E s:=by
 obtain⟨m,hn,hl⟩:=id I.loc;have hcls:(X.env.scope.kind==.class || (X.env.scope.kind==.module&&X.env.locals != X.env.globals))=false:=by rw[I.ok.kind];rfl
 have hiσ:i<σ.length:=by rw[I.len];exact(Xa.mp hi).1
 have cne:=I.cne;have tracked:∀{a:Addr}{h':Heap},(∃o,s.heap.get? a=some o∧H a=none)→Heap.SameBut a s.heap h'→HOk X.prog X.w H h':=fun{a h'} ha hs b ob e=>by
  obtain⟨_,_,hfree⟩:=ha;refine(I.hok b ob e).stay (fun c w' hc q=>(hs.2 c ?_).trans q) (fun _ q=>q) (fun _ _ q=>q) fun _ _ _ q=>q;rintro rfl;rcases hc with rfl|hc
  ·rw[hfree]at e;cases e
  ·rw[hfree]at hc;cases hc
 rcases hx with hk|hk
 ·refine wpAny_storeName_local hk hn (fun h' hn' hs=>?_) hcls;obtain⟨oL,_,_,hoL,_⟩:=id hn;refine h _ ⟨I.ok,I.os,I.bare,⟨fun b o e n hb hx=>?_,fun b o e n hb hx=>?_,I.base.free,fun b o e hx=>?_,I.base.tups,I.base.frzs,I.base.tbls⟩,⟨_,hn',fun j y v' e1 e2 e3=>?_⟩,fun y c e=>?_,I.free,I.freeC,fun p hp=>?_,tracked ⟨oL,hoL,I.free⟩ hs,by simpa using I.len⟩ ⟨_,hs,.inl rfl⟩
  ·exact(hs.2 b (X8 (Xd (xn e) I.ok.above))).trans (I.base.keep b o e n hb hx)
  ·obtain⟨sl,e1⟩:=I.base.slot b o e n hb hx;exact⟨sl,(hs.2 b (X8 (Xd (xn e) I.ok.above))).trans e1⟩
  ·obtain⟨o',e1⟩:=I.base.there b o e hx;exact⟨o',(hs.2 b (X8 (Xd (xn e) I.ok.above))).trans e1⟩
  ·by_cases hj:j=i
   ·subst hj;rw[hi]at e1;cases e1;rw[List.getElem?_set_self hiσ]at e2;cases e2;exact⟨u,r,.inl ⟨hk,by simp⟩⟩
   ·rw[List.getElem?_set_ne (Ne.symm hj)]at e2;obtain⟨u',r',q⟩:=hl j y v' e1 e2 e3;refine⟨u',r',?_⟩;rcases q with ⟨k,e⟩|⟨k,c,e,z⟩
    ·refine .inl ⟨k,?_⟩;have:y≠x:=fun e=>hj (Ox hN e1 (e▸hi));simp[this,e]
    ·exact .inr ⟨k,c,e,z.sameBut hs (cne y c e)⟩
  ·obtain⟨w',z⟩:=I.cell y c e;exact⟨w',z.sameBut hs (cne y c e)⟩
  ·obtain⟨e,n,ne,nf,d⟩:=I.pin p hp;exact⟨(hs.2 p.1 ne).trans e,n,ne,nf,d⟩
 ·have hfn:X.fn x=true:=by
   rcases hf with z|z
   ·exact z
   ·rw[z]at hk;cases hk
  obtain⟨c,hc⟩:=I.ok.has x (.inl hk);obtain⟨w',z⟩:=I.cell x c hc;refine wpAny_storeName_cell I.ok.kind hk hc z (fun h' hc' hs=>?_);obtain⟨oc,hoc,hocd⟩:=id z;refine h { s with heap:=h' } ⟨I.ok,I.os,I.bare,⟨fun b o e n hb hx=>?_,fun b o e n hb hx=>?_,I.base.free,fun b o e hx=>?_,I.base.tups,I.base.frzs,I.base.tbls⟩,⟨m,hn.sameBut hs (Ne.symm (cne x c hc)),fun j y v' e1 e2 e3=>?_⟩,fun y c' e=>?_,I.free,I.freeC,fun p hp=>?_,tracked ⟨oc,hoc,I.freeC x c hc⟩ hs,by simpa using I.len⟩ ⟨c,hs,.inr hc⟩
  ·exact(hs.2 b (X8 (Xd (xn e) (I.ok.cab x c hfn hc)))).trans (I.base.keep b o e n hb hx)
  ·obtain⟨sl,e1⟩:=I.base.slot b o e n hb hx;exact⟨sl,(hs.2 b (X8 (Xd (xn e) (I.ok.cab x c hfn hc)))).trans e1⟩
  ·obtain⟨o',e1⟩:=I.base.there b o e hx;exact⟨o',(hs.2 b (X8 (Xd (xn e) (I.ok.cab x c hfn hc)))).trans e1⟩
  ·by_cases hj:j=i
   ·subst hj;rw[hi]at e1;cases e1;rw[List.getElem?_set_self hiσ]at e2;cases e2;exact⟨u,r,.inr ⟨.inl hk,c,hc,hc'⟩⟩
   ·rw[List.getElem?_set_ne (Ne.symm hj)]at e2;obtain⟨u',r',q⟩:=hl j y v' e1 e2 e3;refine⟨u',r',?_⟩;rcases q with q|⟨k,c',e,z'⟩
    ·exact .inl q
    ·refine .inr ⟨k,c',e,z'.sameBut hs ?_⟩;rintro rfl;exact hj (Ox hN e1 (I.ok.inj _ _ _ e hc▸hi))
  ·by_cases hcc:c'=c
   ·subst hcc;exact⟨_,hc'⟩
   ·obtain⟨w2,z2⟩:=I.cell y c' e;exact⟨w2,z2.sameBut hs hcc⟩
  ·obtain⟨e,n,ne,nf,d⟩:=I.pin p hp;refine⟨(hs.2 p.1 ?_).trans e,n,ne,nf,d⟩;intro q;rw[q,hoc]at e;have q':oc=p.2:=Option.some.inj e;exact d w' (by rw[←q'];exact hocd)
theorem Kp{M:Model}{A:Around}{E:k86}{i:Nat}{x:Str}{v:V}{u:Value}{Q:Unit→Shared→Prop}(I:Inv X pins σ H s)(hN:X.N.Nodup)(hi:X.N[i]?=some x)(hx:Loc X.env.scope x)(r:RelV v u)
  (h:∀s',Inv X pins (σ.set i (some v)) H s'→Q () s') (hf:X.fn x=true∨X.env.scope.names.lookup x=some .local:=by first|exact .inl rfl|exact .inr rfl|assumption):wpAny M A (storeName X.env x u) Q E s :=
 Rn I hN hi hx r (fun s' I' _=>h s' I') hf
theorem Inv.call'{s':Shared}{ch:List Addr}(I:Inv X pins σ H s)(ho:s'.os=s.os)(u:Un (frs X.stack) ch H H' s.heap s'.heap)(hok:HOk X.prog X.w H' s'.heap)(hg:AllBare s'.gens)
  (hch:∀b∈ch,(b∈X.ex∨X.s₀.heap.objs.size≤b)∧b≠X.env.locals∧(∀x c,X.env.cells.lookup x=some c→c≠b)∧∀p∈X.pn++pins,p.1≠b):Inv X pins σ H' s':=by
 obtain⟨h',g',d',t',o'⟩:=s';have e:o'=s.os:=ho;subst e;exact I.call (g':=g') (t':=t') (d':=d') u hok hg hch
end
abbrev XK:=Value→Option Addr→Hp→Prop
noncomputable abbrev St:=List (Option V)
abbrev VK:=V→Hp→Prop
abbrev TE:=St→Hp→VK→Prop
abbrev TT:=St→Hp→(Bool→Hp→Prop)→Prop
abbrev TA:=St→Hp→(List V→Hp→Prop)→Prop
structure Ends where
 nx:St→Hp→Prop
 rt:VK
 bk:St→Hp→Prop:=fun _ _=>False
 ct:St→Hp→Prop:=fun _ _=>False
abbrev TS:=Ends→St→Hp→Prop
def EP(X:Cx)(pins:k87)(σ:St)(Q:VK)(u:Value)(s':Shared):Prop:=∃v H',Inv X pins σ H' s'∧RelV v u∧Q v H'
def TP(X:Cx)(pins:k87)(σ:St)(Q:Bool→Hp→Prop)(b:Bool)(s':Shared):Prop:=∃H',Inv X pins σ H' s'∧Q b H'
def AP(X:Cx)(pins:k87)(σ:St)(Q:List V→Hp→Prop)(us:List Value)(s':Shared):Prop:=∃vs H',Inv X pins σ H' s'∧Vals vs us∧Q vs H'
def Ext(X:Cx)(H1 H2:Hp)(s':Shared):Prop:=∀b,H2 b=H1 b∨∃x o v,X.env.cells.lookup x=some b∧X.fn x=true∧H2 b=some (.frz o (.own 0))∧s'.heap.get? b=some o∧o.data=.cell v
theorem Ext.refl{X:Cx}{H:Hp}{s':Shared}:Ext X H H s':=fun _=>.inl rfl
def SP(X:Cx)(pins:k87)(D:Ends)(f:Flow)(s':Shared):Prop :=
 match f with
 |.next=>∃σ' H',Inv X pins σ' H' s'∧D.nx σ' H'
 |.brk=>∃σ' H',Inv X pins σ' H' s'∧D.bk σ' H'
 |.cont=>∃σ' H',Inv X pins σ' H' s'∧D.ct σ' H'
 |.ret u=>∃v σ' H' H2,Inv X pins σ' H' s'∧RelV v u∧Ext X H' H2 s'∧D.rt v H2
def PE(X:Cx)(e:Expr)(t:TE):Prop :=
 ∀(pins:k87) (s:Shared) (σ:St) (H:Hp) (Q:VK),Inv X pins σ H s→t σ H Q→wpAny (model X.prog X.w) X.A (eval e X.env) (EP X pins σ Q) X.xe s
def PT(X:Cx)(e:Expr)(t:TT):Prop :=
 ∀(pins:k87) (s:Shared) (σ:St) (H:Hp) (Q:Bool→Hp→Prop),Inv X pins σ H s→t σ H Q→wpAny (model X.prog X.w) X.A (isTrue e X.env (eval e X.env)) (TP X pins σ Q) X.xe s
def PW(X:Cx)(e:Expr)(t:TT):Prop :=
 ∀(whole:Sem Value)(pins:k87) (s:Shared) (σ:St) (H:Hp) (Q:Bool→Hp→Prop),Inv X pins σ H s→t σ H Q→wpAny (model X.prog X.w) X.A (isTrue e X.env whole) (TP X pins σ Q) X.xe s
def PA(X:Cx)(es:List Expr)(t:TA):Prop :=
 ∀(pos:Pos)(pins:k87) (s:Shared) (σ:St) (H:Hp) (Q:List V→Hp→Prop),Inv X pins σ H s→t σ H Q→wpAny (model X.prog X.w) X.A (spliced (backTo pos (starEach es X.env))) (AP X pins σ Q) X.xe s
def PS(X:Cx)(st:Stmt)(t:TS):Prop :=
 ∀(pins:k87) (s:Shared) (σ:St) (H:Hp) (D:Ends),Inv X pins σ H s→t D σ H→wpAny (model X.prog X.w) X.A (exec st X.env) (SP X pins D) X.xe s
def PSs(X:Cx)(st:List Stmt)(t:TS):Prop :=
 ∀(pins:k87) (s:Shared) (σ:St) (H:Hp) (D:Ends),Inv X pins σ H s→t D σ H→wpAny (model X.prog X.w) X.A (execs st X.env) (SP X pins D) X.xe s
theorem thn{α:Type}{t:Sem α}{Q Q':α→Shared→Prop}{M:Model}{A:Around}{E:k86}{s:Shared}(h:wpAny M A t Q E s)(hQ:∀a s,Q a s→Q' a s):wpAny M A t Q' E s:=wpAny_mono h hQ fun _ _ x=>x
end L2
namespace L2
open PySem PySem.Spec PyProof.Rows
section
variable{X:Cx}
theorem bin{a b:Expr}{ta tb:TE}(ha:PE X a ta)(hb:PE X b tb){pins:k87}{s:Shared}{σ:St}{H:Hp}{R:V→V→Hp→Prop}(I:Inv X pins σ H s)(h:ta σ H fun x H1=>tb σ H1 fun y H2=>R x y H2)
  {α:Type} {Q:α→Shared→Prop} {f:Value→Value→Sem α}
  (hf:∀v u s2 x y H2,Inv X pins σ H2 s2→RelV x v→RelV y u→R x y H2→wpAny (model X.prog X.w) X.A (f v u) Q X.xe s2) :
  wpAny (model X.prog X.w) X.A (eval a X.env) (fun v s₁=>wpAny (model X.prog X.w) X.A (eval b X.env) (fun u s₂=>wpAny (model X.prog X.w) X.A (f v u) Q X.xe s₂) X.xe s₁) X.xe s:=by
 refine thn (ha pins s σ H _ I h) fun v s1 ⟨x,H1,I1,r1,q1⟩=>?_;refine thn (hb pins s1 σ H1 _ I1 q1) fun u s2 ⟨y,H2,I2,r2,q2⟩=>?_;exact hf v u s2 x y H2 I2 r1 r2 q2
def ji7(i:Nat):TE:=fun σ H Q=>∃v,σ[i]?=some (some v)∧Q v H
def tC(v:V):TE:=fun _ H Q=>Q v H
theorem zr {i:Nat} {x:Str} {pos:Pos} (hN:X.N[i]?=some x) (hv:Vis X.env.scope x) (hd:(x==k89)=false:=by decide) (hcd:(x==k8a)=false:=by decide):PE X (.Name x pos) (ji7 i):=by
 intro pins s σ H Q I h;obtain⟨v,e,h⟩:=h;obtain⟨m,hn,hl⟩:=I.loc;obtain⟨u,r,l⟩:=hl i x v hN e hv;have fin:EP X pins σ Q u s:=⟨v,H,I,r,h⟩
 rcases l with ⟨hk,hm⟩|⟨hk,c,hc,hcell⟩
 ·exact wpAny_Name (wpAny_loadName_local I.ok.kind hk hn hm fin) hd
 ·rcases hk with hk|hk
  ·exact wpAny_Name (wpAny_loadName_cell I.ok.kind hk hc hcell fin) hd
  ·exact wpAny_Name (wpAny_loadName_free I.ok.kind hk hc hcell fin hcd) hd
theorem jdw{i j pos}:PE X (.Constant (.int i) j pos) (tC (.int i)):=fun _ _ _ H _ I h=>wpAny_Constant_int ⟨.int i,H,I.tok _,⟨_,rfl⟩,h⟩
theorem jh9{b j pos}:PE X (.Constant (.bool b) j pos) (tC (.bl b)):=fun _ _ _ H _ I h=>Constant_bool ⟨.bl b,H,I,rfl,h⟩
theorem Iw{j pos}:PE X (.Constant .none j pos) (tC .non):=fun _ _ _ H _ I h=>Constant_none ⟨.non,H,I,rfl,h⟩
theorem j4z{x j pos}:PE X (.Constant (.str x) j pos) (tC (.str x)):=fun _ _ _ H _ I h=>Calls.Constant_str ⟨.str x,H,I.tok _,⟨_,rfl⟩,h⟩
def Gl(X:Cx)(x:Str):Prop:=X.env.kindOf x=some .globalImplicit
theorem Zf{E:k86}{pins:k87}{s:Shared}{σ:St}{H:Hp}{x:Str}{u:Value}{pos:Pos}{Q:k86}(I:Inv X pins σ H s)(hg:Gl X x)(hm:X.mg x=some u)(h:Q u s)
  (hd:(x==k89)=false:=by decide):wpAny (model X.prog X.w) X.A (eval (.Name x pos) X.env) Q E s :=
 Calls.Name_function_global I.ok.kind hg (Calls.loadGlobal_global (by rw[I.ok.glob];exact I.mod.glob.keeps I.bk) hm h) hd
theorem Vv{E:k86}{pins:k87}{s:Shared}{σ:St}{H:Hp}{x:Str}{u:Value}{pos:Pos}{Q:k86}(I:Inv X pins σ H s)(hg:Gl X x)(hm:X.mg x=none)(hv:bootBuiltins x=some u)(h:Q u s)
  (hn:x ≠ "__name__":=by decide) (hd:(x==k89)=false:=by decide):wpAny (model X.prog X.w) X.A (eval (.Name x pos) X.env) Q E s:=by
 obtain⟨mb,h1,h2⟩:=I.mod.blt;exact Calls.Name_function_global I.ok.kind hg (Calls.loadGlobal_builtin (by rw[I.ok.glob];exact I.mod.glob.keeps I.bk) hm (by rw[I.ok.blt];exact h1.keeps I.bk) ((h2 x hn).trans hv) h) hd
theorem Mq {x:Str} {v:V} {u:Value} {pos:Pos} (hg:Gl X x) (hm:X.mg x=some u) (r:RelV v u) (hd:(x==k89)=false:=by decide):PE X (.Name x pos) (tC v) :=
 fun _ _ _ H _ I h=>Zf I hg hm ⟨v,H,I,r,h⟩ hd
theorem jb7 {x:Str} {v:V} {u:Value} {pos:Pos} (hg:Gl X x) (hm:X.mg x=none) (hv:bootBuiltins x=some u) (r:RelV v u) (hn:x ≠ "__name__":=by decide) (hd:(x==k89)=false:=by decide):PE X (.Name x pos) (tC v) :=
 fun _ _ _ H _ I h=>Vv I hg hm hv ⟨v,H,I,r,h⟩ hn hd
variable{a b:Expr}{ta tb:TE}{pos:Pos}
def PC(X:Cx)(op:CmpOp)(a b:Expr)(t:TE):Prop :=
 ∀(pins:k87) (s:Shared) (σ:St) (H:Hp) (Q:VK),Inv X pins σ H s→t σ H Q →
  wpAny (model X.prog X.w) X.A (eval a X.env) (fun v s₁=>wpAny (model X.prog X.w) X.A (eval b X.env) (fun u s₂=>wpAny (model X.prog X.w) X.A (compareOp op v u) (EP X pins σ Q) X.xe s₂) X.xe s₁) X.xe s
theorem j7m(b:Expr){op:CmpOp}(h:op≠.In)(h2:op≠.NotIn):behindInMarks op b=false:=by
 have e1:(op==CmpOp.In)=false:=by cases op<;>first|rfl|exact absurd rfl h
 have e2:(op==CmpOp.NotIn)=false:=by cases op<;>first|rfl|exact absurd rfl h2
 cases b<;>simp[behindInMarks,e1,e2]
def jif(ta:TE):TE:=fun σ H Q=>ta σ H fun x H1=>Q (.bl (decide (x=.non))) H1
theorem RelV.none_iff{x:V}{v:Value}(r:RelV x v):(v==Value.none)=decide (x=.non):=by
 cases x with
 |non=>cases r;rfl
 |bl _=>cases r;rfl
 |int _=>obtain⟨t,rfl⟩:=r;rfl
 |str _=>obtain⟨t,rfl⟩:=r;rfl
 |byt _=>obtain⟨t,rfl⟩:=r;rfl
 |flt _=>obtain⟨t,rfl⟩:=r;rfl
 |ref _=>cases r;rfl
 |ty _=>cases r;rfl
theorem jdy{j pos'}(ha:PE X a ta):PC X .Is a (.Constant .none j pos') (jif ta):=by intro pins s σ H Q I h;refine thn (ha pins s σ H _ I h) fun v s1 ⟨x,H1,I1,r1,q1⟩=>?_;exact Constant_none (is_none_gen ⟨.bl _,H1,I1,by rw[r1.none_iff];rfl,q1⟩)
def tB(t:TE):TT:=fun σ H Q=>t σ H fun x H1=>∃c,x=.bl c∧Q c H1
theorem jdp{op:CmpOp}{t:TE}(h:PC X op a b t)(h1:behindInMarks op b=false:=by first|exact j7m _ (by decide) (by decide)|rfl):PT X (.Compare a [op] [b] pos) (tB t):=by intro pins s σ H Q I hw;refine wpAny_isTrue_Compare1 (thn (h pins s σ H _ I hw) fun v s1 h1=>thn h1 fun u s2 h2=>thn h2 fun c s3 ⟨x,H1,I1,r1,q1⟩=>?_) h1;obtain⟨d,rfl,q⟩:=q1;cases r1;exact wpAny_truthy_bool ⟨H1,I1,q⟩
theorem jdn{e:Expr}{t:TE}(h:PE X e t)(he:∀whole,isTrue e X.env whole=(do let v ←whole;standAt e.pos;holding [v] (truthy v)):=by intro _;rfl):PT X e (tB t):=by intro pins s σ H Q I hw;refine isTrue_plain (thn (h pins s σ H _ I hw) fun v s1 ⟨x,H1,I1,r1,q1⟩=>?_) (he _);obtain⟨d,rfl,q⟩:=q1;cases r1;exact wpAny_truthy_bool ⟨H1,I1,q⟩
variable{tA tB':TT}{rest:List Expr}
def tOr(t u:TT):TT:=fun σ H Q=>t σ H fun c H1=>if c=true then Q true H1 else u σ H1 Q
def jib(t:TT):TT:=fun σ H Q=>t σ H fun c H1=>Q (!c) H1
theorem jdl(ha:PT X a tA):PW X (.BoolOp .Or [a] pos) tA:=by
 intro wh pins s σ H Q I h;refine isTrue_or (thn (ha pins s σ H Q I h) fun c s1 e=>?_);cases c with
 |false=>exact isTrue_or_nil e
 |true=>exact e
theorem jh5(ha:PT X a tA)(hb:PW X (.BoolOp .Or (b::rest) pos) tB'):PW X (.BoolOp .Or (a::b::rest) pos) (tOr tA tB'):=by
 intro wh pins s σ H Q I h;refine isTrue_or (thn (ha pins s σ H _ I h) fun c s1 ⟨H1,I1,q1⟩=>?_);cases c with
 |true=>exact⟨H1,I1,q1⟩
 |false=>exact hb wh pins s1 σ H1 Q I1 q1
theorem jdo(ha:PT X a tA):PT X (.UnaryOp .Not a pos) (jib tA):=by intro pins s σ H Q I h;exact isTrue_not (ha pins s σ H (fun c H1=>Q (!c) H1) I h)
def jgr(ta tb:TE):TE:=fun σ H Q=>ta σ H fun x H1=>∃c,x=.bl c∧if c=true then tb σ H1 Q else Q (.bl false) H1
theorem j50{op}{t:TE}(h:PE X a t):PE X (.BoolOp op [a] pos) t:=fun pins s σ H Q I hw=>BoolOp_one (h pins s σ H Q I hw)
theorem jdx(ha:PE X a ta)(hb:PE X (.BoolOp .And (b::rest) pos) tb):PE X (.BoolOp .And (a::b::rest) pos) (jgr ta tb):=by
 intro pins s σ H Q I h;refine BoolOp_and (thn (ha pins s σ H _ I h) fun v s1 ⟨x,H1,I1,r1,q1⟩=>?_);obtain⟨c,rfl,q1⟩:=q1;cases r1;refine wpAny_truthy_bool ?_;cases c with
 |true=>exact hb pins s1 σ H1 Q I1 q1
 |false=>exact⟨.bl false,H1,I1,rfl,q1⟩
def tIf(t:TT)(ta tb:TE):TE:=fun σ H Q=>t σ H fun c H1=>if c=true then ta σ H1 Q else tb σ H1 Q
theorem j7i{c:Expr}(hc:PT X c tA)(ha:PE X a ta)(hb:PE X b tb):PE X (.IfExp c a b pos) (tIf tA ta tb):=by
 intro pins s σ H Q I h;refine wpAny_IfExp (thn (hc pins s σ H _ I h) fun d s1 ⟨H1,I1,q1⟩=>?_);cases d with
 |true=>exact ha pins s1 σ H1 Q I1 q1
 |false=>exact hb pins s1 σ H1 Q I1 q1
end
end L2
namespace L2
open PySem PySem.Spec PyProof.Rows
def SqL(K:k85)(H:Hp)(a:Addr)(xs:List V):Prop :=
 Rd H a (.lst xs) ∨
  ∃(o:Obj)(its:Array Value)(n:Nat),K.lookup a=some o∧o.cls=.type "list"∧o.dict=none∧o.data=.seq its n∧its.size≤sizeLine∧Vals xs its.toList
def SqT(K:k85)(H:Hp)(a:Addr)(xs:List V):Prop :=
 Rd H a (.tup xs) ∨
  ∃(o:Obj)(its:Array Value)(n:Nat),K.lookup a=some o∧o.cls=.type "tuple"∧o.dict=none∧o.data=.seq its n∧its.size≤sizeLine∧Vals xs its.toList
noncomputable def jiz:Value→Option V
 |.none=>some .non
 |.bool b=>some (.bl b)
 |.int i _=>some (.int i)
 |.str x _=>some (.str x)
 |.bytes b _=>some (.byt b)
 |.float b _=>some (.flt b)
 |.ref a=>some (.ref a)
 |.type n=>some (.ty n)
 |_=>none
theorem RelV.abs{x:V}{u:Value}(r:RelV x u):jiz u=some x:=by
 cases x with
 |non=>cases r;rfl
 |bl _=>cases r;rfl
 |int _=>obtain⟨t,rfl⟩:=r;rfl
 |str _=>obtain⟨t,rfl⟩:=r;rfl
 |byt _=>obtain⟨t,rfl⟩:=r;rfl
 |flt _=>obtain⟨t,rfl⟩:=r;rfl
 |ref _=>cases r;rfl
 |ty _=>cases r;rfl
theorem RelV.inj{x y:V}{u:Value}(r:RelV x u)(q:RelV y u):x=y:=Option.some.inj (r.abs.symm.trans q.abs)
theorem Vals.inj:∀{xs ys:List V}{us:List Value},Vals xs us→Vals ys us→xs=ys
 |_,_,_,.nil,.nil=>rfl
 |_,_,_,.cons r t,.cons r' t'=>by rw[r.inj r',Vals.inj t t']
section
variable{X:Cx}{pins:k87}{σ:St}{H:Hp}{s:Shared}{a:Addr}{xs ys:List V}
theorem Inv.list(I:Inv X pins σ H s)(h:SqL X.K H a xs):∃its:List Value,Vals xs its∧PlainL s.heap a its.toArray∧xs.length≤sizeLine:=by
 rcases h with h|⟨o,its,n,hk,hc,hd,hs,hz,r⟩
 ·obtain⟨z,its,n,r,e⟩:=h.ok I.hok;exact⟨its,r,⟨_,n,e,rfl,rfl,rfl⟩,z⟩
 ·refine⟨its.toList,r,⟨o,n,I.kIn a o hk,hc,hd,by simpa using hs⟩,?_⟩;have e:=r.length;simp only[Array.length_toList]at e;omega
theorem Inv.tuple(I:Inv X pins σ H s)(h:SqT X.K H a xs):∃its:List Value,Vals xs its∧IsTup s.heap a its.toArray∧xs.length≤sizeLine:=by
 rcases h with h|⟨o,its,n,hk,hc,hnd,hs,hz,r⟩
 ·obtain⟨z,its,r,p,_⟩:=h.ok I.hok;exact⟨its,r,p,z⟩
 ·refine⟨its.toList,r,⟨o,I.kIn a o hk,hc,n,by simpa using hs⟩,?_⟩;have e:=r.length;simp only[Array.length_toList]at e;omega
theorem Inv.tupD(I:Inv X pins σ H s)(h:SqT X.K H a xs):V7 s.heap a:=by
 rcases h with h|⟨o,its,n,hk,hc,hnd,hs,hz,r⟩
 ·obtain⟨z,its,r,p,q⟩:=h.ok I.hok;exact q
 ·intro o' e;rw[I.kIn a o hk]at e;cases e;exact hnd
theorem Inv.list_inj(I:Inv X pins σ H s)(h:SqL X.K H a xs)(h':SqL X.K H a ys):xs=ys:=by
 obtain⟨its,r,⟨o,n,e,_,_,d⟩,_⟩:=I.list h;obtain⟨its',r',⟨o',n',e',_,_,d'⟩,_⟩:=I.list h';rw[e]at e';cases e';rw[d]at d';injection d' with d1 _;have:its=its':=by simpa using congrArg Array.toList d1
 subst this;exact r.inj r'
theorem Inv.tuple_inj(I:Inv X pins σ H s)(h:SqT X.K H a xs)(h':SqT X.K H a ys):xs=ys:=by
 obtain⟨its,r,⟨o,e,_,n,d⟩,_⟩:=I.tuple h;obtain⟨its',r',⟨o',e',_,n',d'⟩,_⟩:=I.tuple h';rw[e]at e';cases e';rw[d]at d';injection d' with d1 _;have:its=its':=by simpa using congrArg Array.toList d1
 subst this;exact r.inj r'
end
noncomputable abbrev Cx.wish(X:Cx)(E:k86):Cx:={ X with xe:=E }
noncomputable abbrev Cx.nox(X:Cx):Cx:=X.wish fun _ _=>False
theorem Cx.Ok.wish{X:Cx}(ok:X.Ok)(E:k86):(X.wish E).Ok :=
 ⟨ok.mod,ok.kind,ok.glob,ok.blt,ok.above,ok.inj,ok.has,ok.cab,ok.hd,ok.frames,ok.stk,ok.exf,ok.bs,ok.bsz,ok.noex,ok.exfs,ok.funs,ok.frf⟩
theorem Cx.Ok.unwish{X:Cx}{E:k86}(ok:(X.wish E).Ok):X.Ok :=
 ⟨ok.mod,ok.kind,ok.glob,ok.blt,ok.above,ok.inj,ok.has,ok.cab,ok.hd,ok.frames,ok.stk,ok.exf,ok.bs,ok.bsz,ok.noex,ok.exfs,ok.funs,ok.frf⟩
section
variable{X:Cx}{pins:k87}{σ:St}{H:Hp}{s:Shared}{E:k86}
theorem Inv.wish(I:Inv X pins σ H s)(E:k86):Inv (X.wish E) pins σ H s:=⟨I.ok.wish E,I.os,I.bare,I.base,I.loc,I.cell,I.free,I.freeC,I.pin,I.hok,I.len⟩
theorem Inv.unwish(I:Inv (X.wish E) pins σ H s):Inv X pins σ H s:=⟨I.ok.unwish,I.os,I.bare,I.base,I.loc,I.cell,I.free,I.freeC,I.pin,I.hok,I.len⟩
theorem SP.unwish{D:Ends}{f:Flow}{s':Shared}(h:SP (X.wish E) pins D f s'):SP X pins D f s':=by
 cases f with
 |next=>obtain⟨σ',H',I,q⟩:=h;exact⟨σ',H',I.unwish,q⟩
 |brk=>obtain⟨σ',H',I,q⟩:=h;exact⟨σ',H',I.unwish,q⟩
 |cont=>obtain⟨σ',H',I,q⟩:=h;exact⟨σ',H',I.unwish,q⟩
 |ret u=>obtain⟨v,σ',H',H2,I,r,x,q⟩:=h;exact⟨v,σ',H',H2,I.unwish,r,x,q⟩
theorem PSs.nox{st:List Stmt}{t:TS}(h:PSs X.nox st t):PSs X st t:=fun pins s σ H D I hw =>wpAny_mono (h pins s σ H D (I.wish _) hw) (fun _ _ q=>q.unwish) fun _ _ z=>False.elim z
end
section
variable{X:Cx}{st:Stmt}{rest:List Stmt}{t u:TS}{e:Expr}{te:TE}{pos:Pos}
def jgn:TS:=fun D σ H=>D.nx σ H
def ji9(t u:TS):TS:=fun D σ H=>t { D with nx:=u D } σ H
theorem j1j:PSs X [] jgn:=fun _ _ σ H _ I h=>wpAny_execs_nil ⟨σ,H,I,h⟩
theorem Vc(h1:PS X st t)(h2:PSs X rest u):PSs X (st::rest) (ji9 t u):=by
 intro pins s σ H D I h;refine wpAny_execs_cons (thn (h1 pins s σ H { D with nx:=u D } I h) fun f s1 q=>?_);cases f with
 |next =>obtain⟨σ',H',I',q⟩:=q;exact h2 pins s1 σ' H' D I' q
 |ret v=>exact q
 |brk=>exact q
 |cont=>exact q
theorem Mj(h1:PS X st t):PSs X [st] t:=by
 intro pins s σ H D I h;refine wpAny_execs_cons (thn (h1 pins s σ H D I h) fun f s1 q=>?_);cases f with
 |next=>exact wpAny_execs_nil q
 |ret v=>exact q
 |brk=>exact q
 |cont=>exact q
theorem Inv.quiet{pins:k87}{σ:St}{H:Hp}{s:Shared}(I:Inv X pins σ H s):interactive X.env=false:=by simp[interactive,I.ok.kind]
def jgo(te:TE):TS:=fun D σ H=>te σ H fun _ H1=>D.nx σ H1
theorem Ml(he:PE X e te)(hs:swapsWith e none pos.line X.env=pure false:=by rfl):PS X (.Expr e pos) (jgo te):=by intro pins s σ H D I h;exact wpAny_Expr_any (thn (he pins s σ H _ I h) fun v s1 ⟨x,H1,I1,r1,q1⟩=>⟨σ,H1,I1,q1⟩) I.quiet hs
def jia(te:TE):TS:=fun D σ H=>te σ H D.rt
theorem W3(he:PE X e te):PS X (.Return (some e) pos) (jia te):=by intro pins s σ H D I h;exact wpAny_Return_some (thn (he pins s σ H _ I h) fun v s1 ⟨x,H1,I1,r1,q1⟩=>⟨x,σ,H1,H1,I1,r1,.refl,q1⟩)
def jig(c:TT)(t u:TS):TS:=fun D σ H=>c σ H fun b H1=>if b=true then t D σ H1 else u D σ H1
theorem jh6{c:Expr}{a b:List Stmt}{tc:TT}(hc:PT X c tc)(ha:PSs X a t)(hb:PSs X b u):PS X (.If c a b pos) (jig tc t u):=by
 intro pins s σ H D I h;refine wpAny_If (thn (hc pins s σ H _ I h) fun d s1 ⟨H1,I1,q1⟩=>?_);cases d with
 |true=>exact ha pins s1 σ H1 D I1 q1
 |false=>exact hb pins s1 σ H1 D I1 q1
end
abbrev TG:=V→St→Hp→(St→Hp→Prop)→Prop
abbrev TGs:=List V→St→Hp→(St→Hp→Prop)→Prop
def PG(X:Cx)(target:Expr)(t:TG):Prop :=
 ∀(pins:k87) (s:Shared) (σ:St) (H:Hp) (v:V) (u:Value) (Q:St→Hp→Prop),Inv X pins σ H s→RelV v u→t v σ H Q →
  wpAny (model X.prog X.w) X.A (assign target X.env u) (fun _ s'=>∃σ' H',Inv X pins σ' H' s'∧Q σ' H') X.xe s
def PGs(X:Cx)(ts:List Expr)(t:TGs):Prop :=
 ∀(pins:k87) (s:Shared) (σ:St) (H:Hp) (vs:List V) (us:List Value) (Q:St→Hp→Prop),Inv X pins σ H s→Vals vs us→t vs σ H Q →
  wpAny (model X.prog X.w) X.A (assignInOrder ((assignEach ts X.env).map (·.2)) us) (fun _ s'=>∃σ' H',Inv X pins σ' H' s'∧Q σ' H') X.xe s
abbrev j3x:=V→V→V→Hp→(Hp→Prop)→Prop
def jgg(X:Cx)(t:j3x):Prop :=
 ∀(pins:k87) (s:Shared) (σ:St) (H:Hp) (o i v:V) (ov iv u:Value) (Q:Hp→Prop),Inv X pins σ H s→RelV o ov→RelV i iv→RelV v u→t o i v H Q →
  wpAny (model X.prog X.w) X.A (setItem ov iv u) (fun _ s'=>∃H',Inv X pins σ H' s'∧Q H') X.xe s
section
variable{X:Cx}{pos:Pos}
def j9z(i:Nat):TG:=fun v σ H Q=>Q (σ.set i (some v)) H
theorem W4{i:Nat}{x:Str}(hN:X.N.Nodup)(hi:X.N[i]?=some x)(hx:Loc X.env.scope x)(hf:X.fn x=true∨X.env.scope.names.lookup x=some .local:=by first|exact .inl rfl|exact .inr rfl|assumption):PG X (.Name x pos) (j9z i):=by intro pins s σ H v u Q I r h;exact wpAny_assign_Name (Kp I hN hi hx r (fun s' I'=>⟨_,H,I',h⟩) hf)
def jix:TGs:=fun vs σ H Q=>vs=[]∧Q σ H
def jht(t:TG)(u:TGs):TGs:=fun vs σ H Q=>∃v r,vs=v::r∧t v σ H fun σ' H'=>u r σ' H' Q
theorem jb6:PGs X [] jix:=by intro pins s σ H vs us Q I r h;obtain⟨e,h⟩:=h;subst e;cases r;exact assignInOrder_nil ⟨σ,H,I,h⟩
theorem Iv{e:Expr}{es:List Expr}{t:TG}{u:TGs}(h1:PG X e t)(h2:PGs X es u)
  (hs:(assignEach (e::es) X.env).map (·.2)=assign e X.env::(assignEach es X.env).map (·.2):=by rfl):PGs X (e::es) (jht t u):=by
 intro pins s σ H vs us Q I r h;obtain⟨v,vr,e1,h⟩:=h;subst e1;cases r with
 |cons r rr =>rw[hs];refine assignInOrder_cons (thn (h1 pins s σ H _ _ _ I r h) fun _ s1 ⟨σ1,H1,I1,q1⟩=>?_);exact h2 pins s1 σ1 H1 _ _ Q I1 rr q1
def jiv(K:k85)(n:Nat)(t:TGs):TG:=fun v σ H Q=>∃a xs,v=.ref a∧SqT K H a xs∧xs.length=n∧t xs σ H Q
theorem jdt{es:List Expr}{k:Nat}{t:TGs}{n:Nat}(hc:X.calm=true)(h:PGs X es t)
  (hn:(assignEach es X.env).length=n:=by rfl) (hst:(assignEach es X.env).findIdx? (·.1)=none:=by rfl):PG X (.Tuple es k pos) (jiv X.K n t):=by
 intro pins s σ H v u Q I r hw;obtain⟨a,xs,e1,hq,hl,hw⟩:=hw;subst e1;cases r;obtain⟨its,rv,ht,hz⟩:=I.tuple hq;refine assign_Tuple_tuple (I.ok.hd hc) ht (by simp[hn,←hl,rv.length]) hst fun h' hx=>?_;have I1:Inv X pins σ H { s with heap:=h' }:=I.kept (t':=s.toks) fun b o e=>hx b o (X8 (xn e)) e;exact h pins _ σ H xs _ Q I1 (by simpa using rv) hw
def jiw(to ti:TE)(t:j3x):TG:=fun v σ H Q=>to σ H fun o H1=>ti σ H1 fun i H2=>t o i v H2 fun H3=>Q σ H3
theorem jdu{o i:Expr}{to ti:TE}{t:j3x}(ho:PE X o to)(hi:PE X i ti)(hs:jgg X t)
  (ha:∀v,assign (.Subscript o i pos) X.env v=(do
   let ov ←holding [v] (eval o X.env)
   let iv ←holding [v,ov] (eval i X.env)
   standAt pos
   holding [v,ov,iv] (setItem ov iv v)
   release [v,ov,iv] []):=by intro _;rfl):PG X (.Subscript o i pos) (jiw to ti t):=by
 intro pins s σ H v u Q I r h;rw[ha];refine wpAny_bind (wpAny_holding (thn (ho pins s σ H _ I h) fun ov s1 ⟨x,H1,I1,r1,q1⟩=>?_));refine wpAny_bind (wpAny_holding (thn (hi pins s1 σ H1 _ I1 q1) fun iv s2 ⟨y,H2,I2,r2,q2⟩=>?_));refine wpAny_bind (wpAny_standAt (wpAny_bind (wpAny_holding (thn (hs pins s2 σ H2 x y v ov iv u _ I2 r1 r2 r q2) fun _ s3 ⟨H3,I3,q3⟩=>?_))));exact wpAny_release ⟨σ,H3,I3,q3⟩
def jcx(te:TE)(g:TG):TS:=fun D σ H=>te σ H fun x H1=>g x σ H1 D.nx
theorem jdq{tg e:Expr}{te:TE}{g:TG}(he:PE X e te)(hg:PG X tg g)(hs:swapsWithSole [tg] e pos.line X.env=pure false:=by rfl)(hw:swappedStores [tg] e X.env=pure none:=by rfl)
  (h1:(assignEach [tg] X.env).map (·.2)=[assign tg X.env]:=by rfl):PS X (.Assign [tg] e pos) (jcx te g):=by
 intro pins s σ H D I h;refine wpAny_Assign_stores (thn (he pins s σ H _ I h) fun v s1 ⟨x,H1,I1,r1,q1⟩=>?_) hs hw;rw[h1];exact thn (hg pins s1 σ H1 x v _ I1 r1 q1) fun _ s2 q=>q
theorem Yu{i:Nat}{x:Str}{e:Expr}{te:TE}{pos':Pos}(hN:X.N.Nodup)(hi:X.N[i]?=some x)(hx:Loc X.env.scope x)(he:PE X e te)(hs:swapsWith e (some (.Name x pos')) pos.line X.env=pure false:=by rfl)(hf:X.fn x=true∨X.env.scope.names.lookup x=some .local:=by first|exact .inl rfl|exact .inr rfl|assumption) :
  PS X (.Assign [.Name x pos'] e pos) (jcx te (j9z i)):=by
 intro pins s σ H D I h;refine wpAny_Assign_Name (thn (he pins s σ H _ I h) fun v s1 ⟨y,H1,I1,r1,q1⟩=>?_) hs;exact Kp I1 hN hi hx r1 (fun s2 I2=>⟨_,H1,I2,q1⟩) hf
end
section
variable{X:Cx}{pos:Pos}
def jcw(c:TT)(tb:TS):TS:=fun D σ H=>∃W:Nat→St→Hp→Prop,(∃m,W m σ H)∧∀m σ H,W m σ H →
 c σ H fun b H1=>if b=true then ∃N:St→Hp→Prop,(∀σ' H',N σ' H'→∃m',m'<m∧W m' σ' H')∧tb { D with nx:=N,ct:=N,bk:=D.nx } σ H1 else D.nx σ H1
theorem j7e{c:Expr}{body:List Stmt}{tc:TT}{tb:TS}(hp:PassesOwn (model X.prog X.w) X.A X.env X.xe)(hc:PT X c tc)(hb:PSs X body tb):PS X (.While c body [] pos) (jcw tc tb):=by
 intro pins s σ H D I h;obtain⟨W,⟨m0,w0⟩,turn⟩:=h;refine wpAny_While (codeAny_whileLoop (fun n s'=>∃σ' H',Inv X pins σ' H' s'∧W n σ' H') ?_ m0 ⟨σ,H,I,w0⟩);rintro n s1 ⟨σ1,H1,I1,w1⟩;refine wpAny_passesOwn hp (thn (hc pins s1 σ1 H1 _ I1 (turn n σ1 H1 w1)) fun b s2 ⟨H2,I2,q2⟩=>?_);cases b with
 |true =>
  obtain⟨N,hN,q2⟩:=q2;rw[if_pos rfl];refine wpAny_passesOwn hp (thn (hb pins s2 σ1 H2 _ I2 q2) fun f s3 q3=>?_);cases f with
  |next =>obtain⟨σ3,H3,I3,n3⟩:=q3;obtain⟨m',hm,w3⟩:=hN σ3 H3 n3;exact⟨m',hm,σ3,H3,I3,w3⟩
  |cont =>obtain⟨σ3,H3,I3,n3⟩:=q3;obtain⟨m',hm,w3⟩:=hN σ3 H3 n3;exact⟨m',hm,σ3,H3,I3,w3⟩
  |brk=>exact q3
  |ret v=>exact q3
 |false =>rw[if_neg xg];exact wpAny_execs_nil ⟨σ1,H2,I2,q2⟩
end
structure It where
 go:Nat→Hp→Prop
 yld:Nat→Hp→V→Hp→Prop
 stop:Nat→Hp→Prop
def Z1(X:Cx)(pins:k87)(H:Hp)(b:Addr):Prop :=
 H b=none∧b≠X.env.locals∧b∉X.fs∧(b∈X.ex∨X.s₀.heap.objs.size≤b)∧(∀x c,X.env.cells.lookup x=some c→c≠b)∧∀p∈X.pn++pins,p.1≠b
theorem Inv.fpOk{X:Cx}{pins:k87}{σ:St}{H H':Hp}{s:Shared}{b:Addr}(I:Inv X pins σ H s)(hb:s.heap.objs.size≤b)(hn:H' b=none):Z1 X pins H' b:=by
 refine⟨hn,tu (Xd I.lt hb),I.nofs hb,.inr (Xm I.sz hb),fun x c e z=>?_,fun p hp z=>?_⟩
 ·obtain⟨v,q⟩:=I.cell x c e;exact absurd (Xd q.lt (by rw[z];exact hb)) (Xv _)
 ·exact absurd (Xd (xn (I.pin p hp).1) (by rw[z];exact hb)) (Xv _)
structure Turn(P:Program)(w:World)(K:k85)(tg:Expr)(J:It)(fp:List Addr)(it:Addr)(tn:Nat→Heap→Prop):Prop where
 mem:it∈fp
 obj:∀i h,tn i h→∀b∈fp,∃o,h.get? b=some o∧∀v,o.data≠.cell v
 keep:∀i h h',tn i h→(∀b∈fp,∀o,h.get? b=some o→h'.get? b=some o)→tn i h'
 item:∀(X:Cx),X.prog=P→X.w=w→X.K=K→X.calm=true→∀(i:Nat)(pins:k87) (s:Shared) (σ:St) (H:Hp) (E:k86),Inv X pins σ H s→(∀b∈fp,Z1 X pins H b)→tn i s.heap→J.go i H →
  wpAny (model P w) X.A (pyNext (.ref it)) (fun r s1=>∃u,r=some u ∧
   wpAny (model P w) X.A (letOwnedTupleGo tg (.ref it) u) (fun _ s2=>∃x H',Inv X pins σ H' s2∧RelV x u∧J.yld i H x H'∧tn (i+1) s2.heap∧∀b∈fp,H' b=none) E s1) E s
 done:∀(X:Cx),X.prog=P→X.w=w→X.K=K→X.calm=true→∀(i:Nat)(pins:k87) (s:Shared) (σ:St) (H:Hp) (E:k86),Inv X pins σ H s→(∀b∈fp,Z1 X pins H b)→tn i s.heap→J.stop i H →
  wpAny (model P w) X.A (pyNext (.ref it)) (fun r s1=>r=none∧Inv X pins σ H s1) E s
 self:∀(A:Around)(i:Nat)(s:Shared)(Q:k86)(E:k86),tn i s.heap→Q (.ref it) s→wpAny (model P w) A (pyIter (.ref it)) Q E s
abbrev TI:=St→Hp→(It→Hp→Prop)→Prop
def PIE(X:Cx)(pins:k87)(σ:St)(tg:Expr)(R:It→Hp→Prop)(itv:Value)(s2:Shared):Prop :=
 ∃(it:Addr)(fp:List Addr)(tn:Nat→Heap→Prop)(J:It)(H':Hp),itv=.ref it∧Inv X pins σ H' s2∧Turn X.prog X.w X.K tg J fp it tn∧tn 0 s2.heap∧(∀b∈fp,Z1 X pins H' b)∧R J H'
def PI(X:Cx)(tg iter:Expr)(wi:TI):Prop :=
 ∀(pins:k87) (s:Shared) (σ:St) (H:Hp) (R:It→Hp→Prop),Inv X pins σ H s→wi σ H R →
  wpAny (model X.prog X.w) X.A (eval iter X.env) (fun v s1=>wpAny (model X.prog X.w) X.A (pyIter v) (PIE X pins σ tg R) X.xe s1) X.xe s
theorem K9{M:Model}{A:Around}{E:k86}{s:Shared}{tg:Expr}{it:Addr}{u:Value}{o:Obj}{n:String}{vs:Array Value}{Q:Unit→Shared→Prop}(ho:s.heap.get? it=some o)(hc:o.cls=.type n)(hd:o.data=.fields vs)
  (hn:["enumerate","zip","dict_itemiterator","dict_reverseitemiterator","odict_iterator","itertools.zip_longest","itertools.pairwise"].contains n=false) (hQ:Q () s):wpAny M A (letOwnedTupleGo tg (.ref it) u) Q E s:=by
 unfold letOwnedTupleGo;cases tg<;>first
  |exact wpAny_pure hQ
  |(cases u<;>first
    |exact wpAny_pure hQ
    |(refine wpAny_bind (wpAny_load ho ?_);rw[hc,hd];show wpAny M A (if (["enumerate","zip","dict_itemiterator","dict_reverseitemiterator","odict_iterator","itertools.zip_longest","itertools.pairwise"].contains n&&vs[0]?==some (rawInt _))=true then _ else _) Q E s;rw[if_neg (by intro h;rw[hn,Bool.false_and]at h;cases h)];exact wpAny_pure hQ))
noncomputable def Itl(K:k85)(a:Addr):It :=
 ⟨fun i H=>∃xs x,SqL K H a xs∧xs[i]?=some x,fun i H x H'=>H'=H∧∀xs,SqL K H a xs→xs[i]?=some x,fun i H=>∃xs,SqL K H a xs∧xs.length≤i⟩
noncomputable def Itt(K:k85)(a:Addr):It :=
 ⟨fun i H=>∃xs x,SqT K H a xs∧xs[i]?=some x,fun i H x H'=>H'=H∧∀xs,SqT K H a xs→xs[i]?=some x,fun i H=>∃xs,SqT K H a xs∧xs.length≤i⟩
noncomputable def Itr(lo:Int)(n:Nat):It:=⟨fun i _=>i<n,fun i H x H'=>H'=H∧x=.int (lo+i),fun i _=>n≤i⟩
theorem j43{P:Program}{w:World}{K:k85}{tg:Expr}(a it:Addr):Turn P w K tg (Itl K a) [it] it (fun i h=>h.IsListIter it a i) where
 mem:=by simp
 obj:=fun i h st b hb=>by
  have e:b=it:=by simpa using hb
  subst e;obtain⟨o,e,c,d⟩:=st;exact⟨o,e,fun v z=>by rw[d]at z;cases z⟩
 keep:=fun i h h' st k=>st.at fun o e=>k it (by simp) o e
 item:=by intro X hP hw hK hc i pins s σ H E I hf st hg;subst hP hw hK;obtain⟨xs,x,hq,hx⟩:=hg;obtain⟨its,rv,p,hz⟩:=I.list hq;obtain⟨u,hu,ru⟩:=rv.get hx;obtain⟨f0,f1,f2,f3,f4,f5⟩:=hf it (by simp);refine wpAny_pyNext_list_item st p.isList (x:=u) (by simpa using hu) fun h' st' sb=>?_;have I1:Inv X pins σ H { s with heap:=h' }:=I.turned (t':=s.toks) (fun b o hb e=>(sb.2 b hb).trans e) f0 f1 f3 f4 f5;obtain⟨o,e,c,d⟩:=id st';exact⟨u,rfl,K9 (s:={ s with heap:=h' }) e c d (by decide) ⟨x,H,I1,ru,⟨rfl,fun ys hy=>by rw[I.list_inj hy hq];exact hx⟩,st',fun b hb=>(hf b hb).1⟩⟩
 done:=by intro X hP hw hK hc i pins s σ H E I hf st hg;subst hP hw hK;obtain⟨xs,hq,hx⟩:=hg;obtain⟨its,rv,p,hz⟩:=I.list hq;obtain⟨f0,f1,f2,f3,f4,f5⟩:=hf it (by simp);have hl:=rv.length;exact wpAny_pyNext_list_end (I.ok.hd hc) st p.isList (by simp;omega) fun h' eb=>⟨rfl,I.turned (t':=s.toks) (fun b o hb e=>eb b o hb e) f0 f1 f3 f4 f5⟩
 self:=fun _ _ _ _ _ st h=>wpAny_pyIter_listiter st h
theorem j2k{P:Program}{w:World}{K:k85}{tg:Expr}(a it:Addr):Turn P w K tg (Itt K a) [it] it (fun i h=>h.IsTupleIter it a i) where
 mem:=by simp
 obj:=fun i h st b hb=>by
  have e:b=it:=by simpa using hb
  subst e;obtain⟨o,e,c,d⟩:=st;exact⟨o,e,fun v z=>by rw[d]at z;cases z⟩
 keep:=fun i h h' st k=>st.at fun o e=>k it (by simp) o e
 item:=by intro X hP hw hK hc i pins s σ H E I hf st hg;subst hP hw hK;obtain⟨xs,x,hq,hx⟩:=hg;obtain⟨its,rv,p,hz⟩:=I.tuple hq;obtain⟨u,hu,ru⟩:=rv.get hx;obtain⟨f0,f1,f2,f3,f4,f5⟩:=hf it (by simp);refine wpAny_pyNext_tuple_item st (show s.heap.IsTuple a its.toArray from p) (x:=u) (by simpa using hu) fun h' st' sb=>?_;have I1:Inv X pins σ H { s with heap:=h' }:=I.turned (t':=s.toks) (fun b o hb e=>(sb.2 b hb).trans e) f0 f1 f3 f4 f5;obtain⟨o,e,c,d⟩:=id st';exact⟨u,rfl,K9 (s:={ s with heap:=h' }) e c d (by decide) ⟨x,H,I1,ru,⟨rfl,fun ys hy=>by rw[I.tuple_inj hy hq];exact hx⟩,st',fun b hb=>(hf b hb).1⟩⟩
 done:=by intro X hP hw hK hc i pins s σ H E I hf st hg;subst hP hw hK;obtain⟨xs,hq,hx⟩:=hg;obtain⟨its,rv,p,hz⟩:=I.tuple hq;obtain⟨f0,f1,f2,f3,f4,f5⟩:=hf it (by simp);have hl:=rv.length;exact wpAny_pyNext_tuple_end (I.ok.hd hc) st (show s.heap.IsTuple a its.toArray from p) (by simp;omega) fun h' eb=>⟨rfl,I.turned (t':=s.toks) (fun b o hb e=>eb b o hb e) f0 f1 f3 f4 f5⟩
 self:=fun _ _ _ _ _ st h=>wpAny_pyIter_tupleiter st h
theorem j2l{P:Program}{w:World}{K:k85}{tg:Expr}(it:Addr)(lo:Int)(n:Nat):Turn P w K tg (Itr lo n) [it] it (fun i h=>IsRangeIter h it (lo+(i:Nat)*1) ((n:Int)-(i:Nat)) 1) where
 mem:=by simp
 obj:=fun i h st b hb=>by
  have e:b=it:=by simpa using hb
  subst e;exact⟨_,st,fun v z=>by
   have z':Data.fields _=Data.cell v:=z
   cases z'⟩
 keep:=fun i h h' st k=>k it (by simp) _ st
 item:=by intro X hP hw hK hc i pins s σ H E I hf st hg;subst hP hw hK;obtain⟨f0,f1,f2,f3,f4,f5⟩:=hf it (by simp);have W:=Walks.range (prog:=X.prog) (w:=X.w) (I.ok.hd hc) it lo 1 n;refine W.item i s _ _ hg st fun v h' tk hv st' kk=>?_;obtain⟨t,rfl⟩:=hv;have I1:Inv X pins σ H { s with heap:=h',toks:=tk }:=I.turned (fun b o hb e=>kk b o (by simpa using hb) e) f0 f1 f3 f4 f5;refine⟨_,rfl,K9 (s:={ s with heap:=h',toks:=tk }) (n:="range_iterator") st' rfl rfl (by decide) ⟨.int (lo+i),H,I1,⟨t,?_⟩,⟨rfl,rfl⟩,st',fun b hb=>(hf b hb).1⟩⟩;rw[Int.mul_one]
 done:=by intro X hP hw hK hc i pins s σ H E I hf st hg;subst hP hw hK;obtain⟨f0,f1,f2,f3,f4,f5⟩:=hf it (by simp);exact wpAny_pyNext_range_end (I.ok.hd hc) st (by have:n≤i:=hg;omega) fun h' eb=>⟨rfl,I.turned (t':=s.toks) (fun b o hb e=>eb b o hb e) f0 f1 f3 f4 f5⟩
 self:=fun _ _ _ _ _ st h=>wpAny_pyIter_rangeiter st h
end L2
namespace L2
open PySem PySem.Spec PyProof.Rows
section
variable{X:Cx}{tg:Expr}
def jhr(K:k85)(tl:TE):TI:=fun σ H R=>tl σ H fun x H1=>∃a,x=.ref a∧(∃xs,SqL K H1 a xs)∧R (Itl K a) H1
def jiu(K:k85)(tl:TE):TI:=fun σ H R=>tl σ H fun x H1=>∃a,x=.ref a∧(∃xs,SqT K H1 a xs)∧R (Itt K a) H1
theorem jb5{l:Expr}{tl:TE}(hl:PE X l tl):PI X tg l (jhr X.K tl):=by
 intro pins s σ H R I h;refine thn (hl pins s σ H _ I h) fun v s1 ⟨x,H1,I1,r1,q1⟩=>?_;obtain⟨a,e,⟨xs,hq⟩,q⟩:=q1;subst e;cases r1;obtain⟨its,rv,p,hz⟩:=I1.list hq;refine wpAny_pyIter_list p.isList ?_;refine⟨s1.heap.objs.size,[s1.heap.objs.size],_,_,H1,rfl,I1.kept (t':=s1.toks) fun b o e=>xj _ e,j43 a _,⟨_,X5 _ rfl,rfl,rfl⟩,fun b hb=>?_,q⟩;have e:b=s1.heap.objs.size:=by simpa using hb
 subst e;exact I1.fpOk (xx _) (I1.hok.fresh (xx _))
theorem jds{l:Expr}{tl:TE}(hl:PE X l tl):PI X tg l (jiu X.K tl):=by
 intro pins s σ H R I h;refine thn (hl pins s σ H _ I h) fun v s1 ⟨x,H1,I1,r1,q1⟩=>?_;obtain⟨a,e,⟨xs,hq⟩,q⟩:=q1;subst e;cases r1;obtain⟨its,rv,p,hz⟩:=I1.tuple hq;refine wpAny_pyIter_tuple (show s1.heap.IsTuple a its.toArray from p) ?_;refine⟨s1.heap.objs.size,[s1.heap.objs.size],_,_,H1,rfl,I1.kept (t':=s1.toks) fun b o e=>xj _ e,j2k a _,⟨_,X5 _ rfl,rfl,rfl⟩,fun b hb=>?_,q⟩;have e:b=s1.heap.objs.size:=by simpa using hb
 subst e;exact I1.fpOk (xx _) (I1.hok.fresh (xx _))
theorem Im{pins:k87}{σ:St}{H:Hp}{s:Shared}{R:It→Hp→Prop}{E:k86}{lo hi:Int}{t u v:Tok}{tk:Nat}(I:Inv X pins σ H s)(h1:-(2^62)≤lo)(h2:lo<2^62)(h3:-(2^62)≤hi)(h4:hi<2^62)
  (q:R (Itr lo (hi-lo).toNat) H):wpAny (model X.prog X.w) X.A (pyIter (.ref s.heap.objs.size)) (PIE X pins σ tg R) E { s with heap:=s.heap.push { cls:=.type "range",data:=.fields #[.int lo t,.int hi u,.int 1 v] },toks:=tk }:=by
 refine wpAny_pyIter_range (IsRange.new ..) (small_one h1 h2 h3 h4) ?_;have I1:Inv X pins σ H { s with heap:=s.heap.push { cls:=.type "range",data:=.fields #[.int lo t,.int hi u,.int 1 v] },toks:=tk }:=I.kept fun b o e=>xj _ e;refine⟨(s.heap.push { cls:=.type "range",data:=.fields #[.int lo t,.int hi u,.int 1 v] }).objs.size,[(s.heap.push { cls:=.type "range",data:=.fields #[.int lo t,.int hi u,.int 1 v] }).objs.size],_,_,H,rfl,
  I1.kept (t':=tk) fun b o e=>xj _ e,j2l _ lo (hi-lo).toNat,?_,fun b hb=>?_,q⟩
 ·have e1:lo+((0:Nat):Int)*1=lo:=by simp
  have e2:(((hi-lo).toNat:Nat):Int)-((0:Nat):Int)=Builtin.Range.rangeSize lo hi 1:=by rw[rangeSize_one];split<;>omega
  show IsRangeIter _ _ (lo+((0:Nat):Int)*1) ((((hi-lo).toNat:Nat):Int)-((0:Nat):Int)) 1;rw[e1,e2];exact X5 _ rfl
 ·have e:b=(s.heap.push { cls:=.type "range",data:=.fields #[.int lo t,.int hi u,.int 1 v] }).objs.size:=by simpa using hb
  subst e;exact I1.fpOk (xx _) (I1.hok.fresh (xx _))
def jhq(ta:TA):TI:=fun σ H R=>ta σ H fun vs H1=>∃j:Int,vs=[.int j]∧-(2^62)≤j∧j<2^62∧R (Itr 0 j.toNat) H1
def jhp(ta:TA):TI:=fun σ H R=>ta σ H fun vs H1=>∃i j:Int,vs=[.int i,.int j]∧(-(2^62)≤i∧i<2^62∧-(2^62)≤j∧j<2^62)∧R (Itr i (j-i).toNat) H1
theorem j4x {a:Expr} {ta:TA} {p pos:Pos} (hg:Gl X "range") (hm:X.mg "range" = none) (ha:PA X [a] ta) (hs:starEach [a] X.env=[(false,eval a X.env)]:=by rfl):PI X tg (.Call (.Name "range" p) [a] [] pos) (jhq ta):=by
 intro pins s σ H R I h;refine Call_ (Vv I hg hm boot_range (callWith_type1 (thn (ha pos pins s σ H _ I h) fun us s1 ⟨vs,H1,I1,r1,q1⟩=>?_) hs rfl));obtain⟨j,e,q1,q2,q⟩:=q1;subst e;cases r1 with
 |cons r rr =>cases rr;obtain⟨t,rfl⟩:=r;exact call_range_1 (Im I1 (by omega) (by omega) q1 q2 (by simpa using q))
theorem j4w {a b:Expr} {ta:TA} {p pos:Pos} (hg:Gl X "range") (hm:X.mg "range" = none) (ha:PA X [a,b] ta) (hs:starEach [a,b] X.env=[(false,eval a X.env),(false,eval b X.env)]:=by rfl) (hs2:starEach [b] X.env=[(false,eval b X.env)]:=by rfl) :
  PI X tg (.Call (.Name "range" p) [a,b] [] pos) (jhp ta):=by
 intro pins s σ H R I h;refine Call_ (Vv I hg hm boot_range (callWith_type1 (thn (ha pos pins s σ H _ I h) fun us s1 ⟨vs,H1,I1,r1,q1⟩=>?_) (by rw[hs,hs2]) (by rw[hs2];rfl)));obtain⟨i,j,e,⟨q1,q2,q3,q4⟩,q⟩:=q1;subst e;cases r1 with
 |cons r rr =>
  cases rr with
  |cons r' rr =>cases rr;obtain⟨t,rfl⟩:=r;obtain⟨t',rfl⟩:=r';exact call_range_2 (Im I1 q1 q2 q3 q4 q)
def jih(wi:TI)(g:TG)(tb:TS):TS:=fun D σ H=>wi σ H fun J H1=>∃W:Nat→Nat→St→Hp→Prop,(∃m,W 0 m σ H1)∧∀i m σ H,W i m σ H →
 (J.stop i H∧D.nx σ H)∨(J.go i H∧∃N:St→Hp→Prop,(∀σ' H',N σ' H'→∃m',m'<m∧W (i+1) m' σ' H')∧∀x H',J.yld i H x H'→g x σ H' fun σ2 H2=>tb { D with nx:=N,ct:=N,bk:=D.nx } σ2 H2)
noncomputable def Yw(fp:List Addr)(h:Heap):List (Addr×Obj):=fp.filterMap fun b=>(h.get? b).map fun o=>(b,o)
theorem Qq{fp:List Addr}{h:Heap}{b:Addr}{o:Obj}(hb:b∈fp)(e:h.get? b=some o):(b,o)∈Yw fp h:=Px.mpr ⟨b,hb,by rw[e];rfl⟩
theorem Cm{fp:List Addr}{h:Heap}{p:Addr×Obj}(hp:p∈Yw fp h):p.1∈fp∧h.get? p.1=some p.2:=by
 obtain⟨b,hb,e⟩:=Px.mp hp;cases q:h.get? b with
 |none=>rw[q]at e;cases e
 |some o =>rw[q]at e;have e':(b,o)=p:=Option.some.inj e;subst e';exact⟨hb,q⟩
theorem Inv.pinned{pins:k87}{σ:St}{H:Hp}{s:Shared}{fp:List Addr}(I:Inv X pins σ H s)(hf:∀b∈fp,Z1 X pins H b)(ho:∀b∈fp,∃o,s.heap.get? b=some o∧∀v,o.data≠.cell v):Inv X (pins++Yw fp s.heap) σ H s :=
 I.pins_of fun p hp=>(t7.mp hp).elim (fun z=>I.pin p (Xh _ z)) fun z=>by obtain⟨hb,e⟩:=Cm z;obtain⟨f0,f1,f2,_⟩:=hf p.1 hb;obtain⟨o,e',d⟩:=ho p.1 hb;rw[e]at e';cases e';exact⟨e,f0,f1,f2,d⟩
theorem Inv.unpinned{pins pl:k87}{σ:St}{H:Hp}{s:Shared}(I:Inv X (pins++pl) σ H s):Inv X pins σ H s:=I.pins_of fun p hp=>I.pin p (Xh _ (Pz _ hp))
theorem Io{iter:Expr}{body:List Stmt}{wi:TI}{g:TG}{tb:TS}{pos:Pos}(hp:PassesOwn (model X.prog X.w) X.A X.env X.xe)(hc:X.calm=true)(hi:PI X tg iter wi)(hg:PG X tg g)(hb:PSs X body tb)
  (hs:∀x,foldedSetIterable iter X.env x=pure x:=by intro _;rfl):PS X (.For tg iter body [] pos) (jih wi g tb):=by
 intro pins s σ H D I h;refine wpAny_For (thn (hi pins s σ H _ I h) fun v s1 h1=>thn h1 fun itv s2 h2=>?_) hs;obtain⟨it,fp,tn,J,H2,e,I2,T,st2,f2,W,⟨m0,w0⟩,turn⟩:=h2;subst e;have stat:∀{H':Hp},(∀b∈fp,H' b=none)→∀b∈fp,Z1 X pins H' b:=fun hn b hb=>⟨hn b hb,(f2 b hb).2⟩
 refine codeAny_forLoop_any (fun n s'=>∃i σ' H',Inv X pins σ' H' s'∧tn i s'.heap∧(∀b∈fp,H' b=none)∧W i n σ' H') ?_ m0 ⟨0,σ,H2,I2,st2,fun b hb=>(f2 b hb).1,w0⟩;rintro n s3 ⟨i,σ3,H3,I3,st3,fr3,w3⟩;rcases turn i n σ3 H3 w3 with ⟨stop,qn⟩|⟨go,N,hN,step⟩
 ·refine wpAny_passesOwn hp (thn (T.done X rfl rfl rfl hc i pins s3 σ3 H3 X.xe I3 (stat fr3) st3 stop) fun r s4 ⟨hr,I4⟩=>?_);subst hr;exact wpAny_execs_nil ⟨σ3,H3,I4,qn⟩
 ·refine wpAny_passesOwn hp (thn (T.item X rfl rfl rfl hc i pins s3 σ3 H3 X.xe I3 (stat fr3) st3 go) fun r s4 ⟨u,hr,h4⟩=>?_);subst hr;refine wpAny_passesOwn hp (thn h4 fun _ s5 ⟨x,H5,I5,r5,y5,st5,fr5⟩=>?_);have I5':=I5.pinned (stat fr5) (T.obj _ _ st5);refine wpAny_passesOwn hp (thn (hg _ s5 σ3 H5 x u _ I5' r5 (step x H5 y5)) fun _ s6 ⟨σ6,H6,I6,q6⟩=>?_);refine wpAny_passesOwn hp (thn (hb _ s6 σ6 H6 _ I6 q6) fun f s7 q7=>?_);have again:∀{σ7:St}{H7:Hp},Inv X (pins++Yw fp s5.heap) σ7 H7 s7→N σ7 H7→∃m,m<n∧∃i σ' H',Inv X pins σ' H' s7∧tn i s7.heap∧(∀b∈fp,H' b=none)∧W i m σ' H':=fun{σ7 H7} I7 n7=>by obtain⟨m',hm,w7⟩:=hN σ7 H7 n7;refine⟨m',hm,i+1,σ7,H7,I7.unpinned,T.keep _ _ _ st5 fun b hb o e=>(I7.pin (b,o) (Xh _ (Xh _ (Qq hb e)))).1,fun b hb=>?_,w7⟩;obtain⟨o,e,d⟩:=T.obj _ _ st5 b hb;exact(I7.pin (b,o) (Xh _ (Xh _ (Qq hb e)))).2.1
  cases f with
  |next=>obtain⟨σ7,H7,I7,n7⟩:=q7;exact again I7 n7
  |cont=>obtain⟨σ7,H7,I7,n7⟩:=q7;exact again I7 n7
  |brk=>obtain⟨σ7,H7,I7,q7⟩:=q7;exact⟨σ7,H7,I7.unpinned,q7⟩
  |ret v=>obtain⟨x7,σ7,H7,H8,I7,r7,x8,q7⟩:=q7;exact⟨x7,σ7,H7,H8,I7.unpinned,r7,x8,q7⟩
end
end L2
namespace L2
open PySem PySem.Spec PyProof.Rows
abbrev R2:=V→V→Hp→VK→Prop
def OpR(X:Cx)(f:Value→Value→Sem Value)(r:R2):Prop :=
 ∀(pins:k87) (s:Shared) (σ:St) (H:Hp) (x y:V) (v u:Value) (Q:VK),Inv X pins σ H s→RelV x v→RelV y u→r x y H Q →
  wpAny (model X.prog X.w) X.A (f v u) (EP X pins σ Q) X.xe s
def UnR(X:Cx)(f:Value→Sem Value)(r:V→Hp→VK→Prop):Prop :=
 ∀(pins:k87) (s:Shared) (σ:St) (H:Hp) (x:V) (v:Value) (Q:VK),Inv X pins σ H s→RelV x v→r x H Q →
  wpAny (model X.prog X.w) X.A (f v) (EP X pins σ Q) X.xe s
def Jj(X:Cx)(f:Value)(r:List V→Hp→VK→Prop):Prop :=
 ∀(pins:k87) (s:Shared) (σ:St) (H:Hp) (xs:List V) (us:List Value) (Q:VK),Inv X pins σ H s→Vals xs us→r xs H Q →
  wpAny (model X.prog X.w) X.A (call f us) (EP X pins σ Q) X.xe s
def tOp(r:R2)(ta tb:TE):TE:=fun σ H Q=>ta σ H fun x H1=>tb σ H1 fun y H2=>r x y H2 Q
def tUn(r:V→Hp→VK→Prop)(ta:TE):TE:=fun σ H Q=>ta σ H fun x H1=>r x H1 Q
def rI(C:Int→Int→Prop)(g:Int→Int→V):R2:=fun x y H Q=>∃i j,x=.int i∧y=.int j∧C i j∧Q (g i j) H
def rI0(g:Int→Int→V):R2:=fun x y H Q=>∃i j,x=.int i∧y=.int j∧Q (g i j) H
def rU(g:Int→V):V→Hp→VK→Prop:=fun x H Q=>∃i,x=.int i∧Q (g i) H
section
variable{X:Cx}{a b c:Expr}{ta tb tc:TE}{pos:Pos}
theorem j8x(ha:PE X a ta)(hb:PE X b tb){pins:k87}{s:Shared}{σ:St}{H:Hp}{R:V→V→Hp→Prop}(I:Inv X pins σ H s)
  (h:ta σ H fun x H1=>tb σ H1 fun y H2=>R x y H2) {Q:k86} {f:Value→Value→Sem Value}
  (hf:∀v u s2 x y H2,Inv X pins σ H2 s2→RelV x v→RelV y u→R x y H2→wpAny (model X.prog X.w) X.A (f v u) Q X.xe s2) :
  wpAny (model X.prog X.w) X.A (eval a X.env) (fun v s₁=>wpAny (model X.prog X.w) X.A (eval b X.env) (fun u s₂=>wpAny (model X.prog X.w) X.A (f v u) Q X.xe s₂) X.xe s₁) X.xe s:=by
 refine thn (ha pins s σ H _ I h) fun v s1 ⟨x,H1,I1,r1,q1⟩=>?_;refine thn (hb pins s1 σ H1 _ I1 q1) fun u s2 ⟨y,H2,I2,r2,q2⟩=>?_;exact hf v u s2 x y H2 I2 r1 r2 q2
theorem Ui{op:Operator}{r:R2}(ho:OpR X (binaryOp op) r)(ha:PE X a ta)(hb:PE X b tb):PE X (.BinOp a op b pos) (tOp r ta tb):=by intro pins s σ H Q I h;exact wpAny_BinOp (j8x ha hb I h fun v u s2 x y H2 I2 rx ry q=>ho pins s2 σ H2 x y v u Q I2 rx ry q)
theorem jh7{op:UnaryOp}{r:V→Hp→VK→Prop}(ho:UnR X (unaryOp op) r)(ha:PE X a ta):PE X (.UnaryOp op a pos) (tUn r ta):=by intro pins s σ H Q I h;exact UnaryOp_ (thn (ha pins s σ H _ I h) fun v s1 ⟨x,H1,I1,r1,q1⟩=>ho pins s1 σ H1 x v Q I1 r1 q1)
theorem opI{f:Value→Value→Sem Value}{C:Int→Int→Prop}{g:Int→Int→Int}
  (rule:∀(i j:Int)(t u:Tok)(s:Shared)(Q:k86)(E:k86),C i j→Q (.int (g i j) s.toks) { s with toks:=s.toks+1 }→wpAny (model X.prog X.w) X.A (f (.int i t) (.int j u)) Q E s) :
  OpR X f (rI C fun i j=>.int (g i j)):=by
 intro pins s σ H x y v u Q I rx ry h;obtain⟨i,j,rfl,rfl,hc,q⟩:=h;obtain⟨t,rfl⟩:=rx;obtain⟨t',rfl⟩:=ry;exact rule i j t t' s _ _ hc ⟨.int (g i j),H,I.tok _,⟨_,rfl⟩,q⟩
theorem j30{f:Value→Value→Sem Value}{g:Int→Int→Int}
  (rule:∀(i j:Int)(t u:Tok)(s:Shared)(Q:k86)(E:k86),Q (.int (g i j) s.toks) { s with toks:=s.toks+1 }→wpAny (model X.prog X.w) X.A (f (.int i t) (.int j u)) Q E s) :
  OpR X f (rI0 fun i j=>.int (g i j)):=by
 intro pins s σ H x y v u Q I rx ry h;obtain⟨i,j,rfl,rfl,q⟩:=h;obtain⟨t,rfl⟩:=rx;obtain⟨t',rfl⟩:=ry;exact rule i j t t' s _ _ ⟨.int (g i j),H,I.tok _,⟨_,rfl⟩,q⟩
theorem j31{f:Value→Value→Sem Value}{g:Int→Int→Bool}
  (rule:∀(i j:Int)(t u:Tok)(s:Shared)(Q:k86)(E:k86),Q (.bool (g i j)) s→wpAny (model X.prog X.w) X.A (f (.int i t) (.int j u)) Q E s) :
  OpR X f (rI0 fun i j=>.bl (g i j)):=by
 intro pins s σ H x y v u Q I rx ry h;obtain⟨i,j,rfl,rfl,q⟩:=h;obtain⟨t,rfl⟩:=rx;obtain⟨t',rfl⟩:=ry;exact rule i j t t' s _ _ ⟨.bl (g i j),H,I,rfl,q⟩
def j3z(i j:Int):Prop:=0≤j∧j≤1000000∧i.natAbs<2^64
def j40(i j:Int):Prop:=(-(2^64)<i∧i<2^64)∨(-(2^64)<j∧j<2^64)
theorem j40.ok{i j:Int}(h:j40 i j):IntMulOk i j:=by
 rcases h with ⟨h1,h2⟩|⟨h1,h2⟩
 ·exact .of_left (intBits_le_64 h1 h2)
 ·exact .of_right (intBits_le_64 h1 h2)
theorem j2j(k:Nat):(0:Int)≤2^k:=by rw[two_pow_cast];exact Int.natCast_nonneg _
theorem je8:OpR X (binaryOp .Add) (rI0 fun i j=>.int (i+j)):=j30 fun _ _ _ _ _ _ _ q=>add_int q
theorem je0:OpR X (binaryOp .Sub) (rI0 fun i j=>.int (i-j)):=j30 fun _ _ _ _ _ _ _ q=>sub_int q
theorem je5:OpR X (binaryOp .Mult) (rI j40 fun i j=>.int (i*j)):=opI fun _ _ _ _ _ _ _ hc q=>mul_int q hc.ok
theorem je6:OpR X (binaryOp .Mod) (rI (fun _ j=>0<j) fun i j=>.int (i%j)):=opI fun i j _ _ _ _ _ hc q=>by have h1:(0:Int)<j:=hc;exact mod_int' (by omega) (by rw[Int.fmod_eq_emod_of_nonneg i (by omega)];exact q)
theorem je4:OpR X (binaryOp .Pow) (rI j3z fun i j=>.int (i^j.toNat)):=opI fun _ _ _ _ _ _ _ hc q=>pow_int_small hc.1 hc.2.1 hc.2.2 q
theorem je2:OpR X (binaryOp .LShift) (rI j3z fun i j=>.int (i*2^j.toNat)):=opI fun _ _ _ _ _ _ _ hc q=>lshift_int_small hc.1 hc.2.1 hc.2.2 q
theorem je1:OpR X (binaryOp .RShift) (rI (fun _ j=>0≤j) fun i j=>.int (i/2^j.toNat)):=opI fun i j _ _ _ _ _ hc q =>rshift_int hc (by rw[Int.fdiv_eq_ediv_of_nonneg i (j2j _)];exact q)
theorem je7:OpR X (binaryOp .BitAnd) (rI0 fun i j=>.int (Builtin.bitAnd i j)):=j30 fun _ _ _ _ _ _ _ q=>and_int q
theorem jdz:OpR X (binaryOp .BitXor) (rI0 fun i j=>.int (Builtin.bitXor i j)):=j30 fun _ _ _ _ _ _ _ q=>xor_int q
theorem unI{f:Value→Sem Value}{g:Int→Int}
  (rule:∀(i:Int)(t:Tok)(s:Shared)(Q:k86)(E:k86),Q (.int (g i) s.toks) { s with toks:=s.toks+1 }→wpAny (model X.prog X.w) X.A (f (.int i t)) Q E s) :
  UnR X f (rU fun i=>.int (g i)):=by
 intro pins s σ H x v Q I rx h;obtain⟨i,rfl,q⟩:=h;obtain⟨t,rfl⟩:=rx;exact rule i t s _ _ ⟨.int (g i),H,I.tok _,⟨_,rfl⟩,q⟩
theorem jcq:UnR X (unaryOp .USub) (rU fun i=>.int (-i)):=unI fun _ _ _ _ _ q=>neg_int q
end
noncomputable def Fv:V→V→Bool
 |.non,.non=>true|.non,.int _=>true|.int _,.non=>true|.non,.bl _=>true|.bl _,.non=>true|.non,.str _=>true|.str _,.non=>true
 |.int _,.int _=>true|.bl _,.bl _=>true|.str _,.str _=>true|.byt _,.byt _=>true
 |.int _,.str _=>true|.str _,.int _=>true|.bl _,.str _=>true|.str _,.bl _=>true
 |_,_=>false
def rEq:R2:=fun x y H Q=>Fv x y=true∧Q (.bl (decide (x=y))) H
def rNe:R2:=fun x y H Q=>Fv x y=true∧Q (.bl (!decide (x=y))) H
theorem j26{i j:Int}:decide (V.int i=V.int j)=(i==j):=by rw[Bool.eq_iff_iff];simp
theorem j5t{i j:Bool}:decide (V.bl i=V.bl j)=(i==j):=by rw[Bool.eq_iff_iff];simp
theorem j25{i j:Str}:decide (V.str i=V.str j)=(i==j):=by rw[Bool.eq_iff_iff];simp
theorem j27{i j:Array UInt8}:decide (V.byt i=V.byt j)=(i.toList==j.toList):=by rw[Bool.eq_iff_iff];cases i;cases j;simp
section
variable{X:Cx}{a b c:Expr}{ta tb tc:TE}{pos:Pos}
theorem jq{pins:k87}{σ:St}{H:Hp}{s:Shared}{Q:VK}{k k':Bool}(I:Inv X pins σ H s)(q:Q (.bl k) H)(e:k=k'):EP X pins σ Q (.bool k') s:=by subst e;exact⟨.bl k,H,I,rfl,q⟩
theorem j9t:OpR X (compareOp .Eq) rEq:=by
 intro pins s σ H x y v u Q I rx ry h;obtain⟨hs,q⟩:=h;cases x with
 |non =>
  cases rx;cases y with
  |non=>cases ry;exact PySem.EqNone.eq_none_none (jq I q (by simp))
  |bl j=>cases ry;exact PySem.EqNone.eq_none_bool (jq I q (by simp))
  |int j=>obtain⟨t',rfl⟩:=ry;exact PySem.EqNone.eq_none_int (jq I q (by simp))
  |str j=>obtain⟨t',rfl⟩:=ry;exact PySem.EqNone.eq_none_str (jq I q (by simp))
  |_=>exact absurd (show false=true from hs) xg
 |bl i =>
  cases rx;cases y with
  |non=>cases ry;exact PySem.EqNone.eq_bool_none (jq I q (by simp))
  |bl j=>cases ry;exact eq_bool (jq I q j5t)
  |str j=>obtain⟨t',rfl⟩:=ry;exact PySem.EqMixed.eq_bool_str (jq I q (by simp))
  |_=>exact absurd (show false=true from hs) xg
 |int i =>
  obtain⟨t,rfl⟩:=rx;cases y with
  |non=>cases ry;exact PySem.EqNone.eq_int_none (jq I q (by simp))
  |int j=>obtain⟨t',rfl⟩:=ry;exact eq_int (jq I q j26)
  |str j=>obtain⟨t',rfl⟩:=ry;exact PySem.EqMixed.eq_int_str (jq I q (by simp))
  |_=>exact absurd (show false=true from hs) xg
 |str i =>
  obtain⟨t,rfl⟩:=rx;cases y with
  |non=>cases ry;exact PySem.EqNone.eq_str_none (jq I q (by simp))
  |bl j=>cases ry;exact PySem.EqMixed.eq_str_bool (jq I q (by simp))
  |int j=>obtain⟨t',rfl⟩:=ry;exact PySem.EqMixed.eq_str_int (jq I q (by simp))
  |str j=>obtain⟨t',rfl⟩:=ry;exact eq_str (jq I q j25)
  |_=>exact absurd (show false=true from hs) xg
 |byt i =>
  obtain⟨t,rfl⟩:=rx;cases y with
  |byt j=>obtain⟨t',rfl⟩:=ry;exact W.eq_bytes (jq I q j27)
  |_=>exact absurd (show false=true from hs) xg
 |_=>cases y<;>exact absurd (show false=true from hs) xg
theorem j9o:OpR X (compareOp .NotEq) rNe:=by
 intro pins s σ H x y v u Q I rx ry h;obtain⟨hs,q⟩:=h;cases x with
 |non =>
  cases rx;cases y with
  |non=>cases ry;exact PySem.EqNone.ne_none_none (jq I q (by simp))
  |bl j=>cases ry;exact PySem.EqNone.ne_none_bool (jq I q (by simp))
  |int j=>obtain⟨t',rfl⟩:=ry;exact PySem.EqNone.ne_none_int (jq I q (by simp))
  |str j=>obtain⟨t',rfl⟩:=ry;exact PySem.EqNone.ne_none_str (jq I q (by simp))
  |_=>exact absurd (show false=true from hs) xg
 |bl i =>
  cases rx;cases y with
  |non=>cases ry;exact PySem.EqNone.ne_bool_none (jq I q (by simp))
  |bl j=>cases ry;exact ne_bool (jq I q (congrArg not j5t))
  |str j=>obtain⟨t',rfl⟩:=ry;exact PySem.EqMixed.ne_bool_str (jq I q (by simp))
  |_=>exact absurd (show false=true from hs) xg
 |int i =>
  obtain⟨t,rfl⟩:=rx;cases y with
  |non=>cases ry;exact PySem.EqNone.ne_int_none (jq I q (by simp))
  |int j=>obtain⟨t',rfl⟩:=ry;exact ne_int (jq I q (congrArg not j26))
  |str j=>obtain⟨t',rfl⟩:=ry;exact PySem.EqMixed.ne_int_str (jq I q (by simp))
  |_=>exact absurd (show false=true from hs) xg
 |str i =>
  obtain⟨t,rfl⟩:=rx;cases y with
  |non=>cases ry;exact PySem.EqNone.ne_str_none (jq I q (by simp))
  |bl j=>cases ry;exact PySem.EqMixed.ne_str_bool (jq I q (by simp))
  |int j=>obtain⟨t',rfl⟩:=ry;exact PySem.EqMixed.ne_str_int (jq I q (by simp))
  |str j=>obtain⟨t',rfl⟩:=ry;exact ne_str (jq I q (congrArg not j25))
  |_=>exact absurd (show false=true from hs) xg
 |byt i =>
  obtain⟨t,rfl⟩:=rx;cases y with
  |byt j=>obtain⟨t',rfl⟩:=ry;exact W.ne_bytes (jq I q (congrArg not j27))
  |_=>exact absurd (show false=true from hs) xg
 |_=>cases y<;>exact absurd (show false=true from hs) xg
theorem j9p:OpR X (compareOp .Lt) (rI0 fun i j=>.bl (decide (i<j))):=j31 fun _ _ _ _ _ _ _ q=>lt_int q
theorem j9q:OpR X (compareOp .LtE) (rI0 fun i j=>.bl (decide (i≤j))):=j31 fun _ _ _ _ _ _ _ q=>le_int q
theorem j9r:OpR X (compareOp .Gt) (rI0 fun i j=>.bl (decide (j<i))):=j31 fun _ _ _ _ _ _ _ q=>gt_int q
theorem j9s:OpR X (compareOp .GtE) (rI0 fun i j=>.bl (decide (j≤i))):=j31 fun _ _ _ _ _ _ _ q=>ge_int q
theorem Ci:OpR X (compareOp .Lt) (fun x y H Q=>∃i j,x=.str i∧y=.str j∧Q (.bl (decide (i.cps.toList<j.cps.toList))) H):=by intro pins s σ H x y v u Q I rx ry h;obtain⟨i,j,rfl,rfl,q⟩:=h;obtain⟨t,rfl⟩:=rx;obtain⟨t',rfl⟩:=ry;exact lt_str (jq I q rfl)
theorem Cj:OpR X (compareOp .In) (fun x y H Q=>∃i j,x=.str i∧y=.str j∧Q (.bl (!(Builtin.Str.occurrences j i 0 j.length 1).isEmpty)) H):=by intro pins s σ H x y v u Q I rx ry h;obtain⟨i,j,rfl,rfl,q⟩:=h;obtain⟨t,rfl⟩:=rx;obtain⟨t',rfl⟩:=ry;exact in_str (jq I q rfl)
theorem j1p:OpR X (compareOp .IsNot) (fun x y H Q=>y=.non∧Q (.bl (!decide (x=.non))) H):=by
 intro pins s σ H x y v u Q I rx ry h;obtain⟨rfl,q⟩:=h;cases ry;refine isnot_none_gen (jq I q ?_);cases x<;>first
  |(cases rx;rfl)
  |(obtain⟨t,rfl⟩:=rx;rfl)
theorem qy(b:Expr){op:CmpOp}(h:op≠.In:=by decide)(h2:op≠.NotIn:=by decide):behindInMarks op b=false:=by
 have e1:(op==CmpOp.In)=false:=by cases op<;>first|rfl|exact absurd rfl h
 have e2:(op==CmpOp.NotIn)=false:=by cases op<;>first|rfl|exact absurd rfl h2
 cases b<;>simp[behindInMarks,e1,e2]
theorem Jq{op:CmpOp}{r:R2}(ho:OpR X (compareOp op) r)(ha:PE X a ta)(hb:PE X b tb)(hm:behindInMarks op b=false):PE X (.Compare a [op] [b] pos) (tOp r ta tb):=by intro pins s σ H Q I h;exact wpAny_Compare1 (j8x ha hb I h fun v u s2 x y H2 I2 rx ry q=>ho pins s2 σ H2 x y v u Q I2 rx ry q) hm
def jgl(t:TE):TT:=fun σ H Q=>t σ H fun x H'=>∃k,x=.bl k∧Q k H'
theorem Jp{op:CmpOp}{r:R2}(ho:OpR X (compareOp op) r)(ha:PE X a ta)(hb:PE X b tb)(hm:behindInMarks op b=false):PT X (.Compare a [op] [b] pos) (jgl (tOp r ta tb)):=by
 intro pins s σ H Q I h;refine wpAny_isTrue_Compare1 (thn (ha pins s σ H _ I h) fun v s1 ⟨x,H1,I1,r1,q1⟩=>thn (hb pins s1 σ H1 _ I1 q1) fun u s2 ⟨y,H2,I2,r2,q2⟩ =>
  thn (ho pins s2 σ H2 x y v u _ I2 r1 r2 q2) fun c s3 ⟨z,H3,I3,r3,k,e,q3⟩=>?_) hm
 subst e;cases r3;exact wpAny_truthy_bool ⟨H3,I3,q3⟩
theorem W7:(sizeLine:Nat)<2^63:=by rw[sizeLine_eq];decide
theorem j2z:OpR X (binaryOp .Add) (fun x y H Q=>∃i j,x=.str i∧y=.str j∧i.length+j.length≤sizeLine∧Q (.str (i++j)) H):=by intro pins s σ H x y v u Q I rx ry h;obtain⟨i,j,rfl,rfl,hz,q⟩:=h;obtain⟨t,rfl⟩:=rx;obtain⟨t',rfl⟩:=ry;exact add_str (fun t' tk=>⟨.str (i++j),H,I.tok _,⟨_,rfl⟩,q⟩) hz
theorem vals1{x:V}{us:List Value}(r:Vals [x] us):∃u,us=[u]∧RelV x u:=by
 cases r with
 |cons r1 r2=>cases r2;exact⟨_,rfl,r1⟩
theorem vals2{x y:V}{us:List Value}(r:Vals [x,y] us):∃u w',us=[u,w']∧RelV x u∧RelV y w':=by
 cases r with
 |cons r1 r2 =>
  cases r2 with
  |cons r3 r4=>cases r4;exact⟨_,_,rfl,r1,r3⟩
theorem j6d (hc:X.calm=true):Jj X (.builtin "max") (fun xs H Q=>∃i j,xs=[.int i,.int j]∧Q (.int (if j>i then j else i)) H):=by
 intro pins s σ H xs us Q I r h;obtain⟨i,j,rfl,q⟩:=h;obtain⟨u,w',rfl,⟨t,rfl⟩,⟨t',rfl⟩⟩:=vals2 r;refine max_two_ints (I.ok.hd hc) fun h' tk k=>⟨_,H,I.kept k,?_,q⟩
 by_cases hj:j>i
 ·rw[if_pos hj,if_pos hj];exact⟨_,rfl⟩
 ·rw[if_neg hj,if_neg hj];exact⟨_,rfl⟩
theorem j6b (hc:X.calm=true):Jj X (.builtin "min") (fun xs H Q=>∃i j,xs=[.int i,.int j]∧Q (.int (if j<i then j else i)) H):=by
 intro pins s σ H xs us Q I r h;obtain⟨i,j,rfl,q⟩:=h;obtain⟨u,w',rfl,⟨t,rfl⟩,⟨t',rfl⟩⟩:=vals2 r;refine min_two_ints (I.ok.hd hc) fun h' tk k=>⟨_,H,I.kept k,?_,q⟩
 by_cases hj:j<i
 ·rw[if_pos hj,if_pos hj];exact⟨_,rfl⟩
 ·rw[if_neg hj,if_neg hj];exact⟨_,rfl⟩
theorem j6f:Jj X (.type "int") (fun xs H Q=>(∃i,xs=[.int i]∧Q (.int i) H)∨∃k,xs=[.bl k]∧Q (.int (if k then 1 else 0)) H):=by
 intro pins s σ H xs us Q I r h;rcases h with ⟨i,rfl,q⟩|⟨k,rfl,q⟩
 ·obtain⟨u,rfl,t,rfl⟩:=vals1 r;exact call_int_int ⟨.int i,H,I,⟨_,rfl⟩,q⟩
 ·obtain⟨u,rfl,r1⟩:=vals1 r;cases r1;exact call_int_bool ⟨.int (if k then 1 else 0),H,I.tok _,⟨_,rfl⟩,q⟩
end
end L2
namespace L2
open PySem PySem.Spec PyProof.Rows
structure ObjM(h:Heap)(x dx C:Addr)(mA:k88):Prop where
 obj:h.get? x=some (W.instObj C dx)
 ns:h.Ns1 dx mA
 ne:dx≠x
section
variable{prog:Program}{w:World}{A:Around}{E:k86}{s:Shared}{K:k85}{x dx C f:Addr}{mA:k88}{name:Str}{v:Value}
end
noncomputable def j7c(f:Str)(v:V):List (Str×V)→List (Str×V)
 |[]=>[(f,v)]
 |(g,x)::r=>if g=f then(g,v)::r else(g,x)::j7c f v r
section
variable{P:Program}{w:World}{H H':Hp}{h h':Heap}{a C dx:Addr}{fs fs':List (Str×V)}
end
structure Cls(K:k85)(C:Addr):Prop where
 pg:W.plainGet K C Str.empty=true
 hd:W.hasDictIn K C=true
 po:W.plainOver K C=true
 sa:W.findIn K (.ref C) "__setattr__" = some (some (.builtin "object.__setattr__"))
structure Con(K:k85)(C:Addr)(f:Str)(v:V)(u:Value):Prop where
 at_:W.findIn K (.ref C) f=some (some u)
 rel:RelV v u
 get:W.specialIn K u "__get__" = some none
 cp:W.copiedNames.contains f=false
structure Meth(K:k85)(C:Addr)(m:Str)(f:Addr):Prop where
 at_:W.findIn K (.ref C) m=some (some (.ref f))
 fn:W.isFn K (.ref f)=true
 kp:W.keepIn K (.ref f)=true
section
variable{X:Cx}{pins:k87}{σ:St}{H:Hp}{s:Shared}{a C dx:Addr}{fs:List (Str×V)}{f:Str}{v:V}{A:Around}{E:k86}
end
section
variable{X:Cx}{o e value:Expr}{f:Str}{pos pos' tpos:Pos}{ta tv:TE}
end
section
variable{X:Cx}{pins:k87}{σ:St}{H:Hp}{s:Shared}{A:Around}{E:k86}{Q:k86}{c:Value}{b:Bool}
inductive TyOf(K:k85)(H:Hp):V→Value→Prop where
 |non:TyOf K H .non (.type "NoneType")
 |bl (x:Bool):TyOf K H (.bl x) (.type "bool")
 |int (i:Int):TyOf K H (.int i) (.type "int")
 |str (x:Str):TyOf K H (.str x) (.type "str")
 |flt (x:UInt64):TyOf K H (.flt x) (.type "float")
 |lst {a:Addr} {xs:List V} (e:H a=some (.lst xs)):TyOf K H (.ref a) (.type "list")
 |frz {a:Addr} {o:Obj} {xs:List V} (e:H a=some (.frz o (.lst xs))):TyOf K H (.ref a) (.type "list")
 |tup {a:Addr} {xs:List V} (e:H a=some (.tup xs)):TyOf K H (.ref a) (.type "tuple")
 |dK {a:Addr} {kvs:List (Key×V)} (e:H a=some (.dK kvs)):TyOf K H (.ref a) (.type "dict")
 |dT {a:Addr} {kvs:List (List Key×V)} (e:H a=some (.dT kvs)):TyOf K H (.ref a) (.type "dict")
 |ins {a C dx:Addr} {fs:List (Str×V)} (e:H a=some (.ins C dx fs)) (cl:Cls K C) (ha:W.findIn K (.ref C) "__class__" = some (some (.builtin "object.__class__")))
   (hn:W.specialIn K (.builtin "object.__class__") "__get__" = some (some (.builtin "getset_descriptor.__get__"))) (htk:W.takesIn K (.builtin "object.__class__")=some true)
   (hm:W.mroIn K C (.type "object")=some true):TyOf K H (.ref a) (.ref C)
end
end L2
namespace L2
open PySem PySem.Spec PyProof.Rows
structure Room(k:Nat)(A:Around):Prop where
 hd:A.handled=none
 dp:A.depth+3*k+5<recursionLimit
 un:A.units+16*k+200<cLine
theorem Room.mono{j k:Nat}{A:Around}(r:Room k A)(h:j≤k):Room j A:=⟨r.hd,by have:=r.dp;omega,by have:=r.un;omega⟩
theorem Room.deeper{k:Nat}{A:Around}(r:Room (k+1) A)(env:Env):Room k (A.deeper env) :=
 ⟨r.hd,by have:=r.dp;show A.depth+1+3*k+5<_;omega,by have:=r.un;show A.units+3+16*k+200<_;omega⟩
theorem Room.depth{k:Nat}{A:Around}(r:Room k A):A.depth<recursionLimit:=by have:=r.dp;omega
def jic:TA:=fun _ H Q=>Q [] H
def j9g(ta:TE)(tr:TA):TA:=fun σ H Q=>ta σ H fun x H1=>tr σ H1 fun xs H2=>Q (x::xs) H2
section
variable{X:Cx}{e:Expr}{es:List Expr}{te:TE}{t:TA}{pos:Pos}
theorem jw:PA X [] jic:=fun _ _ _ _ H Q I h=>Calls.spliced_nil ⟨[],H,I,.nil,h⟩
theorem jd(ha:PE X e te)(hr:PA X es t)(hs:starEach (e::es) X.env=(false,eval e X.env)::starEach es X.env:=by rfl):PA X (e::es) (j9g te t):=by intro pos pins s σ H Q I h;rw[hs];show wpAny _ _ (spliced ((false,eval e X.env)::backTo pos (starEach es X.env))) _ _ s;refine Calls.spliced_cons (thn (ha pins s σ H _ I h) fun u s1 ⟨x,H1,I1,r1,q1⟩=>?_);exact thn (hr pos pins s1 σ H1 _ I1 q1) fun us s2 ⟨xs,H2,I2,r2,q2⟩=>⟨x::xs,H2,I2,.cons r1 r2,q2⟩
def ji8(t:TA):TE:=fun σ H Q=>t σ H fun xs H1=>xs.length≤sizeLine∧∀p,H1 p=none→Q (.ref p) (upd H1 p (.tup xs))
def jid(t:TA):TE:=fun σ H Q=>t σ H fun xs H1=>xs.length≤sizeLine∧∀p,H1 p=none→Q (.ref p) (upd H1 p (.lst xs))
theorem j4y{x1}(h:PA X es t):PE X (.Tuple es x1 pos) (ji8 t):=by intro pins s σ H Q I hq;refine wpAny_Tuple_spliced (thn (h pos pins s σ H _ I hq) fun us s1 ⟨xs,H1,I1,r,z,q⟩=>⟨by rw[←r.length];exact z,?_⟩);have hf:H1 s1.heap.objs.size=none:=I1.hok.fresh (xx _);refine⟨.ref s1.heap.objs.size,upd H1 s1.heap.objs.size (.tup xs),I1.laid (t':=s1.toks) (fun b u e=>xj _ e) (xx _) ?_,rfl,q _ hf⟩;exact⟨z,us,r,⟨_,X5 _ rfl,rfl,_,rfl⟩,V7.new _ _⟩
theorem jdv(h:PA X es t):PE X (.List es pos) (jid t):=by intro pins s σ H Q I hq;refine wpAny_List_spliced (thn (h pos pins s σ H _ I hq) fun us s1 ⟨xs,H1,I1,r,z,q⟩=>⟨by rw[←r.length];exact z,?_⟩);have hf:H1 s1.heap.objs.size=none:=I1.hok.fresh (xx _);refine⟨.ref s1.heap.objs.size,upd H1 s1.heap.objs.size (.lst xs),I1.laid (t':=s1.toks) (fun b u e=>xj _ e) (xx _) ?_,rfl,q _ hf⟩;exact⟨z,us,0,r,X5 _ rfl⟩
end
abbrev Sp:=List V→Hp→VK→XK→Prop
abbrev CXT:=List Env→Hp→Shared→XK→Value→Shared→Prop
structure Env0(P:Program)(w:World)(K:k85)(mg:k88)(base:Heap)(A:Around)(outer:List Env)(s:Shared)(H:Hp):Prop where
 frames:A.frames=some outer
 mod:Mod K mg base
 bs:∀b o,base.get? b=some o→s.heap.get? b=some o∧H b=none
 bsz:base.objs.size≤s.heap.objs.size
 funs:s.heap.FunFrames base outer
 frf:∀b∈frs outer,H b=none
 hok:HOk P w H s.heap
 bare:AllBare s.gens
def CE(outer:List Env)(P:Program)(w:World)(H:Hp)(s:Shared)(Q:VK)(u:Value)(s':Shared):Prop :=
 ∃v H',s'.os=s.os∧AllBare s'.gens∧Un (frs outer) [] H H' s.heap s'.heap∧HOk P w H' s'.heap∧RelV v u∧Q v H'
def CR(CX:CXT)(outer:List Env)(P:Program)(w:World)(H:Hp)(s:Shared)(Q:VK)(E:XK)(r:Result)(s':Shared):Prop :=
 match r with
 |.ok (.ret u)=>CE outer P w H s Q u s'
 |.ok _=>False
 |.error e=>CX outer H s E e s'
structure FnOk(P:Program)(w:World)(K:k85)(mg:k88)(base:Heap)(CX:CXT)(k:Nat)(f:Addr)(fd:FuncData)(ps:List Str)(sp:Sp):Prop where
 len:∀vs H Q E,sp vs H Q E→vs.length=ps.length
 run:∀(A:Around)(outer:List Env)(s:Shared)(H:Hp)(args:Args)(us:List Value)(vs:List V) (Q:VK) (E:XK),Room k A→Env0 P w K mg base A outer s H→BindsTo s fd args (ps.zip us)→Vals vs us→sp vs H Q E →
  codeAny (model P w) A (.call (.ref f) args) (CR CX outer P w H s Q E) s
theorem FnOk.imp{P:Program}{w:World}{K:k85}{mg:k88}{base:Heap}{CX:CXT}{k:Nat}{f:Addr}{fd:FuncData}{ps:List Str}{sp sp':Sp}(F:FnOk P w K mg base CX k f fd ps sp)
  (h:∀vs H Q E,sp' vs H Q E→sp vs H Q E):FnOk P w K mg base CX k f fd ps sp' :=
 ⟨fun vs H Q E q=>F.len vs H Q E (h _ _ _ _ q),fun A outer s H args us vs Q E hr he hb hv hs=>F.run A outer s H args us vs Q E hr he hb hv (h _ _ _ _ hs)⟩
section
variable{X:Cx}{pins:k87}{σ:St}{H:Hp}{s s':Shared}
theorem Inv.env0(I:Inv X pins σ H s):Env0 X.prog X.w X.K X.mg X.base X.A X.stack s H :=
 ⟨I.ok.frames,I.ok.mod,I.bs,Xm I.ok.bsz I.sz,I.stack,I.stkFree,I.hok,I.bare⟩
theorem Inv.after{Q:VK}{u:Value}(I:Inv X pins σ H s)(h:CE X.stack X.prog X.w H s Q u s'):EP X pins σ Q u s':=by obtain⟨v,H',os,bare,un,hok,r,q⟩:=h;obtain⟨hh,g,d,t,os'⟩:=s';obtain rfl:os'=s.os:=os;exact⟨v,H',I.call (h':=hh) (g':=g) (d':=d) (t':=t) (ch:=[]) un hok bare (fun b z=>absurd z (by simp)),r,q⟩
end
def jgq(sp:Sp)(dvs:List V)(E:XK)(t:TA):TE:=fun σ H Q=>t σ H fun vs H1=>sp (vs++dvs) H1 Q E
def Binds(K:k85)(fd:FuncData)(ps:List Str)(ds:List Value):Prop :=
 ∀(s:Shared)(us:List Value),K.In s.heap→(us++ds).length=ps.length→BindsTo s fd ⟨us,[]⟩ (ps.zip (us++ds))
theorem Binds.all{K:k85}{fd:FuncData}{ps:List Str}(h:∀us:List Value,us.length=ps.length→bindArgs fd ⟨us,[]⟩=pure (ps.zip us)):Binds K fd ps []:=fun s us _ hl=>by rw[Xr]at hl ⊢;exact .of_eq (h us hl)
def j0k(CX:CXT)(X:Cx)(E:XK):Prop:=∀(pins:k87) (σ:St) (H:Hp) (s:Shared) (e:Value) (s':Shared),Inv X pins σ H s→CX X.stack H s E e s'→X.xe e s'
section
variable{X:Cx}{CX:CXT}{k:Nat}{f C:Addr}{fd:FuncData}{ps:List Str}{sp:Sp}{dvs:List V}{ds:List Value}{E:XK}{x m:Str}{p pos apos:Pos}{e o:Expr}{es:List Expr}{ta:TE}{t:TA}
theorem jd9{pins:k87}{σ:St}{H:Hp}{s:Shared}{Q:VK}{us:List Value}{vs:List V}(F:FnOk X.prog X.w X.K X.mg X.base CX k f fd ps sp)(hr:Room k X.A)(hb:Binds X.K fd ps ds)(hd:Vals dvs ds)(hx:j0k CX X E)
  (I:Inv X pins σ H s) (r:Vals vs us) (h:sp (vs++dvs) H Q E):wpAny (model X.prog X.w) X.A (call (.ref f) us) (EP X pins σ Q) X.xe s:=by
 have r2:Vals (vs++dvs) (us++ds):=r.append hd;have hl:(us++ds).length=ps.length:=by rw[←r2.length];exact F.len _ _ _ _ h
 refine wpAny_call (codeAny_mono (F.run X.A X.stack s H ⟨us,[]⟩ (us++ds) (vs++dvs) Q E hr I.env0 (hb s us I.kIn hl) r2 h) fun r s' hq=>?_);cases r with
 |error e=>exact hx pins σ H s e s' I hq
 |ok fl =>
  cases fl with
  |ret u=>exact I.after hq
  |next=>exact False.elim hq
  |brk=>exact False.elim hq
  |cont=>exact False.elim hq
theorem Fy(F:FnOk X.prog X.w X.K X.mg X.base CX k f fd ps sp)(hr:Room k X.A)(hg:Gl X x)(hm:X.mg x=some (.ref f))(hk:W.keepIn X.K (.ref f)=true)(hb:Binds X.K fd ps ds)(hd:Vals dvs ds)(hx:j0k CX X E)
  (ha:PA X (e::es) t) (hdb:(x==k89)=false:=by decide) (he:starEach (e::es) X.env=(false,eval e X.env)::starEach es X.env:=by rfl) (hpl:(backTo pos (starEach es X.env)).any (·.1)=false:=by rfl) :
  PE X (.Call (.Name x p) (e::es) [] pos) (jgq sp dvs E t):=by
 intro pins s σ H Q I h;refine wpAny_Call_Name_kw (Zf I hg hm ?_ hdb);refine W.callWith_K (h₀:=X.base) I.ok.mod.kin hk (thn (ha pos pins s σ H _ I h) fun us s1 ⟨vs,H1,I1,r,q⟩=>⟨I1.kIn,?_⟩) he hpl;exact jd9 F hr hb hd hx I1 r q
structure Mk(K:k85)(C f:Addr):Prop where
 makes:W.makesIn K C=true
 init:W.findIn K (.ref C) "__init__" = some (some (.ref f))
 fn:W.isFn K (.ref f)=true
 kp:W.keepIn K (.ref C)=true
end
def PK(X:Cx)(kws:List Keyword)(t:TA):Prop :=
 ∀(pos:Pos)(pins:k87) (s:Shared) (σ:St) (H:Hp) (Q:List V→Hp→Prop),Inv X pins σ H s→t σ H Q→wpAny (model X.prog X.w) X.A (evalAll ((backToKw pos (keywordEach kws X.env)).map (·.2))) (AP X pins σ Q) X.xe s
section
variable{X:Cx}{CX:CXT}{k:Nat}{f C:Addr}{fd:FuncData}{ps ks:List Str}{sp:Sp}{E:XK}{x m:Str}{p pos apos kpos:Pos}{e o:Expr}{es:List Expr}{kws:List Keyword}{te ta:TE}{t tk:TA}{nm:Option Str}
theorem Yn(ha:PE X e te)(hr:PK X kws t):PK X (⟨nm,e,kpos⟩::kws) (j9g te t):=by intro pos pins s σ H Q I h;show wpAny _ _ (evalAll ((do let v ←eval e X.env;standAt pos;pure v)::(backToKw pos (keywordEach kws X.env)).map (·.2))) _ _ s;refine wpAny_evalAll_cons (wpAny_bind (thn (ha pins s σ H _ I h) fun u s1 ⟨x,H1,I1,r1,q1⟩=>wpAny_bind (wpAny_standAt (wpAny_pure ?_))));exact thn (hr pos pins s1 σ H1 _ I1 q1) fun us s2 ⟨xs,H2,I2,r2,q2⟩=>⟨x::xs,H2,I2,.cons r1 r2,q2⟩
structure KBinds(K:k85)(fd:FuncData)(ps ks:List Str)(g:List Value→List Value→List Value)(gV:List V→List V→List V):Prop where
 to:∀(s:Shared)(us ws:List Value),K.In s.heap→(g us ws).length=ps.length→BindsTo s fd ⟨us,ks.zip ws⟩ (ps.zip (g us ws))
 rel:∀{vs:List V}{us:List Value}{zs:List V}{ws:List Value},Vals vs us→Vals zs ws→Vals (gV vs zs) (g us ws)
variable{g:List Value→List Value→List Value}{gV:List V→List V→List V}
end
structure FnScope(N P:List Str)(sc:Scope):Prop where
 kind:sc.kind=.function
 co:sc.isCoroutine=false
 gen:sc.isGenerator=false
 nd:N.Nodup
 pre:N.take P.length=P
 par:∀x∈P,sc.names.lookup x=some .local∨sc.names.lookup x=some .cell
 nofree:∀y∈sc.names,y.2≠.free
theorem Li{kindOf:Str→Option NameKind}{x:Str}:∀{binds:List (Str×Value)} {m:k88},(∀v,(x,v)∉binds)→bindL kindOf binds m x=m x
 |[],_,_=>rfl
 |(n,v)::r,m,h=>by
  unfold bindL;rw[Li fun w hw=>h w (kj _ hw)];split
  ·have:x≠n:=by rintro rfl;exact h v xq
   simp[this]
  ·rfl
theorem Ln{kindOf:Str→Option NameKind}{x:Str}:∀{binds:List (Str×Value)} {m:k88},(∀v,(x,v)∉binds)→bindC kindOf binds m x=m x
 |[],_,_=>rfl
 |(n,v)::r,m,h=>by
  unfold bindC;rw[Ln fun w hw=>h w (kj _ hw)];split
  ·rfl
  ·have:x≠n:=by rintro rfl;exact h v xq
   simp[this]
theorem Lj{kindOf:Str→Option NameKind}{x:Str}{v:Value}:∀{P:List Str}{vs:List Value}{i:Nat}{m:k88},P.Nodup→P[i]?=some x→vs[i]?=some v→kindOf x=some .local →
  bindL kindOf (P.zip vs) m x=some v
 |[],_,_,_,_,h,_,_=>by simp at h
 |_::_,[],_,_,_,_,h,_=>by simp at h
 |p::P,w::vs,0,m,nd,h1,h2,hk=>by simp at h1 h2;subst h1;subst h2;show bindL kindOf ((p,w)::P.zip vs) m p=_;unfold bindL;rw[Li fun v hv=>(Xk.mp nd).1 (List.of_mem_zip hv).1,if_pos hk];simp
 |p::P,w::vs,i+1,m,nd,h1,h2,hk=>by show bindL kindOf ((p,w)::P.zip vs) m x=_;unfold bindL;exact Lj (i:=i) (Xk.mp nd).2 (by simpa using h1) (by simpa using h2) hk
theorem Lp{kindOf:Str→Option NameKind}{x:Str}{v:Value}:∀{P:List Str}{vs:List Value}{i:Nat}{m:k88},P.Nodup→P[i]?=some x→vs[i]?=some v→kindOf x≠some .local →
  bindC kindOf (P.zip vs) m x=some v
 |[],_,_,_,_,h,_,_=>by simp at h
 |_::_,[],_,_,_,_,h,_=>by simp at h
 |p::P,w::vs,0,m,nd,h1,h2,hk=>by simp at h1 h2;subst h1;subst h2;show bindC kindOf ((p,w)::P.zip vs) m p=_;unfold bindC;rw[Ln fun v hv=>(Xk.mp nd).1 (List.of_mem_zip hv).1,if_neg hk];simp
 |p::P,w::vs,i+1,m,nd,h1,h2,hk=>by show bindC kindOf ((p,w)::P.zip vs) m x=_;unfold bindC;exact Lp (i:=i) (Xk.mp nd).2 (by simpa using h1) (by simpa using h2) hk
noncomputable def start(N:List Str)(vs:List V):St:=vs.map some++List.replicate (N.length-vs.length) none
noncomputable def zj(CX:CXT)(P:Program)(w:World)(K:k85)(mg:k88)(base:Heap)(N:List Str)(qual:Str)(scope:Scope)(f:Addr)(cd:Value)(A:Around)(outer:List Env)(s:Shared)(H:Hp)(E:XK):Cx where
 prog:=P
 w:=w
 K:=K
 mg:=mg
 base:=base
 A:=A.deeper (envOfC qual scope s.heap.objs.size f cd)
 N:=N
 s₀:=s
 H₀:=H
 env:=envOfC qual scope s.heap.objs.size f cd
 outer:=outer
 stack:=envOfC qual scope s.heap.objs.size f cd::outer
 ex:=[]
 calm:=true
 fn:=fun _=>true
 pn:=[]
 xe:=fun e s'=>wpAny (model P w) (A.deeper (envOfC qual scope s.heap.objs.size f cd)) (leaving (envOfC qual scope s.heap.objs.size f cd) e) (fun _ s''=>CX outer H s E e s'') (fun e' s''=>CX outer H s E e' s'') s'
theorem j0b{sc:Scope}{n:Nat}{x:Str}(h:sc.names.lookup x=some .cell):∃c,(cellsFrom n sc.names []).lookup x=some c:=by have q:=W.cellsFrom_some sc.names n [] (.inl h);exact Xn.mp q
theorem Cv{CX:CXT}{P:Program}{w:World}{K:k85}{mg:k88}{base:Heap}{N ps:List Str}{qual:Str}{scope:Scope}{f:Addr}{cd:Value}{A:Around}{outer:List Env}{s s1:Shared}{H:Hp}{E:XK}{us:List Value}{vs:List V}
  (S:FnScope N ps scope) (cm:Bool) (hd:cm=true→A.handled=none) (e0:Env0 P w K mg base A outer s H) (hl:vs.length=ps.length) (r:Vals vs us)
  (x:InCallC s s.heap.objs.size (bindL (envOfC qual scope s.heap.objs.size f cd).kindOf (ps.zip us) fun _=>none) (cellsFrom (s.heap.objs.size+1) scope.names []) (bindC (envOfC qual scope s.heap.objs.size f cd).kindOf (ps.zip us) fun _=>none) s1) :
  Inv { zj CX P w K mg base N qual scope f cd A outer s H E with calm:=cm } [] (start N vs) H s1:=by
 have hpl:ps.length≤N.length:=by have:=congrArg List.length S.pre;rw[Xq]at this;omega
 obtain⟨h1,tk,rfl,hk⟩:=x.done;have noA:∀b:Addr,b∉(zj CX P w K mg base N qual scope f cd A outer s H E).ex:=fun b z=>absurd (show b∈([]:List Addr)from z) (by simp);refine⟨⟨e0.mod,S.kind,rfl,rfl,xx _,fun y z c h1 h2=>?_,fun y hy=>?_,fun y c _ h=>?_,hd,Around.frames_deeper e0.frames,.inr ⟨rfl,rfl⟩,fun b z=>absurd z (noA b),e0.bs,e0.bsz,fun b _ _=>noA b,fun b z=>absurd z (noA b),e0.funs,e0.frf⟩,
  rfl,e0.bare,Un.kept hk,⟨_,x.toInCall.ns,fun i y v h1 h2 h3=>?_⟩,fun y c h=>⟨_,x.cell y c h⟩,e0.hok.fresh (xx _),fun y c h=>?_,fun p hp=>absurd (show p∈([]:k87)from hp) (by simp),e0.hok.kept hk,?_⟩
 ·exact name_of_addr x.apart (Pb h1) (Pb h2)
 ·have hy:scope.names.lookup y=some .cell∨scope.names.lookup y=some .free:=hy;rcases hy with hy|hy
  ·exact j0b hy
  ·exact absurd rfl (S.nofree _ (Pb hy))
 ·exact Nat.le_of_lt (x.above y c (Pb h))
 ·have hi:i<vs.length:=by
   unfold start at h2;by_cases hi:i<vs.length
   ·exact hi
   ·rw[List.getElem?_append_right (by simpa using hi)]at h2;rw[List.getElem?_replicate]at h2;split at h2<;>cases h2
  have ha:vs[i]?=some v:=by
   unfold start at h2;rw[Pa (by simpa using hi),X7]at h2;cases e:vs[i]? with
   |none=>rw[e]at h2;cases h2
   |some a=>rw[e]at h2;cases h2;rfl
  obtain⟨u,hu,rv⟩:=r.get ha;have hp:ps[i]?=some y:=by rw[←S.pre,List.getElem?_take_of_lt (by omega)];exact h1
  have ndP:ps.Nodup:=by rw[←S.pre];exact S.nd.sublist (List.take_sublist _ _)
  refine⟨u,rv,?_⟩;rcases S.par y (Xl hp)with k|k
  ·exact .inl ⟨k,Lj ndP hp hu k⟩
  ·obtain⟨c,e⟩:=j0b (n:=s.heap.objs.size+1) k;refine .inr ⟨.inl k,c,e,?_⟩;have q:=x.cell y c e;rw[Lp ndP hp hu (by show scope.names.lookup y≠_;rw[k];decide)]at q;exact q
 ·exact e0.hok.fresh (Nat.le_of_lt (x.above y c (Pb h)))
 ·unfold start;show _=N.length;rw[X6,km,Xp];omega
theorem Inv.extOut{X:Cx}{pins:k87}{σ:St}{H H2:Hp}{s:Shared}(J:Inv X pins σ H s)(x:Ext X H H2 s):HOk X.prog X.w H2 s.heap∧(X.ex=[]→Un X.fs [] X.H₀ H2 X.s₀.heap s.heap):=by
 have old:∀b o,X.s₀.heap.get? b=some o→H2 b=H b:=fun b o e=>(x b).elim id fun⟨y,ob,v,hc,hf,_⟩=>absurd (Xd (xn e) (J.ok.cab y b hf hc)) (Xv _);have trk:∀{b:Addr}{u:HO},H b=some u→H2 b=some u:=fun{b u} e=>(x b).elim (fun z=>z.trans e) fun⟨y,ob,v,hc,_⟩=>by rw[J.freeC y b hc]at e;cases e
 refine⟨fun a o e=>?_,fun hx=>?_⟩
 ·rcases x a with z|⟨y,ob,v,_,_,e2,e3,_⟩
  ·exact(J.hok a o (z▸e)).stay (fun _ _ _ q=>q) (fun _ q=>trk q) (fun _ _ q=>trk q) fun _ _ _ q=>trk q
  ·rw[e2]at e;cases e;exact⟨e3,ob,e3⟩
 ·have nx:∀b,b∉X.ex:=fun b=>by rw[hx];simp
  exact⟨fun b o e n hb _=>J.base.keep b o e n hb (nx b),fun b o e n hb _=>J.base.slot b o e n hb (nx b),fun b o e n _=>(old b o e).trans (J.base.free b o e n (nx b)),fun b o e _=>J.base.there b o e (nx b),
   fun b xs e=>trk (J.base.tups b xs e),fun b o u e=>trk (J.base.frzs b o u e),fun b ps e=>let ⟨m,z⟩:=J.base.tbls b ps e;⟨m,trk z⟩⟩
theorem ja0{CX:CXT}{P:Program}{w:World}{K:k85}{mg:k88}{base:Heap}{k:Nat}{f:Addr}{name qual:Str}{params:Arguments}{body:List Stmt}{scope:Scope}{dV kV doc pm cdv ct oc:Value}{an od:Option Addr}
  {osl:Array (Option Value)} {N ps:List Str} {sp:Sp} (lk:K.lookup f=some ⟨oc,od,.func (W.fnOf name qual params body scope dV kV doc pm an cdv ct),osl⟩) (hcd:W.codeIn K cdv qual=true) (S:FnScope N ps scope)
  (len:∀vs H Q E,sp vs H Q E→vs.length=ps.length)
  (hbody:∀(A:Around)(outer:List Env)(s:Shared)(H:Hp)(vs:List V)(Q:VK)(E:XK),Room k (A.deeper (envOfC qual scope s.heap.objs.size f cdv))→sp vs H Q E →
   ∃t,PSs (zj CX P w K mg base N qual scope f cdv A outer s H E) body t∧t { nx:=fun _ H'=>Q .non H',rt:=Q } (start N vs) H) :
  FnOk P w K mg base CX (k+1) f (W.fnOf name qual params body scope dV kV doc pm an cdv ct) ps sp:=by
 refine⟨len,fun A outer s H args us vs Q E hr e0 hb r hsp=>?_⟩;have hl:=len _ _ _ _ hsp;have KX:K.In s.heap:=e0.mod.kin.keeps fun b o e=>(e0.bs b o e).1;have lim:s.heap.NoLimit:=e0.mod.nolimit.keeps fun b o e=>(e0.bs b o e).1;have hkind:∀y∈ps.zip us,scope.names.lookup y.1=some .local∨(scope.names.lookup y.1=some .cell∧((cellsFrom (s.heap.objs.size+1) scope.names []).lookup y.1).isSome=true):=fun⟨n,v⟩ hy=>by
  rcases S.par n (List.of_mem_zip hy).1 with q|q
  ·exact .inl q
  ·exact .inr ⟨q,W.cellsFrom_some _ _ _ (.inl q)⟩
 refine codeAny_call_function hr.depth (KX _ _ lk) rfl S.co S.gen rfl (W.codeRec_of KX hcd) (hb _ _ _ _ ?_);refine wpAny_newFunctionEnv_cells S.kind hkind fun env he s1 x=>?_;subst he;refine⟨lim.keeps x.toInCall.keep,codeAny_func ?_⟩;obtain⟨t,ht,hq⟩:=hbody A outer s H vs Q E (hr.deeper _) hsp;have I:Inv (zj CX P w K mg base N qual scope f cdv A outer s H E) [] (start N vs) H s1:=Cv S true (fun _=>hr.hd) e0 hl r x;refine wpAny_mono (ht [] s1 (start N vs) H _ I hq) (fun fl s' hs=>?_) fun e s' hs=>hs;have fin:∀{σ':St}{H':Hp}{v:V}{u:Value},Inv (zj CX P w K mg base N qual scope f cdv A outer s H E) [] σ' H' s'→RelV v u→Q v H'→CE outer P w H s Q u s' :=
  fun{σ' H' v u} J rv q=>⟨v,H',J.os,J.bare,J.base,J.hok,rv,q⟩
 cases fl with
 |ret u =>obtain⟨v,σ',H',H2,J,rv,x,q⟩:=hs;exact⟨v,H2,J.os,J.bare,(J.extOut x).2 rfl,(J.extOut x).1,rv,q⟩
 |next =>obtain⟨σ',H',J,q⟩:=hs;exact fin (v:=V.non) (u:=Value.none) J rfl q
 |brk =>obtain⟨_,_,_,q⟩:=hs;exact False.elim q
 |cont =>obtain⟨_,_,_,q⟩:=hs;exact False.elim q
end L2
namespace L2
open PySem PySem.Spec PyProof.Rows
section
variable{X:Cx}{x:Str}{p pos:Pos}{e:Expr}{es:List Expr}{t:TA}{id T:String}{r:List V→Hp→VK→Prop}
def tCB(r:List V→Hp→VK→Prop)(t:TA):TE:=fun σ H Q=>t σ H fun vs H1=>r vs H1 Q
theorem zx (hc:Jj X (.builtin id) r) (hg:Gl X x) (hm:X.mg x=none) (hv:bootBuiltins x=some (.builtin id)) (ha:PA X (e::es) t) (hn:x ≠ "__name__":=by decide) (hdb:(x==k89)=false:=by decide)
  (he:starEach (e::es) X.env=(false,eval e X.env)::starEach es X.env:=by rfl) (hpl:(backTo pos (starEach es X.env)).any (·.1)=false:=by rfl):PE X (.Call (.Name x p) (e::es) [] pos) (tCB r t):=by
 intro pins s σ H Q I h;refine wpAny_Call_Name_kw (Vv I hg hm hv ?_ hn hdb);exact callWith_builtin1 (thn (ha pos pins s σ H _ I h) fun us s1 ⟨vs,H1,I1,r1,q1⟩=>hc pins s1 σ H1 vs us Q I1 r1 q1) he hpl
theorem Rx (hc:Jj X (.type T) r) (hg:Gl X x) (hm:X.mg x=none) (hv:bootBuiltins x=some (.type T)) (ha:PA X (e::es) t) (hn:x ≠ "__name__":=by decide) (hdb:(x==k89)=false:=by decide)
  (he:starEach (e::es) X.env=(false,eval e X.env)::starEach es X.env:=by rfl) (hpl:(backTo pos (starEach es X.env)).any (·.1)=false:=by rfl):PE X (.Call (.Name x p) (e::es) [] pos) (tCB r t):=by
 intro pins s σ H Q I h;refine wpAny_Call_Name_kw (Vv I hg hm hv ?_ hn hdb);exact callWith_type1 (thn (ha pos pins s σ H _ I h) fun us s1 ⟨vs,H1,I1,r1,q1⟩=>hc pins s1 σ H1 vs us Q I1 r1 q1) he hpl
end
end L2
namespace HT
open PySem PyProof.Rows
noncomputable def lexLt:List Int→List Int→Bool
 |[],[]=>false
 |[],_::_=>true
 |_::_,[]=>false
 |x::xs,y::ys=>if x=y then lexLt xs ys else decide (x<y)
theorem j39(x y:Int)(xs ys:List Int):lexLt (x::xs) (y::ys)=if x=y then lexLt xs ys else decide (x<y):=rfl
theorem Lz:lexLt [] []=false:=rfl
theorem Dh(y:Int)(ys:List Int):lexLt [] (y::ys)=true:=rfl
theorem Di(x:Int)(xs:List Int):lexLt (x::xs) []=false:=rfl
theorem j8h(A:Around)(s:Shared)(a:Int)(t:Tok)(c:Int)(u:Tok):∃e,SeqAt.EqAt A s (.int a t) (.int c u) e∧(e=true↔a=c) :=
 ⟨(a==c),SeqAt.EqAt.int_int a t c u,by simp⟩
theorem j79(A:Around)(s:Shared)(a:Int)(t:Tok)(c:Int)(u:Tok)(prog:Program)(w:World)(E:k86)(Q:k86)(h:Q (.bool (decide (a<c))) s) :
  wpAny (model prog w) A (richCompare .Lt (.int a t) (.int c u)) Q E s :=
 (lt_int h:wpAny (model prog w) A (compareOp .Lt (.int a t) (.int c u)) Q E s)
section
open PySem.SeqAt
open PySem.AutoSeq1 (wpAny_loadPart')
open PySem.MeetsSeq PySem.MeetsSeq2 PySem.MeetsSeq3
theorem Lq(l b:Addr)(items items2:Array Value)(n n2:Nat)(dd dd2:Option Addr)(sl sl2:Array (Option Value))(ns ms:List Int)(hi:IntsAre items.toList ns)(hj:IntsAre items2.toList ms) :
  Meets (Builtin.«tuple.__lt__» ⟨[.ref l,.ref b],[]⟩)
   (fun _ R s=>s.heap.get? l=some { cls:=.type "tuple",dict:=dd,data:=.seq items n,slots:=sl }∧s.heap.get? b=some { cls:=.type "tuple",dict:=dd2,data:=.seq items2 n2,slots:=sl2 } ∧
    R (.ok (.ret (.bool (lexLt ns ms)))) s) :=
 .of_wp fun prog w A R s h=>by
  obtain⟨hp,g,d,tk,os⟩:=s;obtain⟨hl,hb,h⟩:=h;have f2:=AutoSeq1.sub_tuple_tuple;have z1:items.size=ns.length:=by rw[←hi.length];simp
  have z2:items2.size=ms.length:=by rw[←hj.length];simp
  wp_walk using wpAny_loadPart' hl,wpAny_loadPart' hb,wpAny_forIn_list _ (fun rest b s'=>b.1=none∧s'=⟨hp,g,d,tk,os⟩∧∃(vs ws:List Value)(ns' ms':List Int),rest=vs.zip ws ∧
   IntsAre vs ns'∧IntsAre ws ms'∧ns'.length+items2.size=ms'.length+items.size∧R (.ok (.ret (.bool (lexLt ns' ms')))) ⟨hp,g,d,tk,os⟩) _
  case turn =>
   rintro⟨y,x⟩ rest b s' ⟨hb',rfl,vs,ws,ns',ms',hz,hvi,hwi,hlen,hR⟩;cases hvi with
   |nil=>rw[List.zip_nil_left]at hz;cases hz
   |cons a t hvi' =>
    cases hwi with
    |nil=>rw[List.zip_nil_right]at hz;cases hz
    |cons c u hwi' =>
     rw[List.zip_cons_cons]at hz;injection hz with hyx hrest;injection hyx with hy hx;subst hy hx;rw[j39]at hR;simp only[X4]at hlen;obtain⟨e,he,hiff⟩:=j8h A.in1 ⟨hp,g,d,tk,os⟩ a t c u;refine wpAny_bind (he prog w _ _ ?_);cases e with
     |true =>
      rw[if_pos (hiff.mp rfl)]at hR
      wp_walk
      exact⟨rfl,rfl,_,_,_,_,hrest,hvi',hwi',by omega,hR⟩
     |false =>
      rw[if_neg (fun q=>absurd (hiff.mpr q) xg)]at hR;have hri:=j79 A.in1 ⟨hp,g,d,tk,os⟩ a t c u prog w
      wp_walk using hri
      exact⟨_,rfl,by simpa using hR⟩
  case fin =>
   rintro⟨b1,b2⟩ s' ⟨hb',rfl,vs,ws,ns',ms',hz,hvi,hwi,hlen,hR⟩;simp only at hb';subst hb';have hv:lexLt ns' ms'=decide (items.size<items2.size):=by
    cases hvi with
    |nil =>
     cases hwi with
     |nil =>simp only[Pn]at hlen;rw[Lz];exact(decide_eq_false (by omega)).symm
     |cons c u hw =>simp only[Pn,X4]at hlen;rw[Dh];exact(decide_eq_true (by omega)).symm
    |cons a t hv =>
     cases hwi with
     |nil =>simp only[Pn,X4]at hlen;rw[Di];exact(decide_eq_false (by omega)).symm
     |cons c u hw =>rw[List.zip_cons_cons]at hz;cases hz
   rw[hv]at hR
   wp_walk
   exact⟨_,rfl,by simpa [Builtin.Tuple.tupleCompareSizes]using hR⟩
  case h =>exact⟨rfl,rfl,items.toList,items2.toList,ns,ms,rfl,hi,hj,by omega,h⟩
end
section
variable{prog:Program}{w:World}{A:Around}{E:k86}{s:Shared}
theorem lt_tupInts{l b:Addr}{items items2:Array Value}{ns ms:List Int}{Q:k86}(hl:IsTup s.heap l items)(hb:IsTup s.heap b items2)(hi:IntsAre items.toList ns)(hj:IntsAre items2.toList ms)
  (hu:A.units<cLine) (h:Q (.bool (lexLt ns ms)) s):wpAny (model prog w) A (compareOp .Lt (.ref l) (.ref b)) Q E s:=by
 obtain⟨⟨cls,dd,data,sl⟩,ho,hc,n,hd⟩:=id hl;obtain⟨⟨cls2,dd2,data2,sl2⟩,ho2,hc2,n2,hd2⟩:=id hb;simp only at hc hd hc2 hd2;subst hc hd hc2 hd2;exact richCompare_meets_room (op:=.Lt) ⟨_,ho,rfl⟩ ⟨_,ho2,rfl⟩ PySem.F.slot_tuple_lt PySem.F.entry_tuple_lt (PySem.F.args_tuple_lt_2 _ _) (Lq l b items items2 n n2 dd dd2 sl sl2 ns ms hi hj)
  ⟨ho,ho2,show Value.bool (lexLt ns ms)≠Value.notImplemented∧Q (.bool (lexLt ns ms)) s from⟨(fun x=>nomatch x),h⟩⟩ hu
theorem cat_tup{t b:Addr}{vs ws:List Value}{Q:k86}(ht:IsTup s.heap t vs.toArray)(hb:IsTup s.heap b ws.toArray)(hv:vs≠[])
  (h1:ws=[]→Q (.ref t) s) (h2:ws≠[]→Q (.ref s.heap.objs.size) { s with heap:=s.heap.push { cls:=.type "tuple",data:=.seq (vs++ws).toArray } })
  (hsz:vs.length+ws.length≤sizeLine):wpAny (model prog w) A (binaryOp .Add (.ref t) (.ref b)) Q E s:=by
 obtain⟨⟨cls,dd,data,sl⟩,ho,hc,n,hd⟩:=id ht;obtain⟨⟨cls2,dd2,data2,sl2⟩,ho2,hc2,n2,hd2⟩:=id hb;simp only at hc hd hc2 hd2;subst hc hd hc2 hd2;have e:vs.toArray++ws.toArray=(vs++ws).toArray:=by simp
 by_cases hw:ws=[]
 ·exact concat_meets ⟨_,ho,rfl⟩ ⟨_,ho2,rfl⟩ noFill_tuple_add seq_tuple_add PySem.F.slot_tuple_add PySem.F.entry_tuple_add (PySem.F.args_tuple_add_2 _ _)
   (tuple_addW1 t b vs.toArray ws.toArray n n2 dd dd2 sl sl2 (by simpa using hv) (by simp[hw])) ⟨ho,ho2,h1 hw⟩
 ·refine concat_meets ⟨_,ho,rfl⟩ ⟨_,ho2,rfl⟩ noFill_tuple_add seq_tuple_add PySem.F.slot_tuple_add PySem.F.entry_tuple_add (PySem.F.args_tuple_add_2 _ _)
   (tuple_addW2 t b vs.toArray ws.toArray n n2 dd dd2 sl sl2 (by simpa using hv) (by simpa using hw) (by rw[X3,X3];exact hsz)) ⟨ho,ho2,?_⟩
  rw[e];exact h2 hw
noncomputable def sIx(n d:Nat):Option Int→Nat
 |none=>d
 |some v=>if v<0 then(v+(n:Int)).toNat else min v.toNat n
theorem sIx_none(n d:Nat):sIx n d none=d:=rfl
theorem sIx_nat(n d k:Nat):sIx n d (some (k:Int))=min k n:=by show(if (k:Int)<0 then((k:Int)+(n:Int)).toNat else min (k:Int).toNat n)=min k n;rw[if_neg (by omega),Xc]
theorem jd8(n d:Nat)(hd:d≤n)(o:Option Int):sIx n d o≤n:=by
 cases o with
 |none=>exact hd
 |some v =>
  show(if v<0 then(v+(n:Int)).toNat else min v.toNat n)≤n;by_cases hv:v<0
  ·rw[if_pos hv];omega
  ·rw[if_neg hv];exact Nat.min_le_right _ _
theorem j2c(v:Int)(n d:Nat):(if v<0 then max (v+(n:Int)) 0 else min v (n:Int))=((sIx n d (some v):Nat):Int):=by
 show(if v<0 then max (v+(n:Int)) 0 else min v (n:Int))=(((if v<0 then(v+(n:Int)).toNat else min v.toNat n):Nat):Int)
 by_cases hv:v<0
 ·simp only[if_pos hv];omega
 ·simp only[if_neg hv];omega
theorem j3w(lo hi:Option Int)(n:Nat):Builtin.Slice.sliceAdjust lo hi 1 (n:Int)=(((sIx n 0 lo:Nat):Int),((sIx n n hi:Nat):Int)):=by
 have h1:¬((1:Int)<0):=by omega
 unfold Builtin.Slice.sliceAdjust;simp only[h1,if_false];refine Prod.ext ?_ ?_
 ·cases lo with
  |none=>rfl
  |some v=>exact j2c v n 0
 ·cases hi with
  |none=>rfl
  |some v=>exact j2c v n n
theorem j2w(i j:Nat):Builtin.Slice.slicePlaces (i:Int) (j:Int) 1=j-i:=by
 unfold Builtin.Slice.slicePlaces;have h1:(1:Int)>0:=by omega
 simp only[h1,if_true,Int.ediv_one];split<;>omega
theorem Bx{v:Value}{o:Option Int}{Q:Option Int→Shared→Prop}(p:IsPart v o)(h:Q o s):wpAny (model prog w) A (Builtin.Slice.slicePartIndex v) Q E s:=by
 cases p with
 |none=>exact slicePart_none h
 |int i t=>exact slicePart_int h
theorem Oh{sl:Addr}{vl vu:Value}{lo hi:Option Int}{n:Nat}{Q:Int×Int×Nat→Shared→Prop}(hs:s.heap.IsSliceOf sl vl vu .none)(pl:IsPart vl lo)(pu:IsPart vu hi)
  (h:Q (((sIx n 0 lo:Nat):Int),1,sIx n n hi-sIx n 0 lo) s):wpAny (model prog w) A (Builtin.Slice.sliceApplied (.ref sl) (pure (n:Int))) Q E s:=by
 obtain⟨os,hos,hcs,hds⟩:=id hs;unfold Builtin.Slice.sliceApplied Builtin.Slice.sliceFields;refine wpAny_bind (wpAny_bind (wpAny_field hos hds (x:=vl) rfl (wpAny_bind (wpAny_field hos hds (x:=vu) rfl (wpAny_bind (wpAny_field hos hds (x:=.none) rfl (wpAny_pure ?_)))))));refine wpAny_bind (slicePart_none ?_);show wpAny _ _ (if ((1:Int)==0)=true then _ else _) _ _ s;rw[if_neg (by decide)];refine wpAny_bind (Bx pl (wpAny_bind (Bx pu (wpAny_bind (wpAny_pure ?_)))));show wpAny _ _ (match Builtin.Slice.sliceAdjust lo hi 1 (n:Int)with|(lo,hi)=>pure (lo,(1:Int),Builtin.Slice.slicePlaces lo hi 1)) _ _ s;rw[j3w lo hi n];show wpAny _ _ (pure (((sIx n 0 lo:Nat):Int),(1:Int),Builtin.Slice.slicePlaces ((sIx n 0 lo:Nat):Int) ((sIx n n hi:Nat):Int) 1)) _ _ s;rw[j2w];exact wpAny_pure h
theorem j7h(xs:Array Value)(i k:Nat):((List.range k).filterMap fun(m:Nat)=>xs[((i:Int)+(m:Int)*1).toNat]?).toArray=((xs.toList.drop i).take k).toArray:=by
 have e:(fun(m:Nat)=>xs[((i:Int)+(m:Int)*1).toNat]?)=fun m=>xs[i+m]?:=by
  funext m
  have:((i:Int)+(m:Int)*1).toNat=i+m:=by omega
  rw[this]
 rw[e];have:=pick_run xs i k;rw[List.filterMap_map]at this;have e2:((fun x=>xs[x]?) ∘ fun x=>i+x)=fun m=>xs[i+m]?:=rfl;rw[e2]at this;rw[this]
theorem getItem_tuple_cut{t sl:Addr}{items:Array Value}{vl vu:Value}{lo hi:Option Int}{Q:k86}(ht:IsTup s.heap t items)(hs:s.heap.IsSliceOf sl vl vu .none)(pl:IsPart vl lo)(pu:IsPart vu hi)
  (hw:¬(sIx items.size 0 lo=0∧sIx items.size items.size hi=items.size))
  (h:Q (.ref s.heap.objs.size) { s with heap:=s.heap.push { cls:=.type "tuple",data:=.seq ((items.toList.drop (sIx items.size 0 lo)).take (sIx items.size items.size hi-sIx items.size 0 lo)).toArray } })
  (hsz:items.size≤sizeLine):wpAny (model prog w) A (getItem (.ref t) (.ref sl)) Q E s:=by
 have htake:sizeOk (.seq ((items.toList.drop (sIx items.size 0 lo)).take (sIx items.size items.size hi-sIx items.size 0 lo)).toArray):=by show((items.toList.drop (sIx items.size 0 lo)).take (sIx items.size items.size hi-sIx items.size 0 lo)).toArray.size≤sizeLine;rw[X3,Xq,Tf,Array.length_toList];omega
 have hj:sIx items.size items.size hi≤items.size:=jd8 _ _ (xx _) hi;obtain⟨os,hos,hcs,hds⟩:=id hs;have hTs:s.TypeIs (.ref sl) "slice":=⟨os,hos,hcs⟩
 unfold getItem
 try with_reducible refine wpAny_holding ?_
 first|refine wpAny_bind (wpAny_pure ?_)|skip
 refine wpAny_bind (wpAny_sequenceKey ht.typeIs (by decide) ?_);refine wpAny_bind (wpAny_callSpecial?_slot (name:=Str.ofString "__getitem__") ht.typeIs slot_tuple_getitem
  (wpAny_call_entry slot_tuple_getitem ht.typeIs entry_tuple_getitem ?_ (args_tuple_getitem _ _)))
 show wpAny _ _ (Builtin.Tuple.tupleItemsOf (.ref t) >>= _) _ _ s;refine wpAny_bind (tupleItemsOf_ ht ?_);refine wpAny_bind (wpAny_typeOf hTs ?_);rw[if_pos (by decide)];refine wpAny_bind (Oh hs pl pu ?_);have hno:¬((((sIx items.size 0 lo:Nat):Int)==0&&(1:Int)==1&&(sIx items.size items.size hi-sIx items.size 0 lo)==items.size)=true):=by intro q;rw[Xb,Xb]at q;have q1:((sIx items.size 0 lo:Nat):Int)=0:=eq_of_beq q.1.1;have q2:sIx items.size items.size hi-sIx items.size 0 lo=items.size:=eq_of_beq q.2;exact hw ⟨by omega,by omega⟩
 show wpAny _ _ (if (((sIx items.size 0 lo:Nat):Int)==0&&(1:Int)==1&&(sIx items.size items.size hi-sIx items.size 0 lo)==items.size)=true then _ else _) _ _ s;rw[if_neg hno,j7h]
 first
  |exact wpAny_bind (m:=Builtin.Tuple.tupleExact _) (wpAny_newObj_type (wpAny_pure ⟨_,rfl,wpAny_pure h⟩) htake)
  |exact wpAny_bind (m:=Builtin.Tuple.tupleExact _) (wpAny_newObj_type (wpAny_bind (wpAny_pure (wpAny_pure ⟨_,rfl,wpAny_pure h⟩))) htake)
  |exact wpAny_bind (wpAny_bind (m:=Builtin.Tuple.tupleExact _) (wpAny_newObj_type (wpAny_pure (wpAny_pure ⟨_,rfl,wpAny_pure h⟩)) htake))
  |exact wpAny_bind (wpAny_bind (m:=Builtin.Tuple.tupleExact _) (wpAny_newObj_type (wpAny_pure ⟨_,rfl,wpAny_pure h⟩) htake))
end
end HT
namespace L2
open PySem PySem.Spec PyProof.Rows
abbrev TO:=St→Hp→(Option Int→Hp→Prop)→Prop
def PO(X:Cx)(e:Option Expr)(t:TO):Prop :=
 ∀(pins:k87) (s:Shared) (σ:St) (H:Hp) (Q:Option Int→Hp→Prop),Inv X pins σ H s→t σ H Q →
  wpAny (model X.prog X.w) X.A (evalPart e X.env) (fun u s'=>∃o H',Inv X pins σ H' s'∧IsPart u o∧Q o H') X.xe s
def jac:TO:=fun _ H Q=>Q none H
def jgm(t:TE):TO:=fun σ H Q=>t σ H fun x H1=>∃i,x=.int i∧Q (some i) H1
theorem intsAre_of{ns:List Int}:∀{us:List Value},Vals (ns.map V.int) us→IntsAre us ns:=by
 induction ns with
 |nil=>intro us r;rw[Pj]at r;cases r;exact .nil
 |cons n ns ih =>
  intro us r;rw[xr]at r;cases r with
  |cons r1 r2 =>obtain⟨t,e⟩:=r1;subst e;exact .cons n t (ih r2)
section
variable{X:Cx}{e:Expr}{te:TE}{lo hi:Option Expr}{tl th:TO}{pos p2:Pos}
theorem jb3:PO X none jac:=by intro pins s σ H Q I h;rw[evalPart_none];exact wpAny_pure ⟨none,H,I,.none,h⟩
theorem jb2(h:PE X e te):PO X (some e) (jgm te):=by intro pins s σ H Q I hw;rw[evalPart_some];refine thn (h pins s σ H _ I hw) fun u s1 ⟨x,H1,I1,r1,q1⟩=>?_;obtain⟨i,rfl,q⟩:=q1;obtain⟨t,rfl⟩:=r1;exact⟨some i,H1,I1,.int i t,q⟩
def SlR(X:Cx)(r:V→Option Int→Option Int→Hp→VK→Prop):Prop :=
 ∀(pins:k87) (s:Shared) (σ:St) (H:Hp) (x:V) (v vl vu:Value) (lo hi:Option Int) (sl:Addr) (Q:VK),Inv X pins σ H s→RelV x v→s.heap.IsSliceOf sl vl vu .none→IsPart vl lo→IsPart vu hi→r x lo hi H Q →
  ∃T id,typeLookup (.type T) "__getitem__" = pure (some (.builtin id))∧s.TypeIs v T∧wpAny (model X.prog X.w) X.A (getItem v (.ref sl)) (EP X pins σ Q) X.xe s
def tSl(r:V→Option Int→Option Int→Hp→VK→Prop)(te:TE)(tl th:TO):TE:=fun σ H Q=>te σ H fun x H1=>tl σ H1 fun l H2=>th σ H2 fun u H3=>r x l u H3 Q
theorem Ot{r:V→Option Int→Option Int→Hp→VK→Prop}(hr:SlR X r)(he:PE X e te)(hl:PO X lo tl)(hu:PO X hi th):PE X (.Subscript e (.Slice lo hi none p2) pos) (tSl r te tl th):=by intro pins s σ H Q I h;refine Subscript_ (thn (he pins s σ H _ I h) fun v s1 ⟨x,H1,I1,r1,q1⟩=>?_);refine wpAny_Slice (thn (hl pins s1 σ H1 _ I1 q1) fun vl s2 ⟨l,H2,I2,pl,q2⟩=>thn (hu pins s2 σ H2 _ I2 q2) fun vu s3 ⟨u,H3,I3,pu,q3⟩=>?_);rw[evalPart_none];refine wpAny_pure ?_;have I4:Inv X pins σ H3 { s3 with heap:=s3.heap.push { cls:=.type "slice",data:=.fields #[vl,vu,.none] } }:=I3.kept (t':=s3.toks) fun b ob q=>xj _ q;obtain⟨T,id,hT,ht,hg⟩:=hr pins { s3 with heap:=s3.heap.push { cls:=.type "slice",data:=.fields #[vl,vu,.none] } } σ H3 x v vl vu l u s3.heap.objs.size Q I4 r1 (Heap.IsSliceOf.new ..) pl pu q3;show wpAny (model X.prog X.w) X.A (subscriptTail e (.Slice lo hi none p2) v (.ref s3.heap.objs.size)) (EP X pins σ Q) X.xe { s3 with heap:=s3.heap.push { cls:=.type "slice",data:=.fields #[vl,vu,.none] } };exact tail_any (ops:=[.ref s3.heap.objs.size,v]) ht hT hg (by with_unfolding_all rfl)
noncomputable def M7(xs:List V)(lo hi:Option Int):List V:=(xs.drop (HT.sIx xs.length 0 lo)).take (HT.sIx xs.length xs.length hi-HT.sIx xs.length 0 lo)
theorem O8(xs:List V)(lo hi:Option Int):(M7 xs lo hi).length≤xs.length:=by unfold M7;rw[Xq,Tf];omega
def jik(K:k85):V→Option Int→Option Int→Hp→VK→Prop:=fun x lo hi H Q=>∃a xs,x=.ref a∧SqT K H a xs ∧
 ¬(HT.sIx xs.length 0 lo=0∧HT.sIx xs.length xs.length hi=xs.length)∧∀p,H p=none→Q (.ref p) (upd H p (.tup (M7 xs lo hi)))
theorem jd1:SlR X (jik X.K):=by
 intro pins s σ H x v vl vu lo hi sl Q I rx hs pl pu h;obtain⟨a,xs,rfl,hx,hw,q⟩:=h;cases rx;obtain⟨its,r,ht,hz⟩:=I.tuple hx;have hlen:its.toArray.size=xs.length:=by rw[X3];exact r.length.symm
 refine⟨"tuple",_,slot_tuple_getitem.lookup,ht.typeIs,?_⟩;refine HT.getItem_tuple_cut ht hs pl pu (by rw[hlen];exact hw) ?_ (by rw[hlen];exact hz);rw[hlen];refine⟨.ref s.heap.objs.size,_,I.laid (t':=s.toks) (o:=.tup (M7 xs lo hi)) (fun b ob q=>xj _ q) (xx _) ?_,rfl,q _ (I.hok.fresh (xx _))⟩;exact⟨Xm (O8 xs lo hi) hz,_,(r.drop (HT.sIx xs.length 0 lo)).take (HT.sIx xs.length xs.length hi-HT.sIx xs.length 0 lo),IsTup.new _ _,V7.new _ _⟩
def jh4(K:k85):R2:=fun x y H Q=>∃a b xs ys,x=.ref a∧y=.ref b∧SqT K H a xs∧SqT K H b ys∧xs≠[]∧xs.length+ys.length≤sizeLine ∧
 (ys=[]→Q (.ref a) H)∧(ys≠[]→∀p,H p=none→Q (.ref p) (upd H p (.tup (xs++ys))))
theorem Vals.nil_iff{xs:List V}{us:List Value}(r:Vals xs us):us=[]↔xs=[]:=by
 cases r with
 |nil=>simp
 |cons _ _=>simp
theorem jbb:OpR X (binaryOp .Add) (jh4 X.K):=by intro pins s σ H x y v u Q I rx ry h;obtain⟨a,b,xs,ys,rfl,rfl,ha,hb,hx,hz,q1,q2⟩:=h;cases rx;cases ry;obtain⟨its,r1,p1,_⟩:=I.tuple ha;obtain⟨its2,r2,p2,_⟩:=I.tuple hb;refine HT.cat_tup p1 p2 (fun z=>hx (r1.nil_iff.mp z)) (fun z=>⟨.ref a,H,I,rfl,q1 (r2.nil_iff.mp z)⟩) (fun z=>?_) (by rw[←r1.length,←r2.length];exact hz);refine⟨.ref s.heap.objs.size,_,I.laid (t':=s.toks) (o:=.tup (xs++ys)) (fun b ob q=>xj _ q) (xx _) ?_,rfl,q2 (fun w=>z (r2.nil_iff.mpr w)) _ (I.hok.fresh (xx _))⟩;exact⟨by rw[X6];exact hz,_,r1.append r2,IsTup.new _ _,V7.new _ _⟩
end
end L2
namespace L2
open PySem PySem.Spec PyProof.Rows
noncomputable def ixN(n:Nat)(i:Int):Option Nat:=if 0≤i then(if i<n then some i.toNat else none)else if -(n:Int)≤i then some (i+n).toNat else none
noncomputable def atI{α:Type}(xs:List α)(i:Int):Option α:=(ixN xs.length i).bind fun j=>xs[j]?
theorem j1u{n:Nat}{i:Int}{j:Nat}(h:ixN n i=some j):seqIndex? i n=some j∧j<n∧-(n:Int)≤i∧i<n:=by
 unfold ixN at h;by_cases h0:0≤i
 ·rw[if_pos h0]at h;by_cases h1:i<n
  ·rw[if_pos h1]at h;have e:i.toNat=j:=Option.some.inj h;exact⟨by rw[seqIndex_of h0 h1,e],by omega,by omega,h1⟩
  ·rw[if_neg h1]at h;cases h
 ·rw[if_neg h0]at h;by_cases h1:-(n:Int)≤i
  ·rw[if_pos h1]at h;have e:(i+n).toNat=j:=Option.some.inj h;exact⟨by rw[seqIndex_neg (by omega) h1,e],by omega,h1,by omega⟩
  ·rw[if_neg h1]at h;cases h
theorem Ds{α:Type}{xs:List α}{i:Int}{v:α}(h:atI xs i=some v):∃j,seqIndex? i xs.length=some j∧xs[j]?=some v∧j<xs.length∧-(xs.length:Int)≤i∧i<xs.length:=by
 unfold atI at h;cases e:ixN xs.length i with
 |none=>rw[e]at h;cases h
 |some j =>rw[e]at h;obtain⟨h1,h2,h3,h4⟩:=j1u e;exact⟨j,h1,h,h2,h3,h4⟩
theorem jcj{α:Type}{xs:List α}{j:Nat}{v:α}(h:xs[j]?=some v):atI xs (j:Int)=some v:=by
 have hj:j<xs.length:=(Xa.mp h).1;have e:ixN xs.length (j:Int)=some j:=by unfold ixN;rw[if_pos (by omega),if_pos (by omega)];simp
 unfold atI;rw[e];exact h
def Yr(b:Expr):Prop:=∀o i,subscripted b false o i=operate [o,i] (getItem o i)
def IxR(X:Cx)(r:R2):Prop :=
 ∀(value slice:Expr)(pins:k87) (s:Shared) (σ:St) (H:Hp) (x y:V) (v u:Value) (Q:VK),Inv X pins σ H s→RelV x v→RelV y u→r x y H Q →
  subscripted slice false v u=operate [v,u] (getItem v u)→wpAny (model X.prog X.w) X.A (subscriptTail value slice v u) (EP X pins σ Q) X.xe s
def MtR(X:Cx)(id:String)(r:V→List V→Hp→VK→Prop):Prop :=
 ∀(pins:k87) (s:Shared) (σ:St) (H:Hp) (x:V) (xs:List V) (v:Value) (us:List Value) (Q:VK),Inv X pins σ H s→RelV x v→Vals xs us→r x xs H Q →
  wpAny (model X.prog X.w) X.A (call (.builtin id) (v::us)) (EP X pins σ Q) X.xe s
section
variable{X:Cx}{a b:Expr}{ta tb:TE}{pos:Pos}
theorem N8{r:R2}(hr:IxR X r)(ha:PE X a ta)(hb:PE X b tb)(hs:Yr b):PE X (.Subscript a b pos) (tOp r ta tb):=by intro pins s σ H Q I h;exact Subscript_ (j8x ha hb I h fun v u s2 x y H2 I2 rx ry q=>hr a b pins s2 σ H2 x y v u Q I2 rx ry q (hs _ _))
def jdj(K:k85):R2:=fun x y H Q=>∃p xs i v,x=.ref p∧y=.int i∧SqL K H p xs∧atI xs i=some v∧Q v H
def jdh(K:k85):R2:=fun x y H Q=>∃p xs i v,x=.ref p∧y=.int i∧SqT K H p xs∧atI xs i=some v∧Q v H
def jdi:R2:=fun x y H Q=>∃z i c,x=.str z∧y=.int i∧z.length≤sizeLine∧atI z.cps.toList i=some c∧Q (.str ⟨#[c]⟩) H
theorem jbp:IxR X (jdj X.K):=by
 intro value slice pins s σ H x y v u Q I rx ry h hs;obtain⟨p,xs,i,z,rfl,rfl,hq,he,q⟩:=h;cases rx;obtain⟨t,rfl⟩:=ry;obtain⟨its,r,pl,hz⟩:=I.list hq;obtain⟨j,h1,h2,h3,h4,h5⟩:=Ds he;obtain⟨w,ew,rw'⟩:=r.get h2;have hl:=r.length;have hn:=W7;have fin:EP X pins σ Q w s:=⟨z,H,I,rw',q⟩
 by_cases h0:0≤i
 ·have hj:i.toNat=j:=by rw[seqIndex_of h0 h5]at h1;exact Option.some.inj h1
  exact item_listR pl.isList h0 (by omega) (by rw[hj];simpa using ew) fin hs
 ·have hj:(i+(its.toArray.size:Int)).toNat=j:=by rw[seqIndex_neg (by omega) h4]at h1;rw[X3,←hl];exact Option.some.inj h1
  exact subscriptTail_builtinR (x:=w) pl.isList.typeIs slot_list_getitem.lookup
   (wpAny_getItem_list_neg (Q:=fun r s'=>r=w∧EP X pins σ Q r s') pl.isList (by omega) (by rw[X3]<;>omega) (by omega) (by rw[hj];simpa using ew) ⟨rfl,fin⟩) hs
theorem j5d:IxR X (jdh X.K):=by
 intro value slice pins s σ H x y v u Q I rx ry h hs;obtain⟨p,xs,i,z,rfl,rfl,hq,he,q⟩:=h;cases rx;obtain⟨t,rfl⟩:=ry;obtain⟨its,r,pl,hz⟩:=I.tuple hq;obtain⟨j,h1,h2,h3,h4,h5⟩:=Ds he;obtain⟨w,ew,rw'⟩:=r.get h2;have hl:=r.length;have hn:=W7;have fin:EP X pins σ Q w s:=⟨z,H,I,rw',q⟩
 exact subscriptTail_builtinR (x:=w) pl.typeIs slot_tuple_getitem.lookup
  (getItem_tuple (j:=j) (Q:=fun r s'=>r=w∧EP X pins σ Q r s') pl (by omega) (by omega) (by rw[X3,←hl];exact h1) (by simpa using ew) ⟨rfl,fin⟩) hs
theorem jeu:IxR X jdi:=by
 intro value slice pins s σ H x y v u Q I rx ry h hs;obtain⟨z,i,c,rfl,rfl,hz,he,q⟩:=h;obtain⟨t,rfl⟩:=rx;obtain⟨t',rfl⟩:=ry;obtain⟨j,h1,h2,h3,h4,h5⟩:=Ds he;have hl:z.cps.toList.length=z.length:=by simp[Str.length]
 rw[hl]at h1 h4 h5;have hn:=W7;exact tail_any (typeIs_str s z t) slot_str_getitem.lookup (getItem_str (c:=c) (by
  have e1:decide (i < -(2^63:Int))=false:=decide_eq_false (by omega)
  have e2:decide (i≥2^63)=false:=decide_eq_false (by omega)
  rw[e1,e2,Bool.or_false]) (by rw[h1];simpa using h2) ⟨.str ⟨#[c]⟩,H,I.tok _,⟨_,rfl⟩,q⟩) hs
theorem j35(its:List Value)(n j:Nat)(u:Value):Obj.mapSeq (·.setIfInBounds j u) { cls:=.type "list",data:=.seq its.toArray n }={ cls:=.type "list",data:=.seq (its.set j u).toArray n }:=by simp[Obj.mapSeq]
theorem Inv.lst{pins:k87}{σ:St}{H:Hp}{s:Shared}{p:Addr}{xs:List V}(I:Inv X pins σ H s)(h:H p=some (.lst xs)) :
  ∃(its:List Value)(n:Nat),Vals xs its∧s.heap.get? p=some { cls:=.type "list",data:=.seq its.toArray n }∧xs.length≤sizeLine:=by
 obtain⟨z,its,n,r,e⟩:=I.hok p _ h;exact⟨its,n,r,e,z⟩
theorem Inv.lstUpd{pins:k87}{σ:St}{H:Hp}{s:Shared}{p:Addr}{xs ys:List V}{its its':List Value}{n n':Nat}{f:Obj→Obj}(I:Inv X pins σ H s)(h:H p=some (.lst xs))
  (ho:s.heap.get? p=some { cls:=.type "list",data:=.seq its.toArray n }) (hf:f { cls:=.type "list",data:=.seq its.toArray n }={ cls:=.type "list",data:=.seq its'.toArray n' }) (r:Vals ys its') (hz:ys.length≤sizeLine) (t:Nat) :
  Inv X pins σ (upd H p (.lst ys)) { s with heap:=s.heap.update p f,toks:=t }:=by
 have e:(s.heap.update p f).get? p=some { cls:=.type "list",data:=.seq its'.toArray n' }:=by rw[Heap.get?_update_self f ho (by rw[hf]<;>rfl),hf]
 refine I.write (x:=p) (e:=p) (by rw[h];trivial) (.inl rfl) (fun b u hb q=>(Heap.get?_update_other _ _ (Ne.symm hb)).trans q) ⟨_,e⟩ ?_;exact⟨hz,its',n',r,e⟩
def jh3:V→V→V→Hp→(Hp→Prop)→Prop:=fun o i v H Q=>∃p xs k j,o=.ref p∧i=.int k∧H p=some (.lst xs)∧ixN xs.length k=some j∧Q (upd H p (.lst (xs.set j v)))
theorem set_list:jgg X jh3:=by
 intro pins s σ H o i v ov iv u Q I ro ri rv h;obtain⟨p,xs,k,j,rfl,rfl,hp,hj,q⟩:=h;cases ro;obtain⟨t,rfl⟩:=ri;obtain⟨its,n,r,ho,hz⟩:=I.lst hp;obtain⟨h1,h2,h3,h4⟩:=j1u hj;have hl:=r.length;have hn:=W7;have I':Inv X pins σ (upd H p (.lst (xs.set j v))) { s with heap:=s.heap.update p (Obj.mapSeq (·.setIfInBounds j u)) } :=
  I.lstUpd hp ho (j35 its n j u) (r.set rv j) (by rw[T7];exact hz) s.toks
 by_cases h0:0≤k
 ·have hk:k.toNat=j:=by rw[seqIndex_of h0 h4]at h1;exact Option.some.inj h1
  exact W.ki_setAt ho h0 (by omega) (by rw[X3,←hl];exact h4) (by rw[hk];exact⟨_,I',q⟩)
 ·have hk:(k+(its.toArray.size:Int)).toNat=j:=by rw[seqIndex_neg (by omega) h3]at h1;rw[X3,←hl];exact Option.some.inj h1
  exact W.ki_setBack ho (by omega) (by rw[X3,←hl];exact h3) (by omega) (by rw[hk];exact⟨_,I',q⟩)
theorem Kw(lo hi:Option Int)(n:Nat):(sliceBounds lo hi none n).1=((HT.sIx n 0 lo:Nat):Int)∧(sliceBounds lo hi none n).2.1=((HT.sIx n n hi:Nat):Int)∧(sliceBounds lo hi none n).2.2=1:=by
 refine⟨?_,?_,rfl⟩
 ·cases lo with
  |none=>simp[sliceBounds,HT.sIx]
  |some i =>
   simp only[sliceBounds,HT.sIx,Option.getD_none,show(1:Int)>0 by decide,if_true];by_cases h:i<0
   ·simp only[h,if_true]<;>omega
   ·simp only[h,if_false]<;>omega
 ·cases hi with
  |none=>simp[sliceBounds,HT.sIx]
  |some i =>
   simp only[sliceBounds,HT.sIx,Option.getD_none,show(1:Int)>0 by decide,if_true];by_cases h:i<0
   ·simp only[h,if_true]<;>omega
   ·simp only[h,if_false]<;>omega
theorem Lw(its:List Value)(lo hi:Option Int):slicePick its.toArray lo hi none=((its.drop (HT.sIx its.length 0 lo)).take (HT.sIx its.length its.length hi-HT.sIx its.length 0 lo)).toArray:=by obtain⟨h1,h2,h3⟩:=Kw lo hi its.toArray.size;unfold slicePick;rw[h1,h2,h3];simp only[sliceRange_one,pick_run,X3]<;>rfl
def jim(K:k85):V→Option Int→Option Int→Hp→VK→Prop:=fun x lo hi H Q=>∃a xs,x=.ref a∧SqL K H a xs∧∀p,H p=none→Q (.ref p) (upd H p (.lst (M7 xs lo hi)))
theorem jaf:SlR X (jim X.K):=by intro pins s σ H x v vl vu lo hi sl Q I rx hs pl pu h;obtain⟨a,xs,rfl,hx,q⟩:=h;cases rx;obtain⟨its,r,ht,hz⟩:=I.list hx;have hlen:=r.length;refine⟨"list",_,slot_list_getitem.lookup,ht.isList.typeIs,?_⟩;refine wpAny_getItem_list_slice ht.isList hs pl pu .none (by simp) ?_ (by rw[X3]<;>omega);rw[Lw,←hlen];refine⟨.ref s.heap.objs.size,_,I.laid (t':=s.toks) (o:=.lst (M7 xs lo hi)) (fun b ob q=>xj _ q) (xx _) ?_,rfl,q _ (I.hok.fresh (xx _))⟩;exact⟨Xm (O8 xs lo hi) hz,_,0,(r.drop (HT.sIx xs.length 0 lo)).take (HT.sIx xs.length xs.length hi-HT.sIx xs.length 0 lo),X5 _ rfl⟩
theorem M9:Jj X (.builtin "len") (fun xs H Q=>∃p ys,xs=[.ref p]∧(SqL X.K H p ys∨SqT X.K H p ys)∧Q (.int ys.length) H):=by
 intro pins s σ H xs us Q I r h;obtain⟨p,ys,rfl,hq,q⟩:=h;obtain⟨u,rfl,rx⟩:=vals1 r;cases rx;have hn:=W7;rcases hq with hq|hq
 ·obtain⟨its,r',pl,hz⟩:=I.list hq;have hlen:=r'.length;exact Calls.call_len_list pl.isList (by simp only[X3]<;>omega) ⟨.int ys.length,H,I.tok _,⟨s.toks+1,by rw[X3,hlen]⟩,q⟩
 ·obtain⟨its,r',pl,hz⟩:=I.tuple hq;have hlen:=r'.length;exact len_tuple pl (by simp only[X3]<;>omega) ⟨.int ys.length,H,I.tok _,⟨s.toks+1,by rw[X3,hlen]⟩,q⟩
theorem j0d:Jj X (.builtin "len") (fun xs H Q=>∃z,xs=[.str z]∧z.length≤sizeLine∧Q (.int z.length) H):=by intro pins s σ H xs us Q I r h;obtain⟨z,rfl,hz,q⟩:=h;obtain⟨u,rfl,t,rfl⟩:=vals1 r;have hn:=W7;exact len_str (by omega) ⟨.int z.length,H,I.tok _,⟨_,rfl⟩,q⟩
theorem j0c:Jj X (.type "list") (fun xs H Q=>∃p ys,xs=[.ref p]∧(SqL X.K H p ys∨SqT X.K H p ys)∧∀l,H l=none→Q (.ref l) (upd H l (.lst ys))):=by
 intro pins s σ H xs us Q I r h;obtain⟨p,ys,rfl,hq,q⟩:=h;obtain⟨u,rfl,rx⟩:=vals1 r;cases rx;have fin:∀(its:List Value),Vals ys its→ys.length≤sizeLine→∀(h':Heap)(c':Nat),(∀b o',s.heap.get? b=some o'→h'.get? b=some o') →
   h'.get? s.heap.objs.size=some { cls:=.type "list",dict:=none,data:=.seq its.toArray c',slots:=#[] }→EP X pins σ Q (.ref s.heap.objs.size) { s with heap:=h' }:=fun its r' hz h' c' kp e =>
  ⟨.ref s.heap.objs.size,_,I.laid (t':=s.toks) kp (xx _) (show jg X.prog X.w _ h' _ (.lst ys) from⟨hz,its,c',r',e⟩),rfl,q _ (I.hok.fresh (xx _))⟩
 rcases hq with hq|hq
 ·obtain⟨its,r',pl,hz⟩:=I.list hq;have hlen:=r'.length;obtain⟨o,ho,hc,n,hd⟩:=pl.isList;exact call_list_seq p (.inl rfl) ho hc hd (fun h' c' kp e=>fin its r' hz h' c' kp e) (by simp only[X3]<;>omega)
 ·obtain⟨its,r',pl,hz⟩:=I.tuple hq;have hlen:=r'.length;obtain⟨o,ho,hc,n,hd⟩:=pl;exact call_list_seq p (.inr rfl) ho hc hd (fun h' c' kp e=>fin its r' hz h' c' kp e) (by simp only[X3]<;>omega)
theorem K3:Jj X (.type "tuple") (fun xs H Q=>∃p ys,xs=[.ref p]∧((SqL X.K H p ys∧∀l,H l=none→Q (.ref l) (upd H l (.tup ys)))∨(SqT X.K H p ys∧Q (.ref p) H))):=by
 intro pins s σ H xs us Q I r h;obtain⟨p,ys,rfl,h⟩:=h;obtain⟨u,rfl,rx⟩:=vals1 r;cases rx;rcases h with ⟨hq,q⟩|⟨hq,q⟩
 ·obtain⟨its,r',pl,hz⟩:=I.list hq;have hlen:=r'.length;refine call_tuple_list pl.isList (fun h' kp=>?_) (by simp only[X3]<;>omega);have I1:Inv X pins σ H { s with heap:=h' }:=I.kept (t':=s.toks) kp;have I2:Inv X pins σ (upd H h'.objs.size (.tup ys)) { s with heap:=h'.push { cls:=.type "tuple",data:=.seq its.toArray } } :=
   I1.laid (t':=s.toks) (fun b o e=>xj _ e) (xx _) (show jg X.prog X.w _ _ _ (.tup ys) from⟨hz,its,r',IsTup.new _ _,V7.new _ _⟩)
  exact⟨.ref h'.objs.size,_,I2,rfl,q _ (I1.hok.fresh (xx _))⟩
 ·obtain⟨its,r',pl,hz⟩:=I.tuple hq;exact call_tuple_same pl ⟨.ref p,H,I,rfl,q⟩
def tyV(K:k85)(T:String)(x:V)(H:Hp):Prop:=match x with
 |.str _=>T = "str"
 |.int _=>T = "int"
 |.ref p=>(T = "list"∧∃xs,SqL K H p xs)∨(T = "tuple"∧∃xs,SqT K H p xs) ∨
   (T = "dict"∧((∃kvs,H p=some (.dK kvs))∨∃kvs,H p=some (.dT kvs)))∨(T = "set"∧∃S n,H p=some (.set S n))
 |_=>False
theorem jcr{pins:k87}{σ:St}{H:Hp}{s:Shared}{T:String}{x:V}{v:Value}(I:Inv X pins σ H s)(r:RelV x v)(ty:tyV X.K T x H) :
  s.TypeIs v T∧∀a,v=.ref a→∃ob,s.heap.get? a=some ob∧ob.dict=none:=by
 cases x with
 |str z =>obtain⟨t,rfl⟩:=r;cases(show T = "str" from ty);exact⟨typeIs_str s z t,fun _ e=>nomatch e⟩
 |int i =>obtain⟨t,rfl⟩:=r;cases(show T = "int" from ty);exact⟨typeIs_int s i t,fun _ e=>nomatch e⟩
 |ref p =>
  cases r;rcases ty with ⟨rfl,xs,hq⟩|⟨rfl,xs,hq⟩|⟨rfl,hk⟩|⟨rfl,S,n,hk⟩
  ·obtain⟨its,_,pl,_⟩:=I.list hq;refine⟨pl.isList.typeIs,fun a e=>?_⟩;cases e;obtain⟨o,n,e,c,hd,_⟩:=pl;exact⟨o,e,hd⟩
  ·obtain⟨its,_,⟨o,e1,e2,_⟩,_⟩:=I.tuple hq;refine⟨⟨o,e1,e2⟩,fun a e=>?_⟩;cases e;exact⟨o,e1,I.tupD hq o e1⟩
  ·have z:∃o,s.heap.get? p=some o∧o.ExactDict:=by
    rcases hk with ⟨kvs,hk⟩|⟨kvs,hk⟩
    ·obtain⟨_,_,_,_,o,_,_,e,ex,_⟩:=I.hok p _ hk;exact⟨o,e,ex⟩
    ·obtain⟨_,_,_,_,o,_,_,e,ex,_⟩:=I.hok p _ hk;exact⟨o,e,ex⟩
   obtain⟨o,e,ex⟩:=z;refine⟨⟨o,e,ex.1⟩,fun a e2=>?_⟩;cases e2;exact⟨o,e,ex.2.1⟩
  ·obtain⟨o,_,_,_,e,ex,_⟩:=I.hok p _ hk;refine⟨⟨o,e,ex.1⟩,fun a e2=>?_⟩;cases e2;exact⟨o,e,ex.2.1⟩
 |_=>exact False.elim ty
def tBM(K:k85)(T:String)(r:V→List V→Hp→VK→Prop)(to:TE)(t:TA):TE:=fun σ H Q=>to σ H fun x H1=>tyV K T x H1∧t σ H1 fun xs H2=>r x xs H2 Q
variable{o e:Expr}{es:List Expr}{to:TE}{t:TA}{name:Str}{apos cpos:Pos}{T id:String}{r:V→List V→Hp→VK→Prop}
theorem Nb (pa:PlainAttrs T) (slot:Slot T name id) (hty:typeOf (.builtin id)=pure (.type "method_descriptor")) (hm:MtR X id r) (ho:PE X o to) (ha:PA X (e::es) t)
  (hbase:attributeBase o name X.env (eval o X.env)=eval o X.env:=by rfl)
  (hfew:((backTo cpos (starEach (e::es) X.env)).all (fun x=>!x.1)&&(backToKw cpos (keywordEach [] X.env)).all (fun x=>x.1.isSome)
   && decide ((e::es).length+([]:List Keyword).length+(if ([]:List Keyword).isEmpty then 0 else 1)<30))=true:=by rfl)
  (hline:(apos.endLine==cpos.line)=true:=by rfl) (hs:starEach (e::es) X.env=(false,eval e X.env)::starEach es X.env:=by rfl) (hplain:(backTo cpos (starEach es X.env)).any (·.1)=false:=by rfl) :
  PE X (.Call (.Attribute o name apos) (e::es) [] cpos) (tBM X.K T r to t):=by
 intro pins s σ H Q I h;refine wpAny_Call_method_late hbase hfew hline rfl (thn (ho pins s σ H _ I h) fun v s1 ⟨x,H1,I1,r1,ty,q1⟩=>?_);obtain⟨h1,h2⟩:=jcr I1 r1 ty;refine⟨T,id,pa,slot,hty,h1,h2,?_⟩;have hA:=ha cpos pins s1 σ H1 _ I1 q1;rw[hs]at hA ⊢;refine Calls.callWith_builtin (by show(false || (backTo cpos (starEach es X.env)).any (·.1))=false;rw[hplain]<;>rfl) (Calls.evalArgs_plain ?_);exact thn hA fun us s2 ⟨vs,H2,I2,r2,q2⟩=>hm pins s2 σ H2 x vs v us Q I2 r1 r2 q2
/- xs.append(e),list.index on a module's tuple .. are MtR facts of 06m -/
end
end L2
namespace L2
open PySem PySem.Spec PyProof.Rows
def MtM(X:Cx)(id:String)(r:V→List V→Hp→VK→Prop):Prop :=
 ∀(pins:k87) (s:Shared) (σ:St) (H:Hp) (x:V) (xs:List V) (v:Value) (us:List Value) (Q:VK),Inv X pins σ H s→RelV x v→Vals xs us→r x xs H Q →
  wpAny (model X.prog X.w) X.A (call (.builtin id) (v::us)) (EP X pins σ Q) X.xe s
theorem Vals.one{x:V}{us:List Value}(h:Vals [x] us):∃u,us=[u]∧RelV x u:=by cases h with|cons r t=>cases t;exact⟨_,rfl,r⟩
theorem Vals.dropLast{xs:List V}{us:List Value}(h:Vals xs us):Vals xs.dropLast us.dropLast:=by
 induction h with
 |nil=>exact .nil
 |cons r t ih =>
  cases t with
  |nil=>exact .nil
  |cons q t'=>exact .cons r ih
theorem Vals.reverse{xs:List V}{us:List Value}(h:Vals xs us):Vals xs.reverse us.reverse:=by
 induction h with
 |nil=>exact .nil
 |cons r t ih=>rw[List.reverse_cons,List.reverse_cons];exact Vals.append ih (.cons r .nil)
theorem Vals.rep{xs:List V}{us:List Value}(h:Vals xs us):∀k:Nat,Vals (List.replicate k xs).flatten (List.replicate k us).flatten
 |0=>.nil
 |k+1=>by rw[Xu,Xu,t6,t6];exact Vals.append h (Vals.rep h k)
theorem foldl_rep(its:List Value):∀(k:Nat)(acc:List Value),
  List.foldl (fun x1 x2=>x1++x2) acc.toArray (List.replicate k its.toArray)=(acc++(List.replicate k its).flatten).toArray
 |0,acc=>by simp
 |k+1,acc=>by
  have e:acc.toArray++its.toArray=(acc++its).toArray:=by simp
  have e2:(acc++its)++(List.replicate k its).flatten=acc++(List.replicate (k+1) its).flatten:=by rw[Xu,t6,Tq]
  rw[←e2,←foldl_rep its k (acc++its),←e,Xu,List.foldl_cons]
section
variable{X:Cx}{pins:k87}{σ:St}{H:Hp}{s:Shared}{l b:Addr}{xs ys zs:List V}
theorem Inv.lset{its its':List Value}{n:Nat}{f:Array Value→Array Value}{t':Nat}(I:Inv X pins σ H s)(hH:H l=some (.lst xs))
  (e:s.heap.get? l=some { cls:=.type "list",data:=.seq its.toArray n }) (hf:f its.toArray=its'.toArray) (hv:Vals ys its') (hz:ys.length≤sizeLine) :
  Inv X pins σ (upd H l (.lst ys)) { s with heap:=s.heap.update l (Obj.mapSeq f),toks:=t' }:=by
 have q:=PySem.IsL.update e f;rw[hf]at q;refine I.write (x:=l) (e:=l) (by rw[hH];exact trivial) (.inl rfl) (fun b' u hb hu=>(Heap.get?_update_other s.heap (Obj.mapSeq f) (Ne.symm hb)).trans hu) ⟨_,q⟩ ?_;exact⟨hz,its',_,hv,q⟩
theorem Inv.lnew{its:List Value}{t':Nat}(I:Inv X pins σ H s)(hv:Vals ys its)(hz:ys.length≤sizeLine) :
  Inv X pins σ (upd H s.heap.objs.size (.lst ys)) { s with heap:=s.heap.push { cls:=.type "list",data:=.seq its.toArray },toks:=t' } :=
 I.laid (fun _ _ q=>xj _ q) (xx _) ⟨hz,its,0,hv,X5 _ rfl⟩
theorem Inv.fresh(I:Inv X pins σ H s):H s.heap.objs.size=none:=I.hok.fresh (xx _)
theorem Inv.lstM(I:Inv X pins σ H s)(hH:H l=some (.lst xs)):xs.length≤sizeLine∧∃(its:List Value)(n:Nat),Vals xs its∧xs.length=its.length∧s.heap.get? l=some { cls:=.type "list",data:=.seq its.toArray n }:=by obtain⟨z,its,n,r,e⟩:=I.hok l _ hH;exact⟨z,its,n,r,r.length,e⟩
theorem Eb{n:Nat}(h:n≤sizeLine):Builtin.List.listTooLong n=false:=by unfold Builtin.List.listTooLong;exact decide_eq_false (by omega)
end
section
variable{X:Cx}
def jb0:V→List V→Hp→VK→Prop:=fun x vs H Q=>∃l xs y,x=.ref l∧vs=[y]∧H l=some (.lst xs)∧xs.length<sizeLine∧Q .non (upd H l (.lst (xs++[y])))
theorem Cp:MtM X "list.append" jb0:=by intro pins s σ H x vs v us Q I rx rv h;obtain⟨l,xs,y,rfl,rfl,hH,hz,q⟩:=h;cases rx;obtain⟨u,rfl,ru⟩:=rv.one;obtain⟨z,its,n,r,hl,e⟩:=I.lstM hH;refine call_meets F.slot_list_append ⟨_,e,rfl⟩ F.entry_list_append (F.args_list_append_2 _ _) (PySem.list_append l its.toArray n u (by rw[X3];omega)) ⟨e,?_⟩;refine⟨.non,_,I.lset (its':=its++[u]) hH e (by simp) (r.append (.cons ru .nil)) ?_,rfl,q⟩;rw[X6,List.length_singleton];omega
def jaz:V→List V→Hp→VK→Prop:=fun x vs H Q=>∃l b xs zs,x=.ref l∧vs=[.ref b]∧H l=some (.lst xs)∧H b=some (.lst zs)∧xs.length+zs.length≤sizeLine∧Q .non (upd H l (.lst (xs++zs)))
theorem j57:MtM X "list.extend" jaz:=by
 intro pins s σ H x vs v us Q I rx rv h;obtain⟨l,b,xs,zs,rfl,rfl,hH,hB,hz,q⟩:=h;cases rx;obtain⟨u,rfl,ru⟩:=rv.one;cases ru;obtain⟨z,its,n,r,hl,e⟩:=I.lstM hH;obtain⟨z2,its2,n2,r2,hl2,e2⟩:=I.lstM hB;have hsz:its.toArray.size+its2.toArray.size≤sizeLine:=by rw[X3,X3];omega
 have hlong:¬(!its.toArray.isEmpty&&Builtin.List.listTooLong (its.toArray.size+its2.toArray.size))=true:=by rw[Eb hsz,Bool.and_false];exact xg
 refine call_meets F.slot_list_extend ⟨_,e,rfl⟩ F.entry_list_extend (F.args_list_extend_2 _ _)
  (AutoSeq1.list_extend_list_list_0 l its.toArray n b its2.toArray n2 hlong (by rw[X3];omega) (by omega)) ⟨e,e2,?_⟩
 refine⟨.non,_,I.lset (its':=its++its2) hH e (by simp) (r.append r2) ?_,rfl,q⟩;rw[X6];omega
def jio:R2:=fun x y H Q=>∃l k xs,x=.ref l∧y=.int k∧H l=some (.lst xs)∧-(2^63)≤k∧k<2^63∧xs.length*k.toNat≤sizeLine ∧
 ∀p,H p=none→Q (.ref p) (upd H p (.lst (List.replicate k.toNat xs).flatten))
theorem len_rep{α:Type}(xs:List α)(k:Nat):(List.replicate k xs).flatten.length=k*xs.length:=by
 induction k with
 |zero=>simp
 |succ k ih=>rw[Xu,t6,X6,ih,Nat.succ_mul,Nat.add_comm]
theorem je3:OpR X (binaryOp .Mult) jio:=by
 intro pins s σ H x y v u Q I rx ry h;obtain⟨l,k,xs,rfl,rfl,hH,h1,h2,hz,q⟩:=h;cases rx;obtain⟨t,rfl⟩:=ry;obtain⟨z,its,n,r,hl,e⟩:=I.lstM hH;have hlen:its.toArray.size*k.toNat≤sizeLine:=by rw[X3,←hl];exact hz
 have hcap:¬its.toArray.size*k.toNat>(2^63-1)/8:=by
  have:(sizeLine:Nat)≤(2^63-1)/8:=by decide
  omega
 have hfit:¬(!Builtin.List.listFitsIndex k)=true:=by rw[fitsIndex_both h1 h2];exact xg
 have hlong:¬Builtin.List.listTooLong (its.toArray.size*k.toNat)=true:=by rw[Eb hlen];exact xg
 have hnew:List.foldl (fun x1 x2=>x1++x2) #[] (List.replicate (if its.toArray.isEmpty=true then 0 else k.toNat) its.toArray)=(List.replicate k.toNat its).flatten.toArray:=by
  have f0:∀m:Nat,List.foldl (fun x1 x2=>x1++x2) #[] (List.replicate m its.toArray)=(List.replicate m its).flatten.toArray:=fun m=>by have:=foldl_rep its m [];rw[List.nil_append]at this;exact this
  rw[f0];cases its with
  |nil=>simp
  |cons a r'=>rw[if_neg (by simp)]
 refine wpAny_binaryOp_repeat_ref (T:="list") (U:="int") (by decide) ⟨_,e,rfl⟩ (fun s'=>typeIs_int s' k t) noFill_list_mul F.fills_int_mul F.slot_int_rmul repeat_list F.slot_int_index.lookup
  (call_meets F.slot_int_rmul (typeIs_int s k t) F.entry_int_rmul (F.args_int_rmul_2 _ _) (int___rmul___int_list k t l its.toArray n)
   ⟨e,rfl,⟨_,e,rfl⟩,call_meets F.slot_list_mul ⟨_,e,rfl⟩ F.entry_list_mul (F.args_list_mul_2 _ _) (AutoListH.list___mul___list_int_3 l its.toArray n k t hfit hcap hlong) ⟨e,?_⟩⟩)
 rw[hnew];exact⟨.ref _,_,I.lnew (t':=s.toks) (r.rep k.toNat) (by rw[len_rep,Nat.mul_comm];exact hz),rfl,q _ I.fresh⟩
end
section
variable{prog:Program}{w:World}{A:Around}{E:k86}{s:Shared}
end
section
variable{X:Cx}
end
end L2
namespace Att
open PySem PySem.W PySem.Calls PyProof.Rows
theorem Nh{P:Params}{h:Heap}:∀(ns:List Int)(vs:List Value),WellAll P h vs (ns.map WData.int)→IntsAre vs ns:=by
 intro ns;induction ns with
 |nil =>intro vs w;rw[Pj]at w;cases w;exact .nil
 |cons n ns ih =>
  intro vs w;rw[xr]at w;cases w with
  |cons a b =>cases a;exact .cons _ _ (ih _ b)
theorem j4j{l:OpenLaw}{n:Nat}(hn:l.most=some n){P:Params}{h:Heap}{args:List WData}{vals:List Value}
  (hpre:l.row.toRowW.claim.pre args=true) (hwl:WellAll P h vals args) :
  ∃a vs ns,vals=[Value.ref a]∧args=[WData.list (ns.map WData.int)]∧h.get? a=some { cls:=.type "list",data:=.seq vs.toArray }∧IntsAre vs ns∧ns.length≤n:=by
 have hsh:WShape.hasAll [] args [.list .int]=true:=(pre_splitW hpre).1;have hc:l.pre.holds [] { args:=args }=true:=(pre_splitW hpre).2;obtain⟨d,r,rfl,h1,h2⟩:=hasAllW_cons hsh;obtain rfl:=hasAllW_nil h2;obtain⟨xs,rfl,h3⟩:=hasW_list h1;obtain⟨ns,rfl⟩:=items_int h3;have hlen:ns.length≤n:=by
  unfold OpenLaw.pre at hc;have h4:(WTm.not (.lt (.lit (.int (n:Int))) (.len (.arg 0)))).holds [] { args:=[.list (ns.map .int)] }=true:=by have h4:=(holds_andW hc).1;rw[hn]at h4;exact h4
  have h5:=condW_of h4 (w_not (w_lt w_lit (w_len_list (w_arg rfl))));rw[km]at h5;refine Nat.le_of_not_lt fun q=>?_;have q':(n:Int)<((ns.length:Nat):Int):=by omega
  first
   |(rw[decide_eq_true q']at h5;exact absurd h5 (by decide))
   |(simp at h5;omega)
 cases hwl with
 |cons w1 w2 =>
  cases w2;cases w1 with
  |list ho hall=>exact⟨_,_,ns,rfl,rfl,ho,Nh ns _ hall,hlen⟩
theorem j4s(l:OpenLaw)(args:List WData):l.row.toRowW.claim.post args (.bool true) args=true :=
 postW_of (r:=l.row.toRowW) (X:=(true==true))
  (show WShape.has [] (.bool true) .bool=true by first|rfl|decide|simp[WShape.has,WShape.arms,WShape.armsAll])
  (show(WTm.eq .res (.lit (.bool true))).value [] { args:=args,res:=some (.bool true),after:=args }=some (.bool (true==true))from w_eq_bool (w_res rfl) w_lit) rfl
theorem attach_call{l:OpenLaw}{n:Nat}{q:Program}{loose:List Str}{XP:(Str→Option Value)→Heap→Prop}{YP:World→Heap→Prop}{d:DefRec}
  (hn:l.most=some n) (hdf:d.params.defaults=[])
  (call:∀(w:World)(s₀ s₁:Shared)(mg mb:k88)(fa:Addr)(o:Obj)(pm cd doc:Value)(a:Addr) (vs:List Value) (ns:List Int),
   Ground q loose [] XP w s₀ mg mb s₁.heap→YP w s₁.heap →
   s₁.heap.get? fa=some o→o.data=.func (docDef d.name d.params d.body d.scope pm cd doc)→s₁.heap.CodeRec cd d.name→mg d.name=some (.ref fa) →
   s₁.heap.get? a=some { cls:=.type "list",data:=.seq vs.toArray }→IntsAre vs ns→ns.length≤n→s₁.gens = #[] →
   codeAny (model l.prog w) callerA (.call (.ref fa) ⟨[.ref a],[]⟩) (fun r s'=>r=.ok (.ret (.bool true))∧OldK s₁.heap s'.heap∧s'.os=s₁.os∧AllBare s'.gens) s₁) :
  WalkO q loose XP YP l.row.toRowW d [] (fun f vs=>PySem.call f vs):=by
 intro w s₀ s₁ mg mb G Y fa o pm cd doc dV kV ho hd hcd hD hmg hg args vals as hpre hlay hrd hwl hlo;obtain rfl:dV=.none:=Dflts.none hD hdf;obtain rfl:kV=.none:=Dflts.noKw hD;obtain⟨a,vs,ns,rfl,rfl,hobj,hints,hlen⟩:=j4j hn hpre hwl;refine enter_call (codeAny_mono (call w s₀ s₁ mg mb fa o pm cd doc a vs ns G Y ho (fd_plain hd) hcd hmg hobj hints hlen hg) fun r s' hq=>?_);obtain⟨rfl,h2,h3,h4⟩:=hq;exact⟨.inl ⟨.bool true,.bool true,[],rfl,fun _=>rfl,.bool true,j4s l _,fun _=>⟨List.Pairwise.nil,fun _ hm=>(nomatch hm)⟩⟩,h2,h3,h4⟩
section
variable{prog:Program}{w:World}{A:Around}{E:k86}{s:Shared}{K:Frag}
end
end Att
namespace L2
open PySem PySem.Spec PyProof.Rows
theorem Dz:∀{vs:List Value}{ns:List Int},IntsAre vs ns→Vals (ns.map V.int) vs
 |_,_,.nil=>.nil
 |_,_,.cons n t h=>.cons ⟨t,rfl⟩ (Dz h)
def Only(ts:List (Addr×Str))(H:Hp):Prop:=(∀b,H b=none∨(∃o xs,H b=some (.frz o (.lst xs)))∨∃q,(b,q)∈ts∧H b=some (.cod q))∧∀t∈ts,H t.1=some (.cod t.2)
def j9c(ts:List (Addr×Str))(h:Heap):Prop:=(ts.map (·.1)).Nodup∧∀t∈ts,(∃c,PySem.W.CodeHd h c t.1)∧h.get? t.1=some (W.tabObj #[])
theorem j1d:∀{ts:List (Addr×Str)} {b:Addr} {q:Str},ts.lookup b=some q→(b,q)∈ts
 |p::r,b,q,h=>by
  rw[Xi]at h;cases e:b==p.1 with
  |true=>rw[e]at h;cases h;rw[beq_iff_eq.mp e];exact xq ..
  |false=>rw[e]at h;exact kj _ (j1d h)
theorem lookup_tab:∀{ts:List (Addr×Str)},(ts.map (·.1)).Nodup→∀t∈ts,ts.lookup t.1=some t.2
 |[],_,_,h=>by cases h
 |p::r,nd,t,ht=>by
  rw[xr]at nd;rcases xm.mp ht with e|ht
  ·subst e;rw[Xi,beq_self_eq_true]
  ·have ne:(t.1==p.1)=false:=beq_eq_false_iff_ne.mpr fun z=>(Xk.mp nd).1 (z▸List.mem_map_of_mem ht);rw[Xi,ne];exact lookup_tab (Xk.mp nd).2 t ht
theorem j7t{P:Program}{w:World}{K:k85}{mg mb:k88}{CX:CXT}{k:Nat}{fa a:Addr}{fd:FuncData}{x:Str}{sp:Sp}{s₁:Shared}{vs:List Value}{ns:List Int}{ts:List (Addr×Str)}
  (KX:K.In s₁.heap) (hns:s₁.heap.Ns mainGlobals mg) (hb:s₁.heap.Ns builtinsNs mb) (hbb:∀x:Str,x ≠ "__name__"→mb x=bootBuiltins x) (hlim:s₁.heap.NoLimit)
  (hbm:∃bm ob,mg "__builtins__" = some (.ref bm)∧bm≠builtinsNs∧s₁.heap.get? bm=some ob∧ob.cls=.type "module"∧ob.dict=some builtinsNs∧ob.data=.plain) (hT:j9c ts s₁.heap) (hK0:W.noTabs K=true) (hg:s₁.gens = #[])
  (ha:s₁.heap.get? a=some { cls:=.type "list",data:=.seq vs.toArray }) (hi:IntsAre vs ns) (hl:ns.length≤sizeLine) (hr:Room k callerA)
  (F:∀base:Heap,K.In base→base.Ns mainGlobals mg→FnOk P w K mg base CX k fa fd [x] sp) (hbind:∀(s:Shared)(u:Value),BindsTo s fd ⟨[u],[]⟩ [(x,u)])
  (hsp:∀H:Hp,Only ts H→SqL K H a (ns.map V.int)→sp [.ref a] H (fun v H'=>v=.bl true∧∀b o,H b=some o→H' b=some o) fun _ _ _=>False)
  (hCX:∀H e s',CX [] H s₁ (fun _ _ _=>False) e s'→False) :
  codeAny (model P w) callerA (.call (.ref fa) ⟨[.ref a],[]⟩) (fun r s'=>r=.ok (.ret (.bool true))∧OldK s₁.heap s'.heap∧s'.os=s₁.os∧AllBare s'.gens) s₁:=by
 have rv:=Dz hi;have lenV:=hi.length;have at_:∀{q:Str}{b:Addr},(b,q)∈ts→s₁.heap.get? b=some (W.tabObj #[]):=fun{q b} h=>(hT.2 _ h).2;have core:∀H:Hp,Only ts H→SqL K H a (ns.map V.int)→HOk P w H s₁.heap→(∀b,H b≠none→b=a∨∃q,(b,q)∈ts)→(H a≠none→K.lookup a=none) →
   codeAny (model P w) callerA (.call (.ref fa) ⟨[.ref a],[]⟩) (fun r s'=>r=.ok (.ret (.bool true))∧OldK s₁.heap s'.heap∧s'.os=s₁.os∧AllBare s'.gens) s₁:=by
  intro H hO hS hok hA hK;have base_of:∀{b:Addr}{o:Obj},s₁.heap.get? b=some o→H b=none→(Wo s₁.heap H).get? b=some o:=fun e n=>j84 e n;have noA:∀{b:Addr}{o:Obj},s₁.heap.get? b=some o→(∀vs n,o.data≠.seq vs n)→(∀vs,o.data≠.fields vs)→H b=none:=fun{b o} e d d2=>by
   cases q:H b with
   |none=>rfl
   |some u =>
    rcases hA b (by rw[q];simp)with e'|⟨q',e'⟩
    ·subst e';rw[ha]at e;cases e;exact absurd rfl (d _ _)
    ·rw[at_ e']at e;cases e;exact absurd rfl (d2 _)
  have nsK:∀{b:Addr}{m:k88},s₁.heap.Ns b m→(Wo s₁.heap H).Ns b m:=fun{b m} ⟨o,es,ep,e,d,r⟩=>⟨o,es,ep,base_of e (noA e (fun _ _ z=>by rw[d]at z;cases z) fun _ z=>by rw[d]at z;cases z),d,r⟩
  have hKb:K.In (Wo s₁.heap H):=fun b o e=>base_of (KX b o e) (by
   cases q:H b with
   |none=>rfl
   |some u =>
    rcases hA b (by rw[q];simp)with e'|⟨q',e'⟩
    ·subst e'
     rw[hK (by rw[q];simp)]at e;cases e
    ·have e2:=KX b o e
     rw[at_ e']at e2
     have h2:=Xo.mp hK0 (b,o) (W.mem_of_lookupK e)
     cases e2
     exact absurd (show false=true from h2) xg)
  have hM:Mod K mg (Wo s₁.heap H):=⟨hKb,nsK hns,⟨mb,nsK hb,hbb⟩,(let ⟨mc,h1,h2⟩:=hlim;⟨mc,nsK h1,h2⟩),
   let ⟨bm,ob,b1,b2,b3,b4,b5,b6⟩:=hbm;⟨bm,ob,b1,b2,base_of b3 (noA b3 (fun _ _ z=>by rw[b6]at z;cases z) fun _ z=>by rw[b6]at z;cases z),b4,b5,b6⟩⟩
  have e0:Env0 P w K mg (Wo s₁.heap H) callerA [] s₁ H:=⟨rfl,hM,fun b o e=>jbd e,Nat.le_of_eq (j5h _ _),trivial,fun b hb=>absurd (show b∈([]:List Addr)from hb) (by simp),hok,.of_eq hg⟩
  refine codeAny_mono ((F _ hKb (nsK hns)).run callerA [] s₁ H ⟨[.ref a],[]⟩ [.ref a] [.ref a] _ _ hr e0 (hbind s₁ (.ref a)) (.cons rfl .nil) (hsp H hO hS)) fun r s' h=>?_;cases r with
  |error e=>exact(hCX H e s' h).elim
  |ok fl =>
   cases fl with
   |next=>exact False.elim h
   |brk=>exact False.elim h
   |cont=>exact False.elim h
   |ret u =>
    obtain⟨v,H',os,bare,un,hok',r',q,sm⟩:=h;have q':v=.bl true:=q;subst q';obtain rfl:u=Value.bool true:=r';have main:∀b o,s₁.heap.get? b=some o→s'.heap.get? b=some o∨((∃q,(b,q)∈ts)∧o=W.tabObj #[]∧∃ps,s'.heap.get? b=some (W.tabObj ps)):=fun b o e=>by
     cases q:H b with
     |none=>exact .inl (un.keep b o e q (by intro z;exact absurd (show b∈([]:List Addr)from z) (by simp)) (by simp))
     |some u =>
      rcases hO.1 b with z|⟨ob,xs,z⟩|⟨q',hq,z⟩
      ·rw[q]at z;cases z
      ·have z2:=un.frzs b ob _ z;obtain⟨e1,_⟩:=hok b _ z;obtain⟨e2,_⟩:=hok' b _ z2;rw[e]at e1;cases e1;exact .inl e2
      ·obtain⟨ps,e2,_⟩:=(show jg P w H' s'.heap b (.cod q')from hok' b _ (sm b _ z))
       rw[at_ hq]at e;exact .inr ⟨⟨q',hq⟩,(Option.some.inj e).symm,ps,e2⟩
    refine⟨rfl,⟨fun b o e=>?_,fun b o e=>?_⟩,os,bare⟩
    ·rcases main b o e with z|⟨⟨q,hq⟩,rfl,ps,z⟩
     ·exact .inl z
     ·obtain⟨c,hc⟩:=(hT.2 _ hq).1;exact .inr (.inl ⟨(hc.tab (at_ hq)).isCodeTable,rfl,#[],ps,rfl,by rw[z,Array.empty_append]⟩)
    ·rcases main b o e with z|⟨_,_,ps,z⟩
     ·exact⟨o,z⟩
     ·exact⟨_,z⟩
 have lkT:∀b q,ts.lookup b=some q→(b,q)∈ts:=fun b q h=>j1d h;have ofT:∀t∈ts,ts.lookup t.1=some t.2:=lookup_tab hT.1;have okT:∀(H:Hp) b q,(b,q)∈ts→jg P w H s₁.heap b (.cod q):=fun H b q h=>⟨#[],at_ h,trivial,fun pos cv z=>by cases z⟩
 cases hk:K.lookup a with
 |some o =>
  have e:=KX a o hk;rw[ha]at e;cases e;refine core (fun b=>(ts.lookup b).map HO.cod) ⟨fun b=>?_,fun t ht=>by show(ts.lookup t.1).map HO.cod=_;rw[ofT t ht];rfl⟩ (.inr ⟨_,vs.toArray,_,hk,rfl,rfl,rfl,by rw[X3,lenV];exact hl,by simpa using rv⟩) (fun b u z=>?_) (fun b z=>?_) fun z=>?_
  ·cases e:ts.lookup b with
   |none=>exact .inl (by show(ts.lookup b).map HO.cod=_;rw[e];rfl)
   |some q=>exact .inr (.inr ⟨q,lkT b q e,by show(ts.lookup b).map HO.cod=_;rw[e];rfl⟩)
  ·obtain⟨q,e,rfl⟩:=P0.mp z;exact okT _ b q (lkT b q e)
  ·cases e:ts.lookup b with
   |none=>exact absurd (by show(ts.lookup b).map HO.cod=_;rw[e];rfl) z
   |some q=>exact .inr ⟨q,lkT b q e⟩
  ·cases e:ts.lookup a with
   |none=>exact absurd (by show(ts.lookup a).map HO.cod=_;rw[e];rfl) z
   |some q=>have:=at_ (lkT a q e);rw[ha]at this;cases this
 |none =>
  have na:∀q,(a,q)∉ts:=fun q h=>by have:=at_ h;rw[ha]at this;cases this
  refine core (fun b=>if b=a then some (.frz { cls:=.type "list",data:=.seq vs.toArray } (.lst (ns.map V.int))) else(ts.lookup b).map HO.cod) ⟨fun b=>?_,fun t ht=>?_⟩ (.inl (.inr ⟨{ cls:=.type "list",data:=.seq vs.toArray },if_pos rfl⟩)) (fun b u z=>?_) (fun b z=>?_) fun _=>hk
  ·by_cases hb:b=a
   ·exact .inr (.inl ⟨_,_,if_pos hb⟩)
   ·cases e:ts.lookup b with
    |none=>exact .inl (by show(if b=a then _ else _)=_;rw[if_neg hb,e];rfl)
    |some q=>exact .inr (.inr ⟨q,lkT b q e,by show(if b=a then _ else _)=_;rw[if_neg hb,e];rfl⟩)
  ·have nb:t.1≠a:=fun z=>na t.2 (z▸ht);show(if t.1=a then _ else _)=_;rw[if_neg nb,ofT t ht];rfl
  ·by_cases hb:b=a
   ·have z':=(if_pos hb).symm.trans z;cases z';subst hb;exact⟨ha,by rw[km];exact hl,vs,_,rv,ha⟩
   ·have z':=(if_neg hb).symm.trans z;obtain⟨q,e,rfl⟩:=P0.mp z';exact okT _ b q (lkT b q e)
  ·by_cases hb:b=a
   ·exact .inl hb
   ·cases e:ts.lookup b with
    |none=>exact absurd (by show(if b=a then _ else _)=_;rw[if_neg hb,e];rfl) z
    |some q=>exact .inr ⟨q,lkT b q e⟩
end L2
namespace L2
open PySem PySem.Spec PyProof.Rows
theorem walk_of{l:PySem.W.OpenLaw}{n k:Nat}{q:Program}{loose:List Str}{XP:(Str→Option Value)→Heap→Prop}{YP:World→Heap→Prop}{d:DefRec}{K:Params→k85}{CX:World→CXT}{sp:World→Sp}{x:Str}{ts:World→List (Addr×Str)}
  (hn:l.most=some n) (hn2:n≤sizeLine) (hdf:d.params.defaults=[]) (hr:Room k callerA)
  (hY:∀(w:World)(h:Heap),YP w h→(K w.params).In h∧j9c (ts w) h) (hK0:∀w:World,W.noTabs (K w.params)=true)
  (F:∀(w:World)(mg:k88)(fa:Addr)(h:Heap),(K w.params).In h→h.Ns mainGlobals mg→mg d.name=some (.ref fa) →
   ∃fd:FuncData,(∀(s:Shared)(u:Value),BindsTo s fd ⟨[u],[]⟩ [(x,u)]) ∧
    ∀base:Heap,(K w.params).In base→base.Ns mainGlobals mg→FnOk l.prog w (K w.params) mg base (CX w) k fa fd [x] (sp w))
  (hsp:∀(w:World)(H:Hp)(a:Addr)(ns:List Int),ns.length≤n→Only (ts w) H→SqL (K w.params) H a (ns.map V.int)→sp w [.ref a] H (fun v H'=>v=.bl true∧∀b o,H b=some o→H' b=some o) fun _ _ _=>False)
  (hCX:∀(w:World)(H:Hp)(s:Shared)(e:Value)(s':Shared),CX w [] H s (fun _ _ _=>False) e s'→False) :
  PySem.W.WalkO q loose XP YP l.row.toRowW d [] (fun f vs=>PySem.call f vs):=by
 refine Att.attach_call hn hdf fun w s₀ s₁ mg mb fa o pm cd doc a vs ns G Y ho hd hcd hmg hobj hints hlen hg=>?_;obtain⟨KX,hT⟩:=hY w _ Y;obtain⟨fd,hb,hF⟩:=F w mg fa _ KX G.T.g hmg;exact j7t KX G.T.g G.T.b G.T.builtins G.T.nolimit G.T.bmain hT (hK0 w) hg hobj hints (Xm hlen hn2) hr hF hb (fun H hO hS=>hsp w H a ns hlen hO hS) fun H e s'=>hCX w H s₁ e s'
end L2
/- THE LAST THEOREM (shape;LID,My.* are yours):
 My.Adr: a structure of the addresses that your layer names (classes,functions);My.Txt K t: a structure (Prop) of the equations over K;
 My.txt_mk:{K} {implicit addresses ..} (e1:nsIn K mainGlobals "law" = some (some (.ref f))) (e2:K.lookup f=some ⟨oc,od,.func (fnOf "law" "law" params body scope dV kV doc pm an cdv ct),sl⟩) (e3:codeIn K cdv "law" = true) ..:∃t,My.Txt K t
(the tactic k_is has no namespace: write k_is) -/
namespace L2
open PySem PySem.Spec PyProof.Rows
noncomputable def zm(s:Stmt):Arguments:=match s with
 |.FunctionDef _ a _ _ _ _ _ _ _ _=>a
 |_=>{ posonlyargs:=[],args:=[],vararg:=none,kwonlyargs:=[],kw_defaults:=[],kwarg:=none,defaults:=[] }
noncomputable def jl(s:Stmt):List Stmt:=match s with
 |.FunctionDef _ _ b _ _ _ _ _ _ _=>b
 |_=>[]
noncomputable def j7(s:Stmt):Scope:=match s with
 |.FunctionDef _ _ _ _ _ _ sc _ _ _=>sc
 |_=>{ kind:=.function,names:=[],isGenerator:=false,isCoroutine:=false }
noncomputable abbrev CX0:CXT:=fun _ _ _ _ _ _=>False
noncomputable abbrev E0:XK:=fun _ _ _=>False
theorem j2x{X:Cx}:j0k CX0 X E0:=fun _ _ _ _ _ _ _ h=>h.elim
structure Fun(K:k85)(x qual:Str)(st:Stmt)(f:Addr)(fd:FuncData):Prop where
 ex:∃(oc:Value)(od:Option Addr)(dV kV doc pm:Value)(an:Option Addr)(cdv ct:Value)(osl:Array (Option Value)),
  fd=W.fnOf x qual (zm st) (jl st) (j7 st) dV kV doc pm an cdv ct∧K.lookup f=some ⟨oc,od,.func fd,osl⟩∧W.codeIn K cdv qual=true
 kp:W.keepIn K (.ref f)=true
section
variable{P:Program}{w:World}{K:k85}{mg:k88}{base:Heap}
theorem Fun.binds{x qual:Str}{st:Stmt}{f:Addr}{kV doc pm:Value}{an:Option Addr}{cdv ct:Value}{ps:List Str}(F:Fun K x qual st f (W.fnOf x qual (zm st) (jl st) (j7 st) .none kV doc pm an cdv ct))
  (h:∀(kV doc pm:Value)(an:Option Addr)(cdv ct:Value)(us:List Value),us.length=ps.length→bindArgs (W.fnOf x qual (zm st) (jl st) (j7 st) .none kV doc pm an cdv ct) ⟨us,[]⟩=pure (ps.zip us)):Binds K (W.fnOf x qual (zm st) (jl st) (j7 st) .none kV doc pm an cdv ct) ps []:=.all (h kV doc pm an cdv ct)
theorem W9{x qual:Str}{st:Stmt}{f:Addr}{oc:Value}{od an:Option Addr}{osl:Array (Option Value)}{dV kV doc pm cdv ct:Value}(l:K.lookup f=some ⟨oc,od,.func (W.fnOf x qual (zm st) (jl st) (j7 st) dV kV doc pm an cdv ct),osl⟩)
  (c:W.codeIn K cdv qual=true) (k:W.keepIn K (.ref f)=true):Fun K x qual st f (W.fnOf x qual (zm st) (jl st) (j7 st) dV kV doc pm an cdv ct):=⟨⟨oc,od,dV,kV,doc,pm,an,cdv,ct,osl,rfl,l,c⟩,k⟩
end
section
variable{X:Cx}
end
theorem Ep{A B:Prop}(h:B):if false=true then A else B:=by rw[if_neg xg];exact h
theorem Eo{A B:Prop}(h:A):if true=true then A else B:=by rw[if_pos rfl];exact h
def j0(H H':Hp):Prop:=∀b o,H b=some o→H' b=some o
theorem j0.refl(H:Hp):j0 H H:=fun _ _ h=>h
theorem j0.trans{H H1 H2:Hp}(a:j0 H H1)(b:j0 H1 H2):j0 H H2:=fun c o h=>b c o (a c o h)
theorem j0.free{H H':Hp}(e:j0 H H'){l:Addr}(h:H' l=Option.none):H l=Option.none:=by
 cases q:H l with
 |none=>rfl
 |some o =>rw[e l o q]at h;cases h
theorem j0.seq{K:k85}{H H':Hp}{a:Addr}{xs:List V}(e:j0 H H')(h:SqL K H a xs):SqL K H' a xs:=by
 rcases h with (h|⟨o,h⟩)|h
 ·exact .inl (.inl (e _ _ h))
 ·exact .inl (.inr ⟨o,e _ _ h⟩)
 ·exact .inr h
end L2
end
section
namespace L2
open PySem PySem.Spec PyProof.Rows
set_option genInjectivity true in
inductive D where
 |non
 |bl (b:Bool)
 |int (i:Int)
 |str (x:Str)
 |tup (ds:List D)
 |lst (ds:List D)
 |dct (ks:List (List Int)) (ds:List D)
 |sct (kvs:List (Str×Int))
 |fn (x:Str) (cs:List D)
noncomputable def kvI(kvs:List (Str×Int)):List (Key×V):=kvs.map fun p=>(.inr p.1,.int p.2)
noncomputable def jo(x:Str):Str:=x ++ ".<locals>." ++ "<lambda>"
noncomputable abbrev Tx:=Arguments×Expr×Scope
noncomputable def jir:Expr→Option Tx
 |.Lambda a b sc _=>some (a,b,sc)
 |.Call _ es _ _=>match es.getLast? with
  |some (.Lambda a b sc _)=>some (a,b,sc)
  |_=>none
 |_=>none
noncomputable def Ba(b:List Stmt):Option Tx:=match b.getLast? with
 |some (.Return (some e) _)=>jir e
 |_=>none
noncomputable def Qs(K:k85)(x:Str):Option Tx:=match W.nsIn K mainGlobals x with
 |some (some (.ref f))=>match K.lookup f with
  |some ⟨_,_,.func fd,_⟩=>match fd.body with
   |.stmts b=>Ba b
   |_=>none
  |_=>none
 |_=>none
noncomputable def zp(sc:Scope):List Str:=((sc.names.filter fun p=>p.2==.free).map (·.1)).reverse
def vf(H:Hp):List Addr→List V→Prop
 |[],vs=>vs=[]
 |c::cs,vs=>∃v r o u,vs=v::r∧H c=some (.frz o (.own 0))∧o.data=.cell (some u)∧RelV v u∧vf H cs r
theorem vf.mono{H H':Hp}(g:j0 H H'):∀{cs:List Addr}{vs:List V},vf H cs vs→vf H' cs vs
 |[],_,h=>h
 |_::_,_,⟨v,r,o,u,e,h,d,rv,l⟩=>⟨v,r,o,u,e,g _ _ h,d,rv,l.mono g⟩
structure LamAt(K:k85)(H:Hp)(x:Str)(a c:Addr)(t:Tx)(cl:List (Str×Addr))(vs:List V):Prop where
 tx:Qs K x=some t
 fo:∃pm ctv,H a=some (.frz (W.kla_obj "<lambda>" (jo x) t.1 t.2.1 t.2.2 cl pm c ctv) (.own 0))
 co:∃oc,H c=some (.frz oc (.own 0))∧Mv oc (jo x)
 nm:cl.map (·.1)=zp t.2.2
 nd:(cl.map (·.2)).Nodup
 cs:vf H (cl.map (·.2)) vs
theorem LamAt.mono{K:k85}{H H':Hp}{x:Str}{a c:Addr}{tx:Tx}{cl:List (Str×Addr)}{vs:List V}(g:j0 H H')(h:LamAt K H x a c tx cl vs):LamAt K H' x a c tx cl vs :=
 ⟨h.tx,let ⟨pm,ctv,e⟩:=h.fo;⟨pm,ctv,g _ _ e⟩,let ⟨oc,e,q⟩:=h.co;⟨oc,g _ _ e,q⟩,h.nm,h.nd,h.cs.mono g⟩
noncomputable def del(H:Hp)(A:List Addr):Hp:=fun b=>if b∈A then none else H b
section
variable{H H' F:Hp}{A A':List Addr}{a b:Addr}{o:HO}
theorem q8(h:b∈A):del H A b=none:=if_pos h
theorem j5(h:b∉A):del H A b=H b:=if_neg h
theorem of_del(h:del H A b=some o):b∉A∧H b=some o:=by
 by_cases e:b∈A
 ·rw[q8 e]at h;cases h
 ·rw[j5 e]at h;exact⟨e,h⟩
theorem je(g:j0 H H'):j0 (del H A) (del H' A):=fun b o h=>by obtain⟨n,e⟩:=of_del h;rw[j5 n];exact g b o e
end
theorem j0.seqT{K:k85}{H H':Hp}{a:Addr}{xs:List V}(e:j0 H H')(h:SqT K H a xs):SqT K H' a xs:=by
 rcases h with (h|⟨o,h⟩)|h
 ·exact .inl (.inl (e _ _ h))
 ·exact .inl (.inr ⟨o,e _ _ h⟩)
 ·exact .inr h
mutual
def Enc(K:k85)(H:Hp):D→V→Prop
 |.non,v=>v=.non
 |.bl b,v=>v=.bl b
 |.int i,v=>v=.int i
 |.str x,v=>v=.str x
 |.tup ds,v=>∃a xs,v=.ref a∧SqT K H a xs∧j4 K H ds xs
 |.lst ds,v=>∃a xs,v=.ref a∧SqL K H a xs∧j4 K H ds xs
 |.dct ks ds,v=>∃(a:Addr)(xs:List (List Int×Addr×Value)) (ep:Nat) (vs:List V),v=.ref a∧H a=some (.dI xs ep)∧ks=(xs.map fun x=>x.1)∧(∀x∈xs,SqT K H x.2.1 (x.1.map V.int))∧Vals vs (xs.map fun x=>x.2.2)∧j4 K H ds vs
 |.sct kvs,v=>∃a:Addr,v=.ref a∧H a=some (.dK (kvI kvs))
 |.fn x ds,v=>∃(a c:Addr)(tx:Tx)(cl:List (Str×Addr)) (vs:List V),v=.ref a∧LamAt K H x a c tx cl vs∧j4 K (del H (cl.map (·.2))) ds vs
def j4(K:k85)(H:Hp):List D→List V→Prop
 |[],xs=>xs=[]
 |d::ds,xs=>∃x r,xs=x::r∧Enc K H d x∧j4 K H ds r
end
mutual
theorem Enc.mono{K:k85}{H H':Hp}(g:j0 H H'):∀{d:D}{v:V},Enc K H d v→Enc K H' d v
 |.non,_,h=>h
 |.bl _,_,h=>h
 |.int _,_,h=>h
 |.str _,_,h=>h
 |.tup _,_,⟨a,xs,e,q,l⟩=>⟨a,xs,e,g.seqT q,j4.mono g l⟩
 |.lst _,_,⟨a,xs,e,q,l⟩=>⟨a,xs,e,g.seq q,j4.mono g l⟩
 |.dct _ _,_,⟨a,xs,ep,vs,e,q,ek,kt,rv,l⟩=>⟨a,xs,ep,vs,e,g _ _ q,ek,fun x hx=>g.seqT (kt x hx),rv,j4.mono g l⟩
 |.sct _,_,⟨a,e,q⟩=>⟨a,e,g _ _ q⟩
 |.fn _ _,_,⟨a,c,tx,cl,vs,e,q,l⟩=>⟨a,c,tx,cl,vs,e,q.mono g,j4.mono (je g) l⟩
theorem j4.mono{K:k85}{H H':Hp}(g:j0 H H'):∀{ds:List D}{xs:List V},j4 K H ds xs→j4 K H' ds xs
 |[],_,h=>h
 |_::_,_,⟨x,r,e,h,l⟩=>⟨x,r,e,Enc.mono g h,j4.mono g l⟩
end
section
variable{K:k85}{H H':Hp}{ds ds':List D}{xs ys:List V}
theorem j4.length:∀{ds:List D}{xs:List V},j4 K H ds xs→xs.length=ds.length
 |[],_,h=>by cases h;rfl
 |_::_,_,⟨x,r,e,_,l⟩=>by subst e;simp[j4.length l]
theorem j4.get:∀{ds:List D}{xs:List V}{i:Nat}{d:D},j4 K H ds xs→ds[i]?=some d→∃x,xs[i]?=some x∧Enc K H d x
 |[],_,i,d,_,e=>by simp at e
 |_::_,_,0,d,⟨x,r,e,h,_⟩,q=>by subst e;simp at q;subst q;exact⟨x,rfl,h⟩
 |_::_,_,i+1,d,⟨x,r,e,_,l⟩,q=>by subst e;simp at q;obtain⟨y,hy,hd⟩:=j4.get l q;exact⟨y,by simpa using hy,hd⟩
theorem j4.get':∀{ds:List D}{xs:List V}{i:Nat}{x:V},j4 K H ds xs→xs[i]?=some x→∃d,ds[i]?=some d∧Enc K H d x
 |[],_,i,d,h,e=>by cases h;simp at e
 |d::_,_,0,y,⟨x,r,e,h,_⟩,q=>by subst e;simp at q;subst q;exact⟨d,rfl,h⟩
 |_::_,_,i+1,y,⟨x,r,e,_,l⟩,q=>by subst e;simp at q;obtain⟨y,hy,hd⟩:=j4.get' l q;exact⟨y,by simpa using hy,hd⟩
theorem j4.append:∀{ds ds':List D}{xs ys:List V},j4 K H ds xs→j4 K H ds' ys→j4 K H (ds++ds') (xs++ys)
 |[],_,_,_,h,h'=>by cases h;exact h'
 |_::_,_,_,_,⟨x,r,e,h,l⟩,h'=>by subst e;exact⟨x,_,rfl,h,j4.append l h'⟩
theorem j4.one{d:D}{x:V}(h:Enc K H d x):j4 K H [d] [x]:=⟨x,[],rfl,h,rfl⟩
theorem j4.set:∀{ds:List D}{xs:List V}{i:Nat}{d:D}{x:V},j4 K H ds xs→Enc K H d x→j4 K H (ds.set i d) (xs.set i x)
 |[],_,i,d,x,h,_=>by cases h;exact rfl
 |_::_,_,0,d,y,⟨x,r,e,h,l⟩,q=>by subst e;exact⟨y,r,rfl,q,l⟩
 |_::_,_,i+1,d,y,⟨x,r,e,h,l⟩,q=>by subst e;exact⟨x,_,rfl,h,j4.set l q⟩
theorem j4.take:∀{ds:List D}{xs:List V}(n:Nat),j4 K H ds xs→j4 K H (ds.take n) (xs.take n)
 |[],_,n,h=>by cases h;simp;exact rfl
 |_::_,_,0,⟨x,r,e,h,l⟩=>by simp;exact rfl
 |_::_,_,n+1,⟨x,r,e,h,l⟩=>by subst e;exact⟨x,_,rfl,h,j4.take n l⟩
theorem j4.drop:∀{ds:List D}{xs:List V}(n:Nat),j4 K H ds xs→j4 K H (ds.drop n) (xs.drop n)
 |[],_,n,h=>by cases h;simp;exact rfl
 |_::_,_,0,h=>h
 |_::_,_,n+1,⟨x,r,e,h,l⟩=>by subst e;exact j4.drop n l
theorem j4.rep{ds:List D}{xs:List V}(h:j4 K H ds xs):∀k:Nat,j4 K H (List.replicate k ds).flatten (List.replicate k xs).flatten
 |0=>rfl
 |k+1=>by rw[Xu,Xu,t6,t6];exact h.append (j4.rep h k)
theorem j4.ints(ns:List Int):j4 K H (ns.map D.int) (ns.map V.int):=by
 induction ns with
 |nil=>exact rfl
 |cons n ns ih=>exact⟨_,_,rfl,rfl,ih⟩
end
section
variable{H H' F:Hp}{A A':List Addr}{a b:Addr}{o:HO}
theorem vy:del H []=H:=funext fun b=>if_neg (by simp)
theorem jm:j0 (del H A) H:=fun _ _ h=>(of_del h).2
theorem vq(h:∀b,b∈A'→b∈A):j0 (del H A) (del H A'):=fun b o e=>by obtain⟨n,e⟩:=of_del e;rw[j5 fun z=>n (h b z)];exact e
theorem Wa(h:a∈A):del (upd H a o) A=del H A:=funext fun b=>by
 by_cases e:b∈A
 ·rw[q8 e,q8 e]
 ·rw[j5 e,j5 e,jb];rintro rfl;exact e h
noncomputable def mrg(A:List Addr)(H F:Hp):Hp:=fun b=>if b∈A then H b else F b
theorem J8(h:b∈A):mrg A H F b=H b:=if_pos h
theorem jh(h:b∉A):mrg A H F b=F b:=if_neg h
theorem Yo(h:∀a∈A,F a=none):del (mrg A H F) A=F:=funext fun b=>by
 by_cases e:b∈A
 ·rw[q8 e,h b e]
 ·rw[j5 e,jh e]
theorem Om(g:j0 (del H A) F):j0 H (mrg A H F):=fun b o e=>by
 by_cases z:b∈A
 ·rw[J8 z];exact e
 ·rw[jh z];exact g b o (by rw[j5 z];exact e)
theorem j6(h:H a=none):j0 H (upd H a o):=fun b u q=>by rw[jb (v6 q h)];exact q
end
def Hd(o:Option HO):Prop:=(∃xs,o=some (.lst xs))∨∃xs ep,o=some (.dI xs ep)
section
variable{X:Cx}{pins:k87}{σ σ':St}{H F:Hp}{s s':Shared}{A:List Addr}
theorem Inv.noFs(I:Inv X pins σ H s){b:Addr}(hb:b∈X.fs):H b=none:=by
 have q:b∈frs X.stack:=by
  rcases I.ok.stk with e|⟨e,_⟩
  ·rw[e];exact hb
  ·rw[e];have hb:b∈frs X.outer:=hb;unfold frs at hb ⊢;rw[List.filterMap_cons];split
   ·exact hb
   ·exact kj _ hb
 exact I.stkFree b q
theorem Inv.hide(I:Inv X pins σ H s)(hA:∀a∈A,Hd (H a)):Inv X (pins++Yw A s.heap) σ (del H A) s where
 ok:=I.ok
 os:=I.os
 bare:=I.bare
 base:={
  keep:=I.base.keep
  slot:=I.base.slot
  free:=fun b o e n hx=>by
   have q:=I.base.free b o e n hx
   by_cases z:b∈A
   ·exact q8 z
   ·rw[j5 z];exact q
  there:=I.base.there
  tups:=fun b xs e=>by
   have q:=I.base.tups b xs e
   rw[j5];exact q
   intro z;rcases hA b z with ⟨ys,e'⟩|⟨ys,ep,e'⟩<;>(rw[q]at e';cases e')
  frzs:=fun b o u e=>by
   have q:=I.base.frzs b o u e
   rw[j5];exact q
   intro z;rcases hA b z with ⟨ys,e'⟩|⟨ys,ep,e'⟩<;>(rw[q]at e';cases e')
  tbls:=fun b ps e=>by
   obtain⟨more,q⟩:=I.base.tbls b ps e
   refine⟨more,?_⟩
   rw[j5];exact q
   intro z;rcases hA b z with ⟨ys,e'⟩|⟨ys,ep,e'⟩<;>(rw[q]at e';cases e') }
 loc:=I.loc
 cell:=I.cell
 free:=by
  by_cases z:X.env.locals∈A
  ·exact q8 z
  ·rw[j5 z];exact I.free
 freeC:=fun x c e=>by
  by_cases z:c∈A
  ·exact q8 z
  ·rw[j5 z];exact I.freeC x c e
 pin:=fun p hp=>by
  rw[←Tq]at hp;rcases t7.mp hp with hp|hp
  ·obtain⟨h1,h2,h3⟩:=I.pin p hp;refine⟨h1,?_,h3⟩;by_cases z:p.1∈A
   ·exact q8 z
   ·rw[j5 z];exact h2
  ·obtain⟨h1,h2⟩:=Cm hp;rcases hA _ h1 with ⟨xs,e⟩|⟨xs,ep,e⟩
   ·refine⟨h2,q8 h1,fun z=>?_,fun z=>?_,fun v z=>?_⟩
    ·rw[z,I.free]at e;cases e
    ·rw[I.noFs z]at e;cases e
    ·obtain⟨_,its,n,_,q⟩:=(show jg X.prog X.w H s.heap p.1 (.lst xs)from I.hok _ _ e)
     rw[h2]at q;rw[Option.some.inj q]at z;cases z
   ·refine⟨h2,q8 h1,fun z=>?_,fun z=>?_,fun v z=>?_⟩
    ·rw[z,I.free]at e;cases e
    ·rw[I.noFs z]at e;cases e
    ·obtain⟨_,_,_,ob,es,q,_,qd,_⟩:=(show jg X.prog X.w H s.heap p.1 (.dI xs ep)from I.hok _ _ e)
     rw[h2]at q;rw[Option.some.inj q,qd]at z;cases z
 hok:=fun a o e=>by
  obtain⟨n,e⟩:=of_del e;refine jg.stay (I.hok a o e) (fun b u _ q=>q) (fun b q=>?_) (fun b xs q=>?_) (fun b _ _ q=>?_)
  ·rw[j5];exact q;intro z;rcases hA b z with ⟨ys,e'⟩|⟨ys,ep,e'⟩<;>(rw[q]at e';cases e')
  ·rw[j5];exact q;intro z;rcases hA b z with ⟨ys,e'⟩|⟨ys,ep,e'⟩<;>(rw[q]at e';cases e')
  ·rw[j5];exact q;intro z;rcases hA b z with ⟨ys,e'⟩|⟨ys,ep,e'⟩<;>(rw[q]at e';cases e')
 len:=I.len
theorem Inv.unhide(I0:Inv X pins σ H s)(hA:∀a∈A,Hd (H a))(I:Inv X (pins++Yw A s.heap) σ' F s') :
  (∀a∈A,F a=none)∧Inv X pins σ' (mrg A H F) s':=by
 have pinned:∀a∈A,∃o,s.heap.get? a=some o∧s'.heap.get? a=some o∧F a=none:=fun a ha=>by
  have ob:∃o,s.heap.get? a=some o:=by
   rcases hA a ha with ⟨xs,e⟩|⟨xs,ep,e⟩
   ·obtain⟨_,its,n,_,q⟩:=(show jg X.prog X.w H s.heap a (.lst xs)from I0.hok _ _ e)
    exact⟨_,q⟩
   ·obtain⟨_,_,_,o,es,q,_⟩:=(show jg X.prog X.w H s.heap a (.dI xs ep)from I0.hok _ _ e)
    exact⟨_,q⟩
  obtain⟨o,q⟩:=ob;obtain⟨h1,h2,_⟩:=I.pin (a,_) (Xh _ (Xh _ (Qq ha q)));exact⟨_,q,h1,h2⟩
 have hF:∀a∈A,F a=none:=fun a ha=>let ⟨_,_,_,q⟩:=pinned a ha;q;have out:∀{b:Addr}{o:HO},F b=some o→b∉A:=fun{b o} e z=>by rw[hF b z]at e;cases e
 refine⟨hF,?_⟩;exact{
  ok:=I.ok
  os:=I.os
  bare:=I.bare
  base:={
   keep:=I.base.keep
   slot:=I.base.slot
   free:=fun b o e n hx=>by
    by_cases z:b∈A
    ·rw[J8 z];exact I0.base.free b o e n hx
    ·rw[jh z];exact I.base.free b o e n hx
   there:=I.base.there
   tups:=fun b xs e=>by
    have q:=I.base.tups b xs e
    rw[jh (out q)];exact q
   frzs:=fun b o u e=>by
    have q:=I.base.frzs b o u e
    rw[jh (out q)];exact q
   tbls:=fun b ps e=>by
    obtain⟨more,q⟩:=I.base.tbls b ps e
    exact⟨more,by rw[jh (out q)];exact q⟩ }
  loc:=I.loc
  cell:=I.cell
  free:=by
   by_cases z:X.env.locals∈A
   ·rw[J8 z];exact I0.free
   ·rw[jh z];exact I.free
  freeC:=fun x c e=>by
   by_cases z:c∈A
   ·rw[J8 z];exact I0.freeC x c e
   ·rw[jh z];exact I.freeC x c e
  pin:=fun p hp=>by
   obtain⟨h1,h2,h3⟩:=I.pin p (by rw[←Tq];exact Pz _ hp)
   refine⟨h1,?_,h3⟩
   by_cases z:p.1∈A
   ·rw[J8 z];exact(I0.pin p hp).2.1
   ·rw[jh z];exact h2
  hok:=fun a o e=>by
   by_cases z:a∈A
   ·rw[J8 z]at e
    obtain⟨o',q1,q2,_⟩:=pinned a z
    rcases hA a z with ⟨xs,e'⟩|⟨xs,ep,e'⟩
    ·rw[e']at e;cases e
     obtain⟨hl,its,n,r,q⟩:=(show jg X.prog X.w H s.heap a (.lst xs)from I0.hok _ _ e')
     rw[q]at q1;cases q1
     exact⟨hl,its,n,r,q2⟩
    ·rw[e']at e;cases e
     obtain⟨z1,z2,z3,ob,es,q,z4⟩:=(show jg X.prog X.w H s.heap a (.dI xs ep)from I0.hok _ _ e')
     rw[q]at q1;cases q1
     exact⟨z1,z2,z3,_,es,q2,z4⟩
   ·rw[jh z]at e
    refine jg.stay (I.hok a o e) (fun b u _ q=>q) (fun b q=>?_) (fun b xs q=>?_) (fun b _ _ q=>?_)
    ·rw[jh (out q)];exact q
    ·rw[jh (out q)];exact q
    ·rw[jh (out q)];exact q
  len:=I.len }
end
def Jo(X:Cx)(e:Expr):TE:=fun σ H Q=>∀pins s,Inv X pins σ H s→wpAny (model X.prog X.w) X.A (eval e X.env) (EP X pins σ Q) X.xe s
def j6z(X:Cx)(e:Expr):TT:=fun σ H Q=>∀pins s,Inv X pins σ H s→wpAny (model X.prog X.w) X.A (isTrue e X.env (eval e X.env)) (TP X pins σ Q) X.xe s
def Ol(X:Cx)(es:List Expr):TA:=fun σ H Q=>∀pos pins s,Inv X pins σ H s→wpAny (model X.prog X.w) X.A (spliced (backTo pos (starEach es X.env))) (AP X pins σ Q) X.xe s
def j70(X:Cx)(st:Stmt):TS:=fun D σ H=>∀pins s,Inv X pins σ H s→wpAny (model X.prog X.w) X.A (exec st X.env) (SP X pins D) X.xe s
def N5(X:Cx)(sts:List Stmt):TS:=fun D σ H=>∀pins s,Inv X pins σ H s→wpAny (model X.prog X.w) X.A (execs sts X.env) (SP X pins D) X.xe s
def Ii(X:Cx)(tg iter:Expr):TI:=fun σ H R=>∀pins s,Inv X pins σ H s →
 wpAny (model X.prog X.w) X.A (eval iter X.env) (fun v s1=>wpAny (model X.prog X.w) X.A (pyIter v) (PIE X pins σ tg R) X.xe s1) X.xe s
section
variable{X:Cx}{e tg:Expr}{es:List Expr}{st:Stmt}{sts:List Stmt}{σ:St}{H:Hp}
theorem peS:PE X e (Jo X e):=fun pins s _ _ _ I h=>h pins s I
theorem ptS:PT X e (j6z X e):=fun pins s _ _ _ I h=>h pins s I
theorem paS:PA X es (Ol X es):=fun pos pins s _ _ _ I h=>h pos pins s I
theorem psS:PS X st (j70 X st):=fun pins s _ _ _ I h=>h pins s I
theorem Rv:PSs X sts (N5 X sts):=fun pins s _ _ _ I h=>h pins s I
theorem piS:PI X tg e (Ii X tg e):=fun pins s _ _ _ I h=>h pins s I
theorem PE.to{t:TE}(h:PE X e t){Q:VK}(q:t σ H Q):Jo X e σ H Q:=fun pins s I=>h pins s σ H Q I q
theorem PT.to{t:TT}(h:PT X e t){Q:Bool→Hp→Prop}(q:t σ H Q):j6z X e σ H Q:=fun pins s I=>h pins s σ H Q I q
theorem PA.to{t:TA}(h:PA X es t){Q:List V→Hp→Prop}(q:t σ H Q):Ol X es σ H Q:=fun pos pins s I=>h pos pins s σ H Q I q
theorem PS.to{t:TS}(h:PS X st t){D:Ends}(q:t D σ H):j70 X st D σ H:=fun pins s I=>h pins s σ H D I q
theorem PSs.to{t:TS}(h:PSs X sts t){D:Ends}(q:t D σ H):N5 X sts D σ H:=fun pins s I=>h pins s σ H D I q
theorem PI.to{t:TI}(h:PI X tg e t){R:It→Hp→Prop}(q:t σ H R):Ii X tg e σ H R:=fun pins s I=>h pins s σ H R I q
theorem j2r{A:List Addr}{Q Q':VK}(hA:∀a∈A,Hd (H a))(h:Jo X e σ (del H A) Q')(hq:∀v F,Q' v F→(∀a∈A,F a=none)→Q v (mrg A H F)):Jo X e σ H Q :=
 fun pins s I=>thn (h _ s (I.hide hA)) fun v s' ⟨x,F,I',r,q⟩=>let ⟨n,I2⟩:=I.unhide hA I';⟨x,_,I2,r,hq x F q n⟩
theorem N6{A:List Addr}{R R':It→Hp→Prop}(hA:∀a∈A,Hd (H a))(h:Ii X tg e σ (del H A) R')(hq:∀J F,R' J F→(∀a∈A,F a=none)→R J (mrg A H F)):Ii X tg e σ H R :=
 fun pins s I=>thn (h _ s (I.hide hA)) fun v s' h1=>thn h1 fun itv s2 ⟨it,fp,tn,J,F,e,I',T,t0,fk,q⟩=>by
  obtain⟨n,I2⟩:=I.unhide hA I';refine⟨it,fp,tn,J,_,e,I2,T,t0,fun b hb=>?_,hq J F q n⟩;obtain⟨f0,f1,f2,f3,f4,f5⟩:=fk b hb;refine⟨?_,f1,f2,f3,f4,fun p hp=>f5 p (by rw[←Tq];exact Pz _ hp)⟩;by_cases z:b∈A
  ·exfalso;have ob:∃o,s.heap.get? b=some o:=by
    rcases hA b z with ⟨xs,e⟩|⟨xs,ep,e⟩
    ·obtain⟨_,its,n,_,q⟩:=(show jg X.prog X.w H s.heap b (.lst xs)from I.hok _ _ e)
     exact⟨_,q⟩
    ·obtain⟨_,_,_,o,es,q,_⟩:=(show jg X.prog X.w H s.heap b (.dI xs ep)from I.hok _ _ e)
     exact⟨_,q⟩
   obtain⟨o,q⟩:=ob;exact f5 (b,o) (Xh _ (Xh _ (Qq z q))) rfl
  ·rw[jh z];exact f0
end
end L2
end
section
namespace L2
open PySem PySem.Spec PyProof.Rows
inductive Sl where
 |un
 |val (d:D)
 |own (a:Addr) (ds:List D)
 |raw (a:Addr) (o:Obj) (x:Str)
noncomputable abbrev Rho:=List Sl
noncomputable def Sl.addr:Sl→Option Addr
 |.own a _=>some a
 |_=>none
noncomputable def owns(ρ:Rho):List Addr:=ρ.filterMap Sl.addr
theorem Ql{ρ:Rho}{i:Nat}{a:Addr}{ds:List D}(h:ρ[i]?=some (.own a ds)):a∈owns ρ:=Px.mpr ⟨_,Xl h,rfl⟩
theorem Vp{ρ:Rho}{a:Addr}(h:a∈owns ρ):∃(i:Nat)(ds:List D),ρ[i]?=some (.own a ds):=by
 obtain⟨s,hs,e⟩:=Px.mp h;obtain⟨i,hi⟩:=List.mem_iff_getElem?.mp hs;cases s with
 |own b ds=>cases e;exact⟨i,ds,hi⟩
 |un=>cases e
 |val d=>cases e
 |raw b o x=>cases e
theorem jj(s:Sl)(ρ:Rho):owns (s::ρ)=(match s.addr with|some a=>a::owns ρ|none=>owns ρ):=by unfold owns;rw[List.filterMap_cons];cases s.addr<;>rfl
theorem jk{s:Sl}(hs:s.addr=none):∀{ρ:Rho}{i:Nat},(owns (ρ.set i s)).Sublist (owns ρ)
 |[],_=>List.Sublist.refl _
 |x::r,0=>by
  rw[Pg,jj,jj,hs];cases x.addr with
  |none=>exact List.Sublist.refl _
  |some a=>exact List.sublist_cons_self _ _
 |x::r,i+1=>by
  rw[pq,jj,jj];have ih:=jk hs (ρ:=r) (i:=i);cases x.addr with
  |none=>exact ih
  |some a=>exact ih.cons_cons a
theorem Vz{a:Addr}{ds ds':List D}:∀{ρ:Rho}{i:Nat},ρ[i]?=some (.own a ds)→owns (ρ.set i (.own a ds'))=owns ρ
 |[],_,h=>by simp at h
 |x::r,0,h=>by simp at h;subst h;rw[Pg,jj,jj];rfl
 |x::r,i+1,h=>by simp at h;rw[pq,jj,jj,Vz h]
theorem O5{s:Sl}(hs:s.addr=none):∀{ρ:Rho}{i:Nat},(∀a l,ρ[i]?≠some (.own a l))→owns (ρ.set i s)=owns ρ
 |[],_,_=>rfl
 |x::r,0,h=>by
  rw[Pg,jj,jj,hs];cases x with
  |own a l=>exact absurd rfl (h a l)
  |un=>rfl
  |val d=>rfl
  |raw a o x=>rfl
 |x::r,i+1,h=>by rw[pq,jj,jj,O5 hs (fun a l=>by simpa using h a l)]
theorem Jr{a:Addr}{ds:List D}:∀{ρ:Rho}{i:Nat},(owns ρ).Nodup→a∉owns ρ→(owns (ρ.set i (.own a ds))).Nodup∧∀b∈owns (ρ.set i (.own a ds)),b=a∨b∈owns ρ
 |[],_,n,_=>⟨n,fun b hb=>.inr hb⟩
 |x::r,0,n,h=>by
  rw[Pg,jj];rw[jj]at n h;have e:(Sl.own a ds).addr=some a:=rfl;rw[e];cases q:x.addr with
  |none =>rw[q]at n h;exact⟨Xk.mpr ⟨h,n⟩,fun b hb=>(xm.mp hb).elim .inl fun z=>.inr (by rw[jj,q];exact z)⟩
  |some c =>rw[q]at n h;exact⟨Xk.mpr ⟨fun z=>h (kj _ z),(Xk.mp n).2⟩,fun b hb=>(xm.mp hb).elim .inl fun z=>.inr (by rw[jj,q];exact kj _ z)⟩
 |x::r,i+1,n,h=>by
  rw[pq,jj];rw[jj]at n h;cases q:x.addr with
  |none =>rw[q]at n h;obtain⟨i1,i2⟩:=Jr (ds:=ds) (i:=i) n h;exact⟨i1,fun b hb=>(i2 b hb).elim .inl fun z=>.inr (by rw[jj,q];exact z)⟩
  |some c =>
   rw[q]at n h;obtain⟨n1,n2⟩:=Xk.mp n;obtain⟨i1,i2⟩:=Jr (ds:=ds) (i:=i) n2 (fun z=>h (kj _ z));refine⟨Xk.mpr ⟨fun z=>?_,i1⟩,fun b hb=>?_⟩
   ·rcases i2 c z with e|z
    ·subst e;exact h (xq ..)
    ·exact n1 z
   ·rcases xm.mp hb with e|z
    ·exact .inr (by rw[jj,q];exact e▸xq ..)
    ·exact(i2 b z).elim .inl fun z=>.inr (by rw[jj,q];exact kj _ z)
theorem Yx{a:Addr}{l l':List D}:∀{ρ:Rho}{i j:Nat},(owns ρ).Nodup→ρ[i]?=some (.own a l)→ρ[j]?=some (.own a l')→i=j
 |[],i,_,_,h,_=>by simp at h
 |x::r,0,0,_,_,_=>rfl
 |x::r,0,j+1,n,h,h'=>by simp at h h';subst h;rw[jj]at n;exact absurd (Ql h') (Xk.mp n).1
 |x::r,i+1,0,n,h,h'=>by simp at h h';subst h';rw[jj]at n;exact absurd (Ql h) (Xk.mp n).1
 |x::r,i+1,j+1,n,h,h'=>by
  simp at h h';have n':(owns r).Nodup:=by
   rw[jj]at n;cases q:x.addr with
   |none=>rw[q]at n;exact n
   |some c=>rw[q]at n;exact(Xk.mp n).2
  rw[Yx n' h h']
noncomputable def Z9:List Str:=["worst_cost_of_ask","least_numbers","whole_cost_of_ask","round_numbers"]
def TabOk(K:k85)(H:Hp):Prop:=∀x∈Z9,∀c P,W.tabIn K x=some (c,P)→H P=some (.cod (jo x))
section
variable{K:k85}{H H':Hp}
theorem TabOk.mono(h:TabOk K H)(g:j0 H H'):TabOk K H':=fun x hx c P e=>g _ _ (h x hx c P e)
theorem TabOk.upd{a:Addr}{o u:HO}(h:TabOk K H)(e:H a=some u)(n:∀q,u≠.cod q):TabOk K (upd H a o):=fun x hx c P z=>by have q:=h x hx c P z;rw[jb];exact q;intro y;subst y;rw[e]at q;exact n _ (Option.some.inj q)
theorem TabOk.del{A:List Addr}(h:TabOk K H)(hA:∀a∈A,∃xs,H a=some (.lst xs)):TabOk K (del H A):=fun x hx c P z=>by have q:=h x hx c P z;rw[j5];exact q;intro y;obtain⟨xs,e⟩:=hA _ y;rw[q]at e;cases e
end
structure Rep(K:k85)(ρ:Rho)(σ:St)(H:Hp):Prop where
 len:σ.length=ρ.length
 val:∀(i:Nat)(d:D),ρ[i]?=some (.val d)→∃v,σ[i]?=some (some v)∧Enc K (del H (owns ρ)) d v
 own:∀(i:Nat)(a:Addr)(ds:List D),ρ[i]?=some (.own a ds)→σ[i]?=some (some (.ref a))∧∃xs,H a=some (.lst xs)∧j4 K (del H (owns ρ)) ds xs
 nd:(owns ρ).Nodup
 raw:∀(i:Nat)(a:Addr)(o:Obj)(x:Str),ρ[i]?=some (.raw a o x)→σ[i]?=some (some (.ref a))∧del H (owns ρ) a=some (.frz o (.own a))∧W.nsIn K mainGlobals x=some (some o.cls)
 tb:TabOk K H
section
variable{K:k85}{ρ ρ':Rho}{σ:St}{H H':Hp}{i:Nat}{d:D}{v:V}{a:Addr}{ds ds':List D}{xs:List V}
theorem Rep.owned(R:Rep K ρ σ H):∀a∈owns ρ,∃xs,H a=some (.lst xs):=fun a h=>by obtain⟨i,ds,e⟩:=Vp h;obtain⟨_,xs,q,_⟩:=R.own i a ds e;exact⟨xs,q⟩
theorem Rep.fresh(R:Rep K ρ σ H)(h:H a=none):a∉owns ρ:=fun z=>by obtain⟨xs,e⟩:=R.owned a z;rw[h]at e;cases e
theorem Rep.grow(R:Rep K ρ σ H)(g:j0 H H'):Rep K ρ σ H' :=
 ⟨R.len,fun i d e=>let ⟨v,q,h⟩:=R.val i d e;⟨v,q,h.mono (je g)⟩,fun i a ds e=>let ⟨q,xs,h,l⟩:=R.own i a ds e;⟨q,xs,g _ _ h,l.mono (je g)⟩,R.nd,fun i a o x e=>let ⟨q,h,z⟩:=R.raw i a o x e;⟨q,je g _ _ h,z⟩,R.tb.mono g⟩
theorem getElem?_set_of{α:Type}{l:List α}{i j:Nat}{x y:α}(h:(l.set i x)[j]?=some y):(i=j∧y=x∧i<l.length)∨(i≠j∧l[j]?=some y):=by
 rw[List.getElem?_set]at h;split at h
 ·rename_i e;subst e;split at h
  ·rename_i z;cases h;exact .inl ⟨rfl,rfl,z⟩
  ·cases h
 ·rename_i e;exact .inr ⟨e,h⟩
theorem Zm{α:Type}{l:List α}{i:Nat}{x:α}(h:i<l.length):(l.set i x)[i]?=some x:=by simp[h]
theorem qi{α:Type}{l:List α}{i j:Nat}{x:α}(h:i≠j):(l.set i x)[j]?=l[j]?:=by simp[h]
theorem Rep.set_val(R:Rep K ρ σ H)(e:Enc K (del H (owns ρ)) d v):Rep K (ρ.set i (.val d)) (σ.set i (some v)) H:=by
 have sub:(owns (ρ.set i (.val d))).Sublist (owns ρ):=jk rfl;have g:j0 (del H (owns ρ)) (del H (owns (ρ.set i (.val d)))):=vq fun b hb=>sub.subset hb;refine⟨by simp[R.len],fun j d' h=>?_,fun j a ds h=>?_,sub.nodup R.nd,fun j a o x h=>?_,R.tb⟩
 ·rcases getElem?_set_of h with ⟨rfl,z,hl⟩|⟨n,h⟩
  ·cases z;exact⟨v,Zm (by rw[R.len];exact hl),e.mono g⟩
  ·obtain⟨u,q,h⟩:=R.val j d' h;exact⟨u,by rw[qi n];exact q,h.mono g⟩
 ·rcases getElem?_set_of h with ⟨rfl,z,_⟩|⟨n,h⟩
  ·cases z
  ·obtain⟨q,xs,h,l⟩:=R.own j a ds h;exact⟨by rw[qi n];exact q,xs,h,l.mono g⟩
 ·rcases getElem?_set_of h with ⟨rfl,z,_⟩|⟨n,h⟩
  ·cases z
  ·obtain⟨q,h,z⟩:=R.raw j a o x h;exact⟨by rw[qi n];exact q,g _ _ h,z⟩
theorem Rep.set_un{v:Option V}(R:Rep K ρ σ H):Rep K (ρ.set i .un) (σ.set i v) H:=by
 have sub:(owns (ρ.set i .un)).Sublist (owns ρ):=jk rfl;have g:j0 (del H (owns ρ)) (del H (owns (ρ.set i .un))):=vq fun b hb=>sub.subset hb;refine⟨by simp[R.len],fun j d' h=>?_,fun j a ds h=>?_,sub.nodup R.nd,fun j a o x h=>?_,R.tb⟩
 ·rcases getElem?_set_of h with ⟨rfl,z,hl⟩|⟨n,h⟩
  ·cases z
  ·obtain⟨u,q,h⟩:=R.val j d' h;exact⟨u,by rw[qi n];exact q,h.mono g⟩
 ·rcases getElem?_set_of h with ⟨rfl,z,_⟩|⟨n,h⟩
  ·cases z
  ·obtain⟨q,xs,h,l⟩:=R.own j a ds h;exact⟨by rw[qi n];exact q,xs,h,l.mono g⟩
 ·rcases getElem?_set_of h with ⟨rfl,z,_⟩|⟨n,h⟩
  ·cases z
  ·obtain⟨q,h,z⟩:=R.raw j a o x h;exact⟨by rw[qi n];exact q,g _ _ h,z⟩
theorem Rep.set_own(R:Rep K ρ σ H)(g:j0 H H')(ha:H a=none)(e:H' a=some (.lst xs))(l:j4 K (del H' (a::owns ρ)) ds xs):Rep K (ρ.set i (.own a ds)) (σ.set i (some (.ref a))) H':=by
 have na:=R.fresh ha;obtain⟨nd,sub⟩:=Jr (ds:=ds) (i:=i) R.nd na;have g1:j0 (del H' (a::owns ρ)) (del H' (owns (ρ.set i (.own a ds)))):=vq fun b hb=>by
  rcases sub b hb with e|z
  ·exact e▸xq ..
  ·exact kj _ z
 have g2:j0 (del H (owns ρ)) (del H' (a::owns ρ)):=fun b o q=>by
  obtain⟨n,q⟩:=of_del q;rw[j5];exact g b o q;intro z;rcases xm.mp z with e|z
  ·subst e;rw[ha]at q;cases q
  ·exact n z
 refine⟨by simp[R.len],fun j d' h=>?_,fun j b ds' h=>?_,nd,fun j b o x h=>?_,R.tb.mono g⟩
 ·rcases getElem?_set_of h with ⟨rfl,z,hl⟩|⟨n,h⟩
  ·cases z
  ·obtain⟨u,q,h⟩:=R.val j d' h;exact⟨u,by rw[qi n];exact q,h.mono (g2.trans g1)⟩
 ·rcases getElem?_set_of h with ⟨rfl,z,hl⟩|⟨n,h⟩
  ·cases z;exact⟨Zm (by rw[R.len];exact hl),xs,e,l.mono g1⟩
  ·obtain⟨q,ys,h,l⟩:=R.own j b ds' h;exact⟨by rw[qi n];exact q,ys,g _ _ h,l.mono (g2.trans g1)⟩
 ·rcases getElem?_set_of h with ⟨rfl,z,hl⟩|⟨n,h⟩
  ·cases z
  ·obtain⟨q,h,z⟩:=R.raw j b o x h;exact⟨by rw[qi n];exact q,g1 _ _ (g2 _ _ h),z⟩
theorem Rep.upd_own(R:Rep K ρ σ H)(h:ρ[i]?=some (.own a ds))(l:j4 K (del H (owns ρ)) ds' xs):Rep K (ρ.set i (.own a ds')) σ (upd H a (.lst xs)):=by
 have eo:owns (ρ.set i (.own a ds'))=owns ρ:=Vz h;have ed:del (upd H a (.lst xs)) (owns ρ)=del H (owns ρ):=Wa (Ql h);refine⟨by simp[R.len],fun j d' q=>?_,fun j b l' q=>?_,by rw[eo];exact R.nd,fun j b o x q=>?_,let ⟨_,_,z,_⟩:=R.own i a ds h;R.tb.upd z fun _ y=>by cases y⟩
 ·rw[eo,ed];rcases getElem?_set_of q with ⟨_,z,_⟩|⟨n,q⟩
  ·cases z
  ·exact R.val j d' q
 ·rw[eo,ed];rcases getElem?_set_of q with ⟨rfl,z,_⟩|⟨n,q'⟩
  ·cases z;exact⟨(R.own i a ds h).1,xs,j9,l⟩
  ·obtain⟨z,ys,y,l''⟩:=R.own j b l' q';refine⟨z,ys,?_,l''⟩;have nb:b≠a:=fun e=>n (Yx R.nd h (e▸q'));rw[jb nb];exact y
 ·rw[eo,ed];rcases getElem?_set_of q with ⟨_,z,_⟩|⟨n,q⟩
  ·cases z
  ·exact R.raw j b o x q
theorem Rep.freeze(R:Rep K ρ σ H)(h:ρ[i]?=some (.own a ds)):Rep K (ρ.set i (.val (.lst ds))) σ H:=by
 obtain⟨hs,xs,hx,l⟩:=R.own i a ds h;have sub:(owns (ρ.set i (.val (.lst ds)))).Sublist (owns ρ):=jk rfl;have g:j0 (del H (owns ρ)) (del H (owns (ρ.set i (.val (.lst ds))))):=vq fun b hb=>sub.subset hb;have na:a∉owns (ρ.set i (.val (.lst ds))):=fun z=>by
  obtain⟨j,l',q⟩:=Vp z;rcases getElem?_set_of q with ⟨_,z,_⟩|⟨n,q⟩
  ·cases z
  ·exact n (Yx R.nd h q)
 refine⟨by simp[R.len],fun j d' q=>?_,fun j b l' q=>?_,sub.nodup R.nd,fun j b o x q=>?_,R.tb⟩
 ·rcases getElem?_set_of q with ⟨rfl,z,_⟩|⟨n,q⟩
  ·cases z;exact⟨_,hs,a,xs,rfl,.inl (.inl (by rw[j5 na];exact hx)),l.mono g⟩
  ·obtain⟨u,q,h⟩:=R.val j d' q;exact⟨u,q,h.mono g⟩
 ·rcases getElem?_set_of q with ⟨rfl,z,_⟩|⟨n,q⟩
  ·cases z
  ·obtain⟨q,ys,h,l⟩:=R.own j b l' q;exact⟨q,ys,h,l.mono g⟩
 ·rcases getElem?_set_of q with ⟨_,z,_⟩|⟨n,q⟩
  ·cases z
  ·obtain⟨q,h,z⟩:=R.raw j b o x q;exact⟨q,g _ _ h,z⟩
end
def DE(X:Cx)(ρ:Rho)(e:Expr)(d:D):Prop:=∀σ H Q,Rep X.K ρ σ H→(∀v H',j0 H H'→Enc X.K (del H' (owns ρ)) d v→Q v H')→Jo X e σ H Q
def DT(X:Cx)(ρ:Rho)(e:Expr)(d:D):Prop:=∀σ H Q,Rep X.K ρ σ H→(∀v H',j0 H H'→Enc X.K H' d v→Q v H')→Jo X e σ H Q
def DO(X:Cx)(ρ:Rho)(e:Expr)(ds:List D):Prop:=∀σ H Q,Rep X.K ρ σ H→(∀a xs H',j0 H H'→H a=none→H' a=some (.lst xs)→j4 X.K (del H' (a::owns ρ)) ds xs→Q (.ref a) H')→Jo X e σ H Q
def DL(X:Cx)(ρ:Rho)(e:Expr)(ds:List D):Prop:=∀σ H Q,Rep X.K ρ σ H→(∀a xs H',j0 H H'→H' a=some (.lst xs)→j4 X.K (del H' (owns ρ)) ds xs→Q (.ref a) H')→Jo X e σ H Q
def DB(X:Cx)(ρ:Rho)(e:Expr)(b:Bool):Prop:=∀σ H Q,Rep X.K ρ σ H→(∀H',j0 H H'→Q b H')→j6z X e σ H Q
def DA(X:Cx)(ρ:Rho)(es:List Expr)(ds:List D):Prop:=∀σ H Q,Rep X.K ρ σ H→(∀vs H',j0 H H'→j4 X.K (del H' (owns ρ)) ds vs→Q vs H')→Ol X es σ H Q
def DTA(X:Cx)(ρ:Rho)(es:List Expr)(ds:List D):Prop:=∀σ H Q,Rep X.K ρ σ H→(∀vs H',j0 H H'→j4 X.K H' ds vs→Q vs H')→Ol X es σ H Q
def j6y(X:Cx)(e:Expr):TT:=fun σ H Q=>∀whole pins s,Inv X pins σ H s→wpAny (model X.prog X.w) X.A (isTrue e X.env whole) (TP X pins σ Q) X.xe s
theorem pwS{X:Cx}{e:Expr}:PW X e (j6y X e):=fun whole pins s _ _ _ I h=>h whole pins s I
theorem PW.to{X:Cx}{e:Expr}{t:TT}{σ:St}{H:Hp}(h:PW X e t){Q:Bool→Hp→Prop}(q:t σ H Q):j6y X e σ H Q:=fun whole pins s I=>h whole pins s σ H Q I q
def DW(X:Cx)(ρ:Rho)(e:Expr)(b:Bool):Prop:=∀σ H Q,Rep X.K ρ σ H→(∀H',j0 H H'→Q b H')→j6y X e σ H Q
mutual
noncomputable def Qp:D→Bool
 |.lst _=>false
 |.dct _ _=>false
 |.sct _=>false
 |.fn _ _=>false
 |.tup ds=>zg ds
 |_=>true
noncomputable def zg:List D→Bool
 |[]=>true
 |d::ds=>Qp d&&zg ds
end
mutual
theorem Enc.hide{K:k85}{H:Hp}{A:List Addr}(hA:∀a∈A,Hd (H a)):∀{d:D}{v:V},Qp d=true→Enc K H d v→Enc K (del H A) d v
 |.non,_,_,h=>h
 |.bl _,_,_,h=>h
 |.int _,_,_,h=>h
 |.str _,_,_,h=>h
 |.lst _,_,n,_=>by cases n
 |.dct _ _,_,n,_=>by cases n
 |.sct _,_,n,_=>by cases n
 |.fn _ _,_,n,_=>by cases n
 |.tup ds,_,n,⟨a,xs,e,q,l⟩=>by
  refine⟨a,xs,e,?_,j4.hide hA (by simpa [Qp]using n) l⟩;have out:∀{o:HO},H a=some o→(∀ys,o≠.lst ys)→(∀ys ep,o≠.dI ys ep)→del H A a=some o:=fun{o} h z z2=>by
   rw[j5];exact h;intro y;rcases hA a y with ⟨ys,e'⟩|⟨ys,ep,e'⟩
   ·rw[h]at e';cases e';exact z ys rfl
   ·rw[h]at e';cases e';exact z2 ys ep rfl
  rcases q with (q|⟨o,q⟩)|q
  ·exact .inl (.inl (out q (fun _ z=>by cases z) fun _ _ z=>by cases z))
  ·exact .inl (.inr ⟨o,out q (fun _ z=>by cases z) fun _ _ z=>by cases z⟩)
  ·exact .inr q
theorem j4.hide{K:k85}{H:Hp}{A:List Addr}(hA:∀a∈A,Hd (H a)):∀{ds:List D}{xs:List V},zg ds=true→j4 K H ds xs→j4 K (del H A) ds xs
 |[],_,_,h=>h
 |d::ds,_,n,⟨x,r,e,h,l⟩=>by
  have n':Qp d=true∧zg ds=true:=by simpa [zg]using n
  exact⟨x,r,e,Enc.hide hA n'.1 h,j4.hide hA n'.2 l⟩
end
section
variable{X:Cx}{ρ:Rho}{e a b c:Expr}{es:List Expr}{d da db:D}{ds ds':List D}{i j:Int}{pos:Pos}{k:Nat}{x:Str}
theorem DE.toT(h:DE X ρ e d):DT X ρ e d:=fun σ H Q R q=>h σ H Q R fun v H' g l=>q v H' g (l.mono jm)
theorem DT.toE(h:DT X ρ e d)(n:Qp d=true:=by rfl):DE X ρ e d:=fun σ H Q R q=>h σ H Q R fun v H' g l=>q v H' g (l.hide (fun a ha=>.inl ((R.grow g).owned a ha)) n)
theorem DO.toL(h:DO X ρ e ds):DL X ρ e ds:=fun σ H Q R q=>h σ H Q R fun a xs H' g n m l=>q a xs H' g m (l.mono (vq fun b hb=>kj _ hb))
theorem DO.toE(h:DO X ρ e ds):DE X ρ e (.lst ds):=fun σ H Q R q=>h σ H Q R fun a xs H' g n m l =>q _ H' g ⟨a,xs,rfl,.inl (.inl (by rw[j5 (R.fresh n)];exact m)),l.mono (vq fun b hb=>kj _ hb)⟩
theorem DL.toT(h:DL X ρ e ds):DT X ρ e (.lst ds):=fun σ H Q R q=>h σ H Q R fun a xs H' g m l=>q _ H' g ⟨a,xs,rfl,.inl (.inl m),l.mono jm⟩
theorem DW.toB{k:Bool}(h:DW X ρ e k):DB X ρ e k:=fun σ H Q R q pins s I=>h σ H Q R q _ pins s I
theorem DE.eq(h:DE X ρ e d){d':D}(q:d=d'):DE X ρ e d':=q▸h
theorem DB.eq{b b':Bool}(h:DB X ρ e b)(q:b=b'):DB X ρ e b':=q▸h
end
end L2
end
section
namespace L2
open PySem PySem.Spec PyProof.Rows
section
variable{X:Cx}{ρ:Rho}{e a b c:Expr}{es:List Expr}{d da db:D}{ds ds':List D}{i j:Int}{pos p:Pos}{k:Nat}{x:Str}
theorem DE.var(k:Nat)(h:ρ[k]?=some (.val d))(hN:X.N[k]?=some x:=by rfl)(hv:Vis X.env.scope x:=by first|exact Or.inl rfl|exact Or.inr (Or.inl rfl)|exact Or.inr (Or.inr rfl))
  (hd:(x==k89)=false:=by decide) (hcd:(x==k8a)=false:=by decide):DE X ρ (.Name x pos) d:=fun σ H Q R q=>by
 obtain⟨v,hs,en⟩:=R.val k d h;exact(zr hN hv hd hcd).to ⟨v,hs,q v H (j0.refl H) en⟩
theorem DL.var(k:Nat){l:Addr}(h:ρ[k]?=some (.own l ds))(hN:X.N[k]?=some x:=by rfl)(hv:Vis X.env.scope x:=by first|exact Or.inl rfl|exact Or.inr (Or.inl rfl)|exact Or.inr (Or.inr rfl))
  (hd:(x==k89)=false:=by decide) (hcd:(x==k8a)=false:=by decide):DL X ρ (.Name x pos) ds:=fun σ H Q R q=>by
 obtain⟨hs,xs,m,en⟩:=R.own k l ds h;exact(zr hN hv hd hcd).to ⟨_,hs,q l xs H (j0.refl H) m en⟩
theorem DE.glob {u:Value} {v:V} (hg:Gl X x) (hm:X.mg x=some u) (r:RelV v u) (h:∀H,Enc X.K H d v) (hd:(x==k89)=false:=by decide):DE X ρ (.Name x pos) d :=
 fun σ H Q R q=>(Mq hg hm r hd).to (q v H (j0.refl H) (h _))
theorem DE.int{i:Int}{n:Nat}{pos:Pos}:DE X ρ (.Constant (.int i) n pos) (.int i):=fun σ H Q R q=>jdw.to (q _ H (j0.refl H) rfl)
theorem DE.bl{b:Bool}{n:Nat}:DE X ρ (.Constant (.bool b) n pos) (.bl b):=fun σ H Q R q=>jh9.to (q _ H (j0.refl H) rfl)
theorem DE.non{n:Nat}:DE X ρ (.Constant .none n pos) .non:=fun σ H Q R q=>Iw.to (q _ H (j0.refl H) rfl)
theorem DE.str{y:Str}{n:Nat}:DE X ρ (.Constant (.str y) n pos) (.str y):=fun σ H Q R q=>j4z.to (q _ H (j0.refl H) rfl)
theorem DE.arI0{op:Operator}{g:Int→Int→Int}(ho:OpR X (binaryOp op) (rI0 fun i j=>.int (g i j)))(ha:DT X ρ a (.int i))(hb:DT X ρ b (.int j)):DE X ρ (.BinOp a op b pos) (.int (g i j)):=fun σ H Q R q =>(Ui ho peS peS).to (ha σ H _ R fun v H1 g1 e1=>hb σ H1 _ (R.grow g1) fun u H2 g2 e2=>⟨i,j,e1,e2,q _ H2 (g1.trans g2) rfl⟩)
theorem DE.arI{op:Operator}{C:Int→Int→Prop}{g:Int→Int→Int}(ho:OpR X (binaryOp op) (rI C fun i j=>.int (g i j)))(ha:DT X ρ a (.int i))(hb:DT X ρ b (.int j))(hC:C i j):DE X ρ (.BinOp a op b pos) (.int (g i j)):=fun σ H Q R q =>(Ui ho peS peS).to (ha σ H _ R fun v H1 g1 e1=>hb σ H1 _ (R.grow g1) fun u H2 g2 e2=>⟨i,j,e1,e2,hC,q _ H2 (g1.trans g2) rfl⟩)
theorem DE.add(ha:DT X ρ a (.int i))(hb:DT X ρ b (.int j)):DE X ρ (.BinOp a .Add b pos) (.int (i+j)):=DE.arI0 je8 ha hb
theorem DE.sub(ha:DT X ρ a (.int i))(hb:DT X ρ b (.int j)):DE X ρ (.BinOp a .Sub b pos) (.int (i-j)):=DE.arI0 je0 ha hb
theorem DE.mul(ha:DT X ρ a (.int i))(hb:DT X ρ b (.int j))(h:j40 i j):DE X ρ (.BinOp a .Mult b pos) (.int (i*j)):=DE.arI je5 ha hb h
theorem DE.mod(ha:DT X ρ a (.int i))(hb:DT X ρ b (.int j))(h:0<j):DE X ρ (.BinOp a .Mod b pos) (.int (i%j)):=DE.arI je6 ha hb h
theorem DE.pow(ha:DT X ρ a (.int i))(hb:DT X ρ b (.int j))(h:j3z i j):DE X ρ (.BinOp a .Pow b pos) (.int (i^j.toNat)):=DE.arI je4 ha hb h
theorem DE.shl(ha:DT X ρ a (.int i))(hb:DT X ρ b (.int j))(h:j3z i j):DE X ρ (.BinOp a .LShift b pos) (.int (i*2^j.toNat)):=DE.arI (g:=fun i j=>i*2^j.toNat) je2 ha hb h
theorem DE.neg(ha:DT X ρ a (.int i)):DE X ρ (.UnaryOp .USub a pos) (.int (-i)):=fun σ H Q R q =>(jh7 jcq peS).to (ha σ H _ R fun v H1 g1 e1=>⟨i,e1,q _ H1 g1 rfl⟩)
theorem DE.cmpI{op:CmpOp}{g:Int→Int→Bool}(ho:OpR X (compareOp op) (rI0 fun i j=>.bl (g i j)))(hm:behindInMarks op b=false)(ha:DT X ρ a (.int i))(hb:DT X ρ b (.int j)):DE X ρ (.Compare a [op] [b] pos) (.bl (g i j)):=fun σ H Q R q =>(Jq ho peS peS hm).to (ha σ H _ R fun v H1 g1 e1=>hb σ H1 _ (R.grow g1) fun u H2 g2 e2=>⟨i,j,e1,e2,q _ H2 (g1.trans g2) rfl⟩)
theorem DB.cmpI{op:CmpOp}{g:Int→Int→Bool}(ho:OpR X (compareOp op) (rI0 fun i j=>.bl (g i j)))(hm:behindInMarks op b=false)(ha:DT X ρ a (.int i))(hb:DT X ρ b (.int j)):DB X ρ (.Compare a [op] [b] pos) (g i j):=fun σ H Q R q =>(Jp ho peS peS hm).to (ha σ H _ R fun v H1 g1 e1=>hb σ H1 _ (R.grow g1) fun u H2 g2 e2=>⟨i,j,e1,e2,_,rfl,q H2 (g1.trans g2)⟩)
theorem DB.lt(ha:DT X ρ a (.int i))(hb:DT X ρ b (.int j)):DB X ρ (.Compare a [.Lt] [b] pos) (decide (i<j)):=DB.cmpI j9p (qy _) ha hb
theorem DB.le(ha:DT X ρ a (.int i))(hb:DT X ρ b (.int j)):DB X ρ (.Compare a [.LtE] [b] pos) (decide (i≤j)):=DB.cmpI j9q (qy _) ha hb
theorem DB.gt(ha:DT X ρ a (.int i))(hb:DT X ρ b (.int j)):DB X ρ (.Compare a [.Gt] [b] pos) (decide (j<i)):=DB.cmpI j9r (qy _) ha hb
theorem DB.ge(ha:DT X ρ a (.int i))(hb:DT X ρ b (.int j)):DB X ρ (.Compare a [.GtE] [b] pos) (decide (j≤i)):=DB.cmpI j9s (qy _) ha hb
theorem DE.lt(ha:DT X ρ a (.int i))(hb:DT X ρ b (.int j)):DE X ρ (.Compare a [.Lt] [b] pos) (.bl (decide (i<j))):=DE.cmpI j9p (qy _) ha hb
theorem DE.le(ha:DT X ρ a (.int i))(hb:DT X ρ b (.int j)):DE X ρ (.Compare a [.LtE] [b] pos) (.bl (decide (i≤j))):=DE.cmpI j9q (qy _) ha hb
theorem DE.gt(ha:DT X ρ a (.int i))(hb:DT X ρ b (.int j)):DE X ρ (.Compare a [.Gt] [b] pos) (.bl (decide (j<i))):=DE.cmpI j9r (qy _) ha hb
theorem DE.ge(ha:DT X ρ a (.int i))(hb:DT X ρ b (.int j)):DE X ρ (.Compare a [.GtE] [b] pos) (.bl (decide (j≤i))):=DE.cmpI j9s (qy _) ha hb
noncomputable def D.sc:D→Option V
 |.non=>some .non
 |.bl b=>some (.bl b)
 |.int i=>some (.int i)
 |.str x=>some (.str x)
 |_=>none
theorem D.sc_enc{K:k85}{H:Hp}{d:D}{u v:V}(h:d.sc=some u)(q:Enc K H d v):v=u:=by cases d<;>simp[D.sc]at h<;>subst h<;>exact q
theorem DE.eqS{u v:V}(ha:DT X ρ a da)(hb:DT X ρ b db)(h1:da.sc=some u:=by rfl)(h2:db.sc=some v:=by rfl)(h:Fv u v=true:=by rfl):DE X ρ (.Compare a [.Eq] [b] pos) (.bl (decide (u=v))):=fun σ H Q R q =>
 (Jq j9t peS peS (qy _)).to (ha σ H _ R fun x H1 g1 e1=>hb σ H1 _ (R.grow g1) fun y H2 g2 e2=>by
  cases D.sc_enc h1 e1;cases D.sc_enc h2 e2;exact⟨h,q _ H2 (g1.trans g2) rfl⟩)
theorem DE.neS{u v:V}(ha:DT X ρ a da)(hb:DT X ρ b db)(h1:da.sc=some u:=by rfl)(h2:db.sc=some v:=by rfl)(h:Fv u v=true:=by rfl):DE X ρ (.Compare a [.NotEq] [b] pos) (.bl (!decide (u=v))):=fun σ H Q R q =>
 (Jq j9o peS peS (qy _)).to (ha σ H _ R fun x H1 g1 e1=>hb σ H1 _ (R.grow g1) fun y H2 g2 e2=>by
  cases D.sc_enc h1 e1;cases D.sc_enc h2 e2;exact⟨h,q _ H2 (g1.trans g2) rfl⟩)
theorem DB.eqS{u v:V}(ha:DT X ρ a da)(hb:DT X ρ b db)(h1:da.sc=some u:=by rfl)(h2:db.sc=some v:=by rfl)(h:Fv u v=true:=by rfl):DB X ρ (.Compare a [.Eq] [b] pos) (decide (u=v)):=fun σ H Q R q =>
 (Jp j9t peS peS (qy _)).to (ha σ H _ R fun x H1 g1 e1=>hb σ H1 _ (R.grow g1) fun y H2 g2 e2=>by
  cases D.sc_enc h1 e1;cases D.sc_enc h2 e2;exact⟨h,_,rfl,q H2 (g1.trans g2)⟩)
theorem DB.neS{u v:V}(ha:DT X ρ a da)(hb:DT X ρ b db)(h1:da.sc=some u:=by rfl)(h2:db.sc=some v:=by rfl)(h:Fv u v=true:=by rfl):DB X ρ (.Compare a [.NotEq] [b] pos) (!decide (u=v)):=fun σ H Q R q =>
 (Jp j9o peS peS (qy _)).to (ha σ H _ R fun x H1 g1 e1=>hb σ H1 _ (R.grow g1) fun y H2 g2 e2=>by
  cases D.sc_enc h1 e1;cases D.sc_enc h2 e2;exact⟨h,_,rfl,q H2 (g1.trans g2)⟩)
theorem Wv(i j:Int):decide (V.int i=V.int j)=decide (i=j):=by
 by_cases h:i=j
 ·subst h;simp
 ·rw[decide_eq_false h,decide_eq_false (fun z=>h (V.int.inj z))]
theorem j24(i j:Bool):decide (V.bl i=V.bl j)=(i==j):=by cases i<;>cases j<;>rfl
theorem j05(i j:Str):decide (V.str i=V.str j)=decide (i=j):=by
 by_cases h:i=j
 ·subst h;simp
 ·rw[decide_eq_false h,decide_eq_false (fun z=>h (V.str.inj z))]
theorem DE.eqI(ha:DT X ρ a (.int i))(hb:DT X ρ b (.int j)):DE X ρ (.Compare a [.Eq] [b] pos) (.bl (decide (i=j))):=(DE.eqS ha hb).eq (by rw[Wv])
theorem DE.neI(ha:DT X ρ a (.int i))(hb:DT X ρ b (.int j)):DE X ρ (.Compare a [.NotEq] [b] pos) (.bl (!decide (i=j))):=(DE.neS ha hb).eq (by rw[Wv])
theorem DB.eqI(ha:DT X ρ a (.int i))(hb:DT X ρ b (.int j)):DB X ρ (.Compare a [.Eq] [b] pos) (decide (i=j)):=(DB.eqS ha hb).eq (by rw[Wv])
theorem DB.neI(ha:DT X ρ a (.int i))(hb:DT X ρ b (.int j)):DB X ρ (.Compare a [.NotEq] [b] pos) (!decide (i=j)):=(DB.neS ha hb).eq (by rw[Wv])
theorem DE.neB{x y:Bool}(ha:DT X ρ a (.bl x))(hb:DT X ρ b (.bl y)):DE X ρ (.Compare a [.NotEq] [b] pos) (.bl (x != y)):=(DE.neS ha hb).eq (by rw[j24];rfl)
theorem DB.neB{x y:Bool}(ha:DT X ρ a (.bl x))(hb:DT X ρ b (.bl y)):DB X ρ (.Compare a [.NotEq] [b] pos) (x != y):=(DB.neS ha hb).eq (by rw[j24];rfl)
noncomputable def D.isNon:D→Bool
 |.non=>true
 |_=>false
theorem M4{K:k85}{H:Hp}{d:D}{v:V}(q:Enc K H d v):decide (v=V.non)=d.isNon:=by
 cases d with
 |non=>cases(show v=.non from q);rfl
 |bl b=>cases(show v=.bl b from q);rfl
 |int b=>cases(show v=.int b from q);rfl
 |str b=>cases(show v=.str b from q);rfl
 |tup l=>obtain⟨a,xs,e,_⟩:=q;subst e;rfl
 |lst l=>obtain⟨a,xs,e,_⟩:=q;subst e;rfl
 |dct ks l=>obtain⟨a,xs,ep,vs,e,_⟩:=q;subst e;rfl
 |sct k=>obtain⟨a,e,_⟩:=q;subst e;rfl
 |fn x l=>obtain⟨a,c,tx,cl,vs,e,_⟩:=q;subst e;rfl
theorem DB.isN{n:Nat}{p2:Pos}(ha:DT X ρ a d):DB X ρ (.Compare a [.Is] [.Constant .none n p2] pos) d.isNon:=fun σ H Q R q =>(jdp (jdy peS)).to (ha σ H _ R fun x H1 g1 e1=>⟨_,rfl,by rw[M4 e1];exact q H1 g1⟩)
theorem DB.val{k:Bool}(ha:DT X ρ a (.bl k))(he:∀whole,isTrue a X.env whole=(do let v ←whole;standAt a.pos;holding [v] (truthy v)):=by intro _;rfl):DB X ρ a k:=fun σ H Q R q =>(jdn peS he).to (ha σ H _ R fun x H1 g1 e1=>⟨_,e1,q H1 g1⟩)
theorem DW.or1{k:Bool}(ha:DB X ρ a k):DW X ρ (.BoolOp .Or [a] pos) k:=fun σ H Q R q=>(jdl ptS).to (ha σ H Q R q)
theorem DW.or{k m:Bool}{rest:List Expr}(ha:DB X ρ a k)(hb:k=false→DW X ρ (.BoolOp .Or (b::rest) pos) m):DW X ρ (.BoolOp .Or (a::b::rest) pos) (k || m):=fun σ H Q R q =>
 (jh5 ptS pwS).to (ha σ H _ R fun H1 g1=>by
  cases k with
  |true=>exact Eo (q H1 g1)
  |false=>exact Ep (hb rfl σ H1 Q (R.grow g1) fun H2 g2=>q H2 (g1.trans g2)))
theorem DB.not{k:Bool}(ha:DB X ρ a k):DB X ρ (.UnaryOp .Not a pos) (!k):=fun σ H Q R q=>(jdo ptS).to (ha σ H _ R fun H1 g1=>q H1 g1)
theorem DE.and{k m:Bool}{rest:List Expr}(ha:DT X ρ a (.bl k))(hb:k=true→DE X ρ (.BoolOp .And (b::rest) pos) (.bl m)):DE X ρ (.BoolOp .And (a::b::rest) pos) (.bl (k&&m)):=fun σ H Q R q =>
 (jdx peS peS).to (ha σ H _ R fun x H1 g1 e1=>⟨k,e1,by
  cases k with
  |false=>exact Ep (q _ H1 g1 rfl)
  |true=>exact Eo (hb rfl σ H1 Q (R.grow g1) fun v H2 g2=>q v H2 (g1.trans g2))⟩)
theorem DE.ite{k:Bool}{d':D}(hc:DB X ρ c k)(ha:k=true→DE X ρ a d)(hb:k=false→DE X ρ b d'):DE X ρ (.IfExp c a b pos) (if k=true then d else d'):=fun σ H Q R q =>
 (j7i ptS peS peS).to (hc σ H _ R fun H1 g1=>by
  cases k with
  |true=>exact Eo (ha rfl σ H1 Q (R.grow g1) fun v H2 g2 z=>q v H2 (g1.trans g2) (by rw[if_pos rfl];exact z))
  |false=>exact Ep (hb rfl σ H1 Q (R.grow g1) fun v H2 g2 z=>q v H2 (g1.trans g2) (by rw[if_neg xg];exact z)))
theorem DA.nil:DA X ρ [] []:=fun σ H Q R q=>jw.to (q [] H (j0.refl H) rfl)
theorem DA.cons(ha:DE X ρ a d)(hr:DA X ρ es ds)(hs:starEach (a::es) X.env=(false,eval a X.env)::starEach es X.env:=by rfl):DA X ρ (a::es) (d::ds):=fun σ H Q R q =>(jd peS paS hs).to (ha σ H _ R fun v H1 g1 e1=>hr σ H1 _ (R.grow g1) fun vs H2 g2 e2=>q _ H2 (g1.trans g2) ⟨v,vs,rfl,e1.mono (je g2),e2⟩)
theorem DTA.nil:DTA X ρ [] []:=fun σ H Q R q=>jw.to (q [] H (j0.refl H) rfl)
theorem DTA.cons(ha:DT X ρ a d)(hr:DTA X ρ es ds)(hs:starEach (a::es) X.env=(false,eval a X.env)::starEach es X.env:=by rfl):DTA X ρ (a::es) (d::ds):=fun σ H Q R q =>(jd peS paS hs).to (ha σ H _ R fun v H1 g1 e1=>hr σ H1 _ (R.grow g1) fun vs H2 g2 e2=>q _ H2 (g1.trans g2) ⟨v,vs,rfl,e1.mono g2,e2⟩)
theorem DE.tup{n:Nat}{x1}(h:DA X ρ es ds)(hl:ds.length≤sizeLine:=by simp only[X4,Pn];decide):DE X ρ (.Tuple es x1 pos) (.tup ds):=fun σ H Q R q =>(j4y paS).to (h σ H _ R fun vs H1 g1 e1=>⟨by rw[e1.length];exact hl,fun p hp=>q _ _ (g1.trans (j6 hp)) ⟨p,vs,rfl,.inl (.inl (by rw[j5 ((R.grow g1).fresh hp)];exact j9)),e1.mono (je (j6 hp))⟩⟩)
theorem DO.lst(h:DA X ρ es ds)(hl:ds.length≤sizeLine:=by simp only[X4,Pn];decide):DO X ρ (.List es pos) ds:=fun σ H Q R q =>
 (jdv paS).to (h σ H _ R fun vs H1 g1 e1=>⟨by rw[e1.length];exact hl,fun p hp=>q p vs _ (g1.trans (j6 hp)) (g1.free hp) j9 (e1.mono fun b o z=>by
  obtain⟨n,z⟩:=of_del z
  rw[j5];exact j6 hp b o z
  intro y
  rcases xm.mp y with y|y
  ·subst y;rw[hp]at z;cases z
  ·exact n y)⟩)
theorem j4.atI{K:k85}{H:Hp}{xs:List V}(h:j4 K H ds xs)(q:atI ds i=some d):∃x,L2.atI xs i=some x∧Enc K H d x:=by
 unfold L2.atI at q ⊢;rw[h.length];cases z:ixN ds.length i with
 |none=>rw[z]at q;cases q
 |some k =>rw[z]at q;exact h.get q
noncomputable def cutD(ds:List D)(lo hi:Option Int):List D:=(ds.drop (HT.sIx ds.length 0 lo)).take (HT.sIx ds.length ds.length hi-HT.sIx ds.length 0 lo)
theorem j4.cut{K:k85}{H:Hp}{xs:List V}(h:j4 K H ds xs)(lo hi:Option Int):j4 K H (cutD ds lo hi) (M7 xs lo hi):=by unfold cutD M7;rw[h.length];exact(h.drop _).take _
theorem Wu{K:k85}{H1:Hp}{A:List Addr}{ds:List D}{xs:List V}{p:Addr}{o:HO}(hp:H1 p=none)(e1:j4 K (del H1 A) ds xs):j4 K (del (upd H1 p o) (p::A)) ds xs:=e1.mono fun b o z=>by
 obtain⟨n,z⟩:=of_del z;rw[j5];exact j6 hp b o z;intro y;rcases xm.mp y with y|y
 ·subst y;rw[hp]at z;cases z
 ·exact n y
theorem DO.rep(ha:DL X ρ a ds)(hb:DT X ρ b (.int i))(h1:-(2^63)≤i)(h2:i<2^63)(hl:ds.length*i.toNat≤sizeLine):DO X ρ (.BinOp a .Mult b pos) (List.replicate i.toNat ds).flatten:=fun σ H Q R q =>
 (Ui je3 peS peS).to (ha σ H _ R fun l xs H1 g1 m1 e1=>hb σ H1 _ (R.grow g1) fun u H2 g2 e2 =>
  ⟨l,i,xs,rfl,e2,g2 _ _ m1,h1,h2,by rw[e1.length];exact hl,fun p hp=>q p _ _ ((g1.trans g2).trans (j6 hp)) ((g1.trans g2).free hp) j9 (Wu hp ((e1.mono (je g2)).rep _))⟩)
theorem DE.lenT (ha:DT X ρ a (.tup ds)) (hm:X.mg "len" = none) (hg:Gl X "len":=by rfl) (hs:starEach [a] X.env=[(false,eval a X.env)]:=by rfl) {p2:Pos}:DE X ρ (.Call (.Name "len" p2) [a] [] pos) (.int ds.length):=fun σ H Q R q =>(zx M9 hg hm PySem.boot_len (jd peS jw hs) (by decide) (by decide) hs).to (ha σ H _ R fun v H1 g1 ⟨l,xs,e,sq,en⟩=>⟨l,xs,by rw[e],.inr sq,q _ H1 g1 (by rw[en.length];rfl)⟩)
theorem DE.lenL (ha:DT X ρ a (.lst ds)) (hm:X.mg "len" = none) (hg:Gl X "len":=by rfl) (hs:starEach [a] X.env=[(false,eval a X.env)]:=by rfl) {p2:Pos}:DE X ρ (.Call (.Name "len" p2) [a] [] pos) (.int ds.length):=fun σ H Q R q =>(zx M9 hg hm PySem.boot_len (jd peS jw hs) (by decide) (by decide) hs).to (ha σ H _ R fun v H1 g1 ⟨l,xs,e,sq,en⟩=>⟨l,xs,by rw[e],.inl sq,q _ H1 g1 (by rw[en.length];rfl)⟩)
end
end L2
end
section
namespace L2
open PySem PySem.Spec PyProof.Rows
def framed(sp:Sp):Sp:=fun vs H Q E=>∃A:List Addr,(∀a∈A,∃xs,H a=some (.lst xs))∧sp vs (del H A) (fun v F=>(∀a∈A,F a=none)→Q v (mrg A H F)) E
theorem FnOk.framed{P:Program}{w:World}{K:k85}{mg:k88}{base:Heap}{k:Nat}{f:Addr}{fd:FuncData}{ps:List Str}{sp:Sp}(F:FnOk P w K mg base CX0 k f fd ps sp) :
  FnOk P w K mg base CX0 k f fd ps (framed sp) where
 len:=fun vs H Q E ⟨A,_,h⟩=>F.len vs _ _ _ h
 run:=by
  rintro A0 outer s H args us vs Q E hr e0 hb rv ⟨A,hA,h⟩;have nd:∀{b:Addr},H b=none→del H A b=none:=fun{b} q=>by
   by_cases z:b∈A
   ·exact q8 z
   ·rw[j5 z];exact q
  have out:∀{b:Addr}{o:HO},H b=some o→(∀ys,o≠.lst ys)→del H A b=some o:=fun{b o} q z=>by rw[j5];exact q;intro y;obtain⟨ys,e'⟩:=hA b y;rw[q]at e';cases e';exact z ys rfl
  have e1:Env0 P w K mg base A0 outer s (del H A):=⟨e0.frames,e0.mod,fun b o q=>⟨(e0.bs b o q).1,nd (e0.bs b o q).2⟩,e0.bsz,e0.funs,fun b hb=>nd (e0.frf b hb),
   fun a o q=>by
    obtain⟨_,q⟩:=of_del q
    exact jg.stay (e0.hok a o q) (fun b u _ z=>z) (fun b z=>out z fun _ y=>by cases y) (fun b xs z=>out z fun _ y=>by cases y) (fun b _ _ z=>out z fun _ y=>by cases y),e0.bare⟩
  refine codeAny_mono (F.run A0 outer s (del H A) args us vs _ E hr e1 hb rv h) fun r s' hq=>?_;cases r with
  |error e=>exact(show False from hq).elim
  |ok fl =>
   cases fl with
   |next=>exact(show False from hq).elim
   |brk=>exact(show False from hq).elim
   |cont=>exact(show False from hq).elim
   |ret u =>
    obtain⟨v,H',os,bare,un,hok',rel,q⟩:=(show CE outer P w (del H A) s _ u s' from hq)
    have kept:∀a∈A,∃o,s.heap.get? a=some o∧s'.heap.get? a=some o∧H' a=none:=fun a ha=>by
     obtain⟨xs,e⟩:=hA a ha;obtain⟨_,its,n,_,z⟩:=(show jg P w H s.heap a (.lst xs)from e0.hok _ _ e)
     have nf:a∉frs outer:=fun y=>by rw[e0.frf a y]at e;cases e
     exact⟨_,z,un.keep a _ z (q8 ha) nf (by simp),un.free a _ z (q8 ha) (by simp)⟩
    have hF:∀a∈A,H' a=none:=fun a ha=>let ⟨_,_,_,z⟩:=kept a ha;z;have outF:∀{b:Addr}{o:HO},H' b=some o→b∉A:=fun{b o} e z=>by rw[hF b z]at e;cases e
    refine⟨v,mrg A H H',os,bare,?_,fun a o e=>?_,rel,q hF⟩
    ·exact{
      keep:=fun b o e n=>un.keep b o e (nd n)
      slot:=fun b o e n=>un.slot b o e (nd n)
      free:=fun b o e n hx=>by
       by_cases z:b∈A
       ·rw[J8 z];exact n
       ·rw[jh z];exact un.free b o e (nd n) hx
      there:=un.there
      tups:=fun b xs e=>by
       have z:=un.tups b xs (out e fun _ y=>by cases y)
       rw[jh (outF z)];exact z
      frzs:=fun b o u e=>by
       have z:=un.frzs b o u (out e fun _ y=>by cases y)
       rw[jh (outF z)];exact z
      tbls:=fun b ps e=>by
       obtain⟨more,z⟩:=un.tbls b ps (out e fun _ y=>by cases y)
       exact⟨more,by rw[jh (outF z)];exact z⟩ }
    ·by_cases z:a∈A
     ·rw[J8 z]at e;obtain⟨xs,e'⟩:=hA a z;rw[e']at e;cases e;obtain⟨hl,its,n,r,y⟩:=(show jg P w H s.heap a (.lst xs)from e0.hok _ _ e')
      obtain⟨o',q1,q2,_⟩:=kept a z;rw[y]at q1;cases q1;exact⟨hl,its,n,r,q2⟩
     ·rw[jh z]at e;refine jg.stay (hok' a o e) (fun b u _ q=>q) (fun b q=>?_) (fun b xs q=>?_) (fun b _ _ q=>?_)
      ·rw[jh (outF q)];exact q
      ·rw[jh (outF q)];exact q
      ·rw[jh (outF q)];exact q
def spP(K:k85)(S:List D→D→Prop):Sp:=fun vs H Q _=>∃A ds d,TabOk K H∧(∀a∈A,∃xs,H a=some (.lst xs))∧j4 K (del H A) ds vs∧S ds d∧∀v H',j0 H H'→Enc K (del H' A) d v→Q v H'
def spF(K:k85)(S:List D→List D→Prop):Sp:=fun vs H Q _=>∃A ds l,TabOk K H∧(∀a∈A,∃xs,H a=some (.lst xs))∧j4 K (del H A) ds vs∧S ds l ∧
 ∀a xs H',j0 H H'→H a=none→H' a=some (.lst xs)→j4 K (del H' (a::A)) l xs→Q (.ref a) H'
def jii(K:k85)(S:List D→D→Prop):Sp:=fun vs H Q _=>∃ds d,TabOk K H∧j4 K H ds vs∧S ds d∧∀v H',j0 H H'→Enc K H' d v→Q v H'
def jij(K:k85)(S:List D→List D→Prop):Sp:=fun vs H Q _=>∃ds l,TabOk K H∧j4 K H ds vs∧S ds l∧∀a xs H',j0 H H'→H a=none→H' a=some (.lst xs)→j4 K (del H' [a]) l xs→Q (.ref a) H'
section
variable{P:Program}{w:World}{K:k85}{mg:k88}{base:Heap}{k:Nat}{f:Addr}{fd:FuncData}{ps:List Str}
theorem FnOk.toP{S:List D→D→Prop}(F:FnOk P w K mg base CX0 k f fd ps (jii K S)):FnOk P w K mg base CX0 k f fd ps (spP K S) :=
 F.framed.imp fun vs H Q E ⟨A,ds,d,tb,hA,en,hS,q⟩=>⟨A,hA,ds,d,tb.del hA,en,hS,fun v F g e hF=>q v _ (Om g) (by rw[Yo hF];exact e)⟩
theorem FnOk.toF{S:List D→List D→Prop}(F:FnOk P w K mg base CX0 k f fd ps (jij K S)):FnOk P w K mg base CX0 k f fd ps (spF K S) :=
 F.framed.imp fun vs H Q E ⟨A,ds,l,tb,hA,en,hS,q⟩=>⟨A,hA,ds,l,tb.del hA,en,hS,fun a xs F g n e l' hF=>by
  have na:a∉A:=fun z=>by rw[hF a z]at e;cases e
  refine q a xs _ (Om g) (by rw[j5 na]at n;exact n) (by rw[jh na];exact e) (l'.mono fun b o z=>?_)
  obtain⟨n1,z⟩:=of_del z
  have nb:b∉A:=fun y=>by rw[hF b y]at z;cases z
  rw[j5,jh nb];exact z
  intro y
  rcases xm.mp y with y|y
  ·exact n1 (by rw[y];exact xu.mpr rfl)
  ·exact nb y⟩
end
noncomputable def jfs:List Str:=["dearest_way","cost_on_whole","worst_table","worst_plan","foe_answer","whole_table","whole_plan","mean_price"]
noncomputable def kG(us ws:List Value):List Value:=match ws with
 |[w]=>us++[w]
 |_=>[]
noncomputable def kGV(vs zs:List V):List V:=match zs with
 |[z]=>vs++[z]
 |_=>[]
def Dfl(K:k85)(x:Str)(fd:FuncData)(ps:List Str):Prop:=x∈jfs→Binds K fd ps [.none]∧KBinds K fd ps ["prices"] kG kGV
structure Cal(X:Cx)(x:Str)(sp:Sp):Prop where
 ex:∃(k:Nat)(f:Addr)(fd:FuncData)(ps:List Str),FnOk X.prog X.w X.K X.mg X.base CX0 k f fd ps sp∧Room (k+1) X.A∧X.mg x=some (.ref f)∧W.keepIn X.K (.ref f)=true∧Binds X.K fd ps []∧Dfl X.K x fd ps
section
variable{X:Cx}{ρ:Rho}{e a:Expr}{es:List Expr}{d:D}{ds l:List D}{pos p:Pos}{x:Str}
theorem DE.call{S:List D→D→Prop}(c:Cal X x (spP X.K S))(ha:DA X ρ (e::es) ds)(hS:S ds d)(hg:Gl X x:=by rfl)(hdb:(x==k89)=false:=by decide)
  (he:starEach (e::es) X.env=(false,eval e X.env)::starEach es X.env:=by rfl) (hpl:(backTo pos (starEach es X.env)).any (·.1)=false:=by rfl):DE X ρ (.Call (.Name x p) (e::es) [] pos) d:=fun σ H Q R q=>by
 obtain⟨k,f,fd,ps,F,hr,hm,hk,hb,_⟩:=c.ex;refine(Fy F (hr.mono (T6 _)) hg hm hk hb .nil j2x paS hdb he hpl).to (ha σ H _ R fun vs H1 g1 e1=>?_);show spP X.K S (vs++[]) H1 Q E0;rw[Xr];exact⟨owns ρ,ds,d,R.tb.mono g1,(R.grow g1).owned,e1,hS,fun v H2 g2 z=>q v H2 (g1.trans g2) z⟩
theorem DT.call{S:List D→D→Prop}(c:Cal X x (spP X.K S))(ha:DTA X ρ (e::es) ds)(hS:S ds d)(hg:Gl X x:=by rfl)(hdb:(x==k89)=false:=by decide)
  (he:starEach (e::es) X.env=(false,eval e X.env)::starEach es X.env:=by rfl) (hpl:(backTo pos (starEach es X.env)).any (·.1)=false:=by rfl):DT X ρ (.Call (.Name x p) (e::es) [] pos) d:=fun σ H Q R q=>by
 obtain⟨k,f,fd,ps,F,hr,hm,hk,hb,_⟩:=c.ex;refine(Fy F (hr.mono (T6 _)) hg hm hk hb .nil j2x paS hdb he hpl).to (ha σ H _ R fun vs H1 g1 e1=>?_);show spP X.K S (vs++[]) H1 Q E0;rw[Xr];exact⟨[],ds,d,R.tb.mono g1,(fun a h=>nomatch h),by rw[vy];exact e1,hS,fun v H2 g2 z=>q v H2 (g1.trans g2) (by rw[vy]at z;exact z)⟩
theorem DO.call{S:List D→List D→Prop}(c:Cal X x (spF X.K S))(ha:DA X ρ (e::es) ds)(hS:S ds l)(hg:Gl X x:=by rfl)(hdb:(x==k89)=false:=by decide)
  (he:starEach (e::es) X.env=(false,eval e X.env)::starEach es X.env:=by rfl) (hpl:(backTo pos (starEach es X.env)).any (·.1)=false:=by rfl):DO X ρ (.Call (.Name x p) (e::es) [] pos) l:=fun σ H Q R q=>by
 obtain⟨k,f,fd,ps,F,hr,hm,hk,hb,_⟩:=c.ex;refine(Fy F (hr.mono (T6 _)) hg hm hk hb .nil j2x paS hdb he hpl).to (ha σ H _ R fun vs H1 g1 e1=>?_);show spF X.K S (vs++[]) H1 Q E0;rw[Xr];exact⟨owns ρ,ds,l,R.tb.mono g1,(R.grow g1).owned,e1,hS,fun a xs H2 g2 n m z=>q a xs H2 (g1.trans g2) (g1.free n) m z⟩
end
inductive Rt where
 |val (d:D)
 |fresh (ds:List D)
noncomputable def Rt.d:Rt→D
 |.val d=>d
 |.fresh l=>.lst l
structure Po where
 nx:Rho→Prop
 rt:Rt→Prop
 bk:Rho→Prop:=fun _=>False
 ct:Rho→Prop:=fun _=>False
 ex:Str→Rho→Prop:=fun _ _=>False
structure Fl(N:Addr→Prop)(H:Hp)(h:Heap)(e:Addr)(C:Value):Prop where
 new:∀b,N b→b≠e
 free:H e=none
 obj:∃(oe:Obj)(vs:Array Value)(a0:Value),h.get? e=some oe∧oe.cls=C∧oe.data=.fields vs∧vs[0]?=some a0 ∧
  (vs[1]?=some .none∨∃(T:Addr)(oT:Obj)(ts:Array Value),vs[1]?=some (.ref T)∧T≠e∧h.get? T=some oT∧oT.data=.fields ts∧ts[3]?=some .none∧H T=none∧∀b,N b→b≠T)
def Old(X:Cx)(pins:k87)(b:Addr):Prop:=(∃o,X.s₀.heap.get? b=some o∧b∉X.ex)∨(∃p∈X.pn++pins,p.1=b)∨b=X.env.locals∨∃x,X.env.cells.lookup x=some b
def Du(X:Cx)(σ:St)(H:Hp)(x:Str):Prop:=∀(pins:k87) (H':Hp) (s':Shared) (e:Addr) (C:Value),Inv X pins σ H' s'→j0 H H'→X.mg x=some C→Fl (Old X pins) H' s'.heap e C→X.xe (.ref e) s'
def Fr0(ρ ρ':Rho)(H H':Hp):Prop:=j0 (del H (owns ρ)) (del H' (owns ρ'))
def Bo(K:k85)(ρ:Rho)(H H':Hp)(v:V):Rt→Prop
 |.val d=>j0 (del H (owns ρ)) H'∧Enc K H' d v
 |.fresh ds=>∃a xs,v=.ref a∧j0 (del H (owns ρ)) (del H' [a])∧H' a=some (.lst xs)∧j4 K (del H' [a]) ds xs
structure EndsOk(X:Cx)(ρ:Rho)(H:Hp)(P:Po)(E:Ends):Prop where
 nx:∀ρ' σ' H',P.nx ρ'→Rep X.K ρ' σ' H'→Fr0 ρ ρ' H H'→E.nx σ' H'
 bk:∀ρ' σ' H',P.bk ρ'→Rep X.K ρ' σ' H'→Fr0 ρ ρ' H H'→E.bk σ' H'
 ct:∀ρ' σ' H',P.ct ρ'→Rep X.K ρ' σ' H'→Fr0 ρ ρ' H H'→E.ct σ' H'
 rt:∀r v H',P.rt r→Bo X.K ρ H H' v r→E.rt v H'
 ex:∀x ρ' σ' H',P.ex x ρ'→Rep X.K ρ' σ' H'→Fr0 ρ ρ' H H'→Du X σ' H' x
theorem Bo.step{K:k85}{ρ ρ1:Rho}{H H1 H':Hp}{v:V}{r:Rt}(f:Fr0 ρ ρ1 H H1)(h:Bo K ρ1 H1 H' v r):Bo K ρ H H' v r:=by
 cases r with
 |val d=>exact⟨f.trans h.1,h.2⟩
 |fresh ds=>obtain⟨a,xs,e,g,m,l⟩:=h;exact⟨a,xs,e,f.trans g,m,l⟩
theorem EndsOk.step{X:Cx}{ρ ρ1:Rho}{H H1:Hp}{P:Po}{E:Ends}(h:EndsOk X ρ H P E)(f:Fr0 ρ ρ1 H H1):EndsOk X ρ1 H1 P E :=
 ⟨fun ρ' σ' H' n R g=>h.nx ρ' σ' H' n R (f.trans g),fun ρ' σ' H' n R g=>h.bk ρ' σ' H' n R (f.trans g),fun ρ' σ' H' n R g=>h.ct ρ' σ' H' n R (f.trans g),fun r v H' n g=>h.rt r v H' n (Bo.step f g),fun x ρ' σ' H' n R g=>h.ex x ρ' σ' H' n R (f.trans g)⟩
theorem Fr0.grow{ρ:Rho}{H H':Hp}(g:j0 H H'):Fr0 ρ ρ H H':=je g
theorem Fr0.refl(ρ:Rho)(H:Hp):Fr0 ρ ρ H H:=j0.refl _
theorem Fr0.drop{ρ ρ':Rho}{H:Hp}(h:∀b∈owns ρ',b∈owns ρ):Fr0 ρ ρ' H H:=vq h
theorem Fr0.new{ρ:Rho}{H H':Hp}{i:Nat}{a:Addr}{ds:List D}{K:k85}{σ:St}(R:Rep K ρ σ H)(g:j0 H H')(n:H a=none):Fr0 ρ (ρ.set i (.own a ds)) H H':=fun b o q=>by
 obtain⟨nb,q⟩:=of_del q;rw[j5];exact g b o q;intro z;rcases(Jr (ds:=ds) (i:=i) R.nd (R.fresh n)).2 b z with e|z
 ·subst e;rw[n]at q;cases q
 ·exact nb z
def DS(X:Cx)(ρ:Rho)(st:Stmt)(P:Po):Prop:=∀σ H E,Rep X.K ρ σ H→EndsOk X ρ H P E→j70 X st E σ H
def DSs(X:Cx)(ρ:Rho)(sts:List Stmt)(P:Po):Prop:=∀σ H E,Rep X.K ρ σ H→EndsOk X ρ H P E→N5 X sts E σ H
section
variable{X:Cx}{ρ:Rho}{e a b c:Expr}{es:List Expr}{st:Stmt}{rest sa sb body:List Stmt}{P:Po}{d:D}{ds ds':List D}{pos p p1 p2 p3:Pos}{x:Str}{i:Nat}
theorem DSs.nil(h:P.nx ρ):DSs X ρ [] P:=fun σ H E R q=>j1j.to (q.nx ρ σ H h R (Fr0.refl ρ H))
theorem DSs.cons{N:Rho→Prop}(h1:DS X ρ st { P with nx:=N })(h2:∀ρ1,N ρ1→DSs X ρ1 rest P):DSs X ρ (st::rest) P:=fun σ H E R q =>(Vc psS Rv).to (h1 σ H { E with nx:=N5 X rest E } R ⟨fun ρ' σ' H' n R' f=>h2 ρ' n σ' H' E R' (q.step f),q.bk,q.ct,q.rt,q.ex⟩)
theorem DSs.freeze(i:Nat){l:Addr}(h:ρ[i]?=some (.own l ds))(h2:DSs X (ρ.set i (.val (.lst ds))) body P):DSs X ρ body P:=fun σ H E R q =>h2 σ H E (R.freeze h) (q.step (.drop fun b hb=>(jk rfl).subset hb))
theorem DS.set(i:Nat)(he:DE X ρ e d)(h:P.nx (ρ.set i (.val d)))(hN:X.N.Nodup)(hi:X.N[i]?=some x:=by rfl)(hx:Loc X.env.scope x:=by first|exact Or.inl rfl|exact Or.inr rfl)
  (hs:swapsWith e (some (.Name x p)) pos.line X.env=pure false:=by rfl) (hf:X.fn x=true∨X.env.scope.names.lookup x=some .local:=by first|exact .inl rfl|exact .inr rfl):DS X ρ (.Assign [.Name x p] e pos) P:=fun σ H E R q =>
 (Yu hN hi hx peS hs hf).to (he σ H _ R fun v H1 g1 e1=>q.nx _ _ H1 h ((R.grow g1).set_val e1) (j0.trans (Fr0.grow g1) (Fr0.drop fun b hb=>(jk rfl).subset hb)))
theorem DS.setO(i:Nat)(he:DO X ρ e ds)(h:∀l,P.nx (ρ.set i (.own l ds)))(hN:X.N.Nodup)(hi:X.N[i]?=some x:=by rfl)(hx:Loc X.env.scope x:=by first|exact Or.inl rfl|exact Or.inr rfl)
  (hs:swapsWith e (some (.Name x p)) pos.line X.env=pure false:=by rfl) (hf:X.fn x=true∨X.env.scope.names.lookup x=some .local:=by first|exact .inl rfl|exact .inr rfl):DS X ρ (.Assign [.Name x p] e pos) P:=fun σ H E R q =>
 (Yu hN hi hx peS hs hf).to (he σ H _ R fun l xs H1 g1 n m e1=>q.nx _ _ H1 (h l) (R.set_own g1 n m e1) (.new R g1 n))
theorem DS.if{k:Bool}(hc:DB X ρ c k)(ha:k=true→DSs X ρ sa P)(hb:k=false→DSs X ρ sb P):DS X ρ (.If c sa sb pos) P:=fun σ H E R q =>
 (jh6 ptS Rv Rv).to (hc σ H _ R fun H1 g1=>by
  cases k with
  |true=>exact Eo (ha rfl σ H1 E (R.grow g1) (q.step (.grow g1)))
  |false=>exact Ep (hb rfl σ H1 E (R.grow g1) (q.step (.grow g1))))
theorem DS.ret(he:DT X ρ e d)(h:P.rt (.val d)):DS X ρ (.Return (some e) pos) P:=fun σ H E R q =>(W3 peS).to (he σ H _ R fun v H1 g1 e1=>q.rt _ v H1 h ⟨jm.trans g1,e1⟩)
theorem DS.retO(he:DO X ρ e ds)(h:P.rt (.fresh ds)):DS X ρ (.Return (some e) pos) P:=fun σ H E R q =>
 (W3 peS).to (he σ H _ R fun l xs H1 g1 n m e1=>q.rt _ _ H1 h ⟨l,xs,rfl,(fun b o z=>by
  obtain⟨nb,z⟩:=of_del z
  rw[j5];exact g1 b o z
  intro y;rw[xu.mp y,n]at z;cases z),m,e1.mono (vq fun b hb=>by rw[xu.mp hb];exact xq ..)⟩)
theorem DS.retV(k:Nat){l:Addr}(hk:ρ[k]?=some (.own l ds))(h:P.rt (.fresh ds))(hN:X.N[k]?=some x:=by rfl)(hv:Vis X.env.scope x:=by first|exact Or.inl rfl|exact Or.inr (Or.inl rfl)|exact Or.inr (Or.inr rfl))
  (hd:(x==k89)=false:=by decide) (hcd:(x==k8a)=false:=by decide):DS X ρ (.Return (some (.Name x p)) pos) P:=fun σ H E R q=>by
 obtain⟨hs,xs,m,en⟩:=R.own k l ds hk;have g:j0 (del H (owns ρ)) (del H [l]):=vq fun b hb=>by rw[xu.mp hb];exact Ql hk
 exact(W3 (zr hN hv hd hcd)).to ⟨_,hs,q.rt _ _ H h ⟨l,xs,rfl,g,m,en.mono g⟩⟩
theorem DS.expr(he:DT X ρ e d)(h:P.nx ρ)(hs:swapsWith e none pos.line X.env=pure false:=by rfl):DS X ρ (.Expr e pos) P:=fun σ H E R q =>(Ml peS hs).to (he σ H _ R fun v H1 g1 e1=>q.nx ρ σ H1 h (R.grow g1) (.grow g1))
theorem Ey{σ:St}{H H':Hp}{l:Addr}{o:HO}(hk:ρ[i]?=some (.own l ds))(g:j0 H H'):Fr0 ρ (ρ.set i (.own l ds')) H (upd H' l o):=by unfold Fr0;rw[Vz hk,Wa (Ql hk)];exact je g
theorem DS.append(i:Nat){l:Addr}(hk:ρ[i]?=some (.own l ds))(he:DE X ρ e d)(hl:ds.length<sizeLine)(h:P.nx (ρ.set i (.own l (ds++[d]))))
  (hN:X.N[i]?=some x:=by rfl) (hv:Vis X.env.scope x:=by first|exact Or.inl rfl|exact Or.inr (Or.inl rfl)|exact Or.inr (Or.inr rfl)) (hd:(x==k89)=false:=by decide) (hcd:(x==k8a)=false:=by decide)
  (hst:starEach [e] X.env=[(false,eval e X.env)]:=by rfl) (hline:(p1.endLine==p2.line)=true:=by rfl)
  (hbase:attributeBase (.Name x p) "append" X.env (eval (.Name x p) X.env)=eval (.Name x p) X.env:=by rfl) (hfew:((backTo p2 (starEach [e] X.env)).all (fun x=>!x.1)&&(backToKw p2 (keywordEach [] X.env)).all (fun x=>x.1.isSome)
   && decide (([e]:List Expr).length+([]:List Keyword).length+(if ([]:List Keyword).isEmpty then 0 else 1)<30))=true:=by rfl)
  (hs:swapsWith (.Call (.Attribute (.Name x p) "append" p1) [e] [] p2) none pos.line X.env=pure false:=by rfl) :
  DS X ρ (.Expr (.Call (.Attribute (.Name x p) "append" p1) [e] [] p2) pos) P:=fun σ H E R q=>by
 obtain⟨hσ,xs,m,en⟩:=R.own i l ds hk;refine(Ml (Nb PySem.F.plainAttrs_list PySem.F.slot_list_append PySem.F.type_list_append Cp (zr hN hv hd hcd) (jd peS jw hst) hbase hfew hline hst rfl) hs).to ?_;refine⟨_,hσ,.inl ⟨rfl,xs,.inl (.inl m)⟩,he σ H _ R fun v H1 g1 e1=>⟨l,xs,v,rfl,rfl,g1 _ _ m,by rw[en.length];exact hl,?_⟩⟩;exact q.nx _ σ _ h ((R.grow g1).upd_own hk ((en.mono (je g1)).append (.one e1))) (Ey (σ:=σ) hk g1)
theorem DS.extend(i:Nat){l:Addr}(hk:ρ[i]?=some (.own l ds))(he:DO X ρ e ds')(hl:ds.length+ds'.length≤sizeLine)(h:P.nx (ρ.set i (.own l (ds++ds'))))
  (hN:X.N[i]?=some x:=by rfl) (hv:Vis X.env.scope x:=by first|exact Or.inl rfl|exact Or.inr (Or.inl rfl)|exact Or.inr (Or.inr rfl)) (hd:(x==k89)=false:=by decide) (hcd:(x==k8a)=false:=by decide)
  (hst:starEach [e] X.env=[(false,eval e X.env)]:=by rfl) (hline:(p1.endLine==p2.line)=true:=by rfl)
  (hbase:attributeBase (.Name x p) "extend" X.env (eval (.Name x p) X.env)=eval (.Name x p) X.env:=by rfl) (hfew:((backTo p2 (starEach [e] X.env)).all (fun x=>!x.1)&&(backToKw p2 (keywordEach [] X.env)).all (fun x=>x.1.isSome)
   && decide (([e]:List Expr).length+([]:List Keyword).length+(if ([]:List Keyword).isEmpty then 0 else 1)<30))=true:=by rfl)
  (hs:swapsWith (.Call (.Attribute (.Name x p) "extend" p1) [e] [] p2) none pos.line X.env=pure false:=by rfl) :
  DS X ρ (.Expr (.Call (.Attribute (.Name x p) "extend" p1) [e] [] p2) pos) P:=fun σ H E R q=>by
 obtain⟨hσ,xs,m,en⟩:=R.own i l ds hk;refine(Ml (Nb PySem.F.plainAttrs_list PySem.F.slot_list_extend PySem.F.type_list_extend j57 (zr hN hv hd hcd) (jd peS jw hst) hbase hfew hline hst rfl) hs).to ?_;refine⟨_,hσ,.inl ⟨rfl,xs,.inl (.inl m)⟩,he σ H _ R fun b ys H1 g1 n1 m1 e1=>⟨l,b,xs,ys,rfl,rfl,g1 _ _ m,m1,by rw[en.length,e1.length];exact hl,?_⟩⟩;exact q.nx _ σ _ h ((R.grow g1).upd_own hk ((en.mono (je g1)).append (e1.mono (vq fun c hc=>kj _ hc)))) (Ey (σ:=σ) hk g1)
def Ua(K:k85)(F:Hp)(J:It)(ds:List D):Prop:=∀(i:Nat)(H:Hp)(A:List Addr),j0 F (del H A)→(∀a∈A,H a≠none) →
 (i<ds.length→J.go i H)∧(ds.length≤i→J.stop i H)∧∀x H',J.yld i H x H'→j0 H H'∧∀d,ds[i]?=some d→Enc K (del H' A) d x
def DI(X:Cx)(ρ:Rho)(tg it:Expr)(ds:List D):Prop:=∀σ H R,Rep X.K ρ σ H→(∀J H',j0 H H'→Ua X.K (del H' (owns ρ)) J ds→R J H')→Ii X tg it σ H R
variable{tg it:Expr}
theorem j5e{K:k85}{F:Hp}{l:Addr}{xs:List V}(sq:SqL K F l xs)(en:j4 K F ds xs):Ua K F (Itl K l) ds:=fun i H A g hA=>by
 have sq':SqL K H l xs:=jm.seq (g.seq sq);refine⟨fun h=>?_,fun h=>⟨xs,sq',by rw[en.length];exact h⟩,fun x H' ⟨e,y⟩=>?_⟩
 ·obtain⟨v,hv,_⟩:=en.get (kh h);exact⟨xs,v,sq',hv⟩
 ·subst e;refine⟨j0.refl _,fun d hd=>?_⟩;obtain⟨v,hv,ev⟩:=en.get hd;have e:=y xs sq';rw[hv]at e;cases e;exact ev.mono g
theorem j7w{K:k85}{F:Hp}{l:Addr}{xs:List V}(sq:SqT K F l xs)(en:j4 K F ds xs):Ua K F (Itt K l) ds:=fun i H A g hA=>by
 have sq':SqT K H l xs:=jm.seqT (g.seqT sq);refine⟨fun h=>?_,fun h=>⟨xs,sq',by rw[en.length];exact h⟩,fun x H' ⟨e,y⟩=>?_⟩
 ·obtain⟨v,hv,_⟩:=en.get (kh h);exact⟨xs,v,sq',hv⟩
 ·subst e;refine⟨j0.refl _,fun d hd=>?_⟩;obtain⟨v,hv,ev⟩:=en.get hd;have e:=y xs sq';rw[hv]at e;cases e;exact ev.mono g
theorem DI.lst(h:DE X ρ it (.lst ds)):DI X ρ tg it ds:=fun σ H R r q=>(jb5 peS).to (h σ H _ r fun v H1 g1 ⟨l,xs,e,sq,en⟩=>⟨l,e,⟨xs,jm.seq sq⟩,q _ H1 g1 (j5e sq en)⟩)
theorem DI.tup(h:DE X ρ it (.tup ds)):DI X ρ tg it ds:=fun σ H R r q=>(jds peS).to (h σ H _ r fun v H1 g1 ⟨l,xs,e,sq,en⟩=>⟨l,e,⟨xs,jm.seqT sq⟩,q _ H1 g1 (j7w sq en)⟩)
noncomputable def upto(lo:Int)(n:Nat):List D:=(List.range n).map fun k=>D.int (lo+(k:Nat))
theorem Ng{K:k85}{F:Hp}(lo:Int)(n:Nat):Ua K F (Itr lo n) (upto lo n):=fun i H A g hA=>by
 have hl:(upto lo n).length=n:=by unfold upto;rw[km,ph]
 rw[hl];refine⟨fun h=>h,fun h=>h,fun x H' ⟨e,y⟩=>?_⟩;subst e;refine⟨j0.refl _,fun d hd=>?_⟩;unfold upto at hd;rw[X7]at hd;cases z:(List.range n)[i]? with
 |none=>rw[z]at hd;cases hd
 |some k =>
  rw[z]at hd;have ek:k=i:=by have:=List.getElem?_range (n:=n) (i:=i) (by have:=(Xa.mp z).1;rwa [ph]at this);rw[this]at z;exact(Option.some.inj z).symm
  subst ek;cases hd;exact y
theorem DI.range1 {n:Int} (h:DT X ρ a (.int n)) (hm:X.mg "range" = none) (h1:-(2^62)≤n) (h2:n<2^62) (hg:Gl X "range":=by rfl) (hs:starEach [a] X.env=[(false,eval a X.env)]:=by rfl):DI X ρ tg (.Call (.Name "range" p) [a] [] pos) (upto 0 n.toNat):=fun σ H R r q =>(j4x hg hm (jd peS jw hs) hs).to (h σ H _ r fun v H1 g1 e=>⟨n,by rw[show v=.int n from e],h1,h2,q _ H1 g1 (Ng 0 _)⟩)
theorem DI.range2 {m n:Int} (h:DT X ρ a (.int m)) (h':DT X ρ b (.int n)) (hm:X.mg "range" = none) (h1:-(2^62)≤m) (h2:m<2^62) (h3:-(2^62)≤n) (h4:n<2^62) (hg:Gl X "range":=by rfl) (hs:starEach [a,b] X.env=[(false,eval a X.env),(false,eval b X.env)]:=by rfl)
  (hs2:starEach [b] X.env=[(false,eval b X.env)]:=by rfl) (hs3:starEach [a,b] X.env=(false,eval a X.env)::starEach [b] X.env:=by rfl):DI X ρ tg (.Call (.Name "range" p) [a,b] [] pos) (upto m (n-m).toNat):=fun σ H R r q =>
 (j4w hg hm (jd peS (jd peS jw hs2) hs3) hs hs2).to (h σ H _ r fun v H1 g1 e=>h' σ H1 _ (r.grow g1) fun u H2 g2 e2=>⟨m,n,by rw[show v=.int m from e,show u=.int n from e2],⟨h1,h2,h3,h4⟩,q _ H2 (g1.trans g2) (Ng m _)⟩)
def j71(X:Cx)(tg:Expr):TG:=fun v σ H Q=>∀pins s u,Inv X pins σ H s→RelV v u→wpAny (model X.prog X.w) X.A (assign tg X.env u) (fun _ s'=>∃σ' H',Inv X pins σ' H' s'∧Q σ' H') X.xe s
theorem pgS:PG X tg (j71 X tg):=fun pins s σ H v u Q I r h=>h pins s u I r
theorem PG.to{t:TG}{σ:St}{H:Hp}{v:V}{Q:St→Hp→Prop}(h:PG X tg t)(q:t v σ H Q):j71 X tg v σ H Q:=fun pins s u I r=>h pins s σ H v u Q I r q
def DG(X:Cx)(ρ:Rho)(tg:Expr)(d:D)(ρ':Rho):Prop:=(∀b∈owns ρ',b∈owns ρ)∧∀σ H v Q,Rep X.K ρ σ H→Enc X.K (del H (owns ρ)) d v→(∀σ',Rep X.K ρ' σ' H→Q σ' H)→j71 X tg v σ H Q
theorem DG.name(i:Nat)(hN:X.N.Nodup)(hi:X.N[i]?=some x:=by rfl)(hx:Loc X.env.scope x:=by first|exact Or.inl rfl|exact Or.inr rfl)(hf:X.fn x=true∨X.env.scope.names.lookup x=some .local:=by first|exact .inl rfl|exact .inr rfl):DG X ρ (.Name x p) d (ρ.set i (.val d)) :=
 ⟨fun b hb=>(jk rfl).subset hb,fun σ H v Q R en q=>(W4 hN hi hx hf).to (q _ (R.set_val en))⟩
theorem DS.for(W:Nat→Rho→Prop)(hi:DI X ρ tg it ds)(h0:W 0 ρ)(hs:∀i d ρ',ds[i]?=some d→W i ρ'→∃ρ2,DG X ρ' tg d ρ2∧DSs X ρ2 body { nx:=W (i+1),rt:=P.rt,bk:=P.nx,ct:=W (i+1),ex:=P.ex })
  (hd:∀ρ',W ds.length ρ'→P.nx ρ') (hc:X.calm=true) (hp:PassesOwn (model X.prog X.w) X.A X.env X.xe) (hf:∀x,foldedSetIterable it X.env x=pure x:=by intro _;rfl):DS X ρ (.For tg it body [] pos) P:=fun σ H E R q=>by
 refine(Io hp hc piS pgS Rv hf).to (hi σ H _ R fun J H1 g1 ok=>?_);refine⟨fun i m σ' H'=>∃ρ',W i ρ'∧Rep X.K ρ' σ' H'∧Fr0 ρ ρ' H1 H'∧m=ds.length-i∧i≤ds.length,⟨ds.length,ρ,h0,R.grow g1,Fr0.refl _ _,rfl,Nat.zero_le _⟩,?_⟩;rintro i m σ' H' ⟨ρ',w,R',f,rfl,hle⟩;obtain⟨go,stop,yld⟩:=ok i H' (owns ρ') f fun a ha=>by obtain⟨xs,e⟩:=R'.owned a ha;rw[e];simp
 by_cases hlt:i<ds.length
 ·refine .inr ⟨go hlt,fun σ2 H2=>∃ρ2,W (i+1) ρ2∧Rep X.K ρ2 σ2 H2∧Fr0 ρ ρ2 H1 H2,fun σ2 H2 ⟨ρ2,w2,R2,f2⟩=>⟨ds.length-(i+1),by omega,ρ2,w2,R2,f2,rfl,hlt⟩,fun x H2 y=>?_⟩;obtain⟨g2,en⟩:=yld x H2 y;obtain⟨ρ2,⟨sub,hG⟩,hB⟩:=hs i ds[i] ρ' (kh hlt) w;refine hG σ' H2 x _ (R'.grow g2) (en _ (kh hlt)) fun σ3 R3=>?_;have f2:Fr0 ρ ρ2 H1 H2:=j0.trans f (j0.trans (Fr0.grow g2) (Fr0.drop sub));refine hB σ3 H2 _ R3 ⟨fun ρ3 σ4 H4 n R4 f4=>⟨ρ3,n,R4,f2.trans f4⟩,fun ρ3 σ4 H4 n R4 f4=>q.nx ρ3 σ4 H4 n R4 ((Fr0.grow g1).trans (f2.trans f4)),fun ρ3 σ4 H4 n R4 f4=>⟨ρ3,n,R4,f2.trans f4⟩,fun r v H4 n z=>q.rt r v H4 n (Bo.step ((Fr0.grow g1).trans f2) z),fun x ρ3 σ4 H4 n R4 f4=>q.ex x ρ3 σ4 H4 n R4 ((Fr0.grow g1).trans (f2.trans f4))⟩
 ·have e:i=ds.length:=by omega
  subst e;exact .inl ⟨stop (xx _),q.nx ρ' σ' H' (hd ρ' w) R' ((Fr0.grow g1).trans f)⟩
end
noncomputable def qp(N:List Str)(ds:List D):Rho:=ds.map Sl.val++List.replicate (N.length-ds.length) Sl.un
theorem Vn(N:List Str)(ds:List D):owns (qp N ds)=[]:=by
 unfold owns qp;rw[List.filterMap_append];have h1:(ds.map Sl.val).filterMap Sl.addr=[]:=List.filterMap_eq_nil_iff.mpr fun s hs=>by obtain⟨d,_,rfl⟩:=Xf.mp hs;rfl
 have h2:(List.replicate (N.length-ds.length) Sl.un).filterMap Sl.addr=[]:=List.filterMap_eq_nil_iff.mpr fun s hs=>by rw[(T5.mp hs).2];rfl
 rw[h1,h2];rfl
theorem Ue{K:k85}{H:Hp}{N:List Str}{ds:List D}{vs:List V}(tb:TabOk K H)(h:j4 K H ds vs):Rep K (qp N ds) (start N vs) H:=by
 have ho:=Vn N ds;have hl:=h.length;refine⟨by unfold qp start;simp[hl],fun i d e=>?_,fun i a l e=>?_,by rw[ho];exact List.nodup_nil,fun i a o y e=>?_,tb⟩
 ·rw[ho,vy];unfold qp at e;by_cases z:i<ds.length
  ·rw[Pa (by simpa using z),X7]at e;rw[kh z]at e;cases e;obtain⟨v,hv,en⟩:=h.get (kh z);refine⟨v,?_,en⟩;unfold start;rw[Pa (by rw[km,hl];exact z),X7,hv];rfl
  ·rw[List.getElem?_append_right (by simpa using z)]at e;have:=Xl e;cases(T5.mp this).2
 ·have:=Ql e;rw[ho]at this;cases this
 ·unfold qp at e;rcases t7.mp (Xl e)with z|z
  ·obtain⟨d,_,q⟩:=Xf.mp z;cases q
  ·cases(T5.mp z).2
section
variable{P:Program}{w:World}{K:k85}{mg:k88}{base:Heap}{x qual:Str}{st:Stmt}{f:Addr}{fd:FuncData}{N ps:List Str}{k:Nat}
def Mh(K:k85)(f:Addr)(cdv:Value):Prop:=∃(oc:Value)(od:Option Addr)(fd:FuncData)(sl:Array (Option Value)),K.lookup f=some ⟨oc,od,.func fd,sl⟩∧fd.code=cdv
theorem Fun.okC{sp:Sp}(F:Fun K x qual st f fd)(S:FnScope N ps (j7 st))(len:∀vs H Q E,sp vs H Q E→vs.length=ps.length)
  (hbody:∀(cdv:Value)(A:Around)(outer:List Env)(s:Shared)(H:Hp)(vs:List V)(Q:VK) (E:XK),Mh K f cdv→Room k (A.deeper (envOfC qual (j7 st) s.heap.objs.size f cdv))→sp vs H Q E →
   ∃t,PSs (zj CX0 P w K mg base N qual (j7 st) f cdv A outer s H E).nox (jl st) t∧t { nx:=fun _ H'=>Q .non H',rt:=Q } (start N vs) H):FnOk P w K mg base CX0 (k+1) f fd ps sp:=by
 obtain⟨oc,od,dV,kV,doc,pm,an,cdv,ct,osl,rfl,lk,hcd⟩:=F.ex;refine ja0 lk hcd S len fun A outer s H vs Q E hr hsp=>?_;obtain⟨t,h,q⟩:=hbody cdv A outer s H vs Q E ⟨oc,od,_,osl,lk,rfl⟩ hr hsp;exact⟨t,h.nox,q⟩
theorem Dm{S:List D→D→Prop}(F:Fun K x qual st f fd)(Sc:FnScope N ps (j7 st))(hl:∀ds d,S ds d→ds.length=ps.length)
  (hbody:∀(cdv:Value)(A:Around)(outer:List Env)(s:Shared)(H:Hp)(E:XK),Mh K f cdv→Room k (A.deeper (envOfC qual (j7 st) s.heap.objs.size f cdv))→∀ds d,S ds d →
   DSs (zj CX0 P w K mg base N qual (j7 st) f cdv A outer s H E).nox (qp N ds) (jl st) { nx:=fun _=>d=.non,rt:=fun r=>r.d=d }):FnOk P w K mg base CX0 (k+1) f fd ps (spP K S):=by
 refine FnOk.toP (F.okC Sc (fun vs H Q E ⟨ds,d,tb,en,hS,_⟩=>by rw[en.length];exact hl ds d hS) fun cdv A outer s H vs Q E hcv hr ⟨ds,d,tb,en,hS,q⟩=>⟨_,Rv,?_⟩);have ho:=Vn N ds;refine hbody cdv A outer s H E hcv hr ds d hS (start N vs) H _ (Ue tb en) ⟨fun ρ' σ' H' n R f=>?_,fun _ _ _ z=>z.elim,fun _ _ _ z=>z.elim,fun r v H' n z=>?_,fun _ _ _ _ z=>z.elim⟩
 ·subst n;unfold Fr0 at f;rw[ho,vy]at f;exact q _ H' (f.trans jm) rfl
 ·cases r with
  |val d' =>cases(show d'=d from n);obtain⟨g,en'⟩:=z;rw[ho,vy]at g;exact q v H' g en'
  |fresh l =>cases(show D.lst l=d from n);obtain⟨a,xs,e,g,m,en'⟩:=z;rw[ho,vy]at g;exact q v H' (g.trans jm) ⟨a,xs,e,.inl (.inl m),en'.mono jm⟩
theorem j88{S:List D→List D→Prop}(F:Fun K x qual st f fd)(Sc:FnScope N ps (j7 st))(hl:∀ds d,S ds d→ds.length=ps.length)
  (hbody:∀(cdv:Value)(A:Around)(outer:List Env)(s:Shared)(H:Hp)(E:XK),Mh K f cdv→Room k (A.deeper (envOfC qual (j7 st) s.heap.objs.size f cdv))→∀ds l,S ds l →
   DSs (zj CX0 P w K mg base N qual (j7 st) f cdv A outer s H E).nox (qp N ds) (jl st) { nx:=fun _=>False,rt:=fun r=>r=.fresh l }):FnOk P w K mg base CX0 (k+1) f fd ps (spF K S):=by
 refine FnOk.toF (F.okC Sc (fun vs H Q E ⟨ds,d,tb,en,hS,_⟩=>by rw[en.length];exact hl ds d hS) fun cdv A outer s H vs Q E hcv hr ⟨ds,l,tb,en,hS,q⟩=>⟨_,Rv,?_⟩);have ho:=Vn N ds;refine hbody cdv A outer s H E hcv hr ds l hS (start N vs) H _ (Ue tb en) ⟨fun ρ' σ' H' n R f=>n.elim,fun _ _ _ z=>z.elim,fun _ _ _ z=>z.elim,fun r v H' n z=>?_,fun _ _ _ _ z=>z.elim⟩;cases(show r=.fresh l from n);obtain⟨a,xs,e,g,m,en'⟩:=z;rw[ho,vy]at g;subst e;refine q a xs H' (g.trans jm) ?_ m en';cases y:H a with
 |none=>rfl
 |some o=>have:=g a o y;rw[q8 (xu.mpr rfl)]at this;cases this
end
end L2
end
section
namespace L2
open PySem PySem.Spec PyProof.Rows
section
variable{prog:Program}{w:World}{A:Around}{R:Result→Shared→Prop}{s:Shared}
theorem j07{elt target iter:Expr}{ifs:List Expr}{scope:Scope}{pos:Pos}{it acc:Value}{env:Env}(I:Nat→Shared→Prop)
  (turn:∀n s,I n s→wpAny (model prog w) A (pyNext it) (fun r s₁=>match r with
   |none=>R (.ok .next) s₁
   |some v=>wpAny (model prog w) A (letOwnedTupleGo target it v) (fun _ s₁'=>wpAny (model prog w) A (assign target env v) (fun _ s₂ =>
     wpAny (model prog w) A (forIn ifs true fun c r=>if r=true then do let ok ←isTrue c env (eval c env);pure (ForInStep.yield ok)else pure (ForInStep.yield r)) (fun ok s₃ =>
      if ok=true then wpAny (model prog w) A (eval elt env) (fun x s₄ =>
       wpAny (model prog w) A (call (.builtin "list.append") [acc,x]) (fun _ s₅=>∃m,m<n∧I m s₅) (fun _ _=>False) s₄) (fun _ _=>False) s₃
      else ∃m,m<n∧I m s₃) (fun _ _=>False) s₂) (fun _ _=>False) s₁') (fun _ _=>False) s₁) (fun _ _=>False) s)
  (n:Nat) (h:I n s) :
  codeAny (model prog w) A (.compLoop (.ListComp elt [⟨target,iter,ifs,0⟩] scope pos) 0 it acc env) R s:=by
 refine codeAny_loop rfl I (fun n s hI=>?_) n h;show wpAny _ A ((compTurn (.ListComp elt [⟨target,iter,ifs,0⟩] scope pos) 0 it acc env).onRaise (fun x=>do noteFrame x env;theTreesLotGoes x)) _ _ s;refine wpAny_noted ?_;rw[compTurn_list];refine wpAny_bind (wpAny_standAt (wpAny_bind (wpAny_mono (turn n s hI) (fun r s₁ h₁=>?_) fun _ _ h'=>h'.elim)));cases r with
 |none=>exact wpAny_pure h₁
 |some v =>
  refine wpAny_bind (wpAny_mono h₁ (fun _ s₁' h₁'=>?_) fun _ _ h'=>h'.elim);refine wpAny_bind (wpAny_mono h₁' (fun _ s₂ h₂=>wpAny_bind (wpAny_mono h₂ (fun ok s₃ h₃=>?_) fun _ _ h'=>h'.elim)) fun _ _ h'=>h'.elim);cases ok with
  |false=>exact wpAny_pure ⟨rfl,h₃⟩
  |true =>exact wpAny_bind (wpAny_bind (wpAny_mono h₃ (fun x s₄ h₄=>wpAny_bind (wpAny_mono h₄ (fun _ s₅ h₅=>wpAny_pure (wpAny_pure ⟨rfl,h₅⟩)) fun _ _ h'=>h'.elim)) fun _ _ h'=>h'.elim))
end
noncomputable def zu(env:Env):List (Str×NameKind)→List (Str×Addr)→List (Str×Addr)
 |[],acc=>acc
 |(n,k)::r,acc=>zu env r (if k==.free then(match env.cells.lookup n with|some a=>(n,a)::acc|none=>acc)else acc)
theorem Nt{scope:Scope}{env:Env}(h:∀y∈scope.names,y.2=.free→(env.cells.lookup y.1).isSome=true):closureFor scope env=pure (zu env scope.names []):=by
 simp only[closureFor];have step:∀(names:List (Str×NameKind)) (acc:List (Str×Addr)),(∀y∈names,y.2=.free→(env.cells.lookup y.1).isSome=true) →
   (forIn names acc (fun x r=>(do if (x.2==NameKind.free)=true then(do let a ←cellOf env x.1;pure (ForInStep.yield ((x.1,a)::r)))else pure (ForInStep.yield r):Sem _)):Sem _)=pure (zu env names acc):=by
  intro names;induction names with
  |nil=>intro acc _;rfl
  |cons y r ih =>
   intro acc hy;obtain⟨n,k⟩:=y;rw[List.forIn_cons];by_cases e:(k==NameKind.free)=true
   ·have hk:k=.free:=by simpa using e
    have hs:=hy (n,k) (xq ..) hk;obtain⟨a,ha⟩:=Xn.mp hs;have hc:cellOf env n=pure a:=by unfold cellOf;rw[ha]
    simp only[e,if_true,hc,pure_bind];rw[ih _ fun z hz=>hy z (kj _ hz)];simp only[zu,e,if_true,ha]
   ·have e':(k==NameKind.free)=false:=by simpa using e
    simp only[e',Xw,if_false,pure_bind];rw[ih _ fun z hz=>hy z (kj _ hz)];simp only[zu,e',Xw,if_false]
 have:=step scope.names [] h;rw[show(forIn scope.names ([]:List (Str×Addr)) fun x r=>_)=_ from this];rfl
theorem Le{env:Env}{y:Str}{c:Addr}:∀{names:List (Str×NameKind)} {acc:List (Str×Addr)},(∀y c,acc.lookup y=some c→env.cells.lookup y=some c)→(zu env names acc).lookup y=some c→env.cells.lookup y=some c
 |[],acc,h,q=>h y c q
 |(n,k)::r,acc,h,q=>by
  unfold zu at q;refine Le (acc:=_) ?_ q;intro z d hz;split at hz
  ·split at hz
   ·rename_i a ha;rw[Xi]at hz;split at hz
    ·rename_i e;have e':z=n:=by simpa using e
     subst e';cases hz;exact ha
    ·exact h z d hz
   ·exact h z d hz
  ·exact h z d hz
theorem Nu{env:Env}{y:Str}:∀{names:List (Str×NameKind)} {acc:List (Str×Addr)},(acc.lookup y).isSome=true→((zu env names acc).lookup y).isSome=true
 |[],acc,h=>h
 |(n,k)::r,acc,h=>by
  unfold zu;refine Nu ?_;split
  ·split
   ·rw[Xi];split
    ·rfl
    ·exact h
   ·exact h
  ·exact h
theorem Wx{env:Env}{y:Str}(hs:(env.cells.lookup y).isSome=true):∀{names:List (Str×NameKind)} {acc:List (Str×Addr)},(y,NameKind.free)∈names→((zu env names acc).lookup y).isSome=true
 |[],acc,h=>nomatch h
 |(n,k)::r,acc,h=>by
  unfold zu;rcases xm.mp h with e|h
  ·cases e;refine Nu ?_;obtain⟨a,ha⟩:=Xn.mp hs;rw[if_pos (by rfl),ha];rw[Xi];simp
  ·exact Wx hs h
noncomputable def Jt(scope:Scope)(env:Env)(N:List Str)(cs:List Nat):Bool :=
 scope.names.all (fun y=>(y.2 != .cell || scope.names.lookup y.1==some .cell)&&(y.2 != .local || scope.names.lookup y.1==some .local)&&(y.2 != .free || ((env.cells.lookup y.1).isSome&&(env.kindOf y.1==some .cell || env.kindOf y.1==some .free)))) &&
 (List.range N.length).all (fun j=>cs.contains j || (match N[j]? with|some y=>scope.names.lookup y != some .local&&scope.names.lookup y != some .cell|none=>true))
theorem lookup_mem{α β:Type}[BEq α][LawfulBEq α]{l:List (α×β)}{a:α}{b:β}(h:l.lookup a=some b):(a,b)∈l:=by
 induction l with
 |nil=>cases h
 |cons x r ih =>
  obtain⟨c,d⟩:=x;rw[Xi]at h;split at h
  ·rename_i e;cases h;have e':a=c:=by simpa using e
   subst e';exact xq ..
  ·exact kj _ (ih h)
theorem J9{env:Env}{x:Str}{k':NameKind}:∀{names:List (Str×NameKind)},
  (names.map fun(n,k)=>if (k==NameKind.free&&env.scope.kind==.function&&env.kindOf n==some .cell) then(n,NameKind.cell) else(n,k)).lookup x=some k' →
  ∃k,names.lookup x=some k∧(k'=k∨(k=.free∧k'=.cell))
 |[],h=>by cases h
 |(n,k)::r,h=>by
  rw[xr]at h;rw[Xi];by_cases hc:(k==NameKind.free&&env.scope.kind==.function&&env.kindOf n==some .cell)=true
  ·dsimp only at h;rw[if_pos hc,Xi]at h;cases e:x==n with
   |true =>
    rw[e]at h;cases h;have:(k==NameKind.free)=true:=by
     cases z:k==NameKind.free with
     |true=>rfl
     |false=>rw[z]at hc;simp at hc
    exact⟨k,rfl,.inr ⟨by simpa using this,rfl⟩⟩
   |false=>rw[e]at h;exact J9 h
  ·dsimp only at h;rw[if_neg hc,Xi]at h;cases e:x==n with
   |true=>rw[e]at h;cases h;exact⟨_,rfl,.inl rfl⟩
   |false=>rw[e]at h;exact J9 h
theorem U6:∀(names:List (Str×NameKind)) (n:Nat) (acc:List (Str×Addr)),cellsFrom n names acc=cellsFrom n names []++acc
 |[],_,_=>rfl
 |(x,k)::r,n,acc=>by
  unfold cellsFrom;split
  ·rw[U6 r (n+1) ((x,n)::acc),U6 r (n+1) [(x,n)],Tq];rfl
  ·exact U6 r n acc
theorem Nv:∀{names:List (Str×NameKind)} {n:Nat} {x:Str} {c:Addr},(x,c)∈cellsFrom n names []→(x,NameKind.cell)∈names∧n≤c
 |[],_,_,_,h=>nomatch h
 |(y,k)::r,n,x,c,h=>by
  unfold cellsFrom at h;split at h
  ·rename_i hk;rw[U6]at h;rcases t7.mp h with h|h
   ·have q:=Nv h;exact⟨kj _ q.1,Nat.le_of_succ_le q.2⟩
   ·cases xu.mp h;have hk:k=NameKind.cell:=by simpa using hk
    subst hk;exact⟨xq ..,xx _⟩
  ·have q:=Nv h;exact⟨kj _ q.1,q.2⟩
theorem Ye{β:Type}:∀{l m:List (Str×β)} {y:Str},(l++m).lookup y=(l.lookup y).or (m.lookup y)
 |[],m,y=>rfl
 |(x,b)::r,m,y=>by
  rw[List.cons_append,Xi,Xi];split
  ·rfl
  ·exact Ye
theorem Lg{names:List (Str×NameKind)}{n:Nat}{acc:List (Str×Addr)}{y:Str}{c:Addr}(h:(cellsFrom n names acc).lookup y=some c) :
  ((y,c)∈cellsFrom n names []∧(y,NameKind.cell)∈names∧n≤c)∨((cellsFrom n names []).lookup y=none∧acc.lookup y=some c):=by
 rw[U6,Ye]at h;cases e:(cellsFrom n names []).lookup y with
 |some c'=>rw[e]at h;cases h;have q:=lookup_mem e;exact .inl ⟨q,Nv q⟩
 |none=>rw[e]at h;exact .inr ⟨rfl,h⟩
theorem jg3{names:List (Str×NameKind)}{n:Nat}{acc:List (Str×Addr)}{y:Str}(h:(y,NameKind.cell)∉names):(cellsFrom n names acc).lookup y=acc.lookup y:=by
 rw[U6,Ye];cases e:(cellsFrom n names []).lookup y with
 |some c'=>exact absurd (Nv (lookup_mem e)).1 h
 |none=>rfl
theorem jcd{names:List (Str×NameKind)}{n:Nat}{acc:List (Str×Addr)}{y:Str}(h:(acc.lookup y).isSome=true):∃c,(cellsFrom n names acc).lookup y=some c:=by
 rw[U6,Ye];cases e:(cellsFrom n names []).lookup y with
 |some c'=>exact⟨c',rfl⟩
 |none=>obtain⟨c,hc⟩:=Xn.mp h;exact⟨c,hc⟩
theorem Ed{M:Model}{A:Around}{E:k86}{s:Shared}{scope:Scope}{globals:Addr}{closure:List (Str×Addr)}{qual:Str}{env:Env}{Q:Env→Shared→Prop}
  (hQ:Q { scope:=scope,locals:=s.heap.objs.size,globals:=globals,cells:=cellsFrom (s.heap.objs.size+1) scope.names closure,qual:=qual,func:=none,code:=env.code,frame:=env.frame,builtins:=env.builtins }
   { s with heap:=pushCells (s.heap.push { cls:=.type "dict",data:=.dict #[] }) scope.names }) :
  wpAny M A (newFunctionEnv scope globals closure [] qual none .none (some env)) Q E s:=by
 simp only[newFunctionEnv,Option.isSome_some,if_true];refine wpAny_bind (wpAny_alloc ?_);refine wpAny_bind (wpAny_layCells _ (fun name kind cells=>by cases hkc:kind==NameKind.cell<;>simp[hkc]) _ _ _ _ ?_);rw[show({ s with heap:=s.heap.push { cls:=.type "dict",data:=.dict #[] } }:Shared).heap.objs.size=s.heap.objs.size+1 from Heap.size_push ..];exact wpAny_bind (wpAny_pure (wpAny_pure hQ))
noncomputable abbrev cCx(X:Cx)(scope:Scope)(C:Addr)(s:Shared)(H:Hp)(fp:List Addr)(pn:k87):Cx :=
 { X with env:=compEnvC scope (cellsFrom (C+1) scope.names (zu X.env scope.names [])) C X.env,s₀:=s,H₀:=H,outer:=X.stack,stack:=X.stack,ex:=fp,fn:=fun x=>scope.names.lookup x==some .cell,pn:=pn,xe:=fun _ _=>False }
noncomputable def Uc(scope:Scope)(y:Str):Bool:=scope.names.lookup y==some .local || scope.names.lookup y==some .cell
theorem Va{env:Env}:∀{names:List (Str×NameKind)} {x:Str},names.lookup x=some .cell →
  (names.map fun(n,k)=>if (k==NameKind.free&&env.scope.kind==.function&&env.kindOf n==some .cell) then(n,NameKind.cell) else(n,k)).lookup x=some .cell
 |[],_,h=>by simp at h
 |(n,k)::r,x,h=>by
  have ih:=@Va env r x;rw[xr];cases hx:x==n with
  |true =>simp only[Xi,hx]at h;cases h;simp[Xi,hx]
  |false =>
   simp only[Xi,hx]at h;dsimp only;by_cases hc:(k==NameKind.free&&env.scope.kind==.function&&env.kindOf n==some .cell)=true
   ·rw[if_pos hc];simp only[Xi,hx];exact ih h
   ·rw[if_neg hc];simp only[Xi,hx];exact ih h
theorem Mi{X:Cx}{scope:Scope}{C:Addr}{s:Shared}{H:Hp}{fp:List Addr}{pn:k87}{y:Str}(h:Uc scope y=true):Loc (cCx X scope C s H fp pn).env.scope y:=by
 unfold Uc at h;rw[Bool.or_eq_true]at h;rcases h with h|h
 ·exact .inl (lookup_relabel_local (by simpa using h))
 ·exact .inr (Va (by simpa using h))
theorem Bu{X:Cx}{scope:Scope}{C:Addr}{s:Shared}{H:Hp}{fp:List Addr}{pn:k87}{y:Str}(h:Uc scope y=true):(cCx X scope C s H fp pn).fn y=true∨(cCx X scope C s H fp pn).env.scope.names.lookup y=some .local:=by
 unfold Uc at h;rw[Bool.or_eq_true]at h;rcases h with h|h
 ·exact .inr (lookup_relabel_local (by simpa using h))
 ·exact .inl h
def DTs(X:Cx)(ρ:Rho)(ifs:List Expr)(b:Bool):Prop:=match ifs with
 |[]=>b=true
 |[c]=>DB X ρ c b
 |_=>False
theorem DTs.nil{X:Cx}{ρ:Rho}:DTs X ρ [] true:=rfl
theorem DTs.one{X:Cx}{ρ:Rho}{c:Expr}{b:Bool}(h:DB X ρ c b):DTs X ρ [c] b:=h
theorem DTs.run{X:Cx}{ρ:Rho}{ifs:List Expr}{b:Bool}(h:DTs X ρ ifs b){pins:k87}{σ:St}{H:Hp}{s:Shared}(I:Inv X pins σ H s)(R:Rep X.K ρ σ H) :
  wpAny (model X.prog X.w) X.A (forIn ifs true fun c r=>if r=true then do let ok ←isTrue c X.env (eval c X.env);pure (ForInStep.yield ok)else pure (ForInStep.yield r)) (fun ok s'=>ok=b∧∃H',Inv X pins σ H' s'∧j0 H H') X.xe s:=by
 match ifs,h with
 |[],h=>exact wpAny_tests_nil ⟨h.symm,H,I,j0.refl H⟩
 |[c],h=>exact wpAny_tests_one (thn (h σ H (fun k H'=>k=b∧j0 H H') R (fun H' g=>⟨rfl,g⟩) pins s I) fun k s' ⟨H',I',e,g⟩=>⟨e,H',I',g⟩)
theorem Rep.weaken{K:k85}{ρ:Rho}{σ σ':St}{H:Hp}(R:Rep K ρ σ H)(hl:σ'.length=σ.length)(h:∀(i:Nat),ρ[i]?≠some .un→σ'[i]?=σ[i]?):Rep K ρ σ' H :=
 ⟨by rw[hl,R.len],fun i d e=>let ⟨v,q,z⟩:=R.val i d e;⟨v,by rw[h i (by rw[e];simp)];exact q,z⟩,fun i a ds e=>let ⟨q,z⟩:=R.own i a ds e;⟨by rw[h i (by rw[e];simp)];exact q,z⟩,R.nd,fun i a o x e=>let ⟨q,z⟩:=R.raw i a o x e;⟨by rw[h i (by rw[e];simp)];exact q,z⟩,R.tb⟩
noncomputable def mask(cs:List Nat)(σ:St):St:=σ.mapIdx fun j v=>if cs.contains j then none else v
theorem O7(cs:List Nat)(σ:St):(mask cs σ).length=σ.length:=by unfold mask;simp
theorem j7p{cs:List Nat}{σ:St}{j:Nat}{v:V}(h:(mask cs σ)[j]?=some (some v)):j∉cs∧σ[j]?=some (some v):=by
 unfold mask at h;rw[List.getElem?_mapIdx]at h;cases e:σ[j]? with
 |none=>rw[e]at h;cases h
 |some u =>
  rw[e]at h;have h':(if cs.contains j then none else u)=some v:=Option.some.inj h;by_cases z:cs.contains j=true
  ·rw[if_pos z]at h';cases h'
  ·rw[if_neg z]at h';subst h';exact⟨fun y=>z (by simpa using y),rfl⟩
theorem j7o{cs:List Nat}{σ:St}{j:Nat}(h:j∉cs):(mask cs σ)[j]?=σ[j]?:=by
 unfold mask;rw[List.getElem?_mapIdx];cases e:σ[j]? with
 |none=>rfl
 |some u=>simp[h]
def Wk(ρ2 ρ:Rho):Prop:=∀K σ H,Rep K ρ2 σ H→Rep K ρ σ H
theorem Qu(H:Hp)(A B:List Addr):del (del H A) B=del H (A++B):=funext fun b=>by unfold del;by_cases h1:b∈A<;>by_cases h2:b∈B<;>simp[h1,h2]
structure Loose(X:Cx)(pins:k87)(H:Hp)(C:Addr):Prop where
 free:H C=none
 loc:C≠X.env.locals
 new:X.s₀.heap.objs.size≤C
 cell:∀x c,X.env.cells.lookup x=some c→c≠C
 pin:∀p∈X.pn++pins,p.1≠C
section
variable{X:Cx}{pins:k87}{σ:St}{H2:Hp}{s2:Shared}{ρ:Rho}{tg elt iter:Expr}{ifs:List Expr}{scope:Scope}{pos:Pos}{ds:List D}{cs:List Nat}{p:D→Bool}{g:D→D}
theorem Lb{J:It}{fp:List Addr}{it:Addr}{tn:Nat→Heap→Prop}(I2:Inv X pins σ H2 s2)(R2:Rep X.K ρ σ H2)(T:Turn X.prog X.w X.K tg J fp it tn)(st2:tn 0 s2.heap)(f2:∀b∈fp,Z1 X pins H2 b)
  (ok:Ua X.K (del H2 (owns ρ)) J ds) (hc:X.calm=true) (hkind:scope.kind=.function) (hok:Jt scope X.env X.N cs=true) (hcs:∀j∈cs,ρ[j]?=some .un) (hsz:ds.length≤sizeLine)
  (hb:∀C s H fp pn,∀d∈ds,∃ρ2,DG (cCx X scope C s H fp pn) ρ tg d ρ2∧Wk ρ2 ρ∧owns ρ2=owns ρ∧DTs (cCx X scope C s H fp pn) ρ2 ifs (p d)∧(p d=true→DE (cCx X scope C s H fp pn) ρ2 elt (g d)))
  {E:k86} {RR:Value→Addr→Result→Shared→Prop}
  (hRR:∀D C xs H' s' m,Inv X pins σ H' s'→j0 H2 H'→H2 D=none→H' D=some (.lst xs)→j4 X.K (del H' (D::owns ρ)) ((ds.filter p).map g) xs→s'.heap.Ns C m→Loose X pins H' C→RR (.ref D) C (.ok .next) s') :
  wpAny (model X.prog X.w) X.A (newList []) (fun acc s₃=>wpAny (model X.prog X.w) X.A (newFunctionEnv scope X.env.globals (zu X.env scope.names []) [] X.env.qual none .none (some X.env)) (fun cenv s₄ =>
   codeAny (model X.prog X.w) X.A (.compStart (.ListComp elt [⟨tg,iter,ifs,0⟩] scope pos) 0 (.ref it) acc { cenv with scope:=relabel scope X.env }) (RR acc cenv.locals) s₄) E s₃) E s2:=by
 unfold Jt at hok;rw[Xb]at hok;obtain⟨hn,hN⟩:=hok;have hn':∀y∈scope.names,(y.2=.cell→scope.names.lookup y.1=some .cell)∧(y.2=.free→(X.env.cells.lookup y.1).isSome=true∧(X.env.kindOf y.1=some .cell∨X.env.kindOf y.1=some .free)):=fun y hy=>by have:=Xo.mp hn y hy;simp only[Xb,bne_iff_ne,ne_eq,Bool.or_eq_true,beq_iff_eq]at this;obtain⟨⟨a,_⟩,c⟩:=this;exact⟨fun e=>a.elim (fun z=>absurd e z) id,fun e=>c.elim (fun z=>absurd e z) id⟩
 have nocell:∀{y:Str},scope.names.lookup y=some .free→(y,NameKind.cell)∉scope.names:=fun{y} h z=>by have q:=(hn' _ z).1 rfl;rw[h]at q;cases q
 have hloc:∀(j:Nat)(y:Str),X.N[j]?=some y→j∉cs→scope.names.lookup y≠some .local∧scope.names.lookup y≠some .cell:=fun j y hj hc=>by
  have hlt:j<X.N.length:=(Xa.mp hj).1;have:=Xo.mp hN j (Xg.mpr hlt);rw[hj]at this;simp only[Bool.or_eq_true,Xb,bne_iff_ne,ne_eq]at this;rcases this with z|z
  ·exact absurd (by simpa using z) hc
  ·exact z
 have cl_of:∀{y:Str}{c:Addr},(zu X.env scope.names []).lookup y=some c→X.env.cells.lookup y=some c:=fun{y c} h=>Le (fun _ _ z=>by cases z) h;refine wpAny_newObj_type (Ed ?_);dsimp only;generalize hH2:s2.heap.push { cls:=.type "list",dict:=none,data:=.seq ([]:List Value).toArray }=hp2;have keep1:∀b o,hp2.get? b=some o→(pushCells (hp2.push { cls:=.type "dict",data:=.dict #[] }) scope.names).get? b=some o:=fun b o e=>pushCells_keeps _ _ b o (xj _ e);have hns₁:(pushCells (hp2.push { cls:=.type "dict",data:=.dict #[] }) scope.names).Ns hp2.objs.size (fun _=>none):=(Heap.Ns.new hp2 (.type "dict")).keeps (pushCells_keeps _ _);have okl:=cellsFrom_ok scope.names (hp2.push { cls:=.type "dict",data:=.dict #[] }) (hp2.objs.size+1) [] ⟨fun _ _ hm=>(nomatch hm),List.Pairwise.nil⟩ (by rw[Heap.size_push];exact xx _);rw[Heap.size_push]at okl;generalize pushCells (hp2.push { cls:=.type "dict",data:=.dict #[] }) scope.names=h₁ at keep1 hns₁ okl ⊢;have hC:hp2.objs.size=s2.heap.objs.size+1:=by rw[←hH2,Heap.size_push]
 have hDC:s2.heap.objs.size≠hp2.objs.size:=by rw[hC];exact X8 (Nat.lt_succ_self _)
 have hCle:s2.heap.objs.size≤hp2.objs.size:=by rw[hC];exact T6 _
 have below:∀b,b<s2.heap.objs.size→b≠hp2.objs.size∧b≠s2.heap.objs.size:=fun b hb=>⟨by rw[hC];exact X8 (Nat.lt_succ_of_lt hb),X8 hb⟩
 have old:∀b o,s2.heap.get? b=some o→h₁.get? b=some o:=fun b o e=>keep1 b o (hH2▸xj _ e);have hacc:h₁.get? s2.heap.objs.size=some { cls:=.type "list",dict:=none,data:=.seq ([]:List Value).toArray }:=keep1 _ _ (hH2▸X5 _ rfl);have none_of:∀b,s2.heap.objs.size≤b→s2.heap.get? b=none:=fun b hb=>by
  cases e:s2.heap.get? b with
  |none=>rfl
  |some o'=>exact absurd (xn e) (Nat.not_lt.mpr hb)
 have hD0:H2 s2.heap.objs.size=none:=I2.fresh;generalize hDd:s2.heap.objs.size=Dd at *;generalize hCc:hp2.objs.size=C at *;have hC0:H2 C=none:=I2.hok.fresh (by rw[hDd];exact hCle);have pinlt:∀p∈X.pn++pins,p.1<Dd:=fun p hp=>by rw[←hDd];exact xn (I2.pin p hp).1
 have celllt:∀y c,X.env.cells.lookup y=some c→c<Dd:=fun y c h=>by obtain⟨v,o,e,_⟩:=I2.cell y c h;rw[←hDd];exact xn e
 have loclt:X.env.locals<Dd:=by rw[←hDd];exact I2.lt
 have fplt:∀b∈fp,b<Dd:=fun b hb=>by obtain⟨o,e,_⟩:=T.obj _ _ st2 b hb;rw[←hDd];exact xn e
 have hDlt:Dd<C:=by omega
 have cellD:∀{y:Str}{c:Addr},(cellsFrom (C+1) scope.names (zu X.env scope.names [])).lookup y=some c→((y,c)∈cellsFrom (C+1) scope.names []∧C+1≤c)∨X.env.cells.lookup y=some c:=fun{y c} h=>by
  rcases Lg h with ⟨q,_,z⟩|⟨_,q⟩
  ·exact .inl ⟨q,z⟩
  ·exact .inr (cl_of q)
 have celln:∀{y:Str}{c b:Addr},(cellsFrom (C+1) scope.names (zu X.env scope.names [])).lookup y=some c→b<Dd→(∀c,X.env.cells.lookup y=some c→c≠b)→c≠b:=fun{y c b} h hb ho=>by
  rcases cellD h with ⟨_,z⟩|q
  ·exact tu (Xy hb (Xy hDlt (Tt z)))
  ·exact ho c q
 have okc:(cCx X scope C s2 H2 fp (X.pn++pins)).Ok:={
  mod:=I2.ok.mod
  kind:=hkind
  glob:=I2.ok.glob
  blt:=I2.ok.blt
  above:=by show s2.heap.objs.size≤C;rw[hDd];exact hCle
  inj:=fun x y c h1 h2=>by
   rcases cellD h1 with ⟨m1,z1⟩|q1<;>rcases cellD h2 with ⟨m2,z2⟩|q2
   ·exact name_of_addr okl.apart m1 m2
   ·exact absurd (Xy (celllt y c q2) (Xy hDlt (Tt z1))) (Xv _)
   ·exact absurd (Xy (celllt x c q1) (Xy hDlt (Tt z2))) (Xv _)
   ·exact I2.ok.inj x y c q1 q2
  has:=fun x h=>by
   have key:∀k',(relabel scope X.env).names.lookup x=some k'→(k'=.cell∨k'=.free)→∃c,(cellsFrom (C+1) scope.names (zu X.env scope.names [])).lookup x=some c:=fun k' hk hk'=>by
    obtain⟨k,hl,e⟩:=J9 hk
    have hm:=lookup_mem hl
    have hk0:k=.free∨k=.cell:=by
     rcases e with e|e
     ·subst e
      exact hk'.symm
     ·exact .inl e.1
    rcases hk0 with hk0|hk0
    ·subst hk0
     exact jcd (Wx ((hn' _ hm).2 rfl).1 hm)
    ·subst hk0
     exact Xn.mp (W.cellsFrom_some _ _ _ (.inl hl))
   rcases h with h|h
   ·exact key _ h (.inl rfl)
   ·exact key _ h (.inr rfl)
  cab:=fun x c h h2=>by
   have hx:scope.names.lookup x=some .cell:=by simpa using h
   show s2.heap.objs.size≤c
   rw[hDd]
   rcases Lg h2 with ⟨_,_,z⟩|⟨z,_⟩
   ·exact Nat.le_of_lt (Xy hDlt (Tt z))
   ·obtain⟨c',hc'⟩:=Xn.mp (W.cellsFrom_some scope.names (C+1) [] (.inl hx))
    rw[z]at hc';cases hc'
  hd:=I2.ok.hd
  frames:=I2.ok.frames
  stk:=.inl rfl
  exf:=fun b hb=>⟨X8 (Xy (fplt b hb) hDlt),fun x c h=>celln h (fplt b hb) fun c q=>(f2 b hb).2.2.2.2.1 x c q⟩
  bs:=I2.bs
  bsz:=Xm I2.ok.bsz I2.sz
  noex:=fun b o e hb=>by
   rcases(f2 b hb).2.2.2.1 with z|z
   ·exact I2.ok.noex b o e z
   ·exact absurd (xn e) (Nat.not_lt.mpr (Xm I2.ok.bsz z))
  exfs:=fun b hb hf=>by
   rcases xm.mp (I2.stkSub b hf)with z|z
   ·exact(f2 b hb).2.1 z
   ·exact(f2 b hb).2.2.1 z
  funs:=I2.stack
  frf:=I2.stkFree }
 have hpush:HOk X.prog X.w (upd H2 Dd (.lst [])) h₁:=HOk.laid I2.hok old (by rw[hDd];exact xx _) ⟨Nat.zero_le _,[],_,.nil,hacc⟩;have I0:Inv (cCx X scope C s2 H2 fp (X.pn++pins)) [] (mask cs σ) (upd H2 Dd (.lst [])) { s2 with heap:=h₁ }:={
  ok:=okc
  os:=rfl
  bare:=I2.bare
  base:=Un.laid old (by rw[hDd];exact xx _) hD0
  loc:=by
   refine⟨_,hns₁,fun j y v hj hv hvis=>?_⟩
   obtain⟨hjc,hσ⟩:=j7p hv
   obtain⟨m,hm,hlook⟩:=I2.loc
   have key:∀k',(relabel scope X.env).names.lookup y=some k'→scope.names.lookup y=some .free:=fun k' hk=>by
    obtain⟨k,hl,e⟩:=J9 hk
    have hmm:=lookup_mem hl
    have:k=.free:=by
     rcases e with e|e
     ·subst e
      rcases hvis with z|z|z
      ·have z:=hk.symm.trans z;cases z;exact absurd hl (hloc j y hj hjc).1
      ·have z:=hk.symm.trans z;cases z;exact absurd hl (hloc j y hj hjc).2
      ·have z:=hk.symm.trans z;cases z;rfl
     ·exact e.1
    rw[hl,this]
   have hfree:scope.names.lookup y=some .free:=by rcases hvis with z|z|z<;>exact key _ z
   have hmm:=lookup_mem hfree
   obtain⟨hs,hk⟩:=(hn' _ hmm).2 rfl
   have hvis':Vis X.env.scope y:=by rcases hk with z|z;exact .inr (.inl z);exact .inr (.inr z)
   obtain⟨u,ru,look⟩:=hlook j y v hj hσ hvis'
   refine⟨u,ru,?_⟩
   rcases look with ⟨z,_⟩|⟨_,c,hcl,hcv⟩
   ·rcases hk with y'|y'<;>rw[y']at z<;>cases z
   ·refine .inr ⟨?_,c,?_,?_⟩
    ·rcases hvis with z|z|z
     ·exfalso
      obtain⟨k,hl,e⟩:=J9 z
      rw[hfree]at hl;cases hl
      rcases e with e|e
      ·cases e
      ·cases e.2
     ·exact .inl z
     ·exact .inr z
    ·obtain⟨c',hc'⟩:=Xn.mp (Wx (acc:=[]) hs hmm)
     have:=cl_of hc'
     rw[hcl]at this;cases this
     exact(jg3 (nocell hfree)).trans hc'
    ·obtain⟨o,e,d⟩:=hcv
     exact⟨o,old _ _ e,d⟩
  cell:=fun x c h=>by
   rcases cellD h with ⟨q,_⟩|q
   ·exact⟨_,(okl.empty x c q).1⟩
   ·obtain⟨v,o,e,d⟩:=I2.cell x c q
    exact⟨v,o,old _ _ e,d⟩
  free:=by show upd H2 Dd (.lst []) C=none;rw[jb (tu hDlt)];exact hC0
  freeC:=fun x c h=>by
   rcases cellD h with ⟨_,z⟩|q
   ·rw[jb (tu (Xy hDlt (Tt z)))];exact I2.hok.fresh (by rw[hDd];exact Nat.le_of_lt (Xy hDlt (Tt z)))
   ·rw[jb (X8 (celllt x c q))];exact I2.freeC x c q
  pin:=fun p hp=>by
   rw[Xr]at hp
   obtain⟨h1,h2,h3,h4,h5⟩:=I2.pin p hp
   have hlt:=pinlt p hp
   refine⟨old _ _ h1,by rw[jb (X8 hlt)];exact h2,X8 (Xy hlt hDlt),fun z=>?_,h5⟩
   rcases xm.mp (I2.stkSub _ z)with y|y
   ·exact h3 y
   ·exact h4 y
  hok:=hpush
  len:=by rw[O7];exact I2.len }
 have hDo:Dd∉owns ρ:=R2.fresh hD0;have fpok:∀{H':Hp},(∀b∈fp,H' b=none)→∀b∈fp,Z1 (cCx X scope C s2 H2 fp (X.pn++pins)) [] H' b:=fun{H'} hn b hb =>⟨hn b hb,X8 (Xy (fplt b hb) hDlt),okc.exfs b hb,.inl hb,fun x c h=>celln h (fplt b hb) fun c q=>(f2 b hb).2.2.2.2.1 x c q,fun p hp=>by rw[Xr]at hp;exact(f2 b hb).2.2.2.2.2 p hp⟩
 have R0:Rep X.K ρ (mask cs σ) H2:=R2.weaken (O7 _ _) fun j hj=>j7o fun z=>hj (hcs j z);have e0:del (upd H2 Dd (.lst [])) [Dd]=H2:=by
  rw[Wa (xu.mpr rfl)]
  funext b
  by_cases z:b∈[Dd]
  ·rw[q8 z,xu.mp z,hD0]
  ·exact j5 z
 have loop:∀s₃:Shared,s₃={ s2 with heap:=h₁ } →
   codeAny (model X.prog X.w) X.A (.compLoop (.ListComp elt [⟨tg,iter,ifs,0⟩] scope pos) 0 (.ref it) (.ref Dd) (compEnvC scope (cellsFrom (C+1) scope.names (zu X.env scope.names [])) C X.env)) (RR (.ref Dd) C) s₃:=by
  rintro s₃ rfl;refine j07 (fun n s=>∃i σ' H' ys,Inv (cCx X scope C s2 H2 fp (X.pn++pins)) [] σ' H' s∧tn i s.heap∧(∀b∈fp,H' b=none)∧i≤ds.length∧n=ds.length-i∧Rep X.K ρ σ' (del H' [Dd])∧j0 H2 (del H' [Dd])∧H' Dd=some (.lst ys) ∧
   j4 X.K (del H' (Dd::owns ρ)) (((ds.take i).filter p).map g) ys) ?_ ds.length
   ⟨0,mask cs σ,upd H2 Dd (.lst []),[],I0,T.keep _ _ _ st2 (fun b _ o e=>old b o e),fun b hb=>by rw[jb (X8 (fplt b hb))];exact(f2 b hb).1,Nat.zero_le _,rfl,by rw[e0];exact R0,by rw[e0];exact j0.refl _,j9,rfl⟩
  rintro n s3 ⟨i,σ3,H3,ys,I3,st3,fr3,hle,rfl,R3,g3,m3,en3⟩;have F3:j0 (del H2 (owns ρ)) (del H3 (Dd::owns ρ)):=by
   have:del H3 (Dd::owns ρ)=del (del H3 [Dd]) (owns ρ):=by rw[Qu];rfl
   rw[this];exact je g3
  obtain⟨go,stop,yld⟩:=ok i H3 (Dd::owns ρ) F3 fun a ha=>by
   rcases xm.mp ha with e|ha
   ·rw[e,m3];simp
   ·obtain⟨xs,e⟩:=R3.owned a ha;rw[(of_del e).2];simp
  by_cases hlt:i<ds.length
  ·refine thn (T.item (cCx X scope C s2 H2 fp (X.pn++pins)) rfl rfl rfl hc i [] s3 σ3 H3 (fun _ _=>False) I3 (fpok fr3) st3 (go hlt)) fun r s4 ⟨u,hr,h4⟩=>?_;subst hr;refine thn h4 fun _ s5 ⟨x,H5,I5,r5,y5,st5,fr5⟩=>?_;obtain⟨g5,en5⟩:=yld x H5 y5;have hd:ds[i]?=some ds[i]:=kh hlt;obtain⟨ρ2,⟨sub,hG⟩,wk,eo,hT,hE⟩:=hb C s2 H2 fp (X.pn++pins) ds[i] (Ph hlt);have m5:H5 Dd=some (.lst ys):=g5 _ _ m3;have hA:∀a∈[Dd],Hd (H5 a):=fun a ha=>.inl ⟨ys,by rw[xu.mp ha];exact m5⟩;have I5p:=I5.pinned (fpok fr5) (T.obj _ _ st5);have I5h:=I5p.hide hA;have R5:Rep X.K ρ σ3 (del H5 [Dd]):=R3.grow (je g5);have en5':Enc X.K (del (del H5 [Dd]) (owns ρ)) ds[i] x:=by rw[Qu];exact en5 _ hd
   refine thn (hG σ3 (del H5 [Dd]) x (fun σ6 F6=>F6=del H5 [Dd]∧Rep X.K ρ2 σ6 F6) R5 en5' (fun σ6 R6=>⟨rfl,R6⟩) _ s5 u I5h r5) fun _ s6 ⟨σ6,F6,I6,e6,R6⟩=>?_;subst e6;refine thn (hT.run I6 R6) fun okv s7 ⟨e7,F7,I7,g7⟩=>?_;subst e7;have R7:Rep X.K ρ σ6 F7:=wk _ _ _ (R6.grow g7);have g27:j0 H2 F7:=g3.trans ((je g5).trans g7);have en7:j4 X.K (del F7 (owns ρ)) (((ds.take i).filter p).map g) ys:=en3.mono (by
    have:del H3 (Dd::owns ρ)=del (del H3 [Dd]) (owns ρ):=by rw[Qu];rfl
    rw[this];exact je ((je g5).trans g7))
   have again:∀{F:Hp}{s':Shared},Inv (cCx X scope C s2 H2 fp (X.pn++pins)) ([]++Yw fp s5.heap) σ6 F s'→Inv (cCx X scope C s2 H2 fp (X.pn++pins)) [] σ6 F s'∧tn (i+1) s'.heap∧∀b∈fp,F b=none:=fun{F s'} I=>by refine⟨I.unpinned,T.keep _ _ _ st5 fun b hb o e=>(I.pin (b,o) (Xh _ (Xh _ (Qq hb e)))).1,fun b hb=>?_⟩;obtain⟨o,e,d⟩:=T.obj _ _ st5 b hb;exact(I.pin (b,o) (Xh _ (Xh _ (Qq hb e)))).2.1
   have tk:ds.take (i+1)=ds.take i++[ds[i]]:=by rw[List.take_add_one,hd];rfl
   cases hp:p ds[i] with
   |false =>
    rw[if_neg xg];obtain⟨hF,I8⟩:=I5p.unhide hA I7;obtain⟨I9,st9,fr9⟩:=again I8;refine⟨ds.length-(i+1),by omega,i+1,σ6,_,ys,I9,st9,fr9,hlt,rfl,by rw[Yo hF];exact R7,by rw[Yo hF];exact g27,by rw[J8 (xu.mpr rfl)];exact m5,?_⟩;have:del (mrg [Dd] H5 F7) (Dd::owns ρ)=del F7 (owns ρ):=by
     have e:del (mrg [Dd] H5 F7) (Dd::owns ρ)=del (del (mrg [Dd] H5 F7) [Dd]) (owns ρ):=by rw[Qu];rfl
     rw[e,Yo hF]
    rw[this,tk,List.filter_append];have e:[ds[i]].filter p=[]:=by simp[hp]
    rw[e,Xr];exact en7
   |true =>
    rw[if_pos rfl];refine thn (hE hp σ6 F7 (fun v F8=>j0 F7 F8∧Enc X.K (del F8 (owns ρ2)) (g ds[i]) v) (R6.grow g7) (fun v F8 g8 e8=>⟨g8,e8⟩) _ s7 I7) fun y s8 ⟨v,F8,I8,r8,g8,e8⟩=>?_;obtain⟨hF,I8'⟩:=I5p.unhide hA I8;rw[eo]at e8;have eH:del (mrg [Dd] H5 F8) (Dd::owns ρ)=del F8 (owns ρ):=by
     have e:del (mrg [Dd] H5 F8) (Dd::owns ρ)=del (del (mrg [Dd] H5 F8) [Dd]) (owns ρ):=by rw[Qu];rfl
     rw[e,Yo hF]
    have hlen:ys.length<sizeLine:=by have e1:=en7.length;have e2:((ds.take i).filter p).length≤(ds.take i).length:=List.length_filter_le _ _;rw[km]at e1;rw[Xq]at e2;omega
    refine thn (Cp _ s8 σ6 (mrg [Dd] H5 F8) (.ref Dd) [v] (.ref Dd) [y] (fun _ H9=>H9=upd (mrg [Dd] H5 F8) Dd (.lst (ys++[v]))) I8' rfl (.cons r8 .nil)
     ⟨Dd,ys,v,rfl,rfl,by rw[J8 (xu.mpr rfl)];exact m5,hlen,rfl⟩) fun _ s9 ⟨_,H9,I9,_,e9⟩=>?_
    subst e9;obtain⟨I10,st10,fr10⟩:=again I9;have ed:del (upd (mrg [Dd] H5 F8) Dd (.lst (ys++[v]))) [Dd]=F8:=by rw[Wa (xu.mpr rfl),Yo hF]
    refine⟨ds.length-(i+1),by omega,i+1,σ6,_,ys++[v],I10,st10,fr10,hlt,rfl,by rw[ed];exact R7.grow g8,by rw[ed];exact g27.trans g8,j9,?_⟩;rw[Wa (xq ..),eH,tk,List.filter_append,Xj];have e:[ds[i]].filter p=[ds[i]]:=by simp[hp]
    rw[e];exact(en7.mono (je g8)).append (.one e8)
  ·have hi:i=ds.length:=by omega
   subst hi;refine thn (T.done (cCx X scope C s2 H2 fp (X.pn++pins)) rfl rfl rfl hc ds.length [] s3 σ3 H3 (fun _ _=>False) I3 (fpok fr3) st3 (stop (xx _))) fun r s4 ⟨hr,I4⟩=>?_;subst hr;rw[List.take_length]at en3;obtain⟨m,hm,_⟩:=I4.loc;refine hRR Dd C ys H3 s4 m ?_ (g3.trans jm) hD0 m3 en3 hm ⟨I4.free,tu (Xy loclt hDlt),?_,fun x c h=>X8 (Xy (celllt x c h) hDlt),fun p hp=>X8 (Xy (pinlt p hp) hDlt)⟩
   ·exact I2.call' (ch:=fp) I4.os I4.base I4.hok I4.bare fun b hb=>⟨(f2 b hb).2.2.2.1,(f2 b hb).2.1,(f2 b hb).2.2.2.2.1,(f2 b hb).2.2.2.2.2⟩
   ·have:=I2.sz;omega
 exact codeAny_compStart_list (loop _ rfl) (T.self _ 0 _ _ _ (T.keep _ _ _ st2 (fun b _ o e=>old b o e)) (loop _ rfl))
end
end L2
end
section
namespace L2
open PySem PySem.Spec PyProof.Rows
section
variable{X:Cx}{ρ:Rho}{tg elt iter:Expr}{ifs:List Expr}{scope:Scope}{pos p1 spos:Pos}{ds:List D}{cs:List Nat}{p:D→Bool}{g:D→D}{x:Str}{P:Po}
theorem Oa{env:Env}{N:List Str}(h:Jt scope env N cs=true):∀y∈scope.names,y.2=.free→(env.cells.lookup y.1).isSome=true:=fun y hy e=>by unfold Jt at h;rw[Xb]at h;have:=Xo.mp h.1 y hy;simp only[Xb,bne_iff_ne,ne_eq,Bool.or_eq_true]at this;exact this.2.elim (fun z=>absurd e z) fun z=>z.1
theorem M8{env:Env}{N:List Str}(h:Jt scope env N cs=true):∀y∈scope.names,y.2=.local→scope.names.lookup y.1=some .local:=fun y hy e=>by unfold Jt at h;rw[Xb]at h;have:=Xo.mp h.1 y hy;simp only[Xb,bne_iff_ne,ne_eq,Bool.or_eq_true,beq_iff_eq]at this;exact this.1.2.elim (fun z=>absurd e z) fun z=>z
theorem Inv.loose{pins:k87}{σ:St}{H:Hp}{s:Shared}{C:Addr}{h':Heap}(I:Inv X pins σ H s)(L:Loose X pins H C)(sb:Heap.SameBut C s.heap h'):Inv X pins σ H { s with heap:=h' } :=
 I.turned (t':=s.toks) (fun b o hb e=>sb.extBut b o hb e) L.free L.loc (.inr L.new) L.cell L.pin
theorem DO.comp(cs:List Nat)(p:D→Bool)(g:D→D)(hi:DI X ρ tg iter ds)
  (hb:∀C s H fp pn,∀d∈ds,∃ρ2,DG (cCx X scope C s H fp pn) ρ tg d ρ2∧Wk ρ2 ρ∧owns ρ2=owns ρ∧DTs (cCx X scope C s H fp pn) ρ2 ifs (p d)∧(p d=true→DE (cCx X scope C s H fp pn) ρ2 elt (g d)))
  (hcs:∀j∈cs,ρ[j]?=some .un) (hsz:ds.length≤sizeLine) (hc:X.calm=true:=by rfl) (hkind:scope.kind=.function:=by rfl) (hok:Jt scope X.env X.N cs=true:=by rfl)
  (hs:∀x,foldedSetIterable iter X.env x=pure x:=by intro _;rfl):DO X ρ (.ListComp elt [⟨tg,iter,ifs,0⟩] scope pos) ((ds.filter p).map g):=fun σ H Q R q pins s I=>by
 rw[eval_ListComp];refine wpAny_comprehension_free (use:=none) rfl hs (Nt (Oa hok)) hkind (M8 hok) (thn (hi σ H (fun J H'=>j0 H H'∧Ua X.K (del H' (owns ρ)) J ds) R (fun J H' g1 ok=>⟨g1,ok⟩) pins s I) fun v s1 h1=>thn h1 fun itv s2 h2=>?_);obtain⟨it,fp,tn,J,H2,e,I2,T,st2,f2,g2,ok⟩:=h2;subst e;refine Lb (RR:=fun acc C=>compPost (model X.prog X.w) X.A X.xe none (EP X pins σ Q) acc C) I2 (R.grow g2) T st2 f2 ok hc hkind hok hcs hsz hb ?_;intro D C xs H' s' m I' gg n m' en hm L;exact⟨m,hm,fun h' sb=>⟨.ref D,H',I'.loose L sb,rfl,q D xs H' (g2.trans gg) (g2.free n) m' en⟩⟩
theorem Wk.set{i:Nat}{d:D}(h:ρ[i]?=some .un):Wk (ρ.set i (.val d)) ρ:=fun K σ H R=>by
 have q:=R.set_un (i:=i) (v:=(σ[i]?).join);have e:σ.set i ((σ[i]?).join)=σ:=by
  apply List.ext_getElem?;intro j;rw[List.getElem?_set];split
  ·rename_i h;subst h;split
   ·rename_i h;rw[kh h];rfl
   ·rename_i h;rw[Xz (by omega)]
  ·rfl
 have e2:(ρ.set i (.val d)).set i .un=ρ:=by
  rw[List.set_set];apply List.ext_getElem?;intro j;rw[List.getElem?_set];split
  ·rename_i z;subst z;split
   ·rw[h]
   ·rename_i z;rw[Xz (by omega)]at h;cases h
  ·rfl
 rw[e,e2]at q;exact q
theorem Vo{i:Nat}{d:D}(h:ρ[i]?=some .un):owns (ρ.set i (.val d))=owns ρ:=O5 rfl fun a l z=>by rw[h]at z;cases z
end
end L2
end
section
namespace L2
open PySem PySem.Spec PyProof.Rows
section
variable{prog:Program}{w:World}{A:Around}{E:k86}{s:Shared}
theorem j3m{j t:Addr}{k:Nat}{its:Array Value}{y:Value}{Q:k86}(hj:s.heap.IsTupleIter j t k)(ht:s.heap.IsTuple t its)(hy:its[k]?=some y)
  (q:∀h',h'.IsTupleIter j t (k+1)→Heap.SameBut j s.heap h'→Q y { s with heap:=h' }):wpAny (model prog w) A (Builtin.SmallTypes.nextOf (.ref j)) Q E s:=by
 obtain⟨o,ho,hc,hd⟩:=id hj;obtain⟨ot,hot,_,m,hdt⟩:=ht;unfold Builtin.SmallTypes.nextOf;refine wpAny_bind (wpAny_callSpecial?_slot (name:=Str.ofString "__next__") hj.typeIs F.slot_tuple_iterator_next (wpAny_call_entry F.slot_tuple_iterator_next hj.typeIs F.entry_tuple_iterator_next ?_ (F.args_tuple_iterator_next_1 _)));show wpAny _ _ (field (.ref j) 0 >>= _) _ _ s;refine wpAny_bind (wpAny_field ho hd (x:=.ref t) rfl ?_);show wpAny _ _ (if (Value.ref t==Value.none)=true then _ else _) _ _ s;rw[if_neg (show ¬((Value.ref t==Value.none)=true)from xg)];show wpAny _ _ (field (.ref j) 1 >>= _) _ _ s;refine wpAny_bind (wpAny_field ho hd (x:=.int k 0) rfl ?_);show wpAny _ _ (seqItems? (.ref t) >>= _) _ _ s;refine wpAny_bind (wpAny_seqItems hot hdt ?_);simp only[Xc,hy];refine wpAny_bind (wpAny_setField ho hd (by simp) (wpAny_pure ⟨y,rfl,wpAny_pure (q _ ?_ (t8 ..))⟩));exact⟨_,Heap.get?_update_self _ ho (Obj.isFreed_of_fields (Obj.data_mapFields hd _)),(Obj.cls_mapFields ..).trans hc,by rw[Obj.data_mapFields hd];simp[rawInt]⟩
theorem j5s{j t:Addr}{k:Nat}{its:Array Value}{Q:k86}(hh:A.handled=none)(hj:s.heap.IsTupleIter j t k)(ht:s.heap.IsTuple t its)(hy:its[k]?=none)
  (q:∀h' x,Heap.ExtBut j s.heap h'→(∃o,h'.get? x=some o∧o.cls=.type "StopIteration")→E (.ref x) { s with heap:=h' }):wpAny (model prog w) A (Builtin.SmallTypes.nextOf (.ref j)) Q E s:=by
 obtain⟨o,ho,hc,hd⟩:=id hj;obtain⟨ot,hot,_,m,hdt⟩:=ht;unfold Builtin.SmallTypes.nextOf;refine wpAny_bind (wpAny_callSpecial?_slot (name:=Str.ofString "__next__") hj.typeIs F.slot_tuple_iterator_next (wpAny_call_entry F.slot_tuple_iterator_next hj.typeIs F.entry_tuple_iterator_next ?_ (F.args_tuple_iterator_next_1 _)));show wpAny _ _ (field (.ref j) 0 >>= _) _ _ s;refine wpAny_bind (wpAny_field ho hd (x:=.ref t) rfl ?_);show wpAny _ _ (if (Value.ref t==Value.none)=true then _ else _) _ _ s;rw[if_neg (show ¬((Value.ref t==Value.none)=true)from xg)];show wpAny _ _ (field (.ref j) 1 >>= _) _ _ s;refine wpAny_bind (wpAny_field ho hd (x:=.int k 0) rfl ?_);show wpAny _ _ (seqItems? (.ref t) >>= _) _ _ s;refine wpAny_bind (wpAny_seqItems hot hdt ?_);simp only[Xc,hy];refine wpAny_bind (wpAny_rule (wpAny_bind (wpAny_setField ho hd (by simp) ?_)));show wpAny _ _ (newExc (.type "StopIteration") [] >>= _) _ _ _;refine wpAny_bind ?_;simp only[newExc,newTuple];refine wpAny_bind (wpAny_newObj_type ?_ (by size_fits));refine wpAny_bind (m:=firstArgMember _ _) (wpAny_of_eq (a:=Value.none) (by first|rfl|(simp only[firstArgMember];rfl)) ?_);refine wpAny_newObj_type ?_ (by size_fits);simp only[raiseNew];refine wpAny_bind (wpAny_handled ?_)
 first|rw[show A.in1.handled=none from hh]|rw[hh]
 refine wpAny_bind (wpAny_pure (wpAny_throw ?_));exact q _ _ (((t8 ..).extBut.push _).push _) ⟨_,X5 _ rfl,rfl⟩
end
def qt(lst:Bool)(h:Heap)(j t:Addr)(k:Nat):Prop:=if lst=true then h.IsListIter j t k else h.IsTupleIter j t k
def qg(lst:Bool)(h:Heap)(t:Addr)(its:Array Value):Prop:=if lst=true then h.IsList t its else h.IsTuple t its
section
variable{prog:Program}{w:World}{A:Around}{E:k86}{s:Shared}{lst:Bool}{h h':Heap}{j t b:Addr}{k:Nat}{its:Array Value}
theorem qt.ext(x:qt lst h j t k)(e:Heap.ExtBut b h h')(n:j≠b):qt lst h' j t k:=by
 unfold qt at x ⊢;cases lst with
 |true=>rw[if_pos rfl]at x ⊢;exact x.extBut e n
 |false=>rw[if_neg xg]at x ⊢;exact x.extBut e n
theorem qt.stay(x:qt lst h j t k)(e:∀o,h.get? j=some o→h'.get? j=some o):qt lst h' j t k:=by
 unfold qt at x ⊢;cases lst with
 |true=>rw[if_pos rfl]at x ⊢;exact x.at e
 |false=>rw[if_neg xg]at x ⊢;exact x.at e
theorem qt.obj(x:qt lst h j t k):∃o,h.get? j=some o∧∀v,o.data≠.cell v:=by
 unfold qt at x;cases lst with
 |true=>rw[if_pos rfl]at x;obtain⟨o,e,c,d⟩:=x;exact⟨o,e,fun v z=>by rw[d]at z;cases z⟩
 |false=>rw[if_neg xg]at x;obtain⟨o,e,c,d⟩:=x;exact⟨o,e,fun v z=>by rw[d]at z;cases z⟩
theorem qg.ext(x:qg lst h t its)(e:Heap.ExtBut b h h')(n:t≠b):qg lst h' t its:=by
 unfold qg at x ⊢;cases lst with
 |true=>rw[if_pos rfl]at x ⊢;exact x.extBut e n
 |false=>rw[if_neg xg]at x ⊢;exact x.extBut e n
theorem j4f{y:Value}{Q:k86}(hj:qt lst s.heap j t k)(ht:qg lst s.heap t its)(hy:its[k]?=some y)
  (q:∀h',qt lst h' j t (k+1)→Heap.SameBut j s.heap h'→Q y { s with heap:=h' }):wpAny (model prog w) A (Builtin.SmallTypes.nextOf (.ref j)) Q E s:=by
 unfold qt at hj q;unfold qg at ht;cases lst with
 |true=>rw[if_pos rfl]at hj ht;simp only[if_true]at q;exact wpAny_nextOf_list_item hj ht hy q
 |false=>rw[if_neg xg]at hj ht;simp only[Xw,if_false]at q;exact j3m hj ht hy q
theorem Kz{Q:k86}(hh:A.handled=none)(hj:qt lst s.heap j t k)(ht:qg lst s.heap t its)(hy:its[k]?=none)
  (q:∀h' x,Heap.ExtBut j s.heap h'→(∃o,h'.get? x=some o∧o.cls=.type "StopIteration")→E (.ref x) { s with heap:=h' }):wpAny (model prog w) A (Builtin.SmallTypes.nextOf (.ref j)) Q E s:=by
 unfold qt at hj;unfold qg at ht;cases lst with
 |true=>rw[if_pos rfl]at hj ht;exact wpAny_nextOf_list_end hh hj ht hy q
 |false=>rw[if_neg xg]at hj ht;exact j5s hh hj ht hy q
end
section
variable{prog:Program}{w:World}{A:Around}{E:k86}{s:Shared}{l1 l2:Bool}{z TI TO i1 i2 t1 t2:Addr}{k:Nat}{us vs:Array Value}{x y a b:Value}
end
noncomputable def Ia(lst:Bool):String:=if lst=true then "list_iterator" else "tuple_iterator"
noncomputable abbrev zh1(h:Heap)(l1:Bool)(t1:Addr):Heap:=h.push { cls:=.type (Ia l1),data:=.fields #[.ref t1,.int 0 0] }
section
variable{prog:Program}{w:World}{A:Around}{E:k86}{s:Shared}{l1 l2:Bool}{t1 t2:Addr}{us vs:Array Value}
theorem M3{lst:Bool}{t:Addr}{its:Array Value}{Q:k86}(h:qg lst s.heap t its)(q:Q (.ref s.heap.objs.size) { s with heap:=zh1 s.heap lst t }):wpAny (model prog w) A (pyIter (.ref t)) Q E s:=by
 unfold qg at h;cases lst with
 |true=>rw[if_pos rfl]at h;exact wpAny_pyIter_list h q
 |false=>rw[if_neg xg]at h;exact wpAny_pyIter_tuple h q
end
end L2
end
section
namespace L2
open PySem PySem.Spec PyProof.Rows
def SqB(K:k85)(lst:Bool)(H:Hp)(a:Addr)(xs:List V):Prop:=if lst=true then SqL K H a xs else SqT K H a xs
section
variable{X:Cx}{pins:k87}{σ:St}{H:Hp}{s:Shared}{a p:Addr}{xs ys:List V}{lst:Bool}{ch:List Addr}{h':Heap}
theorem j0.seqB{K:k85}{H':Hp}(e:j0 H H')(h:SqB K lst H a xs):SqB K lst H' a xs:=by
 unfold SqB at h ⊢;cases lst with
 |true=>rw[if_pos rfl]at h ⊢;exact e.seq h
 |false=>rw[if_neg xg]at h ⊢;exact e.seqT h
theorem Inv.side(I:Inv X pins σ H s)(h:SqB X.K lst H a xs):∃us:List Value,Vals xs us∧qg lst s.heap a us.toArray∧xs.length≤sizeLine:=by
 unfold SqB at h;unfold qg;cases lst with
 |true=>rw[if_pos rfl]at h;obtain⟨its,r,q,l⟩:=I.list h;exact⟨its,r,by rw[if_pos rfl];exact q.isList,l⟩
 |false=>rw[if_neg xg]at h;obtain⟨its,r,q,l⟩:=I.tuple h;exact⟨its,r,by rw[if_neg xg];exact q,l⟩
theorem Inv.side_inj(I:Inv X pins σ H s)(h:SqB X.K lst H a xs)(h':SqB X.K lst H a ys):xs=ys:=by
 unfold SqB at h h';cases lst with
 |true=>rw[if_pos rfl]at h h';exact I.list_inj h h'
 |false=>rw[if_neg xg]at h h';exact I.tuple_inj h h'
theorem Inv.chg(I:Inv X pins σ H s)(hf:∀b∈ch,Z1 X pins H b)(kp:∀c o,c∉ch→s.heap.get? c=some o→h'.get? c=some o):Inv X pins σ H { s with heap:=h' }:=by
 refine I.step (g':=s.gens) (t':=s.toks) (d':=s.drawn) (ch:=ch) (fun b hb=>⟨(hf b hb).2.2.2.1,(hf b hb).2.1,(hf b hb).2.2.2.2.1,(hf b hb).2.2.2.2.2⟩) (fun b o _ _ nc e _=>kp b o nc e) (fun b o _ _ nc e _=>⟨o.slots,kp b o nc e⟩)
  (fun b o _ _ n=>n) (fun b o nc e=>⟨o,kp b o nc e⟩) (fun b xs e=>e) (fun b o u e=>e) (fun b ps e=>⟨#[],by rw[e];simp⟩) (fun m hm=>hm.at' fun o e=>kp _ o (fun z=>(hf _ z).2.1 rfl) e) (fun c o e=>?_) I.bare
 have out:∀{b:Addr}{u:HO},H b=some u→b∉ch:=fun{b u} q z=>by rw[(hf b z).1]at q;cases q
 refine jg.stay (I.hok c o e) (fun b u hb q=>kp b u ?_ q) (fun b q=>q) (fun b xs q=>q) (fun b _ _ q=>q);rcases hb with hb|hb
 ·subst hb;exact out e
 ·exact out hb
theorem Inv.chgT(I:Inv X pins σ H s)(hf:∀b∈ch,Z1 X pins H b)(kp:∀c o,c∉ch→s.heap.get? c=some o→h'.get? c=some o){us:List Value}(rv:Vals xs us)(hl:xs.length≤sizeLine)
  (hp:IsTup h' s.heap.objs.size us.toArray) (hq:V7 h' s.heap.objs.size):Inv X pins σ (upd H s.heap.objs.size (.tup xs)) { s with heap:=h' }:=by
 have hn:=I.fresh;have nz:∀{b:Addr}{o:Obj},s.heap.get? b=some o→b≠s.heap.objs.size:=fun{b o} e=>X8 (xn e);have tr:∀{b:Addr}{u:HO},H b=some u→upd H s.heap.objs.size (.tup xs) b=some u:=fun{b u} e=>by rw[jb (v6 e hn)];exact e
 refine I.step (g':=s.gens) (t':=s.toks) (d':=s.drawn) (ch:=ch) (fun b hb=>⟨(hf b hb).2.2.2.1,(hf b hb).2.1,(hf b hb).2.2.2.2.1,(hf b hb).2.2.2.2.2⟩) (fun b o _ _ nc e _=>kp b o nc e) (fun b o _ _ nc e _=>⟨o.slots,kp b o nc e⟩)
  (fun b o _ e n=>by rw[jb (nz e)];exact n) (fun b o nc e=>⟨o,kp b o nc e⟩) (fun b xs e=>tr e) (fun b o u e=>tr e) (fun b ps e=>⟨#[],by rw[tr e];simp⟩) (fun m hm=>hm.at' fun o e=>kp _ o (fun z=>(hf _ z).2.1 rfl) e) (fun c o e=>?_) I.bare
 have out:∀{b:Addr}{u:HO},H b=some u→b∉ch:=fun{b u} q z=>by rw[(hf b z).1]at q;cases q
 by_cases z:c=s.heap.objs.size
 ·subst z;rw[j9]at e;cases e;exact⟨hl,us,rv,hp,hq⟩
 ·rw[jb z]at e;refine jg.stay (I.hok c o e) (fun b u hb q=>kp b u ?_ q) (fun b q=>tr q) (fun b xs q=>tr q) (fun b _ _ q=>tr q);rcases hb with hb|hb
  ·subst hb;exact out e
  ·exact out hb
end
section
variable{X:Cx}{ρ:Rho}{a b:Expr}{es:List Expr}{n:Nat}{pos p q1 q2:Pos}{ds ds':List D}{l1 l2:Bool}
noncomputable def D.seq(lst:Bool)(ds:List D):D:=if lst=true then .lst ds else .tup ds
theorem Vh{K:k85}{H:Hp}{lst:Bool}{v:V}(h:Enc K H (D.seq lst ds) v):∃t xs,v=.ref t∧SqB K lst H t xs∧j4 K H ds xs:=by
 unfold D.seq at h;unfold SqB;cases lst with
 |true=>rw[if_pos rfl]at h;obtain⟨t,xs,e,s,l⟩:=h;exact⟨t,xs,e,by rw[if_pos rfl];exact s,l⟩
 |false=>rw[if_neg xg]at h;obtain⟨t,xs,e,s,l⟩:=h;exact⟨t,xs,e,by rw[if_neg xg];exact s,l⟩
theorem DG.pair{x y:Str}(i j:Nat){d d':D}(hij:i≠j)(hN:X.N.Nodup)(hi:X.N[i]?=some x:=by rfl)(hj:X.N[j]?=some y:=by rfl)(hx:Loc X.env.scope x:=by first|exact Or.inl rfl|exact Or.inr rfl)(hy:Loc X.env.scope y:=by first|exact Or.inl rfl|exact Or.inr rfl)
  (fx:X.fn x=true∨X.env.scope.names.lookup x=some .local:=by first|exact .inl rfl|exact .inr rfl) (fy:X.fn y=true∨X.env.scope.names.lookup y=some .local:=by first|exact .inl rfl|exact .inr rfl) (hc:X.calm=true:=by rfl)
  (hn:(assignEach [.Name x q1,.Name y q2] X.env).length=2:=by rfl) (hst:(assignEach [.Name x q1,.Name y q2] X.env).findIdx? (·.1)=none:=by rfl)
  (e1:(assignEach [.Name x q1,.Name y q2] X.env).map (·.2)=assign (.Name x q1) X.env::(assignEach [.Name y q2] X.env).map (·.2):=by rfl) (e2:(assignEach [.Name y q2] X.env).map (·.2)=assign (.Name y q2) X.env::(assignEach [] X.env).map (·.2):=by rfl) :
  DG X ρ (.Tuple [.Name x q1,.Name y q2] n pos) (.tup [d,d']) ((ρ.set i (.val d)).set j (.val d')):=by
 refine⟨fun b hb=>(jk rfl).subset ((jk rfl).subset hb),fun σ H v Q R en q=>?_⟩;obtain⟨t,xs,ev,sq,u,r,e,eu,u',r',e',eu',er⟩:=en;subst e e' ev er;refine(jdt hc (Iv (W4 hN hi hx fx) (Iv (W4 hN hj hy fy) jb6 e2) e1) hn hst).to ⟨t,[u,u'],rfl,jm.seqT sq,rfl,u,[u'],rfl,u',[],rfl,rfl,?_⟩;refine q _ ?_;have R1:Rep X.K (ρ.set i (.val d)) (σ.set i (some u)) H:=R.set_val eu;exact R1.set_val (eu'.mono (vq fun b hb=>(jk rfl).subset hb))
end
end L2
end
section
namespace L2
open PySem PySem.Spec PyProof.Rows
noncomputable def D.ty:D→String
 |.non=>"NoneType"
 |.bl _=>"bool"
 |.int _=>"int"
 |.str _=>"str"
 |.tup _=>"tuple"
 |.lst _=>"list"
 |.dct _ _=>"dict"
 |.sct _=>"dict"
 |.fn _ _=>"function"
section
variable{X:Cx}{pins:k87}{σ:St}{H:Hp}{s:Shared}{A:Around}{E:k86}{Q:k86}{c:Value}{b:Bool}
end
section
variable{X:Cx}{ρ:Rho}{a b:Expr}{d:D}{pos p p1 p2 p3:Pos}{T T1 T2:Str}{c c1 c2:String}{k:Bool}{n:Nat}
theorem jh8 (hg:Gl X T) (hm:X.mg T=none) (hv:bootBuiltins T=some (.type c)) (hn:T ≠ "__name__":=by decide) (hd:(T==k89)=false:=by decide):PE X (.Name T p) (tC (.ty c)):=jb7 hg hm hv rfl hn hd
end
mutual
noncomputable def deq:D→D→Bool
 |.non,.non=>true
 |.bl a,.bl b=>a==b
 |.bl a,.int b=>(if a then 1 else 0)==b
 |.int a,.bl b=>a==(if b then 1 else 0)
 |.int a,.int b=>a==b
 |.str a,.str b=>a==b
 |.tup xs,.tup ys=>vd xs ys
 |.lst xs,.lst ys=>vd xs ys
 |.dct k xs,.dct m ys=>decide (k=m)&&vd xs ys
 |.sct k,.sct m=>decide (k=m)
 |_,_=>false
noncomputable def vd:List D→List D→Bool
 |[],[]=>true
 |x::xs,y::ys=>deq x y&&vd xs ys
 |_,_=>false
end
theorem jfv{a b:Bool}:deq (.bl a) (.bl b)=(a==b):=(rfl)
theorem jfu{a b:Int}:deq (.int a) (.int b)=(a==b):=(rfl)
theorem jft{a b:Str}:deq (.str a) (.str b)=(a==b):=(rfl)
theorem j03{a b:List D}:deq (.tup a) (.tup b)=vd a b:=(rfl)
theorem j04{a b:List D}:deq (.lst a) (.lst b)=vd a b:=(rfl)
theorem U0:vd [] []=true:=(rfl)
theorem Zj{x y:D}{xs ys:List D}:vd (x::xs) (y::ys)=(deq x y&&vd xs ys):=(rfl)
theorem Mt{y:D}{ys:List D}:vd [] (y::ys)=false:=(rfl)
theorem Mu{x:D}{xs:List D}:vd (x::xs) []=false:=(rfl)
mutual
noncomputable def D.dep:D→Nat
 |.tup xs=>D.depL xs+1
 |.lst xs=>D.depL xs+1
 |.dct _ _=>20000
 |.sct _=>20000
 |.fn _ _=>20000
 |_=>0
noncomputable def D.depL:List D→Nat
 |[]=>0
 |x::xs=>max x.dep (D.depL xs)
end
mutual
theorem Bj:∀d:D,d.dep<10000→deq d d=true
 |.non,_=>rfl
 |.bl b,_=>by rw[jfv];simp
 |.int i,_=>by rw[jfu];simp
 |.str x,_=>by rw[jft];simp
 |.tup xs,h=>by rw[j03];exact Zi xs (by simp only[D.dep]at h;omega)
 |.lst xs,h=>by rw[j04];exact Zi xs (by simp only[D.dep]at h;omega)
 |.dct _ _,h=>by simp[D.dep]at h
 |.sct _,h=>by simp[D.dep]at h
 |.fn _ _,h=>by simp[D.dep]at h
theorem Zi:∀ds:List D,D.depL ds<10000→vd ds ds=true
 |[],_=>rfl
 |d::ds,h=>by rw[D.depL]at h;rw[Zj,Bj d (by omega),Zi ds (by omega)];rfl
end
theorem U3:∀{xs ys:List D},xs.length≠ys.length→vd xs ys=false
 |[],[],h=>absurd rfl h
 |[],_::_,_=>by simp[U0,Zj,Mt,Mu]
 |_::_,[],_=>by simp[U0,Zj,Mt,Mu]
 |x::xs,y::ys,h=>by have:=U3 (xs:=xs) (ys:=ys) (by simpa using h);simp[U0,Zj,Mt,Mu,this]
theorem Zv{f:Nat→Bool}:∀{xs ys:List D},xs.length=ys.length→(∀(j:Nat) x y,xs[j]?=some x→ys[j]?=some y→f j=deq x y)→(List.range xs.length).all f=vd xs ys
 |[],[],_,_=>by simp[U0,Zj,Mt,Mu]
 |[],_::_,h,_=>by simp at h
 |_::_,[],h,_=>by simp at h
 |x::xs,y::ys,h,hf=>by have ih:=Zv (f:=fun j=>f (j+1)) (xs:=xs) (ys:=ys) (by simpa using h) (fun j a b ha hb=>hf (j+1) a b (by simpa using ha) (by simpa using hb));rw[X4,List.range_succ_eq_map,Tn,hf 0 x y rfl rfl,List.all_map];simp only[Zj];rw[←ih];rfl
section
variable{X:Cx}{pins:k87}{σ:St}{H:Hp}{s:Shared}
theorem Ea(I:Inv X pins σ H s){a:Addr}{xs ys:List V}(h:SqT X.K H a xs)(h':SqL X.K H a ys):False:=by obtain⟨_,_,⟨o,h1,h2,_⟩,_⟩:=I.tuple h;obtain⟨_,_,⟨o',n,h1',h2',_⟩,_⟩:=I.list h';rw[h1]at h1';cases h1';rw[h2]at h2';injection h2' with e;exact absurd e (by decide)
noncomputable def D.atom:D→Option V
 |.non=>some .non
 |.bl b=>some (.bl b)
 |.int i=>some (.int i)
 |.str x=>some (.str x)
 |_=>none
theorem Enc.at_{K:k85}{d:D}{v u:V}(h:Enc K H d v)(e:d.atom=some u):v=u:=by
 cases d with
 |non=>cases e;exact(show v=.non from h)
 |bl b=>cases e;exact(show v=.bl b from h)
 |int i=>cases e;exact(show v=.int i from h)
 |str x=>cases e;exact(show v=.str x from h)
 |_=>cases e
theorem Enc.ref{K:k85}{d:D}{v:V}(h:Enc K H d v)(e:d.atom=none):∃a,v=.ref a:=by
 cases d with
 |tup l=>obtain⟨a,_,e,_⟩:=h;exact⟨a,e⟩
 |lst l=>obtain⟨a,_,e,_⟩:=h;exact⟨a,e⟩
 |dct k l=>obtain⟨a,_,_,_,e,_⟩:=h;exact⟨a,e⟩
 |sct k=>obtain⟨a,e,_⟩:=h;exact⟨a,e⟩
 |fn x l=>obtain⟨a,_,_,_,_,e,_⟩:=h;exact⟨a,e⟩
 |_=>cases e
theorem j95{d d':D}{u:V}(h:d.atom=some u)(h':d'.atom=some u):d=d':=by cases d<;>cases d'<;>first|(cases h;done)|(cases h';done)|(cases h;cases h';rfl)|(cases h;cases h')
theorem j0h{d:D}{a:Addr}(h:d.atom=some (.ref a)):False:=by cases d<;>cases h
theorem jf3(I:Inv X pins σ H s){d d':D}{v:V}(hd:d.dep<10000)(hd':d'.dep<10000)(h:Enc X.K H d v)(h':Enc X.K H d' v) :
  d=d'∨∃ds ds' xs,((d=.tup ds∧d'=.tup ds')∨(d=.lst ds∧d'=.lst ds'))∧j4 X.K H ds xs∧j4 X.K H ds' xs:=by
 cases e:d.atom with
 |some u =>
  have ev:=h.at_ e;subst ev;cases e':d'.atom with
  |some u'=>exact .inl (j95 e ((h'.at_ e')▸e'))
  |none=>obtain⟨a,ea⟩:=h'.ref e';subst ea;exact(j0h e).elim
 |none =>
  cases e':d'.atom with
  |some u'=>have ev:=h'.at_ e';subst ev;obtain⟨a,ea⟩:=h.ref e;subst ea;exact(j0h e').elim
  |none =>
   cases d with
   |tup ds =>
    obtain⟨a,xs,ea,sq,l⟩:=h;cases d' with
    |tup ds' =>obtain⟨a',ys,eb,sq',l'⟩:=h';rw[ea]at eb;cases eb;rw[I.tuple_inj sq' sq]at l';exact .inr ⟨ds,ds',xs,.inl ⟨rfl,rfl⟩,l,l'⟩
    |lst ds'=>obtain⟨a',ys,eb,sq',l'⟩:=h';rw[ea]at eb;cases eb;exact(Ea I sq sq').elim
    |dct _ _=>simp[D.dep]at hd'
    |sct _=>simp[D.dep]at hd'
    |fn _ _=>simp[D.dep]at hd'
    |_=>cases e'
   |lst ds =>
    obtain⟨a,xs,ea,sq,l⟩:=h;cases d' with
    |lst ds' =>obtain⟨a',ys,eb,sq',l'⟩:=h';rw[ea]at eb;cases eb;rw[I.list_inj sq' sq]at l';exact .inr ⟨ds,ds',xs,.inr ⟨rfl,rfl⟩,l,l'⟩
    |tup ds'=>obtain⟨a',ys,eb,sq',l'⟩:=h';rw[ea]at eb;cases eb;exact(Ea I sq' sq).elim
    |dct _ _=>simp[D.dep]at hd'
    |sct _=>simp[D.dep]at hd'
    |fn _ _=>simp[D.dep]at hd'
    |_=>cases e'
   |dct _ _=>simp[D.dep]at hd
   |sct _=>simp[D.dep]at hd
   |fn _ _=>simp[D.dep]at hd
   |_=>cases e
theorem j83{n:Nat}(ih:∀{d d':D}{v:V},d.dep≤n→d.dep<10000→d'.dep<10000→Enc X.K H d v→Enc X.K H d' v→d=d'):∀{ds ds':List D}{xs:List V},D.depL ds≤n→D.depL ds<10000→D.depL ds'<10000→j4 X.K H ds xs→j4 X.K H ds' xs→ds=ds'
 |[],[],_,_,_,_,_,_=>rfl
 |[],_::_,_,_,_,_,h,⟨x,r,e,_⟩=>by cases h;cases e
 |_::_,[],_,_,_,_,⟨x,r,e,_⟩,h=>by cases h;cases e
 |d::ds,d'::ds',_,m,n1,n2,⟨x,r,e,h,l⟩,⟨x',r',e',h',l'⟩=>by subst e;cases e';rw[D.depL]at m n1 n2;rw[ih (by omega) (by omega) (by omega) h h',j83 ih (by omega) (by omega) (by omega) l l']
theorem j82(I:Inv X pins σ H s):∀(n:Nat){d d':D}{v:V},d.dep≤n→d.dep<10000→d'.dep<10000→Enc X.K H d v→Enc X.K H d' v→d=d'
 |0,d,d',v,hn,hd,hd',h,h'=>by
  rcases jf3 I hd hd' h h' with e|⟨ds,ds',xs,⟨e,_⟩|⟨e,_⟩,_⟩
  ·exact e
  ·subst e;simp[D.dep]at hn
  ·subst e;simp[D.dep]at hn
 |n+1,d,d',v,hn,hd,hd',h,h'=>by
  rcases jf3 I hd hd' h h' with e|⟨ds,ds',xs,⟨e,e'⟩|⟨e,e'⟩,l,l'⟩
  ·exact e
  ·subst e e';simp only[D.dep]at hn hd hd';rw[j83 (fun a b c=>j82 I n a b c) (by omega) (by omega) (by omega) l l']
  ·subst e e';simp only[D.dep]at hn hd hd';rw[j83 (fun a b c=>j82 I n a b c) (by omega) (by omega) (by omega) l l']
theorem Enc.inj(I:Inv X pins σ H s){d d':D}{v:V}(hd:d.dep<10000)(hd':d'.dep<10000)(h:Enc X.K H d v)(h':Enc X.K H d' v):d=d':=j82 I d.dep (xx _) hd hd' h h'
end
section
variable{X:Cx}{pins:k87}{σ:St}{H:Hp}{s:Shared}
theorem D.depL_le:∀{ds:List D}{j:Nat}{d:D},ds[j]?=some d→d.dep≤D.depL ds
 |[],_,_,h=>by simp at h
 |x::xs,0,d,h=>by simp at h;subst h;simp[D.depL];omega
 |x::xs,j+1,d,h=>by have:=D.depL_le (ds:=xs) (j:=j) (d:=d) (by simpa using h);simp[D.depL];omega
theorem Ym(I:Inv X pins σ H s):∀(n:Nat)(A:Around){d d':D}{v v':V}{u u':Value},d.dep≤n→A.units+n<cLine→d'.dep<10000→Enc X.K H d v→RelV v u→Enc X.K H d' v'→RelV v' u' →
  SeqAt.RcAt A s u u' (deq d d')∧SeqAt.EqAt A s u u' (deq d d')
 |0,A,d,d',v,v',u,u',hn,hu,nd,en,r,en',r'=>by
  have hu0:A.units<cLine:=by omega
  cases d with
  |tup l=>simp[D.dep]at hn
  |lst l=>simp[D.dep]at hn
  |dct ks l=>simp[D.dep]at hn
  |sct k=>simp[D.dep]at hn
  |fn x l=>simp[D.dep]at hn
  |non =>
   cases(show v=.non from en);cases(show u=Value.none from r);cases d' with
   |dct ks' l'=>simp[D.dep]at nd
   |sct k'=>simp[D.dep]at nd
   |fn x' l'=>simp[D.dep]at nd
   |non=>cases(show v'=.non from en');cases(show u'=Value.none from r');exact⟨.none_none,.same _⟩
   |bl k=>cases(show v'=.bl k from en');cases(show u'=Value.bool k from r');exact⟨.none_bool _,.none_bool _⟩
   |int k=>cases(show v'=.int k from en');obtain⟨t,q⟩:=(show ∃t,u'=Value.int k t from r');subst q;exact⟨.none_int _ _,.none_int _ _⟩
   |str k=>cases(show v'=.str k from en');obtain⟨t,q⟩:=(show ∃t,u'=Value.str k t from r');subst q;exact⟨.none_str _ _,.none_str _ _⟩
   |tup l=>obtain⟨a,xs,e,sq,_⟩:=en';subst e;cases(show u'=Value.ref a from r');obtain⟨_,_,q,_⟩:=I.tuple sq;exact⟨.none_tuple q hu0,.none_tuple q hu0⟩
   |lst l=>obtain⟨a,xs,e,sq,_⟩:=en';subst e;cases(show u'=Value.ref a from r');obtain⟨_,_,q,_⟩:=I.list sq;exact⟨.none_list q.isList hu0,.none_list q.isList hu0⟩
  |bl b =>
   cases(show v=.bl b from en);cases(show u=Value.bool b from r);cases d' with
   |dct ks' l'=>simp[D.dep]at nd
   |sct k'=>simp[D.dep]at nd
   |fn x' l'=>simp[D.dep]at nd
   |non=>cases(show v'=.non from en');cases(show u'=Value.none from r');exact⟨.bool_none _,.bool_none _⟩
   |bl k=>cases(show v'=.bl k from en');cases(show u'=Value.bool k from r');exact⟨.bool_bool _ _,.bool_bool _ _⟩
   |int k=>cases(show v'=.int k from en');obtain⟨t,q⟩:=(show ∃t,u'=Value.int k t from r');subst q;exact⟨.bool_int _ _ _,.bool_int _ _ _⟩
   |str k=>cases(show v'=.str k from en');obtain⟨t,q⟩:=(show ∃t,u'=Value.str k t from r');subst q;exact⟨.bool_str _ _ _,.bool_str _ _ _⟩
   |tup l=>obtain⟨a,xs,e,sq,_⟩:=en';subst e;cases(show u'=Value.ref a from r');obtain⟨_,_,q,_⟩:=I.tuple sq;exact⟨.bool_tuple _ q hu0,.bool_tuple _ q hu0⟩
   |lst l=>obtain⟨a,xs,e,sq,_⟩:=en';subst e;cases(show u'=Value.ref a from r');obtain⟨_,_,q,_⟩:=I.list sq;exact⟨.bool_list _ q.isList hu0,.bool_list _ q.isList hu0⟩
  |int b =>
   cases(show v=.int b from en);obtain⟨tk,q0⟩:=(show ∃t,u=Value.int b t from r);subst q0;cases d' with
   |dct ks' l'=>simp[D.dep]at nd
   |sct k'=>simp[D.dep]at nd
   |fn x' l'=>simp[D.dep]at nd
   |non=>cases(show v'=.non from en');cases(show u'=Value.none from r');exact⟨.int_none _ _,.int_none _ _⟩
   |bl k=>cases(show v'=.bl k from en');cases(show u'=Value.bool k from r');exact⟨.int_bool _ _ _,.int_bool _ _ _⟩
   |int k=>cases(show v'=.int k from en');obtain⟨t,q⟩:=(show ∃t,u'=Value.int k t from r');subst q;exact⟨.int_int _ _ _ _,.int_int _ _ _ _⟩
   |str k=>cases(show v'=.str k from en');obtain⟨t,q⟩:=(show ∃t,u'=Value.str k t from r');subst q;exact⟨.int_str _ _ _ _,.int_str _ _ _ _⟩
   |tup l=>obtain⟨a,xs,e,sq,_⟩:=en';subst e;cases(show u'=Value.ref a from r');obtain⟨_,_,q,_⟩:=I.tuple sq;exact⟨.int_tuple _ _ q hu0,.int_tuple _ _ q hu0⟩
   |lst l=>obtain⟨a,xs,e,sq,_⟩:=en';subst e;cases(show u'=Value.ref a from r');obtain⟨_,_,q,_⟩:=I.list sq;exact⟨.int_list _ _ q.isList hu0,.int_list _ _ q.isList hu0⟩
  |str b =>
   cases(show v=.str b from en);obtain⟨tk,q0⟩:=(show ∃t,u=Value.str b t from r);subst q0;cases d' with
   |dct ks' l'=>simp[D.dep]at nd
   |sct k'=>simp[D.dep]at nd
   |fn x' l'=>simp[D.dep]at nd
   |non=>cases(show v'=.non from en');cases(show u'=Value.none from r');exact⟨.str_none _ _,.str_none _ _⟩
   |bl k=>cases(show v'=.bl k from en');cases(show u'=Value.bool k from r');exact⟨.str_bool _ _ _,.str_bool _ _ _⟩
   |int k=>cases(show v'=.int k from en');obtain⟨t,q⟩:=(show ∃t,u'=Value.int k t from r');subst q;exact⟨.str_int _ _ _ _,.str_int _ _ _ _⟩
   |str k=>cases(show v'=.str k from en');obtain⟨t,q⟩:=(show ∃t,u'=Value.str k t from r');subst q;exact⟨.str_str _ _ _ _,.str_str _ _ _ _⟩
   |tup l=>obtain⟨a,xs,e,sq,_⟩:=en';subst e;cases(show u'=Value.ref a from r');obtain⟨_,_,q,_⟩:=I.tuple sq;exact⟨.str_tuple _ _ q hu0,.str_tuple _ _ q hu0⟩
   |lst l=>obtain⟨a,xs,e,sq,_⟩:=en';subst e;cases(show u'=Value.ref a from r');obtain⟨_,_,q,_⟩:=I.list sq;exact⟨.str_list _ _ q.isList hu0,.str_list _ _ q.isList hu0⟩
 |n+1,A,d,d',v,v',u,u',hn,hu,nd,en,r,en',r'=>by
  have hu0:A.units<cLine:=by omega
  have hu1:A.in1.units+n<cLine:=by show A.units+1+n<cLine;omega
  have low:d.dep≤n→SeqAt.RcAt A s u u' (deq d d')∧SeqAt.EqAt A s u u' (deq d d'):=fun h=>Ym I n A h (by omega) nd en r en' r';cases d with
  |non=>exact low (by simp[D.dep])
  |bl b=>exact low (by simp[D.dep])
  |int b=>exact low (by simp[D.dep])
  |str b=>exact low (by simp[D.dep])
  |dct ks l=>exfalso;have:(9900:Nat)=cLine:=rfl;simp only[D.dep]at hn;omega
  |sct k=>exfalso;have:(9900:Nat)=cLine:=rfl;simp only[D.dep]at hn;omega
  |fn x l=>exfalso;have:(9900:Nat)=cLine:=rfl;simp only[D.dep]at hn;omega
  |tup ds =>
   have hd:D.depL ds≤n:=by simp[D.dep]at hn;omega
   obtain⟨a,xs,e,sq,l⟩:=id en;subst e;cases(show u=Value.ref a from r);obtain⟨us,rv,q,_⟩:=I.tuple sq;cases d' with
   |dct ks' l'=>simp[D.dep]at nd
   |sct k'=>simp[D.dep]at nd
   |fn x' l'=>simp[D.dep]at nd
   |non=>cases(show v'=.non from en');cases(show u'=Value.none from r');exact⟨.tuple_none q hu0,.tuple_none q hu0⟩
   |bl k=>cases(show v'=.bl k from en');cases(show u'=Value.bool k from r');exact⟨.tuple_bool _ q hu0,.tuple_bool _ q hu0⟩
   |int k=>cases(show v'=.int k from en');obtain⟨t,q'⟩:=(show ∃t,u'=Value.int k t from r');subst q';exact⟨.tuple_int _ _ q hu0,.tuple_int _ _ q hu0⟩
   |str k=>cases(show v'=.str k from en');obtain⟨t,q'⟩:=(show ∃t,u'=Value.str k t from r');subst q';exact⟨.tuple_str _ _ q hu0,.tuple_str _ _ q hu0⟩
   |lst ds'=>obtain⟨a',ys,e,sq',_⟩:=en';subst e;cases(show u'=Value.ref a' from r');obtain⟨_,_,q',_⟩:=I.list sq';exact⟨.tuple_list q q'.isList hu0,.tuple_list q q'.isList hu0⟩
   |tup ds' =>
    obtain⟨a',ys,e,sq',l'⟩:=id en';subst e;cases(show u'=Value.ref a' from r');obtain⟨us',rv',q',_⟩:=I.tuple sq';have e1:us.length=ds.length:=by rw[←rv.length,l.length]
    have e2:us'.length=ds'.length:=by rw[←rv'.length,l'.length]
    have main:SeqAt.RcAt A s (.ref a) (.ref a') (deq (.tup ds) (.tup ds')):=by
     have item:∀(j:Nat)(h1:j<us.toArray.size)(h2:j<us'.toArray.size),SeqAt.EqAt A.in1 s us.toArray[j] us'.toArray[j] (deq (ds.getD j .non) (ds'.getD j .non)):=fun j h1 h2=>by
      have k1:j<ds.length:=by rw[←e1];simpa using h1
      have k2:j<ds'.length:=by rw[←e2];simpa using h2
      obtain⟨x,hx,ex⟩:=l.get (kh k1);obtain⟨y,hy,ey⟩:=l'.get (kh k2);obtain⟨w1,hw1,rw1⟩:=rv.get hx;obtain⟨w2,hw2,rw2⟩:=rv'.get hy;have g1:us.toArray[j]=w1:=by simp at h1 ⊢;rw[kh (by simpa using h1)]at hw1;exact Option.some.inj hw1
      have g2:us'.toArray[j]=w2:=by simp at h2 ⊢;rw[kh (by simpa using h2)]at hw2;exact Option.some.inj hw2
      rw[g1,g2,xf,xf,kh k1,kh k2];exact(Ym I n A.in1 (Xm (D.depL_le (kh k1)) hd) hu1 (Nat.lt_of_le_of_lt (D.depL_le (kh k2)) (by simp only[D.dep]at nd;omega)) ex rw1 ey rw2).2
     have z:=SeqAt.RcAt.tuples (A:=A) (s:=s) q q' hu0 (e:=fun j=>deq (ds.getD j .non) (ds'.getD j .non)) item;have ev:((List.range (min us.toArray.size us'.toArray.size)).all (fun j=>deq (ds.getD j .non) (ds'.getD j .non))&&us.toArray.size==us'.toArray.size)=deq (.tup ds) (.tup ds'):=by
      simp only[j03,X3,e1,e2];by_cases hl:ds.length=ds'.length
      ·rw[hl,Nat.min_self,beq_self_eq_true,Bool.and_true,←hl];exact Zv hl fun j x y hx hy=>by rw[xf,xf,hx,hy];rfl
      ·rw[U3 hl,beq_false_of_ne hl,Bool.and_false]
     rw[ev]at z;exact z
    refine⟨main,?_⟩;by_cases ea:a=a'
    ·subst ea;have e9:(9900:Nat)=cLine:=rfl;rw[Enc.inj I (by omega) nd en en',Bj _ nd];exact .same _
    ·exact .of_refs ea main
  |lst ds =>
   have hd:D.depL ds≤n:=by simp[D.dep]at hn;omega
   obtain⟨a,xs,e,sq,l⟩:=id en;subst e;cases(show u=Value.ref a from r);obtain⟨us,rv,q0,_⟩:=I.list sq;have q:=q0.isList;cases d' with
   |dct ks' l'=>simp[D.dep]at nd
   |sct k'=>simp[D.dep]at nd
   |fn x' l'=>simp[D.dep]at nd
   |non=>cases(show v'=.non from en');cases(show u'=Value.none from r');exact⟨.list_none q hu0,.list_none q hu0⟩
   |bl k=>cases(show v'=.bl k from en');cases(show u'=Value.bool k from r');exact⟨.list_bool _ q hu0,.list_bool _ q hu0⟩
   |int k=>cases(show v'=.int k from en');obtain⟨t,q'⟩:=(show ∃t,u'=Value.int k t from r');subst q';exact⟨.list_int _ _ q hu0,.list_int _ _ q hu0⟩
   |str k=>cases(show v'=.str k from en');obtain⟨t,q'⟩:=(show ∃t,u'=Value.str k t from r');subst q';exact⟨.list_str _ _ q hu0,.list_str _ _ q hu0⟩
   |tup ds'=>obtain⟨a',ys,e,sq',_⟩:=en';subst e;cases(show u'=Value.ref a' from r');obtain⟨_,_,q',_⟩:=I.tuple sq';exact⟨.list_tuple q q' hu0,.list_tuple q q' hu0⟩
   |lst ds' =>
    obtain⟨a',ys,e,sq',l'⟩:=id en';subst e;cases(show u'=Value.ref a' from r');obtain⟨us',rv',q0',_⟩:=I.list sq';have q':=q0'.isList;have e1:us.length=ds.length:=by rw[←rv.length,l.length]
    have e2:us'.length=ds'.length:=by rw[←rv'.length,l'.length]
    have main:SeqAt.RcAt A s (.ref a) (.ref a') (deq (.lst ds) (.lst ds')):=by
     have item:∀(j:Nat)(h1:j<us.toArray.size)(h2:j<us'.toArray.size),SeqAt.EqAt A.in1 s us.toArray[j] us'.toArray[j] (deq (ds.getD j .non) (ds'.getD j .non)):=fun j h1 h2=>by
      have k1:j<ds.length:=by rw[←e1];simpa using h1
      have k2:j<ds'.length:=by rw[←e2];simpa using h2
      obtain⟨x,hx,ex⟩:=l.get (kh k1);obtain⟨y,hy,ey⟩:=l'.get (kh k2);obtain⟨w1,hw1,rw1⟩:=rv.get hx;obtain⟨w2,hw2,rw2⟩:=rv'.get hy;have g1:us.toArray[j]=w1:=by simp at h1 ⊢;rw[kh (by simpa using h1)]at hw1;exact Option.some.inj hw1
      have g2:us'.toArray[j]=w2:=by simp at h2 ⊢;rw[kh (by simpa using h2)]at hw2;exact Option.some.inj hw2
      rw[g1,g2,xf,xf,kh k1,kh k2];exact(Ym I n A.in1 (Xm (D.depL_le (kh k1)) hd) hu1 (Nat.lt_of_le_of_lt (D.depL_le (kh k2)) (by simp only[D.dep]at nd;omega)) ex rw1 ey rw2).2
     simp only[j04];by_cases hl:ds.length=ds'.length
     ·have z:=SeqAt.RcAt.lists (A:=A) (s:=s) q q' (by simp[e1,e2,hl]) hu0 (e:=fun j=>deq (ds.getD j .non) (ds'.getD j .non)) item;have ev:(List.range us.toArray.size).all (fun j=>deq (ds.getD j .non) (ds'.getD j .non))=vd ds ds':=by rw[X3,e1];exact Zv hl fun j x y hx hy=>by rw[xf,xf,hx,hy];rfl
      rw[ev]at z;exact z
     ·rw[U3 hl];exact .lists_lengths q q' (by simp[e1,e2,hl]) hu0
    refine⟨main,?_⟩;by_cases ea:a=a'
    ·subst ea;have e9:(9900:Nat)=cLine:=rfl;rw[Enc.inj I (by omega) nd en en',Bj _ nd];exact .same _
    ·exact .of_refs ea main
end
end L2
end
section
namespace L2
open PySem PySem.Spec PyProof.Rows
section
variable{X:Cx}{pins:k87}{σ:St}{H:Hp}{s:Shared}{A:Around}
theorem j7y(I:Inv X pins σ H s){n:Nat}{ds ds':List D}{xs ys:List V}{us us':List Value}(l:j4 X.K H ds xs)(rv:Vals xs us)(l':j4 X.K H ds' ys)(rv':Vals ys us')(hd:D.depL ds≤n)(hu:A.units+1+n<cLine)(nd:D.depL ds'<10000) :
  ∀(j:Nat)(h1:j<us.toArray.size)(h2:j<us'.toArray.size),SeqAt.EqAt A.in1 s us.toArray[j] us'.toArray[j] (deq (ds.getD j .non) (ds'.getD j .non)):=fun j h1 h2=>by
 have k1:j<ds.length:=by rw[←l.length,rv.length];simpa using h1
 have k2:j<ds'.length:=by rw[←l'.length,rv'.length];simpa using h2
 obtain⟨x,hx,ex⟩:=l.get (kh k1);obtain⟨y,hy,ey⟩:=l'.get (kh k2);obtain⟨w1,hw1,rw1⟩:=rv.get hx;obtain⟨w2,hw2,rw2⟩:=rv'.get hy;have g1:us.toArray[j]=w1:=by simp at h1 ⊢;rw[kh (by simpa using h1)]at hw1;exact Option.some.inj hw1
 have g2:us'.toArray[j]=w2:=by simp at h2 ⊢;rw[kh (by simpa using h2)]at hw2;exact Option.some.inj hw2
 rw[g1,g2,xf,xf,kh k1,kh k2];exact(Ym I n A.in1 (Xm (D.depL_le (kh k1)) hd) hu (Nat.lt_of_le_of_lt (D.depL_le (kh k2)) nd) ex rw1 ey rw2).2
theorem j54(hu:X.A.units+100<cLine):OpR X (compareOp .Eq) (fun x y H Q=>∃d d',Enc X.K H d x∧Enc X.K H d' y∧d.dep≤100∧d'.dep<10000∧Q (.bl (deq d d')) H):=by rintro pins s σ H x y v u Q I rx ry ⟨d,d',en,en',hd,nd,q⟩;exact(Ym I 100 X.A hd hu nd en rx en' ry).1 X.prog X.w X.xe _ ⟨.bl (deq d d'),H,I,rfl,q⟩
theorem j52(hu:X.A.units+100<cLine):OpR X (compareOp .NotEq) (fun x y H Q=>∃ds ds' k,Enc X.K H (D.seq k ds) x∧Enc X.K H (D.seq k ds') y∧D.depL ds≤98∧D.depL ds'<10000∧Q (.bl (!vd ds ds')) H):=by
 rintro pins s σ H x y v u Q I rx ry ⟨ds,ds',k,en,en',hd,nd,q⟩;have h0:X.A.units<cLine:=by omega
 obtain⟨t,xs,e,sq,l⟩:=Vh en;obtain⟨t',ys,e',sq',l'⟩:=Vh en';subst e e';cases rx;cases ry;obtain⟨us,rv,qs,_⟩:=I.side sq;obtain⟨us',rv',qs',_⟩:=I.side sq';have e1:us.length=ds.length:=by rw[←rv.length,l.length]
 have e2:us'.length=ds'.length:=by rw[←rv'.length,l'.length]
 have item:=j7y (A:=X.A) I l rv l' rv' hd (by omega) nd;unfold qg at qs qs';cases k with
 |true =>
  rw[if_pos rfl]at qs qs';by_cases hl:ds.length=ds'.length
  ·have z:=SeqAt.RcNeAt.lists (A:=X.A) (s:=s) qs qs' (by simp[e1,e2,hl]) h0 (e:=fun j=>deq (ds.getD j .non) (ds'.getD j .non)) item;have ev:(List.range us.toArray.size).all (fun j=>deq (ds.getD j .non) (ds'.getD j .non))=vd ds ds':=by rw[X3,e1];exact Zv hl fun j x y hx hy=>by rw[xf,xf,hx,hy];rfl
   rw[ev]at z;exact z X.prog X.w X.xe _ ⟨.bl (!vd ds ds'),H,I,rfl,q⟩
  ·have z:=SeqAt.RcNeAt.lists_lengths (A:=X.A) (s:=s) qs qs' (by simp[e1,e2,hl]) h0;rw[U3 hl]at q;exact z X.prog X.w X.xe _ ⟨.bl true,H,I,rfl,q⟩
 |false =>
  rw[if_neg xg]at qs qs';have z:=SeqAt.RcNeAt.tuples (A:=X.A) (s:=s) qs qs' h0 (e:=fun j=>deq (ds.getD j .non) (ds'.getD j .non)) item;have ev:((List.range (min us.toArray.size us'.toArray.size)).all (fun j=>deq (ds.getD j .non) (ds'.getD j .non))&&us.toArray.size==us'.toArray.size)=vd ds ds':=by
   simp only[X3,e1,e2];by_cases hl:ds.length=ds'.length
   ·rw[hl,Nat.min_self,beq_self_eq_true,Bool.and_true,←hl];exact Zv hl fun j x y hx hy=>by rw[xf,xf,hx,hy];rfl
   ·rw[U3 hl,beq_false_of_ne hl,Bool.and_false]
  rw[ev]at z;exact z X.prog X.w X.xe _ ⟨.bl (!vd ds ds'),H,I,rfl,q⟩
noncomputable def eqW(X:Cx)(H:Hp)(d:D)(y:Value):Bool:=@decide (∃e v,e.dep<10000∧Enc X.K H e v∧RelV v y∧deq e d=true) (Classical.propDecidable _)
theorem j00(I:Inv X pins σ H s){d e:D}{v:V}{y:Value}(he:e.dep<10000)(en:Enc X.K H e v)(r:RelV v y):eqW X H d y=deq e d:=by
 unfold eqW;cases h:deq e d with
 |true=>exact @decide_eq_true _ (Classical.propDecidable _) ⟨e,v,he,en,r,h⟩
 |false =>refine @decide_eq_false _ (Classical.propDecidable _) fun⟨e',v',he',en',r',h'⟩=>?_;rw[r'.inj r]at en';rw[Enc.inj I he' he en' en,h]at h';cases h'
theorem Dt(I:Inv X pins σ H s){d:D}:∀{ds:List D}{xs:List V}{us:List Value},D.depL ds<10000→j4 X.K H ds xs→Vals xs us→us.any (eqW X H d)=ds.any fun e=>deq e d
 |[],_,_,_,h,r=>by cases h;cases r;rfl
 |e::ds,_,_,hd,⟨x,r,eq,h,l⟩,rv=>by
  subst eq;rw[D.depL]at hd;cases rv with
  |cons a b=>rw[List.any_cons,List.any_cons,Dt I (by omega) l b,j00 I (by omega) h a]
theorem Ww(I:Inv X pins σ H s){d:D}:∀{ds:List D}{xs:List V}{us:List Value},D.depL ds<10000→j4 X.K H ds xs→Vals xs us→us.countP (eqW X H d)=ds.countP fun e=>deq e d
 |[],_,_,_,h,r=>by cases h;cases r;rfl
 |e::ds,_,_,hd,⟨x,r,eq,h,l⟩,rv=>by
  subst eq;rw[D.depL]at hd;cases rv with
  |cons a b=>rw[Py,Py,Ww I (by omega) l b,j00 I (by omega) h a]
theorem W6(I:Inv X pins σ H s){d:D}{v:V}{u:Value}(en:Enc X.K H d v)(r:RelV v u)(nd:d.dep<10000){n:Nat}(hu:A.units+n<cLine):∀{ds:List D}{xs:List V}{us:List Value},D.depL ds≤n→j4 X.K H ds xs→Vals xs us→∀y∈us,SeqAt.EqAt A s y u (eqW X H d y)
 |[],_,_,_,h,rv,y,hy=>by cases h;cases rv;cases hy
 |e::ds,_,_,hd,⟨x,r',eq,h,l⟩,rv,y,hy=>by
  subst eq;have hd':e.dep≤n∧D.depL ds≤n:=by simp[D.depL]at hd;omega
  cases rv with
  |cons a b =>
   rcases xm.mp hy with rfl|hy
   ·have e9:(9900:Nat)=cLine:=rfl;rw[j00 I (by omega) h a];exact(Ym I n A hd'.1 hu nd h a en r).2
   ·exact W6 I en r nd hu hd'.2 l b y hy
theorem j53(hu:X.A.units+100<cLine):OpR X (compareOp .In) (fun x y H Q=>∃d ds k,Enc X.K H d x∧Enc X.K H (D.seq k ds) y∧D.depL ds≤98∧d.dep<10000∧Q (.bl (ds.any fun e=>deq e d)) H):=by
 rintro pins s σ H x y v u Q I rx ry ⟨d,ds,k,en,en',hd,nd,q⟩;obtain⟨t,xs,e,sq,l⟩:=Vh en';subst e;cases ry;obtain⟨us,rv,qs,_⟩:=I.side sq;have me:=fun y (hy:y∈us.toArray)=>W6 (A:=X.A.in1) I en rx nd (n:=98) (by show X.A.units+1+98<cLine;omega) hd l rv y (by simpa using hy);have ev:us.toArray.any (eqW X H d)=ds.any fun e=>deq e d:=by rw[List.any_toArray];exact Dt I (by omega) l rv
 unfold qg at qs;cases k with
 |true=>rw[if_pos rfl]at qs;exact SeqAt.in_listAt (eqW X H d) qs me (by rw[ev];exact⟨.bl _,H,I,rfl,q⟩)
 |false=>rw[if_neg xg]at qs;exact SeqAt.in_tupleAt (eqW X H d) qs me (by rw[ev];exact⟨.bl _,H,I,rfl,q⟩)
theorem Cg(hu:X.A.units+100<cLine):OpR X (compareOp .NotIn) (fun x y H Q=>∃d ds k,Enc X.K H d x∧Enc X.K H (D.seq k ds) y∧D.depL ds≤98∧d.dep<10000∧Q (.bl (!ds.any fun e=>deq e d)) H):=by
 rintro pins s σ H x y v u Q I rx ry ⟨d,ds,k,en,en',hd,nd,q⟩;obtain⟨t,xs,e,sq,l⟩:=Vh en';subst e;cases ry;obtain⟨us,rv,qs,_⟩:=I.side sq;have me:=fun y (hy:y∈us.toArray)=>W6 (A:=X.A.in1) I en rx nd (n:=98) (by show X.A.units+1+98<cLine;omega) hd l rv y (by simpa using hy);have ev:us.toArray.any (eqW X H d)=ds.any fun e=>deq e d:=by rw[List.any_toArray];exact Dt I (by omega) l rv
 unfold qg at qs;cases k with
 |true=>rw[if_pos rfl]at qs;exact SeqAt.notIn_listAt (eqW X H d) qs me (by rw[ev];exact⟨.bl _,H,I,rfl,q⟩)
 |false=>rw[if_neg xg]at qs;exact SeqAt.notIn_tupleAt (eqW X H d) qs me (by rw[ev];exact⟨.bl _,H,I,rfl,q⟩)
theorem j58 (hu:X.A.units+100<cLine):MtR X "tuple.count" (fun x vs H Q=>∃t xs ds d y,x=.ref t∧vs=[y]∧SqT X.K H t xs∧j4 X.K H ds xs∧Enc X.K H d y∧D.depL ds≤97∧d.dep<10000∧Q (.int (ds.countP fun e=>deq e d)) H):=by
 rintro pins s σ H x vs v us Q I rx rv ⟨t,xs,ds,d,y,e,e',sq,l,en,hd,nd,q⟩;subst e e';cases rx;obtain⟨u,eu,ru⟩:=rv.one;subst eu;obtain⟨its,ri,⟨⟨cl,dd,da,sl⟩,h1,h2,n,h3⟩,_⟩:=I.tuple sq;have h2:cl=.type "tuple":=h2;have h3:da=.seq its.toArray n:=h3;subst h2 h3;refine call_meets F.slot_tuple_count ⟨_,h1,rfl⟩ F.entry_tuple_count (F.args_tuple_count_2 _ _) (SeqAt.tuple_countAt t its.toArray n dd sl u (eqW X H d)) ⟨h1,fun y hy=>W6 (n:=97) I en ru nd (by show X.A.units+1+97<cLine;omega) hd l ri y (by simpa using hy),?_⟩;have ev:(its.toArray.toList.countP (eqW X H d):Nat)=ds.countP fun e=>deq e d:=by rw[List.toList_toArray];exact Ww I (by omega) l ri
 rw[ev];exact⟨.int _,H,I.tok _,⟨_,rfl⟩,q⟩
theorem j7l:OpR X (binaryOp .Add) (fun x y H Q=>∃a b xs ys,x=.ref a∧y=.ref b∧SqT X.K H a xs∧SqT X.K H b ys∧xs.length+ys.length≤sizeLine ∧
  (xs=[]→Q (.ref b) H)∧(xs≠[]→ys=[]→Q (.ref a) H)∧(xs≠[]→ys≠[]→∀p,H p=none→Q (.ref p) (upd H p (.tup (xs++ys))))):=by
 rintro pins s σ H x y v u Q I rx ry ⟨a,b,xs,ys,e,e',sa,sb,hz,q1,q2,q3⟩;by_cases hx:xs=[]
 ·subst e e' hx;cases rx;cases ry;obtain⟨us,ru,⟨⟨c1,d1,f1,g1⟩,h1,k1,n1,m1⟩,_⟩:=I.tuple sa;obtain⟨vs,rv,⟨⟨c2,d2,f2,g2⟩,h2,k2,n2,m2⟩,_⟩:=I.tuple sb;cases ru;have k1:c1=.type "tuple":=k1;have m1:f1=.seq ([]:List Value).toArray n1:=m1;have k2:c2=.type "tuple":=k2;have m2:f2=.seq vs.toArray n2:=m2;subst k1 m1 k2 m2;exact concat_meets ⟨_,h1,rfl⟩ ⟨_,h2,rfl⟩ noFill_tuple_add seq_tuple_add PySem.F.slot_tuple_add PySem.F.entry_tuple_add (PySem.F.args_tuple_add_2 _ _)
   (tuple_addW0 a b ([]:List Value).toArray vs.toArray n1 n2 d1 d2 g1 g2 (by simp)) ⟨h1,h2,⟨.ref b,H,I,rfl,q1 rfl⟩⟩
 ·exact jbb pins s σ H x y v u Q I rx ry ⟨a,b,xs,ys,e,e',sa,sb,hx,hz,q2 hx,q3 hx⟩
theorem all_range:∀bs:List Bool,(List.range bs.length).all (fun i=>(bs[i]?).getD true)=bs.all id
 |[]=>rfl
 |b::bs=>by rw[X4,List.range_succ_eq_map,Tn,List.all_map,Tn,←all_range bs];rfl
theorem j15 (hc:X.calm=true):Jj X (.builtin "all") (fun xs H Q=>∃(l:Addr)(bs:List Bool),xs=[.ref l]∧SqL X.K H l (bs.map V.bl)∧Q (.bl (bs.all id)) H):=by
 rintro pins s σ H xs us Q I r ⟨l,bs,e,sq,q⟩;subst e;obtain⟨u,eu,ru⟩:=vals1 r;subst eu;cases ru;obtain⟨its,rv,pl,_⟩:=I.list sq;have hlt:l<s.heap.objs.size:=by obtain⟨_,_,e,_⟩:=pl;exact xn e
 have hl:its.length=bs.length:=by rw[←rv.length,km]
 refine call_all_walk (wpAny_pyIter_list pl.isList ⟨s.heap.objs.size,[s.heap.objs.size,l],[s.heap.objs.size],its.toArray.size,_,_,fun i=>(bs[i]?).getD true,rfl,Walks.list (A:=X.A.in1) (I.ok.hd hc) _ _ (X8 hlt) its.toArray,⟨⟨_,X5 _ rfl,rfl,rfl⟩,pl.isList.push _⟩,?_,fun h' tk kp=>?_⟩)
 ·intro i v s' Q' E' hv hq;have hi:i<its.length:=by have:=Array.getElem?_eq_some_iff.mp hv;obtain⟨h,_⟩:=this;simpa using h
  have hb:i<bs.length:=by omega
  obtain⟨w1,hw,rw1⟩:=rv.get (x:=.bl bs[i]) (i:=i) (by rw[X7,kh hb];rfl);have:its.toArray[i]?=some w1:=by simpa using hw
  rw[this]at hv;cases hv;cases rw1;simp only[kh hb,Option.getD_some]at hq;exact wpAny_truthy_bool hq
 ·have ev:(List.range its.toArray.size).all (fun i=>(bs[i]?).getD true)=bs.all id:=by rw[X3,hl];exact all_range bs
  rw[ev];refine⟨.bl _,H,I.kept (t':=tk) fun b o e=>kp b o ?_ (xj _ e),rfl,q⟩;intro z;rw[xu.mp z]at e;exact Xv _ (xn e)
end
section
variable{X:Cx}{ρ:Rho}{a b e:Expr}{d d':D}{ds ds':List D}{i j:Int}{pos p p1 p2:Pos}{k:Nat}{x:Str}{P:Po}
theorem DE.eqD(hu:X.A.units+100<cLine)(ha:DT X ρ a d)(hb:DT X ρ b d')(hd:d.dep≤100)(nd:d'.dep<10000):DE X ρ (.Compare a [.Eq] [b] pos) (.bl (deq d d')):=fun σ H Q R q =>(Jq (j54 hu) peS peS (qy _)).to (ha σ H _ R fun v H1 g1 e1=>hb σ H1 _ (R.grow g1) fun u H2 g2 e2=>⟨d,d',e1.mono g2,e2,hd,nd,q _ H2 (g1.trans g2) rfl⟩)
theorem DB.eqD(hu:X.A.units+100<cLine)(ha:DT X ρ a d)(hb:DT X ρ b d')(hd:d.dep≤100)(nd:d'.dep<10000):DB X ρ (.Compare a [.Eq] [b] pos) (deq d d'):=fun σ H Q R q =>(Jp (j54 hu) peS peS (qy _)).to (ha σ H _ R fun v H1 g1 e1=>hb σ H1 _ (R.grow g1) fun u H2 g2 e2=>⟨d,d',e1.mono g2,e2,hd,nd,_,rfl,q H2 (g1.trans g2)⟩)
theorem DB.neD(s:Bool)(hu:X.A.units+100<cLine)(ha:DT X ρ a (D.seq s ds))(hb:DT X ρ b (D.seq s ds'))(hd:D.depL ds≤98)(nd:D.depL ds'<10000):DB X ρ (.Compare a [.NotEq] [b] pos) (!vd ds ds'):=fun σ H Q R q =>(Jp (j52 hu) peS peS (qy _)).to (ha σ H _ R fun v H1 g1 e1=>hb σ H1 _ (R.grow g1) fun u H2 g2 e2=>⟨ds,ds',s,e1.mono g2,e2,hd,nd,_,rfl,q H2 (g1.trans g2)⟩)
theorem DB.notIn(s:Bool)(hu:X.A.units+100<cLine)(ha:DT X ρ a d)(hb:DT X ρ b (D.seq s ds))(hd:D.depL ds≤98)(nd:d.dep<10000)(hm:behindInMarks .NotIn b=false:=by with_unfolding_all rfl):DB X ρ (.Compare a [.NotIn] [b] pos) (!ds.any fun e=>deq e d):=fun σ H Q R q =>(Jp (Cg hu) peS peS hm).to (ha σ H _ R fun v H1 g1 e1=>hb σ H1 _ (R.grow g1) fun u H2 g2 e2=>⟨d,ds,s,e1.mono g2,e2,hd,nd,_,rfl,q H2 (g1.trans g2)⟩)
theorem DB.in(s:Bool)(hu:X.A.units+100<cLine)(ha:DT X ρ a d)(hb:DT X ρ b (D.seq s ds))(hd:D.depL ds≤98)(nd:d.dep<10000)(hm:behindInMarks .In b=false:=by with_unfolding_all rfl):DB X ρ (.Compare a [.In] [b] pos) (ds.any fun e=>deq e d):=fun σ H Q R q =>(Jp (j53 hu) peS peS hm).to (ha σ H _ R fun v H1 g1 e1=>hb σ H1 _ (R.grow g1) fun u H2 g2 e2=>⟨d,ds,s,e1.mono g2,e2,hd,nd,_,rfl,q H2 (g1.trans g2)⟩)
theorem DE.countT (hu:X.A.units+100<cLine) (ha:DT X ρ a (.tup ds)) (hb:DT X ρ b d) (hd:D.depL ds≤97) (nd:d.dep<10000) (hbase:attributeBase a "count" X.env (eval a X.env)=eval a X.env:=by rfl)
  (hfew:((backTo p2 (starEach [b] X.env)).all (fun x=>!x.1)&&(backToKw p2 (keywordEach [] X.env)).all (fun x=>x.1.isSome)
   && decide (([b]:List Expr).length+([]:List Keyword).length+(if ([]:List Keyword).isEmpty then 0 else 1)<30))=true:=by rfl) (hline:(p1.endLine==p2.line)=true:=by rfl)
  (hs:starEach [b] X.env=(false,eval b X.env)::starEach [] X.env:=by rfl):DE X ρ (.Call (.Attribute a "count" p1) [b] [] p2) (.int (ds.countP fun e=>deq e d)):=fun σ H Q R q =>
 (Nb PySem.F.plainAttrs_tuple PySem.F.slot_tuple_count PySem.F.type_tuple_count (j58 hu) peS (jd peS jw hs) hbase hfew hline hs rfl).to (ha σ H _ R fun v H1 g1 ⟨t,xs,e,sq,l⟩=>⟨by rw[e];exact .inr (.inl ⟨rfl,xs,sq⟩),hb σ H1 _ (R.grow g1) fun u H2 g2 e2 =>
  ⟨t,xs,ds,d,u,e,rfl,g2.seqT sq,l.mono g2,e2,hd,nd,q _ H2 (g1.trans g2) rfl⟩⟩)
theorem DE.min (ha:DT X ρ a (.int i)) (hb:DT X ρ b (.int j)) (hm:X.mg "min" = none) (hc:X.calm=true:=by rfl) (hg:Gl X "min":=by rfl) (hs:starEach [a,b] X.env=(false,eval a X.env)::starEach [b] X.env:=by rfl) (hs2:starEach [b] X.env=(false,eval b X.env)::starEach [] X.env:=by rfl)
  (hpl:(backTo pos (starEach [b] X.env)).any (·.1)=false:=by rfl):DE X ρ (.Call (.Name "min" p) [a,b] [] pos) (.int (if j<i then j else i)):=fun σ H Q R q =>
 (zx (j6b hc) hg hm boot_min (jd peS (jd peS jw hs2) hs) (by decide) (by decide) hs hpl).to (ha σ H _ R fun v H1 g1 e1=>hb σ H1 _ (R.grow g1) fun u H2 g2 e2=>⟨i,j,by rw[show v=.int i from e1,show u=.int j from e2],q _ H2 (g1.trans g2) rfl⟩)
theorem Bd{K:k85}{H:Hp}:∀{bs:List Bool}{xs:List V},j4 K H (bs.map D.bl) xs→xs=bs.map V.bl
 |[],_,h=>h
 |b::bs,_,⟨x,r,e,h,l⟩=>by subst e;cases(show x=.bl b from h);rw[Bd l];rfl
theorem DE.all {bs:List Bool} (ha:DT X ρ a (.lst (bs.map D.bl))) (hm:X.mg "all" = none) (hc:X.calm=true:=by rfl) (hg:Gl X "all":=by rfl) (hs:starEach [a] X.env=[(false,eval a X.env)]:=by rfl):DE X ρ (.Call (.Name "all" p) [a] [] pos) (.bl (bs.all id)):=fun σ H Q R q =>(zx (j15 hc) hg hm boot_all (jd peS jw hs) (by decide) (by decide) hs).to (ha σ H _ R fun v H1 g1 ⟨l,xs,e,sq,en⟩=>⟨l,bs,by rw[e],by rw[Bd en]at sq;exact sq,q _ H1 g1 rfl⟩)
def jd6(X:Cx)(e:Option Expr):TO:=fun σ H Q=>∀pins s,Inv X pins σ H s→wpAny (model X.prog X.w) X.A (evalPart e X.env) (fun u s'=>∃o H',Inv X pins σ H' s'∧IsPart u o∧Q o H') X.xe s
theorem poS{e:Option Expr}:PO X e (jd6 X e):=fun pins s σ H Q I h=>h pins s I
def DP(X:Cx)(ρ:Rho)(e:Option Expr)(o:Option Int):Prop:=∀σ H Q,Rep X.K ρ σ H→(∀H',j0 H H'→Q o H')→jd6 X e σ H Q
theorem DP.none:DP X ρ none none:=fun σ H Q R q pins s I=>jb3 pins s σ H Q I (q H (j0.refl H))
theorem DP.some(h:DT X ρ e (.int i)):DP X ρ (some e) (some i):=fun σ H Q R q pins s I=>jb2 peS pins s σ H Q I (h σ H _ R fun v H1 g1 e1=>⟨i,e1,q H1 g1⟩)
variable{lo hi:Option Expr}{l u:Option Int}
theorem DS.setItem(m:Nat){t:Addr}{n:Nat}(hk:ρ[m]?=some (.own t ds))(he:DE X ρ e d)(hi:DT X ρ a (.int i))(hx:ixN ds.length i=some n)(h:P.nx (ρ.set m (.own t (ds.set n d))))
  (hN:X.N[m]?=some x:=by rfl) (hv:Vis X.env.scope x:=by first|exact Or.inl rfl|exact Or.inr (Or.inl rfl)|exact Or.inr (Or.inr rfl)) (hd:(x==k89)=false:=by decide) (hcd:(x==k8a)=false:=by decide)
  (ha:∀v,assign (.Subscript (.Name x p) a p1) X.env v=(do
   let ov ←holding [v] (eval (.Name x p) X.env)
   let iv ←holding [v,ov] (eval a X.env)
   standAt p1
   holding [v,ov,iv] (setItem ov iv v)
   release [v,ov,iv] []):=by intro _;rfl)
  (hs:swapsWithSole [.Subscript (.Name x p) a p1] e pos.line X.env=pure false:=by rfl) (hw:swappedStores [.Subscript (.Name x p) a p1] e X.env=pure none:=by rfl)
  (h1:(assignEach [.Subscript (.Name x p) a p1] X.env).map (·.2)=[assign (.Subscript (.Name x p) a p1) X.env]:=by rfl):DS X ρ (.Assign [.Subscript (.Name x p) a p1] e pos) P:=fun σ H E R q=>by
 refine(jdq peS (jdu (zr hN hv hd hcd) peS set_list ha) hs hw h1).to (he σ H _ R fun v H1 g1 e1=>?_);obtain⟨hσ,xs,mm,en⟩:=(R.grow g1).own m t ds hk;refine⟨_,hσ,hi σ H1 _ (R.grow g1) fun u H2 g2 e2=>⟨t,xs,i,n,rfl,e2,g2 _ _ mm,by rw[en.length];exact hx,?_⟩⟩;exact q.nx _ σ _ h ((R.grow (g1.trans g2)).upd_own hk ((en.mono (je g2)).set (e1.mono (je g2)))) (Ey (σ:=σ) hk (g1.trans g2))
end
end L2
end
section
namespace L2
open PySem PySem.Spec PyProof.Rows
def jd0(K:k85)(S:List D→List D→D→List D→Prop):Sp:=fun vs H Q _=>∃(a:Addr)(ds l:List D)(d:D)(l':List D)(ws xs:List V),vs=ws++[.ref a]∧TabOk K H∧H a=some (.lst xs)∧j4 K (del H [a]) l xs∧j4 K (del H [a]) ds ws∧S ds l d l' ∧
 ∀v H' ys,j0 (del H [a]) (del H' [a])→H' a=some (.lst ys)→j4 K (del H' [a]) l' ys→Enc K (del H' [a]) d v→Q v H'
section
variable{X:Cx}{ρ ρ1:Rho}{e e1 e2 e3 c:Expr}{st:Stmt}{rest sa:List Stmt}{a:Addr}{d d1 d2 d3:D}{l l':List D}{k i:Nat}{x y f:Str}{p p1 p2 p3 p4 pos:Pos}
end
noncomputable def j4t(draw n:Int):Int:=if 0<n then n%60 else(draw*48271+11)%2147483647/16
noncomputable def Oq(draw n:Int):Int:=if 0<n then n%60/6%2 else(draw*48271+11)%2147483647/128%2
noncomputable def Mp(n:Int):Int:=if 0<n then n/60 else n
noncomputable def Uh:Nat→List Str→Int→Int→D×Int
 |0,_,draw,n=>(.tup [.str "tell",.int (Oq draw n)],Mp n)
 |k+1,ws,draw,n=>match ws[(j4t draw n%ws.length).toNat]? with
  |none=>(.tup [.str "tell",.int (Oq draw n)],Mp n)
  |some y=>if j4t draw n%6=0 then(.tup [.str "tell",.int (Oq draw n)],Mp n)
   else(.tup [.str "ask",.str y,(Uh k (ws.filter fun z=>!(z==y)) ((draw*48271+11)%2147483647*3+1) (Mp n)).1,
     (Uh k (ws.filter fun z=>!(z==y)) ((draw*48271+11)%2147483647*5+2) (Uh k (ws.filter fun z=>!(z==y)) ((draw*48271+11)%2147483647*3+1) (Mp n)).2).1],
    (Uh k (ws.filter fun z=>!(z==y)) ((draw*48271+11)%2147483647*5+2) (Uh k (ws.filter fun z=>!(z==y)) ((draw*48271+11)%2147483647*3+1) (Mp n)).2).2)
def j9n(ds l:List D)(d:D)(l':List D):Prop:=∃(ws:List Str)(draw n:Int)(k:Nat),ds=[.lst (ws.map D.str),.int draw,.int k]∧l=[.int n]∧k≤5∧ws.length≤60∧d=(Uh k ws draw n).1∧l'=[.int (Uh k ws draw n).2]
section
variable{P:Program}{w:World}{K:k85}{mg:k88}{base:Heap}{x qual:Str}{st:Stmt}{f:Addr}{fd:FuncData}{N ps:List Str}{k:Nat}
end
end L2
end
section
namespace L2
open PySem PySem.Spec PyProof.Rows
def Fz(o:Option HO):Prop:=(∃xs,o=some (.lst xs))∨∃oc v,o=some (.frz oc (.own 0))∧oc.data=.cell v
theorem j5l{P:Program}{w:World}{K:k85}{mg:k88}{base:Heap}{A0:Around}{outer:List Env}{s:Shared}{H:Hp}{A:List Addr}(e0:Env0 P w K mg base A0 outer s H)(hA:∀a∈A,Fz (H a)) :
  Env0 P w K mg base A0 outer s (del H A)∧∀(Q:VK)(E E':XK)(r:Result)(s':Shared),CR CX0 outer P w (del H A) s (fun v F=>(∀a∈A,F a=none)→Q v (mrg A H F)) E r s'→CR CX0 outer P w H s Q E' r s':=by
 have nd:∀{b:Addr},H b=none→del H A b=none:=fun{b} q=>by
  by_cases z:b∈A
  ·exact q8 z
  ·rw[j5 z];exact q
 have out:∀{b:Addr}{o:HO},H b=some o→(∀ys,o≠.lst ys)→(∀oc v,o=.frz oc (.own 0)→oc.data≠.cell v)→b∉A:=fun{b o} q z z2 y=>by
  rcases hA b y with ⟨ys,e'⟩|⟨oc,v,e',d⟩
  ·rw[q]at e';cases e';exact z ys rfl
  ·rw[q]at e';cases e';exact z2 _ _ rfl d
 have e1:Env0 P w K mg base A0 outer s (del H A):=⟨e0.frames,e0.mod,fun b o q=>⟨(e0.bs b o q).1,nd (e0.bs b o q).2⟩,e0.bsz,e0.funs,fun b hb=>nd (e0.frf b hb),
  fun a o q=>by
   obtain⟨_,q⟩:=of_del q
   exact jg.stay (e0.hok a o q) (fun b u _ z=>z) (fun b z=>by rw[j5 (out z (fun _ y=>by cases y) fun _ _ y=>by cases y)];exact z) (fun b xs z=>by rw[j5 (out z (fun _ y=>by cases y) fun _ _ y=>by cases y)];exact z)
    (fun b o ⟨vs,d⟩ z=>by rw[j5 (out z (fun _ y=>by cases y) fun _ _ y d'=>by cases y;rw[d]at d';cases d')];exact z),e0.bare⟩
 refine⟨e1,fun Q E E' r s' hq=>?_⟩;cases r with
 |error e=>exact(show False from hq).elim
 |ok fl =>
  cases fl with
  |next=>exact(show False from hq).elim
  |brk=>exact(show False from hq).elim
  |cont=>exact(show False from hq).elim
  |ret u =>
   obtain⟨v,H',os,bare,un,hok',rel,q⟩:=(show CE outer P w (del H A) s _ u s' from hq)
   have kept:∀a∈A,∃o,s.heap.get? a=some o∧s'.heap.get? a=some o∧H' a=none:=fun a ha=>by
    have nf:a∉frs outer:=fun y=>by have z:=e0.frf a y;rcases hA a ha with ⟨xs,e⟩|⟨oc,v,e,_⟩<;>(rw[z]at e;cases e)
    have ob:∃o,s.heap.get? a=some o:=by
     rcases hA a ha with ⟨xs,e⟩|⟨oc,v,e,_⟩
     ·obtain⟨_,its,n,_,z⟩:=(show jg P w H s.heap a (.lst xs)from e0.hok _ _ e);exact⟨_,z⟩
     ·exact⟨_,(show jg P w H s.heap a (.frz oc (.own 0))from e0.hok _ _ e).1⟩
    obtain⟨o,z⟩:=ob;exact⟨_,z,un.keep a _ z (q8 ha) nf (by simp),un.free a _ z (q8 ha) (by simp)⟩
   have hF:∀a∈A,H' a=none:=fun a ha=>let ⟨_,_,_,z⟩:=kept a ha;z;have outF:∀{b:Addr}{o:HO},H' b=some o→b∉A:=fun{b o} e z=>by rw[hF b z]at e;cases e
   refine⟨v,mrg A H H',os,bare,?_,fun a o e=>?_,rel,q hF⟩
   ·exact{
     keep:=fun b o e n=>un.keep b o e (nd n)
     slot:=fun b o e n=>un.slot b o e (nd n)
     free:=fun b o e n hx=>by
      by_cases z:b∈A
      ·rw[J8 z];exact n
      ·rw[jh z];exact un.free b o e (nd n) hx
     there:=un.there
     tups:=fun b xs e=>by
      have z:=un.tups b xs (by rw[j5 (out e (fun _ y=>by cases y) fun _ _ y=>by cases y)];exact e)
      rw[jh (outF z)];exact z
     frzs:=fun b o u e=>by
      by_cases y:b∈A
      ·rw[J8 y];exact e
      ·have z:=un.frzs b o u (by rw[j5 y];exact e)
       rw[jh y];exact z
     tbls:=fun b ps e=>by
      obtain⟨more,z⟩:=un.tbls b ps (by rw[j5 (out e (fun _ y=>by cases y) fun _ _ y=>by cases y)];exact e)
      exact⟨more,by rw[jh (outF z)];exact z⟩ }
   ·by_cases z:a∈A
    ·rw[J8 z]at e;obtain⟨o',q1,q2,_⟩:=kept a z;rcases hA a z with ⟨xs,e'⟩|⟨oc,v,e',_⟩
     ·rw[e']at e;cases e;obtain⟨hl,its,n,r,y⟩:=(show jg P w H s.heap a (.lst xs)from e0.hok _ _ e')
      rw[y]at q1;cases q1;exact⟨hl,its,n,r,q2⟩
     ·rw[e']at e;cases e;have y:=(show jg P w H s.heap a (.frz oc (.own 0))from e0.hok _ _ e').1;rw[y]at q1;cases q1;exact⟨q2,_,q2⟩
    ·rw[jh z]at e;refine jg.stay (hok' a o e) (fun b u _ q=>q) (fun b q=>?_) (fun b xs q=>?_) (fun b _ _ q=>?_)
     ·rw[jh (outF q)];exact q
     ·rw[jh (outF q)];exact q
     ·rw[jh (outF q)];exact q
structure LamScope(N ps:List Str)(sc:Scope):Prop where
 kind:sc.kind=.function
 co:sc.isCoroutine=false
 gen:sc.isGenerator=false
 nd:N.Nodup
 nm:N=zp sc++ps
 lfr:∀x∈zp sc,sc.names.lookup x=some .free
 lps:∀x∈ps,sc.names.lookup x=some .local
 nocell:∀y∈sc.names,y.2≠.cell
 cov:∀x,sc.names.lookup x=some .free→x∈zp sc
noncomputable def Uo(P:Program)(w:World)(K:k85)(mg:k88)(base:Heap)(N:List Str)(qual:Str)(scope:Scope)(a:Addr)(cd:Value)(cl:List (Str×Addr))(A:Around)(outer:List Env)(s:Shared)(H:Hp):Cx where
 prog:=P
 w:=w
 K:=K
 mg:=mg
 base:=base
 A:=A.deeper (W.envX qual scope s.heap.objs.size a cd cl)
 N:=N
 s₀:=s
 H₀:=H
 env:=W.envX qual scope s.heap.objs.size a cd cl
 outer:=outer
 stack:=W.envX qual scope s.heap.objs.size a cd cl::outer
 ex:=[]
 calm:=true
 fn:=fun _=>false
 pn:=[]
 xe:=fun _ _=>False
def Jw(h:Heap):List Addr→List V→Prop
 |[],vs=>vs=[]
 |c::cs,vs=>∃v r u,vs=v::r∧h.IsCell c (some u)∧RelV v u∧Jw h cs r
theorem Jw.get{h:Heap}:∀{cs:List Addr}{vs:List V}{i:Nat}{v:V},Jw h cs vs→vs[i]?=some v→∃c u,cs[i]?=some c∧h.IsCell c (some u)∧RelV v u
 |[],_,i,v,e,q=>by cases e;simp at q
 |c::cs,_,0,v,⟨x,r,u,e,h1,h2,_⟩,q=>by subst e;simp at q;subst q;exact⟨c,u,rfl,h1,h2⟩
 |c::cs,_,i+1,v,⟨x,r,u,e,_,_,l⟩,q=>by subst e;obtain⟨c',u',z1,z2⟩:=Jw.get l (i:=i) (by simpa using q);exact⟨c',u',by simpa using z1,z2⟩
theorem Jw.length{h:Heap}:∀{cs:List Addr}{vs:List V},Jw h cs vs→vs.length=cs.length
 |[],_,e=>by cases e;rfl
 |c::cs,_,⟨x,r,u,e,_,_,l⟩=>by subst e;simp[l.length]
theorem Jw.all{h:Heap}:∀{cs:List Addr}{vs:List V},Jw h cs vs→∀c∈cs,∃v,h.IsCell c v
 |c::cs,_,⟨x,r,u,e,h1,_,l⟩,b,hb=>(xm.mp hb).elim (fun z=>z▸⟨_,h1⟩) (l.all b)
theorem lookup_at{α:Type}:∀{l:List (Str×α)} {i:Nat} {p:Str×α},(l.map (·.1)).Nodup→l[i]?=some p→l.lookup p.1=some p.2
 |[],i,p,_,h=>by simp at h
 |q::l,0,p,_,h=>by simp at h;subst h;rw[Xi,beq_self_eq_true]
 |q::l,i+1,p,nd,h=>by rw[xr]at nd;rw[List.getElem?_cons_succ]at h;have ne:(p.1==q.1)=false:=beq_eq_false_iff_ne.mpr fun z=>(Xk.mp nd).1 (z▸List.mem_map_of_mem (Xl h));rw[Xi,ne];exact lookup_at (Xk.mp nd).2 h
theorem j38{ps:List Str}{us:List Value}{i:Nat}{p:Str}{u:Value}(nd:ps.Nodup)(hl:us.length=ps.length)(h1:ps[i]?=some p)(h2:us[i]?=some u):(ps.zip us).reverse.lookup p=some u:=by
 have hm:(p,u)∈(ps.zip us).reverse:=List.mem_reverse.mpr (Xl (i:=i) (by rw[List.getElem?_zip_eq_some];exact⟨h1,h2⟩));have e:((ps.zip us).reverse.map (·.1))=ps.reverse:=by rw[List.map_reverse,List.map_fst_zip (by omega)]
 obtain⟨j,hj⟩:=List.mem_iff_getElem?.mp hm;exact lookup_at (by rw[e];exact(List.reverse_perm ps).nodup_iff.mpr nd) hj
section
variable{P:Program}{w:World}{K:k85}{mg:k88}{base:Heap}{A:Around}{outer:List Env}{s:Shared}{H:Hp}{x:Str}{a c:Addr}{tx:Tx}{cl:List (Str×Addr)}{pm ctv:Value}{cvs vs:List V}{us:List Value}{N ps:List Str}{k:Nat}{Q:VK}{E:XK}
theorem jbu{h1:Heap}{tk:Nat}(hh:A.handled=none)(e0:Env0 P w K mg base A outer s H)(S:LamScope N ps tx.2.2)(hn:cl.map (·.1)=zp tx.2.2)(nd:(cl.map (·.2)).Nodup)(hc:Jw s.heap (cl.map (·.2)) cvs)(hf:∀q∈cl.map (·.2),H q=none)(rv:Vals vs us)(hl:vs.length=ps.length)
  (ns:h1.Ns s.heap.objs.size fun y=>(ps.zip us).reverse.lookup y) (kp:∀b o,s.heap.get? b=some o→h1.get? b=some o) :
  Inv (Uo P w K mg base N (jo x) tx.2.2 a (.ref c) cl A outer s H) [] (start N (cvs++vs)) H { s with heap:=h1,toks:=tk }:=by
 have ndN:(zp tx.2.2).Nodup:=by have:=S.nd;rw[S.nm]at this;exact(List.nodup_append.mp this).1
 have ndP:ps.Nodup:=by have:=S.nd;rw[S.nm]at this;exact(List.nodup_append.mp this).2.1
 have ndC:(cl.map (·.1)).Nodup:=by rw[hn];exact ndN
 have lenC:cvs.length=(zp tx.2.2).length:=by rw[hc.length,←hn,km,km]
 have lenN:N.length=(cvs++vs).length:=by rw[S.nm,X6,X6,lenC,hl]
 have noA:∀b:Addr,b∉(Uo P w K mg base N (jo x) tx.2.2 a (.ref c) cl A outer s H).ex:=fun b z=>absurd (show b∈([]:List Addr)from z) (by simp);have mem2:∀{y:Str}{q:Addr},cl.lookup y=some q→q∈cl.map (·.2):=fun{y q} h=>Xf.mpr ⟨(y,q),Pb h,rfl⟩;have inj:∀(l:List (Str×Addr)),(l.map (·.2)).Nodup→∀y z q,(y,q)∈l→(z,q)∈l→y=z:=fun l=>by
  induction l with
  |nil=>intro _ y z q h;cases h
  |cons p r ih =>
   intro nd y z q h1 h2;rw[xr]at nd;obtain⟨n1,n2⟩:=Xk.mp nd;rcases xm.mp h1 with e1|h1<;>rcases xm.mp h2 with e2|h2
   ·rw[←e1]at e2;cases e2;rfl
   ·exact absurd (Xf.mpr ⟨(z,q),h2,by rw[←e1]⟩) n1
   ·exact absurd (Xf.mpr ⟨(y,q),h1,by rw[←e2]⟩) n1
   ·exact ih n2 y z q h1 h2
 refine⟨⟨e0.mod,S.kind,rfl,rfl,xx _,fun y z q h1 h2=>inj cl nd y z q (Pb h1) (Pb h2),fun y hy=>?_,fun y q h=>(by cases h),fun _=>hh,Around.frames_deeper e0.frames,.inr ⟨rfl,rfl⟩,fun b z=>absurd z (noA b),e0.bs,e0.bsz,fun b _ _=>noA b,fun b z=>absurd z (noA b),e0.funs,e0.frf⟩,
  rfl,e0.bare,Un.kept kp,⟨_,ns,fun i y v h1 h2 h3=>?_⟩,fun y q h=>?_,e0.hok.fresh (xx _),fun y q h=>hf q (mem2 h),fun p hp=>absurd (show p∈([]:k87)from hp) (by simp),e0.hok.kept kp,?_⟩
 ·have hy:tx.2.2.names.lookup y=some .cell∨tx.2.2.names.lookup y=some .free:=hy;rcases hy with hy|hy
  ·exact absurd rfl (S.nocell _ (Pb hy))
  ·have m:=S.cov y hy;rw[←hn]at m;obtain⟨p,hp,e⟩:=Xf.mp m;obtain⟨i,hi⟩:=List.mem_iff_getElem?.mp hp;exact⟨p.2,by have:=lookup_at ndC hi;rw[e]at this;exact this⟩
 ·have h1:N[i]?=some y:=h1;have hi:i<(cvs++vs).length:=by rw[←lenN];exact(Xa.mp h1).1
  have ha:(cvs++vs)[i]?=some v:=by
   unfold start at h2;rw[Pa (by simpa using hi),X7]at h2;cases e:(cvs++vs)[i]? with
   |none=>rw[e]at h2;cases h2
   |some a=>rw[e]at h2;cases h2;rfl
  rw[S.nm]at h1;by_cases z:i<cvs.length
  ·rw[Pa z]at ha;rw[Pa (by omega)]at h1;obtain⟨q,u,e1,e2,r⟩:=hc.get ha;refine⟨u,r,.inr ⟨.inr (S.lfr y (Xl h1)),q,?_,e2.keeps kp⟩⟩;rw[←hn,X7]at h1;rw[X7]at e1;obtain⟨p,hp,ep⟩:=P0.mp h1;rw[hp]at e1;have:=lookup_at ndC hp;rw[ep]at this;show cl.lookup y=some q;rw[this];exact e1
  ·rw[List.getElem?_append_right (by omega)]at ha h1;rw[←lenC]at h1;obtain⟨u,hu,r⟩:=rv.get ha;exact⟨u,r,.inl ⟨S.lps y (Xl h1),j38 ndP (by rw[←rv.length,hl]) h1 hu⟩⟩
 ·obtain⟨v,z⟩:=hc.all q (mem2 h);exact⟨v,z.keeps kp⟩
 ·unfold start;show _=N.length;rw[X6,km,Xp];omega
theorem j7u (hr:Room (k+1) A) (e0:Env0 P w K mg base A outer s H) (ho:s.heap.get? a=some (W.kla_obj "<lambda>" (jo x) tx.1 tx.2.1 tx.2.2 cl pm c ctv)) (hcd:s.heap.CodeRec (.ref c) (jo x))
  (S:LamScope N ps tx.2.2) (hn:cl.map (·.1)=zp tx.2.2) (nd:(cl.map (·.2)).Nodup) (hc:Jw s.heap (cl.map (·.2)) cvs) (hf:∀q∈cl.map (·.2),H q=none)
  (hb:bindArgs (W.kla_fn "<lambda>" (jo x) tx.1 tx.2.1 tx.2.2 cl pm (.ref c) ctv) ⟨us,[]⟩=pure (ps.zip us)) (rv:Vals vs us) (hl:vs.length=ps.length)
  (body:Room k (Uo P w K mg base N (jo x) tx.2.2 a (.ref c) cl A outer s H).A→Jo (Uo P w K mg base N (jo x) tx.2.2 a (.ref c) cl A outer s H) tx.2.1 (start N (cvs++vs)) H Q) :
  codeAny (model P w) A (.call (.ref a) ⟨us,[]⟩) (CR CX0 outer P w H s Q E) s:=by
 have lim:s.heap.NoLimit:=e0.mod.nolimit.keeps fun b o e=>(e0.bs b o e).1;refine W.kla_callFunE (by have:=hr.dp;omega) ho rfl S.co S.gen rfl hcd ?_;rw[hb];refine wpAny_pure (wpAny_newFunctionEnv S.nocell (fun y hy=>S.lps y.1 (List.of_mem_zip (a:=y.1) (b:=y.2) hy).1) (fun h1 ns sb=>⟨lim.fresh _ sb,?_⟩) S.kind);show codeAny _ _ (.expr tx.2.1 (W.envX (jo x) tx.2.2 s.heap.objs.size a (.ref c) cl)) _ _;have kp:∀b o,s.heap.get? b=some o→h1.get? b=some o:=fun b o e=>sb.extBut b o (X8 (xn e)) (xj _ e);have I:=jbu (x:=x) (a:=a) (c:=c) (tk:=s.toks+(ps.zip us).length) hr.hd e0 S hn nd hc hf rv hl ns kp;refine W.kla_codeExpr (wpAny_mono (body (hr.deeper _) [] _ I) (fun u s' ⟨v,H',J,r,q⟩=>?_) fun _ _ z=>z.elim);exact⟨v,H',J.os,J.bare,J.base,J.hok,r,q⟩
end
end L2
end
section
namespace L2
open PySem PySem.Spec PyProof.Rows
mutual
noncomputable def noFn:D→Bool
 |.fn _ _=>false
 |.tup ds=>J6 ds
 |.lst ds=>J6 ds
 |.dct _ ds=>J6 ds
 |_=>true
noncomputable def J6:List D→Bool
 |[]=>true
 |d::ds=>noFn d&&J6 ds
end
section
variable{K:k85}{H:Hp}{A:List Addr}
def Cel(H:Hp)(A:List Addr):Prop:=∀a∈A,∃oc v,H a=some (.frz oc (.own 0))∧oc.data=.cell v
theorem Cel.out(hA:Cel H A){b:Addr}{o:HO}(q:H b=some o)(h:∀oc,o≠.frz oc (.own 0)):del H A b=some o:=by rw[j5];exact q;intro y;obtain⟨oc,v,e,_⟩:=hA b y;rw[q]at e;exact h oc (Option.some.inj e)
theorem Cel.seqT(hA:Cel H A){a:Addr}{xs:List V}(h:SqT K H a xs):SqT K (del H A) a xs:=by
 rcases h with (h|⟨o,h⟩)|h
 ·exact .inl (.inl (hA.out h fun _ z=>by cases z))
 ·exact .inl (.inr ⟨o,hA.out h fun _ z=>by cases z⟩)
 ·exact .inr h
theorem Cel.seq(hA:Cel H A){a:Addr}{xs:List V}(h:SqL K H a xs):SqL K (del H A) a xs:=by
 rcases h with (h|⟨o,h⟩)|h
 ·exact .inl (.inl (hA.out h fun _ z=>by cases z))
 ·exact .inl (.inr ⟨o,hA.out h fun _ z=>by cases z⟩)
 ·exact .inr h
mutual
theorem Enc.noc(hA:Cel H A):∀{d:D}{v:V},noFn d=true→Enc K H d v→Enc K (del H A) d v
 |.non,_,_,h=>h
 |.bl _,_,_,h=>h
 |.int _,_,_,h=>h
 |.str _,_,_,h=>h
 |.tup _,_,n,⟨a,xs,e,q,l⟩=>⟨a,xs,e,hA.seqT q,j4.noc hA (by simpa [noFn]using n) l⟩
 |.lst _,_,n,⟨a,xs,e,q,l⟩=>⟨a,xs,e,hA.seq q,j4.noc hA (by simpa [noFn]using n) l⟩
 |.dct _ _,_,n,⟨a,xs,ep,vs,e,q,ek,kt,rv,l⟩=>⟨a,xs,ep,vs,e,hA.out q (fun _ z=>by cases z),ek,fun x hx=>hA.seqT (kt x hx),rv,j4.noc hA (by simpa [noFn]using n) l⟩
 |.sct _,_,_,⟨a,e,q⟩=>⟨a,e,hA.out q fun _ z=>by cases z⟩
 |.fn _ _,_,n,_=>by cases n
theorem j4.noc(hA:Cel H A):∀{ds:List D}{xs:List V},J6 ds=true→j4 K H ds xs→j4 K (del H A) ds xs
 |[],_,_,h=>h
 |d::ds,_,n,⟨x,r,e,h,l⟩=>by rw[J6,Xb]at n;exact⟨x,r,e,Enc.noc hA n.1 h,j4.noc hA n.2 l⟩
end
theorem vf.cel:∀{cs:List Addr}{vs:List V},vf H cs vs→Cel H cs
 |[],_,_=>fun _ h=>nomatch h
 |c::cs,_,⟨v,r,o,u,e,h,d,rv,l⟩=>fun a ha=>(xm.mp ha).elim (fun z=>⟨o,_,z▸h,d⟩) (l.cel a)
theorem vf.inn{P:Program}{w:World}{h:Heap}(ok:HOk P w H h):∀{cs:List Addr}{vs:List V},vf H cs vs→Jw h cs vs
 |[],_,e=>e
 |c::cs,_,⟨v,r,o,u,e,q,d,rv,l⟩=>⟨v,r,u,e,⟨o,(show jg P w H h c (.frz o (.own 0))from ok _ _ q).1,d⟩,rv,l.inn ok⟩
theorem vf.of_del{B:List Addr}:∀{cs:List Addr}{vs:List V},vf (del H B) cs vs→vf H cs vs:=fun h=>h.mono jm
theorem TabOk.fz(h:TabOk K H)(hA:∀a∈A,Fz (H a)):TabOk K (L2.del H A):=fun x hx c P z=>by have q:=h x hx c P z;rw[j5];exact q;intro y;rcases hA _ y with ⟨xs,e⟩|⟨oc,v,e,_⟩<;>(rw[q]at e;cases e)
end
def Ka(P:Program)(w:World)(K:k85)(mg:k88)(base:Heap)(k:Nat)(x:Str)(S:List D→D→Prop):Prop :=
 ∀(A:Around)(outer:List Env)(s:Shared)(H:Hp)(a:Addr)(B:List Addr)(cs ds:List D) (d:D) (vs:List V) (us:List Value) (Q:VK) (E:XK),Room k A→Env0 P w K mg base A outer s H→TabOk K H→(∀b∈B,∃xs,H b=some (.lst xs)) →
  Enc K (del H B) (.fn x cs) (.ref a)→j4 K (del H B) ds vs→J6 ds=true→S (cs++ds) d→Vals vs us→(∀v H',j0 H H'→Enc K (del H' B) d v→Q v H')→codeAny (model P w) A (.call (.ref a) ⟨us,[]⟩) (CR CX0 outer P w H s Q E) s
section
variable{P:Program}{w:World}{K:k85}{mg:k88}{base:Heap}{k:Nat}{x:Str}{S:List D→D→Prop}{tx:Tx}{N ps:List Str}
theorem jeo(ht:Qs K x=some tx)(Sc:LamScope N ps tx.2.2)(hl:∀ds d,S ds d→ds.length=N.length)
  (hb:∀(cl:List (Str×Addr)) (pm:Value) (c:Addr) (ctv:Value) (us:List Value),us.length=ps.length→bindArgs (W.kla_fn "<lambda>" (jo x) tx.1 tx.2.1 tx.2.2 cl pm (.ref c) ctv) ⟨us,[]⟩=pure (ps.zip us))
  (hbody:∀(a c:Addr)(cl:List (Str×Addr)) (A:Around) (outer:List Env) (s:Shared) (H:Hp),cl.map (·.1)=zp tx.2.2→Room k (Uo P w K mg base N (jo x) tx.2.2 a (.ref c) cl A outer s H).A→∀ds d,S ds d→DT (Uo P w K mg base N (jo x) tx.2.2 a (.ref c) cl A outer s H) (qp N ds) tx.2.1 d):Ka P w K mg base (k+1) x S:=by
 intro A outer s H a B cs ds d vs us Q E hr e0 tb hB en ea nf hS rv q;obtain⟨a',c,tx',cl,cvs,e,L,l⟩:=en;cases e;have et:tx'=tx:=Option.some.inj (L.tx.symm.trans ht);subst et;have cs_at:vf H (cl.map (·.2)) cvs:=L.cs.of_del;have hA:∀b∈B++cl.map (·.2),Fz (H b):=fun b hb=>(t7.mp hb).elim (fun z=>.inl (hB b z)) fun z=>.inr (cs_at.cel b z);obtain⟨e1,back⟩:=j5l e0 hA;obtain⟨pm,ctv,hfo⟩:=L.fo;obtain⟨oc,hco,vs0,t0,hd0,hv0⟩:=L.co;have ho:=(show jg P w H s.heap a (.frz _ (.own 0))from e0.hok _ _ (of_del hfo).2).1;have hcd:s.heap.CodeRec (.ref c) (jo x):=⟨c,oc,vs0,t0,rfl,(show jg P w H s.heap c (.frz oc (.own 0))from e0.hok _ _ (of_del hco).2).1,hd0,hv0⟩
 have ll:=l.length;have la:=ea.length;have hlen:=hl _ _ hS;have lenC:(cl.map (·.2)).length=(zp tx'.2.2).length:=by rw[←L.nm,km,km]
 have lcv:=(cs_at.inn e0.hok).length;have hlv:vs.length=ps.length:=by rw[Sc.nm,X6,X6]at hlen;omega
 have celB:Cel (del H B) (cl.map (·.2)):=L.cs.cel;have ea1:j4 K (del H (B++cl.map (·.2))) ds vs:=by rw[←Qu];exact ea.noc celB nf
 have l1:j4 K (del H (B++cl.map (·.2))) cs cvs:=by rw[←Qu];exact l
 refine codeAny_mono (j7u (E:=E) (Q:=fun v F=>(∀a∈B++cl.map (·.2),F a=none)→Q v (mrg (B++cl.map (·.2)) H F)) hr e1 ho hcd Sc L.nm L.nd (cs_at.inn e0.hok) (fun b hb=>q8 (Xh _ hb)) (hb cl pm c ctv us (by rw[←rv.length];exact hlv)) rv hlv fun hrm=>?_) fun r s' h=>back Q E E r s' h;refine hbody a c cl A outer s _ L.nm hrm (cs++ds) d hS _ _ _ (Ue (tb.fz hA) (l1.append ea1)) fun v F g en' hF=>q v _ (Om g) (en'.mono fun b o z=>?_);have nb:b∉B++cl.map (·.2):=fun y=>by rw[hF b y]at z;cases z
 rw[j5 (fun y=>nb (Pz _ y)),jh nb];exact z
end
section
variable{X:Cx}{ρ:Rho}{e:Expr}{es:List Expr}{d:D}{cs ds:List D}{pos p:Pos}{x y:Str}{i k:Nat}
theorem DE.callV {S:List D→D→Prop} (c:Ka X.prog X.w X.K X.mg X.base k x S) (hr:Room k X.A) (hi:ρ[i]?=some (.val (.fn x cs))) (ha:DA X ρ (e::es) ds) (nf:J6 ds=true) (hS:S (cs++ds) d) (hN:X.N[i]?=some y) (hv:Vis X.env.scope y) (hd:(y==k89)=false) (hcd:(y==k8a)=false)
  (he:starEach (e::es) X.env=(false,eval e X.env)::starEach es X.env) (hpl:(backTo pos (starEach es X.env)).any (·.1)=false):DE X ρ (.Call (.Name y p) (e::es) [] pos) d:=fun σ H Q R q pins s I=>by
 obtain⟨v,hσ,en⟩:=R.val i _ hi;obtain⟨a,c0,tx,cl,cvs,ev,L,l⟩:=id en;subst ev;refine wpAny_Call_Name_kw (thn (zr hN hv hd hcd pins s σ H (fun v' H'=>v'=.ref a∧H'=H) I ⟨_,hσ,rfl,rfl⟩) fun u s1 ⟨v',H',I1,r1,e1,e2⟩=>?_);subst e1 e2;cases(show u=Value.ref a from r1);obtain⟨pm,ctv,hfo⟩:=L.fo;have fnAt:∀{H2:Hp}{s2:Shared},Inv X pins σ H2 s2→j0 H' H2→PySem.W.FnAt a s2.heap:=fun{H2 s2} I2 g=>⟨_,_,_,_,(show jg X.prog X.w H2 s2.heap a (.frz _ (.own 0))from I2.hok _ _ (g _ _ (of_del hfo).2)).1⟩
 refine W.callWith_F (fnAt I1 (j0.refl _)) (thn (ha σ H' (fun vs H2=>j0 H' H2∧j4 X.K (del H2 (owns ρ)) ds vs) R (fun vs H2 g z=>⟨g,z⟩) pos pins s1 I1) fun us s2 ⟨vs,H2,I2,rv,g,ea⟩=>⟨fnAt I2 g,?_⟩) he hpl;refine wpAny_call (codeAny_mono (c X.A X.stack s2 H2 a (owns ρ) cs ds d vs us Q E0 hr I2.env0 (R.tb.mono g) (R.grow g).owned (en.mono (je g)) ea nf hS rv fun v H3 g3 z=>q v H3 (g.trans g3) z) fun r s' hq=>?_);cases r with
 |error e=>exact(show False from hq).elim
 |ok fl =>
  cases fl with
  |ret u=>exact I2.after hq
  |next=>exact(show False from hq).elim
  |brk=>exact(show False from hq).elim
  |cont=>exact(show False from hq).elim
end
end L2
end
section
namespace L2
open PySem PySem.Spec PyProof.Rows
theorem Nx{pos:Pos}{c cv:Value}{a b:Int}:∀(l:List Value),TriplesOk l→codeAmong pos (l++[rawInt a,rawInt b,c])=some cv→codeAmong pos l=some cv∨cv=c
 |[],_,h=>by
  simp only[List.nil_append,rawInt,codeAmong]at h;split at h
  ·exact .inr (Option.some.inj h).symm
  ·cases h
 |.int i t::.int j u::x::r,ht,h=>by
  simp only[List.cons_append,codeAmong]at h ⊢;split at h
  ·rename_i z;rw[if_pos z];exact .inl h
  ·rename_i z;rw[if_neg z];exact Nx r ht h
section
variable{X:Cx}{pins:k87}{σ:St}{H:Hp}{s:Shared}
theorem Inv.madeL{q:Str}{P:Addr}{h2:Heap}{tk:Nat}{H2:Hp}(I:Inv X pins σ H s)(hP:H P=some (.cod q))(g:j0 H H2)(kp:∀b o,b≠P→s.heap.get? b=some o→h2.get? b=some o)
  (new:∀b o,H2 b=some o→H b=some o∨(s.heap.objs.size≤b∧jg X.prog X.w H2 h2 b o)) (okP:jg X.prog X.w H2 h2 P (.cod q)):Inv X pins σ H2 { s with heap:=h2,toks:=tk }:=by
 have nP:∀{b:Addr},H b=none→b≠P:=fun{b} n z=>by rw[z,hP]at n;cases n
 have nO:∀{b:Addr}{u:HO},H b=some u→(∀q,u≠.cod q)→b≠P:=fun{b u} e n z=>by rw[z,hP]at e;cases e;exact n _ rfl
 refine I.un (H':=H2) (h':=h2) (t':=tk) ⟨fun b o e n _ _=>kp b o (nP n) e,fun b o e n _ _=>⟨o.slots,kp b o (nP n) e⟩,fun b o e n _=>?_,fun b o e _=>?_,fun b xs e=>g _ _ e,fun b o u e=>g _ _ e,fun b ps e=>⟨#[],by rw[g _ _ e];simp⟩⟩ fun b o e=>?_
 ·cases z:H2 b with
  |none=>rfl
  |some u =>
   rcases new b u z with y|⟨y,_⟩
   ·rw[n]at y;cases y
   ·exact absurd (Xd (xn e) y) (Xv _)
 ·by_cases z:b=P
  ·obtain⟨ps,y,_⟩:=okP;exact⟨_,by rw[z];exact y⟩
  ·exact⟨o,kp b o z e⟩
 ·rcases new b o e with y|⟨_,y⟩
  ·by_cases z:b=P
   ·subst z;rw[hP]at y;cases y;exact okP
   ·exact(I.hok b o y).stay (fun c u hc r=>kp c u (hc.elim (fun e=>e▸z) fun e=>nO e fun _ z=>by cases z) r) (fun _ r=>g _ _ r) (fun _ _ r=>g _ _ r) fun _ _ _ r=>g _ _ r
  ·exact y
structure LMk(X:Cx)(x:Str):Prop where
 mem:x∈Z9
 qual:X.env.qual=x ++ ".<locals>."
 code:∃c P,X.env.code=.ref c∧W.codeHdIn X.K c P=true∧W.tabIn X.K x=some (c,P)
def jie(X:Cx)(x:Str)(params:Arguments)(body:Expr)(scope:Scope)(cl:List (Str×Addr)):TE:=fun _ H Q=>TabOk X.K H∧∀(f c:Addr)(oc:Obj)(pm ctv:Value)(H2:Hp),j0 H H2→H f=none→H2 f=some (.frz (W.kla_obj "<lambda>" (jo x) params body scope cl pm c ctv) (.own 0)) →
 H2 c=some (.frz oc (.own 0))→Mv oc (jo x)→Q (.ref f) H2
theorem j51{x:Str}{params:Arguments}{body:Expr}{scope:Scope}{cl:List (Str×Addr)}{pos:Pos}(M:LMk X x)(hdef:defaultsOf params X.env=([],[]))(hcl:closureFor scope X.env=pure cl):PE X (.Lambda params body scope pos) (jie X x params body scope cl):=by
 rintro pins s σ H Q I ⟨tb,h⟩;obtain⟨c,P,hc,hd,ht⟩:=M.code;have hP:=tb x M.mem c P ht;have C:PySem.W.CodeHd s.heap c P:=W.codeHd_of_K I.kIn hd;obtain⟨ps,hps,htr,hcod⟩:=(show jg X.prog X.w H s.heap P (.cod (jo x))from I.hok _ _ hP)
 have hns:=I.mod.glob.keeps I.bk;have hgP:mainGlobals≠P:=fun z=>by obtain⟨o,es,ep,e,d,_⟩:=hns;rw[z,hps]at e;cases e;cases d
 have hbP:s.heap.BuiltinsAt X.mg P:=by
  obtain⟨bm,ob,b1,b2,b3,b4,b5,b6⟩:=I.mod.bm;have b3':=I.bk _ _ b3;refine⟨bm,ob,b1,b2,fun z=>?_,fun z=>?_,b3',b4,b5,b6⟩
  ·obtain⟨o,es,ep,e,d,_⟩:=hns;rw[z,e]at b3';cases b3';rw[d]at b6;cases b6
  ·rw[z,hps]at b3';cases b3';cases b4
 have hq:X.env.qual ++ "<lambda>" = jo x:=by rw[M.qual];rfl
 refine W.kla_eval hdef ?_;rw[hq];cases e:codeAmong pos ps.toList with
 |none =>
  refine W.kla_makeFunction hcl I.ok.glob hns hc C hps htr e hgP hbP fun c' ctv h' tk hx hge hlt hrec htb=>?_;obtain⟨c2,oc,vs,t,ec,hoc,hdt,hv⟩:=hrec;cases ec;have hsz:s.heap.objs.size≤h'.objs.size:=Nat.le_of_lt (Nat.lt_of_le_of_lt hge hlt);have n1:H c'=none:=I.hok.fresh hge;have n2:H h'.objs.size=none:=I.hok.fresh hsz;have ne:c'≠h'.objs.size:=X8 hlt;have hne:∀{b:Addr}{u:HO},H b=some u→b≠c'∧b≠h'.objs.size:=fun z=>⟨v6 z n1,v6 z n2⟩
  have g:∀fo:HO,j0 H (upd (upd H c' (.frz oc (.own 0))) h'.objs.size fo):=fun fo b u z=>by rw[jb (hne z).2,jb (hne z).1];exact z
  have h2c:∀fo:HO,upd (upd H c' (.frz oc (.own 0))) h'.objs.size fo c'=some (.frz oc (.own 0)):=fun fo=>by rw[jb ne,j9]
  refine⟨.ref h'.objs.size,_,I.madeL (P:=P) (q:=jo x) (H2:=upd (upd H c' (.frz oc (.own 0))) h'.objs.size (.frz (W.kla_obj "<lambda>" (jo x) params body scope cl ((X.mg "__name__").getD .none) c' ctv) (.own 0))) hP (g _)
   (fun b o nb z=>xj _ (hx b o nb z)) (fun b o z=>?_) ?_,rfl,h _ c' oc _ ctv _ (g _) n2 j9 (h2c _) ⟨vs,t,hdt,hv⟩⟩
  ·by_cases z1:b=h'.objs.size
   ·subst z1;rw[j9]at z;cases z;exact .inr ⟨hsz,X5 _ rfl,_,X5 _ rfl⟩
   ·rw[jb z1]at z;by_cases z2:b=c'
    ·subst z2;rw[j9]at z;cases z;exact .inr ⟨hge,xj _ hoc,_,xj _ hoc⟩
    ·rw[jb z2]at z;exact .inl z
  ·refine⟨_,xj _ htb,by rw[Td];exact TriplesOk_snoc _ _ _ _ htr,fun pos' cv z=>?_⟩;rw[Td]at z;rcases Nx ps.toList htr z with z|z
   ·obtain⟨c3,oc3,e1,e2,e3⟩:=hcod pos' cv z;exact⟨c3,oc3,e1,g _ _ _ e2,e3⟩
   ·exact⟨c',oc,z,h2c _,vs,t,hdt,hv⟩
 |some cv =>
  obtain⟨c',oc,ec,h1,h2⟩:=hcod pos cv e;subst ec;refine W.kla_makeFunctionHit hcl I.ok.glob hns hc C hps htr e hbP fun ctv h' tk hk hsz=>?_;have n2:H h'.objs.size=none:=I.hok.fresh hsz;have g:∀fo:HO,j0 H (upd H h'.objs.size fo):=fun fo=>j6 n2;refine⟨.ref h'.objs.size,_,I.madeL (P:=P) (q:=jo x) (H2:=upd H h'.objs.size (.frz (W.kla_obj "<lambda>" (jo x) params body scope cl ((X.mg "__name__").getD .none) c' ctv) (.own 0))) hP (g _)
   (fun b o _ z=>xj _ (hk b o z)) (fun b o z=>?_) ?_,rfl,h _ c' oc _ ctv _ (g _) n2 j9 (g _ _ _ h1) h2⟩
  ·by_cases z1:b=h'.objs.size
   ·subst z1;rw[j9]at z;cases z;exact .inr ⟨hsz,X5 _ rfl,_,X5 _ rfl⟩
   ·rw[jb z1]at z;exact .inl z
  ·refine⟨ps,xj _ (hk _ _ hps),htr,fun pos' cv z=>?_⟩;obtain⟨c3,oc3,e1,e2,e3⟩:=hcod pos' cv z;exact⟨c3,oc3,e1,g _ _ _ e2,e3⟩
noncomputable def plus(H:Hp)(h:Heap)(cs:List Addr):Hp:=fun b=>if b∈cs then(h.get? b).map fun o=>.frz o (.own 0)else H b
theorem Mm{h:Heap}{cs:List Addr}{b:Addr}{o:Obj}(hb:b∈cs)(e:h.get? b=some o):plus H h cs b=some (.frz o (.own 0)):=by unfold plus;rw[if_pos hb,e];rfl
theorem Q0{h:Heap}{cs:List Addr}{b:Addr}(hb:b∉cs):plus H h cs b=H b:=if_neg hb
def Own(X:Cx)(cs:List Addr):Prop:=∀c∈cs,∃y,X.env.cells.lookup y=some c∧X.fn y=true
theorem Own.obj{cs:List Addr}(I:Inv X pins σ H s)(hc:Own X cs){c:Addr}(h:c∈cs):∃o v,s.heap.get? c=some o∧o.data=.cell v∧H c=none∧X.s₀.heap.objs.size≤c∧c≠X.env.locals:=by obtain⟨y,e,f⟩:=hc c h;obtain⟨v,o,e1,e2⟩:=I.cell y c e;exact⟨o,v,e1,e2,I.freeC y c e,I.ok.cab y c f e,I.cne y c e⟩
theorem Ug{cs:List Addr}(I:Inv X pins σ H s)(hc:Own X cs):j0 H (plus H s.heap cs):=fun b o e=>by rw[Q0];exact e;intro z;obtain⟨_,_,_,_,n,_⟩:=hc.obj I z;rw[n]at e;cases e
theorem Inv.plus{cs:List Addr}(I:Inv X pins σ H s)(hc:Own X cs) :
  Env0 X.prog X.w X.K X.mg X.base X.A X.stack s (plus H s.heap cs)∧∀(Q:VK)(u:Value)(s':Shared),CE X.stack X.prog X.w (L2.plus H s.heap cs) s (fun v H'=>Cel H' cs→Q v (del H' cs)) u s'→EP X pins σ Q u s':=by
 have e0:=I.env0;have nb:∀{b:Addr}{u:HO},H b=some u→b∉cs:=fun{b u} e z=>by obtain⟨_,_,_,_,n,_⟩:=hc.obj I z;rw[n]at e;cases e
 have nf:∀b∈frs X.stack,b∉cs:=fun b hb z=>by
  obtain⟨o,v,e1,e2,n,hge,hl⟩:=hc.obj I z;rcases xm.mp (I.stkSub b hb)with y|y
  ·exact hl y
  ·obtain⟨_,o',ho,_⟩:=I.ok.funs.mem y;exact absurd (Xd (xn ho) hge) (Xv _)
 have g:=Ug I hc;refine⟨⟨e0.frames,e0.mod,fun b o e=>⟨(e0.bs b o e).1,?_⟩,e0.bsz,e0.funs,fun b hb=>by rw[Q0 (nf b hb)];exact e0.frf b hb,fun b o e=>?_,e0.bare⟩,fun Q u s' hq=>?_⟩
 ·rw[Q0];exact(e0.bs b o e).2;intro z;obtain⟨_,_,_,_,_,hge,_⟩:=hc.obj I z;exact absurd (Xd (xn e) (Xm I.ok.bsz hge)) (Xv _)
 ·by_cases z:b∈cs
  ·obtain⟨oc,v,e1,_⟩:=hc.obj I z;rw[Mm z e1]at e;cases e;exact⟨e1,_,e1⟩
  ·rw[Q0 z]at e;exact(I.hok b o e).stay (fun _ _ _ r=>r) (fun _ r=>g _ _ r) (fun _ _ r=>g _ _ r) fun _ _ _ r=>g _ _ r
 ·obtain⟨v,H',os,bare,un,hok',rel,q⟩:=hq;have cel:∀c∈cs,∃o v,s.heap.get? c=some o∧o.data=.cell v∧H' c=some (.frz o (.own 0))∧s'.heap.get? c=some o:=fun c hcs=>by obtain⟨o,v,e1,e2,_⟩:=hc.obj I hcs;have z:=un.frzs c o _ (Mm hcs e1);exact⟨o,v,e1,e2,z,(show jg X.prog X.w H' s'.heap c (.frz o (.own 0))from hok' _ _ z).1⟩
  have hC:Cel H' cs:=fun c hcs=>let ⟨o,v,_,e2,e3,_⟩:=cel c hcs;⟨o,v,e3,e2⟩;have nb':∀{b:Addr}{u:HO},H' b=some u→(∀oc v,u=.frz oc (.own 0)→oc.data≠.cell v)→del H' cs b=some u:=fun{b u} e n=>by rw[j5];exact e;intro z;obtain⟨o,v,_,e2,e3,_⟩:=cel b z;rw[e]at e3;cases e3;exact n _ _ rfl e2
  refine⟨v,del H' cs,I.call' (ch:=[]) os ⟨fun b o e n hb hx=>?_,fun b o e n hb hx=>?_,fun b o e n hx=>?_,un.there,fun b xs e=>?_,fun b o u e=>?_,fun b ps e=>?_⟩ (fun b o e=>?_) bare (fun b z=>absurd z (by simp)),rel,q hC⟩
  ·by_cases z:b∈cs
   ·obtain⟨o',v',e1,_,_,e4⟩:=cel b z;rw[e]at e1;cases e1;exact e4
   ·exact un.keep b o e (by rw[Q0 z];exact n) hb hx
  ·exact un.slot b o e (by rw[Q0 (nf b hb)];exact n) hb hx
  ·by_cases z:b∈cs
   ·exact q8 z
   ·rw[j5 z];exact un.free b o e (by rw[Q0 z];exact n) hx
  ·have z:=un.tups b xs (g _ _ e);exact nb' z fun _ _ y=>by cases y
  ·have z:=un.frzs b o u (g _ _ e);rw[j5 (nb e)];exact z
  ·obtain⟨m,z⟩:=un.tbls b ps (g _ _ e);exact⟨m,nb' z fun _ _ y=>by cases y⟩
  ·obtain⟨n,e⟩:=of_del e;exact(hok' b o e).stay (fun _ _ _ r=>r) (fun _ r=>nb' r fun _ _ y=>by cases y) (fun _ _ r=>nb' r fun _ _ y=>by cases y) fun _ _ ⟨vs,d⟩ r=>nb' r fun _ _ y d'=>by cases y;rw[d]at d';cases d'
end
def Ze(X:Cx)(ρ:Rho):List (Str×Addr)→List D→Prop
 |[],ds=>ds=[]
 |p::cl,ds=>∃(d:D)(r:List D)(i:Nat),ds=d::r∧X.N[i]?=some p.1∧X.env.scope.names.lookup p.1=some .cell∧X.env.cells.lookup p.1=some p.2∧X.fn p.1=true∧ρ[i]?=some (.val d)∧Ze X ρ cl r
section
variable{X:Cx}{pins:k87}{σ:St}{H H2:Hp}{s s2:Shared}{ρ:Rho}
theorem Ze.own:∀{cl:List (Str×Addr)} {ds:List D},Ze X ρ cl ds→Own X (cl.map (·.2))
 |[],_,_=>fun _ h=>nomatch h
 |p::cl,_,⟨d,r,i,e,h1,h2,h3,h4,h5,l⟩=>fun c hc=>(xm.mp hc).elim (fun z=>⟨p.1,by rw[z];exact h3,h4⟩) (Ze.own l c)
theorem Ze.look:∀{cl:List (Str×Addr)} {ds:List D},Ze X ρ cl ds→∀p∈cl,X.env.cells.lookup p.1=some p.2
 |p::cl,_,⟨d,r,i,e,h1,h2,h3,h4,h5,l⟩,q,hq=>(xm.mp hq).elim (fun z=>z▸h3) (Ze.look l q)
theorem Ze.cells(I2:Inv X pins σ H2 s2)(R:Rep X.K ρ σ H){cs:List Addr}(hg:j0 (del H (owns ρ)) (del (plus H2 s2.heap cs) cs)):∀{cl:List (Str×Addr)} {ds:List D},Ze X ρ cl ds→(∀c∈cl.map (·.2),c∈cs) →
  ∃vs,vf (plus H2 s2.heap cs) (cl.map (·.2)) vs∧j4 X.K (del (plus H2 s2.heap cs) cs) ds vs
 |[],_,h,_=>by cases h;exact⟨[],rfl,rfl⟩
 |p::cl,_,⟨d,r,i,e,h1,h2,h3,h4,h5,l⟩,hm=>by
  subst e;obtain⟨vs,q1,q2⟩:=Ze.cells I2 R hg l fun c hc=>hm c (kj _ hc);obtain⟨v,hv,en⟩:=R.val i d h5;obtain⟨m,hn,hl⟩:=I2.loc;obtain⟨u,r,lk⟩:=hl i p.1 v h1 hv (.inr (.inl h2));rcases lk with ⟨k,_⟩|⟨_,c,e,o,ho,hd⟩
  ·have k:X.env.scope.names.lookup p.1=some .local:=k;rw[h2]at k;cases k
  ·rw[h3]at e;cases e;exact⟨v::vs,⟨v,vs,o,u,rfl,Mm (hm _ (xq ..)) ho,hd,r,q1⟩,v,vs,rfl,en.mono hg,q2⟩
theorem j0v{cl:List (Str×Addr)}{ds:List D}(ok:X.Ok)(h:Ze X ρ cl ds)(nd:(cl.map (·.1)).Nodup):(cl.map (·.2)).Nodup:=by
 have lk:=h.look;clear h;induction cl with
 |nil=>exact List.nodup_nil
 |cons p r ih =>rw[xr]at nd ⊢;obtain⟨n1,n2⟩:=Xk.mp nd;refine Xk.mpr ⟨fun z=>?_,ih n2 fun q hq=>lk q (kj _ hq)⟩;obtain⟨q,hq,e⟩:=Xf.mp z;have:=ok.inj p.1 q.1 p.2 (lk p (xq ..)) (by rw[←e];exact lk q (kj _ hq));exact n1 (this▸List.mem_map_of_mem hq)
theorem j5p{x:Str}{tx:Tx}{cl:List (Str×Addr)}{ds:List D}{f c:Addr}{oc:Obj}{pm ctv:Value}(ht:Qs X.K x=some tx)(hn:cl.map (·.1)=zp tx.2.2)(nd:(zp tx.2.2).Nodup)(hc:Ze X ρ cl ds)(I2:Inv X pins σ H2 s2)(R:Rep X.K ρ σ H)(g:j0 H H2)
  (hf:H2 f=some (.frz (W.kla_obj "<lambda>" (jo x) tx.1 tx.2.1 tx.2.2 cl pm c ctv) (.own 0))) (ho:H2 c=some (.frz oc (.own 0))) (hq:Mv oc (jo x)):Enc X.K (plus H2 s2.heap (cl.map (·.2))) (.fn x ds) (.ref f):=by
 have pg:=Ug I2 hc.own;have hg:j0 (del H (owns ρ)) (del (plus H2 s2.heap (cl.map (·.2))) (cl.map (·.2))):=fun b o e=>by
  have e2:=g _ _ (of_del e).2;have nb:b∉cl.map (·.2):=fun z=>by obtain⟨_,_,_,_,n,_⟩:=hc.own.obj I2 z;rw[n]at e2;cases e2
  rw[j5 nb,Q0 nb];exact e2
 obtain⟨vs,q1,q2⟩:=hc.cells I2 R hg fun _ z=>z;exact⟨f,c,tx,cl,vs,rfl,⟨ht,⟨pm,ctv,pg _ _ hf⟩,⟨oc,pg _ _ ho,hq⟩,hn,j0v I2.ok hc (by rw[hn];exact nd),q1⟩,q2⟩
end
section
variable{X:Cx}{ρ:Rho}{P:Po}{x:Str}{params:Arguments}{body:Expr}{scope:Scope}{cl:List (Str×Addr)}{ds:List D}{pos p1 p2:Pos}
theorem DS.retLam(M:LMk X x)(hdef:defaultsOf params X.env=([],[]))(hcl:closureFor scope X.env=pure cl)(ht:Qs X.K x=some (params,body,scope))(hn:cl.map (·.1)=zp scope)(nd:(zp scope).Nodup)(hc:Ze X ρ cl ds)(h:P.rt (.val (.fn x ds))) :
  DS X ρ (.Return (some (.Lambda params body scope p1)) pos) P:=fun σ H E R q pins s I=>by
 refine wpAny_Return_some (thn (j51 M hdef hcl pins s σ H (fun v H2=>∃(f c:Addr)(oc:Obj)(pm ctv:Value),v=.ref f∧j0 H H2∧H2 f=some (.frz (W.kla_obj "<lambda>" (jo x) params body scope cl pm c ctv) (.own 0))∧H2 c=some (.frz oc (.own 0))∧Mv oc (jo x)) I
  ⟨R.tb,fun f c oc pm ctv H2 g _ h1 h2 h3=>⟨f,c,oc,pm,ctv,rfl,g,h1,h2,h3⟩⟩) fun u s2 ⟨v,H2,I2,r,f,c,oc,pm,ctv,ev,g,h1,h2,h3⟩=>?_)
 subst ev;refine⟨_,σ,H2,plus H2 s2.heap (cl.map (·.2)),I2,r,fun b=>?_,q.rt _ _ _ h ⟨fun b o e=>Ug I2 hc.own _ _ (g _ _ (of_del e).2),j5p (tx:=(params,body,scope)) ht hn nd hc I2 R g h1 h2 h3⟩⟩;by_cases z:b∈cl.map (·.2)
 ·obtain⟨o,v,e1,e2,_⟩:=hc.own.obj I2 z;obtain⟨y,e,fy⟩:=hc.own b z;exact .inr ⟨y,o,v,e,fy,Mm z e1,e1,e2⟩
 ·exact .inl (Q0 z)
theorem DT.callL{S:List D→D→Prop}{g:Str}{e1 e2:Expr}{d1 d2 d:D}(c:Cal X g (spP X.K S))(M:LMk X x)(hdef:defaultsOf params X.env=([],[]))(hcl:closureFor scope X.env=pure cl)(ht:Qs X.K x=some (params,body,scope))(hn:cl.map (·.1)=zp scope)(nd:(zp scope).Nodup)(hc:Ze X ρ cl ds)
  (h1:DT X ρ e1 d1) (h2:DT X ρ e2 d2) (nf:noFn d=true) (hS:S [d1,d2,.fn x ds] d) (hg:Gl X g) (hdb:(g==k89)=false)
  (hs1:starEach [e1,e2,.Lambda params body scope p1] X.env=(false,eval e1 X.env)::starEach [e2,.Lambda params body scope p1] X.env) (hs2:starEach [e2,.Lambda params body scope p1] X.env=(false,eval e2 X.env)::starEach [.Lambda params body scope p1] X.env)
  (hs3:starEach [.Lambda params body scope p1] X.env=(false,eval (.Lambda params body scope p1) X.env)::starEach [] X.env) (hpl:(backTo pos (starEach [e2,.Lambda params body scope p1] X.env)).any (·.1)=false) :
  DT X ρ (.Call (.Name g p2) [e1,e2,.Lambda params body scope p1] [] pos) d:=fun σ H Q R q pins s I=>by
 obtain⟨k,f,fd,ps,F,hr,hm,hk,hb,_⟩:=c.ex;refine wpAny_Call_Name_kw (Zf I hg hm ?_ hdb);refine W.callWith_K (h₀:=X.base) I.ok.mod.kin hk (thn ((jd peS (jd peS (jd (j51 M hdef hcl) jw hs3) hs2) hs1) pos pins s σ H (fun vs H2=>∃(v1 v2:V)(f c:Addr)(oc:Obj)(pm ctv:Value),vs=[v1,v2,.ref f]∧j0 H H2∧Enc X.K H2 d1 v1∧Enc X.K H2 d2 v2 ∧
   H2 f=some (.frz (W.kla_obj "<lambda>" (jo x) params body scope cl pm c ctv) (.own 0))∧H2 c=some (.frz oc (.own 0))∧Mv oc (jo x)) I
  (h1 σ H _ R fun v1 H1 g1 q1=>h2 σ H1 _ (R.grow g1) fun v2 H2 g2 q2=>⟨R.tb.mono (g1.trans g2),fun f c oc pm ctv H3 g3 _ z1 z2 z3=>⟨v1,v2,f,c,oc,pm,ctv,rfl,(g1.trans g2).trans g3,q1.mono (g2.trans g3),q2.mono g3,z1,z2,z3⟩⟩)) fun us s2 ⟨vs,H2,I2,rv,v1,v2,fa,ca,oc,pm,ctv,ev,g,q1,q2,z1,z2,z3⟩=>⟨I2.kIn,?_⟩) hs1 hpl
 subst ev;have pg:=Ug I2 hc.own;have ef:=j5p (tx:=(params,body,scope)) ht hn nd hc I2 R g z1 z2 z3;obtain⟨e0,back⟩:=I2.plus hc.own;have sp:spP X.K S [v1,v2,.ref fa] (plus H2 s2.heap (cl.map (·.2))) (fun v H'=>Cel H' (cl.map (·.2))→Q v (del H' (cl.map (·.2)))) E0 :=
  ⟨[],[d1,d2,.fn x ds],d,(R.tb.mono g).mono pg,(fun a h=>nomatch h),by rw[vy];exact⟨_,_,rfl,q1.mono pg,_,_,rfl,q2.mono pg,_,_,rfl,ef,rfl⟩,hS,fun v H' g' en hC=>by
   rw[vy]at en
   refine q v _ (fun b o e=>?_) (en.noc hC nf)
   have e2:=g _ _ e
   have nb:b∉cl.map (·.2):=fun z=>by obtain⟨_,_,_,_,n,_⟩:=hc.own.obj I2 z;rw[n]at e2;cases e2
   rw[j5 nb];exact g' _ _ (pg _ _ e2)⟩
 have hl:us.length=ps.length:=by rw[←rv.length];exact F.len _ _ _ _ sp
 have hb':=hb s2 us I2.kIn (by rw[Xr];exact hl);rw[Xr]at hb';refine wpAny_call (codeAny_mono (F.run X.A X.stack s2 _ ⟨us,[]⟩ us _ _ _ (hr.mono (T6 _)) e0 hb' rv sp) fun r s' hq=>?_);cases r with
 |error e=>exact(show False from hq).elim
 |ok fl =>
  cases fl with
  |ret u=>exact back Q u s' hq
  |next=>exact(show False from hq).elim
  |brk=>exact(show False from hq).elim
  |cont=>exact(show False from hq).elim
end
end L2
end
section
namespace L2
open PySem PySem.Spec PyProof.Rows
section
variable{X:Cx}{ρ:Rho}{e a b c:Expr}{es:List Expr}{st:Stmt}{rest sa sb body:List Stmt}{P:Po}{d:D}{ds ds':List D}{pos p p1 p2 p3:Pos}{x:Str}{i:Nat}
theorem DSs.last(h:DS X ρ st P):DSs X ρ [st] P:=.cons h fun ρ' n=>DSs.nil n
theorem Cal.comp{sp:Sp}{scope:Scope}{C:Addr}{s:Shared}{H:Hp}{fp:List Addr}{pn:k87}(h:Cal X x sp):Cal (cCx X scope C s H fp pn) x sp:=⟨h.ex⟩
end
end L2
namespace L2
open PySem PySem.Spec PyProof.Rows
theorem v5(lo:Int)(n:Nat):(upto lo n).length=n:=by unfold upto;rw[km,ph]
theorem Kd{lo:Int}{n j:Nat}{d:D}(h:(upto lo n)[j]?=some d):j<n∧d=.int (lo+j):=by
 unfold upto at h;rw[X7]at h;cases z:(List.range n)[j]? with
 |none=>rw[z]at h;cases h
 |some k =>rw[z]at h;have hl:=(Xa.mp z).1;rw[ph]at hl;have:=List.getElem?_range (n:=n) (i:=j) hl;rw[this]at z;cases z;cases h;exact⟨hl,rfl⟩
section
variable{X:Cx}{ρ:Rho}{a b tg it:Expr}{ds ds':List D}{d:D}{i:Int}{pos:Pos}
end
end L2
namespace L2
open PySem PySem.Spec PyProof.Rows
mutual
def jhg:D→Prop
 |.tup l=>l.length≤1000∧Ek l
 |.lst l=>l.length≤1000∧Ek l
 |.dct _ _=>False
 |.sct _=>False
 |.fn _ _=>False
 |_=>True
def Ek:List D→Prop
 |[]=>True
 |d::ds=>jhg d∧Ek ds
end
theorem D.depL_of{n:Nat}:∀{ds:List D},(∀d∈ds,d.dep≤n)→D.depL ds≤n
 |[],_=>by simp only[D.depL];omega
 |x::xs,h=>by simp only[D.depL];have h1:=h x (xq ..);have h2:=D.depL_of (ds:=xs) fun d m=>h d (kj _ m);omega
end L2
namespace L2
noncomputable def jn(b:Int):Nat→Int→List Int
 |0,_=>[]
 |i+1,n=>(n/b^i%b)::jn b i n
theorem v9(b:Int):∀(m:Nat)(n:Int),(jn b m n).length=m
 |0,_=>rfl
 |m+1,n=>by rw[jn,X4,v9 b m n]
theorem Vi(b:Int):∀{m k:Nat}{n:Int},k<m→(jn b m n)[k]?=some (n/b^(m-k-1)%b)
 |m+1,0,n,_=>by rw[jn];rfl
 |m+1,k+1,n,h=>by
  rw[jn,List.getElem?_cons_succ,Vi b (by omega)];have:m-k-1=m+1-(k+1)-1:=by omega
  rw[this]
theorem Nm{b:Int}(hb:0<b):∀{m:Nat}{n v:Int},v∈jn b m n→0≤v∧v<b
 |m+1,n,v,h=>by
  rw[jn]at h;rcases xm.mp h with e|h
  ·subst e;exact⟨Pq _ (by omega),Int.emod_lt_of_pos _ hb⟩
  ·exact Nm hb h
theorem j8l(n b:Int)(hb:0<b)(i:Nat):n/b^i/b=n/b^(i+1):=by rw[Int.ediv_ediv_of_nonneg (Int.le_of_lt (Int.pow_pos hb)),Int.pow_succ]
end L2
end
section
namespace L2
open PySem PySem.Spec PyProof.Rows
def CX1(P:Program)(w:World):CXT:=fun outer H s E ev s'=>∃(e:Addr)(C:Value)(H':Hp),ev=.ref e∧s'.os=s.os∧AllBare s'.gens∧Un (frs outer) [] H H' s.heap s'.heap∧HOk P w H' s'.heap ∧
 Fl (fun b=>∃o,s.heap.get? b=some o) H' s'.heap e C∧E C none H'
theorem jg.get{P:Program}{w:World}{H:Hp}{h:Heap}{a:Addr}{o:HO}(x:jg P w H h a o):∃u,h.get? a=some u:=by
 cases o with
 |lst xs=>obtain⟨_,_,_,_,e⟩:=x;exact⟨_,e⟩
 |tup xs=>obtain⟨_,_,_,⟨_,e,_⟩,_⟩:=x;exact⟨_,e⟩
 |dK kvs=>obtain⟨_,_,_,_,o,_,_,e,_⟩:=x;exact⟨_,e⟩
 |dT kvs=>obtain⟨_,_,_,_,o,_,_,e,_⟩:=x;exact⟨_,e⟩
 |dI xs ep=>obtain⟨_,_,_,o,_,e,_⟩:=x;exact⟨_,e⟩
 |set S n=>obtain⟨o,_,_,_,e,_⟩:=x;exact⟨_,e⟩
 |ins C dx fs=>obtain⟨_,_,_,e,_⟩:=x;exact⟨_,e⟩
 |own y=>obtain⟨_,e⟩:=x;exact⟨_,e⟩
 |xd fs=>obtain⟨_,⟨_,_,_,e,_⟩,_⟩:=x;exact⟨_,e⟩
 |rng lo hi=>obtain⟨_,_,_,e⟩:=x;exact⟨_,e⟩
 |frz ob u=>obtain⟨e,_⟩:=x;exact⟨_,e⟩
 |tbl ps=>exact⟨_,(show h.get? a=some _ from x)⟩
 |cod q=>obtain⟨_,e,_⟩:=x;exact⟨_,e⟩
 |met f y=>exact⟨_,(show h.get? a=some _ from x)⟩
 |ext φ=>obtain⟨_,⟨_,e⟩,_⟩:=x;exact⟨_,e⟩
section
variable{X:Cx}{pins:k87}{σ:St}{H:Hp}{s:Shared}
theorem Inv.old(I:Inv X pins σ H s){b:Addr}(h:Old X pins b):∃o,s.heap.get? b=some o:=by
 rcases h with ⟨o,q,n⟩|⟨p,hp,rfl⟩|rfl|⟨x,e⟩
 ·exact I.base.there b o q n
 ·exact⟨_,(I.pin p hp).1⟩
 ·obtain⟨m,⟨o,_,_,e,_⟩,_⟩:=I.loc;exact⟨o,e⟩
 ·obtain⟨v,o,e,_⟩:=I.cell x b e;exact⟨o,e⟩
end
section
variable{P:Program}{w:World}{K:k85}{mg:k88}{base:Heap}{N ps:List Str}{qual:Str}{scope:Scope}{f:Addr}{cd:Value}{A:Around}{outer:List Env}{s s':Shared}{H H':Hp}{E:XK}{σ:St}{pins:k87}{e:Addr}{C:Value}
theorem j1n{as:List Addr}{h':Heap}{a0:Value}(I:Inv (zj (CX1 P w) P w K mg base N qual scope f cd A outer s H E) pins σ H' s')(F:Fl (Old (zj (CX1 P w) P w K mg base N qual scope f cd A outer s H E) pins) H' s'.heap e C)
  (hE:E C none H') (ha:∀b,b∈as↔b∈frs (envOfC qual scope s.heap.objs.size f cd::outer)∨(¬(∃o,s.heap.get? b=some o)∧H' b=none∧b∈as)) (hfa:∀b∈frs (envOfC qual scope s.heap.objs.size f cd::outer),b∈as)
  (hL:Heap.LeftW (W.hideAll s'.heap as) (envOfC qual scope s.heap.objs.size f cd::outer) e C a0 s'.heap h'):CX1 P w outer H s E (.ref e) { s' with heap:=h' }:=by
 obtain⟨k1,k2,k3,k4⟩:=hL;have fr:∀b∈frs outer,∃o,s'.heap.get? b=some o∧∀vs,o.data≠.fields vs:=fun b hb=>by obtain⟨o,ho,hd⟩:=(I.stack.mem (show b∈frs (envOfC qual scope s.heap.objs.size f cd::outer)from kj _ hb)).2;exact⟨o,ho,hd⟩
 have sfree:∀b∈frs (envOfC qual scope s.heap.objs.size f cd::outer),H' b=none:=I.stkFree;have keep:∀b o,s'.heap.get? b=some o→b∉as→h'.get? b=some o:=fun b o q n=>k1 b o (W.hideAll_get _ q n);have nold:∀b o,s.heap.get? b=some o→b∉frs outer→b∉as:=fun b o q n z=>by
  rcases(ha b).mp z with z|⟨z,_⟩
  ·rcases xm.mp z with z|z
   ·have:=xn q;rw[show b=s.heap.objs.size from z]at this;exact absurd this (Xv _)
   ·exact n z
  ·exact z ⟨o,q⟩
 have ntrk:∀b u,H' b=some u→b∉as:=fun b u q z=>by
  rcases(ha b).mp z with z|⟨_,z,_⟩
  ·rw[sfree b z]at q;cases q
  ·rw[z]at q;cases q
 have slot:∀b∈frs outer,∀o,s'.heap.get? b=some o→∃sl,h'.get? b=some { o with slots:=sl }:=fun b hb o q=>by obtain⟨o',ho,hd⟩:=fr b hb;rw[q]at ho;cases ho;exact k4 b o q hd
 have un:=I.base;refine⟨e,C,H',rfl,I.os,I.bare,⟨fun b o q n hb _=>keep b o (un.keep b o q n hb (fun z=>nomatch z)) (nold b o q hb),fun b o q n hb _=>?_,fun b o q n _=>un.free b o q n (fun z=>nomatch z),fun b o q _=>?_,un.tups,un.frzs,un.tbls⟩,
  fun a o q=>(I.hok a o q).stay (fun b u hb r=>keep b u r ?_) (fun _ z=>z) (fun _ _ z=>z) fun _ _ _ z=>z,?_,hE⟩
 ·obtain⟨sl,q'⟩:=un.slot b o q n hb (fun z=>nomatch z);obtain⟨sl',q2⟩:=slot b hb _ q';exact⟨sl',q2⟩
 ·obtain⟨o',q'⟩:=un.there b o q (fun z=>nomatch z);by_cases hb:b∈frs outer
  ·obtain⟨sl,q2⟩:=slot b hb _ q';exact⟨_,q2⟩
  ·exact⟨_,keep b o' q' (nold b o q hb)⟩
 ·rcases hb with rfl|hb
  ·exact ntrk _ _ q
  ·exact ntrk _ _ hb
 ·obtain⟨oe,vs,T,oT,ts,he,⟨hc,h0⟩,hd,h1,hnT,hTe,hT,hdT,h3⟩:=k3;refine⟨fun b ⟨o,q⟩=>F.new b (.inl ⟨o,q,fun z=>nomatch z⟩),F.free,oe,vs,a0,he,hc,hd,h0,.inr ⟨T,oT,ts,h1,hTe,hT,hdT,h3,?_,fun b ⟨o,q⟩ z=>?_⟩⟩
  ·cases r:H' T with
   |none=>rfl
   |some u =>obtain⟨ob,q⟩:=(I.hok T u r).get;rw[W.hideAll_get _ q (ntrk T u r)]at hnT;cases hnT
  ·subst z;obtain⟨o',q'⟩:=un.there b o q (fun z=>nomatch z);by_cases hb:b∈frs outer
   ·obtain⟨o2,q2,nf⟩:=fr b hb;obtain⟨sl,q3⟩:=slot b hb o2 q2;rw[q3]at hT;cases hT;exact nf ts hdT
   ·rw[W.hideAll_get _ q' (nold b o q hb)]at hnT;cases hnT
theorem j5b(I:Inv (zj (CX1 P w) P w K mg base N qual scope f cd A outer s H E) pins σ H' s')(F:Fl (Old (zj (CX1 P w) P w K mg base N qual scope f cd A outer s H E) pins) H' s'.heap e C)(hE:E C none H') :
  (zj (CX1 P w) P w K mg base N qual scope f cd A outer s H E).xe (.ref e) s':=by
 obtain⟨oe,vs,a0,he,hc,hd,h0,hT⟩:=F.obj;have hsN:∀b,(∃o,s.heap.get? b=some o)→Old (zj (CX1 P w) P w K mg base N qual scope f cd A outer s H E) pins b:=fun b ⟨o,q⟩=>.inl ⟨o,q,fun z=>nomatch z⟩;have hin:∀(as:List Addr),(∀b∈frs (envOfC qual scope s.heap.objs.size f cd::outer),b∈as)→∀env∈envOfC qual scope s.heap.objs.size f cd::outer,∀a,env.frame=some a→a∈as:=fun as h env he a ha=>h a (Px.mpr ⟨env,he,ha⟩);subst hc;rcases hT with h1|⟨T,oT,ts,h1,hTe,hT,hdT,h3,hTf,hTn⟩
 ·let as:=e::frs (envOfC qual scope s.heap.objs.size f cd::outer)
  have hfa:∀b∈frs (envOfC qual scope s.heap.objs.size f cd::outer),b∈as:=fun b hb=>kj _ hb;refine wpAny_leaving_firstW (base:=W.hideAll s'.heap as) I.ok.frames (W.funFrames_hide I.stack (hin as hfa)) rfl he (fun b o q=>W.of_hideAll _ q) (Te _ (xq ..)) hd h1 h0 fun h' hL =>j1n I F hE (fun b=>⟨fun z=>?_,fun z=>z.elim (hfa b) fun z=>z.2.2⟩) hfa hL
  rcases xm.mp z with e1|z'
  ·subst e1;exact .inr ⟨fun q=>F.new _ (hsN _ q) rfl,F.free,z⟩
  ·exact .inl z'
 ·let as:=e::T::frs (envOfC qual scope s.heap.objs.size f cd::outer)
  have hfa:∀b∈frs (envOfC qual scope s.heap.objs.size f cd::outer),b∈as:=fun b hb=>kj _ (kj _ hb);refine wpAny_leaving_nextW (base:=W.hideAll s'.heap as) (a0:=a0) I.ok.frames (W.funFrames_hide I.stack (hin as hfa)) rfl ⟨oe,vs,T,oT,ts,he,⟨rfl,h0⟩,hd,h1,Te _ (kj _ (xq ..)),hTe,hT,hdT,h3⟩
   (fun b o q=>W.of_hideAll _ q) (Te _ (xq ..)) fun h' hL =>
   j1n I F hE (fun b=>⟨fun z=>?_,fun z=>z.elim (hfa b) fun z=>z.2.2⟩) hfa hL
  rcases xm.mp z with e1|z'
  ·subst e1;exact .inr ⟨fun q=>F.new _ (hsN _ q) rfl,F.free,z⟩
  ·rcases xm.mp z' with e1|z2
   ·subst e1;exact .inr ⟨fun q=>hTn _ (hsN _ q) rfl,hTf,z⟩
   ·exact .inl z2
end
def spX(K:k85)(mg:k88)(S:List D→Str→Prop):Sp:=fun vs H _ E=>∃ds x C,TabOk K H∧j4 K H ds vs∧S ds x∧mg x=some C∧∀H',j0 H H'→E C none H'
section
variable{P:Program}{w:World}{K:k85}{mg:k88}{base:Heap}{x qual:Str}{st:Stmt}{f:Addr}{fd:FuncData}{N ps:List Str}{k:Nat}
theorem j5m{S:List D→Str→Prop}(F:Fun K x qual st f fd)(Sc:FnScope N ps (j7 st))(hl:∀ds y,S ds y→ds.length=ps.length)
  (hbody:∀(cdv:Value)(A:Around)(outer:List Env)(s:Shared)(H:Hp)(E:XK),Mh K f cdv→Room k (A.deeper (envOfC qual (j7 st) s.heap.objs.size f cdv))→∀ds y,S ds y →
   DSs (zj (CX1 P w) P w K mg base N qual (j7 st) f cdv A outer s H E) (qp N ds) (jl st) { nx:=fun _=>False,rt:=fun _=>False,ex:=fun z _=>z=y }):FnOk P w K mg base (CX1 P w) (k+1) f fd ps (spX K mg S):=by
 obtain⟨oc,od,dV,kV,doc,pm,an,cdv,ct,osl,rfl,lk,hcd⟩:=F.ex;refine ja0 lk hcd Sc (fun vs H Q E ⟨ds,y,C,tb,en,hS,_⟩=>by rw[en.length];exact hl ds y hS) fun A outer s H vs Q E hr ⟨ds,y,C,tb,en,hS,hC,hE⟩=>⟨_,Rv,?_⟩
 have ho:=Vn N ds;refine hbody cdv A outer s H E ⟨oc,od,_,osl,lk,rfl⟩ hr ds y hS (start N vs) H _ (Ue tb en) ⟨fun ρ' σ' H' n R f=>n.elim,fun _ _ _ z=>z.elim,fun _ _ _ z=>z.elim,fun r v H' n z=>n.elim,fun z ρ' σ' H' n R g=>?_⟩;cases(show z=y from n);intro pins H2 s' e C' I g2 hC' Fe;cases hC.symm.trans hC';unfold Fr0 at g;rw[ho,vy]at g;exact j5b I Fe (hE H2 ((g.trans jm).trans g2))
end
def DX(X:Cx)(ρ:Rho)(e:Expr)(x:Str):Prop:=∀σ H Q,Rep X.K ρ σ H→Du X σ H x→Jo X e σ H Q
def DXA(X:Cx)(ρ:Rho)(es:List Expr)(x:Str):Prop:=∀σ H Q,Rep X.K ρ σ H→Du X σ H x→Ol X es σ H Q
structure CalX(X:Cx)(x:Str)(sp:Sp):Prop where
 ex:∃(k:Nat)(f:Addr)(fd:FuncData)(ps:List Str),FnOk X.prog X.w X.K X.mg X.base (CX1 X.prog X.w) k f fd ps sp∧Room k X.A∧X.mg x=some (.ref f)∧W.keepIn X.K (.ref f)=true∧Binds X.K fd ps []
section
variable{X:Cx}{ρ:Rho}{e:Expr}{es:List Expr}{f x:Str}{ds:List D}{p pos:Pos}{C:Value}
theorem DX.call {S:List D→Str→Prop} (c:CalX X f (spX X.K X.mg S)) (ha:DTA X ρ (e::es) ds) (hS:S ds x) (hC:X.mg x=some C) (hg:Gl X f) (hdb:(f==k89)=false)
  (he:starEach (e::es) X.env=(false,eval e X.env)::starEach es X.env) (hpl:(backTo pos (starEach es X.env)).any (·.1)=false):DX X ρ (.Call (.Name f p) (e::es) [] pos) x:=fun σ H Q R k pins s I=>by
 obtain⟨n,fa,fd,ps,F,hr,hm,hk,hb⟩:=c.ex;refine wpAny_Call_Name_kw (Zf I hg hm ?_ hdb);refine W.callWith_K (h₀:=X.base) I.ok.mod.kin hk (thn (ha σ H (fun vs H1=>j0 H H1∧j4 X.K H1 ds vs) R (fun vs H1 g e=>⟨g,e⟩) pos pins s I) fun us s1 ⟨vs,H1,I1,r,g,en⟩=>⟨I1.kIn,?_⟩) he hpl;have sp:spX X.K X.mg S vs H1 (fun _ _=>False) (fun C' _ H'=>C'=C∧j0 H1 H'):=⟨ds,x,C,R.tb.mono g,en,hS,hC,fun H' g=>⟨rfl,g⟩⟩
 have hl:us.length=ps.length:=by rw[←r.length];exact F.len _ _ _ _ sp
 have hb':=hb s1 us I1.kIn (by rw[Xr];exact hl);rw[Xr]at hb';refine wpAny_call (codeAny_mono (F.run X.A X.stack s1 H1 ⟨us,[]⟩ us vs _ _ hr I1.env0 hb' r sp) fun r s' hq=>?_);cases r with
 |error ev =>obtain⟨e,C',H',rfl,os,bare,un,hok,fl,rfl,g'⟩:=hq;have I':Inv X pins σ H' s':=I1.call' os un hok bare (fun b z=>nomatch z);refine k pins H' s' e C' I' (g.trans g') hC ⟨fun b hb=>fl.new b (I1.old hb),fl.free,?_⟩;obtain⟨oe,ws,a0,q1,q2,q3,q4,q5⟩:=fl.obj;refine⟨oe,ws,a0,q1,q2,q3,q4,q5.imp id ?_⟩;rintro⟨T,oT,ts,z1,z2,z3,z4,z5,z6,z7⟩;exact⟨T,oT,ts,z1,z2,z3,z4,z5,z6,fun b hb=>z7 b (I1.old hb)⟩
 |ok fl =>
  cases fl with
  |ret u=>obtain⟨_,_,_,_,_,_,_,z⟩:=hq;exact z.elim
  |next=>exact False.elim hq
  |brk=>exact False.elim hq
  |cont=>exact False.elim hq
end
end L2
end
section
namespace L2
open PySem PySem.Spec PyProof.Rows
section
variable{X:Cx}{ρ:Rho}{e:Expr}{es:List Expr}{x:Str}{d:D}{p pos np cpos:Pos}{P:Po}{i:Int}{y:Str}{ys:List Str}
theorem DE.fmtI(ha:DT X ρ e (.int i))(hi:i.natAbs.log2<1920):DE X ρ (.FormattedValue e (-1) none pos) (.str (toString i)):=fun σ H Q R q pins s I=>by
 refine FormattedValue_plain (thn (ha σ H (fun v H1=>v=.int i∧j0 H H1) R (fun v H1 g e=>⟨e,g⟩) pins s I) fun u s1 ⟨v,H1,I1,r,ev,g⟩=>?_);subst ev;obtain⟨t,rfl⟩:=(show ∃t,u=Value.int i t from r)
 exact formatField_int_small hi ⟨.str (toString i),H1,I1.un (t':=s1.toks+1+1) Un.refl I1.hok,⟨_,rfl⟩,q _ H1 g rfl⟩
theorem DE.fmtS(ha:DT X ρ e (.str y))(hy:y.length≤sizeLine):DE X ρ (.FormattedValue e (-1) none pos) (.str y):=fun σ H Q R q pins s I=>by
 refine FormattedValue_plain (thn (ha σ H (fun v H1=>v=.str y∧j0 H H1) R (fun v H1 g e=>⟨e,g⟩) pins s I) fun u s1 ⟨v,H1,I1,r,ev,g⟩=>?_);subst ev;obtain⟨t,rfl⟩:=(show ∃t,u=Value.str y t from r)
 exact formatField_str (fun t' tk=>⟨.str y,H1,I1.un (t':=tk) Un.refl I1.hok,⟨_,rfl⟩,q _ H1 g rfl⟩) hy
noncomputable def Ms(out:Str):List Str→Str
 |[]=>out
 |y::ys=>Ms (out++y) ys
def DPs(X:Cx)(ρ:Rho):List Expr→List Str→Prop
 |[],[]=>True
 |e::es,y::ys=>DE X ρ e (.str y)∧DPs X ρ es ys
 |_,_=>False
theorem Em:∀{es:List Expr}{ys:List Str}{out:Str}{n:Nat}{pins:k87} {σ:St} {H0 H:Hp} {s:Shared} {Q:VK},DPs X ρ es ys→(∀y∈ys,y.length≤2000)→out.length+2000*ys.length≤sizeLine→Inv X pins σ H s→Rep X.K ρ σ H→j0 H0 H →
  (∀H',j0 H0 H'→Q (.str (Ms out ys)) H')→wpAny (model X.prog X.w) X.A (joinParts out (evalEach es X.env)) (EP X pins σ Q) X.xe s
 |[],[],out,n,pins,σ,H0,H,s,Q,_,_,hl,I,R,g,q=>joinParts_nil ⟨.str out,H,I.un (t':=s.toks+1) Un.refl I.hok,⟨_,rfl⟩,q H g⟩ (by have:=hl;omega)
 |e::es,y::ys,out,n,pins,σ,H0,H,s,Q,hp,hy,hl,I,R,g,q=>by
  have hy0:=hy y (xq ..);rw[X4]at hl;refine joinParts_cons (thn (hp.1 σ H (fun v H1=>v=.str y∧j0 H H1) R (fun v H1 g e=>⟨e,g⟩) pins s I) fun u s1 ⟨v,H1,I1,r,ev,g1⟩=>?_);subst ev;obtain⟨t,rfl⟩:=(show ∃t,u=Value.str y t from r)
  have hz:(out++y).length≤out.length+2000:=by rw[strLen_append];omega
  exact⟨by omega,Em (n:=n) hp.2 (fun z hz=>hy z (kj _ hz)) (by omega) I1 (R.grow g1) (g.trans g1) q⟩
 |[],_::_,_,_,_,_,_,_,_,_,h,_,_,_,_,_,_=>h.elim
 |_::_,[],_,_,_,_,_,_,_,_,h,_,_,_,_,_,_=>h.elim
theorem DE.joined{a b:Expr}(h:DPs X ρ (a::b::es) ys)(hy:∀y∈ys,y.length≤2000)(hl:ys.length≤1000):DE X ρ (.JoinedStr (a::b::es) pos) (.str (Ms Str.empty ys)):=fun σ H Q R q pins s I =>
 JoinedStr_many (Em (n:=0) (out:=Str.empty) h hy (by
  have e:Str.empty.length=0:=rfl
  rw[e,sizeLine_eq];omega) I R (j0.refl H) fun H' g=>q _ H' g rfl)
theorem jbx{Q:VK}{σ:St}{H:Hp}(he:Jo X e σ H Q)(hs:starEach [e] X.env=[(false,eval e X.env)]):Ol X [e] σ H (fun vs H'=>∃v,vs=[v]∧Q v H') :=
 (jd (es:=[]) peS jw hs).to fun pins s I=>thn (he pins s I) fun u s' ⟨v,H',I',r,q⟩=>⟨v,H',I',r,⟨v,rfl,q⟩⟩
theorem DS.raise{C:Addr}{bm bmN:List Value}{newId B Bn nid initId inN:String}(O:OwnCls x C bm newId X.mg X.base)(Fn:ExcBaseFacts Bn newId inN bmN)(hBn:bm.contains (.type Bn)=true)(FB:ExcBaseFacts B nid initId bm)(hc:X.calm=true)
  (ha:∀σ H,Rep X.K ρ σ H→Jo X e σ H fun _ H'=>j0 H H') (hP:P.ex x ρ) (hg:Gl X x) (hdb:(x==k89)=false) (he:starEach [e] X.env=[(false,eval e X.env)])
  : DS X ρ (.Raise (some (.Call (.Name x np) [e] [] cpos)) none pos) P:=fun σ H E R q pins s I=>by
 obtain⟨tl,N,nm,qn,bs,hdct,sn,sub,ab,col,dd,k0,k1,k2,k3,k5,mN,hC,hN,hni,T⟩:=O.obj;refine wpAny_Raise_call_subU (C:=C) (nm:=nm) (q:=qn) (N:=N) (bs:=bs) (bm:=tl) (hdct:=hdct) (sn:=sn) (sub:=sub) (ab:=ab) (col:=col) (dd:=dd) (k0:=k0) (k1:=k1) (k2:=k2) (k3:=k3) (k5:=k5)
  Fn hBn FB (mN:=mN) (T.hasType FB.hasBase) (I.ok.hd hc) (by rw[he];rfl) hni (Zf I hg O.bound ⟨rfl,?_⟩ hdb)
 have hsp:=jbx (ha σ H R) he cpos pins s I;rw[he]at hsp ⊢;refine Calls.evalArgs_plain (thn hsp fun us s2 ⟨vs,H1,I1,r,v,ev,g⟩=>⟨rfl,?_,I1.bk _ _ hC,hN.keeps I1.bk,T.keeps I1.bk,fun h' e' hm=>?_⟩)
 ·show us.length≤sizeLine;rw[←r.length,ev];show 1≤sizeLine;rw[sizeLine_eq];omega
 ·have nold:∀b,(∃o,s2.heap.get? b=some o)→b≠e':=fun b ⟨o,q⟩ z=>by rw[z,hm.new]at q;cases q
  obtain⟨t,ht,_,_⟩:=hm.there;refine q.ex x ρ σ H hP R (Fr0.refl _ _) pins H1 { s2 with heap:=h' } e' (.ref C) (I1.un (t':=s2.toks) (Un.kept hm.keeps) (I1.hok.kept hm.keeps)) g O.bound ⟨fun b hb=>nold b (I1.old hb),?_,_,_,_,ht,rfl,rfl,rfl,.inl rfl⟩;cases z:H1 e' with
  |none=>rfl
  |some u=>exact absurd rfl (nold e' (I1.hok e' u z).get)
end
end L2
end
section
namespace L2
open PySem PySem.Spec PyProof.Rows
structure FlT(N:Addr→Prop)(H:Hp)(h:Heap)(e:Addr)(C fl:Value):Prop where
 new:∀b,N b→b≠e
 free:H e=none
 obj:∃(oe:Obj)(vs:Array Value)(a0:Value)(T:Addr)(oT:Obj)(ts:Array Value),h.get? e=some oe∧oe.cls=C∧oe.data=.fields vs∧vs[0]?=some a0∧vs[1]?=some (.ref T)∧T≠e∧h.get? T=some oT∧oT.data=.fields ts∧ts[3]?=some fl ∧
  H T=none∧∀b,N b→b≠T
section
variable{X:Cx}{pins:k87}{σ:St}{H:Hp}{s:Shared}{e:Addr}{C fl:Value}{M:Model}{A:Around}{E:k86}
theorem Inv.noted{as:List Addr}{h':Heap}(I:Inv X pins σ H s)(ha:∀b∈as,b∈frs X.stack∨(H b=none∧∀c,Old X pins c→c≠b))
  (keep:∀b o,s.heap.get? b=some o→b∉as→h'.get? b=some o) (slot:∀b o,s.heap.get? b=some o→(∀vs,o.data≠.fields vs)→∃sl,h'.get? b=some { o with slots:=sl }):Inv X pins σ H { s with heap:=h' }:=by
 have sf:=I.stkFree;have ntrk:∀b u,H b=some u→b∉as:=fun b u q z=>by
  rcases ha b z with z|⟨z,_⟩
  ·rw[sf b z]at q;cases q
  ·rw[z]at q;cases q
 have nold:∀b,Old X pins b→b∉frs X.stack→b∉as:=fun b ho nf z=>(ha b z).elim nf fun q=>q.2 b ho rfl;have nst:∀b o,X.s₀.heap.get? b=some o→b∉X.fs→b∉frs X.stack:=fun b o q n z=>by
  rcases xm.mp (I.stkSub b z)with z|z
  ·have:=xn q;rw[z]at this;exact absurd (Xd this I.ok.above) (Xv _)
  ·exact n z
 have nf:∀b∈frs X.stack,∀o,s.heap.get? b=some o→∀vs,o.data≠.fields vs:=fun b hb o q=>by obtain⟨o',ho,hd⟩:=(I.stack.mem hb).2;rw[q]at ho;cases ho;exact hd
 have nff:∀b∈X.fs,∀o,s.heap.get? b=some o→∀vs,o.data≠.fields vs:=fun b hb o q=>by obtain⟨o',ho,hd⟩:=(I.funs.mem hb).2;rw[q]at ho;cases ho;exact hd
 have cel:∀{c:Addr}{v:Option Value},s.heap.IsCell c v→h'.IsCell c v:=fun{c v} ⟨o,q,hd⟩=>by
  obtain⟨sl,q'⟩:=slot c o q fun vs z=>by rw[hd]at z;cases z
  exact⟨_,q',hd⟩
 obtain⟨m,hn,hl⟩:=id I.loc;have up:s.heap.UpToSlots h':=slot;refine⟨I.ok,I.os,I.bare,⟨fun b o e n hb hx=>keep b o (I.base.keep b o e n hb hx) (nold b (.inl ⟨o,e,hx⟩) (nst b o e hb)),fun b o e n hb hx=>?_,I.base.free,fun b o e hx=>?_,I.base.tups,I.base.frzs,I.base.tbls⟩,
  ⟨m,up.ns hn,fun i x v h1 h2 h3=>?_⟩,fun x c e=>?_,I.free,I.freeC,fun p hp=>?_,fun a o q=>(I.hok a o q).stay (fun b u hb r=>keep b u r ?_) (fun _ z=>z) (fun _ _ z=>z) fun _ _ _ z=>z,I.len⟩
 ·obtain⟨sl,e1⟩:=I.base.slot b o e n hb hx;obtain⟨sl',e2⟩:=slot b _ e1 (nff b hb _ e1);exact⟨sl',e2⟩
 ·obtain⟨o',e1⟩:=I.base.there b o e hx;by_cases hb:b∈frs X.stack
  ·obtain⟨sl,e2⟩:=slot b o' e1 (nf b hb o' e1);exact⟨_,e2⟩
  ·exact⟨o',keep b o' e1 (nold b (.inl ⟨o,e,hx⟩) hb)⟩
 ·obtain⟨u,r,q⟩:=hl i x v h1 h2 h3;exact⟨u,r,q.imp id fun⟨k,c,e,z⟩=>⟨k,c,e,cel z⟩⟩
 ·obtain⟨v,z⟩:=I.cell x c e;exact⟨v,cel z⟩
 ·obtain⟨q,n,nl,nfs,d⟩:=I.pin p hp;refine⟨keep p.1 p.2 q (nold p.1 (.inr (.inl ⟨p,hp,rfl⟩)) fun z=>?_),n,nl,nfs,d⟩;rcases xm.mp (I.stkSub p.1 z)with z|z
  ·exact nl z
  ·exact nfs z
 ·rcases hb with rfl|hb
  ·exact ntrk _ _ q
  ·exact ntrk _ _ hb
theorem Ow{as:List Addr}{h':Heap}{a0:Value}(I:Inv X pins σ H s)(hn:∀b,Old X pins b→b≠e)(hf:H e=none)(ha:∀b∈as,b∈frs X.stack∨(H b=none∧∀c,Old X pins c→c≠b))(hfa:∀b∈frs X.stack,b∈as)
  (k1:(W.hideAll s.heap as).StaysIn h') (k3:h'.TracedAtW (W.hideAll s.heap as) e C a0 fl) (k4:∀b o,s.heap.get? b=some o→(∀vs,o.data≠.fields vs)→∃sl,h'.get? b=some { o with slots:=sl }) :
  Inv X pins σ H { s with heap:=h' }∧FlT (Old X pins) H h' e C fl:=by
 have keep:∀b o,s.heap.get? b=some o→b∉as→h'.get? b=some o:=fun b o q n=>k1 b o (W.hideAll_get _ q n);refine⟨I.noted ha keep k4,hn,hf,?_⟩;obtain⟨oe,vs,T,oT,ts,he,⟨hc,h0⟩,hd,h1,hnT,hTe,hT,hdT,h3⟩:=k3;refine⟨oe,vs,a0,T,oT,ts,he,hc,hd,h0,h1,hTe,hT,hdT,h3,?_,fun b hb z=>?_⟩
 ·cases r:H T with
  |none=>rfl
  |some u =>
   obtain⟨ob,q⟩:=(I.hok T u r).get;have:T∉as:=fun z=>by
    rcases ha T z with z|⟨z,_⟩
    ·rw[I.stkFree T z]at r;cases r
    ·rw[z]at r;cases r
   rw[W.hideAll_get _ q this]at hnT;cases hnT
 ·subst z;obtain⟨o,q⟩:=I.old hb;by_cases hs:b∈as
  ·rcases ha b hs with hs|⟨_,z⟩
   ·obtain⟨o',ho,nf⟩:=(I.stack.mem hs).2;obtain⟨sl,q3⟩:=k4 b o' ho nf;rw[q3]at hT;cases hT;exact nf ts hdT
   ·exact z b hb rfl
  ·rw[W.hideAll_get _ q hs]at hnT;cases hnT
theorem Dk(I:Inv X pins σ H s){as:List Addr}(hfa:∀b∈frs X.stack,b∈as):s.heap.FunFrames (W.hideAll s.heap as) X.stack :=
 W.funFrames_hide I.stack fun env he a ha=>hfa a (Px.mpr ⟨env,he,ha⟩)
theorem jbe{Q:Unit→Shared→Prop}(I:Inv X pins σ H s)(hst:X.stack=X.env::X.outer)(hfm:X.env.frame=some X.env.locals)(F:Fl (Old X pins) H s.heap e C)
  (h:∀h',Inv X pins σ H { s with heap:=h' }→FlT (Old X pins) H h' e C (rawInt X.env.locals)→Q () { s with heap:=h' }):wpAny (model X.prog X.w) X.A (noteFrame (.ref e) X.env) Q E s:=by
 obtain⟨oe,vs,a0,he,hc,hd,h0,hT⟩:=F.obj;subst hc;have hfr:X.A.frames=some (X.env::X.outer):=by rw[←hst];exact I.ok.frames
 rcases hT with h1|⟨T,oT,ts,h1,hTe,hT,hdT,h3,hTf,hTn⟩
 ·have hfa:∀b∈frs X.stack,b∈e::frs X.stack:=fun b hb=>kj _ hb;have hl:=Dk I hfa;rw[hst]at hl;unfold noteFrame;simp only[hfm];refine wpAny_bind (wpAny_field he hd h1 ?_);rw[if_neg (by decide)];refine wpAny_entryW (base:=W.hideAll s.heap (e::frs X.stack)) hfr (by rw[←hst]at hl ⊢;exact hl) hfm he (fun b o q=>W.of_hideAll _ q) (Te _ (xq ..)) hd (Array.getElem?_eq_some_iff.mp h1).1 h0 fun h' ⟨k1,_,k3,k4⟩=>?_;obtain⟨I',F'⟩:=Ow (as:=e::frs X.stack) I F.new F.free (fun b hb=>(xm.mp hb).elim (fun z=>.inr ⟨z▸F.free,fun c hc=>z▸F.new c hc⟩) .inl) hfa k1 k3 k4;exact h h' I' F'
 ·have hfa:∀b∈frs X.stack,b∈e::T::frs X.stack:=fun b hb=>kj _ (kj _ hb);have hl:=Dk I hfa;refine wpAny_noteFrame_onW (base:=W.hideAll s.heap (e::T::frs X.stack)) (a0:=a0) hfr (by rw[←hst];exact hl) hfm ⟨oe,vs,T,oT,ts,he,⟨rfl,h0⟩,hd,h1,Te _ (kj _ (xq ..)),hTe,hT,hdT,h3⟩
   (fun b o q=>W.of_hideAll _ q) (Te _ (xq ..)) fun h' ⟨k1,_,k3,k4⟩=>?_
  obtain⟨I',F'⟩:=Ow (as:=e::T::frs X.stack) I F.new F.free (fun b hb=>(xm.mp hb).elim (fun z=>.inr ⟨z▸F.free,fun c hc=>z▸F.new c hc⟩) fun hb=>(xm.mp hb).elim (fun z=>.inr ⟨z▸hTf,fun c hc=>z▸hTn c hc⟩) .inl) hfa k1 k3 k4;exact h h' I' F'
theorem j1s{Q:Unit→Shared→Prop}(I:Inv X pins σ H s)(F:FlT (Old X pins) H s.heap e C fl)
  (h:∀h',Inv X pins σ H { s with heap:=h' }→FlT (Old X pins) H h' e C .none→Q () { s with heap:=h' }):wpAny M A (setFlight (.ref e) none) Q E s:=by
 obtain⟨oe,vs,a0,T,oT,ts,he,hc,hd,h0,h1,hTe,hT,hdT,h3,hTf,hTn⟩:=F.obj;subst hc;have hfa:∀b∈frs X.stack,b∈e::T::frs X.stack:=fun b hb=>kj _ (kj _ hb);refine wpAny_setFlight_noneW (base:=W.hideAll s.heap (e::T::frs X.stack)) (a0:=a0) (fl:=fl) (l:=X.stack) (fun b o q=>W.of_hideAll _ q) (Dk I hfa)
  ⟨oe,vs,T,oT,ts,he,⟨rfl,h0⟩,hd,h1,Te _ (kj _ (xq ..)),hTe,hT,hdT,h3⟩ fun h' k1 _ k3 k4=>?_
 obtain⟨I',F'⟩:=Ow (as:=e::T::frs X.stack) I F.new F.free (fun b hb=>(xm.mp hb).elim (fun z=>.inr ⟨z▸F.free,fun c hc=>z▸F.new c hc⟩) fun hb=>(xm.mp hb).elim (fun z=>.inr ⟨z▸hTf,fun c hc=>z▸hTn c hc⟩) .inl) hfa k1 k3
  (fun b o q nf=>⟨o.slots,k4 b o q nf⟩)
 exact h h' I' F'
theorem Inv.track{oe:Obj}(I:Inv X pins σ H s)(he:s.heap.get? e=some oe)(hn:∀b,Old X pins b→b≠e)(hf:H e=none):Inv X pins σ (upd H e (.frz oe (.own e))) s:=by
 have ne:∀{b:Addr}{u:HO},H b=some u→b≠e:=fun{b u} q z=>by rw[z,hf]at q;cases q
 refine⟨I.ok,I.os,I.bare,⟨I.base.keep,I.base.slot,fun b o q n hx=>?_,I.base.there,fun b xs q=>?_,fun b o u q=>?_,fun b ps q=>?_⟩,I.loc,I.cell,?_,fun x c q=>?_,fun p hp=>?_,fun a o q=>?_,I.len⟩
 ·rw[jb (hn b (.inl ⟨o,q,hx⟩))];exact I.base.free b o q n hx
 ·have z:=I.base.tups b xs q;rw[jb (ne z)];exact z
 ·have z:=I.base.frzs b o u q;rw[jb (ne z)];exact z
 ·obtain⟨m,z⟩:=I.base.tbls b ps q;exact⟨m,by rw[jb (ne z)];exact z⟩
 ·rw[jb (hn _ (.inr (.inr (.inl rfl))))];exact I.free
 ·rw[jb (hn _ (.inr (.inr (.inr ⟨x,q⟩))))];exact I.freeC x c q
 ·obtain⟨q,n,r⟩:=I.pin p hp;exact⟨q,by rw[jb (hn _ (.inr (.inl ⟨p,hp,rfl⟩)))];exact n,r⟩
 ·by_cases z:a=e
  ·subst z;rw[j9]at q;cases q;exact⟨he,oe,he⟩
  ·rw[jb z]at q;exact(I.hok a o q).stay (fun _ _ _ r=>r) (fun b r=>by rw[jb (ne r)];exact r) (fun b xs r=>by rw[jb (ne r)];exact r) fun b _ _ r=>by rw[jb (ne r)];exact r
theorem jbv{j:Nat}{n:Str}{pos:Pos}{Q:Unit→Shared→Prop}(I:Inv X pins σ H s)(hN:X.N.Nodup)(hj:X.N[j]?=some n)(hk:X.env.kindOf n=some .local)
  (h:∀s',Inv X pins (σ.set j none) H s'→Q () s'):wpAny M A (do bindName X.env n .none;unbindBehindTheSuite X.env n pos) Q E s:=by
 obtain⟨m,hn,hl⟩:=id I.loc;have hcls:(X.env.scope.kind==.class || (X.env.scope.kind==.module&&X.env.locals != X.env.globals))=false:=by rw[I.ok.kind];rfl
 refine wpAny_nameGoes_keeps hk hn hcls fun h' v hn' hs=>h _ ?_;have cne:=I.cne;refine⟨I.ok,I.os,I.bare,⟨fun b o e n hb hx=>?_,fun b o e n hb hx=>?_,I.base.free,fun b o e hx=>?_,I.base.tups,I.base.frzs,I.base.tbls⟩,⟨_,hn',fun i y v' e1 e2 e3=>?_⟩,fun y c e=>?_,I.free,I.freeC,fun p hp=>?_,fun b ob e=>?_,by simpa using I.len⟩
 ·exact(hs.2 b (X8 (Xd (xn e) I.ok.above))).trans (I.base.keep b o e n hb hx)
 ·obtain⟨sl,e1⟩:=I.base.slot b o e n hb hx;exact⟨sl,(hs.2 b (X8 (Xd (xn e) I.ok.above))).trans e1⟩
 ·obtain⟨o',e1⟩:=I.base.there b o e hx;exact⟨o',(hs.2 b (X8 (Xd (xn e) I.ok.above))).trans e1⟩
 ·by_cases hij:i=j
  ·subst hij;rcases getElem?_set_of e2 with ⟨_,z,_⟩|⟨z,_⟩
   ·cases z
   ·exact absurd rfl z
  ·rw[List.getElem?_set_ne (Ne.symm hij)]at e2;obtain⟨u',r',q⟩:=hl i y v' e1 e2 e3;refine⟨u',r',?_⟩;rcases q with ⟨k,e⟩|⟨k,c,e,z⟩
   ·refine .inl ⟨k,?_⟩;have:y≠n:=fun e=>hij (Ox hN e1 (e▸hj));simp[this,e]
   ·exact .inr ⟨k,c,e,z.sameBut hs (cne y c e)⟩
 ·obtain⟨w',z⟩:=I.cell y c e;exact⟨w',z.sameBut hs (cne y c e)⟩
 ·obtain⟨e,n,ne,nf,d⟩:=I.pin p hp;exact⟨(hs.2 p.1 ne).trans e,n,ne,nf,d⟩
 ·refine(I.hok b ob e).stay (fun c w' hc q=>(hs.2 c ?_).trans q) (fun _ q=>q) (fun _ _ q=>q) fun _ _ _ q=>q;rintro rfl;rcases hc with rfl|hc
  ·rw[I.free]at e;cases e
  ·rw[I.free]at hc;cases hc
end
end L2
end
section
namespace PySem.W
open PySem PySem.Spec PySem.Calls PyProof.Rows Builtin Builtin.ObjectAttr Builtin.Getset_descriptor
section
variable{prog:Program}{w:World}{A:Around}{E:k86}{h:Heap}{g:Array GenState}{d:Drawn}{t:Nat}{os:OsState}{K:Frag}{e C:Addr}
theorem j5n {R:Result→Shared→Prop} {tp:Value} (X:K.In h) (LT:Looks (model prog w) h (typeOf (.ref e)) (.ref C)) (hm:mroIn K C (.type "object")=some true)
  (hq:R (.ok (.ret (.ref C))) ⟨h,g,d,t,os⟩):codeAny (model prog w) A (.call (.builtin "getset_descriptor.__get__") ⟨[.builtin "object.__class__",.ref e,tp],[]⟩) R ⟨h,g,d,t,os⟩:=by
 have L1:=looks_mroIn (M:=model prog w) X hm;refine codeAny_call_builtin KF.slot_gs.plain KF.entry_gs (KF.slot_gs.check _ _ _ _ _ _ _ _ KF.type_class (KF.args_gs _ _ _) ?_);unfold Builtin.«getset_descriptor.__get__» descrGet;rw[dga_obj];refine wpAny_bind (wpAny_pure ?_);unfold descrGetter descrCheckInstance descrNameAndClass isInstance;simp only[KF.owner_class]
 repeat lk
 refine⟨Code.quiet_builtin _ (by decide +kernel),codeAny_builtin KF.entry_class ?_⟩;unfold Builtin.«object.__class__» shownTypeOf
 repeat lk
 exact hq
theorem j0z {tk:Tok} {o:Obj} {Q:Fin→Shared→Prop} (X:K.In h) (hx:h.get? e=some o) (hc:o.cls=.ref C) (ha:findIn K (.ref C) "__class__" = some (some (.builtin "object.__class__"))) (hm:mroIn K C (.type "object")=some true)
  (hq:Q (.done (.ret (.ref C))) ⟨h,g,d,t,os⟩):wpAny (model prog w) A (Builtin.«object.__getattribute__» ⟨[.ref e,.str "__class__" tk],[]⟩) Q E ⟨h,g,d,t,os⟩:=by
 have hT5:(⟨h,g,d,t,os⟩:Shared).TypeIs (.builtin "object.__class__") "getset_descriptor":=F.typeOf_object_class;have f5:=F.typeOf_object_class;have f6:=F.slot_gs_get.lookup;have f7:=F.slot_gs_set.lookup;have L1:=looks_findIn (M:=model prog w) X ha;have LT:Looks (model prog w) h (typeOf (.ref e)) (.ref C):=hc▸(Looks.ld hx).andThen .now
 repeat (any_goals (first|assumption|(with_reducible refine wpAny_loadPart_at hx ?_;rw[hc])|with_reducible refine L1.at ?_|wp_step))
 refine j5n X LT hm ?_
 repeat (any_goals (first|assumption|wp_step))
theorem j8q {M:Model} {nameV:Value} {o:Obj} {Q:Unit→Shared→Prop} (X:K.In h) (hx:h.get? e=some o) (hc:o.cls=.ref C) (hs:subIn K (.ref C) (.type "BaseException")=some true) (hq:Q () ⟨h,g,d,t,os⟩) :
  wpAny M A (checkBuiltinCall "BaseException.__getattribute__" ⟨[.ref e,nameV],[]⟩) Q E ⟨h,g,d,t,os⟩:=by
 have hk:builtinKind "BaseException.__getattribute__" = some .slot:=by decide +kernel
 have hsplit:splitId "BaseException.__getattribute__" = some ("BaseException","__getattribute__"):=by decide +kernel
 have L2:=looks_subIn (M:=M) X hs;have ha:=F.args_bexc_ga (.ref e) nameV;simp only[checkBuiltinCall,hk,hsplit];refine wpAny_bind ?_
 ·unfold isInstance
  repeat (first|(with_reducible refine wpAny_loadPart_at hx ?_;rw[hc])|with_reducible refine L2.at ?_|wp_step)
  exact hq
theorem j8d {tk:Tok} {o:Obj} {fill expr:Bool} {Q:k86} (X:K.In h) (hx:h.get? e=some o) (hc:o.cls=.ref C) (hga:findIn K (.ref C) "__getattribute__" = some (some (.builtin "BaseException.__getattribute__")))
  (hgt:findIn K (.ref C) "__getattr__" = some none) (hs:subIn K (.ref C) (.type "BaseException")=some true) (ha:findIn K (.ref C) "__class__" = some (some (.builtin "object.__class__"))) (hm:mroIn K C (.type "object")=some true) (hpl:Slot "ValueError" "__getattribute__" "BaseException.__getattribute__")
  (hq:Q (.ref C) ⟨h,g,d,t,os⟩):wpAny (model prog w) A (getAttrBy (.ref e) (.str "__class__" tk) fill expr) Q E ⟨h,g,d,t,os⟩:=by
 have f3:=hpl.bind (.ref e);have hx0:(expr&&onTheHeap (Value.builtin "BaseException.__getattribute__"))=false:=by cases expr<;>rfl
 have hx2:(Value.builtin "BaseException.__getattribute__" == Value.builtin "object.__getattribute__")=false:=by decide +kernel
 have hx1:(onTheHeap (Value.ref C)&&Value.builtin "BaseException.__getattribute__" == Value.builtin "object.__getattribute__")=false:=by rw[hx2];rfl
 have L1:=looks_findIn (M:=model prog w) X hga;have L2:=looks_findIn (M:=model prog w) X hgt
 repeat (any_goals (first|assumption|(with_reducible refine wpAny_loadPart_at hx ?_;rw[hc])|with_reducible refine L1.at ?_|with_reducible refine L2.at ?_|wp_step))
 refine codeAny_call_builtin hpl.plain F.entry_bexc_ga (j8q X hx hc hs (j0z X hx hc ha hm ?_))
 repeat (any_goals (first|assumption|wp_step))
theorem excls_attr {o:Obj} {Q:Option Value→Shared→Prop} (X:K.In h) (hx:h.get? e=some o) (hc:o.cls=.ref C) (hga:findIn K (.ref C) "__getattribute__" = some (some (.builtin "BaseException.__getattribute__")))
  (hgt:findIn K (.ref C) "__getattr__" = some none) (hs:subIn K (.ref C) (.type "BaseException")=some true) (ha:findIn K (.ref C) "__class__" = some (some (.builtin "object.__class__"))) (hm:mroIn K C (.type "object")=some true) (hpl:Slot "ValueError" "__getattribute__" "BaseException.__getattribute__")
  (hq:Q (some (.ref C)) ⟨h,g,d,t+1,os⟩):wpAny (model prog w) A (getAttr? (.ref e) "__class__") Q E ⟨h,g,d,t,os⟩:=by
 unfold getAttr? getAttrBy?;refine wpAny_bind (wpAny_mkText (wpAny_bind (wpAny_attempt (j8d X hx hc hga hgt hs ha hm hpl (wpAny_pure hq)))))
end
end PySem.W
end
section
namespace L2
open PySem PySem.Spec PyProof.Rows
noncomputable def jr:List Str:=["WrongSize","NoAsk","NoWord","Twice","WrongAnswers","Unlike","NoPlace","NoText","WrongPrices","WrongWeights","NoPlan"]
noncomputable def bmV:List Value:=[.type "ValueError",.type "Exception",.type "BaseException",.type "object"]
noncomputable def j6n(K:k85)(C:Addr):Bool:=W.findIn K (.ref C) "__getattribute__" == some (some (.builtin "BaseException.__getattribute__"))&&(W.findIn K (.ref C) "__getattr__" == some none&&(W.subIn K (.ref C) (.type "BaseException")==some true &&
 (W.findIn K (.ref C) "__class__" == some (some (.builtin "object.__class__"))&&(W.mroIn K C (.type "object")==some true&&((W.clsIn K C).isSome&&W.excIn K C bmV "ValueError.__new__")))))
noncomputable def Qt(K:k85):Bool:=jr.all fun x=>match W.nsIn K mainGlobals x with
 |some (some (.ref C))=>j6n K C&&(W.kitOne K (.ref C) (.type "ValueError")==some true&&((match W.nsIn K mainGlobals "AskError" with
   |some (some a)=>W.exmOne K (.ref C) a==some true
   |_=>false)&&jr.all fun c=>match W.nsIn K mainGlobals c with
   |some (some v)=>W.kitOne K (.ref C) v==some (x==c)
   |_=>true))
 |some (some _)=>false
 |_=>true
structure XcOk(K:k85)(C:Addr):Prop where
 ga:W.findIn K (.ref C) "__getattribute__" = some (some (.builtin "BaseException.__getattribute__"))
 gt:W.findIn K (.ref C) "__getattr__" = some none
 sub:W.subIn K (.ref C) (.type "BaseException")=some true
 cls:W.findIn K (.ref C) "__class__" = some (some (.builtin "object.__class__"))
 mro:W.mroIn K C (.type "object")=some true
 is:(W.clsIn K C).isSome=true
 exc:W.excIn K C bmV "ValueError.__new__" = true
theorem ja5{K:k85}{C:Addr}(h:j6n K C=true):XcOk K C:=by unfold j6n at h;simp only[Xb,beq_iff_eq]at h;exact⟨h.1,h.2.1,h.2.2.1,h.2.2.2.1,h.2.2.2.2.1,h.2.2.2.2.2.1,h.2.2.2.2.2.2⟩
structure ExOne(K:k85)(x:Str)(C:Addr):Prop where
 ok:XcOk K C
 val:W.kitOne K (.ref C) (.type "ValueError")=some true
 ask:∃a,W.nsIn K mainGlobals "AskError" = some (some a)∧W.exmOne K (.ref C) a=some true
 one:∀c∈jr,∀v,W.nsIn K mainGlobals c=some (some v)→W.kitOne K (.ref C) v=some (x==c)
theorem Vg{K:k85}(h:Qt K=true){x:Str}{o:Value}(hx:x∈jr)(e:W.nsIn K mainGlobals x=some (some o)):∃C,o=.ref C∧ExOne K x C:=by
 have q:=Xo.mp h x hx;rw[e]at q;cases o with
 |ref C =>
  refine⟨C,rfl,?_⟩;dsimp only at q;simp only[Xb,beq_iff_eq]at q;obtain⟨q1,q2,q3,q4⟩:=q;refine⟨ja5 q1,q2,?_,fun c hc v ev=>?_⟩
  ·split at q3
   ·rename_i a ea;exact⟨a,ea,beq_iff_eq.mp q3⟩
   ·cases q3
  ·have z:=Xo.mp q4 c hc;rw[ev]at z;exact beq_iff_eq.mp z
 |_=>cases q
theorem jb8{K:k85}{h₀:Heap}{C:Addr}{bmB:List Value}{newId:String}{x:Str}{mg:k88}(X:K.In h₀)(hb:mg x=some (.ref C))(q:W.excIn K C bmB newId=true):OwnCls x C bmB newId mg h₀:=by
 refine⟨hb,?_⟩;unfold W.excIn at q;split at q
 ·rename_i dd cd sl ho;split at q
  ·rename_i C' bm k0 k1 k2 k3 n k5 hm hs;simp only[Xb,beq_iff_eq,Bool.not_eq_true']at q;obtain⟨⟨⟨⟨⟨rfl,rfl⟩,hdel⟩,ht⟩,hok⟩,hni⟩:=q;obtain⟨nm,bs,mro,ns,qn,hd,sn,sub,ab,col,del⟩:=cd;dsimp only at hm hdel hok hni;subst hm hdel;have hsl:sl = #[k0,k1,k2,k3,some (.builtin n),k5]:=by obtain⟨l⟩:=sl;simp only at hs;rw[hs]
   subst hsl;exact⟨bm,ns,nm,qn,bs,hd,sn,sub,ab,col,dd,k0,k1,k2,k3,k5,_,X _ _ ho,.of_isNs (W.isNs_of_in X hok),W.nsMap_none_of_in X hok hni,W.tail_of_in X ht⟩
  ·cases q
 ·cases q
theorem DS.raiseE{X:Cx}{ρ:Rho}{e:Expr}{x:Str}{o:Value}{np cpos pos:Pos}{P:Po}(ha:Qt X.K=true)(hx:x∈jr)(hn:W.nsIn X.K mainGlobals x=some (some o))(hb:X.mg x=some o)(hK:X.K.In X.base)(hc:X.calm=true)
  (he:∀σ H,Rep X.K ρ σ H→Jo X e σ H fun _ H'=>j0 H H') (hP:P.ex x ρ) (hg:Gl X x) (hdb:(x==k89)=false) (hs:starEach [e] X.env=[(false,eval e X.env)]):DS X ρ (.Raise (some (.Call (.Name x np) [e] [] cpos)) none pos) P:=by
 obtain⟨C,rfl,F⟩:=Vg ha hx hn;exact DS.raise (jb8 hK hb F.ok.exc) PySem.F.excBase_ValueError (by decide +kernel) PySem.F.excBase_ValueError hc he hP hg hdb hs
theorem El{K:k85}{e C:Addr}{o:Obj}(k:XcOk K C):PySem.W.KitX K (.ref e) (.ref C) (fun h=>h.get? e=some o∧o.cls=.ref C) where
 ty:=fun _ _ _ p=>p.2▸(PySem.W.Looks.ld p.1).andThen .now
 it:=fun _ _ X _=>by
  obtain⟨cdD,hcD⟩:=Xn.mp k.is;unfold W.clsIn at hcD;split at hcD
  ·rename_i c' d' cd' sl' ho;intro A' Q' E' s' k q;unfold isType loadHead;exact wpAny_bind (wpAny_loadPart (k _ _ (X _ _ ho)) (wpAny_pure q))
  ·cases hcD
 ne:=fun h tp dd its n sl X htp=>by
  obtain⟨cdD,hcD⟩:=Xn.mp k.is;refine Bool.eq_false_iff.mpr fun q=>?_;have e:C=tp:=Value.ref.inj (beq_iff_eq.mp q);subst e;unfold W.clsIn at hcD;split at hcD
  ·rename_i c' d' cd' sl' ho;have z:=(X _ _ ho).symm.trans htp;cases z
  ·cases hcD
 ca:=fun{prog w A E Q s} X p hq=>by obtain⟨h,g,d,t,os⟩:=s;exact W.excls_attr X p.1 p.2 k.ga k.gt k.sub k.cls k.mro PySem.F.attr_ValueError.ga hq
end L2
end
section
namespace L2
open PySem PySem.Spec PyProof.Rows
section
variable{X:Cx}{pins pins':k87}{σ:St}{H:Hp}{s:Shared}{xe:k86}{e:Addr}
theorem Inv.toPn(I:Inv X pins σ H s):Inv { X with pn:=X.pn++pins,xe:=xe } [] σ H s :=
 ⟨⟨I.ok.mod,I.ok.kind,I.ok.glob,I.ok.blt,I.ok.above,I.ok.inj,I.ok.has,I.ok.cab,I.ok.hd,I.ok.frames,I.ok.stk,I.ok.exf,I.ok.bs,I.ok.bsz,I.ok.noex,I.ok.exfs,I.ok.funs,I.ok.frf⟩,
  I.os,I.bare,I.base,I.loc,I.cell,I.free,I.freeC,fun p hp=>I.pin p (by rw[Xr]at hp;exact hp),I.hok,I.len⟩
theorem Inv.ofPn(I:Inv { X with pn:=X.pn++pins,xe:=xe } pins' σ H s):Inv X pins σ H s :=
 ⟨⟨I.ok.mod,I.ok.kind,I.ok.glob,I.ok.blt,I.ok.above,I.ok.inj,I.ok.has,I.ok.cab,I.ok.hd,I.ok.frames,I.ok.stk,I.ok.exf,I.ok.bs,I.ok.bsz,I.ok.noex,I.ok.exfs,I.ok.funs,I.ok.frf⟩,
  I.os,I.bare,I.base,I.loc,I.cell,I.free,I.freeC,fun p hp=>I.pin p (Pz _ hp),I.hok,I.len⟩
theorem Old.toPn{b:Addr}(h:Old X pins b):Old { X with pn:=X.pn++pins,xe:=xe } pins' b:=by
 rcases h with h|⟨p,hp,e⟩|h|h
 ·exact .inl h
 ·exact .inr (.inl ⟨p,Pz _ hp,e⟩)
 ·exact .inr (.inr (.inl h))
 ·exact .inr (.inr (.inr h))
noncomputable abbrev Cx.hnd(X:Cx)(e:Addr):Cx:={ X with A:=X.A.mark (some (.ref e)),calm:=false,xe:=fun _ _=>False }
theorem Inv.toH(I:Inv X pins σ H s):Inv (X.hnd e) pins σ H s :=
 ⟨⟨I.ok.mod,I.ok.kind,I.ok.glob,I.ok.blt,I.ok.above,I.ok.inj,I.ok.has,I.ok.cab,(fun z=>by cases z),I.ok.frames,I.ok.stk,I.ok.exf,I.ok.bs,I.ok.bsz,I.ok.noex,I.ok.exfs,I.ok.funs,I.ok.frf⟩,
  I.os,I.bare,I.base,I.loc,I.cell,I.free,I.freeC,I.pin,I.hok,I.len⟩
theorem Inv.ofH(ok:X.Ok)(I:Inv (X.hnd e) pins σ H s):Inv X pins σ H s:=⟨ok,I.os,I.bare,I.base,I.loc,I.cell,I.free,I.freeC,I.pin,I.hok,I.len⟩
end
theorem Rep.set_raw{K:k85}{ρ:Rho}{σ:St}{H:Hp}{i:Nat}{a:Addr}{o:Obj}{x:Str}(R:Rep K ρ σ H)(e:del H (owns ρ) a=some (.frz o (.own a)))(hx:W.nsIn K mainGlobals x=some (some o.cls)):Rep K (ρ.set i (.raw a o x)) (σ.set i (some (.ref a))) H:=by
 have sub:(owns (ρ.set i (.raw a o x))).Sublist (owns ρ):=jk rfl;have g:j0 (del H (owns ρ)) (del H (owns (ρ.set i (.raw a o x)))):=vq fun b hb=>sub.subset hb;refine⟨by simp[R.len],fun j d' h=>?_,fun j a ds h=>?_,sub.nodup R.nd,fun j a' o' x' h=>?_,R.tb⟩
 ·rcases getElem?_set_of h with ⟨rfl,z,hl⟩|⟨n,h⟩
  ·cases z
  ·obtain⟨u,q,h⟩:=R.val j d' h;exact⟨u,by rw[qi n];exact q,h.mono g⟩
 ·rcases getElem?_set_of h with ⟨rfl,z,_⟩|⟨n,h⟩
  ·cases z
  ·obtain⟨q,xs,h,l⟩:=R.own j a ds h;exact⟨by rw[qi n];exact q,xs,h,l.mono g⟩
 ·rcases getElem?_set_of h with ⟨rfl,z,hl⟩|⟨n,h⟩
  ·cases z;exact⟨Zm (by rw[R.len];exact hl),g _ _ e,hx⟩
  ·obtain⟨q,h,z⟩:=R.raw j a' o' x' h;exact⟨by rw[qi n];exact q,g _ _ h,z⟩
section
variable{X:Cx}{ρ:Rho}{i:Nat}{a:Addr}{o:Obj}{x y c c1 c2:Str}{p p1 p2 p3 p4 p5 pos:Pos}{k:Bool}
theorem Lh:Jj X (.builtin "isinstance") (fun xs H Q=>∃(a:Addr)(o:Obj)(C:Addr)(v:V)(u:Value)(b:Bool),xs=[.ref a,v]∧H a=some (.frz o (.own a))∧o.cls=.ref C∧XcOk X.K C∧(∀u',RelV v u'→u'=u)∧W.kitOne X.K (.ref C) u=some b∧Q (.bl b) H):=by rintro pins s σ H xs us Q I r ⟨a,o,C,v,u,b,e,ha,hc,hk,hv,kk,q⟩;subst e;obtain⟨u1,u2,eu,r1,r2⟩:=vals2 r;subst eu;cases(show u1=Value.ref a from r1);cases hv u2 r2;exact W.kia_one (El hk) I.kIn ⟨(I.hok a _ ha).1,hc⟩ kk (fun z=>nomatch z) fun tk=>⟨.bl b,H,I.tok tk,rfl,q⟩
theorem j6e:Jj X (.builtin "isinstance") (fun xs H Q=>∃(a t:Addr)(o:Obj)(C C1 C2:Addr)(b:Bool),xs=[.ref a,.ref t]∧H a=some (.frz o (.own a))∧o.cls=.ref C∧XcOk X.K C∧SqT X.K H t [.ref C1,.ref C2]∧W.kitAny X.K (.ref C) [.ref C1,.ref C2]=some b∧Q (.bl b) H):=by rintro pins s σ H xs us Q I r ⟨a,t,o,C,C1,C2,b,e,ha,hc,hk,sq,kk,q⟩;subst e;obtain⟨u1,u2,eu,r1,r2⟩:=vals2 r;subst eu;cases(show u1=Value.ref a from r1);cases(show u2=Value.ref t from r2);obtain⟨its,rv,⟨⟨cl,dd,da,sl⟩,h1,h2,n,h3⟩,_⟩:=I.tuple sq;have h2:cl=.type "tuple":=h2;have h3:da=.seq its.toArray n:=h3;subst h2 h3;obtain⟨v1,v2,ei,q1,q2⟩:=vals2 rv;subst ei;cases(show v1=Value.ref C1 from q1);cases(show v2=Value.ref C2 from q2);exact W.kia_tup (El hk) I.kIn ⟨(I.hok a _ ha).1,hc⟩ h1 kk (fun z=>nomatch z) fun tk=>⟨.bl b,H,I.tok tk,rfl,q⟩
theorem Il{σ:St}{H:Hp}(ha:Qt X.K=true)(hx:x∈jr)(R:Rep X.K ρ σ H)(h:ρ[i]?=some (.raw a o x)):σ[i]?=some (some (.ref a))∧H a=some (.frz o (.own a))∧∃C,o.cls=.ref C∧ExOne X.K x C:=by obtain⟨q,z,n⟩:=R.raw i a o x h;obtain⟨C,e,F⟩:=Vg ha hx n;exact⟨q,(of_del z).2,C,e,F⟩
theorem DE.isxV (ha:Qt X.K=true) (hx:x∈jr) (h:ρ[i]?=some (.raw a o x)) (hm:X.mg "isinstance" = none) (hT:X.mg "ValueError" = none) (hN:X.N[i]?=some y) (hv:Vis X.env.scope y) (hd:(y==k89)=false) (hcd:(y==k8a)=false)
  (hg:Gl X "isinstance") (hg2:Gl X "ValueError") (hs:starEach [.Name y p1,.Name "ValueError" p2] X.env=(false,eval (.Name y p1) X.env)::starEach [.Name "ValueError" p2] X.env) (hs2:starEach [.Name "ValueError" p2] X.env=(false,eval (.Name "ValueError" p2) X.env)::starEach [] X.env)
  (hpl:(backTo pos (starEach [.Name "ValueError" p2] X.env)).any (·.1)=false):DE X ρ (.Call (.Name "isinstance" p) [.Name y p1,.Name "ValueError" p2] [] pos) (.bl true):=fun σ H Q R q=>by
 obtain⟨q1,q2,C,e,F⟩:=Il ha hx R h;exact(zx Lh hg hm boot_isinstance (jd (zr hN hv hd hcd) (jd (jh8 hg2 hT (by decide +kernel)) jw hs2) hs) (by decide) (by decide) hs hpl).to ⟨.ref a,q1,a,o,C,.ty "ValueError",.type "ValueError",true,rfl,q2,e,F.ok,fun u' r=>r,F.val,q _ H (j0.refl H) rfl⟩
theorem DE.isx1 {v:Value} (ha:Qt X.K=true) (hx:x∈jr) (h:ρ[i]?=some (.raw a o x)) (hm:X.mg "isinstance" = none) (hc:c∈jr) (hn:W.nsIn X.K mainGlobals c=some (some v)) (hT:X.mg c=some v) (hN:X.N[i]?=some y) (hv:Vis X.env.scope y) (hd:(y==k89)=false) (hcd:(y==k8a)=false)
  (hg:Gl X "isinstance") (hg2:Gl X c) (hdb:(c==k89)=false) (hs:starEach [.Name y p1,.Name c p2] X.env=(false,eval (.Name y p1) X.env)::starEach [.Name c p2] X.env) (hs2:starEach [.Name c p2] X.env=(false,eval (.Name c p2) X.env)::starEach [] X.env)
  (hpl:(backTo pos (starEach [.Name c p2] X.env)).any (·.1)=false):DE X ρ (.Call (.Name "isinstance" p) [.Name y p1,.Name c p2] [] pos) (.bl (x==c)):=fun σ H Q R q=>by
 obtain⟨q1,q2,C,e,F⟩:=Il ha hx R h;obtain⟨C',rfl,_⟩:=Vg ha hc hn;exact(zx Lh hg hm boot_isinstance (jd (zr hN hv hd hcd) (jd (Mq (v:=.ref C') hg2 hT rfl hdb) jw hs2) hs) (by decide) (by decide) hs hpl).to ⟨.ref a,q1,a,o,C,.ref C',.ref C',x==c,rfl,q2,e,F.ok,fun u' r=>r,F.one c hc _ hn,q _ H (j0.refl H) rfl⟩
theorem DE.isx2 {v1 v2:Value} {m:Nat} (ha:Qt X.K=true) (hx:x∈jr) (h:ρ[i]?=some (.raw a o x)) (hm:X.mg "isinstance" = none) (hc1:c1∈jr) (hc2:c2∈jr) (hn1:W.nsIn X.K mainGlobals c1=some (some v1)) (hn2:W.nsIn X.K mainGlobals c2=some (some v2))
  (hT1:X.mg c1=some v1) (hT2:X.mg c2=some v2) (hN:X.N[i]?=some y) (hv:Vis X.env.scope y) (hd:(y==k89)=false) (hcd:(y==k8a)=false) (hg:Gl X "isinstance") (hg1:Gl X c1) (hg2:Gl X c2) (hdb1:(c1==k89)=false) (hdb2:(c2==k89)=false)
  (hs:starEach [.Name y p1,.Tuple [.Name c1 p2,.Name c2 p3] m p4] X.env=(false,eval (.Name y p1) X.env)::starEach [.Tuple [.Name c1 p2,.Name c2 p3] m p4] X.env)
  (hs2:starEach [.Tuple [.Name c1 p2,.Name c2 p3] m p4] X.env=(false,eval (.Tuple [.Name c1 p2,.Name c2 p3] m p4) X.env)::starEach [] X.env) (hpl:(backTo pos (starEach [.Tuple [.Name c1 p2,.Name c2 p3] m p4] X.env)).any (·.1)=false)
  (hs3:starEach [.Name c1 p2,.Name c2 p3] X.env=(false,eval (.Name c1 p2) X.env)::starEach [.Name c2 p3] X.env) (hs4:starEach [.Name c2 p3] X.env=(false,eval (.Name c2 p3) X.env)::starEach [] X.env) :
  DE X ρ (.Call (.Name "isinstance" p) [.Name y p1,.Tuple [.Name c1 p2,.Name c2 p3] m p4] [] pos) (.bl (x==c1 || x==c2)):=fun σ H Q R q=>by
 obtain⟨q1,q2,C,e,F⟩:=Il ha hx R h;obtain⟨C1,rfl,_⟩:=Vg ha hc1 hn1;obtain⟨C2,rfl,_⟩:=Vg ha hc2 hn2;have kk:W.kitAny X.K (.ref C) [.ref C1,.ref C2]=some (x==c1 || x==c2):=by
  unfold W.kitAny;rw[F.one c1 hc1 _ hn1];cases(x==c1)
  ·unfold W.kitAny;rw[F.one c2 hc2 _ hn2];cases(x==c2)<;>rfl
  ·rfl
 exact(zx j6e hg hm boot_isinstance (jd (zr hN hv hd hcd) (jd (j4y (jd (Mq (v:=.ref C1) hg1 hT1 rfl hdb1) (jd (Mq (v:=.ref C2) hg2 hT2 rfl hdb2) jw hs4) hs3)) jw hs2) hs) (by decide) (by decide) hs hpl).to
  ⟨.ref a,q1,by show 2≤sizeLine;decide,fun t ht=>⟨a,t,o,C,C1,C2,_,rfl,by rw[jb (fun z=>by rw[z,ht]at q2;cases q2)];exact q2,e,F.ok,.inl (.inl j9),kk,q _ _ (j6 ht) rfl⟩⟩
end
end L2
end
section
namespace L2
open PySem PySem.Spec PyProof.Rows
structure KindsP(P:Program)(w:World)(K:k85)(mg:k88)(base:Heap)(f x:Str)(l:List D):Prop where
 ex:∃fa:Addr,mg f=some (.ref fa)∧W.keepIn K (.ref fa)=true∧∀(A:Around)(outer:List Env)(s:Shared)(H:Hp)(e:Addr)(o:Obj),A.depth+4<recursionLimit→A.units+150<cLine→Env0 P w K mg base A outer s H→TabOk K H →
  H e=some (.frz o (.own e))→W.nsIn K mainGlobals x=some (some o.cls) →
  codeAny (model P w) A (.call (.ref fa) ⟨[.ref e],[]⟩) (CR CX0 outer P w H s (fun v H'=>∃a xs,v=.ref a∧j0 H H'∧H a=none∧H' a=some (.lst xs)∧j4 K (del H' [a]) l xs) E0) s
 nl:zg l=true
abbrev Kinds(X:Cx)(f x:Str)(l:List D):Prop:=KindsP X.prog X.w X.K X.mg X.base f x l
section
variable{X:Cx}{ρ:Rho}{i j:Nat}{e:Addr}{o:Obj}{f x n k A:Str}{l:List D}{P:Po}{body:List Stmt}{p p1 p2 p3 p4 p5 pos hpos:Pos}
theorem DO.kinds (c:Kinds X f x l) (h:ρ[j]?=some (.raw e o x)) (hdp:X.A.depth+4<recursionLimit) (hun:X.A.units+150<cLine) (hg:Gl X f) (hdb:(f==k89)=false) (hN:X.N[j]?=some n) (hv:Vis X.env.scope n) (hd:(n==k89)=false) (hcd:(n==k8a)=false)
  (he:starEach [.Name n p1] X.env=(false,eval (.Name n p1) X.env)::starEach [] X.env) (hpl:(backTo p2 (starEach [] X.env)).any (·.1)=false):DO X ρ (.Call (.Name f p) [.Name n p1] [] p2) l:=fun σ H Q R q pins s I=>by
 obtain⟨fa,hm,hk,run⟩:=c.ex;obtain⟨q1,q2,q3⟩:=R.raw j e o x h;refine wpAny_Call_Name_kw (Zf I hg hm ?_ hdb);refine W.callWith_K (h₀:=X.base) I.ok.mod.kin hk (thn ((jd (zr hN hv hd hcd) jw he).to (σ:=σ) (H:=H) (Q:=fun vs H1=>vs=[.ref e]∧H1=H) ⟨.ref e,q1,rfl,rfl⟩ p2 pins s I) fun us s1 ⟨vs,H1,I1,r,e1,e2⟩=>⟨I1.kIn,?_⟩) he hpl;subst e1 e2;obtain⟨u,eu,r1⟩:=vals1 r;subst eu;cases(show u=Value.ref e from r1);refine wpAny_call (codeAny_mono (run X.A X.stack s1 H1 e o hdp hun I1.env0 R.tb (of_del q2).2 q3) fun r s' hq=>?_);cases r with
 |error e=>exact hq.elim
 |ok fl =>
  cases fl with
  |ret u =>
   obtain⟨v,H',I',rv,a,xs,ev,g,na,m,en⟩:=I1.after hq;refine⟨v,H',I',rv,?_⟩;subst ev;exact q a xs H' g na m ((en.mono jm).hide (fun c hc=>by
    rcases xm.mp hc with z|z
    ·rw[z];exact .inl ⟨xs,m⟩
    ·exact .inl ((R.grow g).owned c z)) c.nl)
  |next=>exact False.elim hq
  |brk=>exact False.elim hq
  |cont=>exact False.elim hq
theorem caught{pins:k87}{σ:St}{H H0:Hp}{s:Shared}{C:Value}{E:Ends}{ρ0:Rho}(ha:Qt X.K=true)(hx:x∈jr)(hns:W.nsIn X.K mainGlobals x=some (some C))(c:Kinds X f x l)(hst:X.stack=X.env::X.outer)(hfm:X.env.frame=some X.env.locals)
  (hdp:X.A.depth+4<recursionLimit) (hun:X.A.units+150<cLine) (I:Inv X pins σ H s) (R:Rep X.K ρ σ H) (Fe:Fl (Old X pins) H s.heap e C) (q:EndsOk X ρ0 H0 P E) (f0:Fr0 ρ0 ρ H0 H)
  (hP:∀oe a,P.nx (((ρ.set j (.raw e oe x)).set i (.own a l)).set j .un)) (hND:X.N.Nodup) (hgA:Gl X "AskError")
  (hg:Gl X f) (hdb:(f==k89)=false) (hN:X.N[j]?=some n) (hlo:X.env.scope.names.lookup n=some .local) (hd:(n==k89)=false) (hcd:(n==k8a)=false)
  (hi:X.N[i]?=some k) (hxk:Loc X.env.scope k) (hfk:X.fn k=true∨X.env.scope.names.lookup k=some .local) (hfn:X.fn n=true∨X.env.scope.names.lookup n=some .local)
  (hs:swapsWith (.Call (.Name f p) [.Name n p1] [] p2) (some (.Name k p3)) p4.line X.env=pure false)
  (he:starEach [.Name n p1] X.env=(false,eval (.Name n p1) X.env)::starEach [] X.env) (hpl:(backTo p2 (starEach [] X.env)).any (·.1)=false) :
  wpAny (model X.prog X.w) X.A (noteFrame (.ref e) X.env) (fun _ s₂=>wpAny (model X.prog X.w) X.A (setFlight (.ref e) none) (fun _ s₃ =>
   wpAny (model X.prog X.w) X.A (handleBy (.ref e) X.env [.ExceptHandler (some (.Name "AskError" p5)) (some n) [.Assign [.Name k p3] (.Call (.Name f p) [.Name n p1] [] p2) p4] hpos]) (SP X pins E) X.xe s₃) X.xe s₂) X.xe s:=by
 obtain⟨Ca,rfl,F1⟩:=Vg ha hx hns;obtain⟨av,hav,hexm⟩:=F1.ask;have hma:X.mg "AskError" = some av:=W.mg_of I.mod.kin I.mod.glob hav;refine jbe I hst hfm Fe fun h1 I1 F1'=>?_;refine j1s I1 F1' fun h2 I2 F2=>?_;refine wpAny_handleBy_cons (codeAny_handlers_test (Zf (X:=X.hnd e) (Inv.toH I2) hgA hma ?_)) (by intro q;cases q);obtain⟨oe,vs,a0,T,oT,ts,hoe,hoc,_⟩:=F2.obj;refine(W.exm_one I2.kIn (hoc▸(PySem.W.Looks.ld hoe).andThen .now) hexm).here ?_;refine codeAny_handlers_suite_as (j1s (X:=X) I2 F2 fun h3 I3 F3=>?_);obtain⟨oe,vs,a0,T,oT,ts,hoe,hoc,_⟩:=F3.obj;have I4:=I3.track hoe F3.new F3.free;have g4:j0 H (upd H e (.frz oe (.own e))):=j6 F3.free;have R4:=R.grow g4;have ho:del (upd H e (.frz oe (.own e))) (owns ρ) e=some (.frz oe (.own e)):=by rw[j5 (R.fresh F3.free)];exact j9
 have hcls:W.nsIn X.K mainGlobals x=some (some oe.cls):=by rw[hoc];exact hns
 refine Rn (v:=.ref e) I4 hND hN (.inl hlo) rfl (fun s5 I5 _=>?_) hfn;have R5:Rep X.K (ρ.set j (.raw e oe x)) (σ.set j (some (.ref e))) (upd H e (.frz oe (.own e))):=R4.set_raw ho hcls;have hj:(ρ.set j (.raw e oe x))[j]?=some (.raw e oe x):=Zm (by
  have z:=(Xa.mp hN).1
  rw[←R.len,I.len];exact z)
 have suite:DSs (X.hnd e) (ρ.set j (.raw e oe x)) [.Assign [.Name k p3] (.Call (.Name f p) [.Name n p1] [] p2) p4] { nx:=fun ρ3=>∃a,ρ3=(ρ.set j (.raw e oe x)).set i (.own a l),rt:=fun _=>False } :=
  DSs.last (DS.setO i (DO.kinds (X:=X.hnd e) ⟨c.ex,c.nl⟩ hj hdp hun hg hdb hN (.inl hlo) hd hcd he hpl) (fun a=>⟨a,rfl⟩) hND hi hxk hs hfk)
 have run:=suite _ _ { nx:=fun σ6 H6=>∃a,Rep X.K ((ρ.set j (.raw e oe x)).set i (.own a l)) σ6 H6∧Fr0 (ρ.set j (.raw e oe x)) ((ρ.set j (.raw e oe x)).set i (.own a l)) (upd H e (.frz oe (.own e))) H6,rt:=fun _ _=>False,bk:=fun _ _=>False,ct:=fun _ _=>False } R5
  ⟨fun ρ' σ' H' ⟨a,er⟩ R' f=>⟨a,er▸R',er▸f⟩,fun _ _ _ z=>z.elim,fun _ _ _ z=>z.elim,fun _ _ _ z=>z.elim,fun _ _ _ _ z=>z.elim⟩ pins s5 (Inv.toH I5)
 refine wpAny_mono run (fun fl s6 h6=>?_) fun _ _ z=>z.elim;cases fl with
 |next =>obtain⟨σ6,H6,I6,a,R6,f6⟩:=h6;refine jbv (X:=X) (Inv.ofH I.ok I6) hND hN hlo fun s7 I7=>?_;refine⟨_,H6,I7,q.nx _ _ H6 (hP oe a) R6.set_un ?_⟩;refine f0.trans (j0.trans (Fr0.grow g4) (j0.trans (Fr0.drop fun b hb=>(jk rfl).subset hb) (j0.trans f6 (Fr0.drop fun b hb=>(jk rfl).subset hb))))
 |ret u=>obtain⟨_,_,_,_,_,_,_,z⟩:=h6;exact z.elim
 |brk=>obtain⟨_,_,_,z⟩:=h6;exact z.elim
 |cont=>obtain⟨_,_,_,z⟩:=h6;exact z.elim
end
end L2
end
section
namespace L2
open PySem PySem.Spec PyProof.Rows
section
variable{X:Cx}{ρ:Rho}{i j:Nat}{f n k:Str}{P:Po}{body:List Stmt}{p p1 p2 p3 p4 p5 pos hpos:Pos}
noncomputable def Po.caught(P:Po)(X:Cx)(f:Str)(i j:Nat):Po:={ P with ex:=fun x ρ'=>x∈jr∧(∃o,W.nsIn X.K mainGlobals x=some (some o))∧∃l,Kinds X f x l∧∀e oe a,P.nx (((ρ'.set j (.raw e oe x)).set i (.own a l)).set j .un) }
theorem DS.tryK(hb:∀pn xe,PassesOwn (model X.prog X.w) X.A X.env xe→DSs { X with pn:=pn,xe:=xe } ρ body (P.caught X f i j))(ha:Qt X.K=true)(hst:X.stack=X.env::X.outer)(hfm:X.env.frame=some X.env.locals)(hdp:X.A.depth+4<recursionLimit)(hun:X.A.units+150<cLine)
  (hND:X.N.Nodup) (hgA:Gl X "AskError") (hg:Gl X f) (hdb:(f==k89)=false) (hN:X.N[j]?=some n) (hlo:X.env.scope.names.lookup n=some .local) (hd:(n==k89)=false) (hcd:(n==k8a)=false)
  (hi:X.N[i]?=some k) (hxk:Loc X.env.scope k) (hfk:X.fn k=true∨X.env.scope.names.lookup k=some .local) (hfn:X.fn n=true∨X.env.scope.names.lookup n=some .local)
  (hs:swapsWith (.Call (.Name f p) [.Name n p1] [] p2) (some (.Name k p3)) p4.line X.env=pure false)
  (he:starEach [.Name n p1] X.env=(false,eval (.Name n p1) X.env)::starEach [] X.env) (hpl:(backTo p2 (starEach [] X.env)).any (·.1)=false) :
  DS X ρ (.Try body [.ExceptHandler (some (.Name "AskError" p5)) (some n) [.Assign [.Name k p3] (.Call (.Name f p) [.Name n p1] [] p2) p4] hpos] [] [] pos) P:=fun σ H E R q pins s I=>by
 refine wpAny_Try_except ?_;refine wpAny_mono (hb (X.pn++pins) (fun e s₁=>wpAny (model X.prog X.w) X.A (noteFrame e X.env) (fun _ s₂=>wpAny (model X.prog X.w) X.A (setFlight e none) (fun _ s₃ =>
   wpAny (model X.prog X.w) X.A (handleBy e X.env [.ExceptHandler (some (.Name "AskError" p5)) (some n) [.Assign [.Name k p3] (.Call (.Name f p) [.Name n p1] [] p2) p4] hpos]) (SP X pins E) X.xe s₃) X.xe s₂) X.xe s₁) PassesOwn.looking
  σ H E R ⟨q.nx,q.bk,q.ct,q.rt,fun x ρ' σ' H' hP R' f'=>?_⟩ [] s I.toPn) (fun fl s1 h1=>?_) fun _ _ z=>z
 ·obtain⟨hx,⟨o,ho⟩,l,kd,hnx⟩:=hP;intro pins' H2 s' e C I' g hm Fe;have I2:Inv X pins σ' H2 s':=Inv.ofPn I';have hm2:X.mg x=some o:=W.mg_of I2.mod.kin I2.mod.glob ho;cases(show some C=some o from(show X.mg x=some C from hm).symm.trans hm2);exact caught ha hx ho kd hst hfm hdp hun I2 (R'.grow g) ⟨fun b hb=>Fe.new b hb.toPn,Fe.free,by
   obtain⟨oe,vs,a0,z1,z2,z3,z4,z5⟩:=Fe.obj
   refine⟨oe,vs,a0,z1,z2,z3,z4,z5.imp id ?_⟩
   rintro⟨T,oT,ts,y1,y2,y3,y4,y5,y6,y7⟩
   exact⟨T,oT,ts,y1,y2,y3,y4,y5,y6,fun b hb=>y7 b hb.toPn⟩⟩ q (f'.trans (Fr0.grow g)) (fun oe a=>hnx e oe a) hND hgA hg hdb hN hlo hd hcd hi hxk hfk hfn hs he hpl
 ·cases fl with
  |next =>obtain⟨σ',H',I',z⟩:=h1;exact(j1j (X:=X)).to z pins s1 (Inv.ofPn I')
  |ret u =>obtain⟨v,σ',H',H2,I',r,x2,z⟩:=h1;exact⟨v,σ',H',H2,Inv.ofPn I',r,x2,z⟩
  |brk=>obtain⟨σ',H',I',z⟩:=h1;exact⟨σ',H',Inv.ofPn I',z⟩
  |cont=>obtain⟨σ',H',I',z⟩:=h1;exact⟨σ',H',Inv.ofPn I',z⟩
end
section
variable{P:Program}{w:World}{K:k85}{mg:k88}{base:Heap}{f:Addr}{g x pn:Str}{st:Stmt}{fd:FuncData}{N:List Str}{l:List D}
theorem jax{H:Hp}{e:Addr}{o:Obj}(tb:TabOk K H)(hN:1≤N.length)(h:H e=some (.frz o (.own e)))(hx:W.nsIn K mainGlobals x=some (some o.cls)):Rep K (.raw e o x::List.replicate (N.length-1) .un) (start N [.ref e]) H:=by
 have ho:owns (.raw e o x::List.replicate (N.length-1) .un)=[]:=by
  rw[jj];show owns _=[]
  exact List.filterMap_eq_nil_iff.mpr fun s hs=>by rw[(T5.mp hs).2];rfl
 have un:∀(i:Nat)(s:Sl),(.raw e o x::List.replicate (N.length-1) .un:Rho)[i]?=some s→(i=0∧s=.raw e o x)∨s=.un:=fun i s q=>by
  cases i with
  |zero=>rw[List.getElem?_cons_zero]at q;cases q;exact .inl ⟨rfl,rfl⟩
  |succ i=>rw[List.getElem?_cons_succ]at q;exact .inr (T5.mp (Xl q)).2
 refine⟨by unfold start;simp,fun i d q=>?_,fun i a ds q=>?_,by rw[ho];exact List.nodup_nil,fun i a o' x' q=>?_,tb⟩
 ·rcases un i _ q with ⟨_,z⟩|z<;>cases z
 ·rcases un i _ q with ⟨_,z⟩|z<;>cases z
 ·rcases un i _ q with ⟨z,z2⟩|z
  ·cases z2;subst z;exact⟨rfl,by rw[ho,vy];exact h,hx⟩
  ·cases z
theorem kinds_of(F:Fun K g g st f fd)(Sc:FnScope N [pn] (j7 st))(hbd:Binds K fd [pn] [])(hm:mg g=some (.ref f))(hN:1≤N.length)(hnl:zg l=true)
  (hbody:∀(cdv:Value)(A:Around)(outer:List Env)(s:Shared)(H:Hp)(e:Addr)(o:Obj),A.depth+4<recursionLimit→A.units+150<cLine →
   DSs { (zj CX0 P w K mg base N g (j7 st) f cdv A outer s H E0).nox with calm:=false } (.raw e o x::List.replicate (N.length-1) .un) (jl st) { nx:=fun _=>False,rt:=fun r=>r=.fresh l }):KindsP P w K mg base g x l:=by
 refine⟨⟨f,hm,F.kp,fun A outer s H e o hdp hun e0 tb he hx=>?_⟩,hnl⟩;obtain⟨oc,od,dV,kV,doc,pm,an,cdv,ct,osl,rfl,lk,hcd⟩:=F.ex;have KX:K.In s.heap:=e0.mod.kin.keeps fun b o e=>(e0.bs b o e).1;have lim:s.heap.NoLimit:=e0.mod.nolimit.keeps fun b o e=>(e0.bs b o e).1;have hb:=hbd s [.ref e] KX rfl;have hkind:∀y∈[pn].zip [Value.ref e],(j7 st).names.lookup y.1=some .local∨((j7 st).names.lookup y.1=some .cell∧((cellsFrom (s.heap.objs.size+1) (j7 st).names []).lookup y.1).isSome=true):=fun⟨n,v⟩ hy=>by
  rcases Sc.par n (List.of_mem_zip hy).1 with q|q
  ·exact .inl q
  ·exact .inr ⟨q,W.cellsFrom_some _ _ _ (.inl q)⟩
 refine codeAny_call_function (by omega) (KX _ _ lk) rfl Sc.co Sc.gen rfl (W.codeRec_of KX hcd) (hb _ _ _ _ ?_);refine wpAny_newFunctionEnv_cells Sc.kind hkind fun env henv s1 x1=>?_;subst henv;refine⟨lim.keeps x1.toInCall.keep,codeAny_func ?_⟩;have I:Inv { zj CX0 P w K mg base N g (j7 st) f cdv A outer s H E0 with calm:=false } [] (start N [.ref e]) H s1:=Cv Sc false (fun z=>by cases z) e0 rfl (.cons rfl .nil) x1;have I':Inv { (zj CX0 P w K mg base N g (j7 st) f cdv A outer s H E0).nox with calm:=false } [] (start N [.ref e]) H s1 :=
  ⟨⟨I.ok.mod,I.ok.kind,I.ok.glob,I.ok.blt,I.ok.above,I.ok.inj,I.ok.has,I.ok.cab,I.ok.hd,I.ok.frames,I.ok.stk,I.ok.exf,I.ok.bs,I.ok.bsz,I.ok.noex,I.ok.exfs,I.ok.funs,I.ok.frf⟩,
   I.os,I.bare,I.base,I.loc,I.cell,I.free,I.freeC,I.pin,I.hok,I.len⟩
 have ho:owns (.raw e o x::List.replicate (N.length-1) .un)=[]:=by
  rw[jj];show owns _=[]
  exact List.filterMap_eq_nil_iff.mpr fun s hs=>by rw[(T5.mp hs).2];rfl
 have run:=hbody cdv A outer s H e o hdp hun (start N [.ref e]) H { nx:=fun _ _=>False,bk:=fun _ _=>False,ct:=fun _ _=>False,rt:=fun v H'=>∃a xs,v=.ref a∧j0 H H'∧H a=none∧H' a=some (.lst xs)∧j4 K (del H' [a]) l xs } (jax tb hN he hx)
  ⟨fun _ _ _ z=>z.elim,fun _ _ _ z=>z.elim,fun _ _ _ z=>z.elim,(fun r v H' n z=>by
   cases(show r=.fresh l from n)
   obtain⟨a,xs,e,g,m,en⟩:=z
   rw[ho,vy]at g
   refine⟨a,xs,e,g.trans jm,?_,m,en⟩
   cases y:H a with
   |none=>rfl
   |some o=>have:=g a o y;rw[q8 (xu.mpr rfl)]at this;cases this),fun _ _ _ _ z=>z.elim⟩ [] s1 I'
 refine wpAny_mono run (fun fl s' hs=>?_) fun _ _ z=>z.elim;cases fl with
 |ret u =>obtain⟨v,σ',H',H2,J,rv,x,q⟩:=hs;exact⟨v,H2,J.os,J.bare,(J.extOut x).2 rfl,(J.extOut x).1,rv,q⟩
 |next=>obtain⟨_,_,_,q⟩:=hs;exact q.elim
 |brk=>obtain⟨_,_,_,q⟩:=hs;exact q.elim
 |cont=>obtain⟨_,_,_,q⟩:=hs;exact q.elim
end
end L2
end
section
namespace L2
open PySem PySem.Spec PyProof.Rows
section
variable{X:Cx}
def jil:V→Option Int→Option Int→Hp→VK→Prop:=fun x lo hi H Q=>∃z,x=.str z∧z.length≤sizeLine∧Q (.str (Txt.slice z lo hi)) H
theorem part_of{v:Value}{o:Option Int}(h:IsPart v o):∃l:Option (Int×Tok),v=partValue l∧l.map (·.1)=o:=by
 cases h with
 |none=>exact⟨none,rfl,rfl⟩
 |int i t=>exact⟨some (i,t),rfl,rfl⟩
theorem jd2:SlR X jil:=by intro pins s σ H x v vl vu lo hi sl Q I rx hs pl pu h;obtain⟨z,ex,hz,q⟩:=h;subst ex;obtain⟨t,ev⟩:=rx;subst ev;obtain⟨l,el,ml⟩:=part_of pl;obtain⟨u,eu,mu⟩:=part_of pu;subst el eu ml mu;obtain⟨o,h1,h2,h3⟩:=hs;refine⟨"str",_,PySem.F.slot_str_getitem.lookup,typeIs_str s z t,wpAny_getItem_str_slice (l:=l) (u:=u) (st:=none) ⟨o,h1,h2,h3⟩ rfl ?_⟩;exact post_val_or_str ⟨Xm (Txt.slice_le z _ _) hz,fun t' k=>⟨.str _,H,I.tok k,⟨_,rfl⟩,q⟩⟩
theorem j1g:∀{ts:List Str}{us:List Value},Vals (ts.map V.str) us→∃l:List (Str×Tok),us=strValues l∧l.map (·.1)=ts
 |[],_,r=>by cases r;exact⟨[],rfl,rfl⟩
 |t::ts,_,r=>by
  cases r with
  |cons a b =>obtain⟨k,e⟩:=a;obtain⟨l,e1,e2⟩:=j1g b;subst e e1 e2;exact⟨(t,k)::l,rfl,rfl⟩
theorem jbf:MtR X "str.join" (fun x vs H Q=>∃(sep:Str)(l:Addr)(ts:List Str),x=.str sep∧vs=[.ref l]∧SqL X.K H l (ts.map V.str)∧JoinOk sep ts=true∧Q (.str (Txt.join sep ts)) H):=by rintro pins s σ H x vs v us Q I rx rv ⟨sep,l,ts,e,e',sq,hok,q⟩;subst e e';obtain⟨t,ev⟩:=rx;subst ev;obtain⟨u,eu,ru⟩:=rv.one;subst eu;cases ru;obtain⟨its,ri,pl,_⟩:=I.list sq;obtain⟨ps,e1,e2⟩:=j1g ri;subst e1 e2;unfold JoinOk at hok;rw[Bool.not_eq_true']at hok;exact call_meets F.slot_str_join (typeIs_str _ _ _) F.entry_str_join (F.args_str_join_2 _ _) (meets_str_join_list sep t l ps hok) ⟨pl.isList,post_join ps ⟨joinFit_length hok,fun t' k=>⟨.str _,H,I.tok k,⟨_,rfl⟩,q⟩⟩⟩
theorem j69 (hc:X.calm=true):Jj X (.builtin "sum") (fun xs H Q=>∃(lst:Bool)(l:Addr)(ns:List Int),xs=[.ref l]∧SqB X.K lst H l (ns.map V.int)∧Q (.int ns.sum) H):=by
 rintro pins s σ H xs us Q I r ⟨lst,l,ns,e,sq,q⟩;subst e;obtain⟨u,eu,ru⟩:=vals1 r;subst eu;cases ru;obtain⟨its,rv,pl,_⟩:=I.side sq;have hl:its.length=ns.length:=by rw[←rv.length,km]
 have val:∀i v,its.toArray[i]?=some v→∃t,v=Value.int (ns.getD i 0) t:=by
  intro i v hv;have hi:i<its.length:=by obtain⟨h,_⟩:=Array.getElem?_eq_some_iff.mp hv;simpa using h
  have hi':i<ns.length:=by omega
  obtain⟨w1,hw,rw1⟩:=rv.get (x:=.int (ns.getD i 0)) (i:=i) (by rw[X7,kh hi',xf,kh hi'];rfl);have:its.toArray[i]?=some w1:=by simpa using hw
  rw[this]at hv;cases hv;exact rw1
 have tot:preSum (fun i=>ns.getD i 0) its.toArray.size=ns.sum:=by rw[preSum_getD,T3 (by rw[X3];omega)]
 have fin:∀(o:Obj)(s':Shared)(t':Tok),Moved [s.heap.objs.size] (fun a b=>b=a) { s with heap:=s.heap.push o } s'→EP X pins σ Q (.int (preSum (fun i=>ns.getD i 0) its.toArray.size) t') s':=fun o s' t' mv=>by obtain⟨hh,gg,dd,tt,oo⟩:=s';obtain⟨m1,m2,m3,m4,m5⟩:=mv;cases m2;cases m3;cases m4;rw[tot];refine⟨.int _,H,I.kept (t':=tt) fun b o e=>m1 b o ?_ (xj _ e),⟨_,rfl⟩,q⟩;intro z;rw[xu.mp z]at e;exact Xv _ (xn e)
 unfold qg at pl;cases lst with
 |true =>
  rw[if_pos rfl]at pl;have hlt:l<s.heap.objs.size:=by obtain⟨_,e,_⟩:=pl;exact xn e
  refine call_sum_walkAnyS (wpAny_pyIter_list pl ⟨s.heap.objs.size,[s.heap.objs.size,l],[s.heap.objs.size],_,its.toArray.size,_,_,fun i=>ns.getD i 0,rfl,(Walks.list (A:=X.A.in1) (I.ok.hd hc) _ _ (X8 hlt) its.toArray).toS,⟨⟨_,X5 _ rfl,rfl,rfl⟩,pl.push _⟩,?_,val,fun s' t' mv=>fin _ s' t' mv⟩);intro b hb;show b<(s.heap.push _).objs.size;rw[Heap.size_push];rcases xm.mp hb with z|z
  ·rw[z];exact Nat.lt_succ_self _
  ·rw[xu.mp z];exact Nat.lt_succ_of_lt hlt
 |false =>
  rw[if_neg xg]at pl;have hlt:l<s.heap.objs.size:=by obtain⟨_,e,_⟩:=pl;exact xn e
  refine call_sum_walkAnyS (wpAny_pyIter_tuple pl ⟨s.heap.objs.size,[s.heap.objs.size,l],[s.heap.objs.size],_,its.toArray.size,_,_,fun i=>ns.getD i 0,rfl,(Walks.tuple (A:=X.A.in1) (I.ok.hd hc) _ _ (X8 hlt) its.toArray).toS,⟨⟨_,X5 _ rfl,rfl,rfl⟩,pl.push _⟩,?_,val,fun s' t' mv=>fin _ s' t' mv⟩);intro b hb;show b<(s.heap.push _).objs.size;rw[Heap.size_push];rcases xm.mp hb with z|z
  ·rw[z];exact Nat.lt_succ_self _
  ·rw[xu.mp z];exact Nat.lt_succ_of_lt hlt
end
section
variable{X:Cx}{ρ:Rho}{a b e:Expr}{ds:List D}{i j:Int}{pos p p1 p2:Pos}{y z:Str}{lo hi:Option Expr}{l u:Option Int}
theorem Cz{K:k85}{H:Hp}:∀{ts:List Str}{xs:List V},j4 K H (ts.map D.str) xs→xs=ts.map V.str
 |[],_,h=>h
 |t::ts,_,⟨x,r,e,h,l⟩=>by subst e;cases(show x=.str t from h);rw[Cz l];rfl
theorem v8{K:k85}{H:Hp}:∀{ts:List Int}{xs:List V},j4 K H (ts.map D.int) xs→xs=ts.map V.int
 |[],_,h=>h
 |t::ts,_,⟨x,r,e,h,l⟩=>by subst e;cases(show x=.int t from h);rw[v8 l];rfl
theorem DE.lenS (ha:DT X ρ a (.str y)) (hy:y.length≤sizeLine) (hm:X.mg "len" = none) (hg:Gl X "len") (hs:starEach [a] X.env=[(false,eval a X.env)]):DE X ρ (.Call (.Name "len" p) [a] [] pos) (.int y.length):=fun σ H Q R q =>(zx j0d hg hm PySem.boot_len (jd peS jw hs) (by decide) (by decide) hs).to (ha σ H _ R fun v H1 g1 e1=>⟨y,by rw[show v=.str y from e1],hy,q _ H1 g1 rfl⟩)
theorem DE.catS(ha:DT X ρ a (.str y))(hb:DT X ρ b (.str z))(hl:y.length+z.length≤sizeLine):DE X ρ (.BinOp a .Add b pos) (.str (y++z)):=fun σ H Q R q =>(Ui j2z peS peS).to (ha σ H _ R fun v H1 g1 e1=>hb σ H1 _ (R.grow g1) fun u H2 g2 e2=>⟨y,z,e1,e2,hl,q _ H2 (g1.trans g2) rfl⟩)
theorem DE.ixC{c:Nat}(ha:DT X ρ a (.str y))(hb:DT X ρ b (.int i))(hy:y.length≤sizeLine)(h:L2.atI y.cps.toList i=some c)(hs:Yr b):DE X ρ (.Subscript a b pos) (.str ⟨#[c]⟩):=fun σ H Q R q =>(N8 jeu peS peS hs).to (ha σ H _ R fun v H1 g1 e1=>hb σ H1 _ (R.grow g1) fun u H2 g2 e2=>⟨y,i,c,e1,e2,hy,h,q _ H2 (g1.trans g2) rfl⟩)
theorem DE.sliceS(ha:DT X ρ a (.str y))(hl:DP X ρ lo l)(hu:DP X ρ hi u)(hy:y.length≤sizeLine):DE X ρ (.Subscript a (.Slice lo hi none p2) pos) (.str (Txt.slice y l u)):=fun σ H Q R q =>(Ot jd2 peS poS poS).to (ha σ H _ R fun v H1 g1 e1=>hl σ H1 _ (R.grow g1) fun H2 g2=>hu σ H2 _ (R.grow (g1.trans g2)) fun H3 g3=>⟨y,e1,hy,q _ H3 (g1.trans (g2.trans g3)) rfl⟩)
theorem DE.int1 {k:Bool} (ha:DT X ρ a (.bl k)) (hm:X.mg "int" = none) (hg:Gl X "int") (hs:starEach [a] X.env=[(false,eval a X.env)]):DE X ρ (.Call (.Name "int" p) [a] [] pos) (.int (if k then 1 else 0)):=fun σ H Q R q =>(Rx j6f hg hm boot_int (jd peS jw hs) (by decide) (by decide) hs).to (ha σ H _ R fun v H1 g1 e1=>.inr ⟨k,by rw[show v=.bl k from e1],q _ H1 g1 rfl⟩)
theorem DE.sum (lst:Bool) {ns:List Int} (ha:DT X ρ a (D.seq lst (ns.map D.int))) (hm:X.mg "sum" = none) (hc:X.calm=true) (hg:Gl X "sum") (hs:starEach [a] X.env=[(false,eval a X.env)]):DE X ρ (.Call (.Name "sum" p) [a] [] pos) (.int ns.sum):=fun σ H Q R q =>
 (zx (j69 hc) hg hm boot_sum (jd peS jw hs) (by decide) (by decide) hs).to (ha σ H _ R fun v H1 g1 e1=>by
  obtain⟨t,xs,ev,sq,en⟩:=Vh e1
  subst ev
  rw[v8 en]at sq
  exact⟨lst,t,ns,rfl,sq,q _ H1 g1 rfl⟩)
theorem DE.join{sep:Str}{ts:List Str}{n:Nat}{p0:Pos}(ha:DT X ρ a (.lst (ts.map D.str)))(hok:JoinOk sep ts=true)
  (hfew:((backTo p2 (starEach [a] X.env)).all (fun x=>!x.1)&&(backToKw p2 (keywordEach [] X.env)).all (fun x=>x.1.isSome)&&decide (([a]:List Expr).length+([]:List Keyword).length+(if ([]:List Keyword).isEmpty then 0 else 1)<30))=true)
  (hbase:attributeBase (.Constant (.str sep) n p0) "join" X.env (eval (.Constant (.str sep) n p0) X.env)=eval (.Constant (.str sep) n p0) X.env)
  (hline:(p1.endLine==p2.line)=true) (hs:starEach [a] X.env=(false,eval a X.env)::starEach [] X.env):DE X ρ (.Call (.Attribute (.Constant (.str sep) n p0) "join" p1) [a] [] p2) (.str (Txt.join sep ts)):=fun σ H Q R q =>
 (Nb PySem.F.plainAttrs_str PySem.F.slot_str_join PySem.F.type_str_join jbf j4z (jd peS jw hs) hbase hfew hline hs rfl).to ⟨rfl,ha σ H _ R fun v H1 g1 ⟨t,xs,e,sq,en⟩=>⟨sep,t,ts,rfl,by rw[e],by rw[Cz en]at sq;exact sq,hok,q _ H1 g1 rfl⟩⟩
end
section
variable{prog:Program}{w:World}{A:Around}{lst:Bool}{j t:Addr}{its:Array Value}
theorem j3l(hh:A.handled=none)(hne:t≠j):Draws prog w A j [j,t] its.size (fun i v=>its[i]?=some v) (fun i h=>qt lst h j t i∧qg lst h t its) where
 live:=fun _ _ st=>by obtain⟨o,e,_⟩:=st.1.obj;exact⟨o,e⟩
 frame:=fun _ h h' st hk=>⟨st.1.stay fun o e=>hk j (by simp) o e,by
  have q:=st.2
  unfold qg at q ⊢
  cases lst with
  |true=>rw[if_pos rfl]at q ⊢;exact q.at fun o e=>hk t (by simp) o e
  |false=>rw[if_neg xg]at q ⊢;exact q.at fun o e=>hk t (by simp) o e⟩
 item:=fun i s Q E hi st hQ=>j4f st.1 st.2 (y:=its[i]) (by simp[hi]) fun h' hit' hs'=>hQ _ h' s.toks (by simp[hi]) ⟨hit',st.2.ext hs'.extBut hne⟩ hs'
 done:=fun s Q E st hE=>Kz hh st.1 st.2 (by simp) hE
theorem j5r{n:Nat}(hh:A.handled=none)(hne:t≠j)(hn:its[n]?=none):Draws prog w A j [j,t] n (fun i v=>its[i]?=some v) (fun i h=>i=n∧qt lst h j t i∧qg lst h t its) where
 live:=fun _ _ st=>by obtain⟨o,e,_⟩:=st.2.1.obj;exact⟨o,e⟩
 frame:=fun _ h h' st hk=>⟨st.1,st.2.1.stay fun o e=>hk j (by simp) o e,by
  have q:=st.2.2
  unfold qg at q ⊢
  cases lst with
  |true=>rw[if_pos rfl]at q ⊢;exact q.at fun o e=>hk t (by simp) o e
  |false=>rw[if_neg xg]at q ⊢;exact q.at fun o e=>hk t (by simp) o e⟩
 item:=fun i s Q E hi st hQ=>absurd st.1 (X8 hi)
 done:=fun s Q E st hE=>Kz hh st.2.1 st.2.2 hn hE
end
noncomputable abbrev eh2(h:Heap)(lst:Bool)(t:Addr):Heap:=(zh1 h lst t).push { cls:=.type "enumerate",data:=.fields #[.none,.bool false,.ref h.objs.size,rawInt 0,.none,.none] }
theorem j8i {lst:Bool} (t:Addr) (its:Array Value):Meets (Builtin.«enumerate.__new__» ⟨[.type "enumerate",.ref t],[]⟩) (fun _ R s=>qg lst s.heap t its∧R (.ok (.ret (.ref (zh1 s.heap lst t).objs.size))) { s with heap:=eh2 s.heap lst t }) :=
 .of_wp fun prog w A R s h=>by
  obtain⟨hp,g,d,tk,os⟩:=s;obtain⟨h1,h⟩:=h;have hsub:=sub_enumerate;have e1:qg lst (Shared.heap ⟨hp,g,d,tk,os⟩) t its:=h1;have ld:∃o:Obj,hp.get? t=some o:=by
   unfold qg at e1;cases lst with
   |true=>rw[if_pos rfl]at e1;obtain⟨o,e,_⟩:=e1;exact⟨o,e⟩
   |false=>rw[if_neg xg]at e1;obtain⟨o,e,_⟩:=e1;exact⟨o,e⟩
  obtain⟨o,ho⟩:=ld
  wp_walk using AutoSeq1.wpAny_loadPart' ho
  refine wpAny_stack_any fun stk=>?_;refine wpAny_pure ?_;split
  ·rename_i cl _ _ _ _ _;cases(cl==Value.type "enumerate")
   ·wp_walk using AutoSeq1.wpAny_loadPart' ho,M3 e1
    exact⟨_,rfl,h⟩
   ·wp_walk using AutoSeq1.wpAny_loadPart' ho,M3 e1
    exact⟨_,rfl,h⟩
  ·wp_walk using AutoSeq1.wpAny_loadPart' ho,M3 e1
   exact⟨_,rfl,h⟩
noncomputable def Ite(K:k85)(lst:Bool)(t:Addr):It :=
 ⟨fun i H=>∃xs x,SqB K lst H t xs∧xs[i]?=some x,
 fun i H v H'=>∃p x,v=.ref p∧H p=none∧H'=upd H p (.tup [.int (i:Int),x])∧∀xs,SqB K lst H t xs→xs[i]?=some x,
 fun i H=>∃xs,SqB K lst H t xs∧xs.length≤i⟩
theorem j44{P:Program}{w:World}{K:k85}{es:List Expr}{n:Nat}{pos:Pos}{lst:Bool}{z j t:Addr}(hzj:z≠j)(hzt:z≠t)(htj:t≠j) :
  Turn P w K (.Tuple es n pos) (Ite K lst t) [z,j] z (fun i h=>(∃old,IsEnum h z j (i:Nat) old)∧qt lst h j t i) where
 mem:=by simp
 obj:=fun i h ⟨⟨old,hz⟩,h1⟩ c hc=>by
  simp at hc;rcases hc with rfl|rfl
  ·exact⟨_,hz,fun v e=>by cases e⟩
  ·exact h1.obj
 keep:=fun i h h' ⟨⟨old,hz⟩,h1⟩ k=>⟨⟨old,k z (by simp) _ hz⟩,h1.stay fun o e=>k j (by simp) o e⟩
 item:=by
  rintro X hP hw hK hc i pins s σ H E I hf ⟨⟨old,hz⟩,h1⟩ ⟨xs,x,sx,hx⟩;subst hP hw hK;obtain⟨us,ru,qu,_⟩:=I.side sx;obtain⟨u,hu,rx⟩:=ru.get hx;have hlt:i<us.toArray.size:=by obtain⟨h,_⟩:=Xa.mp hu;simpa using h
  refine wpAny_pyNext_enum_itemD (j3l (A:=X.A.in1) (I.ok.hd hc) htj) hz ⟨h1,qu⟩ hlt hzj (by simp[hzj,hzt]) fun v h' tk hv ho st ht sz kp=>⟨_,rfl,?_⟩
  have ev:u=v:=by
   have:us.toArray[i]?=some u:=by simpa using hu
   rw[this]at hv;exact Option.some.inj hv
  subst ev;refine wpAny_letOwnedTupleGo_enum (s:={ s with heap:=h',toks:=tk+1 }) ho fun h'' z'' sb=>?_
  replace sb:Heap.SameBut z h' h'':=sb
  have zlt:z<s.heap.objs.size:=xn hz;have kp':∀c o,c∉[z,j]→s.heap.get? c=some o→h''.get? c=some o:=fun c o nc e=>by simp at nc;exact sb.extBut _ _ nc.1 (kp c o nc.1 nc.2 e)
  have pt:IsTup h'' s.heap.objs.size [.int i tk,u].toArray:=⟨_,sb.extBut _ _ (tu zlt) ht,rfl,_,rfl⟩
  have I2:=(I.chgT hf kp' (xs:=[.int (i:Int),x]) (.cons ⟨tk,rfl⟩ (.cons rx .nil)) (by show 2≤sizeLine;decide) pt (V7.of (sb.extBut _ _ (tu zlt) ht))).tok (tk+1);refine⟨.ref s.heap.objs.size,_,I2,rfl,⟨_,x,rfl,I.fresh,rfl,fun ws hw=>by rw[I.side_inj hw sx];exact hx⟩,⟨⟨u,?_⟩,st.1.ext sb.extBut (Ne.symm hzj)⟩,fun c hc=>?_⟩
  ·have e:((i+1:Nat):Int)=(i:Int)+1:=by push_cast;rfl
   rw[e];exact z''
  ·obtain⟨o,e⟩:∃o,s.heap.get? c=some o:=by
    simp at hc;rcases hc with rfl|rfl
    ·exact⟨_,hz⟩
    ·obtain⟨o,e,_⟩:=h1.obj;exact⟨o,e⟩
   rw[jb (X8 (xn e))];exact(hf c hc).1
 done:=by
  rintro X hP hw hK hc i pins s σ H E I hf ⟨⟨old,hz⟩,h1⟩ ⟨xs,sx,hend⟩;subst hP hw hK;obtain⟨us,ru,qu,_⟩:=I.side sx;have e1:=ru.length;have hn:us.toArray[i]?=none:=by simp;omega
  refine wpAny_pyNext_enum_endD (j5r (A:=X.A.in1) (I.ok.hd hc) htj hn) hz ⟨rfl,h1,qu⟩ fun h' kp=>⟨rfl,I.chg hf fun c o nc e=>?_⟩
  simp at nc;exact kp c o nc.2 e
 self:=fun _ _ _ _ _ ⟨⟨old,hz⟩,_⟩ h=>wpAny_pyIter_enum hz h
section
variable{X:Cx}{ρ:Rho}{a b:Expr}{es:List Expr}{n:Nat}{pos p q1 q2:Pos}{ds ds':List D}{lst:Bool}
noncomputable def Jf(ds:List D):List D:=ds.zipIdx.map fun p=>D.tup [.int (p.2:Int),p.1]
theorem Cy{i:Nat}:(Jf ds)[i]?=(ds[i]?).map fun d=>D.tup [.int (i:Int),d]:=by unfold Jf;rw[X7,List.getElem?_zipIdx];cases ds[i]?<;>simp
theorem j5f{K:k85}{F:Hp}{t:Addr}{xs:List V}(s1:SqB K lst F t xs)(e1:j4 K F ds xs):Ua K F (Ite K lst t) (Jf ds):=fun i H A g hA=>by
 have s1':SqB K lst H t xs:=jm.seqB (g.seqB s1);have hl:(Jf ds).length=ds.length:=by unfold Jf;rw[km,List.length_zipIdx]
 refine⟨fun h=>?_,fun h=>⟨xs,s1',?_⟩,fun v H' ⟨p,x,ev,np,eH,hx⟩=>?_⟩
 ·rw[hl]at h;obtain⟨x,hx,_⟩:=e1.get (kh h);exact⟨xs,x,s1',hx⟩
 ·rw[hl]at h;rw[e1.length];exact h
 ·subst eH;refine⟨j6 np,fun d hd=>?_⟩;rw[Cy]at hd;cases z:ds[i]? with
  |none=>rw[z]at hd;cases hd
  |some d1 =>rw[z]at hd;cases hd;obtain⟨x',hx',ex⟩:=e1.get z;have q1:=hx xs s1';rw[hx']at q1;have q1:=Option.some.inj q1;subst q1;have pA:p∉A:=fun z=>hA p z np;have gg:j0 F (del (upd H p (.tup [.int (i:Int),x'])) A):=g.trans (je (j6 np));exact⟨p,[.int (i:Int),x'],ev,.inl (.inl (by rw[j5 pA];exact j9)),.int (i:Int),[x'],rfl,rfl,x',[],rfl,ex.mono gg,rfl⟩
theorem DI.enum (lst:Bool) (ha:DE X ρ a (D.seq lst ds)) (hm:X.mg "enumerate" = none) (hg:Gl X "enumerate") (hs:starEach [a] X.env=[(false,eval a X.env)]):DI X ρ (.Tuple es n q1) (.Call (.Name "enumerate" p) [a] [] pos) (Jf ds):=fun σ H R r q pins s I=>by
 have args:Ol X [a] σ H (fun vs H'=>∃v,vs=[v]∧j0 H H'∧Enc X.K (del H' (owns ρ)) (D.seq lst ds) v) :=
  (jd peS jw hs).to (ha σ H _ r fun v H1 g1 e1=>⟨v,rfl,g1,e1⟩)
 refine Call_ (Vv I hg hm boot_enumerate (callWith_type1 (thn (args pos pins s I) fun us s1 h1=>?_) hs rfl));obtain⟨vs,H1,I1,r1,v,ev,g1,e1⟩:=h1;subst ev;obtain⟨t,xs,et,sq,en⟩:=Vh e1;subst et;obtain⟨u1,eu,ru1⟩:=r1.one;subst eu;cases ru1;obtain⟨w1,rw1,qw1,_⟩:=I1.side (jm.seqB sq);refine callType_new F.called_enumerate (by decide) (F.typeCall_enumerate_1 _) (F.newCall_enumerate_1 _) (fun obj=>F.args_object_init_2 obj _) F.entry_enumerate_new (j8i (lst:=lst) t w1.toArray) ⟨qw1,?_⟩;have z1:(zh1 s1.heap lst t).objs.size=s1.heap.objs.size+1:=Heap.size_push ..;have b2:(eh2 s1.heap lst t).get? (zh1 s1.heap lst t).objs.size=some _:=X5 _ rfl;have b1:(eh2 s1.heap lst t).get? s1.heap.objs.size=some _:=xj _ (X5 _ rfl);have kp:∀c o,s1.heap.get? c=some o→(eh2 s1.heap lst t).get? c=some o:=fun c o e=>xj _ (xj _ e);show _∧_;rw[z1]at b2 ⊢;have I2:Inv X pins σ H1 { s1 with heap:=eh2 s1.heap lst t }:=I1.kept (t':=s1.toks) kp;have lt1:t<s1.heap.objs.size:=by
  unfold qg at qw1;cases lst with
  |true=>rw[if_pos rfl]at qw1;obtain⟨_,e,_⟩:=qw1;exact xn e
  |false=>rw[if_neg xg]at qw1;obtain⟨_,e,_⟩:=qw1;exact xn e
 have side:qt lst (eh2 s1.heap lst t) s1.heap.objs.size t 0:=by
  unfold qt;cases lst with
  |true=>rw[if_pos rfl];exact⟨_,b1,rfl,rfl⟩
  |false=>rw[if_neg xg];exact⟨_,b1,rfl,rfl⟩
 refine⟨⟨_,b2,rfl⟩,wpAny_pyIter_enum (s:={ s1 with heap:=eh2 s1.heap lst t }) b2 ?_⟩;refine⟨_,_,_,Ite X.K lst t,H1,rfl,I2,j44 (j:=s1.heap.objs.size) (Nat.succ_ne_self _) (tu (Nat.lt_succ_of_lt lt1)) (X8 lt1),⟨⟨_,b2⟩,side⟩,fun c hc=>?_,q _ H1 g1 (j5f sq en)⟩;have hc':c=s1.heap.objs.size+1∨c=s1.heap.objs.size:=by simpa using hc
 have hge:s1.heap.objs.size≤c:=by rcases hc' with e|e<;>rw[e]<;>first|exact xx _|exact Nat.le_add_right _ _
 obtain⟨f0,f1,f2,f3,f4,f5⟩:=I1.fpOk hge (I1.hok.fresh hge);exact⟨f0,f1,f2,f3,f4,f5⟩
end
section
variable{X:Cx}
theorem j7k:OpR X (binaryOp .FloorDiv) (rI (fun _ j=>0<j∧j<18446744073709551616) fun i j=>.int (i/j)):=opI fun i j _ _ _ _ _ hc q=>by
 have e:i/j=i.fdiv j:=by rw[Int.fdiv_eq_ediv_of_nonneg _ (by omega)]
 refine floordiv_int (by omega) (by rw[←e];exact q) (.inl (PyProof.noPylong_of_log2 ?_));have h2:(2:Nat)^64=18446744073709551616:=by decide
 have:=(Nat.log2_lt (n:=j.natAbs) (k:=64) (by omega)).mpr (by rw[h2];omega);omega
theorem j59 (hu:X.A.units+100<cLine):MtR X "list.count" (fun x vs H Q=>∃t xs ds d y,x=.ref t∧vs=[y]∧SqL X.K H t xs∧j4 X.K H ds xs∧Enc X.K H d y∧D.depL ds≤97∧d.dep<10000∧Q (.int (ds.countP fun e=>deq e d)) H):=by
 rintro pins s σ H x vs v us Q I rx rv ⟨t,xs,ds,d,y,e,e',sq,l,en,hd,nd,q⟩;subst e e';cases rx;obtain⟨u,eu,ru⟩:=rv.one;subst eu;obtain⟨its,ri,⟨⟨cl,dd,da,sl⟩,n,h1,h2,h4,h3⟩,_⟩:=I.list sq;have h2:cl=.type "list":=h2;have h3:da=.seq its.toArray n:=h3;subst h2 h3;refine call_meets F.slot_list_count ⟨_,h1,rfl⟩ F.entry_list_count (F.args_list_count_2 _ _) (SeqAt.list_countAt t its.toArray n dd sl u (eqW X H d)) ⟨h1,fun y hy=>W6 (n:=97) I en ru nd (by show X.A.units+1+97<cLine;omega) hd l ri y (by simpa using hy),?_⟩;have ev:(its.toArray.toList.countP (eqW X H d):Nat)=ds.countP fun e=>deq e d:=by rw[List.toList_toArray];exact Ww I (by omega) l ri
 rw[ev];exact⟨.int _,H,I.tok _,⟨_,rfl⟩,q⟩
end
section
variable{X:Cx}{ρ:Rho}{a b e:Expr}{d d':D}{ds:List D}{i j:Int}{pos p p1 p2:Pos}{P:Po}
theorem DE.fdivB(ha:DT X ρ a (.int i))(hb:DT X ρ b (.int j))(h:0<j∧j<18446744073709551616):DE X ρ (.BinOp a .FloorDiv b pos) (.int (i/j)):=DE.arI (g:=fun i j=>i/j) j7k ha hb h
theorem DE.countL (hu:X.A.units+100<cLine) (ha:DT X ρ a (.lst ds)) (hb:DT X ρ b d) (hd:D.depL ds≤97) (nd:d.dep<10000) (hbase:attributeBase a "count" X.env (eval a X.env)=eval a X.env)
  (hfew:((backTo p2 (starEach [b] X.env)).all (fun x=>!x.1)&&(backToKw p2 (keywordEach [] X.env)).all (fun x=>x.1.isSome)
   && decide (([b]:List Expr).length+([]:List Keyword).length+(if ([]:List Keyword).isEmpty then 0 else 1)<30))=true) (hline:(p1.endLine==p2.line)=true)
  (hs:starEach [b] X.env=(false,eval b X.env)::starEach [] X.env):DE X ρ (.Call (.Attribute a "count" p1) [b] [] p2) (.int (ds.countP fun e=>deq e d)):=fun σ H Q R q =>
 (Nb PySem.F.plainAttrs_list PySem.F.slot_list_count PySem.F.type_list_count (j59 hu) peS (jd peS jw hs) hbase hfew hline hs rfl).to (ha σ H _ R fun v H1 g1 ⟨t,xs,e,sq,l⟩=>⟨by rw[e];exact .inl ⟨rfl,xs,sq⟩,hb σ H1 _ (R.grow g1) fun u H2 g2 e2 =>
  ⟨t,xs,ds,d,u,e,rfl,g2.seq sq,l.mono g2,e2,hd,nd,q _ H2 (g1.trans g2) rfl⟩⟩)
end
end L2
end
section
namespace L2
open PySem PySem.Spec PyProof.Rows
noncomputable def ddS(acc:List Str)(v:Str):List Str:=if acc.any (· == v)=true then acc else acc++[v]
noncomputable def dd(ts:List Str):List Str:=ts.foldl ddS []
section
variable{P:Program}{w:World}{A:Around}{I S:Addr}{fp wr:List Addr}{Gn:Array GenState→Array GenState→Prop}{Pv:Nat→Value→Prop}{St:Nat→Shared→Prop}{ts:List Str}
end
section
variable{P:Program}{w:World}{A:Around}{E:k86}{s:Shared}
end
section
variable{X:Cx}{ρ:Rho}{a:Expr}{p p1 p2 pos:Pos}
end
end L2
end
section
namespace L2
open PySem PySem.Spec PyProof.Rows
section
variable{prog:Program}{w:World}{A:Around}{E:k86}{s:Shared}{d it vw:Addr}{od:Obj}{es:Array DictEntry}{ep i:Nat}{ok ov:Value}
end
noncomputable def j5g(ks:List (List Int))(ds:List D):List D:=(ks.zip ds).map fun p=>D.tup [.tup (p.1.map D.int),p.2]
section
variable{X:Cx}{ρ:Rho}{a b:Expr}{es:List Expr}{n:Nat}{pos p p1 p2 q1:Pos}{ks:List (List Int)}{ds:List D}{k:List Int}
theorem Et{P:Program}{w:World}:∀{ks:List Int}{us:List Value},Vals (ks.map V.int) us→ItemsAre (intKind P w) ks us
 |[],_,r=>by rw[Pj]at r;cases r;exact .nil
 |k::ks,_,r=>by
  rw[xr]at r;cases r with
  |cons h t =>
   obtain⟨tk,e⟩:=(show ∃t,_=Value.int k t from h)
   subst e;exact .cons (by simp[intKind,Value.isInt]) (Et t)
theorem Dj{pins:k87}{σ:St}{H:Hp}{s:Shared}{t:Addr}(I:Inv X pins σ H s)(sq:SqT X.K H t (k.map V.int)):(tupleKind (intKind X.prog X.w)).is s.heap k t:=by obtain⟨its,rv,⟨o,e1,e2,m,e3⟩,_⟩:=I.tuple sq;exact⟨o,its.toArray,m,e1,e2,e3,by simpa using Et rv⟩
theorem j22{pins:k87}{σ:St}{H:Hp}{s:Shared}{d:Addr}{xs:List (List Int×Addr×Value)}{ep:Nat}(I:Inv X pins σ H s)(hx:H d=some (.dI xs ep))(kt:∀x∈xs,SqT X.K H x.2.1 (x.1.map V.int)) :
  (d==sysModules)=false∧xs.length≤sizeLine∧s.heap.DictOfH (tupleKind (intKind X.prog X.w)) d xs:=by
 obtain⟨z1,z2,z3,od,en,h1,h2,h3,h4⟩:=(show jg X.prog X.w H s.heap d (.dI xs ep)from I.hok _ _ hx)
 exact⟨z2,z1,od,en,ep,h1,h2,h3,h4,fun x hx=>Dj I (kt x hx),z3⟩
theorem j6l{xs:List (List Int×Addr×Value)}:(atKey xs k).isSome=(xs.map fun x=>x.1).contains k:=by
 induction xs with
 |nil=>rfl
 |cons x xs ih =>
  unfold atKey at ih ⊢;rw[Option.isSome_map]at ih ⊢;rw[List.find?_cons,xr,List.contains_cons];by_cases z:x.1=k
  ·simp[z]
  ·have z':(k==x.1)=false:=by simp;exact fun e=>z e.symm
   rw[decide_eq_false z,z',Bool.false_or];exact ih
theorem any_range:∀bs:List Bool,(List.range bs.length).any (fun i=>(bs[i]?).getD true)=bs.any id
 |[]=>rfl
 |b::bs=>by rw[X4,List.range_succ_eq_map,List.any_cons,List.any_map,List.any_cons,←any_range bs];rfl
theorem j14 (hc:X.calm=true):Jj X (.builtin "any") (fun xs H Q=>∃(l:Addr)(bs:List Bool),xs=[.ref l]∧SqL X.K H l (bs.map V.bl)∧Q (.bl (bs.any id)) H):=by
 intro pins s σ H xs us Q I r ⟨l,bs,e,sq,q⟩;subst e;obtain⟨u,eu,ru⟩:=vals1 r;subst eu;cases ru;obtain⟨its,rv,pl,_⟩:=I.list sq;have hlt:l<s.heap.objs.size:=by obtain⟨_,_,e,_⟩:=pl;exact xn e
 have hl:its.length=bs.length:=by rw[←rv.length,km]
 refine call_any_walk (wpAny_pyIter_list pl.isList ⟨s.heap.objs.size,[s.heap.objs.size,l],[s.heap.objs.size],its.toArray.size,_,_,fun i=>(bs[i]?).getD true,rfl,Walks.list (A:=X.A.in1) (I.ok.hd hc) _ _ (X8 hlt) its.toArray,⟨⟨_,X5 _ rfl,rfl,rfl⟩,pl.isList.push _⟩,?_,fun h' tk kp=>?_⟩)
 ·intro i v s' Q' E' hv hq;have hi:i<its.length:=by have:=Array.getElem?_eq_some_iff.mp hv;obtain⟨h,_⟩:=this;simpa using h
  have hb:i<bs.length:=by omega
  obtain⟨w1,hw,rw1⟩:=rv.get (x:=.bl bs[i]) (i:=i) (by rw[X7,kh hb];rfl);have:its.toArray[i]?=some w1:=by simpa using hw
  rw[this]at hv;cases hv;cases rw1;simp only[kh hb,Option.getD_some]at hq;exact wpAny_truthy_bool hq
 ·have ev:(List.range its.toArray.size).any (fun i=>(bs[i]?).getD true)=bs.any id:=by rw[X3,hl];exact any_range bs
  rw[ev];refine⟨.bl _,H,I.kept (t':=tk) fun b o e=>kp b o ?_ (xj _ e),rfl,q⟩;intro z;rw[xu.mp z]at e;exact Xv _ (xn e)
theorem DE.any {bs:List Bool} (ha:DT X ρ a (.lst (bs.map D.bl))) (hm:X.mg "any" = none) (hc:X.calm=true) (hg:Gl X "any") (hs:starEach [a] X.env=[(false,eval a X.env)]):DE X ρ (.Call (.Name "any" p) [a] [] pos) (.bl (bs.any id)):=fun σ H Q R q =>(zx (j14 hc) hg hm boot_any (jd peS jw hs) (by decide) (by decide) hs).to (ha σ H _ R fun v H1 g1 ⟨l,xs,e,sq,en⟩=>⟨l,bs,by rw[e],by rw[Bd en]at sq;exact sq,q _ H1 g1 rfl⟩)
end
end L2
end
section
namespace L2
open PySem PySem.Spec PyProof.Rows
def jgp:TE:=fun _ H Q=>∀p,H p=none→Q (.ref p) (upd H p (.dI [] 0))
def jgx(K:k85)(td ty tv:TE):TS:=fun D σ H=>tv σ H fun v H1=>td σ H1 fun x H2=>ty σ H2 fun y H3 =>
 ∃(a b:Addr)(xs:List (List Int×Addr×Value)) (ep:Nat) (k:List Int),x=.ref a∧H3 a=some (.dI xs ep)∧(∀x∈xs,SqT K H3 x.2.1 (x.1.map V.int))∧y=.ref b∧SqT K H3 b (k.map V.int) ∧
  (xs.map fun x=>x.1).contains k=false∧xs.length<sizeLine∧∀u ep',RelV v u→D.nx σ (upd H3 a (.dI (xs++[(k,b,u)]) ep'))
section
variable{X:Cx}{pos pos':Pos}{o i value:Expr}{td ty tv:TE}
theorem Inv.bigD{pins:k87}{σ:St}{H:Hp}{s:Shared}(I:Inv X pins σ H s):sysModules<s.heap.objs.size:=by have h:mainGlobals<s.heap.objs.size:=(I.mod.glob.keeps I.bk).lt;exact Xy (by decide) h
theorem j1m:PE X (.Dict [] [] pos) jgp:=fun pins s σ H Q I h =>
 wpAny_Dict_empty ⟨.ref s.heap.objs.size,_,I.laid (a:=s.heap.objs.size) (o:=.dI [] 0) (t':=s.toks) (fun _ _ q=>xj _ q) (xx _)
  ⟨Nat.zero_le _,beq_eq_false_iff_ne.mpr (Ne.symm (X8 I.bigD)),List.nodup_nil,_,#[],X5 _ rfl,⟨rfl,rfl,rfl⟩,rfl,rfl⟩,rfl,h _ (I.hok.fresh (xx _))⟩
theorem j1k(hu:X.A.units+100<cLine)(ho:PE X o td)(hi:PE X i ty)(hv:PE X value tv)(hs:swapsWith value (some (.Subscript o i pos')) pos.line X.env=pure false) :
  PS X (.Assign [.Subscript o i pos'] value pos) (jgx X.K td ty tv):=by
 intro pins s σ H D I h;refine wpAny_Assign_Subscript (thn (hv pins s σ H _ I h) fun r s1 ⟨v,H1,I1,rv,q1⟩=>thn (ho pins s1 σ H1 _ I1 q1) fun u s2 ⟨x,H2,I2,rx,q2⟩=>thn (hi pins s2 σ H2 _ I2 q2) fun iv s3 ⟨y,H3,I3,ry,hq⟩=>?_) hs;obtain⟨a,b,xs,ep,k,ex,hx,kt,ey,sq,nk,hl,q⟩:=hq;subst ex ey;cases rx;cases ry;obtain⟨lo,hz,dd⟩:=j22 I3 hx kt;refine wpAny_setItem_heap (hsz:=hz) (tupleKind_room_in1 (by omega)) (Dj I3 sq) dd fun h' dd' sb=>?_;have na:atKey xs k=none:=by
  have:=j6l (xs:=xs) (k:=k);rw[nk]at this;cases z:atKey xs k with
  |none=>rfl
  |some _=>rw[z]at this;cases this
 rw[storedH_new na]at dd';obtain⟨ob,es,ep',w1,w2,w3,w4,w5,w6⟩:=dd';refine⟨σ,_,I3.write (x:=a) (e:=a) (o:=.dI (xs++[(k,b,r)]) ep') (t':=s3.toks+(tupleKind (intKind X.prog X.w)).draws k) (by rw[hx];exact True.intro) (.inl rfl) (fun c z nc e=>(sb.2 c nc).trans e) ⟨ob,w1⟩ ?_,q r ep' rv⟩;exact⟨by simp;omega,lo,w6,ob,es,w1,w2,w3,w4⟩
end
section
variable{X:Cx}{ρ:Rho}{it e:Expr}{P:Po}{ds:List D}{x t y:Nat}{nx nt ny:Str}{n8:Nat}{p1 p2 p3 p4 p5 p6 p7 p8 p9 p10 p11 p12 p13 p14 p15 p16 p17 p18:Pos}
theorem j1b{H:Hp}{a:Addr}{o:HO}(h:H a=some o):H=upd (del H [a]) a o:=funext fun b=>by
 by_cases z:b=a
 ·subst z;rw[j9];exact h
 ·rw[jb z,j5 (by simpa using z)]
theorem Bk{H:Hp}{a:Addr}{o:HO}(h:H a=none):del (upd H a o) [a]=H:=funext fun b=>by
 by_cases z:b=a
 ·subst z;rw[q8 (by simp)];exact h.symm
 ·rw[j5 (by simpa using z),jb z]
theorem De{H F:Hp}{a:Addr}{o:HO}(h:H a=some o):mrg [a] H F=upd F a o:=funext fun b=>by
 by_cases z:b=a
 ·subst z;rw[J8 (by simp),j9];exact h
 ·rw[jh (by simpa using z),jb z]
end
end L2
end
section
namespace L2
open PySem PySem.Spec PyProof.Rows
noncomputable def qw:List (List Int)→List D→List Int→Option D
 |k'::ks,d::ds,k=>if k'=k then some d else qw ks ds k
 |_,_,_=>none
theorem j23{K:k85}{H:Hp}{k:List Int}{d:D}:∀{xs:List (List Int×Addr×Value)} {ds:List D} {vs:List V},Vals vs (xs.map fun x=>x.2.2)→j4 K H ds vs→qw (xs.map fun x=>x.1) ds k=some d→∃p v,atKey xs k=some p∧RelV v p.2∧Enc K H d v
 |[],_,_,_,_,h=>by cases h
 |x::xs,[],_,_,_,h=>by cases h
 |x::xs,d'::ds,_,rv,⟨v,r,e,h1,l⟩,h=>by
  subst e;rw[xr]at rv h;unfold atKey;rw[List.find?_cons];cases rv with
  |cons a b =>
   rw[qw]at h;by_cases z:x.1=k
   ·rw[if_pos z]at h;cases h;rw[decide_eq_true z];exact⟨x.2,v,rfl,a,h1⟩
   ·rw[if_neg z]at h;rw[decide_eq_false z];exact j23 b l h
section
variable{X:Cx}{ρ:Rho}{a b:Expr}{d:D}{ds:List D}{ks:List (List Int)}{k:List Int}{pos p p1 p2 p3:Pos}
theorem jhj(hu:X.A.units+100<cLine):IxR X (fun x y H Q=>∃(d:Addr)(xs:List (List Int×Addr×Value)) (ep:Nat) (t:Addr) (k:List Int) (q:Addr×Value) (v:V),x=.ref d∧y=.ref t∧H d=some (.dI xs ep)∧(∀x∈xs,SqT X.K H x.2.1 (x.1.map V.int))∧SqT X.K H t (k.map V.int)∧atKey xs k=some q∧RelV v q.2∧Q v H):=by intro value slice pins s σ H x y v u Q I rx ry h hs;obtain⟨d,xs,ep,t,k,q,w,rfl,rfl,hx,kt,sq,hq,rq,hQ⟩:=h;cases rx;cases ry;obtain⟨lo,hz,dd⟩:=j22 I hx kt;exact tail_any dd.typeIs slot_dict_getitem.lookup (wpAny_getItem_heap (tupleKind_room_in1 (by omega)) (Dj I sq) dd hq ⟨w,H,I.tok _,rq,hQ⟩) hs
theorem DE.dget(hu:X.A.units+100<cLine)(ha:DE X ρ a (.dct ks ds))(hb:DT X ρ b (.tup (k.map D.int)))(h:qw ks ds k=some d)(hs:Yr b):DE X ρ (.Subscript a b pos) d:=fun σ H Q R q =>
 (N8 (jhj hu) peS peS hs).to (ha σ H _ R fun v H1 g1 ⟨c,xs,ep,vs,e,hx,ek,kt,rv,l⟩=>hb σ H1 _ (R.grow g1) fun u H2 g2 ⟨t,ys,e2,sq,l2⟩=>by
  rw[v8 l2]at sq
  subst ek
  obtain⟨q',v',z1,z2,z3⟩:=j23 rv (l.mono (je g2)) h
  exact⟨c,xs,ep,t,k,q',v',e,e2,g2 _ _ (of_del hx).2,fun x hx=>g2.seqT (jm.seqT (kt x hx)),sq,z1,z2,q v' H2 (g1.trans g2) z3⟩)
end
section
variable{prog:Program}{w:World}{A:Around}{E:k86}{s:Shared}{d it vw:Addr}{od:Obj}{es:Array DictEntry}{ep i:Nat}
theorem jc9 {Q:k86} (ht:s.TypeIs (.ref d) "dict") (lo:(d==sysModules)=false)
  (q:Q (.ref s.heap.objs.size) { s with heap:=s.heap.push { cls:=.type "dict_values",data:=.fields #[.ref d] } }):wpAny (model prog w) A (call (.builtin "dict.values") [.ref d]) Q E s:=by
 refine wpAny_call_entry F.slot_dict_values ht F.entry_dict_values ?_ (F.args_dict_values_1 _);unfold Builtin.«dict.values»;refine wpAny_bind ?_;unfold Builtin.Dict.noArgs;refine wpAny_bind (wpAny_notOrdered_dict ht ?_);show wpAny _ _ (pure d) _ _ s;refine wpAny_pure ?_;show wpAny _ _ (Builtin.Dict.showsAll d >>= _) _ _ s;unfold Builtin.Dict.showsAll;rw[if_neg (fun z=>by rw[lo]at z;cases z)];exact wpAny_bind (wpAny_pure (wpAny_bind (wpAny_newObj_type (wpAny_pure ⟨_,rfl,q⟩))))
theorem jc8{Q:k86}(hv:s.heap.IsValuesView vw d)(ho:s.heap.get? d=some od)(hd:od.data=.dict es ep)
  (q:Q (.ref s.heap.objs.size) { s with heap:=s.heap.push { cls:=.type "dict_valueiterator",data:=.fields #[.ref d,.int 0 0,.int es.size 0,.int ep 0] } }) :
  wpAny (model prog w) A (pyIter (.ref vw)) Q E s:=by
 obtain⟨oz,z1,z2,z3⟩:=id hv;refine wpAny_pyIter_slot hv.typeIs F.slot_dict_values_iter (wpAny_call_entry F.slot_dict_values_iter hv.typeIs F.entry_dict_values_iter ?_ (F.args_dict_values_iter_1 _));unfold Builtin.«dict_values.__iter__»;refine wpAny_bind (wpAny_pure ?_);refine wpAny_bind ?_;unfold Builtin.Dict_items.dictOf;refine wpAny_bind (wpAny_field z1 z3 (x:=.ref d) rfl (wpAny_pure (wpAny_bind ?_)));unfold Builtin.Dict_items.newIterator;refine wpAny_bind (wpAny_dictEntries ho hd (wpAny_bind (wpAny_dictEpoch ho hd ?_)));have own:Builtin.Dict_items.ownsTuple "dict_valueiterator" = false:=by decide
 simp only[own,Xw,if_false];refine wpAny_newObj_type (wpAny_pure ⟨_,rfl,"dict_valueiterator",_,⟨_,X5 _ rfl,rfl⟩,Pr.lookup,?_⟩);simpa [rawInt]using q
theorem jc7{e:DictEntry}{Q:Option Value→Shared→Prop}(hit:s.heap.IsValIter it d i es.size ep)(ho:s.heap.get? d=some od)(hd:od.data=.dict es ep)(he:es[i]?=some e)
  (hQ:∀h',h'.IsValIter it d (i+1) es.size ep→Heap.SameBut it s.heap h'→Q (some e.val) { s with heap:=h' }):wpAny (model prog w) A (pyNext (.ref it)) Q E s:=by
 obtain⟨o,hoI,hc,hdI⟩:=id hit;unfold pyNext;refine wpAny_bind (wpAny_attempt (wpAny_callSpecial?_slot (name:=Str.ofString "__next__") hit.typeIs Pr
  (wpAny_call_entry Pr hit.typeIs F.entry_dict_valueiterator_next ?_ (F.args_dict_valueiterator_next_1 _))))
 refine wpAny_bind (wpAny_pure ?_);refine wpAny_bind ?_;refine wpAny_bind ?_
 first|refine wpAny_bind (wpAny_typeNameOfWhole_valiter hit.typeIs (wpAny_pure ?_))|refine wpAny_bind (wpAny_typeNameOf_valiter hit.typeIs (wpAny_pure ?_))
 refine wpAny_bind (wpAny_fieldsOf hoI hdI ?_);have hown:Builtin.Dict_items.ownsTuple "dict_valueiterator" = false:=by decide
 simp only[hown,Xw,if_false];show wpAny _ _ (if (Value.ref d==Value.none)=true then _ else _) _ _ s;rw[if_neg (fun z=>by cases z)];refine wpAny_bind (wpAny_pure ?_);refine wpAny_bind (wpAny_dictEntries ho hd ?_);rw[if_neg (by simp)];refine wpAny_bind (wpAny_pure ?_);refine wpAny_bind (wpAny_dictEpoch ho hd ?_);rw[if_neg (by simp)];refine wpAny_pure ?_;simp only[show ¬((i:Int)<0)from by omega,if_false,Xc,he];refine wpAny_bind ?_
 first|refine wpAny_bind (wpAny_typeNameOfWhole_valiter hit.typeIs (wpAny_pure ?_))|refine wpAny_bind (wpAny_typeNameOf_valiter hit.typeIs (wpAny_pure ?_))
 refine wpAny_bind (wpAny_isOneOf_valiter hit.typeIs ?_);show wpAny _ _ (setField (.ref it) 1 (rawInt ((i:Int)+1)) >>= _) _ _ s;refine wpAny_bind (wpAny_setField hoI hdI (by simp) ?_);have hit':(s.heap.update it (Obj.mapFields (·.setIfInBounds 1 (rawInt ((i:Int)+1))))).IsValIter it d (i+1) es.size ep :=
  ⟨_,Heap.get?_update_self _ hoI (Obj.isFreed_of_fields (Obj.data_mapFields hdI _)),(Obj.cls_mapFields ..).trans hc,by rw[Obj.data_mapFields hdI];simp[rawInt]⟩
 refine wpAny_bind (wpAny_holding ?_);refine wpAny_bind (wpAny_isOneOf_valiter (s:={ s with heap:=s.heap.update it (Obj.mapFields (·.setIfInBounds 1 (rawInt ((i:Int)+1)))) }) hit'.typeIs ?_);refine wpAny_bind (wpAny_isOneOf_valiter (s:={ s with heap:=s.heap.update it (Obj.mapFields (·.setIfInBounds 1 (rawInt ((i:Int)+1)))) }) hit'.typeIs ?_);show wpAny _ _ (pure e.val) _ _ _;exact wpAny_pure (wpAny_pure ⟨_,rfl,wpAny_pure (hQ _ hit' (t8 ..))⟩)
theorem jfr{Q:Option Value→Shared→Prop}(hh:A.handled=none)(hit:s.heap.IsValIter it d i es.size ep)(ho:s.heap.get? d=some od)(hd:od.data=.dict es ep)(hge:es.size≤i)
  (hQ:∀h',Heap.ExtBut it s.heap h'→Q none { s with heap:=h' }):wpAny (model prog w) A (pyNext (.ref it)) Q E s:=by
 obtain⟨o,hoI,hc,hdI⟩:=id hit;unfold pyNext;refine wpAny_bind (wpAny_attempt (wpAny_callSpecial?_slot (name:=Str.ofString "__next__") hit.typeIs Pr
  (wpAny_call_entry Pr hit.typeIs F.entry_dict_valueiterator_next ?_ (F.args_dict_valueiterator_next_1 _))))
 refine wpAny_bind (wpAny_pure ?_);refine wpAny_bind ?_;refine wpAny_bind ?_
 first|refine wpAny_bind (wpAny_typeNameOfWhole_valiter hit.typeIs (wpAny_pure ?_))|refine wpAny_bind (wpAny_typeNameOf_valiter hit.typeIs (wpAny_pure ?_))
 refine wpAny_bind (wpAny_fieldsOf hoI hdI ?_);have hown:Builtin.Dict_items.ownsTuple "dict_valueiterator" = false:=by decide
 simp only[hown,Xw,if_false];show wpAny _ _ (if (Value.ref d==Value.none)=true then _ else _) _ _ s;rw[if_neg (fun z=>by cases z)];refine wpAny_bind (wpAny_pure ?_);refine wpAny_bind (wpAny_dictEntries ho hd ?_);rw[if_neg (by simp)];refine wpAny_bind (wpAny_pure ?_);refine wpAny_bind (wpAny_dictEpoch ho hd ?_);rw[if_neg (by simp)];refine wpAny_pure ?_;simp only[show ¬((i:Int)<0)from by omega,if_false,Xc,Array.getElem?_eq_none hge];refine wpAny_bind ?_
 first|refine wpAny_bind (wpAny_typeNameOfWhole_valiter hit.typeIs (wpAny_pure ?_))|refine wpAny_bind (wpAny_typeNameOf_valiter hit.typeIs (wpAny_pure ?_))
 show wpAny _ _ (setField (.ref it) 0 .none >>= _) _ _ s;refine wpAny_bind (wpAny_setField hoI hdI (by simp) ?_);show wpAny _ _ (newExc (.type "StopIteration") [] >>= _) _ _ _;refine wpAny_bind ?_;simp only[newExc,newTuple];refine wpAny_bind (wpAny_newObj_type ?_ (by size_fits));refine wpAny_bind (m:=firstArgMember _ _) (wpAny_of_eq (a:=Value.none) (by first|rfl|(simp only[firstArgMember];rfl)) ?_);refine wpAny_newObj_type ?_ (by size_fits);simp only[raiseNew];refine wpAny_bind (wpAny_handled ?_);rw[show A.in1.handled=none from hh];refine wpAny_bind (wpAny_pure (wpAny_throw ?_));refine wpAny_bind (wpAny_isInstance (T:="StopIteration") (b:=true) ⟨_,X5 _ rfl,rfl⟩ isSubtype_stop ?_);exact wpAny_pure (hQ _ (((t8 ..).extBut.push _).push _))
theorem j8n(hh:A.handled=none)(I:Addr)(hne:d≠I)(hd:od.data=.dict es ep):Walks prog w A I [I,d] [I] es.size (fun i v=>∃e,es[i]?=some e∧v=e.val) (fun i h=>h.IsValIter I d i es.size ep∧h.get? d=some od) where
 sub:=fun b hb=>by simp at hb;simp[hb]
 frame:=fun _ _ _ st hk=>⟨let ⟨o,ho,x⟩:=st.1;⟨o,hk I (by simp) o ho,x⟩,hk d (by simp) _ st.2⟩
 item:=fun i s Q E hi st hQ=>by refine jc7 st.1 st.2 hd (Array.getElem?_eq_getElem hi) fun h' hit' hs'=>?_;exact hQ _ h' s.toks ⟨_,Array.getElem?_eq_getElem hi,rfl⟩ ⟨hit',hs'.extBut _ _ hne st.2⟩ fun b o hb e=>hs'.extBut b o (fun h=>hb (by simp[h])) e
 done:=fun s Q E st hQ=>jfr hh st.1 st.2 hd (xx _) fun h' he'=>hQ h' s.toks fun b o hb e=>he' b o (fun h=>hb (by simp[h])) e
 self:=fun _ _ _ _ st hQ=>wpAny_pyIter_valiter st.1 hQ
theorem jfq (hd:od.data=.dict es ep):PySem.W.KdlSrc prog w "dict_values" vw d es.size (fun i v=>∃e,es[i]?=some e∧v=e.val) (fun h=>h.IsValuesView vw d∧h.get? d=some od) where
 type:=fun _ hm=>hm.1.typeIs
 there:=fun _ hm=>⟨let ⟨_,ho,_⟩:=hm.1;xn ho,xn hm.2⟩
 keep:=fun _ _ hm hk=>⟨let ⟨o,ho,x⟩:=hm.1;⟨o,hk vw (.inl rfl) o ho,x⟩,hk d (.inr rfl) _ hm.2⟩
 notList:=by decide
 notTuple:=by decide
 hint:=fun _ _ _ _ hm hq=>W.kdl_hint_values hm.1.typeIs hq
 iter:=fun _ _ hh hm=>⟨_,_,(fun _ _ hq=>jc8 hm.1 hm.2 hd hq),j8n hh _ (X8 (xn hm.2)) hd,⟨⟨_,X5 _ rfl,rfl,rfl⟩,xj _ hm.2⟩⟩
end
section
variable{prog:Program}{w:World}{A:Around}{E:k86}{s:Shared}{T:String}{r d:Addr}{n:Nat}{P:Nat→Value→Prop}{OK:Heap→Prop}
theorem j12{Q:List Value→Shared→Prop}(K:PySem.W.KdlSrc prog w T r d n P OK)(hh:A.handled=none)(hok:OK s.heap)(hn:n≤sizeLine)
  (hQ:∀(h':Heap)(tk:Nat)(acc:Array Value),(∀b o,s.heap.get? b=some o→h'.get? b=some o)→ItemsOf P acc n→Q acc.toList { s with heap:=h',toks:=tk }):wpAny (model prog w) A (collect (.ref r)) Q E s:=by
 have hlt:=K.there _ hok;have hS:(s.heap.push { cls:=.type "list",data:=.seq ([]:List Value).toArray }).get? s.heap.objs.size=some { cls:=.type "list",data:=.seq ([]:List Value).toArray }:=X5 _ rfl;have key:∀R:Result→Shared→Prop,(∀(h':Heap)(tk:Nat)(acc:Array Value)(c:Nat),(∀b o,s.heap.get? b=some o→h'.get? b=some o)→h'.get? s.heap.objs.size=some { cls:=.type "list",dict:=none,data:=.seq acc c,slots:=#[] }→ItemsOf P acc n→R (.ok (.ret (.ref s.heap.objs.size))) { s with heap:=h',toks:=tk }) →
   codeAny (model prog w) A (.builtin "proto.collect" ⟨[.ref r],[]⟩) R s:=fun R hR=>by
  refine codeAny_builtin F.entry_proto_collect ?_;rw[T8 F.plain_proto_collect _];show wpAny _ A.in1 (newList [] >>= fun l=>again (.builtin "list.__iadd__" ⟨[l,.ref r],[]⟩)) _ _ s;refine wpAny_bind (wpAny_newObj_type ?_);refine wpAny_pure ⟨plainId_quiet F.plain_list_iadd _,codeAny_builtin F.entry_list_iadd ?_⟩;rw[T8 F.plain_list_iadd _];show wpAny _ A.in1 (Builtin.List.listExtendWith (.ref s.heap.objs.size) (.ref r) (.ref s.heap.objs.size)) _ _ _;exact W.kdl_extend (R:=R) (s:={ s with heap:=s.heap.push { cls:=.type "list",data:=.seq ([]:List Value).toArray } }) K hh (K.keep _ _ hok fun b _ o e=>xj _ e) _ (tu hlt.1) (tu hlt.2) _ 0 hS
   (fun h' tk acc c kp hS' hacc=>hR h' tk acc c (fun b o e=>kp b o (X8 (xn e)) (xj _ e)) hS' hacc) hn
 unfold collect;refine wpAny_bind (wpAny_runValue (key _ fun h' tk acc c kp hS' hacc=>?_));show wpAny _ A (load s.heap.objs.size >>= _) _ _ _;refine wpAny_bind (wpAny_load hS' ?_);exact wpAny_pure (hQ h' tk acc kp hacc)
theorem Dq {Q:k86} (K:PySem.W.KdlSrc prog w T r d n P OK) (hh:A.handled=none) (hok:OK s.heap) (hsz:n≤sizeLine) (hTt:(Value.type T==Value.type "tuple")=false)
  (hQ:∀(h':Heap)(tk:Nat)(acc:Array Value),(∀b o,s.heap.get? b=some o→h'.get? b=some o)→ItemsOf P acc n→Q (.ref h'.objs.size) { s with heap:=h'.push { cls:=.type "tuple",data:=.seq acc },toks:=tk }) :
  wpAny (model prog w) A (call (.type "tuple") [.ref r]) Q E s:=by
 refine callType_codes (Q₁:=fun obj s₁=>s₁.TypeIs obj "tuple"∧Q obj s₁) F.called_tuple (F.typeCall_tuple_1 _) F.entry_object_init ?_ fun obj s₁ h₁ =>⟨h₁.1,F.args_object_init_2 obj _,object_init_meets F.called_tuple.init.lookup F.called_tuple.made (by decide) prog w A.in1 _ s₁ ⟨h₁.1,rfl,h₁.2⟩⟩
 refine codeAny_of_tree ?_;show wpAny _ A.in1.in1 (do checkBuiltinCall "tuple.__new__" ⟨[.type "tuple",.ref r],[]⟩;again (.builtin "tuple.__new__" ⟨[.type "tuple",.ref r],[]⟩)) _ _ s;refine wpAny_bind (wpAny_of_eq (F.newCall_tuple_1 _) (wpAny_pure ⟨plainId_quiet F.plain_tuple_new _,codeAny_builtin F.entry_tuple_new ?_⟩));rw[T8 F.plain_tuple_new _];have hsub:=sub_tuple_self;have hinit:=init_tuple_lookup;have hmh:=madeHere_tuple;have hTI:=K.type s hok;have hn:=hsz
 wp_walk using wpAny_typeOf hTI,j12 (A:=A.in1.in1) K hh hok hn
 intro h' tk acc kp hacc;show wpAny _ _ (Builtin.Tuple.tupleExact acc.toList.toArray >>= fun v=>ret v) _ _ _;unfold Builtin.Tuple.tupleExact;refine wpAny_bind (wpAny_newObj_type ?_ (by show acc.toList.toArray.size≤sizeLine;simp only[Array.toArray_toList];rw[hacc.1];exact hsz));refine wpAny_pure ?_;have e:acc.toList.toArray=acc:=by simp
 rw[e];exact⟨⟨_,X5 _ rfl,rfl⟩,hQ h' tk acc kp hacc⟩
end
end L2
end
section
namespace L2
open PySem PySem.Spec PyProof.Rows
section
variable{X:Cx}{ρ:Rho}{a:Expr}{ds:List D}{ks:List (List Int)}{pos p p1 p2:Pos}
theorem j01{P:Program}{w:World}{en:Array DictEntry}{xs:List (List Int×Addr×Value)}{acc:Array Value}(h:en.toList=xs.map (entryOfKey (tupleKind (intKind P w))))(ha:ItemsOf (fun i v=>∃e,en[i]?=some e∧v=e.val) acc en.size):acc=(xs.map fun x=>x.2.2).toArray:=by
 obtain⟨h1,h2⟩:=ha;have hl:en.size=xs.length:=by have:=congrArg List.length h;simpa using this
 apply Array.ext';refine List.ext_getElem? fun i=>?_;rw[List.toList_toArray,X7];by_cases hi:i<acc.size
 ·have hv:acc[i]?=some acc[i]:=Array.getElem?_eq_getElem hi;obtain⟨e,he,ev⟩:=h2 i _ hv;have he':en.toList[i]?=some e:=by simpa using he
  rw[h,X7]at he';rw[Array.getElem?_toList,hv,ev];obtain⟨x,hx,ex⟩:=P0.mp he';rw[hx,←ex];rfl
 ·rw[Xz (by simpa using hi),Xz (by omega)];rfl
theorem DE.tupVals (ha:DE X ρ a (.dct ks ds)) (hc:X.calm=true) (hm:X.mg "tuple" = none) (hg:Gl X "tuple") (hbase:attributeBase a "values" X.env (eval a X.env)=eval a X.env) (hline:(p1.endLine==p2.line)=true)
  (hs2:starEach [.Call (.Attribute a "values" p1) [] [] p2] X.env=[(false,eval (.Call (.Attribute a "values" p1) [] [] p2) X.env)]):DE X ρ (.Call (.Name "tuple" p) [.Call (.Attribute a "values" p1) [] [] p2] [] pos) (.tup ds):=fun σ H Q R q pins s I=>by
 refine wpAny_Call_Name_kw (Vv I hg hm boot_tuple ?_);refine callWith_type1 ?_ hs2 rfl;rw[hs2];show wpAny _ _ (spliced ((false,eval _ X.env)::backTo pos [])) _ _ s;refine Calls.spliced_cons ?_;refine wpAny_Call_method0_late hbase hline (thn (ha σ H (fun v H'=>j0 H H'∧Enc X.K (del H' (owns ρ)) (.dct ks ds) v) R (fun v H' g e=>⟨g,e⟩) pins s I) fun v s1 ⟨x,H1,I1,r1,g1,en⟩=>?_);obtain⟨d,xs,ep,vs,ex,hx,ek,kt,rv,l⟩:=en;subst ex ek;cases r1;have hx1:H1 d=some (.dI xs ep):=(of_del hx).2;obtain⟨z1,z2,z3,od,en,h1,h2,h3,h4⟩:=(show jg X.prog X.w H1 s1.heap d (.dI xs ep)from I1.hok _ _ hx1)
 have hsz:en.size=xs.length:=by have:=congrArg List.length h4;simpa using this
 refine⟨"dict","dict.values",PySem.F.plainAttrs_dict,PySem.F.slot_dict_values,PySem.F.type_dict_values,⟨od,h1,h2.1⟩,fun b e=>by cases e;exact⟨od,h1,h2.2.1⟩,Calls.callWith_builtin rfl (PySem.evalArgs_none (jc9 ⟨od,h1,h2.1⟩ z2 ?_))⟩;refine Calls.spliced_nil ?_;have v1:(s1.heap.push { cls:=.type "dict_values",data:=.fields #[.ref d] }).get? s1.heap.objs.size=some { cls:=.type "dict_values",data:=.fields #[.ref d] }:=X5 _ rfl;have I2:=I1.kept (t':=s1.toks) (h':=s1.heap.push { cls:=.type "dict_values",data:=.fields #[.ref d] }) fun b o e=>xj _ e;refine Dq (jfq (vw:=s1.heap.objs.size) (d:=d) (od:=od) h3) (I1.ok.hd hc) ⟨⟨_,v1,rfl,rfl⟩,xj _ h1⟩ (by rw[hsz];exact z1) (by decide) fun h' tk acc kp hacc=>?_;have ea:=j01 h4 hacc;subst ea;have I3:Inv X pins σ H1 { s1 with heap:=h',toks:=tk }:=I2.kept (t':=tk) (h':=h') kp;have hf:H1 h'.objs.size=none:=I3.hok.fresh (xx _);have hl:=rv.length;have hxl:vs.length≤sizeLine:=by rw[hl,km];exact z1
 have I4:=I3.laid (a:=h'.objs.size) (o:=.tup vs) (t':=tk) (h':=h'.push { cls:=.type "tuple",data:=.seq (xs.map fun x=>x.2.2).toArray }) (fun b u q=>xj _ q) (xx _) ⟨hxl,_,rv,IsTup.new _ _,V7.new _ _⟩;have nt:h'.objs.size∉owns ρ:=(R.grow g1).fresh hf;exact⟨.ref h'.objs.size,_,I4,rfl,q _ _ (g1.trans (j6 hf)) ⟨h'.objs.size,vs,rfl,.inl (.inl (by rw[j5 nt];exact j9)),l.mono (je (j6 hf))⟩⟩
end
section
variable{X:Cx}{ρ:Rho}{it e1 e2:Expr}{P:Po}{ds:List D}{x t y:Nat}{nx nt ny:Str}{p1 p2 p3 p4 p5 p6 p10 p11 p12 p14 p16 p17 p18:Pos}
noncomputable abbrev j9u(nx nt ny:Str)(it e1 e2:Expr)(p1 p2 p3 p4 p5 p6 p10 p11 p12 p14 p16 p17 p18:Pos):List Stmt :=
 [.Assign [.Name nx p1] (.Dict [] [] p2) p3,.For (.Name nt p4) it [.Assign [.Name ny p5] e1 p6,.Assign [.Subscript (.Name nx p10) (.Name nt p11) p12] e2 p14] [] p16,.Return (some (.Name nx p17)) p18]
theorem vm:∀ns:List Int,zg (ns.map D.int)=true
 |[]=>rfl
 |n::ns=>by rw[xr,zg,vm ns];rfl
theorem Oi{α:Type}:∀{l:List α}{i:Nat}{x:α},l[i]?=some x→l.set i x=l
 |[],_,_,_=>rfl
 |y::l,0,x,h=>by simp at h;subst h;rfl
 |y::l,i+1,x,h=>by rw[pq,Oi (by simpa using h)]
theorem j02{K:k85}{H:Hp}{A:List Addr}(hA:∀a∈A,Hd (H a)){ds:List D}{vs:List V}(n:zg ds=true)(h:j4 K H ds vs):j4 K (del H A) ds vs:=j4.hide hA n h
theorem DSs.nmake(W:Nat→Rho→List (List Int)→List Int→Prop)(rx:x<ρ.length)(rt:t<ρ.length)(ry:y<ρ.length)(hxt:x≠t)(hxy:x≠y)(hty:t≠y)(hi:DI X (ρ.set x .un) (.Name nt p4) it ds)(h0:W 0 (ρ.set x .un) [] [])
  (hs:∀i d ρ' ks ns,ds[i]?=some d→W i ρ' ks ns→∃k d1 n,d=.tup (k.map D.int)∧DE X (ρ'.set t (.val d)) e1 d1∧DE X (((ρ'.set t (.val d)).set y (.val d1)).set x (.val (.dct ks (ns.map D.int)))) e2 (.int n) ∧
   ks.contains k=false∧ks.length<sizeLine∧W (i+1) ((ρ'.set t (.val d)).set y (.val d1)) (ks++[k]) (ns++[n]))
  (hd:∀ρ' ks ns,W ds.length ρ' ks ns→P.rt (.val (.dct ks (ns.map D.int))))
  (hu:X.A.units+100<cLine) (hc:X.calm=true) (hp:PassesOwn (model X.prog X.w) X.A X.env X.xe) (hN:X.N.Nodup) (hX:X.N[x]?=some nx) (hT:X.N[t]?=some nt) (hY:X.N[y]?=some ny)
  (lx:Loc X.env.scope nx) (lt:Loc X.env.scope nt) (ly:Loc X.env.scope ny) (fx:X.fn nx=true∨X.env.scope.names.lookup nx=some .local) (ft:X.fn nt=true∨X.env.scope.names.lookup nt=some .local) (fy:X.fn ny=true∨X.env.scope.names.lookup ny=some .local)
  (dx:(nx==k89)=false) (cx:(nx==k8a)=false) (dt:(nt==k89)=false) (ct:(nt==k8a)=false)
  (s1:swapsWith (.Dict [] [] p2) (some (.Name nx p1)) p3.line X.env=pure false) (s2:swapsWith e1 (some (.Name ny p5)) p6.line X.env=pure false)
  (s3:swapsWith e2 (some (.Subscript (.Name nx p10) (.Name nt p11) p12)) p14.line X.env=pure false) (hf:∀x,foldedSetIterable it X.env x=pure x) :
  DSs X ρ (j9u nx nt ny it e1 e2 p1 p2 p3 p4 p5 p6 p10 p11 p12 p14 p16 p17 p18) P:=fun σ H E R q=>by
 have vis:∀{z:Str},Loc X.env.scope z→Vis X.env.scope z:=fun h=>h.elim .inl fun z=>.inr (.inl z);refine(Vc (Yu hN hX lx j1m s1 fx) (Vc (Io hp hc piS (W4 hN hT lt ft) (Vc (Yu hN hY ly peS s2 fy)
  (Mj (j1k hu (zr hX (vis lx) dx cx) (zr hT (vis lt) dt ct) peS s3))) hf)
  (Mj (W3 (zr hX (vis lx) dx cx))))).to ?_
 intro a ha;have R0:Rep X.K (ρ.set x .un) (σ.set x (some (.ref a))) H:=R.set_un;have hxl:x<σ.length:=by rw[R.len];exact rx
 refine N6 (A:=[a]) (R':=fun J F=>j0 H F∧Ua X.K (del F (owns (ρ.set x .un))) J ds) (fun b hb=>.inr ⟨[],0,by rw[xu.mp hb];exact j9⟩) (by rw[Bk ha];exact hi _ H _ R0 fun J F g ok=>⟨g,ok⟩) fun J F ⟨g,ok⟩ hn=>?_;rw[De j9];have fa:F a=none:=hn a (by simp);refine⟨fun i m σ' H'=>∃ρ' Fh xs ep ns,H'=upd Fh a (.dI xs ep)∧Fh a=none∧Rep X.K ρ' σ' Fh∧j0 F Fh∧(∀b∈owns ρ',b∈owns (ρ.set x .un))∧ρ'.length=ρ.length∧σ'[x]?=some (some (.ref a)) ∧
   (∀z∈xs,SqT X.K Fh z.2.1 (z.1.map V.int))∧Vals (ns.map V.int) (xs.map fun z=>z.2.2)∧W i ρ' (xs.map fun z=>z.1) ns∧m=ds.length-i∧i≤ds.length,
  ⟨ds.length,ρ.set x .un,F,[],0,[],rfl,fa,R0.grow g,j0.refl _,fun b hb=>hb,by simp,Zm hxl,fun z hz=>(nomatch hz),.nil,h0,rfl,Nat.zero_le _⟩,?_⟩
 rintro i m σ' H' ⟨ρ',Fh,xs,ep,ns,rfl,fha,R',gF,sub,hL,sx,kt,rv,w,rfl,hle⟩;have gU:j0 Fh (upd Fh a (.dI xs ep)):=j6 fha;obtain⟨go,stop,yld⟩:=ok i (upd Fh a (.dI xs ep)) (a::owns ρ') (fun b o eb=>by
  obtain⟨nb,eb⟩:=of_del eb
  have nba:b≠a:=fun z=>by rw[z,fa]at eb;cases eb
  rw[j5,jb nba]
  ·exact gF b o eb
  ·intro z
   rcases xm.mp z with z|z
   ·exact nba z
   ·exact nb (sub b z)) (fun b hb=>by
  rcases xm.mp hb with z|z
  ·rw[z,j9];simp
  ·obtain⟨ys,eb⟩:=R'.owned b z
   rw[gU _ _ eb];simp)
 by_cases hlt:i<ds.length
 ·obtain⟨k,d1,n,ed,hE,hE2,nk,hkl,w'⟩:=hs i ds[i] ρ' _ ns (kh hlt) w;refine .inr ⟨go hlt,fun σ2 H2=>∃ρ2 Fh2 xs2 ep2 ns2,H2=upd Fh2 a (.dI xs2 ep2)∧Fh2 a=none∧Rep X.K ρ2 σ2 Fh2∧j0 F Fh2∧(∀b∈owns ρ2,b∈owns (ρ.set x .un))∧ρ2.length=ρ.length∧σ2[x]?=some (some (.ref a)) ∧
   (∀z∈xs2,SqT X.K Fh2 z.2.1 (z.1.map V.int))∧Vals (ns2.map V.int) (xs2.map fun z=>z.2.2)∧W (i+1) ρ2 (xs2.map fun z=>z.1) ns2,
   fun σ2 H2 ⟨ρ2,Fh2,xs2,ep2,ns2,z1,z2,z3,z4,z5,z5',z6,z7,z8,z10⟩=>⟨ds.length-(i+1),by omega,ρ2,Fh2,xs2,ep2,ns2,z1,z2,z3,z4,z5,z5',z6,z7,z8,z10,rfl,hlt⟩,fun v H2 yv=>?_⟩
  obtain⟨g2,en⟩:=yld v H2 yv;have en:=en _ (kh hlt);have h2a:H2 a=some (.dI xs ep):=g2 _ _ j9;have e2:H2=upd (del H2 [a]) a (.dI xs ep):=j1b h2a;have f2a:del H2 [a] a=none:=q8 (by simp);have gF2:j0 Fh (del H2 [a]):=fun b o eb=>by
   have nb:b≠a:=fun z=>by rw[z,fha]at eb;cases eb
   rw[j5 (by simpa using nb)];exact g2 b o (gU b o eb)
  have en2:Enc X.K (del (del H2 [a]) (owns ρ')) ds[i] v:=by rw[Qu];exact en
  generalize del H2 [a]=F2 at e2 f2a gF2 en2;subst e2;have R2:Rep X.K (ρ'.set t (.val ds[i])) (σ'.set t (some v)) F2:=(R'.grow gF2).set_val en2;have sub2:∀b∈owns (ρ'.set t (.val ds[i])),b∈owns (ρ.set x .un):=fun b hb=>sub b ((jk rfl).subset hb);show Jo X e1 (σ'.set t (some v)) (upd F2 a (.dI xs ep)) _;refine j2r (A:=[a]) (Q':=fun v F3=>j0 F2 F3∧Enc X.K (del F3 (owns (ρ'.set t (.val ds[i])))) d1 v) (fun b hb=>.inr ⟨xs,ep,by rw[xu.mp hb];exact j9⟩) (by rw[Bk f2a];exact hE _ F2 _ R2 fun v F3 g e=>⟨g,e⟩) fun v3 F3 ⟨g3,en3⟩ hn3=>?_;rw[De j9];have f3a:F3 a=none:=hn3 a (by simp);have R3:Rep X.K ((ρ'.set t (.val ds[i])).set y (.val d1)) ((σ'.set t (some v)).set y (some v3)) F3:=(R2.grow g3).set_val en3;have sub3:∀b∈owns ((ρ'.set t (.val ds[i])).set y (.val d1)),b∈owns (ρ.set x .un):=fun b hb=>sub2 b ((jk rfl).subset hb);have sx3:((σ'.set t (some v)).set y (some v3))[x]?=some (some (.ref a)):=by rw[qi (Ne.symm hxy),qi (Ne.symm hxt)];exact sx
  have lenN:σ'.length=ρ.length:=by rw[R'.len,hL]
  have htl:t<σ'.length:=by rw[lenN];exact rt
  have hL3:((ρ'.set t (.val ds[i])).set y (.val d1)).length=ρ.length:=by rw[T7,T7,hL]
  have st3:((σ'.set t (some v)).set y (some v3))[t]?=some (some v):=by rw[qi (Ne.symm hty)];exact Zm htl
  have kt3:∀z∈xs,SqT X.K F3 z.2.1 (z.1.map V.int):=fun z hz=>g3.seqT (gF2.seqT (kt z hz));rw[ed]at en2;obtain⟨tb,ys,ev,sq,li⟩:=en2;rw[v8 li]at sq;subst ev;have sq3:SqT X.K F3 tb (k.map V.int):=g3.seqT (jm.seqT sq);clear R2;show Jo X e2 ((σ'.set t (some (V.ref tb))).set y (some v3)) (upd F3 a (.dI xs ep)) _;generalize (σ'.set t (some (V.ref tb))).set y (some v3)=σ3 at R3 sx3 st3 ⊢;generalize (ρ'.set t (.val ds[i])).set y (.val d1)=ρ3 at R3 sub3 hL3 hE2 w' ⊢;have g4:j0 F3 (upd F3 a (.dI xs ep)):=j6 f3a;have hO:∀b∈owns ρ3,Hd (upd F3 a (.dI xs ep) b):=fun b hb=>.inl (let ⟨zs,e⟩:=R3.owned b hb;⟨zs,g4 _ _ e⟩);have na:a∉owns ρ3:=fun z=>by obtain⟨zs,e⟩:=R3.owned a z;rw[f3a]at e;cases e
  have R4:Rep X.K (ρ3.set x (.val (.dct (xs.map fun z=>z.1) (ns.map D.int)))) σ3 (upd F3 a (.dI xs ep)):=by
   have z:=(R3.grow g4).set_val (i:=x) (d:=.dct (xs.map fun z=>z.1) (ns.map D.int)) (v:=.ref a) ⟨a,xs,ep,ns.map V.int,rfl,by rw[j5 na];exact j9,rfl,fun z hz=>?_,rv,j02 hO (vm ns) (j4.ints ns)⟩
   ·rw[Oi sx3]at z;exact z
   ·have e:Enc X.K (upd F3 a (.dI xs ep)) (.tup (z.1.map D.int)) (.ref z.2.1):=⟨_,_,rfl,g4.seqT (kt3 z hz),j4.ints z.1⟩
    obtain⟨b,zs,e1,e2,e3⟩:=e.hide hO (by rw[Qp];exact vm z.1);cases e1;rw[v8 e3]at e2;exact e2
  refine hE2 σ3 _ _ R4 fun v4 H4 g5 en4=>?_;cases(show v4=.int n from en4);have h4a:H4 a=some (.dI xs ep):=g5 _ _ j9;have f4a:del H4 [a] a=none:=q8 (by simp);have gF4:j0 F3 (del H4 [a]):=fun b o eb=>by
   have nb:b≠a:=fun z=>by rw[z,f3a]at eb;cases eb
   rw[j5 (by simpa using nb)];exact g5 b o (g4 b o eb)
  have gU4:j0 (del H4 [a]) H4:=jm;refine⟨.ref a,sx3,.ref tb,st3,a,tb,xs,ep,k,rfl,h4a,fun z hz=>gU4.seqT (gF4.seqT (kt3 z hz)),rfl,gU4.seqT (gF4.seqT sq3),nk,by rw[km]at hkl;exact hkl,fun u ep' ru=>?_⟩;refine⟨ρ3,del H4 [a],xs++[(k,tb,u)],ep',ns++[n],?_,f4a,R3.grow gF4,gF.trans (gF2.trans (g3.trans gF4)),sub3,hL3,sx3,fun z hz=>?_,?_,by rw[Xj];exact w'⟩
  ·funext b
   by_cases z:b=a
   ·subst z;rw[j9,j9]
   ·rw[jb z,jb z,j5 (by simpa using z)]
  ·rcases t7.mp hz with hz|hz
   ·exact gF4.seqT (kt3 z hz)
   ·rw[xu.mp hz];exact gF4.seqT sq3
  ·rw[Xj,Xj];exact rv.append (.cons ru .nil)
 ·have e:i=ds.length:=by omega
  subst e;refine .inl ⟨stop (xx _),.ref a,sx,?_⟩;refine q.rt (.val (.dct _ (ns.map D.int))) (.ref a) _ (hd ρ' _ ns w) ⟨fun b o eb=>gU b o (gF b o (g b o (of_del eb).2)),a,xs,ep,ns.map V.int,rfl,j9,rfl,fun z hz=>gU.seqT (kt z hz),rv,j4.ints ns⟩
end
end L2
end
section
namespace L2
open PySem PySem.Spec PyProof.Rows
section
variable{X:Cx}{ρ:Rho}{a e:Expr}{l:List D}{d:D}{p1 pos:Pos}
noncomputable def ixD(d:D):List D→Option Nat
 |[]=>none
 |x::r=>if deq x d=true then some 0 else(ixD d r).map (· + 1)
end
end L2
end
section
namespace L2
open PySem PySem.Spec PyProof.Rows
section
variable{X:Cx}{pins:k87}{σ:St}{H:Hp}{l q S I:Addr}{xs:List V}{R:Result→Shared→Prop}
end
section
variable{X:Cx}{ρ:Rho}{σ:St}{H:Hp}{q:Addr}{f:Str}{l:List D}{xs:List V}{kf:Nat→Int}{a:Expr}{d:D}{p p1 pk pos:Pos}
end
end L2
end
section
namespace L2
open PySem PySem.Spec PyProof.Rows
section
variable{X:Cx}{pins:k87}{σ:St}{H:Hp}{l S I:Addr}{xs:List V}{R:Result→Shared→Prop}
def jgj(X:Cx)(pins:k87)(σ:St)(H:Hp)(xs:List V)(bt:Nat→Nat→Bool):Prop:=∀(i j:Nat)(x y:V)(u v:Value)(s:Shared)(Q:k86)(E:k86),xs[i]?=some x→xs[j]?=some y→RelV x u→RelV y v→Inv X pins σ H s →
 Q (.bool (bt i j)) s→wpAny (model X.prog X.w) X.A.in1 (richCompare .Lt u v) Q E s
theorem jbg(bt:Nat→Nat→Bool)(hh:X.A.handled=none)(hl:SqL X.K H l xs)(hSI:S≠I)(fS:Z1 X pins H S)(fI:Z1 X pins H I)(cmp:jgj X pins σ H xs bt)
  (hR:∀x u s',xs[argBest bt (xs.length-1)]?=some x→RelV x u→Inv X pins σ H s'→R (.ok (.ret u)) s') :
  ∀(r j:Nat)(s:Shared)(x:V)(u:Value)(c:Nat),xs.length-(j+1)=r→j+1≤xs.length→Inv X pins σ H s→s.heap.get? S=some (seqObj "list" #[u,u] c) →
   s.heap.IsListIter I l (j+1)→xs[argBest bt j]?=some x→RelV x u→codeAny (model X.prog X.w) X.A (.builtin "min.loop" ⟨[.ref I,.none,.ref S],[]⟩) R s:=by
 have hname:(toString "min" ++ toString ".loop":String) = "min.loop":=by decide
 have fp:∀b∈[S,I],Z1 X pins H b:=fun b hb=>by
  rcases xm.mp hb with e|hb
  ·subst e;exact fS
  ·rw[xu.mp hb];exact fI
 intro r;induction r with
 |zero =>
  intro j s x u c hr hj I1 oS it hx ru;have hin:j+1=xs.length:=by omega
  obtain⟨its,rv,p,_⟩:=I1.list hl;have hlen:=rv.length;refine codeAny_builtin PySem.F.entry_min_loop ?_;rw[T8 Pk _];show wpAny _ X.A.in1 (seqItems? (.ref S) >>= _) _ _ _;refine wpAny_bind (wpAny_seqItems oS rfl ?_);show wpAny _ X.A.in1 (tryCatch (pyNext (.ref I)) _ >>= _) _ _ _;refine wpAny_bind (wpAny_tryCatch (wpAny_pyNext_list_end hh it p.isList (by simp;omega) fun h' eb=>?_));have I2:Inv X pins σ H { s with heap:=h' }:=I1.chg (ch:=[S,I]) fp fun b o hb e=>eb b o (fun z=>hb (by simp[z])) e;have oS':h'.get? S=some (seqObj "list" #[u,u] c):=eb S _ hSI oS;show wpAny _ X.A.in1 (updateSeq S (fun _=>#[]) >>= _) _ _ _;refine wpAny_bind ?_;refine wpAny_updateSeq oS' rfl (wpAny_bind (wpAny_letGo (wpAny_pure ?_)));have s1:=t8 h' S (Obj.mapSeq fun _=>(#[]:Array Value));exact hR x u _ (by rw[←hin];exact hx) ru (I2.chg (ch:=[S,I]) fp fun b o hb e=>(s1.2 b (fun z=>hb (by simp[z]))).trans e)
 |succ r ih =>
  intro j s x u c hr hj I1 oS it hx ru;have hlt:j+1<xs.length:=by omega
  obtain⟨its,rv,p,_⟩:=I1.list hl;have hlen:=rv.length;have hx1:xs[j+1]?=some xs[j+1]:=by simp[hlt]
  obtain⟨v,hv,rv1⟩:=rv.get hx1;refine codeAny_builtin PySem.F.entry_min_loop ?_;rw[T8 Pk _];show wpAny _ X.A.in1 (seqItems? (.ref S) >>= _) _ _ _;refine wpAny_bind (wpAny_seqItems oS rfl ?_);show wpAny _ X.A.in1 (tryCatch (pyNext (.ref I)) _ >>= _) _ _ _;refine wpAny_bind (wpAny_tryCatch (wpAny_pyNext_list_item it p.isList (x:=v) (by simpa using hv) fun h' it' sb=>?_));have I2:Inv X pins σ H { s with heap:=h' }:=I1.chg (ch:=[S,I]) fp fun b o hb e=>(sb.2 b (fun z=>hb (by simp[z]))).trans e;have oS':h'.get? S=some (seqObj "list" #[u,u] c):=(sb.2 S hSI).trans oS;obtain⟨oI,eI,cI,dI⟩:=id it';show wpAny _ X.A.in1 (tryCatch (holding [v,v] (richCompare .Lt v u >>= _)) _ >>= _) _ _ _;refine wpAny_bind (wpAny_tryCatch (wpAny_holding (wpAny_bind (cmp (j+1) (argBest bt j) _ _ v u _ _ _ hx1 hx rv1 ru I2 ?_))));refine wpAny_bind (wpAny_holding (wpAny_truthy_bool ?_));refine wpAny_bind (wpAny_letGo (wpAny_pure ?_));cases hb:bt (j+1) (argBest bt j) with
  |true =>
   have s1:=t8 h' S (Obj.mapSeq fun _=>#[v,v]);obtain⟨c2,hc2⟩:∃c2,(h'.update S (Obj.mapSeq fun _=>#[v,v])).get? S=some (seqObj "list" #[v,v] c2):=⟨_,get?_update_seq oS' fun _=>#[v,v]⟩
   simp only[if_true];refine wpAny_bind ?_;refine wpAny_updateSeq oS' rfl (wpAny_bind (wpAny_letGo ?_));rw[hname];exact wpAny_pure ⟨plainId_quiet Pk _,ih (j+1) _ _ v c2 (by omega) hlt (I2.chg (ch:=[S,I]) fp fun b o hb e=>(s1.2 b (fun z=>hb (by simp[z]))).trans e) hc2
    ⟨oI,(s1.2 I hSI.symm).trans eI,cI,dI⟩ (by simp only[argBest,hb,if_true];exact hx1) rv1⟩
  |false =>simp only[Xw,if_false];refine wpAny_bind (wpAny_letGo ?_);rw[hname];exact wpAny_pure ⟨plainId_quiet Pk _,ih (j+1) _ x u c (by omega) hlt I2 oS' ⟨oI,eI,cI,dI⟩ (by simp only[argBest,hb,Xw,if_false];exact hx) ru⟩
theorem jef(bt:Nat→Nat→Bool)(hh:X.A.handled=none){s:Shared}{Q:VK}{E:k86}(I0:Inv X pins σ H s)(hl:SqL X.K H l xs)(hne:0<xs.length)(cmp:jgj X pins σ H xs bt)
  (hQ:∀x,xs[argBest bt (xs.length-1)]?=some x→Q x H):wpAny (model X.prog X.w) X.A (call (.builtin "min") [.ref l]) (EP X pins σ Q) E s:=by
 have hname:(toString "min" ++ toString ".loop":String) = "min.loop":=by decide
 obtain⟨its0,rv0,p0,_⟩:=I0.list hl;refine call_function_tree PySem.F.kind_min PySem.F.plain_min PySem.F.entry_min (PySem.F.args_min1 _) ?_;show wpAny _ X.A.in1 (Builtin.Builtins.bindParams "min" ["key","default"] 0 ⟨[],[]⟩ >>= _) _ _ s;refine wpAny_bind (wpAny_of_eq (show Builtin.Builtins.bindParams "min" ["key","default"] 0 ⟨[],[]⟩=pure [none,none]from rfl) ?_);refine wpAny_bind (wpAny_pure ?_);refine wpAny_bind (wpAny_pyIter_list p0.isList ?_);refine wpAny_bind (wpAny_newList ?_ (Nat.zero_le _));rw[hname];generalize hA:s.heap.push { cls:=.type "list_iterator",data:=.fields #[.ref l,.int 0 0] }=h1;have z1:h1.objs.size=s.heap.objs.size+1:=by rw[←hA];exact size_push' ..
 have gI:(h1.push (seqObj "list" #[] 0)).get? s.heap.objs.size=some { cls:=.type "list_iterator",data:=.fields #[.ref l,.int 0 0] }:=by rw[←hA];exact xj _ (X5 _ rfl)
 have gS:(h1.push (seqObj "list" #[] 0)).get? h1.objs.size=some (seqObj "list" #[] 0):=X5 _ rfl;have I1:Inv X pins σ H { s with heap:=h1.push (seqObj "list" #[] 0) }:=I0.kept (t':=s.toks) fun b o e=>xj _ (by rw[←hA];exact xj _ e);have fI:Z1 X pins H s.heap.objs.size:=I0.fpOk (xx _) (I0.hok.fresh (xx _));have fS:Z1 X pins H h1.objs.size:=I0.fpOk (by rw[z1];exact T6 _) (I0.hok.fresh (by rw[z1];exact T6 _));have hSI:h1.objs.size≠s.heap.objs.size:=by rw[z1];exact tu (Nat.lt_succ_self _)
 have fp:∀b∈[h1.objs.size,s.heap.objs.size],Z1 X pins H b:=fun b hb=>by
  rcases xm.mp hb with e|hb
  ·subst e;exact fS
  ·rw[xu.mp hb];exact fI
 refine wpAny_pure ⟨plainId_quiet Pk _,?_⟩;obtain⟨its,rv,p,_⟩:=I1.list hl;have hlen:=rv.length;have hx0:xs[0]?=some xs[0]:=by simp[hne]
 obtain⟨v,hv,rv1⟩:=rv.get hx0;refine codeAny_builtin PySem.F.entry_min_loop ?_;rw[T8 Pk _];show wpAny _ X.A.in1 (seqItems? (.ref _) >>= _) _ _ _;refine wpAny_bind (wpAny_seqItems gS rfl ?_);show wpAny _ X.A.in1 (tryCatch (pyNext (.ref s.heap.objs.size)) _ >>= _) _ _ _;refine wpAny_bind (wpAny_tryCatch (wpAny_pyNext_list_item (i:=0) ⟨_,gI,rfl,rfl⟩ p.isList (x:=v) (by simpa using hv) fun h' it' sb=>?_));have I2:Inv X pins σ H { s with heap:=h' }:=I1.chg (ch:=[h1.objs.size,s.heap.objs.size]) fp fun b o hb e=>(sb.2 b (fun z=>hb (by simp[z]))).trans e;have oS':h'.get? h1.objs.size=some (seqObj "list" #[] 0):=(sb.2 _ hSI).trans gS;obtain⟨oI,eI,cI,dI⟩:=id it';have s1:=t8 h' h1.objs.size (Obj.mapSeq fun _=>#[v,v]);obtain⟨c2,hc2⟩:∃c2,(h'.update h1.objs.size (Obj.mapSeq fun _=>#[v,v])).get? h1.objs.size=some (seqObj "list" #[v,v] c2):=⟨_,get?_update_seq oS' fun _=>#[v,v]⟩
 show wpAny _ X.A.in1 (updateSeq h1.objs.size (fun _=>#[v,v]) >>= _) _ _ _;refine wpAny_bind ?_;refine wpAny_updateSeq oS' rfl ?_;rw[hname];exact wpAny_pure ⟨plainId_quiet Pk _,jbg bt hh hl hSI fS fI cmp (fun x u s' hx ru I=>⟨x,H,I,ru,hQ x hx⟩) _ 0 _ _ v c2 rfl hne
  (I2.chg (ch:=[h1.objs.size,s.heap.objs.size]) fp fun b o hb e=>(s1.2 b (fun z=>hb (by simp[z]))).trans e) hc2 ⟨oI,(s1.2 _ hSI.symm).trans eI,cI,dI⟩ hx0 rv1⟩
end
noncomputable def Ja(l:List (List Int))(i j:Nat):Bool:=HT.lexLt (l.getD i []) (l.getD j [])
section
variable{X:Cx}{ρ:Rho}{a:Expr}{l:List (List Int)}{k:List Int}{p pos:Pos}
theorem DT.minT (hu:X.A.units+100<cLine) (hcalm:X.calm=true) (hm:X.mg "min" = none) (hg:Gl X "min") (ha:DT X ρ a (.lst (l.map fun k=>D.tup (k.map D.int)))) (hk:l[argBest (Ja l) (l.length-1)]?=some k) (hs:starEach [a] X.env=[(false,eval a X.env)]) :
  DT X ρ (.Call (.Name "min" p) [a] [] pos) (.tup (k.map D.int)):=fun σ H Q R q pins s I=>by
 refine wpAny_Call_Name_kw (Vv I hg hm boot_min ?_ (by decide) (by decide));refine callWith_builtin1 (thn ((jd (es:=[]) peS jw hs).to (σ:=σ) (H:=H) (Q:=fun vs H1=>∃v,vs=[v]∧j0 H H1∧Enc X.K H1 (.lst (l.map fun k=>D.tup (k.map D.int))) v) (ha σ H _ R fun v H1 g1 e1=>⟨v,rfl,g1,e1⟩) pos pins s I) fun us s1 ⟨vs,H1,I1,r1,v,ev,g1,e1⟩=>?_) hs rfl;subst ev;obtain⟨b,xs,eb,sq,en⟩:=e1;subst eb;obtain⟨u,eu,ru⟩:=r1.one;subst eu;cases(show u=Value.ref b from ru);have hlen:xs.length=l.length:=by rw[en.length,km]
 have hin:=(Xa.mp hk).1;have item:∀{i:Nat}{x:V},xs[i]?=some x→∃t,x=.ref t∧SqT X.K H1 t ((l.getD i []).map V.int)∧Enc X.K H1 (.tup ((l.getD i []).map D.int)) x:=fun{i x} hx=>by
  obtain⟨d,hd,ed⟩:=en.get' hx;rw[X7]at hd;obtain⟨k',hk',ek⟩:=P0.mp hd;subst ek;have eg:l.getD i []=k':=by rw[xf,hk'];rfl
  rw[eg];obtain⟨t,ys,e1,sq',l'⟩:=id ed;rw[v8 l']at sq';exact⟨t,e1,sq',ed⟩
 refine jef (Ja l) (I.ok.hd hcalm) I1 sq (by omega) (fun i j x y u v s2 Q2 E2 hx hy rx ry I2 hq=>?_) fun x hx=>?_
 ·obtain⟨t,e1,s1',_⟩:=item hx;obtain⟨t',e2,s2',_⟩:=item hy;subst e1 e2;cases rx;cases ry;obtain⟨its,r1,p1,_⟩:=I2.tuple s1';obtain⟨its2,r2,p2,_⟩:=I2.tuple s2';exact HT.lt_tupInts (A:=X.A.in1) p1 p2 (intsAre_of r1) (intsAre_of r2) (by show X.A.units+1<cLine;omega) hq
 ·rw[hlen]at hx;obtain⟨t,e1,_,ed⟩:=item hx;have eg:l.getD (argBest (Ja l) (l.length-1)) []=k:=by rw[xf,hk];rfl
  rw[eg]at ed;exact q x H1 g1 ed
end
end L2
end
section
namespace L2
open PySem PySem.Spec PyProof.Rows
section
variable{X:Cx}{ρ:Rho}{it e2:Expr}{P:Po}{ds:List D}{x t:Nat}{nx nt:Str}{p1 p2 p3 p4 p10 p11 p12 p14 p16 p17 p18:Pos}
noncomputable abbrev j9e(nx nt:Str)(it e2:Expr)(p1 p2 p3 p4 p10 p11 p12 p14 p16 p17 p18:Pos):List Stmt :=
 [.Assign [.Name nx p1] (.Dict [] [] p2) p3,.For (.Name nt p4) it [.Assign [.Subscript (.Name nx p10) (.Name nt p11) p12] e2 p14] [] p16,.Return (some (.Name nx p17)) p18]
theorem DSs.wmake(W:Nat→Rho→List (List Int)→List Int→Prop)(rx:x<ρ.length)(rt:t<ρ.length)(hxt:x≠t)(hi:DI X (ρ.set x .un) (.Name nt p4) it ds)(h0:W 0 (ρ.set x .un) [] [])
  (hs:∀i d ρ' ks ns,ds[i]?=some d→W i ρ' ks ns→∃k n,d=.tup (k.map D.int)∧DE X ((ρ'.set t (.val d)).set x (.val (.dct ks (ns.map D.int)))) e2 (.int n) ∧
   ks.contains k=false∧ks.length<sizeLine∧W (i+1) (ρ'.set t (.val d)) (ks++[k]) (ns++[n]))
  (hd:∀ρ' ks ns,W ds.length ρ' ks ns→P.rt (.val (.dct ks (ns.map D.int))))
  (hu:X.A.units+100<cLine) (hc:X.calm=true) (hp:PassesOwn (model X.prog X.w) X.A X.env X.xe) (hN:X.N.Nodup) (hX:X.N[x]?=some nx) (hT:X.N[t]?=some nt)
  (lx:Loc X.env.scope nx) (lt:Loc X.env.scope nt) (fx:X.fn nx=true∨X.env.scope.names.lookup nx=some .local) (ft:X.fn nt=true∨X.env.scope.names.lookup nt=some .local)
  (dx:(nx==k89)=false) (cx:(nx==k8a)=false) (dt:(nt==k89)=false) (ct:(nt==k8a)=false)
  (s1:swapsWith (.Dict [] [] p2) (some (.Name nx p1)) p3.line X.env=pure false)
  (s3:swapsWith e2 (some (.Subscript (.Name nx p10) (.Name nt p11) p12)) p14.line X.env=pure false) (hf:∀x,foldedSetIterable it X.env x=pure x) :
  DSs X ρ (j9e nx nt it e2 p1 p2 p3 p4 p10 p11 p12 p14 p16 p17 p18) P:=fun σ H E R q=>by
 have vis:∀{z:Str},Loc X.env.scope z→Vis X.env.scope z:=fun h=>h.elim .inl fun z=>.inr (.inl z);refine(Vc (Yu hN hX lx j1m s1 fx) (Vc (Io hp hc piS (W4 hN hT lt ft) (Mj (j1k hu (zr hX (vis lx) dx cx) (zr hT (vis lt) dt ct) peS s3)) hf)
  (Mj (W3 (zr hX (vis lx) dx cx))))).to ?_
 intro a ha;have R0:Rep X.K (ρ.set x .un) (σ.set x (some (.ref a))) H:=R.set_un;have hxl:x<σ.length:=by rw[R.len];exact rx
 refine N6 (A:=[a]) (R':=fun J F=>j0 H F∧Ua X.K (del F (owns (ρ.set x .un))) J ds) (fun b hb=>.inr ⟨[],0,by rw[xu.mp hb];exact j9⟩) (by rw[Bk ha];exact hi _ H _ R0 fun J F g ok=>⟨g,ok⟩) fun J F ⟨g,ok⟩ hn=>?_;rw[De j9];have fa:F a=none:=hn a (by simp);refine⟨fun i m σ' H'=>∃ρ' Fh xs ep ns,H'=upd Fh a (.dI xs ep)∧Fh a=none∧Rep X.K ρ' σ' Fh∧j0 F Fh∧(∀b∈owns ρ',b∈owns (ρ.set x .un))∧ρ'.length=ρ.length∧σ'[x]?=some (some (.ref a)) ∧
   (∀z∈xs,SqT X.K Fh z.2.1 (z.1.map V.int))∧Vals (ns.map V.int) (xs.map fun z=>z.2.2)∧W i ρ' (xs.map fun z=>z.1) ns∧m=ds.length-i∧i≤ds.length,
  ⟨ds.length,ρ.set x .un,F,[],0,[],rfl,fa,R0.grow g,j0.refl _,fun b hb=>hb,by simp,Zm hxl,fun z hz=>(nomatch hz),.nil,h0,rfl,Nat.zero_le _⟩,?_⟩
 rintro i m σ' H' ⟨ρ',Fh,xs,ep,ns,rfl,fha,R',gF,sub,hL,sx,kt,rv,w,rfl,hle⟩;have gU:j0 Fh (upd Fh a (.dI xs ep)):=j6 fha;obtain⟨go,stop,yld⟩:=ok i (upd Fh a (.dI xs ep)) (a::owns ρ') (fun b o eb=>by
  obtain⟨nb,eb⟩:=of_del eb
  have nba:b≠a:=fun z=>by rw[z,fa]at eb;cases eb
  rw[j5,jb nba]
  ·exact gF b o eb
  ·intro z
   rcases xm.mp z with z|z
   ·exact nba z
   ·exact nb (sub b z)) (fun b hb=>by
  rcases xm.mp hb with z|z
  ·rw[z,j9];simp
  ·obtain⟨ys,eb⟩:=R'.owned b z
   rw[gU _ _ eb];simp)
 by_cases hlt:i<ds.length
 ·obtain⟨k,n,ed,hE2,nk,hkl,w'⟩:=hs i ds[i] ρ' _ ns (kh hlt) w;refine .inr ⟨go hlt,fun σ2 H2=>∃ρ2 Fh2 xs2 ep2 ns2,H2=upd Fh2 a (.dI xs2 ep2)∧Fh2 a=none∧Rep X.K ρ2 σ2 Fh2∧j0 F Fh2∧(∀b∈owns ρ2,b∈owns (ρ.set x .un))∧ρ2.length=ρ.length∧σ2[x]?=some (some (.ref a)) ∧
   (∀z∈xs2,SqT X.K Fh2 z.2.1 (z.1.map V.int))∧Vals (ns2.map V.int) (xs2.map fun z=>z.2.2)∧W (i+1) ρ2 (xs2.map fun z=>z.1) ns2,
   fun σ2 H2 ⟨ρ2,Fh2,xs2,ep2,ns2,z1,z2,z3,z4,z5,z5',z6,z7,z8,z10⟩=>⟨ds.length-(i+1),by omega,ρ2,Fh2,xs2,ep2,ns2,z1,z2,z3,z4,z5,z5',z6,z7,z8,z10,rfl,hlt⟩,fun v H2 yv=>?_⟩
  obtain⟨g2,en⟩:=yld v H2 yv;have en:=en _ (kh hlt);have h2a:H2 a=some (.dI xs ep):=g2 _ _ j9;have e2:H2=upd (del H2 [a]) a (.dI xs ep):=j1b h2a;have f2a:del H2 [a] a=none:=q8 (by simp);have gF2:j0 Fh (del H2 [a]):=fun b o eb=>by
   have nb:b≠a:=fun z=>by rw[z,fha]at eb;cases eb
   rw[j5 (by simpa using nb)];exact g2 b o (gU b o eb)
  have en2:Enc X.K (del (del H2 [a]) (owns ρ')) ds[i] v:=by rw[Qu];exact en
  generalize del H2 [a]=F2 at e2 f2a gF2 en2;subst e2;have R2:Rep X.K (ρ'.set t (.val ds[i])) (σ'.set t (some v)) F2:=(R'.grow gF2).set_val en2;have sub2:∀b∈owns (ρ'.set t (.val ds[i])),b∈owns (ρ.set x .un):=fun b hb=>sub b ((jk rfl).subset hb);have sx3:(σ'.set t (some v))[x]?=some (some (.ref a)):=by rw[qi (Ne.symm hxt)];exact sx
  have lenN:σ'.length=ρ.length:=by rw[R'.len,hL]
  have htl:t<σ'.length:=by rw[lenN];exact rt
  have hL3:(ρ'.set t (.val ds[i])).length=ρ.length:=by rw[T7,hL]
  have st3:(σ'.set t (some v))[t]?=some (some v):=Zm htl;have kt3:∀z∈xs,SqT X.K F2 z.2.1 (z.1.map V.int):=fun z hz=>gF2.seqT (kt z hz);rw[ed]at en2;obtain⟨tb,ys,ev,sq,li⟩:=en2;rw[v8 li]at sq;subst ev;have sq3:SqT X.K F2 tb (k.map V.int):=jm.seqT sq;show Jo X e2 (σ'.set t (some (V.ref tb))) (upd F2 a (.dI xs ep)) _;generalize σ'.set t (some (V.ref tb))=σ3 at R2 sx3 st3 ⊢;generalize ρ'.set t (.val ds[i])=ρ3 at R2 sub2 hL3 hE2 w' ⊢;have g4:j0 F2 (upd F2 a (.dI xs ep)):=j6 f2a;have hO:∀b∈owns ρ3,Hd (upd F2 a (.dI xs ep) b):=fun b hb=>.inl (let ⟨zs,e⟩:=R2.owned b hb;⟨zs,g4 _ _ e⟩);have na:a∉owns ρ3:=fun z=>by obtain⟨zs,e⟩:=R2.owned a z;rw[f2a]at e;cases e
  have R4:Rep X.K (ρ3.set x (.val (.dct (xs.map fun z=>z.1) (ns.map D.int)))) σ3 (upd F2 a (.dI xs ep)):=by
   have z:=(R2.grow g4).set_val (i:=x) (d:=.dct (xs.map fun z=>z.1) (ns.map D.int)) (v:=.ref a) ⟨a,xs,ep,ns.map V.int,rfl,by rw[j5 na];exact j9,rfl,fun z hz=>?_,rv,j02 hO (vm ns) (j4.ints ns)⟩
   ·rw[Oi sx3]at z;exact z
   ·have e:Enc X.K (upd F2 a (.dI xs ep)) (.tup (z.1.map D.int)) (.ref z.2.1):=⟨_,_,rfl,g4.seqT (kt3 z hz),j4.ints z.1⟩
    obtain⟨b,zs,e1,e2,e3⟩:=e.hide hO (by rw[Qp];exact vm z.1);cases e1;rw[v8 e3]at e2;exact e2
  refine hE2 σ3 _ _ R4 fun v4 H4 g5 en4=>?_;cases(show v4=.int n from en4);have h4a:H4 a=some (.dI xs ep):=g5 _ _ j9;have f4a:del H4 [a] a=none:=q8 (by simp);have gF4:j0 F2 (del H4 [a]):=fun b o eb=>by
   have nb:b≠a:=fun z=>by rw[z,f2a]at eb;cases eb
   rw[j5 (by simpa using nb)];exact g5 b o (g4 b o eb)
  have gU4:j0 (del H4 [a]) H4:=jm;refine⟨.ref a,sx3,.ref tb,st3,a,tb,xs,ep,k,rfl,h4a,fun z hz=>gU4.seqT (gF4.seqT (kt3 z hz)),rfl,gU4.seqT (gF4.seqT sq3),nk,by rw[km]at hkl;exact hkl,fun u ep' ru=>?_⟩;refine⟨ρ3,del H4 [a],xs++[(k,tb,u)],ep',ns++[n],?_,f4a,R2.grow gF4,gF.trans (gF2.trans gF4),sub2,hL3,sx3,fun z hz=>?_,?_,by rw[Xj];exact w'⟩
  ·funext b
   by_cases z:b=a
   ·subst z;rw[j9,j9]
   ·rw[jb z,jb z,j5 (by simpa using z)]
  ·rcases t7.mp hz with hz|hz
   ·exact gF4.seqT (kt3 z hz)
   ·rw[xu.mp hz];exact gF4.seqT sq3
  ·rw[Xj,Xj];exact rv.append (.cons ru .nil)
 ·have e:i=ds.length:=by omega
  subst e;refine .inl ⟨stop (xx _),.ref a,sx,?_⟩;refine q.rt (.val (.dct _ (ns.map D.int))) (.ref a) _ (hd ρ' _ ns w) ⟨fun b o eb=>gU b o (gF b o (g b o (of_del eb).2)),a,xs,ep,ns.map V.int,rfl,j9,rfl,fun z hz=>gU.seqT (kt z hz),rv,j4.ints ns⟩
end
end L2
end
section
namespace L2
open PySem PySem.Spec PyProof.Rows
noncomputable def jfp(kvs:List (Str×Int))(k:Str):Option Int:=(kvs.find? fun p=>decide (p.1=k)).map fun p=>p.2
noncomputable def jiy(kvs:List (Str×Int))(k:Str):Bool:=kvs.any fun p=>decide (p.1=k)
noncomputable def dput(kvs:List (Str×Int))(k:Str)(n:Int):List (Str×Int):=if jiy kvs k=true then kvs.map fun p=>if p.1=k then(p.1,n)else p else kvs++[(k,n)]
section
variable{X:Cx}{ρ:Rho}{a b e k:Expr}{rest:List Stmt}{P:Po}{kvs:List (Str×Int)}{z:Str}{n:Int}{i j:Nat}{nx ny:Str}{pos pos' p p1 p2 p3 p4 p5 p6 p7 p8:Pos}{td ty tv:TE}{o value:Expr}
end
end L2
end
section
namespace L2
open PySem PySem.Spec PyProof.Rows
section
variable{prog:Program}{w:World}{A:Around}{E:k86}{s:Shared}
end
section
variable{prog:Program}{w:World}{A:Around}{E:k86}{s:Shared}{l1 l2:Bool}{z TI TO i1 i2 t1 t2 p:Addr}{f:Bool}{op:Obj}{k:Nat}{us vs:Array Value}{x y a b:Value}
end
section
variable{X:Cx}{pins:k87}{σ:St}{z TI TO i1 i2 t1 t2 d:Addr}{l1 l2:Bool}{ks:List Str}{ns:List Int}{A:Around}{R:Result→Shared→Prop}
end
section
variable{X:Cx}{ρ:Rho}{a b:Expr}{ks:List Str}{ns:List Int}{p p2 p3 p4:Pos}
end
end L2
end
section
namespace L2
open PySem PySem.Spec PyProof.Rows
section
variable{X:Cx}{ρ:Rho}{a e:Expr}{es:List Expr}{x:Str}{d:D}{p p1 p2 pos:Pos}{y:Str}{ds:List D}
theorem Du.grow{σ:St}{H H':Hp}(k:Du X σ H x)(g:j0 H H'):Du X σ H' x:=fun pins H2 s' e C I g2 hC Fe=>k pins H2 s' e C I (g.trans g2) hC Fe
theorem DXA.head(ha:DX X ρ a x)(hs:starEach (a::es) X.env=(false,eval a X.env)::starEach es X.env):DXA X ρ (a::es) x:=fun σ H Q R k =>(jd peS paS hs).to (ha σ H _ R k)
theorem DXA.tail(ha:DT X ρ a d)(h:DXA X ρ es x)(hs:starEach (a::es) X.env=(false,eval a X.env)::starEach es X.env):DXA X ρ (a::es) x:=fun σ H Q R k =>(jd peS paS hs).to (ha σ H _ R fun v H1 g _=>h σ H1 _ (R.grow g) (k.grow g))
theorem DX.args {f:Str} (ha:DXA X ρ (e::es) x) (hg:Gl X f) (hdb:(f==k89)=false) {fa:Addr} (hfa:X.mg f=some (.ref fa)) (hk:W.keepIn X.K (.ref fa)=true)
  (he:starEach (e::es) X.env=(false,eval e X.env)::starEach es X.env) (hpl:(backTo pos (starEach es X.env)).any (·.1)=false):DX X ρ (.Call (.Name f p) (e::es) [] pos) x:=fun σ H Q R k pins s I=>by
 refine wpAny_Call_Name_kw (Zf I hg hfa ?_ hdb);exact W.callWith_K (h₀:=X.base) I.ok.mod.kin hk (thn (ha σ H (fun _ _=>False) R k pos pins s I) fun us s1 ⟨vs,H1,I1,r,z⟩=>z.elim) he hpl
end
end L2
end
section
namespace L2
open PySem PySem.Spec PyProof.Rows
noncomputable def Ry:List Int→Int
 |[]=>0
 |a::r=>r.foldl max a
theorem j7s:∀(r:List Int)(a:Int),a≤r.foldl max a
 |[],a=>Tg a
 |b::r,a=>by rw[List.foldl_cons];have:=j7s r (max a b);omega
theorem Cw:∀(r:List Int)(a:Int),r.foldl max a∈a::r∧∀b∈a::r,b≤r.foldl max a
 |[],a=>⟨xu.mpr rfl,fun b hb=>by rw[xu.mp hb];exact Tg _⟩
 |c::r,a=>by
  rw[List.foldl_cons];obtain⟨h1,h2⟩:=Cw r (max a c);refine⟨?_,fun b hb=>?_⟩
  ·rcases xm.mp h1 with z|z
   ·rw[z];by_cases q:a≤c
    ·rw[Int.max_eq_right q];exact kj _ xq
    ·rw[Int.max_eq_left (by omega)];exact xq
   ·exact kj _ (kj _ z)
  ·have l:=h2 (max a c) xq;rcases xm.mp hb with z|z
   ·rw[z];omega
   ·rcases xm.mp z with z|z
    ·rw[z];omega
    ·exact h2 b (kj _ z)
theorem Eh{ns:List Int}(h:ns≠[]):Ry ns∈ns∧∀b∈ns,b≤Ry ns:=by
 cases ns with
 |nil=>exact absurd rfl h
 |cons a r=>exact Cw r a
theorem jbj{ns:List Int}{M:Int}(h1:M∈ns)(h2:∀a∈ns,a≤M):Ry ns=M:=by
 have hn:ns≠[]:=fun e=>by rw[e]at h1;exact nomatch h1
 obtain⟨a,b⟩:=Eh hn;have:=h2 _ a;have:=b _ h1;omega
noncomputable def Zn(ns:List Int):Int:=-Ry (ns.map fun n=>-n)
theorem Ef{ns:List Int}(h:ns≠[]):Zn ns∈ns∧∀b∈ns,Zn ns≤b:=by
 obtain⟨h1,h2⟩:=Eh (ns:=ns.map fun n=>-n) (by simpa using h);obtain⟨a,ha,e⟩:=Xf.mp h1;unfold Zn;refine⟨?_,fun b hb=>?_⟩
 ·rw[←e,Int.neg_neg];exact ha
 ·have:=h2 _ (Xf.mpr ⟨b,hb,rfl⟩);omega
theorem j1r{ns:List Int}{M:Int}(h1:M∈ns)(h2:∀a∈ns,M≤a):Zn ns=M:=by
 obtain⟨a,b⟩:=Ef (ns:=ns) fun e=>by rw[e]at h1;exact nomatch h1
 have:=h2 _ a;have:=b _ h1;omega
section
variable{X:Cx}{ρ:Rho}{a b e:Expr}{es:List Expr}{x y:Str}{d:D}{i j:Int}{p p1 p2 p3 p4 pk pos:Pos}{ds:List D}
theorem j9d{pins:k87}{s:Shared}{σ:St}{H:Hp}{l:Addr}{ns:List Int}(I:Inv X pins σ H s)(sq:SqL X.K H l (ns.map V.int))(hne:ns≠[]):∃zs,s.heap.IsList l (intItems zs)∧0<zs.size∧zs.size=ns.length∧∀i,i<zs.size→numAt zs i=ns.getD i 0:=by
 obtain⟨its,rv,pl,_⟩:=I.list sq;have hl:its.length=ns.length:=by rw[←rv.length,km]
 have val:∀(i:Nat)(v:Value),its[i]?=some v→∃t,v=Value.int (ns.getD i 0) t:=by
  intro i v hv;have hi:i<its.length:=(Xa.mp hv).1;have hi':i<ns.length:=by omega
  obtain⟨w1,hw,rw1⟩:=rv.get (x:=.int (ns.getD i 0)) (i:=i) (by rw[X7,kh hi',xf,kh hi'];rfl);rw[hw]at hv;cases hv;exact rw1
 have hall:AllInts its.toArray:=by intro v hv;obtain⟨i,hi,e⟩:=T9.mp (show v∈its by simpa using hv);obtain⟨t,e'⟩:=val i v (by rw[kh hi,e]);exact⟨_,t,e'⟩
 obtain⟨zs,hz⟩:=hall.items;have pl':=pl.isList;rw[hz]at pl';have hsz:0<zs.size:=by
  have:its.toArray.size=(intItems zs).size:=by rw[hz]
  have h1:0<ns.length:=List.length_pos_iff.mpr hne;simp[intItems]at this;omega
 have hns:∀i,i<zs.size→numAt zs i=ns.getD i 0:=by
  intro i hi;obtain⟨v1,e1⟩:∃v,(intItems zs)[i]?=some v:=⟨_,Array.getElem?_eq_getElem (by simpa [intItems]using hi)⟩
  obtain⟨t,ht⟩:=intItems_at e1;rw[←hz]at e1;obtain⟨t',ht'⟩:=val i _ (by simpa using e1);rw[ht]at ht';exact(Value.int.inj ht').1
 have len:zs.size=ns.length:=by
  have:its.toArray.size=(intItems zs).size:=by rw[hz]
  simp[intItems]at this;omega
 exact⟨zs,pl',hsz,len,hns⟩
theorem j6c (hc:X.calm=true):Jj X (.builtin "max") (fun xs H Q=>∃(l:Addr)(ns:List Int),xs=[.ref l]∧SqL X.K H l (ns.map V.int)∧ns≠[]∧Q (.int (Ry ns)) H):=by
 rintro pins s σ H xs us Q I r ⟨l,ns,e,sq,hne,q⟩;subst e;obtain⟨u,eu,ru⟩:=vals1 r;subst eu;cases ru;obtain⟨zs,pl',hsz,len,hns⟩:=j9d I sq hne;refine max_intList (I.ok.hd hc) pl' hsz fun v h' tk hv hk=>?_;obtain⟨t,rfl⟩:=intItems_at hv;obtain⟨h1,h2⟩:=argBest_gt (numAt zs) (zs.size-1);have hM:Ry ns=numAt zs (argBest (fun i j=>decide (numAt zs i>numAt zs j)) (zs.size-1)):=by
  refine jbj ?_ fun c hc=>?_
  ·rw[hns _ (by omega)];rw[xf,kh (by omega)];exact Ph _
  ·obtain⟨k,hk,rfl⟩:=T9.mp hc;have:=h2 k (by omega);rw[hns k (by omega),xf,kh hk]at this;exact this
 rw[hM]at q;exact⟨.int _,H,I.kept hk,⟨t,rfl⟩,q⟩
theorem j6a (hc:X.calm=true):Jj X (.builtin "min") (fun xs H Q=>∃(l:Addr)(ns:List Int),xs=[.ref l]∧SqL X.K H l (ns.map V.int)∧ns≠[]∧Q (.int (Zn ns)) H):=by
 rintro pins s σ H xs us Q I r ⟨l,ns,e,sq,hne,q⟩;subst e;obtain⟨u,eu,ru⟩:=vals1 r;subst eu;cases ru;obtain⟨zs,pl',hsz,len,hns⟩:=j9d I sq hne;refine min_intList (I.ok.hd hc) pl' hsz fun v h' tk hv hk=>?_;obtain⟨t,rfl⟩:=intItems_at hv;obtain⟨h1,h2⟩:=argBest_lt (numAt zs) (zs.size-1);have hM:Zn ns=numAt zs (argBest (fun i j=>decide (numAt zs i<numAt zs j)) (zs.size-1)):=by
  refine j1r ?_ fun c hc=>?_
  ·rw[hns _ (by omega)];rw[xf,kh (by omega)];exact Ph _
  ·obtain⟨k,hk,rfl⟩:=T9.mp hc;have:=h2 k (by omega);rw[hns k (by omega),xf,kh hk]at this;exact this
 rw[hM]at q;exact⟨.int _,H,I.kept hk,⟨t,rfl⟩,q⟩
theorem DE.max2 (ha:DT X ρ a (.int i)) (hb:DT X ρ b (.int j)) (hm:X.mg "max" = none) (hc:X.calm=true) (hg:Gl X "max") (hs:starEach [a,b] X.env=(false,eval a X.env)::starEach [b] X.env) (hs2:starEach [b] X.env=(false,eval b X.env)::starEach [] X.env)
  (hpl:(backTo pos (starEach [b] X.env)).any (·.1)=false):DE X ρ (.Call (.Name "max" p) [a,b] [] pos) (.int (if j>i then j else i)):=fun σ H Q R q =>
 (zx (j6d hc) hg hm boot_max (jd peS (jd peS jw hs2) hs) (by decide) (by decide) hs hpl).to (ha σ H _ R fun v H1 g1 e1=>hb σ H1 _ (R.grow g1) fun u H2 g2 e2=>⟨i,j,by rw[show v=.int i from e1,show u=.int j from e2],q _ H2 (g1.trans g2) rfl⟩)
theorem DE.maxL {ns:List Int} (ha:DT X ρ a (.lst (ns.map D.int))) (hn:ns≠[]) (hm:X.mg "max" = none) (hc:X.calm=true) (hg:Gl X "max") (hs:starEach [a] X.env=[(false,eval a X.env)]):DE X ρ (.Call (.Name "max" p) [a] [] pos) (.int (Ry ns)):=fun σ H Q R q =>(zx (j6c hc) hg hm boot_max (jd peS jw hs) (by decide) (by decide) hs).to (ha σ H _ R fun v H1 g1 ⟨l,xs,e,sq,en⟩=>⟨l,ns,by rw[e],by rw[v8 en]at sq;exact sq,hn,q _ H1 g1 rfl⟩)
theorem DE.minL {ns:List Int} (ha:DT X ρ a (.lst (ns.map D.int))) (hn:ns≠[]) (hm:X.mg "min" = none) (hc:X.calm=true) (hg:Gl X "min") (hs:starEach [a] X.env=[(false,eval a X.env)]):DE X ρ (.Call (.Name "min" p) [a] [] pos) (.int (Zn ns)):=fun σ H Q R q =>(zx (j6a hc) hg hm boot_min (jd peS jw hs) (by decide) (by decide) hs).to (ha σ H _ R fun v H1 g1 ⟨l,xs,e,sq,en⟩=>⟨l,ns,by rw[e],by rw[v8 en]at sq;exact sq,hn,q _ H1 g1 rfl⟩)
theorem jhi {K:k85} {fd:FuncData} {ps:List Str} (hn:0<ps.length) (h:∀(s:Shared)(us:List Value)(w:Value),K.In s.heap→us.length+1=ps.length→BindsTo s fd ⟨us,[("prices",w)]⟩ (ps.zip (us++[w]))):KBinds K fd ps ["prices"] kG kGV :=
 ⟨fun s us ws hK hl=>by
  match ws,hl with
  |[w],hl=>exact h s us w hK (by simpa [kG]using hl)
  |[],hl=>exact absurd hl (X8 hn)
  |_::_::_,hl=>exact absurd hl (X8 hn),fun{vs us zs ws} r1 r2=>by
  cases r2 with
  |nil=>exact .nil
  |cons a b =>
   cases b with
   |nil=>exact r1.append (.cons a .nil)
   |cons _ _=>exact .nil⟩
end
end L2
end
section
namespace L2
open PySem PySem.Spec PyProof.Rows
section
variable{X:Cx}{ρ:Rho}{p1 p2 p3 p4 p5 p6 q1 pos:Pos}
end
section
variable{X:Cx}{ρ:Rho}{p1 p2 p3 p4 p5 p6 q1 pos:Pos}
end
end L2
end
section
namespace L2
open PySem PySem.Spec PyProof.Rows
noncomputable def ch1(c:Nat):Str:=⟨#[c]⟩
noncomputable def chs(y:Str):List D:=y.cps.toList.map fun c=>D.str (ch1 c)
noncomputable def ascii(y:Str):Bool:=y.cps.all (· < 128)
noncomputable def Its(y:Str):It:=⟨fun i _=>i<y.cps.size,fun i H x H'=>H'=H∧∃c,y.cps[i]?=some c∧x=.str (ch1 c),fun i _=>y.cps.size≤i⟩
theorem j6q {P:Program} {w:World} {K:k85} {tg:Expr} (it:Addr) (y:Str) (t:Tok):Turn P w K tg (Its y) [it] it (fun i h=>h.IsStrIter it "str_ascii_iterator" y t i) where
 mem:=by simp
 obj:=fun i h st b hb=>by
  have e:b=it:=by simpa using hb
  subst e;obtain⟨o,e,c,d⟩:=st;exact⟨o,e,fun v z=>by rw[d]at z;cases z⟩
 keep:=fun i h h' st k=>let ⟨o,e,r⟩:=st;⟨o,k it (by simp) o e,r⟩
 item:=by intro X hP hw hK hc i pins s σ H E I hf st hg;subst hP hw hK;obtain⟨f0,f1,f2,f3,f4,f5⟩:=hf it (by simp);have W:=Walks.strAscii (prog:=X.prog) (w:=X.w) (I.ok.hd hc) it y t;refine W.item i s _ _ hg st fun v h' tk hv st' kk=>?_;obtain⟨c,u,hcu,rfl⟩:=hv;have I1:Inv X pins σ H { s with heap:=h',toks:=tk }:=I.turned (fun b o hb e=>kk b o (by simpa using hb) e) f0 f1 f3 f4 f5;obtain⟨o,e,oc,d⟩:=id st';exact⟨_,rfl,K9 (s:={ s with heap:=h',toks:=tk }) e oc d (by decide) ⟨.str (ch1 c),H,I1,⟨u,rfl⟩,⟨rfl,c,hcu,rfl⟩,st',fun b hb=>(hf b hb).1⟩⟩
 done:=by intro X hP hw hK hc i pins s σ H E I hf st hg;subst hP hw hK;obtain⟨f0,f1,f2,f3,f4,f5⟩:=hf it (by simp);exact wpAny_pyNext_ascii_end (I.ok.hd hc) st (by have:y.cps.size≤i:=hg;simp;omega) fun h' eb=>⟨rfl,I.turned (t':=s.toks) (fun b o hb e=>eb b o hb e) f0 f1 f3 f4 f5⟩
 self:=fun _ _ _ _ _ st h=>wpAny_pyIter_striter_ascii st h
section
variable{X:Cx}{ρ:Rho}{a b c e tg it:Expr}{y z:Str}{i j k:Int}{p p2 pos:Pos}
theorem j7x{K:k85}{F:Hp}(y:Str):Ua K F (Its y) (chs y):=fun i H A g hA=>by
 have hl:(chs y).length=y.cps.size:=by unfold chs;rw[km,Array.length_toList]
 rw[hl];refine⟨fun h=>h,fun h=>h,fun x H' ⟨e,c,hc,ex⟩=>?_⟩;subst e ex;refine⟨j0.refl _,fun d hd=>?_⟩;unfold chs at hd;rw[X7,Array.getElem?_toList,hc]at hd;cases hd;rfl
theorem DI.str(h:DT X ρ it (.str y))(ha:ascii y=true):DI X ρ tg it (chs y):=fun σ H R r q pins s I=>by
 refine thn (h σ H (fun v H1=>v=.str y∧j0 H H1) r (fun v H1 g e=>⟨e,g⟩) pins s I) fun v s1 ⟨x,H1,I1,r1,ex,g1⟩=>?_;subst ex;obtain⟨t,rfl⟩:=(show ∃t,v=Value.str y t from r1)
 refine wpAny_pyIter_ascii ha ?_;refine⟨s1.heap.objs.size,[s1.heap.objs.size],_,_,H1,rfl,I1.kept (t':=s1.toks) fun b o e=>xj _ e,j6q _ y t,⟨_,X5 _ rfl,rfl,rfl⟩,fun b hb=>?_,q _ H1 g1 (j7x y)⟩;have e:b=s1.heap.objs.size:=by simpa using hb
 subst e;exact I1.fpOk (xx _) (I1.hok.fresh (xx _))
noncomputable def inS(y z:Str):Bool:=!(Builtin.Str.occurrences z y 0 z.length 1).isEmpty
theorem Ck:OpR X (compareOp .Gt) (fun x y H Q=>∃i j,x=.str i∧y=.str j∧Q (.bl (decide (j.cps.toList<i.cps.toList))) H):=by intro pins s σ H x y v u Q I rx ry h;obtain⟨i,j,rfl,rfl,q⟩:=h;obtain⟨t,rfl⟩:=rx;obtain⟨t',rfl⟩:=ry;exact P.gt_str (jq I q rfl)
theorem DE.ltS(ha:DT X ρ a (.str y))(hb:DT X ρ b (.str z)):DE X ρ (.Compare a [.Lt] [b] pos) (.bl (decide (y.cps.toList<z.cps.toList))):=fun σ H Q R q =>(Jq Ci peS peS (qy _)).to (ha σ H _ R fun v H1 g1 e1=>hb σ H1 _ (R.grow g1) fun u H2 g2 e2=>⟨y,z,e1,e2,q _ H2 (g1.trans g2) rfl⟩)
theorem DB.ltS(ha:DT X ρ a (.str y))(hb:DT X ρ b (.str z)):DB X ρ (.Compare a [.Lt] [b] pos) (decide (y.cps.toList<z.cps.toList)):=fun σ H Q R q =>(Jp Ci peS peS (qy _)).to (ha σ H _ R fun v H1 g1 e1=>hb σ H1 _ (R.grow g1) fun u H2 g2 e2=>⟨y,z,e1,e2,_,rfl,q H2 (g1.trans g2)⟩)
theorem DE.gtS(ha:DT X ρ a (.str y))(hb:DT X ρ b (.str z)):DE X ρ (.Compare a [.Gt] [b] pos) (.bl (decide (z.cps.toList<y.cps.toList))):=fun σ H Q R q =>(Jq Ck peS peS (qy _)).to (ha σ H _ R fun v H1 g1 e1=>hb σ H1 _ (R.grow g1) fun u H2 g2 e2=>⟨y,z,e1,e2,q _ H2 (g1.trans g2) rfl⟩)
theorem DB.gtS(ha:DT X ρ a (.str y))(hb:DT X ρ b (.str z)):DB X ρ (.Compare a [.Gt] [b] pos) (decide (z.cps.toList<y.cps.toList)):=fun σ H Q R q =>(Jp Ck peS peS (qy _)).to (ha σ H _ R fun v H1 g1 e1=>hb σ H1 _ (R.grow g1) fun u H2 g2 e2=>⟨y,z,e1,e2,_,rfl,q H2 (g1.trans g2)⟩)
theorem DE.inS(ha:DT X ρ a (.str y))(hb:DT X ρ b (.str z))(hm:behindInMarks .In b=false):DE X ρ (.Compare a [.In] [b] pos) (.bl (inS y z)):=fun σ H Q R q =>(Jq Cj peS peS hm).to (ha σ H _ R fun v H1 g1 e1=>hb σ H1 _ (R.grow g1) fun u H2 g2 e2=>⟨y,z,e1,e2,q _ H2 (g1.trans g2) rfl⟩)
theorem DB.inS(ha:DT X ρ a (.str y))(hb:DT X ρ b (.str z))(hm:behindInMarks .In b=false):DB X ρ (.Compare a [.In] [b] pos) (inS y z):=fun σ H Q R q =>(Jp Cj peS peS hm).to (ha σ H _ R fun v H1 g1 e1=>hb σ H1 _ (R.grow g1) fun u H2 g2 e2=>⟨y,z,e1,e2,_,rfl,q H2 (g1.trans g2)⟩)
theorem mulOk_of(h1:1≤k∧k≤1000)(h2:y.length≤1000):MulOk y k:=by
 refine⟨?_,fun _ _=>?_,fun _ _=>?_⟩
 ·simp;omega
 ·have:(1000:Int)≤(2^63-1)/k:=Int.le_ediv_of_mul_le (by omega) (by omega);omega
 ·have hk:k.toNat≤1000:=by omega
  have:y.length*k.toNat≤1000000:=Nat.mul_le_mul h2 hk;unfold Builtin.Str.tooLong;rw[sizeLine_eq];simp;omega
theorem j2y:OpR X (binaryOp .Mult) (fun x y H Q=>∃i k,x=.str i∧y=.int k∧MulOk i k∧Q (.str (Txt.mul i k)) H):=by intro pins s σ H x y v u Q I rx ry h;obtain⟨i,k,rfl,rfl,hm,q⟩:=h;obtain⟨t,rfl⟩:=rx;obtain⟨t',rfl⟩:=ry;exact SB.mul hm fun t' tk=>⟨.str _,H,I.un (t':=tk) Un.refl I.hok,⟨_,rfl⟩,q⟩
theorem DE.mulS(ha:DT X ρ a (.str y))(hb:DT X ρ b (.int k))(h1:1≤k∧k≤1000)(h2:y.length≤1000):DE X ρ (.BinOp a .Mult b pos) (.str (Txt.mul y k)):=fun σ H Q R q =>(Ui j2y peS peS).to (ha σ H _ R fun v H1 g1 e1=>hb σ H1 _ (R.grow g1) fun u H2 g2 e2=>⟨y,k,e1,e2,mulOk_of h1 h2,q _ H2 (g1.trans g2) rfl⟩)
end
end L2
end
section
namespace L2
noncomputable def Zq(t:Int):List Int:=if t=2 then[0,1] else[t]
noncomputable def step(acc:List (List Int))(f:List Int):List (List Int):=acc.flatMap fun a=>f.map fun x=>a++[x]
noncomputable def qe(fs:List (List Int)):List (List Int):=fs.foldl step [[]]
noncomputable def Jc:List (List Int)→List (List Int)
 |[]=>[[]]
 |f::fs=>f.flatMap fun x=>(Jc fs).map (x :: ·)
theorem Nk:∀(fs:List (List Int)) (acc:List (List Int)),fs.foldl step acc=acc.flatMap fun a=>(Jc fs).map (a ++ ·)
 |[],acc=>by simp[Jc]
 |f::fs,acc=>by
  rw[List.foldl_cons,Nk fs,step,List.flatMap_assoc];congr 1
  funext a
  rw[Jc,List.map_flatMap,List.flatMap_map];congr 1
  funext x
  rw[Xe];congr 1
  funext r
  simp
theorem Zx(fs:List (List Int)):qe fs=Jc fs:=by rw[qe,Nk];simp
noncomputable def Vm:Nat→List (List Int)
 |0=>[[]]
 |m+1=>(Vm m).map (0 :: ·)++(Vm m).map (1 :: ·)
theorem Ij:∀m,(Vm m).length=2^m
 |0=>rfl
 |m+1=>by rw[Vm,X6,km,km,Ij m,Nat.pow_succ];omega
theorem Bg{b:Int}(hb:0<b)(n c:Int):∀{i m:Nat},i≤m→jn b i (n+b^m*c)=jn b i n
 |0,m,_=>rfl
 |i+1,m,h=>by
  rw[jn,jn,Bg hb n c (by omega)];congr 1;obtain⟨k,rfl⟩:∃k,m=i+(k+1):=⟨m-i-1,by omega⟩
  have hp:b^i≠0:=Int.ne_of_gt (Int.pow_pos hb);rw[Int.pow_add,Int.mul_assoc,Int.add_mul_ediv_left _ _ hp,Int.pow_succ,Int.mul_comm (b^k) b,Int.mul_assoc,Int.add_mul_emod_self_left]
theorem Ik:∀m:Nat,(List.range (2^m)).map (fun n=>jn 2 m ((n:Nat):Int))=Vm m
 |0=>rfl
 |m+1=>by
  have e:2^(m+1)=2^m+2^m:=by rw[Nat.pow_succ];omega
  rw[e,List.range_add,Xj,Vm,←Ik m,Xe,Xe,Xe];have pc:((2^m:Nat):Int)=(2:Int)^m:=by simp
  congr 1
  ·apply List.map_congr_left;intro n hn;have hn':n<2^m:=Xg.mp hn;show jn 2 (m+1) (n:Int)=0::jn 2 m (n:Int);rw[jn];congr 1;have h0:(n:Int)/2^m=0:=Int.ediv_eq_zero_of_lt (by omega) (by rw[←pc];omega);rw[h0];rfl
  ·apply List.map_congr_left;intro n hn;have hn':n<2^m:=Xg.mp hn;show jn 2 (m+1) ((2^m+n:Nat):Int)=1::jn 2 m (n:Int);have e1:((2^m+n:Nat):Int)=(n:Int)+2^m*1:=by rw[Int.natCast_add,pc,Int.mul_one,Int.add_comm]
   rw[e1,jn,Bg (by decide) _ _ (xx m)];congr 1;have hp:(2:Int)^m≠0:=Int.ne_of_gt (Int.pow_pos (by decide));have h0:(n:Int)/2^m=0:=Int.ediv_eq_zero_of_lt (by omega) (by rw[←pc];omega);rw[Int.add_mul_ediv_left _ _ hp,h0];rfl
noncomputable def fits:List Int→List Int→Bool
 |t::ts,x::xs=>(t==2 || t==x)&&fits ts xs
 |_,_=>true
theorem M5:∀{p:List Int},(∀t∈p,0≤t∧t<3)→(Vm p.length).filter (fits p)=Jc (p.map Zq)
 |[],_=>rfl
 |t::ts,h=>by
  have ih:=M5 (p:=ts) fun u hu=>h u (kj _ hu);rw[X4,Vm,List.filter_append,xr,Jc,←ih];have key:∀x:Int,((Vm ts.length).map (x :: ·)).filter (fits (t::ts))=if (t==2 || t==x)=true then((Vm ts.length).filter (fits ts)).map (x :: ·) else[]:=fun x=>by
   rw[List.filter_map];by_cases c:(t==2 || t==x)=true
   ·rw[if_pos c];congr 1;apply List.filter_congr;intro r _;show((t==2 || t==x)&&fits ts r)=fits ts r;rw[c,Bool.true_and]
   ·rw[if_neg c];have:(fits (t::ts) ∘ fun r=>x::r)=fun _=>false:=by
     funext r
     show((t==2 || t==x)&&fits ts r)=false;rw[Bool.eq_false_iff.mpr c,Bool.false_and]
    rw[this];simp
  rw[key 0,key 1];have ht:=h t (xq ..);have:t=0∨t=1∨t=2:=by omega
  rcases this with e|e|e<;>subst e<;>simp[Zq]
theorem Yv:∀p:List Int,(Jc (p.map Zq)).length=2^(p.countP fun t=>t==2)
 |[]=>rfl
 |t::ts=>by
  have ih:=Yv ts;rw[xr,Jc,Py];by_cases c:t=2
  ·subst c;simp[Zq,ih,Nat.pow_succ];omega
  ·have e1:Zq t=[t]:=if_neg c;have e2:(t==2)=false:=by simpa using c
   rw[e1,e2];simp[ih]
end L2
end
section
namespace L2
open PySem
inductive Sv where
 |un
 |val (d:D)
 |own (l:List D)
 |exc (x:Str)
noncomputable abbrev En:=List Sv
set_option genInjectivity true in
inductive Rk where
 |e (d:D)
 |o (l:List D)
 |w (l:List D)
 |t (d:D)
noncomputable def Rk.d:Rk→D
 |.e d=>d
 |.o l=>.lst l
 |.w l=>.lst l
 |.t d=>d
noncomputable def Rk.st:Rk→Option D
 |.e d=>some d
 |.o l=>some (.lst l)
 |.w l=>none
 |.t d=>if Qp d=true then some d else none
noncomputable def Rk.sq:Rk→Option (Bool×List D)
 |.e (.lst l)=>some (true,l)
 |.e (.tup l)=>some (false,l)
 |.o l=>some (true,l)
 |.w l=>some (true,l)
 |_=>none
noncomputable def Rk.lw:Rk→Option (List D)
 |.o l=>some l
 |.w l=>some l
 |_=>none
inductive Rc where
 |val (d:D)
 |fresh (l:List D)
 |err (x:Str)
 |lval (d:D)
 |no
noncomputable def Rc.rk:Rc→Option Rk
 |.val d=>some (.e d)
 |.fresh l=>some (.o l)
 |_=>none
inductive Bop where
 |add|sub|mul|fdiv|mod|pow|shl|shr|band|bxor
inductive Cop where
 |lt|le|gt|ge|eq|ne|isin|notin
inductive Bf where
 |len|min|max|all|tuple|list|sum|int|any|sorted
inductive Mf where
 |count
inductive Ex where
 |lit (d:D)
 |var (i:Nat)
 |glob (x:Str)
 |bin (op:Bop) (a b:Ex)
 |neg (a:Ex)
 |cmp (op:Cop) (a b:Ex)
 |isN (a:Ex)
 |and (a b:Ex)
 |or (a b:Ex)
 |not (a:Ex)
 |ite (c a b:Ex)
 |nil
 |cons (a b:Ex)
 |tup (es:Ex)
 |lst (es:Ex)
 |ix (a b:Ex)
 |sl (a lo hi:Ex)
 |call (f:Str) (es:Ex)
 |blt (f:Bf) (es:Ex)
 |meth (m:Mf) (a es:Ex)
 |isi (a:Ex) (ts:List String)
 |comp (is:List Nat) (elt it cond:Ex)
 |seq (a:Ex)
 |range (es:Ex)
 |fst (es:Ex)
 |isx (i:Nat) (cs:List Str)
 |join (sep:Str) (a:Ex)
 |enum (a:Ex)
 |dzip (a b:Ex)
 |callD (f:Str) (es:Ex)
 |chn (a b c:Ex)
 |callK (f:Str) (es a:Ex)
 |dix (a b:Ex)
 |dnil
 |rpr (a:Ex)
 |upr (a:Ex)
 |din (a b:Ex)
 |items (a:Ex)
 |callV (i:Nat) (es:Ex)
 |dget (a b:Ex)
 |dvals (a:Ex)
 |minT (a:Ex)
set_option genInjectivity true in
inductive W where
 |v (r:Rk)
 |a (rs:List Rk)
 |i (ds:List D)
noncomputable def ji(n:Nat):Bool:=decide (n≤sizeLine)
noncomputable def binI:Bop→Int→Int→Option Int
 |.add,i,j=>some (i+j)
 |.sub,i,j=>some (i-j)
 |.mul,i,j=>if (-(2^64)<i∧i<2^64)∨(-(2^64)<j∧j<2^64)then some (i*j)else none
 |.fdiv,i,j=>if 0<j∧j<18446744073709551616 then some (i/j)else none
 |.mod,i,j=>if 0<j then some (i%j)else none
 |.pow,i,j=>if 0≤j∧j≤1000000∧i.natAbs<2^64 then some (i^j.toNat)else none
 |.shl,i,j=>if 0≤j∧j≤1000000∧i.natAbs<2^64 then some (i*2^j.toNat)else none
 |.shr,i,j=>if 0≤j then some (i/2^j.toNat)else none
 |.band,i,j=>some (Builtin.bitAnd i j)
 |.bxor,i,j=>some (Builtin.bitXor i j)
noncomputable def Y8(op:Bop)(a b:Rk):Option Rk :=
 match a.d,b.d with
 |.int i,.int j=>(binI op i j).map fun k=>.e (.int k)
 |.str y,.str z=>match op with
  |.add=>if ji (y.length+z.length)=true then some (.e (.str (y++z)))else none
  |_=>none
 |.str y,.int k=>match op with
  |.mul=>if (1≤k∧k≤1000)∧y.length≤1000 then some (.e (.str (PySem.Txt.mul y k)))else none
  |_=>none
 |_,_=>match op,a.sq,b.sq,b.d with
  |.add,some (true,l),some (true,m),_=>if ji (l.length+m.length)=true then some (.o (l++m))else none
  |.add,some (false,l),some (false,m),_=>if ji (l.length+m.length)=true then some (.e (.tup (l++m)))else none
  |.mul,some (false,l),_,.int k=>if 1≤k∧k<2^63∧l.isEmpty=false∧ji (l.length*k.toNat)=true then some (.e (.tup (List.replicate k.toNat l).flatten))else none
  |.mul,_,_,.int k=>match a.lw with
   |some l=>if -(2^63)≤k∧k<2^63∧ji (l.length*k.toNat)=true then some (.o (List.replicate k.toNat l).flatten)else none
   |none=>none
  |_,_,_,_=>none
noncomputable def cmpI:Cop→Int→Int→Option Bool
 |.lt,i,j=>some (decide (i<j))
 |.le,i,j=>some (decide (i≤j))
 |.gt,i,j=>some (decide (j<i))
 |.ge,i,j=>some (decide (j≤i))
 |.eq,i,j=>some (decide (i=j))
 |.ne,i,j=>some (!decide (i=j))
 |_,_,_=>none
noncomputable def D.sqv:D→Option (Bool×List D)
 |.lst l=>some (true,l)
 |.tup l=>some (false,l)
 |_=>none
noncomputable def Zw(op:Cop)(a b:D):Option Bool :=
 match op,a,b with
 |op,.int i,.int j=>cmpI op i j
 |.eq,a,b=>if a.dep≤90∧b.dep≤90 then some (deq a b)else none
 |.ne,.bl a,.bl b=>some (a != b)
 |.ne,.str a,.str b=>some (!decide (a=b))
 |.ne,.non,.non=>some false
 |.ne,.lst l,.lst m=>if D.depL l≤90∧D.depL m≤90 then some (!vd l m)else none
 |.ne,.tup l,.tup m=>if D.depL l≤90∧D.depL m≤90 then some (!vd l m)else none
 |.isin,.str a,.str b=>some (inS a b)
 |.lt,.str a,.str b=>some (decide (a.cps.toList<b.cps.toList))
 |.gt,.str a,.str b=>some (decide (b.cps.toList<a.cps.toList))
 |.isin,a,b=>match b.sqv with
  |some (_,l)=>if D.depL l≤90∧a.dep≤90 then some (l.any fun e=>deq e a)else none
  |none=>none
 |.notin,a,b=>match b.sqv with
  |some (_,l)=>if D.depL l≤90∧a.dep≤90 then some (!l.any fun e=>deq e a)else none
  |none=>none
 |_,_,_=>none
noncomputable def boolsOf:List D→Option (List Bool)
 |[]=>some []
 |.bl b::r=>(boolsOf r).map (b :: ·)
 |_::_=>none
noncomputable def intsOf:List D→Option (List Int)
 |[]=>some []
 |.int b::r=>(intsOf r).map (b :: ·)
 |_::_=>none
noncomputable def strsOf:List D→Option (List Str)
 |[]=>some []
 |.str b::r=>(strsOf r).map (b :: ·)
 |_::_=>none
noncomputable def V3:Bf→List Rk→Option Rk
 |.len,[a]=>match a.d with
  |.lst l=>some (.e (.int l.length))
  |.tup l=>some (.e (.int l.length))
  |.str y=>if ji y.length=true then some (.e (.int y.length))else none
  |_=>none
 |.min,[a,b]=>match a.d,b.d with
  |.int i,.int j=>some (.e (.int (if j<i then j else i)))
  |_,_=>none
 |.max,[a,b]=>match a.d,b.d with
  |.int i,.int j=>some (.e (.int (if j>i then j else i)))
  |_,_=>none
 |.max,[a]=>match a.d with
  |.lst l=>match intsOf l with
   |some ns=>if ns.isEmpty=false then some (.e (.int (Ry ns)))else none
   |none=>none
  |_=>none
 |.min,[a]=>match a.d with
  |.lst l=>match intsOf l with
   |some ns=>if ns.isEmpty=false then some (.e (.int (Zn ns)))else none
   |none=>none
  |_=>none
 |.all,[a]=>match a.d with
  |.lst l=>(boolsOf l).map fun bs=>.e (.bl (bs.all id))
  |_=>none
 |.any,[a]=>match a.d with
  |.lst l=>(boolsOf l).map fun bs=>.e (.bl (bs.any id))
  |_=>none
 |.tuple,[a]=>match a.sq with
  |some (_,l)=>some (.e (.tup l))
  |none=>none
 |.list,[a]=>match a.sq with
  |some (_,l)=>some (.o l)
  |none=>none
 |.sum,[a]=>match a.d with
  |.lst l=>(intsOf l).map fun ns=>.e (.int ns.sum)
  |.tup l=>(intsOf l).map fun ns=>.e (.int ns.sum)
  |_=>none
 |.int,[a]=>match a.d with
  |.bl k=>some (.e (.int (if k then 1 else 0)))
  |_=>none
 |_,_=>none
noncomputable def K7:Mf→Rk→List Rk→Option Rk
 |.count,a,[b]=>match a.d with
  |.tup l=>if D.depL l≤90∧b.d.dep≤90 then some (.e (.int (l.countP fun e=>deq e b.d)))else none
  |.lst l=>if D.depL l≤90∧b.d.dep≤90 then some (.e (.int (l.countP fun e=>deq e b.d)))else none
  |_=>none
 |_,_,_=>none
noncomputable def jez(t c:String):Option Bool :=
 if t = "function" then none else
 if c = "int" then some (t == "int" || t == "bool") else
 if c = "bool" then some (t == "bool") else
 if c = "str" then some (t == "str") else
 if c = "list" then some (t == "list") else
 if c = "tuple" then some (t == "tuple")else none
noncomputable def j80(d:D):List String→Option Bool
 |[]=>some false
 |c::cs=>match jez d.ty c,j80 d cs with
  |some a,some b=>some (a || b)
  |_,_=>none
noncomputable def zq:List Nat→D→En→Option En
 |[i],d,ρ=>some (ρ.set i (.val d))
 |[i,j],d,ρ=>match d with
  |.tup [a,b]=>some ((ρ.set i (.val a)).set j (.val b))
  |_=>none
 |[i,j,k],d,ρ=>match d with
  |.tup [a,.tup [b,c]]=>some (((ρ.set i (.val a)).set j (.val b)).set k (.val c))
  |_=>none
 |[i,j,k,_],d,ρ=>match d with
  |.tup [a,b,c]=>some (((ρ.set i (.val a)).set j (.val b)).set k (.val c))
  |_=>none
 |_,_,_=>none
noncomputable def j3g(is:List Nat)(ρ:En):Bool:=is.all fun i=>match ρ[i]? with
 |some .un=>true
 |_=>false
noncomputable def Qh(f:D→Option (Option D)):List D→Option (List D)
 |[]=>some []
 |d::ds=>match f d,Qh f ds with
  |some (some x),some xs=>some (x::xs)
  |some none,some xs=>some xs
  |_,_=>none
noncomputable def zb:List Rk→Option (List D)
 |[]=>some []
 |r::rs=>match r.st,zb rs with
  |some d,some ds=>some (d::ds)
  |_,_=>none
noncomputable def W.one:W→Option Rk
 |.v r=>some r
 |_=>none
noncomputable def W.args:W→Option (List Rk)
 |.a rs=>some rs
 |_=>none
noncomputable def W.it:W→Option (List D)
 |.i ds=>some ds
 |_=>none
noncomputable def Zz:Option W→Option (Option Int)
 |some (.a [])=>some none
 |some (.a [r])=>match r.d with
  |.int i=>some (some i)
  |_=>none
 |_=>none
noncomputable def truth:Option W→Option Bool
 |some (.v r)=>match r.d with
  |.bl k=>some k
  |_=>none
 |_=>none
noncomputable def j87:Ex→Option Nat
 |.seq (.var i)=>some i
 |.enum (.var i)=>some i
 |_=>none
noncomputable def frz(t:Ex)(ρ:En):En:=match j87 t with
 |some i=>match ρ[i]? with
  |some (.own l)=>ρ.set i (.val (.lst l))
  |_=>ρ
 |none=>ρ
noncomputable def Jd(t:Ex)(ρ:En):Bool:=match j87 t with
 |some i=>match ρ[i]? with
  |some (.own _)=>true
  |_=>false
 |none=>false
noncomputable def zf:D→Option Str
 |.int i=>if -18446744073709551616<i∧i<18446744073709551616 then some (Str.ofString (toString i))else none
 |.str y=>if y.length≤2000 then some y else none
 |_=>none
noncomputable def vo:List Rk→Option (List Str)
 |[]=>some []
 |r::rs=>match zf r.d,vo rs with
  |some y,some ys=>some (y::ys)
  |_,_=>none
noncomputable def bang(x:Str):Str:=("!":Str)++x
noncomputable def qm(f:Str):Str:=("??":Str)++f
noncomputable def tupI:D→Option (List Int)
 |.tup l=>intsOf l
 |_=>none
noncomputable def j33(kf:D→Option Int):D→Int→List D→Option D
 |b,_,[]=>some b
 |b,kb,d::ds=>match kf d with
  |some k=>if k<kb then j33 kf d k ds else j33 kf b kb ds
  |none=>none
noncomputable def Wi:List D→Option (List (List Int))
 |[]=>some []
 |d::ds=>match tupI d,Wi ds with
  |some k,some ks=>some (k::ks)
  |_,_=>none
noncomputable def Rc.lv:Rc→Option W
 |.lval d=>some (.v (.e d))
 |_=>none
noncomputable def ev(Γ:Str→List D→Rc)(G:Str→Option D):Ex→En→Option W
 |.lit d,_=>some (.v (.e d))
 |.var i,ρ=>match ρ[i]? with
  |some (.val d)=>some (.v (.e d))
  |some (.own l)=>some (.v (.w l))
  |_=>none
 |.glob x,_=>(G x).map fun d=>.v (.e d)
 |.bin op a b,ρ=>match ev Γ G a ρ,ev Γ G b ρ with
  |some (.v x),some (.v y)=>(Y8 op x y).map .v
  |_,_=>none
 |.neg a,ρ=>match ev Γ G a ρ with
  |some (.v x)=>match x.d with
   |.int i=>some (.v (.e (.int (-i))))
   |_=>none
  |_=>none
 |.cmp op a b,ρ=>match ev Γ G a ρ,ev Γ G b ρ with
  |some (.v x),some (.v y)=>(Zw op x.d y.d).map fun k=>.v (.e (.bl k))
  |_,_=>none
 |.isN a,ρ=>match ev Γ G a ρ with
  |some (.v x)=>some (.v (.e (.bl x.d.isNon)))
  |_=>none
 |.and a b,ρ=>match truth (ev Γ G a ρ) with
  |some false=>some (.v (.e (.bl false)))
  |some true=>(truth (ev Γ G b ρ)).map fun k=>.v (.e (.bl k))
  |none=>none
 |.or a b,ρ=>match truth (ev Γ G a ρ) with
  |some true=>some (.v (.e (.bl true)))
  |some false=>(truth (ev Γ G b ρ)).map fun k=>.v (.e (.bl k))
  |none=>none
 |.not a,ρ=>(truth (ev Γ G a ρ)).map fun k=>.v (.e (.bl (!k)))
 |.ite c a b,ρ=>match truth (ev Γ G c ρ) with
  |some true=>match ev Γ G a ρ with
   |some (.v x)=>x.st.map fun d=>.v (.e d)
   |_=>none
  |some false=>match ev Γ G b ρ with
   |some (.v x)=>x.st.map fun d=>.v (.e d)
   |_=>none
  |none=>none
 |.nil,_=>some (.a [])
 |.cons a b,ρ=>match ev Γ G a ρ,ev Γ G b ρ with
  |some (.v x),some (.a xs)=>some (.a (x::xs))
  |_,_=>none
 |.tup es,ρ=>match ev Γ G es ρ with
  |some (.a rs)=>match zb rs with
   |some ds=>if ji ds.length=true then some (.v (.e (.tup ds)))else none
   |none=>none
  |_=>none
 |.lst es,ρ=>match ev Γ G es ρ with
  |some (.a rs)=>match zb rs with
   |some ds=>if ji ds.length=true then some (.v (.o ds))else none
   |none=>none
  |_=>none
 |.ix a b,ρ=>match ev Γ G a ρ,ev Γ G b ρ with
  |some (.v x),some (.v y)=>match x.sq,y.d with
   |some (_,l),.int i=>(atI l i).map fun d=>.v (.e d)
   |none,.int i=>match x.d with
    |.str z=>if ji z.length=true then(atI z.cps.toList i).map fun c=>.v (.e (.str ⟨#[c]⟩))else none
    |_=>none
   |_,_=>none
  |_,_=>none
 |.sl a lo hi,ρ=>match ev Γ G a ρ,Zz (ev Γ G lo ρ),Zz (ev Γ G hi ρ) with
  |some (.v x),some l,some h=>match x.sq with
   |some (true,ds)=>some (.v (.o (cutD ds l h)))
   |some (false,ds)=>if HT.sIx ds.length 0 l=0∧HT.sIx ds.length ds.length h=ds.length then none else some (.v (.e (.tup (cutD ds l h))))
   |none=>match x.d with
    |.str z=>if ji z.length=true then some (.v (.e (.str (Txt.slice z l h))))else none
    |_=>none
  |_,_,_=>none
 |.call f es,ρ=>match ev Γ G es ρ with
  |some (.a rs)=>match zb rs with
   |some ds=>(Γ f ds).rk.map .v
   |none=>match Γ f (rs.map Rk.d) with
    |.val d=>some (.v (.t d))
    |_=>none
  |_=>none
 |.blt f es,ρ=>match ev Γ G es ρ with
  |some (.a rs)=>(V3 f rs).map .v
  |_=>none
 |.meth m a es,ρ=>match ev Γ G a ρ,ev Γ G es ρ with
  |some (.v x),some (.a rs)=>(K7 m x rs).map .v
  |_,_=>none
 |.isi a ts,ρ=>match ev Γ G a ρ with
  |some (.v x)=>(j80 x.d ts).map fun k=>.v (.e (.bl k))
  |_=>none
 |.comp is elt it cond,ρ=>match ev Γ G it (frz it ρ) with
  |some (.i ds)=>if j3g is (frz it ρ)=true∧ji ds.length=true then
    (Qh (fun d=>match zq is d (frz it ρ) with
     |none=>none
     |some ρ2=>match ev Γ G cond ρ2 with
      |some (.a [])=>match ev Γ G elt ρ2 with
       |some (.v x)=>x.st.map some
       |_=>none
      |some (.a [y])=>match y.d with
       |.bl true=>match ev Γ G elt ρ2 with
        |some (.v x)=>x.st.map some
        |_=>none
       |.bl false=>some none
       |_=>none
      |_=>none) ds).bind fun l=>if (Jd it ρ && !zg l)=true then none else some (.v (.o l))
   else none
  |_=>none
 |.seq a,ρ=>match ev Γ G a ρ with
  |some (.v (.e (.lst l)))=>some (.i l)
  |some (.v (.e (.tup l)))=>some (.i l)
  |some (.v (.o l))=>some (.i l)
  |some (.v (.e (.str y)))=>if ascii y=true then some (.i (chs y))else none
  |_=>none
 |.chn a b c,ρ=>match ev Γ G a ρ,ev Γ G b ρ,ev Γ G c ρ with
  |some (.v x),some (.v y),some (.v z)=>match x.d,y.d,z.d with
   |.int i,.int j,.int k=>some (.v (.e (.bl (decide (i<j)&&decide (j<k)))))
   |_,_,_=>none
  |_,_,_=>none
 |.range es,ρ=>match ev Γ G es ρ with
  |some (.a [x])=>match x.d with
   |.int n=>if -(2^62)≤n∧n<2^62 then some (.i (upto 0 n.toNat))else none
   |_=>none
  |some (.a [x,y])=>match x.d,y.d with
   |.int m,.int n=>if -(2^62)≤m∧m<2^62∧-(2^62)≤n∧n<2^62 then some (.i (upto m (n-m).toNat))else none
   |_,_=>none
  |_=>none
 |.fst es,ρ=>match ev Γ G es ρ with
  |some (.a rs)=>if rs.length≤1000 then(vo rs).map fun ys=>.v (.e (.str (Ms Str.empty ys)))else none
  |_=>none
 |.isx i cs,ρ=>match ρ[i]?,G "?" with
  |some (.exc x),some (.bl true)=>if jr.contains x=true then some (.v (.e (.bl (cs.any fun c=>c == "ValueError" || x==c))))else none
  |_,_=>none
 |.join sep a,ρ=>match ev Γ G a ρ with
  |some (.v x)=>match x.d with
   |.lst l=>match strsOf l with
    |some ts=>if JoinOk sep ts=true then some (.v (.e (.str (Txt.join sep ts))))else none
    |none=>none
   |_=>none
  |_=>none
 |.enum a,ρ=>match ev Γ G a ρ with
  |some (.v x)=>match x.st with
   |some (.lst l)=>some (.i (Jf l))
   |some (.tup l)=>some (.i (Jf l))
   |_=>none
  |_=>none
 |.dzip a b,ρ=>match ev Γ G a ρ,ev Γ G b ρ with
  |some (.v x),some (.v y)=>match x.st.bind D.sqv,y.st.bind D.sqv with
   |some (_,l),some (_,m)=>match strsOf l,intsOf m with
    |some ks,some ns=>if ks.Nodup∧ks.length=ns.length∧ji ks.length=true then some (.v (.e (.sct (ks.zip ns))))else none
    |_,_=>none
   |_,_=>none
  |_,_=>none
 |.callD f es,ρ=>match ev Γ G es ρ with
  |some (.a rs)=>match zb rs with
   |some ds=>match Γ f (ds++[.non]) with
    |.val d=>some (.v (.e d))
    |_=>none
   |none=>none
  |_=>none
 |.callK f es a,ρ=>match ev Γ G es ρ,ev Γ G a ρ with
  |some (.a rs),some (.v x)=>match zb rs,x.st with
   |some ds,some d'=>match Γ f (ds++[d']) with
    |.val d=>some (.v (.e d))
    |_=>none
   |_,_=>none
  |_,_=>none
 |.dix a b,ρ=>match ev Γ G a ρ,ev Γ G b ρ with
  |some (.v x),some (.v y)=>match x.d,y.d with
   |.sct kvs,.str k=>(jfp kvs k).map fun n=>.v (.e (.int n))
   |_,_=>none
  |_,_=>none
 |.dnil,_=>some (.v (.e (.sct [])))
 |.rpr a,ρ=>match ev Γ G a ρ with
  |some (.v x)=>match x.d with
   |.str y=>if (reprText y).length≤2000 then some (.v (.e (.str (reprText y))))else none
   |_=>none
  |_=>none
 |.upr a,ρ=>match ev Γ G a ρ with
  |some (.v x)=>match x.d with
   |.str y=>if y.length≤1000 then some (.v (.e (.str (PySem.Txt.upper y))))else none
   |_=>none
  |_=>none
 |.din a b,ρ=>match ev Γ G a ρ,ev Γ G b ρ with
  |some (.v x),some (.v y)=>match x.d,y.d with
   |.tup l,.dct ks _=>(intsOf l).map fun k=>.v (.e (.bl (ks.contains k)))
   |_,_=>none
  |_,_=>none
 |.items a,ρ=>match ev Γ G a ρ with
  |some (.v (.e (.dct ks ds)))=>some (.i (j5g ks ds))
  |_=>none
 |.callV i es,ρ=>match ρ[i]?,ev Γ G es ρ with
  |some (.val (.fn x cs)),some (.a rs)=>match zb rs with
   |some ds=>if J6 ds=true then(Γ (jo x) (cs++ds)).lv else none
   |none=>none
  |_,_=>none
 |.dget a b,ρ=>match ev Γ G a ρ,ev Γ G b ρ with
  |some (.v (.e (.dct ks ds))),some (.v y)=>match tupI y.d with
   |some k=>(qw ks ds k).map fun d=>.v (.e d)
   |none=>none
  |_,_=>none
 |.dvals a,ρ=>match ev Γ G a ρ with
  |some (.v (.e (.dct _ ds)))=>some (.v (.e (.tup ds)))
  |_=>none
 |.minT a,ρ=>match ev Γ G a ρ with
  |some (.v x)=>match x.d with
   |.lst l=>match Wi l with
    |some ks=>(ks[argBest (Ja ks) (ks.length-1)]?).map fun k=>.v (.t (.tup (k.map D.int)))
    |none=>none
   |_=>none
  |_=>none
noncomputable def er(Γ:Str→List D→Rc)(G:Str→Option D):Ex→En→Option Str
 |.call f es,ρ=>match er Γ G es ρ with
  |some x=>if (G (qm f)).isSome=true then some x else none
  |none=>match ev Γ G es ρ with
   |some (.a rs)=>match Γ f (rs.map Rk.d) with
    |.err x=>if (G (bang x)).isSome=true then some x else none
    |_=>none
   |_=>none
 |.cons a b,ρ=>match er Γ G a ρ with
  |some x=>some x
  |none=>match ev Γ G a ρ with
   |some (.v _)=>er Γ G b ρ
   |_=>none
 |.ix a _,ρ=>er Γ G a ρ
 |.dzip a b,ρ=>match er Γ G a ρ with
  |some x=>some x
  |none=>match ev Γ G a ρ with
   |some (.v _)=>er Γ G b ρ
   |_=>none
 |_,_=>none
end L2
end
section
namespace L2
open PySem PySem.Spec PyProof.Rows
def DM(X:Cx)(ρ:Rho)(e:Expr)(s:Bool)(ds:List D):Prop:=∀σ H Q,Rep X.K ρ σ H→(∀a xs H',j0 H H'→SqB X.K s H' a xs→j4 X.K (del H' (owns ρ)) ds xs→Q (.ref a) H')→Jo X e σ H Q
section
variable{X:Cx}{ρ:Rho}{e a b c:Expr}{es:List Expr}{d:D}{ds ds':List D}{i j:Int}{pos p p2:Pos}{k:Nat}{x:Str}{s:Bool}
theorem jgv{K:k85}{H:Hp}{a:Addr}{xs:List V}(h:SqL K H a xs):SqB K true H a xs:=by unfold SqB;rw[if_pos rfl];exact h
theorem W2{K:k85}{H:Hp}{a:Addr}{xs:List V}(h:SqB K true H a xs):SqL K H a xs:=by unfold SqB at h;rw[if_pos rfl]at h;exact h
theorem Qk{K:k85}{H:Hp}{a:Addr}{xs:List V}(h:SqB K false H a xs):SqT K H a xs:=by unfold SqB at h;rw[if_neg xg]at h;exact h
theorem DE.toM(h:DE X ρ e (D.seq s ds)):DM X ρ e s ds:=fun σ H Q R q=>h σ H Q R fun v H1 g1 e1=>by obtain⟨t,xs,ev,sq,en⟩:=Vh e1;subst ev;exact q t xs H1 g1 (jm.seqB sq) en
theorem DL.toM(h:DL X ρ e ds):DM X ρ e true ds:=fun σ H Q R q=>h σ H Q R fun t xs H1 g1 m en=>q t xs H1 g1 (jgv (.inl (.inl m))) en
theorem DO.toM(h:DO X ρ e ds):DM X ρ e true ds:=h.toL.toM
def Has(X:Cx)(ρ:Rho)(e:Expr):Rk→Prop
 |.e d=>DE X ρ e d
 |.o l=>DO X ρ e l
 |.w l=>DL X ρ e l
 |.t d=>DT X ρ e d
theorem Has.toT:∀{r:Rk},Has X ρ e r→DT X ρ e r.d
 |.e _,h=>DE.toT h
 |.o _,h=>DL.toT (DO.toL h)
 |.w _,h=>DL.toT h
 |.t _,h=>h
theorem Has.toE:∀{r:Rk}{d:D},Has X ρ e r→r.st=some d→DE X ρ e d
 |.e _,_,h,q=>by cases q;exact h
 |.o _,_,h,q=>by cases q;exact DO.toE h
 |.w _,_,h,q=>by cases q
 |.t d',d,h,q=>by
  have q:(if Qp d'=true then some d' else none)=some d:=q;by_cases z:Qp d'=true
  ·rw[if_pos z]at q;cases q;exact DT.toE h z
  ·rw[if_neg z]at q;cases q
theorem Has.toM:∀{r:Rk}{s:Bool}{l:List D},Has X ρ e r→r.sq=some (s,l)→DM X ρ e s l
 |.e (.lst l),_,_,h,q=>by cases q;exact DE.toM (s:=true) h
 |.e (.tup l),_,_,h,q=>by cases q;exact DE.toM (s:=false) h
 |.e .non,_,_,_,q=>by cases q
 |.e (.bl _),_,_,_,q=>by cases q
 |.e (.int _),_,_,_,q=>by cases q
 |.e (.str _),_,_,_,q=>by cases q
 |.o l,_,_,h,q=>by cases q;exact DO.toM h
 |.w l,_,_,h,q=>by cases q;exact DL.toM h
 |.t _,_,_,_,q=>by cases q
theorem jbc:OpR X (binaryOp .Add) (fun x y H Q=>∃l b xs zs,x=.ref l∧y=.ref b∧SqL X.K H l xs∧SqL X.K H b zs∧xs.length+zs.length≤sizeLine∧∀p,H p=none→Q (.ref p) (upd H p (.lst (xs++zs)))):=by
 intro pins s σ H x y v u Q I rx ry h;obtain⟨l,b,xs,zs,e1,e2,hH,hB,hz,q⟩:=h;subst e1 e2;cases rx;cases ry;obtain⟨us,ru,⟨⟨c1,d1,f1,g1⟩,n1,h1,k1,w1,m1⟩,_⟩:=I.list hH;obtain⟨vs,rv,⟨⟨c2,d2,f2,g2⟩,n2,h2,k2,w2,m2⟩,_⟩:=I.list hB;have k1:c1=.type "list":=k1;have m1:f1=.seq us.toArray n1:=m1;have k2:c2=.type "list":=k2;have m2:f2=.seq vs.toArray n2:=m2;subst k1 m1 k2 m2;have l1:=ru.length;have l2:=rv.length;have ea:us.toArray++vs.toArray=(us++vs).toArray:=by simp
 refine concat_meets ⟨_,h1,rfl⟩ ⟨_,h2,rfl⟩ noFill_list_add seq_list_add PySem.F.slot_list_add PySem.F.entry_list_add (PySem.F.args_list_add_2 _ _)
  (list_addW l b us.toArray vs.toArray n1 n2 d1 d2 g1 g2 (by rw[X3,X3,←l1,←l2];exact hz)) ⟨h1,h2,?_⟩
 rw[ea];exact⟨.ref _,_,I.lnew (t':=s.toks) (ru.append rv) (by rw[X6];exact hz),rfl,q _ I.fresh⟩
theorem DO.catM(ha:DM X ρ a true ds)(hb:DM X ρ b true ds')(hl:ds.length+ds'.length≤sizeLine):DO X ρ (.BinOp a .Add b pos) (ds++ds'):=fun σ H Q R q =>
 (Ui jbc peS peS).to (ha σ H _ R fun l xs H1 g1 s1 e1=>hb σ H1 _ (R.grow g1) fun l' ys H2 g2 s2 e2 =>
  ⟨l,l',xs,ys,rfl,rfl,g2.seq (W2 s1),W2 s2,by rw[e1.length,e2.length];exact hl,fun p hp=>q p _ _ ((g1.trans g2).trans (j6 hp)) ((g1.trans g2).free hp) j9 (Wu hp ((e1.mono (je g2)).append e2))⟩)
theorem DE.catTM(ha:DM X ρ a false ds)(hb:DM X ρ b false ds')(hl:ds.length+ds'.length≤sizeLine):DE X ρ (.BinOp a .Add b pos) (.tup (ds++ds')):=fun σ H Q R q =>
 (Ui j7l peS peS).to (ha σ H _ R fun t xs H1 g1 sq l=>hb σ H1 _ (R.grow g1) fun t' ys H2 g2 sq' l'=>by
  have l2:=l.mono (je g2)
  have enT:∀{t:Addr}{xs:List V}{ds:List D},SqT X.K H2 t xs→j4 X.K (del H2 (owns ρ)) ds xs→Enc X.K (del H2 (owns ρ)) (.tup ds) (.ref t):=fun{t xs ds} sq l=>by
   refine⟨t,xs,rfl,?_,l⟩
   have ow:=(R.grow (g1.trans g2)).owned
   have out:∀{o:HO},H2 t=some o→(∀zs,o≠.lst zs)→del H2 (owns ρ) t=some o:=fun{o} h z=>by
    rw[j5];exact h
    intro y;obtain⟨zs,e'⟩:=ow t y;rw[h]at e';cases e';exact z zs rfl
   rcases sq with (h|⟨o,h⟩)|h
   ·exact .inl (.inl (out h fun _ z=>by cases z))
   ·exact .inl (.inr ⟨o,out h fun _ z=>by cases z⟩)
   ·exact .inr h
  refine⟨t,t',xs,ys,rfl,rfl,g2.seqT (Qk sq),Qk sq',by rw[l.length,l'.length];exact hl,fun h=>?_,fun h h'=>?_,fun h h' p hp=>?_⟩
  ·subst h
   cases ds with
   |nil=>exact q _ H2 (g1.trans g2) (enT (Qk sq') l')
   |cons _ _=>have:=l.length;cases this
  ·subst h'
   cases ds' with
   |nil=>exact q _ H2 (g1.trans g2) (by rw[Xr];exact enT (g2.seqT (Qk sq)) l2)
   |cons _ _=>have:=l'.length;cases this
  ·have np:p∉owns ρ:=(R.grow (g1.trans g2)).fresh hp
   exact q _ _ ((g1.trans g2).trans (j6 hp)) ⟨p,xs++ys,rfl,.inl (.inl (by rw[j5 np];exact j9)),(l2.append l').mono (je (j6 hp))⟩)
theorem DE.ixM(ha:DM X ρ a s ds)(hb:DT X ρ b (.int i))(h:L2.atI ds i=some d)(hs:Yr b):DE X ρ (.Subscript a b pos) d:=by
 cases s with
 |true=>exact fun σ H Q R q=>(N8 jbp peS peS hs).to (ha σ H _ R fun l xs H1 g1 sq en=>hb σ H1 _ (R.grow g1) fun u H2 g2 e2=>by
   obtain⟨y,hy,ey⟩:=en.atI h
   exact⟨l,xs,i,y,rfl,e2,g2.seq (W2 sq),hy,q y H2 (g1.trans g2) (ey.mono (je g2))⟩)
 |false=>exact fun σ H Q R q=>(N8 j5d peS peS hs).to (ha σ H _ R fun l xs H1 g1 sq en=>hb σ H1 _ (R.grow g1) fun u H2 g2 e2=>by
   obtain⟨y,hy,ey⟩:=en.atI h
   exact⟨l,xs,i,y,rfl,e2,g2.seqT (Qk sq),hy,q y H2 (g1.trans g2) (ey.mono (je g2))⟩)
variable{lo hi:Option Expr}{l u:Option Int}
theorem DO.sliceM(ha:DM X ρ a true ds)(hl:DP X ρ lo l)(hu:DP X ρ hi u):DO X ρ (.Subscript a (.Slice lo hi none p2) pos) (cutD ds l u):=fun σ H Q R q =>
 (Ot jaf peS poS poS).to (ha σ H _ R fun t xs H1 g1 sq en=>hl σ H1 _ (R.grow g1) fun H2 g2=>hu σ H2 _ (R.grow (g1.trans g2)) fun H3 g3=>⟨t,xs,rfl,(g2.trans g3).seq (W2 sq),fun p hp =>
  q p _ _ ((g1.trans (g2.trans g3)).trans (j6 hp)) ((g1.trans (g2.trans g3)).free hp) j9 (Wu hp ((en.mono (je (g2.trans g3))).cut l u))⟩)
theorem DE.sliceM(ha:DM X ρ a false ds)(hl:DP X ρ lo l)(hu:DP X ρ hi u)(hw:¬(HT.sIx ds.length 0 l=0∧HT.sIx ds.length ds.length u=ds.length)):DE X ρ (.Subscript a (.Slice lo hi none p2) pos) (.tup (cutD ds l u)):=fun σ H Q R q =>
 (Ot jd1 peS poS poS).to (ha σ H _ R fun t xs H1 g1 sq en=>hl σ H1 _ (R.grow g1) fun H2 g2=>hu σ H2 _ (R.grow (g1.trans g2)) fun H3 g3=>⟨t,xs,rfl,(g2.trans g3).seqT (Qk sq),by rw[en.length];exact hw,fun p hp =>
  q _ _ ((g1.trans (g2.trans g3)).trans (j6 hp)) ⟨p,_,rfl,.inl (.inl (by rw[j5 ((R.grow (g1.trans (g2.trans g3))).fresh hp)];exact j9)),((en.mono (je (g2.trans g3))).cut l u).mono (je (j6 hp))⟩⟩)
theorem DE.tupM (ha:DM X ρ a s ds) (hm:X.mg "tuple" = none) (hg:Gl X "tuple") (hs:starEach [a] X.env=[(false,eval a X.env)]):DE X ρ (.Call (.Name "tuple" p) [a] [] pos) (.tup ds):=fun σ H Q R q =>
 (Rx K3 hg hm boot_tuple (jd peS jw hs) (by decide) (by decide) hs).to (ha σ H _ R fun l xs H1 g1 sq en=>by
  cases s with
  |true =>
   refine⟨l,xs,rfl,.inl ⟨W2 sq,fun t ht=>?_⟩⟩
   have nt:t∉owns ρ:=(R.grow g1).fresh ht
   exact q _ _ (g1.trans (j6 ht)) ⟨t,xs,rfl,.inl (.inl (by rw[j5 nt];exact j9)),en.mono (je (j6 ht))⟩
  |false =>
   refine⟨l,xs,rfl,.inr ⟨Qk sq,?_⟩⟩
   refine q _ _ g1 ⟨l,xs,rfl,?_,en⟩
   have ow:=(R.grow g1).owned
   have out:∀{o:HO},H1 l=some o→(∀zs,o≠.lst zs)→del H1 (owns ρ) l=some o:=fun{o} h z=>by
    rw[j5];exact h
    intro y;obtain⟨zs,e'⟩:=ow l y;rw[h]at e';cases e';exact z zs rfl
   rcases Qk sq with (h|⟨o,h⟩)|h
   ·exact .inl (.inl (out h fun _ z=>by cases z))
   ·exact .inl (.inr ⟨o,out h fun _ z=>by cases z⟩)
   ·exact .inr h)
theorem DO.listM (ha:DM X ρ a s ds) (hm:X.mg "list" = none) (hg:Gl X "list") (hs:starEach [a] X.env=[(false,eval a X.env)]):DO X ρ (.Call (.Name "list" p) [a] [] pos) ds:=fun σ H Q R q =>
 (Rx j0c hg hm boot_list (jd peS jw hs) (by decide) (by decide) hs).to (ha σ H _ R fun l xs H1 g1 sq en =>
  ⟨l,xs,rfl,(by cases s with|true=>exact .inl (W2 sq)|false=>exact .inr (Qk sq)),fun p hp=>q p _ _ (g1.trans (j6 hp)) (g1.free hp) j9 (Wu hp en)⟩)
end
end L2
end
section
namespace L2
open PySem PySem.Spec PyProof.Rows
theorem Dc:fillsNumberSlot (.type "tuple") "mul" = pure false :=
 PySem.fillsNumberSlot_seq (id:="tuple.__mul__") (r:=some (.builtin "tuple.__rmul__")) PySem.F.slot_tuple_mul.lookup (by decide +kernel) PySem.F.slot_tuple_rmul.lookup (by decide +kernel)
theorem jaw:seqRepeat? (.type "tuple")=pure (some (.builtin "tuple.__mul__")):=by
 unfold seqRepeat?;rw[PySem.seqSlot_of (T:="tuple") (name:="__mul__") (id:="tuple.__mul__") PySem.F.slot_tuple_mul.lookup (by decide +kernel),
  PySem.seqSlot_of (T:="tuple") (name:="__rmul__") (id:="tuple.__rmul__") PySem.F.slot_tuple_rmul.lookup (by decide +kernel)]
 rfl
section
variable(a:Int)(t:Tok)(l:Addr)(its:Array Value)(n:Nat)(d1:Option Addr)(sl:Array (Option Value))
theorem Eu:Meets (Builtin.«int.__rmul__» ⟨[.int a t,.ref l],[]⟩) (fun _ R s=>s.heap.get? l=some ⟨.type "tuple",d1,.seq its n,sl⟩∧R (.ok (.ret Value.notImplemented)) s) :=
 .of_wp fun _ _ _ _ s h=>by
  obtain⟨_,_,_,_,_⟩:=s;obtain⟨hl,h⟩:=h
  wp_walk
  exact⟨_,rfl,h⟩
theorem j6u:Meets (Builtin.«tuple.__mul__» ⟨[.ref l,.int 1 t],[]⟩) (fun _ R s=>s.heap.get? l=some ⟨.type "tuple",d1,.seq its n,sl⟩∧R (.ok (.ret (.ref l))) s) :=
 .of_wp fun _ _ _ _ s h=>by
  obtain⟨_,_,_,_,_⟩:=s;obtain⟨hl,h⟩:=h
  wp_walk
  exact⟨_,rfl,h⟩
theorem j6t(h0:its.isEmpty=false)(h1:1<a)(h2:a<2^63)(hz:its.size*a.toNat≤sizeLine) :
  Meets (Builtin.«tuple.__mul__» ⟨[.ref l,.int a t],[]⟩) (fun _ R s=>s.heap.get? l=some ⟨.type "tuple",d1,.seq its n,sl⟩ ∧
   R (.ok (.ret (.ref s.heap.objs.size))) { s with heap:=s.heap.push { cls:=.type "tuple",data:=.seq (List.foldl (fun x y=>x++y) #[] (List.replicate a.toNat its)) } }) :=
 .of_wp fun _ _ _ _ s h=>by
  obtain⟨_,_,_,_,_⟩:=s;obtain⟨hl,h⟩:=h;have c1:(decide (a < -2^63) || decide (a≥2^63))=false:=by rw[decide_eq_false (by omega),decide_eq_false (by omega)];rfl
  have c2:(its.isEmpty || a==1)=false:=by rw[h0,beq_eq_false_iff_ne.mpr (by omega)];rfl
  have c3:(decide (a≤0) || its.isEmpty)=false:=by rw[h0,decide_eq_false (by omega)];rfl
  have ea:((its.size*a.toNat:Nat):Int)=(its.size:Int)*a:=by rw[Int.natCast_mul,Int.toNat_of_nonneg (by omega)]
  have hz':(its.size:Int)*a≤(sizeLine:Int):=by rw[←ea];exact Int.ofNat_le.mpr hz
  have c4:¬(its.size:Int)*a>(2^63-1)/8:=by
   have:(sizeLine:Int)≤(2^63-1)/8:=by decide
   omega
  have c5:Builtin.Tuple.tupleTooMany ((its.size:Int)*a)=false:=by unfold Builtin.Tuple.tupleTooMany;exact decide_eq_false (by omega)
  have c6:(List.foldl (fun x y=>x++y) #[] (List.replicate a.toNat its)).size≤sizeLine:=by rw[AutoListH.size_joined,Array.size_empty,T4,Nat.mul_comm];exact hz
  wp_walk
  rw[c1]
  wp_walk
  rw[c2]
  wp_walk
  rw[c3]
  wp_walk
  rw[if_neg c4]
  wp_walk
  exact⟨_,rfl,h⟩
end
theorem jba{X:Cx}:OpR X (binaryOp .Mult) (fun x y H Q=>∃a k xs,x=.ref a∧y=.int k∧SqT X.K H a xs∧xs≠[]∧1≤k∧k<2^63∧xs.length*k.toNat≤sizeLine ∧
  (k=1→Q (.ref a) H)∧(1<k→∀p,H p=none→Q (.ref p) (upd H p (.tup (List.replicate k.toNat xs).flatten)))):=by
 intro pins s σ H x y v u Q I rx ry h;obtain⟨a,k,xs,e1,e2,sq,hne,h1,h2,hz,q1,q2⟩:=h;subst e1 e2;cases rx;obtain⟨t,e⟩:=ry;subst e;obtain⟨us,ru,⟨⟨c1,d1,f1,g1⟩,p1,k1,n1,m1⟩,_⟩:=I.tuple sq;have k1:c1=.type "tuple":=k1;have m1:f1=.seq us.toArray n1:=m1;subst k1 m1;have lu:=ru.length;have hne':us.toArray.isEmpty=false:=by
  cases us with
  |nil=>cases ru;exact absurd rfl hne
  |cons _ _=>simp
 refine wpAny_binaryOp_repeat_ref (T:="tuple") (U:="int") (by decide) ⟨_,p1,rfl⟩ (fun s'=>typeIs_int s' k t) Dc F.fills_int_mul F.slot_int_rmul jaw F.slot_int_index.lookup
  (call_meets F.slot_int_rmul (typeIs_int s k t) F.entry_int_rmul (F.args_int_rmul_2 _ _) (Eu k t a us.toArray n1 d1 g1) ⟨p1,rfl,⟨_,p1,rfl⟩,?_⟩)
 by_cases hk:k=1
 ·subst hk;exact call_meets F.slot_tuple_mul ⟨_,p1,rfl⟩ F.entry_tuple_mul (F.args_tuple_mul_2 _ _) (j6u t a us.toArray n1 d1 g1) ⟨p1,⟨.ref a,H,I,rfl,q1 rfl⟩⟩
 ·have hz':us.toArray.size*k.toNat≤sizeLine:=by rw[X3,←lu];exact hz
  refine call_meets F.slot_tuple_mul ⟨_,p1,rfl⟩ F.entry_tuple_mul (F.args_tuple_mul_2 _ _) (j6t k t a us.toArray n1 d1 g1 hne' (by omega) h2 hz') ⟨p1,?_⟩;have hnew:List.foldl (fun x1 x2=>x1++x2) #[] (List.replicate k.toNat us.toArray)=(List.replicate k.toNat us).flatten.toArray:=by have:=foldl_rep us k.toNat [];rw[List.nil_append]at this;exact this
  rw[hnew];refine⟨.ref _,_,I.laid (t':=s.toks) (fun b o e=>xj _ e) (xx _) ?_,rfl,q2 (by omega) _ I.fresh⟩;exact⟨by rw[len_rep,Nat.mul_comm];exact hz,_,ru.rep k.toNat,IsTup.new _ _,V7.new _ _⟩
theorem DE.repT{X:Cx}{ρ:Rho}{a b:Expr}{ds:List D}{k:Int}{pos:Pos}(ha:DM X ρ a false ds)(hb:DT X ρ b (.int k))(hne:ds≠[])(h1:1≤k)(h2:k<2^63)(hl:ds.length*k.toNat≤sizeLine) :
  DE X ρ (.BinOp a .Mult b pos) (.tup (List.replicate k.toNat ds).flatten):=fun σ H Q R q =>
 (Ui jba peS peS).to (ha σ H _ R fun t xs H1 g1 sq l=>hb σ H1 _ (R.grow g1) fun u H2 g2 e2=>by
  have l2:=l.mono (je g2)
  refine⟨t,k,xs,rfl,e2,g2.seqT (Qk sq),?_,h1,h2,by rw[l.length];exact hl,fun h=>?_,fun h p hp=>?_⟩
  ·intro z;subst z
   cases ds with
   |nil=>exact hne rfl
   |cons _ _=>have:=l.length;cases this
  ·subst h
   have e:(List.replicate (1:Int).toNat ds).flatten=ds:=by simp
   rw[e]at q
   refine q _ H2 (g1.trans g2) ⟨t,xs,rfl,?_,l2⟩
   have ow:=(R.grow (g1.trans g2)).owned
   have out:∀{o:HO},H2 t=some o→(∀zs,o≠.lst zs)→del H2 (owns ρ) t=some o:=fun{o} h z=>by
    rw[j5];exact h
    intro y;obtain⟨zs,e'⟩:=ow t y;rw[h]at e';cases e';exact z zs rfl
   rcases g2.seqT (Qk sq)with (h|⟨o,h⟩)|h
   ·exact .inl (.inl (out h fun _ z=>by cases z))
   ·exact .inl (.inr ⟨o,out h fun _ z=>by cases z⟩)
   ·exact .inr h
  ·have np:p∉owns ρ:=(R.grow (g1.trans g2)).fresh hp
   exact q _ _ ((g1.trans g2).trans (j6 hp)) ⟨p,_,rfl,.inl (.inl (by rw[j5 np];exact j9)),(l2.rep k.toNat).mono (je (j6 hp))⟩)
section
variable{X:Cx}{ρ:Rho}{a:Expr}{m k:Bool}{d:D}{n:Nat}{pos p2:Pos}
theorem DE.isNotN(ha:DT X ρ a d):DE X ρ (.Compare a [.IsNot] [.Constant .none n p2] pos) (.bl (!d.isNon)):=fun σ H Q R q =>(Jq j1p peS Iw (qy _)).to (ha σ H _ R fun x H1 g1 e1=>⟨rfl,q _ H1 g1 (by rw[M4 e1];rfl)⟩)
theorem DB.isNotN(ha:DT X ρ a d):DB X ρ (.Compare a [.IsNot] [.Constant .none n p2] pos) (!d.isNon):=fun σ H Q R q =>(Jp j1p peS Iw (qy _)).to (ha σ H _ R fun x H1 g1 e1=>⟨rfl,_,rfl,by rw[M4 e1];exact q H1 g1⟩)
end
end L2
end
section
namespace PySem
open Sem (wp)
namespace F
end F
section
variable{prog:Program}{w:World}{A:Around}{E:k86}{s:Shared}{I:Addr}{fp wr:List Addr}{G:Array GenState→Array GenState→Prop}{n:Nat}{P:Nat→Value→Prop}{St:Nat→Shared→Prop}
end
end PySem
namespace L2
open PySem PySem.Spec PyProof.Rows
section
variable{X:Cx}{ρ:Rho}{a:Expr}{ds:List D}{p p1 p2 p3 pos:Pos}
end
end L2
end
section
namespace L2
open PySem PySem.Spec PyProof.Rows
noncomputable def Sl.abs:Sl→Sv
 |.un=>.un
 |.val d=>.val d
 |.own _ l=>.own l
 |.raw _ _ x=>.exc x
noncomputable def j8(ρ:Rho):En:=ρ.map Sl.abs
theorem R8{ρ:Rho}{i:Nat}:(j8 ρ)[i]?=(ρ[i]?).map Sl.abs:=X7 ..
theorem U9{ρ:Rho}{i:Nat}{d:D}(h:(j8 ρ)[i]?=some (.val d)):ρ[i]?=some (.val d):=by
 rw[R8]at h;cases e:ρ[i]? with
 |none=>rw[e]at h;cases h
 |some s=>rw[e]at h;cases s<;>cases h;rfl
theorem jcn{ρ:Rho}{i:Nat}(h:(j8 ρ)[i]?=some .un):ρ[i]?=some .un:=by
 rw[R8]at h;cases e:ρ[i]? with
 |none=>rw[e]at h;cases h
 |some s=>rw[e]at h;cases s<;>cases h;rfl
theorem Q9{ρ:Rho}{i:Nat}{l:List D}(h:(j8 ρ)[i]?=some (.own l)):∃a,ρ[i]?=some (.own a l):=by
 rw[R8]at h;cases e:ρ[i]? with
 |none=>rw[e]at h;cases h
 |some s=>rw[e]at h;cases s<;>cases h;exact⟨_,rfl⟩
theorem Bl{ρ:Rho}{i:Nat}{x:Str}(h:(j8 ρ)[i]?=some (.exc x)):∃a o,ρ[i]?=some (.raw a o x):=by
 rw[R8]at h;cases e:ρ[i]? with
 |none=>rw[e]at h;cases h
 |some s=>rw[e]at h;cases s<;>cases h;exact⟨_,_,rfl⟩
theorem jf{ρ:Rho}{i:Nat}{s:Sl}:j8 (ρ.set i s)=(j8 ρ).set i s.abs:=List.map_set ..
noncomputable def Bop.op:Bop→Operator
 |.add=>.Add
 |.sub=>.Sub
 |.mul=>.Mult
 |.fdiv=>.FloorDiv
 |.mod=>.Mod
 |.pow=>.Pow
 |.shl=>.LShift
 |.shr=>.RShift
 |.band=>.BitAnd
 |.bxor=>.BitXor
noncomputable def Cop.op:Cop→CmpOp
 |.lt=>.Lt
 |.le=>.LtE
 |.gt=>.Gt
 |.ge=>.GtE
 |.eq=>.Eq
 |.ne=>.NotEq
 |.isin=>.In
 |.notin=>.NotIn
noncomputable def Bf.name:Bf→Str
 |.len=>"len"
 |.min=>"min"
 |.max=>"max"
 |.all=>"all"
 |.tuple=>"tuple"
 |.list=>"list"
 |.sum=>"sum"
 |.int=>"int"
 |.any=>"any"
 |.sorted=>"sorted"
noncomputable def Wc:List Str:=["len","min","max","all","tuple","list","sum","int","any","sorted","isinstance","bool","str","range","zip","enumerate","reversed","ValueError","set","dict"]
noncomputable def Vy(x:Str):Bool:=x.cps.toList.head?==some 33 || x.cps.toList.head?==some 63
inductive Nd where
 |e (x:Expr)
 |b (x:Expr)
 |w (x:Expr)
 |a (xs:List Expr)
 |i (tg it:Expr)
 |o (x:Option Expr)
 |c (xs:List Expr)
 |p (xs:List Expr)
structure Cok(X:Cx)(G:Str→Option D):Prop where
 un':X.A.units+100<cLine
 un:X.calm=true→X.A.units+150<cLine
 dp:X.calm=true→X.A.depth+4<recursionLimit
 bt:∀x∈Wc,X.mg x=none
 gl:∀x d,Vy x=false→G x=some d→∃u v,X.mg x=some u∧RelV v u∧∀H,Enc X.K H d v
 nd:X.N.Nodup
 po:PassesOwn (model X.prog X.w) X.A X.env X.xe
 ea:Qt X.K=true
 ec:∀x d,G (bang x)=some d→x∈jr∧∃o,W.nsIn X.K mainGlobals x=some (some o)
 el:G "?" = some (.bl true)→∀c∈jr,∃v,W.nsIn X.K mainGlobals c=some (some v)
 kin:X.K.In X.base
 ns:X.base.Ns mainGlobals X.mg
 kd:∀x l,G (bang x)=some (.lst l)→Kinds X "_law_kinds" x l
 fn:∀f d,G (qm f)=some d→∃fa,X.mg f=some (.ref fa)∧W.keepIn X.K (.ref fa)=true
 pl:∀d,G (qm "_law_plan")=some d→Cal X "_law_plan" (jd0 X.K j9n)
 lm:∀x∈Z9,X.env.qual=x ++ ".<locals>."→∃c P,X.env.code=.ref c∧W.codeHdIn X.K c P=true∧W.tabIn X.K x=some (c,P)
def Gok(X:Cx)(Γ:Str→List D→Rc):Prop:=∀f ds,match Γ f ds with
 |.val d=>Cal X f (spP X.K fun ds' d'=>ds'=ds∧d'=d)
 |.fresh l=>Cal X f (spF X.K fun ds' l'=>ds'=ds∧l'=l)
 |.err x=>CalX X f (spX X.K X.mg fun ds' y=>ds'=ds∧y=x)
 |.lval d=>∀x,f=jo x→∃k,Room k X.A∧Ka X.prog X.w X.K X.mg X.base k x fun ds' d'=>ds'=ds∧d'=d
 |.no=>True
theorem Cok.comp{X:Cx}{G:Str→Option D}{scope:Scope}{C:Addr}{s:Shared}{H:Hp}{fp:List Addr}{pn:k87}(h:Cok X G):Cok (cCx X scope C s H fp pn) G:=⟨h.un',h.un,h.dp,h.bt,h.gl,h.nd,PassesOwn.never,h.ea,h.ec,h.el,h.kin,h.ns,h.kd,h.fn,fun d e=>Cal.comp (h.pl d e),h.lm⟩
theorem Gok.comp{X:Cx}{Γ:Str→List D→Rc}{scope:Scope}{C:Addr}{s:Shared}{H:Hp}{fp:List Addr}{pn:k87}(h:Gok X Γ):Gok (cCx X scope C s H fp pn) Γ:=fun f ds=>by
 have q:=h f ds;cases e:Γ f ds with
 |val d=>rw[e]at q;exact Cal.comp q
 |fresh l=>rw[e]at q;exact Cal.comp q
 |err x=>rw[e]at q;exact⟨q.ex⟩
 |lval d=>rw[e]at q;exact q
 |no=>trivial
inductive HasA(X:Cx)(ρ:Rho):List Expr→List Rk→Prop where
 |nil:HasA X ρ [] []
 |cons {a:Expr} {es:List Expr} {r:Rk} {rs:List Rk} (hs:starEach (a::es) X.env=(false,eval a X.env)::starEach es X.env):Has X ρ a r→HasA X ρ es rs→HasA X ρ (a::es) (r::rs)
section
variable{X:Cx}{ρ:Rho}{es:List Expr}{rs:List Rk}
theorem HasA.toA:∀{es:List Expr}{rs:List Rk}{ds:List D},HasA X ρ es rs→zb rs=some ds→DA X ρ es ds
 |_,_,_,.nil,q=>by cases q;exact DA.nil
 |_,_,ds,.cons (r:=r) (rs:=rs) hs h t,q=>by
  unfold zb at q;cases e1:r.st with
  |none=>rw[e1]at q;cases q
  |some d =>
   cases e2:zb rs with
   |none=>rw[e1,e2]at q;cases q
   |some ds'=>rw[e1,e2]at q;cases q;exact DA.cons (h.toE e1) (t.toA e2) hs
theorem HasA.toT:∀{es:List Expr}{rs:List Rk},HasA X ρ es rs→DTA X ρ es (rs.map Rk.d)
 |_,_,.nil=>DTA.nil
 |_,_,.cons hs h t=>DTA.cons h.toT t.toT hs
theorem HasA.one{e:Expr}(h:HasA X ρ [e] rs):∃r,rs=[r]∧Has X ρ e r∧starEach [e] X.env=[(false,eval e X.env)]:=by cases h with|cons hs h t=>cases t;exact⟨_,rfl,h,hs⟩
theorem DO.unfrz{e:Expr}{i:Nat}{a:Addr}{l ds:List D}(hk:ρ[i]?=some (.own a l))(h:DO X (ρ.set i (.val (.lst l))) e ds)(hn:zg ds=true):DO X ρ e ds:=fun σ H Q R q =>
 h σ H Q (R.freeze hk) fun b xs H' g n m en=>q b xs H' g n m ((en.mono jm).hide (fun c hc=>by
  rcases xm.mp hc with z|z
  ·rw[z];exact .inl ⟨xs,m⟩
  ·exact .inl ((R.grow g).owned c z)) hn)
end
theorem Nr{f:D→Option (Option D)}:∀{ds l:List D},Qh f ds=some l →
  l=(ds.filter (fun d=>(f d).join.isSome)).map (fun d=>(f d).join.getD .non)∧∀d∈ds,∃o,f d=some o
 |[],l,h=>by cases h;exact⟨rfl,fun d hd=>nomatch hd⟩
 |d::ds,l,h=>by
  unfold Qh at h;cases e1:f d with
  |none=>rw[e1]at h;cases h
  |some o =>
   cases e2:Qh f ds with
   |none=>rw[e1,e2]at h;cases o<;>cases h
   |some xs =>
    rw[e1,e2]at h;obtain⟨q1,q2⟩:=Nr e2;have mem:∀d'∈d::ds,∃o,f d'=some o:=fun d' hd=>by
     rcases xm.mp hd with z|z
     ·subst z;exact⟨o,e1⟩
     ·exact q2 d' z
    cases o with
    |none=>cases h;exact⟨by rw[List.filter_cons_of_neg (by rw[e1];simp)];exact q1,mem⟩
    |some x=>cases h;exact⟨by rw[List.filter_cons_of_pos (by rw[e1];rfl),xr,←q1,e1];rfl,mem⟩
end L2
end
section
namespace L2
open PySem PySem.Spec PyProof.Rows
section
variable{X:Cx}{ρ:Rho}{a b:Expr}{d da db:D}{ds ds':List D}{pos:Pos}{k:Bool}
theorem DE.neD(s:Bool)(hu:X.A.units+100<cLine)(ha:DT X ρ a (D.seq s ds))(hb:DT X ρ b (D.seq s ds'))(hd:D.depL ds≤98)(nd:D.depL ds'<10000):DE X ρ (.Compare a [.NotEq] [b] pos) (.bl (!vd ds ds')):=fun σ H Q R q =>(Jq (j52 hu) peS peS (qy _)).to (ha σ H _ R fun v H1 g1 e1=>hb σ H1 _ (R.grow g1) fun u H2 g2 e2=>⟨ds,ds',s,e1.mono g2,e2,hd,nd,q _ H2 (g1.trans g2) rfl⟩)
theorem DE.notIn(s:Bool)(hu:X.A.units+100<cLine)(ha:DT X ρ a d)(hb:DT X ρ b (D.seq s ds))(hd:D.depL ds≤98)(nd:d.dep<10000)(hm:behindInMarks .NotIn b=false):DE X ρ (.Compare a [.NotIn] [b] pos) (.bl (!ds.any fun e=>deq e d)):=fun σ H Q R q =>(Jq (Cg hu) peS peS hm).to (ha σ H _ R fun v H1 g1 e1=>hb σ H1 _ (R.grow g1) fun u H2 g2 e2=>⟨d,ds,s,e1.mono g2,e2,hd,nd,q _ H2 (g1.trans g2) rfl⟩)
theorem DE.in(s:Bool)(hu:X.A.units+100<cLine)(ha:DT X ρ a d)(hb:DT X ρ b (D.seq s ds))(hd:D.depL ds≤98)(nd:d.dep<10000)(hm:behindInMarks .In b=false):DE X ρ (.Compare a [.In] [b] pos) (.bl (ds.any fun e=>deq e d)):=fun σ H Q R q =>(Jq (j53 hu) peS peS hm).to (ha σ H _ R fun v H1 g1 e1=>hb σ H1 _ (R.grow g1) fun u H2 g2 e2=>⟨d,ds,s,e1.mono g2,e2,hd,nd,q _ H2 (g1.trans g2) rfl⟩)
theorem jae:∀{b:D}{s:Bool}{l:List D},b.sqv=some (s,l)→b=D.seq s l
 |.lst _,_,_,h=>by cases h;rfl
 |.dct _ _,_,_,h=>by cases h
 |.sct _,_,_,h=>by cases h
 |.fn _ _,_,_,h=>by cases h
 |.tup _,_,_,h=>by cases h;rfl
 |.non,_,_,h=>by cases h
 |.bl _,_,_,h=>by cases h
 |.int _,_,_,h=>by cases h
 |.str _,_,_,h=>by cases h
theorem j3q{op:Cop}{i j:Int}(h:cmpI op i j=some k)(ha:DT X ρ a (.int i))(hb:DT X ρ b (.int j)):DE X ρ (.Compare a [op.op] [b] pos) (.bl k)∧DB X ρ (.Compare a [op.op] [b] pos) k:=by
 cases op<;>(first|(cases h;done)|skip)
 ·cases h;exact⟨DE.lt ha hb,DB.lt ha hb⟩
 ·cases h;exact⟨DE.le ha hb,DB.le ha hb⟩
 ·cases h;exact⟨DE.gt ha hb,DB.gt ha hb⟩
 ·cases h;exact⟨DE.ge ha hb,DB.ge ha hb⟩
 ·cases h;exact⟨DE.eqI ha hb,DB.eqI ha hb⟩
 ·cases h;exact⟨DE.neI ha hb,DB.neI ha hb⟩
theorem Ld{op:Cop}(hu:X.A.units+100<cLine)(h:Zw op da db=some k)(ha:DT X ρ a da)(hb:DT X ρ b db)(hm:behindInMarks op.op b=false) :
  DE X ρ (.Compare a [op.op] [b] pos) (.bl k)∧DB X ρ (.Compare a [op.op] [b] pos) k:=by
 have inn:∀{r:Bool→Bool},(match db.sqv with|some (_,l)=>if D.depL l≤90∧da.dep≤90 then some (r (l.any fun e=>deq e da))else none|none=>none)=some k→∃s l,DT X ρ b (D.seq s l)∧D.depL l≤98∧da.dep<10000∧k=r (l.any fun e=>deq e da):=fun{r} h=>by
  cases e:db.sqv with
  |none=>rw[e]at h;cases h
  |some p =>
   obtain⟨s,l⟩:=p;rw[e]at h;have h:(if D.depL l≤90∧da.dep≤90 then some (r (l.any fun e=>deq e da))else none)=some k:=h;by_cases z:D.depL l≤90∧da.dep≤90
   ·rw[if_pos z]at h;cases h;exact⟨s,l,jae e▸hb,by omega,by omega,rfl⟩
   ·rw[if_neg z]at h;cases h
 unfold Zw at h;split at h
 ·exact j3q h ha hb
 ·by_cases z:da.dep≤90∧db.dep≤90
  ·rw[if_pos z]at h;cases h;exact⟨DE.eqD hu ha hb (by omega) (by omega),DB.eqD hu ha hb (by omega) (by omega)⟩
  ·rw[if_neg z]at h;cases h
 ·cases h;exact⟨DE.neB ha hb,DB.neB ha hb⟩
 ·cases h;exact⟨(DE.neS ha hb).eq (by rw[j05]),(DB.neS ha hb).eq (by rw[j05])⟩
 ·cases h;exact⟨(DE.neS ha hb).eq (by simp),(DB.neS ha hb).eq (by simp)⟩
 ·rename_i l m;by_cases z:D.depL l≤90∧D.depL m≤90
  ·rw[if_pos z]at h;cases h;exact⟨DE.neD true hu ha hb (by omega) (by omega),DB.neD true hu ha hb (by omega) (by omega)⟩
  ·rw[if_neg z]at h;cases h
 ·rename_i l m;by_cases z:D.depL l≤90∧D.depL m≤90
  ·rw[if_pos z]at h;cases h;exact⟨DE.neD false hu ha hb (by omega) (by omega),DB.neD false hu ha hb (by omega) (by omega)⟩
  ·rw[if_neg z]at h;cases h
 ·cases h;exact⟨DE.inS ha hb hm,DB.inS ha hb hm⟩
 ·cases h;exact⟨DE.ltS ha hb,DB.ltS ha hb⟩
 ·cases h;exact⟨DE.gtS ha hb,DB.gtS ha hb⟩
 ·obtain⟨s,l,hb,hd,nd,e⟩:=inn (r:=id) h;subst e;exact⟨DE.in s hu ha hb hd nd hm,DB.in s hu ha hb hd nd hm⟩
 ·obtain⟨s,l,hb,hd,nd,e⟩:=inn (r:=(!·)) h;subst e;exact⟨DE.notIn s hu ha hb hd nd hm,DB.notIn s hu ha hb hd nd hm⟩
 ·cases h
theorem DE.shr{i j:Int}(ha:DT X ρ a (.int i))(hb:DT X ρ b (.int j))(h:0≤j):DE X ρ (.BinOp a .RShift b pos) (.int (i/2^j.toNat)):=DE.arI (g:=fun i j=>i/2^j.toNat) je1 ha hb h
theorem jx{α:Type}{c:Prop}[Decidable c]{x y:α}(h:(if c then some x else none)=some y):c∧x=y:=by
 by_cases z:c
 ·rw[if_pos z]at h;exact⟨z,Option.some.inj h⟩
 ·rw[if_neg z]at h;cases h
theorem j3u{op:Bop}{i j n:Int}(h:binI op i j=some n)(ha:DT X ρ a (.int i))(hb:DT X ρ b (.int j)):DE X ρ (.BinOp a op.op b pos) (.int n):=by
 cases op
 ·cases h;exact DE.add ha hb
 ·cases h;exact DE.sub ha hb
 ·obtain⟨z,e⟩:=jx h;subst e;exact DE.mul ha hb z
 ·obtain⟨z,e⟩:=jx h;subst e;exact DE.fdivB ha hb z
 ·obtain⟨z,e⟩:=jx h;subst e;exact DE.mod ha hb z
 ·obtain⟨z,e⟩:=jx h;subst e;exact DE.pow ha hb z
 ·obtain⟨z,e⟩:=jx h;subst e;exact DE.shl ha hb z
 ·obtain⟨z,e⟩:=jx h;subst e;exact DE.shr ha hb z
 ·cases h;exact DE.arI0 je7 ha hb
 ·cases h;exact DE.arI0 jdz ha hb
theorem zc{n:Nat}(h:ji n=true):n≤sizeLine:=of_decide_eq_true h
end
end L2
end
section
namespace L2
open PySem PySem.Spec PyProof.Rows
section
variable{X:Cx}{ρ:Rho}{a b e:Expr}{es:List Expr}{d:D}{pos p:Pos}
theorem Has.lw:∀{r:Rk}{l:List D},Has X ρ a r→r.lw=some l→DL X ρ a l
 |.o l,_,h,q=>by cases q;exact DO.toL h
 |.w l,_,h,q=>by cases q;exact h
 |.e _,_,_,q=>by cases q
 |.t _,_,_,q=>by cases q
theorem j6h{op:Bop}{x y r:Rk}(h:Y8 op x y=some r)(ha:Has X ρ a x)(hb:Has X ρ b y):Has X ρ (.BinOp a op.op b pos) r:=by
 unfold Y8 at h;split at h
 ·rename_i i j e1 e2;cases z:binI op i j with
  |none=>rw[z]at h;cases h
  |some n=>rw[z]at h;cases h;exact j3u z (e1▸ha.toT) (e2▸hb.toT)
 ·rename_i y z e1 e2;split at h
  ·obtain⟨q,e⟩:=jx h;subst e;exact DE.catS (e1▸ha.toT) (e2▸hb.toT) (zc q)
  ·cases h
 ·rename_i y k e1 e2;split at h
  ·obtain⟨q,e⟩:=jx h;subst e;exact DE.mulS (e1▸ha.toT) (e2▸hb.toT) q.1 q.2
  ·cases h
 ·split at h
  ·rename_i l m _ e1 e2;obtain⟨z,q⟩:=jx h;subst q;exact DO.catM (ha.toM e1) (hb.toM e2) (zc z)
  ·rename_i l m _ e1 e2;obtain⟨z,q⟩:=jx h;subst q;exact DE.catTM (ha.toM e1) (hb.toM e2) (zc z)
  ·rename_i l k _ _ e1 e3;obtain⟨z,q⟩:=jx h;subst q;exact DE.repT (ha.toM e1) (e3▸hb.toT) (fun e=>by subst e;exact absurd z.2.2.1 (by simp)) z.1 z.2.1 (zc z.2.2.2)
  ·rename_i k _ _ _ e3 _;cases e:x.lw with
   |none=>rw[e]at h;cases h
   |some l =>rw[e]at h;obtain⟨z,q⟩:=jx h;subst q;exact DO.rep (ha.lw e) (e3▸hb.toT) z.1 z.2.1 (zc z.2.2)
  ·cases h
theorem Wy:∀{l:List D}{bs:List Bool},boolsOf l=some bs→l=bs.map D.bl
 |[],_,h=>by cases h;rfl
 |.bl b::r,bs,h=>by
  unfold boolsOf at h;cases e:boolsOf r with
  |none=>rw[e]at h;cases h
  |some q=>rw[e]at h;cases h;rw[Wy e];rfl
 |.non::_,_,h=>by cases h
 |.int _::_,_,h=>by cases h
 |.str _::_,_,h=>by cases h
 |.tup _::_,_,h=>by cases h
 |.lst _::_,_,h=>by cases h
 |.dct _ _::_,_,h=>by cases h
 |.sct _::_,_,h=>by cases h
 |.fn _ _::_,_,h=>by cases h
theorem Jy:∀{l:List D}{bs:List Int},intsOf l=some bs→l=bs.map D.int
 |[],_,h=>by cases h;rfl
 |.int b::r,bs,h=>by
  unfold intsOf at h;cases e:intsOf r with
  |none=>rw[e]at h;cases h
  |some q=>rw[e]at h;cases h;rw[Jy e];rfl
 |.non::_,_,h=>by cases h
 |.bl _::_,_,h=>by cases h
 |.str _::_,_,h=>by cases h
 |.tup _::_,_,h=>by cases h
 |.lst _::_,_,h=>by cases h
 |.dct _ _::_,_,h=>by cases h
 |.sct _::_,_,h=>by cases h
 |.fn _ _::_,_,h=>by cases h
theorem Cd:∀{l:List D}{bs:List Str},strsOf l=some bs→l=bs.map D.str
 |[],_,h=>by cases h;rfl
 |.str b::r,bs,h=>by
  unfold strsOf at h;cases e:strsOf r with
  |none=>rw[e]at h;cases h
  |some q=>rw[e]at h;cases h;rw[Cd e];rfl
 |.non::_,_,h=>by cases h
 |.bl _::_,_,h=>by cases h
 |.int _::_,_,h=>by cases h
 |.tup _::_,_,h=>by cases h
 |.lst _::_,_,h=>by cases h
 |.dct _ _::_,_,h=>by cases h
 |.sct _::_,_,h=>by cases h
 |.fn _ _::_,_,h=>by cases h
theorem J1{w:Option W}{k:Bool}(h:truth w=some k):∃r,w=some (.v r)∧r.d=.bl k:=by
 unfold truth at h;split at h
 ·rename_i r;split at h
  ·rename_i q e;cases h;exact⟨r,rfl,e⟩
  ·cases h
 ·cases h
def j0m(X:Cx)(ρ:Rho):List Expr→List Rk→Prop
 |[],[]=>True
 |e::es,r::rs=>(∀y,zf r.d=some y→DE X ρ e (.str y))∧j0m X ρ es rs
 |_,_=>False
theorem j0m.all{X:Cx}{ρ:Rho}:∀{es:List Expr}{rs:List Rk}{ys:List Str},j0m X ρ es rs→vo rs=some ys→DPs X ρ es ys∧ys.length=rs.length
 |[],[],ys,_,q=>by cases q;exact⟨trivial,rfl⟩
 |e::es,r::rs,ys,h,q=>by
  unfold vo at q;cases e1:zf r.d with
  |none=>rw[e1]at q;cases q
  |some y =>
   cases e2:vo rs with
   |none=>rw[e1,e2]at q;cases q
   |some ys' =>rw[e1,e2]at q;cases q;obtain⟨z1,z2⟩:=j0m.all h.2 e2;exact⟨⟨h.1 y e1,z1⟩,by rw[X4,X4,z2]⟩
 |[],_::_,_,h,_=>h.elim
 |_::_,[],_,h,_=>h.elim
theorem log2_small{i:Int}(h:-18446744073709551616<i∧i<18446744073709551616):i.natAbs.log2<1920:=by
 by_cases z:i.natAbs=0
 ·rw[z];decide
 ·have e:(2:Nat)^64=18446744073709551616:=by decide
  have:i.natAbs.log2<64:=(Nat.log2_lt z).mpr (by rw[e];omega);omega
theorem j4g{d:D}{y:Str}(h:zf d=some y):y.length≤2000:=by
 cases d with
 |int i =>
  simp only[zf]at h;split at h
  ·rename_i q;cases h;have:=int_text_length_le (k:=1920) (by decide) (log2_small q);rw[PySem.ofString_length];omega
  ·cases h
 |str z =>
  simp only[zf]at h;split at h
  ·rename_i q;cases h;exact q
  ·cases h
 |_=>cases h
theorem O2:∀{rs:List Rk}{ys:List Str},vo rs=some ys→∀y∈ys,y.length≤2000
 |[],_,q=>by cases q;exact fun y hy=>nomatch hy
 |r::rs,ys,q=>by
  unfold vo at q;cases e1:zf r.d with
  |none=>rw[e1]at q;cases q
  |some y =>
   cases e2:vo rs with
   |none=>rw[e1,e2]at q;cases q
   |some ys' =>
    rw[e1,e2]at q;cases q;intro z hz;rcases xm.mp hz with rfl|hz
    ·exact j4g e1
    ·exact O2 e2 z hz
theorem DE.fmt{X:Cx}{ρ:Rho}{a:Expr}{d:D}{y:Str}{pos:Pos}(ha:DT X ρ a d)(h:zf d=some y):DE X ρ (.FormattedValue a (-1) none pos) (.str y):=by
 cases d with
 |int i =>
  simp only[zf]at h;split at h
  ·rename_i q;cases h;exact DE.fmtI ha (log2_small q)
  ·cases h
 |str z =>
  simp only[zf]at h;split at h
  ·rename_i q;cases h;exact DE.fmtS ha (by rw[sizeLine_eq];omega)
  ·cases h
 |_=>cases h
def jgh(Γ:Str→List D→Rc)(G:Str→Option D)(X:Cx)(t:Ex):Nd→Prop
 |.e e=>∀ρ r,ev Γ G t (j8 ρ)=some (.v r)→Has X ρ e r
 |.b e=>∀ρ k,truth (ev Γ G t (j8 ρ))=some k→DB X ρ e k
 |.w e=>∀ρ k,truth (ev Γ G t (j8 ρ))=some k→DW X ρ e k
 |.a es=>∀ρ rs,ev Γ G t (j8 ρ)=some (.a rs)→HasA X ρ es rs
 |.i tg it=>∀ρ ds,ev Γ G t (j8 ρ)=some (.i ds)→DI X ρ tg it ds
 |.o e=>∀ρ o,Zz (ev Γ G t (j8 ρ))=some o→DP X ρ e o
 |.p es=>∀ρ rs,ev Γ G t (j8 ρ)=some (.a rs)→j0m X ρ es rs
 |.c ifs=>∀ρ,(ev Γ G t (j8 ρ)=some (.a [])→DTs X ρ ifs true)∧∀y k,ev Γ G t (j8 ρ)=some (.a [y])→y.d=.bl k→DTs X ρ ifs k
end
section
variable{Γ:Str→List D→Rc}{G:Str→Option D}{X:Cx}
theorem O9{is:List Nat}{elt' it' c':Ex}{elt it tg:Expr}{ifs:List Expr}{scope:Scope}{ρ:Rho}{r:Rk}
  (hit:∀ρ ds,ev Γ G it' (j8 ρ)=some (.i ds)→DI X ρ tg it ds)
  (hb:∀ρ d ρ2,zq is d (j8 ρ)=some ρ2→(∀j∈is,ρ[j]?=some .un)→∃ρ',j8 ρ'=ρ2∧Wk ρ' ρ∧owns ρ'=owns ρ∧∀C s H fp pn,DG (cCx X scope C s H fp pn) ρ tg d ρ')
  (he:∀C s H fp pn ρ r,ev Γ G elt' (j8 ρ)=some (.v r)→Has (cCx X scope C s H fp pn) ρ elt r)
  (hc:∀C s H fp pn ρ,(ev Γ G c' (j8 ρ)=some (.a [])→DTs (cCx X scope C s H fp pn) ρ ifs true)∧∀y k,ev Γ G c' (j8 ρ)=some (.a [y])→y.d=.bl k→DTs (cCx X scope C s H fp pn) ρ ifs k)
  (h:ev Γ G (.comp is elt' it' c') (j8 ρ)=some (.v r)):∃(l:List D)(ρf:Rho)(ds:List D)(pr:D→Bool)(g:D→D),r=.o l∧l=(ds.filter pr).map g ∧
   (ρf=ρ∨(zg l=true∧∃(i:Nat)(a:Addr)(l':List D),ρ[i]?=some (.own a l')∧ρf=ρ.set i (.val (.lst l'))))∧DI X ρf tg it ds∧(∀j∈is,ρf[j]?=some .un)∧ds.length≤sizeLine ∧
   (∀C s H fp pn,∀d∈ds,∃ρ2,DG (cCx X scope C s H fp pn) ρf tg d ρ2∧Wk ρ2 ρf∧owns ρ2=owns ρf∧DTs (cCx X scope C s H fp pn) ρ2 ifs (pr d)∧(pr d=true→DE (cCx X scope C s H fp pn) ρ2 elt (g d))):=by
 have fr:∃ρf,j8 ρf=frz it' (j8 ρ)∧((Jd it' (j8 ρ)=false∧ρf=ρ)∨(Jd it' (j8 ρ)=true∧∃i a l,ρ[i]?=some (.own a l)∧ρf=ρ.set i (.val (.lst l)))):=by
  by_cases z:Jd it' (j8 ρ)=true
  ·unfold Jd at z;split at z
   ·rename_i i ei;split at z
    ·rename_i l e;obtain⟨a,q⟩:=Q9 e;refine⟨ρ.set i (.val (.lst l)),?_,.inr ⟨?_,i,a,l,q,rfl⟩⟩
     ·rw[jf];simp only[frz,ei,e,Sl.abs]
     ·simp only[Jd,ei,e]
    ·cases z
   ·cases z
  ·have z':Jd it' (j8 ρ)=false:=by simpa using z
   refine⟨ρ,?_,.inl ⟨z',rfl⟩⟩;unfold frz;split
   ·rename_i i ei;split
    ·rename_i l e;simp only[Jd,ei,e]at z';cases z'
    ·rfl
   ·rfl
 obtain⟨ρf,ef,fr⟩:=fr;unfold ev at h;rw[←ef]at h;split at h
 ·rename_i ds hds;split at h
  ·rename_i hz;obtain⟨hfree,hlen⟩:=hz;generalize hf:(fun d=>_:D→Option (Option D))=f at h;cases hl:Qh f ds with
   |none=>rw[hl]at h;cases h
   |some l =>
    rw[hl]at h;have h:(if (Jd it' (j8 ρ) && !zg l)=true then none else some (W.v (.o l)))=some (.v r):=h;by_cases zz:(Jd it' (j8 ρ) && !zg l)=true
    ·rw[if_pos zz]at h;cases h
    ·rw[if_neg zz]at h;cases h;obtain⟨el,hmem⟩:=Nr hl;have hun:∀j∈is,ρf[j]?=some .un:=fun j hj=>by
      have:=Xo.mp hfree j hj;split at this
      ·rename_i e;exact jcn e
      ·cases this
     refine⟨l,ρf,ds,_,_,rfl,el,?_,hit ρf ds hds,hun,zc hlen,fun C s H fp pn d hd=>?_⟩
     ·rcases fr with ⟨_,e⟩|⟨e1,i,a,l',hk,e⟩
      ·exact .inl e
      ·exact .inr ⟨by rw[e1]at zz;simpa using zz,i,a,l',hk,e⟩
     ·
      obtain⟨o,ho⟩:=hmem d hd;rw[←hf]at ho ⊢;dsimp only at ho ⊢;cases hb2:zq is d (j8 ρf) with
      |none=>rw[hb2]at ho;cases ho
      |some ρ2 =>
       obtain⟨ρ',e',wk,ow,dg⟩:=hb ρf d ρ2 hb2 hun;subst e';refine⟨ρ',dg C s H fp pn,wk,ow,?_⟩;rw[hb2]at ho;dsimp only at ho ⊢;cases hcv:ev Γ G c' (j8 ρ') with
       |none=>rw[hcv]at ho;cases ho
       |some w =>
        rw[hcv]at ho;split at ho
        ·rename_i hw;cases hw;cases hev:ev Γ G elt' (j8 ρ') with
         |none=>rw[hev]at ho;cases ho
         |some w =>
          rw[hev]at ho;cases w with
          |i _=>cases ho
          |a _=>cases ho
          |v x =>
           dsimp only at ho ⊢;cases hst:x.st with
           |none=>rw[hst]at ho;cases ho
           |some y =>simp only[hst,Option.map_some,Option.join_some,Option.isSome_some,Option.getD_some];exact⟨((hc C s H fp pn ρ').1 hcv),fun _=>(he C s H fp pn ρ' x hev).toE hst⟩
        ·rename_i y hw;cases hw;split at ho
         ·rename_i e1;cases hev:ev Γ G elt' (j8 ρ') with
          |none=>rw[hev]at ho;cases ho
          |some w =>
           rw[hev]at ho;cases w with
           |i _=>cases ho
           |a _=>cases ho
           |v x =>
            dsimp only at ho ⊢;cases hst:x.st with
            |none=>rw[hst]at ho;cases ho
            |some z =>simp only[e1,hst,Option.map_some,Option.join_some,Option.isSome_some,Option.getD_some];exact⟨(hc C s H fp pn ρ').2 y true hcv e1,fun _=>(he C s H fp pn ρ' x hev).toE hst⟩
         ·rename_i e1;simp only[e1,Option.join,Option.bind];exact⟨(hc C s H fp pn ρ').2 y false hcv e1,fun z=>by cases z⟩
         ·cases ho
        ·cases ho
  ·cases h
 ·cases h
theorem Nq{is:List Nat}{elt' it' c':Ex}{elt it tg:Expr}{ifs:List Expr}{scope:Scope}{p:Pos}{ρ:Rho}{r:Rk}(hq:X.calm=true)(hX:Cok X G)
  (hit:∀ρ ds,ev Γ G it' (j8 ρ)=some (.i ds)→DI X ρ tg it ds) (hkind:scope.kind=.function) (hok:Jt scope X.env X.N is=true) (hs:∀x,foldedSetIterable it X.env x=pure x)
  (hb:∀ρ d ρ2,zq is d (j8 ρ)=some ρ2→(∀j∈is,ρ[j]?=some .un)→∃ρ',j8 ρ'=ρ2∧Wk ρ' ρ∧owns ρ'=owns ρ∧∀C s H fp pn,DG (cCx X scope C s H fp pn) ρ tg d ρ')
  (he:∀C s H fp pn ρ r,ev Γ G elt' (j8 ρ)=some (.v r)→Has (cCx X scope C s H fp pn) ρ elt r)
  (hc:∀C s H fp pn ρ,(ev Γ G c' (j8 ρ)=some (.a [])→DTs (cCx X scope C s H fp pn) ρ ifs true)∧∀y k,ev Γ G c' (j8 ρ)=some (.a [y])→y.d=.bl k→DTs (cCx X scope C s H fp pn) ρ ifs k)
  (h:ev Γ G (.comp is elt' it' c') (j8 ρ)=some (.v r)):∃l,r=.o l∧DO X ρ (.ListComp elt [⟨tg,it,ifs,0⟩] scope p) l:=by
 obtain⟨l,ρf,ds,pr,g,er,el,hf,hi,hun,hz,hb'⟩:=O9 hit hb he hc h;refine⟨l,er,?_⟩;have main:DO X ρf (.ListComp elt [⟨tg,it,ifs,0⟩] scope p) ((ds.filter pr).map g):=DO.comp is _ _ hi hb' hun hz hq hkind hok hs;rw[←el]at main;rcases hf with e|⟨hn,i,a,l',hk,e⟩
 ·subst e;exact main
 ·subst e;exact DO.unfrz hk main hn
end
end L2
end
section
namespace L2
open PySem PySem.Spec PyProof.Rows
section
variable{X:Cx}{ρ:Rho}{a b e:Expr}{es:List Expr}{d:D}{pos p:Pos}
theorem Has.map(h:∀σ H Q,Jo X a σ H Q→Jo X e σ H Q):∀{r:Rk},Has X ρ a r→Has X ρ e r
 |.e _,q=>fun σ H Q R z=>h σ H Q (q σ H Q R z)
 |.o _,q=>fun σ H Q R z=>h σ H Q (q σ H Q R z)
 |.w _,q=>fun σ H Q R z=>h σ H Q (q σ H Q R z)
 |.t _,q=>fun σ H Q R z=>h σ H Q (q σ H Q R z)
theorem Has.bl{r:Rk}{k:Bool}(h:Has X ρ a r)(e:r.d=.bl k):DE X ρ a (.bl k):=DT.toE (e▸h.toT)
theorem Zk{f:Bf}{rs:List Rk}{r:Rk}{p2:Pos}{G:Str→Option D}(c:Cok X G)(hq:f=.min∨f=.all∨f=.sum∨f=.any∨f=.max→X.calm=true)(hg:Gl X f.name)(h:V3 f rs=some r)(ha:HasA X ρ es rs):Has X ρ (.Call (.Name f.name p) es [] p2) r:=by
 have one:∀{x:Rk},HasA X ρ es [x]→∃e,es=[e]∧Has X ρ e x∧starEach [e] X.env=[(false,eval e X.env)]:=fun{x} h=>by cases h with|cons hs h t=>cases t;exact⟨_,rfl,h,hs⟩
 have two:∀{x y:Rk},HasA X ρ es [x,y]→∃e f,es=[e,f]∧Has X ρ e x∧Has X ρ f y∧starEach [e,f] X.env=(false,eval e X.env)::starEach [f] X.env∧starEach [f] X.env=[(false,eval f X.env)]:=fun{x y} h=>by cases h with|cons hs h t=>cases t with|cons hs2 h2 t2=>cases t2;exact⟨_,_,rfl,h,h2,hs,hs2⟩
 unfold V3 at h;split at h
 ·rename_i x;obtain⟨e,ee,hx,hs⟩:=one ha;subst ee;split at h
  ·rename_i l el;cases h;exact DE.lenL (el▸hx.toT) (c.bt _ (by decide)) hg hs
  ·rename_i l el;cases h;exact DE.lenT (el▸hx.toT) (c.bt _ (by decide)) hg hs
  ·rename_i y el;obtain⟨z,q⟩:=jx h;subst q;exact DE.lenS (el▸hx.toT) (zc z) (c.bt _ (by decide)) hg hs
  ·cases h
 ·rename_i x y;obtain⟨e,f,ee,hx,hy,hs,hs2⟩:=two ha;subst ee;split at h
  ·rename_i i j ei ej;cases h;exact DE.min (ei▸hx.toT) (ej▸hy.toT) (c.bt _ (by decide)) (hq (.inl rfl)) hg hs hs2 (by rw[hs2];rfl)
  ·cases h
 ·rename_i x y;obtain⟨e,f,ee,hx,hy,hs,hs2⟩:=two ha;subst ee;split at h
  ·rename_i i j ei ej;cases h;exact DE.max2 (ei▸hx.toT) (ej▸hy.toT) (c.bt _ (by decide)) (hq (.inr (.inr (.inr (.inr rfl))))) hg hs hs2 (by rw[hs2];rfl)
  ·cases h
 ·rename_i x;obtain⟨e,ee,hx,hs⟩:=one ha;subst ee;split at h
  ·rename_i l el;split at h
   ·rename_i ns en;obtain⟨z,q⟩:=jx h;cases q;have:=Jy en;subst this;exact DE.maxL (el▸hx.toT) (fun z'=>by subst z';simp at z) (c.bt _ (by decide)) (hq (.inr (.inr (.inr (.inr rfl))))) hg hs
   ·cases h
  ·cases h
 ·rename_i x;obtain⟨e,ee,hx,hs⟩:=one ha;subst ee;split at h
  ·rename_i l el;split at h
   ·rename_i ns en;obtain⟨z,q⟩:=jx h;cases q;have:=Jy en;subst this;exact DE.minL (el▸hx.toT) (fun z'=>by subst z';simp at z) (c.bt _ (by decide)) (hq (.inl rfl)) hg hs
   ·cases h
  ·cases h
 ·rename_i x;obtain⟨e,ee,hx,hs⟩:=one ha;subst ee;split at h
  ·rename_i l el;cases q:boolsOf l with
   |none=>rw[q]at h;cases h
   |some bs =>rw[q]at h;cases h;have:=Wy q;subst this;exact DE.all (el▸hx.toT) (c.bt _ (by decide)) (hq (.inr (.inl rfl))) hg hs
  ·cases h
 ·rename_i x;obtain⟨e,ee,hx,hs⟩:=one ha;subst ee;split at h
  ·rename_i l el;cases q:boolsOf l with
   |none=>rw[q]at h;cases h
   |some bs =>rw[q]at h;cases h;have:=Wy q;subst this;exact DE.any (el▸hx.toT) (c.bt _ (by decide)) (hq (.inr (.inr (.inr (.inl rfl))))) hg hs
  ·cases h
 ·rename_i x;obtain⟨e,ee,hx,hs⟩:=one ha;subst ee;split at h
  ·rename_i s l el;cases h;exact DE.tupM (hx.toM el) (c.bt _ (by decide)) hg hs
  ·cases h
 ·rename_i x;obtain⟨e,ee,hx,hs⟩:=one ha;subst ee;split at h
  ·rename_i s l el;cases h;exact DO.listM (hx.toM el) (c.bt _ (by decide)) hg hs
  ·cases h
 ·rename_i x;obtain⟨e,ee,hx,hs⟩:=one ha;subst ee;split at h
  ·rename_i l el;cases q:intsOf l with
   |none=>rw[q]at h;cases h
   |some ns =>rw[q]at h;cases h;have:=Jy q;subst this;exact DE.sum true (show DT X ρ e (.lst (ns.map D.int))from el▸hx.toT) (c.bt _ (by decide)) (hq (.inr (.inr (.inl rfl)))) hg hs
  ·rename_i l el;cases q:intsOf l with
   |none=>rw[q]at h;cases h
   |some ns =>rw[q]at h;cases h;have:=Jy q;subst this;exact DE.sum false (show DT X ρ e (.tup (ns.map D.int))from el▸hx.toT) (c.bt _ (by decide)) (hq (.inr (.inr (.inl rfl)))) hg hs
  ·cases h
 ·rename_i x;obtain⟨e,ee,hx,hs⟩:=one ha;subst ee;split at h
  ·rename_i k el;cases h;exact DE.int1 (el▸hx.toT) (c.bt _ (by decide)) hg hs
  ·cases h
 ·cases h
end
section
variable{Γ:Str→List D→Rc}{G:Str→Option D}{X:Cx}
theorem j1c{d:D}{ns:List Int}(h:tupI d=some ns):d=.tup (ns.map D.int):=by
 unfold tupI at h;split at h
 ·rw[Jy h]
 ·cases h
theorem Ke:∀{l:List D}{ks:List (List Int)},Wi l=some ks→l=ks.map fun k=>D.tup (k.map D.int)
 |[],ks,h=>by cases h;rfl
 |d::l,ks,h=>by
  unfold Wi at h;split at h
  ·rename_i k ks' e1 e2;cases h;rw[j1c e1,Ke e2];rfl
  ·cases h
theorem j3r {ρ:Rho} {f:Str} {e:Expr} {es:List Expr} {rs:List Rk} {r:Rk} {p p2:Pos} (g:Gok X Γ) (hg:Gl X f) (hdb:(f==k89)=false) (he:starEach (e::es) X.env=(false,eval e X.env)::starEach es X.env)
  (hpl:(backTo p2 (starEach es X.env)).any (·.1)=false) (ha:HasA X ρ (e::es) rs)
  (h:(match zb rs with|some ds=>(Γ f ds).rk.map W.v|none=>match Γ f (rs.map Rk.d)with|.val d=>some (.v (.t d))|_=>none)=some (.v r)):Has X ρ (.Call (.Name f p) (e::es) [] p2) r:=by
 split at h
 ·rename_i ds hds;have q:=g f ds;cases z:Γ f ds with
  |val d=>rw[z]at h q;cases h;exact DE.call q (ha.toA hds) ⟨rfl,rfl⟩ hg hdb he hpl
  |fresh l=>rw[z]at h q;cases h;exact DO.call q (ha.toA hds) ⟨rfl,rfl⟩ hg hdb he hpl
  |err x=>rw[z]at h;cases h
  |lval d=>rw[z]at h;cases h
  |no=>rw[z]at h;cases h
 ·have q:=g f (rs.map Rk.d);split at h
  ·rename_i d z;rw[z]at q;cases h;exact DT.call q ha.toT ⟨rfl,rfl⟩ hg hdb he hpl
  ·cases h
end
def XM(X:Cx)(ρ:Rho)(y:Str):Nd→Prop
 |.e e=>DX X ρ e y
 |.a es=>DXA X ρ es y
 |_=>True
structure Tr(X:Cx)(t:Ex)(nd:Nd):Prop where
 m:∀(Γ:Str→List D→Rc)(G:Str→Option D),Cok X G→Gok X Γ→jgh Γ G X t nd
 x:∀(Γ:Str→List D→Rc)(G:Str→Option D),Cok X G→Gok X Γ→∀ρ y,er Γ G t (j8 ρ)=some y→XM X ρ y nd
theorem Tr.int:∀{X:Cx}{i:Int}{n:Nat}{p:Pos},Tr X (.lit (.int i)) (.e (.Constant (.int i) n p)):=by intro _ _ _ _;refine⟨fun Γ G=>?_,fun _ _ _ _ _ _ h=>nomatch h⟩;intro _ _ ρ r h;simp only[ev]at h;cases h;exact DE.int
theorem Tr.bl:∀{X:Cx}{b:Bool}{n:Nat}{p:Pos},Tr X (.lit (.bl b)) (.e (.Constant (.bool b) n p)):=by intro _ _ _ _;refine⟨fun Γ G=>?_,fun _ _ _ _ _ _ h=>nomatch h⟩;intro _ _ ρ r h;simp only[ev]at h;cases h;exact DE.bl
theorem Tr.non:∀{X:Cx}{n:Nat}{p:Pos},Tr X (.lit .non) (.e (.Constant .none n p)):=by intro _ _ _;refine⟨fun Γ G=>?_,fun _ _ _ _ _ _ h=>nomatch h⟩;intro _ _ ρ r h;simp only[ev]at h;cases h;exact DE.non
theorem Tr.str:∀{X:Cx}{y:Str}{n:Nat}{p:Pos},Tr X (.lit (.str y)) (.e (.Constant (.str y) n p)):=by intro _ _ _ _;refine⟨fun Γ G=>?_,fun _ _ _ _ _ _ h=>nomatch h⟩;intro _ _ ρ r h;simp only[ev]at h;cases h;exact DE.str
theorem Tr.var:∀{X:Cx}{k:Nat}{x:Str}{p:Pos}(hN:X.N[k]?=some x) (hv:Vis X.env.scope x) (hd:(x==k89)=false) (hcd:(x==k8a)=false),Tr X (.var k) (.e (.Name x p)):=by
 intro _ _ _ _ hN hv hd hcd;refine⟨fun Γ G=>?_,fun _ _ _ _ _ _ h=>nomatch h⟩;intro _ _ ρ r h;simp only[ev]at h;split at h
 ·rename_i e;cases h;exact DE.var _ (U9 e) hN hv hd hcd
 ·rename_i e;cases h;obtain⟨a,q⟩:=Q9 e;exact DL.var _ q hN hv hd hcd
 ·cases h
theorem Tr.glob:∀{X:Cx}{x:Str}{p:Pos}(hg:Gl X x)(hd:(x==k89)=false) (hb:Vy x=false),Tr X (.glob x) (.e (.Name x p)):=by
 intro _ _ _ hg hd hb;refine⟨fun Γ G=>?_,fun _ _ _ _ _ _ h=>nomatch h⟩;rename_i X x p;intro c _ ρ r h;simp only[ev]at h;cases e:G x with
 |none=>rw[e]at h;cases h
 |some d=>rw[e]at h;cases h;obtain⟨u,v,hm,r,q⟩:=c.gl x d hb e;exact DE.glob hg hm r q hd
theorem Tr.bin:∀{X:Cx}{op:Bop}{a' b':Ex}{a b:Expr}{p:Pos},Tr X a' (.e a)→Tr X b' (.e b)→Tr X (.bin op a' b') (.e (.BinOp a op.op b p)):=by
 intro _ _ _ _ _ _ _ q0 q1;refine⟨fun Γ G=>?_,fun _ _ _ _ _ _ h=>nomatch h⟩;have iha:=q0.m Γ G;have ihb:=q1.m Γ G;intro c g ρ r h;simp only[ev]at h;split at h
 ·rename_i x y ex ey;cases e:Y8 _ x y with
  |none=>rw[e]at h;cases h
  |some z=>rw[e]at h;cases h;exact j6h e (iha c g ρ x ex) (ihb c g ρ y ey)
 ·cases h
theorem Tr.neg:∀{X:Cx}{a':Ex}{a:Expr}{p:Pos},Tr X a' (.e a)→Tr X (.neg a') (.e (.UnaryOp .USub a p)):=by
 intro _ _ _ _ q0;refine⟨fun Γ G=>?_,fun _ _ _ _ _ _ h=>nomatch h⟩;have iha:=q0.m Γ G;intro c g ρ r h;simp only[ev]at h;split at h
 ·rename_i x ex;split at h
  ·rename_i i e;cases h;exact DE.neg (e▸(iha c g ρ x ex).toT)
  ·cases h
 ·cases h
theorem Tr.cmp:∀{X:Cx}{op:Cop}{a' b':Ex}{a b:Expr}{p:Pos}(hm:behindInMarks op.op b=false),Tr X a' (.e a)→Tr X b' (.e b)→Tr X (.cmp op a' b') (.e (.Compare a [op.op] [b] p)):=by
 intro _ _ _ _ _ _ _ hm q0 q1;refine⟨fun Γ G=>?_,fun _ _ _ _ _ _ h=>nomatch h⟩;have iha:=q0.m Γ G;have ihb:=q1.m Γ G;intro c g ρ r h;simp only[ev]at h;split at h
 ·rename_i x y ex ey;cases e:Zw _ x.d y.d with
  |none=>rw[e]at h;cases h
  |some z=>rw[e]at h;cases h;exact(Ld c.un' e (iha c g ρ x ex).toT (ihb c g ρ y ey).toT hm).1
 ·cases h
theorem Tr.bcmp:∀{X:Cx}{op:Cop}{a' b':Ex}{a b:Expr}{p:Pos}(hm:behindInMarks op.op b=false),Tr X a' (.e a)→Tr X b' (.e b)→Tr X (.cmp op a' b') (.b (.Compare a [op.op] [b] p)):=by
 intro _ _ _ _ _ _ _ hm q0 q1;refine⟨fun Γ G=>?_,fun _ _ _ _ _ _ _=>trivial⟩;have iha:=q0.m Γ G;have ihb:=q1.m Γ G;intro c g ρ k h;obtain⟨r,h,hk⟩:=J1 h;simp only[ev]at h;split at h
 ·rename_i x y ex ey;cases e:Zw _ x.d y.d with
  |none=>rw[e]at h;cases h
  |some z=>rw[e]at h;cases h;cases hk;exact(Ld c.un' e (iha c g ρ x ex).toT (ihb c g ρ y ey).toT hm).2
 ·cases h
theorem Tr.bisN:∀{X:Cx}{a':Ex}{a:Expr}{n:Nat}{p p2:Pos},Tr X a' (.e a)→Tr X (.isN a') (.b (.Compare a [.Is] [.Constant .none n p2] p)):=by
 intro _ _ _ _ _ _ q0;refine⟨fun Γ G=>?_,fun _ _ _ _ _ _ _=>trivial⟩;have iha:=q0.m Γ G;intro c g ρ k h;obtain⟨r,h,hk⟩:=J1 h;simp only[ev]at h;split at h
 ·rename_i x ex;cases h;cases hk;exact DB.isN (iha c g ρ x ex).toT
 ·cases h
theorem Tr.isNN:∀{X:Cx}{a':Ex}{a:Expr}{n:Nat}{p p2:Pos},Tr X a' (.e a)→Tr X (.not (.isN a')) (.e (.Compare a [.IsNot] [.Constant .none n p2] p)):=by
 intro _ _ _ _ _ _ q0;refine⟨fun Γ G=>?_,fun _ _ _ _ _ _ h=>nomatch h⟩;have iha:=q0.m Γ G;intro c g ρ r h;simp only[ev]at h;cases e:truth _ with
 |none=>rw[e]at h;cases h
 |some k =>
  rw[e]at h;cases h;obtain⟨x,ex,ed⟩:=J1 e;split at ex
  ·rename_i y ey;cases ex;cases ed;exact DE.isNotN (iha c g ρ y ey).toT
  ·cases ex
theorem Tr.bisNN:∀{X:Cx}{a':Ex}{a:Expr}{n:Nat}{p p2:Pos},Tr X a' (.e a)→Tr X (.not (.isN a')) (.b (.Compare a [.IsNot] [.Constant .none n p2] p)):=by
 intro _ _ _ _ _ _ q0;refine⟨fun Γ G=>?_,fun _ _ _ _ _ _ _=>trivial⟩;have iha:=q0.m Γ G;intro c g ρ k h;obtain⟨r,h,hk⟩:=J1 h;simp only[ev]at h;cases e:truth _ with
 |none=>rw[e]at h;cases h
 |some k =>
  rw[e]at h;cases h;cases hk;obtain⟨x,ex,ed⟩:=J1 e;split at ex
  ·rename_i y ey;cases ex;cases ed;exact DB.isNotN (iha c g ρ y ey).toT
  ·cases ex
theorem Tr.one:∀{X:Cx}{a':Ex}{a:Expr}{op:BoolOp}{p:Pos},Tr X a' (.e a)→Tr X a' (.e (.BoolOp op [a] p)):=by intro _ _ _ _ _ q0;refine⟨fun Γ G=>?_,fun Γ G c g ρ y h σ H Q R k=>(j50 peS).to (q0.x Γ G c g ρ y h σ H Q R k)⟩;have iha:=q0.m Γ G;intro c g ρ r h;exact Has.map (fun σ H Q q=>(j50 peS).to q) (iha c g ρ r h)
theorem Tr.and:∀{X:Cx}{a' t':Ex}{a b:Expr}{rest:List Expr}{p:Pos},Tr X a' (.e a)→Tr X t' (.e (.BoolOp .And (b::rest) p))→Tr X (.and a' t') (.e (.BoolOp .And (a::b::rest) p)):=by
 intro _ _ _ _ _ _ _ q0 q1;refine⟨fun Γ G=>?_,fun _ _ _ _ _ _ h=>nomatch h⟩;have iha:=q0.m Γ G;have ihb:=q1.m Γ G;intro c g ρ r h;simp only[ev]at h;split at h
 ·rename_i e;cases h;obtain⟨x,ex,ed⟩:=J1 e;exact(DE.and (m:=false) ((iha c g ρ x ex).bl ed).toT fun z=>by cases z)
 ·rename_i e;obtain⟨x,ex,ed⟩:=J1 e;cases e2:truth (ev Γ G _ (j8 ρ)) with
  |none=>rw[e2]at h;cases h
  |some k =>rw[e2]at h;cases h;obtain⟨y,ey,fd⟩:=J1 e2;exact(DE.and ((iha c g ρ x ex).bl ed).toT fun _=>(ihb c g ρ y ey).bl fd).eq (by simp)
 ·cases h
theorem Tr.wor1:∀{X:Cx}{a':Ex}{a:Expr}{p:Pos},Tr X a' (.b a)→Tr X a' (.w (.BoolOp .Or [a] p)):=by intro _ _ _ _ q0;refine⟨fun Γ G=>?_,fun _ _ _ _ _ _ _=>trivial⟩;have iha:=q0.m Γ G;intro c g ρ k h;exact DW.or1 (iha c g ρ k h)
theorem Tr.wor:∀{X:Cx}{a' t':Ex}{a b:Expr}{rest:List Expr}{p:Pos},Tr X a' (.b a)→Tr X t' (.w (.BoolOp .Or (b::rest) p))→Tr X (.or a' t') (.w (.BoolOp .Or (a::b::rest) p)):=by
 intro _ _ _ _ _ _ _ q0 q1;refine⟨fun Γ G=>?_,fun _ _ _ _ _ _ _=>trivial⟩;have iha:=q0.m Γ G;have ihb:=q1.m Γ G;intro c g ρ k h;obtain⟨r,h,hk⟩:=J1 h;simp only[ev]at h;split at h
 ·rename_i e;cases h;cases hk;exact DW.or (m:=false) (iha c g ρ true e) fun z=>by cases z
 ·rename_i e;cases e2:truth (ev Γ G _ (j8 ρ)) with
  |none=>rw[e2]at h;cases h
  |some m =>rw[e2]at h;cases h;cases hk;have q:=DW.or (iha c g ρ false e) fun _=>ihb c g ρ _ e2;rw[Bool.false_or]at q;exact q
 ·cases h
theorem Tr.bw:∀{X:Cx}{a':Ex}{op:BoolOp}{es:List Expr}{p:Pos},Tr X a' (.w (.BoolOp op es p))→Tr X a' (.b (.BoolOp op es p)):=by intro _ _ _ _ _ q0;refine⟨fun Γ G=>?_,fun _ _ _ _ _ _ _=>trivial⟩;have iha:=q0.m Γ G;intro c g ρ k h;exact DW.toB (iha c g ρ k h)
theorem Tr.bnot:∀{X:Cx}{a':Ex}{a:Expr}{p:Pos},Tr X a' (.b a)→Tr X (.not a') (.b (.UnaryOp .Not a p)):=by
 intro _ _ _ _ q0;refine⟨fun Γ G=>?_,fun _ _ _ _ _ _ _=>trivial⟩;have iha:=q0.m Γ G;intro c g ρ k h;obtain⟨r,h,hk⟩:=J1 h;simp only[ev]at h;cases e:truth (ev Γ G _ (j8 ρ)) with
 |none=>rw[e]at h;cases h
 |some m=>rw[e]at h;cases h;cases hk;exact DB.not (iha c g ρ m e)
theorem Tr.bval:∀{X:Cx}{a':Ex}{a:Expr}(he:∀whole,isTrue a X.env whole=(do let v ←whole;standAt a.pos;holding [v] (truthy v))),Tr X a' (.e a)→Tr X a' (.b a):=by intro _ _ _ he q0;refine⟨fun Γ G=>?_,fun _ _ _ _ _ _ _=>trivial⟩;have iha:=q0.m Γ G;intro c g ρ k h;obtain⟨r,h,hk⟩:=J1 h;exact DB.val ((iha c g ρ r h).bl hk).toT he
theorem Tr.ite:∀{X:Cx}{c' a' b':Ex}{c a b:Expr}{p:Pos},Tr X c' (.b c)→Tr X a' (.e a)→Tr X b' (.e b)→Tr X (.ite c' a' b') (.e (.IfExp c a b p)):=by
 intro _ _ _ _ _ _ _ _ q0 q1 q2;refine⟨fun Γ G=>?_,fun _ _ _ _ _ _ h=>nomatch h⟩;have ihc:=q0.m Γ G;have iha:=q1.m Γ G;have ihb:=q2.m Γ G;intro c g ρ r h;simp only[ev]at h;split at h
 ·rename_i e;split at h
  ·rename_i x ex;cases es:x.st with
   |none=>rw[es]at h;cases h
   |some d=>rw[es]at h;cases h;exact(DE.ite (d':=d) (ihc c g ρ true e) (fun _=>(iha c g ρ x ex).toE es) fun z=>by cases z).eq (by simp)
  ·cases h
 ·rename_i e;split at h
  ·rename_i x ex;cases es:x.st with
   |none=>rw[es]at h;cases h
   |some d=>rw[es]at h;cases h;exact(DE.ite (d:=d) (ihc c g ρ false e) (fun z=>by cases z) fun _=>(ihb c g ρ x ex).toE es).eq (by simp)
  ·cases h
 ·cases h
theorem Tr.nil:∀{X:Cx},Tr X .nil (.a []):=by intro _;refine⟨fun Γ G=>?_,fun _ _ _ _ _ _ h=>nomatch h⟩;intro c g ρ rs h;simp only[ev]at h;cases h;exact .nil
theorem Tr.cons:∀{X:Cx}{a' b':Ex}{a:Expr}{es:List Expr}(hs:starEach (a::es) X.env=(false,eval a X.env)::starEach es X.env),Tr X a' (.e a)→Tr X b' (.a es)→Tr X (.cons a' b') (.a (a::es)):=by
 intro _ _ _ _ _ hs q0 q1;refine⟨fun Γ G=>?_,fun Γ G=>?_⟩
 ·have iha:=q0.m Γ G;have ihb:=q1.m Γ G;intro c g ρ rs h;simp only[ev]at h;split at h
  ·rename_i x xs ex exs;cases h;exact .cons hs (iha c g ρ x ex) (ihb c g ρ xs exs)
  ·cases h
 ·skip
  intro c g ρ y h;rw[er]at h;split at h
  ·rename_i x ex;cases h;exact DXA.head (q0.x Γ G c g ρ _ ex) hs
  split at h
  ·rename_i r ez;exact DXA.tail (q0.m Γ G c g ρ r ez).toT (q1.x Γ G c g ρ y h) hs
  ·cases h
theorem Tr.tup:∀{X:Cx}{es':Ex}{es:List Expr}{n:Nat}{p:Pos},Tr X es' (.a es)→Tr X (.tup es') (.e (.Tuple es n p)):=by
 intro _ _ _ _ _ q0;refine⟨fun Γ G=>?_,fun _ _ _ _ _ _ h=>nomatch h⟩;have iha:=q0.m Γ G;intro c g ρ r h;simp only[ev]at h;split at h
 ·rename_i rs ers;split at h
  ·rename_i ds hds;obtain⟨z,q⟩:=jx h;cases q;exact DE.tup (n:=0) ((iha c g ρ rs ers).toA hds) (zc z)
  ·cases h
 ·cases h
theorem Tr.lst:∀{X:Cx}{es':Ex}{es:List Expr}{p:Pos},Tr X es' (.a es)→Tr X (.lst es') (.e (.List es p)):=by
 intro _ _ _ _ q0;refine⟨fun Γ G=>?_,fun _ _ _ _ _ _ h=>nomatch h⟩;have iha:=q0.m Γ G;intro c g ρ r h;simp only[ev]at h;split at h
 ·rename_i rs ers;split at h
  ·rename_i ds hds;obtain⟨z,q⟩:=jx h;cases q;exact DO.lst ((iha c g ρ rs ers).toA hds) (zc z)
  ·cases h
 ·cases h
theorem Tr.ix:∀{X:Cx}{a' b':Ex}{a b:Expr}{p:Pos}(hs:Yr b),Tr X a' (.e a)→Tr X b' (.e b)→Tr X (.ix a' b') (.e (.Subscript a b p)):=by
 intro _ _ _ _ _ _ hs q0 q1;refine⟨fun Γ G=>?_,fun Γ G c g ρ y h σ H Q R k=>(N8 j5d peS peS hs).to (q0.x Γ G c g ρ y (by rw[er]at h;exact h) σ H _ R k)⟩;have iha:=q0.m Γ G;have ihb:=q1.m Γ G;intro c g ρ r h;simp only[ev]at h;split at h
 ·rename_i x y ex ey;split at h
  ·rename_i s l i hx hy;cases z:atI l i with
   |none=>rw[z]at h;cases h
   |some d=>rw[z]at h;cases h;exact DE.ixM ((iha c g ρ x ex).toM hx) (hy▸(ihb c g ρ y ey).toT) z hs
  ·rename_i i hx hy;split at h
   ·rename_i y' ed;split at h
    ·rename_i hl;cases z:atI y'.cps.toList i with
     |none=>rw[z]at h;cases h
     |some d=>rw[z]at h;cases h;exact DE.ixC (ed▸(iha c g ρ x ex).toT) (hy▸(ihb c g ρ y ey).toT) (zc hl) z hs
    ·cases h
   ·cases h
  ·cases h
 ·cases h
theorem Tr.oN:∀{X:Cx},Tr X .nil (.o none):=by intro _;refine⟨fun Γ G=>?_,fun _ _ _ _ _ _ _=>trivial⟩;intro c g ρ o h;simp only[ev,Zz]at h;cases h;exact DP.none
theorem Tr.oS:∀{X:Cx}{a':Ex}{a:Expr},Tr X a' (.e a)→Tr X (.cons a' .nil) (.o (some a)):=by
 intro _ _ _ q0;refine⟨fun Γ G=>?_,fun _ _ _ _ _ _ _=>trivial⟩;have iha:=q0.m Γ G;intro c g ρ o h;simp only[ev]at h;split at h
 ·rename_i x xs ex exs;cases exs;simp only[Zz]at h;split at h
  ·rename_i i ei;cases h;exact DP.some (ei▸(iha c g ρ x ex).toT)
  ·cases h
 ·cases h
theorem Tr.sl:∀{X:Cx}{a' l' h':Ex}{a:Expr}{lo hi:Option Expr}{p p2:Pos},Tr X a' (.e a)→Tr X l' (.o lo)→Tr X h' (.o hi)→Tr X (.sl a' l' h') (.e (.Subscript a (.Slice lo hi none p2) p)):=by
 intro _ _ _ _ _ _ _ _ _ q0 q1 q2;refine⟨fun Γ G=>?_,fun _ _ _ _ _ _ h=>nomatch h⟩;have iha:=q0.m Γ G;have ihl:=q1.m Γ G;have ihh:=q2.m Γ G;intro c g ρ r h;simp only[ev]at h;split at h
 ·rename_i x l hh ex el eh;split at h
  ·rename_i ds e;cases h;exact DO.sliceM ((iha c g ρ x ex).toM e) (ihl c g ρ l el) (ihh c g ρ hh eh)
  ·rename_i ds e;split at h
   ·cases h
   ·rename_i z;cases h;exact DE.sliceM ((iha c g ρ x ex).toM e) (ihl c g ρ l el) (ihh c g ρ hh eh) z
  ·split at h
   ·rename_i y' ed;obtain⟨z,q⟩:=jx h;cases q;exact DE.sliceS (ed▸(iha c g ρ x ex).toT) (ihl c g ρ l el) (ihh c g ρ hh eh) (zc z)
   ·cases h
 ·cases h
theorem Tr.call:∀{X:Cx}{f:Str}{es':Ex}{e:Expr}{es:List Expr}{p p2:Pos}(hg:Gl X f) (hdb:(f==k89)=false) (he:starEach (e::es) X.env=(false,eval e X.env)::starEach es X.env) (hpl:(backTo p2 (starEach es X.env)).any (·.1)=false),Tr X es' (.a (e::es))→Tr X (.call f es') (.e (.Call (.Name f p) (e::es) [] p2)):=by
 intro _ f _ _ _ _ _ hg hdb he hpl q0;refine⟨fun Γ G=>?_,fun Γ G=>?_⟩
 ·have iha:=q0.m Γ G;intro c g ρ r h;simp only[ev]at h;split at h
  ·rename_i rs ers;exact j3r g hg hdb he hpl (iha c g ρ rs ers) h
  ·cases h
 ·skip
  intro c g ρ y h;rw[er]at h;split at h
  ·rename_i x ex;split at h
   ·rename_i hz;cases h;obtain⟨d,hd⟩:=Xn.mp hz;obtain⟨fa,hfa,hk⟩:=c.fn _ d hd;exact DX.args (q0.x Γ G c g ρ _ ex) hg hdb hfa hk he hpl
   ·cases h
  split at h
  ·rename_i rs ers;split at h
   ·rename_i z ez;split at h
    ·rename_i hz;cases h;have q:=g f (rs.map Rk.d);rw[ez]at q;obtain⟨d,hd⟩:=Xn.mp hz;obtain⟨_,o,ho⟩:=c.ec _ d hd;exact DX.call q (q0.m Γ G c g ρ rs ers).toT ⟨rfl,rfl⟩ (W.mg_of c.kin c.ns ho) hg hdb he hpl
    ·cases h
   ·cases h
  ·cases h
theorem Tr.len:∀{X:Cx}{es':Ex}{e:Expr}{p p2:Pos}(hg:Gl X "len"),Tr X es' (.a [e])→Tr X (.blt .len es') (.e (.Call (.Name "len" p) [e] [] p2)):=by
 intro _ _ _ _ _ hg q0;refine⟨fun Γ G=>?_,fun _ _ _ _ _ _ h=>nomatch h⟩;have iha:=q0.m Γ G;intro c g ρ r h;simp only[ev]at h;split at h
 ·rename_i rs ers;cases e:V3 _ rs with
  |none=>rw[e]at h;cases h
  |some x=>rw[e]at h;cases h;exact Zk (f:=.len) c (fun z=>by rcases z with z|z|z|z|z<;>cases z) hg e (iha c g ρ rs ers)
 ·cases h
theorem Tr.all:∀{X:Cx}{es':Ex}{e:Expr}{p p2:Pos}(hq:X.calm=true)(hg:Gl X "all"),Tr X es' (.a [e])→Tr X (.blt .all es') (.e (.Call (.Name "all" p) [e] [] p2)):=by
 intro _ _ _ _ _ hq hg q0;refine⟨fun Γ G=>?_,fun _ _ _ _ _ _ h=>nomatch h⟩;have iha:=q0.m Γ G;intro c g ρ r h;simp only[ev]at h;split at h
 ·rename_i rs ers;cases e:V3 _ rs with
  |none=>rw[e]at h;cases h
  |some x=>rw[e]at h;cases h;exact Zk (f:=.all) c (fun _=>hq) hg e (iha c g ρ rs ers)
 ·cases h
theorem Tr.tuple:∀{X:Cx}{es':Ex}{e:Expr}{p p2:Pos}(hg:Gl X "tuple"),Tr X es' (.a [e])→Tr X (.blt .tuple es') (.e (.Call (.Name "tuple" p) [e] [] p2)):=by
 intro _ _ _ _ _ hg q0;refine⟨fun Γ G=>?_,fun _ _ _ _ _ _ h=>nomatch h⟩;have iha:=q0.m Γ G;intro c g ρ r h;simp only[ev]at h;split at h
 ·rename_i rs ers;cases e:V3 _ rs with
  |none=>rw[e]at h;cases h
  |some x=>rw[e]at h;cases h;exact Zk (f:=.tuple) c (fun z=>by rcases z with z|z|z|z|z<;>cases z) hg e (iha c g ρ rs ers)
 ·cases h
theorem Tr.list:∀{X:Cx}{es':Ex}{e:Expr}{p p2:Pos}(hg:Gl X "list"),Tr X es' (.a [e])→Tr X (.blt .list es') (.e (.Call (.Name "list" p) [e] [] p2)):=by
 intro _ _ _ _ _ hg q0;refine⟨fun Γ G=>?_,fun _ _ _ _ _ _ h=>nomatch h⟩;have iha:=q0.m Γ G;intro c g ρ r h;simp only[ev]at h;split at h
 ·rename_i rs ers;cases e:V3 _ rs with
  |none=>rw[e]at h;cases h
  |some x=>rw[e]at h;cases h;exact Zk (f:=.list) c (fun z=>by rcases z with z|z|z|z|z<;>cases z) hg e (iha c g ρ rs ers)
 ·cases h
theorem Tr.sum:∀{X:Cx}{es':Ex}{e:Expr}{p p2:Pos}(hq:X.calm=true)(hg:Gl X "sum"),Tr X es' (.a [e])→Tr X (.blt .sum es') (.e (.Call (.Name "sum" p) [e] [] p2)):=by
 intro _ _ _ _ _ hq hg q0;refine⟨fun Γ G=>?_,fun _ _ _ _ _ _ h=>nomatch h⟩;have iha:=q0.m Γ G;intro c g ρ r h;simp only[ev]at h;split at h
 ·rename_i rs ers;cases e:V3 _ rs with
  |none=>rw[e]at h;cases h
  |some x=>rw[e]at h;cases h;exact Zk (f:=.sum) c (fun _=>hq) hg e (iha c g ρ rs ers)
 ·cases h
theorem Tr.intc:∀{X:Cx}{es':Ex}{e:Expr}{p p2:Pos}(hg:Gl X "int"),Tr X es' (.a [e])→Tr X (.blt .int es') (.e (.Call (.Name "int" p) [e] [] p2)):=by
 intro _ _ _ _ _ hg q0;refine⟨fun Γ G=>?_,fun _ _ _ _ _ _ h=>nomatch h⟩;have iha:=q0.m Γ G;intro c g ρ r h;simp only[ev]at h;split at h
 ·rename_i rs ers;cases e:V3 _ rs with
  |none=>rw[e]at h;cases h
  |some x=>rw[e]at h;cases h;exact Zk (f:=.int) c (fun z=>by rcases z with z|z|z|z|z<;>cases z) hg e (iha c g ρ rs ers)
 ·cases h
theorem Tr.join:∀{X:Cx}{a':Ex}{a:Expr}{sep:Str}{n:Nat}{p0 p1 p2:Pos}(hbase:attributeBase (.Constant (.str sep) n p0) "join" X.env (eval (.Constant (.str sep) n p0) X.env)=eval (.Constant (.str sep) n p0) X.env) (hfew:((backTo p2 (starEach [a] X.env)).all (fun x=>!x.1)&&(backToKw p2 (keywordEach [] X.env)).all (fun x=>x.1.isSome)&&decide (([a]:List Expr).length+([]:List Keyword).length+(if ([]:List Keyword).isEmpty then 0 else 1)<30))=true) (hline:(p1.endLine==p2.line)=true) (hs:starEach [a] X.env=(false,eval a X.env)::starEach [] X.env),Tr X a' (.e a)→Tr X (.join sep a') (.e (.Call (.Attribute (.Constant (.str sep) n p0) "join" p1) [a] [] p2)):=by
 intro _ _ _ _ _ _ _ _ hbase hfew hline hs q0;refine⟨fun Γ G=>?_,fun _ _ _ _ _ _ h=>nomatch h⟩;have iha:=q0.m Γ G;intro c g ρ r h;simp only[ev]at h;split at h
 ·rename_i x ex;split at h
  ·rename_i l el;split at h
   ·rename_i ts et;obtain⟨z,q⟩:=jx h;cases q;have:=Cd et;subst this;exact DE.join (el▸(iha c g ρ x ex).toT) z hfew hbase hline hs
   ·cases h
  ·cases h
 ·cases h
theorem Tr.enum:∀{X:Cx}{a':Ex}{a:Expr}{es:List Expr}{n:Nat}{p p2 pt:Pos}(hg:Gl X "enumerate") (hs:starEach [a] X.env=[(false,eval a X.env)]),Tr X a' (.e a)→Tr X (.enum a') (.i (.Tuple es n pt) (.Call (.Name "enumerate" p) [a] [] p2)):=by
 intro _ _ _ _ _ _ _ _ hg hs q0;refine⟨fun Γ G=>?_,fun _ _ _ _ _ _ _=>trivial⟩;have iha:=q0.m Γ G;intro c g ρ ds h;simp only[ev]at h;split at h
 ·rename_i x ex;have ha:=iha c g ρ x ex;split at h
  ·rename_i l e1;cases h;exact DI.enum true (ha.toE e1) (c.bt _ (by decide)) hg hs
  ·rename_i l e1;cases h;exact DI.enum false (ha.toE e1) (c.bt _ (by decide)) hg hs
  ·cases h
 ·cases h
theorem Tr.count:∀{X:Cx}{a' es':Ex}{a e:Expr}{p1 p2:Pos}(hbase:attributeBase a "count" X.env (eval a X.env)=eval a X.env) (hfew:((backTo p2 (starEach [e] X.env)).all (fun x=>!x.1)&&(backToKw p2 (keywordEach [] X.env)).all (fun x=>x.1.isSome)&&decide (([e]:List Expr).length+([]:List Keyword).length+(if ([]:List Keyword).isEmpty then 0 else 1)<30))=true) (hline:(p1.endLine==p2.line)=true),Tr X a' (.e a)→Tr X es' (.a [e])→Tr X (.meth .count a' es') (.e (.Call (.Attribute a "count" p1) [e] [] p2)):=by
 intro _ _ _ _ _ _ _ hbase hfew hline q0 q1;refine⟨fun Γ G=>?_,fun _ _ _ _ _ _ h=>nomatch h⟩;have iha:=q0.m Γ G;have ihb:=q1.m Γ G;intro c g ρ r h;simp only[ev]at h;split at h
 ·rename_i x rs ex ers;obtain⟨y,e,hy,hs⟩:=(ihb c g ρ rs ers).one;subst e;simp only[K7]at h;split at h
  ·rename_i l el;split at h
   ·rename_i z;cases h;exact DE.countT c.un' (el▸(iha c g ρ x ex).toT) hy.toT (by omega) (by omega) hbase hfew hline hs
   ·cases h
  ·rename_i l el;split at h
   ·rename_i z;cases h;exact DE.countL c.un' (el▸(iha c g ρ x ex).toT) hy.toT (by omega) (by omega) hbase hfew hline hs
   ·cases h
  ·cases h
 ·cases h
theorem Tr.callV:∀{X:Cx}{i:Nat}{y:Str}{es':Ex}{e:Expr}{es:List Expr}{p p2:Pos} (hN:X.N[i]?=some y) (hv:Vis X.env.scope y) (hd:(y==k89)=false) (hcd:(y==k8a)=false) (he:starEach (e::es) X.env=(false,eval e X.env)::starEach es X.env) (hpl:(backTo p2 (starEach es X.env)).any (·.1)=false),Tr X es' (.a (e::es))→Tr X (.callV i es') (.e (.Call (.Name y p) (e::es) [] p2)):=by
 intro _ i y es' e es p p2 hN hv hd hcd he hpl q0;refine⟨fun Γ G=>?_,fun _ _ _ _ _ _ h=>nomatch h⟩;have iha:=q0.m Γ G;intro c g ρ r h;simp only[ev]at h;split at h
 ·rename_i x cs rs ei ers;split at h
  ·rename_i ds eds;split at h
   ·rename_i nf;have q:=g (jo x) (cs++ds);cases z:Γ (jo x) (cs++ds) with
    |lval d =>rw[z]at h q;cases h;obtain⟨k,hr,lk⟩:=q x rfl;exact DE.callV lk hr (U9 ei) ((iha c g ρ rs ers).toA eds) nf ⟨rfl,rfl⟩ hN hv hd hcd he hpl
    |val d=>rw[z]at h;cases h
    |fresh l=>rw[z]at h;cases h
    |err x=>rw[z]at h;cases h
    |no=>rw[z]at h;cases h
   ·cases h
  ·cases h
 ·cases h
theorem Tr.dget:∀{X:Cx}{a' b':Ex}{a b:Expr}{p:Pos}(hs:Yr b),Tr X a' (.e a)→Tr X b' (.e b)→Tr X (.dget a' b') (.e (.Subscript a b p)):=by
 intro _ _ _ _ _ _ hs q0 q1;refine⟨fun Γ G=>?_,fun _ _ _ _ _ _ h=>nomatch h⟩;have iha:=q0.m Γ G;have ihb:=q1.m Γ G;intro c g ρ r h;simp only[ev]at h;split at h
 ·rename_i ks ds y ex ey;split at h
  ·rename_i k ek;cases e:qw ks ds k with
   |none=>rw[e]at h;cases h
   |some d=>rw[e]at h;cases h;exact DE.dget c.un' ((iha c g ρ (.e (.dct ks ds)) ex).toE rfl) (j1c ek▸(ihb c g ρ y ey).toT) e hs
  ·cases h
 ·cases h
theorem Tr.dvals:∀{X:Cx}{a':Ex}{a:Expr}{p p1 p2 pos:Pos}(hq:X.calm=true)(hg:Gl X "tuple") (hbase:attributeBase a "values" X.env (eval a X.env)=eval a X.env) (hline:(p1.endLine==p2.line)=true) (hs2:starEach [.Call (.Attribute a "values" p1) [] [] p2] X.env=[(false,eval (.Call (.Attribute a "values" p1) [] [] p2) X.env)]),Tr X a' (.e a)→Tr X (.dvals a') (.e (.Call (.Name "tuple" p) [.Call (.Attribute a "values" p1) [] [] p2] [] pos)):=by
 intro _ _ _ _ _ _ _ hq hg hbase hline hs2 q0;refine⟨fun Γ G=>?_,fun _ _ _ _ _ _ h=>nomatch h⟩;have iha:=q0.m Γ G;intro c g ρ r h;simp only[ev]at h;split at h
 ·rename_i ks ds ex;cases h;exact DE.tupVals ((iha c g ρ (.e (.dct ks ds)) ex).toE rfl) hq (c.bt _ (by decide)) hg hbase hline hs2
 ·cases h
theorem Tr.minT:∀{X:Cx}{a':Ex}{a:Expr}{p pos:Pos}(hq:X.calm=true)(hg:Gl X "min") (hs:starEach [a] X.env=[(false,eval a X.env)]),Tr X a' (.e a)→Tr X (.minT a') (.e (.Call (.Name "min" p) [a] [] pos)):=by
 intro _ _ _ _ _ hq hg hs q0;refine⟨fun Γ G=>?_,fun _ _ _ _ _ _ h=>nomatch h⟩;have iha:=q0.m Γ G;intro c g ρ r h;simp only[ev]at h;split at h
 ·rename_i x ex;split at h
  ·rename_i l el;split at h
   ·rename_i ks ek;cases e:ks[argBest (Ja ks) (ks.length-1)]? with
    |none=>rw[e]at h;cases h
    |some k =>rw[e]at h;cases h;exact DT.minT c.un' hq (c.bt _ (by decide)) hg (by have z:=(iha c g ρ x ex).toT;rw[el,Ke ek]at z;exact z) e hs
   ·cases h
  ·cases h
 ·cases h
theorem Tr.c0:∀{X:Cx},Tr X .nil (.c []):=by intro _;refine⟨fun Γ G=>?_,fun _ _ _ _ _ _ _=>trivial⟩;intro c g ρ;exact⟨fun _=>DTs.nil,fun y k h=>by simp only[ev]at h;cases h⟩
theorem Tr.c1:∀{X:Cx}{c':Ex}{c:Expr},Tr X c' (.b c)→Tr X (.cons c' .nil) (.c [c]):=by
 intro _ _ _ q0;refine⟨fun Γ G=>?_,fun _ _ _ _ _ _ _=>trivial⟩;have iha:=q0.m Γ G;intro c g ρ;refine⟨fun h=>?_,fun y k h hk=>DTs.one ?_⟩
 ·simp only[ev]at h;split at h<;>cases h
 ·simp only[ev]at h;split at h
  ·rename_i x xs ex exs;cases exs;cases h;exact iha c g ρ k (by rw[ex];simp only[truth,hk])
  ·cases h
theorem Tr.comp1:∀{X:Cx}{i:Nat}{y:Str}{py p:Pos}{elt' it' c':Ex}{elt it:Expr}{ifs:List Expr} {scope:Scope} (hq:X.calm=true) (hi:X.N[i]?=some y) (hl:Uc scope y=true) (hkind:scope.kind=.function) (hok:Jt scope X.env X.N [i]=true) (hs:∀x,foldedSetIterable it X.env x=pure x),Tr X it' (.i (.Name y py) it)→(∀C s H fp pn,Tr (cCx X scope C s H fp pn) elt' (.e elt))→(∀C s H fp pn,Tr (cCx X scope C s H fp pn) c' (.c ifs))→Tr X (.comp [i] elt' it' c') (.e (.ListComp elt [⟨.Name y py,it,ifs,0⟩] scope p)):=by
 intro _ _ _ _ _ _ _ _ _ _ _ _ hq hi hl hkind hok hs q0 q1 q2;refine⟨fun Γ G=>?_,fun _ _ _ _ _ _ h=>nomatch h⟩;have ihi:=q0.m Γ G;have ihe:=fun C s H fp pn=>(q1 C s H fp pn).m Γ G;have ihc:=fun C s H fp pn=>(q2 C s H fp pn).m Γ G;intro c g ρ r h;obtain⟨l,e,q⟩:=Nq hq c (fun ρ ds z=>ihi c g ρ ds z) hkind hok hs (fun ρ d ρ2 hb hun=>by
  simp only[zq]at hb
  cases hb
  have hu:=hun _ (xu.mpr rfl)
  exact⟨_,jf,Wk.set hu,Vo hu,fun C s H fp pn=>DG.name _ c.nd hi (Mi hl) (Bu hl)⟩)
  (fun C s H fp pn ρ r z=>ihe C s H fp pn c.comp g.comp ρ r z) (fun C s H fp pn ρ=>ihc C s H fp pn c.comp g.comp ρ) h
 subst e;exact q
theorem Tr.comp2:∀{X:Cx}{i j:Nat}{x y:Str}{px py pt p:Pos}{n:Nat}{elt' it' c':Ex}{elt it:Expr} {ifs:List Expr} {scope:Scope} (hq:X.calm=true) (hij:i≠j) (hi:X.N[i]?=some x) (hj:X.N[j]?=some y) (hl:Uc scope x=true) (hl':Uc scope y=true) (hkind:scope.kind=.function) (hok:Jt scope X.env X.N [i,j]=true) (hs:∀x,foldedSetIterable it X.env x=pure x),Tr X it' (.i (.Tuple [.Name x px,.Name y py] n pt) it)→(∀C s H fp pn,Tr (cCx X scope C s H fp pn) elt' (.e elt))→(∀C s H fp pn,Tr (cCx X scope C s H fp pn) c' (.c ifs))→Tr X (.comp [i,j] elt' it' c') (.e (.ListComp elt [⟨.Tuple [.Name x px,.Name y py] n pt,it,ifs,0⟩] scope p)):=by
 intro _ i j _ _ _ _ _ _ _ _ _ _ _ _ _ _ hq hij hi hj hl hl' hkind hok hs q0 q1 q2;refine⟨fun Γ G=>?_,fun _ _ _ _ _ _ h=>nomatch h⟩;have ihi:=q0.m Γ G;have ihe:=fun C s H fp pn=>(q1 C s H fp pn).m Γ G;have ihc:=fun C s H fp pn=>(q2 C s H fp pn).m Γ G;intro c g ρ r h;obtain⟨l,e,q⟩:=Nq hq c (fun ρ ds z=>ihi c g ρ ds z) hkind hok hs (fun ρ d ρ2 hb hun=>by
  simp only[zq]at hb
  split at hb
  ·rename_i a b
   cases hb
   have hu:=hun _ (xq ..)
   have hu':=hun _ (kj _ (xu.mpr rfl))
   have h1:(ρ.set i (.val a))[j]?=some Sl.un:=by rw[qi hij];exact hu'
   exact⟨(ρ.set i (.val a)).set j (.val b),by rw[jf,jf];rfl,fun K σ H R=>Wk.set hu K σ H (Wk.set h1 K σ H R),by rw[Vo h1,Vo hu],
    fun C s H fp pn=>DG.pair _ _ hij c.nd hi hj (Mi hl) (Mi hl') (Bu hl) (Bu hl') hq⟩
  ·cases hb)
  (fun C s H fp pn ρ r z=>ihe C s H fp pn c.comp g.comp ρ r z) (fun C s H fp pn ρ=>ihc C s H fp pn c.comp g.comp ρ) h
 subst e;exact q
theorem Tr.seq:∀{X:Cx}{a':Ex}{tg a:Expr},Tr X a' (.e a)→Tr X (.seq a') (.i tg a):=by
 intro _ _ _ _ q0;refine⟨fun Γ G=>?_,fun _ _ _ _ _ _ _=>trivial⟩;have iha:=q0.m Γ G;intro c g ρ ds h;simp only[ev]at h;split at h
 ·rename_i l e;cases h;exact DI.lst (iha c g ρ _ e)
 ·rename_i l e;cases h;exact DI.tup (iha c g ρ _ e)
 ·rename_i l e;cases h;exact DI.lst (DO.toE (iha c g ρ _ e))
 ·rename_i y e;obtain⟨z,q⟩:=jx h;cases q;exact DI.str (iha c g ρ _ e).toT z
 ·cases h
theorem Tr.range:∀{X:Cx}{es':Ex}{tg:Expr}{es:List Expr}{p p2:Pos}(hg:Gl X "range"),Tr X es' (.a es)→Tr X (.range es') (.i tg (.Call (.Name "range" p) es [] p2)):=by
 intro _ _ _ _ _ _ hg q0;refine⟨fun Γ G=>?_,fun _ _ _ _ _ _ _=>trivial⟩;have iha:=q0.m Γ G;intro c g ρ ds h;simp only[ev]at h;split at h
 ·rename_i x ex;have q:=iha c g ρ _ ex;cases q with|cons hs hx t =>
  cases t;split at h
  ·rename_i n en;obtain⟨z,q⟩:=jx h;cases q;exact DI.range1 (en▸hx.toT) (c.bt _ (by decide)) z.1 z.2 hg hs
  ·cases h
 ·rename_i x y ex;have q:=iha c g ρ _ ex;cases q with|cons hs hx t =>
  cases t with|cons hs2 hy t2 =>
  cases t2;split at h
  ·rename_i m n em en;obtain⟨z,q⟩:=jx h;cases q;exact DI.range2 (em▸hx.toT) (en▸hy.toT) (c.bt _ (by decide)) z.1 z.2.1 z.2.2.1 z.2.2.2 hg (by rw[hs,hs2];rfl) hs2 hs
  ·cases h
 ·cases h
theorem Tr.p0:∀{X:Cx},Tr X .nil (.p []):=by intro _;refine⟨fun Γ G=>?_,fun _ _ _ _ _ _ _=>trivial⟩;intro c g ρ rs h;simp only[ev]at h;cases h;trivial
theorem Tr.pC:∀{X:Cx}{y:Str}{n:Nat}{p:Pos}{b':Ex}{es:List Expr},Tr X b' (.p es)→Tr X (.cons (.lit (.str y)) b') (.p (.Constant (.str y) n p::es)):=by
 intro _ _ _ _ _ _ q0;refine⟨fun Γ G=>?_,fun _ _ _ _ _ _ _=>trivial⟩;have ihb:=q0.m Γ G;intro c g ρ rs h;simp only[ev]at h;split at h
 ·rename_i x xs ex exs;cases h;cases ex;refine⟨fun z hz=>?_,ihb c g ρ xs exs⟩;have hz:(if _ then some _ else none)=some z:=hz;split at hz
  ·cases hz;exact DE.str
  ·cases hz
 ·cases h
theorem Tr.pF:∀{X:Cx}{a' b':Ex}{a:Expr}{p:Pos}{es:List Expr},Tr X a' (.e a)→Tr X b' (.p es)→Tr X (.cons a' b') (.p (.FormattedValue a (-1) none p::es)):=by
 intro _ _ _ _ _ _ q0 q1;refine⟨fun Γ G=>?_,fun _ _ _ _ _ _ _=>trivial⟩;have iha:=q0.m Γ G;have ihb:=q1.m Γ G;intro c g ρ rs h;simp only[ev]at h;split at h
 ·rename_i x xs ex exs;cases h;exact⟨fun y hy=>DE.fmt (iha c g ρ x ex).toT hy,ihb c g ρ xs exs⟩
 ·cases h
theorem Tr.fst:∀{X:Cx}{es':Ex}{a b:Expr}{es:List Expr}{p:Pos},Tr X es' (.p (a::b::es))→Tr X (.fst es') (.e (.JoinedStr (a::b::es) p)):=by
 intro _ _ _ _ _ _ q0;refine⟨fun Γ G=>?_,fun _ _ _ _ _ _ h=>nomatch h⟩;have ih:=q0.m Γ G;intro c g ρ r h;simp only[ev]at h;split at h
 ·rename_i rs ers;split at h
  ·rename_i hl;cases e:vo rs with
   |none=>rw[e]at h;cases h
   |some ys =>rw[e]at h;cases h;obtain⟨z1,z2⟩:=(ih c g ρ rs ers).all e;exact DE.joined z1 (O2 e) (by rw[z2];exact hl)
  ·cases h
 ·cases h
theorem Tr.isxV:∀{X:Cx}{i:Nat}{y:Str}{p p1 p2 pos:Pos}(hN:X.N[i]?=some y) (hv:Vis X.env.scope y) (hd:(y==k89)=false) (hcd:(y==k8a)=false) (hg:Gl X "isinstance") (hg2:Gl X "ValueError") (hs:starEach [.Name y p1,.Name "ValueError" p2] X.env=(false,eval (.Name y p1) X.env)::starEach [.Name "ValueError" p2] X.env),Tr X (.isx i ["ValueError"]) (.e (.Call (.Name "isinstance" p) [.Name y p1,.Name "ValueError" p2] [] pos)):=by
 intro _ _ _ _ _ _ _ hN hv hd hcd hg hg2 hs;refine⟨fun Γ G=>?_,fun _ _ _ _ _ _ h=>nomatch h⟩;intro c g ρ r h;simp only[ev]at h;split at h
 ·rename_i x e1 e2;split at h
  ·rename_i hx;cases h;obtain⟨a,o,q⟩:=Bl e1;exact DE.isxV c.ea (List.contains_iff_mem.mp hx) q (c.bt _ (by decide)) (c.bt _ (by decide)) hN hv hd hcd hg hg2 hs rfl rfl
  ·cases h
 ·cases h
theorem Tr.isx1:∀{X:Cx}{i:Nat}{y c:Str}{p p1 p2 pos:Pos}(hc:c∈jr)(hcV:(c==("ValueError":Str))=false) (hN:X.N[i]?=some y) (hv:Vis X.env.scope y) (hd:(y==k89)=false) (hcd:(y==k8a)=false) (hg:Gl X "isinstance") (hg2:Gl X c) (hdb:(c==k89)=false) (hs:starEach [.Name y p1,.Name c p2] X.env=(false,eval (.Name y p1) X.env)::starEach [.Name c p2] X.env),Tr X (.isx i [c]) (.e (.Call (.Name "isinstance" p) [.Name y p1,.Name c p2] [] pos)):=by
 intro _ _ _ _ _ _ _ _ hc hcV hN hv hd hcd hg hg2 hdb hs;refine⟨fun Γ G=>?_,fun _ _ _ _ _ _ h=>nomatch h⟩;intro c g ρ r h;simp only[ev]at h;split at h
 ·rename_i x e1 e2;split at h
  ·rename_i hx;cases h;obtain⟨a,o,q⟩:=Bl e1;obtain⟨v,hv1⟩:=c.el e2 _ hc;simp only[List.any_cons,List.any_nil,hcV,Bool.false_or,Bool.or_false];exact DE.isx1 c.ea (List.contains_iff_mem.mp hx) q (c.bt _ (by decide)) hc hv1 (W.mg_of c.kin c.ns hv1) hN hv hd hcd hg hg2 hdb hs rfl rfl
  ·cases h
 ·cases h
theorem Tr.isx2:∀{X:Cx}{i:Nat}{y c1 c2:Str}{m:Nat}{p p1 p2 p3 p4 pos:Pos}(hc1:c1∈jr)(hc2:c2∈jr) (hcV1:(c1==("ValueError":Str))=false) (hcV2:(c2==("ValueError":Str))=false) (hN:X.N[i]?=some y) (hv:Vis X.env.scope y) (hd:(y==k89)=false) (hcd:(y==k8a)=false) (hg:Gl X "isinstance") (hg1:Gl X c1) (hg2:Gl X c2) (hdb1:(c1==k89)=false) (hdb2:(c2==k89)=false) (hs:starEach [.Name y p1,.Tuple [.Name c1 p2,.Name c2 p3] m p4] X.env=(false,eval (.Name y p1) X.env)::starEach [.Tuple [.Name c1 p2,.Name c2 p3] m p4] X.env),Tr X (.isx i [c1,c2]) (.e (.Call (.Name "isinstance" p) [.Name y p1,.Tuple [.Name c1 p2,.Name c2 p3] m p4] [] pos)):=by
 intro _ _ _ _ _ _ _ _ _ _ _ _ hc1 hc2 hcV1 hcV2 hN hv hd hcd hg hg1 hg2 hdb1 hdb2 hs;refine⟨fun Γ G=>?_,fun _ _ _ _ _ _ h=>nomatch h⟩;intro c g ρ r h;simp only[ev]at h;split at h
 ·rename_i x e1 e2;split at h
  ·rename_i hx;cases h;obtain⟨a,o,q⟩:=Bl e1;obtain⟨v1,hv1⟩:=c.el e2 _ hc1;obtain⟨v2,hv2⟩:=c.el e2 _ hc2;simp only[List.any_cons,List.any_nil,hcV1,hcV2,Bool.false_or,Bool.or_false];exact DE.isx2 c.ea (List.contains_iff_mem.mp hx) q (c.bt _ (by decide)) hc1 hc2 hv1 hv2 (W.mg_of c.kin c.ns hv1) (W.mg_of c.kin c.ns hv2) hN hv hd hcd hg hg1 hg2 hdb1 hdb2 hs rfl rfl rfl rfl
  ·cases h
 ·cases h
section
variable{Γ:Str→List D→Rc}{G:Str→Option D}{X:Cx}
theorem sound{t:Ex}{nd:Nd}(h:Tr X t nd):Cok X G→Gok X Γ→jgh Γ G X t nd:=h.m Γ G
theorem Kv{t:Ex}{nd:Nd}(h:Tr X t nd):Cok X G→Gok X Γ→∀ρ y,er Γ G t (j8 ρ)=some y→XM X ρ y nd:=h.x Γ G
end
end L2
end
section
namespace L2
open PySem PySem.Spec PyProof.Rows
inductive Sx where
 |nop
 |seq (a b:Sx)
 |set (i:Nat) (e:Ex)
 |mov (i j:Nat)
 |expr (e:Ex)
 |ret (e:Ex)
 |retV (i:Nat)
 |ife (c:Ex) (a b:Sx)
 |loop (is:List Nat) (it:Ex) (body:Sx)
 |whl (c:Ex) (body:Sx)
 |app (i:Nat) (e:Ex)
 |ext (i:Nat) (e:Ex)
 |put (i:Nat) (k e:Ex)
 |fgt (i:Nat)
 |keep (i:Nat)
 |dcp (i j:Nat) (k e:Ex)
 |taken (h q:Nat) (a b c t:Ex)
 |unp (i j:Nat) (e:Ex)
 |dmake (x t y:Nat) (it e:Ex)
 |ioN (es e:Ex)
 |retL (x:Str) (is:List Nat)
 |retC (f x:Str) (a b:Ex) (is:List Nat)
 |nmake (x t y:Nat) (it e1 e2:Ex)
 |pop3 (i j k w:Nat)
 |apop (i w:Nat) (e:Ex)
 |wmake (x t:Nat) (it e:Ex)
 |raise (x:Str) (e:Ex)
 |tryK (b:Sx) (i j:Nat)
 |fail
inductive So where
 |next (ρ:En)
 |ret (r:Rc)
 |brk (ρ:En)
 |cnt (ρ:En)
 |err (x:Str) (ρ:En)
 |no
noncomputable def orE(o:So)(x:Option Str)(ρ:En):So:=match o with
 |.no=>match x with
  |some y=>.err y ρ
  |none=>.no
 |o=>o
noncomputable def Qg(f:D→En→So):List D→En→So
 |[],ρ=>.next ρ
 |d::ds,ρ=>match f d ρ with
  |.next ρ'=>Qg f ds ρ'
  |.cnt ρ'=>Qg f ds ρ'
  |.brk ρ'=>.next ρ'
  |.ret r=>.ret r
  |.err x ρ'=>.err x ρ'
  |.no=>.no
noncomputable def Jl(c:En→Option Bool)(f:En→So):Nat→En→So
 |0,_=>.no
 |n+1,ρ=>match c ρ with
  |some false=>.next ρ
  |some true=>match f ρ with
   |.next ρ'=>Jl c f n ρ'
   |.cnt ρ'=>Jl c f n ρ'
   |.brk ρ'=>.next ρ'
   |.ret r=>.ret r
   |.err x ρ'=>.err x ρ'
   |.no=>.no
  |none=>.no
noncomputable def stOf:Option W→Option D
 |some (.v x)=>x.st
 |_=>none
noncomputable def j3n(f:En→Option D)(t y:Nat):List D→En→List (List Int)→List D→Option (List (List Int)×List D)
 |[],_,ks,vs=>some (ks,vs)
 |d::ds,ρ,ks,vs=>match d with
  |.tup l=>match intsOf l,f (ρ.set t (.val d)) with
   |some k,some d'=>if d'.isNon=true then j3n f t y ds ((ρ.set t (.val d)).set y (.val d')) ks vs
    else if ks.contains k=false∧ks.length<sizeLine then j3n f t y ds ((ρ.set t (.val d)).set y (.val d')) (ks++[k]) (vs++[d'])else none
   |_,_=>none
  |_=>none
noncomputable def Yc(f1 f2:En→Option D)(x t y:Nat):List D→En→List (List Int)→List Int→Option (List (List Int)×List Int)
 |[],_,ks,ns=>some (ks,ns)
 |d::ds,ρ,ks,ns=>match d with
  |.tup l=>match intsOf l,f1 (ρ.set t (.val d)) with
   |some k,some d1=>match f2 (((ρ.set t (.val d)).set y (.val d1)).set x (.val (.dct ks (ns.map D.int)))) with
    |some (.int n)=>if ks.contains k=false∧ks.length<sizeLine then Yc f1 f2 x t y ds ((ρ.set t (.val d)).set y (.val d1)) (ks++[k]) (ns++[n])else none
    |_=>none
   |_,_=>none
  |_=>none
noncomputable def Y9(f2:En→Option D)(x t:Nat):List D→En→List (List Int)→List Int→Option (List (List Int)×List Int)
 |[],_,ks,ns=>some (ks,ns)
 |d::ds,ρ,ks,ns=>match d with
  |.tup l=>match intsOf l,f2 ((ρ.set t (.val d)).set x (.val (.dct ks (ns.map D.int)))) with
   |some k,some (.int n)=>if ks.contains k=false∧ks.length<sizeLine then Y9 f2 x t ds (ρ.set t (.val d)) (ks++[k]) (ns++[n])else none
   |_,_=>none
  |_=>none
noncomputable def Z2(ρ:En):List Nat→Option (List D)
 |[]=>some []
 |i::is=>match ρ[i]?,Z2 ρ is with
  |some (.val d),some ds=>some (d::ds)
  |_,_=>none
noncomputable def run(fu:Nat)(Γ:Str→List D→Rc)(G:Str→Option D):Sx→En→So
 |.nop,ρ=>.next ρ
 |.seq a b,ρ=>match run fu Γ G a ρ with
  |.next ρ'=>run fu Γ G b ρ'
  |o=>o
 |.set i e,ρ=>orE (match ev Γ G e ρ with
  |some (.v (.o l))=>.next (ρ.set i (.own l))
  |some (.v x)=>match x.st with
   |some d=>.next (ρ.set i (.val d))
   |none=>.no
  |_=>.no) (er Γ G e ρ) ρ
 |.mov i j,ρ=>match ρ[j]? with
  |some (.own l)=>if i=j then .no else .next ((ρ.set j .un).set i (.own l))
  |some (.val d)=>.next (ρ.set i (.val d))
  |_=>.no
 |.expr e,ρ=>orE (match ev Γ G e ρ with
  |some (.v _)=>.next ρ
  |_=>.no) (er Γ G e ρ) ρ
 |.ret e,ρ=>orE (match ev Γ G e ρ with
  |some (.v (.o l))=>.ret (.fresh l)
  |some (.v x)=>.ret (.val x.d)
  |_=>.no) (er Γ G e ρ) ρ
 |.retV i,ρ=>match ρ[i]? with
  |some (.own l)=>.ret (.fresh l)
  |some (.val d)=>.ret (.val d)
  |_=>.no
 |.ife c a b,ρ=>match truth (ev Γ G c ρ) with
  |some true=>run fu Γ G a ρ
  |some false=>run fu Γ G b ρ
  |none=>.no
 |.loop is it body,ρ=>match ev Γ G it (frz it ρ) with
  |some (.i ds)=>Qg (fun d ρ=>match zq is d ρ with
   |some ρ2=>run fu Γ G body ρ2
   |none=>.no) ds (frz it ρ)
  |_=>.no
 |.whl c body,ρ=>Jl (fun ρ=>truth (ev Γ G c ρ)) (fun ρ=>run fu Γ G body ρ) fu ρ
 |.app i e,ρ=>match ρ[i]?,ev Γ G e ρ with
  |some (.own l),some (.v x)=>match x.st with
   |some d=>if l.length<sizeLine then .next (ρ.set i (.own (l++[d])))else .no
   |none=>.no
  |_,_=>.no
 |.ext i e,ρ=>match ρ[i]?,ev Γ G e ρ with
  |some (.own l),some (.v (.o m))=>if ji (l.length+m.length)=true then .next (ρ.set i (.own (l++m)))else .no
  |_,_=>.no
 |.put i k e,ρ=>match ρ[i]?,ev Γ G k ρ,ev Γ G e ρ with
  |some (.own l),some (.v y),some (.v x)=>match y.d,x.st with
   |.int j,some d=>match ixN l.length j with
    |some n=>.next (ρ.set i (.own (l.set n d)))
    |none=>.no
   |_,_=>.no
  |_,_,_=>.no
 |.fgt i,ρ=>.next (ρ.set i .un)
 |.keep i,ρ=>match ρ[i]? with
  |some (.own l)=>.next (ρ.set i (.val (.lst l)))
  |some (.val _)=>.next ρ
  |_=>.no
 |.dcp i j k e,ρ=>if i≠j∧i<ρ.length then match ρ[j]? with
   |some (.val (.sct kvs))=>match ev Γ G k (ρ.set i .un),ev Γ G e (ρ.set i .un) with
    |some (.v y),some (.v x)=>match y.d,x.d with
     |.str z,.int n=>if kvs.length<sizeLine then .next (ρ.set i (.val (.sct (dput kvs z n))))else .no
     |_,_=>.no
    |_,_=>.no
   |_=>.no
  else .no
 |.taken h q a b e t,ρ=>if h≠q∧h<ρ.length then match ev Γ G a ρ,ev Γ G b ρ with
   |some (.v (.o la)),some (.v (.o lb))=>match ev Γ G e (ρ.set h (.val (.lst [.lst la,.lst lb]))) with
    |some (.v x)=>match x.st with
     |some d=>if Qp d=true∧truth (ev Γ G t ((ρ.set h (.val (.lst [.lst la,.lst lb]))).set q (.val d)))=some false then .next ((ρ.set h (.val (.lst [.lst la.reverse,.lst []]))).set q (.val d))else .no
     |none=>.no
    |_=>.no
   |_,_=>.no
  else .no
 |.unp i j e,ρ=>match stOf (ev Γ G e ρ) with
  |some (.tup [d,d'])=>if i=j then .no else .next ((ρ.set i (.val d)).set j (.val d'))
  |_=>.no
 |.dmake x t y it e,ρ=>if x<ρ.length∧t<ρ.length∧y<ρ.length∧x≠t∧x≠y∧t≠y then match ev Γ G it (ρ.set x .un) with
   |some (.i ds)=>match j3n (fun ρ=>stOf (ev Γ G e ρ)) t y ds (ρ.set x .un) [] [] with
    |some r=>.ret (.val (.dct r.1 r.2))
    |none=>.no
   |_=>.no
  else .no
 |.ioN es e,ρ=>match G (qm "_law_plan"),ev Γ G es ρ,ev Γ G e ρ with
  |some _,some (.a [x,y,z]),some (.v (.o [.int n]))=>match x.d,y.d,z.d with
   |.lst ls,.int draw,.int k=>match strsOf ls with
    |some ws=>if 0≤k∧k≤5∧ws.length≤60 then .ret (.val (Uh k.toNat ws draw n).1)else .no
    |none=>.no
   |_,_,_=>.no
  |_,_,_=>.no
 |.retL x is,ρ=>match Z2 ρ is with
  |some ds=>.ret (.val (.fn x ds))
  |none=>.no
 |.retC f x a b is,ρ=>match Z2 ρ is,ev Γ G a ρ,ev Γ G b ρ with
  |some ds,some (.v u),some (.v v)=>match Γ f [u.d,v.d,.fn x ds] with
   |.val d=>if noFn d=true then .ret (.val d)else .no
   |_=>.no
  |_,_,_=>.no
 |.nmake x t y it e1 e2,ρ=>if x<ρ.length∧t<ρ.length∧y<ρ.length∧x≠t∧x≠y∧t≠y then match ev Γ G it (ρ.set x .un) with
   |some (.i ds)=>match Yc (fun ρ=>stOf (ev Γ G e1 ρ)) (fun ρ=>stOf (ev Γ G e2 ρ)) x t y ds (ρ.set x .un) [] [] with
    |some r=>.ret (.val (.dct r.1 (r.2.map D.int)))
    |none=>.no
   |_=>.no
  else .no
 |.wmake x t it e,ρ=>if x<ρ.length∧t<ρ.length∧x≠t then match ev Γ G it (ρ.set x .un) with
   |some (.i ds)=>match Y9 (fun ρ=>stOf (ev Γ G e ρ)) x t ds (ρ.set x .un) [] [] with
    |some r=>.ret (.val (.dct r.1 (r.2.map D.int)))
    |none=>.no
   |_=>.no
  else .no
 |.apop i w e,ρ=>match ρ[i]?,ρ[w]?,ev Γ G e ρ with
  |some (.own l),some (.own m),some (.v y)=>match y.st with
   |some (.int z)=>match ixN m.length z with
    |some k=>match m[k]? with
     |some d=>if i≠w∧l.length<sizeLine∧m.length≤1000000 then .next ((ρ.set w (.own (m.eraseIdx k))).set i (.own (l++[d])))else .no
     |none=>.no
    |none=>.no
   |_=>.no
  |_,_,_=>.no
 |.pop3 i j k w,ρ=>match ρ[w]? with
  |some (.own l)=>match l.getLast? with
   |some (.tup [a,b,c])=>.next ((((ρ.set w (.own l.dropLast)).set i (.val a)).set j (.val b)).set k (.val c))
   |_=>.no
  |_=>.no
 |.raise x e,ρ=>match ev Γ G e ρ,G (bang x) with
  |some (.v _),some _=>.err x ρ
  |_,_=>.no
 |.tryK b i j,ρ=>match run fu Γ G b ρ with
  |.err x ρ'=>match G (bang x) with
   |some (.lst l)=>.next (((ρ'.set j (.exc x)).set i (.own l)).set j .un)
   |_=>.no
  |o=>o
 |.fail,_=>.no
def j3y(X:Cx):List (Str×Addr)→List Nat→Prop
 |[],is=>is=[]
 |p::cl,is=>∃(i:Nat)(r:List Nat),is=i::r∧X.N[i]?=some p.1∧X.env.scope.names.lookup p.1=some .cell∧X.env.cells.lookup p.1=some p.2∧X.fn p.1=true∧j3y X cl r
theorem Dp{X:Cx}{ρ:Rho}:∀{cl:List (Str×Addr)} {is:List Nat} {ds:List D},j3y X cl is→Z2 (j8 ρ) is=some ds→Ze X ρ cl ds
 |[],_,ds,h,e=>by cases h;cases e;rfl
 |p::cl,_,ds,⟨i,r,ei,h1,h2,h3,h4,l⟩,e=>by
  subst ei;unfold Z2 at e;split at e
  ·rename_i d ds' e1 e2;cases e;exact⟨d,ds',i,rfl,h1,h2,h3,h4,U9 e1,Dp l e2⟩
  ·cases e
inductive Ns where
 |s (st:Stmt)
 |ss (sts:List Stmt)
noncomputable def Rt.rc:Rt→Rc
 |.val d=>.val d
 |.fresh l=>.fresh l
def V8(o:So)(P:Po):Prop:=match o with
 |.next ρ'=>∀ρ2,j8 ρ2=ρ'→P.nx ρ2
 |.ret r=>∀x:Rt,x.rc=r→P.rt x
 |.brk ρ'=>∀ρ2,j8 ρ2=ρ'→P.bk ρ2
 |.cnt ρ'=>∀ρ2,j8 ρ2=ρ'→P.ct ρ2
 |.err x ρ'=>∀ρ2,j8 ρ2=ρ'→P.ex x ρ2
 |.no=>False
theorem Ud{o:So}{x:Option Str}{ρ:En}{P:Po}(h:V8 (orE o x ρ) P):V8 o P∨∃y,x=some y∧∀ρ2,j8 ρ2=ρ→P.ex y ρ2:=by
 cases o with
 |no =>
  cases x with
  |none=>exact h.elim
  |some y=>exact .inr ⟨y,rfl,h⟩
 |_=>exact .inl h
def ja4(fu:Nat)(Γ:Str→List D→Rc)(G:Str→Option D)(X:Cx)(t:Sx):Ns→Prop
 |.s st=>∀ρ P,V8 (run fu Γ G t (j8 ρ)) P→DS X ρ st P
 |.ss sts=>∀ρ P,V8 (run fu Γ G t (j8 ρ)) P→DSs X ρ sts P
end L2
end
section
namespace L2
open PySem PySem.Spec PyProof.Rows
section
variable{K:k85}{ρ:Rho}{σ:St}{H:Hp}{i j:Nat}{a:Addr}{l:List D}
theorem Rep.move(R:Rep K ρ σ H)(hj:ρ[j]?=some (.own a l))(hij:i≠j):Rep K ((ρ.set j .un).set i (.own a l)) (σ.set i (some (.ref a))) H:=by
 have s1:(owns (ρ.set j .un)).Sublist (owns ρ):=jk rfl;have na:a∉owns (ρ.set j .un):=fun z=>by
  obtain⟨k,l',q⟩:=Vp z;rcases getElem?_set_of q with ⟨_,z,_⟩|⟨n,q⟩
  ·cases z
  ·exact n (Yx R.nd hj q)
 obtain⟨nd,sub⟩:=Jr (ds:=l) (i:=i) (s1.nodup R.nd) na;have g:j0 (del H (owns ρ)) (del H (owns ((ρ.set j .un).set i (.own a l)))):=vq fun b hb=>by
  rcases sub b hb with e|z
  ·exact e▸Ql hj
  ·exact s1.subset z
 refine⟨by simp[R.len],fun k d' h=>?_,fun k b ds' h=>?_,nd,fun k b o x h=>?_,R.tb⟩
 ·rcases getElem?_set_of h with ⟨rfl,z,_⟩|⟨n,h⟩
  ·cases z
  ·rcases getElem?_set_of h with ⟨rfl,z,_⟩|⟨n2,h⟩
   ·cases z
   ·obtain⟨u,q,e⟩:=R.val k d' h;exact⟨u,by rw[qi n];exact q,e.mono g⟩
 ·rcases getElem?_set_of h with ⟨rfl,z,hl⟩|⟨n,h⟩
  ·cases z;obtain⟨_,xs,hx,en⟩:=R.own j a l hj;exact⟨Zm (by rw[R.len];simpa using hl),xs,hx,en.mono g⟩
  ·rcases getElem?_set_of h with ⟨rfl,z,_⟩|⟨n2,h⟩
   ·cases z
   ·obtain⟨q,xs,hx,en⟩:=R.own k b ds' h;exact⟨by rw[qi n];exact q,xs,hx,en.mono g⟩
 ·rcases getElem?_set_of h with ⟨rfl,z,_⟩|⟨n,h⟩
  ·cases z
  ·rcases getElem?_set_of h with ⟨rfl,z,_⟩|⟨n2,h⟩
   ·cases z
   ·obtain⟨q,h,z⟩:=R.raw k b o x h;exact⟨by rw[qi n];exact q,g _ _ h,z⟩
end
section
variable{X:Cx}{ρ:Rho}{e a b c:Expr}{es:List Expr}{st:Stmt}{rest sa sb body:List Stmt}{P:Po}{d:D}{ds ds':List D}{pos p p1 p2 p3:Pos}{x y:Str}{i j:Nat}
theorem DS.freeze(i:Nat){l:Addr}(h:ρ[i]?=some (.own l ds))(h2:DS X (ρ.set i (.val (.lst ds))) st P):DS X ρ st P:=fun σ H E R q =>h2 σ H E (R.freeze h) (q.step (.drop fun b hb=>(jk rfl).subset hb))
theorem DS.mov{l:Addr}(hk:ρ[j]?=some (.own l ds))(hij:i≠j)(h:P.nx ((ρ.set j .un).set i (.own l ds)))(hN:X.N.Nodup)(hi:X.N[i]?=some x)(hj:X.N[j]?=some y)(hx:Loc X.env.scope x)
  (hf:X.fn x=true∨X.env.scope.names.lookup x=some .local) (hv:Vis X.env.scope y) (hd:(y==k89)=false) (hcd:(y==k8a)=false):DS X ρ (.Assign [.Name x p] (.Name y p1) pos) P:=fun σ H E R q=>by
 obtain⟨hs,xs,m,en⟩:=R.own j l ds hk;refine(Yu hN hi hx (zr hj hv hd hcd) rfl hf).to ⟨_,hs,q.nx _ _ H h (R.move hk hij) (.drop fun b hb=>?_)⟩;have s1:(owns (ρ.set j .un)).Sublist (owns ρ):=jk rfl;have na:l∉owns (ρ.set j .un):=fun z=>by
  obtain⟨k,l',q⟩:=Vp z;rcases getElem?_set_of q with ⟨_,z,_⟩|⟨n,q⟩
  ·cases z
  ·exact n (Yx R.nd hk q)
 rcases(Jr (ds:=ds) (i:=i) (s1.nodup R.nd) na).2 b hb with z|z
 ·exact z▸Ql hk
 ·exact s1.subset z
theorem DS.whileN(W:Nat→Rho→Prop)(n:Nat)(h0:W n ρ)(hs:∀m ρ',W m ρ'→∃k,DB X ρ' c k∧(k=true→DSs X ρ' body { nx:=fun ρ2=>∃m2,m2<m∧W m2 ρ2,rt:=P.rt,bk:=P.nx,ct:=fun ρ2=>∃m2,m2<m∧W m2 ρ2,ex:=P.ex })∧(k=false→P.nx ρ'))
  (hp:PassesOwn (model X.prog X.w) X.A X.env X.xe):DS X ρ (.While c body [] pos) P:=fun σ H E R q=>by
 refine(j7e hp ptS Rv).to ?_;refine⟨fun m σ' H'=>∃ρ',W m ρ'∧Rep X.K ρ' σ' H'∧Fr0 ρ ρ' H H',⟨n,ρ,h0,R,Fr0.refl _ _⟩,?_⟩;rintro m σ' H' ⟨ρ',w,R',f⟩;obtain⟨k,hk,ht,hf⟩:=hs m ρ' w;refine hk σ' H' _ R' fun H1 g1=>?_;have f1:Fr0 ρ ρ' H H1:=j0.trans f (Fr0.grow g1);cases k with
 |false=>exact Ep (q.nx ρ' σ' H1 (hf rfl) (R'.grow g1) f1)
 |true =>refine Eo ⟨fun σ2 H2=>∃ρ2,(∃m2,m2<m∧W m2 ρ2)∧Rep X.K ρ2 σ2 H2∧Fr0 ρ ρ2 H H2,fun σ2 H2 ⟨ρ2,⟨m2,hlt,w2⟩,R2,f2⟩=>⟨m2,hlt,ρ2,w2,R2,f2⟩,?_⟩;exact ht rfl σ' H1 _ (R'.grow g1) ⟨fun ρ3 σ4 H4 n R4 f4=>⟨ρ3,n,R4,f1.trans f4⟩,fun ρ3 σ4 H4 n R4 f4=>q.nx ρ3 σ4 H4 n R4 (f1.trans f4),fun ρ3 σ4 H4 n R4 f4=>⟨ρ3,n,R4,f1.trans f4⟩,fun r v H4 n z=>q.rt r v H4 n (Bo.step f1 z),fun x ρ3 σ4 H4 n R4 f4=>q.ex x ρ3 σ4 H4 n R4 (f1.trans f4)⟩
theorem DS.setCf{ρf:Rho}{tg elt iter:Expr}{ifs:List Expr}{scope:Scope}{spos:Pos}(i:Nat)(cs:List Nat)(pr:D→Bool)(g:D→D)(hfr:∀K σ H,Rep K ρ σ H→Rep K ρf σ H)(hno:ρf=ρ∨zg ((ds.filter pr).map g)=true)(hi:DI X ρf tg iter ds)
  (hb:∀C s H fp pn,∀d∈ds,∃ρ2,DG (cCx X scope C s H fp pn) ρf tg d ρ2∧Wk ρ2 ρf∧owns ρ2=owns ρf∧DTs (cCx X scope C s H fp pn) ρ2 ifs (pr d)∧(pr d=true→DE (cCx X scope C s H fp pn) ρ2 elt (g d)))
  (h:∀l,P.nx (ρ.set i (.own l ((ds.filter pr).map g)))) (hN:X.N.Nodup) (hcs:∀j∈cs,ρf[j]?=some .un) (hsz:ds.length≤sizeLine) (hX:X.N[i]?=some x) (hx:Loc X.env.scope x)
  (hf:X.fn x=true∨X.env.scope.names.lookup x=some .local)
  (hsw:swapsWith (.ListComp elt [⟨tg,iter,ifs,0⟩] scope pos) (some (.Name x p1)) spos.line X.env=pure true)
  (hc:X.calm=true) (hkind:scope.kind=.function) (hok:Jt scope X.env X.N cs=true)
  (hs:∀x,foldedSetIterable iter X.env x=pure x):DS X ρ (.Assign [.Name x p1] (.ListComp elt [⟨tg,iter,ifs,0⟩] scope pos) spos) P:=fun σ H E R q pins s I=>by
 have Rf:=hfr _ _ _ R;rw[exec_Assign_Name_used _ _ _ _ hsw];refine wpAny_bind (wpAny_standAt (wpAny_bind ?_));show wpAny _ X.A (do let _ ←comprehension (.ListComp elt [⟨tg,iter,ifs,0⟩] scope pos) scope X.env _ (newList []) false (eval iter X.env) (some (assign (.Name x p1) X.env))) _ _ s;refine wpAny_bind (wpAny_mono (wpAny_comprehension_free (use:=some (assign (.Name x p1) X.env)) (Q:=fun _ s'=>SP X pins E .next s') rfl hs (Nt (Oa hok)) hkind (M8 hok)
  (thn (hi σ H (fun J H'=>j0 H H'∧Ua X.K (del H' (owns ρf)) J ds) Rf (fun J H' g1 ok=>⟨g1,ok⟩) pins s I) fun v s1 h1=>thn h1 fun itv s2 h2=>?_)) (fun _ s' hq=>wpAny_pure (wpAny_pure hq)) fun _ _ e=>e)
 obtain⟨it,fp,tn,J,H2,e,I2,T,st2,f2,g2,ok⟩:=h2;subst e;refine Lb (RR:=fun acc C=>compPost (model X.prog X.w) X.A X.xe (some (assign (.Name x p1) X.env)) (fun _ s'=>SP X pins E .next s') acc C) I2 (Rf.grow g2) T st2 f2 ok hc hkind hok hcs hsz hb ?_;intro D C xs H' s' m I' gg n m' en hm L;show wpAny _ X.A (assign (.Name x p1) X.env (.ref D)) _ _ _;refine wpAny_assign_Name (Rn I' hN hX hx (v:=.ref D) rfl (fun s'' I'' ⟨a,sb,ha⟩=>?_) hf);have hCa:C≠a:=by
  rcases ha with e|e
  ·rw[e];exact L.loc
  ·exact Ne.symm (L.cell x a e)
 have en':j4 X.K (del H' (D::owns ρ)) ((ds.filter pr).map g) xs:=by
  rcases hno with e|e
  ·rw[e]at en;exact en
  ·exact(en.mono jm).hide (fun c hc=>by
    rcases xm.mp hc with z|z
    ·rw[z];exact .inl ⟨xs,m'⟩
    ·exact .inl ((R.grow (g2.trans gg)).owned c z)) e
 refine⟨m,hm.sameBut sb hCa,fun h' sb'=>⟨σ.set i (some (.ref D)),H',I''.loose L sb',?_⟩⟩;exact q.nx _ _ H' (h D) (R.set_own (g2.trans gg) (g2.free n) m' en') (Fr0.new R (g2.trans gg) (g2.free n))
end
end L2
end
section
namespace L2
open PySem PySem.Spec PyProof.Rows
section
variable{fu:Nat}{Γ:Str→List D→Rc}{G:Str→Option D}{X:Cx}{P:Po}
theorem bind1{i:Nat}{y:Str}{p:Pos}(nd:X.N.Nodup)(hi:X.N[i]?=some y)(hx:Loc X.env.scope y)(hf:X.fn y=true∨X.env.scope.names.lookup y=some .local) :
  ∀ρ d ρ2,zq [i] d (j8 ρ)=some ρ2→∃ρ',j8 ρ'=ρ2∧DG X ρ (.Name y p) d ρ':=fun ρ d ρ2 h=>by
 simp only[zq]at h;cases h;exact⟨_,jf,DG.name _ nd hi hx hf⟩
theorem DS.setX{e:Expr}{x y:Str}{i:Nat}{p pos:Pos}{ρ:Rho}(he:DX X ρ e y)(h:P.ex y ρ)(hN:X.N.Nodup)(hi:X.N[i]?=some x)(hx:Loc X.env.scope x)(hs:swapsWith e (some (.Name x p)) pos.line X.env=pure false)(hf:X.fn x=true∨X.env.scope.names.lookup x=some .local) :
  DS X ρ (.Assign [.Name x p] e pos) P:=fun σ H E R q=>(Yu hN hi hx peS hs hf).to (he σ H _ R (q.ex y ρ σ H h R (Fr0.refl _ _)))
theorem DS.exprX{e:Expr}{y:Str}{pos:Pos}{ρ:Rho}(he:DX X ρ e y)(h:P.ex y ρ)(hs:swapsWith e none pos.line X.env=pure false):DS X ρ (.Expr e pos) P:=fun σ H E R q =>(Ml peS hs).to (he σ H _ R (q.ex y ρ σ H h R (Fr0.refl _ _)))
theorem DS.retX{e:Expr}{y:Str}{pos:Pos}{ρ:Rho}(he:DX X ρ e y)(h:P.ex y ρ):DS X ρ (.Return (some e) pos) P:=fun σ H E R q =>(W3 peS).to (he σ H _ R (q.ex y ρ σ H h R (Fr0.refl _ _)))
theorem j37{is:List Nat}{it':Ex}{b:Sx}{it tg:Expr}{body:List Stmt}{pos:Pos}{ρ:Rho}(hq:X.calm=true)(c:Cok X G)(hs:∀x,foldedSetIterable it X.env x=pure x)
  (hb:∀ρ d ρ2,zq is d (j8 ρ)=some ρ2→∃ρ',j8 ρ'=ρ2∧DG X ρ tg d ρ') (hi:∀ρ ds,ev Γ G it' (j8 ρ)=some (.i ds)→DI X ρ tg it ds)
  (ih:∀ρ P,V8 (run fu Γ G b (j8 ρ)) P→DSs X ρ body P) (h:V8 (run fu Γ G (.loop is it' b) (j8 ρ)) P):DS X ρ (.For tg it body [] pos) P:=by
 have main:∀ρf:Rho,j8 ρf=frz it' (j8 ρ)→DS X ρf (.For tg it body [] pos) P:=fun ρf ef=>by
  unfold run at h;rw[←ef]at h;split at h
  ·rename_i ds hds;generalize hf:(fun d ρ=>_:D→En→So)=f at h;refine DS.for (ds:=ds) (fun i ρ'=>V8 (Qg f (ds.drop i) (j8 ρ')) P) (hi ρf ds hds) (by rw[List.drop_zero];exact h) (fun i d ρ' hd w=>?_) (fun ρ' w=>?_) hq c.po hs
   ·have hdr:ds.drop i=d::ds.drop (i+1):=by obtain⟨hlt,e⟩:=Xa.mp hd;rw[Pu hlt,e]
    rw[hdr,Qg]at w;have ef2:f d (j8 ρ')=match zq is d (j8 ρ')with|some ρ2=>run fu Γ G b ρ2|none=>.no:=by rw[←hf]<;>rfl
    rw[ef2]at w;cases hb2:zq is d (j8 ρ') with
    |none=>rw[hb2]at w;exact w.elim
    |some ρ2 =>
     rw[hb2]at w;obtain⟨ρ3,e3,dg⟩:=hb ρ' d ρ2 hb2;refine⟨ρ3,dg,ih ρ3 _ ?_⟩;rw[e3];dsimp only at w;cases ho:run fu Γ G b ρ2 with
     |next ρ4=>rw[ho]at w;exact fun ρ5 e=>by rw[←e]at w;exact w
     |cnt ρ4=>rw[ho]at w;exact fun ρ5 e=>by rw[←e]at w;exact w
     |brk ρ4=>rw[ho]at w;exact w
     |ret r=>rw[ho]at w;exact w
     |err x ρ4=>rw[ho]at w;exact w
     |no=>rw[ho]at w;exact w
   ·rw[List.drop_length,Qg]at w;exact w ρ' rfl
  ·exact h.elim
 by_cases z:Jd it' (j8 ρ)=true
 ·unfold Jd at z;split at z
  ·rename_i i ei;split at z
   ·rename_i l e;obtain⟨a,q⟩:=Q9 e;refine DS.freeze i q (main _ ?_);rw[jf];simp only[frz,ei,e,Sl.abs]
   ·cases z
  ·cases z
 ·have z':Jd it' (j8 ρ)=false:=by simpa using z
  refine main ρ ?_;unfold frz;split
  ·rename_i i ei;split
   ·rename_i l e;simp only[Jd,ei,e]at z';cases z'
   ·rfl
  ·rfl
theorem j0n{c':Ex}{b:Sx}{cd:Expr}{body:List Stmt}{pos:Pos}{ρ:Rho}(c:Cok X G)(hc:∀ρ k,truth (ev Γ G c' (j8 ρ))=some k→DB X ρ cd k)
  (ih:∀ρ P,V8 (run fu Γ G b (j8 ρ)) P→DSs X ρ body P) (h:V8 (run fu Γ G (.whl c' b) (j8 ρ)) P):DS X ρ (.While cd body [] pos) P:=by
 unfold run at h;refine DS.whileN (fun n ρ'=>V8 (Jl (fun ρ=>truth (ev Γ G c' ρ)) (fun ρ=>run fu Γ G b ρ) n (j8 ρ')) P) fu h (fun m ρ' w=>?_) c.po;cases m with
 |zero=>rw[Jl]at w;exact w.elim
 |succ m =>
  rw[Jl]at w;split at w
  ·rename_i e;exact⟨false,hc ρ' false e,(fun z=>by cases z),fun _=>w ρ' rfl⟩
  ·rename_i e;refine⟨true,hc ρ' true e,fun _=>ih ρ' _ ?_,fun z=>by cases z⟩;cases ho:run fu Γ G b (j8 ρ') with
   |next ρ4=>rw[ho]at w;exact fun ρ5 e=>⟨m,Nat.lt_succ_self _,by rw[←e]at w;exact w⟩
   |cnt ρ4=>rw[ho]at w;exact fun ρ5 e=>⟨m,Nat.lt_succ_self _,by rw[←e]at w;exact w⟩
   |brk ρ4=>rw[ho]at w;exact w
   |ret r=>rw[ho]at w;exact w
   |err x ρ4=>rw[ho]at w;exact w
   |no=>rw[ho]at w;exact w
  ·exact w.elim
theorem j2p{is:List Nat}{elt' it' c':Ex}{elt it tg:Expr}{ifs:List Expr}{scope:Scope}{p p1 pos:Pos}{k:Nat}{z:Str}{ρ:Rho}(hq:X.calm=true)(hX:Cok X G)
  (hk:X.N[k]?=some z) (hx:Loc X.env.scope z) (hf:X.fn z=true∨X.env.scope.names.lookup z=some .local)
  (hsw:swapsWith (.ListComp elt [⟨tg,it,ifs,0⟩] scope p) (some (.Name z p1)) pos.line X.env=pure true)
  (hit:∀ρ ds,ev Γ G it' (j8 ρ)=some (.i ds)→DI X ρ tg it ds) (hkind:scope.kind=.function) (hok:Jt scope X.env X.N is=true) (hs:∀x,foldedSetIterable it X.env x=pure x)
  (hb:∀ρ d ρ2,zq is d (j8 ρ)=some ρ2→(∀j∈is,ρ[j]?=some .un)→∃ρ',j8 ρ'=ρ2∧Wk ρ' ρ∧owns ρ'=owns ρ∧∀C s H fp pn,DG (cCx X scope C s H fp pn) ρ tg d ρ')
  (he:∀C s H fp pn ρ r,ev Γ G elt' (j8 ρ)=some (.v r)→Has (cCx X scope C s H fp pn) ρ elt r)
  (hc:∀C s H fp pn ρ,(ev Γ G c' (j8 ρ)=some (.a [])→DTs (cCx X scope C s H fp pn) ρ ifs true)∧∀y k,ev Γ G c' (j8 ρ)=some (.a [y])→y.d=.bl k→DTs (cCx X scope C s H fp pn) ρ ifs k)
  (h:V8 (run fu Γ G (.set k (.comp is elt' it' c')) (j8 ρ)) P):DS X ρ (.Assign [.Name z p1] (.ListComp elt [⟨tg,it,ifs,0⟩] scope p) pos) P:=by
 unfold run at h;have h:=(Ud h).resolve_right fun⟨y,ey,_⟩=>by simp only[er]at ey;cases ey
 cases e:ev Γ G (.comp is elt' it' c') (j8 ρ) with
 |none=>rw[e]at h;exact h.elim
 |some w =>
  rw[e]at h;cases w with
  |a _=>exact h.elim
  |i _=>exact h.elim
  |v r =>
   obtain⟨l,ρf,ds,pr,g,er,el,hfz,hi,hun,hz,hb'⟩:=O9 hit hb he hc e;subst er;refine DS.setCf (ρf:=ρf) k is pr g ?_ ?_ hi hb' (fun a=>?_) hX.nd hun hz hk hx hf hsw hq hkind hok hs
   ·rcases hfz with e|⟨_,i,a,l',q,e⟩
    ·subst e;exact fun _ _ _ R=>R
    ·subst e;exact fun _ _ _ R=>R.freeze q
   ·rcases hfz with e|⟨n,_⟩
    ·exact .inl e
    ·exact .inr (el▸n)
   ·rw[←el];exact h _ jf
theorem Ft{w:Option W}{d:D}(h:stOf w=some d):∃z,w=some (.v z)∧z.st=some d:=by
 unfold stOf at h;split at h
 ·exact⟨_,rfl,h⟩
 ·cases h
end
structure Ts(X:Cx)(t:Sx)(nd:Ns):Prop where
 m:∀(fu:Nat)(Γ:Str→List D→Rc)(G:Str→Option D),Cok X G→Gok X Γ→ja4 fu Γ G X t nd
theorem Ts.nil:∀{X:Cx},Ts X .nop (.ss []):=by intro _;refine⟨fun fu Γ G=>?_⟩;intro c g ρ P h;exact DSs.nil (h ρ rfl)
theorem Ts.cons:∀{X:Cx}{a b:Sx}{st:Stmt}{rest:List Stmt},Ts X a (.s st)→Ts X b (.ss rest)→Ts X (.seq a b) (.ss (st::rest)):=by
 intro _ _ _ _ _ q0 q1;refine⟨fun fu Γ G=>?_⟩;have iha:=q0.m fu Γ G;have ihb:=q1.m fu Γ G;intro c g ρ P h;unfold run at h;split at h
 ·rename_i ρ' e;exact DSs.cons (N:=fun ρ1=>j8 ρ1=ρ') (iha c g ρ _ (by rw[e];exact fun ρ2 z=>z)) fun ρ1 z=>ihb c g ρ1 P (by rw[z];exact h)
 ·rename_i o hn;refine DSs.cons (N:=fun _=>False) (iha c g ρ _ ?_) fun _ z=>z.elim;cases e:run fu Γ G _ (j8 ρ) with
  |next ρ'=>exact absurd e (hn ρ')
  |ret r=>rw[e]at h;exact h
  |err x r=>rw[e]at h;exact h
  |brk r=>rw[e]at h;exact h
  |cnt r=>rw[e]at h;exact h
  |no=>rw[e]at h;exact h
theorem Ts.keep:∀{X:Cx}{i:Nat}{b:Sx}{sts:List Stmt},Ts X b (.ss sts)→Ts X (.seq (.keep i) b) (.ss sts):=by
 intro _ i _ _ q0;refine⟨fun fu Γ G=>?_⟩;have ih:=q0.m fu Γ G;intro c g ρ P h;simp only[run]at h;cases e:(j8 ρ)[i]? with
 |none=>rw[e]at h;exact h.elim
 |some v =>
  rw[e]at h;cases v with
  |own l =>obtain⟨a,q⟩:=Q9 e;exact DSs.freeze _ q (ih c g _ P (by rw[jf];exact h))
  |un=>exact h.elim
  |val d=>exact ih c g ρ P h
  |exc x=>exact h.elim
theorem Ts.set:∀{X:Cx}{i:Nat}{x:Str}{e':Ex}{e:Expr}{p pos:Pos}(hi:X.N[i]?=some x) (hx:Loc X.env.scope x) (hs:swapsWith e (some (.Name x p)) pos.line X.env=pure false) (hf:X.fn x=true∨X.env.scope.names.lookup x=some .local),Tr X e' (.e e)→Ts X (.set i e') (.s (.Assign [.Name x p] e pos)):=by
 intro _ _ _ _ _ _ _ hi hx hs hf he;refine⟨fun fu Γ G=>?_⟩;intro c g ρ P h;have S:=sound he c g;unfold run at h;rcases Ud h with h|⟨y,ey,hP⟩
 rotate_left
 ·exact DS.setX (Kv he c g ρ y ey) (hP ρ rfl) c.nd hi hx hs hf
 split at h
 ·rename_i l e;exact DS.setO _ (S ρ _ e) (fun a=>h _ jf) c.nd hi hx hs hf
 ·rename_i r hn e;split at h
  ·rename_i d hd;exact DS.set _ ((S ρ _ e).toE hd) (h _ jf) c.nd hi hx hs hf
  ·exact h.elim
 ·exact h.elim
theorem Ts.setC1:∀{X:Cx}{k i:Nat}{z y:Str}{py p p1 pos:Pos}{elt' it' c':Ex}{elt it:Expr}{ifs:List Expr} {scope:Scope} (hq:X.calm=true) (hk:X.N[k]?=some z) (hx:Loc X.env.scope z) (hf:X.fn z=true∨X.env.scope.names.lookup z=some .local) (hsw:swapsWith (.ListComp elt [⟨.Name y py,it,ifs,0⟩] scope p) (some (.Name z p1)) pos.line X.env=pure true) (hi:X.N[i]?=some y) (hl:Uc scope y=true) (hkind:scope.kind=.function) (hok:Jt scope X.env X.N [i]=true) (hs:∀x,foldedSetIterable it X.env x=pure x),Tr X it' (.i (.Name y py) it)→(∀C s H fp pn,Tr (cCx X scope C s H fp pn) elt' (.e elt))→(∀C s H fp pn,Tr (cCx X scope C s H fp pn) c' (.c ifs))→Ts X (.set k (.comp [i] elt' it' c')) (.s (.Assign [.Name z p1] (.ListComp elt [⟨.Name y py,it,ifs,0⟩] scope p) pos)):=by
 intro _ _ _ _ _ _ _ _ _ _ _ _ _ _ _ _ hq hk hx hf hsw hi hl hkind hok hs hit he hc;refine⟨fun fu Γ G=>?_⟩;intro c g ρ P h;exact j2p hq c hk hx hf hsw (fun ρ ds z=>sound hit c g ρ ds z) hkind hok hs (fun ρ d ρ2 hb hun=>by
  simp only[zq]at hb
  cases hb
  have hu:=hun _ (xu.mpr rfl)
  exact⟨_,jf,Wk.set hu,Vo hu,fun C s H fp pn=>DG.name _ c.nd hi (Mi hl) (Bu hl)⟩)
  (fun C s H fp pn ρ r z=>sound (he C s H fp pn) c.comp g.comp ρ r z) (fun C s H fp pn ρ=>sound (hc C s H fp pn) c.comp g.comp ρ) h
theorem Ts.mov:∀{X:Cx}{i j:Nat}{x y:Str}{p q pos:Pos}(hi:X.N[i]?=some x) (hj:X.N[j]?=some y) (hx:Loc X.env.scope x) (hf:X.fn x=true∨X.env.scope.names.lookup x=some .local) (hv:Vis X.env.scope y) (hd:(y==k89)=false) (hcd:(y==k8a)=false),Ts X (.mov i j) (.s (.Assign [.Name x p] (.Name y q) pos)):=by
 intro _ _ _ _ _ _ _ _ hi hj hx hf hv hd hcd;refine⟨fun fu Γ G=>?_⟩;intro c g ρ P h;unfold run at h;split at h
 ·rename_i l e;obtain⟨a,q⟩:=Q9 e;split at h
  ·exact h.elim
  ·rename_i hij;exact DS.mov q hij (h _ (by rw[jf,jf];rfl)) c.nd hi hj hx hf hv hd hcd
 ·rename_i d e;exact DS.set _ (DE.var _ (U9 e) hj hv hd hcd) (h _ jf) c.nd hi hx rfl hf
 ·exact h.elim
theorem Ts.expr:∀{X:Cx}{e':Ex}{e:Expr}{pos:Pos}(hs:swapsWith e none pos.line X.env=pure false),Tr X e' (.e e)→Ts X (.expr e') (.s (.Expr e pos)):=by
 intro _ _ _ _ hs he;refine⟨fun fu Γ G=>?_⟩;intro c g ρ P h;unfold run at h;rcases Ud h with h|⟨y,ey,hP⟩
 rotate_left
 ·exact DS.exprX (Kv he c g ρ y ey) (hP ρ rfl) hs
 split at h
 ·rename_i r e;exact DS.expr (sound he c g ρ r e).toT (h ρ rfl) hs
 ·exact h.elim
theorem Ts.ret:∀{X:Cx}{e':Ex}{e:Expr}{pos:Pos},Tr X e' (.e e)→Ts X (.ret e') (.s (.Return (some e) pos)):=by
 intro _ _ _ _ he;refine⟨fun fu Γ G=>?_⟩;intro c g ρ P h;unfold run at h;rcases Ud h with h|⟨y,ey,hP⟩
 rotate_left
 ·exact DS.retX (Kv he c g ρ y ey) (hP ρ rfl)
 split at h
 ·rename_i l e;exact DS.retO (sound he c g ρ _ e) (h _ rfl)
 ·rename_i r hn e;exact DS.ret (sound he c g ρ _ e).toT (h _ rfl)
 ·exact h.elim
theorem Ts.retV:∀{X:Cx}{i:Nat}{x:Str}{p pos:Pos}(hi:X.N[i]?=some x) (hv:Vis X.env.scope x) (hd:(x==k89)=false) (hcd:(x==k8a)=false),Ts X (.retV i) (.s (.Return (some (.Name x p)) pos)):=by
 intro _ _ _ _ _ hi hv hd hcd;refine⟨fun fu Γ G=>?_⟩;intro c g ρ P h;unfold run at h;split at h
 ·rename_i l e;obtain⟨a,q⟩:=Q9 e;exact DS.retV _ q (h _ rfl) hi hv hd hcd
 ·rename_i d e;exact DS.ret (DE.toT (DE.var _ (U9 e) hi hv hd hcd)) (h _ rfl)
 ·exact h.elim
theorem Ts.ife:∀{X:Cx}{c':Ex}{a b:Sx}{c:Expr}{sa sb:List Stmt}{pos:Pos},Tr X c' (.b c)→Ts X a (.ss sa)→Ts X b (.ss sb)→Ts X (.ife c' a b) (.s (.If c sa sb pos)):=by
 intro _ _ _ _ _ _ _ _ hc q1 q2;refine⟨fun fu Γ G=>?_⟩;have iha:=q1.m fu Γ G;have ihb:=q2.m fu Γ G;intro c g ρ P h;unfold run at h;split at h
 ·rename_i e;exact DS.if (sound hc c g ρ true e) (fun _=>iha c g ρ P h) fun z=>by cases z
 ·rename_i e;exact DS.if (sound hc c g ρ false e) (fun z=>by cases z) fun _=>ihb c g ρ P h
 ·exact h.elim
theorem Ts.for1:∀{X:Cx}{i:Nat}{y:Str}{it':Ex}{b:Sx}{it:Expr}{body:List Stmt} {p pos:Pos} (hq:X.calm=true) (hi:X.N[i]?=some y) (hx:Loc X.env.scope y) (hf:X.fn y=true∨X.env.scope.names.lookup y=some .local) (hs:∀x,foldedSetIterable it X.env x=pure x),Tr X it' (.i (.Name y p) it)→Ts X b (.ss body)→Ts X (.loop [i] it' b) (.s (.For (.Name y p) it body [] pos)):=by intro _ _ _ _ _ _ _ _ _ hq hi hx hf hs hit q1;refine⟨fun fu Γ G=>?_⟩;have ih:=q1.m fu Γ G;intro c g ρ P h;exact j37 hq c hs (bind1 c.nd hi hx hf) (fun ρ ds z=>sound hit c g ρ ds z) (ih c g) h
theorem Ts.whl:∀{X:Cx}{c':Ex}{b:Sx}{c:Expr}{body:List Stmt}{pos:Pos},Tr X c' (.b c)→Ts X b (.ss body)→Ts X (.whl c' b) (.s (.While c body [] pos)):=by intro _ _ _ _ _ _ hc q1;refine⟨fun fu Γ G=>?_⟩;have ih:=q1.m fu Γ G;intro c g ρ P h;exact j0n c (fun ρ k z=>sound hc c g ρ k z) (ih c g) h
theorem Ts.app:∀{X:Cx}{i:Nat}{x:Str}{e':Ex}{e:Expr}{p p1 p2 pos:Pos}(hN:X.N[i]?=some x) (hv:Vis X.env.scope x) (hd:(x==k89)=false) (hcd:(x==k8a)=false) (hst:starEach [e] X.env=[(false,eval e X.env)]) (hline:(p1.endLine==p2.line)=true) (hbase:attributeBase (.Name x p) "append" X.env (eval (.Name x p) X.env)=eval (.Name x p) X.env) (hfew:((backTo p2 (starEach [e] X.env)).all (fun x=>!x.1)&&(backToKw p2 (keywordEach [] X.env)).all (fun x=>x.1.isSome)&&decide (([e]:List Expr).length+([]:List Keyword).length+(if ([]:List Keyword).isEmpty then 0 else 1)<30))=true),Tr X e' (.e e)→Ts X (.app i e') (.s (.Expr (.Call (.Attribute (.Name x p) "append" p1) [e] [] p2) pos)):=by
 intro _ _ _ _ _ _ _ _ _ hN hv hd hcd hst hline hbase hfew he;refine⟨fun fu Γ G=>?_⟩;intro c g ρ P h;unfold run at h;split at h
 ·rename_i l x el ex;obtain⟨a,q⟩:=Q9 el;split at h
  ·rename_i d hd';split at h
   ·rename_i hz;exact DS.append _ q ((sound he c g ρ x ex).toE hd') hz (h _ jf) hN hv hd hcd hst hline hbase hfew rfl
   ·exact h.elim
  ·exact h.elim
 ·exact h.elim
theorem Ts.ext:∀{X:Cx}{i:Nat}{x:Str}{e':Ex}{e:Expr}{p p1 p2 pos:Pos}(hN:X.N[i]?=some x) (hv:Vis X.env.scope x) (hd:(x==k89)=false) (hcd:(x==k8a)=false) (hst:starEach [e] X.env=[(false,eval e X.env)]) (hline:(p1.endLine==p2.line)=true) (hbase:attributeBase (.Name x p) "extend" X.env (eval (.Name x p) X.env)=eval (.Name x p) X.env) (hfew:((backTo p2 (starEach [e] X.env)).all (fun x=>!x.1)&&(backToKw p2 (keywordEach [] X.env)).all (fun x=>x.1.isSome)&&decide (([e]:List Expr).length+([]:List Keyword).length+(if ([]:List Keyword).isEmpty then 0 else 1)<30))=true),Tr X e' (.e e)→Ts X (.ext i e') (.s (.Expr (.Call (.Attribute (.Name x p) "extend" p1) [e] [] p2) pos)):=by
 intro _ _ _ _ _ _ _ _ _ hN hv hd hcd hst hline hbase hfew he;refine⟨fun fu Γ G=>?_⟩;intro c g ρ P h;unfold run at h;split at h
 ·rename_i l m el ex;obtain⟨a,q⟩:=Q9 el;split at h
  ·rename_i hz;exact DS.extend _ q (sound he c g ρ _ ex) (zc hz) (h _ jf) hN hv hd hcd hst hline hbase hfew rfl
  ·exact h.elim
 ·exact h.elim
theorem Ts.put:∀{X:Cx}{i:Nat}{x:Str}{k' e':Ex}{k e:Expr}{p p1 pos:Pos}(hN:X.N[i]?=some x) (hv:Vis X.env.scope x) (hd:(x==k89)=false) (hcd:(x==k8a)=false) (ha:∀v,assign (.Subscript (.Name x p) k p1) X.env v=(do
    let ov ←holding [v] (eval (.Name x p) X.env)
    let iv ←holding [v,ov] (eval k X.env)
    standAt p1
    holding [v,ov,iv] (setItem ov iv v)
    release [v,ov,iv] [])) (hs:swapsWithSole [.Subscript (.Name x p) k p1] e pos.line X.env=pure false) (hw:swappedStores [.Subscript (.Name x p) k p1] e X.env=pure none),Tr X k' (.e k)→Tr X e' (.e e)→Ts X (.put i k' e') (.s (.Assign [.Subscript (.Name x p) k p1] e pos)):=by
 intro _ _ _ _ _ _ _ _ _ _ hN hv hd hcd ha hs hw hk he;refine⟨fun fu Γ G=>?_⟩;intro c g ρ P h;unfold run at h;split at h
 ·rename_i l y x el ey ex;obtain⟨a,q⟩:=Q9 el;split at h
  ·rename_i j d ej ed;split at h
   ·rename_i n en;exact DS.setItem _ q ((sound he c g ρ x ex).toE ed) (ej▸(sound hk c g ρ y ey).toT) en (h _ jf) hN hv hd hcd ha hs hw rfl
   ·exact h.elim
  ·exact h.elim
 ·exact h.elim
theorem Ts.retL:∀{X:Cx}{x:Str}{is:List Nat}{params:Arguments}{body:Expr}{scope:Scope}{cl:List (Str×Addr)} {p1 pos:Pos} (hx:x∈Z9) (hqu:X.env.qual=x ++ ".<locals>.") (hdef:defaultsOf params X.env=([],[])) (hcl:closureFor scope X.env=pure cl) (ht:Qs X.K x=some (params,body,scope)) (hn:cl.map (·.1)=zp scope) (nd:(zp scope).Nodup) (hc:j3y X cl is),Ts X (.retL x is) (.s (.Return (some (.Lambda params body scope p1)) pos)):=by
 intro _ _ _ _ _ _ _ _ _ hx hqu hdef hcl ht hn nd hc;refine⟨fun fu Γ G=>?_⟩;intro c g ρ P h;unfold run at h;split at h
 ·rename_i ds e;exact DS.retLam ⟨hx,hqu,c.lm _ hx hqu⟩ hdef hcl ht hn nd (Dp hc e) (h (.val _) rfl)
 ·exact h.elim
theorem Ts.retC:∀{X:Cx}{f x:Str}{is:List Nat}{a' b':Ex}{a b:Expr}{params:Arguments}{body:Expr} {scope:Scope} {cl:List (Str×Addr)} {p1 p2 p3 pos:Pos} (hx:x∈Z9) (hqu:X.env.qual=x ++ ".<locals>.") (hdef:defaultsOf params X.env=([],[])) (hcl:closureFor scope X.env=pure cl) (ht:Qs X.K x=some (params,body,scope)) (hn:cl.map (·.1)=zp scope) (nd:(zp scope).Nodup) (hc:j3y X cl is) (hg:Gl X f) (hdb:(f==k89)=false) (hs1:starEach [a,b,.Lambda params body scope p1] X.env=(false,eval a X.env)::starEach [b,.Lambda params body scope p1] X.env) (hs2:starEach [b,.Lambda params body scope p1] X.env=(false,eval b X.env)::starEach [.Lambda params body scope p1] X.env) (hs3:starEach [.Lambda params body scope p1] X.env=(false,eval (.Lambda params body scope p1) X.env)::starEach [] X.env) (hpl:(backTo p3 (starEach [b,.Lambda params body scope p1] X.env)).any (·.1)=false),Tr X a' (.e a)→Tr X b' (.e b)→Ts X (.retC f x a' b' is) (.s (.Return (some (.Call (.Name f p2) [a,b,.Lambda params body scope p1] [] p3)) pos)):=by
 intro _ f x is a' b' a b params body scope cl p1 p2 p3 pos hx hqu hdef hcl ht hn nd hc hg hdb hs1 hs2 hs3 hpl ha hb;refine⟨fun fu Γ G=>?_⟩;intro c g ρ P h;unfold run at h;split at h
 ·rename_i ds u v e1 e2 e3;have q:=g f [u.d,v.d,.fn x ds];cases z:Γ f [u.d,v.d,.fn x ds] with
  |val d =>
   rw[z]at h q;dsimp only at h;split at h
   ·rename_i nf;exact DS.ret (DT.callL q ⟨hx,hqu,c.lm _ hx hqu⟩ hdef hcl ht hn nd (Dp hc e1) (sound ha c g ρ u e2).toT (sound hb c g ρ v e3).toT nf ⟨rfl,rfl⟩ hg hdb hs1 hs2 hs3 hpl) (h (.val _) rfl)
   ·exact h.elim
  |fresh l=>rw[z]at h;exact h.elim
  |err x=>rw[z]at h;exact h.elim
  |lval d=>rw[z]at h;exact h.elim
  |no=>rw[z]at h;exact h.elim
 ·exact h.elim
theorem Ts.nmake:∀{X:Cx}{x t y:Nat}{nx nt ny:Str}{it' e1' e2':Ex}{it e1 e2:Expr}{p1 p2 p3 p4 p5 p6 p10 p11 p12 p14 p16 p17 p18:Pos}(hq:X.calm=true) (hX:X.N[x]?=some nx) (hT:X.N[t]?=some nt) (hY:X.N[y]?=some ny) (lx:Loc X.env.scope nx) (lt:Loc X.env.scope nt) (ly:Loc X.env.scope ny) (fx:X.fn nx=true∨X.env.scope.names.lookup nx=some .local) (ft:X.fn nt=true∨X.env.scope.names.lookup nt=some .local) (fy:X.fn ny=true∨X.env.scope.names.lookup ny=some .local) (dx:(nx==k89)=false) (cx:(nx==k8a)=false) (dt:(nt==k89)=false) (ct:(nt==k8a)=false) (s1:swapsWith (.Dict [] [] p2) (some (.Name nx p1)) p3.line X.env=pure false) (s2:swapsWith e1 (some (.Name ny p5)) p6.line X.env=pure false) (s3:swapsWith e2 (some (.Subscript (.Name nx p10) (.Name nt p11) p12)) p14.line X.env=pure false) (hf:∀x,foldedSetIterable it X.env x=pure x),Tr X it' (.i (.Name nt p4) it)→Tr X e1' (.e e1)→Tr X e2' (.e e2)→Ts X (.nmake x t y it' e1' e2') (.ss (j9u nx nt ny it e1 e2 p1 p2 p3 p4 p5 p6 p10 p11 p12 p14 p16 p17 p18)):=by
 intro _ x t y nx nt ny it' e1' e2' it e1 e2 p1 p2 p3 p4 p5 p6 p10 p11 p12 p14 p16 p17 p18 hq hX hT hY lx lt ly fx ft fy dx cx dt ct s1 s2 s3 hf hit he1 he2;refine⟨fun fu Γ G=>?_⟩;intro c g ρ P h;unfold run at h;split at h
 ·rename_i hcnd;obtain⟨rx,rt,ry,hxt,hxy,hty⟩:=hcnd;have ln:(j8 ρ).length=ρ.length:=by unfold j8;rw[km]
  rw[ln]at rx rt ry;split at h
  ·rename_i ds eds;split at h
   ·rename_i r er;refine DSs.nmake (W:=fun i ρ' ks ns=>Yc (fun ρ=>stOf (ev Γ G e1' ρ)) (fun ρ=>stOf (ev Γ G e2' ρ)) x t y (ds.drop i) (j8 ρ') ks ns=some r) rx rt ry hxt hxy hty (sound hit c g (ρ.set x .un) ds (by rw[jf];exact eds))
     (by rw[List.drop_zero,jf];exact er) (fun i d ρ' ks ns hd w=>?_) (fun ρ' ks ns w=>?_) c.un' hq c.po c.nd hX hT hY lx lt ly fx ft fy dx cx dt ct s1 s2 s3 hf
    ·have hdr:ds.drop i=d::ds.drop (i+1):=by obtain⟨hlt,e⟩:=Xa.mp hd;rw[Pu hlt,e]
     rw[hdr]at w;cases d with
     |tup l =>
      simp only[Yc]at w;split at w
      ·rename_i k d1 ek ed;obtain⟨z,ez,ed2⟩:=Ft ed;have hk:=Jy ek;subst hk;split at w
       ·rename_i n en;obtain⟨z2,ez2,ed3⟩:=Ft en;split at w
        ·rename_i hh;refine⟨k,d1,n,rfl,(sound he1 c g (ρ'.set t (.val (.tup (k.map D.int)))) z (by rw[jf];exact ez)).toE ed2,(sound he2 c g (((ρ'.set t (.val (.tup (k.map D.int)))).set y (.val d1)).set x (.val (.dct ks (ns.map D.int)))) z2 (by rw[jf,jf,jf];exact ez2)).toE ed3,hh.1,hh.2,by rw[jf,jf];exact w⟩
        ·cases w
       ·cases w
      ·cases w
     |_=>simp only[Yc]at w;cases w
    ·rw[List.drop_length,Yc]at w;cases w;exact h (.val (.dct ks (ns.map D.int))) rfl
   ·exact h.elim
  ·exact h.elim
 ·exact h.elim
theorem Ts.wmake:∀{X:Cx}{x t:Nat}{nx nt:Str}{it' e2':Ex}{it e2:Expr}{p1 p2 p3 p4 p10 p11 p12 p14 p16 p17 p18:Pos}(hq:X.calm=true) (hX:X.N[x]?=some nx) (hT:X.N[t]?=some nt) (lx:Loc X.env.scope nx) (lt:Loc X.env.scope nt) (fx:X.fn nx=true∨X.env.scope.names.lookup nx=some .local) (ft:X.fn nt=true∨X.env.scope.names.lookup nt=some .local) (dx:(nx==k89)=false) (cx:(nx==k8a)=false) (dt:(nt==k89)=false) (ct:(nt==k8a)=false) (s1:swapsWith (.Dict [] [] p2) (some (.Name nx p1)) p3.line X.env=pure false) (s3:swapsWith e2 (some (.Subscript (.Name nx p10) (.Name nt p11) p12)) p14.line X.env=pure false) (hf:∀x,foldedSetIterable it X.env x=pure x),Tr X it' (.i (.Name nt p4) it)→Tr X e2' (.e e2)→Ts X (.wmake x t it' e2') (.ss (j9e nx nt it e2 p1 p2 p3 p4 p10 p11 p12 p14 p16 p17 p18)):=by
 intro _ x t nx nt it' e2' it e2 p1 p2 p3 p4 p10 p11 p12 p14 p16 p17 p18 hq hX hT lx lt fx ft dx cx dt ct s1 s3 hf hit he2;refine⟨fun fu Γ G=>?_⟩;intro c g ρ P h;unfold run at h;split at h
 ·rename_i hcnd;obtain⟨rx,rt,hxt⟩:=hcnd;have ln:(j8 ρ).length=ρ.length:=by unfold j8;rw[km]
  rw[ln]at rx rt;split at h
  ·rename_i ds eds;split at h
   ·rename_i r er;refine DSs.wmake (W:=fun i ρ' ks ns=>Y9 (fun ρ=>stOf (ev Γ G e2' ρ)) x t (ds.drop i) (j8 ρ') ks ns=some r) rx rt hxt (sound hit c g (ρ.set x .un) ds (by rw[jf];exact eds))
     (by rw[List.drop_zero,jf];exact er) (fun i d ρ' ks ns hd w=>?_) (fun ρ' ks ns w=>?_) c.un' hq c.po c.nd hX hT lx lt fx ft dx cx dt ct s1 s3 hf
    ·have hdr:ds.drop i=d::ds.drop (i+1):=by obtain⟨hlt,e⟩:=Xa.mp hd;rw[Pu hlt,e]
     rw[hdr]at w;cases d with
     |tup l =>
      simp only[Y9]at w;split at w
      ·rename_i k n ek en;obtain⟨z2,ez2,ed3⟩:=Ft en;have hk:=Jy ek;subst hk;split at w
       ·rename_i hh;refine⟨k,n,rfl,(sound he2 c g ((ρ'.set t (.val (.tup (k.map D.int)))).set x (.val (.dct ks (ns.map D.int)))) z2 (by rw[jf,jf];exact ez2)).toE ed3,hh.1,hh.2,by rw[jf];exact w⟩
       ·cases w
      ·cases w
     |_=>simp only[Y9]at w;cases w
    ·rw[List.drop_length,Y9]at w;cases w;exact h (.val (.dct ks (ns.map D.int))) rfl
   ·exact h.elim
  ·exact h.elim
 ·exact h.elim
theorem Ts.raise:∀{X:Cx}{x:Str}{e':Ex}{e:Expr}{np cpos pos:Pos}(hq:X.calm=true)(hg:Gl X x) (hdb:(x==k89)=false) (hs:starEach [e] X.env=[(false,eval e X.env)]),Tr X e' (.e e)→Ts X (.raise x e') (.s (.Raise (some (.Call (.Name x np) [e] [] cpos)) none pos)):=by
 intro _ _ _ _ _ _ _ hq hg hdb hs he;refine⟨fun fu Γ G=>?_⟩;intro c g ρ P h;unfold run at h;split at h
 ·rename_i r d er eg;obtain⟨hx,o,ho⟩:=c.ec _ _ eg;exact DS.raiseE c.ea hx ho (W.mg_of c.kin c.ns ho) c.kin hq (fun σ H R=>(sound he c g ρ r er).toT σ H _ R fun v H' g' _=>g') (h ρ rfl) hg hdb hs
 ·exact h.elim
theorem Ts.tryK:∀{X:Cx}{b:Sx}{i j:Nat}{n k:Str}{body:List Stmt}{p p1 p2 p3 p4 p5 pos hpos:Pos}(hq:X.calm=true) (hst:X.stack=X.env::X.outer) (hfm:X.env.frame=some X.env.locals) (hgA:Gl X "AskError") (hg:Gl X "_law_kinds") (hN:X.N[j]?=some n) (hlo:X.env.scope.names.lookup n=some .local) (hd:(n==k89)=false) (hcd:(n==k8a)=false) (hi:X.N[i]?=some k) (hxk:Loc X.env.scope k) (hfk:X.fn k=true∨X.env.scope.names.lookup k=some .local) (hfn:X.fn n=true∨X.env.scope.names.lookup n=some .local) (hs:swapsWith (.Call (.Name "_law_kinds" p) [.Name n p1] [] p2) (some (.Name k p3)) p4.line X.env=pure false) (he:starEach [.Name n p1] X.env=(false,eval (.Name n p1) X.env)::starEach [] X.env) (hpl:(backTo p2 (starEach [] X.env)).any (·.1)=false),(∀pn xe,Ts { X with pn:=pn,xe:=xe } b (.ss body))→Ts X (.tryK b i j) (.s (.Try body [.ExceptHandler (some (.Name "AskError" p5)) (some n) [.Assign [.Name k p3] (.Call (.Name "_law_kinds" p) [.Name n p1] [] p2) p4] hpos] [] [] pos)):=by
 intro _ _ _ _ _ _ _ _ _ _ _ _ _ _ _ hq hst hfm hgA hg hN hlo hd hcd hi hxk hfk hfn hs he hpl q0;refine⟨fun fu Γ G=>?_⟩;have ih:=fun pn xe=>(q0 pn xe).m fu Γ G;intro c g ρ P h;refine DS.tryK (fun pn xe hpo=>?_) c.ea hst hfm (c.dp hq) (c.un hq) c.nd hgA hg (by decide) hN hlo hd hcd hi hxk hfk hfn hs he hpl;refine ih pn xe ⟨c.un',c.un,c.dp,c.bt,c.gl,c.nd,hpo,c.ea,c.ec,c.el,c.kin,c.ns,c.kd,c.fn,fun d e=>⟨(c.pl d e).ex⟩,c.lm⟩ ?_ ρ _ ?_
 ·intro f ds;have q:=g f ds;cases e:Γ f ds with
  |val d=>rw[e]at q;exact⟨q.ex⟩
  |fresh l=>rw[e]at q;exact⟨q.ex⟩
  |err x=>rw[e]at q;exact⟨q.ex⟩
  |lval d=>rw[e]at q;exact q
  |no=>trivial
 ·unfold run at h;split at h
  ·rename_i x ρ' e;rw[e];split at h
   ·rename_i l eg;obtain⟨hx,o,ho⟩:=c.ec _ _ eg;intro ρ2 e2;exact⟨hx,⟨o,ho⟩,l,c.kd x l eg,fun e' oe a=>h _ (by rw[jf,jf,jf,e2];rfl)⟩
   ·exact h.elim
  ·rename_i o hn;cases e:run fu Γ G _ (j8 ρ) with
   |err x ρ'=>exact absurd e (hn x ρ')
   |next ρ'=>rw[e]at h;exact h
   |ret r=>rw[e]at h;exact h
   |brk r=>rw[e]at h;exact h
   |cnt r=>rw[e]at h;exact h
   |no=>rw[e]at h;exact h
section
theorem Yt{fu:Nat}{Γ:Str→List D→Rc}{G:Str→Option D}{X:Cx}{t:Sx}{nd:Ns}(h:Ts X t nd):Cok X G→Gok X Γ→ja4 fu Γ G X t nd:=h.m fu Γ G
end
end L2
end
section
namespace L2
open PySem PySem.Spec PyProof.Rows
structure Fi where
 n:Nat
 nn:Nat
 body:Sx
 lam:Bool
noncomputable def j3a:Rc→Rc
 |.val d=>.lval d
 |_=>.no
noncomputable def fin:So→Rc
 |.ret r=>r
 |.next _=>.val .non
 |.err x _=>.err x
 |_=>.no
noncomputable def enter(F:Fi)(ds:List D):En:=ds.map Sv.val++List.replicate (F.nn-F.n) Sv.un
noncomputable def evP(fu:Nat)(G:Str→Option D)(T:Str→Option Fi):Nat→Str→List D→Rc
 |0,_,_=>.no
 |n+1,f,ds=>match T f with
  |none=>.no
  |some F=>if ds.length=F.n then(if F.lam=true then j3a (fin (run fu (evP fu G T n) G F.body (enter F ds)))else fin (run fu (evP fu G T n) G F.body (enter F ds)))else .no
structure Lk(P:Program)(w:World)(K:k85)(mg:k88)(base:Heap)(x:Str)(F:Fi):Prop where
 ex:∃(st:Stmt)(f:Addr)(fd:FuncData)(N ps:List Str),Fun K x x st f fd∧FnScope N ps (j7 st)∧ps.length=F.n∧N.length=F.nn∧Binds K fd ps []∧Dfl K x fd ps∧mg x=some (.ref f) ∧
  ∀(cdv:Value)(A:Around)(outer:List Env)(s:Shared)(H:Hp)(E:XK)(xe:k86),Ts ((zj CX0 P w K mg base N x (j7 st) f cdv A outer s H E).wish xe) F.body (.ss (jl st))
structure LkL(P:Program)(w:World)(K:k85)(mg:k88)(base:Heap)(x:Str)(F:Fi):Prop where
 ex:∃(tx:Tx)(N ps:List Str)(e:Ex),Qs K x=some tx∧LamScope N ps tx.2.2∧N.length=F.n∧F.nn=F.n∧F.body=.ret e ∧
  (∀(cl:List (Str×Addr)) (pm:Value) (c:Addr) (ctv:Value) (us:List Value),us.length=ps.length→bindArgs (W.kla_fn "<lambda>" (jo x) tx.1 tx.2.1 tx.2.2 cl pm (.ref c) ctv) ⟨us,[]⟩=pure (ps.zip us)) ∧
  ∀(a c:Addr)(cl:List (Str×Addr)) (A:Around) (outer:List Env) (s:Shared) (H:Hp),Tr (Uo P w K mg base N (jo x) tx.2.2 a (.ref c) cl A outer s H) e (.e tx.2.1)
def LkF(P:Program)(w:World)(K:k85)(mg:k88)(base:Heap)(f:Str)(F:Fi):Prop:=(F.lam=false→Lk P w K mg base f F∧f.cps.toList.getLast?≠some 62)∧(F.lam=true→∃x,f=jo x∧LkL P w K mg base x F)
def j6m(P:Program)(w:World)(K:k85)(mg:k88)(base:Heap):Prop:=∃(f:Addr)(fd:FuncData)(ps:List Str),FnOk P w K mg base CX0 11 f fd ps (jd0 K j9n)∧mg "_law_plan" = some (.ref f)∧W.keepIn K (.ref f)=true∧Binds K fd ps []∧Dfl K "_law_plan" fd ps
structure Tb(P:Program)(w:World)(K:k85)(mg:k88)(base:Heap)(G:Str→Option D):Prop where
 bt:∀x∈Wc,mg x=none
 gl:∀x d,Vy x=false→G x=some d→∃u v,mg x=some u∧RelV v u∧∀H,Enc K H d v
 ea:Qt K=true
 ec:∀x d,G (bang x)=some d→x∈jr∧∃o,W.nsIn K mainGlobals x=some (some o)
 el:G "?" = some (.bl true)→∀c∈jr,∃v,W.nsIn K mainGlobals c=some (some v)
 kin:K.In base
 ns:base.Ns mainGlobals mg
 kd:∀x l,G (bang x)=some (.lst l)→KindsP P w K mg base "_law_kinds" x l
 fn:∀f d,G (qm f)=some d→∃fa,mg f=some (.ref fa)∧W.keepIn K (.ref fa)=true
 pl:∀d,G (qm "_law_plan")=some d→j6m P w K mg base
 lm:∀x∈Z9,∀f cdv,mg x=some (.ref f)→Mh K f cdv→∃c Pt,cdv=.ref c∧W.codeHdIn K c Pt=true∧W.tabIn K x=some (c,Pt)
structure LkH(P:Program)(w:World)(K:k85)(mg:k88)(base:Heap)(x:Str)(F:Fi):Prop where
 ex:∃(st:Stmt)(f:Addr)(fd:FuncData)(N:List Str)(p:Str),Fun K x x st f fd∧FnScope N [p] (j7 st)∧1≤N.length∧N.length=F.nn∧Binds K fd [p] []∧mg x=some (.ref f) ∧
  ∀(cdv:Value)(A:Around)(outer:List Env)(s:Shared)(H:Hp),Ts { (zj CX0 P w K mg base N x (j7 st) f cdv A outer s H E0).nox with calm:=false } F.body (.ss (jl st))
section
variable{P:Program}{w:World}{K:k85}{mg:k88}{base:Heap}{fu:Nat}{G:Str→Option D}{T:Str→Option Fi}
theorem Wz{N:List Str}{ds:List D}{F:Fi}(h1:ds.length=F.n)(h2:N.length=F.nn):j8 (qp N ds)=enter F ds:=by unfold j8 qp enter;rw[Xj,Xe,List.map_replicate,h1,h2];rfl
theorem Ma(y:Str):(bang y).cps.toList.head?=some 33:=by unfold bang;show(("!":Str).cps++y.cps).toList.head?=some 33;rw[Td];rfl
theorem j2e (y:Str):bang y ≠ "?":=fun h=>by have:=Ma y;rw[h]at this;exact absurd this (by decide)
theorem j1i(y:Str):(qm y).cps.toList.head?=some 63:=by unfold qm;show(("??":Str).cps++y.cps).toList.head?=some 63;rw[Td];rfl
theorem j2v (y:Str):qm y ≠ "?":=fun h=>by
 have e:((qm y).cps.toList.drop 1).head?=some 63:=by unfold qm;show((("??":Str).cps++y.cps).toList.drop 1).head?=some 63;rw[Td];rfl
 rw[h]at e;exact absurd e (by decide)
theorem jdk{x y:Str}(h:qm x=qm y):x=y:=by unfold qm at h;have h:(⟨("??":Str).cps++x.cps⟩:Str)=⟨("??":Str).cps++y.cps⟩:=h;have h:=congrArg Str.cps h;have e:x.cps=y.cps:=Array.append_inj_right h rfl;cases x;cases y;cases e;rfl
theorem j2d(x y:Str):bang x≠qm y:=fun h=>by have:=Ma x;rw[h,j1i]at this;exact absurd this (by decide)
theorem We{x y z:Str}(h:x++z=y++z):x=y:=by have h:(⟨x.cps++z.cps⟩:Str)=⟨y.cps++z.cps⟩:=h;have h:=congrArg Str.cps h;have e:x.cps=y.cps:=Array.append_inj_left' h rfl;cases x;cases y;cases e;rfl
theorem j7v{x y:Str}(h:jo x=jo y):x=y:=We (We h)
theorem Cq(x:Str):(jo x).cps.toList.getLast?=some 62:=by unfold jo;show(((x ++ ".<locals>.").cps)++("<lambda>":Str).cps).toList.getLast?=some 62;rw[Td,List.getLast?_append];rfl
theorem j3b(x:Str):jo x∉Z9:=fun h=>by
 have e:=Cq x
 revert e
 unfold Z9 at h;rcases xm.mp h with h|h
 ·rw[h];decide
 rcases xm.mp h with h|h
 ·rw[h];decide
 rcases xm.mp h with h|h
 ·rw[h];decide
 ·rw[xu.mp h];decide
theorem j0x (z:Str) (hz:z∈Z9) (hq:("_law_kinds":Str) ++ ".<locals>." = z ++ ".<locals>."):False:=by have e:=We hq;subst e;exact absurd hz (by decide)
noncomputable def G0(x:Str):Option D:=if x = "?" then some (.bl true)else none
theorem j0w {F:Fi} (L:LkH P w K mg base "_law_kinds" F) (bt:∀x∈Wc,mg x=none) (ea:Qt K=true) (el:∀c∈jr,∃v,W.nsIn K mainGlobals c=some (some v)) (kin:K.In base) (ns:base.Ns mainGlobals mg) {x:Str} {l:List D} (hnl:zg l=true)
  (hr:run fu (fun _ _=>.no) G0 F.body (.exc x::List.replicate (F.nn-1) .un)=.ret (.fresh l)):KindsP P w K mg base "_law_kinds" x l:=by
 obtain⟨st,f,fd,N,p,hfun,hsc,h1,hN,hb,hm,hts⟩:=L.ex;refine kinds_of hfun hsc hb hm h1 hnl fun cdv A outer s H e o hdp hun=>?_;have nob:∀y,G0 (bang y)=none:=fun y=>if_neg (j2e y);have c:Cok { (zj CX0 P w K mg base N "_law_kinds" (j7 st) f cdv A outer s H E0).nox with calm:=false } G0:=by
  refine⟨?_,(fun z=>by cases z),(fun z=>by cases z),bt,fun y d hb q=>?_,hsc.nd,PassesOwn.never,ea,fun y d q=>?_,fun _=>el,kin,ns,fun y l' q=>?_,fun f d q=>?_,fun d q=>?_,fun z hz hq=>(j0x z hz hq).elim⟩
  ·show A.units+3+100<cLine;omega
  ·unfold G0 at q;split at q
   ·rename_i z;subst z;cases hb
   ·cases q
  ·rw[nob]at q;cases q
  ·rw[nob]at q;cases q
  ·rw[show G0 (qm f)=none from if_neg (j2v f)]at q;cases q
  ·rw[show G0 (qm "_law_plan")=none from if_neg (j2v _)]at q;cases q
 refine Yt (fu:=fu) (Γ:=fun _ _=>.no) (G:=G0) (hts cdv A outer s H) c (fun _ _=>trivial) _ _ ?_;have ab:j8 (.raw e o x::List.replicate (N.length-1) .un)=.exc x::List.replicate (F.nn-1) .un:=by unfold j8;rw[xr,List.map_replicate,hN];rfl
 rw[ab,hr];intro y hy;cases y with
 |val d=>cases hy
 |fresh l=>cases hy;rfl
theorem jda{fu:Nat}{Γ:Str→List D→Rc}{G:Str→Option D}{e:Ex}{ρ:En}{d:D}(h:fin (run fu Γ G (.ret e) ρ)=.val d):∃r,ev Γ G e ρ=some (.v r)∧r.d=d:=by
 rw[run]at h;cases z:ev Γ G e ρ with
 |none=>rw[z]at h;cases y:er Γ G e ρ<;>(rw[y]at h;cases h)
 |some w =>
  cases w with
  |v r =>
   rw[z]at h;cases r with
   |o l=>cases h
   |e d=>cases h;exact⟨_,rfl,rfl⟩
   |w l=>cases h;exact⟨_,rfl,rfl⟩
   |t d=>cases h;exact⟨_,rfl,rfl⟩
  |a l=>rw[z]at h;cases y:er Γ G e ρ<;>(rw[y]at h;cases h)
  |i l=>rw[z]at h;cases y:er Γ G e ρ<;>(rw[y]at h;cases h)
theorem U4 (t:Tb P w K mg base G) {X:Cx} {n:Nat} (h1:X.prog=P) (h2:X.w=w) (h3:X.K=K) (h4:X.mg=mg) (h5:X.base=base) (hn:12≤n) (hr:Room n X.A) (nd:X.N.Nodup) (po:PassesOwn (model X.prog X.w) X.A X.env X.xe) (hlm:∀x∈Z9,X.env.qual=x ++ ".<locals>."→∃c P,X.env.code=.ref c∧W.codeHdIn K c P=true∧W.tabIn K x=some (c,P)):Cok X G:=by subst h1 h2 h3 h4 h5;exact⟨by have:=hr.un;omega,(fun _=>by have:=hr.un;omega),(fun _=>by have:=hr.dp;omega),t.bt,t.gl,nd,po,t.ea,t.ec,t.el,t.kin,t.ns,t.kd,t.fn,fun d e=>let ⟨f,fd,ps,F,h1,h2,h3,h4⟩:=t.pl d e;⟨11,f,fd,ps,F,hr.mono hn,h1,h2,h3,h4⟩,hlm⟩
theorem Mr (t:Tb P w K mg base G) {g:Str} {f:Addr} {cdv:Value} {env:Env} (hm:mg g=some (.ref f)) (hcv:Mh K f cdv) (hq:env.qual=g ++ ".<locals>.") (hc:env.code=cdv):∀x∈Z9,env.qual=x ++ ".<locals>."→∃c P,env.code=.ref c∧W.codeHdIn K c P=true∧W.tabIn K x=some (c,P):=fun x hx e=>by have eg:=We (hq.symm.trans e);subst eg;rw[hc];exact t.lm _ hx f cdv hm hcv
noncomputable def lv:Nat→Nat
 |0=>12
 |n+1=>lv n+2
theorem Uj:∀n,12≤lv n+1
 |0=>by decide
 |n+1=>by have:=Uj n;unfold lv;omega
theorem N7(hT:∀x F,T x=some F→LkF P w K mg base x F)(t:Tb P w K mg base G):∀(n:Nat)(x:Str)(ds:List D),
  ∃(f:Addr)(fd:FuncData)(ps:List Str),match evP fu G T n x ds with
   |.val d=>FnOk P w K mg base CX0 (lv n) f fd ps (spP K fun ds' d'=>ds'=ds∧d'=d)∧mg x=some (.ref f)∧W.keepIn K (.ref f)=true∧Binds K fd ps []∧Dfl K x fd ps
   |.fresh l=>FnOk P w K mg base CX0 (lv n) f fd ps (spF K fun ds' l'=>ds'=ds∧l'=l)∧mg x=some (.ref f)∧W.keepIn K (.ref f)=true∧Binds K fd ps []∧Dfl K x fd ps
   |.err y=>FnOk P w K mg base (CX1 P w) (lv n) f fd ps (spX K mg fun ds' z=>ds'=ds∧z=y)∧mg x=some (.ref f)∧W.keepIn K (.ref f)=true∧Binds K fd ps []
   |.lval d=>∀y,x=jo y→Ka P w K mg base (lv n) y fun ds' d'=>ds'=ds∧d'=d
   |.no=>True
 |0,x,ds=>⟨0,W.fnOf x x { posonlyargs:=[],args:=[],vararg:=none,kwonlyargs:=[],kw_defaults:=[],kwarg:=none,defaults:=[] } [] { kind:=.function,names:=[],isGenerator:=false,isCoroutine:=false } .none .none .none .none none .none .none,[],trivial⟩
 |n+1,x,ds=>by
  have ih:=N7 hT t n;cases hF:T x with
  |none =>
   obtain⟨f,fd,ps,_⟩:=ih x ds;refine⟨f,fd,ps,?_⟩;have e:evP fu G T (n+1) x ds=.no:=by simp only[evP,hF]
   rw[e];trivial
  |some F =>
   have gok:∀{X:Cx},X.prog=P→X.w=w→X.K=K→X.mg=mg→X.base=base→Room (lv n+1) X.A→Gok X (evP fu G T n):=fun{X} h1 h2 h3 h4 h5 hr g ds'=>by
    subst h1 h2 h3 h4 h5;obtain⟨f',fd',ps',q⟩:=ih g ds';cases z:evP fu G T n g ds' with
    |val d=>rw[z]at q;exact⟨lv n,f',fd',ps',q.1,hr,q.2.1,q.2.2.1,q.2.2.2⟩
    |fresh l=>rw[z]at q;exact⟨lv n,f',fd',ps',q.1,hr,q.2.1,q.2.2.1,q.2.2.2⟩
    |err y=>rw[z]at q;exact⟨lv n,f',fd',ps',q.1,hr.mono (T6 _),q.2.1,q.2.2.1,q.2.2.2⟩
    |lval d=>rw[z]at q;exact fun y hy=>⟨lv n,hr.mono (T6 _),q y hy⟩
    |no=>trivial
   cases hlam:F.lam with
   |true =>
    obtain⟨f,fd,ps,_⟩:=ih x ds;refine⟨f,fd,ps,?_⟩;by_cases hl:ds.length=F.n
    ·have e:evP fu G T (n+1) x ds=j3a (fin (run fu (evP fu G T n) G F.body (enter F ds))):=by simp only[evP,hF,if_pos hl,hlam,if_true]
     rw[e];obtain⟨y,ey,L⟩:=(hT x F hF).2 hlam;obtain⟨tx,N,ps,ex,htx,hsc,hN,hnn,hbd,hba,htr⟩:=L.ex;cases ho:fin (run fu (evP fu G T n) G F.body (enter F ds)) with
     |val d =>intro y' hy';have eyy:y=y':=j7v (ey.symm.trans hy');subst eyy;refine jeo (k:=lv n+1) htx hsc (fun ds' d' h=>by rw[h.1,hl,hN]) hba fun a c cl A outer s H hcl hr ds' d' ⟨e1,e2⟩=>?_;subst e1 e2;have ab:j8 (qp N ds')=enter F ds':=Wz hl (by rw[hN,hnn]);rw[hbd,←ab]at ho;obtain⟨r,er,ed⟩:=jda ho;exact ed▸(sound (htr a c cl A outer s H) (U4 t rfl rfl rfl rfl rfl (Uj _) hr hsc.nd PassesOwn.never fun z hz hq=>absurd (We hq▸hz) (j3b y)) (gok rfl rfl rfl rfl rfl hr) (qp N ds') r er).toT
     |fresh l=>trivial
     |err z=>trivial
     |lval z=>trivial
     |no=>trivial
    ·have e:evP fu G T (n+1) x ds=.no:=by simp only[evP,hF,if_neg hl]
     rw[e];trivial
   |false =>
   obtain⟨st,f,fd,N,ps,hfun,hsc,hps,hN,hb,hdf,hm,hts⟩:=((hT x F hF).1 hlam).1.ex;refine⟨f,fd,ps,?_⟩;by_cases hl:ds.length=F.n
   ·have e:evP fu G T (n+1) x ds=fin (run fu (evP fu G T n) G F.body (enter F ds)):=by simp only[evP,hF,if_pos hl,hlam,Xw,if_false]
    have ab:j8 (qp N ds)=enter F ds:=Wz hl hN;cases ho:run fu (evP fu G T n) G F.body (enter F ds) with
    |next ρ' =>rw[e,ho];refine⟨Dm (k:=lv n+1) hfun hsc (fun ds' d' h=>by rw[h.1,hl,hps]) fun cdv A outer s H E hcv hr ds' d' ⟨e1,e2⟩=>?_,hm,hfun.kp,hb,hdf⟩;subst e1 e2;refine Yt (fu:=fu) (hts cdv A outer s H E _) (U4 t rfl rfl rfl rfl rfl (Uj _) hr hsc.nd PassesOwn.never (Mr t hm hcv rfl rfl)) (gok rfl rfl rfl rfl rfl hr) (qp N ds') _ ?_;rw[ab,ho];exact fun _ _=>rfl
    |ret r =>
     rw[e,ho];cases r with
     |no=>trivial
     |lval d=>exact fun y hy=>absurd (hy▸Cq y) ((hT x F hF).1 hlam).2
     |err y =>refine⟨j5m (k:=lv n+1) hfun hsc (fun ds' d' h=>by rw[h.1,hl,hps]) fun cdv A outer s H E hcv hr ds' y' ⟨e1,e2⟩=>?_,hm,hfun.kp,hb⟩;subst e1 e2;refine Yt (X:=zj (CX1 P w) P w K mg base N x (j7 st) f cdv A outer s H E) (fu:=fu) (hts cdv A outer s H E (zj (CX1 P w) P w K mg base N x (j7 st) f cdv A outer s H E).xe) (U4 t rfl rfl rfl rfl rfl (Uj _) hr hsc.nd PassesOwn.leaving (Mr t hm hcv rfl rfl)) (gok rfl rfl rfl rfl rfl hr) (qp N ds') _ ?_;rw[ab,ho];intro z hz;cases z<;>cases hz
     |val d =>
      refine⟨Dm (k:=lv n+1) hfun hsc (fun ds' d' h=>by rw[h.1,hl,hps]) fun cdv A outer s H E hcv hr ds' d' ⟨e1,e2⟩=>?_,hm,hfun.kp,hb,hdf⟩;subst e1 e2;refine Yt (fu:=fu) (hts cdv A outer s H E _) (U4 t rfl rfl rfl rfl rfl (Uj _) hr hsc.nd PassesOwn.never (Mr t hm hcv rfl rfl)) (gok rfl rfl rfl rfl rfl hr) (qp N ds') _ ?_;rw[ab,ho];intro y hy;cases y with
      |val d=>cases hy;rfl
      |fresh l=>cases hy
     |fresh l =>
      refine⟨j88 (k:=lv n+1) hfun hsc (fun ds' d' h=>by rw[h.1,hl,hps]) fun cdv A outer s H E hcv hr ds' d' ⟨e1,e2⟩=>?_,hm,hfun.kp,hb,hdf⟩;subst e1 e2;refine Yt (fu:=fu) (hts cdv A outer s H E _) (U4 t rfl rfl rfl rfl rfl (Uj _) hr hsc.nd PassesOwn.never (Mr t hm hcv rfl rfl)) (gok rfl rfl rfl rfl rfl hr) (qp N ds') _ ?_;rw[ab,ho];intro y hy;cases y with
      |val d=>cases hy
      |fresh l=>cases hy;rfl
    |err y ρ' =>rw[e,ho];refine⟨j5m (k:=lv n+1) hfun hsc (fun ds' d' h=>by rw[h.1,hl,hps]) fun cdv A outer s H E hcv hr ds' y' ⟨e1,e2⟩=>?_,hm,hfun.kp,hb⟩;subst e1 e2;refine Yt (X:=zj (CX1 P w) P w K mg base N x (j7 st) f cdv A outer s H E) (fu:=fu) (hts cdv A outer s H E (zj (CX1 P w) P w K mg base N x (j7 st) f cdv A outer s H E).xe) (U4 t rfl rfl rfl rfl rfl (Uj _) hr hsc.nd PassesOwn.leaving (Mr t hm hcv rfl rfl)) (gok rfl rfl rfl rfl rfl hr) (qp N ds') _ ?_;rw[ab,ho];exact fun _ _=>rfl
    |brk _=>rw[e,ho];trivial
    |cnt _=>rw[e,ho];trivial
    |no=>rw[e,ho];trivial
   ·have e:evP fu G T (n+1) x ds=.no:=by simp only[evP,hF,if_neg hl]
    rw[e];trivial
end
noncomputable def Gof(gs:List (Str×D))(q:Bool)(xs:List (Str×List D))(fs:List Str)(x:Str):Option D :=
 if Vy x=true then(if x = "?" then(if q=true then some (.bl true)else none) else((xs.find? fun p=>bang p.1==x).map fun p=>.lst p.2).or (if (fs.any fun f=>qm f==x)=true then some .non else none))else gs.lookup x
theorem j94{x y:Str}(h:bang x=bang y):x=y:=by unfold bang at h;have h:(⟨("!":Str).cps++x.cps⟩:Str)=⟨("!":Str).cps++y.cps⟩:=h;have h:=congrArg Str.cps h;have e:x.cps=y.cps:=Array.append_inj_right h rfl;cases x;cases y;cases e;rfl
theorem j18(x:Str):Vy (bang x)=true:=by unfold Vy;rw[Ma];rfl
theorem j6j(x:Str):Vy (qm x)=true:=by unfold Vy;rw[j1i];rfl
theorem Ew{gs:List (Str×D)}{q:Bool}{xs:List (Str×List D)}{fs:List Str}{x:Str}{d:D}(h:Gof gs q xs fs (bang x)=some d):∃p∈xs,p.1=x∧d=.lst p.2:=by
 unfold Gof at h;rw[if_pos (j18 x),if_neg (j2e x)]at h;have hn:(fs.any fun f=>qm f==bang x)=false:=by rw[List.any_eq_false];intro f _ e;exact j2d x f (beq_iff_eq.mp e).symm
 rw[hn,if_neg (by decide),Option.or_none]at h;obtain⟨p,hp,rfl⟩:=P0.mp h;have z:=List.find?_some (p:=fun p:Str×List D=>bang p.1==bang x) hp;exact⟨p,List.mem_of_find?_eq_some hp,j94 (beq_iff_eq.mp z),rfl⟩
theorem j5j{gs:List (Str×D)}{q:Bool}{xs:List (Str×List D)}{fs:List Str}{x:Str}{d:D}(h:Gof gs q xs fs (qm x)=some d):x∈fs:=by
 unfold Gof at h;rw[if_pos (j6j x),if_neg (j2v x)]at h;have hn:(xs.find? fun p=>bang p.1==qm x)=none:=by rw[List.find?_eq_none];intro p _ e;exact j2d p.1 x (beq_iff_eq.mp e)
 rw[hn,Option.map_none,Option.none_or]at h;split at h
 ·rename_i z;obtain⟨f,hf,e⟩:=List.any_eq_true.mp z;exact jdk (beq_iff_eq.mp e)▸hf
 ·cases h
theorem jgk{P:Program}{w:World}{K:k85}{mg:k88}{base:Heap}{gs:List (Str×D)}{q:Bool}{xs:List (Str×List D)}{fs:List Str}(bt:∀x∈Wc,mg x=none)
  (gl:∀x d,gs.lookup x=some d→∃u v,mg x=some u∧RelV v u∧∀H,Enc K H d v) (ea:Qt K=true) (hx:∀p∈xs,p.1∈jr∧∃o,W.nsIn K mainGlobals p.1=some (some o))
  (el:q=true→∀c∈jr,∃v,W.nsIn K mainGlobals c=some (some v)) (kin:K.In base) (ns:base.Ns mainGlobals mg) (fn:∀f∈fs,∃fa,mg f=some (.ref fa)∧W.keepIn K (.ref fa)=true) (kd:∀p∈xs,KindsP P w K mg base "_law_kinds" p.1 p.2) (lm:∀x∈Z9,∀f cdv,mg x=some (.ref f)→Mh K f cdv→∃c Pt,cdv=.ref c∧W.codeHdIn K c Pt=true∧W.tabIn K x=some (c,Pt)) (pl:("_law_plan":Str)∈fs→j6m P w K mg base:=by exact fun h=>absurd h (by decide)):Tb P w K mg base (Gof gs q xs fs):=by
 refine⟨bt,fun x d hb h=>?_,ea,fun x d h=>?_,fun h=>el ?_,kin,ns,fun x l h=>?_,fun f d h=>fn f (j5j h),fun d h=>pl (j5j h),lm⟩
 ·unfold Gof at h;rw[if_neg (by rw[hb];decide)]at h;exact gl x d h
 ·obtain⟨p,hp,rfl,_⟩:=Ew h;exact hx p hp
 ·unfold Gof at h;rw[if_pos (by decide),if_pos rfl]at h;split at h
  ·rename_i z;exact z
  ·cases h
 ·obtain⟨p,hp,rfl,e⟩:=Ew h;cases e;exact kd p hp
def K5(K:k85):Sp:=fun vs H Q _=>∃(a:Addr)(ns:List Int),vs=[.ref a]∧TabOk K H∧SqL K H a (ns.map V.int)∧ns.length≤63∧∀H':Hp,j0 H H'→Q (.bl true) H'
theorem j10{K:k85}{H:Hp}{a:Addr}{ns:List Int}(h:SqL K H a (ns.map V.int)):j4 K H [.lst (ns.map D.int)] [.ref a] :=
 ⟨_,[],rfl,⟨a,_,rfl,h,j4.ints ns⟩,rfl⟩
theorem jen{P:Program}{w:World}{K:k85}{mg:k88}{base:Heap}{fu:Nat}{G:Str→Option D}{T:Str→Option Fi}{n:Nat}{x p:Str}{fa:Addr}{st:Stmt}{F:Fi}
  (hT:∀x F,T x=some F→LkF P w K mg base x F) (t:Tb P w K mg base G)
  (hx:T x=some F) (hlam:F.lam=false) (hm:mg x=some (.ref fa)) {fd:FuncData} (hfun:Fun K x x st fa fd) (N:List Str) (hsc:FnScope N [p] (j7 st)) (h1:F.n=1) (hN:N.length=F.nn)
  (hts:∀(cdv:Value)(A:Around)(outer:List Env)(s:Shared)(H:Hp)(E:XK)(xe:k86),Ts ((zj CX0 P w K mg base N x (j7 st) fa cdv A outer s H E).wish xe) F.body (.ss (jl st)))
  (hlaw:∀ns:List Int,ns.length≤63→evP fu G T (n+1) x [.lst (ns.map D.int)]=.val (.bl true)):FnOk P w K mg base CX0 (lv (n+1)) fa fd [p] (K5 K):=by
 have S:FnOk P w K mg base CX0 (lv (n+1)) fa fd [p] (spP K fun ds d=>∃ns:List Int,ns.length≤63∧ds=[.lst (ns.map D.int)]∧d=.bl true):=by
  refine Dm (k:=lv n+1) hfun hsc (fun ds d ⟨ns,_,h,_⟩=>by rw[h];rfl) fun cdv A outer s H E hcv hr ds d ⟨ns,hns,e1,e2⟩=>?_;subst e1 e2;have e:=hlaw ns hns;simp only[evP,hx,h1,hlam,Xw,if_false,X4,Pn,if_true]at e;have ab:j8 (qp N [D.lst (ns.map D.int)])=enter F [D.lst (ns.map D.int)]:=Wz (by rw[h1];rfl) hN;have g:Gok (zj CX0 P w K mg base N x (j7 st) fa cdv A outer s H E).nox (evP fu G T n):=fun g ds'=>by
   obtain⟨f',fd',ps',q⟩:=N7 (fu:=fu) hT t n g ds';cases z:evP fu G T n g ds' with
   |val d=>rw[z]at q;exact⟨lv n,f',fd',ps',q.1,hr,q.2.1,q.2.2.1,q.2.2.2⟩
   |fresh l=>rw[z]at q;exact⟨lv n,f',fd',ps',q.1,hr,q.2.1,q.2.2.1,q.2.2.2⟩
   |err y=>rw[z]at q;exact⟨lv n,f',fd',ps',q.1,hr.mono (T6 _),q.2.1,q.2.2.1,q.2.2.2⟩
   |lval d=>rw[z]at q;exact fun y hy=>⟨lv n,hr.mono (T6 _),q y hy⟩
   |no=>trivial
  refine Yt (fu:=fu) (hts cdv A outer s H E _) (U4 t rfl rfl rfl rfl rfl (Uj _) hr hsc.nd PassesOwn.never (Mr t hm hcv rfl rfl)) g (qp N _) _ ?_;rw[ab];cases ho:run fu (evP fu G T n) G F.body (enter F [D.lst (ns.map D.int)]) with
  |ret r =>
   rw[ho]at e;have e:r=.val (.bl true):=e;subst e;intro y hy;cases y with
   |val d=>cases hy;rfl
   |fresh l=>cases hy
  |next ρ'=>rw[ho]at e;cases e
  |brk _=>rw[ho]at e;cases e
  |cnt _=>rw[ho]at e;cases e
  |err _ _=>rw[ho]at e;cases e
  |no=>rw[ho]at e;cases e
 refine S.imp fun vs H Q E ⟨a,ns,hv,tb,hS,hl,k⟩=>?_;subst hv;exact⟨[],_,_,tb,(fun a h=>nomatch h),by rw[vy];exact j10 hS,⟨ns,hl,rfl,rfl⟩,fun v H' g e=>by cases(show v=.bl true from e);exact k H' g⟩
noncomputable def K4(K:k85):List (Addr×Str):=Z9.filterMap fun x=>(W.tabIn K x).map fun q=>(q.2,jo x)
noncomputable def tOk(K:k85)(ts:List Addr):Bool:=(Z9.all fun x=>match W.nsIn K mainGlobals x with
  |some none=>true
  |_=>match W.tabIn K x with
   |some (c,P)=>W.codeHdIn K c P&&ts.contains P
   |none=>false)&&W.noTabs K&&decide ((K4 K).map (·.1)).Nodup
theorem jab{K:k85}{ts:List Addr}{h:Heap}(hk:tOk K ts=true)(X:K.In h)(ht:∀P∈ts,h.get? P=some (W.tabObj #[])):j9c (K4 K) h:=by
 unfold tOk at hk;rw[Xb,Xb]at hk;refine⟨of_decide_eq_true hk.2,fun t hm=>?_⟩;obtain⟨x,hx,e⟩:=Px.mp hm;obtain⟨⟨c,P⟩,e1,e2⟩:=P0.mp e;subst e2;have z:=Xo.mp hk.1.1 x hx;split at z
 ·rename_i y;exfalso;unfold W.tabIn at e1;rw[y]at e1;cases e1
 ·rw[e1]at z;have z:(W.codeHdIn K c P&&ts.contains P)=true:=z;rw[Xb]at z;exact⟨⟨c,W.codeHd_of_K X z.1⟩,ht P (by simpa using z.2)⟩
theorem jhd{K:k85}{ts:List Addr}{h:Heap}{mg:k88}(hk:tOk K ts=true)(X:K.In h)(Gn:h.Ns mainGlobals mg):∀x∈Z9,∀f cdv,mg x=some (.ref f)→Mh K f cdv→∃c Pt,cdv=.ref c∧W.codeHdIn K c Pt=true∧W.tabIn K x=some (c,Pt):=fun x hx f cdv hm hcv=>by
 unfold tOk at hk;rw[Xb,Xb]at hk;have z:=Xo.mp hk.1.1 x hx;split at z
 ·rename_i y;rw[W.mg_none_of X Gn y]at hm;cases hm
 ·split at z
  ·rename_i c P e;rw[Xb]at z;refine⟨c,P,?_,z.1,e⟩;obtain⟨oc,od,fd,sl,e3,e4⟩:=hcv;unfold W.tabIn at e;split at e
   ·rename_i f' hf;have e5:=W.mg_of X Gn hf;rw[hm]at e5;cases e5;rw[e3]at e;dsimp only at e;split at e
    ·rename_i c' hc;split at e
     ·split at e
      ·cases e;rw[←e4];exact hc
      ·cases e
     ·cases e
    ·cases e
   ·cases e
  ·cases z
theorem jcv{K:k85}{H:Hp}(hO:Only (K4 K) H):TabOk K H:=fun x hx c P e=>hO.2 (P,jo x) (Px.mpr ⟨x,hx,by rw[e];rfl⟩)
theorem j55{K:k85}{ts:List Addr}(hk:tOk K ts=true):W.noTabs K=true:=by unfold tOk at hk;rw[Xb,Xb]at hk;exact hk.1.2
theorem walkL{l:PySem.W.OpenLaw}{q:Program}{loose:List Str}{XP:(Str→Option Value)→Heap→Prop}{YP:World→Heap→Prop}{d:DefRec}{K:Params→k85}{k:Nat}{x:Str}{ts:List Addr}(hk:k≤100)(hn:l.most=some 63)(hdf:d.params.defaults=[])
  (hY:∀(w:World)(h:Heap),YP w h→(K w.params).In h∧∀P∈ts,h.get? P=some (W.tabObj #[])) (hK:∀w:World,tOk (K w.params) ts=true)
  (F:∀(w:World)(mg:k88)(fa:Addr)(h:Heap),(K w.params).In h→h.Ns mainGlobals mg→mg d.name=some (.ref fa)→tOk (K w.params) ts=true →
   ∃fd:FuncData,(∀(s:Shared)(u:Value),BindsTo s fd ⟨[u],[]⟩ [(x,u)])∧∀base:Heap,(K w.params).In base→base.Ns mainGlobals mg→FnOk l.prog w (K w.params) mg base CX0 k fa fd [x] (K5 (K w.params))) :
  PySem.W.WalkO q loose XP YP l.row.toRowW d [] (fun f vs=>PySem.call f vs) :=
 L2.walk_of (n:=63) (k:=k) (x:=x) (CX:=fun _=>CX0) (sp:=fun w=>K5 (K w.params)) (ts:=fun w=>K4 (K w.params)) hn (by decide) hdf
  (Room.mono (k:=100) ⟨rfl,by decide,by decide⟩ hk) (fun w h Y=>⟨(hY w h Y).1,jab (hK w) (hY w h Y).1 (hY w h Y).2⟩) (fun w=>j55 (hK w)) (fun w mg fa h X G m=>F w mg fa h X G m (hK w)) (fun w H a ns hl hO hS=>⟨a,ns,rfl,jcv hO,hS,hl,fun H' g=>⟨rfl,g⟩⟩) fun _ _ _ _ _ z=>z
def Lf(K:k85)(x:Str)(st:Stmt):Prop:=∃(f:Addr)(oc:Value)(od:Option Addr)(kV dc pm:Value)(an:Option Addr)(cd ct:Value)(sl:Array (Option Value)),W.nsIn K mainGlobals x=some (some (.ref f)) ∧
 K.lookup f=some ⟨oc,od,.func (W.fnOf x x (zm st) (jl st) (j7 st) .none kV dc pm an cd ct),sl⟩∧W.codeIn K cd x=true∧W.keepIn K (.ref f)=true
def Lfd(K:k85)(x:Str)(st:Stmt):Prop:=∃(f:Addr)(oc:Value)(od:Option Addr)(kV dc pm:Value)(an:Option Addr)(cd ct:Value)(sl:Array (Option Value)) (dt:Addr) (n:Nat) (ts:Array (Option Value)),W.nsIn K mainGlobals x=some (some (.ref f)) ∧
 K.lookup f=some ⟨oc,od,.func (W.fnOf x x (zm st) (jl st) (j7 st) (.ref dt) kV dc pm an cd ct),sl⟩∧W.codeIn K cd x=true∧W.keepIn K (.ref f)=true∧K.lookup dt=some ⟨.type "tuple",none,.seq #[.none] n,ts⟩
def TrT(P:Program)(w:World)(K:k85)(mg:k88)(base:Heap)(x:Str)(N:List Str)(st:Stmt)(b:Sx):Prop :=
 ∀(f:Addr)(cdv:Value)(A:Around)(outer:List Env)(s:Shared)(H:Hp)(E:XK) (xe:k86),Ts ((zj CX0 P w K mg base N x (j7 st) f cdv A outer s H E).wish xe) b (.ss (jl st))
def TrH(P:Program)(w:World)(K:k85)(mg:k88)(base:Heap)(x:Str)(N:List Str)(st:Stmt)(b:Sx):Prop :=
 ∀(f:Addr)(cdv:Value)(A:Around)(outer:List Env)(s:Shared)(H:Hp),Ts { (zj CX0 P w K mg base N x (j7 st) f cdv A outer s H E0).nox with calm:=false } b (.ss (jl st))
noncomputable def lamT(st:Stmt):Tx:=(Ba (jl st)).getD ({ posonlyargs:=[],args:=[],vararg:=none,kwonlyargs:=[],kw_defaults:=[],kwarg:=none,defaults:=[] },.Name "" ⟨0,0,0,0⟩,{ kind:=.function,names:=[],isGenerator:=false,isCoroutine:=false })
def TrL(P:Program)(w:World)(K:k85)(mg:k88)(base:Heap)(x:Str)(N:List Str)(t:Tx)(e:Ex):Prop :=
 ∀(a c:Addr)(cl:List (Str×Addr)) (A:Around) (outer:List Env) (s:Shared) (H:Hp),Tr (Uo P w K mg base N (jo x) t.2.2 a (.ref c) cl A outer s H) e (.e t.2.1)
theorem jbn{sc:Scope}(x:Str)(h:sc.names.lookup x=some .free):x∈zp sc:=by unfold zp;rw[List.mem_reverse];exact Xf.mpr ⟨(x,.free),Xx.mpr ⟨lookup_mem h,rfl⟩,rfl⟩
noncomputable def bOk(K:k85):Bool:=Wc.all fun x=>match W.nsIn K mainGlobals x with
 |some none=>true
 |_=>false
noncomputable def xOk(K:k85):Bool:=jr.all fun x=>match W.nsIn K mainGlobals x with
 |some (some _)=>true
 |_=>false
section
variable{P:Program}{w:World}{K:k85}{mg:k88}{base h:Heap}{x:Str}{st:Stmt}{N ps:List Str}{F:Fi}
theorem ji1(X:K.In h)(Gn:h.Ns mainGlobals mg)(hb:bOk K=true):∀x∈Wc,mg x=none:=fun x hx=>by
 have z:=Xo.mp hb x hx;split at z
 ·rename_i e;exact W.mg_none_of X Gn e
 ·cases z
theorem jhz(hx:xOk K=true):∀c∈jr,∃v,W.nsIn K mainGlobals c=some (some v):=fun c hc=>by
 have z:=Xo.mp hx c hc;split at z
 ·rename_i v e;exact⟨v,e⟩
 ·cases z
theorem j2u(L:Lf K x st)(X:K.In h)(Gn:h.Ns mainGlobals mg):∃fa,mg x=some (.ref fa)∧W.keepIn K (.ref fa)=true:=by obtain⟨f,oc,od,kV,dc,pm,an,cd,ct,sl,a,l,c,k⟩:=L;exact⟨f,W.mg_of X Gn a,k⟩
theorem jt(L:Lf K x st)(X:K.In h)(Gn:h.Ns mainGlobals mg)(t:TrT P w K mg base x N st F.body)(ps:List Str)(sc:FnScope N ps (j7 st))(h1:ps.length=F.n)(h2:N.length=F.nn)
  (hb:∀(kV doc pm:Value)(an:Option Addr)(cdv ct:Value)(us:List Value),us.length=ps.length→bindArgs (W.fnOf x x (zm st) (jl st) (j7 st) .none kV doc pm an cdv ct) ⟨us,[]⟩=pure (ps.zip us)) (hd:x∉jfs):Lk P w K mg base x F:=by
 obtain⟨f,oc,od,kV,dc,pm,an,cd,ct,sl,a,l,c,k⟩:=L;exact⟨st,f,_,N,ps,W9 l c k,sc,h1,h2,(W9 l c k).binds hb,fun z=>absurd z hd,W.mg_of X Gn a,t f⟩
theorem Ej(L:Lfd K x st)(X:K.In h)(Gn:h.Ns mainGlobals mg)(t:TrT P w K mg base x N st F.body)(ps:List Str)(sc:FnScope N ps (j7 st))(h1:ps.length=F.n)(h2:N.length=F.nn)(h3:0<ps.length)
  (hb:∀(dt:Addr)(n:Nat)(ts:Array (Option Value)) (kV doc pm:Value) (an:Option Addr) (cdv ct:Value) (s:Shared),K.In s.heap→K.lookup dt=some ⟨.type "tuple",none,.seq #[.none] n,ts⟩ →
   (∀us:List Value,us.length=ps.length→BindsTo s (W.fnOf x x (zm st) (jl st) (j7 st) (.ref dt) kV doc pm an cdv ct) ⟨us,[]⟩ (ps.zip us)) ∧
   (∀us:List Value,us.length+1=ps.length→BindsTo s (W.fnOf x x (zm st) (jl st) (j7 st) (.ref dt) kV doc pm an cdv ct) ⟨us,[]⟩ (ps.zip (us++[.none]))) ∧
   ∀(us:List Value)(v:Value),us.length+1=ps.length→BindsTo s (W.fnOf x x (zm st) (jl st) (j7 st) (.ref dt) kV doc pm an cdv ct) ⟨us,[("prices",v)]⟩ (ps.zip (us++[v]))):Lk P w K mg base x F:=by
 obtain⟨f,oc,od,kV,dc,pm,an,cd,ct,sl,dt,n,ts,a,l,c,k,td⟩:=L;refine⟨st,f,_,N,ps,W9 l c k,sc,h1,h2,fun s us hK hl=>?_,fun _=>⟨fun s us hK hl=>?_,jhi h3 fun s us v hK hl=>(hb dt n ts kV dc pm an cd ct s hK td).2.2 us v hl⟩,W.mg_of X Gn a,t f⟩
 ·rw[Xr]at hl ⊢;exact(hb dt n ts kV dc pm an cd ct s hK td).1 us hl
 ·exact(hb dt n ts kV dc pm an cd ct s hK td).2.1 us (by rw[X6]at hl;exact hl)
theorem jem{p:Str}(L:Lf K x st)(X:K.In h)(Gn:h.Ns mainGlobals mg)(t:TrH P w K mg base x N st F.body)(sc:FnScope N [p] (j7 st))(h1:1≤N.length)(h2:N.length=F.nn)
  (hb:∀(kV doc pm:Value)(an:Option Addr)(cdv ct:Value)(us:List Value),us.length=[p].length→bindArgs (W.fnOf x x (zm st) (jl st) (j7 st) .none kV doc pm an cdv ct) ⟨us,[]⟩=pure ([p].zip us)):LkH P w K mg base x F:=by
 obtain⟨f,oc,od,kV,dc,pm,an,cd,ct,sl,a,l,c,k⟩:=L;exact⟨st,f,_,N,p,W9 l c k,sc,h1,h2,(W9 l c k).binds hb,W.mg_of X Gn a,t f⟩
theorem Wm(L:Lf K x st):Qs K x=Ba (jl st):=by obtain⟨f,oc,od,kV,dc,pm,an,cd,ct,sl,a,l,c,k⟩:=L;unfold Qs;rw[a];dsimp only;rw[l]
theorem lkF(L:Lk P w K mg base x F)(h:F.lam=false)(hn:x.cps.toList.getLast?≠some 62):LkF P w K mg base x F:=⟨fun _=>⟨L,hn⟩,fun z=>by rw[h]at z;cases z⟩
theorem j5a{e:Ex}{q:Str}(hq:q=jo x)(h:Qs K x=Ba (jl st))(ht:Ba (jl st)=some (lamT st))(tr:TrL P w K mg base x N (lamT st) e)(ps:List Str)(sc:LamScope N ps (lamT st).2.2)(h1:N.length=F.n)(h2:F.nn=F.n)(hb:F.body=.ret e)(hl:F.lam=true)
  (ha:∀(cl:List (Str×Addr)) (pm:Value) (c:Addr) (ctv:Value) (us:List Value),us.length=ps.length→bindArgs (W.kla_fn "<lambda>" (jo x) (lamT st).1 (lamT st).2.1 (lamT st).2.2 cl pm (.ref c) ctv) ⟨us,[]⟩=pure (ps.zip us)):LkF P w K mg base q F :=
 ⟨fun z=>by(rw[hl]at z;cases z),fun _=>⟨x,hq,⟨lamT st,N,ps,e,h.trans ht,sc,h1,h2,hb,ha,tr⟩⟩⟩
theorem us1{us:List Value}(h:us.length=1):∃a,us=[a]:=by match us,h with|[a],_=>exact⟨a,rfl⟩
theorem us2{us:List Value}(h:us.length=2):∃a b,us=[a,b]:=by match us,h with|[a,b],_=>exact⟨a,b,rfl⟩
theorem us3{us:List Value}(h:us.length=3):∃a b c,us=[a,b,c]:=by match us,h with|[a,b,c],_=>exact⟨a,b,c,rfl⟩
theorem us4{us:List Value}(h:us.length=4):∃a b c d,us=[a,b,c,d]:=by match us,h with|[a,b,c,d],_=>exact⟨a,b,c,d,rfl⟩
end
theorem lf_mk{K:k85}{x:Str}{st:Stmt}{f:Addr}{oc:Value}{od:Option Addr}{kV dc pm:Value}{an:Option Addr}{cd ct:Value}{sl:Array (Option Value)}(a:W.nsIn K mainGlobals x=some (some (.ref f)))
  (l:K.lookup f=some ⟨oc,od,.func (W.fnOf x x (zm st) (jl st) (j7 st) .none kV dc pm an cd ct),sl⟩) (c:W.codeIn K cd x=true) (k:W.keepIn K (.ref f)=true):Lf K x st:=⟨f,oc,od,kV,dc,pm,an,cd,ct,sl,a,l,c,k⟩
theorem lfd_mk{K:k85}{x:Str}{st:Stmt}{f:Addr}{oc:Value}{od:Option Addr}{kV dc pm:Value}{an:Option Addr}{cd ct:Value}{sl:Array (Option Value)}{dt:Addr}{n:Nat}{ts:Array (Option Value)}(a:W.nsIn K mainGlobals x=some (some (.ref f)))
  (l:K.lookup f=some ⟨oc,od,.func (W.fnOf x x (zm st) (jl st) (j7 st) (.ref dt) kV dc pm an cd ct),sl⟩) (c:W.codeIn K cd x=true) (k:W.keepIn K (.ref f)=true) (t:K.lookup dt=some ⟨.type "tuple",none,.seq #[.none] n,ts⟩):Lfd K x st:=⟨f,oc,od,kV,dc,pm,an,cd,ct,sl,dt,n,ts,a,l,c,k,t⟩
end L2
end
section
namespace L2
open PySem (Str sizeLine argBest)
theorem vp{n:Nat}(h:n≤1000000):n≤sizeLine:=Xm h (by decide)
theorem lt_size{n:Nat}(h:n≤1000000):n<sizeLine:=Nat.lt_of_le_of_lt h (by decide)
noncomputable def Rq(o:So)(f:En→So):So:=match o with
 |.next ρ=>f ρ
 |o=>o
noncomputable def ifS(c:Option Bool)(f g:En→So)(ρ:En):So:=match c with
 |some true=>f ρ
 |some false=>g ρ
 |none=>.no
noncomputable def Ie(i:Nat)(w:Option W)(ρ:En):So:=match w with
 |some (.v (.o l))=>.next (ρ.set i (.own l))
 |some (.v x)=>match x.st with
  |some d=>.next (ρ.set i (.val d))
  |none=>.no
 |_=>.no
noncomputable def retS(w:Option W):So:=match w with
 |some (.v (.o l))=>.ret (.fresh l)
 |some (.v x)=>.ret (.val x.d)
 |_=>.no
noncomputable def j2s(s:Option Sv):So:=match s with
 |some (.own l)=>.ret (.fresh l)
 |some (.val d)=>.ret (.val d)
 |_=>.no
noncomputable def j7n(i j:Nat)(s:Option Sv)(ρ:En):So:=match s with
 |some (.own l)=>if i=j then .no else .next ((ρ.set j .un).set i (.own l))
 |some (.val d)=>.next (ρ.set i (.val d))
 |_=>.no
noncomputable def j8c(w:Option W)(ρ:En):So:=match w with
 |some (.v _)=>.next ρ
 |_=>.no
noncomputable def j3t(is:List Nat)(f:En→So)(d:D)(ρ:En):So:=match zq is d ρ with
 |some ρ2=>f ρ2
 |none=>.no
noncomputable def j9v(is:List Nat)(w:Option W)(f:En→So)(ρ:En):So:=match w with
 |some (.i ds)=>Qg (j3t is f) ds ρ
 |_=>.no
noncomputable def j0i(i:Nat)(s:Option Sv)(w:Option W)(ρ:En):So:=match s,w with
 |some (.own l),some (.v x)=>match x.st with
  |some d=>if l.length<sizeLine then .next (ρ.set i (.own (l++[d])))else .no
  |none=>.no
 |_,_=>.no
noncomputable def j8b(i:Nat)(s:Option Sv)(w:Option W)(ρ:En):So:=match s,w with
 |some (.own l),some (.v (.o m))=>if ji (l.length+m.length)=true then .next (ρ.set i (.own (l++m)))else .no
 |_,_=>.no
noncomputable def j7b(i:Nat)(s:Option Sv)(k w:Option W)(ρ:En):So:=match s,k,w with
 |some (.own l),some (.v y),some (.v x)=>match y.d,x.st with
  |.int j,some d=>match ixN l.length j with
   |some n=>.next (ρ.set i (.own (l.set n d)))
   |none=>.no
  |_,_=>.no
 |_,_,_=>.no
section
variable{fu:Nat}{Γ:Str→List D→Rc}{G:Str→Option D}{ρ:En}{i j:Nat}{e c k:Ex}{a b:Sx}{is:List Nat}
theorem jam:run fu Γ G .nop ρ=.next ρ:=by rw[run]
theorem Fw:run fu Γ G (.seq a b) ρ=Rq (run fu Γ G a ρ) (run fu Γ G b):=by rw[run];rfl
theorem jaj:run fu Γ G (.set i e) ρ=orE (Ie i (ev Γ G e ρ) ρ) (er Γ G e ρ) ρ:=by rw[run];rfl
theorem jan:run fu Γ G (.mov i j) ρ=j7n i j ρ[j]? ρ:=by rw[run];rfl
theorem j77:run fu Γ G (.expr e) ρ=orE (j8c (ev Γ G e ρ) ρ) (er Γ G e ρ) ρ:=by rw[run];rfl
theorem jak:run fu Γ G (.ret e) ρ=orE (retS (ev Γ G e ρ)) (er Γ G e ρ) ρ:=by rw[run];rfl
theorem Ou{ρ':En}{x:Option Str}:orE (.next ρ') x ρ=.next ρ':=(rfl)
theorem j1o{r:Rc}{x:Option Str}:orE (.ret r) x ρ=.ret r:=(rfl)
theorem jb9{y:Str}:orE .no (some y) ρ=.err y ρ:=(rfl)
theorem jd4:Ie i none ρ=.no:=(rfl)
theorem jf9:j8c none ρ=.no:=(rfl)
theorem jdd:retS none=.no:=(rfl)
noncomputable def erR(G:Str→Option D):Rc→Option Str
 |.err x=>if (G (bang x)).isSome=true then some x else none
 |_=>none
noncomputable def erC(Γ:Str→List D→Rc)(G:Str→Option D)(f:Str)(w:Option W):Option Str:=match w with
 |some (.a rs)=>erR G (Γ f (rs.map Rk.d))
 |_=>none
noncomputable def Bc(w:Option W):Option W:=match w with
 |some (.a rs)=>if rs.length≤1000 then(vo rs).map fun ys=>.v (.e (.str (Ms Str.empty ys)))else none
 |_=>none
theorem jfk:ev Γ G (.fst e) ρ=Bc (ev Γ G e ρ):=by rw[ev];rfl
theorem j5k{rs:List Rk}{ys:List Str}(h:rs.length≤1000)(h2:vo rs=some ys):Bc (some (.a rs))=some (.v (.e (.str (Ms Str.empty ys)))):=by unfold Bc;dsimp only;rw[if_pos h,h2];rfl
noncomputable def erK(Γ:Str→List D→Rc)(G:Str→Option D)(f:Str)(x:Option Str)(w:Option W):Option Str:=match x with
 |some x=>if (G (qm f)).isSome=true then some x else none
 |none=>erC Γ G f w
theorem Zh{f:Str}:er Γ G (.call f e) ρ=erK Γ G f (er Γ G e ρ) (ev Γ G e ρ):=by
 rw[er];cases er Γ G e ρ with
 |some x=>rfl
 |none =>
  cases h:ev Γ G e ρ with
  |none=>rfl
  |some w =>
   cases w with
   |v _=>rfl
   |i _=>rfl
   |a rs =>show(match Γ f (rs.map Rk.d)with|.err x=>_|_=>_)=erR G (Γ f (rs.map Rk.d));cases Γ f (rs.map Rk.d)<;>rfl
theorem Um{f:Str}{w:Option W}:erK Γ G f none w=erC Γ G f w:=(rfl)
theorem j3j{f x:Str}{w:Option W}(h:(G (qm f)).isSome=true):erK Γ G f (some x) w=some x:=if_pos h
noncomputable def erN(a:Option Str)(w:Option W)(b:Option Str):Option Str:=match a with
 |some x=>some x
 |none=>match w with
  |some (.v _)=>b
  |_=>none
theorem Zg{b:Ex}:er Γ G (.cons e b) ρ=erN (er Γ G e ρ) (ev Γ G e ρ) (er Γ G b ρ):=by rw[er];rfl
theorem j3i{x:Str}{w:Option W}{b:Option Str}:erN (some x) w b=some x:=(rfl)
theorem Je{r:Rk}{b:Option Str}:erN none (some (.v r)) b=b:=(rfl)
theorem Vx:er Γ G .nil ρ=none:=(rfl)
theorem Vw:er Γ G (.var i) ρ=none:=(rfl)
theorem jhy{b:Ex}:er Γ G (.ix e b) ρ=er Γ G e ρ:=(rfl)
theorem Yh{f:Str}{rs:List Rk}:erC Γ G f (some (.a rs))=erR G (Γ f (rs.map Rk.d)):=(rfl)
theorem Ul{x:Str}(h:(G (bang x)).isSome=true):erR G (.err x)=some x:=if_pos h
noncomputable def Fx(x:Str)(w:Option W)(d:Option D)(ρ:En):So:=match w,d with
 |some (.v _),some _=>.err x ρ
 |_,_=>.no
theorem j4l{x:Str}:run fu Γ G (.raise x e) ρ=Fx x (ev Γ G e ρ) (G (bang x)) ρ:=by rw[run];rfl
theorem jdg{x:Str}{r:Rk}{d:D}:Fx x (some (.v r)) (some d) ρ=.err x ρ:=(rfl)
noncomputable def j2m(i j:Nat)(G:Str→Option D)(o:So):So:=match o with
 |.err x ρ'=>match G (bang x) with
  |some (.lst l)=>.next (((ρ'.set j (.exc x)).set i (.own l)).set j .un)
  |_=>.no
 |o=>o
theorem j72:run fu Γ G (.tryK a i j) ρ=j2m i j G (run fu Γ G a ρ):=by rw[run];rfl
theorem j47{ρ':En}:j2m i j G (.next ρ')=.next ρ':=(rfl)
theorem Oc{x:Str}{l:List D}{ρ':En}(h:G (bang x)=some (.lst l)):j2m i j G (.err x ρ')=.next (((ρ'.set j (.exc x)).set i (.own l)).set j .un):=by unfold j2m;dsimp only;rw[h]
theorem j73:run fu Γ G (.retV i) ρ=j2s ρ[i]?:=by rw[run];rfl
theorem jao:run fu Γ G (.ife c a b) ρ=ifS (truth (ev Γ G c ρ)) (run fu Γ G a) (run fu Γ G b) ρ:=by rw[run];rfl
theorem j76:run fu Γ G (.loop is e a) ρ=j9v is (ev Γ G e (frz e ρ)) (run fu Γ G a) (frz e ρ):=by rw[run];rfl
theorem jai:run fu Γ G (.whl c a) ρ=Jl (fun ρ=>truth (ev Γ G c ρ)) (run fu Γ G a) fu ρ:=by rw[run]
theorem jaq:run fu Γ G (.app i e) ρ=j0i i ρ[i]? (ev Γ G e ρ) ρ:=by rw[run];rfl
theorem jap:run fu Γ G (.ext i e) ρ=j8b i ρ[i]? (ev Γ G e ρ) ρ:=by rw[run];rfl
theorem jal:run fu Γ G (.put i k e) ρ=j7b i ρ[i]? (ev Γ G k ρ) (ev Γ G e ρ) ρ:=by rw[run];rfl
theorem jcz{d:D}:stOf (some (.v (.e d)))=some d:=(rfl)
noncomputable def j3c(i:Nat)(v:Option Sv)(ρ:En):So:=match v with
 |some (.own l)=>.next (ρ.set i (.val (.lst l)))
 |some (.val _)=>.next ρ
 |_=>.no
theorem Cr{d:D}:j3c i (some (.val d)) ρ=.next ρ:=(rfl)
theorem Oo:run fu Γ G (.keep i) ρ=j3c i ρ[i]? ρ:=by rw[run];rfl
theorem Cu{l:List D}:j3c i (some (.own l)) ρ=.next (ρ.set i (.val (.lst l))):=(rfl)
noncomputable def j9j(x:Str)(v:Option (List D)):So:=match v with
 |some ds=>.ret (.val (.fn x ds))
 |none=>.no
theorem j74{x:Str}:run fu Γ G (.retL x is) ρ=j9j x (Z2 ρ is):=by rw[run];rfl
theorem jat{x:Str}{ds:List D}:j9j x (some ds)=.ret (.val (.fn x ds)):=(rfl)
noncomputable def jfx(s:Option Sv)(v:Option (List D)):Option (List D):=match s,v with
 |some (.val d),some ds=>some (d::ds)
 |_,_=>none
theorem j2i:Z2 ρ []=some []:=(rfl)
theorem j0o:Z2 ρ (i::is)=jfx ρ[i]? (Z2 ρ is):=(rfl)
theorem jfw{d:D}{ds:List D}:jfx (some (.val d)) (some ds)=some (d::ds):=(rfl)
noncomputable def j2t(r:Rc):So:=match r with
 |.val d=>if noFn d=true then .ret (.val d)else .no
 |_=>.no
noncomputable def j9k(Γ:Str→List D→Rc)(f x:Str)(v:Option (List D))(a b:Option W):So:=match v,a,b with
 |some ds,some (.v u),some (.v v)=>j2t (Γ f [u.d,v.d,.fn x ds])
 |_,_,_=>.no
theorem j75{f x:Str}{a b:Ex}:run fu Γ G (.retC f x a b is) ρ=j9k Γ f x (Z2 ρ is) (ev Γ G a ρ) (ev Γ G b ρ):=by rw[run];rfl
theorem jau{f x:Str}{ds:List D}{d d':D}:j9k Γ f x (some ds) (some (.v (.e d))) (some (.v (.e d')))=j2t (Γ f [d,d',.fn x ds]):=(rfl)
theorem jav{d:D}(h:noFn d=true):j2t (.val d)=.ret (.val d):=if_pos h
theorem j4m{x t y:Nat}{it e1 e2:Ex}{ds:List D}{r:List (List Int)×List Int}(hc:x<ρ.length∧t<ρ.length∧y<ρ.length∧x≠t∧x≠y∧t≠y)(hi:ev Γ G it (ρ.set x .un)=some (.i ds))(hd:Yc (fun ρ=>stOf (ev Γ G e1 ρ)) (fun ρ=>stOf (ev Γ G e2 ρ)) x t y ds (ρ.set x .un) [] []=some r) :
  run fu Γ G (.nmake x t y it e1 e2) ρ=.ret (.val (.dct r.1 (r.2.map D.int))):=by rw[run,if_pos hc,hi];dsimp only;rw[hd]
theorem j4k{x t:Nat}{it e2:Ex}{ds:List D}{r:List (List Int)×List Int}(hc:x<ρ.length∧t<ρ.length∧x≠t)(hi:ev Γ G it (ρ.set x .un)=some (.i ds))(hd:Y9 (fun ρ=>stOf (ev Γ G e2 ρ)) x t ds (ρ.set x .un) [] []=some r) :
  run fu Γ G (.wmake x t it e2) ρ=.ret (.val (.dct r.1 (r.2.map D.int))):=by rw[run,if_pos hc,hi];dsimp only;rw[hd]
end
section
variable{f g:En→So}{ρ:En}{i j:Nat}{d:D}{l m:List D}{r:Rc}{x:Rk}
theorem Rp:Rq (.next ρ) f=f ρ:=(rfl)
theorem Ih:Rq (.ret r) f=.ret r:=(rfl)
theorem j6x{x:Str}{ρ':En}:Rq (.err x ρ') f=.err x ρ':=(rfl)
theorem jhn:ifS (some true) f g ρ=f ρ:=(rfl)
theorem jho:ifS (some false) f g ρ=g ρ:=(rfl)
theorem j4h:Ie i (some (.v (.o l))) ρ=.next (ρ.set i (.own l)):=(rfl)
theorem j4i:Ie i (some (.v (.e d))) ρ=.next (ρ.set i (.val d)):=(rfl)
theorem jdc:retS (some (.v (.o l)))=.ret (.fresh l):=(rfl)
theorem j4n:retS (some (.v (.e d)))=.ret (.val d):=(rfl)
theorem jdb:retS (some (.v (.t d)))=.ret (.val d):=(rfl)
theorem jas:j2s (some (.own l))=.ret (.fresh l):=(rfl)
theorem jar:j2s (some (.val d))=.ret (.val d):=(rfl)
theorem jee(h:i≠j):j7n i j (some (.own l)) ρ=.next ((ρ.set j .un).set i (.own l)):=if_neg h
theorem jed:j7n i j (some (.val d)) ρ=.next (ρ.set i (.val d)):=(rfl)
theorem jf8:j8c (some (.v x)) ρ=.next ρ:=(rfl)
theorem Vj:j3t [i] f d ρ=f (ρ.set i (.val d)):=(rfl)
theorem jbl{is:List Nat}{ds:List D}:j9v is (some (.i ds)) f ρ=Qg (j3t is f) ds ρ:=(rfl)
theorem jgb(h:l.length≤1000000):j0i i (some (.own l)) (some (.v (.e d))) ρ=.next (ρ.set i (.own (l++[d]))):=by simp[j0i,Rk.st,lt_size h]
theorem jga(h:l.length≤1000000)(hd:Qp d=true):j0i i (some (.own l)) (some (.v (.t d))) ρ=.next (ρ.set i (.own (l++[d]))):=by simp[j0i,Rk.st,hd,lt_size h]
theorem jf7(h:l.length+m.length≤1000000):j8b i (some (.own l)) (some (.v (.o m))) ρ=.next (ρ.set i (.own (l++m))):=by simp[j8b,ji,vp h]
theorem jdm{j:Int}{n:Nat}(h:ixN l.length j=some n):j7b i (some (.own l)) (some (.v (.e (.int j)))) (some (.v (.e d))) ρ=.next (ρ.set i (.own (l.set n d))):=by simp[j7b,Rk.st,Rk.d,h]
theorem j1z:fin (.ret r)=r:=(rfl)
theorem jbw{x:Str}{ρ':En}:fin (.err x ρ')=.err x:=(rfl)
theorem j89:fin (.next ρ)=.val .non:=(rfl)
theorem jc{fu:Nat}{G:Str→Option D}{T:Str→Option Fi}{n:Nat}{f:Str}{ds:List D}{F:Fi}(h:T f=some F)(hl:ds.length=F.n)(hla:F.lam=false:=by rfl):evP fu G T (n+1) f ds=fin (run fu (evP fu G T n) G F.body (enter F ds)):=by simp only[evP,h,if_pos hl,hla,Xw,if_false]
theorem j21{fu:Nat}{G:Str→Option D}{T:Str→Option Fi}{n:Nat}{f:Str}{ds:List D}{F:Fi}(h:T f=some F)(hl:ds.length=F.n)(hla:F.lam=true:=by rfl):evP fu G T (n+1) f ds=j3a (fin (run fu (evP fu G T n) G F.body (enter F ds))):=by simp only[evP,h,if_pos hl,hla,if_true]
theorem jep:j3a (.val d)=.lval d:=(rfl)
end
theorem Vu{f:D→En→So}(W:Nat→En→Prop):∀{ds:List D}{ρ:En}{k:Nat},W k ρ→(∀i d ρ,ds[i]?=some d→W (k+i) ρ→∃ρ',f d ρ=.next ρ'∧W (k+i+1) ρ')→∃ρ',Qg f ds ρ=.next ρ'∧W (k+ds.length) ρ'
 |[],ρ,k,h0,_=>⟨ρ,rfl,h0⟩
 |d::ds,ρ,k,h0,hs=>by
  obtain⟨ρ1,e1,w1⟩:=hs 0 d ρ rfl h0;obtain⟨ρ2,e2,w2⟩:=Vu (f:=f) W (ds:=ds) (k:=k+1) w1 fun i d' ρ' hi w=>by have:=hs (i+1) d' ρ' (by simpa using hi) (by rw[show k+(i+1)=k+1+i by omega];exact w);rw[show k+(i+1)+1=k+1+i+1 by omega]at this;exact this
  refine⟨ρ2,?_,by rw[X4,show k+(ds.length+1)=k+1+ds.length by omega];exact w2⟩;rw[Qg,e1];exact e2
theorem j7q{f:D→En→So}(W:Nat→En){ds:List D}{ρ:En}(h0:ρ=W 0)(hs:∀i d,ds[i]?=some d→f d (W i)=.next (W (i+1))):Qg f ds ρ=.next (W ds.length):=by
 obtain⟨ρ',e,w⟩:=Vu (f:=f) (fun i ρ=>ρ=W i) (k:=0) (ds:=ds) (ρ:=W 0) rfl fun i d ρ hi w=>⟨W (0+i+1),by rw[w,T4];exact hs i d hi,rfl⟩
 rw[h0,e,w,T4]
theorem Oj{f:D→En→So}{ds:List D}{ρ:En}{g:En→So}{r:Rc}(W:Nat→En→Prop)(h0:W 0 ρ)(hs:∀i d ρ,ds[i]?=some d→W i ρ→∃ρ',f d ρ=.next ρ'∧W (i+1) ρ')(hk:∀ρ',W ds.length ρ'→fin (g ρ')=r) :
  fin (Rq (Qg f ds ρ) g)=r:=by
 obtain⟨ρ',e,w⟩:=Vu (f:=f) W (k:=0) (ds:=ds) (ρ:=ρ) h0 fun i d ρ hi w=>by rw[T4]at w ⊢;exact hs i d ρ hi w
 rw[e];rw[T4]at w;exact hk ρ' w
theorem Ce{f:D→En→So}{ds:List D}{ρ:En}{g:En→So}{Q:En→Prop}(W:Nat→En→Prop)(h0:W 0 ρ)(hs:∀i d ρ,ds[i]?=some d→W i ρ→∃ρ',f d ρ=.next ρ'∧W (i+1) ρ')
  (hk:∀ρ',W ds.length ρ'→∃ρ2,g ρ'=.next ρ2∧Q ρ2):∃ρ2,Rq (Qg f ds ρ) g=.next ρ2∧Q ρ2:=by
 obtain⟨ρ',e,w⟩:=Vu (f:=f) W (k:=0) (ds:=ds) (ρ:=ρ) h0 fun i d ρ hi w=>by rw[T4]at w ⊢;exact hs i d ρ hi w
 rw[e];rw[T4]at w;exact hk ρ' w
noncomputable def j6p(s:Option Sv):Option W:=match s with
 |some (.val d)=>some (.v (.e d))
 |some (.own l)=>some (.v (.w l))
 |_=>none
noncomputable def j9y(d:Option D):Option W:=d.map fun d=>.v (.e d)
noncomputable def j81(i:Option Int):Option W:=i.map fun k=>.v (.e (.int k))
noncomputable def blW(i:Option Bool):Option W:=i.map fun k=>.v (.e (.bl k))
noncomputable def rkW(r:Option Rk):Option W:=r.map .v
noncomputable def Zd(op:Bop)(a b:Option W):Option W:=match a,b with
 |some (.v x),some (.v y)=>rkW (Y8 op x y)
 |_,_=>none
noncomputable def jec(a:Option W):Option W:=match a with
 |some (.v x)=>match x.d with
  |.int i=>some (.v (.e (.int (-i))))
  |_=>none
 |_=>none
noncomputable def jfz(op:Cop)(a b:Option W):Option W:=match a,b with
 |some (.v x),some (.v y)=>blW (Zw op x.d y.d)
 |_,_=>none
noncomputable def jf1(a:Option W):Option W:=match a with
 |some (.v x)=>some (.v (.e (.bl x.d.isNon)))
 |_=>none
noncomputable def j97(k:Option Bool)(f:En→Option W)(ρ:En):Option W:=match k with
 |some false=>some (.v (.e (.bl false)))
 |some true=>blW (truth (f ρ))
 |none=>none
noncomputable def orW(k:Option Bool)(f:En→Option W)(ρ:En):Option W:=match k with
 |some true=>some (.v (.e (.bl true)))
 |some false=>blW (truth (f ρ))
 |none=>none
noncomputable def jea(k:Option Bool):Option W:=k.map fun k=>.v (.e (.bl (!k)))
noncomputable def stW(a:Option W):Option W:=match a with
 |some (.v x)=>x.st.map fun d=>.v (.e d)
 |_=>none
noncomputable def j7z(k:Option Bool)(f g:En→Option W)(ρ:En):Option W:=match k with
 |some true=>stW (f ρ)
 |some false=>stW (g ρ)
 |none=>none
noncomputable def consW(a b:Option W):Option W:=match a,b with
 |some (.v x),some (.a xs)=>some (.a (x::xs))
 |_,_=>none
noncomputable def Rh(a:Option W):Option W:=match a with
 |some (.a rs)=>match zb rs with
  |some ds=>if ji ds.length=true then some (.v (.e (.tup ds)))else none
  |none=>none
 |_=>none
noncomputable def Vd(a:Option W):Option W:=match a with
 |some (.a rs)=>match zb rs with
  |some ds=>if ji ds.length=true then some (.v (.o ds))else none
  |none=>none
 |_=>none
noncomputable def ixW(a b:Option W):Option W:=match a,b with
 |some (.v x),some (.v y)=>match x.sq,y.d with
  |some (_,l),.int i=>(atI l i).map fun d=>.v (.e d)
  |none,.int i=>match x.d with
   |.str z=>if ji z.length=true then(atI z.cps.toList i).map fun c=>.v (.e (.str ⟨#[c]⟩))else none
   |_=>none
  |_,_=>none
 |_,_=>none
noncomputable def slW(a:Option W)(l h:Option (Option Int)):Option W:=match a,l,h with
 |some (.v x),some l,some h=>match x.sq with
  |some (true,ds)=>some (.v (.o (cutD ds l h)))
  |some (false,ds)=>if HT.sIx ds.length 0 l=0∧HT.sIx ds.length ds.length h=ds.length then none else some (.v (.e (.tup (cutD ds l h))))
  |none=>match x.d with
   |.str z=>if ji z.length=true then some (.v (.e (.str (PySem.Txt.slice z l h))))else none
   |_=>none
 |_,_,_=>none
noncomputable def j3d(sep:Str)(a:Option W):Option W:=match a with
 |some (.v x)=>match x.d with
  |.lst l=>match strsOf l with
   |some ts=>if PySem.JoinOk sep ts=true then some (.v (.e (.str (PySem.Txt.join sep ts))))else none
   |none=>none
  |_=>none
 |_=>none
noncomputable def j3k(a:Option W):Option W:=match a with
 |some (.v x)=>match x.st with
  |some (.lst l)=>some (.i (Jf l))
  |some (.tup l)=>some (.i (Jf l))
  |_=>none
 |_=>none
noncomputable def Zy(Γ:Str→List D→Rc)(f:Str)(a:Option W):Option W:=match a with
 |some (.a rs)=>match zb rs with
  |some ds=>rkW (Γ f ds).rk
  |none=>match Γ f (rs.map Rk.d) with
   |.val d=>some (.v (.t d))
   |_=>none
 |_=>none
noncomputable def V2(f:Bf)(a:Option W):Option W:=match a with
 |some (.a rs)=>rkW (V3 f rs)
 |_=>none
noncomputable def j34(m:Mf)(a b:Option W):Option W:=match a,b with
 |some (.v x),some (.a rs)=>rkW (K7 m x rs)
 |_,_=>none
noncomputable def Qo(is:List Nat)(c e:En→Option W)(ρ:En)(d:D):Option (Option D):=match zq is d ρ with
 |none=>none
 |some ρ2=>match c ρ2 with
  |some (.a [])=>match e ρ2 with
   |some (.v x)=>x.st.map some
   |_=>none
  |some (.a [y])=>match y.d with
   |.bl true=>match e ρ2 with
    |some (.v x)=>x.st.map some
    |_=>none
   |.bl false=>some none
   |_=>none
  |_=>none
noncomputable def j3p(is:List Nat)(w:Option W)(c e:En→Option W)(z:Bool)(ρ:En):Option W:=match w with
 |some (.i ds)=>if j3g is ρ=true∧ji ds.length=true then(Qh (Qo is c e ρ) ds).bind fun l=>if (z && !zg l)=true then none else some (.v (.o l))else none
 |_=>none
noncomputable def j2q(a:Option W):Option W:=match a with
 |some (.v (.e (.lst l)))=>some (.i l)
 |some (.v (.e (.tup l)))=>some (.i l)
 |some (.v (.o l))=>some (.i l)
 |some (.v (.e (.str y)))=>if ascii y=true then some (.i (chs y))else none
 |_=>none
noncomputable def j4p(a:Option W):Option W:=match a with
 |some (.a [x])=>match x.d with
  |.int n=>if -(2^62)≤n∧n<2^62 then some (.i (upto 0 n.toNat))else none
  |_=>none
 |some (.a [x,y])=>match x.d,y.d with
  |.int m,.int n=>if -(2^62)≤m∧m<2^62∧-(2^62)≤n∧n<2^62 then some (.i (upto m (n-m).toNat))else none
  |_,_=>none
 |_=>none
section
variable{Γ:Str→List D→Rc}{G:Str→Option D}{ρ:En}{a b c e:Ex}{op:Bop}{cp:Cop}{x f:Str}{i:Nat}{d:D}
theorem jfh:ev Γ G (.lit d) ρ=some (.v (.e d)):=by rw[ev]
theorem jfa:ev Γ G (.var i) ρ=j6p ρ[i]?:=by rw[ev];rfl
theorem jc1:ev Γ G (.glob x) ρ=j9y (G x):=by rw[ev];rfl
theorem jfn:ev Γ G (.bin op a b) ρ=Zd op (ev Γ G a ρ) (ev Γ G b ρ):=by rw[ev];rfl
theorem jff:ev Γ G (.neg a) ρ=jec (ev Γ G a ρ):=by rw[ev];rfl
theorem jfl:ev Γ G (.cmp cp a b) ρ=jfz cp (ev Γ G a ρ) (ev Γ G b ρ):=by rw[ev];rfl
theorem jfj:ev Γ G (.isN a) ρ=jf1 (ev Γ G a ρ):=by rw[ev];rfl
theorem jfo:ev Γ G (.and a b) ρ=j97 (truth (ev Γ G a ρ)) (ev Γ G b) ρ:=by rw[ev];rfl
theorem jhv:ev Γ G (.or a b) ρ=orW (truth (ev Γ G a ρ)) (ev Γ G b) ρ:=by rw[ev];rfl
theorem jfd:ev Γ G (.not a) ρ=jea (truth (ev Γ G a ρ)):=by rw[ev];rfl
theorem jfi:ev Γ G (.ite c a b) ρ=j7z (truth (ev Γ G c ρ)) (ev Γ G a) (ev Γ G b) ρ:=by rw[ev];rfl
theorem jfe:ev Γ G .nil ρ=some (.a []):=by rw[ev]
theorem jc4:ev Γ G (.cons a b) ρ=consW (ev Γ G a ρ) (ev Γ G b ρ):=by rw[ev];rfl
theorem jfb:ev Γ G (.tup a) ρ=Rh (ev Γ G a ρ):=by rw[ev];rfl
theorem jfg:ev Γ G (.lst a) ρ=Vd (ev Γ G a ρ):=by rw[ev];rfl
theorem jhw:ev Γ G (.ix a b) ρ=ixW (ev Γ G a ρ) (ev Γ G b ρ):=by rw[ev];rfl
theorem jhu:ev Γ G (.sl a b c) ρ=slW (ev Γ G a ρ) (Zz (ev Γ G b ρ)) (Zz (ev Γ G c ρ)):=by rw[ev];rfl
theorem jc0{sep:Str}:ev Γ G (.join sep a) ρ=j3d sep (ev Γ G a ρ):=by rw[ev];rfl
noncomputable def j0e(Γ:Str→List D→Rc)(s:Option Sv)(a:Option W):Option W:=match s,a with
 |some (.val (.fn x cs)),some (.a rs)=>match zb rs with
  |some ds=>if J6 ds=true then(Γ (jo x) (cs++ds)).lv else none
  |none=>none
 |_,_=>none
theorem j8g:ev Γ G (.callV i a) ρ=j0e Γ ρ[i]? (ev Γ G a ρ):=by rw[ev];rfl
theorem j8u{cs:List D}{u v:D}(h:J6 [u,v]=true):j0e Γ (some (.val (.fn x cs))) (some (.a [.e u,.e v]))=(Γ (jo x) (cs++[u,v])).lv:=if_pos h
theorem j8t{cs:List D}{u v w:D}(h:J6 [u,v,w]=true):j0e Γ (some (.val (.fn x cs))) (some (.a [.e u,.e v,.e w]))=(Γ (jo x) (cs++[u,v,w])).lv:=if_pos h
theorem jip:(Rc.lval d).lv=some (.v (.e d)):=(rfl)
noncomputable def j3o(a b:Option W):Option W:=match a,b with
 |some (.v (.e (.dct ks ds))),some (.v y)=>match tupI y.d with
  |some k=>(qw ks ds k).map fun d=>.v (.e d)
  |none=>none
 |_,_=>none
theorem jc3:ev Γ G (.dget a b) ρ=j3o (ev Γ G a ρ) (ev Γ G b ρ):=by rw[ev];rfl
noncomputable def j5q(a:Option W):Option W:=match a with
 |some (.v (.e (.dct _ ds)))=>some (.v (.e (.tup ds)))
 |_=>none
theorem j8f:ev Γ G (.dvals a) ρ=j5q (ev Γ G a ρ):=by rw[ev];rfl
theorem j8m{ks:List (List Int)}{ds:List D}:j5q (some (.v (.e (.dct ks ds))))=some (.v (.e (.tup ds))):=(rfl)
noncomputable def j32(a:Option W):Option W:=match a with
 |some (.v x)=>match x.d with
  |.lst l=>match Wi l with
   |some ks=>(ks[argBest (Ja ks) (ks.length-1)]?).map fun k=>.v (.t (.tup (k.map D.int)))
   |none=>none
  |_=>none
 |_=>none
theorem jby:ev Γ G (.minT a) ρ=j32 (ev Γ G a ρ):=by rw[ev];rfl
theorem jc2:ev Γ G (.enum a) ρ=j3k (ev Γ G a ρ):=by rw[ev];rfl
theorem jc6:ev Γ G (.call f a) ρ=Zy Γ f (ev Γ G a ρ):=by rw[ev];rfl
theorem jfm{f:Bf}:ev Γ G (.blt f a) ρ=V2 f (ev Γ G a ρ):=by rw[ev];rfl
theorem jbz{m:Mf}:ev Γ G (.meth m a b) ρ=j34 m (ev Γ G a ρ) (ev Γ G b ρ):=by rw[ev];rfl
theorem jc5{is:List Nat}:ev Γ G (.comp is e a c) ρ=j3p is (ev Γ G a (frz a ρ)) (ev Γ G c) (ev Γ G e) (Jd a ρ) (frz a ρ):=by rw[ev];rfl
theorem jfc:ev Γ G (.seq a) ρ=j2q (ev Γ G a ρ):=by rw[ev];rfl
theorem j8e:ev Γ G (.range a) ρ=j4p (ev Γ G a ρ):=by rw[ev];rfl
end
section
variable{x y:Rk}{d:D}{i j k:Int}{l m:List D}{b:Bool}{f g:En→Option W}{ρ:En}{xs:List Rk}{op:Bop}{cp:Cop}
theorem jco:j6p (some (.val d))=some (.v (.e d)):=(rfl)
theorem jcp:j6p (some (.own l))=some (.v (.w l)):=(rfl)
theorem W8:j9y (some d)=some (.v (.e d)):=(rfl)
theorem jf2:j81 (some i)=some (.v (.e (.int i))):=(rfl)
theorem ji2:blW (some b)=some (.v (.e (.bl b))):=(rfl)
theorem jg9:Zd op (some (.v (.e (.int i)))) (some (.v (.e (.int j))))=j81 (binI op i j):=by simp only[Zd,Y8,Rk.d,j81,rkW];cases binI op i j<;>rfl
theorem j93:binI .add i j=some (i+j):=(rfl)
theorem j8y:binI .sub i j=some (i-j):=(rfl)
theorem j91(h:(-18446744073709551616<i∧i<18446744073709551616)∨(-18446744073709551616<j∧j<18446744073709551616)):binI .mul i j=some (i*j):=if_pos h
theorem j6i(h:0<j∧j<18446744073709551616):binI .fdiv i j=some (i/j):=if_pos h
theorem j92(h:0<j):binI .mod i j=some (i%j):=if_pos h
theorem j90(h:0≤j∧j≤1000000∧i.natAbs<18446744073709551616):binI .pow i j=some (i^j.toNat):=if_pos h
theorem j8z(h:0≤j∧j≤1000000∧i.natAbs<18446744073709551616):binI .shl i j=some (i*2^j.toNat):=if_pos h
theorem jg6(h:l.length+m.length≤1000000):Zd .add (some (.v (.o l))) (some (.v (.o m)))=some (.v (.o (l++m))):=by simp[Zd,Y8,Rk.d,Rk.sq,ji,vp h,rkW]
theorem jg7(h:l.length+m.length≤1000000):Zd .add (some (.v (.e (.lst l)))) (some (.v (.o m)))=some (.v (.o (l++m))):=by simp[Zd,Y8,Rk.d,Rk.sq,ji,vp h,rkW]
theorem jg4(h:l.length+m.length≤1000000):Zd .add (some (.v (.e (.tup l)))) (some (.v (.e (.tup m))))=some (.v (.e (.tup (l++m)))):=by simp[Zd,Y8,Rk.d,Rk.sq,ji,vp h,rkW]
theorem jgy(h:-9223372036854775808≤k∧k<9223372036854775808)(h2:l.length*k.toNat≤1000000):Zd .mul (some (.v (.o l))) (some (.v (.e (.int k))))=some (.v (.o (List.replicate k.toNat l).flatten)):=by simp only[Zd,Y8,Rk.d,Rk.sq,Rk.lw];rw[if_pos ⟨h.1,h.2,decide_eq_true (vp h2)⟩];rfl
theorem jde(h:1≤k∧k≤1000000):Zd .mul (some (.v (.e (.tup [d])))) (some (.v (.e (.int k))))=some (.v (.e (.tup (List.replicate k.toNat d)))):=by simp only[Zd,Y8,Rk.d,Rk.sq];rw[if_pos ⟨h.1,by omega,rfl,decide_eq_true (vp (by simp only[X4,Pn];omega))⟩];simp only[rkW,Option.map,List.flatten_replicate_singleton]
theorem jeb:jec (some (.v (.e (.int i))))=some (.v (.e (.int (-i)))):=(rfl)
theorem jfy:jfz cp (some (.v x)) (some (.v y))=blW (Zw cp x.d y.d):=(rfl)
theorem d_e:(Rk.e d).d=d:=(rfl)
theorem d_o:(Rk.o l).d=.lst l:=(rfl)
theorem jg0:Zw cp (.int i) (.int j)=cmpI cp i j:=by cases cp<;>rfl
theorem j8p(h:(D.lst l).dep≤90)(h2:(D.lst m).dep≤90):Zw .eq (.lst l) (.lst m)=some (vd l m):=by simp[Zw,h,h2,j03,j04]
theorem j08(h:D.depL l≤90)(h2:D.depL m≤90):Zw .ne (.lst l) (.lst m)=some (!vd l m):=by simp[Zw,h,h2]
theorem j5z(h:i<j):cmpI .lt i j=some true:=by simp[cmpI,h]
theorem j60(h:j≤i):cmpI .lt i j=some false:=by simp[cmpI];omega
theorem j61(h:i≤j):cmpI .le i j=some true:=by simp[cmpI,h]
theorem j62(h:j<i):cmpI .le i j=some false:=by simp[cmpI];omega
theorem j63(h:j<i):cmpI .gt i j=some true:=by simp[cmpI,h]
theorem j64(h:i≤j):cmpI .gt i j=some false:=by simp[cmpI];omega
theorem j65(h:j≤i):cmpI .ge i j=some true:=by simp[cmpI,h]
theorem j66(h:i<j):cmpI .ge i j=some false:=by simp[cmpI];omega
theorem j67(h:i=j):cmpI .eq i j=some true:=by simp[cmpI,h]
theorem j68(h:i≠j):cmpI .eq i j=some false:=by simp[cmpI,h]
theorem j5x(h:i≠j):cmpI .ne i j=some true:=by simp[cmpI,h]
theorem j5y(h:i=j):cmpI .ne i j=some false:=by simp[cmpI,h]
theorem jcc:cmpI .gt i j=some (decide (j<i)):=(rfl)
theorem Do:cmpI .eq i j=some (decide (i=j)):=(rfl)
theorem jf0:jf1 (some (.v x))=some (.v (.e (.bl x.d.isNon))):=(rfl)
theorem ja9:truth (some (.v (.e (.bl b))))=some b:=(rfl)
theorem jgd:j97 (some false) f ρ=some (.v (.e (.bl false))):=(rfl)
theorem jgc:j97 (some true) f ρ=blW (truth (f ρ)):=(rfl)
theorem jha:orW (some true) f ρ=some (.v (.e (.bl true))):=(rfl)
theorem jhb:orW (some false) f ρ=blW (truth (f ρ)):=(rfl)
theorem je9:jea (some b)=some (.v (.e (.bl (!b)))):=(rfl)
theorem jgu:stW (some (.v (.e d)))=some (.v (.e d)):=(rfl)
theorem jex:j7z (some true) f g ρ=stW (f ρ):=(rfl)
theorem jey:j7z (some false) f g ρ=stW (g ρ):=(rfl)
theorem jca{b:Option W}:consW none b=none:=(rfl)
theorem j8o{a:Option W}:consW a none=none:=by
 cases a with
 |none=>rfl
 |some w=>cases w<;>rfl
theorem jcf{Γ:Str→List D→Rc}{f:Str}:Zy Γ f none=none:=(rfl)
theorem Wb:consW (some (.v x)) (some (.a xs))=some (.a (x::xs)):=(rfl)
theorem j46(h:zb xs=some l)(hl:l.length≤1000000):Rh (some (.a xs))=some (.v (.e (.tup l))):=by simp[Rh,h,ji,vp hl]
theorem Ei(h:zb xs=some l)(hl:l.length≤1000000):Vd (some (.a xs))=some (.v (.o l)):=by simp[Vd,h,ji,vp hl]
theorem jcu:Rh (some (.a []))=some (.v (.e (.tup []))):=by simp[Rh,zb,ji]
theorem jct{a:D}:Rh (some (.a [.e a]))=some (.v (.e (.tup [a]))):=j46 rfl (by simp)
theorem jcs{a b:D}:Rh (some (.a [.e a,.e b]))=some (.v (.e (.tup [a,b]))):=j46 rfl (by simp)
theorem jel:Vd (some (.a []))=some (.v (.o [])):=by simp[Vd,zb,ji]
theorem jek{a:D}:Vd (some (.a [.e a]))=some (.v (.o [a])):=Ei rfl (by simp)
theorem jej{a b:D}:Vd (some (.a [.e a,.e b]))=some (.v (.o [a,b])):=Ei rfl (by simp)
theorem jei{a b c:D}:Vd (some (.a [.e a,.e b,.e c]))=some (.v (.o [a,b,c])):=Ei rfl (by simp)
noncomputable def K8(o:Option D):Option W:=o.map fun d=>.v (.e d)
theorem Kr:∀xs:List D,zb (xs.map Rk.e)=some xs
 |[]=>rfl
 |x::xs=>by rw[xr,zb,Kr xs];rfl
theorem jeg(xs:List D)(h:xs.length≤1000000):Vd (some (.a (xs.map Rk.e)))=some (.v (.o xs)):=by simp[Vd,Kr,ji,vp h]
theorem jeh{a b c d:D}:Vd (some (.a [.e a,.e b,.e c,.e d]))=some (.v (.o [a,b,c,d])):=jeg [a,b,c,d] (by simp)
theorem j1v:K8 (some d)=some (.v (.e d)):=(rfl)
theorem jew:ixW (some (.v (.e (.lst l)))) (some (.v (.e (.int i))))=K8 (atI l i):=(rfl)
theorem jev:ixW (some (.v (.e (.tup l)))) (some (.v (.e (.int i))))=K8 (atI l i):=(rfl)
theorem jhl:ixW (some (.v (.o l))) (some (.v (.e (.int i))))=K8 (atI l i):=(rfl)
noncomputable def jg2(c:Option Nat):Option W:=match c with
 |some c=>some (.v (.e (.str ⟨#[c]⟩)))
 |none=>none
theorem jg1{c:Nat}:jg2 (some c)=some (.v (.e (.str ⟨#[c]⟩))):=(rfl)
theorem jhk{z:Str}(h:z.length≤1000000):ixW (some (.v (.e (.str z)))) (some (.v (.e (.int i))))=jg2 (atI z.cps.toList i):=by simp only[ixW,Rk.sq,Rk.d,ji,vp h,decide_true,if_true];cases atI z.cps.toList i<;>rfl
theorem jgw{z:Str}{lo hi:Option Int}(h:z.length≤1000000):slW (some (.v (.e (.str z)))) (some lo) (some hi)=some (.v (.e (.str (PySem.Txt.slice z lo hi)))):=by simp only[slW,Rk.sq,Rk.d,ji,vp h,decide_true,if_true]
theorem jg5{y z:Str}(h:y.length+z.length≤1000000):Zd .add (some (.v (.e (.str y)))) (some (.v (.e (.str z))))=some (.v (.e (.str (y++z)))):=by simp[Zd,Y8,Rk.d,ji,vp h,rkW]
theorem jhm{k:Bool}:V2 .int (some (.a [.e (.bl k)]))=some (.v (.e (.int (if k then 1 else 0)))):=(rfl)
theorem Q4{ns:List Int}:intsOf (ns.map D.int)=some ns:=by
 induction ns with
 |nil=>rfl
 |cons b bs ih=>rw[xr,intsOf,ih];rfl
theorem j2o{ns:List Str}:strsOf (ns.map D.str)=some ns:=by
 induction ns with
 |nil=>rfl
 |cons b bs ih=>rw[xr,strsOf,ih];rfl
theorem j9h{ns:List Int}:V2 .sum (some (.a [.o (ns.map D.int)]))=some (.v (.e (.int ns.sum))):=by simp only[V2,V3,Rk.d,Q4];rfl
theorem jgs{ns:List Int}:V2 .sum (some (.a [.w (ns.map D.int)]))=some (.v (.e (.int ns.sum))):=by simp only[V2,V3,Rk.d,Q4];rfl
theorem jcy{ns:List Int}:V2 .sum (some (.a [.e (.lst (ns.map D.int))]))=some (.v (.e (.int ns.sum))):=by simp only[V2,V3,Rk.d,Q4];rfl
theorem j1t{sep:Str}{ts:List Str}(h:PySem.JoinOk sep ts=true):j3d sep (some (.v (.o (ts.map D.str))))=some (.v (.e (.str (PySem.Txt.join sep ts)))):=by simp only[j3d,Rk.d,j2o,h,if_true]
theorem j8k:j3k (some (.v (.e (.lst l))))=some (.i (Jf l)):=(rfl)
theorem j8j:j3k (some (.v (.e (.tup l))))=some (.i (Jf l)):=(rfl)
theorem j8w:Zz (some (.a []))=some none:=(rfl)
theorem j8v:Zz (some (.a [.e (.int i)]))=some (some i):=(rfl)
variable{lo hi:Option Int}
theorem jd3:slW (some (.v (.e (.lst l)))) (some lo) (some hi)=some (.v (.o (cutD l lo hi))):=(rfl)
theorem j4e(h:¬(HT.sIx l.length 0 lo=0∧HT.sIx l.length l.length hi=l.length)):slW (some (.v (.e (.tup l)))) (some lo) (some hi)=some (.v (.e (.tup (cutD l lo hi)))):=if_neg h
variable{Γ:Str→List D→Rc}{fn:Str}
noncomputable def rcW(r:Rc):Option W:=match r with
 |.val d=>some (.v (.e d))
 |.fresh l=>some (.v (.o l))
 |_=>none
theorem jgz{x:Str}:rcW (.err x)=none:=(rfl)
theorem j9l:rcW (.val d)=some (.v (.e d)):=(rfl)
theorem j9m:rcW (.fresh l)=some (.v (.o l)):=(rfl)
theorem Ju(h:zb xs=some l):Zy Γ fn (some (.a xs))=rcW (Γ fn l):=by simp only[Zy,h];cases Γ fn l<;>rfl
theorem jci{a:D}:Zy Γ fn (some (.a [.e a]))=rcW (Γ fn [a]):=Ju rfl
theorem jch{a b:D}:Zy Γ fn (some (.a [.e a,.e b]))=rcW (Γ fn [a,b]):=Ju rfl
theorem jcg{a b c:D}:Zy Γ fn (some (.a [.e a,.e b,.e c]))=rcW (Γ fn [a,b,c]):=Ju rfl
theorem j8s:Zy Γ fn (some (.a [.o l]))=rcW (Γ fn [.lst l]):=Ju rfl
noncomputable def rcT(r:Rc):Option W:=match r with
 |.val d=>some (.v (.t d))
 |_=>none
theorem jh0:rcT (.val d)=some (.v (.t d)):=(rfl)
theorem jce(h:zb xs=none):Zy Γ fn (some (.a xs))=rcT (Γ fn (xs.map Rk.d)):=by simp only[Zy,h];cases Γ fn (xs.map Rk.d)<;>rfl
theorem j8r{a b:D}:Zy Γ fn (some (.a [.w m,.e a,.e b]))=rcT (Γ fn [.lst m,a,b]):=jce rfl
theorem jhf:V2 .len (some (.a [.e (.lst l)]))=some (.v (.e (.int l.length))):=(rfl)
theorem jhe:V2 .len (some (.a [.e (.tup l)]))=some (.v (.e (.int l.length))):=(rfl)
theorem j45{ks:List (List Int)}:Wi (ks.map fun k=>D.tup (k.map D.int))=some ks:=by
 induction ks with
 |nil=>rfl
 |cons k ks ih=>rw[xr,Wi,ih];simp only[tupI,Q4]
theorem jbh{ks:List (List Int)}{k:List Int}(h:ks[PySem.argBest (Ja ks) (ks.length-1)]?=some k):j32 (some (.v (.o (ks.map fun k=>D.tup (k.map D.int)))))=some (.v (.t (.tup (k.map D.int)))):=by simp only[j32,Rk.d,j45,h];rfl
theorem Dn{ks:List (List Int)}{ds:List D}{k:List Int}{d:D}(h:qw ks ds k=some d):j3o (some (.v (.e (.dct ks ds)))) (some (.v (.e (.tup (k.map D.int)))))=some (.v (.e d)):=by simp only[j3o,Rk.d,tupI,Q4,h];rfl
theorem ja8:V2 .tuple (some (.a [.w l]))=some (.v (.e (.tup l))):=(rfl)
theorem jbm:V2 .list (some (.a [.e (.lst l)]))=some (.v (.o l)):=(rfl)
theorem j16{bs:List Bool}:boolsOf (bs.map D.bl)=some bs:=by
 induction bs with
 |nil=>rfl
 |cons b bs ih=>rw[xr,boolsOf,ih];rfl
theorem ji4{bs:List Bool}:V2 .all (some (.a [.o (bs.map D.bl)]))=some (.v (.e (.bl (bs.all id)))):=by simp only[V2,V3,Rk.d,j16];rfl
theorem j2a(h:D.depL l≤90)(h2:d.dep≤90):j34 .count (some (.v (.w l))) (some (.a [.e d]))=some (.v (.e (.int (l.countP fun e=>deq e d)))):=by simp[j34,K7,Rk.d,h,h2,rkW]
theorem jah:j2q (some (.v (.e (.lst l))))=some (.i l):=(rfl)
theorem jag:j2q (some (.v (.e (.tup l))))=some (.i l):=(rfl)
theorem jd5:j2q (some (.v (.o l)))=some (.i l):=(rfl)
theorem j7a(h:-4611686018427387904≤i∧i<4611686018427387904):j4p (some (.a [.e (.int i)]))=some (.i (upto 0 i.toNat)):=if_pos h
theorem qj{is:List Nat}{c e:En→Option W}{z:Bool}{ds l:List D}(hf:j3g is ρ=true)(hl:ds.length≤1000000)(h:Qh (Qo is c e ρ) ds=some l)(hz:z=false∨zg l=true):j3p is (some (.i ds)) c e z ρ=some (.v (.o l)):=by simp only[j3p,hf,ji,vp hl,decide_true,and_self,if_true,h,Option.bind];rcases hz with z|z<;>simp[z]
theorem za{i:Nat}{c e:En→Option W}(hc:c (ρ.set i (.val d))=some (.a [])){d':D}(he:e (ρ.set i (.val d))=some (.v (.e d'))):Qo [i] c e ρ d=some (some d'):=by simp[Qo,zq,hc,he,Rk.st]
theorem j6s{i:Nat}{c e:En→Option W}{b:Bool}{d':D}(hc:c (ρ.set i (.val d))=some (.a [.e (.bl b)]))(he:b=true→e (ρ.set i (.val d))=some (.v (.e d'))):Qo [i] c e ρ d=some (if b=true then some d' else none):=by
 cases b with
 |true=>simp[Qo,zq,hc,he rfl,Rk.st,Rk.d]
 |false=>simp[Qo,zq,hc,Rk.d]
theorem ja7{i j:Nat}{c e:En→Option W}{a b:D}(hc:c ((ρ.set i (.val a)).set j (.val b))=some (.a [])){d':D}(he:e ((ρ.set i (.val a)).set j (.val b))=some (.v (.e d'))):Qo [i,j] c e ρ (.tup [a,b])=some (some d'):=by simp[Qo,zq,hc,he,Rk.st]
theorem j6r{i j:Nat}{c e:En→Option W}{a b:D}{k:Bool}{d':D}(hc:c ((ρ.set i (.val a)).set j (.val b))=some (.a [.e (.bl k)]))(he:k=true→e ((ρ.set i (.val a)).set j (.val b))=some (.v (.e d'))):Qo [i,j] c e ρ (.tup [a,b])=some (if k=true then some d' else none):=by
 cases k with
 |true=>simp[Qo,zq,hc,he rfl,Rk.st,Rk.d]
 |false=>simp[Qo,zq,hc,Rk.d]
theorem Us{α:Type}{xs:List α}{n:Nat}{x:α}(h:xs[n]?=some x):atI xs (n:Int)=some x:=jcj h
end
section
theorem jbr:D.isNon .non=true:=(rfl)
theorem jbt{i:Int}:D.isNon (.int i)=false:=(rfl)
theorem jbs{l:List D}:D.isNon (.lst l)=false:=(rfl)
end
section
noncomputable abbrev ju(r:List Int):D:=.tup (r.map .int)
noncomputable abbrev jz(rs:List (List Int)):List D:=rs.map ju
theorem jy{α:Type}{f:D→Option (Option D)}{h g:α→D}{L:List α}(q:∀x∈L,f (h x)=some (some (g x))):Qh f (L.map h)=some (L.map g):=by
 induction L with
 |nil=>rfl
 |cons x L ih=>rw[xr,Qh,q x (xq ..),ih fun y hy=>q y (kj _ hy)];rfl
theorem Ra{α:Type}{f:D→Option (Option D)}{h g:α→D}{p:α→Bool}{L:List α}(q:∀x∈L,f (h x)=some (if p x=true then some (g x)else none)):Qh f (L.map h)=some ((L.filter p).map g):=by
 induction L with
 |nil=>rfl
 |cons x L ih =>
  rw[xr,Qh,q x (xq ..),ih fun y hy=>q y (kj _ hy)];by_cases z:p x=true
  ·rw[if_pos z,List.filter_cons_of_pos z];rfl
  ·rw[if_neg z,List.filter_cons_of_neg z]
theorem take_snoc{α:Type}{l:List α}{i:Nat}{x:α}(h:l[i]?=some x):l.take (i+1)=l.take i++[x]:=by rw[List.take_add_one,h];rfl
theorem Bb{α β:Type}{f:α→β}{l:List α}{i:Nat}{y:β}(h:(l.map f)[i]?=some y):∃x,l[i]?=some x∧y=f x:=by
 rw[X7]at h;cases e:l[i]? with
 |none=>rw[e]at h;cases h
 |some x=>rw[e]at h;cases h;exact⟨x,rfl,rfl⟩
end
section
theorem La(p:List Int):D.depL (p.map D.int)=0:=by
 induction p with
 |nil=>rfl
 |cons t ts ih=>simp[D.depL,D.dep,ih]
end
end L2
end
section
open PySem (Str)
open L2
noncomputable def jhs:=(k84 (k84 (k84 (k84 (k84 (k84 (k84 @jam @Fw) (k84 @jaj (k84 @jan @j77))) (k84 (k84 @jak (k84 @j73 @jao)) (k84 @j76 (k84 @jaq @jap)))) (k84 (k84 (k84 @jal @Oo) (k84 @Cu (k84 @Cr @j74))) (k84 (k84 @jat (k84 @j2i @j0o)) (k84 @jfw (k84 @j75 @jau))))) (k84 (k84 (k84 (k84 @j8g @jc3) (k84 @j8f (k84 @j8m @jby))) (k84 (k84 @jip (k84 @jep @jca)) (k84 @j8o (k84 @jcf @Ou)))) (k84 (k84 (k84 @jfk (k84 @j1o @jb9)) (k84 @jd4 (k84 @jf9 @jdd))) (k84 (k84 @Yh (k84 @j4l @jdg)) (k84 @j72 (k84 @j47 @j6x)))))) (k84 (k84 (k84 (k84 (k84 @jbw @jgz) (k84 @Rp (k84 @Ih @jhn))) (k84 (k84 @jho (k84 @j4h @j4i)) (k84 @jdc (k84 @j4n @jdb)))) (k84 (k84 (k84 @jas (k84 @jar @jee)) (k84 @jed (k84 @jf8 @jbl))) (k84 (k84 @jgb (k84 @jf7 @j1z)) (k84 @j89 (k84 @jfh @jfa))))) (k84 (k84 (k84 (k84 @jc1 @jfn) (k84 @jff (k84 @jfl @jfj))) (k84 (k84 @jfo (k84 @jhv @jfd)) (k84 @jfi (k84 @jfe @jc4)))) (k84 (k84 (k84 @jfb (k84 @jfg @jhw)) (k84 @jhu (k84 @jc6 @jfm))) (k84 (k84 @jbz (k84 @jc5 @jfc)) (k84 @j8e (k84 @jco @jcp))))))) (k84 (k84 (k84 (k84 (k84 (k84 @W8 @jf2) (k84 @ji2 (k84 @jg9 @j93))) (k84 (k84 @j8y (k84 @j91 @j6i)) (k84 @j92 (k84 @j90 @j8z)))) (k84 (k84 (k84 @jg6 @jg7) (k84 @jg4 (k84 @jgy @jeb))) (k84 (k84 @jfy (k84 @d_e @d_o)) (k84 @jg0 (k84 @j5z @j60))))) (k84 (k84 (k84 (k84 @j61 @j62) (k84 @j63 (k84 @j64 @j65))) (k84 (k84 @j66 (k84 @j67 @j68)) (k84 @j5x (k84 @j5y @jf0)))) (k84 (k84 (k84 @jde (k84 @ja9 @jgd)) (k84 @jgc (k84 @jha @jhb))) (k84 (k84 @je9 (k84 @jgu @jex)) (k84 @jey (k84 @Wb @jcu)))))) (k84 (k84 (k84 (k84 (k84 @jct @jcs) (k84 @jel (k84 @jek @jej))) (k84 (k84 @jei (k84 @jeh @j1v)) (k84 @jew (k84 @jev @jhl)))) (k84 (k84 (k84 @j8w (k84 @j8v @jd3)) (k84 @j9l (k84 @j9m @jh0))) (k84 (k84 @jci (k84 @jch @jcg)) (k84 @j8s (k84 @jhf @jhe))))) (k84 (k84 (k84 (k84 @ja8 @jbm) (k84 @ji4 (k84 @jah @jag))) (k84 (k84 @jd5 (k84 @j7a @jc0)) (k84 @jc2 (k84 @jcz @jg1)))) (k84 (k84 (k84 @jhk (k84 @jgw @jg5)) (k84 @jhm (k84 @j9h @jgs))) (k84 (k84 @jcy (k84 @j8k @j8j)) (k84 @jbr (k84 @jbt @jbs))))))))
local macro_rules | `(tactic| walk_at "go")=>`(tactic| try simp (disch:=first | omega | assumption | (simp only [List.length_map,List.length_append,List.length_cons,List.length_nil,List.length_take,List.length_drop,List.length_reverse] <;> omega)) only [jhs,U0,beq_self_eq_true,frz,Jd,j87,List.getElem?_cons_zero,List.getElem?_cons_succ,List.set_cons_zero,List.set_cons_succ,List.map_cons,List.map_nil,List.cons_append,List.nil_append,List.replicate,List.length_map,List.length_append,List.length_cons,List.length_nil,Bool.not_true,Bool.not_false,bne_self_eq_false,Nat.reduceSub,Nat.reduceAdd,Int.reduceToNat,Int.reducePow])
local macro_rules | `(tactic| ext)=>`(tactic| walk_at "go")
namespace KL
noncomputable def Qv:Sx:=(.seq (.ret (.call "all_choices" (.cons (.comp [1] (.ite (.cmp .eq (.var 1) (.glob "NOT_TOLD")) (.glob "ANSWERS") (.tup (.cons (.var 1) .nil))) (.seq (.var 0)) .nil) .nil))) .nop)
noncomputable def fP_rows_in:Fi:=⟨1,2,Qv,false⟩
noncomputable def J0:Sx:=(.seq (.set 1 (.lst (.cons (.tup .nil) .nil))) (.seq (.loop [2] (.seq (.var 0)) (.seq (.set 3 (.lst .nil)) (.seq (.loop [4] (.seq (.var 1)) (.seq (.ext 3 (.comp [5] (.bin .add (.var 4) (.tup (.cons (.var 5) .nil))) (.seq (.var 2)) .nil)) .nop)) (.seq (.mov 1 3) .nop)))) (.seq (.retV 1) .nop)))
noncomputable def fP_all_choices:Fi:=⟨1,6,J0,false⟩
noncomputable def Yp:Sx:=(.seq (.ife (.cmp .lt (.var 1) (.blt .len (.cons (.var 0) .nil))) (.seq (.ret (.ix (.var 0) (.var 1))) .nop) .nop) (.seq (.set 2 (.bin .add (.lit (.int 70001)) (.bin .mul (.bin .mul (.lit (.int 911)) (.var 1)) (.var 1)))) (.seq (.ife (.cmp .gt (.blt .len (.cons (.var 0) .nil)) (.lit (.int 0))) (.seq (.set 2 (.bin .add (.var 2) (.bin .mul (.bin .mod (.ix (.var 0) (.lit (.int 0))) (.lit (.int 9973))) (.bin .add (.bin .mul (.lit (.int 3)) (.var 1)) (.lit (.int 1)))))) .nop) .nop) (.seq (.retV 2) .nop))))
noncomputable def fL_cell:Fi:=⟨2,3,Yp,false⟩
section
variable{G:Str→Option D}{T:Str→Option Fi}
noncomputable def qb(ns:List Int)(k:Nat):Int:=match ns[k]? with
 |some v=>v
 |none=>match ns with
  |[]=>70001+911*k*k
  |v::_=>70001+911*k*k+v%9973*(3*k+1)
theorem Uq {fu n:Nat} (hT:T "_law_cell" = some fL_cell) {ns:List Int} {k:Nat} (hk:k≤100):evP fu G T (n+1) "_law_cell" [.lst (ns.map .int),.int k]=.val (.int (qb ns k)):=by
 rw[jc (F:=fL_cell) hT rfl];simp only[fL_cell,Yp,enter];by_cases h:k<ns.length
 ·have e:atI (ns.map D.int) (k:Int)=some (.int ns[k]):=Us (by simp[h]);have q:qb ns k=ns[k]:=by simp[qb,h]
  ext;simp only[e,j1v,j4n,j1o,Ih,j1z,q]
 ·cases ns with
  |nil =>ext;simp[qb]
  |cons v r =>
   have e:atI (D.int v::r.map D.int) 0=some (.int v):=by simp[atI,ixN]
   have q:qb (v::r) k=70001+911*k*k+v%9973*(3*k+1):=by unfold qb;rw[Xz (by omega)]
   rw[xr];rw[X4]at h;ext;simp only[e];ext;rw[q]
theorem j6w(f:List Int):step [] f=[]:=rfl
theorem j4c(acc:List (List Int))(a f:List Int):step (acc++[a]) f=step acc f++f.map fun x=>a++[x]:=by simp[step]
theorem j09(fs:List (List Int))(f:List Int):qe (fs++[f])=step (qe fs) f:=by simp[qe]
theorem Kq(acc:List (List Int)){f:List Int}{k:Nat}(h:f.length≤k):(step acc f).length≤acc.length*k:=by
 unfold step;induction acc with
 |nil=>simp
 |cons a acc ih =>rw[List.flatMap_cons,X6,km,X4,Nat.succ_mul];omega
theorem j13{fs:List (List Int)}{k:Nat}(h:∀f∈fs,f.length≤k):(qe fs).length≤k^fs.length:=by
 have go:∀(fs acc:List (List Int)),(∀f∈fs,f.length≤k)→(fs.foldl step acc).length≤acc.length*k^fs.length:=by
  intro fs;induction fs with
  |nil=>intro acc _;simp
  |cons f fs ih =>intro acc hf;have h1:=ih (step acc f) fun g hg=>hf g (kj _ hg);have h2:=Kq acc (hf f (xq ..));rw[List.foldl_cons,X4,Nat.pow_succ,Nat.mul_comm (k^fs.length) k,←Nat.mul_assoc];exact Xm h1 (Nat.mul_le_mul_right _ h2)
 have:=go fs [[]] h;simpa [qe]using this
theorem j0a{fs:List (List Int)}{r:List Int}(h:r∈qe fs):r.length=fs.length:=by
 have go:∀(fs acc:List (List Int)) (k:Nat),(∀a∈acc,a.length=k)→∀r∈fs.foldl step acc,r.length=k+fs.length:=by
  intro fs;induction fs with
  |nil=>intro acc k ha r hr;exact ha r hr
  |cons f fs ih =>
   intro acc k ha r hr;have:=ih (step acc f) (k+1) (fun a hm=>by
    obtain⟨b,hb,hx⟩:=List.mem_flatMap.mp hm
    obtain⟨x,_,rfl⟩:=Xf.mp hx
    rw[X6,ha b hb];rfl) r hr
   rw[this,X4];omega
 have:=go fs [[]] 0 (fun a ha=>by rw[xu.mp ha];rfl) r h;omega
theorem U5 {fu n:Nat} (hT:T "all_choices" = some fP_all_choices) {fs:List (List Int)} (hf:∀f∈fs,f.length≤3) (hl:fs.length≤6):evP fu G T (n+1) "all_choices" [.lst (jz fs)]=.fresh (jz (qe fs)):=by
 rw[jc (F:=fP_all_choices) hT rfl];simp only[fP_all_choices,J0,enter];ext;have small:∀i,(qe (fs.take i)).length≤729:=fun i=>by
  have h:=j13 (fs:=fs.take i) (k:=3) fun f hm=>hf f (List.mem_of_mem_take hm);have h2:(fs.take i).length≤6:=by rw[Xq];omega
  exact Xm h (Nat.pow_le_pow_right (by decide) h2)
 refine Oj (fun i ρ=>∃s2 s4,ρ=[.val (.lst (jz fs)),.own (jz (qe (fs.take i))),s2,.un,s4,.un]) ⟨.un,.un,by simp[qe,jz,ju]⟩ ?_ ?_
 ·rintro i d ρ hi ⟨s2,s4,rfl⟩;obtain⟨f,hfi,rfl⟩:=Bb hi;have hf3:f.length≤3:=hf f (Xl hfi);have sm:=small i;simp only[Vj];ext;refine Ce (fun j ρ=>∃s4,ρ=[.val (.lst (jz fs)),.val (.lst (jz (qe (fs.take i)))),.val (ju f),.own (jz (step ((qe (fs.take i)).take j) f)),s4,.un]) ⟨s4,by simp[j6w]⟩ ?_ ?_
  ·rintro j d ρ hj ⟨s4,rfl⟩;obtain⟨a,haj,rfl⟩:=Bb hj;have hs:=Kq ((qe (fs.take i)).take j) hf3;have hs2:((qe (fs.take i)).take j).length≤729:=by rw[Xq];omega
   have ha:a.length≤6:=by have:=j0a (Xl haj);rw[Xq]at this;omega
   simp only[Vj];ext;rw[qj (l:=(f.map fun x=>ju (a++[x]))) (by rfl) ?_ ?_ (.inl rfl)]
   ·ext;refine⟨_,rfl,.val (ju a),?_⟩;rw[take_snoc haj,j4c];simp only[jz,Xj,Xe];rfl
   ·simp only[km];omega
   ·refine jy fun x _=>za (by ext) ?_;ext;simp
  ·rintro ρ' ⟨s4,rfl⟩;ext;refine⟨_,rfl,.val (ju f),s4,?_⟩;rw[take_snoc hfi,j09,List.take_length]
 ·rintro ρ' ⟨s2,s4,rfl⟩;ext;rw[List.take_length]
theorem j8a(t:Int):(Zq t).length≤3:=by unfold Zq;split<;>simp
theorem O3 {fu n:Nat} (hT:T "rows_in" = some fP_rows_in) (hC:T "all_choices" = some fP_all_choices) (gNT:G "NOT_TOLD" = some (.int 2)) (gAN:G "ANSWERS" = some (.tup [.int 0,.int 1])) {p:List Int} (hp:p.length≤6):evP fu G T (n+2) "rows_in" [ju p]=.fresh (jz (qe (p.map Zq))):=by
 rw[jc (F:=fP_rows_in) hT rfl];simp only[fP_rows_in,Qv,enter];ext;rw[qj (l:=jz (p.map Zq)) (by rfl) ?_ ?_ (.inl rfl)]
 ·ext;rw[U5 hC (fun f hf=>by obtain⟨t,_,rfl⟩:=Xf.mp hf;exact j8a t) (by rw[km];exact hp)];ext
 ·rw[km];omega
 ·rw[jz,Xe];refine jy fun t _=>za (by ext) ?_;by_cases h:t=2
  ·ext;simp only[gNT];ext;simp only[gAN];ext;simp[Zq,h]
  ·ext;simp only[gNT];ext;simp[Zq,h]
theorem Jz(n:Nat):upto 0 n=(List.range n).map fun(k:Nat)=>D.int (0+(k:Int)):=rfl
theorem Ip{m:Nat}(h:m≤6):(1:Int)≤2^m∧(2:Int)^m≤64:=by
 have:m=0∨m=1∨m=2∨m=3∨m=4∨m=5∨m=6:=by omega
 rcases this with e|e|e|e|e|e|e<;>subst e<;>decide
theorem j1y{p:List Int}{k:Nat}(h:k<p.length):atI (p.map D.int) (0+(k:Int))=some (.int (p.getD k 0)):=by rw[Int.zero_add];refine Us ?_;rw[X7,kh h,xf,kh h];rfl
end
end KL
namespace KV
open PySem
noncomputable def letters:List Nat:=[109,100,107,98,118,113,104,122,99,103,114,110,97,112,120,111,108,115,105,101,102,119,116,121,106,117]
theorem jbk:("mdkbvqhzcgrnapxolsiefwtyju":Str).cps.toList=letters:=by decide +kernel
noncomputable def lt(n:Int):Nat:=letters.getD n.toNat 0
noncomputable def sL(l:List Nat):Str:=⟨l.toArray⟩
theorem Jx{l:List Nat}:(sL l).length=l.length:=by simp[sL,Str.length]
theorem Rr{l m:List Nat}:sL l++sL m=sL (l++m):=by show(⟨l.toArray++m.toArray⟩:Str)=_;simp[sL]
theorem Nf:∀l:List Nat,Txt.join ("":Str) (l.map fun c=>(⟨#[c]⟩:Str))=sL l:=by
 intro l;show Builtin.Str.glued _ _=_;rw[StrLaws.glued_eq_join];induction l with
 |nil=>rfl
 |cons a r ih =>
  cases r with
  |nil=>rfl
  |cons b r =>
   rw[xr,xr,Str.join,←xr (f:=fun c=>(⟨#[c]⟩:Str)),ih]
   ·show(⟨(#[a] ++ #[])++(b::r).toArray⟩:Str)=⟨(a::b::r).toArray⟩
    simp
   ·intro z;cases z
theorem jd7{l:List Nat}:(sL l).cps.toList=l:=by simp[sL]
theorem Ni{k n:Nat}:Builtin.Str.strSliceIndices none (some (k:Int)) 1 n=Builtin.Str.strSliceIndices (some ((0:Nat):Int)) (some (k:Int)) 1 n:=by
 have e:max (0:Int) (min 0 (n:Int))=0:=by omega
 simp[Builtin.Str.strSliceIndices,e]
theorem Nj{k n:Nat}:Builtin.Str.strSliceIndices (some (k:Int)) none 1 n=Builtin.Str.strSliceIndices (some (k:Int)) (some (n:Int)) 1 n:=by
 have e:max (0:Int) (min (n:Int) (n:Int))=n:=by omega
 have e2:¬((n:Int)<0):=by omega
 simp[Builtin.Str.strSliceIndices,e,e2]
theorem Ky{l:List Nat}{a b:Nat}{lo hi:Option Int}(he:Builtin.Str.strSliceIndices lo hi 1 (sL l).length=Builtin.Str.strSliceIndices (some (a:Int)) (some (b:Int)) 1 (sL l).length)(hab:a≤b)(hb:b≤l.length):Txt.slice (sL l) lo hi=sL ((l.drop a).take (b-a)):=by
 have hb':b≤(sL l).length:=by rw[Jx];exact hb
 have q:=StrLaws.sliced_plain (sL l) hab hb';rw[jd7]at q;have e1:=StrLaws.strSliceIndices_plain hab hb';unfold Txt.slice;rw[he];by_cases h:((1:Int)==1&&(Builtin.Str.strSliceIndices (some (a:Int)) (some (b:Int)) 1 (sL l).length).length==(sL l).length)=true
 ·rw[if_pos h];rw[e1,Jx,km,ph]at h;have:b-a=l.length:=by simpa using h
  have ha:a=0:=by omega
  subst ha;rw[this,List.drop_zero,List.take_length]
 ·rw[if_neg h,q];rfl
theorem Bv{l:List Nat}{k:Nat}(h:k≤l.length):Txt.slice (sL l) none (some (k:Int))=sL (l.take k):=by rw[Ky (a:=0) (b:=k) Ni (Nat.zero_le _) h];simp
theorem Bw{l:List Nat}{k:Nat}(h:k≤l.length):Txt.slice (sL l) (some (k:Int)) none=sL (l.drop k):=by rw[Ky (a:=k) (b:=l.length) (by rw[Nj,Jx]) h (xx _),T3 (by rw[Tf];omega)]
theorem Rz {l:List Nat} (h:l.length≤100):JoinOk ("":Str) (l.map fun c=>(⟨#[c]⟩:Str))=true:=by
 unfold JoinOk;rw[Bool.not_eq_true'];have e:∀(r:List Nat)(k:Nat),(r.map fun c=>(⟨#[c]⟩:Str)).foldl (fun(x:Nat) (y:Str)=>x+y.length+("":Str).length) k=k+r.length:=by
  intro r;induction r with
  |nil=>intro k;rfl
  |cons a r ih =>intro k;rw[xr,List.foldl_cons,ih,X4];show k+1+0+r.length=_;omega
 show Builtin.Str.tooLong _=false;have:=e l 0;rw[List.foldl_toArray];show Builtin.Str.tooLong (List.foldl (fun(x:Nat) (y:Str)=>x+y.length+("":Str).length) 0 _)=false;rw[this];unfold Builtin.Str.tooLong;simp;have:=sizeLine_eq;omega
noncomputable def Yg(c:Int):List Nat:=(List.range 8).map fun(k:Nat)=>lt (c/(4+5*(k:Int))%26)
noncomputable def Vl(c:Int)(s:Nat):List Nat:=(List.range s).map fun(k:Nat)=>lt ((c/32+3*(k:Int)*(k:Int)+(k:Int))%26)
theorem Zo(c:Int):(Yg c).length=8:=by simp[Yg]
theorem J2(c:Int)(s:Nat):(Vl c s).length=s:=by simp[Vl]
noncomputable def stN(c:Int)(m:Nat):Nat:=(c/8%(9-(m:Int))).toNat
noncomputable def szN(c:Int):Nat:=(c/4%8).toNat
noncomputable def atN(c:Int):Nat:=(c/512%((szN c:Int)+1)).toNat
noncomputable def wrd(c:Int)(m k:Nat):List Nat :=
 if c%4<2 then(if c%4=0 then(Yg c).take (stN c m+k+1) else(Yg c).drop (8-stN c m-k-1))
 else(Vl c (szN c)).take (atN c)++lt ((c/9+7*(k:Int))%26)::(Vl c (szN c)).drop (atN c)
noncomputable def Jk(c:Int)(m:Nat):List Str:=(List.range m).map fun(k:Nat)=>sL (wrd c m k)
theorem jgt{c:Int}{m:Nat}(h:m≤6):stN c m+m≤8:=by unfold stN;have h1:=Pq (c/8) (show(9-(m:Int))≠0 by omega);have h2:=Int.emod_lt_of_pos (c/8) (show(0:Int)<9-(m:Int)by omega);omega
theorem ji3(c:Int):atN c≤szN c∧szN c≤7:=by unfold atN;have h1:=Pq (c/512) (show((szN c:Int)+1)≠0 by omega);have h2:=Int.emod_lt_of_pos (c/512) (show(0:Int)<(szN c:Int)+1 by omega);refine⟨by omega,?_⟩;unfold szN;omega
theorem R9(c:Int)(m:Nat):(Jk c m).length=m:=by simp[Jk]
end KV
open PySem (Str)
open L2
namespace KW
open KL KV PySem
noncomputable def Vk:Sx:=(.seq (.set 2 (.lit (.str "mdkbvqhzcgrnapxolsiefwtyju"))) (.seq (.ife (.cmp .lt (.bin .mod (.var 0) (.lit (.int 4))) (.lit (.int 2))) (.seq (.set 3 (.join "" (.comp [4] (.ix (.var 2) (.bin .mod (.bin .fdiv (.var 0) (.bin .add (.lit (.int 4)) (.bin .mul (.lit (.int 5)) (.var 4)))) (.lit (.int 26)))) (.range (.cons (.lit (.int 8)) .nil)) .nil))) (.seq (.set 5 (.bin .mod (.bin .fdiv (.var 0) (.lit (.int 8))) (.bin .sub (.lit (.int 9)) (.var 1)))) (.seq (.ife (.cmp .eq (.bin .mod (.var 0) (.lit (.int 4))) (.lit (.int 0))) (.seq (.ret (.comp [4] (.sl (.var 3) .nil (.cons (.bin .add (.bin .add (.var 5) (.var 4)) (.lit (.int 1))) .nil)) (.range (.cons (.var 1) .nil)) .nil)) .nop) .nop) (.seq (.ret (.comp [4] (.sl (.var 3) (.cons (.bin .sub (.bin .sub (.bin .sub (.lit (.int 8)) (.var 5)) (.var 4)) (.lit (.int 1))) .nil) .nil) (.range (.cons (.var 1) .nil)) .nil)) .nop)))) .nop) (.seq (.set 6 (.bin .mod (.bin .fdiv (.var 0) (.lit (.int 4))) (.lit (.int 8)))) (.seq (.set 7 (.join "" (.comp [4] (.ix (.var 2) (.bin .mod (.bin .add (.bin .add (.bin .fdiv (.var 0) (.lit (.int 32))) (.bin .mul (.bin .mul (.lit (.int 3)) (.var 4)) (.var 4))) (.var 4)) (.lit (.int 26)))) (.range (.cons (.var 6) .nil)) .nil))) (.seq (.set 8 (.bin .mod (.bin .fdiv (.var 0) (.lit (.int 512))) (.bin .add (.var 6) (.lit (.int 1))))) (.seq (.ret (.comp [4] (.bin .add (.bin .add (.sl (.var 7) .nil (.cons (.var 8) .nil)) (.ix (.var 2) (.bin .mod (.bin .add (.bin .fdiv (.var 0) (.lit (.int 9))) (.bin .mul (.lit (.int 7)) (.var 4))) (.lit (.int 26))))) (.sl (.var 7) (.cons (.var 8) .nil) .nil)) (.range (.cons (.var 1) .nil)) .nil)) .nop))))))
noncomputable def fL_words:Fi:=⟨2,9,Vk,false⟩
noncomputable def Wd:Sx:=(.seq (.set 3 (.comp [4] (.var 4) (.range (.cons (.blt .len (.cons (.var 0) .nil)) .nil)) (.cons (.cmp .eq (.bin .mod (.bin .fdiv (.var 2) (.bin .shl (.lit (.int 1)) (.var 4))) (.lit (.int 2))) (.lit (.int 1))) .nil))) (.seq (.set 5 (.blt .sum (.cons (.comp [4] (.bin .shl (.ix (.var 0) (.var 4)) (.var 4)) (.seq (.var 3)) .nil) .nil))) (.seq (.set 6 (.blt .sum (.cons (.comp [4,7] (.bin .shl (.var 7) (.var 4)) (.enum (.var 0)) .nil) .nil))) (.seq (.ife (.cmp .eq (.var 1) (.lit (.int 1))) (.seq (.ret (.blt .int (.cons (.cmp .gt (.blt .sum (.cons (.var 0) .nil)) (.bin .mod (.bin .fdiv (.var 2) (.lit (.int 64))) (.blt .len (.cons (.var 0) .nil)))) .nil))) .nop) .nop) (.seq (.ife (.cmp .eq (.var 1) (.lit (.int 2))) (.seq (.set 8 (.bin .mod (.bin .mul (.bin .add (.var 6) (.lit (.int 1))) (.bin .add (.lit (.int 1)) (.bin .mod (.var 2) (.lit (.int 1000003))))) (.lit (.int 2147483629)))) (.seq (.ret (.blt .int (.cons (.cmp .eq (.bin .mod (.bin .fdiv (.var 8) (.lit (.int 32))) (.lit (.int 5))) (.lit (.int 0))) .nil))) .nop)) .nop) (.seq (.ife (.cmp .eq (.var 1) (.lit (.int 3))) (.seq (.set 8 (.bin .mul (.bin .add (.bin .add (.bin .mul (.var 5) (.var 5)) (.bin .mul (.lit (.int 17)) (.var 5))) (.lit (.int 69621))) (.bin .add (.lit (.int 1)) (.bin .mod (.var 2) (.lit (.int 1000003)))))) (.seq (.ret (.bin .mod (.bin .fdiv (.bin .mod (.var 8) (.lit (.int 2147483647))) (.lit (.int 16))) (.lit (.int 2)))) .nop)) .nop) (.seq (.ife (.cmp .eq (.var 1) (.lit (.int 4))) (.seq (.ret (.bin .mod (.bin .add (.blt .sum (.cons (.comp [4] (.ix (.var 0) (.var 4)) (.seq (.var 3)) .nil) .nil)) (.bin .fdiv (.var 2) (.lit (.int 64)))) (.lit (.int 2)))) .nop) .nop) (.seq (.set 8 (.bin .mul (.bin .add (.bin .mul (.var 6) (.var 6)) (.lit (.int 48271))) (.bin .add (.bin .add (.bin .mod (.var 2) (.lit (.int 1000003))) (.var 6)) (.lit (.int 1))))) (.seq (.ret (.bin .mod (.bin .fdiv (.bin .mod (.var 8) (.lit (.int 2147483647))) (.lit (.int 64))) (.lit (.int 2)))) .nop)))))))))
noncomputable def fL_bit:Fi:=⟨3,9,Wd,false⟩
noncomputable def Qf:Sx:=(.seq (.set 3 (.bin .add (.lit (.int 1)) (.bin .mod (.call "_law_cell" (.cons (.var 0) (.cons (.var 1) .nil))) (.var 2)))) (.seq (.set 4 (.call "_law_words" (.cons (.call "_law_cell" (.cons (.var 0) (.cons (.bin .add (.var 1) (.lit (.int 1))) .nil))) (.cons (.var 3) .nil)))) (.seq (.set 5 (.bin .mod (.bin .fdiv (.call "_law_cell" (.cons (.var 0) (.cons (.var 1) .nil))) (.var 2)) (.lit (.int 5)))) (.seq (.set 6 (.lst .nil)) (.seq (.loop [7] (.range (.cons (.bin .shl (.lit (.int 1)) (.var 3)) .nil)) (.seq (.set 8 (.comp [9] (.bin .mod (.bin .fdiv (.var 7) (.bin .shl (.lit (.int 1)) (.bin .sub (.bin .sub (.var 3) (.var 9)) (.lit (.int 1))))) (.lit (.int 2))) (.range (.cons (.var 3) .nil)) .nil)) (.seq (.app 6 (.call "_law_bit" (.cons (.var 8) (.cons (.var 5) (.cons (.call "_law_cell" (.cons (.var 0) (.cons (.bin .add (.var 1) (.lit (.int 2))) .nil))) .nil))))) .nop))) (.seq (.ret (.tup (.cons (.blt .tuple (.cons (.var 4) .nil)) (.cons (.blt .tuple (.cons (.var 6) .nil)) .nil)))) .nop))))))
noncomputable def fL_question:Fi:=⟨3,10,Qf,false⟩
section
variable{G:Str→Option D}{T:Str→Option Fi}
theorem j36 {n:Int} (h:0≤n∧n<26):atI ("mdkbvqhzcgrnapxolsiefwtyju":Str).cps.toList n=some (lt n):=by
 obtain⟨k,rfl⟩:∃k:Nat,n=(k:Int):=⟨n.toNat,by omega⟩
 have hk:k<letters.length:=by show k<26;omega
 rw[jbk];refine Us ?_;unfold lt;rw[kh hk,Xc,xf,kh hk];rfl
theorem jhh:("mdkbvqhzcgrnapxolsiefwtyju":Str).length≤1000000:=by decide +kernel
theorem j2g {fu n m:Nat} (hT:T "_law_words" = some fL_words) {c:Int} (hm:1≤m∧m≤6):evP fu G T (n+1) "_law_words" [.int c,.int m]=.fresh ((Jk c m).map D.str):=by
 rw[jc (F:=fL_words) hT rfl];simp only[fL_words,Vk,enter];have ll:=jhh;by_cases h:c%4<2
 ·ext;rw[qj (l:=((Yg c).map fun x=>(⟨#[x]⟩:Str)).map D.str) (by rfl) (by rw[v5];decide) ?_ (.inl rfl)];rotate_left
  ·rw[Jz,Yg,Xe,Xe];refine jy fun k hk'=>za (by ext) ?_;have hk:=Xg.mp hk';ext;rw[j36 (by omega)];ext;simp
  rw[j1t (Rz (by rw[Zo];decide)),Nf];have st:=jgt (c:=c) hm.2;obtain⟨s,hs⟩:∃s:Nat,s=stN c m:=⟨_,rfl⟩
  have es:c/8%(9-(m:Int))=(s:Int):=by rw[hs];unfold stN;have:=Pq (c/8) (show(9-(m:Int))≠0 by omega);omega
  have lg:(sL (Yg c)).length=8:=by rw[Jx,Zo]
  by_cases h0:c%4=0
  ·ext;rw[es,qj (l:=(Jk c m).map D.str) (by rfl) (by rw[v5];omega) ?_ (.inl rfl)]
   ·ext
   ·rw[Xc,Jz,Jk,Xe];refine jy fun k hk'=>za (by ext) ?_;have hk:=Xg.mp hk';ext;have e:(s:Int)+(0+(k:Int))+1=((s+k+1:Nat):Int):=by omega
    have hh:wrd c m k=(Yg c).take (stN c m+k+1):=by unfold wrd;rw[if_pos h,if_pos h0]
    rw[e,Bv (by rw[Zo];omega)];simp only[Function.comp,hh,hs]
  ·ext;rw[es,qj (l:=(Jk c m).map D.str) (by rfl) (by rw[v5];omega) ?_ (.inl rfl)]
   ·ext
   ·rw[Xc,Jz,Jk,Xe];refine jy fun k hk'=>za (by ext) ?_;have hk:=Xg.mp hk';ext;have e:8-(s:Int)-(0+(k:Int))-1=((8-s-k-1:Nat):Int):=by omega
    have hh:wrd c m k=(Yg c).drop (8-stN c m-k-1):=by unfold wrd;rw[if_pos h,if_neg h0]
    rw[e,Bw (by rw[Zo];omega)];simp only[Function.comp,hh,hs]
 ·have a:=ji3 c;obtain⟨s,hs⟩:∃s:Nat,s=szN c:=⟨_,rfl⟩
  have es:c/4%8=(s:Int):=by rw[hs];unfold szN;omega
  obtain⟨q,hq⟩:∃q:Nat,q=atN c:=⟨_,rfl⟩
  have eq:c/512%((s:Int)+1)=(q:Int):=by rw[hq];unfold atN;have:=Pq (c/512) (show((s:Int)+1)≠0 by omega);rw[←hs];omega
  ext;rw[es,qj (l:=((Vl c s).map fun x=>(⟨#[x]⟩:Str)).map D.str) (by rfl) (by rw[v5];omega) ?_ (.inl rfl)];rotate_left
  ·rw[Xc,Jz,Vl,Xe,Xe];refine jy fun k hk'=>za (by ext) ?_;have hk:=Xg.mp hk';ext;rw[j36 (by omega)];ext;simp
  rw[j1t (Rz (by rw[J2];omega)),Nf];have lg:(sL (Vl c s)).length=s:=by rw[Jx,J2]
  ext;rw[eq,qj (l:=(Jk c m).map D.str) (by rfl) (by rw[v5];omega) ?_ (.inl rfl)]
  ·ext
  ·rw[Xc,Jz,Jk,Xe];refine jy fun k hk'=>za (by ext) ?_;have hk:=Xg.mp hk';ext;rw[j36 (by omega)];ext;rw[Bv (by rw[J2];omega),Bw (by rw[J2];omega)];have e1:(⟨#[lt ((c/9+7*(0+(k:Int)))%26)]⟩:Str)=sL [lt ((c/9+7*(0+(k:Int)))%26)]:=rfl;have l1:(sL ((Vl c s).take q)).length=q:=by rw[Jx,Xq,J2];omega
   have l2:(sL ((Vl c s).drop q)).length=s-q:=by rw[Jx,Tf,J2]
   have l3:(sL [lt ((c/9+7*(0+(k:Int)))%26)]).length=1:=rfl;have l4:(sL ((Vl c s).take q)++sL [lt ((c/9+7*(0+(k:Int)))%26)]).length=q+1:=by rw[Rr,Jx,X6,Xq,J2,X4,Pn];omega
   rw[e1];ext;rw[Rr,Rr];simp only[Function.comp,wrd,h,if_false,←hs,←hq,Tq,List.singleton_append,Int.zero_add]
theorem Ko:∀{l:List Int},(∀x∈l,0≤x∧x≤32)→0≤l.sum∧l.sum≤32*(l.length:Int)
 |[],_=>by simp
 |a::r,h=>by have h1:=h a (xq ..);have h2:=Ko (l:=r) fun x hx=>h x (kj _ hx);rw[List.sum_cons,X4];omega
theorem p2k{k:Nat}(h:k≤5):0<(2:Int)^k∧(2:Int)^k≤32:=by
 have:k=0∨k=1∨k=2∨k=3∨k=4∨k=5:=by omega
 rcases this with e|e|e|e|e|e<;>subst e<;>decide
noncomputable def Yb(row:List Int)(c:Int):List Nat:=(List.range row.length).filter fun(k:Nat)=>decide (c/(1*2^(0+(k:Int)).toNat)%2=1)
noncomputable def Uk(row:List Int)(c:Int):List Int:=(Yb row c).map fun(k:Nat)=>row.getD k 0*2^(0+(k:Int)).toNat
noncomputable def byL(row:List Int):List Int:=row.zipIdx.map fun p=>p.1*2^((p.2:Nat):Int).toNat
theorem t0k(k:Nat):(0+(k:Int)).toNat=k:=by omega
theorem j3s{row:List Int}(h01:∀x∈row,x=0∨x=1)(k:Nat):row.getD k 0=0∨row.getD k 0=1:=by
 rw[xf];cases h:row[k]? with
 |none=>exact .inl rfl
 |some v=>exact h01 v (Xl h)
theorem jbo{row:List Int}{c:Int}(h01:∀x∈row,x=0∨x=1)(hl:row.length≤6):0≤(Uk row c).sum∧(Uk row c).sum≤192:=by
 have h:=Ko (l:=Uk row c) fun x hx=>by obtain⟨k,hk,rfl⟩:=Xf.mp hx;have hk2:=Xg.mp (Xx.mp hk).1;have p:=p2k (k:=k) (by omega);rw[t0k];rcases j3s h01 k with e|e<;>rw[e]<;>omega
 have l:(Uk row c).length≤6:=by unfold Uk Yb;rw[km];exact Xm (List.length_filter_le _ _) (by rw[ph];exact hl)
 omega
theorem ji0{row:List Int}(h01:∀x∈row,x=0∨x=1)(hl:row.length≤6):0≤(byL row).sum∧(byL row).sum≤192:=by
 have h:=Ko (l:=byL row) fun x hx=>by obtain⟨p,hp,rfl⟩:=Xf.mp hx;obtain⟨a,k⟩:=p;have hm:=List.mem_zipIdx hp;have p:=p2k (k:=k) (by omega);show 0≤a*2^((k:Nat):Int).toNat∧a*2^((k:Nat):Int).toNat≤32;rw[Xc];have:=h01 a (by rw[hm.2.2];exact Ph _);rcases this with e|e<;>rw[e]<;>omega
 have l:(byL row).length≤6:=by unfold byL;rw[km,List.length_zipIdx];exact hl
 omega
theorem jg8 {fu n:Nat} (hT:T "_law_bit" = some fL_bit) {row:List Int} {kd c:Int} (h01:∀x∈row,x=0∨x=1) (hl:1≤row.length∧row.length≤6):∃b:Int,(b=0∨b=1)∧evP fu G T (n+1) "_law_bit" [.lst (row.map D.int),.int kd,.int c]=.val (.int b):=by
 rw[jc (F:=fL_bit) hT rfl];simp only[fL_bit,Wd,enter];have kb:=jbo (c:=c) h01 hl.2;have bb:=ji0 h01 hl.2;have sl:(Yb row c).length≤6:=by unfold Yb;exact Xm (List.length_filter_le _ _) (by rw[ph];exact hl.2)
 have get:∀k:Nat,k∈Yb row c→atI (row.map D.int) (0+(k:Int))=some (.int (row.getD k 0)):=fun k hk=>j1y (Xg.mp (Xx.mp hk).1);ext;rw[qj (l:=(Yb row c).map fun(k:Nat)=>D.int (0+(k:Int))) (by rfl) (by rw[v5];omega) ?_ (.inl rfl)];rotate_left
 ·rw[Xc,Jz,Yb];refine Ra fun k hk'=>?_;have hk:=Xg.mp hk';have p:0<(2:Int)^(0+(k:Int)).toNat∧(2:Int)^(0+(k:Int)).toNat≤32:=by rw[t0k];exact p2k (by omega)
  refine j6s ?_ fun _=>?_
  ·ext;simp only[Do];ext
  ·ext
 ext;rw[qj (l:=(Uk row c).map D.int) (by rfl) (by rw[km];omega) ?_ (.inr (vm _))];rotate_left
 ·rw[Uk,Xe];refine jy fun k hk'=>za (by ext) ?_;have b:=j3s h01 k;have hk:=Xg.mp (Xx.mp hk').1;ext;rw[get k hk'];ext;rfl
 ext;rw[qj (l:=(byL row).map D.int) (by rfl) (by simp only[Jf,km,List.length_zipIdx];omega) ?_ (.inl rfl)];rotate_left
 ·rw[byL,Xe,Jf,List.zipIdx_map,Xe];refine jy fun q hq=>?_;obtain⟨a,k⟩:=q;have hm:=List.mem_zipIdx hq;have h1:=h01 a (by rw[hm.2.2];exact Ph _);show Qo _ _ _ _ (D.tup [.int (k:Int),.int a])=_;refine ja7 (by ext) ?_;ext;rfl
 ext;generalize (Uk row c).sum=kept at *;generalize (byL row).sum=byr at *;by_cases k1:kd=1
 ·refine⟨if decide (c/64%(row.length:Int)<row.sum)=true then 1 else 0,by split<;>simp,?_⟩;ext;simp only[jcc];ext
 ·by_cases k2:kd=2
  ·refine⟨if decide ((byr+1)*(1+c%1000003)%2147483629/32%5=0)=true then 1 else 0,by split<;>simp,?_⟩;ext;simp only[Do];ext
  ·by_cases k3:kd=3
   ·refine⟨(kept*kept+17*kept+69621)*(1+c%1000003)%2147483647/16%2,by omega,?_⟩;ext
   ·by_cases k4:kd=4
    ·refine⟨(((Yb row c).map fun(k:Nat)=>row.getD k 0).sum+c/64)%2,by omega,?_⟩;ext;rw[qj (l:=((Yb row c).map fun(k:Nat)=>row.getD k 0).map D.int) (by rfl) (by rw[km];omega) ?_ (.inr (vm _))]
     ·ext
     ·rw[Xe];refine jy fun k hk'=>za (by ext) ?_;ext;rw[get k hk'];ext;rfl
    ·refine⟨(byr*byr+48271)*(c%1000003+byr+1)%2147483647/64%2,by omega,?_⟩;ext
noncomputable def Dr(fu:Nat)(G:Str→Option D)(T:Str→Option Fi)(n:Nat)(row:List Int)(kd c:Int):Int:=match evP fu G T (n+1) "_law_bit" [.lst (row.map D.int),.int kd,.int c] with
 |.val (.int b)=>b
 |_=>0
theorem j0g {fu n:Nat} (hT:T "_law_bit" = some fL_bit) {row:List Int} {kd c:Int} (h01:∀x∈row,x=0∨x=1) (hl:1≤row.length∧row.length≤6):(Dr fu G T n row kd c=0∨Dr fu G T n row kd c=1)∧evP fu G T (n+1) "_law_bit" [.lst (row.map D.int),.int kd,.int c]=.val (.int (Dr fu G T n row kd c)):=by obtain⟨b,hb,e⟩:=jg8 (fu:=fu) (n:=n) (G:=G) hT h01 hl (kd:=kd) (c:=c);unfold Dr;rw[e];exact⟨hb,rfl⟩
theorem ja2(m:Nat)(z:Int):∀x∈jn 2 m z,x=0∨x=1:=by
 intro x hx;obtain⟨i,hi⟩:=List.mem_iff_getElem?.mp hx;have hl:i<m:=by have:=(Xa.mp hi).1;rw[v9]at this;exact this
 rw[Vi 2 hl]at hi;cases hi;omega
noncomputable def Yd(ns:List Int)(a most:Nat):Nat:=(1+qb ns a%(most:Int)).toNat
noncomputable def U8(fu:Nat)(G:Str→Option D)(T:Str→Option Fi)(n:Nat)(ns:List Int)(a most:Nat):List Int :=
 (List.range (2^Yd ns a most)).map fun(k:Nat)=>Dr fu G T n (jn 2 (Yd ns a most) (k:Int)) (qb ns a/(most:Int)%5) (qb ns (a+2))
theorem Dg{ns:List Int}{a most:Nat}(h:1≤most∧most≤6):1≤Yd ns a most∧Yd ns a most≤most:=by unfold Yd;have h1:=Pq (qb ns a) (show(most:Int)≠0 by omega);have h2:=Int.emod_lt_of_pos (qb ns a) (show(0:Int)<most by omega);omega
theorem jck {fu n:Nat} (hB:T "_law_bit" = some fL_bit) {ns:List Int} {a most:Nat} (hm:1≤most∧most≤6):∀x∈U8 fu G T n ns a most,x=0∨x=1:=by intro x hx;obtain⟨k,_,rfl⟩:=Xf.mp hx;have mb:=Dg (ns:=ns) (a:=a) hm;exact(j0g hB (ja2 _ _) (by rw[v9];omega)).1
theorem Lx {fu n:Nat} (hC:T "_law_cell" = some fL_cell) (hW:T "_law_words" = some fL_words) (hB:T "_law_bit" = some fL_bit) (hT:T "_law_question" = some fL_question) {ns:List Int} {a most:Nat} (ha:a≤50) (hm:1≤most∧most≤6) :
  evP fu G T (n+2) "_law_question" [.lst (ns.map D.int),.int a,.int most]=.val (.tup [.tup ((Jk (qb ns (a+1)) (Yd ns a most)).map D.str),.tup ((U8 fu G T n ns a most).map D.int)]):=by
 rw[jc (F:=fL_question) hT rfl];simp only[fL_question,Qf,enter];have mb:=Dg (ns:=ns) (a:=a) hm;obtain⟨m,em⟩:∃m:Nat,m=Yd ns a most:=⟨_,rfl⟩
 have em2:1+qb ns a%(most:Int)=(m:Int):=by rw[em];unfold Yd;have h1:=Pq (qb ns a) (show(most:Int)≠0 by omega);omega
 rw[←em]at mb;have p2:=Ip (m:=m) (by omega);have pc:((2^m:Nat):Int)=(2:Int)^m:=by simp
 have e3:(1*2^m:Int).toNat=2^m:=by rw[Int.one_mul,←pc];exact Xc _
 have c0:evP fu G T (n+1) "_law_cell" [.lst (ns.map D.int),.int a]=.val (.int (qb ns a)):=Uq hC (by omega);have c1:evP fu G T (n+1) "_law_cell" [.lst (ns.map D.int),.int ((a:Int)+1)]=.val (.int (qb ns (a+1))):=Uq hC (k:=a+1) (by omega);have c2:evP fu G T (n+1) "_law_cell" [.lst (ns.map D.int),.int ((a:Int)+2)]=.val (.int (qb ns (a+2))):=Uq hC (k:=a+2) (by omega);have wl:(Jk (qb ns (a+1)) m).length=m:=R9 _ _;ext;rw[c0];ext;rw[em2,c1];ext;rw[j2g hW (by omega)];ext;rw[c0];ext;rw[Xc];ext;rw[e3];rw[j7q (fun i=>[.val (.lst (ns.map D.int)),.val (.int a),.val (.int most),.val (.int m),.own ((Jk (qb ns (a+1)) m).map D.str),.val (.int (qb ns a/(most:Int)%5)),.own (((U8 fu G T n ns a most).take i).map D.int),if i=0 then .un else .val (.int ((i:Int)-1)),if i=0 then .un else .own ((jn 2 m ((i:Int)-1)).map D.int),.un]) (by simp)]
 ·ext;rw[v5,T3 (by simp[U8,←em]),←em]
 ·intro i d hi;obtain⟨h1,rfl⟩:=Kd hi;have hz:=ja2 m (0+(i:Int));have hlz:=v9 2 m (0+(i:Int));obtain⟨hb,eb⟩:=j0g (fu:=fu) (n:=n) (G:=G) hB hz (by omega) (kd:=qb ns a/(most:Int)%5) (c:=qb ns (a+2));have lt64:2^m≤64:=by omega
  have al:(U8 fu G T n ns a most).length=2^m:=by simp[U8,←em]
  have ag:(U8 fu G T n ns a most)[i]?=some (Dr fu G T n (jn 2 m (0+(i:Int))) (qb ns a/(most:Int)%5) (qb ns (a+2))):=by unfold U8;rw[←em,X7,List.getElem?_range h1,Int.zero_add];rfl
  simp only[Vj];ext;rw[qj (l:=(jn 2 m (0+(i:Int))).map D.int) (by rfl) (by rw[v5];omega) ?_ (.inl rfl)];rotate_left
  ·have ed:jn 2 m (0+(i:Int))=(List.range m).map fun(k:Nat)=>(0+(i:Int))/2^(m-k-1)%2:=by
    refine List.ext_getElem? fun k=>?_;by_cases hk:k<m
    ·rw[Vi 2 hk,X7,List.getElem?_range hk];rfl
    ·rw[Xz (by rw[v9];omega),Xz (by simp;omega)]
   rw[Xc,Jz,ed,Xe];refine jy fun k hk'=>za (by ext) ?_;have hk:=Xg.mp hk';have et:((m:Int)-(0+(k:Int))-1).toNat=m-k-1:=by omega
   have p:=p2k (k:=m-k-1) (by omega);rw[←et]at p;ext;rw[et,Int.one_mul];rfl
  ext;rw[c2];ext;rw[j8r,eb];ext;rw[jga (by simp only[km,Xq];omega) rfl];ext;rw[List.take_add_one,ag];simp
end
end KW
section
namespace K32
open PySem PySem.Spec PyProof.Rows L2
noncomputable def top(i:Nat):Stmt:=PySem.Challenge.pw_leastasks_k32_weights_refused.main.body.getD i (.Pass ⟨0,0,0,0⟩)
noncomputable def Vs:Sx:=(.seq (.set 2 (.call "common_divisor" (.cons (.var 0) (.cons (.var 1) .nil)))) (.seq (.ret (.tup (.cons (.bin .fdiv (.var 0) (.var 2)) (.cons (.bin .fdiv (.var 1) (.var 2)) .nil)))) .nop))
noncomputable def Uv:Fi:=⟨2,3,Vs,false⟩
noncomputable def Ji:Sx:=(.seq (.whl (.cmp .ne (.var 1) (.lit (.int 0))) (.seq (.set 2 (.bin .mod (.var 0) (.var 1))) (.seq (.mov 0 1) (.seq (.mov 1 2) .nop)))) (.seq (.retV 0) .nop))
noncomputable def Z0:Fi:=⟨2,3,Ji,false⟩
noncomputable def Vq:Sx:=(.seq (.expr (.call "refuse_wrong_size" (.cons (.var 0) .nil))) (.seq (.ret (.call "all_choices" (.cons (.bin .mul (.lst (.cons (.glob "TELLINGS") .nil)) (.var 0)) .nil))) .nop))
noncomputable def Ut:Fi:=⟨1,1,Vq,false⟩
noncomputable def Z4:Sx:=(.seq (.ret (.call "number_of" (.cons (.var 0) (.cons (.blt .len (.cons (.glob "ANSWERS") .nil)) .nil)))) .nop)
noncomputable def Y4:Fi:=⟨1,1,Z4,false⟩
noncomputable def Qv:Sx:=(.seq (.ret (.call "all_choices" (.cons (.comp [1] (.ite (.cmp .eq (.var 1) (.glob "NOT_TOLD")) (.glob "ANSWERS") (.tup (.cons (.var 1) .nil))) (.seq (.var 0)) .nil) .nil))) .nop)
noncomputable def fP_rows_in:Fi:=⟨1,2,Qv,false⟩
noncomputable def Vr:Sx:=(.seq (.ret (.call "all_choices" (.cons (.comp [1] (.ite (.cmp .eq (.var 1) (.glob "NOT_TOLD")) (.glob "TELLINGS") (.tup (.cons (.var 1) .nil))) (.seq (.var 0)) .nil) .nil))) .nop)
noncomputable def Uu:Fi:=⟨1,2,Vr,false⟩
noncomputable def Qi:Sx:=(.seq (.ife (.or (.cmp .lt (.var 1) (.lit (.int 0))) (.or (.cmp .ge (.var 1) (.blt .len (.cons (.var 0) .nil))) (.cmp .ne (.ix (.var 0) (.var 1)) (.glob "NOT_TOLD")))) (.seq (.raise "NoAsk" (.fst (.cons (.lit (.str "nothing can be asked at spot ")) (.cons (.var 1) (.cons (.lit (.str " of ")) (.cons (.var 0) .nil)))))) .nop) .nop) (.seq (.ret (.bin .add (.bin .add (.sl (.var 0) .nil (.cons (.var 1) .nil)) (.tup (.cons (.var 2) .nil))) (.sl (.var 0) (.cons (.bin .add (.var 1) (.lit (.int 1))) .nil) .nil))) .nop))
noncomputable def Zr:Fi:=⟨3,3,Qi,false⟩
noncomputable def vh:Sx:=(.seq (.ife (.or (.cmp .lt (.var 0) (.glob "FEWEST_PLACES")) (.cmp .gt (.var 0) (.glob "MOST_PLACES"))) (.seq (.raise "WrongSize" (.fst (.cons (.lit (.str "there are ")) (.cons (.glob "FEWEST_PLACES") (.cons (.lit (.str " to ")) (.cons (.glob "MOST_PLACES") (.cons (.lit (.str " places, not ")) (.cons (.var 0) .nil)))))))) .nop) .nop) .nop)
noncomputable def Q5:Fi:=⟨1,1,vh,false⟩
noncomputable def J0:Sx:=(.seq (.set 1 (.lst (.cons (.tup .nil) .nil))) (.seq (.loop [2] (.seq (.var 0)) (.seq (.set 3 (.lst .nil)) (.seq (.loop [4] (.seq (.var 1)) (.seq (.ext 3 (.comp [5] (.bin .add (.var 4) (.tup (.cons (.var 5) .nil))) (.seq (.var 2)) .nil)) .nop)) (.seq (.mov 1 3) .nop)))) (.seq (.retV 1) .nop)))
noncomputable def fP_all_choices:Fi:=⟨1,6,J0,false⟩
noncomputable def V4:Sx:=(.seq (.set 2 (.lit (.int 0))) (.seq (.loop [3] (.seq (.var 0)) (.seq (.set 2 (.bin .add (.bin .mul (.var 2) (.var 1)) (.var 3))) .nop)) (.seq (.retV 2) .nop)))
noncomputable def Yy:Fi:=⟨2,4,V4,false⟩
noncomputable def V5:Sx:=(.seq (.ret (.ix (.ix (.var 0) (.lit (.int 1))) (.call "row_number" (.cons (.var 1) .nil)))) .nop)
noncomputable def Yz:Fi:=⟨2,2,V5,false⟩
noncomputable def Z3:Sx:=(.seq (.set 2 (.call "counted_in" (.cons (.var 0) (.cons (.var 1) .nil)))) (.seq (.ife (.cmp .eq (.ix (.var 2) (.lit (.int 1))) (.lit (.int 0))) (.seq (.ret (.lit (.int 0))) .nop) .nop) (.seq (.ife (.cmp .eq (.ix (.var 2) (.lit (.int 0))) (.lit (.int 0))) (.seq (.ret (.lit (.int 1))) .nop) .nop) (.seq (.ret (.lit (.non))) .nop))))
noncomputable def Y0:Fi:=⟨2,3,Z3,false⟩
noncomputable def Z6:Sx:=(.seq (.set 2 (.comp [3] (.call "answer_to" (.cons (.var 0) (.cons (.var 3) .nil))) (.seq (.call "rows_in" (.cons (.var 1) .nil))) .nil)) (.seq (.ret (.tup (.cons (.meth .count (.var 2) (.cons (.lit (.int 0)) .nil)) (.cons (.meth .count (.var 2) (.cons (.lit (.int 1)) .nil)) .nil)))) .nop))
noncomputable def Y6:Fi:=⟨2,4,Z6,false⟩
noncomputable def Vt:Sx:=(.seq (.ret (.bin .mul (.tup (.cons (.glob "NOT_TOLD") .nil)) (.blt .len (.cons (.ix (.var 0) (.lit (.int 0))) .nil)))) .nop)
noncomputable def Uw:Fi:=⟨1,1,Vt,false⟩
noncomputable def Q8:Sx:=(.seq (.ret (.bin .add (.call "row_number" (.cons (.bin .mul (.tup (.cons (.lit (.int 1)) .nil)) (.var 0)) .nil)) (.lit (.int 1)))) .nop)
noncomputable def Zc:Fi:=⟨1,1,Q8,false⟩
noncomputable def Yj:Sx:=(.seq (.ret (.tup (.cons (.lit (.str "tell")) (.cons (.var 0) .nil)))) .nop)
noncomputable def Wr:Fi:=⟨1,1,Yj,false⟩
noncomputable def Ur:Sx:=(.seq (.ret (.tup (.cons (.lit (.str "ask")) (.cons (.var 0) (.cons (.var 1) (.cons (.var 2) .nil)))))) .nop)
noncomputable def M6:Fi:=⟨3,3,Ur,false⟩
noncomputable def vz:Sx:=(.seq (.ife (.isN (.var 1)) (.seq (.ret (.bin .mul (.lst (.cons (.lit (.int 1)) .nil)) (.var 0))) .nop) .nop) (.seq (.ife (.or (.cmp .ne (.blt .len (.cons (.var 1) .nil)) (.var 0)) (.not (.call "all_between" (.cons (.var 1) (.cons (.glob "LEAST_PRICE") .nil))))) (.seq (.raise "WrongPrices" (.fst (.cons (.lit (.str "prices are ")) (.cons (.var 0) (.cons (.lit (.str " numbers from ")) (.cons (.glob "LEAST_PRICE") (.cons (.lit (.str " to ")) (.cons (.glob "GREATEST_NUMBER") .nil)))))))) .nop) .nop) (.seq (.ret (.blt .list (.cons (.var 1) .nil))) .nop)))
noncomputable def zy:Fi:=⟨2,2,vz,false⟩
noncomputable def z9:Sx:=(.seq (.ife (.or (.cmp .ne (.blt .len (.cons (.var 0) .nil)) (.call "count_of_rows" (.cons (.var 1) .nil))) (.not (.call "all_between" (.cons (.var 0) (.cons (.glob "LEAST_WEIGHT") .nil))))) (.seq (.raise "WrongWeights" (.fst (.cons (.lit (.str "weights are numbers from ")) (.cons (.glob "LEAST_WEIGHT") (.cons (.lit (.str " to ")) (.cons (.glob "GREATEST_NUMBER") (.cons (.lit (.str ", one for each row")) .nil))))))) .nop) .nop) (.seq (.ife (.cmp .eq (.blt .sum (.cons (.var 0) .nil)) (.lit (.int 0))) (.seq (.raise "WrongWeights" (.lit (.str "the weights are all 0"))) .nop) .nop) .nop))
noncomputable def qz:Fi:=⟨2,2,z9,false⟩
noncomputable def Qx:Sx:=(.seq (.ret (.blt .all (.cons (.comp [2] (.and (.cmp .ge (.var 2) (.var 1)) (.cmp .le (.var 2) (.glob "GREATEST_NUMBER"))) (.seq (.var 0)) .nil) .nil))) .nop)
noncomputable def Vf:Fi:=⟨2,3,Qx,false⟩
noncomputable def Qw:Sx:=(.seq (.ret (.dvals (.call "least_numbers" (.cons (.call "all_open" (.cons (.var 0) .nil)) (.cons (.var 0) (.cons (.var 1) .nil)))))) .nop)
noncomputable def Ve:Fi:=⟨2,2,Qw,false⟩
noncomputable def Z5:Sx:=(.seq (.set 2 (.call "all_open" (.cons (.var 0) .nil))) (.seq (.ret (.call "least_plan_at" (.cons (.var 2) (.cons (.var 0) (.cons (.var 1) (.cons (.call "least_numbers" (.cons (.var 2) (.cons (.var 0) (.cons (.var 1) .nil)))) .nil)))))) .nop))
noncomputable def Y5:Fi:=⟨2,3,Z5,false⟩
noncomputable def Q7:Sx:=(.seq (.retC "numbers_within" "least_numbers" (.var 0) (.var 1) [2]) .nop)
noncomputable def Zb:Fi:=⟨3,3,Q7,false⟩
noncomputable def Jg:Sx:=(.nmake 3 4 5 (.seq (.call "parts_in" (.cons (.var 0) .nil))) (.not (.isN (.call "settled_by" (.cons (.var 1) (.cons (.var 4) .nil))))) (.ite (.var 5) (.lit (.int 0)) (.callV 2 (.cons (.var 3) (.cons (.var 4) .nil)))))
noncomputable def Qy:Fi:=⟨3,6,Jg,false⟩
noncomputable def J4:Sx:=(.seq (.set 4 (.call "settled_by" (.cons (.var 1) (.cons (.var 0) .nil)))) (.seq (.ife (.not (.isN (.var 4))) (.seq (.ret (.call "telling" (.cons (.var 4) .nil))) .nop) .nop) (.seq (.set 5 (.ix (.call "cheapest_ask" (.cons (.var 3) (.cons (.var 0) (.cons (.var 2) .nil)))) (.lit (.int 1)))) (.seq (.set 6 (.call "least_plan_at" (.cons (.call "told_further" (.cons (.var 0) (.cons (.var 5) (.cons (.lit (.int 0)) .nil)))) (.cons (.var 1) (.cons (.var 2) (.cons (.var 3) .nil)))))) (.seq (.set 7 (.call "least_plan_at" (.cons (.call "told_further" (.cons (.var 0) (.cons (.var 5) (.cons (.lit (.int 1)) .nil)))) (.cons (.var 1) (.cons (.var 2) (.cons (.var 3) .nil)))))) (.seq (.ret (.call "asking" (.cons (.ix (.ix (.var 1) (.lit (.int 0))) (.var 5)) (.cons (.var 6) (.cons (.var 7) .nil))))) .nop))))))
noncomputable def J3:Fi:=⟨4,8,J4,false⟩
noncomputable def Qj:Sx:=(.seq (.ret (.minT (.comp [3,4] (.tup (.cons (.callV 2 (.cons (.var 0) (.cons (.var 1) (.cons (.var 3) .nil)))) (.cons (.var 3) .nil))) (.enum (.var 1)) (.cons (.cmp .eq (.var 4) (.glob "NOT_TOLD")) .nil)))) .nop)
noncomputable def Zt:Fi:=⟨3,5,Qj,false⟩
noncomputable def Jh:Sx:=(.seq (.ret (.comp [3] (.dget (.var 0) (.call "told_further" (.cons (.var 1) (.cons (.var 2) (.cons (.var 3) .nil))))) (.seq (.glob "ANSWERS")) .nil)) .nop)
noncomputable def Qz:Fi:=⟨3,4,Jh,false⟩
noncomputable def Jv:Sx:=(.seq (.ret (.call "least_table" (.cons (.var 0) (.cons (.call "whole_cost_of_ask" (.cons (.var 0) (.cons (.var 1) (.cons (.var 2) .nil)))) .nil)))) .nop)
noncomputable def Js:Fi:=⟨3,3,Jv,false⟩
noncomputable def Qd:Sx:=(.seq (.ret (.call "least_plan" (.cons (.var 0) (.cons (.call "whole_cost_of_ask" (.cons (.var 0) (.cons (.var 1) (.cons (.var 2) .nil)))) .nil)))) .nop)
noncomputable def Qa:Fi:=⟨3,3,Qd,false⟩
noncomputable def Qe:Sx:=(.seq (.ret (.call "fraction" (.cons (.ix (.call "whole_table" (.cons (.var 0) (.cons (.var 1) (.cons (.var 2) .nil)))) (.neg (.lit (.int 1)))) (.cons (.blt .sum (.cons (.var 1) .nil)) .nil)))) .nop)
noncomputable def Qc:Fi:=⟨3,3,Qe,false⟩
noncomputable def qx:Sx:=(.seq (.set 3 (.blt .len (.cons (.ix (.var 0) (.lit (.int 0))) .nil))) (.seq (.set 4 (.call "prices_told" (.cons (.var 3) (.cons (.var 2) .nil)))) (.seq (.keep 4) (.seq (.expr (.call "refuse_wrong_weights" (.cons (.var 1) (.cons (.var 3) .nil)))) (.seq (.set 5 (.call "weights_by_part" (.cons (.var 3) (.cons (.var 1) .nil)))) (.seq (.retL "whole_cost_of_ask" [5,4]) .nop))))))
noncomputable def q9:Fi:=⟨3,6,qx,false⟩
noncomputable def Jb:Sx:=(.wmake 2 3 (.seq (.call "parts_of" (.cons (.var 0) .nil))) (.blt .sum (.cons (.comp [4] (.ix (.var 1) (.call "row_number" (.cons (.var 4) .nil))) (.seq (.call "rows_in" (.cons (.var 3) .nil))) .nil) .nil)))
noncomputable def Qm:Fi:=⟨2,5,Jb,false⟩
noncomputable def Yp:Sx:=(.seq (.ife (.cmp .lt (.var 1) (.blt .len (.cons (.var 0) .nil))) (.seq (.ret (.ix (.var 0) (.var 1))) .nop) .nop) (.seq (.set 2 (.bin .add (.lit (.int 70001)) (.bin .mul (.bin .mul (.lit (.int 911)) (.var 1)) (.var 1)))) (.seq (.ife (.cmp .gt (.blt .len (.cons (.var 0) .nil)) (.lit (.int 0))) (.seq (.set 2 (.bin .add (.var 2) (.bin .mul (.bin .mod (.ix (.var 0) (.lit (.int 0))) (.lit (.int 9973))) (.bin .add (.bin .mul (.lit (.int 3)) (.var 1)) (.lit (.int 1)))))) .nop) .nop) (.seq (.retV 2) .nop))))
noncomputable def fL_cell:Fi:=⟨2,3,Yp,false⟩
noncomputable def Vk:Sx:=(.seq (.set 2 (.lit (.str "mdkbvqhzcgrnapxolsiefwtyju"))) (.seq (.ife (.cmp .lt (.bin .mod (.var 0) (.lit (.int 4))) (.lit (.int 2))) (.seq (.set 3 (.join "" (.comp [4] (.ix (.var 2) (.bin .mod (.bin .fdiv (.var 0) (.bin .add (.lit (.int 4)) (.bin .mul (.lit (.int 5)) (.var 4)))) (.lit (.int 26)))) (.range (.cons (.lit (.int 8)) .nil)) .nil))) (.seq (.set 5 (.bin .mod (.bin .fdiv (.var 0) (.lit (.int 8))) (.bin .sub (.lit (.int 9)) (.var 1)))) (.seq (.ife (.cmp .eq (.bin .mod (.var 0) (.lit (.int 4))) (.lit (.int 0))) (.seq (.ret (.comp [4] (.sl (.var 3) .nil (.cons (.bin .add (.bin .add (.var 5) (.var 4)) (.lit (.int 1))) .nil)) (.range (.cons (.var 1) .nil)) .nil)) .nop) .nop) (.seq (.ret (.comp [4] (.sl (.var 3) (.cons (.bin .sub (.bin .sub (.bin .sub (.lit (.int 8)) (.var 5)) (.var 4)) (.lit (.int 1))) .nil) .nil) (.range (.cons (.var 1) .nil)) .nil)) .nop)))) .nop) (.seq (.set 6 (.bin .mod (.bin .fdiv (.var 0) (.lit (.int 4))) (.lit (.int 8)))) (.seq (.set 7 (.join "" (.comp [4] (.ix (.var 2) (.bin .mod (.bin .add (.bin .add (.bin .fdiv (.var 0) (.lit (.int 32))) (.bin .mul (.bin .mul (.lit (.int 3)) (.var 4)) (.var 4))) (.var 4)) (.lit (.int 26)))) (.range (.cons (.var 6) .nil)) .nil))) (.seq (.set 8 (.bin .mod (.bin .fdiv (.var 0) (.lit (.int 512))) (.bin .add (.var 6) (.lit (.int 1))))) (.seq (.ret (.comp [4] (.bin .add (.bin .add (.sl (.var 7) .nil (.cons (.var 8) .nil)) (.ix (.var 2) (.bin .mod (.bin .add (.bin .fdiv (.var 0) (.lit (.int 9))) (.bin .mul (.lit (.int 7)) (.var 4))) (.lit (.int 26))))) (.sl (.var 7) (.cons (.var 8) .nil) .nil)) (.range (.cons (.var 1) .nil)) .nil)) .nop))))))
noncomputable def fL_words:Fi:=⟨2,9,Vk,false⟩
noncomputable def Wd:Sx:=(.seq (.set 3 (.comp [4] (.var 4) (.range (.cons (.blt .len (.cons (.var 0) .nil)) .nil)) (.cons (.cmp .eq (.bin .mod (.bin .fdiv (.var 2) (.bin .shl (.lit (.int 1)) (.var 4))) (.lit (.int 2))) (.lit (.int 1))) .nil))) (.seq (.set 5 (.blt .sum (.cons (.comp [4] (.bin .shl (.ix (.var 0) (.var 4)) (.var 4)) (.seq (.var 3)) .nil) .nil))) (.seq (.set 6 (.blt .sum (.cons (.comp [4,7] (.bin .shl (.var 7) (.var 4)) (.enum (.var 0)) .nil) .nil))) (.seq (.ife (.cmp .eq (.var 1) (.lit (.int 1))) (.seq (.ret (.blt .int (.cons (.cmp .gt (.blt .sum (.cons (.var 0) .nil)) (.bin .mod (.bin .fdiv (.var 2) (.lit (.int 64))) (.blt .len (.cons (.var 0) .nil)))) .nil))) .nop) .nop) (.seq (.ife (.cmp .eq (.var 1) (.lit (.int 2))) (.seq (.set 8 (.bin .mod (.bin .mul (.bin .add (.var 6) (.lit (.int 1))) (.bin .add (.lit (.int 1)) (.bin .mod (.var 2) (.lit (.int 1000003))))) (.lit (.int 2147483629)))) (.seq (.ret (.blt .int (.cons (.cmp .eq (.bin .mod (.bin .fdiv (.var 8) (.lit (.int 32))) (.lit (.int 5))) (.lit (.int 0))) .nil))) .nop)) .nop) (.seq (.ife (.cmp .eq (.var 1) (.lit (.int 3))) (.seq (.set 8 (.bin .mul (.bin .add (.bin .add (.bin .mul (.var 5) (.var 5)) (.bin .mul (.lit (.int 17)) (.var 5))) (.lit (.int 69621))) (.bin .add (.lit (.int 1)) (.bin .mod (.var 2) (.lit (.int 1000003)))))) (.seq (.ret (.bin .mod (.bin .fdiv (.bin .mod (.var 8) (.lit (.int 2147483647))) (.lit (.int 16))) (.lit (.int 2)))) .nop)) .nop) (.seq (.ife (.cmp .eq (.var 1) (.lit (.int 4))) (.seq (.ret (.bin .mod (.bin .add (.blt .sum (.cons (.comp [4] (.ix (.var 0) (.var 4)) (.seq (.var 3)) .nil) .nil)) (.bin .fdiv (.var 2) (.lit (.int 64)))) (.lit (.int 2)))) .nop) .nop) (.seq (.set 8 (.bin .mul (.bin .add (.bin .mul (.var 6) (.var 6)) (.lit (.int 48271))) (.bin .add (.bin .add (.bin .mod (.var 2) (.lit (.int 1000003))) (.var 6)) (.lit (.int 1))))) (.seq (.ret (.bin .mod (.bin .fdiv (.bin .mod (.var 8) (.lit (.int 2147483647))) (.lit (.int 64))) (.lit (.int 2)))) .nop)))))))))
noncomputable def fL_bit:Fi:=⟨3,9,Wd,false⟩
noncomputable def Qf:Sx:=(.seq (.set 3 (.bin .add (.lit (.int 1)) (.bin .mod (.call "_law_cell" (.cons (.var 0) (.cons (.var 1) .nil))) (.var 2)))) (.seq (.set 4 (.call "_law_words" (.cons (.call "_law_cell" (.cons (.var 0) (.cons (.bin .add (.var 1) (.lit (.int 1))) .nil))) (.cons (.var 3) .nil)))) (.seq (.set 5 (.bin .mod (.bin .fdiv (.call "_law_cell" (.cons (.var 0) (.cons (.var 1) .nil))) (.var 2)) (.lit (.int 5)))) (.seq (.set 6 (.lst .nil)) (.seq (.loop [7] (.range (.cons (.bin .shl (.lit (.int 1)) (.var 3)) .nil)) (.seq (.set 8 (.comp [9] (.bin .mod (.bin .fdiv (.var 7) (.bin .shl (.lit (.int 1)) (.bin .sub (.bin .sub (.var 3) (.var 9)) (.lit (.int 1))))) (.lit (.int 2))) (.range (.cons (.var 3) .nil)) .nil)) (.seq (.app 6 (.call "_law_bit" (.cons (.var 8) (.cons (.var 5) (.cons (.call "_law_cell" (.cons (.var 0) (.cons (.bin .add (.var 1) (.lit (.int 2))) .nil))) .nil))))) .nop))) (.seq (.ret (.tup (.cons (.blt .tuple (.cons (.var 4) .nil)) (.cons (.blt .tuple (.cons (.var 6) .nil)) .nil)))) .nop))))))
noncomputable def fL_question:Fi:=⟨3,10,Qf,false⟩
noncomputable def Yk:Sx:=(.seq (.set 2 (.bin .mod (.var 0) (.lit (.int 2147483647)))) (.seq (.set 3 (.lst .nil)) (.seq (.loop [4] (.range (.cons (.bin .shl (.lit (.int 1)) (.var 1)) .nil)) (.seq (.set 2 (.bin .mod (.bin .add (.bin .add (.bin .mul (.var 2) (.lit (.int 48271))) (.bin .mul (.lit (.int 17)) (.var 4))) (.lit (.int 3))) (.lit (.int 2147483647)))) (.seq (.app 3 (.ix (.lst (.cons (.bin .mod (.bin .fdiv (.var 2) (.lit (.int 16))) (.lit (.int 4))) (.cons (.bin .mod (.bin .fdiv (.var 2) (.lit (.int 16))) (.bin .add (.bin .pow (.lit (.int 10)) (.lit (.int 6))) (.lit (.int 1)))) (.cons (.lit (.int 1)) .nil)))) (.bin .mod (.var 0) (.lit (.int 3))))) .nop))) (.seq (.ife (.cmp .eq (.blt .sum (.cons (.var 3) .nil)) (.lit (.int 0))) (.seq (.put 3 (.bin .mod (.bin .fdiv (.var 0) (.lit (.int 3))) (.bin .shl (.lit (.int 1)) (.var 1))) (.lit (.int 1))) .nop) .nop) (.seq (.retV 3) .nop)))))
noncomputable def Ws:Fi:=⟨2,5,Yk,false⟩
noncomputable def U7:Sx:=(.seq (.set 1 (.lst .nil)) (.seq (.ife (.isx 0 ["NoAsk"]) (.seq (.app 1 (.lit (.str "NoAsk"))) .nop) .nop) (.seq (.ife (.isx 0 ["NoPlace"]) (.seq (.app 1 (.lit (.str "NoPlace"))) .nop) .nop) (.seq (.ife (.isx 0 ["NoPlan","NoText"]) (.seq (.app 1 (.lit (.str "NoPlan or NoText"))) .nop) .nop) (.seq (.ife (.isx 0 ["NoWord"]) (.seq (.app 1 (.lit (.str "NoWord"))) .nop) .nop) (.seq (.ife (.isx 0 ["Twice"]) (.seq (.app 1 (.lit (.str "Twice"))) .nop) .nop) (.seq (.ife (.isx 0 ["Unlike"]) (.seq (.app 1 (.lit (.str "Unlike"))) .nop) .nop) (.seq (.ife (.isx 0 ["WrongAnswers"]) (.seq (.app 1 (.lit (.str "WrongAnswers"))) .nop) .nop) (.seq (.ife (.isx 0 ["WrongPrices"]) (.seq (.app 1 (.lit (.str "WrongPrices"))) .nop) .nop) (.seq (.ife (.isx 0 ["WrongWeights"]) (.seq (.app 1 (.lit (.str "WrongWeights"))) .nop) .nop) (.seq (.ife (.isx 0 ["WrongSize"]) (.seq (.app 1 (.lit (.str "WrongSize"))) .nop) .nop) (.seq (.ife (.not (.isx 0 ["ValueError"])) (.seq (.app 1 (.lit (.str "no ValueError"))) .nop) .nop) (.seq (.retV 1) .nop)))))))))))))
noncomputable def Ez:Fi:=⟨1,2,U7,false⟩
noncomputable def Yl:Sx:=(.seq (.set 2 (.bin .mod (.bin .fdiv (.var 1) (.lit (.int 5))) (.blt .len (.cons (.var 0) .nil)))) (.seq (.ife (.cmp .eq (.bin .mod (.var 1) (.lit (.int 5))) (.lit (.int 0))) (.seq (.ret (.bin .add (.var 0) (.lst (.cons (.bin .mod (.bin .fdiv (.var 1) (.lit (.int 5))) (.lit (.int 9))) .nil)))) .nop) .nop) (.seq (.ife (.cmp .eq (.bin .mod (.var 1) (.lit (.int 5))) (.lit (.int 1))) (.seq (.ret (.bin .add (.sl (.var 0) .nil (.cons (.var 2) .nil)) (.sl (.var 0) (.cons (.bin .add (.var 2) (.lit (.int 1))) .nil) .nil))) .nop) .nop) (.seq (.ife (.cmp .eq (.bin .mod (.var 1) (.lit (.int 5))) (.lit (.int 2))) (.seq (.ret (.ix (.lst (.cons (.lst .nil) (.cons (.comp [3] (.lit (.int 0)) (.seq (.var 0)) .nil) .nil))) (.bin .mod (.bin .fdiv (.var 1) (.lit (.int 5))) (.lit (.int 2))))) .nop) .nop) (.seq (.set 4 (.bin .mod (.bin .fdiv (.var 1) (.lit (.int 64))) (.bin .pow (.lit (.int 10)) (.lit (.int 9))))) (.seq (.ret (.bin .add (.bin .add (.sl (.var 0) .nil (.cons (.var 2) .nil)) (.lst (.cons (.ix (.lst (.cons (.neg (.lit (.int 1))) (.cons (.bin .sub (.neg (.lit (.int 1))) (.var 4)) (.cons (.lit (.int 1000001)) (.cons (.bin .add (.lit (.int 1000001)) (.var 4)) .nil))))) (.bin .mod (.bin .fdiv (.var 1) (.lit (.int 32))) (.lit (.int 4)))) .nil))) (.sl (.var 0) (.cons (.bin .add (.var 2) (.lit (.int 1))) .nil) .nil))) .nop))))))
noncomputable def Wt:Fi:=⟨2,5,Yl,false⟩
noncomputable def Z7:Sx:=(.seq (.ife (.cmp .eq (.bin .mod (.var 1) (.lit (.int 3))) (.lit (.int 0))) (.seq (.ret (.bin .add (.var 0) (.lst (.cons (.lit (.int 1)) .nil)))) .nop) .nop) (.seq (.set 2 (.bin .mod (.bin .fdiv (.var 1) (.lit (.int 3))) (.blt .len (.cons (.var 0) .nil)))) (.seq (.ret (.bin .add (.bin .add (.sl (.var 0) .nil (.cons (.var 2) .nil)) (.lst (.cons (.ix (.lst (.cons (.lit (.int 0)) (.cons (.lit (.int 1000001)) (.cons (.bin .sub (.neg (.lit (.int 1))) (.bin .mod (.bin .fdiv (.var 1) (.lit (.int 64))) (.bin .pow (.lit (.int 10)) (.lit (.int 9))))) .nil)))) (.bin .mod (.bin .fdiv (.var 1) (.lit (.int 16))) (.lit (.int 3)))) .nil))) (.sl (.var 0) (.cons (.bin .add (.var 2) (.lit (.int 1))) .nil) .nil))) .nop)))
noncomputable def Y7:Fi:=⟨2,3,Z7,false⟩
noncomputable def V6:Sx:=(.seq (.set 4 (.lst .nil)) (.seq (.tryK (.seq (.ife (.cmp .eq (.var 3) (.lit (.int 0))) (.seq (.expr (.call "whole_table" (.cons (.var 0) (.cons (.var 1) (.cons (.var 2) .nil))))) .nop) (.seq (.ife (.cmp .eq (.var 3) (.lit (.int 1))) (.seq (.expr (.call "whole_plan" (.cons (.var 0) (.cons (.var 1) (.cons (.var 2) .nil))))) .nop) (.seq (.expr (.call "mean_price" (.cons (.var 0) (.cons (.var 1) (.cons (.var 2) .nil))))) .nop)) .nop)) .nop) 4 5) (.seq (.retV 4) .nop)))
noncomputable def Zu:Fi:=⟨4,6,V6,false⟩
noncomputable def j3v:Sx:=(.seq (.set 1 (.call "_law_question" (.cons (.var 0) (.cons (.lit (.int 0)) (.cons (.lit (.int 4)) .nil))))) (.seq (.set 2 (.blt .len (.cons (.ix (.var 1) (.lit (.int 0))) .nil))) (.seq (.set 3 (.call "_law_cell" (.cons (.var 0) (.cons (.lit (.int 3)) .nil)))) (.seq (.set 4 (.comp [5] (.bin .add (.lit (.int 1)) (.bin .mod (.bin .fdiv (.var 3) (.bin .add (.lit (.int 3)) (.var 5))) (.lit (.int 9)))) (.range (.cons (.var 2) .nil)) .nil)) (.seq (.keep 4) (.seq (.set 6 (.call "_law_weights" (.cons (.var 3) (.cons (.var 2) .nil)))) (.seq (.keep 6) (.seq (.set 7 (.call "_law_spoiled" (.cons (.var 6) (.cons (.call "_law_cell" (.cons (.var 0) (.cons (.lit (.int 4)) .nil))) .nil)))) (.seq (.keep 7) (.seq (.set 8 (.call "_law_bad_prices" (.cons (.var 4) (.cons (.call "_law_cell" (.cons (.var 0) (.cons (.lit (.int 5)) .nil))) .nil)))) (.seq (.keep 8) (.seq (.set 9 (.lst (.cons (.blt .list (.cons (.var 7) .nil)) (.cons (.blt .list (.cons (.var 8) .nil)) .nil)))) (.seq (.keep 9) (.seq (.loop [10] (.range (.cons (.lit (.int 3)) .nil)) (.seq (.ife (.cmp .ne (.call "_law_refused" (.cons (.var 1) (.cons (.ix (.var 9) (.lit (.int 0))) (.cons (.ix (.var 9) (.lit (.int 1))) (.cons (.var 10) .nil))))) (.lst (.cons (.lit (.str "WrongPrices")) .nil))) (.seq (.ret (.lit (.bl false))) .nop) .nop) (.seq (.ife (.cmp .ne (.call "_law_refused" (.cons (.var 1) (.cons (.blt .list (.cons (.var 6) .nil)) (.cons (.ix (.var 9) (.lit (.int 1))) (.cons (.var 10) .nil))))) (.lst (.cons (.lit (.str "WrongPrices")) .nil))) (.seq (.ret (.lit (.bl false))) .nop) .nop) (.seq (.loop [11] (.seq (.lst (.cons (.var 4) (.cons (.lit (.non)) .nil)))) (.seq (.ife (.cmp .ne (.call "_law_refused" (.cons (.var 1) (.cons (.ix (.var 9) (.lit (.int 0))) (.cons (.var 11) (.cons (.var 10) .nil))))) (.lst (.cons (.lit (.str "WrongWeights")) .nil))) (.seq (.ret (.lit (.bl false))) .nop) .nop) (.seq (.ife (.cmp .ne (.call "_law_refused" (.cons (.var 1) (.cons (.blt .list (.cons (.var 6) .nil)) (.cons (.var 11) (.cons (.var 10) .nil))))) (.lst .nil)) (.seq (.ret (.lit (.bl false))) .nop) .nop) .nop))) .nop)))) (.seq (.ret (.cmp .eq (.var 9) (.lst (.cons (.var 7) (.cons (.var 8) .nil))))) .nop)))))))))))))))
noncomputable def j3h:Fi:=⟨1,12,j3v,false⟩
noncomputable def Q6:Ex:=(.ix (.call "cheapest_ask" (.cons (.var 1) (.cons (.var 2) (.cons (.var 0) .nil)))) (.lit (.int 0)))
noncomputable def Za:Fi:=⟨3,3,.ret Q6,true⟩
noncomputable def vg:Ex:=(.bin .add (.bin .mul (.ix (.var 1) (.var 4)) (.dget (.var 0) (.var 3))) (.blt .sum (.cons (.call "numbers_behind" (.cons (.var 2) (.cons (.var 3) (.cons (.var 4) .nil)))) .nil)))
noncomputable def Q3:Fi:=⟨5,5,.ret vg,true⟩
noncomputable def tbl:List (Str×Fi):=("fraction",Uv)::("common_divisor",Z0)::("parts_of",Ut)::("row_number",Y4)::("rows_in",fP_rows_in)::("parts_in",Uu)::("told_further",Zr)::("refuse_wrong_size",Q5)::("all_choices",fP_all_choices)::("number_of",Yy)::("answer_to",Yz)::("settled_by",Y0)::("counted_in",Y6)::("all_open",Uw)::("count_of_rows",Zc)::("telling",Wr)::("asking",M6)::("prices_told",zy)::("refuse_wrong_weights",qz)::("all_between",Vf)::("least_table",Ve)::("least_plan",Y5)::("least_numbers",Zb)::("numbers_within",Qy)::("least_plan_at",J3)::("cheapest_ask",Zt)::("numbers_behind",Qz)::("whole_table",Js)::("whole_plan",Qa)::("mean_price",Qc)::("whole_cost_of_ask",q9)::("weights_by_part",Qm)::("_law_cell",fL_cell)::("_law_words",fL_words)::("_law_bit",fL_bit)::("_law_question",fL_question)::("_law_weights",Ws)::("_law_kinds",Ez)::("_law_spoiled",Wt)::("_law_bad_prices",Y7)::("_law_refused",Zu)::("law",j3h)::("least_numbers.<locals>.<lambda>",Za)::("whole_cost_of_ask.<locals>.<lambda>",Q3)::[]
noncomputable def T(x:Str):Option Fi:=tbl.lookup x
noncomputable def gs:List (Str×D):=[("FEWEST_PLACES",.int 1),("MOST_PLACES",.int 6),("ANSWERS",.tup [.int 0,.int 1]),("NOT_TOLD",.int 2),("TELLINGS",.tup [.int 0,.int 1,.int 2]),("LEAST_PRICE",.int 1),("LEAST_WEIGHT",.int 0),("GREATEST_NUMBER",.int 1000000)]
noncomputable def xs:List (Str×List D):=[("WrongSize",[.str "WrongSize"]),("NoAsk",[.str "NoAsk"]),("NoWord",[.str "NoWord"]),("Twice",[.str "Twice"]),("WrongAnswers",[.str "WrongAnswers"]),("Unlike",[.str "Unlike"]),("NoPlace",[.str "NoPlace"]),("NoText",[.str "NoPlan or NoText"]),("WrongPrices",[.str "WrongPrices"]),("WrongWeights",[.str "WrongWeights"]),("NoPlan",[.str "NoPlan or NoText"])]
noncomputable def qs:List Str:=["fraction","least_table","least_plan"]
noncomputable abbrev G:Str→Option D:=Gof gs true xs qs
end K32
end
section
open PySem PySem.Spec PyProof.Rows L2
local macro_rules | `(tactic| walk_at "vis")=>`(tactic| first | exact Or.inl rfl | exact Or.inr (Or.inl rfl) | exact Or.inr (Or.inr rfl))
local macro_rules | `(tactic| walk_at "loc")=>`(tactic| first | exact Or.inl rfl | exact Or.inr rfl)
local macro_rules | `(tactic| walk_at "cap")=>`(tactic| repeat (first | exact rfl | refine ⟨_,_,rfl,by rfl,by rfl,by rfl,by rfl,?_⟩))
local macro_rules | `(tactic| walk_at "ts")=>`(tactic| first
 |exact Tr.int|exact Tr.bl|exact Tr.non|exact Tr.str
 |exact Tr.var (by rfl) (by walk_at "vis") (by decide) (by decide)|exact Tr.glob (by rfl) (by decide) (by decide)
 |refine Tr.bin ?_ ?_|refine Tr.neg ?_|refine Tr.cmp (by rfl) ?_ ?_|refine Tr.bcmp (by rfl) ?_ ?_|refine Tr.isN ?_|refine Tr.bisN ?_|refine Tr.isNN ?_|refine Tr.bisNN ?_
 |refine Tr.and ?_ ?_|refine Tr.or ?_ ?_|refine Tr.one ?_|refine Tr.not ?_
 |refine Tr.wand ?_ ?_|refine Tr.wor ?_ ?_|refine Tr.wand1 ?_|refine Tr.wor1 ?_|refine Tr.bw ?_|refine Tr.bnot ?_
 |refine Tr.ite ?_ ?_ ?_|exact Tr.nil|refine Tr.cons (by rfl) ?_ ?_|refine Tr.tup ?_|refine Tr.lst ?_
 |refine Tr.ix (by intro _ _;rfl) ?_ ?_|exact Tr.oN|refine Tr.oS ?_|refine Tr.sl ?_ ?_ ?_
 |refine Tr.call (by rfl) (by decide) (by rfl) (by rfl) ?_
 |refine Tr.callV (by rfl) (by walk_at "vis") (by decide) (by decide) (by rfl) (by rfl) ?_|refine Tr.dget (by intro _ _;rfl) ?_ ?_|refine Tr.dvals (by rfl) (by rfl) (by rfl) (by rfl) (by rfl) ?_|refine Tr.minT (by rfl) (by rfl) (by rfl) ?_
 |refine Tr.len (by rfl) ?_|refine Tr.all (by rfl) (by rfl) ?_|refine Tr.tuple (by rfl) ?_|refine Tr.list (by rfl) ?_
 |refine Tr.sum (by rfl) (by rfl) ?_|refine Tr.intc (by rfl) ?_|refine Tr.join (by rfl) (by rfl) (by rfl) (by rfl) ?_|refine Tr.enum (by rfl) (by rfl) ?_
 |refine Tr.count (by rfl) (by rfl) (by rfl) ?_ ?_
 |refine Tr.isi1 (by decide) (by decide +kernel) (by rfl) (by rfl) (by decide) (by decide) (by rfl) ?_
 |refine Tr.isi2 (by decide) (by decide) (by decide +kernel) (by decide +kernel) (by rfl) (by rfl) (by rfl) (by decide) (by decide) (by decide) (by decide) (by rfl) ?_
 |exact Tr.c0|refine Tr.c1 ?_
 |refine Tr.comp1 (by rfl) (by rfl) (by rfl) (by rfl) (by rfl) (by intro _;rfl) ?_ ?_ ?_
 |refine Tr.comp2 (by rfl) (by decide) (by rfl) (by rfl) (by rfl) (by rfl) (by rfl) (by rfl) (by intro _;rfl) ?_ ?_ ?_
 |refine Tr.seq ?_|refine Tr.range (by rfl) ?_
 |exact Tr.p0|refine Tr.pC ?_|refine Tr.pF ?_ ?_|refine Tr.fst ?_
 |exact Tr.isxV (by rfl) (by walk_at "vis") (by decide) (by decide) (by rfl) (by rfl) (by rfl)
 |exact Tr.isx1 (by decide) (by decide) (by rfl) (by walk_at "vis") (by decide) (by decide) (by rfl) (by rfl) (by decide) (by rfl)
 |exact Tr.isx2 (by decide) (by decide) (by decide) (by decide) (by rfl) (by walk_at "vis") (by decide) (by decide) (by rfl) (by rfl) (by rfl) (by decide) (by decide) (by rfl)
 |refine Tr.bval (by intro _;rfl) ?_
 |refine Ts.wmake (by rfl) (by rfl) (by rfl) (by walk_at "loc") (by walk_at "loc") (by exact Or.inl rfl) (by exact Or.inl rfl) (by decide) (by decide) (by decide) (by decide) (by rfl) (by rfl) (by intro _;rfl) ?_ ?_
 |refine Ts.nmake (by rfl) (by rfl) (by rfl) (by rfl) (by walk_at "loc") (by walk_at "loc") (by walk_at "loc") (by exact Or.inl rfl) (by exact Or.inl rfl) (by exact Or.inl rfl) (by decide) (by decide) (by decide) (by decide) (by rfl) (by rfl) (by rfl) (by intro _;rfl) ?_ ?_ ?_
 |exact Ts.retL (by decide) (by rfl) (by rfl) (by rfl) (Eq.trans (by assumption) rfl) (by rfl) (by decide +kernel) (by walk_at "cap")
 |refine Ts.retC (by decide) (by rfl) (by rfl) (by rfl) (Eq.trans (by assumption) rfl) (by rfl) (by decide +kernel) (by walk_at "cap") (by rfl) (by decide) (by rfl) (by rfl) (by rfl) (by rfl) ?_ ?_
 |exact Ts.nil|refine Ts.fgt ?_|refine Ts.keep ?_|refine Ts.cons ?_ ?_|exact Ts.pass|exact Ts.doc|exact Ts.fail
 |exact Ts.mov (by rfl) (by rfl) (by walk_at "loc") (by exact Or.inl rfl) (by walk_at "vis") (by decide) (by decide)
 |refine Ts.setC1 (by rfl) (by rfl) (by walk_at "loc") (by exact Or.inl rfl) (by rfl) (by rfl) (by rfl) (by rfl) (by rfl) (by intro _;rfl) ?_ ?_ ?_
 |refine Ts.setC2 (by rfl) (by rfl) (by walk_at "loc") (by exact Or.inl rfl) (by rfl) (by decide) (by rfl) (by rfl) (by rfl) (by rfl) (by rfl) (by rfl) (by intro _;rfl) ?_ ?_ ?_
 |refine Ts.set (by rfl) (by walk_at "loc") (by rfl) (by exact Or.inl rfl) ?_
 |exact Ts.retV (by rfl) (by walk_at "vis") (by decide) (by decide)|refine Ts.ret ?_
 |refine Ts.ife ?_ ?_ ?_|refine Ts.for1 (by rfl) (by rfl) (by walk_at "loc") (by exact Or.inl rfl) (by intro _;rfl) ?_ ?_
 |refine Ts.whl ?_ ?_
 |refine Ts.app (by rfl) (by walk_at "vis") (by decide) (by decide) (by rfl) (by rfl) (by rfl) (by rfl) ?_
 |refine Ts.ext (by rfl) (by walk_at "vis") (by decide) (by decide) (by rfl) (by rfl) (by rfl) (by rfl) ?_
 |refine Ts.put (by rfl) (by walk_at "vis") (by decide) (by decide) (by intro _;rfl) (by rfl) (by rfl) ?_ ?_
 |refine Ts.raise (by rfl) (by rfl) (by decide) (by rfl) ?_
 |refine Ts.tryK (by rfl) (by rfl) (by rfl) (by rfl) (by rfl) (by rfl) (by rfl) (by decide) (by decide) (by rfl) (by walk_at "loc") (by exact Or.inl rfl) (by exact Or.inl rfl) (by rfl) (by rfl) (by rfl) ?_
 |refine Ts.expr (by rfl) ?_
 |intro C s H fp pn
 |intro pn xe)
local macro_rules | `(tactic| walk_at "bnd")=>`(tactic| (intro _ _ _ _ _ _ us hl; first | (obtain ⟨_,e⟩:=us1 hl; subst e; rfl) | (obtain ⟨_,_,e⟩:=us2 hl; subst e; rfl) | (obtain ⟨_,_,_,e⟩:=us3 hl; subst e; rfl) | (obtain ⟨_,_,_,_,e⟩:=us4 hl; subst e; rfl)))
local macro_rules | `(tactic| walk_at "bnk")=>`(tactic| (intro _ _ _ _ _ _ _ _ _ _ hK td; refine ⟨fun us hl=>?_,fun us hl=>?_,fun us v hl=>?_⟩; (first | (obtain ⟨_,_,e⟩:=us2 hl; subst e; exact PySem.W.binds_K hK rfl td rfl rfl rfl) | (obtain ⟨_,_,_,e⟩:=us3 hl; subst e; exact PySem.W.binds_K hK rfl td rfl rfl rfl)); (first | (obtain ⟨_,_,e⟩:=us2 (Nat.succ.inj hl); subst e; exact PySem.W.binds_K hK rfl td rfl rfl rfl) | (obtain ⟨_,_,_,e⟩:=us3 (Nat.succ.inj hl); subst e; exact PySem.W.binds_K hK rfl td rfl rfl rfl)); (first | (obtain ⟨_,_,e⟩:=us2 (Nat.succ.inj hl); subst e; exact PySem.W.binds_K hK rfl td rfl rfl rfl) | (obtain ⟨_,_,_,e⟩:=us3 (Nat.succ.inj hl); subst e; exact PySem.W.binds_K hK rfl td rfl rfl rfl))))
local macro_rules | `(tactic| walk_at "sc")=>`(tactic| exact ⟨rfl,rfl,rfl,by decide +kernel,rfl,by decide +kernel,by decide +kernel⟩)
local macro_rules | `(tactic| walk_at "scl")=>`(tactic| exact ⟨rfl,rfl,rfl,by decide +kernel,rfl,by decide +kernel,by decide +kernel,by decide +kernel,jbn⟩)
local macro_rules | `(tactic| walk_at "bndl")=>`(tactic| (intro _ _ _ _ us hl; first | (obtain ⟨_,_,e⟩:=us2 hl; subst e; rfl) | (obtain ⟨_,_,_,e⟩:=us3 hl; subst e; rfl)))
namespace K32
section
variable{P:Program}{w:World}{K:k85}{mg:k88}{base:Heap}
theorem Kh:TrT P w K mg base "fraction" ["top","bottom","common"] (top 14) Vs:=by
 intro f cdv A outer s H E xe;unfold Vs
 repeat' (walk_at "ts")
theorem Rm:TrT P w K mg base "common_divisor" ["one","other","rest"] (top 15) Ji:=by
 intro f cdv A outer s H E xe;unfold Ji
 repeat' (walk_at "ts")
theorem Kf:TrT P w K mg base "parts_of" ["many"] (top 22) Vq:=by
 intro f cdv A outer s H E xe;unfold Vq
 repeat' (walk_at "ts")
theorem Fd:TrT P w K mg base "row_number" ["row"] (top 23) Z4:=by
 intro f cdv A outer s H E xe;unfold Z4
 repeat' (walk_at "ts")
theorem j0q:TrT P w K mg base "rows_in" ["part","told"] (top 24) Qv:=by
 intro f cdv A outer s H E xe;unfold Qv
 repeat' (walk_at "ts")
theorem Kg:TrT P w K mg base "parts_in" ["part","told"] (top 25) Vr:=by
 intro f cdv A outer s H E xe;unfold Vr
 repeat' (walk_at "ts")
theorem Od:TrT P w K mg base "told_further" ["part","spot","answer"] (top 26) Qi:=by
 intro f cdv A outer s H E xe;unfold Qi
 repeat' (walk_at "ts")
theorem Uz:TrT P w K mg base "refuse_wrong_size" ["many"] (top 27) vh:=by
 intro f cdv A outer s H E xe;unfold vh
 repeat' (walk_at "ts")
theorem Bs:TrT P w K mg base "all_choices" ["figures_by_spot","chosen","figures","longer","ahead","figure"] (top 28) J0:=by
 intro f cdv A outer s H E xe;unfold J0
 repeat' (walk_at "ts")
theorem Lr:TrT P w K mg base "number_of" ["figures","base","number","figure"] (top 29) V4:=by
 intro f cdv A outer s H E xe;unfold V4
 repeat' (walk_at "ts")
theorem Ls:TrT P w K mg base "answer_to" ["question","row"] (top 31) V5:=by
 intro f cdv A outer s H E xe;unfold V5
 repeat' (walk_at "ts")
theorem Fb:TrT P w K mg base "settled_by" ["question","part","counted"] (top 32) Z3:=by
 intro f cdv A outer s H E xe;unfold Z3
 repeat' (walk_at "ts")
theorem Fj:TrT P w K mg base "counted_in" ["question","part","answers","row"] (top 33) Z6:=by
 intro f cdv A outer s H E xe;unfold Z6
 repeat' (walk_at "ts")
theorem Kl:TrT P w K mg base "all_open" ["question"] (top 34) Vt:=by
 intro f cdv A outer s H E xe;unfold Vt
 repeat' (walk_at "ts")
theorem Mz:TrT P w K mg base "count_of_rows" ["many"] (top 35) Q8:=by
 intro f cdv A outer s H E xe;unfold Q8
 repeat' (walk_at "ts")
theorem j0p:TrT P w K mg base "telling" ["answer"] (top 40) Yj:=by
 intro f cdv A outer s H E xe;unfold Yj
 repeat' (walk_at "ts")
theorem j2n:TrT P w K mg base "asking" ["place","if_no","if_yes"] (top 41) Ur:=by
 intro f cdv A outer s H E xe;unfold Ur
 repeat' (walk_at "ts")
theorem Bq:TrT P w K mg base "prices_told" ["many","prices"] (top 42) vz:=by
 intro f cdv A outer s H E xe;unfold vz
 repeat' (walk_at "ts")
theorem Ys:TrT P w K mg base "refuse_wrong_weights" ["weights","many"] (top 43) z9:=by
 intro f cdv A outer s H E xe;unfold z9
 repeat' (walk_at "ts")
theorem Bt:TrT P w K mg base "all_between" ["numbers","least","number"] (top 44) Qx:=by
 intro f cdv A outer s H E xe;unfold Qx
 repeat' (walk_at "ts")
theorem Br:TrT P w K mg base "least_table" ["question","cost_of_ask"] (top 46) Qw:=by
 intro f cdv A outer s H E xe;unfold Qw
 repeat' (walk_at "ts")
theorem Fg:TrT P w K mg base "least_plan" ["question","cost_of_ask","part"] (top 47) Z5:=by
 intro f cdv A outer s H E xe;unfold Z5
 repeat' (walk_at "ts")
theorem Mx (hl:Qs K "least_numbers" = Ba (jl (top 48))):TrT P w K mg base "least_numbers" ["whole_part","question","cost_of_ask"] (top 48) Q7:=by
 intro f cdv A outer s H E xe;unfold Q7
 repeat' (walk_at "ts")
theorem Ri:TrT P w K mg base "numbers_within" ["whole_part","question","number_unsettled","numbers","part","settled"] (top 49) Jg:=by
 intro f cdv A outer s H E xe;unfold Jg
 repeat' (walk_at "ts")
theorem Mw:TrT P w K mg base "least_plan_at" ["part","question","cost_of_ask","numbers","settled","spot","if_no","if_yes"] (top 50) J4:=by
 intro f cdv A outer s H E xe;unfold J4
 repeat' (walk_at "ts")
theorem Oe:TrT P w K mg base "cheapest_ask" ["numbers","part","cost_of_ask","spot","told"] (top 51) Qj:=by
 intro f cdv A outer s H E xe;unfold Qj
 repeat' (walk_at "ts")
theorem Rj:TrT P w K mg base "numbers_behind" ["numbers","part","spot","answer"] (top 52) Jh:=by
 intro f cdv A outer s H E xe;unfold Jh
 repeat' (walk_at "ts")
theorem Bp:TrT P w K mg base "whole_table" ["question","weights","prices"] (top 54) Jv:=by
 intro f cdv A outer s H E xe;unfold Jv
 repeat' (walk_at "ts")
theorem Nz:TrT P w K mg base "whole_plan" ["question","weights","prices"] (top 55) Qd:=by
 intro f cdv A outer s H E xe;unfold Qd
 repeat' (walk_at "ts")
theorem Ff:TrT P w K mg base "mean_price" ["question","weights","prices"] (top 56) Qe:=by
 intro f cdv A outer s H E xe;unfold Qe
 repeat' (walk_at "ts")
theorem Uy (hl:Qs K "whole_cost_of_ask" = Ba (jl (top 57))):TrT P w K mg base "whole_cost_of_ask" ["question","weights","prices","many","price_at","weight_of"] (top 57) qx:=by
 intro f cdv A outer s H E xe;unfold qx
 repeat' (walk_at "ts")
theorem Rg:TrT P w K mg base "weights_by_part" ["many","weights","weight_of","part","row"] (top 58) Jb:=by
 intro f cdv A outer s H E xe;unfold Jb
 repeat' (walk_at "ts")
theorem j6v:TrT P w K mg base "_law_cell" ["_law_script","_law_k","_law_spare"] (top 60) Yp:=by
 intro f cdv A outer s H E xe;unfold Yp
 repeat' (walk_at "ts")
theorem j48:TrT P w K mg base "_law_words" ["_law_cell_here","_law_many","_law_letters","_law_long","_law_k","_law_start","_law_size","_law_stem","_law_at"] (top 61) Vk:=by
 intro f cdv A outer s H E xe;unfold Vk
 repeat' (walk_at "ts")
theorem jaa:TrT P w K mg base "_law_bit" ["_law_row","_law_kind","_law_cell_here","_law_some","_law_k","_law_kept","_law_by_row","_law_one","_law_mixed"] (top 62) Wd:=by
 intro f cdv A outer s H E xe;unfold Wd
 repeat' (walk_at "ts")
theorem Km:TrT P w K mg base "_law_question" ["_law_script","_law_at","_law_most","_law_many","_law_places","_law_kind","_law_answers","_law_number","_law_row","_law_k"] (top 63) Qf:=by
 intro f cdv A outer s H E xe;unfold Qf
 repeat' (walk_at "ts")
theorem j0r:TrT P w K mg base "_law_weights" ["_law_cell_here","_law_many","_law_draw","_law_weights_here","_law_k"] (top 64) Yk:=by
 intro f cdv A outer s H E xe;unfold Yk
 repeat' (walk_at "ts")
theorem j49:TrT P w K mg base "_law_kinds" ["_law_e","_law_some"] (top 65) U7:=by
 intro f cdv A outer s H E xe;unfold U7
 repeat' (walk_at "ts")
theorem j4a:TrH P w K mg base "_law_kinds" ["_law_e","_law_some"] (top 65) U7:=by
 intro f cdv A outer s H;unfold U7
 repeat' (walk_at "ts")
theorem j0s:TrT P w K mg base "_law_spoiled" ["_law_weights_here","_law_cell_here","_law_at","_law_weight","_law_far"] (top 66) Yl:=by
 intro f cdv A outer s H E xe;unfold Yl
 repeat' (walk_at "ts")
theorem Fo:TrT P w K mg base "_law_bad_prices" ["_law_good","_law_cell_here","_law_at"] (top 67) Z7:=by
 intro f cdv A outer s H E xe;unfold Z7
 repeat' (walk_at "ts")
theorem j0t:TrT P w K mg base "_law_refused" ["_law_question_here","_law_weights_here","_law_prices","_law_way","_law_kinds_here","_law_e"] (top 68) V6:=by
 intro f cdv A outer s H E xe;unfold V6
 repeat' (walk_at "ts")
theorem j9f:TrT P w K mg base "law" ["_law_script","_law_question_here","_law_many","_law_cell_here","_law_good","_law_k","_law_weights_here","_law_bad","_law_prices","_law_handed","_law_way","_law_some"] (top 69) j3v:=by
 intro f cdv A outer s H E xe;unfold j3v
 repeat' (walk_at "ts")
theorem O1:TrL P w K mg base "least_numbers" ["cost_of_ask","numbers","part"] (lamT (top 48)) Q6:=by
 intro a c cl A outer s H;unfold Q6
 repeat' (walk_at "ts")
theorem W0:TrL P w K mg base "whole_cost_of_ask" ["weight_of","price_at","numbers","part","spot"] (lamT (top 57)) vg:=by
 intro a c cl A outer s H;unfold vg
 repeat' (walk_at "ts")
end
set_option maxHeartbeats 0 in
theorem head {l:PySem.W.OpenLaw} {w:World} {K:k85} {h:Heap} {mg:k88} {fa:Addr} (X:K.In h) (Gn:h.Ns mainGlobals mg) (hfa:mg "law" = some (.ref fa))
  (h0:Lf K "fraction" (top 14))
  (h1:Lf K "common_divisor" (top 15))
  (h2:Lf K "parts_of" (top 22))
  (h3:Lf K "row_number" (top 23))
  (h4:Lf K "rows_in" (top 24))
  (h5:Lf K "parts_in" (top 25))
  (h6:Lf K "told_further" (top 26))
  (h7:Lf K "refuse_wrong_size" (top 27))
  (h8:Lf K "all_choices" (top 28))
  (h9:Lf K "number_of" (top 29))
  (h10:Lf K "answer_to" (top 31))
  (h11:Lf K "settled_by" (top 32))
  (h12:Lf K "counted_in" (top 33))
  (h13:Lf K "all_open" (top 34))
  (h14:Lf K "count_of_rows" (top 35))
  (h15:Lf K "telling" (top 40))
  (h16:Lf K "asking" (top 41))
  (h17:Lf K "prices_told" (top 42))
  (h18:Lf K "refuse_wrong_weights" (top 43))
  (h19:Lf K "all_between" (top 44))
  (h20:Lf K "least_table" (top 46))
  (h21:Lf K "least_plan" (top 47))
  (h22:Lf K "least_numbers" (top 48))
  (h23:Lf K "numbers_within" (top 49))
  (h24:Lf K "least_plan_at" (top 50))
  (h25:Lf K "cheapest_ask" (top 51))
  (h26:Lf K "numbers_behind" (top 52))
  (h27:Lfd K "whole_table" (top 54))
  (h28:Lfd K "whole_plan" (top 55))
  (h29:Lfd K "mean_price" (top 56))
  (h30:Lf K "whole_cost_of_ask" (top 57))
  (h31:Lf K "weights_by_part" (top 58))
  (h32:Lf K "_law_cell" (top 60))
  (h33:Lf K "_law_words" (top 61))
  (h34:Lf K "_law_bit" (top 62))
  (h35:Lf K "_law_question" (top 63))
  (h36:Lf K "_law_weights" (top 64))
  (h37:Lf K "_law_kinds" (top 65))
  (h38:Lf K "_law_spoiled" (top 66))
  (h39:Lf K "_law_bad_prices" (top 67))
  (h40:Lf K "_law_refused" (top 68))
  (h41:Lf K "law" (top 69))
  (bz:bOk K=true) {ts:List Addr} (tz:tOk K ts=true)
  {gt0:Tok} {gt1:Tok} {gt3:Tok} {gt4:Tok} {ga2:Addr} {ga2n:Nat} {ga2s:Array (Option Value)} {gt5:Tok} {gt7:Tok} {gt8:Tok} {gt9:Tok} {ga6:Addr} {ga6n:Nat} {ga6s:Array (Option Value)} {gt10:Tok} {gt11:Tok} {gt12:Tok}
  (gn0:PySem.W.nsIn K mainGlobals "FEWEST_PLACES" = some (some (.int 1 gt0))) (gn1:PySem.W.nsIn K mainGlobals "MOST_PLACES" = some (some (.int 6 gt1))) (ga2l:K.lookup ga2=some ⟨.type "tuple",none,.seq #[.int 0 gt3,.int 1 gt4] ga2n,ga2s⟩) (gn2:PySem.W.nsIn K mainGlobals "ANSWERS" = some (some (.ref ga2))) (gn3:PySem.W.nsIn K mainGlobals "NOT_TOLD" = some (some (.int 2 gt5))) (ga6l:K.lookup ga6=some ⟨.type "tuple",none,.seq #[.int 0 gt7,.int 1 gt8,.int 2 gt9] ga6n,ga6s⟩) (gn4:PySem.W.nsIn K mainGlobals "TELLINGS" = some (some (.ref ga6))) (gn5:PySem.W.nsIn K mainGlobals "LEAST_PRICE" = some (some (.int 1 gt10))) (gn6:PySem.W.nsIn K mainGlobals "LEAST_WEIGHT" = some (some (.int 0 gt11))) (gn7:PySem.W.nsIn K mainGlobals "GREATEST_NUMBER" = some (some (.int 1000000 gt12)))
  (exa:Qt K=true)
  (xz:xOk K=true)
  {fu n:Nat} (hlaw:∀ns:List Int,ns.length≤63→evP fu G T (n+1) "law" [.lst (ns.map D.int)]=.val (.bl true)) :
  ∃fd:FuncData,(∀(s:Shared)(v:Value),BindsTo s fd ⟨[v],[]⟩ [("_law_script",v)])∧∀base:Heap,K.In base→base.Ns mainGlobals mg→FnOk l.prog w K mg base CX0 (lv (n+1)) fa fd ["_law_script"] (K5 K):=by
 have hL:=h41;obtain⟨f,oc,od,kV,dc,pm,an,cd,ct,sl,a,lk,c,k⟩:=hL;have e:=hfa.symm.trans (Tc X Gn a);cases e;refine⟨PySem.W.fnOf "law" "law" (zm (top 69)) (jl (top 69)) (j7 (top 69)) .none kV dc pm an cd ct,fun s v=>.of_eq rfl,fun base hKb hNb=>?_⟩;have hT:∀x F,T x=some F→LkF l.prog w K mg base x F:=fun x F hx=>by
  have all:∀p∈tbl,LkF l.prog w K mg base p.1 p.2:=by
   intro p hp;simp only[tbl,xm,List.not_mem_nil,or_false]at hp;rcases hp with rfl|rfl|rfl|rfl|rfl|rfl|rfl|rfl|rfl|rfl|rfl|rfl|rfl|rfl|rfl|rfl|rfl|rfl|rfl|rfl|rfl|rfl|rfl|rfl|rfl|rfl|rfl|rfl|rfl|rfl|rfl|rfl|rfl|rfl|rfl|rfl|rfl|rfl|rfl|rfl|rfl|rfl|rfl|rfl
   ·exact lkF (jt h0 X Gn Kh ["top","bottom"] (by walk_at "sc") rfl rfl (by walk_at "bnd") (by decide)) rfl (by decide)
   ·exact lkF (jt h1 X Gn Rm ["one","other"] (by walk_at "sc") rfl rfl (by walk_at "bnd") (by decide)) rfl (by decide)
   ·exact lkF (jt h2 X Gn Kf ["many"] (by walk_at "sc") rfl rfl (by walk_at "bnd") (by decide)) rfl (by decide)
   ·exact lkF (jt h3 X Gn Fd ["row"] (by walk_at "sc") rfl rfl (by walk_at "bnd") (by decide)) rfl (by decide)
   ·exact lkF (jt h4 X Gn j0q ["part"] (by walk_at "sc") rfl rfl (by walk_at "bnd") (by decide)) rfl (by decide)
   ·exact lkF (jt h5 X Gn Kg ["part"] (by walk_at "sc") rfl rfl (by walk_at "bnd") (by decide)) rfl (by decide)
   ·exact lkF (jt h6 X Gn Od ["part","spot","answer"] (by walk_at "sc") rfl rfl (by walk_at "bnd") (by decide)) rfl (by decide)
   ·exact lkF (jt h7 X Gn Uz ["many"] (by walk_at "sc") rfl rfl (by walk_at "bnd") (by decide)) rfl (by decide)
   ·exact lkF (jt h8 X Gn Bs ["figures_by_spot"] (by walk_at "sc") rfl rfl (by walk_at "bnd") (by decide)) rfl (by decide)
   ·exact lkF (jt h9 X Gn Lr ["figures","base"] (by walk_at "sc") rfl rfl (by walk_at "bnd") (by decide)) rfl (by decide)
   ·exact lkF (jt h10 X Gn Ls ["question","row"] (by walk_at "sc") rfl rfl (by walk_at "bnd") (by decide)) rfl (by decide)
   ·exact lkF (jt h11 X Gn Fb ["question","part"] (by walk_at "sc") rfl rfl (by walk_at "bnd") (by decide)) rfl (by decide)
   ·exact lkF (jt h12 X Gn Fj ["question","part"] (by walk_at "sc") rfl rfl (by walk_at "bnd") (by decide)) rfl (by decide)
   ·exact lkF (jt h13 X Gn Kl ["question"] (by walk_at "sc") rfl rfl (by walk_at "bnd") (by decide)) rfl (by decide)
   ·exact lkF (jt h14 X Gn Mz ["many"] (by walk_at "sc") rfl rfl (by walk_at "bnd") (by decide)) rfl (by decide)
   ·exact lkF (jt h15 X Gn j0p ["answer"] (by walk_at "sc") rfl rfl (by walk_at "bnd") (by decide)) rfl (by decide)
   ·exact lkF (jt h16 X Gn j2n ["place","if_no","if_yes"] (by walk_at "sc") rfl rfl (by walk_at "bnd") (by decide)) rfl (by decide)
   ·exact lkF (jt h17 X Gn Bq ["many","prices"] (by walk_at "sc") rfl rfl (by walk_at "bnd") (by decide)) rfl (by decide)
   ·exact lkF (jt h18 X Gn Ys ["weights","many"] (by walk_at "sc") rfl rfl (by walk_at "bnd") (by decide)) rfl (by decide)
   ·exact lkF (jt h19 X Gn Bt ["numbers","least"] (by walk_at "sc") rfl rfl (by walk_at "bnd") (by decide)) rfl (by decide)
   ·exact lkF (jt h20 X Gn Br ["question","cost_of_ask"] (by walk_at "sc") rfl rfl (by walk_at "bnd") (by decide)) rfl (by decide)
   ·exact lkF (jt h21 X Gn Fg ["question","cost_of_ask"] (by walk_at "sc") rfl rfl (by walk_at "bnd") (by decide)) rfl (by decide)
   ·exact lkF (jt h22 X Gn (Mx (Wm h22)) ["whole_part","question","cost_of_ask"] (by walk_at "sc") rfl rfl (by walk_at "bnd") (by decide)) rfl (by decide)
   ·exact lkF (jt h23 X Gn Ri ["whole_part","question","number_unsettled"] (by walk_at "sc") rfl rfl (by walk_at "bnd") (by decide)) rfl (by decide)
   ·exact lkF (jt h24 X Gn Mw ["part","question","cost_of_ask","numbers"] (by walk_at "sc") rfl rfl (by walk_at "bnd") (by decide)) rfl (by decide)
   ·exact lkF (jt h25 X Gn Oe ["numbers","part","cost_of_ask"] (by walk_at "sc") rfl rfl (by walk_at "bnd") (by decide)) rfl (by decide)
   ·exact lkF (jt h26 X Gn Rj ["numbers","part","spot"] (by walk_at "sc") rfl rfl (by walk_at "bnd") (by decide)) rfl (by decide)
   ·exact lkF (Ej h27 X Gn Bp ["question","weights","prices"] (by walk_at "sc") rfl rfl (by decide) (by walk_at "bnk")) rfl (by decide)
   ·exact lkF (Ej h28 X Gn Nz ["question","weights","prices"] (by walk_at "sc") rfl rfl (by decide) (by walk_at "bnk")) rfl (by decide)
   ·exact lkF (Ej h29 X Gn Ff ["question","weights","prices"] (by walk_at "sc") rfl rfl (by decide) (by walk_at "bnk")) rfl (by decide)
   ·exact lkF (jt h30 X Gn (Uy (Wm h30)) ["question","weights","prices"] (by walk_at "sc") rfl rfl (by walk_at "bnd") (by decide)) rfl (by decide)
   ·exact lkF (jt h31 X Gn Rg ["many","weights"] (by walk_at "sc") rfl rfl (by walk_at "bnd") (by decide)) rfl (by decide)
   ·exact lkF (jt h32 X Gn j6v ["_law_script","_law_k"] (by walk_at "sc") rfl rfl (by walk_at "bnd") (by decide)) rfl (by decide)
   ·exact lkF (jt h33 X Gn j48 ["_law_cell_here","_law_many"] (by walk_at "sc") rfl rfl (by walk_at "bnd") (by decide)) rfl (by decide)
   ·exact lkF (jt h34 X Gn jaa ["_law_row","_law_kind","_law_cell_here"] (by walk_at "sc") rfl rfl (by walk_at "bnd") (by decide)) rfl (by decide)
   ·exact lkF (jt h35 X Gn Km ["_law_script","_law_at","_law_most"] (by walk_at "sc") rfl rfl (by walk_at "bnd") (by decide)) rfl (by decide)
   ·exact lkF (jt h36 X Gn j0r ["_law_cell_here","_law_many"] (by walk_at "sc") rfl rfl (by walk_at "bnd") (by decide)) rfl (by decide)
   ·exact lkF (jt h37 X Gn j49 ["_law_e"] (by walk_at "sc") rfl rfl (by walk_at "bnd") (by decide)) rfl (by decide)
   ·exact lkF (jt h38 X Gn j0s ["_law_weights_here","_law_cell_here"] (by walk_at "sc") rfl rfl (by walk_at "bnd") (by decide)) rfl (by decide)
   ·exact lkF (jt h39 X Gn Fo ["_law_good","_law_cell_here"] (by walk_at "sc") rfl rfl (by walk_at "bnd") (by decide)) rfl (by decide)
   ·exact lkF (jt h40 X Gn j0t ["_law_question_here","_law_weights_here","_law_prices","_law_way"] (by walk_at "sc") rfl rfl (by walk_at "bnd") (by decide)) rfl (by decide)
   ·exact lkF (jt h41 X Gn j9f ["_law_script"] (by walk_at "sc") rfl rfl (by walk_at "bnd") (by decide)) rfl (by decide)
   ·exact j5a (by decide +kernel) (Wm h22) rfl O1 ["numbers","part"] (by walk_at "scl") rfl rfl rfl rfl (by walk_at "bndl")
   ·exact j5a (by decide +kernel) (Wm h30) rfl W0 ["numbers","part","spot"] (by walk_at "scl") rfl rfl rfl rfl (by walk_at "bndl")
  exact all (x,F) (lookup_mem hx)
 have bt:=ji1 X Gn bz;have gl:∀x d,gs.lookup x=some d→∃u v,mg x=some u∧RelV v u∧∀H,Enc K H d v:=by
  intro x d hx;have hm:=lookup_mem hx;simp only[gs,xm,List.not_mem_nil,or_false,Prod.mk.injEq]at hm;rcases hm with ⟨e1,e2⟩|⟨e1,e2⟩|⟨e1,e2⟩|⟨e1,e2⟩|⟨e1,e2⟩|⟨e1,e2⟩|⟨e1,e2⟩|⟨e1,e2⟩
  ·subst e1 e2;exact⟨.int 1 gt0,.int 1,Tc X Gn gn0,⟨_,rfl⟩,fun _=>rfl⟩
  ·subst e1 e2;exact⟨.int 6 gt1,.int 6,Tc X Gn gn1,⟨_,rfl⟩,fun _=>rfl⟩
  ·subst e1 e2;exact⟨.ref ga2,.ref ga2,Tc X Gn gn2,rfl,fun H=>⟨ga2,[.int 0,.int 1],rfl,.inr ⟨_,_,_,ga2l,rfl,rfl,rfl,(by show 2≤sizeLine;decide),(.cons ⟨_,rfl⟩ (.cons ⟨_,rfl⟩ .nil))⟩,⟨_,_,rfl,rfl,⟨_,_,rfl,rfl,rfl⟩⟩⟩⟩
  ·subst e1 e2;exact⟨.int 2 gt5,.int 2,Tc X Gn gn3,⟨_,rfl⟩,fun _=>rfl⟩
  ·subst e1 e2;exact⟨.ref ga6,.ref ga6,Tc X Gn gn4,rfl,fun H=>⟨ga6,[.int 0,.int 1,.int 2],rfl,.inr ⟨_,_,_,ga6l,rfl,rfl,rfl,(by show 3≤sizeLine;decide),(.cons ⟨_,rfl⟩ (.cons ⟨_,rfl⟩ (.cons ⟨_,rfl⟩ .nil)))⟩,⟨_,_,rfl,rfl,⟨_,_,rfl,rfl,⟨_,_,rfl,rfl,rfl⟩⟩⟩⟩⟩
  ·subst e1 e2;exact⟨.int 1 gt10,.int 1,Tc X Gn gn5,⟨_,rfl⟩,fun _=>rfl⟩
  ·subst e1 e2;exact⟨.int 0 gt11,.int 0,Tc X Gn gn6,⟨_,rfl⟩,fun _=>rfl⟩
  ·subst e1 e2;exact⟨.int 1000000 gt12,.int 1000000,Tc X Gn gn7,⟨_,rfl⟩,fun _=>rfl⟩
 have qn:∀f∈qs,∃fa,mg f=some (.ref fa)∧PySem.W.keepIn K (.ref fa)=true:=by
  intro f hf;simp only[qs,xm,List.not_mem_nil,or_false]at hf;rcases hf with rfl|rfl|rfl
  ·exact j2u h0 X Gn
  ·exact j2u h20 X Gn
  ·exact j2u h21 X Gn
 have el:=jhz xz;have L:LkH l.prog w K mg base "_law_kinds" Ez:=jem h37 X Gn j4a (by walk_at "sc") (by decide) rfl (by walk_at "bnd");have tb:Tb l.prog w K mg base G:=jgk bt gl exa (fun p hp=>by
  have hp:p.1∈jr:=by
   simp only[xs,xm,List.not_mem_nil,or_false]at hp
   rcases hp with rfl|rfl|rfl|rfl|rfl|rfl|rfl|rfl|rfl|rfl|rfl<;>decide
  exact⟨hp,el _ hp⟩
  ) (fun _=>el) hKb hNb qn (fun p hp=>by
  simp only[xs,xm,List.not_mem_nil,or_false]at hp
  rcases hp with rfl|rfl|rfl|rfl|rfl|rfl|rfl|rfl|rfl|rfl|rfl
  all_goals exact j0w (fu:=0) L bt exa el hKb hNb (by rfl) (by rfl)) (jhd tz X Gn)
 exact jen hT tb (F:=j3h) (by rfl) rfl hfa (W9 lk c k) _ (by walk_at "sc") rfl rfl (j9f _) hlaw
end K32
end
open PySem (Str sizeLine argBest)
open L2
namespace K32
open KL KW KV
theorem j9x:T "_law_cell" = some KL.fL_cell:=by rfl
theorem Wq:T "all_choices" = some KL.fP_all_choices:=by rfl
theorem j1x:T "rows_in" = some KL.fP_rows_in:=by rfl
theorem jf4:T "_law_words" = some KW.fL_words:=by rfl
theorem jf5:T "_law_bit" = some KW.fL_bit:=by rfl
theorem j5i:T "_law_question" = some KW.fL_question:=by rfl
theorem gN:G "NOT_TOLD" = some (.int 2):=by rfl
theorem gA:G "ANSWERS" = some (.tup [.int 0,.int 1]):=by rfl
theorem gT:G "TELLINGS" = some (.tup [.int 0,.int 1,.int 2]):=by rfl
theorem Vi{b:Int}:∀{m i:Nat}{z:Int},i<m→(jn b m z)[i]?=some (z/b^(m-1-i)%b)
 |m+1,0,z,_=>by rw[jn,List.getElem?_cons_zero];simp
 |m+1,i+1,z,h=>by rw[jn,List.getElem?_cons_succ,Vi (by omega)];congr 3;congr 1;omega
theorem j0u {fu n m:Nat} {z b:Int} (hm:m≤6) (hb:b=2∨b=3) (hz:0≤z∧z<b^m):evP fu G T (n+1) "number_of" [.tup ((jn b m z).map .int),.int b]=.val (.int z):=by
 rw[jc (F:=Yy) (by rfl) rfl];simp only[Yy,V4,enter];ext;have z0:z/b^m=0:=Int.ediv_eq_zero_of_lt hz.1 hz.2;refine Oj (fun i ρ=>∃s3,ρ=[.val (.tup ((jn b m z).map .int)),.val (.int b),.val (.int (z/b^(m-i))),s3]) ⟨.un,by rw[Nat.sub_zero,z0]⟩ ?_ ?_
 ·rintro i d ρ hi ⟨s3,rfl⟩;obtain⟨v,hv,rfl⟩:=Bb hi;have hlt:i<m:=by have:=(Xa.mp hv).1;rw[v9]at this;exact this
  rw[Vi hlt]at hv;cases hv;simp only[Vj];ext;refine⟨_,rfl,?_⟩;have e1:m-i=(m-1-i)+1:=by omega
  have e2:m-(i+1)=m-1-i:=by omega
  have e3:z/b^(m-i)*b+z/b^(m-1-i)%b=z/b^(m-(i+1)):=by rw[e1,e2,←j8l z b (by omega),Int.mul_comm];exact Int.mul_ediv_add_emod _ _
  rw[e3];exact⟨_,rfl⟩
 ·rintro ρ' ⟨s3,rfl⟩;ext;simp[v9]
theorem Ru {n m:Nat} {z:Int} (h:1≤m∧m≤6) (hz:0≤z∧z<2^m):evP 1000 G T (n+2) "row_number" [ju (jn 2 m z)]=.val (.int z):=by
 rw[jc (F:=Y4) (by rfl) rfl];simp only[Y4,Z4,enter];ext;simp only[gA];ext;have e:evP 1000 G T (n+1) "number_of" [ju (jn 2 m z),.int 2]=.val (.int z):=j0u h.2 (.inl rfl) hz;have e2:(((0+1+1:Nat):Int))=2:=rfl
 first|rw[e]|(rw[e2,e])
 ext
noncomputable def qD(ws:List Str)(a:List Int):D:=.tup [.tup (ws.map D.str),.tup (a.map D.int)]
theorem j3f{p:List Int}{k:Nat}(h:k<p.length):atI (p.map D.int) (k:Int)=some (.int (p.getD k 0)):=by
 have:=j1y h
 rwa [Int.zero_add]at this
theorem j1a {n m k:Nat} {ws:List Str} {a:List Int} (hm:1≤m∧m≤6) (ha:a.length=2^m) (hk:k<2^m):evP 1000 G T (n+3) "answer_to" [qD ws a,ju (jn 2 m (k:Int))]=.val (.int (a.getD k 0)):=by
 rw[jc (F:=Yz) (by rfl) rfl];simp only[Yz,V5,enter,qD];have pc:((2^m:Nat):Int)=(2:Int)^m:=by simp
 have i1:atI [D.tup (ws.map D.str),.tup (a.map D.int)] 1=some (.tup (a.map D.int)):=rfl;ext;rw[i1];ext;rw[Ru (n:=n) hm (by omega)];ext;rw[j3f (by omega)];ext
theorem j5v{l:List D}{k:Nat}(h:k≤l.length):cutD l none (some (k:Int))=l.take k:=by unfold cutD;rw[HT.sIx_none,HT.sIx_nat,List.drop_zero,Nat.sub_zero,Nat.min_eq_left h]
theorem j5u{l:List D}{k:Nat}(h:k≤l.length):cutD l (some (k:Int)) none=l.drop k:=by unfold cutD;rw[HT.sIx_none,HT.sIx_nat,Nat.min_eq_left h,T3 (by rw[Tf];omega)]
noncomputable def inL(p:List Int)(m:Nat):List Nat:=(List.range (2^m)).filter fun(k:Nat)=>fits p (jn 2 m (k:Int))
noncomputable def cnt(a p:List Int)(m:Nat)(v:Int):Nat:=(inL p m).countP fun(k:Nat)=>a.getD k 0==v
theorem Wn{p:List Int}{m:Nat}(hp:p.length=m)(hp3:∀t∈p,0≤t∧t<3):qe (p.map Zq)=(inL p m).map fun(k:Nat)=>jn 2 m (k:Int):=by rw[Zx,←M5 hp3,hp,←Ik,List.filter_map];rfl
theorem j1w{p:List Int}{m:Nat}(hp:p.length=m)(hp3:∀t∈p,0≤t∧t<3):1≤(inL p m).length∧(inL p m).length≤2^m:=by
 have h1:=congrArg List.length (Wn hp hp3);rw[Zx,Yv,km]at h1;constructor
 ·rw[←h1];exact Nat.one_le_two_pow
 ·unfold inL;exact Xm (List.length_filter_le _ _) (by rw[ph];exact xx _)
theorem j2b{a:List Int}(h01:∀x∈a,x=0∨x=1):∀L:List Nat,(L.countP fun(k:Nat)=>a.getD k 0==0)+(L.countP fun(k:Nat)=>a.getD k 0==1)=L.length
 |[]=>rfl
 |k::L=>by
  have ih:=j2b h01 L;rw[Py,Py,X4]
  try dsimp only
  rcases j3s h01 k with e|e
  ·rw[e,if_pos (by decide),if_neg (by decide)];omega
  ·rw[e,if_neg (by decide),if_pos (by decide)];omega
theorem j06 {n m:Nat} {ws:List Str} {a p:List Int} (hm:1≤m∧m≤6) (ha:a.length=2^m) (hp:p.length=m) (hp3:∀t∈p,0≤t∧t<3):evP 1000 G T (n+4) "counted_in" [qD ws a,ju p]=.val (.tup [.int (cnt a p m 0),.int (cnt a p m 1)]):=by
 rw[jc (F:=Y6) (by rfl) rfl];simp only[Y6,Z6,enter];have ri:evP 1000 G T (n+3) "rows_in" [ju p]=.fresh (jz (qe (p.map Zq))):=O3 (n:=n+1) j1x Wq gN gA (by omega);have as1:∀k:Nat,k<2^m→evP 1000 G T (n+3) "answer_to" [qD ws a,ju (jn 2 m (k:Int))]=.val (.int (a.getD k 0)):=fun k hk=>j1a hm ha hk;have l:=j1w hp hp3;have p2:=Ip hm.2;have pc:((2^m:Nat):Int)=(2:Int)^m:=by simp
 have cn:∀v:Int,(((inL p m).map fun(k:Nat)=>D.int (a.getD k 0)).countP fun e=>deq e (.int v))=cnt a p m v:=fun v=>by rw[List.countP_map];rfl
 have dp:D.depL ((inL p m).map fun(k:Nat)=>D.int (a.getD k 0))≤90:=by
  have:=D.depL_of (ds:=(inL p m).map fun(k:Nat)=>D.int (a.getD k 0)) (n:=0) fun d hd=>by obtain⟨x,_,rfl⟩:=Xf.mp hd;simp[D.dep]
  omega
 ext;rw[ri,Wn hp hp3];ext;rw[qj (l:=(inL p m).map fun(k:Nat)=>D.int (a.getD k 0)) (by rfl) (by simp only[jz,km];omega) ?_ (.inl rfl)];rotate_left
 ·rw[jz,Xe];refine jy fun k hk'=>za (by ext) ?_;have hk:=Xg.mp (Xx.mp hk').1;ext;rw[Function.comp,as1 k hk];ext
 ext;rw[j2a dp (by simp[D.dep]),j2a dp (by simp[D.dep]),cn,cn];ext
theorem Ib {n m:Nat} {ws:List Str} {a p:List Int} (hm:1≤m∧m≤6) (ha:a.length=2^m) (hp:p.length=m) (hp3:∀t∈p,0≤t∧t<3):evP 1000 G T (n+5) "settled_by" [qD ws a,ju p]=.val (if cnt a p m 1=0 then .int 0 else if cnt a p m 0=0 then .int 1 else .non):=by
 rw[jc (F:=Y0) (by rfl) rfl];simp only[Y0,Z3,enter];have i0:∀x y:D,atI [x,y] 0=some x:=fun _ _=>rfl;have i1:∀x y:D,atI [x,y] 1=some y:=fun _ _=>rfl;have c:=j06 (n:=n) (ws:=ws) hm ha hp hp3;ext;rw[c];ext;rw[i1];by_cases h1:cnt a p m 1=0
 ·ext;rw[if_pos h1]
 ·rw[if_neg h1];ext;rw[i0];by_cases h0:cnt a p m 0=0
  ·ext;rw[if_pos h0]
  ·ext;rw[if_neg h0]
noncomputable def Ig(c0 c1:Nat):D:=if c1=0 then .int 0 else if c0=0 then .int 1 else .non
theorem Ro {n m:Nat} {ws:List Str} {a p:List Int} (hm:1≤m∧m≤6) (ha:a.length=2^m) (hp:p.length=m) (hp3:∀t∈p,0≤t∧t<3):evP 1000 G T (n+5) "settled_by" [.tup [.tup (ws.map D.str),.tup (a.map D.int)],ju p]=.val (Ig (cnt a p m 0) (cnt a p m 1)):=Ib hm ha hp hp3
theorem jdr{m:Nat}(h:m≤6):1≤3^m∧3^m≤729:=by
 have:m=0∨m=1∨m=2∨m=3∨m=4∨m=5∨m=6:=by omega
 rcases this with e|e|e|e|e|e|e<;>subst e<;>decide
theorem j5o(p:List Int):Jf (p.map D.int)=(List.range p.length).map fun(s:Nat)=>D.tup [.int (s:Int),.int (p.getD s 0)]:=by
 refine List.ext_getElem? fun i=>?_;rw[Cy,X7,X7];by_cases h:i<p.length
 ·rw[List.getElem?_range h,kh h];simp[h]
 ·rw[Xz (by omega),Xz (by simp;omega)];rfl
noncomputable def stD(a p:List Int)(m:Nat):D:=Ig (cnt a p m 0) (cnt a p m 1)
theorem Ub {n s:Nat} {p:List Int} {v:Int} (hl:p.length≤6) (hs:s<p.length) (h2:p.getD s 0=2):evP 1000 G T (n+1) "told_further" [ju p,.int s,.int v]=.val (ju (p.set s v)):=by
 rw[jc (F:=Zr) (by rfl) rfl];simp only[Zr,Qi,enter];have gi:=j3f hs;rw[h2]at gi;have lp:(p.map D.int).length=p.length:=km ..;have w1:¬(HT.sIx (p.map D.int).length 0 none=0∧HT.sIx (p.map D.int).length (p.map D.int).length (some (s:Int))=(p.map D.int).length):=by rw[HT.sIx_nat,lp];omega
 have e1:(s:Int)+1=((s+1:Nat):Int):=by omega
 have w2:¬(HT.sIx (p.map D.int).length 0 (some ((s+1:Nat):Int))=0∧HT.sIx (p.map D.int).length (p.map D.int).length none=(p.map D.int).length):=by rw[HT.sIx_nat,lp];omega
 ext;rw[gi];ext;simp only[gN];ext;rw[j4e w1,e1,j4e w2,j5v (by omega),j5u (by omega)];ext;rw[ju,List.set_eq_take_append_cons_drop,if_pos hs];simp
theorem Jm{p:List Int}{m s:Nat}{v:Int}(hp:p.length=m)(hp3:∀t∈p,0≤t∧t<3)(hv:v=0∨v=1):(p.set s v).length=m∧∀t∈p.set s v,0≤t∧t<3:=by
 refine⟨by rw[T7];exact hp,fun t ht=>?_⟩;rcases List.mem_or_eq_of_mem_set ht with h|h
 ·exact hp3 t h
 ·rw[h];omega
theorem jcb{a p:List Int}{m:Nat}(h01:∀x∈a,x=0∨x=1)(hp:p.length=m)(hp3:∀t∈p,0≤t∧t<3):cnt a p m 0+cnt a p m 1=2^(p.countP fun t=>t==2):=by have h:=j2b h01 (inL p m);have h1:=congrArg List.length (Wn hp hp3);rw[Zx,Yv,km]at h1;unfold cnt;omega
theorem Up{p:List Int}{s:Nat}{v:Int}(hs:s<p.length)(h2:p.getD s 0=2)(hv:v=0∨v=1):((p.set s v).countP fun t=>t==2)+1=p.countP fun t=>t==2:=by
 have g:p[s]=2:=by rw[xf,kh hs]at h2;exact h2
 have e:p=p.take s++2::p.drop (s+1):=by have:=List.take_append_drop s p;rw[Pu hs,g]at this;exact this.symm
 rw[List.set_eq_take_append_cons_drop,if_pos hs]
 conv=>rhs;rw[e]
 rw[List.countP_append,List.countP_append,Py,Py];have hv2:(v==2)=false:=by rcases hv with h|h<;>subst h<;>rfl
 simp[hv2]
 try omega
noncomputable def J5(p:List Int)(m:Nat):List Nat:=(List.range m).filter fun(k:Nat)=>decide (p.getD k 0=2)
theorem Ov:∀(p:List Int),(J5 p p.length).length=p.countP fun t=>t==2:=by
 intro p;unfold J5;rw[←List.countP_eq_length_filter];have:∀(p:List Int),(List.range p.length).countP (fun(k:Nat)=>decide (p.getD k 0=2))=p.countP fun t=>t==2:=by
  intro p;induction p with
  |nil=>rfl
  |cons t ts ih =>
   rw[X4,List.range_succ_eq_map,Py,List.countP_map,Py,←ih];congr 1
   try simp only[List.getD_cons_zero]
   try (by_cases h:t=2<;>simp[h])
 exact this p
noncomputable def J7(t:Int):List Int:=if t=2 then[0,1,2] else[t]
theorem Iz {n:Nat} {p:List Int} (hp:p.length≤6):evP 1000 G T (n+2) "parts_in" [ju p]=.fresh (jz (qe (p.map J7))):=by
 rw[jc (F:=Uu) (by rfl) rfl];simp only[Uu,Vr,enter];ext;rw[qj (l:=jz (p.map J7)) (by rfl) ?_ ?_ (.inl rfl)]
 ·ext;rw[U5 Wq (fun f hf=>by obtain⟨t,_,rfl⟩:=Xf.mp hf;unfold J7;split<;>simp) (by rw[km];exact hp)];ext
 ·rw[km];omega
 ·rw[jz,Xe];refine jy fun t _=>za (by ext) ?_;by_cases h:t=2
  ·ext;simp only[gN];ext;simp only[gT];ext;simp[J7,h]
  ·ext;simp only[gN];ext;simp[J7,h]
theorem gF:G "FEWEST_PLACES" = some (.int 1):=by rfl
theorem gM:G "MOST_PLACES" = some (.int 6):=by rfl
theorem j4o {fu n:Nat} {m:Int} (h:1≤m∧m≤6):evP fu G T (n+1) "refuse_wrong_size" [.int m]=.val .non:=by rw[jc (F:=Q5) (by rfl) rfl];simp only[Q5,vh,enter];ext;simp only[gF];ext;simp only[gM];ext
theorem j17{n s:Nat}{p:List Int}{ks:List (List Int)}{ns:List Int}{x y:Int}(hl:p.length≤6)(hs:s<p.length)(h2:p.getD s 0=2)(hx:qw ks (ns.map D.int) (p.set s 0)=some (.int x))(hy:qw ks (ns.map D.int) (p.set s 1)=some (.int y)) :
  evP 1000 G T (n+2) "numbers_behind" [.dct ks (ns.map D.int),ju p,.int s]=.fresh ([x,y].map D.int):=by
 have t0:=Ub (n:=n) (v:=0) hl hs h2;have t1:=Ub (n:=n) (v:=1) hl hs h2;simp only[ju]at t0 t1 ⊢;rw[jc (F:=Qz) (by rfl) rfl];simp only[Qz,Jh,enter];ext;simp only[gA];ext;rw[qj (l:=[x,y].map D.int) (by rfl) (by decide) ?_ (.inr (vm _))]
 ·ext
 ·rw[Qh,za (d':=.int x) (by ext) (by ext;rw[t0];ext;rw[Dn hx])];rw[Qh,za (d':=.int y) (by ext) (by ext;rw[t1];ext;rw[Dn hy])];rfl
theorem j19(l:List (List Int))(h:∀k∈l,k.length=2):∀k,k<l.length→argBest (Ja l) k≤k∧∀j,j≤k→(l.getD (argBest (Ja l) k) []).getD 0 0≤(l.getD j []).getD 0 0:=by
 have two:∀i,i<l.length→∃a b,l.getD i []=[a,b]:=fun i hi=>by
  have e:l.getD i []=l[i]:=by rw[xf,kh hi];rfl
  have hm:=h _ (Ph hi);rw[e]
  match l[i],hm with|[a,b],_=>exact⟨a,b,rfl⟩
 intro k;induction k with
 |zero=>exact fun _=>⟨xx _,fun j hj=>by rw[Nat.le_zero.mp hj];exact Tg _⟩
 |succ k ih =>
  intro hk;obtain⟨h1,h2⟩:=ih (by omega);obtain⟨a,b,e1⟩:=two (k+1) hk;obtain⟨c,d,e2⟩:=two (argBest (Ja l) k) (by omega);rw[argBest];cases z:Ja l (k+1) (argBest (Ja l) k) with
  |true =>
   rw[if_pos rfl];refine⟨xx _,fun j hj=>?_⟩;have z:HT.lexLt (l.getD (k+1) []) (l.getD (argBest (Ja l) k) [])=true:=z;rw[e1,e2]at z;have z:a≤c:=by
    rw[HT.lexLt]at z;by_cases q:a=c
    ·omega
    ·rw[if_neg q]at z;have:=of_decide_eq_true z;omega
   rcases Nat.lt_or_ge j (k+1)with q|q
   ·have:=h2 j (by omega);rw[e2]at this;rw[e1];exact Int.le_trans z this
   ·rw[show j=k+1 by omega];exact Tg _
  |false =>
   rw[if_neg xg];refine⟨by omega,fun j hj=>?_⟩;have z:HT.lexLt (l.getD (k+1) []) (l.getD (argBest (Ja l) k) [])=false:=z;rw[e1,e2]at z;have z:c≤a:=by
    rw[HT.lexLt]at z;by_cases q:a=c
    ·omega
    ·rw[if_neg q]at z;have:=of_decide_eq_false z;omega
   rcases Nat.lt_or_ge j (k+1)with q|q
   ·exact h2 j (by omega)
   ·rw[show j=k+1 by omega,e1,e2];exact z
def V9(pr:List Int):Prop:=∀s,s<pr.length→0≤pr.getD s 0∧pr.getD s 0≤1000000
theorem j5w{n s:Nat}{p pr:List Int}{ks wk:List (List Int)}{ns wv:List Int}{w x y:Int}(hw:V9 pr∧qw wk (wv.map D.int) p=some (.int w))(hl:p.length≤6)(hs:s<p.length)(hr:s<pr.length)(h2:p.getD s 0=2)(hx:qw ks (ns.map D.int) (p.set s 0)=some (.int x))(hy:qw ks (ns.map D.int) (p.set s 1)=some (.int y)) :
  evP 1000 G T (n+3) (jo "whole_cost_of_ask") [.dct wk (wv.map D.int),.lst (pr.map D.int),.dct ks (ns.map D.int),ju p,.int s]=.lval (.int (pr.getD s 0*w+(x+y))):=by
 have b:=j17 (n:=n) hl hs h2 hx hy;have g:=j3f hr;have hb:=hw.1 s hr;rw[j21 (F:=Q3) (by rfl) rfl];simp only[Q3,vg,enter];simp only[ju]at b ⊢;ext;rw[g,Dn hw.2,b];ext;rw[show([D.int x,D.int y]:List D)=[x,y].map D.int from rfl,j9h];ext;rw[show[x,y].sum=x+y by simp]
theorem Wl:∀l:List Int,J6 (l.map D.int)=true
 |[]=>rfl
 |_::l=>by rw[xr,J6,Wl l];rfl
theorem Oz(ks:List (List Int))(ns:List Int):noFn (.dct ks (ns.map D.int))=true:=by rw[noFn,Wl]
theorem Ec(l:List Int):noFn (.tup (l.map D.int))=true:=by rw[noFn,Wl]
theorem at0(a b:D):atI [a,b] 0=some a:=rfl
theorem at1(a b:D):atI [a,b] 1=some b:=rfl
theorem Rb{n:Nat}{p pr:List Int}{ks:List (List Int)}{ns:List Int}{wk:List (List Int)}{wv:List Int}{w:Int}{V0 V1:Nat→Int}(hw:V9 pr∧qw wk (wv.map D.int) p=some (.int w))(hl:p.length≤6)(hr:pr.length=p.length)(ho:J5 p p.length≠[])
  (hx:∀s,s<p.length→p.getD s 0=2→qw ks (ns.map D.int) (p.set s 0)=some (.int (V0 s))∧qw ks (ns.map D.int) (p.set s 1)=some (.int (V1 s))) :
  ∃s:Nat,s∈J5 p p.length∧Zn ((J5 p p.length).map fun s=>pr.getD s 0*w+(V0 s+V1 s))=pr.getD s 0*w+(V0 s+V1 s)∧evP 1000 G T (n+4) "cheapest_ask" [.dct ks (ns.map D.int),ju p,.fn "whole_cost_of_ask" [.dct wk (wv.map D.int),.lst (pr.map D.int)]]=.val (.tup [.int (Zn ((J5 p p.length).map fun s=>pr.getD s 0*w+(V0 s+V1 s))),.int (s:Int)]):=by
 let kk:List (List Int):=(J5 p p.length).map fun(s:Nat)=>[pr.getD s 0*w+(V0 s+V1 s),(s:Int)]
 have kl:kk.length=(J5 p p.length).length:=km ..;have kp:0<(J5 p p.length).length:=List.length_pos_iff.mpr ho;obtain⟨b1,b2⟩:=j19 kk (fun k hk=>by obtain⟨s,_,e⟩:=Xf.mp hk;rw[←e];rfl) (kk.length-1) (by omega);have hi:argBest (Ja kk) (kk.length-1)<kk.length:=by omega
 have hk:kk[argBest (Ja kk) (kk.length-1)]?=some (kk.getD (argBest (Ja kk) (kk.length-1)) []):=by rw[xf,kh hi];rfl
 obtain⟨s0,hs0,e0⟩:=Xf.mp (Xl hk);have at':∀{t:Nat},t∈J5 p p.length→t<p.length∧p.getD t 0=2:=fun{t} ht=>by obtain⟨h1,h2⟩:=Xx.mp ht;exact⟨Xg.mp h1,of_decide_eq_true h2⟩
 have mn:Zn ((J5 p p.length).map fun s=>pr.getD s 0*w+(V0 s+V1 s))=pr.getD s0 0*w+(V0 s0+V1 s0):=by
  refine j1r (Xf.mpr ⟨s0,hs0,rfl⟩) fun c hc=>?_;obtain⟨t,ht,rfl⟩:=Xf.mp hc;obtain⟨j,hj,ej⟩:=T9.mp ht;have q:=b2 j (by omega);rw[←e0]at q;have e1:kk.getD j []=[pr.getD t 0*w+(V0 t+V1 t),(t:Int)]:=by rw[xf,X7,kh hj,ej];rfl
  rw[e1]at q;exact q
 refine⟨s0,hs0,mn,?_⟩;rw[mn,jc (F:=Zt) (by rfl) rfl];simp only[Zt,Qj,enter,ju];ext;rw[qj (l:=kk.map fun k=>D.tup (k.map D.int)) (by rfl) (by unfold Jf;rw[km,List.length_zipIdx,km];omega) ?_ (.inl rfl)];rotate_left
 ·rw[j5o,Xe];refine Ra fun s hs'=>?_;have hs:=Xg.mp hs';refine j6r ?_ fun hb=>?_
  ·ext;simp only[gN];ext;simp only[Do];ext
  ·have h2:p.getD s 0=2:=of_decide_eq_true hb;obtain⟨h0,h1⟩:=hx s hs h2;have c:=j5w (n:=n) (pr:=pr) hw hl hs (by omega) h2 h0 h1;simp only[ju]at c;ext;rw[j8t (by rw[J6,Oz,J6,Ec];rfl)];simp only[List.cons_append,List.nil_append];rw[c];ext;rfl
 ext;rw[jbh hk,←e0];ext
theorem j5c{n:Nat}{p pr:List Int}{ks:List (List Int)}{ns:List Int}{wk:List (List Int)}{wv:List Int}{w:Int}{V0 V1:Nat→Int}(hw:V9 pr∧qw wk (wv.map D.int) p=some (.int w))(hl:p.length≤6)(hr:pr.length=p.length)(ho:J5 p p.length≠[])
  (hx:∀s,s<p.length→p.getD s 0=2→qw ks (ns.map D.int) (p.set s 0)=some (.int (V0 s))∧qw ks (ns.map D.int) (p.set s 1)=some (.int (V1 s))) :
  evP 1000 G T (n+5) (jo "least_numbers") [.fn "whole_cost_of_ask" [.dct wk (wv.map D.int),.lst (pr.map D.int)],.dct ks (ns.map D.int),ju p]=.lval (.int (Zn ((J5 p p.length).map fun s=>pr.getD s 0*w+(V0 s+V1 s)))):=by
 obtain⟨s,_,_,e⟩:=Rb (n:=n) hw hl hr ho hx;rw[j21 (F:=Za) (by rfl) rfl];simp only[Za,Q6,enter];ext;rw[e];ext;rw[at0];ext
noncomputable def ql:List Int→Int
 |[]=>0
 |d::ds=>d*3^ds.length+ql ds
theorem Ux:∀{p:List Int},(∀t∈p,0≤t∧t<3)→0≤ql p∧ql p<3^p.length
 |[],_=>⟨by decide,by decide⟩
 |d::ds,h=>by
  obtain⟨h1,h2⟩:=Ux (p:=ds) fun t ht=>h t (kj _ ht);have hd:=h d xq;have hp:(0:Int)<3^ds.length:=Int.pow_pos (by decide);rw[ql,X4,Int.pow_succ];have:d=0∨d=1∨d=2:=by omega
  rcases this with e|e|e<;>subst e<;>exact⟨by omega,by omega⟩
theorem Be:∀{p:List Int},(∀t∈p,0≤t∧t<3)→jn 3 p.length (ql p)=p
 |[],_=>rfl
 |d::ds,h=>by have h':∀t∈ds,0≤t∧t<3:=fun t ht=>h t (kj _ ht);obtain⟨h1,h2⟩:=Ux h';have hd:=h d xq;have hp:(3:Int)^ds.length≠0:=Int.ne_of_gt (Int.pow_pos (by decide));rw[ql,X4,show d*3^ds.length+ql ds=ql ds+3^ds.length*d by rw[Int.mul_comm,Int.add_comm],jn,Bg (by decide) _ _ (xx _),Be h'];congr 1;rw[Int.add_mul_ediv_left _ _ hp,Int.ediv_eq_zero_of_lt h1 h2,Int.zero_add];omega
theorem Ob(i:Nat):∀m:Nat,ql (jn 3 m (i:Int))=((i%3^m:Nat):Int)
 |0=>by rw[Nat.pow_zero,Nat.mod_one];rfl
 |m+1=>by
  have pc:((3^m:Nat):Int)=(3:Int)^m:=by simp
  have e:((i/3^m%3:Nat):Int)=(i:Int)/3^m%3:=by rw[Int.natCast_emod,Int.natCast_ediv,pc];rfl
  rw[jn,ql,v9,Ob i m,Nat.pow_succ,Nat.mod_mul,Int.natCast_add,Int.natCast_mul,e,pc,Int.mul_comm,Int.add_comm]
theorem Ny:∀{p:List Int}{s:Nat}{c:Int},s<p.length→ql (p.set s c)=ql p+(c-p.getD s 0)*3^(p.length-1-s)
 |d::ds,0,c,_=>by rw[Pg,ql,ql,X4,List.getD_cons_zero,show ds.length+1-1-0=ds.length by omega,Int.sub_mul];omega
 |d::ds,s+1,c,h=>by have:=Ny (p:=ds) (s:=s) (c:=c) (by simpa using h);rw[pq,ql,ql,T7,X4,List.getD_cons_succ,this,show ds.length+1-1-(s+1)=ds.length-1-s by omega];omega
theorem Fp{m i s:Nat}{c:Nat}(hi:i<3^m)(hs:s<m)(h2:(jn 3 m (i:Int)).getD s 0=2)(hc:c=0∨c=1):(2-c)*3^(m-1-s)≤i∧(jn 3 m (i:Int)).set s (c:Int)=jn 3 m ((i-(2-c)*3^(m-1-s):Nat):Int):=by
 have hl:(jn 3 m (i:Int)).length=m:=v9 3 m _;have h3:∀t∈(jn 3 m (i:Int)).set s (c:Int),0≤t∧t<3:=(Jm hl (fun t ht=>Nm (by decide) ht) (by omega)).2;have l2:((jn 3 m (i:Int)).set s (c:Int)).length=m:=by rw[T7];exact hl
 have v:=Ny (p:=jn 3 m (i:Int)) (c:=(c:Int)) (hl▸hs);rw[Ob,Nat.mod_eq_of_lt hi,h2,hl]at v;obtain⟨b1,b2⟩:=Ux h3;have d:=Be h3;rw[l2]at d;have pc:((3^(m-1-s):Nat):Int)=(3:Int)^(m-1-s):=by simp
 have le:(2-c)*3^(m-1-s)≤i:=by
  have:(((2-c)*3^(m-1-s):Nat):Int)=(2-(c:Int))*3^(m-1-s):=by rw[Int.natCast_mul,pc];congr 1;omega
  have e2:((c:Int)-2)*3^(m-1-s) = -((2-(c:Int))*3^(m-1-s)):=by rw[←Int.neg_mul];congr 1;omega
  omega
 refine⟨le,?_⟩;rw[←d,v];congr 1;rw[Int.natCast_sub le,Int.natCast_mul,pc];have e2:((c:Int)-2)*3^(m-1-s) = -((2-(c:Int))*3^(m-1-s)):=by rw[←Int.neg_mul];congr 1;omega
 have e3:((2-c:Nat):Int)=2-(c:Int):=by omega
 rw[e2,e3];omega
noncomputable def stepV(pr:List Int)(wt:List Int→Int)(m:Nat)(t:List Int)(i:Nat):Int:=Zn ((J5 (jn 3 m (i:Int)) m).map fun s=>pr.getD s 0*wt (jn 3 m (i:Int))+(t.getD (i-2*3^(m-1-s)) 0+t.getD (i-1*3^(m-1-s)) 0))
noncomputable def Vb(pr:List Int)(wt:List Int→Int)(m:Nat)(op:List Int→Bool):Nat→List Int
 |0=>[]
 |i+1=>Vb pr wt m op i++[if op (jn 3 m (i:Int))=true then stepV pr wt m (Vb pr wt m op i) i else 0]
theorem Wj(pr:List Int)(wt:List Int→Int)(m:Nat)(op:List Int→Bool):∀i,(Vb pr wt m op i).length=i
 |0=>rfl
 |i+1=>by rw[Vb,X6,Wj pr wt m op i];rfl
noncomputable def opB(a:List Int)(m:Nat)(p:List Int):Bool:=(stD a p m).isNon
theorem W5{a p:List Int}{m:Nat}(h01:∀x∈a,x=0∨x=1)(hp:p.length=m)(hp3:∀t∈p,0≤t∧t<3)(h:opB a m p=true):J5 p m≠[]:=fun e=>by
 subst hp;have o:=Ov p;rw[e]at o;have c:=jcb (a:=a) h01 rfl hp3;rw[←o]at c;unfold opB stD Ig at h;have c:cnt a p p.length 0+cnt a p p.length 1=1:=c;split at h
 ·cases h
 ·split at h
  ·cases h
  ·omega
theorem gGN:G "GREATEST_NUMBER" = some (.int 1000000):=by rfl
theorem gLP:G "LEAST_PRICE" = some (.int 1):=by rfl
theorem gLW:G "LEAST_WEIGHT" = some (.int 0):=by rfl
theorem gPr:G (bang "WrongPrices")=some (.lst [.str "WrongPrices"]):=by rfl
theorem gWe:G (bang "WrongWeights")=some (.lst [.str "WrongWeights"]):=by rfl
theorem Es:(G (bang "WrongPrices")).isSome=true:=by rw[gPr];rfl
theorem Er:(G (bang "WrongWeights")).isSome=true:=by rw[gWe];rfl
noncomputable def btw(least x:Int):Bool:=decide (least≤x)&&decide (x≤1000000)
theorem Qn {n:Nat} {l:List Int} {least:Int} (hl:l.length≤1000):evP 1000 G T (n+1) "all_between" [.lst (l.map D.int),.int least]=.val (.bl (l.all (btw least))):=by
 rw[jc (F:=Vf) (by rfl) rfl];simp only[Vf,Qx,enter];ext;rw[qj (l:=(l.map (btw least)).map D.bl) (by rfl) (by rw[km];omega) ?_ (.inl rfl)]
 ·ext;rw[List.all_map];rfl
 ·rw[Xe];refine jy fun x _=>za (by ext) ?_;by_cases h1:least≤x
  ·by_cases h2:x≤1000000
   ·ext;simp only[gGN];ext;simp[btw,h1,h2]
   ·ext;simp only[gGN];ext;simp[btw,h1,h2]
  ·ext;simp[btw,h1]
theorem rep1(k:Nat):(List.replicate k [D.int 1]).flatten=(List.replicate k (1:Int)).map D.int:=by
 induction k with
 |zero=>rfl
 |succ k ih=>rw[Xu,t6,ih];rfl
theorem j4q {n m:Nat} (hm:m≤6):evP 1000 G T (n+1) "prices_told" [.int m,.non]=.fresh ((List.replicate m (1:Int)).map D.int):=by rw[jc (F:=zy) (by rfl) rfl];simp only[zy,vz,enter];ext;rw[Xc,rep1]
theorem j7d {n m:Nat} {pr:List Int} (hl:pr.length=m) (hm:m≤6) (h:pr.all (btw 1)=true):evP 1000 G T (n+2) "prices_told" [.int m,.lst (pr.map D.int)]=.fresh (pr.map D.int):=by rw[jc (F:=zy) (by rfl) rfl];simp only[zy,vz,enter];ext;simp only[gLP];ext;rw[Qn (by omega),h];ext
theorem By{a:Int}(h:-18446744073709551616<a∧a<18446744073709551616):zf (.int a)=some (Str.ofString (toString a)):=by unfold zf;exact if_pos h
theorem jh2{a b c:Int}{ρ:En}(ha:-18446744073709551616<a∧a<18446744073709551616)(hb:-18446744073709551616<b∧b<18446744073709551616)(hc:-18446744073709551616<c∧c<18446744073709551616) :
  Fx "WrongPrices" (Bc (some (.a [.e (.str "prices are "),.e (.int a),.e (.str " numbers from "),.e (.int b),.e (.str " to "),.e (.int c)]))) (G (bang "WrongPrices")) ρ=.err "WrongPrices" ρ:=by
 have s1:zf (.str "prices are ")=some (Str.ofString "prices are "):=by unfold zf;exact if_pos (by decide)
 have s2:zf (.str " numbers from ")=some (Str.ofString " numbers from "):=by unfold zf;exact if_pos (by decide)
 have s3:zf (.str " to ")=some (Str.ofString " to "):=by unfold zf;exact if_pos (by decide)
 rw[gPr,j5k (ys:=["prices are ",Str.ofString (toString a)," numbers from ",Str.ofString (toString b)," to ",Str.ofString (toString c)]) (by simp only[X4,Pn];omega) (by
  simp only[vo,Rk.d,By ha,By hb,By hc,s1,s2,s3])]
 rfl
theorem jh1{b c:Int}{ρ:En}(hb:-18446744073709551616<b∧b<18446744073709551616)(hc:-18446744073709551616<c∧c<18446744073709551616) :
  Fx "WrongWeights" (Bc (some (.a [.e (.str "weights are numbers from "),.e (.int b),.e (.str " to "),.e (.int c),.e (.str ", one for each row")]))) (G (bang "WrongWeights")) ρ=.err "WrongWeights" ρ:=by
 have s1:zf (.str "weights are numbers from ")=some (Str.ofString "weights are numbers from "):=by unfold zf;exact if_pos (by decide)
 have s2:zf (.str ", one for each row")=some (Str.ofString ", one for each row"):=by unfold zf;exact if_pos (by decide)
 have s3:zf (.str " to ")=some (Str.ofString " to "):=by unfold zf;exact if_pos (by decide)
 rw[gWe,j5k (ys:=["weights are numbers from ",Str.ofString (toString b)," to ",Str.ofString (toString c),", one for each row"]) (by simp only[X4,Pn];omega) (by
  simp only[vo,Rk.d,By hb,By hc,s1,s2,s3])]
 rfl
theorem j4r {n m:Nat} {pr:List Int} (hl:pr.length≤1000) (hm:m≤6) (h:pr.length≠m∨pr.all (btw 1)=false):evP 1000 G T (n+2) "prices_told" [.int m,.lst (pr.map D.int)]=.err "WrongPrices":=by
 rw[jc (F:=zy) (by rfl) rfl];simp only[zy,vz,enter];have rai:∀ρ:En,Fx "WrongPrices" (Bc (some (.a [.e (.str "prices are "),.e (.int m),.e (.str " numbers from "),.e (.int 1),.e (.str " to "),.e (.int 1000000)]))) (G (bang "WrongPrices")) ρ=.err "WrongPrices" ρ:=fun ρ=>jh2 (by omega) (by omega) (by omega);by_cases c:pr.length=m
 ·have h2:=h.resolve_left (by simpa using c);ext;simp only[gLP];ext;rw[Qn hl,h2];ext;simp only[gLP,gGN,W8,Wb];rw[rai];ext
 ·ext;simp only[gLP,gGN,W8,Wb];rw[rai];ext
theorem ones{m:Nat}(hm:1≤m∧m≤6):List.replicate ((m:Nat):Int).toNat (D.int 1)=(jn 2 m (2^m-1)).map D.int:=by
 rw[Xc];obtain rfl|rfl|rfl|rfl|rfl|rfl:m=1∨m=2∨m=3∨m=4∨m=5∨m=6:=by omega
 all_goals rfl
theorem Yi {n m:Nat} (hm:1≤m∧m≤6):evP 1000 G T (n+3) "count_of_rows" [.int m]=.val (.int ((2^m:Nat):Int)):=by
 rw[jc (F:=Zc) (by rfl) rfl];simp only[Zc,Q8,enter];have pc:((2^m:Nat):Int)=(2:Int)^m:=by simp
 have p2:=Ip (m:=m) (by omega);ext;rw[ones hm,Ru (n:=n) (by omega) (by omega)];ext;rw[pc];congr 2;omega
theorem p64{m:Nat}(h:m≤6):2^m≤64:=Nat.pow_le_pow_right (n:=2) (j:=6) (by decide) h
theorem jay {n m:Nat} {wt:List Int} (hm:1≤m∧m≤6) (hl:wt.length=2^m) (ha:wt.all (btw 0)=true) (hs:wt.sum≠0):evP 1000 G T (n+4) "refuse_wrong_weights" [.lst (wt.map D.int),.int m]=.val .non:=by
 rw[jc (F:=qz) (by rfl) rfl];simp only[qz,z9,enter];have p6:=p64 hm.2;have hl':wt.length≤1000:=by omega
 ext;rw[Yi hm];ext;simp only[gLW];ext;rw[Qn hl',ha];ext
theorem j78 {n m:Nat} {wt:List Int} (hm:1≤m∧m≤6) (hl:wt.length≤1000) (h:wt.length≠2^m∨wt.all (btw 0)=false∨wt.sum=0):evP 1000 G T (n+4) "refuse_wrong_weights" [.lst (wt.map D.int),.int m]=.err "WrongWeights":=by
 rw[jc (F:=qz) (by rfl) rfl];simp only[qz,z9,enter];have pc:((2^m:Nat):Int)=(2:Int)^m:=by simp
 have rai:∀ρ:En,Fx "WrongWeights" (Bc (some (.a [.e (.str "weights are numbers from "),.e (.int 0),.e (.str " to "),.e (.int 1000000),.e (.str ", one for each row")]))) (G (bang "WrongWeights")) ρ=.err "WrongWeights" ρ:=fun ρ=>jh1 (by omega) (by omega);by_cases c1:wt.length=2^m
 ·cases c2:wt.all (btw 0) with
  |false =>ext;rw[Yi hm];ext;simp only[gLW];ext;rw[Qn hl,c2];ext;simp only[gLW,gGN,W8,Wb];rw[rai];ext
  |true =>
   have c3:wt.sum=0:=by
    rcases h with h|h|h
    ·exact absurd c1 h
    ·rw[c2]at h;cases h
    ·exact h
   ext;rw[Yi hm];ext;simp only[gLW];ext;rw[Qn hl,c2];ext;simp only[gWe];ext
 ·ext;rw[Yi hm];have c1':(wt.length:Int)≠((2^m:Nat):Int):=by omega
  ext;simp only[gLW,gGN,W8,Wb];rw[rai];ext
theorem Mg {n m:Nat} {ws:List Str} {a:List Int} (hm:1≤m∧m≤6) (hw:ws.length=m):evP 1000 G T (n+1) "all_open" [qD ws a]=.val (ju (List.replicate m 2)):=by
 rw[jc (F:=Uw) (by rfl) rfl];simp only[Uw,Vt,enter,qD];ext;simp only[gN];ext;rw[at0];ext;rw[hw]
 first|rfl|simp[ju]
noncomputable def tab(pr:List Int)(wt:List Int→Int)(a:List Int)(m:Nat):List Int:=Vb pr wt m (opB a m) (3^m)
noncomputable def feD(d:Option (List Int)):D:=match d with
 |none=>.non
 |some l=>.lst (l.map D.int)
theorem j86{l l':List Int}{j:Nat}(h:j<l.length):(l++l').getD j 0=l.getD j 0:=by rw[xf,xf,Pa h]
theorem Og{wt:List Int→Int}{pr:List Int}{m:Nat}{op:List Int→Bool}{i j:Nat}(hj:j<i):∀{N:Nat},i≤N→(Vb pr wt m op N).getD j 0=(Vb pr wt m op i).getD j 0:=by
 intro N hN;induction N with
 |zero=>omega
 |succ N ih =>
  by_cases e:i=N+1
  ·rw[e]
  ·rw[Vb,j86 (by rw[Wj];omega)];exact ih (by omega)
theorem j1e{wt:List Int→Int}{pr:List Int}{m:Nat}{op:List Int→Bool}{j N:Nat}(hN:N≤3^m)(h:j<N):(Vb pr wt m op N).getD j 0=if op (jn 3 m (j:Int))=true then stepV pr wt m (Vb pr wt m op N) j else 0:=by
 rw[Og (i:=j+1) (by omega) (by omega),Vb,xf,List.getElem?_append_right (by rw[Wj];exact xx _),Wj,Nat.sub_self];show(if _ then _ else _)=_;have e:stepV pr wt m (Vb pr wt m op j) j=stepV pr wt m (Vb pr wt m op N) j:=by unfold stepV;congr 1;apply List.map_congr_left;intro s hs;obtain⟨q1,q2⟩:=Xx.mp hs;have hs':=Xg.mp q1;have h2:(jn 3 m (j:Int)).getD s 0=2:=of_decide_eq_true q2;obtain⟨l0,_⟩:=Fp (c:=0) (by omega:j<3^m) hs' h2 (.inl rfl);obtain⟨l1,_⟩:=Fp (c:=1) (by omega:j<3^m) hs' h2 (.inr rfl);have w:0<3^(m-1-s):=Nat.pos_of_ne_zero (by simp);rw[Og (i:=j) (j:=j-2*3^(m-1-s)) (N:=N) (by omega) (by omega),Og (i:=j) (j:=j-1*3^(m-1-s)) (N:=N) (by omega) (by omega)]
 rw[e]
noncomputable def Z8(p:List Int):Nat:=p.countP fun t=>t==2
set_option genInjectivity true in
inductive Pl where
 |tell (b:Int)
 |ask (p:Str) (n y:Pl)
noncomputable def pD:Pl→D
 |.tell b=>.tup [.str "tell",.int b]
 |.ask p n y=>.tup [.str "ask",.str p,pD n,pD y]
noncomputable def Wp(pr:List Int)(wt:List Int→Int)(a:List Int)(m:Nat)(p:List Int):Int:=(tab pr wt a m).getD (ql p).toNat 0
def Dv(ws:List Str)(pr:List Int)(wt:List Int→Int)(a:List Int)(m:Nat):Pl→List Int→Prop
 |.tell b,p=>stD a p m=.int b
 |.ask w n y,p=>opB a m p=true∧∃s,s∈J5 p m∧ws[s]?=some w∧Wp pr wt a m p=pr.getD s 0*wt p+(Wp pr wt a m (p.set s 0)+Wp pr wt a m (p.set s 1))∧Dv ws pr wt a m n (p.set s 0)∧Dv ws pr wt a m y (p.set s 1)
theorem j3e{p:List Int}{m:Nat}(hp:p.length=m)(hp3:∀t∈p,0≤t∧t<3):(ql p).toNat<3^m∧p=jn 3 m ((ql p).toNat:Int):=by
 obtain⟨b1,b2⟩:=Ux hp3;have pc:((3^m:Nat):Int)=(3:Int)^m:=by simp
 rw[hp,←pc]at b2;refine⟨by omega,?_⟩;rw[Int.toNat_of_nonneg b1,←hp];exact(Be hp3).symm
theorem ja3{wt:List Int→Int}{p pr a:List Int}{m s c:Nat}(hp:p.length=m)(hp3:∀t∈p,0≤t∧t<3)(hs:s<m)(h2:p.getD s 0=2)(hc:c=0∨c=1):Wp pr wt a m (p.set s (c:Int))=(tab pr wt a m).getD ((ql p).toNat-(2-c)*3^(m-1-s)) 0:=by obtain⟨h1,e⟩:=j3e hp hp3;have t:=Fp (m:=m) (i:=(ql p).toNat) (s:=s) (c:=c) h1 hs (by rw[←e];exact h2) hc;rw[←e]at t;unfold Wp;rw[t.2,Ob,Xc,Nat.mod_eq_of_lt (by omega)]
theorem j0j{wt:List Int→Int}{p pr a:List Int}{m:Nat}(hp:p.length=m)(hp3:∀t∈p,0≤t∧t<3)(ho:opB a m p=true):Wp pr wt a m p=Zn ((J5 p m).map fun s=>pr.getD s 0*wt p+(Wp pr wt a m (p.set s 0)+Wp pr wt a m (p.set s 1))):=by obtain⟨h1,e⟩:=j3e hp hp3;have t:=j1e (pr:=pr) (wt:=wt) (op:=opB a m) (xx (3^m)) h1;rw[←e,if_pos ho]at t;refine Eq.trans t ?_;unfold stepV;rw[←e];congr 1;apply List.map_congr_left;intro s hs;obtain⟨q1,q2⟩:=Xx.mp hs;have hs':=Xg.mp q1;have h2:p.getD s 0=2:=of_decide_eq_true q2;have w0:=ja3 (pr:=pr) (wt:=wt) (a:=a) (c:=0) hp hp3 hs' h2 (.inl rfl);have w1:=ja3 (pr:=pr) (wt:=wt) (a:=a) (c:=1) hp hp3 hs' h2 (.inr rfl);have w0:Wp pr wt a m (p.set s 0)=_:=w0;have w1:Wp pr wt a m (p.set s 1)=_:=w1;rw[w0,w1];rfl
theorem Bm{wt:List Int→Int}{p pr a:List Int}{m:Nat}(hp:p.length=m)(hp3:∀t∈p,0≤t∧t<3)(ho:opB a m p=false):Wp pr wt a m p=0:=by obtain⟨h1,e⟩:=j3e hp hp3;have t:=j1e (pr:=pr) (wt:=wt) (op:=opB a m) (xx (3^m)) h1;rw[←e,ho,if_neg xg]at t;exact t
noncomputable def PK(p:List Int):List (List Int):=Jc (p.map J7)
theorem Yn{t:Int}{p q:List Int}:q∈PK (t::p) ↔ ∃x∈J7 t,∃r∈PK p,q=x::r:=by
 unfold PK;rw[xr,Jc,List.mem_flatMap];constructor
 ·rintro⟨x,hx,h⟩;obtain⟨r,hr,e⟩:=Xf.mp h;exact⟨x,hx,r,hr,e.symm⟩
 ·rintro⟨x,hx,r,hr,e⟩;exact⟨x,hx,Xf.mpr ⟨r,hr,e.symm⟩⟩
theorem j20{t x:Int}(h:x∈J7 t):(t=2∧(x=0∨x=1∨x=2))∨(t≠2∧x=t):=by
 unfold J7 at h;split at h
 ·rename_i e;simp only[xm,List.not_mem_nil,or_false]at h;exact .inl ⟨e,h⟩
 ·rename_i e;exact .inr ⟨e,xu.mp h⟩
theorem K6:∀{p q:List Int},(∀t∈p,0≤t∧t<3)→q∈PK p→q.length=p.length∧∀t∈q,0≤t∧t<3
 |[],q,_,h=>by have e:q=[]:=xu.mp h;rw[e];exact⟨rfl,fun t ht=>nomatch ht⟩
 |t::p,q,h3,h=>by
  obtain⟨x,hx,r,hr,e⟩:=Yn.mp h;obtain⟨h1,h2⟩:=K6 (fun t ht=>h3 t (kj _ ht)) hr;have ht:=h3 t xq;subst e;refine⟨by rw[X4,X4,h1],fun y hy=>?_⟩;rcases xm.mp hy with q|q
  ·subst q;rcases j20 hx with ⟨_,z⟩|⟨_,z⟩<;>omega
  ·exact h2 y q
theorem j4u:∀{p q:List Int}{s:Nat}{c:Int},q∈PK p→q.getD s 0=2→(c=0∨c=1)→q.set s c∈PK p
 |[],q,s,c,h,h2,_=>by have e:q=[]:=xu.mp h;rw[e]at h2;simp at h2
 |t::p,q,s,c,h,h2,hc=>by
  obtain⟨x,hx,r,hr,e⟩:=Yn.mp h;subst e;cases s with
  |zero =>
   rw[List.getD_cons_zero]at h2;rw[Pg];refine Yn.mpr ⟨c,?_,r,hr,rfl⟩;rcases j20 hx with ⟨z,_⟩|⟨z,z2⟩
   ·rw[z];unfold J7;rw[if_pos rfl];rcases hc with q|q<;>rw[q]<;>simp
   ·exact absurd (z2▸h2) z
  |succ s =>rw[List.getD_cons_succ]at h2;rw[pq];exact Yn.mpr ⟨x,hx,_,j4u hr h2 hc,rfl⟩
theorem Rw:∀{p:List Int},(∀t∈p,0≤t∧t<3)→(PK p).Pairwise fun x y=>ql x<ql y
 |[],_=>List.pairwise_singleton _ _
 |t::p,h3=>by
  have h3':∀t∈p,0≤t∧t<3:=fun t ht=>h3 t (kj _ ht);have ih:=Rw h3';have bd:∀r∈PK p,0≤ql r∧ql r<3^p.length∧r.length=p.length:=fun r hr=>by obtain⟨h1,h2⟩:=K6 h3' hr;obtain⟨b1,b2⟩:=Ux h2;rw[h1]at b2;exact⟨b1,b2,h1⟩
  have one:∀c:Int,((PK p).map (c :: ·)).Pairwise fun x y=>ql x<ql y:=fun c=>by rw[List.pairwise_map];refine ih.imp_of_mem fun{x y} hx hy h=>?_;rw[ql,ql,(bd x hx).2.2,(bd y hy).2.2];omega
  have two:∀{c d:Int},c<d→∀x∈(PK p).map (c :: ·),∀y∈(PK p).map (d :: ·),ql x<ql y:=fun{c d} hcd x hx y hy=>by
   obtain⟨r,hr,rfl⟩:=Xf.mp hx;obtain⟨r',hr',rfl⟩:=Xf.mp hy;obtain⟨b1,b2,b3⟩:=bd r hr;obtain⟨d1,d2,d3⟩:=bd r' hr';show c*3^r.length+ql r<d*3^r'.length+ql r';rw[b3,d3];have:c*3^p.length+3^p.length≤d*3^p.length:=by have h:=Int.mul_le_mul_of_nonneg_right (show c+1≤d by omega) (show(0:Int)≤3^p.length by exact Int.le_of_lt (Int.pow_pos (by decide)));rw[Int.add_mul,Int.one_mul]at h;exact h
   omega
  by_cases e:t=2
  ·have ek:PK (t::p)=(PK p).map (0 :: ·)++((PK p).map (1 :: ·)++(PK p).map (2 :: ·)):=by unfold PK;rw[xr,Jc,e];simp[J7]
   rw[ek];refine List.pairwise_append.mpr ⟨one 0,List.pairwise_append.mpr ⟨one 1,one 2,two (by decide)⟩,fun x hx y hy=>?_⟩;rcases t7.mp hy with q|q
   ·exact two (by decide) x hx y q
   ·exact two (by decide) x hx y q
  ·have ek:PK (t::p)=(PK p).map (t :: ·):=by unfold PK;rw[xr,Jc];simp[J7,e]
   rw[ek];exact one t
theorem Ir{p:List Int}(h3:∀t∈p,0≤t∧t<3):(PK p).Nodup:=(Rw h3).imp fun h e=>by rw[e]at h;omega
theorem j7g{p r:List Int}{i:Nat}(h3:∀t∈p,0≤t∧t<3)(hi:i<(PK p).length)(hr:r∈PK p)(hv:ql r<ql (PK p)[i]):r∈(PK p).take i:=by
 obtain⟨j,hj,rfl⟩:=T9.mp hr;have hs:=List.pairwise_iff_getElem.mp (Rw h3);have:j<i:=by
  rcases Nat.lt_or_ge j i with q|q
  ·exact q
  ·rcases Nat.eq_or_lt_of_le q with q|q
   ·subst q;omega
   ·have:=hs i j hi hj q;omega
 exact T9.mpr ⟨j,by rw[Xq];omega,List.getElem_take⟩
theorem Bh{f:List Int→D}:∀{ks:List (List Int)} {q:List Int},q∈ks→qw ks (ks.map f) q=some (f q)
 |k::ks,q,h=>by
  rw[xr,qw];by_cases e:k=q
  ·rw[if_pos e,e]
  ·rw[if_neg e];exact Bh ((xm.mp h).resolve_left fun z=>e z.symm)
theorem Iu:∀{p:List Int},(PK p).length≤3^p.length
 |[]=>xx _
 |t::p=>by
  have ih:=Iu (p:=p);by_cases e:t=2
  ·have ek:PK (t::p)=(PK p).map (0 :: ·)++((PK p).map (1 :: ·)++(PK p).map (2 :: ·)):=by unfold PK;rw[xr,Jc,e];simp[J7]
   rw[ek,X6,X6,km,km,km,X4,Nat.pow_succ];omega
  ·have ek:PK (t::p)=(PK p).map (t :: ·):=by unfold PK;rw[xr,Jc];simp[J7,e]
   rw[ek,km,X4,Nat.pow_succ];omega
theorem j4v:∀{m:Nat}{q:List Int},q.length=m→(∀t∈q,0≤t∧t<3)→q∈PK (List.replicate m 2)
 |0,q,h,_=>by rw[List.length_eq_zero_iff.mp h];exact xu.mpr rfl
 |m+1,[],h,_=>by cases h
 |m+1,x::q,h,h3=>by
  have hx:=h3 x xq;refine Yn.mpr ⟨x,?_,q,j4v (by simpa using h) (fun t ht=>h3 t (kj _ ht)),rfl⟩;have:x=0∨x=1∨x=2:=by omega
  unfold J7;rw[if_pos rfl];rcases this with e|e|e<;>rw[e]<;>simp
theorem Np{f:List Int→Int}{p:List Int}{m:Nat}(hp:p.length=m)(hp3:∀t∈p,0≤t∧t<3):qw (PK (List.replicate m 2)) (((PK (List.replicate m 2)).map f).map D.int) p=some (.int (f p)):=by rw[Xe];exact Bh (f:=fun q=>D.int (f q)) (j4v hp hp3)
theorem j56{f1 f2:En→Option D}{A B C:D}{L:List (List Int)}{W:List Int→Int}{op:List Int→Bool}(hm:L.length≤1000000)(nd:L.Nodup)
  (h1:∀(q:List Int)(s5:Sv),q∈L→f1 [.val A,.val B,.val C,.un,.val (.tup (q.map D.int)),s5]=some (.bl (!op q)))
  (h2:∀(i:Nat)(hi:i<L.length),f2 [.val A,.val B,.val C,.val (.dct (L.take i) (((L.take i).map W).map D.int)),.val (.tup (L[i].map D.int)),.val (.bl (!op L[i]))]=some (.int (W L[i]))) :
  ∀(r i:Nat)(s4 s5:Sv),i+r=L.length→Yc f1 f2 3 4 5 (jz (L.drop i)) [.val A,.val B,.val C,.un,s4,s5] (L.take i) ((L.take i).map W)=some (L,L.map W):=by
 intro r;induction r with
 |zero =>intro i s4 s5 e;rw[Nat.add_zero]at e;rw[List.drop_of_length_le (by omega),T3 (by omega)];rfl
 |succ r ih =>
  intro i s4 s5 e;have hi:i<L.length:=by omega
  have ed:L.drop i=L[i]::L.drop (i+1):=Pu hi;have et:L.take (i+1)=L.take i++[L[i]]:=by rw[List.take_add_one,kh hi];rfl
  have nc:(L.take i).contains L[i]=false:=by
   have nd:=nd;rw[←List.take_append_drop i L,ed]at nd;have:=(List.nodup_append.mp nd).2.2;cases z:(L.take i).contains L[i] with
   |false=>rfl
   |true=>exact absurd rfl (this _ (by simpa using z) _ xq)
  have ll:(L.take i).length<sizeLine:=lt_size (by rw[Xq];omega);have g:=ih (i+1) (.val (.tup (L[i].map D.int))) (.val (.bl (!op L[i]))) (by omega);rw[et,Xj,xr,Pj]at g;rw[ed,jz,xr,←jz,Yc];simp only[ju,Q4,Pg,pq,h1 _ _ (Ph hi),h2 i hi];rw[if_pos ⟨nc,ll⟩];exact g
theorem j2h{wt:List Int→Int}{wk:List (List Int)}{wv:List Int}{n m:Nat}{ws:List Str}{a pr p:List Int}(hw:ws.length=m)(hm:1≤m∧m≤6)(ha:a.length=2^m)(h01:∀x∈a,x=0∨x=1)(hr:pr.length=m)(hp:p.length=m)(hp3:∀t∈p,0≤t∧t<3)(hW:∀q:List Int,q.length=m→(∀t∈q,0≤t∧t<3)→V9 pr∧qw wk (wv.map D.int) q=some (.int (wt q))) :
  evP 1000 G T (n+6) "numbers_within" [ju p,qD ws a,.fn "least_numbers" [.fn "whole_cost_of_ask" [.dct wk (wv.map D.int),.lst (pr.map D.int)]]]=.val (.dct (PK p) (((PK p).map (Wp pr wt a m)).map D.int)):=by
 rw[jc (F:=Qy) (by rfl) rfl];simp only[Qy,Jg,enter];have pk:evP 1000 G T (n+5) "parts_in" [ju p]=.fresh (jz (PK p)):=by rw[Iz (n:=n+3) (by omega),Zx];rfl
 have p3:=jdr hm.2;have pl:=Iu (p:=p);rw[hp]at pl;have pok:∀q∈PK p,q.length=m∧∀t∈q,0≤t∧t<3:=fun q hq=>by rw[←hp];exact K6 hp3 hq
 have hd:=j56 (f1:=fun ρ=>stOf (ev (evP 1000 G T (n+5)) G (.not (.isN (.call "settled_by" (.cons (.var 1) (.cons (.var 4) .nil))))) ρ))
  (f2:=fun ρ=>stOf (ev (evP 1000 G T (n+5)) G (.ite (.var 5) (.lit (.int 0)) (.callV 2 (.cons (.var 3) (.cons (.var 4) .nil)))) ρ))
  (A:=ju p) (B:=qD ws a) (C:=.fn "least_numbers" [.fn "whole_cost_of_ask" [.dct wk (wv.map D.int),.lst (pr.map D.int)]]) (L:=PK p) (W:=Wp pr wt a m) (op:=opB a m) (by omega) (Ir hp3)
  (fun q s5 hq=>by
   have sp:evP 1000 G T (n+5) "settled_by" [.tup [.tup (ws.map D.str),.tup (a.map D.int)],ju q]=.val (stD a q m):=Ro (n:=n) hm ha (pok q hq).1 (pok q hq).2
   simp only[ju]at sp
   simp only[qD]
   ext
   rw[sp]
   ext
   simp only[opB])
  (fun i hi=>by
   have hq:=Ph hi
   obtain⟨q1,q2⟩:=pok _ hq
   cases z:opB a m (PK p)[i] with
   |false =>
    simp only[Bool.not_false]
    ext
    rw[Bm q1 q2 z]
   |true =>
    simp only[Bool.not_true]
    have sub:∀(s:Nat)(c:Int),s<(PK p)[i].length→(PK p)[i].getD s 0=2→(c=0∨c=1)→qw ((PK p).take i) (((((PK p).take i).map (Wp pr wt a m))).map D.int) ((PK p)[i].set s c)=some (.int (Wp pr wt a m ((PK p)[i].set s c))):=fun s c hs h2 hc=>by
     rw[Xe]
     refine Bh (f:=fun q=>D.int (Wp pr wt a m q)) (j7g hp3 hi (j4u hq h2 hc) ?_)
     rw[Ny hs,h2]
     have:(0:Int)<3^((PK p)[i].length-1-s):=Int.pow_pos (by decide)
     rcases hc with e|e<;>subst e<;>omega
    have L:=j5c (n:=n) (p:=(PK p)[i]) (pr:=pr) (ks:=(PK p).take i) (ns:=((PK p).take i).map (Wp pr wt a m)) (V0:=fun s=>Wp pr wt a m ((PK p)[i].set s 0)) (V1:=fun s=>Wp pr wt a m ((PK p)[i].set s 1))
     (hW _ q1 q2) (by omega) (by omega) (by rw[q1];exact W5 h01 q1 q2 z) (fun s hs h2=>⟨sub s 0 hs h2 (.inl rfl),sub s 1 hs h2 (.inr rfl)⟩)
    have wo:=j0j (pr:=pr) (wt:=wt) q1 q2 z
    rw[q1,←wo]at L
    simp only[ju]at L
    ext
    rw[j8u (by rw[J6,Oz,J6,Ec];rfl)]
    simp only[List.cons_append,List.nil_append]
    rw[L]
    ext)
  (PK p).length 0 .un .un (T4 _)
 have hi:ev (evP 1000 G T (n+5)) G (.seq (.call "parts_in" (.cons (.var 0) .nil))) [.val (ju p),.val (qD ws a),.val (.fn "least_numbers" [.fn "whole_cost_of_ask" [.dct wk (wv.map D.int),.lst (pr.map D.int)]]),.un,.un,.un]=some (.i (jz (PK p))):=by ext;rw[pk];ext
 have ru:=j4m (fu:=1000) (Γ:=evP 1000 G T (n+5)) (G:=G) (ρ:=[.val (ju p),.val (qD ws a),.val (.fn "least_numbers" [.fn "whole_cost_of_ask" [.dct wk (wv.map D.int),.lst (pr.map D.int)]]),.un,.un,.un]) (x:=3) (t:=4) (y:=5) ⟨by simp,by simp,by simp,by decide,by decide,by decide⟩ hi hd;exact congrArg fin ru
theorem O6{wt:List Int→Int}{wk:List (List Int)}{wv:List Int}{n m:Nat}{ws:List Str}{a pr p:List Int}(hw:ws.length=m)(hm:1≤m∧m≤6)(ha:a.length=2^m)(h01:∀x∈a,x=0∨x=1)(hr:pr.length=m)(hp:p.length=m)(hp3:∀t∈p,0≤t∧t<3)(hW:∀q:List Int,q.length=m→(∀t∈q,0≤t∧t<3)→V9 pr∧qw wk (wv.map D.int) q=some (.int (wt q))) :
  evP 1000 G T (n+7) "least_numbers" [ju p,qD ws a,.fn "whole_cost_of_ask" [.dct wk (wv.map D.int),.lst (pr.map D.int)]]=.val (.dct (PK p) (((PK p).map (Wp pr wt a m)).map D.int)):=by
 rw[jc (F:=Zb) (by rfl) rfl];simp only[Zb,Q7,enter];ext;rw[j2h (n:=n) hw hm ha h01 hr hp hp3 hW,jav (Oz ..)];ext
theorem j4b {n:Nat} {d:D}:evP 1000 G T (n+1) "telling" [d]=.val (.tup [.str "tell",d]):=by rw[jc (F:=Wr) (by rfl) rfl];simp only[Wr,Yj,enter];ext
theorem j96 {n:Nat} {x y z:D}:evP 1000 G T (n+1) "asking" [x,y,z]=.val (.tup [.str "ask",x,y,z]):=by rw[jc (F:=M6) (by rfl) rfl];simp only[M6,Ur,enter];ext;rw[show Rh (some (W.a [Rk.e (.str "ask"),Rk.e x,Rk.e y,Rk.e z]))=some (.v (.e (.tup [.str "ask",x,y,z])))from rfl];ext
theorem j4d{a p:List Int}{m:Nat}(h:opB a m p=false):∃b:Int,stD a p m=.int b:=by
 unfold opB at h;unfold stD Ig at h ⊢;split
 ·exact⟨_,rfl⟩
 ·rename_i h1;rw[if_neg h1]at h;split
  ·exact⟨_,rfl⟩
  ·rename_i h0;rw[if_neg h0]at h;cases h
theorem jad{a p:List Int}{m:Nat}(h:opB a m p=true):stD a p m=.non:=by
 unfold opB at h;unfold stD Ig at h ⊢;split at h
 ·cases h
 ·rename_i h1;rw[if_neg h1];split at h
  ·cases h
  ·rename_i h0;rw[if_neg h0]
theorem O4{wt:List Int→Int}{wk:List (List Int)}{wv:List Int}{ws:List Str}{a pr p:List Int}{m n:Nat}(hm:1≤m∧m≤6)(ha:a.length=2^m)(hp:p.length=m)(hp3:∀t∈p,0≤t∧t<3)(ho:opB a m p=false) :
  ∃pl,Dv ws pr wt a m pl p∧evP 1000 G T (n+6) "least_plan_at" [ju p,qD ws a,.fn "whole_cost_of_ask" [.dct wk (wv.map D.int),.lst (pr.map D.int)],.dct (PK (List.replicate m 2)) (((PK (List.replicate m 2)).map (Wp pr wt a m)).map D.int)]=.val (pD pl):=by
 have sp:evP 1000 G T (n+5) "settled_by" [.tup [.tup (ws.map D.str),.tup (a.map D.int)],ju p]=.val (stD a p m):=Ro (n:=n) hm ha hp hp3;obtain⟨b,eb⟩:=j4d ho;refine⟨.tell b,eb,?_⟩;rw[eb]at sp;simp only[ju]at sp;rw[jc (F:=J3) (by rfl) rfl];simp only[J3,J4,enter,qD,ju];ext;rw[sp];ext;rw[j4b];ext;rfl
theorem jb4{wt:List Int→Int}{wk:List (List Int)}{wv:List Int}{ws:List Str}{a pr:List Int}{m:Nat}(hw:ws.length=m)(hm:1≤m∧m≤6)(ha:a.length=2^m)(h01:∀x∈a,x=0∨x=1)(hr:pr.length=m)(hW:∀q:List Int,q.length=m→(∀t∈q,0≤t∧t<3)→V9 pr∧qw wk (wv.map D.int) q=some (.int (wt q))):∀(k n:Nat)(p:List Int),Z8 p=k→p.length=m→(∀t∈p,0≤t∧t<3) →
  ∃pl,Dv ws pr wt a m pl p∧evP 1000 G T (n+k+6) "least_plan_at" [ju p,qD ws a,.fn "whole_cost_of_ask" [.dct wk (wv.map D.int),.lst (pr.map D.int)],.dct (PK (List.replicate m 2)) (((PK (List.replicate m 2)).map (Wp pr wt a m)).map D.int)]=.val (pD pl):=by
 intro k;induction k with
 |zero =>
  intro n p hk hp hp3;cases ho:opB a m p with
  |true =>have ne:=W5 h01 hp hp3 ho;have:=Ov p;rw[hp]at this;rw[show(p.countP fun t=>t==2)=0 from hk]at this;exact absurd (List.length_eq_zero_iff.mp this) ne
  |false=>exact O4 (n:=n+0) hm ha hp hp3 ho
 |succ k ih =>
  intro n p hk hp hp3;cases ho:opB a m p with
  |false=>exact O4 (n:=n+(k+1)) hm ha hp hp3 ho
  |true =>
   have sp:evP 1000 G T (n+k+6) "settled_by" [.tup [.tup (ws.map D.str),.tup (a.map D.int)],ju p]=.val (stD a p m):=Ro (n:=n+k+1) hm ha hp hp3;rw[jad ho]at sp;obtain⟨s,hs,mn,ce⟩:=Rb (n:=n+k+2) (p:=p) (pr:=pr) (ks:=PK (List.replicate m 2)) (ns:=(PK (List.replicate m 2)).map (Wp pr wt a m)) (V0:=fun s=>Wp pr wt a m (p.set s 0)) (V1:=fun s=>Wp pr wt a m (p.set s 1)) (hW p hp hp3) (by omega) (by omega) (by rw[hp];exact W5 h01 hp hp3 ho)
    (fun s _ _=>⟨Np (Jm hp hp3 (.inl rfl)).1 (Jm hp hp3 (.inl rfl)).2,Np (Jm hp hp3 (.inr rfl)).1 (Jm hp hp3 (.inr rfl)).2⟩)
   rw[hp]at hs mn ce;obtain⟨q1,q2⟩:=Xx.mp hs;have hs':=Xg.mp q1;have h2:p.getD s 0=2:=of_decide_eq_true q2;have c0:Z8 (p.set s 0)+1=Z8 p:=Up (by omega) h2 (.inl rfl);have c1:Z8 (p.set s 1)+1=Z8 p:=Up (by omega) h2 (.inr rfl);obtain⟨pl0,b0,e0⟩:=ih n (p.set s 0) (by omega) (Jm hp hp3 (.inl rfl)).1 (Jm hp hp3 (.inl rfl)).2;obtain⟨pl1,b1,e1⟩:=ih n (p.set s 1) (by omega) (Jm hp hp3 (.inr rfl)).1 (Jm hp hp3 (.inr rfl)).2;have t0:=Ub (n:=n+k+5) (p:=p) (s:=s) (v:=0) (by omega) (by omega) h2;have t1:=Ub (n:=n+k+5) (p:=p) (s:=s) (v:=1) (by omega) (by omega) h2;have gw:ws[s]?=some (ws[s]'(by omega)):=kh (by omega);have ga:atI (ws.map D.str) (s:Int)=some (.str (ws[s]'(by omega))):=Us (by rw[X7,gw];rfl);refine⟨.ask (ws[s]'(by omega)) pl0 pl1,⟨ho,s,hs,gw,(j0j hp hp3 ho).trans mn,b0,b1⟩,?_⟩;simp only[ju,qD]at sp ce e0 e1 t0 t1 ⊢;rw[show n+(k+1)+6=(n+k+6)+1 by omega,jc (F:=J3) (by rfl) rfl];simp only[J3,J4,enter];ext;rw[sp];ext;rw[ce];ext;rw[at1];ext;rw[t0];ext;rw[Ju rfl,e0];ext;rw[t1];ext;rw[Ju rfl,e1];ext;rw[at0];ext;rw[ga];ext;rw[j96];ext;rfl
theorem Yq(m:Nat):∀t∈List.replicate m (2:Int),0≤t∧t<3:=fun t ht=>by rw[(T5.mp ht).2];decide
theorem j7r{wt:List Int→Int}{wk:List (List Int)}{wv:List Int}{n m:Nat}{ws:List Str}{a pr:List Int}(hw:ws.length=m)(hm:1≤m∧m≤6)(ha:a.length=2^m)(h01:∀x∈a,x=0∨x=1)(hr:pr.length=m)(hW:∀q:List Int,q.length=m→(∀t∈q,0≤t∧t<3)→V9 pr∧qw wk (wv.map D.int) q=some (.int (wt q))) :
  ∃pl,Dv ws pr wt a m pl (List.replicate m 2)∧evP 1000 G T (n+13) "least_plan" [qD ws a,.fn "whole_cost_of_ask" [.dct wk (wv.map D.int),.lst (pr.map D.int)]]=.val (pD pl):=by
 have t2:Z8 (List.replicate m 2)≤6:=Xm List.countP_le_length (by rw[Xp];exact hm.2);obtain⟨pl,hb,e⟩:=jb4 hw hm ha h01 hr hW (Z8 (List.replicate m 2)) (n+6-Z8 (List.replicate m 2)) (List.replicate m 2) rfl (Xp ..) (Yq m);refine⟨pl,hb,?_⟩;rw[show n+6-Z8 (List.replicate m 2)+Z8 (List.replicate m 2)+6=n+12 by omega]at e;have ao:=Mg (n:=n+11) (a:=a) hm hw;have nm:=O6 (n:=n+5) hw hm ha h01 hr (Xp ..) (Yq m) hW;rw[jc (F:=Y5) (by rfl) rfl];simp only[Y5,Z5,enter];ext;rw[ao];ext;rw[nm];ext;rw[Ju rfl,e];ext
noncomputable def wsum(w:List Int)(m:Nat)(p:List Int):Int:=((inL p m).map fun(k:Nat)=>w.getD k 0).sum
theorem j99(m:Nat):(List.replicate m [D.tup [.int 0,.int 1,.int 2]]).flatten=jz ((List.replicate m (2:Int)).map J7):=by
 induction m with
 |zero=>rfl
 |succ k ih=>rw[Xu,t6,ih];rfl
theorem j7j {n m:Nat} (h:1≤m∧m≤6):evP 1000 G T (n+2) "parts_of" [.int m]=.fresh (jz (PK (List.replicate m 2))):=by rw[jc (F:=Ut) (by rfl) rfl];simp only[Ut,Vq,enter];ext;rw[j4o (n:=n) (by omega)];ext;simp only[gT];ext;rw[Xc,j99,U5 Wq (fun f hf=>by obtain⟨t,_,rfl⟩:=Xf.mp hf;unfold J7;split<;>simp) (by rw[km,Xp];omega)];ext;rw[Zx];rfl
theorem j42{f2:En→Option D}{A B:D}{L:List (List Int)}{W:List Int→Int}(hm:L.length≤1000000)(nd:L.Nodup)
  (h2:∀(q:List Int)(d:D),q∈L→f2 [.val A,.val B,.val d,.val (.tup (q.map D.int)),.un]=some (.int (W q))) :
  ∀(r i:Nat)(s3:Sv),i+r=L.length→Y9 f2 2 3 (jz (L.drop i)) [.val A,.val B,.un,s3,.un] (L.take i) ((L.take i).map W)=some (L,L.map W):=by
 intro r;induction r with
 |zero =>intro i s3 e;rw[Nat.add_zero]at e;rw[List.drop_of_length_le (by omega),T3 (by omega)];rfl
 |succ r ih =>
  intro i s3 e;have hi:i<L.length:=by omega
  have ed:L.drop i=L[i]::L.drop (i+1):=Pu hi;have et:L.take (i+1)=L.take i++[L[i]]:=by rw[List.take_add_one,kh hi];rfl
  have nc:(L.take i).contains L[i]=false:=by
   have nd:=nd;rw[←List.take_append_drop i L,ed]at nd;have:=(List.nodup_append.mp nd).2.2;cases z:(L.take i).contains L[i] with
   |false=>rfl
   |true=>exact absurd rfl (this _ (by simpa using z) _ xq)
  have ll:(L.take i).length<sizeLine:=lt_size (by rw[Xq];omega);have g:=ih (i+1) (.val (.tup (L[i].map D.int))) (by omega);rw[et,Xj,xr,Pj]at g;rw[ed,jz,xr,←jz,Y9];simp only[ju,Q4,Pg,pq,h2 _ _ (Ph hi)];rw[if_pos ⟨nc,ll⟩];exact g
theorem j0f{n m:Nat}{w:List Int}(hm:1≤m∧m≤6)(hl:w.length=2^m) :
  evP 1000 G T (n+4) "weights_by_part" [.int m,.lst (w.map D.int)]=.val (.dct (PK (List.replicate m 2)) (((PK (List.replicate m 2)).map (wsum w m)).map D.int)):=by
 rw[jc (F:=Qm) (by rfl) rfl];simp only[Qm,Jb,enter];have pk:=j7j (n:=n+1) hm;have p3:=jdr hm.2;have p2:=Ip hm.2;have pc:((2^m:Nat):Int)=(2:Int)^m:=by simp
 have pl:=Iu (p:=List.replicate m 2);rw[Xp]at pl;have pok:∀q∈PK (List.replicate m 2),q.length=m∧∀t∈q,0≤t∧t<3:=fun q hq=>by have:=K6 (Yq m) hq;rw[Xp]at this;exact this
 have hd:=j42 (f2:=fun ρ=>stOf (ev (evP 1000 G T (n+3)) G (.blt .sum (.cons (.comp [4] (.ix (.var 1) (.call "row_number" (.cons (.var 4) .nil))) (.seq (.call "rows_in" (.cons (.var 3) .nil))) .nil) .nil)) ρ))
  (A:=.int m) (B:=.lst (w.map D.int)) (L:=PK (List.replicate m 2)) (W:=wsum w m) (by omega) (Ir (Yq m))
  (fun q d hq=>by
   obtain⟨q1,q2⟩:=pok q hq
   have ri:evP 1000 G T (n+3) "rows_in" [ju q]=.fresh (jz (qe (q.map Zq))):=O3 (n:=n+1) j1x Wq gN gA (by omega)
   rw[Wn q1 q2]at ri
   have l:=j1w q1 q2
   simp only[ju]at ri
   ext
   rw[ri]
   ext
   rw[qj (l:=((inL q m).map fun(k:Nat)=>w.getD k 0).map D.int) (by rfl) (by simp only[jz,km];omega) ?_ (.inl rfl)]
   ·ext
    rfl
   ·rw[jz,Xe,Xe]
    refine jy fun k hk'=>za (by ext) ?_
    have hk:=Xg.mp (Xx.mp hk').1
    have rn:=Ru (n:=n+1) (z:=(k:Int)) hm (by omega)
    have g:=j3f (p:=w) (k:=k) (by omega)
    simp only[Function.comp]
    ext
    rw[rn]
    ext
    rw[g]
    ext)
  (PK (List.replicate m 2)).length 0 .un (T4 _)
 have hi:ev (evP 1000 G T (n+3)) G (.seq (.call "parts_of" (.cons (.var 0) .nil))) [.val (.int m),.val (.lst (w.map D.int)),.un,.un,.un]=some (.i (jz (PK (List.replicate m 2)))):=by ext;rw[pk];ext
 have ru:=j4k (fu:=1000) (Γ:=evP 1000 G T (n+3)) (G:=G) (ρ:=[.val (.int m),.val (.lst (w.map D.int)),.un,.un,.un]) (x:=2) (t:=3) ⟨by simp,by simp,by decide⟩ hi hd;exact congrArg fin ru
noncomputable def wfn(pr w:List Int)(m:Nat):D:=.fn "whole_cost_of_ask" [.dct (PK (List.replicate m 2)) (((PK (List.replicate m 2)).map (wsum w m)).map D.int),.lst (pr.map D.int)]
theorem Kc {n m:Nat} {ws:List Str} {a pr w:List Int} {d:D} (hw:ws.length=m) (hm:1≤m∧m≤6) (hl:w.length=2^m) (h0:w.all (btw 0)=true) (hs:w.sum≠0) (hp:evP 1000 G T (n+4) "prices_told" [.int m,d]=.fresh (pr.map D.int)) :
  evP 1000 G T (n+5) "whole_cost_of_ask" [qD ws a,.lst (w.map D.int),d]=.val (wfn pr w m):=by
 have rf:=jay (n:=n) hm hl h0 hs;have bp:=j0f (n:=n) hm hl;rw[jc (F:=q9) (by rfl) rfl];simp only[q9,qx,enter,qD];ext;rw[at0];ext;rw[hw,hp];ext;rw[rf];ext;rw[bp];ext;rfl
theorem Dw {n m:Nat} {ws:List Str} {a pr w:List Int} {d:D} (hw:ws.length=m) (hm:1≤m∧m≤6) (ha:a.length=2^m) (h01:∀x∈a,x=0∨x=1) (hr:pr.length=m) (hq:V9 pr) (hl:w.length=2^m) (h0:w.all (btw 0)=true) (hs:w.sum≠0) (hp:evP 1000 G T (n+7) "prices_told" [.int m,d]=.fresh (pr.map D.int)) :
  evP 1000 G T (n+9) "whole_table" [qD ws a,.lst (w.map D.int),d]=.val (.tup (((PK (List.replicate m 2)).map (Wp pr (wsum w m) a m)).map D.int)):=by
 have wc:=Kc (n:=n+3) (a:=a) hw hm hl h0 hs hp;have nm:=O6 (n:=n) hw hm ha h01 hr (Xp ..) (Yq m) (fun q q1 q2=>⟨hq,Np (f:=wsum w m) q1 q2⟩);have ao:=Mg (n:=n+6) (a:=a) hm hw;have tb:evP 1000 G T (n+8) "least_table" [qD ws a,wfn pr w m]=.val (.tup (((PK (List.replicate m 2)).map (Wp pr (wsum w m) a m)).map D.int)):=by rw[jc (F:=Ve) (by rfl) rfl];simp only[Ve,Qw,enter,wfn];ext;rw[ao];ext;rw[nm];ext
 rw[jc (F:=Js) (by rfl) rfl];simp only[Js,Jv,enter];ext;rw[wc];ext;rw[tb];ext
theorem j6o {n m:Nat} {ws:List Str} {a pr w:List Int} {d:D} (hw:ws.length=m) (hm:1≤m∧m≤6) (ha:a.length=2^m) (h01:∀x∈a,x=0∨x=1) (hr:pr.length=m) (hq:V9 pr) (hl:w.length=2^m) (h0:w.all (btw 0)=true) (hs:w.sum≠0) (hp:evP 1000 G T (n+12) "prices_told" [.int m,d]=.fresh (pr.map D.int)) :
  ∃pl,Dv ws pr (wsum w m) a m pl (List.replicate m 2)∧evP 1000 G T (n+14) "whole_plan" [qD ws a,.lst (w.map D.int),d]=.val (pD pl):=by
 have wc:=Kc (n:=n+8) (a:=a) hw hm hl h0 hs hp;obtain⟨pl,hb,e⟩:=j7r (n:=n) hw hm ha h01 hr (fun q q1 q2=>⟨hq,Np (f:=wsum w m) q1 q2⟩);refine⟨pl,hb,?_⟩;rw[jc (F:=Qa) (by rfl) rfl];simp only[Qa,Qd,enter];ext;rw[wc];simp only[wfn];ext;rw[e];ext
theorem Dl(a b:Nat):Nat.gcd a b=Nat.gcd b (a%b):=by rw[Nat.gcd_comm a b,Nat.gcd_rec b a,Nat.gcd_comm]
theorem j85{b r k:Nat}(hr:0<r)(h:r<b)(hb:b<2^(k+1)):b%r<2^k:=by
 have h1:=Nat.mod_lt b hr;have h2:b%r+r≤b:=by have e:=Nat.div_add_mod b r;have:1≤b/r:=(Nat.one_le_div_iff hr).mpr (Nat.le_of_lt h);have:r*1≤r*(b/r):=Nat.mul_le_mul_left r this;omega
 rw[Nat.pow_succ]at hb;omega
theorem euclid{c:En→Option Bool}{f:En→So}(S:Nat→Nat→En→Prop)(h0:∀a ρ,S a 0 ρ→c ρ=some false)(h1:∀a b ρ,0<b→b<1125899906842624→S a b ρ→c ρ=some true∧∃ρ',f ρ=.next ρ'∧S b (a%b) ρ') :
  ∀(k a b fu:Nat)(ρ:En),k≤50→b<2^k→2*k<fu→S a b ρ→∃ρ',Jl c f fu ρ=.next ρ'∧S (Nat.gcd a b) 0 ρ':=by
 intro k;induction k with
 |zero =>
  intro a b fu ρ hk hb hf hS;have:b=0:=by simpa using hb
  subst this;obtain⟨q,rfl⟩:∃q,fu=q+1:=⟨fu-1,by omega⟩
  rw[Jl,h0 a ρ hS];exact⟨ρ,rfl,by rw[Nat.gcd_zero_right];exact hS⟩
 |succ k ih =>
  intro a b fu ρ hk hb hf hS;have lim:2^(k+1)≤1125899906842624:=by
   have:(2:Nat)^50=1125899906842624:=by decide
   rw[←this];exact Nat.pow_le_pow_right (by decide) hk
  obtain⟨q,rfl⟩:∃q,fu=q+2:=⟨fu-2,by omega⟩
  by_cases z:b=0
  ·subst z;rw[Jl,h0 a ρ hS];exact⟨ρ,rfl,by rw[Nat.gcd_zero_right];exact hS⟩
  ·obtain⟨e1,ρ1,e2,S1⟩:=h1 a b ρ (by omega) (by omega) hS;rw[Jl,e1];dsimp only;rw[e2];dsimp only;have hr:=Nat.mod_lt a (show 0<b by omega);by_cases z2:a%b=0
   ·rw[z2]at S1;rw[Jl,h0 b ρ1 S1];exact⟨ρ1,rfl,by rw[Dl,z2,Nat.gcd_zero_right];exact S1⟩
   ·obtain⟨e3,ρ2,e4,S2⟩:=h1 b (a%b) ρ1 (by omega) (by omega) S1;rw[Jl,e3];dsimp only;rw[e4];dsimp only;obtain⟨ρ',e5,S3⟩:=ih (a%b) (b%(a%b)) q ρ2 (by omega) (j85 (by omega) hr hb) (by omega) S2;exact⟨ρ',e5,by rw[Dl a b,Dl b (a%b)];exact S3⟩
theorem jiq{b:Nat}(h:b<1125899906842624):b<2^50:=by
 have:(2:Nat)^50=1125899906842624:=by decide
 omega
theorem jf6{a b:Nat}(h:1≤b∧b<1125899906842624):1≤Nat.gcd a b∧Nat.gcd a b<1125899906842624:=by have h1:=Nat.gcd_pos_of_pos_right (n:=b) a (by omega);have h2:=Nat.gcd_le_right (n:=b) a (by omega);omega
theorem j11 {n a b:Nat} (hb:b<1125899906842624):evP 1000 G T (n+1) "common_divisor" [.int a,.int b]=.val (.int (Nat.gcd a b:Nat)):=by
 rw[jc (F:=Z0) (by rfl) rfl];simp only[Z0,Ji,enter];ext;rw[jai];obtain⟨ρ',e,S⟩:=euclid (c:=fun ρ=>truth (ev (evP 1000 G T n) G (.cmp .ne (.var 1) (.lit (.int 0))) ρ)) (f:=run 1000 (evP 1000 G T n) G (.seq (.set 2 (.bin .mod (.var 0) (.var 1))) (.seq (.mov 0 1) (.seq (.mov 1 2) .nop))))
  (fun a b ρ=>∃s,ρ=[.val (.int (a:Nat)),.val (.int (b:Nat)),s]) (fun a ρ ⟨s,e⟩=>by subst e;ext) (fun a b ρ h1 h2 ⟨s,e⟩=>by
   subst e
   constructor
   ·ext
   ·ext
    exact⟨_,rfl,_,rfl⟩) 50 a b 1000 [.val (.int a),.val (.int b),.un] (xx _) (jiq hb) (by decide) ⟨_,rfl⟩
 obtain⟨s,rfl⟩:=S;rw[e];ext
theorem K1 {n a b:Nat} (hb:1≤b∧b<1125899906842624):evP 1000 G T (n+2) "fraction" [.int a,.int b]=.val (.tup [.int ((a:Int)/(Nat.gcd a b:Nat)),.int ((b:Int)/(Nat.gcd a b:Nat))]):=by rw[jc (F:=Uv) (by rfl) rfl];simp only[Uv,Vs,enter];have g:=jf6 (a:=a) hb;ext;rw[j11 hb.2];ext
theorem ja6{w:List Int}(h:w.all (btw 0)=true)(m:Nat)(p:List Int):0≤wsum w m p:=by
 unfold wsum;have nn:∀k:Nat,0≤w.getD k 0:=fun k=>by
  rw[xf];cases z:w[k]? with
  |none=>exact Tg _
  |some x =>have:=Xo.mp h x (Xl z);unfold btw at this;exact of_decide_eq_true (Xb _ _▸this).1
 induction inL p m with
 |nil=>exact Tg _
 |cons k l ih =>rw[xr,List.sum_cons];have:=nn k;omega
theorem jj0{pr a:List Int}{wt:List Int→Int}{m:Nat}(h01:∀x∈a,x=0∨x=1)(hpr:∀s,s<m→0≤pr.getD s 0)(hwt:∀q,0≤wt q):∀(k:Nat)(p:List Int),Z8 p=k→p.length=m→(∀t∈p,0≤t∧t<3)→0≤Wp pr wt a m p:=by
 intro k;induction k with
 |zero =>
  intro p hk hp hp3;cases z:opB a m p with
  |false=>rw[Bm hp hp3 z];exact Tg _
  |true =>have ne:=W5 h01 hp hp3 z;have:=Ov p;rw[hp]at this;rw[show(p.countP fun t=>t==2)=0 from hk]at this;exact absurd (List.length_eq_zero_iff.mp this) ne
 |succ k ih =>
  intro p hk hp hp3;cases z:opB a m p with
  |false=>rw[Bm hp hp3 z];exact Tg _
  |true =>have ne:=W5 h01 hp hp3 z;rw[j0j hp hp3 z];obtain⟨s,hs,e⟩:=Xf.mp (Ef (ns:=(J5 p m).map fun s=>pr.getD s 0*wt p+(Wp pr wt a m (p.set s 0)+Wp pr wt a m (p.set s 1))) (by simpa using ne)).1;rw[←e];obtain⟨q1,q2⟩:=Xx.mp hs;have s1:=Xg.mp q1;have s2:p.getD s 0=2:=of_decide_eq_true q2;have c0:Z8 (p.set s 0)+1=Z8 p:=Up (by omega) s2 (.inl rfl);have c1:Z8 (p.set s 1)+1=Z8 p:=Up (by omega) s2 (.inr rfl);have i0:=ih (p.set s 0) (by omega) (Jm hp hp3 (.inl rfl)).1 (Jm hp hp3 (.inl rfl)).2;have i1:=ih (p.set s 1) (by omega) (Jm hp hp3 (.inr rfl)).1 (Jm hp hp3 (.inr rfl)).2;have h:=Int.mul_nonneg (hpr s s1) (hwt p);omega
theorem j1l:∀m:Nat,(PK (List.replicate m 2)).getLast?=some (List.replicate m 2)
 |0=>rfl
 |m+1=>by
  have ek:PK (List.replicate (m+1) 2)=((PK (List.replicate m 2)).map (0 :: ·)++(PK (List.replicate m 2)).map (1 :: ·))++(PK (List.replicate m 2)).map (2 :: ·):=by unfold PK;rw[Xu,xr,Jc];simp[J7]
  rw[ek,List.getLast?_append,List.getLast?_map,j1l m,Xu];rfl
theorem atL{t:List Int}{x:Int}(h:t.getLast?=some x):atI (t.map D.int) (-1)=some (.int x):=by
 have hn:t≠[]:=fun e=>by rw[e]at h;cases h
 have hl:0<t.length:=List.length_pos_iff.mpr hn;unfold atI ixN;rw[km,if_neg (by decide),if_pos (by omega)];show(t.map D.int)[_]?=_;rw[show(-1+(t.length:Int)).toNat=t.length-1 by omega,X7,←List.getLast?_eq_getElem?,h];rfl
theorem jbi {n m:Nat} {ws:List Str} {a pr w:List Int} {d:D} (hw:ws.length=m) (hm:1≤m∧m≤6) (ha:a.length=2^m) (h01:∀x∈a,x=0∨x=1) (hr:pr.length=m) (hq:V9 pr) (hl:w.length=2^m) (h0:w.all (btw 0)=true) (hs:w.sum≠0) (hp:evP 1000 G T (n+7) "prices_told" [.int m,d]=.fresh (pr.map D.int)) (g:Nat) (hg:g=Nat.gcd (Wp pr (wsum w m) a m (List.replicate m 2)).toNat w.sum.toNat) :
  evP 1000 G T (n+10) "mean_price" [qD ws a,.lst (w.map D.int),d]=.val (.tup [.int (Wp pr (wsum w m) a m (List.replicate m 2)/(g:Int)),.int (w.sum/(g:Int))]):=by
 have tb:=Dw hw hm ha h01 hr hq hl h0 hs hp;have la:atI (((PK (List.replicate m 2)).map (Wp pr (wsum w m) a m)).map D.int) (-1)=some (.int (Wp pr (wsum w m) a m (List.replicate m 2))):=atL (by rw[List.getLast?_map,j1l];rfl);have nn:=jj0 (a:=a) (wt:=wsum w m) h01 (fun s hs=>(hq s (by omega)).1) (ja6 h0 m) _ (List.replicate m 2) rfl (Xp ..) (Yq m);have sb:0≤w.sum∧w.sum≤1000000*(w.length:Int):=by
  have:∀l:List Int,l.all (btw 0)=true→0≤l.sum∧l.sum≤1000000*(l.length:Int):=fun l=>by
   induction l with
   |nil=>intro _;exact⟨Tg _,Tg _⟩
   |cons x l ih =>intro h;rw[Tn,Xb]at h;obtain⟨i1,i2⟩:=ih h.2;have h1:=h.1;unfold btw at h1;rw[Xb]at h1;have x1:=of_decide_eq_true h1.1;have x2:=of_decide_eq_true h1.2;rw[List.sum_cons,X4];omega
  exact this w h0
 have p6:=p64 hm.2;have e1:(((Wp pr (wsum w m) a m (List.replicate m 2)).toNat:Nat):Int)=Wp pr (wsum w m) a m (List.replicate m 2):=Int.toNat_of_nonneg nn;have e2:((w.sum.toNat:Nat):Int)=w.sum:=Int.toNat_of_nonneg sb.1;have fr:=K1 (n:=n+7) (a:=(Wp pr (wsum w m) a m (List.replicate m 2)).toNat) (b:=w.sum.toNat) (by omega);rw[e1,e2,←hg]at fr;rw[jc (F:=Qc) (by rfl) rfl];simp only[Qc,Qe,enter];ext;rw[tb];ext;rw[la];ext;rw[fr];ext
theorem qmT:(G (qm "least_table")).isSome=true:=by rfl
theorem qmP:(G (qm "least_plan")).isSome=true:=by rfl
theorem qmF:(G (qm "fraction")).isSome=true:=by rfl
theorem Wh {n m:Nat} {ws:List Str} {a:List Int} {w d:D} (hw:ws.length=m) (hp:evP 1000 G T (n+1) "prices_told" [.int m,d]=.err "WrongPrices") :
  evP 1000 G T (n+2) "whole_cost_of_ask" [qD ws a,w,d]=.err "WrongPrices":=by
 rw[jc (F:=q9) (by rfl) rfl];simp only[q9,qx,enter,qD];ext;rw[at0];ext;rw[hw,hp];ext;simp only[Zh,Zg,Vx,Vw,Je];ext;simp only[Je,Um,Yh,xr,Pj,Rk.d];rw[hp];simp only[Ul Es];ext
theorem Wg {n m:Nat} {ws:List Str} {a pr:List Int} {w d:D} (hw:ws.length=m) (hp:evP 1000 G T (n+1) "prices_told" [.int m,d]=.fresh (pr.map D.int)) (hr:evP 1000 G T (n+1) "refuse_wrong_weights" [w,.int m]=.err "WrongWeights") :
  evP 1000 G T (n+2) "whole_cost_of_ask" [qD ws a,w,d]=.err "WrongWeights":=by
 rw[jc (F:=q9) (by rfl) rfl];simp only[q9,qx,enter,qD];ext;rw[at0];ext;rw[hw,hp];ext;rw[hr];ext;simp only[Zh,Zg,Vx,Vw,Je];ext;simp only[Je,Um,Yh,xr,Pj,Rk.d];rw[hr];simp only[Ul Er];ext
theorem Wf {n:Nat} {q w d:D} {x:Str} (ix:(G (bang x)).isSome=true) (h:evP 1000 G T n "whole_cost_of_ask" [q,w,d]=.err x):evP 1000 G T (n+1) "whole_table" [q,w,d]=.err x:=by rw[jc (F:=Js) (by rfl) rfl];simp only[Js,Jv,enter];ext;rw[h];ext;simp only[Zh,Zg,Vx,Vw,Je];ext;simp only[Je,Um,Yh,xr,Pj,Rk.d];rw[h];simp only[Ul ix,j3i,j3j qmT];ext
theorem Dy {n:Nat} {q w d:D} {x:Str} (ix:(G (bang x)).isSome=true) (h:evP 1000 G T n "whole_cost_of_ask" [q,w,d]=.err x):evP 1000 G T (n+1) "whole_plan" [q,w,d]=.err x:=by rw[jc (F:=Qa) (by rfl) rfl];simp only[Qa,Qd,enter];ext;rw[h];ext;simp only[Zh,Zg,Vx,Vw,Je];ext;simp only[Je,Um,Yh,xr,Pj,Rk.d];rw[h];simp only[Ul ix,j3i,j3j qmP];ext
theorem Eg {n:Nat} {q w d:D} {x:Str} (ix:(G (bang x)).isSome=true) (h:evP 1000 G T n "whole_table" [q,w,d]=.err x):evP 1000 G T (n+1) "mean_price" [q,w,d]=.err x:=by rw[jc (F:=Qc) (by rfl) rfl];simp only[Qc,Qe,enter];ext;rw[h];ext;simp only[Zh,Zg,Vx,Vw,jhy,Je];ext;simp only[Je,Um,Yh,xr,Pj,Rk.d];rw[h];simp only[Ul ix,j3i,j3j qmF];rw[show ixW none (some (W.v (Rk.e (D.int (-1)))))=none from rfl];ext
noncomputable def fnW(k:Nat):Str:=if k=0 then "whole_table" else if k=1 then "whole_plan" else "mean_price"
theorem j1h {N k:Nat} {q w d:D} {x:Str} {ks:List D} (hk:k<3) (hx:G (bang x)=some (.lst ks)) (h:evP 1000 G T N (fnW k) [q,w,d]=.err x):evP 1000 G T (N+1) "_law_refused" [q,w,d,.int (k:Int)]=.fresh ks:=by
 have ix:(G (bang x)).isSome=true:=by rw[hx];rfl
 rw[jc (F:=Zu) (by rfl) rfl];simp only[Zu,V6,enter];have:k=0∨k=1∨k=2:=by omega
 rcases this with e|e|e<;>subst e
 ·have h:evP 1000 G T N "whole_table" [q,w,d]=.err x:=h;ext;rw[h];ext;simp only[Zh,Zg,Vx,Vw,Je];ext;simp only[Je,Um,Yh,xr,Pj,Rk.d];rw[h];simp only[Ul ix];ext;rw[Oc hx];ext
 ·have h:evP 1000 G T N "whole_plan" [q,w,d]=.err x:=h;ext;rw[h];ext;simp only[Zh,Zg,Vx,Vw,Je];ext;simp only[Je,Um,Yh,xr,Pj,Rk.d];rw[h];simp only[Ul ix];ext;rw[Oc hx];ext
 ·have h:evP 1000 G T N "mean_price" [q,w,d]=.err x:=h;ext;rw[h];ext;simp only[Zh,Zg,Vx,Vw,Je];ext;simp only[Je,Um,Yh,xr,Pj,Rk.d];rw[h];simp only[Ul ix];ext;rw[Oc hx];ext
theorem jdf {N k:Nat} {q w d v:D} (hk:k<3) (h:evP 1000 G T N (fnW k) [q,w,d]=.val v):evP 1000 G T (N+1) "_law_refused" [q,w,d,.int (k:Int)]=.fresh []:=by
 rw[jc (F:=Zu) (by rfl) rfl];simp only[Zu,V6,enter];have:k=0∨k=1∨k=2:=by omega
 rcases this with e|e|e<;>subst e
 ·have h:evP 1000 G T N "whole_table" [q,w,d]=.val v:=h;ext;rw[h];ext
 ·have h:evP 1000 G T N "whole_plan" [q,w,d]=.val v:=h;ext;rw[h];ext
 ·have h:evP 1000 G T N "mean_price" [q,w,d]=.val v:=h;ext;rw[h];ext
theorem j0y{f:D→En→So}{ds:List D}{ρ:En}{g:En→So}{Q:Rc→Prop}(W:Nat→En→Prop)(h0:W 0 ρ)(hs:∀i d ρ,ds[i]?=some d→W i ρ→∃ρ',f d ρ=.next ρ'∧W (i+1) ρ')(hk:∀ρ',W ds.length ρ'→Q (fin (g ρ'))):Q (fin (Rq (Qg f ds ρ) g)):=by
 obtain⟨ρ',e,w⟩:=Vu (f:=f) W (k:=0) (ds:=ds) (ρ:=ρ) h0 fun i d ρ hi w=>by rw[T4]at w ⊢;exact hs i d ρ hi w
 rw[e];rw[T4]at w;exact hk ρ' w
theorem j6g{least x:Int}(h1:least≤x)(h2:x≤1000000):btw least x=true:=by simp[btw,h1,h2]
theorem j98{least x:Int}{l:List Int}(h:l.all (btw least)=true)(h1:least≤x)(h2:x≤1000000):(l++[x]).all (btw least)=true:=by rw[List.all_append,h,Tn,List.all_nil,j6g h1 h2];rfl
theorem jcl{l:List Int}{k:Nat}{v:Int}(h:l.all (btw 0)=true)(h1:0≤v)(h2:v≤1000000):(l.set k v).all (btw 0)=true:=by
 rw[Xo]at h ⊢;intro x hx;rcases List.mem_or_eq_of_mem_set hx with z|z
 ·exact h x z
 ·rw[z];exact j6g h1 h2
theorem j1f:∀{l:List Int}{k:Nat}{v:Int},l.all (btw 0)=true→k<l.length→1≤v→0<(l.set k v).sum
 |[],k,v,_,h,_=>by simp at h
 |x::l,k,v,ha,hk,hv=>by
  rw[Tn,Xb]at ha;have hx:0≤x:=by have:=ha.1;simp[btw]at this;exact this.1
  have sn:∀{l:List Int},l.all (btw 0)=true→0≤l.sum:=by
   intro l;induction l with
   |nil=>intro _;simp
   |cons y l ih =>
    intro h;rw[Tn,Xb]at h;have:=ih h.2;have hy:0≤y:=by have:=h.1;simp[btw]at this;exact this.1
    rw[List.sum_cons];omega
  cases k with
  |zero =>have:=sn ha.2;rw[Pg,List.sum_cons];omega
  |succ k =>have:=j1f (k:=k) (v:=v) ha.2 (by simpa using hk) hv;rw[pq,List.sum_cons];omega
theorem Df{c:Int}{l:Nat}(h:0<l):∃k:Nat,k<l∧c%(l:Int)=(k:Int):=by have h1:=Pq c (b:=(l:Int)) (by omega);have h2:=Int.emod_lt_of_pos c (b:=(l:Int)) (by omega);exact⟨(c%(l:Int)).toNat,by omega,by omega⟩
theorem jbq{l k:Nat}(h:k<l):ixN l (k:Int)=some k:=by unfold ixN;rw[if_pos (by omega),if_pos (by omega),Xc]
theorem j29{l:List Int}{k:Nat}(h:k≤l.length):cutD (l.map D.int) none (some (k:Int))=(l.take k).map D.int:=by rw[j5v (by rw[km];exact h),List.map_take]
theorem j28{l:List Int}{k:Nat}(h:k≤l.length):cutD (l.map D.int) (some (k:Int)) none=(l.drop k).map D.int:=by rw[j5u (by rw[km];exact h),List.map_drop]
theorem Ku{least x:Int}{a b:List Int}(h:¬(least≤x∧x≤1000000)):((a++[x])++b).all (btw least)=false:=by
 have:btw least x=false:=by
  unfold btw;by_cases h1:least≤x
  ·have h2:¬x≤1000000:=fun z=>h ⟨h1,z⟩;simp[h2]
  ·simp[h1]
 rw[List.all_append,List.all_append,Tn,this];simp
def Bad(least:Int)(l bad:List Int):Prop:=bad.length≤1000∧(bad.length≠l.length∨bad.all (btw least)=false∨(least=0∧bad.sum=0))
theorem j41(l:List Int):(l.map fun _=>(0:Int)).sum=0:=by
 induction l with
 |nil=>rfl
 |cons x l ih=>rw[xr,List.sum_cons,ih];rfl
theorem Ly {n m:Nat} {c:Int} (hm:m≤6):∃wt:List Int,evP 1000 G T (n+2) "_law_weights" [.int c,.int m]=.fresh (wt.map D.int)∧wt.length=2^m∧wt.all (btw 0)=true∧wt.sum≠0:=by
 rw[jc (F:=Ws) (by rfl) rfl];simp only[Ws,Yk,enter];have p2:=Ip hm;have p6:=p64 hm;have pg:1≤2^m:=Nat.one_le_two_pow;have pc:((2^m:Nat):Int)=(2:Int)^m:=by simp
 have e3:(1*2^m:Int).toNat=2^m:=by rw[Int.one_mul,←pc];exact Xc _
 ext;rw[Xc];ext;rw[e3,Jz];refine j0y (Q:=fun r=>∃wt:List Int,r=.fresh (wt.map D.int)∧wt.length=2^m∧wt.all (btw 0)=true∧wt.sum≠0) (fun i ρ=>∃(acc:List Int)(dr:Int)(s4:Sv),ρ=[.val (.int c),.val (.int m),.val (.int dr),.own (acc.map D.int),s4]∧acc.length=i∧acc.all (btw 0)=true) ⟨[],_,.un,rfl,rfl,rfl⟩ ?_ ?_
 ·rintro i d ρ hi ⟨acc,dr,s4,rfl,ha,hb⟩;rw[X7]at hi;obtain⟨k,hk,rfl⟩:=P0.mp hi;obtain⟨h1,h2⟩:=Xa.mp hk;rw[List.getElem_range]at h2;subst h2;rw[ph]at h1;simp only[Vj];ext;generalize (dr*48271+17*(0+(i:Int))+3)%2147483647=d2;have h3:c%3=0∨c%3=1∨c%3=2:=by omega
  have one:∃v:Int,(0≤v∧v≤1000000)∧atI [D.int (d2/16%4),D.int (d2/16%(1000000+1)),D.int 1] (c%3)=some (.int v):=by
   rcases h3 with e|e|e<;>rw[e]
   ·exact⟨_,by omega,rfl⟩
   ·exact⟨_,by omega,rfl⟩
   ·exact⟨_,by omega,rfl⟩
  obtain⟨v,hv,ev⟩:=one;rw[ev];ext;exact⟨_,rfl,acc++[v],_,_,by rw[Xj];rfl,by rw[X6];simp;omega,j98 hb (by omega) (by omega)⟩
 ·rintro ρ' ⟨acc,dr,s4,rfl,ha,hb⟩;rw[km,ph]at ha;by_cases hs:acc.sum=0
  ·obtain⟨k,hk,ek⟩:=Df (c:=c/3) (l:=acc.length) (by omega);have ek:c/3%(1*2^m)=(k:Int):=by rw[Int.one_mul,←pc,←ha];exact ek
   ext;rw[Xc];ext;rw[ek,jdm (n:=k) (by rw[km];exact jbq hk)];ext;refine⟨acc.set k 1,by rw[List.map_set],by rw[T7];exact ha,jcl hb (by omega) (by omega),?_⟩;have:=j1f (v:=1) hb hk (by omega);omega
  ·ext;exact⟨acc,rfl,ha,hb,hs⟩
def OrV(r:Rc)(l:List Int):Prop:=r=.fresh (l.map D.int)∨r=.val (.lst (l.map D.int))
theorem four{c:Int}{x y z u:Int}:∃v:Int,(v=x∨v=y∨v=z∨v=u)∧atI [D.int x,.int y,.int z,.int u] (c%4)=some (.int v):=by
 have:c%4=0∨c%4=1∨c%4=2∨c%4=3:=by omega
 rcases this with e|e|e|e<;>rw[e]
 ·exact⟨_,.inl rfl,rfl⟩
 ·exact⟨_,.inr (.inl rfl),rfl⟩
 ·exact⟨_,.inr (.inr (.inl rfl)),rfl⟩
 ·exact⟨_,.inr (.inr (.inr rfl)),rfl⟩
theorem Ks {n:Nat} {l:List Int} {c:Int} (h1:1≤l.length) (h2:l.length≤100):∃bad:List Int,OrV (evP 1000 G T (n+1) "_law_spoiled" [.lst (l.map D.int),.int c]) bad∧Bad 0 l bad:=by
 obtain⟨k,hk,ek⟩:=Df (c:=c/5) (l:=l.length) (by omega);have ch:=j29 (l:=l) (k:=k) (by omega);have cl1:=j28 (l:=l) (k:=k+1) (by omega);have ek1:((k:Int)+1)=((k+1:Nat):Int):=by omega
 have lt:(l.take k).length=k:=by rw[Xq];omega
 have ld1:(l.drop (k+1)).length=l.length-(k+1):=Tf ..;have lc1:(cutD (l.map D.int) none (some (k:Int))).length=k:=by rw[ch,km,lt]
 have lc2:(cutD (l.map D.int) (some ((k:Int)+1)) none).length=l.length-(k+1):=by rw[ek1,cl1,km,ld1]
 rw[jc (F:=Wt) (by rfl) rfl];simp only[Wt,Yl,enter];have h5:c%5=0∨c%5=1∨c%5=2∨¬(c%5=0)∧¬(c%5=1)∧¬(c%5=2):=by omega
 rcases h5 with c5|c5|c5|⟨z0,z1,z2⟩
 ·ext;exact⟨l++[c/5%9],.inl (by rw[Xj];rfl),by rw[X6];simp;omega,.inl (by rw[X6];simp)⟩
 ·ext;rw[ek,ek1,ch,cl1];ext;exact⟨l.take k++l.drop (k+1),.inl (by rw[Xj]),by rw[X6,lt,ld1];omega,.inl (by rw[X6,lt,ld1];omega)⟩
 ·ext;rw[qj (l:=(l.map fun _=>(0:Int)).map D.int) (by rfl) (by rw[km];omega) ?_ (.inl rfl)];rotate_left
  ·rw[Xe];exact jy fun x _=>za (by ext) (by ext;try rfl)
  ext;have h2':c/5%2=0∨c/5%2=1:=by omega
  rw[show ∀z:List D,Vd (some (W.a [Rk.o [],Rk.o z]))=some (.v (.o [.lst [],.lst z]))from fun _=>rfl];rcases h2' with e|e
  ·ext;rw[e,at0];ext;exact⟨[],.inr rfl,by simp,.inl (by simp;omega)⟩
  ·ext;rw[e,at1];ext;exact⟨l.map fun _=>0,.inr rfl,by rw[km];omega,.inr (.inr ⟨rfl,j41 l⟩)⟩
 ·obtain⟨v,hv,ev⟩:=four (c:=c/32) (x:=-1) (y:=-1-c/64%1000000000) (z:=1000001) (u:=1000001+c/64%1000000000);have far:=Pq (c/64) (b:=1000000000) (by omega);ext;rw[ev,ek];ext;rw[ek1,ch,cl1];ext;refine⟨(l.take k++[v])++l.drop (k+1),.inl (by rw[Xj,Xj];rfl),by rw[X6,X6,lt,ld1];simp;omega,.inr (.inl (Ku ?_))⟩;rcases hv with e|e|e|e<;>omega
theorem j6k {n:Nat} {l:List Int} {c:Int} (h1:1≤l.length) (h2:l.length≤100):∃bad:List Int,OrV (evP 1000 G T (n+1) "_law_bad_prices" [.lst (l.map D.int),.int c]) bad∧Bad 1 l bad:=by
 obtain⟨k,hk,ek⟩:=Df (c:=c/3) (l:=l.length) (by omega);have ch:=j29 (l:=l) (k:=k) (by omega);have cl1:=j28 (l:=l) (k:=k+1) (by omega);have ek1:((k:Int)+1)=((k+1:Nat):Int):=by omega
 have lt:(l.take k).length=k:=by rw[Xq];omega
 have ld1:(l.drop (k+1)).length=l.length-(k+1):=Tf ..;have lc1:(cutD (l.map D.int) none (some (k:Int))).length=k:=by rw[ch,km,lt]
 have lc2:(cutD (l.map D.int) (some ((k:Int)+1)) none).length=l.length-(k+1):=by rw[ek1,cl1,km,ld1]
 rw[jc (F:=Y7) (by rfl) rfl];simp only[Y7,Z7,enter];by_cases c3:c%3=0
 ·ext;exact⟨l++[1],.inl (by rw[Xj];rfl),by rw[X6];simp;omega,.inl (by rw[X6];simp)⟩
 ·have far:=Pq (c/64) (b:=1000000000) (by omega);have h3:∃v:Int,¬(1≤v∧v≤1000000)∧atI [D.int 0,.int 1000001,.int (-1-c/64%1000000000)] (c/16%3)=some (.int v):=by
   have:c/16%3=0∨c/16%3=1∨c/16%3=2:=by omega
   rcases this with e|e|e<;>rw[e]
   ·exact⟨_,by omega,rfl⟩
   ·exact⟨_,by omega,rfl⟩
   ·exact⟨_,by omega,rfl⟩
  obtain⟨v,hv,ev⟩:=h3;ext;rw[ev,ek];ext;rw[ek1,ch,cl1];ext;exact⟨(l.take k++[v])++l.drop (k+1),.inl (by rw[Xj,Xj];rfl),by rw[X6,X6,lt,ld1];simp;omega,.inr (.inl (Ku hv))⟩
noncomputable def depth:Nat:=15
theorem jb1{m:Nat}{l:List Int}(h:l.all (btw 1)=true):V9 l:=fun s hs=>by have:=Xo.mp h (l.getD s 0) (by rw[xf,kh hs];exact Ph _);unfold btw at this;rw[Xb]at this;have h1:=of_decide_eq_true this.1;have h2:=of_decide_eq_true this.2;omega
theorem j7f(m:Nat):V9 (List.replicate m 1):=fun s hs=>by rw[Xp]at hs;rw[xf,List.getElem?_replicate,if_pos hs];decide
theorem j9b {k m:Nat} {ws:List Str} {a:List Int} {w d:D} (hk:k<3) (hw:ws.length=m) (hp:∀n,evP 1000 G T (n+2) "prices_told" [.int m,d]=.err "WrongPrices"):evP 1000 G T 14 (fnW k) [qD ws a,w,d]=.err "WrongPrices":=by
 have:k=0∨k=1∨k=2:=by omega
 rcases this with e|e|e<;>subst e
 ·exact Wf Es (Wh (n:=11) hw (hp 10))
 ·exact Dy Es (Wh (n:=11) hw (hp 10))
 ·exact Eg Es (Wf Es (Wh (n:=10) hw (hp 9)))
theorem j9a {k m:Nat} {ws:List Str} {a pr:List Int} {w d:D} (hk:k<3) (hw:ws.length=m) (hp:∀n,evP 1000 G T (n+2) "prices_told" [.int m,d]=.fresh (pr.map D.int)) (hr:∀n,evP 1000 G T (n+4) "refuse_wrong_weights" [w,.int m]=.err "WrongWeights"):evP 1000 G T 14 (fnW k) [qD ws a,w,d]=.err "WrongWeights":=by
 have:k=0∨k=1∨k=2:=by omega
 rcases this with e|e|e<;>subst e
 ·exact Wf Er (Wg (n:=11) hw (hp 10) (hr 8))
 ·exact Dy Er (Wg (n:=11) hw (hp 10) (hr 8))
 ·exact Eg Er (Wf Er (Wg (n:=10) hw (hp 9) (hr 7)))
theorem jge {k m:Nat} {ws:List Str} {a pr w:List Int} {d:D} (hk:k<3) (hw:ws.length=m) (hm:1≤m∧m≤6) (ha:a.length=2^m) (h01:∀x∈a,x=0∨x=1) (hr:pr.length=m) (hq:V9 pr) (hl:w.length=2^m) (h0:w.all (btw 0)=true) (hs:w.sum≠0) (hp:∀n,evP 1000 G T (n+2) "prices_told" [.int m,d]=.fresh (pr.map D.int)) :
  ∃v,evP 1000 G T 14 (fnW k) [qD ws a,.lst (w.map D.int),d]=.val v:=by
 have:k=0∨k=1∨k=2:=by omega
 rcases this with e|e|e<;>subst e
 ·exact⟨_,Dw (n:=5) hw hm ha h01 hr hq hl h0 hs (hp 10)⟩
 ·obtain⟨pl,_,e⟩:=j6o (n:=0) hw hm ha h01 hr hq hl h0 hs (hp 10);exact⟨_,e⟩
 ·exact⟨_,jbi (n:=4) hw hm ha h01 hr hq hl h0 hs (hp 9) _ rfl⟩
theorem j9i{r:Rc}{l:List Int}{i:Nat}{Γ:Str→List D→Rc}{ρ:En}{e:Option Str}{ρ0:En}{t:Sx}(h:OrV r l)(hi:i<ρ.length):Rq (orE (Ie i (rcW r) ρ) e ρ0) (run 1000 Γ G (.seq (.keep i) t))=run 1000 Γ G t (ρ.set i (.val (.lst (l.map D.int)))):=by
 rcases h with e|e<;>subst e
 ·simp only[j9m,j4h,Ou,Rp,Fw,Oo,List.getElem?_set_self hi,Cu,List.set_set]
 ·simp only[j9l,j4i,Ou,Rp,Fw,Oo,List.getElem?_set_self hi,Cr]
theorem neS(x:Str):Zw .ne (.lst [.str x]) (.lst [.str x])=some false:=by rw[j08 (by simp[D.depL,D.dep]) (by simp[D.depL,D.dep]),Zi _ (by simp[D.depL,D.dep])];rfl
theorem neN:Zw .ne (.lst []) (.lst [])=some false:=by rw[j08 (by simp[D.depL]) (by simp[D.depL]),Zi _ (by simp[D.depL])];rfl
theorem lawTrue:∀ns:List Int,ns.length≤63→evP 1000 G T (depth+1) "law" [.lst (ns.map D.int)]=.val (.bl true):=by
 intro ns hns;rw[jc (F:=j3h) (by rfl) rfl];simp only[j3h,j3v,enter,depth];have mo:1≤4∧4≤6:=by decide
 have hm:=Dg (ns:=ns) (a:=0) (most:=4) mo;have qs:evP 1000 G T 15 "_law_question" [.lst (ns.map D.int),.int 0,.int 4]=_:=Lx (fu:=1000) (n:=13) (G:=G) j9x jf4 jf5 j5i (ns:=ns) (a:=0) (most:=4) (by decide) mo;have a01:=jck (fu:=1000) (n:=13) (G:=G) jf5 (ns:=ns) (a:=0) (most:=4) mo;obtain⟨m,em⟩:∃m:Nat,m=Yd ns 0 4:=⟨_,rfl⟩
 have al:(U8 1000 G T 13 ns 0 4).length=2^m:=by simp[U8,←em]
 have wl:=R9 (qb ns (0+1)) m;rw[←em]at hm qs;generalize U8 1000 G T 13 ns 0 4=a at *;generalize Jk (qb ns (0+1)) m=ws at *;have hm6:1≤m∧m≤6:=by omega
 have cz:∀k:Nat,k≤50→evP 1000 G T 15 "_law_cell" [.lst (ns.map D.int),.int (k:Int)]=.val (.int (qb ns k)):=fun k hk=>Uq j9x (k:=k) (by omega);have c3:evP 1000 G T 15 "_law_cell" [.lst (ns.map D.int),.int 3]=_:=cz 3 (by decide);have c4:evP 1000 G T 15 "_law_cell" [.lst (ns.map D.int),.int 4]=_:=cz 4 (by decide);have c5:evP 1000 G T 15 "_law_cell" [.lst (ns.map D.int),.int 5]=_:=cz 5 (by decide);generalize qb ns 3=c at *;obtain⟨w,we,wlen,w0,wsn⟩:=Ly (n:=13) (c:=c) hm6.2;have p6:=p64 hm6.2;have pg:1≤2^m:=Nat.one_le_two_pow;obtain⟨bad,be,bo⟩:=Ks (n:=14) (l:=w) (c:=qb ns 4) (by omega) (by omega);obtain⟨gd,hgd⟩:∃gd:List Int,gd=(List.range m).map fun(k:Nat)=>1+c/(3+(0+(k:Int)))%9:=⟨_,rfl⟩
 have gl:gd.length=m:=by rw[hgd,km,ph]
 have g1:gd.all (btw 1)=true:=by rw[hgd,List.all_map,Xo];intro k _;show btw 1 (1+c/(3+(0+(k:Int)))%9)=true;unfold btw;rw[decide_eq_true (by omega),decide_eq_true (by omega)];rfl
 obtain⟨bp,pe,po⟩:=j6k (n:=14) (l:=gd) (c:=qb ns 5) (by omega) (by omega);have pb:∀n,evP 1000 G T (n+2) "prices_told" [.int m,.lst (bp.map D.int)]=.err "WrongPrices":=fun n=>j4r po.1 hm6.2 (by
  rcases po.2 with h|h|h
  ·exact .inl (by omega)
  ·exact .inr h
  ·exact absurd h.1 (by decide))
 have rb:∀n,evP 1000 G T (n+4) "refuse_wrong_weights" [.lst (bad.map D.int),.int m]=.err "WrongWeights":=fun n=>j78 hm6 bo.1 (by
  rcases bo.2 with h|h|h
  ·exact .inl (by omega)
  ·exact .inr (.inl h)
  ·exact .inr (.inr h.2))
 have r1:∀(k:Nat)(w:D),k<3→evP 1000 G T 15 "_law_refused" [qD ws a,w,.lst (bp.map D.int),.int (k:Int)]=.fresh [.str "WrongPrices"]:=fun k w hk=>j1h hk gPr (j9b hk wl pb);have pt:∀d:Option (List Int),(d=some gd∨d=none)→∃pr:List Int,pr.length=m∧V9 pr∧∀n,evP 1000 G T (n+2) "prices_told" [.int m,feD d]=.fresh (pr.map D.int):=fun d hd=>by
  rcases hd with e|e<;>subst e
  ·exact⟨gd,gl,jb1 (m:=m) g1,fun n=>j7d gl hm6.2 g1⟩
  ·exact⟨List.replicate m 1,Xp ..,j7f m,fun n=>j4q (n:=n+1) hm6.2⟩
 have r2:∀(k:Nat)(d:Option (List Int)),k<3→(d=some gd∨d=none)→evP 1000 G T 15 "_law_refused" [qD ws a,.lst (bad.map D.int),feD d,.int (k:Int)]=.fresh [.str "WrongWeights"]:=fun k d hk hd=>by obtain⟨pr,_,_,hp⟩:=pt d hd;exact j1h hk gWe (j9a hk wl hp rb)
 have r3:∀(k:Nat)(d:Option (List Int)),k<3→(d=some gd∨d=none)→evP 1000 G T 15 "_law_refused" [qD ws a,.lst (w.map D.int),feD d,.int (k:Int)]=.fresh []:=fun k d hk hd=>by obtain⟨pr,h1,h2,hp⟩:=pt d hd;obtain⟨v,hv⟩:=jge hk wl hm6 al a01 h1 h2 wlen w0 wsn hp;exact jdf hk hv
 simp only[qD]at r1 r2 r3;ext;rw[qs];ext;rw[at0];ext;rw[wl,c3];ext;rw[qj (l:=gd.map D.int) (by rfl) (by rw[v5];omega) ?_ (.inl rfl)];rotate_left
 ·rw[Xc,Jz,hgd,Xe];refine jy fun k hk'=>za (by ext) ?_;have hk:=Xg.mp hk';ext;rfl
 ext;rw[we];ext;rw[c4];ext;rw[j9i be (by simp)];ext;rw[c5];ext;rw[j9i pe (by simp)];ext;rw[show ∀y z:List D,Vd (some (W.a [Rk.o y,Rk.o z]))=some (.v (.o [.lst y,.lst z]))from fun _ _=>rfl];ext;refine Oj (fun i ρ=>∃s10 s11:Sv,ρ=[.val (.lst (ns.map D.int)),.val (.tup [.tup (ws.map D.str),.tup (a.map D.int)]),.val (.int m),.val (.int c),.val (.lst (gd.map D.int)),.un,.val (.lst (w.map D.int)),.val (.lst (bad.map D.int)),.val (.lst (bp.map D.int)),.val (.lst [.lst (bad.map D.int),.lst (bp.map D.int)]),s10,s11]) ⟨_,_,rfl⟩ ?_ ?_
 ·rintro k d ρ hk ⟨s10,s11,rfl⟩;obtain⟨h1,rfl⟩:=Kd hk;have h1:k<3:=h1;simp only[Vj,Int.zero_add];ext;rw[at0,at1];ext;rw[Ju rfl,r1 k _ h1];ext;rw[neS];ext;rw[at1];ext;rw[Ju rfl,r1 k _ h1];ext;rw[neS];ext;refine Ce (fun i ρ=>∃s11:Sv,ρ=[.val (.lst (ns.map D.int)),.val (.tup [.tup (ws.map D.str),.tup (a.map D.int)]),.val (.int m),.val (.int c),.val (.lst (gd.map D.int)),.un,.val (.lst (w.map D.int)),.val (.lst (bad.map D.int)),.val (.lst (bp.map D.int)),.val (.lst [.lst (bad.map D.int),.lst (bp.map D.int)]),.val (.int (k:Int)),s11]) ⟨_,rfl⟩ ?_ ?_
  ·rintro i x ρ hi ⟨s11,rfl⟩;obtain⟨dd,hd,rfl⟩:∃dd:Option (List Int),(dd=some gd∨dd=none)∧x=feD dd:=by
    match i,hi with
    |0,h=>cases h;exact⟨some gd,.inl rfl,rfl⟩
    |1,h=>cases h;exact⟨none,.inr rfl,rfl⟩
    |i+2,h=>simp at h
   simp only[Vj];ext;rw[at0];ext;rw[Ju rfl,r2 k dd h1 hd];ext;rw[neS];ext;rw[Ju rfl,r3 k dd h1 hd];ext;rw[neN];ext;exact⟨_,rfl,_,rfl⟩
  ·rintro ρ ⟨s11,rfl⟩;ext;exact⟨_,rfl,_,_,rfl⟩
 ·rintro ρ ⟨s10,s11,rfl⟩;ext;have d1:=La bad;have d2:=La bp;have dl:(D.lst [.lst (bad.map D.int),.lst (bp.map D.int)]).dep≤90:=by simp only[D.dep,D.depL];omega
  rw[j8p dl dl,Zi _ (by simp only[D.dep,D.depL];omega)];ext
end K32
end
open PySem PySem.W PyProof.Rows
local macro_rules | `(tactic| walk_at "lf") => `(tactic| (refine' L2.lf_mk ?a ?l ?c ?k; (case a => k_is); (case l => k_is); (case c => k_is); (case k => k_is)))
local macro_rules | `(tactic| walk_at "ld") => `(tactic| (refine' L2.lfd_mk ?a ?l ?c ?k ?t; (case a => k_is); (case l => k_is); (case c => k_is); (case k => k_is); (case t => k_is)))
set_option Elab.async false
noncomputable def PySem.W.Fast.tw445977839718318695 : Nat := 0
noncomputable def PySem.W.Fast.tw14381034369032775077 : Nat := 0
noncomputable def PySem.W.Fast.tw3829646325214210240 : Nat := 0
noncomputable def PySem.W.Fast.tw11116745731859355892 : Nat := 0
noncomputable def PySem.W.Fast.tw955046721818446724 : Nat := 0
noncomputable def PySem.W.Fast.tw11100617445324785557 : Nat := 0
noncomputable def PySem.W.Fast.tw14776574355247646780 : Nat := 0
noncomputable def PySem.W.Fast.tw7826866629456665224 : Nat := 0
noncomputable def PySem.W.Fast.tw490645476289334242 : Nat := 0
noncomputable def PySem.W.Fast.tw13853794482291585520 : Nat := 0
noncomputable def PySem.W.Fast.tw15209811409116446266 : Nat := 0
noncomputable def PySem.W.Fast.tw4502507674876778030 : Nat := 0
noncomputable def PySem.W.Fast.tw5687385939326402084 : Nat := 0
noncomputable def PySem.W.Fast.tw13871236512094501205 : Nat := 0
noncomputable def PySem.W.Fast.tw15237468632493454440 : Nat := 0
noncomputable def PySem.W.Fast.tw11603150424310065305 : Nat := 0
noncomputable def PySem.W.Fast.tw3220988843813548691 : Nat := 0
noncomputable def PySem.W.Fast.tw445751407335174821 : Nat := 0
noncomputable def PySem.W.Fast.tw6282716861737923455 : Nat := 0
noncomputable def PySem.W.Fast.tw5780001171051846197 : Nat := 0
noncomputable def PySem.W.Fast.tw1086365893673517859 : Nat := 0
noncomputable def PySem.W.Fast.tw11261726156399100444 : Nat := 0
noncomputable def PySem.W.Fast.tw17150375128850376348 : Nat := 0
noncomputable def PySem.W.Fast.tw11136154224991664391 : Nat := 0
noncomputable def PySem.W.Fast.tw11727162339023080001 : Nat := 0
noncomputable def PySem.W.Fast.tw17732354616225735688 : Nat := 0
noncomputable def PySem.W.Fast.tw9884251131516441834 : Nat := 0
noncomputable def PySem.W.Fast.tw7992328066200597019 : Nat := 0
noncomputable def PySem.W.Fast.tw5474062087546902664 : Nat := 0
noncomputable def PySem.W.Fast.tw2516760584302409390 : Nat := 0
noncomputable def PySem.W.Fast.tw12688948819559199849 : Nat := 0
noncomputable def PySem.W.Fast.tw1353406943676465413 : Nat := 0
noncomputable def PySem.W.Fast.tw8893717540615967792 : Nat := 0
noncomputable def PySem.W.Fast.tw15726765286578383598 : Nat := 0
noncomputable def PySem.W.Fast.tw17974821807915719682 : Nat := 0
noncomputable def PySem.W.Fast.tw7744281381214271207 : Nat := 0
noncomputable def PySem.W.Fast.tw11411531799456666035 : Nat := 0
noncomputable def PySem.W.Fast.tw17417025107159107844 : Nat := 0
noncomputable def PySem.W.Fast.tw14377333740429609601 : Nat := 0
noncomputable def PySem.W.Fast.tw15857785806619125224 : Nat := 0
noncomputable def PySem.W.Fast.tw12201959763092731793 : Nat := 0
noncomputable def PySem.W.Fast.tw13961113004535943343 : Nat := 0
noncomputable def PySem.W.Fast.tw16326525632046750243 : Nat := 0
noncomputable def PySem.W.Fast.tw12865232182873820855 : Nat := 0
noncomputable def PySem.W.Fast.tw15494530526226233717 : Nat := 0
noncomputable def PySem.W.Fast.tw2310111827599450614 : Nat := 0
noncomputable def PySem.W.Fast.tw2637225749904445098 : Nat := 0
noncomputable def PySem.W.Fast.tw17801786685810936068 : Nat := 0
noncomputable def PySem.W.Fast.tw9611127090092592584 : Nat := 0
noncomputable def PySem.W.Fast.tw16339388381711798531 : Nat := 0
noncomputable def PySem.W.Fast.tw9688840391519415699 : Nat := 0
noncomputable def PySem.W.Fast.tw705264825487304682 : Nat := 0
noncomputable def PySem.W.Fast.tw13123749816904515467 : Nat := 0
noncomputable def PySem.W.Fast.tw5330098787573546380 : Nat := 0
noncomputable def PySem.W.Fast.tw7817820115406873008 : Nat := 0
noncomputable def PySem.W.Fast.tw13252280106342823543 : Nat := 0
noncomputable def PySem.W.Fast.tw8721431832856905255 : Nat := 0
noncomputable def PySem.W.Fast.tw398240045424316449 : Nat := 0
noncomputable def PySem.W.Fast.tw12458894452556193169 : Nat := 0
noncomputable def PySem.W.Fast.tw16580692650620246668 : Nat := 0
noncomputable def PySem.W.Fast.tw18233045084137868294 : Nat := 0
noncomputable def PySem.W.Fast.tw9580418973436008977 : Nat := 0
noncomputable def PySem.W.Fast.tw12115128033497826029 : Nat := 0
noncomputable def PySem.W.Fast.tw12578430967373155185 : Nat := 0
noncomputable def PySem.W.Fast.tw8576963237107020087 : Nat := 0
noncomputable def PySem.W.Fast.tw1269945440131175964 : Nat := 0
noncomputable def PySem.W.Fast.tw9382035486350983945 : Nat := 0
noncomputable def PySem.W.Fast.tw11133017898699030850 : Nat := 0
noncomputable def PySem.W.Fast.tw18009878113871503117 : Nat := 0
noncomputable def PySem.W.Fast.tw13209230122282453390 : Nat := 0
noncomputable def PySem.W.Fast.tw14355041352925523183 : Nat := 0
noncomputable def PySem.W.Fast.tw9892831394001843177 : Nat := 0
noncomputable def PySem.W.Fast.tw8143464111392188779 : Nat := 0
noncomputable def PySem.W.Fast.tw12308579401862176813 : Nat := 0
noncomputable def PySem.W.Fast.tw8617604426748247164 : Nat := 0
noncomputable def PySem.W.Fast.tw9718246744363094226 : Nat := 0
noncomputable def PySem.W.Fast.tw14763783160579078125 : Nat := 0
noncomputable def PySem.W.Fast.tw5643193836335036084 : Nat := 0
noncomputable def PySem.W.Fast.tw11752735194209042498 : Nat := 0
noncomputable def PySem.W.Fast.tw3407714525275983205 : Nat := 0
noncomputable def PySem.W.Fast.tw4052434907193056409 : Nat := 0
noncomputable def PySem.W.Fast.tw9644122540238160860 : Nat := 0
noncomputable def PySem.W.Fast.tw1822758730095173378 : Nat := 0
noncomputable def PySem.W.Fast.tw6546105662118679786 : Nat := 0
noncomputable def PySem.W.Fast.tw3665231325746293869 : Nat := 0
noncomputable def PySem.W.Fast.tw13887816885831551628 : Nat := 0
noncomputable def PySem.W.Fast.tw16765162398738165954 : Nat := 0
noncomputable def PySem.W.Fast.tw14306129033638808811 : Nat := 0
noncomputable def PySem.W.Fast.tw9563241050840907495 : Nat := 0
noncomputable def PySem.W.Fast.tw4491104142496124757 : Nat := 0
noncomputable def PySem.W.Fast.tw8857550891406477384 : Nat := 0
noncomputable def PySem.W.Fast.tw18147867239784989188 : Nat := 0
noncomputable def PySem.W.Fast.tw11562766321218730515 : Nat := 0
noncomputable def PySem.W.Fast.tw6976569987230380757 : Nat := 0
noncomputable def PySem.W.Fast.tw4398222188186641363 : Nat := 0
noncomputable def PySem.W.Fast.tw8783731011694307407 : Nat := 0
noncomputable def PySem.W.Fast.tw10606653877583497981 : Nat := 0
noncomputable def PySem.W.Fast.tw10464292745874611123 : Nat := 0
noncomputable def PySem.W.Fast.tw13155168357617236737 : Nat := 0
noncomputable def PySem.W.Fast.tw14211588778919670987 : Nat := 0
noncomputable def PySem.W.Fast.tw195906965272320107 : Nat := 0
noncomputable def PySem.W.Fast.tw436074767105718651 : Nat := 0
noncomputable def PySem.W.Fast.tw16301629108383744710 : Nat := 0
noncomputable def PySem.W.Fast.tw9528243664598684764 : Nat := 0
noncomputable def PySem.W.Fast.tw10671412436924693504 : Nat := 0
noncomputable def PySem.W.Fast.tw3735779419245740464 : Nat := 0
noncomputable def PySem.W.Fast.tw17836499126049781693 : Nat := 0
noncomputable def PySem.W.Fast.tw6808384449676391185 : Nat := 0
noncomputable def PySem.W.Fast.tw1614442698437653466 : Nat := 0
noncomputable def PySem.W.Fast.tw3103140268436528666 : Nat := 0
set_option maxRecDepth 100000 in
set_option maxHeartbeats 0 in
theorem PySem.Challenge.cw_leastasks_k32_weights_refused_holds : PySem.Challenge.rw_leastasks_k32_weights_refused.Holds := by
  w_on; o_law; k_head; (case hw => w_witness2)
  k_fill
  refine L2.walkL (l := PySem.Challenge.rw_leastasks_k32_weights_refused) (k := L2.lv (K32.depth + 1)) (x := "_law_script") (by decide) rfl rfl (fun w h Y => ⟨PySem.W.km_in_of Y, PySem.W.km_tabs_of Y⟩) ?tz ?F
  case tz => intro w; kernel_rfl
  case F =>
    intro w mg fa h KX Gn hmg tz
    refine' K32.head KX Gn hmg ?h0 ?h1 ?h2 ?h3 ?h4 ?h5 ?h6 ?h7 ?h8 ?h9 ?h10 ?h11 ?h12 ?h13 ?h14 ?h15 ?h16 ?h17 ?h18 ?h19 ?h20 ?h21 ?h22 ?h23 ?h24 ?h25 ?h26 ?h27 ?h28 ?h29 ?h30 ?h31 ?h32 ?h33 ?h34 ?h35 ?h36 ?h37 ?h38 ?h39 ?h40 ?h41 ?bz tz ?gn0 ?gn1 ?ga2l ?gn2 ?gn3 ?ga6l ?gn4 ?gn5 ?gn6 ?gn7 ?exa ?xz K32.lawTrue
    (case h0 => walk_at "lf")
    (case h1 => walk_at "lf")
    (case h2 => walk_at "lf")
    (case h3 => walk_at "lf")
    (case h4 => walk_at "lf")
    (case h5 => walk_at "lf")
    (case h6 => walk_at "lf")
    (case h7 => walk_at "lf")
    (case h8 => walk_at "lf")
    (case h9 => walk_at "lf")
    (case h10 => walk_at "lf")
    (case h11 => walk_at "lf")
    (case h12 => walk_at "lf")
    (case h13 => walk_at "lf")
    (case h14 => walk_at "lf")
    (case h15 => walk_at "lf")
    (case h16 => walk_at "lf")
    (case h17 => walk_at "lf")
    (case h18 => walk_at "lf")
    (case h19 => walk_at "lf")
    (case h20 => walk_at "lf")
    (case h21 => walk_at "lf")
    (case h22 => walk_at "lf")
    (case h23 => walk_at "lf")
    (case h24 => walk_at "lf")
    (case h25 => walk_at "lf")
    (case h26 => walk_at "lf")
    (case h27 => walk_at "ld")
    (case h28 => walk_at "ld")
    (case h29 => walk_at "ld")
    (case h30 => walk_at "lf")
    (case h31 => walk_at "lf")
    (case h32 => walk_at "lf")
    (case h33 => walk_at "lf")
    (case h34 => walk_at "lf")
    (case h35 => walk_at "lf")
    (case h36 => walk_at "lf")
    (case h37 => walk_at "lf")
    (case h38 => walk_at "lf")
    (case h39 => walk_at "lf")
    (case h40 => walk_at "lf")
    (case h41 => walk_at "lf")
    (case gn0 => k_is)
    (case gn1 => k_is)
    (case gn2 => k_is)
    (case gn3 => k_is)
    (case gn4 => k_is)
    (case gn5 => k_is)
    (case gn6 => k_is)
    (case gn7 => k_is)
    (case ga6l => k_is)
    (case ga2l => k_is)
    (case bz => kernel_rfl)
    (case exa => kernel_rfl)
    (case xz => kernel_rfl)
#print axioms PySem.Challenge.cw_leastasks_k32_weights_refused_holds