import PyProof.Rows.All
import Wide.All
import OpenK.AllK
import Wide.FinOn
import PyProof.EqAt
import PyProof.EqKinds
import PyProof.TupleCall
import KE.BitLaws
import Open.SpecLaws
import KE.OsHead
import KE.OsGo
import KE.KEqDict
import KE.KEqSeq
import PySem.Challenge.RW_braidbook_s01_answers
set_option Elab.async false
set_option linter.all false
set_option maxRecDepth 100000
set_option maxHeartbeats 4000000
noncomputable section
noncomputable def ae:=@if_neg
noncomputable def af:=@if_pos
noncomputable def aE:=@List.length_map
noncomputable def aX:=@Nat.le_refl
noncomputable def a0:=@of_decide_eq_true
noncomputable def a6:=@List.mem_range
noncomputable def a_:=@of_decide_eq_false
noncomputable def be:=@Nat.zero_le
noncomputable def bo:=@Option.some.inj
noncomputable def br:=@Bool.and_eq_true
noncomputable def bu:=@List.getElem?_eq_getElem
noncomputable def bE:=@List.mem_cons_self
noncomputable def bF:=@List.length_append
noncomputable def bI:=@List.mem_cons_of_mem
noncomputable def bO:=@List.length_cons
noncomputable def bQ:=@congrArg
noncomputable def bY:=@List.mem_cons
noncomputable def bZ:=@List.mem_map
noncomputable def b_:=@List.getElem?_map
noncomputable def cy:=@decide_eq_false
noncomputable def cC:=@Nat.le_trans
noncomputable def cD:=@List.length_range
noncomputable def cN:=@List.length_reverse
noncomputable def cQ:=@List.map_append
noncomputable def c5:=@List.size_toArray
noncomputable def c_:=@List.length_take
noncomputable def de:=@decide_eq_true
noncomputable def dw:=@List.map_map
noncomputable def dJ:=@List.map_cons
noncomputable def dM:=@List.append_assoc
noncomputable def dU:=@List.mem_append
noncomputable def dW:=@List.getElem?_eq_some_iff
noncomputable def d_:=@List.mem_append_right
noncomputable def eg:=@List.getD_eq_getElem?_getD
noncomputable def eK:=@Int.ofNat_lt
noncomputable def fz:=@Bool.false_ne_true
noncomputable def fB:=@List.append_nil
noncomputable def fC:=@Bool.not_eq_true'
noncomputable def gw:=@List.length_set
noncomputable def gz:=@List.mem_singleton
noncomputable def gA:=@decide_eq_decide
noncomputable def gI:=@Nat.lt_of_lt_of_le
noncomputable def gJ:=@Nat.ne_of_lt
noncomputable def gK:=@List.foldl_cons
noncomputable def gL:=@decide_eq_true_eq
noncomputable def gX:=@List.map_congr_left
noncomputable def gY:=@List.take_length
noncomputable def iE:=@PySem.mem_of_lookup
noncomputable def iH:=@List.countP_eq_length_filter
noncomputable def i0:=@Nat.lt_irrefl
noncomputable def i4:=@List.mem_filter
noncomputable def i5:=@List.getElem_mem
noncomputable def i6:=@List.range_succ
noncomputable def i7:=@List.take_add_one
noncomputable def i8:=@Bool.not_eq_false'
noncomputable def jF:=@List.mem_append_left
noncomputable def jG:=@Bool.eq_iff_iff
noncomputable def jH:=@List.countP_cons
noncomputable def jI:=@List.foldl_append
noncomputable def kg:=@List.mem_reverse
noncomputable def kZ:=@List.nodup_cons
noncomputable def k5:=@List.replicate_succ
noncomputable def k6:=@List.nil_append
noncomputable def k7:=@Classical.byContradiction
noncomputable def k8:=@Bool.true_and
noncomputable def k9:=@PyProof.Rows.boot_list
noncomputable def mq:=@List.all_eq_true
noncomputable def mv:=@Bool.or_eq_true
noncomputable def mw:=@List.cons.inj
noncomputable def mx:=@Int.add_zero
noncomputable def my:=@List.reverse_cons
noncomputable def mz:=@List.mem_of_mem_take
noncomputable def mB:=@decide_eq_true_iff
noncomputable def mC:=@Classical.choose_spec
noncomputable def m9:=@PyProof.Rows.callWith_type1
noncomputable def m_:=@List.mem_of_getElem?
noncomputable def ng:=@List.countP_congr
noncomputable def oZ:=@List.getElem?_append_right
noncomputable def o3:=@List.length_singleton
noncomputable def o4:=@Nat.succ_mul
noncomputable def o5:=@List.take_of_length_le
noncomputable def o6:=@List.length_eq_zero_iff
noncomputable def o7:=@List.filter_cons_of_pos
noncomputable def o8:=@List.nodup_range
noncomputable def o9:=@Nat.sub_self
noncomputable def o_:=@Bool.not_eq_true
noncomputable def pd:=@List.take_succ_cons
noncomputable def ph:=@List.take_zero
noncomputable def pj:=@List.countP_append
noncomputable def pk:=@List.drop_eq_getElem_cons
noncomputable def pC:=@PySem.W.mg_of
noncomputable def qP:=@beq_eq_false_iff_ne
noncomputable def qQ:=@List.getElem?_append_left
noncomputable def qR:=@List.length_replicate
noncomputable def qT:=@List.flatten_cons
noncomputable def qU:=@List.lookup_cons
noncomputable def qV:=@List.getElem?_eq_none
noncomputable def qW:=@List.getElem?_range
noncomputable def qX:=@List.mem_of_find?_eq_some
noncomputable def qY:=@List.find?_some
noncomputable def q0:=@List.length_filter_le
noncomputable def q_:=@List.sum_cons
noncomputable def rd:=@List.getElem?_set
noncomputable def rf:=@List.filter_eq_self
noncomputable def rg:=@List.filter_nil
noncomputable def rh:=@Nat.mod_eq_of_lt
noncomputable def rk:=@List.drop_eq_nil_of_le
noncomputable def rm:=@Nat.min_eq_left
noncomputable def rn:=@Nat.le_of_ble_eq_true
noncomputable def ur:=@Array.length_toList
noncomputable def uu:=@List.find?_cons
noncomputable def uw:=@List.filter_cons_of_neg
noncomputable def ux:=@List.countP_eq_zero
noncomputable def uy:=@List.reverse_reverse
noncomputable def uz:=@List.filter_append
noncomputable def uA:=@Int.natCast_add
noncomputable def xm:=@List.range_succ_eq_map
noncomputable def xn:=@Bool.and_eq_true_iff
noncomputable def xo:=@List.eq_of_mem_replicate
noncomputable def xp:=@List.dropLast_concat
noncomputable def xt:=@List.eq_nil_or_concat
noncomputable def xu:=@List.concat_eq_append
noncomputable def xw:=@List.getElem_of_mem
noncomputable def xx:=@PySem.F.plainAttrs_list
section
namespace L2
open PySem PySem.Spec PyProof.Rows
abbrev Key:=Sum Int Str
noncomputable def pD:Key->Value->Bool
 |.inl k,v=>Value.isInt k v
 |.inr x,v=>Value.isStrOf x v
noncomputable def J3(w:World):Key->Int
 |.inl k=>hashInt k
 |.inr x=>hashStr w x
theorem k_:∀{k:Key}{v:Value},pD k v=true->(∃i t,k=Sum.inl i/\v=Value.int i t)\/(∃x t,k=Sum.inr x/\v=Value.str x t)
 |.inl i,v,h=>by
  obtain⟨t,e⟩:=Value.isInt_shape (k:=i) (v:=v) h
  exact .inl ⟨i,t,rfl,e⟩
 |.inr x,v,h=>by
  obtain⟨t,e⟩:=Value.isStrOf_shape (x:=x) (v:=v) h
  exact .inr ⟨x,t,rfl,e⟩
theorem J4(i:Int)(t:Tok):pD (.inl i) (.int i t)=true:=by simp[pD,Value.isInt]
theorem J5(x:Str)(t:Tok):pD (.inr x) (.str x t)=true:=by simp[pD,Value.isStrOf]
theorem J6(a b:Int):decide ((Sum.inl a:Key)=Sum.inl b)=(a == b):=by
 by_cases e:a=b
 ·subst e;simp
 ·have h:¬(Sum.inl a:Key)=Sum.inl b:=fun q=>e (Sum.inl.inj q)
  rw[cy h]
  exact(qP.mpr e).symm
theorem J7(a b:Str):decide ((Sum.inr a:Key)=Sum.inr b)=decide (a=b):=by
 by_cases e:a=b
 ·subst e;simp
 ·have h:¬(Sum.inr a:Key)=Sum.inr b:=fun q=>e (Sum.inr.inj q)
  rw[cy h,cy e]
theorem J8(a:Int)(b:Str):decide ((Sum.inl a:Key)=Sum.inr b)=false:=cy (fun q=>nomatch q)
theorem J9(a:Str)(b:Int):decide ((Sum.inr a:Key)=Sum.inl b)=false:=cy (fun q=>nomatch q)
noncomputable def lg(prog:Program)(w:World):PySem.KeyKind prog w Key where
 is:=pD
 hash:=J3 w
 inj:=fun v a b ha hb=>by
  rcases k_ ha with ⟨i,t,rfl,rfl⟩|⟨x,t,rfl,rfl⟩
  ·rcases k_ hb with ⟨j,u,rfl,e⟩|⟨y,u,rfl,e⟩
   ·injection e with e1 _;rw[e1]
   ·exact nomatch e
  ·rcases k_ hb with ⟨j,u,rfl,e⟩|⟨y,u,rfl,e⟩
   ·exact nomatch e
   ·injection e with e1 _;rw[e1]
 byValue:=fun k v h=>by
  rcases k_ h with ⟨i,t,rfl,rfl⟩|⟨x,t,rfl,rfl⟩<;>rfl
 pyHash:=fun hv h=>by
  rcases k_ hv with ⟨i,t,rfl,rfl⟩|⟨x,t,rfl,rfl⟩
  ·exact wpAny_pyHash_int h
  ·exact wpAny_pyHash_str h
 eqBool:=fun hu hv h=>by
  rcases k_ hu with ⟨i,t,rfl,rfl⟩|⟨x,t,rfl,rfl⟩
  ·rcases k_ hv with ⟨j,u,rfl,rfl⟩|⟨y,u,rfl,rfl⟩
   ·rw[J6]at h;exact wpAny_eqBool_int h
   ·rw[J8]at h;exact SeqAt.EqAt.int_str i t y u _ _ _ _ h
  ·rcases k_ hv with ⟨j,u,rfl,rfl⟩|⟨y,u,rfl,rfl⟩
   ·rw[J9]at h;exact SeqAt.EqAt.str_int x t j u _ _ _ _ h
   ·rw[J7]at h;exact wpAny_eqBool_str h
 «strs»:=fun k x t v h=>by
  rcases k_ h with ⟨i,u,rfl,e⟩|⟨y,u,rfl,e⟩
  ·exact nomatch e
  ·injection e with e1 _
   subst e1
   cases v<;>rfl
theorem J_(prog:Program)(w:World)(i:Int)(t:Tok):(lg prog w).is (.inl i) (.int i t)=true:=J4 i t
theorem Ka(prog:Program)(w:World)(x:Str)(t:Tok):(lg prog w).is (.inr x) (.str x t)=true:=J5 x t
end L2
namespace L2
open PySem PySem.Spec PyProof.Rows
inductive V where
 |aW|bl (b:Bool)|int (i:Int)|str (x:Str)|gB (b:Array UInt8)|uB (b:UInt64)|ref (a:Addr)|ty (n:String)
 deriving DecidableEq
noncomputable def RelV:V->Value->Prop
 |.aW,u=>u=Value.none
 |.bl b,u=>u=Value.bool b
 |.int i,u=>∃t,u=Value.int i t
 |.str x,u=>∃t,u=Value.str x t
 |.gB b,u=>∃t,u=Value.bytes b t
 |.uB b,u=>∃t,u=Value.float b t
 |.ref a,u=>u=Value.ref a
 |.ty n,u=>u=Value.type n
abbrev aK:List V->List Value->Prop:=Paired RelV
theorem aK.length{xs:List V}{us:List Value}(r:aK xs us):xs.length=us.length:=Paired.length r
theorem aK.get:∀{xs:List V}{us:List Value}{i:Nat}{x:V},aK xs us->xs[i]?=some x->∃u,us[i]?=some u/\RelV x u
 |_,_,_,_,.nil,e=>by simp at e
 |_,_,0,_,.cons r _,e=>by simp at e;subst e;exact⟨_,rfl,r⟩
 |_,_,i+1,x,.cons _ t,e=>by
  obtain⟨u,h1,h2⟩:=aK.get (i:=i) (x:=x) t (by simpa using e)
  exact⟨u,by simpa using h1,h2⟩
theorem aK.set{x:V}{u:Value}(r:RelV x u):∀{xs:List V}{us:List Value} (i:Nat),aK xs us->aK (xs.set i x) (us.set i u)
 |_,_,_,.nil=>.nil
 |_,_,0,.cons _ t=>.cons r t
 |_,_,i+1,.cons q t=>.cons q (aK.set r i t)
theorem aK.append:∀{xs ys:List V}{us ws:List Value},aK xs us->aK ys ws->aK (xs++ys) (us++ws)
 |_,_,_,_,.nil,s=>s
 |_,_,_,_,.cons r t,s=>.cons r (aK.append t s)
theorem aK.take:∀{xs:List V}{us:List Value} (n:Nat),aK xs us->aK (xs.take n) (us.take n)
 |_,_,0,_=>.nil
 |_,_,_+1,.nil=>.nil
 |_,_,n+1,.cons r t=>.cons r (aK.take n t)
theorem aK.drop:∀{xs:List V}{us:List Value} (n:Nat),aK xs us->aK (xs.drop n) (us.drop n)
 |_,_,0,r=>r
 |_,_,_+1,.nil=>.nil
 |_,_,n+1,.cons _ t=>aK.drop n t
noncomputable def i9:Option V->Option Value->Prop
 |some v,some u=>RelV v u
 |none,none=>True
 |_,_=>False
noncomputable def KV{κ:Type}:List (κ×V)->List (κ×Value)->Prop:=Paired fun (p:κ×V) (q:κ×Value)=>p.1=q.1/\RelV p.2 q.2
noncomputable def kV:Key->V
 |.inl i=>.int i
 |.inr x=>.str x
inductive HO where
 |lst (xs:List V)
 |tup (xs:List V)
 |dK (kvs:List (Key×V))|dT (kvs:List (List Key×V))
 |set (S:Int->Bool) (n:Nat)
 |ins (C dx:Addr) (fs:List (Str×V))
 |own (x:Addr)
 |xd (fs:List (Str×V))
 |met (f x:Addr)
 |kh (lo hi:Int)
 |cA (o:Obj) (u:HO)
 |ni (ps:Array Value)
 |ext (φ:Heap->Prop)
abbrev Hp:=Addr->Option HO
noncomputable def upd(H:Hp)(a:Addr)(o:HO):Hp:=fun b=>if b=a then some o else H b
theorem au{H:Hp}{a:Addr}{o:HO}:upd H a o a=some o:=by unfold upd;rw[af rfl]
theorem ax{H:Hp}{a b:Addr}{o:HO}(h:b≠a):upd H a o b=H b:=by unfold upd;rw[ae h]
theorem a7{H:Hp}{a b:Addr}{o:HO}(h:H a=some o)(h':H b=none):a≠b:=by
 intro e;subst e;rw[h]at h';cases h'
section
variable(P:Program)(w:World)
noncomputable def eM(H:Hp)(h:Heap)(a:Addr):HO->Prop
 |.lst xs=>xs.length<=sizeLine/\∃(its:List Value) (n:Nat),aK xs its/\h.get? a=some {cls:=.type "list",data:=.seq its.toArray n}
 |.tup xs=>xs.length<=sizeLine/\∃its:List Value,aK xs its/\IsTup h a its.toArray
 |.dK kvs=>kvs.length<=sizeLine/\(a == sysModules)=false/\∃vs,KV kvs vs/\h.DictOf (lg P w) a vs
 |.dT kvs=>kvs.length<=sizeLine/\(a == sysModules)=false/\∃xs:List (List Key×Addr×Value),
   Paired (fun (p:List Key×V) (q:List Key×Addr×Value)=>p.1=q.1/\H q.2.1=some (.tup (p.1.map kV))/\RelV p.2 q.2.2) kvs xs/\
   ∃o es ep,h.get? a=some o/\o.ExactDict/\o.data=.dict es ep/\es.toList=xs.map (entryOfKey (tupleKind (lg P w)))/\(xs.map (·.1)).Nodup
 |.set S n=>h.SetOf (intKind P w) a S n
 |.ins C dx fs=>H dx=some (.own a)/\fs.length<=1000/\dx≠a/\h.get? a=some (PySem.W.instObj C dx)/\
   ∃mA,h.Ns1 dx mA/\(∀f,i9 (fs.lookup f) (mA f))/\PySem.Within mA (fs.map (·.1))
 |.own _=>∃o,h.get? a=some o
 |.xd fs=>∃mA,h.Ns1 a mA/\∀f,i9 (fs.lookup f) (mA f)
 |.kh lo hi=>∃t u v,h.get? a=some {cls:=.type "range",data:=.fields #[.int lo t,.int hi u,.int 1 v]}
 |.cA o u=>h.get? a=some o/\eM H h a u
 |.ni ps=>h.get? a=some {cls:=.none,data:=.fields ps}
 |.met f x=>h.get? a=some (PySem.W.methodObj (.ref f) (.ref x))
 |.ext φ=>φ h/\(∃o,h.get? a=some o)/\∀h1 h2:Heap,φ h1->(∀o,h1.get? a=some o->h2.get? a=some o)->φ h2
noncomputable def cV(H:Hp)(h:Heap):Prop:=∀a o,H a=some o->eM P w H h a o
end
section
variable{P:Program}{w:World}{H H':Hp}{h h':Heap}{a:Addr}{o:HO}
theorem eM.lt(x:eM P w H h a o):a<h.objs.size:=by
 cases o with
 |lst xs=>obtain⟨_,_,_,_,e⟩:=x;exact Heap.lt_size e
 |tup xs=>obtain⟨_,_,_,p⟩:=x;exact p.lt
 |dK kvs=>obtain⟨_,_,_,_,o,_,_,e,_⟩:=x;exact Heap.lt_size e
 |dT kvs=>obtain⟨_,_,_,_,o,_,_,e,_⟩:=x;exact Heap.lt_size e
 |set S n=>obtain⟨o,_,_,_,e,_⟩:=x;exact Heap.lt_size e
 |ins C dx fs=>obtain⟨_,_,_,e,_⟩:=x;exact Heap.lt_size e
 |own y=>obtain⟨_,e⟩:=x;exact Heap.lt_size e
 |xd fs=>obtain⟨_,⟨_,_,_,e,_⟩,_⟩:=x;exact Heap.lt_size e
 |kh lo hi=>obtain⟨_,_,_,e⟩:=x;exact Heap.lt_size e
 |cA ob u=>obtain⟨e,_⟩:=x;exact Heap.lt_size e
 |ni ps=>exact Heap.lt_size (show h.get? a=some _ from x)
 |met f y=>exact Heap.lt_size (show h.get? a=some _ from x)
 |ext φ=>obtain⟨_,⟨_,e⟩,_⟩:=x;exact Heap.lt_size e
theorem Paired.CU{α β:Type}{F G:α->β->Prop}:∀{l₁:List α}{l₂:List β},Paired F l₁ l₂->(∀a b,F a b->G a b)->Paired G l₁ l₂
 |_,_,.nil,_=>.nil
 |_,_,.cons r t,f=>.cons (f _ _ r) (Paired.CU t f)
theorem eM.ki(x:eM P w H h a o)(k:∀b u,(b=a\/H b=some (.own a))->h.get? b=some u->h'.get? b=some u)
  (ho:∀b,H b=some (.own a)->H' b=some (.own a))(ht:∀b xs,H b=some (.tup xs)->H' b=some (.tup xs)):eM P w H' h' a o:=by
 induction o with
 |lst xs=>obtain⟨z,its,n,r,e⟩:=x;exact⟨z,its,n,r,k _ _ (.inl rfl) e⟩
 |tup xs=>obtain⟨z,its,r,ob,e,c⟩:=x;exact⟨z,its,r,ob,k _ _ (.inl rfl) e,c⟩
 |dK kvs=>obtain⟨z,y,vs,r,ob,es,ep,e,c⟩:=x;exact⟨z,y,vs,r,ob,es,ep,k _ _ (.inl rfl) e,c⟩
 |dT kvs=>
  obtain⟨z,y,xs,r,ob,es,ep,e,c⟩:=x
  exact⟨z,y,xs,Paired.CU r fun p q z=>⟨z.1,ht _ _ z.2.1,z.2.2⟩,ob,es,ep,k _ _ (.inl rfl) e,c⟩
 |set S n=>obtain⟨ob,es,ep,t,e,c⟩:=x;exact⟨ob,es,ep,t,k _ _ (.inl rfl) e,c⟩
 |ins C dx fs=>
  obtain⟨d,z,ne,e,mA,⟨od,es,ep,e2,c⟩,r⟩:=x
  exact⟨ho _ d,z,ne,k _ _ (.inl rfl) e,mA,⟨od,es,ep,k _ _ (.inr d) e2,c⟩,r⟩
 |own y=>obtain⟨ob,e⟩:=x;exact⟨ob,k _ _ (.inl rfl) e⟩
 |xd fs=>obtain⟨mA,⟨od,es,ep,e,c⟩,r⟩:=x;exact⟨mA,⟨od,es,ep,k _ _ (.inl rfl) e,c⟩,r⟩
 |kh lo hi=>obtain⟨t,u,v,e⟩:=x;exact⟨t,u,v,k _ _ (.inl rfl) e⟩
 |cA ob u ih=>obtain⟨e,q⟩:=x;exact⟨k _ _ (.inl rfl) e,ih q⟩
 |ni ps=>
  have e:h.get? a=some {cls:=.none,data:=.fields ps}:=x
  show h'.get? a=some {cls:=.none,data:=.fields ps}
  exact k a _ (.inl rfl) e
 |met f y=>
  have e:h.get? a=some (PySem.W.methodObj (.ref f) (.ref y)):=x
  show h'.get? a=some (PySem.W.methodObj (.ref f) (.ref y))
  exact k a _ (.inl rfl) e
 |ext φ=>obtain⟨p,⟨o,e⟩,st⟩:=x;exact⟨st _ _ p fun o q=>k _ _ (.inl rfl) q,⟨o,k _ _ (.inl rfl) e⟩,st⟩
theorem cV.lt(x:cV P w H h)(e:H a=some o):a<h.objs.size:=(x a o e).lt
theorem cV.fresh(x:cV P w H h)(e:h.objs.size<=a):H a=none:=by
 cases q:H a with
 |none=>rfl
 |some u=>exact absurd (gI (x.lt q) e) (i0 _)
theorem cV.kept(x:cV P w H h)(k:∀b u,h.get? b=some u->h'.get? b=some u):cV P w H h':=fun a o e=>
 (x a o e).ki (fun b u _ q=>k b u q) (fun _ q=>q) fun _ _ q=>q
theorem cV.laid(x:cV P w H h)(k:∀b u,h.get? b=some u->h'.get? b=some u)(hp:h.objs.size<=a)(new:eM P w (upd H a o) h' a o):cV P w (upd H a o) h':=fun b u e=>by
 have hn:=x.fresh hp
 by_cases hb:b=a
 ·subst hb;rw[au]at e;cases e;exact new
 ·rw[ax hb]at e
  exact(x b u e).ki (fun c v _ q=>k c v q) (fun c q=>by rw[ax (a7 q hn)];exact q) fun c xs q=>by rw[ax (a7 q hn)];exact q
end
noncomputable def Rd(H:Hp)(a:Addr)(u:HO):Prop:=H a=some u\/∃o,H a=some (.cA o u)
theorem Rd.ok{P:Program}{w:World}{H:Hp}{h:Heap}{a:Addr}{u:HO}(r:Rd H a u)(x:cV P w H h):eM P w H h a u:=by
 rcases r with r|⟨o,r⟩
 ·exact x a u r
 ·obtain⟨_,q⟩:=x a _ r
  exact q
noncomputable def nj:Option HO->Prop
 |some (.lst _)=>True
 |some (.dK _)=>True
 |some (.dT _)=>True
 |some (.set _ _)=>True
 |some (.ins _ _ _)=>True
 |some (.ext _)=>True
 |_=>False
section
variable{P:Program}{w:World}{H:Hp}{h h':Heap}{x e:Addr}{o':HO}
theorem cV.write(ok:cV P w H h)(mu:nj (H x))(he:e=x\/H e=some (.own x))(k:∀b u,b≠e->h.get? b=some u->h'.get? b=some u)(heo:∃u,h'.get? e=some u)
  (new:eM P w (upd H x o') h' x o'):cV P w (upd H x o') h':=fun b u q=>by
 have nown:∀c y,H c=some (.own y)->c≠x:=fun c y r z=>by subst z;rw[r]at mu;exact mu
 have ntup:∀c xs,H c=some (.tup xs)->c≠x:=fun c xs r z=>by subst z;rw[r]at mu;exact mu
 by_cases hb:b=x
 ·subst hb;rw[au]at q;cases q;exact new
 ·rw[ax hb]at q
  by_cases hbe:b=e
  ·have q':H b=some (.own x):=by
    rcases he with z|z
    ·exact absurd (hbe.trans z) hb
    ·rw[hbe];exact z
   rw[q]at q';cases q'
   obtain⟨v,hv⟩:=heo
   exact⟨v,by rw[hbe];exact hv⟩
  ·refine(ok b u q).ki (fun c v hc r=>k c v ?_ r) (fun c r=>by rw[ax (nown c b r)];exact r) fun c xs r=>by rw[ax (ntup c xs r)];exact r
   rcases hc with rfl|hc
   ·exact hbe
   ·rintro rfl
    rcases he with z|z
    ·exact nown c b hc z
    ·rw[hc]at z;cases z;exact hb rfl
end
structure Un(fs ex:List Addr)(H H':Hp)(h h':Heap):Prop where
 keep:∀b o,h.get? b=some o->H b=none->b∉fs->b∉ex->h'.get? b=some o
 slot:∀b o,h.get? b=some o->H b=none->b∈fs->b∉ex->∃sl,h'.get? b=some {o with slots:=sl}
 free:∀b o,h.get? b=some o->H b=none->b∉ex->H' b=none
 there:∀b o,h.get? b=some o->b∉ex->∃o',h'.get? b=some o'
 lh:∀b xs,H b=some (.tup xs)->H' b=some (.tup xs)
 jJ:∀b o u,H b=some (.cA o u)->H' b=some (.cA o u)
 lp:∀b ps,H b=some (.ni ps)->∃more,H' b=some (.ni (ps++more))
section
variable{fs fs' ex ex':List Addr}{H H1 H2:Hp}{h h1 h2 h':Heap}{a x e:Addr}{o:HO}
theorem Un.any(u:Un fs ex H H1 h h1){b:Addr}{ob:Obj}(q:h.get? b=some ob)(n:H b=none)(hx:b∉ex):∃sl,h1.get? b=some {ob with slots:=sl}:=by
 by_cases hb:b∈fs
 ·exact u.slot b ob q n hb hx
 ·exact⟨ob.slots,u.keep b ob q n hb hx⟩
theorem Un.kept(k:∀b u,h.get? b=some u->h'.get? b=some u):Un fs ex H H h h':=
 ⟨fun b ob q _ _ _=>k b ob q,fun b ob q _ _ _=>⟨ob.slots,k b ob q⟩,fun _ _ _ n _=>n,fun b ob q _=>⟨ob,k b ob q⟩,fun _ _ q=>q,fun _ _ _ q=>q,fun _ ps q=>⟨#[],by rw[q];simp⟩⟩
theorem Un.refl:Un fs ex H H h h:=Un.kept fun _ _ q=>q
theorem Un.laid(k:∀b u,h.get? b=some u->h'.get? b=some u)(hp:h.objs.size<=a)(hn:H a=none):Un fs ex H (upd H a o) h h' where
 keep:=fun b u q _ _ _=>k b u q
 slot:=fun b u q _ _ _=>⟨u.slots,k b u q⟩
 free:=fun b u q n _=>by rw[ax (gJ (gI (Heap.lt_size q) hp))];exact n
 there:=fun b u q _=>⟨u,k b u q⟩
 lh:=fun b xs q=>by rw[ax (a7 q hn)];exact q
 jJ:=fun b u xs q=>by rw[ax (a7 q hn)];exact q
 lp:=fun b ps q=>⟨#[],by rw[ax (a7 q hn),q];simp⟩
theorem Un.write(mu:nj (H x))(he:e=x\/H e=some (.own x))(k:∀b u,b≠e->h.get? b=some u->h'.get? b=some u)(heo:∃u,h'.get? e=some u):Un fs ex H (upd H x o) h h':=by
 have hx:∀b,H b=none->b≠x:=fun b n z=>by subst z;rw[n]at mu;exact mu
 have hb:∀b,H b=none->b≠e:=fun b n z=>by
  subst z
  rcases he with r|r
  ·exact hx b n r
  ·rw[n]at r;cases r
 have hm:∀b u,H b=some u->¬nj (some u)->b≠x:=fun b u q nm z=>by subst z;rw[q]at mu;exact nm mu
 refine⟨fun b u q n _ _=>k b u (hb b n) q,fun b u q n _ _=>⟨u.slots,k b u (hb b n) q⟩,fun b u q n _=>by rw[ax (hx b n)];exact n,fun b u q _=>?_,
  fun b xs q=>by rw[ax (hm b _ q fun z=>z)];exact q,fun b u xs q=>by rw[ax (hm b _ q fun z=>z)];exact q,fun b ps q=>⟨#[],by rw[ax (hm b _ q fun z=>z),q];simp⟩⟩
 by_cases hbe:b=e
 ·subst hbe;exact heo
 ·exact⟨u,k b u hbe q⟩
end
noncomputable def uC(h:Heap)(H:Hp):List Addr:=(List.range h.objs.size).filter fun a=>(H a).isSome
noncomputable def lq(h:Heap)(H:Hp):Heap:=PySem.W.hideAll h (uC h H)
theorem Kb(h:Heap)(H:Hp):(lq h H).objs.size=h.objs.size:=PySem.W.hideAll_size _ _
theorem Kc{h:Heap}{H:Hp}{b:Addr}{o:Obj}(e:h.get? b=some o)(n:H b=none):(lq h H).get? b=some o:=
 PySem.W.hideAll_get _ e fun hm=>by
  have q:(H b).isSome=true:=(i4.mp hm).2
  rw[n]at q;simp at q
theorem Kd{h:Heap}{H:Hp}{b:Addr}{o:Obj}(e:(lq h H).get? b=some o):h.get? b=some o/\H b=none:=by
 have e':h.get? b=some o:=PySem.W.of_hideAll (uC h H) e
 refine⟨e',?_⟩
 cases q:H b with
 |none=>rfl
 |some x=>
  have hm:b∈uC h H:=i4.mpr ⟨a6.mpr (Heap.lt_size e'),by simp[q]⟩
  have z:(lq h H).get? b=none:=PySem.W.hideAll_none (uC h H) hm
  rw[z]at e;cases e
end L2
namespace L2
open PySem PySem.Spec PyProof.Rows
structure Mod(K:PySem.W.Frag)(mg:Str->Option Value)(base:Heap):Prop where
 pE:K.In base
 glob:base.Ns mainGlobals mg
 blt:∃mb,base.Ns builtinsNs mb/\∀x:Str,x≠"__name__"->mb x=bootBuiltins x
 nolimit:base.NoLimit
structure Cx where
 prog:Program
 w:World
 K:PySem.W.Frag
 mg:Str->Option Value
 base:Heap
 A:Around
 N:List Str
 eN:Shared
 nk:Hp
 env:Env
 outer:List Env
 stack:List Env
 ex:List Addr
 fn:Str->Bool
 calm:Bool
 pn:List (Addr×Obj)
 xe:Value->Shared->Prop
noncomputable def jK(l:List Env):List Addr:=l.filterMap (·.frame)
abbrev Cx.fs(X:Cx):List Addr:=jK X.outer
noncomputable def pF(sc:Scope)(x:Str):Prop:=sc.names.lookup x=some .local\/sc.names.lookup x=some .cell\/sc.names.lookup x=some .free
noncomputable def Loc(sc:Scope)(x:Str):Prop:=sc.names.lookup x=some .local\/sc.names.lookup x=some .cell
noncomputable def Look(env:Env)(h:Heap)(m:Str->Option Value)(x:Str)(u:Value):Prop:=
 (env.kindOf x=some .local/\m x=some u)\/((env.kindOf x=some .cell\/env.kindOf x=some .free)/\∃c,env.cells.lookup x=some c/\h.IsCell c (some u))
structure Cx.Ok(X:Cx):Prop where
 mod:Mod X.K X.mg X.base
 kind:X.env.scope.kind=.function
 glob:X.env.globals=mainGlobals
 blt:X.env.builtins=builtinsNs
 above:X.eN.heap.objs.size<=X.env.locals
 inj:∀x y c,X.env.cells.lookup x=some c->X.env.cells.lookup y=some c->x=y
 has:∀x,(X.env.kindOf x=some .cell\/X.env.kindOf x=some .free)->∃c,X.env.cells.lookup x=some c
 rz:∀x c,X.fn x=true->X.env.cells.lookup x=some c->X.eN.heap.objs.size<=c
 hd:X.calm=true->X.A.handled=none
 frames:X.A.frames=some X.stack
 uD:X.stack=X.outer\/(X.stack=X.env::X.outer/\X.env.frame=some X.env.locals)
 uE:∀b∈X.ex,b≠X.env.locals/\∀x c,X.env.cells.lookup x=some c->c≠b
 bs:∀b o,X.base.get? b=some o->X.eN.heap.get? b=some o/\X.nk b=none
 lu:X.base.objs.size<=X.eN.heap.objs.size
 rC:∀b o,X.base.get? b=some o->b∉X.ex
 rD:∀b∈X.ex,b∉X.fs
 i_:X.eN.heap.FunFrames X.base X.outer
 nq:∀b∈X.fs,X.nk b=none
structure Inv(X:Cx)(pins:List (Addr×Obj))(σ:List (Option V))(H:Hp)(s:Shared):Prop where
 ok:X.Ok
 os:s.os=X.eN.os
 bare:AllBare s.gens
 base:Un X.fs X.ex X.nk H X.eN.heap s.heap
 loc:∃m,s.heap.Ns X.env.locals m/\∀(i:Nat) (x:Str) (v:V),X.N[i]?=some x->σ[i]?=some (some v)->pF X.env.scope x->∃u,RelV v u/\Look X.env s.heap m x u
 cell:∀x c,X.env.cells.lookup x=some c->∃v,s.heap.IsCell c v
 free:H X.env.locals=none
 iI:∀x c,X.env.cells.lookup x=some c->H c=none
 pin:∀p∈X.pn++pins,s.heap.get? p.1=some p.2/\H p.1=none/\p.1≠X.env.locals/\p.1∉X.fs/\∀v,p.2.data≠.cell v
 aP:cV X.prog X.w H s.heap
 len:σ.length=X.N.length
section
variable{X:Cx}{pins:List (Addr×Obj)}{σ:List (Option V)}{H H':Hp}{s:Shared}{h':Heap}
theorem Cx.Ok.Ke(ok:X.Ok){b:Addr}{o:Obj}(e:X.base.get? b=some o):b∉X.fs:=fun hb=>by
 have:=(ok.i_.mem hb).1
 rw[e]at this;cases this
theorem Inv.bs(I:Inv X pins σ H s):∀b o,X.base.get? b=some o->s.heap.get? b=some o/\H b=none:=fun b o e=>
 ⟨I.base.keep b o (I.ok.bs b o e).1 (I.ok.bs b o e).2 (I.ok.Ke e) (I.ok.rC b o e),I.base.free b o (I.ok.bs b o e).1 (I.ok.bs b o e).2 (I.ok.rC b o e)⟩
theorem Inv.bk(I:Inv X pins σ H s):∀b o,X.base.get? b=some o->s.heap.get? b=some o:=fun b o e=>(I.bs b o e).1
theorem Inv.mod(I:Inv X pins σ H s):Mod X.K X.mg X.base:=I.ok.mod
theorem Inv.fZ(I:Inv X pins σ H s):X.K.In s.heap:=I.ok.mod.pE.keeps I.bk
theorem Inv.lt(I:Inv X pins σ H s):X.env.locals<s.heap.objs.size:=let ⟨_,hn,_⟩:=I.loc;hn.lt
theorem Inv.sz(I:Inv X pins σ H s):X.eN.heap.objs.size<=s.heap.objs.size:=cC I.ok.above (Nat.le_of_lt I.lt)
theorem Inv.Kf(I:Inv X pins σ H s){a:Addr}(h:s.heap.objs.size<=a):a∉X.fs:=fun hb=>by
 obtain⟨_,o,ho,_⟩:=I.ok.i_.mem hb
 exact absurd (gI (Heap.lt_size ho) (cC I.sz h)) (i0 _)
theorem Inv.nt(I:Inv X pins σ H s):∀x c,X.env.cells.lookup x=some c->c≠X.env.locals:=fun x c e z=>by
 obtain⟨v,o,ho,hd⟩:=I.cell x c e
 obtain⟨m,⟨o',es,ep,ho',hd',_⟩,_⟩:=I.loc
 rw[z,ho']at ho;cases ho;rw[hd']at hd;cases hd
theorem Inv.i_(I:Inv X pins σ H s):s.heap.FunFrames X.base X.outer:=by
 have all:∀(l:List Env),(∀b∈jK l,b∈X.fs)->X.eN.heap.FunFrames X.base l->s.heap.FunFrames X.base l:=by
  intro l
  induction l with
  |nil=>intro _ _;trivial
  |cons env r ih=>
   intro hs hl
   obtain⟨hk,⟨L,o,hf,hn,ho,hd⟩,hr⟩:=hl
   have hL:L∈X.fs:=hs L (by unfold jK;rw[List.filterMap_cons,hf];exact bE)
   obtain⟨sl,e⟩:=I.base.slot L o ho (I.ok.nq L hL) hL fun z=>I.ok.rD L z hL
   exact⟨hk,⟨L,_,hf,hn,e,hd⟩,ih (fun b hb=>hs b (by unfold jK;rw[List.filterMap_cons,hf];exact bI _ hb)) hr⟩
 exact all X.outer (fun _ hb=>hb) I.ok.i_
theorem Inv.stack(I:Inv X pins σ H s):s.heap.FunFrames X.base X.stack:=by
 rcases I.ok.uD with e|⟨e,hf⟩
 ·rw[e];exact I.i_
 ·rw[e]
  obtain⟨m,hn,_⟩:=I.loc
  refine .cons (by rw[I.ok.kind];decide) hf hn ?_ I.i_
  exact Heap.get?_none_of_le (cC I.ok.lu I.ok.above)
theorem Inv.xA(I:Inv X pins σ H s):∀b∈jK X.stack,b∈X.env.locals::X.fs:=fun b hb=>by
 rcases I.ok.uD with e|⟨e,hf⟩
 ·rw[e]at hb;exact bI _ hb
 ·rw[e]at hb
  unfold jK at hb
  rw[List.filterMap_cons,hf]at hb
  exact hb
theorem Inv.CV(I:Inv X pins σ H s):∀b∈jK X.stack,H b=none:=fun b hb=>by
 rcases bY.mp (I.xA b hb) with e|hb
 ·rw[e];exact I.free
 ·obtain⟨_,o,ho,_⟩:=I.ok.i_.mem hb
  exact I.base.free b o ho (I.ok.nq b hb) fun z=>I.ok.rD b z hb
theorem Inv.step{g':Array GenState}{t':Nat}{d':Drawn}{ch:List Addr}(I:Inv X pins σ H s)
  (hch:∀b∈ch,(b∈X.ex\/X.eN.heap.objs.size<=b)/\b≠X.env.locals/\(∀x c,X.env.cells.lookup x=some c->c≠b)/\∀p∈X.pn++pins,p.1≠b)
  (keep:∀b o,b≠X.env.locals->b∉X.fs->b∉ch->s.heap.get? b=some o->H b=none->h'.get? b=some o)
  (slot:∀b o,b≠X.env.locals->b∈X.fs->b∉ch->s.heap.get? b=some o->H b=none->∃sl,h'.get? b=some {o with slots:=sl})(free:∀b o,b∉ch->s.heap.get? b=some o->H b=none->H' b=none)
  (there:∀b o,b∉ch->s.heap.get? b=some o->∃o',h'.get? b=some o')
  (lh:∀b xs,H b=some (.tup xs)->H' b=some (.tup xs))(jJ:∀b o u,H b=some (.cA o u)->H' b=some (.cA o u))(lp:∀b ps,H b=some (.ni ps)->∃more,H' b=some (.ni (ps++more)))
  (ns:∀m,s.heap.Ns X.env.locals m->h'.Ns X.env.locals m)(aP:cV X.prog X.w H' h')(hg:AllBare g'):
  Inv X pins σ H' {s with heap:=h',gens:=g',drawn:=d',toks:=t'}:=by
 have neL:∀b o,X.eN.heap.get? b=some o->b≠X.env.locals:=fun b o e=>gJ (gI (Heap.lt_size e) I.ok.above)
 have neC:∀b o,X.eN.heap.get? b=some o->b∉X.ex->b∉ch:=fun b o e hx hb=>by
  rcases(hch b hb).1 with z|z
  ·exact hx z
  ·exact absurd (gI (Heap.lt_size e) z) (i0 _)
 have cellK:∀x c,X.env.cells.lookup x=some c->∀v,s.heap.IsCell c v->h'.IsCell c v:=fun x c e v ⟨o,ho,hd⟩=>by
  have nch:c∉ch:=fun z=>(hch c z).2.2.1 x c e rfl
  by_cases hc:c∈X.fs
  ·obtain⟨sl,q⟩:=slot c o (I.nt x c e) hc nch ho (I.iI x c e)
   exact⟨_,q,hd⟩
  ·exact⟨o,keep c o (I.nt x c e) hc nch ho (I.iI x c e),hd⟩
 refine⟨I.ok,I.os,hg,⟨fun b o e n hb hx=>?_,fun b o e n hb hx=>?_,fun b o e n hx=>?_,fun b o e hx=>?_,fun b xs e=>lh b xs (I.base.lh b xs e),fun b o xs e=>jJ b o xs (I.base.jJ b o xs e),fun b ps e=>?_⟩,?_,fun x c e=>?_,?_,fun x c e=>?_,fun p hp=>?_,aP,I.len⟩
 ·exact keep b o (neL b o e) hb (neC b o e hx) (I.base.keep b o e n hb hx) (I.base.free b o e n hx)
 ·obtain⟨sl,e1⟩:=I.base.slot b o e n hb hx
  obtain⟨sl',e2⟩:=slot b _ (neL b o e) hb (neC b o e hx) e1 (I.base.free b o e n hx)
  exact⟨sl',e2⟩
 ·obtain⟨o',e1⟩:=I.base.there b o e hx
  exact free b o' (neC b o e hx) e1 (I.base.free b o e n hx)
 ·obtain⟨o',e1⟩:=I.base.there b o e hx
  exact there b o' (neC b o e hx) e1
 ·obtain⟨m1,e1⟩:=I.base.lp b ps e
  obtain⟨m2,e2⟩:=lp b _ e1
  exact⟨m1++m2,by rw[e2,Array.append_assoc]⟩
 ·obtain⟨m,hn,hl⟩:=I.loc
  refine⟨m,ns m hn,fun i x v e1 e2 e3=>?_⟩
  obtain⟨u,r,l⟩:=hl i x v e1 e2 e3
  refine⟨u,r,?_⟩
  rcases l with l|⟨k,c,e,z⟩
  ·exact .inl l
  ·exact .inr ⟨k,c,e,cellK x c e _ z⟩
 ·obtain⟨v,z⟩:=I.cell x c e
  exact⟨v,cellK x c e v z⟩
 ·obtain⟨m,⟨o,_,_,ho,_⟩,_⟩:=I.loc
  exact free _ o (fun z=>(hch _ z).2.1 rfl) ho I.free
 ·obtain⟨v,o,ho,hd⟩:=I.cell x c e
  exact free c o (fun z=>(hch c z).2.2.1 x c e rfl) ho (I.iI x c e)
 ·obtain⟨e,n,ne,nf,d⟩:=I.pin p hp
  have nch:p.1∉ch:=fun z=>(hch p.1 z).2.2.2 p hp rfl
  exact⟨keep p.1 p.2 ne nf nch e n,free p.1 p.2 nch e n,ne,nf,d⟩
theorem Inv.un{t':Nat}(I:Inv X pins σ H s)(u:Un X.fs [] H H' s.heap h')(aP:cV X.prog X.w H' h'):Inv X pins σ H' {s with heap:=h',toks:=t'}:=by
 obtain⟨m,⟨o,es,ep,ho,r⟩,_⟩:=id I.loc
 obtain⟨sl,hL⟩:=u.any ho I.free (by simp)
 exact I.step (g':=s.gens) (d':=s.drawn) (ch:=[]) (fun _ z=>nomatch z) (fun b o _ hb _ e n=>u.keep b o e n hb (by simp)) (fun b o _ hb _ e n=>u.slot b o e n hb (by simp)) (fun b o _ e n=>u.free b o e n (by simp)) (fun b o _ e=>u.there b o e (by simp)) u.lh u.jJ u.lp (fun m' hm=>by
  obtain⟨o',es',ep',ho',r'⟩:=hm
  rw[ho]at ho';cases ho'
  exact⟨_,es',ep',hL,r'⟩) aP I.bare
theorem Inv.call{g':Array GenState}{t':Nat}{d':Drawn}{ch:List Addr}(I:Inv X pins σ H s)(u:Un (jK X.stack) ch H H' s.heap h')(aP:cV X.prog X.w H' h')(hg:AllBare g')
  (hch:∀b∈ch,(b∈X.ex\/X.eN.heap.objs.size<=b)/\b≠X.env.locals/\(∀x c,X.env.cells.lookup x=some c->c≠b)/\∀p∈X.pn++pins,p.1≠b):
  Inv X pins σ H' {s with heap:=h',gens:=g',drawn:=d',toks:=t'}:=by
 obtain⟨m,⟨o,es,ep,ho,r⟩,_⟩:=id I.loc
 obtain⟨sl,hL⟩:=u.any ho I.free fun z=>(hch _ z).2.1 rfl
 exact I.step (ch:=ch) hch (fun b o hL hb hc e n=>u.keep b o e n (fun z=>(bY.mp (I.xA b z)).elim hL hb) hc) (fun b o _ _ hc e n=>u.any e n hc) (fun b o hc e n=>u.free b o e n hc) (fun b o hc e=>u.there b o e hc) u.lh u.jJ u.lp (fun m' hm=>by
  obtain⟨o',es',ep',ho',r'⟩:=hm
  rw[ho]at ho';cases ho'
  exact⟨_,es',ep',hL,r'⟩) aP hg
theorem Inv.turned{t':Nat}{it:Addr}(I:Inv X pins σ H s)(k:∀b o,b≠it->s.heap.get? b=some o->h'.get? b=some o)(hn:H it=none)(hL:it≠X.env.locals)
  (h1:it∈X.ex\/X.eN.heap.objs.size<=it)(h2:∀x c,X.env.cells.lookup x=some c->c≠it)(h3:∀p∈X.pn++pins,p.1≠it):Inv X pins σ H {s with heap:=h',toks:=t'}:=by
 have nit:∀b u,H b=some u->b≠it:=fun b u e z=>by rw[z,hn]at e;cases e
 refine I.step (g':=s.gens) (d':=s.drawn) (ch:=[it]) (fun b hb=>?_) (fun b o _ _ hc e _=>k b o (fun z=>hc (by simp[z])) e) (fun b o _ _ hc e _=>⟨o.slots,k b o (fun z=>hc (by simp[z])) e⟩) (fun _ _ _ _ n=>n)
  (fun b o hc e=>⟨o,k b o (fun z=>hc (by simp[z])) e⟩) (fun _ _ e=>e) (fun _ _ _ e=>e) (fun b ps e=>⟨#[],by rw[e];simp⟩) (fun m hm=>?_) (fun b u e=>?_) I.bare
 ·have e:b=it:=by simpa using hb
  subst e
  exact⟨h1,hL,h2,h3⟩
 ·obtain⟨o,es,ep,ho,r⟩:=hm
  exact⟨o,es,ep,k _ o (Ne.symm hL) ho,r⟩
 ·refine(I.aP b u e).ki (fun c v hc q=>k c v ?_ q) (fun _ q=>q) fun _ _ q=>q
  rcases hc with z|z
  ·rw[z];exact nit b u e
  ·exact nit c _ z
theorem Inv.tok(I:Inv X pins σ H s)(t:Nat):Inv X pins σ H {s with toks:=t}:=I.un (h':=s.heap) (t':=t) Un.refl I.aP
theorem Inv.kept{t':Nat}(I:Inv X pins σ H s)(k:∀b u,s.heap.get? b=some u->h'.get? b=some u):Inv X pins σ H {s with heap:=h',toks:=t'}:=I.un (Un.kept k) (I.aP.kept k)
theorem Inv.laid{a:Addr}{o:HO}{t':Nat}(I:Inv X pins σ H s)(k:∀b u,s.heap.get? b=some u->h'.get? b=some u)(hp:s.heap.objs.size<=a)(new:eM X.prog X.w (upd H a o) h' a o):
  Inv X pins σ (upd H a o) {s with heap:=h',toks:=t'}:=I.un (Un.laid k hp (I.aP.fresh hp)) (I.aP.laid k hp new)
theorem Inv.write{x e:Addr}{o:HO}{t':Nat}(I:Inv X pins σ H s)(mu:nj (H x))(he:e=x\/H e=some (.own x))(k:∀b u,b≠e->s.heap.get? b=some u->h'.get? b=some u)(heo:∃u,h'.get? e=some u)
  (new:eM X.prog X.w (upd H x o) h' x o):Inv X pins σ (upd H x o) {s with heap:=h',toks:=t'}:=I.un (Un.write mu he k heo) (I.aP.write mu he k heo new)
theorem Inv.weak{σ':List (Option V)}(I:Inv X pins σ H s)(hl:σ'.length=σ.length)(w:∀(i:Nat) v,σ'[i]?=some (some v)->σ[i]?=some (some v)):Inv X pins σ' H s:=
 ⟨I.ok,I.os,I.bare,I.base,let ⟨m,hn,hl'⟩:=I.loc;⟨m,hn,fun i x v e1 e2 e3=>hl' i x v e1 (w i v e2) e3⟩,I.cell,I.free,I.iI,I.pin,I.aP,hl.trans I.len⟩
theorem Inv.CW{pins':List (Addr×Obj)}(I:Inv X pins σ H s)(h:∀p∈pins',s.heap.get? p.1=some p.2/\H p.1=none/\p.1≠X.env.locals/\p.1∉X.fs/\∀v,p.2.data≠.cell v):Inv X pins' σ H s:=
 ⟨I.ok,I.os,I.bare,I.base,I.loc,I.cell,I.free,I.iI,fun p hp=>(dU.mp hp).elim (fun z=>I.pin p (jF _ z)) (h p),I.aP,I.len⟩
theorem xB{N:List Str}(hN:N.Nodup){i j:Nat}{x:Str}(a:N[i]?=some x)(b:N[j]?=some x):i=j:=by
 obtain⟨h1,e1⟩:=dW.mp a
 obtain⟨h2,e2⟩:=dW.mp b
 exact(List.getElem_inj hN).mp (e1.trans e2.symm)
theorem CY{M:Model}{A:Around}{E:Value->Shared->Prop}{i:Nat}{x:Str}{v:V}{u:Value}{Q:Unit->Shared->Prop}(I:Inv X pins σ H s)(hN:X.N.Nodup)(hi:X.N[i]?=some x)(hx:Loc X.env.scope x)(r:RelV v u)
  (h:∀s',Inv X pins (σ.set i (some v)) H s'->(∃a,Heap.SameBut a s.heap s'.heap/\(a=X.env.locals\/X.env.cells.lookup x=some a))->Q () s')(hf:X.fn x=true\/X.env.scope.names.lookup x=some .local:=by first|exact .inl rfl|exact .inr rfl|assumption):wpAny M A (storeName X.env x u) Q E s:=by
 obtain⟨m,hn,hl⟩:=id I.loc
 have hcls:(X.env.scope.kind == .class||(X.env.scope.kind == .module&&X.env.locals != X.env.globals))=false:=by rw[I.ok.kind];rfl
 have hiσ:i<σ.length:=by rw[I.len];exact(dW.mp hi).1
 have nt:=I.nt
 have tracked:∀{a:Addr}{h':Heap},(∃o,s.heap.get? a=some o/\H a=none)->Heap.SameBut a s.heap h'->cV X.prog X.w H h':=fun {a h'} ha hs b ob e=>by
  obtain⟨_,_,hfree⟩:=ha
  refine(I.aP b ob e).ki (fun c w' hc q=>(hs.2 c ?_).trans q) (fun _ q=>q) fun _ _ q=>q
  rintro rfl
  rcases hc with rfl|hc
  ·rw[hfree]at e;cases e
  ·rw[hfree]at hc;cases hc
 rcases hx with hk|hk
 ·refine wpAny_storeName_local hk hn (fun h' hn' hs=>?_) hcls
  obtain⟨oL,_,_,hoL,_⟩:=id hn
  refine h _ ⟨I.ok,I.os,I.bare,⟨fun b o e n hb hx=>?_,fun b o e n hb hx=>?_,I.base.free,fun b o e hx=>?_,I.base.lh,I.base.jJ,I.base.lp⟩,⟨_,hn',fun j y v' e1 e2 e3=>?_⟩,fun y c e=>?_,I.free,I.iI,fun p hp=>?_,tracked ⟨oL,hoL,I.free⟩ hs,by simpa using I.len⟩ ⟨_,hs,.inl rfl⟩
  ·exact(hs.2 b (gJ (gI (Heap.lt_size e) I.ok.above))).trans (I.base.keep b o e n hb hx)
  ·obtain⟨sl,e1⟩:=I.base.slot b o e n hb hx
   exact⟨sl,(hs.2 b (gJ (gI (Heap.lt_size e) I.ok.above))).trans e1⟩
  ·obtain⟨o',e1⟩:=I.base.there b o e hx
   exact⟨o',(hs.2 b (gJ (gI (Heap.lt_size e) I.ok.above))).trans e1⟩
  ·by_cases hj:j=i
   ·subst hj
    rw[hi]at e1;cases e1
    rw[List.getElem?_set_self hiσ]at e2
    cases e2
    exact⟨u,r,.inl ⟨hk,by simp⟩⟩
   ·rw[List.getElem?_set_ne (Ne.symm hj)]at e2
    obtain⟨u',r',q⟩:=hl j y v' e1 e2 e3
    refine⟨u',r',?_⟩
    rcases q with ⟨k,e⟩|⟨k,c,e,z⟩
    ·refine .inl ⟨k,?_⟩
     have:y≠x:=fun e=>hj (xB hN e1 (e ▸ hi))
     simp[this,e]
    ·exact .inr ⟨k,c,e,z.sameBut hs (nt y c e)⟩
  ·obtain⟨w',z⟩:=I.cell y c e
   exact⟨w',z.sameBut hs (nt y c e)⟩
  ·obtain⟨e,n,ne,nf,d⟩:=I.pin p hp
   exact⟨(hs.2 p.1 ne).trans e,n,ne,nf,d⟩
 ·have hfn:X.fn x=true:=by
   rcases hf with z|z
   ·exact z
   ·rw[z]at hk;cases hk
  obtain⟨c,hc⟩:=I.ok.has x (.inl hk)
  obtain⟨w',z⟩:=I.cell x c hc
  refine wpAny_storeName_cell I.ok.kind hk hc z (fun h' hc' hs=>?_)
  obtain⟨oc,hoc,hocd⟩:=id z
  refine h {s with heap:=h'} ⟨I.ok,I.os,I.bare,⟨fun b o e n hb hx=>?_,fun b o e n hb hx=>?_,I.base.free,fun b o e hx=>?_,I.base.lh,I.base.jJ,I.base.lp⟩,⟨m,hn.sameBut hs (Ne.symm (nt x c hc)),fun j y v' e1 e2 e3=>?_⟩,fun y c' e=>?_,I.free,I.iI,fun p hp=>?_,tracked ⟨oc,hoc,I.iI x c hc⟩ hs,by simpa using I.len⟩ ⟨c,hs,.inr hc⟩
  ·exact(hs.2 b (gJ (gI (Heap.lt_size e) (I.ok.rz x c hfn hc)))).trans (I.base.keep b o e n hb hx)
  ·obtain⟨sl,e1⟩:=I.base.slot b o e n hb hx
   exact⟨sl,(hs.2 b (gJ (gI (Heap.lt_size e) (I.ok.rz x c hfn hc)))).trans e1⟩
  ·obtain⟨o',e1⟩:=I.base.there b o e hx
   exact⟨o',(hs.2 b (gJ (gI (Heap.lt_size e) (I.ok.rz x c hfn hc)))).trans e1⟩
  ·by_cases hj:j=i
   ·subst hj
    rw[hi]at e1;cases e1
    rw[List.getElem?_set_self hiσ]at e2
    cases e2
    exact⟨u,r,.inr ⟨.inl hk,c,hc,hc'⟩⟩
   ·rw[List.getElem?_set_ne (Ne.symm hj)]at e2
    obtain⟨u',r',q⟩:=hl j y v' e1 e2 e3
    refine⟨u',r',?_⟩
    rcases q with q|⟨k,c',e,z'⟩
    ·exact .inl q
    ·refine .inr ⟨k,c',e,z'.sameBut hs ?_⟩
     rintro rfl
     exact hj (xB hN e1 (I.ok.inj _ _ _ e hc ▸ hi))
  ·by_cases hcc:c'=c
   ·subst hcc;exact⟨_,hc'⟩
   ·obtain⟨w2,z2⟩:=I.cell y c' e
    exact⟨w2,z2.sameBut hs hcc⟩
  ·obtain⟨e,n,ne,nf,d⟩:=I.pin p hp
   refine⟨(hs.2 p.1 ?_).trans e,n,ne,nf,d⟩
   intro q
   rw[q,hoc]at e
   have q':oc=p.2:=bo e
   exact d w' (by rw[<-q'];exact hocd)
theorem CZ{M:Model}{A:Around}{E:Value->Shared->Prop}{i:Nat}{x:Str}{v:V}{u:Value}{Q:Unit->Shared->Prop}(I:Inv X pins σ H s)(hN:X.N.Nodup)(hi:X.N[i]?=some x)(hx:Loc X.env.scope x)(r:RelV v u)
  (h:∀s',Inv X pins (σ.set i (some v)) H s'->Q () s')(hf:X.fn x=true\/X.env.scope.names.lookup x=some .local:=by first|exact .inl rfl|exact .inr rfl|assumption):wpAny M A (storeName X.env x u) Q E s:=
 CY I hN hi hx r (fun s' I' _=>h s' I') hf
theorem Inv.Kg{s':Shared}{ch:List Addr}(I:Inv X pins σ H s)(ho:s'.os=s.os)(u:Un (jK X.stack) ch H H' s.heap s'.heap)(aP:cV X.prog X.w H' s'.heap)(hg:AllBare s'.gens)
  (hch:∀b∈ch,(b∈X.ex\/X.eN.heap.objs.size<=b)/\b≠X.env.locals/\(∀x c,X.env.cells.lookup x=some c->c≠b)/\∀p∈X.pn++pins,p.1≠b):Inv X pins σ H' s':=by
 obtain⟨h',g',d',t',o'⟩:=s'
 have e:o'=s.os:=ho
 subst e
 exact I.call (g':=g') (t':=t') (d':=d') u aP hg hch
end
abbrev XK:=Value->Option Addr->Hp->Prop
abbrev St:=List (Option V)
abbrev VK:=V->Hp->Prop
abbrev TE:=St->Hp->VK->Prop
abbrev TT:=St->Hp->(Bool->Hp->Prop)->Prop
abbrev TA:=St->Hp->(List V->Hp->Prop)->Prop
structure Ends where
 nx:St->Hp->Prop
 rt:VK
 bk:St->Hp->Prop:=fun _ _=>False
 ct:St->Hp->Prop:=fun _ _=>False
abbrev TS:=Ends->St->Hp->Prop
noncomputable def EP(X:Cx)(pins:List (Addr×Obj))(σ:St)(Q:VK)(u:Value)(s':Shared):Prop:=∃v H',Inv X pins σ H' s'/\RelV v u/\Q v H'
noncomputable def TP(X:Cx)(pins:List (Addr×Obj))(σ:St)(Q:Bool->Hp->Prop)(b:Bool)(s':Shared):Prop:=∃H',Inv X pins σ H' s'/\Q b H'
noncomputable def AP(X:Cx)(pins:List (Addr×Obj))(σ:St)(Q:List V->Hp->Prop)(us:List Value)(s':Shared):Prop:=∃vs H',Inv X pins σ H' s'/\aK vs us/\Q vs H'
noncomputable def SP(X:Cx)(pins:List (Addr×Obj))(D:Ends)(f:Flow)(s':Shared):Prop:=
 match f with
 |.next=>∃σ' H',Inv X pins σ' H' s'/\D.nx σ' H'
 |.brk=>∃σ' H',Inv X pins σ' H' s'/\D.bk σ' H'
 |.cont=>∃σ' H',Inv X pins σ' H' s'/\D.ct σ' H'
 |.ret u=>∃v σ' H',Inv X pins σ' H' s'/\RelV v u/\D.rt v H'
noncomputable def PE(X:Cx)(e:Expr)(t:TE):Prop:=
 ∀(pins:List (Addr×Obj)) (s:Shared) (σ:St) (H:Hp) (Q:VK),Inv X pins σ H s->t σ H Q->wpAny (model X.prog X.w) X.A (eval e X.env) (EP X pins σ Q) X.xe s
noncomputable def PT(X:Cx)(e:Expr)(t:TT):Prop:=
 ∀(pins:List (Addr×Obj)) (s:Shared) (σ:St) (H:Hp) (Q:Bool->Hp->Prop),Inv X pins σ H s->t σ H Q->wpAny (model X.prog X.w) X.A (isTrue e X.env (eval e X.env)) (TP X pins σ Q) X.xe s
noncomputable def PW(X:Cx)(e:Expr)(t:TT):Prop:=
 ∀(whole:Sem Value) (pins:List (Addr×Obj)) (s:Shared) (σ:St) (H:Hp) (Q:Bool->Hp->Prop),Inv X pins σ H s->t σ H Q->wpAny (model X.prog X.w) X.A (isTrue e X.env whole) (TP X pins σ Q) X.xe s
theorem PW.pt{X:Cx}{e:Expr}{t:TT}(h:PW X e t):PT X e t:=h _
noncomputable def PA(X:Cx)(es:List Expr)(t:TA):Prop:=
 ∀(pos:Pos) (pins:List (Addr×Obj)) (s:Shared) (σ:St) (H:Hp) (Q:List V->Hp->Prop),Inv X pins σ H s->t σ H Q->wpAny (model X.prog X.w) X.A (spliced (backTo pos (starEach es X.env))) (AP X pins σ Q) X.xe s
noncomputable def PS(X:Cx)(st:Stmt)(t:TS):Prop:=
 ∀(pins:List (Addr×Obj)) (s:Shared) (σ:St) (H:Hp) (D:Ends),Inv X pins σ H s->t D σ H->wpAny (model X.prog X.w) X.A (exec st X.env) (SP X pins D) X.xe s
noncomputable def iJ(X:Cx)(st:List Stmt)(t:TS):Prop:=
 ∀(pins:List (Addr×Obj)) (s:Shared) (σ:St) (H:Hp) (D:Ends),Inv X pins σ H s->t D σ H->wpAny (model X.prog X.w) X.A (execs st X.env) (SP X pins D) X.xe s
theorem aU{α:Type}{t:Sem α}{Q Q':α->Shared->Prop}{M:Model}{A:Around}{E:Value->Shared->Prop}{s:Shared}(h:wpAny M A t Q E s)(hQ:∀a s,Q a s->Q' a s):wpAny M A t Q' E s:=wpAny_mono h hQ fun _ _ x=>x
end L2
namespace L2
open PySem PySem.Spec PyProof.Rows
section
variable{X:Cx}
noncomputable def cO(i:Nat):TE:=fun σ H Q=>∃v,σ[i]?=some (some v)/\Q v H
noncomputable def tC(v:V):TE:=fun _ H Q=>Q v H
theorem C5{i:Nat}{x:Str}{pos:Pos}(hN:X.N[i]?=some x)(hv:pF X.env.scope x)(hd:(x == ("__debug__":Str))=false:=by decide)(hcd:(x == ("__classdict__":Str))=false:=by decide):PE X (.Name x pos) (cO i):=by
 intro pins s σ H Q I h
 obtain⟨v,e,h⟩:=h
 obtain⟨m,hn,hl⟩:=I.loc
 obtain⟨u,r,l⟩:=hl i x v hN e hv
 have fin:EP X pins σ Q u s:=⟨v,H,I,r,h⟩
 rcases l with ⟨hk,hm⟩|⟨hk,c,hc,hcell⟩
 ·exact wpAny_Name (wpAny_loadName_local I.ok.kind hk hn hm fin) hd
 ·rcases hk with hk|hk
  ·exact wpAny_Name (wpAny_loadName_cell I.ok.kind hk hc hcell fin) hd
  ·exact wpAny_Name (wpAny_loadName_free I.ok.kind hk hc hcell fin hcd) hd
theorem aq{i j pos}:PE X (.Constant (.int i) j pos) (tC (.int i)):=fun _ _ _ H _ I h=>wpAny_Constant_int ⟨.int i,H,I.tok _,⟨_,rfl⟩,h⟩
theorem kj{b j pos}:PE X (.Constant (.bool b) j pos) (tC (.bl b)):=fun _ _ _ H _ I h=>Constant_bool ⟨.bl b,H,I,rfl,h⟩
theorem jc{j pos}:PE X (.Constant .none j pos) (tC .aW):=fun _ _ _ H _ I h=>Constant_none ⟨.aW,H,I,rfl,h⟩
noncomputable def Gl(X:Cx)(x:Str):Prop:=X.env.kindOf x=some .globalImplicit
theorem rE{E:Value->Shared->Prop}{pins:List (Addr×Obj)}{s:Shared}{σ:St}{H:Hp}{x:Str}{u:Value}{pos:Pos}{Q:Value->Shared->Prop}(I:Inv X pins σ H s)(hg:Gl X x)(hm:X.mg x=some u)(h:Q u s)
  (hd:(x == ("__debug__":Str))=false:=by decide):wpAny (model X.prog X.w) X.A (eval (.Name x pos) X.env) Q E s:=
 Calls.Name_function_global I.ok.kind hg (Calls.loadGlobal_global (by rw[I.ok.glob];exact I.mod.glob.keeps I.bk) hm h) hd
theorem km{E:Value->Shared->Prop}{pins:List (Addr×Obj)}{s:Shared}{σ:St}{H:Hp}{x:Str}{u:Value}{pos:Pos}{Q:Value->Shared->Prop}(I:Inv X pins σ H s)(hg:Gl X x)(hm:X.mg x=none)(hv:bootBuiltins x=some u)(h:Q u s)
  (hn:x≠"__name__":=by decide)(hd:(x == ("__debug__":Str))=false:=by decide):wpAny (model X.prog X.w) X.A (eval (.Name x pos) X.env) Q E s:=by
 obtain⟨mb,h1,h2⟩:=I.mod.blt
 exact Calls.Name_function_global I.ok.kind hg (Calls.loadGlobal_builtin (by rw[I.ok.glob];exact I.mod.glob.keeps I.bk) hm (by rw[I.ok.blt];exact h1.keeps I.bk) ((h2 x hn).trans hv) h) hd
theorem Kh{x:Str}{v:V}{u:Value}{pos:Pos}(hg:Gl X x)(hm:X.mg x=some u)(r:RelV v u)(hd:(x == ("__debug__":Str))=false:=by decide):PE X (.Name x pos) (tC v):=
 fun _ _ _ H _ I h=>rE I hg hm ⟨v,H,I,r,h⟩ hd
variable{a b:Expr}{ta tb:TE}{pos:Pos}
noncomputable def tB(t:TE):TT:=fun σ H Q=>t σ H fun x H1=>∃c,x=.bl c/\Q c H1
theorem cw{e:Expr}{t:TE}(h:PE X e t)(he:∀whole,isTrue e X.env whole=(do let v <-whole;standAt e.pos;holding [v] (truthy v)):=by intro _;rfl):PT X e (tB t):=by
 intro pins s σ H Q I hw
 refine isTrue_plain (aU (h pins s σ H _ I hw) fun v s1 ⟨x,H1,I1,r1,q1⟩=>?_) (he _)
 obtain⟨d,rfl,q⟩:=q1
 cases r1
 exact wpAny_truthy_bool ⟨H1,I1,q⟩
variable{tA tB':TT}{rest:List Expr}
noncomputable def C6(t u:TT):TT:=fun σ H Q=>t σ H fun c H1=>if c=true then u σ H1 Q else Q false H1
noncomputable def C8(t u:TT):TT:=fun σ H Q=>t σ H fun c H1=>if c=true then Q true H1 else u σ H1 Q
noncomputable def uF(t:TT):TT:=fun σ H Q=>t σ H fun c H1=>Q (!c) H1
theorem pG(ha:PT X a tA):PW X (.BoolOp .And [a] pos) tA:=by
 intro wh pins s σ H Q I h
 refine isTrue_and (aU (ha pins s σ H Q I h) fun c s1 e=>?_)
 cases c with
 |true=>exact isTrue_and_nil e
 |false=>exact e
theorem xC(ha:PT X a tA):PW X (.BoolOp .Or [a] pos) tA:=by
 intro wh pins s σ H Q I h
 refine isTrue_or (aU (ha pins s σ H Q I h) fun c s1 e=>?_)
 cases c with
 |false=>exact isTrue_or_nil e
 |true=>exact e
theorem lC(ha:PT X a tA)(hb:PW X (.BoolOp .And (b::rest) pos) tB'):PW X (.BoolOp .And (a::b::rest) pos) (C6 tA tB'):=by
 intro wh pins s σ H Q I h
 refine isTrue_and (aU (ha pins s σ H _ I h) fun c s1 ⟨H1,I1,q1⟩=>?_)
 cases c with
 |true=>exact hb wh pins s1 σ H1 Q I1 q1
 |false=>exact⟨H1,I1,q1⟩
theorem xD(ha:PT X a tA)(hb:PW X (.BoolOp .Or (b::rest) pos) tB'):PW X (.BoolOp .Or (a::b::rest) pos) (C8 tA tB'):=by
 intro wh pins s σ H Q I h
 refine isTrue_or (aU (ha pins s σ H _ I h) fun c s1 ⟨H1,I1,q1⟩=>?_)
 cases c with
 |true=>exact⟨H1,I1,q1⟩
 |false=>exact hb wh pins s1 σ H1 Q I1 q1
theorem d5(ha:PT X a tA):PT X (.UnaryOp .Not a pos) (uF tA):=by
 intro pins s σ H Q I h
 exact isTrue_not (ha pins s σ H (fun c H1=>Q (!c) H1) I h)
noncomputable def Ki(ta tb:TE):TE:=fun σ H Q=>ta σ H fun x H1=>∃c,x=.bl c/\if c=true then tb σ H1 Q else Q (.bl false) H1
noncomputable def Kj(ta tb:TE):TE:=fun σ H Q=>ta σ H fun x H1=>∃c,x=.bl c/\if c=true then Q (.bl true) H1 else tb σ H1 Q
theorem uG{op}{t:TE}(h:PE X a t):PE X (.BoolOp op [a] pos) t:=fun pins s σ H Q I hw=>BoolOp_one (h pins s σ H Q I hw)
theorem C9(ha:PE X a ta)(hb:PE X (.BoolOp .And (b::rest) pos) tb):PE X (.BoolOp .And (a::b::rest) pos) (Ki ta tb):=by
 intro pins s σ H Q I h
 refine BoolOp_and (aU (ha pins s σ H _ I h) fun v s1 ⟨x,H1,I1,r1,q1⟩=>?_)
 obtain⟨c,rfl,q1⟩:=q1
 cases r1
 refine wpAny_truthy_bool ?_
 cases c with
 |true=>exact hb pins s1 σ H1 Q I1 q1
 |false=>exact⟨.bl false,H1,I1,rfl,q1⟩
theorem C_(ha:PE X a ta)(hb:PE X (.BoolOp .Or (b::rest) pos) tb):PE X (.BoolOp .Or (a::b::rest) pos) (Kj ta tb):=by
 intro pins s σ H Q I h
 refine BoolOp_or (aU (ha pins s σ H _ I h) fun v s1 ⟨x,H1,I1,r1,q1⟩=>?_)
 obtain⟨c,rfl,q1⟩:=q1
 cases r1
 refine wpAny_truthy_bool ?_
 cases c with
 |false=>exact hb pins s1 σ H1 Q I1 q1
 |true=>exact⟨.bl true,H1,I1,rfl,q1⟩
noncomputable def Dc(t:TT)(ta tb:TE):TE:=fun σ H Q=>t σ H fun c H1=>if c=true then ta σ H1 Q else tb σ H1 Q
theorem gM{c:Expr}(hc:PT X c tA)(ha:PE X a ta)(hb:PE X b tb):PE X (.IfExp c a b pos) (Dc tA ta tb):=by
 intro pins s σ H Q I h
 refine wpAny_IfExp (aU (hc pins s σ H _ I h) fun d s1 ⟨H1,I1,q1⟩=>?_)
 cases d with
 |true=>exact ha pins s1 σ H1 Q I1 q1
 |false=>exact hb pins s1 σ H1 Q I1 q1
end
end L2
namespace L2
open PySem PySem.Spec PyProof.Rows
noncomputable def ai(K:PySem.W.Frag)(H:Hp)(a:Addr)(xs:List V):Prop:=
 Rd H a (.lst xs)\/
  ∃(o:Obj) (its:Array Value) (n:Nat),K.lookup a=some o/\o.cls=.type "list"/\o.dict=none/\o.data=.seq its n/\its.size<=sizeLine/\aK xs its.toList
noncomputable def fF(K:PySem.W.Frag)(H:Hp)(a:Addr)(xs:List V):Prop:=
 Rd H a (.tup xs)\/
  ∃(o:Obj) (its:Array Value) (n:Nat),K.lookup a=some o/\o.cls=.type "tuple"/\o.data=.seq its n/\its.size<=sizeLine/\aK xs its.toList
noncomputable def Kk:Value->Option V
 |.none=>some .aW
 |.bool b=>some (.bl b)
 |.int i _=>some (.int i)
 |.str x _=>some (.str x)
 |.bytes b _=>some (.gB b)
 |.float b _=>some (.uB b)
 |.ref a=>some (.ref a)
 |.type n=>some (.ty n)
 |_=>none
theorem RelV.abs{x:V}{u:Value}(r:RelV x u):Kk u=some x:=by
 cases x with
 |aW=>cases r;rfl
 |bl _=>cases r;rfl
 |int _=>obtain⟨t,rfl⟩:=r;rfl
 |str _=>obtain⟨t,rfl⟩:=r;rfl
 |gB _=>obtain⟨t,rfl⟩:=r;rfl
 |uB _=>obtain⟨t,rfl⟩:=r;rfl
 |ref _=>cases r;rfl
 |ty _=>cases r;rfl
theorem RelV.inj{x y:V}{u:Value}(r:RelV x u)(q:RelV y u):x=y:=bo (r.abs.symm.trans q.abs)
theorem aK.inj:∀{xs ys:List V}{us:List Value},aK xs us->aK ys us->xs=ys
 |_,_,_,.nil,.nil=>rfl
 |_,_,_,.cons r t,.cons r' t'=>by rw[r.inj r',aK.inj t t']
section
variable{X:Cx}{pins:List (Addr×Obj)}{σ:St}{H:Hp}{s:Shared}{a:Addr}{xs ys:List V}
theorem ai.of{K:PySem.W.Frag}(h:H a=some (.lst xs)):ai K H a xs:=.inl (.inl h)
theorem fF.of{K:PySem.W.Frag}(h:H a=some (.tup xs)):fF K H a xs:=.inl (.inl h)
theorem Inv.list(I:Inv X pins σ H s)(h:ai X.K H a xs):∃its:List Value,aK xs its/\PlainL s.heap a its.toArray/\xs.length<=sizeLine:=by
 rcases h with h|⟨o,its,n,hk,hc,hd,hs,hz,r⟩
 ·obtain⟨z,its,n,r,e⟩:=h.ok I.aP
  exact⟨its,r,⟨_,n,e,rfl,rfl,rfl⟩,z⟩
 ·refine⟨its.toList,r,⟨o,n,I.fZ a o hk,hc,hd,by simpa using hs⟩,?_⟩
  have e:=r.length
  simp only [ur]at e
  lia
theorem Inv.tuple(I:Inv X pins σ H s)(h:fF X.K H a xs):∃its:List Value,aK xs its/\IsTup s.heap a its.toArray/\xs.length<=sizeLine:=by
 rcases h with h|⟨o,its,n,hk,hc,hs,hz,r⟩
 ·obtain⟨z,its,r,p⟩:=h.ok I.aP
  exact⟨its,r,p,z⟩
 ·refine⟨its.toList,r,⟨o,I.fZ a o hk,hc,n,by simpa using hs⟩,?_⟩
  have e:=r.length
  simp only [ur]at e
  lia
theorem Inv.rF(I:Inv X pins σ H s)(h:ai X.K H a xs)(h':ai X.K H a ys):xs=ys:=by
 obtain⟨its,r,⟨o,n,e,_,_,d⟩,_⟩:=I.list h
 obtain⟨its',r',⟨o',n',e',_,_,d'⟩,_⟩:=I.list h'
 rw[e]at e';cases e'
 rw[d]at d'
 injection d' with d1 _
 have:its=its':=by simpa using bQ Array.toList d1
 subst this
 exact r.inj r'
end
abbrev Cx.kn(X:Cx)(E:Value->Shared->Prop):Cx:={X with xe:=E}
abbrev Cx.uH(X:Cx):Cx:=X.kn fun _ _=>False
theorem Cx.Ok.kn{X:Cx}(ok:X.Ok)(E:Value->Shared->Prop):(X.kn E).Ok:=
 ⟨ok.mod,ok.kind,ok.glob,ok.blt,ok.above,ok.inj,ok.has,ok.rz,ok.hd,ok.frames,ok.uD,ok.uE,ok.bs,ok.lu,ok.rC,ok.rD,ok.i_,ok.nq⟩
theorem Cx.Ok.mD{X:Cx}{E:Value->Shared->Prop}(ok:(X.kn E).Ok):X.Ok:=
 ⟨ok.mod,ok.kind,ok.glob,ok.blt,ok.above,ok.inj,ok.has,ok.rz,ok.hd,ok.frames,ok.uD,ok.uE,ok.bs,ok.lu,ok.rC,ok.rD,ok.i_,ok.nq⟩
section
variable{X:Cx}{pins:List (Addr×Obj)}{σ:St}{H:Hp}{s:Shared}{E:Value->Shared->Prop}
theorem Inv.kn(I:Inv X pins σ H s)(E:Value->Shared->Prop):Inv (X.kn E) pins σ H s:=⟨I.ok.kn E,I.os,I.bare,I.base,I.loc,I.cell,I.free,I.iI,I.pin,I.aP,I.len⟩
theorem Inv.mD(I:Inv (X.kn E) pins σ H s):Inv X pins σ H s:=⟨I.ok.mD,I.os,I.bare,I.base,I.loc,I.cell,I.free,I.iI,I.pin,I.aP,I.len⟩
theorem SP.mD{D:Ends}{f:Flow}{s':Shared}(h:SP (X.kn E) pins D f s'):SP X pins D f s':=by
 cases f with
 |next=>obtain⟨σ',H',I,q⟩:=h;exact⟨σ',H',I.mD,q⟩
 |brk=>obtain⟨σ',H',I,q⟩:=h;exact⟨σ',H',I.mD,q⟩
 |cont=>obtain⟨σ',H',I,q⟩:=h;exact⟨σ',H',I.mD,q⟩
 |ret u=>obtain⟨v,σ',H',I,r,q⟩:=h;exact⟨v,σ',H',I.mD,r,q⟩
theorem iJ.uH{st:List Stmt}{t:TS}(h:iJ X.uH st t):iJ X st t:=fun pins s σ H D I hw=>
 wpAny_mono (h pins s σ H D (I.kn _) hw) (fun _ _ q=>q.mD) fun _ _ z=>False.elim z
end
section
variable{X:Cx}{st:Stmt}{rest:List Stmt}{t u:TS}{e:Expr}{te:TE}{pos:Pos}
noncomputable def fG:TS:=fun D σ H=>D.nx σ H
noncomputable def ko(t u:TS):TS:=fun D σ H=>t {D with nx:=u D} σ H
theorem bx:iJ X [] fG:=fun _ _ σ H _ I h=>wpAny_execs_nil ⟨σ,H,I,h⟩
theorem aj(h1:PS X st t)(h2:iJ X rest u):iJ X (st::rest) (ko t u):=by
 intro pins s σ H D I h
 refine wpAny_execs_cons (aU (h1 pins s σ H {D with nx:=u D} I h) fun f s1 q=>?_)
 cases f with
 |next=>
  obtain⟨σ',H',I',q⟩:=q
  exact h2 pins s1 σ' H' D I' q
 |ret v=>exact q
 |brk=>exact q
 |cont=>exact q
theorem ao(h1:PS X st t):iJ X [st] t:=by
 intro pins s σ H D I h
 refine wpAny_execs_cons (aU (h1 pins s σ H D I h) fun f s1 q=>?_)
 cases f with
 |next=>exact wpAny_execs_nil q
 |ret v=>exact q
 |brk=>exact q
 |cont=>exact q
noncomputable def Kl:TS:=fun D σ H=>D.bk σ H
theorem Km:PS X (.Break pos) Kl:=fun _ _ σ H _ I h=>wpAny_Break ⟨σ,H,I,h⟩
theorem Inv.quiet{pins:List (Addr×Obj)}{σ:St}{H:Hp}{s:Shared}(I:Inv X pins σ H s):interactive X.env=false:=by simp[interactive,I.ok.kind]
noncomputable def Kn(te:TE):TS:=fun D σ H=>te σ H fun _ H1=>D.nx σ H1
theorem dX(he:PE X e te)(hs:swapsWith e none pos.line X.env=pure false:=by rfl):PS X (.Expr e pos) (Kn te):=by
 intro pins s σ H D I h
 exact wpAny_Expr_any (aU (he pins s σ H _ I h) fun v s1 ⟨x,H1,I1,r1,q1⟩=>⟨σ,H1,I1,q1⟩) I.quiet hs
noncomputable def jL(te:TE):TS:=fun D σ H=>te σ H D.rt
theorem az(he:PE X e te):PS X (.Return (some e) pos) (jL te):=by
 intro pins s σ H D I h
 exact wpAny_Return_some (aU (he pins s σ H _ I h) fun v s1 ⟨x,H1,I1,r1,q1⟩=>⟨x,σ,H1,I1,r1,q1⟩)
noncomputable def pH(c:TT)(t u:TS):TS:=fun D σ H=>c σ H fun b H1=>if b=true then t D σ H1 else u D σ H1
theorem bt{c:Expr}{a b:List Stmt}{tc:TT}(hc:PT X c tc)(ha:iJ X a t)(hb:iJ X b u):PS X (.If c a b pos) (pH tc t u):=by
 intro pins s σ H D I h
 refine wpAny_If (aU (hc pins s σ H _ I h) fun d s1 ⟨H1,I1,q1⟩=>?_)
 cases d with
 |true=>exact ha pins s1 σ H1 D I1 q1
 |false=>exact hb pins s1 σ H1 D I1 q1
end
abbrev TG:=V->St->Hp->(St->Hp->Prop)->Prop
abbrev mE:=List V->St->Hp->(St->Hp->Prop)->Prop
noncomputable def PG(X:Cx)(target:Expr)(t:TG):Prop:=
 ∀(pins:List (Addr×Obj)) (s:Shared) (σ:St) (H:Hp) (v:V) (u:Value) (Q:St->Hp->Prop),Inv X pins σ H s->RelV v u->t v σ H Q->
  wpAny (model X.prog X.w) X.A (assign target X.env u) (fun _ s'=>∃σ' H',Inv X pins σ' H' s'/\Q σ' H') X.xe s
noncomputable def rG(X:Cx)(ts:List Expr)(t:mE):Prop:=
 ∀(pins:List (Addr×Obj)) (s:Shared) (σ:St) (H:Hp) (vs:List V) (us:List Value) (Q:St->Hp->Prop),Inv X pins σ H s->aK vs us->t vs σ H Q->
  wpAny (model X.prog X.w) X.A (assignInOrder ((assignEach ts X.env).map (·.2)) us) (fun _ s'=>∃σ' H',Inv X pins σ' H' s'/\Q σ' H') X.xe s
abbrev xE:=V->V->V->Hp->(Hp->Prop)->Prop
noncomputable def Dd(X:Cx)(t:xE):Prop:=
 ∀(pins:List (Addr×Obj)) (s:Shared) (σ:St) (H:Hp) (o i v:V) (ov iv u:Value) (Q:Hp->Prop),Inv X pins σ H s->RelV o ov->RelV i iv->RelV v u->t o i v H Q->
  wpAny (model X.prog X.w) X.A (setItem ov iv u) (fun _ s'=>∃H',Inv X pins σ H' s'/\Q H') X.xe s
section
variable{X:Cx}{pos:Pos}
noncomputable def dy(i:Nat):TG:=fun v σ H Q=>Q (σ.set i (some v)) H
theorem eO{i:Nat}{x:Str}(hN:X.N.Nodup)(hi:X.N[i]?=some x)(hx:Loc X.env.scope x)(hf:X.fn x=true\/X.env.scope.names.lookup x=some .local:=by first|exact .inl rfl|exact .inr rfl|assumption):PG X (.Name x pos) (dy i):=by
 intro pins s σ H v u Q I r h
 exact wpAny_assign_Name (CZ I hN hi hx r (fun s' I'=>⟨_,H,I',h⟩) hf)
noncomputable def Ko:mE:=fun vs σ H Q=>vs=[]/\Q σ H
noncomputable def Kp(t:TG)(u:mE):mE:=fun vs σ H Q=>∃v r,vs=v::r/\t v σ H fun σ' H'=>u r σ' H' Q
theorem uI:rG X [] Ko:=by
 intro pins s σ H vs us Q I r h
 obtain⟨e,h⟩:=h
 subst e
 cases r
 exact assignInOrder_nil ⟨σ,H,I,h⟩
theorem mF{e:Expr}{es:List Expr}{t:TG}{u:mE}(h1:PG X e t)(h2:rG X es u)
  (hs:(assignEach (e::es) X.env).map (·.2)=assign e X.env::(assignEach es X.env).map (·.2):=by rfl):rG X (e::es) (Kp t u):=by
 intro pins s σ H vs us Q I r h
 obtain⟨v,vr,e1,h⟩:=h
 subst e1
 cases r with
 |cons r rr=>
  rw[hs]
  refine assignInOrder_cons (aU (h1 pins s σ H _ _ _ I r h) fun _ s1 ⟨σ1,H1,I1,q1⟩=>?_)
  exact h2 pins s1 σ1 H1 _ _ Q I1 rr q1
noncomputable def De(K:PySem.W.Frag)(n:Nat)(t:mE):TG:=fun v σ H Q=>∃a xs,v=.ref a/\fF K H a xs/\xs.length=n/\t xs σ H Q
theorem uJ{es:List Expr}{k:Nat}{t:mE}{n:Nat}(hc:X.calm=true)(h:rG X es t)
  (hn:(assignEach es X.env).length=n:=by rfl)(hst:(assignEach es X.env).findIdx? (·.1)=none:=by rfl):PG X (.Tuple es k pos) (De X.K n t):=by
 intro pins s σ H v u Q I r hw
 obtain⟨a,xs,e1,hq,hl,hw⟩:=hw
 subst e1
 cases r
 obtain⟨its,rv,ht,hz⟩:=I.tuple hq
 refine assign_Tuple_tuple (I.ok.hd hc) ht (by simp[hn,<-hl,rv.length]) hst fun h' hx=>?_
 have I1:Inv X pins σ H {s with heap:=h'}:=I.kept (t':=s.toks) fun b o e=>hx b o (gJ (Heap.lt_size e)) e
 exact h pins _ σ H xs _ Q I1 (by simpa using rv) hw
noncomputable def Kq(to ti:TE)(t:xE):TG:=fun v σ H Q=>to σ H fun o H1=>ti σ H1 fun i H2=>t o i v H2 fun H3=>Q σ H3
theorem fH{o i:Expr}{to ti:TE}{t:xE}(ho:PE X o to)(hi:PE X i ti)(hs:Dd X t)
  (ha:∀v,assign (.Subscript o i pos) X.env v=(do
   let ov <-holding [v] (eval o X.env)
   let iv <-holding [v,ov] (eval i X.env)
   standAt pos
   holding [v,ov,iv] (setItem ov iv v)
   release [v,ov,iv] []):=by intro _;rfl):PG X (.Subscript o i pos) (Kq to ti t):=by
 intro pins s σ H v u Q I r h
 rw[ha]
 refine wpAny_bind (wpAny_holding (aU (ho pins s σ H _ I h) fun ov s1 ⟨x,H1,I1,r1,q1⟩=>?_))
 refine wpAny_bind (wpAny_holding (aU (hi pins s1 σ H1 _ I1 q1) fun iv s2 ⟨y,H2,I2,r2,q2⟩=>?_))
 refine wpAny_bind (wpAny_standAt (wpAny_bind (wpAny_holding (aU (hs pins s2 σ H2 x y v ov iv u _ I2 r1 r2 r q2) fun _ s3 ⟨H3,I3,q3⟩=>?_))))
 exact wpAny_release ⟨σ,H3,I3,q3⟩
noncomputable def lD(te:TE)(g:TG):TS:=fun D σ H=>te σ H fun x H1=>g x σ H1 D.nx
theorem fI{tg e:Expr}{te:TE}{g:TG}(he:PE X e te)(hg:PG X tg g)(hs:swapsWithSole [tg] e pos.line X.env=pure false:=by rfl)(hw:swappedStores [tg] e X.env=pure none:=by rfl)
  (h1:(assignEach [tg] X.env).map (·.2)=[assign tg X.env]:=by rfl):PS X (.Assign [tg] e pos) (lD te g):=by
 intro pins s σ H D I h
 refine wpAny_Assign_stores (aU (he pins s σ H _ I h) fun v s1 ⟨x,H1,I1,r1,q1⟩=>?_) hs hw
 rw[h1]
 exact aU (hg pins s1 σ H1 x v _ I1 r1 q1) fun _ s2 q=>q
theorem Kr{i:Nat}{x:Str}{e:Expr}{te:TE}{pos':Pos}(hN:X.N.Nodup)(hi:X.N[i]?=some x)(hx:Loc X.env.scope x)(he:PE X e te)(hs:swapsWith e (some (.Name x pos')) pos.line X.env=pure false:=by rfl)(hf:X.fn x=true\/X.env.scope.names.lookup x=some .local:=by first|exact .inl rfl|exact .inr rfl|assumption):
  PS X (.Assign [.Name x pos'] e pos) (lD te (dy i)):=by
 intro pins s σ H D I h
 refine wpAny_Assign_Name (aU (he pins s σ H _ I h) fun v s1 ⟨y,H1,I1,r1,q1⟩=>?_) hs
 exact CZ I1 hN hi hx r1 (fun s2 I2=>⟨_,H1,I2,q1⟩) hf
end
section
variable{X:Cx}{pos:Pos}
noncomputable def Ks(c:TT)(tb:TS):TS:=fun D σ H=>∃W:Nat->St->Hp->Prop,(∃m,W m σ H)/\∀m σ H,W m σ H->
 c σ H fun b H1=>if b=true then ∃N:St->Hp->Prop,(∀σ' H',N σ' H'->∃m',m'<m/\W m' σ' H')/\tb {D with nx:=N,ct:=N,bk:=D.nx} σ H1 else D.nx σ H1
theorem jM{c:Expr}{body:List Stmt}{tc:TT}{tb:TS}(hp:PassesOwn (model X.prog X.w) X.A X.env X.xe)(hc:PT X c tc)(hb:iJ X body tb):PS X (.While c body [] pos) (Ks tc tb):=by
 intro pins s σ H D I h
 obtain⟨W,⟨m0,w0⟩,turn⟩:=h
 refine wpAny_While (codeAny_whileLoop (fun n s'=>∃σ' H',Inv X pins σ' H' s'/\W n σ' H') ?_ m0 ⟨σ,H,I,w0⟩)
 rintro n s1 ⟨σ1,H1,I1,w1⟩
 refine wpAny_passesOwn hp (aU (hc pins s1 σ1 H1 _ I1 (turn n σ1 H1 w1)) fun b s2 ⟨H2,I2,q2⟩=>?_)
 cases b with
 |true=>
  obtain⟨N,hN,q2⟩:=q2
  rw[af rfl]
  refine wpAny_passesOwn hp (aU (hb pins s2 σ1 H2 _ I2 q2) fun f s3 q3=>?_)
  cases f with
  |next=>
   obtain⟨σ3,H3,I3,n3⟩:=q3
   obtain⟨m',hm,w3⟩:=hN σ3 H3 n3
   exact⟨m',hm,σ3,H3,I3,w3⟩
  |cont=>
   obtain⟨σ3,H3,I3,n3⟩:=q3
   obtain⟨m',hm,w3⟩:=hN σ3 H3 n3
   exact⟨m',hm,σ3,H3,I3,w3⟩
  |brk=>exact q3
  |ret v=>exact q3
 |false=>
  rw[ae fz]
  exact wpAny_execs_nil ⟨σ1,H2,I2,q2⟩
end
structure It where
 go:Nat->Hp->Prop
 iK:Nat->Hp->V->Hp->Prop
 stop:Nat->Hp->Prop
noncomputable def jd(X:Cx)(pins:List (Addr×Obj))(H:Hp)(b:Addr):Prop:=
 H b=none/\b≠X.env.locals/\b∉X.fs/\(b∈X.ex\/X.eN.heap.objs.size<=b)/\(∀x c,X.env.cells.lookup x=some c->c≠b)/\∀p∈X.pn++pins,p.1≠b
theorem Inv.pI{X:Cx}{pins:List (Addr×Obj)}{σ:St}{H H':Hp}{s:Shared}{b:Addr}(I:Inv X pins σ H s)(hb:s.heap.objs.size<=b)(hn:H' b=none):jd X pins H' b:=by
 refine⟨hn,Nat.ne_of_gt (gI I.lt hb),I.Kf hb,.inr (cC I.sz hb),fun x c e z=>?_,fun p hp z=>?_⟩
 ·obtain⟨v,q⟩:=I.cell x c e
  exact absurd (gI q.lt (by rw[z];exact hb)) (i0 _)
 ·exact absurd (gI (Heap.lt_size (I.pin p hp).1) (by rw[z];exact hb)) (i0 _)
structure Turn(P:Program)(w:World)(K:PySem.W.Frag)(tg:Expr)(J:It)(fp:List Addr)(it:Addr)(tn:Nat->Heap->Prop):Prop where
 mem:it∈fp
 obj:∀i h,tn i h->∀b∈fp,∃o,h.get? b=some o/\∀v,o.data≠.cell v
 keep:∀i h h',tn i h->(∀b∈fp,∀o,h.get? b=some o->h'.get? b=some o)->tn i h'
 item:∀(X:Cx),X.prog=P->X.w=w->X.K=K->X.calm=true->∀(i:Nat) (pins:List (Addr×Obj)) (s:Shared) (σ:St) (H:Hp) (E:Value->Shared->Prop),Inv X pins σ H s->(∀b∈fp,jd X pins H b)->tn i s.heap->J.go i H->
  wpAny (model P w) X.A (pyNext (.ref it)) (fun r s1=>∃u,r=some u/\
   wpAny (model P w) X.A (letOwnedTupleGo tg (.ref it) u) (fun _ s2=>∃x H',Inv X pins σ H' s2/\RelV x u/\J.iK i H x H'/\tn (i+1) s2.heap/\∀b∈fp,H' b=none) E s1) E s
 done:∀(X:Cx),X.prog=P->X.w=w->X.K=K->X.calm=true->∀(i:Nat) (pins:List (Addr×Obj)) (s:Shared) (σ:St) (H:Hp) (E:Value->Shared->Prop),Inv X pins σ H s->(∀b∈fp,jd X pins H b)->tn i s.heap->J.stop i H->
  wpAny (model P w) X.A (pyNext (.ref it)) (fun r s1=>r=none/\Inv X pins σ H s1) E s
 self:∀(A:Around) (i:Nat) (s:Shared) (Q:Value->Shared->Prop) (E:Value->Shared->Prop),tn i s.heap->Q (.ref it) s->wpAny (model P w) A (pyIter (.ref it)) Q E s
abbrev TI:=St->Hp->(It->Hp->Prop)->Prop
noncomputable def xF(X:Cx)(pins:List (Addr×Obj))(σ:St)(tg:Expr)(R:It->Hp->Prop)(itv:Value)(s2:Shared):Prop:=
 ∃(it:Addr) (fp:List Addr) (tn:Nat->Heap->Prop) (J:It) (H':Hp),itv=.ref it/\Inv X pins σ H' s2/\Turn X.prog X.w X.K tg J fp it tn/\tn 0 s2.heap/\(∀b∈fp,jd X pins H' b)/\R J H'
noncomputable def PI(X:Cx)(tg iter:Expr)(wi:TI):Prop:=
 ∀(pins:List (Addr×Obj)) (s:Shared) (σ:St) (H:Hp) (R:It->Hp->Prop),Inv X pins σ H s->wi σ H R->
  wpAny (model X.prog X.w) X.A (eval iter X.env) (fun v s1=>wpAny (model X.prog X.w) X.A (pyIter v) (xF X pins σ tg R) X.xe s1) X.xe s
theorem uK{M:Model}{A:Around}{E:Value->Shared->Prop}{s:Shared}{tg:Expr}{it:Addr}{u:Value}{o:Obj}{n:String}{vs:Array Value}{Q:Unit->Shared->Prop}(ho:s.heap.get? it=some o)(hc:o.cls=.type n)(hd:o.data=.fields vs)
  (hn:["enumerate","zip","dict_itemiterator","dict_reverseitemiterator","odict_iterator","itertools.zip_longest","itertools.pairwise"].contains n=false)(hQ:Q () s):wpAny M A (letOwnedTupleGo tg (.ref it) u) Q E s:=by
 unfold letOwnedTupleGo
 cases tg<;>first
  |exact wpAny_pure hQ
  |(cases u<;>first
    |exact wpAny_pure hQ
    |(refine wpAny_bind (wpAny_load ho ?_)
      rw[hc,hd]
      show wpAny M A (if (["enumerate","zip","dict_itemiterator","dict_reverseitemiterator","odict_iterator","itertools.zip_longest","itertools.pairwise"].contains n&&vs[0]? == some (rawInt _))=true then _ else _) Q E s
      rw[ae (by intro h;rw[hn,Bool.false_and]at h;cases h)]
      exact wpAny_pure hQ))
noncomputable def jN(K:PySem.W.Frag)(a:Addr):It:=
 ⟨fun i H=>∃xs x,ai K H a xs/\xs[i]?=some x,fun i H x H'=>H'=H/\∀xs,ai K H a xs->xs[i]?=some x,fun i H=>∃xs,ai K H a xs/\xs.length<=i⟩
noncomputable def jO(lo:Int)(n:Nat):It:=⟨fun i _=>i<n,fun i H x H'=>H'=H/\x=.int (lo+i),fun i _=>n<=i⟩
theorem Kt{P:Program}{w:World}{K:PySem.W.Frag}{tg:Expr}(a it:Addr):Turn P w K tg (jN K a) [it] it (fun i h=>h.IsListIter it a i) where
 mem:=by simp
 obj:=fun i h st b hb=>by
  have e:b=it:=by simpa using hb
  subst e
  obtain⟨o,e,c,d⟩:=st
  exact⟨o,e,fun v z=>by rw[d]at z;cases z⟩
 keep:=fun i h h' st k=>st.at fun o e=>k it (by simp) o e
 item:=by
  intro X hP hw hK hc i pins s σ H E I hf st hg
  subst hP hw hK
  obtain⟨xs,x,hq,hx⟩:=hg
  obtain⟨its,rv,p,hz⟩:=I.list hq
  obtain⟨u,hu,ru⟩:=rv.get hx
  obtain⟨f0,f1,f2,f3,f4,f5⟩:=hf it (by simp)
  refine wpAny_pyNext_list_item st p.isList (x:=u) (by simpa using hu) fun h' st' sb=>?_
  have I1:Inv X pins σ H {s with heap:=h'}:=I.turned (t':=s.toks) (fun b o hb e=>(sb.2 b hb).trans e) f0 f1 f3 f4 f5
  obtain⟨o,e,c,d⟩:=id st'
  exact⟨u,rfl,uK (s:={s with heap:=h'}) e c d (by decide) ⟨x,H,I1,ru,⟨rfl,fun ys hy=>by rw[I.rF hy hq];exact hx⟩,st',fun b hb=>(hf b hb).1⟩⟩
 done:=by
  intro X hP hw hK hc i pins s σ H E I hf st hg
  subst hP hw hK
  obtain⟨xs,hq,hx⟩:=hg
  obtain⟨its,rv,p,hz⟩:=I.list hq
  obtain⟨f0,f1,f2,f3,f4,f5⟩:=hf it (by simp)
  have hl:=rv.length
  exact wpAny_pyNext_list_end (I.ok.hd hc) st p.isList (by simp;lia) fun h' eb=>⟨rfl,I.turned (t':=s.toks) (fun b o hb e=>eb b o hb e) f0 f1 f3 f4 f5⟩
 self:=fun _ _ _ _ _ st h=>wpAny_pyIter_listiter st h
theorem Ku{P:Program}{w:World}{K:PySem.W.Frag}{tg:Expr}(it:Addr)(lo:Int)(n:Nat):Turn P w K tg (jO lo n) [it] it (fun i h=>IsRangeIter h it (lo+(i:Nat) * 1) ((n:Int) - (i:Nat)) 1) where
 mem:=by simp
 obj:=fun i h st b hb=>by
  have e:b=it:=by simpa using hb
  subst e
  exact⟨_,st,fun v z=>by
   have z':Data.fields _=Data.cell v:=z
   cases z'⟩
 keep:=fun i h h' st k=>k it (by simp) _ st
 item:=by
  intro X hP hw hK hc i pins s σ H E I hf st hg
  subst hP hw hK
  obtain⟨f0,f1,f2,f3,f4,f5⟩:=hf it (by simp)
  have W:=Walks.range (prog:=X.prog) (w:=X.w) (I.ok.hd hc) it lo 1 n
  refine W.item i s _ _ hg st fun v h' tk hv st' kk=>?_
  obtain⟨t,rfl⟩:=hv
  have I1:Inv X pins σ H {s with heap:=h',toks:=tk}:=I.turned (fun b o hb e=>kk b o (by simpa using hb) e) f0 f1 f3 f4 f5
  refine⟨_,rfl,uK (s:={s with heap:=h',toks:=tk}) (n:="range_iterator") st' rfl rfl (by decide) ⟨.int (lo+i),H,I1,⟨t,?_⟩,⟨rfl,rfl⟩,st',fun b hb=>(hf b hb).1⟩⟩
  rw[Int.mul_one]
 done:=by
  intro X hP hw hK hc i pins s σ H E I hf st hg
  subst hP hw hK
  obtain⟨f0,f1,f2,f3,f4,f5⟩:=hf it (by simp)
  exact wpAny_pyNext_range_end (I.ok.hd hc) st (by have:n<=i:=hg;lia) fun h' eb=>⟨rfl,I.turned (t':=s.toks) (fun b o hb e=>eb b o hb e) f0 f1 f3 f4 f5⟩
 self:=fun _ _ _ _ _ st h=>wpAny_pyIter_rangeiter st h
end L2
namespace L2
open PySem PySem.Spec PyProof.Rows
section
variable{X:Cx}{tg:Expr}
noncomputable def Kv(K:PySem.W.Frag)(tl:TE):TI:=fun σ H R=>tl σ H fun x H1=>∃a,x=.ref a/\(∃xs,ai K H1 a xs)/\R (jN K a) H1
theorem fJ{l:Expr}{tl:TE}(hl:PE X l tl):PI X tg l (Kv X.K tl):=by
 intro pins s σ H R I h
 refine aU (hl pins s σ H _ I h) fun v s1 ⟨x,H1,I1,r1,q1⟩=>?_
 obtain⟨a,e,⟨xs,hq⟩,q⟩:=q1
 subst e
 cases r1
 obtain⟨its,rv,p,hz⟩:=I1.list hq
 refine wpAny_pyIter_list p.isList ?_
 refine⟨s1.heap.objs.size,[s1.heap.objs.size],_,_,H1,rfl,I1.kept (t':=s1.toks) fun b o e=>Heap.get?_push_of_some _ e,Kt a _,⟨_,Heap.get?_push_size _ rfl,rfl,rfl⟩,fun b hb=>?_,q⟩
 have e:b=s1.heap.objs.size:=by simpa using hb
 subst e
 exact I1.pI (aX _) (I1.aP.fresh (aX _))
theorem Dg{pins:List (Addr×Obj)}{σ:St}{H:Hp}{s:Shared}{R:It->Hp->Prop}{E:Value->Shared->Prop}{lo hi:Int}{t u v:Tok}{tk:Nat}(I:Inv X pins σ H s)(h1: -(2 ^ 62)<=lo)(h2:lo<2 ^ 62)(h3: -(2 ^ 62)<=hi)(h4:hi<2 ^ 62)
  (q:R (jO lo (hi - lo).toNat) H):wpAny (model X.prog X.w) X.A (pyIter (.ref s.heap.objs.size)) (xF X pins σ tg R) E {s with heap:=s.heap.push {cls:=.type "range",data:=.fields #[.int lo t,.int hi u,.int 1 v]},toks:=tk}:=by
 refine wpAny_pyIter_range (IsRange.new ..) (small_one h1 h2 h3 h4) ?_
 have I1:Inv X pins σ H {s with heap:=s.heap.push {cls:=.type "range",data:=.fields #[.int lo t,.int hi u,.int 1 v]},toks:=tk}:=I.kept fun b o e=>Heap.get?_push_of_some _ e
 refine⟨(s.heap.push {cls:=.type "range",data:=.fields #[.int lo t,.int hi u,.int 1 v]}).objs.size,[(s.heap.push {cls:=.type "range",data:=.fields #[.int lo t,.int hi u,.int 1 v]}).objs.size],_,_,H,rfl,
  I1.kept (t':=tk) fun b o e=>Heap.get?_push_of_some _ e,Ku _ lo (hi - lo).toNat,?_,fun b hb=>?_,q⟩
 ·have e1:lo+((0:Nat):Int) * 1=lo:=by simp
  have e2:(((hi - lo).toNat:Nat):Int) - ((0:Nat):Int)=Builtin.Range.rangeSize lo hi 1:=by rw[rangeSize_one];split<;>lia
  show IsRangeIter _ _ (lo+((0:Nat):Int) * 1) ((((hi - lo).toNat:Nat):Int) - ((0:Nat):Int)) 1
  rw[e1,e2]
  exact Heap.get?_push_size _ rfl
 ·have e:b=(s.heap.push {cls:=.type "range",data:=.fields #[.int lo t,.int hi u,.int 1 v]}).objs.size:=by simpa using hb
  subst e
  exact I1.pI (aX _) (I1.aP.fresh (aX _))
noncomputable def Kw(ta:TA):TI:=fun σ H R=>ta σ H fun vs H1=>∃j:Int,vs=[.int j]/\ -(2 ^ 62)<=j/\j<2 ^ 62/\R (jO 0 j.toNat) H1
noncomputable def Kx(ta:TA):TI:=fun σ H R=>ta σ H fun vs H1=>∃i j:Int,vs=[.int i,.int j]/\(-(2 ^ 62)<=i/\i<2 ^ 62/\ -(2 ^ 62)<=j/\j<2 ^ 62)/\R (jO i (j - i).toNat) H1
theorem iL{a:Expr}{ta:TA}{p pos:Pos}(hg:Gl X "range")(hm:X.mg "range"=none)(ha:PA X [a] ta)(hs:starEach [a] X.env=[(false,eval a X.env)]:=by rfl):PI X tg (.Call (.Name "range" p) [a] [] pos) (Kw ta):=by
 intro pins s σ H R I h
 refine Call_ (km I hg hm boot_range (m9 (aU (ha pos pins s σ H _ I h) fun us s1 ⟨vs,H1,I1,r1,q1⟩=>?_) hs rfl))
 obtain⟨j,e,q1,q2,q⟩:=q1
 subst e
 cases r1 with
 |cons r rr=>
  cases rr
  obtain⟨t,rfl⟩:=r
  exact call_range_1 (Dg I1 (by lia) (by lia) q1 q2 (by simpa using q))
theorem rH{a b:Expr}{ta:TA}{p pos:Pos}(hg:Gl X "range")(hm:X.mg "range"=none)(ha:PA X [a,b] ta)(hs:starEach [a,b] X.env=[(false,eval a X.env),(false,eval b X.env)]:=by rfl)(hs2:starEach [b] X.env=[(false,eval b X.env)]:=by rfl):
  PI X tg (.Call (.Name "range" p) [a,b] [] pos) (Kx ta):=by
 intro pins s σ H R I h
 refine Call_ (km I hg hm boot_range (m9 (aU (ha pos pins s σ H _ I h) fun us s1 ⟨vs,H1,I1,r1,q1⟩=>?_) (by rw[hs,hs2]) (by rw[hs2];rfl)))
 obtain⟨i,j,e,⟨q1,q2,q3,q4⟩,q⟩:=q1
 subst e
 cases r1 with
 |cons r rr=>
  cases rr with
  |cons r' rr=>
   cases rr
   obtain⟨t,rfl⟩:=r
   obtain⟨t',rfl⟩:=r'
   exact call_range_2 (Dg I1 q1 q2 q3 q4 q)
noncomputable def Ky(wi:TI)(g:TG)(tb:TS):TS:=fun D σ H=>wi σ H fun J H1=>∃W:Nat->Nat->St->Hp->Prop,(∃m,W 0 m σ H1)/\∀i m σ H,W i m σ H->
 (J.stop i H/\D.nx σ H)\/(J.go i H/\∃N:St->Hp->Prop,(∀σ' H',N σ' H'->∃m',m'<m/\W (i+1) m' σ' H')/\∀x H',J.iK i H x H'->g x σ H' fun σ2 H2=>tb {D with nx:=N,ct:=N,bk:=D.nx} σ2 H2)
noncomputable def rJ(fp:List Addr)(h:Heap):List (Addr×Obj):=fp.filterMap fun b=>(h.get? b).map fun o=>(b,o)
theorem xG{fp:List Addr}{h:Heap}{b:Addr}{o:Obj}(hb:b∈fp)(e:h.get? b=some o):(b,o)∈rJ fp h:=List.mem_filterMap.mpr ⟨b,hb,by rw[e];rfl⟩
theorem Kz{fp:List Addr}{h:Heap}{p:Addr×Obj}(hp:p∈rJ fp h):p.1∈fp/\h.get? p.1=some p.2:=by
 obtain⟨b,hb,e⟩:=List.mem_filterMap.mp hp
 cases q:h.get? b with
 |none=>rw[q]at e;cases e
 |some o=>
  rw[q]at e
  have e':(b,o)=p:=bo e
  subst e'
  exact⟨hb,q⟩
theorem Inv.pinned{pins:List (Addr×Obj)}{σ:St}{H:Hp}{s:Shared}{fp:List Addr}(I:Inv X pins σ H s)(hf:∀b∈fp,jd X pins H b)(ho:∀b∈fp,∃o,s.heap.get? b=some o/\∀v,o.data≠.cell v):Inv X (pins++rJ fp s.heap) σ H s:=
 I.CW fun p hp=>(dU.mp hp).elim (fun z=>I.pin p (d_ _ z)) fun z=>by
  obtain⟨hb,e⟩:=Kz z
  obtain⟨f0,f1,f2,_⟩:=hf p.1 hb
  obtain⟨o,e',d⟩:=ho p.1 hb
  rw[e]at e';cases e'
  exact⟨e,f0,f1,f2,d⟩
theorem Inv.uL{pins pl:List (Addr×Obj)}{σ:St}{H:Hp}{s:Shared}(I:Inv X (pins++pl) σ H s):Inv X pins σ H s:=I.CW fun p hp=>I.pin p (d_ _ (jF _ hp))
theorem dh{iter:Expr}{body:List Stmt}{wi:TI}{g:TG}{tb:TS}{pos:Pos}(hp:PassesOwn (model X.prog X.w) X.A X.env X.xe)(hc:X.calm=true)(hi:PI X tg iter wi)(hg:PG X tg g)(hb:iJ X body tb)
  (hs:∀x,foldedSetIterable iter X.env x=pure x:=by intro _;rfl):PS X (.For tg iter body [] pos) (Ky wi g tb):=by
 intro pins s σ H D I h
 refine wpAny_For (aU (hi pins s σ H _ I h) fun v s1 h1=>aU h1 fun itv s2 h2=>?_) hs
 obtain⟨it,fp,tn,J,H2,e,I2,T,st2,f2,W,⟨m0,w0⟩,turn⟩:=h2
 subst e
 have stat:∀{H':Hp},(∀b∈fp,H' b=none)->∀b∈fp,jd X pins H' b:=fun hn b hb=>⟨hn b hb,(f2 b hb).2⟩
 refine codeAny_forLoop_any (fun n s'=>∃i σ' H',Inv X pins σ' H' s'/\tn i s'.heap/\(∀b∈fp,H' b=none)/\W i n σ' H') ?_ m0 ⟨0,σ,H2,I2,st2,fun b hb=>(f2 b hb).1,w0⟩
 rintro n s3 ⟨i,σ3,H3,I3,st3,fr3,w3⟩
 rcases turn i n σ3 H3 w3 with ⟨stop,qn⟩|⟨go,N,hN,step⟩
 ·refine wpAny_passesOwn hp (aU (T.done X rfl rfl rfl hc i pins s3 σ3 H3 X.xe I3 (stat fr3) st3 stop) fun r s4 ⟨hr,I4⟩=>?_)
  subst hr
  exact wpAny_execs_nil ⟨σ3,H3,I4,qn⟩
 ·refine wpAny_passesOwn hp (aU (T.item X rfl rfl rfl hc i pins s3 σ3 H3 X.xe I3 (stat fr3) st3 go) fun r s4 ⟨u,hr,h4⟩=>?_)
  subst hr
  refine wpAny_passesOwn hp (aU h4 fun _ s5 ⟨x,H5,I5,r5,y5,st5,fr5⟩=>?_)
  have I5':=I5.pinned (stat fr5) (T.obj _ _ st5)
  refine wpAny_passesOwn hp (aU (hg _ s5 σ3 H5 x u _ I5' r5 (step x H5 y5)) fun _ s6 ⟨σ6,H6,I6,q6⟩=>?_)
  refine wpAny_passesOwn hp (aU (hb _ s6 σ6 H6 _ I6 q6) fun f s7 q7=>?_)
  have again:∀{σ7:St}{H7:Hp},Inv X (pins++rJ fp s5.heap) σ7 H7 s7->N σ7 H7->∃m,m<n/\∃i σ' H',Inv X pins σ' H' s7/\tn i s7.heap/\(∀b∈fp,H' b=none)/\W i m σ' H':=fun {σ7 H7} I7 n7=>by
   obtain⟨m',hm,w7⟩:=hN σ7 H7 n7
   refine⟨m',hm,i+1,σ7,H7,I7.uL,T.keep _ _ _ st5 fun b hb o e=>(I7.pin (b,o) (d_ _ (d_ _ (xG hb e)))).1,fun b hb=>?_,w7⟩
   obtain⟨o,e,d⟩:=T.obj _ _ st5 b hb
   exact(I7.pin (b,o) (d_ _ (d_ _ (xG hb e)))).2.1
  cases f with
  |next=>obtain⟨σ7,H7,I7,n7⟩:=q7;exact again I7 n7
  |cont=>obtain⟨σ7,H7,I7,n7⟩:=q7;exact again I7 n7
  |brk=>obtain⟨σ7,H7,I7,q7⟩:=q7;exact⟨σ7,H7,I7.uL,q7⟩
  |ret v=>obtain⟨x7,σ7,H7,I7,r7,q7⟩:=q7;exact⟨x7,σ7,H7,I7.uL,r7,q7⟩
end
theorem mG{K:PySem.W.Frag}{a:Addr}{xs:List V}{g:TG}{tb:TS}{D:Ends}{σ:St}{H:Hp}(Pv:Nat->St->Hp->Prop)(h0:Pv 0 σ H)(hl:∀i σ H,i<=xs.length->Pv i σ H->ai K H a xs)
  (hs:∀i x σ H,xs[i]?=some x->Pv i σ H->g x σ H fun σ2 H2=>tb {D with nx:=Pv (i+1),ct:=Pv (i+1),bk:=D.nx} σ2 H2)(hd:∀σ H,Pv xs.length σ H->D.nx σ H):
  ∃W:Nat->Nat->St->Hp->Prop,(∃m,W 0 m σ H)/\∀i m σ H,W i m σ H->
   ((jN K a).stop i H/\D.nx σ H)\/((jN K a).go i H/\∃N:St->Hp->Prop,(∀σ' H',N σ' H'->∃m',m'<m/\W (i+1) m' σ' H')/\∀x H',(jN K a).iK i H x H'->g x σ H' fun σ2 H2=>tb {D with nx:=N,ct:=N,bk:=D.nx} σ2 H2):=by
 refine⟨fun i m σ H=>m=xs.length - i/\i<=xs.length/\Pv i σ H,⟨xs.length,by simp,be _,h0⟩,?_⟩
 rintro i m σ H ⟨rfl,hi,p⟩
 have q:=hl i σ H hi p
 by_cases hlt:i<xs.length
 ·refine .inr ⟨⟨xs,xs[i],q,by simp[hlt]⟩,Pv (i+1),fun σ' H' p'=>⟨xs.length - (i+1),by lia,rfl,hlt,p'⟩,fun x H' y=>?_⟩
  obtain⟨e,y⟩:=y
  subst e
  exact hs i x σ _ (y xs q) p
 ·have e:i=xs.length:=by lia
  subst e
  exact .inl ⟨⟨xs,q,aX _⟩,hd σ H p⟩
theorem je{lo:Int}{n:Nat}{g:TG}{tb:TS}{D:Ends}{σ:St}{H:Hp}(Pv:Nat->St->Hp->Prop)(h0:Pv 0 σ H)
  (hs:∀i σ H,i<n->Pv i σ H->g (.int (lo+i)) σ H fun σ2 H2=>tb {D with nx:=Pv (i+1),ct:=Pv (i+1),bk:=D.nx} σ2 H2)(hd:∀σ H,Pv n σ H->D.nx σ H):
  ∃W:Nat->Nat->St->Hp->Prop,(∃m,W 0 m σ H)/\∀i m σ H,W i m σ H->
   ((jO lo n).stop i H/\D.nx σ H)\/((jO lo n).go i H/\∃N:St->Hp->Prop,(∀σ' H',N σ' H'->∃m',m'<m/\W (i+1) m' σ' H')/\∀x H',(jO lo n).iK i H x H'->g x σ H' fun σ2 H2=>tb {D with nx:=N,ct:=N,bk:=D.nx} σ2 H2):=by
 refine⟨fun i m σ H=>m=n - i/\i<=n/\Pv i σ H,⟨n,by simp,be _,h0⟩,?_⟩
 rintro i m σ H ⟨rfl,hi,p⟩
 by_cases hlt:i<n
 ·refine .inr ⟨hlt,Pv (i+1),fun σ' H' p'=>⟨n - (i+1),by lia,rfl,hlt,p'⟩,fun x H' y=>?_⟩
  obtain⟨e,y⟩:=y
  subst e y
  exact hs i σ _ hlt p
 ·have e:i=n:=by lia
  subst e
  exact .inl ⟨aX _,hd σ H p⟩
end L2
namespace L2
open PySem PySem.Spec PyProof.Rows
abbrev R2:=V->V->Hp->VK->Prop
noncomputable def cW(X:Cx)(f:Value->Value->Sem Value)(r:R2):Prop:=
 ∀(pins:List (Addr×Obj)) (s:Shared) (σ:St) (H:Hp) (x y:V) (v u:Value) (Q:VK),Inv X pins σ H s->RelV x v->RelV y u->r x y H Q->
  wpAny (model X.prog X.w) X.A (f v u) (EP X pins σ Q) X.xe s
noncomputable def xH(X:Cx)(f:Value->Sem Value)(r:V->Hp->VK->Prop):Prop:=
 ∀(pins:List (Addr×Obj)) (s:Shared) (σ:St) (H:Hp) (x:V) (v:Value) (Q:VK),Inv X pins σ H s->RelV x v->r x H Q->
  wpAny (model X.prog X.w) X.A (f v) (EP X pins σ Q) X.xe s
noncomputable def jf(X:Cx)(f:Value)(r:List V->Hp->VK->Prop):Prop:=
 ∀(pins:List (Addr×Obj)) (s:Shared) (σ:St) (H:Hp) (xs:List V) (us:List Value) (Q:VK),Inv X pins σ H s->aK xs us->r xs H Q->
  wpAny (model X.prog X.w) X.A (call f us) (EP X pins σ Q) X.xe s
noncomputable def eP(r:R2)(ta tb:TE):TE:=fun σ H Q=>ta σ H fun x H1=>tb σ H1 fun y H2=>r x y H2 Q
noncomputable def KA(r:V->Hp->VK->Prop)(ta:TE):TE:=fun σ H Q=>ta σ H fun x H1=>r x H1 Q
noncomputable def rI(C:Int->Int->Prop)(g:Int->Int->V):R2:=fun x y H Q=>∃i j,x=.int i/\y=.int j/\C i j/\Q (g i j) H
noncomputable def mH(g:Int->Int->V):R2:=fun x y H Q=>∃i j,x=.int i/\y=.int j/\Q (g i j) H
noncomputable def rU(g:Int->V):V->Hp->VK->Prop:=fun x H Q=>∃i,x=.int i/\Q (g i) H
section
variable{X:Cx}{a b c:Expr}{ta tb tc:TE}{pos:Pos}
theorem xI(ha:PE X a ta)(hb:PE X b tb){pins:List (Addr×Obj)}{s:Shared}{σ:St}{H:Hp}{R:V->V->Hp->Prop}(I:Inv X pins σ H s)
  (h:ta σ H fun x H1=>tb σ H1 fun y H2=>R x y H2){Q:Value->Shared->Prop}{f:Value->Value->Sem Value}
  (hf:∀v u s2 x y H2,Inv X pins σ H2 s2->RelV x v->RelV y u->R x y H2->wpAny (model X.prog X.w) X.A (f v u) Q X.xe s2):
  wpAny (model X.prog X.w) X.A (eval a X.env) (fun v s₁=>wpAny (model X.prog X.w) X.A (eval b X.env) (fun u s₂=>wpAny (model X.prog X.w) X.A (f v u) Q X.xe s₂) X.xe s₁) X.xe s:=by
 refine aU (ha pins s σ H _ I h) fun v s1 ⟨x,H1,I1,r1,q1⟩=>?_
 refine aU (hb pins s1 σ H1 _ I1 q1) fun u s2 ⟨y,H2,I2,r2,q2⟩=>?_
 exact hf v u s2 x y H2 I2 r1 r2 q2
theorem aC{op:Operator}{r:R2}(ho:cW X (binaryOp op) r)(ha:PE X a ta)(hb:PE X b tb):PE X (.BinOp a op b pos) (eP r ta tb):=by
 intro pins s σ H Q I h
 exact wpAny_BinOp (xI ha hb I h fun v u s2 x y H2 I2 rx ry q=>ho pins s2 σ H2 x y v u Q I2 rx ry q)
theorem iM{op:UnaryOp}{r:V->Hp->VK->Prop}(ho:xH X (unaryOp op) r)(ha:PE X a ta):PE X (.UnaryOp op a pos) (KA r ta):=by
 intro pins s σ H Q I h
 exact UnaryOp_ (aU (ha pins s σ H _ I h) fun v s1 ⟨x,H1,I1,r1,q1⟩=>ho pins s1 σ H1 x v Q I1 r1 q1)
theorem xJ{f:Value->Value->Sem Value}{C:Int->Int->Prop}{g:Int->Int->Int}
  (rule:∀(i j:Int) (t u:Tok) (s:Shared) (Q:Value->Shared->Prop) (E:Value->Shared->Prop),C i j->Q (.int (g i j) s.toks) {s with toks:=s.toks+1}->wpAny (model X.prog X.w) X.A (f (.int i t) (.int j u)) Q E s):
  cW X f (rI C fun i j=>.int (g i j)):=by
 intro pins s σ H x y v u Q I rx ry h
 obtain⟨i,j,rfl,rfl,hc,q⟩:=h
 obtain⟨t,rfl⟩:=rx
 obtain⟨t',rfl⟩:=ry
 exact rule i j t t' s _ _ hc ⟨.int (g i j),H,I.tok _,⟨_,rfl⟩,q⟩
theorem Dh{f:Value->Value->Sem Value}{g:Int->Int->Int}
  (rule:∀(i j:Int) (t u:Tok) (s:Shared) (Q:Value->Shared->Prop) (E:Value->Shared->Prop),Q (.int (g i j) s.toks) {s with toks:=s.toks+1}->wpAny (model X.prog X.w) X.A (f (.int i t) (.int j u)) Q E s):
  cW X f (mH fun i j=>.int (g i j)):=by
 intro pins s σ H x y v u Q I rx ry h
 obtain⟨i,j,rfl,rfl,q⟩:=h
 obtain⟨t,rfl⟩:=rx
 obtain⟨t',rfl⟩:=ry
 exact rule i j t t' s _ _ ⟨.int (g i j),H,I.tok _,⟨_,rfl⟩,q⟩
theorem uM{f:Value->Value->Sem Value}{g:Int->Int->Bool}
  (rule:∀(i j:Int) (t u:Tok) (s:Shared) (Q:Value->Shared->Prop) (E:Value->Shared->Prop),Q (.bool (g i j)) s->wpAny (model X.prog X.w) X.A (f (.int i t) (.int j u)) Q E s):
  cW X f (mH fun i j=>.bl (g i j)):=by
 intro pins s σ H x y v u Q I rx ry h
 obtain⟨i,j,rfl,rfl,q⟩:=h
 obtain⟨t,rfl⟩:=rx
 obtain⟨t',rfl⟩:=ry
 exact rule i j t t' s _ _ ⟨.bl (g i j),H,I,rfl,q⟩
noncomputable def KC(i j:Int):Prop:=0<j/\j<1073741824
noncomputable def xK(i j:Int):Prop:=(-(2 ^ 64)<i/\i<2 ^ 64)\/(-(2 ^ 64)<j/\j<2 ^ 64)
theorem xK.ok{i j:Int}(h:xK i j):IntMulOk i j:=by
 rcases h with ⟨h1,h2⟩|⟨h1,h2⟩
 ·exact .of_left (intBits_le_64 h1 h2)
 ·exact .of_right (intBits_le_64 h1 h2)
theorem cj:cW X (binaryOp .Add) (mH fun i j=>.int (i+j)):=Dh fun _ _ _ _ _ _ _ q=>add_int q
theorem cE:cW X (binaryOp .Sub) (mH fun i j=>.int (i - j)):=Dh fun _ _ _ _ _ _ _ q=>sub_int q
theorem jg:cW X (binaryOp .Mult) (rI xK fun i j=>.int (i * j)):=xJ fun _ _ _ _ _ _ _ hc q=>mul_int q hc.ok
theorem Dj:cW X (binaryOp .FloorDiv) (rI KC fun i j=>.int (i / j)):=xJ fun i j _ _ _ _ _ hc q=>by
 have h1:(0:Int)<j:=hc.1
 have h2:j<1073741824:=hc.2
 exact floordiv_int (by lia) (by rw[Int.fdiv_eq_ediv_of_nonneg i (by lia)];exact q) (.inl (PyProof.noPylong_small (by lia)))
theorem pJ:cW X (binaryOp .Mod) (rI (fun _ j=>0<j) fun i j=>.int (i % j)):=xJ fun i j _ _ _ _ _ hc q=>by
 have h1:(0:Int)<j:=hc
 exact mod_int' (by lia) (by rw[Int.fmod_eq_emod_of_nonneg i (by lia)];exact q)
theorem KD{f:Value->Sem Value}{g:Int->Int}
  (rule:∀(i:Int) (t:Tok) (s:Shared) (Q:Value->Shared->Prop) (E:Value->Shared->Prop),Q (.int (g i) s.toks) {s with toks:=s.toks+1}->wpAny (model X.prog X.w) X.A (f (.int i t)) Q E s):
  xH X f (rU fun i=>.int (g i)):=by
 intro pins s σ H x v Q I rx h
 obtain⟨i,rfl,q⟩:=h
 obtain⟨t,rfl⟩:=rx
 exact rule i t s _ _ ⟨.int (g i),H,I.tok _,⟨_,rfl⟩,q⟩
theorem iN:xH X (unaryOp .USub) (rU fun i=>.int (-i)):=KD fun _ _ _ _ _ q=>neg_int q
end
noncomputable def Dk:V->V->Bool
 |.aW,.aW=>true|.aW,.int _=>true|.int _,.aW=>true|.aW,.bl _=>true|.bl _,.aW=>true|.aW,.str _=>true|.str _,.aW=>true
 |.int _,.int _=>true|.bl _,.bl _=>true|.str _,.str _=>true|.gB _,.gB _=>true
 |.int _,.str _=>true|.str _,.int _=>true|.bl _,.str _=>true|.str _,.bl _=>true
 |_,_=>false
noncomputable def KE:R2:=fun x y H Q=>Dk x y=true/\Q (.bl (decide (x=y))) H
noncomputable def Dl:R2:=fun x y H Q=>Dk x y=true/\Q (.bl (!decide (x=y))) H
theorem Dn{i j:Int}:decide (V.int i=V.int j)=(i == j):=by
 rw[jG]
 simp
theorem Dq{i j:Bool}:decide (V.bl i=V.bl j)=(i == j):=by
 rw[jG]
 simp
theorem Dr{i j:Str}:decide (V.str i=V.str j)=(i == j):=by
 rw[jG]
 simp
theorem Ds{i j:Array UInt8}:decide (V.gB i=V.gB j)=(i.toList == j.toList):=by
 rw[jG]
 cases i
 cases j
 simp
section
variable{X:Cx}{a b c:Expr}{ta tb tc:TE}{pos:Pos}
theorem cP{pins:List (Addr×Obj)}{σ:St}{H:Hp}{s:Shared}{Q:VK}{k k':Bool}(I:Inv X pins σ H s)(q:Q (.bl k) H)(e:k=k'):EP X pins σ Q (.bool k') s:=by
 subst e
 exact⟨.bl k,H,I,rfl,q⟩
theorem nu:cW X (compareOp .Eq) KE:=by
 intro pins s σ H x y v u Q I rx ry h
 obtain⟨hs,q⟩:=h
 cases x with
 |aW=>
  cases rx
  cases y with
  |aW=>cases ry;exact PySem.EqNone.eq_none_none (cP I q (by simp))
  |bl j=>cases ry;exact PySem.EqNone.eq_none_bool (cP I q (by simp))
  |int j=>obtain⟨t',rfl⟩:=ry;exact PySem.EqNone.eq_none_int (cP I q (by simp))
  |str j=>obtain⟨t',rfl⟩:=ry;exact PySem.EqNone.eq_none_str (cP I q (by simp))
  |_=>exact absurd (show false=true from hs) fz
 |bl i=>
  cases rx
  cases y with
  |aW=>cases ry;exact PySem.EqNone.eq_bool_none (cP I q (by simp))
  |bl j=>cases ry;exact eq_bool (cP I q Dq)
  |str j=>obtain⟨t',rfl⟩:=ry;exact PySem.EqMixed.eq_bool_str (cP I q (by simp))
  |_=>exact absurd (show false=true from hs) fz
 |int i=>
  obtain⟨t,rfl⟩:=rx
  cases y with
  |aW=>cases ry;exact PySem.EqNone.eq_int_none (cP I q (by simp))
  |int j=>obtain⟨t',rfl⟩:=ry;exact eq_int (cP I q Dn)
  |str j=>obtain⟨t',rfl⟩:=ry;exact PySem.EqMixed.eq_int_str (cP I q (by simp))
  |_=>exact absurd (show false=true from hs) fz
 |str i=>
  obtain⟨t,rfl⟩:=rx
  cases y with
  |aW=>cases ry;exact PySem.EqNone.eq_str_none (cP I q (by simp))
  |bl j=>cases ry;exact PySem.EqMixed.eq_str_bool (cP I q (by simp))
  |int j=>obtain⟨t',rfl⟩:=ry;exact PySem.EqMixed.eq_str_int (cP I q (by simp))
  |str j=>obtain⟨t',rfl⟩:=ry;exact eq_str (cP I q Dr)
  |_=>exact absurd (show false=true from hs) fz
 |gB i=>
  obtain⟨t,rfl⟩:=rx
  cases y with
  |gB j=>obtain⟨t',rfl⟩:=ry;exact PySem.W.eq_bytes (cP I q Ds)
  |_=>exact absurd (show false=true from hs) fz
 |_=>cases y<;>exact absurd (show false=true from hs) fz
theorem ny:cW X (compareOp .NotEq) Dl:=by
 intro pins s σ H x y v u Q I rx ry h
 obtain⟨hs,q⟩:=h
 cases x with
 |aW=>
  cases rx
  cases y with
  |aW=>cases ry;exact PySem.EqNone.ne_none_none (cP I q (by simp))
  |bl j=>cases ry;exact PySem.EqNone.ne_none_bool (cP I q (by simp))
  |int j=>obtain⟨t',rfl⟩:=ry;exact PySem.EqNone.ne_none_int (cP I q (by simp))
  |str j=>obtain⟨t',rfl⟩:=ry;exact PySem.EqNone.ne_none_str (cP I q (by simp))
  |_=>exact absurd (show false=true from hs) fz
 |bl i=>
  cases rx
  cases y with
  |aW=>cases ry;exact PySem.EqNone.ne_bool_none (cP I q (by simp))
  |bl j=>cases ry;exact ne_bool (cP I q (bQ not Dq))
  |str j=>obtain⟨t',rfl⟩:=ry;exact PySem.EqMixed.ne_bool_str (cP I q (by simp))
  |_=>exact absurd (show false=true from hs) fz
 |int i=>
  obtain⟨t,rfl⟩:=rx
  cases y with
  |aW=>cases ry;exact PySem.EqNone.ne_int_none (cP I q (by simp))
  |int j=>obtain⟨t',rfl⟩:=ry;exact ne_int (cP I q (bQ not Dn))
  |str j=>obtain⟨t',rfl⟩:=ry;exact PySem.EqMixed.ne_int_str (cP I q (by simp))
  |_=>exact absurd (show false=true from hs) fz
 |str i=>
  obtain⟨t,rfl⟩:=rx
  cases y with
  |aW=>cases ry;exact PySem.EqNone.ne_str_none (cP I q (by simp))
  |bl j=>cases ry;exact PySem.EqMixed.ne_str_bool (cP I q (by simp))
  |int j=>obtain⟨t',rfl⟩:=ry;exact PySem.EqMixed.ne_str_int (cP I q (by simp))
  |str j=>obtain⟨t',rfl⟩:=ry;exact ne_str (cP I q (bQ not Dr))
  |_=>exact absurd (show false=true from hs) fz
 |gB i=>
  obtain⟨t,rfl⟩:=rx
  cases y with
  |gB j=>obtain⟨t',rfl⟩:=ry;exact PySem.W.ne_bytes (cP I q (bQ not Ds))
  |_=>exact absurd (show false=true from hs) fz
 |_=>cases y<;>exact absurd (show false=true from hs) fz
theorem gC:cW X (compareOp .Lt) (mH fun i j=>.bl (decide (i<j))):=uM fun _ _ _ _ _ _ _ q=>lt_int q
theorem rK:cW X (compareOp .LtE) (mH fun i j=>.bl (decide (i<=j))):=uM fun _ _ _ _ _ _ _ q=>le_int q
theorem eQ:cW X (compareOp .Gt) (mH fun i j=>.bl (decide (j<i))):=uM fun _ _ _ _ _ _ _ q=>gt_int q
theorem xM:cW X (compareOp .GtE) (mH fun i j=>.bl (decide (j<=i))):=uM fun _ _ _ _ _ _ _ q=>ge_int q
theorem kq:cW X (compareOp .Is) (fun x y H Q=>y=.aW/\Q (.bl (decide (x=.aW))) H):=by
 intro pins s σ H x y v u Q I rx ry h
 obtain⟨rfl,q⟩:=h
 cases ry
 refine is_none_gen (cP I q ?_)
 cases x<;>first
  |(cases rx;rfl)
  |(obtain⟨t,rfl⟩:=rx;rfl)
theorem Dt(b:Expr){op:CmpOp}(h:op≠.In:=by decide)(h2:op≠.NotIn:=by decide):behindInMarks op b=false:=by
 have e1:(op == CmpOp.In)=false:=by cases op<;>first|rfl|exact absurd rfl h
 have e2:(op == CmpOp.NotIn)=false:=by cases op<;>first|rfl|exact absurd rfl h2
 cases b<;>simp[behindInMarks,e1,e2]
theorem KG{op:CmpOp}{r:R2}(ho:cW X (compareOp op) r)(ha:PE X a ta)(hb:PE X b tb)(hm:behindInMarks op b=false):PE X (.Compare a [op] [b] pos) (eP r ta tb):=by
 intro pins s σ H Q I h
 exact wpAny_Compare1 (xI ha hb I h fun v u s2 x y H2 I2 rx ry q=>ho pins s2 σ H2 x y v u Q I2 rx ry q) hm
noncomputable def pK(t:TE):TT:=fun σ H Q=>t σ H fun x H'=>∃k,x=.bl k/\Q k H'
theorem KH{op:CmpOp}{r:R2}(ho:cW X (compareOp op) r)(ha:PE X a ta)(hb:PE X b tb)(hm:behindInMarks op b=false):PT X (.Compare a [op] [b] pos) (pK (eP r ta tb)):=by
 intro pins s σ H Q I h
 refine wpAny_isTrue_Compare1 (aU (ha pins s σ H _ I h) fun v s1 ⟨x,H1,I1,r1,q1⟩=>aU (hb pins s1 σ H1 _ I1 q1) fun u s2 ⟨y,H2,I2,r2,q2⟩=>
  aU (ho pins s2 σ H2 x y v u _ I2 r1 r2 q2) fun c s3 ⟨z,H3,I3,r3,k,e,q3⟩=>?_) hm
 subst e
 cases r3
 exact wpAny_truthy_bool ⟨H3,I3,q3⟩
noncomputable def Du(r r':R2)(ta tb tc:TE):TE:=fun σ H Q=>ta σ H fun x H1=>tb σ H1 fun y H2=>r x y H2 fun z H3=>∃k,z=.bl k/\
 (if k=true then tc σ H3 fun w' H4=>r' y w' H4 Q else Q (.bl false) H3)
theorem Dv{op op':CmpOp}{r r':R2}(ho:cW X (compareOp op) r)(ho':cW X (compareOp op') r')(ha:PE X a ta)(hb:PE X b tb)(hc:PE X c tc)
  (hm:lastMarks [op,op'] [b,c]=false:=by with_unfolding_all rfl):PE X (.Compare a [op,op'] [b,c] pos) (Du r r' ta tb tc):=by
 intro pins s σ H Q I h
 refine Compare_chain (aU (ha pins s σ H _ I h) fun v s1 ⟨x,H1,I1,r1,q1⟩=>chain_link (aU (hb pins s1 σ H1 _ I1 q1) fun u s2 ⟨y,H2,I2,r2,q2⟩=>
  aU (ho pins s2 σ H2 x y v u _ I2 r1 r2 q2) fun d s3 ⟨z,H3,I3,r3,k,e,q3⟩=>?_)) hm
 subst e
 cases r3
 refine wpAny_truthy_bool ?_
 cases k with
 |false=>exact ite_ff ⟨.bl false,H3,I3,rfl,q3⟩
 |true=>exact ite_tt (chain_last (aU (hc pins s3 σ H3 _ I3 q3) fun w' s4 ⟨z',H4,I4,r4,q4⟩=>ho' pins s4 σ H4 y z' u w' Q I4 r2 r4 q4))
theorem KI{op op':CmpOp}{r r':R2}(ho:cW X (compareOp op) r)(ho':cW X (compareOp op') r')(ha:PE X a ta)(hb:PE X b tb)(hc:PE X c tc)
  (hm:lastMarks [op,op'] [b,c]=false:=by with_unfolding_all rfl):PT X (.Compare a [op,op'] [b,c] pos) (pK (Du r r' ta tb tc)):=by
 intro pins s σ H Q I h
 refine isTrue_chain (aU (ha pins s σ H _ I h) fun v s1 ⟨x,H1,I1,r1,q1⟩=>test_link (aU (hb pins s1 σ H1 _ I1 q1) fun u s2 ⟨y,H2,I2,r2,q2⟩=>
  aU (ho pins s2 σ H2 x y v u _ I2 r1 r2 q2) fun d s3 ⟨z,H3,I3,r3,k,e,q3⟩=>?_)) hm
 subst e
 cases r3
 refine wpAny_truthy_bool ?_
 cases k with
 |false=>
  obtain⟨k',e',q'⟩:=q3
  cases e'
  exact ite_ff ⟨H3,I3,q'⟩
 |true=>
  refine ite_tt (test_last (aU (hc pins s3 σ H3 _ I3 q3) fun w' s4 ⟨z',H4,I4,r4,q4⟩=>aU (ho' pins s4 σ H4 y z' u w' _ I4 r2 r4 q4) fun d' s5 ⟨z2,H5,I5,r5,k2,e2,q5⟩=>?_))
  subst e2
  cases r5
  exact wpAny_truthy_bool ⟨H5,I5,q5⟩
theorem uN:(sizeLine:Nat)<2 ^ 63:=by rw[sizeLine_eq];decide
theorem vals1{x:V}{us:List Value}(r:aK [x] us):∃u,us=[u]/\RelV x u:=by
 cases r with
 |cons r1 r2=>cases r2;exact⟨_,rfl,r1⟩
theorem vals2{x y:V}{us:List Value}(r:aK [x,y] us):∃u w',us=[u,w']/\RelV x u/\RelV y w':=by
 cases r with
 |cons r1 r2=>
  cases r2 with
  |cons r3 r4=>cases r4;exact⟨_,_,rfl,r1,r3⟩
theorem lE:jf X (.builtin "abs") (fun xs H Q=>∃i,xs=[.int i]/\Q (.int (if i<0 then -i else i)) H):=by
 intro pins s σ H xs us Q I r h
 obtain⟨i,rfl,q⟩:=h
 obtain⟨u,rfl,t,rfl⟩:=vals1 r
 exact call_abs_int fun u tk=>⟨.int (if i<0 then -i else i),H,I.tok _,⟨_,rfl⟩,q⟩
theorem KJ(hc:X.calm=true):jf X (.builtin "max") (fun xs H Q=>∃i j,xs=[.int i,.int j]/\Q (.int (if j > i then j else i)) H):=by
 intro pins s σ H xs us Q I r h
 obtain⟨i,j,rfl,q⟩:=h
 obtain⟨u,w',rfl,⟨t,rfl⟩,⟨t',rfl⟩⟩:=vals2 r
 refine max_two_ints (I.ok.hd hc) fun h' tk k=>⟨_,H,I.kept k,?_,q⟩
 by_cases hj:j > i
 ·rw[af hj,af hj];exact⟨_,rfl⟩
 ·rw[ae hj,ae hj];exact⟨_,rfl⟩
theorem Dx(hc:X.calm=true):jf X (.builtin "min") (fun xs H Q=>∃i j,xs=[.int i,.int j]/\Q (.int (if j<i then j else i)) H):=by
 intro pins s σ H xs us Q I r h
 obtain⟨i,j,rfl,q⟩:=h
 obtain⟨u,w',rfl,⟨t,rfl⟩,⟨t',rfl⟩⟩:=vals2 r
 refine min_two_ints (I.ok.hd hc) fun h' tk k=>⟨_,H,I.kept k,?_,q⟩
 by_cases hj:j<i
 ·rw[af hj,af hj];exact⟨_,rfl⟩
 ·rw[ae hj,ae hj];exact⟨_,rfl⟩
end
end L2
namespace L2
open PySem PySem.Spec PyProof.Rows
structure nz(h:Heap)(x dx C:Addr)(mA:Str->Option Value):Prop where
 obj:h.get? x=some (PySem.W.instObj C dx)
 ns:h.Ns1 dx mA
 ne:dx≠x
theorem KL{h:Heap}{dx:Addr}{mA:Str->Option Value}(n:h.Ns1 dx mA):∃od,h.get? dx=some od/\∀name,PySem.W.lookIn name od=some (mA name):=by
 obtain⟨o,es,ep,ho,hd,hk,_,hm⟩:=n
 refine⟨o,ho,fun name=>?_⟩
 have e:=hm name
 unfold nsFind findBy at e
 rw[<-Array.find?_toList]at e
 unfold PySem.W.lookIn
 rw[hd]
 dsimp only
 split
 ·rename_i y q
  rw[q]at e
  exact bQ some e
 ·rename_i q
  rw[q]at e
  have a:es.toList.any (·.refKey)=false:=by
   rw[List.any_eq_false]
   intro y hy
   obtain⟨z,t,hkey⟩:=hk y (Array.mem_toList_iff.mp hy)
   simp[DictEntry.refKey,hkey]
  have a':¬es.toList.any (·.refKey)=true:=by rw[a];exact fz
  rw[ae a']
  exact bQ some e
theorem nz.look{h:Heap}{x dx C:Addr}{mA:Str->Option Value}(I:nz h x dx C mA):∃od,PySem.W.InstAt h x (PySem.W.instObj C dx) C (some od)/\∀name,PySem.W.lookIn name od=some (mA name):=
 let ⟨od,ho,hl⟩:=KL I.ns
 ⟨od,⟨I.obj,rfl,rfl,ho⟩,hl⟩
section
variable{prog:Program}{w:World}{A:Around}{E:Value->Shared->Prop}{s:Shared}{K:PySem.W.Frag}{x dx C f:Addr}{mA:Str->Option Value}{name:Str}{v:Value}
theorem get_map{expr:Bool}{Q:Value->Shared->Prop}(X:K.In s.heap)(I:nz s.heap x dx C mA)(hg:PySem.W.plainGet K C name=true)(hh:PySem.W.hasDictIn K C=true)
  (ha:PySem.W.findIn K (.ref C) name=some none)(hv:mA name=some v)(hv':PySem.W.handedIn v=true)(h:Q v {s with toks:=s.toks+1}):
  wpAny (model prog w) A (getAttr (.ref x) name expr) Q E s:=by
 obtain⟨od,J,hl⟩:=I.look
 exact PySem.W.get_value X J (PySem.W.plainGet_of hg).1 (PySem.W.findObj_own hh ha rfl (by rw[hl,hv])) hv' h
theorem KN{pl:Sem Bool}{Q:Value×List Value->Shared->Prop}(X:K.In s.heap)(I:nz s.heap x dx C mA)(hg:PySem.W.plainGet K C name=true)
  (hf:PySem.W.findIn K (.ref C) name=some (some (.ref f)))(ht:PySem.W.isFn K (.ref f)=true)(hv:mA name=none)(h:Q (.ref f,[.ref x]) s):
  wpAny (model prog w) A (getMethod (.ref x) name pl) Q E s:=by
 obtain⟨od,J,hl⟩:=I.look
 exact PySem.W.method_fn X J (PySem.W.plainGet_of hg).1 (PySem.W.plainGet_of hg).2 hf (beq_iff_eq.mp ht) (by show (PySem.W.lookIn name od).map (·.isSome)=some false;rw[hl,hv];rfl) h
theorem KO{ns:List Str}{Q:Unit->Shared->Prop}(X:K.In s.heap)(I:nz s.heap x dx C mA)
  (hs:PySem.W.findIn K (.ref C) "__setattr__"=some (some (.builtin "object.__setattr__")))(hp:PySem.W.plainOver K C=true)(ht:PySem.W.takerIn K C name=some none)(hh:PySem.W.hasDictIn K C=true)
  (hw:PySem.Within mA ns)(hsz:ns.length<=sizeLine)
  (h:∀h',nz h' x dx C (fun y=>if y=name then some v else mA y)->Heap.SameBut dx s.heap h'->Q () {s with heap:=h',toks:=s.toks+2}):
  wpAny (model prog w) A (setAttr (.ref x) name v) Q E s:=by
 obtain⟨od,J,hl⟩:=I.look
 refine PySem.W.set_plain X J hs (PySem.W.osa_open (s:={s with toks:=s.toks+1}) (r:=none) X J hp ht fun b=>?_)
 obtain⟨cd,hc,hd'⟩:=PySem.W.any_some hh
 have hx:s.heap.get? x=some ⟨.ref C,some dx,.plain,#[]⟩:=I.obj
 refine wpAny_bind (wpAny_pure (wpAny_bind (wpAny_bind (wpAny_loadPart hx (wpAny_bind (PySem.W.Looks.here (s:={s with toks:=s.toks+1}) (PySem.W.looks_clsIn X hc) ?_))))))
 rw[hd']
 refine wpAny_pure (a:=some dx) (wpAny_bind (wpAny_pure (wpAny_bind ?_)))
 refine wpAny_nsSet1 (s:={s with toks:=s.toks+1}) I.ns fun h' hn2 hs2=>?_
 obtain⟨oD,esD,epD,hoD,hdD,hcD⟩:=hn2.count (PySem.Within.cons name v hw)
 refine wpAny_bind (wpAny_lookBehind hoD (by rw[hdD];exact pastItsLine_dict (cC hcD (by rw[bO];lia))) ?_)
 exact wpAny_pure (h _ ⟨(hs2.2 _ (Ne.symm I.ne)).trans I.obj,hn2,I.ne⟩ hs2)
theorem KP{R:Result->Shared->Prop}{vs:List Value}{kw:List (Str×Value)}(X:K.In s.heap)(hm:PySem.W.makesIn K C=true)
  (hi:PySem.W.findIn K (.ref C) "__init__"=some (some (.ref f)))(hf:PySem.W.typeIn K (.ref f)=some (.type "function"))
  (h:codeAny (model prog w) (A.under (.builtin "type.__call__" ⟨.ref C::vs,kw⟩)) (.call (.ref f) ⟨.ref (s.heap.objs.size+1)::vs,kw⟩) (PySem.W.InitBack (s.heap.objs.size+1) R)
   {s with heap:=(s.heap.push PySem.W.emptyDict).push (PySem.W.instObj C s.heap.objs.size)}):
  codeAny (model prog w) A (.call (.ref C) ⟨vs,kw⟩) R s:=by
 obtain⟨hh,g,d,t,os⟩:=s
 exact PySem.W.make_core (PySem.W.makes_of X hm) (PySem.W.looks_findIn X hi) (fun self=>PySem.W.bind_fn X self hf) (.inl rfl) h
end
noncomputable def ck(f:Str)(v:V):List (Str×V)->List (Str×V)
 |[]=>[(f,v)]
 |(g,x)::r=>if g=f then (g,v)::r else (g,x)::ck f v r
theorem cR(f g:Str)(v:V):∀fs:List (Str×V),(ck f v fs).lookup g=if g=f then some v else fs.lookup g
 |[]=>by
  show List.lookup g [(f,v)]=_
  by_cases h:g=f
  ·have hb:(g == f)=true:=beq_iff_eq.mpr h
   simp only [List.lookup,hb,af h]
  ·have hb:(g == f)=false:=qP.mpr h
   simp only [List.lookup,hb,ae h]
 |(k,x)::r=>by
  have ih:=cR f g v r
  rw[show ck f v ((k,x)::r)=(if k=f then (k,v)::r else (k,x)::ck f v r) from rfl]
  by_cases hk:k=f
  ·rw[af hk]
   by_cases h:g=k
   ·have hb:(g == k)=true:=beq_iff_eq.mpr h
    simp only [List.lookup,hb,af (h.trans hk)]
   ·have hb:(g == k)=false:=qP.mpr h
    simp only [List.lookup,hb,ae (fun e:g=f=>h (e.trans hk.symm))]
  ·rw[ae hk]
   by_cases h:g=k
   ·have hb:(g == k)=true:=beq_iff_eq.mpr h
    simp only [List.lookup,hb,ae (fun e:g=f=>hk (h.symm.trans e))]
   ·have hb:(g == k)=false:=qP.mpr h
    simp only [List.lookup,hb]
    exact ih
theorem xN(f:Str)(v:V):∀fs:List (Str×V),f∈(ck f v fs).map (·.1)/\∀g,g∈fs.map (·.1)->g∈(ck f v fs).map (·.1)
 |[]=>⟨by simp[ck],fun g h=>by simp at h⟩
 |(k,x)::r=>by
  obtain⟨i1,i2⟩:=xN f v r
  rw[show ck f v ((k,x)::r)=(if k=f then (k,v)::r else (k,x)::ck f v r) from rfl]
  by_cases hk:k=f
  ·rw[af hk]
   subst hk
   exact⟨by simp,fun g h=>by simpa using h⟩
  ·rw[ae hk]
   refine⟨?_,fun g h=>?_⟩
   ·rw[dJ]
    exact bI _ i1
   ·rw[dJ]at h ⊢
    rcases bY.mp h with e|e
    ·exact bY.mpr (.inl e)
    ·exact bI _ (i2 g e)
theorem Dy(f:Str)(v:V):∀fs:List (Str×V),(ck f v fs).length<=fs.length+1
 |[]=>by simp[ck]
 |(k,x)::r=>by
  have ih:=Dy f v r
  rw[show ck f v ((k,x)::r)=(if k=f then (k,v)::r else (k,x)::ck f v r) from rfl]
  by_cases hk:k=f
  ·rw[af hk,bO,bO];lia
  ·rw[ae hk,bO,bO];lia
theorem i9.some_of{v:V}{o:Option Value}(r:i9 (some v) o):∃u,o=some u/\RelV v u:=by
 cases o with
 |none=>exact(show False from r).elim
 |some u=>exact⟨u,rfl,r⟩
theorem i9.none_of{o:Option Value}(r:i9 none o):o=none:=by
 cases o with
 |none=>rfl
 |some u=>exact(show False from r).elim
theorem KQ{v:V}{u:Value}(r:RelV v u):PySem.W.handedIn u=true:=by
 cases v with
 |aW=>cases (show u=Value.none from r);rfl
 |bl b=>cases (show u=Value.bool b from r);rfl
 |int i=>obtain⟨t,e⟩:=(show ∃t,u=Value.int i t from r);cases e;rfl
 |str x=>obtain⟨t,e⟩:=(show ∃t,u=Value.str x t from r);cases e;rfl
 |gB b=>obtain⟨t,e⟩:=(show ∃t,u=Value.bytes b t from r);cases e;rfl
 |uB b=>obtain⟨t,e⟩:=(show ∃t,u=Value.float b t from r);cases e;rfl
 |ref a=>cases (show u=Value.ref a from r);rfl
 |ty n=>cases (show u=Value.type n from r);rfl
section
variable{P:Program}{w:World}{H H':Hp}{h h':Heap}{a C dx:Addr}{fs fs':List (Str×V)}
theorem xO(aP:cV P w H h)(e:H a=some (.ins C dx fs)):∃mA,nz h a dx C mA/\(∀f,i9 (fs.lookup f) (mA f))/\PySem.Within mA (fs.map (·.1))/\fs.length<=1000/\H dx=some (.own a):=by
 obtain⟨d,z,ne,ob,mA,n,r,q⟩:=(show eM P w H h a (.ins C dx fs) from aP a _ e)
 exact⟨mA,⟨ob,n,ne⟩,r,q,z,d⟩
end
structure f9(K:PySem.W.Frag)(C:Addr):Prop where
 pg:PySem.W.plainGet K C Str.empty=true
 hd:PySem.W.hasDictIn K C=true
 po:PySem.W.plainOver K C=true
 sa:PySem.W.findIn K (.ref C) "__setattr__"=some (some (.builtin "object.__setattr__"))
theorem f9.get{K:PySem.W.Frag}{C:Addr}(c:f9 K C)(f:Str):PySem.W.plainGet K C f=true:=c.pg
noncomputable def eZ(K:PySem.W.Frag)(C:Addr)(f:Str):Prop:=PySem.W.findIn K (.ref C) f=some none
theorem eZ.KR{K:PySem.W.Frag}{C:Addr}{f:Str}(n:eZ K C f):PySem.W.takerIn K C f=some none:=by
 unfold PySem.W.takerIn
 rw[show PySem.W.findIn K (.ref C) f=some none from n]
 rfl
structure rN(K:PySem.W.Frag)(C:Addr)(m:Str)(f:Addr):Prop where
 at_:PySem.W.findIn K (.ref C) m=some (some (.ref f))
 fn:PySem.W.isFn K (.ref f)=true
 kp:PySem.W.keepIn K (.ref f)=true
section
variable{X:Cx}{pins:List (Addr×Obj)}{σ:St}{H:Hp}{s:Shared}{a C dx:Addr}{fs:List (Str×V)}{f:Str}{v:V}{A:Around}{E:Value->Shared->Prop}
theorem KS{b:Bool}{Q:Value->Shared->Prop}(I:Inv X pins σ H s)(e:H a=some (.ins C dx fs))(c:f9 X.K C)(n:eZ X.K C f)(l:fs.lookup f=some v)
  (h:∀u s',Inv X pins σ H s'->RelV v u->Q u s'):wpAny (model X.prog X.w) A (getAttr (.ref a) f b) Q E s:=by
 obtain⟨mA,O,r,_,_,_⟩:=xO I.aP e
 obtain⟨u,hu,ru⟩:=i9.some_of (v:=v) (o:=mA f) (by rw[<-l];exact r f)
 exact get_map I.fZ O (c.get f) c.hd n hu (KQ ru) (h u _ (I.tok _) ru)
theorem Dz{m:Str}{g:Addr}{pl:Sem Bool}{Q:Value×List Value->Shared->Prop}(I:Inv X pins σ H s)(e:H a=some (.ins C dx fs))(c:f9 X.K C)(k:rN X.K C m g)(l:fs.lookup m=none)
  (h:Q (.ref g,[.ref a]) s):wpAny (model X.prog X.w) A (getMethod (.ref a) m pl) Q E s:=by
 obtain⟨mA,O,r,_,_,_⟩:=xO I.aP e
 have hn:mA m=none:=i9.none_of (by rw[<-l];exact r m)
 exact KN I.fZ O (c.get m) k.at_ k.fn hn h
theorem KU{y:V}{u:Value}{Q:Unit->Shared->Prop}(I:Inv X pins σ H s)(e:H a=some (.ins C dx fs))(c:f9 X.K C)(n:eZ X.K C f)(hl:fs.length<1000)(ry:RelV y u)
  (h:∀s',Inv X pins σ (upd H a (.ins C dx (ck f y fs))) s'->Q () s'):wpAny (model X.prog X.w) A (setAttr (.ref a) f u) Q E s:=by
 obtain⟨mA,O,r,wi,_,ho⟩:=xO I.aP e
 have hz:(fs.map (·.1)).length<=sizeLine:=by rw[aE,sizeLine_eq];lia
 refine KO I.fZ O c.sa c.po n.KR c.hd wi hz fun h' O' sb=>h _ ?_
 have hd:∃o,h'.get? dx=some o:=let ⟨o,_,_,e',_⟩:=O'.ns;⟨o,e'⟩
 refine I.write (x:=a) (e:=dx) (by rw[e];exact True.intro) (.inr ho) (fun b q hb z=>(sb.2 b hb).trans z) hd ?_
 refine⟨by rw[ax O.ne];exact ho,?_,O.ne,O'.obj,_,O'.ns,fun g=>?_,fun g hg=>?_⟩
 ·have:=Dy f y fs;lia
 ·show i9 ((ck f y fs).lookup g) (if g=f then some u else mA g)
  rw[cR]
  by_cases q:g=f
  ·rw[af q,af q];exact ry
  ·rw[ae q,ae q];exact r g
 ·by_cases q:g=f
  ·rw[q];exact(xN f y fs).1
  ·refine(xN f y fs).2 g (wi g fun z=>hg ?_)
   show (if g=f then some u else mA g)=none
   rw[ae q];exact z
theorem Inv.made(I:Inv X pins σ H s):Inv X pins σ (upd (upd H s.heap.objs.size (.own (s.heap.objs.size+1))) (s.heap.objs.size+1) (.ins C s.heap.objs.size []))
  {s with heap:=(s.heap.push PySem.W.emptyDict).push (PySem.W.instObj C s.heap.objs.size)}:=by
 have e1:(s.heap.push PySem.W.emptyDict).get? s.heap.objs.size=some PySem.W.emptyDict:=Heap.get?_push_size s.heap rfl
 have e2:((s.heap.push PySem.W.emptyDict).push (PySem.W.instObj C s.heap.objs.size)).get? (s.heap.objs.size+1)=some (PySem.W.instObj C s.heap.objs.size):=by
  have:=Heap.get?_push_size (s.heap.push PySem.W.emptyDict) (o:=PySem.W.instObj C s.heap.objs.size) rfl
  rwa[Heap.size_push]at this
 have e3:(s.heap.push PySem.W.emptyDict).Ns s.heap.objs.size (fun _=>none):=⟨PySem.W.emptyDict,#[],_,e1,rfl,(fun e he=>absurd he (by simp)),fun _=>rfl⟩
 have I1:=I.laid (a:=s.heap.objs.size) (o:=.own (s.heap.objs.size+1)) (h':=s.heap.push PySem.W.emptyDict) (t':=s.toks) (fun b u q=>Heap.get?_push_of_some _ q) (aX _) ⟨_,e1⟩
 refine I1.laid (a:=s.heap.objs.size+1) (o:=.ins C s.heap.objs.size []) (t':=s.toks) (fun b u q=>Heap.get?_push_of_some _ q) (Nat.le_of_eq (Heap.size_push _ _)) ?_
 have ne:s.heap.objs.size≠s.heap.objs.size+1:=gJ (Nat.lt_succ_self _)
 refine⟨by rw[ax ne,au],be _,ne,e2,fun _=>none,(Heap.Ns1.of_empty e3).at fun o q=>Heap.get?_push_of_some _ q,fun _=>True.intro,fun y hy=>absurd rfl hy⟩
theorem KW{prog:Program}{w:World}{env:Env}{e:Expr}{f:Str}{pos:Pos}{s:Shared}{Q:Value->Shared->Prop}(hb:attributeBase e f env (eval e env)=eval e env)
  (h:wpAny (model prog w) A (eval e env) (fun o s₁=>wpAny (model prog w) A (getAttr o f true) Q E s₁) E s):wpAny (model prog w) A (eval (.Attribute e f pos) env) Q E s:=
 Attribute_any_ h (by rw[arm_eval_Attribute,hb])
end
noncomputable def jh(K:PySem.W.Frag)(ta:TE)(f:Str):TE:=fun σ H Q=>ta σ H fun x H1=>∃a C dx fs v,x=.ref a/\H1 a=some (.ins C dx fs)/\f9 K C/\eZ K C f/\fs.lookup f=some v/\Q v H1
noncomputable def KY(K:PySem.W.Frag)(ta tv:TE)(f:Str):TS:=fun D σ H=>tv σ H fun y H1=>ta σ H1 fun x H2=>∃a C dx fs,x=.ref a/\H2 a=some (.ins C dx fs)/\f9 K C/\eZ K C f/\fs.length<1000/\
 D.nx σ (upd H2 a (.ins C dx (ck f y fs)))
section
variable{X:Cx}{o e value:Expr}{f:Str}{pos pos' tpos:Pos}{ta tv:TE}
theorem DA(he:PE X e ta)(hb:attributeBase e f X.env (eval e X.env)=eval e X.env):PE X (.Attribute e f pos) (jh X.K ta f):=by
 intro pins s σ H Q I h
 refine KW hb (aU (he pins s σ H _ I h) fun u s1 ⟨x,H1,I1,rx,a,C,dx,fs,v,ex,ea,c,n,l,q⟩=>?_)
 subst ex
 obtain rfl:u=Value.ref a:=rx
 exact KS I1 ea c n l fun u' s2 I2 ru=>⟨v,H1,I2,ru,q⟩
theorem gZ(ha:PE X o ta)(hv:PE X value tv)(hs:swapsWith value (some (.Attribute o f pos')) pos.line X.env=pure false):PS X (.Assign [.Attribute o f pos'] value pos) (KY X.K ta tv f):=by
 intro pins s σ H D I h
 refine plainObj_wpAny_Assign_Attribute (aU (hv pins s σ H _ I h) fun u s1 ⟨y,H1,I1,ry,q⟩=>aU (ha pins s1 σ H1 _ I1 q) fun ov s2 ⟨x,H2,I2,rx,a,C,dx,fs,ex,ea,c,n,l,q2⟩=>?_) hs
 subst ex
 obtain rfl:ov=Value.ref a:=rx
 exact KU I2 ea c n l ry fun s3 I3=>⟨σ,_,I3,q2⟩
end
end L2
namespace L2
open PySem PySem.Spec PyProof.Rows
structure cB(k:Nat)(A:Around):Prop where
 hd:A.handled=none
 dp:A.depth+3 * k+5<recursionLimit
 un:A.units+16 * k+200<cLine
theorem cB.mono{j k:Nat}{A:Around}(r:cB k A)(h:j<=k):cB j A:=⟨r.hd,by have:=r.dp;lia,by have:=r.un;lia⟩
theorem cB.deeper{k:Nat}{A:Around}(r:cB (k+1) A)(env:Env):cB k (A.deeper env):=
 ⟨r.hd,by have:=r.dp;show A.depth+1+3 * k+5<_;lia,by have:=r.un;show A.units+3+16 * k+200<_;lia⟩
theorem KZ{A:Around}{C:Addr}{us:List Value}{kw:List (Str×Value)}:(A.under (.builtin "type.__call__" ⟨.ref C::us,kw⟩)).depth=A.depth+1:=by
 first|rfl|simp[Around.under,Code.weight,Code.isCreation,Code.isGuard,Code.isCaller,Code.frames,Code.isFrame,guardIds]
theorem K0{A:Around}{C:Addr}{us:List Value}{kw:List (Str×Value)}:(A.under (.builtin "type.__call__" ⟨.ref C::us,kw⟩)).units=A.units+1:=by
 first|rfl|simp[Around.under,Code.cUnits,Code.frames,Code.isFrame]
theorem cB.make{k:Nat}{A:Around}(r:cB (k+1) A)(C:Addr)(us:List Value)(kw:List (Str×Value)):cB k (A.under (.builtin "type.__call__" ⟨.ref C::us,kw⟩)):=
 ⟨r.hd,by have:=r.dp;rw[KZ];lia,by have:=r.un;rw[K0];lia⟩
theorem cB.depth{k:Nat}{A:Around}(r:cB k A):A.depth<recursionLimit:=by have:=r.dp;lia
theorem cB.units{k:Nat}{A:Around}(r:cB k A):A.units+64<cLine:=by have:=r.un;lia
noncomputable def cq:TA:=fun _ H Q=>Q [] H
noncomputable def bS(ta:TE)(tr:TA):TA:=fun σ H Q=>ta σ H fun x H1=>tr σ H1 fun xs H2=>Q (x::xs) H2
section
variable{X:Cx}{e:Expr}{es:List Expr}{te:TE}{t:TA}{pos:Pos}
theorem gN:PA X [] cq:=fun _ _ _ _ H Q I h=>Calls.spliced_nil ⟨[],H,I,.nil,h⟩
theorem jP(ha:PE X e te)(hr:PA X es t)(hs:starEach (e::es) X.env=(false,eval e X.env)::starEach es X.env:=by rfl):PA X (e::es) (bS te t):=by
 intro pos pins s σ H Q I h
 rw[hs]
 show wpAny _ _ (spliced ((false,eval e X.env)::backTo pos (starEach es X.env))) _ _ s
 refine Calls.spliced_cons (aU (ha pins s σ H _ I h) fun u s1 ⟨x,H1,I1,r1,q1⟩=>?_)
 exact aU (hr pos pins s1 σ H1 _ I1 q1) fun us s2 ⟨xs,H2,I2,r2,q2⟩=>⟨x::xs,H2,I2,.cons r1 r2,q2⟩
noncomputable def ji(t:TA):TE:=fun σ H Q=>t σ H fun xs H1=>xs.length<=sizeLine/\∀p,H1 p=none->Q (.ref p) (upd H1 p (.lst xs))
theorem aY(h:PA X es t):PE X (.List es pos) (ji t):=by
 intro pins s σ H Q I hq
 refine wpAny_List_spliced (aU (h pos pins s σ H _ I hq) fun us s1 ⟨xs,H1,I1,r,z,q⟩=>⟨by rw[<-r.length];exact z,?_⟩)
 have hf:H1 s1.heap.objs.size=none:=I1.aP.fresh (aX _)
 refine⟨.ref s1.heap.objs.size,upd H1 s1.heap.objs.size (.lst xs),I1.laid (t':=s1.toks) (fun b u e=>Heap.get?_push_of_some _ e) (aX _) ?_,rfl,q _ hf⟩
 exact⟨z,us,0,r,Heap.get?_push_size _ rfl⟩
end
abbrev Sp:=List V->Hp->VK->XK->Prop
abbrev jQ:=List Env->Hp->Shared->XK->Value->Shared->Prop
structure nE(P:Program)(w:World)(K:PySem.W.Frag)(mg:Str->Option Value)(base:Heap)(A:Around)(outer:List Env)(s:Shared)(H:Hp):Prop where
 frames:A.frames=some outer
 mod:Mod K mg base
 bs:∀b o,base.get? b=some o->s.heap.get? b=some o/\H b=none
 lu:base.objs.size<=s.heap.objs.size
 i_:s.heap.FunFrames base outer
 nq:∀b∈jK outer,H b=none
 aP:cV P w H s.heap
 bare:AllBare s.gens
noncomputable def CE(outer:List Env)(P:Program)(w:World)(H:Hp)(s:Shared)(Q:VK)(u:Value)(s':Shared):Prop:=
 ∃v H',s'.os=s.os/\AllBare s'.gens/\Un (jK outer) [] H H' s.heap s'.heap/\cV P w H' s'.heap/\RelV v u/\Q v H'
noncomputable def CR(CX:jQ)(outer:List Env)(P:Program)(w:World)(H:Hp)(s:Shared)(Q:VK)(E:XK)(r:Result)(s':Shared):Prop:=
 match r with
 |.ok (.ret u)=>CE outer P w H s Q u s'
 |.ok _=>False
 |.error e=>CX outer H s E e s'
structure eu(P:Program)(w:World)(K:PySem.W.Frag)(mg:Str->Option Value)(base:Heap)(CX:jQ)(k:Nat)(f:Addr)(fd:FuncData)(ps:List Str)(sp:Sp):Prop where
 len:∀vs H Q E,sp vs H Q E->vs.length=ps.length
 run:∀(A:Around) (outer:List Env) (s:Shared) (H:Hp) (args:Args) (us:List Value) (vs:List V) (Q:VK) (E:XK),cB k A->nE P w K mg base A outer s H->BindsTo s fd args (ps.zip us)->aK vs us->sp vs H Q E->
  codeAny (model P w) A (.call (.ref f) args) (CR CX outer P w H s Q E) s
theorem nE.make{P:Program}{w:World}{K:PySem.W.Frag}{mg:Str->Option Value}{base:Heap}{A:Around}{outer:List Env}{s:Shared}{H:Hp}(e:nE P w K mg base A outer s H)(C:Addr)(us:List Value)(kw:List (Str×Value)):
  nE P w K mg base (A.under (.builtin "type.__call__" ⟨.ref C::us,kw⟩)) outer s H:=⟨by first|exact e.frames|(simpa [Around.under,Code.envs,Code.isFrame,pushEnvs] using e.frames),e.mod,e.bs,e.lu,e.i_,e.nq,e.aP,e.bare⟩
section
variable{X:Cx}{pins:List (Addr×Obj)}{σ:St}{H:Hp}{s s':Shared}
theorem Inv.DB(I:Inv X pins σ H s):nE X.prog X.w X.K X.mg X.base X.A X.stack s H:=
 ⟨I.ok.frames,I.ok.mod,I.bs,cC I.ok.lu I.sz,I.stack,I.CV,I.aP,I.bare⟩
theorem Inv.after{Q:VK}{u:Value}(I:Inv X pins σ H s)(h:CE X.stack X.prog X.w H s Q u s'):EP X pins σ Q u s':=by
 obtain⟨v,H',os,bare,un,aP,r,q⟩:=h
 obtain⟨hh,g,d,t,os'⟩:=s'
 obtain rfl:os'=s.os:=os
 exact⟨v,H',I.call (h':=hh) (g':=g) (d':=d) (t':=t) (ch:=[]) un aP bare (fun b z=>absurd z (by simp)),r,q⟩
end
noncomputable def pL(sp:Sp)(dvs:List V)(E:XK)(t:TA):TE:=fun σ H Q=>t σ H fun vs H1=>sp (vs++dvs) H1 Q E
noncomputable def jR(C:Addr)(m:Str)(sp:Sp)(dvs:List V)(E:XK)(ta:TE)(t:TA):TE:=fun σ H Q=>ta σ H fun x H1=>∃a dx fs,x=.ref a/\H1 a=some (.ins C dx fs)/\fs.lookup m=none/\
 t σ H1 fun vs H2=>sp (x::(vs++dvs)) H2 Q E
noncomputable def uO(C:Addr)(sp:Sp)(dvs:List V)(E:XK)(t:TA):TE:=fun σ H Q=>t σ H fun vs H1=>∀x dx,H1 x=none->H1 dx=none->dx≠x->
 sp (.ref x::(vs++dvs)) (upd (upd H1 dx (.own x)) x (.ins C dx [])) (fun v H2=>v=.aW/\Q (.ref x) H2) E
noncomputable def Binds(K:PySem.W.Frag)(fd:FuncData)(ps:List Str)(ds:List Value):Prop:=
 ∀(s:Shared) (us:List Value),K.In s.heap->(us++ds).length=ps.length->BindsTo s fd ⟨us,[]⟩ (ps.zip (us++ds))
theorem Binds.all{K:PySem.W.Frag}{fd:FuncData}{ps:List Str}(h:∀us:List Value,us.length=ps.length->bindArgs fd ⟨us,[]⟩=pure (ps.zip us)):Binds K fd ps []:=fun s us _ hl=>by
 rw[fB]at hl ⊢
 exact .of_eq (h us hl)
noncomputable def lH(CX:jQ)(X:Cx)(E:XK):Prop:=∀(pins:List (Addr×Obj)) (σ:St) (H:Hp) (s:Shared) (e:Value) (s':Shared),Inv X pins σ H s->CX X.stack H s E e s'->X.xe e s'
section
variable{X:Cx}{CX:jQ}{k:Nat}{f C:Addr}{fd:FuncData}{ps:List Str}{sp:Sp}{dvs:List V}{ds:List Value}{E:XK}{x m:Str}{p pos apos:Pos}{e o:Expr}{es:List Expr}{ta:TE}{t:TA}
theorem uP{pins:List (Addr×Obj)}{σ:St}{H:Hp}{s:Shared}{Q:VK}{us:List Value}{vs:List V}(F:eu X.prog X.w X.K X.mg X.base CX k f fd ps sp)(hr:cB k X.A)(hb:Binds X.K fd ps ds)(hd:aK dvs ds)(hx:lH CX X E)
  (I:Inv X pins σ H s)(r:aK vs us)(h:sp (vs++dvs) H Q E):wpAny (model X.prog X.w) X.A (call (.ref f) us) (EP X pins σ Q) X.xe s:=by
 have r2:aK (vs++dvs) (us++ds):=r.append hd
 have hl:(us++ds).length=ps.length:=by rw[<-r2.length];exact F.len _ _ _ _ h
 refine wpAny_call (codeAny_mono (F.run X.A X.stack s H ⟨us,[]⟩ (us++ds) (vs++dvs) Q E hr I.DB (hb s us I.fZ hl) r2 h) fun r s' hq=>?_)
 cases r with
 |error e=>exact hx pins σ H s e s' I hq
 |ok fl=>
  cases fl with
  |ret u=>exact I.after hq
  |next=>exact False.elim hq
  |brk=>exact False.elim hq
  |cont=>exact False.elim hq
theorem K1(F:eu X.prog X.w X.K X.mg X.base CX k f fd ps sp)(hr:cB k X.A)(hg:Gl X x)(hm:X.mg x=some (.ref f))(hk:PySem.W.keepIn X.K (.ref f)=true)(hb:Binds X.K fd ps ds)(hd:aK dvs ds)(hx:lH CX X E)
  (ha:PA X (e::es) t)(hdb:(x == ("__debug__":Str))=false:=by decide)(he:starEach (e::es) X.env=(false,eval e X.env)::starEach es X.env:=by rfl)(hpl:(backTo pos (starEach es X.env)).any (·.1)=false:=by rfl):
  PE X (.Call (.Name x p) (e::es) [] pos) (pL sp dvs E t):=by
 intro pins s σ H Q I h
 refine wpAny_Call_Name_kw (rE I hg hm ?_ hdb)
 refine PySem.W.callWith_K (h₀:=X.base) I.ok.mod.pE hk (aU (ha pos pins s σ H _ I h) fun us s1 ⟨vs,H1,I1,r,q⟩=>⟨I1.fZ,?_⟩) he hpl
 exact uP F hr hb hd hx I1 r q
theorem K2{pl:Sem Bool}(he:PE X o ta)(c:f9 X.K C)(hm:rN X.K C m f)(F:eu X.prog X.w X.K X.mg X.base CX k f fd ps sp)(hr:cB k X.A)(hb:Binds X.K fd ps ds)(hd:aK dvs ds)(hx:lH CX X E)(ha:PA X (e::es) t)
  (hst:starEach (e::es) X.env=(false,eval e X.env)::starEach es X.env:=by rfl)(hpl:(backTo pos (starEach es X.env)).any (·.1)=false:=by rfl)
  (ht:eval (.Call (.Attribute o m apos) (e::es) [] pos) X.env=(do
   let ov <-eval o X.env
   standAt apos.atName
   let (f,first) <-holding [ov] (getMethod ov m pl)
   callWith pos f first (backTo pos (starEach (e::es) X.env)) (backToKw pos (keywordEach [] X.env))):=by rfl):
  PE X (.Call (.Attribute o m apos) (e::es) [] pos) (jR C m sp dvs E ta t):=by
 intro pins s σ H Q I h
 refine PySem.W.methodCall_KW (pl:=pl) (aU (he pins s σ H _ I h) fun u s1 ⟨x,H1,I1,rx,a,dx,fs,ex,ea,l,q⟩=>?_) ht
 subst ex
 obtain rfl:u=Value.ref a:=rx
 refine Dz I1 ea c hm l ?_
 refine PySem.W.callWith_K (first:=[.ref a]) (h₀:=X.base) I.ok.mod.pE hm.kp (aU (ha pos pins s1 σ H1 _ I1 q) fun us s2 ⟨vs,H2,I2,r,q2⟩=>⟨I2.fZ,?_⟩) hst hpl
 exact uP (us:=.ref a::us) (vs:=.ref a::vs) F hr hb hd hx I2 (.cons rfl r) q2
theorem K3{pl:Sem Bool}(he:PE X o ta)(c:f9 X.K C)(hm:rN X.K C m f)(F:eu X.prog X.w X.K X.mg X.base CX k f fd ps sp)(hr:cB k X.A)(hb:Binds X.K fd ps ds)(hd:aK dvs ds)(hx:lH CX X E)
  (ht:eval (.Call (.Attribute o m apos) [] [] pos) X.env=(do
   let ov <-eval o X.env
   standAt apos.atName
   let (f,first) <-holding [ov] (getMethod ov m pl)
   callWith pos f first (backTo pos (starEach [] X.env)) (backToKw pos (keywordEach [] X.env))):=by rfl):
  PE X (.Call (.Attribute o m apos) [] [] pos) (jR C m sp dvs E ta cq):=by
 intro pins s σ H Q I h
 refine PySem.W.methodCall_KW (pl:=pl) (aU (he pins s σ H _ I h) fun u s1 ⟨x,H1,I1,rx,a,dx,fs,ex,ea,l,q⟩=>?_) ht
 subst ex
 obtain rfl:u=Value.ref a:=rx
 refine Dz I1 ea c hm l ?_
 exact PySem.W.callWith_K0 (first:=[.ref a]) I1.fZ hm.kp (uP (us:=[.ref a]) (vs:=[.ref a]) F hr hb hd hx I1 (.cons rfl .nil) q)
structure Mk(K:PySem.W.Frag)(C f:Addr):Prop where
 makes:PySem.W.makesIn K C=true
 init:PySem.W.findIn K (.ref C) "__init__"=some (some (.ref f))
 fn:PySem.W.isFn K (.ref f)=true
 kp:PySem.W.keepIn K (.ref C)=true
theorem DC{pins:List (Addr×Obj)}{σ:St}{H:Hp}{s:Shared}{Q:VK}{us:List Value}{vs:List V}(M:Mk X.K C f)(F:eu X.prog X.w X.K X.mg X.base CX k f fd ps sp)(hr:cB (k+1) X.A)(hb:Binds X.K fd ps ds)(hd:aK dvs ds)
  (hx:lH CX X E)(I:Inv X pins σ H s)(r:aK vs us)
  (h:∀x dx,H x=none->H dx=none->dx≠x->sp (.ref x::(vs++dvs)) (upd (upd H dx (.own x)) x (.ins C dx [])) (fun v H2=>v=.aW/\Q (.ref x) H2) E):
  wpAny (model X.prog X.w) X.A (call (.ref C) us) (EP X pins σ Q) X.xe s:=by
 have hq:=h (s.heap.objs.size+1) s.heap.objs.size (I.aP.fresh (Nat.le_succ _)) (I.aP.fresh (aX _)) (gJ (Nat.lt_succ_self _))
 have I2:=Inv.made (C:=C) I
 have r2:aK (V.ref (s.heap.objs.size+1)::(vs++dvs)) (Value.ref (s.heap.objs.size+1)::(us++ds)):=.cons rfl (r.append hd)
 have hl:(Value.ref (s.heap.objs.size+1)::us++ds).length=ps.length:=by
  have e:=r2.length
  rw[F.len _ _ _ _ hq]at e
  exact e.symm
 refine wpAny_call (KP (f:=f) I.fZ M.makes M.init (beq_iff_eq.mp M.fn) (codeAny_mono (F.run _ X.stack _ _ ⟨Value.ref (s.heap.objs.size+1)::us,[]⟩ (Value.ref (s.heap.objs.size+1)::(us++ds)) _ _ E (hr.make C us [])
  (I2.DB.make C us []) (hb _ (Value.ref (s.heap.objs.size+1)::us) I2.fZ hl) r2 hq) fun r s' hq'=>?_))
 cases r with
 |error e=>exact hx pins σ _ _ e s' I2 hq'
 |ok fl=>
  cases fl with
  |ret u=>
   obtain⟨v,H',I3,rv,ev,q3⟩:=I2.after hq'
   subst ev
   exact⟨rv,⟨V.ref (s.heap.objs.size+1),H',I3,rfl,q3⟩⟩
  |next=>exact False.elim hq'
  |brk=>exact False.elim hq'
  |cont=>exact False.elim hq'
theorem K4(M:Mk X.K C f)(F:eu X.prog X.w X.K X.mg X.base CX k f fd ps sp)(hr:cB (k+1) X.A)(hg:Gl X x)(hm:X.mg x=some (.ref C))(hb:Binds X.K fd ps ds)(hd:aK dvs ds)(hx:lH CX X E)
  (ha:PA X (e::es) t)(hdb:(x == ("__debug__":Str))=false:=by decide)(he:starEach (e::es) X.env=(false,eval e X.env)::starEach es X.env:=by rfl)(hpl:(backTo pos (starEach es X.env)).any (·.1)=false:=by rfl):
  PE X (.Call (.Name x p) (e::es) [] pos) (uO C sp dvs E t):=by
 intro pins s σ H Q I h
 refine wpAny_Call_Name_kw (rE I hg hm ?_ hdb)
 refine PySem.W.callWith_K (h₀:=X.base) I.ok.mod.pE M.kp (aU (ha pos pins s σ H _ I h) fun us s1 ⟨vs,H1,I1,r,q⟩=>⟨I1.fZ,?_⟩) he hpl
 exact DC M F hr hb hd hx I1 r q
theorem K5(M:Mk X.K C f)(F:eu X.prog X.w X.K X.mg X.base CX k f fd ps sp)(hr:cB (k+1) X.A)(hg:Gl X x)(hm:X.mg x=some (.ref C))(hb:Binds X.K fd ps ds)(hd:aK dvs ds)(hx:lH CX X E)
  (hdb:(x == ("__debug__":Str))=false:=by decide):PE X (.Call (.Name x p) [] [] pos) (uO C sp dvs E cq):=by
 intro pins s σ H Q I h
 refine wpAny_Call_Name_kw (rE I hg hm ?_ hdb)
 exact PySem.W.callWith_K0 I.fZ M.kp (DC (us:=[]) M F hr hb hd hx I .nil h)
end
structure aH(N P:List Str)(sc:Scope):Prop where
 kind:sc.kind=.function
 co:sc.isCoroutine=false
 gen:sc.isGenerator=false
 nd:N.Nodup
 pre:N.take P.length=P
 par:∀x∈P,sc.names.lookup x=some .local\/sc.names.lookup x=some .cell
 K6:∀y∈sc.names,y.2≠.free
theorem DD{kindOf:Str->Option NameKind}{x:Str}:∀{binds:List (Str×Value)}{m:Str->Option Value},(∀v,(x,v)∉binds)->bindL kindOf binds m x=m x
 |[],_,_=>rfl
 |(n,v)::r,m,h=>by
  unfold bindL
  rw[DD fun w hw=>h w (bI _ hw)]
  split
  ·have:x≠n:=by rintro rfl;exact h v bE
   simp[this]
  ·rfl
theorem DE{kindOf:Str->Option NameKind}{x:Str}:∀{binds:List (Str×Value)}{m:Str->Option Value},(∀v,(x,v)∉binds)->bindC kindOf binds m x=m x
 |[],_,_=>rfl
 |(n,v)::r,m,h=>by
  unfold bindC
  rw[DE fun w hw=>h w (bI _ hw)]
  split
  ·rfl
  ·have:x≠n:=by rintro rfl;exact h v bE
   simp[this]
theorem DF{kindOf:Str->Option NameKind}{x:Str}{v:Value}:∀{P:List Str}{vs:List Value}{i:Nat}{m:Str->Option Value},P.Nodup->P[i]?=some x->vs[i]?=some v->kindOf x=some .local->
  bindL kindOf (P.zip vs) m x=some v
 |[],_,_,_,_,h,_,_=>by simp at h
 |_::_,[],_,_,_,_,h,_=>by simp at h
 |p::P,w::vs,0,m,nd,h1,h2,hk=>by
  simp at h1 h2;subst h1;subst h2
  show bindL kindOf ((p,w)::P.zip vs) m p=_
  unfold bindL
  rw[DD fun v hv=>(kZ.mp nd).1 (List.of_mem_zip hv).1,af hk]
  simp
 |p::P,w::vs,i+1,m,nd,h1,h2,hk=>by
  show bindL kindOf ((p,w)::P.zip vs) m x=_
  unfold bindL
  exact DF (i:=i) (kZ.mp nd).2 (by simpa using h1) (by simpa using h2) hk
theorem DG{kindOf:Str->Option NameKind}{x:Str}{v:Value}:∀{P:List Str}{vs:List Value}{i:Nat}{m:Str->Option Value},P.Nodup->P[i]?=some x->vs[i]?=some v->kindOf x≠some .local->
  bindC kindOf (P.zip vs) m x=some v
 |[],_,_,_,_,h,_,_=>by simp at h
 |_::_,[],_,_,_,_,h,_=>by simp at h
 |p::P,w::vs,0,m,nd,h1,h2,hk=>by
  simp at h1 h2;subst h1;subst h2
  show bindC kindOf ((p,w)::P.zip vs) m p=_
  unfold bindC
  rw[DE fun v hv=>(kZ.mp nd).1 (List.of_mem_zip hv).1,ae hk]
  simp
 |p::P,w::vs,i+1,m,nd,h1,h2,hk=>by
  show bindC kindOf ((p,w)::P.zip vs) m x=_
  unfold bindC
  exact DG (i:=i) (kZ.mp nd).2 (by simpa using h1) (by simpa using h2) hk
noncomputable def start(N:List Str)(vs:List V):St:=vs.map some++List.replicate (N.length - vs.length) none
noncomputable def pM(CX:jQ)(P:Program)(w:World)(K:PySem.W.Frag)(mg:Str->Option Value)(base:Heap)(N:List Str)(qual:Str)(scope:Scope)(f:Addr)(cd:Value)(A:Around)(outer:List Env)(s:Shared)(H:Hp)(E:XK):Cx where
 prog:=P
 w:=w
 K:=K
 mg:=mg
 base:=base
 A:=A.deeper (envOfC qual scope s.heap.objs.size f cd)
 N:=N
 eN:=s
 nk:=H
 env:=envOfC qual scope s.heap.objs.size f cd
 outer:=outer
 stack:=envOfC qual scope s.heap.objs.size f cd::outer
 ex:=[]
 calm:=true
 fn:=fun _=>true
 pn:=[]
 xe:=fun e s'=>wpAny (model P w) (A.deeper (envOfC qual scope s.heap.objs.size f cd)) (leaving (envOfC qual scope s.heap.objs.size f cd) e) (fun _ s''=>CX outer H s E e s'') (fun e' s''=>CX outer H s E e' s'') s'
theorem DH{sc:Scope}{n:Nat}{x:Str}(h:sc.names.lookup x=some .cell):∃c,(cellsFrom n sc.names []).lookup x=some c:=by
 have q:=PySem.W.cellsFrom_some sc.names n [] (.inl h)
 exact Option.isSome_iff_exists.mp q
theorem K7{CX:jQ}{P:Program}{w:World}{K:PySem.W.Frag}{mg:Str->Option Value}{base:Heap}{N ps:List Str}{qual:Str}{scope:Scope}{f:Addr}{cd:Value}{A:Around}{outer:List Env}{s s1:Shared}{H:Hp}{E:XK}{us:List Value}{vs:List V}
  (S:aH N ps scope)(hd:A.handled=none)(e0:nE P w K mg base A outer s H)(hl:vs.length=ps.length)(r:aK vs us)
  (x:InCallC s s.heap.objs.size (bindL (envOfC qual scope s.heap.objs.size f cd).kindOf (ps.zip us) fun _=>none) (cellsFrom (s.heap.objs.size+1) scope.names []) (bindC (envOfC qual scope s.heap.objs.size f cd).kindOf (ps.zip us) fun _=>none) s1):
  Inv (pM CX P w K mg base N qual scope f cd A outer s H E) [] (start N vs) H s1:=by
 have hpl:ps.length<=N.length:=by have:=bQ List.length S.pre;rw[c_]at this;lia
 obtain⟨h1,tk,rfl,hk⟩:=x.done
 have noA:∀b:Addr,b∉(pM CX P w K mg base N qual scope f cd A outer s H E).ex:=fun b z=>absurd (show b∈([]:List Addr) from z) (by simp)
 refine⟨⟨e0.mod,S.kind,rfl,rfl,aX _,fun y z c h1 h2=>?_,fun y hy=>?_,fun y c _ h=>?_,fun _=>hd,Around.frames_deeper e0.frames,.inr ⟨rfl,rfl⟩,fun b z=>absurd z (noA b),e0.bs,e0.lu,fun b _ _=>noA b,fun b z=>absurd z (noA b),e0.i_,e0.nq⟩,
  rfl,e0.bare,Un.kept hk,⟨_,x.toInCall.ns,fun i y v h1 h2 h3=>?_⟩,fun y c h=>⟨_,x.cell y c h⟩,e0.aP.fresh (aX _),fun y c h=>?_,fun p hp=>absurd (show p∈([]:List (Addr×Obj)) from hp) (by simp),e0.aP.kept hk,?_⟩
 ·exact name_of_addr x.apart (iE h1) (iE h2)
 ·have hy:scope.names.lookup y=some .cell\/scope.names.lookup y=some .free:=hy
  rcases hy with hy|hy
  ·exact DH hy
  ·exact absurd rfl (S.K6 _ (iE hy))
 ·exact Nat.le_of_lt (x.above y c (iE h))
 ·have hi:i<vs.length:=by
   unfold start at h2
   by_cases hi:i<vs.length
   ·exact hi
   ·rw[oZ (by simpa using hi)]at h2
    rw[List.getElem?_replicate]at h2
    split at h2<;>cases h2
  have ha:vs[i]?=some v:=by
   unfold start at h2
   rw[qQ (by simpa using hi),b_]at h2
   cases e:vs[i]? with
   |none=>rw[e]at h2;cases h2
   |some a=>rw[e]at h2;cases h2;rfl
  obtain⟨u,hu,rv⟩:=r.get ha
  have hp:ps[i]?=some y:=by
   rw[<-S.pre,List.getElem?_take_of_lt (by lia)];exact h1
  have ndP:ps.Nodup:=by rw[<-S.pre];exact S.nd.sublist (List.take_sublist _ _)
  refine⟨u,rv,?_⟩
  rcases S.par y (m_ hp) with k|k
  ·exact .inl ⟨k,DF ndP hp hu k⟩
  ·obtain⟨c,e⟩:=DH (n:=s.heap.objs.size+1) k
   refine .inr ⟨.inl k,c,e,?_⟩
   have q:=x.cell y c e
   rw[DG ndP hp hu (by show scope.names.lookup y≠_;rw[k];decide)]at q
   exact q
 ·exact e0.aP.fresh (Nat.le_of_lt (x.above y c (iE h)))
 ·unfold start
  show _=N.length
  rw[bF,aE,qR]
  lia
theorem K8{CX:jQ}{P:Program}{w:World}{K:PySem.W.Frag}{mg:Str->Option Value}{base:Heap}{k:Nat}{f:Addr}{name qual:Str}{params:Arguments}{body:List Stmt}{scope:Scope}{dV kV doc pm cdv ct oc:Value}{an od:Option Addr}
  {osl:Array (Option Value)}{N ps:List Str}{sp:Sp}(lk:K.lookup f=some ⟨oc,od,.func (PySem.W.fnOf name qual params body scope dV kV doc pm an cdv ct),osl⟩)(hcd:PySem.W.codeIn K cdv qual=true)(S:aH N ps scope)
  (len:∀vs H Q E,sp vs H Q E->vs.length=ps.length)
  (hbody:∀(A:Around) (outer:List Env) (s:Shared) (H:Hp) (vs:List V) (Q:VK) (E:XK),cB k (A.deeper (envOfC qual scope s.heap.objs.size f cdv))->sp vs H Q E->
   ∃t,iJ (pM CX P w K mg base N qual scope f cdv A outer s H E) body t/\t {nx:=fun _ H'=>Q .aW H',rt:=Q} (start N vs) H):
  eu P w K mg base CX (k+1) f (PySem.W.fnOf name qual params body scope dV kV doc pm an cdv ct) ps sp:=by
 refine⟨len,fun A outer s H args us vs Q E hr e0 hb r hsp=>?_⟩
 have hl:=len _ _ _ _ hsp
 have KX:K.In s.heap:=e0.mod.pE.keeps fun b o e=>(e0.bs b o e).1
 have lim:s.heap.NoLimit:=e0.mod.nolimit.keeps fun b o e=>(e0.bs b o e).1
 have hkind:∀y∈ps.zip us,scope.names.lookup y.1=some .local\/(scope.names.lookup y.1=some .cell/\((cellsFrom (s.heap.objs.size+1) scope.names []).lookup y.1).isSome=true):=fun ⟨n,v⟩ hy=>by
  rcases S.par n (List.of_mem_zip hy).1 with q|q
  ·exact .inl q
  ·exact .inr ⟨q,PySem.W.cellsFrom_some _ _ _ (.inl q)⟩
 refine codeAny_call_function hr.depth (KX _ _ lk) rfl S.co S.gen rfl (PySem.W.codeRec_of KX hcd) (hb _ _ _ _ ?_)
 refine wpAny_newFunctionEnv_cells S.kind hkind fun env he s1 x=>?_
 subst he
 refine⟨lim.keeps x.toInCall.keep,codeAny_func ?_⟩
 obtain⟨t,ht,hq⟩:=hbody A outer s H vs Q E (hr.deeper _) hsp
 have I:Inv (pM CX P w K mg base N qual scope f cdv A outer s H E) [] (start N vs) H s1:=K7 S hr.hd e0 hl r x
 refine wpAny_mono (ht [] s1 (start N vs) H _ I hq) (fun fl s' hs=>?_) fun e s' hs=>hs
 have fin:∀{σ':St}{H':Hp}{v:V}{u:Value},Inv (pM CX P w K mg base N qual scope f cdv A outer s H E) [] σ' H' s'->RelV v u->Q v H'->CE outer P w H s Q u s':=
  fun {σ' H' v u} J rv q=>⟨v,H',J.os,J.bare,J.base,J.aP,rv,q⟩
 cases fl with
 |ret u=>
  obtain⟨v,σ',H',J,rv,q⟩:=hs
  exact fin J rv q
 |next=>
  obtain⟨σ',H',J,q⟩:=hs
  exact fin (v:=V.aW) (u:=Value.none) J rfl q
 |brk=>
  obtain⟨_,_,_,q⟩:=hs
  exact False.elim q
 |cont=>
  obtain⟨_,_,_,q⟩:=hs
  exact False.elim q
end L2
namespace L2
open PySem PySem.Spec PyProof.Rows
section
variable{X:Cx}{x:Str}{p pos:Pos}{e:Expr}{es:List Expr}{t:TA}{id T:String}{r:List V->Hp->VK->Prop}
noncomputable def nH(r:List V->Hp->VK->Prop)(t:TA):TE:=fun σ H Q=>t σ H fun vs H1=>r vs H1 Q
theorem f_(hc:jf X (.builtin id) r)(hg:Gl X x)(hm:X.mg x=none)(hv:bootBuiltins x=some (.builtin id))(ha:PA X (e::es) t)(hn:x≠"__name__":=by decide)(hdb:(x == ("__debug__":Str))=false:=by decide)
  (he:starEach (e::es) X.env=(false,eval e X.env)::starEach es X.env:=by rfl)(hpl:(backTo pos (starEach es X.env)).any (·.1)=false:=by rfl):PE X (.Call (.Name x p) (e::es) [] pos) (nH r t):=by
 intro pins s σ H Q I h
 refine wpAny_Call_Name_kw (km I hg hm hv ?_ hn hdb)
 exact PyProof.Rows.callWith_builtin1 (aU (ha pos pins s σ H _ I h) fun us s1 ⟨vs,H1,I1,r1,q1⟩=>hc pins s1 σ H1 vs us Q I1 r1 q1) he hpl
theorem gO(hc:jf X (.type T) r)(hg:Gl X x)(hm:X.mg x=none)(hv:bootBuiltins x=some (.type T))(ha:PA X (e::es) t)(hn:x≠"__name__":=by decide)(hdb:(x == ("__debug__":Str))=false:=by decide)
  (he:starEach (e::es) X.env=(false,eval e X.env)::starEach es X.env:=by rfl)(hpl:(backTo pos (starEach es X.env)).any (·.1)=false:=by rfl):PE X (.Call (.Name x p) (e::es) [] pos) (nH r t):=by
 intro pins s σ H Q I h
 refine wpAny_Call_Name_kw (km I hg hm hv ?_ hn hdb)
 exact m9 (aU (ha pos pins s σ H _ I h) fun us s1 ⟨vs,H1,I1,r1,q1⟩=>hc pins s1 σ H1 vs us Q I1 r1 q1) he hpl
end
end L2
namespace HT
open PySem PyProof.Rows
theorem DI(A:Around)(s:Shared)(a:Int)(t:Tok)(c:Int)(u:Tok)(prog:Program)(w:World)(E:Value->Shared->Prop)(Q:Value->Shared->Prop)(h:Q (.bool (decide (a<c))) s):
  wpAny (model prog w) A (richCompare .Lt (.int a t) (.int c u)) Q E s:=
 (PyProof.Rows.lt_int h:wpAny (model prog w) A (compareOp .Lt (.int a t) (.int c u)) Q E s)
section
variable{prog:Program}{w:World}{A:Around}{E:Value->Shared->Prop}{s:Shared}
noncomputable def fK(n d:Nat):Option Int->Nat
 |none=>d
 |some v=>if v<0 then (v+(n:Int)).toNat else min v.toNat n
theorem xP(n d:Nat):fK n d none=d:=rfl
theorem uQ(n d k:Nat):fK n d (some (k:Int))=min k n:=by
 show (if (k:Int)<0 then ((k:Int)+(n:Int)).toNat else min (k:Int).toNat n)=min k n
 rw[ae (by lia),Int.toNat_natCast]
end
end HT
namespace L2
open PySem PySem.Spec PyProof.Rows
abbrev TO:=St->Hp->(Option Int->Hp->Prop)->Prop
noncomputable def PO(X:Cx)(e:Option Expr)(t:TO):Prop:=
 ∀(pins:List (Addr×Obj)) (s:Shared) (σ:St) (H:Hp) (Q:Option Int->Hp->Prop),Inv X pins σ H s->t σ H Q->
  wpAny (model X.prog X.w) X.A (evalPart e X.env) (fun u s'=>∃o H',Inv X pins σ H' s'/\IsPart u o/\Q o H') X.xe s
noncomputable def K9:TO:=fun _ H Q=>Q none H
noncomputable def K_(t:TE):TO:=fun σ H Q=>t σ H fun x H1=>∃i,x=.int i/\Q (some i) H1
section
variable{X:Cx}{e:Expr}{te:TE}{lo hi:Option Expr}{tl th:TO}{pos p2:Pos}
theorem lI:PO X none K9:=by
 intro pins s σ H Q I h
 rw[evalPart_none]
 exact wpAny_pure ⟨none,H,I,.none,h⟩
theorem iO(h:PE X e te):PO X (some e) (K_ te):=by
 intro pins s σ H Q I hw
 rw[evalPart_some]
 refine aU (h pins s σ H _ I hw) fun u s1 ⟨x,H1,I1,r1,q1⟩=>?_
 obtain⟨i,rfl,q⟩:=q1
 obtain⟨t,rfl⟩:=r1
 exact⟨some i,H1,I1,.int i t,q⟩
noncomputable def DJ(X:Cx)(r:V->Option Int->Option Int->Hp->VK->Prop):Prop:=
 ∀(pins:List (Addr×Obj)) (s:Shared) (σ:St) (H:Hp) (x:V) (v vl vu:Value) (lo hi:Option Int) (sl:Addr) (Q:VK),Inv X pins σ H s->RelV x v->s.heap.IsSliceOf sl vl vu .none->IsPart vl lo->IsPart vu hi->r x lo hi H Q->
  ∃T id,typeLookup (.type T) "__getitem__"=pure (some (.builtin id))/\s.TypeIs v T/\wpAny (model X.prog X.w) X.A (getItem v (.ref sl)) (EP X pins σ Q) X.xe s
noncomputable def Lc(r:V->Option Int->Option Int->Hp->VK->Prop)(te:TE)(tl th:TO):TE:=fun σ H Q=>te σ H fun x H1=>tl σ H1 fun l H2=>th σ H2 fun u H3=>r x l u H3 Q
theorem jS{r:V->Option Int->Option Int->Hp->VK->Prop}(hr:DJ X r)(he:PE X e te)(hl:PO X lo tl)(hu:PO X hi th):PE X (.Subscript e (.Slice lo hi none p2) pos) (Lc r te tl th):=by
 intro pins s σ H Q I h
 refine Subscript_ (aU (he pins s σ H _ I h) fun v s1 ⟨x,H1,I1,r1,q1⟩=>?_)
 refine wpAny_Slice (aU (hl pins s1 σ H1 _ I1 q1) fun vl s2 ⟨l,H2,I2,pl,q2⟩=>aU (hu pins s2 σ H2 _ I2 q2) fun vu s3 ⟨u,H3,I3,pu,q3⟩=>?_)
 rw[evalPart_none]
 refine wpAny_pure ?_
 have I4:Inv X pins σ H3 {s3 with heap:=s3.heap.push {cls:=.type "slice",data:=.fields #[vl,vu,.none]}}:=I3.kept (t':=s3.toks) fun b ob q=>Heap.get?_push_of_some _ q
 obtain⟨T,id,hT,ht,hg⟩:=hr pins {s3 with heap:=s3.heap.push {cls:=.type "slice",data:=.fields #[vl,vu,.none]}} σ H3 x v vl vu l u s3.heap.objs.size Q I4 r1 (Heap.IsSliceOf.new ..) pl pu q3
 show wpAny (model X.prog X.w) X.A (subscriptTail e (.Slice lo hi none p2) v (.ref s3.heap.objs.size)) (EP X pins σ Q) X.xe {s3 with heap:=s3.heap.push {cls:=.type "slice",data:=.fields #[vl,vu,.none]}}
 exact tail_any (ops:=[.ref s3.heap.objs.size,v]) ht hT hg (by with_unfolding_all rfl)
noncomputable def cX(xs:List V)(lo hi:Option Int):List V:=(xs.drop (HT.fK xs.length 0 lo)).take (HT.fK xs.length xs.length hi - HT.fK xs.length 0 lo)
theorem Ld(xs:List V)(lo hi:Option Int):(cX xs lo hi).length<=xs.length:=by
 unfold cX
 rw[c_,List.length_drop]
 lia
end
end L2
namespace L2
open PySem PySem.Spec PyProof.Rows
noncomputable def jT(n:Nat)(i:Int):Option Nat:=if 0<=i then (if i<n then some i.toNat else none) else if -(n:Int)<=i then some (i+n).toNat else none
noncomputable def gP{α:Type}(xs:List α)(i:Int):Option α:=(jT xs.length i).bind fun j=>xs[j]?
theorem DK{n:Nat}{i:Int}{j:Nat}(h:jT n i=some j):seqIndex? i n=some j/\j<n/\ -(n:Int)<=i/\i<n:=by
 unfold jT at h
 by_cases h0:0<=i
 ·rw[af h0]at h
  by_cases h1:i<n
  ·rw[af h1]at h
   have e:i.toNat=j:=bo h
   exact⟨by rw[seqIndex_of h0 h1,e],by lia,by lia,h1⟩
  ·rw[ae h1]at h;cases h
 ·rw[ae h0]at h
  by_cases h1: -(n:Int)<=i
  ·rw[af h1]at h
   have e:(i+n).toNat=j:=bo h
   exact⟨by rw[seqIndex_neg (by lia) h1,e],by lia,h1,by lia⟩
  ·rw[ae h1]at h;cases h
theorem DL{α:Type}{xs:List α}{i:Int}{v:α}(h:gP xs i=some v):∃j,seqIndex? i xs.length=some j/\xs[j]?=some v/\j<xs.length/\ -(xs.length:Int)<=i/\i<xs.length:=by
 unfold gP at h
 cases e:jT xs.length i with
 |none=>rw[e]at h;cases h
 |some j=>
  rw[e]at h
  obtain⟨h1,h2,h3,h4⟩:=DK e
  exact⟨j,h1,h,h2,h3,h4⟩
theorem Lf{α:Type}{xs:List α}{j:Nat}{v:α}(h:xs[j]?=some v):gP xs (j:Int)=some v:=by
 have hj:j<xs.length:=(dW.mp h).1
 have e:jT xs.length (j:Int)=some j:=by
  unfold jT
  rw[af (by lia),af (by lia)];simp
 unfold gP;rw[e];exact h
theorem Lg{α:Type}(xs:List α)(v:α):gP (xs++[v]) (-1)=some v:=by
 have hl:(xs++[v]).length=xs.length+1:=by simp
 have e:jT (xs++[v]).length (-1)=some xs.length:=by
  unfold jT
  rw[hl,ae (by decide),af (by lia)]
  congr 1
  lia
 unfold gP
 rw[e]
 show (xs++[v])[xs.length]?=some v
 simp
noncomputable def DM(b:Expr):Prop:=∀o i,subscripted b false o i=operate [o,i] (getItem o i)
noncomputable def uR(X:Cx)(r:R2):Prop:=
 ∀(value slice:Expr) (pins:List (Addr×Obj)) (s:Shared) (σ:St) (H:Hp) (x y:V) (v u:Value) (Q:VK),Inv X pins σ H s->RelV x v->RelV y u->r x y H Q->
  subscripted slice false v u=operate [v,u] (getItem v u)->wpAny (model X.prog X.w) X.A (subscriptTail value slice v u) (EP X pins σ Q) X.xe s
noncomputable def DN(X:Cx)(id:String)(r:V->List V->Hp->VK->Prop):Prop:=
 ∀(pins:List (Addr×Obj)) (s:Shared) (σ:St) (H:Hp) (x:V) (xs:List V) (v:Value) (us:List Value) (Q:VK),Inv X pins σ H s->RelV x v->aK xs us->r x xs H Q->
  wpAny (model X.prog X.w) X.A (call (.builtin id) (v::us)) (EP X pins σ Q) X.xe s
section
variable{X:Cx}{a b:Expr}{ta tb:TE}{pos:Pos}
theorem g6{r:R2}(hr:uR X r)(ha:PE X a ta)(hb:PE X b tb)(hs:DM b):PE X (.Subscript a b pos) (eP r ta tb):=by
 intro pins s σ H Q I h
 exact Subscript_ (xI ha hb I h fun v u s2 x y H2 I2 rx ry q=>hr a b pins s2 σ H2 x y v u Q I2 rx ry q (hs _ _))
noncomputable def jj(K:PySem.W.Frag):R2:=fun x y H Q=>∃p xs i v,x=.ref p/\y=.int i/\ai K H p xs/\gP xs i=some v/\Q v H
noncomputable def Lh(K:PySem.W.Frag):R2:=fun x y H Q=>∃p xs i v,x=.ref p/\y=.int i/\fF K H p xs/\gP xs i=some v/\Q v H
theorem DO:uR X (jj X.K):=by
 intro value slice pins s σ H x y v u Q I rx ry h hs
 obtain⟨p,xs,i,z,rfl,rfl,hq,he,q⟩:=h
 cases rx
 obtain⟨t,rfl⟩:=ry
 obtain⟨its,r,pl,hz⟩:=I.list hq
 obtain⟨j,h1,h2,h3,h4,h5⟩:=DL he
 obtain⟨w,ew,rw'⟩:=r.get h2
 have hl:=r.length
 have hn:=uN
 have fin:EP X pins σ Q w s:=⟨z,H,I,rw',q⟩
 by_cases h0:0<=i
 ·have hj:i.toNat=j:=by
   rw[seqIndex_of h0 h5]at h1
   exact bo h1
  exact item_listR pl.isList h0 (by lia) (by rw[hj];simpa using ew) fin hs
 ·have hj:(i+(its.toArray.size:Int)).toNat=j:=by
   rw[seqIndex_neg (by lia) h4]at h1
   rw[c5,<-hl]
   exact bo h1
  exact subscriptTail_builtinR (x:=w) pl.isList.typeIs slot_list_getitem.lookup
   (wpAny_getItem_list_neg (Q:=fun r s'=>r=w/\EP X pins σ Q r s') pl.isList (by lia) (by rw[c5]<;>lia) (by lia) (by rw[hj];simpa using ew) ⟨rfl,fin⟩) hs
theorem DP:uR X (Lh X.K):=by
 intro value slice pins s σ H x y v u Q I rx ry h hs
 obtain⟨p,xs,i,z,rfl,rfl,hq,he,q⟩:=h
 cases rx
 obtain⟨t,rfl⟩:=ry
 obtain⟨its,r,pl,hz⟩:=I.tuple hq
 obtain⟨j,h1,h2,h3,h4,h5⟩:=DL he
 obtain⟨w,ew,rw'⟩:=r.get h2
 have hl:=r.length
 have hn:=uN
 have fin:EP X pins σ Q w s:=⟨z,H,I,rw',q⟩
 exact subscriptTail_builtinR (x:=w) pl.typeIs slot_tuple_getitem.lookup
  (getItem_tuple (j:=j) (Q:=fun r s'=>r=w/\EP X pins σ Q r s') pl (by lia) (by lia) (by rw[c5,<-hl];exact h1) (by simpa using ew) ⟨rfl,fin⟩) hs
theorem Lj(its:List Value)(n j:Nat)(u:Value):Obj.mapSeq (·.setIfInBounds j u) {cls:=.type "list",data:=.seq its.toArray n}={cls:=.type "list",data:=.seq (its.set j u).toArray n}:=by
 simp[Obj.mapSeq]
theorem Inv.lst{pins:List (Addr×Obj)}{σ:St}{H:Hp}{s:Shared}{p:Addr}{xs:List V}(I:Inv X pins σ H s)(h:H p=some (.lst xs)):
  ∃(its:List Value) (n:Nat),aK xs its/\s.heap.get? p=some {cls:=.type "list",data:=.seq its.toArray n}/\xs.length<=sizeLine:=by
 obtain⟨z,its,n,r,e⟩:=I.aP p _ h
 exact⟨its,n,r,e,z⟩
theorem Inv.Lk{pins:List (Addr×Obj)}{σ:St}{H:Hp}{s:Shared}{p:Addr}{xs ys:List V}{its its':List Value}{n n':Nat}{f:Obj->Obj}(I:Inv X pins σ H s)(h:H p=some (.lst xs))
  (ho:s.heap.get? p=some {cls:=.type "list",data:=.seq its.toArray n})(hf:f {cls:=.type "list",data:=.seq its.toArray n}={cls:=.type "list",data:=.seq its'.toArray n'})(r:aK ys its')(hz:ys.length<=sizeLine)(t:Nat):
  Inv X pins σ (upd H p (.lst ys)) {s with heap:=s.heap.update p f,toks:=t}:=by
 have e:(s.heap.update p f).get? p=some {cls:=.type "list",data:=.seq its'.toArray n'}:=by
  rw[Heap.get?_update_self f ho (by rw[hf]<;>rfl),hf]
 refine I.write (x:=p) (e:=p) (by rw[h];trivial) (.inl rfl) (fun b u hb q=>(Heap.get?_update_other _ _ (Ne.symm hb)).trans q) ⟨_,e⟩ ?_
 exact⟨hz,its',n',r,e⟩
noncomputable def Ll:V->V->V->Hp->(Hp->Prop)->Prop:=fun o i v H Q=>∃p xs k j,o=.ref p/\i=.int k/\H p=some (.lst xs)/\jT xs.length k=some j/\Q (upd H p (.lst (xs.set j v)))
theorem set_list:Dd X Ll:=by
 intro pins s σ H o i v ov iv u Q I ro ri rv h
 obtain⟨p,xs,k,j,rfl,rfl,hp,hj,q⟩:=h
 cases ro
 obtain⟨t,rfl⟩:=ri
 obtain⟨its,n,r,ho,hz⟩:=I.lst hp
 obtain⟨h1,h2,h3,h4⟩:=DK hj
 have hl:=r.length
 have hn:=uN
 have I':Inv X pins σ (upd H p (.lst (xs.set j v))) {s with heap:=s.heap.update p (Obj.mapSeq (·.setIfInBounds j u))}:=
  I.Lk hp ho (Lj its n j u) (r.set rv j) (by rw[gw];exact hz) s.toks
 by_cases h0:0<=k
 ·have hk:k.toNat=j:=by
   rw[seqIndex_of h0 h4]at h1
   exact bo h1
  exact PySem.W.ki_setAt ho h0 (by lia) (by rw[c5,<-hl];exact h4) (by rw[hk];exact⟨_,I',q⟩)
 ·have hk:(k+(its.toArray.size:Int)).toNat=j:=by
   rw[seqIndex_neg (by lia) h3]at h1
   rw[c5,<-hl]
   exact bo h1
  exact PySem.W.ki_setBack ho (by lia) (by rw[c5,<-hl];exact h3) (by lia) (by rw[hk];exact⟨_,I',q⟩)
theorem Lm(lo hi:Option Int)(n:Nat):(sliceBounds lo hi none n).1=((HT.fK n 0 lo:Nat):Int)/\(sliceBounds lo hi none n).2.1=((HT.fK n n hi:Nat):Int)/\(sliceBounds lo hi none n).2.2=1:=by
 refine⟨?_,?_,rfl⟩
 ·cases lo with
  |none=>simp[sliceBounds,HT.fK]
  |some i=>
   simp only [sliceBounds,HT.fK,Option.getD_none,show (1:Int) > 0 by decide,if_true]
   by_cases h:i<0
   ·simp only [h,if_true]<;>lia
   ·simp only [h,if_false]<;>lia
 ·cases hi with
  |none=>simp[sliceBounds,HT.fK]
  |some i=>
   simp only [sliceBounds,HT.fK,Option.getD_none,show (1:Int) > 0 by decide,if_true]
   by_cases h:i<0
   ·simp only [h,if_true]<;>lia
   ·simp only [h,if_false]<;>lia
theorem Ln(its:List Value)(lo hi:Option Int):slicePick its.toArray lo hi none=((its.drop (HT.fK its.length 0 lo)).take (HT.fK its.length its.length hi - HT.fK its.length 0 lo)).toArray:=by
 obtain⟨h1,h2,h3⟩:=Lm lo hi its.toArray.size
 unfold slicePick
 rw[h1,h2,h3]
 simp only [sliceRange_one,pick_run,c5]<;>rfl
noncomputable def Lo(K:PySem.W.Frag):V->Option Int->Option Int->Hp->VK->Prop:=fun x lo hi H Q=>∃a xs,x=.ref a/\ai K H a xs/\∀p,H p=none->Q (.ref p) (upd H p (.lst (cX xs lo hi)))
theorem jU:DJ X (Lo X.K):=by
 intro pins s σ H x v vl vu lo hi sl Q I rx hs pl pu h
 obtain⟨a,xs,rfl,hx,q⟩:=h
 cases rx
 obtain⟨its,r,ht,hz⟩:=I.list hx
 have hlen:=r.length
 refine⟨"list",_,slot_list_getitem.lookup,ht.isList.typeIs,?_⟩
 refine wpAny_getItem_list_slice ht.isList hs pl pu .none (by simp) ?_ (by rw[c5]<;>lia)
 rw[Ln,<-hlen]
 refine⟨.ref s.heap.objs.size,_,I.laid (t':=s.toks) (o:=.lst (cX xs lo hi)) (fun b ob q=>Heap.get?_push_of_some _ q) (aX _) ?_,rfl,q _ (I.aP.fresh (aX _))⟩
 exact⟨cC (Ld xs lo hi) hz,_,0,(r.drop (HT.fK xs.length 0 lo)).take (HT.fK xs.length xs.length hi - HT.fK xs.length 0 lo),Heap.get?_push_size _ rfl⟩
theorem Lp:jf X (.builtin "len") (fun xs H Q=>∃p ys,xs=[.ref p]/\(ai X.K H p ys\/fF X.K H p ys)/\Q (.int ys.length) H):=by
 intro pins s σ H xs us Q I r h
 obtain⟨p,ys,rfl,hq,q⟩:=h
 obtain⟨u,rfl,rx⟩:=vals1 r
 cases rx
 have hn:=uN
 rcases hq with hq|hq
 ·obtain⟨its,r',pl,hz⟩:=I.list hq
  have hlen:=r'.length
  exact Calls.call_len_list pl.isList (by simp only [c5]<;>lia) ⟨.int ys.length,H,I.tok _,⟨s.toks+1,by rw[c5,hlen]⟩,q⟩
 ·obtain⟨its,r',pl,hz⟩:=I.tuple hq
  have hlen:=r'.length
  exact len_tuple pl (by simp only [c5]<;>lia) ⟨.int ys.length,H,I.tok _,⟨s.toks+1,by rw[c5,hlen]⟩,q⟩
theorem uS:jf X (.type "list") (fun xs H Q=>∃p ys,xs=[.ref p]/\(ai X.K H p ys\/fF X.K H p ys)/\∀l,H l=none->Q (.ref l) (upd H l (.lst ys))):=by
 intro pins s σ H xs us Q I r h
 obtain⟨p,ys,rfl,hq,q⟩:=h
 obtain⟨u,rfl,rx⟩:=vals1 r
 cases rx
 have fin:∀(its:List Value),aK ys its->ys.length<=sizeLine->∀(h':Heap) (c':Nat),(∀b o',s.heap.get? b=some o'->h'.get? b=some o')->
   h'.get? s.heap.objs.size=some {cls:=.type "list",dict:=none,data:=.seq its.toArray c',slots:= #[]}->EP X pins σ Q (.ref s.heap.objs.size) {s with heap:=h'}:=fun its r' hz h' c' kp e=>
  ⟨.ref s.heap.objs.size,_,I.laid (t':=s.toks) kp (aX _) (show eM X.prog X.w _ h' _ (.lst ys) from ⟨hz,its,c',r',e⟩),rfl,q _ (I.aP.fresh (aX _))⟩
 rcases hq with hq|hq
 ·obtain⟨its,r',pl,hz⟩:=I.list hq
  have hlen:=r'.length
  obtain⟨o,ho,hc,n,hd⟩:=pl.isList
  exact call_list_seq p (.inl rfl) ho hc hd (fun h' c' kp e=>fin its r' hz h' c' kp e) (by simp only [c5]<;>lia)
 ·obtain⟨its,r',pl,hz⟩:=I.tuple hq
  have hlen:=r'.length
  obtain⟨o,ho,hc,n,hd⟩:=pl
  exact call_list_seq p (.inr rfl) ho hc hd (fun h' c' kp e=>fin its r' hz h' c' kp e) (by simp only [c5]<;>lia)
noncomputable def xQ(K:PySem.W.Frag)(T:String)(x:V)(H:Hp):Prop:=match x with
 |.str _=>T="str"
 |.int _=>T="int"
 |.ref p=>(T="list"/\∃xs,ai K H p xs)\/(T="tuple"/\∃o,K.lookup p=some o/\o.cls=.type "tuple"/\o.dict=none)\/
   (T="dict"/\((∃kvs,H p=some (.dK kvs))\/∃kvs,H p=some (.dT kvs)))\/(T="set"/\∃S n,H p=some (.set S n))
 |_=>False
theorem DQ{pins:List (Addr×Obj)}{σ:St}{H:Hp}{s:Shared}{T:String}{x:V}{v:Value}(I:Inv X pins σ H s)(r:RelV x v)(ty:xQ X.K T x H):
  s.TypeIs v T/\∀a,v=.ref a->∃ob,s.heap.get? a=some ob/\ob.dict=none:=by
 cases x with
 |str z=>
  obtain⟨t,rfl⟩:=r
  cases (show T="str" from ty)
  exact⟨typeIs_str s z t,fun _ e=>nomatch e⟩
 |int i=>
  obtain⟨t,rfl⟩:=r
  cases (show T="int" from ty)
  exact⟨typeIs_int s i t,fun _ e=>nomatch e⟩
 |ref p=>
  cases r
  rcases ty with ⟨rfl,xs,hq⟩|⟨rfl,o,hk,hc,hd⟩|⟨rfl,hk⟩|⟨rfl,S,n,hk⟩
  ·obtain⟨its,_,pl,_⟩:=I.list hq
   refine⟨pl.isList.typeIs,fun a e=>?_⟩
   cases e
   obtain⟨o,n,e,c,hd,_⟩:=pl
   exact⟨o,e,hd⟩
  ·refine⟨⟨o,I.fZ p o hk,hc⟩,fun a e=>?_⟩
   cases e
   exact⟨o,I.fZ _ o hk,hd⟩
  ·have z:∃o,s.heap.get? p=some o/\o.ExactDict:=by
    rcases hk with ⟨kvs,hk⟩|⟨kvs,hk⟩
    ·obtain⟨_,_,_,_,o,_,_,e,ex,_⟩:=I.aP p _ hk
     exact⟨o,e,ex⟩
    ·obtain⟨_,_,_,_,o,_,_,e,ex,_⟩:=I.aP p _ hk
     exact⟨o,e,ex⟩
   obtain⟨o,e,ex⟩:=z
   refine⟨⟨o,e,ex.1⟩,fun a e2=>?_⟩
   cases e2
   exact⟨o,e,ex.2.1⟩
  ·obtain⟨o,_,_,_,e,ex,_⟩:=I.aP p _ hk
   refine⟨⟨o,e,ex.1⟩,fun a e2=>?_⟩
   cases e2
   exact⟨o,e,ex.2.1⟩
 |_=>exact False.elim ty
noncomputable def Lq(K:PySem.W.Frag)(T:String)(r:V->List V->Hp->VK->Prop)(to:TE):TE:=fun σ H Q=>to σ H fun x H1=>xQ K T x H1/\r x [] H1 Q
noncomputable def xR(K:PySem.W.Frag)(T:String)(r:V->List V->Hp->VK->Prop)(to:TE)(t:TA):TE:=fun σ H Q=>to σ H fun x H1=>xQ K T x H1/\t σ H1 fun xs H2=>r x xs H2 Q
variable{o e:Expr}{es:List Expr}{to:TE}{t:TA}{name:Str}{apos cpos:Pos}{T id:String}{r:V->List V->Hp->VK->Prop}
theorem Lu(pa:PlainAttrs T)(slot:Slot T name id)(hty:typeOf (.builtin id)=pure (.type "method_descriptor"))(hm:DN X id r)(ho:PE X o to)
  (hbase:attributeBase o name X.env (eval o X.env)=eval o X.env:=by rfl)(hline:(apos.endLine == cpos.line)=true:=by rfl):PE X (.Call (.Attribute o name apos) [] [] cpos) (Lq X.K T r to):=by
 intro pins s σ H Q I h
 refine wpAny_Call_method0_late hbase hline (aU (ho pins s σ H _ I h) fun v s1 ⟨x,H1,I1,r1,ty,q1⟩=>?_)
 obtain⟨h1,h2⟩:=DQ I1 r1 ty
 exact⟨T,id,pa,slot,hty,h1,h2,Calls.callWith_builtin rfl (PySem.evalArgs_none (hm pins s1 σ H1 x [] v [] Q I1 r1 .nil q1))⟩
theorem uT(pa:PlainAttrs T)(slot:Slot T name id)(hty:typeOf (.builtin id)=pure (.type "method_descriptor"))(hm:DN X id r)(ho:PE X o to)(ha:PA X (e::es) t)
  (hbase:attributeBase o name X.env (eval o X.env)=eval o X.env:=by rfl)
  (hfew:((backTo cpos (starEach (e::es) X.env)).all (fun x=> !x.1)&&(backToKw cpos (keywordEach [] X.env)).all (fun x=>x.1.isSome)
   &&decide ((e::es).length+([]:List Keyword).length+(if ([]:List Keyword).isEmpty then 0 else 1)<30))=true:=by rfl)
  (hline:(apos.endLine == cpos.line)=true:=by rfl)(hs:starEach (e::es) X.env=(false,eval e X.env)::starEach es X.env:=by rfl)(hplain:(backTo cpos (starEach es X.env)).any (·.1)=false:=by rfl):
  PE X (.Call (.Attribute o name apos) (e::es) [] cpos) (xR X.K T r to t):=by
 intro pins s σ H Q I h
 refine wpAny_Call_method_late hbase hfew hline rfl (aU (ho pins s σ H _ I h) fun v s1 ⟨x,H1,I1,r1,ty,q1⟩=>?_)
 obtain⟨h1,h2⟩:=DQ I1 r1 ty
 refine⟨T,id,pa,slot,hty,h1,h2,?_⟩
 have hA:=ha cpos pins s1 σ H1 _ I1 q1
 rw[hs]at hA ⊢
 refine Calls.callWith_builtin (by show (false||(backTo cpos (starEach es X.env)).any (·.1))=false;rw[hplain]<;>rfl) (Calls.evalArgs_plain ?_)
 exact aU hA fun us s2 ⟨vs,H2,I2,r2,q2⟩=>hm pins s2 σ H2 x vs v us Q I2 r1 r2 q2
end
end L2
namespace L2
open PySem PySem.Spec PyProof.Rows
noncomputable def uU(X:Cx)(id:String)(r:V->List V->Hp->VK->Prop):Prop:=
 ∀(pins:List (Addr×Obj)) (s:Shared) (σ:St) (H:Hp) (x:V) (xs:List V) (v:Value) (us:List Value) (Q:VK),Inv X pins σ H s->RelV x v->aK xs us->r x xs H Q->
  wpAny (model X.prog X.w) X.A (call (.builtin id) (v::us)) (EP X pins σ Q) X.xe s
theorem aK.one:∀{x:V}{us:List Value},aK [x] us->∃u,us=[u]/\RelV x u
 |_,_,.cons r .nil=>⟨_,rfl,r⟩
theorem aK.zero:∀{us:List Value},aK [] us->us=[]
 |_,.nil=>rfl
theorem aK.dropLast{xs:List V}{us:List Value}(h:aK xs us):aK xs.dropLast us.dropLast:=by
 induction h with
 |nil=>exact .nil
 |cons r t ih=>
  cases t with
  |nil=>exact .nil
  |cons q t'=>exact .cons r ih
theorem aK.eraseIdx:∀{xs:List V}{us:List Value} (i:Nat),aK xs us->aK (xs.eraseIdx i) (us.eraseIdx i)
 |_,_,_,.nil=>.nil
 |_,_,0,.cons _ t=>t
 |_,_,i+1,.cons r t=>.cons r (aK.eraseIdx i t)
theorem aK.rep{xs:List V}{us:List Value}(h:aK xs us):∀k:Nat,aK (List.replicate k xs).flatten (List.replicate k us).flatten
 |0=>.nil
 |k+1=>by
  rw[k5,k5,qT,qT]
  exact aK.append h (aK.rep h k)
theorem Lw{α:Type}(l:List α):l.eraseIdx (l.length - 1)=l.dropLast:=by
 induction l with
 |nil=>rfl
 |cons a r ih=>
  cases r with
  |nil=>rfl
  |cons b r=>
   have e:(a::b::r).length - 1=((b::r).length - 1)+1:=by
    have h1:(a::b::r).length=r.length+2:=rfl
    have h2:(b::r).length=r.length+1:=rfl
    lia
   rw[e,List.eraseIdx_cons_succ,ih]
   all_goals rfl
theorem DR{α:Type}:∀(l:List α) (i:Nat),(l.eraseIdx i).length<=l.length
 |[],_=>aX _
 |_::_,0=>Nat.le_succ _
 |_::r,i+1=>Nat.succ_le_succ (DR r i)
theorem foldl_rep(its:List Value):∀(k:Nat) (acc:List Value),
  List.foldl (fun x1 x2=>x1++x2) acc.toArray (List.replicate k its.toArray)=(acc++(List.replicate k its).flatten).toArray
 |0,acc=>by simp
 |k+1,acc=>by
  have e:acc.toArray++its.toArray=(acc++its).toArray:=by simp
  have e2:(acc++its)++(List.replicate k its).flatten=acc++(List.replicate (k+1) its).flatten:=by
   rw[k5,qT,dM]
  rw[<-e2,<-foldl_rep its k (acc++its),<-e,k5,gK]
section
variable{X:Cx}{pins:List (Addr×Obj)}{σ:St}{H:Hp}{s:Shared}{l b:Addr}{xs ys zs:List V}
theorem Inv.uV{its its':List Value}{n:Nat}{f:Array Value->Array Value}{t':Nat}(I:Inv X pins σ H s)(hH:H l=some (.lst xs))
  (e:s.heap.get? l=some {cls:=.type "list",data:=.seq its.toArray n})(hf:f its.toArray=its'.toArray)(hv:aK ys its')(hz:ys.length<=sizeLine):
  Inv X pins σ (upd H l (.lst ys)) {s with heap:=s.heap.update l (Obj.mapSeq f),toks:=t'}:=by
 have q:=PySem.IsL.update e f
 rw[hf]at q
 refine I.write (x:=l) (e:=l) (by rw[hH];exact trivial) (.inl rfl) (fun b' u hb hu=>(Heap.get?_update_other s.heap (Obj.mapSeq f) (Ne.symm hb)).trans hu) ⟨_,q⟩ ?_
 exact⟨hz,its',_,hv,q⟩
theorem Inv.DS{its:List Value}{t':Nat}(I:Inv X pins σ H s)(hv:aK ys its)(hz:ys.length<=sizeLine):
  Inv X pins σ (upd H s.heap.objs.size (.lst ys)) {s with heap:=s.heap.push {cls:=.type "list",data:=.seq its.toArray},toks:=t'}:=
 I.laid (fun _ _ q=>Heap.get?_push_of_some _ q) (aX _) ⟨hz,its,0,hv,Heap.get?_push_size _ rfl⟩
theorem Inv.fresh(I:Inv X pins σ H s):H s.heap.objs.size=none:=I.aP.fresh (aX _)
theorem Inv.mI(I:Inv X pins σ H s)(hH:H l=some (.lst xs)):xs.length<=sizeLine/\∃(its:List Value) (n:Nat),aK xs its/\xs.length=its.length/\s.heap.get? l=some {cls:=.type "list",data:=.seq its.toArray n}:=by
 obtain⟨z,its,n,r,e⟩:=I.aP l _ hH
 exact⟨z,its,n,r,r.length,e⟩
theorem DT{n:Nat}(h:n<=sizeLine):Builtin.List.listTooLong n=false:=by
 unfold Builtin.List.listTooLong
 exact cy (by lia)
end
section
variable{X:Cx}
noncomputable def DU:V->List V->Hp->VK->Prop:=fun x vs H Q=>∃l xs y,x=.ref l/\vs=[y]/\H l=some (.lst xs)/\xs.length<sizeLine/\Q .aW (upd H l (.lst (xs++[y])))
theorem Lx:uU X "list.append" DU:=by
 intro pins s σ H x vs v us Q I rx rv h
 obtain⟨l,xs,y,rfl,rfl,hH,hz,q⟩:=h
 cases rx
 obtain⟨u,rfl,ru⟩:=rv.one
 obtain⟨z,its,n,r,hl,e⟩:=I.mI hH
 refine call_meets F.slot_list_append ⟨_,e,rfl⟩ F.entry_list_append (F.args_list_append_2 _ _) (PySem.list_append l its.toArray n u (by rw[c5];lia)) ⟨e,?_⟩
 refine⟨.aW,_,I.uV (its':=its++[u]) hH e (by simp) (r.append (.cons ru .nil)) ?_,rfl,q⟩
 rw[bF,o3]
 lia
noncomputable def DV:V->List V->Hp->VK->Prop:=fun x vs H Q=>∃l b xs zs,x=.ref l/\vs=[.ref b]/\H l=some (.lst xs)/\H b=some (.lst zs)/\xs.length+zs.length<=sizeLine/\Q .aW (upd H l (.lst (xs++zs)))
theorem Ly:uU X "list.extend" DV:=by
 intro pins s σ H x vs v us Q I rx rv h
 obtain⟨l,b,xs,zs,rfl,rfl,hH,hB,hz,q⟩:=h
 cases rx
 obtain⟨u,rfl,ru⟩:=rv.one
 cases ru
 obtain⟨z,its,n,r,hl,e⟩:=I.mI hH
 obtain⟨z2,its2,n2,r2,hl2,e2⟩:=I.mI hB
 have hsz:its.toArray.size+its2.toArray.size<=sizeLine:=by rw[c5,c5];lia
 have hlong:¬(!its.toArray.isEmpty&&Builtin.List.listTooLong (its.toArray.size+its2.toArray.size))=true:=by
  rw[DT hsz,Bool.and_false]
  exact fz
 refine call_meets F.slot_list_extend ⟨_,e,rfl⟩ F.entry_list_extend (F.args_list_extend_2 _ _)
  (AutoSeq1.list_extend_list_list_0 l its.toArray n b its2.toArray n2 hlong (by rw[c5];lia) (by lia)) ⟨e,e2,?_⟩
 refine⟨.aW,_,I.uV (its':=its++its2) hH e (by simp) (r.append r2) ?_,rfl,q⟩
 rw[bF]
 lia
noncomputable def Lz:V->List V->Hp->VK->Prop:=fun x vs H Q=>∃l xs y,x=.ref l/\vs=[]/\H l=some (.lst xs)/\xs[xs.length - 1]?=some y/\Q y (upd H l (.lst xs.dropLast))
theorem LA:uU X "list.pop" Lz:=by
 intro pins s σ H x vs v us Q I rx rv h
 obtain⟨l,xs,y,rfl,rfl,hH,hy,q⟩:=h
 cases rx
 have hus:=rv.zero
 subst hus
 obtain⟨z,its,n,r,hl,e⟩:=I.mI hH
 obtain⟨u,hu,ru⟩:=r.get hy
 have hy':its.toArray[its.toArray.size - 1]?=some u:=by
  show its.toArray[its.length - 1]?=some u
  rw[<-Array.getElem?_toList,<-hl]
  exact hu
 refine call_meets F.slot_list_pop ⟨_,e,rfl⟩ F.entry_list_pop (F.args_list_pop_1 _) (MeetsSeq.list_pop_last l its.toArray n u hy' (by rw[c5];lia)) ⟨e,?_⟩
 refine⟨y,_,I.uV (its':=its.dropLast) hH e ?_ r.dropLast ?_,ru,q⟩
 ·show its.toArray.eraseIdxIfInBounds (its.toArray.size - 1)=its.dropLast.toArray
  rw[c5,List.eraseIdxIfInBounds_toArray,Lw]
 ·rw[List.length_dropLast]
  lia
noncomputable def LB:V->List V->Hp->VK->Prop:=fun x vs H Q=>∃l xs i k y,x=.ref l/\vs=[.int i]/\H l=some (.lst xs)/\ -(2 ^ 63)<=i/\i<2 ^ 63/\seqIndex? i xs.length=some k/\xs[k]?=some y/\Q y (upd H l (.lst (xs.eraseIdx k)))
theorem DW:uU X "list.pop" LB:=by
 intro pins s σ H x vs v us Q I rx rv h
 obtain⟨l,xs,i,k,y,rfl,rfl,hH,h1,h2,hk,hy,q⟩:=h
 cases rx
 obtain⟨u,rfl,ru⟩:=rv.one
 obtain⟨t,rfl⟩:=ru
 obtain⟨z,its,n,r,hl,e⟩:=I.mI hH
 obtain⟨w,hw,rw'⟩:=r.get hy
 refine call_meets F.slot_list_pop ⟨_,e,rfl⟩ F.entry_list_pop (F.args_list_pop_2 _ _)
  (MeetsSeq.list_pop_at l its.toArray n i t k w (fitsIndex_both h1 h2) (by rw[c5,<-hl];exact hk) (by rw[<-Array.getElem?_toList];exact hw) (by rw[c5];lia)) ⟨e,?_⟩
 refine⟨y,_,I.uV (its':=its.eraseIdx k) hH e ?_ (r.eraseIdx k) ?_,rw',q⟩
 ·show its.toArray.eraseIdxIfInBounds k=(its.eraseIdx k).toArray
  rw[List.eraseIdxIfInBounds_toArray]
 ·have:=DR xs k
  lia
noncomputable def DX:R2:=fun x y H Q=>∃l b xs zs,x=.ref l/\y=.ref b/\H l=some (.lst xs)/\H b=some (.lst zs)/\xs.length+zs.length<=sizeLine/\∀p,H p=none->Q (.ref p) (upd H p (.lst (xs++zs)))
theorem fO:cW X (binaryOp .Add) DX:=by
 intro pins s σ H x y v u Q I rx ry h
 obtain⟨l,b,xs,zs,rfl,rfl,hH,hB,hz,q⟩:=h
 cases rx
 cases ry
 obtain⟨z,its,n,r,hl,e⟩:=I.mI hH
 obtain⟨z2,its2,n2,r2,hl2,e2⟩:=I.mI hB
 refine PySem.P.add_list e e2 ?_ (by rw[c5,c5];lia)
 have ea:its.toArray++its2.toArray=(its++its2).toArray:=by simp
 rw[ea]
 exact⟨.ref _,_,I.DS (t':=s.toks) (r.append r2) (by rw[bF];lia),rfl,q _ I.fresh⟩
noncomputable def LC:R2:=fun x y H Q=>∃l k xs,x=.ref l/\y=.int k/\H l=some (.lst xs)/\ -(2 ^ 63)<=k/\k<2 ^ 63/\xs.length * k.toNat<=sizeLine/\
 ∀p,H p=none->Q (.ref p) (upd H p (.lst (List.replicate k.toNat xs).flatten))
theorem len_rep{α:Type}(xs:List α)(k:Nat):(List.replicate k xs).flatten.length=k * xs.length:=by
 induction k with
 |zero=>simp
 |succ k ih=>rw[k5,qT,bF,ih,o4,Nat.add_comm]
theorem rO:cW X (binaryOp .Mult) LC:=by
 intro pins s σ H x y v u Q I rx ry h
 obtain⟨l,k,xs,rfl,rfl,hH,h1,h2,hz,q⟩:=h
 cases rx
 obtain⟨t,rfl⟩:=ry
 obtain⟨z,its,n,r,hl,e⟩:=I.mI hH
 have hlen:its.toArray.size * k.toNat<=sizeLine:=by rw[c5,<-hl];exact hz
 have hcap:¬its.toArray.size * k.toNat > (2 ^ 63 - 1) / 8:=by
  have:(sizeLine:Nat)<=(2 ^ 63 - 1) / 8:=by decide
  lia
 have hfit:¬(!Builtin.List.listFitsIndex k)=true:=by
  rw[fitsIndex_both h1 h2]
  exact fz
 have hlong:¬Builtin.List.listTooLong (its.toArray.size * k.toNat)=true:=by
  rw[DT hlen]
  exact fz
 have hnew:List.foldl (fun x1 x2=>x1++x2) #[] (List.replicate (if its.toArray.isEmpty=true then 0 else k.toNat) its.toArray)=(List.replicate k.toNat its).flatten.toArray:=by
  have f0:∀m:Nat,List.foldl (fun x1 x2=>x1++x2) #[] (List.replicate m its.toArray)=(List.replicate m its).flatten.toArray:=fun m=>by
   have:=foldl_rep its m []
   rw[k6]at this
   exact this
  rw[f0]
  cases its with
  |nil=>simp
  |cons a r'=>rw[ae (by simp)]
 refine wpAny_binaryOp_repeat_ref (T:="list") (U:="int") (by decide) ⟨_,e,rfl⟩ (fun s'=>typeIs_int s' k t) noFill_list_mul F.fills_int_mul F.slot_int_rmul repeat_list F.slot_int_index.lookup
  (call_meets F.slot_int_rmul (typeIs_int s k t) F.entry_int_rmul (F.args_int_rmul_2 _ _) (int___rmul___int_list k t l its.toArray n)
   ⟨e,rfl,⟨_,e,rfl⟩,call_meets F.slot_list_mul ⟨_,e,rfl⟩ F.entry_list_mul (F.args_list_mul_2 _ _) (AutoListH.list___mul___list_int_3 l its.toArray n k t hfit hcap hlong) ⟨e,?_⟩⟩)
 rw[hnew]
 exact⟨.ref _,_,I.DS (t':=s.toks) (r.rep k.toNat) (by rw[len_rep,Nat.mul_comm];exact hz),rfl,q _ I.fresh⟩
end
end L2
namespace L2
open PySem PySem.Spec PyProof.Rows
theorem aK.ints:∀{ns:List Int}{us:List Value},aK (ns.map V.int) us->IntsAre us ns
 |[],us,h=>by
  rw[List.map_nil]at h
  cases h
  exact IntsAre.nil
 |n::ns,us,h=>by
  rw[dJ]at h
  cases h with
  |cons r t=>
   obtain⟨k,rfl⟩:=r
   exact IntsAre.cons n k (aK.ints t)
theorem DY:∀{us:List Value}{ns:List Int},IntsAre us ns->aK (ns.map V.int) us
 |_,_,.nil=>by rw[List.map_nil];exact Paired.nil
 |_,_,.cons n t h=>by rw[dJ];exact Paired.cons (show RelV (V.int n) (Value.int n t) from ⟨t,rfl⟩) (DY h)
theorem aK.DZ:∀{bs:List Bool}{us:List Value},aK (bs.map V.bl) us->us=bs.map Value.bool
 |[],us,h=>by
  rw[List.map_nil]at h
  cases h
  rfl
 |b::bs,us,h=>by
  rw[dJ]at h
  cases h with
  |cons r t=>
   cases r
   rw[aK.DZ t,dJ]
theorem aK.xS{a:Addr}{us:List Value}(r:aK [V.ref a] us):us=[Value.ref a]:=by
 cases r with
 |cons r t=>
  cases t
  cases r
  rfl
section
variable{prog:Program}{w:World}{A:Around}{E:Value->Shared->Prop}{s:Shared}{l:Addr}{its:List Value}{ns:List Int}{Q:Value->Shared->Prop}
theorem LD(hh:A.handled=none)(hl:s.heap.IsList l its.toArray)(hi:IntsAre its ns)
  (h:∀h' tk t',(∀b o,s.heap.get? b=some o->h'.get? b=some o)->Q (.int ns.sum t') {s with heap:=h',toks:=tk}):wpAny (model prog w) A (call (.builtin "sum") [.ref l]) Q E s:=by
 obtain⟨xs,e⟩:=hi.allInts.items
 have hn:numsOf (intItems xs).toList=ns:=by rw[<-e];exact hi.numsOf
 rw[nums_intItems]at hn
 rw[e]at hl
 refine PySem.sum_intListG hh hl fun h' tk t' hk=>?_
 have:=h h' tk t' hk
 rw[preSum_eq,o5 (by simp),hn];exact this
end
section
variable{X:Cx}
noncomputable def LF(K:PySem.W.Frag):List V->Hp->VK->Prop:=fun vs H Q=>∃(a:Addr) (ns:List Int),vs=[V.ref a]/\ai K H a (ns.map V.int)/\Q (.int ns.sum) H
theorem LG(hc:X.calm=true):jf X (.builtin "sum") (LF X.K):=by
 intro pins s σ H vs us Q I r h
 obtain⟨a,ns,rfl,hs,q⟩:=h
 obtain⟨its,rv,hl,_⟩:=I.list hs
 rw[aK.xS r]
 exact LD (I.ok.hd hc) hl.isList rv.ints fun h' tk t' hk=>⟨.int _,H,I.kept hk,⟨_,rfl⟩,q⟩
noncomputable def LH(K:PySem.W.Frag):List V->Hp->VK->Prop:=fun vs H Q=>∃(a:Addr) (ns:List Int),vs=[V.ref a]/\ai K H a (ns.map V.int)/\ns.length<64/\
 ∀(ns':List Int) (p:Addr),ns'.Perm ns->ns'.Pairwise (·<=·)->H p=none->Q (.ref p) (upd H p (.lst (ns'.map V.int)))
theorem LI{n:Nat}(h:n<64):n<=sizeLine:=by rw[sizeLine_eq];lia
theorem LJ:jf X (.builtin "sorted") (LH X.K):=by
 intro pins s σ H vs us Q I r h
 obtain⟨a,ns,rfl,hs,h64,q⟩:=h
 obtain⟨its,rv,hl,_⟩:=I.list hs
 rw[aK.xS r]
 have hi:=rv.ints
 refine PyProof.Rows.sorted_ints hl.isList hi (by rw[hi.length];exact h64) fun out ns' h1 h2 h3=>?_
 obtain⟨ep,he'⟩:=PyProof.Rows.sortedAll_at s.heap its out
 have hlen:(ns'.map V.int).length<=sizeLine:=by rw[aE,h2.length_eq];exact LI h64
 exact⟨.ref _,upd H (s.heap.objs.size+1) (.lst (ns'.map V.int)),I.laid (t':=s.toks) (fun _ _=>PyProof.Rows.sortedAll_old) (Nat.le_succ _) ⟨hlen,out.toList,ep,DY h1,he'⟩,rfl,q ns' _ h2 h3 (I.aP.fresh (Nat.le_succ _))⟩
end
theorem LK{prog:Program}{w:World}{A:Around}{E:Value->Shared->Prop}{s:Shared}{l:Addr}{items:Array Value}{Q:Value->Shared->Prop}(hl:s.heap.IsList l items)
  (h:∀s₂:Shared,s₂={s with heap:=s.heap.push {cls:=.type "list_iterator",data:=.fields #[.ref l,.int 0 0]}}->
   (s₂.heap.IsListIter s.heap.objs.size l 0/\s₂.heap.IsList l items)->l≠s.heap.objs.size->Q (.ref s.heap.objs.size) s₂):wpAny (model prog w) A (pyIter (.ref l)) Q E s:=by
 have hlt:l<s.heap.objs.size:=by obtain⟨_,e,_⟩:=hl;exact Heap.lt_size e
 exact wpAny_pyIter_list hl (h _ rfl ⟨⟨_,Heap.get?_push_size _ rfl,rfl,rfl⟩,hl.push _⟩ (gJ hlt))
theorem LL{prog:Program}{w:World}{A:Around}{bs:List Bool}{its:List Value}(e:its=bs.map Value.bool):
  TruthOf prog w A (fun i v=>its.toArray[i]?=some v) (fun i=>bs.getD i false):=fun i v s Q E hv hq=>by
 have hv':its[i]?=some v:=by simpa using hv
 rw[e,b_]at hv'
 obtain⟨b,hb,rfl⟩:=Option.map_eq_some_iff.mp hv'
 have hg:bs.getD i false=b:=by rw[eg,hb]<;>rfl
 have hq':Q (bs.getD i false) s:=hq
 rw[hg]at hq'
 exact wpAny_truthy_bool hq'
theorem all_range:∀bs:List Bool,(List.range bs.length).all (fun i=>bs.getD i false)=bs.all id
 |[]=>rfl
 |b::bs=>by
  rw[bO,xm,List.all_cons,List.all_map,List.all_cons,<-all_range bs]
  all_goals rfl
section
variable{X:Cx}
noncomputable def LM(K:PySem.W.Frag):List V->Hp->VK->Prop:=fun vs H Q=>∃(a:Addr) (bs:List Bool),vs=[V.ref a]/\ai K H a (bs.map V.bl)/\Q (.bl (bs.all id)) H
theorem D0(hc:X.calm=true):jf X (.builtin "all") (LM X.K):=by
 intro pins s σ H vs us Q I r h
 obtain⟨a,bs,rfl,hs,q⟩:=h
 obtain⟨its,rv,hl,_⟩:=I.list hs
 rw[aK.xS r]
 have hb:=rv.DZ
 refine call_all_walk (LK hl.isList fun s₂ e2 st hne=>?_)
 subst e2
 refine⟨_,_,_,_,_,_,_,rfl,Walks.list (A:=X.A.in1) (I.ok.hd hc) _ a hne its.toArray,st,LL hb,fun h' tk hk=>?_⟩
 refine⟨.bl _,H,I.kept fun b o eo=>hk b o (fun hmem=>?_) (Heap.get?_push_of_some _ eo),?_,q⟩
 ·rcases bY.mp hmem with e1|hmem
  ·exact absurd (e1 ▸ Heap.lt_size eo) (i0 _)
  ·cases hmem
 ·show Value.bool _=Value.bool _
  rw[<-all_range,hb,c5,aE]
end
mutual
inductive Dp(K:PySem.W.Frag)(H:Hp):V->PyData->Prop
 |aW:Dp K H .aW .none
 |bl (b:Bool):Dp K H (.bl b) (.bool b)
 |int (i:Int):Dp K H (.int i) (.int i)
 |str (x:Str):Dp K H (.str x) (.str x)
 |lst {a:Addr}{xs:List V}{ds:List PyData}:ai K H a xs->nI K H xs ds->Dp K H (.ref a) (.list ds)
 |tup {a:Addr}{xs:List V}{ds:List PyData}:fF K H a xs->nI K H xs ds->Dp K H (.ref a) (.tuple ds)
inductive nI(K:PySem.W.Frag)(H:Hp):List V->List PyData->Prop
 |nil:nI K H [] []
 |cons {v:V}{vs:List V}{d:PyData}{ds:List PyData}:Dp K H v d->nI K H vs ds->nI K H (v::vs) (d::ds)
end
section
variable{X:Cx}{pins:List (Addr×Obj)}{σ:St}{H:Hp}{s:Shared}
mutual
theorem Dp.reads(I:Inv X pins σ H s):∀(d:PyData) (v:V) (u:Value),Dp X.K H v d->RelV v u->∃as,Reads s.heap u d as
 |.none,_,_,h,r=>by
  cases h
  cases r
  exact⟨_,Reads.none⟩
 |.bool b,_,_,h,r=>by
  cases h
  cases r
  exact⟨_,Reads.bool b⟩
 |.int i,_,_,h,r=>by
  cases h
  obtain⟨t,rfl⟩:=r
  exact⟨_,Reads.int i t⟩
 |.str x,_,_,h,r=>by
  cases h
  obtain⟨t,rfl⟩:=r
  exact⟨_,Reads.str x t⟩
 |.list ds,_,_,h,r=>by
  cases h with
  |lst hs ha=>
   cases r
   obtain⟨its,rv,⟨o,n,ho,hc,_,hd⟩,_⟩:=I.list hs
   obtain⟨as,hr⟩:=Dp.readsAll I ds _ its ha rv
   exact⟨_,Reads.list ho hc hd hr⟩
 |.tuple ds,_,_,h,r=>by
  cases h with
  |tup hs ha=>
   cases r
   obtain⟨its,rv,⟨o,ho,hc,n,hd⟩,_⟩:=I.tuple hs
   obtain⟨as,hr⟩:=Dp.readsAll I ds _ its ha rv
   exact⟨_,Reads.tuple ho hc hd hr⟩
 |.dict _,_,_,h,_=>by cases h
theorem Dp.readsAll(I:Inv X pins σ H s):∀(ds:List PyData) (vs:List V) (us:List Value),nI X.K H vs ds->aK vs us->∃as,ReadsAll s.heap us ds as
 |[],_,_,h,r=>by
  cases h
  cases r
  exact⟨_,ReadsAll.nil⟩
 |d::ds,_,_,h,r=>by
  cases h with
  |cons h1 h2=>
   cases r with
   |cons r1 r2=>
    obtain⟨as,q1⟩:=Dp.reads I d _ _ h1 r1
    obtain⟨bs,q2⟩:=Dp.readsAll I ds _ _ h2 r2
    exact⟨_,ReadsAll.cons q1 q2⟩
end
end
section
variable{X:Cx}
noncomputable def xT(K:PySem.W.Frag):R2:=fun x y H Q=>∃d e,Dp K H x d/\Dp K H y e/\SeqAt.shaped d=true/\SeqAt.shaped e=true/\Q (.bl (PyData.eqv d e)) H
noncomputable def xU(K:PySem.W.Frag):R2:=fun x y H Q=>∃d e,Dp K H x d/\Dp K H y e/\SeqAt.shaped d=true/\SeqAt.shaped e=true/\Q (.bl (!PyData.eqv d e)) H
theorem pN(hu:X.A.units+64<cLine):cW X (compareOp .Eq) (xT X.K):=by
 intro pins s σ H x y v u Q I rx ry h
 obtain⟨d,e,hd,he,sd,se,q⟩:=h
 obtain⟨as,r1⟩:=Dp.reads I d x v hd rx
 obtain⟨bs,r2⟩:=Dp.reads I e y u he ry
 exact SeqAt.compareEq_shaped r1 r2 sd se hu ⟨.bl _,H,I,rfl,q⟩
theorem LN(hu:X.A.units+64<cLine):cW X (compareOp .NotEq) (xU X.K):=by
 intro pins s σ H x y v u Q I rx ry h
 obtain⟨d,e,hd,he,sd,se,q⟩:=h
 obtain⟨as,r1⟩:=Dp.reads I d x v hd rx
 obtain⟨bs,r2⟩:=Dp.reads I e y u he ry
 exact SeqAt.compareNe_shaped r1 r2 sd se hu ⟨.bl _,H,I,rfl,q⟩
end
end L2
namespace L2
open PySem PySem.Spec PyProof.Rows
abbrev D4(h:Heap)(c:Addr)(v:Option Value):Prop:=h.IsCell c v
noncomputable def LO(scope sc:Scope):Scope:=
 {scope with names:=scope.names.map fun (n,k)=>if (k == .free&&sc.kind == .function&&sc.names.lookup n == some .cell) then (n,.cell) else (n,k)}
noncomputable def ez(cells:List (Str×Addr)):List (Str×NameKind)->List (Str×Addr)->List (Str×Addr)
 |[],acc=>acc
 |(n,k)::r,acc=>if k == .free then ez cells r ((n,(cells.lookup n).getD 0)::acc) else ez cells r acc
theorem D5(env:Env)(f:Str×NameKind->List (Str×Addr)->Sem (ForInStep (List (Str×Addr))))
  (hf:∀n k c,f (n,k) c=if k == .free then (do let a <-cellOf env n;pure (.yield ((n,a)::c))) else pure (.yield c)):
  ∀(names:List (Str×NameKind)) (acc:List (Str×Addr)),(∀y∈names,y.2=.free->∃c,env.cells.lookup y.1=some c)->forIn names acc f=pure (ez env.cells names acc)
 |[],acc,_=>by rw[List.forIn_nil];rfl
 |(n,k)::r,acc,h=>by
  rw[List.forIn_cons,hf]
  have ih:=fun acc=>D5 env f hf r acc fun y hy=>h y (bI _ hy)
  unfold ez
  by_cases hk:(k == NameKind.free)=true
  ·rw[af hk,af hk]
   obtain⟨c,hc⟩:=h (n,k) bE (by simpa using hk)
   have e:cellOf env n=pure c:=by unfold cellOf;rw[hc]
   rw[e]
   have e2:(env.cells.lookup n).getD 0=c:=by rw[hc];rfl
   rw[e2]
   exact ih _
  ·rw[ae hk,ae hk]
   exact ih _
theorem LP{scope:Scope}{env:Env}(h:∀y∈scope.names,y.2=.free->∃c,env.cells.lookup y.1=some c):closureFor scope env=pure (ez env.cells scope.names []):=by
 simp only [closureFor]
 rw[D5 env _ (fun n k c=>rfl) scope.names [] h]
 rfl
theorem mem_lookup{α:Type}:∀{l:List (Str×α)}{n:Str}{c:α},(n,c)∈l->∃c',l.lookup n=some c'
 |(k,v)::r,n,c,h=>by
  rw[qU]
  cases hb:n == k with
  |true=>exact⟨_,rfl⟩
  |false=>
   rcases bY.mp h with e|h
   ·cases e;simp at hb
   ·exact mem_lookup h
theorem uW{cells:List (Str×Addr)}:∀{names:List (Str×NameKind)}{acc:List (Str×Addr)}{n:Str}{c:Addr},(n,c)∈ez cells names acc->(n,c)∈acc\/((n,.free)∈names/\c=(cells.lookup n).getD 0)
 |[],_,_,_,h=>.inl h
 |(m,k)::r,acc,n,c,h=>by
  unfold ez at h
  split at h
  ·rename_i hk
   have hk:k=.free:=by simpa using hk
   rcases uW h with h|⟨h1,h2⟩
   ·rcases bY.mp h with e|h
    ·cases e;exact .inr ⟨hk ▸ bE,rfl⟩
    ·exact .inl h
   ·exact .inr ⟨bI _ h1,h2⟩
  ·rcases uW h with h|⟨h1,h2⟩
   ·exact .inl h
   ·exact .inr ⟨bI _ h1,h2⟩
theorem xV{cells:List (Str×Addr)}:∀{names:List (Str×NameKind)}{acc:List (Str×Addr)}{p:Str×Addr},p∈acc->p∈ez cells names acc
 |[],_,_,h=>h
 |(m,k)::r,acc,p,h=>by
  unfold ez
  split
  ·exact xV (bI _ h)
  ·exact xV h
theorem xW{cells:List (Str×Addr)}:∀{names:List (Str×NameKind)}{acc:List (Str×Addr)}{n:Str},(n,.free)∈names->(n,(cells.lookup n).getD 0)∈ez cells names acc
 |(m,k)::r,acc,n,h=>by
  unfold ez
  rcases bY.mp h with e|h
  ·cases e
   exact xV bE
  ·split
   ·exact xW h
   ·exact xW h
theorem rP:∀{names:List (Str×NameKind)}{h:Heap}{acc:List (Str×Addr)}{x:Str}{c:Addr},(x,c)∈cellsFrom h.objs.size names acc->
  (x,c)∈acc\/((x,.cell)∈names/\h.objs.size<=c/\D4 (pushCells h names) c none)
 |[],_,_,_,_,h=>.inl h
 |(n,k)::r,h,acc,x,c,hm=>by
  unfold cellsFrom at hm
  unfold pushCells
  split at hm
  ·rename_i hk
   rw[af hk]
   have hk:k=.cell:=by simpa using hk
   rw[<-Heap.size_push h {cls:=.type "cell",data:=.cell none}]at hm
   rcases rP hm with hm|⟨h1,h2,h3⟩
   ·rcases bY.mp hm with e|hm
    ·cases e
     exact .inr ⟨hk ▸ bE,aX _,_,pushCells_keeps r _ _ _ (Heap.get?_push_size _ rfl),rfl⟩
    ·exact .inl hm
   ·rw[Heap.size_push]at h2
    exact .inr ⟨bI _ h1,Nat.le_of_succ_le h2,h3⟩
  ·rename_i hk
   rw[ae hk]
   rcases rP hm with hm|⟨h1,h2,h3⟩
   ·exact .inl hm
   ·exact .inr ⟨bI _ h1,h2,h3⟩
theorem uX:∀{names:List (Str×NameKind)}{n:Nat}{acc:List (Str×Addr)}{p:Str×Addr},p∈acc->p∈cellsFrom n names acc
 |[],_,_,_,h=>h
 |(m,k)::r,n,acc,p,h=>by
  unfold cellsFrom
  split
  ·exact uX (bI _ h)
  ·exact uX h
theorem xX:∀{names:List (Str×NameKind)}{n:Nat}{acc:List (Str×Addr)}{x:Str},(x,.cell)∈names->∃c,(x,c)∈cellsFrom n names acc
 |(m,k)::r,n,acc,x,h=>by
  unfold cellsFrom
  rcases bY.mp h with e|h
  ·cases e
   exact⟨n,uX bE⟩
  ·split
   ·exact xX h
   ·exact xX h
theorem xY:∀{names:List (Str×NameKind)}{h:Heap}{acc:List (Str×Addr)}{x y:Str}{c:Addr},(∀p∈acc,p.2<h.objs.size)->(∀x y c,(x,c)∈acc->(y,c)∈acc->x=y)->
  (x,c)∈cellsFrom h.objs.size names acc->(y,c)∈cellsFrom h.objs.size names acc->x=y
 |[],_,_,_,_,_,_,hi,h1,h2=>hi _ _ _ h1 h2
 |(n,k)::r,h,acc,x,y,c,hl,hi,h1,h2=>by
  unfold cellsFrom at h1 h2
  split at h1
  ·rename_i hk
   rw[af hk]at h2
   rw[<-Heap.size_push h {cls:=.type "cell",data:=.cell none}]at h1 h2
   refine xY (h:=h.push _) (fun p hp=>?_) (fun x y c a b=>?_) h1 h2
   ·rw[Heap.size_push]
    rcases bY.mp hp with rfl|hp
    ·exact Nat.lt_succ_self _
    ·exact Nat.lt_succ_of_lt (hl p hp)
   ·rcases bY.mp a with e|a<;>rcases bY.mp b with e'|b
    ·cases e;cases e';rfl
    ·cases e;exact absurd (hl _ b) (i0 _)
    ·cases e';exact absurd (hl _ a) (i0 _)
    ·exact hi _ _ _ a b
  ·rename_i hk
   rw[ae hk]at h2
   exact xY hl hi h1 h2
theorem LQ{M:Model}{A:Around}{E:Value->Shared->Prop}{s:Shared}{scope:Scope}{globals:Addr}{closure:List (Str×Addr)}{qual:Str}{func:Option Addr}{code:Value}{around:Env}{builtins:Addr}{Q:Env->Shared->Prop}
  (h:Q (newEnv scope s.heap.objs.size globals (cellsFrom (s.heap.objs.size+1) scope.names closure) qual func code (some around) builtins)
   {s with heap:=pushCells (s.heap.push {cls:=.type "dict",data:=.dict #[]}) scope.names}):
  wpAny M A (newFunctionEnv scope globals closure [] qual func code (some around) builtins) Q E s:=by
 simp only [newFunctionEnv,Option.isSome_some,if_true]
 refine wpAny_bind (wpAny_alloc ?_)
 refine wpAny_bind (wpAny_layCells _ (fun n k c=>rfl) scope.names closure _ _ ?_)
 rw[show ({s with heap:=s.heap.push {cls:=.type "dict",data:=.dict #[]}}:Shared).heap.objs.size=s.heap.objs.size+1 from Heap.size_push ..]
 rw[List.forIn_nil]
 exact wpAny_bind (wpAny_pure (wpAny_pure h))
theorem xZ{sc:Scope}:∀{names:List (Str×NameKind)}{x:Str}{k:NameKind},
  (names.map fun (n,k)=>if (k == NameKind.free&&sc.kind == .function&&sc.names.lookup n == some .cell) then (n,NameKind.cell) else (n,k)).lookup x=some k->
  ∃k',names.lookup x=some k'/\(k=k'\/(k'=.free/\k=.cell))
 |[],_,_,h=>by simp at h
 |(n,k₀)::r,x,k,h=>by
  have ih:=@xZ sc r x k
  have h':List.lookup x ((if (k₀ == NameKind.free&&sc.kind == .function&&sc.names.lookup n == some .cell)=true then (n,NameKind.cell) else (n,k₀))::(r.map _))=some k:=h
  cases hx:x == n with
  |true=>
   simp only [qU,hx]
   by_cases hc:(k₀ == NameKind.free&&sc.kind == .function&&sc.names.lookup n == some .cell)=true
   ·rw[af hc]at h'
    simp only [qU,hx]at h'
    cases h'
    simp only [br,beq_iff_eq]at hc
    exact⟨k₀,rfl,.inr ⟨hc.1.1,rfl⟩⟩
   ·rw[ae hc]at h'
    simp only [qU,hx]at h'
    cases h'
    exact⟨_,rfl,.inl rfl⟩
  |false=>
   simp only [qU,hx]
   by_cases hc:(k₀ == NameKind.free&&sc.kind == .function&&sc.names.lookup n == some .cell)=true
   ·rw[af hc]at h'
    simp only [qU,hx]at h'
    exact ih h'
   ·rw[ae hc]at h'
    simp only [qU,hx]at h'
    exact ih h'
structure rQ(N:List Str)(sc scope:Scope)(own:List (Str×Nat)):Prop where
 kind:scope.kind=.function
 uniq:∀y∈scope.names,scope.names.lookup y.1=some y.2
 ix:∀p∈own,N[p.2]?=some p.1
 free:∀y∈scope.names,y.2=.free->sc.names.lookup y.1=some .cell\/sc.names.lookup y.1=some .free
 own:∀y∈scope.names,y.2=.local\/y.2=.cell->y.1∈own.map (·.1)\/y.1∉N
noncomputable def wipe(σ:St):List Nat->St
 |[]=>σ
 |v::vs=>(wipe σ vs).set v none
theorem x5(σ:St):∀vs:List Nat,(wipe σ vs).length=σ.length
 |[]=>rfl
 |v::vs=>by unfold wipe;rw[gw,x5 σ vs]
theorem x6{σ:St}{i:Nat}{x:V}:∀{vs:List Nat},(wipe σ vs)[i]?=some (some x)->σ[i]?=some (some x)/\i∉vs
 |[],h=>⟨h,by simp⟩
 |v::vs,h=>by
  unfold wipe at h
  by_cases hi:v=i
  ·subst hi
   by_cases hv:v<(wipe σ vs).length
   ·rw[List.getElem?_set_self hv]at h;cases h
   ·rw[qV (by simpa using hv)]at h;cases h
  ·rw[List.getElem?_set_ne hi]at h
   obtain⟨h1,h2⟩:=x6 h
   exact⟨h1,by simp only [bY,not_or];exact⟨fun e=>hi e.symm,h2⟩⟩
abbrev Cx.e6(X:Cx)(s:Shared)(H:Hp)(scope:Scope)(cenv:Env)(fp:List Addr):Cx:={X with eN:=s,nk:=H,env:=cenv,outer:=X.stack,ex:=fp,fn:=fun x=>scope.names.lookup x == some .cell,pn:=[],xe:=fun _ _=>False}
section
variable{X:Cx}{pins:List (Addr×Obj)}{σ:St}{H:Hp}{s:Shared}
theorem LR{scope:Scope}{own:List (Str×Nat)}{fp:List Addr}(I:Inv X pins σ H s)(ok:rQ X.N X.env.scope scope own)(hN:X.N.Nodup)(hfp:∀b∈fp,jd X pins H b/\b<s.heap.objs.size):
  Inv (X.e6 s H scope (compEnvC scope (cellsFrom (s.heap.objs.size+1) scope.names (ez X.env.cells scope.names [])) s.heap.objs.size X.env) fp) [] (wipe σ (own.map (·.2))) H {s with heap:=pushCells (s.heap.push {cls:=.type "dict",data:=.dict #[]}) scope.names}:=by
 have hfree:∀y∈scope.names,y.2=.free->∃c,X.env.cells.lookup y.1=some c:=fun y hy e=>by
  rcases ok.free y hy e with k|k
  ·exact I.ok.has _ (.inl k)
  ·exact I.ok.has _ (.inr k)
 generalize hcenv:compEnvC scope (cellsFrom (s.heap.objs.size+1) scope.names (ez X.env.cells scope.names [])) s.heap.objs.size X.env=cenv
 have kp:∀b o,s.heap.get? b=some o->(pushCells (s.heap.push {cls:=.type "dict",data:=.dict #[]}) scope.names).get? b=some o:=fun b o e=>pushCells_keeps _ _ _ _ (Heap.get?_push_of_some _ e)
 have hL:cenv.locals=s.heap.objs.size:=by rw[<-hcenv];rfl
 have hcl:cenv.cells=cellsFrom (s.heap.objs.size+1) scope.names (ez X.env.cells scope.names []):=by rw[<-hcenv];rfl
 have hsc:cenv.scope=LO scope X.env.scope:=by rw[<-hcenv];rfl
 rw[<-Heap.size_push s.heap {cls:=.type "dict",data:=.dict #[]}]at hcl
 have cm:∀{y c},(y,c)∈ez X.env.cells scope.names []->X.env.cells.lookup y=some c/\c<s.heap.objs.size:=fun {y c} hm=>by
  rcases uW hm with hm|⟨h1,rfl⟩
  ·cases hm
  ·obtain⟨c,hc⟩:=hfree _ h1 rfl
   rw[hc]
   obtain⟨w,z⟩:=I.cell _ _ hc
   exact⟨rfl,z.lt⟩
 have mem:∀{y c},cenv.cells.lookup y=some c->(X.env.cells.lookup y=some c/\c<s.heap.objs.size)\/(s.heap.objs.size+1<=c/\D4 (pushCells (s.heap.push {cls:=.type "dict",data:=.dict #[]}) scope.names) c none):=fun {y c} e=>by
  rw[hcl]at e
  rcases rP (iE e) with hm|⟨_,h2,h3⟩
  ·exact .inl (cm hm)
  ·rw[Heap.size_push]at h2;exact .inr ⟨h2,h3⟩
 have look:∀{y},scope.names.lookup y=some .free->∃c,cenv.cells.lookup y=some c/\X.env.cells.lookup y=some c:=fun {y} hl=>by
  have hy:(y,NameKind.free)∈scope.names:=iE hl
  obtain⟨c',e'⟩:=mem_lookup (uX (names:=scope.names) (n:=(s.heap.push {cls:=.type "dict",data:=.dict #[]}).objs.size) (xW (cells:=X.env.cells) (acc:=[]) hy))
  rw[<-hcl]at e'
  refine⟨c',e',?_⟩
  rw[hcl]at e'
  rcases rP (iE e') with hm|⟨h1,_,_⟩
  ·exact(cm hm).1
  ·have:=ok.uniq _ h1
   rw[hl]at this;cases this
 have okB:(X.e6 s H scope cenv fp).Ok:=by
  refine⟨I.ok.mod,by show cenv.scope.kind=_;rw[hsc];exact ok.kind,by show cenv.globals=_;rw[<-hcenv];exact I.ok.glob,by show cenv.builtins=_;rw[<-hcenv];exact I.ok.blt,by show s.heap.objs.size<=cenv.locals;rw[hL];exact aX _,
   fun y z c e1 e2=>?_,fun y hy=>?_,fun y c z e=>?_,I.ok.hd,I.ok.frames,.inl rfl,fun b hb=>⟨?_,fun y c e z=>?_⟩,I.bs,cC I.ok.lu I.sz,fun b o e hb=>?_,fun b hb z=>?_,I.stack,I.CV⟩
  ·have e1:cenv.cells.lookup y=some c:=e1
   have e2:cenv.cells.lookup z=some c:=e2
   rw[hcl]at e1 e2
   refine xY (fun p hp=>?_) (fun y z c a b=>I.ok.inj y z c (cm a).1 (cm b).1) (iE e1) (iE e2)
   rw[Heap.size_push]
   exact Nat.lt_succ_of_lt (cm (y:=p.1) (c:=p.2) hp).2
  ·show ∃c,cenv.cells.lookup y=some c
   have key:∀k,cenv.kindOf y=some k->(k=.cell\/k=.free)->∃c,cenv.cells.lookup y=some c:=fun k hk hk'=>by
    unfold Env.kindOf at hk
    rw[hsc]at hk
    obtain⟨k',e,r⟩:=xZ hk
    have:k'=.cell\/k'=.free:=by
     rcases r with rfl|⟨rfl,_⟩
     ·exact hk'
     ·exact .inr rfl
    rcases this with rfl|rfl
    ·obtain⟨c,hm⟩:=xX (n:=(s.heap.push {cls:=.type "dict",data:=.dict #[]}).objs.size) (acc:=ez X.env.cells scope.names []) (iE e)
     obtain⟨c',e'⟩:=mem_lookup hm
     exact⟨c',by rw[hcl];exact e'⟩
    ·obtain⟨c,h1,_⟩:=look e
     exact⟨c,h1⟩
   rcases hy with hy|hy
   ·exact key _ hy (.inl rfl)
   ·exact key _ hy (.inr rfl)
  ·have z:(scope.names.lookup y == some NameKind.cell)=true:=z
   have z:scope.names.lookup y=some .cell:=by simpa using z
   have e:cenv.cells.lookup y=some c:=e
   rw[hcl]at e
   rcases rP (iE e) with hm|⟨_,h2,_⟩
   ·rcases uW hm with hm|⟨h1,_⟩
    ·cases hm
    ·have q:=ok.uniq _ h1
     rw[z]at q;cases q
   ·rw[Heap.size_push]at h2
    exact Nat.le_of_succ_le h2
  ·show b≠cenv.locals
   rw[hL];exact gJ (hfp b hb).2
  ·have e:cenv.cells.lookup y=some c:=e
   rcases mem e with ⟨h1,_⟩|⟨h1,_⟩
   ·exact(hfp b hb).1.2.2.2.2.1 y c h1 z
   ·have h2:s.heap.objs.size+1<=b:=by rw[<-z];exact h1
    exact absurd (gI (hfp b hb).2 (Nat.le_of_succ_le h2)) (i0 _)
  ·rcases(hfp b hb).1.2.2.2.1 with z|z
   ·exact I.ok.rC b o e z
   ·exact absurd (gI (Heap.lt_size e) (cC I.ok.lu z)) (i0 _)
  ·rcases bY.mp (I.xA b z) with z|z
   ·exact(hfp b hb).1.2.1 z
   ·exact(hfp b hb).1.2.2.1 z
 refine⟨okB,rfl,I.bare,Un.kept kp,⟨fun _=>none,?_,fun i y av e1 e2 e3=>?_⟩,fun y c e=>?_,?_,fun y c e=>?_,fun p hp=>?_,I.aP.kept kp,by rw[x5];exact I.len⟩
 ·show Heap.Ns _ cenv.locals _
  rw[hL]
  exact Heap.Ns.keeps (Heap.Ns.new ..) fun b o e=>pushCells_keeps _ _ _ _ e
 ·obtain⟨e2,hne⟩:=x6 e2
  have hfr:scope.names.lookup y=some .free/\(cenv.kindOf y=some .cell\/cenv.kindOf y=some .free):=by
   have key:∀k,cenv.scope.names.lookup y=some k->k=.local\/k=.cell\/k=.free->scope.names.lookup y=some .free/\(cenv.kindOf y=some .cell\/cenv.kindOf y=some .free):=fun k hk hk'=>by
    have hk0:=hk
    rw[hsc]at hk
    obtain⟨k',e,r⟩:=xZ hk
    have no:¬(k'=.local\/k'=.cell):=fun hh=>by
     rcases ok.own _ (iE e) hh with e'|e'
     ·obtain⟨p,hp,hpy⟩:=bZ.mp e'
      have e3:=ok.ix p hp
      have:p.1=y:=hpy
      rw[this]at e3
      exact hne (bZ.mpr ⟨p,hp,xB hN e3 e1⟩)
     ·exact e' (m_ e1)
    rcases r with rfl|⟨rfl,rfl⟩
    ·rcases hk' with rfl|rfl|rfl
     ·exact absurd (.inl rfl) no
     ·exact absurd (.inr rfl) no
     ·exact⟨e,.inr hk0⟩
    ·exact⟨e,.inl hk0⟩
   have e3:pF cenv.scope y:=e3
   rcases e3 with e3|e3|e3
   ·exact key _ e3 (.inl rfl)
   ·exact key _ e3 (.inr (.inl rfl))
   ·exact key _ e3 (.inr (.inr rfl))
  obtain⟨m,hn,hl⟩:=I.loc
  have hvis:pF X.env.scope y:=(ok.free _ (iE hfr.1) rfl).elim (fun k=>.inr (.inl k)) (fun k=>.inr (.inr k))
  obtain⟨w,r,q⟩:=hl i y av e1 e2 hvis
  refine⟨w,r,.inr ⟨hfr.2,?_⟩⟩
  obtain⟨c,h1,h2⟩:=look hfr.1
  rcases q with ⟨k,_⟩|⟨_,c',e',z⟩
  ·have k:X.env.scope.names.lookup y=some .local:=k
   rcases ok.free _ (iE hfr.1) rfl with k'|k'<;>rw[show X.env.scope.names.lookup y=_ from k']at k<;>cases k
  ·rw[h2]at e';cases e'
   exact⟨c,h1,z.keeps kp⟩
 ·have e:cenv.cells.lookup y=some c:=e
  rcases mem e with ⟨h1,_⟩|⟨_,z⟩
  ·obtain⟨w,z⟩:=I.cell y c h1
   exact⟨w,z.keeps kp⟩
  ·exact⟨_,z⟩
 ·show H cenv.locals=none
  rw[hL];exact I.aP.fresh (aX _)
 ·have e:cenv.cells.lookup y=some c:=e
  rcases mem e with ⟨h1,_⟩|⟨h1,_⟩
  ·exact I.iI y c h1
  ·exact I.aP.fresh (Nat.le_of_succ_le h1)
 ·exact absurd (show p∈([]:List (Addr×Obj))++[] from hp) (by simp)
theorem LS{E:Value->Shared->Prop}{D:Addr}{xs:List V}{y:V}{v:Value}{Q:Value->Shared->Prop}(I:Inv X pins σ H s)(hD:H D=some (.lst xs))(hz:xs.length<sizeLine)(r:RelV y v)
  (h:∀s',Inv X pins σ (upd H D (.lst (xs++[y]))) s'->Q .none s'):wpAny (model X.prog X.w) X.A (call (.builtin "list.append") [.ref D,v]) Q E s:=by
 obtain⟨hz',its,n,ri,e⟩:=I.aP D _ hD
 have hl:=ri.length
 refine append_at (hsz:=by rw[c5];lia) e fun h' sb ho'=>?_
 refine h {s with heap:=h'} (I.write (t':=s.toks) (by rw[hD];trivial) (.inl rfl) (fun b u hb q=>(sb.2 b hb).trans q) ⟨_,ho'⟩ ⟨by rw[bF];exact hz,its++[v],n+1,ri.append (.cons r .nil),?_⟩)
 rw[ho']
 simp
noncomputable def rR(X:Cx)(ifs:List Expr)(t:TT):Prop:=
 ∀(pins:List (Addr×Obj)) (s:Shared) (σ:St) (H:Hp) (Q:Bool->Hp->Prop),Inv X pins σ H s->t σ H Q->
  wpAny (model X.prog X.w) X.A (forIn ifs true fun c r=>if r=true then do let ok <-isTrue c X.env (eval c X.env);pure (ForInStep.yield ok) else pure (ForInStep.yield r)) (TP X pins σ Q) X.xe s
noncomputable def D6:TT:=fun _ H Q=>Q true H
theorem iP:rR X [] D6:=fun _ _ _ H _ I h=>wpAny_tests_nil ⟨H,I,h⟩
theorem rS{c:Expr}{t:TT}(h:PT X c t):rR X [c] t:=fun pins s σ H Q I hw=>wpAny_tests_one (h pins s σ H Q I hw)
end
theorem pO{α:Type}{t:Sem α}{Q Q':α->Shared->Prop}{M:Model}{A:Around}{E:Value->Shared->Prop}{s:Shared}(h:wpAny M A t Q (fun _ _=>False) s)(hQ:∀a s,Q a s->Q' a s):wpAny M A t Q' E s:=wpAny_mono h hQ fun _ _ z=>False.elim z
theorem LU{prog:Program}{w:World}{A:Around}{R:Result->Shared->Prop}{s:Shared}{elt target iter:Expr}{ifs:List Expr}{scope:Scope}{pos:Pos}{it acc:Value}{env:Env}(I:Nat->Shared->Prop)
  (turn:∀n s,I n s->wpAny (model prog w) A (pyNext it) (fun r s₁=>match r with
   |none=>R (.ok .next) s₁
   |some v=>wpAny (model prog w) A (letOwnedTupleGo target it v) (fun _ s₁'=>wpAny (model prog w) A (assign target env v) (fun _ s₂=>
     wpAny (model prog w) A (forIn ifs true fun c r=>if r=true then do let ok <-isTrue c env (eval c env);pure (ForInStep.yield ok) else pure (ForInStep.yield r)) (fun ok s₃=>
      if ok=true then wpAny (model prog w) A (eval elt env) (fun x s₄=>
       wpAny (model prog w) A (call (.builtin "list.append") [acc,x]) (fun _ s₅=>∃m,m<n/\I m s₅) (notedBy (model prog w) A env fun e s'=>R (.error e) s') s₄) (notedBy (model prog w) A env fun e s'=>R (.error e) s') s₃
      else ∃m,m<n/\I m s₃) (notedBy (model prog w) A env fun e s'=>R (.error e) s') s₂) (notedBy (model prog w) A env fun e s'=>R (.error e) s') s₁') (notedBy (model prog w) A env fun e s'=>R (.error e) s') s₁) (notedBy (model prog w) A env fun e s'=>R (.error e) s') s)
  (n:Nat)(h:I n s):
  codeAny (model prog w) A (.compLoop (.ListComp elt [⟨target,iter,ifs,0⟩] scope pos) 0 it acc env) R s:=by
 refine codeAny_loop rfl I (fun n s hI=>?_) n h
 show wpAny _ A ((compTurn (.ListComp elt [⟨target,iter,ifs,0⟩] scope pos) 0 it acc env).onRaise (fun x=>do noteFrame x env;theTreesLotGoes x)) _ _ s
 refine wpAny_noted ?_
 rw[compTurn_list]
 refine wpAny_bind (wpAny_standAt (wpAny_bind (wpAny_mono (turn n s hI) (fun r s₁ h₁=>?_) fun _ _ h'=>h')))
 cases r with
 |none=>exact wpAny_pure h₁
 |some v=>
  refine wpAny_bind (wpAny_mono h₁ (fun _ s₁' h₁'=>?_) fun _ _ h'=>h')
  refine wpAny_bind (wpAny_mono h₁' (fun _ s₂ h₂=>wpAny_bind (wpAny_mono h₂ (fun ok s₃ h₃=>?_) fun _ _ h'=>h')) fun _ _ h'=>h')
  cases ok with
  |false=>exact wpAny_pure ⟨rfl,h₃⟩
  |true=>
   exact wpAny_bind (wpAny_bind (wpAny_mono h₃ (fun x s₄ h₄=>wpAny_bind (wpAny_mono h₄ (fun _ s₅ h₅=>wpAny_pure (wpAny_pure ⟨rfl,h₅⟩)) fun _ _ h'=>h')) fun _ _ h'=>h'))
section
variable{X:Cx}
noncomputable def rT(wi:TI)(g:TG)(tt:TT)(te:TE)(vs:List Nat):TE:=fun σ H Q=>wi σ H fun J H1=>∀D,H1 D=none->∃W:Nat->Nat->Hp->Prop,(∃m,W 0 m (upd H1 D (.lst [])))/\∀i m H,W i m H->
 (J.stop i H/\Q (.ref D) H)\/(J.go i H/\∃Nx:Hp->Prop,(∀H',Nx H'->∃m',m'<m/\W (i+1) m' H')/\∀x H',J.iK i H x H'->g x (wipe σ vs) H' fun σ2 H2=>wipe σ2 vs=wipe σ vs/\tt σ2 H2 fun b H3=>
  if b=true then te σ2 H3 fun y H4=>∃acc,H4 D=some (.lst acc)/\acc.length<sizeLine/\Nx (upd H4 D (.lst (acc++[y]))) else Nx H3)
theorem D7{pins:List (Addr×Obj)}{s:Shared}{σ:St}{H:Hp}{Q:VK}{elt tg iter:Expr}{ifs:List Expr}{scope:Scope}{own:List (Str×Nat)}{pos pos':Pos}{wi:TI}{g:TG}{tt:TT}{te:TE}{use:Option (Value->Sem Unit)}{Qf:Value->Shared->Prop}
  (hc:X.calm=true)(hN:X.N.Nodup)(I:Inv X pins σ H s)(hi:PI X tg iter wi)(ok:rQ X.N X.env.scope scope own)
  (hg:∀(s:Shared) (H:Hp) (C:Addr) (cl:List (Str×Addr)) (fp:List Addr),PG (X.e6 s H scope (compEnvC scope cl C X.env) fp) tg g)(ht:∀(s:Shared) (H:Hp) (C:Addr) (cl:List (Str×Addr)) (fp:List Addr),rR (X.e6 s H scope (compEnvC scope cl C X.env) fp) ifs tt)
  (he:∀(s:Shared) (H:Hp) (C:Addr) (cl:List (Str×Addr)) (fp:List Addr),PE (X.e6 s H scope (compEnvC scope cl C X.env) fp) elt te)(hs:∀x,foldedSetIterable iter X.env x=pure x)
  (h:rT wi g tt te (own.map (·.2)) σ H Q)
  (hRR:∀D C s' m H',Inv X pins σ H' s'->Q (.ref D) H'->s'.heap.Ns C m->jd X pins H' C->compPost (model X.prog X.w) X.A X.xe use Qf (.ref D) C (.ok .next) s'):
  wpAny (model X.prog X.w) X.A (comprehension (.ListComp elt [⟨tg,iter,ifs,0⟩] scope pos) scope X.env pos' (newList []) false (eval iter X.env) use) Qf X.xe s:=by
 have hfree:∀y∈scope.names,y.2=.free->∃c,X.env.cells.lookup y.1=some c:=fun y hy e=>by
  rcases ok.free y hy e with k|k
  ·exact I.ok.has _ (.inl k)
  ·exact I.ok.has _ (.inr k)
 refine wpAny_comprehension_free (use:=use) rfl hs (LP hfree) ok.kind (fun y hy e=>by rw[ok.uniq y hy,e])
  (aU (hi pins s σ H _ I h) fun xv s1 hx=>aU hx fun itv s2 h2=>?_)
 obtain⟨it,fp,tn,J,H2,e,I2,T,st2,f2,q⟩:=h2
 subst e
 refine wpAny_newObj_type (LQ ?_) (by show 0<=sizeLine;decide)
 generalize hD:s2.heap.objs.size=D
 have hDn:H2 D=none:=I2.aP.fresh (Nat.le_of_eq hD)
 obtain⟨W,⟨m0,w0⟩,turn⟩:=q D hDn
 generalize hs3:({s2 with heap:=s2.heap.push {cls:=.type "list",data:=.seq ([]:List Value).toArray}}:Shared)=s3
 have I3:Inv X pins σ (upd H2 D (.lst [])) s3:=by
  rw[<-hs3]
  refine I2.laid (t':=s2.toks) (fun b o e=>Heap.get?_push_of_some _ e) (Nat.le_of_eq hD) ⟨be _,[],0,.nil,?_⟩
  rw[<-hD]
  exact Heap.get?_push_size _ rfl
 have h3:s3.heap=s2.heap.push {cls:=.type "list",data:=.seq ([]:List Value).toArray}:=by rw[<-hs3]
 have sz:∀b∈fp,b<s2.heap.objs.size:=fun b hb=>by
  obtain⟨o,e,_⟩:=T.obj _ _ st2 b hb
  exact Heap.lt_size e
 have f3:∀b∈fp,jd X pins (upd H2 D (.lst [])) b/\b<s3.heap.objs.size:=fun b hb=>by
  have hlt:=sz b hb
  refine⟨⟨?_,(f2 b hb).2⟩,by rw[h3,Heap.size_push];exact Nat.lt_succ_of_lt hlt⟩
  rw[ax (by rw[<-hD];exact gJ hlt)]
  exact(f2 b hb).1
 have st3:tn 0 s3.heap:=T.keep _ _ _ st2 fun b _ o e=>by rw[h3];exact Heap.get?_push_of_some _ e
 have I4:=LR I3 ok hN f3
 have pg:=hg s3 (upd H2 D (.lst [])) s3.heap.objs.size (cellsFrom (s3.heap.objs.size+1) scope.names (ez X.env.cells scope.names [])) fp
 have pt:=ht s3 (upd H2 D (.lst [])) s3.heap.objs.size (cellsFrom (s3.heap.objs.size+1) scope.names (ez X.env.cells scope.names [])) fp
 have pe:=he s3 (upd H2 D (.lst [])) s3.heap.objs.size (cellsFrom (s3.heap.objs.size+1) scope.names (ez X.env.cells scope.names [])) fp
 show codeAny _ _ (.compStart (.ListComp elt [⟨tg,iter,ifs,0⟩] scope pos) 0 (.ref it) (.ref D) (compEnvC scope (cellsFrom (s3.heap.objs.size+1) scope.names (ez X.env.cells scope.names [])) s3.heap.objs.size X.env)) (compPost (model X.prog X.w) X.A X.xe use Qf (.ref D) s3.heap.objs.size) {s3 with heap:=pushCells (s3.heap.push {cls:=.type "dict",data:=.dict #[]}) scope.names}
 have nfp:∀b∈fp,(upd H2 D (.lst [])) b=none:=fun b hb=>(f3 b hb).1.1
 generalize hce:compEnvC scope (cellsFrom (s3.heap.objs.size+1) scope.names (ez X.env.cells scope.names [])) s3.heap.objs.size X.env=ce at I4 pg pt pe ⊢
 have cL:ce.locals=s3.heap.objs.size:=by subst hce;rfl
 generalize hH3:upd H2 D (.lst [])=H3 at I3 I4 pg pt pe w0 nfp f3
 generalize hs4:({s3 with heap:=pushCells (s3.heap.push {cls:=.type "dict",data:=.dict #[]}) scope.names}:Shared)=s4 at I4 ⊢
 have st4:tn 0 s4.heap:=T.keep _ _ _ st3 fun b _ o e=>by rw[<-hs4];exact pushCells_keeps _ _ _ _ (Heap.get?_push_of_some _ e)
 have stat:∀{σ':St}{H':Hp}{s':Shared},Inv (X.e6 s3 H3 scope ce fp) [] σ' H' s'->(∀b∈fp,H' b=none)->∀b∈fp,jd (X.e6 s3 H3 scope ce fp) [] H' b:=fun {σ' H' s'} I' hn b hb=>
  ⟨hn b hb,(I'.ok.uE b hb).1,I'.ok.rD b hb,.inl hb,fun x c e=>(I'.ok.uE b hb).2 x c e,fun p hp=>absurd (show p∈([]:List (Addr×Obj))++[] from hp) (by simp)⟩
 have loop:codeAny (model X.prog X.w) X.A (.compLoop (.ListComp elt [⟨tg,iter,ifs,0⟩] scope pos) 0 (.ref it) (.ref D) ce) (compPost (model X.prog X.w) X.A X.xe use Qf (.ref D) s3.heap.objs.size) s4:=by
  refine LU (fun n s'=>∃i H',Inv (X.e6 s3 H3 scope ce fp) [] (wipe σ (own.map (·.2))) H' s'/\tn i s'.heap/\(∀b∈fp,H' b=none)/\W i n H') ?_ m0 ⟨0,H3,I4,st4,nfp,w0⟩
  rintro n s5 ⟨i,H5,I5,st5,n5,w5⟩
  rcases turn i n H5 w5 with ⟨stop,qq⟩|⟨go,Nx,hNx,step⟩
  ·have td:=T.done (X.e6 s3 H3 scope ce fp) rfl rfl rfl hc i [] s5 _ H5 (fun _ _=>False) I5 (stat I5 n5) st5 stop
   refine pO td fun r s6 ⟨hr,I6⟩=>?_
   subst hr
   have I7:Inv X pins σ H5 s6:=I3.Kg (ch:=fp) I6.os I6.base I6.aP I6.bare fun b hb=>⟨(f3 b hb).1.2.2.2.1,(f3 b hb).1.2.1,(f3 b hb).1.2.2.2.2.1,(f3 b hb).1.2.2.2.2.2⟩
   have nC:H5 s3.heap.objs.size=none:=by
    have z:H5 ce.locals=none:=I6.free
    rw[cL]at z
    exact z
   obtain⟨m,hn,_⟩:=I6.loc
   have hn:s6.heap.Ns ce.locals m:=hn
   rw[cL]at hn
   exact hRR D s3.heap.objs.size s6 m H5 I7 qq hn (I3.pI (aX _) nC)
  ·have ti:=T.item (X.e6 s3 H3 scope ce fp) rfl rfl rfl hc i [] s5 _ H5 (fun _ _=>False) I5 (stat I5 n5) st5 go
   refine pO ti fun r s6 ⟨u,hr,h6⟩=>?_
   subst hr
   refine pO h6 fun _ s7 ⟨x,H7,I7,r7,y7,st7,n7⟩=>?_
   have I7':=I7.pinned (stat I7 n7) (T.obj _ _ st7)
   refine pO (pg _ s7 _ H7 x u _ I7' r7 (step x H7 y7)) fun _ s8 ⟨σ8,H8,I8,hw8,q8⟩=>?_
   refine pO (pt _ s8 σ8 H8 _ I8 q8) fun b s9 ⟨H9,I9,q9⟩=>?_
   have fin:∀{s':Shared}{H':Hp},Inv (X.e6 s3 H3 scope ce fp) ([]++rJ fp s7.heap) σ8 H' s'->Nx H'->∃m,m<n/\∃i H',Inv (X.e6 s3 H3 scope ce fp) [] (wipe σ (own.map (·.2))) H' s'/\tn i s'.heap/\(∀b∈fp,H' b=none)/\W i m H':=fun {s' H'} I' nx=>by
    obtain⟨m',hm,w'⟩:=hNx H' nx
    have pin':∀b∈fp,∀o,s7.heap.get? b=some o->s'.heap.get? b=some o/\H' b=none:=fun b hb o e=>
     let z:=I'.pin (b,o) (d_ _ (d_ _ (xG hb e)))
     ⟨z.1,z.2.1⟩
    have hl:(wipe σ (own.map (·.2))).length=σ8.length:=by rw[<-hw8,x5]
    refine⟨m',hm,i+1,H',(I'.uL (pins:=[])).weak hl (fun j v e=>?_),T.keep _ _ _ st7 fun b hb o e=>(pin' b hb o e).1,fun b hb=>?_,w'⟩
    ·rw[<-hw8]at e
     exact(x6 e).1
    ·obtain⟨o,e,_⟩:=T.obj _ _ st7 b hb
     exact(pin' b hb o e).2
   cases b with
   |false=>
    simp only [Bool.false_eq_true,if_false]at q9 ⊢
    exact fin I9 q9
   |true=>
    simp only [if_true]at q9 ⊢
    refine pO (pe _ s9 σ8 H9 _ I9 q9) fun z s10 ⟨yv,H10,I10,r10,acc,hD10,hz10,nx⟩=>?_
    exact LS (X:=X.e6 s3 H3 scope ce fp) I10 hD10 hz10 r10 fun s11 I11=>fin I11 nx
 exact codeAny_compStart_list loop (T.self X.A 0 _ _ _ st4 loop)
theorem iQ{elt tg iter:Expr}{ifs:List Expr}{scope:Scope}{own:List (Str×Nat)}{pos:Pos}{wi:TI}{g:TG}{tt:TT}{te:TE}(hc:X.calm=true)(hN:X.N.Nodup)(hi:PI X tg iter wi)(ok:rQ X.N X.env.scope scope own)
  (hg:∀(s:Shared) (H:Hp) (C:Addr) (cl:List (Str×Addr)) (fp:List Addr),PG (X.e6 s H scope (compEnvC scope cl C X.env) fp) tg g)(ht:∀(s:Shared) (H:Hp) (C:Addr) (cl:List (Str×Addr)) (fp:List Addr),rR (X.e6 s H scope (compEnvC scope cl C X.env) fp) ifs tt)
  (he:∀(s:Shared) (H:Hp) (C:Addr) (cl:List (Str×Addr)) (fp:List Addr),PE (X.e6 s H scope (compEnvC scope cl C X.env) fp) elt te)(hs:∀x,foldedSetIterable iter X.env x=pure x:=by intro _;rfl):
  PE X (.ListComp elt [⟨tg,iter,ifs,0⟩] scope pos) (rT wi g tt te (own.map (·.2))):=by
 intro pins s σ H Q I h
 rw[eval_ListComp]
 refine D7 hc hN I hi ok hg ht he hs h fun D C s' m H' I' q hn f=>⟨m,hn,fun h'' sb=>?_⟩
 obtain⟨f0,f1,f2,f3,f4,f5⟩:=f
 exact⟨.ref D,H',I'.turned (t':=s'.toks) (fun b o hb e=>(sb.2 b hb).trans e) f0 f1 f3 f4 f5,rfl,q⟩
theorem rV{i:Nat}{y:Str}{py:Pos}{elt tg iter:Expr}{ifs:List Expr}{scope:Scope}{own:List (Str×Nat)}{pos spos:Pos}{wi:TI}{g:TG}{tt:TT}{te:TE}(hc:X.calm=true)(hN:X.N.Nodup)(hy:X.N[i]?=some y)(hyl:X.env.scope.names.lookup y=some .local)
  (hsw:swapsWith (.ListComp elt [⟨tg,iter,ifs,0⟩] scope pos) (some (.Name y py)) spos.line X.env=pure true)(hi:PI X tg iter wi)(ok:rQ X.N X.env.scope scope own)
  (hg:∀(s:Shared) (H:Hp) (C:Addr) (cl:List (Str×Addr)) (fp:List Addr),PG (X.e6 s H scope (compEnvC scope cl C X.env) fp) tg g)(ht:∀(s:Shared) (H:Hp) (C:Addr) (cl:List (Str×Addr)) (fp:List Addr),rR (X.e6 s H scope (compEnvC scope cl C X.env) fp) ifs tt)
  (he:∀(s:Shared) (H:Hp) (C:Addr) (cl:List (Str×Addr)) (fp:List Addr),PE (X.e6 s H scope (compEnvC scope cl C X.env) fp) elt te)(hs:∀x,foldedSetIterable iter X.env x=pure x:=by intro _;rfl):
  PS X (.Assign [.Name y py] (.ListComp elt [⟨tg,iter,ifs,0⟩] scope pos) spos) (lD (rT wi g tt te (own.map (·.2))) (dy i)):=by
 intro pins s σ H D I h
 rw[exec_Assign_Name_used _ _ _ _ hsw]
 refine wpAny_bind (wpAny_standAt (wpAny_bind ?_))
 show wpAny _ X.A (do let _ <-comprehension (.ListComp elt [⟨tg,iter,ifs,0⟩] scope pos) scope X.env (firstIterPos [⟨tg,iter,ifs,0⟩] pos) (newList []) false (eval iter X.env) (some (assign (.Name y py) X.env))) _ _ s
 have h:rT wi g tt te (own.map (·.2)) σ H (fun x H1=>dy i x σ H1 D.nx):=h
 refine wpAny_bind (aU (D7 (Qf:=fun _ s'=>SP X pins D .next s') hc hN I hi ok hg ht he hs h fun L C s' m H' I' q hn f=>?_) fun _ s' hq=>wpAny_pure (wpAny_pure hq))
 show wpAny _ _ (assign (.Name y py) X.env (.ref L)) _ _ _
 refine wpAny_assign_Name (CY (v:=V.ref L) I' hN hy (.inl hyl) rfl (fun s2 I2 ⟨a,sb,ha⟩=>?_) (.inr hyl))
 obtain⟨f0,f1,f2,f3,f4,f5⟩:=f
 have haC:C≠a:=by
  rcases ha with z|z
  ·rw[z];exact f1
  ·exact fun e=>f4 y a z e.symm
 refine⟨m,hn.sameBut sb haC,fun h3 sb3=>?_⟩
 exact⟨_,H',I2.turned (t':=s2.toks) (fun b o hb e=>(sb3.2 b hb).trans e) f0 f1 f3 f4 f5,q⟩
end
noncomputable def D8(N:List Str)(sc scope:Scope)(own:List (Str×Nat)):Bool:=
 (match scope.kind with|.function=>true|_=>false)&&(scope.names.all fun y=>decide (scope.names.lookup y.1=some y.2))&&(own.all fun p=>decide (N[p.2]?=some p.1))&&
  (scope.names.all fun y=>match y.2 with
   |.free=>(match sc.names.lookup y.1 with|some .cell=>true|some .free=>true|_=>false)
   |.local=>decide (y.1∈own.map (·.1))||decide (y.1∉N)
   |.cell=>decide (y.1∈own.map (·.1))||decide (y.1∉N)
   |_=>true)
theorem fP{N:List Str}{sc scope:Scope}{own:List (Str×Nat)}(h:D8 N sc scope own=true):rQ N sc scope own:=by
 unfold D8 at h
 simp only [br,mq,gL]at h
 obtain⟨⟨⟨h1,h2⟩,h3⟩,h4⟩:=h
 refine⟨?_,h2,h3,fun y hy e=>?_,fun y hy e=>?_⟩
 ·split at h1
  ·assumption
  ·cases h1
 ·have q:=h4 y hy
  simp only [e]at q
  split at q<;>first|exact .inl (by assumption)|exact .inr (by assumption)|cases q
 ·have q:=h4 y hy
  rcases e with e|e<;>(simp only [e,mv,gL]at q;exact q)
end L2
namespace L2
open PySem PySem.Spec PyProof.Rows
section
variable{κ:Type}[DecidableEq κ]
noncomputable def lJ(kvs:List (κ×V))(k:κ):Option V:=(kvs.find? fun kv=>decide (kv.1=k)).map (·.2)
theorem LV{p:κ×V}{r:List (κ×V)}{k:κ}(e:p.1=k):lJ (p::r) k=some p.2:=by simp[lJ,uu,e]
theorem LW{p:κ×V}{r:List (κ×V)}{k:κ}(e:¬p.1=k):lJ (p::r) k=lJ r k:=by simp[lJ,uu,e]
theorem KV.val{kvs:List (κ×V)}{vs:List (κ×Value)}(r:KV kvs vs)(k:κ):i9 (lJ kvs k) (valueAt vs k):=by
 unfold KV at r
 induction r with
 |nil=>exact True.intro
 |@cons p q ps qs h t ih=>
  obtain⟨h1,h2⟩:=h
  by_cases e:p.1=k
  ·have e':q.1=k:=h1.symm.trans e
   have b:valueAt (q::qs) k=some q.2:=by simp[valueAt,uu,e']
   rw[LV e,b];exact h2
  ·have e':¬q.1=k:=fun z=>e (h1.trans z)
   have b:valueAt (q::qs) k=valueAt qs k:=by simp[valueAt,uu,e']
   rw[LW e,b];exact ih
end
theorem LX{P:Program}{w:World}{k:Key}{u:Value}(r:RelV (kV k) u):(lg P w).is k u=true:=by
 cases k with
 |inl i=>obtain⟨t,e⟩:=(show ∃t,u=Value.int i t from r);subst e;exact J_ P w i t
 |inr x=>obtain⟨t,e⟩:=(show ∃t,u=Value.str x t from r);subst e;exact Ka P w x t
noncomputable def D9(i:Expr):Prop:=∀ov iv,subscripted i false ov iv=operate [ov,iv] (getItem ov iv)
theorem LY{prog:Program}{w:World}{A:Around}{E:Value->Shared->Prop}{s:Shared}{env:Env}{value slice:Expr}{pos:Pos}{T id:String}{Q:Value->Shared->Prop}
  (hl:typeLookup (.type T) "__getitem__"=pure (some (.builtin id)))(hs:D9 slice)
  (h:wpAny (model prog w) A (eval value env) (fun o s₁=>wpAny (model prog w) A (eval slice env) (fun i s₂=>s₂.TypeIs o T/\wpAny (model prog w) A (getItem o i) Q E s₂) E s₁) E s):
  wpAny (model prog w) A (eval (.Subscript value slice pos) env) Q E s:=by
 refine Subscript_ (wpAny_mono h (fun o s₁ h₁=>wpAny_mono h₁ (fun i s₂ h₂=>?_) fun _ _ x=>x) fun _ _ x=>x)
 obtain⟨hT,h₂⟩:=h₂
 unfold subscriptTail
 refine wpAny_bind ?_
 rw[getitemInPython_of_ne hT.not_modules]
 refine wpAny_bind (wpAny_specialOf hT hl ?_)
 have fin:wpAny (model prog w) A (subscripted slice false o i) (fun r s₃=>wpAny (model prog w) A (letTemporaryGo value o r >>= fun _=>pure r) Q E s₃) E s₂:=by
  rw[hs o i]
  exact wpAny_operating (wpAny_mono h₂ (fun r s₃ h₃=>wpAny_bind (wpAny_letTemporaryGo (wpAny_pure h₃))) fun _ _ x=>x)
 first
  |exact wpAny_pure (wpAny_bind fin)
  |exact wpAny_bind (wpAny_pure (wpAny_bind fin))
  |exact wpAny_bind fin
end L2
namespace L2
open PySem PySem.Spec PyProof.Rows
theorem LZ:bootBuiltins "reversed"=some (.type "reversed"):=by decide+kernel
section
variable{X:Cx}{pins:List (Addr×Obj)}{σ:St}{H:Hp}{s:Shared}{h':Heap}
theorem Inv.L4{t':Nat}{ch:List Addr}(I:Inv X pins σ H s)(k:∀b o,b∉ch->s.heap.get? b=some o->h'.get? b=some o)(hf:∀b∈ch,jd X pins H b):Inv X pins σ H {s with heap:=h',toks:=t'}:=by
 have nit:∀b u,H b=some u->b∉ch:=fun b u e z=>by
  have q:=(hf b z).1
  rw[q]at e;cases e
 refine I.step (g':=s.gens) (d':=s.drawn) (ch:=ch) (fun b hb=>⟨(hf b hb).2.2.2.1,(hf b hb).2.1,(hf b hb).2.2.2.2.1,(hf b hb).2.2.2.2.2⟩) (fun b o _ _ hc e _=>k b o hc e) (fun b o _ _ hc e _=>⟨o.slots,k b o hc e⟩)
  (fun _ _ _ _ n=>n) (fun b o hc e=>⟨o,k b o hc e⟩) (fun _ _ e=>e) (fun _ _ _ e=>e) (fun b ps e=>⟨#[],by rw[e];simp⟩) (fun m hm=>?_) (fun b u e=>?_) I.bare
 ·obtain⟨o,es,ep,ho,r⟩:=hm
  exact⟨o,es,ep,k _ o (fun z=>(hf _ z).2.1 rfl) ho,r⟩
 ·refine(I.aP b u e).ki (fun c v hc q=>k c v ?_ q) (fun _ q=>q) fun _ _ q=>q
  rcases hc with z|z
  ·rw[z];exact nit b u e
  ·exact nit c _ z
theorem Inv.D_{t':Nat}{ch:List Addr}{T:Addr}{ob:HO}(I:Inv X pins σ H s)(k:∀b o,b∉ch->s.heap.get? b=some o->h'.get? b=some o)(hf:∀b∈ch,jd X pins H b)(hT:s.heap.objs.size<=T)
  (new:eM X.prog X.w (upd H T ob) h' T ob):Inv X pins σ (upd H T ob) {s with heap:=h',toks:=t'}:=by
 have hn:H T=none:=I.aP.fresh hT
 have nit:∀b u,H b=some u->b∉ch:=fun b u e z=>by
  have q:=(hf b z).1
  rw[q]at e;cases e
 refine I.step (g':=s.gens) (d':=s.drawn) (ch:=ch) (fun b hb=>⟨(hf b hb).2.2.2.1,(hf b hb).2.1,(hf b hb).2.2.2.2.1,(hf b hb).2.2.2.2.2⟩) (fun b o _ _ hc e _=>k b o hc e) (fun b o _ _ hc e _=>⟨o.slots,k b o hc e⟩)
  (fun b o _ e n=>?_) (fun b o hc e=>⟨o,k b o hc e⟩) (fun b xs e=>?_) (fun b o u e=>?_) (fun b ps e=>⟨#[],?_⟩) (fun m hm=>?_) (fun b u e=>?_) I.bare
 ·rw[ax (gJ (gI (Heap.lt_size e) hT))];exact n
 ·rw[ax (a7 e hn)];exact e
 ·rw[ax (a7 e hn)];exact e
 ·rw[ax (a7 e hn),e];simp
 ·obtain⟨o,es,ep,ho,r⟩:=hm
  exact⟨o,es,ep,k _ o (fun z=>(hf _ z).2.1 rfl) ho,r⟩
 ·by_cases hb:b=T
  ·subst hb
   rw[au]at e
   cases e
   exact new
  ·rw[ax hb]at e
   refine(I.aP b u e).ki (fun c v hc q=>k c v ?_ q) (fun c q=>by rw[ax (a7 q hn)];exact q) fun c xs q=>by rw[ax (a7 q hn)];exact q
   rcases hc with z|z
   ·rw[z];exact nit b u e
   ·exact nit c _ z
theorem Inv.lock{d:Addr}{u:HO}(I:Inv X pins σ H s)(h:H d=some u)(mu:nj (some u)):∃od,Inv X pins σ (upd H d (.cA od u)) s:=by
 have x:=I.aP d u h
 have ex:∃od,s.heap.get? d=some od:=by
  cases u with
  |lst xs=>obtain⟨_,_,_,_,e⟩:=x;exact⟨_,e⟩
  |dK kvs=>obtain⟨_,_,_,_,o,_,_,e,_⟩:=x;exact⟨o,e⟩
  |dT kvs=>obtain⟨_,_,_,_,o,_,_,e,_⟩:=x;exact⟨o,e⟩
  |set S n=>obtain⟨o,_,_,_,e,_⟩:=x;exact⟨o,e⟩
  |ins C dx fs=>obtain⟨_,_,_,e,_⟩:=x;exact⟨_,e⟩
  |ext φ=>obtain⟨_,⟨_,e⟩,_⟩:=x;exact⟨_,e⟩
  |_=>exact False.elim mu
 obtain⟨od,e⟩:=ex
 have new:eM X.prog X.w (upd H d (.cA od u)) s.heap d (.cA od u):=by
  refine⟨e,x.ki (fun b v _ q=>q) (fun b q=>?_) fun b xs q=>?_⟩
  ·rw[ax (fun z=>by rw[z,h]at q;cases q;exact mu)];exact q
  ·rw[ax (fun z=>by rw[z,h]at q;cases q;exact mu)];exact q
 exact⟨od,I.write (x:=d) (e:=d) (t':=s.toks) (h':=s.heap) (by rw[h];exact mu) (.inl rfl) (fun b v _ q=>q) ⟨od,e⟩ new⟩
theorem Inv.L5{d:Addr}{u:HO}(I:Inv X pins σ H s)(h:H d=some u)(mu:nj (some u)):∀o' u',X.nk d≠some (.cA o' u'):=fun o' u' e=>by
 have q:=I.base.jJ d o' u' e
 rw[h]at q
 cases q
 exact mu
theorem Inv.unlock{d:Addr}{od:Obj}{u:HO}(I:Inv X pins σ H s)(h:H d=some (.cA od u))(hn:∀o' u',X.nk d≠some (.cA o' u')):Inv X pins σ (upd H d u) s:=by
 have neH:∀b o,H b=some o->(∀o' u',o≠.cA o' u')->b≠d:=fun b o e hne z=>by
  rw[z,h]at e
  cases e
  exact hne _ _ rfl
 have neN:∀b,H b=none->b≠d:=fun b e z=>by rw[z,h]at e;cases e
 refine⟨I.ok,I.os,I.bare,⟨I.base.keep,I.base.slot,fun b o e n hx=>?_,I.base.there,fun b xs e=>?_,fun b o x e=>?_,fun b ps e=>?_⟩,I.loc,I.cell,?_,fun x c e=>?_,fun p hp=>?_,fun b o e=>?_,I.len⟩
 ·rw[ax (neN b (I.base.free b o e n hx))];exact I.base.free b o e n hx
 ·have q:=I.base.lh b xs e
  rw[ax (neH b _ q (fun _ _ z=>nomatch z))];exact q
 ·have q:=I.base.jJ b o x e
  rw[ax (fun z=>by rw[z]at e;exact hn _ _ e)];exact q
 ·obtain⟨m,q⟩:=I.base.lp b ps e
  exact⟨m,by rw[ax (neH b _ q (fun _ _ z=>nomatch z))];exact q⟩
 ·rw[ax (neN _ I.free)];exact I.free
 ·rw[ax (neN c (I.iI x c e))];exact I.iI x c e
 ·obtain⟨e,n,r⟩:=I.pin p hp
  exact⟨e,by rw[ax (neN _ n)];exact n,r⟩
 ·by_cases hb:b=d
  ·rw[hb,au]at e
   cases e
   rw[hb]
   obtain⟨_,x⟩:=I.aP d _ h
   exact x.ki (fun c v _ q=>q) (fun c q=>by rw[ax (neH c _ q (fun _ _ z=>nomatch z))];exact q) fun c xs q=>by rw[ax (neH c _ q (fun _ _ z=>nomatch z))];exact q
  ·rw[ax hb]at e
   exact(I.aP b o e).ki (fun c v _ q=>q) (fun c q=>by rw[ax (neH c _ q (fun _ _ z=>nomatch z))];exact q) fun c xs q=>by rw[ax (neH c _ q (fun _ _ z=>nomatch z))];exact q
end
noncomputable def L6(t:TE):TE:=fun σ H Q=>∃d u,H d=some u/\nj (some u)/\∀od,t σ (upd H d (.cA od u)) fun v H'=>H' d=some (.cA od u)/\Q v (upd H' d u)
section
variable{X:Cx}
theorem L7{e:Expr}{t:TE}(h:PE X e t):PE X e (L6 t):=by
 intro pins s σ H Q I hw
 obtain⟨d,u,hd,mu,hw⟩:=hw
 obtain⟨od,I1⟩:=I.lock hd mu
 refine aU (h pins s σ _ _ I1 (hw od)) fun v s1 ⟨x,H1,I2,r,e2,q⟩=>?_
 exact⟨x,_,I2.unlock e2 (I.L5 hd mu),r,q⟩
theorem Ea{tg:Expr}{pins:List (Addr×Obj)}{σ:St}{H:Hp}{s:Shared}{R:It->Hp->Prop}{J:It}{tn:Nat->Heap->Prop}{tk:Nat}(I:Inv X pins σ H s)(o:Obj)
  (T:Turn X.prog X.w X.K tg J [s.heap.objs.size] s.heap.objs.size tn)(st:tn 0 (s.heap.push o))(q:R J H):xF X pins σ tg R (.ref s.heap.objs.size) {s with heap:=s.heap.push o,toks:=tk}:=by
 refine⟨s.heap.objs.size,[s.heap.objs.size],tn,J,H,rfl,I.kept fun b ob e=>Heap.get?_push_of_some _ e,T,st,fun b hb=>?_,q⟩
 have e:b=s.heap.objs.size:=by simpa using hb
 subst e
 exact I.pI (aX _) (I.aP.fresh (aX _))
end
noncomputable def rW(lo c:Int)(n:Nat):It:=⟨fun i _=>i<n,fun i H x H'=>H'=H/\x=.int (lo+(i:Nat) * c),fun i _=>n<=i⟩
theorem L8{P:Program}{w:World}{K:PySem.W.Frag}{tg:Expr}(it:Addr)(lo c:Int)(n:Nat):Turn P w K tg (rW lo c n) [it] it (fun i h=>IsRangeIter h it (lo+(i:Nat) * c) ((n:Int) - (i:Nat)) c) where
 mem:=by simp
 obj:=fun i h st b hb=>by
  have e:b=it:=by simpa using hb
  subst e
  exact⟨_,st,fun v z=>nomatch z⟩
 keep:=fun i h h' st k=>k it (by simp) _ st
 item:=by
  intro X hP hw hK hc i pins s σ H E I hf st hg
  subst hP hw hK
  obtain⟨f0,f1,f2,f3,f4,f5⟩:=hf it (by simp)
  have W:=Walks.range (prog:=X.prog) (w:=X.w) (I.ok.hd hc) it lo c n
  refine W.item i s _ _ hg st fun v h' tk hv st' kk=>?_
  obtain⟨t,rfl⟩:=hv
  have I1:Inv X pins σ H {s with heap:=h',toks:=tk}:=I.turned (fun b o hb e=>kk b o (by simpa using hb) e) f0 f1 f3 f4 f5
  exact⟨_,rfl,uK (s:={s with heap:=h',toks:=tk}) (n:="range_iterator") st' rfl rfl (by decide) ⟨.int (lo+(i:Nat) * c),H,I1,⟨t,rfl⟩,⟨rfl,rfl⟩,st',fun b hb=>(hf b hb).1⟩⟩
 done:=by
  intro X hP hw hK hc i pins s σ H E I hf st hg
  subst hP hw hK
  obtain⟨f0,f1,f2,f3,f4,f5⟩:=hf it (by simp)
  exact wpAny_pyNext_range_end (I.ok.hd hc) st (by have:n<=i:=hg;lia) fun h' eb=>⟨rfl,I.turned (t':=s.toks) (fun b o hb e=>eb b o hb e) f0 f1 f3 f4 f5⟩
 self:=fun A i s Q E st h=>wpAny_pyIter_rangeiter st h
noncomputable def L9(i j c:Int)(n:Nat):Prop:=c≠0/\c.natAbs<1073741824/\Builtin.Range.small i j c=true/\Builtin.Range.rangeSize i j c=n
noncomputable def L_(ta:TA):TI:=fun σ H R=>ta σ H fun vs H1=>∃(i j c:Int) (n:Nat),vs=[.int i,.int j,.int c]/\L9 i j c n/\R (rW i c n) H1
section
variable{X:Cx}{tg:Expr}
theorem Eb{a b c:Expr}{ta:TA}{p pos:Pos}(hg:Gl X "range")(hm:X.mg "range"=none)(ha:PA X [a,b,c] ta)
  (hs:starEach [a,b,c] X.env=(false,eval a X.env)::starEach [b,c] X.env:=by rfl)(hpl:(backTo pos (starEach [b,c] X.env)).any (·.1)=false:=by rfl):
  PI X tg (.Call (.Name "range" p) [a,b,c] [] pos) (L_ ta):=by
 intro pins s σ H R I h
 refine Call_ (km I hg hm boot_range (m9 (aU (ha pos pins s σ H _ I h) fun us s1 ⟨vs,H1,I1,r1,q1⟩=>?_) hs hpl))
 obtain⟨i,j,k,n,e,⟨c0,c1,c2,c3⟩,q⟩:=q1
 subst e
 cases r1 with
 |cons r rr=>
  cases rr with
  |cons r' rr=>
   cases rr with
   |cons r'' rr=>
    cases rr
    obtain⟨t,rfl⟩:=r
    obtain⟨t',rfl⟩:=r'
    obtain⟨t'',rfl⟩:=r''
    refine call_range_3 c0 ?_ (.inl (PyProof.noPylong_small c1))
    refine wpAny_pyIter_range (IsRange.new ..) c2 ?_
    have I2:Inv X pins σ H1 {s1 with heap:=s1.heap.push {cls:=.type "range",data:=.fields #[.int i t,.int j t',.int k t'']}}:=I1.kept (t':=s1.toks) fun b o e=>Heap.get?_push_of_some _ e
    refine Ea (tk:=s1.toks) I2 _ (L8 _ i k n) ?_ q
    have e1:i+((0:Nat):Int) * k=i:=by simp
    have e2:(n:Int) - ((0:Nat):Int)=Builtin.Range.rangeSize i j k:=by rw[c3];simp
    show IsRangeIter _ _ (i+((0:Nat):Int) * k) ((n:Int) - ((0:Nat):Int)) k
    rw[e1,e2]
    exact Heap.get?_push_size _ rfl
end
theorem Ec{lo c:Int}{n:Nat}{g:TG}{tb:TS}{D:Ends}{σ:St}{H:Hp}(Pv:Nat->St->Hp->Prop)(h0:Pv 0 σ H)
  (hs:∀i σ H,i<n->Pv i σ H->g (.int (lo+(i:Nat) * c)) σ H fun σ2 H2=>tb {D with nx:=Pv (i+1),ct:=Pv (i+1),bk:=D.nx} σ2 H2)(hd:∀σ H,Pv n σ H->D.nx σ H):
  ∃W:Nat->Nat->St->Hp->Prop,(∃m,W 0 m σ H)/\∀i m σ H,W i m σ H->
   ((rW lo c n).stop i H/\D.nx σ H)\/((rW lo c n).go i H/\∃N:St->Hp->Prop,(∀σ' H',N σ' H'->∃m',m'<m/\W (i+1) m' σ' H')/\∀x H',(rW lo c n).iK i H x H'->g x σ H' fun σ2 H2=>tb {D with nx:=N,ct:=N,bk:=D.nx} σ2 H2):=by
 refine⟨fun i m σ H=>m=n - i/\i<=n/\Pv i σ H,⟨n,by simp,be _,h0⟩,?_⟩
 rintro i m σ H ⟨rfl,hi,p⟩
 by_cases hlt:i<n
 ·refine .inr ⟨hlt,Pv (i+1),fun σ' H' p'=>⟨n - (i+1),by lia,rfl,hlt,p'⟩,fun x H' y=>?_⟩
  obtain⟨e,y⟩:=y
  subst e y
  exact hs i σ _ hlt p
 ·have e:i=n:=by lia
  subst e
  exact .inl ⟨aX _,hd σ H p⟩
noncomputable def lK(K:PySem.W.Frag)(a:Addr)(n:Nat):It:=
 ⟨fun i H=>i<n/\∃(xs:List V) (x:V),ai K H a xs/\xs[n - 1 - i]?=some x,fun i H x H'=>H'=H/\∀xs,ai K H a xs->xs[n - 1 - i]?=some x,fun i _=>n<=i⟩
theorem Ma{P:Program}{w:World}{K:PySem.W.Frag}{tg:Expr}(a it:Addr)(n:Nat):Turn P w K tg (lK K a n) [it] it (fun i h=>i<=n/\h.IsRevIter it a ((n:Int) - 1 - (i:Nat))) where
 mem:=by simp
 obj:=fun i h st b hb=>by
  have e:b=it:=by simpa using hb
  subst e
  obtain⟨_,o,e,c,d⟩:=st
  exact⟨o,e,fun v z=>by rw[d]at z;cases z⟩
 keep:=fun i h h' st k=>⟨st.1,st.2.at fun o e=>k it (by simp) o e⟩
 item:=by
  intro X hP hw hK hc i pins s σ H E I hf st hg
  subst hP hw hK
  obtain⟨hin,xs,x,hq,hx⟩:=hg
  obtain⟨its,rv,p,hz⟩:=I.list hq
  obtain⟨u,hu,ru⟩:=rv.get hx
  obtain⟨f0,f1,f2,f3,f4,f5⟩:=hf it (by simp)
  obtain⟨_,hit⟩:=st
  have e1:(n:Int) - 1 - ((i:Nat):Int)=((n - 1 - i:Nat):Int):=by lia
  rw[e1]at hit
  refine wpAny_pyNext_rev_item hit p.isList (x:=u) (by simpa using hu) fun h' st' sb=>?_
  have e2:((n - 1 - i:Nat):Int) - 1=(n:Int) - 1 - ((i+1:Nat):Int):=by lia
  rw[e2]at st'
  have I1:Inv X pins σ H {s with heap:=h'}:=I.turned (t':=s.toks) (fun b o hb e=>(sb.2 b hb).trans e) f0 f1 f3 f4 f5
  obtain⟨o,e,c,d⟩:=id st'
  exact⟨u,rfl,uK (s:={s with heap:=h'}) e c d (by decide) ⟨x,H,I1,ru,⟨rfl,fun ys hy=>by rw[I.rF hy hq];exact hx⟩,⟨hin,st'⟩,fun b hb=>(hf b hb).1⟩⟩
 done:=by
  intro X hP hw hK hc i pins s σ H E I hf st hg
  subst hP hw hK
  obtain⟨f0,f1,f2,f3,f4,f5⟩:=hf it (by simp)
  obtain⟨hin,hit⟩:=st
  have hge:n<=i:=hg
  have e1:(n:Int) - 1 - ((i:Nat):Int)= -1:=by lia
  rw[e1]at hit
  exact wpAny_pyNext_rev_end (I.ok.hd hc) hit fun h' eb=>⟨rfl,I.turned (t':=s.toks) (fun b o hb e=>eb b o hb e) f0 f1 f3 f4 f5⟩
 self:=fun A i s Q E st h=>wpAny_pyIter_revIter st.2 h
noncomputable def Mb(K:PySem.W.Frag)(ta:TA):TI:=fun σ H R=>ta σ H fun vs H1=>∃(a:Addr) (xs:List V),vs=[.ref a]/\ai K H1 a xs/\R (lK K a xs.length) H1
section
variable{X:Cx}{tg:Expr}
theorem x8{e:Expr}{ta:TA}{p pos:Pos}(hg:Gl X "reversed")(hm:X.mg "reversed"=none)(ha:PA X [e] ta)(hs:starEach [e] X.env=[(false,eval e X.env)]:=by rfl):PI X tg (.Call (.Name "reversed" p) [e] [] pos) (Mb X.K ta):=by
 intro pins s σ H R I h
 refine Call_ (km I hg hm LZ (m9 (aU (ha pos pins s σ H _ I h) fun us s1 ⟨vs,H1,I1,r1,q1⟩=>?_) hs rfl))
 obtain⟨a,xs,e,hq,q⟩:=q1
 subst e
 cases r1 with
 |cons r rr=>
  cases rr
  cases r
  obtain⟨its,rv,p',hz⟩:=I1.list hq
  have hl:=rv.length
  have e1:((its.toArray.size:Nat):Int) - 1=(xs.length:Int) - 1 - ((0:Nat):Int):=by simp only [c5];lia
  refine call_reversed_list p'.isList (wpAny_pyIter_revIter (l:=a) (i:=((its.toArray.size:Nat):Int) - 1) ⟨_,Heap.get?_push_size _ rfl,rfl,rfl⟩ ?_)
  refine Ea (tk:=s1.toks) I1 _ (Ma a _ xs.length) ⟨be _,?_⟩ q
  rw[<-e1]
  exact⟨_,Heap.get?_push_size _ rfl,rfl,rfl⟩
end
noncomputable def rX(K:PySem.W.Frag)(a:Addr):It:=
 ⟨fun i H=>∃(xs:List V) (x:V),ai K H a xs/\xs[i]?=some x,fun i H v H'=>∃T x,v=.ref T/\H T=none/\H'=upd H T (.tup [.int (i:Nat),x])/\∀xs,ai K H a xs->xs[i]?=some x,fun i H=>∃xs:List V,ai K H a xs/\xs.length<=i⟩
theorem Mc{P:Program}{w:World}{K:PySem.W.Frag}{elts:List Expr}{kk:Nat}{tpos:Pos}(a e it:Addr):
  Turn P w K (.Tuple elts kk tpos) (rX K a) [e,it] e (fun i h=>(∃old,IsEnum h e it ((i:Nat):Int) old)/\h.IsListIter it a i/\e≠it) where
 mem:=by simp
 obj:=fun i h st b hb=>by
  obtain⟨⟨old,he⟩,⟨o,ho,hc,hd⟩,_⟩:=st
  have e':b=e\/b=it:=by simpa using hb
  rcases e' with z|z
  ·rw[z];exact⟨_,he,fun v q=>nomatch q⟩
  ·rw[z];exact⟨o,ho,fun v q=>by rw[hd]at q;cases q⟩
 keep:=fun i h h' st k=>let ⟨⟨old,he⟩,hi,hne⟩:=st;⟨⟨old,k e (by simp) _ he⟩,hi.at fun o q=>k it (by simp) o q,hne⟩
 item:=by
  intro X hP hw hK hc i pins s σ H E I hf st hg
  subst hP hw hK
  obtain⟨⟨old,he⟩,hit,hne⟩:=st
  obtain⟨xs,x,hq,hx⟩:=hg
  obtain⟨its,rv,p,hz⟩:=I.list hq
  obtain⟨u,hu,ru⟩:=rv.get hx
  have hel:e<s.heap.objs.size:=Heap.lt_size he
  have hil:it<s.heap.objs.size:=by obtain⟨_,q,_⟩:=hit;exact Heap.lt_size q
  refine wpAny_pyNext_enum_item he hit p.isList (x:=u) (by simpa using hu) hne fun h' ho hit' hT hsz hk=>?_
  refine⟨_,rfl,wpAny_letOwnedTupleGo_enum (s:={s with heap:=h',toks:=s.toks+1}) ho fun h'' he' sb=>?_⟩
  have hT2:h''.get? s.heap.objs.size=some {cls:=.type "tuple",data:=.seq #[.int i s.toks,u]}:=(sb.2 _ (Nat.ne_of_gt hel)).trans hT
  have new:eM X.prog X.w (upd H s.heap.objs.size (.tup [.int (i:Nat),x])) h'' s.heap.objs.size (.tup [.int (i:Nat),x]):=
   ⟨by show 2<=sizeLine;decide,[.int i s.toks,u],.cons ⟨_,rfl⟩ (.cons ru .nil),⟨_,hT2,rfl,_,rfl⟩⟩
  have I1:Inv X pins σ (upd H s.heap.objs.size (.tup [.int (i:Nat),x])) {s with heap:=h'',toks:=s.toks+1}:=
   I.D_ (ch:=[e,it]) (fun b ob hb q=>(sb.2 b (fun z=>hb (by simp[z]))).trans (hk b ob (fun z=>hb (by simp[z])) (fun z=>hb (by simp[z])) q)) hf (aX _) new
  refine⟨.ref s.heap.objs.size,_,I1,rfl,⟨_,x,rfl,I.aP.fresh (aX _),rfl,fun ys hy=>by rw[I.rF hy hq];exact hx⟩,⟨⟨u,?_⟩,hit'.at fun o q=>(sb.2 it (Ne.symm hne)).trans q,hne⟩,fun b hb=>?_⟩
  ·have e1:((i+1:Nat):Int)=(i:Int)+1:=by lia
   rw[e1];exact he'
  ·have hb':b<s.heap.objs.size:=by
    have e':b=e\/b=it:=by simpa using hb
    rcases e' with z|z
    ·rw[z];exact hel
    ·rw[z];exact hil
   rw[ax (gJ hb')]
   exact(hf b hb).1
 done:=by
  intro X hP hw hK hc i pins s σ H E I hf st hg
  subst hP hw hK
  obtain⟨⟨old,he⟩,hit,hne⟩:=st
  obtain⟨xs,hq,hx⟩:=hg
  obtain⟨its,rv,p,hz⟩:=I.list hq
  obtain⟨f0,f1,f2,f3,f4,f5⟩:=hf it (by simp)
  have hl:=rv.length
  exact wpAny_pyNext_enum_end (I.ok.hd hc) he hit p.isList (by simp;lia) fun h' eb=>⟨rfl,I.turned (t':=s.toks) (fun b o hb q=>eb b o hb q) f0 f1 f3 f4 f5⟩
 self:=fun A i s Q E st h=>let ⟨⟨_,he⟩,_⟩:=st;wpAny_pyIter_enum he h
noncomputable def Md(K:PySem.W.Frag)(ta:TA):TI:=fun σ H R=>ta σ H fun vs H1=>∃a xs,vs=[.ref a]/\ai K H1 a xs/\R (rX K a) H1
theorem x9{X:Cx}{e:Expr}{ta:TA}{p pos tpos:Pos}{elts:List Expr}{kk:Nat}(hg:Gl X "enumerate")(hm:X.mg "enumerate"=none)(ha:PA X [e] ta)(hs:starEach [e] X.env=[(false,eval e X.env)]:=by rfl):
  PI X (.Tuple elts kk tpos) (.Call (.Name "enumerate" p) [e] [] pos) (Md X.K ta):=by
 intro pins s σ H R I h
 refine Call_ (km I hg hm boot_enumerate (m9 (aU (ha pos pins s σ H _ I h) fun us s1 ⟨vs,H1,I1,r1,q1⟩=>?_) hs rfl))
 obtain⟨a,xs,ex,hq,q⟩:=q1
 subst ex
 cases r1 with
 |cons r rr=>
  cases rr
  cases r
  obtain⟨its,rv,p',hz⟩:=I1.list hq
  refine call_enumerate_list p'.isList fun h' he hit hsz hk=>wpAny_pyIter_enum he ?_
  have I2:Inv X pins σ H1 {s1 with heap:=h'}:=I1.kept (t':=s1.toks) hk
  refine⟨s1.heap.objs.size+1,[s1.heap.objs.size+1,s1.heap.objs.size],_,_,H1,rfl,I2,Mc a (s1.heap.objs.size+1) s1.heap.objs.size,⟨⟨.none,he⟩,hit,Nat.succ_ne_self _⟩,fun b hb=>?_,q⟩
  have e':b=s1.heap.objs.size+1\/b=s1.heap.objs.size:=by simpa using hb
  have hle:s1.heap.objs.size<=b:=by
   rcases e' with z|z
   ·rw[z];exact Nat.le_add_right _ _
   ·rw[z];exact aX _
  exact I1.pI hle (I1.aP.fresh hle)
theorem Me:bootBuiltins "zip"=some (.type "zip"):=by decide+kernel
noncomputable def pP(K:PySem.W.Frag)(a b:Addr):It:=
 ⟨fun i H=>∃(xs ys:List V) (x y:V),ai K H a xs/\ai K H b ys/\xs[i]?=some x/\ys[i]?=some y,
  fun i H v H'=>∃T x y,v=.ref T/\H T=none/\H'=upd H T (.tup [x,y])/\(∀xs,ai K H a xs->xs[i]?=some x)/\∀ys,ai K H b ys->ys[i]?=some y,
  fun i H=>∃xs ys:List V,ai K H a xs/\ai K H b ys/\(xs.length<=i\/ys.length<=i)⟩
theorem Mf{P:Program}{w:World}{K:PySem.W.Frag}{elts:List Expr}{kk:Nat}{tpos:Pos}{a b z TI TO i1 i2:Addr}(D:ZipApart z TI TO i1 i2 a b):
  Turn P w K (.Tuple elts kk tpos) (pP K a b) [z,TI,TO,i1,i2] z (fun i h=>IsZip h z TI TO .none/\IsPair h TI (.ref i1) (.ref i2)/\(∃x y,IsPair h TO x y)/\h.IsListIter i1 a i/\h.IsListIter i2 b i) where
 mem:=by simp
 obj:=fun i h st c hc=>by
  obtain⟨hz,hTI,⟨x,y,hTO⟩,⟨o1,e1,_,d1⟩,⟨o2,e2,_,d2⟩⟩:=st
  have e':c=z\/c=TI\/c=TO\/c=i1\/c=i2:=by simpa using hc
  rcases e' with q|q|q|q|q
  ·rw[q];exact⟨_,hz,fun v q=>nomatch q⟩
  ·rw[q];exact⟨_,hTI,fun v q=>nomatch q⟩
  ·rw[q];exact⟨_,hTO,fun v q=>nomatch q⟩
  ·rw[q];exact⟨o1,e1,fun v q=>by rw[d1]at q;cases q⟩
  ·rw[q];exact⟨o2,e2,fun v q=>by rw[d2]at q;cases q⟩
 keep:=fun i h h' st k=>by
  obtain⟨hz,hTI,⟨x,y,hTO⟩,h1,h2⟩:=st
  exact⟨k z (by simp) _ hz,k TI (by simp) _ hTI,⟨x,y,k TO (by simp) _ hTO⟩,h1.at fun o q=>k i1 (by simp) o q,h2.at fun o q=>k i2 (by simp) o q⟩
 item:=by
  intro X hP hw hK hc i pins s σ H E I hf st hg
  subst hP hw hK
  obtain⟨hz,hTI,⟨x0,y0,hTO⟩,h1,h2⟩:=st
  obtain⟨xs,ys,x,y,hqx,hqy,hx,hy⟩:=hg
  obtain⟨its,rv,p,_⟩:=I.list hqx
  obtain⟨its2,rv2,p2,_⟩:=I.list hqy
  obtain⟨u,hu,ru⟩:=rv.get hx
  obtain⟨u2,hu2,ru2⟩:=rv2.get hy
  have hzl:z<s.heap.objs.size:=Heap.lt_size hz
  refine wpAny_pyNext_zip_item D hz hTI hTO h1 h2 p.isList p2.isList (x:=u) (y:=u2) (by simpa using hu) (by simpa using hu2) fun h' z' TO' h1' h2' hT hsz hk=>?_
  refine⟨_,rfl,wpAny_letOwnedTupleGo_zip (s:={s with heap:=h'}) z' fun h'' z'' sb=>?_⟩
  have hT2:h''.get? s.heap.objs.size=some {cls:=.type "tuple",data:=.seq #[u,u2]}:=(sb.2 _ (Nat.ne_of_gt hzl)).trans hT
  have new:eM X.prog X.w (upd H s.heap.objs.size (.tup [x,y])) h'' s.heap.objs.size (.tup [x,y]):=
   ⟨by show 2<=sizeLine;decide,[u,u2],.cons ru (.cons ru2 .nil),⟨_,hT2,rfl,_,rfl⟩⟩
  have I1:Inv X pins σ (upd H s.heap.objs.size (.tup [x,y])) {s with heap:=h''}:=
   I.D_ (t':=s.toks) (ch:=[z,TI,TO,i1,i2]) (fun c o hb q=>(sb.2 c (fun q'=>hb (by simp[q']))).trans (hk c o (fun q'=>hb (by simp[q'])) (fun q'=>hb (by simp[q'])) (fun q'=>hb (by simp[q'])) (fun q'=>hb (by simp[q'])) q)) hf (aX _) new
  refine⟨.ref s.heap.objs.size,_,I1,rfl,⟨_,x,y,rfl,I.aP.fresh (aX _),rfl,fun l hl=>by rw[I.rF hl hqx];exact hx,fun l hl=>by rw[I.rF hl hqy];exact hy⟩,⟨z'',?_,⟨u,u2,?_⟩,?_,?_⟩,fun c hcm=>?_⟩
  ·exact(sb.2 _ D.TIz).trans (hk _ _ D.TIz D.TITO D.TIi1 D.TIi2 hTI)
  ·exact(sb.2 _ D.TOz).trans TO'
  ·exact h1'.at fun o q=>(sb.2 _ D.i1z).trans q
  ·exact h2'.at fun o q=>(sb.2 _ D.i2z).trans q
  ·have hlt:c<s.heap.objs.size:=by
    have e':c=z\/c=TI\/c=TO\/c=i1\/c=i2:=by simpa using hcm
    rcases e' with q|q|q|q|q
    ·rw[q];exact hzl
    ·rw[q];exact Heap.lt_size hTI
    ·rw[q];exact Heap.lt_size hTO
    ·rw[q];obtain⟨_,e1,_⟩:=h1;exact Heap.lt_size e1
    ·rw[q];obtain⟨_,e2,_⟩:=h2;exact Heap.lt_size e2
   rw[ax (gJ hlt)]
   exact(hf c hcm).1
 done:=by
  intro X hP hw hK hc i pins s σ H E I hf st hg
  subst hP hw hK
  obtain⟨hz,hTI,⟨x0,y0,hTO⟩,h1,h2⟩:=st
  obtain⟨xs,ys,hqx,hqy,hend⟩:=hg
  obtain⟨its,rv,p,_⟩:=I.list hqx
  obtain⟨its2,rv2,p2,_⟩:=I.list hqy
  have l1:=rv.length
  have l2:=rv2.length
  have he:its.toArray[i]?=none\/its2.toArray[i]?=none:=by
   rcases hend with q|q
   ·exact .inl (by simp;lia)
   ·exact .inr (by simp;lia)
  exact wpAny_pyNext_zip_end (I.ok.hd hc) D hz hTI hTO h1 h2 p.isList p2.isList he fun h' hk=>⟨rfl,I.L4 (t':=s.toks) (ch:=[z,TI,TO,i1,i2]) (fun c o hb q=>
   hk c o (fun q'=>hb (by simp[q'])) (fun q'=>hb (by simp[q'])) (fun q'=>hb (by simp[q'])) (fun q'=>hb (by simp[q'])) q) hf⟩
 self:=fun A i s Q E st h=>wpAny_pyIter_zip st.1 h
noncomputable def Mg(K:PySem.W.Frag)(ta:TA):TI:=fun σ H R=>ta σ H fun vs H1=>∃a b xs ys,vs=[.ref a,.ref b]/\ai K H1 a xs/\ai K H1 b ys/\R (pP K a b) H1
theorem Mh{X:Cx}{e e2:Expr}{ta:TA}{p pos tpos:Pos}{elts:List Expr}{kk:Nat}(hg:Gl X "zip")(hm:X.mg "zip"=none)(ha:PA X [e,e2] ta)
  (hs:starEach [e,e2] X.env=(false,eval e X.env)::starEach [e2] X.env:=by rfl)(hpl:(backTo pos (starEach [e2] X.env)).any (·.1)=false:=by rfl):
  PI X (.Tuple elts kk tpos) (.Call (.Name "zip" p) [e,e2] [] pos) (Mg X.K ta):=by
 intro pins s σ H R I h
 refine Call_ (km I hg hm Me (m9 (aU (ha pos pins s σ H _ I h) fun us s1 ⟨vs,H1,I1,r1,q1⟩=>?_) hs hpl))
 obtain⟨a,b,xs,ys,ex,hqx,hqy,q⟩:=q1
 subst ex
 cases r1 with
 |cons r rr=>
  cases rr with
  |cons r' rr=>
   cases rr
   cases r
   cases r'
   obtain⟨its,rv,p1,_⟩:=I1.list hqx
   obtain⟨its2,rv2,p2,_⟩:=I1.list hqy
   have la:a<s1.heap.objs.size:=p1.lt
   have lb:b<s1.heap.objs.size:=p2.lt
   refine call_zip_2 p1.isList p2.isList fun h' hz hTI hTO h1 h2 hsz hk=>wpAny_pyIter_zip hz ?_
   have I2:Inv X pins σ H1 {s1 with heap:=h'}:=I1.kept (t':=s1.toks) hk
   refine⟨s1.heap.objs.size+4,[s1.heap.objs.size+4,s1.heap.objs.size+2,s1.heap.objs.size+3,s1.heap.objs.size,s1.heap.objs.size+1],_,_,H1,rfl,I2,Mf (PySem.W.ktu_apart s1.heap.objs.size a b la lb),⟨hz,hTI,⟨_,_,hTO⟩,h1,h2⟩,fun c hcm=>?_,q⟩
   have e':c=s1.heap.objs.size+4\/c=s1.heap.objs.size+2\/c=s1.heap.objs.size+3\/c=s1.heap.objs.size\/c=s1.heap.objs.size+1:=by simpa using hcm
   have hle:s1.heap.objs.size<=c:=by
    rcases e' with z|z|z|z|z
    ·rw[z];exact Nat.le_add_right _ _
    ·rw[z];exact Nat.le_add_right _ _
    ·rw[z];exact Nat.le_add_right _ _
    ·rw[z];exact aX _
    ·rw[z];exact Nat.le_add_right _ _
   exact I1.pI hle (I1.aP.fresh hle)
end L2
namespace L2
open PySem PySem.Spec PyProof.Rows
noncomputable def inClass(s:Stmt)(j:Nat):Stmt:=match s with
 |.ClassDef _ _ _ body _ _ _ _ _ _ _=>body.getD j (.Pass ⟨0,0,0,0⟩)
 |_=>.Pass ⟨0,0,0,0⟩
noncomputable def lL(s:Stmt):Arguments:=match s with
 |.FunctionDef _ a _ _ _ _ _ _ _ _=>a
 |_=>{posonlyargs:=[],args:=[],vararg:=none,kwonlyargs:=[],kw_defaults:=[],kwarg:=none,defaults:=[]}
noncomputable def ku(s:Stmt):List Stmt:=match s with
 |.FunctionDef _ _ b _ _ _ _ _ _ _=>b
 |_=>[]
noncomputable def aD(s:Stmt):Scope:=match s with
 |.FunctionDef _ _ _ _ _ _ sc _ _ _=>sc
 |_=>{kind:=.function,names:=[],isGenerator:=false,isCoroutine:=false}
abbrev g9:jQ:=fun _ _ _ _ _ _=>False
abbrev E0:XK:=fun _ _ _=>False
theorem nJ{X:Cx}:lH g9 X E0:=fun _ _ _ _ _ _ _ h=>h.elim
structure kx(K:PySem.W.Frag)(x qual:Str)(st:Stmt)(f:Addr)(fd:FuncData):Prop where
 ex:∃(oc:Value) (od:Option Addr) (kV doc pm:Value) (an:Option Addr) (cdv ct:Value) (osl:Array (Option Value)),
  fd=PySem.W.fnOf x qual (lL st) (ku st) (aD st) .none kV doc pm an cdv ct/\K.lookup f=some ⟨oc,od,.func fd,osl⟩/\PySem.W.codeIn K cdv qual=true
 kp:PySem.W.keepIn K (.ref f)=true
section
variable{P:Program}{w:World}{K:PySem.W.Frag}{mg:Str->Option Value}{base:Heap}
theorem kx.ok{x qual:Str}{st:Stmt}{f:Addr}{fd:FuncData}{N ps:List Str}{k:Nat}{sp:Sp}(F:kx K x qual st f fd)(S:aH N ps (aD st))(len:∀vs H Q E,sp vs H Q E->vs.length=ps.length)
  (hbody:∀(cdv:Value) (A:Around) (outer:List Env) (s:Shared) (H:Hp) (vs:List V) (Q:VK) (E:XK),cB k (A.deeper (envOfC qual (aD st) s.heap.objs.size f cdv))->sp vs H Q E->
   ∃t,iJ (pM g9 P w K mg base N qual (aD st) f cdv A outer s H E).uH (ku st) t/\t {nx:=fun _ H'=>Q .aW H',rt:=Q} (start N vs) H):eu P w K mg base g9 (k+1) f fd ps sp:=by
 obtain⟨oc,od,kV,doc,pm,an,cdv,ct,osl,rfl,lk,hcd⟩:=F.ex
 refine K8 lk hcd S len fun A outer s H vs Q E hr hsp=>?_
 obtain⟨t,h,q⟩:=hbody cdv A outer s H vs Q E hr hsp
 exact⟨t,h.uH,q⟩
theorem kx.binds{x qual:Str}{st:Stmt}{f:Addr}{fd:FuncData}{ps:List Str}(F:kx K x qual st f fd)
  (h:∀(kV doc pm:Value) (an:Option Addr) (cdv ct:Value) (us:List Value),us.length=ps.length->bindArgs (PySem.W.fnOf x qual (lL st) (ku st) (aD st) .none kV doc pm an cdv ct) ⟨us,[]⟩=pure (ps.zip us)):Binds K fd ps []:=by
 obtain⟨oc,od,kV,doc,pm,an,cdv,ct,osl,rfl,lk,hcd⟩:=F.ex
 exact .all (h kV doc pm an cdv ct)
theorem Ed{x qual:Str}{st:Stmt}{f:Addr}{oc:Value}{od an:Option Addr}{osl:Array (Option Value)}{kV doc pm cdv ct:Value}(l:K.lookup f=some ⟨oc,od,.func (PySem.W.fnOf x qual (lL st) (ku st) (aD st) .none kV doc pm an cdv ct),osl⟩)
  (c:PySem.W.codeIn K cdv qual=true)(k:PySem.W.keepIn K (.ref f)=true):kx K x qual st f (PySem.W.fnOf x qual (lL st) (ku st) (aD st) .none kV doc pm an cdv ct):=⟨⟨oc,od,kV,doc,pm,an,cdv,ct,osl,rfl,l,c⟩,k⟩
end
section
variable{X:Cx}
theorem pv(i:Nat){x:Str}{pos:Pos}(hN:X.N[i]?=some x:=by rfl)(hv:pF X.env.scope x:=by first|exact Or.inl rfl|exact Or.inr (Or.inl rfl)|exact Or.inr (Or.inr rfl))(hd:(x == ("__debug__":Str))=false:=by decide)
  (hcd:(x == ("__classdict__":Str))=false:=by decide):PE X (.Name x pos) (cO i):=C5 hN hv hd hcd
end
theorem dN{A B:Prop}(h:B):if false=true then A else B:=by
 rw[ae fz]
 exact h
theorem gf{A B:Prop}(h:A):if true=true then A else B:=by
 rw[af rfl]
 exact h
noncomputable def ag(H H':Hp):Prop:=∀b o,H b=some o->H' b=some o
theorem ag.refl(H:Hp):ag H H:=fun _ _ h=>h
theorem ag.trans{H H1 H2:Hp}(a:ag H H1)(b:ag H1 H2):ag H H2:=fun c o h=>b c o (a c o h)
theorem ag.free{H H':Hp}(e:ag H H'){l:Addr}(h:H' l=Option.none):H l=Option.none:=by
 cases q:H l with
 |none=>rfl
 |some o=>
  rw[e l o q]at h
  cases h
theorem ag.seq{K:PySem.W.Frag}{H H':Hp}{a:Addr}{xs:List V}(e:ag H H')(h:ai K H a xs):ai K H' a xs:=by
 rcases h with (h|⟨o,h⟩)|h
 ·exact .inl (.inl (e _ _ h))
 ·exact .inl (.inr ⟨o,e _ _ h⟩)
 ·exact .inr h
section
variable{κ:Type}[DecidableEq κ]
theorem Ef:∀{l:List κ}{k:κ},l.Nodup->¬k∈l->(l++[k]).Nodup
 |[],k,_,_=>by simp
 |a::r,k,h,hk=>by
  obtain⟨h1,h2⟩:=kZ.mp h
  show (a::(r++[k])).Nodup
  refine kZ.mpr ⟨fun m=>?_,Ef h2 fun m=>hk (bY.mpr (Or.inr m))⟩
  rcases dU.mp m with q|q
  ·exact h1 q
  ·exact hk (bY.mpr (Or.inl (gz.mp q).symm))
end
theorem at_of{xs:List V}{z:Int}{j:Nat}{v:V}(e:z=(j:Int))(h:xs[j]?=some v):gP xs z=some v:=by
 rw[e]
 exact Lf h
theorem Eh{α:Type}{l:List α}(hN:l.Nodup){i j:Nat}{x:α}(a:l[i]?=some x)(b:l[j]?=some x):i=j:=by
 obtain⟨h1,e1⟩:=dW.mp a
 obtain⟨h2,e2⟩:=dW.mp b
 exact(List.getElem_inj hN).mp (e1.trans e2.symm)
theorem ag.made{H H1:Hp}{x dx C:Addr}(nx:H x=Option.none)(nd:H dx=Option.none)(k:∀b o,(upd (upd H dx (.own x)) x (.ins C dx [])) b=some o->b≠x->H1 b=some o):ag H H1:=fun b o e=>
 k b o (by rw[ax (a7 e nx),ax (a7 e nd)];exact e) (a7 e nx)
end L2
end
section
namespace L2
open PySem PySem.Spec PyProof.Rows
open PySem.W (WData Codec OpenSpec Well WellAll ReadsW ReadsAllW)
mutual
inductive Dw(K:PySem.W.Frag)(H:Hp):V->WData->Prop
 |aW:Dw K H .aW .none
 |bl (b:Bool):Dw K H (.bl b) (.bool b)
 |int (i:Int):Dw K H (.int i) (.int i)
 |str (x:Str):Dw K H (.str x) (.str x)
 |gB (b:Array UInt8):Dw K H (.gB b) (.bytes b.toList)
 |lst {a:Addr}{xs:List V}{ds:List WData}:ai K H a xs->jk K H xs ds->Dw K H (.ref a) (.list ds)
 |tup {a:Addr}{xs:List V}{ds:List WData}:fF K H a xs->jk K H xs ds->Dw K H (.ref a) (.tuple ds)
inductive jk(K:PySem.W.Frag)(H:Hp):List V->List WData->Prop
 |nil:jk K H [] []
 |cons {v:V}{vs:List V}{d:WData}{ds:List WData}:Dw K H v d->jk K H vs ds->jk K H (v::vs) (d::ds)
end
theorem Ei{K:PySem.W.Frag}{H:Hp}:∀ns:List Int,jk K H (ns.map V.int) (ns.map WData.int)
 |[]=>.nil
 |n::r=>.cons (.int n) (Ei r)
theorem Ej{K:PySem.W.Frag}{H:Hp}:∀(ns:List Int) (xs:List V),jk K H xs (ns.map WData.int)->xs=ns.map V.int
 |[],xs,h=>by
  cases h
  rfl
 |n::r,xs,h=>by
  cases h with
  |cons h1 h2=>
   cases h1
   rw[Ej r _ h2]<;>rfl
section
variable{P:Program}{w:World}{K:PySem.W.Frag}{H:Hp}{h:Heap}{R:PySem.W.WRecords}{cl:Str->Option Addr}
theorem Mi{a:Addr}{xs:List V}(aP:cV P w H h)(KX:K.In h)(q:ai K H a xs):∃(its:List Value) (o:Obj) (n:Nat),aK xs its/\h.get? a=some o/\o.cls=.type "list"/\o.data=.seq its.toArray n:=by
 rcases q with q|⟨o,its,n,e,hc,_,hd,_,hv⟩
 ·obtain⟨_,its,n,hv,e⟩:=(show eM P w H h a (.lst xs) from q.ok aP)
  exact⟨its,_,n,hv,e,rfl,rfl⟩
 ·exact⟨its.toList,o,n,hv,KX _ _ e,hc,by simp[hd]⟩
theorem Mj{a:Addr}{xs:List V}(aP:cV P w H h)(KX:K.In h)(q:fF K H a xs):∃(its:List Value) (o:Obj) (n:Nat),aK xs its/\h.get? a=some o/\o.cls=.type "tuple"/\o.data=.seq its.toArray n:=by
 rcases q with q|⟨o,its,n,e,hc,hd,_,hv⟩
 ·obtain⟨_,its,hv,o,e,hc,n,hd⟩:=(show eM P w H h a (.tup xs) from q.ok aP)
  exact⟨its,o,n,hv,e,hc,hd⟩
 ·exact⟨its.toList,o,n,hv,KX _ _ e,hc,by simp[hd]⟩
mutual
theorem Dw.reads(aP:cV P w H h)(KX:K.In h):∀(d:WData) (v:V) (u:Value),Dw K H v d->RelV v u->∃as,ReadsW R cl h u d as
 |.none,_,_,x,r=>by
  cases x
  cases r
  exact⟨_,ReadsW.none⟩
 |.bool b,_,_,x,r=>by
  cases x
  cases r
  exact⟨_,ReadsW.bool b⟩
 |.int i,_,_,x,r=>by
  cases x
  obtain⟨t,rfl⟩:=r
  exact⟨_,ReadsW.int i t⟩
 |.str s,_,_,x,r=>by
  cases x
  obtain⟨t,rfl⟩:=r
  exact⟨_,ReadsW.str s t⟩
 |.bytes b,_,_,x,r=>by
  cases x
  obtain⟨t,rfl⟩:=r
  exact⟨_,ReadsW.bytes _ t⟩
 |.list ds,_,_,x,r=>by
  cases x with
  |lst hs ha=>
   cases r
   obtain⟨its,o,n,rv,ho,hc,hd⟩:=Mi aP KX hs
   obtain⟨as,hr⟩:=Dw.readsAll aP KX ds _ its ha rv
   exact⟨_,ReadsW.list ho hc hd hr⟩
 |.tuple ds,_,_,x,r=>by
  cases x with
  |tup hs ha=>
   cases r
   obtain⟨its,o,n,rv,ho,hc,hd⟩:=Mj aP KX hs
   obtain⟨as,hr⟩:=Dw.readsAll aP KX ds _ its ha rv
   exact⟨_,ReadsW.tuple ho hc hd hr⟩
 |.float _,_,_,x,_=>by cases x
 |.dict _,_,_,x,_=>by cases x
 |.bytearray _,_,_,x,_=>by cases x
 |.set _,_,_,x,_=>by cases x
 |.frozenset _,_,_,x,_=>by cases x
 |.obj _ _,_,_,x,_=>by cases x
theorem Dw.readsAll(aP:cV P w H h)(KX:K.In h):∀(ds:List WData) (vs:List V) (us:List Value),jk K H vs ds->aK vs us->∃as,ReadsAllW R cl h us ds as
 |[],_,_,x,r=>by
  cases x
  cases r
  exact⟨_,ReadsAllW.nil⟩
 |d::ds,_,_,x,r=>by
  cases x with
  |cons h1 h2=>
   cases r with
   |cons r1 r2=>
    obtain⟨as,q1⟩:=Dw.reads aP KX d _ _ h1 r1
    obtain⟨bs,q2⟩:=Dw.readsAll aP KX ds _ _ h2 r2
    exact⟨_,ReadsAllW.cons q1 q2⟩
end
end
mutual
noncomputable def g_:WData->Bool
 |.none=>true
 |.bool _=>true
 |.int _=>true
 |.str _=>true
 |.bytes _=>true
 |.list xs=>jm xs
 |.tuple xs=>jm xs
 |_=>false
noncomputable def jm:List WData->Bool
 |[]=>true
 |x::r=>g_ x&&jm r
end
theorem Ek{α:Type}{f:α->WData}(h:∀a,g_ (f a)=true):∀l:List α,jm (l.map f)=true
 |[]=>rfl
 |x::r=>by
  show (g_ (f x)&&jm (r.map f))=true
  rw[h x,Ek h r]<;>rfl
theorem mJ:∀(c:Codec) (a:c.denote),g_ (c.enc a)=true
 |.unit,_=>rfl
 |.bool,_=>rfl
 |.int _ _,_=>rfl
 |.nat _ _,_=>rfl
 |.u8,_=>rfl
 |.bytes _ _,_=>rfl
 |.text _ _ _ _,_=>rfl
 |.list _ _ c,a=>Ek (fun x=>mJ c x) a
 |.pair c d,a=>by
  show (g_ (c.enc a.1)&&(g_ (d.enc a.2)&&true))=true
  rw[mJ c a.1,mJ d a.2]<;>rfl
 |.triple c d e,a=>by
  show (g_ (c.enc a.1)&&(g_ (d.enc a.2.1)&&(g_ (e.enc a.2.2)&&true)))=true
  rw[mJ c a.1,mJ d a.2.1,mJ e a.2.2]<;>rfl
 |.option c,none=>rfl
 |.option c,some x=>mJ c x
theorem El:∀(cs:List Codec) (a:Codec.denoteAll cs),jm (Codec.encAll cs a)=true
 |[],_=>rfl
 |c::cs,a=>by
  show (g_ (c.enc a.1)&&jm (Codec.encAll cs a.2))=true
  rw[mJ c a.1,El cs a.2]<;>rfl
theorem x_:∀{xs:List WData}{d:WData},d∈xs->d.weight<=WData.weightAll xs
 |[],d,h=>absurd h (by simp)
 |x::r,d,h=>by
  show d.weight<=x.weight+1+WData.weightAll r
  rcases bY.mp h with e|m
  ·rw[e]
   lia
  ·have z:=x_ m
   lia
noncomputable def toV:Value->V
 |.none=>.aW
 |.bool b=>.bl b
 |.int i _=>.int i
 |.str x _=>.str x
 |.bytes b _=>.gB b
 |.ref a=>.ref a
 |_=>.aW
noncomputable def iR(A:List Addr):Value->Prop
 |.none=>True
 |.bool _=>True
 |.int _ _=>True
 |.str _ _=>True
 |.bytes _ _=>True
 |.ref a=>a∈A
 |_=>False
theorem iR.mono{A B:List Addr}(h:∀a∈A,a∈B):∀{u:Value},iR A u->iR B u:=fun {u} x=>by
 cases u with
 |ref a=>exact h a x
 |none=>trivial
 |bool b=>trivial
 |int i t=>trivial
 |str s t=>trivial
 |bytes b t=>trivial
 |_=>exact False.elim x
theorem Ml{A:List Addr}{u:Value}(x:iR A u):RelV (toV u) u:=by
 cases u with
 |ref a=>rfl
 |none=>rfl
 |bool b=>rfl
 |int i t=>exact⟨t,rfl⟩
 |str s t=>exact⟨t,rfl⟩
 |bytes b t=>exact⟨t,rfl⟩
 |_=>exact False.elim x
theorem pQ{A:List Addr}:∀{vs:List Value},(∀u∈vs,iR A u)->aK (vs.map toV) vs
 |[],_=>.nil
 |u::r,h=>.cons (Ml (h u (bE ..))) (pQ fun x hx=>h x (bI _ hx))
noncomputable def jo(h:Heap)(A:List Addr)(a:Addr):Prop:=∃vs:List Value,vs.length<=sizeLine/\(∀u∈vs,iR A u)/\
 (h.get? a=some {cls:=.type "list",data:=.seq vs.toArray}\/h.get? a=some {cls:=.type "tuple",data:=.seq vs.toArray})
theorem jo.mono{h:Heap}{A B:List Addr}{a:Addr}(k:∀a∈A,a∈B)(x:jo h A a):jo h B a:=by
 obtain⟨vs,h1,h2,h3⟩:=x
 exact⟨vs,h1,fun u hu=>(h2 u hu).mono k,h3⟩
theorem uY{P:Params}{h:Heap}:∀{vs:List Value}{ds:List WData},WellAll P h vs ds->vs.length=ds.length
 |_,_,.nil=>rfl
 |_,_,.cons _ b=>by
  show _+1=_+1
  rw[uY b]
theorem Em{P:Params}{h:Heap}{v:Value}{ds:List WData}(x:Well P h v (.list ds)):∃(a:Addr) (vs:List Value),v=.ref a/\h.get? a=some {cls:=.type "list",data:=.seq vs.toArray}/\WellAll P h vs ds:=by
 cases x with
 |list ho hall=>exact⟨_,_,rfl,ho,hall⟩
theorem Eo{P:Params}{h:Heap}{v:Value}{ds:List WData}(x:Well P h v (.tuple ds)):∃(a:Addr) (vs:List Value),v=.ref a/\h.get? a=some {cls:=.type "tuple",data:=.seq vs.toArray}/\WellAll P h vs ds:=by
 cases x with
 |tuple ho hall=>exact⟨_,_,rfl,ho,hall⟩
theorem Ep{P:Params}{h:Heap}{us:List Value}{d:WData}{ds:List WData}(x:WellAll P h us (d::ds)):∃(v:Value) (vs:List Value),us=v::vs/\Well P h v d/\WellAll P h vs ds:=by
 cases x with
 |cons a b=>exact⟨_,_,rfl,a,b⟩
theorem Er{n:Nat}(h:n<=1048576):n<=sizeLine:=cC h (by decide)
section
variable{P:Params}{h:Heap}
mutual
theorem Mm:∀(d:WData) (v:Value),Well P h v d->g_ d=true->d.weight<=1048576->∃A:List Addr,iR A v/\∀a∈A,jo h A a
 |.none,_,x,_,_=>by
  cases x
  exact⟨[],trivial,fun a m=>absurd m (by simp)⟩
 |.bool b,_,x,_,_=>by
  cases x
  exact⟨[],trivial,fun a m=>absurd m (by simp)⟩
 |.int i,_,x,_,_=>by
  cases x
  exact⟨[],trivial,fun a m=>absurd m (by simp)⟩
 |.str s,_,x,_,_=>by
  cases x
  exact⟨[],trivial,fun a m=>absurd m (by simp)⟩
 |.bytes b,_,x,_,_=>by
  cases x
  exact⟨[],trivial,fun a m=>absurd m (by simp)⟩
 |.list ds,_,x,p,z=>by
  obtain⟨a,vs,rfl,ho,hall⟩:=Em x
  have z2:WData.weightAll ds<=1048576:=z
  obtain⟨A,h1,h2⟩:=uZ ds _ hall p fun d hd=>cC (x_ hd) z2
  have k:∀b∈A,b∈a::A:=fun b hb=>bI _ hb
  refine⟨a::A,bE ..,fun b hb=>?_⟩
  rcases bY.mp hb with e|m
  ·rw[e]
   exact⟨vs,Er (by rw[uY hall];exact cC (PySem.W.length_le_weightAllW ds) z2),fun u hu=>(h1 u hu).mono k,.inl ho⟩
  ·exact(h2 b m).mono k
 |.tuple ds,_,x,p,z=>by
  obtain⟨a,vs,rfl,ho,hall⟩:=Eo x
  have z2:WData.weightAll ds<=1048576:=z
  obtain⟨A,h1,h2⟩:=uZ ds _ hall p fun d hd=>cC (x_ hd) z2
  have k:∀b∈A,b∈a::A:=fun b hb=>bI _ hb
  refine⟨a::A,bE ..,fun b hb=>?_⟩
  rcases bY.mp hb with e|m
  ·rw[e]
   exact⟨vs,Er (by rw[uY hall];exact cC (PySem.W.length_le_weightAllW ds) z2),fun u hu=>(h1 u hu).mono k,.inr ho⟩
  ·exact(h2 b m).mono k
 |.float _,_,_,p,_=>Bool.noConfusion (show false=true from p)
 |.dict _,_,_,p,_=>Bool.noConfusion (show false=true from p)
 |.bytearray _,_,_,p,_=>Bool.noConfusion (show false=true from p)
 |.set _,_,_,p,_=>Bool.noConfusion (show false=true from p)
 |.frozenset _,_,_,p,_=>Bool.noConfusion (show false=true from p)
 |.obj _ _,_,_,p,_=>Bool.noConfusion (show false=true from p)
theorem uZ:∀(ds:List WData) (vs:List Value),WellAll P h vs ds->jm ds=true->(∀d∈ds,d.weight<=1048576)->∃A:List Addr,(∀u∈vs,iR A u)/\∀a∈A,jo h A a
 |[],_,x,_,_=>by
  cases x
  exact⟨[],fun u m=>absurd m (by simp),fun a m=>absurd m (by simp)⟩
 |d::ds,_,x,p,z=>by
  obtain⟨v,vs,rfl,x1,x2⟩:=Ep x
  have q:g_ d=true/\jm ds=true:=xn.mp p
  obtain⟨A,a1,a2⟩:=Mm d v x1 q.1 (z d (bE ..))
  obtain⟨B,b1,b2⟩:=uZ ds vs x2 q.2 fun e he=>z e (bI _ he)
  have kA:∀b∈A,b∈A++B:=fun b hb=>dU.mpr (.inl hb)
  have kB:∀b∈B,b∈A++B:=fun b hb=>dU.mpr (.inr hb)
  refine⟨A++B,fun u hu=>?_,fun b hb=>?_⟩
  ·rcases bY.mp hu with e|m
   ·rw[e]
    exact a1.mono kA
   ·exact(b1 u m).mono kB
  ·rcases dU.mp hb with m|m
   ·exact(a2 b m).mono kA
   ·exact(b2 b m).mono kB
end
end
noncomputable def u0(o:Obj):Option HO:=match o.data with
 |.seq vs _=>if (o.cls == Value.type "list")=true then some (.cA o (.lst (vs.toList.map toV))) else some (.cA o (.tup (vs.toList.map toV)))
 |_=>none
noncomputable def e7(K:PySem.W.Frag)(h:Heap)(A:List Addr):Hp:=fun b=>if b∈A then (if (K.lookup b).isNone=true then (h.get? b).bind u0 else none) else none
noncomputable def rY(H:Hp):Prop:=∀b,H b=none\/∃o u,H b=some (.cA o u)
theorem Es(vs:List Value):u0 {cls:=.type "list",data:=.seq vs.toArray}=some (.cA {cls:=.type "list",data:=.seq vs.toArray} (.lst (vs.map toV))):=by
 show (if (Value.type "list" == Value.type "list")=true then some (HO.cA {cls:=.type "list",data:=.seq vs.toArray} (.lst (vs.toArray.toList.map toV))) else some (HO.cA {cls:=.type "list",data:=.seq vs.toArray} (.tup (vs.toArray.toList.map toV))))=_
 rw[af (beq_self_eq_true _)]
theorem Et(vs:List Value):u0 {cls:=.type "tuple",data:=.seq vs.toArray}=some (.cA {cls:=.type "tuple",data:=.seq vs.toArray} (.tup (vs.map toV))):=by
 show (if (Value.type "tuple" == Value.type "list")=true then some (HO.cA {cls:=.type "tuple",data:=.seq vs.toArray} (.lst (vs.toArray.toList.map toV))) else some (HO.cA {cls:=.type "tuple",data:=.seq vs.toArray} (.tup (vs.toArray.toList.map toV))))=_
 rw[ae (by decide)]
section
variable{P:Program}{w:World}{K:PySem.W.Frag}{h:Heap}{A:List Addr}
theorem u1{b:Addr}{o:Obj}(hb:b∈A)(hk:K.lookup b=none)(e:h.get? b=some o):e7 K h A b=u0 o:=by
 unfold e7
 rw[af hb,hk,af (show (none:Option Obj).isNone=true from rfl),e]<;>rfl
theorem Mn{b:Addr}{u:HO}(q:e7 K h A b=some u):b∈A/\K.lookup b=none:=by
 unfold e7 at q
 by_cases hb:b∈A
 ·rw[af hb]at q
  cases hk:K.lookup b with
  |none=>exact⟨hb,rfl⟩
  |some o=>
   rw[hk,ae (by simp)]at q
   cases q
 ·rw[ae hb]at q
  cases q
theorem u4(ar:∀a∈A,jo h A a){b:Addr}{u:HO}(q:e7 K h A b=some u):K.lookup b=none/\∃vs:List Value,vs.length<=sizeLine/\(∀u∈vs,iR A u)/\
  ((h.get? b=some {cls:=.type "list",data:=.seq vs.toArray}/\u=.cA {cls:=.type "list",data:=.seq vs.toArray} (.lst (vs.map toV)))\/
   (h.get? b=some {cls:=.type "tuple",data:=.seq vs.toArray}/\u=.cA {cls:=.type "tuple",data:=.seq vs.toArray} (.tup (vs.map toV)))):=by
 obtain⟨hb,hk⟩:=Mn q
 obtain⟨vs,h1,h2,h3⟩:=ar b hb
 refine⟨hk,vs,h1,h2,?_⟩
 rcases h3 with e|e
 ·rw[u1 hb hk e,Es]at q
  exact .inl ⟨e,(bo q).symm⟩
 ·rw[u1 hb hk e,Et]at q
  exact .inr ⟨e,(bo q).symm⟩
theorem Mo(ar:∀a∈A,jo h A a):rY (e7 K h A):=fun b=>by
 cases q:e7 K h A b with
 |none=>exact .inl rfl
 |some u=>
  obtain⟨_,vs,_,_,⟨_,e⟩|⟨_,e⟩⟩:=u4 ar q
  ·exact .inr ⟨_,_,by rw[e]⟩
  ·exact .inr ⟨_,_,by rw[e]⟩
theorem Mp(ar:∀a∈A,jo h A a):cV P w (e7 K h A) h:=fun b u q=>by
 obtain⟨_,vs,h1,h2,⟨e,rfl⟩|⟨e,rfl⟩⟩:=u4 ar q
 ·exact⟨e,by rw[aE];exact h1,vs,_,pQ h2,e⟩
 ·exact⟨e,by rw[aE];exact h1,vs,pQ h2,_,e,rfl,_,rfl⟩
theorem u5{c c':Value}{vs us:List Value}(e:(some {cls:=c,data:=.seq vs.toArray}:Option Obj)=some {cls:=c',data:=.seq us.toArray}):c=c'/\vs=us:=by
 have e1:=bo e
 have e2:c=c':=bQ Obj.cls e1
 have e3:Data.seq vs.toArray=Data.seq us.toArray:=bQ Obj.data e1
 injection e3 with e4
 refine⟨e2,?_⟩
 have e5:=bQ Array.toList e4
 simpa using e5
theorem Mq(KX:K.In h)(ar:∀a∈A,jo h A a){a:Addr}{vs:List Value}(ha:a∈A)(e:h.get? a=some {cls:=.type "list",data:=.seq vs.toArray}):(∀u∈vs,iR A u)/\ai K (e7 K h A) a (vs.map toV):=by
 obtain⟨us,h1,h2,h3⟩:=ar a ha
 have hu:us=vs:=by
  rcases h3 with q|q
  ·rw[e]at q
   exact(u5 q).2.symm
  ·rw[e]at q
   exact absurd (Value.type.inj (u5 q).1) (by decide)
 subst hu
 refine⟨h2,?_⟩
 cases hk:K.lookup a with
 |none=>exact .inl (.inr ⟨_,by rw[u1 ha hk e,Es]⟩)
 |some o=>
  have e2:=KX a o hk
  rw[e]at e2
  obtain rfl:=bo e2
  exact .inr ⟨_,us.toArray,_,hk,rfl,rfl,rfl,by rw[c5];exact h1,by simpa using pQ h2⟩
theorem Mr(KX:K.In h)(ar:∀a∈A,jo h A a){a:Addr}{vs:List Value}(ha:a∈A)(e:h.get? a=some {cls:=.type "tuple",data:=.seq vs.toArray}):(∀u∈vs,iR A u)/\fF K (e7 K h A) a (vs.map toV):=by
 obtain⟨us,h1,h2,h3⟩:=ar a ha
 have hu:us=vs:=by
  rcases h3 with q|q
  ·rw[e]at q
   exact absurd (Value.type.inj (u5 q).1) (by decide)
  ·rw[e]at q
   exact(u5 q).2.symm
 subst hu
 refine⟨h2,?_⟩
 cases hk:K.lookup a with
 |none=>exact .inl (.inr ⟨_,by rw[u1 ha hk e,Et]⟩)
 |some o=>
  have e2:=KX a o hk
  rw[e]at e2
  obtain rfl:=bo e2
  exact .inr ⟨_,us.toArray,_,hk,rfl,rfl,by rw[c5];exact h1,by simpa using pQ h2⟩
mutual
theorem Mt{Pm:Params}(KX:K.In h)(ar:∀a∈A,jo h A a):∀(d:WData) (v:Value),Well Pm h v d->g_ d=true->iR A v->Dw K (e7 K h A) (toV v) d
 |.none,_,x,_,_=>by
  cases x
  exact .aW
 |.bool b,_,x,_,_=>by
  cases x
  exact .bl b
 |.int i,_,x,_,_=>by
  cases x
  exact .int i
 |.str s,_,x,_,_=>by
  cases x
  exact .str s
 |.bytes b,_,x,_,_=>by
  cases x
  have z:=Dw.gB (K:=K) (H:=e7 K h A) b.toArray
  exact z
 |.list ds,_,x,p,hu=>by
  obtain⟨a,vs,rfl,ho,hall⟩:=Em x
  obtain⟨h2,hs⟩:=Mq KX ar hu ho
  exact .lst hs (u6 KX ar ds _ hall p h2)
 |.tuple ds,_,x,p,hu=>by
  obtain⟨a,vs,rfl,ho,hall⟩:=Eo x
  obtain⟨h2,hs⟩:=Mr KX ar hu ho
  exact .tup hs (u6 KX ar ds _ hall p h2)
 |.float _,_,_,p,_=>Bool.noConfusion (show false=true from p)
 |.dict _,_,_,p,_=>Bool.noConfusion (show false=true from p)
 |.bytearray _,_,_,p,_=>Bool.noConfusion (show false=true from p)
 |.set _,_,_,p,_=>Bool.noConfusion (show false=true from p)
 |.frozenset _,_,_,p,_=>Bool.noConfusion (show false=true from p)
 |.obj _ _,_,_,p,_=>Bool.noConfusion (show false=true from p)
theorem u6{Pm:Params}(KX:K.In h)(ar:∀a∈A,jo h A a):∀(ds:List WData) (vs:List Value),WellAll Pm h vs ds->jm ds=true->(∀u∈vs,iR A u)->jk K (e7 K h A) (vs.map toV) ds
 |[],_,x,_,_=>by
  cases x
  exact .nil
 |d::ds,_,x,p,hu=>by
  obtain⟨v,vs,rfl,x1,x2⟩:=Ep x
  have q:g_ d=true/\jm ds=true:=xn.mp p
  exact .cons (Mt KX ar d v x1 q.1 (hu _ (bE ..))) (u6 KX ar ds vs x2 q.2 fun u m=>hu u (bI _ m))
end
end
theorem Mu{P:Program}{w:World}{K:PySem.W.Frag}{mg mb:Str->Option Value}{CX:jQ}{k:Nat}{fa:Addr}{fd:FuncData}{ps:List Str}{sp:Sp}{s₁:Shared}{vals:List Value}{ds:List WData}{R:PySem.W.WRecords}{cl:Str->Option Addr}{d0:WData}
  (KX:K.In s₁.heap)(hns:s₁.heap.Ns mainGlobals mg)(hb:s₁.heap.Ns builtinsNs mb)(hbb:∀x:Str,x≠"__name__"->mb x=bootBuiltins x)(hlim:s₁.heap.NoLimit)(hg:s₁.gens= #[])
  (hwl:WellAll w.params s₁.heap vals ds)(hpl:jm ds=true)(hwt:∀d∈ds,d.weight<=1048576)(hr:cB k callerA)
  (F:∀base:Heap,K.In base->base.Ns mainGlobals mg->eu P w K mg base CX k fa fd ps sp)(hbind:∀(s:Shared) (us:List Value),us.length=ps.length->BindsTo s fd ⟨us,[]⟩ (ps.zip us))(hlen:ds.length=ps.length)
  (hsp:∀(H:Hp) (xs:List V),rY H->jk K H xs ds->sp xs H (fun v H'=>Dw K H' v d0) fun _ _ _=>False)
  (hCX:∀H e s',CX [] H s₁ (fun _ _ _=>False) e s'->False):
  codeAny (model P w) callerA (.call (.ref fa) ⟨vals,[]⟩) (fun r s'=>∃u as,r=.ok (.ret u)/\ReadsW R cl s'.heap u d0 as/\OldK s₁.heap s'.heap/\s'.os=s₁.os/\AllBare s'.gens) s₁:=by
 obtain⟨A,ho,ar⟩:=uZ ds vals hwl hpl hwt
 have hO:rY (e7 K s₁.heap A):=Mo ar
 have aP:cV P w (e7 K s₁.heap A) s₁.heap:=Mp ar
 have hS:=u6 KX ar ds vals hwl hpl ho
 have hV:=pQ ho
 have hK:∀b u,e7 K s₁.heap A b=some u->K.lookup b=none:=fun b u q=>(u4 ar q).1
 have noA:∀{b:Addr}{o:Obj}{es:Array DictEntry}{ep:Nat},s₁.heap.get? b=some o->o.data=.dict es ep->e7 K s₁.heap A b=none:=fun {b o es ep} e d=>by
  cases q:e7 K s₁.heap A b with
  |none=>rfl
  |some u=>
   obtain⟨_,vs,_,_,⟨e2,_⟩|⟨e2,_⟩⟩:=u4 ar q
   ·rw[e2]at e
    cases e
    have d':Data.seq vs.toArray _=Data.dict es ep:=d
    cases d'
   ·rw[e2]at e
    cases e
    have d':Data.seq vs.toArray _=Data.dict es ep:=d
    cases d'
 generalize e7 K s₁.heap A=H at hO aP hS hK noA
 have base_of:∀{b:Addr}{o:Obj},s₁.heap.get? b=some o->H b=none->(lq s₁.heap H).get? b=some o:=fun e n=>Kc e n
 have nsK:∀{b:Addr}{m:Str->Option Value},s₁.heap.Ns b m->(lq s₁.heap H).Ns b m:=fun {b m} ⟨o,es,ep,e,d,r⟩=>⟨o,es,ep,base_of e (noA e d),d,r⟩
 have nK:∀b o,K.lookup b=some o->H b=none:=fun b o e=>by
  cases q:H b with
  |none=>rfl
  |some u=>
   rw[hK b u q]at e
   cases e
 have hKb:K.In (lq s₁.heap H):=fun b o e=>base_of (KX b o e) (nK b o e)
 have hM:Mod K mg (lq s₁.heap H):=⟨hKb,nsK hns,⟨mb,nsK hb,hbb⟩,let ⟨mc,h1,h2⟩:=hlim;⟨mc,nsK h1,h2⟩⟩
 have e0:nE P w K mg (lq s₁.heap H) callerA [] s₁ H:=⟨rfl,hM,fun b o e=>Kd e,Nat.le_of_eq (Kb _ _),trivial,fun b hb=>absurd (show b∈([]:List Addr) from hb) (by simp),aP,.of_eq hg⟩
 have hl:vals.length=ps.length:=by rw[uY hwl];exact hlen
 refine codeAny_mono ((F _ hKb (nsK hns)).run callerA [] s₁ H ⟨vals,[]⟩ vals (vals.map toV) _ _ hr e0 (hbind s₁ vals hl) hV (hsp H _ hO hS)) fun r s' x=>?_
 cases r with
 |error e=>exact(hCX H e s' x).elim
 |ok fl=>
  cases fl with
  |next=>exact False.elim x
  |brk=>exact False.elim x
  |cont=>exact False.elim x
  |ret u=>
   obtain⟨v,H',os,bare,un,hok',r',q⟩:=x
   have kept:∀b o,s₁.heap.get? b=some o->s'.heap.get? b=some o:=fun b o e=>by
    cases q2:H b with
    |none=>exact un.keep b o e q2 (by intro z;exact absurd (show b∈([]:List Addr) from z) (by simp)) (by simp)
    |some u2=>
     rcases hO b with z|⟨ob,u3,z⟩
     ·rw[q2]at z
      cases z
     ·have z2:=un.jJ b ob _ z
      obtain⟨e1,_⟩:=aP b _ z
      obtain⟨e2,_⟩:=hok' b _ z2
      rw[e]at e1
      cases e1
      exact e2
   have KX':K.In s'.heap:=fun b o e=>kept b o (KX b o e)
   obtain⟨as,hrd⟩:=Dw.reads (R:=R) (cl:=cl) hok' KX' d0 v u q r'
   exact⟨u,as,rfl,hrd,OldK.of_keep kept,os,bare⟩
theorem Mv{ds:List WData}(h:WData.layableAll ds=true):∀d∈ds,d.weight<=1048576:=fun d hd=>
 (PySem.W.layableW_iff.mp (mq.mp h d hd)).2.2
theorem Eu:∀(cs:List Codec) (a:Codec.denoteAll cs),(Codec.encAll cs a).length=cs.length
 |[],_=>rfl
 |c::cs,a=>by
  show (Codec.encAll cs a.2).length+1=cs.length+1
  rw[Eu cs a.2]
theorem Mw{r:OpenSpec}{k:Nat}{q:Program}{loose:List Str}{XP:(Str->Option Value)->Heap->Prop}{YP:World->Heap->Prop}{d:DefRec}{K:Params->PySem.W.Frag}{CX:World->jQ}{ps:List Str}{sp:World->Sp}
  (hwell:r.wellSaid=true)(hdf:d.params.defaults=[])(hlen:r.args.length=ps.length)(hr:cB k callerA)
  (hY:∀(w:World) (h:Heap),YP w h->(K w.params).In h)
  (F:∀(w:World) (mg:Str->Option Value) (fa:Addr) (h:Heap),YP w h->(K w.params).In h->h.Ns mainGlobals mg->mg d.name=some (.ref fa)->
   ∃fd:FuncData,(∀(s:Shared) (us:List Value),us.length=ps.length->BindsTo s fd ⟨us,[]⟩ (ps.zip us))/\
    ∀base:Heap,(K w.params).In base->base.Ns mainGlobals mg->eu r.prog w (K w.params) mg base (CX w) k fa fd ps (sp w))
  (hsp:∀(w:World) (H:Hp) (xs:List V) (a:Codec.denoteAll r.args),rY H->Codec.withinAll r.args a=true->Codec.app r.args r.asked a=true->jk (K w.params) H xs (Codec.encAll r.args a)->
   sp w xs H (fun v H'=>Dw (K w.params) H' v (r.ret.enc (Codec.app r.args r.f a))) fun _ _ _=>False)
  (hCX:∀(w:World) (H:Hp) (s:Shared) (e:Value) (s':Shared),CX w [] H s (fun _ _ _=>False) e s'->False):
  PySem.W.WalkOS q loose XP YP r d [] (fun f vs=>PySem.call f vs):=by
 intro w eN s₁ mg mb G Y fa o pm cd doc dV kV ho hd hcd hD hmg hg args vals as hpre hlay hrd hwl hlo
 obtain⟨a,e1,e2⟩:=PySem.W.os_pre_some hpre
 obtain⟨e3,hwi⟩:=Codec.encAll_of_decAll r.args args a e1
 subst e3
 have KX:=hY w _ Y
 obtain⟨fd,hb,hF⟩:=F w mg fa _ Y KX G.T.g hmg
 refine PySem.W.enter_call (codeAny_mono (Mu (R:=[]) (cl:=classAt eN.heap) (d0:=r.ret.enc (Codec.app r.args r.f a)) KX G.T.g G.T.b G.T.builtins G.T.nolimit hg hwl (El _ _) (Mv hlay) hr hF hb (by rw[Eu];exact hlen)
  (fun H xs hO hS=>hsp w H xs a hO hwi e2 hS) fun H e s'=>hCX w H s₁ e s') fun r' s' hq=>?_)
 obtain⟨u,as',rfl,h1,h2,h3,h4⟩:=hq
 exact⟨.inl ⟨u,_,as',rfl,fun _=>rfl,h1,(OpenSpec.post_iff hwell hwi _ _).mpr rfl,fun z=>Bool.noConfusion (show false=true from z)⟩,h2,h3,h4⟩
theorem Mx{r:OpenSpec}{k:Nat}{q:Program}{loose:List Str}{XP:(Str->Option Value)->Heap->Prop}{YP:World->Heap->Prop}{d:DefRec}{K:Params->PySem.W.Frag}{CX:jQ}{ps:List Str}{sp:PySem.W.Frag->Sp}
  (hwell:r.wellSaid=true)(hdf:d.params.defaults=[])(hlen:r.args.length=ps.length)(hr:cB k callerA)
  (hY:∀(w:World) (h:Heap),YP w h->(K w.params).In h)
  (F:∀(w:World) (mg:Str->Option Value) (fa:Addr) (h:Heap),YP w h->(K w.params).In h->h.Ns mainGlobals mg->mg d.name=some (.ref fa)->
   ∃fd:FuncData,(∀(s:Shared) (us:List Value),us.length=ps.length->BindsTo s fd ⟨us,[]⟩ (ps.zip us))/\
    ∀base:Heap,(K w.params).In base->base.Ns mainGlobals mg->eu r.prog w (K w.params) mg base CX k fa fd ps (sp (K w.params)))
  (hsp:∀(K:PySem.W.Frag) (H:Hp) (xs:List V) (a:Codec.denoteAll r.args),rY H->Codec.withinAll r.args a=true->Codec.app r.args r.asked a=true->jk K H xs (Codec.encAll r.args a)->
   sp K xs H (fun v H'=>Dw K H' v (r.ret.enc (Codec.app r.args r.f a))) fun _ _ _=>False)
  (hCX:∀(H:Hp) (s:Shared) (e:Value) (s':Shared),CX [] H s (fun _ _ _=>False) e s'->False):
  PySem.W.WalkOS q loose XP YP r d [] (fun f vs=>PySem.call f vs):=
 Mw (K:=K) (CX:=fun _=>CX) (sp:=fun w=>sp (K w.params)) hwell hdf hlen hr hY F (fun w H xs a h1 h2 h3 h4=>hsp (K w.params) H xs a h1 h2 h3 h4) fun _ H s e s'=>hCX H s e s'
end L2
end
section
namespace BB
open Wqaraq
theorem bK(f:Nat->Nat):(made f).length=16:=by simp[made,WIDE]
theorem hJ{f:Nat->Nat}{i:Nat}(h:i<16):at_ (made f) i=f i:=by
 unfold at_ made WIDE
 rw[eg,b_,qW h]
 rfl
theorem dG{a b:Perm}(ha:a.length=16)(hb:b.length=16)(h:∀i,i<16->at_ a i=at_ b i):a=b:=by
 apply List.ext_getElem (by lia)
 intro i h1 h2
 have:=h i (by lia)
 unfold at_ at this
 rw[eg,eg,bu h1,bu h2]at this
 exact this
theorem Ew{a:Perm}(ha:a.length=16):made (fun i=>at_ a i)=a:=
 dG (bK _) ha fun i hi=>hJ hi
structure aw(a:Perm):Prop where
 len:a.length=16
 lt:∀i,i<16->at_ a i<16
 inj:∀i j,i<16->j<16->at_ a i=at_ a j->i=j
 fQ:∀v,v<16->∃i,i<16/\at_ a i=v
theorem aw.ne{a:Perm}(h:aw a){i j:Nat}(hi:i<16)(hj:j<16)(n:i≠j):at_ a i≠at_ a j:=fun e=>n (h.inj i j hi hj e)
theorem eT{i:Nat}(h:i<16):at_ still i=i:=hJ h
theorem dO:aw still:=⟨bK _,fun i h=>by rw[eT h];exact h,fun i j hi hj e=>by rwa[eT hi,eT hj]at e,fun v hv=>⟨v,hv,eT hv⟩⟩
theorem cF{a b:Perm}{i:Nat}(h:i<16):at_ (then_ a b) i=at_ b (at_ a i):=hJ h
theorem aw.then_{a b:Perm}(ha:aw a)(hb:aw b):aw (then_ a b):=by
 refine⟨bK _,fun i h=>?_,fun i j hi hj e=>?_,fun v hv=>?_⟩
 ·rw[cF h];exact hb.lt _ (ha.lt _ h)
 ·rw[cF hi,cF hj]at e
  exact ha.inj _ _ hi hj (hb.inj _ _ (ha.lt _ hi) (ha.lt _ hj) e)
 ·obtain⟨j,hj,ej⟩:=hb.fQ v hv
  obtain⟨i,hi,ei⟩:=ha.fQ j hj
  exact⟨i,hi,by rw[cF hi,ei,ej]⟩
theorem lM{a:Perm}(ha:aw a){v:Nat}(hv:v<16):at_ (back a) v<16/\at_ a (at_ (back a) v)=v:=by
 rw[show at_ (back a) v=(a.findIdx? fun x=>x == v).getD 0 from hJ hv]
 obtain⟨i,hi,ei⟩:=ha.fQ v hv
 cases e:a.findIdx? fun x=>x == v with
 |none=>
  exfalso
  rw[List.findIdx?_eq_none_iff]at e
  have hl:i<a.length:=by rw[ha.len];exact hi
  have:=e a[i] (i5 hl)
  unfold at_ at ei
  rw[eg,bu hl]at ei
  simp at ei this
  exact this ei
 |some k=>
  rw[List.findIdx?_eq_some_iff_getElem]at e
  obtain⟨hk,e1,_⟩:=e
  rw[ha.len]at hk
  refine⟨hk,?_⟩
  show at_ a k=v
  unfold at_
  rw[eg,bu (by rw[ha.len];exact hk)]
  simpa using e1
theorem hU{a:Perm}(ha:aw a){i:Nat}(hi:i<16):at_ (back a) (at_ a i)=i:=by
 have h:=lM ha (ha.lt i hi)
 exact ha.inj _ _ h.1 hi h.2
theorem aw.back{a:Perm}(ha:aw a):aw (back a):=by
 refine⟨bK _,fun i h=>(lM ha h).1,fun i j hi hj e=>?_,fun v hv=>⟨at_ a v,ha.lt v hv,hU ha hv⟩⟩
 rw[<-(lM ha hi).2,<-(lM ha hj).2,e]
theorem then_assoc{a b c:Perm}(ha:aw a):then_ (then_ a b) c=then_ a (then_ b c):=
 dG (bK _) (bK _) fun i hi=>by rw[cF hi,cF hi,cF hi,cF (ha.lt i hi)]
theorem gg{a:Perm}(ha:aw a):then_ still a=a:=
 dG (bK _) ha.len fun i hi=>by rw[cF hi,eT hi]
theorem dH{a:Perm}(ha:aw a):then_ a still=a:=
 dG (bK _) ha.len fun i hi=>by rw[cF hi,eT (ha.lt i hi)]
theorem jV{a:Perm}(ha:aw a):then_ a (back a)=still:=
 dG (bK _) (bK _) fun i hi=>by rw[cF hi,hU ha hi,eT hi]
theorem rZ{a:Perm}(ha:aw a):then_ (back a) a=still:=
 dG (bK _) (bK _) fun i hi=>by rw[cF hi,(lM ha hi).2,eT hi]
theorem Ex{a:Perm}(ha:aw a):back (back a)=a:=
 dG (bK _) ha.len fun i hi=>by
  have h:=lM ha.back hi
  have:=bQ (at_ a) h.2
  rw[(lM ha h.1).2]at this
  rw[this]
theorem dk{a b:Perm}(ha:aw a)(hb:aw b):then_ a (then_ (back a) b)=b:=by
 rw[<-then_assoc ha,jV ha,gg hb]
theorem yc{a b:Perm}(ha:aw a)(hb:aw b):then_ (back a) (then_ a b)=b:=by
 rw[<-then_assoc ha.back,rZ ha,gg hb]
theorem jq{a b c:Perm}(ha:aw a)(hb:aw b)(hc:aw c)(e:then_ a b=then_ a c):b=c:=by
 rw[<-yc ha hb,e,yc ha hc]
noncomputable def X(a:Perm)(i j:Nat):Prop:=(i<j/\at_ a j<at_ a i)\/(j<i/\at_ a i<at_ a j)
theorem X.symm{a:Perm}{i j:Nat}(h:X a i j):X a j i:=Or.symm h
theorem u7{a:Perm}{i:Nat}:¬X a i i:=by unfold X;lia
theorem yd{i j:Nat}(hi:i<16)(hj:j<16):¬X still i j:=by
 unfold X;rw[eT hi,eT hj];lia
theorem X.lt{a:Perm}{i j:Nat}(h:i<j):X a i j↔at_ a j<at_ a i:=⟨fun x=>x.elim And.right fun y=>absurd h (Nat.lt_asymm y.1),fun x=>.inl ⟨h,x⟩⟩
theorem X.co{a:Perm}{i j:Nat}:X a i j↔X a j i:=⟨X.symm,X.symm⟩
theorem X.th{a b:Perm}(ha:aw a)(hb:aw b){i j:Nat}(hi:i<16)(hj:j<16)(h:i<j):
  X (then_ a b) i j↔((X a i j/\¬X b (at_ a i) (at_ a j))\/(¬X a i j/\X b (at_ a i) (at_ a j))):=by
 have h1:=ha.ne hi hj (Nat.ne_of_lt h)
 have h2:=hb.ne (ha.lt i hi) (ha.lt j hj) h1
 rw[X.lt h,X.lt h,cF hi,cF hj]
 rcases Nat.lt_or_gt_of_ne h1 with c|c
 ·simp[X.lt c,Nat.lt_asymm c]
 ·rw[X.co (a:=b),X.lt c]
  simp only[c,true_and,not_true_eq_false,false_and,or_false,Nat.not_lt]
  exact ⟨Nat.le_of_lt,fun q=>Nat.lt_of_le_of_ne q h2.symm⟩
theorem nM{a b:Perm}(ha:aw a)(hb:aw b){i j:Nat}(hi:i<16)(hj:j<16):
  X (then_ a b) i j↔((X a i j/\¬X b (at_ a i) (at_ a j))\/(¬X a i j/\X b (at_ a i) (at_ a j))):=by
 rcases Nat.lt_trichotomy i j with h|h|h
 ·exact X.th ha hb hi hj h
 ·subst h;simp[u7]
 ·rw[X.co,X.co (a:=a),X.co (a:=b)];exact X.th ha hb hj hi h
theorem nO{a:Perm}(ha:aw a){i j:Nat}(hi:i<16)(hj:j<16):X (back a) (at_ a i) (at_ a j)↔X a i j:=by
 unfold X;rw[hU ha hi,hU ha hj];lia
noncomputable def Le(a b:Perm):Prop:=∀i j,i<16->j<16->X a i j->X b i j
theorem Le.refl(a:Perm):Le a a:=fun _ _ _ _ h=>h
theorem Le.trans{a b c:Perm}(h:Le a b)(k:Le b c):Le a c:=fun i j hi hj x=>k i j hi hj (h i j hi hj x)
theorem Le.still{b:Perm}:Le still b:=fun _ _ hi hj h=>(yd hi hj h).elim
theorem ye{c:Perm}(hc:aw c)(h:∀i,i<15->at_ c i<at_ c (i+1)):c=still:=by
 have up:∀i,i<16->i<=at_ c i:=by
  intro i
  induction i with
  |zero=>intro _;lia
  |succ k ih=>intro hk;have:=ih (by lia);have:=h k (by lia);lia
 have dn:∀d i,i+d=15->at_ c i+d<=15:=by
  intro d
  induction d with
  |zero=>intro i e;have:=hc.lt i (by lia);lia
  |succ k ih=>intro i e;have:=ih (i+1) (by lia);have:=h i (by lia);lia
 refine dG hc.len (bK _) fun i hi=>?_
 rw[eT hi]
 have:=up i hi;have:=dn (15 - i) i (by lia);lia
theorem yf{c:Perm}(hc:aw c)(n:c≠Wqaraq.still):∃i,i<15/\X c i (i+1):=by
 apply k7
 intro k
 apply n
 apply ye hc
 intro i hi
 have h1:¬X c i (i+1):=fun x=>k ⟨i,hi,x⟩
 have h2:=hc.ne (show i<16 by lia) (show i+1<16 by lia) (by lia)
 unfold X at h1;lia
theorem Le.antisymm{a b:Perm}(ha:aw a)(hb:aw b)(h:Le a b)(k:Le b a):a=b:=by
 have hc:=ha.back.then_ hb
 have e:then_ (Wqaraq.back a) b=Wqaraq.still:=by
  apply k7
  intro n
  obtain⟨i,hi,x⟩:=yf hc n
  obtain⟨p,hp,ep⟩:=ha.fQ i (by lia)
  obtain⟨q,hq,eq⟩:=ha.fQ (i+1) (by lia)
  rw[nM ha.back hb (by lia) (by lia),<-eq,<-ep,nO ha hp hq,hU ha hp,hU ha hq]at x
  rcases x with ⟨x,y⟩|⟨x,y⟩
  ·exact y (h p q hp hq x)
  ·exact x (k p q hp hq y)
 rw[<-dk ha hb,e,dH ha]
noncomputable def Red(a b:Perm):Prop:=∀i j,i<16->j<16->X a i j->¬X b (at_ a i) (at_ a j)
theorem Red.x{a b:Perm}(ha:aw a)(hb:aw b)(r:Red a b){i j:Nat}(hi:i<16)(hj:j<16):X (then_ a b) i j↔X a i j\/X b (at_ a i) (at_ a j):=by
 rw[nM ha hb hi hj]
 have:=r i j hi hj
 constructor
 ·rintro(⟨x,_⟩|⟨_,y⟩)
  ·exact .inl x
  ·exact .inr y
 ·rintro(x|y)
  ·exact .inl ⟨x,this x⟩
  ·exact .inr ⟨fun x=>this x y,y⟩
theorem Red.le{a b:Perm}(ha:aw a)(hb:aw b)(r:Red a b):Le a (then_ a b):=fun i j hi hj x=>(r.x ha hb hi hj).mpr (.inl x)
theorem Ey{a b:Perm}(ha:aw a)(hb:aw b)(h:Le a (then_ a b)):Red a b:=fun i j hi hj x y=>by
 have:=h i j hi hj x
 rw[nM ha hb hi hj]at this
 rcases this with ⟨_,z⟩|⟨z,_⟩
 ·exact z y
 ·exact z x
theorem Le.red{a c:Perm}(ha:aw a)(hc:aw c)(h:Le a c):Red a (then_ (Wqaraq.back a) c):=
 Ey ha (ha.back.then_ hc) (by rw[dk ha hc];exact h)
theorem pR{a:Perm}(ha:aw a):Red a Wqaraq.still:=fun i j hi hj _ y=>yd (ha.lt i hi) (ha.lt j hj) y
theorem My{a:Perm}:Red Wqaraq.still a:=fun _ _ hi hj x=>(yd hi hj x).elim
theorem Red.assoc{a b c:Perm}(ha:aw a)(hb:aw b)(hc:aw c)(r:Red a b):Red (then_ a b) c↔Red b c/\Red a (then_ b c):=by
 constructor
 ·intro h
  have hbc:Red b c:=by
   intro i j hi hj x y
   obtain⟨p,hp,rfl⟩:=ha.fQ i hi
   obtain⟨q,hq,rfl⟩:=ha.fQ j hj
   refine h p q hp hq ((r.x ha hb hp hq).mpr (.inr x)) ?_
   rw[cF hp,cF hq];exact y
  refine⟨hbc,fun i j hi hj x y=>?_⟩
  rw[hbc.x hb hc (ha.lt i hi) (ha.lt j hj)]at y
  rcases y with y|y
  ·exact r i j hi hj x y
  ·refine h i j hi hj ((r.x ha hb hi hj).mpr (.inl x)) ?_
   rw[cF hi,cF hj];exact y
 ·rintro⟨hbc,h⟩ i j hi hj x y
  rw[cF hi,cF hj]at y
  rw[r.x ha hb hi hj]at x
  rcases x with x|x
  ·exact h i j hi hj x ((hbc.x hb hc (ha.lt i hi) (ha.lt j hj)).mpr (.inr y))
  ·exact hbc _ _ (ha.lt i hi) (ha.lt j hj) x y
theorem nP{a b c:Perm}(ha:aw a)(h:Le b c)(r:Red a c):Red a b:=fun i j hi hj x y=>r i j hi hj x (h _ _ (ha.lt i hi) (ha.lt j hj) y)
theorem iS{a b c:Perm}(ha:aw a)(hb:aw b)(hc:aw c)(h:Le b c)(r:Red a c):Le (then_ a b) (then_ a c):=by
 intro i j hi hj x
 rw[(nP ha h r).x ha hb hi hj]at x
 rw[r.x ha hc hi hj]
 rcases x with x|x
 ·exact .inl x
 ·exact .inr (h _ _ (ha.lt i hi) (ha.lt j hj) x)
theorem mK{a b c:Perm}(ha:aw a)(hb:aw b)(hc:aw c)(rb:Red a b)(rc:Red a c)(h:Le (then_ a b) (then_ a c)):Le b c:=by
 intro i j hi hj x
 obtain⟨p,hp,rfl⟩:=ha.fQ i hi
 obtain⟨q,hq,rfl⟩:=ha.fQ j hj
 have:=h p q hp hq ((rb.x ha hb hp hq).mpr (.inr x))
 rw[rc.x ha hc hp hq]at this
 rcases this with y|y
 ·exact(rb p q hp hq y x).elim
 ·exact y
end BB
end
section
namespace BB
open Wqaraq
theorem r_:∀(n:Nat) (f:Nat->Nat),(∀i,i<n->f i<n)->(∀i j,i<n->j<n->f i=f j->i=j)->∀v,v<n->∃i,i<n/\f i=v
 |0,f,h,k,v,hv=>by lia
 |n+1,f,h,k,v,hv=>by
  by_cases e:∃p,p<n/\f p=n
  ·obtain⟨p,hp,ep⟩:=e
   have hn:f n<n:=by
    have:=h n (by lia)
    have:f n≠n:=fun q=>by have:=k p n (by lia) (by lia) (by lia);lia
    lia
   let g:Nat->Nat:=fun i=>if i=p then f n else f i
   have ih:=r_ n g (fun i hi=>by
    show (if i=p then f n else f i)<n
    split
    ·exact hn
    ·rename_i q
     have:=h i (by lia)
     have:f i≠n:=fun z=>q (k i p (by lia) (by lia) (by lia))
     lia) (fun i j hi hj z=>by
    have z:(if i=p then f n else f i)=(if j=p then f n else f j):=z
    split at z<;>split at z
    ·lia
    ·have:=k n j (by lia) (by lia) z;lia
    ·have:=k i n (by lia) (by lia) z;lia
    ·exact k i j (by lia) (by lia) z)
   by_cases hvn:v=n
   ·exact⟨p,by lia,by lia⟩
   ·obtain⟨i,hi,ei⟩:=ih v (by lia)
    have ei:(if i=p then f n else f i)=v:=ei
    split at ei
    ·exact⟨n,by lia,ei⟩
    ·exact⟨i,by lia,ei⟩
  ·have ih:=r_ n f (fun i hi=>by
    have:=h i (by lia)
    have:f i≠n:=fun z=>e ⟨i,hi,z⟩
    lia) (fun i j hi hj z=>k i j (by lia) (by lia) z)
   by_cases hfn:f n=n
   ·by_cases hvn:v=n
    ·exact⟨n,by lia,by lia⟩
    ·obtain⟨i,hi,ei⟩:=ih v (by lia)
     exact⟨i,by lia,ei⟩
   ·have:=h n (by lia)
    obtain⟨i,hi,ei⟩:=ih (f n) (by lia)
    have:=k i n (by lia) (by lia) ei
    lia
theorem yg{n:Nat}{f:Nat->Nat}(h:∀v,v<n->∃i,i<n/\f i=v):(∀i,i<n->f i<n)/\∀i j,i<n->j<n->f i=f j->i=j:=by
 let g:Nat->Nat:=fun v=>if hv:v<n then (h v hv).choose else 0
 have hg:∀v,v<n->g v<n/\f (g v)=v:=fun v hv=>by
  show (if hv:v<n then (h v hv).choose else 0)<n/\f (if hv:v<n then (h v hv).choose else 0)=v
  rw[dif_pos hv];exact(h v hv).choose_spec
 have gs:=r_ n g (fun i hi=>(hg i hi).1) (fun i j hi hj e=>by rw[<-(hg i hi).2,<-(hg j hj).2,e])
 constructor
 ·intro i hi
  obtain⟨v,hv,rfl⟩:=gs i hi
  rw[(hg v hv).2];exact hv
 ·intro i j hi hj e
  obtain⟨u,hu,rfl⟩:=gs i hi
  obtain⟨v,hv,rfl⟩:=gs j hj
  rw[(hg u hu).2,(hg v hv).2]at e
  rw[e]
theorem u9{a:Perm}(l:a.length=16)(h:∀i,i<16->at_ a i<16)(k:∀i j,i<16->j<16->at_ a i=at_ a j->i=j):aw a:=⟨l,h,k,r_ 16 (at_ a) h k⟩
theorem Mz{a:Perm}(l:a.length=16)(h:∀v,v<16->∃i,i<16/\at_ a i=v):aw a:=⟨l,(yg h).1,(yg h).2,h⟩
theorem sf{α:Type}{p q:α->Bool}:∀{l:List α},(∀x,x∈l->p x=true->q x=true)->(∃y,y∈l/\q y=true/\p y=false)->l.countP p<l.countP q
 |[],_,⟨y,hy,_⟩=>by cases hy
 |a::l,h,⟨y,hy,q1,p1⟩=>by
  rw[jH,jH]
  have le:l.countP p<=l.countP q:=List.countP_mono_left fun x hx=>h x (bI _ hx)
  cases hy with
  |head=>rw[p1,q1];simp only [if_true,Bool.false_eq_true,if_false];lia
  |tail _ hy=>
   have ih:=sf (p:=p) (q:=q) (fun x hx=>h x (bI _ hx)) ⟨y,hy,q1,p1⟩
   have:=h a (bE ..)
   cases e:p a
   ·simp only [Bool.false_eq_true,if_false];lia
   ·rw[this e];simp only [if_true];lia
noncomputable def cnt(p:Nat->Bool):Nat:=(List.range 16).countP p
theorem Ez{p q:Nat->Bool}(h:∀x,x<16->p x=true->q x=true):cnt p<=cnt q:=List.countP_mono_left fun x hx=>h x (a6.mp hx)
theorem lN{p q:Nat->Bool}(h:∀x,x<16->p x=q x):cnt p=cnt q:=Nat.le_antisymm (Ez fun x hx e=>by rw[<-h x hx];exact e) (Ez fun x hx e=>by rw[h x hx];exact e)
theorem yh{p q:Nat->Bool}(h:∀x,x<16->p x=true->q x=true){y:Nat}(hy:y<16)(q1:q y=true)(p1:p y=false):cnt p<cnt q:=
 sf (fun x hx=>h x (a6.mp hx)) ⟨y,a6.mpr hy,q1,p1⟩
theorem MA{i:Nat}(h:i<=16):cnt (fun j=>decide (j<i))=i:=by
 have:∀i,i<17->cnt (fun j=>decide (j<i))=i:=by decide
 exact this i (by lia)
theorem MB:cnt (fun _=>true)=16:=by decide
theorem u_{p q:Nat->Bool}:cnt p=cnt (fun x=>p x&&q x)+cnt (fun x=>p x&& !q x):=by
 unfold cnt
 induction List.range 16 with
 |nil=>rfl
 |cons a l ih=>
  rw[jH,jH,jH,ih]
  cases p a<;>cases q a<;>simp<;>lia
structure Bi(R:Nat->Nat->Prop):Prop where
 tr:∀i j k,i<j->j<k->k<16->R i j->R j k->R i k
 co:∀i j k,i<j->j<k->k<16->R i k->R i j\/R j k
noncomputable def gQ(R:Nat->Nat->Prop)(i j:Nat):Prop:=(i<j/\¬R i j)\/(j<i/\R j i)
open Classical in
noncomputable def nQ(R:Nat->Nat->Prop):Perm:=made fun i=>cnt fun j=>decide (gQ R j i)
theorem Bi.trans{R:Nat->Nat->Prop}(B:Bi R){i j k:Nat}(hi:i<16)(hj:j<16)(hk:k<16)(h:gQ R i j)(g:gQ R j k):gQ R i k:=by
 unfold gQ at *
 have t1:=B.tr i j k;have t2:=B.co i j k
 have t3:=B.tr i k j;have t4:=B.co i k j
 have t5:=B.tr j i k;have t6:=B.co j i k
 have t7:=B.tr j k i;have t8:=B.co j k i
 have t9:=B.tr k i j;have t10:=B.co k i j
 have t11:=B.tr k j i;have t12:=B.co k j i
 rcases h with ⟨h1,h2⟩|⟨h1,h2⟩<;>rcases g with ⟨g1,g2⟩|⟨g1,g2⟩
 ·exact .inl ⟨by lia,fun r=>(t2 h1 g1 hk r).elim h2 g2⟩
 ·rcases Nat.lt_trichotomy i k with c|c|c
  ·exact .inl ⟨c,fun r=>h2 (t3 c g1 hj r g2)⟩
  ·subst c;exact(h2 g2).elim
  ·exact .inr ⟨c,(t10 c h1 hj g2).elim (fun r=>r) fun r=>(h2 r).elim⟩
 ·rcases Nat.lt_trichotomy i k with c|c|c
  ·exact .inl ⟨c,fun r=>g2 (t5 h1 c hk h2 r)⟩
  ·subst c;exact(g2 h2).elim
  ·exact .inr ⟨c,(t8 g1 c hi h2).elim (fun r=>(g2 r).elim) fun r=>r⟩
 ·exact .inr ⟨by lia,t11 g1 h1 hi g2 h2⟩
open Classical in
theorem Bi.lt{R:Nat->Nat->Prop}(B:Bi R){i j:Nat}(hi:i<16)(hj:j<16)(h:gQ R i j):at_ (nQ R) i<at_ (nQ R) j:=by
 unfold nQ
 rw[hJ hi,hJ hj]
 refine yh (fun x hx e=>?_) hi ?_ ?_
 ·rw[gL]at *; exact B.trans hx hi hj e h
 ·rw[gL];exact h
 ·rw[decide_eq_false_iff_not];unfold gQ;lia
theorem EC{R:Nat->Nat->Prop}{i j:Nat}(n:i≠j):gQ R i j\/gQ R j i:=by
 unfold gQ
 rcases Nat.lt_or_gt_of_ne n with h|h
 ·by_cases r:R i j
  ·exact .inr (.inr ⟨h,r⟩)
  ·exact .inl (.inl ⟨h,r⟩)
 ·by_cases r:R j i
  ·exact .inl (.inr ⟨h,r⟩)
  ·exact .inr (.inl ⟨h,r⟩)
open Classical in
theorem Bi.aa{R:Nat->Nat->Prop}(B:Bi R):aw (nQ R):=by
 refine u9 (bK _) (fun i hi=>?_) (fun i j hi hj e=>?_)
 ·unfold nQ
  rw[hJ hi,<-MB]
  refine yh (fun x hx _=>rfl) hi rfl ?_
  rw[decide_eq_false_iff_not];unfold gQ;lia
 ·apply k7
  intro n
  rcases EC (R:=R) n with h|h
  ·have:=B.lt hi hj h;lia
  ·have:=B.lt hj hi h;lia
theorem Bi.x{R:Nat->Nat->Prop}(B:Bi R){i j:Nat}(hj:j<16)(h:i<j):X (nQ R) i j↔R i j:=by
 have t:gQ R i j\/gQ R j i:=EC (by lia)
 constructor
 ·intro x
  unfold X at x
  rcases t with t|t
  ·have:=B.lt (by lia) hj t;lia
  ·unfold gQ at t
   rcases t with ⟨t,_⟩|⟨_,t⟩
   ·lia
   ·exact t
 ·intro r
  have:=B.lt hj (by lia) (show gQ R j i from .inr ⟨h,r⟩)
  unfold X;lia
theorem yi{a:Perm}(ha:aw a):Bi fun i j=>X a i j:=by
 constructor
 ·intro i j k h1 h2 h3;unfold X;lia
 ·intro i j k h1 h2 h3
  have:=ha.ne (show i<16 by lia) (show j<16 by lia) (by lia)
  have:=ha.ne (show j<16 by lia) (show k<16 by lia) (by lia)
  unfold X;lia
theorem le_of_lt{a b:Perm}(h:∀i j,i<j->j<16->X a i j->X b i j):Le a b:=by
 intro i j hi hj x
 rcases Nat.lt_trichotomy i j with c|c|c
 ·exact h i j c hj x
 ·subst c;exact(u7 x).elim
 ·exact(h j i c hi x.symm).symm
inductive TC(R:Nat->Nat->Prop):Nat->Nat->Prop
 |one {i j:Nat}:R i j->TC R i j
 |step {i j k:Nat}:R i j->TC R j k->TC R i k
theorem TC.trans{R:Nat->Nat->Prop}{i j k:Nat}(h:TC R i j)(g:TC R j k):TC R i k:=by
 induction h with
 |one r=>exact .step r g
 |step r _ ih=>exact .step r (ih g)
noncomputable def ky(a b:Perm)(i j:Nat):Prop:=i<j/\j<16/\(X a i j\/X b i j)
theorem yj{a b:Perm}{i j:Nat}(h:TC (ky a b) i j):i<j/\j<16:=by
 induction h with
 |one r=>exact⟨r.1,r.2.1⟩
 |step r _ ih=>exact⟨Nat.lt_trans r.1 ih.1,ih.2⟩
theorem ED{a b:Perm}(ha:aw a)(hb:aw b){i j k:Nat}(h:ky a b i k)(h1:i<j)(h2:j<k):ky a b i j\/ky a b j k:=by
 obtain⟨_,h3,x|x⟩:=h
 ·rcases(yi ha).co i j k h1 h2 h3 x with y|y
  ·exact .inl ⟨h1,by lia,.inl y⟩
  ·exact .inr ⟨h2,h3,.inl y⟩
 ·rcases(yi hb).co i j k h1 h2 h3 x with y|y
  ·exact .inl ⟨h1,by lia,.inr y⟩
  ·exact .inr ⟨h2,h3,.inr y⟩
theorem pT{a b:Perm}(ha:aw a)(hb:aw b):Bi (TC (ky a b)):=by
 refine⟨fun i j k _ _ _ h g=>h.trans g,fun i j k h1 h2 h3 h=>?_⟩
 induction h with
 |one r=>
  rcases ED ha hb r h1 h2 with y|y
  ·exact .inl (.one y)
  ·exact .inr (.one y)
 |step r t ih=>
  rename_i i m k
  rcases Nat.lt_trichotomy j m with c|c|c
  ·rcases ED ha hb r h1 c with y|y
   ·exact .inl (.one y)
   ·exact .inr (.step y t)
  ·subst c;exact .inl (.one r)
  ·rcases ih c h2 h3 with y|y
   ·exact .inl (.step r y)
   ·exact .inr y
noncomputable def jn(a b:Perm):Perm:=nQ (TC (ky a b))
theorem nR{a b:Perm}(ha:aw a)(hb:aw b):aw (jn a b):=(pT ha hb).aa
theorem yk{a b:Perm}(ha:aw a)(hb:aw b):Le a (jn a b):=le_of_lt fun i j h hj x=>((pT ha hb).x hj h).mpr (.one ⟨h,hj,.inl x⟩)
theorem yl{a b:Perm}(ha:aw a)(hb:aw b):Le b (jn a b):=le_of_lt fun i j h hj x=>((pT ha hb).x hj h).mpr (.one ⟨h,hj,.inr x⟩)
theorem MC{a b c:Perm}(hc:aw c)(h:Le a c)(k:Le b c){i j:Nat}(t:TC (ky a b) i j):X c i j:=by
 induction t with
 |one r=>
  have:=r.1;have:=r.2.1
  rcases r.2.2 with x|x
  ·exact h _ _ (by lia) (by lia) x
  ·exact k _ _ (by lia) (by lia) x
 |step r t ih=>
  have:=r.1;have:=r.2.1;have:=yj t
  refine(yi hc).tr _ _ _ r.1 (yj t).1 (yj t).2 ?_ ih
  rcases r.2.2 with x|x
  ·exact h _ _ (by lia) (by lia) x
  ·exact k _ _ (by lia) (by lia) x
theorem si{a b c:Perm}(ha:aw a)(hb:aw b)(hc:aw c)(h:Le a c)(k:Le b c):Le (jn a b) c:=
 le_of_lt fun i j g hj x=>MC hc h k (((pT ha hb).x hj g).mp x)
end BB
end
section
namespace BB
open Wqaraq
theorem jW{i j:Nat}{a:Perm}(hj:j<16):at_ (exchanged i a) j=if j=i then at_ a (i+1) else if j=i+1 then at_ a i else at_ a j:=hJ hj
theorem sj{i j:Nat}(hi:i<15)(hj:j<16):at_ (single i) j=if j=i then i+1 else if j=i+1 then i else j:=by
 unfold single
 rw[jW hj,eT (show i+1<16 by lia),eT (show i<16 by lia),eT hj]
theorem lO{i j:Nat}(hi:i<15)(hj:j<16):(j=i/\at_ (single i) j=i+1)\/(j=i+1/\at_ (single i) j=i)\/(j≠i/\j≠i+1/\at_ (single i) j=j):=by
 rw[sj hi hj]
 by_cases h1:j=i
 ·exact .inl ⟨h1,af h1⟩
 ·by_cases h2:j=i+1
  ·exact .inr (.inl ⟨h2,by rw[ae h1,af h2]⟩)
  ·exact .inr (.inr ⟨h1,h2,by rw[ae h1,ae h2]⟩)
theorem iT{i:Nat}(hi:i<15):aw (single i):=by
 refine u9 (bK _) (fun j hj=>?_) (fun j k hj hk e=>?_)
 ·have:=lO hi hj;lia
 ·have:=lO hi hj;have:=lO hi hk;lia
theorem yn{i j:Nat}(hi:i<15)(hj:j<16):at_ (single i) (at_ (single i) j)=j:=by
 have h1:=lO hi hj
 have h2:=lO hi ((iT hi).lt j hj)
 lia
theorem iU{i:Nat}{a:Perm}(hi:i<15):exchanged i a=then_ (single i) a:=
 dG (bK _) (bK _) fun j hj=>by
  rw[jW hj,cF hj,sj hi hj]
  split
  ·rfl
  ·split<;>rfl
theorem X.sg{i j k:Nat}(hi:i<15)(hj:j<16)(hk:k<16)(h:j<k):X (single i) j k↔(j=i/\k=i+1):=by
 rw[X.lt h]
 rcases lO hi hj with ⟨a,e⟩|⟨a,e⟩|⟨a,b,e⟩<;>rcases lO hi hk with ⟨c,f⟩|⟨c,f⟩|⟨c,d,f⟩<;>rw[e,f]<;>lia
theorem vd{i j k:Nat}(hi:i<15)(hj:j<16)(hk:k<16):X (single i) j k↔(j=i/\k=i+1)\/(k=i/\j=i+1):=by
 rcases Nat.lt_trichotomy j k with h|h|h
 ·rw[X.sg hi hj hk h];lia
 ·subst h;simp[u7];lia
 ·rw[X.co,X.sg hi hk hj h];lia
theorem pU{i:Nat}{a:Perm}(hi:i<15):Le (single i) a↔X a i (i+1):=by
 constructor
 ·intro h;exact h i (i+1) (by lia) (by lia) ((vd hi (by lia) (by lia)).mpr (.inl ⟨rfl,rfl⟩))
 ·intro x j k hj hk y
  rcases(vd hi hj hk).mp y with ⟨rfl,rfl⟩|⟨rfl,rfl⟩
  ·exact x
  ·exact x.symm
theorem sk{i:Nat}(hi:i<15):back (single i)=single i:=by
 have hs:=iT hi
 have e:then_ (single i) (single i)=still:=dG (bK _) (bK _) fun j hj=>by
  rw[cF hj,yn hi hj,eT hj]
 exact jq hs hs.back hs (by rw[jV hs,e])
theorem cY{a:Perm}{i j:Nat}(h:i<j):cross a (i,j)=true↔X a i j:=by
 unfold cross X;rw[gL];show at_ a j<at_ a i↔_;lia
theorem js{w:Row}{i:Nat}(h:i<16):at_ (follow w) i=w.foldl (fun x c=>swapped c x) i:=hJ h
theorem sq:follow []=still:=rfl
theorem ve{c:Int}{x:Nat}(h:x<16):swapped c x<16:=by
 unfold swapped crossing WIDE
 split
 ·rename_i e
  simp at e
  split
  ·lia
  ·split<;>lia
 ·exact h
theorem MD{i x:Nat}(hi:i<15)(hx:x<16):swapped (((i+1:Nat):Int)) x=at_ (single i) x:=by
 unfold swapped crossing WIDE
 rw[sj hi hx,af (by simp;lia)]
 simp only [Int.natAbs_natCast,Nat.add_sub_cancel]
theorem EE{w:Row}{i:Nat}(hi:i<15):follow (((i+1:Nat):Int)::w)=then_ (single i) (follow w):=
 dG (bK _) (bK _) fun j hj=>by
  rw[js hj,gK,MD hi hj,cF hj,js ((iT hi).lt j hj)]
theorem yo{c:Int}{x:Nat}(h:x<16):swapped c (swapped c x)=x:=by
 unfold swapped crossing WIDE
 split
 ·rename_i e
  simp at e
  by_cases h1:x=c.natAbs - 1<;>by_cases h2:x=c.natAbs<;>simp[h1,h2]<;>lia
 ·rfl
theorem gR:∀(w:Row),aw (follow w):=by
 intro w
 have lt:∀(w:Row) (x:Nat),x<16->w.foldl (fun x c=>swapped c x) x<16:=by
  intro w
  induction w with
  |nil=>intro x h;exact h
  |cons c w ih=>intro x h;rw[gK];exact ih _ (ve h)
 have inj:∀(w:Row) (x y:Nat),x<16->y<16->w.foldl (fun x c=>swapped c x) x=w.foldl (fun x c=>swapped c x) y->x=y:=by
  intro w
  induction w with
  |nil=>intro x y _ _ e;exact e
  |cons c w ih=>
   intro x y hx hy e
   rw[gK,gK]at e
   have:=ih _ _ (ve hx) (ve hy) e
   rw[<-yo (c:=c) hx,<-yo (c:=c) hy,this]
 exact u9 (bK _) (fun i hi=>by rw[js hi];exact lt w i hi) (fun i j hi hj e=>by rw[js hi,js hj]at e;exact inj w i j hi hj e)
theorem pV{v w:Row}:follow (v++w)=then_ (follow v) (follow w):=
 dG (bK _) (bK _) fun j hj=>by
  rw[js hj,jI,cF hj,js ((gR v).lt j hj),js hj]
noncomputable def size(a:Perm):Nat:=pairs.countP fun x=>cross (back a) x
theorem nS{i j:Nat}:(i,j)∈pairs↔i<j/\j<16:=by
 unfold pairs WIDE
 simp only [List.mem_flatMap,a6,bZ,i4,gL,Prod.mk.injEq]
 constructor
 ·rintro⟨a,_,b,⟨h1,h2⟩,rfl,rfl⟩;exact⟨h2,h1⟩
 ·rintro⟨h1,h2⟩;exact⟨i,by lia,j,⟨h2,h1⟩,rfl,rfl⟩
theorem ME:∀x,x∈pairs->x.1<x.2/\x.2<16:=fun x h=>(nS (i:=x.1) (j:=x.2)).mp h
theorem size_le(a:Perm):size a<=120:=cC List.countP_le_length (by decide+kernel)
theorem nT{i:Nat}{a:Perm}(ha:aw a)(hi:i<15)(x:X a i (i+1)):size (exchanged i a)<size a:=by
 have hs:=iT hi
 have he:aw (exchanged i a):=by rw[iU hi];exact hs.then_ ha
 have ea:then_ (single i) (exchanged i a)=a:=by
  have:=dk hs ha
  rw[sk hi]at this
  rw[iU hi];exact this
 have key:∀p q,p<16->q<16->X (back (exchanged i a)) p q->X (back a) p q:=by
  intro p q hp hq y
  obtain⟨u,hu,rfl⟩:=ha.fQ p hp
  obtain⟨v,hv,rfl⟩:=ha.fQ q hq
  rw[nO ha hu hv]
  have e1:at_ a u=at_ (exchanged i a) (at_ (single i) u):=by rw[<-cF hu,ea]
  have e2:at_ a v=at_ (exchanged i a) (at_ (single i) v):=by rw[<-cF hv,ea]
  rw[e1,e2,nO he (hs.lt u hu) (hs.lt v hv)]at y
  rw[iU hi,nM hs ha (hs.lt u hu) (hs.lt v hv)]at y
  rw[yn hi hu,yn hi hv]at y
  rcases y with ⟨y1,y2⟩|⟨_,y⟩
  ·exfalso;apply y2
   rw[vd hi (hs.lt u hu) (hs.lt v hv)]at y1
   have h1:=lO hi hu
   have h2:=lO hi hv
   have h3:(u=i/\v=i+1)\/(v=i/\u=i+1):=by lia
   rcases h3 with ⟨rfl,rfl⟩|⟨rfl,rfl⟩
   ·exact x
   ·exact x.symm
  ·exact y
 unfold size
 apply sf
 ·intro z hz e
  have:=ME z hz
  have h1:cross (back (exchanged i a)) (z.1,z.2)=true:=e
  rw[cY this.1]at h1
  exact(cY this.1).mpr (key _ _ (by lia) (by lia) h1)
 ·have x':at_ a (i+1)<at_ a i:=by unfold X at x;lia
  refine⟨(at_ a (i+1),at_ a i),nS.mpr ⟨x',ha.lt i (by lia)⟩,?_,?_⟩
  ·rw[cY x',nO ha (by lia) (by lia)];exact x.symm
  ·rw[Bool.eq_false_iff]
   intro e
   rw[cY x']at e
   have e1:at_ a (i+1)=at_ (exchanged i a) i:=by rw[jW (by lia)];simp
   have e2:at_ a i=at_ (exchanged i a) (i+1):=by rw[jW (by lia)];simp
   rw[e1,e2,nO he (by lia) (by lia)]at e
   unfold X at e
   rw[<-e1,<-e2]at e
   lia
structure pW(a b m:Perm):Prop where
 aa:aw m
 left:Le m a
 right:Le m b
 most:∀x,aw x->Le x a->Le x b->Le x m
theorem pW.unique{a b m k:Perm}(h:pW a b m)(g:pW a b k):m=k:=
 Le.antisymm h.aa g.aa (g.most m h.aa h.left h.right) (h.most k g.aa g.left g.right)
theorem EF:∀(f:Nat) (a b:Perm),aw a->aw b->size a<f->pW a b (follow (meetRow f a b))
 |0,a,b,_,_,h=>by lia
 |f+1,a,b,ha,hb,h=>by
  unfold meetRow
  split
  ·rename_i e
   rw[List.find?_eq_none]at e
   rw[sq]
   refine⟨dO,Le.still,Le.still,fun x hx xa xb=>?_⟩
   by_cases n:x=still
   ·rw[n];exact Le.refl _
   ·obtain⟨i,hi,y⟩:=yf hx n
    exfalso
    apply e i (a6.mpr hi)
    rw[br,cY (by lia),cY (by lia)]
    exact⟨xa _ _ (by lia) (by lia) y,xb _ _ (by lia) (by lia) y⟩
  ·rename_i i e
   have hi:i<15:=a6.mp (qX e)
   have c:=qY e
   rw[br,cY (by lia),cY (by lia)]at c
   have hs:=iT hi
   have ea:exchanged i a=then_ (back (single i)) a:=by rw[iU hi,sk hi]
   have eb:exchanged i b=then_ (back (single i)) b:=by rw[iU hi,sk hi]
   have pa:aw (exchanged i a):=by rw[ea];exact hs.back.then_ ha
   have pb:aw (exchanged i b):=by rw[eb];exact hs.back.then_ hb
   have ih:=EF f (exchanged i a) (exchanged i b) pa pb (by have:=nT ha hi c.1;lia)
   rw[EE hi]
   have ca:then_ (single i) (exchanged i a)=a:=by rw[ea,dk hs ha]
   have cb:then_ (single i) (exchanged i b)=b:=by rw[eb,dk hs hb]
   have ra:Red (single i) (exchanged i a):=by rw[ea];exact((pU hi).mpr c.1).red hs ha
   have rb:Red (single i) (exchanged i b):=by rw[eb];exact((pU hi).mpr c.2).red hs hb
   refine⟨hs.then_ ih.aa,?_,?_,fun x hx xa xb=>?_⟩
   ·have:=iS hs ih.aa pa ih.left ra
    rwa[ca]at this
   ·have:=iS hs ih.aa pb ih.right rb
    rwa[cb]at this
   ·have hj:=nR hs hx
    have ja:=si hs hx ha ((pU hi).mpr c.1) xa
    have jb:=si hs hx hb ((pU hi).mpr c.2) xb
    have rj:=(yk hs hx).red hs hj
    have hy:=hs.back.then_ hj
    have ey:=dk hs hj
    have ya:Le (then_ (back (single i)) (jn (single i) x)) (exchanged i a):=mK hs hy pa rj ra (by rw[ey,ca];exact ja)
    have yb:Le (then_ (back (single i)) (jn (single i) x)) (exchanged i b):=mK hs hy pb rj rb (by rw[ey,cb];exact jb)
    have ym:=ih.most _ hy ya yb
    have:=iS hs hy ih.aa ym (nP hs ih.left ra)
    rw[ey]at this
    exact(yl hs hx).trans this
theorem MF(f:Nat)(a b:Perm)(ha:aw a)(hb:aw b)(h:size a<=f):meetRow (f+1) a b=meetRow f a b:=by
 induction f generalizing a b with
 |zero=>
  unfold meetRow
  split
  ·rfl
  ·rename_i i e
   have hi:i<15:=a6.mp (qX e)
   have c:=qY e
   rw[br,cY (by lia),cY (by lia)]at c
   have:=nT ha hi c.1;lia
 |succ f ih=>
  rw[meetRow,meetRow]
  split
  ·rfl
  ·rename_i i e
   have hi:i<15:=a6.mp (qX e)
   have c:=qY e
   rw[br,cY (by lia),cY (by lia)]at c
   have hs:=iT hi
   rw[ih (exchanged i a) (exchanged i b) (by rw[iU hi];exact hs.then_ ha) (by rw[iU hi];exact hs.then_ hb) (by have:=nT ha hi c.1;lia)]
theorem eD{a b:Perm}(ha:aw a)(hb:aw b):pW a b (meetOf a b):=by
 have:=EF 121 a b ha hb (by have:=size_le a;lia)
 rw[MF 120 a b ha hb (size_le a)]at this
 exact this
theorem vf{a b m:Perm}(ha:aw a)(hb:aw b)(h:pW a b m):meetOf a b=m:=(eD ha hb).unique h
end BB
end
section
namespace BB
open Wqaraq
structure Rt(n:Nat)(a:Perm):Prop where
 aa:aw a
 fix:∀i,n<=i->i<16->at_ a i=i
theorem Rt.x{n:Nat}{a:Perm}(h:Rt n a){i j:Nat}(hi:i<16)(hj:j<16)(x:X a i j):i<n/\j<n:=by
 have f1:=h.fix i;have f2:=h.fix j
 have g1:=h.fix (at_ a i);have g2:=h.fix (at_ a j)
 have l1:=h.aa.lt i hi;have l2:=h.aa.lt j hj
 have k1:=h.aa.inj (at_ a i) i l1 hi;have k2:=h.aa.inj (at_ a j) j l2 hj
 unfold X at x;lia
theorem jX{n:Nat}:Rt n still:=⟨dO,fun i _ h=>eT h⟩
theorem Rt.lt{n:Nat}{a:Perm}(h:Rt n a)(hn:n<=16){i:Nat}(hi:i<n):at_ a i<n:=by
 have g:=h.fix (at_ a i)
 have l:=h.aa.lt i (by lia)
 have k:=h.aa.inj (at_ a i) i l (by lia)
 lia
theorem Rt.then_{n:Nat}{a b:Perm}(ha:Rt n a)(hb:Rt n b):Rt n (then_ a b):=
 ⟨ha.aa.then_ hb.aa,fun i h1 h2=>by rw[cF h2,ha.fix i h1 h2,hb.fix i h1 h2]⟩
theorem Rt.back{n:Nat}{a:Perm}(ha:Rt n a):Rt n (back a):=
 ⟨ha.aa.back,fun i h1 h2=>by
  have:=hU ha.aa h2
  rwa[ha.fix i h1 h2]at this⟩
theorem MG{n:Nat}{a:Perm}(ha:aw a)(h:∀i j,i<16->j<16->X a i j->i<n/\j<n):Rt n a:=by
 refine⟨ha,?_⟩
 have inc:∀i j,i<j->n<=j->j<16->at_ a i<at_ a j:=fun i j h1 h2 h3=>by
  have:=h i j (by lia) h3
  have:=ha.ne (show i<16 by lia) h3 (by lia)
  unfold X at *; lia
 have low:∀d,n+d<16->n+d<=at_ a (n+d):=by
  intro d
  induction d with
  |zero=>
   intro hn
   apply k7
   intro k
   obtain⟨j,hj,ej⟩:=r_ n (at_ a) (fun i hi=>by have:=inc i (n+0) (by lia) (by lia) hn;lia) (fun i j hi hj e=>ha.inj i j (by lia) (by lia) e) (at_ a (n+0)) (by lia)
   have:=ha.inj j (n+0) (by lia) hn ej
   lia
  |succ d ih=>intro hd;have:=ih (by lia);have:=inc (n+d) (n+(d+1)) (by lia) (by lia) hd;lia
 have high:∀d i,n<=i->i+d=15->at_ a i+d<=15:=by
  intro d
  induction d with
  |zero=>intro i _ e;have:=ha.lt i (by lia);lia
  |succ d ih=>intro i h1 e;have:=ih (i+1) (by lia) (by lia);have:=inc i (i+1) (by lia) (by lia) (by lia);lia
 intro i h1 h2
 have:=low (i - n) (by lia)
 rw[show n+(i - n)=i by lia]at this
 have:=high (15 - i) i h1 (by lia)
 lia
theorem Rt.of_le{n:Nat}{a b:Perm}(ha:aw a)(hb:Rt n b)(h:Le a b):Rt n a:=MG ha fun i j hi hj x=>hb.x hi hj (h i j hi hj x)
theorem vg{n i:Nat}(h:i<16):at_ (delta n) i=if i<n then n - 1 - i else i:=hJ h
theorem kz{n i:Nat}(h:i<16):(i<n/\at_ (delta n) i=n - 1 - i)\/(n<=i/\at_ (delta n) i=i):=by
 rw[vg h]
 by_cases c:i<n
 ·exact .inl ⟨c,af c⟩
 ·exact .inr ⟨by lia,ae c⟩
theorem bX{n:Nat}(hn:n<=16):Rt n (delta n):=by
 refine⟨u9 (bK _) (fun i hi=>?_) (fun i j hi hj e=>?_),fun i h1 h2=>?_⟩
 ·have:=kz (n:=n) hi;lia
 ·rcases kz (n:=n) hi with ⟨a,k⟩|⟨a,k⟩<;>rcases kz (n:=n) hj with ⟨b,l⟩|⟨b,l⟩<;>rw[k,l]at e<;>lia
 ·have:=kz (n:=n) h2;lia
theorem X.dl{n i j:Nat}(hi:i<16)(hj:j<16)(h:i<j):X (delta n) i j↔j<n:=by
 rw[X.lt h]
 rcases kz (n:=n) hi with ⟨a,e⟩|⟨a,e⟩<;>rcases kz (n:=n) hj with ⟨c,f⟩|⟨c,f⟩<;>rw[e,f]<;>lia
theorem yp{n i j:Nat}(hi:i<16)(hj:j<16):X (delta n) i j↔i<n/\j<n/\i≠j:=by
 rcases Nat.lt_trichotomy i j with h|h|h
 ·exact (X.dl hi hj h).trans ⟨fun q=>⟨Nat.lt_trans h q,q,Nat.ne_of_lt h⟩,fun q=>q.2.1⟩
 ·subst h;simp[u7]
 ·rw[X.co];exact (X.dl hj hi h).trans ⟨fun q=>⟨q,Nat.lt_trans h q,Nat.ne_of_gt h⟩,fun q=>q.1⟩
theorem Rt.pX{n:Nat}{a:Perm}(h:Rt n a):Le a (delta n):=fun i j hi hj x=>by
 have:=h.x hi hj x
 rw[yp hi hj]
 exact⟨this.1,this.2,fun e=>by subst e;exact u7 x⟩
theorem Rt.rest{n:Nat}(hn:n<=16){a:Perm}(h:Rt n a):Rt n (rest n a):=h.back.then_ (bX hn)
theorem kC{n:Nat}(hn:n<=16){a:Perm}(h:Rt n a):then_ a (rest n a)=delta n:=dk h.aa (bX hn).aa
theorem eE{n:Nat}(hn:n<=16){a b:Perm}(ha:Rt n a)(hb:Rt n b):Red a b↔Le b (rest n a):=by
 have hD:=bX hn
 constructor
 ·intro r i j hi hj x
  obtain⟨p,hp,rfl⟩:=ha.aa.fQ i hi
  obtain⟨q,hq,rfl⟩:=ha.aa.fQ j hj
  have lt:=hb.x hi hj x
  unfold Wqaraq.rest
  rw[nM ha.aa.back hD.aa hi hj,nO ha.aa hp hq,hU ha.aa hp,hU ha.aa hq]
  refine .inr ⟨fun y=>r p q hp hq y x,?_⟩
  rw[yp hp hq]
  refine⟨?_,?_,fun e=>by subst e;exact u7 x⟩
  ·have:=ha.fix p;lia
  ·have:=ha.fix q;lia
 ·intro h p q hp hq x y
  have:=h _ _ (ha.aa.lt p hp) (ha.aa.lt q hq) y
  unfold Wqaraq.rest at this
  rw[nM ha.aa.back hD.aa (ha.aa.lt p hp) (ha.aa.lt q hq),nO ha.aa hp hq,hU ha.aa hp,hU ha.aa hq]at this
  rcases this with ⟨_,z⟩|⟨z,_⟩
  ·exact z (ha.pX p q hp hq x)
  ·exact z x
noncomputable def hand(n:Nat)(a c:Perm):Perm:=meetOf (rest n a) c
section
variable{n:Nat}(hn:n<=16)
include hn
theorem dq{a c:Perm}(ha:Rt n a)(hc:Rt n c):Rt n (hand n a c):=by
 have g:=eD (ha.rest hn).aa hc.aa
 exact Rt.of_le g.aa hc g.right
theorem gD{a c:Perm}(ha:Rt n a)(hc:Rt n c):Le (hand n a c) c:=(eD (ha.rest hn).aa hc.aa).right
theorem gh{a c:Perm}(ha:Rt n a)(hc:Rt n c):Red a (hand n a c):=
 (eE hn ha (dq hn ha hc)).mpr (eD (ha.rest hn).aa hc.aa).left
theorem jt{a c x:Perm}(ha:Rt n a)(hc:Rt n c)(hx:aw x)(h:Le x c)(r:Red a x):Le x (hand n a c):=
 (eD (ha.rest hn).aa hc.aa).most x hx ((eE hn ha (Rt.of_le hx hc h)).mp r) h
theorem mL{a c m:Perm}(ha:Rt n a)(hc:Rt n c)(hm:aw m)(h1:Le m c)(h2:Red a m)(h3:∀x,Rt n x->Le x c->Red a x->Le x m):hand n a c=m:=
 Le.antisymm (dq hn ha hc).aa hm (h3 _ (dq hn ha hc) (gD hn ha hc) (gh hn ha hc)) (jt hn ha hc hm h1 h2)
theorem yq{a c:Perm}(ha:Rt n a)(hc:Rt n c)(r:Red a c):hand n a c=c:=mL hn ha hc hc.aa (Le.refl c) r fun x _ h _=>h
theorem jY{a c:Perm}(ha:Rt n a)(hc:Rt n c):Rt n (then_ (back (hand n a c)) c):=(dq hn ha hc).back.then_ hc
theorem EG{a b c:Perm}(ha:Rt n a)(hb:Rt n b)(hc:Rt n c)(r:Red a b):
  hand n a (then_ b (hand n b c))=then_ b (hand n (then_ a b) c)/\Le (hand n (then_ a b) c) (hand n b c):=by
 have hab:=ha.then_ hb
 have pu:=dq hn hab hc
 have pv:=dq hn hb hc
 have rv:=gh hn hb hc
 have ru:=(r.assoc ha.aa hb.aa pu.aa).mp (gh hn hab hc)
 have uv:Le (hand n (then_ a b) c) (hand n b c):=jt hn hb hc pu.aa (gD hn hab hc) ru.1
 refine⟨?_,uv⟩
 refine mL hn ha (hb.then_ pv) (hb.aa.then_ pu.aa) (iS hb.aa pu.aa pv.aa uv rv) ru.2 fun x hx xl xr=>?_
 have hj:=nR hb.aa hx.aa
 have bl:Le b (then_ b (hand n b c)):=rv.le hb.aa pv.aa
 have jl:=si hb.aa hx.aa (hb.aa.then_ pv.aa) bl xl
 have jr:Red a (jn b x):=by
  have hjr:Rt n (jn b x):=Rt.of_le hj (hb.then_ pv) jl
  rw[eE hn ha hjr]
  exact si hb.aa hx.aa (ha.rest hn).aa ((eE hn ha hb).mp r) ((eE hn ha hx).mp xr)
 have rj:=(yk hb.aa hx.aa).red hb.aa hj
 have hw:=hb.aa.back.then_ hj
 have ew:=dk hb.aa hj
 have wv:Le (then_ (back b) (jn b x)) (hand n b c):=mK hb.aa hw pv.aa rj rv (by rw[ew];exact jl)
 have wr:Red (then_ a b) (then_ (back b) (jn b x)):=(r.assoc ha.aa hb.aa hw).mpr ⟨rj,by rw[ew];exact jr⟩
 have wu:=jt hn hab hc hw (wv.trans (gD hn hb hc)) wr
 have:=iS hb.aa hw pu.aa wu (nP hb.aa uv rv)
 rw[ew]at this
 exact(yl hb.aa hx.aa).trans this
end
noncomputable def ins(n:Nat):Perm->List Perm->List Perm
 |a,[]=>if a=still then [] else [a]
 |a,c::s=>then_ a (hand n a c)::ins n (then_ (back (hand n a c)) c) s
noncomputable def ah(n:Nat)(l:List Perm):Prop:=∀x,x∈l->Rt n x
theorem ah.nil{n:Nat}:ah n []:=fun x h=>by cases h
theorem ah.cons{n:Nat}{a:Perm}{l:List Perm}(h:Rt n a)(k:ah n l):ah n (a::l):=fun x hx=>by
 cases hx with
 |head=>exact h
 |tail _ hx=>exact k x hx
theorem ah.head{n:Nat}{a:Perm}{l:List Perm}(h:ah n (a::l)):Rt n a:=h a (bE ..)
theorem ah.tail{n:Nat}{a:Perm}{l:List Perm}(h:ah n (a::l)):ah n l:=fun x hx=>h x (bI _ hx)
theorem ah.append{n:Nat}{l m:List Perm}(h:ah n l)(k:ah n m):ah n (l++m):=fun x hx=>(dU.mp hx).elim (h x) (k x)
theorem Red.vh{a b:Perm}(ha:aw a)(hb:aw b)(r:Red a b)(h:then_ a b=still):a=still/\b=still:=by
 have ea:a=still:=Le.antisymm ha dO (by have:=r.le ha hb;rwa[h]at this) Le.still
 refine⟨ea,?_⟩
 rw[ea,gg hb]at h
 exact h
section
variable{n:Nat}(hn:n<=16)
include hn
theorem sr:∀{l:List Perm}{a:Perm},Rt n a->ah n l->ah n (ins n a l)
 |[],a,ha,hl=>by
  unfold ins;split
  ·exact ah.nil
  ·exact ah.cons ha ah.nil
 |c::s,a,ha,hl=>by
  unfold ins
  exact ah.cons (ha.then_ (dq hn ha hl.head)) (sr (jY hn ha hl.head) hl.tail)
theorem EH{c:Perm}(hc:Rt n c):hand n still c=c:=yq hn jX hc My
theorem nU:∀{l:List Perm},ah n l->ins n still l=l
 |[],_=>by unfold ins;rw[af rfl]
 |c::s,hl=>by
  unfold ins
  rw[EH hn hl.head,gg hl.head.aa,rZ hl.head.aa,nU hl.tail]
theorem nV:∀{l:List Perm}{a b:Perm},Rt n a->Rt n b->ah n l->Red a b->ins n a (ins n b l)=ins n (then_ a b) l
 |[],a,b,ha,hb,hl,r=>by
  by_cases e:b=still
  ·subst e
   rw[dH ha.aa,show ins n still []=[] from nU hn ah.nil]
  ·have e2:¬then_ a b=still:=fun h=>e (r.vh ha.aa hb.aa h).2
   rw[show ins n b []=[b] from ae e,show ins n (then_ a b) []=[then_ a b] from ae e2]
   unfold ins
   rw[yq hn ha hb r,rZ hb.aa,show ins n still []=[] from nU hn ah.nil]
 |c::s,a,b,ha,hb,hl,r=>by
  have hc:=hl.head
  have hab:=ha.then_ hb
  have pu:=dq hn hab hc
  have pv:=dq hn hb hc
  have two:=EG hn ha hb hc r
  rw[show ins n b (c::s)=then_ b (hand n b c)::ins n (then_ (back (hand n b c)) c) s from rfl,
   show ins n (then_ a b) (c::s)=then_ (then_ a b) (hand n (then_ a b) c)::ins n (then_ (back (hand n (then_ a b) c)) c) s from rfl]
  rw[show ∀d t,ins n a (d::t)=then_ a (hand n a d)::ins n (then_ (back (hand n a d)) d) t from fun _ _=>rfl]
  rw[two.1,<-then_assoc ha.aa]
  congr 1
  generalize hand n (then_ a b) c=u at *
  have vc:=gD hn hb hc
  generalize hand n b c=v at *
  have e1:then_ (back (then_ b u)) (then_ b v)=then_ (back u) v:=by
   have hbu:=hb.aa.then_ pu.aa
   refine jq hbu (hbu.back.then_ (hb.aa.then_ pv.aa)) (pu.aa.back.then_ pv.aa) ?_
   rw[dk hbu (hb.aa.then_ pv.aa),then_assoc hb.aa,dk pu.aa pv.aa]
  rw[e1]
  have e2:then_ (then_ (back u) v) (then_ (back v) c)=then_ (back u) c:=by
   rw[then_assoc pu.aa.back,dk pv.aa hc.aa]
  have r2:Red (then_ (back u) v) (then_ (back v) c):=by
   have r1:=two.2.red pu.aa pv.aa
   refine((r1.assoc pu.aa (pu.aa.back.then_ pv.aa) (pv.aa.back.then_ hc.aa)).mp ?_).1
   rw[dk pu.aa pv.aa]
   exact vc.red pv.aa hc.aa
  rw[nV (pu.back.then_ pv) (pv.back.then_ hc) hl.tail r2,e2]
theorem yr{l:List Perm}{a b m:Perm}(ha:Rt n a)(hb:Rt n b)(hm:Rt n m)(hl:ah n l)(h:Le m b)(r:Red a m):
  ins n (then_ a m) (ins n (then_ (back m) b) l)=ins n a (ins n b l):=by
 have hk:=hm.back.then_ hb
 rw[<-nV hn ha hm (sr hn hk hl) r,nV hn hm hk hl (h.red hm.aa hb.aa),dk hm.aa hb.aa]
end
noncomputable def Nf(n:Nat):List Perm->Prop
 |[]=>True
 |[a]=>a≠still
 |a::b::r=>a≠still/\hand n a b=still/\Nf n (b::r)
theorem Nf.tail{n:Nat}{a:Perm}{l:List Perm}(h:Nf n (a::l)):Nf n l:=by
 cases l with
 |nil=>trivial
 |cons b r=>exact h.2.2
theorem Nf.ne{n:Nat}{a:Perm}{l:List Perm}(h:Nf n (a::l)):a≠still:=by
 cases l with
 |nil=>exact h
 |cons b r=>exact h.1
section
variable{n:Nat}(hn:n<=16)
include hn
theorem pY:∀{l:List Perm}{a:Perm},ah n (a::l)->Nf n (a::l)->ins n a l=a::l
 |[],a,_,h=>ae h
 |c::s,a,hl,h=>by
  have e:hand n a c=still:=h.2.1
  unfold ins
  rw[e,dH hl.head.aa,show then_ (back still) c=c by
   have:=dk dO hl.tail.head.aa
   rwa[gg (dO.back.then_ hl.tail.head.aa)]at this,pY hl.tail h.tail]
theorem yt:∀{l:List Perm}{a:Perm},Rt n a->ah n l->Nf n l->Nf n (ins n a l)
 |[],a,ha,_,_=>by
  unfold ins;split
  ·trivial
  ·assumption
 |c::s,a,ha,hl,h=>by
  have hc:=hl.head
  have hm:=dq hn ha hc
  have ih:=yt (jY hn ha hc) hl.tail h.tail
  have ne:then_ a (hand n a c)≠still:=fun e=>by
   have:=(gh hn ha hc).vh ha.aa hm.aa e
   obtain⟨rfl,e2⟩:=this
   rw[EH hn hc]at e2
   exact h.ne e2
  show Nf n (then_ a (hand n a c)::ins n (then_ (back (hand n a c)) c) s)
  cases s with
  |nil=>
   unfold ins at ih ⊢
   split
   ·exact ne
   ·rename_i e
    refine⟨ne,?_,e⟩
    have hk:=jY hn ha hc
    refine mL hn (ha.then_ hm) hk dO Le.still (pR (ha.then_ hm).aa) fun x hx xl xr=>?_
    have r0:=gh hn ha hc
    have r1:=(r0.assoc ha.aa hm.aa hx.aa).mp xr
    have l1:Le (then_ (hand n a c) x) c:=by
     have:=iS hm.aa hx.aa hk.aa xl ((gD hn ha hc).red hm.aa hc.aa)
     rwa[dk hm.aa hc.aa]at this
    have:=jt hn ha hc (hm.aa.then_ hx.aa) l1 r1.2
    have e3:then_ (hand n a c) x=then_ (hand n a c) still:=by
     rw[dH hm.aa];exact Le.antisymm (hm.aa.then_ hx.aa) hm.aa this (r1.1.le hm.aa hx.aa)
    rw[jq hm.aa hx.aa dO e3]
    exact Le.refl _
  |cons d t=>
   have hd:=hl.tail.head
   have hk:=jY hn ha hc
   refine⟨ne,?_,ih⟩
   have r0:=gh hn ha hc
   have cd:hand n c d=still:=h.2.1
   have two:=(EG hn hm hk hd ((gD hn ha hc).red hm.aa hc.aa)).1
   rw[dk hm.aa hc.aa,cd,dH hk.aa]at two
   have hy:=hk.then_ (dq hn hk hd)
   refine mL hn (ha.then_ hm) hy dO Le.still (pR (ha.then_ hm).aa) fun x hx xl xr=>?_
   have r1:=(r0.assoc ha.aa hm.aa hx.aa).mp xr
   have xk:=jt hn hm hy hx.aa xl r1.1
   rw[two]at xk
   have l1:Le (then_ (hand n a c) x) c:=by
    have:=iS hm.aa hx.aa hk.aa xk ((gD hn ha hc).red hm.aa hc.aa)
    rwa[dk hm.aa hc.aa]at this
   have:=jt hn ha hc (hm.aa.then_ hx.aa) l1 r1.2
   have e3:then_ (hand n a c) x=then_ (hand n a c) still:=by
    rw[dH hm.aa];exact Le.antisymm (hm.aa.then_ hx.aa) hm.aa this (r1.1.le hm.aa hx.aa)
   rw[jq hm.aa hx.aa dO e3]
   exact Le.refl _
end
end BB
end
section
namespace BB
open Wqaraq
noncomputable def act(n:Nat)(l x:List Perm):List Perm:=l.foldr (ins n) x
noncomputable def nf(n:Nat)(l:List Perm):List Perm:=act n l []
theorem nW{n:Nat}{l m x:List Perm}:act n (l++m) x=act n l (act n m x):=List.foldr_append
noncomputable def d6(l:List Perm):Prop:=∀x,x∈l->x≠still
noncomputable def turn(n:Nat)(l:List Perm):List Perm:=(pass n l).filter fun a=>a != still
section
variable{n:Nat}(hn:n<=16)
include hn
theorem lP:∀{l x:List Perm},ah n l->ah n x->ah n (act n l x)
 |[],x,_,hx=>hx
 |a::l,x,hl,hx=>sr hn hl.head (lP hl.tail hx)
theorem kD{l:List Perm}(h:ah n l):ah n (nf n l):=lP hn h ah.nil
theorem EI:∀{l:List Perm}{a:Perm}{x:List Perm},Rt n a->ah n l->ah n x->act n (ins n a l) x=ins n a (act n l x)
 |[],a,x,ha,hl,hx=>by
  by_cases e:a=still
  ·subst e
   rw[show ins n still []=[] from af rfl]
   exact(nU hn hx).symm
  ·rw[show ins n a []=[a] from ae e];rfl
 |c::s,a,x,ha,hl,hx=>by
  have hc:=hl.head
  show ins n (then_ a (hand n a c)) (act n (ins n (then_ (back (hand n a c)) c) s) x)=ins n a (ins n c (act n s x))
  rw[EI (jY hn ha hc) hl.tail hx,yr hn ha hc (dq hn ha hc) (lP hn hl.tail hx) (gD hn ha hc) (gh hn ha hc)]
theorem yu:∀{l x:List Perm},ah n l->ah n x->act n (nf n l) x=act n l x
 |[],x,_,hx=>rfl
 |a::l,x,hl,hx=>by
  show act n (ins n a (nf n l)) x=ins n a (act n l x)
  rw[EI hn hl.head (kD hn hl.tail) hx,yu hl.tail hx]
theorem su:∀{l:List Perm},ah n l->Nf n (nf n l)
 |[],_=>trivial
 |a::l,hl=>yt hn hl.head (kD hn hl.tail) (su hl.tail)
theorem lQ:∀{l:List Perm},ah n l->Nf n l->nf n l=l
 |[],_,_=>rfl
 |a::l,hl,h=>by
  show ins n a (nf n l)=a::l
  rw[lQ hl.tail h.tail,pY hn hl h]
theorem MH{l m:List Perm}(hl:ah n l)(hm:ah n m):nf n (l++m)=nf n (nf n l++nf n m):=by
 show act n (l++m) []=act n (nf n l++nf n m) []
 rw[nW,nW,yu hn hl (lP hn (kD hn hm) ah.nil),yu hn hm ah.nil]
theorem sx{a b:Perm}{r s:List Perm}(e:pass n r=b::s):pass n (a::r)=then_ a (hand n a b)::then_ (back (hand n a b)) b::s:=by
 rw[pass,e];rfl
theorem MI{a:Perm}:pass n [a]=[a]:=rfl
theorem yw:∀(l:List Perm),(pass n l).length=l.length
 |[]=>rfl
 |a::r=>by
  have ih:=yw r
  cases e:pass n r with
  |nil=>
   rw[e]at ih
   have:r=[]:=o6.mp ih.symm
   subst this;rfl
  |cons b s=>rw[sx hn e];rw[e]at ih;simp at ih ⊢;lia
theorem sy{r:List Perm}(e:pass n r=[]):r=[]:=by
 have:=yw hn r
 rw[e]at this
 exact o6.mp this.symm
theorem sC:∀{l:List Perm},ah n l->ah n (pass n l)
 |[],h=>h
 |a::r,h=>by
  have ih:=sC h.tail
  cases e:pass n r with
  |nil=>
   have:=sy hn e
   subst this;exact h
  |cons b s=>
   rw[sx hn e]
   rw[e]at ih
   exact ah.cons (h.head.then_ (dq hn h.head ih.head)) (ah.cons (jY hn h.head ih.head) ih.tail)
theorem EJ:∀{l x:List Perm},ah n l->ah n x->act n (pass n l) x=act n l x
 |[],x,_,_=>rfl
 |a::r,x,h,hx=>by
  have ih:=EJ h.tail hx
  have pr:=sC hn h.tail
  cases e:pass n r with
  |nil=>
   have:=sy hn e
   subst this;rfl
  |cons b s=>
   rw[sx hn e]
   rw[e]at ih pr
   show ins n (then_ a (hand n a b)) (ins n (then_ (back (hand n a b)) b) (act n s x))=ins n a (act n r x)
   rw[yr hn h.head pr.head (dq hn h.head pr.head) (lP hn pr.tail hx) (gD hn h.head pr.head) (gh hn h.head pr.head)]
   rw[<-ih];rfl
theorem yy:∀{l x:List Perm},ah n l->ah n x->act n (l.filter fun a=>a != still) x=act n l x
 |[],x,_,_=>rfl
 |a::r,x,h,hx=>by
  have ih:=yy h.tail hx
  by_cases e:a=still
  ·rw[uw (by simp[e]),ih]
   subst e
   exact(nU hn (lP hn h.tail hx)).symm
  ·rw[o7 (by simp[e])]
   show ins n a (act n _ x)=ins n a (act n r x)
   rw[ih]
theorem EK{l:List Perm}{p:Perm->Bool}(h:ah n l):ah n (l.filter p):=fun x hx=>h x (i4.mp hx).1
theorem EL{l:List Perm}(h:ah n l):ah n (turn n l):=EK hn (sC hn h)
theorem EM{l:List Perm}:d6 (turn n l):=fun x hx=>by have:=(i4.mp hx).2;simpa using this
theorem EN{l:List Perm}(h:ah n l):nf n (turn n l)=nf n l:=by
 show act n _ _=act n _ _
 rw[turn,yy hn (sC hn h) ah.nil,EJ hn h ah.nil]
theorem d6.tail{a:Perm}{l:List Perm}(h:d6 (a::l)):d6 l:=fun x hx=>h x (bI _ hx)
theorem yz:∀{l:List Perm}{b:Perm}{s:List Perm},ah n l->d6 l->pass n l=b::s->∃t,nf n l=b::t
 |[],b,s,_,_,e=>by cases e
 |[a],b,s,h,k,e=>by
  cases e
  exact⟨[],ae (k a (bE ..))⟩
 |a::c::r,b,s,h,k,e=>by
  cases e2:pass n (c::r) with
  |nil=>cases sy hn e2
  |cons d u=>
   obtain⟨t,et⟩:=yz h.tail (d6.tail hn k) e2
   rw[sx hn e2]at e
   cases e
   refine⟨ins n (then_ (back (hand n a d)) d) t,?_⟩
   show ins n a (nf n (c::r))=_
   rw[et];rfl
theorem MJ{l:List Perm}:(turn n l).length<=l.length:=by
 have:=yw hn l
 have:=q0 (fun a=>a != still) (pass n l)
 unfold turn;lia
noncomputable def vi(n:Nat)(h:Perm)(t:List Perm):Prop:=∀b s,nf n t=b::s->hand n h b=still
theorem MK{b:Perm}(hb:aw b):then_ (back still) b=b:=by
 have:=dk dO hb
 rwa[gg (dO.back.then_ hb)]at this
theorem ML{h:Perm}{t:List Perm}(hl:ah n (h::t))(ns:d6 (h::t))(k:vi n h t):turn n (h::t)=h::turn n t:=by
 have nh:=ns h (bE ..)
 cases e:pass n t with
 |nil=>
  have:=sy hn e
  subst this
  unfold turn
  rw[MI hn,o7 (by simpa using nh)];rfl
 |cons b s=>
  obtain⟨t',et⟩:=yz hn hl.tail (d6.tail hn ns) e
  have hb:Rt n b:=by have:=sC hn hl.tail;rw[e]at this;exact this.head
  unfold turn
  rw[sx hn e,k b t' et,dH hl.head.aa,MK hn hb.aa,o7 (by simpa using nh),e]
theorem EO:∀(f:Nat) {h:Perm}{t:List Perm},ah n (h::t)->d6 (h::t)->vi n h t->passes n f (h::t)=h::passes n f t
 |0,h,t,_,_,_=>rfl
 |f+1,h,t,hl,ns,k=>by
  have e:=ML hn hl ns k
  show (if turn n (h::t)=h::t then h::t else passes n f (turn n (h::t)))=h::(if turn n t=t then t else passes n f (turn n t))
  rw[e]
  by_cases c:turn n t=t
  ·rw[af c,af (by rw[c])]
  ·rw[ae c,ae (fun q=>c (mw q).2)]
   refine EO f (ah.cons hl.head (EL hn hl.tail)) (fun x hx=>?_) (fun b s q=>k b s (by rw[<-EN hn hl.tail];exact q))
   cases hx with
   |head=>exact ns h (bE ..)
   |tail _ hx=>exact EM hn x hx
theorem MM{h:Perm}{t s:List Perm}(hl:ah n (h::t))(e:nf n (h::t)=h::s):vi n h t:=fun b r q=>by
 have e1:ins n h (nf n t)=h::s:=e
 have hb:Rt n b:=by have:=kD hn hl.tail;rw[q]at this;exact this.head
 rw[q]at e1
 have e2:then_ h (hand n h b)=h:=(mw e1).1
 have hm:=dq hn hl.head hb
 exact jq hl.head.aa hm.aa dO (by rw[e2,dH hl.head.aa])
theorem MN{h:Perm}{t:List Perm}(hl:ah n (h::t))(nh:h≠still)(k:vi n h t):nf n (h::t)=h::nf n t:=by
 show ins n h (nf n t)=h::nf n t
 apply pY hn (ah.cons hl.head (kD hn hl.tail))
 have:=su hn hl.tail
 cases e:nf n t with
 |nil=>exact nh
 |cons b s=>rw[e]at this;exact⟨nh,k b s e,this⟩
theorem ER:∀(f:Nat) {l:List Perm},ah n l->d6 l->l.length<=f->passes n f l=nf n l
 |0,l,_,_,h=>by
  have:l=[]:=o6.mp (by lia)
  subst this;rfl
 |f+1,[],_,_,_=>by
  show (if turn n []=[] then [] else passes n f (turn n []))=_
  rw[af (show turn n []=[] from rfl)];rfl
 |f+1,a::r,hl,ns,h=>by
  have step:passes n (f+1) (a::r)=passes n f (turn n (a::r)):=by
   show (if turn n (a::r)=a::r then a::r else passes n f (turn n (a::r)))=_
   split
   ·rename_i e
    rw[e]
    have:∀f,passes n f (a::r)=a::r:=fun f=>by
     cases f with
     |zero=>rfl
     |succ f=>show (if turn n (a::r)=a::r then a::r else _)=_;rw[af e]
    exact(this f).symm
   ·rfl
  rw[step]
  cases e:pass n (a::r) with
  |nil=>cases sy hn e
  |cons b s=>
   obtain⟨t',et⟩:=yz hn hl ns e
   have nb:b≠still:=by have:=su hn hl;rw[et]at this;exact this.ne
   have et2:turn n (a::r)=b::s.filter fun a=>a != still:=by
    unfold turn;rw[e,o7 (by simpa using nb)]
   have hp:=EL hn hl
   have hs:d6 (turn n (a::r)):=EM hn
   have lt:(turn n (a::r)).length<=(a::r).length:=MJ hn
   have en:=EN hn hl
   rw[et2]at hp hs lt en ⊢
   have hk:=MM hn hp (by rw[en,et])
   rw[EO hn f hp hs hk,ER f hp.tail (d6.tail hn hs) (by simp at lt h ⊢;lia),<-en,MN hn hp nb hk]
end
noncomputable def strip(n:Nat)(k:Int)(m:List Perm):Form:=⟨k+((m.takeWhile fun a=>a == delta n).length:Nat),m.dropWhile fun a=>a == delta n⟩
noncomputable def aO(n:Nat)(F:Form):Form:=strip n F.twists (nf n F.factors)
theorem yA{n:Nat}(hn:n<=16){k:Int}{l:List Perm}(h:ah n l):formed n k l=strip n k (nf n l):=by
 have e:passes n (120 * l.length+2) (l.filter fun a=>a != still)=nf n l:=by
  rw[ER hn _ (EK hn h) (fun x hx=>by have:=(i4.mp hx).2;simpa using this) (by have:=q0 (fun a=>a != still) l;lia)]
  exact yy hn h ah.nil
 unfold formed strip
 rw[e]
theorem yB{n:Nat}{k:Int}{m:List Perm}:strip n k (delta n::m)=strip n (k+1) m:=by
 unfold strip
 rw[List.takeWhile_cons_of_pos (by simp),List.dropWhile_cons_of_pos (by simp)]
 simp only [bO,Form.mk.injEq,and_true]
 lia
theorem ES{n:Nat}{k:Int}{a:Perm}{m:List Perm}(h:a≠delta n):strip n k (a::m)=⟨k,a::m⟩:=by
 unfold strip
 rw[List.takeWhile_cons_of_neg (by simpa using h),List.dropWhile_cons_of_neg (by simpa using h)]
 simp
theorem strip_nil{n:Nat}{k:Int}:strip n k []=⟨k,[]⟩:=by unfold strip;simp
theorem sE{n:Nat}(h2:2<=n)(hn:n<=16):delta n≠still:=fun e=>by
 have:=bQ (fun a=>at_ a 0) e
 simp only [eT (show 0<16 by lia),vg (show 0<16 by lia)]at this
 rw[af (by lia)]at this
 lia
theorem X.fl{n i:Nat}(h:i<n):n - 1 - i<n:=by lia
theorem X.fp{n i j:Nat}(h:i<n)(k:j<n):n - 1 - i<n - 1 - j↔j<i:=by lia
theorem yC{n i:Nat}{a:Perm}(h:i<16):(i<n/\at_ (turned n a) i=n - 1 - at_ a (n - 1 - i))\/(n<=i/\at_ (turned n a) i=i):=by
 have e:at_ (turned n a) i=if i<n then n - 1 - at_ a (n - 1 - i) else i:=hJ h
 rw[e]
 by_cases c:i<n
 ·exact .inl ⟨c,af c⟩
 ·exact .inr ⟨by lia,ae c⟩
section
variable{n:Nat}(hn:n<=16)
include hn
theorem kE{a:Perm}(h:Rt n a):turned n a=then_ (then_ (delta n) a) (delta n):=by
 have hD:=bX hn
 refine dG (bK _) (bK _) fun i hi=>?_
 rw[cF hi,cF hi]
 have h1:=yC (n:=n) (a:=a) hi
 have h2:=kz (n:=n) hi
 have h3:=kz (n:=n) (h.aa.lt _ (hD.aa.lt i hi))
 rcases h1 with ⟨c,e⟩|⟨c,e⟩
 ·have e2:at_ (delta n) i=n - 1 - i:=by lia
  rw[e2]at h3 ⊢
  have:=h.lt hn (show n - 1 - i<n by lia)
  lia
 ·have e2:at_ (delta n) i=i:=by lia
  rw[e2]at h3 ⊢
  have:=h.fix i c hi
  lia
theorem ju:then_ (delta n) (delta n)=still:=
 dG (bK _) (bK _) fun i hi=>by
  rw[cF hi,eT hi]
  rcases kz (n:=n) hi with ⟨c,e⟩|⟨c,e⟩
  ·rw[e,vg (by lia),af (by lia)];lia
  ·rw[e,e]
theorem ET:back (delta n)=delta n:=by
 have hD:=(bX hn).aa
 exact jq hD hD.back hD (by rw[jV hD,ju hn])
theorem cG{a:Perm}(h:Rt n a):Rt n (turned n a):=by
 rw[kE hn h];exact((bX hn).then_ h).then_ (bX hn)
theorem jZ{a:Perm}(h:Rt n a):turned n (turned n a)=a:=by
 have hD:=(bX hn).aa
 rw[kE hn (cG hn h),kE hn h]
 rw[then_assoc hD,then_assoc (hD.then_ h.aa),ju hn,dH (hD.then_ h.aa),<-then_assoc hD,ju hn,gg h.aa]
theorem sH{a b:Perm}(ha:Rt n a)(hb:Rt n b):turned n (then_ a b)=then_ (turned n a) (turned n b):=by
 have hD:=(bX hn).aa
 rw[kE hn (ha.then_ hb),kE hn ha,kE hn hb]
 have hx:aw (then_ (then_ (delta n) a) (delta n)):=(hD.then_ ha.aa).then_ hD
 rw[<-then_assoc hx,<-then_assoc hx,then_assoc (hD.then_ ha.aa) (b:=delta n) (c:=delta n),ju hn,dH (hD.then_ ha.aa),then_assoc hD (b:=a) (c:=b)]
theorem kF:turned n still=still:=by
 rw[kE hn jX,dH (bX hn).aa,ju hn]
theorem sI:turned n (delta n)=delta n:=by
 rw[kE hn (bX hn),ju hn,gg (bX hn).aa]
theorem nX{a b:Perm}(ha:Rt n a)(hb:Rt n b)(e:turned n a=turned n b):a=b:=by
 rw[<-jZ hn ha,e,jZ hn hb]
theorem MO{a:Perm}(ha:Rt n a):turned n (back a)=back (turned n a):=by
 have ht:=cG hn ha
 refine jq ht.aa (cG hn ha.back).aa ht.aa.back ?_
 rw[<-sH hn ha ha.back,jV ha.aa,jV ht.aa,kF hn]
theorem mM{a:Perm}(ha:Rt n a):rest n (rest n a)=turned n a:=by
 have hD:=(bX hn).aa
 have hr:=ha.rest hn
 refine jq hr.aa (hr.rest hn).aa (cG hn ha).aa ?_
 rw[kC hn hr,kE hn ha]
 unfold rest
 rw[then_assoc ha.aa.back,then_assoc hD,<-then_assoc (a:=delta n) (b:=delta n) hD,ju hn,gg (ha.aa.then_ hD),<-then_assoc ha.aa.back,rZ ha.aa,gg hD]
theorem X.tr{a:Perm}{i:Nat}(hi:i<n):at_ (turned n a) i=n - 1 - at_ a (n - 1 - i):=(hJ (Nat.lt_of_lt_of_le hi hn)).trans (af hi)
theorem EU{a:Perm}(h:Rt n a){i j:Nat}(hi:i<n)(hj:j<n):X (turned n a) i j↔X a (n - 1 - i) (n - 1 - j):=by
 have h3:=h.lt hn (X.fl hi)
 have h4:=h.lt hn (X.fl hj)
 unfold X;rw[X.tr hn hi,X.tr hn hj,X.fp hi hj,X.fp hj hi,X.fp h3 h4,X.fp h4 h3]
 exact or_comm
theorem nY{a b:Perm}(ha:Rt n a)(hb:Rt n b)(h:Le a b):Le (turned n a) (turned n b):=fun i j hi hj x=>by
 have lt:=(cG hn ha).x hi hj x
 rw[EU hn ha lt.1 lt.2]at x
 rw[EU hn hb lt.1 lt.2]
 exact h _ _ (by lia) (by lia) x
theorem yE{a b:Perm}(ha:Rt n a)(hb:Rt n b)(r:Red a b):Red (turned n a) (turned n b):=by
 have ta:=cG hn ha
 have tb:=cG hn hb
 apply Ey ta.aa tb.aa
 rw[<-sH hn ha hb]
 exact nY hn ha (ha.then_ hb) (r.le ha.aa hb.aa)
theorem yF{a c:Perm}(ha:Rt n a)(hc:Rt n c):hand n (turned n a) (turned n c)=turned n (hand n a c):=by
 have hm:=dq hn ha hc
 refine mL hn (cG hn ha) (cG hn hc) (cG hn hm).aa (nY hn hm hc (gD hn ha hc)) (yE hn ha hm (gh hn ha hc)) fun x hx xl xr=>?_
 have tx:=cG hn hx
 have h1:=nY hn hx (cG hn hc) xl
 have h2:=yE hn (cG hn ha) hx xr
 rw[jZ hn hc]at h1
 rw[jZ hn ha]at h2
 have:=nY hn tx hm (jt hn ha hc tx.aa h1 h2)
 rwa[jZ hn hx]at this
noncomputable def tl(n:Nat)(l:List Perm):List Perm:=l.map (turned n)
theorem mN{l:List Perm}(h:ah n l):ah n (tl n l):=fun x hx=>by
 obtain⟨y,hy,rfl⟩:=bZ.mp hx
 exact cG hn (h y hy)
theorem EV:∀{l:List Perm},ah n l->tl n (tl n l)=l
 |[],_=>rfl
 |a::l,h=>by
  show turned n (turned n a)::tl n (tl n l)=a::l
  rw[jZ hn h.head,EV h.tail]
theorem EW:∀{l:List Perm}{a:Perm},Rt n a->ah n l->tl n (ins n a l)=ins n (turned n a) (tl n l)
 |[],a,ha,_=>by
  unfold ins tl
  by_cases e:a=still
  ·subst e;rw[af rfl,kF hn,List.map_nil];exact(af rfl).symm
  ·have e2:turned n a≠still:=fun q=>e (nX hn ha jX (by rw[q,kF hn]))
   rw[ae e,List.map_nil]
   exact(ae e2).symm
 |c::s,a,ha,hl=>by
  have hc:=hl.head
  have hm:=dq hn ha hc
  show turned n (then_ a (hand n a c))::tl n (ins n (then_ (back (hand n a c)) c) s)=then_ (turned n a) (hand n (turned n a) (turned n c))::ins n (then_ (back (hand n (turned n a) (turned n c))) (turned n c)) (tl n s)
  rw[EW (jY hn ha hc) hl.tail,yF hn ha hc,sH hn ha hm,sH hn hm.back hc,MO hn hm]
theorem EX:∀{l:List Perm},ah n l->tl n (nf n l)=nf n (tl n l)
 |[],_=>rfl
 |a::l,h=>by
  show tl n (ins n a (nf n l))=ins n (turned n a) (nf n (tl n l))
  rw[EW hn h.head (kD hn h.tail),EX h.tail]
theorem MP{a:Perm}{x:List Perm}(ha:Rt n a)(hx:ah n x):ins n a (ins n (delta n) x)=ins n (delta n) (ins n (turned n a) x):=by
 have hr:=ha.rest hn
 have ht:=cG hn ha
 have e:=kC hn hr
 rw[mM hn ha]at e
 have r1:Red (rest n a) (turned n a):=by
  rw[<-mM hn ha];exact(eE hn hr (hr.rest hn)).mpr (Le.refl _)
 have r2:Red a (rest n a):=(eE hn ha hr).mpr (Le.refl _)
 rw[show ins n (delta n) x=ins n (rest n a) (ins n (turned n a) x) by rw[nV hn hr ht hx r1,e]]
 rw[nV hn ha hr (sr hn ht hx) r2,kC hn ha]
theorem EY:∀{l x:List Perm},ah n l->ah n x->act n l (ins n (delta n) x)=ins n (delta n) (act n (tl n l) x)
 |[],x,_,_=>rfl
 |a::l,x,hl,hx=>by
  show ins n a (act n l (ins n (delta n) x))=ins n (delta n) (ins n (turned n a) (act n (tl n l) x))
  rw[EY hl.tail hx,MP hn hl.head (lP hn (mN hn hl.tail) hx)]
theorem EZ{c:Perm}(hc:Rt n c):hand n (delta n) c=still:=
 mL hn (bX hn) hc dO Le.still (pR (bX hn).aa) fun x hx _ r=>by
  have:=(eE hn (bX hn) hx).mp r
  unfold Wqaraq.rest at this
  rwa[ET hn,ju hn]at this
theorem MQ(h2:2<=n){x:List Perm}(hx:ah n x)(h:Nf n x):ins n (delta n) x=delta n::x:=by
 apply pY hn (ah.cons (bX hn) hx)
 cases x with
 |nil=>exact sE h2 hn
 |cons c s=>exact⟨sE h2 hn,EZ hn hx.head,h⟩
end
end BB
end
section
namespace BB
open Wqaraq
noncomputable def aV(n:Nat)(F:Form):Prop:=ah n F.factors
noncomputable def tw(n:Nat)(k:Int)(l:List Perm):List Perm:=if k % 2=0 then l else tl n l
noncomputable def one:Form:=⟨0,[]⟩
noncomputable def bJ(n:Nat)(F G:Form):Form:=⟨F.twists+G.twists,tw n G.twists F.factors++G.factors⟩
section
variable{n:Nat}(hn:n<=16)
include hn
theorem sJ{k:Int}{l:List Perm}(h:ah n l):ah n (tw n k l):=by
 unfold tw;split
 ·exact h
 ·exact mN hn h
theorem yG{k:Int}{l m:List Perm}:tw n k (l++m)=tw n k l++tw n k m:=by
 unfold tw;split
 ·rfl
 ·exact cQ
theorem vj{k:Int}:tw n k []=[]:=by unfold tw;split<;>rfl
theorem sL{j k:Int}{l:List Perm}(h:ah n l):tw n j (tw n k l)=tw n (k+j) l:=by
 unfold tw
 by_cases h1:k % 2=0<;>by_cases h2:j % 2=0
 ·rw[af h1,af h2,af (by lia)]
 ·rw[af h1,ae h2,ae (by lia)]
 ·rw[ae h1,af h2,ae (by lia)]
 ·rw[ae h1,ae h2,af (by lia),EV hn h]
theorem mO{l:List Perm}:tw n 0 l=l:=rfl
theorem MR{k:Int}{l:List Perm}(h:ah n l):tw n k (nf n l)=nf n (tw n k l):=by
 unfold tw;split
 ·rfl
 ·exact EX hn h
theorem jv{F G:Form}(hF:aV n F)(hG:aV n G):aV n (bJ n F G):=ah.append (sJ hn hF) hG
theorem yH{F G H:Form}(hF:aV n F)(hG:aV n G):bJ n (bJ n F G) H=bJ n F (bJ n G H):=by
 unfold bJ
 simp only [Form.mk.injEq]
 refine⟨by lia,?_⟩
 rw[yG hn,sL hn hF,dM]
theorem sM{F:Form}:bJ n F one=F:=by
 unfold bJ one
 simp only [mx,fB]
 rfl
theorem vk{F:Form}:bJ n one F=F:=by
 unfold bJ one
 simp only [Int.zero_add,vj hn,k6]
theorem cH{F G:Form}(hF:aV n F)(hG:aV n G):product n F G=aO n (bJ n F G):=
 yA hn (jv hn hF hG)
theorem vm{m:List Perm}:∃j,m=List.replicate j (delta n)++m.dropWhile (fun a=>a == delta n)/\(m.takeWhile fun a=>a == delta n).length=j:=by
 refine⟨_,?_,rfl⟩
 have:m.takeWhile (fun a=>a == delta n)=List.replicate (m.takeWhile fun a=>a == delta n).length (delta n):=by
  rw[List.eq_replicate_iff]
  refine⟨rfl,fun b hb=>?_⟩
  have:=mq.mp (List.all_takeWhile (p:=fun a=>a == delta n) (l:=m)) b hb
  simpa using this
 rw[<-this,List.takeWhile_append_dropWhile]
variable(h2:2<=n)
include h2
theorem yI{k:Int}{l:List Perm}(h:ah n l):aO n ⟨k,delta n::l⟩=aO n ⟨k+1,l⟩:=by
 show strip n k (ins n (delta n) (nf n l))=strip n (k+1) (nf n l)
 rw[MQ hn h2 (kD hn h) (su hn h),yB]
theorem vn:∀(j:Nat) {k:Int}{l m:List Perm},ah n l->ah n m->aO n ⟨k,l++(List.replicate j (delta n)++m)⟩=aO n ⟨k+j,tw n j l++m⟩
 |0,k,l,m,hl,hm=>by
  rw[show k+((0:Nat):Int)=k by lia]
  rfl
 |j+1,k,l,m,hl,hm=>by
  have hr:ah n (List.replicate j (delta n)++m):=ah.append (fun x hx=>by rw[xo hx];exact bX hn) hm
  have e:nf n (l++(List.replicate (j+1) (delta n)++m))=nf n (delta n::(tl n l++(List.replicate j (delta n)++m))):=by
   show act n (l++(delta n::(List.replicate j (delta n)++m))) []=ins n (delta n) (act n (tl n l++(List.replicate j (delta n)++m)) [])
   rw[nW,nW]
   exact EY hn hl (lP hn hr ah.nil)
  have e2:aO n ⟨k,l++(List.replicate (j+1) (delta n)++m)⟩=aO n ⟨k,delta n::(tl n l++(List.replicate j (delta n)++m))⟩:=by
   unfold aO
   simp only [e]
  rw[e2,yI hn h2 (ah.append (mN hn hl) hr),vn j (mN hn hl) hm]
  rw[show tl n l=tw n 1 l from rfl,sL hn hl]
  rw[show k+1+(j:Int)=k+((j+1:Nat):Int) by lia,show (1:Int)+(j:Int)=((j+1:Nat):Int) by lia]
theorem jw{F:Form}(h:aV n F):aV n (aO n F):=fun x hx=>kD hn h x ((List.dropWhile_sublist _).subset hx)
theorem pZ{F G:Form}(hF:aV n F)(hG:aV n G):aO n (bJ n (aO n F) (aO n G))=aO n (bJ n F G):=by
 obtain⟨k,l⟩:=F
 obtain⟨k',l'⟩:=G
 have hl:ah n l:=hF
 have hl':ah n l':=hG
 obtain⟨j,ej,lj⟩:=vm (n:=n) hn (m:=nf n l)
 obtain⟨i,ei,li⟩:=vm (n:=n) hn (m:=nf n l')
 have hR:ah n ((nf n l).dropWhile fun a=>a == delta n):=fun x hx=>kD hn hl x ((List.dropWhile_sublist _).subset hx)
 have hS:ah n ((nf n l').dropWhile fun a=>a == delta n):=fun x hx=>kD hn hl' x ((List.dropWhile_sublist _).subset hx)
 have eF:aO n ⟨k,l⟩=⟨k+j,(nf n l).dropWhile fun a=>a == delta n⟩:=by unfold aO strip;rw[lj]
 have eG:aO n ⟨k',l'⟩=⟨k'+i,(nf n l').dropWhile fun a=>a == delta n⟩:=by unfold aO strip;rw[li]
 generalize (nf n l).dropWhile (fun a=>a == delta n)=R at *
 generalize (nf n l').dropWhile (fun a=>a == delta n)=S at *
 rw[eF,eG]
 have tD:∀(z:Int) (j:Nat),tw n z (List.replicate j (delta n))=List.replicate j (delta n):=fun z j=>by
  unfold tw;split
  ·rfl
  ·unfold tl;rw[List.map_replicate,sI hn]
 have hD:∀j,ah n (List.replicate j (delta n)):=fun j x hx=>by rw[xo hx];exact bX hn
 have e:aO n (bJ n ⟨k,l⟩ ⟨k',l'⟩)=aO n ⟨k+k',(List.replicate j (delta n)++tw n k' R)++(List.replicate i (delta n)++S)⟩:=by
  unfold aO bJ
  simp only
  rw[MH hn (sJ hn hl) hl',<-MR hn hl,ej,ei,yG hn,tD]
 have h3:ah n (List.replicate j (delta n)++tw n k' R):=ah.append (hD j) (sJ hn hR)
 rw[e,vn hn h2 i h3 hS,yG hn,tD,dM]
 have h4:=ah.append (sJ hn (k:=i) (sJ hn (k:=k') hR)) hS
 have:=vn hn h2 j (k:=k+k'+i) (l:=[]) ah.nil h4
 rw[k6,vj hn,k6]at this
 rw[this,sL hn hR]
 unfold bJ
 simp only
 rw[show k+j+(k'+i)=k+k'+i+j by lia]
theorem yJ{F:Form}(h:aV n F):aO n (aO n F)=aO n F:=by
 have e1:aO n one=one:=by unfold aO one;exact strip_nil
 have h1:aV n one:=ah.nil
 have:=pZ hn h2 h h1
 rw[e1,sM hn,sM hn]at this
 exact this
theorem yK:aO n one=one:=by unfold aO one;exact strip_nil
theorem vo{F G:Form}(hF:aV n F)(hG:aV n G):aO n (bJ n (aO n F) G)=aO n (bJ n F G):=by
 rw[<-pZ hn h2 (jw hn h2 hF) hG,yJ hn h2 hF,pZ hn h2 hF hG]
theorem vp{F G:Form}(hF:aV n F)(hG:aV n G):aO n (bJ n F (aO n G))=aO n (bJ n F G):=by
 rw[<-pZ hn h2 hF (jw hn h2 hG),yJ hn h2 hG,pZ hn h2 hF hG]
structure bh(n:Nat)(F:Form):Prop where
 all:aV n F
 nf:aO n F=F
theorem kG{F:Form}(h:aV n F):bh n (aO n F):=⟨jw hn h2 h,yJ hn h2 h⟩
theorem lR:bh n one:=⟨ah.nil,yK hn h2⟩
theorem e8{F G:Form}(hF:aV n F)(hG:aV n G):bh n (product n F G):=by
 rw[cH hn hF hG];exact kG hn h2 (jv hn hF hG)
theorem h_{F G H:Form}(hF:aV n F)(hG:aV n G)(hH:aV n H):product n (product n F G) H=product n F (product n G H):=by
 have a:=e8 hn h2 hF hG
 have b:=e8 hn h2 hG hH
 rw[cH hn a.all hH,cH hn hF b.all,cH hn hF hG,cH hn hG hH,vo hn h2 (jv hn hF hG) hH,vp hn h2 hF (jv hn hG hH),yH hn hF hG]
theorem sN{F:Form}(h:bh n F):product n F one=F:=by
 rw[cH hn h.all (show aV n one from ah.nil),sM hn,h.nf]
theorem sO{F:Form}(h:bh n F):product n one F=F:=by
 rw[cH hn (show aV n one from ah.nil) h.all,vk hn,h.nf]
theorem E4{F G:Form}(hF:aV n F)(hG:aV n G):product n (aO n F) (aO n G)=product n F G:=by
 rw[cH hn (jw hn h2 hF) (jw hn h2 hG),cH hn hF hG,pZ hn h2 hF hG]
theorem nZ{F G:Form}(hF:aV n F)(hG:aV n G):product n (aO n F) G=product n F G:=by
 rw[cH hn (jw hn h2 hF) hG,cH hn hF hG,vo hn h2 hF hG]
theorem lT{F G:Form}(hF:aV n F)(hG:aV n G):product n F (aO n G)=product n F G:=by
 rw[cH hn hF (jw hn h2 hG),cH hn hF hG,vp hn h2 hF hG]
noncomputable def mP(n:Nat)(a:Perm):Form:=⟨-1,[turned n (rest n a)]⟩
noncomputable def bM(a:Perm):Form:=⟨0,[a]⟩
noncomputable def eI(k:Int):Form:=⟨k,[]⟩
theorem dP{a:Perm}(ha:Rt n a):aV n (bM a):=ah.cons ha ah.nil
theorem mQ{a:Perm}(ha:Rt n a):aV n (mP n a):=ah.cons (cG hn (ha.rest hn)) ah.nil
theorem sP{k:Int}:aV n (eI k):=ah.nil
theorem yN{a b:Perm}(ha:Rt n a)(hb:Rt n b)(r:Red a b):nf n [a,b]=nf n [then_ a b]:=nV hn ha hb ah.nil r
theorem E5{a:Perm}(ha:Rt n a):product n (bM a) (mP n a)=one:=by
 have hr:=ha.rest hn
 have ht:=cG hn ha
 rw[cH hn (dP hn h2 ha) (mQ hn h2 ha)]
 have e:bJ n (bM a) (mP n a)=⟨-1,[turned n a,turned n (rest n a)]⟩:=rfl
 have r:Red (turned n a) (turned n (rest n a)):=yE hn ha hr ((eE hn ha hr).mpr (Le.refl _))
 have e2:aO n ⟨-1,[turned n a,turned n (rest n a)]⟩=aO n ⟨-1,[delta n]⟩:=by
  unfold aO
  simp only
  rw[yN hn h2 ht (cG hn hr) r,<-sH hn ha hr,kC hn ha,sI hn]
 rw[e,e2,yI hn h2 ah.nil]
 exact yK hn h2
theorem yO{a:Perm}(ha:Rt n a):turned n (rest n a)=rest n (turned n a):=by
 rw[<-mM hn (ha.rest hn),mM hn ha]
theorem MS{a:Perm}(ha:Rt n a):product n (mP n a) (bM a)=one:=by
 have ht:=cG hn ha
 rw[cH hn (mQ hn h2 ha) (dP hn h2 ha)]
 have e:bJ n (mP n a) (bM a)=⟨-1,[turned n (rest n a),a]⟩:=rfl
 have e1:a=rest n (rest n (turned n a)):=by rw[mM hn ht,jZ hn ha]
 have hq:=ht.rest hn
 have r:Red (turned n (rest n a)) a:=by
  rw[yO hn h2 ha]
  exact(eE hn hq ha).mpr (by rw[<-e1];exact Le.refl _)
 have e2:then_ (turned n (rest n a)) a=delta n:=by
  have:=kC hn hq
  rw[<-e1]at this
  rw[yO hn h2 ha];exact this
 have e3:aO n ⟨-1,[turned n (rest n a),a]⟩=aO n ⟨-1,[delta n]⟩:=by
  unfold aO
  simp only
  rw[yN hn h2 (cG hn (ha.rest hn)) ha r,e2]
 rw[e,e3,yI hn h2 ah.nil]
 exact yK hn h2
noncomputable def bw(n:Nat)(l:List Perm):Form:=l.reverse.foldl (fun (G:Form) (a:Perm)=>product n G ⟨-1,[turned n (rest n a)]⟩) ⟨0,[]⟩
theorem yP{a:Perm}{l:List Perm}:bw n (a::l)=product n (bw n l) (mP n a):=by
 unfold bw
 rw[my,jI]
 rfl
theorem p5:∀{l:List Perm},ah n l->bh n (bw n l)
 |[],_=>lR hn h2
 |a::l,h=>by rw[yP hn h2];exact e8 hn h2 (p5 h.tail).all (mQ hn h2 h.head)
noncomputable def ic(l:List Perm):Form:=⟨0,l⟩
theorem E6{a:Perm}{l:List Perm}:ic (a::l)=bJ n (bM a) (ic l):=rfl
theorem E7:∀{l:List Perm},ah n l->product n (ic l) (bw n l)=one
 |[],_=>sN hn h2 (lR hn h2)
 |a::l,h=>by
  have hb:=(p5 hn h2 h.tail).all
  have hu:=mQ hn h2 h.head
  have hf:=dP hn h2 h.head
  have hl:aV n (ic l):=h.tail
  rw[yP hn h2,E6 hn h2,<-nZ hn h2 (jv hn hf hl) (e8 hn h2 hb hu).all,<-cH hn hf hl,
   <-h_ hn h2 (e8 hn h2 hf hl).all hb hu,h_ hn h2 hf hl hb,E7 h.tail,cH hn hf ah.nil |> fun e=>(e:product n (bM a) one=_),sM hn,nZ hn h2 hf hu,E5 hn h2 h.head]
theorem E8:∀{l:List Perm},ah n l->product n (bw n l) (ic l)=one
 |[],_=>sN hn h2 (lR hn h2)
 |a::l,h=>by
  have hb:=(p5 hn h2 h.tail).all
  have hu:=mQ hn h2 h.head
  have hf:=dP hn h2 h.head
  have hl:aV n (ic l):=h.tail
  rw[yP hn h2,E6 hn h2,<-lT hn h2 (e8 hn h2 hb hu).all (jv hn hf hl),<-cH hn hf hl,
   h_ hn h2 hb hu (e8 hn h2 hf hl).all,<-h_ hn h2 hu hf hl,MS hn h2 h.head]
  rw[cH hn (show aV n one from ah.nil) hl,vk hn,lT hn h2 hb hl,E8 h.tail]
theorem yQ{j k:Int}:product n (eI j) (eI k)=eI (j+k):=by
 rw[cH hn (sP hn h2) (sP hn h2)]
 unfold bJ eI aO
 simp only [vj hn,k6]
 exact strip_nil
theorem E9{F:Form}:bJ n (eI F.twists) (ic F.factors)=F:=by
 unfold bJ eI ic
 simp only [vj hn,k6,mx]
theorem E_{F:Form}:backward n F=product n (bw n F.factors) (eI (-F.twists)):=rfl
theorem j1{F:Form}(h:aV n F):bh n (backward n F):=e8 hn h2 (p5 hn h2 h).all (sP hn h2)
theorem MT{k:Int}:bh n (eI k):=⟨ah.nil,strip_nil⟩
theorem MU{F:Form}(h:aV n F):product n F (backward n F)=one:=by
 have hb:=(p5 hn h2 h).all
 have ht:∀{k:Int},aV n (eI k):=fun {k}=>sP hn h2
 have hl:aV n (ic F.factors):=h
 have e:product n F (backward n F)=product n (product n (eI F.twists) (ic F.factors)) (backward n F):=by
  rw[cH hn ht hl,E9 hn h2,nZ hn h2 h (j1 hn h2 h).all]
 rw[e,E_ hn h2,h_ hn h2 ht hl (e8 hn h2 hb ht).all,<-h_ hn h2 hl hb ht,E7 hn h2 h,sO hn h2 (MT hn h2),yQ hn h2]
 rw[show F.twists+ -F.twists=0 by lia];rfl
theorem yR{F:Form}(h:aV n F):product n (backward n F) F=one:=by
 have hb:=(p5 hn h2 h).all
 have ht:∀{k:Int},aV n (eI k):=fun {k}=>sP hn h2
 have hl:aV n (ic F.factors):=h
 have e:product n (backward n F) F=product n (backward n F) (product n (eI F.twists) (ic F.factors)):=by
  rw[cH hn ht hl,E9 hn h2,lT hn h2 (j1 hn h2 h).all h]
 rw[e,E_ hn h2,h_ hn h2 hb ht (e8 hn h2 ht hl).all,<-h_ hn h2 ht ht hl,yQ hn h2,show -F.twists+F.twists=0 by lia]
 rw[show product n (eI 0) (ic F.factors)=aO n (ic F.factors) by rw[cH hn ht hl];exact bQ (aO n) (vk hn),lT hn h2 hb hl,E8 hn h2 h]
theorem Fb{F G:Form}(hF:aV n F)(hG:bh n G)(h:product n F G=one):G=backward n F:=by
 have hb:=j1 hn h2 hF
 rw[<-sO hn h2 hG,<-yR hn h2 hF,h_ hn h2 hb.all hF hG.all,h,sN hn h2 hb]
end
end BB
end
section
namespace BB
open Wqaraq
theorem kH{a:Perm}{i:Nat}(h:i<a.length):at_ a i=a[i]:=by
 unfold at_;rw[eg,bu h];rfl
theorem p8{n:Nat}:strands n=true↔2<=n/\n<=16:=by
 unfold strands WIDE;simp
theorem Fc{n:Nat}{a:Perm}:right n a=true↔(2<=n/\n<=16)/\a.length=16/\(∀x,x<n->x∈a.take n)/\∀i,n<=i->i<16->at_ a i=i:=by
 unfold right WIDE
 simp only [br,p8,beq_iff_eq,mq,a6,List.contains_iff_mem,mv,gL]
 constructor
 ·rintro⟨⟨⟨h1,h2⟩,h3⟩,h4⟩
  exact⟨h1,h2,h3,fun i hi hj=>(h4 i hj).resolve_left (by lia)⟩
 ·rintro⟨h1,h2,h3,h4⟩
  refine⟨⟨⟨h1,h2⟩,h3⟩,fun i hi=>?_⟩
  by_cases c:i<n
  ·exact .inl c
  ·exact .inr (h4 i (by lia) hi)
theorem Fd{n:Nat}{a:Perm}:right n a=true↔(2<=n/\n<=16)/\Rt n a:=by
 rw[Fc]
 constructor
 ·rintro⟨hn,hl,h1,h2⟩
  refine⟨hn,Mz hl fun v hv=>?_,h2⟩
  by_cases c:v<n
  ·obtain⟨i,hi,e⟩:=List.mem_iff_getElem.mp (h1 v c)
   have hi':i<16:=by simp at hi;lia
   refine⟨i,hi',?_⟩
   rw[kH (by lia),<-e,List.getElem_take]
  ·exact⟨v,hv,h2 v (by lia) hv⟩
 ·rintro⟨hn,h⟩
  refine⟨hn,h.aa.len,fun x hx=>?_,h.fix⟩
  obtain⟨i,hi,e⟩:=h.aa.fQ x (by lia)
  have c:i<n:=by
   apply k7
   intro c
   have:=h.fix i (by lia) hi
   lia
  rw[kH (by rw[h.aa.len];exact hi)]at e
  rw[<-e]
  have hl:=h.aa.len
  exact List.mem_iff_getElem.mpr ⟨i,by simp;lia,by rw[List.getElem_take]⟩
noncomputable def gj(i j:Nat):List Int:=(List.range' i (j - i)).map fun (x:Nat)=>(x:Int)
noncomputable def fS(a:List Nat):List Int:=a.map fun (x:Nat)=>(x:Int)
theorem yS{a b:List Nat}(h:fS a=fS b):a=b:=List.map_inj_right (fun x y e=>by lia) |>.mp h
theorem MV{l:List Int}(h:∀x,x∈l->0<=x):fS (l.map Int.toNat)=l:=by
 unfold fS
 rw[dw]
 conv=>rhs;rw[<-List.map_id l]
 apply gX
 intro x hx
 have:=h x hx
 simp only [Function.comp,id]
 lia
theorem MW{ns ys:List Int}{n:Nat}(h0:∀x,x∈ns->0<=x)(hn:2<=n/\n<=16)(hl:ns.length=16)(p:ys.Perm (ns.take n))(s:ys.Pairwise (·<=·)):
  right n (ns.map Int.toNat)=true↔ys=gj 0 n/\ns.drop n=gj n 16:=by
 have hlen:(ns.map Int.toNat).length=16:=by simp[hl]
 have lt:∀(i:Nat),i<16->at_ (ns.map Int.toNat) i=(ns.getD i 0).toNat:=fun i hi=>by
  rw[kH (by lia),List.getElem_map,eg,bu (by lia)];rfl
 have dr:(∀i,n<=i->i<16->at_ (ns.map Int.toNat) i=i)↔ns.drop n=gj n 16:=by
  constructor
  ·intro h
   apply List.ext_getElem
   ·unfold gj;simp[hl]
   ·intro i h1 h2
    have hi:n+i<16:=by simp[hl]at h1;lia
    have:=h (n+i) (by lia) hi
    rw[lt _ hi,eg,bu (by lia)]at this
    have nn:=h0 ns[n+i] (i5 _)
    have e2:(gj n 16)[i]=((n+i:Nat):Int):=by
     simp only [gj,List.getElem_map,List.getElem_range']
     lia
    rw[List.getElem_drop,e2]
    simp at this
    lia
  ·intro e i h1 h2
   have:=bQ (fun l=>l[i - n]?) e
   simp only [List.getElem?_drop,gj]at this
   rw[show n+(i - n)=i by lia,bu (by lia),b_,List.getElem?_range' (by lia)]at this
   rw[lt i h2,eg,bu (by lia)]
   simp at this ⊢
   lia
 rw[Fc,dr]
 have key:(∀x,x<n->x∈(ns.map Int.toNat).take n)↔ys=gj 0 n:=by
  constructor
  ·intro h
   have hs:((ns.map Int.toNat).take n).length=n:=by simp[hl];lia
   have fQ:∀v,v<n->∃i,i<n/\((ns.map Int.toNat).take n).getD i 0=v:=fun v hv=>by
    obtain⟨i,hi,e⟩:=List.mem_iff_getElem.mp (h v hv)
    exact⟨i,by lia,by rw[eg,bu hi];exact e⟩
   have ij:=yg fQ
   have gd:∀i (hi:i<((ns.map Int.toNat).take n).length),((ns.map Int.toNat).take n).getD i 0=((ns.map Int.toNat).take n)[i]:=fun i hi=>by
    rw[eg,bu hi];rfl
   have nd:((ns.map Int.toNat).take n).Nodup:=by
    unfold List.Nodup
    rw[List.pairwise_iff_getElem]
    intro i j hi hj hij e
    rw[<-gd i hi,<-gd j hj]at e
    have:=ij.2 i j (by lia) (by lia) e
    lia
   have pp:((ns.map Int.toNat).take n).Perm (List.range n):=by
    rw[List.perm_ext_iff_of_nodup nd o8]
    intro v
    rw[a6]
    constructor
    ·intro hv
     obtain⟨i,hi,e⟩:=List.mem_iff_getElem.mp hv
     rw[<-e,<-gd i hi]
     exact ij.1 i (by lia)
    ·exact h v
   have p2:ys.Perm (gj 0 n):=by
    refine p.trans ?_
    have:=pp.map fun (x:Nat)=>(x:Int)
    rw[<-List.map_take]at this
    rw[show gj 0 n=(List.range n).map fun (x:Nat)=>(x:Int) by unfold gj;rw[List.range_eq_range'];rfl]
    have e:=MV (l:=ns.take n) fun x hx=>h0 x (mz hx)
    unfold fS at e
    rwa[e]at this
   refine List.Perm.eq_of_pairwise (le:=(·<=·)) (fun a b _ _ h1 h2=>by lia) s ?_ p2
   unfold gj
   rw[List.pairwise_map]
   exact(List.pairwise_lt_range' (s:=0) (n:=n - 0)).imp fun h=>by lia
  ·intro e x hx
   have:(x:Int)∈ys:=by
    rw[e];unfold gj;simp only [bZ,List.mem_range'_1];exact⟨x,by lia,rfl⟩
   have:=p.mem_iff.mp this
   rw[<-List.map_take]
   exact bZ.mpr ⟨_,this,by simp⟩
 rw[key]
 exact⟨fun h=>⟨h.2.2.1,h.2.2.2⟩,fun h=>⟨hn,hlen,h.1,h.2⟩⟩
end BB
end
section
namespace BB
open Wqaraq
theorem Fe{p:Nat->Bool}{v:Nat}(hv:v<16):cnt (fun j=>p j&&decide (j=v))=if p v=true then 1 else 0:=by
 unfold cnt
 have:∀(l:List Nat),l.Nodup->l.countP (fun j=>p j&&decide (j=v))=if v∈l/\p v=true then 1 else 0:=by
  intro l
  induction l with
  |nil=>intro _;simp
  |cons a l ih=>
   intro nd
   obtain⟨h1,h2⟩:=kZ.mp nd
   rw[jH,ih h2]
   by_cases e:a=v
   ·subst e
    simp[h1]
   ·have:¬v=a:=fun q=>e q.symm
    simp[e,this]
 rw[this _ o8]
 simp[hv]
theorem sQ{a:Perm}(ha:aw a):∀v,v<=16->cnt (fun j=>decide (at_ a j<v))=v:=by
 intro v
 induction v with
 |zero=>intro _;unfold cnt;simp
 |succ v ih=>
  intro hv
  have e:=u_ (p:=fun j=>decide (at_ a j<v+1)) (q:=fun j=>decide (at_ a j<v))
  obtain⟨i,hi,ei⟩:=ha.fQ v (by lia)
  have e1:cnt (fun j=>decide (at_ a j<v+1)&&decide (at_ a j<v))=v:=by
   rw[<-ih (by lia)]
   apply lN
   intro j hj
   by_cases c:at_ a j<v<;>simp[c]<;>lia
  have e2:cnt (fun j=>decide (at_ a j<v+1)&& !decide (at_ a j<v))=1:=by
   have:cnt (fun j=>decide (at_ a j<v+1)&& !decide (at_ a j<v))=cnt (fun j=>(fun _=>true) j&&decide (j=i)):=by
    apply lN
    intro j hj
    rw[jG]
    simp
    constructor
    ·intro ⟨h1,h2⟩;exact ha.inj j i hj hi (by lia)
    ·intro h;subst h;lia
   rw[this,Fe hi];rfl
  lia
theorem MX{a:Perm}(ha:aw a){i:Nat}(hi:i<16):cnt (fun j=>decide (at_ a j<at_ a i))=at_ a i:=sQ ha _ (by have:=ha.lt i hi;lia)
theorem Ff{a:Perm}(ha:aw a){i:Nat}(hi:i<16)(c:Nat->Nat->Bool)(hc:∀p q,p<q->q<16->(c p q=true↔X a p q)):
  cnt (fun j=>decide (j<i)&& !c j i)+cnt (fun j=>decide (i<j)&&c i j)=at_ a i:=by
 rw[<-MX ha hi]
 have e:=u_ (p:=fun j=>decide (at_ a j<at_ a i)) (q:=fun j=>decide (j<i))
 rw[e]
 congr 1
 ·apply lN
  intro j hj
  rw[jG]
  simp only [br,gL,fC]
  by_cases lt:j<i
  ·have:=hc j i lt hi
   have:=ha.ne hj hi (by lia)
   cases ec:c j i<;>simp[ec,X]at this<;>simp[lt]<;>(unfold X at *; simp[ec]at *; lia)
  ·simp[lt]
 ·apply lN
  intro j hj
  rw[jG]
  simp only [br,gL,fC,decide_eq_false_iff_not]
  by_cases lt:i<j
  ·have:=hc i j lt hj
   rw[this]
   unfold X
   lia
  ·have:¬X a i j->True:=fun _=>trivial
   by_cases e:j=i
   ·subst e;lia
   ·lia
theorem yT(f:Nat×Nat->Bool):pairs.countP f=((List.range 16).map fun i=>cnt fun j=>decide (i<j)&&f (i,j)).sum:=by
 unfold pairs WIDE cnt
 rw[List.countP_flatMap]
 refine bQ List.sum (gX fun i _=>?_)
 rw[Function.comp,List.countP_map,List.countP_filter]
 exact ng fun j _=>by simp[Function.comp,and_comm]
theorem Fg:∀(l:List Nat) (i:Nat) (k:Nat),l.Nodup->(l.map fun j=>if j=i then k else 0).sum=if i∈l then k else 0
 |[],i,k,_=>by simp
 |a::l,i,k,nd=>by
  obtain⟨h1,h2⟩:=kZ.mp nd
  rw[dJ,q_,Fg l i k h2]
  by_cases e:a=i
  ·subst e;simp[h1]
  ·have:¬i=a:=fun q=>e q.symm
   simp[e,this]
theorem MY(f:Nat×Nat->Bool){i:Nat}(hi:i<16):pairs.countP (fun x=>f x&&x.1 == i)=cnt fun j=>decide (i<j)&&f (i,j):=by
 rw[yT]
 have:((List.range 16).map fun i'=>cnt fun j=>decide (i'<j)&&(f (i',j)&&i' == i))=(List.range 16).map fun i'=>if i'=i then (cnt fun j=>decide (i<j)&&f (i,j)) else 0:=by
  apply gX
  intro i' _
  by_cases e:i'=i
  ·subst e;simp
  ·rw[ae e]
   unfold cnt
   rw[ux]
   intro j _
   simp[e]
 show ((List.range 16).map fun i'=>cnt fun j=>decide (i'<j)&&(f (i',j)&&i' == i)).sum=_
 rw[this,Fg _ _ _ o8,af (a6.mpr hi)]
theorem Fh:∀(l:List Nat) (p:Nat->Bool),(l.map fun j=>if p j=true then 1 else 0).sum=l.countP p
 |[],p=>by simp
 |a::l,p=>by
  rw[dJ,q_,Fh l p,jH];lia
theorem MZ(f:Nat×Nat->Bool){i:Nat}(hi:i<16):pairs.countP (fun x=>f x&&x.2 == i)=cnt fun j=>decide (j<i)&&f (j,i):=by
 rw[yT]
 have:((List.range 16).map fun i'=>cnt fun j=>decide (i'<j)&&(f (i',j)&&j == i))=(List.range 16).map fun i'=>if (decide (i'<i)&&f (i',i))=true then 1 else 0:=by
  apply gX
  intro i' _
  rw[<-Fe (p:=fun j=>decide (i'<j)&&f (i',j)) hi]
  apply lN
  intro j _
  simp only [Bool.and_assoc]
  congr 2
 show ((List.range 16).map fun i'=>cnt fun j=>decide (i'<j)&&(f (i',j)&&j == i)).sum=_
 rw[this,Fh];rfl
theorem M0{α:Type}{l:List α}{p q:α->Bool}(h:∀x,x∈l->p x=true->q x=true)(e:(l.filter q).length=(l.filter p).length):l.filter q=l.filter p:=by
 have:∀x,x∈l->q x=p x:=by
  intro x hx
  cases ep:p x
  ·cases eq:q x
   ·rfl
   ·exfalso
    have:=sf (p:=p) (q:=q) h ⟨x,hx,eq,ep⟩
    rw[iH,iH]at this
    lia
  ·exact h x hx ep
 exact List.filter_congr this
theorem Fi:∀(f:Nat) (R:Nat->Nat->Prop) (p:Nat×Nat->Bool),(∀i k,i<k->k<16->p (i,k)=true->TC R i k)->(∀i k,R i k->i<k/\k<16/\p (i,k)=true)->120 - f<=(pairs.filter p).length->
  ∃q:Nat×Nat->Bool,closed f (pairs.filter p)=pairs.filter q/\∀i k,i<k->k<16->(q (i,k)=true↔TC R i k)
 |0,R,p,h1,h2,h3=>by
  refine⟨p,rfl,fun i k hik hk=>⟨h1 i k hik hk,fun _=>?_⟩⟩
  have e:(pairs.filter p).length=pairs.length:=by
   have:=q0 p pairs
   have e:pairs.length=120:=by decide+kernel
   lia
  have:=List.length_filter_eq_length_iff.mp e (i,k) (nS.mpr ⟨hik,hk⟩)
  exact this
 |f+1,R,p,h1,h2,h3=>by
  have tcl:∀i k,TC R i k->i<k/\k<16:=by
   intro i k t
   induction t with
   |one r=>exact⟨(h2 _ _ r).1,(h2 _ _ r).2.1⟩
   |step r _ ih=>exact⟨Nat.lt_trans (h2 _ _ r).1 ih.1,ih.2⟩
  let p':Nat×Nat->Bool:=fun x=>(pairs.filter p).contains x||(List.range WIDE).any fun (j:Nat)=>(pairs.filter p).contains (x.1,j)&&(pairs.filter p).contains (j,x.2)
  have mp:∀i k,(i,k)∈pairs.filter p↔(i<k/\k<16)/\p (i,k)=true:=fun i k=>by rw[i4,nS]
  have hp':∀i k,p' (i,k)=true↔(i,k)∈pairs.filter p\/∃j,j<16/\(i,j)∈pairs.filter p/\(j,k)∈pairs.filter p:=fun i k=>by
   show (_||_)=true↔_
   simp only [mv,List.contains_iff_mem,List.any_eq_true,a6,br,WIDE]
  have up:∀x,x∈pairs->p x=true->p' x=true:=fun x hx e=>(hp' x.1 x.2).mpr (.inl (i4.mpr ⟨hx,e⟩))
  have e1:closed (f+1) (pairs.filter p)=if (pairs.filter p').length=(pairs.filter p).length then pairs.filter p' else closed f (pairs.filter p'):=rfl
  have h1':∀i k,i<k->k<16->p' (i,k)=true->TC R i k:=by
   intro i k hik hk e
   rcases(hp' i k).mp e with e|⟨j,hj,e2,e3⟩
   ·exact h1 i k hik hk ((mp i k).mp e).2
   ·have a1:=(mp i j).mp e2
    have a2:=(mp j k).mp e3
    exact(h1 i j a1.1.1 a1.1.2 a1.2).trans (h1 j k a2.1.1 a2.1.2 a2.2)
  rw[e1]
  by_cases c:(pairs.filter p').length=(pairs.filter p).length
  ·rw[af c]
   have ee:=M0 up c
   refine⟨p',rfl,fun i k hik hk=>⟨h1' i k hik hk,fun t=>?_⟩⟩
   have tr:∀i k,TC R i k->(i,k)∈pairs.filter p:=by
    intro i k t
    induction t with
    |one r=>exact(mp _ _).mpr ⟨⟨(h2 _ _ r).1,(h2 _ _ r).2.1⟩,(h2 _ _ r).2.2⟩
    |step r t ih=>
     rename_i i j k
     have a:=h2 _ _ r
     rw[<-ee]
     refine i4.mpr ⟨nS.mpr (tcl _ _ (.step r t)),(hp' i k).mpr (.inr ⟨j,a.2.1,(mp _ _).mpr ⟨⟨a.1,a.2.1⟩,a.2.2⟩,ih⟩)⟩
   exact(hp' i k).mpr (.inl (tr i k t))
  ·rw[ae c]
   refine Fi f R p' h1' (fun i k r=>?_) ?_
   ·have a:=h2 i k r
    exact⟨a.1,a.2.1,(hp' i k).mpr (.inl ((mp i k).mpr ⟨⟨a.1,a.2.1⟩,a.2.2⟩))⟩
   ·have le:(pairs.filter p).length<=(pairs.filter p').length:=by
     rw[<-iH,<-iH]
     exact List.countP_mono_left up
    lia
theorem join_eq{a b:Perm}(ha:aw a)(hb:aw b):joinOf a b=jn a b:=by
 obtain⟨q,e,hq⟩:=Fi 120 (ky a b) (fun x=>cross a x||cross b x) (fun i k hik hk e=>by
  rw[mv,cY hik,cY hik]at e
  exact .one ⟨hik,hk,e⟩) (fun i k r=>⟨r.1,r.2.1,by rw[mv,cY r.1,cY r.1];exact r.2.2⟩) (by lia)
 have hj:=nR ha hb
 refine dG (bK _) hj.len fun i hi=>?_
 have e2:joinOf a b=made fun (i:Nat)=>i+((pairs.filter q).filter fun (x:Nat×Nat)=>x.1 == i).length - ((pairs.filter q).filter fun (x:Nat×Nat)=>x.2 == i).length:=by
  show made _=made _
  rw[e]
 rw[e2,hJ hi,<-Ff hj hi (fun p r=>q (p,r)) (fun p r h1 h2=>(hq p r h1 h2).trans ((pT ha hb).x h2 h1).symm)]
 rw[List.filter_filter,List.filter_filter,<-iH,<-iH]
 rw[show (fun (x:Nat×Nat)=>x.1 == i&&q x)=fun x=>q x&&x.1 == i from funext fun x=>Bool.and_comm _ _,show (fun (x:Nat×Nat)=>x.2 == i&&q x)=fun x=>q x&&x.2 == i from funext fun x=>Bool.and_comm _ _]
 rw[MY q hi,MZ q hi]
 have:=u_ (p:=fun j=>decide (j<i)) (q:=fun j=>q (j,i))
 rw[MA (by lia)]at this
 lia
theorem M3{a b:Perm}(ha:aw a)(hb:aw b):meetOf a b=then_ (jn (then_ a (delta 16)) (then_ b (delta 16))) (delta 16):=by
 have hD:=(bX (n:=16) (by lia)).aa
 have dd:=ju (n:=16) (by lia)
 have ad:=ha.then_ hD
 have bd:=hb.then_ hD
 have hj:=nR ad bd
 have cx:∀(x:Perm),aw x->∀i j,i<16->j<16->i≠j->(X (then_ x (delta 16)) i j↔¬X x i j):=by
  intro x hx i j hi hj n
  rw[nM hx hD hi hj,yp (hx.lt i hi) (hx.lt j hj)]
  have:=hx.ne hi hj n
  have:=hx.lt i hi
  have:=hx.lt j hj
  constructor
  ·rintro(⟨_,h⟩|⟨h,_⟩)
   ·exact(h ⟨by lia,by lia,by lia⟩).elim
   ·exact h
  ·intro h;exact .inr ⟨h,by lia,by lia,by lia⟩
 have anti:∀(x y:Perm),aw x->aw y->Le x y->Le (then_ y (delta 16)) (then_ x (delta 16)):=by
  intro x y hx hy h i j hi hj z
  by_cases n:i=j
  ·subst n;exact(u7 z).elim
  ·rw[cx y hy i j hi hj n]at z
   rw[cx x hx i j hi hj n]
   exact fun w=>z (h i j hi hj w)
 have back2:∀(x:Perm),aw x->then_ (then_ x (delta 16)) (delta 16)=x:=fun x hx=>by rw[then_assoc hx,dd,dH hx]
 refine vf ha hb ⟨hj.then_ hD,?_,?_,fun x hx xa xb=>?_⟩
 ·have:=anti _ _ ad hj (yk ad bd)
  rwa[back2 a ha]at this
 ·have:=anti _ _ bd hj (yl ad bd)
  rwa[back2 b hb]at this
 ·have:=anti _ _ hj (hx.then_ hD) (si ad bd (hx.then_ hD) (anti x a hx ha xa) (anti x b hx hb xb))
  rwa[back2 x hx]at this
end BB
end
section
namespace BB
open Wqaraq
noncomputable def gm(n:Nat)(c:Nat->Nat):Nat->Nat
 |0=>0
 |k+1=>gm n c k * (n - k)+c k
theorem Fj(n:Nat)(c:Nat->Nat):∀k,k<=n->gm n c k * factorial (n - k)=(List.range k).foldl (fun s i=>s+c i * factorial (n - 1 - i)) 0
 |0,_=>by simp[gm]
 |k+1,h=>by
  rw[i6,jI,gK,List.foldl_nil,<-Fj n c k (by lia)]
  have e:n - k=(n - (k+1))+1:=by lia
  rw[show n - 1 - k=n - (k+1) by lia]
  have e2:factorial (n - k)=(n - k) * factorial (n - (k+1)):=by
   rw[e];exact bQ (· * _) (by lia)
  rw[e2]
  show (gm n c k * (n - k)+c k) * _=_
  rw[Nat.add_mul,Nat.mul_assoc]
theorem yU(n:Nat)(a:Perm):number n a=gm n (fun i=>((List.range n).filter fun j=>decide (i<j)&&decide (at_ a j<at_ a i)).length) n:=by
 have:=Fj n (fun i=>((List.range n).filter fun j=>decide (i<j)&&decide (at_ a j<at_ a i)).length) n (aX n)
 rw[o9]at this
 unfold number
 rw[<-this]
 rw[show factorial 0=1 from rfl,Nat.mul_one]
theorem Fk(l:List Nat)(k:Nat)(p:Nat->Bool):(l.drop k).countP p=(List.range l.length).countP fun j=>decide (k<=j)&&p (l.getD j 0):=by
 induction l generalizing k with
 |nil=>simp
 |cons a l ih=>
  rw[bO,xm,jH,List.countP_map]
  cases k with
  |zero=>
   have:=ih 0
   rw[List.drop_zero]at this ⊢
   rw[jH,this]
   congr 1
   all_goals simp[Function.comp]
  |succ k=>
   rw[List.drop_succ_cons,ih k]
   rw[show (if (decide (k+1<=0)&&p ((a::l).getD 0 0))=true then 1 else 0)=0 by simp,Nat.add_zero]
   exact ng fun j _=>by simp[Function.comp]
theorem M4(a:Perm){n i:Nat}(hl:a.length=16)(hn:n<=16):(((a.take n).drop (i+1)).countP fun x=>decide (x<at_ a i))=((List.range n).filter fun j=>decide (i<j)&&decide (at_ a j<at_ a i)).length:=by
 rw[Fk,c_,hl,show min n 16=n by lia,<-iH]
 apply ng
 intro j hj
 have hj:=a6.mp hj
 rw[show (a.take n).getD j 0=at_ a j by unfold at_;simp[eg,List.getElem?_take,hj]]
 simp only [br,gL,Nat.succ_le_iff]
noncomputable def picks:List Nat->List Nat->List Nat
 |[],_=>[]
 |d::ds,left=>left.getD d 0::picks ds (left.eraseIdx d)
noncomputable def digit(m j:Nat):Nat:=m / factorial j % (j+1)
theorem Fl(n m:Nat):∀k left,numberedFrom n k (m % factorial k) left=picks ((List.range k).reverse.map (digit m)) left
 |0,left=>rfl
 |k+1,left=>by
  have e1:m % factorial (k+1) / factorial k=digit m k:=by
   show m % ((k+1) * factorial k) / factorial k=m / factorial k % (k+1)
   rw[Nat.mul_comm,Nat.mod_mul_right_div_self]
  have e2:m % factorial (k+1) % factorial k=m % factorial k:=by
   show m % ((k+1) * factorial k) % factorial k=_
   exact Nat.mod_mod_of_dvd _ (Nat.dvd_mul_left _ _)
  rw[i6,List.reverse_append,List.reverse_singleton,List.singleton_append,dJ]
  show left.getD (m % factorial (k+1) / factorial k) 0::numberedFrom n k (m % factorial (k+1) % factorial k) (left.eraseIdx (m % factorial (k+1) / factorial k))=_
  rw[e1,e2,Fl n m k]
  rfl
theorem Fn:∀ds left,(picks ds left).length=ds.length
 |[],_=>rfl
 |d::ds,left=>bQ (·+1) (Fn ds _)
theorem Fo:∀(f:Nat) (a:Perm),aw a->size a<=f->rowFrom (f+1) a=rowFrom f a
 |0,a,ha,h=>by
  rw[rowFrom,rowFrom]
  split
  ·rfl
  ·rename_i i e
   have hi:i<15:=a6.mp (qX e)
   have c:=qY e
   rw[cY (by lia)]at c
   have:=nT ha hi c;lia
 |f+1,a,ha,h=>by
  rw[rowFrom,rowFrom]
  split
  ·rfl
  ·rename_i i e
   have hi:i<15:=a6.mp (qX e)
   have c:=qY e
   rw[cY (by lia)]at c
   rw[Fo f (exchanged i a) (by rw[iU hi];exact(iT hi).then_ ha) (by have:=nT ha hi c;lia)]
theorem vq{a:Perm}(ha:aw a):row a=match (List.range 15).find? (fun i=>cross a (i,i+1)) with
  |none=>[]
  |some i=>((i+1:Nat):Int)::row (exchanged i a):=by
 show rowFrom 120 a=_
 rw[<-Fo 120 a ha (size_le a)]
 rw[rowFrom]
 rfl
theorem vt{a:Perm}(ha:aw a){i:Nat}(hi:i<15):aw (exchanged i a):=by
 rw[iU hi];exact(iT hi).then_ ha
noncomputable def p9(a:Perm)(i:Nat):Prop:=∀j,j<i->j<15->at_ a j<at_ a (j+1)
theorem M5{a:Perm}(ha:aw a){i:Nat}(hi:i<15)(u:p9 a i)(c:at_ a (i+1)<at_ a i):row a=((i+1:Nat):Int)::row (exchanged i a):=by
 rw[vq ha]
 have:(List.range 15).find? (fun i=>cross a (i,i+1))=some i:=by
  rw[List.find?_range_eq_some]
  refine⟨?_,by simpa using hi,fun j hj=>?_⟩
  ·rw[cY (by lia)];unfold X;lia
  ·have:=u j hj (by lia)
   rw[fC,Bool.eq_false_iff]
   intro q
   rw[cY (by lia)]at q
   unfold X at q;lia
 rw[this]
theorem M6{a:Perm}(ha:aw a)(u:p9 a 15):row a=[]:=by
 rw[vq ha]
 have:(List.range 15).find? (fun i=>cross a (i,i+1))=none:=by
  rw[List.find?_eq_none]
  intro j hj q
  have hj:=a6.mp hj
  have:=u j hj hj
  rw[cY (by lia)]at q
  unfold X at q;lia
 rw[this]
theorem M7{a:Perm}(ha:aw a){i:Nat}(hi:i<15)(u:p9 a i):p9 (exchanged i a) (i - 1):=by
 intro j hj h15
 have:=u j (by lia) h15
 rw[jW (by lia),jW (by lia),ae (by lia),ae (by lia),ae (by lia),ae (by lia)]
 exact this
theorem yV:∀(k:Nat) {a:Perm},aw a->size a<=k->follow (row a)=a
 |k,a,ha,h=>by
  rw[vq ha]
  split
  ·rename_i e
   rw[sq]
   symm
   apply ye ha
   intro i hi
   have:=List.find?_eq_none.mp e i (a6.mpr hi)
   rw[cY (by lia)]at this
   have:=ha.ne (show i<16 by lia) (show i+1<16 by lia) (by lia)
   unfold X at *; lia
  ·rename_i i e
   have hi:i<15:=a6.mp (qX e)
   have c:=qY e
   rw[cY (by lia)]at c
   have lt:=nT ha hi c
   rw[EE hi]
   cases k with
   |zero=>lia
   |succ k=>
    rw[yV k (vt ha hi) (by lia),iU hi]
    have:=dk (iT hi) ha
    rwa[sk hi]at this
theorem jx{n:Nat}{c:Int}:crossing n c=true↔1<=c.natAbs/\c.natAbs<n:=by
 unfold crossing;rw[br,gL,gL];lia
theorem yW(w:Row)(c:Int):follow (w++[c])=if crossing 16 c=true then then_ (follow w) (single (c.natAbs - 1)) else follow w:=by
 rw[pV]
 split
 ·rename_i h
  rw[jx]at h
  congr 1
  refine dG (bK _) (bK _) fun i hi=>?_
  rw[js hi,sj (by lia) hi]
  show swapped c i=_
  unfold swapped WIDE
  rw[af (jx.mpr h)]
  rw[show c.natAbs - 1+1=c.natAbs by lia]
 ·rename_i h
  have:follow [c]=still:=dG (bK _) (bK _) fun i hi=>by
   rw[js hi,eT hi]
   show swapped c i=i
   unfold swapped WIDE
   rw[ae h]
  rw[this,dH (gR w)]
theorem yX{p:Perm}(hp:aw p){i:Nat}(hi:i<15):back (then_ p (single i))=exchanged i (back p):=by
 have hs:=iT hi
 have hq:=hp.then_ hs
 refine jq hq hq.back (vt hp.back hi) ?_
 rw[jV hq,iU hi,then_assoc hp,<-then_assoc hs]
 have:then_ (single i) (single i)=still:=by
  have:=jV hs
  rwa[sk hi]at this
 rw[this,gg hp.back,jV hp]
theorem Fp(a:Perm)(hl:a.length=16):crossings a=((List.range 16).map fun k=>(a.drop (k+1)).countP fun x=>decide (x<at_ a k)).sum:=by
 unfold crossings
 rw[<-iH,yT]
 congr 1
 apply gX
 intro i hi
 rw[Fk,hl]
 rfl
noncomputable def bit(b:Bool):Nat:=if b=true then 1 else 0
noncomputable def p_(f:Nat->Bool):Nat->Nat
 |0=>0
 |k+1=>2 * p_ f k+bit (f (14 - k))
theorem M8(f:Nat->Bool):p_ f 15=mask f:=by
 have hb:∀(m i:Nat),(if f i=true then m+2 ^ i else m)=m+bit (f i) * 2 ^ i:=fun m i=>by
  unfold bit;split<;>simp
 unfold mask
 simp only [hb]
 simp only [List.range,List.range.loop,gK,List.foldl_nil,p_,Nat.reduceSub]
 lia
theorem Fq{a b:Perm}:begins a b=true↔∀i j,i<j->j<16->X a i j->X b i j:=by
 unfold begins
 rw[mq]
 constructor
 ·intro h i j hij hj x
  have:=h (i,j) (nS.mpr ⟨hij,hj⟩)
  rw[mv,fC,<-o_,cY hij,cY hij]at this
  exact this.resolve_left fun z=>z x
 ·rintro h ⟨i,j⟩ hx
  obtain⟨hij,hj⟩:=nS.mp hx
  rw[mv,fC,<-o_,cY hij,cY hij]
  by_cases x:X a i j
  ·exact .inr (h i j hij hj x)
  ·exact .inl x
end BB
end
section
namespace BB
open Wqaraq
theorem M9{c p q:Perm}(hc:aw c)(hp:aw p)(hq:aw q)(rp:Red c p)(rq:Red c q):meetOf (then_ c p) (then_ c q)=then_ c (meetOf p q):=by
 have g:=eD hp hq
 have G:=eD (hc.then_ hp) (hc.then_ hq)
 refine vf (hc.then_ hp) (hc.then_ hq) ⟨hc.then_ g.aa,iS hc g.aa hp g.left rp,iS hc g.aa hq g.right rq,fun x hx h1 h2=>?_⟩
 have cm:Le c (meetOf (then_ c p) (then_ c q)):=G.most c hc (rp.le hc hp) (rq.le hc hq)
 have hw:=hc.back.then_ G.aa
 have rw_:=cm.red hc G.aa
 have ew:=dk hc G.aa
 have w1:Le (then_ (back c) (meetOf (then_ c p) (then_ c q))) p:=mK hc hw hp rw_ rp (by rw[ew];exact G.left)
 have w2:Le (then_ (back c) (meetOf (then_ c p) (then_ c q))) q:=mK hc hw hq rw_ rq (by rw[ew];exact G.right)
 have w3:=iS hc hw g.aa (g.most _ hw w1 w2) (nP hc g.left rp)
 rw[ew]at w3
 exact(G.most x hx h1 h2).trans w3
theorem mR{a:Perm}(ha:aw a)(h:Le a still):a=still:=Le.antisymm ha dO h Le.still
section
variable{n:Nat}(hn:n<=16)
include hn
theorem Fs{c d:Perm}(hc:Rt n c)(hd:Rt n d)(h:Le c d):rest n (then_ (back c) d)=then_ (rest n d) (turned n c)/\Red (rest n d) (turned n c):=by
 have hD:=(bX hn).aa
 constructor
 ·have he:=hc.aa.back.then_ hd.aa
  refine jq he ((hc.back.then_ hd).rest hn).aa ((hd.rest hn).aa.then_ (cG hn hc).aa) ?_
  rw[kC hn (hc.back.then_ hd),<-then_assoc he,show then_ (then_ (back c) d) (rest n d)=then_ (back c) (delta n) by rw[then_assoc hc.aa.back,kC hn hd]]
  rw[kE hn hc,then_assoc hc.aa.back,<-then_assoc hD,<-then_assoc hD,ju hn,gg hc.aa,<-then_assoc hc.aa.back,rZ hc.aa,gg hD]
 ·rw[eE hn (hd.rest hn) (cG hn hc),mM hn hd]
  exact nY hn hc hd h
theorem Ft{a b:Perm}(ha:Rt n a)(hb:Rt n b)(h:meetOf a b=still):meetOf (turned n a) (turned n b)=still:=by
 have ta:=cG hn ha
 have tb:=cG hn hb
 have g:=eD ta.aa tb.aa
 have hz:Rt n (meetOf (turned n a) (turned n b)):=Rt.of_le g.aa ta g.left
 have h1:=nY hn hz ta g.left
 have h2:=nY hn hz tb g.right
 rw[jZ hn ha]at h1
 rw[jZ hn hb]at h2
 have h3:=(eD ha.aa hb.aa).most _ (cG hn hz).aa h1 h2
 rw[h]at h3
 have h4:=mR (cG hn hz).aa h3
 rw[<-jZ hn hz,h4,kF hn]
theorem Fu{a b m f:Perm}(ha:Rt n a)(hb:Rt n b)(hm:Rt n m)(hf:Rt n f)(ab:hand n a b=still)(bm:Red b m)(mf:Red m f)(h:hand n (then_ b m) f=still):
  hand n (then_ (back (hand n a (then_ b m))) (then_ b m)) f=still:=by
 have h1:=hb.then_ hm
 have hk:=dq hn ha h1
 have kl:=gD hn ha h1
 have kr:=gh hn ha h1
 generalize hand n a (then_ b m)=k at *
 have h2:=hk.back.then_ h1
 have hx:=dq hn h2 hf
 have xl:=gD hn h2 hf
 have xr:=gh hn h2 hf
 generalize hand n (then_ (back k) (then_ b m)) f=x at *
 have R:=(h1.rest hn).aa
 have bl:Le b (then_ b m):=bm.le hb.aa hm.aa
 have e1:=Fs hn hk h1 kl
 have e2:=Fs hn hb h1 bl
 rw[yc hb.aa hm.aa]at e2
 have x1:=(eE hn h2 hx).mp xr
 have x2:=(eE hn hm hx).mp (nP hm.aa xl mf)
 rw[e1.1]at x1
 rw[e2.1]at x2
 have kb:meetOf k b=still:=by
  have g:=eD hk.aa hb.aa
  refine mR g.aa ?_
  rw[<-ab]
  exact jt hn ha hb g.aa g.right (nP ha.aa g.left kr)
 have x3:=(eD (R.then_ (cG hn hk).aa) (R.then_ (cG hn hb).aa)).most x hx.aa x1 x2
 rw[M9 R (cG hn hk).aa (cG hn hb).aa e1.2 e2.2,Ft hn hk hb kb,dH R]at x3
 have x4:=jt hn h1 hf hx.aa xl ((eE hn h1 hx).mpr x3)
 rw[h]at x4
 exact mR hx.aa x4
structure kI(n:Nat)(a b m:Perm):Prop where
 rt:Rt n m
 le:Le m b
 red:Red a m
theorem M_{a b:Perm}(ha:Rt n a):kI n a b still:=⟨jX,Le.still,pR ha.aa⟩
theorem kI.step{a b m:Perm}(ha:Rt n a)(hb:Rt n b)(h:kI n a b m){i:Nat}(hi:i<15)(h1:at_ (back (then_ a m)) i<at_ (back (then_ a m)) (i+1))(h2:at_ (then_ (back m) b) (i+1)<at_ (then_ (back m) b) i):
  kI n a b (then_ m (single i))/\back (then_ a (then_ m (single i)))=exchanged i (back (then_ a m))/\then_ (back (then_ m (single i))) b=exchanged i (then_ (back m) b):=by
 have hs:=iT hi
 have hm:=h.rt.aa
 have ham:=ha.aa.then_ hm
 have hl:=hm.back.then_ hb.aa
 have sl:Le (single i) (then_ (back m) b):=(pU hi).mpr (.inl ⟨by lia,h2⟩)
 have mb:=h.le.red hm hb.aa
 have le:Le (then_ m (single i)) b:=by
  have:=iS hm hs hl sl mb
  rwa[dk hm hb.aa]at this
 have r1:Red (then_ a m) (single i):=by
  intro p q hp hq x y
  rw[vd hi (ham.lt p hp) (ham.lt q hq)]at y
  have b1:=hU ham hp
  have b2:=hU ham hq
  rcases y with ⟨y1,y2⟩|⟨y1,y2⟩
  ·rw[y1]at b1;rw[y2]at b2
   rw[b1,b2]at h1
   unfold X at x;lia
  ·rw[y2]at b1;rw[y1]at b2
   rw[b1,b2]at h1
   unfold X at x;lia
 have r2:=((h.red.assoc ha.aa hm hs).mp r1).2
 refine⟨⟨Rt.of_le (hm.then_ hs) hb le,le,r2⟩,?_,?_⟩
 ·rw[<-then_assoc ha.aa,yX ham hi]
 ·rw[iU hi,yX hm hi,iU hi,then_assoc hs]
theorem kI.done{a b m:Perm}(ha:Rt n a)(hb:Rt n b)(h:kI n a b m)(k:∀i,i<15->¬(at_ (back (then_ a m)) i<at_ (back (then_ a m)) (i+1)/\at_ (then_ (back m) b) (i+1)<at_ (then_ (back m) b) i)):hand n a b=m:=by
 have hm:=h.rt.aa
 have hh:=dq hn ha hb
 have ml:=jt hn ha hb hm h.le h.red
 have hw:=hm.back.then_ hh.aa
 have ew:=dk hm hh.aa
 have mr:=ml.red hm hh.aa
 by_cases e:then_ (back m) (hand n a b)=still
 ·rw[e,dH hm]at ew
  exact ew.symm
 ·obtain⟨i,hi,x⟩:=yf hw e
  have hs:=iT hi
  have sw:=(pU hi).mpr x
  refine absurd ?_ (k i hi)
  have wl:Le (then_ (back m) (hand n a b)) (then_ (back m) b):=mK hm hw (hm.back.then_ hb.aa) mr (h.le.red hm hb.aa) (by rw[ew,dk hm hb.aa];exact gD hn ha hb)
  have x2:=wl i (i+1) (by lia) (by lia) x
  have r1:Red (then_ a m) (then_ (back m) (hand n a b)):=(h.red.assoc ha.aa hm hw).mpr ⟨mr,by rw[ew];exact gh hn ha hb⟩
  have ham:=ha.aa.then_ hm
  have bi:=lM ham (show i<16 by lia)
  have bj:=lM ham (show i+1<16 by lia)
  have hne:at_ (back (then_ a m)) i≠at_ (back (then_ a m)) (i+1):=ham.back.ne (by lia) (by lia) (by lia)
  constructor
  ·have:=r1 _ _ bi.1 bj.1
   rw[bi.2,bj.2]at this
   have nx:¬X (then_ a m) (at_ (back (then_ a m)) i) (at_ (back (then_ a m)) (i+1)):=fun q=>this q x
   unfold X at nx
   rw[bi.2,bj.2]at nx
   lia
  ·unfold X at x2;lia
end
noncomputable def ig(A L:Perm)(j:Nat):Prop:=¬(at_ A j<at_ A (j+1)/\at_ L (j+1)<at_ L j)
structure kJ(A L:Perm)(i to:Nat):Prop where
 le:to<=i
 below:∀j,j+1<to->ig A L j
 above:∀j,to<=j->j<i->ig A L j
 over:0<to->to<i->¬(at_ A (to - 1)<at_ A (to+1)/\at_ L (to+1)<at_ L (to - 1))
theorem kJ.start{A L:Perm}{i:Nat}(h:∀j,j+1<i->ig A L j):kJ A L i i:=⟨aX _,h,fun j h1 h2=>by lia,fun _ h=>by lia⟩
theorem kJ.step{A L:Perm}{i to:Nat}(hi:i<16)(h:kJ A L i to)(t:0<to)(h1:at_ A (to - 1)<at_ A to):kJ (exchanged (to - 1) A) (exchanged (to - 1) L) i (to - 1):=by
 have le:=h.le
 have ea:∀j,j<16->at_ (exchanged (to - 1) A) j=if j=to - 1 then at_ A to else if j=to then at_ A (to - 1) else at_ A j:=fun j hj=>by
  rw[jW hj,show to - 1+1=to by lia]
 have el:∀j,j<16->at_ (exchanged (to - 1) L) j=if j=to - 1 then at_ L to else if j=to then at_ L (to - 1) else at_ L j:=fun j hj=>by
  rw[jW hj,show to - 1+1=to by lia]
 refine⟨by lia,fun j hj=>?_,fun j hj hj2=>?_,fun h0 h2=>?_⟩
 ·have:=h.below j (by lia)
  unfold ig at this ⊢
  rw[ea j (by lia),ea (j+1) (by lia),el j (by lia),el (j+1) (by lia)]
  rw[ae (by lia),ae (by lia),ae (by lia),ae (by lia),ae (by lia),ae (by lia),ae (by lia),ae (by lia)]
  exact this
 ·unfold ig
  rw[ea j (by lia),ea (j+1) (by lia),el j (by lia),el (j+1) (by lia)]
  by_cases c1:j=to - 1
  ·rw[af c1,ae (by lia),af (by lia)]
   lia
  ·by_cases c2:j=to
   ·have:=h.over t (by lia)
    subst c2
    rw[ae (by lia),af rfl,ae (by lia),ae (by lia),ae (by lia),af rfl,ae (by lia),ae (by lia)]
    exact this
   ·have:=h.above j (by lia) hj2
    unfold ig at this
    rw[ae c1,ae c2,ae (by lia),ae (by lia),ae c1,ae c2,ae (by lia),ae (by lia)]
    exact this
 ·rw[ea _ (by lia),ea _ (by lia),el _ (by lia),el _ (by lia)]
  have:=h.below (to - 1 - 1) (by lia)
  unfold ig at this
  rw[show to - 1 - 1+1=to - 1 by lia]at this
  rw[ae (by lia),ae (by lia),ae (by lia),af (by lia),ae (by lia),af (by lia),ae (by lia),ae (by lia)]
  exact this
theorem kJ.done{A L:Perm}{i to:Nat}(h:kJ A L i to)(k:0<to->ig A L (to - 1)):∀j,j<i->ig A L j:=fun j hj=>by
 by_cases c1:j+1<to
 ·exact h.below j c1
 ·by_cases c2:to<=j
  ·exact h.above j c2 hj
  ·have:j=to - 1:=by lia
   rw[this];exact k (by lia)
theorem j2{a:Perm}{i j v:Nat}(h:i<a.length):at_ (a.set i v) j=if j=i then v else at_ a j:=by
 unfold at_
 rw[eg,eg,rd]
 by_cases e:i=j
 ·subst e;simp[h]
 ·rw[ae e,ae (fun q=>e q.symm)]
theorem Fv{a:Perm}{to v:Nat}(hl:a.length=16)(h:0<to)(h2:to<16):((a.set to (at_ a (to - 1))).set (to - 1) v)=exchanged (to - 1) (a.set to v):=by
 refine dG (by simp[hl]) (bK _) fun j hj=>?_
 have e:∀k,at_ (a.set to v) k=if k=to then v else at_ a k:=fun k=>j2 (by lia)
 have e2:∀k,at_ (a.set to (at_ a (to - 1))) k=if k=to then at_ a (to - 1) else at_ a k:=fun k=>j2 (by lia)
 rw[jW hj,j2 (by rw[gw];lia),e2,e,e,e,show to - 1+1=to by lia]
 by_cases c1:j=to - 1
 ·rw[af c1,af c1,af rfl]
 ·rw[ae c1,ae c1]
  by_cases c2:j=to
  ·rw[af c2,af c2,ae (by lia)]
  ·rw[ae c2,ae c2,ae c2]
end BB
end
section
namespace BB
open Wqaraq
noncomputable def Gr(n:Nat):List Perm->Prop
 |a::b::r=>hand n a b=still/\Gr n (b::r)
 |_=>True
theorem n6{n:Nat}:∀{l:List Perm},Gr n l->d6 l->Nf n l
 |[],_,_=>trivial
 |[a],_,s=>s a bE
 |a::b::r,g,s=>⟨s a bE,g.1,n6 g.2 fun x hx=>s x (bI _ hx)⟩
theorem jy{n:Nat}:∀{l:List Perm},Nf n l->Gr n l/\d6 l
 |[],_=>⟨trivial,fun x h=>by cases h⟩
 |[a],h=>⟨trivial,fun x hx=>by rw[gz.mp hx];exact h⟩
 |a::b::r,h=>⟨⟨h.2.1,(jy h.2.2).1⟩,fun x hx=>by
   rcases bY.mp hx with e|hx
   ·rw[e];exact h.1
   ·exact(jy h.2.2).2 x hx⟩
theorem Gr.tail{n:Nat}{a:Perm}{l:List Perm}(h:Gr n (a::l)):Gr n l:=by
 cases l with
 |nil=>trivial
 |cons b r=>exact h.2
theorem yY{n:Nat}:∀{l m:List Perm},Gr n l->Gr n m->(∀a b,l.getLast? =some a->m.head? =some b->hand n a b=still)->Gr n (l++m)
 |[],m,_,h,_=>h
 |[a],[],_,_,_=>trivial
 |[a],b::r,_,h,k=>⟨k a b rfl rfl,h⟩
 |a::b::r,m,g,h,k=>⟨g.1,yY (l:=b::r) g.2 h fun x y hx hy=>k x y (by rw[List.getLast?_cons_cons];exact hx) hy⟩
theorem vv{n:Nat}:∀{l m:List Perm},Gr n (l++m)->Gr n l
 |[],_,_=>trivial
 |[a],_,_=>trivial
 |a::b::r,m,g=>⟨g.1,vv (l:=b::r) (m:=m) g.2⟩
theorem Fw{n:Nat}:∀{l m:List Perm}{a b:Perm},Gr n (l++a::b::m)->hand n a b=still
 |[],_,_,_,g=>g.1
 |a::r,m,_,_,g=>Fw (l:=r) (m:=m) (Gr.tail (l:=r++_::_::m) g)
noncomputable def trim(l:List Perm):List Perm:=if l.getLast? =some still then l.dropLast else l
theorem sR{l:List Perm}{a:Perm}:trim (l++[a])=if a=still then l else l++[a]:=by
 unfold trim
 rw[List.getLast?_append,List.getLast?_singleton,Option.some_or]
 by_cases e:a=still
 ·rw[af (by rw[e]),af e,xp]
 ·rw[ae (fun q=>e (bo q)),ae e]
theorem Fx(l:List Perm):(l=[]/\trim l=[])\/(∃m,l=m++[still]/\trim l=m)\/(∃m a,a≠still/\l=m++[a]/\trim l=l):=by
 rcases xt l with e|⟨m,a,e⟩
 ·exact .inl ⟨e,by rw[e];rfl⟩
 ·rw[xu]at e
  by_cases h:a=still
  ·exact .inr (.inl ⟨m,by rw[e,h],by rw[e,sR,af h]⟩)
  ·exact .inr (.inr ⟨m,a,h,e,by rw[e,sR,ae h]⟩)
theorem yZ{l:List Perm}:∀x,x∈trim l->x∈l:=by
 intro x hx
 unfold trim at hx
 split at hx
 ·exact(List.dropLast_sublist _).subset hx
 ·exact hx
section
variable{n:Nat}(hn:n<=16)
include hn
theorem Fy{l:List Perm}(h:ah n l):nf n (trim l)=nf n l:=by
 rcases Fx l with ⟨e,e2⟩|⟨m,e,e2⟩|⟨m,a,_,_,e2⟩
 ·rw[e2,e]
 ·rw[e2,e]
  unfold nf
  rw[nW]
  show act n m []=act n m (ins n still [])
  rw[nU hn ah.nil]
 ·rw[e2]
theorem Fz{l:List Perm}(g:Gr n l)(s:d6 l.dropLast):Nf n (trim l):=by
 rcases Fx l with ⟨e,e2⟩|⟨m,e,e2⟩|⟨m,a,ha,e,e2⟩
 ·rw[e2];trivial
 ·rw[e2]
  rw[e]at g s
  rw[xp]at s
  exact n6 (vv g) s
 ·rw[e2]
  refine n6 g ?_
  rw[e]at s ⊢
  rw[xp]at s
  intro x hx
  rcases dU.mp hx with hx|hx
  ·exact s x hx
  ·rw[gz.mp hx];exact ha
theorem FC{l:List Perm}(h:ah n l):ah n (trim l):=fun x hx=>h x (yZ x hx)
theorem y3:∀{l:List Perm},ah n l->Gr n l->Gr n (tl n l)
 |[],_,_=>trivial
 |[a],_,_=>trivial
 |a::b::r,h,g=>⟨by rw[yF hn h.head h.tail.head,g.1,kF hn],y3 (l:=b::r) h.tail g.2⟩
end
noncomputable def cu(n:Nat):List Perm->Perm->List Perm->List Perm×Perm×List Perm
 |[],c,s=>([],c,s)
 |a::r,c,s=>if c=delta n then (a::r,c,s) else if hand n a c=still then (a::r,c,s) else cu n r (then_ a (hand n a c)) (then_ (back (hand n a c)) c::s)
noncomputable def qc(n:Nat)(l:List Perm):Prop:=∀x,x∈l->x≠delta n
structure Tk(n:Nat)(l0:List Perm)(r:List Perm)(c:Perm)(s:List Perm):Prop where
 all:ah n (r.reverse++c::s)
 same:nf n (r.reverse++c::s)=nf n l0
 gr:Gr n r.reverse
 ns:d6 r
 nd:qc n r
 y4:qc n s
 y6:Gr n s
 y8:d6 s.dropLast
 at_:s=[]\/∃b m f s',s=f::s'/\Rt n b/\Rt n m/\b≠still/\m≠still/\c=then_ b m/\Red b m/\Red m f/\hand n c f=still/\∀a r',r=a::r'->hand n a b=still
section
variable{n:Nat}(hn:n<=16)
include hn
theorem FD{m:Perm}(hm:Rt n m)(r:Red m (delta n)):m=still:=by
 have h:=(eE hn hm (bX hn)).mp r
 have e:rest n m=delta n:=Le.antisymm (hm.rest hn).aa (bX hn).aa (hm.rest hn).pX h
 have:=kC hn hm
 rw[e]at this
 refine jq (bX hn).aa.back hm.aa dO ?_ |> fun z=>z
 all_goals skip
 have h2:then_ (then_ m (delta n)) (back (delta n))=then_ (delta n) (back (delta n)):=by rw[this]
 rw[then_assoc hm.aa,jV (bX hn).aa,dH hm.aa]at h2
 rw[h2]
theorem Tk.step{l0 r s:List Perm}{a c:Perm}(h:Tk n l0 (a::r) c s)(hc:c≠delta n)(k:hand n a c≠still):Tk n l0 r (then_ a (hand n a c)) (then_ (back (hand n a c)) c::s):=by
 have all:=h.all
 rw[my,dM]at all
 have hr:ah n r.reverse:=fun x hx=>all x (jF _ hx)
 have ha:Rt n a:=all a (d_ _ (jF _ bE))
 have hcr:Rt n c:=all c (d_ _ (d_ _ bE))
 have hs:ah n s:=fun x hx=>all x (d_ _ (d_ _ (bI _ hx)))
 have hm:=dq hn ha hcr
 have ml:=gD hn ha hcr
 have mr:=gh hn ha hcr
 have hl:=jY hn ha hcr
 have rl:=ml.red hm.aa hcr.aa
 have hst:hand n (then_ a (hand n a c)) (then_ (back (hand n a c)) c)=still:=by
  have hx:=dq hn (ha.then_ hm) hl
  have xl:=gD hn (ha.then_ hm) hl
  have xr:=gh hn (ha.then_ hm) hl
  generalize hand n (then_ a (hand n a c)) (then_ (back (hand n a c)) c)=x at *
  have r2:=(mr.assoc ha.aa hm.aa hx.aa).mp xr
  have l2:=iS hm.aa hx.aa hl.aa xl rl
  rw[dk hm.aa hcr.aa]at l2
  have l3:=jt hn ha hcr (hm.aa.then_ hx.aa) l2 r2.2
  have l4:Le (then_ (hand n a c) x) (then_ (hand n a c) still):=by rw[dH hm.aa];exact l3
  exact mR hx.aa (mK hm.aa hx.aa dO r2.1 (pR hm.aa) l4)
 have ndl:then_ (back (hand n a c)) c≠delta n:=fun e=>k (FD hn hm (by rw[<-e];exact rl))
 have na:a≠still:=h.ns a bE
 refine⟨?_,?_,?_,fun x hx=>h.ns x (bI _ hx),fun x hx=>h.nd x (bI _ hx),?_,?_,?_,?_⟩
 ·exact ah.append hr (ah.cons (ha.then_ hm) (ah.cons hl hs))
 ·rw[<-h.same,my,dM]
  unfold nf
  rw[nW,nW]
  congr 1
  show ins n (then_ a (hand n a c)) (ins n (then_ (back (hand n a c)) c) (act n s []))=ins n a (ins n c (act n s []))
  exact yr hn ha hcr hm (lP hn hs ah.nil) ml mr
 ·have:=h.gr
  rw[my]at this
  exact vv this
 ·intro x hx
  rcases bY.mp hx with e|hx
  ·rw[e];exact ndl
  ·exact h.y4 x hx
 ·cases s with
  |nil=>trivial
  |cons f s'=>
   refine⟨?_,h.y6⟩
   rcases h.at_ with e|⟨b,m,f',s'',e,hb,hmm,nb,nm,ec,bm,mf,cf,ab⟩
   ·cases e
   ·obtain⟨rfl,rfl⟩:=mw e
    have:=Fu hn ha hb hmm (hs f bE) (ab a r rfl) bm mf (by rw[<-ec];exact cf)
    rwa[<-ec]at this
 ·cases s with
  |nil=>intro x hx;cases hx
  |cons f s'=>
   intro x hx
   rw[List.dropLast_cons_of_ne_nil (by simp)]at hx
   rcases bY.mp hx with e|hx
   ·rw[e]
    intro e2
    rcases h.at_ with e3|⟨b,m,f',s'',e3,hb,hmm,nb,nm,ec,bm,mf,cf,ab⟩
    ·cases e3
    ·have ek:hand n a c=c:=by
      have:=dk hm.aa hcr.aa
      rw[e2,dH hm.aa]at this
      exact this
     rw[ek]at mr
     have bl:Le b c:=by rw[ec];exact bm.le hb.aa hmm.aa
     have:=yq hn ha hb (nP ha.aa bl mr)
     rw[ab a r rfl]at this
     exact nb this.symm
   ·exact h.y8 x hx
 ·refine .inr ⟨a,hand n a c,_,s,rfl,ha,hm,na,k,rfl,mr,rl,hst,fun a' r' e=>?_⟩
  have:=h.gr
  rw[e,my,my,dM]at this
  exact Fw this
structure Stop(n:Nat)(l0:List Perm)(z:List Perm×Perm×List Perm):Prop where
 tk:Tk n l0 z.1 z.2.1 z.2.2
 why:z.2.1=delta n\/(z.2.1≠delta n/\∀a r,z.1=a::r->hand n a z.2.1=still)
theorem FE{l0:List Perm}:∀{r:List Perm}{c:Perm}{s:List Perm},Tk n l0 r c s->Stop n l0 (cu n r c s)
 |[],c,s,h=>⟨h,(Classical.em (c=delta n)).imp id fun e=>⟨e,fun a r q=>by cases q⟩⟩
 |a::r,c,s,h=>by
  unfold cu
  by_cases e:c=delta n
  ·rw[af e];exact⟨h,.inl e⟩
  ·rw[ae e]
   by_cases k:hand n a c=still
   ·rw[af k]
    exact⟨h,.inr ⟨e,fun a' r' q=>by obtain⟨rfl,rfl⟩:=mw q;exact k⟩⟩
   ·rw[ae k]
    exact FE (h.step hn e k)
noncomputable def cJ(n:Nat)(k:Int)(z:List Perm×Perm×List Perm):Form:=if z.2.1=delta n then ⟨k+1,trim (tl n z.1.reverse++z.2.2)⟩ else ⟨k,trim (z.1.reverse++z.2.1::z.2.2)⟩
structure Fm(n:Nat)(l:List Perm):Prop where
 all:ah n l
 nf:Nf n l
 nd:qc n l
theorem Fm.cz{l:List Perm}{k:Int}(h:Fm n l):bh n ⟨k,l⟩:=by
 refine⟨h.all,?_⟩
 unfold aO
 show strip n k (BB.nf n l)=_
 rw[lQ hn h.all h.nf]
 cases l with
 |nil=>exact strip_nil
 |cons a r=>exact ES (h.nd a bE)
omit hn in
theorem y9{r:List Perm}{a:Perm}(h:r.reverse.getLast? =some a):∃r',r=a::r':=by
 rw[List.getLast?_reverse]at h
 cases r with
 |nil=>cases h
 |cons b r'=>exact⟨r',by rw[bo h]⟩
theorem Na(h2:2<=n){l0:List Perm}{k:Int}{z:List Perm×Perm×List Perm}(h:Stop n l0 z)(hl0:ah n l0):Fm n (cJ n k z).factors/\aO n ⟨k,l0⟩=cJ n k z:=by
 obtain⟨r,c,s⟩:=z
 obtain⟨t,why⟩:=h
 dsimp only at t why
 have all:=t.all
 have hr:ah n r.reverse:=fun x hx=>all x (jF _ hx)
 have hcr:Rt n c:=all c (d_ _ bE)
 have hs:ah n s:=fun x hx=>all x (d_ _ (bI _ hx))
 have same:∀k,aO n ⟨k,l0⟩=aO n ⟨k,r.reverse++c::s⟩:=fun k=>by
  unfold aO
  show strip n k (nf n l0)=strip n k (nf n (r.reverse++c::s))
  rw[t.same]
 unfold cJ
 dsimp only
 by_cases e:c=delta n
 ·rw[af e]
  have g:Gr n (tl n r.reverse++s):=by
   refine yY (y3 hn hr t.gr) t.y6 fun a b h1 h3=>?_
   unfold tl at h1
   rw[List.getLast?_map]at h1
   cases q:r.reverse.getLast? with
   |none=>rw[q]at h1;cases h1
   |some a'=>
    rw[q]at h1
    have ea:turned n a'=a:=bo h1
    obtain⟨r',er⟩:=y9 q
    have ha':Rt n a':=hr a' (List.mem_of_getLast? q)
    rcases t.at_ with e3|⟨b',m,f',s'',e3,hb,hmm,nb,nm,ec,bm,mf,cf,ab⟩
    ·rw[e3]at h3;cases h3
    ·rw[e3]at h3
     have:f'=b:=bo h3
     subst this
     have d:=Fu hn ha' hb hmm (hs f' (by rw[e3];exact bE)) (ab a' r' er) bm mf (by rw[<-ec];exact cf)
     rw[<-ec,e]at d
     have hd:=bX hn
     have e1:hand n a' (delta n)=rest n a':=mL hn ha' hd (ha'.rest hn).aa (ha'.rest hn).pX ((eE hn ha' (ha'.rest hn)).mpr (Le.refl _)) fun x hx _ xr=>(eE hn ha' hx).mp xr
     rw[e1]at d
     rw[show then_ (back (rest n a')) (delta n)=a by rw[<-ea,<-mM hn ha'];rfl]at d
     exact d
  have nsd:d6 (tl n r.reverse++s).dropLast:=by
   cases s with
   |nil=>
    rw[fB]
    intro x hx
    obtain⟨y,hy,rfl⟩:=bZ.mp ((List.dropLast_sublist _).subset hx)
    intro e5
    refine t.ns y (kg.mp hy) (nX hn (hr y hy) jX ?_)
    rw[e5,kF hn]
   |cons f s'=>
    rw[List.dropLast_append_of_ne_nil (by simp)]
    intro x hx
    rcases dU.mp hx with hx|hx
    ·obtain⟨y,hy,rfl⟩:=bZ.mp hx
     intro e5
     refine t.ns y (kg.mp hy) (nX hn (hr y hy) jX ?_)
     rw[e5,kF hn]
    ·exact t.y8 x hx
  have al:ah n (tl n r.reverse++s):=ah.append (mN hn hr) hs
  have F:Fm n (trim (tl n r.reverse++s)):=by
   refine⟨FC hn al,Fz hn g nsd,fun x hx=>?_⟩
   rcases dU.mp (yZ x hx) with hx|hx
   ·obtain⟨y,hy,rfl⟩:=bZ.mp hx
    intro e5
    refine t.nd y (kg.mp hy) (nX hn (hr y hy) (bX hn) ?_)
    rw[e5,sI hn]
   ·exact t.y4 x hx
  refine⟨F,?_⟩
  rw[same k,e,<-(F.cz hn (k:=k+1)).nf]
  have:=vn hn h2 1 (k:=k) (l:=r.reverse) (m:=s) hr hs
  rw[show r.reverse++(List.replicate 1 (delta n)++s)=r.reverse++delta n::s from rfl]at this
  rw[this]
  unfold aO
  show strip n (k+1) (nf n (tw n 1 r.reverse++s))=strip n (k+1) (nf n (trim (tl n r.reverse++s)))
  rw[Fy hn al]
  rfl
 ·rw[ae e]
  have hp:∀a r',r=a::r'->hand n a c=still:=by
   rcases why with q|q
   ·exact absurd q e
   ·exact q.2
  have g:Gr n (r.reverse++c::s):=by
   refine yY t.gr ?_ fun a b h1 h3=>?_
   ·cases s with
    |nil=>trivial
    |cons f s'=>
     refine⟨?_,t.y6⟩
     rcases t.at_ with e3|⟨b',m,f',s'',e3,hb,hmm,nb,nm,ec,bm,mf,cf,ab⟩
     ·cases e3
     ·obtain⟨rfl,rfl⟩:=mw e3
      exact cf
   ·obtain⟨r',er⟩:=y9 h1
    have:c=b:=bo h3
    rw[<-this]
    exact hp a r' er
  have nsd:d6 (r.reverse++c::s).dropLast:=by
   rw[List.dropLast_append_of_ne_nil (by simp)]
   intro x hx
   rcases dU.mp hx with hx|hx
   ·exact t.ns x (kg.mp hx)
   ·cases s with
    |nil=>cases hx
    |cons f s'=>
     rw[List.dropLast_cons_of_ne_nil (by simp)]at hx
     rcases bY.mp hx with q|hx
     ·rcases t.at_ with e3|⟨b',m,f',s'',e3,hb,hmm,nb,nm,ec,bm,mf,cf,ab⟩
      ·cases e3
      ·rw[q,ec]
       exact fun z=>nm (bm.vh hb.aa hmm.aa z).2
     ·exact t.y8 x hx
  have F:Fm n (trim (r.reverse++c::s)):=by
   refine⟨FC hn all,Fz hn g nsd,fun x hx=>?_⟩
   rcases dU.mp (yZ x hx) with hx|hx
   ·exact t.nd x (kg.mp hx)
   ·rcases bY.mp hx with q|hx
    ·rw[q];exact e
    ·exact t.y4 x hx
  refine⟨F,?_⟩
  rw[same k,<-(F.cz hn (k:=k)).nf]
  unfold aO
  show strip n k (nf n (r.reverse++c::s))=strip n k (nf n (trim (r.reverse++c::s)))
  rw[Fy hn all]
theorem Nb{l:List Perm}{f:Perm}(h:Fm n l)(hf:Rt n f):Tk n (l++[f]) l.reverse f []:=by
 have g:=jy h.nf
 refine⟨?_,by rw[uy],by rw[uy];exact g.1,fun x hx=>g.2 x (kg.mp hx),fun x hx=>h.nd x (kg.mp hx),fun x hx=>(by cases hx),trivial,fun x hx=>(by cases hx),.inl rfl⟩
 rw[uy]
 exact ah.append h.all (ah.cons hf ah.nil)
theorem kK(h2:2<=n){l:List Perm}{f:Perm}{k:Int}(h:Fm n l)(hf:Rt n f):Fm n (cJ n k (cu n l.reverse f [])).factors/\aO n ⟨k,l++[f]⟩=cJ n k (cu n l.reverse f []):=
 Na hn h2 (FE hn (Nb hn h hf)) (ah.append h.all (ah.cons hf ah.nil))
end
end BB
end
section
namespace BB
open Wqaraq
theorem meet_comm{a b:Perm}(ha:aw a)(hb:aw b):meetOf a b=meetOf b a:=by
 have g:=eD hb ha
 exact vf ha hb ⟨g.aa,g.right,g.left,fun x hx h1 h2=>g.most x hx h2 h1⟩
section
variable{n:Nat}(hn:n<=16)
include hn
theorem FF{a:Perm}(ha:Rt n a)(h:rest n a=still):a=delta n:=by
 have:=kC hn ha
 rw[h,dH ha.aa]at this
 exact this
theorem Nc{a:Perm}(ha:Rt n a)(h:rest n a=delta n):a=still:=FD hn ha ((eE hn ha (bX hn)).mpr (by rw[h];exact Le.refl _))
theorem Nd{a:Perm}(ha:Rt n a):hand n a (delta n)=rest n a:=
 mL hn ha (bX hn) (ha.rest hn).aa (ha.rest hn).pX ((eE hn ha (ha.rest hn)).mpr (Le.refl _)) fun x hx _ xr=>(eE hn ha hx).mp xr
theorem y_:∀{l:List Perm}{a:Perm},ah n (a::l)->Gr n (a::l)->a≠delta n->qc n (a::l)
 |[],a,_,_,h=>fun x hx=>by rw[gz.mp hx];exact h
 |b::r,a,hl,g,h=>fun x hx=>by
  rcases bY.mp hx with e|hx
  ·rw[e];exact h
  ·refine y_ hl.tail g.2 (fun e=>h ?_) x hx
   have:=g.1
   rw[e,Nd hn hl.head]at this
   exact FF hn hl.head this
theorem bh.fm{F:Form}(h:bh n F):Fm n F.factors:=by
 obtain⟨k,l⟩:=F
 have hl:ah n l:=h.all
 have e:strip n k (BB.nf n l)=⟨k,l⟩:=h.nf
 obtain⟨j,ej,lj⟩:=vm (n:=n) hn (m:=BB.nf n l)
 unfold strip at e
 rw[lj]at e
 have e1:k+(j:Int)=k:=bQ Form.twists e
 have e2:(BB.nf n l).dropWhile (fun a=>a == delta n)=l:=bQ Form.factors e
 have j0:j=0:=by lia
 rw[e2,j0]at ej
 have en:BB.nf n l=l:=ej
 have hNf:Nf n l:=by rw[<-en];exact su hn hl
 refine⟨hl,hNf,?_⟩
 cases l with
 |nil=>intro x hx;cases hx
 |cons a r=>
  refine y_ hn hl (jy hNf).1 fun q=>?_
  rw[en,q]at lj
  rw[List.takeWhile_cons_of_pos (by simp),bO]at lj
  lia
theorem Fm.tl{l:List Perm}(h:Fm n l):Fm n (tl n l):=by
 have g:=jy h.nf
 refine⟨mN hn h.all,n6 (y3 hn h.all g.1) fun x hx=>?_,fun x hx=>?_⟩
 ·obtain⟨y,hy,rfl⟩:=bZ.mp hx
  intro e5
  exact g.2 y hy (nX hn (h.all y hy) jX (by rw[e5,kF hn]))
 ·obtain⟨y,hy,rfl⟩:=bZ.mp hx
  intro e5
  exact h.nd y hy (nX hn (h.all y hy) (bX hn) (by rw[e5,sI hn]))
theorem Fm.tw{l:List Perm}{k:Int}(h:Fm n l):Fm n (tw n k l):=by
 unfold BB.tw
 split
 ·exact h
 ·exact h.tl hn
theorem Fm.nil:Fm n []:=⟨ah.nil,trivial,fun x hx=>by cases hx⟩
theorem Fm.tail{a:Perm}{l:List Perm}(h:Fm n (a::l)):Fm n l:=⟨h.all.tail,h.nf.tail,fun x hx=>h.nd x (bI _ hx)⟩
noncomputable def takes(n:Nat)(F:Form)(fs:List Perm):Form:=fs.foldl (fun G f=>cJ n G.twists (cu n G.factors.reverse f [])) F
theorem vw(h2:2<=n):∀(fs:List Perm) {F:Form},Fm n F.factors->ah n fs->Fm n (takes n F fs).factors/\takes n F fs=aO n ⟨F.twists,F.factors++fs⟩
 |[],F,h,_=>⟨h,by
   rw[fB]
   exact((h.cz hn (k:=F.twists)).nf).symm⟩
 |f::fs,F,h,hf=>by
  have t:=kK hn h2 (k:=F.twists) h hf.head
  have r:=vw h2 fs (F:=cJ n F.twists (cu n F.factors.reverse f [])) t.1 hf.tail
  refine⟨r.1,?_⟩
  show takes n (cJ n F.twists (cu n F.factors.reverse f [])) fs=_
  rw[r.2]
  have hF:aV n ⟨F.twists,F.factors++[f]⟩:=ah.append h.all (ah.cons hf.head ah.nil)
  have hG:aV n ⟨0,fs⟩:=hf.tail
  have z:=vo hn h2 hF hG
  rw[t.2]at z
  generalize cJ n F.twists (cu n F.factors.reverse f [])=T at *
  have e1:bJ n T ⟨0,fs⟩=⟨T.twists,T.factors++fs⟩:=by unfold bJ;rw[mO hn,mx]
  have e2:bJ n ⟨F.twists,F.factors++[f]⟩ ⟨0,fs⟩=⟨F.twists,F.factors++f::fs⟩:=by unfold bJ;rw[mO hn,mx,dM];rfl
  rw[e1,e2]at z
  exact z
theorem zc(h2:2<=n){F G:Form}(hF:Fm n F.factors)(hG:aV n G):Fm n (takes n ⟨F.twists+G.twists,tw n G.twists F.factors⟩ G.factors).factors/\takes n ⟨F.twists+G.twists,tw n G.twists F.factors⟩ G.factors=product n F G:=by
 have t:=vw hn h2 G.factors (F:=⟨F.twists+G.twists,tw n G.twists F.factors⟩) (hF.tw hn) hG
 exact⟨t.1,by rw[t.2,cH hn hF.all hG];rfl⟩
noncomputable def bC(n:Nat)(p:Int)(a:Perm):Perm:=if p % 2=1 then turned n a else a
noncomputable def gE(n:Nat):Int->List Perm->List Perm
 |_,[]=>[]
 |p,a::r=>bC n p (rest n a)::gE n (p - 1) r
noncomputable def mS(n:Nat)(F:Form):Form:=⟨-(F.twists+F.factors.length),gE n (F.twists+F.factors.length) F.factors.reverse⟩
theorem FG{p:Int}{a:Perm}:tw n p [a]=[bC n p a]:=by
 unfold BB.tw bC BB.tl
 by_cases h:p % 2=0
 ·rw[af h,ae (by lia)]
 ·rw[ae h,af (by lia)];rfl
theorem vx{p:Int}{l:List Perm}:tw n p l=l.map (bC n p):=by
 unfold BB.tw bC BB.tl
 by_cases h:p % 2=0
 ·rw[af h]
  have:∀a:Perm,(if p % 2=1 then turned n a else a)=a:=fun a=>ae (by lia)
  simp only [this,List.map_id']
 ·rw[ae h]
  have:∀a:Perm,(if p % 2=1 then turned n a else a)=turned n a:=fun a=>af (by lia)
  simp only [this]
theorem mT{p:Int}{a:Perm}(h:Rt n a):Rt n (bC n p a):=by
 unfold bC;split
 ·exact cG hn h
 ·exact h
theorem FH{p:Int}{a b:Perm}(ha:Rt n a)(hb:Rt n b)(e:bC n p a=bC n p b):a=b:=by
 unfold bC at e;split at e
 ·exact nX hn ha hb e
 ·exact e
theorem Ng{p:Int}:bC n p still=still:=by unfold bC;split;exact kF hn;rfl
theorem Nh{p:Int}:bC n p (delta n)=delta n:=by unfold bC;split;exact sI hn;rfl
theorem Ni{a b:Perm}{p:Int}(ha:Rt n a)(hb:Rt n b)(h:hand n a b=still):hand n (bC n p (rest n b)) (bC n (p - 1) (rest n a))=still:=by
 have hra:=ha.rest hn
 have hrb:=hb.rest hn
 have base:hand n (rest n b) (turned n (rest n a))=still:=by
  show meetOf (rest n (rest n b)) (turned n (rest n a))=still
  rw[mM hn hb]
  refine Ft hn hb hra ?_
  rw[meet_comm hb.aa hra.aa]
  exact h
 unfold bC
 by_cases c:p % 2=1
 ·rw[af c,ae (by lia)]
  have:=yF hn hrb (cG hn hra)
  rw[jZ hn hra,base,kF hn]at this
  exact this
 ·rw[ae c,af (by lia)]
  exact base
theorem vy:∀{l:List Perm}{p:Int},ah n l->ah n (gE n p l)
 |[],_,_=>ah.nil
 |a::r,p,h=>ah.cons (mT hn (h.head.rest hn)) (vy h.tail)
theorem FI:∀{l:List Perm}{p:Int},ah n l->qc n l->d6 l->d6 (gE n p l)/\qc n (gE n p l)
 |[],_,_,_,_=>⟨fun x hx=>(by cases hx),fun x hx=>(by cases hx)⟩
 |a::r,p,h,d,s=>by
  have ih:=FI (l:=r) (p:=p - 1) h.tail (fun x hx=>d x (bI _ hx)) (fun x hx=>s x (bI _ hx))
  have ha:=h.head
  refine⟨fun x hx=>?_,fun x hx=>?_⟩
  ·rcases bY.mp hx with e|hx
   ·rw[e]
    intro q
    exact d a bE (FF hn ha (FH hn (ha.rest hn) jX (by rw[q,Ng hn])))
   ·exact ih.1 x hx
  ·rcases bY.mp hx with e|hx
   ·rw[e]
    intro q
    exact s a bE (Nc hn ha (FH hn (ha.rest hn) (bX hn) (by rw[q,Nh hn])))
   ·exact ih.2 x hx
noncomputable def qd(n:Nat):List Perm->Prop
 |b::a::r=>hand n a b=still/\qd n (a::r)
 |_=>True
omit hn in
theorem FJ:∀{l m:List Perm},qd n l->qd n m->(∀b a,l.getLast? =some b->m.head? =some a->hand n a b=still)->qd n (l++m)
 |[],m,_,h,_=>h
 |[a],[],_,_,_=>trivial
 |[a],b::r,_,h,k=>⟨k a b rfl rfl,h⟩
 |a::b::r,m,g,h,k=>⟨g.1,FJ (l:=b::r) g.2 h fun x y hx hy=>k x y (by rw[List.getLast?_cons_cons];exact hx) hy⟩
omit hn in
theorem FK:∀{l:List Perm},Gr n l->qd n l.reverse
 |[],_=>trivial
 |a::r,g=>by
  rw[my]
  refine FJ (FK (l:=r) g.tail) trivial fun b a' h1 h3=>?_
  obtain⟨r',er⟩:=y9 h1
  have:a=a':=bo h3
  rw[er]at g
  rw[<-this]
  exact g.1
theorem FL:∀{l:List Perm}{p:Int},ah n l->qd n l->Gr n (gE n p l)
 |[],_,_,_=>trivial
 |[a],_,_,_=>trivial
 |b::a::r,p,h,g=>⟨Ni hn h.tail.head h.head g.1,FL (l:=a::r) (p:=p - 1) h.tail g.2⟩
theorem Nj{F:Form}(h:Fm n F.factors):Fm n (mS n F).factors:=by
 have g:=jy h.nf
 have hr:ah n F.factors.reverse:=fun x hx=>h.all x (kg.mp hx)
 have z:=FI hn (p:=F.twists+F.factors.length) hr (fun x hx=>h.nd x (kg.mp hx)) (fun x hx=>g.2 x (kg.mp hx))
 exact⟨vy hn hr,n6 (FL hn hr (FK g.1)) z.1,z.2⟩
omit hn in
theorem zd:∀{l:List Perm}{p:Int}{a:Perm},gE n p (l++[a])=gE n p l++[bC n (p - l.length) (rest n a)]
 |[],p,a=>by
  show [bC n p (rest n a)]=[bC n (p - ((0:Nat):Int)) (rest n a)]
  rw[show p - ((0:Nat):Int)=p by lia]
 |b::r,p,a=>by
  show bC n p (rest n b)::gE n (p - 1) (r++[a])=bC n p (rest n b)::(gE n (p - 1) r++[bC n (p - ((r.length+1:Nat):Int)) (rest n a)])
  rw[zd,show p - 1 - (r.length:Int)=p - ((r.length+1:Nat):Int) by lia]
variable(h2:2<=n)
include h2
theorem FN:∀{l:List Perm}{k:Int},ah n l->product n ⟨k,l⟩ (mS n ⟨k,l⟩)=one
 |[],k,_=>by
  show product n (eI k) (eI (-(k+((0:Nat):Int))))=one
  rw[yQ hn h2,show k+ -(k+((0:Nat):Int))=0 by lia]
  rfl
 |a::l,k,h=>by
  have ha:=h.head
  have hl:=h.tail
  have ih:=FN (l:=l) (k:=k+1) hl
  have ei:mS n ⟨k,a::l⟩=bJ n (mS n ⟨k+1,l⟩) ⟨0,[bC n (k+1) (rest n a)]⟩:=by
   unfold mS bJ
   simp only [my,bO,zd,mO hn,mx,cN]
   rw[show k+((l.length+1:Nat):Int)=k+1+(l.length:Int) by lia,show k+1+(l.length:Int) - (l.length:Int)=k+1 by lia]
  have hY:aV n (mS n ⟨k+1,l⟩):=vy hn (fun x hx=>hl x (kg.mp hx))
  have hZ:aV n ⟨0,[bC n (k+1) (rest n a)]⟩:=ah.cons (mT hn (ha.rest hn)) ah.nil
  have hT:aV n (eI (-(k+1))):=ah.nil
  have hA:aV n ⟨k,[a]⟩:=ah.cons ha ah.nil
  have hL:aV n ⟨k+1,l⟩:=hl
  have ea:(⟨k,a::l⟩:Form)=bJ n (bJ n ⟨k,[a]⟩ (eI (-(k+1)))) ⟨k+1,l⟩:=by
   unfold bJ eI
   simp only [fB]
   rw[sL hn hA,show k+ -(k+1)+(k+1)=k by lia,show -(k+1)+(k+1)=0 by lia]
   rfl
  generalize mS n ⟨k+1,l⟩=Y at *
  have hAT:=jv hn hA hT
  rw[ei,ea,cH hn (jv hn hAT hL) (jv hn hY hZ),yH hn hAT hL]
  rw[<-yH hn hL hY]
  rw[<-vp hn h2 hAT (jv hn (jv hn hL hY) hZ),<-vo hn h2 (jv hn hL hY) hZ]
  rw[cH hn hL hY]at ih
  rw[ih,vk hn,vp hn h2 hAT hZ]
  have e3:bJ n (bJ n ⟨k,[a]⟩ (eI (-(k+1)))) ⟨0,[bC n (k+1) (rest n a)]⟩=⟨-1,[bC n (k+1) a,bC n (k+1) (rest n a)]⟩:=by
   unfold bJ eI
   simp only [mO hn,fB]
   rw[show k+ -(k+1)+0= -1 by lia,FG hn]
   have:bC n (-(k+1)) a=bC n (k+1) a:=by
    unfold bC
    by_cases c:(k+1) % 2=1
    ·rw[af c,af (by lia)]
    ·rw[ae c,ae (by lia)]
   rw[this];rfl
  rw[e3]
  have rr:rest n (bC n (k+1) a)=bC n (k+1) (rest n a):=by
   unfold bC;split
   ·exact(yO hn h2 ha).symm
   ·rfl
  have ht:=mT hn (p:=k+1) ha
  rw[<-rr]
  show strip n (-1) (nf n [bC n (k+1) a,rest n (bC n (k+1) a)])=one
  rw[yN hn h2 ht (ht.rest hn) ((eE hn ht (ht.rest hn)).mpr (Le.refl _)),kC hn ht]
  have:nf n [delta n]=[delta n]:=ae (sE h2 hn)
  rw[this,yB,strip_nil]
  rfl
theorem ze{F:Form}(h:bh n F):mS n F=backward n F:=
 Fb hn h2 h.all ((Nj hn (h.fm hn)).cz hn) (FN hn h2 h.all)
theorem sS{i:Nat}(hi:i+1<n):Rt n (single i):=by
 refine⟨iT (by lia),fun j h1 h3=>?_⟩
 rw[sj (by lia) h3,ae (by lia),ae (by lia)]
theorem Nk{a:Perm}(ha:Rt n a):backward n (aO n (bM a))=aO n (mP n a):=by
 refine(Fb hn h2 (jw hn h2 (dP hn h2 ha)) (kG hn h2 (mQ hn h2 ha)) ?_).symm
 rw[E4 hn h2 (dP hn h2 ha) (mQ hn h2 ha),E5 hn h2 ha]
noncomputable def c7(n:Nat)(c:Int):Form:=if 0<c then aO n (bM (single (c.natAbs - 1))) else backward n (aO n (bM (single (c.natAbs - 1))))
theorem zf{c:Int}(hc:crossing n c=true):bh n (c7 n c):=by
 obtain⟨h1,h3⟩:=jx.mp hc
 have hs:=sS hn h2 (i:=c.natAbs - 1) (by lia)
 unfold c7;split
 ·exact kG hn h2 (dP hn h2 hs)
 ·exact j1 hn h2 (jw hn h2 (dP hn h2 hs))
theorem Nl{F:Form}{c:Int}(hF:aV n F)(hc:crossing n c=true):behind n F c=product n F (c7 n c):=by
 obtain⟨h1,h3⟩:=jx.mp hc
 have hs:=sS hn h2 (i:=c.natAbs - 1) (by lia)
 unfold behind c7
 dsimp only
 by_cases h:0<c
 ·rw[af h,af h,lT hn h2 hF (dP hn h2 hs)]
  unfold product bM
  simp only [mx]
  rfl
 ·rw[ae h,ae h,Nk hn h2 hs,lT hn h2 hF (mQ hn h2 hs)]
  unfold product mP
  rfl
theorem zg:∀(w:Row) {F:Form},bh n F->fits n w=true->bh n (w.foldl (behind n) F)/\w.foldl (behind n) F=w.foldl (fun F c=>product n F (c7 n c)) F
 |[],F,h,_=>⟨h,rfl⟩
 |c::w,F,h,hw=>by
  have hw':crossing n c=true/\fits n w=true:=by
   unfold fits at hw ⊢
   rw[List.all_cons,br]at hw
   exact hw
  have e:=Nl hn h2 h.all hw'.1
  have i:=e8 hn h2 h.all (zf hn h2 hw'.1).all
  have r:=zg w (F:=behind n F c) (by rw[e];exact i) hw'.2
  refine⟨r.1,?_⟩
  show w.foldl (behind n) (behind n F c)=w.foldl _ (product n F (c7 n c))
  rw[r.2,e]
theorem FO{k:Int}{a:Perm}{l:List Perm}(h:bh n ⟨k,a::l⟩):cycledOf ⟨n,⟨k,a::l⟩⟩ false=product n ⟨k,l⟩ (aO n (bM (bC n k a))):=by
 have ha:Rt n a:=h.all.head
 have hl:aV n ⟨k,l⟩:=h.all.tail
 have ht:=mT hn (p:=k) ha
 have hf:=dP hn h2 ht
 have hA:aV n ⟨k,a::l⟩:=h.all
 rw[lT hn h2 hl hf]
 unfold cycledOf
 simp only
 rw[ae (by simp),ae (by simp)]
 have ef:({twists:=0,factors:=[if k % 2=0 then (a::l).headD still else turned n ((a::l).headD still)]}:Form)=bM (bC n k a):=by
  unfold bM bC
  show ({twists:=0,factors:=[if k % 2=0 then a else turned n a]}:Form)=_
  by_cases c:k % 2=0
  ·rw[af c,ae (by lia)]
  ·rw[ae c,af (by lia)]
 rw[ef]
 have ea:(⟨k,a::l⟩:Form)=bJ n (bM (bC n k a)) ⟨k,l⟩:=by
  unfold bJ bM
  simp only [Int.zero_add]
  rw[<-FG hn,sL hn (ah.cons ha ah.nil)]
  have:tw n (k+k) [a]=[a]:=by unfold BB.tw;rw[af (by lia)]
  rw[this];rfl
 have hb:=j1 hn h2 hf
 have e1:product n ⟨k,a::l⟩ (bM (bC n k a))=product n (bM (bC n k a)) (product n ⟨k,l⟩ (bM (bC n k a))):=by
  rw[<-h_ hn h2 hf hl hf]
  rw[<-nZ hn h2 hA hf,ea,<-cH hn hf hl]
 have hp:=e8 hn h2 hl hf
 rw[e1,<-h_ hn h2 hb.all hf hp.all,yR hn h2 hf,sO hn h2 hp]
theorem FP{k:Int}{a:Perm}{l:List Perm}(h:bh n ⟨k,l++[a]⟩):cycledOf ⟨n,⟨k,l++[a]⟩⟩ true=product n (aO n (bM a)) ⟨k,l⟩:=by
 have hA:aV n ⟨k,l++[a]⟩:=h.all
 have ha:Rt n a:=h.all a (d_ _ bE)
 have hl:aV n ⟨k,l⟩:=fun x hx=>h.all x (jF _ hx)
 have hf:=dP hn h2 ha
 rw[nZ hn h2 hf hl]
 unfold cycledOf
 simp only
 rw[ae (by simp),af trivial]
 have ef:({twists:=0,factors:=[(l++[a]).getLast?.getD still]}:Form)=bM a:=by
  rw[List.getLast?_append];rfl
 rw[ef]
 have ea:(⟨k,l++[a]⟩:Form)=bJ n ⟨k,l⟩ (bM a):=by
  unfold bJ bM
  simp only [mO hn,mx]
 have hb:=j1 hn h2 hf
 have e1:product n ⟨k,l++[a]⟩ (backward n (bM a))=aO n ⟨k,l⟩:=by
  rw[<-nZ hn h2 hA hb.all,ea,<-cH hn hl hf,h_ hn h2 hl hf hb.all,MU hn h2 hf]
  rw[cH hn hl (show aV n one from ah.nil),sM hn]
 rw[e1,lT hn h2 hf hl]
end
end BB
end
section
namespace BB
open Wqaraq
theorem zh(n:Nat):∀(r:List Perm) (c:Perm) (s:List Perm),(cu n r c s).1.length+(cu n r c s).2.2.length=r.length+s.length
 |[],c,s=>rfl
 |a::r,c,s=>by
  unfold cu
  split
  ·rfl
  ·split
   ·rfl
   ·rw[zh n r]
    simp only [bO];lia
theorem FQ(l:List Perm):l.length<=(trim l).length+1:=by
 unfold trim;split
 ·rw[List.length_dropLast];lia
 ·lia
noncomputable def kL(F:Form):Int:=F.twists+F.factors.length
theorem Nm(n:Nat)(k:Int)(r:List Perm)(c:Perm)(s:List Perm):k+r.length+s.length<=kL (cJ n k (cu n r c s)):=by
 have h:=zh n r c s
 generalize cu n r c s=z at *
 obtain⟨r',c',s'⟩:=z
 unfold cJ kL
 dsimp only at h ⊢
 split
 ·have:=FQ (tl n r'.reverse++s')
  unfold tl at this ⊢
  simp only [bF,aE,cN]at this ⊢
  lia
 ·have:=FQ (r'.reverse++c'::s')
  simp only [bF,bO,cN]at this ⊢
  lia
theorem FR(n:Nat):∀(fs:List Perm) (F:Form),kL F<=kL (takes n F fs)
 |[],F=>Int.le_refl _
 |f::fs,F=>by
  have h1:=Nm n F.twists F.factors.reverse f []
  have h2:=FR n fs (cJ n F.twists (cu n F.factors.reverse f []))
  show kL F<=kL (takes n (cJ n F.twists (cu n F.factors.reverse f [])) fs)
  unfold kL at *
  simp only [cN,List.length_nil]at h1
  lia
theorem Nn(n:Nat)(k:Int)(m:List Perm):kL (strip n k m)=k+m.length:=by
 unfold kL strip
 have:=bQ List.length (List.takeWhile_append_dropWhile (p:=fun a=>a == delta n) (l:=m))
 rw[bF]at this
 simp only
 lia
section
variable{n:Nat}(hn:n<=16)(h2:2<=n)
include hn h2
theorem FU{l m:List Perm}(h:Fm n l)(hm:ah n m):l.length<=(nf n (l++m)).length:=by
 have t:=(vw hn h2 m (F:=⟨0,l⟩) h hm).2
 have k:=FR n m ⟨0,l⟩
 rw[t]at k
 unfold aO at k
 rw[Nn]at k
 unfold kL at k
 simp only at k
 lia
end
noncomputable def hd(A:List Perm):Perm:=A.headD still
noncomputable def quot(n:Nat)(x:Perm):List Perm->List Perm
 |[]=>[]
 |a::s=>ins n (then_ (back x) a) s
noncomputable def gp(n:Nat):Perm->List Perm->List Perm
 |a,[]=>[a]
 |a,c::s=>if a=still then a::c::s else if hand n a c=still then a::c::s else then_ a (hand n a c)::gp n (then_ (back (hand n a c)) c) s
noncomputable def bV(n:Nat):Nat->List Perm->List Perm->List Perm
 |0,_,_=>[]
 |f+1,A,B=>if meetOf (hd A) (hd B)=still then [] else meetOf (hd A) (hd B)::bV n f (quot n (meetOf (hd A) (hd B)) A) (quot n (meetOf (hd A) (hd B)) B)
theorem zi:∀{l:List Perm},d6 l->l.filter (fun a=>a != still)=l:=fun {l} h=>rf.mpr fun x hx=>by simpa using h x hx
section
variable{n:Nat}(hn:n<=16)
include hn
theorem FV:∀{s:List Perm}{a:Perm},Rt n a->ah n s->Nf n s->(gp n a s).filter (fun x=>x != still)=ins n a s
 |[],a,ha,_,_=>by
  unfold gp ins
  by_cases e:a=still
  ·rw[af e,e];rfl
  ·rw[ae e,zi]
   intro x hx;rw[gz.mp hx];exact e
 |c::s,a,ha,hs,h=>by
  have hc:=hs.head
  unfold gp
  by_cases e:a=still
  ·rw[af e,e,nU hn hs,uw (by simp),zi (jy h).2]
  ·rw[ae e]
   by_cases k:hand n a c=still
   ·rw[af k]
    have hN:Nf n (a::c::s):=⟨e,k,h⟩
    rw[zi (jy hN).2,pY hn (ah.cons ha hs) hN]
   ·rw[ae k]
    have hm:=dq hn ha hc
    have ne:then_ a (hand n a c)≠still:=fun q=>k ((gh hn ha hc).vh ha.aa hm.aa q).2
    rw[o7 (by simpa using ne),FV (jY hn ha hc) hs.tail h.tail]
    rfl
theorem d7{A:List Perm}(h:ah n A):Rt n (hd A):=by
 cases A with
 |nil=>exact jX
 |cons a s=>exact h.head
theorem jz{x:Perm}{A:List Perm}(hx:Rt n x)(h:ah n A):ah n (quot n x A):=by
 cases A with
 |nil=>exact ah.nil
 |cons a s=>exact sr hn (hx.back.then_ h.head) h.tail
theorem j3{x:Perm}{A:List Perm}(hx:Rt n x)(h:ah n A)(k:Nf n A):Nf n (quot n x A):=by
 cases A with
 |nil=>trivial
 |cons a s=>exact yt hn (hx.back.then_ h.head) h.tail k.tail
theorem vz{x:Perm}{A:List Perm}(hx:Rt n x)(h:ah n A)(k:Nf n A)(ne:x≠still)(l:Le x (hd A)):ins n x (quot n x A)=A:=by
 cases A with
 |nil=>exact absurd (mR hx.aa l) ne
 |cons a s=>
  show ins n x (ins n (then_ (back x) a) s)=a::s
  have l':Le x a:=l
  rw[nV hn hx (hx.back.then_ h.head) h.tail (l'.red hx.aa h.head.aa),dk hx.aa h.head.aa,pY hn h k]
theorem FW{x y:Perm}{A:List Perm}(hx:Rt n x)(hy:Rt n y)(h:ah n A)(k:Nf n A)(ne:x≠still)(l:Le x (hd A))(ly:Le y (hd (quot n x A)))(r:Red x y):Le (then_ x y) (hd A):=by
 have e:=vz hn hx h k ne l
 have hq:=jz hn hx h
 cases q:quot n x A with
 |nil=>
  rw[q]at ly
  have:y=still:=mR hy.aa ly
  rw[this,dH hx.aa]
  exact l
 |cons b t=>
  rw[q]at e ly hq
  have eh:hd A=then_ x (hand n x b):=by rw[<-e];rfl
  rw[eh]
  exact iS hx.aa hy.aa (dq hn hx hq.head).aa (jt hn hx hq.head hy.aa ly r) (gh hn hx hq.head)
theorem vA:∀(f:Nat) {A B:List Perm},ah n A->ah n B->ah n (bV n f A B)
 |0,_,_,_,_=>ah.nil
 |f+1,A,B,hA,hB=>by
  have g:=eD (d7 hn hA).aa (d7 hn hB).aa
  have hx:Rt n (meetOf (hd A) (hd B)):=Rt.of_le g.aa (d7 hn hA) g.left
  unfold bV
  split
  ·exact ah.nil
  ·exact ah.cons hx (vA f (jz hn hx hA) (jz hn hx hB))
theorem FX:∀(f:Nat) {A B:List Perm},ah n A->ah n B->Nf n A->Nf n B->Nf n (bV n f A B)
 |0,_,_,_,_,_,_=>trivial
 |f+1,A,B,hA,hB,kA,kB=>by
  have g:=eD (d7 hn hA).aa (d7 hn hB).aa
  have hx:Rt n (meetOf (hd A) (hd B)):=Rt.of_le g.aa (d7 hn hA) g.left
  unfold bV
  split
  ·trivial
  ·rename_i ne
   have hA':=jz hn hx hA
   have hB':=jz hn hx hB
   have ih:=FX f hA' hB' (j3 hn hx hA kA) (j3 hn hx hB kB)
   have hr:=vA hn f hA' hB'
   cases f with
   |zero=>exact ne
   |succ f=>
    unfold bV at ih hr ⊢
    split
    ·exact ne
    ·rename_i ne2
     rw[ae ne2]at ih hr
     refine⟨ne,?_,ih⟩
     have g2:=eD (d7 hn hA').aa (d7 hn hB').aa
     generalize meetOf (hd (quot n (meetOf (hd A) (hd B)) A)) (hd (quot n (meetOf (hd A) (hd B)) B))=y at *
     have hy:=hr.head
     have hh:=dq hn hx hy
     have hl:=gD hn hx hy
     have hre:=gh hn hx hy
     generalize hand n (meetOf (hd A) (hd B)) y=z at *
     have l1:=FW hn hx hh hA kA ne g.left (hl.trans g2.left) hre
     have l2:=FW hn hx hh hB kB ne g.right (hl.trans g2.right) hre
     have l3:=g.most _ (hx.aa.then_ hh.aa) l1 l2
     have l4:Le (then_ (meetOf (hd A) (hd B)) z) (then_ (meetOf (hd A) (hd B)) still):=by rw[dH hx.aa];exact l3
     exact mR hh.aa (mK hx.aa hh.aa dO hre (pR hx.aa) l4)
theorem FY:∀(f:Nat) {A B:List Perm},ah n A->ah n B->Nf n A->Nf n B->(∃R,ah n R/\nf n (bV n f A B++R)=A)/\∃R,ah n R/\nf n (bV n f A B++R)=B
 |0,A,B,hA,hB,kA,kB=>⟨⟨A,hA,lQ hn hA kA⟩,B,hB,lQ hn hB kB⟩
 |f+1,A,B,hA,hB,kA,kB=>by
  have g:=eD (d7 hn hA).aa (d7 hn hB).aa
  have hx:Rt n (meetOf (hd A) (hd B)):=Rt.of_le g.aa (d7 hn hA) g.left
  unfold bV
  split
  ·exact⟨⟨A,hA,lQ hn hA kA⟩,B,hB,lQ hn hB kB⟩
  ·rename_i ne
   obtain⟨⟨R,hR,eR⟩,S,hS,eS⟩:=FY f (jz hn hx hA) (jz hn hx hB) (j3 hn hx hA kA) (j3 hn hx hB kB)
   refine⟨⟨R,hR,?_⟩,S,hS,?_⟩
   ·show ins n (meetOf (hd A) (hd B)) (nf n (bV n f (quot n (meetOf (hd A) (hd B)) A) (quot n (meetOf (hd A) (hd B)) B)++R))=A
    rw[eR,vz hn hx hA kA ne g.left]
   ·show ins n (meetOf (hd A) (hd B)) (nf n (bV n f (quot n (meetOf (hd A) (hd B)) A) (quot n (meetOf (hd A) (hd B)) B)++S))=B
    rw[eS,vz hn hx hB kB ne g.right]
noncomputable def qe(n:Nat)(A B:List Perm):Prop:=hd A≠delta n\/hd B≠delta n
theorem zj(f:Nat){A B:List Perm}(hA:ah n A)(hB:ah n B)(kA:Nf n A)(kB:Nf n B)(t:qe n A B):Fm n (bV n f A B):=by
 have hr:=vA hn f hA hB
 have hN:=FX hn f hA hB kA kB
 refine⟨hr,hN,?_⟩
 have g:=eD (d7 hn hA).aa (d7 hn hB).aa
 have nd:meetOf (hd A) (hd B)≠delta n:=by
  intro e
  rw[e]at g
  rcases t with t|t
  ·exact t (Le.antisymm (d7 hn hA).aa g.aa (d7 hn hA).pX g.left)
  ·exact t (Le.antisymm (d7 hn hB).aa g.aa (d7 hn hB).pX g.right)
 cases f with
 |zero=>intro x hx;cases hx
 |succ f=>
  unfold bV at hr hN ⊢
  split
  ·intro x hx;cases hx
  ·rename_i ne
   rw[ae ne]at hr hN
   exact y_ hn hr (jy hN).1 nd
theorem zk(h2:2<=n)(f:Nat){A B:List Perm}(hA:ah n A)(hB:ah n B)(kA:Nf n A)(kB:Nf n B)(t:qe n A B):(bV n f A B).length<=A.length/\(bV n f A B).length<=B.length:=by
 have F:=zj hn f hA hB kA kB t
 obtain⟨⟨R,hR,eR⟩,S,hS,eS⟩:=FY hn f hA hB kA kB
 have l1:=FU hn h2 F hR
 have l2:=FU hn h2 F hS
 rw[eR]at l1
 rw[eS]at l2
 exact⟨l1,l2⟩
omit hn in
theorem FZ:∀(j:Nat) {s s':List Perm}{a:Perm},s.take j=s'.take j->(ins n a s).take j=(ins n a s').take j
 |0,_,_,_,_=>rfl
 |j+1,[],[],_,_=>rfl
 |j+1,[],_::_,_,h=>by simp at h
 |j+1,_::_,[],_,h=>by simp at h
 |j+1,c::s,c'::s',a,h=>by
  rw[pd,pd]at h
  obtain⟨rfl,h'⟩:=mw h
  unfold ins
  rw[pd,pd,FZ j h']
omit hn in
theorem F0:∀(j f:Nat) {A B A' B':List Perm},A.take j=A'.take j->B.take j=B'.take j->(bV n f A B).take j=(bV n f A' B').take j
 |0,_,_,_,_,_,_,_=>rfl
 |j+1,0,_,_,_,_,_,_=>rfl
 |j+1,f+1,A,B,A',B',hA,hB=>by
  have hh:∀{A A':List Perm},A.take (j+1)=A'.take (j+1)->hd A=hd A'/\∀x,(quot n x A).take j=(quot n x A').take j:=by
   intro A A' h
   cases A with
   |nil=>cases A' with
    |nil=>exact⟨rfl,fun _=>rfl⟩
    |cons b t=>simp at h
   |cons a s=>cases A' with
    |nil=>simp at h
    |cons b t=>
     rw[pd,pd]at h
     obtain⟨rfl,h'⟩:=mw h
     exact⟨rfl,fun x=>FZ j h'⟩
  obtain⟨eA,qA⟩:=hh hA
  obtain⟨eB,qB⟩:=hh hB
  unfold bV
  rw[<-eA,<-eB]
  split
  ·rfl
  ·rw[pd,pd,F0 j f (qA _) (qB _)]
omit hn in
theorem F8{A:List Perm}{m:Nat}(h:0<m):hd (A.take m)=hd A:=by
 cases A with
 |nil=>rw[List.take_nil]
 |cons a s=>cases m with
  |zero=>lia
  |succ m=>rfl
theorem vB{A:List Perm}{m:Nat}(hA:ah n A)(k:Nf n A):ah n (A.take m)/\Nf n (A.take m):=by
 have g:=jy k
 have h1:ah n (A.take m):=fun x hx=>hA x (mz hx)
 refine⟨h1,n6 ?_ fun x hx=>g.2 x (mz hx)⟩
 have:Gr n (A.take m++A.drop m):=by rw[List.take_append_drop];exact g.1
 exact vv this
theorem Np(h2:2<=n)(f:Nat){A B:List Perm}(hA:ah n A)(hB:ah n B)(kA:Nf n A)(kB:Nf n B)(t:qe n A B):
  bV n f (A.take (min A.length B.length)) (B.take (min A.length B.length))=bV n f A B:=by
 have l1:=zk hn h2 f hA hB kA kB t
 generalize em:min A.length B.length=m at *
 have a1:=vB hn (m:=m) hA kA
 have b1:=vB hn (m:=m) hB kB
 by_cases h0:m=0
 ·have e:bV n f A B=[]:=o6.mp (by lia)
  rw[e,h0,ph,ph]
  cases f with
  |zero=>rfl
  |succ f=>
   unfold bV
   rw[af]
   exact vf dO dO ⟨dO,Le.refl _,Le.refl _,fun x _ h _=>h⟩
 ·have t':qe n (A.take m) (B.take m):=by
   unfold qe
   rw[F8 (by lia),F8 (by lia)]
   exact t
  have l2:=zk hn h2 f a1.1 b1.1 a1.2 b1.2 t'
  have e:=F0 (n:=n) m f (A:=A.take m) (B:=B.take m) (A':=A) (B':=B) (by rw[List.take_take,Nat.min_self]) (by rw[List.take_take,Nat.min_self])
  rw[c_,c_]at l2
  have q1:(bV n f (A.take m) (B.take m)).take m=bV n f (A.take m) (B.take m):=o5 (by lia)
  have q2:(bV n f A B).take m=bV n f A B:=o5 (by lia)
  rw[q1,q2]at e
  exact e
end
noncomputable def lst(n:Nat)(F:Form):List Perm:=List.replicate F.twists.toNat (delta n)++F.factors
section
variable{n:Nat}(hn:n<=16)(h2:2<=n)
include hn h2
theorem F9{m:List Perm}:lst n (strip n 0 m)=m/\0<=(strip n 0 m).twists:=by
 obtain⟨j,ej,lj⟩:=vm (n:=n) hn (m:=m)
 unfold lst strip
 simp only
 rw[lj]
 refine⟨?_,by lia⟩
 rw[show ((0:Int)+(j:Nat)).toNat=j by lia]
 exact ej.symm
theorem n8{F:Form}(h:bh n F)(h0:0<=F.twists):ah n (lst n F)/\Nf n (lst n F)/\strip n 0 (lst n F)=F:=by
 have hf:=h.fm hn
 have hD:∀j,ah n (List.replicate j (delta n)):=fun j x hx=>by rw[xo hx];exact bX hn
 have all:ah n (lst n F):=ah.append (hD _) hf.all
 obtain⟨k,l⟩:=F
 have:∀j:Nat,Nf n (List.replicate j (delta n)++l)/\strip n 0 (List.replicate j (delta n)++l)=⟨j,l⟩:=by
  have st:∀(j:Nat) (z:Int),strip n z (List.replicate j (delta n)++l)=⟨z+j,l⟩:=by
   intro j
   induction j with
   |zero=>
    intro z
    rw[List.replicate_zero,k6,show z+((0:Nat):Int)=z by lia]
    cases l with
    |nil=>exact strip_nil
    |cons a r=>exact ES (hf.nd a bE)
   |succ j ih=>
    intro z
    rw[k5,List.cons_append,yB,ih,show z+1+(j:Int)=z+((j+1:Nat):Int) by lia]
  intro j
  refine⟨?_,by rw[st j 0,Int.zero_add]⟩
  refine n6 ?_ fun x hx=>?_
  ·induction j with
   |zero=>exact(jy hf.nf).1
   |succ j ih=>
    rw[k5,List.cons_append]
    have hal:ah n (List.replicate j (delta n)++l):=ah.append (hD _) hf.all
    cases q:List.replicate j (delta n)++l with
    |nil=>trivial
    |cons b t=>
     rw[q]at ih hal
     exact⟨EZ hn hal.head,ih⟩
  ·rcases dU.mp hx with hx|hx
   ·rw[xo hx];exact sE h2 hn
   ·exact(jy hf.nf).2 x hx
 have z:=this k.toNat
 refine⟨all,z.1,?_⟩
 show strip n 0 (List.replicate k.toNat (delta n)++l)=⟨k,l⟩
 rw[z.2]
 have h0':0<=k:=h0
 rw[show ((k.toNat:Nat):Int)=k by lia]
theorem F_{F:Form}(h0:0<=F.twists):firstOf n F=hd (lst n F):=by
 unfold firstOf lst
 by_cases h:0<F.twists
 ·rw[af h]
  obtain⟨j,hj⟩:∃j,F.twists.toNat=j+1:=⟨F.twists.toNat - 1,by lia⟩
  rw[hj,k5];rfl
 ·rw[ae h,show F.twists.toNat=0 by lia];rfl
theorem zm{m:List Perm}(hm:ah n m)(k:Nf n m):bh n (strip n 0 m):=by
 have e:strip n 0 m=aO n ⟨0,m⟩:=by unfold aO;rw[show nf n m=m from lQ hn hm k]
 rw[e]
 exact kG hn h2 hm
theorem Ga{x:Perm}{F:Form}(hF:bh n F)(h0:0<=F.twists)(hx:Rt n x)(ne:x≠still)(l:Le x (hd (lst n F))):product n (backward n (formed n 0 [x])) F=strip n 0 (quot n x (lst n F)):=by
 have ey:formed n 0 [x]=aO n (bM x):=yA hn (ah.cons hx ah.nil)
 rw[ey]
 have hy:=jw hn h2 (dP hn h2 hx)
 obtain⟨ha,hk,hs⟩:=n8 hn h2 hF h0
 have hq:=jz hn hx ha
 have hG:=zm hn h2 hq (j3 hn hx ha hk)
 have e:product n (aO n (bM x)) (strip n 0 (quot n x (lst n F)))=F:=by
  have eq:strip n 0 (quot n x (lst n F))=aO n ⟨0,quot n x (lst n F)⟩:=by unfold aO;rw[show nf n (quot n x (lst n F))=_ from lQ hn hq (j3 hn hx ha hk)]
  have hQ:aV n ⟨0,quot n x (lst n F)⟩:=hq
  rw[eq,E4 hn h2 (dP hn h2 hx) hQ,cH hn (dP hn h2 hx) hQ]
  unfold bJ bM aO
  simp only [mO hn]
  show strip n 0 (ins n x (nf n (quot n x (lst n F))))=F
  rw[lQ hn hq (j3 hn hx ha hk),vz hn hx ha hk ne l,hs]
 have hb:=j1 hn h2 hy
 calc product n (backward n (aO n (bM x))) F=product n (backward n (aO n (bM x))) (product n (aO n (bM x)) (strip n 0 (quot n x (lst n F)))):=by rw[e]
  _=strip n 0 (quot n x (lst n F)):=by rw[<-h_ hn h2 hb.all hy hG.all,yR hn h2 hy,sO hn h2 hG]
theorem Gb:∀(f:Nat) {d F G:Form},bh n d->bh n F->bh n G->0<=F.twists->0<=G.twists->commonFrom n f d F G=product n d ⟨0,bV n f (lst n F) (lst n G)⟩
 |0,d,F,G,hd_,_,_,_,_=>by
  show d=product n d one
  rw[sN hn h2 hd_]
 |f+1,d,F,G,hD,hF,hG,zF,zG=>by
  obtain⟨fa,fk,fs⟩:=n8 hn h2 hF zF
  obtain⟨ga,gk,gs⟩:=n8 hn h2 hG zG
  unfold commonFrom bV
  simp only
  rw[F_ hn h2 zF,F_ hn h2 zG]
  have g:=eD (d7 hn fa).aa (d7 hn ga).aa
  have hx:Rt n (meetOf (hd (lst n F)) (hd (lst n G))):=Rt.of_le g.aa (d7 hn fa) g.left
  split
  ·show d=product n d one
   rw[sN hn h2 hD]
  ·rename_i ne
   rw[Ga hn h2 hF zF hx ne g.left,Ga hn h2 hG zG hx ne g.right]
   generalize meetOf (hd (lst n F)) (hd (lst n G))=x at *
   have ey:formed n 0 [x]=aO n (bM x):=yA hn (ah.cons hx ah.nil)
   have hy:=jw hn h2 (dP hn h2 hx)
   have qa:=jz hn hx fa
   have qb:=jz hn hx ga
   have IF:=zm hn h2 qa (j3 hn hx fa fk)
   have IG:=zm hn h2 qb (j3 hn hx ga gk)
   have sF:=F9 hn h2 (m:=quot n x (lst n F))
   have sG:=F9 hn h2 (m:=quot n x (lst n G))
   rw[Gb f (e8 hn h2 hD.all (by rw[ey];exact hy)) IF IG sF.2 sG.2,sF.1,sG.1,ey]
   have hC:aV n ⟨0,bV n f (quot n x (lst n F)) (quot n x (lst n G))⟩:=vA hn f qa qb
   rw[h_ hn h2 hD.all hy hC,nZ hn h2 (dP hn h2 hx) hC]
   generalize bV n f (quot n x (lst n F)) (quot n x (lst n G))=c at *
   have e:bJ n (bM x) ⟨0,c⟩=⟨0,x::c⟩:=by unfold bJ bM;simp only [mO hn];rfl
   rw[cH hn (dP hn h2 hx) hC,e]
   exact lT hn h2 hD.all (show aV n ⟨0,x::c⟩ from ah.cons hx hC)
noncomputable def above(n:Nat)(k:Int)(F:Form):List Perm:=List.replicate (F.twists - k).toNat (delta n)++F.factors
theorem Gc{F G:Form}(hF:bh n F)(hG:bh n G):
  commonOf ⟨n,F⟩ ⟨n,G⟩=⟨n,⟨min F.twists G.twists,bV n ((above n (min F.twists G.twists) F).length+1) ((above n (min F.twists G.twists) F).take (min (above n (min F.twists G.twists) F).length (above n (min F.twists G.twists) G).length))
   ((above n (min F.twists G.twists) G).take (min (above n (min F.twists G.twists) F).length (above n (min F.twists G.twists) G).length))⟩⟩/\
  Fm n (bV n ((above n (min F.twists G.twists) F).length+1) ((above n (min F.twists G.twists) F).take (min (above n (min F.twists G.twists) F).length (above n (min F.twists G.twists) G).length))
   ((above n (min F.twists G.twists) G).take (min (above n (min F.twists G.twists) F).length (above n (min F.twists G.twists) G).length)))/\
  (bV n ((above n (min F.twists G.twists) F).length+1) ((above n (min F.twists G.twists) F).take (min (above n (min F.twists G.twists) F).length (above n (min F.twists G.twists) G).length))
   ((above n (min F.twists G.twists) G).take (min (above n (min F.twists G.twists) F).length (above n (min F.twists G.twists) G).length))).length<=(above n (min F.twists G.twists) F).length:=by
 generalize ek:min F.twists G.twists=k
 have iF:bh n ⟨F.twists - k,F.factors⟩:=(hF.fm hn).cz hn
 have iG:bh n ⟨G.twists - k,G.factors⟩:=(hG.fm hn).cz hn
 have zF:0<=(⟨F.twists - k,F.factors⟩:Form).twists:=by show 0<=F.twists - k;lia
 have zG:0<=(⟨G.twists - k,G.factors⟩:Form).twists:=by show 0<=G.twists - k;lia
 obtain⟨fa,fk,_⟩:=n8 hn h2 iF zF
 obtain⟨ga,gk,_⟩:=n8 hn h2 iG zG
 have eF:lst n ⟨F.twists - k,F.factors⟩=above n k F:=rfl
 have eG:lst n ⟨G.twists - k,G.factors⟩=above n k G:=rfl
 have hdz:∀{H:Form},bh n H->H.twists=k->hd (above n k H)≠delta n:=by
  intro H hH e
  unfold above
  rw[show (H.twists - k).toNat=0 by lia]
  show hd H.factors≠delta n
  cases q:H.factors with
  |nil=>exact fun z=>sE h2 hn z.symm
  |cons a r=>
   have:=(hH.fm hn).nd
   rw[q]at this
   exact this a bE
 have t:qe n (above n k F) (above n k G):=by
  by_cases c:F.twists<=G.twists
  ·exact .inl (hdz hF (by lia))
  ·exact .inr (hdz hG (by lia))
 rw[eF]at fa fk
 rw[eG]at ga gk
 have cut:=fun f=>Np hn h2 f fa ga fk gk t
 have fuel:(⟨F.twists - k,F.factors⟩:Form).twists.toNat+(⟨F.twists - k,F.factors⟩:Form).factors.length+1=(above n k F).length+1:=by
  unfold above;rw[bF,qR]
 rw[cut]
 refine⟨?_,zj hn _ fa ga fk gk t,(zk hn h2 _ fa ga fk gk t).1⟩
 have cf:=zj hn ((above n k F).length+1) fa ga fk gk t
 unfold commonOf
 simp only [ek]
 rw[Gb hn h2 _ (show bh n ⟨0,[]⟩ from lR hn h2) iF iG zF zG,eF,eG]
 have fuel':(F.twists - k).toNat+F.factors.length+1=(above n k F).length+1:=fuel
 rw[fuel']
 have cI:bh n ⟨0,bV n ((above n k F).length+1) (above n k F) (above n k G)⟩:=cf.cz hn
 rw[show ({twists:=0,factors:=[]}:Form)=one from rfl,sO hn h2 cI]
 rw[cH hn (show aV n ⟨k,[]⟩ from ah.nil) cI.all]
 have e:bJ n ⟨k,[]⟩ ⟨0,bV n ((above n k F).length+1) (above n k F) (above n k G)⟩=⟨k,bV n ((above n k F).length+1) (above n k F) (above n k G)⟩:=by
  unfold bJ;simp only [mO hn,mx,k6]
 rw[e,(cf.cz hn).nf]
end
end BB
end
section
namespace BB
open Wqaraq
noncomputable def mk(m:List Nat)(i:Nat):Nat:=m.getD i 0
noncomputable def e9(m:List Nat)(x:Nat×Nat):List Nat:=m.map fun y=>if y=m.getD x.2 0 then m.getD x.1 0 else y
theorem n9(N:Nat)(l:List (Nat×Nat)):joined N l=l.foldl e9 (List.range N):=rfl
theorem j4(m:List Nat)(x:Nat×Nat):(e9 m x).length=m.length:=aE ..
theorem qf{m:List Nat}{i:Nat}(h:i<m.length):mk m i=m[i]:=by
 unfold mk;rw[eg,bu h];rfl
theorem zo{m:List Nat}{i:Nat}(h:i<m.length):mk m i∈m:=by rw[qf h];exact i5 h
theorem mem_mk{m:List Nat}{a:Nat}(h:a∈m):∃i,i<m.length/\mk m i=a:=by
 obtain⟨i,hi,e⟩:=xw h
 exact⟨i,hi,by rw[qf hi,e]⟩
theorem Gd{m:List Nat}{x y i:Nat}(h:i<m.length):mk (e9 m (x,y)) i=if mk m i=mk m y then mk m x else mk m i:=by
 rw[qf (by rw[j4];exact h)]
 unfold e9
 rw[List.getElem_map,qf h]
 rfl
theorem vC{m:List Nat}{x y i j:Nat}(hi:i<m.length)(hj:j<m.length):
  mk (e9 m (x,y)) i=mk (e9 m (x,y)) j↔mk m i=mk m j\/(mk m i=mk m x/\mk m j=mk m y)\/(mk m i=mk m y/\mk m j=mk m x):=by
 rw[Gd hi,Gd hj]
 split<;>split<;>lia
noncomputable def dd(m:List Nat):Nat:=m.eraseDups.length
theorem zp:∀(k:Nat) (m:List Nat),m.length<=k->m.eraseDups.Nodup
 |_,[],_=>by simp
 |0,a::m,h=>by simp at h
 |k+1,a::m,h=>by
  rw[List.eraseDups_cons,kZ]
  refine⟨fun q=>?_,zp k _ (cC (q0 _ _) (by simpa using h))⟩
  rw[List.mem_eraseDups]at q
  simpa using (i4.mp q).2
theorem zq{m e:List Nat}(nd:e.Nodup)(h:∀a,a∈e↔a∈m):dd m=e.length:=by
 unfold dd
 refine List.Perm.length_eq ((List.perm_ext_iff_of_nodup (zp _ m (aX _)) nd).mpr fun a=>?_)
 rw[List.mem_eraseDups,h]
theorem Nq{m:List Nat}{x y:Nat}(hx:x<m.length)(hy:y<m.length):dd (e9 m (x,y))+(if mk m x=mk m y then 0 else 1)=dd m:=by
 by_cases e:mk m x=mk m y
 ·rw[af e,Nat.add_zero]
  have:e9 m (x,y)=m:=by
   unfold e9
   show m.map (fun z=>if z=mk m y then mk m x else z)=m
   have:(fun z=>if z=mk m y then mk m x else z)=fun z=>z:=by funext z;split<;>lia
   rw[this,List.map_id']
  rw[this]
 ·rw[ae e]
  have nd:=zp _ m (aX _)
  have hm:mk m y∈m.eraseDups:=by rw[List.mem_eraseDups];exact zo hy
  have k:=zq (m:=e9 m (x,y)) (nd.erase (mk m y)) fun a=>by
   rw[nd.mem_erase_iff,List.mem_eraseDups]
   constructor
   ·rintro⟨h1,h2⟩
    exact bZ.mpr ⟨a,h2,ae h1⟩
   ·intro h
    obtain⟨b,hb,rfl⟩:=bZ.mp h
    show (if b=mk m y then mk m x else b)≠mk m y/\(if b=mk m y then mk m x else b)∈m
    split
    ·exact⟨e,zo hx⟩
    ·rename_i ne
     exact⟨ne,hb⟩
  rw[k,List.length_erase_of_mem hm]
  have:=List.length_pos_of_mem hm
  unfold dd
  lia
theorem Nr(N:Nat):dd (List.range N)=N:=by
 rw[zq (e:=List.range N) o8 fun a=>Iff.rfl,cD]
noncomputable def dz(m:List Nat)(i:Nat):Bool:=decide (∀j,j<i->mk m j≠mk m i)
theorem n_{m:List Nat}{i:Nat}:dz m i=true↔∀j,j<i->mk m j≠mk m i:=mB
theorem Nt{m:List Nat}:∀(i:Nat),i<m.length->∃j,j<=i/\mk m j=mk m i/\dz m j=true:=by
 intro i
 induction i using Nat.strongRecOn with
 |ind i ih=>
  intro hi
  by_cases h:dz m i=true
  ·exact⟨i,aX _,rfl,h⟩
  ·rw[n_]at h
   obtain⟨j,hj⟩:=Classical.not_forall.mp h
   have hj1:j<i:=k7 fun q=>hj fun z=>absurd z q
   have hj2:mk m j=mk m i:=k7 fun q=>hj fun _=>q
   obtain⟨k,h1,h2,h3⟩:=ih j hj1 (by lia)
   exact⟨k,by lia,by rw[h2,hj2],h3⟩
theorem Nu(m:List Nat):dd m=(List.range m.length).countP (dz m):=by
 have nd:(((List.range m.length).filter (dz m)).map (mk m)).Nodup:=by
  rw[List.Nodup,List.pairwise_map]
  have p:((List.range m.length).filter (dz m)).Pairwise (·<·):=List.Pairwise.filter _ List.pairwise_lt_range
  refine List.Pairwise.imp_of_mem (fun {a b} ha hb hab=>?_) p
  exact(n_.mp (i4.mp hb).2) a hab
 rw[zq nd fun a=>?_,aE,iH]
 constructor
 ·intro h
  obtain⟨i,hi,rfl⟩:=bZ.mp h
  exact zo (a6.mp (i4.mp hi).1)
 ·intro h
  obtain⟨i,hi,rfl⟩:=mem_mk h
  obtain⟨j,h1,h2,h3⟩:=Nt i hi
  exact bZ.mpr ⟨j,i4.mpr ⟨a6.mpr (by lia),h3⟩,h2⟩
noncomputable def e_(N:Nat)(l:List (Nat×Nat)):Prop:=∀e,e∈l->e.1<N/\e.2<N
theorem vD:∀(l:List (Nat×Nat)) (m:List Nat),(l.foldl e9 m).length=m.length
 |[],_=>rfl
 |e::l,m=>by rw[gK,vD l,j4]
theorem zr(N:Nat)(l:List (Nat×Nat)):(joined N l).length=N:=by rw[n9,vD,cD]
theorem Ge:∀(l:List (Nat×Nat)) {m:List Nat}{i j:Nat},i<m.length->j<m.length->mk m i=mk m j->mk (l.foldl e9 m) i=mk (l.foldl e9 m) j
 |[],_,_,_,_,_,h=>h
 |e::l,m,i,j,hi,hj,h=>by
  rw[gK]
  exact Ge l (by rw[j4];exact hi) (by rw[j4];exact hj) ((vC (x:=e.1) (y:=e.2) hi hj).mpr (.inl h))
theorem Gf:∀{l:List (Nat×Nat)}{m:List Nat}{x y:Nat},e_ m.length l->(x,y)∈l->mk (l.foldl e9 m) x=mk (l.foldl e9 m) y
 |[],_,_,_,_,h=>by cases h
 |e::l,m,x,y,hl,h=>by
  rw[gK]
  rcases bY.mp h with q|q
  ·subst q
   have hxy:=hl (x,y) bE
   exact Ge l (by rw[j4];exact hxy.1) (by rw[j4];exact hxy.2) ((vC hxy.1 hxy.2).mpr (.inr (.inl ⟨rfl,rfl⟩)))
  ·exact Gf (fun e' he=>by rw[j4];exact hl e' (bI _ he)) q
theorem Gg{V:Nat->Prop}:∀{l:List (Nat×Nat)}{m:List Nat},e_ m.length l->(∀e,e∈l->(V e.1↔V e.2))->(∀i j,i<m.length->j<m.length->mk m i=mk m j->(V i↔V j))->
  ∀{i j:Nat},i<m.length->j<m.length->mk (l.foldl e9 m) i=mk (l.foldl e9 m) j->(V i↔V j)
 |[],_,_,_,h,i,j,hi,hj,e=>h i j hi hj e
 |e::l,m,hl,hV,h,i,j,hi,hj,q=>by
  rw[gK]at q
  have he:=hl e bE
  have ev:=hV e bE
  refine Gg (m:=e9 m e) (fun e' h'=>by rw[j4];exact hl e' (bI _ h')) (fun e' h'=>hV e' (bI _ h')) (fun i j hi hj z=>?_) (by rw[j4];exact hi) (by rw[j4];exact hj) q
  rw[j4]at hi hj
  rcases(vC (x:=e.1) (y:=e.2) hi hj).mp z with z|⟨z1,z2⟩|⟨z1,z2⟩
  ·exact h i j hi hj z
  ·exact(h i e.1 hi he.1 z1).trans (ev.trans (h j e.2 hj he.2 z2).symm)
  ·exact(h i e.2 hi he.2 z1).trans (ev.symm.trans (h j e.1 hj he.1 z2).symm)
noncomputable def Cn(N:Nat)(l:List (Nat×Nat))(i j:Nat):Prop:=mk (joined N l) i=mk (joined N l) j
theorem Cn.symm{N:Nat}{l:List (Nat×Nat)}{i j:Nat}(h:Cn N l i j):Cn N l j i:=Eq.symm h
theorem Cn.trans{N:Nat}{l:List (Nat×Nat)}{i j k:Nat}(h:Cn N l i j)(g:Cn N l j k):Cn N l i k:=Eq.trans h g
theorem Cn.sT{N:Nat}{l:List (Nat×Nat)}{x y:Nat}(hl:e_ N l)(h:(x,y)∈l):Cn N l x y:=by
 unfold Cn;rw[n9]
 exact Gf (by rw[cD];exact hl) h
theorem Cn.least{N:Nat}{l:List (Nat×Nat)}{i j:Nat}(V:Nat->Prop)(hl:e_ N l)(hV:∀e,e∈l->(V e.1↔V e.2))(hi:i<N)(hj:j<N)(h:Cn N l i j):V i↔V j:=by
 unfold Cn at h;rw[n9]at h
 have r:∀k,k<N->mk (List.range N) k=k:=fun k hk=>by rw[qf (by rw[cD];exact hk),List.getElem_range]
 refine Gg (m:=List.range N) (by rw[cD];exact hl) hV (fun a b ha hb q=>?_) (by rw[cD];exact hi) (by rw[cD];exact hj) h
 rw[cD]at ha hb
 rw[r a ha,r b hb]at q
 rw[q]
theorem Cn.snoc{N:Nat}{l:List (Nat×Nat)}{x y i j:Nat}(hi:i<N)(hj:j<N):Cn N (l++[(x,y)]) i j↔Cn N l i j\/(Cn N l i x/\Cn N l j y)\/(Cn N l i y/\Cn N l j x):=by
 unfold Cn;rw[n9,n9,jI,gK,List.foldl_nil]
 exact vC (by rw[vD,cD];exact hi) (by rw[vD,cD];exact hj)
theorem e_.append{N:Nat}{l l':List (Nat×Nat)}(h:e_ N l)(k:e_ N l'):e_ N (l++l'):=fun e he=>(dU.mp he).elim (h e) (k e)
open Classical in
theorem sU{N:Nat}{l:List (Nat×Nat)}{x y:Nat}(hx:x<N)(hy:y<N):pieces N (l++[(x,y)])+(if Cn N l x y then 0 else 1)=pieces N l:=by
 have:=Nq (m:=joined N l) (x:=x) (y:=y) (by rw[zr];exact hx) (by rw[zr];exact hy)
 have e:pieces N (l++[(x,y)])=dd (e9 (joined N l) (x,y)):=by
  show dd (joined N (l++[(x,y)]))=_
  rw[n9,n9,jI];rfl
 rw[e]
 show _=dd (joined N l)
 rw[<-this]
 congr 1
 unfold Cn
 split<;>rfl
theorem Nv(N:Nat):pieces N []=N:=Nr N
theorem zt(N:Nat)(l:List (Nat×Nat)):pieces N l=(List.range N).countP (dz (joined N l)):=by
 have:=Nu (joined N l)
 rw[zr]at this
 exact this
theorem Cn.alone{N:Nat}{l:List (Nat×Nat)}{q j:Nat}(hl:e_ N l)(h:∀e,e∈l->e.1≠q/\e.2≠q)(hq:q<N)(hj:j<N)(c:Cn N l q j):j=q:=by
 have:=Cn.least (fun z=>z=q) hl (fun e he=>⟨fun z=>absurd z (h e he).1,fun z=>absurd z (h e he).2⟩) hq hj c
 exact this.mp rfl
noncomputable def it(φ:Nat->Nat):Nat->Nat->Nat
 |0,s=>s
 |i+1,s=>φ (it φ i s)
noncomputable def ik(n:Nat)(a:Nat->Nat):List (Nat×Nat):=(List.range n).map fun i=>(i,a i)
section
variable{n:Nat}{a:Nat->Nat}(ha:∀i,i<n->a i<n)(inj:∀i j,i<n->j<n->a i=a j->i=j)
include ha
theorem zu:e_ n (ik n a):=fun e he=>by
 obtain⟨i,hi,rfl⟩:=bZ.mp he
 have:=a6.mp hi
 exact⟨this,ha i this⟩
theorem oa{s:Nat}(hs:s<n):∀i,it a i s<n
 |0=>hs
 |i+1=>ha _ (oa hs i)
theorem zv{s:Nat}(hs:s<n):∀i,Cn n (ik n a) s (it a i s)
 |0=>rfl
 |i+1=>(zv hs i).trans (Cn.sT (zu ha) (bZ.mpr ⟨it a i s,a6.mpr (oa ha hs i),rfl⟩))
include inj
theorem Gh{s:Nat}(hs:s<n):∀(i j:Nat),it a (i+j) s=it a i s->it a j s=s
 |0,j,h=>by rw[Nat.zero_add]at h;exact h
 |i+1,j,h=>by
  rw[show i+1+j=(i+j)+1 by lia]at h
  exact Gh hs i j (inj _ _ (oa ha hs _) (oa ha hs _) h)
theorem Nw{s k i:Nat}(hs:s<n)(hi:i<k)(h:it a k s=it a i s){p:Nat}(hp:p<n)(c:Cn n (ik n a) s p):∃j,j<k/\it a j s=p:=by
 obtain⟨d,rfl⟩:∃d,k=i+d:=⟨k - i,by lia⟩
 have hb:=Gh ha inj hs i d h
 refine(Cn.least (fun z=>∃j,j<i+d/\it a j s=z) (zu ha) (fun e he=>?_) hs hp c).mp ⟨0,by lia,rfl⟩
 obtain⟨x,hx,rfl⟩:=bZ.mp he
 have hx:=a6.mp hx
 constructor
 ·rintro⟨j,hj,e⟩
  dsimp only at e ⊢
  by_cases q:j+1<i+d
  ·exact⟨j+1,q,by rw[<-e];rfl⟩
  ·have:j+1=i+d:=by lia
   exact⟨i,hi,by rw[<-h,<-this,<-e];rfl⟩
 ·rintro⟨j,hj,e⟩
  dsimp only at e ⊢
  cases j with
  |zero=>
   have:it a 0 s=it a d s:=hb.symm
   rw[this]at e
   obtain⟨d',rfl⟩:∃d',d=d'+1:=⟨d - 1,by lia⟩
   exact⟨d',by lia,inj _ _ (oa ha hs _) hx e⟩
  |succ j=>exact⟨j,by lia,inj _ _ (oa ha hs _) hx e⟩
end
end BB
end
section
namespace BB
open Wqaraq
structure Inv2(n:Nat)(p:List Nat):Prop where
 len:p.length=2 * n
 lt:∀e,e<2 * n->mk p e<2 * n
 inv:∀e,e<2 * n->mk p (mk p e)=e
 fp:∀e,e<2 * n->mk p e≠e
theorem vE{a:List Nat}{i j v:Nat}(h:i<a.length):mk (a.set i v) j=if j=i then v else mk a j:=j2 h
noncomputable def lU(n:Nat):List Nat:=(List.range (2 * n)).map fun e=>if e<n then n+e else e - n
theorem qg{n e:Nat}(h:e<2 * n):mk (lU n) e=if e<n then n+e else e - n:=by
 unfold lU
 rw[qf (by rw[aE,cD];exact h),List.getElem_map,List.getElem_range]
theorem Gj{n:Nat}:Inv2 n (lU n):=by
 refine⟨by unfold lU;rw[aE,cD],fun e h=>?_,fun e h=>?_,fun e h=>?_⟩
 ·rw[qg h];split<;>lia
 ·rw[qg h]
  by_cases c:e<n
  ·rw[af c,qg (by lia),ae (by lia)];lia
  ·rw[ae c,qg (by lia),af (by lia)];lia
 ·rw[qg h];split<;>lia
noncomputable def mU(p:List Nat)(x y:Nat):List Nat:=(((p.set (mk p x) (mk p y)).set (mk p y) (mk p x)).set x y).set y x
theorem lV{n:Nat}{p:List Nat}{x y e:Nat}(h:Inv2 n p)(hx:x<2 * n)(hy:y<2 * n):mk (mU p x y) e=if e=y then x else if e=x then y else if e=mk p y then mk p x else if e=mk p x then mk p y else mk p e:=by
 have l:=h.len
 have hx':=h.lt x hx
 have hy':=h.lt y hy
 unfold mU
 rw[vE (by simp only [gw];lia),vE (by simp only [gw];lia),vE (by simp only [gw];lia),vE (by lia)]
theorem Gk{n:Nat}{p:List Nat}{x y:Nat}(h:Inv2 n p)(hx:x<2 * n)(hy:y<2 * n)(xy:x≠y)(k:mk p x≠y):Inv2 n (mU p x y):=by
 have hx':=h.lt x hx
 have hy':=h.lt y hy
 have ix:=h.inv x hx
 have iy:=h.inv y hy
 have fx:=h.fp x hx
 have fy:=h.fp y hy
 have yx:mk p y≠x:=fun q=>k (by rw[q]at iy;exact iy)
 have ne:mk p x≠mk p y:=fun q=>xy (by rw[<-ix,q,iy])
 refine⟨by unfold mU;simp only [gw];exact h.len,fun e he=>?_,fun e he=>?_,fun e he=>?_⟩
 ·rw[lV h hx hy]
  have:=h.lt e he
  split
  ·lia
  ·split
   ·lia
   ·split
    ·lia
    ·split<;>lia
 ·rw[lV h hx hy (e:=e)]
  have ie:=h.inv e he
  by_cases c1:e=y
  ·rw[af c1,lV h hx hy,ae xy,af rfl,c1]
  ·rw[ae c1]
   by_cases c2:e=x
   ·rw[af c2,lV h hx hy,af rfl,c2]
   ·rw[ae c2]
    by_cases c3:e=mk p y
    ·rw[af c3,lV h hx hy,ae k,ae fx,ae ne,af rfl,c3]
    ·rw[ae c3]
     by_cases c4:e=mk p x
     ·rw[af c4,lV h hx hy,ae fy,ae yx,af rfl,c4]
     ·rw[ae c4,lV h hx hy]
      rw[ae (fun q=>c3 (by rw[<-ie,q])),ae (fun q=>c4 (by rw[<-ie,q])),ae (fun q=>c1 (by rw[<-ie,q,iy])),ae (fun q=>c2 (by rw[<-ie,q,ix])),ie]
 ·rw[lV h hx hy]
  have:=h.fp e he
  split
  ·lia
  ·split
   ·lia
   ·split
    ·lia
    ·split<;>lia
noncomputable def gS(T n:Nat)(S:List Nat)(z:Nat):Nat:=if T+n<=z/\z - (T+n)∈S then z - n else z
noncomputable def dC(T n:Nat)(S:List Nat):List (Nat×Nat):=S.map fun i=>(T+i,T+n+i)
theorem Ny{N:Nat}{l:List (Nat×Nat)}{x q:Nat}(hl:e_ N l)(h:∀e,e∈l->e.1≠q/\e.2≠q)(hx:x<N)(hq:q<N)(xq:x≠q):
  pieces N (l++[(x,q)])+1=pieces N l/\∀i j,i<N->j<N->(Cn N (l++[(x,q)]) i j↔Cn N l (if i=q then x else i) (if j=q then x else j)):=by
 have al:∀j,j<N->Cn N l q j->j=q:=fun j hj c=>Cn.alone hl h hq hj c
 constructor
 ·have:=sU (N:=N) (l:=l) hx hq
  rw[ae (fun c=>xq (al x hx c.symm))]at this
  exact this
 ·intro i j hi hj
  rw[Cn.snoc hi hj]
  by_cases c1:i=q
  ·by_cases c2:j=q
   ·rw[af c1,af c2,c1,c2]
    exact⟨fun _=>rfl,fun _=>.inl rfl⟩
   ·rw[af c1,ae c2,c1]
    constructor
    ·rintro(c|⟨c,d⟩|⟨c,d⟩)
     ·exact absurd (al j hj c) c2
     ·exact absurd (al x hx c) xq
     ·exact d.symm
    ·intro c
     exact .inr (.inr ⟨rfl,c.symm⟩)
  ·by_cases c2:j=q
   ·rw[ae c1,af c2,c2]
    constructor
    ·rintro(c|⟨c,d⟩|⟨c,d⟩)
     ·exact absurd (al i hi c.symm) c1
     ·exact c
     ·exact absurd (al x hx d) xq
    ·intro c
     exact .inr (.inl ⟨c,rfl⟩)
   ·rw[ae c1,ae c2]
    constructor
    ·rintro(c|⟨c,d⟩|⟨c,d⟩)
     ·exact c
     ·exact absurd (al j hj d.symm) c2
     ·exact absurd (al i hi c.symm) c1
    ·exact .inl
theorem zw{N T n:Nat}(hN:T+n+n<=N):∀(S:List Nat) {l:List (Nat×Nat)},e_ N l->S.Nodup->(∀i,i∈S->i<n)->(∀i,i∈S->∀e,e∈l->e.1≠T+n+i/\e.2≠T+n+i)->
  e_ N (l++dC T n S)/\pieces N (l++dC T n S)+S.length=pieces N l/\∀i j,i<N->j<N->(Cn N (l++dC T n S) i j↔Cn N l (gS T n S i) (gS T n S j))
 |[],l,hl,_,_,_=>by
  have e:l++dC T n []=l:=fB l
  rw[e]
  have h:∀z,gS T n [] z=z:=fun z=>by unfold gS;rw[ae];simp
  refine⟨hl,rfl,fun i j _ _=>by rw[h,h]⟩
 |i::S,l,hl,nd,hS,hf=>by
  have hi:=hS i bE
  have nd':=kZ.mp nd
  have one:=Ny (N:=N) (l:=l) (x:=T+i) (q:=T+n+i) hl (hf i bE) (by lia) (by lia) (by lia)
  have hl1:e_ N (l++[(T+i,T+n+i)]):=hl.append fun e he=>by rw[gz.mp he];exact⟨by show T+i<N;lia,by show T+n+i<N;lia⟩
  have rest:=zw hN S (l:=l++[(T+i,T+n+i)]) hl1 nd'.2 (fun j hj=>hS j (bI _ hj)) (fun j hj e he=>by
   rcases dU.mp he with he|he
   ·exact hf j (bI _ hj) e he
   ·rw[gz.mp he]
    have h1:=hS j (bI _ hj)
    have:j≠i:=fun q=>nd'.1 (by rw[<-q];exact hj)
    exact⟨by show T+i≠T+n+j;lia,by show T+n+i≠T+n+j;lia⟩)
  have e:l++dC T n (i::S)=(l++[(T+i,T+n+i)])++dC T n S:=by
   rw[dM];rfl
  rw[e]
  refine⟨rest.1,?_,fun a b ha hb=>?_⟩
  ·have:=rest.2.1
   have:=one.1
   rw[bO];lia
  ·have hlt:∀z,z<N->gS T n S z<N:=fun z hz=>by unfold gS;split<;>lia
   rw[rest.2.2 a b ha hb,one.2 _ _ (hlt a ha) (hlt b hb)]
   have hh:∀z,(if gS T n S z=T+n+i then T+i else gS T n S z)=gS T n (i::S) z:=by
    intro z
    unfold gS
    by_cases c:T+n<=z/\z - (T+n)∈S
    ·have:=hS (z - (T+n)) (bI _ c.2)
     rw[af c,ae (by lia),af ⟨c.1,bI _ c.2⟩]
    ·rw[ae c]
     by_cases d:z=T+n+i
     ·rw[af d,af ⟨by lia,by rw[d,show T+n+i - (T+n)=i by lia];exact bE⟩]
      lia
     ·rw[ae d,ae]
      rintro⟨q1,q2⟩
      rcases bY.mp q2 with q3|q3
      ·lia
      ·exact c ⟨q1,q3⟩
   rw[hh,hh]
noncomputable def pt(n T e:Nat):Nat:=if e<n then e else T+(e - n)
structure Lv(n N T:Nat)(l:List (Nat×Nat))(p:List Nat)(L:Nat):Prop where
 zx:e_ N l
 low:∀e,e∈l->e.1<T+n/\e.2<T+n
 inv:Inv2 n p
 cn:∀e e',e<2 * n->e'<2 * n->(Cn N l (pt n T e) (pt n T e')↔e'=e\/e'=mk p e)
 cnt:pieces N l+(T+n)=n+L+N
theorem j5{n N T e:Nat}(hN:T+n<=N)(he:e<2 * n):pt n T e<N:=by unfold pt;split<;>lia
theorem zy{n T e:Nat}{S:List Nat}(he:e<2 * n)(h:n<=e->e - n∈S):gS T n S (pt n (T+n) e)=pt n T e:=by
 unfold gS pt
 by_cases c:e<n
 ·rw[af c,af c,ae]
  rintro⟨q,_⟩;lia
 ·rw[ae c,ae c,af ⟨by lia,by rw[show T+n+(e - n) - (T+n)=e - n by lia];exact h (by lia)⟩]
  lia
theorem zz{n T z:Nat}{S:List Nat}(h:z<T+n):gS T n S z=z:=by
 unfold gS;rw[ae];rintro⟨q,_⟩;lia
theorem Nz{n N:Nat}(hN:n<=N):Lv n N 0 [] (lU n) 0:=by
 refine⟨fun e he=>(by cases he),fun e he=>(by cases he),Gj,fun e e' h h'=>?_,by rw[Nv];lia⟩
 rw[qg h]
 have hp:=j5 (T:=0) (by lia) h (N:=N)
 have hp':=j5 (T:=0) (by lia) h' (N:=N)
 have:Cn N [] (pt n 0 e) (pt n 0 e')↔pt n 0 e'=pt n 0 e:=⟨fun c=>Cn.alone (fun e he=>(by cases he)) (fun e he=>(by cases he)) hp hp' c,fun q=>by rw[q];exact rfl⟩
 rw[this]
 unfold pt
 split<;>split<;>lia
theorem Gm{T n:Nat}{S:List Nat}(h:∀i,i∈S->i<n):∀e,e∈dC T n S->e.1<T+n+n/\e.2<T+n+n:=fun e he=>by
 obtain⟨i,hi,rfl⟩:=bZ.mp he
 have:=h i hi
 exact⟨by show T+i<T+n+n;lia,by show T+n+i<T+n+n;lia⟩
theorem NA{n N T:Nat}{l:List (Nat×Nat)}{p:List Nat}{L:Nat}(hN:T+n+n<=N)(h:Lv n N T l p L):Lv n N (T+n) (l++dC T n (List.range n)) p L:=by
 have hr:∀i,i∈List.range n->i<n:=fun i hi=>a6.mp hi
 obtain⟨h1,h2,h3⟩:=zw hN (List.range n) h.zx o8 hr fun i _ e he=>by
  have:=h.low e he
  exact⟨by lia,by lia⟩
 refine⟨h1,fun e he=>?_,h.inv,fun e e' he he'=>?_,?_⟩
 ·rcases dU.mp he with he|he
  ·have:=h.low e he
   exact⟨by lia,by lia⟩
  ·exact Gm hr e he
 ·rw[h3 _ _ (j5 (by lia) he) (j5 (by lia) he'),zy he (fun q=>a6.mpr (by lia)),zy he' (fun q=>a6.mpr (by lia)),h.cn e e' he he']
 ·have:=h.cnt
  rw[cD]at h2
  lia
theorem Gn:∀(n a:Nat),a+1<n->((List.range n).filter fun i=>decide (i≠a/\i≠a+1)).length+2=n
 |0,a,h=>by lia
 |n+1,a,h=>by
  rw[i6,uz,bF]
  by_cases c:a+1<n
  ·have ih:=Gn n a c
   rw[o7 (by simp;lia),rg,o3]
   lia
  ·have e:n=a+1:=by lia
   subst e
   rw[uw (by simp),rg,i6,uz,uw (by simp),rg,rf.mpr (fun x hx=>by
    have:=a6.mp hx
    simp;lia)]
   simp
theorem NB{n N T a:Nat}{l:List (Nat×Nat)}{p:List Nat}{L:Nat}(hN:T+n+n<=N)(ha:a+1<n)(h:Lv n N T l p L):
  Lv n N (T+n) (l++dC T n ((List.range n).filter fun i=>decide (i≠a/\i≠a+1))++[(T+a,T+(a+1))]++[(T+n+a,T+n+(a+1))])
   (if mk p (n+a)=n+(a+1) then p else mU p (n+a) (n+(a+1))) (if mk p (n+a)=n+(a+1) then L+1 else L):=by
 have hS:∀i,i∈(List.range n).filter (fun i=>decide (i≠a/\i≠a+1))↔i<n/\i≠a/\i≠a+1:=fun i=>by
  rw[i4,a6,mB]
 have hlen:=Gn n a ha
 have nd:((List.range n).filter fun i=>decide (i≠a/\i≠a+1)).Nodup:=List.Pairwise.filter _ o8
 generalize (List.range n).filter (fun i=>decide (i≠a/\i≠a+1))=S at *
 have hr:∀i,i∈S->i<n:=fun i hi=>((hS i).mp hi).1
 obtain⟨h1,h2,h3⟩:=zw hN S h.zx nd hr fun i _ e he=>by
  have:=h.low e he
  exact⟨by lia,by lia⟩
 have hx:n+a<2 * n:=by lia
 have hy:n+(a+1)<2 * n:=by lia
 have ptx:pt n T (n+a)=T+a:=by unfold pt;rw[ae (by lia)];lia
 have pty:pt n T (n+(a+1))=T+(a+1):=by unfold pt;rw[ae (by lia)];lia
 have cuv:Cn N (l++dC T n S) (T+a) (T+(a+1))↔mk p (n+a)=n+(a+1):=by
  rw[h3 _ _ (by lia) (by lia),zz (by lia),zz (by lia),<-ptx,<-pty,h.cn _ _ hx hy]
  lia
 have e2:e_ N (l++dC T n S++[(T+a,T+(a+1))]):=h1.append fun e he=>by rw[gz.mp he];exact⟨by show T+a<N;lia,by show T+(a+1)<N;lia⟩
 have un:∀b,b=a\/b=a+1->∀e,e∈l++dC T n S++[(T+a,T+(a+1))]->e.1≠T+n+b/\e.2≠T+n+b:=by
  intro b hb e he
  rcases dU.mp he with he|he
  ·rcases dU.mp he with he|he
   ·have:=h.low e he
    exact⟨by lia,by lia⟩
   ·obtain⟨i,hi,rfl⟩:=bZ.mp he
    have:=(hS i).mp hi
    exact⟨by show T+i≠T+n+b;lia,by show T+n+i≠T+n+b;lia⟩
  ·rw[gz.mp he]
   exact⟨by show T+a≠T+n+b;lia,by show T+(a+1)≠T+n+b;lia⟩
 have al:∀b,b=a\/b=a+1->∀j,j<N->Cn N (l++dC T n S++[(T+a,T+(a+1))]) (T+n+b) j->j=T+n+b:=fun b hb j hj c=>Cn.alone e2 (un b hb) (by lia) hj c
 have out:∀e e',e<2 * n->e'<2 * n->e≠n+a->e≠n+(a+1)->e'≠n+a->e'≠n+(a+1)->
   (Cn N (l++dC T n S++[(T+a,T+(a+1))]) (pt n (T+n) e) (pt n (T+n) e')↔(e'=e\/e'=mk p e)\/(e=mk p (n+a)/\e'=mk p (n+(a+1)))\/(e=mk p (n+(a+1))/\e'=mk p (n+a))):=by
  intro e e' he he' k1 k2 k3 k4
  have g:∀z,z<2 * n->z≠n+a->z≠n+(a+1)->gS T n S (pt n (T+n) z)=pt n T z:=fun z hz z1 z2=>zy hz fun q=>(hS _).mpr ⟨by lia,by lia,by lia⟩
  have pz:∀z,z<2 * n->pt n (T+n) z<N:=fun z hz=>j5 (by lia) hz
  have iff1:∀z,z<2 * n->z≠n+a->z≠n+(a+1)->∀b,b=a\/b=a+1->(Cn N (l++dC T n S) (pt n (T+n) z) (T+b)↔z=mk p (n+b)):=by
   intro z hz z1 z2 b hb
   have pb:pt n T (n+b)=T+b:=by unfold pt;rw[ae (by lia)];lia
   rw[h3 _ _ (pz z hz) (by lia),g z hz z1 z2,zz (by lia),<-pb,h.cn z (n+b) hz (by lia)]
   have i1:=h.inv.inv z hz
   have i2:=h.inv.inv (n+b) (by lia)
   constructor
   ·rintro(q|q)
    ·lia
    ·rw[q];exact i1.symm
   ·intro q
    exact .inr (by rw[q];exact i2.symm)
  rw[Cn.snoc (pz e he) (pz e' he'),h3 _ _ (pz e he) (pz e' he'),g e he k1 k2,g e' he' k3 k4,h.cn e e' he he',
   iff1 e he k1 k2 a (.inl rfl),iff1 e' he' k3 k4 a (.inl rfl),iff1 e he k1 k2 (a+1) (.inr rfl),iff1 e' he' k3 k4 (a+1) (.inr rfl)]
 have pq:∀b,pt n (T+n) (n+b)=T+n+b:=fun b=>by unfold pt;rw[ae (by lia)];lia
 have ptinj:∀z b,z<2 * n->b=a\/b=a+1->pt n (T+n) z=T+n+b->z=n+b:=fun z b hz hb q=>by unfold pt at q;split at q<;>lia
 refine⟨e2.append fun e he=>by rw[gz.mp he];exact⟨by show T+n+a<N;lia,by show T+n+(a+1)<N;lia⟩,fun e he=>?_,?_,fun e e' he he'=>?_,?_⟩
 ·rcases dU.mp he with he|he
  ·rcases dU.mp he with he|he
   ·rcases dU.mp he with he|he
    ·have:=h.low e he
     exact⟨by lia,by lia⟩
    ·exact Gm hr e he
   ·rw[gz.mp he]
    exact⟨by show T+a<T+n+n;lia,by show T+(a+1)<T+n+n;lia⟩
  ·rw[gz.mp he]
   exact⟨by show T+n+a<T+n+n;lia,by show T+n+(a+1)<T+n+n;lia⟩
 ·split
  ·exact h.inv
  ·rename_i k
   exact Gk h.inv hx hy (by lia) k
 ·rw[Cn.snoc (j5 (by lia) he) (j5 (by lia) he')]
  have qx:∀z,z<2 * n->∀b,b=a\/b=a+1->(Cn N (l++dC T n S++[(T+a,T+(a+1))]) (pt n (T+n) z) (T+n+b)↔z=n+b):=by
   intro z hz b hb
   constructor
   ·intro c
    exact ptinj z b hz hb (al b hb _ (j5 (by lia) hz) c.symm)
   ·intro q
    rw[q,pq];exact rfl
  rw[qx e he a (.inl rfl),qx e he (a+1) (.inr rfl),qx e' he' a (.inl rfl),qx e' he' (a+1) (.inr rfl)]
  have ix:=h.inv.inv (n+a) hx
  have iy:=h.inv.inv (n+(a+1)) hy
  have fx:=h.inv.fp (n+a) hx
  have fy:=h.inv.fp (n+(a+1)) hy
  have ie:=h.inv.inv e he
  have mp:mk (if mk p (n+a)=n+(a+1) then p else mU p (n+a) (n+(a+1))) e=if e=n+(a+1) then n+a else if e=n+a then n+(a+1) else if e=mk p (n+(a+1)) then mk p (n+a) else if e=mk p (n+a) then mk p (n+(a+1)) else mk p e:=by
   by_cases k:mk p (n+a)=n+(a+1)
   ·rw[af k]
    have k':mk p (n+(a+1))=n+a:=by rw[<-k];exact ix
    rw[k,k']
    by_cases c1:e=n+(a+1)
    ·rw[af c1,c1,k']
    ·rw[ae c1]
     by_cases c2:e=n+a
     ·rw[af c2,c2,k]
     ·rw[ae c2,ae c2,ae c1]
   ·rw[ae k,lV h.inv hx hy]
  rw[mp]
  by_cases c1:e=n+(a+1)
  ·rw[af c1]
   have:Cn N (l++dC T n S++[(T+a,T+(a+1))]) (pt n (T+n) e) (pt n (T+n) e')↔e'=e:=by
    rw[c1,pq]
    constructor
    ·intro c
     exact ptinj e' (a+1) he' (.inr rfl) (al (a+1) (.inr rfl) _ (j5 (by lia) he') c)
    ·intro q
     rw[q,pq];exact rfl
   rw[this];lia
  ·rw[ae c1]
   by_cases c2:e=n+a
   ·rw[af c2]
    have:Cn N (l++dC T n S++[(T+a,T+(a+1))]) (pt n (T+n) e) (pt n (T+n) e')↔e'=e:=by
     rw[c2,pq]
     constructor
     ·intro c
      exact ptinj e' a he' (.inl rfl) (al a (.inl rfl) _ (j5 (by lia) he') c)
     ·intro q
      rw[q,pq];exact rfl
    rw[this];lia
   ·rw[ae c2]
    by_cases d1:e'=n+(a+1)
    ·have:¬Cn N (l++dC T n S++[(T+a,T+(a+1))]) (pt n (T+n) e) (pt n (T+n) e'):=by
      rw[d1,pq,qx e he (a+1) (.inr rfl)];exact c1
     have np:¬e'=(if e=mk p (n+(a+1)) then mk p (n+a) else if e=mk p (n+a) then mk p (n+(a+1)) else mk p e):=by
      rw[d1]
      split
      ·rename_i q
       intro z
       exact c2 (by rw[q,z];exact ix)
      ·split
       ·exact fun z=>fy z.symm
       ·rename_i q1 q2
        intro z
        exact q1 (by rw[z];exact ie.symm)
     constructor
     ·rintro(q|q|q)
      ·exact absurd q this
      ·lia
      ·lia
     ·rintro(q|q)
      ·lia
      ·exact absurd q np
    ·by_cases d2:e'=n+a
     ·have:¬Cn N (l++dC T n S++[(T+a,T+(a+1))]) (pt n (T+n) e) (pt n (T+n) e'):=by
       rw[d2,pq,qx e he a (.inl rfl)];exact c2
      have np:¬e'=(if e=mk p (n+(a+1)) then mk p (n+a) else if e=mk p (n+a) then mk p (n+(a+1)) else mk p e):=by
       rw[d2]
       split
       ·exact fun z=>fx z.symm
       ·split
        ·rename_i q
         intro z
         exact c1 (by rw[q,z];exact iy)
        ·rename_i q1 q2
         intro z
         exact q2 (by rw[z];exact ie.symm)
      constructor
      ·rintro(q|q|q)
       ·exact absurd q this
       ·lia
       ·lia
      ·rintro(q|q)
       ·lia
       ·exact absurd q np
     ·rw[out e e' he he' c2 c1 d2 d1,or_iff_left (show ¬(e=n+a/\e'=n+(a+1)\/e=n+(a+1)/\e'=n+a) by lia)]
      by_cases k1:e=mk p (n+(a+1))
      ·rw[af k1]
       have me:mk p e=n+(a+1):=by rw[k1];exact iy
       rw[me]
       constructor
       ·rintro((q|q)|q|q)
        ·exact .inl q
        ·exact absurd q d1
        ·exfalso
         have:mk p (n+a)=mk p (n+(a+1)):=q.1.symm.trans k1
         have:n+a=n+(a+1):=by rw[<-ix,this,iy]
         lia
        ·exact .inr q.2
       ·rintro(q|q)
        ·exact .inl (.inl q)
        ·exact .inr (.inr ⟨k1,q⟩)
      ·rw[ae k1]
       by_cases k2:e=mk p (n+a)
       ·rw[af k2]
        have me:mk p e=n+a:=by rw[k2];exact ix
        rw[me]
        constructor
        ·rintro((q|q)|q|q)
         ·exact .inl q
         ·exact absurd q d2
         ·exact .inr q.2
         ·exact absurd q.1 k1
        ·rintro(q|q)
         ·exact .inl (.inl q)
         ·exact .inr (.inl ⟨k2,q⟩)
       ·rw[ae k2]
        constructor
        ·rintro(q|q|q)
         ·exact q
         ·exact absurd q.1 k2
         ·exact absurd q.1 k1
        ·exact .inl
 ·have c:=h.cnt
  have s1:=sU (N:=N) (l:=l++dC T n S) (x:=T+a) (y:=T+(a+1)) (by lia) (by lia)
  have s2:=sU (N:=N) (l:=l++dC T n S++[(T+a,T+(a+1))]) (x:=T+n+a) (y:=T+n+(a+1)) (by lia) (by lia)
  rw[ae (fun c=>by have:=al a (.inl rfl) _ (by lia) c;lia)]at s2
  by_cases k:mk p (n+a)=n+(a+1)
  ·rw[af k]
   rw[af (cuv.mpr k)]at s1
   lia
  ·rw[ae k]
   rw[ae (fun c=>k (cuv.mp c))]at s1
   lia
end BB
end
section
namespace BB
open Wqaraq
noncomputable def Pe(n:Nat)(p:List Nat):List (Nat×Nat):=(List.range (2 * n)).map fun e=>(e,mk p e)
noncomputable def Je(n k:Nat):List (Nat×Nat):=(List.range k).map fun i=>(n+i,i)
noncomputable def Cl(T k:Nat):List (Nat×Nat):=(List.range k).map fun i=>(T+i,i)
theorem zA{n:Nat}{p:List Nat}(h:Inv2 n p):e_ (2 * n) (Pe n p):=fun e he=>by
 obtain⟨i,hi,rfl⟩:=bZ.mp he
 have:=a6.mp hi
 exact⟨this,h.lt i this⟩
theorem NC{n k:Nat}(hk:k<=n):e_ (2 * n) (Je n k):=fun e he=>by
 obtain⟨i,hi,rfl⟩:=bZ.mp he
 have:=a6.mp hi
 exact⟨by show n+i<2 * n;lia,by show i<2 * n;lia⟩
theorem zB{n:Nat}{p:List Nat}(h:Inv2 n p){e e':Nat}(he:e<2 * n)(he':e'<2 * n):Cn (2 * n) (Pe n p) e e'↔e'=e\/e'=mk p e:=by
 constructor
 ·intro c
  refine(Cn.least (fun z=>z=e\/z=mk p e) (zA h) (fun x hx=>?_) he he' c).mp (.inl rfl)
  obtain⟨i,hi,rfl⟩:=bZ.mp hx
  have hi:=a6.mp hi
  have ii:=h.inv i hi
  have ie:=h.inv e he
  show (i=e\/i=mk p e)↔(mk p i=e\/mk p i=mk p e)
  constructor
  ·rintro(q|q)
   ·exact .inr (by rw[q])
   ·exact .inl (by rw[q];exact ie)
  ·rintro(q|q)
   ·exact .inr (by rw[<-q];exact ii.symm)
   ·exact .inl (by rw[<-ii,q];exact ie)
 ·rintro(q|q)
  ·rw[q];exact rfl
  ·rw[q]
   exact Cn.sT (zA h) (bZ.mpr ⟨e,a6.mpr he,rfl⟩)
theorem ND{n:Nat}{p:List Nat}(h:Inv2 n p):((List.range (2 * n)).map (mk p)).Perm (List.range (2 * n)):=by
 refine(List.perm_ext_iff_of_nodup ?_ o8).mpr fun a=>?_
 ·rw[List.Nodup,List.pairwise_map]
  refine List.Pairwise.imp_of_mem (fun {a b} ha hb hab=>?_) o8
  intro q
  exact hab (by rw[<-h.inv a (a6.mp ha),q,h.inv b (a6.mp hb)])
 ·constructor
  ·intro q
   obtain⟨i,hi,rfl⟩:=bZ.mp q
   exact a6.mpr (h.lt i (a6.mp hi))
  ·intro q
   have q:=a6.mp q
   exact bZ.mpr ⟨mk p a,a6.mpr (h.lt a q),h.inv a q⟩
theorem NF{n:Nat}{p:List Nat}(h:Inv2 n p):pieces (2 * n) (Pe n p)=n:=by
 have e1:(List.range (2 * n)).countP (dz (joined (2 * n) (Pe n p)))=(List.range (2 * n)).countP (fun e=>decide (e<mk p e)):=by
  refine ng fun e he=>?_
  have he:=a6.mp he
  rw[n_,mB]
  have fe:=h.fp e he
  have ie:=h.inv e he
  constructor
  ·intro q
   by_cases c:mk p e<e
   ·exact absurd ((zB h (h.lt e he) he).mpr (.inr ie.symm)) (q _ c)
   ·lia
  ·intro q j hj c
   rcases(zB h (e:=j) (by lia) he).mp c with z|z
   ·lia
   ·have:=h.inv j (by lia)
    rw[<-z]at this
    lia
 have e2:(List.range (2 * n)).countP (fun e=>decide (e<mk p e))=(List.range (2 * n)).countP (fun e=>decide (mk p e<e)):=by
  rw[<-(ND h).countP_eq,List.countP_map]
  refine ng fun e he=>?_
  have ie:=h.inv e (a6.mp he)
  show decide (mk p e<mk p (mk p e))=true↔_
  rw[ie]
 have e3:(List.range (2 * n)).countP (fun e=>decide (e<mk p e))+(List.range (2 * n)).countP (fun e=>decide (mk p e<e))=2 * n:=by
  have:=List.length_eq_countP_add_countP (fun e=>decide (e<mk p e)) (l:=List.range (2 * n))
  rw[cD]at this
  have e:(List.range (2 * n)).countP (fun a=>decide ¬decide (a<mk p a)=true)=(List.range (2 * n)).countP (fun e=>decide (mk p e<e)):=by
   refine ng fun e he=>?_
   have fe:=h.fp e (a6.mp he)
   simp only [mB]
   lia
  rw[e]at this
  exact this.symm
 rw[zt,e1]
 lia
theorem Gp{n N T:Nat}{l:List (Nat×Nat)}{p:List Nat}{L:Nat}(h:Lv n N T l p L)(hN:N=T+n):∀k,k<=n->
  (∀e e',e<2 * n->e'<2 * n->(Cn N (l++Cl T k) (pt n T e) (pt n T e')↔Cn (2 * n) (Pe n p++Je n k) e e'))/\pieces N (l++Cl T k)=L+pieces (2 * n) (Pe n p++Je n k)
 |0,_=>by
  have e1:l++Cl T 0=l:=fB l
  have e2:Pe n p++Je n 0=Pe n p:=fB _
  rw[e1,e2,NF h.inv]
  refine⟨fun e e' he he'=>by rw[h.cn e e' he he',zB h.inv he he'],?_⟩
  have:=h.cnt
  lia
 |k+1,hk=>by
  obtain⟨ih1,ih2⟩:=Gp h hN k (by lia)
  have e1:l++Cl T (k+1)=l++Cl T k++[(pt n T (n+k),pt n T k)]:=by
   unfold Cl
   rw[i6,cQ,<-dM]
   unfold pt
   rw[ae (by lia),af (by lia),show n+k - n=k by lia]
   rfl
  have e2:Pe n p++Je n (k+1)=Pe n p++Je n k++[(n+k,k)]:=by
   unfold Je
   rw[i6,cQ,<-dM]
   rfl
  have hp:∀e,e<2 * n->pt n T e<N:=fun e he=>j5 (by lia) he
  have h1:n+k<2 * n:=by lia
  have h2:k<2 * n:=by lia
  rw[e1,e2]
  refine⟨fun e e' he he'=>?_,?_⟩
  ·rw[Cn.snoc (hp e he) (hp e' he'),Cn.snoc he he',ih1 e e' he he',ih1 e (n+k) he h1,ih1 e' k he' h2,ih1 e k he h2,ih1 e' (n+k) he' h1]
  ·have s1:=sU (N:=N) (l:=l++Cl T k) (hp (n+k) h1) (hp k h2)
   have s2:=sU (N:=2 * n) (l:=Pe n p++Je n k) h1 h2
   by_cases c:Cn (2 * n) (Pe n p++Je n k) (n+k) k
   ·rw[af c]at s2
    rw[af ((ih1 _ _ h1 h2).mpr c)]at s1
    lia
   ·rw[ae c]at s2
    rw[ae (fun z=>c ((ih1 _ _ h1 h2).mp z))]at s1
    lia
noncomputable def Ee(n:Nat)(p:List Nat):List (Nat×Nat):=Pe n p++Je n n
theorem vF{n:Nat}{p:List Nat}(h:Inv2 n p):e_ (2 * n) (Ee n p):=(zA h).append (NC (aX _))
noncomputable def fU(n:Nat)(p:List Nat):Nat:=(List.range n).countP (dz (joined (2 * n) (Ee n p)))
theorem NG{n:Nat}{p:List Nat}(h:Inv2 n p):pieces (2 * n) (Ee n p)=fU n p:=by
 rw[zt,Nat.two_mul,List.range_add,pj,<-Nat.two_mul]
 have:((List.range n).map fun x=>n+x).countP (dz (joined (2 * n) (Ee n p)))=0:=by
  rw[ux]
  intro e he
  obtain⟨i,hi,rfl⟩:=bZ.mp he
  have hi:=a6.mp hi
  rw[n_]
  intro q
  refine q i (by lia) ?_
  exact(Cn.sT (vF h) (d_ _ (bZ.mpr ⟨i,a6.mpr hi,rfl⟩))).symm
 rw[this];rfl
theorem Lv.closed{n N T:Nat}{l:List (Nat×Nat)}{p:List Nat}{L:Nat}(h:Lv n N T l p L)(hN:N=T+n):pieces N (l++Cl T n)=L+fU n p:=by
 rw[(Gp h hN n (aX _)).2,<-NG h.inv];rfl
noncomputable def over(n x:Nat):Nat:=(x+n) % (2 * n)
theorem Gq{n x:Nat}(hn:0<n):over n x<2 * n:=Nat.mod_lt _ (by lia)
theorem qh{n x:Nat}(h:x<2 * n):(x<n/\over n x=x+n)\/(n<=x/\over n x=x - n):=by
 unfold over
 by_cases c:x<n
 ·exact .inl ⟨c,rh (by lia)⟩
 ·refine .inr ⟨by lia,?_⟩
  rw[show x+n=x - n+2 * n by lia,Nat.add_mod_right,rh (by lia)]
theorem over_over{n x:Nat}(h:x<2 * n):over n (over n x)=x:=by
 rcases qh h with ⟨c,e⟩|⟨c,e⟩
 ·rcases qh (n:=n) (x:=over n x) (by lia) with ⟨d,f⟩|⟨d,f⟩<;>lia
 ·rcases qh (n:=n) (x:=over n x) (by lia) with ⟨d,f⟩|⟨d,f⟩<;>lia
theorem sV{n x:Nat}(h:x<2 * n):(x<n/\x % n=x)\/(n<=x/\x % n=x - n):=by
 by_cases c:x<n
 ·exact .inl ⟨c,rh c⟩
 ·refine .inr ⟨by lia,?_⟩
  rw[Nat.mod_eq_sub_mod (by lia),rh (by lia)]
theorem vG{n x:Nat}(h:x<2 * n):over n x % n=x % n:=by
 unfold over;rw[Nat.mod_mul_left_mod,Nat.add_mod_right]
theorem Gs{n x y:Nat}(hx:x<2 * n)(hy:y<2 * n)(h:x % n=y % n):x=y\/x=over n y:=by
 rcases sV hx with ⟨a,e⟩|⟨a,e⟩<;>rcases sV hy with ⟨b,f⟩|⟨b,f⟩<;>rw[e,f]at h<;>rcases qh hy with ⟨c,g⟩|⟨c,g⟩<;>rw[g]<;>lia
section
variable{n:Nat}{p:List Nat}(h:Inv2 n p)(hn:0<n)
include h
noncomputable def bD(n:Nat)(p:List Nat)(e:Nat):Nat:=over n (mk p e)
include hn
theorem sW{s:Nat}(hs:s<2 * n):∀i,it (bD n p) i s<2 * n
 |0=>hs
 |i+1=>Gq hn
theorem zC{e:Nat}(he:e<2 * n):Cn (2 * n) (Ee n p) e (e % n):=by
 rcases sV he with ⟨c,q⟩|⟨c,q⟩
 ·rw[q];exact rfl
 ·rw[q]
  have:=Cn.sT (vF h) (x:=n+(e - n)) (y:=e - n) (d_ _ (bZ.mpr ⟨e - n,a6.mpr (by lia),rfl⟩))
  rwa[show n+(e - n)=e by lia]at this
theorem NH{e:Nat}(he:e<2 * n):Cn (2 * n) (Ee n p) e (over n e):=by
 have:=(zC h hn (Gq hn (n:=n) (x:=e))).symm
 rw[vG he]at this
 exact(zC h hn he).trans this
theorem NI{e:Nat}(he:e<2 * n):Cn (2 * n) (Ee n p) e (mk p e):=Cn.sT (vF h) (jF _ (bZ.mpr ⟨e,a6.mpr he,rfl⟩))
theorem Gu{s:Nat}(hs:s<2 * n):∀i,Cn (2 * n) (Ee n p) s (it (bD n p) i s)
 |0=>rfl
 |i+1=>(Gu hs i).trans ((NI h hn (sW h hn hs i)).trans (NH h hn (h.lt _ (sW h hn hs i))))
theorem NJ{s k i:Nat}(hs:s<n)(hi:i<k)(hd:∀a b,a<k->b<k->it (bD n p) a s % n=it (bD n p) b s % n->a=b)(he:it (bD n p) k s % n=it (bD n p) i s % n)
  {q:Nat}(hq:q<n)(c:Cn (2 * n) (Ee n p) s q):∃j,j<k/\it (bD n p) j s % n=q:=by
 have hs2:s<2 * n:=by lia
 have lt:=fun j=>sW h hn hs2 j
 have bU:∀j,it (bD n p) (j+1) s=over n (mk p (it (bD n p) j s)):=fun j=>rfl
 have pl:∀j,mk p (it (bD n p) j s)<2 * n:=fun j=>h.lt _ (lt j)
 have bk:∀j,mk p (over n (it (bD n p) (j+1) s))=it (bD n p) j s:=fun j=>by
  rw[bU,over_over (pl j),h.inv _ (lt j)]
 have last:mk p (over n s)=it (bD n p) (k - 1) s:=by
  obtain⟨k',rfl⟩:∃k',k=k'+1:=⟨k - 1,by lia⟩
  rcases Gs (lt (k'+1)) (lt i) he with e|e
  ·cases i with
   |zero=>
    have:over n s=over n (it (bD n p) (k'+1) s):=by rw[e];rfl
    rw[this];exact bk k'
   |succ i=>
    have z:=bk k'
    rw[e,bk i]at z
    have:=hd i k' (by lia) (by lia) (by rw[z])
    lia
  ·have z:=bk k'
   rw[e,over_over (lt i)]at z
   by_cases d:i+1<k'+1
   ·have:it (bD n p) (i+1) s % n=it (bD n p) k' s % n:=by rw[bU,z,vG (lt k')]
    have:=hd (i+1) k' d (by lia) this
    rw[<-this]at z
    rw[bU,]at z
    have o:=qh (n:=n) (x:=mk p (it (bD n p) i s)) (pl i)
    lia
   ·have:i=k':=by lia
    rw[this]at z
    exact absurd z (h.fp _ (lt k'))
 have V:∀e,e<2 * n->(∃j,j<k/\it (bD n p) j s % n=e % n)->∃j,j<k/\it (bD n p) j s % n=mk p e % n:=by
  rintro e he' ⟨j,hj,ej⟩
  rcases Gs he' (lt j) ej.symm with z|z
  ·rw[z]
   by_cases d:j+1<k
   ·exact⟨j+1,d,by rw[bU,vG (pl j)]⟩
   ·have:j+1=k:=by lia
    exact⟨i,hi,by rw[<-he,<-this,bU,vG (pl j)]⟩
  ·cases j with
   |zero=>
    rw[z]
    exact⟨k - 1,by lia,by rw[<-last];rfl⟩
   |succ j=>
    rw[z,bk j]
    exact⟨j,by lia,rfl⟩
 have:=(Cn.least (fun z=>∃j,j<k/\it (bD n p) j s % n=z % n) (vF h) (fun e hE=>?_) hs2 (by lia) c).mp ⟨0,by lia,rfl⟩
 ·obtain⟨j,hj,ej⟩:=this
  exact⟨j,hj,by rw[ej,rh hq]⟩
 ·rcases dU.mp hE with hE|hE
  ·obtain⟨e',h',rfl⟩:=bZ.mp hE
   have h':=a6.mp h'
   constructor
   ·exact V e' h'
   ·intro z
    have:=V (mk p e') (h.lt _ h') z
    rwa[h.inv e' h']at this
  ·obtain⟨e',h',rfl⟩:=bZ.mp hE
   have h':=a6.mp h'
   show (∃j,j<k/\it (bD n p) j s % n=(n+e') % n)↔(∃j,j<k/\it (bD n p) j s % n=e' % n)
   rw[Nat.add_mod_left]
end
structure bN where
 p:List Nat
 L:Nat
 ex:Int
noncomputable def sg(c:Int):Int:=if 0<c then 1 else -1
noncomputable def bU(n:Nat)(P:bN)(c:Int)(b:Bool):bN:=
 if b=false then ⟨P.p,P.L,P.ex+sg c⟩
 else if mk P.p (n+(c.natAbs - 1))=n+(c.natAbs - 1+1) then ⟨P.p,P.L+1,P.ex - sg c⟩ else ⟨mU P.p (n+(c.natAbs - 1)) (n+(c.natAbs - 1+1)),P.L,P.ex - sg c⟩
noncomputable def dY(n:Nat):bN->Row->List Bool->bN
 |P,c::w,b::s=>dY n (bU n P c b) w s
 |P,_,_=>P
theorem NK{n t:Nat}{c:Int}:level n t c false=dC (t * n) n (List.range n):=by
 unfold level dC
 simp only [Bool.not_false,Bool.true_or]
 rw[rf.mpr (fun _ _=>rfl)]
 simp only [Bool.false_eq_true,if_false,fB]
 refine gX fun i _=>?_
 rw[o4]
theorem NL{n t:Nat}{c:Int}(hc:1<=c.natAbs):level n t c true=dC (t * n) n ((List.range n).filter fun i=>decide (i≠c.natAbs - 1/\i≠c.natAbs - 1+1))++[(t * n+(c.natAbs - 1),t * n+(c.natAbs - 1+1))]++[(t * n+n+(c.natAbs - 1),t * n+n+(c.natAbs - 1+1))]:=by
 unfold level dC
 rw[af rfl,dM,show c.natAbs - 1+1=c.natAbs by lia,o4]
 congr 1
 ·have:((List.range n).filter fun i=> !true||(i+1 != c.natAbs&&i != c.natAbs))=(List.range n).filter fun i=>decide (i≠c.natAbs - 1/\i≠c.natAbs):=by
   refine List.filter_congr fun i _=>?_
   rw[jG]
   simp only [Bool.not_true,Bool.false_or,br,bne_iff_ne,mB]
   lia
  rw[this]
theorem Gv{n N:Nat}:∀(w:Row) (s:List Bool) (t:Nat) (l:List (Nat×Nat)) (P:bN),Lv n N (t * n) l P.p P.L->w.length=s.length->N=(t+w.length) * n+n->fits n w=true->
  ∃l',Lv n N ((t+w.length) * n) l' (dY n P w s).p (dY n P w s).L/\l++levels n t w s=l'++Cl ((t+w.length) * n) n
 |[],[],t,l,P,h,_,hN,_=>⟨l,h,rfl⟩
 |[],_::_,_,_,_,_,h,_,_=>by simp at h
 |_::_,[],_,_,_,_,h,_,_=>by simp at h
 |c::w,b::s,t,l,P,h,hl,hN,hw=>by
  have hw':crossing n c=true/\fits n w=true:=by
   unfold fits at hw ⊢
   rw[List.all_cons,br]at hw
   exact hw
  obtain⟨c1,c2⟩:=jx.mp hw'.1
  rw[bO]at hN
  have e0:(t+1) * n=t * n+n:=o4 t n
  have hN2:t * n+n+n<=N:=by
   rw[hN,show t+(w.length+1)=t+1+w.length by lia,Nat.add_mul,e0]
   have:=be (w.length * n)
   lia
  have nx:Lv n N ((t+1) * n) (l++level n t c b) (bU n P c b).p (bU n P c b).L:=by
   rw[e0]
   unfold bU
   cases b with
   |false=>
    rw[NK,af rfl]
    exact NA hN2 h
   |true=>
    rw[NL c1,ae (by simp),<-dM,<-dM]
    have:=NB (a:=c.natAbs - 1) hN2 (by lia) h
    by_cases q:mk P.p (n+(c.natAbs - 1))=n+(c.natAbs - 1+1)
    ·rw[af q]at this ⊢
     rw[af q]at this
     exact this
    ·rw[ae q]at this ⊢
     rw[ae q]at this
     exact this
  obtain⟨l',h1,h2⟩:=Gv w s (t+1) (l++level n t c b) (bU n P c b) nx (by simpa using hl) (by rw[hN,show t+(w.length+1)=t+1+w.length by lia]) hw'.2
  refine⟨l',?_,?_⟩
  ·rw[bO,show t+(w.length+1)=t+1+w.length by lia]
   exact h1
  ·show l++(level n t c b++levels n (t+1) w s)=_
   rw[<-dM,h2,bO,show t+(w.length+1)=t+1+w.length by lia]
noncomputable def cS(n:Nat):bN:=⟨lU n,0,0⟩
theorem NM{n:Nat}{w:Row}{s:List Bool}(hl:w.length=s.length)(hw:fits n w=true):Inv2 n (dY n (cS n) w s).p/\pieces ((w.length+1) * n) (levels n 0 w s)=(dY n (cS n) w s).L+fU n (dY n (cS n) w s).p:=by
 have e:(w.length+1) * n=(0+w.length) * n+n:=by rw[o4,Nat.zero_add]
 have h0:Lv n ((w.length+1) * n) (0 * n) [] (lU n) 0:=by
  rw[Nat.zero_mul]
  exact Nz (by rw[o4];lia)
 obtain⟨l',h1,h2⟩:=Gv w s 0 [] (cS n) h0 hl e hw
 rw[k6]at h2
 exact⟨h1.inv,by rw[h2];exact h1.closed e⟩
theorem zE{n:Nat}:∀(w:Row) (s:List Bool) (P:bN),w.length=s.length->(dY n P w s).ex=(w.zip s).foldl (fun (x:Int) (y:Int×Bool)=>if decide (0<y.1) == !y.2 then x+1 else x - 1) P.ex/\(dY n P w s).L<=P.L+w.length/\(dY n P w s).ex<=P.ex+w.length/\P.ex - w.length<=(dY n P w s).ex
 |[],[],P,_=>⟨rfl,aX _,by simp[dY],by simp[dY]⟩
 |[],_::_,_,h=>by simp at h
 |_::_,[],_,h=>by simp at h
 |c::w,b::s,P,h=>by
  obtain⟨h1,h2,h3,h4⟩:=zE w s (bU n P c b) (by simpa using h)
  have e:(bU n P c b).ex=if decide (0<c) == !b then P.ex+1 else P.ex - 1:=by
   unfold bU sg
   cases b with
   |false=>
    rw[af rfl]
    by_cases q:0<c
    ·simp[q]
    ·simp[q];lia
   |true=>
    rw[ae (by simp)]
    by_cases q:0<c
    ·split<;>simp[q]
    ·split<;>simp[q]<;>lia
  have eL:(bU n P c b).L<=P.L+1:=by
   unfold bU
   split
   ·exact Nat.le_succ _
   ·split
    ·exact aX _
    ·exact Nat.le_succ _
  have e2:P.ex - 1<=(bU n P c b).ex/\(bU n P c b).ex<=P.ex+1:=by rw[e];split<;>lia
  refine⟨?_,?_,?_,?_⟩
  ·show (dY n (bU n P c b) w s).ex=(w.zip s).foldl _ _
   rw[h1,e]
  ·show (dY n (bU n P c b) w s).L<=_
   rw[bO];lia
  ·show (dY n (bU n P c b) w s).ex<=_
   rw[bO];lia
  ·show _<=(dY n (bU n P c b) w s).ex
   rw[bO];lia
noncomputable def fV(n:Nat)(Ps:List bN)(w:Row):List bN:=w.foldl (fun Ps c=>Ps.map (fun P=>bU n P c false)++Ps.map (fun P=>bU n P c true)) Ps
theorem zH{n:Nat}:∀(w:Row) (Ps:List bN),fV n Ps w=(choices w.length).flatMap fun s=>Ps.map fun P=>dY n P w s
 |[],Ps=>by
  show Ps=([[]]:List (List Bool)).flatMap fun s=>Ps.map fun P=>dY n P [] s
  rw[List.flatMap_singleton]
  exact(List.map_id' _).symm
 |c::w,Ps=>by
  show fV n (Ps.map (fun P=>bU n P c false)++Ps.map (fun P=>bU n P c true)) w=(choices (w.length+1)).flatMap _
  rw[zH w]
  show _=((choices w.length).flatMap fun s=>[false::s,true::s]).flatMap _
  rw[List.flatMap_assoc]
  congr 1
  funext s
  rw[cQ,dw,dw]
  rw[List.flatMap_cons,List.flatMap_singleton]
  rfl
theorem zI:∀(k:Nat) (s:List Bool),s∈choices k->s.length=k
 |0,s,h=>by
  have:s=[]:=by simpa [choices] using h
  rw[this];rfl
 |k+1,s,h=>by
  obtain⟨t,ht,hs⟩:=List.mem_flatMap.mp (show s∈(choices k).flatMap _ from h)
  have:=zI k t ht
  rcases bY.mp hs with e|e
  ·rw[e,bO,this]
  ·rw[gz.mp e,bO,this]
theorem NN{n:Nat}{p:List Nat}(hn:0<n):0<fU n p:=by
 unfold fU
 rw[List.countP_pos_iff]
 exact⟨0,a6.mpr hn,n_.mpr fun j hj=>by lia⟩
theorem NO{n:Nat}{p:List Nat}:fU n p<=n:=by
 unfold fU
 have:=List.countP_le_length (p:=dz (joined (2 * n) (Ee n p))) (l:=List.range n)
 rwa[cD]at this
theorem Gw{n:Nat}{w:Row}(hw:fits n w=true):statesOf n w=(List.range (2 * (3 * w.length+16)+1)).map fun (x:Nat)=>(fV n [cS n] w).foldl (fun (a:Int) (P:bN)=>a+ring (P.L+fU n P.p - 1) ((x:Int) - ((3 * w.length+16:Nat):Int) - P.ex)) 0:=by
 have e:fV n [cS n] w=(choices w.length).map fun s=>dY n (cS n) w s:=by
  rw[zH]
  simp only [dJ,List.map_nil]
  exact List.map_eq_flatMap.symm
 unfold statesOf exponents
 rw[dw,show 6 * w.length+33=2 * (3 * w.length+16)+1 by lia,e]
 refine gX fun x _=>?_
 show List.foldl _ 0 _=_
 rw[List.foldl_map,List.foldl_map]
 have:∀(l:List (List Bool)),(∀s,s∈l->w.length=s.length)->∀a:Int,l.foldl (fun (x_1:Int) (y:List Bool)=>x_1+ring (pieces ((w.length+1) * n) (levels n 0 w y) - 1) ((x:Int) - ((3 * w.length+16:Nat):Int) - weight w y)) a=
   l.foldl (fun (x_1:Int) (y:List Bool)=>x_1+ring ((dY n (cS n) w y).L+fU n (dY n (cS n) w y).p - 1) ((x:Int) - ((3 * w.length+16:Nat):Int) - (dY n (cS n) w y).ex)) a:=by
  intro l
  induction l with
  |nil=>intro _ a;rfl
  |cons s l ih=>
   intro hl a
   have hs:=hl s bE
   rw[gK,gK,ih (fun s hs=>hl s (bI _ hs))]
   rw[(NM hs hw).2,(zE w s (cS n) hs).1]
   rfl
 exact this _ (fun s hs=>(zI _ s hs).symm) 0
noncomputable def sgn(m:Nat):Int:=if m % 2=0 then 1 else -1
theorem zJ:∀(n k:Nat),n<k->binomial n k=0
 |0,0,h=>by lia
 |0,k+1,_=>rfl
 |n+1,0,h=>by lia
 |n+1,k+1,h=>by
  show binomial n k+binomial n (k+1)=0
  rw[zJ n k (by lia),zJ n (k+1) (by lia)]
theorem vH(n:Nat):binomial n 0=1:=by cases n<;>rfl
theorem sX:∀(n:Nat),binomial n n=1
 |0=>rfl
 |n+1=>by
  show binomial n n+binomial n (n+1)=1
  rw[sX n,zJ n (n+1) (by lia)]
theorem zK:∀(n k:Nat),k<=n->binomial n (n - k)=binomial n k
 |n,0,_=>by rw[Nat.sub_zero,sX,vH]
 |0,k+1,h=>by lia
 |n+1,k+1,h=>by
  rw[show n+1 - (k+1)=n - k by lia]
  by_cases c:k=n
  ·rw[c,o9,vH,sX]
  ·rw[show n - k=n - (k+1)+1 by lia]
   show binomial n (n - (k+1))+binomial n (n - (k+1)+1)=binomial n k+binomial n (k+1)
   rw[zK n (k+1) (by lia),show n - (k+1)+1=n - k by lia,zK n k (by lia)]
   lia
noncomputable def pw(m:Nat):List Int:=(List.range (m+1)).map fun i=>sgn m * (binomial m i:Nat)
theorem iV(m:Nat):(pw m).length=m+1:=by unfold pw;rw[aE,cD]
theorem sY{m i:Nat}(h:i<=m):(pw m)[i]?=some (sgn m * (binomial m i:Nat)):=by
 unfold pw
 rw[b_,qW (by lia)];rfl
theorem Gx(m:Nat):sgn (m+1)= -sgn m:=by unfold sgn;split<;>split<;>lia
theorem NP(m:Nat):pw (m+1)=List.zipWith (fun x y=> -x - y) (0::pw m) (pw m++[0]):=by
 refine List.ext_getElem? fun i=>?_
 rw[List.getElem?_zipWith]
 by_cases h:i<=m+1
 ·rw[sY h]
  cases i with
  |zero=>
   rw[List.getElem?_cons_zero,qQ (by rw[iV];lia),sY (by lia),vH,vH]
   show some _=some _
   rw[Gx];congr 1;lia
  |succ i=>
   rw[List.getElem?_cons_succ,sY (by lia),Gx]
   by_cases c:i=m
   ·subst c
    rw[oZ (by rw[iV];lia),iV,o9]
    show some _=some _
    rw[sX,sX];congr 1;lia
   ·rw[qQ (by rw[iV];lia),sY (by lia)]
    show some _=some _
    congr 1
    show -sgn m * ((binomial m i+binomial m (i+1):Nat):Int)=_
    rw[uA,Int.neg_mul,Int.mul_add];lia
 ·rw[qV (by rw[iV];lia),qV (l:=0::pw m) (by rw[bO,iV];lia)]
theorem NQ{m x:Nat}{lo e:Int}(h:e=lo - (-2 * (m:Int))):ring m ((x:Int) - e)=if lo<=x/\((x:Int) - lo) % 4=0/\((x:Int) - lo) / 4<=m then sgn m * (binomial m (((x:Int) - lo) / 4).toNat:Nat) else 0:=by
 unfold ring
 subst h
 by_cases c:lo<=x/\((x:Int) - lo) % 4=0/\((x:Int) - lo) / 4<=m
 ·rw[af c,af (by lia)]
  obtain⟨j,hj⟩:∃j:Nat,((x:Int) - lo) / 4=j:=⟨(((x:Int) - lo) / 4).toNat,by lia⟩
  rw[show (2 * (m:Int) - ((x:Int) - (lo - -2 * (m:Int)))) / 4=((m - j:Nat):Int) by lia,hj]
  rw[Int.toNat_natCast,Int.toNat_natCast,zK m j (by lia)]
  rfl
 ·rw[ae c,ae (by lia)]
end BB
end
section
namespace BB
open Wqaraq
noncomputable def iW:List Nat->Nat
 |[]=>0
 |x::l=>l.countP (fun y=>decide (y<x))+iW l
theorem Gy:∀(l:List Nat),((List.range l.length).map fun k=>(l.drop (k+1)).countP fun x=>decide (x<l.getD k 0)).sum=iW l
 |[]=>rfl
 |a::l=>by
  rw[bO,xm,dJ,q_,dw]
  show (l.countP fun x=>decide (x<a))+_=_
  have:=Gy l
  rw[show iW (a::l)=l.countP (fun y=>decide (y<a))+iW l from rfl,<-this]
  rfl
theorem NR{a:Perm}(hl:a.length=16):crossings a=iW a:=by
 rw[Fp a hl,<-Gy a,hl];rfl
theorem Gz{x y:Nat}(h:y<x)(post:List Nat):∀(pre:List Nat),iW (pre++x::y::post)=iW (pre++y::x::post)+1
 |[]=>by
  simp only [k6,iW,jH]
  simp only [gL]
  rw[af h,ae (by lia)]
  lia
 |z::pre=>by
  have ih:=Gz h post pre
  simp only [List.cons_append,iW,pj,jH]at ih ⊢
  lia
theorem NS{a:Perm}{i:Nat}(hl:a.length=16)(hi:i<15):a=a.take i++at_ a i::at_ a (i+1)::a.drop (i+2)/\exchanged i a=a.take i++at_ a (i+1)::at_ a i::a.drop (i+2):=by
 have tl:(a.take i).length=i:=by rw[c_];lia
 constructor
 ·rw[kH (show i<a.length by lia),kH (show i+1<a.length by lia)]
  conv=>lhs;rw[<-List.take_append_drop i a,pk (show i<a.length by lia),pk (show i+1<a.length by lia)]
 ·refine dG (bK _) (by simp;lia) fun j hj=>?_
  rw[jW hj]
  have g:at_ (a.take i++at_ a (i+1)::at_ a i::a.drop (i+2)) j=((a.take i++at_ a (i+1)::at_ a i::a.drop (i+2))[j]?).getD 0:=eg ..
  rw[g]
  by_cases c1:j<i
  ·rw[ae (by lia),ae (by lia),qQ (by lia),List.getElem?_take,af c1]
   exact eg ..
  ·rw[oZ (by lia),tl]
   by_cases c2:j=i
   ·rw[af c2,c2,o9];rfl
   ·rw[ae c2]
    by_cases c3:j=i+1
    ·rw[af c3,c3,show i+1 - i=1 by lia];rfl
    ·rw[ae c3,show j - i=(j - (i+2))+1+1 by lia,List.getElem?_cons_succ,List.getElem?_cons_succ,List.getElem?_drop,show i+2+(j - (i+2))=j by lia]
     exact eg ..
theorem NT{a:Perm}{i:Nat}(ha:aw a)(hi:i<15)(c:at_ a (i+1)<at_ a i):iW a=iW (exchanged i a)+1:=by
 obtain⟨e1,e2⟩:=NS ha.len hi
 rw[e2]
 conv=>lhs;rw[e1]
 exact Gz c _ _
theorem zL:∀(k:Nat) {a:Perm},aw a->iW a<=k->(row a).length=iW a/\∀c,c∈row a->0<c
 |k,a,ha,h=>by
  rw[vq ha]
  split
  ·rename_i e
   have:a=still:=by
    apply ye ha
    intro i hi
    have:=List.find?_eq_none.mp e i (a6.mpr hi)
    rw[cY (by lia)]at this
    have:=ha.ne (show i<16 by lia) (show i+1<16 by lia) (by lia)
    unfold X at *; lia
   rw[this]
   exact⟨by decide,fun c hc=>by cases hc⟩
  ·rename_i i e
   have hi:i<15:=a6.mp (qX e)
   have c:=qY e
   rw[cY (by lia)]at c
   have c':at_ a (i+1)<at_ a i:=by unfold X at c;lia
   have lt:=NT ha hi c'
   cases k with
   |zero=>lia
   |succ k=>
    have ih:=zL k (vt ha hi) (by lia)
    rw[bO,ih.1]
    refine⟨lt.symm,fun c hc=>?_⟩
    rcases bY.mp hc with q|q
    ·rw[q];lia
    ·exact ih.2 c q
theorem lW{a:Perm}(ha:aw a):(row a).length=crossings a:=by rw[(zL _ ha (aX _)).1,NR ha.len]
theorem NU:∀(n:Nat),2<=n->n<=16->crossings (delta n)=n * (n - 1) / 2:=by
 intro n h2 hn
 have:∀m:Fin 15,crossings (delta (m.val+2))=(m.val+2) * (m.val+2 - 1) / 2:=by decide+kernel
 have:=this ⟨n - 2,by lia⟩
 simp only [show n - 2+2=n by lia]at this
 exact this
theorem zM:∀(w:Row) (s:Int),w.foldl (fun (s c:Int)=>if 0<c then s+1 else if c<0 then s - 1 else s) s=s+sum w
 |[],s=>by simp[sum]
 |c::w,s=>by
  unfold sum
  rw[gK,gK,zM w,zM w (if 0<c then 0+1 else if c<0 then 0 - 1 else 0)]
  split
  ·lia
  ·split<;>lia
theorem sum_append(v w:Row):sum (v++w)=sum v+sum w:=by
 conv=>lhs;unfold sum
 rw[jI,zM]
 rfl
theorem zN(c:Int):sum [c]=if 0<c then 1 else if c<0 then -1 else 0:=by
 show (if 0<c then (0:Int)+1 else if c<0 then 0 - 1 else 0)=_
 split
 ·rfl
 ·split<;>rfl
theorem sum_cons(c:Int)(w:Row):sum (c::w)=sum [c]+sum w:=sum_append [c] w
theorem GA:∀(w:Row),(∀c,c∈w->0<c)->sum w=w.length
 |[],_=>rfl
 |c::w,h=>by
  rw[sum_cons,GA w (fun d hd=>h d (bI _ hd)),zN,af (h c bE),bO]
  lia
theorem GB{a:Perm}(ha:aw a):sum (row a)=crossings a:=by
 rw[GA _ (zL _ ha (aX _)).2,lW ha]
theorem GC(c:Int)(w:Row):inverse (c::w)=inverse w++[-c]:=by
 unfold inverse
 rw[my,cQ];rfl
theorem GD:∀(w:Row),sum (inverse w)= -sum w
 |[]=>rfl
 |c::w=>by
  rw[GC,sum_append,GD w,sum_cons c w,zN,zN]
  rcases Int.lt_trichotomy c 0 with h|h|h
  ·rw[af (by lia),ae (by lia),af h];lia
  ·rw[ae (by lia),ae (by lia),ae (by lia),ae (by lia)];lia
  ·rw[ae (by lia),af (by lia),af h];lia
theorem zO(k:Nat)(w:Row):times (k+1) w=w++times k w:=by
 unfold times;rw[k5,qT]
theorem zP(w:Row):∀(k:Nat),sum (times k w)=k * sum w
 |0=>by show (0:Int)=_;lia
 |k+1=>by
  rw[zO,sum_append,zP w k,uA,Int.add_mul];lia
theorem NV(e:Int)(w:Row):sum (power e w)=e * sum w:=by
 unfold power
 split
 ·rw[zP,GD]
  rename_i h
  have:(e.natAbs:Int)= -e:=by lia
  rw[this,Int.neg_mul_neg]
 ·rw[zP]
  have:(e.natAbs:Int)=e:=by lia
  rw[this]
theorem vI(w:Row):∀(k:Nat),(times k w).length=k * w.length
 |0=>by show 0=_;lia
 |k+1=>by rw[zO,bF,vI w k,o4];lia
theorem NW(e:Int)(w:Row):(power e w).length=e.natAbs * w.length:=by
 unfold power
 split
 ·rw[vI];unfold inverse;rw[aE,cN]
 ·rw[vI]
theorem GF:∀(l:List Perm),(∀a,a∈l->aw a)->sum (l.flatMap row)=((l.map fun a=>(crossings a:Int)).sum:Int)/\(l.flatMap row).length=(l.map crossings).sum
 |[],_=>⟨rfl,rfl⟩
 |a::l,h=>by
  have ih:=GF l fun b hb=>h b (bI _ hb)
  have ha:=h a bE
  rw[List.flatMap_cons,sum_append,bF,ih.1,ih.2,GB ha,lW ha]
  exact⟨rfl,rfl⟩
theorem NX(c:Int)(x:Nat):swapped (-c) x=swapped c x:=by
 unfold swapped crossing
 rw[Int.natAbs_neg]
 have:decide (-c≠0)=decide (c≠0):=by
  rw[gA];lia
 rw[this]
theorem GG:∀(w:Row),then_ (follow w) (follow (inverse w))=still
 |[]=>by
  show then_ (follow []) (follow [])=still
  rw[sq,gg dO]
 |c::w=>by
  have e1:follow (c::w)=then_ (follow [c]) (follow w):=pV (v:=[c]) (w:=w)
  rw[GC,pV,e1,then_assoc (gR _),<-then_assoc (gR w),GG w,gg (gR _)]
  refine dG (bK _) (bK _) fun i hi=>?_
  rw[cF hi,js hi,eT hi]
  show at_ (follow [-c]) (swapped c i)=i
  rw[js (ve hi)]
  show swapped (-c) (swapped c i)=i
  rw[NX,yo hi]
theorem NY(w:Row):follow (inverse w)=back (follow w):=by
 refine jq (gR w) (gR _) (gR w).back ?_
 rw[GG,jV (gR w)]
theorem zQ{w:Row}(h:then_ (follow w) (follow w)=still):∀(k:Nat),follow (times k w)=if k % 2=0 then still else follow w
 |0=>rfl
 |k+1=>by
  rw[zO,pV,zQ h k]
  by_cases c:k % 2=0
  ·rw[af c,ae (by lia),dH (gR w)]
  ·rw[ae c,af (by lia),h]
theorem NZ{n:Nat}(hn:n<=16)(k:Int):follow (power k (row (delta n)))=if k % 2=0 then still else delta n:=by
 have hd:=(bX hn).aa
 have e:=yV _ hd (aX _)
 unfold power
 split
 ·have e2:follow (inverse (row (delta n)))=delta n:=by rw[NY,e,ET hn]
  rw[zQ (by rw[e2,ju hn]),e2]
  by_cases c:k % 2=0
  ·rw[af c,af (by lia)]
  ·rw[ae c,ae (by lia)]
 ·rw[zQ (by rw[e,ju hn]),e]
  by_cases c:k % 2=0
  ·rw[af c,af (by lia)]
  ·rw[ae c,ae (by lia)]
theorem GH:∀(l:List Perm) {p:Perm},aw p->(∀a,a∈l->aw a)->then_ p (follow (l.flatMap row))=l.foldl then_ p
 |[],p,hp,_=>by
  show then_ p (follow [])=p
  rw[sq,dH hp]
 |a::l,p,hp,h=>by
  have ha:=h a bE
  rw[List.flatMap_cons,pV,<-then_assoc hp,yV _ ha (aX _),GH l (hp.then_ ha) fun b hb=>h b (bI _ hb)]
  rfl
theorem zR{n:Nat}:∀(l:List Perm) {p:Perm},Rt n p->ah n l->Rt n (l.foldl then_ p)
 |[],p,hp,_=>hp
 |a::l,p,hp,h=>zR l (hp.then_ h.head) h.tail
noncomputable def reach(n:Nat)(F:Form):Perm:=F.factors.foldl then_ (if F.twists % 2=0 then still else delta n)
section
variable{n:Nat}(hn:n<=16)(h2:2<=n)
include hn
theorem N0{F:Form}(h:aV n F):Rt n (reach n F):=by
 refine zR _ ?_ h
 split
 ·exact jX
 ·exact bX hn
theorem N1{F:Form}(h:aV n F):follow (F.row n)=reach n F:=by
 unfold Form.row reach
 rw[pV,NZ hn]
 refine GH _ ?_ fun a ha=>(h a ha).aa
 split
 ·exact dO
 ·exact(bX hn).aa
include h2
theorem GI{F:Form}(h:aV n F):sum (F.row n)=F.twists * ((n * (n - 1) / 2:Nat):Int)+((F.factors.map fun a=>(crossings a:Int)).sum:Int)/\
  (F.row n).length=F.twists.natAbs * (n * (n - 1) / 2)+(F.factors.map crossings).sum:=by
 unfold Form.row
 have f:=GF F.factors fun a ha=>(h a ha).aa
 have hd:=(bX hn).aa
 rw[sum_append,NV,GB hd,bF,NW,lW hd,NU n h2 hn,f.1,f.2]
 exact⟨rfl,rfl⟩
end
theorem N2(n:Nat)(a:Perm):loops n a=(List.range n).countP (dz (joined n (ik n (at_ a)))):=by
 unfold loops;exact zt _ _
noncomputable def fW:List Nat->List Nat->Bool
 |x::xs,y::ys=>decide (x<y)||(decide (x=y)&&fW xs ys)
 |[],_::_=>true
 |_,_=>false
theorem zS:∀(i:Nat) (a b:List Nat),a.length=b.length->i<a.length->(∀j,j<i->a.getD j 0=b.getD j 0)->a.getD i 0<b.getD i 0->fW a b=true/\fW b a=false
 |i,[],b,_,h,_,_=>by simp at h
 |i,x::a,[],h,_,_,_=>by simp at h
 |0,x::a,y::b,_,_,_,h=>by
  have h:x<y:=h
  unfold fW
  rw[de h,cy (show ¬y<x by lia),cy (show ¬y=x by lia)]
  exact⟨rfl,rfl⟩
 |i+1,x::a,y::b,hl,hi,hj,h=>by
  have e:x=y:=hj 0 (by lia)
  have ih:=zS i a b (by simpa using hl) (by simpa using hi) (fun j q=>hj (j+1) (by lia)) h
  unfold fW
  rw[ih.1,ih.2,de e,de e.symm,cy (show ¬y<x by lia)]
  simp
theorem zT:∀(a:List Nat),fW a a=false
 |[]=>rfl
 |x::a=>by
  unfold fW
  rw[zT a,cy (i0 x)];simp
theorem GJ{n:Nat}{c d:Nat->Nat}:∀k,(∀j,j<k->c j=d j)->gm n c k=gm n d k
 |0,_=>rfl
 |k+1,h=>by
  show gm n c k * (n - k)+c k=gm n d k * (n - k)+d k
  rw[GJ k fun j hj=>h j (by lia),h k (by lia)]
theorem GK{n i:Nat}{c d:Nat->Nat}(hs:∀j,j<i->c j=d j)(hi:c i<d i)(hc:∀j,j<n->c j<n - j):∀k,i<k->k<=n->gm n c k<gm n d k
 |0,h,_=>by lia
 |k+1,h,hk=>by
  show gm n c k * (n - k)+c k<gm n d k * (n - k)+d k
  by_cases q:i=k
  ·subst q
   rw[GJ i hs];lia
  ·have ih:=GK hs hi hc k (by lia) (by lia)
   have h1:=Nat.mul_le_mul_right (n - k) (show gm n c k+1<=gm n d k from ih)
   rw[o4]at h1
   have:=hc k (by lia)
   lia
theorem digit_eq{n:Nat}{a:Perm}(hn:n<=16)(ha:Rt n a){i:Nat}(hi:i<n):((List.range n).filter fun j=>decide (i<j)&&decide (at_ a j<at_ a i)).length=cnt fun j=>decide (i<=j)&&decide (at_ a j<at_ a i):=by
 rw[<-iH]
 unfold cnt
 rw[show List.range 16=List.range n++(List.range (16 - n)).map (fun x=>n+x) by rw[<-List.range_add,show n+(16 - n)=16 by lia],pj]
 have z:((List.range (16 - n)).map fun x=>n+x).countP (fun j=>decide (i<=j)&&decide (at_ a j<at_ a i))=0:=by
  rw[ux]
  intro e he
  obtain⟨x,hx,rfl⟩:=bZ.mp he
  have hx:=a6.mp hx
  have:=ha.fix (n+x) (by lia) (by lia)
  have:=ha.lt hn hi
  simp only [br,gL]
  lia
 rw[z,Nat.add_zero]
 refine ng fun j hj=>?_
 simp only [br,gL]
 constructor
 ·rintro⟨h1,h3⟩;exact⟨by lia,h3⟩
 ·rintro⟨h1,h3⟩
  refine⟨?_,h3⟩
  have:j≠i:=fun q=>by rw[q]at h3;lia
  lia
theorem GL(p:Nat->Bool)(i:Nat):cnt p=cnt (fun j=>decide (j<i)&&p j)+cnt (fun j=>decide (i<=j)&&p j):=by
 rw[u_ (p:=p) (q:=fun j=>decide (j<i))]
 congr 1
 ·exact lN fun x _=>by rw[Bool.and_comm]
 ·refine lN fun x _=>?_
  rw[Bool.and_comm]
  congr 1
  rw[jG];simp
theorem GN{n i:Nat}{a b:Perm}(hn:n<=16)(ha:Rt n a)(hb:Rt n b)(hi:i<n)(hs:∀j,j<i->at_ a j=at_ b j)(h:at_ a i<at_ b i):number n a<number n b:=by
 rw[yU,yU]
 have la:=fun j hj=>ha.lt hn (i:=j) hj
 have lb:=fun j hj=>hb.lt hn (i:=j) hj
 refine GK (i:=i) (fun j hj=>?_) ?_ (fun j hj=>?_) n hi (aX _)
 ·rw[digit_eq hn ha (by lia),digit_eq hn hb (by lia)]
  have r1:=sQ ha.aa (at_ a j) (by have:=la j (by lia);lia)
  have r2:=sQ hb.aa (at_ b j) (by have:=lb j (by lia);lia)
  rw[GL _ j]at r1 r2
  have e:cnt (fun k=>decide (k<j)&&decide (at_ a k<at_ a j))=cnt (fun k=>decide (k<j)&&decide (at_ b k<at_ b j)):=by
   refine lN fun k _=>?_
   by_cases q:k<j
   ·rw[hs k (by lia),hs j hj]
   ·rw[cy q];rfl
  have:=hs j hj
  lia
 ·rw[digit_eq hn ha hi,digit_eq hn hb hi]
  have r1:=sQ ha.aa (at_ b i) (by have:=lb i hi;lia)
  have r2:=sQ hb.aa (at_ b i) (by have:=lb i hi;lia)
  rw[GL _ i]at r1 r2
  have e:cnt (fun k=>decide (k<i)&&decide (at_ a k<at_ b i))=cnt (fun k=>decide (k<i)&&decide (at_ b k<at_ b i)):=by
   refine lN fun k _=>?_
   by_cases q:k<i
   ·rw[hs k q]
   ·rw[cy q];rfl
  have lt:=yh (p:=fun k=>decide (i<=k)&&decide (at_ a k<at_ a i)) (q:=fun k=>decide (i<=k)&&decide (at_ a k<at_ b i)) (fun x _ z=>by
   simp only [br,gL]at z ⊢
   exact⟨z.1,by lia⟩) (y:=i) (by lia) (by simp;exact h) (by simp)
  lia
 ·rw[<-iH]
  have e:(List.range n).countP (fun k=>decide (j<k)&&decide (at_ a k<at_ a j))<=(List.range n).countP (fun k=>decide (j<k)):=List.countP_mono_left fun x _ z=>by
   simp only [br,gL]at z ⊢
   exact z.1
  have e2:(List.range n).countP (fun k=>decide (j<k))+(j+1)=n:=by
   rw[show n=(j+1)+(n - (j+1)) by lia,List.range_add,pj]
   have z1:(List.range (j+1)).countP (fun k=>decide (j<k))=0:=by
    rw[ux]
    intro x hx
    have:=a6.mp hx
    simp;lia
   have z2:((List.range (n - (j+1))).map fun x=>j+1+x).countP (fun k=>decide (j<k))=n - (j+1):=by
    have:=List.countP_eq_length (p:=fun k=>decide (j<k)) (l:=(List.range (n - (j+1))).map fun x=>j+1+x)
    rw[this.mpr fun x hx=>by
     obtain⟨y,_,rfl⟩:=bZ.mp hx
     simp;lia]
    rw[aE,cD]
   rw[z1,z2];lia
  lia
theorem N3{a b:Perm}(ha:a.length=16)(hb:b.length=16)(h:a≠b):∃i,i<16/\(∀j,j<i->at_ a j=at_ b j)/\at_ a i≠at_ b i:=by
 have:∀k,k<=16->(∀j,j<k->at_ a j=at_ b j)\/∃i,i<k/\(∀j,j<i->at_ a j=at_ b j)/\at_ a i≠at_ b i:=by
  intro k
  induction k with
  |zero=>intro _;exact .inl fun j hj=>by lia
  |succ k ih=>
   intro hk
   rcases ih (by lia) with q|⟨i,h1,h2⟩
   ·by_cases e:at_ a k=at_ b k
    ·refine .inl fun j hj=>?_
     by_cases z:j=k
     ·rw[z];exact e
     ·exact q j (by lia)
    ·exact .inr ⟨k,by lia,q,e⟩
   ·exact .inr ⟨i,by lia,h2⟩
 rcases this 16 (aX _) with q|q
 ·exact absurd (dG ha hb q) h
 ·exact q
theorem N4{n:Nat}{a b:Perm}(hn:n<=16)(ha:Rt n a)(hb:Rt n b):(a=b/\number n a=number n b/\fW a b=false/\fW b a=false)\/(a≠b/\number n a<number n b/\fW a b=true/\fW b a=false)\/(a≠b/\number n b<number n a/\fW a b=false/\fW b a=true):=by
 by_cases e:a=b
 ·exact .inl ⟨e,by rw[e],by rw[e,zT],by rw[e,zT]⟩
 ·obtain⟨i,hi,hs,hd⟩:=N3 ha.aa.len hb.aa.len e
  have hin:i<n:=k7 fun q=>hd (by rw[ha.fix i (by lia) hi,hb.fix i (by lia) hi])
  have l1:=ha.aa.len
  have l2:=hb.aa.len
  by_cases c:at_ a i<at_ b i
  ·have:=zS i a b (by lia) (by lia) hs c
   exact .inr (.inl ⟨e,GN hn ha hb hin hs c,this.1,this.2⟩)
  ·have:=zS i b a (by lia) (by lia) (fun j hj=>(hs j hj).symm) (show at_ b i<at_ a i by lia)
   exact .inr (.inr ⟨e,GN hn hb ha hin (fun j hj=>(hs j hj).symm) (by lia),this.2,this.1⟩)
noncomputable def lX:List Perm->List Perm->Bool
 |x::xs,y::ys=>if x=y then lX xs ys else fW x y
 |[],_::_=>true
 |_,_=>false
theorem GO{n:Nat}(hn:n<=16):∀{l m:List Perm},ah n l->ah n m->l.length=m.length->orderL n l m=if l=m then 0 else if lX l m=true then -1 else 1
 |[],[],_,_,_=>rfl
 |[],_::_,_,_,h=>by simp at h
 |_::_,[],_,_,h=>by simp at h
 |a::l,b::m,hl,hm,h=>by
  have ih:=GO hn hl.tail hm.tail (by simpa using h)
  unfold orderL lX
  rcases N4 hn hl.head hm.head with ⟨e,q,_,_⟩|⟨e,q,r,_⟩|⟨e,q,r,_⟩
  ·rw[ae (by lia),ae (by lia),ih,af e,e]
   by_cases z:l=m
   ·rw[af z,af (by rw[z])]
   ·rw[ae z,ae (fun y=>z (mw y).2)]
  ·rw[af q,ae (fun y=>e (mw y).1),ae e,af r]
  ·rw[ae (by lia),af q,ae (fun y=>e (mw y).1),ae e,r]
   rfl
end BB
end
theorem Bc0{p:Prop}(h:(p->False)->False):p:=Classical.byContradiction h
local macro_rules|`(tactic|obtain $p:rcasesPatMed:=$e:term)=>`(tactic|(refine Bc0 fun ng=>?_;rcases $e:term with $p:rcasesPatMed<;>(refine ng ?_;clear ng)))
section
namespace L2
open PySem PySem.Spec PyProof.Rows
noncomputable def iv(l:List Int):List V:=l.map V.int
noncomputable def nv(a:List Nat):List V:=a.map fun (x:Nat)=>V.int (x:Int)
theorem cT(l:List Int):(iv l).length=l.length:=aE ..
theorem cK(l:List Nat):(nv l).length=l.length:=aE ..
theorem ag.upd{H H':Hp}{p:Addr}{o:HO}(s:ag H H')(h:H p=none):ag H (upd H' p o):=fun b u e=>by
 rw[ax (a7 e h)]
 exact s b u e
theorem ag.bA{H:Hp}{p:Addr}{o:HO}(h:H p=none):ag H (L2.upd H p o):=(ag.refl H).upd h
theorem GP{α:Type}{K:PySem.W.Frag}{a D:Addr}{l:List α}{em:α->V}{g:TG}{tt:TT}{te:TE}{vs:List Nat}{σ:St}{H:Hp}{Q:VK}(p:α->Bool)(f:α->V)
  (hq:ai K H a (l.map em))(hl:l.length<sizeLine)(hD:H D=none)
  (hs:∀(x:α) (H':Hp),x∈l->ag H H'->∀(R:V->Hp->Prop) (Nx:Hp->Prop),(p x=true->∀H'',ag H' H''->R (f x) H'')->(p x=false->∀H'',ag H' H''->Nx H'')->
   g (em x) (wipe σ vs) H' fun σ2 H2=>wipe σ2 vs=wipe σ vs/\tt σ2 H2 fun b H3=>if b=true then te σ2 H3 R else Nx H3)
  (hd:∀H',ag H H'->H' D=some (.lst ((l.filter p).map f))->Q (.ref D) H'):
  ∃W:Nat->Nat->Hp->Prop,(∃m,W 0 m (upd H D (.lst [])))/\∀i m H,W i m H->
   ((jN K a).stop i H/\Q (.ref D) H)\/((jN K a).go i H/\∃Nx:Hp->Prop,(∀H',Nx H'->∃m',m'<m/\W (i+1) m' H')/\∀x H',(jN K a).iK i H x H'->g x (wipe σ vs) H' fun σ2 H2=>wipe σ2 vs=wipe σ vs/\tt σ2 H2 fun b H3=>
    if b=true then te σ2 H3 fun y H4=>∃acc,H4 D=some (.lst acc)/\acc.length<sizeLine/\Nx (upd H4 D (.lst (acc++[y]))) else Nx H3):=by
 refine⟨fun i m H'=>m=l.length - i/\i<=l.length/\ag H H'/\H' D=some (.lst (((l.take i).filter p).map f)),⟨l.length,by simp,be _,ag.bA hD,au⟩,?_⟩
 intro i m H1 hq;obtain ⟨rfl,hi,s1,hD1⟩:=hq
 have q:=s1.seq hq
 by_cases hlt:i<l.length
 ·refine .inr ⟨⟨_,em l[i],q,by simp[hlt]⟩,fun H'=>ag H H'/\H' D=some (.lst (((l.take (i+1)).filter p).map f)),fun H' h=>⟨l.length - (i+1),by lia,rfl,hlt,h⟩,fun x H' y=>?_⟩
  obtain⟨e,y⟩:=y
  subst e
  have hx:l[i]?=some l[i]:=bu hlt
  have ex:em l[i]=x:=by
   have z:=y _ q
   rw[b_,hx]at z
   exact bo z
  subst ex
  have hm:l[i]∈l:=i5 hlt
  have tk:l.take (i+1)=l.take i++[l[i]]:=by
   rw[i7,hx];rfl
  refine hs l[i] _ hm s1 _ _ (fun hp H'' s2=>?_) (fun hp H'' s2=>?_)
  ·refine⟨_,s2 _ _ hD1,?_,(s1.trans s2).upd hD,?_⟩
   ·rw[aE]
    exact Nat.lt_of_le_of_lt (cC (q0 _ _) (by rw[c_];lia)) hl
   ·rw[au,tk,uz,o7 hp,rg,cQ];rfl
  ·refine⟨s1.trans s2,?_⟩
   rw[s2 _ _ hD1,tk,uz,uw (by rw[hp];exact fz),rg,fB]
 ·have e:i=l.length:=by lia
  subst e
  rw[gY]at hD1
  exact .inl ⟨⟨_,q,by simp⟩,hd _ s1 hD1⟩
theorem zU{D:Addr}{lo:Int}{n:Nat}{g:TG}{tt:TT}{te:TE}{vs:List Nat}{σ:St}{H:Hp}{Q:VK}(p:Nat->Bool)(f:Nat->V)
  (hl:n<sizeLine)(hD:H D=none)
  (hs:∀(i:Nat) (H':Hp),i<n->ag H H'->∀(R:V->Hp->Prop) (Nx:Hp->Prop),(p i=true->∀H'',ag H' H''->R (f i) H'')->(p i=false->∀H'',ag H' H''->Nx H'')->
   g (.int (lo+i)) (wipe σ vs) H' fun σ2 H2=>wipe σ2 vs=wipe σ vs/\tt σ2 H2 fun b H3=>if b=true then te σ2 H3 R else Nx H3)
  (hd:∀H',ag H H'->H' D=some (.lst (((List.range n).filter p).map f))->Q (.ref D) H'):
  ∃W:Nat->Nat->Hp->Prop,(∃m,W 0 m (upd H D (.lst [])))/\∀i m H,W i m H->
   ((jO lo n).stop i H/\Q (.ref D) H)\/((jO lo n).go i H/\∃Nx:Hp->Prop,(∀H',Nx H'->∃m',m'<m/\W (i+1) m' H')/\∀x H',(jO lo n).iK i H x H'->g x (wipe σ vs) H' fun σ2 H2=>wipe σ2 vs=wipe σ vs/\tt σ2 H2 fun b H3=>
    if b=true then te σ2 H3 fun y H4=>∃acc,H4 D=some (.lst acc)/\acc.length<sizeLine/\Nx (upd H4 D (.lst (acc++[y]))) else Nx H3):=by
 refine⟨fun i m H'=>m=n - i/\i<=n/\ag H H'/\H' D=some (.lst (((List.range i).filter p).map f)),⟨n,by simp,be _,ag.bA hD,au⟩,?_⟩
 intro i m H1 hq;obtain ⟨rfl,hi,s1,hD1⟩:=hq
 by_cases hlt:i<n
 ·refine .inr ⟨hlt,fun H'=>ag H H'/\H' D=some (.lst (((List.range (i+1)).filter p).map f)),fun H' h=>⟨n - (i+1),by lia,rfl,hlt,h⟩,fun x H' y=>?_⟩
  obtain⟨e,y⟩:=y
  subst e y
  refine hs i _ hlt s1 _ _ (fun hp H'' s2=>?_) (fun hp H'' s2=>?_)
  ·refine⟨_,s2 _ _ hD1,?_,(s1.trans s2).upd hD,?_⟩
   ·rw[aE]
    exact Nat.lt_of_le_of_lt (cC (q0 _ _) (by rw[cD];lia)) hl
   ·rw[au,i6,uz,o7 hp,rg,cQ];rfl
  ·refine⟨s1.trans s2,?_⟩
   rw[s2 _ _ hD1,i6,uz,uw (by rw[hp];exact fz),rg,fB]
 ·have e:i=n:=by lia
  subst e
  exact .inl ⟨aX _,hd _ s1 hD1⟩
theorem zV{K:PySem.W.Frag}{a:Addr}{xs:List V}{g:TG}{tb:TS}{D:Ends}{σ:St}{H:Hp}(Pv:Nat->St->Hp->Prop)(h0:Pv 0 σ H)(hl:∀i σ H,i<=xs.length->Pv i σ H->ai K H a xs)
  (hs:∀i x T σ H,xs[i]?=some x->Pv i σ H->H T=none->g (.ref T) σ (upd H T (.tup [.int (i:Nat),x])) fun σ2 H2=>tb {D with nx:=Pv (i+1),ct:=Pv (i+1),bk:=D.nx} σ2 H2)(hd:∀σ H,Pv xs.length σ H->D.nx σ H):
  ∃W:Nat->Nat->St->Hp->Prop,(∃m,W 0 m σ H)/\∀i m σ H,W i m σ H->
   ((rX K a).stop i H/\D.nx σ H)\/((rX K a).go i H/\∃N:St->Hp->Prop,(∀σ' H',N σ' H'->∃m',m'<m/\W (i+1) m' σ' H')/\∀x H',(rX K a).iK i H x H'->g x σ H' fun σ2 H2=>tb {D with nx:=N,ct:=N,bk:=D.nx} σ2 H2):=by
 refine⟨fun i m σ H=>m=xs.length - i/\i<=xs.length/\Pv i σ H,⟨xs.length,by simp,be _,h0⟩,?_⟩
 intro i m σ H hq;obtain ⟨rfl,hi,p⟩:=hq
 have q:=hl i σ H hi p
 by_cases hlt:i<xs.length
 ·refine .inr ⟨⟨xs,xs[i],q,by simp[hlt]⟩,Pv (i+1),fun σ' H' p'=>⟨xs.length - (i+1),by lia,rfl,hlt,p'⟩,fun v H' y=>?_⟩
  obtain⟨T,x,rfl,hT,rfl,y⟩:=y
  exact hs i x T σ H (y xs q) p hT
 ·have e:i=xs.length:=by lia
  subst e
  exact .inl ⟨⟨xs,q,aX _⟩,hd σ H p⟩
end L2
end
section
namespace L2
open PySem PySem.Spec PyProof.Rows
section
variable{X:Cx}
theorem aN{x:Str}{i:Int}{pos:Pos}(hg:Gl X x)(hm:∃t,X.mg x=some (.int i t))(hd:(x == ("__debug__":Str))=false:=by decide):PE X (.Name x pos) (tC (.int i)):=by
 obtain⟨t,hm⟩:=hm
 exact Kh hg hm ⟨t,rfl⟩ hd
noncomputable def zW(ta:TA):TE:=fun σ H Q=>ta σ H fun vs H1=>∃j:Int,vs=[.int j]/\∀r,H1 r=none->Q (.ref r) (upd H1 r (.kh 0 j))
noncomputable def GQ(ta:TA):TE:=fun σ H Q=>ta σ H fun vs H1=>∃i j:Int,vs=[.int i,.int j]/\∀r,H1 r=none->Q (.ref r) (upd H1 r (.kh i j))
theorem mV{a:Expr}{ta:TA}{p pos:Pos}(hg:Gl X "range")(hm:X.mg "range"=none)(ha:PA X [a] ta)(hs:starEach [a] X.env=[(false,eval a X.env)]:=by rfl):PE X (.Call (.Name "range" p) [a] [] pos) (zW ta):=by
 intro pins s σ H R I h
 refine Call_ (km I hg hm boot_range (m9 (aU (ha pos pins s σ H _ I h) fun us s1 ⟨vs,H1,I1,r1,q1⟩=>?_) hs rfl))
 obtain⟨j,e,q⟩:=q1
 subst e
 cases r1 with
 |cons r rr=>
  cases rr
  obtain⟨t,rfl⟩:=r
  exact call_range_1 ⟨.ref s1.heap.objs.size,upd H1 s1.heap.objs.size (.kh 0 j),I1.laid (fun b u e=>Heap.get?_push_of_some _ e) (aX _) ⟨_,_,_,Heap.get?_push_size _ rfl⟩,rfl,q _ (I1.aP.fresh (aX _))⟩
theorem zX{a b:Expr}{ta:TA}{p pos:Pos}(hg:Gl X "range")(hm:X.mg "range"=none)(ha:PA X [a,b] ta)(hs:starEach [a,b] X.env=[(false,eval a X.env),(false,eval b X.env)]:=by rfl)(hs2:starEach [b] X.env=[(false,eval b X.env)]:=by rfl):
  PE X (.Call (.Name "range" p) [a,b] [] pos) (GQ ta):=by
 intro pins s σ H R I h
 refine Call_ (km I hg hm boot_range (m9 (aU (ha pos pins s σ H _ I h) fun us s1 ⟨vs,H1,I1,r1,q1⟩=>?_) (by rw[hs,hs2]) (by rw[hs2];rfl)))
 obtain⟨i,j,e,q⟩:=q1
 subst e
 cases r1 with
 |cons r rr=>
  cases rr with
  |cons r' rr=>
   cases rr
   obtain⟨t,rfl⟩:=r
   obtain⟨t',rfl⟩:=r'
   exact call_range_2 ⟨.ref s1.heap.objs.size,upd H1 s1.heap.objs.size (.kh i j),I1.laid (fun b u e=>Heap.get?_push_of_some _ e) (aX _) ⟨_,_,_,Heap.get?_push_size _ rfl⟩,rfl,q _ (I1.aP.fresh (aX _))⟩
noncomputable def lY(lo:Int)(n:Nat):List V:=(List.range n).map fun (k:Nat)=>V.int (lo+k)
theorem N5(lo:Int)(n:Nat):(lY lo n).length=n:=by unfold lY;rw[aE,cD]
theorem N6{lo:Int}{n:Nat}{acc:Array Value}(h:ItemsOf (fun i v=>∃t,v=.int (lo+i * 1) t) acc n):aK (lY lo n) acc.toList:=by
 obtain⟨hl,hi⟩:=h
 have:∀(m:Nat) (l:List Value) (k:Nat),l.length=m->(∀j v,l[j]?=some v->∃t,v=Value.int (lo+(k+j:Nat)) t)->aK ((List.range' k m).map fun (k:Nat)=>V.int (lo+k)) l:=by
  intro m
  induction m with
  |zero=>intro l k e _;have:l=[]:=o6.mp e;subst this;exact .nil
  |succ m ih=>
   intro l k e h
   cases l with
   |nil=>cases e
   |cons a r=>
    rw[List.range'_succ,dJ]
    obtain⟨t,et⟩:=h 0 a rfl
    refine .cons ⟨t,by rw[et];rfl⟩ (ih r (k+1) (by simpa using e) fun j v hj=>?_)
    obtain⟨t,et⟩:=h (j+1) v (by simpa using hj)
    exact⟨t,by rw[et];congr 2;lia⟩
 unfold lY
 rw[List.range_eq_range']
 refine this n acc.toList 0 (by simpa using hl) fun j v hj=>?_
 obtain⟨t,et⟩:=hi j v (by simpa using hj)
 exact⟨t,by rw[et,Int.mul_one,Nat.zero_add]⟩
theorem N7(hc:X.calm=true):jf X (.type "list") (fun xs H Q=>∃r lo hi,xs=[.ref r]/\H r=some (.kh lo hi)/\(-(2 ^ 62)<=lo/\lo<2 ^ 62/\ -(2 ^ 62)<=hi/\hi<2 ^ 62)/\(hi - lo).toNat<=sizeLine/\∀l,H l=none->Q (.ref l) (upd H l (.lst (lY lo (hi - lo).toNat)))):=by
 intro pins s σ H xs us Q I r h
 obtain⟨ra,lo,hi,rfl,hr,⟨b1,b2,b3,b4⟩,hz,q⟩:=h
 obtain⟨u,rfl,ru⟩:=vals1 r
 cases ru
 obtain⟨t,t2,t3,e⟩:=I.aP ra _ hr
 refine call_list_range (n:=(hi - lo).toNat) (I.ok.hd hc) (show IsRange s.heap ra lo hi 1 t t2 t3 from e) (small_one b1 b2 b3 b4) (by rw[rangeSize_one];split<;>lia) (cC hz (by rw[sizeLine_eq];decide)) fun h' tk acc c hk hS hacc=>?_
 refine⟨.ref s.heap.objs.size,upd H s.heap.objs.size (.lst (lY lo (hi - lo).toNat)),I.laid hk (aX _) ⟨by rw[N5];exact hz,acc.toList,c,N6 hacc,by simpa using hS⟩,rfl,q _ (I.aP.fresh (aX _))⟩
end
end L2
end
section
namespace L2
open PySem PySem.Spec PyProof.Rows
section
variable{X:Cx}
structure sZ(K:PySem.W.Frag)(mg:Str->Option Value)(x:Str)(sel:Int->Option V):Prop where
 ex:∃d,mg x=some (.ref d)/\∀(P:Program) (w:World) (h:Heap),K.In h->∃kvs vs,(∀k:Int,lJ kvs (Sum.inl k:Key)=sel k)/\KV kvs vs/\h.DictOf (lg P w) d vs
noncomputable def N8(sel:Int->Option V)(ty:TE):TE:=fun σ H Q=>ty σ H fun y H2=>∃(k:Int) (v:V),y=.int k/\sel k=some v/\Q v H2
theorem zY{x:Str}{sel:Int->Option V}{i:Expr}{ty:TE}{p pos:Pos}(hg:Gl X x)(T:sZ X.K X.mg x sel)(hi:PE X i ty)(hs:D9 i:=by intro _ _;rfl)(hd:(x == ("__debug__":Str))=false:=by decide):PE X (.Subscript (.Name x p) i pos) (N8 sel ty):=by
 obtain⟨d,hm,T⟩:=T.ex
 intro pins s σ H Q I h
 refine LY PySem.F.slot_dict_getitem.lookup hs (rE I hg hm (aU (hi pins s σ H _ I h) fun iv s2 ⟨y,H2,I2,ry,k,v,ey,hsel,q2⟩=>?_) hd)
 obtain⟨kvs,vs,hv,rel,dd⟩:=T X.prog X.w s2.heap I2.fZ
 subst ey
 refine⟨dd.typeIs,?_⟩
 obtain⟨w',hw,rw'⟩:=i9.some_of (v:=v) (o:=valueAt vs (Sum.inl k)) (by rw[<-hsel,<-hv];exact rel.val _)
 exact wpAny_getItem_of (LX (k:=Sum.inl k) ry) dd.mapOf hw ⟨v,H2,I2.tok _,rw',q2⟩
noncomputable def N9(i:Nat)(t:TA)(sps:Addr->Sp->Prop):TE:=fun σ H Q=>∃f sp,σ[i]?=some (some (.ref f))/\sps f sp/\t σ H fun vs H1=>sp vs H1 Q E0
structure zZ(P:Program)(w:World)(K:PySem.W.Frag)(mg:Str->Option Value)(base:Heap)(A:Around)(sps:Addr->Sp->Prop):Prop where
 ok:∀f sp,sps f sp->∃k fd ps,eu P w K mg base g9 k f fd ps sp/\cB k A/\Binds K fd ps []/\PySem.W.keepIn K (.ref f)=true
theorem GR{i:Nat}{x:Str}{e:Expr}{es:List Expr}{t:TA}{sps:Addr->Sp->Prop}{p pos:Pos}(F:zZ X.prog X.w X.K X.mg X.base X.A sps)(hx:lH g9 X E0)(hN:X.N[i]?=some x)(hv:pF X.env.scope x)(ha:PA X (e::es) t)
  (hdb:(x == ("__debug__":Str))=false:=by decide)(hcd:(x == ("__classdict__":Str))=false:=by decide)(he:starEach (e::es) X.env=(false,eval e X.env)::starEach es X.env:=by rfl)(hpl:(backTo pos (starEach es X.env)).any (·.1)=false:=by rfl):
  PE X (.Call (.Name x p) (e::es) [] pos) (N9 i t sps):=by
 intro pins s σ H Q I h
 obtain⟨f,sp,hf,hs,h⟩:=h
 obtain⟨k,fd,ps,G,hr,hb,hk⟩:=F.ok f sp hs
 refine wpAny_Call_Name_kw (aU (C5 (pos:=p) hN hv hdb hcd pins s σ H (fun v H'=>v=.ref f/\H'=H) I ⟨.ref f,hf,rfl,rfl⟩) fun u s0 ⟨v,H',I0,rv,ev,eH⟩=>?_)
 subst ev eH
 cases (show u=Value.ref f from rv)
 refine PySem.W.callWith_K (h₀:=X.base) I0.ok.mod.pE hk (aU (ha pos pins s0 σ H' _ I0 h) fun us s1 ⟨vs,H1,I1,r,q⟩=>⟨I1.fZ,?_⟩) he hpl
 exact uP (dvs:=[]) (ds:=[]) (E:=E0) G hr hb .nil hx I1 r (by rw[fB];exact q)
end
theorem GS{K:PySem.W.Frag}{a:Addr}{xs:List V}{g:TG}{tb:TS}{D:Ends}{σ:St}{H:Hp}(Pv:Nat->St->Hp->Prop)(h0:Pv 0 σ H)(hl:∀i σ H,i<=xs.length->Pv i σ H->ai K H a xs)
  (hs:∀i x σ H,xs.reverse[i]?=some x->Pv i σ H->g x σ H fun σ2 H2=>tb {D with nx:=Pv (i+1),ct:=Pv (i+1),bk:=D.nx} σ2 H2)(hd:∀σ H,Pv xs.length σ H->D.nx σ H):
  ∃W:Nat->Nat->St->Hp->Prop,(∃m,W 0 m σ H)/\∀i m σ H,W i m σ H->
   ((lK K a xs.length).stop i H/\D.nx σ H)\/((lK K a xs.length).go i H/\∃N:St->Hp->Prop,(∀σ' H',N σ' H'->∃m',m'<m/\W (i+1) m' σ' H')/\∀x H',(lK K a xs.length).iK i H x H'->g x σ H' fun σ2 H2=>tb {D with nx:=N,ct:=N,bk:=D.nx} σ2 H2):=by
 refine⟨fun i m σ H=>m=xs.length - i/\i<=xs.length/\Pv i σ H,⟨xs.length,by simp,be _,h0⟩,?_⟩
 intro i m σ H hq;obtain ⟨rfl,hi,p⟩:=hq
 have q:=hl i σ H hi p
 by_cases hlt:i<xs.length
 ·refine .inr ⟨⟨hlt,xs,xs[xs.length - 1 - i],q,by rw[bu]⟩,Pv (i+1),fun σ' H' p'=>⟨xs.length - (i+1),by lia,rfl,hlt,p'⟩,fun x H' y=>?_⟩
  obtain⟨e,y⟩:=y
  subst e
  exact hs i x σ _ (by rw[List.getElem?_reverse hlt];exact y xs q) p
 ·have e:i=xs.length:=by lia
  subst e
  exact .inl ⟨aX _,hd σ H p⟩
theorem N_{α:Type}{K:PySem.W.Frag}{a D:Addr}{l:List α}{em:α->V}{g:TG}{tt:TT}{te:TE}{vs:List Nat}{σ:St}{H:Hp}{Q:VK}(f:α->V)
  (hq:ai K H a (l.map em))(hl:l.length<sizeLine)(hD:H D=none)
  (hs:∀(x:α) (H':Hp),x∈l->ag H H'->∀(R:V->Hp->Prop) (Nx:Hp->Prop),(∀H'',ag H' H''->R (f x) H'')->
   g (em x) (wipe σ vs) H' fun σ2 H2=>wipe σ2 vs=wipe σ vs/\tt σ2 H2 fun b H3=>if b=true then te σ2 H3 R else Nx H3)
  (hd:∀H',ag H H'->H' D=some (.lst (l.reverse.map f))->Q (.ref D) H'):
  ∃W:Nat->Nat->Hp->Prop,(∃m,W 0 m (upd H D (.lst [])))/\∀i m H,W i m H->
   ((lK K a (l.map em).length).stop i H/\Q (.ref D) H)\/((lK K a (l.map em).length).go i H/\∃Nx:Hp->Prop,(∀H',Nx H'->∃m',m'<m/\W (i+1) m' H')/\∀x H',(lK K a (l.map em).length).iK i H x H'->g x (wipe σ vs) H' fun σ2 H2=>wipe σ2 vs=wipe σ vs/\tt σ2 H2 fun b H3=>
    if b=true then te σ2 H3 fun y H4=>∃acc,H4 D=some (.lst acc)/\acc.length<sizeLine/\Nx (upd H4 D (.lst (acc++[y]))) else Nx H3):=by
 have ll:(l.map em).length=l.length:=aE ..
 refine⟨fun i m H'=>m=l.length - i/\i<=l.length/\ag H H'/\H' D=some (.lst ((l.reverse.take i).map f)),⟨l.length,by simp,be _,ag.bA hD,au⟩,?_⟩
 intro i m H1 hq;obtain ⟨rfl,hi,s1,hD1⟩:=hq
 have q:=s1.seq hq
 by_cases hlt:i<l.length
 ·refine .inr ⟨⟨by rw[ll];exact hlt,_,em l[l.length - 1 - i],q,by rw[ll,b_,bu (by lia)];rfl⟩,fun H'=>ag H H'/\H' D=some (.lst ((l.reverse.take (i+1)).map f)),fun H' h=>⟨l.length - (i+1),by lia,rfl,hlt,h⟩,fun x H' y=>?_⟩
  obtain⟨e,y⟩:=y
  subst e
  have hx:l[l.length - 1 - i]?=some l[l.length - 1 - i]:=bu (by lia)
  have ex:em l[l.length - 1 - i]=x:=by
   have z:=y _ q
   rw[ll,b_,hx]at z
   exact bo z
  subst ex
  have hm:l[l.length - 1 - i]∈l:=i5 _
  have tk:l.reverse.take (i+1)=l.reverse.take i++[l[l.length - 1 - i]]:=by
   rw[i7,List.getElem?_reverse hlt,hx];rfl
  refine hs _ _ hm s1 _ _ (fun H'' s2=>?_)
  refine⟨_,s2 _ _ hD1,?_,(s1.trans s2).upd hD,?_⟩
  ·rw[aE,c_,cN];lia
  ·rw[au,tk,cQ];rfl
 ·have e:i=l.length:=by lia
  subst e
  rw[o5 (by rw[cN];exact aX _)]at hD1
  exact .inl ⟨by show (l.map em).length<=l.length;rw[ll];exact aX _,hd _ s1 hD1⟩
theorem Oa{K:PySem.W.Frag}{a b D:Addr}{l m:List Int}{g:TG}{tt:TT}{te:TE}{vs:List Nat}{σ:St}{H:Hp}{Q:VK}(f:Int->Int->V)
  (hqa:ai K H a (iv l))(hqb:ai K H b (iv m))(hlm:l.length=m.length)(hl:l.length<sizeLine)(hD:H D=none)
  (hs:∀(x y:Int) (T:Addr) (H':Hp),ag H H'->H' T=none->H' D≠none->∀(R:V->Hp->Prop) (Nx:Hp->Prop),(∀H'',ag H' H''->R (f x y) H'')->
   g (.ref T) (wipe σ vs) (upd H' T (.tup [.int x,.int y])) fun σ2 H2=>wipe σ2 vs=wipe σ vs/\tt σ2 H2 fun b H3=>if b=true then te σ2 H3 R else Nx H3)
  (hd:∀H',ag H H'->H' D=some (.lst (List.zipWith f l m))->Q (.ref D) H'):
  ∃W:Nat->Nat->Hp->Prop,(∃m,W 0 m (upd H D (.lst [])))/\∀i m H,W i m H->
   ((pP K a b).stop i H/\Q (.ref D) H)\/((pP K a b).go i H/\∃Nx:Hp->Prop,(∀H',Nx H'->∃m',m'<m/\W (i+1) m' H')/\∀x H',(pP K a b).iK i H x H'->g x (wipe σ vs) H' fun σ2 H2=>wipe σ2 vs=wipe σ vs/\tt σ2 H2 fun b H3=>
    if b=true then te σ2 H3 fun y H4=>∃acc,H4 D=some (.lst acc)/\acc.length<sizeLine/\Nx (upd H4 D (.lst (acc++[y]))) else Nx H3):=by
 refine⟨fun i k H'=>k=l.length - i/\i<=l.length/\ag H H'/\H' D=some (.lst ((List.zipWith f l m).take i)),⟨l.length,by simp,be _,ag.bA hD,au⟩,?_⟩
 intro i k H1 hq;obtain ⟨rfl,hi,s1,hD1⟩:=hq
 have qa:=s1.seq hqa
 have qb:=s1.seq hqb
 by_cases hlt:i<l.length
 ·have hlt2:i<m.length:=by lia
  refine .inr ⟨⟨_,_,.int l[i],.int m[i],qa,qb,by unfold iv;rw[b_,bu hlt];rfl,by unfold iv;rw[b_,bu hlt2];rfl⟩,fun H'=>ag H H'/\H' D=some (.lst ((List.zipWith f l m).take (i+1))),fun H' h=>⟨l.length - (i+1),by lia,rfl,hlt,h⟩,fun v H' y=>?_⟩
  obtain⟨T,x,y',rfl,hT,rfl,y1,y2⟩:=y
  have ex:V.int l[i]=x:=by
   have z:=y1 _ qa
   unfold iv at z
   rw[b_,bu hlt]at z
   exact bo z
  have ey:V.int m[i]=y':=by
   have z:=y2 _ qb
   unfold iv at z
   rw[b_,bu hlt2]at z
   exact bo z
  subst ex ey
  have tk:(List.zipWith f l m).take (i+1)=(List.zipWith f l m).take i++[f l[i] m[i]]:=by
   rw[i7,List.getElem?_zipWith,bu hlt,bu hlt2];rfl
  refine hs _ _ T _ s1 hT (by rw[hD1];simp) _ _ (fun H'' s2=>?_)
  have s3:ag H1 H'':=s2
  refine⟨_,s3 _ _ hD1,?_,(s1.trans s3).upd hD,?_⟩
  ·rw[c_,List.length_zipWith];lia
  ·rw[au,tk]
 ·have e:i=l.length:=by lia
  subst e
  rw[o5 (by rw[List.length_zipWith];lia)]at hD1
  exact .inl ⟨⟨_,_,qa,qb,.inl (by unfold iv;rw[aE];exact aX _)⟩,hd _ s1 hD1⟩
end L2
end
section
namespace L2
open PySem PySem.Spec PyProof.Rows
noncomputable def z4(A:Around)(s:Shared)(y x:Value)(b:Bool):Prop:=
 ∀(prog:Program) (w:World) (E:Value->Shared->Prop) (Q:Value->Shared->Prop),Q (.bool b) s->wpAny (model prog w) A (richCompare .Lt y x) Q E s
inductive iX(A:Around)(s:Shared):List Value->List Value->Bool->Prop
 |nn:iX A s [] [] false
 |nc {w:Value}{ws:List Value}:iX A s [] (w::ws) true
 |cn {v:Value}{vs:List Value}:iX A s (v::vs) [] false
 |eq {v w:Value}{vs ws:List Value}{r:Bool}:SeqAt.EqAt A s v w true->iX A s vs ws r->iX A s (v::vs) (w::ws) r
 |ne {v w:Value}{vs ws:List Value}{r:Bool}:SeqAt.EqAt A s v w false->z4 A s v w r->iX A s (v::vs) (w::ws) r
section
open PySem.SeqAt
open PySem.AutoSeq1 (wpAny_loadPart')
open PySem.MeetsSeq PySem.MeetsSeq2 PySem.MeetsSeq3
theorem Ob(l b:Addr)(items items2:Array Value)(n n2:Nat)(dd dd2:Option Addr)(sl sl2:Array (Option Value))(r:Bool)(k:Nat):
  ∀i:Nat,items.size - i=k->i<=items.size->i<=items2.size->Meets (Builtin.«list.__eq__.loop» ⟨[.ref l,.ref b,rawInt i,rawInt 0],[]⟩)
   (fun A R s=>s.heap.get? l=some {cls:=.type "list",dict:=dd,data:=.seq items n,slots:=sl}/\s.heap.get? b=some {cls:=.type "list",dict:=dd2,data:=.seq items2 n2,slots:=sl2}/\
    iX A.in1 s (items.toList.drop i) (items2.toList.drop i) r/\R (.ok (.ret (.bool r))) s):=by
 induction k with
 |zero=>
  intro i hk hi hi2 prog w A R s h
  obtain⟨hp,g,d,tk,os⟩:=s;obtain⟨hl,hb,he,h⟩:=h
  wp_walk using wpAny_loadPart' hl,wpAny_loadPart' hb
  have hi1:items[((i:Nat):Int).toNat]?=none:=by simp;lia
  have d1:items.toList.drop i=[]:=by simp;lia
  rw[d1]at he
  rw[hi1]
  wp_walk using wpAny_loadPart' hl,wpAny_loadPart' hb
  show R (.ok (.ret (.bool (decide (items.size<items2.size))))) _
  generalize hd2:items2.toList.drop i=d2 at he
  cases he with
  |nn=>
   have:items2.toList.length<=i:=List.drop_eq_nil_iff.mp hd2
   rw[ur]at this
   rw[cy (by lia)];exact h
  |nc=>
   have:¬items2.toList.length<=i:=fun z=>by rw[rk z]at hd2;cases hd2
   rw[ur]at this
   rw[de (by lia)];exact h
 |succ k ih=>
  intro i hk hi hi2 prog w A R s h
  obtain⟨hp,g,d,tk,os⟩:=s;obtain⟨hl,hb,he,h⟩:=h
  wp_walk using wpAny_loadPart' hl,wpAny_loadPart' hb
  have hlt:i<items.size:=by lia
  have hi1:items[((i:Nat):Int).toNat]?=some items[i]:=by simp[hlt]
  have d1:items.toList.drop i=items[i]::items.toList.drop (i+1):=by
   rw[pk (by rw[ur];exact hlt),Array.getElem_toList]
  have hc:((i:Int)+1)=((i+1:Nat):Int):=by push_cast;rfl
  by_cases hlt2:i<items2.size
  ·have hi2':items2[((i:Nat):Int).toNat]?=some items2[i]:=by simp[hlt2]
   have d2:items2.toList.drop i=items2[i]::items2.toList.drop (i+1):=by
    rw[pk (by rw[ur];exact hlt2),Array.getElem_toList]
   rw[d1,d2]at he
   rw[hi1,hi2']
   cases he with
   |eq e1 e2=>
    refine wpAny_bind (e1 prog w _ _ ?_)
    wp_walk
    rw[hc]
    exact⟨plainId_quiet plain_eq_loop _,codeAny_builtin entry_eq_loop (by
     rw[Around.under_plainId plain_eq_loop _]
     exact ih (i+1) (by lia) (by lia) (by lia) prog w A R _ ⟨hl,hb,e2,h⟩)⟩
   |ne e1 e2=>
    refine wpAny_bind (e1 prog w _ _ ?_)
    have e2':=e2 prog w
    wp_walk using wpAny_loadPart' hl,wpAny_loadPart' hb
    rw[hi1,hi2']
    wp_walk using e2'
    simpa using h
  ·have hi2':items2[((i:Nat):Int).toNat]?=none:=by simp;lia
   have d2:items2.toList.drop i=[]:=by simp;lia
   rw[d1,d2]at he
   rw[hi1,hi2']
   wp_walk using wpAny_loadPart' hl,wpAny_loadPart' hb
   show R (.ok (.ret (.bool (decide (items.size<items2.size))))) _
   cases he with
   |cn=>rw[cy (by lia)];exact h
theorem Oc(l b:Addr)(items items2:Array Value)(n n2:Nat)(dd dd2:Option Addr)(sl sl2:Array (Option Value))(r:Bool):
  Meets (Builtin.«list.__lt__» ⟨[.ref l,.ref b],[]⟩)
   (fun A R s=>s.heap.get? l=some {cls:=.type "list",dict:=dd,data:=.seq items n,slots:=sl}/\s.heap.get? b=some {cls:=.type "list",dict:=dd2,data:=.seq items2 n2,slots:=sl2}/\
    iX A.in1 s items.toList items2.toList r/\R (.ok (.ret (.bool r))) s):=by
 intro prog w A R s h
 obtain⟨hp,g,d,tk,os⟩:=s;obtain⟨hl,hb,he,h⟩:=h
 have f3:=AutoSeq1.sub_list_list
 wp_walk using wpAny_loadPart' hl,wpAny_loadPart' hb
 exact⟨plainId_quiet plain_eq_loop _,codeAny_builtin entry_eq_loop (by
  rw[Around.under_plainId plain_eq_loop _]
  exact Ob l b items items2 n n2 dd dd2 sl sl2 r _ 0 rfl (be _) (be _) prog w A R _ ⟨hl,hb,he,h⟩)⟩
end
theorem z5{A:Around}{s:Shared}{l b:Addr}{its its2:List Value}{r:Bool}(hl:PlainL s.heap l its.toArray)(hb:PlainL s.heap b its2.toArray)(h:iX A.in1 s its its2 r)(hu:A.units<cLine):z4 A s (.ref l) (.ref b) r:=by
 intro prog w E Q q
 obtain⟨⟨cls,dd,data,sl⟩,n,ho,hc,hd0,hd⟩:=id hl
 obtain⟨⟨cls2,dd2,data2,sl2⟩,n2,ho2,hc2,hd02,hd2⟩:=id hb
 simp only at hc hd0 hd hc2 hd02 hd2
 subst hc hd0 hd hc2 hd02 hd2
 exact richCompare_meets_room (op:=.Lt) ⟨_,ho,rfl⟩ ⟨_,ho2,rfl⟩ PySem.F.slot_list_lt PySem.F.entry_list_lt (PySem.F.args_list_lt_2 _ _) (Oc l b its.toArray its2.toArray n n2 _ _ sl sl2 r)
  ⟨ho,ho2,by simpa using h,show Value.bool r≠Value.notImplemented/\Q (.bool r) s from ⟨(fun x=>nomatch x),q⟩⟩ hu
end L2
end
section
namespace BK
open PySem PySem.Spec PyProof.Rows L2
structure Df(K:PySem.W.Frag)(mg:Str->Option Value)(x:Str)(st:Stmt)(ps:List Str) where
 f:Addr
 fd:FuncData
 m:mg x=some (.ref f)
 F:kx K x x st f fd
 b:Binds K fd ps []
structure Dm(K:PySem.W.Frag)(C:Addr)(x q:Str)(st:Stmt)(ps:List Str) where
 f:Addr
 fd:FuncData
 F:kx K x q st f fd
 b:Binds K fd ps []
 me:rN K C x f
structure Di(K:PySem.W.Frag)(C:Addr)(q:Str)(st:Stmt)(ps:List Str) where
 f:Addr
 fd:FuncData
 F:kx K "__init__" q st f fd
 b:Binds K fd ps []
 GU:Mk K C f
noncomputable def top(i:Nat):Stmt:=PySem.Challenge.pw_braidbook_s01_answers.main.body.getD i (.Pass ⟨0,0,0,0⟩)
abbrev z6:Stmt:=top 3
abbrev z7:Stmt:=top 4
abbrev z8:Stmt:=top 5
abbrev z9:Stmt:=top 6
abbrev z_:Stmt:=top 7
abbrev Aa:Stmt:=top 8
abbrev Ab:Stmt:=top 9
abbrev Ac:Stmt:=top 10
abbrev Ad:Stmt:=top 11
abbrev Ae:Stmt:=top 12
abbrev Af:Stmt:=top 13
abbrev Ag:Stmt:=top 14
abbrev Ah:Stmt:=top 15
abbrev Ai:Stmt:=top 16
abbrev Aj:Stmt:=top 17
abbrev Ak:Stmt:=top 19
abbrev Al:Stmt:=top 20
abbrev Am:Stmt:=top 21
abbrev An:Stmt:=top 22
abbrev Ao:Stmt:=top 23
abbrev Ap:Stmt:=top 28
abbrev Aq:Stmt:=top 29
abbrev Au:Stmt:=top 30
abbrev Av:Stmt:=top 31
abbrev Aw:Stmt:=top 32
abbrev Ax:Stmt:=top 33
abbrev Ay:Stmt:=top 34
abbrev Az:Stmt:=top 35
abbrev AA:Stmt:=top 36
abbrev AB:Stmt:=top 38
abbrev AD:Stmt:=top 39
abbrev AE:Stmt:=top 40
abbrev AF:Stmt:=top 41
abbrev AG:Stmt:=top 42
abbrev AH:Stmt:=top 43
abbrev AI:Stmt:=top 45
abbrev AJ:Stmt:=top 46
abbrev AK:Stmt:=top 47
abbrev AL:Stmt:=top 51
abbrev AM:Stmt:=top 52
abbrev AN:Stmt:=top 53
abbrev AO:Stmt:=top 54
abbrev AQ:Stmt:=top 55
abbrev AR:Stmt:=top 56
abbrev AS:Stmt:=top 57
abbrev AU:Stmt:=top 58
abbrev AV:Stmt:=top 66
abbrev AW:Stmt:=top 67
abbrev AX:Stmt:=top 68
abbrev AY:Stmt:=top 69
abbrev AZ:Stmt:=top 70
abbrev A3:Stmt:=top 71
abbrev A4:Stmt:=top 72
abbrev A5:Stmt:=top 73
abbrev A6:Stmt:=top 74
abbrev A7:Stmt:=top 82
abbrev A8:Stmt:=top 83
abbrev A9:Stmt:=top 84
abbrev A_:Stmt:=top 85
abbrev Ba:Stmt:=top 86
abbrev Bb:Stmt:=top 87
abbrev Bc:Stmt:=top 88
abbrev Be:Stmt:=top 89
abbrev Bf:Stmt:=top 90
abbrev Bg:Stmt:=top 91
abbrev Bh:Stmt:=top 92
abbrev Bj:Stmt:=top 93
abbrev Bk:Stmt:=top 94
abbrev Bl:Stmt:=top 95
abbrev Bm:Stmt:=top 96
abbrev Bn:Stmt:=top 98
abbrev Bo:Stmt:=top 100
abbrev Bp:Stmt:=top 101
abbrev Bq:Stmt:=top 102
abbrev Br:Stmt:=top 103
abbrev Bs:Stmt:=top 104
abbrev Bt:Stmt:=top 105
abbrev Bu:Stmt:=top 106
abbrev Bv:Stmt:=top 107
abbrev Bw:Stmt:=top 108
abbrev Bx:Stmt:=top 109
abbrev By:Stmt:=top 110
abbrev Bz:Stmt:=top 111
abbrev BA:Stmt:=top 112
abbrev BC:Stmt:=top 113
abbrev BD:Stmt:=top 115
abbrev BE:Stmt:=top 122
abbrev BF:Stmt:=top 123
abbrev BG:Stmt:=inClass (top 27) 0
abbrev BH:Stmt:=inClass (top 50) 0
abbrev BI:Stmt:=inClass (top 81) 0
abbrev BJ:Stmt:=inClass (top 81) 1
abbrev BL:Stmt:=inClass (top 81) 2
abbrev BM:Stmt:=inClass (top 81) 3
abbrev BN:Stmt:=inClass (top 118) 0
abbrev BO:Stmt:=inClass (top 119) 0
abbrev BP:Stmt:=inClass (top 119) 1
abbrev BQ:Stmt:=inClass (top 119) 2
abbrev BR:Stmt:=inClass (top 119) 3
abbrev BS:Stmt:=inClass (top 119) 4
theorem aJ{N P:List Str}{sc:Scope}(a:sc.kind=.function:=by rfl)(b:sc.isCoroutine=false:=by rfl)(c:sc.isGenerator=false:=by rfl)(d:decide N.Nodup=true:=by kernel_rfl)(e:N.take P.length=P:=by rfl)(f:decide (∀x∈P,sc.names.lookup x=some .local∨sc.names.lookup x=some .cell)=true:=by kernel_rfl)(g:decide (∀y∈sc.names,y.2≠.free)=true:=by kernel_rfl):aH N P sc:=⟨a,b,c,of_decide_eq_true d,e,of_decide_eq_true f,of_decide_eq_true g⟩
theorem Od:aH ["n"] ["n"] (aD z6):=aJ
theorem Oe:aH ["a","n"] ["a","n"] (aD z7):=aJ
theorem Of:aH ["a","b","place"] ["a","b"] (aD z8):=aJ
theorem Og:aH ["a","back","i","place"] ["a"] (aD z9):=aJ
theorem Oh:aH ["n","i"] ["n"] (aD z_):=aJ
theorem Oi:aH ["n","a"] ["n","a"] (aD Aa):=aJ
theorem Oj:aH ["n","a","i"] ["n","a"] (aD Ab):=aJ
theorem Ol:aH ["a","total","i","place","later"] ["a"] (aD Ac):=aJ
theorem Om:aH ["a","total","i"] ["a"] (aD Ad):=aJ
theorem Oo:aH ["a","b","i","j"] ["a","b"] (aD Ae):=aJ
theorem Oq:aH ["n","a","total","i","smaller","later"] ["n","a"] (aD Af):=aJ
theorem Ot:aH ["number","n","digits","left","base","free","a","digit"] ["number","n"] (aD Ag):=aJ
theorem Ou:aH ["values","i","kept"] ["values","i"] (aD Ah):=aJ
theorem Ov:aH ["a","now","row","i"] ["a"] (aD Ai):=aJ
theorem Ow:aH ["row","strands","crossing","i"] ["row"] (aD Aj):=aJ
theorem Ox:aH ["n","a","twists"] ["n","a","twists"] (aD Ak):=aJ
theorem Oy:aH ["a"] ["a"] (aD Al):=aJ
theorem Oz:aH ["factors","at","arriving","leaving","i","source","goal","to"] ["factors","at"] (aD Am):=aJ
theorem OA:aH ["n","factors","factor","twist","at","comes_out","i"] ["n","factors","factor"] (aD An):=aJ
theorem OB:aH ["factors","beginning","left","at","a"] ["factors","beginning"] (aD Ao):=aJ
theorem OC:aH ["braid"] ["braid"] (aD Ap):=aJ
theorem OD:aH ["a","b","twists","factors","factor"] ["a","b"] (aD Aq):=aJ
theorem OE:aH ["a","passing","twists","factors","factor"] ["a"] (aD Au):=aJ
theorem OF:aH ["a","exponent","base","power","step"] ["a","exponent"] (aD Av):=aJ
theorem OG:aH ["n","factor","factors","twists"] ["n","factor"] (aD Aw):=aJ
theorem OH:aH ["n","crossing","factor","braid"] ["n","crossing"] (aD Ax):=aJ
theorem OI:aH ["n","row","braid","crossing"] ["n","row"] (aD Ay):=aJ
theorem OJ:aH ["a","first","behind_first"] ["a"] (aD Az):=aJ
theorem OK:aH ["a","before_last"] ["a"] (aD AA):=aJ
theorem OL:aH ["a","b","crossed","i","j"] ["a","b"] (aD AB):=aJ
theorem OM:aH ["crossed","i","j"] ["crossed"] (aD AD):=aJ
theorem ON:aH ["crossed_with","more","k"] ["crossed_with","more"] (aD AE):=aJ
theorem OO:aH ["crossed","i","before","passed","j"] ["crossed","i"] (aD AF):=aJ
theorem OP:aH ["a","b","crossed","i"] ["a","b"] (aD AG):=aJ
theorem OQ:aH ["a","b","twist"] ["a","b"] (aD AH):=aJ
theorem OR:aH ["a","b"] ["a","b"] (aD AI):=aJ
theorem OS:aH ["a","twists","factors"] ["a","twists"] (aD AJ):=aJ
theorem OT:aH ["a","b","twists","of_a","of_b","most","factors","shared"] ["a","b"] (aD AK):=aJ
theorem OU:aH ["n"] ["n"] (aD AL):=aJ
theorem OV:aH ["partners","one","other"] ["partners","one","other"] (aD AM):=aJ
theorem OW:aH ["picture","sign"] ["picture","sign"] (aD AN):=aJ
theorem OX:aH ["picture","left","sign","right","partners"] ["picture","left","sign"] (aD AO):=aJ
theorem OY:aH ["n","row","pictures","crossing","sign","left","p"] ["n","row"] (aD AQ):=aJ
theorem OZ:aH ["n","picture","walked","loops","start","end"] ["n","picture"] (aD AR):=aJ
theorem O0:aH ["most","powers","last","x","y"] ["most"] (aD AS):=aJ
theorem O1:aH ["n","row","most","numbers","powers","picture","power","least","i","number"] ["n","row"] (aD AU):=aJ
theorem O2:aH ["braid"] ["braid"] (aD AV):=aJ
theorem O3:aH ["a","b"] ["a","b"] (aD AW):=aJ
theorem O4:aH ["n"] ["n"] (aD AX):=aJ
theorem O5:aH ["braid","factor"] ["braid"] (aD AY):=aJ
theorem O6:aH ["braid"] ["braid"] (aD AZ):=aJ
theorem O7:aH ["braid","twist","row","factor","crossing"] ["braid"] (aD A3):=aJ
theorem O8:aH ["braid"] ["braid"] (aD A4):=aJ
theorem O9:aH ["braid","reached","factor"] ["braid"] (aD A5):=aJ
theorem O_:aH ["reached","walked","loops","start","place"] ["reached"] (aD A6):=aJ
theorem Pa:aH ["n","row","crossing"] ["n","row"] (aD A7):=aJ
theorem Pb:aH ["n","row","longest"] ["n","row","longest"] (aD A8):=aJ
theorem Pd:aH ["a","b"] ["a","b"] (aD A9):=aJ
theorem Pf:aH ["book","call","n","row","refusal"] ["book","call"] (aD A_):=aJ
theorem Pg:aH ["book","call","a","b","refusal"] ["book","call"] (aD Ba):=aJ
theorem Ph:aH ["book","call","a"] ["book","call"] (aD Bb):=aJ
theorem Pj:aH ["book","call","a","exponent"] ["book","call"] (aD Bc):=aJ
theorem Pk:aH ["book","call","a","b","refusal"] ["book","call"] (aD Be):=aJ
theorem Pl:aH ["book","call","a","cycled"] ["book","call"] (aD Bf):=aJ
theorem Pn:aH ["book","call","a","b"] ["book","call"] (aD Bg):=aJ
theorem Po:aH ["book","call","a","b","refusal"] ["book","call"] (aD Bh):=aJ
theorem Pp:aH ["book","call","a","answer","factor"] ["book","call"] (aD Bj):=aJ
theorem Pq:aH ["book","call","a"] ["book","call"] (aD Bk):=aJ
theorem Pr:aH ["book","call","a","reached"] ["book","call"] (aD Bl):=aJ
theorem Pt:aH ["book","call","n","row","refusal"] ["book","call"] (aD Bm):=aJ
theorem Pu:aH ["book","call","answer"] ["book","call"] (aD Bn):=aJ
theorem Pw:aH ["call","a"] ["call"] (aD Bo):=aJ
theorem Px:aH ["call"] ["call"] (aD Bp):=aJ
theorem Py:aH ["call"] ["call"] (aD Bq):=aJ
theorem Pz:aH ["call"] ["call"] (aD Br):=aJ
theorem PB:aH ["call"] ["call"] (aD Bs):=aJ
theorem PD:aH ["call"] ["call"] (aD Bt):=aJ
theorem PF:aH ["call","a","starting","ending"] ["call"] (aD Bu):=aJ
theorem PH:aH ["call"] ["call"] (aD Bv):=aJ
theorem PJ:aH ["call"] ["call"] (aD Bw):=aJ
theorem PL:aH ["call"] ["call"] (aD Bx):=aJ
theorem PM:aH ["call"] ["call"] (aD By):=aJ
theorem PN:aH ["call","n"] ["call"] (aD Bz):=aJ
theorem PQ:aH ["call"] ["call"] (aD BA):=aJ
theorem PR:aH ["call","row"] ["call"] (aD BC):=aJ
theorem PU:aH ["call","answer"] ["call"] (aD BD):=aJ
theorem PV:aH ["book","call"] ["book","call"] (aD BE):=aJ
theorem PX:aH ["calls","reader","book","given","answer"] ["calls"] (aD BF):=aJ
theorem PY:aH ["self","n","twists","factors"] ["self","n","twists","factors"] (aD BG):=aJ
theorem PZ:aH ["self","partners","loops","exponent"] ["self","partners","loops","exponent"] (aD BH):=aJ
theorem P2:aH ["self"] ["self"] (aD BI):=aJ
theorem P4:aH ["self","place"] ["self","place"] (aD BJ):=aJ
theorem P5:aH ["self","place"] ["self","place"] (aD BL):=aJ
theorem P6:aH ["self","place","braid"] ["self","place","braid"] (aD BM):=aJ
theorem P7:aH ["self","number","numbers","rows"] ["self","number","numbers","rows"] (aD BN):=aJ
theorem P8:aH ["self","calls"] ["self","calls"] (aD BO):=aJ
theorem P9:aH ["self"] ["self"] (aD BP):=aJ
theorem P_:aH ["self","number"] ["self"] (aD BQ):=aJ
theorem Qa:aH ["self","how_many","start"] ["self","how_many"] (aD BR):=aJ
theorem Qb:aH ["self","number","shape","numbers","rows","how_many"] ["self"] (aD BS):=aJ
set_option genInjectivity false in
set_option genSizeOf false in
structure Txt(K:PySem.W.Frag)(mg:Str->Option Value) where
 kM:mg "abs"=none
 BU:mg "all"=none
 vJ:mg "enumerate"=none
 cZ:mg "len"=none
 gF:mg "list"=none
 GV:mg "max"=none
 BV:mg "min"=none
 cM:mg "range"=none
 vK:mg "reversed"=none
 GW:mg "sorted"=none
 GX:mg "sum"=none
 GY:mg "zip"=none
 BW:∃t,mg "BOOK_PLACES"=some (.int (16) t)
 dD:∃t,mg "DONE"=some (.int (0) t)
 lZ:∃t,mg "EMPTY"=some (.int (-4) t)
 GZ:∃t,mg "FEWEST_STRANDS"=some (.int (2) t)
 G0:∃t,mg "FIRST_BRAID_CALL"=some (.int (13) t)
 G1:∃t,mg "GREATEST_EXPONENT"=some (.int (8) t)
 BX:∃t,mg "LONGEST_ROW"=some (.int (100) t)
 G2:∃t,mg "LONGEST_ROW_OF_STATES"=some (.int (10) t)
 G3:∃t,mg "LONGEST_ROW_TOLD"=some (.int (5000) t)
 G4:∃t,mg "MARGIN"=some (.int (16) t)
 G5:∃t,mg "MOST_FACTORS"=some (.int (60) t)
 G6:∃t,mg "MOST_STRANDS_OF_STATES"=some (.int (6) t)
 G7:∃t,mg "MOST_TWISTS"=some (.int (100) t)
 gG:∃t,mg "NOT_RIGHT"=some (.int (-1) t)
 G8:∃t,mg "OTHER_STRANDS"=some (.int (-2) t)
 dt:∃t,mg "PLACES"=some (.int (16) t)
 qi:∃t,mg "TOO_LARGE"=some (.int (-3) t)
 BY:Int->Option V
 G9:sZ K mg "SHAPES" BY
 shapes:∀k a b,PyWqaraq.shape k=some (a,b)->∃t,BY k=some (.ref t)/\∀H,fF K H t [.int (a:Nat),.int (b:Nat)]
 gT:Int->Option V
 G_:sZ K mg "ANSWERS" gT
 gU:Int->Option V
 Ha:sZ K mg "BRAID_ANSWERS" gU
 iY:Addr
 aZ:f9 K iY
 l6:mg "Braid"=some (.ref iY)
 dE:eZ K iY "n"
 eJ:eZ K iY "twists"
 eU:eZ K iY "factors"
 jA:Addr
 gq:f9 K jA
 s_:mg "Picture"=some (.ref jA)
 og:eZ K jA "partners"
 qj:eZ K jA "loops"
 qk:eZ K jA "exponent"
 fh:Addr
 du:f9 K fh
 Hb:mg "Book"=some (.ref fh)
 vL:eZ K fh "braids"
 kN:Addr
 kO:f9 K kN
 Hc:mg "Call"=some (.ref kN)
 tf:eZ K kN "number"
 BZ:eZ K kN "numbers"
 vM:eZ K kN "rows"
 fj:Addr
 ft:f9 K fj
 Hd:mg "Reader"=some (.ref fj)
 tj:eZ K fj "calls"
 l7:eZ K fj "at"
 ql:Df K mg "is_strand_count" z6 ["n"]
 tm:Df K mg "is_right" z7 ["a","n"]
 kP:Df K mg "first_then" z8 ["a","b"]
 kQ:Df K mg "taken_back" z9 ["a"]
 l8:Df K mg "half_twist" z_ ["n"]
 tq:Df K mg "missing_to_half_twist" Aa ["n","a"]
 qm:Df K mg "seen_from_behind" Ab ["n","a"]
 tu:Df K mg "crossing_pairs_count" Ac ["a"]
 tz:Df K mg "crossing_neighbours_sum" Ad ["a"]
 begins:Df K mg "begins" Ae ["a","b"]
 vN:Df K mg "number_of" Af ["n","a"]
 numbered:Df K mg "numbered" Ag ["number","n"]
 qo:Df K mg "exchange" Ah ["values","i"]
 qp:Df K mg "row_of" Ai ["a"]
 followed:Df K mg "followed" Aj ["row"]
 qr:Df K mg "turned_by" Ak ["n","a","twists"]
 oh:Df K mg "is_without_crossings" Al ["a"]
 tE:Df K mg "hand_over" Am ["factors","at"]
 kK:Df K mg "take_in" An ["n","factors","factor"]
 tH:Df K mg "without_beginning" Ao ["factors","beginning"]
 vO:Df K mg "is_too_large" Ap ["braid"]
 l9:Df K mg "product_of" Aq ["a","b"]
 oi:Df K mg "inverse_of" Au ["a"]
 vP:Df K mg "power_of" Av ["a","exponent"]
 qt:Df K mg "braid_of_factor" Aw ["n","factor"]
 vQ:Df K mg "braid_of_crossing" Ax ["n","crossing"]
 tI:Df K mg "braid_of_row" Ay ["n","row"]
 vR:Df K mg "cycled_by_first" Az ["a"]
 vS:Df K mg "cycled_by_last" AA ["a"]
 vT:Df K mg "crossed_in_either" AB ["a","b"]
 close:Df K mg "close" AD ["crossed"]
 vU:Df K mg "add_crossings" AE ["crossed_with","more"]
 vV:Df K mg "place_reached" AF ["crossed","i"]
 tJ:Df K mg "join_of" AG ["a","b"]
 tK:Df K mg "meet_of" AH ["a","b"]
 vW:Df K mg "braid_begins" AI ["a","b"]
 tM:Df K mg "factors_above" AJ ["a","twists"]
 vX:Df K mg "greatest_beginning" AK ["a","b"]
 vY:Df K mg "picture_without_crossings" AL ["n"]
 connect:Df K mg "connect" AM ["partners","one","other"]
 vZ:Df K mg "straight" AN ["picture","sign"]
 v_:Df K mg "bent" AO ["picture","left","sign"]
 wa:Df K mg "pictures_of" AQ ["n","row"]
 wb:Df K mg "loops_when_joined" AR ["n","picture"]
 wc:Df K mg "powers_of_loop" AS ["most"]
 wd:Df K mg "polynomial_of" AU ["n","row"]
 rank:Df K mg "rank" AV ["braid"]
 we:Df K mg "compared" AW ["a","b"]
 tN:Df K mg "crossings_of_half_twist" AX ["n"]
 tO:Df K mg "crossings_of_factors" AY ["braid"]
 lW:Df K mg "row_length" AZ ["braid"]
 wg:Df K mg "row_of_form" A3 ["braid"]
 wj:Df K mg "above_less_below" A4 ["braid"]
 wk:Df K mg "places_reached" A5 ["braid"]
 wm:Df K mg "loops_of" A6 ["reached"]
 wo:Df K mg "are_crossings" A7 ["n","row"]
 tP:Df K mg "refusal_of_row" A8 ["n","row","longest"]
 qu:Df K mg "refusal_of_two" A9 ["a","b"]
 oj:Df K mg "answer_set" A_ ["book","call"]
 om:Df K mg "answer_times" Ba ["book","call"]
 oo:Df K mg "answer_inverse" Bb ["book","call"]
 oq:Df K mg "answer_power" Bc ["book","call"]
 ot:Df K mg "answer_greatest" Be ["book","call"]
 ou:Df K mg "answer_cycle" Bf ["book","call"]
 ow:Df K mg "answer_order" Bg ["book","call"]
 ox:Df K mg "answer_starts" Bh ["book","call"]
 oy:Df K mg "answer_form" Bj ["book","call"]
 oz:Df K mg "answer_row" Bk ["book","call"]
 oA:Df K mg "answer_told" Bl ["book","call"]
 oB:Df K mg "answer_states" Bm ["book","call"]
 wq:Df K mg "answer_braid_call" Bn ["book","call"]
 kR:Df K mg "all_right" Bo ["call"]
 qv:Df K mg "right_for_told" Bp ["call"]
 oC:Df K mg "answer_then" Bq ["call"]
 oE:Df K mg "answer_back" Br ["call"]
 oF:Df K mg "answer_rest" Bs ["call"]
 oG:Df K mg "answer_turned" Bt ["call"]
 oH:Df K mg "answer_facts" Bu ["call"]
 oI:Df K mg "answer_begins" Bv ["call"]
 oJ:Df K mg "answer_meet" Bw ["call"]
 oK:Df K mg "answer_join" Bx ["call"]
 oM:Df K mg "answer_number" By ["call"]
 oN:Df K mg "answer_numbered" Bz ["call"]
 oO:Df K mg "answer_word" BA ["call"]
 oP:Df K mg "answer_follow" BC ["call"]
 wt:Df K mg "answer_permutation_call" BD ["call"]
 wx:Df K mg "answer_to" BE ["book","call"]
 answers:Df K mg "answers" BF ["calls"]
 j6:Di K iY "Braid.__init__" BG ["self","n","twists","factors"]
 oQ:Di K jA "Picture.__init__" BH ["self","partners","loops","exponent"]
 tQ:Di K fh "Book.__init__" BI ["self"]
 tR:Dm K fh "has_place" "Book.has_place" BJ ["self","place"]
 gu:Dm K fh "braid_at" "Book.braid_at" BL ["self","place"]
 kS:Dm K fh "put" "Book.put" BM ["self","place","braid"]
 wy:Di K kN "Call.__init__" BN ["self","number","numbers","rows"]
 wz:Di K fj "Reader.__init__" BO ["self","calls"]
 wA:Dm K fj "is_done" "Reader.is_done" BP ["self"]
 tT:Dm K fj "take_number" "Reader.take_number" BQ ["self"]
 tU:Dm K fj "take_numbers" "Reader.take_numbers" BR ["self","how_many"]
 wB:Dm K fj "take_call" "Reader.take_call" BS ["self"]
 He:gT 1=some (.ref oC.f)
 Hf:gT 2=some (.ref oE.f)
 Hg:gT 3=some (.ref oF.f)
 Hh:gT 4=some (.ref oG.f)
 Hi:gT 5=some (.ref oH.f)
 Hj:gT 6=some (.ref oI.f)
 Hk:gT 7=some (.ref oJ.f)
 Hl:gT 8=some (.ref oK.f)
 Hm:gT 9=some (.ref oM.f)
 Hn:gT 10=some (.ref oN.f)
 Ho:gT 11=some (.ref oO.f)
 Hq:gT 12=some (.ref oP.f)
 Hr:gU 13=some (.ref oj.f)
 Ht:gU 14=some (.ref om.f)
 Hu:gU 15=some (.ref oo.f)
 Hv:gU 16=some (.ref oq.f)
 Hw:gU 17=some (.ref ot.f)
 Hx:gU 18=some (.ref ou.f)
 Hy:gU 19=some (.ref ow.f)
 Hz:gU 20=some (.ref ox.f)
 HA:gU 21=some (.ref oy.f)
 HB:gU 22=some (.ref oz.f)
 HC:gU 23=some (.ref oA.f)
 HD:gU 24=some (.ref oB.f)
end BK
end
section
namespace L2
open PySem PySem.Spec PyProof.Rows
section
variable{X:Cx}
theorem j7{K:PySem.W.Frag}(h:X.K=K):uR X (jj K):=by subst h;exact DO
theorem HE{K:PySem.W.Frag}{e:Expr}{ta:TE}{f:Str}{pos:Pos}(h:X.K=K)(he:PE X e ta)(hb:attributeBase e f X.env (eval e X.env)=eval e X.env):PE X (.Attribute e f pos) (jh K ta f):=by subst h;exact DA he hb
noncomputable def tV:List V->Hp->VK->Prop:=fun xs H Q=>∃r lo hi,xs=[.ref r]/\H r=some (.kh lo hi)/\(-(2 ^ 62)<=lo/\lo<2 ^ 62/\ -(2 ^ 62)<=hi/\hi<2 ^ 62)/\(hi - lo).toNat<=sizeLine/\∀l,H l=none->Q (.ref l) (upd H l (.lst (lY lo (hi - lo).toNat)))
theorem j8(hc:X.calm=true):jf X (.type "list") tV:=N7 hc
end
end L2
namespace L2
open PySem PySem.Spec PyProof.Rows
noncomputable def oR(g:TG)(tt:TT)(te:TE)(vs:List Nat)(σ:L2.St)(Q:VK)(J:It)(H1:Hp):Prop:=∀D,H1 D=none->∃W:Nat->Nat->Hp->Prop,(∃m,W 0 m (upd H1 D (.lst [])))/\∀i m H,W i m H->
 (J.stop i H/\Q (.ref D) H)\/(J.go i H/\∃Nx:Hp->Prop,(∀H',Nx H'->∃m',m'<m/\W (i+1) m' H')/\∀x H',J.iK i H x H'->g x (wipe σ vs) H' fun σ2 H2=>wipe σ2 vs=wipe σ vs/\tt σ2 H2 fun b H3=>
  if b=true then te σ2 H3 fun y H4=>∃acc,H4 D=some (.lst acc)/\acc.length<sizeLine/\Nx (upd H4 D (.lst (acc++[y]))) else Nx H3)
theorem gV{wi:TI}{g:TG}{tt:TT}{te:TE}{vs:List Nat}{σ:L2.St}{H:Hp}{Q:VK}(h:wi σ H (oR g tt te vs σ Q)):rT wi g tt te vs σ H Q:=h
end L2
namespace BK
open PySem PySem.Spec PyProof.Rows L2 BB PySem.W
open Wqaraq (Perm Form)
abbrev Ls(H:Hp)(p:Addr)(a:List Nat):Prop:=H p=some (.lst (nv a))
abbrev Li(H:Hp)(p:Addr)(l:List Int):Prop:=H p=some (.lst (iv l))
noncomputable def bB(H:Hp)(Q:VK)(xs:List V):Prop:=∀(H':Hp) (r:Addr),ag H H'->H r=none->H' r=some (.lst xs)->Q (.ref r) H'
noncomputable def Val(H:Hp)(Q:VK)(v:V):Prop:=∀H':Hp,ag H H'->Q v H'
theorem small{n:Nat}(h:n<=100000):n<sizeLine:=Nat.lt_of_le_of_lt h (by rw[sizeLine_eq];decide)
theorem cv{n:Nat}(h:n<=100000):n<=sizeLine:=Nat.le_of_lt (small h)
theorem kT{a:List Nat}{j:Nat}(h:j<a.length):(nv a)[j]?=some (.int ((Wqaraq.at_ a j:Nat):Int)):=by
 unfold nv
 rw[b_,bu h,kH h];rfl
theorem c8{a:List Nat}{z:Int}{j:Nat}(e:z=(j:Int))(h:j<a.length):gP (nv a) z=some (.int ((Wqaraq.at_ a j:Nat):Int)):=at_of e (kT h)
theorem HF{a:List Int}{j:Nat}{v:Int}(h:a[j]?=some v):(iv a)[j]?=some (.int v):=by
 unfold iv;rw[b_,h];rfl
theorem B3{a:List Int}{z:Int}{j:Nat}{v:Int}(e:z=(j:Int))(h:a[j]?=some v):gP (iv a) z=some (.int v):=at_of e (HF h)
theorem d8{n:Nat}{z:Int}{j:Nat}(e:z=(j:Int))(h:j<n):jT n z=some j:=by
 unfold jT;rw[af (by lia),af (by lia)];congr 1;lia
theorem l_{a:List Nat}{j v:Nat}:(nv a).set j (.int ((v:Nat):Int))=nv (a.set j v):=by unfold nv;rw[List.map_set]
theorem Qc{a:List Int}{j:Nat}{v:Int}:(iv a).set j (.int v)=iv (a.set j v):=by unfold iv;rw[List.map_set]
theorem ma(a:List Nat):nv a=iv (fS a):=by unfold nv iv fS;rw[dw];rfl
theorem wC(a b:List Nat):nv (a++b)=nv a++nv b:=by unfold nv;rw[cQ]
theorem wD(a b:List Int):iv (a++b)=iv a++iv b:=by unfold iv;rw[cQ]
theorem Qd(lo n:Nat):lY (lo:Int) n=nv (List.range' lo n):=by
 unfold lY nv
 rw[List.range'_eq_map_range,dw]
 refine gX fun k _=>?_
 show V.int ((lo:Int)+(k:Int))=V.int ((lo+k:Nat):Int)
 congr 1
theorem Qe:Wqaraq.still=List.range 16:=by decide
theorem HG{H1:Hp}{Q:VK}{lo hi:Int}{r:Addr}(i j:Nat)(e1:lo=(i:Int))(e2:hi=(j:Int))(hj:i<=100000/\j<=100000)(hr:H1 r=none)(k:bB H1 Q (nv (List.range' i (j - i)))):tV [V.ref r] (upd H1 r (.kh lo hi)) Q:=by
 refine⟨r,lo,hi,rfl,au,by lia,cv (by lia),fun l hl=>?_⟩
 refine k _ l ((ag.bA hr).upd ((ag.bA hr).free hl)) ((ag.bA hr).free hl) ?_
 rw[au,e1,e2,Qd,show ((j:Int) - (i:Int)).toNat=j - i by lia]
theorem wF{σ:L2.St}{H:Hp}{Q:VK}{te:TE}{v:V}(j:Nat)(ev:v=.int j)(ht:∀Q',Q' v H->te σ H Q')(hj:j<=100000)(k:bB H Q (nv (List.range j))):nH tV (bS (zW (bS te cq)) cq) σ H Q:=by
 refine ht _ ⟨j,by rw[ev],fun r hr=>HG 0 j rfl rfl ⟨by lia,hj⟩ hr ?_⟩
 rw[Nat.sub_zero,<-List.range_eq_range']
 exact k
theorem B_{σ:L2.St}{H:Hp}{Q:VK}{ta tb:TE}{va vb:V}(i j:Nat)(ea:va=.int i)(eb:vb=.int j)(ha:∀Q',Q' va H->ta σ H Q')(hb:∀Q',Q' vb H->tb σ H Q')(hj:i<=100000/\j<=100000)(k:bB H Q (nv (List.range' i (j - i)))):
  nH tV (bS (GQ (bS ta (bS tb cq))) cq) σ H Q:=
 ha _ (hb _ ⟨i,j,by rw[ea,eb],fun r hr=>HG i j rfl rfl hj hr k⟩)
theorem tW{σ:L2.St}{H:Hp}{Q:VK}(k:bB H Q (nv Wqaraq.still)):nH tV (bS (zW (bS (tC (.int 16)) cq)) cq) σ H Q:=
 wF (v:=.int 16) 16 rfl (fun _ q=>q) (by decide) (by rw[<-Qe];exact k)
theorem tX{K:PySem.W.Frag}{H:Hp}{p:Addr}{ns:List Int}(h:ai K H p (iv ns)):Dp K H (.ref p) (.list (ns.map PyData.int)):=by
 refine .lst h ?_
 unfold iv
 clear h
 induction ns with
 |nil=>exact .nil
 |cons a r ih=>exact .cons (.int a) ih
theorem Ca:∀(ns ms:List Int),PyData.eqv (.list (ns.map PyData.int)) (.list (ms.map PyData.int))=decide (ns=ms):=by
 intro ns ms
 rw[<-SeqAt.same_eq_eqv _ _ (SeqAt.noMix_of_shape (.list .int) rfl _ _ (list_map_has fun _=>rfl) (list_map_has fun _=>rfl)),ke_same]
theorem Cb{K:PySem.W.Frag}{H:Hp}{Q:VK}{p q:Addr}{ns ms:List Int}(h1:ai K H p (iv ns))(h2:ai K H q (iv ms))(k:Q (.bl (decide (ns=ms))) H):xT K (.ref p) (.ref q) H Q:=
 ⟨_,_,tX h1,tX h2,ke_shaped_ints _,ke_shaped_ints _,by rw[Ca];exact k⟩
theorem Qg{K:PySem.W.Frag}{H:Hp}{Q:VK}{p q:Addr}{ns ms:List Int}(h1:ai K H p (iv ns))(h2:ai K H q (iv ms))(k:Q (.bl (!decide (ns=ms))) H):xU K (.ref p) (.ref q) H Q:=
 ⟨_,_,tX h1,tX h2,ke_shaped_ints _,ke_shaped_ints _,by rw[Ca];exact k⟩
theorem Cc{K:PySem.W.Frag}{H:Hp}{Q:VK}{p q:Addr}{a b:List Nat}(h1:Ls H p a)(h2:Ls H q b)(k:Q (.bl (decide (a=b))) H):xT K (.ref p) (.ref q) H Q:=by
 refine Cb (ns:=fS a) (ms:=fS b) (ai.of (by rw[<-ma];exact h1)) (ai.of (by rw[<-ma];exact h2)) ?_
 rw[show decide (fS a=fS b)=decide (a=b) from gA.mpr ⟨yS,fun e=>by rw[e]⟩]
 exact k
theorem Qh{K:PySem.W.Frag}{H:Hp}{Q:VK}{p q:Addr}{a b:List Nat}(h1:Ls H p a)(h2:Ls H q b)(k:Q (.bl (!decide (a=b))) H):xU K (.ref p) (.ref q) H Q:=by
 refine Qg (ns:=fS a) (ms:=fS b) (ai.of (by rw[<-ma];exact h1)) (ai.of (by rw[<-ma];exact h2)) ?_
 rw[show decide (fS a=fS b)=decide (a=b) from gA.mpr ⟨yS,fun e=>by rw[e]⟩]
 exact k
theorem yes{σ:L2.St}{H:Hp}{A:Hp->Prop}{B:Hp->Prop}(h:A H):D6 σ H fun b H3=>if b=true then A H3 else B H3:=by
 show if true=true then A H else B H
 exact gf h
theorem jB{Q:VK}{H:Hp}{a b:Int}(h:Q (.int a) H)(e:b=a):Q (.int b) H:=by rw[e];exact h
theorem ip{Q:VK}{H:Hp}{a b:Bool}(h:Q (.bl a) H)(e:b=a):Q (.bl b) H:=by rw[e];exact h
theorem Cd{a:Perm}(h:aw a):(nv a).length=16:=by rw[cK,h.len]
theorem tY{r:List V->Hp->VK->Prop}{te:TE}{σ:L2.St}{H:Hp}{Q:VK}(h:te σ H fun x H1=>r [x] H1 Q):nH r (bS te cq) σ H Q:=h
theorem bG{te:TE}{tr:TA}{σ:L2.St}{H:Hp}{Q:List V->Hp->Prop}(h:te σ H fun x H1=>tr σ H1 fun xs H2=>Q (x::xs) H2):bS te tr σ H Q:=h
theorem cg{i:Nat}{v:V}{σ:L2.St}{H:Hp}{Q:L2.St->Hp->Prop}(h:Q (σ.set i (some v)) H):dy i v σ H Q:=h
theorem aQ{t u:TS}{D:Ends}{σ:L2.St}{H:Hp}(h:t {D with nx:=u D} σ H):ko t u D σ H:=h
theorem bz{te:TE}{g:TG}{D:Ends}{σ:L2.St}{H:Hp}(h:te σ H fun x H1=>g x σ H1 D.nx):lD te g D σ H:=h
theorem iq{r:R2}{ta tb:TE}{σ:L2.St}{H:Hp}{Q:VK}(h:ta σ H fun x H1=>tb σ H1 fun y H2=>r x y H2 Q):eP r ta tb σ H Q:=h
theorem a8{te:TE}{D:Ends}{σ:L2.St}{H:Hp}(h:te σ H D.rt):jL te D σ H:=h
theorem dI{c:TT}{t u:TS}{D:Ends}{σ:L2.St}{H:Hp}(h:c σ H fun b H1=>if b=true then t D σ H1 else u D σ H1):pH c t u D σ H:=h
theorem ir{t:TE}{σ:L2.St}{H:Hp}{Q:Bool->Hp->Prop}(h:t σ H fun x H'=>∃k,x=.bl k/\Q k H'):pK t σ H Q:=h
theorem oS{t:TT}{σ:L2.St}{H:Hp}{Q:Bool->Hp->Prop}(h:t σ H fun c H1=>Q (!c) H1):uF t σ H Q:=h
theorem Qi{t u:TT}{σ:L2.St}{H:Hp}{Q:Bool->Hp->Prop}(h:t σ H fun c H1=>if c=true then Q true H1 else u σ H1 Q):C8 t u σ H Q:=h
theorem HH{t u:TT}{σ:L2.St}{H:Hp}{Q:Bool->Hp->Prop}(h:t σ H fun c H1=>if c=true then u σ H1 Q else Q false H1):C6 t u σ H Q:=h
theorem jC{t:TE}{σ:L2.St}{H:Hp}{Q:Bool->Hp->Prop}(h:t σ H fun x H1=>∃c,x=.bl c/\Q c H1):tB t σ H Q:=h
theorem bP{sp:Sp}{dvs:List V}{E:XK}{t:TA}{σ:L2.St}{H:Hp}{Q:VK}(h:t σ H fun vs H1=>sp (vs++dvs) H1 Q E):pL sp dvs E t σ H Q:=h
abbrev Ce(g:TG)(tt:TT)(te:TE)(vs:List Nat)(σ:L2.St)(H':Hp)(x:V)(p:Bool)(y:V):Prop:=∀(R:V->Hp->Prop) (Nx:Hp->Prop),(p=true->∀H'',ag H' H''->R y H'')->(p=false->∀H'',ag H' H''->Nx H'')->
 g x (wipe σ vs) H' fun σ2 H2=>wipe σ2 vs=wipe σ vs/\tt σ2 H2 fun b H3=>if b=true then te σ2 H3 R else Nx H3
theorem qw{α:Type}{K:PySem.W.Frag}{a:Addr}{l:List α}{em:α->V}{g:TG}{tt:TT}{te:TE}{vs:List Nat}{σ:L2.St}{H:Hp}{Q:VK}(p:α->Bool)(f:α->V)
  (hq:ai K H a (l.map em))(hl:l.length<=100000)(hs:∀(x:α) (H':Hp),x∈l->ag H H'->Ce g tt te vs σ H' (em x) (p x) (f x))(k:bB H Q ((l.filter p).map f)):oR g tt te vs σ Q (jN K a) H:=fun D hD=>
 GP p f hq (small hl) hD hs fun H' s h=>k H' D s hD h
theorem wG{lo:Int}{n:Nat}{g:TG}{tt:TT}{te:TE}{vs:List Nat}{σ:L2.St}{H:Hp}{Q:VK}(p:Nat->Bool)(f:Nat->V)
  (hl:n<=100000)(hs:∀(i:Nat) (H':Hp),i<n->ag H H'->Ce g tt te vs σ H' (.int (lo+i)) (p i) (f i))(k:bB H Q (((List.range n).filter p).map f)):oR g tt te vs σ Q (jO lo n) H:=fun D hD=>
 zU p f (small hl) hD hs fun H' s h=>k H' D s hD h
theorem tZ{α:Type}(l:List α):l.filter (fun _=>true)=l:=rf.mpr fun _ _=>rfl
theorem Cf{xs:List V}{z:Int}(i:Nat)(e:z=(i:Int)):cX xs (some z) none=xs.drop i:=by
 subst e
 unfold cX
 rw[HT.xP,HT.uQ]
 by_cases h:i<=xs.length
 ·rw[rm h]
  exact o5 (by rw[List.length_drop];exact aX _)
 ·rw[Nat.min_eq_right (by lia),List.drop_length,List.take_nil,rk (by lia)]
theorem t_{xs:List V}{z:Int}(j:Nat)(e:z=(j:Int)):cX xs none (some z)=xs.take j:=by
 subst e
 unfold cX
 rw[HT.xP,HT.uQ,List.drop_zero,Nat.sub_zero]
 by_cases h:j<=xs.length
 ·rw[rm h]
 ·rw[Nat.min_eq_right (by lia),gY,o5 (by lia)]
theorem HI{xs:List V}{y z:Int}(i j:Nat)(e1:y=(i:Int))(e:z=(j:Int)):cX xs (some y) (some z)=(xs.take j).drop i:=by
 subst e1 e
 unfold cX
 rw[HT.uQ,HT.uQ]
 rw[<-List.drop_take]
 by_cases h:i<=xs.length
 ·rw[rm h]
  by_cases h2:j<=xs.length
  ·rw[rm h2]
  ·rw[Nat.min_eq_right (by lia),gY,o5 (by lia)]
 ·rw[Nat.min_eq_right (by lia),rk (by rw[c_];lia),rk (by rw[c_];lia)]
theorem Qj{xs:List V}:cX xs none (some (-1))=xs.dropLast:=by
 unfold cX
 rw[HT.xP,List.drop_zero,Nat.sub_zero]
 have:HT.fK xs.length xs.length (some (-1))=xs.length - 1:=by
  show (if (-1:Int)<0 then ((-1:Int)+(xs.length:Int)).toNat else min (-1:Int).toNat xs.length)=_
  rw[af (by decide)];lia
 rw[this,List.dropLast_eq_take]
theorem HJ(a:List Nat)(i:Nat):nv (a.drop i)=(nv a).drop i:=by unfold nv;rw[List.map_drop]
theorem Cg(a:List Nat)(i:Nat):nv (a.take i)=(nv a).take i:=by unfold nv;rw[List.map_take]
theorem HK(a:List Int)(i:Nat):iv (a.drop i)=(iv a).drop i:=by unfold iv;rw[List.map_drop]
theorem HL(a:List Int)(i:Nat):iv (a.take i)=(iv a).take i:=by unfold iv;rw[List.map_take]
theorem Qk{a:Perm}(ha:aw a){i:Nat}{x:V}(h:(nv a)[i]?=some x):i<16/\x=V.int ((Wqaraq.at_ a i:Nat):Int):=by
 have hi:i<16:=by have:=(dW.mp h).1;rwa[cK,ha.len]at this
 rw[kT (by rw[ha.len];exact hi)]at h
 exact⟨hi,(bo h).symm⟩
theorem aS{b:Bool}{A B:Prop}(h1:b=true->A)(h2:b=false->B):if b=true then A else B:=by
 cases b with
 |true=>exact gf (h1 rfl)
 |false=>exact dN (h2 rfl)
end BK
end
section
namespace BK
open PySem PySem.Spec PyProof.Rows L2
section
variable{X:Cx}{e e1 e2 e3 e4 o a b:Expr}{es:List Expr}{te t1 t2 t3 t4 ta tb to:TE}{t:TA}{x m:Str}{st:Stmt}{ps:List Str}{k n:Nat}{sp:Sp}{p pos apos cpos:Pos}{C:Addr}{q:Str}
theorem ak(a:PE X e1 t1)(h:starEach [e1] X.env=(false,eval e1 X.env)::starEach [] X.env:=by rfl):PA X [e1] (bS t1 cq):=jP a gN h
theorem aR(a:PE X e1 t1)(b:PE X e2 t2)(h:starEach [e1,e2] X.env=(false,eval e1 X.env)::starEach [e2] X.env:=by rfl)(h2:starEach [e2] X.env=(false,eval e2 X.env)::starEach [] X.env:=by rfl):PA X [e1,e2] (bS t1 (bS t2 cq)):=jP a (ak b h2) h
theorem dv(a:PE X e1 t1)(b:PE X e2 t2)(c:PE X e3 t3)(h:starEach [e1,e2,e3] X.env=(false,eval e1 X.env)::starEach [e2,e3] X.env:=by rfl)(h2:starEach [e2,e3] X.env=(false,eval e2 X.env)::starEach [e3] X.env:=by rfl)(h3:starEach [e3] X.env=(false,eval e3 X.env)::starEach [] X.env:=by rfl):PA X [e1,e2,e3] (bS t1 (bS t2 (bS t3 cq))):=jP a (aR b c h2 h3) h
abbrev Df.Ok{K:PySem.W.Frag}{mg:Str->Option Value}(D:Df K mg x st ps)(P:Program)(w:World)(base:Heap)(k:Nat)(sp:Sp):Prop:=eu P w K mg base g9 k D.f D.fd ps sp
abbrev Dm.Ok{K:PySem.W.Frag}(mg:Str->Option Value)(D:Dm K C x q st ps)(P:Program)(w:World)(base:Heap)(k:Nat)(sp:Sp):Prop:=eu P w K mg base g9 k D.f D.fd ps sp
abbrev Di.Ok{K:PySem.W.Frag}(mg:Str->Option Value)(D:Di K C q st ps)(P:Program)(w:World)(base:Heap)(k:Nat)(sp:Sp):Prop:=eu P w K mg base g9 k D.f D.fd ps sp
theorem Df.c(D:Df X.K X.mg x st ps)(F:eu X.prog X.w X.K X.mg X.base g9 k D.f D.fd ps sp)(hr:cB n X.A)(ha:PA X (e::es) t)(le:k<=n:=by decide)(hg:Gl X x:=by rfl)(hdb:(x == ("__debug__":Str))=false:=by decide)(he:starEach (e::es) X.env=(false,eval e X.env)::starEach es X.env:=by rfl)(hpl:(backTo pos (starEach es X.env)).any (·.1)=false:=by rfl):
  PE X (.Call (.Name x p) (e::es) [] pos) (pL sp [] E0 t):=K1 F (hr.mono le) hg D.m D.F.kp D.b .nil nJ ha hdb he hpl
theorem Di.c(D:Di X.K C q st ps)(F:eu X.prog X.w X.K X.mg X.base g9 k D.f D.fd ps sp)(hr:cB n X.A)(hm:X.mg x=some (.ref C))(ha:PA X (e::es) t)(le:k+1<=n:=by decide)(hg:Gl X x:=by rfl)(hdb:(x == ("__debug__":Str))=false:=by decide)(he:starEach (e::es) X.env=(false,eval e X.env)::starEach es X.env:=by rfl)(hpl:(backTo pos (starEach es X.env)).any (·.1)=false:=by rfl):
  PE X (.Call (.Name x p) (e::es) [] pos) (uO C sp [] E0 t):=K4 D.GU F (hr.mono le) hg hm D.b .nil nJ ha hdb he hpl
theorem Dm.c{pl:Sem Bool}(D:Dm X.K C m q st ps)(F:eu X.prog X.w X.K X.mg X.base g9 k D.f D.fd ps sp)(hr:cB n X.A)(c:f9 X.K C)(he:PE X o ta)(ha:PA X (e::es) t)(le:k<=n:=by decide)
  (hst:starEach (e::es) X.env=(false,eval e X.env)::starEach es X.env:=by rfl)(hpl:(backTo pos (starEach es X.env)).any (·.1)=false:=by rfl)
  (ht:eval (.Call (.Attribute o m apos) (e::es) [] pos) X.env=(do
   let ov <-eval o X.env
   standAt apos.atName
   let (f,first) <-holding [ov] (getMethod ov m pl)
   callWith pos f first (backTo pos (starEach (e::es) X.env)) (backToKw pos (keywordEach [] X.env))):=by rfl):
  PE X (.Call (.Attribute o m apos) (e::es) [] pos) (jR C m sp [] E0 ta t):=K2 he c D.me F (hr.mono le) D.b .nil nJ ha hst hpl ht
theorem Dm.c0{pl:Sem Bool}(D:Dm X.K C m q st ps)(F:eu X.prog X.w X.K X.mg X.base g9 k D.f D.fd ps sp)(hr:cB n X.A)(c:f9 X.K C)(he:PE X o ta)(le:k<=n:=by decide)
  (ht:eval (.Call (.Attribute o m apos) [] [] pos) X.env=(do
   let ov <-eval o X.env
   standAt apos.atName
   let (f,first) <-holding [ov] (getMethod ov m pl)
   callWith pos f first (backTo pos (starEach [] X.env)) (backToKw pos (keywordEach [] X.env))):=by rfl):
  PE X (.Call (.Attribute o m apos) [] [] pos) (jR C m sp [] E0 ta cq):=K3 he c D.me F (hr.mono le) D.b .nil nJ ht
theorem sv(i:Nat){pos':Pos}(hN:X.N.Nodup)(he:PE X e te)(hi:X.N[i]?=some x:=by rfl)(hx:Loc X.env.scope x:=by first|exact Or.inl rfl|exact Or.inr rfl)(hs:swapsWith e (some (.Name x pos')) pos.line X.env=pure false:=by rfl)(hf:X.fn x=true\/X.env.scope.names.lookup x=some .local:=by first|exact .inl rfl|exact .inr rfl|assumption):
  PS X (.Assign [.Name x pos'] e pos) (lD te (dy i)):=Kr hN hi hx he hs hf
theorem gn(i:Nat)(hN:X.N.Nodup)(hi:X.N[i]?=some x:=by rfl)(hx:Loc X.env.scope x:=by first|exact Or.inl rfl|exact Or.inr rfl)(hf:X.fn x=true\/X.env.scope.names.lookup x=some .local:=by first|exact .inl rfl|exact .inr rfl|assumption):PG X (.Name x pos) (dy i):=eO hN hi hx hf
theorem a5{op:CmpOp}{r:R2}(ho:cW X (compareOp op) r)(ha:PE X a ta)(hb:PE X b tb)(hm:behindInMarks op b=false:=by exact Dt _):PT X (.Compare a [op] [b] pos) (pK (eP r ta tb)):=KH ho ha hb hm
theorem jD{op:CmpOp}{r:R2}(ho:cW X (compareOp op) r)(ha:PE X a ta)(hb:PE X b tb)(hm:behindInMarks op b=false:=by exact Dt _):PE X (.Compare a [op] [b] pos) (eP r ta tb):=KG ho ha hb hm
theorem aM(ha:PE X a ta)(hb:PE X b tb)(hs:DM b:=by exact fun _ _=>rfl):PE X (.Subscript a b pos) (eP (jj X.K) ta tb):=g6 DO ha hb hs
theorem c9(hm:X.mg "len"=none)(ha:PE X e te)(hg:Gl X "len":=by rfl)(he:starEach [e] X.env=(false,eval e X.env)::starEach [] X.env:=by rfl):PE X (.Call (.Name "len" p) [e] [] pos) (nH (fun xs H Q=>∃p ys,xs=[.ref p]/\(ai X.K H p ys\/fF X.K H p ys)/\Q (.int ys.length) H) (bS te cq)):=f_ Lp hg hm PySem.boot_len (ak ha he) (by decide) (by decide) he rfl
theorem ay(he:PE X e ta)(hb:attributeBase e x X.env (eval e X.env)=eval e X.env:=by rfl):PE X (.Attribute e x pos) (jh X.K ta x):=DA he hb
theorem j9(ho:PE X o to)(ha:PE X e te)(hbase:attributeBase o "append" X.env (eval o X.env)=eval o X.env:=by rfl)(hline:(apos.endLine == cpos.line)=true:=by rfl)(hs:starEach [e] X.env=(false,eval e X.env)::starEach [] X.env:=by rfl):
  PE X (.Call (.Attribute o "append" apos) [e] [] cpos) (xR X.K "list" DU to (bS te cq)):=uT xx PySem.F.slot_list_append PySem.F.type_list_append Lx ho (ak ha hs) hbase (by rw[hs];rfl) hline hs rfl
theorem Ci(ho:PE X o to)(ha:PE X e te)(hbase:attributeBase o "extend" X.env (eval o X.env)=eval o X.env:=by rfl)(hline:(apos.endLine == cpos.line)=true:=by rfl)(hs:starEach [e] X.env=(false,eval e X.env)::starEach [] X.env:=by rfl):
  PE X (.Call (.Attribute o "extend" apos) [e] [] cpos) (xR X.K "list" DV to (bS te cq)):=uT xx PySem.F.slot_list_extend PySem.F.type_list_extend Ly ho (ak ha hs) hbase (by rw[hs];rfl) hline hs rfl
end
end BK
end
section
namespace L2
open PySem PySem.Spec PyProof.Rows
theorem Ql{X:Cx}{K:PySem.W.Frag}(hK:X.K=K){es:List Expr}{k:Nat}{pos:Pos}{t:mE}{n:Nat}(hc:X.calm=true)(h:rG X es t)
  (hn:(assignEach es X.env).length=n:=by rfl)(hst:(assignEach es X.env).findIdx? (·.1)=none:=by rfl):PG X (.Tuple es k pos) (De K n t):=by subst hK;exact uJ hc h hn hst
end L2
end
section
namespace BK
open PySem PySem.Spec PyProof.Rows L2 BB
open Wqaraq (Perm Form)
section
variable{P:Program}{w:World}{K:PySem.W.Frag}{mg:Str->Option Value}{base:Heap}
noncomputable def Qm(T:Txt K mg):Sp:=fun vs H Q _=>∃n:Int,vs=[.int n]/\Val H Q (.bl (decide (2<=n)&&decide (n<=16)))
theorem Cj(T:Txt K mg):T.ql.Ok P w base 1 (Qm T):=by
 have S:=Od
 refine T.ql.F.ok S (by rintro _ _ _ _ ⟨n,rfl,_⟩;rfl) fun cdv A outer s H vs Q E hr h=>?_
 ·obtain⟨n,rfl,k⟩:=h
  refine⟨_,(ao (az (Dv rK rK (aN rfl T.GZ) (pv 0) (aN rfl T.dt)))),?_⟩
  refine⟨_,rfl,_,_,rfl,rfl,_,rfl,?_⟩
  refine aS (fun h1=>⟨_,_,rfl,rfl,?_⟩) (fun h1=>?_)
  ·have:=k H (ag.refl H)
   rw[h1,k8]at this
   exact this
  ·have:=k H (ag.refl H)
   rw[h1,Bool.false_and]at this
   exact this
noncomputable def Qn(T:Txt K mg):Sp:=fun vs H Q _=>∃(p q:Addr) (a b:Perm),vs=[.ref p,.ref q]/\Ls H p a/\Ls H q b/\aw a/\aw b/\bB H Q (nv (Wqaraq.then_ a b))
theorem Qo{a b:Perm}(ha:aw a):Wqaraq.then_ a b=a.map (Wqaraq.at_ b):=by
 refine dG (bK _) (by rw[aE,ha.len]) fun i hi=>?_
 rw[cF hi,kH (show i<(a.map (Wqaraq.at_ b)).length by rw[aE,ha.len];exact hi),List.getElem_map,<-kH]
theorem Qp{a:Perm}(ha:aw a){x:Nat}(h:x∈a):x<16:=by
 obtain⟨i,hi,e⟩:=xw h
 rw[<-e,<-kH hi]
 exact ha.lt i (by rw[<-ha.len];exact hi)
theorem oT(T:Txt K mg):T.kP.Ok P w base 1 (Qn T):=by
 have S:=Of
 refine T.kP.F.ok S (by rintro _ _ _ _ ⟨p,q,a,b,rfl,_⟩;rfl) fun cdv A outer s H vs Q E hr h=>?_
 ·obtain⟨p,q,a,b,rfl,hp,hq,ha,hb,k⟩:=h
  refine⟨_,(ao (az (iQ (own:=[("place",2)]) rfl S.nd (fJ (pv 0)) (fP (by rfl)) (fun _ _ _ _ _=>(eO (i:=2) S.nd rfl (Or.inl rfl))) (fun _ _ _ _ _=>iP) (fun _ _ _ _ _=>(g6 (j7 (K:=K) rfl) (pv 1) (pv 2) (fun _ _=>rfl)))))),?_⟩
  refine⟨_,rfl,p,rfl,⟨_,ai.of hp⟩,fun D hD=>GP (l:=a) (em:=fun (x:Nat)=>V.int (x:Int)) (fun _=>true) (fun x=>V.int ((Wqaraq.at_ b x:Nat):Int)) (ai.of hp) (by rw[ha.len];exact small (by decide)) hD ?_ ?_⟩
  ·intro x H' hx s R Nx h1 h2
   refine⟨rfl,yes ?_⟩
   exact⟨_,rfl,_,rfl,q,_,_,_,rfl,rfl,ai.of (s _ _ hq),c8 rfl (by rw[hb.len];exact Qp ha hx),h1 rfl _ (ag.refl _)⟩
  ·intro H' s h
   refine k H' D s hD ?_
   rw[h,rf.mpr (fun _ _=>rfl),Qo ha]
   unfold nv
   rw[dw];rfl
noncomputable def Qq(T:Txt K mg):Sp:=fun vs H Q _=>∃(p:Addr) (a:Perm),vs=[.ref p]/\Ls H p a/\aw a/\bB H Q (nv (Wqaraq.back a))
theorem Qr{a b:Perm}(ha:aw a)(hb:b.length=16)(h:∀i,i<16->Wqaraq.at_ b (Wqaraq.at_ a i)=i):b=Wqaraq.back a:=by
 refine dG hb (bK _) fun v hv=>?_
 obtain⟨i,hi,rfl⟩:=ha.fQ v hv
 rw[h i hi,hU ha hi]
theorem oU(T:Txt K mg):T.kQ.Ok P w base 1 (Qq T):=by
 have S:=Og
 refine T.kQ.F.ok S (by rintro _ _ _ _ ⟨p,a,rfl,_⟩;rfl) fun cdv A outer s H vs Q E hr h=>?_
 ·obtain⟨p,a,rfl,hp,ha,k⟩:=h
  refine⟨_,(aj (sv 1 S.nd (gO (j8 rfl) rfl T.gF k9 (ak (mV rfl T.cM (ak (aN rfl T.dt))))))
   (aj (dh PassesOwn.never rfl (x9 rfl T.vJ (ak (pv 0))) (uJ rfl (mF (gn 2 S.nd) (mF (gn 3 S.nd) uI))) (ao (fI (pv 2) (fH (pv 1) (pv 3) set_list))))
   (ao (az (pv 1))))),?_⟩
  refine tW fun H1 l s1 hl h1=>?_
  refine⟨_,rfl,p,_,rfl,ai.of (s1 _ _ hp),zV (xs:=nv a) (fun i σ H'=>∃(v2 v3:Option V) (b:Perm),σ=[some (.ref p),some (.ref l),v2,v3]/\ag H H'/\H' l=some (.lst (nv b))/\b.length=16/\∀j,j<i->Wqaraq.at_ b (Wqaraq.at_ a j)=j)
   ⟨none,none,_,rfl,s1,h1,bK _,fun j hj=>by lia⟩ (fun i σ H' _ ⟨_,_,_,_,s,_⟩=>ai.of (s _ _ hp)) ?_ ?_⟩
  ·intro i x Tp σ H' hx hq hT;obtain ⟨v2,v3,b,rfl,s,hb,bl,hj⟩:=hq
   have hi:i<16:=by have:=(dW.mp hx).1;rwa[Cd ha]at this
   have ex:x=V.int ((Wqaraq.at_ a i:Nat):Int):=by rw[kT (by rw[ha.len];exact hi)]at hx;exact(bo hx).symm
   subst ex
   refine⟨Tp,_,rfl,fF.of au,rfl,_,_,rfl,_,_,rfl,rfl,?_⟩
   refine⟨_,rfl,_,rfl,_,rfl,l,_,_,Wqaraq.at_ a i,rfl,rfl,by rw[ax (a7 hb hT)];exact hb,d8 rfl (by rw[cK,bl];exact ha.lt i hi),?_⟩
   refine⟨_,_,b.set (Wqaraq.at_ a i) i,rfl,fun c o e=>?_,by rw[au,<-l_],by rw[gw];exact bl,fun j hj'=>?_⟩
   ·have nl:c≠l:=a7 e hl
    rw[ax nl,ax (a7 (s c o e) hT)]
    exact s c o e
   ·rw[j2 (by rw[bl];exact ha.lt i hi)]
    by_cases q:j=i
    ·rw[q,af rfl]
    ·rw[ae (ha.ne (by lia) hi q)]
     exact hj j (by lia)
  ·intro σ H' hq;obtain ⟨v2,v3,b,rfl,s,hb,bl,hj⟩:=hq
   rw[Cd ha]at hj
   refine⟨_,rfl,?_⟩
   rw[Qr ha bl hj]at hb
   exact k H' l s hl hb
noncomputable def Qt(T:Txt K mg):Sp:=fun vs H Q _=>∃n:Nat,vs=[.int n]/\n<=16/\bB H Q (nv (Wqaraq.delta n))
theorem qy(T:Txt K mg):T.l8.Ok P w base 1 (Qt T):=by
 have S:=Oh
 refine T.l8.F.ok S (by rintro _ _ _ _ ⟨n,rfl,_⟩;rfl) fun cdv A outer s H vs Q E hr h=>?_
 ·obtain⟨n,rfl,hn,k⟩:=h
  refine⟨_,(ao (az (iQ (own:=[("i",1)]) rfl S.nd (iL rfl T.cM (ak (aN rfl T.dt))) (fP (by rfl)) (fun _ _ _ _ _=>(eO (i:=1) S.nd rfl (Or.inl rfl))) (fun _ _ _ _ _=>iP) (fun _ _ _ _ _=>(gM (a5 gC (pv 1) (pv 0)) (aC cE (aC cE (pv 0) aq) (pv 1)) (pv 1)))))),?_⟩
  refine⟨16,rfl,by decide,by decide,fun D hD=>zU (lo:=0) (n:=16) (fun _=>true) (fun i=>V.int ((Wqaraq.at_ (Wqaraq.delta n) i:Nat):Int)) (small (by decide)) hD ?_ ?_⟩
  ·intro i H' hi s R Nx h1 h2
   refine⟨rfl,yes ?_⟩
   refine⟨_,rfl,_,rfl,_,_,rfl,rfl,_,rfl,?_⟩
   have e:=vg (n:=n) hi
   refine aS (fun c=>?_) (fun c=>?_)
   ·have c:(0:Int)+(i:Int)<n:=a0 c
    refine⟨_,rfl,_,_,rfl,rfl,_,rfl,_,_,rfl,rfl,?_⟩
    have:=h1 rfl H' (ag.refl _)
    rw[e,af (by lia)]at this
    exact jB this (by lia)
   ·have c:¬(0:Int)+(i:Int)<n:=a_ c
    refine⟨_,rfl,?_⟩
    have:=h1 rfl H' (ag.refl _)
    rw[e,ae (by lia)]at this
    exact jB this (by lia)
  ·intro H' s h
   refine k H' D s hD ?_
   rw[h,rf.mpr (fun _ _=>rfl)]
   unfold nv Wqaraq.delta Wqaraq.made
   rw[dw]
   refine bQ (fun z=>some (HO.lst z)) (gX fun i hi=>?_)
   show V.int ((Wqaraq.at_ (Wqaraq.delta n) i:Nat):Int)=_
   rw[vg (a6.mp hi)];rfl
noncomputable def Qu(T:Txt K mg):Sp:=fun vs H Q _=>∃(n:Nat) (p:Addr) (a:Perm),vs=[.int n,.ref p]/\n<=16/\Ls H p a/\aw a/\bB H Q (nv (Wqaraq.rest n a))
theorem HM(T:Txt K mg):T.tq.Ok P w base 2 (Qu T):=by
 have S:=Oi
 refine T.tq.F.ok S (by rintro _ _ _ _ ⟨n,p,a,rfl,_⟩;rfl) fun cdv A outer s H vs Q E hr h=>?_
 ·obtain⟨n,p,a,rfl,hn,hp,ha,k⟩:=h
  refine⟨_,(ao (az (T.kP.c (oT T) hr (aR (T.kQ.c (oU T) hr (ak (pv 1))) (T.l8.c (qy T) hr (ak (pv 0))))))),?_⟩
  refine⟨_,rfl,p,a,rfl,hp,ha,fun H1 r1 s1 f1 h1=>?_⟩
  refine⟨_,rfl,n,rfl,hn,fun H2 r2 s2 f2 h2=>?_⟩
  refine⟨r1,r2,_,_,rfl,s2 _ _ h1,h2,ha.back,(bX hn).aa,fun H3 r3 s3 f3 h3=>?_⟩
  exact k H3 r3 ((s1.trans s2).trans s3) ((s1.trans s2).free f3) h3
noncomputable def Qv(T:Txt K mg):Sp:=fun vs H Q _=>∃(n:Nat) (p:Addr) (a:Perm),vs=[.int n,.ref p]/\n<=16/\Ls H p a/\Rt n a/\bB H Q (nv (Wqaraq.turned n a))
theorem Ck(T:Txt K mg):T.qm.Ok P w base 1 (Qv T):=by
 have S:=Oj
 refine T.qm.F.ok S (by rintro _ _ _ _ ⟨n,p,a,rfl,_⟩;rfl) fun cdv A outer s H vs Q E hr h=>?_
 ·obtain⟨n,p,a,rfl,hn,hp,ha,k⟩:=h
  refine⟨_,(ao (az (iQ (own:=[("i",2)]) rfl S.nd (iL rfl T.cM (ak (aN rfl T.dt))) (fP (by rfl)) (fun _ _ _ _ _=>(eO (i:=2) S.nd rfl (Or.inl rfl))) (fun _ _ _ _ _=>iP) (fun _ _ _ _ _=>(gM (a5 gC (pv 2) (pv 0)) (aC cE (aC cE (pv 0) aq) (g6 (j7 (K:=K) rfl) (pv 1) (aC cE (aC cE (pv 0) aq) (pv 2)) (fun _ _=>rfl))) (pv 2)))))),?_⟩
  refine⟨16,rfl,by decide,by decide,fun D hD=>zU (lo:=0) (n:=16) (fun _=>true) (fun i=>V.int ((Wqaraq.at_ (Wqaraq.turned n a) i:Nat):Int)) (small (by decide)) hD ?_ ?_⟩
  ·intro i H' hi s R Nx h1 h2
   refine⟨rfl,yes ?_⟩
   refine⟨_,rfl,_,rfl,_,_,rfl,rfl,_,rfl,?_⟩
   have e:Wqaraq.at_ (Wqaraq.turned n a) i=if i<n then n - 1 - Wqaraq.at_ a (n - 1 - i) else i:=hJ hi
   refine aS (fun c=>?_) (fun c=>?_)
   ·have c:(0:Int)+(i:Int)<n:=a0 c
    have lt:=ha.lt hn (show n - 1 - i<n by lia)
    refine⟨_,rfl,_,_,rfl,rfl,_,rfl,_,rfl,_,_,rfl,rfl,_,rfl,_,_,rfl,rfl,p,_,_,_,rfl,rfl,ai.of (s _ _ hp),c8 (j:=n - 1 - i) (by lia) (by rw[ha.aa.len];lia),_,_,rfl,rfl,?_⟩
    have:=h1 rfl H' (ag.refl _)
    rw[e,af (by lia)]at this
    exact jB this (by lia)
   ·have c:¬(0:Int)+(i:Int)<n:=a_ c
    refine⟨_,rfl,?_⟩
    have:=h1 rfl H' (ag.refl _)
    rw[e,ae (by lia)]at this
    exact jB this (by lia)
  ·intro H' s h
   refine k H' D s hD ?_
   rw[h,rf.mpr (fun _ _=>rfl)]
   unfold nv
   refine bQ (fun z=>some (HO.lst z)) ?_
   have:Wqaraq.turned n a=(List.range 16).map (Wqaraq.at_ (Wqaraq.turned n a)):=(Ew (bK _)).symm
   conv=>rhs;rw[this,dw]
   rfl
noncomputable def Qw(T:Txt K mg):Sp:=fun vs H Q _=>∃(p:Addr) (a:Perm),vs=[.ref p]/\Ls H p a/\aw a/\Val H Q (.int ((Wqaraq.crossings a:Nat):Int))
theorem Qx(f:Nat->Nat)(i:Nat):((List.range (i+1)).map f).sum=((List.range i).map f).sum+f i:=by
 rw[i6,cQ,List.sum_append];simp
theorem HN(T:Txt K mg):T.tu.Ok P w base 1 (Qw T):=by
 have S:=Ol
 refine T.tu.F.ok S (by rintro _ _ _ _ ⟨p,a,rfl,_⟩;rfl) fun cdv A outer s H vs Q E hr h=>?_
 ·obtain⟨p,a,rfl,hp,ha,k⟩:=h
  refine⟨_,(aj (sv 1 S.nd aq)
   (aj (dh PassesOwn.never rfl (x9 rfl T.vJ (ak (pv 0))) (uJ rfl (mF (gn 2 S.nd) (mF (gn 3 S.nd) uI))) (ao (sv 1 S.nd (aC cj (pv 1) (c9 T.cZ (iQ (own:=[("later",4)]) rfl S.nd (fJ (jS jU (pv 0) (iO (aC cj (pv 2) aq)) lI)) (fP (by rfl)) (fun _ _ _ _ _=>(eO (i:=4) S.nd rfl (Or.inl rfl))) (fun _ _ _ _ _=>rS (a5 gC (pv 4) (pv 3))) (fun _ _ _ _ _=>(pv 4))))))))
   (ao (az (pv 1))))),?_⟩
  refine⟨_,rfl,p,_,rfl,ai.of hp,zV (xs:=nv a) (fun i σ H'=>∃(v2 v3 v4:Option V),σ=[some (.ref p),some (.int (((List.range i).map fun k=>(a.drop (k+1)).countP fun x=>decide (x<Wqaraq.at_ a k)).sum:Nat)),v2,v3,v4]/\ag H H')
   ⟨none,none,none,rfl,ag.refl H⟩ (fun i σ H' _ ⟨_,_,_,_,s⟩=>ai.of (s _ _ hp)) ?_ ?_⟩
  ·intro i x Tp σ H' hx hq hT;obtain ⟨v2,v3,v4,rfl,s⟩:=hq
   obtain⟨hi,rfl⟩:=Qk ha hx
   have s1:=s.upd (o:=.tup [.int (i:Nat),V.int ((Wqaraq.at_ a i:Nat):Int)]) (s.free hT)
   refine⟨Tp,_,rfl,fF.of au,rfl,_,_,rfl,_,_,rfl,rfl,?_⟩
   refine⟨_,rfl,tY (gV ?_)⟩
   refine⟨_,rfl,_,rfl,_,_,rfl,rfl,_,rfl,p,_,rfl,ai.of (s1 _ _ hp),fun r hr=>?_⟩
   refine⟨r,rfl,⟨_,ai.of au⟩,qw (l:=a.drop (i+1)) (em:=fun (x:Nat)=>V.int (x:Int)) (fun x=>decide (x<Wqaraq.at_ a i)) (fun x=>V.int (x:Int)) (ai.of (by rw[au,Cf (i+1) (by lia)];exact bQ (fun z=>some (HO.lst z)) (HJ a (i+1)).symm)) (by rw[List.length_drop,ha.len];lia) ?_ ?_⟩
   ·intro y H2 hy s2 R Nx h1 h2
    refine⟨rfl,⟨_,rfl,_,rfl,_,_,rfl,rfl,_,rfl,?_⟩⟩
    refine aS (fun c=>⟨_,rfl,h1 (de (eK.mp (a0 c))) _ (ag.refl _)⟩) (fun c=>h2 (cy fun q=>a_ c (eK.mpr q)) _ (ag.refl _))
   ·intro H2 D s2 hD h
    refine⟨D,_,rfl,.inl (ai.of h),_,_,rfl,rfl,?_⟩
    refine⟨some (.int i),some (.int (Wqaraq.at_ a i:Nat)),v4,?_,(s1.upd (s1.free hr)).trans s2⟩
    rw[Qx,aE,<-iH]
    rfl
  ·intro σ H' hq;obtain ⟨v2,v3,v4,rfl,s⟩:=hq
   refine⟨_,rfl,?_⟩
   rw[Cd ha,<-Fp a ha.len]
   exact k H' s
noncomputable def Qy(T:Txt K mg):Sp:=fun vs H Q _=>∃(p:Addr) (a:Perm),vs=[.ref p]/\Ls H p a/\aw a/\Val H Q (.int ((Wqaraq.starts a:Nat):Int))
theorem HP(T:Txt K mg):T.tz.Ok P w base 1 (Qy T):=by
 have S:=Om
 refine T.tz.F.ok S (by rintro _ _ _ _ ⟨p,a,rfl,_⟩;rfl) fun cdv A outer s H vs Q E hr h=>?_
 ·obtain⟨p,a,rfl,hp,ha,k⟩:=h
  refine⟨_,(aj (sv 1 S.nd aq)
   (aj (dh PassesOwn.never rfl (Eb rfl T.cM (dv (aC cE (aN rfl T.dt) aq) (iM iN aq) (iM iN aq))) (gn 2 S.nd) (ao (sv 1 S.nd (aC cj (aC jg aq (pv 1)) (gM (a5 eQ (aM (pv 0) (pv 2)) (aM (pv 0) (aC cj (pv 2) aq))) aq aq)))))
   (ao (az (pv 1))))),?_⟩
  refine⟨_,_,rfl,rfl,_,rfl,_,rfl,14,-1,-1,15,rfl,⟨by decide,by decide,by decide,by decide⟩,Ec (lo:=14) (c:= -1) (n:=15) (fun i σ H'=>∃v2:Option V,σ=[some (.ref p),some (.int (p_ (fun i=>Wqaraq.cross a (i,i+1)) i:Nat)),v2]/\ag H H') ⟨none,rfl,ag.refl H⟩ ?_ ?_⟩
  ·intro i σ H' hi hq;obtain ⟨v2,rfl,s⟩:=hq
   refine⟨_,rfl,_,_,rfl,rfl,.inl ⟨by decide,by decide⟩,_,rfl,_,rfl,p,_,_,_,rfl,rfl,ai.of (s _ _ hp),c8 (j:=14 - i) (by lia) (by rw[ha.len];lia),_,rfl,_,rfl,_,_,rfl,rfl,p,_,_,_,rfl,rfl,ai.of (s _ _ hp),c8 (j:=14 - i+1) (by lia) (by rw[ha.len];lia),_,_,rfl,rfl,_,rfl,?_⟩
   have e:p_ (fun i=>Wqaraq.cross a (i,i+1)) (i+1)=2 * p_ (fun i=>Wqaraq.cross a (i,i+1)) i+bit (Wqaraq.cross a (14 - i,14 - i+1)):=rfl
   refine aS (fun c=>?_) (fun c=>?_)
   ·refine⟨_,_,rfl,rfl,some (.int (14+(i:Nat) * (-1))),?_,s⟩
    have c:=eK.mp (a0 c)
    rw[e,show Wqaraq.cross a (14 - i,14 - i+1)=true from de c]
    rfl
   ·refine⟨_,_,rfl,rfl,some (.int (14+(i:Nat) * (-1))),?_,s⟩
    have c:¬Wqaraq.at_ a (14 - i+1)<Wqaraq.at_ a (14 - i):=fun q=>a_ c (eK.mpr q)
    rw[e,show Wqaraq.cross a (14 - i,14 - i+1)=false from cy c]
    rfl
  ·intro σ H' hq;obtain ⟨v2,rfl,s⟩:=hq
   refine⟨_,rfl,?_⟩
   rw[M8]
   exact k H' s
noncomputable def Qz(T:Txt K mg):Sp:=fun vs H Q _=>∃(p q:Addr) (a b:Perm),vs=[.ref p,.ref q]/\Ls H p a/\Ls H q b/\aw a/\aw b/\Val H Q (.bl (Wqaraq.begins a b))
noncomputable def HQ(a b:Perm)(i j:Nat):Prop:=∀p q,p<q->q<16->(p<i\/(p=i/\q<j))->X a p q->X b p q
theorem QA(T:Txt K mg):T.begins.Ok P w base 1 (Qz T):=by
 have S:=Oo
 refine T.begins.F.ok S (by rintro _ _ _ _ ⟨p,q,a,b,rfl,_⟩;rfl) fun cdv A outer s H vs Q E hr h=>?_
 ·obtain⟨p,q,a,b,rfl,hp,hq,ha,hb,k⟩:=h
  refine⟨_,(aj (dh PassesOwn.never rfl (iL rfl T.cM (ak (aN rfl T.dt))) (gn 2 S.nd) (ao (dh PassesOwn.never rfl (rH rfl T.cM (aR (aC cj (pv 2) aq) (aN rfl T.dt))) (gn 3 S.nd) (ao (bt (PW.pt (lC (a5 eQ (aM (pv 0) (pv 2)) (aM (pv 0) (pv 3))) (pG (a5 gC (aM (pv 1) (pv 2)) (aM (pv 1) (pv 3)))))) (ao (az kj)) bx)))))
   (ao (az kj))),?_⟩
  refine⟨16,rfl,by decide,by decide,je (lo:=0) (n:=16) (fun i σ H'=>∃(v2 v3:Option V),σ=[some (.ref p),some (.ref q),v2,v3]/\H'=H/\HQ a b i 0) ⟨none,none,rfl,rfl,fun x y _ _ h=>by lia⟩ ?_ ?_⟩
  ·intro i σ H' hi hq;obtain ⟨v2,v3,rfl,rfl,bg⟩:=hq
   refine⟨_,rfl,_,_,rfl,rfl,(i:Int)+1,16,by rw[Int.zero_add],by lia,je (lo:=(i:Int)+1) (n:=((16:Int) - ((i:Int)+1)).toNat) (fun j σ H''=>∃(v3:Option V),σ=[some (.ref p),some (.ref q),some (.int (0+i)),v3]/\H''=H'/\HQ a b i (i+1+j)) ⟨_,rfl,rfl,fun x y h1 h2 h3 x'=>?_⟩ ?_ ?_⟩
   ·exact bg x y h1 h2 (by lia) x'
   ·intro j σ H'' hj hq;obtain ⟨v3,rfl,rfl,bg2⟩:=hq
    have e1:(0:Int)+(i:Int)=(i:Int):=by lia
    refine⟨_,rfl,_,rfl,p,_,_,_,rfl,rfl,ai.of hp,c8 e1 (by rw[ha.len];exact hi),_,rfl,_,rfl,p,_,_,_,rfl,rfl,ai.of hp,c8 (j:=i+1+j) (by lia) (by rw[ha.len];lia),_,_,rfl,rfl,_,rfl,?_⟩
    refine aS (fun c=>?_) (fun c=>?_)
    ·have c:=eK.mp (a0 c)
     refine⟨_,rfl,_,rfl,q,_,_,_,rfl,rfl,ai.of hq,c8 e1 (by rw[hb.len];exact hi),_,rfl,_,rfl,q,_,_,_,rfl,rfl,ai.of hq,c8 (j:=i+1+j) (by lia) (by rw[hb.len];lia),_,_,rfl,rfl,_,rfl,?_⟩
     refine aS (fun d=>?_) (fun d=>?_)
     ·have d:=eK.mp (a0 d)
      refine ip (k _ (ag.refl _)) ?_
      symm
      rw[<-o_,Fq]
      intro h
      have:=h i (i+1+j) (by lia) (by lia) (.inl ⟨by lia,c⟩)
      unfold X at this;lia
     ·have d:¬Wqaraq.at_ b i<Wqaraq.at_ b (i+1+j):=fun z=>a_ d (eK.mpr z)
      refine⟨_,rfl,rfl,fun x y h1 h2 h3 x'=>?_⟩
      by_cases z:x=i/\y=i+1+j
      ·obtain⟨rfl,rfl⟩:=z
       have:=hb.ne (show x<16 by lia) h2 (by lia)
       exact .inl ⟨by lia,by lia⟩
      ·exact bg2 x y h1 h2 (by lia) x'
    ·have c:¬Wqaraq.at_ a (i+1+j)<Wqaraq.at_ a i:=fun z=>a_ c (eK.mpr z)
     refine dN ⟨_,rfl,rfl,fun x y h1 h2 h3 x'=>?_⟩
     by_cases z:x=i/\y=i+1+j
     ·obtain⟨rfl,rfl⟩:=z
      unfold X at x';lia
     ·exact bg2 x y h1 h2 (by lia) x'
   ·intro σ H'' hq;obtain ⟨v3,rfl,rfl,bg2⟩:=hq
    refine⟨_,_,rfl,rfl,fun x y h1 h2 h3 x'=>bg2 x y h1 h2 ?_ x'⟩
    lia
  ·intro σ H' hq;obtain ⟨v2,v3,rfl,rfl,bg⟩:=hq
   refine ip (k _ (ag.refl _)) ?_
   symm
   rw[Fq]
   exact fun x y h1 h2 x'=>bg x y h1 h2 (by lia) x'
noncomputable def QB(T:Txt K mg):Sp:=fun vs H Q _=>∃(p:Addr) (l:List Int) (n:Int),vs=[.ref p,.int n]/\Li H p l/\(∀x,x∈l->0<=x)/\0<=n/\l.length<=2500/\Val H Q (.bl (Wqaraq.right n.toNat (l.map Int.toNat)))
theorem QC{n:Nat}{a:Perm}(h:Wqaraq.strands n=false):Wqaraq.right n a=false:=by unfold Wqaraq.right;rw[h];rfl
theorem QD{n:Nat}{a:Perm}(h:a.length≠16):Wqaraq.right n a=false:=by
 unfold Wqaraq.right Wqaraq.WIDE
 rw[show (a.length == 16)=false from qP.mpr h,Bool.and_false,Bool.false_and,Bool.false_and]
theorem QE{n:Int}(h:0<=n):(decide (2<=n)&&decide (n<=16))=Wqaraq.strands n.toNat:=by
 unfold Wqaraq.strands Wqaraq.WIDE
 congr 1
 ·rw[gA];lia
 ·rw[gA];lia
theorem HR(i j:Nat):nv (List.range' i (j - i))=iv (gj i j):=by unfold gj;rw[ma];rfl
theorem HS(T:Txt K mg):T.tm.Ok P w base 2 (QB T):=by
 have S:=Oe
 refine T.tm.F.ok S (by rintro _ _ _ _ ⟨p,l,n,rfl,_⟩;rfl) fun cdv A outer s H vs Q E hr h=>?_
 ·obtain⟨p,l,n,rfl,hp,hl,hn,hz,k⟩:=h
  refine⟨_,(aj (bt (PW.pt (xD (d5 (cw (T.ql.c (Cj T) hr (ak (pv 1))))) (xC (a5 ny (c9 T.cZ (pv 0)) (aN rfl T.dt))))) (ao (az kj)) bx)
   (ao (az (C9 (jD (pN hr.units) (f_ LJ rfl T.GW (by decide+kernel) (ak (jS jU (pv 0) lI (iO (pv 1))))) (gO (j8 rfl) rfl T.gF k9 (ak (mV rfl T.cM (ak (pv 1)))))) (uG (jD (pN hr.units) (jS jU (pv 0) (iO (pv 1)) lI) (gO (j8 rfl) rfl T.gF k9 (ak (zX rfl T.cM (aR (pv 1) (aN rfl T.dt))))))))))),?_⟩
  refine aQ (dI (Qi (oS (jC (bP ?_)))))
  refine⟨_,rfl,n,rfl,fun H1 s1=>⟨_,rfl,?_⟩⟩
  rw[QE hn]
  cases hs:Wqaraq.strands n.toNat with
  |false=>
   refine gf (gf ?_)
   refine ip (k H1 s1) ?_
   rw[QC hs]
  |true=>
   obtain⟨n2,n16⟩:=p8.mp hs
   refine dN ?_
   refine⟨_,rfl,p,_,rfl,.inl (ai.of (s1 _ _ hp)),rfl,_,rfl,?_⟩
   rw[cT]
   by_cases h16:l.length=16
   ·refine aS (fun c=>?_) (fun c=>?_)
    ·rw[h16]at c
     exact absurd c (by decide)
    ·refine⟨_,rfl,_,rfl,_,rfl,p,_,rfl,ai.of (s1 _ _ hp),fun r hr=>?_⟩
     have s2:=s1.upd (o:=.lst (cX (iv l) none (some n))) (s1.free hr)
     refine⟨r,l.take n.toNat,rfl,ai.of ?_,by rw[c_];lia,fun ys q hy hsrt hq=>?_⟩
     ·rw[au,t_ n.toNat (by lia)]
      exact bQ (fun z=>some (HO.lst z)) (HL l n.toNat).symm
     ·have s3:=s2.upd (o:=.lst (ys.map V.int)) (s2.free hq)
      refine wF (v:=.int n) n.toNat (by congr 1;lia) (fun Q' q=>⟨_,rfl,q⟩) (by lia) fun H4 r4 s4 f4 h4=>?_
      have s5:=s3.trans s4
      rw[List.range_eq_range',show List.range' 0 n.toNat=List.range' 0 (n.toNat - 0) by rw[Nat.sub_zero],HR]at h4
      refine Cb (ns:=ys) (ms:=gj 0 n.toNat) (ai.of (s4 _ _ (by rw[au];rfl))) (ai.of h4) ?_
      refine⟨_,rfl,?_⟩
      have rs:=MW hl ⟨n2,n16⟩ h16 hy hsrt
      refine aS (fun c=>?_) (fun c=>?_)
      ·have c:=a0 c
       refine⟨_,rfl,_,rfl,_,rfl,p,_,rfl,ai.of (s5 _ _ hp),fun r6 hr6=>?_⟩
       have s6:=s5.upd (o:=.lst (cX (iv l) (some n) none)) (s5.free hr6)
       refine B_ (va:=.int n) (vb:=.int 16) n.toNat 16 (by congr 1;lia) rfl (fun Q' q=>⟨_,rfl,q⟩) (fun Q' q=>q) ⟨by lia,by decide⟩ fun H8 r8 s8 f8 h8=>?_
       rw[HR]at h8
       refine Cb (ns:=l.drop n.toNat) (ms:=gj n.toNat 16) (ai.of (s8 _ _ (by rw[au,Cf n.toNat (by lia)];exact bQ (fun z=>some (HO.lst z)) (HK l n.toNat).symm))) (ai.of h8) ?_
       refine ip (k H8 (s6.trans s8)) ?_
       rw[jG,mB,rs]
       exact⟨fun z=>⟨c,z⟩,fun z=>z.2⟩
      ·have c:=a_ c
       refine ip (k H4 s5) ?_
       symm
       rw[<-o_,rs]
       exact fun z=>c z.1
   ·refine aS (fun c=>?_) (fun c=>?_)
    ·refine ip (k H1 s1) ?_
     rw[QD (by rw[aE];exact h16)]
    ·exfalso
     rw[i8]at c
     have c:=a0 c
     injection c with c
     lia
noncomputable def QF(T:Txt K mg):Sp:=fun vs H Q _=>∃(n:Nat) (p:Addr) (a:Perm),vs=[.int n,.ref p]/\n<=16/\Ls H p a/\aw a/\Val H Q (.int ((Wqaraq.number n a:Nat):Int))
theorem QG(T:Txt K mg):T.vN.Ok P w base 1 (QF T):=by
 have S:=Oq
 refine T.vN.F.ok S (by rintro _ _ _ _ ⟨n,p,a,rfl,_⟩;rfl) fun cdv A outer s H vs Q E hr h=>?_
 ·obtain⟨n,p,a,rfl,hn,hp,ha,k⟩:=h
  refine⟨_,(aj (sv 2 S.nd aq)
   (aj (dh PassesOwn.never rfl (iL rfl T.cM (ak (pv 0))) (gn 3 S.nd) (aj (rV (i:=4) (own:=[("later",5)]) rfl S.nd rfl rfl rfl (fJ (jS jU (pv 1) (iO (aC cj (pv 3) aq)) (iO (pv 0)))) (fP (by rfl)) (fun _ _ _ _ _=>(eO (i:=5) S.nd rfl (Or.inl rfl))) (fun _ _ _ _ _=>rS (a5 gC (pv 5) (g6 (j7 (K:=K) rfl) (pv 1) (pv 3) (fun _ _=>rfl)))) (fun _ _ _ _ _=>(pv 5)))
   (ao (sv 2 S.nd (aC cj (aC jg (pv 2) (aC cE (pv 0) (pv 3))) (c9 T.cZ (pv 4)))))))
   (ao (az (pv 2))))),?_⟩
  refine⟨_,rfl,n,rfl,by lia,by lia,je (lo:=0) (n:=((n:Int)).toNat) (fun i σ H'=>∃(v3 v4 v5:Option V),σ=[some (.int n),some (.ref p),some (.int (gm n (fun i=>((List.range n).filter fun j=>decide (i<j)&&decide (Wqaraq.at_ a j<Wqaraq.at_ a i)).length) i:Nat)),v3,v4,v5]/\ag H H') ⟨none,none,none,rfl,ag.refl H⟩ ?_ ?_⟩
  ·intro i σ H' hi hq;obtain ⟨v3,v4,v5,rfl,s⟩:=hq
   have hi:i<n:=by lia
   have e1:(0:Int)+(i:Int)=(i:Int):=by lia
   refine cg (aQ (bz (gV ?_)))
   refine⟨_,rfl,_,rfl,_,_,rfl,rfl,_,rfl,_,rfl,_,rfl,p,_,rfl,ai.of (s _ _ hp),fun r hr=>?_⟩
   refine⟨r,rfl,⟨_,ai.of au⟩,qw (l:=(a.take n).drop (i+1)) (em:=fun (x:Nat)=>V.int (x:Int)) (fun x=>decide (x<Wqaraq.at_ a i)) (fun x=>V.int (x:Int)) (ai.of ?_) (by rw[List.length_drop,c_];lia) ?_ ?_⟩
   ·rw[au,HI (i+1) n (by lia) rfl]
    refine bQ (fun z=>some (HO.lst z)) ?_
    rw[<-Cg,<-HJ];rfl
   ·intro y H2 hy s2 R Nx h1 h2
    refine⟨rfl,⟨_,rfl,_,rfl,_,rfl,p,_,_,_,rfl,rfl,ai.of (s2 _ _ (by rw[ax (a7 (s _ _ hp) hr)];exact s _ _ hp)),c8 e1 (by rw[ha.len];lia),_,_,rfl,rfl,_,rfl,?_⟩⟩
    refine aS (fun c=>⟨_,rfl,h1 (de (eK.mp (a0 c))) _ (ag.refl _)⟩) (fun c=>h2 (cy fun q=>a_ c (eK.mpr q)) _ (ag.refl _))
   ·intro H2 D s2 hD h
    refine⟨_,rfl,_,rfl,_,rfl,_,_,rfl,rfl,_,_,rfl,rfl,.inr ⟨by lia,by lia⟩,_,rfl,D,_,rfl,.inl (ai.of h),_,_,rfl,rfl,?_⟩
    refine⟨some (.int (0+i)),some (.ref D),v5,?_,(s.upd (s.free hr)).trans s2⟩
    rw[aE,<-iH,M4 a ha.len hn]
    show [some (V.int n),some (V.ref p),some (V.int ((_:Int) * ((n:Int) - (0+(i:Int)))+_)),some (V.int (0+i)),some (V.ref D),v5]=_
    rw[e1]
    refine bQ (fun z=>[some (V.int n),some (V.ref p),some (V.int z),some (V.int (i:Int)),some (V.ref D),v5]) ?_
    show _=((gm n _ i * (n - i)+_:Nat):Int)
    rw[uA,Int.natCast_mul,Int.natCast_sub (by lia)]
  ·intro σ H' hq;obtain ⟨v3,v4,v5,rfl,s⟩:=hq
   refine⟨_,rfl,?_⟩
   rw[show ((n:Int)).toNat=n by lia,<-yU]
   exact k H' s
noncomputable def QH(T:Txt K mg):Sp:=fun vs H Q _=>∃(p:Addr) (a:Perm) (i:Nat),vs=[.ref p,.int i]/\Ls H p a/\a.length=16/\i<15/\∀H':Hp,(∀b o,H b=some o->b≠p->H' b=some o)->Ls H' p (Wqaraq.exchanged i a)->Q .aW H'
theorem QI{a:Perm}{i:Nat}(hl:a.length=16)(hi:i<15):(a.set i (Wqaraq.at_ a (i+1))).set (i+1) (Wqaraq.at_ a i)=Wqaraq.exchanged i a:=by
 refine dG (by simp[hl]) (bK _) fun j hj=>?_
 rw[j2 (by rw[gw];lia),j2 (by lia),jW hj]
 by_cases c1:j=i+1
 ·rw[af c1,ae (by lia),af c1]
 ·rw[ae c1]
  by_cases c2:j=i
  ·rw[af c2,af c2]
  ·rw[ae c2,ae c2,ae c1]
theorem Cm(T:Txt K mg):T.qo.Ok P w base 1 (QH T):=by
 have S:=Ou
 refine T.qo.F.ok S (by rintro _ _ _ _ ⟨p,a,i,rfl,_⟩;rfl) fun cdv A outer s H vs Q E hr h=>?_
 ·obtain⟨p,a,i,rfl,hp,hl,hi,k⟩:=h
  refine⟨_,(aj (sv 2 S.nd (aM (pv 0) (pv 1)))
   (aj (fI (aM (pv 0) (aC cj (pv 1) aq)) (fH (pv 0) (pv 1) set_list))
   (ao (fI (pv 2) (fH (pv 0) (aC cj (pv 1) aq) set_list))))),?_⟩
  refine⟨_,rfl,_,rfl,p,_,_,_,rfl,rfl,ai.of hp,c8 rfl (by lia),?_⟩
  refine⟨_,rfl,_,rfl,_,_,rfl,rfl,p,_,_,_,rfl,rfl,ai.of hp,c8 (j:=i+1) (by lia) (by lia),?_⟩
  refine⟨_,rfl,_,rfl,p,_,_,i,rfl,rfl,hp,d8 rfl (by rw[cK];lia),?_⟩
  refine⟨_,rfl,_,rfl,_,rfl,_,_,rfl,rfl,p,_,_,i+1,rfl,rfl,au,d8 (by lia) (by rw[gw,cK];lia),?_⟩
  refine k _ (fun b o e hb=>by rw[ax hb,ax hb];exact e) ?_
  show upd _ p _ p=_
  rw[au,l_,l_,QI hl hi]
noncomputable def QJ(T:Txt K mg):Sp:=fun vs H Q _=>∃(p:Addr) (a:Perm),vs=[.ref p]/\Ls H p a/\aw a/\bB H Q (iv (Wqaraq.row a))
theorem wH{a:Perm}(ha:aw a):(Wqaraq.row a).length<=120:=by
 rw[lW ha]
 unfold Wqaraq.crossings
 exact cC (q0 _ _) (by decide+kernel)
theorem Co(T:Txt K mg):T.qp.Ok P w base 2 (QJ T):=by
 have S:=Ov
 refine T.qp.F.ok S (by rintro _ _ _ _ ⟨p,a,rfl,_⟩;rfl) fun cdv A outer s H vs Q E hr h=>?_
 ·obtain⟨p,a,rfl,hp,ha,k⟩:=h
  refine⟨_,(aj (sv 1 S.nd (gO uS rfl T.gF (by decide+kernel) (ak (pv 0))))
   (aj (sv 2 S.nd (aY gN))
   (aj (sv 3 S.nd aq)
   (aj (jM PassesOwn.never (a5 gC (pv 3) (aC cE (aN rfl T.dt) aq)) (ao (bt (a5 eQ (aM (pv 1) (pv 3)) (aM (pv 1) (aC cj (pv 3) aq))) (aj (dX (T.qo.c (Cm T) hr (aR (pv 1) (pv 3))))
   (aj (dX (j9 (pv 2) (aC cj (pv 3) aq)))
   (ao (sv 3 S.nd (f_ (KJ rfl) rfl T.GV (by decide+kernel) (aR (aC cE (pv 3) aq) aq)))))) (ao (sv 3 S.nd (aC cj (pv 3) aq))))))
   (ao (az (pv 2))))))),?_⟩
  refine⟨_,rfl,p,_,rfl,.inl (ai.of hp),fun l hl=>?_⟩
  refine⟨be _,fun r hr=>?_⟩
  have nlr:l≠r:=fun e=>by rw[<-e,au]at hr;cases hr
  have hr0:H r=none:=(ag.bA hl).free hr
  refine⟨fun m σ H'=>∃(b:Perm) (i:Nat) (done:List Int),m=20 * size b+(15 - i)/\σ=[some (.ref p),some (.ref l),some (.ref r),some (.int i)]/\ag H H'/\Ls H' l b/\Li H' r done/\aw b/\i<=15/\p9 b i/\done++Wqaraq.row b=Wqaraq.row a,
   ⟨_,a,0,[],rfl,rfl,(ag.bA hl).upd hr0,(ax nlr).trans au,au,ha,by lia,fun j hj=>by lia,rfl⟩,?_⟩
  intro m σ H' hq;obtain ⟨b,i,done,rfl,rfl,s,hb,hd,pb,hi,up,e⟩:=hq
  refine⟨_,rfl,_,_,rfl,rfl,_,_,rfl,rfl,_,rfl,?_⟩
  refine aS (fun c=>?_) (fun c=>?_)
  ·have c:(i:Int)<16 - 1:=a0 c
   have hi:i<15:=by lia
   refine⟨fun σ' H'=>∃m',m'<20 * size b+(15 - i)/\∃(b:Perm) (i:Nat) (done:List Int),m'=20 * size b+(15 - i)/\σ'=[some (.ref p),some (.ref l),some (.ref r),some (.int i)]/\ag H H'/\Ls H' l b/\Li H' r done/\aw b/\i<=15/\p9 b i/\done++Wqaraq.row b=Wqaraq.row a,fun σ' H' h=>h,?_⟩
   refine dI (ir ?_)
   refine⟨_,rfl,_,rfl,l,_,_,_,rfl,rfl,ai.of hb,c8 rfl (by rw[pb.len];lia),_,rfl,_,rfl,_,_,rfl,rfl,l,_,_,_,rfl,rfl,ai.of hb,c8 (j:=i+1) (by lia) (by rw[pb.len];lia),_,_,rfl,rfl,_,rfl,?_⟩
   refine aS (fun c2=>?_) (fun c2=>?_)
   ·have c2:=eK.mp (a0 c2)
    refine⟨_,rfl,_,rfl,l,b,i,rfl,hb,pb.len,hi,fun H2 s2 h2=>?_⟩
    have nrl:r≠l:=fun q=>nlr q.symm
    have hr2:Li H2 r done:=s2 _ _ hd nrl
    have rl:=M5 pb hi up c2
    have lt:=nT pb hi (.inl ⟨by lia,c2⟩)
    have ll:(done++Wqaraq.row b).length<=120:=by rw[e];exact wH ha
    rw[bF]at ll
    refine⟨_,rfl,.inl ⟨rfl,_,ai.of hr2⟩,_,rfl,_,_,rfl,rfl,r,_,_,rfl,rfl,hr2,small (by rw[cT];lia),?_⟩
    refine⟨_,rfl,_,_,rfl,rfl,_,_,rfl,?_⟩
    refine⟨_,?_,Wqaraq.exchanged i b,i - 1,done++[((i+1:Nat):Int)],rfl,?_,fun c o h=>?_,?_,?_,vt pb hi,by lia,M7 pb hi up,?_⟩
    ·lia
    ·show [some (V.ref p),some (V.ref l),some (V.ref r),some (V.int (if (0:Int) > (i:Int) - 1 then 0 else (i:Int) - 1))]=_
     rw[show (if (0:Int) > (i:Int) - 1 then (0:Int) else (i:Int) - 1)=((i - 1:Nat):Int) by split<;>lia]
    ·have n1:c≠r:=a7 h hr0
     have n2:c≠l:=a7 h hl
     rw[ax n1]
     exact s2 _ _ (s _ _ h) n2
    ·show upd _ r _ l=_
     rw[ax nlr];exact h2
    ·show upd _ r _ r=_
     rw[au,wD];rfl
    ·rw[dM,<-e,rl];rfl
   ·have c2:¬Wqaraq.at_ b (i+1)<Wqaraq.at_ b i:=fun q=>a_ c2 (eK.mpr q)
    refine⟨_,rfl,_,_,rfl,rfl,?_⟩
    refine⟨_,?_,b,i+1,done,rfl,rfl,s,hb,hd,pb,by lia,fun j hj h15=>?_,e⟩
    ·lia
    ·by_cases q:j=i
     ·have:=pb.ne (show i<16 by lia) (show i+1<16 by lia) (by lia)
      rw[q];lia
     ·exact up j (by lia) h15
  ·have c:¬(i:Int)<16 - 1:=a_ c
   have hi:i=15:=by lia
   refine⟨_,rfl,?_⟩
   rw[hi]at up
   rw[M6 pb up,fB]at e
   rw[e]at hd
   exact k H' r s hr0 hd
noncomputable def QK(T:Txt K mg):Sp:=fun vs H Q _=>∃(p:Addr) (w:List Int),vs=[.ref p]/\Li H p w/\bB H Q (nv (Wqaraq.follow w))
theorem QL(T:Txt K mg):T.followed.Ok P w base 2 (QK T):=by
 have S:=Ow
 refine T.followed.F.ok S (by rintro _ _ _ _ ⟨p,w,rfl,_⟩;rfl) fun cdv A outer s H vs Q E hr h=>?_
 ·obtain⟨p,w,rfl,hp,k⟩:=h
  refine⟨_,(aj (sv 1 S.nd (gO (j8 rfl) rfl T.gF k9 (ak (mV rfl T.cM (ak (aN rfl T.dt))))))
   (aj (dh PassesOwn.never rfl (fJ (pv 0)) (gn 2 S.nd) (aj (sv 3 S.nd (f_ lE rfl T.kM (by decide+kernel) (ak (pv 2))))
   (ao (bt (KI rK gC aq (pv 3) (aN rfl T.dt)) (ao (dX (T.qo.c (Cm T) hr (aR (pv 1) (aC cE (pv 3) aq))))) bx))))
   (ao (az (T.kQ.c (oU T) hr (ak (pv 1))))))),?_⟩
  refine aQ (bz (tW fun H1 l s1 hl h1=>?_))
  refine⟨_,rfl,p,rfl,⟨_,ai.of (s1 _ _ hp)⟩,mG (xs:=iv w) (fun i σ H'=>∃(v2 v3:Option V),σ=[some (.ref p),some (.ref l),v2,v3]/\ag H H'/\Ls H' l (Wqaraq.back (Wqaraq.follow (w.take i))))
   ⟨none,none,rfl,s1,by rw[ph,sq,show Wqaraq.back Wqaraq.still=Wqaraq.still by decide];exact h1⟩ (fun i σ H' _ ⟨_,_,_,s,_⟩=>ai.of (s _ _ hp)) ?_ ?_⟩
  ·intro i x σ H' hx hq;obtain ⟨v2,v3,rfl,s,hb⟩:=hq
   obtain⟨c,hc,rfl⟩:∃c,w[i]?=some c/\x=V.int c:=by
    unfold iv at hx
    rw[b_]at hx
    cases q:w[i]? with
    |none=>rw[q]at hx;cases hx
    |some c=>rw[q]at hx;exact⟨c,rfl,(bo hx).symm⟩
   have tk:w.take (i+1)=w.take i++[c]:=by rw[i7,hc];rfl
   have pf:=gR (w.take i)
   have ab:(if c<0 then -c else c)=(c.natAbs:Int):=by split<;>lia
   refine⟨_,rfl,_,rfl,?_⟩
   rw[ab]
   refine⟨_,rfl,_,_,rfl,rfl,_,rfl,?_⟩
   refine aS (fun h1=>?_) (fun h1=>?_)
   ·have h1:(1:Int)<=(c.natAbs:Int):=a0 h1
    refine⟨_,_,rfl,rfl,_,rfl,?_⟩
    refine aS (fun h2=>?_) (fun h2=>?_)
    ·have h2:(c.natAbs:Int)<16:=a0 h2
     refine⟨_,rfl,_,rfl,_,_,rfl,rfl,l,_,c.natAbs - 1,?_,hb,pf.back.len,by lia,fun H2 s2 h2'=>?_⟩
     ·show [V.ref l,V.int ((c.natAbs:Int) - 1)]=_
      rw[show (c.natAbs:Int) - 1=((c.natAbs - 1:Nat):Int) by lia]
     ·refine⟨_,_,rfl,fun b o e=>s2 _ _ (s _ _ e) (a7 e hl),?_⟩
      rw[tk,yW,af (jx.mpr ⟨by lia,by lia⟩),yX pf (by lia)]
      exact h2'
    ·have h2:¬(c.natAbs:Int)<16:=a_ h2
     refine⟨_,_,rfl,s,?_⟩
     rw[tk,yW,ae (fun q=>h2 (by have:=(jx.mp q).2;lia))]
     exact hb
   ·have h1:¬(1:Int)<=(c.natAbs:Int):=a_ h1
    refine⟨_,rfl,dN ⟨_,_,rfl,s,?_⟩⟩
    rw[tk,yW,ae (fun q=>h1 (by have:=(jx.mp q).1;lia))]
    exact hb
  ·intro σ H' hq;obtain ⟨v2,v3,rfl,s,hb⟩:=hq
   rw[cT,gY]at hb
   refine⟨_,rfl,l,_,rfl,hb,(gR w).back,fun H2 r s2 hr h2=>?_⟩
   rw[Ex (gR w)]at h2
   exact k H2 r (s.trans s2) (s.free hr) h2
noncomputable def QM(T:Txt K mg):Sp:=fun vs H Q _=>∃m n:Nat,vs=[.int m,.int n]/\2<=n/\n<=16/\bB H Q (nv (Wqaraq.numbered m n))
theorem HU:∀(a:List Nat) (i:Nat),(nv a).eraseIdx i=nv (a.eraseIdx i)
 |[],_=>rfl
 |_::_,0=>rfl
 |x::a,i+1=>bQ (V.int (x:Int)::·) (HU a i)
theorem QN(m j:Nat):digit m j<j+1:=Nat.mod_lt _ (by lia)
theorem QO{m n:Nat}(hn:n<=16):picks ((List.range n).reverse.map (digit m)) (List.range n)++List.range' n (16 - n)=Wqaraq.numbered m n:=by
 have e:=Fl n m n (List.range n)
 have hl:(picks ((List.range n).reverse.map (digit m)) (List.range n)).length=n:=by rw[Fn,aE,cN,cD]
 unfold Wqaraq.numbered
 dsimp only
 rw[e]
 generalize picks ((List.range n).reverse.map (digit m)) (List.range n)=l at *
 refine dG (by rw[bF,hl,List.length_range'];lia) (bK _) fun i hi=>?_
 rw[hJ hi]
 have g:Wqaraq.at_ (l++List.range' n (16 - n)) i=((l++List.range' n (16 - n))[i]?).getD 0:=eg ..
 rw[g]
 by_cases c:i<n
 ·rw[af c,qQ (by lia),eg]
 ·rw[ae c,oZ (by lia),hl,List.getElem?_range' (by lia)]
  show n+1 * (i - n)=i
  lia
theorem QP(T:Txt K mg):T.numbered.Ok P w base 1 (QM T):=by
 have S:=Ot
 refine T.numbered.F.ok S (by rintro _ _ _ _ ⟨m,n,rfl,_⟩;rfl) fun cdv A outer s H vs Q E hr h=>?_
 ·obtain⟨m,n,rfl,n2,hn,k⟩:=h
  refine⟨_,(aj (sv 2 S.nd (aY gN))
   (aj (sv 3 S.nd (pv 0))
   (aj (dh PassesOwn.never rfl (rH rfl T.cM (aR aq (aC cj (pv 1) aq))) (gn 4 S.nd) (aj (dX (j9 (pv 2) (aC pJ (pv 3) (pv 4))))
   (ao (sv 3 S.nd (aC Dj (pv 3) (pv 4))))))
   (aj (sv 5 S.nd (gO (j8 rfl) rfl T.gF k9 (ak (mV rfl T.cM (ak (pv 1))))))
   (aj (sv 6 S.nd (aY gN))
   (aj (dh PassesOwn.never rfl (x8 rfl T.vK (ak (pv 2))) (gn 7 S.nd) (ao (dX (j9 (pv 6) (uT xx PySem.F.slot_list_pop PySem.F.type_list_pop DW (pv 5) (ak (pv 7)))))))
   (ao (az (aC fO (pv 6) (gO (j8 rfl) rfl T.gF k9 (ak (zX rfl T.cM (aR (pv 1) (aN rfl T.dt)))))))))))))),?_⟩
  refine⟨be _,fun d hd=>?_⟩
  have sd:=ag.bA (o:=.lst []) hd
  refine⟨_,rfl,_,rfl,_,_,rfl,rfl,1,(n:Int)+1,rfl,by lia,je (lo:=1) (n:=((n:Int)+1 - 1).toNat) (fun i σ H'=>∃(v4:Option V),σ=[some (.int m),some (.int n),some (.ref d),some (.int (m / Wqaraq.factorial i:Nat)),v4,none,none,none]/\ag H H'/\Ls H' d ((List.range i).map (digit m)))
   ⟨none,by rw[show m / Wqaraq.factorial 0=m from Nat.div_one m];rfl,sd,au⟩ ?_ ?_⟩
  ·intro i σ H' hi hq;obtain ⟨v4,rfl,s,h1⟩:=hq
   have hi:i<n:=by lia
   refine⟨_,rfl,.inl ⟨rfl,_,ai.of h1⟩,_,rfl,_,rfl,_,_,rfl,rfl,by show (0:Int)<1+(i:Int);lia,d,_,_,rfl,rfl,h1,small (by rw[cK,aE,cD];lia),?_⟩
   refine⟨_,rfl,_,rfl,_,_,rfl,rfl,⟨by show (0:Int)<1+(i:Int);lia,by show (1:Int)+(i:Int)<1073741824;lia⟩,?_⟩
   refine⟨some (.int (1+i)),?_,fun b o e=>?_,?_⟩
   ·show [some (V.int m),some (V.int n),some (V.ref d),some (V.int (((m / Wqaraq.factorial i:Nat):Int) / (1+(i:Int)))),some (V.int (1+i)),none,none,none]=_
    rw[show ((m / Wqaraq.factorial i:Nat):Int) / (1+(i:Int))=((m / Wqaraq.factorial (i+1):Nat):Int) by
     rw[show (1:Int)+(i:Int)=((i+1:Nat):Int) by lia,<-Int.natCast_ediv]
     congr 1
     rw[Nat.div_div_eq_div_mul]
     congr 1
     exact Nat.mul_comm _ _]
   ·rw[ax (a7 e hd)];exact s b o e
   ·show upd _ d _ d=_
    rw[au,i6,cQ,wC]
    congr 3
    show [V.int (((m / Wqaraq.factorial i:Nat):Int) % (1+(i:Int)))]=[V.int ((digit m i:Nat):Int)]
    rw[show (1:Int)+(i:Int)=((i+1:Nat):Int) by lia,<-Int.natCast_emod]
    rfl
  ·intro σ H1 hq;obtain ⟨v4,rfl,s1,h1⟩:=hq
   rw[show ((n:Int)+1 - 1).toNat=n by lia]at h1
   dsimp only
   refine aQ (bz (wF (v:=.int n) n rfl (fun Q' q=>⟨_,rfl,q⟩) (by lia) fun H2 f s2 hf h2=>?_))
   refine⟨be _,fun l hl=>?_⟩
   have s3:=(s1.trans s2).upd (o:=.lst []) ((s1.trans s2).free hl)
   have hf0:=s1.free hf
   have hl0:=(s1.trans s2).free hl
   have nfl:f≠l:=a7 h2 hl
   have ndf:d≠f:=a7 h1 hf
   have ndl:d≠l:=a7 (s2 _ _ h1) hl
   generalize hds:(List.range n).map (digit m)=ds at *
   have dl:ds.length=n:=by rw[<-hds,aE,cD]
   refine⟨_,rfl,d,_,rfl,ai.of ((ax ndl).trans (s2 _ _ h1)),GS (xs:=nv ds) (fun i σ H'=>∃(v3 v4 v7:Option V) (free a:List Nat),σ=[some (.int m),some (.int n),some (.ref d),v3,v4,some (.ref f),some (.ref l),v7]/\ag H H'/\Ls H' d ds/\Ls H' f free/\Ls H' l a/\free.length+i=n/\a.length=i/\a++picks (ds.reverse.drop i) free=picks ds.reverse (List.range n))
    ⟨_,_,none,List.range n,[],rfl,s3,(ax ndl).trans (s2 _ _ h1),(ax nfl).trans h2,au,by simp,rfl,rfl⟩ (fun i σ H' _ ⟨_,_,_,_,_,_,_,h,_⟩=>ai.of h) ?_ ?_⟩
   ·intro i x σ H' hx hq;obtain ⟨v3,v4,v7,free,a,rfl,s,hd',hf',hl',fl,al,ep⟩:=hq
    have hi:i<n:=by
     have:=(dW.mp hx).1
     rwa[cN,cK,dl]at this
    have hdi:ds.reverse[i]?=some (digit m (n - 1 - i)):=by
     rw[List.getElem?_reverse (by lia),dl,<-hds,b_,qW (by lia)];rfl
    have ex:x=V.int ((digit m (n - 1 - i):Nat):Int):=by
     unfold nv at hx
     rw[<-List.map_reverse,b_,hdi]at hx
     exact(bo hx).symm
    subst ex
    have dlt:=QN m (n - 1 - i)
    have dr:ds.reverse.drop i=digit m (n - 1 - i)::ds.reverse.drop (i+1):=by
     have hir:i<ds.reverse.length:=by rw[cN];lia
     rw[pk hir]
     rw[bu hir]at hdi
     rw[bo hdi]
    generalize digit m (n - 1 - i)=dg at *
    refine⟨_,rfl,.inl ⟨rfl,_,ai.of hl'⟩,_,rfl,.inl ⟨rfl,_,ai.of hf'⟩,_,rfl,f,_,_,dg,V.int ((Wqaraq.at_ free dg:Nat):Int),rfl,rfl,hf',by lia,by lia,?_,kT (by lia),?_⟩
    ·rw[cK]
     exact seqIndex_of (by lia) (by lia)
    ·have nlf:l≠f:=fun q=>nfl q.symm
     refine⟨l,_,_,rfl,rfl,(ax nlf).trans hl',small (by rw[cK];lia),?_⟩
     refine⟨_,_,_,free.eraseIdx dg,a++[Wqaraq.at_ free dg],rfl,fun b o e=>?_,?_,?_,?_,?_,?_,?_⟩
     ·rw[ax (a7 e hl0),ax (a7 e hf0)];exact s b o e
     ·exact(ax ndl).trans ((ax ndf).trans hd')
     ·refine(ax nfl).trans (au.trans ?_)
      rw[HU]
     ·show upd _ l _ l=_
      rw[au,wC];rfl
     ·rw[List.length_eraseIdx_of_lt (by lia)];lia
     ·rw[bF,al];rfl
     ·rw[<-ep,dr,dM];rfl
   ·intro σ H' hq;obtain ⟨v3,v4,v7,free,a,rfl,s,hd',hf',hl',fl,al,ep⟩:=hq
    rw[cK,dl]at ep
    rw[rk (by rw[cN,dl];exact aX _)]at ep
    rw[show picks [] free=[] from rfl,fB]at ep
    refine⟨_,rfl,?_⟩
    refine B_ (va:=.int n) (vb:=.int 16) n 16 rfl rfl (fun Q' q=>⟨_,rfl,q⟩) (fun Q' q=>q) ⟨by lia,by decide⟩ fun H8 r8 s8 f8 h8=>?_
    refine⟨l,r8,_,_,rfl,rfl,s8 _ _ hl',h8,cv (by rw[cK,cK,List.length_range'];rw[cK,dl]at al;lia),fun r9 hr9=>?_⟩
    refine k _ r9 ((s.trans s8).upd ((s.trans s8).free hr9)) ((s.trans s8).free hr9) ?_
    rw[au,<-wC,ep,<-hds,<-List.map_reverse,QO hn]
noncomputable def bv(l:List Bool):List V:=l.map V.bl
noncomputable def eV(f:Nat->Bool):List V:=bv ((List.range 16).map f)
theorem Cp(f:Nat->Bool):(eV f).length=16:=by unfold eV bv;simp
theorem qz{f:Nat->Bool}{j:Nat}(h:j<16):(eV f)[j]?=some (.bl (f j)):=by
 unfold eV bv
 rw[b_,b_,qW h];rfl
theorem wI{f:Nat->Bool}{z:Int}{j:Nat}(e:z=(j:Int))(h:j<16):gP (eV f) z=some (.bl (f j)):=at_of e (qz h)
theorem QQ{f:Nat->Bool}{j:Nat}{v:Bool}:(eV f).set j (.bl v)=eV (fun k=>if k=j then v else f k):=by
 refine List.ext_getElem? fun i=>?_
 rw[rd,Cp]
 by_cases h:i<16
 ·by_cases e:j=i
  ·rw[af e,af (by lia),qz h,af e.symm]
  ·rw[ae e,qz h,qz h,ae (fun q=>e q.symm)]
 ·have n:∀g,(eV g)[i]?=none:=fun g=>qV (by rw[Cp];lia)
  rw[n,n]
  by_cases e:j=i
  ·rw[af e,ae (by lia)]
  ·rw[ae e]
structure mW(H:Hp)(p:Addr)(rs:List Addr)(M:Nat->Nat->Bool):Prop where
 lst:H p=some (.lst (rs.map V.ref))
 len:rs.length=16
 nd:rs.Nodup
 row:∀i r,rs[i]?=some r->H r=some (.lst (eV (M i)))
theorem gv{rs:List Addr}{z:Int}{j:Nat}{r:Addr}(e:z=(j:Int))(h:rs[j]?=some r):gP (rs.map V.ref) z=some (.ref r):=at_of e (by rw[b_,h];rfl)
noncomputable def QR(T:Txt K mg):Sp:=fun vs H Q _=>∃(p q:Addr) (a b:Perm),vs=[.ref p,.ref q]/\Ls H p a/\Ls H q b/\aw a/\aw b/\
 ∀(H':Hp) (c:Addr) (rs:List Addr),ag H H'->H c=none->(∀r,r∈rs->H r=none)->mW H' c rs (fun i j=>decide (i<j)&&(decide (Wqaraq.at_ a j<Wqaraq.at_ a i)||decide (Wqaraq.at_ b j<Wqaraq.at_ b i)))->Q (.ref c) H'
theorem QS(T:Txt K mg):T.vT.Ok P w base 1 (QR T):=by
 have S:=OL
 refine T.vT.F.ok S (by rintro _ _ _ _ ⟨p,q,a,b,rfl,_⟩;rfl) fun cdv A outer s H vs Q E hr h=>?_
 ·obtain⟨p,q,a,b,rfl,hp,hq,ha,hb,k⟩:=h
  refine⟨_,(aj (sv 2 S.nd (aY gN))
   (aj (dh PassesOwn.never rfl (iL rfl T.cM (ak (aN rfl T.dt))) (gn 3 S.nd) (ao (dX (j9 (pv 2) (iQ (own:=[("j",4)]) rfl S.nd (iL rfl T.cM (ak (aN rfl T.dt))) (fP (by rfl)) (fun _ _ _ _ _=>(eO (i:=4) S.nd rfl (Or.inl rfl))) (fun _ _ _ _ _=>iP) (fun _ _ _ _ _=>(C9 (jD gC (pv 3) (pv 4)) (uG (C_ (jD eQ (g6 (j7 (K:=K) rfl) (pv 0) (pv 3) (fun _ _=>rfl)) (g6 (j7 (K:=K) rfl) (pv 0) (pv 4) (fun _ _=>rfl))) (uG (jD eQ (g6 (j7 (K:=K) rfl) (pv 1) (pv 3) (fun _ _=>rfl)) (g6 (j7 (K:=K) rfl) (pv 1) (pv 4) (fun _ _=>rfl)))))))))))))
   (ao (az (pv 2))))),?_⟩
  refine⟨be _,fun c hc=>?_⟩
  generalize hM:(fun i j=>decide (i<j)&&(decide (Wqaraq.at_ a j<Wqaraq.at_ a i)||decide (Wqaraq.at_ b j<Wqaraq.at_ b i)))=M at *
  refine⟨16,rfl,by decide,by decide,je (lo:=0) (n:=16) (fun i σ H'=>∃(v3 v4:Option V) (rs:List Addr),σ=[some (.ref p),some (.ref q),some (.ref c),v3,v4]/\ag H H'/\H' c=some (.lst (rs.map V.ref))/\rs.length=i/\rs.Nodup/\(∀r,r∈rs->H r=none)/\∀i r,rs[i]?=some r->H' r=some (.lst (eV (M i))))
   ⟨none,none,[],rfl,ag.bA hc,au,rfl,List.nodup_nil,fun r h=>(by cases h),fun i r h=>(by simp at h)⟩ ?_ ?_⟩
  ·intro i σ H' hi hq;obtain ⟨v3,v4,rs,rfl,s,h1,hl,nd,fr,hr⟩:=hq
   have e1:(0:Int)+(i:Int)=(i:Int):=by lia
   refine⟨_,rfl,.inl ⟨rfl,_,ai.of h1⟩,?_⟩
   refine bG (gV ?_)
   refine⟨16,rfl,by decide,by decide,wG (lo:=0) (n:=16) (fun _=>true) (fun j=>V.bl (M i j)) (by decide) ?_ ?_⟩
   ·intro j H2 hj s2 R Nx k1 k2
    have e2:(0:Int)+(j:Int)=(j:Int):=by lia
    refine⟨rfl,yes ?_⟩
    have fin:=k1 rfl H2 (ag.refl _)
    rw[<-hM]at fin
    dsimp only at fin
    refine⟨_,rfl,_,rfl,_,_,rfl,rfl,_,rfl,?_⟩
    refine aS (fun c1=>?_) (fun c1=>?_)
    ·have c1:(0:Int)+(i:Int)<0+(j:Int):=a0 c1
     have hp2:=s2 _ _ (s _ _ hp)
     have hq2:=s2 _ _ (s _ _ hq)
     refine⟨_,rfl,_,rfl,p,_,_,_,rfl,rfl,ai.of hp2,c8 e1 (by rw[ha.len];exact hi),_,rfl,_,rfl,p,_,_,_,rfl,rfl,ai.of hp2,c8 e2 (by rw[ha.len];exact hj),_,_,rfl,rfl,_,rfl,?_⟩
     refine aS (fun c2=>?_) (fun c2=>?_)
     ·refine ip fin ?_
      rw[de (show i<j by lia),de (eK.mp (a0 c2))];rfl
     ·have c2:¬Wqaraq.at_ a j<Wqaraq.at_ a i:=fun z=>a_ c2 (eK.mpr z)
      refine⟨_,rfl,_,rfl,q,_,_,_,rfl,rfl,ai.of hq2,c8 e1 (by rw[hb.len];exact hi),_,rfl,_,rfl,q,_,_,_,rfl,rfl,ai.of hq2,c8 e2 (by rw[hb.len];exact hj),_,_,rfl,rfl,?_⟩
      refine ip fin ?_
      rw[de (show i<j by lia),cy c2,k8,Bool.false_or,gA]
      exact eK
    ·have c1:¬(0:Int)+(i:Int)<0+(j:Int):=a_ c1
     refine ip fin ?_
     rw[cy (show ¬i<j by lia)];rfl
   ·intro H2 r s2 fr2 h2
    rw[tZ]at h2
    have h2:H2 r=some (.lst (eV (M i))):=by rw[h2];unfold eV bv;rw[dw];rfl
    refine⟨c,_,_,rfl,rfl,s2 _ _ h1,small (by rw[aE,hl];lia),?_⟩
    have ncr:r≠c:=fun z=>by rw[z,h1]at fr2;cases fr2
    refine⟨_,_,rs++[r],rfl,fun x o e=>?_,?_,by rw[bF,hl];rfl,?_,fun x hx=>?_,fun j x hx=>?_⟩
    ·rw[ax (a7 e hc)];exact s2 _ _ (s _ _ e)
    ·rw[au,cQ];rfl
    ·refine Ef nd fun hm=>?_
     obtain⟨j,hj,ej⟩:=xw hm
     have:=hr j r (by rw[bu hj,ej])
     rw[fr2]at this;cases this
    ·rcases dU.mp hx with hx|hx
     ·exact fr x hx
     ·rw[gz.mp hx];exact s.free fr2
    ·by_cases hj:j<rs.length
     ·rw[qQ hj]at hx
      have hxx:=hr j x hx
      have:x≠c:=fun z=>by
       rw[z,h1]at hxx
       cases rs with
       |nil=>simp at hj
       |cons r0 rs0=>
        injection hxx with hxx
        injection hxx with hxx
        have z0:=bQ (fun l=>l[0]?) hxx
        rw[qz (by decide)]at z0
        cases z0
      rw[ax this]
      exact s2 _ _ hxx
     ·rw[oZ (by lia)]at hx
      have:j - rs.length=0:=by
       have:=(dW.mp hx).1
       simp at this;lia
      rw[this]at hx
      have ex:r=x:=bo hx
      rw[<-ex,ax ncr,show j=i by lia]
      exact h2
  ·intro σ H' hq;obtain ⟨v3,v4,rs,rfl,s,h1,hl,nd,fr,hr⟩:=hq
   exact⟨_,rfl,k H' c rs s hc fr ⟨h1,hl,nd,hr⟩⟩
noncomputable def QT(T:Txt K mg):Sp:=fun vs H Q _=>∃(p q:Addr) (f g:Nat->Bool),vs=[.ref p,.ref q]/\H p=some (.lst (eV f))/\H q=some (.lst (eV g))/\p≠q/\
 ∀H':Hp,(∀b o,H b=some o->b≠p->H' b=some o)->H' p=some (.lst (eV fun k=>f k||g k))->Q .aW H'
theorem ua{f g:Nat->Bool}(h:∀k,k<16->f k=g k):eV f=eV g:=by
 unfold eV
 rw[gX fun k hk=>h k (a6.mp hk)]
theorem QU(T:Txt K mg):T.vU.Ok P w base 1 (QT T):=by
 have S:=ON
 refine T.vU.F.ok S (by rintro _ _ _ _ ⟨p,q,f,g,rfl,_⟩;rfl) fun cdv A outer s H vs Q E hr h=>?_
 ·obtain⟨p,q,f,g,rfl,hp,hq,npq,k⟩:=h
  refine⟨_,(ao (dh PassesOwn.never rfl (iL rfl T.cM (ak (aN rfl T.dt))) (gn 2 S.nd) (ao (bt (cw (aM (pv 1) (pv 2))) (ao (fI kj (fH (pv 0) (pv 2) set_list))) bx)))),?_⟩
  refine⟨16,rfl,by decide,by decide,je (lo:=0) (n:=16) (fun i σ H'=>∃v2:Option V,σ=[some (.ref p),some (.ref q),v2]/\(∀b o,H b=some o->b≠p->H' b=some o)/\H' p=some (.lst (eV fun k=>f k||(decide (k<i)&&g k))))
   ⟨none,rfl,fun b o e _=>e,by rw[hp];exact bQ (fun z=>some (HO.lst z)) (ua fun k _=>by simp)⟩ ?_ ?_⟩
  ·intro i σ H' hi hq;obtain ⟨v2,rfl,s,h1⟩:=hq
   have e1:(0:Int)+(i:Int)=(i:Int):=by lia
   refine⟨_,rfl,_,rfl,q,_,_,_,rfl,rfl,ai.of (s _ _ hq (fun z=>npq z.symm)),wI e1 hi,_,rfl,?_⟩
   refine aS (fun c=>?_) (fun c=>?_)
   ·refine⟨_,rfl,_,rfl,p,_,_,i,rfl,rfl,h1,d8 e1 (by rw[Cp];exact hi),?_⟩
    refine⟨_,rfl,fun b o e hb=>by rw[ax hb];exact s b o e hb,?_⟩
    rw[au,QQ]
    refine bQ (fun z=>some (HO.lst z)) (ua fun k _=>?_)
    by_cases e:k=i
    ·rw[af e,e,c,de (Nat.lt_succ_self i)];simp
    ·rw[ae e]
     congr 2
     rw[gA];lia
   ·refine⟨_,rfl,s,?_⟩
    rw[h1]
    refine bQ (fun z=>some (HO.lst z)) (ua fun k _=>?_)
    by_cases e:k=i
    ·rw[e,c];simp
    ·congr 2
     rw[gA];lia
  ·intro σ H' hq;obtain ⟨v2,rfl,s,h1⟩:=hq
   refine k H' s ?_
   rw[h1]
   exact bQ (fun z=>some (HO.lst z)) (ua fun k hk=>by rw[de hk,k8])
noncomputable def Eg(M:Nat->Nat->Bool)(x y:Nat):Prop:=y<16/\M x y=true
noncomputable def QV(T:Txt K mg):Sp:=fun vs H Q _=>∃(p:Addr) (rs:List Addr) (M:Nat->Nat->Bool),vs=[.ref p]/\mW H p rs M/\p∉rs/\(∀i j,M i j=true->i<j)/\
 ∀(H':Hp) (M':Nat->Nat->Bool),(∀b o,H b=some o->b∉rs->H' b=some o)->mW H' p rs M'->(∀i k,i<16->k<16->(M' i k=true↔TC (Eg M) i k))->Q .aW H'
theorem HV{M:Nat->Nat->Bool}(up:∀i j,M i j=true->i<j){i k:Nat}(h:TC (Eg M) i k):i<k/\k<16:=by
 induction h with
 |one r=>exact⟨up _ _ r.2,r.1⟩
 |step r _ ih=>exact⟨Nat.lt_trans (up _ _ r.2) ih.1,ih.2⟩
structure kU(M:Nat->Nat->Bool)(i j:Nat)(R:Nat->Bool):Prop where
 sound:∀k,k<16->R k=true->TC (Eg M) i k
 has:∀k,M i k=true->R k=true
 below:∀j',j'<j->R j'=true->∀k,TC (Eg M) j' k->R k=true
theorem kU.add{M:Nat->Nat->Bool}(up:∀i j,M i j=true->i<j){i j:Nat}{R G:Nat->Bool}(h:kU M i j R)(hj:j<16)(c:R j=true)(g:∀k,k<16->(G k=true↔TC (Eg M) j k)):kU M i (j+1) (fun k=>R k||(decide (k<16)&&G k)):=by
 refine⟨fun k hk q=>?_,fun k q=>by rw[h.has k q];rfl,fun j' hj' q k t=>?_⟩
 ·rw[mv]at q
  rcases q with q|q
  ·exact h.sound k hk q
  ·rw[br]at q
   exact(h.sound j hj c).trans ((g k hk).mp q.2)
 ·rw[mv]at q ⊢
  rcases q with q|q
  ·by_cases e:j'=j
   ·rw[e]at t
    have kt:=(HV up t).2
    exact .inr (by rw[de kt,k8];exact(g k kt).mpr t)
   ·exact .inl (h.below j' (by lia) q k t)
  ·rw[br]at q
   have hj16:j'<16:=a0 q.1
   have:=(HV up ((g j' hj16).mp q.2)).1
   lia
theorem kU.skip{M:Nat->Nat->Bool}{i j:Nat}{R:Nat->Bool}(h:kU M i j R)(c:R j=false):kU M i (j+1) R:=
 ⟨h.sound,h.has,fun j' hj' q k t=>by
  by_cases e:j'=j
  ·rw[e,c]at q;cases q
  ·exact h.below j' (by lia) q k t⟩
theorem kU.done{M:Nat->Nat->Bool}(up:∀i j,M i j=true->i<j){i:Nat}{R:Nat->Bool}(h:kU M i 16 R){k:Nat}(hk:k<16):R k=true↔TC (Eg M) i k:=by
 refine⟨h.sound k hk,fun t=>?_⟩
 cases t with
 |one r=>exact h.has k r.2
 |step r t=>exact h.below _ r.1 (h.has _ r.2) k t
theorem mW.ub{H:Hp}{p:Addr}{rs:List Addr}{M:Nat->Nat->Bool}(m:mW H p rs M){i:Nat}(hi:i<16):∃r,rs[i]?=some r/\H r=some (.lst (eV (M i))):=by
 have:i<rs.length:=by rw[m.len];exact hi
 exact⟨rs[i],bu this,m.row i _ (bu this)⟩
theorem QW(T:Txt K mg):T.close.Ok P w base 2 (QV T):=by
 have S:=OM
 refine T.close.F.ok S (by rintro _ _ _ _ ⟨p,rs,M,rfl,_⟩;rfl) fun cdv A outer s H vs Q E hr h=>?_
 ·obtain⟨p,rs,M,rfl,hm,npr,up,k⟩:=h
  refine⟨_,(ao (dh PassesOwn.never rfl (Eb rfl T.cM (dv (aC cE (aN rfl T.dt) aq) (iM iN aq) (iM iN aq))) (gn 1 S.nd) (ao (dh PassesOwn.never rfl (rH rfl T.cM (aR (aC cj (pv 1) aq) (aN rfl T.dt))) (gn 2 S.nd) (ao (bt (cw (aM (aM (pv 0) (pv 1)) (pv 2))) (ao (dX (T.vU.c (QU T) hr (aR (aM (pv 0) (pv 1)) (aM (pv 0) (pv 2)))))) bx)))))),?_⟩
  refine⟨_,_,rfl,rfl,_,rfl,_,rfl,15,-1,-1,16,rfl,⟨by decide,by decide,by decide,by decide⟩,Ec (lo:=15) (c:= -1) (n:=16) (fun t σ H'=>∃(v1 v2:Option V) (N:Nat->Nat->Bool),σ=[some (.ref p),v1,v2]/\(∀b o,H b=some o->b∉rs->H' b=some o)/\mW H' p rs N/\(∀i,i<16 - t->N i=M i)/\∀i k,16 - t<=i->i<16->k<16->(N i k=true↔TC (Eg M) i k))
   ⟨none,none,M,rfl,fun b o e _=>e,hm,fun i _=>rfl,fun i k h1 h2=>by lia⟩ ?_ ?_⟩
  ·intro t σ H' ht hq;obtain ⟨v1,v2,N,rfl,s,m,hN,hT⟩:=hq
   have ei:(15:Int)+(t:Nat) * (-1)=((15 - t:Nat):Int):=by lia
   obtain⟨ri,hri,_⟩:=m.ub (i:=15 - t) (by lia)
   refine⟨_,rfl,_,_,rfl,rfl,15+(t:Nat) * (-1)+1,16,rfl,by lia,je (lo:=15+(t:Nat) * (-1)+1) (n:=((16:Int) - (15+(t:Nat) * (-1)+1)).toNat) (fun u σ H''=>∃(v2:Option V) (N':Nat->Nat->Bool),σ=[some (.ref p),some (.int (15+(t:Nat) * (-1))),v2]/\(∀b o,H b=some o->b∉rs->H'' b=some o)/\mW H'' p rs N'/\(∀i,i≠15 - t->N' i=N i)/\kU M (15 - t) (15 - t+1+u) (N' (15 - t))) ⟨_,N,rfl,s,m,fun i _=>rfl,?_⟩ ?_ ?_⟩
   ·rw[hN (15 - t) (by lia)]
    exact⟨fun k hk q=>.one ⟨hk,q⟩,fun k q=>q,fun j' hj' q=>absurd (up _ _ q) (by lia)⟩
   ·intro u σ H'' hu hq;obtain ⟨v2,N',rfl,s',m',hN',ro⟩:=hq
    have hj:15 - t+1+u<16:=by lia
    have ej:(15:Int)+(t:Nat) * (-1)+1+(u:Int)=((15 - t+1+u:Nat):Int):=by lia
    have hi':=m'.row _ _ hri
    obtain⟨rj,hrj,hj'⟩:=m'.ub hj
    refine⟨_,rfl,_,rfl,p,_,_,_,rfl,rfl,ai.of m'.lst,gv ei hri,_,rfl,ri,_,_,_,rfl,rfl,ai.of hi',wI ej hj,_,rfl,?_⟩
    refine aS (fun c=>?_) (fun c=>?_)
    ·have nij:ri≠rj:=fun e=>by
      have:=Eh m'.nd hri (by rw[e];exact hrj)
      lia
     refine⟨_,rfl,_,rfl,p,_,_,_,rfl,rfl,ai.of m'.lst,gv ei hri,_,rfl,_,rfl,p,_,_,_,rfl,rfl,ai.of m'.lst,gv ej hrj,ri,rj,_,_,rfl,hi',hj',nij,fun H3 s3 h3=>?_⟩
     have npi:p≠ri:=fun e=>npr (by rw[e];exact m_ hri)
     refine⟨_,fun i=>if i=15 - t then (fun k=>N' (15 - t) k||(decide (k<16)&&N' (15 - t+1+u) k)) else N' i,rfl,fun b o e hb=>s3 b o (s' b o e hb) (fun z=>hb (by rw[z];exact m_ hri)),⟨s3 _ _ m'.lst npi,m'.len,m'.nd,fun i r hr=>?_⟩,fun i hi=>?_,?_⟩
     ·by_cases e:i=15 - t
      ·rw[af e]
       rw[e,hri]at hr
       rw[<-bo hr,h3]
       exact bQ (fun z=>some (HO.lst z)) (ua fun k hk=>by rw[de hk,k8])
      ·rw[ae e]
       refine s3 _ _ (m'.row i r hr) fun z=>e ?_
       rw[z]at hr
       exact Eh m'.nd hr hri
     ·exact(ae hi).trans (hN' i hi)
     ·show kU M (15 - t) (15 - t+1+u+1) (if 15 - t=15 - t then _ else _)
      rw[af rfl]
      refine ro.add up hj c fun k hk=>?_
      rw[hN' _ (by lia)]
      exact hT _ k (by lia) hj hk
    ·exact⟨_,N',rfl,s',m',hN',ro.skip c⟩
   ·intro σ H'' hq;obtain ⟨v2,N',rfl,s',m',hN',ro⟩:=hq
    rw[show 15 - t+1+((16:Int) - (15+(t:Nat) * (-1)+1)).toNat=16 by lia]at ro
    refine⟨_,_,N',rfl,s',m',fun i hi=>?_,fun i k h1 h2 hk=>?_⟩
    ·rw[hN' i (by lia)];exact hN i (by lia)
    ·by_cases e:i=15 - t
     ·rw[e];exact ro.done up hk
     ·rw[hN' i e];exact hT i k (by lia) h2 hk
  ·intro σ H' hq;obtain ⟨v1,v2,N,rfl,s,m,hN,hT⟩:=hq
   exact k H' N s m fun i k h1 h2=>hT i k (by lia) h1 h2
noncomputable def QX(T:Txt K mg):Sp:=fun vs H Q _=>∃(p:Addr) (i:Nat) (rs:List Addr) (M:Nat->Nat->Bool),vs=[.ref p,.int i]/\i<16/\mW H p rs M/\
 Val H Q (.int ((cnt (fun j=>decide (j<i)&& !M j i)+cnt (fun j=>decide (i<j)&&M i j):Nat):Int))
theorem QY(p:Nat->Bool){i:Nat}(hi:i<=16):((List.range i).filter p).length=cnt (fun j=>decide (j<i)&&p j):=by
 rw[<-iH]
 unfold BB.cnt
 rw[show (16:Nat)=i+(16 - i) by lia,List.range_add,pj]
 have z:((List.range (16 - i)).map fun x=>i+x).countP (fun j=>decide (j<i)&&p j)=0:=by
  rw[ux]
  intro x hx
  obtain⟨y,_,rfl⟩:=bZ.mp hx
  rw[cy (by lia)];simp
 rw[z,Nat.add_zero]
 refine ng fun j hj=>?_
 rw[de (a6.mp hj),k8]
theorem QZ(p:Nat->Bool){i:Nat}(hi:i<16):((List.range (16 - (i+1))).filter fun s=>p (i+1+s)).length=cnt (fun j=>decide (i<j)&&p j):=by
 rw[<-iH]
 unfold BB.cnt
 rw[show List.range 16=List.range (i+1)++(List.range (16 - (i+1))).map (fun x=>i+1+x) by rw[<-List.range_add,show i+1+(16 - (i+1))=16 by lia],pj]
 have z:(List.range (i+1)).countP (fun j=>decide (i<j)&&p j)=0:=by
  rw[ux]
  intro x hx
  have:=a6.mp hx
  rw[cy (by lia)];simp
 rw[z,Nat.zero_add,List.countP_map]
 refine ng fun j hj=>?_
 show _↔(decide (i<i+1+j)&&p (i+1+j))=true
 rw[de (by lia),k8]
theorem Q0(T:Txt K mg):T.vV.Ok P w base 1 (QX T):=by
 have S:=OO
 refine T.vV.F.ok S (by rintro _ _ _ _ ⟨p,i,rs,M,rfl,_⟩;rfl) fun cdv A outer s H vs Q E hr h=>?_
 ·obtain⟨p,i,rs,M,rfl,hi,m,k⟩:=h
  refine⟨_,(aj (rV (i:=2) (own:=[("j",4)]) rfl S.nd rfl rfl rfl (iL rfl T.cM (ak (pv 1))) (fP (by rfl)) (fun _ _ _ _ _=>(eO (i:=4) S.nd rfl (Or.inl rfl))) (fun _ _ _ _ _=>rS (d5 (cw (g6 (j7 (K:=K) rfl) (g6 (j7 (K:=K) rfl) (pv 0) (pv 4) (fun _ _=>rfl)) (pv 1) (fun _ _=>rfl))))) (fun _ _ _ _ _=>(pv 4)))
   (aj (rV (i:=3) (own:=[("j",4)]) rfl S.nd rfl rfl rfl (rH rfl T.cM (aR (aC cj (pv 1) aq) (aN rfl T.dt))) (fP (by rfl)) (fun _ _ _ _ _=>(eO (i:=4) S.nd rfl (Or.inl rfl))) (fun _ _ _ _ _=>rS (cw (g6 (j7 (K:=K) rfl) (g6 (j7 (K:=K) rfl) (pv 0) (pv 1) (fun _ _=>rfl)) (pv 4) (fun _ _=>rfl)))) (fun _ _ _ _ _=>(pv 4)))
   (ao (az (aC cj (c9 T.cZ (pv 2)) (c9 T.cZ (pv 3))))))),?_⟩
  refine aQ (bz (gV ?_))
  refine⟨_,rfl,_,rfl,by lia,by lia,wG (lo:=0) (n:=((i:Int)).toNat) (fun j=> !M j i) (fun j=>V.int (0+(j:Int))) (by lia) ?_ ?_⟩
  ·intro j H2 hj s2 R Nx k1 k2
   have e2:(0:Int)+(j:Int)=(j:Int):=by lia
   obtain⟨rj,hrj,hj'⟩:=m.ub (i:=j) (by lia)
   refine⟨rfl,⟨_,rfl,_,rfl,p,_,_,_,rfl,rfl,ai.of (s2 _ _ m.lst),gv e2 hrj,_,rfl,rj,_,_,_,rfl,rfl,ai.of (s2 _ _ hj'),wI rfl hi,_,rfl,?_⟩⟩
   refine aS (fun c=>⟨_,rfl,k1 c _ (ag.refl _)⟩) (fun c=>k2 c _ (ag.refl _))
  ·intro H1 b s1 fb h1
   dsimp only [dy]
   refine aQ (bz (gV ?_))
   refine⟨_,rfl,_,_,rfl,rfl,(i:Int)+1,16,rfl,by lia,wG (lo:=(i:Int)+1) (n:=((16:Int) - ((i:Int)+1)).toNat) (fun s=>M i (i+1+s)) (fun j=>V.int ((i:Int)+1+(j:Int))) (by lia) ?_ ?_⟩
   ·intro j H2 hj s2 R Nx k1 k2
    obtain⟨ri,hri,hi'⟩:=m.ub hi
    have s12:=s1.trans s2
    refine⟨rfl,⟨_,rfl,_,rfl,p,_,_,_,rfl,rfl,ai.of (s12 _ _ m.lst),gv rfl hri,_,rfl,ri,_,_,_,rfl,rfl,ai.of (s12 _ _ hi'),wI (j:=i+1+j) (by lia) (by lia),_,rfl,?_⟩⟩
    refine aS (fun c=>⟨_,rfl,k1 c _ (ag.refl _)⟩) (fun c=>k2 c _ (ag.refl _))
   ·intro H2 c s2 fc h2
    refine⟨_,rfl,b,_,rfl,.inl (ai.of (s2 _ _ h1)),_,rfl,c,_,rfl,.inl (ai.of h2),_,_,rfl,rfl,?_⟩
    refine jB (k H2 (s1.trans s2)) ?_
    rw[aE,aE,show ((i:Int)).toNat=i by lia,show ((16:Int) - ((i:Int)+1)).toNat=16 - (i+1) by lia,QY _ (by lia),QZ (fun j=>M i j) hi]
    lia
noncomputable def Q1(T:Txt K mg):Sp:=fun vs H Q _=>∃(p q:Addr) (a b:Perm),vs=[.ref p,.ref q]/\Ls H p a/\Ls H q b/\aw a/\aw b/\bB H Q (nv (Wqaraq.joinOf a b))
theorem HW{a b:Perm}{i j:Nat}:Eg (fun i j=>decide (i<j)&&(decide (Wqaraq.at_ a j<Wqaraq.at_ a i)||decide (Wqaraq.at_ b j<Wqaraq.at_ b i))) i j↔ky a b i j:=by
 unfold Eg ky X
 rw[br,mv,mB,mB,mB]
 lia
theorem HX{R S:Nat->Nat->Prop}(h:∀i j,R i j->S i j){i j:Nat}(t:TC R i j):TC S i j:=by
 induction t with
 |one r=>exact .one (h _ _ r)
 |step r _ ih=>exact .step (h _ _ r) ih
theorem HY(T:Txt K mg):T.tJ.Ok P w base 3 (Q1 T):=by
 have S:=OP
 refine T.tJ.F.ok S (by rintro _ _ _ _ ⟨p,q,a,b,rfl,_⟩;rfl) fun cdv A outer s H vs Q E hr h=>?_
 ·obtain⟨p,q,a,b,rfl,hp,hq,ha,hb,k⟩:=h
  refine⟨_,(aj (sv 2 S.nd (T.vT.c (QS T) hr (aR (pv 0) (pv 1))))
   (aj (dX (T.close.c (QW T) hr (ak (pv 2))))
   (ao (az (iQ (own:=[("i",3)]) rfl S.nd (iL rfl T.cM (ak (aN rfl T.dt))) (fP (by rfl)) (fun _ _ _ _ _=>(eO (i:=3) S.nd rfl (Or.inl rfl))) (fun _ _ _ _ _=>iP) (fun _ _ _ _ _=>(T.vV.c (Q0 T) hr (aR (pv 2) (pv 3))))))))),?_⟩
  refine⟨_,rfl,_,rfl,p,q,a,b,rfl,hp,hq,ha,hb,fun H1 c rs s1 fc fr m=>?_⟩
  have ncr:c∉rs:=fun hm=>by
   obtain⟨j,hj,ej⟩:=xw hm
   have:=m.row j c (by rw[bu hj,ej])
   rw[m.lst]at this
   injection this with this
   injection this with this
   have z0:=bQ (fun l=>l[0]?) this
   rw[qz (by decide)]at z0
   obtain⟨r0,h0,_⟩:=m.ub (i:=0) (by decide)
   simp only [b_,h0]at z0
   cases z0
  refine⟨_,rfl,c,rs,_,rfl,m,ncr,?_,fun H2 M s2 m2 hM=>?_⟩
  ·intro i j h
   rw[br]at h
   exact a0 h.1
  have s12:ag H H2:=fun x o e=>s2 x o (s1 x o e) fun hm=>by rw[fr x hm]at e;cases e
  have hX:∀x y,x<y->y<16->(M x y=true↔X (jn a b) x y):=fun x y h1 h2=>by
   rw[hM x y (by lia) h2]
   exact Iff.trans ⟨HX fun _ _=>HW.mp,HX fun _ _=>HW.mpr⟩ ((pT ha hb).x h2 h1).symm
  dsimp only
  refine a8 (gV ?_)
  refine⟨16,rfl,by decide,by decide,wG (lo:=0) (n:=16) (fun _=>true) (fun i=>V.int ((Wqaraq.at_ (jn a b) i:Nat):Int)) (by decide) ?_ ?_⟩
  ·intro i H3 hi s3 R Nx k1 k2
   refine⟨rfl,yes ?_⟩
   refine⟨_,rfl,_,rfl,c,i,rs,M,?_,hi,⟨s3 _ _ m2.lst,m2.len,m2.nd,fun j r hr=>s3 _ _ (m2.row j r hr)⟩,fun H4 s4=>?_⟩
   ·show [V.ref c,V.int (0+(i:Int))]=_
    rw[Int.zero_add]
   ·have:=k1 rfl H4 s4
    rw[<-Ff (nR ha hb) hi M hX]at this
    exact this
  ·intro H3 D s3 fD h3
   refine k H3 D (s12.trans s3) (s12.free fD) ?_
   rw[h3,tZ,join_eq ha hb]
   have:jn a b=(List.range 16).map (Wqaraq.at_ (jn a b)):=(Ew (nR ha hb).len).symm
   unfold nv
   conv=>rhs;rw[this,dw]
   rfl
noncomputable def Q2(T:Txt K mg):Sp:=fun vs H Q _=>∃(p q:Addr) (a b:Perm),vs=[.ref p,.ref q]/\Ls H p a/\Ls H q b/\aw a/\aw b/\bB H Q (nv (Wqaraq.meetOf a b))
theorem HZ(T:Txt K mg):T.tK.Ok P w base 4 (Q2 T):=by
 have S:=OQ
 refine T.tK.F.ok S (by rintro _ _ _ _ ⟨p,q,a,b,rfl,_⟩;rfl) fun cdv A outer s H vs Q E hr h=>?_
 ·obtain⟨p,q,a,b,rfl,hp,hq,ha,hb,k⟩:=h
  refine⟨_,(aj (sv 2 S.nd (T.l8.c (qy T) hr (ak (aN rfl T.dt))))
   (ao (az (T.kP.c (oT T) hr (aR (T.tJ.c (HY T) hr (aR (T.kP.c (oT T) hr (aR (pv 0) (pv 2))) (T.kP.c (oT T) hr (aR (pv 1) (pv 2))))) (pv 2)))))),?_⟩
  have hd:=(bX (show 16<=16 by lia)).aa
  refine⟨16,rfl,by decide,fun H1 t s1 f1 h1=>?_⟩
  refine⟨_,rfl,_,rfl,p,t,a,_,rfl,s1 _ _ hp,h1,ha,hd,fun H2 x s2 f2 h2=>?_⟩
  refine⟨_,rfl,_,rfl,q,t,b,_,rfl,s2 _ _ (s1 _ _ hq),s2 _ _ h1,hb,hd,fun H3 y s3 f3 h3=>?_⟩
  refine⟨x,y,_,_,rfl,s3 _ _ h2,h3,ha.then_ hd,hb.then_ hd,fun H4 z s4 f4 h4=>?_⟩
  have hj:aw (Wqaraq.joinOf (Wqaraq.then_ a (Wqaraq.delta 16)) (Wqaraq.then_ b (Wqaraq.delta 16))):=by rw[join_eq (ha.then_ hd) (hb.then_ hd)];exact nR (ha.then_ hd) (hb.then_ hd)
  refine⟨_,rfl,z,t,_,_,rfl,h4,s4 _ _ (s3 _ _ (s2 _ _ h1)),hj,hd,fun H5 r s5 f5 h5=>?_⟩
  have s:=((s1.trans s2).trans s3).trans s4
  refine k H5 r (s.trans s5) (s.free f5) ?_
  rw[M3 ha hb,<-join_eq (ha.then_ hd) (hb.then_ hd)]
  exact h5
noncomputable def bp(H:Hp):List Addr->List Perm->Prop
 |[],[]=>True
 |r::rs,f::fs=>Ls H r f/\bp H rs fs
 |_,_=>False
theorem bp.len{H:Hp}:∀{rs:List Addr}{fs:List Perm},bp H rs fs->rs.length=fs.length
 |[],[],_=>rfl
 |[],_::_,h=>h.elim
 |_::_,[],h=>h.elim
 |_::rs,_::fs,h=>bQ (·+1) h.2.len
theorem bp.get{H:Hp}:∀{rs:List Addr}{fs:List Perm}{i:Nat}{f:Perm},bp H rs fs->fs[i]?=some f->∃r,rs[i]?=some r/\Ls H r f
 |[],[],i,f,_,e=>by simp at e
 |[],_::_,_,_,h,_=>h.elim
 |_::_,[],_,_,h,_=>h.elim
 |r::rs,g::fs,0,f,h,e=>⟨r,rfl,by rw[<-bo e];exact h.1⟩
 |r::rs,g::fs,i+1,f,h,e=>h.2.get (i:=i) e
theorem bp.imp{H H':Hp}:∀{rs:List Addr}{fs:List Perm},bp H rs fs->(∀r f,r∈rs->Ls H r f->Ls H' r f)->bp H' rs fs
 |[],[],_,_=>trivial
 |[],_::_,h,_=>h.elim
 |_::_,[],h,_=>h.elim
 |r::rs,f::fs,h,k=>⟨k r f bE h.1,h.2.imp fun r f hr=>k r f (bI _ hr)⟩
theorem bp.same{H H':Hp}{rs:List Addr}{fs:List Perm}(h:bp H rs fs)(s:ag H H'):bp H' rs fs:=h.imp fun _ _ _ e=>s _ _ e
theorem bp.app{H:Hp}:∀{rs:List Addr}{fs:List Perm}{ts:List Addr}{gs:List Perm},bp H rs fs->bp H ts gs->bp H (rs++ts) (fs++gs)
 |[],[],_,_,_,k=>k
 |[],_::_,_,_,h,_=>h.elim
 |_::_,[],_,_,h,_=>h.elim
 |r::rs,f::fs,_,_,h,k=>⟨h.1,h.2.app k⟩
theorem bp.snoc{H:Hp}{rs:List Addr}{fs:List Perm}{r:Addr}{f:Perm}(h:bp H rs fs)(k:Ls H r f):bp H (rs++[r]) (fs++[f]):=h.app ⟨k,trivial⟩
theorem bp.set{H:Hp}:∀{rs:List Addr}{fs:List Perm}{i:Nat}{r:Addr}{f:Perm},bp H rs fs->Ls H r f->bp H (rs.set i r) (fs.set i f)
 |[],[],_,_,_,_,_=>trivial
 |[],_::_,_,_,_,h,_=>h.elim
 |_::_,[],_,_,_,h,_=>h.elim
 |_::_,_::_,0,_,_,h,k=>⟨k,h.2⟩
 |_::_,_::_,i+1,_,_,h,k=>⟨h.1,h.2.set k⟩
theorem bp.take{H:Hp}:∀{rs:List Addr}{fs:List Perm} (n:Nat),bp H rs fs->bp H (rs.take n) (fs.take n)
 |[],[],n,_=>by rw[List.take_nil,List.take_nil];trivial
 |[],_::_,_,h=>h.elim
 |_::_,[],_,h=>h.elim
 |_::_,_::_,0,_=>trivial
 |_::_,_::_,n+1,h=>⟨h.1,h.2.take n⟩
theorem bp.drop{H:Hp}:∀{rs:List Addr}{fs:List Perm} (n:Nat),bp H rs fs->bp H (rs.drop n) (fs.drop n)
 |[],[],n,_=>by rw[List.drop_nil,List.drop_nil];trivial
 |[],_::_,_,h=>h.elim
 |_::_,[],_,h=>h.elim
 |_::_,_::_,0,h=>h
 |_::_,_::_,n+1,h=>h.2.drop n
theorem bp.erase{H:Hp}:∀{rs:List Addr}{fs:List Perm} (i:Nat),bp H rs fs->bp H (rs.eraseIdx i) (fs.eraseIdx i)
 |[],[],i,_=>trivial
 |[],_::_,_,h=>h.elim
 |_::_,[],_,h=>h.elim
 |_::_,_::_,0,h=>h.2
 |_::_,_::_,i+1,h=>⟨h.1,h.2.erase i⟩
theorem bp.ne{H:Hp}{L:Addr}{qs:List V}:∀{rs:List Addr}{fs:List Perm},bp H rs fs->(∀f,f∈fs->f.length=16)->H L=some (.lst qs)->(∀z,qs[0]?≠some (.int z))->L∉rs
 |[],[],_,_,_,_=>fun h=>by cases h
 |[],_::_,h,_,_,_=>h.elim
 |_::_,[],h,_,_,_=>h.elim
 |r::rs,f::fs,h,k,hL,z=>fun hm=>by
  rcases bY.mp hm with e|e
  ·have h1:=h.1
   have l:=k f bE
   rw[<-e]at h1
   have h1:H L=_:=h1
   rw[hL]at h1
   injection h1 with h1
   injection h1 with h1
   refine z _ (by rw[h1];exact kT (by lia))
  ·exact h.2.ne (fun f hf=>k f (bI _ hf)) hL z e
theorem j_(rs:List Addr):∀z,(rs.map V.ref)[0]?≠some (.int z):=fun z h=>by
 rw[b_]at h
 cases q:rs[0]? with
 |none=>rw[q]at h;cases h
 |some r=>rw[q]at h;cases h
structure bc(H:Hp)(L:Addr)(rs:List Addr)(fs:List Perm):Prop where
 lst:H L=some (.lst (rs.map V.ref))
 aI:bp H rs fs
theorem bc.md{H:Hp}{L:Addr}{rs:List Addr}{fs:List Perm}(h:bc H L rs fs)(k:∀f,f∈fs->f.length=16):L∉rs:=h.aI.ne k h.lst (j_ rs)
noncomputable def bq(L:Addr)(H H':Hp):Prop:=∀b o,H b=some o->b≠L->H' b=some o
theorem bq.aI{L:Addr}{H H':Hp}{rs:List Addr}{fs:List Perm}(s:bq L H H')(h:bp H rs fs)(n:L∉rs):bp H' rs fs:=h.imp fun r f hr e=>s _ _ e fun z=>n (by rw[<-z];exact hr)
theorem bq.trans{L:Addr}{H H1 H2:Hp}(s:bq L H H1)(t:bq L H1 H2):bq L H H2:=fun b o e n=>t b o (s b o e n) n
theorem ag.but{L:Addr}{H H':Hp}(s:ag H H'):bq L H H':=fun b o e _=>s b o e
theorem mh{n:Nat}{l:List Perm}(h:ah n l):∀f,f∈l->f.length=16:=fun f hf=>(h f hf).aa.len
noncomputable def Q3(T:Txt K mg):Sp:=fun vs H Q _=>∃(n:Nat) (p:Addr) (a:Perm) (k:Int),vs=[.int n,.ref p,.int k]/\n<=16/\Ls H p a/\Rt n a/\∀(H':Hp) (r:Addr),ag H H'->Ls H' r (bC n k a)->Q (.ref r) H'
theorem Cq(T:Txt K mg):T.qr.Ok P w base 2 (Q3 T):=by
 have S:=Ox
 refine T.qr.F.ok S (by rintro _ _ _ _ ⟨n,p,a,k,rfl,_⟩;rfl) fun cdv A outer s H vs Q E hr h=>?_
 ·obtain⟨n,p,a,k,rfl,hn,hp,ha,q⟩:=h
  refine⟨_,(ao (az (gM (a5 nu (aC pJ (pv 2) aq) aq) (T.qm.c (Ck T) hr (aR (pv 0) (pv 1))) (pv 1)))),?_⟩
  refine⟨_,rfl,_,_,rfl,rfl,by show (0:Int)<2;decide,rfl,_,rfl,?_⟩
  refine aS (fun c=>?_) (fun c=>?_)
  ·have c:=a0 c
   injection c with c
   refine⟨_,rfl,_,rfl,n,p,a,rfl,hn,hp,ha,fun H1 r s1 f1 h1=>q H1 r s1 ?_⟩
   unfold bC;rw[af c];exact h1
  ·have c:=a_ c
   refine⟨_,rfl,q H p (ag.refl _) ?_⟩
   unfold bC;rw[ae (fun z=>c (bQ V.int z))];exact hp
noncomputable def Q4(T:Txt K mg):Sp:=fun vs H Q _=>∃(p:Addr) (a:Perm),vs=[.ref p]/\Ls H p a/\Val H Q (.bl (decide (a=Wqaraq.still)))
theorem wJ(T:Txt K mg):T.oh.Ok P w base 1 (Q4 T):=by
 have S:=Oy
 refine T.oh.F.ok S (by rintro _ _ _ _ ⟨p,a,rfl,_⟩;rfl) fun cdv A outer s H vs Q E hr h=>?_
 ·obtain⟨p,a,rfl,hp,k⟩:=h
  refine⟨_,(ao (az (jD (pN hr.units) (pv 0) (gO (j8 rfl) rfl T.gF k9 (ak (mV rfl T.cM (ak (aN rfl T.dt)))))))),?_⟩
  refine a8 (iq ⟨_,rfl,tW fun H1 r s1 f1 h1=>?_⟩)
  exact Cc (s1 _ _ hp) h1 (k H1 s1)
noncomputable def Q5(T:Txt K mg):Sp:=fun vs H Q _=>∃(L:Addr) (rs:List Addr) (fs:List Perm) (i n:Nat) (a b:Perm),vs=[.ref L,.int (i+1:Nat)]/\n<=16/\bc H L rs fs/\ah n fs/\fs[i]?=some a/\fs[i+1]?=some b/\
 (hand n a b=Wqaraq.still->Val H Q (.bl false))/\
 (hand n a b≠Wqaraq.still->∀(H':Hp) (rs':List Addr),bq L H H'->bc H' L rs' ((fs.set i (Wqaraq.then_ a (hand n a b))).set (i+1) (Wqaraq.then_ (Wqaraq.back (hand n a b)) b))->Q (.bl true) H')
theorem H0{a:List Nat}{i:Nat}(h:i<a.length):a.set i (Wqaraq.at_ a i)=a:=by
 refine List.ext_getElem? fun j=>?_
 rw[rd]
 by_cases e:i=j
 ·subst e
  rw[af rfl,af h,bu h,kH h]
 ·rw[ae e]
theorem H_(T:Txt K mg):T.tE.Ok P w base 2 (Q5 T):=by
 have S:=Oz
 refine T.tE.F.ok S (by rintro _ _ _ _ ⟨L,rs,fs,i,n,a,b,rfl,_⟩;rfl) fun cdv A outer s H vs Q E hr h=>?_
 ·obtain⟨L,rs,fs,i,n,a,b,rfl,hn,hL,hR,ea,eb,k0,k1⟩:=h
  refine⟨_,(aj (sv 2 S.nd (T.kQ.c (oU T) hr (ak (aM (pv 0) (aC cE (pv 1) aq)))))
   (aj (sv 3 S.nd (gO uS rfl T.gF (by decide+kernel) (ak (aM (pv 0) (pv 1)))))
   (aj (dh PassesOwn.never rfl (rH rfl T.cM (aR aq (aN rfl T.dt))) (gn 4 S.nd) (aj (sv 5 S.nd (aM (pv 2) (pv 4)))
   (aj (sv 6 S.nd (aM (pv 3) (pv 4)))
   (aj (sv 7 S.nd (pv 4))
   (aj (jM PassesOwn.never (PW.pt (lC (a5 eQ (pv 7) aq) (lC (a5 gC (aM (pv 2) (aC cE (pv 7) aq)) (pv 5)) (pG (a5 eQ (aM (pv 3) (aC cE (pv 7) aq)) (pv 6)))))) (aj (fI (aM (pv 2) (aC cE (pv 7) aq)) (fH (pv 2) (pv 7) set_list))
   (aj (fI (aM (pv 3) (aC cE (pv 7) aq)) (fH (pv 3) (pv 7) set_list))
   (ao (sv 7 S.nd (aC cE (pv 7) aq))))))
   (aj (fI (pv 5) (fH (pv 2) (pv 7) set_list))
   (ao (fI (pv 6) (fH (pv 3) (pv 7) set_list)))))))))
   (aj (bt (a5 (pN hr.units) (pv 3) (aM (pv 0) (pv 1))) (ao (az kj)) bx)
   (aj (fI (T.kQ.c (oU T) hr (ak (pv 2))) (fH (pv 0) (aC cE (pv 1) aq) set_list))
   (aj (fI (pv 3) (fH (pv 0) (pv 1) set_list))
   (ao (az kj)))))))),?_⟩
  have ha:Rt n a:=hR a (m_ ea)
  have hb:Rt n b:=hR b (m_ eb)
  obtain⟨ra,hra,la⟩:=hL.aI.get ea
  obtain⟨rb,hrb,lb⟩:=hL.aI.get eb
  have il:i+1<fs.length:=(dW.mp eb).1
  have rl:=hL.aI.len
  have e1:((i+1:Nat):Int) - 1=(i:Int):=by lia
  refine⟨_,rfl,_,rfl,_,_,rfl,rfl,L,_,_,_,rfl,rfl,ai.of hL.lst,gv e1 hra,ra,a,rfl,la,ha.aa,fun H1 p s1 fp h1=>?_⟩
  refine⟨_,rfl,_,rfl,L,_,_,_,rfl,rfl,ai.of (s1 _ _ hL.lst),gv rfl hrb,rb,_,rfl,.inl (ai.of (s1 _ _ lb)),fun q fq=>?_⟩
  have npq:p≠q:=a7 h1 fq
  have fq0:H q=none:=s1.free fq
  have st:=M_ hn (b:=b) ha
  refine⟨1,16,rfl,by lia,je (lo:=1) (n:=((16:Int) - 1).toNat) (fun t σ H'=>∃(v4 v5 v6 v7:Option V) (m:Perm),σ=[some (.ref L),some (.int (i+1:Nat)),some (.ref p),some (.ref q),v4,v5,v6,v7]/\ag H H'/\kI n a b m/\Ls H' p (Wqaraq.back (Wqaraq.then_ a m))/\Ls H' q (Wqaraq.then_ (Wqaraq.back m) b)/\∀j,j<t->ig (Wqaraq.back (Wqaraq.then_ a m)) (Wqaraq.then_ (Wqaraq.back m) b) j)
   ⟨none,none,none,none,Wqaraq.still,rfl,s1.upd fq0,st,?_,?_,fun j hj=>by lia⟩ ?_ ?_⟩
  ·rw[dH ha.aa]
   exact(ax npq).trans h1
  ·rw[show Wqaraq.back Wqaraq.still=Wqaraq.still by decide,gg hb.aa]
   exact au
  ·intro t σ H' ht hq;obtain ⟨v4,v5,v6,v7,m,rfl,s,hov,hp,hq,ok⟩:=hq
   have ht:t<15:=by lia
   have pA:aw (Wqaraq.back (Wqaraq.then_ a m)):=(ha.aa.then_ hov.rt.aa).back
   have pB:aw (Wqaraq.then_ (Wqaraq.back m) b):=hov.rt.aa.back.then_ hb.aa
   have et:(1:Int)+(t:Int)=((t+1:Nat):Int):=by lia
   generalize hsrc:Wqaraq.at_ (Wqaraq.back (Wqaraq.then_ a m)) (t+1)=src at *
   generalize hgl:Wqaraq.at_ (Wqaraq.then_ (Wqaraq.back m) b) (t+1)=gl at *
   refine⟨_,rfl,_,rfl,p,_,_,_,rfl,rfl,ai.of hp,c8 et (by rw[pA.len];lia),?_⟩
   rw[hsrc]
   refine⟨_,rfl,_,rfl,q,_,_,_,rfl,rfl,ai.of hq,c8 et (by rw[pB.len];lia),?_⟩
   rw[hgl]
   refine⟨_,rfl,?_⟩
   refine⟨fun mm σ H'=>∃(to:Nat) (m:Perm) (Ar Lr:List Nat),mm=to/\σ=[some (.ref L),some (.int (i+1:Nat)),some (.ref p),some (.ref q),some (.int (1+t)),some (.int src),some (.int gl),some (.int to)]/\ag H H'/\kI n a b m/\Ls H' p Ar/\Ls H' q Lr/\Ar.length=16/\Lr.length=16/\Ar.set to src=Wqaraq.back (Wqaraq.then_ a m)/\Lr.set to gl=Wqaraq.then_ (Wqaraq.back m) b/\kJ (Wqaraq.back (Wqaraq.then_ a m)) (Wqaraq.then_ (Wqaraq.back m) b) (t+1) to,
    ⟨t+1,t+1,m,_,_,rfl,by rw[<-et];rfl,s,hov,hp,hq,pA.len,pB.len,by rw[<-hsrc];exact H0 (by rw[pA.len];lia),by rw[<-hgl];exact H0 (by rw[pB.len];lia),kJ.start fun j hj=>ok j (by lia)⟩,?_⟩
   intro to σ H2 hq;obtain ⟨to',m2,Ar,Lr,rfl,rfl,s2,hov2,hp2,hq2,al,ll,eA,eL,inn⟩:=hq
   have tle:=inn.le
   have pA2:aw (Wqaraq.back (Wqaraq.then_ a m2)):=(ha.aa.then_ hov2.rt.aa).back
   have pB2:aw (Wqaraq.then_ (Wqaraq.back m2) b):=hov2.rt.aa.back.then_ hb.aa
   have atA:∀j,Wqaraq.at_ (Wqaraq.back (Wqaraq.then_ a m2)) j=if j=to then src else Wqaraq.at_ Ar j:=fun j=>by rw[<-eA];exact j2 (by lia)
   have atL:∀j,Wqaraq.at_ (Wqaraq.then_ (Wqaraq.back m2) b) j=if j=to then gl else Wqaraq.at_ Lr j:=fun j=>by rw[<-eL];exact j2 (by lia)
   have after:(0<to->ig (Wqaraq.back (Wqaraq.then_ a m2)) (Wqaraq.then_ (Wqaraq.back m2) b) (to - 1))->
     ∃(v4 v5 v6 v7:Option V) (m:Perm),[some (V.ref L),some (.int (i+1:Nat)),some (.ref p),some (.ref q),some (.int (1+t)),some (.int src),some (.int gl),some (.int to)]=[some (.ref L),some (.int (i+1:Nat)),some (.ref p),some (.ref q),v4,v5,v6,v7]/\ag H (upd (upd H2 p (.lst ((nv Ar).set to (.int src)))) q (.lst ((nv Lr).set to (.int gl))))/\kI n a b m/\Ls (upd (upd H2 p (.lst ((nv Ar).set to (.int src)))) q (.lst ((nv Lr).set to (.int gl)))) p (Wqaraq.back (Wqaraq.then_ a m))/\Ls (upd (upd H2 p (.lst ((nv Ar).set to (.int src)))) q (.lst ((nv Lr).set to (.int gl)))) q (Wqaraq.then_ (Wqaraq.back m) b)/\∀j,j<t+1->ig (Wqaraq.back (Wqaraq.then_ a m)) (Wqaraq.then_ (Wqaraq.back m) b) j:=fun hk=>by
    refine⟨_,_,_,_,m2,rfl,fun x o e=>?_,hov2,?_,?_,inn.done hk⟩
    ·rw[ax (a7 e fq0),ax (a7 e fp)];exact s2 x o e
    ·refine(ax npq).trans (au.trans ?_)
     rw[l_,eA]
    ·refine au.trans ?_
     rw[l_,eL]
   refine⟨_,rfl,_,_,rfl,rfl,_,rfl,?_⟩
   refine aS (fun c1=>?_) (fun c1=>?_)
   ·have c1:(0:Int)<(to:Int):=a0 c1
    have em:(to:Int) - 1=((to - 1:Nat):Int):=by lia
    have aA:=atA (to - 1)
    have aA2:=atA to
    have aL:=atL (to - 1)
    have aL2:=atL to
    rw[ae (by lia)]at aA aL
    rw[af rfl]at aA2 aL2
    refine⟨_,rfl,_,rfl,_,_,rfl,rfl,p,_,_,_,rfl,rfl,ai.of hp2,c8 em (by lia),_,rfl,_,_,rfl,rfl,_,rfl,?_⟩
    refine aS (fun c2=>?_) (fun c2=>?_)
    ·have c2:=eK.mp (a0 c2)
     refine⟨_,rfl,_,rfl,_,_,rfl,rfl,q,_,_,_,rfl,rfl,ai.of hq2,c8 em (by lia),_,rfl,_,_,rfl,rfl,_,rfl,?_⟩
     refine aS (fun c3=>?_) (fun c3=>?_)
     ·have c3:=eK.mp (a0 c3)
      refine⟨fun σ' H'=>∃m',m'<to/\∃(to:Nat) (m:Perm) (Ar Lr:List Nat),m'=to/\σ'=[some (.ref L),some (.int (i+1:Nat)),some (.ref p),some (.ref q),some (.int (1+t)),some (.int src),some (.int gl),some (.int to)]/\ag H H'/\kI n a b m/\Ls H' p Ar/\Ls H' q Lr/\Ar.length=16/\Lr.length=16/\Ar.set to src=Wqaraq.back (Wqaraq.then_ a m)/\Lr.set to gl=Wqaraq.then_ (Wqaraq.back m) b/\kJ (Wqaraq.back (Wqaraq.then_ a m)) (Wqaraq.then_ (Wqaraq.back m) b) (t+1) to,fun σ' H' h=>h,?_⟩
      refine⟨_,rfl,_,rfl,_,_,rfl,rfl,p,_,_,_,rfl,rfl,ai.of hp2,c8 em (by lia),_,rfl,_,rfl,p,_,_,to,rfl,rfl,hp2,d8 rfl (by rw[cK];lia),?_⟩
      refine⟨_,rfl,_,rfl,_,_,rfl,rfl,q,_,_,_,rfl,rfl,ai.of ((ax (fun z=>npq z.symm)).trans hq2),c8 em (by lia),_,rfl,_,rfl,q,_,_,to,rfl,rfl,(ax (fun z=>npq z.symm)).trans hq2,d8 rfl (by rw[cK];lia),?_⟩
      refine⟨_,rfl,_,_,rfl,rfl,?_⟩
      have hs:=hov2.step hn ha hb (i:=to - 1) (by lia) (by rw[show to - 1+1=to by lia,aA,aA2];exact c2) (by rw[show to - 1+1=to by lia,aL,aL2];exact c3)
      refine⟨to - 1,by lia,to - 1,Wqaraq.then_ m2 (Wqaraq.single (to - 1)),Ar.set to (Wqaraq.at_ Ar (to - 1)),Lr.set to (Wqaraq.at_ Lr (to - 1)),rfl,by rw[<-em];rfl,fun x o e=>?_,hs.1,?_,?_,by rw[gw];exact al,by rw[gw];exact ll,?_,?_,?_⟩
      ·rw[ax (a7 e fq0),ax (a7 e fp)];exact s2 x o e
      ·refine(ax npq).trans (au.trans ?_)
       rw[l_]
      ·refine au.trans ?_
       rw[l_]
      ·rw[Fv al (by lia) (by lia),eA,hs.2.1]
      ·rw[Fv ll (by lia) (by lia),eL,hs.2.2]
      ·rw[hs.2.1,hs.2.2]
       exact inn.step (by lia) (by lia) (by rw[aA,aA2];exact c2)
     ·have c3:¬gl<Wqaraq.at_ Lr (to - 1):=fun z=>a_ c3 (eK.mpr z)
      refine⟨_,rfl,_,rfl,_,rfl,p,_,_,to,rfl,rfl,hp2,d8 rfl (by rw[cK];lia),_,rfl,_,rfl,_,rfl,q,_,_,to,rfl,rfl,(ax (fun z=>npq z.symm)).trans hq2,d8 rfl (by rw[cK];lia),after fun _=>?_⟩
      unfold ig
      rw[show to - 1+1=to by lia,aL,aL2]
      exact fun z=>c3 z.2
    ·have c2:¬Wqaraq.at_ Ar (to - 1)<src:=fun z=>a_ c2 (eK.mpr z)
     refine dN ?_
     refine⟨_,rfl,_,rfl,_,rfl,p,_,_,to,rfl,rfl,hp2,d8 rfl (by rw[cK];lia),_,rfl,_,rfl,_,rfl,q,_,_,to,rfl,rfl,(ax (fun z=>npq z.symm)).trans hq2,d8 rfl (by rw[cK];lia),after fun _=>?_⟩
     unfold ig
     rw[show to - 1+1=to by lia,aA,aA2]
     exact fun z=>c2 z.1
   ·have c1:¬(0:Int)<(to:Int):=a_ c1
    refine dN ?_
    exact⟨_,rfl,_,rfl,_,rfl,p,_,_,to,rfl,rfl,hp2,d8 rfl (by rw[cK];lia),_,rfl,_,rfl,_,rfl,q,_,_,to,rfl,rfl,(ax (fun z=>npq z.symm)).trans hq2,d8 rfl (by rw[cK];lia),after fun z=>by lia⟩
  ·intro σ H' hq;obtain ⟨v4,v5,v6,v7,m,rfl,s,hov,hp,hq,ok⟩:=hq
   have hm:hand n a b=m:=hov.done hn ha hb fun j hj=>ok j (by lia)
   have pAm:=ha.aa.then_ hov.rt.aa
   refine⟨_,rfl,_,rfl,_,rfl,L,_,_,_,rfl,rfl,ai.of (s _ _ hL.lst),gv rfl hrb,Cc hq (s _ _ lb) ?_⟩
   refine⟨_,rfl,?_⟩
   refine aS (fun c=>?_) (fun c=>?_)
   ·have c:=a0 c
    refine k0 ?_ H' s
    rw[hm]
    have:=dk hov.rt.aa hb.aa
    rw[c]at this
    have z:Wqaraq.then_ m (Wqaraq.then_ b (Wqaraq.back b))=Wqaraq.then_ b (Wqaraq.back b):=by rw[<-then_assoc hov.rt.aa,this]
    rwa[jV hb.aa,dH hov.rt.aa]at z
   ·have c:=a_ c
    have nm:hand n a b≠Wqaraq.still:=fun z=>c (by
     rw[<-hm,z,show Wqaraq.back Wqaraq.still=Wqaraq.still by decide,gg hb.aa])
    refine⟨_,rfl,p,_,rfl,hp,pAm.back,fun H2 r s2 fr h2=>?_⟩
    rw[Ex pAm]at h2
    have s02:=s.trans s2
    have hL2:=s02 _ _ hL.lst
    refine⟨_,rfl,_,rfl,_,_,rfl,rfl,L,_,_,i,rfl,rfl,hL2,d8 e1 (by rw[aE];lia),?_⟩
    refine⟨_,rfl,_,rfl,_,rfl,L,_,_,i+1,rfl,rfl,au,d8 rfl (by rw[gw,aE];lia),?_⟩
    refine k1 nm _ ((rs.set i r).set (i+1) q) (fun x o e hx=>by rw[ax hx,ax hx];exact s02 x o e) ⟨?_,?_⟩
    ·rw[au,List.map_set,List.map_set]
    ·have nL:=hL.md (mh hR)
     have rL:r≠L:=fun z=>by rw[z,s _ _ hL.lst]at fr;cases fr
     have qL:q≠L:=fun z=>by rw[z,s1 _ _ hL.lst]at fq;cases fq
     rw[hm]
     refine bp.set (bp.set (hL.aI.imp fun x f hx e=>?_) ?_) ?_
     ·have:x≠L:=fun z=>nL (by rw[<-z];exact hx)
      exact(ax this).trans ((ax this).trans (s02 _ _ e))
     ·exact(ax rL).trans ((ax rL).trans h2)
     ·exact(ax qL).trans ((ax qL).trans (s2 _ _ hq))
theorem iw{t:TS}{D:Ends}{σ:L2.St}{H:Hp}(Fin:L2.St->Hp->Prop)(tail:∀σ H,Fin σ H->D.nx σ H)(main:(∀σ H,Fin σ H->D.nx σ H)->t D σ H):t D σ H:=main tail
theorem Ia{α:Type}(l m:List α)(a b x y:α):((l++a::b::m).set l.length x).set (l.length+1) y=l++x::y::m:=by
 rw[List.set_append_right _ _ (aX _),o9]
 rw[List.set_append_right _ _ (by lia),show l.length+1 - l.length=1 by lia]
 rfl
theorem kW{α:Type}(l m:List α)(a:α):(l++a::m)[l.length]?=some a:=by
 rw[oZ (aX _),o9];rfl
theorem Ib{α:Type}(l m:List α)(a b:α):(l++a::b::m)[l.length+1]?=some b:=by
 rw[oZ (by lia),show l.length+1 - l.length=1 by lia];rfl
theorem Ic:∀(rs:List Addr) (i:Nat),(rs.map V.ref).eraseIdx i=(rs.eraseIdx i).map V.ref
 |[],_=>rfl
 |_::_,0=>rfl
 |r::rs,i+1=>bQ (V.ref r::·) (Ic rs i)
noncomputable def Q6(T:Txt K mg):Sp:=fun vs H Q _=>∃(n:Nat) (L f:Addr) (rs:List Addr) (l:List Perm) (c:Perm),vs=[.int n,.ref L,.ref f]/\2<=n/\n<=16/\bc H L rs l/\ah n l/\l.length<=50000/\Ls H f c/\Rt n c/\
 ∀(H':Hp) (rs':List Addr),bq L H H'->bc H' L rs' (cJ n 0 (cu n l.reverse c [])).factors->Q (.int (cJ n 0 (cu n l.reverse c [])).twists) H'
theorem Q7{n:Nat}{r s:List Perm}:cu n r (Wqaraq.delta n) s=(r,Wqaraq.delta n,s):=by
 cases r with
 |nil=>rfl
 |cons a r=>unfold cu;rw[af rfl]
theorem Q8{n:Nat}{r s:List Perm}{a c:Perm}(h1:c≠Wqaraq.delta n)(h:hand n a c=Wqaraq.still):cu n (a::r) c s=(a::r,c,s):=by
 unfold cu;rw[ae h1,af h]
theorem Q9{n:Nat}{r s:List Perm}{a c:Perm}(h1:c≠Wqaraq.delta n)(h:hand n a c≠Wqaraq.still):cu n (a::r) c s=cu n r (Wqaraq.then_ a (hand n a c)) (Wqaraq.then_ (Wqaraq.back (hand n a c)) c::s):=by
 rw[cu,ae h1,ae h]
theorem Cr{α:Type}(l:List α)(a:α):gP (l++[a]) (-1)=some a:=Lg l a
theorem Ie(T:Txt K mg):T.kK.Ok P w base 3 (Q6 T):=by
 have S:=OA
 refine T.kK.F.ok S (by rintro _ _ _ _ ⟨n,L,f,rs,l,c,rfl,_⟩;rfl) fun cdv A outer s H vs Q E hr h=>?_
 ·obtain⟨n,L,f,rs,l,c,rfl,n2,hn,hL,hR,hl,hf,hc,k⟩:=h
  refine⟨_,(aj (sv 3 S.nd (T.l8.c (qy T) hr (ak (pv 0))))
   (aj (dX (j9 (pv 1) (pv 2)))
   (aj (sv 4 S.nd (aC cE (c9 T.cZ (pv 1)) aq))
   (aj (jM PassesOwn.never (PW.pt (lC (a5 (LN hr.units) (aM (pv 1) (pv 4)) (pv 3)) (lC (a5 eQ (pv 4) aq) (pG (cw (T.tE.c (H_ T) hr (aR (pv 1) (pv 4)))))))) (ao (sv 4 S.nd (aC cE (pv 4) aq))))
   (aj (sv 5 S.nd (jD (pN hr.units) (aM (pv 1) (pv 4)) (pv 3)))
   (aj (bt (cw (pv 5)) (aj (dX (uT xx PySem.F.slot_list_pop PySem.F.type_list_pop DW (pv 1) (ak (pv 4))))
   (ao (dh PassesOwn.never rfl (iL rfl T.cM (ak (pv 4))) (gn 6 S.nd) (ao (fI (T.qm.c (Ck T) hr (aR (pv 0) (aM (pv 1) (pv 6)))) (fH (pv 1) (pv 6) set_list)))))) bx)
   (aj (bt (PW.pt (lC (a5 eQ (c9 T.cZ (pv 1)) aq) (pG (cw (T.oh.c (wJ T) hr (ak (aM (pv 1) (iM iN aq)))))))) (ao (dX (Lu xx PySem.F.slot_list_pop PySem.F.type_list_pop LA (pv 1)))) bx)
   (ao (az (gM (cw (pv 5)) aq aq)))))))))),?_⟩
  have nL:=hL.md (mh hR)
  have fL:f≠L:=fun z=>by
   have:=hf
   rw[z]at this
   have h1:H L=_:=this
   rw[hL.lst]at h1
   injection h1 with h1
   injection h1 with h1
   exact j_ rs _ (by rw[h1];exact kT (by rw[hc.aa.len];decide))
  refine⟨_,rfl,n,rfl,hn,fun H1 t s1 f1 h1=>?_⟩
  have tL:t≠L:=fun z=>by rw[z,hL.lst]at f1;cases f1
  refine⟨_,rfl,.inl ⟨rfl,_,ai.of (s1 _ _ hL.lst)⟩,_,rfl,L,_,_,rfl,rfl,s1 _ _ hL.lst,small (by rw[aE,hL.aI.len];lia),?_⟩
  refine⟨_,rfl,L,_,rfl,.inl (ai.of au),_,_,rfl,rfl,?_⟩
  have b1:bq L H (upd H1 L (.lst (rs.map V.ref++[V.ref f]))):=fun b o e hb=>by rw[ax hb];exact s1 b o e
  have F1:bc (upd H1 L (.lst (rs.map V.ref++[V.ref f]))) L (rs++[f]) (l++[c]):=by
   refine⟨by rw[au,cQ];rfl,bp.snoc (b1.aI hL.aI nL) ?_⟩
   exact(ax fL).trans (s1 _ _ hf)
  have t1:Ls (upd H1 L (.lst (rs.map V.ref++[V.ref f]))) t (Wqaraq.delta n):=(ax tL).trans h1
  have el:(((rs.map V.ref++[V.ref f]).length:Nat):Int) - 1=(l.length:Int):=by rw[bF,aE,hL.aI.len];simp
  dsimp only [dy]
  rw[el]
  generalize upd H1 L (.lst (rs.map V.ref++[V.ref f]))=H2 at *
  generalize hZ:cu n l.reverse c []=Z at *
  have hRc:ah n (l++[c]):=ah.append hR (ah.cons hc ah.nil)
  refine aQ (iw (fun σ H'=>∃(rs':List Addr),σ=[some (.int n),some (.ref L),some (.ref f),some (.ref t),some (.int Z.1.length),none,none]/\bq L H H'/\bc H' L rs' (Z.1.reverse++Z.2.1::Z.2.2)/\ah n (Z.1.reverse++Z.2.1::Z.2.2)/\Ls H' t (Wqaraq.delta n)/\(Z.1.reverse++Z.2.1::Z.2.2).length<=50001) ?_ ?_)
  ·obtain⟨r,cc,s⟩:=Z
   intro σ H3 hq;obtain ⟨rs',rfl,b3,F3,R3,t3,l3⟩:=hq
   dsimp only at F3 R3 l3 ⊢
   have gc:(r.reverse++cc::s)[r.length]?=some cc:=by rw[<-cN];exact kW _ _ _
   obtain⟨pc,hpc,lc⟩:=F3.aI.get gc
   refine aQ (bz (iq ?_))
   refine⟨_,rfl,_,rfl,L,_,_,_,rfl,rfl,ai.of F3.lst,gv rfl hpc,_,rfl,Cc lc t3 ?_⟩
   dsimp only [dy]
   have nL3:=F3.md (mh R3)
   refine aQ (iw (fun σ H'=>∃(rs4:List Addr) (X:List Perm) (v4 v6:Option V),σ=[some (.int n),some (.ref L),some (.ref f),some (.ref t),v4,some (.bl (decide (cc=Wqaraq.delta n))),v6]/\bq L H H'/\bc H' L rs4 X/\ah n X/\X.length<=50001/\cJ n 0 (r,cc,s)=⟨if cc=Wqaraq.delta n then 1 else 0,trim X⟩) ?_ ?_)
   ·intro σ H4 hq;obtain ⟨rs4,X,v4,v6,rfl,b4,F4,R4,l4,ek⟩:=hq
    dsimp only
    have l4r:rs4.length=X.length:=F4.aI.len
    have fin2:∀(H5:Hp) (rs5:List Addr),bq L H H5->bc H5 L rs5 (trim X)->jL (Dc (tB (cO 5)) (tC (V.int 1)) (tC (V.int 0))) {nx:=fun x H'=>Q V.aW H',rt:=Q} [some (.int n),some (.ref L),some (.ref f),some (.ref t),v4,some (.bl (decide (cc=Wqaraq.delta n))),v6] H5:=by
     intro H5 rs5 b5 F5
     have kk:=k H5 rs5 b5
     rw[ek]at kk
     have kk:=kk F5
     refine⟨_,rfl,_,rfl,?_⟩
     refine aS (fun c=>?_) (fun c=>?_)
     ·rw[af (a0 c)]at kk;exact kk
     ·rw[ae (a_ c)]at kk;exact kk
    refine aQ (dI (HH ?_))
    refine⟨_,rfl,L,_,rfl,.inl (ai.of F4.lst),_,_,rfl,rfl,_,rfl,?_⟩
    rcases xt X with e|⟨Y,y,e⟩
    ·refine aS (fun c=>?_) (fun c=>?_)
     ·have c:(0:Int)<((rs4.map V.ref).length:Nat):=a0 c
      rw[aE,l4r,e]at c
      exact absurd c (by decide)
     ·refine dN ?_
      refine fin2 H4 rs4 b4 ?_
      rw[e]at F4 ⊢
      exact F4
    ·rw[xu]at e
     subst e
     have gy:(Y++[y])[Y.length]?=some y:=kW _ _ _
     obtain⟨py,hpy,ly⟩:=F4.aI.get gy
     have rl:rs4.length=Y.length+1:=by rw[l4r,bF];rfl
     obtain⟨ry,er⟩:∃ry,rs4=ry++[py]:=by
      refine⟨rs4.take Y.length,?_⟩
      have:=List.take_append_drop Y.length rs4
      rw[pk (by lia),rk (by lia)]at this
      rw[bu (by lia)]at hpy
      rw[bo hpy]at this
      exact this.symm
     subst er
     have ryl:ry.length=Y.length:=by simpa using rl
     refine aS (fun c=>?_) (fun c=>?_)
     ·refine⟨_,rfl,_,rfl,L,_,_,_,rfl,rfl,ai.of F4.lst,by rw[cQ];exact Cr _ _,py,y,rfl,ly,fun H5 s5=>?_⟩
      refine⟨_,rfl,?_⟩
      have F5:bc H5 L (ry++[py]) (Y++[y]):=⟨s5 _ _ F4.lst,F4.aI.same s5⟩
      refine aS (fun c2=>?_) (fun c2=>?_)
      ·have c2:=a0 c2
       have F5l:H5 L=some (.lst (ry.map V.ref++[V.ref py])):=by rw[F5.lst,cQ];rfl
       refine⟨_,rfl,.inl ⟨rfl,_,ai.of F5l⟩,L,_,V.ref py,rfl,rfl,F5l,?_,?_⟩
       ·rw[bF,o3,Nat.add_sub_cancel];exact kW _ _ _
       ·refine fin2 _ ry (fun b o e hb=>by rw[ax hb];exact s5 b o (b4 b o e hb)) ?_
        rw[sR,af c2]
        have nLy:=F5.md (mh R4)
        refine⟨by rw[au,xp],?_⟩
        have:=(F5.aI.take Y.length)
        rw[List.take_left' ryl,List.take_left' rfl]at this
        refine this.imp fun r f hr e=>?_
        have:r≠L:=fun z=>nLy (by rw[<-z];exact jF _ hr)
        exact(ax this).trans e
      ·have c2:=a_ c2
       refine fin2 H5 (ry++[py]) (b4.trans (ag.but s5)) ?_
       rw[sR,ae c2]
       exact F5
     ·have c:¬(0:Int)<(((ry++[py]).map V.ref).length:Nat):=a_ c
      rw[aE,bF,o3]at c
      lia
   ·intro fin
    refine⟨_,rfl,_,rfl,?_⟩
    refine aS (fun c=>?_) (fun c=>?_)
    ·have c:=a0 c
     have F3l:=F3.lst
     have rb:r.length<=50001:=by rw[bF,cN]at l3;lia
     refine⟨_,rfl,.inl ⟨rfl,_,ai.of F3l⟩,_,rfl,L,_,_,r.length,V.ref pc,rfl,rfl,F3l,by lia,by lia,?_,by rw[b_,hpc];rfl,?_⟩
     ·have:r.length<(rs'.map V.ref).length:=by
       rw[aE,F3.aI.len,bF,cN,bO];lia
      exact seqIndex_of (by lia) (by lia)
     have ee:(r.reverse++cc::s).eraseIdx r.length=r.reverse++s:=by
      rw[List.eraseIdx_append_of_length_le (by rw[cN];exact aX _),cN,o9];rfl
     have F4:bc (upd H3 L (.lst ((rs'.map V.ref).eraseIdx r.length))) L (rs'.eraseIdx r.length) (r.reverse++s):=by
      refine⟨by rw[au,Ic],?_⟩
      rw[<-ee]
      refine(F3.aI.erase r.length).imp fun x g hx e=>?_
      have:x≠L:=fun z=>nL3 (by rw[<-z];exact(List.eraseIdx_sublist _ _).subset hx)
      exact(ax this).trans e
     have b4:bq L H (upd H3 L (.lst ((rs'.map V.ref).eraseIdx r.length))):=fun b o e hb=>by rw[ax hb];exact b3 b o e hb
     have hRr:ah n r.reverse:=fun x hx=>R3 x (jF _ hx)
     have hRs:ah n s:=fun x hx=>R3 x (d_ _ (bI _ hx))
     have l4:(r.reverse++s).length<=50001:=by
      rw[bF]at l3 ⊢
      rw[bO]at l3;lia
     generalize upd H3 L (.lst ((rs'.map V.ref).eraseIdx r.length))=H4 at *
     refine⟨_,rfl,r.length,rfl,by lia,by lia,je (lo:=0) (n:=((r.length:Nat):Int).toNat) (fun i σ H'=>∃(rs5:List Addr) (v6:Option V),σ=[some (.int n),some (.ref L),some (.ref f),some (.ref t),some (.int r.length),some (.bl (decide (cc=Wqaraq.delta n))),v6]/\bq L H H'/\bc H' L rs5 (tl n (r.reverse.take i)++(r.reverse.drop i++s))/\i<=r.length)
      ⟨_,none,rfl,b4,F4,be _⟩ ?_ ?_⟩
     ·intro i σ H5 hi hq;obtain ⟨rs5,v6,rfl,b5,F5,_⟩:=hq
      have hi:i<r.length:=by lia
      have hir:i<r.reverse.length:=by rw[cN];exact hi
      have ed:r.reverse.drop i=r.reverse[i]::r.reverse.drop (i+1):=pk hir
      have tll:(tl n (r.reverse.take i)).length=i:=by unfold BB.tl;rw[aE,c_];lia
      rw[ed,List.cons_append]at F5
      have gx:(tl n (r.reverse.take i)++r.reverse[i]::(r.reverse.drop (i+1)++s))[i]?=some r.reverse[i]:=by
       have:=kW (tl n (r.reverse.take i)) (r.reverse.drop (i+1)++s) r.reverse[i]
       rwa[tll]at this
      obtain⟨px,hpx,lx⟩:=F5.aI.get gx
      have hx:Rt n r.reverse[i]:=hRr _ (i5 hir)
      have e0:(0:Int)+(i:Int)=(i:Int):=by lia
      have R5:ah n (tl n (r.reverse.take i)++r.reverse[i]::(r.reverse.drop (i+1)++s)):=by
       refine ah.append (mN hn fun x hx=>hRr x (mz hx)) (ah.cons hx (ah.append (fun x hx=>hRr x (List.mem_of_mem_drop hx)) hRs))
      have nL5:=F5.md (mh R5)
      refine⟨_,rfl,_,rfl,_,rfl,L,_,_,_,rfl,rfl,ai.of F5.lst,gv e0 hpx,n,px,_,rfl,hn,lx,hx,fun H6 y s6 f6 h6=>?_⟩
      have yL:y≠L:=fun z=>by rw[z,F5.lst]at f6;cases f6
      have il5:i<rs5.length:=(dW.mp hpx).1
      refine⟨_,rfl,_,rfl,L,_,_,i,rfl,rfl,s6 _ _ F5.lst,d8 e0 (by rw[aE];exact il5),?_⟩
      refine⟨rs5.set i y,_,rfl,fun b o e hb=>by rw[ax hb];exact s6 _ _ (b5 b o e hb),⟨by rw[au,List.map_set],?_⟩,by lia⟩
      have es:tl n (r.reverse.take (i+1))++(r.reverse.drop (i+1)++s)=(tl n (r.reverse.take i)++r.reverse[i]::(r.reverse.drop (i+1)++s)).set i (Wqaraq.turned n r.reverse[i]):=by
       rw[List.set_append_right _ _ (by lia),tll,o9,i7,bu hir]
       unfold BB.tl
       rw[cQ,dM];rfl
      rw[es]
      refine bp.set (F5.aI.imp fun x g hx e=>?_) ?_
      ·have:x≠L:=fun z=>nL5 (by rw[<-z];exact hx)
       exact(ax this).trans (s6 _ _ e)
      ·exact(ax yL).trans h6
     ·intro σ H5 hq;obtain ⟨rs5,v6,rfl,b5,F5,_⟩:=hq
      rw[show ((r.length:Nat):Int).toNat=r.length by lia,<-cN,gY,List.drop_length,k6]at F5
      refine fin _ _ ⟨rs5,_,_,v6,rfl,b5,F5,ah.append (mN hn hRr) hRs,?_,?_⟩
      ·unfold BB.tl
       rw[bF,aE]
       rw[bF]at l4
       exact l4
      ·unfold cJ
       dsimp only
       rw[af c,af c]
       rfl
    ·have c:=a_ c
     refine fin _ _ ⟨rs',_,_,_,rfl,b3,F3,R3,l3,?_⟩
     unfold cJ
     dsimp only
     rw[ae c,ae c]
  ·intro fin
   refine⟨fun mm σ H'=>∃(rs':List Addr) (r s:List Perm) (cc:Perm),mm=r.length/\σ=[some (.int n),some (.ref L),some (.ref f),some (.ref t),some (.int r.length),none,none]/\bq L H H'/\bc H' L rs' (r.reverse++cc::s)/\ah n (r.reverse++cc::s)/\Ls H' t (Wqaraq.delta n)/\(r.reverse++cc::s).length<=50001/\cu n r cc s=Z,
    ⟨_,rs++[f],l.reverse,[],c,rfl,by rw[cN];rfl,b1,by rw[uy];exact F1,by rw[uy];exact hRc,t1,by rw[uy,bF,o3];lia,hZ⟩,?_⟩
   intro mm σ H3 hq;obtain ⟨rs',r,s,cc,rfl,rfl,b3,F3,R3,t3,l3,e3⟩:=hq
   have gc:(r.reverse++cc::s)[r.length]?=some cc:=by rw[<-cN];exact kW _ _ _
   obtain⟨pc,hpc,lc⟩:=F3.aI.get gc
   refine HH (ir (iq ?_))
   refine⟨_,rfl,_,rfl,L,_,_,_,rfl,rfl,ai.of F3.lst,gv rfl hpc,_,rfl,Qh lc t3 ?_⟩
   refine⟨_,rfl,?_⟩
   refine aS (fun c1=>?_) (fun c1=>?_)
   ·have c1:cc≠Wqaraq.delta n:=by rw[fC]at c1;exact a_ c1
    refine⟨_,rfl,_,_,rfl,rfl,_,rfl,?_⟩
    refine aS (fun c2=>?_) (fun c2=>?_)
    ·have c2:(0:Int)<(r.length:Int):=a0 c2
     cases r with
     |nil=>simp at c2
     |cons a r=>
      have e4:(a::r).reverse++cc::s=r.reverse++a::cc::s:=by rw[my,dM];rfl
      rw[e4]at F3 R3 l3
      have ga:(r.reverse++a::cc::s)[r.length]?=some a:=by rw[<-cN];exact kW _ _ _
      have gb:(r.reverse++a::cc::s)[r.length+1]?=some cc:=by
       have:=Ib r.reverse s a cc
       rwa[cN]at this
      refine⟨_,rfl,_,rfl,L,rs',_,r.length,n,a,cc,rfl,hn,F3,R3,ga,gb,fun hs H4 s4=>?_,fun hs H4 rs4 b4 F4=>?_⟩
      ·refine⟨_,rfl,dN ?_⟩
       rw[Q8 c1 hs]at e3
       subst e3
       refine fin _ _ ⟨rs',rfl,b3.trans (ag.but s4),⟨s4 _ _ F3.lst,?_⟩,?_,s4 _ _ t3,?_⟩
       ·rw[e4];exact F3.aI.same s4
       ·rw[e4];exact R3
       ·rw[e4];exact l3
      ·refine⟨_,rfl,gf ⟨fun σ' H'=>∃m',m'<(a::r).length/\∃(rs':List Addr) (r s:List Perm) (cc:Perm),m'=r.length/\σ'=[some (.int n),some (.ref L),some (.ref f),some (.ref t),some (.int r.length),none,none]/\bq L H H'/\bc H' L rs' (r.reverse++cc::s)/\ah n (r.reverse++cc::s)/\Ls H' t (Wqaraq.delta n)/\(r.reverse++cc::s).length<=50001/\cu n r cc s=Z,fun σ' H' h=>h,?_⟩⟩
       refine⟨_,rfl,_,_,rfl,rfl,?_⟩
       have sm:=Ia r.reverse s a cc (Wqaraq.then_ a (hand n a cc)) (Wqaraq.then_ (Wqaraq.back (hand n a cc)) cc)
       rw[cN]at sm
       rw[sm]at F4
       have hRr:ah n r.reverse:=fun x hx=>R3 x (jF _ hx)
       have hRs:ah n (a::cc::s):=fun x hx=>R3 x (d_ _ hx)
       have hm:=dq hn hRs.head hRs.tail.head
       refine⟨r.length,by simp,rs4,r,Wqaraq.then_ (Wqaraq.back (hand n a cc)) cc::s,Wqaraq.then_ a (hand n a cc),rfl,?_,b3.trans b4,F4,?_,b4 _ _ t3 tL,?_,?_⟩
       ·show [some (V.int n),some (V.ref L),some (V.ref f),some (V.ref t),some (V.int (((r.length+1:Nat):Int) - 1)),none,none]=_
        rw[show ((r.length+1:Nat):Int) - 1=(r.length:Int) by lia]
       ·exact ah.append hRr (ah.cons (hRs.head.then_ hm) (ah.cons (jY hn hRs.head hRs.tail.head) hRs.tail.tail))
       ·simpa using l3
       ·rw[<-Q9 c1 hs];exact e3
    ·have c2:¬(0:Int)<(r.length:Int):=a_ c2
     refine dN ?_
     have:r=[]:=o6.mp (by lia)
     subst this
     rw[show cu n [] cc s=([],cc,s) from rfl]at e3
     subst e3
     exact fin _ _ ⟨rs',rfl,b3,F3,R3,t3,l3⟩
   ·have c1:cc=Wqaraq.delta n:=by rw[i8]at c1;exact a0 c1
    refine dN ?_
    rw[c1,Q7]at e3
    subst e3
    rw[c1]at F3 R3 l3
    exact fin _ _ ⟨rs',rfl,b3,F3,R3,t3,l3⟩
noncomputable def Q_(T:Txt K mg):Sp:=fun vs H Q _=>∃(L f:Addr) (rs:List Addr) (a:Perm) (s:List Perm) (x:Perm) (n:Nat),vs=[.ref L,.ref f]/\n<=16/\bc H L rs (a::s)/\ah n (a::s)/\Nf n s/\s.length<=50000/\Ls H f x/\Rt n x/\
 ∀(H':Hp) (L':Addr) (rs':List Addr),ag H H'->H L'=none->bc H' L' rs' (quot n x (a::s))->Q (.ref L') H'
theorem bp.filter{H:Hp}(p:Perm->Bool):∀{rs:List Addr}{fs:List Perm},bp H rs fs->bp H (((rs.zip fs).filter fun x=>p x.2).map fun x=>x.1) (fs.filter p)
 |[],[],_=>trivial
 |[],_::_,h=>h.elim
 |_::_,[],h=>h.elim
 |r::rs,f::fs,h=>by
  rw[List.zip_cons_cons,List.filter_cons,List.filter_cons]
  by_cases c:p f=true
  ·rw[af c,af c]
   exact⟨h.1,h.2.filter p⟩
  ·rw[ae c,ae c]
   exact h.2.filter p
theorem bp.mem{H:Hp}:∀{rs:List Addr}{fs:List Perm}{x:Addr×Perm},bp H rs fs->x∈rs.zip fs->Ls H x.1 x.2
 |[],[],_,_,h=>by cases h
 |[],_::_,_,h,_=>h.elim
 |_::_,[],_,h,_=>h.elim
 |r::rs,f::fs,x,h,hx=>by
  rw[List.zip_cons_cons]at hx
  rcases bY.mp hx with e|hx
  ·rw[e];exact h.1
  ·exact h.2.mem hx
theorem Ig(n:Nat):∀(a:Perm) (s:List Perm),(gp n a s).length=s.length+1
 |a,[]=>rfl
 |a,c::s=>by
  unfold gp
  split
  ·rfl
  ·split
   ·rfl
   ·rw[bO,Ig n,bO]
theorem Ra{n:Nat}{s:List Perm}:gp n Wqaraq.still s=Wqaraq.still::s:=by
 cases s with
 |nil=>rfl
 |cons c s=>unfold gp;rw[af rfl]
theorem Rb{n:Nat}{a c:Perm}{s:List Perm}(h:hand n a c=Wqaraq.still):gp n a (c::s)=a::c::s:=by
 rw[gp,af h,ite_self]
theorem Rc{n:Nat}{a c:Perm}{s:List Perm}(h1:a≠Wqaraq.still)(h:hand n a c≠Wqaraq.still):gp n a (c::s)=Wqaraq.then_ a (hand n a c)::gp n (Wqaraq.then_ (Wqaraq.back (hand n a c)) c) s:=by
 rw[gp,ae h1,ae h]
theorem Ih(T:Txt K mg):T.tH.Ok P w base 3 (Q_ T):=by
 have S:=OB
 refine T.tH.F.ok S (by rintro _ _ _ _ ⟨L,f,rs,a,s,x,n,rfl,_⟩;rfl) fun cdv A outer s H vs Q E hr h=>?_
 ·obtain⟨L,f,rs,a,s,x,n,rfl,hn,hL,hR,nfs,sl,hf,hx,k⟩:=h
  refine⟨_,(aj (sv 2 S.nd (gO uS rfl T.gF (by decide+kernel) (ak (pv 0))))
   (aj (fI (T.kP.c (oT T) hr (aR (T.kQ.c (oU T) hr (ak (pv 1))) (aM (pv 2) aq))) (fH (pv 2) aq set_list))
   (aj (sv 3 S.nd aq)
   (aj (jM PassesOwn.never (PW.pt (lC (a5 gC (pv 3) (c9 T.cZ (pv 2))) (lC (d5 (cw (T.oh.c (wJ T) hr (ak (aM (pv 2) (aC cE (pv 3) aq)))))) (pG (cw (T.tE.c (H_ T) hr (aR (pv 2) (pv 3)))))))) (ao (sv 3 S.nd (aC cj (pv 3) aq))))
   (ao (az (iQ (own:=[("a",4)]) rfl S.nd (fJ (pv 2)) (fP (by rfl)) (fun _ _ _ _ _=>(eO (i:=4) S.nd rfl (Or.inl rfl))) (fun _ _ _ _ _=>rS (d5 (cw (T.oh.c (wJ T) hr (ak (pv 4)))))) (fun _ _ _ _ _=>(pv 4))))))))),?_⟩
  have rl:rs.length=s.length+1:=hL.aI.len
  refine⟨_,rfl,L,_,rfl,.inl (ai.of hL.lst),fun M fM=>?_⟩
  have s1:=ag.bA (o:=.lst (rs.map V.ref)) fM
  refine⟨_,rfl,f,x,rfl,s1 _ _ hf,hx.aa,fun H2 b s2 fb hb=>?_⟩
  have s02:=s1.trans s2
  have hM2:H2 M=some (.lst (rs.map V.ref)):=s2 _ _ au
  obtain⟨r0,hr0,l0⟩:=hL.aI.get (i:=0) (f:=a) rfl
  refine⟨_,rfl,M,_,_,_,rfl,rfl,ai.of hM2,gv rfl hr0,b,r0,_,a,rfl,hb,s02 _ _ l0,hx.aa.back,hR.head.aa,fun H3 y s3 fy hy=>?_⟩
  have s03:=s02.trans s3
  have hM3:=s3 _ _ hM2
  have yM:y≠M:=fun z=>by rw[z,hM2]at fy;cases fy
  refine⟨_,rfl,M,_,_,0,rfl,rfl,hM3,d8 rfl (by rw[aE];lia),?_⟩
  have rM:∀r,r∈rs->r≠M:=fun r hr z=>by
   obtain⟨i,hi,e⟩:=xw hr
   have hi2:i<(a::s).length:=by rw[bO];lia
   obtain⟨r',e',l'⟩:=hL.aI.get (bu hi2)
   rw[bu hi,e]at e'
   rw[<-bo e',z]at l'
   have l':H M=_:=l'
   rw[fM]at l';cases l'
  have F4:bc (upd H3 M (.lst ((rs.map V.ref).set 0 (V.ref y)))) M (rs.set 0 y) (Wqaraq.then_ (Wqaraq.back x) a::s):=by
   refine⟨by rw[au,List.map_set],?_⟩
   have:bp (upd H3 M (.lst ((rs.map V.ref).set 0 (V.ref y)))) rs (a::s):=hL.aI.imp fun r g hr e=>(ax (rM r hr)).trans (s03 _ _ e)
   exact this.set (i:=0) ((ax yM).trans hy)
  have s04:ag H (upd H3 M (.lst ((rs.map V.ref).set 0 (V.ref y)))):=s03.upd fM
  generalize upd H3 M (.lst ((rs.map V.ref).set 0 (V.ref y)))=H4 at *
  have R4:ah n (Wqaraq.then_ (Wqaraq.back x) a::s):=ah.cons (hx.back.then_ hR.head) hR.tail
  have eq:quot n x (a::s)=ins n (Wqaraq.then_ (Wqaraq.back x) a) s:=rfl
  rw[eq,<-FV hn R4.head R4.tail nfs]at k
  have Wl:=Ig n (Wqaraq.then_ (Wqaraq.back x) a) s
  generalize hW:gp n (Wqaraq.then_ (Wqaraq.back x) a) s=W at *
  dsimp only
  refine aQ (bz ?_)
  dsimp only [tC,dy]
  refine aQ (iw (fun σ H'=>∃(rs':List Addr) (v3:Option V),σ=[some (.ref L),some (.ref f),some (.ref M),v3,none]/\ag H H'/\bc H' M rs' W) ?_ ?_)
  ·intro σ H5 hq;obtain ⟨rs',v3,rfl,s5,F5⟩:=hq
   dsimp only
   refine a8 (gV ?_)
   have zl:(rs'.zip W).map (fun z=>V.ref z.1)=rs'.map V.ref:=by
    rw[show (fun z:Addr×Perm=>V.ref z.1)=V.ref ∘ Prod.fst from rfl,<-dw,List.map_fst_zip (by rw[F5.aI.len];exact aX _)]
   refine⟨_,rfl,M,rfl,⟨_,ai.of F5.lst⟩,qw (l:=rs'.zip W) (em:=fun z=>V.ref z.1) (fun z=>z.2 != Wqaraq.still) (fun z=>V.ref z.1) (ai.of (by rw[zl];exact F5.lst)) (by rw[List.length_zip,Wl];lia) ?_ ?_⟩
   ·intro z H6 hz s6 R Nx k1 k2
    have lz:=F5.aI.mem hz
    refine⟨rfl,⟨_,rfl,z.1,z.2,rfl,s6 _ _ lz,fun H7 s7=>⟨_,rfl,?_⟩⟩⟩
    refine aS (fun c=>⟨_,rfl,k1 ?_ _ s7⟩) (fun c=>k2 ?_ _ s7)
    ·rw[fC]at c
     exact bne_iff_ne.mpr (a_ c)
    ·rw[i8]at c
     rw[a0 c];simp
   ·intro H6 D s6 fD h6
    refine k H6 D (((rs'.zip W).filter fun z=>z.2 != Wqaraq.still).map fun z=>z.1) (s5.trans s6) (s5.free fD) ⟨?_,?_⟩
    ·rw[h6,dw];rfl
    ·exact(F5.aI.filter (fun g=>g != Wqaraq.still)).same s6
  ·intro fin
   refine⟨fun mm σ H'=>∃(rs':List Addr) (q t:List Perm) (cc:Perm),mm=t.length/\σ=[some (.ref L),some (.ref f),some (.ref M),some (.int (q.length+1:Nat)),none]/\ag H H'/\bc H' M rs' (q++cc::t)/\ah n (q++cc::t)/\q++gp n cc t=W,
    ⟨_,rs.set 0 y,[],s,_,rfl,rfl,s04,F4,R4,hW⟩,?_⟩
   intro mm σ H5 hq;obtain ⟨rs',q,t,cc,rfl,rfl,s5,F5,R5,e5⟩:=hq
   have l5:=F5.aI.len
   refine⟨_,rfl,_,rfl,M,_,rfl,.inl (ai.of F5.lst),_,_,rfl,rfl,_,rfl,?_⟩
   refine aS (fun c1=>?_) (fun c1=>?_)
   ·have c1:((q.length+1:Nat):Int)<((rs'.map V.ref).length:Nat):=a0 c1
    rw[aE,l5,bF,bO]at c1
    obtain⟨pc,hpc,lc⟩:=F5.aI.get (kW q t cc)
    refine⟨_,rfl,_,rfl,_,_,rfl,rfl,M,_,_,_,rfl,rfl,ai.of F5.lst,gv (j:=q.length) (by lia) hpc,pc,cc,rfl,lc,fun H6 s6=>⟨_,rfl,?_⟩⟩
    have F6:bc H6 M rs' (q++cc::t):=⟨s6 _ _ F5.lst,F5.aI.same s6⟩
    refine aS (fun c2=>?_) (fun c2=>?_)
    ·have c2:cc≠Wqaraq.still:=by rw[fC]at c2;exact a_ c2
     cases t with
     |nil=>simp at c1
     |cons d t=>
      refine⟨_,rfl,_,rfl,M,rs',_,q.length,n,cc,d,rfl,hn,F6,R5,kW _ _ _,Ib _ _ _ _,fun hs H7 s7=>?_,fun hs H7 rs7 b7 F7=>?_⟩
      ·refine⟨_,rfl,dN ?_⟩
       rw[Rb hs]at e5
       subst e5
       exact fin _ _ ⟨rs',_,rfl,(s5.trans s6).trans s7,⟨s7 _ _ F6.lst,F6.aI.same s7⟩⟩
      ·refine⟨_,rfl,gf ⟨fun σ' H'=>∃m',m'<(d::t).length/\∃(rs':List Addr) (q t:List Perm) (cc:Perm),m'=t.length/\σ'=[some (.ref L),some (.ref f),some (.ref M),some (.int (q.length+1:Nat)),none]/\ag H H'/\bc H' M rs' (q++cc::t)/\ah n (q++cc::t)/\q++gp n cc t=W,fun σ' H' h=>h,?_⟩⟩
       refine⟨_,rfl,_,_,rfl,rfl,?_⟩
       rw[Ia]at F7
       have hRq:ah n q:=fun z hz=>R5 z (jF _ hz)
       have hRt:ah n (cc::d::t):=fun z hz=>R5 z (d_ _ hz)
       have hm:=dq hn hRt.head hRt.tail.head
       refine⟨t.length,by simp,rs7,q++[Wqaraq.then_ cc (hand n cc d)],t,Wqaraq.then_ (Wqaraq.back (hand n cc d)) d,rfl,?_,fun z o e=>b7 z o ((s5.trans s6) z o e) (a7 e fM),?_,?_,?_⟩
       ·show [some (V.ref L),some (V.ref f),some (V.ref M),some (V.int (((q.length+1:Nat):Int)+1)),none]=_
        rw[bF,o3];rfl
       ·rw[dM];exact F7
       ·rw[dM]
        exact ah.append hRq (ah.cons (hRt.head.then_ hm) (ah.cons (jY hn hRt.head hRt.tail.head) hRt.tail.tail))
       ·rw[dM,<-e5,Rc c2 hs];rfl
    ·have c2:cc=Wqaraq.still:=by rw[i8]at c2;exact a0 c2
     refine dN ?_
     rw[c2,Ra]at e5
     rw[c2]at F6
     subst e5
     exact fin _ _ ⟨rs',_,rfl,s5.trans s6,F6⟩
   ·have c1:¬((q.length+1:Nat):Int)<((rs'.map V.ref).length:Nat):=a_ c1
    rw[aE,l5,bF,bO]at c1
    refine dN ?_
    have:t=[]:=o6.mp (by lia)
    subst this
    rw[show gp n cc []=[cc] from rfl]at e5
    subst e5
    exact fin _ _ ⟨rs',_,rfl,s5,F5⟩
noncomputable def ka(n:Nat)(k:Int)(L:Addr):List (Str×V):=ck "factors" (.ref L) (ck "twists" (.int k) (ck "n" (.int n) []))
theorem dQ(n:Nat)(k:Int)(L:Addr):(ka n k L).lookup ("n":Str)=some (.int n):=by
 unfold ka;rw[cR,ae (by decide),cR,ae (by decide),cR,af rfl]
theorem fu(n:Nat)(k:Int)(L:Addr):(ka n k L).lookup ("twists":Str)=some (.int k):=by
 unfold ka;rw[cR,ae (by decide),cR,af rfl]
theorem fX(n:Nat)(k:Int)(L:Addr):(ka n k L).lookup ("factors":Str)=some (.ref L):=by
 unfold ka;rw[cR,af rfl]
structure wK(T:Txt K mg)(H:Hp)(b:Addr)(n:Nat)(F:Form)(dx L:Addr)(rs:List Addr):Prop where
 ins:H b=some (.ins T.iY dx (ka n F.twists L))
 fs:bc H L rs F.factors
noncomputable def Bd(T:Txt K mg)(H:Hp)(b:Addr)(n:Nat)(F:Form):Prop:=∃dx L rs,wK T H b n F dx L rs
theorem Bd.same{T:Txt K mg}{H H':Hp}{b:Addr}{n:Nat}{F:Form}(h:Bd T H b n F)(s:ag H H'):Bd T H' b n F:=by
 obtain⟨dx,L,rs,i,f⟩:=h
 exact⟨dx,L,rs,s _ _ i,s _ _ f.lst,f.aI.same s⟩
noncomputable def Ii(T:Txt K mg):Sp:=fun vs H Q _=>∃(p dx:Addr) (n:Nat) (k:Int) (L:Addr),vs=[.ref p,.int n,.int k,.ref L]/\H p=some (.ins T.iY dx [])/\∀H':Hp,bq p H H'->H' p=some (.ins T.iY dx (ka n k L))->Q .aW H'
theorem mX(T:Txt K mg):T.j6.Ok mg P w base 1 (Ii T):=by
 have S:=PY
 refine T.j6.F.ok S (by rintro _ _ _ _ ⟨p,dx,n,k,L,rfl,_⟩;rfl) fun cdv A outer s H vs Q E hr h=>?_
 ·obtain⟨p,dx,n,k,L,rfl,hp,q⟩:=h
  refine⟨_,(aj (gZ (pv 0) (pv 1) rfl)
   (aj (gZ (pv 0) (pv 2) rfl)
   (ao (gZ (pv 0) (pv 3) rfl)))),?_⟩
  refine⟨_,rfl,_,rfl,p,_,dx,_,rfl,hp,T.aZ,T.dE,(by show 0<1000;decide),?_⟩
  refine⟨_,rfl,_,rfl,p,_,dx,_,rfl,au,T.aZ,T.eJ,(by show 1<1000;decide),?_⟩
  refine⟨_,rfl,_,rfl,p,_,dx,_,rfl,au,T.aZ,T.eU,(by show 2<1000;decide),?_⟩
  refine q _ (fun b o e hb=>by rw[ax hb,ax hb,ax hb];exact e) ?_
  rw[au];rfl
theorem wL(T:Txt K mg){H:Hp}{Q:VK}{n:Nat}{k:Int}{L:Addr}{rs:List Addr}{fs:List Perm}{E:XK}(h:bc H L rs fs)(q:∀(H':Hp) (r:Addr),ag H H'->Bd T H' r n ⟨k,fs⟩->Q (.ref r) H'):
  ∀x dx,H x=none->H dx=none->dx≠x->Ii T (.ref x::([.int n,.int k,.ref L]++[])) (upd (upd H dx (.own x)) x (.ins T.iY dx [])) (fun v H2=>v=.aW/\Q (.ref x) H2) E:=by
 intro x dx nx nd nxd
 refine⟨x,dx,n,k,L,rfl,au,fun H' b h'=>⟨rfl,?_⟩⟩
 have s:ag H H':=ag.made nx nd b
 exact q H' x s ⟨dx,L,rs,h',s _ _ h.lst,h.aI.same s⟩
noncomputable def Rf(T:Txt K mg):Sp:=fun vs H Q _=>∃(b:Addr) (n:Nat) (F:Form),vs=[.ref b]/\Bd T H b n F/\Val H Q (.bl (Wqaraq.large F))
theorem mY(k:Int):(if k<0 then -k else k)=(k.natAbs:Int):=by split<;>lia
theorem Rg(T:Txt K mg):T.vO.Ok P w base 1 (Rf T):=by
 have S:=OC
 refine T.vO.F.ok S (by rintro _ _ _ _ ⟨b,n,F,rfl,_⟩;rfl) fun cdv A outer s H vs Q E hr h=>?_
 ·obtain⟨b,n,F,rfl,⟨dx,L,rs,hb,hf⟩,q⟩:=h
  refine⟨_,(ao (az (C_ (jD eQ (c9 T.cZ (ay (pv 0))) (aN rfl T.G5)) (uG (jD eQ (f_ lE rfl T.kM (by decide+kernel) (ak (ay (pv 0)))) (aN rfl T.G7)))))),?_⟩
  refine⟨_,rfl,b,_,dx,_,_,rfl,hb,T.aZ,T.eU,fX _ _ _,L,_,rfl,.inl (ai.of hf.lst),_,_,rfl,rfl,_,rfl,?_⟩
  have e:Wqaraq.large F=(decide (60<F.factors.length)||decide (100<F.twists.natAbs)):=rfl
  rw[aE,hf.aI.len]
  refine aS (fun c=>?_) (fun c=>?_)
  ·refine ip (q H (ag.refl _)) ?_
   rw[e,de (eK.mp (a0 c))];rfl
  ·have c:¬60<F.factors.length:=fun z=>a_ c (eK.mpr z)
   refine⟨_,rfl,b,_,dx,_,_,rfl,hb,T.aZ,T.eJ,fu _ _ _,_,rfl,_,_,rfl,rfl,?_⟩
   refine ip (q H (ag.refl _)) ?_
   rw[e,cy c,Bool.false_or,mY,gA]
   lia
theorem Rh{K:PySem.W.Frag}{a:Addr}{rs:List Addr}{fs:List Perm}{g:TG}{tt:TT}{te:TE}{vs:List Nat}{σ:L2.St}{H:Hp}{Q:VK}(F:Perm->Perm)
  (h:bc H a rs fs)(hl:fs.length<=100000)(h16:∀f,f∈fs->(F f).length=16)
  (hs:∀(r:Addr) (f:Perm) (H':Hp),f∈fs->ag H H'->Ls H' r f->∀(R:V->Hp->Prop) (Nx:Hp->Prop),(∀H'' r',ag H' H''->Ls H'' r' (F f)->R (.ref r') H'')->
   g (.ref r) (wipe σ vs) H' fun σ2 H2=>wipe σ2 vs=wipe σ vs/\tt σ2 H2 fun b H3=>if b=true then te σ2 H3 R else Nx H3)
  (k:∀(H':Hp) (D:Addr) (rs':List Addr),ag H H'->H D=none->bc H' D rs' (fs.map F)->Q (.ref D) H'):oR g tt te vs σ Q (jN K a) H:=by
 intro D hD
 have rl:=h.aI.len
 refine⟨fun i m H'=>m=fs.length - i/\i<=fs.length/\ag H H'/\∃rs',bc H' D rs' ((fs.take i).map F),⟨fs.length,by simp,be _,ag.bA hD,[],au,trivial⟩,?_⟩
 intro i m H1 hq;obtain ⟨rfl,hi,s1,rs1,F1⟩:=hq
 have q:=ai.of (K:=K) (s1 _ _ h.lst)
 by_cases hlt:i<fs.length
 ·obtain⟨r,hr,lr⟩:=h.aI.get (bu hlt)
  refine .inr ⟨⟨_,V.ref r,q,by rw[b_,hr];rfl⟩,fun H'=>ag H H'/\∃rs',bc H' D rs' ((fs.take (i+1)).map F),fun H' h=>⟨fs.length - (i+1),by lia,rfl,hlt,h⟩,fun x H' y=>?_⟩
  obtain⟨e,y⟩:=y
  subst e
  have ex:V.ref r=x:=by
   have z:=y _ q
   rw[b_,hr]at z
   exact bo z
  subst ex
  have hm:=i5 hlt
  refine hs r fs[i] _ hm s1 (s1 _ _ lr) _ _ fun H2 r' s2 l2=>?_
  have F2l:=s2 _ _ F1.lst
  have n2:D∉rs1:=F1.md fun f hf=>by
   obtain⟨z,hz,rfl⟩:=bZ.mp hf
   exact h16 z (mz hz)
  have nr:r'≠D:=fun z=>by
   rw[z]at l2
   have l2:H2 D=_:=l2
   rw[F2l]at l2
   injection l2 with l2
   injection l2 with l2
   exact j_ rs1 _ (by rw[l2];exact kT (by rw[h16 _ hm];decide))
  refine⟨_,F2l,?_,(s1.trans s2).upd hD,rs1++[r'],by rw[au,cQ];rfl,?_⟩
  ·rw[aE,F1.aI.len,aE,c_]
   exact small (by lia)
  ·have tk:fs.take (i+1)=fs.take i++[fs[i]]:=by rw[i7,bu hlt];rfl
   rw[tk,cQ]
   refine bp.snoc (F1.aI.imp fun x f hx e=>?_) ((ax nr).trans l2)
   exact(ax fun z=>n2 (by rw[<-z];exact hx)).trans (s2 _ _ e)
 ·have e:i=fs.length:=by lia
  subst e
  rw[gY]at F1
  exact .inl ⟨⟨_,q,by rw[aE,rl];exact aX _⟩,k _ D rs1 s1 hD F1⟩
noncomputable def Ri(T:Txt K mg):Sp:=fun vs H Q _=>∃(pa pb:Addr) (n:Nat) (F G:Form),vs=[.ref pa,.ref pb]/\Bd T H pa n F/\Bd T H pb n G/\2<=n/\n<=16/\Fm n F.factors/\aV n G/\F.factors.length+G.factors.length<=40000/\
 ∀(H':Hp) (r:Addr),ag H H'->Bd T H' r n (Wqaraq.product n F G)->Q (.ref r) H'
theorem Rj(n:Nat)(k:Int)(z:List Perm×Perm×List Perm):cJ n k z=⟨k+(cJ n 0 z).twists,(cJ n 0 z).factors⟩:=by
 unfold cJ
 split
 ·simp
 ·simp
theorem Ct(n:Nat)(k:Int)(r:List Perm)(c:Perm)(s:List Perm):(cJ n k (cu n r c s)).factors.length<=r.length+s.length+1:=by
 have h:=zh n r c s
 have tr:∀l:List Perm,(trim l).length<=l.length:=fun l=>by unfold trim;split;rw[List.length_dropLast];lia;exact aX _
 generalize cu n r c s=z at *
 obtain⟨r',c',s'⟩:=z
 unfold cJ
 dsimp only at h ⊢
 split
 ·have:=tr (tl n r'.reverse++s')
  unfold BB.tl at this ⊢
  simp only [bF,aE,cN]at this ⊢
  lia
 ·have:=tr (r'.reverse++c'::s')
  simp only [bF,bO,cN]at this ⊢
  lia
theorem qC(T:Txt K mg):T.l9.Ok P w base 4 (Ri T):=by
 have S:=OD
 refine T.l9.F.ok S (by rintro _ _ _ _ ⟨pa,pb,n,F,G,rfl,_⟩;rfl) fun cdv A outer s H vs Q E hr h=>?_
 ·obtain⟨pa,pb,n,F,G,rfl,⟨da,La,ra,ia,fa⟩,⟨db,Lb,rb,ib,fb⟩,n2,hn,hF,hG,hl,k⟩:=h
  refine⟨_,(aj (sv 2 S.nd (aC cj (ay (pv 0)) (ay (pv 1))))
   (aj (rV (i:=3) (own:=[("factor",4)]) rfl S.nd rfl rfl rfl (fJ (ay (pv 0))) (fP (by rfl)) (fun _ _ _ _ _=>(eO (i:=4) S.nd rfl (Or.inl rfl))) (fun _ _ _ _ _=>iP) (fun _ _ _ _ _=>(T.qr.c (Cq T) hr (dv (HE (K:=K) rfl (pv 0) rfl) (pv 4) (HE (K:=K) rfl (pv 1) rfl)))))
   (aj (dh PassesOwn.never rfl (fJ (ay (pv 1))) (gn 4 S.nd) (ao (sv 2 S.nd (aC cj (pv 2) (T.kK.c (Ie T) hr (dv (ay (pv 0)) (pv 3) (pv 4)))))))
   (ao (az (T.j6.c (mX T) hr T.l6 (dv (ay (pv 0)) (pv 2) (pv 3)))))))),?_⟩
  refine⟨_,rfl,pa,_,da,_,_,rfl,ia,T.aZ,T.eJ,fu _ _ _,_,rfl,pb,_,db,_,_,rfl,ib,T.aZ,T.eJ,fu _ _ _,_,_,rfl,rfl,?_⟩
  dsimp only [dy]
  refine aQ (bz (gV ?_))
  refine⟨_,rfl,pa,_,da,_,_,rfl,ia,T.aZ,T.eU,fX _ _ _,La,rfl,⟨_,ai.of fa.lst⟩,Rh (rs:=ra) (fs:=F.factors) (bC n G.twists) fa (by lia) (fun f hf=>(mT hn (hF.all f hf)).aa.len) ?_ ?_⟩
  ·intro r f H1 hf s1 l1 R Nx k1
   refine⟨rfl,yes ?_⟩
   refine⟨_,rfl,pa,_,da,_,_,rfl,s1 _ _ ia,T.aZ,T.dE,dQ _ _ _,_,rfl,_,rfl,pb,_,db,_,_,rfl,s1 _ _ ib,T.aZ,T.eJ,fu _ _ _,?_⟩
   exact⟨n,r,f,G.twists,rfl,hn,l1,hF.all f hf,fun H2 r' s2 l2=>k1 H2 r' s2 l2⟩
  ·intro H1 D r1 s1 fD F1
   rw[<-vx hn]at F1
   dsimp only [dy]
   have nD:∀x o,H x=some o->x≠D:=fun x o e=>a7 e fD
   refine⟨_,rfl,pb,_,db,_,_,rfl,s1 _ _ ib,T.aZ,T.eU,fX _ _ _,Lb,rfl,⟨_,ai.of (s1 _ _ fb.lst)⟩,mG (xs:=rb.map V.ref) (fun i σ H'=>∃(v4:Option V) (r2:List Addr),σ=[some (.ref pa),some (.ref pb),some (.int (takes n ⟨F.twists+G.twists,tw n G.twists F.factors⟩ (G.factors.take i)).twists),some (.ref D),v4]/\ag H H'/\bc H' D r2 (takes n ⟨F.twists+G.twists,tw n G.twists F.factors⟩ (G.factors.take i)).factors/\(takes n ⟨F.twists+G.twists,tw n G.twists F.factors⟩ (G.factors.take i)).factors.length<=F.factors.length+i)
    ⟨none,r1,rfl,s1,F1,by show (tw n G.twists F.factors).length<=_;rw[vx hn,aE];exact aX _⟩ (fun i σ H' _ ⟨_,_,_,s,_⟩=>ai.of (s _ _ fb.lst)) ?_ ?_⟩
   ·intro i x σ H2 hx hq;obtain ⟨v4,r2,rfl,s2,F2,l2⟩:=hq
    have hi:i<G.factors.length:=by
     have:=(dW.mp hx).1
     rwa[aE,fb.aI.len]at this
    obtain⟨r,hr,lr⟩:=fb.aI.get (bu hi)
    have ex:x=V.ref r:=by
     rw[b_,hr]at hx
     exact(bo hx).symm
    subst ex
    have tk:G.factors.take (i+1)=G.factors.take i++[G.factors[i]]:=by rw[i7,bu hi];rfl
    have hfi:Rt n G.factors[i]:=hG _ (i5 hi)
    have t:=vw hn n2 (G.factors.take i) (F:=⟨F.twists+G.twists,tw n G.twists F.factors⟩) (hF.tw hn) (fun z hz=>hG z (mz hz))
    have et:takes n ⟨F.twists+G.twists,tw n G.twists F.factors⟩ (G.factors.take (i+1))=cJ n (takes n ⟨F.twists+G.twists,tw n G.twists F.factors⟩ (G.factors.take i)).twists (cu n (takes n ⟨F.twists+G.twists,tw n G.twists F.factors⟩ (G.factors.take i)).factors.reverse G.factors[i] []):=by
     rw[tk]
     unfold takes
     rw[jI];rfl
    have up:=Ct n 0 (takes n ⟨F.twists+G.twists,tw n G.twists F.factors⟩ (G.factors.take i)).factors.reverse G.factors[i] []
    rw[Rj]at et
    rw[et]
    generalize takes n ⟨F.twists+G.twists,tw n G.twists F.factors⟩ (G.factors.take i)=Ti at *
    refine⟨_,rfl,_,rfl,pa,_,da,_,_,rfl,s2 _ _ ia,T.aZ,T.dE,dQ _ _ _,_,rfl,_,rfl,n,D,r,r2,Ti.factors,G.factors[i],rfl,n2,hn,F2,t.1.all,by lia,s2 _ _ lr,hfi,fun H3 r3 b3 F3=>?_⟩
    refine⟨_,_,rfl,rfl,?_⟩
    refine⟨some (.ref r),r3,rfl,fun x o e=>b3 x o (s2 x o e) (nD x o e),F3,?_⟩
    rw[cN]at up
    exact cC up (by simp;lia)
   ·intro σ H2 hq;obtain ⟨v4,r2,rfl,s2,F2,l2⟩:=hq
    rw[aE,fb.aI.len,gY]at F2
    have tp:=zc hn n2 (F:=F) (G:=G) hF hG
    rw[aE,fb.aI.len,gY]
    rw[tp.2]at F2 ⊢
    refine⟨_,rfl,pa,_,da,_,_,rfl,s2 _ _ ia,T.aZ,T.dE,dQ _ _ _,_,rfl,_,rfl,?_⟩
    exact wL T F2 fun H3 r s3 b3=>k H3 r (s2.trans s3) b3
theorem wM(T:Txt K mg){H H':Hp}{x dx L:Addr}{n:Nat}{k:Int}{rs:List Addr}{fs:List Perm}(h:bc H L rs fs)(nx:H x=none)(nd:H dx=none)(b:bq x (upd (upd H dx (.own x)) x (.ins T.iY dx [])) H')(h':H' x=some (.ins T.iY dx (ka n k L))):
  ag H H'/\Bd T H' x n ⟨k,fs⟩:=by
 have s:ag H H':=ag.made nx nd b
 exact⟨s,dx,L,rs,h',s _ _ h.lst,h.aI.same s⟩
noncomputable def Rk(T:Txt K mg):Sp:=fun vs H Q _=>∃(pa:Addr) (n:Nat) (F:Form),vs=[.ref pa]/\Bd T H pa n F/\2<=n/\n<=16/\bh n F/\F.factors.length<=40000/\
 ∀(H':Hp) (r:Addr),ag H H'->Bd T H' r n (Wqaraq.backward n F)->Q (.ref r) H'
theorem Rl{n:Nat}:∀(l:List Perm) (p:Int) (i:Nat) (a:Perm),l[i]?=some a->gE n p (l.take (i+1))=gE n p (l.take i)++[bC n (p - i) (Wqaraq.rest n a)]:=by
 intro l p i a h
 rw[i7,h]
 show gE n p (l.take i++[a])=_
 have hi:i<l.length:=(dW.mp h).1
 rw[zd,c_,rm (by lia)]
theorem Cu{n:Nat}:∀(l:List Perm) (p:Int),(gE n p l).length=l.length
 |[],_=>rfl
 |_::l,p=>bQ (·+1) (Cu l (p - 1))
theorem wN(T:Txt K mg):T.oi.Ok P w base 3 (Rk T):=by
 have S:=OE
 refine T.oi.F.ok S (by rintro _ _ _ _ ⟨pa,n,F,rfl,_⟩;rfl) fun cdv A outer s H vs Q E hr h=>?_
 ·obtain⟨pa,n,F,rfl,⟨da,La,ra,ia,fa⟩,n2,hn,hF,hl,k⟩:=h
  refine⟨_,(aj (sv 1 S.nd (aC cj (ay (pv 0)) (c9 T.cZ (ay (pv 0)))))
   (aj (sv 2 S.nd (iM iN (pv 1)))
   (aj (sv 3 S.nd (aY gN))
   (aj (dh PassesOwn.never rfl (x8 rfl T.vK (ak (ay (pv 0)))) (gn 4 S.nd) (aj (dX (j9 (pv 3) (T.qr.c (Cq T) hr (dv (ay (pv 0)) (T.tq.c (HM T) hr (aR (ay (pv 0)) (pv 4))) (pv 1)))))
   (ao (sv 1 S.nd (aC cE (pv 1) aq)))))
   (ao (az (T.j6.c (mX T) hr T.l6 (dv (ay (pv 0)) (pv 2) (pv 3))))))))),?_⟩
  have rl:=fa.aI.len
  refine⟨_,rfl,pa,_,da,_,_,rfl,ia,T.aZ,T.eJ,fu _ _ _,_,rfl,pa,_,da,_,_,rfl,ia,T.aZ,T.eU,fX _ _ _,La,_,rfl,.inl (ai.of fa.lst),_,_,rfl,rfl,?_⟩
  rw[aE,rl]
  refine⟨_,rfl,_,rfl,?_⟩
  refine⟨be _,fun D fD=>?_⟩
  have s1:=ag.bA (o:=.lst []) fD
  have nD:∀x o,H x=some o->x≠D:=fun x o e=>a7 e fD
  have hRr:ah n F.factors.reverse:=fun x hx=>hF.all x (kg.mp hx)
  refine⟨_,rfl,pa,_,da,_,_,rfl,s1 _ _ ia,T.aZ,T.eU,fX _ _ _,La,_,rfl,ai.of (s1 _ _ fa.lst),GS (xs:=ra.map V.ref) (fun i σ H'=>∃(v4:Option V) (r2:List Addr),σ=[some (.ref pa),some (.int (F.twists+F.factors.length - i)),some (.int (-(F.twists+F.factors.length))),some (.ref D),v4]/\ag H H'/\bc H' D r2 (gE n (F.twists+F.factors.length) (F.factors.reverse.take i))/\i<=F.factors.length)
   ⟨none,[],by rw[show F.twists+(F.factors.length:Int) - ((0:Nat):Int)=F.twists+F.factors.length by lia];rfl,s1,⟨au,trivial⟩,be _⟩ (fun i σ H' _ ⟨_,_,_,s,_⟩=>ai.of (s _ _ fa.lst)) ?_ ?_⟩
  ·intro i x σ H2 hx hq;obtain ⟨v4,r2,rfl,s2,F2,_⟩:=hq
   have hi:i<F.factors.length:=by
    have:=(dW.mp hx).1
    rwa[cN,aE,rl]at this
   have hir:i<F.factors.reverse.length:=by rw[cN];exact hi
   have gi:F.factors[F.factors.length - 1 - i]?=some F.factors.reverse[i]:=by
    rw[List.getElem_reverse,bu (by lia)]
   obtain⟨r,hr,lr⟩:=fa.aI.get gi
   have ex:x=V.ref r:=by
    rw[<-List.map_reverse,b_,List.getElem?_reverse (by lia),rl,hr]at hx
    exact(bo hx).symm
   subst ex
   have hf:Rt n F.factors.reverse[i]:=hRr _ (i5 hir)
   have n2':D∉r2:=F2.md (mh (vy hn fun z hz=>hRr z (mz hz)))
   have l2:r2.length<=40000:=by rw[F2.aI.len,Cu,c_];lia
   refine⟨_,rfl,.inl ⟨rfl,_,ai.of F2.lst⟩,_,rfl,pa,_,da,_,_,rfl,s2 _ _ ia,T.aZ,T.dE,dQ _ _ _,_,rfl,pa,_,da,_,_,rfl,s2 _ _ ia,T.aZ,T.dE,dQ _ _ _,_,rfl,?_⟩
   refine⟨n,r,_,rfl,hn,s2 _ _ lr,hf.aa,fun H3 y s3 f3 h3=>?_⟩
   refine⟨_,rfl,n,y,_,F.twists+F.factors.length - i,rfl,hn,h3,hf.rest hn,fun H4 z s4 h4=>?_⟩
   have s24:=s3.trans s4
   have F4l:=s24 _ _ F2.lst
   have zD:z≠D:=fun e=>by
    rw[e]at h4
    have h4:H4 D=_:=h4
    rw[F4l]at h4
    injection h4 with h4
    injection h4 with h4
    exact j_ r2 _ (by rw[h4];exact kT (by rw[(mT hn (hf.rest hn)).aa.len];decide))
   refine⟨D,_,_,rfl,rfl,F4l,small (by rw[aE];lia),?_⟩
   refine⟨_,rfl,_,_,rfl,rfl,?_⟩
   refine⟨some (.ref r),r2++[z],?_,fun b o e=>?_,⟨by rw[au,cQ];rfl,?_⟩,hi⟩
   ·show [some (V.ref pa),some (V.int (F.twists+F.factors.length - i - 1)),some (V.int (-(F.twists+F.factors.length))),some (V.ref D),some (V.ref r)]=_
    rw[show F.twists+(F.factors.length:Int) - (i:Int) - 1=F.twists+F.factors.length - ((i+1:Nat):Int) by lia]
   ·rw[ax (nD b o e)];exact s24 _ _ (s2 _ _ e)
   ·rw[Rl _ _ _ _ (bu hir)]
    refine bp.snoc (F2.aI.imp fun b f hb e=>?_) ((ax zD).trans h4)
    exact(ax fun q=>n2' (by rw[<-q];exact hb)).trans (s24 _ _ e)
  ·intro σ H2 hq;obtain ⟨v4,r2,rfl,s2,F2,_⟩:=hq
   rw[aE,rl,<-cN,gY]at F2
   rw[cN]at F2
   refine⟨_,rfl,pa,_,da,_,_,rfl,s2 _ _ ia,T.aZ,T.dE,dQ _ _ _,_,rfl,_,rfl,?_⟩
   refine wL T F2 fun H3 r s3 b3=>k H3 r (s2.trans s3) ?_
   rw[<-ze hn n2 hF]
   exact b3
noncomputable def Rm(T:Txt K mg):Sp:=fun vs H Q _=>∃(pa:Addr) (n:Nat) (F:Form) (e:Int),vs=[.ref pa,.int e]/\Bd T H pa n F/\2<=n/\n<=16/\bh n F/\F.factors.length<=60/\e.natAbs<=8/\
 ∀(H':Hp) (r:Addr),ag H H'->Bd T H' r n (Wqaraq.powerOf n e F)->Q (.ref r) H'
theorem Cv{n:Nat}(hn:n<=16)(n2:2<=n){F G:Form}(hF:Fm n F.factors)(hG:aV n G):(Wqaraq.product n F G).factors.length<=F.factors.length+G.factors.length:=by
 have tp:=zc hn n2 (F:=F) (G:=G) hF hG
 rw[<-tp.2]
 have:∀(fs:List Perm) (X:Form),(takes n X fs).factors.length<=X.factors.length+fs.length:=by
  intro fs
  induction fs with
  |nil=>intro X;exact aX _
  |cons f fs ih=>
   intro X
   have:=ih (cJ n X.twists (cu n X.factors.reverse f []))
   have up:=Ct n X.twists X.factors.reverse f []
   rw[cN,List.length_nil]at up
   rw[bO]
   exact cC this (by lia)
 have:=this G.factors ⟨F.twists+G.twists,tw n G.twists F.factors⟩
 rw[vx hn]at this
 simp only [aE]at this
 rw[vx hn]
 exact this
theorem wO{n:Nat}(hn:n<=16)(n2:2<=n){F:Form}(h:bh n F):(Wqaraq.backward n F).factors.length=F.factors.length:=by
 rw[<-ze hn n2 h]
 show (gE n _ F.factors.reverse).length=_
 rw[Cu,cN]
theorem Rn(T:Txt K mg):T.vP.Ok P w base 5 (Rm T):=by
 have S:=OF
 refine T.vP.F.ok S (by rintro _ _ _ _ ⟨pa,n,F,e,rfl,_⟩;rfl) fun cdv A outer s H vs Q E hr h=>?_
 ·obtain⟨pa,n,F,e,rfl,hb,n2,hn,hF,hl,he,k⟩:=h
  refine⟨_,(aj (sv 2 S.nd (gM (a5 xM (pv 1) aq) (pv 0) (T.oi.c (wN T) hr (ak (pv 0)))))
   (aj (sv 3 S.nd (T.j6.c (mX T) hr T.l6 (dv (ay (pv 0)) aq (aY gN))))
   (aj (dh PassesOwn.never rfl (iL rfl T.cM (ak (f_ lE rfl T.kM (by decide+kernel) (ak (pv 1))))) (gn 4 S.nd) (ao (sv 3 S.nd (T.l9.c (qC T) hr (aR (pv 3) (pv 2))))))
   (ao (az (pv 3)))))),?_⟩
  refine aQ (iw (fun σ H'=>∃pb:Addr,σ=[some (.ref pa),some (.int e),some (.ref pb),none,none]/\ag H H'/\Bd T H' pb n (if e<0 then Wqaraq.backward n F else F)) ?_ ?_)
  ·intro σ H1 hq;obtain ⟨pb,rfl,s1,b1⟩:=hq
   generalize hB:(if e<0 then Wqaraq.backward n F else F)=B at *
   have hBI:bh n B:=by
    rw[<-hB];split
    ·exact j1 hn n2 hF.all
    ·exact hF
   have hBl:B.factors.length<=60:=by
    rw[<-hB];split
    ·rw[wO hn n2 hF];exact hl
    ·exact hl
   dsimp only
   obtain⟨da,La,ra,ia,fa⟩:=hb.same s1
   refine⟨_,rfl,pa,_,da,_,_,rfl,ia,T.aZ,T.dE,dQ _ _ _,be _,fun L0 f0=>?_⟩
   have s2:=ag.bA (o:=.lst []) f0
   intro p0 d0 np0 nd0 nx0
   refine⟨p0,d0,n,0,L0,rfl,au,fun H3 bb hh=>⟨rfl,?_⟩⟩
   obtain⟨s3,b3⟩:=wM T (rs:=[]) (fs:=[]) ⟨au,trivial⟩ np0 nd0 bb hh
   have s13:=(s1.trans s2).trans s3
   refine⟨_,rfl,_,rfl,(e.natAbs:Int),by rw[mY],by lia,by lia,je (lo:=0) (n:=((e.natAbs:Nat):Int).toNat) (fun i σ H'=>∃(v4:Option V) (pp:Addr),σ=[some (.ref pa),some (.int e),some (.ref pb),some (.ref pp),v4]/\ag H3 H'/\bh n ((List.range i).foldl (fun (G:Form) (_:Nat)=>Wqaraq.product n G B) ⟨0,[]⟩)/\((List.range i).foldl (fun (G:Form) (_:Nat)=>Wqaraq.product n G B) ⟨0,[]⟩).factors.length<=60 * i/\Bd T H' pp n ((List.range i).foldl (fun (G:Form) (_:Nat)=>Wqaraq.product n G B) ⟨0,[]⟩))
    ⟨none,p0,rfl,ag.refl _,lR hn n2,be _,b3⟩ ?_ ?_⟩
   ·intro i σ H4 hi hq;obtain ⟨v4,pp,rfl,s4,hI,hlen,b4⟩:=hq
    have ef:(List.range (i+1)).foldl (fun (G:Form) (_:Nat)=>Wqaraq.product n G B) ⟨0,[]⟩=Wqaraq.product n ((List.range i).foldl (fun (G:Form) (_:Nat)=>Wqaraq.product n G B) ⟨0,[]⟩) B:=by
     rw[i6,jI];rfl
    rw[ef]
    generalize (List.range i).foldl (fun (G:Form) (_:Nat)=>Wqaraq.product n G B) ⟨0,[]⟩=Gi at *
    have hi:i<8:=by lia
    refine⟨_,rfl,_,rfl,pp,pb,n,Gi,B,rfl,b4,((b1.same s2).same s3).same s4,n2,hn,hI.fm hn,hBI.all,by lia,fun H5 r s5 b5=>?_⟩
    exact⟨_,r,rfl,s4.trans s5,e8 hn n2 hI.all hBI.all,cC (Cv hn n2 (hI.fm hn) hBI.all) (by lia),b5⟩
   ·intro σ H4 hq;obtain ⟨v4,pp,rfl,s4,hI,hlen,b4⟩:=hq
    refine⟨_,rfl,k H4 pp (s13.trans s4) ?_⟩
    rw[show ((e.natAbs:Nat):Int).toNat=e.natAbs by lia]at b4
    unfold Wqaraq.powerOf
    rw[hB]
    exact b4
  ·intro fin
   refine bz ⟨_,rfl,_,_,rfl,rfl,_,rfl,?_⟩
   refine aS (fun c=>?_) (fun c=>?_)
   ·have c:(0:Int)<=e:=a0 c
    refine⟨_,rfl,fin _ _ ⟨pa,rfl,ag.refl _,?_⟩⟩
    rw[ae (by lia)];exact hb
   ·have c:¬(0:Int)<=e:=a_ c
    refine⟨_,rfl,pa,n,F,rfl,hb,n2,hn,hF,by lia,fun H1 r s1 b1=>fin _ _ ⟨r,rfl,s1,?_⟩⟩
    rw[af (by lia)];exact b1
noncomputable def Ro(T:Txt K mg):Sp:=fun vs H Q _=>∃(n:Nat) (f:Addr) (c:Perm),vs=[.int n,.ref f]/\2<=n/\n<=16/\Ls H f c/\Rt n c/\
 ∀(H':Hp) (r:Addr),ag H H'->Bd T H' r n (aO n (bM c))->Q (.ref r) H'
theorem Cw(T:Txt K mg):T.qt.Ok P w base 4 (Ro T):=by
 have S:=OG
 refine T.qt.F.ok S (by rintro _ _ _ _ ⟨n,f,c,rfl,_⟩;rfl) fun cdv A outer s H vs Q E hr h=>?_
 ·obtain⟨n,f,c,rfl,n2,hn,hf,hc,k⟩:=h
  refine⟨_,(aj (sv 2 S.nd (aY gN))
   (aj (sv 3 S.nd (T.kK.c (Ie T) hr (dv (pv 0) (pv 2) (pv 1))))
   (ao (az (T.j6.c (mX T) hr T.l6 (dv (pv 0) (pv 3) (pv 2))))))),?_⟩
  refine⟨be _,fun D fD=>?_⟩
  have s1:=ag.bA (o:=.lst []) fD
  refine⟨_,rfl,_,rfl,_,rfl,n,D,f,[],[],c,rfl,n2,hn,⟨au,trivial⟩,ah.nil,be _,s1 _ _ hf,hc,fun H2 r2 b2 F2=>?_⟩
  have s2:ag H H2:=fun x o e=>b2 x o (s1 x o e) (a7 e fD)
  refine⟨_,rfl,_,rfl,_,rfl,?_⟩
  refine wL T F2 fun H3 r s3 b3=>k H3 r (s2.trans s3) ?_
  have:=(kK hn n2 (k:=0) (Fm.nil hn) hc).2
  rw[show aO n (bM c)=aO n ⟨0,[]++[c]⟩ from rfl,this]
  exact b3
noncomputable def Rp(T:Txt K mg):Sp:=fun vs H Q _=>∃(n:Nat) (c:Int),vs=[.int n,.int c]/\2<=n/\n<=16/\Wqaraq.crossing n c=true/\
 ∀(H':Hp) (r:Addr),ag H H'->Bd T H' r n (c7 n c)->Q (.ref r) H'
theorem uc{n:Nat}(hn:n<=16)(n2:2<=n){c:Perm}(hc:Rt n c):(aO n (bM c)).factors.length<=1:=by
 rw[show aO n (bM c)=aO n ⟨0,[]++[c]⟩ from rfl,(kK hn n2 (k:=0) (Fm.nil hn) hc).2]
 exact Ct n 0 [] c []
theorem Rq(T:Txt K mg):T.vQ.Ok P w base 5 (Rp T):=by
 have S:=OH
 refine T.vQ.F.ok S (by rintro _ _ _ _ ⟨n,c,rfl,_⟩;rfl) fun cdv A outer s H vs Q E hr h=>?_
 ·obtain⟨n,c,rfl,n2,hn,hc,k⟩:=h
  refine⟨_,(aj (sv 2 S.nd (gO (j8 rfl) rfl T.gF k9 (ak (mV rfl T.cM (ak (aN rfl T.dt))))))
   (aj (dX (T.qo.c (Cm T) hr (aR (pv 2) (aC cE (f_ lE rfl T.kM (by decide+kernel) (ak (pv 1))) aq))))
   (aj (sv 3 S.nd (T.qt.c (Cw T) hr (aR (pv 0) (pv 2))))
   (ao (az (gM (a5 eQ (pv 1) aq) (pv 3) (T.oi.c (wN T) hr (ak (pv 3))))))))),?_⟩
  obtain⟨c1,c2⟩:=jx.mp hc
  have hs:=sS hn n2 (i:=c.natAbs - 1) (by lia)
  refine aQ (bz (tW fun H1 p s1 fp h1=>?_))
  dsimp only [dy]
  refine⟨_,rfl,_,rfl,_,rfl,_,_,rfl,rfl,p,_,c.natAbs - 1,?_,h1,bK _,by lia,fun H2 b2 h2=>?_⟩
  ·show [V.ref p,V.int ((if c<0 then -c else c) - 1)]=_
   rw[mY,show (c.natAbs:Int) - 1=((c.natAbs - 1:Nat):Int) by lia]
  have s2:ag H H2:=fun x o e=>b2 x o (s1 x o e) (a7 e fp)
  refine⟨_,rfl,_,rfl,n,p,_,rfl,n2,hn,h2,hs,fun H3 r s3 b3=>?_⟩
  have hI:=kG hn n2 (dP hn n2 hs)
  refine⟨_,rfl,_,_,rfl,rfl,_,rfl,?_⟩
  refine aS (fun c3=>?_) (fun c3=>?_)
  ·have c3:(0:Int)<c:=a0 c3
   refine⟨_,rfl,k H3 r (s2.trans s3) ?_⟩
   unfold c7;rw[af c3];exact b3
  ·have c3:¬(0:Int)<c:=a_ c3
   refine⟨_,rfl,r,n,_,rfl,b3,n2,hn,hI,cC (uc hn n2 hs) (by decide),fun H4 r4 s4 b4=>?_⟩
   refine k H4 r4 ((s2.trans s3).trans s4) ?_
   unfold c7;rw[ae c3];exact b4
theorem Ij{n:Nat}(hn:n<=16)(n2:2<=n){c:Int}(hc:Wqaraq.crossing n c=true):(c7 n c).factors.length<=1:=by
 obtain⟨c1,c2⟩:=jx.mp hc
 have hs:=sS hn n2 (i:=c.natAbs - 1) (by lia)
 unfold c7;split
 ·exact uc hn n2 hs
 ·rw[wO hn n2 (kG hn n2 (dP hn n2 hs))]
  exact uc hn n2 hs
noncomputable def Rr(T:Txt K mg):Sp:=fun vs H Q _=>∃(n:Nat) (p:Addr) (w:List Int),vs=[.int n,.ref p]/\2<=n/\n<=16/\Li H p w/\Wqaraq.fits n w=true/\w.length<=100/\
 ∀(H':Hp) (r:Addr),ag H H'->Bd T H' r n (Wqaraq.formOf n w)->Q (.ref r) H'
theorem Ik(T:Txt K mg):T.tI.Ok P w base 6 (Rr T):=by
 have S:=OI
 refine T.tI.F.ok S (by rintro _ _ _ _ ⟨n,p,w,rfl,_⟩;rfl) fun cdv A outer s H vs Q E hr h=>?_
 ·obtain⟨n,p,w,rfl,n2,hn,hp,hw,hl,k⟩:=h
  refine⟨_,(aj (sv 2 S.nd (T.j6.c (mX T) hr T.l6 (dv (pv 0) aq (aY gN))))
   (aj (dh PassesOwn.never rfl (fJ (pv 1)) (gn 3 S.nd) (ao (sv 2 S.nd (T.l9.c (qC T) hr (aR (pv 2) (T.vQ.c (Rq T) hr (aR (pv 0) (pv 3))))))))
   (ao (az (pv 2))))),?_⟩
  refine⟨_,rfl,be _,fun L0 f0=>?_⟩
  have s2:=ag.bA (o:=.lst []) f0
  intro p0 d0 np0 nd0 nx0
  refine⟨p0,d0,n,0,L0,rfl,au,fun H3 bb hh=>⟨rfl,?_⟩⟩
  obtain⟨s3,b3⟩:=wM T (rs:=[]) (fs:=[]) ⟨au,trivial⟩ np0 nd0 bb hh
  have s03:=s2.trans s3
  have fo:=fun i=>zg hn n2 (w.take i) (F:=⟨0,[]⟩) (lR hn n2) (by
   unfold Wqaraq.fits at hw ⊢
   rw[mq]at hw ⊢
   exact fun c hc=>hw c (mz hc))
  refine⟨_,rfl,p,rfl,⟨_,ai.of (s03 _ _ hp)⟩,mG (xs:=iv w) (fun i σ H'=>∃(v3:Option V) (pp:Addr),σ=[some (.int n),some (.ref p),some (.ref pp),v3]/\ag H H'/\((w.take i).foldl (fun F c=>Wqaraq.product n F (c7 n c)) ⟨0,[]⟩).factors.length<=i/\Bd T H' pp n ((w.take i).foldl (fun F c=>Wqaraq.product n F (c7 n c)) ⟨0,[]⟩))
   ⟨none,p0,rfl,s03,be _,b3⟩ (fun i σ H' _ ⟨_,_,_,s,_⟩=>ai.of (s _ _ hp)) ?_ ?_⟩
  ·intro i x σ H4 hx hq;obtain ⟨v3,pp,rfl,s4,hlen,b4⟩:=hq
   obtain⟨c,hc,rfl⟩:∃c,w[i]?=some c/\x=V.int c:=by
    unfold iv at hx
    rw[b_]at hx
    cases q:w[i]? with
    |none=>rw[q]at hx;cases hx
    |some c=>rw[q]at hx;exact⟨c,rfl,(bo hx).symm⟩
   have tk:w.take (i+1)=w.take i++[c]:=by rw[i7,hc];rfl
   have hcc:Wqaraq.crossing n c=true:=by
    unfold Wqaraq.fits at hw
    rw[mq]at hw
    exact hw c (m_ hc)
   have hi:i<w.length:=(dW.mp hc).1
   have ef:(w.take (i+1)).foldl (fun F c=>Wqaraq.product n F (c7 n c)) ⟨0,[]⟩=Wqaraq.product n ((w.take i).foldl (fun F c=>Wqaraq.product n F (c7 n c)) ⟨0,[]⟩) (c7 n c):=by
    rw[tk,jI];rfl
   have hI:=(fo i).1
   rw[(fo i).2]at hI
   rw[ef]
   generalize (w.take i).foldl (fun F c=>Wqaraq.product n F (c7 n c)) ⟨0,[]⟩=Gi at *
   have cI:=zf hn n2 hcc
   have cl:=Ij hn n2 hcc
   refine⟨_,rfl,_,rfl,_,rfl,n,c,rfl,n2,hn,hcc,fun H5 r s5 b5=>?_⟩
   refine⟨pp,r,n,Gi,c7 n c,rfl,b4.same s5,b5,n2,hn,hI.fm hn,cI.all,by lia,fun H6 r6 s6 b6=>?_⟩
   exact⟨_,r6,rfl,(s4.trans s5).trans s6,cC (Cv hn n2 (hI.fm hn) cI.all) (by lia),b6⟩
  ·intro σ H4 hq;obtain ⟨v3,pp,rfl,s4,hlen,b4⟩:=hq
   refine⟨_,rfl,k H4 pp s4 ?_⟩
   have:=fo w.length
   rw[cT]at b4
   rw[gY]at this b4
   unfold Wqaraq.formOf
   rw[this.2]
   exact b4
noncomputable def Ru(T:Txt K mg):Sp:=fun vs H Q _=>∃(pa:Addr) (n:Nat) (F:Form),vs=[.ref pa]/\Bd T H pa n F/\2<=n/\n<=16/\bh n F/\F.factors.length<=60/\
 ∀(H':Hp) (r:Addr),ag H H'->Bd T H' r n (Wqaraq.cycledOf ⟨n,F⟩ false)->Q (.ref r) H'
theorem Il{n:Nat}{k:Int}{b:Bool}:Wqaraq.cycledOf ⟨n,⟨k,[]⟩⟩ b=⟨k,[]⟩:=by
 unfold Wqaraq.cycledOf;rw[af rfl]
theorem Rv(T:Txt K mg):T.vR.Ok P w base 5 (Ru T):=by
 have S:=OJ
 refine T.vR.F.ok S (by rintro _ _ _ _ ⟨pa,n,F,rfl,_⟩;rfl) fun cdv A outer s H vs Q E hr h=>?_
 ·obtain⟨pa,n,F,rfl,hb,n2,hn,hF,hl,k⟩:=h
  refine⟨_,(aj (bt (a5 nu (c9 T.cZ (ay (pv 0))) aq) (ao (az (pv 0))) bx)
   (aj (sv 1 S.nd (T.qr.c (Cq T) hr (dv (ay (pv 0)) (aM (ay (pv 0)) aq) (ay (pv 0)))))
   (aj (sv 2 S.nd (T.j6.c (mX T) hr T.l6 (dv (ay (pv 0)) (ay (pv 0)) (jS jU (ay (pv 0)) (iO aq) lI))))
   (ao (az (T.l9.c (qC T) hr (aR (pv 2) (T.qt.c (Cw T) hr (aR (ay (pv 0)) (pv 1)))))))))),?_⟩
  obtain⟨da,La,ra,ia,fa⟩:=id hb
  obtain⟨kk,fs⟩:=F
  have rl:=fa.aI.len
  refine⟨_,rfl,pa,_,da,_,_,rfl,ia,T.aZ,T.eU,fX _ _ _,La,_,rfl,.inl (ai.of fa.lst),rfl,_,rfl,?_⟩
  rw[aE,rl]
  dsimp only
  cases fs with
  |nil=>
   refine aS (fun c=>?_) (fun c=>absurd rfl (a_ c))
   refine⟨_,rfl,k H pa (ag.refl _) ?_⟩
   rw[Il];exact hb
  |cons a l=>
   refine aS (fun c=>?_) (fun c=>?_)
   ·have c:=a0 c
    injection c with c
    simp at c
    lia
   ·obtain⟨r0,h0,l0⟩:=fa.aI.get (i:=0) (f:=a) rfl
    have ha:Rt n a:=hF.all.head
    have hfm:=(hF.fm hn)
    refine⟨_,rfl,pa,_,da,_,_,rfl,ia,T.aZ,T.dE,dQ _ _ _,_,rfl,pa,_,da,_,_,rfl,ia,T.aZ,T.eU,fX _ _ _,La,_,_,_,rfl,rfl,ai.of fa.lst,gv rfl h0,_,rfl,pa,_,da,_,_,rfl,ia,T.aZ,T.eJ,fu _ _ _,?_⟩
    refine⟨n,r0,a,kk,rfl,hn,l0,ha,fun H1 r1 s1 h1=>?_⟩
    refine⟨_,rfl,pa,_,da,_,_,rfl,s1 _ _ ia,T.aZ,T.dE,dQ _ _ _,_,rfl,pa,_,da,_,_,rfl,s1 _ _ ia,T.aZ,T.eJ,fu _ _ _,_,rfl,pa,_,da,_,_,rfl,s1 _ _ ia,T.aZ,T.eU,fX _ _ _,_,rfl,La,_,rfl,ai.of (s1 _ _ fa.lst),fun L2 f2=>?_⟩
    have s2:=s1.upd (o:=.lst (cX (ra.map V.ref) (some 1) none)) (s1.free f2)
    have F2:bc (upd H1 L2 (.lst (cX (ra.map V.ref) (some 1) none))) L2 (ra.drop 1) l:=by
     refine⟨by rw[au,Cf (z:=1) 1 rfl,List.map_drop],?_⟩
     exact(fa.aI.drop 1).same s2
    intro p0 d0 np0 nd0 nx0
    refine⟨p0,d0,n,kk,L2,rfl,au,fun H3 bb hh=>⟨rfl,?_⟩⟩
    obtain⟨s3,b3⟩:=wM T F2 np0 nd0 bb hh
    have s03:=s2.trans s3
    have ht:=mT hn (p:=kk) ha
    refine⟨_,rfl,_,rfl,pa,_,da,_,_,rfl,s03 _ _ ia,T.aZ,T.dE,dQ _ _ _,_,rfl,n,r1,_,rfl,n2,hn,s3 _ _ ((ag.bA f2) _ _ h1),ht,fun H4 r4 s4 b4=>?_⟩
    refine⟨p0,r4,n,⟨kk,l⟩,aO n (bM (bC n kk a)),rfl,b3.same s4,b4,n2,hn,hfm.tail hn,jw hn n2 (dP hn n2 ht),?_,fun H5 r5 s5 b5=>?_⟩
    ·have:=uc hn n2 ht
     have hl':l.length+1<=60:=hl
     show l.length+_<=40000
     lia
    ·refine k H5 r5 ((s03.trans s4).trans s5) ?_
     rw[FO hn n2 hF]
     exact b5
noncomputable def Rw(T:Txt K mg):Sp:=fun vs H Q _=>∃(pa:Addr) (n:Nat) (F:Form),vs=[.ref pa]/\Bd T H pa n F/\2<=n/\n<=16/\bh n F/\F.factors.length<=60/\
 ∀(H':Hp) (r:Addr),ag H H'->Bd T H' r n (Wqaraq.cycledOf ⟨n,F⟩ true)->Q (.ref r) H'
theorem Rx(T:Txt K mg):T.vS.Ok P w base 5 (Rw T):=by
 have S:=OK
 refine T.vS.F.ok S (by rintro _ _ _ _ ⟨pa,n,F,rfl,_⟩;rfl) fun cdv A outer s H vs Q E hr h=>?_
 ·obtain⟨pa,n,F,rfl,hb,n2,hn,hF,hl,k⟩:=h
  refine⟨_,(aj (bt (a5 nu (c9 T.cZ (ay (pv 0))) aq) (ao (az (pv 0))) bx)
   (aj (sv 1 S.nd (T.j6.c (mX T) hr T.l6 (dv (ay (pv 0)) (ay (pv 0)) (jS jU (ay (pv 0)) lI (iO (iM iN aq))))))
   (ao (az (T.l9.c (qC T) hr (aR (T.qt.c (Cw T) hr (aR (ay (pv 0)) (aM (ay (pv 0)) (iM iN aq)))) (pv 1))))))),?_⟩
  obtain⟨da,La,ra,ia,fa⟩:=id hb
  obtain⟨kk,fs⟩:=F
  have rl:=fa.aI.len
  refine⟨_,rfl,pa,_,da,_,_,rfl,ia,T.aZ,T.eU,fX _ _ _,La,_,rfl,.inl (ai.of fa.lst),rfl,_,rfl,?_⟩
  rw[aE,rl]
  dsimp only
  rcases xt fs with e|⟨l,a,e⟩
  ·subst e
   refine aS (fun c=>?_) (fun c=>absurd rfl (a_ c))
   refine⟨_,rfl,k H pa (ag.refl _) ?_⟩
   rw[Il];exact hb
  ·rw[xu]at e
   subst e
   refine aS (fun c=>?_) (fun c=>?_)
   ·have c:=a0 c
    injection c with c
    simp at c
    lia
   ·have rl:ra.length=l.length+1:=by rw[rl,bF];rfl
    obtain⟨py,hpy,ly⟩:=fa.aI.get (kW l [] a)
    obtain⟨ry,er⟩:∃ry,ra=ry++[py]:=by
     refine⟨ra.take l.length,?_⟩
     have:=List.take_append_drop l.length ra
     rw[pk (by lia),rk (by lia)]at this
     rw[bu (by lia)]at hpy
     rw[bo hpy]at this
     exact this.symm
    subst er
    have ryl:ry.length=l.length:=by simpa using rl
    have ha:Rt n a:=hF.all a (d_ _ bE)
    have hfm:=hF.fm hn
    refine⟨_,rfl,pa,_,da,_,_,rfl,ia,T.aZ,T.dE,dQ _ _ _,_,rfl,pa,_,da,_,_,rfl,ia,T.aZ,T.eJ,fu _ _ _,_,rfl,pa,_,da,_,_,rfl,ia,T.aZ,T.eU,fX _ _ _,_,rfl,_,rfl,La,_,rfl,ai.of fa.lst,fun L2 f2=>?_⟩
    have s2:=ag.bA (o:=.lst (cX ((ry++[py]).map V.ref) none (some (-1)))) f2
    have F2:bc (upd H L2 (.lst (cX ((ry++[py]).map V.ref) none (some (-1))))) L2 ry l:=by
     refine⟨by rw[au,Qj,cQ];exact bQ (fun z=>some (HO.lst z)) xp,?_⟩
     have:=fa.aI.take l.length
     rw[List.take_left' ryl,List.take_left' rfl]at this
     exact this.same s2
    intro p0 d0 np0 nd0 nx0
    refine⟨p0,d0,n,kk,L2,rfl,au,fun H3 bb hh=>⟨rfl,?_⟩⟩
    obtain⟨s3,b3⟩:=wM T F2 np0 nd0 bb hh
    have s03:=s2.trans s3
    refine⟨_,rfl,pa,_,da,_,_,rfl,s03 _ _ ia,T.aZ,T.dE,dQ _ _ _,_,rfl,pa,_,da,_,_,rfl,s03 _ _ ia,T.aZ,T.eU,fX _ _ _,_,rfl,La,_,_,_,rfl,rfl,ai.of (s03 _ _ fa.lst),by rw[cQ];exact Cr _ _,?_⟩
    refine⟨n,py,a,rfl,n2,hn,s03 _ _ ly,ha,fun H4 r4 s4 b4=>?_⟩
    have hI:=kG hn n2 (dP hn n2 ha)
    refine⟨_,rfl,r4,p0,n,aO n (bM a),⟨kk,l⟩,rfl,b4,b3.same s4,n2,hn,hI.fm hn,fun z hz=>hF.all z (jF _ hz),?_,fun H5 r5 s5 b5=>?_⟩
    ·have:=uc hn n2 ha
     have hl':(l++[a]).length<=60:=hl
     rw[bF,o3]at hl'
     show _+l.length<=40000
     lia
    ·refine k H5 r5 ((s03.trans s4).trans s5) ?_
     rw[FP hn n2 hF]
     exact b5
noncomputable def Ry(T:Txt K mg):Sp:=fun vs H Q _=>∃(pa pb:Addr) (n:Nat) (F G:Form),vs=[.ref pa,.ref pb]/\Bd T H pa n F/\Bd T H pb n G/\2<=n/\n<=16/\bh n F/\bh n G/\F.factors.length+G.factors.length<=40000/\Val H Q (.bl (Wqaraq.beginsOf ⟨n,F⟩ ⟨n,G⟩))
theorem Rz(T:Txt K mg):T.vW.Ok P w base 5 (Ry T):=by
 have S:=OR
 refine T.vW.F.ok S (by rintro _ _ _ _ ⟨pa,pb,n,F,G,rfl,_⟩;rfl) fun cdv A outer s H vs Q E hr h=>?_
 ·obtain⟨pa,pb,n,F,G,rfl,ha,hb,n2,hn,hF,hG,hl,k⟩:=h
  refine⟨_,(ao (az (jD xM (ay (T.l9.c (qC T) hr (aR (T.oi.c (wN T) hr (ak (pv 0))) (pv 1)))) aq))),?_⟩
  refine⟨_,rfl,pa,n,F,rfl,ha,n2,hn,hF,by lia,fun H1 r1 s1 b1=>?_⟩
  have hB:=j1 hn n2 hF.all
  refine⟨_,rfl,r1,pb,n,_,G,rfl,b1,hb.same s1,n2,hn,hB.fm hn,hG.all,by rw[wO hn n2 hF];exact hl,fun H2 r2 s2 b2=>?_⟩
  obtain⟨d2,L2,r2',i2,f2⟩:=b2
  refine⟨r2,_,d2,_,_,rfl,i2,T.aZ,T.eJ,fu _ _ _,_,_,rfl,rfl,?_⟩
  refine ip (k H2 (s1.trans s2)) ?_
  unfold Wqaraq.beginsOf
  rw[de rfl,k8]
noncomputable def RA(T:Txt K mg):Sp:=fun vs H Q _=>∃(pa:Addr) (n:Nat) (F:Form) (k:Int),vs=[.ref pa,.int k]/\Bd T H pa n F/\2<=n/\n<=16/\aV n F/\F.factors.length<=10000/\F.twists - k<=10000/\
 ∀(H':Hp) (L:Addr) (rs:List Addr),ag H H'->bc H' L rs (above n k F)->Q (.ref L) H'
theorem Im(T:Txt K mg):T.tM.Ok P w base 2 (RA T):=by
 have S:=OS
 refine T.tM.F.ok S (by rintro _ _ _ _ ⟨pa,n,F,k,rfl,_⟩;rfl) fun cdv A outer s H vs Q E hr h=>?_
 ·obtain⟨pa,n,F,k,rfl,⟨da,La,ra,ia,fa⟩,n2,hn,hF,hl,hk,q⟩:=h
  refine⟨_,(aj (sv 2 S.nd (aY gN))
   (aj (jM PassesOwn.never (a5 gC (c9 T.cZ (pv 2)) (aC cE (ay (pv 0)) (pv 1))) (ao (dX (j9 (pv 2) (T.l8.c (qy T) hr (ak (ay (pv 0))))))))
   (ao (az (aC fO (pv 2) (ay (pv 0))))))),?_⟩
  refine⟨be _,fun D fD=>?_⟩
  have s1:=ag.bA (o:=.lst []) fD
  have hd:=bX hn
  dsimp only [dy]
  refine aQ (iw (fun σ H'=>∃(r2:List Addr),σ=[some (.ref pa),some (.int k),some (.ref D)]/\ag H H'/\bc H' D r2 (List.replicate (F.twists - k).toNat (Wqaraq.delta n))) ?_ ?_)
  ·intro σ H2 hq;obtain ⟨r2,rfl,s2,F2⟩:=hq
   refine⟨_,rfl,_,rfl,pa,_,da,_,_,rfl,s2 _ _ ia,T.aZ,T.eU,fX _ _ _,D,La,_,_,rfl,rfl,F2.lst,s2 _ _ fa.lst,?_,fun E' fE=>?_⟩
   ·rw[aE,aE,F2.aI.len,qR,fa.aI.len]
    exact cv (by lia)
   ·have s3:=s2.upd (o:=.lst (r2.map V.ref++ra.map V.ref)) (s2.free fE)
    refine q _ E' (r2++ra) s3 ⟨by rw[au,cQ],?_⟩
    exact bp.app (F2.aI.same (ag.bA fE)) (fa.aI.same s3)
  ·intro fin
   refine⟨fun mm σ H'=>∃(i:Nat) (r2:List Addr),mm=(F.twists - k).toNat - i/\i<=(F.twists - k).toNat/\σ=[some (.ref pa),some (.int k),some (.ref D)]/\ag H H'/\bc H' D r2 (List.replicate i (Wqaraq.delta n)),
    ⟨_,0,[],rfl,be _,rfl,s1,au,trivial⟩,?_⟩
   intro mm σ H2 hq;obtain ⟨i,r2,rfl,hi,rfl,s2,F2⟩:=hq
   have rl:r2.length=i:=by rw[F2.aI.len,qR]
   refine⟨_,rfl,D,_,rfl,.inl (ai.of F2.lst),_,rfl,pa,_,da,_,_,rfl,s2 _ _ ia,T.aZ,T.eJ,fu _ _ _,_,rfl,_,_,rfl,rfl,_,_,rfl,rfl,_,rfl,?_⟩
   rw[aE,rl]
   refine aS (fun c=>?_) (fun c=>?_)
   ·have c:(i:Int)<F.twists - k:=a0 c
    refine⟨fun σ' H'=>∃m',m'<(F.twists - k).toNat - i/\∃(i:Nat) (r2:List Addr),m'=(F.twists - k).toNat - i/\i<=(F.twists - k).toNat/\σ'=[some (.ref pa),some (.int k),some (.ref D)]/\ag H H'/\bc H' D r2 (List.replicate i (Wqaraq.delta n)),fun σ' H' h=>h,?_⟩
    refine⟨_,rfl,.inl ⟨rfl,_,ai.of F2.lst⟩,_,rfl,pa,_,da,_,_,rfl,s2 _ _ ia,T.aZ,T.dE,dQ _ _ _,n,rfl,hn,fun H3 y s3 f3 h3=>?_⟩
    have F3l:=s3 _ _ F2.lst
    have yD:y≠D:=fun z=>by rw[z,F2.lst]at f3;cases f3
    have n2':D∉r2:=F2.md fun f hf=>by rw[xo hf];exact hd.aa.len
    refine⟨D,_,_,rfl,rfl,F3l,small (by rw[aE];lia),?_⟩
    refine⟨_,?_,i+1,r2++[y],rfl,by lia,rfl,fun b o e=>by rw[ax (a7 e fD)];exact s3 _ _ (s2 _ _ e),⟨by rw[au,cQ];rfl,?_⟩⟩
    ·lia
    ·rw[List.replicate_succ']
     refine bp.snoc (F2.aI.imp fun b f hb e=>?_) ((ax yD).trans h3)
     exact(ax fun q=>n2' (by rw[<-q];exact hb)).trans (s3 _ _ e)
   ·have c:¬(i:Int)<F.twists - k:=a_ c
    refine fin _ _ ⟨r2,rfl,s2,?_⟩
    rw[show (F.twists - k).toNat=i by lia]
    exact F2
noncomputable def RB(T:Txt K mg):Sp:=fun vs H Q _=>∃(pa pb:Addr) (n:Nat) (F G:Form),vs=[.ref pa,.ref pb]/\Bd T H pa n F/\Bd T H pb n G/\2<=n/\n<=16/\bh n F/\bh n G/\F.factors.length<=60/\G.factors.length<=60/\F.twists.natAbs<=100/\G.twists.natAbs<=100/\
 ∀(H':Hp) (r:Addr),ag H H'->Bd T H' r n (Wqaraq.commonOf ⟨n,F⟩ ⟨n,G⟩).form->Q (.ref r) H'
theorem Io(n:Nat):∀(s:List Perm) (a:Perm),(ins n a s).length<=s.length+1
 |[],a=>by unfold ins;split<;>simp
 |c::s,a=>by
  unfold ins
  have:=Io n s (Wqaraq.then_ (Wqaraq.back (hand n a c)) c)
  rw[bO,bO];lia
theorem Ip(n:Nat)(x:Perm)(A:List Perm):(quot n x A).length<=A.length:=by
 cases A with
 |nil=>exact aX _
 |cons a s=>exact Io n s _
theorem Iq{a:Perm}(ha:aw a):Wqaraq.meetOf Wqaraq.still a=Wqaraq.still:=mR (eD dO ha).aa (eD dO ha).left
theorem RC(T:Txt K mg):T.vX.Ok P w base 5 (RB T):=by
 have S:=OT
 refine T.vX.F.ok S (by rintro _ _ _ _ ⟨pa,pb,n,F,G,rfl,_⟩;rfl) fun cdv A outer s H vs Q E hr h=>?_
 ·obtain⟨pa,pb,n,F,G,rfl,ha,hb,n2,hn,hF,hG,lF,lG,tF,tG,k⟩:=h
  refine⟨_,(aj (sv 2 S.nd (f_ (Dx rfl) rfl T.BV (by decide+kernel) (aR (ay (pv 0)) (ay (pv 1)))))
   (aj (sv 3 S.nd (T.tM.c (Im T) hr (aR (pv 0) (pv 2))))
   (aj (sv 4 S.nd (T.tM.c (Im T) hr (aR (pv 1) (pv 2))))
   (aj (sv 5 S.nd (f_ (Dx rfl) rfl T.BV (by decide+kernel) (aR (c9 T.cZ (pv 3)) (c9 T.cZ (pv 4)))))
   (aj (sv 3 S.nd (jS jU (pv 3) lI (iO (pv 5))))
   (aj (sv 4 S.nd (jS jU (pv 4) lI (iO (pv 5))))
   (aj (sv 6 S.nd (aY gN))
   (aj (jM PassesOwn.never (PW.pt (lC (a5 eQ (c9 T.cZ (pv 3)) aq) (pG (a5 eQ (c9 T.cZ (pv 4)) aq)))) (aj (sv 7 S.nd (T.tK.c (HZ T) hr (aR (aM (pv 3) aq) (aM (pv 4) aq))))
   (aj (bt (cw (T.oh.c (wJ T) hr (ak (pv 7)))) (ao Km) bx)
   (aj (dX (j9 (pv 6) (pv 7)))
   (aj (sv 3 S.nd (T.tH.c (Ih T) hr (aR (pv 3) (pv 7))))
   (ao (sv 4 S.nd (T.tH.c (Ih T) hr (aR (pv 4) (pv 7))))))))))
   (ao (az (T.j6.c (mX T) hr T.l6 (dv (ay (pv 0)) (pv 2) (pv 6))))))))))))),?_⟩
  obtain⟨da,La,ra,ia,fa⟩:=id ha
  obtain⟨db,Lb,rb,ib,fb⟩:=id hb
  refine⟨_,rfl,pa,_,da,_,_,rfl,ia,T.aZ,T.eJ,fu _ _ _,_,rfl,pb,_,db,_,_,rfl,ib,T.aZ,T.eJ,fu _ _ _,_,_,rfl,?_⟩
  rw[show (if G.twists<F.twists then G.twists else F.twists)=min F.twists G.twists by split<;>lia]
  have ce:=Gc hn n2 hF hG
  generalize hk:min F.twists G.twists=kk at *
  refine⟨_,rfl,_,rfl,pa,n,F,kk,rfl,ha,n2,hn,hF.all,by lia,by lia,fun H1 A1 ra1 s1 FA=>?_⟩
  refine⟨_,rfl,_,rfl,pb,n,G,kk,rfl,hb.same s1,n2,hn,hG.all,by lia,by lia,fun H2 B1 rb1 s2 FB=>?_⟩
  have iF:bh n ⟨F.twists - kk,F.factors⟩:=(hF.fm hn).cz hn
  have iG:bh n ⟨G.twists - kk,G.factors⟩:=(hG.fm hn).cz hn
  obtain⟨aF,nF,_⟩:=n8 hn n2 iF (by show 0<=F.twists - kk;lia)
  obtain⟨aG,nG,_⟩:=n8 hn n2 iG (by show 0<=G.twists - kk;lia)
  rw[show lst n ⟨F.twists - kk,F.factors⟩=above n kk F from rfl]at aF nF
  rw[show lst n ⟨G.twists - kk,G.factors⟩=above n kk G from rfl]at aG nG
  have al:(above n kk F).length<=1000:=by unfold above;rw[bF,qR];lia
  have bl:(above n kk G).length<=1000:=by unfold above;rw[bF,qR];lia
  generalize above n kk F=A at *
  generalize above n kk G=B at *
  have s02:=s1.trans s2
  refine⟨_,rfl,A1,_,rfl,.inl (ai.of (s2 _ _ FA.lst)),_,rfl,B1,_,rfl,.inl (ai.of FB.lst),_,_,rfl,?_⟩
  rw[aE,aE,FA.aI.len,FB.aI.len,show (if ((B.length:Nat):Int)<((A.length:Nat):Int) then ((B.length:Nat):Int) else ((A.length:Nat):Int))=((min A.length B.length:Nat):Int) by split<;>lia]
  generalize hm:min A.length B.length=m at *
  refine⟨_,rfl,_,rfl,_,rfl,A1,_,rfl,ai.of (s2 _ _ FA.lst),fun A2 f2=>?_⟩
  have s3:=s02.upd (o:=.lst (cX (ra1.map V.ref) none (some (m:Int)))) (s02.free f2)
  refine⟨_,rfl,_,rfl,_,rfl,B1,_,rfl,ai.of ((ag.bA f2) _ _ FB.lst),fun B2 f3=>?_⟩
  have s4:=s3.upd (o:=.lst (cX (rb1.map V.ref) none (some (m:Int)))) (s3.free f3)
  have sA:=(ag.bA (o:=.lst (cX (ra1.map V.ref) none (some (m:Int)))) f2)
  have sB:=(ag.bA (o:=.lst (cX (rb1.map V.ref) none (some (m:Int)))) f3)
  have FA2:bc (upd (upd H2 A2 (.lst (cX (ra1.map V.ref) none (some (m:Int))))) B2 (.lst (cX (rb1.map V.ref) none (some (m:Int))))) A2 (ra1.take m) (A.take m):=by
   refine⟨sB _ _ (by rw[au,t_ m rfl,List.map_take]),?_⟩
   exact(((FA.aI.same s2).take m).same sA).same sB
  have FB2:bc (upd (upd H2 A2 (.lst (cX (ra1.map V.ref) none (some (m:Int))))) B2 (.lst (cX (rb1.map V.ref) none (some (m:Int))))) B2 (rb1.take m) (B.take m):=by
   refine⟨by rw[au,t_ m rfl,List.map_take],?_⟩
   exact((FB.aI.take m).same sA).same sB
  generalize upd (upd H2 A2 (.lst (cX (ra1.map V.ref) none (some (m:Int))))) B2 (.lst (cX (rb1.map V.ref) none (some (m:Int))))=H4 at *
  have aT:=vB hn (m:=m) aF nF
  have bT:=vB hn (m:=m) aG nG
  have tlA:(A.take m).length<=1000:=by rw[c_];lia
  have tlB:(B.take m).length<=1000:=by rw[c_];lia
  generalize A.take m=A0 at *
  generalize B.take m=B0 at *
  refine⟨be _,fun D fD=>?_⟩
  have fD0:H D=none:=s4.free fD
  have s5:=s4.upd (o:=.lst []) fD0
  have sD:=ag.bA (o:=.lst []) fD
  generalize hC:bV n (A.length+1) A0 B0=C at *
  dsimp only [dy]
  refine aQ (iw (fun σ H'=>∃(v3 v4 v5 v7:Option V) (rc:List Addr),σ=[some (.ref pa),some (.ref pb),some (.int kk),v3,v4,v5,some (.ref D),v7]/\ag H H'/\bc H' D rc C) ?_ ?_)
  ·intro σ H6 hq;obtain ⟨v3,v4,v5,v7,rc,rfl,s6,F6⟩:=hq
   refine⟨_,rfl,pa,_,da,_,_,rfl,s6 _ _ ia,T.aZ,T.dE,dQ _ _ _,_,rfl,_,rfl,?_⟩
   refine wL T F6 fun H7 r s7 b7=>k H7 r (s6.trans s7) ?_
   rw[ce.1]
   exact b7
  ·intro fin
   refine⟨fun mm σ H'=>∃(v7:Option V) (pA pB:Addr) (rA rB rc:List Addr) (A' B' acc:List Perm),acc.length+mm=A.length+1/\σ=[some (.ref pa),some (.ref pb),some (.int kk),some (.ref pA),some (.ref pB),some (.int m),some (.ref D),v7]/\ag H H'/\bc H' pA rA A'/\bc H' pB rB B'/\bc H' D rc acc/\ah n A'/\ah n B'/\Nf n A'/\Nf n B'/\A'.length<=1000/\B'.length<=1000/\pA≠D/\pB≠D/\ah n acc/\acc++bV n mm A' B'=C,
    ⟨A.length+1,none,A2,B2,_,_,[],A0,B0,[],by simp,rfl,s5,⟨sD _ _ FA2.lst,FA2.aI.same sD⟩,⟨sD _ _ FB2.lst,FB2.aI.same sD⟩,⟨au,trivial⟩,aT.1,bT.1,aT.2,bT.2,tlA,tlB,a7 FA2.lst fD,a7 FB2.lst fD,ah.nil,hC⟩,?_⟩
   intro mm σ H6 hq;obtain ⟨v7,pA,pB,rA,rB,rc,A',B',acc,em,rfl,s6,FA6,FB6,FD6,aA,aB,nA,nB,lA,lB,nAD,nBD,aAcc,eC⟩:=hq
   have cl:=ce.2.2
   have cacc:acc.length<=C.length:=by rw[<-eC,bF];lia
   obtain⟨f',rfl⟩:∃f',mm=f'+1:=⟨mm - 1,by lia⟩
   have stop:Wqaraq.meetOf (hd A') (hd B')=Wqaraq.still->acc=C:=fun e=>by
    rw[<-eC]
    unfold bV
    rw[af e,fB]
   have hdA:=d7 hn aA
   have hdB:=d7 hn aB
   refine⟨_,rfl,pA,_,rfl,.inl (ai.of FA6.lst),_,_,rfl,rfl,_,rfl,?_⟩
   rw[aE,FA6.aI.len]
   cases A' with
   |nil=>
    refine aS (fun c=>absurd (a0 c) (by show ¬((0:Int)<((0:Nat):Int));decide)) (fun c=>?_)
    refine dN (fin _ _ ⟨_,_,_,_,rc,rfl,s6,?_⟩)
    rw[<-stop (Iq hdB.aa)]
    exact FD6
   |cons a sa=>
    refine aS (fun c=>?_) (fun c=>absurd (a_ c) (by show ¬¬((0:Int)<((sa.length+1:Nat):Int));lia))
    refine⟨_,rfl,pB,_,rfl,.inl (ai.of FB6.lst),_,_,rfl,rfl,_,rfl,?_⟩
    rw[aE,FB6.aI.len]
    cases B' with
    |nil=>
     refine aS (fun c=>absurd (a0 c) (by show ¬((0:Int)<((0:Nat):Int));decide)) (fun c=>?_)
     refine fin _ _ ⟨_,_,_,_,rc,rfl,s6,?_⟩
     rw[<-stop (by rw[meet_comm hdA.aa hdB.aa];exact Iq hdA.aa)]
     exact FD6
    |cons b sb=>
     refine aS (fun c=>?_) (fun c=>absurd (a_ c) (by show ¬¬((0:Int)<((sb.length+1:Nat):Int));lia))
     refine⟨fun σ' H'=>∃m',m'<f'+1/\∃(v7:Option V) (pA pB:Addr) (rA rB rc:List Addr) (A' B' acc:List Perm),acc.length+m'=A.length+1/\σ'=[some (.ref pa),some (.ref pb),some (.int kk),some (.ref pA),some (.ref pB),some (.int m),some (.ref D),v7]/\ag H H'/\bc H' pA rA A'/\bc H' pB rB B'/\bc H' D rc acc/\ah n A'/\ah n B'/\Nf n A'/\Nf n B'/\A'.length<=1000/\B'.length<=1000/\pA≠D/\pB≠D/\ah n acc/\acc++bV n m' A' B'=C,fun σ' H' h=>h,?_⟩
     obtain⟨xa,hxa,lxa⟩:=FA6.aI.get (i:=0) (f:=a) rfl
     obtain⟨xb,hxb,lxb⟩:=FB6.aI.get (i:=0) (f:=b) rfl
     have g:=eD aA.head.aa aB.head.aa
     have hx:Rt n (Wqaraq.meetOf a b):=Rt.of_le g.aa aA.head g.left
     refine⟨_,rfl,pA,_,_,_,rfl,rfl,ai.of FA6.lst,gv rfl hxa,_,rfl,pB,_,_,_,rfl,rfl,ai.of FB6.lst,gv rfl hxb,?_⟩
     refine⟨xa,xb,a,b,rfl,lxa,lxb,aA.head.aa,aB.head.aa,fun H7 sh s7 fsh h7=>?_⟩
     refine⟨_,rfl,sh,_,rfl,h7,fun H8 s8=>⟨_,rfl,?_⟩⟩
     have s78:=s7.trans s8
     have F8D:bc H8 D rc acc:=⟨s78 _ _ FD6.lst,FD6.aI.same s78⟩
     have F8A:bc H8 pA rA (a::sa):=⟨s78 _ _ FA6.lst,FA6.aI.same s78⟩
     have F8B:bc H8 pB rB (b::sb):=⟨s78 _ _ FB6.lst,FB6.aI.same s78⟩
     refine aS (fun c2=>?_) (fun c2=>?_)
     ·have c2:=a0 c2
      refine fin _ _ ⟨_,_,_,_,rc,rfl,s6.trans s78,?_⟩
      rw[<-stop c2]
      exact F8D
     ·have c2:=a_ c2
      have nD8:D∉rc:=F8D.md (mh aAcc)
      have shD:sh≠D:=fun z=>by rw[z,FD6.lst]at fsh;cases fsh
      have h8:=s8 _ _ h7
      have eCl:acc.length+1<=3000:=by lia
      refine⟨_,rfl,.inl ⟨rfl,_,ai.of F8D.lst⟩,_,rfl,D,_,_,rfl,rfl,F8D.lst,small (by rw[aE,F8D.aI.len];lia),?_⟩
      have b9:bq D H8 (upd H8 D (.lst (rc.map V.ref++[V.ref sh]))):=fun x o e hx=>by rw[ax hx];exact e
      have F9D:bc (upd H8 D (.lst (rc.map V.ref++[V.ref sh]))) D (rc++[sh]) (acc++[Wqaraq.meetOf a b]):=by
       refine⟨by rw[au,cQ];rfl,bp.snoc (b9.aI F8D.aI nD8) ((ax shD).trans h8)⟩
      have nDA:D∉rA:=F8A.aI.ne (mh aA) F8D.lst (j_ rc)
      have nDB:D∉rB:=F8B.aI.ne (mh aB) F8D.lst (j_ rc)
      have F9A:bc (upd H8 D (.lst (rc.map V.ref++[V.ref sh]))) pA rA (a::sa):=⟨b9 _ _ F8A.lst nAD,b9.aI F8A.aI nDA⟩
      have F9B:bc (upd H8 D (.lst (rc.map V.ref++[V.ref sh]))) pB rB (b::sb):=⟨b9 _ _ F8B.lst nBD,b9.aI F8B.aI nDB⟩
      have s9:ag H (upd H8 D (.lst (rc.map V.ref++[V.ref sh]))):=fun x o e=>b9 _ _ ((s6.trans s78) _ _ e) (a7 e fD0)
      have h9:Ls (upd H8 D (.lst (rc.map V.ref++[V.ref sh]))) sh (Wqaraq.meetOf a b):=(ax shD).trans h8
      generalize upd H8 D (.lst (rc.map V.ref++[V.ref sh]))=H9 at *
      have lA':sa.length+1<=1000:=lA
      have lB':sb.length+1<=1000:=lB
      refine⟨_,rfl,_,rfl,pA,sh,rA,a,sa,_,n,rfl,hn,F9A,aA,nA.tail,by lia,h9,hx,fun H10 pA' rA' s10 fA' FA'=>?_⟩
      refine⟨_,rfl,_,rfl,pB,sh,rB,b,sb,_,n,rfl,hn,⟨s10 _ _ F9B.lst,F9B.aI.same s10⟩,aB,nB.tail,by lia,s10 _ _ h9,hx,fun H11 pB' rB' s11 fB' FB'=>?_⟩
      refine⟨f',by lia,_,pA',pB',rA',rB',rc++[sh],quot n (Wqaraq.meetOf a b) (a::sa),quot n (Wqaraq.meetOf a b) (b::sb),acc++[Wqaraq.meetOf a b],?_,rfl,(s9.trans s10).trans s11,⟨s11 _ _ FA'.lst,FA'.aI.same s11⟩,FB',⟨s11 _ _ (s10 _ _ F9D.lst),(F9D.aI.same s10).same s11⟩,jz hn hx aA,jz hn hx aB,j3 hn hx aA nA,j3 hn hx aB nB,cC (Ip _ _ _) lA,cC (Ip _ _ _) lB,?_,?_,ah.append aAcc (ah.cons hx ah.nil),?_⟩
      ·rw[bF,o3];lia
      ·exact fun z=>by rw[z,F9D.lst]at fA';cases fA'
      ·exact fun z=>by rw[z,s10 _ _ F9D.lst]at fB';cases fB'
      ·rw[<-eC,dM]
       have:bV n (f'+1) (a::sa) (b::sb)=Wqaraq.meetOf a b::bV n f' (quot n (Wqaraq.meetOf a b) (a::sa)) (quot n (Wqaraq.meetOf a b) (b::sb)):=by
        rw[bV]
        exact ae c2
       rw[this];rfl
theorem RD{α:Type}{K:PySem.W.Frag}{a:Addr}{l:List α}{em:α->V}{g:TG}{tt:TT}{te:TE}{vs:List Nat}{σ:L2.St}{H:Hp}{Q:VK}{m:Nat}(f:α->V)
  (hq:ai K H a (l.map em))(hm:m=(l.map em).length)(hl:l.length<=100000)(hs:∀(x:α) (H':Hp),x∈l->ag H H'->Ce g tt te vs σ H' (em x) true (f x))(k:bB H Q (l.reverse.map f)):oR g tt te vs σ Q (lK K a m) H:=by
 subst hm
 exact fun D hD=>N_ f hq (small hl) hD (fun x H' hx s R Nx h1=>hs x H' hx s R Nx (fun _=>h1) (fun e=>by cases e)) fun H' s h=>k H' D s hD h
noncomputable def RE(T:Txt K mg):Sp:=fun vs H Q _=>∃n:Nat,vs=[.int n]/\2<=n/\n<=16/\Val H Q (.int ((n * (n - 1) / 2:Nat):Int))
theorem Ir(T:Txt K mg):T.tN.Ok P w base 1 (RE T):=by
 have S:=O4
 refine T.tN.F.ok S (by rintro _ _ _ _ ⟨n,rfl,_⟩;rfl) fun cdv A outer s H vs Q E hr h=>?_
 ·obtain⟨n,rfl,n2,hn,k⟩:=h
  refine⟨_,(ao (az (aC Dj (aC jg (pv 0) (aC cE (pv 0) aq)) aq))),?_⟩
  refine⟨_,rfl,_,rfl,_,_,rfl,rfl,_,_,rfl,rfl,.inl ⟨by lia,by lia⟩,_,_,rfl,rfl,⟨by decide,by decide⟩,?_⟩
  refine jB (k H (ag.refl _)) ?_
  rw[Int.natCast_ediv,Int.natCast_mul,Int.natCast_sub (by lia)];rfl
noncomputable def wQ(F:Form):Int:=(F.factors.map fun a=>(Wqaraq.crossings a:Int)).sum
noncomputable def RF(T:Txt K mg):Sp:=fun vs H Q _=>∃(pa:Addr) (n:Nat) (F:Form),vs=[.ref pa]/\Bd T H pa n F/\aV n F/\F.factors.length<=60/\Val H Q (.int (wQ F))
theorem RG{rs:List Addr}{fs:List Perm}(h:rs.length=fs.length):(rs.zip fs).map (fun z=>V.ref z.1)=rs.map V.ref:=by
 rw[show (fun z:Addr×Perm=>V.ref z.1)=V.ref ∘ Prod.fst from rfl,<-dw,List.map_fst_zip (by lia)]
theorem Iu(T:Txt K mg):T.tO.Ok P w base 2 (RF T):=by
 have S:=O5
 refine T.tO.F.ok S (by rintro _ _ _ _ ⟨pa,n,F,rfl,_⟩;rfl) fun cdv A outer s H vs Q E hr h=>?_
 ·obtain⟨pa,n,F,rfl,⟨da,La,ra,ia,fa⟩,hF,hl,k⟩:=h
  refine⟨_,(ao (az (f_ (LG rfl) rfl T.GX (by decide+kernel) (ak (iQ (own:=[("factor",1)]) rfl S.nd (fJ (ay (pv 0))) (fP (by rfl)) (fun _ _ _ _ _=>(eO (i:=1) S.nd rfl (Or.inl rfl))) (fun _ _ _ _ _=>iP) (fun _ _ _ _ _=>(T.tu.c (HN T) hr (ak (pv 1))))))))),?_⟩
  have rl:=fa.aI.len
  refine a8 (tY (gV ?_))
  refine⟨_,rfl,pa,_,da,_,_,rfl,ia,T.aZ,T.eU,fX _ _ _,La,rfl,⟨_,ai.of fa.lst⟩,qw (l:=ra.zip F.factors) (em:=fun z=>V.ref z.1) (fun _=>true) (fun z=>V.int (Wqaraq.crossings z.2:Nat)) (ai.of (by rw[RG rl];exact fa.lst)) (by rw[List.length_zip];lia) ?_ ?_⟩
  ·intro z H2 hz s2 R Nx k1 k2
   refine⟨rfl,yes ?_⟩
   exact⟨_,rfl,z.1,z.2,rfl,s2 _ _ (fa.aI.mem hz),(hF _ (List.of_mem_zip hz).2).aa,fun H3 s3=>k1 rfl H3 s3⟩
  ·intro H2 D s2 fD h2
   rw[tZ]at h2
   refine⟨D,(ra.zip F.factors).map fun z=>(Wqaraq.crossings z.2:Int),rfl,ai.of (by rw[h2,dw];rfl),?_⟩
   refine jB (k H2 s2) ?_
   unfold wQ
   rw[show (fun z:Addr×Perm=>(Wqaraq.crossings z.2:Int))=(fun a=>(Wqaraq.crossings a:Int)) ∘ Prod.snd from rfl,<-dw,List.map_snd_zip (by lia)]
noncomputable def RH(T:Txt K mg):Sp:=fun vs H Q _=>∃(pa:Addr) (n:Nat) (F:Form),vs=[.ref pa]/\Bd T H pa n F/\2<=n/\n<=16/\aV n F/\F.factors.length<=60/\Val H Q (.int (((F.row n).length:Nat):Int))
theorem RI(F:Form):wQ F=((F.factors.map Wqaraq.crossings).sum:Nat):=by
 unfold wQ
 induction F.factors with
 |nil=>rfl
 |cons a l ih=>rw[dJ,dJ,q_,q_,ih,uA]
theorem Iv{n:Nat}(hn:n<=16):n * (n - 1) / 2<=120:=by
 have:n * (n - 1)<=16 * 15:=Nat.mul_le_mul hn (by lia)
 lia
theorem RJ(T:Txt K mg):T.lW.Ok P w base 3 (RH T):=by
 have S:=O6
 refine T.lW.F.ok S (by rintro _ _ _ _ ⟨pa,n,F,rfl,_⟩;rfl) fun cdv A outer s H vs Q E hr h=>?_
 ·obtain⟨pa,n,F,rfl,hb,n2,hn,hF,hl,k⟩:=h
  refine⟨_,(ao (az (aC cj (aC jg (f_ lE rfl T.kM (by decide+kernel) (ak (ay (pv 0)))) (T.tN.c (Ir T) hr (ak (ay (pv 0))))) (T.tO.c (Iu T) hr (ak (pv 0)))))),?_⟩
  obtain⟨da,La,ra,ia,fa⟩:=id hb
  have tl:=Iv hn
  refine⟨_,rfl,pa,_,da,_,_,rfl,ia,T.aZ,T.eJ,fu _ _ _,_,rfl,_,rfl,pa,_,da,_,_,rfl,ia,T.aZ,T.dE,dQ _ _ _,n,rfl,n2,hn,fun H1 s1=>?_⟩
  refine⟨_,_,rfl,rfl,.inr ⟨by lia,by lia⟩,_,rfl,pa,n,F,rfl,hb.same s1,hF,hl,fun H2 s2=>?_⟩
  refine⟨_,_,rfl,rfl,jB (k H2 (s1.trans s2)) ?_⟩
  rw[mY,(GI hn n2 hF).2,RI,uA,Int.natCast_mul]
noncomputable def RK(T:Txt K mg):Sp:=fun vs H Q _=>∃(pa:Addr) (n:Nat) (F:Form),vs=[.ref pa]/\Bd T H pa n F/\2<=n/\n<=16/\aV n F/\F.factors.length<=60/\Val H Q (.int (Wqaraq.sum (F.row n)))
theorem RL(T:Txt K mg):T.wj.Ok P w base 3 (RK T):=by
 have S:=O8
 refine T.wj.F.ok S (by rintro _ _ _ _ ⟨pa,n,F,rfl,_⟩;rfl) fun cdv A outer s H vs Q E hr h=>?_
 ·obtain⟨pa,n,F,rfl,hb,n2,hn,hF,hl,k⟩:=h
  refine⟨_,(ao (az (aC cj (aC jg (ay (pv 0)) (T.tN.c (Ir T) hr (ak (ay (pv 0))))) (T.tO.c (Iu T) hr (ak (pv 0)))))),?_⟩
  obtain⟨da,La,ra,ia,fa⟩:=id hb
  have tl:=Iv hn
  refine⟨_,rfl,pa,_,da,_,_,rfl,ia,T.aZ,T.eJ,fu _ _ _,_,rfl,pa,_,da,_,_,rfl,ia,T.aZ,T.dE,dQ _ _ _,n,rfl,n2,hn,fun H1 s1=>?_⟩
  refine⟨_,_,rfl,rfl,.inr ⟨by lia,by lia⟩,_,rfl,pa,n,F,rfl,hb.same s1,hF,hl,fun H2 s2=>?_⟩
  refine⟨_,_,rfl,rfl,jB (k H2 (s1.trans s2)) ?_⟩
  rw[(GI hn n2 hF).1]
  rfl
noncomputable def RM(T:Txt K mg):Sp:=fun vs H Q _=>∃(pa:Addr) (n:Nat) (F:Form),vs=[.ref pa]/\Bd T H pa n F/\2<=n/\n<=16/\aV n F/\F.factors.length<=60/\F.twists.natAbs<=100/\bB H Q (iv (F.row n))
theorem RN(k:Nat)(w:List Int):(List.replicate k (iv w)).flatten=iv (Wqaraq.times k w):=by
 unfold Wqaraq.times iv
 rw[<-List.map_replicate,<-List.map_flatten]
theorem RO(T:Txt K mg):T.wg.Ok P w base 3 (RM T):=by
 have S:=O7
 refine T.wg.F.ok S (by rintro _ _ _ _ ⟨pa,n,F,rfl,_⟩;rfl) fun cdv A outer s H vs Q E hr h=>?_
 ·obtain⟨pa,n,F,rfl,hb,n2,hn,hF,hl,ht,k⟩:=h
  refine⟨_,(aj (sv 1 S.nd (T.qp.c (Co T) hr (ak (T.l8.c (qy T) hr (ak (ay (pv 0)))))))
   (aj (bt (a5 gC (ay (pv 0)) aq) (ao (rV (i:=1) (own:=[("crossing",4)]) rfl S.nd rfl rfl rfl (x8 rfl T.vK (ak (pv 1))) (fP (by rfl)) (fun _ _ _ _ _=>(eO (i:=4) S.nd rfl (Or.inl rfl))) (fun _ _ _ _ _=>iP) (fun _ _ _ _ _=>(iM iN (pv 4))))) bx)
   (aj (sv 2 S.nd (aC rO (pv 1) (f_ lE rfl T.kM (by decide+kernel) (ak (ay (pv 0))))))
   (aj (dh PassesOwn.never rfl (fJ (ay (pv 0))) (gn 3 S.nd) (ao (dX (Ci (pv 2) (T.qp.c (Co T) hr (ak (pv 3)))))))
   (ao (az (pv 2))))))),?_⟩
  obtain⟨da,La,ra,ia,fa⟩:=id hb
  have hd:=bX hn
  have rl:=fa.aI.len
  refine⟨_,rfl,pa,_,da,_,_,rfl,ia,T.aZ,T.dE,dQ _ _ _,n,rfl,hn,fun H1 t s1 f1 h1=>?_⟩
  refine⟨t,_,rfl,h1,hd.aa,fun H2 w2 s2 f2 h2=>?_⟩
  have s02:=s1.trans s2
  have wl:=wH hd.aa
  dsimp only [dy]
  refine aQ (iw (fun σ H'=>∃(w3:Addr) (v4:Option V),σ=[some (.ref pa),some (.ref w3),none,none,v4]/\ag H H'/\Li H' w3 (if F.twists<0 then Wqaraq.inverse (Wqaraq.row (Wqaraq.delta n)) else Wqaraq.row (Wqaraq.delta n))) ?_ ?_)
  ·intro σ H3 hq;obtain ⟨w3,v4,rfl,s3,h3⟩:=hq
   generalize hW:(if F.twists<0 then Wqaraq.inverse (Wqaraq.row (Wqaraq.delta n)) else Wqaraq.row (Wqaraq.delta n))=W at *
   have Wl:W.length<=120:=by
    rw[<-hW];split
    ·unfold Wqaraq.inverse;rw[aE,cN];exact wl
    ·exact wl
   have mb:W.length * F.twists.natAbs<=120 * 100:=Nat.mul_le_mul Wl ht
   refine⟨_,rfl,_,rfl,pa,_,da,_,_,rfl,s3 _ _ ia,T.aZ,T.eJ,fu _ _ _,_,rfl,w3,(F.twists.natAbs:Int),_,rfl,by rw[mY],h3,by lia,by lia,cv (by rw[cT,show ((F.twists.natAbs:Nat):Int).toNat=F.twists.natAbs by lia];lia),fun D fD=>?_⟩
   rw[show ((F.twists.natAbs:Nat):Int).toNat=F.twists.natAbs by lia,RN]
   have ep:Wqaraq.times F.twists.natAbs W=Wqaraq.power F.twists (Wqaraq.row (Wqaraq.delta n)):=by
    rw[<-hW];unfold Wqaraq.power
    split<;>rfl
   rw[ep]
   have fD0:=s3.free fD
   have s4:=s3.upd (o:=.lst (iv (Wqaraq.power F.twists (Wqaraq.row (Wqaraq.delta n))))) fD0
   have pl:(Wqaraq.power F.twists (Wqaraq.row (Wqaraq.delta n))).length<=12000:=by
    rw[<-ep,vI,Nat.mul_comm];exact mb
   refine⟨_,rfl,pa,_,da,_,_,rfl,s4 _ _ ia,T.aZ,T.eU,fX _ _ _,La,rfl,⟨_,ai.of (s4 _ _ fa.lst)⟩,mG (xs:=ra.map V.ref) (fun i σ H'=>∃(v3 v4:Option V),σ=[some (.ref pa),some (.ref w3),some (.ref D),v3,v4]/\ag H H'/\Li H' D (Wqaraq.power F.twists (Wqaraq.row (Wqaraq.delta n))++(F.factors.take i).flatMap Wqaraq.row)/\(Wqaraq.power F.twists (Wqaraq.row (Wqaraq.delta n))++(F.factors.take i).flatMap Wqaraq.row).length<=12000+120 * i)
    ⟨none,_,rfl,s4,by rw[ph];show _=some (HO.lst (iv (_++[])));rw[fB];exact au,by rw[ph];show (_++([]:List Int)).length<=_;rw[fB];exact pl⟩ (fun i σ H' _ ⟨_,_,_,s,_⟩=>ai.of (s _ _ fa.lst)) ?_ ?_⟩
   ·intro i x σ H5 hx hq;obtain ⟨v3,v4',rfl,s5,h5,l5⟩:=hq
    have hi:i<F.factors.length:=by
     have:=(dW.mp hx).1
     rwa[aE,rl]at this
    obtain⟨r,hr,lr⟩:=fa.aI.get (bu hi)
    have ex:x=V.ref r:=by
     rw[b_,hr]at hx
     exact(bo hx).symm
    subst ex
    have hfi:Rt n F.factors[i]:=hF _ (i5 hi)
    have rli:=wH hfi.aa
    have tk:F.factors.take (i+1)=F.factors.take i++[F.factors[i]]:=by rw[i7,bu hi];rfl
    have ef:Wqaraq.power F.twists (Wqaraq.row (Wqaraq.delta n))++(F.factors.take (i+1)).flatMap Wqaraq.row=(Wqaraq.power F.twists (Wqaraq.row (Wqaraq.delta n))++(F.factors.take i).flatMap Wqaraq.row)++Wqaraq.row F.factors[i]:=by
     rw[tk,List.flatMap_append,dM]
     simp
    rw[ef]
    generalize Wqaraq.power F.twists (Wqaraq.row (Wqaraq.delta n))++(F.factors.take i).flatMap Wqaraq.row=Z at *
    refine⟨_,rfl,.inl ⟨rfl,_,ai.of h5⟩,_,rfl,r,_,rfl,s5 _ _ lr,hfi.aa,fun H6 y s6 f6 h6=>?_⟩
    refine⟨D,y,_,_,rfl,rfl,s6 _ _ h5,h6,cv (by rw[cT,cT];lia),?_⟩
    refine⟨_,_,rfl,fun b o e=>by rw[ax (a7 e fD0)];exact s6 _ _ (s5 _ _ e),?_,by rw[bF];lia⟩
    show upd _ D _ D=_
    rw[au,wD]
   ·intro σ H5 hq;obtain ⟨v3,v4',rfl,s5,h5,l5⟩:=hq
    rw[aE,rl,gY]at h5
    exact⟨_,rfl,k H5 D s5 fD0 h5⟩
  ·intro fin
   refine dI (ir ?_)
   refine⟨_,rfl,pa,_,da,_,_,rfl,s02 _ _ ia,T.aZ,T.eJ,fu _ _ _,_,_,rfl,rfl,_,rfl,?_⟩
   refine aS (fun c=>?_) (fun c=>?_)
   ·have c:F.twists<0:=a0 c
    refine bz (gV ?_)
    refine⟨_,rfl,w2,_,rfl,ai.of h2,RD (l:=Wqaraq.row (Wqaraq.delta n)) (em:=V.int) (fun c=>V.int (-c)) (ai.of h2) rfl (by lia) ?_ ?_⟩
    ·intro x H3 hx s3 R Nx k1 k2
     refine⟨rfl,yes ?_⟩
     exact⟨_,rfl,_,rfl,k1 rfl _ (ag.refl _)⟩
    ·intro H3 D s3 fD h3
     refine fin _ _ ⟨D,_,rfl,s02.trans s3,?_⟩
     rw[af c]
     show H3 D=_
     rw[h3]
     unfold Wqaraq.inverse iv
     rw[dw];rfl
   ·have c:¬F.twists<0:=a_ c
    refine fin _ _ ⟨w2,_,rfl,s02,?_⟩
    rw[ae c];exact h2
noncomputable def RP(T:Txt K mg):Sp:=fun vs H Q _=>∃(pa:Addr) (n:Nat) (F:Form),vs=[.ref pa]/\Bd T H pa n F/\2<=n/\n<=16/\aV n F/\F.factors.length<=60/\bB H Q (nv ((reach n F).take n))
theorem RQ(T:Txt K mg):T.wk.Ok P w base 2 (RP T):=by
 have S:=O9
 refine T.wk.F.ok S (by rintro _ _ _ _ ⟨pa,n,F,rfl,_⟩;rfl) fun cdv A outer s H vs Q E hr h=>?_
 ·obtain⟨pa,n,F,rfl,⟨da,La,ra,ia,fa⟩,n2,hn,hF,hl,k⟩:=h
  refine⟨_,(aj (sv 1 S.nd (gO (j8 rfl) rfl T.gF k9 (ak (mV rfl T.cM (ak (aN rfl T.dt))))))
   (aj (bt (a5 nu (aC pJ (ay (pv 0)) aq) aq) (ao (sv 1 S.nd (T.l8.c (qy T) hr (ak (ay (pv 0)))))) bx)
   (aj (dh PassesOwn.never rfl (fJ (ay (pv 0))) (gn 2 S.nd) (ao (sv 1 S.nd (T.kP.c (oT T) hr (aR (pv 1) (pv 2))))))
   (ao (az (jS jU (pv 1) lI (iO (ay (pv 0))))))))),?_⟩
  have rl:=fa.aI.len
  refine aQ (bz (tW fun H1 p1 s1 fp1 h1=>?_))
  dsimp only [dy]
  refine aQ (iw (fun σ H'=>∃(p:Addr),σ=[some (.ref pa),some (.ref p),none]/\ag H H'/\Ls H' p (if F.twists % 2=0 then Wqaraq.still else Wqaraq.delta n)) ?_ ?_)
  ·intro σ H2 hq;obtain ⟨p,rfl,s2,h2⟩:=hq
   have h0:Rt n (if F.twists % 2=0 then Wqaraq.still else Wqaraq.delta n):=by
    split
    ·exact jX
    ·exact bX hn
   unfold reach at k
   generalize (if F.twists % 2=0 then Wqaraq.still else Wqaraq.delta n)=P0 at *
   refine⟨_,rfl,pa,_,da,_,_,rfl,s2 _ _ ia,T.aZ,T.eU,fX _ _ _,La,rfl,⟨_,ai.of (s2 _ _ fa.lst)⟩,mG (xs:=ra.map V.ref) (fun i σ H'=>∃(p:Addr) (v2:Option V),σ=[some (.ref pa),some (.ref p),v2]/\ag H H'/\Ls H' p ((F.factors.take i).foldl Wqaraq.then_ P0))
    ⟨p,none,rfl,s2,h2⟩ (fun i σ H' _ ⟨_,_,_,s,_⟩=>ai.of (s _ _ fa.lst)) ?_ ?_⟩
   ·intro i x σ H3 hx hq;obtain ⟨p',v2,rfl,s3,h3⟩:=hq
    have hi:i<F.factors.length:=by
     have:=(dW.mp hx).1
     rwa[aE,rl]at this
    obtain⟨r,hr,lr⟩:=fa.aI.get (bu hi)
    have ex:x=V.ref r:=by
     rw[b_,hr]at hx
     exact(bo hx).symm
    subst ex
    have hfi:Rt n F.factors[i]:=hF _ (i5 hi)
    have tk:F.factors.take (i+1)=F.factors.take i++[F.factors[i]]:=by rw[i7,bu hi];rfl
    have hP:=zR (F.factors.take i) h0 (fun z hz=>hF z (mz hz))
    refine⟨_,rfl,_,rfl,p',r,_,_,rfl,h3,s3 _ _ lr,hP.aa,hfi.aa,fun H4 y s4 f4 h4=>?_⟩
    refine⟨y,_,rfl,s3.trans s4,?_⟩
    rw[tk,jI]
    exact h4
   ·intro σ H3 hq;obtain ⟨p',v2,rfl,s3,h3⟩:=hq
    rw[aE,rl,gY]at h3
    refine⟨_,rfl,_,rfl,pa,_,da,_,_,rfl,s3 _ _ ia,T.aZ,T.dE,dQ _ _ _,_,rfl,p',_,rfl,ai.of h3,fun D fD=>?_⟩
    refine k _ D (s3.upd (s3.free fD)) (s3.free fD) ?_
    rw[au,t_ n rfl,Cg]
  ·intro fin
   refine dI (ir ?_)
   refine⟨_,rfl,pa,_,da,_,_,rfl,s1 _ _ ia,T.aZ,T.eJ,fu _ _ _,_,_,rfl,rfl,by show (0:Int)<2;decide,rfl,_,rfl,?_⟩
   refine aS (fun c=>?_) (fun c=>?_)
   ·have c:=a0 c
    injection c with c
    refine⟨_,rfl,pa,_,da,_,_,rfl,s1 _ _ ia,T.aZ,T.dE,dQ _ _ _,n,rfl,hn,fun H2 p2 s2 f2 h2=>fin _ _ ⟨p2,rfl,s1.trans s2,?_⟩⟩
    rw[ae (by lia)];exact h2
   ·have c:=a_ c
    have:F.twists % 2=0:=k7 fun z=>c (bQ V.int (show F.twists % 2=1 by lia))
    refine fin _ _ ⟨p1,rfl,s1,?_⟩
    rw[af this];exact h1
noncomputable def eW(n:Nat)(f:Nat->Bool):List V:=bv ((List.range n).map f)
theorem wR(n:Nat)(f:Nat->Bool):(eW n f).length=n:=by unfold eW bv;simp
theorem wU{n:Nat}{f:Nat->Bool}{j:Nat}(h:j<n):(eW n f)[j]?=some (.bl (f j)):=by
 unfold eW bv
 rw[b_,b_,qW h];rfl
theorem wV{n:Nat}{f:Nat->Bool}{z:Int}{j:Nat}(e:z=(j:Int))(h:j<n):gP (eW n f) z=some (.bl (f j)):=at_of e (wU h)
theorem Iw{n:Nat}{f:Nat->Bool}{j:Nat}{v:Bool}:(eW n f).set j (.bl v)=eW n (fun k=>if k=j then v else f k):=by
 refine List.ext_getElem? fun i=>?_
 rw[rd,wR]
 by_cases h:i<n
 ·by_cases e:j=i
  ·rw[af e,af (by lia),wU h,af e.symm]
  ·rw[ae e,wU h,wU h,ae (fun q=>e q.symm)]
 ·have z:∀g,(eW n g)[i]?=none:=fun g=>qV (by rw[wR];lia)
  rw[z,z]
  by_cases e:j=i
  ·rw[af e,ae (by lia)]
  ·rw[ae e]
theorem Iy(n:Nat):(List.replicate n [V.bl false]).flatten=eW n (fun _=>false):=by
 unfold eW bv
 rw[dw]
 induction n with
 |zero=>rfl
 |succ n ih=>rw[k5,qT,ih,xm,dJ,dw];rfl
theorem Iz{n:Nat}{f:Nat->Bool}{p:Nat}(hp:p<n)(h:f p=false):(List.range n).countP (fun k=> !(if k=p then true else f k))<(List.range n).countP (fun k=> !f k):=
 sf (fun x _ q=>by
  by_cases e:x=p
  ·rw[af e]at q;cases q
  ·rw[ae e]at q;exact q) ⟨p,a6.mpr hp,by rw[h];rfl,by rw[af rfl];rfl⟩
noncomputable def RR(T:Txt K mg):Sp:=fun vs H Q _=>∃(p:Addr) (n:Nat) (a:Perm),vs=[.ref p]/\n<=16/\Ls H p (a.take n)/\Rt n a/\Val H Q (.int ((Wqaraq.loops n a:Nat):Int))
theorem RS{a:Perm}{n i:Nat}(h:i<n):Wqaraq.at_ (a.take n) i=Wqaraq.at_ a i:=by
 unfold Wqaraq.at_
 rw[eg,eg,List.getElem?_take,af h]
theorem RT(T:Txt K mg):T.wm.Ok P w base 1 (RR T):=by
 have S:=O_
 refine T.wm.F.ok S (by rintro _ _ _ _ ⟨p,n,a,rfl,_⟩;rfl) fun cdv A outer s H vs Q E hr h=>?_
 ·obtain⟨p,n,a,rfl,hn,hp,ha,k⟩:=h
  refine⟨_,(aj (sv 1 S.nd (aC rO (aY (ak kj)) (c9 T.cZ (pv 0))))
   (aj (sv 2 S.nd aq)
   (aj (dh PassesOwn.never rfl (iL rfl T.cM (ak (c9 T.cZ (pv 0)))) (gn 3 S.nd) (aj (bt (d5 (cw (aM (pv 1) (pv 3)))) (ao (sv 2 S.nd (aC cj (pv 2) aq))) bx)
   (aj (sv 4 S.nd (pv 3))
   (ao (jM PassesOwn.never (d5 (cw (aM (pv 1) (pv 4)))) (aj (fI kj (fH (pv 1) (pv 4) set_list))
   (ao (sv 4 S.nd (aM (pv 0) (pv 4))))))))))
   (ao (az (pv 2)))))),?_⟩
  have tl:(nv (a.take n)).length=n:=by rw[cK,c_,ha.aa.len];lia
  have al:(a.take n).length=n:=by rw[c_,ha.aa.len];lia
  have alt:∀i,i<n->Wqaraq.at_ a i<n:=fun i hi=>ha.lt hn hi
  have inj:∀i j,i<n->j<n->Wqaraq.at_ a i=Wqaraq.at_ a j->i=j:=fun i j hi hj e=>ha.aa.inj i j (by lia) (by lia) e
  have zx:=zu alt
  refine⟨by show 1<=sizeLine;exact cv (by decide),fun f0 ff0=>?_⟩
  have s1:=ag.bA (o:=.lst [V.bl false]) ff0
  refine⟨_,rfl,p,_,rfl,.inl (ai.of (s1 _ _ hp)),f0,_,_,rfl,rfl,au,by lia,by lia,cv (by rw[tl];show 1 * ((n:Nat):Int).toNat<=_;lia),fun w fw=>?_⟩
  rw[tl,show ((n:Nat):Int).toNat=n by lia,Iy]
  have s2:=s1.upd (o:=.lst (eW n fun _=>false)) (s1.free fw)
  have fw0:=s1.free fw
  have npw:p≠w:=a7 hp fw0
  refine⟨_,rfl,p,_,rfl,.inl (ai.of (s2 _ _ hp)),n,by rw[tl],by lia,by lia,je (lo:=0) (n:=((n:Nat):Int).toNat) (fun i σ H'=>∃(v3 v4:Option V) (f:Nat->Bool),σ=[some (.ref p),some (.ref w),some (.int ((List.range i).countP (dz (Wqaraq.joined n (ik n (Wqaraq.at_ a)))):Nat)),v3,v4]/\ag H H'/\H' w=some (.lst (eW n f))/\∀q,q<n->(f q=true↔∃j,j<i/\Cn n (ik n (Wqaraq.at_ a)) j q))
   ⟨none,none,_,rfl,s2,au,fun q _=>⟨fun z=>(by cases z),fun ⟨j,hj,_⟩=>(by lia)⟩⟩ ?_ ?_⟩
  ·intro i σ H3 hi hq;obtain ⟨v3,v4,f,rfl,s3,h3,hf⟩:=hq
   have hi:i<n:=by lia
   have e1:(0:Int)+(i:Int)=(i:Int):=by lia
   have first:dz (Wqaraq.joined n (ik n (Wqaraq.at_ a))) i= !f i:=by
    rw[jG,n_,fC,<-o_,hf i hi]
    exact⟨fun z ⟨j,hj,c⟩=>z j hj c,fun z j hj c=>z ⟨j,hj,c⟩⟩
   have cnt1:(List.range (i+1)).countP (dz (Wqaraq.joined n (ik n (Wqaraq.at_ a))))=(List.range i).countP (dz (Wqaraq.joined n (ik n (Wqaraq.at_ a))))+(if f i=true then 0 else 1):=by
    rw[i6,pj,jH,List.countP_nil,first]
    cases f i<;>rfl
   refine cg (aQ (iw (fun σ H'=>∃(v4:Option V),σ=[some (.ref p),some (.ref w),some (.int ((List.range (i+1)).countP (dz (Wqaraq.joined n (ik n (Wqaraq.at_ a)))):Nat)),some (.int (0+i)),v4]/\H'=H3) ?_ ?_))
   ·intro σ H4 hq;obtain ⟨v4,rfl,rfl⟩:=hq
    refine⟨_,rfl,?_⟩
    rw[e1]
    refine⟨fun mm σ H'=>∃(g:Nat->Bool) (kk:Nat),mm=(List.range n).countP (fun q=> !g q)/\σ=[some (.ref p),some (.ref w),some (.int ((List.range (i+1)).countP (dz (Wqaraq.joined n (ik n (Wqaraq.at_ a)))):Nat)),some (.int i),some (.int (it (Wqaraq.at_ a) kk i:Nat))]/\ag H H'/\H' w=some (.lst (eW n g))/\(0<kk->f i=false)/\∀q,q<n->(g q=true↔f q=true\/∃j,j<kk/\it (Wqaraq.at_ a) j i=q),
     ⟨_,f,0,rfl,rfl,s3,h3,fun z=>by lia,fun q _=>⟨.inl,fun z=>z.elim id fun ⟨j,hj,_⟩=>by lia⟩⟩,?_⟩
    intro mm σ H5 hq;obtain ⟨g,kk,rfl,rfl,s5,h5,k0,hg⟩:=hq
    have plt:=oa alt hi kk
    refine⟨_,rfl,_,rfl,w,_,_,_,rfl,rfl,ai.of h5,wV rfl plt,_,rfl,?_⟩
    refine aS (fun c=>?_) (fun c=>?_)
    ·rw[fC]at c
     refine⟨fun σ' H'=>∃m',m'<(List.range n).countP (fun q=> !g q)/\∃(g:Nat->Bool) (kk:Nat),m'=(List.range n).countP (fun q=> !g q)/\σ'=[some (.ref p),some (.ref w),some (.int ((List.range (i+1)).countP (dz (Wqaraq.joined n (ik n (Wqaraq.at_ a)))):Nat)),some (.int i),some (.int (it (Wqaraq.at_ a) kk i:Nat))]/\ag H H'/\H' w=some (.lst (eW n g))/\(0<kk->f i=false)/\∀q,q<n->(g q=true↔f q=true\/∃j,j<kk/\it (Wqaraq.at_ a) j i=q),fun σ' H' h=>h,?_⟩
     refine⟨_,rfl,_,rfl,w,_,_,it (Wqaraq.at_ a) kk i,rfl,rfl,h5,d8 rfl (by rw[wR];exact plt),?_⟩
     have s6:ag H (upd H5 w (.lst ((eW n g).set (it (Wqaraq.at_ a) kk i) (.bl true)))):=s5.upd fw0
     refine⟨_,rfl,_,rfl,p,_,_,_,rfl,rfl,ai.of (s6 _ _ hp),c8 rfl (by rw[al];exact plt),?_⟩
     rw[RS plt]
     refine⟨_,Iz plt c,fun q=>if q=it (Wqaraq.at_ a) kk i then true else g q,kk+1,rfl,rfl,s6,by rw[au,Iw],fun _=>?_,fun q hq=>?_⟩
     ·by_cases z:0<kk
      ·exact k0 z
      ·have z:kk=0:=by lia
       subst z
       rw[<-o_]
       intro y
       have:=(hg i hi).mpr (.inl y)
       rw[show it (Wqaraq.at_ a) 0 i=i from rfl]at c
       rw[c]at this;cases this
     ·show (if q=it (Wqaraq.at_ a) kk i then true else g q)=true↔_
      by_cases e:q=it (Wqaraq.at_ a) kk i
      ·rw[af e]
       exact⟨fun _=>.inr ⟨kk,by lia,e.symm⟩,fun _=>rfl⟩
      ·rw[ae e,hg q hq]
       constructor
       ·rintro(y|⟨j,hj,y⟩)
        ·exact .inl y
        ·exact .inr ⟨j,by lia,y⟩
       ·rintro(y|⟨j,hj,y⟩)
        ·exact .inl y
        ·refine .inr ⟨j,k7 fun z=>e ?_,y⟩
         rw[<-y,show j=kk by lia]
    ·rw[i8]at c
     refine⟨_,_,g,rfl,s5,h5,fun q hq=>?_⟩
     have lo:(∃j,j<i+1/\Cn n (ik n (Wqaraq.at_ a)) j q)↔f q=true\/Cn n (ik n (Wqaraq.at_ a)) i q:=by
      rw[hf q hq]
      constructor
      ·rintro⟨j,hj,y⟩
       by_cases z:j=i
       ·exact .inr (by rw[<-z];exact y)
       ·exact .inl ⟨j,by lia,y⟩
      ·rintro(⟨j,hj,y⟩|y)
       ·exact⟨j,by lia,y⟩
       ·exact⟨i,by lia,y⟩
     rw[lo,hg q hq]
     by_cases z:0<kk
     ·have fi:=k0 z
      have:∃j,j<kk/\it (Wqaraq.at_ a) kk i=it (Wqaraq.at_ a) j i:=by
       rcases(hg _ plt).mp c with y|⟨j,hj,y⟩
       ·exfalso
        obtain⟨j,hj,y⟩:=(hf _ plt).mp y
        have:=(hf i hi).mpr ⟨j,hj,y.trans (zv alt hi kk).symm⟩
        rw[fi]at this;cases this
       ·exact⟨j,hj,y.symm⟩
      obtain⟨j,hj,ej⟩:=this
      constructor
      ·rintro(y|⟨j',hj',y⟩)
       ·exact .inl y
       ·exact .inr (by rw[<-y];exact zv alt hi j')
      ·rintro(y|y)
       ·exact .inl y
       ·exact .inr (Nw alt inj hi hj ej hq y)
     ·have z:kk=0:=by lia
      subst z
      have fi:f i=true:=by
       rcases(hg _ plt).mp c with y|⟨j,hj,_⟩
       ·exact y
       ·lia
      constructor
      ·rintro(y|⟨j',hj',y⟩)
       ·exact .inl y
       ·lia
      ·rintro(y|y)
       ·exact .inl y
       ·obtain⟨j,hj,y'⟩:=(hf i hi).mp fi
        exact .inl ((hf q hq).mpr ⟨j,hj,y'.trans y⟩)
   ·intro fin
    refine⟨_,rfl,_,rfl,w,_,_,_,rfl,rfl,ai.of h3,wV e1 hi,_,rfl,?_⟩
    refine aS (fun c=>?_) (fun c=>?_)
    ·rw[fC]at c
     refine⟨_,rfl,_,_,rfl,rfl,fin _ _ ⟨v4,?_,rfl⟩⟩
     rw[cnt1,c];rfl
    ·rw[i8]at c
     refine fin _ _ ⟨v4,?_,rfl⟩
     rw[cnt1,c];rfl
  ·intro σ H3 hq;obtain ⟨v3,v4,f,rfl,s3,h3,hf⟩:=hq
   refine⟨_,rfl,?_⟩
   rw[show ((n:Nat):Int).toNat=n by lia,<-N2]
   exact k H3 s3
noncomputable def ud(n:Nat)(F:Form)(L:Addr):List V:=[.int n,.int F.twists,.int F.factors.length,.ref L]
noncomputable def RU(T:Txt K mg):Sp:=fun vs H Q _=>∃(pa:Addr) (n:Nat) (F:Form) (dx L:Addr) (rs:List Addr),vs=[.ref pa]/\wK T H pa n F dx L rs/\bB H Q (ud n F L)
theorem wW(T:Txt K mg):T.rank.Ok P w base 1 (RU T):=by
 have S:=O2
 refine T.rank.F.ok S (by rintro _ _ _ _ ⟨pa,n,F,dx,L,rs,rfl,_⟩;rfl) fun cdv A outer s H vs Q E hr h=>?_
 ·obtain⟨pa,n,F,dx,L,rs,rfl,⟨ia,fa⟩,k⟩:=h
  refine⟨_,(ao (az (aY (jP (ay (pv 0)) (jP (ay (pv 0)) (jP (c9 T.cZ (ay (pv 0))) (jP (ay (pv 0)) gN))))))),?_⟩
  refine⟨_,rfl,pa,_,dx,_,_,rfl,ia,T.aZ,T.dE,dQ _ _ _,_,rfl,pa,_,dx,_,_,rfl,ia,T.aZ,T.eJ,fu _ _ _,_,rfl,pa,_,dx,_,_,rfl,ia,T.aZ,T.eU,fX _ _ _,L,_,rfl,.inl (ai.of fa.lst),_,rfl,pa,_,dx,_,_,rfl,ia,T.aZ,T.eU,fX _ _ _,cv (by show 4<=100000;decide),fun D fD=>?_⟩
  refine k _ D (ag.bA fD) fD ?_
  rw[au,aE,fa.aI.len];rfl
noncomputable def iZ(a:Perm):PyData:=.list ((fS a).map PyData.int)
noncomputable def mi(fs:List Perm):PyData:=.list (fs.map iZ)
noncomputable def oV(n:Nat)(F:Form):PyData:=.list [.int n,.int F.twists,.int F.factors.length,mi F.factors]
theorem IA(a b:Perm):PyData.eqv (iZ a) (iZ b)=decide (a=b):=by
 unfold iZ
 rw[Ca,gA]
 exact⟨yS,fun e=>by rw[e]⟩
theorem IB:∀(l m:List Perm),PyData.eqvAll (l.map iZ) (m.map iZ)=decide (l=m)
 |[],[]=>by simp[PyData.eqvAll]
 |[],_::_=>by simp[PyData.eqvAll]
 |_::_,[]=>by simp[PyData.eqvAll]
 |a::l,b::m=>by
  rw[dJ,dJ,PyData.eqvAll,IA,IB l m]
  by_cases h:a=b
  ·subst h;simp
  ·simp[h]
theorem IC(l m:List Perm):PyData.eqv (mi l) (mi m)=decide (l=m):=by
 unfold mi
 rw[PyData.eqv,IB]
theorem RV(n m:Nat)(F G:Form):PyData.eqv (oV n F) (oV m G)=decide (n=m/\F.twists=G.twists/\F.factors.length=G.factors.length/\F.factors=G.factors):=by
 unfold oV
 rw[PyData.eqv,PyData.eqvAll,PyData.eqvAll,PyData.eqvAll,PyData.eqvAll,PyData.eqvAll,IC,PyData.eqv,PyData.eqv,PyData.eqv,jG]
 simp only [br,beq_iff_eq,mB,Bool.and_true]
 constructor
 ·rintro⟨h1,h2,h3,h4⟩;exact⟨by lia,h2,by lia,h4⟩
 ·rintro⟨h1,h2,h3,h4⟩;exact⟨by lia,h2,by lia,h4⟩
theorem RW(a:Perm):PyData.canLay0 (iZ a)=true:=by
 have:=PySem.W.ke_shaped_ints (fS a)
 exact SeqAt.canLay_of_shaped this
theorem ID:∀(l:List Perm),PyData.canLayAll0 (l.map iZ)=true
 |[]=>rfl
 |a::l=>by rw[dJ,PyData.canLayAll0,RW,ID l];rfl
theorem RX(a:Perm):PyData.depth (iZ a)<=1:=by
 unfold iZ
 rw[PyData.depth,PySem.W.ke_depthAll];decide
theorem Cy:∀(l:List Perm),PyData.depthAll (l.map iZ)<=1
 |[]=>by decide
 |a::l=>by
  rw[dJ,PyData.depthAll]
  have:=RX a
  have:=Cy l
  lia
theorem Cz(l:List Perm):SeqAt.shaped (mi l)=true:=by
 unfold SeqAt.shaped mi
 rw[PyData.canLay0,ID,PyData.depth,de (by have:=Cy l;lia)];rfl
theorem IE(n:Nat)(F:Form):SeqAt.shaped (oV n F)=true:=by
 have h:=Cz F.factors
 have c:=SeqAt.canLay_of_shaped h
 have d:PyData.depth (mi F.factors)<=2:=by
  unfold mi;rw[PyData.depth];have:=Cy F.factors;lia
 refine xn.mpr ⟨?_,de ?_⟩
 ·unfold oV
  simp only [PyData.canLay0,PyData.canLayAll0,c,k8]
 ·unfold oV
  simp only [PyData.depth,PyData.depthAll]
  lia
theorem CA{K:PySem.W.Frag}{H:Hp}{p:Addr}{a:Perm}(h:Ls H p a):Dp K H (.ref p) (iZ a):=tX (ns:=fS a) (ai.of (by rw[<-ma];exact h))
theorem IH{K:PySem.W.Frag}{H:Hp}:∀{rs:List Addr}{fs:List Perm},bp H rs fs->nI K H (rs.map V.ref) (fs.map iZ)
 |[],[],_=>.nil
 |[],_::_,h=>h.elim
 |_::_,[],h=>h.elim
 |_::_,_::_,h=>.cons (CA h.1) (IH h.2)
theorem CB{K:PySem.W.Frag}{H:Hp}{L:Addr}{rs:List Addr}{fs:List Perm}(h:bc H L rs fs):Dp K H (.ref L) (mi fs):=.lst (ai.of h.lst) (IH h.aI)
theorem II{K:PySem.W.Frag}{H:Hp}{p L:Addr}{rs:List Addr}{n:Nat}{F:Form}(h:H p=some (.lst (ud n F L)))(f:bc H L rs F.factors):Dp K H (.ref p) (oV n F):=
 .lst (ai.of h) (.cons (.int _) (.cons (.int _) (.cons (.int _) (.cons (CB f) .nil))))
theorem IJ{A:Around}{s:Shared}:∀{a b:List Nat}{us ws:List Value},aK (nv a) us->aK (nv b) ws->iX A s us ws (fW a b)
 |[],[],_,_,r,q=>by cases r;cases q;exact .nn
 |[],_::_,_,_,r,q=>by cases r;cases q;exact .nc
 |_::_,[],_,_,r,q=>by cases r;cases q;exact .cn
 |x::a,y::b,_,_,r,q=>by
  cases r with
  |cons r1 r2=>
   cases q with
   |cons q1 q2=>
    obtain⟨t,rfl⟩:=r1
    obtain⟨t',rfl⟩:=q1
    have e:=SeqAt.EqAt.int_int (A:=A) (s:=s) (x:Int) t (y:Int) t'
    by_cases h:x=y
    ·subst h
     have e':SeqAt.EqAt A s (.int (x:Int) t) (.int (x:Int) t') true:=by simpa using e
     unfold fW
     rw[cy (i0 x),de rfl,Bool.false_or,k8]
     exact .eq e' (IJ r2 q2)
    ·have e':SeqAt.EqAt A s (.int (x:Int) t) (.int (y:Int) t') false:=by
      have z:((x:Int) == (y:Int))=false:=by rw[qP];lia
      rw[z]at e;exact e
     unfold fW
     rw[cy h,Bool.false_and,Bool.or_false]
     refine .ne e' fun prog w E Q qq=>HT.DI A s _ _ _ _ prog w E Q ?_
     rw[show decide ((x:Int)<(y:Int))=decide (x<y) from gA.mpr eK]
     exact qq
section
variable{X:Cx}{pins:List (Addr×Obj)}{σ:L2.St}{H:Hp}{s:Shared}
theorem RY{A:Around}(I:Inv X pins σ H s){p q:Addr}{a b:Perm}(hp:Ls H p a)(hq:Ls H q b)(hu:A.units<cLine):z4 A s (.ref p) (.ref q) (fW a b):=by
 obtain⟨its,r1,p1,_⟩:=I.list (ai.of hp)
 obtain⟨its2,r2,p2,_⟩:=I.list (ai.of hq)
 exact z5 p1 p2 (IJ r1 r2) hu
theorem eq_data{A:Around}(I:Inv X pins σ H s){v u:V}{x y:Value}{d e:PyData}(hd:Dp X.K H v d)(he:Dp X.K H u e)(rx:RelV v x)(ry:RelV u y)(sd:SeqAt.shaped d=true)(se:SeqAt.shaped e=true)(hu:A.in1.units+64<cLine):SeqAt.EqAt A.in1 s x y (PyData.eqv d e):=by
 obtain⟨as,r1⟩:=Dp.reads I d v x hd rx
 obtain⟨bs,r2⟩:=Dp.reads I e u y he ry
 exact SeqAt.eqAt_reads d e A.in1 s x y as bs r1 r2 (SeqAt.canLay_of_shaped sd) (SeqAt.canLay_of_shaped se) (SeqAt.room_of_shaped sd hu)
theorem IK{A:Around}(I:Inv X pins σ H s)(hu:A.in1.units+64<cLine):∀{rs ts:List Addr}{fs gs:List Perm}{us ws:List Value},bp H rs fs->bp H ts gs->aK (rs.map V.ref) us->aK (ts.map V.ref) ws->fs.length=gs.length->iX A.in1 s us ws (lX fs gs)
 |[],[],[],[],_,_,_,_,r,q,_=>by cases r;cases q;exact .nn
 |[],_,_::_,_,_,_,h,_,_,_,_=>h.elim
 |_::_,_,[],_,_,_,h,_,_,_,_=>h.elim
 |_,[],_,_::_,_,_,_,h,_,_,_=>h.elim
 |_,_::_,_,[],_,_,_,h,_,_,_=>h.elim
 |x::rs,y::ts,f::fs,g::gs,_,_,h,h',r,q,hl=>by
  cases r with
  |cons r1 r2=>
   cases q with
   |cons q1 q2=>
    cases r1
    cases q1
    have e:=eq_data (A:=A) I (CA h.1) (CA h'.1) (show RelV (.ref x) (.ref x) from rfl) (show RelV (.ref y) (.ref y) from rfl) (PySem.W.ke_shaped_ints _) (PySem.W.ke_shaped_ints _) hu
    rw[IA]at e
    unfold lX
    by_cases z:f=g
    ·rw[af z]
     rw[de z]at e
     exact .eq e (IK I hu h.2 h'.2 r2 q2 (by simpa using hl))
    ·rw[ae z]
     rw[cy z]at e
     exact .ne e (RY I h.1 h'.1 (by lia))
noncomputable def ue(n m:Nat)(F G:Form):Bool:=
 if n=m then (if F.twists=G.twists then (if F.factors.length=G.factors.length then (if F.factors=G.factors then false else lX F.factors G.factors) else decide (F.factors.length<G.factors.length)) else decide (F.twists<G.twists)) else decide (n<m)
noncomputable def RZ:R2:=fun x y H Q=>∃(p q L M:Addr) (rs ts:List Addr) (n m:Nat) (F G:Form),x=.ref p/\y=.ref q/\H p=some (.lst (ud n F L))/\H q=some (.lst (ud m G M))/\bc H L rs F.factors/\bc H M ts G.factors/\Q (.bl (ue n m F G)) H
theorem CC{A:Around}{s:Shared}{i j:Int}{t t':Tok}{us ws:List Value}{r r':Bool}(h:i=j->iX A s us ws r)(e1:i=j->r'=r)(e2:i≠j->r'=decide (i<j)):iX A s (.int i t::us) (.int j t'::ws) r':=by
 have e:=SeqAt.EqAt.int_int (A:=A) (s:=s) i t j t'
 by_cases z:i=j
 ·rw[e1 z]
  have:(i == j)=true:=beq_iff_eq.mpr z
  rw[this]at e
  exact .eq e (h z)
 ·rw[e2 z]
  have:(i == j)=false:=qP.mpr z
  rw[this]at e
  exact .ne e fun prog w E Q qq=>HT.DI A s _ _ _ _ prog w E Q qq
end
theorem R0{k:Nat}{A:Around}(r:cB k A):A.units+100<cLine:=by have:=r.un;lia
theorem R_{X:Cx}(hu:X.A.units+100<cLine):cW X (compareOp .Lt) RZ:=by
 intro pins s σ H x y v u Q I rx ry h
 obtain⟨p,q,L,M,rs,ts,n,m,F,G,rfl,rfl,hp,hq,fl,fm,k⟩:=h
 cases rx
 cases ry
 obtain⟨its,r1,p1,_⟩:=I.list (ai.of hp)
 obtain⟨its2,r2,p2,_⟩:=I.list (ai.of hq)
 refine z5 p1 p2 (r:=ue n m F G) ?_ (by lia) _ _ _ _ ⟨.bl _,H,I,rfl,k⟩
 unfold ud at r1 r2
 cases r1 with|cons a1 r1=>cases r1 with|cons a2 r1=>cases r1 with|cons a3 r1=>cases r1 with|cons a4 r1=>cases r1 with|nil=>
 cases r2 with|cons b1 r2=>cases r2 with|cons b2 r2=>cases r2 with|cons b3 r2=>cases r2 with|cons b4 r2=>cases r2 with|nil=>
 obtain⟨t1,rfl⟩:=a1
 obtain⟨t2,rfl⟩:=a2
 obtain⟨t3,rfl⟩:=a3
 cases a4
 obtain⟨t5,rfl⟩:=b1
 obtain⟨t6,rfl⟩:=b2
 obtain⟨t7,rfl⟩:=b3
 cases b4
 have iu:X.A.in1.units=X.A.units+1:=rfl
 have iu2:X.A.in1.in1.units=X.A.units+2:=rfl
 unfold ue
 refine CC (r:=if F.twists=G.twists then (if F.factors.length=G.factors.length then (if F.factors=G.factors then false else lX F.factors G.factors) else decide (F.factors.length<G.factors.length)) else decide (F.twists<G.twists)) (fun e1=>?_) (fun e1=>af (by lia)) (fun e1=>by rw[ae (by lia),gA];lia)
 refine CC (r:=if F.factors.length=G.factors.length then (if F.factors=G.factors then false else lX F.factors G.factors) else decide (F.factors.length<G.factors.length)) (fun e2=>?_) (fun e2=>af e2) (fun e2=>ae e2)
 refine CC (r:=if F.factors=G.factors then false else lX F.factors G.factors) (fun e3=>?_) (fun e3=>af (by lia)) (fun e3=>by rw[ae (by lia),gA];lia)
 have ee:=eq_data (A:=X.A) I (CB fl) (CB fm) (show RelV (.ref L) (.ref L) from rfl) (show RelV (.ref M) (.ref M) from rfl) (Cz _) (Cz _) (by lia)
 rw[IC]at ee
 by_cases z:F.factors=G.factors
 ·rw[af z]
  rw[de z]at ee
  exact .eq ee .nn
 ·rw[ae z]
  rw[cy z]at ee
  refine .ne ee ?_
  obtain⟨jts,s1,o1,_⟩:=I.list (ai.of fl.lst)
  obtain⟨jts2,s2,o2,_⟩:=I.list (ai.of fm.lst)
  exact z5 o1 o2 (IK (A:=X.A.in1) I (by lia) fl.aI fm.aI s1 s2 (by lia)) (by lia)
noncomputable def Sa(T:Txt K mg):Sp:=fun vs H Q _=>∃(pa pb:Addr) (n m:Nat) (F G:Form),vs=[.ref pa,.ref pb]/\Bd T H pa n F/\Bd T H pb m G/\n<=16/\m<=16/\aV n F/\aV m G/\Val H Q (.int (Wqaraq.order ⟨n,F⟩ ⟨m,G⟩))
theorem order_eq{n m:Nat}{F G:Form}(hn:n<=16)(hF:aV n F)(hG:aV m G):Wqaraq.order ⟨n,F⟩ ⟨m,G⟩=if n=m/\F.twists=G.twists/\F.factors.length=G.factors.length/\F.factors=G.factors then 0 else if ue n m F G=true then -1 else 1:=by
 unfold Wqaraq.order ue
 dsimp only
 by_cases e1:n=m
 ·subst e1
  rw[ae (i0 n),ae (i0 n),af (rfl:n=n)]
  by_cases e2:F.twists=G.twists
  ·rw[ae (show ¬F.twists<G.twists by lia),ae (show ¬G.twists<F.twists by lia),af e2]
   by_cases e3:F.factors.length=G.factors.length
   ·rw[ae (show ¬F.factors.length<G.factors.length by lia),ae (show ¬G.factors.length<F.factors.length by lia),af e3,GO hn hF hG e3]
    by_cases e4:F.factors=G.factors
    ·rw[af e4,af (show n=n/\F.twists=G.twists/\F.factors.length=G.factors.length/\F.factors=G.factors from ⟨rfl,e2,e3,e4⟩)]
    ·rw[ae e4,ae (show ¬(n=n/\F.twists=G.twists/\F.factors.length=G.factors.length/\F.factors=G.factors) from fun z=>e4 z.2.2.2),ae e4]
   ·rw[ae e3,ae (show ¬(n=n/\F.twists=G.twists/\F.factors.length=G.factors.length/\F.factors=G.factors) from fun z=>e3 z.2.2.1)]
    by_cases c:F.factors.length<G.factors.length
    ·rw[af c,af (de c)]
    ·rw[ae c,af (show G.factors.length<F.factors.length by lia),cy c];rfl
  ·rw[ae e2,ae (show ¬(n=n/\F.twists=G.twists/\F.factors.length=G.factors.length/\F.factors=G.factors) from fun z=>e2 z.2.1)]
   by_cases c:F.twists<G.twists
   ·rw[af c,af (de c)]
   ·rw[ae c,af (show G.twists<F.twists by lia),cy c];rfl
 ·rw[ae (show ¬(n=m/\F.twists=G.twists/\F.factors.length=G.factors.length/\F.factors=G.factors) from fun z=>e1 z.1),ae e1]
  by_cases c:n<m
  ·rw[af c,af (de c)]
  ·rw[ae c,af (show m<n by lia),cy c];rfl
theorem Sb(T:Txt K mg):T.we.Ok P w base 2 (Sa T):=by
 have S:=O3
 refine T.we.F.ok S (by rintro _ _ _ _ ⟨pa,pb,n,m,F,G,rfl,_⟩;rfl) fun cdv A outer s H vs Q E hr h=>?_
 ·obtain⟨pa,pb,n,m,F,G,rfl,⟨da,La,ra,ba⟩,⟨db,Lb,rb,bb⟩,hn,hm,hF,hG,k⟩:=h
  refine⟨_,(aj (bt (a5 (pN hr.units) (T.rank.c (wW T) hr (ak (pv 0))) (T.rank.c (wW T) hr (ak (pv 1)))) (ao (az aq)) bx)
   (ao (az (gM (a5 (R_ (R0 hr)) (T.rank.c (wW T) hr (ak (pv 0))) (T.rank.c (wW T) hr (ak (pv 1)))) (iM iN aq) aq)))),?_⟩
  have oe:=order_eq hn hF hG
  have bs:∀{H1 H2:Hp}{b:Addr}{n:Nat}{F:Form}{dx L:Addr}{rs:List Addr},wK T H1 b n F dx L rs->ag H1 H2->wK T H2 b n F dx L rs:=fun x s=>⟨s _ _ x.ins,s _ _ x.fs.lst,x.fs.aI.same s⟩
  refine⟨_,rfl,pa,n,F,da,La,ra,rfl,ba,fun H1 p1 s1 f1 h1=>?_⟩
  refine⟨_,rfl,pb,m,G,db,Lb,rb,rfl,bs bb s1,fun H2 p2 s2 f2 h2=>?_⟩
  have s02:=s1.trans s2
  refine⟨_,_,II (s2 _ _ h1) (bs ba s02).fs,II h2 (bs bb s02).fs,IE _ _,IE _ _,_,rfl,?_⟩
  rw[RV]
  refine aS (fun c=>?_) (fun c=>?_)
  ·have c:=a0 c
   refine jB (k H2 s02) ?_
   rw[oe,af c]
  ·have c:=a_ c
   refine⟨_,rfl,pa,n,F,da,La,ra,rfl,bs ba s02,fun H3 p3 s3 f3 h3=>?_⟩
   refine⟨_,rfl,pb,m,G,db,Lb,rb,rfl,bs bb (s02.trans s3),fun H4 p4 s4 f4 h4=>?_⟩
   have s04:=(s02.trans s3).trans s4
   refine⟨p3,p4,La,Lb,ra,rb,n,m,F,G,rfl,rfl,s4 _ _ h3,h4,(bs ba s04).fs,(bs bb s04).fs,_,rfl,?_⟩
   refine aS (fun c2=>?_) (fun c2=>?_)
   ·refine⟨_,rfl,jB (k H4 s04) ?_⟩
    rw[oe,ae c,af c2]
   ·refine jB (k H4 s04) ?_
    rw[oe,ae c,c2]
    rfl
theorem wX{C:Addr}{sp:Sp}{dvs:List V}{E:XK}{t:TA}{σ:L2.St}{H:Hp}{Q:VK}(h:t σ H fun vs H1=>∀x dx,H1 x=none->H1 dx=none->dx≠x->
  sp (.ref x::(vs++dvs)) (upd (upd H1 dx (.own x)) x (.ins C dx [])) (fun v H2=>v=.aW/\Q (.ref x) H2) E):uO C sp dvs E t σ H Q:=h
noncomputable def mj(r:Addr)(L:Nat)(ex:Int):List (Str×V):=ck "exponent" (.int ex) (ck "loops" (.int L) (ck "partners" (.ref r) []))
theorem uf(r:Addr)(L:Nat)(ex:Int):(mj r L ex).lookup ("partners":Str)=some (.ref r):=by
 unfold mj;rw[cR,ae (by decide),cR,ae (by decide),cR,af rfl]
theorem wY(r:Addr)(L:Nat)(ex:Int):(mj r L ex).lookup ("loops":Str)=some (.int L):=by
 unfold mj;rw[cR,ae (by decide),cR,af rfl]
theorem wZ(r:Addr)(L:Nat)(ex:Int):(mj r L ex).lookup ("exponent":Str)=some (.int ex):=by
 unfold mj;rw[cR,af rfl]
noncomputable def Sd(T:Txt K mg)(H:Hp)(p:Addr)(P:bN)(dx r:Addr):Prop:=H p=some (.ins T.jA dx (mj r P.L P.ex))/\Ls H r P.p
noncomputable def Pc(T:Txt K mg)(H:Hp)(p:Addr)(P:bN):Prop:=∃dx r,Sd T H p P dx r
theorem Pc.same{T:Txt K mg}{H H':Hp}{p:Addr}{P:bN}(h:Pc T H p P)(s:ag H H'):Pc T H' p P:=by
 obtain⟨dx,r,i,l⟩:=h
 exact⟨dx,r,s _ _ i,s _ _ l⟩
noncomputable def Se(T:Txt K mg):Sp:=fun vs H Q _=>∃(p dx r:Addr) (L:Nat) (ex:Int),vs=[.ref p,.ref r,.int L,.int ex]/\H p=some (.ins T.jA dx [])/\∀H':Hp,bq p H H'->H' p=some (.ins T.jA dx (mj r L ex))->Q .aW H'
theorem w4(T:Txt K mg):T.oQ.Ok mg P w base 1 (Se T):=by
 have S:=PZ
 refine T.oQ.F.ok S (by rintro _ _ _ _ ⟨p,dx,r,L,ex,rfl,_⟩;rfl) fun cdv A outer s H vs Q E hr h=>?_
 ·obtain⟨p,dx,r,L,ex,rfl,hp,q⟩:=h
  refine⟨_,(aj (gZ (pv 0) (pv 1) rfl)
   (aj (gZ (pv 0) (pv 2) rfl)
   (ao (gZ (pv 0) (pv 3) rfl)))),?_⟩
  refine⟨_,rfl,_,rfl,p,_,dx,_,rfl,hp,T.gq,T.og,(by show 0<1000;decide),?_⟩
  refine⟨_,rfl,_,rfl,p,_,dx,_,rfl,au,T.gq,T.qj,(by show 1<1000;decide),?_⟩
  refine⟨_,rfl,_,rfl,p,_,dx,_,rfl,au,T.gq,T.qk,(by show 2<1000;decide),?_⟩
  refine q _ (fun b o e hb=>by rw[ax hb,ax hb,ax hb];exact e) ?_
  rw[au];rfl
theorem w6(T:Txt K mg){H H':Hp}{x dx r:Addr}{P:bN}(h:Ls H r P.p)(nx:H x=none)(nd:H dx=none)(b:bq x (upd (upd H dx (.own x)) x (.ins T.jA dx [])) H')(h':H' x=some (.ins T.jA dx (mj r P.L P.ex))):
  ag H H'/\Pc T H' x P:=by
 have s:ag H H':=ag.made nx nd b
 exact⟨s,dx,r,h',s _ _ h⟩
noncomputable def Sf(T:Txt K mg):Sp:=fun vs H Q _=>∃n:Nat,vs=[.int n]/\n<=16/\∀(H':Hp) (p:Addr),ag H H'->Pc T H' p (cS n)->Q (.ref p) H'
theorem Sg(n:Nat):List.range' n (2 * n - n)++List.range n=lU n:=by
 unfold lU
 rw[show 2 * n=n+n by lia,List.range_add,cQ,dw,Nat.add_sub_cancel]
 congr 1
 ·rw[List.range'_eq_map_range]
  refine gX fun e he=>?_
  rw[af (a6.mp he)]
 ·conv=>lhs;rw[<-List.map_id (List.range n)]
  refine gX fun e he=>?_
  show e=if n+e<n then _ else n+e - n
  rw[ae (by lia)];lia
theorem Si(T:Txt K mg):T.vY.Ok P w base 3 (Sf T):=by
 have S:=OU
 refine T.vY.F.ok S (by rintro _ _ _ _ ⟨n,rfl,_⟩;rfl) fun cdv A outer s H vs Q E hr h=>?_
 ·obtain⟨n,rfl,hn,k⟩:=h
  refine⟨_,(ao (az (T.oQ.c (w4 T) hr T.s_ (dv (aC fO (gO (j8 rfl) rfl T.gF k9 (ak (zX rfl T.cM (aR (pv 0) (aC jg aq (pv 0)))))) (gO (j8 rfl) rfl T.gF k9 (ak (mV rfl T.cM (ak (pv 0)))))) aq aq)))),?_⟩
  refine a8 (wX (bG (iq ?_)))
  refine B_ (va:=.int n) (vb:=.int (2 * n)) n (2 * n) rfl rfl (fun Q' q=>⟨_,rfl,q⟩) (fun Q' q=>⟨_,rfl,_,_,rfl,rfl,.inl ⟨by decide,by decide⟩,q⟩) ⟨by lia,by lia⟩ fun H1 p1 s1 f1 h1=>?_
  refine wF (v:=.int n) n rfl (fun Q' q=>⟨_,rfl,q⟩) (by lia) fun H2 p2 s2 f2 h2=>?_
  refine⟨p1,p2,_,_,rfl,rfl,s2 _ _ h1,h2,cv (by rw[cK,cK,List.length_range',cD];lia),fun p3 f3=>?_⟩
  have s3:=(s1.trans s2).upd (o:=.lst (nv (List.range' n (2 * n - n))++nv (List.range n))) ((s1.trans s2).free f3)
  intro x dx nx nd nxd
  refine⟨x,dx,p3,0,0,rfl,au,fun H4 bb hh=>⟨rfl,?_⟩⟩
  obtain⟨s4,b4⟩:=w6 T (P:=cS n) (r:=p3) (by show upd _ p3 _ p3=_;rw[au,<-wC,Sg];rfl) nx nd bb hh
  exact k H4 x (s3.trans s4) b4
noncomputable def Sj(T:Txt K mg):Sp:=fun vs H Q _=>∃(p:Addr) (l:List Nat) (x y:Nat),vs=[.ref p,.int x,.int y]/\Ls H p l/\x<l.length/\y<l.length/\∀H':Hp,bq p H H'->Ls H' p ((l.set x y).set y x)->Q .aW H'
theorem IL(T:Txt K mg):T.connect.Ok P w base 1 (Sj T):=by
 have S:=OV
 refine T.connect.F.ok S (by rintro _ _ _ _ ⟨p,l,x,y,rfl,_⟩;rfl) fun cdv A outer s H vs Q E hr h=>?_
 ·obtain⟨p,l,x,y,rfl,hp,hx,hy,k⟩:=h
  refine⟨_,(aj (fI (pv 2) (fH (pv 0) (pv 1) set_list))
   (ao (fI (pv 1) (fH (pv 0) (pv 2) set_list)))),?_⟩
  refine⟨_,rfl,_,rfl,_,rfl,p,_,_,x,rfl,rfl,hp,d8 rfl (by rw[cK];exact hx),?_⟩
  refine⟨_,rfl,_,rfl,_,rfl,p,_,_,y,rfl,rfl,au,d8 rfl (by rw[gw,cK];exact hy),?_⟩
  refine k _ (fun b o e hb=>by rw[ax hb,ax hb];exact e) ?_
  show upd _ p _ p=_
  rw[au,l_,l_]
noncomputable def Sk(T:Txt K mg):Sp:=fun vs H Q _=>∃(p:Addr) (P:bN) (n:Nat) (c:Int),vs=[.ref p,.int (sg c)]/\Pc T H p P/\∀(H':Hp) (r:Addr),ag H H'->Pc T H' r (bU n P c false)->Q (.ref r) H'
theorem Sl(T:Txt K mg):T.vZ.Ok P w base 3 (Sk T):=by
 have S:=OW
 refine T.vZ.F.ok S (by rintro _ _ _ _ ⟨p,P,n,c,rfl,_⟩;rfl) fun cdv A outer s H vs Q E hr h=>?_
 ·obtain⟨p,P,n,c,rfl,⟨dx,r,i,l⟩,k⟩:=h
  refine⟨_,(ao (az (T.oQ.c (w4 T) hr T.s_ (dv (ay (pv 0)) (ay (pv 0)) (aC cj (ay (pv 0)) (pv 1)))))),?_⟩
  refine⟨_,rfl,p,_,dx,_,_,rfl,i,T.gq,T.og,uf _ _ _,_,rfl,p,_,dx,_,_,rfl,i,T.gq,T.qj,wY _ _ _,_,rfl,p,_,dx,_,_,rfl,i,T.gq,T.qk,wZ _ _ _,_,rfl,_,_,rfl,rfl,?_⟩
  intro x dx' nx nd nxd
  refine⟨x,dx',r,P.L,P.ex+sg c,rfl,au,fun H4 bb hh=>⟨rfl,?_⟩⟩
  obtain⟨s4,b4⟩:=w6 T (P:=bU n P c false) (r:=r) (by unfold bU;rw[af rfl];exact l) nx nd bb (by unfold bU;rw[af rfl];exact hh)
  exact k H4 x s4 b4
noncomputable def Sn(T:Txt K mg):Sp:=fun vs H Q _=>∃(p:Addr) (P:bN) (n:Nat) (c:Int),vs=[.ref p,.int (n+(c.natAbs - 1):Nat),.int (sg c)]/\Pc T H p P/\Inv2 n P.p/\1<=c.natAbs/\c.natAbs<n/\∀(H':Hp) (r:Addr),ag H H'->Pc T H' r (bU n P c true)->Q (.ref r) H'
theorem So(T:Txt K mg):T.v_.Ok P w base 3 (Sn T):=by
 have S:=OX
 refine T.v_.F.ok S (by rintro _ _ _ _ ⟨p,P,n,c,rfl,_⟩;rfl) fun cdv A outer s H vs Q E hr h=>?_
 ·obtain⟨p,P,n,c,rfl,⟨dx,r,i,l⟩,inv,c1,c2,k⟩:=h
  refine⟨_,(aj (sv 3 S.nd (aC cj (pv 1) aq))
   (aj (bt (a5 nu (aM (ay (pv 0)) (pv 1)) (pv 3)) (ao (az (T.oQ.c (w4 T) hr T.s_ (dv (ay (pv 0)) (aC cj (ay (pv 0)) aq) (aC cE (ay (pv 0)) (pv 2)))))) bx)
   (aj (sv 4 S.nd (gO uS rfl T.gF (by decide+kernel) (ak (ay (pv 0)))))
   (aj (dX (T.connect.c (IL T) hr (dv (pv 4) (aM (pv 4) (pv 1)) (aM (pv 4) (pv 3)))))
   (aj (dX (T.connect.c (IL T) hr (dv (pv 4) (pv 1) (pv 3))))
   (ao (az (T.oQ.c (w4 T) hr T.s_ (dv (pv 4) (ay (pv 0)) (aC cE (ay (pv 0)) (pv 2))))))))))),?_⟩
  have pl:=inv.len
  have hx:n+(c.natAbs - 1)<2 * n:=by lia
  have hy:n+(c.natAbs - 1+1)<2 * n:=by lia
  have ex:((n+(c.natAbs - 1):Nat):Int)+1=((n+(c.natAbs - 1+1):Nat):Int):=by lia
  refine⟨_,rfl,_,_,rfl,rfl,?_⟩
  dsimp only [dy]
  rw[ex]
  refine⟨_,rfl,p,_,dx,_,_,rfl,i,T.gq,T.og,uf _ _ _,_,rfl,r,_,_,_,rfl,rfl,ai.of l,c8 rfl (by lia),_,rfl,rfl,_,rfl,?_⟩
  refine aS (fun cc=>?_) (fun cc=>?_)
  ·have cc:=a0 cc
   injection cc with cc
   have cc:mk P.p (n+(c.natAbs - 1))=n+(c.natAbs - 1+1):=by
    have:((Wqaraq.at_ P.p (n+(c.natAbs - 1)):Nat):Int)=((n+(c.natAbs - 1+1):Nat):Int):=cc
    show Wqaraq.at_ P.p (n+(c.natAbs - 1))=_
    lia
   refine⟨_,rfl,p,_,dx,_,_,rfl,i,T.gq,T.og,uf _ _ _,_,rfl,p,_,dx,_,_,rfl,i,T.gq,T.qj,wY _ _ _,_,_,rfl,rfl,_,rfl,p,_,dx,_,_,rfl,i,T.gq,T.qk,wZ _ _ _,_,rfl,_,_,rfl,rfl,?_⟩
   intro x dx' nx nd nxd
   refine⟨x,dx',r,P.L+1,P.ex - sg c,rfl,au,fun H4 bb hh=>⟨rfl,?_⟩⟩
   have es:bU n P c true=⟨P.p,P.L+1,P.ex - sg c⟩:=by unfold bU;rw[ae (by simp),af cc]
   obtain⟨s4,b4⟩:=w6 T (P:=bU n P c true) (r:=r) (by rw[es];exact l) nx nd bb (by rw[es];exact hh)
   exact k H4 x s4 b4
  ·have cc:=a_ cc
   have cc:mk P.p (n+(c.natAbs - 1))≠n+(c.natAbs - 1+1):=fun z=>cc (by
    show V.int ((Wqaraq.at_ P.p (n+(c.natAbs - 1)):Nat):Int)=_
    have z:Wqaraq.at_ P.p (n+(c.natAbs - 1))=_:=z
    rw[z])
   have lx:=inv.lt _ hx
   have ly:=inv.lt _ hy
   refine⟨_,rfl,p,_,dx,_,_,rfl,i,T.gq,T.og,uf _ _ _,r,_,rfl,.inl (ai.of l),fun q fq=>?_⟩
   have s1:=ag.bA (o:=.lst (nv P.p)) fq
   refine⟨_,rfl,_,rfl,_,rfl,q,_,_,_,rfl,rfl,ai.of au,c8 rfl (by lia),_,rfl,_,rfl,q,_,_,_,rfl,rfl,ai.of au,c8 rfl (by lia),?_⟩
   refine⟨q,P.p,mk P.p (n+(c.natAbs - 1)),mk P.p (n+(c.natAbs - 1+1)),rfl,au,by lia,by lia,fun H2 b2 h2=>?_⟩
   refine⟨_,rfl,_,rfl,_,rfl,q,_,n+(c.natAbs - 1),n+(c.natAbs - 1+1),rfl,h2,by simp only [gw];lia,by simp only [gw];lia,fun H3 b3 h3=>?_⟩
   have s3:ag H H3:=fun b o e=>b3 _ _ (b2 _ _ (s1 _ _ e) (a7 e fq)) (a7 e fq)
   refine⟨_,rfl,_,rfl,p,_,dx,_,_,rfl,s3 _ _ i,T.gq,T.qj,wY _ _ _,_,rfl,p,_,dx,_,_,rfl,s3 _ _ i,T.gq,T.qk,wZ _ _ _,_,rfl,_,_,rfl,rfl,?_⟩
   intro x dx' nx nd nxd
   refine⟨x,dx',q,P.L,P.ex - sg c,rfl,au,fun H4 bb hh=>⟨rfl,?_⟩⟩
   have es:bU n P c true=⟨mU P.p (n+(c.natAbs - 1)) (n+(c.natAbs - 1+1)),P.L,P.ex - sg c⟩:=by unfold bU;rw[ae (by simp),ae cc]
   obtain⟨s4,b4⟩:=w6 T (P:=bU n P c true) (r:=q) (by rw[es];exact h3) nx nd bb (by rw[es];exact hh)
   exact k H4 x (s3.trans s4) b4
noncomputable def dZ(T:Txt K mg)(H:Hp):List Addr->List bN->Prop
 |[],[]=>True
 |r::rs,f::fs=>Pc T H r f/\dZ T H rs fs
 |_,_=>False
theorem dZ.len{T:Txt K mg}{H:Hp}:∀{rs:List Addr}{fs:List bN},dZ T H rs fs->rs.length=fs.length
 |[],[],_=>rfl
 |[],_::_,h=>h.elim
 |_::_,[],h=>h.elim
 |_::rs,_::fs,h=>bQ (·+1) h.2.len
theorem dZ.get{T:Txt K mg}{H:Hp}:∀{rs:List Addr}{fs:List bN}{i:Nat}{f:bN},dZ T H rs fs->fs[i]?=some f->∃r,rs[i]?=some r/\Pc T H r f
 |[],[],i,f,_,e=>by simp at e
 |[],_::_,_,_,h,_=>h.elim
 |_::_,[],_,_,h,_=>h.elim
 |r::rs,g::fs,0,f,h,e=>⟨r,rfl,by rw[<-bo e];exact h.1⟩
 |r::rs,g::fs,i+1,f,h,e=>h.2.get (i:=i) e
theorem dZ.imp{T:Txt K mg}{H H':Hp}:∀{rs:List Addr}{fs:List bN},dZ T H rs fs->(∀r f,f∈fs->Pc T H r f->Pc T H' r f)->dZ T H' rs fs
 |[],[],_,_=>trivial
 |[],_::_,h,_=>h.elim
 |_::_,[],h,_=>h.elim
 |r::rs,f::fs,h,k=>⟨k r f bE h.1,h.2.imp fun r f hf=>k r f (bI _ hf)⟩
theorem dZ.same{T:Txt K mg}{H H':Hp}{rs:List Addr}{fs:List bN}(h:dZ T H rs fs)(s:ag H H'):dZ T H' rs fs:=h.imp fun _ _ _ e=>e.same s
theorem dZ.app{T:Txt K mg}{H:Hp}:∀{rs:List Addr}{fs:List bN}{ts:List Addr}{gs:List bN},dZ T H rs fs->dZ T H ts gs->dZ T H (rs++ts) (fs++gs)
 |[],[],_,_,_,k=>k
 |[],_::_,_,_,h,_=>h.elim
 |_::_,[],_,_,h,_=>h.elim
 |r::rs,f::fs,_,_,h,k=>⟨h.1,h.2.app k⟩
theorem Pc.upd{T:Txt K mg}{H:Hp}{p D:Addr}{P:bN}{qs:List V}{o:HO}(h:Pc T H p P)(l:0<P.p.length)(hD:H D=some (.lst qs))(z:∀i,qs[0]?≠some (.int i)):Pc T (L2.upd H D o) p P:=by
 obtain⟨dx,r,i,l'⟩:=h
 have n1:p≠D:=fun e=>by rw[e,hD]at i;cases i
 have n2:r≠D:=fun e=>by
  rw[e]at l'
  have l':H D=_:=l'
  rw[hD]at l'
  injection l' with l'
  injection l' with l'
  exact z _ (by rw[l'];exact kT l)
 exact⟨dx,r,(ax n1).trans i,(ax n2).trans l'⟩
theorem IM{T:Txt K mg}{a:Addr}{rs:List Addr}{fs:List bN}{g:TG}{tt:TT}{te:TE}{vs:List Nat}{σ:L2.St}{H:Hp}{Q:VK}(F:bN->bN)
  (hl:H a=some (.lst (rs.map V.ref)))(h:dZ T H rs fs)(hz:fs.length<=100000)(h1:∀f,f∈fs->0<(F f).p.length)
  (hs:∀(r:Addr) (f:bN) (H':Hp),f∈fs->ag H H'->Pc T H' r f->∀(R:V->Hp->Prop) (Nx:Hp->Prop),(∀H'' r',ag H' H''->Pc T H'' r' (F f)->R (.ref r') H'')->
   g (.ref r) (wipe σ vs) H' fun σ2 H2=>wipe σ2 vs=wipe σ vs/\tt σ2 H2 fun b H3=>if b=true then te σ2 H3 R else Nx H3)
  (k:∀(H':Hp) (D:Addr) (rs':List Addr),ag H H'->H D=none->H' D=some (.lst (rs'.map V.ref))->dZ T H' rs' (fs.map F)->Q (.ref D) H'):oR g tt te vs σ Q (jN K a) H:=by
 intro D hD
 have rl:=h.len
 refine⟨fun i m H'=>m=fs.length - i/\i<=fs.length/\ag H H'/\∃rs',H' D=some (.lst (rs'.map V.ref))/\dZ T H' rs' ((fs.take i).map F),⟨fs.length,by simp,be _,ag.bA hD,[],au,trivial⟩,?_⟩
 intro i m H1 hq;obtain ⟨rfl,hi,s1,rs1,F1,P1⟩:=hq
 have q:=ai.of (K:=K) (s1 _ _ hl)
 by_cases hlt:i<fs.length
 ·obtain⟨r,hr,lr⟩:=h.get (bu hlt)
  refine .inr ⟨⟨_,V.ref r,q,by rw[b_,hr];rfl⟩,fun H'=>ag H H'/\∃rs',H' D=some (.lst (rs'.map V.ref))/\dZ T H' rs' ((fs.take (i+1)).map F),fun H' h=>⟨fs.length - (i+1),by lia,rfl,hlt,h⟩,fun x H' y=>?_⟩
  obtain⟨e,y⟩:=y
  subst e
  have ex:V.ref r=x:=by
   have z:=y _ q
   rw[b_,hr]at z
   exact bo z
  subst ex
  have hm:=i5 hlt
  refine hs r fs[i] _ hm s1 (lr.same s1) _ _ fun H2 r' s2 l2=>?_
  have F2l:=s2 _ _ F1
  refine⟨_,F2l,?_,(s1.trans s2).upd hD,rs1++[r'],by rw[au,cQ];rfl,?_⟩
  ·rw[aE,P1.len,aE,c_]
   exact small (by lia)
  ·have tk:fs.take (i+1)=fs.take i++[fs[i]]:=by rw[i7,bu hlt];rfl
   rw[tk,cQ]
   refine dZ.app ((P1.same s2).imp fun x f hf e=>?_) ⟨l2.upd (h1 _ hm) F2l (j_ rs1),trivial⟩
   obtain⟨z,hz,rfl⟩:=bZ.mp hf
   exact e.upd (h1 z (mz hz)) F2l (j_ rs1)
 ·have e:i=fs.length:=by lia
  subst e
  rw[gY]at P1
  exact .inl ⟨⟨_,q,by rw[aE,rl];exact aX _⟩,k _ D rs1 s1 hD F1 P1⟩
theorem CD{n:Nat}{P:bN}{c:Int}{b:Bool}(h:Inv2 n P.p)(c1:1<=c.natAbs)(c2:c.natAbs<n):Inv2 n (bU n P c b).p:=by
 unfold bU
 split
 ·exact h
 ·split
  ·exact h
  ·rename_i z
   exact Gk h (by lia) (by lia) (by lia) z
noncomputable def Sq(T:Txt K mg):Sp:=fun vs H Q _=>∃(n:Nat) (p:Addr) (w:List Int),vs=[.int n,.ref p]/\2<=n/\n<=16/\Li H p w/\Wqaraq.fits n w=true/\w.length<=10/\
 ∀(H':Hp) (L:Addr) (rs:List Addr),ag H H'->H' L=some (.lst (rs.map V.ref))->dZ T H' rs (fV n [cS n] w)->(∀P,P∈fV n [cS n] w->Inv2 n P.p)->(fV n [cS n] w).length<=1024->Q (.ref L) H'
theorem Sr(T:Txt K mg):T.wa.Ok P w base 4 (Sq T):=by
 have S:=OY
 refine T.wa.F.ok S (by rintro _ _ _ _ ⟨n,p,w,rfl,_⟩;rfl) fun cdv A outer s H vs Q E hr h=>?_
 ·obtain⟨n,p,w,rfl,n2,hn,hp,hw,hl,k⟩:=h
  refine⟨_,(aj (sv 2 S.nd (aY (ak (T.vY.c (Si T) hr (ak (pv 0))))))
   (aj (dh PassesOwn.never rfl (fJ (pv 1)) (gn 3 S.nd) (aj (sv 4 S.nd (gM (a5 eQ (pv 3) aq) aq (iM iN aq)))
   (aj (sv 5 S.nd (aC cE (aC cj (pv 0) (f_ lE rfl T.kM (by decide+kernel) (ak (pv 3)))) aq))
   (ao (sv 2 S.nd (aC fO (iQ (own:=[("p",6)]) rfl S.nd (fJ (pv 2)) (fP (by rfl)) (fun _ _ _ _ _=>(eO (i:=6) S.nd rfl (Or.inl rfl))) (fun _ _ _ _ _=>iP) (fun _ _ _ _ _=>(T.vZ.c (Sl T) hr (aR (pv 6) (pv 4))))) (iQ (own:=[("p",6)]) rfl S.nd (fJ (pv 2)) (fP (by rfl)) (fun _ _ _ _ _=>(eO (i:=6) S.nd rfl (Or.inl rfl))) (fun _ _ _ _ _=>iP) (fun _ _ _ _ _=>(T.v_.c (So T) hr (dv (pv 6) (pv 5) (pv 4)))))))))))
   (ao (az (pv 2))))),?_⟩
  refine⟨_,rfl,n,rfl,hn,fun H1 p0 s1 b1=>?_⟩
  refine⟨cv (by show 1<=100000;decide),fun L0 f0=>?_⟩
  have s2:=s1.upd (o:=.lst [V.ref p0]) (s1.free f0)
  have sA:=fun i=>w.take i
  refine⟨_,rfl,p,rfl,⟨_,ai.of (s2 _ _ hp)⟩,mG (xs:=iv w) (fun i σ H'=>∃(v3 v4 v5 v6:Option V) (L:Addr) (rs:List Addr),σ=[some (.int n),some (.ref p),some (.ref L),v3,v4,v5,v6]/\ag H H'/\H' L=some (.lst (rs.map V.ref))/\dZ T H' rs (fV n [cS n] (w.take i))/\(∀P,P∈fV n [cS n] (w.take i)->Inv2 n P.p)/\(fV n [cS n] (w.take i)).length=2 ^ i)
   ⟨none,none,none,none,L0,[p0],rfl,s2,au,⟨b1.same (ag.bA f0),trivial⟩,fun P hP=>by rw[gz.mp hP];exact Gj,rfl⟩ (fun i σ H' _ ⟨_,_,_,_,_,_,_,s,_⟩=>ai.of (s _ _ hp)) ?_ ?_⟩
  ·intro i x σ H4 hx hq;obtain ⟨v3,v4,v5,v6,L,rs,rfl,s4,hL,hP,hI,hlen⟩:=hq
   obtain⟨c,hc,rfl⟩:∃c,w[i]?=some c/\x=V.int c:=by
    unfold iv at hx
    rw[b_]at hx
    cases q:w[i]? with
    |none=>rw[q]at hx;cases hx
    |some c=>rw[q]at hx;exact⟨c,rfl,(bo hx).symm⟩
   have tk:w.take (i+1)=w.take i++[c]:=by rw[i7,hc];rfl
   have hcc:Wqaraq.crossing n c=true:=by
    unfold Wqaraq.fits at hw
    rw[mq]at hw
    exact hw c (m_ hc)
   obtain⟨c1,c2⟩:=jx.mp hcc
   have hi:i<w.length:=(dW.mp hc).1
   have ef:fV n [cS n] (w.take (i+1))=(fV n [cS n] (w.take i)).map (fun P=>bU n P c false)++(fV n [cS n] (w.take i)).map (fun P=>bU n P c true):=by
    rw[tk];unfold fV;rw[jI];rfl
   rw[ef]
   have l1024:(fV n [cS n] (w.take i)).length<=1024:=by
    rw[hlen]
    exact cC (Nat.pow_le_pow_right (by decide) (show i<=10 by lia)) (by decide)
   generalize fV n [cS n] (w.take i)=Ps at *
   have pos:∀b,∀P,P∈Ps->0<(bU n P c b).p.length:=fun b P hP=>by rw[(CD (b:=b) (hI P hP) c1 c2).len];lia
   refine cg (aQ (iw (fun σ H'=>σ=[some (.int n),some (.ref p),some (.ref L),some (.int c),some (.int (sg c)),v5,v6]/\H'=H4) ?_ ?_))
   ·rintro σ H5 ⟨rfl,rfl⟩
    refine⟨_,rfl,_,rfl,_,rfl,_,_,rfl,rfl,_,_,rfl,rfl,?_⟩
    dsimp only [dy]
    rw[show (n:Int)+(if c<0 then -c else c) - 1=((n+(c.natAbs - 1):Nat):Int) by rw[mY];lia]
    refine bz (iq (gV ?_))
    refine⟨_,rfl,L,rfl,⟨_,ai.of hL⟩,IM (fun P=>bU n P c false) hL hP (by lia) (pos false) ?_ ?_⟩
    ·intro r f H6 hf s6 p6 R Nx k1
     refine⟨rfl,yes ?_⟩
     exact⟨_,rfl,_,rfl,r,f,n,c,rfl,p6,fun H7 r' s7 b7=>k1 H7 r' s7 b7⟩
    ·intro H6 D1 rs1 s6 f6 h6 p6
     refine gV ?_
     refine⟨_,rfl,L,rfl,⟨_,ai.of (s6 _ _ hL)⟩,IM (fun P=>bU n P c true) (s6 _ _ hL) (hP.same s6) (by lia) (pos true) ?_ ?_⟩
     ·intro r f H7 hf s7 p7 R Nx k1
      refine⟨rfl,yes ?_⟩
      exact⟨_,rfl,_,rfl,_,rfl,r,f,n,c,rfl,p7,hI f hf,c1,c2,fun H8 r' s8 b8=>k1 H8 r' s8 b8⟩
     ·intro H7 D2 rs2 s7 f7 h7 p7
      have l1:rs1.length=Ps.length:=by rw[p6.len,aE]
      have l2:rs2.length=Ps.length:=by rw[p7.len,aE]
      refine⟨D1,D2,_,_,rfl,rfl,s7 _ _ h6,h7,cv (by rw[aE,aE];lia),fun D3 f3=>?_⟩
      have s8:=ag.bA (o:=.lst (rs1.map V.ref++rs2.map V.ref)) f3
      refine⟨_,_,_,_,D3,rs1++rs2,rfl,((s4.trans s6).trans s7).trans s8,by rw[au,cQ],dZ.app ((p6.same s7).same s8) (p7.same s8),fun P hP'=>?_,by rw[bF,aE,aE,hlen,Nat.pow_succ];lia⟩
      rcases dU.mp hP' with hP'|hP'
      ·obtain⟨z,hz,rfl⟩:=bZ.mp hP'
       exact CD (hI z hz) c1 c2
      ·obtain⟨z,hz,rfl⟩:=bZ.mp hP'
       exact CD (hI z hz) c1 c2
   ·intro fin
    refine bz ⟨_,rfl,_,_,rfl,rfl,_,rfl,?_⟩
    refine aS (fun cc=>?_) (fun cc=>?_)
    ·have cc:(0:Int)<c:=a0 cc
     refine fin _ _ ⟨?_,rfl⟩
     unfold sg;rw[af cc];rfl
    ·have cc:¬(0:Int)<c:=a_ cc
     refine⟨_,rfl,fin _ _ ⟨?_,rfl⟩⟩
     unfold sg;rw[ae cc];rfl
  ·intro σ H4 hq;obtain ⟨v3,v4,v5,v6,L,rs,rfl,s4,hL,hP,hI,hlen⟩:=hq
   rw[cT]at hP hI hlen
   rw[gY]at hP hI hlen
   refine⟨_,rfl,k H4 L rs s4 hL hP hI ?_⟩
   rw[hlen]
   exact cC (Nat.pow_le_pow_right (by decide) hl) (by decide)
noncomputable def Ss(T:Txt K mg):Sp:=fun vs H Q _=>∃(n:Nat) (p:Addr) (P:bN),vs=[.int n,.ref p]/\2<=n/\n<=16/\Pc T H p P/\Inv2 n P.p/\Val H Q (.int ((P.L+fU n P.p:Nat):Int))
theorem Su(T:Txt K mg):T.wb.Ok P w base 1 (Ss T):=by
 have S:=OZ
 refine T.wb.F.ok S (by rintro _ _ _ _ ⟨n,p,P,rfl,_⟩;rfl) fun cdv A outer s H vs Q E hr h=>?_
 ·obtain⟨n,p,P,rfl,n2,hn,⟨dx,r,hi0,hr0⟩,inv,k⟩:=h
  refine⟨_,(aj (sv 2 S.nd (aC rO (aY (ak kj)) (pv 0)))
   (aj (sv 3 S.nd (ay (pv 1)))
   (aj (dh PassesOwn.never rfl (iL rfl T.cM (ak (pv 0))) (gn 4 S.nd) (aj (bt (d5 (cw (aM (pv 2) (pv 4)))) (ao (sv 3 S.nd (aC cj (pv 3) aq))) bx)
   (aj (sv 5 S.nd (pv 4))
   (ao (jM PassesOwn.never (d5 (cw (aM (pv 2) (aC pJ (pv 5) (pv 0))))) (aj (fI kj (fH (pv 2) (aC pJ (pv 5) (pv 0)) set_list))
   (ao (sv 5 S.nd (aC pJ (aC cj (aM (ay (pv 1)) (pv 5)) (pv 0)) (aC jg aq (pv 0)))))))))))
   (ao (az (pv 3)))))),?_⟩
  have n0:0<n:=by lia
  have pl:=inv.len
  refine⟨cv (by show 1<=100000;decide),fun f0 ff0=>?_⟩
  have s1:=ag.bA (o:=.lst [V.bl false]) ff0
  refine⟨_,rfl,f0,_,_,rfl,rfl,au,by lia,by lia,cv (by show 1 * ((n:Nat):Int).toNat<=_;lia),fun w fw=>?_⟩
  rw[show ((n:Nat):Int).toNat=n by lia,Iy]
  have s2:=s1.upd (o:=.lst (eW n fun _=>false)) (s1.free fw)
  have fw0:=s1.free fw
  refine⟨_,rfl,p,_,dx,_,_,rfl,s2 _ _ hi0,T.gq,T.qj,wY _ _ _,?_⟩
  refine⟨_,rfl,n,rfl,by lia,by lia,je (lo:=0) (n:=((n:Nat):Int).toNat) (fun i σ H'=>∃(v4 v5:Option V) (f:Nat->Bool),σ=[some (.int n),some (.ref p),some (.ref w),some (.int (P.L+(List.range i).countP (dz (Wqaraq.joined (2 * n) (Ee n P.p))):Nat)),v4,v5]/\ag H H'/\H' w=some (.lst (eW n f))/\∀q,q<n->(f q=true↔∃j,j<i/\Cn (2 * n) (Ee n P.p) j q))
   ⟨none,none,_,rfl,s2,au,fun q _=>⟨fun z=>(by cases z),fun ⟨j,hj,_⟩=>(by lia)⟩⟩ ?_ ?_⟩
  ·intro i σ H3 hi hq;obtain ⟨v4,v5,f,rfl,s3,h3,hf⟩:=hq
   have hi:i<n:=by lia
   have e1:(0:Int)+(i:Int)=(i:Int):=by lia
   have first:dz (Wqaraq.joined (2 * n) (Ee n P.p)) i= !f i:=by
    rw[jG,n_,fC,<-o_,hf i hi]
    exact⟨fun z ⟨j,hj,c⟩=>z j hj c,fun z j hj c=>z ⟨j,hj,c⟩⟩
   have cnt1:(List.range (i+1)).countP (dz (Wqaraq.joined (2 * n) (Ee n P.p)))=(List.range i).countP (dz (Wqaraq.joined (2 * n) (Ee n P.p)))+(if f i=true then 0 else 1):=by
    rw[i6,pj,jH,List.countP_nil,first]
    cases f i<;>rfl
   refine cg (aQ (iw (fun σ H'=>∃(v5:Option V),σ=[some (.int n),some (.ref p),some (.ref w),some (.int (P.L+(List.range (i+1)).countP (dz (Wqaraq.joined (2 * n) (Ee n P.p))):Nat)),some (.int (0+i)),v5]/\H'=H3) ?_ ?_))
   ·intro σ H4 hq;obtain ⟨v5,rfl,rfl⟩:=hq
    refine⟨_,rfl,?_⟩
    rw[e1]
    have hi2:i<2 * n:=by lia
    refine⟨fun mm σ H'=>∃(g:Nat->Bool) (kk:Nat),mm=(List.range n).countP (fun q=> !g q)/\σ=[some (.int n),some (.ref p),some (.ref w),some (.int (P.L+(List.range (i+1)).countP (dz (Wqaraq.joined (2 * n) (Ee n P.p))):Nat)),some (.int i),some (.int (it (bD n P.p) kk i:Nat))]/\ag H H'/\H' w=some (.lst (eW n g))/\(0<kk->f i=false)/\(∀a b,a<kk->b<kk->it (bD n P.p) a i % n=it (bD n P.p) b i % n->a=b)/\∀q,q<n->(g q=true↔f q=true\/∃j,j<kk/\it (bD n P.p) j i % n=q),
     ⟨_,f,0,rfl,rfl,s3,h3,fun z=>by lia,fun a b h1=>by lia,fun q _=>⟨.inl,fun z=>z.elim id fun ⟨j,hj,_⟩=>by lia⟩⟩,?_⟩
    intro mm σ H5 hq;obtain ⟨g,kk,rfl,rfl,s5,h5,k0,kd,hg⟩:=hq
    have elt:=sW inv n0 hi2 kk
    have plt:it (bD n P.p) kk i % n<n:=Nat.mod_lt _ n0
    have em:((it (bD n P.p) kk i:Nat):Int) % (n:Int)=((it (bD n P.p) kk i % n:Nat):Int):=by rw[Int.natCast_emod]
    refine⟨_,rfl,_,rfl,_,rfl,_,_,rfl,rfl,by show (0:Int)<(n:Int);lia,w,_,_,_,rfl,rfl,ai.of h5,wV em plt,_,rfl,?_⟩
    refine aS (fun c=>?_) (fun c=>?_)
    ·rw[fC]at c
     refine⟨fun σ' H'=>∃m',m'<(List.range n).countP (fun q=> !g q)/\∃(g:Nat->Bool) (kk:Nat),m'=(List.range n).countP (fun q=> !g q)/\σ'=[some (.int n),some (.ref p),some (.ref w),some (.int (P.L+(List.range (i+1)).countP (dz (Wqaraq.joined (2 * n) (Ee n P.p))):Nat)),some (.int i),some (.int (it (bD n P.p) kk i:Nat))]/\ag H H'/\H' w=some (.lst (eW n g))/\(0<kk->f i=false)/\(∀a b,a<kk->b<kk->it (bD n P.p) a i % n=it (bD n P.p) b i % n->a=b)/\∀q,q<n->(g q=true↔f q=true\/∃j,j<kk/\it (bD n P.p) j i % n=q),fun σ' H' h=>h,?_⟩
     refine⟨_,rfl,_,rfl,_,rfl,_,_,rfl,rfl,by show (0:Int)<(n:Int);lia,w,_,_,it (bD n P.p) kk i % n,rfl,rfl,h5,d8 em (by rw[wR];exact plt),?_⟩
     have s6:ag H (upd H5 w (.lst ((eW n g).set (it (bD n P.p) kk i % n) (.bl true)))):=s5.upd fw0
     refine⟨_,rfl,p,_,dx,_,_,rfl,s6 _ _ hi0,T.gq,T.og,uf _ _ _,_,rfl,r,_,_,_,rfl,rfl,ai.of (s6 _ _ hr0),c8 rfl (by lia),_,rfl,_,_,rfl,rfl,_,rfl,_,_,rfl,rfl,.inl ⟨by decide,by decide⟩,_,_,rfl,rfl,by show (0:Int)<2 * (n:Int);lia,?_⟩
     refine⟨_,Iz plt c,fun q=>if q=it (bD n P.p) kk i % n then true else g q,kk+1,rfl,?_,s6,by rw[au,Iw],fun _=>?_,fun a b ha hb e=>?_,fun q hq=>?_⟩
     ·show [some (V.int n),some (V.ref p),some (V.ref w),some (V.int _),some (V.int i),some (V.int ((((Wqaraq.at_ P.p (it (bD n P.p) kk i):Nat):Int)+(n:Int)) % (2 * (n:Int))))]=_
      rw[show (((Wqaraq.at_ P.p (it (bD n P.p) kk i):Nat):Int)+(n:Int)) % (2 * (n:Int))=((it (bD n P.p) (kk+1) i:Nat):Int) by
       show _=(((mk P.p (it (bD n P.p) kk i)+n) % (2 * n):Nat):Int)
       rw[Int.natCast_emod,uA,Int.natCast_mul];rfl]
     ·by_cases z:0<kk
      ·exact k0 z
      ·have z:kk=0:=by lia
       subst z
       rw[<-o_]
       intro y
       have:=(hg i hi).mpr (.inl y)
       rw[show it (bD n P.p) 0 i=i from rfl,rh hi]at c
       rw[c]at this;cases this
     ·have nw:∀j,j<kk->it (bD n P.p) j i % n≠it (bD n P.p) kk i % n:=fun j hj z=>by
       have:=(hg _ plt).mpr (.inr ⟨j,hj,z⟩)
       rw[c]at this;cases this
      by_cases za:a=kk
      ·by_cases zb:b=kk
       ·lia
       ·rw[za]at e;exact absurd e.symm (nw b (by lia))
      ·by_cases zb:b=kk
       ·rw[zb]at e;exact absurd e (nw a (by lia))
       ·exact kd a b (by lia) (by lia) e
     ·show (if q=it (bD n P.p) kk i % n then true else g q)=true↔_
      by_cases e:q=it (bD n P.p) kk i % n
      ·rw[af e]
       exact⟨fun _=>.inr ⟨kk,by lia,e.symm⟩,fun _=>rfl⟩
      ·rw[ae e,hg q hq]
       constructor
       ·rintro(y|⟨j,hj,y⟩)
        ·exact .inl y
        ·exact .inr ⟨j,by lia,y⟩
       ·rintro(y|⟨j,hj,y⟩)
        ·exact .inl y
        ·refine .inr ⟨j,k7 fun z=>e ?_,y⟩
         rw[<-y,show j=kk by lia]
    ·rw[i8]at c
     refine⟨_,_,g,rfl,s5,h5,fun q hq=>?_⟩
     have lo:(∃j,j<i+1/\Cn (2 * n) (Ee n P.p) j q)↔f q=true\/Cn (2 * n) (Ee n P.p) i q:=by
      rw[hf q hq]
      constructor
      ·rintro⟨j,hj,y⟩
       by_cases z:j=i
       ·exact .inr (by rw[<-z];exact y)
       ·exact .inl ⟨j,by lia,y⟩
      ·rintro(⟨j,hj,y⟩|y)
       ·exact⟨j,by lia,y⟩
       ·exact⟨i,by lia,y⟩
     have cnw:∀j,Cn (2 * n) (Ee n P.p) i (it (bD n P.p) j i % n):=fun j=>(Gu inv n0 hi2 j).trans (zC inv n0 (sW inv n0 hi2 j))
     rw[lo,hg q hq]
     by_cases z:0<kk
     ·have fi:=k0 z
      have:∃j,j<kk/\it (bD n P.p) kk i % n=it (bD n P.p) j i % n:=by
       rcases(hg _ plt).mp c with y|⟨j,hj,y⟩
       ·exfalso
        obtain⟨j,hj,y⟩:=(hf _ plt).mp y
        have:=(hf i hi).mpr ⟨j,hj,y.trans (cnw kk).symm⟩
        rw[fi]at this;cases this
       ·exact⟨j,hj,y.symm⟩
      obtain⟨j,hj,ej⟩:=this
      constructor
      ·rintro(y|⟨j',hj',y⟩)
       ·exact .inl y
       ·exact .inr (by rw[<-y];exact cnw j')
      ·rintro(y|y)
       ·exact .inl y
       ·exact .inr (NJ inv n0 hi hj kd ej hq y)
     ·have z:kk=0:=by lia
      subst z
      have fi:f i=true:=by
       rcases(hg _ plt).mp c with y|⟨j,hj,_⟩
       ·rw[show it (bD n P.p) 0 i=i from rfl,rh hi]at y
        exact y
       ·lia
      constructor
      ·rintro(y|⟨j',hj',y⟩)
       ·exact .inl y
       ·lia
      ·rintro(y|y)
       ·exact .inl y
       ·obtain⟨j,hj,y'⟩:=(hf i hi).mp fi
        exact .inl ((hf q hq).mpr ⟨j,hj,y'.trans y⟩)
   ·intro fin
    refine⟨_,rfl,_,rfl,w,_,_,_,rfl,rfl,ai.of h3,wV e1 hi,_,rfl,?_⟩
    refine aS (fun c=>?_) (fun c=>?_)
    ·rw[fC]at c
     refine⟨_,rfl,_,_,rfl,rfl,fin _ _ ⟨v5,?_,rfl⟩⟩
     rw[cnt1,c];rfl
    ·rw[i8]at c
     refine fin _ _ ⟨v5,?_,rfl⟩
     rw[cnt1,c];rfl
  ·intro σ H3 hq;obtain ⟨v4,v5,f,rfl,s3,h3,hf⟩:=hq
   refine⟨_,rfl,?_⟩
   rw[show ((n:Nat):Int).toNat=n by lia]
   exact k H3 s3
theorem Sv{K:PySem.W.Frag}{a b:Addr}{l m:List Int}{g:TG}{tt:TT}{te:TE}{vs:List Nat}{σ:L2.St}{H:Hp}{Q:VK}(f:Int->Int->V)
  (hqa:ai K H a (iv l))(hqb:ai K H b (iv m))(hlm:l.length=m.length)(hl:l.length<=100000)
  (hs:∀(x y:Int) (T:Addr) (H':Hp),ag H H'->H' T=none->∀(R:V->Hp->Prop) (Nx:Hp->Prop),(∀H'',ag H' H''->R (f x y) H'')->
   g (.ref T) (wipe σ vs) (upd H' T (.tup [.int x,.int y])) fun σ2 H2=>wipe σ2 vs=wipe σ vs/\tt σ2 H2 fun b H3=>if b=true then te σ2 H3 R else Nx H3)
  (k:bB H Q (List.zipWith f l m)):oR g tt te vs σ Q (pP K a b) H:=fun D hD=>
 Oa f hqa hqb hlm (small hl) hD (fun x y T H' s hT _ R Nx h=>hs x y T H' s hT R Nx h) fun H' s h=>k H' D s hD h
structure ug(H:Hp)(L:Addr)(rs:List Addr)(g:Nat->List Int)(m:Nat):Prop where
 lst:H L=some (.lst (rs.map V.ref))
 len:rs.length=m
 row:∀i r,rs[i]?=some r->Li H r (g i)
noncomputable def Sw(T:Txt K mg):Sp:=fun vs H Q _=>∃m:Nat,vs=[.int m]/\m<=100/\∀(H':Hp) (L:Addr) (rs:List Addr),ag H H'->ug H' L rs pw (m+1)->Q (.ref L) H'
theorem Sx(m:Nat):0<(pw m).length:=by rw[iV];lia
theorem w8{l:List Int}(h:0<l.length):∃z,(iv l)[0]?=some (.int z):=by
 cases l with
 |nil=>simp at h
 |cons x l=>exact⟨x,rfl⟩
theorem Sy(T:Txt K mg):T.wc.Ok P w base 1 (Sw T):=by
 have S:=O0
 refine T.wc.F.ok S (by rintro _ _ _ _ ⟨m,rfl,_⟩;rfl) fun cdv A outer s H vs Q E hr h=>?_
 ·obtain⟨m,rfl,hm,k⟩:=h
  refine⟨_,(aj (sv 1 S.nd (aY (ak (aY (ak aq)))))
   (aj (jM PassesOwn.never (a5 rK (c9 T.cZ (pv 1)) (pv 0)) (aj (sv 2 S.nd (aM (pv 1) (iM iN aq)))
   (ao (dX (j9 (pv 1) (iQ (own:=[("x",3),("y",4)]) rfl S.nd (Mh rfl T.GY (aR (aC fO (aY (ak aq)) (pv 2)) (aC fO (pv 2) (aY (ak aq))))) (fP (by rfl)) (fun _ _ _ _ _=>(Ql (K:=K) rfl (n:=2) rfl (mF (eO (i:=3) S.nd rfl (Or.inl rfl)) (mF (eO (i:=4) S.nd rfl (Or.inl rfl)) uI)))) (fun _ _ _ _ _=>iP) (fun _ _ _ _ _=>(aC cE (iM iN (pv 3)) (pv 4)))))))))
   (ao (az (pv 1))))),?_⟩
  refine⟨cv (by show 1<=100000;decide),fun r0 f0=>⟨cv (by show 1<=100000;decide),fun L fL=>?_⟩⟩
  have s0:=ag.bA (o:=.lst [V.int 1]) f0
  have fL0:=s0.free fL
  have s1:=s0.upd (o:=.lst [V.ref r0]) fL0
  have nr:r0≠L:=fun z=>by rw[<-z,au]at fL;cases fL
  dsimp only [dy]
  refine aQ (iw (fun σ H'=>∃(v2 v3 v4:Option V) (rs:List Addr),σ=[some (.int m),some (.ref L),v2,v3,v4]/\ag H H'/\ug H' L rs pw (m+1)) ?_ ?_)
  ·intro σ H2 hq;obtain ⟨v2,v3,v4,rs,rfl,s2,R2⟩:=hq
   exact⟨_,rfl,k H2 L rs s2 R2⟩
  ·intro fin
   refine⟨fun mm σ H'=>∃(v2 v3 v4:Option V) (rs:List Addr) (i:Nat),mm=m - i/\i<=m/\σ=[some (.int m),some (.ref L),v2,v3,v4]/\ag H H'/\ug H' L rs pw (i+1),
    ⟨_,none,none,none,[r0],0,rfl,be _,rfl,s1,au,rfl,fun i r hr=>?_⟩,?_⟩
   ·have hi:i=0:=by
     have:=(dW.mp hr).1
     simp at this;lia
    subst hi
    have:r0=r:=bo hr
    subst this
    exact(ax nr).trans au
   ·intro mm σ H2 hq;obtain ⟨v2,v3,v4,rs,i,rfl,hi,rfl,s2,R2⟩:=hq
    refine⟨_,rfl,L,_,rfl,.inl (ai.of R2.lst),_,rfl,_,_,rfl,rfl,_,rfl,?_⟩
    rw[aE,R2.len]
    refine aS (fun c=>?_) (fun c=>?_)
    ·have c:((i+1:Nat):Int)<=(m:Int):=a0 c
     refine⟨fun σ' H'=>∃m',m'<m - i/\∃(v2 v3 v4:Option V) (rs:List Addr) (i:Nat),m'=m - i/\i<=m/\σ'=[some (.int m),some (.ref L),v2,v3,v4]/\ag H H'/\ug H' L rs pw (i+1),fun σ' H' h=>h,?_⟩
     have rl:=R2.len
     obtain⟨ry,y,er⟩:∃ry y,rs=ry++[y]:=by
      rcases xt rs with e|⟨ry,y,e⟩
      ·rw[e]at rl;simp at rl
      ·exact⟨ry,y,by rw[xu]at e;exact e⟩
     subst er
     have ryl:ry.length=i:=by simpa using rl
     have hy:=R2.row i y (by rw[<-ryl];exact kW _ _ _)
     refine⟨_,rfl,_,rfl,L,_,_,_,rfl,rfl,ai.of R2.lst,by rw[cQ];exact Cr _ _,?_⟩
     refine⟨_,rfl,.inl ⟨rfl,_,ai.of R2.lst⟩,bG (gV ?_)⟩
     refine⟨cv (by show 1<=100000;decide),fun z0 g0=>?_⟩
     have t1:=ag.bA (o:=.lst [V.int 0]) g0
     refine⟨_,rfl,z0,y,_,_,rfl,rfl,au,t1 _ _ hy,cv (by rw[cT,iV];show 1+_<=_;lia),fun z1 g1=>?_⟩
     have t2:=t1.upd (o:=.lst ([V.int 0]++iv (pw i))) (t1.free g1)
     refine⟨_,rfl,cv (by show 1<=100000;decide),fun z2 g2=>?_⟩
     have t3:=t2.upd (o:=.lst [V.int 0]) (t2.free g2)
     refine⟨y,z2,_,_,rfl,rfl,t3 _ _ hy,au,cv (by rw[cT,iV];show _+1<=_;lia),fun z3 g3=>?_⟩
     have t4:=t3.upd (o:=.lst (iv (pw i)++[V.int 0])) (t3.free g3)
     have n12:z1≠z2:=fun e=>by rw[<-e,au]at g2;cases g2
     have n13:z1≠z3:=fun e=>by rw[<-e,ax n12,au]at g3;cases g3
     refine⟨z1,z3,_,_,rfl,ai.of ((ax n13).trans ((ax n12).trans au)),ai.of au,Sv (l:=0::pw i) (m:=pw i++[0]) (fun x y=>V.int (-x - y)) (ai.of ((ax n13).trans ((ax n12).trans au))) (ai.of (by rw[au,wD];rfl)) (by simp) (by rw[bO,iV];lia) ?_ ?_⟩
     ·intro x y' Tp H3 s3 hT R Nx k1
      refine⟨Tp,_,rfl,fF.of au,rfl,_,_,rfl,_,_,rfl,rfl,?_⟩
      refine⟨rfl,yes ?_⟩
      exact⟨_,rfl,_,rfl,_,rfl,_,_,rfl,rfl,k1 _ (ag.bA hT)⟩
     ·intro H3 D s3 fD h3
      have h3:Li H3 D (pw (i+1)):=by
       show H3 D=_
       rw[h3,NP]
       unfold iv
       rw[List.map_zipWith]
      have s23:=t4.trans s3
      have R3l:=s23 _ _ R2.lst
      have nDL:D≠L:=fun e=>by rw[e,t4 _ _ R2.lst]at fD;cases fD
      refine⟨L,_,_,rfl,rfl,R3l,small (by rw[aE,R2.len];lia),?_⟩
      refine⟨_,?_,_,_,_,(ry++[y])++[D],i+1,rfl,by lia,rfl,fun b o e=>by rw[ax (a7 e fL0)];exact s23 _ _ (s2 _ _ e),by rw[au];simp,by rw[bF,R2.len];rfl,fun j x hx=>?_⟩
      ·lia
      ·by_cases hj:j<i+1
       ·rw[qQ (by rw[R2.len];exact hj)]at hx
        have hxx:=R2.row j x hx
        have:x≠L:=fun e=>by
         rw[e]at hxx
         have hxx:H2 L=_:=hxx
         rw[R2.lst]at hxx
         injection hxx with hxx
         injection hxx with hxx
         obtain⟨z,hz⟩:=w8 (Sx j)
         exact j_ _ z (by rw[hxx];exact hz)
        exact(ax this).trans (s23 _ _ hxx)
       ·rw[oZ (by rw[R2.len];lia),R2.len]at hx
        have:j - (i+1)=0:=by
         have:=(dW.mp hx).1
         simp at this;lia
        rw[this]at hx
        have ex:D=x:=bo hx
        rw[<-ex,show j=i+1 by lia]
        exact(ax nDL).trans h3
    ·have c:¬((i+1:Nat):Int)<=(m:Int):=a_ c
     refine fin _ _ ⟨_,_,_,rs,rfl,s2,?_⟩
     rw[show m=i by lia];exact R2
noncomputable def Sz(T:Txt K mg):Sp:=fun vs H Q _=>∃(n:Nat) (p:Addr) (w:List Int),vs=[.int n,.ref p]/\2<=n/\n<=6/\Li H p w/\Wqaraq.fits n w=true/\w.length<=10/\bB H Q (iv (Wqaraq.statesOf n w))
noncomputable def iz(most:Nat)(n:Nat)(Ps:List bN):List Int:=(List.range (2 * most+1)).map fun (x:Nat)=>Ps.foldl (fun (a:Int) (P:bN)=>a+Wqaraq.ring (P.L+fU n P.p - 1) ((x:Int) - (most:Int) - P.ex)) 0
noncomputable def part(least k m:Nat)(x:Nat):Int:=if least<=x/\(x - least) % 4=0/\(x - least) / 4<k then sgn m * (Wqaraq.binomial m ((x - least) / 4):Nat) else 0
theorem SA{least k m x:Nat}:part least (k+1) m x=part least k m x+(if x=least+4 * k then sgn m * (Wqaraq.binomial m k:Nat) else 0):=by
 unfold part
 by_cases e:x=least+4 * k
 ·subst e
  rw[af ⟨by lia,by lia,by lia⟩,ae (by lia),af rfl,show (least+4 * k - least) / 4=k by lia];lia
 ·rw[ae e,mx]
  by_cases c:least<=x/\(x - least) % 4=0/\(x - least) / 4<k
  ·rw[af c,af ⟨c.1,c.2.1,by lia⟩]
  ·rw[ae c,ae (by lia)]
theorem SD{least most m x:Nat}{ex:Int}(h:(least:Int)=(most:Int)+ex - 2 * (m:Int)):part least (m+1) m x=Wqaraq.ring m ((x:Int) - (most:Int) - ex):=by
 have r:=NQ (m:=m) (x:=x) (lo:=(least:Int)) (e:=(most:Int)+ex) (by lia)
 rw[show (x:Int) - (most:Int) - ex=(x:Int) - ((most:Int)+ex) by lia,r]
 unfold part
 by_cases c:least<=x/\(x - least) % 4=0/\(x - least) / 4<m+1
 ·rw[af c,af (by lia)]
  congr 3
  lia
 ·rw[ae c,ae (by lia)]
theorem SE{q y:Nat}{f:Nat->Int}{v:Int}:((List.range q).map f).set y v=(List.range q).map fun x=>if x=y then v else f x:=by
 refine List.ext_getElem? fun j=>?_
 rw[rd,b_,b_,aE,cD]
 by_cases hj:j<q
 ·rw[qW hj]
  by_cases e:y=j
  ·subst e
   rw[af rfl,af hj]
   show _=some (if y=y then v else f y)
   rw[af rfl]
  ·rw[ae e]
   show some (f j)=some (if j=y then v else f j)
   rw[ae (fun z=>e z.symm)]
 ·rw[qV (l:=List.range q) (by rw[cD];lia)]
  by_cases e:y=j
  ·rw[af e,ae (by lia)];rfl
  ·rw[ae e];rfl
noncomputable def so(most n:Nat)(Ps:List bN)(x:Nat):Int:=Ps.foldl (fun (a:Int) (P:bN)=>a+Wqaraq.ring (P.L+fU n P.p - 1) ((x:Int) - (most:Int) - P.ex)) 0
theorem IP{most n:Nat}{Ps:List bN}:iz most n Ps=(List.range (2 * most+1)).map (so most n Ps):=rfl
theorem SF{most n:Nat}{Ps:List bN}{P:bN}{x:Nat}:so most n (Ps++[P]) x=so most n Ps x+Wqaraq.ring (P.L+fU n P.p - 1) ((x:Int) - (most:Int) - P.ex):=by unfold so;rw[jI];rfl
noncomputable def mid(most n:Nat)(Ps:List bN)(least k m:Nat):List Int:=(List.range (2 * most+1)).map fun x=>so most n Ps x+part least k m x
theorem SG{most n:Nat}{Ps:List bN}{least m:Nat}:mid most n Ps least 0 m=iz most n Ps:=by
 rw[IP];unfold mid
 refine gX fun x _=>?_
 unfold part
 rw[ae (by lia),mx]
theorem SH{most n:Nat}{Ps:List bN}{least k m x:Nat}(h:x<2 * most+1):(mid most n Ps least k m)[x]?=some (so most n Ps x+part least k m x):=by
 unfold mid;rw[b_,qW h];rfl
theorem SI{most n:Nat}{Ps:List bN}{least k m:Nat}:(mid most n Ps least k m).set (least+4 * k) (so most n Ps (least+4 * k)+part least k m (least+4 * k)+sgn m * (Wqaraq.binomial m k:Nat))=mid most n Ps least (k+1) m:=by
 unfold mid
 rw[SE]
 refine gX fun x _=>?_
 rw[SA]
 by_cases e:x=least+4 * k
 ·rw[af e,af e,e];lia
 ·rw[ae e,ae e];lia
theorem SJ{most n:Nat}{Ps:List bN}{least k m:Nat}:(mid most n Ps least k m).length=2 * most+1:=by unfold mid;rw[aE,cD]
theorem SK{most n:Nat}{Ps:List bN}{P:bN}{least:Nat}(h:(least:Int)=(most:Int)+P.ex - 2 * ((P.L+fU n P.p - 1:Nat):Int)):mid most n Ps least (P.L+fU n P.p - 1+1) (P.L+fU n P.p - 1)=iz most n (Ps++[P]):=by
 rw[IP];unfold mid
 refine gX fun x _=>?_
 rw[SF,SD h]
theorem SM(T:Txt K mg):T.wd.Ok P w base 5 (Sz T):=by
 have S:=O1
 refine T.wd.F.ok S (by rintro _ _ _ _ ⟨n,p,w,rfl,_⟩;rfl) fun cdv A outer s H vs Q E hr h=>?_
 ·obtain⟨n,p,w,rfl,n2,hn,hp,hw,hl,k⟩:=h
  refine⟨_,(aj (sv 2 S.nd (aC cj (aC jg aq (c9 T.cZ (pv 1))) (aN rfl T.G4)))
   (aj (sv 3 S.nd (aC rO (aY (ak aq)) (aC cj (aC jg aq (pv 2)) aq)))
   (aj (sv 4 S.nd (T.wc.c (Sy T) hr (ak (aC cj (pv 0) (c9 T.cZ (pv 1))))))
   (aj (dh PassesOwn.never rfl (fJ (T.wa.c (Sr T) hr (aR (pv 0) (pv 1)))) (gn 5 S.nd) (aj (sv 6 S.nd (aC cE (T.wb.c (Su T) hr (aR (pv 0) (pv 5))) aq))
   (aj (sv 7 S.nd (aC cE (aC cj (pv 2) (ay (pv 5))) (aC jg aq (pv 6))))
   (ao (dh PassesOwn.never rfl (x9 rfl T.vJ (ak (aM (pv 4) (pv 6)))) (uJ rfl (mF (gn 8 S.nd) (mF (gn 9 S.nd) uI))) (ao (fI (aC cj (aM (pv 3) (aC cj (pv 7) (aC jg aq (pv 8)))) (pv 9)) (fH (pv 3) (aC cj (pv 7) (aC jg aq (pv 8))) set_list))))))))
   (ao (az (pv 3))))))),?_⟩
  refine⟨_,rfl,p,_,rfl,.inl (ai.of hp),_,_,rfl,rfl,.inl ⟨by decide,by decide⟩,_,_,rfl,rfl,?_⟩
  dsimp only [dy]
  rw[cT,show (3:Int) * (w.length:Int)+16=((3 * w.length+16:Nat):Int) by lia]
  rw[Gw hw]at k
  have hms:3 * w.length+16<=46:=by lia
  have hml:w.length=(3 * w.length+16 - 16) / 3:=by lia
  generalize hmost:3 * w.length+16=most at *
  refine⟨cv (by show 1<=100000;decide),fun z0 g0=>?_⟩
  have s0:=ag.bA (o:=.lst [V.int 0]) g0
  refine⟨_,rfl,_,_,rfl,rfl,.inl ⟨by decide,by decide⟩,_,_,rfl,rfl,z0,_,_,rfl,rfl,au,by lia,by lia,cv (by show 1 * _<=_;lia),fun N fN=>?_⟩
  have fN0:=s0.free fN
  have e0:(List.replicate ((2:Int) * (most:Int)+1).toNat [V.int 0]).flatten=iv (iz most n []):=by
   rw[show ((2:Int) * (most:Int)+1).toNat=2 * most+1 by lia]
   unfold iz iv
   rw[dw]
   generalize 2 * most+1=q
   induction q with
   |zero=>rfl
   |succ q ih=>rw[k5,qT,ih,xm,dJ,dw];rfl
  rw[e0]
  have s1:=s0.upd (o:=.lst (iv (iz most n []))) fN0
  refine⟨_,rfl,_,rfl,p,_,rfl,.inl (ai.of (s1 _ _ hp)),_,_,rfl,rfl,n+w.length,by rw[cT];rfl,by lia,fun H2 L rs s2 R2=>?_⟩
  have s02:=s1.trans s2
  have hN2:=s2 _ _ (au (H:=upd H z0 (.lst [V.int 0])) (a:=N) (o:=.lst (iv (iz most n []))))
  refine⟨_,rfl,_,rfl,n,p,w,rfl,n2,by lia,s02 _ _ hp,hw,hl,fun H3 M ms s3 h3 P3 I3 l3=>?_⟩
  have s03:=s02.trans s3
  have R3:ug H3 L rs pw (n+w.length+1):=⟨s3 _ _ R2.lst,R2.len,fun i r hr=>s3 _ _ (R2.row i r hr)⟩
  have hN3:=s3 _ _ hN2
  have bnd:∀P,P∈fV n [cS n] w->P.L<=w.length/\P.ex<=w.length/\ -(w.length:Int)<=P.ex:=by
   intro P hP
   rw[zH]at hP
   obtain⟨s,hs,hP⟩:=List.mem_flatMap.mp hP
   have hP:P=dY n (cS n) w s:=by simpa using hP
   have sl:=zI _ s hs
   obtain⟨_,b1,b2,b3⟩:=zE (n:=n) w s (cS n) sl.symm
   rw[hP]
   have z1:(cS n).L=0:=rfl
   have z2:(cS n).ex=0:=rfl
   rw[z1]at b1
   rw[z2]at b2 b3
   exact⟨by lia,by lia,by lia⟩
  generalize fV n [cS n] w=Ps at *
  have nN:∀{b:Addr}{o:HO},H b=some o->b≠N:=fun e=>a7 e fN0
  have Mne:M≠N:=fun e=>by
   rw[e,hN3]at h3
   injection h3 with h3
   injection h3 with h3
   obtain⟨z,hz⟩:=w8 (l:=iz most n []) (by unfold iz;rw[aE,cD];lia)
   exact j_ ms z (by rw[<-h3];exact hz)
  have Lne:L≠N:=fun e=>by
   have h4:=R3.lst
   rw[e,hN3]at h4
   injection h4 with h4
   injection h4 with h4
   obtain⟨z,hz⟩:=w8 (l:=iz most n []) (by unfold iz;rw[aE,cD];lia)
   exact j_ rs z (by rw[<-h4];exact hz)
  have lsf:∀Qs,(iz most n Qs).length=2 * most+1:=fun Qs=>by unfold iz;rw[aE,cD]
  have rne:∀i r,rs[i]?=some r->r≠N:=fun i r hr e=>by
   have h4:=R3.row i r hr
   rw[e]at h4
   have h4:H3 N=_:=h4
   rw[hN3]at h4
   injection h4 with h4
   injection h4 with h4
   have:=bQ List.length h4
   rw[cT,cT,lsf,iV]at this
   have il:i<n+w.length+1:=by rw[<-R3.len];exact(dW.mp hr).1
   lia
  have pne:∀r f,f∈Ps->Pc T H3 r f->∀H',bq N H3 H'->Pc T H' r f:=by
   intro r f hf hq H' b;obtain ⟨dx,q,i1,i2⟩:=hq
   refine⟨dx,q,b _ _ i1 fun e=>?_,b _ _ i2 fun e=>?_⟩
   ·rw[e,hN3]at i1;cases i1
   ·rw[e]at i2
    have i2:H3 N=_:=i2
    rw[hN3]at i2
    injection i2 with i2
    injection i2 with i2
    have:=bQ List.length i2
    rw[cT,cK,lsf,(I3 f hf).len]at this
    lia
  have ml:=P3.len
  refine⟨M,rfl,⟨_,ai.of h3⟩,mG (xs:=ms.map V.ref) (fun i σ H'=>∃(v5 v6 v7 v8 v9:Option V),σ=[some (.int n),some (.ref p),some (.int most),some (.ref N),some (.ref L),v5,v6,v7,v8,v9]/\bq N H3 H'/\Li H' N (iz most n (Ps.take i)))
   ⟨none,none,none,none,none,rfl,fun b o e _=>e,by rw[ph];exact hN3⟩ ?_ ?_ ?_⟩
  ·intro i σ H' hi hq;obtain ⟨v5,v6,v7,v8,v9,rfl,b,_⟩:=hq
   exact ai.of (b _ _ h3 Mne)
  ·intro i x σ H' hx hq;obtain ⟨v5,v6,v7,v8,v9,rfl,b,hN⟩:=hq
   have il:i<Ps.length:=by
    have:=(dW.mp hx).1
    rw[aE]at this;lia
   have hf:Ps[i]?=some Ps[i]:=bu il
   have hmem:Ps[i]∈Ps:=i5 il
   have htk:Ps.take (i+1)=Ps.take i++[Ps[i]]:=by rw[List.take_succ,hf];rfl
   generalize Ps[i]=f at hf hmem htk
   obtain⟨r,hr,hPc⟩:=P3.get hf
   rw[b_,hr]at hx
   have hx:V.ref r=x:=bo hx
   subst hx
   have hPc':=pne r f hmem hPc H' b
   obtain⟨bL,be1,be2⟩:=bnd f hmem
   have fp:=NN (n:=n) (p:=f.p) (by lia)
   have fl:=NO (n:=n) (p:=f.p)
   obtain⟨pow,hpow⟩:∃pow,pow=f.L+fU n f.p - 1:=⟨_,rfl⟩
   refine cg (aQ (bz (iq ⟨_,rfl,_,rfl,n,r,f,rfl,n2,by lia,hPc',I3 f hmem,fun H4 s4=>?_⟩)))
   refine⟨_,_,rfl,rfl,?_⟩
   have ep:((f.L+fU n f.p:Nat):Int) - 1=(pow:Int):=by lia
   dsimp only
   rw[ep]
   have hPc4:=hPc'.same s4
   obtain⟨dx,q,i1,i2⟩:=hPc4
   obtain⟨least,hleast⟩:∃least:Nat,(least:Int)=(most:Int)+f.ex - 2 * (pow:Int):=⟨((most:Int)+f.ex - 2 * (pow:Int)).toNat,by lia⟩
   have powle:pow<n+w.length+1:=by lia
   obtain⟨rr,hrr⟩:∃rr,rs[pow]?=some rr:=⟨_,bu (by rw[R3.len];exact powle)⟩
   have hrow:=R3.row pow rr hrr
   refine cg (aQ (bz (iq (iq ⟨_,rfl,_,rfl,r,_,dx,_,_,rfl,i1,T.gq,T.qk,wZ _ _ _,_,_,rfl,rfl,_,rfl,_,_,rfl,rfl,.inl ⟨by decide,by decide⟩,_,_,rfl,rfl,?_⟩))))
   dsimp only
   rw[<-hleast]
   have hN4:=s4 _ _ hN
   refine cg ⟨_,rfl,_,rfl,L,_,_,_,rfl,rfl,ai.of (s4 _ _ (b _ _ R3.lst Lne)),gv rfl hrr,rr,_,rfl,ai.of (s4 _ _ (b _ _ hrow (rne _ _ hrr))),zV (xs:=iv (pw pow)) (fun j σ H'=>∃(v8 v9:Option V),σ=[some (.int n),some (.ref p),some (.int most),some (.ref N),some (.ref L),some (.ref r),some (.int pow),some (.int least),v8,v9]/\bq N H3 H'/\Li H' N (mid most n (Ps.take i) least j pow))
    ⟨v8,v9,rfl,fun b' o e z=>s4 _ _ (b _ _ e z),by rw[SG];exact hN4⟩ ?_ ?_ ?_⟩
   ·intro j σ H5 hj hq;obtain ⟨v8,v9,rfl,b5,hN5⟩:=hq
    exact ai.of (b5 _ _ hrow (rne _ _ hrr))
   ·intro j x Tp σ H5 hx hq fT;obtain ⟨v8,v9,rfl,b5,hN5⟩:=hq
    have jl:j<pow+1:=by
     have:=(dW.mp hx).1
     rwa[cT,iV]at this
    have hx:V.int (sgn pow * (Wqaraq.binomial pow j:Nat))=x:=by
     rw[HF (sY (by lia))]at hx
     exact bo hx
    subst hx
    have s6:=ag.bA (o:=.tup [V.int (j:Nat),V.int (sgn pow * (Wqaraq.binomial pow j:Nat))]) fT
    have hN6:=s6 _ _ hN5
    have lt:least+4 * j<2 * most+1:=by lia
    have ei:(least:Int)+4 * (j:Int)=((least+4 * j:Nat):Int):=by lia
    refine⟨Tp,_,rfl,fF.of au,rfl,_,_,rfl,_,_,rfl,rfl,?_⟩
    refine bz (iq ?_)
    refine⟨_,rfl,_,rfl,_,rfl,_,_,rfl,rfl,.inl ⟨by decide,by decide⟩,_,_,rfl,rfl,N,_,_,_,rfl,rfl,ai.of hN6,B3 ei (SH lt),_,rfl,_,_,rfl,rfl,?_⟩
    refine⟨_,rfl,_,rfl,_,rfl,_,_,rfl,rfl,.inl ⟨by decide,by decide⟩,_,_,rfl,rfl,N,_,_,least+4 * j,rfl,rfl,hN6,d8 ei (by rw[cT,SJ];exact lt),?_⟩
    refine⟨_,_,rfl,fun b' o e z=>(ax z).trans (s6 _ _ (b5 _ _ e z)),?_⟩
    rw[Qc,SI]
    exact au
   ·intro σ H5 hq;obtain ⟨v8,v9,rfl,b5,hN5⟩:=hq
    refine⟨_,_,_,_,_,rfl,b5,?_⟩
    rw[htk,<-SK (least:=least) (by rw[<-hpow];exact hleast),<-hpow]
    rw[cT,iV]at hN5
    exact hN5
  ·intro σ H' hq;obtain ⟨v5,v6,v7,v8,v9,rfl,b,hN⟩:=hq
   rw[aE,ml,gY]at hN
   exact⟨_,rfl,k _ _ (fun b' o e=>b _ _ (s03 _ _ e) (nN e)) fN0 hN⟩
noncomputable def mZ(k:Int)(a b:Addr):List (Str×V):=ck "rows" (.ref b) (ck "numbers" (.ref a) (ck "number" (.int k) []))
theorem CF(k:Int)(a b:Addr):(mZ k a b).lookup ("number":Str)=some (.int k):=by
 unfold mZ;rw[cR,ae (by decide),cR,ae (by decide),cR,af rfl]
theorem SN(k:Int)(a b:Addr):(mZ k a b).lookup ("numbers":Str)=some (.ref a):=by
 unfold mZ;rw[cR,ae (by decide),cR,af rfl]
theorem IQ(k:Int)(a b:Addr):(mZ k a b).lookup ("rows":Str)=some (.ref b):=by
 unfold mZ;rw[cR,af rfl]
abbrev d9:=List (Addr×List Int)
structure SO(T:Txt K mg)(H:Hp)(c:Addr)(k:Int)(ns:List Int)(rws:d9)(dx a b:Addr):Prop where
 ins:H c=some (.ins T.kN dx (mZ k a b))
 num:Li H a ns
 lst:H b=some (.lst (rws.map fun x=>V.ref x.1))
 row:∀x,x∈rws->Li H x.1 x.2
noncomputable def Cl(T:Txt K mg)(H:Hp)(c:Addr)(k:Int)(ns:List Int)(rws:d9):Prop:=∃dx a b,SO T H c k ns rws dx a b
theorem Cl.same{T:Txt K mg}{H H':Hp}{c:Addr}{k:Int}{ns:List Int}{rws:d9}(h:Cl T H c k ns rws)(s:ag H H'):Cl T H' c k ns rws:=by
 obtain⟨dx,a,b,i,n,l,r⟩:=h
 exact⟨dx,a,b,s _ _ i,s _ _ n,s _ _ l,fun x hx=>s _ _ (r x hx)⟩
noncomputable def nats(a:List Int):Prop:=(∀x,x∈a->0<=x)/\a.length<=2000
abbrev pm(a:List Int):Perm:=WqaraqNeutral.perm a
theorem Li.ls{H:Hp}{p:Addr}{a:List Int}(h:Li H p a)(n:nats a):Ls H p (pm a):=by
 show H p=some (.lst (nv (a.map Int.toNat)))
 rw[show nv (a.map Int.toNat)=iv a from ?_]
 ·exact h
 ·unfold nv iv
  rw[dw]
  refine gX fun x hx=>?_
  show V.int ((x.toNat:Nat):Int)=V.int x
  rw[Int.toNat_of_nonneg (n.1 x hx)]
theorem bB.of{H H1:Hp}{Q:VK}{xs:List V}(k:bB H Q xs)(s:ag H H1):bB H1 Q xs:=fun H' r s' fr h=>k H' r (s.trans s') (s.free fr) h
theorem uh{v:V}{σ:L2.St}{H:Hp}{Q:VK}(h:Q v H):tC v σ H Q:=h
theorem mn{v:V}{i:Nat}{σ:L2.St}{H:Hp}{Q:VK}(h:σ[i]?=some (some v))(q:Q v H):cO i σ H Q:=⟨v,h,q⟩
theorem gW{z:Int}{σ:L2.St}{H:Hp}{Q:VK}(k:bB H Q [.int z]):ji (bS (tC (.int z)) cq) σ H Q:=⟨cv (by show 1<=100000;decide),fun p fp=>k _ p (ag.bA fp) fp au⟩
theorem ke{te:TE}{σ:L2.St}{H:Hp}{Q:VK}{xs:List V}(hl:xs.length<=90000)(ht:∀(H1:Hp) (Q':VK),ag H H1->bB H1 Q' xs->te σ H1 Q')(k:bB H Q (.int 0::xs)):eP DX (ji (bS (tC (.int 0)) cq)) te σ H Q:=by
 refine iq ⟨cv (by show 1<=100000;decide),fun p fp=>ht _ _ (ag.bA fp) fun H' r s' fr h=>?_⟩
 refine⟨p,r,[.int 0],xs,rfl,rfl,s' _ _ au,h,cv (by show 1+_<=_;lia),fun q fq=>?_⟩
 have s0:=(ag.bA (o:=.lst [V.int 0]) fp).trans s'
 exact k _ q (s0.upd (s0.free fq)) (s0.free fq) au
theorem fY{T:Txt K mg}{H:Hp}{c:Addr}{k:Int}{ns:List Int}{rws:d9}{x:Addr×List Int}{σ:L2.St}{i:Nat}{Q:VK}(j:Nat){z:Int}(e:z=(j:Int))(h:Cl T H c k ns rws)(hx:rws[j]?=some x)(hσ:σ[i]?=some (some (.ref c)))(q:Q (.ref x.1) H):
  eP (jj K) (jh K (cO i) "rows") (tC (.int z)) σ H Q:=by
 obtain⟨dx,a,b,h⟩:=h
 exact⟨_,hσ,c,_,dx,_,_,rfl,h.ins,T.kO,T.vM,IQ _ _ _,b,_,_,_,rfl,rfl,ai.of h.lst,at_of e (by rw[b_,hx];rfl),q⟩
theorem jE{T:Txt K mg}{H:Hp}{c:Addr}{k:Int}{ns:List Int}{rws:d9}{x:Int}{σ:L2.St}{i:Nat}{Q:VK}(j:Nat){z:Int}(e:z=(j:Int))(h:Cl T H c k ns rws)(hx:ns[j]?=some x)(hσ:σ[i]?=some (some (.ref c)))(q:Q (.int x) H):
  eP (jj K) (jh K (cO i) "numbers") (tC (.int z)) σ H Q:=by
 obtain⟨dx,a,b,h⟩:=h
 exact⟨_,hσ,c,_,dx,_,_,rfl,h.ins,T.kO,T.BZ,SN _ _ _,a,_,_,_,rfl,rfl,ai.of h.num,B3 e hx,q⟩
theorem Cl.li{T:Txt K mg}{H:Hp}{c:Addr}{k:Int}{ns:List Int}{rws:d9}(h:Cl T H c k ns rws){j:Nat}{x:Addr×List Int}(hx:rws[j]?=some x):Li H x.1 x.2:=by
 obtain⟨dx,a,b,h⟩:=h
 exact h.row _ (m_ hx)
noncomputable def w9(n:Nat)(x:Addr×List Int):Bool:=Wqaraq.right n (pm x.2)
noncomputable def IS(T:Txt K mg):Sp:=fun vs H Q _=>∃(c:Addr) (k:Int) (ns:List Int) (rws:d9),vs=[.ref c]/\Cl T H c k ns rws/\(∀x,x∈rws->nats x.2)/\rws.length<=100/\Val H Q (.bl (rws.all (w9 16)))
theorem oW(T:Txt K mg):T.kR.Ok P w base 3 (IS T):=by
 have S:=Pw
 refine T.kR.F.ok S (by rintro _ _ _ _ ⟨c,k,ns,rws,rfl,_⟩;rfl) fun cdv A outer s H vs Q E hr h=>?_
 ·obtain⟨c,k,ns,rws,rfl,⟨dx,a,b,h⟩,hn,hl,q⟩:=h
  refine⟨_,(ao (az (f_ (D0 rfl) rfl T.BU (by decide+kernel) (ak (iQ (own:=[("a",1)]) rfl S.nd (fJ (ay (pv 0))) (fP (by rfl)) (fun _ _ _ _ _=>(eO (i:=1) S.nd rfl (Or.inl rfl))) (fun _ _ _ _ _=>iP) (fun _ _ _ _ _=>(T.tm.c (HS T) hr (aR (pv 1) (aN rfl T.dt))))))))),?_⟩
  refine a8 (tY (gV ⟨_,rfl,c,_,dx,_,_,rfl,h.ins,T.kO,T.vM,IQ _ _ _,b,rfl,⟨_,ai.of h.lst⟩,qw (l:=rws) (em:=fun x=>V.ref x.1) (fun _=>true) (fun x=>V.bl (w9 16 x)) (ai.of h.lst) (by lia) ?_ ?_⟩))
  ·intro x H' hx s R Nx k1 k2
   refine⟨rfl,yes ?_⟩
   exact⟨_,rfl,x.1,x.2,16,rfl,s _ _ (h.row x hx),(hn x hx).1,by decide,cC (hn x hx).2 (by decide),fun H2 s2=>k1 rfl H2 s2⟩
  ·intro H' D s fD hD
   rw[tZ]at hD
   refine⟨D,rws.map (w9 16),rfl,ai.of (by rw[hD,dw];rfl),?_⟩
   rw[List.all_map]
   exact q H' s
noncomputable def IT(T:Txt K mg):Sp:=fun vs H Q _=>∃(c ra:Addr) (k n:Int) (a:List Int),vs=[.ref c]/\Cl T H c k [n] [(ra,a)]/\nats a/\0<=n/\Val H Q (.bl (Wqaraq.right n.toNat (pm a)))
theorem CG(T:Txt K mg):T.qv.Ok P w base 3 (IT T):=by
 have S:=Px
 refine T.qv.F.ok S (by rintro _ _ _ _ ⟨c,ra,k,n,a,rfl,_⟩;rfl) fun cdv A outer s H vs Q E hr h=>?_
 ·obtain⟨c,ra,k,n,a,rfl,h,ha,hn,q⟩:=h
  refine⟨_,(ao (az (T.tm.c (HS T) hr (aR (aM (ay (pv 0)) aq) (aM (ay (pv 0)) aq))))),?_⟩
  exact a8 (bP (bG (fY 0 rfl h rfl rfl (bG (jE 0 rfl h rfl rfl ⟨ra,a,n,rfl,h.li (j:=0) rfl,ha.1,hn,cC ha.2 (by decide),q⟩)))))
abbrev gH(a:Wqaraq.Ans):List V:=iv (WqaraqNeutral.numbers a)
theorem m5(a:Perm):gH (Wqaraq.permAns a)=.int 0::nv a:=by
 show V.int 0::iv (Wqaraq.ints a)=_
 rw[ma];rfl
theorem SQ{l:List Perm}{f:Unit->Wqaraq.Ans}:Wqaraq.ofPerms 16 l f=if l.all (Wqaraq.right 16)=true then f () else Wqaraq.just (-1):=rfl
theorem SR{n:Nat}{a:Perm}{f:Unit->Wqaraq.Ans}:Wqaraq.ofPerms n [a] f=if Wqaraq.right n a=true then f () else Wqaraq.just (-1):=by
 unfold Wqaraq.ofPerms
 rw[show (Wqaraq.strands n&&[a].all (Wqaraq.right n))=Wqaraq.right n a from ?_]
 show (Wqaraq.strands n&&(Wqaraq.right n a&&true))=_
 rw[Bool.and_true]
 unfold Wqaraq.right
 cases Wqaraq.strands n<;>rfl
theorem oX{T:Txt K mg}{c:Addr}{k:Int}{ns:List Int}{rws:d9}{u:TS}{D:Ends}{σ:L2.St}{H:Hp}{f:Unit->Wqaraq.Ans}{E:XK}(hσ:σ[0]?=some (some (.ref c)))(hC:Cl T H c k ns rws)(hn:∀x,x∈rws->nats x.2)(hl:rws.length<=100)
  (q:bB H D.rt (gH (Wqaraq.ofPerms 16 (rws.map fun x=>pm x.2) f)))
  (h1:∀H1,ag H H1->Cl T H1 c k ns rws->(∀x,x∈rws->Rt 16 (pm x.2))->bB H1 D.rt (gH (f ()))->u D σ H1):ko (pH (uF (tB (pL (IS T) [] E (bS (cO 0) cq)))) (jL (ji (bS (tC (.int (-1))) cq))) fG) u D σ H:=by
 rw[SQ,List.all_map]at q
 refine aQ (dI (oS (jC (bP ⟨_,hσ,c,k,ns,rws,rfl,hC,hn,hl,fun H1 s1=>⟨_,rfl,?_⟩⟩))))
 refine aS (fun c=>?_) (fun c=>?_)
 ·rw[fC]at c
  rw[ae (by show ¬(rws.all (w9 16)=true);rw[c];decide)]at q
  exact a8 (gW (q.of s1))
 ·rw[i8]at c
  rw[af (by exact c)]at q
  exact h1 H1 s1 (hC.same s1) (fun x hx=>(Fd.mp (mq.mp c x hx)).2) (q.of s1)
theorem CH{T:Txt K mg}{c ra:Addr}{k n:Int}{a:List Int}{u:TS}{D:Ends}{σ:L2.St}{H:Hp}{f:Unit->Wqaraq.Ans}{E:XK}(hσ:σ[0]?=some (some (.ref c)))(hC:Cl T H c k [n] [(ra,a)])(ha:nats a)(hn:0<=n)
  (q:bB H D.rt (gH (Wqaraq.ofPerms n.toNat [pm a] f)))
  (h1:∀H1 (m:Nat),n=(m:Int)->ag H H1->Cl T H1 c k [(m:Int)] [(ra,a)]->(2<=m/\m<=16)->Rt m (pm a)->Ls H1 ra (pm a)->n.toNat=m->bB H1 D.rt (gH (f ()))->u D σ H1):ko (pH (uF (tB (pL (IT T) [] E (bS (cO 0) cq)))) (jL (ji (bS (tC (.int (-1))) cq))) fG) u D σ H:=by
 rw[SR]at q
 refine aQ (dI (oS (jC (bP ⟨_,hσ,c,ra,k,n,a,rfl,hC,ha,hn,fun H1 s1=>⟨_,rfl,?_⟩⟩))))
 refine aS (fun c=>?_) (fun c=>?_)
 ·rw[fC]at c
  rw[ae (by rw[c];decide)]at q
  exact a8 (gW (q.of s1))
 ·rw[i8]at c
  rw[af c]at q
  have r:=Fd.mp c
  have en:n=((n.toNat:Nat):Int):=by lia
  have hC1:=hC.same s1
  exact h1 H1 n.toNat en s1 (by rw[<-en];exact hC1) r.1 r.2 ((hC1.li (j:=0) rfl).ls ha) rfl (q.of s1)
noncomputable def w_(T:Txt K mg)(k:Int)(f:Perm->Perm->Wqaraq.Ans):Sp:=fun vs H Q _=>∃(c ra rb:Addr) (a b:List Int),vs=[.ref c]/\Cl T H c k [] [(ra,a),(rb,b)]/\nats a/\nats b/\bB H Q (gH (Wqaraq.ofPerms 16 [pm a,pm b] fun _=>f (pm a) (pm b)))
noncomputable def CI(T:Txt K mg)(k:Int)(f:Perm->Wqaraq.Ans):Sp:=fun vs H Q _=>∃(c ra:Addr) (a:List Int),vs=[.ref c]/\Cl T H c k [] [(ra,a)]/\nats a/\bB H Q (gH (Wqaraq.ofPerms 16 [pm a] fun _=>f (pm a)))
noncomputable def CJ(T:Txt K mg)(k:Int)(f:Nat->Perm->Wqaraq.Ans):Sp:=fun vs H Q _=>∃(c ra:Addr) (n:Int) (a:List Int),vs=[.ref c]/\Cl T H c k [n] [(ra,a)]/\nats a/\0<=n/\bB H Q (gH (Wqaraq.ofPerms n.toNat [pm a] fun _=>f n.toNat (pm a)))
theorem xc{ra rb:Addr}{a b:List Int}(ha:nats a)(hb:nats b):∀x,x∈[(ra,a),(rb,b)]->nats x.2:=by
 intro x hx
 rcases bY.mp hx with rfl|hx
 ·exact ha
 ·rw[gz.mp hx];exact hb
theorem CL{ra:Addr}{a:List Int}(ha:nats a):∀x,x∈[(ra,a)]->nats x.2:=by
 intro x hx
 rw[gz.mp hx];exact ha
theorem IU{a:Perm}(h:aw a):(nv a).length<=90000:=by rw[cK,h.len];decide
theorem qD{f:Nat->Nat}:(nv (Wqaraq.made f)).length<=90000:=by rw[cK];unfold Wqaraq.made;rw[aE,cD];decide
abbrev IV(T:Txt K mg):Sp:=w_ T 1 fun x y=>Wqaraq.permAns (Wqaraq.then_ x y)
abbrev IW(T:Txt K mg):Sp:=w_ T 7 fun x y=>Wqaraq.permAns (Wqaraq.meetOf x y)
abbrev IX(T:Txt K mg):Sp:=w_ T 8 fun x y=>Wqaraq.permAns (Wqaraq.joinOf x y)
abbrev IY(T:Txt K mg):Sp:=w_ T 6 fun x y=>Wqaraq.just (if Wqaraq.begins x y=true then 1 else 0)
abbrev IZ(T:Txt K mg):Sp:=CI T 2 fun x=>Wqaraq.permAns (Wqaraq.back x)
abbrev I_(T:Txt K mg):Sp:=CI T 5 fun x=>Wqaraq.tells (Wqaraq.ints [Wqaraq.crossings x,Wqaraq.starts x,Wqaraq.ends x])
abbrev Ja(T:Txt K mg):Sp:=CI T 11 fun x=>Wqaraq.tells (Wqaraq.row x)
abbrev Jb(T:Txt K mg):Sp:=CJ T 3 fun n x=>Wqaraq.permAns (Wqaraq.rest n x)
abbrev Jc(T:Txt K mg):Sp:=CJ T 4 fun n x=>Wqaraq.permAns (Wqaraq.turned n x)
abbrev Jd(T:Txt K mg):Sp:=CJ T 9 fun n x=>Wqaraq.tells [(Wqaraq.number n x:Int)]
theorem SS(T:Txt K mg):T.oC.Ok P w base 4 (IV T):=by
 have S:=Py
 refine T.oC.F.ok S (by rintro _ _ _ _ ⟨c,ra,rb,a,b,rfl,_⟩;rfl) fun cdv A outer s H vs Q E hr h=>?_
 ·obtain⟨c,ra,rb,a,b,rfl,hC,ha,hb,k⟩:=h
  refine⟨_,(aj (bt (d5 (cw (T.kR.c (oW T) hr (ak (pv 0))))) (ao (az (aY (ak (aN rfl T.gG))))) bx)
   (ao (az (aC fO (aY (ak (aN rfl T.dD))) (T.kP.c (oT T) hr (aR (aM (ay (pv 0)) aq) (aM (ay (pv 0)) aq))))))),?_⟩
  refine oX (rws:=[(ra,a),(rb,b)]) rfl hC (xc ha hb) (rn rfl) k fun H1 s1 C1 r k1=>?_
  have r1:=(r (ra,a) (by simp)).aa
  have r2:=(r (rb,b) (by simp)).aa
  rw[m5]at k1
  exact a8 (ke (by exact qD) (fun H2 Q' s2 k2=>bP (bG (fY 0 rfl (C1.same s2) rfl rfl (bG (fY 1 rfl (C1.same s2) rfl rfl ⟨ra,rb,_,_,rfl,(((C1.same s2).li (j:=0) rfl).ls ha),(((C1.same s2).li (j:=1) rfl).ls hb),r1,r2,k2⟩))))) k1)
theorem SU(T:Txt K mg):T.oJ.Ok P w base 5 (IW T):=by
 have S:=PJ
 refine T.oJ.F.ok S (by rintro _ _ _ _ ⟨c,ra,rb,a,b,rfl,_⟩;rfl) fun cdv A outer s H vs Q E hr h=>?_
 ·obtain⟨c,ra,rb,a,b,rfl,hC,ha,hb,k⟩:=h
  refine⟨_,(aj (bt (d5 (cw (T.kR.c (oW T) hr (ak (pv 0))))) (ao (az (aY (ak (aN rfl T.gG))))) bx)
   (ao (az (aC fO (aY (ak (aN rfl T.dD))) (T.tK.c (HZ T) hr (aR (aM (ay (pv 0)) aq) (aM (ay (pv 0)) aq))))))),?_⟩
  refine oX (rws:=[(ra,a),(rb,b)]) rfl hC (xc ha hb) (rn rfl) k fun H1 s1 C1 r k1=>?_
  have r1:=(r (ra,a) (by simp)).aa
  have r2:=(r (rb,b) (by simp)).aa
  rw[m5]at k1
  exact a8 (ke (IU (gR _)) (fun H2 Q' s2 k2=>bP (bG (fY 0 rfl (C1.same s2) rfl rfl (bG (fY 1 rfl (C1.same s2) rfl rfl ⟨ra,rb,_,_,rfl,(((C1.same s2).li (j:=0) rfl).ls ha),(((C1.same s2).li (j:=1) rfl).ls hb),r1,r2,k2⟩))))) k1)
theorem SV(T:Txt K mg):T.oK.Ok P w base 4 (IX T):=by
 have S:=PL
 refine T.oK.F.ok S (by rintro _ _ _ _ ⟨c,ra,rb,a,b,rfl,_⟩;rfl) fun cdv A outer s H vs Q E hr h=>?_
 ·obtain⟨c,ra,rb,a,b,rfl,hC,ha,hb,k⟩:=h
  refine⟨_,(aj (bt (d5 (cw (T.kR.c (oW T) hr (ak (pv 0))))) (ao (az (aY (ak (aN rfl T.gG))))) bx)
   (ao (az (aC fO (aY (ak (aN rfl T.dD))) (T.tJ.c (HY T) hr (aR (aM (ay (pv 0)) aq) (aM (ay (pv 0)) aq))))))),?_⟩
  refine oX (rws:=[(ra,a),(rb,b)]) rfl hC (xc ha hb) (rn rfl) k fun H1 s1 C1 r k1=>?_
  have r1:=(r (ra,a) (by simp)).aa
  have r2:=(r (rb,b) (by simp)).aa
  rw[m5]at k1
  exact a8 (ke (by exact qD) (fun H2 Q' s2 k2=>bP (bG (fY 0 rfl (C1.same s2) rfl rfl (bG (fY 1 rfl (C1.same s2) rfl rfl ⟨ra,rb,_,_,rfl,(((C1.same s2).li (j:=0) rfl).ls ha),(((C1.same s2).li (j:=1) rfl).ls hb),r1,r2,k2⟩))))) k1)
theorem SW(T:Txt K mg):T.oI.Ok P w base 4 (IY T):=by
 have S:=PH
 refine T.oI.F.ok S (by rintro _ _ _ _ ⟨c,ra,rb,a,b,rfl,_⟩;rfl) fun cdv A outer s H vs Q E hr h=>?_
 ·obtain⟨c,ra,rb,a,b,rfl,hC,ha,hb,k⟩:=h
  refine⟨_,(aj (bt (d5 (cw (T.kR.c (oW T) hr (ak (pv 0))))) (ao (az (aY (ak (aN rfl T.gG))))) bx)
   (ao (az (aY (ak (gM (cw (T.begins.c (QA T) hr (aR (aM (ay (pv 0)) aq) (aM (ay (pv 0)) aq)))) aq aq)))))),?_⟩
  refine oX (rws:=[(ra,a),(rb,b)]) rfl hC (xc ha hb) (rn rfl) k fun H1 s1 C1 r k1=>?_
  have r1:=(r (ra,a) (by simp)).aa
  have r2:=(r (rb,b) (by simp)).aa
  refine a8 (bG (jC (bP (bG (fY 0 rfl C1 rfl rfl (bG (fY 1 rfl C1 rfl rfl ⟨ra,rb,_,_,rfl,((C1.li (j:=0) rfl).ls ha),((C1.li (j:=1) rfl).ls hb),r1,r2,fun H2 s2=>⟨_,rfl,aS (fun c=>?_) (fun c=>?_)⟩⟩)))))))
  ·have k1:bB H1 Q [V.int (if Wqaraq.begins (pm a) (pm b)=true then 1 else 0)]:=k1
   rw[af (by exact c)]at k1
   exact gW (σ:=[]) (k1.of s2)
  ·have k1:bB H1 Q [V.int (if Wqaraq.begins (pm a) (pm b)=true then 1 else 0)]:=k1
   have c:Wqaraq.begins (pm a) (pm b)=false:=c
   rw[ae (by rw[c];decide)]at k1
   exact gW (σ:=[]) (k1.of s2)
theorem SX(T:Txt K mg):T.oE.Ok P w base 4 (IZ T):=by
 have S:=Pz
 refine T.oE.F.ok S (by rintro _ _ _ _ ⟨c,ra,a,rfl,_⟩;rfl) fun cdv A outer s H vs Q E hr h=>?_
 ·obtain⟨c,ra,a,rfl,hC,ha,k⟩:=h
  refine⟨_,(aj (bt (d5 (cw (T.kR.c (oW T) hr (ak (pv 0))))) (ao (az (aY (ak (aN rfl T.gG))))) bx)
   (ao (az (aC fO (aY (ak (aN rfl T.dD))) (T.kQ.c (oU T) hr (ak (aM (ay (pv 0)) aq))))))),?_⟩
  refine oX (rws:=[(ra,a)]) rfl hC (CL ha) (rn rfl) k fun H1 s1 C1 r k1=>?_
  have r1:=(r (ra,a) (by simp)).aa
  rw[m5]at k1
  exact a8 (ke (by exact qD) (fun H2 Q' s2 k2=>bP (bG (fY 0 rfl (C1.same s2) rfl rfl ⟨ra,_,rfl,(((C1.same s2).li (j:=0) rfl).ls ha),r1,k2⟩))) k1)
theorem SY(T:Txt K mg):T.oO.Ok P w base 4 (Ja T):=by
 have S:=PQ
 refine T.oO.F.ok S (by rintro _ _ _ _ ⟨c,ra,a,rfl,_⟩;rfl) fun cdv A outer s H vs Q E hr h=>?_
 ·obtain⟨c,ra,a,rfl,hC,ha,k⟩:=h
  refine⟨_,(aj (bt (d5 (cw (T.kR.c (oW T) hr (ak (pv 0))))) (ao (az (aY (ak (aN rfl T.gG))))) bx)
   (ao (az (aC fO (aY (ak (aN rfl T.dD))) (T.qp.c (Co T) hr (ak (aM (ay (pv 0)) aq))))))),?_⟩
  refine oX (rws:=[(ra,a)]) rfl hC (CL ha) (rn rfl) k fun H1 s1 C1 r k1=>?_
  have r1:=(r (ra,a) (by simp)).aa
  exact a8 (ke (by rw[cT];exact cC (wH r1) (by decide)) (fun H2 Q' s2 k2=>bP (bG (fY 0 rfl (C1.same s2) rfl rfl ⟨ra,_,rfl,(((C1.same s2).li (j:=0) rfl).ls ha),r1,k2⟩))) k1)
theorem S0(T:Txt K mg):T.oH.Ok P w base 4 (I_ T):=by
 have S:=PF
 refine T.oH.F.ok S (by rintro _ _ _ _ ⟨c,ra,a,rfl,_⟩;rfl) fun cdv A outer s H vs Q E hr h=>?_
 ·obtain⟨c,ra,a,rfl,hC,ha,k⟩:=h
  refine⟨_,(aj (bt (d5 (cw (T.kR.c (oW T) hr (ak (pv 0))))) (ao (az (aY (ak (aN rfl T.gG))))) bx)
   (aj (sv 1 S.nd (aM (ay (pv 0)) aq))
   (aj (sv 2 S.nd (T.tz.c (HP T) hr (ak (pv 1))))
   (aj (sv 3 S.nd (T.tz.c (HP T) hr (ak (T.kQ.c (oU T) hr (ak (pv 1))))))
   (ao (az (aY (jP (aN rfl T.dD) (jP (T.tu.c (HN T) hr (ak (pv 1))) (jP (pv 2) (jP (pv 3) gN))))))))))),?_⟩
  refine oX (rws:=[(ra,a)]) rfl hC (CL ha) (rn rfl) k fun H1 s1 C1 r k1=>?_
  have r1:=(r (ra,a) (by simp)).aa
  have l1:=(C1.li (j:=0) rfl).ls ha
  refine aQ (bz (fY 0 rfl C1 rfl rfl (cg ?_)))
  dsimp only
  refine aQ (bz (bP ⟨_,rfl,ra,_,rfl,l1,r1,fun H2 s2=>cg ?_⟩))
  dsimp only
  refine aQ (bz (bP (bG (bP ⟨_,rfl,ra,_,rfl,s2 _ _ l1,r1,fun H3 b s3 fb l3=>⟨b,_,rfl,l3,r1.back,fun H4 s4=>cg ?_⟩⟩))))
  dsimp only
  have s14:=(s2.trans s3).trans s4
  refine a8 (bG (uh (bG (bP ⟨_,rfl,ra,_,rfl,s14 _ _ l1,r1,fun H5 s5=>?_⟩))))
  refine⟨_,rfl,_,rfl,cv (by show 4<=100000;decide),fun p fp=>?_⟩
  exact k1 _ p ((s14.trans s5).upd ((s14.trans s5).free fp)) ((s14.trans s5).free fp) au
theorem S1(T:Txt K mg):T.oF.Ok P w base 4 (Jb T):=by
 have S:=PB
 refine T.oF.F.ok S (by rintro _ _ _ _ ⟨c,ra,n,a,rfl,_⟩;rfl) fun cdv A outer s H vs Q E hr h=>?_
 ·obtain⟨c,ra,n,a,rfl,hC,ha,hn,k⟩:=h
  refine⟨_,(aj (bt (d5 (cw (T.qv.c (CG T) hr (ak (pv 0))))) (ao (az (aY (ak (aN rfl T.gG))))) bx)
   (ao (az (aC fO (aY (ak (aN rfl T.dD))) (T.tq.c (HM T) hr (aR (aM (ay (pv 0)) aq) (aM (ay (pv 0)) aq))))))),?_⟩
  refine CH rfl hC ha hn k fun H1 m em s1 C1 hm r l1 e1 k1=>?_
  rw[m5,e1]at k1
  exact a8 (ke (by exact qD) (fun H2 Q' s2 k2=>bP (bG (jE 0 rfl (C1.same s2) rfl rfl (bG (fY 0 rfl (C1.same s2) rfl rfl ⟨m,ra,_,rfl,hm.2,s2 _ _ l1,r.aa,k2⟩))))) k1)
theorem S2(T:Txt K mg):T.oG.Ok P w base 4 (Jc T):=by
 have S:=PD
 refine T.oG.F.ok S (by rintro _ _ _ _ ⟨c,ra,n,a,rfl,_⟩;rfl) fun cdv A outer s H vs Q E hr h=>?_
 ·obtain⟨c,ra,n,a,rfl,hC,ha,hn,k⟩:=h
  refine⟨_,(aj (bt (d5 (cw (T.qv.c (CG T) hr (ak (pv 0))))) (ao (az (aY (ak (aN rfl T.gG))))) bx)
   (ao (az (aC fO (aY (ak (aN rfl T.dD))) (T.qm.c (Ck T) hr (aR (aM (ay (pv 0)) aq) (aM (ay (pv 0)) aq))))))),?_⟩
  refine CH rfl hC ha hn k fun H1 m em s1 C1 hm r l1 e1 k1=>?_
  rw[m5,e1]at k1
  exact a8 (ke (by exact qD) (fun H2 Q' s2 k2=>bP (bG (jE 0 rfl (C1.same s2) rfl rfl (bG (fY 0 rfl (C1.same s2) rfl rfl ⟨m,ra,_,rfl,hm.2,s2 _ _ l1,r,k2⟩))))) k1)
theorem S3(T:Txt K mg):T.oM.Ok P w base 4 (Jd T):=by
 have S:=PM
 refine T.oM.F.ok S (by rintro _ _ _ _ ⟨c,ra,n,a,rfl,_⟩;rfl) fun cdv A outer s H vs Q E hr h=>?_
 ·obtain⟨c,ra,n,a,rfl,hC,ha,hn,k⟩:=h
  refine⟨_,(aj (bt (d5 (cw (T.qv.c (CG T) hr (ak (pv 0))))) (ao (az (aY (ak (aN rfl T.gG))))) bx)
   (ao (az (aY (aR (aN rfl T.dD) (T.vN.c (QG T) hr (aR (aM (ay (pv 0)) aq) (aM (ay (pv 0)) aq)))))))),?_⟩
  refine CH rfl hC ha hn k fun H1 m em s1 C1 hm r l1 e1 k1=>?_
  rw[e1]at k1
  refine a8 (bG (uh (bG (bP (bG (jE 0 rfl C1 rfl rfl (bG (fY 0 rfl C1 rfl rfl ⟨m,ra,_,rfl,hm.2,l1,r.aa,fun H2 s2=>?_⟩))))))))
  exact⟨cv (by show 2<=100000;decide),fun p fp=>k1 _ p (s2.upd (s2.free fp)) (s2.free fp) au⟩
noncomputable def Jf(T:Txt K mg):Sp:=fun vs H Q _=>∃(c:Addr) (i n:Int),vs=[.ref c]/\Cl T H c 10 [i,n] []/\0<=i/\0<=n/\bB H Q (gH (if Wqaraq.strands n.toNat=false then Wqaraq.just (-1) else Wqaraq.permAns (Wqaraq.numbered i.toNat n.toNat)))
theorem Jg{n:Int}(h:0<=n):(decide (2<=n)&&decide (n<=16))=Wqaraq.strands n.toNat:=by
 unfold Wqaraq.strands Wqaraq.WIDE
 rw[gA.mpr (show (2:Int)<=n↔2<=n.toNat by lia),gA.mpr (show n<=16↔n.toNat<=16 by lia)]
theorem S4(T:Txt K mg):T.oN.Ok P w base 2 (Jf T):=by
 have S:=PN
 refine T.oN.F.ok S (by rintro _ _ _ _ ⟨c,i,n,rfl,_⟩;rfl) fun cdv A outer s H vs Q E hr h=>?_
 ·obtain⟨c,i,n,rfl,hC,hi,hn,k⟩:=h
  refine⟨_,(aj (sv 1 S.nd (aM (ay (pv 0)) aq))
   (aj (bt (d5 (cw (T.ql.c (Cj T) hr (ak (pv 1))))) (ao (az (aY (ak (aN rfl T.gG))))) bx)
   (ao (az (aC fO (aY (ak (aN rfl T.dD))) (T.numbered.c (QP T) hr (aR (aM (ay (pv 0)) aq) (pv 1)))))))),?_⟩
  refine aQ (bz (jE 1 rfl hC rfl rfl (cg ?_)))
  dsimp only
  refine aQ (dI (oS (jC (bP ⟨_,rfl,n,rfl,fun H1 s1=>⟨_,rfl,?_⟩⟩))))
  rw[Jg hn]
  refine aS (fun c=>?_) (fun c=>?_)
  ·rw[fC]at c
   rw[af c]at k
   exact a8 (gW (k.of s1))
  ·rw[i8]at c
   rw[ae (by rw[c];decide),m5]at k
   have ei:i=((i.toNat:Nat):Int):=by lia
   have en:n=((n.toNat:Nat):Int):=by lia
   have nn:=p8.mp c
   exact a8 (ke (by exact qD) (fun H2 Q' s2 k2=>bP (bG (jE 0 rfl (hC.same (s1.trans s2)) rfl rfl ⟨_,rfl,i.toNat,n.toNat,by rw[<-ei,<-en];rfl,nn.1,nn.2,k2⟩))) (k.of s1))
noncomputable def Jh(T:Txt K mg):Sp:=fun vs H Q _=>∃(c rw:Addr) (w:List Int),vs=[.ref c]/\Cl T H c 12 [] [(rw,w)]/\bB H Q (gH (if 100<w.length then Wqaraq.just (-3) else Wqaraq.permAns (Wqaraq.follow w)))
theorem S5(T:Txt K mg):T.oP.Ok P w base 3 (Jh T):=by
 have S:=PR
 refine T.oP.F.ok S (by rintro _ _ _ _ ⟨c,rw,w,rfl,_⟩;rfl) fun cdv A outer s H vs Q E hr h=>?_
 ·obtain⟨c,rw,w,rfl,hC,k⟩:=h
  refine⟨_,(aj (sv 1 S.nd (aM (ay (pv 0)) aq))
   (aj (bt (a5 eQ (c9 T.cZ (pv 1)) (aN rfl T.BX)) (ao (az (aY (ak (aN rfl T.qi))))) bx)
   (ao (az (aC fO (aY (ak (aN rfl T.dD))) (T.followed.c (QL T) hr (ak (pv 1)))))))),?_⟩
  have l0:=hC.li (j:=0) rfl
  refine aQ (bz (fY 0 rfl hC rfl rfl (cg ?_)))
  dsimp only
  refine aQ (dI ⟨_,rfl,rw,_,rfl,.inl (ai.of l0),_,_,rfl,rfl,_,rfl,?_⟩)
  rw[cT]
  refine aS (fun c=>?_) (fun c=>?_)
  ·have c:(100:Int)<(w.length:Int):=a0 c
   rw[af (by lia)]at k
   exact a8 (gW k)
  ·have c:¬(100:Int)<(w.length:Int):=a_ c
   rw[ae (by lia),m5]at k
   exact a8 (ke (IU (gR _)) (fun H2 Q' s2 k2=>bP ⟨_,rfl,rw,w,rfl,s2 _ _ l0,k2⟩) k)
inductive iA(T:Txt K mg):Addr->Sp->Prop where
 |then_:iA T T.oC.f (IV T)
 |S6:iA T T.oE.f (IZ T)
 |S7:iA T T.oF.f (Jb T)
 |S8:iA T T.oG.f (Jc T)
 |S9:iA T T.oH.f (I_ T)
 |S_:iA T T.oI.f (IY T)
 |Ta:iA T T.oJ.f (IW T)
 |Tb:iA T T.oK.f (IX T)
 |Tc:iA T T.oM.f (Jd T)
 |Td:iA T T.oN.f (Jf T)
 |Te:iA T T.oO.f (Ja T)
 |Tf:iA T T.oP.f (Jh T)
theorem Tg(T:Txt K mg){A:Around}(hr:cB 5 A):zZ P w K mg base A (iA T):=by
 refine⟨fun f sp h=>?_⟩
 cases h
 ·exact⟨_,_,_,SS T,hr.mono (by decide),T.oC.b,T.oC.F.kp⟩
 ·exact⟨_,_,_,SX T,hr.mono (by decide),T.oE.b,T.oE.F.kp⟩
 ·exact⟨_,_,_,S1 T,hr.mono (by decide),T.oF.b,T.oF.F.kp⟩
 ·exact⟨_,_,_,S2 T,hr.mono (by decide),T.oG.b,T.oG.F.kp⟩
 ·exact⟨_,_,_,S0 T,hr.mono (by decide),T.oH.b,T.oH.F.kp⟩
 ·exact⟨_,_,_,SW T,hr.mono (by decide),T.oI.b,T.oI.F.kp⟩
 ·exact⟨_,_,_,SU T,hr.mono (by decide),T.oJ.b,T.oJ.F.kp⟩
 ·exact⟨_,_,_,SV T,hr.mono (by decide),T.oK.b,T.oK.F.kp⟩
 ·exact⟨_,_,_,S3 T,hr.mono (by decide),T.oM.b,T.oM.F.kp⟩
 ·exact⟨_,_,_,S4 T,hr.mono (by decide),T.oN.b,T.oN.F.kp⟩
 ·exact⟨_,_,_,SY T,hr.mono (by decide),T.oO.b,T.oO.F.kp⟩
 ·exact⟨_,_,_,S5 T,hr.mono (by decide),T.oP.b,T.oP.F.kp⟩
theorem iB{a:List Int}(h:a.all WqaraqNeutral.natural=true)(l:a.length<=2000):nats a:=
 ⟨fun x hx=>a0 (xn.mp (mq.mp h x hx)).1,l⟩
theorem ui{n:Int}(h:WqaraqNeutral.natural n=true):0<=n:=a0 (xn.mp h).1
abbrev m6:List (Int×Nat×Nat):=[(1,0,2),(2,0,1),(3,1,1),(4,1,1),(5,0,1),(6,0,2),(7,0,2),(8,0,2),(9,1,1),(10,2,0),(11,0,1),(12,0,1),(13,2,1),(14,3,0),(15,2,0),(16,3,0),(17,3,0),(18,3,0),(19,2,0),(20,2,0),(21,1,0),(22,1,0),(23,1,0),(24,2,1)]
noncomputable def xf(k:Int):List (Int×Nat×Nat)->Option (Nat×Nat)
 |[]=>none
 |(x,y)::r=>if k=x then some y else xf k r
theorem Ji{k:Int}{y:Nat×Nat}:∀{m:List (Int×Nat×Nat)},xf k m=some y->(k,y)∈m
 |[],h=>by cases h
 |(x,z)::r,h=>by
  unfold xf at h
  by_cases e:k=x
  ·rw[af e]at h;cases h;subst e;exact bE ..
  ·rw[ae e]at h;exact bI _ (Ji h)
theorem uj{k:Int}{a b:Nat}(h:PyWqaraq.shape k=some (a,b)):(k,a,b)∈m6:=Ji (show xf k m6=some (a,b) from h)
theorem len0{α:Type}{l:List α}(h:l.length=0):l=[]:=o6.mp h
theorem b0{α:Type}{l:List α}(h:l.length=1):∃a,l=[a]:=by
 match l,h with
 |[a],_=>exact⟨a,rfl⟩
theorem dF{α:Type}{l:List α}(h:l.length=2):∃a b,l=[a,b]:=by
 match l,h with
 |[a,b],_=>exact⟨a,b,rfl⟩
theorem mo{α:Type}{l:List α}(h:l.length=3):∃a b c,l=[a,b,c]:=by
 match l,h with
 |[a,b,c],_=>exact⟨a,b,c,rfl⟩
noncomputable def Th(T:Txt K mg):Sp:=fun vs H Q _=>∃(c:Addr) (k:Int) (ns:List Int) (rws:d9) (b:Wqaraq.Book),vs=[.ref c]/\Cl T H c k ns rws/\PyWqaraq.shape k=some (ns.length,rws.length)/\k<13/\WqaraqNeutral.asked1 ((k::ns)::rws.map (·.2))=true/\(∀x,x∈rws->x.2.length<=2000)/\bB H Q (iv (WqaraqNeutral.step b ((k::ns)::rws.map (·.2))).2)
theorem Tj{T:Txt K mg}{H:Hp}{Q:VK}{c:Addr}{k:Int}{ns:List Int}{rws:d9}{b:Wqaraq.Book}(hC:Cl T H c k ns rws)(hs:PyWqaraq.shape k=some (ns.length,rws.length))(hk:k<13)(ha:WqaraqNeutral.asked1 ((k::ns)::rws.map (·.2))=true)(hl:∀x,x∈rws->x.2.length<=2000)
  (q:bB H Q (iv (WqaraqNeutral.step b ((k::ns)::rws.map (·.2))).2)):∃f sp,T.gT k=some (.ref f)/\iA T f sp/\sp [.ref c] H Q E0:=by
 have hm:=uj hs
 simp only [m6,bY,Prod.mk.injEq,List.not_mem_nil,or_false]at hm
 rcases hm with ⟨rfl,h1,h2⟩|⟨rfl,h1,h2⟩|⟨rfl,h1,h2⟩|⟨rfl,h1,h2⟩|⟨rfl,h1,h2⟩|⟨rfl,h1,h2⟩|⟨rfl,h1,h2⟩|⟨rfl,h1,h2⟩|⟨rfl,h1,h2⟩|⟨rfl,h1,h2⟩|⟨rfl,h1,h2⟩|⟨rfl,h1,h2⟩|⟨rfl,h1,h2⟩|⟨rfl,h1,h2⟩|⟨rfl,h1,h2⟩|⟨rfl,h1,h2⟩|⟨rfl,h1,h2⟩|⟨rfl,h1,h2⟩|⟨rfl,h1,h2⟩|⟨rfl,h1,h2⟩|⟨rfl,h1,h2⟩|⟨rfl,h1,h2⟩|⟨rfl,h1,h2⟩|⟨rfl,h1,h2⟩
 all_goals try (exfalso;lia)
 ·obtain rfl:=len0 h1
  obtain⟨⟨ra,y0⟩,⟨rb,y1⟩,rfl⟩:=dF h2
  have ha:(y0.all WqaraqNeutral.natural&&y1.all WqaraqNeutral.natural)=true:=ha
  rw[br]at ha
  exact⟨_,_,T.He,.then_,c,ra,rb,_,_,rfl,hC,iB ha.1 (hl (ra,_) (by simp)),iB ha.2 (hl (rb,_) (by simp)),q⟩
 ·obtain rfl:=len0 h1
  obtain⟨⟨ra,y0⟩,rfl⟩:=b0 h2
  have ha:(y0.all WqaraqNeutral.natural)=true:=ha
  exact⟨_,_,T.Hf,.S6,c,ra,_,rfl,hC,iB ha (hl (ra,_) (by simp)),q⟩
 ·obtain⟨x0,rfl⟩:=b0 h1
  obtain⟨⟨ra,y0⟩,rfl⟩:=b0 h2
  have ha:(WqaraqNeutral.natural x0&&y0.all WqaraqNeutral.natural)=true:=ha
  rw[br]at ha
  exact⟨_,_,T.Hg,.S7,c,ra,_,_,rfl,hC,iB ha.2 (hl (ra,_) (by simp)),ui ha.1,q⟩
 ·obtain⟨x0,rfl⟩:=b0 h1
  obtain⟨⟨ra,y0⟩,rfl⟩:=b0 h2
  have ha:(WqaraqNeutral.natural x0&&y0.all WqaraqNeutral.natural)=true:=ha
  rw[br]at ha
  exact⟨_,_,T.Hh,.S8,c,ra,_,_,rfl,hC,iB ha.2 (hl (ra,_) (by simp)),ui ha.1,q⟩
 ·obtain rfl:=len0 h1
  obtain⟨⟨ra,y0⟩,rfl⟩:=b0 h2
  have ha:(y0.all WqaraqNeutral.natural)=true:=ha
  exact⟨_,_,T.Hi,.S9,c,ra,_,rfl,hC,iB ha (hl (ra,_) (by simp)),q⟩
 ·obtain rfl:=len0 h1
  obtain⟨⟨ra,y0⟩,⟨rb,y1⟩,rfl⟩:=dF h2
  have ha:(y0.all WqaraqNeutral.natural&&y1.all WqaraqNeutral.natural)=true:=ha
  rw[br]at ha
  exact⟨_,_,T.Hj,.S_,c,ra,rb,_,_,rfl,hC,iB ha.1 (hl (ra,_) (by simp)),iB ha.2 (hl (rb,_) (by simp)),q⟩
 ·obtain rfl:=len0 h1
  obtain⟨⟨ra,y0⟩,⟨rb,y1⟩,rfl⟩:=dF h2
  have ha:(y0.all WqaraqNeutral.natural&&y1.all WqaraqNeutral.natural)=true:=ha
  rw[br]at ha
  exact⟨_,_,T.Hk,.Ta,c,ra,rb,_,_,rfl,hC,iB ha.1 (hl (ra,_) (by simp)),iB ha.2 (hl (rb,_) (by simp)),q⟩
 ·obtain rfl:=len0 h1
  obtain⟨⟨ra,y0⟩,⟨rb,y1⟩,rfl⟩:=dF h2
  have ha:(y0.all WqaraqNeutral.natural&&y1.all WqaraqNeutral.natural)=true:=ha
  rw[br]at ha
  exact⟨_,_,T.Hl,.Tb,c,ra,rb,_,_,rfl,hC,iB ha.1 (hl (ra,_) (by simp)),iB ha.2 (hl (rb,_) (by simp)),q⟩
 ·obtain⟨x0,rfl⟩:=b0 h1
  obtain⟨⟨ra,y0⟩,rfl⟩:=b0 h2
  have ha:(WqaraqNeutral.natural x0&&y0.all WqaraqNeutral.natural)=true:=ha
  rw[br]at ha
  exact⟨_,_,T.Hm,.Tc,c,ra,_,_,rfl,hC,iB ha.2 (hl (ra,_) (by simp)),ui ha.1,q⟩
 ·obtain⟨x0,x1,rfl⟩:=dF h1
  obtain rfl:=len0 h2
  have ha:(decide (0<=x0)&&(decide (x0<18446744073709551616)&&WqaraqNeutral.natural x1))=true:=ha
  rw[br,br]at ha
  exact⟨_,_,T.Hn,.Td,c,_,_,rfl,hC,a0 ha.1,ui ha.2.2,q⟩
 ·obtain rfl:=len0 h1
  obtain⟨⟨ra,y0⟩,rfl⟩:=b0 h2
  have ha:(y0.all WqaraqNeutral.natural)=true:=ha
  exact⟨_,_,T.Ho,.Te,c,ra,_,rfl,hC,iB ha (hl (ra,_) (by simp)),q⟩
 ·obtain rfl:=len0 h1
  obtain⟨⟨ra,y0⟩,rfl⟩:=b0 h2
  have ha:(y0.all WqaraqNeutral.whole32)=true:=ha
  exact⟨_,_,T.Hq,.Tf,c,ra,_,rfl,hC,q⟩
theorem Tn(T:Txt K mg):T.wt.Ok P w base 6 (Th T):=by
 have S:=PU
 refine T.wt.F.ok S (by rintro _ _ _ _ ⟨c,k,ns,rws,b,rfl,_⟩;rfl) fun cdv A outer s H vs Q E hr h=>?_
 ·obtain⟨c,k,ns,rws,b,rfl,hC,hs,hk,ha,hl,q⟩:=h
  obtain⟨f,sp,e1,e2,e3⟩:=Tj hC hs hk ha hl q
  have FT:=Tg (P:=P) (w:=w) (base:=base) T hr
  refine⟨_,(aj (sv 1 S.nd (zY rfl T.G_ (ay (pv 0))))
   (ao (az (GR (i:=1) FT nJ rfl (Or.inl rfl) (ak (pv 0)))))),?_⟩
  obtain⟨dx,a,b,h⟩:=hC
  refine aQ (bz ⟨_,rfl,c,_,dx,_,_,rfl,h.ins,T.kO,T.tf,CF _ _ _,k,_,rfl,e1,cg ?_⟩)
  exact⟨f,sp,rfl,e2,_,rfl,e3⟩
noncomputable def qE(L:Addr):List (Str×V):=ck "braids" (.ref L) []
theorem Jj(L:Addr):(qE L).lookup ("braids":Str)=some (.ref L):=by unfold qE;rw[cR,af rfl]
theorem uk{L:Addr}{x:Str}(h:¬x=("braids":Str)):(qE L).lookup x=none:=by
 unfold qE;rw[cR,ae h];rfl
structure Good(x:Wqaraq.Braid):Prop where
 two:2<=x.n
 most:x.n<=16
 cz:bh x.n x.form
 small:Wqaraq.large x.form=false
theorem Good.lt{x:Wqaraq.Braid}(h:Good x):x.form.factors.length<=60/\x.form.twists.natAbs<=100:=by
 have:=h.small
 unfold Wqaraq.large Wqaraq.FACTORS Wqaraq.TWISTS at this
 rw[Bool.or_eq_false_iff]at this
 exact⟨Nat.not_lt.mp (a_ this.1),Nat.not_lt.mp (a_ this.2)⟩
noncomputable def Slot(T:Txt K mg)(H:Hp)(v:V):Option Wqaraq.Braid->Prop
 |none=>v=.aW
 |some x=>∃r,v=.ref r/\Bd T H r x.n x.form/\Good x
theorem Slot.same{T:Txt K mg}{H H':Hp}{v:V}{x:Option Wqaraq.Braid}(h:Slot T H v x)(s:ag H H'):Slot T H' v x:=by
 cases x with
 |none=>exact h
 |some x=>obtain⟨r,e,b,g⟩:=h;exact⟨r,e,b.same s,g⟩
structure bf(T:Txt K mg)(H:Hp)(p:Addr)(b:Wqaraq.Book)(dx L:Addr)(ws:List V):Prop where
 ins:H p=some (.ins T.fh dx (qE L))
 lst:H L=some (.lst ws)
 len:ws.length=16
 um:b.length=16
 slot:∀i v,ws[i]?=some v->Slot T H v (b.at_ i)
theorem bf.same{T:Txt K mg}{H H':Hp}{p dx L:Addr}{b:Wqaraq.Book}{ws:List V}(h:bf T H p b dx L ws)(s:ag H H'):bf T H' p b dx L ws:=⟨s _ _ h.ins,s _ _ h.lst,h.len,h.um,fun i v e=>(h.slot i v e).same s⟩
theorem bf.get{T:Txt K mg}{H:Hp}{p dx L:Addr}{b:Wqaraq.Book}{ws:List V}(h:bf T H p b dx L ws){i:Nat}(hi:i<16):∃v,ws[i]?=some v/\Slot T H v (b.at_ i):=
 ⟨_,bu (by rw[h.len];exact hi),h.slot i _ (bu (by rw[h.len];exact hi))⟩
theorem bf.Jk{T:Txt K mg}{H:Hp}{p dx L:Addr}{b:Wqaraq.Book}{ws:List V}(h:bf T H p b dx L ws){i:Nat}(hi:16<=i):b.at_ i=none:=by
 unfold Wqaraq.Book.at_
 rw[qV (by rw[h.um];exact hi)];rfl
theorem bf.bd{T:Txt K mg}{H H':Hp}{p dx L r:Addr}{b:Wqaraq.Book}{ws:List V}{n:Nat}{F:Form}(h:bf T H p b dx L ws)(k:Bd T H r n F)(s:bq L H H'):Bd T H' r n F:=by
 obtain⟨d2,L2,rs,i,f⟩:=k
 obtain⟨v0,e0,s0⟩:=h.get (i:=0) (by decide)
 have noL:∀(qs:List V),H L=some (.lst qs)->qs=ws:=fun qs e=>by
  rw[h.lst]at e;injection e with e;injection e with e;exact e.symm
 have noi:∀z,v0≠.int z:=fun z e=>by
  subst e
  cases q:b.at_ 0 with
  |none=>rw[q]at s0;cases (show V.int z=V.aW from s0)
  |some x=>rw[q]at s0;obtain⟨r,e,_⟩:=s0;cases e
 refine⟨d2,L2,rs,s _ _ i fun e=>?_,s _ _ f.lst fun e=>?_,f.aI.imp fun q g hq l=>s _ _ l fun e=>?_⟩
 ·rw[e,h.lst]at i;cases i
 ·have hl:=f.lst
  rw[e]at hl
  have e1:=noL _ hl
  have l1:rs.length=16:=by rw[<-h.len,<-e1,aE]
  have hf:F.factors[0]?=some (F.factors[0]'(by rw[<-f.aI.len,l1];decide)):=bu _
  obtain⟨r0,hr0,lr0⟩:=f.aI.get hf
  have:ws[0]?=some (.ref r0):=by rw[<-e1,b_,hr0];rfl
  have s0:=h.slot 0 _ this
  cases q:b.at_ 0 with
  |none=>rw[q]at s0;cases (show V.ref r0=V.aW from s0)
  |some x=>
   rw[q]at s0
   obtain⟨r,e,⟨d3,L3,rs3,i3,_⟩,_⟩:=s0
   injection e with e
   subst e
   have lr0:H r0=_:=lr0
   rw[i3]at lr0;cases lr0
 ·rw[e]at l
  have e1:=noL _ l
  have:0<g.length:=by
   have:=h.len
   rw[<-e1,cK]at this;lia
  rw[<-e1,kT this]at e0
  exact noi _ (bo e0).symm
theorem j2{b:Wqaraq.Book}{o i:Nat}{x:Option Wqaraq.Braid}(ho:o<b.length):Wqaraq.Book.at_ (b.set o x) i=if o=i then x else b.at_ i:=by
 unfold Wqaraq.Book.at_
 rw[rd]
 by_cases e:o=i
 ·rw[af e,af e,af ho];rfl
 ·rw[ae e,ae e]
theorem bf.put{T:Txt K mg}{H:Hp}{p dx L r:Addr}{b:Wqaraq.Book}{ws:List V}{x:Wqaraq.Braid}{o:Nat}(h:bf T H p b dx L ws)(k:Bd T H r x.n x.form)(g:Good x)(ho:o<16):
  bf T (upd H L (.lst (ws.set o (.ref r)))) p (b.set o (some x)) dx L (ws.set o (.ref r)):=by
 have but:bq L H (upd H L (.lst (ws.set o (.ref r)))):=fun c o e z=>(ax z).trans e
 refine⟨but _ _ h.ins fun e=>?_,au,by rw[gw];exact h.len,by rw[gw];exact h.um,fun i v e=>?_⟩
 ·have:=h.ins;rw[e,h.lst]at this;cases this
 ·rw[j2 (by rw[h.um];exact ho)]
  rw[rd]at e
  by_cases c:o=i
  ·rw[af c,af (by rw[h.len];exact ho)]at e
   rw[af c]
   exact⟨r,(bo e).symm,h.bd k but,g⟩
  ·rw[ae c]at e
   rw[ae c]
   have s:=h.slot i v e
   cases q:b.at_ i with
   |none=>rw[q]at s;exact s
   |some y=>rw[q]at s;obtain⟨r2,e2,b2,g2⟩:=s;exact⟨r2,e2,h.bd b2 but,g2⟩
noncomputable def To(T:Txt K mg):Sp:=fun vs H Q _=>∃(p dx:Addr),vs=[.ref p]/\H p=some (.ins T.fh dx [])/\∀(H':Hp) (L:Addr),bq p H H'->H L=none->H' p=some (.ins T.fh dx (qE L))->H' L=some (.lst (List.replicate 16 .aW))->Q .aW H'
theorem Tq(T:Txt K mg):T.tQ.Ok mg P w base 1 (To T):=by
 have S:=P2
 refine T.tQ.F.ok S (by rintro _ _ _ _ ⟨p,dx,rfl,_⟩;rfl) fun cdv A outer s H vs Q E hr h=>?_
 ·obtain⟨p,dx,rfl,hp,q⟩:=h
  refine⟨_,(ao (gZ (pv 0) (aC rO (aY (ak jc)) (aN rfl T.BW)) rfl)),?_⟩
  refine⟨cv (by show 1<=100000;decide),fun z0 g0=>⟨z0,_,_,rfl,rfl,au,by decide,by decide,cv (by show 16<=100000;decide),fun L fL=>?_⟩⟩
  have s0:=ag.bA (o:=.lst [V.aW]) g0
  have fL0:=s0.free fL
  have hp2:upd (upd H z0 (.lst [V.aW])) L (.lst ((List.replicate (16:Int).toNat [V.aW]).flatten)) p=some (.ins T.fh dx []):=(s0.upd fL0) _ _ hp
  refine⟨_,rfl,p,_,dx,_,rfl,hp2,T.du,T.vL,(by show 0<1000;decide),?_⟩
  have npL:L≠p:=fun e=>by rw[e,hp]at fL0;cases fL0
  exact q _ L (fun b o e z=>(ax z).trans ((s0.upd fL0) _ _ e)) fL0 au ((ax npL).trans au)
noncomputable def Tr(T:Txt K mg):Sp:=fun vs H Q _=>∃(p:Addr) (i:Nat),vs=[.ref p,.int i]/\Val H Q (.bl (decide (i<16)))
theorem Jl(T:Txt K mg):T.tR.Ok mg P w base 1 (Tr T):=by
 have S:=P4
 refine T.tR.F.ok S (by rintro _ _ _ _ ⟨p,i,rfl,_⟩;rfl) fun cdv A outer s H vs Q E hr h=>?_
 ·obtain⟨p,i,rfl,q⟩:=h
  refine⟨_,(ao (az (jD gC (pv 1) (aN rfl T.BW)))),?_⟩
  refine⟨_,rfl,_,_,rfl,rfl,?_⟩
  exact ip (q H (ag.refl _)) (gA.mpr (by lia))
noncomputable def uo(T:Txt K mg):Sp:=fun vs H Q _=>∃(p dx L:Addr) (b:Wqaraq.Book) (ws:List V) (i:Nat),vs=[.ref p,.int i]/\bf T H p b dx L ws/\∀(H':Hp) (v:V),ag H H'->Slot T H' v (b.at_ i)->Q v H'
theorem iC(T:Txt K mg):T.gu.Ok mg P w base 2 (uo T):=by
 have S:=P5
 refine T.gu.F.ok S (by rintro _ _ _ _ ⟨p,dx,L,b,ws,i,rfl,_⟩;rfl) fun cdv A outer s H vs Q E hr h=>?_
 ·obtain⟨p,dx,L,b,ws,i,rfl,h,q⟩:=h
  refine⟨_,(ao (az (gM (cw (T.tR.c (Jl T) hr T.du (pv 0) (ak (pv 1)))) (aM (ay (pv 0)) (pv 1)) jc))),?_⟩
  refine a8 (jC ⟨_,rfl,p,dx,_,rfl,h.ins,uk (by decide),_,rfl,p,i,rfl,fun H1 s1=>⟨_,rfl,aS (fun c=>?_) (fun c=>?_)⟩⟩)
  ·obtain⟨v,e,s⟩:=h.get (a0 c)
   exact⟨_,rfl,p,_,dx,_,_,rfl,s1 _ _ h.ins,T.du,T.vL,Jj _,_,rfl,L,_,_,v,rfl,rfl,ai.of (s1 _ _ h.lst),at_of rfl e,q H1 v s1 (s.same s1)⟩
  ·refine q H1 _ s1 ?_
   rw[h.Jk (Nat.not_lt.mp (a_ c))]
   rfl
noncomputable def xg(T:Txt K mg):Sp:=fun vs H Q _=>∃(p dx L r:Addr) (b:Wqaraq.Book) (ws:List V) (o n:Nat) (F:Form),vs=[.ref p,.int o,.ref r]/\bf T H p b dx L ws/\Bd T H r n F/\2<=n/\n<=16/\bh n F/\
 ∀(H':Hp) (ws':List V),bq L H H'->bf T H' p (Wqaraq.lands b o ⟨n,F⟩).1 dx L ws'->Q (.int (Wqaraq.lands b o ⟨n,F⟩).2.code) H'
theorem oY(T:Txt K mg):T.kS.Ok mg P w base 2 (xg T):=by
 have S:=P6
 refine T.kS.F.ok S (by rintro _ _ _ _ ⟨p,dx,L,r,b,ws,o,n,F,rfl,_⟩;rfl) fun cdv A outer s H vs Q E hr h=>?_
 ·obtain⟨p,dx,L,r,b,ws,o,n,F,rfl,h,hb,n2,hn,hF,q⟩:=h
  refine⟨_,(aj (bt (d5 (cw (T.tR.c (Jl T) hr T.du (pv 0) (ak (pv 1))))) (ao (az (aN rfl T.gG))) bx)
   (aj (bt (cw (T.vO.c (Rg T) hr (ak (pv 2)))) (ao (az (aN rfl T.qi))) bx)
   (aj (fI (pv 2) (fH (ay (pv 0)) (pv 1) set_list))
   (ao (az (aN rfl T.dD)))))),?_⟩
  unfold Wqaraq.lands at q
  refine aQ (dI (oS (jC ⟨_,rfl,p,dx,_,rfl,h.ins,uk (by decide),_,rfl,p,o,rfl,fun H1 s1=>⟨_,rfl,aS (fun c=>?_) (fun c=>?_)⟩⟩)))
  ·rw[fC]at c
   have c:=a_ c
   rw[af (show Wqaraq.PLACES<=o from (by lia:16<=o))]at q
   exact a8 (q H1 ws (ag.but s1) (h.same s1))
  ·rw[i8]at c
   have c:=a0 c
   rw[ae (show ¬Wqaraq.PLACES<=o from (by lia:¬16<=o))]at q
   dsimp only [fG]
   refine aQ (dI (jC (bP ⟨_,rfl,r,n,F,rfl,hb.same s1,fun H2 s2=>⟨_,rfl,aS (fun d=>?_) (fun d=>?_)⟩⟩)))
   ·rw[af (show Wqaraq.large (Wqaraq.Braid.mk n F).form=true from d)]at q
    exact a8 (q H2 ws (ag.but (s1.trans s2)) (h.same (s1.trans s2)))
   ·rw[ae (show ¬(Wqaraq.large (Wqaraq.Braid.mk n F).form=true) from by show ¬(Wqaraq.large F=true);rw[d];decide)]at q
    have s:=s1.trans s2
    have h2:=h.same s
    dsimp only [fG]
    refine⟨_,rfl,_,rfl,p,_,dx,_,_,rfl,h2.ins,T.du,T.vL,Jj _,_,rfl,L,_,_,o,rfl,rfl,h2.lst,d8 rfl (by rw[h.len];exact c),?_⟩
    exact q _ _ (fun a u e z=>(ax z).trans (s _ _ e)) (h2.put (x:=⟨n,F⟩) (hb.same s) ⟨n2,hn,hF,d⟩ c)
noncomputable def Ts(T:Txt K mg):Sp:=fun vs H Q _=>∃(n:Nat) (p:Addr) (w:List Int),vs=[.int n,.ref p]/\Li H p w/\w.length<=100/\Val H Q (.bl (Wqaraq.fits n w))
theorem Tt(T:Txt K mg):T.wo.Ok P w base 1 (Ts T):=by
 have S:=Pa
 refine T.wo.F.ok S (by rintro _ _ _ _ ⟨n,p,w,rfl,_⟩;rfl) fun cdv A outer s H vs Q E hr h=>?_
 ·obtain⟨n,p,w,rfl,hp,hl,q⟩:=h
  refine⟨_,(ao (az (f_ (D0 rfl) rfl T.BU (by decide+kernel) (ak (iQ (own:=[("crossing",2)]) rfl S.nd (fJ (pv 1)) (fP (by rfl)) (fun _ _ _ _ _=>(eO (i:=2) S.nd rfl (Or.inl rfl))) (fun _ _ _ _ _=>iP) (fun _ _ _ _ _=>(Dv rK gC aq (f_ lE rfl T.kM (by decide+kernel) (ak (pv 2))) (pv 0)))))))),?_⟩
  refine a8 (tY (gV ⟨_,rfl,p,rfl,⟨_,ai.of hp⟩,qw (l:=w) (em:=fun x=>V.int x) (fun _=>true) (fun x=>V.bl (Wqaraq.crossing n x)) (ai.of hp) (by lia) ?_ ?_⟩))
  ·intro x H' hx s R Nx k1 k2
   refine⟨rfl,yes ?_⟩
   have k1:=k1 rfl H' (ag.refl _)
   refine⟨_,rfl,_,rfl,_,_,rfl,rfl,_,rfl,?_⟩
   rw[mY]
   refine aS (fun c=>?_) (fun c=>?_)
   ·have c:(1:Int)<=(x.natAbs:Int):=a0 c
    refine⟨_,rfl,_,_,rfl,rfl,?_⟩
    show R (V.bl (decide ((x.natAbs:Int)<(n:Int)))) H'
    rw[show Wqaraq.crossing n x=decide ((x.natAbs:Int)<(n:Int)) from ?_]at k1
    ·exact k1
    ·unfold Wqaraq.crossing
     rw[de (show x≠0 by lia),k8]
     exact gA.mpr (by lia)
   ·have c:¬(1:Int)<=(x.natAbs:Int):=a_ c
    rw[show Wqaraq.crossing n x=false from ?_]at k1
    ·exact k1
    ·unfold Wqaraq.crossing
     rw[cy (show ¬x≠0 by lia),Bool.false_and]
  ·intro H' D s fD hD
   rw[tZ]at hD
   refine⟨D,w.map (Wqaraq.crossing n),rfl,ai.of (by rw[hD,dw];rfl),?_⟩
   rw[List.all_map]
   exact q H' s
noncomputable def xh(n:Nat)(w:List Int)(lng:Nat):Int:=if Wqaraq.strands n=false then -1 else if lng<w.length then -3 else if Wqaraq.fits n w=false then -1 else 0
noncomputable def Tu(T:Txt K mg):Sp:=fun vs H Q _=>∃(n lng:Nat) (p:Addr) (w:List Int),vs=[.int n,.ref p,.int lng]/\Li H p w/\lng<=100/\Val H Q (.int (xh n w lng))
theorem Jm(T:Txt K mg):T.tP.Ok P w base 2 (Tu T):=by
 have S:=Pb
 refine T.tP.F.ok S (by rintro _ _ _ _ ⟨n,lng,p,w,rfl,_⟩;rfl) fun cdv A outer s H vs Q E hr h=>?_
 ·obtain⟨n,lng,p,w,rfl,hp,hl,q⟩:=h
  refine⟨_,(aj (bt (d5 (cw (T.ql.c (Cj T) hr (ak (pv 0))))) (ao (az (aN rfl T.gG))) bx)
   (aj (bt (a5 eQ (c9 T.cZ (pv 1)) (pv 2)) (ao (az (aN rfl T.qi))) bx)
   (ao (az (gM (cw (T.wo.c (Tt T) hr (aR (pv 0) (pv 1)))) (aN rfl T.dD) (aN rfl T.gG)))))),?_⟩
  unfold xh at q
  refine aQ (dI (oS (jC (bP ⟨_,rfl,n,rfl,fun H1 s1=>⟨_,rfl,?_⟩⟩))))
  rw[Jg (Int.natCast_nonneg n),Int.toNat_natCast]
  refine aS (fun c=>?_) (fun c=>?_)
  ·rw[fC]at c
   rw[af c]at q
   exact a8 (q H1 s1)
  ·rw[i8]at c
   rw[ae (by rw[c];decide)]at q
   dsimp only [fG]
   refine aQ (dI ⟨_,rfl,p,_,rfl,.inl (ai.of (s1 _ _ hp)),_,rfl,_,_,rfl,rfl,_,rfl,?_⟩)
   rw[cT]
   refine aS (fun d=>?_) (fun d=>?_)
   ·have d:(lng:Int)<(w.length:Int):=a0 d
    rw[af (by lia)]at q
    exact a8 (q H1 s1)
   ·have d:¬(lng:Int)<(w.length:Int):=a_ d
    rw[ae (by lia)]at q
    dsimp only [fG]
    refine a8 (jC (bP ⟨_,rfl,_,rfl,n,p,w,rfl,s1 _ _ hp,by lia,fun H2 s2=>⟨_,rfl,aS (fun e=>?_) (fun e=>?_)⟩⟩))
    ·rw[ae (by rw[e];decide)]at q
     exact q H2 (s1.trans s2)
    ·rw[af e]at q
     exact q H2 (s1.trans s2)
noncomputable def qF:Option Wqaraq.Braid->Option Wqaraq.Braid->Int
 |none,_=> -4
 |some _,none=> -4
 |some x,some y=>if x.n=y.n then 0 else -2
noncomputable def Jn(T:Txt K mg):Sp:=fun vs H Q _=>∃(u v:V) (x y:Option Wqaraq.Braid),vs=[u,v]/\Slot T H u x/\Slot T H v y/\Val H Q (.int (qF x y))
theorem CM(T:Txt K mg):T.qu.Ok P w base 1 (Jn T):=by
 have S:=Pd
 refine T.qu.F.ok S (by rintro _ _ _ _ ⟨u,v,x,y,rfl,_⟩;rfl) fun cdv A outer s H vs Q E hr h=>?_
 ·obtain⟨u,v,x,y,rfl,hu,hv,q⟩:=h
  refine⟨_,(aj (bt (PW.pt (xD (a5 kq (pv 0) jc) (xC (a5 kq (pv 1) jc)))) (ao (az (aN rfl T.lZ))) bx)
   (ao (az (gM (a5 nu (ay (pv 0)) (ay (pv 1))) (aN rfl T.dD) (aN rfl T.G8))))),?_⟩
  have q:=q H (ag.refl _)
  refine aQ (dI ⟨_,rfl,rfl,_,rfl,?_⟩)
  cases x with
  |none=>
   have hu:u=V.aW:=hu
   subst hu
   exact gf (gf (a8 q))
  |some x=>
   obtain⟨ra,rfl,ba,ga⟩:=hu
   refine dN ⟨_,rfl,rfl,_,rfl,?_⟩
   cases y with
   |none=>
    have hv:v=V.aW:=hv
    subst hv
    exact gf (a8 q)
   |some y=>
    obtain⟨rb,rfl,bb,gb⟩:=hv
    refine dN ?_
    dsimp only [fG]
    obtain⟨d1,L1,r1,i1,_⟩:=ba
    obtain⟨d2,L2,r2,i2,_⟩:=bb
    refine a8 ⟨_,rfl,ra,_,d1,_,_,rfl,i1,T.aZ,T.dE,dQ _ _ _,_,rfl,rb,_,d2,_,_,rfl,i2,T.aZ,T.dE,dQ _ _ _,rfl,_,rfl,?_⟩
    have q:Q (.int (if x.n=y.n then 0 else -2)) H:=q
    refine aS (fun c=>?_) (fun c=>?_)
    ·have c:=a0 c
     injection c with c
     rw[af (by lia)]at q
     exact q
    ·have c:=a_ c
     rw[ae (fun z=>c (by rw[z]))]at q
     exact q
noncomputable def cU(T:Txt K mg)(H:Hp)(L bk dx:Addr)(Q:VK)(r:Wqaraq.Book×Wqaraq.Ans):Prop:=∀(H':Hp) (a:Addr) (ws':List V),bq L H H'->bf T H' bk r.1 dx L ws'->H a=none->H' a=some (.lst (gH r.2))->Q (.ref a) H'
theorem cU.of{T:Txt K mg}{H H1:Hp}{L bk dx:Addr}{Q:VK}{r:Wqaraq.Book×Wqaraq.Ans}(k:cU T H L bk dx Q r)(s:ag H H1):cU T H1 L bk dx Q r:=fun H' a ws' b h fa e=>k H' a ws' (fun c o e n=>b _ _ (s _ _ e) n) h (s.free fa) e
theorem cU.eX{T:Txt K mg}{H:Hp}{L bk dx:Addr}{Q:VK}{b:Wqaraq.Book}{a:Wqaraq.Ans}{ws:List V}(k:cU T H L bk dx Q (b,a))(h:bf T H bk b dx L ws):bB H Q (gH a):=fun H' r s fr e=>k H' r ws (ag.but s) (h.same s) fr e
theorem qG{T:Txt K mg}{H:Hp}{bk c dx L:Addr}{b:Wqaraq.Book}{ws:List V}{k:Int}{ns:List Int}{rws:d9}{σ:L2.St}{Q:VK}{i:Nat}(j:Nat){z:Int}{E:XK}(e:z=(j:Int))(hB:bf T H bk b dx L ws)(hC:Cl T H c k ns rws)(hi:ns[j]?=some (i:Int))(h0:σ[0]?=some (some (.ref bk)))(h1:σ[1]?=some (some (.ref c)))
  (q:∀(H':Hp) (v:V),ag H H'->Slot T H' v (b.at_ i)->Q v H'):
  jR T.fh "braid_at" (uo T) [] E (cO 0) (bS (eP (jj K) (jh K (cO 1) "numbers") (tC (.int z))) cq) σ H Q:=
 ⟨_,h0,bk,dx,_,rfl,hB.ins,uk (by decide),bG (jE j e hC hi h1 ⟨bk,dx,L,b,ws,i,rfl,hB,q⟩)⟩
theorem Jo{T:Txt K mg}{H:Hp}{bk c dx L:Addr}{b:Wqaraq.Book}{ws:List V}{k:Int}{ns:List Int}{rws:d9}{σ:L2.St}{Q:VK}{o n:Nat}{F:Form}{te:TE}{E:XK}{z:Int}(e:z=((0:Nat):Int))(hB:bf T H bk b dx L ws)(hC:Cl T H c k ns rws)(hi:ns[0]?=some (o:Int))(h0:σ[0]?=some (some (.ref bk)))(h1:σ[1]?=some (some (.ref c)))
  (n2:2<=n)(hn:n<=16)(hF:bh n F)(ht:∀Q':VK,(∀(H':Hp) (r:Addr),ag H H'->Bd T H' r n F->Q' (.ref r) H')->te σ H Q')(q:∀(H':Hp) (ws':List V),bq L H H'->bf T H' bk (Wqaraq.lands b o ⟨n,F⟩).1 dx L ws'->Q (.int (Wqaraq.lands b o ⟨n,F⟩).2.code) H'):
  jR T.fh "put" (xg T) [] E (cO 0) (bS (eP (jj K) (jh K (cO 1) "numbers") (tC (.int z))) (bS te cq)) σ H Q:=by
 refine⟨_,h0,bk,dx,_,rfl,hB.ins,uk (by decide),bG (jE 0 e hC hi h1 (bG (ht _ fun H1 r s1 b1=>?_)))⟩
 exact⟨bk,dx,L,r,b,ws,o,n,F,rfl,hB.same s1,b1,n2,hn,hF,fun H2 ws' b2 h2=>q H2 ws' (fun a u e x=>b2 _ _ (s1 _ _ e) x) h2⟩
theorem Tv(b:Wqaraq.Book)(o:Nat)(x:Wqaraq.Braid):gH (Wqaraq.lands b o x).2=[V.int (Wqaraq.lands b o x).2.code]:=by
 unfold Wqaraq.lands
 split
 ·rfl
 ·split<;>rfl
theorem qH{T:Txt K mg}{H:Hp}{bk c dx L:Addr}{b:Wqaraq.Book}{ws:List V}{k:Int}{ns:List Int}{rws:d9}{σ:L2.St}{Q:VK}{o n:Nat}{F:Form}{te:TE}{E:XK}{z:Int}(e:z=((0:Nat):Int))(hB:bf T H bk b dx L ws)(hC:Cl T H c k ns rws)(hi:ns[0]?=some (o:Int))(h0:σ[0]?=some (some (.ref bk)))(h1:σ[1]?=some (some (.ref c)))
  (n2:2<=n)(hn:n<=16)(hF:bh n F)(ht:∀Q':VK,(∀(H':Hp) (r:Addr),ag H H'->Bd T H' r n F->Q' (.ref r) H')->te σ H Q')(q:cU T H L bk dx Q (Wqaraq.lands b o ⟨n,F⟩)):
  ji (bS (jR T.fh "put" (xg T) [] E (cO 0) (bS (eP (jj K) (jh K (cO 1) "numbers") (tC (.int z))) (bS te cq))) cq) σ H Q:=by
 refine bG (Jo e hB hC hi h0 h1 n2 hn hF ht fun H1 ws1 b1 h1=>⟨cv (by show 1<=100000;decide),fun p fp=>?_⟩)
 have np:H p=none:=by
  cases q':H p with
  |none=>rfl
  |some u=>
   exfalso
   by_cases e:p=L
   ·rw[e,h1.lst]at fp;cases fp
   ·rw[b1 _ _ q' e]at fp;cases fp
 exact q _ p ws1 (fun a u e x=>(ax (a7 (b1 _ _ e x) fp)).trans (b1 _ _ e x)) (h1.same (ag.bA fp)) np (by rw[au,Tv])
theorem CN{T:Txt K mg}{H:Hp}{bk c dx L:Addr}{b:Wqaraq.Book}{ws:List V}{k:Int}{ns:List Int}{rws:d9}{i j:Nat}{z1 z2:Int}{u:TS}{D:Ends}{E1 E2 E3:XK}{f:Wqaraq.Braid->Wqaraq.Braid->Wqaraq.Book×Wqaraq.Ans}(l1 l2:Nat)(e1:z1=(l1:Int))(e2:z2=(l2:Int))
  (hB:bf T H bk b dx L ws)(hC:Cl T H c k ns rws)(h1:ns[l1]?=some (i:Int))(h2:ns[l2]?=some (j:Int))(q:cU T H L bk dx D.rt (Wqaraq.sameStrands b i j f))
  (hf:∀(H':Hp) (ra rb:Addr) (n:Nat) (F G:Form),ag H H'->Bd T H' ra n F->Bd T H' rb n G->Good ⟨n,F⟩->Good ⟨n,G⟩->bf T H' bk b dx L ws->Cl T H' c k ns rws->cU T H' L bk dx D.rt (f ⟨n,F⟩ ⟨n,G⟩)->u D [some (.ref bk),some (.ref c),some (.ref ra),some (.ref rb),some (.int 0)] H'):
  ko (lD (jR T.fh "braid_at" (uo T) [] E1 (cO 0) (bS (eP (jj K) (jh K (cO 1) "numbers") (tC (.int z1))) cq)) (dy 2))
   (ko (lD (jR T.fh "braid_at" (uo T) [] E2 (cO 0) (bS (eP (jj K) (jh K (cO 1) "numbers") (tC (.int z2))) cq)) (dy 3))
   (ko (lD (pL (Jn T) [] E3 (bS (cO 2) (bS (cO 3) cq))) (dy 4))
   (ko (pH (pK (eP Dl (cO 4) (tC (.int 0)))) (jL (ji (bS (cO 4) cq))) fG) u))) D [some (.ref bk),some (.ref c),none,none,none] H:=by
 refine aQ (bz (qG l1 e1 hB hC h1 rfl rfl fun H1 va s1 ha=>cg ?_))
 dsimp only
 refine aQ (bz (qG l2 e2 (hB.same s1) (hC.same s1) h2 rfl rfl fun H2 vb s2 hb=>cg ?_))
 dsimp only
 have ha:=ha.same s2
 refine aQ (bz (bP ⟨_,rfl,_,rfl,va,vb,_,_,rfl,ha,hb,fun H3 s3=>cg ?_⟩))
 dsimp only
 have s:=(s1.trans s2).trans s3
 have ha:=ha.same s3
 have hb:=hb.same s3
 have hB:=hB.same s
 have hC:=hC.same s
 have q:=q.of s
 refine aQ (dI (ir ⟨_,rfl,rfl,_,rfl,?_⟩))
 unfold Wqaraq.sameStrands Wqaraq.ofTwo Wqaraq.ofBraid at q
 generalize b.at_ i=x at *
 generalize b.at_ j=y at *
 have no:∀z:Int,z≠0->bB H3 D.rt [.int z]->qF x y=z->if (!decide (V.int (qF x y)=V.int 0))=true then jL (ji (bS (cO 4) cq)) {D with nx:=u D} [some (.ref bk),some (.ref c),some va,some vb,some (.int (qF x y))] H3 else fG {D with nx:=u D} [some (.ref bk),some (.ref c),some va,some vb,some (.int (qF x y))] H3:=by
  intro z hz k e
  rw[e]
  have hd:(!decide (V.int z=V.int 0))=true:=by rw[cy (fun h=>hz (by injection h))];rfl
  rw[hd]
  exact gf (a8 (bG (mn rfl (show _/\_ from ⟨cv (by show 1<=100000;decide),fun p fp=>k _ p (ag.bA fp) fp au⟩))))
 cases x with
 |none=>exact no (-4) (by decide) (q.eX hB) rfl
 |some x=>
  cases y with
  |none=>exact no (-4) (by decide) (q.eX hB) rfl
  |some y=>
   obtain⟨ra,rfl,ba,ga⟩:=ha
   obtain⟨rb,rfl,bb,gb⟩:=hb
   by_cases e:x.n=y.n
   ·have q:cU T H3 L bk dx D.rt (f x y):=by
     have q:cU T H3 L bk dx D.rt (if x.n≠y.n then (b,Wqaraq.just (-2)) else f x y):=q
     rw[ae (by simp[e])]at q
     exact q
    have er:qF (some x) (some y)=0:=af e
    rw[er]
    refine dN ?_
    obtain⟨n,F⟩:=x
    obtain⟨m,G⟩:=y
    dsimp only at e
    subst e
    exact hf H3 ra rb n F G s ba bb ga gb hB hC q
   ·have q:cU T H3 L bk dx D.rt (if x.n≠y.n then (b,Wqaraq.just (-2)) else f x y):=q
    rw[af e]at q
    exact no (-2) (by decide) (q.eX hB) (ae e)
noncomputable def Jp(T:Txt K mg):Sp:=fun vs H Q _=>∃(bk c dx L:Addr) (b:Wqaraq.Book) (ws:List V) (o i j:Nat),vs=[.ref bk,.ref c]/\bf T H bk b dx L ws/\Cl T H c 14 [(o:Int),(i:Int),(j:Int)] []/\cU T H L bk dx Q (Wqaraq.step b (.times o i j))
theorem Tw(T:Txt K mg):T.om.Ok P w base 5 (Jp T):=by
 have S:=Pg
 refine T.om.F.ok S (by rintro _ _ _ _ ⟨bk,c,dx,L,b,ws,o,i,j,rfl,_⟩;rfl) fun cdv A outer s H vs Q E hr h=>?_
 ·obtain⟨bk,c,dx,L,b,ws,o,i,j,rfl,hB,hC,q⟩:=h
  refine⟨_,(aj (sv 2 S.nd (T.gu.c (iC T) hr T.du (pv 0) (ak (aM (ay (pv 1)) aq))))
   (aj (sv 3 S.nd (T.gu.c (iC T) hr T.du (pv 0) (ak (aM (ay (pv 1)) aq))))
   (aj (sv 4 S.nd (T.qu.c (CM T) hr (aR (pv 2) (pv 3))))
   (aj (bt (a5 ny (pv 4) (aN rfl T.dD)) (ao (az (aY (ak (pv 4))))) bx)
   (ao (az (aY (ak (T.kS.c (oY T) hr T.du (pv 0) (aR (aM (ay (pv 1)) aq) (T.l9.c (qC T) hr (aR (pv 2) (pv 3))))))))))))),?_⟩
  refine CN (f:=fun x y=>Wqaraq.lands b o ⟨x.n,Wqaraq.product x.n x.form y.form⟩) 1 2 rfl rfl hB hC rfl rfl q fun H1 ra rb n F G s ba bb ga gb B1 C1 q1=>?_
  refine a8 (qH rfl B1 C1 rfl rfl rfl ga.two ga.most (e8 ga.most ga.two ga.cz.all gb.cz.all) (fun Q' k=>bP ⟨_,rfl,_,rfl,ra,rb,n,F,G,rfl,ba,bb,ga.two,ga.most,ga.cz.fm ga.most,gb.cz.all,?_,k⟩) q1)
  have:=ga.lt;have:=gb.lt
  dsimp only at *
  lia
noncomputable def Jq(T:Txt K mg):Sp:=fun vs H Q _=>∃(bk c dx L:Addr) (b:Wqaraq.Book) (ws:List V) (o i j:Nat),vs=[.ref bk,.ref c]/\bf T H bk b dx L ws/\Cl T H c 17 [(o:Int),(i:Int),(j:Int)] []/\cU T H L bk dx Q (Wqaraq.step b (.greatest o i j))
theorem Tx{n:Nat}{F G:Form}(ga:Good ⟨n,F⟩)(gb:Good ⟨n,G⟩):bh n (Wqaraq.commonOf ⟨n,F⟩ ⟨n,G⟩).form:=by
 have c:=Gc (n:=n) ga.most ga.two ga.cz gb.cz
 rw[c.1]
 exact c.2.1.cz ga.most
theorem Tz(T:Txt K mg):T.ot.Ok P w base 6 (Jq T):=by
 have S:=Pk
 refine T.ot.F.ok S (by rintro _ _ _ _ ⟨bk,c,dx,L,b,ws,o,i,j,rfl,_⟩;rfl) fun cdv A outer s H vs Q E hr h=>?_
 ·obtain⟨bk,c,dx,L,b,ws,o,i,j,rfl,hB,hC,q⟩:=h
  refine⟨_,(aj (sv 2 S.nd (T.gu.c (iC T) hr T.du (pv 0) (ak (aM (ay (pv 1)) aq))))
   (aj (sv 3 S.nd (T.gu.c (iC T) hr T.du (pv 0) (ak (aM (ay (pv 1)) aq))))
   (aj (sv 4 S.nd (T.qu.c (CM T) hr (aR (pv 2) (pv 3))))
   (aj (bt (a5 ny (pv 4) (aN rfl T.dD)) (ao (az (aY (ak (pv 4))))) bx)
   (ao (az (aY (ak (T.kS.c (oY T) hr T.du (pv 0) (aR (aM (ay (pv 1)) aq) (T.vX.c (RC T) hr (aR (pv 2) (pv 3))))))))))))),?_⟩
  refine CN (f:=fun x y=>Wqaraq.lands b o (Wqaraq.commonOf x y)) 1 2 rfl rfl hB hC rfl rfl q fun H1 ra rb n F G s ba bb ga gb B1 C1 q1=>?_
  exact a8 (qH (n:=n) (F:=(Wqaraq.commonOf ⟨n,F⟩ ⟨n,G⟩).form) rfl B1 C1 rfl rfl rfl ga.two ga.most (Tx ga gb) (fun Q' k=>bP ⟨_,rfl,_,rfl,ra,rb,n,F,G,rfl,ba,bb,ga.two,ga.most,ga.cz,gb.cz,ga.lt.1,gb.lt.1,ga.lt.2,gb.lt.2,k⟩) q1)
noncomputable def Jr(T:Txt K mg):Sp:=fun vs H Q _=>∃(bk c dx L:Addr) (b:Wqaraq.Book) (ws:List V) (i j:Nat),vs=[.ref bk,.ref c]/\bf T H bk b dx L ws/\Cl T H c 20 [(i:Int),(j:Int)] []/\cU T H L bk dx Q (Wqaraq.step b (.starts_ i j))
theorem TB(T:Txt K mg):T.ox.Ok P w base 6 (Jr T):=by
 have S:=Po
 refine T.ox.F.ok S (by rintro _ _ _ _ ⟨bk,c,dx,L,b,ws,i,j,rfl,_⟩;rfl) fun cdv A outer s H vs Q E hr h=>?_
 ·obtain⟨bk,c,dx,L,b,ws,i,j,rfl,hB,hC,q⟩:=h
  refine⟨_,(aj (sv 2 S.nd (T.gu.c (iC T) hr T.du (pv 0) (ak (aM (ay (pv 1)) aq))))
   (aj (sv 3 S.nd (T.gu.c (iC T) hr T.du (pv 0) (ak (aM (ay (pv 1)) aq))))
   (aj (sv 4 S.nd (T.qu.c (CM T) hr (aR (pv 2) (pv 3))))
   (aj (bt (a5 ny (pv 4) (aN rfl T.dD)) (ao (az (aY (ak (pv 4))))) bx)
   (ao (az (aY (ak (gM (cw (T.vW.c (Rz T) hr (aR (pv 2) (pv 3)))) aq aq))))))))),?_⟩
  refine CN (f:=fun x y=>(b,Wqaraq.just (if Wqaraq.beginsOf x y=true then 1 else 0))) 0 1 rfl rfl hB hC rfl rfl q fun H1 ra rb n F G s ba bb ga gb B1 C1 q1=>?_
  have k1:bB H1 Q [V.int (if Wqaraq.beginsOf ⟨n,F⟩ ⟨n,G⟩=true then 1 else 0)]:=q1.eX B1
  have:=ga.lt;have:=gb.lt
  dsimp only at *
  refine a8 (bG (jC (bP ⟨_,rfl,_,rfl,ra,rb,n,F,G,rfl,ba,bb,ga.two,ga.most,ga.cz,gb.cz,by lia,fun H2 s2=>⟨_,rfl,aS (fun c=>?_) (fun c=>?_)⟩⟩)))
  ·rw[af c]at k1
   exact gW (σ:=[]) (k1.of s2)
  ·rw[ae (by rw[c];decide)]at k1
   exact gW (σ:=[]) (k1.of s2)
abbrev TF:R2:=fun x y H Q=>y=.aW/\Q (.bl (decide (x=.aW))) H
theorem uq{T:Txt K mg}{H:Hp}{bk c dx L:Addr}{b:Wqaraq.Book}{ws:List V}{k:Int}{ns:List Int}{rws:d9}{i:Nat}{z1:Int}{u:TS}{D:Ends}{E1:XK}{σ:L2.St}{f:Wqaraq.Braid->Wqaraq.Book×Wqaraq.Ans}(l1:Nat)(e1:z1=(l1:Int))
  (hB:bf T H bk b dx L ws)(hC:Cl T H c k ns rws)(h1:ns[l1]?=some (i:Int))(s0:σ[0]?=some (some (.ref bk)))(s1:σ[1]?=some (some (.ref c)))(s2:∀v:V,(σ.set 2 (some v))[2]?=some (some v))(q:cU T H L bk dx D.rt (Wqaraq.ofBraid b i f))
  (hf:∀(H':Hp) (ra:Addr) (n:Nat) (F:Form),ag H H'->Bd T H' ra n F->Good ⟨n,F⟩->bf T H' bk b dx L ws->Cl T H' c k ns rws->cU T H' L bk dx D.rt (f ⟨n,F⟩)->u D (σ.set 2 (some (.ref ra))) H'):
  ko (lD (jR T.fh "braid_at" (uo T) [] E1 (cO 0) (bS (eP (jj K) (jh K (cO 1) "numbers") (tC (.int z1))) cq)) (dy 2))
   (ko (pH (pK (eP TF (cO 2) (tC .aW))) (jL (ji (bS (tC (.int (-4))) cq))) fG) u) D σ H:=by
 refine aQ (bz (qG l1 e1 hB hC h1 s0 s1 fun H1 va t1 ha=>cg ?_))
 dsimp only
 have hB:=hB.same t1
 have hC:=hC.same t1
 have q:=q.of t1
 refine aQ (dI (ir ⟨va,s2 va,rfl,_,rfl,?_⟩))
 unfold Wqaraq.ofBraid at q
 generalize b.at_ i=x at *
 cases x with
 |none=>
  have ha:va=V.aW:=ha
  subst ha
  exact gf (a8 (gW (q.eX hB)))
 |some x=>
  obtain⟨ra,rfl,ba,ga⟩:=ha
  exact dN (hf H1 ra x.n x.form t1 ba ga hB hC q)
noncomputable def Js(T:Txt K mg):Sp:=fun vs H Q _=>∃(bk c dx L:Addr) (b:Wqaraq.Book) (ws:List V) (o i:Nat),vs=[.ref bk,.ref c]/\bf T H bk b dx L ws/\Cl T H c 15 [(o:Int),(i:Int)] []/\cU T H L bk dx Q (Wqaraq.step b (.inverse o i))
theorem TH(T:Txt K mg):T.oo.Ok P w base 4 (Js T):=by
 have S:=Ph
 refine T.oo.F.ok S (by rintro _ _ _ _ ⟨bk,c,dx,L,b,ws,o,i,rfl,_⟩;rfl) fun cdv A outer s H vs Q E hr h=>?_
 ·obtain⟨bk,c,dx,L,b,ws,o,i,rfl,hB,hC,q⟩:=h
  refine⟨_,(aj (sv 2 S.nd (T.gu.c (iC T) hr T.du (pv 0) (ak (aM (ay (pv 1)) aq))))
   (aj (bt (a5 kq (pv 2) jc) (ao (az (aY (ak (aN rfl T.lZ))))) bx)
   (ao (az (aY (ak (T.kS.c (oY T) hr T.du (pv 0) (aR (aM (ay (pv 1)) aq) (T.oi.c (wN T) hr (ak (pv 2))))))))))),?_⟩
  refine uq 1 rfl hB hC rfl rfl rfl (fun _=>rfl) q fun H1 ra n F s ba ga B1 C1 q1=>?_
  exact a8 (qH rfl B1 C1 rfl rfl rfl ga.two ga.most (j1 ga.most ga.two ga.cz.all) (fun Q' k=>bP ⟨_,rfl,ra,n,F,rfl,ba,ga.two,ga.most,ga.cz,cC ga.lt.1 (by decide),k⟩) q1)
noncomputable def Jt(T:Txt K mg):Sp:=fun vs H Q _=>∃(bk c dx L:Addr) (b:Wqaraq.Book) (ws:List V) (o i l:Nat),vs=[.ref bk,.ref c]/\bf T H bk b dx L ws/\Cl T H c 18 [(o:Int),(i:Int),(l:Int)] []/\cU T H L bk dx Q (Wqaraq.step b (.cycle o i l))
theorem TJ{n:Nat}{F:Form}(g:Good ⟨n,F⟩)(l:Bool):bh n (Wqaraq.cycledOf ⟨n,F⟩ l):=by
 have h2:=g.two;have hn:=g.most;have hF:=g.cz
 obtain⟨t,fs⟩:=F
 cases l with
 |false=>
  cases fs with
  |nil=>exact hF
  |cons a r=>
   rw[FO hn h2 hF]
   exact e8 hn h2 (fun x hx=>hF.all x (bI _ hx)) (kG hn h2 (dP hn h2 (mT hn (hF.all a bE)))).all
 |true=>
  rcases xt fs with e|⟨r,a,e⟩
  ·subst e;exact hF
  ·rw[xu]at e
   subst e
   rw[FP hn h2 hF]
   exact e8 hn h2 (kG hn h2 (dP hn h2 (hF.all a (d_ _ bE)))).all (fun x hx=>hF.all x (jF _ hx))
theorem TK(T:Txt K mg):T.ou.Ok P w base 6 (Jt T):=by
 have S:=Pl
 refine T.ou.F.ok S (by rintro _ _ _ _ ⟨bk,c,dx,L,b,ws,o,i,l,rfl,_⟩;rfl) fun cdv A outer s H vs Q E hr h=>?_
 ·obtain⟨bk,c,dx,L,b,ws,o,i,l,rfl,hB,hC,q⟩:=h
  refine⟨_,(aj (sv 2 S.nd (T.gu.c (iC T) hr T.du (pv 0) (ak (aM (ay (pv 1)) aq))))
   (aj (bt (a5 kq (pv 2) jc) (ao (az (aY (ak (aN rfl T.lZ))))) bx)
   (aj (sv 3 S.nd (gM (a5 nu (aM (ay (pv 1)) aq) aq) (T.vR.c (Rv T) hr (ak (pv 2))) (T.vS.c (Rx T) hr (ak (pv 2)))))
   (ao (az (aY (ak (T.kS.c (oY T) hr T.du (pv 0) (aR (aM (ay (pv 1)) aq) (pv 3)))))))))),?_⟩
  refine uq 1 rfl hB hC rfl rfl rfl (fun _=>rfl) q fun H1 ra n F s ba ga B1 C1 q1=>?_
  have fin:∀(H2:Hp) (r:Addr),ag H1 H2->Bd T H2 r n (Wqaraq.cycledOf ⟨n,F⟩ (l != 0))->jL (ji (bS (jR T.fh "put" (xg T) [] E0 (cO 0) (bS (eP (jj K) (jh K (cO 1) "numbers") (tC (.int 0))) (bS (cO 3) cq))) cq)) {nx:=fun x H'=>Q V.aW H',rt:=Q} [some (.ref bk),some (.ref c),some (.ref ra),some (.ref r)] H2:=by
   intro H2 r s2 b2
   exact a8 (qH rfl (B1.same s2) (C1.same s2) rfl rfl rfl ga.two ga.most (TJ ga _) (fun Q' k=>mn rfl (k H2 r (ag.refl _) b2)) (q1.of s2))
  refine aQ (bz (ir (iq (jE 2 rfl C1 rfl rfl ⟨rfl,_,rfl,aS (fun c=>?_) (fun c=>?_)⟩))))
  ·have c:=a0 c
   injection c with c
   have e:(l != 0)=false:=by rw[show l=0 by lia];rfl
   rw[e]at fin
   exact bP ⟨_,rfl,ra,n,F,rfl,ba,ga.two,ga.most,ga.cz,ga.lt.1,fun H2 r s2 b2=>fin H2 r s2 b2⟩
  ·have c:=a_ c
   have e:(l != 0)=true:=by
    rw[bne_iff_ne]
    exact fun z=>c (by rw[z];rfl)
   rw[e]at fin
   exact bP ⟨_,rfl,ra,n,F,rfl,ba,ga.two,ga.most,ga.cz,ga.lt.1,fun H2 r s2 b2=>fin H2 r s2 b2⟩
noncomputable def Ju(T:Txt K mg):Sp:=fun vs H Q _=>∃(bk c dx L:Addr) (b:Wqaraq.Book) (ws:List V) (i:Nat),vs=[.ref bk,.ref c]/\bf T H bk b dx L ws/\Cl T H c 22 [(i:Int)] []/\cU T H L bk dx Q (Wqaraq.step b (.row i))
theorem TM(T:Txt K mg):T.oz.Ok P w base 4 (Ju T):=by
 have S:=Pq
 refine T.oz.F.ok S (by rintro _ _ _ _ ⟨bk,c,dx,L,b,ws,i,rfl,_⟩;rfl) fun cdv A outer s H vs Q E hr h=>?_
 ·obtain⟨bk,c,dx,L,b,ws,i,rfl,hB,hC,q⟩:=h
  refine⟨_,(aj (sv 2 S.nd (T.gu.c (iC T) hr T.du (pv 0) (ak (aM (ay (pv 1)) aq))))
   (aj (bt (a5 kq (pv 2) jc) (ao (az (aY (ak (aN rfl T.lZ))))) bx)
   (aj (bt (a5 eQ (T.lW.c (RJ T) hr (ak (pv 2))) (aN rfl T.G3)) (ao (az (aY (ak (aN rfl T.qi))))) bx)
   (ao (az (aC fO (aY (ak (aN rfl T.dD))) (T.wg.c (RO T) hr (ak (pv 2))))))))),?_⟩
  refine uq 0 rfl hB hC rfl rfl rfl (fun _=>rfl) q fun H1 ra n F s ba ga B1 C1 q1=>?_
  have k1:bB H1 Q (gH (if 5000<(F.row n).length then Wqaraq.just (-3) else Wqaraq.tells (F.row n))):=q1.eX B1
  refine aQ (dI (ir (iq (bP ⟨_,rfl,ra,n,F,rfl,ba,ga.two,ga.most,ga.cz.all,ga.lt.1,fun H2 s2=>⟨_,_,rfl,rfl,_,rfl,aS (fun c=>?_) (fun c=>?_)⟩⟩))))
  ·have c:(5000:Int)<(((F.row n).length:Nat):Int):=a0 c
   rw[af (by lia)]at k1
   exact a8 (gW (k1.of s2))
  ·have c:¬(5000:Int)<(((F.row n).length:Nat):Int):=a_ c
   rw[ae (by lia)]at k1
   exact a8 (ke (xs:=iv (F.row n)) (by rw[cT];lia) (fun H3 Q' s3 k3=>bP ⟨_,rfl,ra,n,F,rfl,(ba.same s2).same s3,ga.two,ga.most,ga.cz.all,ga.lt.1,ga.lt.2,k3⟩) (k1.of s2))
noncomputable def Jv(T:Txt K mg):Sp:=fun vs H Q _=>∃(bk c dx L:Addr) (b:Wqaraq.Book) (ws:List V) (i:Nat),vs=[.ref bk,.ref c]/\bf T H bk b dx L ws/\Cl T H c 23 [(i:Int)] []/\cU T H L bk dx Q (Wqaraq.step b (.told i))
theorem TN(T:Txt K mg):T.oA.Ok P w base 4 (Jv T):=by
 have S:=Pr
 refine T.oA.F.ok S (by rintro _ _ _ _ ⟨bk,c,dx,L,b,ws,i,rfl,_⟩;rfl) fun cdv A outer s H vs Q E hr h=>?_
 ·obtain⟨bk,c,dx,L,b,ws,i,rfl,hB,hC,q⟩:=h
  refine⟨_,(aj (sv 2 S.nd (T.gu.c (iC T) hr T.du (pv 0) (ak (aM (ay (pv 1)) aq))))
   (aj (bt (a5 kq (pv 2) jc) (ao (az (aY (ak (aN rfl T.lZ))))) bx)
   (aj (sv 3 S.nd (T.wk.c (RQ T) hr (ak (pv 2))))
   (ao (az (aC fO (aY (dv (aN rfl T.dD) (T.wj.c (RL T) hr (ak (pv 2))) (T.wm.c (RT T) hr (ak (pv 3))))) (pv 3))))))),?_⟩
  refine uq 0 rfl hB hC rfl rfl rfl (fun _=>rfl) q fun H1 ra n F s ba ga B1 C1 q1=>?_
  have k1:bB H1 Q (gH (Wqaraq.tells ([Wqaraq.sum (F.row n),(Wqaraq.loops n (Wqaraq.follow (F.row n)):Int)]++Wqaraq.ints ((Wqaraq.follow (F.row n)).take n)))):=q1.eX B1
  have hn:=ga.most;have n2:=ga.two;have hF:=ga.cz.all;have hl:=ga.lt.1
  dsimp only at hn n2 hF hl
  rw[N1 hn hF]at k1
  refine aQ (bz (bP ⟨_,rfl,ra,n,F,rfl,ba,n2,hn,hF,hl,fun H2 r s2 fr l2=>cg ?_⟩))
  dsimp only
  refine a8 (iq (bG (uh (bG (bP ⟨_,rfl,ra,n,F,rfl,ba.same s2,n2,hn,hF,hl,fun H3 s3=>?_⟩)))))
  refine bG (bP ⟨_,rfl,r,n,reach n F,rfl,hn,s3 _ _ l2,N0 hn hF,fun H4 s4=>?_⟩)
  refine⟨cv (by show 3<=100000;decide),fun p fp=>⟨_,rfl,p,r,_,_,rfl,rfl,au,(ag.bA fp) _ _ (s4 _ _ (s3 _ _ l2)),?_,fun a fa=>?_⟩⟩
  ·refine cv ?_
   rw[cK,c_]
   show 3+_<=_
   lia
  ·have s5:=((s2.trans s3).trans s4).upd (o:=.lst [V.int 0,V.int (Wqaraq.sum (F.row n)),V.int ((Wqaraq.loops n (reach n F):Nat):Int)]) (((s2.trans s3).trans s4).free fp)
   refine k1 _ a (s5.upd (s5.free fa)) (s5.free fa) ?_
   rw[au,ma];rfl
noncomputable def Jw(T:Txt K mg):Sp:=fun vs H Q _=>∃(bk c dx L:Addr) (b:Wqaraq.Book) (ws:List V) (o i:Nat) (e:Int),vs=[.ref bk,.ref c]/\bf T H bk b dx L ws/\Cl T H c 16 [(o:Int),(i:Int),e] []/\cU T H L bk dx Q (Wqaraq.step b (.power o i e))
theorem TQ{n:Nat}(hn:n<=16)(h2:2<=n){F:Form}(h:bh n F)(e:Int):bh n (Wqaraq.powerOf n e F):=by
 unfold Wqaraq.powerOf
 have hb:aV n (if e<0 then Wqaraq.backward n F else F):=by
  split
  ·exact(j1 hn h2 h.all).all
  ·exact h.all
 generalize (if e<0 then Wqaraq.backward n F else F)=B at hb
 generalize e.natAbs=m
 induction m with
 |zero=>exact lR hn h2
 |succ m ih=>
  rw[i6,jI]
  exact e8 hn h2 ih.all hb
theorem TR(T:Txt K mg):T.oq.Ok P w base 6 (Jw T):=by
 have S:=Pj
 refine T.oq.F.ok S (by rintro _ _ _ _ ⟨bk,c,dx,L,b,ws,o,i,e,rfl,_⟩;rfl) fun cdv A outer s H vs Q E hr h=>?_
 ·obtain⟨bk,c,dx,L,b,ws,o,i,e,rfl,hB,hC,q⟩:=h
  refine⟨_,(aj (sv 2 S.nd (T.gu.c (iC T) hr T.du (pv 0) (ak (aM (ay (pv 1)) aq))))
   (aj (sv 3 S.nd (aM (ay (pv 1)) aq))
   (aj (bt (a5 kq (pv 2) jc) (ao (az (aY (ak (aN rfl T.lZ))))) bx)
   (aj (bt (a5 eQ (f_ lE rfl T.kM (by decide+kernel) (ak (pv 3))) (aN rfl T.G1)) (ao (az (aY (ak (aN rfl T.qi))))) bx)
   (ao (az (aY (ak (T.kS.c (oY T) hr T.du (pv 0) (aR (aM (ay (pv 1)) aq) (T.vP.c (Rn T) hr (aR (pv 2) (pv 3))))))))))))),?_⟩
  refine aQ (bz (qG 1 rfl hB hC rfl rfl rfl fun H1 va t1 ha=>cg ?_))
  dsimp only
  have hB:=hB.same t1
  have hC:=hC.same t1
  have q:cU T H1 L bk dx Q (Wqaraq.ofBraid b i fun x=>if Wqaraq.MOST<e.natAbs then (b,Wqaraq.just (-3)) else Wqaraq.lands b o ⟨x.n,Wqaraq.powerOf x.n e x.form⟩):=q.of t1
  refine aQ (bz (jE 2 rfl hC rfl rfl (cg ?_)))
  dsimp only
  refine aQ (dI (ir ⟨va,rfl,rfl,_,rfl,?_⟩))
  unfold Wqaraq.ofBraid at q
  generalize b.at_ i=x at *
  cases x with
  |none=>
   have ha:va=V.aW:=ha
   subst ha
   exact gf (a8 (gW (q.eX hB)))
  |some x=>
   obtain⟨ra,rfl,ba,ga⟩:=ha
   refine dN ?_
   obtain⟨n,F⟩:=x
   have q:cU T H1 L bk dx Q (if 8<e.natAbs then (b,Wqaraq.just (-3)) else Wqaraq.lands b o ⟨n,Wqaraq.powerOf n e F⟩):=q
   dsimp only [fG]
   refine aQ (dI (ir (iq (tY (mn rfl ⟨e,rfl,_,_,rfl,rfl,_,rfl,?_⟩)))))
   rw[mY]
   refine aS (fun c=>?_) (fun c=>?_)
   ·have c:(8:Int)<((e.natAbs:Nat):Int):=a0 c
    rw[af (by lia)]at q
    exact a8 (gW (q.eX hB))
   ·have c:¬(8:Int)<((e.natAbs:Nat):Int):=a_ c
    rw[ae (by lia)]at q
    exact a8 (qH rfl hB hC rfl rfl rfl ga.two ga.most (TQ ga.most ga.two ga.cz e) (fun Q' k=>bP ⟨_,rfl,_,rfl,ra,n,F,e,rfl,ba,ga.two,ga.most,ga.cz,ga.lt.1,by lia,k⟩) q)
noncomputable def Jx(T:Txt K mg):Sp:=fun vs H Q _=>∃(bk c dx L:Addr) (b:Wqaraq.Book) (ws:List V) (i j:Nat),vs=[.ref bk,.ref c]/\bf T H bk b dx L ws/\Cl T H c 19 [(i:Int),(j:Int)] []/\cU T H L bk dx Q (Wqaraq.step b (.order i j))
theorem TU(T:Txt K mg):T.ow.Ok P w base 3 (Jx T):=by
 have S:=Pn
 refine T.ow.F.ok S (by rintro _ _ _ _ ⟨bk,c,dx,L,b,ws,i,j,rfl,_⟩;rfl) fun cdv A outer s H vs Q E hr h=>?_
 ·obtain⟨bk,c,dx,L,b,ws,i,j,rfl,hB,hC,q⟩:=h
  refine⟨_,(aj (sv 2 S.nd (T.gu.c (iC T) hr T.du (pv 0) (ak (aM (ay (pv 1)) aq))))
   (aj (sv 3 S.nd (T.gu.c (iC T) hr T.du (pv 0) (ak (aM (ay (pv 1)) aq))))
   (aj (bt (PW.pt (xD (a5 kq (pv 2) jc) (xC (a5 kq (pv 3) jc)))) (ao (az (aY (ak (aN rfl T.lZ))))) bx)
   (ao (az (aY (aR (aN rfl T.dD) (T.we.c (Sb T) hr (aR (pv 2) (pv 3)))))))))),?_⟩
  refine aQ (bz (qG 0 rfl hB hC rfl rfl rfl fun H1 va t1 ha=>cg ?_))
  dsimp only
  refine aQ (bz (qG 1 rfl (hB.same t1) (hC.same t1) rfl rfl rfl fun H2 vb t2 hb=>cg ?_))
  dsimp only
  have ha:=ha.same t2
  have hB:=hB.same (t1.trans t2)
  have q:cU T H2 L bk dx Q (Wqaraq.ofTwo b i j fun x y=>(b,Wqaraq.tells [Wqaraq.order x y])):=q.of (t1.trans t2)
  refine aQ (dI ⟨_,rfl,rfl,_,rfl,?_⟩)
  unfold Wqaraq.ofTwo Wqaraq.ofBraid at q
  generalize b.at_ i=x at *
  generalize b.at_ j=y at *
  cases x with
  |none=>
   have ha:va=V.aW:=ha
   subst ha
   exact gf (gf (a8 (gW (q.eX hB))))
  |some x=>
   obtain⟨ra,rfl,ba,ga⟩:=ha
   refine dN ⟨_,rfl,rfl,_,rfl,?_⟩
   cases y with
   |none=>
    have hb:vb=V.aW:=hb
    subst hb
    exact gf (a8 (gW (q.eX hB)))
   |some y=>
    obtain⟨rb,rfl,bb,gb⟩:=hb
    refine dN ?_
    dsimp only [fG]
    have k1:bB H2 Q (gH (Wqaraq.tells [Wqaraq.order x y])):=q.eX hB
    refine a8 (bG (uh (bG (bP ⟨_,rfl,_,rfl,ra,rb,x.n,y.n,x.form,y.form,rfl,ba,bb,ga.most,gb.most,ga.cz.all,gb.cz.all,fun H3 s3=>?_⟩))))
    exact⟨cv (by show 2<=100000;decide),fun p fp=>k1 _ p (s3.upd (s3.free fp)) (s3.free fp) au⟩
noncomputable def Jy(T:Txt K mg):Sp:=fun vs H Q _=>∃(bk c dx L:Addr) (b:Wqaraq.Book) (ws:List V) (i:Nat),vs=[.ref bk,.ref c]/\bf T H bk b dx L ws/\Cl T H c 21 [(i:Int)] []/\cU T H L bk dx Q (Wqaraq.step b (.form i))
theorem TV(T:Txt K mg):T.oy.Ok P w base 3 (Jy T):=by
 have S:=Pp
 refine T.oy.F.ok S (by rintro _ _ _ _ ⟨bk,c,dx,L,b,ws,i,rfl,_⟩;rfl) fun cdv A outer s H vs Q E hr h=>?_
 ·obtain⟨bk,c,dx,L,b,ws,i,rfl,hB,hC,q⟩:=h
  refine⟨_,(aj (sv 2 S.nd (T.gu.c (iC T) hr T.du (pv 0) (ak (aM (ay (pv 1)) aq))))
   (aj (bt (a5 kq (pv 2) jc) (ao (az (aY (ak (aN rfl T.lZ))))) bx)
   (aj (sv 3 S.nd (aY (dv (aN rfl T.dD) (ay (pv 2)) (ay (pv 2)))))
   (aj (dh PassesOwn.never rfl (fJ (ay (pv 2))) (gn 4 S.nd) (ao (dX (Ci (pv 3) (jS jU (pv 4) lI (iO (ay (pv 2))))))))
   (ao (az (pv 3))))))),?_⟩
  refine uq 0 rfl hB hC rfl rfl rfl (fun _=>rfl) q fun H1 pa n F s ba ga B1 C1 q1=>?_
  have k1:bB H1 Q (iv (0::(n:Int)::F.twists::F.factors.flatMap fun (a:Perm)=>Wqaraq.ints (a.take n))):=q1.eX B1
  have hn:=ga.most;have hF:=ga.cz.all;have hl:=ga.lt.1
  dsimp only at hn hF hl
  obtain⟨da,La,ra,ia,fa⟩:=ba
  have rl:=fa.aI.len
  refine aQ (bz (bG (uh (bG ⟨_,rfl,pa,_,da,_,_,rfl,ia,T.aZ,T.dE,dQ _ _ _,bG ⟨_,rfl,pa,_,da,_,_,rfl,ia,T.aZ,T.eJ,fu _ _ _,cv (by show 3<=100000;decide),fun A0 fA=>cg ?_⟩⟩))))
  dsimp only
  have t1:=ag.bA (o:=.lst [V.int 0,V.int (n:Nat),V.int F.twists]) fA
  refine⟨_,rfl,pa,_,da,_,_,rfl,t1 _ _ ia,T.aZ,T.eU,fX _ _ _,La,rfl,⟨_,ai.of (t1 _ _ fa.lst)⟩,mG (xs:=ra.map V.ref) (fun i σ H'=>∃(v4:Option V),σ=[some (.ref bk),some (.ref c),some (.ref pa),some (.ref A0),v4]/\ag H1 H'/\Li H' A0 ([0,(n:Int),F.twists]++(F.factors.take i).flatMap fun (a:Perm)=>Wqaraq.ints (a.take n))/\([0,(n:Int),F.twists]++(F.factors.take i).flatMap fun (a:Perm)=>Wqaraq.ints (a.take n)).length<=3+16 * i)
   ⟨none,rfl,t1,by rw[ph];exact au,by rw[ph];exact aX _⟩ (fun i σ H' _ ⟨_,_,s,_⟩=>ai.of (s _ _ fa.lst)) ?_ ?_⟩
  ·intro i x σ H5 hx hq;obtain ⟨v4,rfl,s5,h5,l5⟩:=hq
   have hi:i<F.factors.length:=by
    have:=(dW.mp hx).1
    rwa[aE,rl]at this
   obtain⟨r,hr,lr⟩:=fa.aI.get (bu hi)
   have ex:x=V.ref r:=by
    rw[b_,hr]at hx
    exact(bo hx).symm
   subst ex
   have hfi:Rt n F.factors[i]:=hF _ (i5 hi)
   have fl:=hfi.aa.len
   have tk:F.factors.take (i+1)=F.factors.take i++[F.factors[i]]:=by rw[i7,bu hi];rfl
   have ef:[0,(n:Int),F.twists]++((F.factors.take (i+1)).flatMap fun (a:Perm)=>Wqaraq.ints (a.take n))=([0,(n:Int),F.twists]++(F.factors.take i).flatMap fun (a:Perm)=>Wqaraq.ints (a.take n))++Wqaraq.ints (F.factors[i].take n):=by
    rw[tk,List.flatMap_append,dM]
    simp
   rw[ef]
   generalize [0,(n:Int),F.twists]++((F.factors.take i).flatMap fun (a:Perm)=>Wqaraq.ints (a.take n))=Z at *
   generalize F.factors[i]=ff at *
   have il:(Wqaraq.ints (ff.take n)).length<=16:=by
    unfold Wqaraq.ints
    rw[aE,c_];lia
   refine⟨_,rfl,.inl ⟨rfl,_,ai.of h5⟩,_,rfl,_,rfl,pa,_,da,_,_,rfl,s5 _ _ ia,T.aZ,T.dE,dQ _ _ _,_,rfl,r,_,rfl,ai.of (s5 _ _ lr),fun y fy=>?_⟩
   rw[t_ n rfl,<-Cg]
   have s6:=ag.bA (o:=.lst (nv (ff.take n))) fy
   refine⟨A0,y,_,_,rfl,rfl,s6 _ _ h5,au,cv (by rw[cK,cT,c_];lia),?_⟩
   refine⟨_,rfl,fun b o e=>by rw[ax (a7 e fA)];exact s6 _ _ (s5 _ _ e),?_,by rw[bF];lia⟩
   show upd _ A0 _ A0=_
   rw[au,wD,ma];rfl
  ·intro σ H5 hq;obtain ⟨v4,rfl,s5,h5,l5⟩:=hq
   rw[aE,rl,gY]at h5
   exact⟨_,rfl,k1 H5 A0 s5 fA h5⟩
theorem Jz(n:Nat):∀(fs:List Perm) (F:Form),F.twists<=(takes n F fs).twists/\(takes n F fs).twists<=F.twists+fs.length
 |[],F=>⟨Int.le_refl _,by show F.twists<=F.twists+0;lia⟩
 |f::fs,F=>by
  have h:=Jz n fs (cJ n F.twists (cu n F.factors.reverse f []))
  have e:takes n F (f::fs)=takes n (cJ n F.twists (cu n F.factors.reverse f [])) fs:=rfl
  rw[e,bO]
  have:F.twists<=(cJ n F.twists (cu n F.factors.reverse f [])).twists/\(cJ n F.twists (cu n F.factors.reverse f [])).twists<=F.twists+1:=by
   unfold cJ
   split
   ·exact⟨by show F.twists<=F.twists+1;lia,Int.le_refl _⟩
   ·exact⟨Int.le_refl _,by show F.twists<=F.twists+1;lia⟩
  lia
theorem TX{n:Nat}(hn:n<=16)(n2:2<=n){c:Int}(hc:Wqaraq.crossing n c=true): -1<=(c7 n c).twists/\(c7 n c).twists+(c7 n c).factors.length<=1:=by
 obtain⟨c1,c2⟩:=jx.mp hc
 have hs:=sS hn n2 (i:=c.natAbs - 1) (by lia)
 have hI:=kG hn n2 (dP hn n2 hs)
 have h1:0<=(aO n (bM (Wqaraq.single (c.natAbs - 1)))).twists/\(aO n (bM (Wqaraq.single (c.natAbs - 1)))).twists+(aO n (bM (Wqaraq.single (c.natAbs - 1)))).factors.length<=1:=by
  rw[show aO n (bM (Wqaraq.single (c.natAbs - 1)))=aO n ⟨0,[]++[Wqaraq.single (c.natAbs - 1)]⟩ from rfl,(kK hn n2 (k:=0) (Fm.nil hn) hs).2]
  generalize Wqaraq.single (c.natAbs - 1)=t
  have e:cJ n 0 (cu n [].reverse t [])=if t=Wqaraq.delta n then ⟨0+1,trim (tl n []++[])⟩ else ⟨0,trim ([]++[t])⟩:=rfl
  have e0:trim (tl n []++[])=[]:=by
   have:tl n []++[]=([]:List Perm):=rfl
   rw[this];unfold trim;split<;>rfl
  rw[e,e0,sR]
  split
  ·exact⟨by decide,by decide⟩
  ·split<;>exact⟨Int.le_refl _,by simp⟩
 unfold c7
 split
 ·lia
 ·have e:=ze hn n2 hI
  have l:=wO hn n2 hI
  have t:(Wqaraq.backward n (aO n (bM (Wqaraq.single (c.natAbs - 1))))).twists= -((aO n (bM (Wqaraq.single (c.natAbs - 1)))).twists+(aO n (bM (Wqaraq.single (c.natAbs - 1)))).factors.length):=by rw[<-e];rfl
  rw[l,t]
  lia
theorem JA{n:Nat}(hn:n<=16)(n2:2<=n):∀(w:List Int) (F:Form),bh n F->Wqaraq.fits n w=true->
  (w.foldl (fun F c=>Wqaraq.product n F (c7 n c)) F).factors.length<=F.factors.length+w.length/\(w.foldl (fun F c=>Wqaraq.product n F (c7 n c)) F).twists.natAbs<=F.twists.natAbs+w.length
 |[],F,_,_=>⟨aX _,aX _⟩
 |c::w,F,h,hw=>by
  have hw':Wqaraq.crossing n c=true/\Wqaraq.fits n w=true:=by
   unfold Wqaraq.fits at hw ⊢
   rw[List.all_cons,br]at hw;exact hw
  have cI:=zf hn n2 hw'.1
  have ih:=JA hn n2 w (Wqaraq.product n F (c7 n c)) (e8 hn n2 h.all cI.all) hw'.2
  have l1:=Cv hn n2 (h.fm hn) cI.all
  have l2:=Ij hn n2 hw'.1
  have l3:=TX hn n2 hw'.1
  have tp:=(zc hn n2 (h.fm hn) cI.all).2
  have tt:=Jz n (c7 n c).factors ⟨F.twists+(c7 n c).twists,tw n (c7 n c).twists F.factors⟩
  rw[tp]at tt
  dsimp only at tt
  rw[gK,bO]
  lia
theorem JB{n:Nat}(hn:n<=16)(n2:2<=n){w:List Int}(hw:Wqaraq.fits n w=true):bh n (Wqaraq.formOf n w)/\(w.length<=60->Wqaraq.large (Wqaraq.formOf n w)=false):=by
 have f:=zg hn n2 w (F:=⟨0,[]⟩) (lR hn n2) hw
 refine⟨f.1,fun hl=>?_⟩
 have s:=JA hn n2 w ⟨0,[]⟩ (lR hn n2) hw
 rw[<-f.2]at s
 have s1:(Wqaraq.formOf n w).factors.length<=0+w.length:=s.1
 have s2:(Wqaraq.formOf n w).twists.natAbs<=0+w.length:=s.2
 unfold Wqaraq.large Wqaraq.FACTORS Wqaraq.TWISTS
 rw[cy (by lia),cy (by lia)];rfl
theorem bf.ne{T:Txt K mg}{H:Hp}{p dx L r:Addr}{b:Wqaraq.Book}{ws:List V}{l:List Int}(h:bf T H p b dx L ws)(k:Li H r l):r≠L:=fun e=>by
 rw[e]at k
 have k:H L=_:=k
 rw[h.lst]at k
 injection k with k
 injection k with k
 obtain⟨v0,e0,s0⟩:=h.get (i:=0) (by decide)
 obtain⟨z,hz⟩:=w8 (l:=l) (by have:=h.len;rw[k,cT]at this;lia)
 rw[k,hz]at e0
 have e0:=bo e0
 subst e0
 cases q:b.at_ 0 with
 |none=>rw[q]at s0;cases (show V.int z=V.aW from s0)
 |some x=>rw[q]at s0;obtain⟨r,e,_⟩:=s0;cases e
noncomputable def JC(T:Txt K mg):Sp:=fun vs H Q _=>∃(bk c dx L rw:Addr) (b:Wqaraq.Book) (ws:List V) (o n:Nat) (w:List Int),vs=[.ref bk,.ref c]/\bf T H bk b dx L ws/\Cl T H c 13 [(o:Int),(n:Int)] [(rw,w)]/\cU T H L bk dx Q (Wqaraq.step b (.set o n w))
theorem TY(T:Txt K mg):T.oj.Ok P w base 7 (JC T):=by
 have S:=Pf
 refine T.oj.F.ok S (by rintro _ _ _ _ ⟨bk,c,dx,L,rw,b,ws,o,n,w,rfl,_⟩;rfl) fun cdv A outer s H vs Q E hr h=>?_
 ·obtain⟨bk,c,dx,L,rw,b,ws,o,n,w,rfl,hB,hC,q⟩:=h
  refine⟨_,(aj (sv 2 S.nd (aM (ay (pv 1)) aq))
   (aj (sv 3 S.nd (aM (ay (pv 1)) aq))
   (aj (sv 4 S.nd (T.tP.c (Jm T) hr (dv (pv 2) (pv 3) (aN rfl T.BX))))
   (aj (bt (a5 ny (pv 4) (aN rfl T.dD)) (ao (az (aY (ak (pv 4))))) bx)
   (ao (az (aY (ak (T.kS.c (oY T) hr T.du (pv 0) (aR (aM (ay (pv 1)) aq) (T.tI.c (Ik T) hr (aR (pv 2) (pv 3))))))))))))),?_⟩
  have q:cU T H L bk dx Q (if Wqaraq.strands n=false then (b,Wqaraq.just (-1)) else if 100<w.length then (b,Wqaraq.just (-3)) else if Wqaraq.fits n w=false then (b,Wqaraq.just (-1)) else Wqaraq.lands b o ⟨n,Wqaraq.formOf n w⟩):=q
  refine aQ (bz (jE 1 rfl hC rfl rfl (cg ?_)))
  dsimp only
  refine aQ (bz (fY 0 rfl hC rfl rfl (cg ?_)))
  dsimp only
  have l0:=hC.li (j:=0) rfl
  refine aQ (bz (bP ⟨_,rfl,_,rfl,n,100,rw,w,rfl,l0,aX _,fun H1 s1=>cg ?_⟩))
  dsimp only
  have hB:=hB.same s1
  have hC:=hC.same s1
  have q:=q.of s1
  refine aQ (dI (ir ⟨_,rfl,rfl,_,rfl,?_⟩))
  have no:∀z:Int,z≠0->∀{A B:Prop},A->if (!decide (V.int z=V.int 0))=true then A else B:=by
   intro z hz A B a
   have hd:(!decide (V.int z=V.int 0))=true:=by rw[cy (fun h=>hz (by injection h))];rfl
   rw[hd]
   exact gf a
  have one:∀z:Int,bB H1 Q [.int z]->jL (ji (bS (cO 4) cq)) {nx:=fun x H'=>Q V.aW H',rt:=Q} [some (.ref bk),some (.ref c),some (.int n),some (.ref rw),some (.int z)] H1:=fun z k=>
   a8 (bG (mn rfl (show _/\_ from ⟨cv (by show 1<=100000;decide),fun p fp=>k _ p (ag.bA fp) fp au⟩)))
  unfold xh
  by_cases c1:Wqaraq.strands n=false
  ·rw[af c1]at q
   rw[af c1]
   exact no _ (by decide) (one _ (q.eX hB))
  ·rw[ae c1]at q
   rw[ae c1]
   by_cases c2:100<w.length
   ·rw[af c2]at q
    rw[af c2]
    exact no _ (by decide) (one _ (q.eX hB))
   ·rw[ae c2]at q
    rw[ae c2]
    by_cases c3:Wqaraq.fits n w=false
    ·rw[af c3]at q
     rw[af c3]
     exact no _ (by decide) (one _ (q.eX hB))
    ·rw[ae c3]at q
     rw[ae c3]
     refine dN ?_
     dsimp only [fG]
     have nn:=p8.mp (eq_true_of_ne_false c1)
     have fw:=eq_true_of_ne_false c3
     exact a8 (qH rfl hB hC rfl rfl rfl nn.1 nn.2 (JB nn.2 nn.1 fw).1 (fun Q' k=>bP ⟨_,rfl,_,rfl,n,rw,w,rfl,nn.1,nn.2,s1 _ _ l0,fw,by lia,k⟩) q)
noncomputable def JD(T:Txt K mg):Sp:=fun vs H Q _=>∃(bk c dx L rw:Addr) (b:Wqaraq.Book) (ws:List V) (o n:Nat) (w:List Int),vs=[.ref bk,.ref c]/\bf T H bk b dx L ws/\Cl T H c 24 [(o:Int),(n:Int)] [(rw,w)]/\cU T H L bk dx Q (Wqaraq.step b (.states o n w))
theorem TZ(T:Txt K mg):T.oB.Ok P w base 7 (JD T):=by
 have S:=Pt
 refine T.oB.F.ok S (by rintro _ _ _ _ ⟨bk,c,dx,L,rw,b,ws,o,n,w,rfl,_⟩;rfl) fun cdv A outer s H vs Q E hr h=>?_
 ·obtain⟨bk,c,dx,L,rw,b,ws,o,n,w,rfl,hB,hC,q⟩:=h
  refine⟨_,(aj (sv 2 S.nd (aM (ay (pv 1)) aq))
   (aj (sv 3 S.nd (aM (ay (pv 1)) aq))
   (aj (bt (a5 eQ (pv 2) (aN rfl T.G6)) (ao (az (aY (ak (aN rfl T.gG))))) bx)
   (aj (sv 4 S.nd (T.tP.c (Jm T) hr (dv (pv 2) (pv 3) (aN rfl T.G2))))
   (aj (bt (a5 ny (pv 4) (aN rfl T.dD)) (ao (az (aY (ak (pv 4))))) bx)
   (aj (sv 4 S.nd (T.kS.c (oY T) hr T.du (pv 0) (aR (aM (ay (pv 1)) aq) (T.tI.c (Ik T) hr (aR (pv 2) (pv 3))))))
   (aj (bt (a5 ny (pv 4) (aN rfl T.dD)) (ao (az (aY (ak (pv 4))))) bx)
   (ao (az (aC fO (aY (ak (aN rfl T.dD))) (T.wd.c (SM T) hr (aR (pv 2) (pv 3))))))))))))),?_⟩
  have q:cU T H L bk dx Q (if n<2\/6<n then (b,Wqaraq.just (-1)) else if 10<w.length then (b,Wqaraq.just (-3)) else if Wqaraq.fits n w=false\/16<=o then (b,Wqaraq.just (-1)) else (b.set o (some ⟨n,Wqaraq.formOf n w⟩),Wqaraq.tells (Wqaraq.statesOf n w))):=q
  refine aQ (bz (jE 1 rfl hC rfl rfl (cg ?_)))
  dsimp only
  refine aQ (bz (fY 0 rfl hC rfl rfl (cg ?_)))
  dsimp only
  have l0:=hC.li (j:=0) rfl
  refine aQ (dI (ir ⟨_,rfl,_,_,rfl,rfl,_,rfl,aS (fun c6=>?_) (fun c6=>?_)⟩))
  ·have c6:(6:Int)<(n:Int):=a0 c6
   rw[af (by lia)]at q
   exact a8 (gW (q.eX hB))
  have c6:¬(6:Int)<(n:Int):=a_ c6
  dsimp only [fG]
  refine aQ (bz (bP ⟨_,rfl,_,rfl,n,10,rw,w,rfl,l0,by decide,fun H1 s1=>cg ?_⟩))
  dsimp only
  have hB:=hB.same s1
  have hC:=hC.same s1
  have q:=q.of s1
  have l1:Li H1 rw w:=s1 _ _ l0
  have nrw:=hB.ne l1
  refine aQ (dI (ir ⟨_,rfl,rfl,_,rfl,?_⟩))
  have no:∀z:Int,z≠0->∀{A B:Prop},A->if (!decide (V.int z=V.int 0))=true then A else B:=by
   intro z hz A B a
   have hd:(!decide (V.int z=V.int 0))=true:=by rw[cy (fun h=>hz (by injection h))];rfl
   rw[hd]
   exact gf a
  have one:∀(H1:Hp) (z:Int),bB H1 Q [.int z]->jL (ji (bS (cO 4) cq)) {nx:=fun x H'=>Q V.aW H',rt:=Q} [some (.ref bk),some (.ref c),some (.int n),some (.ref rw),some (.int z)] H1:=fun H1 z k=>
   a8 (bG (mn rfl (show _/\_ from ⟨cv (by show 1<=100000;decide),fun p fp=>k _ p (ag.bA fp) fp au⟩)))
  unfold xh
  by_cases c1:Wqaraq.strands n=false
  ·have:n<2:=by
    refine Nat.not_le.mp fun z=>?_
    rw[p8.mpr ⟨z,by lia⟩]at c1
    cases c1
   rw[af (by lia)]at q
   rw[af c1]
   exact no _ (by decide) (one H1 _ (q.eX hB))
  ·have nn:=p8.mp (eq_true_of_ne_false c1)
   rw[ae (by lia)]at q
   rw[ae c1]
   by_cases c2:10<w.length
   ·rw[af c2]at q
    rw[af c2]
    exact no _ (by decide) (one H1 _ (q.eX hB))
   ·rw[ae c2]at q
    rw[ae c2]
    by_cases c3:Wqaraq.fits n w=false
    ·rw[af (.inl c3)]at q
     rw[af c3]
     exact no _ (by decide) (one H1 _ (q.eX hB))
    ·rw[ae c3]
     refine dN ?_
     dsimp only [fG]
     have fw:=eq_true_of_ne_false c3
     have fs:=JB nn.2 nn.1 fw
     have sm:=fs.2 (by lia)
     refine aQ (bz (Jo rfl hB hC rfl rfl rfl nn.1 nn.2 fs.1 (fun Q' k=>bP ⟨_,rfl,_,rfl,n,rw,w,rfl,nn.1,nn.2,l1,fw,by lia,k⟩) fun H2 ws2 b2 B2=>cg ?_))
     dsimp only
     refine aQ (dI (ir ⟨_,rfl,rfl,_,rfl,?_⟩))
     have free:∀p,H2 p=none->H1 p=none:=fun p fp=>by
      cases q':H1 p with
      |none=>rfl
      |some u=>
       exfalso
       by_cases e:p=L
       ·rw[e,B2.lst]at fp;cases fp
       ·rw[b2 _ _ q' e]at fp;cases fp
     unfold Wqaraq.lands at B2 ⊢
     by_cases c4:16<=o
     ·rw[af (.inr c4)]at q
      rw[af (show Wqaraq.PLACES<=o from c4)]at B2 ⊢
      refine no (-1) (by decide) (one H2 _ fun H3 a s3 fa e=>?_)
      exact q H3 a ws2 (fun x o e z=>s3 _ _ (b2 _ _ e z)) (B2.same s3) (free a fa) e
     ·rw[ae (fun z=>z.elim c3 c4)]at q
      rw[ae (show ¬Wqaraq.PLACES<=o from c4),ae (show ¬(Wqaraq.large (Wqaraq.Braid.mk n (Wqaraq.formOf n w)).form=true) from by show ¬(Wqaraq.large (Wqaraq.formOf n w)=true);rw[sm];decide)]at B2 ⊢
      refine dN ?_
      dsimp only [fG]
      have sl:(iv (Wqaraq.statesOf n w)).length<=90000:=by
       rw[cT,Gw fw,aE,cD];lia
      refine a8 (ke sl (fun H3 Q' s3 k3=>bP ⟨_,rfl,_,rfl,n,rw,w,rfl,nn.1,by lia,s3 _ _ (b2 _ _ l1 nrw),fw,by lia,k3⟩) fun H3 a s3 fa e=>?_)
      exact q H3 a ws2 (fun x o e z=>s3 _ _ (b2 _ _ e z)) (B2.same s3) (free a fa) e
inductive iD(T:Txt K mg):Addr->Sp->Prop where
 |T1:iD T T.oj.f (JC T)
 |T2:iD T T.om.f (Jp T)
 |T3:iD T T.oo.f (Js T)
 |T4:iD T T.oq.f (Jw T)
 |T5:iD T T.ot.f (Jq T)
 |T6:iD T T.ou.f (Jt T)
 |T7:iD T T.ow.f (Jx T)
 |starts_:iD T T.ox.f (Jr T)
 |T8:iD T T.oy.f (Jy T)
 |T9:iD T T.oz.f (Ju T)
 |T_:iD T T.oA.f (Jv T)
 |Ua:iD T T.oB.f (JD T)
theorem Ub(T:Txt K mg){A:Around}(hr:cB 7 A):zZ P w K mg base A (iD T):=by
 refine⟨fun f sp h=>?_⟩
 cases h
 ·exact⟨_,_,_,TY T,hr.mono (by decide),T.oj.b,T.oj.F.kp⟩
 ·exact⟨_,_,_,Tw T,hr.mono (by decide),T.om.b,T.om.F.kp⟩
 ·exact⟨_,_,_,TH T,hr.mono (by decide),T.oo.b,T.oo.F.kp⟩
 ·exact⟨_,_,_,TR T,hr.mono (by decide),T.oq.b,T.oq.F.kp⟩
 ·exact⟨_,_,_,Tz T,hr.mono (by decide),T.ot.b,T.ot.F.kp⟩
 ·exact⟨_,_,_,TK T,hr.mono (by decide),T.ou.b,T.ou.F.kp⟩
 ·exact⟨_,_,_,TU T,hr.mono (by decide),T.ow.b,T.ow.F.kp⟩
 ·exact⟨_,_,_,TB T,hr.mono (by decide),T.ox.b,T.ox.F.kp⟩
 ·exact⟨_,_,_,TV T,hr.mono (by decide),T.oy.b,T.oy.F.kp⟩
 ·exact⟨_,_,_,TM T,hr.mono (by decide),T.oz.b,T.oz.F.kp⟩
 ·exact⟨_,_,_,TN T,hr.mono (by decide),T.oA.b,T.oA.F.kp⟩
 ·exact⟨_,_,_,TZ T,hr.mono (by decide),T.oB.b,T.oB.F.kp⟩
theorem dR{n:Int}(h:WqaraqNeutral.natural n=true):∃m:Nat,n=(m:Int):=⟨n.toNat,by have:=ui h;lia⟩
noncomputable def Uc(T:Txt K mg):Sp:=fun vs H Q _=>∃(bk c dx L:Addr) (b:Wqaraq.Book) (ws:List V) (k:Int) (ns:List Int) (rws:d9),vs=[.ref bk,.ref c]/\bf T H bk b dx L ws/\Cl T H c k ns rws/\PyWqaraq.shape k=some (ns.length,rws.length)/\13<=k/\WqaraqNeutral.asked1 ((k::ns)::rws.map (·.2))=true/\
 ∀(H':Hp) (a:Addr) (ws':List V),bq L H H'->bf T H' bk (WqaraqNeutral.step b ((k::ns)::rws.map (·.2))).1 dx L ws'->H a=none->H' a=some (.lst (iv (WqaraqNeutral.step b ((k::ns)::rws.map (·.2))).2))->Q (.ref a) H'
theorem Ud{T:Txt K mg}{H:Hp}{Q:VK}{bk c dx L:Addr}{b:Wqaraq.Book}{ws:List V}{k:Int}{ns:List Int}{rws:d9}(hB:bf T H bk b dx L ws)(hC:Cl T H c k ns rws)(hs:PyWqaraq.shape k=some (ns.length,rws.length))(hk:13<=k)(ha:WqaraqNeutral.asked1 ((k::ns)::rws.map (·.2))=true)
  (q:∀(H':Hp) (a:Addr) (ws':List V),bq L H H'->bf T H' bk (WqaraqNeutral.step b ((k::ns)::rws.map (·.2))).1 dx L ws'->H a=none->H' a=some (.lst (iv (WqaraqNeutral.step b ((k::ns)::rws.map (·.2))).2))->Q (.ref a) H'):
  ∃f sp,T.gU k=some (.ref f)/\iD T f sp/\sp [.ref bk,.ref c] H Q E0:=by
 have hm:=uj hs
 simp only [m6,bY,Prod.mk.injEq,List.not_mem_nil,or_false]at hm
 rcases hm with ⟨rfl,h1,h2⟩|⟨rfl,h1,h2⟩|⟨rfl,h1,h2⟩|⟨rfl,h1,h2⟩|⟨rfl,h1,h2⟩|⟨rfl,h1,h2⟩|⟨rfl,h1,h2⟩|⟨rfl,h1,h2⟩|⟨rfl,h1,h2⟩|⟨rfl,h1,h2⟩|⟨rfl,h1,h2⟩|⟨rfl,h1,h2⟩|⟨rfl,h1,h2⟩|⟨rfl,h1,h2⟩|⟨rfl,h1,h2⟩|⟨rfl,h1,h2⟩|⟨rfl,h1,h2⟩|⟨rfl,h1,h2⟩|⟨rfl,h1,h2⟩|⟨rfl,h1,h2⟩|⟨rfl,h1,h2⟩|⟨rfl,h1,h2⟩|⟨rfl,h1,h2⟩|⟨rfl,h1,h2⟩
 all_goals try (exfalso;lia)
 ·obtain⟨x0,x1,rfl⟩:=dF h1
  obtain⟨⟨rw,y0⟩,rfl⟩:=b0 h2
  have ha:(WqaraqNeutral.natural x0&&(WqaraqNeutral.natural x1&&y0.all WqaraqNeutral.whole32))=true:=ha
  rw[br,br]at ha
  obtain⟨m0,rfl⟩:=dR ha.1
  obtain⟨m1,rfl⟩:=dR ha.2.1
  exact⟨_,_,T.Hr,.T1,bk,c,dx,L,rw,b,ws,_,_,_,rfl,hB,hC,q⟩
 ·obtain⟨x0,x1,x2,rfl⟩:=mo h1
  obtain rfl:=len0 h2
  have ha:(WqaraqNeutral.natural x0&&(WqaraqNeutral.natural x1&&WqaraqNeutral.natural x2))=true:=ha
  rw[br,br]at ha
  obtain⟨m0,rfl⟩:=dR ha.1
  obtain⟨m1,rfl⟩:=dR ha.2.1
  obtain⟨m2,rfl⟩:=dR ha.2.2
  exact⟨_,_,T.Ht,.T2,bk,c,dx,L,b,ws,_,_,_,rfl,hB,hC,q⟩
 ·obtain⟨x0,x1,rfl⟩:=dF h1
  obtain rfl:=len0 h2
  have ha:(WqaraqNeutral.natural x0&&WqaraqNeutral.natural x1)=true:=ha
  rw[br]at ha
  obtain⟨m0,rfl⟩:=dR ha.1
  obtain⟨m1,rfl⟩:=dR ha.2
  exact⟨_,_,T.Hu,.T3,bk,c,dx,L,b,ws,_,_,rfl,hB,hC,q⟩
 ·obtain⟨x0,x1,x2,rfl⟩:=mo h1
  obtain rfl:=len0 h2
  have ha:(WqaraqNeutral.natural x0&&(WqaraqNeutral.natural x1&&WqaraqNeutral.whole32 x2))=true:=ha
  rw[br,br]at ha
  obtain⟨m0,rfl⟩:=dR ha.1
  obtain⟨m1,rfl⟩:=dR ha.2.1
  exact⟨_,_,T.Hv,.T4,bk,c,dx,L,b,ws,_,_,_,rfl,hB,hC,q⟩
 ·obtain⟨x0,x1,x2,rfl⟩:=mo h1
  obtain rfl:=len0 h2
  have ha:(WqaraqNeutral.natural x0&&(WqaraqNeutral.natural x1&&WqaraqNeutral.natural x2))=true:=ha
  rw[br,br]at ha
  obtain⟨m0,rfl⟩:=dR ha.1
  obtain⟨m1,rfl⟩:=dR ha.2.1
  obtain⟨m2,rfl⟩:=dR ha.2.2
  exact⟨_,_,T.Hw,.T5,bk,c,dx,L,b,ws,_,_,_,rfl,hB,hC,q⟩
 ·obtain⟨x0,x1,x2,rfl⟩:=mo h1
  obtain rfl:=len0 h2
  have ha:(WqaraqNeutral.natural x0&&(WqaraqNeutral.natural x1&&WqaraqNeutral.natural x2))=true:=ha
  rw[br,br]at ha
  obtain⟨m0,rfl⟩:=dR ha.1
  obtain⟨m1,rfl⟩:=dR ha.2.1
  obtain⟨m2,rfl⟩:=dR ha.2.2
  exact⟨_,_,T.Hx,.T6,bk,c,dx,L,b,ws,_,_,_,rfl,hB,hC,q⟩
 ·obtain⟨x0,x1,rfl⟩:=dF h1
  obtain rfl:=len0 h2
  have ha:(WqaraqNeutral.natural x0&&WqaraqNeutral.natural x1)=true:=ha
  rw[br]at ha
  obtain⟨m0,rfl⟩:=dR ha.1
  obtain⟨m1,rfl⟩:=dR ha.2
  exact⟨_,_,T.Hy,.T7,bk,c,dx,L,b,ws,_,_,rfl,hB,hC,q⟩
 ·obtain⟨x0,x1,rfl⟩:=dF h1
  obtain rfl:=len0 h2
  have ha:(WqaraqNeutral.natural x0&&WqaraqNeutral.natural x1)=true:=ha
  rw[br]at ha
  obtain⟨m0,rfl⟩:=dR ha.1
  obtain⟨m1,rfl⟩:=dR ha.2
  exact⟨_,_,T.Hz,.starts_,bk,c,dx,L,b,ws,_,_,rfl,hB,hC,q⟩
 ·obtain⟨x0,rfl⟩:=b0 h1
  obtain rfl:=len0 h2
  have ha:(WqaraqNeutral.natural x0)=true:=ha
  obtain⟨m0,rfl⟩:=dR ha
  exact⟨_,_,T.HA,.T8,bk,c,dx,L,b,ws,_,rfl,hB,hC,q⟩
 ·obtain⟨x0,rfl⟩:=b0 h1
  obtain rfl:=len0 h2
  have ha:(WqaraqNeutral.natural x0)=true:=ha
  obtain⟨m0,rfl⟩:=dR ha
  exact⟨_,_,T.HB,.T9,bk,c,dx,L,b,ws,_,rfl,hB,hC,q⟩
 ·obtain⟨x0,rfl⟩:=b0 h1
  obtain rfl:=len0 h2
  have ha:(WqaraqNeutral.natural x0)=true:=ha
  obtain⟨m0,rfl⟩:=dR ha
  exact⟨_,_,T.HC,.T_,bk,c,dx,L,b,ws,_,rfl,hB,hC,q⟩
 ·obtain⟨x0,x1,rfl⟩:=dF h1
  obtain⟨⟨rw,y0⟩,rfl⟩:=b0 h2
  have ha:(WqaraqNeutral.natural x0&&(WqaraqNeutral.natural x1&&y0.all WqaraqNeutral.whole32))=true:=ha
  rw[br,br]at ha
  obtain⟨m0,rfl⟩:=dR ha.1
  obtain⟨m1,rfl⟩:=dR ha.2.1
  exact⟨_,_,T.HD,.Ua,bk,c,dx,L,rw,b,ws,_,_,_,rfl,hB,hC,q⟩
theorem Ue(T:Txt K mg):T.wq.Ok P w base 8 (Uc T):=by
 have S:=Pu
 refine T.wq.F.ok S (by rintro _ _ _ _ ⟨bk,c,dx,L,b,ws,k,ns,rws,rfl,_⟩;rfl) fun cdv A outer s H vs Q E hr h=>?_
 ·obtain⟨bk,c,dx,L,b,ws,k,ns,rws,rfl,hB,hC,hs,hk,ha,q⟩:=h
  obtain⟨f,sp,e1,e2,e3⟩:=Ud hB hC hs hk ha q
  have FT:=Ub (P:=P) (w:=w) (base:=base) T hr
  refine⟨_,(aj (sv 2 S.nd (zY rfl T.Ha (ay (pv 1))))
   (ao (az (GR (i:=2) FT nJ rfl (Or.inl rfl) (aR (pv 0) (pv 1)))))),?_⟩
  obtain⟨d2,a,b2,h⟩:=hC
  refine aQ (bz ⟨_,rfl,c,_,d2,_,_,rfl,h.ins,T.kO,T.tf,CF _ _ _,k,_,rfl,e1,cg ?_⟩)
  exact⟨f,sp,rfl,e2,_,rfl,_,rfl,e3⟩
noncomputable def fv(p:Addr)(i:Nat):List (Str×V):=ck "at" (.int (i:Nat)) (ck "calls" (.ref p) [])
theorem CO(p:Addr)(i:Nat):(fv p i).lookup ("calls":Str)=some (.ref p):=by
 unfold fv;rw[cR,ae (by decide),cR,af rfl]
theorem qI(p:Addr)(i:Nat):(fv p i).lookup ("at":Str)=some (.int (i:Nat)):=by
 unfold fv;rw[cR,af rfl]
theorem qJ{p:Addr}{i:Nat}{x:Str}(h1:¬x=("at":Str))(h2:¬x=("calls":Str)):(fv p i).lookup x=none:=by
 unfold fv;rw[cR,ae h1,cR,ae h2];rfl
theorem JE(p:Addr)(i:Nat):fv p i=[(("calls":Str),.ref p),(("at":Str),.int (i:Nat))]:=by
 unfold fv
 show ck "at" (.int (i:Nat)) [(("calls":Str),.ref p)]=_
 unfold ck
 rw[ae (by decide)];rfl
theorem JF(p:Addr)(i j:Nat):ck "at" (.int (j:Nat)) (fv p i)=fv p j:=by
 rw[JE,JE]
 unfold ck
 rw[ae (by decide)]
 unfold ck
 rw[af rfl]
structure eY(T:Txt K mg)(H:Hp)(r dx p:Addr)(l:List Int)(i:Nat):Prop where
 ins:H r=some (.ins T.fj dx (fv p i))
 seq:ai K H p (iv l)
 ne:p≠r\/∀H,ai K H p (iv l)
theorem m7{K:PySem.W.Frag}{H H':Hp}{r p:Addr}{xs:List V}(s:bq r H H')(h:ai K H p xs)(ne:p≠r\/∀H,ai K H p xs):ai K H' p xs:=by
 rcases ne with ne|z
 rotate_left
 ·exact z H'
 rcases h with (h|⟨o,h⟩)|h
 ·exact .inl (.inl (s _ _ h ne))
 ·exact .inl (.inr ⟨o,s _ _ h ne⟩)
 ·exact .inr h
theorem xi{K:PySem.W.Frag}{H:Hp}{r p:Addr}{xs:List V}(h:ai K H p xs)(n:H r=none):p≠r\/∀H,ai K H p xs:=by
 rcases h with (h|⟨o,h⟩)|h
 ·exact .inl (a7 h n)
 ·exact .inl (a7 h n)
 ·exact .inr fun _=>.inr h
noncomputable def Ug(T:Txt K mg):Sp:=fun vs H Q _=>∃(r dx p:Addr),vs=[.ref r,.ref p]/\H r=some (.ins T.fj dx [])/\∀H':Hp,bq r H H'->H' r=some (.ins T.fj dx (fv p 0))->Q .aW H'
theorem Uh(T:Txt K mg):T.wz.Ok mg P w base 1 (Ug T):=by
 have S:=P8
 refine T.wz.F.ok S (by rintro _ _ _ _ ⟨r,dx,p,rfl,_⟩;rfl) fun cdv A outer s H vs Q E hr h=>?_
 ·obtain⟨r,dx,p,rfl,hr0,q⟩:=h
  refine⟨_,(aj (gZ (pv 0) (pv 1) rfl)
   (ao (gZ (pv 0) aq rfl))),?_⟩
  refine⟨_,rfl,_,rfl,r,_,dx,_,rfl,hr0,T.ft,T.tj,(by show 0<1000;decide),?_⟩
  refine⟨_,rfl,r,_,dx,_,rfl,au,T.ft,T.l7,(by show 1<1000;decide),?_⟩
  refine q _ (fun b o e hb=>by rw[ax hb,ax hb];exact e) ?_
  rw[au];rfl
noncomputable def Ui(T:Txt K mg):Sp:=fun vs H Q _=>∃(r dx p:Addr) (l:List Int) (i:Nat),vs=[.ref r]/\eY T H r dx p l i/\Val H Q (.bl (decide (l.length<=i)))
theorem Uj(T:Txt K mg):T.wA.Ok mg P w base 1 (Ui T):=by
 have S:=P9
 refine T.wA.F.ok S (by rintro _ _ _ _ ⟨r,dx,p,l,i,rfl,_⟩;rfl) fun cdv A outer s H vs Q E hr h=>?_
 ·obtain⟨r,dx,p,l,i,rfl,h,q⟩:=h
  refine⟨_,(ao (az (jD xM (ay (pv 0)) (c9 T.cZ (ay (pv 0)))))),?_⟩
  refine⟨_,rfl,r,_,dx,_,_,rfl,h.ins,T.ft,T.l7,qI _ _,_,rfl,r,_,dx,_,_,rfl,h.ins,T.ft,T.tj,CO _ _,p,_,rfl,.inl h.seq,_,_,rfl,rfl,?_⟩
  rw[cT]
  exact ip (q H (ag.refl _)) (gA.mpr (by lia))
noncomputable def Uk(T:Txt K mg):Sp:=fun vs H Q _=>∃(r dx p:Addr) (l:List Int) (i:Nat) (z:Int),vs=[.ref r]/\eY T H r dx p l i/\l[i]?=some z/\∀H':Hp,bq r H H'->eY T H' r dx p l (i+1)->Q (.int z) H'
theorem JG(T:Txt K mg):T.tT.Ok mg P w base 1 (Uk T):=by
 have S:=P_
 refine T.tT.F.ok S (by rintro _ _ _ _ ⟨r,dx,p,l,i,z,rfl,_⟩;rfl) fun cdv A outer s H vs Q E hr h=>?_
 ·obtain⟨r,dx,p,l,i,z,rfl,h,hz,q⟩:=h
  refine⟨_,(aj (sv 1 S.nd (aM (ay (pv 0)) (ay (pv 0))))
   (aj (gZ (pv 0) (aC cj (ay (pv 0)) aq) rfl)
   (ao (az (pv 1))))),?_⟩
  refine⟨_,rfl,r,_,dx,_,_,rfl,h.ins,T.ft,T.tj,CO _ _,_,rfl,r,_,dx,_,_,rfl,h.ins,T.ft,T.l7,qI _ _,p,_,_,_,rfl,rfl,h.seq,B3 rfl hz,?_⟩
  refine⟨_,rfl,r,_,dx,_,_,rfl,h.ins,T.ft,T.l7,qI _ _,_,_,rfl,rfl,_,rfl,r,_,dx,_,rfl,h.ins,T.ft,T.l7,(by show 2<1000;decide),?_⟩
  refine⟨_,rfl,?_⟩
  have b:bq r H (upd H r (.ins T.fj dx (ck "at" (.int ((i:Int)+1)) (fv p i)))):=fun c o e n=>(ax n).trans e
  refine q _ b ⟨?_,m7 b h.seq h.ne,h.ne⟩
  rw[au]
  show some (HO.ins T.fj dx (ck "at" (V.int ((i:Int)+1)) (fv p i)))=_
  rw[show (i:Int)+1=((i+1:Nat):Int) by lia,JF]
noncomputable def Ul(T:Txt K mg):Sp:=fun vs H Q _=>∃(r dx p:Addr) (l:List Int) (i m:Nat),vs=[.ref r,.int m]/\eY T H r dx p l i/\∀(H':Hp) (a:Addr),bq r H H'->eY T H' r dx p l (i+m)->H a=none->Li H' a ((l.drop i).take m)->Q (.ref a) H'
theorem JH(T:Txt K mg):T.tU.Ok mg P w base 1 (Ul T):=by
 have S:=Qa
 refine T.tU.F.ok S (by rintro _ _ _ _ ⟨r,dx,p,l,i,m,rfl,_⟩;rfl) fun cdv A outer s H vs Q E hr h=>?_
 ·obtain⟨r,dx,p,l,i,m,rfl,h,q⟩:=h
  refine⟨_,(aj (sv 2 S.nd (ay (pv 0)))
   (aj (gZ (pv 0) (aC cj (pv 2) (pv 1)) rfl)
   (ao (az (jS jU (ay (pv 0)) (iO (pv 2)) (iO (ay (pv 0)))))))),?_⟩
  refine⟨_,rfl,r,_,dx,_,_,rfl,h.ins,T.ft,T.l7,qI _ _,?_⟩
  refine⟨_,rfl,_,rfl,_,_,rfl,rfl,_,rfl,r,_,dx,_,rfl,h.ins,T.ft,T.l7,(by show 2<1000;decide),?_⟩
  have b:bq r H (upd H r (.ins T.fj dx (ck "at" (.int ((i:Int)+(m:Int))) (fv p i)))):=fun c o e n=>(ax n).trans e
  have hr1:upd H r (.ins T.fj dx (ck "at" (.int ((i:Int)+(m:Int))) (fv p i))) r=some (.ins T.fj dx (fv p (i+m))):=by
   rw[au,show (i:Int)+(m:Int)=((i+m:Nat):Int) by lia,JF]
  have s1:=m7 b h.seq h.ne
  refine⟨_,rfl,r,_,dx,_,_,rfl,hr1,T.ft,T.tj,CO _ _,_,rfl,_,rfl,_,rfl,r,_,dx,_,_,rfl,hr1,T.ft,T.l7,qI _ _,_,rfl,p,_,rfl,s1,fun a fa=>?_⟩
  have na:H a=none:=by
   by_cases e:a=r
   ·rw[e,au]at fa;cases fa
   ·rwa[ax e]at fa
  have b2:bq r H (upd (upd H r (.ins T.fj dx (ck "at" (.int ((i:Int)+(m:Int))) (fv p i)))) a (.lst (cX (iv l) (some (i:Int)) (some ((i+m:Nat):Int))))):=fun c o e n=>(ax (a7 e na)).trans (b _ _ e n)
  refine q _ a b2 ⟨(ax (fun e=>by rw[<-e,hr1]at fa;cases fa)).trans hr1,m7 b2 h.seq h.ne,h.ne⟩ na ?_
  show _=some (HO.lst _)
  rw[au,HI i (i+m) rfl rfl,<-HL,<-HK,List.drop_take,show i+m - i=m by lia]
noncomputable def Um(T:Txt K mg):Sp:=fun vs H Q _=>∃(c dx a b:Addr) (k:Int),vs=[.ref c,.int k,.ref a,.ref b]/\H c=some (.ins T.kN dx [])/\∀H':Hp,bq c H H'->H' c=some (.ins T.kN dx (mZ k a b))->Q .aW H'
theorem Uo(T:Txt K mg):T.wy.Ok mg P w base 1 (Um T):=by
 have S:=P7
 refine T.wy.F.ok S (by rintro _ _ _ _ ⟨c,dx,a,b,k,rfl,_⟩;rfl) fun cdv A outer s H vs Q E hr h=>?_
 ·obtain⟨c,dx,a,b,k,rfl,hc,q⟩:=h
  refine⟨_,(aj (gZ (pv 0) (pv 1) rfl)
   (aj (gZ (pv 0) (pv 2) rfl)
   (ao (gZ (pv 0) (pv 3) rfl)))),?_⟩
  refine⟨_,rfl,_,rfl,c,_,dx,_,rfl,hc,T.kO,T.tf,(by show 0<1000;decide),?_⟩
  refine⟨_,rfl,_,rfl,c,_,dx,_,rfl,au,T.kO,T.BZ,(by show 1<1000;decide),?_⟩
  refine⟨_,rfl,_,rfl,c,_,dx,_,rfl,au,T.kO,T.vM,(by show 2<1000;decide),?_⟩
  refine q _ (fun b o e hb=>by rw[ax hb,ax hb,ax hb];exact e) ?_
  rw[au];rfl
theorem JI{k:Nat}{l:List Int}{xs:List (List Int)}{t:List Int}(h:PyFlat.rows (k+1) l=some (xs,t)):∃(m:Nat) (r:List Int) (ys:List (List Int)),l=(m:Int)::r/\m<=r.length/\xs=r.take m::ys/\PyFlat.rows k (r.drop m)=some (ys,t):=by
 cases l with
 |nil=>cases h
 |cons z r=>
  unfold PyFlat.rows PyFlat.row at h
  dsimp only at h
  by_cases c:0<=z/\z.toNat<=r.length
  ·rw[af c]at h
   dsimp only at h
   cases q:PyFlat.rows k (r.drop z.toNat) with
   |none=>rw[q]at h;cases h
   |some y=>
    rw[q]at h
    obtain⟨ys,t'⟩:=y
    dsimp only at h
    injection h with h
    injection h with h1 h2
    exact⟨z.toNat,r,ys,by rw[Int.toNat_of_nonneg c.1],c.2,h1.symm,by rw[q,h2]⟩
  ·rw[ae c]at h;cases h
theorem CP:∀{m:Nat}{l:List Int}{xs:List (List Int)}{t:List Int},PyFlat.rows m l=some (xs,t)->xs.length=m
 |0,l,xs,t,h=>by
  unfold PyFlat.rows at h
  injection h with h;injection h with h1 h2;subst h1;rfl
 |m+1,l,xs,t,h=>by
  obtain⟨w,r1,ys1,f1,f2,f3,f4⟩:=JI h
  rw[f3,bO,CP f4]
theorem JJ{l:List Int}{cc:List (List Int)}{t:List Int}(h:PyFlat.call PyWqaraq.shape l=some (cc,t)):∃(k:Int) (r:List Int) (n m:Nat) (xs:List (List Int)),l=k::r/\PyWqaraq.shape k=some (n,m)/\n<=r.length/\PyFlat.rows m (r.drop n)=some (xs,t)/\cc=(k::r.take n)::xs:=by
 cases l with
 |nil=>cases h
 |cons k r=>
  unfold PyFlat.call at h
  dsimp only at h
  cases q:PyWqaraq.shape k with
  |none=>rw[q]at h;cases h
  |some y=>
   obtain⟨n,m⟩:=y
   rw[q]at h
   dsimp only at h
   by_cases c:r.length<n
   ·rw[af c]at h;cases h
   ·rw[ae c]at h
    cases q2:PyFlat.rows m (r.drop n) with
    |none=>rw[q2]at h;cases h
    |some z=>
     obtain⟨xs,t'⟩:=z
     rw[q2]at h
     dsimp only at h
     injection h with h
     injection h with h1 h2
     exact⟨k,r,n,m,xs,rfl,q,Nat.not_lt.mp c,by rw[q2,h2],h1.symm⟩
theorem Up{c:Prop}[Decidable c]{α:Type}{a b:Option α}{x:α}{P:Prop}(h:(if c then a else b)=some x)(h1:a=some x->P)(h2:b=some x->P):P:=by
 by_cases e:c
 ·rw[af e]at h;exact h1 h
 ·rw[ae e]at h;exact h2 h
theorem Uq{k:Int}{n m:Nat}(h:PyWqaraq.shape k=some (n,m)):n<=3/\m<=2:=by
 unfold PyWqaraq.shape at h
 iterate 24 (refine Up h (fun h=>by injection h with h;injection h with h1 h2;lia) ?_;clear h;intro h)
 cases h
theorem drop_cons{l r:List Int}{z:Int}{i:Nat}(h:l.drop i=z::r):l[i]?=some z/\l.drop (i+1)=r:=by
 refine⟨?_,?_⟩
 ·have:=List.getElem?_drop (xs:=l) (i:=i) (j:=0)
  rw[h]at this
  exact this.symm
 ·have:=List.drop_drop (l:=l) (i:=1) (j:=i)
  rw[h]at this
  exact this.symm
noncomputable def Ur(T:Txt K mg):Sp:=fun vs H Q _=>∃(r dx p:Addr) (l:List Int) (i:Nat) (cc:List (List Int)) (t:List Int),vs=[.ref r]/\eY T H r dx p l i/\PyFlat.call PyWqaraq.shape (l.drop i)=some (cc,t)/\
 ∀(H':Hp) (c:Addr) (k:Int) (ns:List Int) (rws:d9) (j:Nat),bq r H H'->eY T H' r dx p l j->l.drop j=t->i<j->cc=(k::ns)::rws.map (·.2)->PyWqaraq.shape k=some (ns.length,rws.length)->Cl T H' c k ns rws->Q (.ref c) H'
theorem Us(T:Txt K mg):T.wB.Ok mg P w base 3 (Ur T):=by
 have S:=Qb
 refine T.wB.F.ok S (by rintro _ _ _ _ ⟨r,dx,p,l,i,cc,t,rfl,_⟩;rfl) fun cdv A outer s H vs Q E hr h=>?_
 ·obtain⟨r,dx,p,l,i,cc,t,rfl,h,hc,q⟩:=h
  obtain⟨k,l1,n,m,xs,e1,e2,e3,e4,e5⟩:=JJ hc
  obtain⟨g1,g2⟩:=drop_cons e1
  obtain⟨n3,m2⟩:=Uq e2
  obtain⟨tp,hsel,hseq⟩:=T.shapes k n m e2
  refine⟨_,(aj (sv 1 S.nd (T.tT.c0 (JG T) hr T.ft (pv 0)))
   (aj (sv 2 S.nd (zY rfl T.G9 (pv 1)))
   (aj (sv 3 S.nd (T.tU.c (JH T) hr T.ft (pv 0) (ak (g6 DP (pv 2) aq (fun _ _=>rfl)))))
   (aj (sv 4 S.nd (aY gN))
   (aj (jM PassesOwn.never (a5 gC (c9 T.cZ (pv 4)) (g6 DP (pv 2) aq (fun _ _=>rfl))) (aj (sv 5 S.nd (T.tT.c0 (JG T) hr T.ft (pv 0)))
   (ao (dX (j9 (pv 4) (T.tU.c (JH T) hr T.ft (pv 0) (ak (pv 5))))))))
   (ao (az (T.wy.c (Uo T) hr T.Hc (dv (pv 1) (pv 3) (pv 4)))))))))),?_⟩
  refine aQ (bz ⟨_,rfl,r,dx,_,rfl,h.ins,qJ (by decide) (by decide),r,dx,p,l,i,k,rfl,h,g1,fun H1 b1 h1=>cg ?_⟩)
  dsimp only
  refine aQ (bz ⟨_,rfl,k,_,rfl,hsel,cg ?_⟩)
  dsimp only
  refine aQ (bz ⟨_,rfl,r,dx,_,rfl,h1.ins,qJ (by decide) (by decide),_,rfl,tp,_,_,_,rfl,rfl,hseq _,at_of (j:=0) rfl rfl,r,dx,p,l,i+1,n,rfl,h1,fun H2 N b2 h2 fN hN=>cg ?_⟩)
  dsimp only
  rw[g2]at hN
  have b12:=b1.trans b2
  have g3:l.drop (i+1+n)=l1.drop n:=by rw[<-g2,List.drop_drop]
  refine aQ (bz ⟨be _,fun R fR=>cg ?_⟩)
  dsimp only
  have s3:=ag.bA (o:=.lst []) fR
  have npR:=xi h2.seq fR
  have nNR:N≠R:=a7 hN fR
  have nrR:r≠R:=a7 h2.ins fR
  have nNr:N≠r:=fun e=>by
   have hN:H2 N=_:=hN
   rw[e,h2.ins]at hN;cases hN
  refine aQ (iw (fun σ H'=>∃(v5:Option V) (rws:d9) (j:Nat),σ=[some (.ref r),some (.int k),some (.ref tp),some (.ref N),some (.ref R),v5]/\bq r H H'/\eY T H' r dx p l j/\l.drop j=t/\i<j/\Li H' N (l1.take n)/\H' R=some (.lst (rws.map fun x=>V.ref x.1))/\(∀x,x∈rws->Li H' x.1 x.2)/\rws.map (·.2)=xs) ?_ ?_)
  ·intro σ H4 hq;obtain ⟨v5,rws,j,rfl,b4,h4,d4,ij,n4,r4,x4,ex⟩:=hq
   refine a8 (wX (bG (mn rfl (bG (mn rfl (bG (mn rfl ?_)))))))
   intro c dc nc nd ndc
   refine⟨c,dc,N,R,k,rfl,au,fun H5 b5 hc5=>⟨rfl,?_⟩⟩
   have s5:ag H4 H5:=ag.made nc nd b5
   have sh:PyWqaraq.shape k=some ((l1.take n).length,rws.length):=by
    rw[c_,rm e3,<-aE (f:=fun x:Addr×List Int=>x.2),ex,CP e4];exact e2
   refine q H5 c k (l1.take n) rws j (fun a o e z=>s5 _ _ (b4 _ _ e z)) ⟨s5 _ _ h4.ins,s5.seq h4.seq,h4.ne⟩ d4 ij (by rw[e5,ex]) sh ⟨dc,N,R,hc5,s5 _ _ n4,s5 _ _ r4,fun x hx=>s5 _ _ (x4 x hx)⟩
  ·intro fin
   have nR0:∀b o,H b=some o->b≠R:=fun b o e z=>by
    by_cases c:b=r
    ·exact nrR (c.symm.trans z)
    ·have:=b12 _ _ e c
     rw[z,fR]at this;cases this
   refine⟨fun mm σ H'=>∃(v5:Option V) (rws:d9) (j:Nat) (ys:List (List Int)),mm=m - rws.length/\rws.length<=m/\σ=[some (.ref r),some (.int k),some (.ref tp),some (.ref N),some (.ref R),v5]/\bq r H H'/\eY T H' r dx p l j/\i<j/\Li H' N (l1.take n)/\H' R=some (.lst (rws.map fun x=>V.ref x.1))/\(∀x,x∈rws->Li H' x.1 x.2/\x.1≠R)/\PyFlat.rows (m - rws.length) (l.drop j)=some (ys,t)/\rws.map (·.2)++ys=xs,
    ⟨_,none,[],i+1+n,xs,rfl,be _,rfl,fun b o e z=>s3 _ _ (b12 _ _ e z),⟨s3 _ _ h2.ins,s3.seq h2.seq,h2.ne⟩,by lia,s3 _ _ hN,au,fun x hx=>by simp at hx,by rw[g3];exact e4,rfl⟩,?_⟩
   intro mm σ H4 hq;obtain ⟨v5,rws,j,ys,rfl,hle,rfl,b4,h4,ij,n4,r4,x4,hrows,ex⟩:=hq
   refine⟨_,rfl,R,_,rfl,.inl (ai.of r4),_,rfl,tp,_,_,_,rfl,rfl,hseq _,at_of (j:=1) rfl rfl,_,_,rfl,rfl,_,rfl,?_⟩
   rw[aE]
   refine aS (fun c=>?_) (fun c=>?_)
   ·have c:(rws.length:Int)<(m:Int):=a0 c
    obtain⟨m',hm'⟩:∃m',m - rws.length=m'+1:=⟨m - rws.length - 1,by lia⟩
    rw[hm']at hrows
    obtain⟨w,r1,ys1,f1,f2,f3,f4⟩:=JI hrows
    obtain⟨d1,d2⟩:=drop_cons f1
    refine⟨fun σ' H'=>∃m'',m''<m - rws.length/\∃(v5:Option V) (rws:d9) (j:Nat) (ys:List (List Int)),m''=m - rws.length/\rws.length<=m/\σ'=[some (.ref r),some (.int k),some (.ref tp),some (.ref N),some (.ref R),v5]/\bq r H H'/\eY T H' r dx p l j/\i<j/\Li H' N (l1.take n)/\H' R=some (.lst (rws.map fun x=>V.ref x.1))/\(∀x,x∈rws->Li H' x.1 x.2/\x.1≠R)/\PyFlat.rows (m - rws.length) (l.drop j)=some (ys,t)/\rws.map (·.2)++ys=xs,fun σ' H' h=>h,?_⟩
    refine aQ (bz ⟨_,rfl,r,dx,_,rfl,h4.ins,qJ (by decide) (by decide),r,dx,p,l,j,_,rfl,h4,d1,fun H5 b5 h5=>cg ?_⟩)
    dsimp only
    have nr:∀{b:Addr}{xs:List V},H4 b=some (.lst xs)->b≠r:=fun e z=>by rw[z,h4.ins]at e;cases e
    have r5:=b5 _ _ r4 (nr r4)
    refine⟨_,rfl,.inl ⟨rfl,_,ai.of r5⟩,_,rfl,r,dx,_,rfl,h5.ins,qJ (by decide) (by decide),_,rfl,r,dx,p,l,j+1,w,rfl,h5,fun H6 a b6 h6 fa la=>?_⟩
    rw[d2]at la
    have b46:=b5.trans b6
    have r6:=b46 _ _ r4 (nr r4)
    have naR:a≠R:=fun e=>by rw[e,r5]at fa;cases fa
    refine⟨R,_,_,rfl,rfl,r6,small (by rw[aE];lia),?_⟩
    have up:∀{b:Addr}{o:HO},H6 b=some o->b≠R->upd H6 R (.lst ((rws.map fun x=>V.ref x.1)++[V.ref a])) b=some o:=fun e z=>(ax z).trans e
    have bR:bq R H6 (upd H6 R (.lst ((rws.map fun x=>V.ref x.1)++[V.ref a]))):=fun b o e z=>up e z
    refine⟨m',by lia,_,rws++[(a,r1.take w)],j+1+w,ys1,by rw[bF];show m'=m - (rws.length+1);lia,by rw[bF];show rws.length+1<=m;lia,rfl,fun b o e z=>up (b46 _ _ (b4 _ _ e z) z) (nR0 _ _ e),⟨up h6.ins nrR,m7 bR h6.seq npR,h6.ne⟩,by lia,up (b46 _ _ n4 (nr n4)) nNR,?_,?_,?_,?_⟩
    ·rw[au,cQ];rfl
    ·intro x hx
     rcases dU.mp hx with hx|hx
     ·exact⟨up (b46 _ _ (x4 x hx).1 (nr (x4 x hx).1)) (x4 x hx).2,(x4 x hx).2⟩
     ·rw[gz.mp hx]
      exact⟨up la naR,naR⟩
    ·rw[bF,show m - (rws.length+[(a,r1.take w)].length)=m' by show m - (rws.length+1)=m';lia,<-f4,<-d2,List.drop_drop]
    ·rw[<-ex,f3,cQ,dM];rfl
   ·have c:¬(rws.length:Int)<(m:Int):=a_ c
    have e0:m - rws.length=0:=by lia
    rw[e0]at hrows
    unfold PyFlat.rows at hrows
    injection hrows with hrows
    injection hrows with y1 y2
    subst y1
    rw[fB]at ex
    exact fin _ _ ⟨_,rws,j,rfl,b4,h4,y2,ij,n4,r4,fun x hx=>(x4 x hx).1,ex⟩
theorem Ut{k:Int}{ns:List Int}{rws:List (List Int)}{b:Wqaraq.Book}(hs:PyWqaraq.shape k=some (ns.length,rws.length))(hk:k<13):(WqaraqNeutral.step b ((k::ns)::rws)).1=b:=by
 have hm:=uj hs
 simp only [m6,bY,Prod.mk.injEq,List.not_mem_nil,or_false]at hm
 rcases hm with ⟨rfl,h1,h2⟩|⟨rfl,h1,h2⟩|⟨rfl,h1,h2⟩|⟨rfl,h1,h2⟩|⟨rfl,h1,h2⟩|⟨rfl,h1,h2⟩|⟨rfl,h1,h2⟩|⟨rfl,h1,h2⟩|⟨rfl,h1,h2⟩|⟨rfl,h1,h2⟩|⟨rfl,h1,h2⟩|⟨rfl,h1,h2⟩|⟨rfl,h1,h2⟩|⟨rfl,h1,h2⟩|⟨rfl,h1,h2⟩|⟨rfl,h1,h2⟩|⟨rfl,h1,h2⟩|⟨rfl,h1,h2⟩|⟨rfl,h1,h2⟩|⟨rfl,h1,h2⟩|⟨rfl,h1,h2⟩|⟨rfl,h1,h2⟩|⟨rfl,h1,h2⟩|⟨rfl,h1,h2⟩
 all_goals try (exfalso;lia)
 ·obtain rfl:=len0 h1;obtain⟨y0,y1,rfl⟩:=dF h2;rfl
 ·obtain rfl:=len0 h1;obtain⟨y0,rfl⟩:=b0 h2;rfl
 ·obtain⟨x0,rfl⟩:=b0 h1;obtain⟨y0,rfl⟩:=b0 h2;rfl
 ·obtain⟨x0,rfl⟩:=b0 h1;obtain⟨y0,rfl⟩:=b0 h2;rfl
 ·obtain rfl:=len0 h1;obtain⟨y0,rfl⟩:=b0 h2;rfl
 ·obtain rfl:=len0 h1;obtain⟨y0,y1,rfl⟩:=dF h2;rfl
 ·obtain rfl:=len0 h1;obtain⟨y0,y1,rfl⟩:=dF h2;rfl
 ·obtain rfl:=len0 h1;obtain⟨y0,y1,rfl⟩:=dF h2;rfl
 ·obtain⟨x0,rfl⟩:=b0 h1;obtain⟨y0,rfl⟩:=b0 h2;rfl
 ·obtain⟨x0,x1,rfl⟩:=dF h1;obtain rfl:=len0 h2;rfl
 ·obtain rfl:=len0 h1;obtain⟨y0,rfl⟩:=b0 h2;rfl
 ·obtain rfl:=len0 h1;obtain⟨y0,rfl⟩:=b0 h2;rfl
noncomputable def Uu(T:Txt K mg)(H:Hp)(L bk dx:Addr)(Q:VK)(b:Wqaraq.Book)(cc:List (List Int)):Prop:=∀(H':Hp) (a:Addr) (ws':List V),bq L H H'->bf T H' bk (WqaraqNeutral.step b cc).1 dx L ws'->H a=none->H' a=some (.lst (iv (WqaraqNeutral.step b cc).2))->Q (.ref a) H'
noncomputable def Uv(T:Txt K mg):Sp:=fun vs H Q _=>∃(bk c dx L:Addr) (b:Wqaraq.Book) (ws:List V) (k:Int) (ns:List Int) (rws:d9),vs=[.ref bk,.ref c]/\bf T H bk b dx L ws/\Cl T H c k ns rws/\PyWqaraq.shape k=some (ns.length,rws.length)/\WqaraqNeutral.asked1 ((k::ns)::rws.map (·.2))=true/\(∀x,x∈rws->x.2.length<=2000)/\Uu T H L bk dx Q b ((k::ns)::rws.map (·.2))
theorem Uw(T:Txt K mg):T.wx.Ok P w base 9 (Uv T):=by
 have S:=PV
 refine T.wx.F.ok S (by rintro _ _ _ _ ⟨bk,c,dx,L,b,ws,k,ns,rws,rfl,_⟩;rfl) fun cdv A outer s H vs Q E hr h=>?_
 ·obtain⟨bk,c,dx,L,b,ws,k,ns,rws,rfl,hB,hC,hs,ha,hl,q⟩:=h
  refine⟨_,(aj (bt (a5 gC (ay (pv 1)) (aN rfl T.G0)) (ao (az (T.wt.c (Tn T) hr (ak (pv 1))))) bx)
   (ao (az (T.wq.c (Ue T) hr (aR (pv 0) (pv 1)))))),?_⟩
  have hC':=hC
  obtain⟨d2,a,b2,h⟩:=hC'
  refine aQ (dI ⟨_,rfl,c,_,d2,_,_,rfl,h.ins,T.kO,T.tf,CF _ _ _,_,_,rfl,rfl,_,rfl,aS (fun e=>?_) (fun e=>?_)⟩)
  ·have e:k<13:=a0 e
   refine a8 (bP ⟨_,rfl,c,k,ns,rws,b,rfl,hC,hs,e,ha,hl,fun H' r s fr hr'=>?_⟩)
   exact q H' r ws (ag.but s) (by rw[Ut (by rw[aE];exact hs) e];exact hB.same s) fr hr'
  ·have e:¬k<13:=a_ e
   dsimp only [fG]
   exact a8 (bP ⟨_,rfl,_,rfl,bk,c,dx,L,b,ws,k,ns,rws,rfl,hB,hC,hs,by lia,ha,q⟩)
noncomputable def Ux:HO->Prop
 |.lst _=>True
 |.ins _ _ fs=>fs.lookup ("at":Str)=none
 |_=>False
noncomputable def Sm(H H':Hp):Prop:=∀b o,H b=some o->Ux o->H' b=some o
theorem Bd.sm{T:Txt K mg}{H H':Hp}{b:Addr}{n:Nat}{F:Form}(h:Bd T H b n F)(s:Sm H H'):Bd T H' b n F:=by
 obtain⟨dx,L,rs,i,f⟩:=h
 refine⟨dx,L,rs,s _ _ i ?_,s _ _ f.lst trivial,f.aI.imp fun r g hr l=>s _ _ l trivial⟩
 show (ka n F.twists L).lookup ("at":Str)=none
 unfold ka;rw[cR,ae (by decide),cR,ae (by decide),cR,ae (by decide)];rfl
theorem bf.sm{T:Txt K mg}{H H':Hp}{p dx L:Addr}{b:Wqaraq.Book}{ws:List V}(h:bf T H p b dx L ws)(s:Sm H H'):bf T H' p b dx L ws:=by
 refine⟨s _ _ h.ins (uk (by decide)),s _ _ h.lst trivial,h.len,h.um,fun i v e=>?_⟩
 have z:=h.slot i v e
 cases q:b.at_ i with
 |none=>rw[q]at z;exact z
 |some x=>rw[q]at z;obtain⟨r,e,b,g⟩:=z;exact⟨r,e,b.sm s,g⟩
theorem eY.sm{T:Txt K mg}{H H':Hp}{r dx p:Addr}{l:List Int}{i:Nat}(h:eY T H r dx p l i)(s:bq r H H'):Sm H H':=fun b o e k=>s _ _ e fun z=>by
 rw[z,h.ins]at e
 injection e with e
 subst e
 have k:(fv p i).lookup ("at":Str)=none:=k
 rw[qI]at k;cases k
noncomputable def hide(g:Addr)(H:Hp):Hp:=fun a=>if a=g then none else H a
theorem hide_ne{g a:Addr}{H:Hp}(h:a≠g):hide g H a=H a:=ae h
theorem Uy{g:Addr}{H:Hp}{o:HO}:ag (hide g H) (upd H g o):=fun b u e=>by
 by_cases z:b=g
 ·rw[z]at e;unfold hide at e;rw[af rfl]at e;cases e
 ·rw[hide_ne z]at e;exact(ax z).trans e
theorem xj{g:Addr}{H:Hp}{o:HO}:hide g (upd H g o)=hide g H:=by
 funext a
 by_cases z:a=g
 ·unfold hide;rw[af z,af z]
 ·rw[hide_ne z,hide_ne z,ax z]
theorem Uz{g:Addr}{H:Hp}{o:Obj}{u:HO}(h:H g=some (.cA o u)):Sm H (hide g H):=fun b v e k=>by
 have:b≠g:=fun z=>by rw[z,h]at e;injection e with e;subst e;exact k
 rw[hide_ne this];exact e
theorem UA{f:Nat}{l:List Int}{cs:List (List (List Int))}(h:PyFlat.calls PyWqaraq.shape f l=some cs)(hl:l≠[]):∃(f':Nat) (cc:List (List Int)) (t:List Int) (cs':List (List (List Int))),PyFlat.call PyWqaraq.shape l=some (cc,t)/\PyFlat.calls PyWqaraq.shape f' t=some cs'/\cs=cc::cs':=by
 cases l with
 |nil=>exact absurd rfl hl
 |cons p r=>
  cases f with
  |zero=>cases h
  |succ f=>
   unfold PyFlat.calls at h
   cases q:PyFlat.call PyWqaraq.shape (p::r) with
   |none=>rw[q]at h;cases h
   |some y=>
    obtain⟨cc,t⟩:=y
    rw[q]at h
    dsimp only at h
    cases q2:PyFlat.calls PyWqaraq.shape f t with
    |none=>rw[q2]at h;cases h
    |some cs'=>
     rw[q2]at h
     dsimp only at h
     exact⟨f,cc,t,cs',rfl,q2,(bo h).symm⟩
theorem JK{f:Nat}{cs:List (List (List Int))}(h:PyFlat.calls PyWqaraq.shape f []=some cs):cs=[]:=by
 cases f<;>exact(bo h).symm
theorem UB{k:Int}{ns:List Int}{rws:List (List Int)}(hs:PyWqaraq.shape k=some (ns.length,rws.length)):PyWqaraq.whole ((k::ns)::rws)=(k::ns)::rws:=by
 have hm:=uj hs
 simp only [m6,bY,Prod.mk.injEq,List.not_mem_nil,or_false]at hm
 rcases hm with ⟨rfl,h1,h2⟩|⟨rfl,h1,h2⟩|⟨rfl,h1,h2⟩|⟨rfl,h1,h2⟩|⟨rfl,h1,h2⟩|⟨rfl,h1,h2⟩|⟨rfl,h1,h2⟩|⟨rfl,h1,h2⟩|⟨rfl,h1,h2⟩|⟨rfl,h1,h2⟩|⟨rfl,h1,h2⟩|⟨rfl,h1,h2⟩|⟨rfl,h1,h2⟩|⟨rfl,h1,h2⟩|⟨rfl,h1,h2⟩|⟨rfl,h1,h2⟩|⟨rfl,h1,h2⟩|⟨rfl,h1,h2⟩|⟨rfl,h1,h2⟩|⟨rfl,h1,h2⟩|⟨rfl,h1,h2⟩|⟨rfl,h1,h2⟩|⟨rfl,h1,h2⟩|⟨rfl,h1,h2⟩
 ·obtain rfl:=len0 h1;obtain⟨y0,y1,rfl⟩:=dF h2;rfl
 ·obtain rfl:=len0 h1;obtain⟨y0,rfl⟩:=b0 h2;rfl
 ·obtain⟨x0,rfl⟩:=b0 h1;obtain⟨y0,rfl⟩:=b0 h2;rfl
 ·obtain⟨x0,rfl⟩:=b0 h1;obtain⟨y0,rfl⟩:=b0 h2;rfl
 ·obtain rfl:=len0 h1;obtain⟨y0,rfl⟩:=b0 h2;rfl
 ·obtain rfl:=len0 h1;obtain⟨y0,y1,rfl⟩:=dF h2;rfl
 ·obtain rfl:=len0 h1;obtain⟨y0,y1,rfl⟩:=dF h2;rfl
 ·obtain rfl:=len0 h1;obtain⟨y0,y1,rfl⟩:=dF h2;rfl
 ·obtain⟨x0,rfl⟩:=b0 h1;obtain⟨y0,rfl⟩:=b0 h2;rfl
 ·obtain⟨x0,x1,rfl⟩:=dF h1;obtain rfl:=len0 h2;rfl
 ·obtain rfl:=len0 h1;obtain⟨y0,rfl⟩:=b0 h2;rfl
 ·obtain rfl:=len0 h1;obtain⟨y0,rfl⟩:=b0 h2;rfl
 ·obtain⟨x0,x1,rfl⟩:=dF h1;obtain⟨y0,rfl⟩:=b0 h2;rfl
 ·obtain⟨x0,x1,x2,rfl⟩:=mo h1;obtain rfl:=len0 h2;rfl
 ·obtain⟨x0,x1,rfl⟩:=dF h1;obtain rfl:=len0 h2;rfl
 ·obtain⟨x0,x1,x2,rfl⟩:=mo h1;obtain rfl:=len0 h2;rfl
 ·obtain⟨x0,x1,x2,rfl⟩:=mo h1;obtain rfl:=len0 h2;rfl
 ·obtain⟨x0,x1,x2,rfl⟩:=mo h1;obtain rfl:=len0 h2;rfl
 ·obtain⟨x0,x1,rfl⟩:=dF h1;obtain rfl:=len0 h2;rfl
 ·obtain⟨x0,x1,rfl⟩:=dF h1;obtain rfl:=len0 h2;rfl
 ·obtain⟨x0,rfl⟩:=b0 h1;obtain rfl:=len0 h2;rfl
 ·obtain⟨x0,rfl⟩:=b0 h1;obtain rfl:=len0 h2;rfl
 ·obtain⟨x0,rfl⟩:=b0 h1;obtain rfl:=len0 h2;rfl
 ·obtain⟨x0,x1,rfl⟩:=dF h1;obtain⟨y0,rfl⟩:=b0 h2;rfl
theorem JL:∀{f:Nat}{l:List Int}{cs:List (List (List Int))},PyFlat.calls PyWqaraq.shape f l=some cs->cs.map PyWqaraq.whole=cs
 |f,[],cs,h=>by rw[JK h];rfl
 |0,_::_,cs,h=>by cases h
 |f+1,p::r,cs,h=>by
  unfold PyFlat.calls at h
  cases q:PyFlat.call PyWqaraq.shape (p::r) with
  |none=>rw[q]at h;cases h
  |some y=>
   obtain⟨cc,t⟩:=y
   rw[q]at h
   dsimp only at h
   cases q2:PyFlat.calls PyWqaraq.shape f t with
   |none=>rw[q2]at h;cases h
   |some cs'=>
    rw[q2]at h
    dsimp only at h
    cases h
    obtain⟨k,l1,n,m,xs,e1,e2,e3,e4,e5⟩:=JJ q
    subst e5
    rw[dJ,JL q2,UB (by rw[c_,rm e3,CP e4];exact e2)]
noncomputable def rowsOf(c:List (List Int)):Nat:=((c.drop 1).map List.length).sum
theorem UC(c:List (List Int))(cs:List (List (List Int))):WqaraqNeutral.rowsLong (c::cs)=rowsOf c+WqaraqNeutral.rowsLong cs:=by
 unfold WqaraqNeutral.rowsLong;rw[dJ,q_];rfl
theorem UD{l:List Nat}{x:Nat}(h:x∈l):x<=l.sum:=by
 induction l with
 |nil=>cases h
 |cons y l ih=>
  rw[q_]
  rcases bY.mp h with e|e
  ·lia
  ·have:=ih e;lia
theorem UE{a:Wqaraq.Ans}{m:Nat}(h:a.out.length<=m):(WqaraqNeutral.numbers a).length<=m+1:=by
 unfold WqaraqNeutral.numbers;rw[bO];lia
theorem kX{n m:Nat}{l:List Perm}{f:Unit->Wqaraq.Ans}(h:(f ()).out.length<=m):(Wqaraq.ofPerms n l f).out.length<=m:=by
 unfold Wqaraq.ofPerms
 split
 ·exact h
 ·exact be _
theorem m8(f:Nat->Nat):(Wqaraq.permAns (Wqaraq.made f)).out.length<=5000:=by
 show (Wqaraq.ints (Wqaraq.made f)).length<=5000
 unfold Wqaraq.ints Wqaraq.made
 rw[aE,aE,cD];decide
theorem qK{b:Wqaraq.Book}{o m:Nat}{x:Wqaraq.Braid}:(Wqaraq.lands b o x).2.out.length<=m:=by
 unfold Wqaraq.lands
 split
 ·exact be _
 ·split<;>exact be _
theorem kY{b:Wqaraq.Book}{k m:Nat}{f:Wqaraq.Braid->Wqaraq.Book×Wqaraq.Ans}(h:∀x,b.at_ k=some x->(f x).2.out.length<=m):(Wqaraq.ofBraid b k f).2.out.length<=m:=by
 unfold Wqaraq.ofBraid
 cases q:b.at_ k with
 |none=>exact be _
 |some x=>exact h x q
theorem CQ{b:Wqaraq.Book}{i j m:Nat}{f:Wqaraq.Braid->Wqaraq.Braid->Wqaraq.Book×Wqaraq.Ans}(h:∀x y,(f x y).2.out.length<=m):(Wqaraq.sameStrands b i j f).2.out.length<=m:=by
 unfold Wqaraq.sameStrands Wqaraq.ofTwo
 refine kY fun x _=>kY fun y _=>?_
 dsimp only
 split
 ·exact be _
 ·exact h x y
theorem JM:∀(f:Nat) (a:Perm),(Wqaraq.rowFrom f a).length<=f
 |0,_=>aX _
 |f+1,a=>by
  unfold Wqaraq.rowFrom
  split
  ·exact be _
  ·rw[bO];exact Nat.succ_le_succ (JM f _)
theorem JN{n:Nat}:∀(l:List Perm),(∀a,a∈l->a.length<=n)->(l.flatMap fun a=>Wqaraq.ints a).length<=n * l.length
 |[],_=>be _
 |a::l,h=>by
  rw[List.flatMap_cons,bF,bO,Nat.mul_succ]
  have h1:(Wqaraq.ints a).length<=n:=by unfold Wqaraq.ints;rw[aE];exact h a (bE ..)
  have:=JN l fun x hx=>h x (bI _ hx)
  lia
theorem UG{x:Wqaraq.Braid}(g:Good x):(x.form.factors.flatMap fun (a:Perm)=>Wqaraq.ints (a.take x.n)).length<=960:=by
 have h:(x.form.factors.flatMap fun (a:Perm)=>Wqaraq.ints (a.take x.n))=(x.form.factors.map fun (a:Perm)=>a.take x.n).flatMap fun a=>Wqaraq.ints a:=by
  rw[List.flatMap_map]
 rw[h]
 have:=JN (n:=16) (x.form.factors.map fun (a:Perm)=>a.take x.n) fun a ha=>by
  obtain⟨c,_,rfl⟩:=bZ.mp ha
  rw[c_]
  have:=g.most
  lia
 rw[aE]at this
 have:=g.lt.1
 lia
theorem UH{b:Wqaraq.Book}(g:∀i x,b.at_ i=some x->Good x)(c:Wqaraq.Call):(Wqaraq.step b c).2.out.length<=5000:=by
 cases c with
 |then_ x y=>exact kX (m8 _)
 |back x=>exact kX (m8 _)
 |rest n x=>exact kX (m8 _)
 |turned n x=>exact kX (m8 _)
 |facts x=>exact kX (by show 3<=5000;decide)
 |begins x y=>exact kX (be _)
 |meet x y=>exact kX (m8 _)
 |join x y=>exact kX (m8 _)
 |number n x=>exact kX (by show 1<=5000;decide)
 |numbered i n=>
  show (if Wqaraq.strands n=false then Wqaraq.just (-1) else Wqaraq.permAns (Wqaraq.numbered i n)).out.length<=5000
  split
  ·exact be _
  ·exact m8 _
 |word x=>exact kX (by show (Wqaraq.rowFrom 120 x).length<=5000;exact cC (JM 120 x) (by decide))
 |follow w=>
  show (if Wqaraq.LONG<w.length then Wqaraq.just (-3) else Wqaraq.permAns (Wqaraq.follow w)).out.length<=5000
  split
  ·exact be _
  ·exact m8 _
 |set o n w=>
  unfold Wqaraq.step
  dsimp only
  split
  ·exact be _
  ·split
   ·exact be _
   ·split
    ·exact be _
    ·exact qK
 |times o i j=>exact CQ fun x y=>qK
 |inverse o i=>exact kY fun x _=>qK
 |power o i e=>
  refine kY fun x _=>?_
  split
  ·exact be _
  ·exact qK
 |greatest o i j=>exact CQ fun x y=>qK
 |cycle o i l=>exact kY fun x _=>qK
 |order i j=>exact kY fun x _=>kY fun y _=>by show 1<=5000;decide
 |starts_ i j=>exact CQ fun x y=>be _
 |form i=>
  refine kY fun x hx=>?_
  have:=UG (g i x hx)
  show (_::_::_:List Int).length<=5000
  rw[bO,bO];lia
 |row i=>
  refine kY fun x hx=>?_
  dsimp only
  split
  ·exact be _
  ·rename_i c;exact Nat.not_lt.mp c
 |told i=>
  refine kY fun x hx=>?_
  show (_++_:List Int).length<=5000
  rw[bF]
  unfold Wqaraq.ints Wqaraq.follow Wqaraq.made
  rw[aE,c_,aE,cD]
  show 2+min x.n 16<=5000
  lia
 |states o n w=>
  unfold Wqaraq.step
  dsimp only
  split
  ·exact be _
  ·split
   ·exact be _
   ·rename_i c
    have c:¬10<w.length:=c
    split
    ·exact be _
    ·show (Wqaraq.statesOf n w).length<=5000
     unfold Wqaraq.statesOf Wqaraq.exponents
     dsimp only
     rw[aE,aE,cD]
     lia
theorem UI{b:Wqaraq.Book}(g:∀i x,b.at_ i=some x->Good x)(c:List (List Int)):(WqaraqNeutral.step b c).2.length<=6000:=by
 unfold WqaraqNeutral.step
 cases q:WqaraqNeutral.callOf c with
 |none=>exact be _
 |some x=>exact cC (UE (UH g x)) (by decide)
theorem bf.good{T:Txt K mg}{H:Hp}{p dx L:Addr}{b:Wqaraq.Book}{ws:List V}(h:bf T H p b dx L ws):∀i x,b.at_ i=some x->Good x:=fun i x e=>by
 by_cases hi:i<16
 ·obtain⟨v,_,s⟩:=h.get hi
  rw[e]at s
  obtain⟨r,_,_,g⟩:=s
  exact g
 ·rw[h.Jk (Nat.not_lt.mp hi)]at e;cases e
theorem UJ{g:Addr}{H H':Hp}(s:ag H H'):ag (hide g H) (hide g H'):=fun b u e=>by
 by_cases z:b=g
 ·rw[z]at e;unfold hide at e;rw[af rfl]at e;cases e
 ·rw[hide_ne z]at e ⊢;exact s _ _ e
theorem UK{g:Addr}{H:Hp}(h:H g=none):ag H (hide g H):=fun b u e=>by
 rw[hide_ne (a7 e h)];exact e
theorem UL{l:List Int}(h:PyWqaraq.answers_asked l=true):∃cs,PyFlat.calls PyWqaraq.shape l.length l=some cs/\PyWqaraq.answers l=PyFlat.told (PyFlat.played WqaraqNeutral.step WqaraqNeutral.start cs)/\cs.all WqaraqNeutral.asked1=true/\WqaraqNeutral.rowsLong cs<=2000/\cs.length<=60:=by
 unfold PyWqaraq.answers_asked PyWqaraq.calls at h
 unfold PyWqaraq.answers PyWqaraq.calls
 cases q:PyFlat.calls PyWqaraq.shape l.length l with
 |none=>rw[q]at h;cases h
 |some cs=>
  rw[q]at h
  dsimp only at h ⊢
  rw[JL q]at h ⊢
  rw[br]at h
  have h2:=h.2
  unfold WqaraqNeutral.asked at h2
  rw[br,br,br]at h2
  exact⟨cs,rfl,rfl,h2.1,a0 h2.2.2.2,a0 h2.2.2.1⟩
noncomputable def CS(K:PySem.W.Frag):Sp:=fun vs H Q _=>∃(p:Addr) (l:List Int),vs=[.ref p]/\ai K H p (iv l)/\PyWqaraq.answers_asked l=true/\∀(H':Hp) (r:Addr),H' r=some (.lst (iv (PyWqaraq.answers l)))->Q (.ref r) H'
abbrev UM(_:Txt K mg):Sp:=CS K
theorem UN(i:Nat):Wqaraq.Book.at_ WqaraqNeutral.start i=none:=by
 unfold Wqaraq.Book.at_ WqaraqNeutral.start Wqaraq.start
 rw[List.getElem?_replicate]
 split<;>rfl
theorem UO(a:List Int)(r:List (List Int)):PyFlat.told (a::r)=((a.length:Int)::a)++PyFlat.told r:=by
 unfold PyFlat.told;rw[List.flatMap_cons]
theorem UP(T:Txt K mg):T.answers.Ok P w base 10 (UM T):=by
 have S:=PX
 refine T.answers.F.ok S (by rintro _ _ _ _ ⟨p,l,rfl,_⟩;rfl) fun cdv A outer s H vs Q E hr h=>?_
 ·obtain⟨p,l,rfl,hp,ha,q⟩:=h
  obtain⟨cs,hcs,hans,hall,hrows,hlen⟩:=UL ha
  rw[hans]at q
  refine⟨_,(aj (sv 1 S.nd (T.wz.c (Uh T) hr T.Hd (ak (pv 0))))
   (aj (sv 2 S.nd (K5 T.tQ.GU (Tq T) (hr.mono (by decide)) rfl T.Hb T.tQ.b .nil nJ))
   (aj (sv 3 S.nd (aY gN))
   (aj (jM PassesOwn.never (d5 (cw (T.wA.c0 (Uj T) hr T.ft (pv 1)))) (aj (sv 4 S.nd (L7 (T.wx.c (Uw T) hr (aR (pv 2) (T.wB.c0 (Us T) hr T.ft (pv 1))))))
   (aj (dX (j9 (pv 3) (c9 T.cZ (pv 4))))
   (ao (dX (Ci (pv 3) (pv 4)))))))
   (ao (az (pv 3))))))),?_⟩
  refine aQ (bz (wX (bG (mn rfl ?_))))
  intro r dr nr nd nrd
  refine⟨r,dr,p,rfl,au,fun H1 b1 h1=>⟨rfl,cg ?_⟩⟩
  dsimp only
  have s1:ag H H1:=ag.made nr nd b1
  have R1:eY T H1 r dr p l 0:=⟨h1,s1.seq hp,xi hp nr⟩
  refine aQ (bz (wX ?_))
  intro bk db nb nbd nbb
  refine⟨bk,db,rfl,au,fun H2 L b2 fL hb2 hL2=>⟨rfl,cg ?_⟩⟩
  dsimp only
  have s2:ag H1 H2:=ag.made nb nbd b2
  have fL1:H1 L=none:=by
   by_cases e:L=bk
   ·rw[e,au]at fL;cases fL
   ·rw[ax e]at fL
    by_cases e2:L=db
    ·rw[e2,au]at fL;cases fL
    ·rwa[ax e2]at fL
  have npL:=xi R1.seq fL1
  have R2:eY T H2 r dr p l 0:=⟨s2 _ _ R1.ins,s2.seq R1.seq,R1.ne⟩
  have B2:bf T H2 bk WqaraqNeutral.start db L (List.replicate 16 .aW):=⟨hb2,hL2,qR,rfl,fun i v e=>by
   rw[UN]
   rw[List.getElem?_replicate]at e
   split at e
   ·exact(bo e).symm
   ·cases e⟩
  refine aQ (bz ⟨be _,fun g fg=>cg ?_⟩)
  dsimp only
  have s3:=ag.bA (o:=.lst []) fg
  have npg:=xi R2.seq fg
  have nrg:r≠g:=a7 R2.ins fg
  refine aQ (iw (fun σ H'=>∃(v4:Option V),σ=[some (.ref p),some (.ref r),some (.ref bk),some (.ref g),v4]/\Li H' g (PyFlat.told (PyFlat.played WqaraqNeutral.step WqaraqNeutral.start cs))) ?_ ?_)
  ·intro σ H' hq;obtain ⟨v4,rfl,h'⟩:=hq
   exact⟨_,rfl,q _ _ h'⟩
  ·intro fin
   refine⟨fun mm σ H'=>∃(v4:Option V) (i f:Nat) (b:Wqaraq.Book) (ws:List V) (out:List Int) (ds:List (List (List Int))),mm=l.length - i/\σ=[some (.ref p),some (.ref r),some (.ref bk),some (.ref g),v4]/\eY T H' r dr p l i/\bf T (hide g H') bk b db L ws/\Li H' g out/\PyFlat.calls PyWqaraq.shape f (l.drop i)=some ds/\PyFlat.told (PyFlat.played WqaraqNeutral.step WqaraqNeutral.start cs)=out++PyFlat.told (PyFlat.played WqaraqNeutral.step b ds)/\ds.all WqaraqNeutral.asked1=true/\WqaraqNeutral.rowsLong ds<=2000/\out.length+6001 * ds.length<=360060,
    ⟨_,none,0,l.length,WqaraqNeutral.start,_,[],cs,rfl,rfl,⟨s3 _ _ R2.ins,s3.seq R2.seq,R2.ne⟩,by rw[xj];exact B2.same (UK fg),au,hcs,rfl,hall,hrows,by show 0+6001 * cs.length<=360060;lia⟩,?_⟩
   intro mm σ H4 hq;obtain ⟨v4,i,f,b,ws,out,ds,rfl,rfl,R4,B4,g4,hds,hout,hda,hdr,hdl⟩:=hq
   refine oS (jC ⟨_,rfl,r,dr,_,rfl,R4.ins,qJ (by decide) (by decide),r,dr,p,l,i,rfl,R4,fun H5 s5=>⟨_,rfl,aS (fun c=>?_) (fun c=>?_)⟩⟩)
   ·rw[fC]at c
    have c:=Nat.not_le.mp (a_ c)
    have ne:l.drop i≠[]:=fun e=>by
     have:=bQ List.length e
     rw[List.length_drop]at this
     have:l.length - i=0:=this
     lia
    obtain⟨f',cc,t,ds',hcall,hds',rfl⟩:=UA hds ne
    have R5:eY T H5 r dr p l i:=⟨s5 _ _ R4.ins,s5.seq R4.seq,R4.ne⟩
    have B5:=B4.same (UJ (g:=g) s5)
    have g5:H5 g=some (.lst (iv out)):=s5 _ _ g4
    refine⟨fun σ' H'=>∃m'',m''<l.length - i/\∃(v4:Option V) (i f:Nat) (b:Wqaraq.Book) (ws:List V) (out:List Int) (ds:List (List (List Int))),m''=l.length - i/\σ'=[some (.ref p),some (.ref r),some (.ref bk),some (.ref g),v4]/\eY T H' r dr p l i/\bf T (hide g H') bk b db L ws/\Li H' g out/\PyFlat.calls PyWqaraq.shape f (l.drop i)=some ds/\PyFlat.told (PyFlat.played WqaraqNeutral.step WqaraqNeutral.start cs)=out++PyFlat.told (PyFlat.played WqaraqNeutral.step b ds)/\ds.all WqaraqNeutral.asked1=true/\WqaraqNeutral.rowsLong ds<=2000/\out.length+6001 * ds.length<=360060,fun σ' H' h=>h,?_⟩
    refine aQ (bz ⟨g,.lst (iv out),g5,trivial,fun od=>?_⟩)
    have bu6:bq g H5 (upd H5 g (.cA od (.lst (iv out)))):=fun a o e z=>(ax z).trans e
    have R6:eY T (upd H5 g (.cA od (.lst (iv out)))) r dr p l i:=⟨bu6 _ _ R5.ins nrg,m7 bu6 R5.seq npg,R5.ne⟩
    have B6:bf T (upd H5 g (.cA od (.lst (iv out)))) bk b db L ws:=B5.same Uy
    refine bP ⟨_,rfl,_,rfl,r,dr,_,rfl,R6.ins,qJ (by decide) (by decide),r,dr,p,l,i,cc,t,rfl,R6,hcall,fun H7 ca k ns rws j b7 R7 dj ij ecc shk C7=>?_⟩
    subst ecc
    have B7:=B6.sm (R6.sm b7)
    have g7:H7 g=some (.cA od (.lst (iv out))):=b7 _ _ au (Ne.symm nrg)
    rw[List.all_cons,br]at hda
    rw[UC]at hdr
    have hrl:∀x,x∈rws->x.2.length<=2000:=fun x hx=>by
     have e:rowsOf ((k::ns)::rws.map (·.2))=((rws.map (·.2)).map List.length).sum:=rfl
     have:=UD (l:=(rws.map (·.2)).map List.length) (x:=x.2.length) (bZ.mpr ⟨x.2,bZ.mpr ⟨x,hx,rfl⟩,rfl⟩)
     lia
    refine⟨bk,ca,db,L,b,ws,k,ns,rws,rfl,B7,C7,shk,hda.1,hrl,fun H8 a ws' b8 B8 fa la=>?_⟩
    have ngL:g≠L:=fun e=>by
     have:=B7.lst
     rw[<-e,g7]at this;cases this
    have nrL:r≠L:=fun e=>by
     have:=B7.lst
     rw[<-e,R7.ins]at this;cases this
    have g8:H8 g=some (.cA od (.lst (iv out))):=b8 _ _ g7 ngL
    refine⟨g8,cg ?_⟩
    dsimp only
    have nag:a≠g:=fun e=>by rw[e,g7]at fa;cases fa
    have npg7:=npg
    have bu9:bq g H8 (upd H8 g (.lst (iv out))):=fun a o e z=>(ax z).trans e
    have R8:eY T H8 r dr p l j:=⟨b8 _ _ R7.ins nrL,m7 b8 R7.seq npL,R7.ne⟩
    have R9:eY T (upd H8 g (.lst (iv out))) r dr p l j:=⟨bu9 _ _ R8.ins nrg,m7 bu9 R8.seq npg,R7.ne⟩
    have B9:bf T (hide g H8) bk (WqaraqNeutral.step b ((k::ns)::rws.map (·.2))).1 db L ws':=B8.sm (Uz g8)
    have a9:upd H8 g (.lst (iv out)) a=some (.lst (iv (WqaraqNeutral.step b ((k::ns)::rws.map (·.2))).2)):=bu9 _ _ la nag
    have sl:=UI B7.good ((k::ns)::rws.map (·.2))
    rw[bO]at hdl
    have hstep:PyFlat.played WqaraqNeutral.step b (((k::ns)::rws.map (·.2))::ds')=(WqaraqNeutral.step b ((k::ns)::rws.map (·.2))).2::PyFlat.played WqaraqNeutral.step (WqaraqNeutral.step b ((k::ns)::rws.map (·.2))).1 ds':=rfl
    rw[hstep,UO]at hout
    generalize WqaraqNeutral.step b ((k::ns)::rws.map (·.2))=st at *
    refine aQ ⟨_,rfl,.inl ⟨rfl,_,ai.of au⟩,_,rfl,a,_,rfl,.inl (ai.of a9),g,_,_,rfl,rfl,au,(by rw[sizeLine_eq,cT];lia),?_⟩
    have bu10:bq g H8 (upd (upd H8 g (.lst (iv out))) g (.lst (iv out++[V.int ((iv st.2).length:Nat)]))):=fun a o e z=>(ax z).trans (bu9 _ _ e z)
    refine⟨_,rfl,.inl ⟨rfl,_,ai.of au⟩,_,rfl,g,a,_,_,rfl,rfl,au,bu10 _ _ la nag,(by rw[sizeLine_eq,bF,cT,cT];show out.length+1+st.2.length<=16777216;lia),?_⟩
    refine⟨l.length - j,by lia,_,j,f',st.1,ws',out++((st.2.length:Int)::st.2),ds',rfl,rfl,?_,?_,?_,?_,?_,hda.2,by lia,?_⟩
    ·have bu11:bq g H8 (upd (upd (upd H8 g (.lst (iv out))) g (.lst (iv out++[V.int ((iv st.2).length:Nat)]))) g (.lst ((iv out++[V.int ((iv st.2).length:Nat)])++iv st.2))):=fun a o e z=>(ax z).trans (bu10 _ _ e z)
     exact⟨bu11 _ _ R8.ins nrg,m7 bu11 R8.seq npg,R8.ne⟩
    ·rw[xj,xj,xj];exact B9
    ·show upd _ g _ g=_
     rw[au,cT]
     simp[iv]
    ·rw[dj];exact hds'
    ·rw[hout,dM]
    ·rw[bF,bO];lia
   ·rw[i8]at c
    have c:=a0 c
    rw[List.drop_of_length_le c]at hds
    have e:=JK hds
    subst e
    have e2:PyFlat.told (PyFlat.played WqaraqNeutral.step WqaraqNeutral.start cs)=out:=by
     rw[hout]
     show out++[]=out
     rw[fB]
    refine fin _ _ ⟨_,rfl,?_⟩
    rw[e2]
    exact s5 _ _ g4
noncomputable def kf(l:List (Int×Addr))(k:Int):Option V:=(l.find? fun p=>decide (p.1=k)).map fun p=>V.ref p.2
theorem JO(p:Int×Addr)(l:List (Int×Addr))(k:Int):kf (p::l) k=if p.1=k then some (.ref p.2) else kf l k:=by
 unfold kf
 rw[uu]
 by_cases c:p.1=k
 ·rw[de c,af c];rfl
 ·rw[cy c,ae c]
inductive En:List DictEntry->List (Int×Addr)->Prop
 |nil:En [] []
 |cons {h k:Int}{t:Tok}{f:Addr}{es:List DictEntry}{l:List (Int×Addr)} (hh:decide (h=hashInt k)=true) (r:En es l):En (⟨h,.int k t,.ref f⟩::es) ((k,f)::l)
theorem JP(k:Int)(t:Tok):Value.isInt k (.int k t)=true:=by simp[Value.isInt]
noncomputable def kvsOf(l:List (Int×Addr)):List (Key×V):=l.map fun p=>(Sum.inl p.1,V.ref p.2)
noncomputable def qM(l:List (Int×Addr)):List (Key×Value):=l.map fun p=>(Sum.inl p.1,Value.ref p.2)
theorem UQ(l:List (Int×Addr))(k:Int):lJ (kvsOf l) (Sum.inl k:Key)=kf l k:=by
 induction l with
 |nil=>rfl
 |cons p l ih=>
  rw[JO,<-ih]
  unfold lJ kvsOf
  rw[dJ,uu]
  by_cases c:p.1=k
  ·rw[af c,show decide (((Sum.inl p.1:Key),V.ref p.2).1=Sum.inl k)=true from de (by rw[c])];rfl
  ·rw[ae c,show decide (((Sum.inl p.1:Key),V.ref p.2).1=Sum.inl k)=false from cy (fun e=>c (by injection e))]
theorem UR(l:List (Int×Addr)):KV (kvsOf l) (qM l):=by
 induction l with
 |nil=>exact .nil
 |cons p l ih=>exact .cons ⟨rfl,rfl⟩ ih
theorem En.pairs{P:Program}{w:World}{es:List DictEntry}{l:List (Int×Addr)}(h:En es l):Pairs (lg P w) es (qM l):=by
 induction h with
 |nil=>exact .nil
 |@cons h k t f es l hh r ih=>exact .cons (JP k t) rfl ih
theorem En.keys{P:Program}{w:World}{es:List DictEntry}{l:List (Int×Addr)}(h:En es l):∀e,e∈es->∃k,(lg P w).is k e.key=true/\e.hash=(lg P w).hash k:=by
 induction h with
 |nil=>intro e he;cases he
 |@cons h k t f es l hh r ih=>
  intro e he
  rcases bY.mp he with rfl|he
  ·exact⟨Sum.inl k,JP k t,a0 hh⟩
  ·exact ih e he
theorem En.nodup{l:List (Int×Addr)}(h:(l.map (·.1)).Nodup):((qM l).map (·.1)).Nodup:=by
 have e:(qM l).map (·.1)=(l.map (·.1)).map (Sum.inl:Int->Key):=by
  unfold qM;rw[dw,dw];rfl
 rw[e]
 exact List.Pairwise.map _ (fun a b n e=>n (by injection e)) h
theorem tab_of{h:Heap}{x:Str}{d:Addr}{es:List DictEntry}{ep:Nat}{l:List (Int×Addr)}(X:K.In h)(G:h.Ns mainGlobals mg)(a:PySem.W.nsIn K mainGlobals x=some (some (.ref d)))(lk:K.lookup d=some ⟨.type "dict",none,.dict es.toArray ep,#[]⟩)(en:En es l)(nd:(l.map (·.1)).Nodup):sZ K mg x (kf l):=
 ⟨d,pC X G a,fun P w h' X'=>⟨kvsOf l,qM l,UQ l,UR l,_,es.toArray,ep,X' _ _ lk,⟨rfl,rfl,rfl⟩,rfl,fun e he=>en.keys e (by simpa using he),by simpa using en.pairs,En.nodup nd⟩⟩
inductive Sh(K:PySem.W.Frag):List DictEntry->List (Int×Nat×Nat)->List (Int×Addr)->Prop
 |nil:Sh K [] [] []
 |cons {h k:Int}{t t1 t2:Tok}{f:Addr}{od:Option Addr}{n:Nat}{sl:Array (Option Value)}{a b:Nat}{es:List DictEntry}{m:List (Int×Nat×Nat)}{l:List (Int×Addr)} (lk:K.lookup f=some ⟨.type "tuple",od,.seq [.int (a:Nat) t1,.int (b:Nat) t2].toArray n,sl⟩) (hh:decide (h=hashInt k)=true) (r:Sh K es m l):Sh K (⟨h,.int k t,.ref f⟩::es) ((k,a,b)::m) ((k,f)::l)
theorem Sh.en{es:List DictEntry}{m:List (Int×Nat×Nat)}{l:List (Int×Addr)}(h:Sh K es m l):En es l:=by
 induction h with
 |nil=>exact .nil
 |cons lk hh r ih=>exact .cons hh ih
theorem Sh.ks{es:List DictEntry}{m:List (Int×Nat×Nat)}{l:List (Int×Addr)}(h:Sh K es m l):l.map (·.1)=m.map (·.1):=by
 induction h with
 |nil=>rfl
 |cons lk hh r ih=>rw[dJ,dJ,ih]
theorem Sh.sel{es:List DictEntry}{m:List (Int×Nat×Nat)}{l:List (Int×Addr)}(h:Sh K es m l)(nd:(m.map (·.1)).Nodup){k:Int}{a b:Nat}(hm:(k,a,b)∈m):∃t,kf l k=some (.ref t)/\∀H,fF K H t [.int (a:Nat),.int (b:Nat)]:=by
 induction h with
 |nil=>cases hm
 |@cons h k1 t t1 t2 f od n sl a1 b1 es m l lk hh r ih=>
  rw[JO]
  rw[dJ,kZ]at nd
  rcases bY.mp hm with e|hm
  ·injection e with e1 e2;injection e2 with e2 e3
   subst e1 e2 e3
   rw[af rfl]
   exact⟨f,rfl,fun H=>.inr ⟨_,_,n,lk,rfl,rfl,by show 2<=sizeLine;rw[sizeLine_eq];decide,.cons ⟨_,rfl⟩ (.cons ⟨_,rfl⟩ .nil)⟩⟩
  ·have:¬k1=k:=fun e=>nd.1 (by subst e;exact bZ.mpr ⟨_,hm,rfl⟩)
   rw[show (if ((k1,f):Int×Addr).1=k then some (V.ref ((k1,f):Int×Addr).2) else kf l k)=kf l k from ae this]
   exact ih nd.2 hm
theorem bW{fd:FuncData}{x:Str}(h:∀u,bindArgs fd ⟨[u],[]⟩=pure [(x,u)]):∀us:List Value,us.length=[x].length->bindArgs fd ⟨us,[]⟩=pure ([x].zip us):=fun us hl=>by
 obtain⟨u,rfl⟩:=b0 hl;exact h u
theorem bH{fd:FuncData}{x y:Str}(h:∀u v,bindArgs fd ⟨[u,v],[]⟩=pure [(x,u),(y,v)]):∀us:List Value,us.length=[x,y].length->bindArgs fd ⟨us,[]⟩=pure ([x,y].zip us):=fun us hl=>by
 obtain⟨u,v,rfl⟩:=dF hl;exact h u v
theorem qO{fd:FuncData}{x y z:Str}(h:∀u v w,bindArgs fd ⟨[u,v,w],[]⟩=pure [(x,u),(y,v),(z,w)]):∀us:List Value,us.length=[x,y,z].length->bindArgs fd ⟨us,[]⟩=pure ([x,y,z].zip us):=fun us hl=>by
 obtain⟨u,v,w,rfl⟩:=mo hl;exact h u v w
theorem CT{fd:FuncData}{x y z a:Str}(h:∀u v w t,bindArgs fd ⟨[u,v,w,t],[]⟩=pure [(x,u),(y,v),(z,w),(a,t)]):∀us:List Value,us.length=[x,y,z,a].length->bindArgs fd ⟨us,[]⟩=pure ([x,y,z,a].zip us):=fun us hl=>by
 match us,hl with
 |[u,v,w,t],_=>exact h u v w t
inductive Hs(K:PySem.W.Frag):List (Str×Stmt)->List Addr->Prop
 |nil:Hs K [] []
 |cons {x:Str}{st:Stmt}{f:Addr}{oc:Value}{od an:Option Addr}{sl:Array (Option Value)}{kV dc pm cd ct:Value}{l:List (Str×Stmt)}{fs:List Addr} (a:PySem.W.nsIn K mainGlobals x=some (some (.ref f))) (b:K.lookup f=some ⟨oc,od,.func (PySem.W.fnOf x x (lL st) (ku st) (aD st) .none kV dc pm an cd ct),sl⟩) (c:PySem.W.codeIn K cd x=true) (k:PySem.W.keepIn K (.ref f)=true) (r:Hs K l fs):Hs K ((x,st)::l) (f::fs)
theorem Hs.get{l:List (Str×Stmt)}{fs:List Addr}(h:Hs K l fs):∀(i:Nat) (x:Str) (st:Stmt),l[i]?=some (x,st)->∃fd,PySem.W.nsIn K mainGlobals x=some (some (.ref (fs.getD i 0)))/\kx K x x st (fs.getD i 0) fd:=by
 induction h with
 |nil=>intro i x st e;cases e
 |cons a b c k r ih=>
  intro i x st e
  cases i with
  |zero=>cases e;exact⟨_,a,Ed b c k⟩
  |succ i=>exact ih i x st e
noncomputable def Hs.df{h:Heap}{l:List (Str×Stmt)}{fs:List Addr}{x:Str}{st:Stmt}{ps:List Str}(A:Hs K l fs)(X:K.In h)(G:h.Ns mainGlobals mg)(i:Nat)(e:l[i]?=some (x,st))
  (b:∀(kV doc pm:Value) (an:Option Addr) (cdv ct:Value) (us:List Value),us.length=ps.length->bindArgs (PySem.W.fnOf x x (lL st) (ku st) (aD st) .none kV doc pm an cdv ct) ⟨us,[]⟩=pure (ps.zip us)):Df K mg x st ps:=
 ⟨fs.getD i 0,Classical.choose (A.get i x st e),pC X G (mC (A.get i x st e)).1,(mC (A.get i x st e)).2,(mC (A.get i x st e)).2.binds b⟩
inductive Ms(K:PySem.W.Frag)(C:Addr):List (Str×Str×Stmt)->List Addr->Prop
 |nil:Ms K C [] []
 |cons {x q:Str}{st:Stmt}{f:Addr}{oc:Value}{od an:Option Addr}{sl:Array (Option Value)}{kV dc pm cd ct:Value}{l:List (Str×Str×Stmt)}{fs:List Addr} (a:PySem.W.findIn K (.ref C) x=some (some (.ref f))) (i:PySem.W.isFn K (.ref f)=true) (b:K.lookup f=some ⟨oc,od,.func (PySem.W.fnOf x q (lL st) (ku st) (aD st) .none kV dc pm an cd ct),sl⟩) (c:PySem.W.codeIn K cd q=true) (k:PySem.W.keepIn K (.ref f)=true) (r:Ms K C l fs):Ms K C ((x,q,st)::l) (f::fs)
theorem Ms.get{C:Addr}{l:List (Str×Str×Stmt)}{fs:List Addr}(h:Ms K C l fs):∀(i:Nat) (x q:Str) (st:Stmt),l[i]?=some (x,q,st)->∃fd,rN K C x (fs.getD i 0)/\kx K x q st (fs.getD i 0) fd:=by
 induction h with
 |nil=>intro i x q st e;cases e
 |cons a n b c k r ih=>
  intro i x q st e
  cases i with
  |zero=>cases e;exact⟨_,⟨a,n,k⟩,Ed b c k⟩
  |succ i=>exact ih i x q st e
structure CK(K:PySem.W.Frag)(x:Str)(C:Addr):Prop where
 a:PySem.W.nsIn K mainGlobals x=some (some (.ref C))
 pg:PySem.W.plainGet K C Str.empty=true
 hd:PySem.W.hasDictIn K C=true
 po:PySem.W.plainOver K C=true
 sa:PySem.W.findIn K (.ref C) "__setattr__"=some (some (.builtin "object.__setattr__"))
 US:PySem.W.makesIn K C=true
 kc:PySem.W.keepIn K (.ref C)=true
theorem CK.cls{x:Str}{C:Addr}(h:CK K x C):f9 K C:=⟨h.pg,h.hd,h.po,h.sa⟩
noncomputable def Ms.dm{C:Addr}{l:List (Str×Str×Stmt)}{fs:List Addr}{x q:Str}{st:Stmt}{ps:List Str}(A:Ms K C l fs)(i:Nat)(e:l[i]?=some (x,q,st))
  (b:∀(kV doc pm:Value) (an:Option Addr) (cdv ct:Value) (us:List Value),us.length=ps.length->bindArgs (PySem.W.fnOf x q (lL st) (ku st) (aD st) .none kV doc pm an cdv ct) ⟨us,[]⟩=pure (ps.zip us)):Dm K C x q st ps:=
 ⟨fs.getD i 0,Classical.choose (A.get i x q st e),(mC (A.get i x q st e)).2,(mC (A.get i x q st e)).2.binds b,(mC (A.get i x q st e)).1⟩
noncomputable def Ms.di{C:Addr}{l:List (Str×Str×Stmt)}{fs:List Addr}{z q:Str}{st:Stmt}{ps:List Str}(A:Ms K C l fs)(c:CK K z C)(i:Nat)(e:l[i]?=some (("__init__":Str),q,st))
  (b:∀(kV doc pm:Value) (an:Option Addr) (cdv ct:Value) (us:List Value),us.length=ps.length->bindArgs (PySem.W.fnOf "__init__" q (lL st) (ku st) (aD st) .none kV doc pm an cdv ct) ⟨us,[]⟩=pure (ps.zip us)):Di K C q st ps:=
 ⟨fs.getD i 0,Classical.choose (A.get i _ q st e),(mC (A.get i _ q st e)).2,(mC (A.get i _ q st e)).2.binds b,⟨c.US,(mC (A.get i _ q st e)).1.at_,(mC (A.get i _ q st e)).1.fn,c.kc⟩⟩
inductive Zs(K:PySem.W.Frag):List Str->Prop
 |nil:Zs K []
 |cons {x:Str}{l:List Str} (a:PySem.W.nsIn K mainGlobals x=some none) (r:Zs K l):Zs K (x::l)
theorem Zs.get{h:Heap}{l:List Str}(A:Zs K l)(X:K.In h)(G:h.Ns mainGlobals mg):∀(i:Nat) (x:Str),l[i]?=some x->mg x=none:=by
 induction A with
 |nil=>intro i x e;cases e
 |cons a r ih=>
  intro i x e
  cases i with
  |zero=>cases e;exact PySem.W.mg_none_of X G a
  |succ i=>exact ih i x e
inductive Cs(K:PySem.W.Frag):List (Str×Int)->Prop
 |nil:Cs K []
 |cons {x:Str}{v:Int}{t:Tok}{l:List (Str×Int)} (a:PySem.W.nsIn K mainGlobals x=some (some (.int v t))) (r:Cs K l):Cs K ((x,v)::l)
theorem Cs.get{h:Heap}{l:List (Str×Int)}(A:Cs K l)(X:K.In h)(G:h.Ns mainGlobals mg):∀(i:Nat) (x:Str) (v:Int),l[i]?=some (x,v)->∃t,mg x=some (.int v t):=by
 induction A with
 |nil=>intro i x v e;cases e
 |cons a r ih=>
  intro i x v e
  cases i with
  |zero=>cases e;exact⟨_,pC X G a⟩
  |succ i=>exact ih i x v e
inductive As(K:PySem.W.Frag)(C:Addr):List Str->Prop
 |nil:As K C []
 |cons {x:Str}{l:List Str} (a:PySem.W.findIn K (.ref C) x=some none) (r:As K C l):As K C (x::l)
theorem As.get{C:Addr}{l:List Str}(A:As K C l):∀(i:Nat) (x:Str),l[i]?=some x->eZ K C x:=by
 induction A with
 |nil=>intro i x e;cases e
 |cons a r ih=>
  intro i x e
  cases i with
  |zero=>cases e;exact a
  |succ i=>exact ih i x e
abbrev JQ:List Str:=["abs","all","enumerate","len","list","max","min","range","reversed","sorted","sum","zip"]
abbrev JR:List (Str×Int):=[("BOOK_PLACES",16),("DONE",0),("EMPTY",-4),("FEWEST_STRANDS",2),("FIRST_BRAID_CALL",13),("GREATEST_EXPONENT",8),("LONGEST_ROW",100),("LONGEST_ROW_OF_STATES",10),("LONGEST_ROW_TOLD",5000),("MARGIN",16),("MOST_FACTORS",60),("MOST_STRANDS_OF_STATES",6),("MOST_TWISTS",100),("NOT_RIGHT",-1),("OTHER_STRANDS",-2),("PLACES",16),("TOO_LARGE",-3)]
abbrev nm(x:Str)(st:Stmt):Str×Stmt:=(x,st)
abbrev JS:List (Str×Stmt):=[nm "is_strand_count" z6,nm "is_right" z7,nm "first_then" z8,nm "taken_back" z9,nm "half_twist" z_,nm "missing_to_half_twist" Aa,nm "seen_from_behind" Ab,nm "crossing_pairs_count" Ac,nm "crossing_neighbours_sum" Ad,nm "begins" Ae,nm "number_of" Af,nm "numbered" Ag,nm "exchange" Ah,nm "row_of" Ai,nm "followed" Aj,nm "turned_by" Ak,nm "is_without_crossings" Al,nm "hand_over" Am,nm "take_in" An,nm "without_beginning" Ao,nm "is_too_large" Ap,nm "product_of" Aq,nm "inverse_of" Au,nm "power_of" Av,nm "braid_of_factor" Aw,nm "braid_of_crossing" Ax,nm "braid_of_row" Ay,nm "cycled_by_first" Az,nm "cycled_by_last" AA,nm "crossed_in_either" AB,nm "close" AD,nm "add_crossings" AE,nm "place_reached" AF,nm "join_of" AG,nm "meet_of" AH,nm "braid_begins" AI,nm "factors_above" AJ,nm "greatest_beginning" AK,nm "picture_without_crossings" AL,nm "connect" AM,nm "straight" AN,nm "bent" AO,nm "pictures_of" AQ,nm "loops_when_joined" AR,nm "powers_of_loop" AS,nm "polynomial_of" AU,nm "rank" AV,nm "compared" AW,nm "crossings_of_half_twist" AX,nm "crossings_of_factors" AY,nm "row_length" AZ,nm "row_of_form" A3,nm "above_less_below" A4,nm "places_reached" A5,nm "loops_of" A6,nm "are_crossings" A7,nm "refusal_of_row" A8,nm "refusal_of_two" A9,nm "answer_set" A_,nm "answer_times" Ba,nm "answer_inverse" Bb,nm "answer_power" Bc,nm "answer_greatest" Be,nm "answer_cycle" Bf,nm "answer_order" Bg,nm "answer_starts" Bh,nm "answer_form" Bj,nm "answer_row" Bk,nm "answer_told" Bl,nm "answer_states" Bm,nm "answer_braid_call" Bn,nm "all_right" Bo,nm "right_for_told" Bp,nm "answer_then" Bq,nm "answer_back" Br,nm "answer_rest" Bs,nm "answer_turned" Bt,nm "answer_facts" Bu,nm "answer_begins" Bv,nm "answer_meet" Bw,nm "answer_join" Bx,nm "answer_number" By,nm "answer_numbered" Bz,nm "answer_word" BA,nm "answer_follow" BC,nm "answer_permutation_call" BD,nm "answer_to" BE,nm "answers" BF]
abbrev JT:List Str:=["n","twists","factors"]
abbrev JU:List (Str×Str×Stmt):=[("__init__","Braid.__init__",BG)]
abbrev JV:List Str:=["partners","loops","exponent"]
abbrev JW:List (Str×Str×Stmt):=[("__init__","Picture.__init__",BH)]
abbrev JX:List Str:=["braids"]
abbrev JY:List (Str×Str×Stmt):=[("__init__","Book.__init__",BI),("has_place","Book.has_place",BJ),("braid_at","Book.braid_at",BL),("put","Book.put",BM)]
abbrev JZ:List Str:=["number","numbers","rows"]
abbrev J0:List (Str×Str×Stmt):=[("__init__","Call.__init__",BN)]
abbrev J1:List Str:=["calls","at"]
abbrev J2:List (Str×Str×Stmt):=[("__init__","Reader.__init__",BO),("is_done","Reader.is_done",BP),("take_number","Reader.take_number",BQ),("take_numbers","Reader.take_numbers",BR),("take_call","Reader.take_call",BS)]
abbrev pA(fs:List Addr):List (Int×Addr):=[(1,fs.getD 73 0),(2,fs.getD 74 0),(3,fs.getD 75 0),(4,fs.getD 76 0),(5,fs.getD 77 0),(6,fs.getD 78 0),(7,fs.getD 79 0),(8,fs.getD 80 0),(9,fs.getD 81 0),(10,fs.getD 82 0),(11,fs.getD 83 0),(12,fs.getD 84 0)]
abbrev pB(fs:List Addr):List (Int×Addr):=[(13,fs.getD 58 0),(14,fs.getD 59 0),(15,fs.getD 60 0),(16,fs.getD 61 0),(17,fs.getD 62 0),(18,fs.getD 63 0),(19,fs.getD 64 0),(20,fs.getD 65 0),(21,fs.getD 66 0),(22,fs.getD 67 0),(23,fs.getD 68 0),(24,fs.getD 69 0)]
noncomputable def UT{h:Heap}{fs f0 f1 f2 f3 f4:List Addr}{C0 C1 C2 C3 C4 dS dA dB:Addr}{eS eA eB:List DictEntry}{pS pA1 pB1:Nat}{lS2:List (Int×Addr)}(X:K.In h)(G:h.Ns mainGlobals mg)(A:Hs K JS fs)(Z:Zs K JQ)(N:Cs K JR)(c0:CK K "Braid" C0)(n0:As K C0 JT)(m0:Ms K C0 JU f0)(c1:CK K "Picture" C1)(n1:As K C1 JV)(m1:Ms K C1 JW f1)(c2:CK K "Book" C2)(n2:As K C2 JX)(m2:Ms K C2 JY f2)(c3:CK K "Call" C3)(n3:As K C3 JZ)(m3:Ms K C3 J0 f3)(c4:CK K "Reader" C4)(n4:As K C4 J1)(m4:Ms K C4 J2 f4)(tS:PySem.W.nsIn K mainGlobals "SHAPES"=some (some (.ref dS)))(lS:K.lookup dS=some ⟨.type "dict",none,.dict eS.toArray pS,#[]⟩)(S:Sh K eS m6 lS2)(tA:PySem.W.nsIn K mainGlobals "ANSWERS"=some (some (.ref dA)))(lA:K.lookup dA=some ⟨.type "dict",none,.dict eA.toArray pA1,#[]⟩)(EA:En eA (pA fs))(tB:PySem.W.nsIn K mainGlobals "BRAID_ANSWERS"=some (some (.ref dB)))(lB:K.lookup dB=some ⟨.type "dict",none,.dict eB.toArray pB1,#[]⟩)(EB:En eB (pB fs)):Txt K mg where
 kM:=Z.get X G 0 _ rfl
 BU:=Z.get X G 1 _ rfl
 vJ:=Z.get X G 2 _ rfl
 cZ:=Z.get X G 3 _ rfl
 gF:=Z.get X G 4 _ rfl
 GV:=Z.get X G 5 _ rfl
 BV:=Z.get X G 6 _ rfl
 cM:=Z.get X G 7 _ rfl
 vK:=Z.get X G 8 _ rfl
 GW:=Z.get X G 9 _ rfl
 GX:=Z.get X G 10 _ rfl
 GY:=Z.get X G 11 _ rfl
 BW:=N.get X G 0 _ _ rfl
 dD:=N.get X G 1 _ _ rfl
 lZ:=N.get X G 2 _ _ rfl
 GZ:=N.get X G 3 _ _ rfl
 G0:=N.get X G 4 _ _ rfl
 G1:=N.get X G 5 _ _ rfl
 BX:=N.get X G 6 _ _ rfl
 G2:=N.get X G 7 _ _ rfl
 G3:=N.get X G 8 _ _ rfl
 G4:=N.get X G 9 _ _ rfl
 G5:=N.get X G 10 _ _ rfl
 G6:=N.get X G 11 _ _ rfl
 G7:=N.get X G 12 _ _ rfl
 gG:=N.get X G 13 _ _ rfl
 G8:=N.get X G 14 _ _ rfl
 dt:=N.get X G 15 _ _ rfl
 qi:=N.get X G 16 _ _ rfl
 BY:=kf lS2
 G9:=tab_of X G tS lS S.en (by rw[S.ks];decide)
 shapes:=fun k a b e=>S.sel (by decide) (uj e)
 gT:=kf (pA fs)
 G_:=tab_of X G tA lA EA (by show ([1,2,3,4,5,6,7,8,9,10,11,12]:List Int).Nodup;decide)
 gU:=kf (pB fs)
 Ha:=tab_of X G tB lB EB (by show ([13,14,15,16,17,18,19,20,21,22,23,24]:List Int).Nodup;decide)
 iY:=C0
 aZ:=c0.cls
 l6:=pC X G c0.a
 dE:=n0.get 0 _ rfl
 eJ:=n0.get 1 _ rfl
 eU:=n0.get 2 _ rfl
 j6:=m0.di c0 0 rfl (fun _ _ _ _ _ _=>CT fun _ _ _ _=>rfl)
 jA:=C1
 gq:=c1.cls
 s_:=pC X G c1.a
 og:=n1.get 0 _ rfl
 qj:=n1.get 1 _ rfl
 qk:=n1.get 2 _ rfl
 oQ:=m1.di c1 0 rfl (fun _ _ _ _ _ _=>CT fun _ _ _ _=>rfl)
 fh:=C2
 du:=c2.cls
 Hb:=pC X G c2.a
 vL:=n2.get 0 _ rfl
 tQ:=m2.di c2 0 rfl (fun _ _ _ _ _ _=>bW fun _=>rfl)
 tR:=m2.dm 1 rfl (fun _ _ _ _ _ _=>bH fun _ _=>rfl)
 gu:=m2.dm 2 rfl (fun _ _ _ _ _ _=>bH fun _ _=>rfl)
 kS:=m2.dm 3 rfl (fun _ _ _ _ _ _=>qO fun _ _ _=>rfl)
 kN:=C3
 kO:=c3.cls
 Hc:=pC X G c3.a
 tf:=n3.get 0 _ rfl
 BZ:=n3.get 1 _ rfl
 vM:=n3.get 2 _ rfl
 wy:=m3.di c3 0 rfl (fun _ _ _ _ _ _=>CT fun _ _ _ _=>rfl)
 fj:=C4
 ft:=c4.cls
 Hd:=pC X G c4.a
 tj:=n4.get 0 _ rfl
 l7:=n4.get 1 _ rfl
 wz:=m4.di c4 0 rfl (fun _ _ _ _ _ _=>bH fun _ _=>rfl)
 wA:=m4.dm 1 rfl (fun _ _ _ _ _ _=>bW fun _=>rfl)
 tT:=m4.dm 2 rfl (fun _ _ _ _ _ _=>bW fun _=>rfl)
 tU:=m4.dm 3 rfl (fun _ _ _ _ _ _=>bH fun _ _=>rfl)
 wB:=m4.dm 4 rfl (fun _ _ _ _ _ _=>bW fun _=>rfl)
 ql:=A.df X G 0 rfl (fun _ _ _ _ _ _=>bW fun _=>rfl)
 tm:=A.df X G 1 rfl (fun _ _ _ _ _ _=>bH fun _ _=>rfl)
 kP:=A.df X G 2 rfl (fun _ _ _ _ _ _=>bH fun _ _=>rfl)
 kQ:=A.df X G 3 rfl (fun _ _ _ _ _ _=>bW fun _=>rfl)
 l8:=A.df X G 4 rfl (fun _ _ _ _ _ _=>bW fun _=>rfl)
 tq:=A.df X G 5 rfl (fun _ _ _ _ _ _=>bH fun _ _=>rfl)
 qm:=A.df X G 6 rfl (fun _ _ _ _ _ _=>bH fun _ _=>rfl)
 tu:=A.df X G 7 rfl (fun _ _ _ _ _ _=>bW fun _=>rfl)
 tz:=A.df X G 8 rfl (fun _ _ _ _ _ _=>bW fun _=>rfl)
 begins:=A.df X G 9 rfl (fun _ _ _ _ _ _=>bH fun _ _=>rfl)
 vN:=A.df X G 10 rfl (fun _ _ _ _ _ _=>bH fun _ _=>rfl)
 numbered:=A.df X G 11 rfl (fun _ _ _ _ _ _=>bH fun _ _=>rfl)
 qo:=A.df X G 12 rfl (fun _ _ _ _ _ _=>bH fun _ _=>rfl)
 qp:=A.df X G 13 rfl (fun _ _ _ _ _ _=>bW fun _=>rfl)
 followed:=A.df X G 14 rfl (fun _ _ _ _ _ _=>bW fun _=>rfl)
 qr:=A.df X G 15 rfl (fun _ _ _ _ _ _=>qO fun _ _ _=>rfl)
 oh:=A.df X G 16 rfl (fun _ _ _ _ _ _=>bW fun _=>rfl)
 tE:=A.df X G 17 rfl (fun _ _ _ _ _ _=>bH fun _ _=>rfl)
 kK:=A.df X G 18 rfl (fun _ _ _ _ _ _=>qO fun _ _ _=>rfl)
 tH:=A.df X G 19 rfl (fun _ _ _ _ _ _=>bH fun _ _=>rfl)
 vO:=A.df X G 20 rfl (fun _ _ _ _ _ _=>bW fun _=>rfl)
 l9:=A.df X G 21 rfl (fun _ _ _ _ _ _=>bH fun _ _=>rfl)
 oi:=A.df X G 22 rfl (fun _ _ _ _ _ _=>bW fun _=>rfl)
 vP:=A.df X G 23 rfl (fun _ _ _ _ _ _=>bH fun _ _=>rfl)
 qt:=A.df X G 24 rfl (fun _ _ _ _ _ _=>bH fun _ _=>rfl)
 vQ:=A.df X G 25 rfl (fun _ _ _ _ _ _=>bH fun _ _=>rfl)
 tI:=A.df X G 26 rfl (fun _ _ _ _ _ _=>bH fun _ _=>rfl)
 vR:=A.df X G 27 rfl (fun _ _ _ _ _ _=>bW fun _=>rfl)
 vS:=A.df X G 28 rfl (fun _ _ _ _ _ _=>bW fun _=>rfl)
 vT:=A.df X G 29 rfl (fun _ _ _ _ _ _=>bH fun _ _=>rfl)
 close:=A.df X G 30 rfl (fun _ _ _ _ _ _=>bW fun _=>rfl)
 vU:=A.df X G 31 rfl (fun _ _ _ _ _ _=>bH fun _ _=>rfl)
 vV:=A.df X G 32 rfl (fun _ _ _ _ _ _=>bH fun _ _=>rfl)
 tJ:=A.df X G 33 rfl (fun _ _ _ _ _ _=>bH fun _ _=>rfl)
 tK:=A.df X G 34 rfl (fun _ _ _ _ _ _=>bH fun _ _=>rfl)
 vW:=A.df X G 35 rfl (fun _ _ _ _ _ _=>bH fun _ _=>rfl)
 tM:=A.df X G 36 rfl (fun _ _ _ _ _ _=>bH fun _ _=>rfl)
 vX:=A.df X G 37 rfl (fun _ _ _ _ _ _=>bH fun _ _=>rfl)
 vY:=A.df X G 38 rfl (fun _ _ _ _ _ _=>bW fun _=>rfl)
 connect:=A.df X G 39 rfl (fun _ _ _ _ _ _=>qO fun _ _ _=>rfl)
 vZ:=A.df X G 40 rfl (fun _ _ _ _ _ _=>bH fun _ _=>rfl)
 v_:=A.df X G 41 rfl (fun _ _ _ _ _ _=>qO fun _ _ _=>rfl)
 wa:=A.df X G 42 rfl (fun _ _ _ _ _ _=>bH fun _ _=>rfl)
 wb:=A.df X G 43 rfl (fun _ _ _ _ _ _=>bH fun _ _=>rfl)
 wc:=A.df X G 44 rfl (fun _ _ _ _ _ _=>bW fun _=>rfl)
 wd:=A.df X G 45 rfl (fun _ _ _ _ _ _=>bH fun _ _=>rfl)
 rank:=A.df X G 46 rfl (fun _ _ _ _ _ _=>bW fun _=>rfl)
 we:=A.df X G 47 rfl (fun _ _ _ _ _ _=>bH fun _ _=>rfl)
 tN:=A.df X G 48 rfl (fun _ _ _ _ _ _=>bW fun _=>rfl)
 tO:=A.df X G 49 rfl (fun _ _ _ _ _ _=>bW fun _=>rfl)
 lW:=A.df X G 50 rfl (fun _ _ _ _ _ _=>bW fun _=>rfl)
 wg:=A.df X G 51 rfl (fun _ _ _ _ _ _=>bW fun _=>rfl)
 wj:=A.df X G 52 rfl (fun _ _ _ _ _ _=>bW fun _=>rfl)
 wk:=A.df X G 53 rfl (fun _ _ _ _ _ _=>bW fun _=>rfl)
 wm:=A.df X G 54 rfl (fun _ _ _ _ _ _=>bW fun _=>rfl)
 wo:=A.df X G 55 rfl (fun _ _ _ _ _ _=>bH fun _ _=>rfl)
 tP:=A.df X G 56 rfl (fun _ _ _ _ _ _=>qO fun _ _ _=>rfl)
 qu:=A.df X G 57 rfl (fun _ _ _ _ _ _=>bH fun _ _=>rfl)
 oj:=A.df X G 58 rfl (fun _ _ _ _ _ _=>bH fun _ _=>rfl)
 om:=A.df X G 59 rfl (fun _ _ _ _ _ _=>bH fun _ _=>rfl)
 oo:=A.df X G 60 rfl (fun _ _ _ _ _ _=>bH fun _ _=>rfl)
 oq:=A.df X G 61 rfl (fun _ _ _ _ _ _=>bH fun _ _=>rfl)
 ot:=A.df X G 62 rfl (fun _ _ _ _ _ _=>bH fun _ _=>rfl)
 ou:=A.df X G 63 rfl (fun _ _ _ _ _ _=>bH fun _ _=>rfl)
 ow:=A.df X G 64 rfl (fun _ _ _ _ _ _=>bH fun _ _=>rfl)
 ox:=A.df X G 65 rfl (fun _ _ _ _ _ _=>bH fun _ _=>rfl)
 oy:=A.df X G 66 rfl (fun _ _ _ _ _ _=>bH fun _ _=>rfl)
 oz:=A.df X G 67 rfl (fun _ _ _ _ _ _=>bH fun _ _=>rfl)
 oA:=A.df X G 68 rfl (fun _ _ _ _ _ _=>bH fun _ _=>rfl)
 oB:=A.df X G 69 rfl (fun _ _ _ _ _ _=>bH fun _ _=>rfl)
 wq:=A.df X G 70 rfl (fun _ _ _ _ _ _=>bH fun _ _=>rfl)
 kR:=A.df X G 71 rfl (fun _ _ _ _ _ _=>bW fun _=>rfl)
 qv:=A.df X G 72 rfl (fun _ _ _ _ _ _=>bW fun _=>rfl)
 oC:=A.df X G 73 rfl (fun _ _ _ _ _ _=>bW fun _=>rfl)
 oE:=A.df X G 74 rfl (fun _ _ _ _ _ _=>bW fun _=>rfl)
 oF:=A.df X G 75 rfl (fun _ _ _ _ _ _=>bW fun _=>rfl)
 oG:=A.df X G 76 rfl (fun _ _ _ _ _ _=>bW fun _=>rfl)
 oH:=A.df X G 77 rfl (fun _ _ _ _ _ _=>bW fun _=>rfl)
 oI:=A.df X G 78 rfl (fun _ _ _ _ _ _=>bW fun _=>rfl)
 oJ:=A.df X G 79 rfl (fun _ _ _ _ _ _=>bW fun _=>rfl)
 oK:=A.df X G 80 rfl (fun _ _ _ _ _ _=>bW fun _=>rfl)
 oM:=A.df X G 81 rfl (fun _ _ _ _ _ _=>bW fun _=>rfl)
 oN:=A.df X G 82 rfl (fun _ _ _ _ _ _=>bW fun _=>rfl)
 oO:=A.df X G 83 rfl (fun _ _ _ _ _ _=>bW fun _=>rfl)
 oP:=A.df X G 84 rfl (fun _ _ _ _ _ _=>bW fun _=>rfl)
 wt:=A.df X G 85 rfl (fun _ _ _ _ _ _=>bW fun _=>rfl)
 wx:=A.df X G 86 rfl (fun _ _ _ _ _ _=>bH fun _ _=>rfl)
 answers:=A.df X G 87 rfl (fun _ _ _ _ _ _=>bW fun _=>rfl)
 He:=rfl
 Hf:=rfl
 Hg:=rfl
 Hh:=rfl
 Hi:=rfl
 Hj:=rfl
 Hk:=rfl
 Hl:=rfl
 Hm:=rfl
 Hn:=rfl
 Ho:=rfl
 Hq:=rfl
 Hr:=rfl
 Ht:=rfl
 Hu:=rfl
 Hv:=rfl
 Hw:=rfl
 Hx:=rfl
 Hy:=rfl
 Hz:=rfl
 HA:=rfl
 HB:=rfl
 HC:=rfl
 HD:=rfl
theorem UU{h:Heap}{fs f0 f1 f2 f3 f4:List Addr}{C0 C1 C2 C3 C4 dS dA dB:Addr}{eS eA eB:List DictEntry}{pS pA1 pB1:Nat}{lS2:List (Int×Addr)}{fa:Addr}(hfa:mg "answers"=some (.ref fa))(X:K.In h)(G:h.Ns mainGlobals mg)(A:Hs K JS fs)(Z:Zs K JQ)(N:Cs K JR)(c0:CK K "Braid" C0)(n0:As K C0 JT)(m0:Ms K C0 JU f0)(c1:CK K "Picture" C1)(n1:As K C1 JV)(m1:Ms K C1 JW f1)(c2:CK K "Book" C2)(n2:As K C2 JX)(m2:Ms K C2 JY f2)(c3:CK K "Call" C3)(n3:As K C3 JZ)(m3:Ms K C3 J0 f3)(c4:CK K "Reader" C4)(n4:As K C4 J1)(m4:Ms K C4 J2 f4)(tS:PySem.W.nsIn K mainGlobals "SHAPES"=some (some (.ref dS)))(lS:K.lookup dS=some ⟨.type "dict",none,.dict eS.toArray pS,#[]⟩)(S:Sh K eS m6 lS2)(tA:PySem.W.nsIn K mainGlobals "ANSWERS"=some (some (.ref dA)))(lA:K.lookup dA=some ⟨.type "dict",none,.dict eA.toArray pA1,#[]⟩)(EA:En eA (pA fs))(tB:PySem.W.nsIn K mainGlobals "BRAID_ANSWERS"=some (some (.ref dB)))(lB:K.lookup dB=some ⟨.type "dict",none,.dict eB.toArray pB1,#[]⟩)(EB:En eB (pB fs)):∃fd:FuncData,(∀(s:Shared) (us:List Value),us.length=(["calls"]:List Str).length->BindsTo s fd ⟨us,[]⟩ ((["calls"]:List Str).zip us))/\∀base:Heap,K.In base->base.Ns mainGlobals mg->eu P w K mg base g9 10 fa fd ["calls"] (CS K):=by
 have T:Txt K mg:=UT X G A Z N c0 n0 m0 c1 n1 m1 c2 n2 m2 c3 n3 m3 c4 n4 m4 tS lS S tA lA EA tB lB EB
 have e:=hfa.symm.trans T.answers.m
 cases e
 obtain⟨oc,od,kV,doc,pm,an,cdv,ct,osl,e,lk,hcd⟩:=T.answers.F.ex
 refine⟨T.answers.fd,fun s us hu=>?_,fun base _ _=>UP T⟩
 rw[e]
 match us,hu with
 |[_],_=>exact .of_eq rfl
end
end BK
end
namespace PySem.W.Fast
def tw1639691790622126565:=0
def tw2283727876079107187:=0
def tw8305189351143201388:=0
def tw289475824046937370:=0
def tw860598710105796811:=0
def tw2884096517531486722:=0
def tw11652027130421272902:=0
def tw15574258169389390413:=0
def tw9054624831471711365:=0
def tw10413248988277941838:=0
def tw5603762277941147896:=0
def tw8952633237314417682:=0
def tw16660248118463910558:=0
def tw8214969734011733455:=0
def tw7073766512925119807:=0
def tw7420764170311385434:=0
def tw10417147509480680038:=0
def tw1210793543113276485:=0
def tw2476442153313338820:=0
def tw7032710388817394708:=0
def tw11779236104705241904:=0
def tw4086613732342574482:=0
def tw9793469551429564585:=0
def tw13162091043706175361:=0
def tw17404507309688001450:=0
def tw11977943678800872938:=0
def tw17692320657072073174:=0
def tw6577528991028004224:=0
def tw8323070879178732032:=0
def tw1028915010993272146:=0
def tw15462208747226736468:=0
def tw6514636145068808233:=0
def tw10168487535709635051:=0
def tw3981636839728242060:=0
def tw5725940603997379367:=0
def tw13282793586962512440:=0
def tw6863457071133897588:=0
def tw10813006070951973038:=0
def tw4719771954423387987:=0
def tw13103024861609494435:=0
def tw499791596172173028:=0
def tw14288397106452305099:=0
def tw10877373824942790595:=0
def tw15685327305418514444:=0
def tw8607279682053572323:=0
def tw15682276678388355071:=0
def tw14407408420389011534:=0
def tw9243184126779023218:=0
def tw4768019600609857848:=0
def tw15745122665108931888:=0
def tw4688774373086055965:=0
def tw15129267133562444887:=0
def tw4520294937024021990:=0
def tw4983978213466216971:=0
def tw12573401276347950322:=0
def tw1619140649844487465:=0
def tw3008603986406048297:=0
def tw12935887674581501618:=0
def tw4734714751827359589:=0
def tw5050657692539717063:=0
def tw6880678321109052013:=0
def tw726047731482230963:=0
def tw5142605300050095209:=0
def tw18440791256402963727:=0
def tw6736911908520525427:=0
def tw8433680261851305790:=0
def tw13563389792333282034:=0
def tw4069891875531345307:=0
def tw956336745482915465:=0
def tw8459233817472780955:=0
def tw13087167976328104136:=0
def tw5155037234578768267:=0
def tw14458772255809504025:=0
def tw10914107200051126201:=0
def tw9460079266231607801:=0
def tw7871883714014123775:=0
def tw12613959930731439020:=0
def tw18171453209755801338:=0
def tw9321994136193929057:=0
def tw4236485647601288167:=0
def tw16144993730507176120:=0
def tw4584676818520085524:=0
def tw7632828209902935466:=0
def tw14823090904400746337:=0
def tw16428381795025047335:=0
def tw12123294315266722181:=0
def tw2933066227348925400:=0
def tw1937741258272746349:=0
def tw993291807514508413:=0
def tw6986311146696769224:=0
def tw10999684766567570029:=0
def tw5080803676258080507:=0
def tw5671537440138290462:=0
def tw14221534920193953866:=0
def tw13138947411980188815:=0
def tw16614538746496627159:=0
def tw13515771801277210942:=0
def tw166224443171641598:=0
def tw14792417755917108271:=0
def tw15375171306249355709:=0
def tw17605786824356472773:=0
def tw12451006469497657734:=0
def tw8796842496122352447:=0
def tw11449418804113124552:=0
def tw6006963484453010405:=0
def tw215785969875641117:=0
def tw4878408800670606842:=0
def tw10782634653694330189:=0
def tw11654753987742997202:=0
def tw11114534137121352004:=0
def tw10928194614507085611:=0
def tw7939369020947069832:=0
def tw7104026487704475936:=0
def tw4933605071113419468:=0
def tw6540162430306100612:=0
def tw12550583307268037636:=0
def tw13159986685403387012:=0
def tw13756863760919887520:=0
def tw1340571254097474321:=0
def tw6720813124018586237:=0
def tw8213917704479351676:=0
def tw9843461672822303854:=0
def tw3463062080024352552:=0
def tw6868159474048161549:=0
def tw9472191210271725202:=0
def tw11253692179425197094:=0
def tw5686891087161186686:=0
def tw11314735566525688283:=0
def tw11425220382131283599:=0
def tw8871340132648581546:=0
def tw11365829518760502777:=0
def tw17394158420606551730:=0
def tw5063029616442532082:=0
def tw216846343616906535:=0
def tw1995856611707512390:=0
def tw12815300248632515286:=0
def tw15289966297858979465:=0
def tw15937189792101495054:=0
def tw3876418858288652614:=0
def tw2612899177084744691:=0
def tw14975531507456963129:=0
def tw12899038084440045361:=0
def tw2315138025052502332:=0
def tw16641160562790906870:=0
def tw12513605875054505921:=0
def tw6308112095128353793:=0
def tw4834016605741070389:=0
def tw2490378925630120936:=0
def tw16554743724756718844:=0
def tw9578984852484426734:=0
def tw4616873715043631431:=0
def tw15167189575890609686:=0
def tw10008077508384394435:=0
def tw3398012181375843430:=0
def tw10104710333556850997:=0
def tw8606125281421736122:=0
def tw233961283444458887:=0
def tw14928474397415316592:=0
def tw441097356461820455:=0
def tw10525587467157006728:=0
def tw11283124409360220998:=0
def tw10048744949726361748:=0
def tw2239195290904609646:=0
def tw15740589310956550767:=0
def tw4245349135333476424:=0
def tw2868392105822304857:=0
def tw11577368607594985018:=0
def tw13586943677600941386:=0
def tw12973573291369424916:=0
def tw14462640174222216134:=0
def tw7847035126350938786:=0
def tw7416017889806108453:=0
def tw8916238185435413862:=0
def tw8879872292947184472:=0
def tw16202028544606502453:=0
def tw11367343455230417488:=0
def tw4771380793538681242:=0
def tw15855996818619960304:=0
def tw16303260102298215722:=0
def tw8809512840798057899:=0
def tw11158834406751448370:=0
def tw18359553648381082852:=0
def tw18327946178250764507:=0
def tw15367029943446397753:=0
def tw4483828304366187034:=0
def tw16320907253946448496:=0
def tw459826274612612345:=0
def tw7012173416458854032:=0
def tw8751693433393032922:=0
def tw647500995555897570:=0
def tw14337738554049067269:=0
def tw10722852501322919706:=0
def tw612715146348813434:=0
def tw8031304592459489728:=0
def tw10239897231477752204:=0
def tw822690606994585470:=0
def tw14186263858818599309:=0
def tw8598050119688052283:=0
def tw9211891620360679754:=0
def tw11396546631338728429:=0
def tw5163044488091537564:=0
def tw1073154763183819651:=0
def tw17208648493993031336:=0
def tw7008485790851790765:=0
def tw12752272842309100934:=0
def tw16453421921790990585:=0
def tw7501162260416526386:=0
def tw14661892600380430907:=0
def tw13326098226258471557:=0
def tw1299610562804251190:=0
def tw7712240886478552786:=0
def tw5639029125684140449:=0
def tw1499897622710238820:=0
def tw23669755493156197:=0
def tw17961990696049926542:=0
def tw13217368281576365665:=0
def tw581458333159208088:=0
def tw1117408145275239571:=0
def tw13320849526170657007:=0
def tw11070443274294025273:=0
def tw9084248362568190142:=0
def tw1791161667999420648:=0
def tw9484420338149280761:=0
def tw11846106200999819631:=0
def tw6855814052109336201:=0
def tw11160480807783109896:=0
def tw3095600916917563417:=0
def tw9000555979273395451:=0
def tw16412472973535372400:=0
def tw8731593126426076569:=0
def tw4509495301786624823:=0
def tw186881189390230916:=0
def tw18071637911380768462:=0
def tw13711627352405638067:=0
def tw9843837437106252983:=0
def tw10009262439982644184:=0
def tw349462984656934185:=0
def tw853353594501124235:=0
def tw3656986692993190007:=0
def tw3555885791755199095:=0
def tw7022181133404293078:=0
def tw17417632010654652230:=0
def tw4986975914809803698:=0
def tw7425042339706711687:=0
def tw6557149499512182090:=0
def tw14002503525652471699:=0
def tw11500113045571190239:=0
def tw14279542988211477671:=0
def tw16514225865856657635:=0
def tw13259253049205725862:=0
def tw1266364502557932615:=0
def tw8138849341432785054:=0
def tw6150704068544617510:=0
def tw7471206225362037005:=0
def tw12791224800750628067:=0
def tw152760855515373788:=0
def tw2713971023702159239:=0
def tw9725585831757957058:=0
def tw14946466971425409637:=0
def tw9993956508916370151:=0
def tw15438880653850796881:=0
def tw196989442686721496:=0
def tw10204489396409848435:=0
def tw12243956547031061400:=0
def tw1361394123068235688:=0
def tw12151886600752986933:=0
def tw6362594185387956890:=0
def tw6729005417973460343:=0
def tw7572875941373676183:=0
def tw11064112384373056326:=0
def tw9421963204536913455:=0
def tw18038467518008099037:=0
def tw5255550597650135564:=0
def tw2575684853261171720:=0
def tw5448680890522434111:=0
def tw8453463067858552399:=0
def tw7737002347277001241:=0
def tw1306451307115310669:=0
def tw4000674051618694717:=0
def tw1783195066485220089:=0
def tw16897041211870778017:=0
def tw16359972411362676426:=0
def tw17851274582626489866:=0
def tw9786436131916700006:=0
def tw13326455467402918620:=0
def tw3703861951867296706:=0
def tw4821844857207621936:=0
def tw11048069798477327894:=0
def tw16922296868123602043:=0
def tw5402935146564991666:=0
def tw3402041722761421001:=0
def tw17208915960701559054:=0
def tw4667868604227181638:=0
def tw14305467510449274071:=0
def tw3950919659587617525:=0
def tw211525985959876887:=0
def tw9780187766616877801:=0
def tw8058960392418980665:=0
def tw5674282151974218515:=0
def tw15866646420746672014:=0
def tw11854260831347567669:=0
def tw2028836936508648948:=0
def tw12555368314928096901:=0
def tw12846529015397075903:=0
def tw11362393409333373102:=0
def tw2542312758911295320:=0
def tw16384602004003832964:=0
def tw8202717391819685137:=0
def tw6029400152536194861:=0
def tw5133910141732849958:=0
def tw12437925578432594125:=0
def tw3903100729465225102:=0
def tw17881128164666044781:=0
def tw3739027740169804791:=0
def tw7146127645196169722:=0
def tw5117759513683849537:=0
def tw6488682465241620967:=0
def tw13969438103475440332:=0
def tw10815321781225279001:=0
def tw4789886892984519299:=0
def tw4182986530736372397:=0
def tw3458489440351707519:=0
def tw2414690255470627917:=0
def tw16913796287529188319:=0
def tw4404949571468650894:=0
def tw6627551248378780545:=0
def tw14937823360487749210:=0
def tw2222710876467708631:=0
def tw14515779254733096428:=0
def tw11712618215992374050:=0
def tw16645778487802007008:=0
def tw9665093098620437450:=0
def tw11199127924915112080:=0
def tw15673140412248402654:=0
def tw8967402148799825236:=0
def tw12540765627080221991:=0
def tw17893841899453795442:=0
def tw2739727308324146333:=0
def tw3743359843422450694:=0
def tw4223236525492081481:=0
def tw14569016301533100798:=0
def tw15921062434197725966:=0
def tw11404234130955418056:=0
def tw6601154248774207227:=0
def tw10845203411921732012:=0
def tw17657701272702279225:=0
def tw709068209008583063:=0
def tw2033371542038092264:=0
def tw9769728767624119489:=0
def tw6694560288278953460:=0
def tw12018703365653480235:=0
def tw16121144601839471755:=0
def tw11481824051441841730:=0
def tw11449665506826601669:=0
def tw1792163123619215772:=0
def tw10247109170748245442:=0
def tw16014710513840142378:=0
def tw9923577712621566878:=0
def tw14358667160806790611:=0
def tw14214740757027423910:=0
def tw375192569817727119:=0
def tw12463231057014764251:=0
def tw14447215676009625092:=0
def tw1369163451743247460:=0
def tw3637513749006901449:=0
def tw6218615768415896782:=0
def tw9081458366747084929:=0
def tw13748270515476435822:=0
def tw7316386915142746129:=0
def tw7145063331450154137:=0
def tw5903800564304251787:=0
def tw8104264836759177077:=0
def tw2194432031325664258:=0
def tw10977737942984271287:=0
def tw16731117141942181478:=0
def tw15627018797138440120:=0
def tw15067956752247095142:=0
def tw7462419052814863124:=0
def tw2703156554129385209:=0
def tw17605441643318566653:=0
def tw626012335925230215:=0
def tw1844190008015883580:=0
def tw9329675601861535251:=0
def tw5152477656101870970:=0
def tw3603333580501192393:=0
def tw6291240578563916312:=0
def tw6884127782947696318:=0
def tw1975272647982774682:=0
def tw10826248468878586555:=0
def tw90414441339182670:=0
def tw6412633628159507652:=0
def tw17721056535041713153:=0
def tw11641892505724820417:=0
def tw17527398004807907068:=0
def tw17204596930833000799:=0
def tw17202679123899366758:=0
def tw10839130464272152259:=0
def tw6700354911457018901:=0
def tw899572824865958765:=0
def tw6103887779960472822:=0
def tw2028221070553038723:=0
def tw3459590607982211006:=0
def tw3848352176358818847:=0
def tw15884077162678613415:=0
def tw2752532425775813545:=0
def tw6118192408181397974:=0
def tw12716267581612441760:=0
def tw17158398938650264692:=0
def tw13336217276067460143:=0
def tw10792371077793645504:=0
def tw6157565755126901579:=0
def tw8790013149230519755:=0
def tw10272893343886920268:=0
def tw8554640605364678816:=0
def tw15752786952448702155:=0
def tw11792303996219309499:=0
def tw10382584632615916061:=0
def tw17817971325962891581:=0
def tw13315984158500509582:=0
def tw3403545727348886815:=0
def tw10550146121095373060:=0
def tw3596546435137709327:=0
def tw5785996873527604957:=0
def tw18162538618033896569:=0
def tw14678600517230227035:=0
def tw17057241921171020406:=0
def tw15307715145557017952:=0
def tw13393522505561027613:=0
def tw8278974897733192257:=0
def tw4501336139812029798:=0
def tw11556387965125356886:=0
def tw15647068651349687208:=0
def tw14290188987229801197:=0
def tw5622475689704289789:=0
def tw4034356403609170234:=0
def tw10064989659503095977:=0
def tw6711821935491798823:=0
def tw4044039238843698300:=0
def tw6111969717768428449:=0
def tw10082384458590226603:=0
def tw15463103754331471942:=0
def tw12964614943150972:=0
def tw642522192949041782:=0
def tw16081323505780709640:=0
def tw3987764629478708859:=0
def tw14626701048649510780:=0
def tw15187098988031341805:=0
def tw11568885550984237160:=0
def tw1520828076755449219:=0
def tw1626139402673873307:=0
def tw549112342450225133:=0
def tw12525274989318766968:=0
def tw14683552440826247298:=0
def tw2257183808841107653:=0
def tw6181144352850543058:=0
def tw3499433637007087012:=0
def tw1542645052023098913:=0
def tw16217138188950672600:=0
def tw4321111509024145295:=0
def tw16691916722580058340:=0
def tw15764233696810933339:=0
def tw4736457489649080811:=0
def tw16528400593606817499:=0
def tw7317778735582670512:=0
def tw16457621223124978085:=0
def tw5171112050168209178:=0
def tw15950662804304904163:=0
def tw3930343145186392456:=0
def tw17624723733034535344:=0
def tw14393182720442978456:=0
def tw3291993740028280169:=0
def tw16675255712002770043:=0
def tw5998646393938928481:=0
def tw11572635495809088915:=0
def tw14630819844627512572:=0
def tw17995057403900296864:=0
def tw9760802679910941528:=0
def tw11552734655150253899:=0
def tw7274293195527212414:=0
def tw10412750268011793474:=0
def tw16317029063317427503:=0
def tw11157497102372163394:=0
def tw5599260258968617772:=0
def tw1061238485452791422:=0
def tw11061608762391558534:=0
def tw4823291907775643515:=0
def tw7251105668584748000:=0
def tw14834214439518486657:=0
def tw12980178938333131539:=0
def tw8613096747901890377:=0
def tw16841722332622012385:=0
def tw14470022596881783238:=0
def tw7490965073194951774:=0
def tw15991333575650220160:=0
def tw9392243117619828808:=0
def tw2863870090924271811:=0
def tw2539795994102306871:=0
def tw4863644168595644939:=0
def tw4616437123863419126:=0
def tw4108287275687504755:=0
def tw7442632897159826580:=0
def tw5064468130951749145:=0
def tw10570382271640300089:=0
def tw8504197355100524954:=0
def tw12943488310686710524:=0
def tw1326962001566763879:=0
def tw1324191571979987775:=0
def tw11385430869766123999:=0
def tw15895481556384616366:=0
def tw8202235490150180985:=0
def tw9505046549309517645:=0
def tw4933634060677809343:=0
def tw10677216909749268587:=0
def tw9497366726394970862:=0
def tw5426255934682481381:=0
def tw376464559338890430:=0
def tw17844305028278518055:=0
def tw2364373833702437910:=0
def tw11917534091309237322:=0
def tw18264747487785162410:=0
def tw17511733638696814741:=0
def tw6593968675648695776:=0
def tw14667732045502504591:=0
def tw4722339485282577998:=0
def tw3851958761320705930:=0
def tw13874870254518489355:=0
def tw1151650973312608699:=0
def tw16478281666668943135:=0
def tw6633862602886554639:=0
def tw3158150846695763386:=0
def tw1772426088431153560:=0
def tw15777669722697029338:=0
def tw13806042962524891804:=0
def tw8465558522839084673:=0
def tw4137565468917550705:=0
def tw17460405304318103947:=0
def tw14119038474895283260:=0
def tw8885559110177683107:=0
def tw13164603850675087960:=0
def tw13349854265454835565:=0
def tw2398462871097573099:=0
def tw11505734353430864541:=0
def tw3983092683179248692:=0
def tw606017370683946983:=0
def tw14131083763337263785:=0
def tw10241903311212687451:=0
def tw2772149530080542251:=0
def tw15556098873512633032:=0
def tw5158954614300879193:=0
def tw7476678194668568709:=0
def tw18261239469394384218:=0
def tw2096855062223912386:=0
def tw13232287227067930373:=0
def tw3773064253217248374:=0
def tw10320615729310668127:=0
def tw8513469547681051735:=0
def tw14264473806403591632:=0
def tw7128870185758090846:=0
def tw5936563932951838939:=0
def tw12496659547053897407:=0
def tw12221465848953055535:=0
def tw4233917072787593920:=0
def tw5845697436989355963:=0
def tw6670738172114500201:=0
def tw9499984069043225607:=0
def tw3179899706120470191:=0
def tw7772107911320502244:=0
def tw4471294207165723141:=0
def tw2047749083106699933:=0
def tw16951194133133861648:=0
def tw7444213630936916592:=0
def tw17017447371648327873:=0
def tw14557720806751111951:=0
def tw4787374889730001153:=0
def tw13288281461556029342:=0
def tw7503009919999443694:=0
def tw10256440605599532175:=0
def tw7476615028711079218:=0
def tw6277776414052358496:=0
def tw2628988313517940372:=0
def tw9318048421071284499:=0
def tw16266441193309634854:=0
def tw735198731499216241:=0
def tw991586325377729755:=0
def tw11433971981534261356:=0
def tw15441564718420056348:=0
def tw12892735400661837586:=0
def tw853492754770704484:=0
def tw13792503558847459099:=0
def tw6713848559758954438:=0
def tw2141677443230723991:=0
def tw17553972827367190075:=0
def tw1945365157467824950:=0
def tw11281918642249109234:=0
def tw4013008374786065609:=0
def tw3188936401543501319:=0
def tw10217444970646206412:=0
def tw6565641778274459522:=0
def tw1470990815832893751:=0
def tw3894134113864959635:=0
def tw8111273225033421887:=0
def tw14082796785357554519:=0
def tw2729937486506108741:=0
def tw1196588748258389236:=0
def tw10829069900022503185:=0
def tw9733397604167868266:=0
def tw5725603185062471366:=0
def tw5041344581737596713:=0
def tw2660367666139450948:=0
def tw14136412410322011605:=0
def tw13928989391734148310:=0
def tw2326474038803912906:=0
def tw15428501945737778238:=0
def tw11185370786671185350:=0
def tw9235612306184183973:=0
def tw10420313071279426206:=0
def tw14318159599594353140:=0
def tw17020485348986353093:=0
def tw4533857100351164117:=0
def tw3834469609017632587:=0
def tw15170306955466146366:=0
def tw5521215292244329418:=0
def tw8597102357977249786:=0
def tw17414046173458842817:=0
def tw11058605217097390309:=0
def tw8460077057157002119:=0
def tw16746557994024641902:=0
def tw9000010667484206117:=0
def tw13491736391573863408:=0
def tw7632517129984889545:=0
def tw4297729978129749830:=0
def tw17708327372106477652:=0
def tw14345691920111811467:=0
def tw16637541964349714654:=0
def tw12932649075328234446:=0
def tw7946880881807685156:=0
def tw9991392852268189697:=0
def tw15653953673315305145:=0
def tw17407661043631890033:=0
def tw17152016858449271373:=0
end PySem.W.Fast
section
open PySem PySem.W PyProof.Rows
set_option maxRecDepth 100000 in
set_option maxHeartbeats 0 in
theorem PySem.Challenge.cw_braidbook_s01_answers_holds : PySem.Challenge.rw_braidbook_s01_answers.Holds := by
 w_on;k_headS;(case hw=>exact⟨[.list [.int 21,.int 0]],by decide+kernel,by decide+kernel⟩)
 k_fillS
 refine L2.Mx (r:=PySem.Challenge.rw_braidbook_s01_answers) (k:=10) (CX:=L2.g9) (ps:=["calls"]) (sp:=BK.CS) (by decide+kernel) rfl rfl ⟨rfl,by decide,by decide⟩ (fun w h Y=>PySem.W.kIn_of Y) ?F ?S (fun _ _ _ _ z=>z)
 case F=>
  intro w mg fa h Y KX G hmg
  refine' BK.UU hmg KX G ?qA ?qZ ?qN ?qc0 ?qn0 ?qm0 ?qc1 ?qn1 ?qm1 ?qc2 ?qn2 ?qm2 ?qc3 ?qn3 ?qm3 ?qc4 ?qn4 ?qm4 ?qtS ?qlS ?qS ?qtA ?qlA ?qEA ?qtB ?qlB ?qEB
  case qA=>repeat (first|exact .nil|(refine' .cons ?_ ?_ ?_ ?_ ?_;rotate_left 11;k_is;k_is;k_is;k_is))
  case qZ=>repeat (first|exact .nil|refine .cons (by k_is) ?_)
  case qN=>repeat (first|exact .nil|refine .cons (by k_is) ?_)
  case qc0=>exact⟨by k_is,by k_is,by k_is,by k_is,by k_is,by k_is,by k_is⟩
  case qn0=>repeat (first|exact .nil|refine .cons (by k_is) ?_)
  case qm0=>repeat (first|exact .nil|(refine' .cons ?_ ?_ ?_ ?_ ?_ ?_;rotate_left 11;k_is;k_is;k_is;k_is;k_is))
  case qc1=>exact⟨by k_is,by k_is,by k_is,by k_is,by k_is,by k_is,by k_is⟩
  case qn1=>repeat (first|exact .nil|refine .cons (by k_is) ?_)
  case qm1=>repeat (first|exact .nil|(refine' .cons ?_ ?_ ?_ ?_ ?_ ?_;rotate_left 11;k_is;k_is;k_is;k_is;k_is))
  case qc2=>exact⟨by k_is,by k_is,by k_is,by k_is,by k_is,by k_is,by k_is⟩
  case qn2=>repeat (first|exact .nil|refine .cons (by k_is) ?_)
  case qm2=>repeat (first|exact .nil|(refine' .cons ?_ ?_ ?_ ?_ ?_ ?_;rotate_left 11;k_is;k_is;k_is;k_is;k_is))
  case qc3=>exact⟨by k_is,by k_is,by k_is,by k_is,by k_is,by k_is,by k_is⟩
  case qn3=>repeat (first|exact .nil|refine .cons (by k_is) ?_)
  case qm3=>repeat (first|exact .nil|(refine' .cons ?_ ?_ ?_ ?_ ?_ ?_;rotate_left 11;k_is;k_is;k_is;k_is;k_is))
  case qc4=>exact⟨by k_is,by k_is,by k_is,by k_is,by k_is,by k_is,by k_is⟩
  case qn4=>repeat (first|exact .nil|refine .cons (by k_is) ?_)
  case qm4=>repeat (first|exact .nil|(refine' .cons ?_ ?_ ?_ ?_ ?_ ?_;rotate_left 11;k_is;k_is;k_is;k_is;k_is))
  case qtS=>k_is
  case qlS=>k_is
  case qS=>repeat (first|exact .nil|(refine' .cons ?_ ?_ ?_;rotate_left 6;k_is;decide+kernel))
  case qtA=>k_is
  case qlA=>k_is
  case qEA=>repeat (first|exact .nil|refine .cons (by decide+kernel) ?_)
  case qtB=>k_is
  case qlB=>k_is
  case qEB=>repeat (first|exact .nil|refine .cons (by decide+kernel) ?_)
 case S=>
  intro K H xs a hO hwi hask hx
  cases hx with
  |cons h1 h2=>
   cases h2
   cases h1 with
   |lst hs ha=>
    have e:=L2.Ej a.1 _ ha
    subst e
    exact⟨_,a.1,rfl,hs,hask,fun H' p hp=>.lst (L2.ai.of hp) (L2.Ei _)⟩
end
