import PyProof.Rows.All
import Wide.All
import OpenK.AllK
import Wide.FinOn
import PyProof.EqAt
import PyProof.EqKinds
import PyProof.TupleCall
import KE.BitLaws
import Open.SpecLaws
import KE.OsHead
import KE.OsGo
import KE.KEqDict
import KE.KEqSeq
import PySem.Challenge.RW_braidbook_s01_answers
set_option Elab.async false
set_option linter.all false
set_option maxRecDepth 100000
set_option maxHeartbeats 4000000
def ae:=@if_neg
def af:=@if_pos
def aE:=@List.length_map
def aX:=@Nat.le_refl
def a0:=@of_decide_eq_true
def a6:=@List.mem_range
def a_:=@of_decide_eq_false
def be:=@Nat.zero_le
def bo:=@Option.some.inj
def br:=@Bool.and_eq_true
def bu:=@List.getElem?_eq_getElem
def bE:=@List.mem_cons_self
def bF:=@List.length_append
def bH:=@List.mem_cons_of_mem
def bO:=@congrArg
def bP:=@List.length_cons
def bW:=@List.mem_map
def bX:=@List.getElem?_map
def cj:=@List.mem_cons
def cu:=@decide_eq_false
def cz:=@Nat.le_trans
def cA:=@List.length_range
def cJ:=@List.length_reverse
def cN:=@List.map_append
def cX:=@List.size_toArray
def c7:=@decide_eq_true
def dq:=@List.map_map
def dz:=@List.length_take
def dG:=@List.append_assoc
def dO:=@List.mem_append
def dP:=@List.getElem?_eq_some_iff
def dQ:=@List.map_cons
def d6:=@List.mem_append_right
def d7:=@List.getD_eq_getElem?_getD
def eD:=@Int.ofNat_lt
def fj:=@Bool.false_ne_true
def ft:=@List.append_nil
def fu:=@Bool.not_eq_true'
def gp:=@List.length_set
def gq:=@List.mem_singleton
def gu:=@decide_eq_decide
def gE:=@Nat.lt_of_lt_of_le
def gF:=@Nat.ne_of_lt
def gG:=@List.foldl_cons
def gH:=@decide_eq_true_eq
def gI:=@List.map_congr_left
def gU:=@List.take_length
def iA:=@PySem.mem_of_lookup
def iB:=@List.countP_eq_length_filter
def iW:=@Nat.lt_irrefl
def iX:=@List.mem_filter
def iY:=@List.getElem_mem
def iZ:=@List.range_succ
def i0:=@List.take_add_one
def i4:=@Bool.not_eq_false'
def jB:=@List.mem_append_left
def jC:=@Bool.eq_iff_iff
def jD:=@List.countP_cons
def jE:=@List.foldl_append
def ka:=@List.mem_reverse
def kW:=@List.nodup_cons
def kX:=@List.replicate_succ
def kY:=@List.nil_append
def kZ:=@Classical.byContradiction
def k5:=@Bool.true_and
def k6:=@PyProof.Rows.boot_list
def mj:=@List.all_eq_true
def mn:=@Bool.or_eq_true
def mo:=@List.cons.inj
def mq:=@Int.add_zero
def mv:=@List.reverse_cons
def mw:=@List.mem_of_mem_take
def mx:=@decide_eq_true_iff
def my:=@Classical.choose_spec
def m5:=@PyProof.Rows.callWith_type1
def m6:=@List.mem_of_getElem?
def m7:=@List.countP_congr
def oV:=@List.getElem?_append_right
def oW:=@List.length_singleton
def oX:=@Nat.succ_mul
def oY:=@List.take_of_length_le
def oZ:=@List.filter_cons_of_pos
def o3:=@List.nodup_range
def o4:=@Nat.sub_self
def o5:=@Bool.not_eq_true
def o6:=@List.take_succ_cons
def o7:=@List.take_zero
def o8:=@List.countP_append
def o9:=@List.drop_eq_getElem_cons
def o_:=@PySem.W.mg_of
def qH:=@beq_eq_false_iff_ne
def qI:=@List.getElem?_append_left
def qJ:=@List.length_replicate
def qK:=@List.flatten_cons
def qM:=@List.lookup_cons
def qO:=@List.getElem?_eq_none
def qP:=@List.getElem?_range
def qQ:=@List.mem_of_find?_eq_some
def qR:=@List.find?_some
def qT:=@List.length_eq_zero_iff
def qU:=@List.length_filter_le
def qV:=@List.sum_cons
def qW:=@List.getElem?_set
def qX:=@List.filter_eq_self
def qY:=@List.filter_nil
def q0:=@Nat.mod_eq_of_lt
def q_:=@List.drop_eq_nil_of_le
def rd:=@Nat.le_of_ble_eq_true
def uh:=@Array.length_toList
def ui:=@List.find?_cons
def uj:=@List.filter_cons_of_neg
def uk:=@List.countP_eq_zero
def um:=@List.reverse_reverse
def uo:=@List.filter_append
def uq:=@Int.natCast_add
def xf:=@List.range_succ_eq_map
def xg:=@Bool.and_eq_true_iff
def xh:=@List.eq_of_mem_replicate
def xi:=@List.dropLast_concat
def xj:=@List.eq_nil_or_concat
def xm:=@List.concat_eq_append
def xn:=@List.getElem_of_mem
def xo:=@PySem.F.plainAttrs_list
section
namespace L2
open PySem PySem.Spec PyProof.Rows
abbrev Key:=Sum Int Str
def pd:Key->Value->Bool
 |.inl k,v=>Value.isInt k v
 |.inr x,v=>Value.isStrOf x v
def JS(w:World):Key->Int
 |.inl k=>hashInt k
 |.inr x=>hashStr w x
theorem k7:∀{k:Key}{v:Value},pd k v=true->(∃i t,k=Sum.inl i/\v=Value.int i t)\/(∃x t,k=Sum.inr x/\v=Value.str x t)
 |.inl i,v,h=>by
  obtain⟨t,e⟩:=Value.isInt_shape (k:=i) (v:=v) h
  exact .inl ⟨i,t,rfl,e⟩
 |.inr x,v,h=>by
  obtain⟨t,e⟩:=Value.isStrOf_shape (x:=x) (v:=v) h
  exact .inr ⟨x,t,rfl,e⟩
theorem JT(i:Int)(t:Tok):pd (.inl i) (.int i t)=true:=by simp[pd,Value.isInt]
theorem JU(x:Str)(t:Tok):pd (.inr x) (.str x t)=true:=by simp[pd,Value.isStrOf]
theorem JV(a b:Int):decide ((Sum.inl a:Key)=Sum.inl b)=(a == b):=by
 by_cases e:a=b
 ·subst e;simp
 ·have h:¬(Sum.inl a:Key)=Sum.inl b:=fun q=>e (Sum.inl.inj q)
  rw[cu h]
  exact(qH.mpr e).symm
theorem JW(a b:Str):decide ((Sum.inr a:Key)=Sum.inr b)=decide (a=b):=by
 by_cases e:a=b
 ·subst e;simp
 ·have h:¬(Sum.inr a:Key)=Sum.inr b:=fun q=>e (Sum.inr.inj q)
  rw[cu h,cu e]
theorem JX(a:Int)(b:Str):decide ((Sum.inl a:Key)=Sum.inr b)=false:=cu (fun q=>nomatch q)
theorem JY(a:Str)(b:Int):decide ((Sum.inr a:Key)=Sum.inl b)=false:=cu (fun q=>nomatch q)
def k8(prog:Program)(w:World):PySem.KeyKind prog w Key where
 is:=pd
 hash:=JS w
 inj:=fun v a b ha hb=>by
  rcases k7 ha with ⟨i,t,rfl,rfl⟩|⟨x,t,rfl,rfl⟩
  ·rcases k7 hb with ⟨j,u,rfl,e⟩|⟨y,u,rfl,e⟩
   ·injection e with e1 _;rw[e1]
   ·exact nomatch e
  ·rcases k7 hb with ⟨j,u,rfl,e⟩|⟨y,u,rfl,e⟩
   ·exact nomatch e
   ·injection e with e1 _;rw[e1]
 byValue:=fun k v h=>by
  rcases k7 h with ⟨i,t,rfl,rfl⟩|⟨x,t,rfl,rfl⟩<;>rfl
 pyHash:=fun hv h=>by
  rcases k7 hv with ⟨i,t,rfl,rfl⟩|⟨x,t,rfl,rfl⟩
  ·exact wpAny_pyHash_int h
  ·exact wpAny_pyHash_str h
 eqBool:=fun hu hv h=>by
  rcases k7 hu with ⟨i,t,rfl,rfl⟩|⟨x,t,rfl,rfl⟩
  ·rcases k7 hv with ⟨j,u,rfl,rfl⟩|⟨y,u,rfl,rfl⟩
   ·rw[JV]at h;exact wpAny_eqBool_int h
   ·rw[JX]at h;exact SeqAt.EqAt.int_str i t y u _ _ _ _ h
  ·rcases k7 hv with ⟨j,u,rfl,rfl⟩|⟨y,u,rfl,rfl⟩
   ·rw[JY]at h;exact SeqAt.EqAt.str_int x t j u _ _ _ _ h
   ·rw[JW]at h;exact wpAny_eqBool_str h
 «strs»:=fun k x t v h=>by
  rcases k7 h with ⟨i,u,rfl,e⟩|⟨y,u,rfl,e⟩
  ·exact nomatch e
  ·injection e with e1 _
   subst e1
   cases v<;>rfl
theorem JZ(prog:Program)(w:World)(i:Int)(t:Tok):(k8 prog w).is (.inl i) (.int i t)=true:=JT i t
theorem J0(prog:Program)(w:World)(x:Str)(t:Tok):(k8 prog w).is (.inr x) (.str x t)=true:=JU x t
end L2
namespace L2
open PySem PySem.Spec PyProof.Rows
inductive V where
 |aW|bl (b:Bool)|int (i:Int)|str (x:Str)|gv (b:Array UInt8)|ur (b:UInt64)|ref (a:Addr)|ty (n:String)
 deriving DecidableEq
def RelV:V->Value->Prop
 |.aW,u=>u=Value.none
 |.bl b,u=>u=Value.bool b
 |.int i,u=>∃t,u=Value.int i t
 |.str x,u=>∃t,u=Value.str x t
 |.gv b,u=>∃t,u=Value.bytes b t
 |.ur b,u=>∃t,u=Value.float b t
 |.ref a,u=>u=Value.ref a
 |.ty n,u=>u=Value.type n
abbrev aK:List V->List Value->Prop:=Paired RelV
theorem aK.length{xs:List V}{us:List Value}(r:aK xs us):xs.length=us.length:=Paired.length r
theorem aK.get:∀{xs:List V}{us:List Value}{i:Nat}{x:V},aK xs us->xs[i]?=some x->∃u,us[i]?=some u/\RelV x u
 |_,_,_,_,.nil,e=>by simp at e
 |_,_,0,_,.cons r _,e=>by simp at e;subst e;exact⟨_,rfl,r⟩
 |_,_,i+1,x,.cons _ t,e=>by
  obtain⟨u,h1,h2⟩:=aK.get (i:=i) (x:=x) t (by simpa using e)
  exact⟨u,by simpa using h1,h2⟩
theorem aK.set{x:V}{u:Value}(r:RelV x u):∀{xs:List V}{us:List Value} (i:Nat),aK xs us->aK (xs.set i x) (us.set i u)
 |_,_,_,.nil=>.nil
 |_,_,0,.cons _ t=>.cons r t
 |_,_,i+1,.cons q t=>.cons q (aK.set r i t)
theorem aK.append:∀{xs ys:List V}{us ws:List Value},aK xs us->aK ys ws->aK (xs++ys) (us++ws)
 |_,_,_,_,.nil,s=>s
 |_,_,_,_,.cons r t,s=>.cons r (aK.append t s)
theorem aK.take:∀{xs:List V}{us:List Value} (n:Nat),aK xs us->aK (xs.take n) (us.take n)
 |_,_,0,_=>.nil
 |_,_,_+1,.nil=>.nil
 |_,_,n+1,.cons r t=>.cons r (aK.take n t)
theorem aK.drop:∀{xs:List V}{us:List Value} (n:Nat),aK xs us->aK (xs.drop n) (us.drop n)
 |_,_,0,r=>r
 |_,_,_+1,.nil=>.nil
 |_,_,n+1,.cons _ t=>aK.drop n t
def i5:Option V->Option Value->Prop
 |some v,some u=>RelV v u
 |none,none=>True
 |_,_=>False
def KV{κ:Type}:List (κ×V)->List (κ×Value)->Prop:=Paired fun (p:κ×V) (q:κ×Value)=>p.1=q.1/\RelV p.2 q.2
def kV:Key->V
 |.inl i=>.int i
 |.inr x=>.str x
inductive HO where
 |lst (xs:List V)
 |tup (xs:List V)
 |dK (kvs:List (Key×V))|dT (kvs:List (List Key×V))
 |set (S:Int->Bool) (n:Nat)
 |ins (C dx:Addr) (fs:List (Str×V))
 |own (x:Addr)
 |xd (fs:List (Str×V))
 |met (f x:Addr)
 |ke (lo hi:Int)
 |cw (o:Obj) (u:HO)
 |m8 (ps:Array Value)
 |ext (φ:Heap->Prop)
abbrev Hp:=Addr->Option HO
def upd(H:Hp)(a:Addr)(o:HO):Hp:=fun b=>if b=a then some o else H b
theorem au{H:Hp}{a:Addr}{o:HO}:upd H a o a=some o:=by unfold upd;rw[af rfl]
theorem ax{H:Hp}{a b:Addr}{o:HO}(h:b≠a):upd H a o b=H b:=by unfold upd;rw[ae h]
theorem a7{H:Hp}{a b:Addr}{o:HO}(h:H a=some o)(h':H b=none):a≠b:=by
 intro e;subst e;rw[h]at h';cases h'
section
variable(P:Program)(w:World)
def eE(H:Hp)(h:Heap)(a:Addr):HO->Prop
 |.lst xs=>xs.length<=sizeLine/\∃(its:List Value) (n:Nat),aK xs its/\h.get? a=some {cls:=.type "list",data:=.seq its.toArray n}
 |.tup xs=>xs.length<=sizeLine/\∃its:List Value,aK xs its/\IsTup h a its.toArray
 |.dK kvs=>kvs.length<=sizeLine/\(a == sysModules)=false/\∃vs,KV kvs vs/\h.DictOf (k8 P w) a vs
 |.dT kvs=>kvs.length<=sizeLine/\(a == sysModules)=false/\∃xs:List (List Key×Addr×Value),
   Paired (fun (p:List Key×V) (q:List Key×Addr×Value)=>p.1=q.1/\H q.2.1=some (.tup (p.1.map kV))/\RelV p.2 q.2.2) kvs xs/\
   ∃o es ep,h.get? a=some o/\o.ExactDict/\o.data=.dict es ep/\es.toList=xs.map (entryOfKey (tupleKind (k8 P w)))/\(xs.map (·.1)).Nodup
 |.set S n=>h.SetOf (intKind P w) a S n
 |.ins C dx fs=>H dx=some (.own a)/\fs.length<=1000/\dx≠a/\h.get? a=some (PySem.W.instObj C dx)/\
   ∃mA,h.Ns1 dx mA/\(∀f,i5 (fs.lookup f) (mA f))/\PySem.Within mA (fs.map (·.1))
 |.own _=>∃o,h.get? a=some o
 |.xd fs=>∃mA,h.Ns1 a mA/\∀f,i5 (fs.lookup f) (mA f)
 |.ke lo hi=>∃t u v,h.get? a=some {cls:=.type "range",data:=.fields #[.int lo t,.int hi u,.int 1 v]}
 |.cw o u=>h.get? a=some o/\eE H h a u
 |.m8 ps=>h.get? a=some {cls:=.none,data:=.fields ps}
 |.met f x=>h.get? a=some (PySem.W.methodObj (.ref f) (.ref x))
 |.ext φ=>φ h/\(∃o,h.get? a=some o)/\∀h1 h2:Heap,φ h1->(∀o,h1.get? a=some o->h2.get? a=some o)->φ h2
def cS(H:Hp)(h:Heap):Prop:=∀a o,H a=some o->eE P w H h a o
end
section
variable{P:Program}{w:World}{H H':Hp}{h h':Heap}{a:Addr}{o:HO}
theorem eE.lt(x:eE P w H h a o):a<h.objs.size:=by
 cases o with
 |lst xs=>obtain⟨_,_,_,_,e⟩:=x;exact Heap.lt_size e
 |tup xs=>obtain⟨_,_,_,p⟩:=x;exact p.lt
 |dK kvs=>obtain⟨_,_,_,_,o,_,_,e,_⟩:=x;exact Heap.lt_size e
 |dT kvs=>obtain⟨_,_,_,_,o,_,_,e,_⟩:=x;exact Heap.lt_size e
 |set S n=>obtain⟨o,_,_,_,e,_⟩:=x;exact Heap.lt_size e
 |ins C dx fs=>obtain⟨_,_,_,e,_⟩:=x;exact Heap.lt_size e
 |own y=>obtain⟨_,e⟩:=x;exact Heap.lt_size e
 |xd fs=>obtain⟨_,⟨_,_,_,e,_⟩,_⟩:=x;exact Heap.lt_size e
 |ke lo hi=>obtain⟨_,_,_,e⟩:=x;exact Heap.lt_size e
 |cw ob u=>obtain⟨e,_⟩:=x;exact Heap.lt_size e
 |m8 ps=>exact Heap.lt_size (show h.get? a=some _ from x)
 |met f y=>exact Heap.lt_size (show h.get? a=some _ from x)
 |ext φ=>obtain⟨_,⟨_,e⟩,_⟩:=x;exact Heap.lt_size e
theorem Paired.CM{α β:Type}{F G:α->β->Prop}:∀{l₁:List α}{l₂:List β},Paired F l₁ l₂->(∀a b,F a b->G a b)->Paired G l₁ l₂
 |_,_,.nil,_=>.nil
 |_,_,.cons r t,f=>.cons (f _ _ r) (Paired.CM t f)
theorem eE.kf(x:eE P w H h a o)(k:∀b u,(b=a\/H b=some (.own a))->h.get? b=some u->h'.get? b=some u)
  (ho:∀b,H b=some (.own a)->H' b=some (.own a))(ht:∀b xs,H b=some (.tup xs)->H' b=some (.tup xs)):eE P w H' h' a o:=by
 induction o with
 |lst xs=>obtain⟨z,its,n,r,e⟩:=x;exact⟨z,its,n,r,k _ _ (.inl rfl) e⟩
 |tup xs=>obtain⟨z,its,r,ob,e,c⟩:=x;exact⟨z,its,r,ob,k _ _ (.inl rfl) e,c⟩
 |dK kvs=>obtain⟨z,y,vs,r,ob,es,ep,e,c⟩:=x;exact⟨z,y,vs,r,ob,es,ep,k _ _ (.inl rfl) e,c⟩
 |dT kvs=>
  obtain⟨z,y,xs,r,ob,es,ep,e,c⟩:=x
  exact⟨z,y,xs,Paired.CM r fun p q z=>⟨z.1,ht _ _ z.2.1,z.2.2⟩,ob,es,ep,k _ _ (.inl rfl) e,c⟩
 |set S n=>obtain⟨ob,es,ep,t,e,c⟩:=x;exact⟨ob,es,ep,t,k _ _ (.inl rfl) e,c⟩
 |ins C dx fs=>
  obtain⟨d,z,ne,e,mA,⟨od,es,ep,e2,c⟩,r⟩:=x
  exact⟨ho _ d,z,ne,k _ _ (.inl rfl) e,mA,⟨od,es,ep,k _ _ (.inr d) e2,c⟩,r⟩
 |own y=>obtain⟨ob,e⟩:=x;exact⟨ob,k _ _ (.inl rfl) e⟩
 |xd fs=>obtain⟨mA,⟨od,es,ep,e,c⟩,r⟩:=x;exact⟨mA,⟨od,es,ep,k _ _ (.inl rfl) e,c⟩,r⟩
 |ke lo hi=>obtain⟨t,u,v,e⟩:=x;exact⟨t,u,v,k _ _ (.inl rfl) e⟩
 |cw ob u ih=>obtain⟨e,q⟩:=x;exact⟨k _ _ (.inl rfl) e,ih q⟩
 |m8 ps=>
  have e:h.get? a=some {cls:=.none,data:=.fields ps}:=x
  show h'.get? a=some {cls:=.none,data:=.fields ps}
  exact k a _ (.inl rfl) e
 |met f y=>
  have e:h.get? a=some (PySem.W.methodObj (.ref f) (.ref y)):=x
  show h'.get? a=some (PySem.W.methodObj (.ref f) (.ref y))
  exact k a _ (.inl rfl) e
 |ext φ=>obtain⟨p,⟨o,e⟩,st⟩:=x;exact⟨st _ _ p fun o q=>k _ _ (.inl rfl) q,⟨o,k _ _ (.inl rfl) e⟩,st⟩
theorem cS.lt(x:cS P w H h)(e:H a=some o):a<h.objs.size:=(x a o e).lt
theorem cS.fresh(x:cS P w H h)(e:h.objs.size<=a):H a=none:=by
 cases q:H a with
 |none=>rfl
 |some u=>exact absurd (gE (x.lt q) e) (iW _)
theorem cS.kept(x:cS P w H h)(k:∀b u,h.get? b=some u->h'.get? b=some u):cS P w H h':=fun a o e=>
 (x a o e).kf (fun b u _ q=>k b u q) (fun _ q=>q) fun _ _ q=>q
theorem cS.laid(x:cS P w H h)(k:∀b u,h.get? b=some u->h'.get? b=some u)(hp:h.objs.size<=a)(new:eE P w (upd H a o) h' a o):cS P w (upd H a o) h':=fun b u e=>by
 have hn:=x.fresh hp
 by_cases hb:b=a
 ·subst hb;rw[au]at e;cases e;exact new
 ·rw[ax hb]at e
  exact(x b u e).kf (fun c v _ q=>k c v q) (fun c q=>by rw[ax (a7 q hn)];exact q) fun c xs q=>by rw[ax (a7 q hn)];exact q
end
def Rd(H:Hp)(a:Addr)(u:HO):Prop:=H a=some u\/∃o,H a=some (.cw o u)
theorem Rd.ok{P:Program}{w:World}{H:Hp}{h:Heap}{a:Addr}{u:HO}(r:Rd H a u)(x:cS P w H h):eE P w H h a u:=by
 rcases r with r|⟨o,r⟩
 ·exact x a u r
 ·obtain⟨_,q⟩:=x a _ r
  exact q
def m9:Option HO->Prop
 |some (.lst _)=>True
 |some (.dK _)=>True
 |some (.dT _)=>True
 |some (.set _ _)=>True
 |some (.ins _ _ _)=>True
 |some (.ext _)=>True
 |_=>False
section
variable{P:Program}{w:World}{H:Hp}{h h':Heap}{x e:Addr}{o':HO}
theorem cS.write(ok:cS P w H h)(mu:m9 (H x))(he:e=x\/H e=some (.own x))(k:∀b u,b≠e->h.get? b=some u->h'.get? b=some u)(heo:∃u,h'.get? e=some u)
  (new:eE P w (upd H x o') h' x o'):cS P w (upd H x o') h':=fun b u q=>by
 have nown:∀c y,H c=some (.own y)->c≠x:=fun c y r z=>by subst z;rw[r]at mu;exact mu
 have ntup:∀c xs,H c=some (.tup xs)->c≠x:=fun c xs r z=>by subst z;rw[r]at mu;exact mu
 by_cases hb:b=x
 ·subst hb;rw[au]at q;cases q;exact new
 ·rw[ax hb]at q
  by_cases hbe:b=e
  ·have q':H b=some (.own x):=by
    rcases he with z|z
    ·exact absurd (hbe.trans z) hb
    ·rw[hbe];exact z
   rw[q]at q';cases q'
   obtain⟨v,hv⟩:=heo
   exact⟨v,by rw[hbe];exact hv⟩
  ·refine(ok b u q).kf (fun c v hc r=>k c v ?_ r) (fun c r=>by rw[ax (nown c b r)];exact r) fun c xs r=>by rw[ax (ntup c xs r)];exact r
   rcases hc with rfl|hc
   ·exact hbe
   ·rintro rfl
    rcases he with z|z
    ·exact nown c b hc z
    ·rw[hc]at z;cases z;exact hb rfl
end
structure Un(fs ex:List Addr)(H H':Hp)(h h':Heap):Prop where
 keep:∀b o,h.get? b=some o->H b=none->b∉fs->b∉ex->h'.get? b=some o
 slot:∀b o,h.get? b=some o->H b=none->b∈fs->b∉ex->∃sl,h'.get? b=some {o with slots:=sl}
 free:∀b o,h.get? b=some o->H b=none->b∉ex->H' b=none
 there:∀b o,h.get? b=some o->b∉ex->∃o',h'.get? b=some o'
 k9:∀b xs,H b=some (.tup xs)->H' b=some (.tup xs)
 jF:∀b o u,H b=some (.cw o u)->H' b=some (.cw o u)
 k_:∀b ps,H b=some (.m8 ps)->∃more,H' b=some (.m8 (ps++more))
section
variable{fs fs' ex ex':List Addr}{H H1 H2:Hp}{h h1 h2 h':Heap}{a x e:Addr}{o:HO}
theorem Un.any(u:Un fs ex H H1 h h1){b:Addr}{ob:Obj}(q:h.get? b=some ob)(n:H b=none)(hx:b∉ex):∃sl,h1.get? b=some {ob with slots:=sl}:=by
 by_cases hb:b∈fs
 ·exact u.slot b ob q n hb hx
 ·exact⟨ob.slots,u.keep b ob q n hb hx⟩
theorem Un.kept(k:∀b u,h.get? b=some u->h'.get? b=some u):Un fs ex H H h h':=
 ⟨fun b ob q _ _ _=>k b ob q,fun b ob q _ _ _=>⟨ob.slots,k b ob q⟩,fun _ _ _ n _=>n,fun b ob q _=>⟨ob,k b ob q⟩,fun _ _ q=>q,fun _ _ _ q=>q,fun _ ps q=>⟨#[],by rw[q];simp⟩⟩
theorem Un.refl:Un fs ex H H h h:=Un.kept fun _ _ q=>q
theorem Un.laid(k:∀b u,h.get? b=some u->h'.get? b=some u)(hp:h.objs.size<=a)(hn:H a=none):Un fs ex H (upd H a o) h h' where
 keep:=fun b u q _ _ _=>k b u q
 slot:=fun b u q _ _ _=>⟨u.slots,k b u q⟩
 free:=fun b u q n _=>by rw[ax (gF (gE (Heap.lt_size q) hp))];exact n
 there:=fun b u q _=>⟨u,k b u q⟩
 k9:=fun b xs q=>by rw[ax (a7 q hn)];exact q
 jF:=fun b u xs q=>by rw[ax (a7 q hn)];exact q
 k_:=fun b ps q=>⟨#[],by rw[ax (a7 q hn),q];simp⟩
theorem Un.write(mu:m9 (H x))(he:e=x\/H e=some (.own x))(k:∀b u,b≠e->h.get? b=some u->h'.get? b=some u)(heo:∃u,h'.get? e=some u):Un fs ex H (upd H x o) h h':=by
 have hx:∀b,H b=none->b≠x:=fun b n z=>by subst z;rw[n]at mu;exact mu
 have hb:∀b,H b=none->b≠e:=fun b n z=>by
  subst z
  rcases he with r|r
  ·exact hx b n r
  ·rw[n]at r;cases r
 have hm:∀b u,H b=some u->¬m9 (some u)->b≠x:=fun b u q nm z=>by subst z;rw[q]at mu;exact nm mu
 refine⟨fun b u q n _ _=>k b u (hb b n) q,fun b u q n _ _=>⟨u.slots,k b u (hb b n) q⟩,fun b u q n _=>by rw[ax (hx b n)];exact n,fun b u q _=>?_,
  fun b xs q=>by rw[ax (hm b _ q fun z=>z)];exact q,fun b u xs q=>by rw[ax (hm b _ q fun z=>z)];exact q,fun b ps q=>⟨#[],by rw[ax (hm b _ q fun z=>z),q];simp⟩⟩
 by_cases hbe:b=e
 ·subst hbe;exact heo
 ·exact⟨u,k b u hbe q⟩
end
def uu(h:Heap)(H:Hp):List Addr:=(List.range h.objs.size).filter fun a=>(H a).isSome
def lg(h:Heap)(H:Hp):Heap:=PySem.W.hideAll h (uu h H)
theorem J1(h:Heap)(H:Hp):(lg h H).objs.size=h.objs.size:=PySem.W.hideAll_size _ _
theorem J2{h:Heap}{H:Hp}{b:Addr}{o:Obj}(e:h.get? b=some o)(n:H b=none):(lg h H).get? b=some o:=
 PySem.W.hideAll_get _ e fun hm=>by
  have q:(H b).isSome=true:=(iX.mp hm).2
  rw[n]at q;simp at q
theorem J3{h:Heap}{H:Hp}{b:Addr}{o:Obj}(e:(lg h H).get? b=some o):h.get? b=some o/\H b=none:=by
 have e':h.get? b=some o:=PySem.W.of_hideAll (uu h H) e
 refine⟨e',?_⟩
 cases q:H b with
 |none=>rfl
 |some x=>
  have hm:b∈uu h H:=iX.mpr ⟨a6.mpr (Heap.lt_size e'),by simp[q]⟩
  have z:(lg h H).get? b=none:=PySem.W.hideAll_none (uu h H) hm
  rw[z]at e;cases e
end L2
namespace L2
open PySem PySem.Spec PyProof.Rows
structure Mod(K:PySem.W.Frag)(mg:Str->Option Value)(base:Heap):Prop where
 ph:K.In base
 glob:base.Ns mainGlobals mg
 blt:∃mb,base.Ns builtinsNs mb/\∀x:Str,x≠"__name__"->mb x=bootBuiltins x
 nolimit:base.NoLimit
structure Cx where
 prog:Program
 w:World
 K:PySem.W.Frag
 mg:Str->Option Value
 base:Heap
 A:Around
 N:List Str
 eI:Shared
 m_:Hp
 env:Env
 outer:List Env
 stack:List Env
 ex:List Addr
 fn:Str->Bool
 calm:Bool
 pn:List (Addr×Obj)
 xe:Value->Shared->Prop
def jG(l:List Env):List Addr:=l.filterMap (·.frame)
abbrev Cx.fs(X:Cx):List Addr:=jG X.outer
def pj(sc:Scope)(x:Str):Prop:=sc.names.lookup x=some .local\/sc.names.lookup x=some .cell\/sc.names.lookup x=some .free
def Loc(sc:Scope)(x:Str):Prop:=sc.names.lookup x=some .local\/sc.names.lookup x=some .cell
def Look(env:Env)(h:Heap)(m:Str->Option Value)(x:Str)(u:Value):Prop:=
 (env.kindOf x=some .local/\m x=some u)\/((env.kindOf x=some .cell\/env.kindOf x=some .free)/\∃c,env.cells.lookup x=some c/\h.IsCell c (some u))
structure Cx.Ok(X:Cx):Prop where
 mod:Mod X.K X.mg X.base
 kind:X.env.scope.kind=.function
 glob:X.env.globals=mainGlobals
 blt:X.env.builtins=builtinsNs
 above:X.eI.heap.objs.size<=X.env.locals
 inj:∀x y c,X.env.cells.lookup x=some c->X.env.cells.lookup y=some c->x=y
 has:∀x,(X.env.kindOf x=some .cell\/X.env.kindOf x=some .free)->∃c,X.env.cells.lookup x=some c
 rf:∀x c,X.fn x=true->X.env.cells.lookup x=some c->X.eI.heap.objs.size<=c
 hd:X.calm=true->X.A.handled=none
 frames:X.A.frames=some X.stack
 uw:X.stack=X.outer\/(X.stack=X.env::X.outer/\X.env.frame=some X.env.locals)
 ux:∀b∈X.ex,b≠X.env.locals/\∀x c,X.env.cells.lookup x=some c->c≠b
 bs:∀b o,X.base.get? b=some o->X.eI.heap.get? b=some o/\X.m_ b=none
 lh:X.base.objs.size<=X.eI.heap.objs.size
 rg:∀b o,X.base.get? b=some o->b∉X.ex
 rh:∀b∈X.ex,b∉X.fs
 i6:X.eI.heap.FunFrames X.base X.outer
 ng:∀b∈X.fs,X.m_ b=none
structure Inv(X:Cx)(pins:List (Addr×Obj))(σ:List (Option V))(H:Hp)(s:Shared):Prop where
 ok:X.Ok
 os:s.os=X.eI.os
 bare:AllBare s.gens
 base:Un X.fs X.ex X.m_ H X.eI.heap s.heap
 loc:∃m,s.heap.Ns X.env.locals m/\∀(i:Nat) (x:Str) (v:V),X.N[i]?=some x->σ[i]?=some (some v)->pj X.env.scope x->∃u,RelV v u/\Look X.env s.heap m x u
 cell:∀x c,X.env.cells.lookup x=some c->∃v,s.heap.IsCell c v
 free:H X.env.locals=none
 iC:∀x c,X.env.cells.lookup x=some c->H c=none
 pin:∀p∈X.pn++pins,s.heap.get? p.1=some p.2/\H p.1=none/\p.1≠X.env.locals/\p.1∉X.fs/\∀v,p.2.data≠.cell v
 aP:cS X.prog X.w H s.heap
 len:σ.length=X.N.length
section
variable{X:Cx}{pins:List (Addr×Obj)}{σ:List (Option V)}{H H':Hp}{s:Shared}{h':Heap}
theorem Cx.Ok.J4(ok:X.Ok){b:Addr}{o:Obj}(e:X.base.get? b=some o):b∉X.fs:=fun hb=>by
 have:=(ok.i6.mem hb).1
 rw[e]at this;cases this
theorem Inv.bs(I:Inv X pins σ H s):∀b o,X.base.get? b=some o->s.heap.get? b=some o/\H b=none:=fun b o e=>
 ⟨I.base.keep b o (I.ok.bs b o e).1 (I.ok.bs b o e).2 (I.ok.J4 e) (I.ok.rg b o e),I.base.free b o (I.ok.bs b o e).1 (I.ok.bs b o e).2 (I.ok.rg b o e)⟩
theorem Inv.bk(I:Inv X pins σ H s):∀b o,X.base.get? b=some o->s.heap.get? b=some o:=fun b o e=>(I.bs b o e).1
theorem Inv.mod(I:Inv X pins σ H s):Mod X.K X.mg X.base:=I.ok.mod
theorem Inv.fV(I:Inv X pins σ H s):X.K.In s.heap:=I.ok.mod.ph.keeps I.bk
theorem Inv.lt(I:Inv X pins σ H s):X.env.locals<s.heap.objs.size:=let ⟨_,hn,_⟩:=I.loc;hn.lt
theorem Inv.sz(I:Inv X pins σ H s):X.eI.heap.objs.size<=s.heap.objs.size:=cz I.ok.above (Nat.le_of_lt I.lt)
theorem Inv.J5(I:Inv X pins σ H s){a:Addr}(h:s.heap.objs.size<=a):a∉X.fs:=fun hb=>by
 obtain⟨_,o,ho,_⟩:=I.ok.i6.mem hb
 exact absurd (gE (Heap.lt_size ho) (cz I.sz h)) (iW _)
theorem Inv.ni(I:Inv X pins σ H s):∀x c,X.env.cells.lookup x=some c->c≠X.env.locals:=fun x c e z=>by
 obtain⟨v,o,ho,hd⟩:=I.cell x c e
 obtain⟨m,⟨o',es,ep,ho',hd',_⟩,_⟩:=I.loc
 rw[z,ho']at ho;cases ho;rw[hd']at hd;cases hd
theorem Inv.i6(I:Inv X pins σ H s):s.heap.FunFrames X.base X.outer:=by
 have all:∀(l:List Env),(∀b∈jG l,b∈X.fs)->X.eI.heap.FunFrames X.base l->s.heap.FunFrames X.base l:=by
  intro l
  induction l with
  |nil=>intro _ _;trivial
  |cons env r ih=>
   intro hs hl
   obtain⟨hk,⟨L,o,hf,hn,ho,hd⟩,hr⟩:=hl
   have hL:L∈X.fs:=hs L (by unfold jG;rw[List.filterMap_cons,hf];exact bE)
   obtain⟨sl,e⟩:=I.base.slot L o ho (I.ok.ng L hL) hL fun z=>I.ok.rh L z hL
   exact⟨hk,⟨L,_,hf,hn,e,hd⟩,ih (fun b hb=>hs b (by unfold jG;rw[List.filterMap_cons,hf];exact bH _ hb)) hr⟩
 exact all X.outer (fun _ hb=>hb) I.ok.i6
theorem Inv.stack(I:Inv X pins σ H s):s.heap.FunFrames X.base X.stack:=by
 rcases I.ok.uw with e|⟨e,hf⟩
 ·rw[e];exact I.i6
 ·rw[e]
  obtain⟨m,hn,_⟩:=I.loc
  refine .cons (by rw[I.ok.kind];decide) hf hn ?_ I.i6
  exact Heap.get?_none_of_le (cz I.ok.lh I.ok.above)
theorem Inv.xp(I:Inv X pins σ H s):∀b∈jG X.stack,b∈X.env.locals::X.fs:=fun b hb=>by
 rcases I.ok.uw with e|⟨e,hf⟩
 ·rw[e]at hb;exact bH _ hb
 ·rw[e]at hb
  unfold jG at hb
  rw[List.filterMap_cons,hf]at hb
  exact hb
theorem Inv.CN(I:Inv X pins σ H s):∀b∈jG X.stack,H b=none:=fun b hb=>by
 rcases cj.mp (I.xp b hb) with e|hb
 ·rw[e];exact I.free
 ·obtain⟨_,o,ho,_⟩:=I.ok.i6.mem hb
  exact I.base.free b o ho (I.ok.ng b hb) fun z=>I.ok.rh b z hb
theorem Inv.step{g':Array GenState}{t':Nat}{d':Drawn}{ch:List Addr}(I:Inv X pins σ H s)
  (hch:∀b∈ch,(b∈X.ex\/X.eI.heap.objs.size<=b)/\b≠X.env.locals/\(∀x c,X.env.cells.lookup x=some c->c≠b)/\∀p∈X.pn++pins,p.1≠b)
  (keep:∀b o,b≠X.env.locals->b∉X.fs->b∉ch->s.heap.get? b=some o->H b=none->h'.get? b=some o)
  (slot:∀b o,b≠X.env.locals->b∈X.fs->b∉ch->s.heap.get? b=some o->H b=none->∃sl,h'.get? b=some {o with slots:=sl})(free:∀b o,b∉ch->s.heap.get? b=some o->H b=none->H' b=none)
  (there:∀b o,b∉ch->s.heap.get? b=some o->∃o',h'.get? b=some o')
  (k9:∀b xs,H b=some (.tup xs)->H' b=some (.tup xs))(jF:∀b o u,H b=some (.cw o u)->H' b=some (.cw o u))(k_:∀b ps,H b=some (.m8 ps)->∃more,H' b=some (.m8 (ps++more)))
  (ns:∀m,s.heap.Ns X.env.locals m->h'.Ns X.env.locals m)(aP:cS X.prog X.w H' h')(hg:AllBare g'):
  Inv X pins σ H' {s with heap:=h',gens:=g',drawn:=d',toks:=t'}:=by
 have neL:∀b o,X.eI.heap.get? b=some o->b≠X.env.locals:=fun b o e=>gF (gE (Heap.lt_size e) I.ok.above)
 have neC:∀b o,X.eI.heap.get? b=some o->b∉X.ex->b∉ch:=fun b o e hx hb=>by
  rcases(hch b hb).1 with z|z
  ·exact hx z
  ·exact absurd (gE (Heap.lt_size e) z) (iW _)
 have cellK:∀x c,X.env.cells.lookup x=some c->∀v,s.heap.IsCell c v->h'.IsCell c v:=fun x c e v ⟨o,ho,hd⟩=>by
  have nch:c∉ch:=fun z=>(hch c z).2.2.1 x c e rfl
  by_cases hc:c∈X.fs
  ·obtain⟨sl,q⟩:=slot c o (I.ni x c e) hc nch ho (I.iC x c e)
   exact⟨_,q,hd⟩
  ·exact⟨o,keep c o (I.ni x c e) hc nch ho (I.iC x c e),hd⟩
 refine⟨I.ok,I.os,hg,⟨fun b o e n hb hx=>?_,fun b o e n hb hx=>?_,fun b o e n hx=>?_,fun b o e hx=>?_,fun b xs e=>k9 b xs (I.base.k9 b xs e),fun b o xs e=>jF b o xs (I.base.jF b o xs e),fun b ps e=>?_⟩,?_,fun x c e=>?_,?_,fun x c e=>?_,fun p hp=>?_,aP,I.len⟩
 ·exact keep b o (neL b o e) hb (neC b o e hx) (I.base.keep b o e n hb hx) (I.base.free b o e n hx)
 ·obtain⟨sl,e1⟩:=I.base.slot b o e n hb hx
  obtain⟨sl',e2⟩:=slot b _ (neL b o e) hb (neC b o e hx) e1 (I.base.free b o e n hx)
  exact⟨sl',e2⟩
 ·obtain⟨o',e1⟩:=I.base.there b o e hx
  exact free b o' (neC b o e hx) e1 (I.base.free b o e n hx)
 ·obtain⟨o',e1⟩:=I.base.there b o e hx
  exact there b o' (neC b o e hx) e1
 ·obtain⟨m1,e1⟩:=I.base.k_ b ps e
  obtain⟨m2,e2⟩:=k_ b _ e1
  exact⟨m1++m2,by rw[e2,Array.append_assoc]⟩
 ·obtain⟨m,hn,hl⟩:=I.loc
  refine⟨m,ns m hn,fun i x v e1 e2 e3=>?_⟩
  obtain⟨u,r,l⟩:=hl i x v e1 e2 e3
  refine⟨u,r,?_⟩
  rcases l with l|⟨k,c,e,z⟩
  ·exact .inl l
  ·exact .inr ⟨k,c,e,cellK x c e _ z⟩
 ·obtain⟨v,z⟩:=I.cell x c e
  exact⟨v,cellK x c e v z⟩
 ·obtain⟨m,⟨o,_,_,ho,_⟩,_⟩:=I.loc
  exact free _ o (fun z=>(hch _ z).2.1 rfl) ho I.free
 ·obtain⟨v,o,ho,hd⟩:=I.cell x c e
  exact free c o (fun z=>(hch c z).2.2.1 x c e rfl) ho (I.iC x c e)
 ·obtain⟨e,n,ne,nf,d⟩:=I.pin p hp
  have nch:p.1∉ch:=fun z=>(hch p.1 z).2.2.2 p hp rfl
  exact⟨keep p.1 p.2 ne nf nch e n,free p.1 p.2 nch e n,ne,nf,d⟩
theorem Inv.un{t':Nat}(I:Inv X pins σ H s)(u:Un X.fs [] H H' s.heap h')(aP:cS X.prog X.w H' h'):Inv X pins σ H' {s with heap:=h',toks:=t'}:=by
 obtain⟨m,⟨o,es,ep,ho,r⟩,_⟩:=id I.loc
 obtain⟨sl,hL⟩:=u.any ho I.free (by simp)
 exact I.step (g':=s.gens) (d':=s.drawn) (ch:=[]) (fun _ z=>nomatch z) (fun b o _ hb _ e n=>u.keep b o e n hb (by simp)) (fun b o _ hb _ e n=>u.slot b o e n hb (by simp)) (fun b o _ e n=>u.free b o e n (by simp)) (fun b o _ e=>u.there b o e (by simp)) u.k9 u.jF u.k_ (fun m' hm=>by
  obtain⟨o',es',ep',ho',r'⟩:=hm
  rw[ho]at ho';cases ho'
  exact⟨_,es',ep',hL,r'⟩) aP I.bare
theorem Inv.call{g':Array GenState}{t':Nat}{d':Drawn}{ch:List Addr}(I:Inv X pins σ H s)(u:Un (jG X.stack) ch H H' s.heap h')(aP:cS X.prog X.w H' h')(hg:AllBare g')
  (hch:∀b∈ch,(b∈X.ex\/X.eI.heap.objs.size<=b)/\b≠X.env.locals/\(∀x c,X.env.cells.lookup x=some c->c≠b)/\∀p∈X.pn++pins,p.1≠b):
  Inv X pins σ H' {s with heap:=h',gens:=g',drawn:=d',toks:=t'}:=by
 obtain⟨m,⟨o,es,ep,ho,r⟩,_⟩:=id I.loc
 obtain⟨sl,hL⟩:=u.any ho I.free fun z=>(hch _ z).2.1 rfl
 exact I.step (ch:=ch) hch (fun b o hL hb hc e n=>u.keep b o e n (fun z=>(cj.mp (I.xp b z)).elim hL hb) hc) (fun b o _ _ hc e n=>u.any e n hc) (fun b o hc e n=>u.free b o e n hc) (fun b o hc e=>u.there b o e hc) u.k9 u.jF u.k_ (fun m' hm=>by
  obtain⟨o',es',ep',ho',r'⟩:=hm
  rw[ho]at ho';cases ho'
  exact⟨_,es',ep',hL,r'⟩) aP hg
theorem Inv.turned{t':Nat}{it:Addr}(I:Inv X pins σ H s)(k:∀b o,b≠it->s.heap.get? b=some o->h'.get? b=some o)(hn:H it=none)(hL:it≠X.env.locals)
  (h1:it∈X.ex\/X.eI.heap.objs.size<=it)(h2:∀x c,X.env.cells.lookup x=some c->c≠it)(h3:∀p∈X.pn++pins,p.1≠it):Inv X pins σ H {s with heap:=h',toks:=t'}:=by
 have nit:∀b u,H b=some u->b≠it:=fun b u e z=>by rw[z,hn]at e;cases e
 refine I.step (g':=s.gens) (d':=s.drawn) (ch:=[it]) (fun b hb=>?_) (fun b o _ _ hc e _=>k b o (fun z=>hc (by simp[z])) e) (fun b o _ _ hc e _=>⟨o.slots,k b o (fun z=>hc (by simp[z])) e⟩) (fun _ _ _ _ n=>n)
  (fun b o hc e=>⟨o,k b o (fun z=>hc (by simp[z])) e⟩) (fun _ _ e=>e) (fun _ _ _ e=>e) (fun b ps e=>⟨#[],by rw[e];simp⟩) (fun m hm=>?_) (fun b u e=>?_) I.bare
 ·have e:b=it:=by simpa using hb
  subst e
  exact⟨h1,hL,h2,h3⟩
 ·obtain⟨o,es,ep,ho,r⟩:=hm
  exact⟨o,es,ep,k _ o (Ne.symm hL) ho,r⟩
 ·refine(I.aP b u e).kf (fun c v hc q=>k c v ?_ q) (fun _ q=>q) fun _ _ q=>q
  rcases hc with z|z
  ·rw[z];exact nit b u e
  ·exact nit c _ z
theorem Inv.tok(I:Inv X pins σ H s)(t:Nat):Inv X pins σ H {s with toks:=t}:=I.un (h':=s.heap) (t':=t) Un.refl I.aP
theorem Inv.kept{t':Nat}(I:Inv X pins σ H s)(k:∀b u,s.heap.get? b=some u->h'.get? b=some u):Inv X pins σ H {s with heap:=h',toks:=t'}:=I.un (Un.kept k) (I.aP.kept k)
theorem Inv.laid{a:Addr}{o:HO}{t':Nat}(I:Inv X pins σ H s)(k:∀b u,s.heap.get? b=some u->h'.get? b=some u)(hp:s.heap.objs.size<=a)(new:eE X.prog X.w (upd H a o) h' a o):
  Inv X pins σ (upd H a o) {s with heap:=h',toks:=t'}:=I.un (Un.laid k hp (I.aP.fresh hp)) (I.aP.laid k hp new)
theorem Inv.write{x e:Addr}{o:HO}{t':Nat}(I:Inv X pins σ H s)(mu:m9 (H x))(he:e=x\/H e=some (.own x))(k:∀b u,b≠e->s.heap.get? b=some u->h'.get? b=some u)(heo:∃u,h'.get? e=some u)
  (new:eE X.prog X.w (upd H x o) h' x o):Inv X pins σ (upd H x o) {s with heap:=h',toks:=t'}:=I.un (Un.write mu he k heo) (I.aP.write mu he k heo new)
theorem Inv.weak{σ':List (Option V)}(I:Inv X pins σ H s)(hl:σ'.length=σ.length)(w:∀(i:Nat) v,σ'[i]?=some (some v)->σ[i]?=some (some v)):Inv X pins σ' H s:=
 ⟨I.ok,I.os,I.bare,I.base,let ⟨m,hn,hl'⟩:=I.loc;⟨m,hn,fun i x v e1 e2 e3=>hl' i x v e1 (w i v e2) e3⟩,I.cell,I.free,I.iC,I.pin,I.aP,hl.trans I.len⟩
theorem Inv.CO{pins':List (Addr×Obj)}(I:Inv X pins σ H s)(h:∀p∈pins',s.heap.get? p.1=some p.2/\H p.1=none/\p.1≠X.env.locals/\p.1∉X.fs/\∀v,p.2.data≠.cell v):Inv X pins' σ H s:=
 ⟨I.ok,I.os,I.bare,I.base,I.loc,I.cell,I.free,I.iC,fun p hp=>(dO.mp hp).elim (fun z=>I.pin p (jB _ z)) (h p),I.aP,I.len⟩
theorem xt{N:List Str}(hN:N.Nodup){i j:Nat}{x:Str}(a:N[i]?=some x)(b:N[j]?=some x):i=j:=by
 obtain⟨h1,e1⟩:=dP.mp a
 obtain⟨h2,e2⟩:=dP.mp b
 exact(List.getElem_inj hN).mp (e1.trans e2.symm)
theorem CP{M:Model}{A:Around}{E:Value->Shared->Prop}{i:Nat}{x:Str}{v:V}{u:Value}{Q:Unit->Shared->Prop}(I:Inv X pins σ H s)(hN:X.N.Nodup)(hi:X.N[i]?=some x)(hx:Loc X.env.scope x)(r:RelV v u)
  (h:∀s',Inv X pins (σ.set i (some v)) H s'->(∃a,Heap.SameBut a s.heap s'.heap/\(a=X.env.locals\/X.env.cells.lookup x=some a))->Q () s')(hf:X.fn x=true\/X.env.scope.names.lookup x=some .local:=by first|exact .inl rfl|exact .inr rfl|assumption):wpAny M A (storeName X.env x u) Q E s:=by
 obtain⟨m,hn,hl⟩:=id I.loc
 have hcls:(X.env.scope.kind == .class||(X.env.scope.kind == .module&&X.env.locals != X.env.globals))=false:=by rw[I.ok.kind];rfl
 have hiσ:i<σ.length:=by rw[I.len];exact(dP.mp hi).1
 have ni:=I.ni
 have tracked:∀{a:Addr}{h':Heap},(∃o,s.heap.get? a=some o/\H a=none)->Heap.SameBut a s.heap h'->cS X.prog X.w H h':=fun {a h'} ha hs b ob e=>by
  obtain⟨_,_,hfree⟩:=ha
  refine(I.aP b ob e).kf (fun c w' hc q=>(hs.2 c ?_).trans q) (fun _ q=>q) fun _ _ q=>q
  rintro rfl
  rcases hc with rfl|hc
  ·rw[hfree]at e;cases e
  ·rw[hfree]at hc;cases hc
 rcases hx with hk|hk
 ·refine wpAny_storeName_local hk hn (fun h' hn' hs=>?_) hcls
  obtain⟨oL,_,_,hoL,_⟩:=id hn
  refine h _ ⟨I.ok,I.os,I.bare,⟨fun b o e n hb hx=>?_,fun b o e n hb hx=>?_,I.base.free,fun b o e hx=>?_,I.base.k9,I.base.jF,I.base.k_⟩,⟨_,hn',fun j y v' e1 e2 e3=>?_⟩,fun y c e=>?_,I.free,I.iC,fun p hp=>?_,tracked ⟨oL,hoL,I.free⟩ hs,by simpa using I.len⟩ ⟨_,hs,.inl rfl⟩
  ·exact(hs.2 b (gF (gE (Heap.lt_size e) I.ok.above))).trans (I.base.keep b o e n hb hx)
  ·obtain⟨sl,e1⟩:=I.base.slot b o e n hb hx
   exact⟨sl,(hs.2 b (gF (gE (Heap.lt_size e) I.ok.above))).trans e1⟩
  ·obtain⟨o',e1⟩:=I.base.there b o e hx
   exact⟨o',(hs.2 b (gF (gE (Heap.lt_size e) I.ok.above))).trans e1⟩
  ·by_cases hj:j=i
   ·subst hj
    rw[hi]at e1;cases e1
    rw[List.getElem?_set_self hiσ]at e2
    cases e2
    exact⟨u,r,.inl ⟨hk,by simp⟩⟩
   ·rw[List.getElem?_set_ne (Ne.symm hj)]at e2
    obtain⟨u',r',q⟩:=hl j y v' e1 e2 e3
    refine⟨u',r',?_⟩
    rcases q with ⟨k,e⟩|⟨k,c,e,z⟩
    ·refine .inl ⟨k,?_⟩
     have:y≠x:=fun e=>hj (xt hN e1 (e ▸ hi))
     simp[this,e]
    ·exact .inr ⟨k,c,e,z.sameBut hs (ni y c e)⟩
  ·obtain⟨w',z⟩:=I.cell y c e
   exact⟨w',z.sameBut hs (ni y c e)⟩
  ·obtain⟨e,n,ne,nf,d⟩:=I.pin p hp
   exact⟨(hs.2 p.1 ne).trans e,n,ne,nf,d⟩
 ·have hfn:X.fn x=true:=by
   rcases hf with z|z
   ·exact z
   ·rw[z]at hk;cases hk
  obtain⟨c,hc⟩:=I.ok.has x (.inl hk)
  obtain⟨w',z⟩:=I.cell x c hc
  refine wpAny_storeName_cell I.ok.kind hk hc z (fun h' hc' hs=>?_)
  obtain⟨oc,hoc,hocd⟩:=id z
  refine h {s with heap:=h'} ⟨I.ok,I.os,I.bare,⟨fun b o e n hb hx=>?_,fun b o e n hb hx=>?_,I.base.free,fun b o e hx=>?_,I.base.k9,I.base.jF,I.base.k_⟩,⟨m,hn.sameBut hs (Ne.symm (ni x c hc)),fun j y v' e1 e2 e3=>?_⟩,fun y c' e=>?_,I.free,I.iC,fun p hp=>?_,tracked ⟨oc,hoc,I.iC x c hc⟩ hs,by simpa using I.len⟩ ⟨c,hs,.inr hc⟩
  ·exact(hs.2 b (gF (gE (Heap.lt_size e) (I.ok.rf x c hfn hc)))).trans (I.base.keep b o e n hb hx)
  ·obtain⟨sl,e1⟩:=I.base.slot b o e n hb hx
   exact⟨sl,(hs.2 b (gF (gE (Heap.lt_size e) (I.ok.rf x c hfn hc)))).trans e1⟩
  ·obtain⟨o',e1⟩:=I.base.there b o e hx
   exact⟨o',(hs.2 b (gF (gE (Heap.lt_size e) (I.ok.rf x c hfn hc)))).trans e1⟩
  ·by_cases hj:j=i
   ·subst hj
    rw[hi]at e1;cases e1
    rw[List.getElem?_set_self hiσ]at e2
    cases e2
    exact⟨u,r,.inr ⟨.inl hk,c,hc,hc'⟩⟩
   ·rw[List.getElem?_set_ne (Ne.symm hj)]at e2
    obtain⟨u',r',q⟩:=hl j y v' e1 e2 e3
    refine⟨u',r',?_⟩
    rcases q with q|⟨k,c',e,z'⟩
    ·exact .inl q
    ·refine .inr ⟨k,c',e,z'.sameBut hs ?_⟩
     rintro rfl
     exact hj (xt hN e1 (I.ok.inj _ _ _ e hc ▸ hi))
  ·by_cases hcc:c'=c
   ·subst hcc;exact⟨_,hc'⟩
   ·obtain⟨w2,z2⟩:=I.cell y c' e
    exact⟨w2,z2.sameBut hs hcc⟩
  ·obtain⟨e,n,ne,nf,d⟩:=I.pin p hp
   refine⟨(hs.2 p.1 ?_).trans e,n,ne,nf,d⟩
   intro q
   rw[q,hoc]at e
   have q':oc=p.2:=bo e
   exact d w' (by rw[<-q'];exact hocd)
theorem CQ{M:Model}{A:Around}{E:Value->Shared->Prop}{i:Nat}{x:Str}{v:V}{u:Value}{Q:Unit->Shared->Prop}(I:Inv X pins σ H s)(hN:X.N.Nodup)(hi:X.N[i]?=some x)(hx:Loc X.env.scope x)(r:RelV v u)
  (h:∀s',Inv X pins (σ.set i (some v)) H s'->Q () s')(hf:X.fn x=true\/X.env.scope.names.lookup x=some .local:=by first|exact .inl rfl|exact .inr rfl|assumption):wpAny M A (storeName X.env x u) Q E s:=
 CP I hN hi hx r (fun s' I' _=>h s' I') hf
theorem Inv.J6{s':Shared}{ch:List Addr}(I:Inv X pins σ H s)(ho:s'.os=s.os)(u:Un (jG X.stack) ch H H' s.heap s'.heap)(aP:cS X.prog X.w H' s'.heap)(hg:AllBare s'.gens)
  (hch:∀b∈ch,(b∈X.ex\/X.eI.heap.objs.size<=b)/\b≠X.env.locals/\(∀x c,X.env.cells.lookup x=some c->c≠b)/\∀p∈X.pn++pins,p.1≠b):Inv X pins σ H' s':=by
 obtain⟨h',g',d',t',o'⟩:=s'
 have e:o'=s.os:=ho
 subst e
 exact I.call (g':=g') (t':=t') (d':=d') u aP hg hch
end
abbrev XK:=Value->Option Addr->Hp->Prop
abbrev St:=List (Option V)
abbrev VK:=V->Hp->Prop
abbrev TE:=St->Hp->VK->Prop
abbrev TT:=St->Hp->(Bool->Hp->Prop)->Prop
abbrev TA:=St->Hp->(List V->Hp->Prop)->Prop
structure Ends where
 nx:St->Hp->Prop
 rt:VK
 bk:St->Hp->Prop:=fun _ _=>False
 ct:St->Hp->Prop:=fun _ _=>False
abbrev TS:=Ends->St->Hp->Prop
def EP(X:Cx)(pins:List (Addr×Obj))(σ:St)(Q:VK)(u:Value)(s':Shared):Prop:=∃v H',Inv X pins σ H' s'/\RelV v u/\Q v H'
def TP(X:Cx)(pins:List (Addr×Obj))(σ:St)(Q:Bool->Hp->Prop)(b:Bool)(s':Shared):Prop:=∃H',Inv X pins σ H' s'/\Q b H'
def AP(X:Cx)(pins:List (Addr×Obj))(σ:St)(Q:List V->Hp->Prop)(us:List Value)(s':Shared):Prop:=∃vs H',Inv X pins σ H' s'/\aK vs us/\Q vs H'
def SP(X:Cx)(pins:List (Addr×Obj))(D:Ends)(f:Flow)(s':Shared):Prop:=
 match f with
 |.next=>∃σ' H',Inv X pins σ' H' s'/\D.nx σ' H'
 |.brk=>∃σ' H',Inv X pins σ' H' s'/\D.bk σ' H'
 |.cont=>∃σ' H',Inv X pins σ' H' s'/\D.ct σ' H'
 |.ret u=>∃v σ' H',Inv X pins σ' H' s'/\RelV v u/\D.rt v H'
def PE(X:Cx)(e:Expr)(t:TE):Prop:=
 ∀(pins:List (Addr×Obj)) (s:Shared) (σ:St) (H:Hp) (Q:VK),Inv X pins σ H s->t σ H Q->wpAny (model X.prog X.w) X.A (eval e X.env) (EP X pins σ Q) X.xe s
def PT(X:Cx)(e:Expr)(t:TT):Prop:=
 ∀(pins:List (Addr×Obj)) (s:Shared) (σ:St) (H:Hp) (Q:Bool->Hp->Prop),Inv X pins σ H s->t σ H Q->wpAny (model X.prog X.w) X.A (isTrue e X.env (eval e X.env)) (TP X pins σ Q) X.xe s
def PW(X:Cx)(e:Expr)(t:TT):Prop:=
 ∀(whole:Sem Value) (pins:List (Addr×Obj)) (s:Shared) (σ:St) (H:Hp) (Q:Bool->Hp->Prop),Inv X pins σ H s->t σ H Q->wpAny (model X.prog X.w) X.A (isTrue e X.env whole) (TP X pins σ Q) X.xe s
theorem PW.pt{X:Cx}{e:Expr}{t:TT}(h:PW X e t):PT X e t:=h _
def PA(X:Cx)(es:List Expr)(t:TA):Prop:=
 ∀(pos:Pos) (pins:List (Addr×Obj)) (s:Shared) (σ:St) (H:Hp) (Q:List V->Hp->Prop),Inv X pins σ H s->t σ H Q->wpAny (model X.prog X.w) X.A (spliced (backTo pos (starEach es X.env))) (AP X pins σ Q) X.xe s
def PS(X:Cx)(st:Stmt)(t:TS):Prop:=
 ∀(pins:List (Addr×Obj)) (s:Shared) (σ:St) (H:Hp) (D:Ends),Inv X pins σ H s->t D σ H->wpAny (model X.prog X.w) X.A (exec st X.env) (SP X pins D) X.xe s
def iD(X:Cx)(st:List Stmt)(t:TS):Prop:=
 ∀(pins:List (Addr×Obj)) (s:Shared) (σ:St) (H:Hp) (D:Ends),Inv X pins σ H s->t D σ H->wpAny (model X.prog X.w) X.A (execs st X.env) (SP X pins D) X.xe s
theorem aU{α:Type}{t:Sem α}{Q Q':α->Shared->Prop}{M:Model}{A:Around}{E:Value->Shared->Prop}{s:Shared}(h:wpAny M A t Q E s)(hQ:∀a s,Q a s->Q' a s):wpAny M A t Q' E s:=wpAny_mono h hQ fun _ _ x=>x
end L2
namespace L2
open PySem PySem.Spec PyProof.Rows
section
variable{X:Cx}
def cK(i:Nat):TE:=fun σ H Q=>∃v,σ[i]?=some (some v)/\Q v H
def tC(v:V):TE:=fun _ H Q=>Q v H
theorem CS{i:Nat}{x:Str}{pos:Pos}(hN:X.N[i]?=some x)(hv:pj X.env.scope x)(hd:(x == ("__debug__":Str))=false:=by decide)(hcd:(x == ("__classdict__":Str))=false:=by decide):PE X (.Name x pos) (cK i):=by
 intro pins s σ H Q I h
 obtain⟨v,e,h⟩:=h
 obtain⟨m,hn,hl⟩:=I.loc
 obtain⟨u,r,l⟩:=hl i x v hN e hv
 have fin:EP X pins σ Q u s:=⟨v,H,I,r,h⟩
 rcases l with ⟨hk,hm⟩|⟨hk,c,hc,hcell⟩
 ·exact wpAny_Name (wpAny_loadName_local I.ok.kind hk hn hm fin) hd
 ·rcases hk with hk|hk
  ·exact wpAny_Name (wpAny_loadName_cell I.ok.kind hk hc hcell fin) hd
  ·exact wpAny_Name (wpAny_loadName_free I.ok.kind hk hc hcell fin hcd) hd
theorem aq{i j pos}:PE X (.Constant (.int i) j pos) (tC (.int i)):=fun _ _ _ H _ I h=>wpAny_Constant_int ⟨.int i,H,I.tok _,⟨_,rfl⟩,h⟩
theorem kg{b j pos}:PE X (.Constant (.bool b) j pos) (tC (.bl b)):=fun _ _ _ H _ I h=>Constant_bool ⟨.bl b,H,I,rfl,h⟩
theorem i7{j pos}:PE X (.Constant .none j pos) (tC .aW):=fun _ _ _ H _ I h=>Constant_none ⟨.aW,H,I,rfl,h⟩
def Gl(X:Cx)(x:Str):Prop:=X.env.kindOf x=some .globalImplicit
theorem rk{E:Value->Shared->Prop}{pins:List (Addr×Obj)}{s:Shared}{σ:St}{H:Hp}{x:Str}{u:Value}{pos:Pos}{Q:Value->Shared->Prop}(I:Inv X pins σ H s)(hg:Gl X x)(hm:X.mg x=some u)(h:Q u s)
  (hd:(x == ("__debug__":Str))=false:=by decide):wpAny (model X.prog X.w) X.A (eval (.Name x pos) X.env) Q E s:=
 Calls.Name_function_global I.ok.kind hg (Calls.loadGlobal_global (by rw[I.ok.glob];exact I.mod.glob.keeps I.bk) hm h) hd
theorem kh{E:Value->Shared->Prop}{pins:List (Addr×Obj)}{s:Shared}{σ:St}{H:Hp}{x:Str}{u:Value}{pos:Pos}{Q:Value->Shared->Prop}(I:Inv X pins σ H s)(hg:Gl X x)(hm:X.mg x=none)(hv:bootBuiltins x=some u)(h:Q u s)
  (hn:x≠"__name__":=by decide)(hd:(x == ("__debug__":Str))=false:=by decide):wpAny (model X.prog X.w) X.A (eval (.Name x pos) X.env) Q E s:=by
 obtain⟨mb,h1,h2⟩:=I.mod.blt
 exact Calls.Name_function_global I.ok.kind hg (Calls.loadGlobal_builtin (by rw[I.ok.glob];exact I.mod.glob.keeps I.bk) hm (by rw[I.ok.blt];exact h1.keeps I.bk) ((h2 x hn).trans hv) h) hd
theorem J7{x:Str}{v:V}{u:Value}{pos:Pos}(hg:Gl X x)(hm:X.mg x=some u)(r:RelV v u)(hd:(x == ("__debug__":Str))=false:=by decide):PE X (.Name x pos) (tC v):=
 fun _ _ _ H _ I h=>rk I hg hm ⟨v,H,I,r,h⟩ hd
variable{a b:Expr}{ta tb:TE}{pos:Pos}
def tB(t:TE):TT:=fun σ H Q=>t σ H fun x H1=>∃c,x=.bl c/\Q c H1
theorem cq{e:Expr}{t:TE}(h:PE X e t)(he:∀whole,isTrue e X.env whole=(do let v <-whole;standAt e.pos;holding [v] (truthy v)):=by intro _;rfl):PT X e (tB t):=by
 intro pins s σ H Q I hw
 refine isTrue_plain (aU (h pins s σ H _ I hw) fun v s1 ⟨x,H1,I1,r1,q1⟩=>?_) (he _)
 obtain⟨d,rfl,q⟩:=q1
 cases r1
 exact wpAny_truthy_bool ⟨H1,I1,q⟩
variable{tA tB':TT}{rest:List Expr}
def CT(t u:TT):TT:=fun σ H Q=>t σ H fun c H1=>if c=true then u σ H1 Q else Q false H1
def CU(t u:TT):TT:=fun σ H Q=>t σ H fun c H1=>if c=true then Q true H1 else u σ H1 Q
def uy(t:TT):TT:=fun σ H Q=>t σ H fun c H1=>Q (!c) H1
theorem pk(ha:PT X a tA):PW X (.BoolOp .And [a] pos) tA:=by
 intro wh pins s σ H Q I h
 refine isTrue_and (aU (ha pins s σ H Q I h) fun c s1 e=>?_)
 cases c with
 |true=>exact isTrue_and_nil e
 |false=>exact e
theorem xu(ha:PT X a tA):PW X (.BoolOp .Or [a] pos) tA:=by
 intro wh pins s σ H Q I h
 refine isTrue_or (aU (ha pins s σ H Q I h) fun c s1 e=>?_)
 cases c with
 |false=>exact isTrue_or_nil e
 |true=>exact e
theorem lp(ha:PT X a tA)(hb:PW X (.BoolOp .And (b::rest) pos) tB'):PW X (.BoolOp .And (a::b::rest) pos) (CT tA tB'):=by
 intro wh pins s σ H Q I h
 refine isTrue_and (aU (ha pins s σ H _ I h) fun c s1 ⟨H1,I1,q1⟩=>?_)
 cases c with
 |true=>exact hb wh pins s1 σ H1 Q I1 q1
 |false=>exact⟨H1,I1,q1⟩
theorem xw(ha:PT X a tA)(hb:PW X (.BoolOp .Or (b::rest) pos) tB'):PW X (.BoolOp .Or (a::b::rest) pos) (CU tA tB'):=by
 intro wh pins s σ H Q I h
 refine isTrue_or (aU (ha pins s σ H _ I h) fun c s1 ⟨H1,I1,q1⟩=>?_)
 cases c with
 |true=>exact⟨H1,I1,q1⟩
 |false=>exact hb wh pins s1 σ H1 Q I1 q1
theorem dX(ha:PT X a tA):PT X (.UnaryOp .Not a pos) (uy tA):=by
 intro pins s σ H Q I h
 exact isTrue_not (ha pins s σ H (fun c H1=>Q (!c) H1) I h)
def J8(ta tb:TE):TE:=fun σ H Q=>ta σ H fun x H1=>∃c,x=.bl c/\if c=true then tb σ H1 Q else Q (.bl false) H1
def J9(ta tb:TE):TE:=fun σ H Q=>ta σ H fun x H1=>∃c,x=.bl c/\if c=true then Q (.bl true) H1 else tb σ H1 Q
theorem uz{op}{t:TE}(h:PE X a t):PE X (.BoolOp op [a] pos) t:=fun pins s σ H Q I hw=>BoolOp_one (h pins s σ H Q I hw)
theorem CV(ha:PE X a ta)(hb:PE X (.BoolOp .And (b::rest) pos) tb):PE X (.BoolOp .And (a::b::rest) pos) (J8 ta tb):=by
 intro pins s σ H Q I h
 refine BoolOp_and (aU (ha pins s σ H _ I h) fun v s1 ⟨x,H1,I1,r1,q1⟩=>?_)
 obtain⟨c,rfl,q1⟩:=q1
 cases r1
 refine wpAny_truthy_bool ?_
 cases c with
 |true=>exact hb pins s1 σ H1 Q I1 q1
 |false=>exact⟨.bl false,H1,I1,rfl,q1⟩
theorem CW(ha:PE X a ta)(hb:PE X (.BoolOp .Or (b::rest) pos) tb):PE X (.BoolOp .Or (a::b::rest) pos) (J9 ta tb):=by
 intro pins s σ H Q I h
 refine BoolOp_or (aU (ha pins s σ H _ I h) fun v s1 ⟨x,H1,I1,r1,q1⟩=>?_)
 obtain⟨c,rfl,q1⟩:=q1
 cases r1
 refine wpAny_truthy_bool ?_
 cases c with
 |false=>exact hb pins s1 σ H1 Q I1 q1
 |true=>exact⟨.bl true,H1,I1,rfl,q1⟩
def CY(t:TT)(ta tb:TE):TE:=fun σ H Q=>t σ H fun c H1=>if c=true then ta σ H1 Q else tb σ H1 Q
theorem gJ{c:Expr}(hc:PT X c tA)(ha:PE X a ta)(hb:PE X b tb):PE X (.IfExp c a b pos) (CY tA ta tb):=by
 intro pins s σ H Q I h
 refine wpAny_IfExp (aU (hc pins s σ H _ I h) fun d s1 ⟨H1,I1,q1⟩=>?_)
 cases d with
 |true=>exact ha pins s1 σ H1 Q I1 q1
 |false=>exact hb pins s1 σ H1 Q I1 q1
end
end L2
namespace L2
open PySem PySem.Spec PyProof.Rows
def ai(K:PySem.W.Frag)(H:Hp)(a:Addr)(xs:List V):Prop:=
 Rd H a (.lst xs)\/
  ∃(o:Obj) (its:Array Value) (n:Nat),K.lookup a=some o/\o.cls=.type "list"/\o.dict=none/\o.data=.seq its n/\its.size<=sizeLine/\aK xs its.toList
def fv(K:PySem.W.Frag)(H:Hp)(a:Addr)(xs:List V):Prop:=
 Rd H a (.tup xs)\/
  ∃(o:Obj) (its:Array Value) (n:Nat),K.lookup a=some o/\o.cls=.type "tuple"/\o.data=.seq its n/\its.size<=sizeLine/\aK xs its.toList
def J_:Value->Option V
 |.none=>some .aW
 |.bool b=>some (.bl b)
 |.int i _=>some (.int i)
 |.str x _=>some (.str x)
 |.bytes b _=>some (.gv b)
 |.float b _=>some (.ur b)
 |.ref a=>some (.ref a)
 |.type n=>some (.ty n)
 |_=>none
theorem RelV.abs{x:V}{u:Value}(r:RelV x u):J_ u=some x:=by
 cases x with
 |aW=>cases r;rfl
 |bl _=>cases r;rfl
 |int _=>obtain⟨t,rfl⟩:=r;rfl
 |str _=>obtain⟨t,rfl⟩:=r;rfl
 |gv _=>obtain⟨t,rfl⟩:=r;rfl
 |ur _=>obtain⟨t,rfl⟩:=r;rfl
 |ref _=>cases r;rfl
 |ty _=>cases r;rfl
theorem RelV.inj{x y:V}{u:Value}(r:RelV x u)(q:RelV y u):x=y:=bo (r.abs.symm.trans q.abs)
theorem aK.inj:∀{xs ys:List V}{us:List Value},aK xs us->aK ys us->xs=ys
 |_,_,_,.nil,.nil=>rfl
 |_,_,_,.cons r t,.cons r' t'=>by rw[r.inj r',aK.inj t t']
section
variable{X:Cx}{pins:List (Addr×Obj)}{σ:St}{H:Hp}{s:Shared}{a:Addr}{xs ys:List V}
theorem ai.of{K:PySem.W.Frag}(h:H a=some (.lst xs)):ai K H a xs:=.inl (.inl h)
theorem fv.of{K:PySem.W.Frag}(h:H a=some (.tup xs)):fv K H a xs:=.inl (.inl h)
theorem Inv.list(I:Inv X pins σ H s)(h:ai X.K H a xs):∃its:List Value,aK xs its/\PlainL s.heap a its.toArray/\xs.length<=sizeLine:=by
 rcases h with h|⟨o,its,n,hk,hc,hd,hs,hz,r⟩
 ·obtain⟨z,its,n,r,e⟩:=h.ok I.aP
  exact⟨its,r,⟨_,n,e,rfl,rfl,rfl⟩,z⟩
 ·refine⟨its.toList,r,⟨o,n,I.fV a o hk,hc,hd,by simpa using hs⟩,?_⟩
  have e:=r.length
  simp only [uh]at e
  omega
theorem Inv.tuple(I:Inv X pins σ H s)(h:fv X.K H a xs):∃its:List Value,aK xs its/\IsTup s.heap a its.toArray/\xs.length<=sizeLine:=by
 rcases h with h|⟨o,its,n,hk,hc,hs,hz,r⟩
 ·obtain⟨z,its,r,p⟩:=h.ok I.aP
  exact⟨its,r,p,z⟩
 ·refine⟨its.toList,r,⟨o,I.fV a o hk,hc,n,by simpa using hs⟩,?_⟩
  have e:=r.length
  simp only [uh]at e
  omega
theorem Inv.rm(I:Inv X pins σ H s)(h:ai X.K H a xs)(h':ai X.K H a ys):xs=ys:=by
 obtain⟨its,r,⟨o,n,e,_,_,d⟩,_⟩:=I.list h
 obtain⟨its',r',⟨o',n',e',_,_,d'⟩,_⟩:=I.list h'
 rw[e]at e';cases e'
 rw[d]at d'
 injection d' with d1 _
 have:its=its':=by simpa using bO Array.toList d1
 subst this
 exact r.inj r'
end
abbrev Cx.ki(X:Cx)(E:Value->Shared->Prop):Cx:={X with xe:=E}
abbrev Cx.uA(X:Cx):Cx:=X.ki fun _ _=>False
theorem Cx.Ok.ki{X:Cx}(ok:X.Ok)(E:Value->Shared->Prop):(X.ki E).Ok:=
 ⟨ok.mod,ok.kind,ok.glob,ok.blt,ok.above,ok.inj,ok.has,ok.rf,ok.hd,ok.frames,ok.uw,ok.ux,ok.bs,ok.lh,ok.rg,ok.rh,ok.i6,ok.ng⟩
theorem Cx.Ok.mz{X:Cx}{E:Value->Shared->Prop}(ok:(X.ki E).Ok):X.Ok:=
 ⟨ok.mod,ok.kind,ok.glob,ok.blt,ok.above,ok.inj,ok.has,ok.rf,ok.hd,ok.frames,ok.uw,ok.ux,ok.bs,ok.lh,ok.rg,ok.rh,ok.i6,ok.ng⟩
section
variable{X:Cx}{pins:List (Addr×Obj)}{σ:St}{H:Hp}{s:Shared}{E:Value->Shared->Prop}
theorem Inv.ki(I:Inv X pins σ H s)(E:Value->Shared->Prop):Inv (X.ki E) pins σ H s:=⟨I.ok.ki E,I.os,I.bare,I.base,I.loc,I.cell,I.free,I.iC,I.pin,I.aP,I.len⟩
theorem Inv.mz(I:Inv (X.ki E) pins σ H s):Inv X pins σ H s:=⟨I.ok.mz,I.os,I.bare,I.base,I.loc,I.cell,I.free,I.iC,I.pin,I.aP,I.len⟩
theorem SP.mz{D:Ends}{f:Flow}{s':Shared}(h:SP (X.ki E) pins D f s'):SP X pins D f s':=by
 cases f with
 |next=>obtain⟨σ',H',I,q⟩:=h;exact⟨σ',H',I.mz,q⟩
 |brk=>obtain⟨σ',H',I,q⟩:=h;exact⟨σ',H',I.mz,q⟩
 |cont=>obtain⟨σ',H',I,q⟩:=h;exact⟨σ',H',I.mz,q⟩
 |ret u=>obtain⟨v,σ',H',I,r,q⟩:=h;exact⟨v,σ',H',I.mz,r,q⟩
theorem iD.uA{st:List Stmt}{t:TS}(h:iD X.uA st t):iD X st t:=fun pins s σ H D I hw=>
 wpAny_mono (h pins s σ H D (I.ki _) hw) (fun _ _ q=>q.mz) fun _ _ z=>False.elim z
end
section
variable{X:Cx}{st:Stmt}{rest:List Stmt}{t u:TS}{e:Expr}{te:TE}{pos:Pos}
def fz:TS:=fun D σ H=>D.nx σ H
def kj(t u:TS):TS:=fun D σ H=>t {D with nx:=u D} σ H
theorem bx:iD X [] fz:=fun _ _ σ H _ I h=>wpAny_execs_nil ⟨σ,H,I,h⟩
theorem aj(h1:PS X st t)(h2:iD X rest u):iD X (st::rest) (kj t u):=by
 intro pins s σ H D I h
 refine wpAny_execs_cons (aU (h1 pins s σ H {D with nx:=u D} I h) fun f s1 q=>?_)
 cases f with
 |next=>
  obtain⟨σ',H',I',q⟩:=q
  exact h2 pins s1 σ' H' D I' q
 |ret v=>exact q
 |brk=>exact q
 |cont=>exact q
theorem ao(h1:PS X st t):iD X [st] t:=by
 intro pins s σ H D I h
 refine wpAny_execs_cons (aU (h1 pins s σ H D I h) fun f s1 q=>?_)
 cases f with
 |next=>exact wpAny_execs_nil q
 |ret v=>exact q
 |brk=>exact q
 |cont=>exact q
def Ka:TS:=fun D σ H=>D.bk σ H
theorem Kb:PS X (.Break pos) Ka:=fun _ _ σ H _ I h=>wpAny_Break ⟨σ,H,I,h⟩
theorem Inv.quiet{pins:List (Addr×Obj)}{σ:St}{H:Hp}{s:Shared}(I:Inv X pins σ H s):interactive X.env=false:=by simp[interactive,I.ok.kind]
def Kc(te:TE):TS:=fun D σ H=>te σ H fun _ H1=>D.nx σ H1
theorem dR(he:PE X e te)(hs:swapsWith e none pos.line X.env=pure false:=by rfl):PS X (.Expr e pos) (Kc te):=by
 intro pins s σ H D I h
 exact wpAny_Expr_any (aU (he pins s σ H _ I h) fun v s1 ⟨x,H1,I1,r1,q1⟩=>⟨σ,H1,I1,q1⟩) I.quiet hs
def jH(te:TE):TS:=fun D σ H=>te σ H D.rt
theorem az(he:PE X e te):PS X (.Return (some e) pos) (jH te):=by
 intro pins s σ H D I h
 exact wpAny_Return_some (aU (he pins s σ H _ I h) fun v s1 ⟨x,H1,I1,r1,q1⟩=>⟨x,σ,H1,I1,r1,q1⟩)
def pC(c:TT)(t u:TS):TS:=fun D σ H=>c σ H fun b H1=>if b=true then t D σ H1 else u D σ H1
theorem bt{c:Expr}{a b:List Stmt}{tc:TT}(hc:PT X c tc)(ha:iD X a t)(hb:iD X b u):PS X (.If c a b pos) (pC tc t u):=by
 intro pins s σ H D I h
 refine wpAny_If (aU (hc pins s σ H _ I h) fun d s1 ⟨H1,I1,q1⟩=>?_)
 cases d with
 |true=>exact ha pins s1 σ H1 D I1 q1
 |false=>exact hb pins s1 σ H1 D I1 q1
end
abbrev TG:=V->St->Hp->(St->Hp->Prop)->Prop
abbrev mB:=List V->St->Hp->(St->Hp->Prop)->Prop
def PG(X:Cx)(target:Expr)(t:TG):Prop:=
 ∀(pins:List (Addr×Obj)) (s:Shared) (σ:St) (H:Hp) (v:V) (u:Value) (Q:St->Hp->Prop),Inv X pins σ H s->RelV v u->t v σ H Q->
  wpAny (model X.prog X.w) X.A (assign target X.env u) (fun _ s'=>∃σ' H',Inv X pins σ' H' s'/\Q σ' H') X.xe s
def rn(X:Cx)(ts:List Expr)(t:mB):Prop:=
 ∀(pins:List (Addr×Obj)) (s:Shared) (σ:St) (H:Hp) (vs:List V) (us:List Value) (Q:St->Hp->Prop),Inv X pins σ H s->aK vs us->t vs σ H Q->
  wpAny (model X.prog X.w) X.A (assignInOrder ((assignEach ts X.env).map (·.2)) us) (fun _ s'=>∃σ' H',Inv X pins σ' H' s'/\Q σ' H') X.xe s
abbrev xx:=V->V->V->Hp->(Hp->Prop)->Prop
def CZ(X:Cx)(t:xx):Prop:=
 ∀(pins:List (Addr×Obj)) (s:Shared) (σ:St) (H:Hp) (o i v:V) (ov iv u:Value) (Q:Hp->Prop),Inv X pins σ H s->RelV o ov->RelV i iv->RelV v u->t o i v H Q->
  wpAny (model X.prog X.w) X.A (setItem ov iv u) (fun _ s'=>∃H',Inv X pins σ H' s'/\Q H') X.xe s
section
variable{X:Cx}{pos:Pos}
def dt(i:Nat):TG:=fun v σ H Q=>Q (σ.set i (some v)) H
theorem eJ{i:Nat}{x:Str}(hN:X.N.Nodup)(hi:X.N[i]?=some x)(hx:Loc X.env.scope x)(hf:X.fn x=true\/X.env.scope.names.lookup x=some .local:=by first|exact .inl rfl|exact .inr rfl|assumption):PG X (.Name x pos) (dt i):=by
 intro pins s σ H v u Q I r h
 exact wpAny_assign_Name (CQ I hN hi hx r (fun s' I'=>⟨_,H,I',h⟩) hf)
def Kd:mB:=fun vs σ H Q=>vs=[]/\Q σ H
def Ke(t:TG)(u:mB):mB:=fun vs σ H Q=>∃v r,vs=v::r/\t v σ H fun σ' H'=>u r σ' H' Q
theorem uB:rn X [] Kd:=by
 intro pins s σ H vs us Q I r h
 obtain⟨e,h⟩:=h
 subst e
 cases r
 exact assignInOrder_nil ⟨σ,H,I,h⟩
theorem mC{e:Expr}{es:List Expr}{t:TG}{u:mB}(h1:PG X e t)(h2:rn X es u)
  (hs:(assignEach (e::es) X.env).map (·.2)=assign e X.env::(assignEach es X.env).map (·.2):=by rfl):rn X (e::es) (Ke t u):=by
 intro pins s σ H vs us Q I r h
 obtain⟨v,vr,e1,h⟩:=h
 subst e1
 cases r with
 |cons r rr=>
  rw[hs]
  refine assignInOrder_cons (aU (h1 pins s σ H _ _ _ I r h) fun _ s1 ⟨σ1,H1,I1,q1⟩=>?_)
  exact h2 pins s1 σ1 H1 _ _ Q I1 rr q1
def C5(K:PySem.W.Frag)(n:Nat)(t:mB):TG:=fun v σ H Q=>∃a xs,v=.ref a/\fv K H a xs/\xs.length=n/\t xs σ H Q
theorem uC{es:List Expr}{k:Nat}{t:mB}{n:Nat}(hc:X.calm=true)(h:rn X es t)
  (hn:(assignEach es X.env).length=n:=by rfl)(hst:(assignEach es X.env).findIdx? (·.1)=none:=by rfl):PG X (.Tuple es k pos) (C5 X.K n t):=by
 intro pins s σ H v u Q I r hw
 obtain⟨a,xs,e1,hq,hl,hw⟩:=hw
 subst e1
 cases r
 obtain⟨its,rv,ht,hz⟩:=I.tuple hq
 refine assign_Tuple_tuple (I.ok.hd hc) ht (by simp[hn,<-hl,rv.length]) hst fun h' hx=>?_
 have I1:Inv X pins σ H {s with heap:=h'}:=I.kept (t':=s.toks) fun b o e=>hx b o (gF (Heap.lt_size e)) e
 exact h pins _ σ H xs _ Q I1 (by simpa using rv) hw
def Kf(to ti:TE)(t:xx):TG:=fun v σ H Q=>to σ H fun o H1=>ti σ H1 fun i H2=>t o i v H2 fun H3=>Q σ H3
theorem fB{o i:Expr}{to ti:TE}{t:xx}(ho:PE X o to)(hi:PE X i ti)(hs:CZ X t)
  (ha:∀v,assign (.Subscript o i pos) X.env v=(do
   let ov <-holding [v] (eval o X.env)
   let iv <-holding [v,ov] (eval i X.env)
   standAt pos
   holding [v,ov,iv] (setItem ov iv v)
   release [v,ov,iv] []):=by intro _;rfl):PG X (.Subscript o i pos) (Kf to ti t):=by
 intro pins s σ H v u Q I r h
 rw[ha]
 refine wpAny_bind (wpAny_holding (aU (ho pins s σ H _ I h) fun ov s1 ⟨x,H1,I1,r1,q1⟩=>?_))
 refine wpAny_bind (wpAny_holding (aU (hi pins s1 σ H1 _ I1 q1) fun iv s2 ⟨y,H2,I2,r2,q2⟩=>?_))
 refine wpAny_bind (wpAny_standAt (wpAny_bind (wpAny_holding (aU (hs pins s2 σ H2 x y v ov iv u _ I2 r1 r2 r q2) fun _ s3 ⟨H3,I3,q3⟩=>?_))))
 exact wpAny_release ⟨σ,H3,I3,q3⟩
def lq(te:TE)(g:TG):TS:=fun D σ H=>te σ H fun x H1=>g x σ H1 D.nx
theorem fC{tg e:Expr}{te:TE}{g:TG}(he:PE X e te)(hg:PG X tg g)(hs:swapsWithSole [tg] e pos.line X.env=pure false:=by rfl)(hw:swappedStores [tg] e X.env=pure none:=by rfl)
  (h1:(assignEach [tg] X.env).map (·.2)=[assign tg X.env]:=by rfl):PS X (.Assign [tg] e pos) (lq te g):=by
 intro pins s σ H D I h
 refine wpAny_Assign_stores (aU (he pins s σ H _ I h) fun v s1 ⟨x,H1,I1,r1,q1⟩=>?_) hs hw
 rw[h1]
 exact aU (hg pins s1 σ H1 x v _ I1 r1 q1) fun _ s2 q=>q
theorem Kg{i:Nat}{x:Str}{e:Expr}{te:TE}{pos':Pos}(hN:X.N.Nodup)(hi:X.N[i]?=some x)(hx:Loc X.env.scope x)(he:PE X e te)(hs:swapsWith e (some (.Name x pos')) pos.line X.env=pure false:=by rfl)(hf:X.fn x=true\/X.env.scope.names.lookup x=some .local:=by first|exact .inl rfl|exact .inr rfl|assumption):
  PS X (.Assign [.Name x pos'] e pos) (lq te (dt i)):=by
 intro pins s σ H D I h
 refine wpAny_Assign_Name (aU (he pins s σ H _ I h) fun v s1 ⟨y,H1,I1,r1,q1⟩=>?_) hs
 exact CQ I1 hN hi hx r1 (fun s2 I2=>⟨_,H1,I2,q1⟩) hf
end
section
variable{X:Cx}{pos:Pos}
def Kh(c:TT)(tb:TS):TS:=fun D σ H=>∃W:Nat->St->Hp->Prop,(∃m,W m σ H)/\∀m σ H,W m σ H->
 c σ H fun b H1=>if b=true then ∃N:St->Hp->Prop,(∀σ' H',N σ' H'->∃m',m'<m/\W m' σ' H')/\tb {D with nx:=N,ct:=N,bk:=D.nx} σ H1 else D.nx σ H1
theorem jI{c:Expr}{body:List Stmt}{tc:TT}{tb:TS}(hp:PassesOwn (model X.prog X.w) X.A X.env X.xe)(hc:PT X c tc)(hb:iD X body tb):PS X (.While c body [] pos) (Kh tc tb):=by
 intro pins s σ H D I h
 obtain⟨W,⟨m0,w0⟩,turn⟩:=h
 refine wpAny_While (codeAny_whileLoop (fun n s'=>∃σ' H',Inv X pins σ' H' s'/\W n σ' H') ?_ m0 ⟨σ,H,I,w0⟩)
 rintro n s1 ⟨σ1,H1,I1,w1⟩
 refine wpAny_passesOwn hp (aU (hc pins s1 σ1 H1 _ I1 (turn n σ1 H1 w1)) fun b s2 ⟨H2,I2,q2⟩=>?_)
 cases b with
 |true=>
  obtain⟨N,hN,q2⟩:=q2
  rw[af rfl]
  refine wpAny_passesOwn hp (aU (hb pins s2 σ1 H2 _ I2 q2) fun f s3 q3=>?_)
  cases f with
  |next=>
   obtain⟨σ3,H3,I3,n3⟩:=q3
   obtain⟨m',hm,w3⟩:=hN σ3 H3 n3
   exact⟨m',hm,σ3,H3,I3,w3⟩
  |cont=>
   obtain⟨σ3,H3,I3,n3⟩:=q3
   obtain⟨m',hm,w3⟩:=hN σ3 H3 n3
   exact⟨m',hm,σ3,H3,I3,w3⟩
  |brk=>exact q3
  |ret v=>exact q3
 |false=>
  rw[ae fj]
  exact wpAny_execs_nil ⟨σ1,H2,I2,q2⟩
end
structure It where
 go:Nat->Hp->Prop
 iE:Nat->Hp->V->Hp->Prop
 stop:Nat->Hp->Prop
def i8(X:Cx)(pins:List (Addr×Obj))(H:Hp)(b:Addr):Prop:=
 H b=none/\b≠X.env.locals/\b∉X.fs/\(b∈X.ex\/X.eI.heap.objs.size<=b)/\(∀x c,X.env.cells.lookup x=some c->c≠b)/\∀p∈X.pn++pins,p.1≠b
theorem Inv.pD{X:Cx}{pins:List (Addr×Obj)}{σ:St}{H H':Hp}{s:Shared}{b:Addr}(I:Inv X pins σ H s)(hb:s.heap.objs.size<=b)(hn:H' b=none):i8 X pins H' b:=by
 refine⟨hn,Nat.ne_of_gt (gE I.lt hb),I.J5 hb,.inr (cz I.sz hb),fun x c e z=>?_,fun p hp z=>?_⟩
 ·obtain⟨v,q⟩:=I.cell x c e
  exact absurd (gE q.lt (by rw[z];exact hb)) (iW _)
 ·exact absurd (gE (Heap.lt_size (I.pin p hp).1) (by rw[z];exact hb)) (iW _)
structure Turn(P:Program)(w:World)(K:PySem.W.Frag)(tg:Expr)(J:It)(fp:List Addr)(it:Addr)(tn:Nat->Heap->Prop):Prop where
 mem:it∈fp
 obj:∀i h,tn i h->∀b∈fp,∃o,h.get? b=some o/\∀v,o.data≠.cell v
 keep:∀i h h',tn i h->(∀b∈fp,∀o,h.get? b=some o->h'.get? b=some o)->tn i h'
 item:∀(X:Cx),X.prog=P->X.w=w->X.K=K->X.calm=true->∀(i:Nat) (pins:List (Addr×Obj)) (s:Shared) (σ:St) (H:Hp) (E:Value->Shared->Prop),Inv X pins σ H s->(∀b∈fp,i8 X pins H b)->tn i s.heap->J.go i H->
  wpAny (model P w) X.A (pyNext (.ref it)) (fun r s1=>∃u,r=some u/\
   wpAny (model P w) X.A (letOwnedTupleGo tg (.ref it) u) (fun _ s2=>∃x H',Inv X pins σ H' s2/\RelV x u/\J.iE i H x H'/\tn (i+1) s2.heap/\∀b∈fp,H' b=none) E s1) E s
 done:∀(X:Cx),X.prog=P->X.w=w->X.K=K->X.calm=true->∀(i:Nat) (pins:List (Addr×Obj)) (s:Shared) (σ:St) (H:Hp) (E:Value->Shared->Prop),Inv X pins σ H s->(∀b∈fp,i8 X pins H b)->tn i s.heap->J.stop i H->
  wpAny (model P w) X.A (pyNext (.ref it)) (fun r s1=>r=none/\Inv X pins σ H s1) E s
 self:∀(A:Around) (i:Nat) (s:Shared) (Q:Value->Shared->Prop) (E:Value->Shared->Prop),tn i s.heap->Q (.ref it) s->wpAny (model P w) A (pyIter (.ref it)) Q E s
abbrev TI:=St->Hp->(It->Hp->Prop)->Prop
def xA(X:Cx)(pins:List (Addr×Obj))(σ:St)(tg:Expr)(R:It->Hp->Prop)(itv:Value)(s2:Shared):Prop:=
 ∃(it:Addr) (fp:List Addr) (tn:Nat->Heap->Prop) (J:It) (H':Hp),itv=.ref it/\Inv X pins σ H' s2/\Turn X.prog X.w X.K tg J fp it tn/\tn 0 s2.heap/\(∀b∈fp,i8 X pins H' b)/\R J H'
def PI(X:Cx)(tg iter:Expr)(wi:TI):Prop:=
 ∀(pins:List (Addr×Obj)) (s:Shared) (σ:St) (H:Hp) (R:It->Hp->Prop),Inv X pins σ H s->wi σ H R->
  wpAny (model X.prog X.w) X.A (eval iter X.env) (fun v s1=>wpAny (model X.prog X.w) X.A (pyIter v) (xA X pins σ tg R) X.xe s1) X.xe s
theorem uD{M:Model}{A:Around}{E:Value->Shared->Prop}{s:Shared}{tg:Expr}{it:Addr}{u:Value}{o:Obj}{n:String}{vs:Array Value}{Q:Unit->Shared->Prop}(ho:s.heap.get? it=some o)(hc:o.cls=.type n)(hd:o.data=.fields vs)
  (hn:["enumerate","zip","dict_itemiterator","dict_reverseitemiterator","odict_iterator","itertools.zip_longest","itertools.pairwise"].contains n=false)(hQ:Q () s):wpAny M A (letOwnedTupleGo tg (.ref it) u) Q E s:=by
 unfold letOwnedTupleGo
 cases tg<;>first
  |exact wpAny_pure hQ
  |(cases u<;>first
    |exact wpAny_pure hQ
    |(refine wpAny_bind (wpAny_load ho ?_)
      rw[hc,hd]
      show wpAny M A (if (["enumerate","zip","dict_itemiterator","dict_reverseitemiterator","odict_iterator","itertools.zip_longest","itertools.pairwise"].contains n&&vs[0]? == some (rawInt _))=true then _ else _) Q E s
      rw[ae (by intro h;rw[hn,Bool.false_and]at h;cases h)]
      exact wpAny_pure hQ))
def jJ(K:PySem.W.Frag)(a:Addr):It:=
 ⟨fun i H=>∃xs x,ai K H a xs/\xs[i]?=some x,fun i H x H'=>H'=H/\∀xs,ai K H a xs->xs[i]?=some x,fun i H=>∃xs,ai K H a xs/\xs.length<=i⟩
def jK(lo:Int)(n:Nat):It:=⟨fun i _=>i<n,fun i H x H'=>H'=H/\x=.int (lo+i),fun i _=>n<=i⟩
theorem Ki{P:Program}{w:World}{K:PySem.W.Frag}{tg:Expr}(a it:Addr):Turn P w K tg (jJ K a) [it] it (fun i h=>h.IsListIter it a i) where
 mem:=by simp
 obj:=fun i h st b hb=>by
  have e:b=it:=by simpa using hb
  subst e
  obtain⟨o,e,c,d⟩:=st
  exact⟨o,e,fun v z=>by rw[d]at z;cases z⟩
 keep:=fun i h h' st k=>st.at fun o e=>k it (by simp) o e
 item:=by
  intro X hP hw hK hc i pins s σ H E I hf st hg
  subst hP hw hK
  obtain⟨xs,x,hq,hx⟩:=hg
  obtain⟨its,rv,p,hz⟩:=I.list hq
  obtain⟨u,hu,ru⟩:=rv.get hx
  obtain⟨f0,f1,f2,f3,f4,f5⟩:=hf it (by simp)
  refine wpAny_pyNext_list_item st p.isList (x:=u) (by simpa using hu) fun h' st' sb=>?_
  have I1:Inv X pins σ H {s with heap:=h'}:=I.turned (t':=s.toks) (fun b o hb e=>(sb.2 b hb).trans e) f0 f1 f3 f4 f5
  obtain⟨o,e,c,d⟩:=id st'
  exact⟨u,rfl,uD (s:={s with heap:=h'}) e c d (by decide) ⟨x,H,I1,ru,⟨rfl,fun ys hy=>by rw[I.rm hy hq];exact hx⟩,st',fun b hb=>(hf b hb).1⟩⟩
 done:=by
  intro X hP hw hK hc i pins s σ H E I hf st hg
  subst hP hw hK
  obtain⟨xs,hq,hx⟩:=hg
  obtain⟨its,rv,p,hz⟩:=I.list hq
  obtain⟨f0,f1,f2,f3,f4,f5⟩:=hf it (by simp)
  have hl:=rv.length
  exact wpAny_pyNext_list_end (I.ok.hd hc) st p.isList (by simp;omega) fun h' eb=>⟨rfl,I.turned (t':=s.toks) (fun b o hb e=>eb b o hb e) f0 f1 f3 f4 f5⟩
 self:=fun _ _ _ _ _ st h=>wpAny_pyIter_listiter st h
theorem Kj{P:Program}{w:World}{K:PySem.W.Frag}{tg:Expr}(it:Addr)(lo:Int)(n:Nat):Turn P w K tg (jK lo n) [it] it (fun i h=>IsRangeIter h it (lo+(i:Nat) * 1) ((n:Int) - (i:Nat)) 1) where
 mem:=by simp
 obj:=fun i h st b hb=>by
  have e:b=it:=by simpa using hb
  subst e
  exact⟨_,st,fun v z=>by
   have z':Data.fields _=Data.cell v:=z
   cases z'⟩
 keep:=fun i h h' st k=>k it (by simp) _ st
 item:=by
  intro X hP hw hK hc i pins s σ H E I hf st hg
  subst hP hw hK
  obtain⟨f0,f1,f2,f3,f4,f5⟩:=hf it (by simp)
  have W:=Walks.range (prog:=X.prog) (w:=X.w) (I.ok.hd hc) it lo 1 n
  refine W.item i s _ _ hg st fun v h' tk hv st' kk=>?_
  obtain⟨t,rfl⟩:=hv
  have I1:Inv X pins σ H {s with heap:=h',toks:=tk}:=I.turned (fun b o hb e=>kk b o (by simpa using hb) e) f0 f1 f3 f4 f5
  refine⟨_,rfl,uD (s:={s with heap:=h',toks:=tk}) (n:="range_iterator") st' rfl rfl (by decide) ⟨.int (lo+i),H,I1,⟨t,?_⟩,⟨rfl,rfl⟩,st',fun b hb=>(hf b hb).1⟩⟩
  rw[Int.mul_one]
 done:=by
  intro X hP hw hK hc i pins s σ H E I hf st hg
  subst hP hw hK
  obtain⟨f0,f1,f2,f3,f4,f5⟩:=hf it (by simp)
  exact wpAny_pyNext_range_end (I.ok.hd hc) st (by have:n<=i:=hg;omega) fun h' eb=>⟨rfl,I.turned (t':=s.toks) (fun b o hb e=>eb b o hb e) f0 f1 f3 f4 f5⟩
 self:=fun _ _ _ _ _ st h=>wpAny_pyIter_rangeiter st h
end L2
namespace L2
open PySem PySem.Spec PyProof.Rows
section
variable{X:Cx}{tg:Expr}
def Kk(K:PySem.W.Frag)(tl:TE):TI:=fun σ H R=>tl σ H fun x H1=>∃a,x=.ref a/\(∃xs,ai K H1 a xs)/\R (jJ K a) H1
theorem fF{l:Expr}{tl:TE}(hl:PE X l tl):PI X tg l (Kk X.K tl):=by
 intro pins s σ H R I h
 refine aU (hl pins s σ H _ I h) fun v s1 ⟨x,H1,I1,r1,q1⟩=>?_
 obtain⟨a,e,⟨xs,hq⟩,q⟩:=q1
 subst e
 cases r1
 obtain⟨its,rv,p,hz⟩:=I1.list hq
 refine wpAny_pyIter_list p.isList ?_
 refine⟨s1.heap.objs.size,[s1.heap.objs.size],_,_,H1,rfl,I1.kept (t':=s1.toks) fun b o e=>Heap.get?_push_of_some _ e,Ki a _,⟨_,Heap.get?_push_size _ rfl,rfl,rfl⟩,fun b hb=>?_,q⟩
 have e:b=s1.heap.objs.size:=by simpa using hb
 subst e
 exact I1.pD (aX _) (I1.aP.fresh (aX _))
theorem C6{pins:List (Addr×Obj)}{σ:St}{H:Hp}{s:Shared}{R:It->Hp->Prop}{E:Value->Shared->Prop}{lo hi:Int}{t u v:Tok}{tk:Nat}(I:Inv X pins σ H s)(h1: -(2 ^ 62)<=lo)(h2:lo<2 ^ 62)(h3: -(2 ^ 62)<=hi)(h4:hi<2 ^ 62)
  (q:R (jK lo (hi - lo).toNat) H):wpAny (model X.prog X.w) X.A (pyIter (.ref s.heap.objs.size)) (xA X pins σ tg R) E {s with heap:=s.heap.push {cls:=.type "range",data:=.fields #[.int lo t,.int hi u,.int 1 v]},toks:=tk}:=by
 refine wpAny_pyIter_range (IsRange.new ..) (small_one h1 h2 h3 h4) ?_
 have I1:Inv X pins σ H {s with heap:=s.heap.push {cls:=.type "range",data:=.fields #[.int lo t,.int hi u,.int 1 v]},toks:=tk}:=I.kept fun b o e=>Heap.get?_push_of_some _ e
 refine⟨(s.heap.push {cls:=.type "range",data:=.fields #[.int lo t,.int hi u,.int 1 v]}).objs.size,[(s.heap.push {cls:=.type "range",data:=.fields #[.int lo t,.int hi u,.int 1 v]}).objs.size],_,_,H,rfl,
  I1.kept (t':=tk) fun b o e=>Heap.get?_push_of_some _ e,Kj _ lo (hi - lo).toNat,?_,fun b hb=>?_,q⟩
 ·have e1:lo+((0:Nat):Int) * 1=lo:=by simp
  have e2:(((hi - lo).toNat:Nat):Int) - ((0:Nat):Int)=Builtin.Range.rangeSize lo hi 1:=by rw[rangeSize_one];split<;>omega
  show IsRangeIter _ _ (lo+((0:Nat):Int) * 1) ((((hi - lo).toNat:Nat):Int) - ((0:Nat):Int)) 1
  rw[e1,e2]
  exact Heap.get?_push_size _ rfl
 ·have e:b=(s.heap.push {cls:=.type "range",data:=.fields #[.int lo t,.int hi u,.int 1 v]}).objs.size:=by simpa using hb
  subst e
  exact I1.pD (aX _) (I1.aP.fresh (aX _))
def Kl(ta:TA):TI:=fun σ H R=>ta σ H fun vs H1=>∃j:Int,vs=[.int j]/\ -(2 ^ 62)<=j/\j<2 ^ 62/\R (jK 0 j.toNat) H1
def Km(ta:TA):TI:=fun σ H R=>ta σ H fun vs H1=>∃i j:Int,vs=[.int i,.int j]/\(-(2 ^ 62)<=i/\i<2 ^ 62/\ -(2 ^ 62)<=j/\j<2 ^ 62)/\R (jK i (j - i).toNat) H1
theorem iH{a:Expr}{ta:TA}{p pos:Pos}(hg:Gl X "range")(hm:X.mg "range"=none)(ha:PA X [a] ta)(hs:starEach [a] X.env=[(false,eval a X.env)]:=by rfl):PI X tg (.Call (.Name "range" p) [a] [] pos) (Kl ta):=by
 intro pins s σ H R I h
 refine Call_ (kh I hg hm boot_range (m5 (aU (ha pos pins s σ H _ I h) fun us s1 ⟨vs,H1,I1,r1,q1⟩=>?_) hs rfl))
 obtain⟨j,e,q1,q2,q⟩:=q1
 subst e
 cases r1 with
 |cons r rr=>
  cases rr
  obtain⟨t,rfl⟩:=r
  exact call_range_1 (C6 I1 (by omega) (by omega) q1 q2 (by simpa using q))
theorem rz{a b:Expr}{ta:TA}{p pos:Pos}(hg:Gl X "range")(hm:X.mg "range"=none)(ha:PA X [a,b] ta)(hs:starEach [a,b] X.env=[(false,eval a X.env),(false,eval b X.env)]:=by rfl)(hs2:starEach [b] X.env=[(false,eval b X.env)]:=by rfl):
  PI X tg (.Call (.Name "range" p) [a,b] [] pos) (Km ta):=by
 intro pins s σ H R I h
 refine Call_ (kh I hg hm boot_range (m5 (aU (ha pos pins s σ H _ I h) fun us s1 ⟨vs,H1,I1,r1,q1⟩=>?_) (by rw[hs,hs2]) (by rw[hs2];rfl)))
 obtain⟨i,j,e,⟨q1,q2,q3,q4⟩,q⟩:=q1
 subst e
 cases r1 with
 |cons r rr=>
  cases rr with
  |cons r' rr=>
   cases rr
   obtain⟨t,rfl⟩:=r
   obtain⟨t',rfl⟩:=r'
   exact call_range_2 (C6 I1 q1 q2 q3 q4 q)
def Kn(wi:TI)(g:TG)(tb:TS):TS:=fun D σ H=>wi σ H fun J H1=>∃W:Nat->Nat->St->Hp->Prop,(∃m,W 0 m σ H1)/\∀i m σ H,W i m σ H->
 (J.stop i H/\D.nx σ H)\/(J.go i H/\∃N:St->Hp->Prop,(∀σ' H',N σ' H'->∃m',m'<m/\W (i+1) m' σ' H')/\∀x H',J.iE i H x H'->g x σ H' fun σ2 H2=>tb {D with nx:=N,ct:=N,bk:=D.nx} σ2 H2)
def rC(fp:List Addr)(h:Heap):List (Addr×Obj):=fp.filterMap fun b=>(h.get? b).map fun o=>(b,o)
theorem xB{fp:List Addr}{h:Heap}{b:Addr}{o:Obj}(hb:b∈fp)(e:h.get? b=some o):(b,o)∈rC fp h:=List.mem_filterMap.mpr ⟨b,hb,by rw[e];rfl⟩
theorem Ko{fp:List Addr}{h:Heap}{p:Addr×Obj}(hp:p∈rC fp h):p.1∈fp/\h.get? p.1=some p.2:=by
 obtain⟨b,hb,e⟩:=List.mem_filterMap.mp hp
 cases q:h.get? b with
 |none=>rw[q]at e;cases e
 |some o=>
  rw[q]at e
  have e':(b,o)=p:=bo e
  subst e'
  exact⟨hb,q⟩
theorem Inv.pinned{pins:List (Addr×Obj)}{σ:St}{H:Hp}{s:Shared}{fp:List Addr}(I:Inv X pins σ H s)(hf:∀b∈fp,i8 X pins H b)(ho:∀b∈fp,∃o,s.heap.get? b=some o/\∀v,o.data≠.cell v):Inv X (pins++rC fp s.heap) σ H s:=
 I.CO fun p hp=>(dO.mp hp).elim (fun z=>I.pin p (d6 _ z)) fun z=>by
  obtain⟨hb,e⟩:=Ko z
  obtain⟨f0,f1,f2,_⟩:=hf p.1 hb
  obtain⟨o,e',d⟩:=ho p.1 hb
  rw[e]at e';cases e'
  exact⟨e,f0,f1,f2,d⟩
theorem Inv.uE{pins pl:List (Addr×Obj)}{σ:St}{H:Hp}{s:Shared}(I:Inv X (pins++pl) σ H s):Inv X pins σ H s:=I.CO fun p hp=>I.pin p (d6 _ (jB _ hp))
theorem c8{iter:Expr}{body:List Stmt}{wi:TI}{g:TG}{tb:TS}{pos:Pos}(hp:PassesOwn (model X.prog X.w) X.A X.env X.xe)(hc:X.calm=true)(hi:PI X tg iter wi)(hg:PG X tg g)(hb:iD X body tb)
  (hs:∀x,foldedSetIterable iter X.env x=pure x:=by intro _;rfl):PS X (.For tg iter body [] pos) (Kn wi g tb):=by
 intro pins s σ H D I h
 refine wpAny_For (aU (hi pins s σ H _ I h) fun v s1 h1=>aU h1 fun itv s2 h2=>?_) hs
 obtain⟨it,fp,tn,J,H2,e,I2,T,st2,f2,W,⟨m0,w0⟩,turn⟩:=h2
 subst e
 have stat:∀{H':Hp},(∀b∈fp,H' b=none)->∀b∈fp,i8 X pins H' b:=fun hn b hb=>⟨hn b hb,(f2 b hb).2⟩
 refine codeAny_forLoop_any (fun n s'=>∃i σ' H',Inv X pins σ' H' s'/\tn i s'.heap/\(∀b∈fp,H' b=none)/\W i n σ' H') ?_ m0 ⟨0,σ,H2,I2,st2,fun b hb=>(f2 b hb).1,w0⟩
 rintro n s3 ⟨i,σ3,H3,I3,st3,fr3,w3⟩
 rcases turn i n σ3 H3 w3 with ⟨stop,qn⟩|⟨go,N,hN,step⟩
 ·refine wpAny_passesOwn hp (aU (T.done X rfl rfl rfl hc i pins s3 σ3 H3 X.xe I3 (stat fr3) st3 stop) fun r s4 ⟨hr,I4⟩=>?_)
  subst hr
  exact wpAny_execs_nil ⟨σ3,H3,I4,qn⟩
 ·refine wpAny_passesOwn hp (aU (T.item X rfl rfl rfl hc i pins s3 σ3 H3 X.xe I3 (stat fr3) st3 go) fun r s4 ⟨u,hr,h4⟩=>?_)
  subst hr
  refine wpAny_passesOwn hp (aU h4 fun _ s5 ⟨x,H5,I5,r5,y5,st5,fr5⟩=>?_)
  have I5':=I5.pinned (stat fr5) (T.obj _ _ st5)
  refine wpAny_passesOwn hp (aU (hg _ s5 σ3 H5 x u _ I5' r5 (step x H5 y5)) fun _ s6 ⟨σ6,H6,I6,q6⟩=>?_)
  refine wpAny_passesOwn hp (aU (hb _ s6 σ6 H6 _ I6 q6) fun f s7 q7=>?_)
  have again:∀{σ7:St}{H7:Hp},Inv X (pins++rC fp s5.heap) σ7 H7 s7->N σ7 H7->∃m,m<n/\∃i σ' H',Inv X pins σ' H' s7/\tn i s7.heap/\(∀b∈fp,H' b=none)/\W i m σ' H':=fun {σ7 H7} I7 n7=>by
   obtain⟨m',hm,w7⟩:=hN σ7 H7 n7
   refine⟨m',hm,i+1,σ7,H7,I7.uE,T.keep _ _ _ st5 fun b hb o e=>(I7.pin (b,o) (d6 _ (d6 _ (xB hb e)))).1,fun b hb=>?_,w7⟩
   obtain⟨o,e,d⟩:=T.obj _ _ st5 b hb
   exact(I7.pin (b,o) (d6 _ (d6 _ (xB hb e)))).2.1
  cases f with
  |next=>obtain⟨σ7,H7,I7,n7⟩:=q7;exact again I7 n7
  |cont=>obtain⟨σ7,H7,I7,n7⟩:=q7;exact again I7 n7
  |brk=>obtain⟨σ7,H7,I7,q7⟩:=q7;exact⟨σ7,H7,I7.uE,q7⟩
  |ret v=>obtain⟨x7,σ7,H7,I7,r7,q7⟩:=q7;exact⟨x7,σ7,H7,I7.uE,r7,q7⟩
end
theorem mD{K:PySem.W.Frag}{a:Addr}{xs:List V}{g:TG}{tb:TS}{D:Ends}{σ:St}{H:Hp}(Pv:Nat->St->Hp->Prop)(h0:Pv 0 σ H)(hl:∀i σ H,i<=xs.length->Pv i σ H->ai K H a xs)
  (hs:∀i x σ H,xs[i]?=some x->Pv i σ H->g x σ H fun σ2 H2=>tb {D with nx:=Pv (i+1),ct:=Pv (i+1),bk:=D.nx} σ2 H2)(hd:∀σ H,Pv xs.length σ H->D.nx σ H):
  ∃W:Nat->Nat->St->Hp->Prop,(∃m,W 0 m σ H)/\∀i m σ H,W i m σ H->
   ((jJ K a).stop i H/\D.nx σ H)\/((jJ K a).go i H/\∃N:St->Hp->Prop,(∀σ' H',N σ' H'->∃m',m'<m/\W (i+1) m' σ' H')/\∀x H',(jJ K a).iE i H x H'->g x σ H' fun σ2 H2=>tb {D with nx:=N,ct:=N,bk:=D.nx} σ2 H2):=by
 refine⟨fun i m σ H=>m=xs.length - i/\i<=xs.length/\Pv i σ H,⟨xs.length,by simp,be _,h0⟩,?_⟩
 rintro i m σ H ⟨rfl,hi,p⟩
 have q:=hl i σ H hi p
 by_cases hlt:i<xs.length
 ·refine .inr ⟨⟨xs,xs[i],q,by simp[hlt]⟩,Pv (i+1),fun σ' H' p'=>⟨xs.length - (i+1),by omega,rfl,hlt,p'⟩,fun x H' y=>?_⟩
  obtain⟨e,y⟩:=y
  subst e
  exact hs i x σ _ (y xs q) p
 ·have e:i=xs.length:=by omega
  subst e
  exact .inl ⟨⟨xs,q,aX _⟩,hd σ H p⟩
theorem i9{lo:Int}{n:Nat}{g:TG}{tb:TS}{D:Ends}{σ:St}{H:Hp}(Pv:Nat->St->Hp->Prop)(h0:Pv 0 σ H)
  (hs:∀i σ H,i<n->Pv i σ H->g (.int (lo+i)) σ H fun σ2 H2=>tb {D with nx:=Pv (i+1),ct:=Pv (i+1),bk:=D.nx} σ2 H2)(hd:∀σ H,Pv n σ H->D.nx σ H):
  ∃W:Nat->Nat->St->Hp->Prop,(∃m,W 0 m σ H)/\∀i m σ H,W i m σ H->
   ((jK lo n).stop i H/\D.nx σ H)\/((jK lo n).go i H/\∃N:St->Hp->Prop,(∀σ' H',N σ' H'->∃m',m'<m/\W (i+1) m' σ' H')/\∀x H',(jK lo n).iE i H x H'->g x σ H' fun σ2 H2=>tb {D with nx:=N,ct:=N,bk:=D.nx} σ2 H2):=by
 refine⟨fun i m σ H=>m=n - i/\i<=n/\Pv i σ H,⟨n,by simp,be _,h0⟩,?_⟩
 rintro i m σ H ⟨rfl,hi,p⟩
 by_cases hlt:i<n
 ·refine .inr ⟨hlt,Pv (i+1),fun σ' H' p'=>⟨n - (i+1),by omega,rfl,hlt,p'⟩,fun x H' y=>?_⟩
  obtain⟨e,y⟩:=y
  subst e y
  exact hs i σ _ hlt p
 ·have e:i=n:=by omega
  subst e
  exact .inl ⟨aX _,hd σ H p⟩
end L2
namespace L2
open PySem PySem.Spec PyProof.Rows
abbrev R2:=V->V->Hp->VK->Prop
def cT(X:Cx)(f:Value->Value->Sem Value)(r:R2):Prop:=
 ∀(pins:List (Addr×Obj)) (s:Shared) (σ:St) (H:Hp) (x y:V) (v u:Value) (Q:VK),Inv X pins σ H s->RelV x v->RelV y u->r x y H Q->
  wpAny (model X.prog X.w) X.A (f v u) (EP X pins σ Q) X.xe s
def xC(X:Cx)(f:Value->Sem Value)(r:V->Hp->VK->Prop):Prop:=
 ∀(pins:List (Addr×Obj)) (s:Shared) (σ:St) (H:Hp) (x:V) (v:Value) (Q:VK),Inv X pins σ H s->RelV x v->r x H Q->
  wpAny (model X.prog X.w) X.A (f v) (EP X pins σ Q) X.xe s
def i_(X:Cx)(f:Value)(r:List V->Hp->VK->Prop):Prop:=
 ∀(pins:List (Addr×Obj)) (s:Shared) (σ:St) (H:Hp) (xs:List V) (us:List Value) (Q:VK),Inv X pins σ H s->aK xs us->r xs H Q->
  wpAny (model X.prog X.w) X.A (call f us) (EP X pins σ Q) X.xe s
def eK(r:R2)(ta tb:TE):TE:=fun σ H Q=>ta σ H fun x H1=>tb σ H1 fun y H2=>r x y H2 Q
def Kp(r:V->Hp->VK->Prop)(ta:TE):TE:=fun σ H Q=>ta σ H fun x H1=>r x H1 Q
def rI(C:Int->Int->Prop)(g:Int->Int->V):R2:=fun x y H Q=>∃i j,x=.int i/\y=.int j/\C i j/\Q (g i j) H
def mE(g:Int->Int->V):R2:=fun x y H Q=>∃i j,x=.int i/\y=.int j/\Q (g i j) H
def rU(g:Int->V):V->Hp->VK->Prop:=fun x H Q=>∃i,x=.int i/\Q (g i) H
section
variable{X:Cx}{a b c:Expr}{ta tb tc:TE}{pos:Pos}
theorem xD(ha:PE X a ta)(hb:PE X b tb){pins:List (Addr×Obj)}{s:Shared}{σ:St}{H:Hp}{R:V->V->Hp->Prop}(I:Inv X pins σ H s)
  (h:ta σ H fun x H1=>tb σ H1 fun y H2=>R x y H2){Q:Value->Shared->Prop}{f:Value->Value->Sem Value}
  (hf:∀v u s2 x y H2,Inv X pins σ H2 s2->RelV x v->RelV y u->R x y H2->wpAny (model X.prog X.w) X.A (f v u) Q X.xe s2):
  wpAny (model X.prog X.w) X.A (eval a X.env) (fun v s₁=>wpAny (model X.prog X.w) X.A (eval b X.env) (fun u s₂=>wpAny (model X.prog X.w) X.A (f v u) Q X.xe s₂) X.xe s₁) X.xe s:=by
 refine aU (ha pins s σ H _ I h) fun v s1 ⟨x,H1,I1,r1,q1⟩=>?_
 refine aU (hb pins s1 σ H1 _ I1 q1) fun u s2 ⟨y,H2,I2,r2,q2⟩=>?_
 exact hf v u s2 x y H2 I2 r1 r2 q2
theorem aC{op:Operator}{r:R2}(ho:cT X (binaryOp op) r)(ha:PE X a ta)(hb:PE X b tb):PE X (.BinOp a op b pos) (eK r ta tb):=by
 intro pins s σ H Q I h
 exact wpAny_BinOp (xD ha hb I h fun v u s2 x y H2 I2 rx ry q=>ho pins s2 σ H2 x y v u Q I2 rx ry q)
theorem iI{op:UnaryOp}{r:V->Hp->VK->Prop}(ho:xC X (unaryOp op) r)(ha:PE X a ta):PE X (.UnaryOp op a pos) (Kp r ta):=by
 intro pins s σ H Q I h
 exact UnaryOp_ (aU (ha pins s σ H _ I h) fun v s1 ⟨x,H1,I1,r1,q1⟩=>ho pins s1 σ H1 x v Q I1 r1 q1)
theorem xE{f:Value->Value->Sem Value}{C:Int->Int->Prop}{g:Int->Int->Int}
  (rule:∀(i j:Int) (t u:Tok) (s:Shared) (Q:Value->Shared->Prop) (E:Value->Shared->Prop),C i j->Q (.int (g i j) s.toks) {s with toks:=s.toks+1}->wpAny (model X.prog X.w) X.A (f (.int i t) (.int j u)) Q E s):
  cT X f (rI C fun i j=>.int (g i j)):=by
 intro pins s σ H x y v u Q I rx ry h
 obtain⟨i,j,rfl,rfl,hc,q⟩:=h
 obtain⟨t,rfl⟩:=rx
 obtain⟨t',rfl⟩:=ry
 exact rule i j t t' s _ _ hc ⟨.int (g i j),H,I.tok _,⟨_,rfl⟩,q⟩
theorem C8{f:Value->Value->Sem Value}{g:Int->Int->Int}
  (rule:∀(i j:Int) (t u:Tok) (s:Shared) (Q:Value->Shared->Prop) (E:Value->Shared->Prop),Q (.int (g i j) s.toks) {s with toks:=s.toks+1}->wpAny (model X.prog X.w) X.A (f (.int i t) (.int j u)) Q E s):
  cT X f (mE fun i j=>.int (g i j)):=by
 intro pins s σ H x y v u Q I rx ry h
 obtain⟨i,j,rfl,rfl,q⟩:=h
 obtain⟨t,rfl⟩:=rx
 obtain⟨t',rfl⟩:=ry
 exact rule i j t t' s _ _ ⟨.int (g i j),H,I.tok _,⟨_,rfl⟩,q⟩
theorem uF{f:Value->Value->Sem Value}{g:Int->Int->Bool}
  (rule:∀(i j:Int) (t u:Tok) (s:Shared) (Q:Value->Shared->Prop) (E:Value->Shared->Prop),Q (.bool (g i j)) s->wpAny (model X.prog X.w) X.A (f (.int i t) (.int j u)) Q E s):
  cT X f (mE fun i j=>.bl (g i j)):=by
 intro pins s σ H x y v u Q I rx ry h
 obtain⟨i,j,rfl,rfl,q⟩:=h
 obtain⟨t,rfl⟩:=rx
 obtain⟨t',rfl⟩:=ry
 exact rule i j t t' s _ _ ⟨.bl (g i j),H,I,rfl,q⟩
def Kq(i j:Int):Prop:=0<j/\j<1073741824
def xF(i j:Int):Prop:=(-(2 ^ 64)<i/\i<2 ^ 64)\/(-(2 ^ 64)<j/\j<2 ^ 64)
theorem xF.ok{i j:Int}(h:xF i j):IntMulOk i j:=by
 rcases h with ⟨h1,h2⟩|⟨h1,h2⟩
 ·exact .of_left (intBits_le_64 h1 h2)
 ·exact .of_right (intBits_le_64 h1 h2)
theorem bZ:cT X (binaryOp .Add) (mE fun i j=>.int (i+j)):=C8 fun _ _ _ _ _ _ _ q=>add_int q
theorem cB:cT X (binaryOp .Sub) (mE fun i j=>.int (i - j)):=C8 fun _ _ _ _ _ _ _ q=>sub_int q
theorem jc:cT X (binaryOp .Mult) (rI xF fun i j=>.int (i * j)):=xE fun _ _ _ _ _ _ _ hc q=>mul_int q hc.ok
theorem C9:cT X (binaryOp .FloorDiv) (rI Kq fun i j=>.int (i / j)):=xE fun i j _ _ _ _ _ hc q=>by
 have h1:(0:Int)<j:=hc.1
 have h2:j<1073741824:=hc.2
 exact floordiv_int (by omega) (by rw[Int.fdiv_eq_ediv_of_nonneg i (by omega)];exact q) (.inl (PyProof.noPylong_small (by omega)))
theorem pE:cT X (binaryOp .Mod) (rI (fun _ j=>0<j) fun i j=>.int (i % j)):=xE fun i j _ _ _ _ _ hc q=>by
 have h1:(0:Int)<j:=hc
 exact mod_int' (by omega) (by rw[Int.fmod_eq_emod_of_nonneg i (by omega)];exact q)
theorem Kr{f:Value->Sem Value}{g:Int->Int}
  (rule:∀(i:Int) (t:Tok) (s:Shared) (Q:Value->Shared->Prop) (E:Value->Shared->Prop),Q (.int (g i) s.toks) {s with toks:=s.toks+1}->wpAny (model X.prog X.w) X.A (f (.int i t)) Q E s):
  xC X f (rU fun i=>.int (g i)):=by
 intro pins s σ H x v Q I rx h
 obtain⟨i,rfl,q⟩:=h
 obtain⟨t,rfl⟩:=rx
 exact rule i t s _ _ ⟨.int (g i),H,I.tok _,⟨_,rfl⟩,q⟩
theorem iJ:xC X (unaryOp .USub) (rU fun i=>.int (-i)):=Kr fun _ _ _ _ _ q=>neg_int q
end
def C_:V->V->Bool
 |.aW,.aW=>true|.aW,.int _=>true|.int _,.aW=>true|.aW,.bl _=>true|.bl _,.aW=>true|.aW,.str _=>true|.str _,.aW=>true
 |.int _,.int _=>true|.bl _,.bl _=>true|.str _,.str _=>true|.gv _,.gv _=>true
 |.int _,.str _=>true|.str _,.int _=>true|.bl _,.str _=>true|.str _,.bl _=>true
 |_,_=>false
def Ks:R2:=fun x y H Q=>C_ x y=true/\Q (.bl (decide (x=y))) H
def Dc:R2:=fun x y H Q=>C_ x y=true/\Q (.bl (!decide (x=y))) H
theorem Dd{i j:Int}:decide (V.int i=V.int j)=(i == j):=by
 rw[jC]
 simp
theorem De{i j:Bool}:decide (V.bl i=V.bl j)=(i == j):=by
 rw[jC]
 simp
theorem Dg{i j:Str}:decide (V.str i=V.str j)=(i == j):=by
 rw[jC]
 simp
theorem Dh{i j:Array UInt8}:decide (V.gv i=V.gv j)=(i.toList == j.toList):=by
 rw[jC]
 cases i
 cases j
 simp
section
variable{X:Cx}{a b c:Expr}{ta tb tc:TE}{pos:Pos}
theorem cM{pins:List (Addr×Obj)}{σ:St}{H:Hp}{s:Shared}{Q:VK}{k k':Bool}(I:Inv X pins σ H s)(q:Q (.bl k) H)(e:k=k'):EP X pins σ Q (.bool k') s:=by
 subst e
 exact⟨.bl k,H,I,rfl,q⟩
theorem nj:cT X (compareOp .Eq) Ks:=by
 intro pins s σ H x y v u Q I rx ry h
 obtain⟨hs,q⟩:=h
 cases x with
 |aW=>
  cases rx
  cases y with
  |aW=>cases ry;exact PySem.EqNone.eq_none_none (cM I q (by simp))
  |bl j=>cases ry;exact PySem.EqNone.eq_none_bool (cM I q (by simp))
  |int j=>obtain⟨t',rfl⟩:=ry;exact PySem.EqNone.eq_none_int (cM I q (by simp))
  |str j=>obtain⟨t',rfl⟩:=ry;exact PySem.EqNone.eq_none_str (cM I q (by simp))
  |_=>exact absurd (show false=true from hs) fj
 |bl i=>
  cases rx
  cases y with
  |aW=>cases ry;exact PySem.EqNone.eq_bool_none (cM I q (by simp))
  |bl j=>cases ry;exact eq_bool (cM I q De)
  |str j=>obtain⟨t',rfl⟩:=ry;exact PySem.EqMixed.eq_bool_str (cM I q (by simp))
  |_=>exact absurd (show false=true from hs) fj
 |int i=>
  obtain⟨t,rfl⟩:=rx
  cases y with
  |aW=>cases ry;exact PySem.EqNone.eq_int_none (cM I q (by simp))
  |int j=>obtain⟨t',rfl⟩:=ry;exact eq_int (cM I q Dd)
  |str j=>obtain⟨t',rfl⟩:=ry;exact PySem.EqMixed.eq_int_str (cM I q (by simp))
  |_=>exact absurd (show false=true from hs) fj
 |str i=>
  obtain⟨t,rfl⟩:=rx
  cases y with
  |aW=>cases ry;exact PySem.EqNone.eq_str_none (cM I q (by simp))
  |bl j=>cases ry;exact PySem.EqMixed.eq_str_bool (cM I q (by simp))
  |int j=>obtain⟨t',rfl⟩:=ry;exact PySem.EqMixed.eq_str_int (cM I q (by simp))
  |str j=>obtain⟨t',rfl⟩:=ry;exact eq_str (cM I q Dg)
  |_=>exact absurd (show false=true from hs) fj
 |gv i=>
  obtain⟨t,rfl⟩:=rx
  cases y with
  |gv j=>obtain⟨t',rfl⟩:=ry;exact PySem.W.eq_bytes (cM I q Dh)
  |_=>exact absurd (show false=true from hs) fj
 |_=>cases y<;>exact absurd (show false=true from hs) fj
theorem nk:cT X (compareOp .NotEq) Dc:=by
 intro pins s σ H x y v u Q I rx ry h
 obtain⟨hs,q⟩:=h
 cases x with
 |aW=>
  cases rx
  cases y with
  |aW=>cases ry;exact PySem.EqNone.ne_none_none (cM I q (by simp))
  |bl j=>cases ry;exact PySem.EqNone.ne_none_bool (cM I q (by simp))
  |int j=>obtain⟨t',rfl⟩:=ry;exact PySem.EqNone.ne_none_int (cM I q (by simp))
  |str j=>obtain⟨t',rfl⟩:=ry;exact PySem.EqNone.ne_none_str (cM I q (by simp))
  |_=>exact absurd (show false=true from hs) fj
 |bl i=>
  cases rx
  cases y with
  |aW=>cases ry;exact PySem.EqNone.ne_bool_none (cM I q (by simp))
  |bl j=>cases ry;exact ne_bool (cM I q (bO not De))
  |str j=>obtain⟨t',rfl⟩:=ry;exact PySem.EqMixed.ne_bool_str (cM I q (by simp))
  |_=>exact absurd (show false=true from hs) fj
 |int i=>
  obtain⟨t,rfl⟩:=rx
  cases y with
  |aW=>cases ry;exact PySem.EqNone.ne_int_none (cM I q (by simp))
  |int j=>obtain⟨t',rfl⟩:=ry;exact ne_int (cM I q (bO not Dd))
  |str j=>obtain⟨t',rfl⟩:=ry;exact PySem.EqMixed.ne_int_str (cM I q (by simp))
  |_=>exact absurd (show false=true from hs) fj
 |str i=>
  obtain⟨t,rfl⟩:=rx
  cases y with
  |aW=>cases ry;exact PySem.EqNone.ne_str_none (cM I q (by simp))
  |bl j=>cases ry;exact PySem.EqMixed.ne_str_bool (cM I q (by simp))
  |int j=>obtain⟨t',rfl⟩:=ry;exact PySem.EqMixed.ne_str_int (cM I q (by simp))
  |str j=>obtain⟨t',rfl⟩:=ry;exact ne_str (cM I q (bO not Dg))
  |_=>exact absurd (show false=true from hs) fj
 |gv i=>
  obtain⟨t,rfl⟩:=rx
  cases y with
  |gv j=>obtain⟨t',rfl⟩:=ry;exact PySem.W.ne_bytes (cM I q (bO not Dh))
  |_=>exact absurd (show false=true from hs) fj
 |_=>cases y<;>exact absurd (show false=true from hs) fj
theorem gw:cT X (compareOp .Lt) (mE fun i j=>.bl (decide (i<j))):=uF fun _ _ _ _ _ _ _ q=>lt_int q
theorem rD:cT X (compareOp .LtE) (mE fun i j=>.bl (decide (i<=j))):=uF fun _ _ _ _ _ _ _ q=>le_int q
theorem eM:cT X (compareOp .Gt) (mE fun i j=>.bl (decide (j<i))):=uF fun _ _ _ _ _ _ _ q=>gt_int q
theorem xG:cT X (compareOp .GtE) (mE fun i j=>.bl (decide (j<=i))):=uF fun _ _ _ _ _ _ _ q=>ge_int q
theorem km:cT X (compareOp .Is) (fun x y H Q=>y=.aW/\Q (.bl (decide (x=.aW))) H):=by
 intro pins s σ H x y v u Q I rx ry h
 obtain⟨rfl,q⟩:=h
 cases ry
 refine is_none_gen (cM I q ?_)
 cases x<;>first
  |(cases rx;rfl)
  |(obtain⟨t,rfl⟩:=rx;rfl)
theorem Dj(b:Expr){op:CmpOp}(h:op≠.In:=by decide)(h2:op≠.NotIn:=by decide):behindInMarks op b=false:=by
 have e1:(op == CmpOp.In)=false:=by cases op<;>first|rfl|exact absurd rfl h
 have e2:(op == CmpOp.NotIn)=false:=by cases op<;>first|rfl|exact absurd rfl h2
 cases b<;>simp[behindInMarks,e1,e2]
theorem Kt{op:CmpOp}{r:R2}(ho:cT X (compareOp op) r)(ha:PE X a ta)(hb:PE X b tb)(hm:behindInMarks op b=false):PE X (.Compare a [op] [b] pos) (eK r ta tb):=by
 intro pins s σ H Q I h
 exact wpAny_Compare1 (xD ha hb I h fun v u s2 x y H2 I2 rx ry q=>ho pins s2 σ H2 x y v u Q I2 rx ry q) hm
def pF(t:TE):TT:=fun σ H Q=>t σ H fun x H'=>∃k,x=.bl k/\Q k H'
theorem Ku{op:CmpOp}{r:R2}(ho:cT X (compareOp op) r)(ha:PE X a ta)(hb:PE X b tb)(hm:behindInMarks op b=false):PT X (.Compare a [op] [b] pos) (pF (eK r ta tb)):=by
 intro pins s σ H Q I h
 refine wpAny_isTrue_Compare1 (aU (ha pins s σ H _ I h) fun v s1 ⟨x,H1,I1,r1,q1⟩=>aU (hb pins s1 σ H1 _ I1 q1) fun u s2 ⟨y,H2,I2,r2,q2⟩=>
  aU (ho pins s2 σ H2 x y v u _ I2 r1 r2 q2) fun c s3 ⟨z,H3,I3,r3,k,e,q3⟩=>?_) hm
 subst e
 cases r3
 exact wpAny_truthy_bool ⟨H3,I3,q3⟩
def Dk(r r':R2)(ta tb tc:TE):TE:=fun σ H Q=>ta σ H fun x H1=>tb σ H1 fun y H2=>r x y H2 fun z H3=>∃k,z=.bl k/\
 (if k=true then tc σ H3 fun w' H4=>r' y w' H4 Q else Q (.bl false) H3)
theorem Dl{op op':CmpOp}{r r':R2}(ho:cT X (compareOp op) r)(ho':cT X (compareOp op') r')(ha:PE X a ta)(hb:PE X b tb)(hc:PE X c tc)
  (hm:lastMarks [op,op'] [b,c]=false:=by with_unfolding_all rfl):PE X (.Compare a [op,op'] [b,c] pos) (Dk r r' ta tb tc):=by
 intro pins s σ H Q I h
 refine Compare_chain (aU (ha pins s σ H _ I h) fun v s1 ⟨x,H1,I1,r1,q1⟩=>chain_link (aU (hb pins s1 σ H1 _ I1 q1) fun u s2 ⟨y,H2,I2,r2,q2⟩=>
  aU (ho pins s2 σ H2 x y v u _ I2 r1 r2 q2) fun d s3 ⟨z,H3,I3,r3,k,e,q3⟩=>?_)) hm
 subst e
 cases r3
 refine wpAny_truthy_bool ?_
 cases k with
 |false=>exact ite_ff ⟨.bl false,H3,I3,rfl,q3⟩
 |true=>exact ite_tt (chain_last (aU (hc pins s3 σ H3 _ I3 q3) fun w' s4 ⟨z',H4,I4,r4,q4⟩=>ho' pins s4 σ H4 y z' u w' Q I4 r2 r4 q4))
theorem Kv{op op':CmpOp}{r r':R2}(ho:cT X (compareOp op) r)(ho':cT X (compareOp op') r')(ha:PE X a ta)(hb:PE X b tb)(hc:PE X c tc)
  (hm:lastMarks [op,op'] [b,c]=false:=by with_unfolding_all rfl):PT X (.Compare a [op,op'] [b,c] pos) (pF (Dk r r' ta tb tc)):=by
 intro pins s σ H Q I h
 refine isTrue_chain (aU (ha pins s σ H _ I h) fun v s1 ⟨x,H1,I1,r1,q1⟩=>test_link (aU (hb pins s1 σ H1 _ I1 q1) fun u s2 ⟨y,H2,I2,r2,q2⟩=>
  aU (ho pins s2 σ H2 x y v u _ I2 r1 r2 q2) fun d s3 ⟨z,H3,I3,r3,k,e,q3⟩=>?_)) hm
 subst e
 cases r3
 refine wpAny_truthy_bool ?_
 cases k with
 |false=>
  obtain⟨k',e',q'⟩:=q3
  cases e'
  exact ite_ff ⟨H3,I3,q'⟩
 |true=>
  refine ite_tt (test_last (aU (hc pins s3 σ H3 _ I3 q3) fun w' s4 ⟨z',H4,I4,r4,q4⟩=>aU (ho' pins s4 σ H4 y z' u w' _ I4 r2 r4 q4) fun d' s5 ⟨z2,H5,I5,r5,k2,e2,q5⟩=>?_))
  subst e2
  cases r5
  exact wpAny_truthy_bool ⟨H5,I5,q5⟩
theorem uG:(sizeLine:Nat)<2 ^ 63:=by rw[sizeLine_eq];decide
theorem vals1{x:V}{us:List Value}(r:aK [x] us):∃u,us=[u]/\RelV x u:=by
 cases r with
 |cons r1 r2=>cases r2;exact⟨_,rfl,r1⟩
theorem vals2{x y:V}{us:List Value}(r:aK [x,y] us):∃u w',us=[u,w']/\RelV x u/\RelV y w':=by
 cases r with
 |cons r1 r2=>
  cases r2 with
  |cons r3 r4=>cases r4;exact⟨_,_,rfl,r1,r3⟩
theorem lu:i_ X (.builtin "abs") (fun xs H Q=>∃i,xs=[.int i]/\Q (.int (if i<0 then -i else i)) H):=by
 intro pins s σ H xs us Q I r h
 obtain⟨i,rfl,q⟩:=h
 obtain⟨u,rfl,t,rfl⟩:=vals1 r
 exact call_abs_int fun u tk=>⟨.int (if i<0 then -i else i),H,I.tok _,⟨_,rfl⟩,q⟩
theorem Kw(hc:X.calm=true):i_ X (.builtin "max") (fun xs H Q=>∃i j,xs=[.int i,.int j]/\Q (.int (if j > i then j else i)) H):=by
 intro pins s σ H xs us Q I r h
 obtain⟨i,j,rfl,q⟩:=h
 obtain⟨u,w',rfl,⟨t,rfl⟩,⟨t',rfl⟩⟩:=vals2 r
 refine max_two_ints (I.ok.hd hc) fun h' tk k=>⟨_,H,I.kept k,?_,q⟩
 by_cases hj:j > i
 ·rw[af hj,af hj];exact⟨_,rfl⟩
 ·rw[ae hj,ae hj];exact⟨_,rfl⟩
theorem Dn(hc:X.calm=true):i_ X (.builtin "min") (fun xs H Q=>∃i j,xs=[.int i,.int j]/\Q (.int (if j<i then j else i)) H):=by
 intro pins s σ H xs us Q I r h
 obtain⟨i,j,rfl,q⟩:=h
 obtain⟨u,w',rfl,⟨t,rfl⟩,⟨t',rfl⟩⟩:=vals2 r
 refine min_two_ints (I.ok.hd hc) fun h' tk k=>⟨_,H,I.kept k,?_,q⟩
 by_cases hj:j<i
 ·rw[af hj,af hj];exact⟨_,rfl⟩
 ·rw[ae hj,ae hj];exact⟨_,rfl⟩
end
end L2
namespace L2
open PySem PySem.Spec PyProof.Rows
structure nq(h:Heap)(x dx C:Addr)(mA:Str->Option Value):Prop where
 obj:h.get? x=some (PySem.W.instObj C dx)
 ns:h.Ns1 dx mA
 ne:dx≠x
theorem Kx{h:Heap}{dx:Addr}{mA:Str->Option Value}(n:h.Ns1 dx mA):∃od,h.get? dx=some od/\∀name,PySem.W.lookIn name od=some (mA name):=by
 obtain⟨o,es,ep,ho,hd,hk,_,hm⟩:=n
 refine⟨o,ho,fun name=>?_⟩
 have e:=hm name
 unfold nsFind findBy at e
 rw[<-Array.find?_toList]at e
 unfold PySem.W.lookIn
 rw[hd]
 dsimp only
 split
 ·rename_i y q
  rw[q]at e
  exact bO some e
 ·rename_i q
  rw[q]at e
  have a:es.toList.any (·.refKey)=false:=by
   rw[List.any_eq_false]
   intro y hy
   obtain⟨z,t,hkey⟩:=hk y (Array.mem_toList_iff.mp hy)
   simp[DictEntry.refKey,hkey]
  have a':¬es.toList.any (·.refKey)=true:=by rw[a];exact fj
  rw[ae a']
  exact bO some e
theorem nq.look{h:Heap}{x dx C:Addr}{mA:Str->Option Value}(I:nq h x dx C mA):∃od,PySem.W.InstAt h x (PySem.W.instObj C dx) C (some od)/\∀name,PySem.W.lookIn name od=some (mA name):=
 let ⟨od,ho,hl⟩:=Kx I.ns
 ⟨od,⟨I.obj,rfl,rfl,ho⟩,hl⟩
section
variable{prog:Program}{w:World}{A:Around}{E:Value->Shared->Prop}{s:Shared}{K:PySem.W.Frag}{x dx C f:Addr}{mA:Str->Option Value}{name:Str}{v:Value}
theorem get_map{expr:Bool}{Q:Value->Shared->Prop}(X:K.In s.heap)(I:nq s.heap x dx C mA)(hg:PySem.W.plainGet K C name=true)(hh:PySem.W.hasDictIn K C=true)
  (ha:PySem.W.findIn K (.ref C) name=some none)(hv:mA name=some v)(hv':PySem.W.handedIn v=true)(h:Q v {s with toks:=s.toks+1}):
  wpAny (model prog w) A (getAttr (.ref x) name expr) Q E s:=by
 obtain⟨od,J,hl⟩:=I.look
 exact PySem.W.get_value X J (PySem.W.plainGet_of hg).1 (PySem.W.findObj_own hh ha rfl (by rw[hl,hv])) hv' h
theorem Ky{pl:Sem Bool}{Q:Value×List Value->Shared->Prop}(X:K.In s.heap)(I:nq s.heap x dx C mA)(hg:PySem.W.plainGet K C name=true)
  (hf:PySem.W.findIn K (.ref C) name=some (some (.ref f)))(ht:PySem.W.isFn K (.ref f)=true)(hv:mA name=none)(h:Q (.ref f,[.ref x]) s):
  wpAny (model prog w) A (getMethod (.ref x) name pl) Q E s:=by
 obtain⟨od,J,hl⟩:=I.look
 exact PySem.W.method_fn X J (PySem.W.plainGet_of hg).1 (PySem.W.plainGet_of hg).2 hf (beq_iff_eq.mp ht) (by show (PySem.W.lookIn name od).map (·.isSome)=some false;rw[hl,hv];rfl) h
theorem Kz{ns:List Str}{Q:Unit->Shared->Prop}(X:K.In s.heap)(I:nq s.heap x dx C mA)
  (hs:PySem.W.findIn K (.ref C) "__setattr__"=some (some (.builtin "object.__setattr__")))(hp:PySem.W.plainOver K C=true)(ht:PySem.W.takerIn K C name=some none)(hh:PySem.W.hasDictIn K C=true)
  (hw:PySem.Within mA ns)(hsz:ns.length<=sizeLine)
  (h:∀h',nq h' x dx C (fun y=>if y=name then some v else mA y)->Heap.SameBut dx s.heap h'->Q () {s with heap:=h',toks:=s.toks+2}):
  wpAny (model prog w) A (setAttr (.ref x) name v) Q E s:=by
 obtain⟨od,J,hl⟩:=I.look
 refine PySem.W.set_plain X J hs (PySem.W.osa_open (s:={s with toks:=s.toks+1}) (r:=none) X J hp ht fun b=>?_)
 obtain⟨cd,hc,hd'⟩:=PySem.W.any_some hh
 have hx:s.heap.get? x=some ⟨.ref C,some dx,.plain,#[]⟩:=I.obj
 refine wpAny_bind (wpAny_pure (wpAny_bind (wpAny_bind (wpAny_loadPart hx (wpAny_bind (PySem.W.Looks.here (s:={s with toks:=s.toks+1}) (PySem.W.looks_clsIn X hc) ?_))))))
 rw[hd']
 refine wpAny_pure (a:=some dx) (wpAny_bind (wpAny_pure (wpAny_bind ?_)))
 refine wpAny_nsSet1 (s:={s with toks:=s.toks+1}) I.ns fun h' hn2 hs2=>?_
 obtain⟨oD,esD,epD,hoD,hdD,hcD⟩:=hn2.count (PySem.Within.cons name v hw)
 refine wpAny_bind (wpAny_lookBehind hoD (by rw[hdD];exact pastItsLine_dict (cz hcD (by rw[bP];omega))) ?_)
 exact wpAny_pure (h _ ⟨(hs2.2 _ (Ne.symm I.ne)).trans I.obj,hn2,I.ne⟩ hs2)
theorem KA{R:Result->Shared->Prop}{vs:List Value}{kw:List (Str×Value)}(X:K.In s.heap)(hm:PySem.W.makesIn K C=true)
  (hi:PySem.W.findIn K (.ref C) "__init__"=some (some (.ref f)))(hf:PySem.W.typeIn K (.ref f)=some (.type "function"))
  (h:codeAny (model prog w) (A.under (.builtin "type.__call__" ⟨.ref C::vs,kw⟩)) (.call (.ref f) ⟨.ref (s.heap.objs.size+1)::vs,kw⟩) (PySem.W.InitBack (s.heap.objs.size+1) R)
   {s with heap:=(s.heap.push PySem.W.emptyDict).push (PySem.W.instObj C s.heap.objs.size)}):
  codeAny (model prog w) A (.call (.ref C) ⟨vs,kw⟩) R s:=by
 obtain⟨hh,g,d,t,os⟩:=s
 exact PySem.W.make_core (PySem.W.makes_of X hm) (PySem.W.looks_findIn X hi) (fun self=>PySem.W.bind_fn X self hf) (.inl rfl) h
end
def b0(f:Str)(v:V):List (Str×V)->List (Str×V)
 |[]=>[(f,v)]
 |(g,x)::r=>if g=f then (g,v)::r else (g,x)::b0 f v r
theorem cO(f g:Str)(v:V):∀fs:List (Str×V),(b0 f v fs).lookup g=if g=f then some v else fs.lookup g
 |[]=>by
  show List.lookup g [(f,v)]=_
  by_cases h:g=f
  ·have hb:(g == f)=true:=beq_iff_eq.mpr h
   simp only [List.lookup,hb,af h]
  ·have hb:(g == f)=false:=qH.mpr h
   simp only [List.lookup,hb,ae h]
 |(k,x)::r=>by
  have ih:=cO f g v r
  rw[show b0 f v ((k,x)::r)=(if k=f then (k,v)::r else (k,x)::b0 f v r) from rfl]
  by_cases hk:k=f
  ·rw[af hk]
   by_cases h:g=k
   ·have hb:(g == k)=true:=beq_iff_eq.mpr h
    simp only [List.lookup,hb,af (h.trans hk)]
   ·have hb:(g == k)=false:=qH.mpr h
    simp only [List.lookup,hb,ae (fun e:g=f=>h (e.trans hk.symm))]
  ·rw[ae hk]
   by_cases h:g=k
   ·have hb:(g == k)=true:=beq_iff_eq.mpr h
    simp only [List.lookup,hb,ae (fun e:g=f=>hk (h.symm.trans e))]
   ·have hb:(g == k)=false:=qH.mpr h
    simp only [List.lookup,hb]
    exact ih
theorem xH(f:Str)(v:V):∀fs:List (Str×V),f∈(b0 f v fs).map (·.1)/\∀g,g∈fs.map (·.1)->g∈(b0 f v fs).map (·.1)
 |[]=>⟨by simp[b0],fun g h=>by simp at h⟩
 |(k,x)::r=>by
  obtain⟨i1,i2⟩:=xH f v r
  rw[show b0 f v ((k,x)::r)=(if k=f then (k,v)::r else (k,x)::b0 f v r) from rfl]
  by_cases hk:k=f
  ·rw[af hk]
   subst hk
   exact⟨by simp,fun g h=>by simpa using h⟩
  ·rw[ae hk]
   refine⟨?_,fun g h=>?_⟩
   ·rw[dQ]
    exact bH _ i1
   ·rw[dQ]at h ⊢
    rcases cj.mp h with e|e
    ·exact cj.mpr (.inl e)
    ·exact bH _ (i2 g e)
theorem Dq(f:Str)(v:V):∀fs:List (Str×V),(b0 f v fs).length<=fs.length+1
 |[]=>by simp[b0]
 |(k,x)::r=>by
  have ih:=Dq f v r
  rw[show b0 f v ((k,x)::r)=(if k=f then (k,v)::r else (k,x)::b0 f v r) from rfl]
  by_cases hk:k=f
  ·rw[af hk,bP,bP];omega
  ·rw[ae hk,bP,bP];omega
theorem i5.some_of{v:V}{o:Option Value}(r:i5 (some v) o):∃u,o=some u/\RelV v u:=by
 cases o with
 |none=>exact(show False from r).elim
 |some u=>exact⟨u,rfl,r⟩
theorem i5.none_of{o:Option Value}(r:i5 none o):o=none:=by
 cases o with
 |none=>rfl
 |some u=>exact(show False from r).elim
theorem KC{v:V}{u:Value}(r:RelV v u):PySem.W.handedIn u=true:=by
 cases v with
 |aW=>cases (show u=Value.none from r);rfl
 |bl b=>cases (show u=Value.bool b from r);rfl
 |int i=>obtain⟨t,e⟩:=(show ∃t,u=Value.int i t from r);cases e;rfl
 |str x=>obtain⟨t,e⟩:=(show ∃t,u=Value.str x t from r);cases e;rfl
 |gv b=>obtain⟨t,e⟩:=(show ∃t,u=Value.bytes b t from r);cases e;rfl
 |ur b=>obtain⟨t,e⟩:=(show ∃t,u=Value.float b t from r);cases e;rfl
 |ref a=>cases (show u=Value.ref a from r);rfl
 |ty n=>cases (show u=Value.type n from r);rfl
section
variable{P:Program}{w:World}{H H':Hp}{h h':Heap}{a C dx:Addr}{fs fs':List (Str×V)}
theorem xI(aP:cS P w H h)(e:H a=some (.ins C dx fs)):∃mA,nq h a dx C mA/\(∀f,i5 (fs.lookup f) (mA f))/\PySem.Within mA (fs.map (·.1))/\fs.length<=1000/\H dx=some (.own a):=by
 obtain⟨d,z,ne,ob,mA,n,r,q⟩:=(show eE P w H h a (.ins C dx fs) from aP a _ e)
 exact⟨mA,⟨ob,n,ne⟩,r,q,z,d⟩
end
structure fW(K:PySem.W.Frag)(C:Addr):Prop where
 pg:PySem.W.plainGet K C Str.empty=true
 hd:PySem.W.hasDictIn K C=true
 po:PySem.W.plainOver K C=true
 sa:PySem.W.findIn K (.ref C) "__setattr__"=some (some (.builtin "object.__setattr__"))
theorem fW.get{K:PySem.W.Frag}{C:Addr}(c:fW K C)(f:Str):PySem.W.plainGet K C f=true:=c.pg
def eV(K:PySem.W.Frag)(C:Addr)(f:Str):Prop:=PySem.W.findIn K (.ref C) f=some none
theorem eV.KD{K:PySem.W.Frag}{C:Addr}{f:Str}(n:eV K C f):PySem.W.takerIn K C f=some none:=by
 unfold PySem.W.takerIn
 rw[show PySem.W.findIn K (.ref C) f=some none from n]
 rfl
structure rE(K:PySem.W.Frag)(C:Addr)(m:Str)(f:Addr):Prop where
 at_:PySem.W.findIn K (.ref C) m=some (some (.ref f))
 fn:PySem.W.isFn K (.ref f)=true
 kp:PySem.W.keepIn K (.ref f)=true
section
variable{X:Cx}{pins:List (Addr×Obj)}{σ:St}{H:Hp}{s:Shared}{a C dx:Addr}{fs:List (Str×V)}{f:Str}{v:V}{A:Around}{E:Value->Shared->Prop}
theorem KE{b:Bool}{Q:Value->Shared->Prop}(I:Inv X pins σ H s)(e:H a=some (.ins C dx fs))(c:fW X.K C)(n:eV X.K C f)(l:fs.lookup f=some v)
  (h:∀u s',Inv X pins σ H s'->RelV v u->Q u s'):wpAny (model X.prog X.w) A (getAttr (.ref a) f b) Q E s:=by
 obtain⟨mA,O,r,_,_,_⟩:=xI I.aP e
 obtain⟨u,hu,ru⟩:=i5.some_of (v:=v) (o:=mA f) (by rw[<-l];exact r f)
 exact get_map I.fV O (c.get f) c.hd n hu (KC ru) (h u _ (I.tok _) ru)
theorem Dr{m:Str}{g:Addr}{pl:Sem Bool}{Q:Value×List Value->Shared->Prop}(I:Inv X pins σ H s)(e:H a=some (.ins C dx fs))(c:fW X.K C)(k:rE X.K C m g)(l:fs.lookup m=none)
  (h:Q (.ref g,[.ref a]) s):wpAny (model X.prog X.w) A (getMethod (.ref a) m pl) Q E s:=by
 obtain⟨mA,O,r,_,_,_⟩:=xI I.aP e
 have hn:mA m=none:=i5.none_of (by rw[<-l];exact r m)
 exact Ky I.fV O (c.get m) k.at_ k.fn hn h
theorem KG{y:V}{u:Value}{Q:Unit->Shared->Prop}(I:Inv X pins σ H s)(e:H a=some (.ins C dx fs))(c:fW X.K C)(n:eV X.K C f)(hl:fs.length<1000)(ry:RelV y u)
  (h:∀s',Inv X pins σ (upd H a (.ins C dx (b0 f y fs))) s'->Q () s'):wpAny (model X.prog X.w) A (setAttr (.ref a) f u) Q E s:=by
 obtain⟨mA,O,r,wi,_,ho⟩:=xI I.aP e
 have hz:(fs.map (·.1)).length<=sizeLine:=by rw[aE,sizeLine_eq];omega
 refine Kz I.fV O c.sa c.po n.KD c.hd wi hz fun h' O' sb=>h _ ?_
 have hd:∃o,h'.get? dx=some o:=let ⟨o,_,_,e',_⟩:=O'.ns;⟨o,e'⟩
 refine I.write (x:=a) (e:=dx) (by rw[e];exact True.intro) (.inr ho) (fun b q hb z=>(sb.2 b hb).trans z) hd ?_
 refine⟨by rw[ax O.ne];exact ho,?_,O.ne,O'.obj,_,O'.ns,fun g=>?_,fun g hg=>?_⟩
 ·have:=Dq f y fs;omega
 ·show i5 ((b0 f y fs).lookup g) (if g=f then some u else mA g)
  rw[cO]
  by_cases q:g=f
  ·rw[af q,af q];exact ry
  ·rw[ae q,ae q];exact r g
 ·by_cases q:g=f
  ·rw[q];exact(xH f y fs).1
  ·refine(xH f y fs).2 g (wi g fun z=>hg ?_)
   show (if g=f then some u else mA g)=none
   rw[ae q];exact z
theorem Inv.made(I:Inv X pins σ H s):Inv X pins σ (upd (upd H s.heap.objs.size (.own (s.heap.objs.size+1))) (s.heap.objs.size+1) (.ins C s.heap.objs.size []))
  {s with heap:=(s.heap.push PySem.W.emptyDict).push (PySem.W.instObj C s.heap.objs.size)}:=by
 have e1:(s.heap.push PySem.W.emptyDict).get? s.heap.objs.size=some PySem.W.emptyDict:=Heap.get?_push_size s.heap rfl
 have e2:((s.heap.push PySem.W.emptyDict).push (PySem.W.instObj C s.heap.objs.size)).get? (s.heap.objs.size+1)=some (PySem.W.instObj C s.heap.objs.size):=by
  have:=Heap.get?_push_size (s.heap.push PySem.W.emptyDict) (o:=PySem.W.instObj C s.heap.objs.size) rfl
  rwa[Heap.size_push]at this
 have e3:(s.heap.push PySem.W.emptyDict).Ns s.heap.objs.size (fun _=>none):=⟨PySem.W.emptyDict,#[],_,e1,rfl,(fun e he=>absurd he (by simp)),fun _=>rfl⟩
 have I1:=I.laid (a:=s.heap.objs.size) (o:=.own (s.heap.objs.size+1)) (h':=s.heap.push PySem.W.emptyDict) (t':=s.toks) (fun b u q=>Heap.get?_push_of_some _ q) (aX _) ⟨_,e1⟩
 refine I1.laid (a:=s.heap.objs.size+1) (o:=.ins C s.heap.objs.size []) (t':=s.toks) (fun b u q=>Heap.get?_push_of_some _ q) (Nat.le_of_eq (Heap.size_push _ _)) ?_
 have ne:s.heap.objs.size≠s.heap.objs.size+1:=gF (Nat.lt_succ_self _)
 refine⟨by rw[ax ne,au],be _,ne,e2,fun _=>none,(Heap.Ns1.of_empty e3).at fun o q=>Heap.get?_push_of_some _ q,fun _=>True.intro,fun y hy=>absurd rfl hy⟩
theorem KH{prog:Program}{w:World}{env:Env}{e:Expr}{f:Str}{pos:Pos}{s:Shared}{Q:Value->Shared->Prop}(hb:attributeBase e f env (eval e env)=eval e env)
  (h:wpAny (model prog w) A (eval e env) (fun o s₁=>wpAny (model prog w) A (getAttr o f true) Q E s₁) E s):wpAny (model prog w) A (eval (.Attribute e f pos) env) Q E s:=
 Attribute_any_ h (by rw[arm_eval_Attribute,hb])
end
def jd(K:PySem.W.Frag)(ta:TE)(f:Str):TE:=fun σ H Q=>ta σ H fun x H1=>∃a C dx fs v,x=.ref a/\H1 a=some (.ins C dx fs)/\fW K C/\eV K C f/\fs.lookup f=some v/\Q v H1
def KI(K:PySem.W.Frag)(ta tv:TE)(f:Str):TS:=fun D σ H=>tv σ H fun y H1=>ta σ H1 fun x H2=>∃a C dx fs,x=.ref a/\H2 a=some (.ins C dx fs)/\fW K C/\eV K C f/\fs.length<1000/\
 D.nx σ (upd H2 a (.ins C dx (b0 f y fs)))
section
variable{X:Cx}{o e value:Expr}{f:Str}{pos pos' tpos:Pos}{ta tv:TE}
theorem Ds(he:PE X e ta)(hb:attributeBase e f X.env (eval e X.env)=eval e X.env):PE X (.Attribute e f pos) (jd X.K ta f):=by
 intro pins s σ H Q I h
 refine KH hb (aU (he pins s σ H _ I h) fun u s1 ⟨x,H1,I1,rx,a,C,dx,fs,v,ex,ea,c,n,l,q⟩=>?_)
 subst ex
 obtain rfl:u=Value.ref a:=rx
 exact KE I1 ea c n l fun u' s2 I2 ru=>⟨v,H1,I2,ru,q⟩
theorem gV(ha:PE X o ta)(hv:PE X value tv)(hs:swapsWith value (some (.Attribute o f pos')) pos.line X.env=pure false):PS X (.Assign [.Attribute o f pos'] value pos) (KI X.K ta tv f):=by
 intro pins s σ H D I h
 refine plainObj_wpAny_Assign_Attribute (aU (hv pins s σ H _ I h) fun u s1 ⟨y,H1,I1,ry,q⟩=>aU (ha pins s1 σ H1 _ I1 q) fun ov s2 ⟨x,H2,I2,rx,a,C,dx,fs,ex,ea,c,n,l,q2⟩=>?_) hs
 subst ex
 obtain rfl:ov=Value.ref a:=rx
 exact KG I2 ea c n l ry fun s3 I3=>⟨σ,_,I3,q2⟩
end
end L2
namespace L2
open PySem PySem.Spec PyProof.Rows
structure cy(k:Nat)(A:Around):Prop where
 hd:A.handled=none
 dp:A.depth+3 * k+5<recursionLimit
 un:A.units+16 * k+200<cLine
theorem cy.mono{j k:Nat}{A:Around}(r:cy k A)(h:j<=k):cy j A:=⟨r.hd,by have:=r.dp;omega,by have:=r.un;omega⟩
theorem cy.deeper{k:Nat}{A:Around}(r:cy (k+1) A)(env:Env):cy k (A.deeper env):=
 ⟨r.hd,by have:=r.dp;show A.depth+1+3 * k+5<_;omega,by have:=r.un;show A.units+3+16 * k+200<_;omega⟩
theorem KJ{A:Around}{C:Addr}{us:List Value}{kw:List (Str×Value)}:(A.under (.builtin "type.__call__" ⟨.ref C::us,kw⟩)).depth=A.depth+1:=by
 first|rfl|simp[Around.under,Code.weight,Code.isCreation,Code.isGuard,Code.isCaller,Code.frames,Code.isFrame,guardIds]
theorem KL{A:Around}{C:Addr}{us:List Value}{kw:List (Str×Value)}:(A.under (.builtin "type.__call__" ⟨.ref C::us,kw⟩)).units=A.units+1:=by
 first|rfl|simp[Around.under,Code.cUnits,Code.frames,Code.isFrame]
theorem cy.make{k:Nat}{A:Around}(r:cy (k+1) A)(C:Addr)(us:List Value)(kw:List (Str×Value)):cy k (A.under (.builtin "type.__call__" ⟨.ref C::us,kw⟩)):=
 ⟨r.hd,by have:=r.dp;rw[KJ];omega,by have:=r.un;rw[KL];omega⟩
theorem cy.depth{k:Nat}{A:Around}(r:cy k A):A.depth<recursionLimit:=by have:=r.dp;omega
theorem cy.units{k:Nat}{A:Around}(r:cy k A):A.units+64<cLine:=by have:=r.un;omega
def b_:TA:=fun _ H Q=>Q [] H
def bQ(ta:TE)(tr:TA):TA:=fun σ H Q=>ta σ H fun x H1=>tr σ H1 fun xs H2=>Q (x::xs) H2
section
variable{X:Cx}{e:Expr}{es:List Expr}{te:TE}{t:TA}{pos:Pos}
theorem gK:PA X [] b_:=fun _ _ _ _ H Q I h=>Calls.spliced_nil ⟨[],H,I,.nil,h⟩
theorem jL(ha:PE X e te)(hr:PA X es t)(hs:starEach (e::es) X.env=(false,eval e X.env)::starEach es X.env:=by rfl):PA X (e::es) (bQ te t):=by
 intro pos pins s σ H Q I h
 rw[hs]
 show wpAny _ _ (spliced ((false,eval e X.env)::backTo pos (starEach es X.env))) _ _ s
 refine Calls.spliced_cons (aU (ha pins s σ H _ I h) fun u s1 ⟨x,H1,I1,r1,q1⟩=>?_)
 exact aU (hr pos pins s1 σ H1 _ I1 q1) fun us s2 ⟨xs,H2,I2,r2,q2⟩=>⟨x::xs,H2,I2,.cons r1 r2,q2⟩
def je(t:TA):TE:=fun σ H Q=>t σ H fun xs H1=>xs.length<=sizeLine/\∀p,H1 p=none->Q (.ref p) (upd H1 p (.lst xs))
theorem aY(h:PA X es t):PE X (.List es pos) (je t):=by
 intro pins s σ H Q I hq
 refine wpAny_List_spliced (aU (h pos pins s σ H _ I hq) fun us s1 ⟨xs,H1,I1,r,z,q⟩=>⟨by rw[<-r.length];exact z,?_⟩)
 have hf:H1 s1.heap.objs.size=none:=I1.aP.fresh (aX _)
 refine⟨.ref s1.heap.objs.size,upd H1 s1.heap.objs.size (.lst xs),I1.laid (t':=s1.toks) (fun b u e=>Heap.get?_push_of_some _ e) (aX _) ?_,rfl,q _ hf⟩
 exact⟨z,us,0,r,Heap.get?_push_size _ rfl⟩
end
abbrev Sp:=List V->Hp->VK->XK->Prop
abbrev jM:=List Env->Hp->Shared->XK->Value->Shared->Prop
structure nt(P:Program)(w:World)(K:PySem.W.Frag)(mg:Str->Option Value)(base:Heap)(A:Around)(outer:List Env)(s:Shared)(H:Hp):Prop where
 frames:A.frames=some outer
 mod:Mod K mg base
 bs:∀b o,base.get? b=some o->s.heap.get? b=some o/\H b=none
 lh:base.objs.size<=s.heap.objs.size
 i6:s.heap.FunFrames base outer
 ng:∀b∈jG outer,H b=none
 aP:cS P w H s.heap
 bare:AllBare s.gens
def CE(outer:List Env)(P:Program)(w:World)(H:Hp)(s:Shared)(Q:VK)(u:Value)(s':Shared):Prop:=
 ∃v H',s'.os=s.os/\AllBare s'.gens/\Un (jG outer) [] H H' s.heap s'.heap/\cS P w H' s'.heap/\RelV v u/\Q v H'
def CR(CX:jM)(outer:List Env)(P:Program)(w:World)(H:Hp)(s:Shared)(Q:VK)(E:XK)(r:Result)(s':Shared):Prop:=
 match r with
 |.ok (.ret u)=>CE outer P w H s Q u s'
 |.ok _=>False
 |.error e=>CX outer H s E e s'
structure d8(P:Program)(w:World)(K:PySem.W.Frag)(mg:Str->Option Value)(base:Heap)(CX:jM)(k:Nat)(f:Addr)(fd:FuncData)(ps:List Str)(sp:Sp):Prop where
 len:∀vs H Q E,sp vs H Q E->vs.length=ps.length
 run:∀(A:Around) (outer:List Env) (s:Shared) (H:Hp) (args:Args) (us:List Value) (vs:List V) (Q:VK) (E:XK),cy k A->nt P w K mg base A outer s H->BindsTo s fd args (ps.zip us)->aK vs us->sp vs H Q E->
  codeAny (model P w) A (.call (.ref f) args) (CR CX outer P w H s Q E) s
theorem nt.make{P:Program}{w:World}{K:PySem.W.Frag}{mg:Str->Option Value}{base:Heap}{A:Around}{outer:List Env}{s:Shared}{H:Hp}(e:nt P w K mg base A outer s H)(C:Addr)(us:List Value)(kw:List (Str×Value)):
  nt P w K mg base (A.under (.builtin "type.__call__" ⟨.ref C::us,kw⟩)) outer s H:=⟨by first|exact e.frames|(simpa [Around.under,Code.envs,Code.isFrame,pushEnvs] using e.frames),e.mod,e.bs,e.lh,e.i6,e.ng,e.aP,e.bare⟩
section
variable{X:Cx}{pins:List (Addr×Obj)}{σ:St}{H:Hp}{s s':Shared}
theorem Inv.Dt(I:Inv X pins σ H s):nt X.prog X.w X.K X.mg X.base X.A X.stack s H:=
 ⟨I.ok.frames,I.ok.mod,I.bs,cz I.ok.lh I.sz,I.stack,I.CN,I.aP,I.bare⟩
theorem Inv.after{Q:VK}{u:Value}(I:Inv X pins σ H s)(h:CE X.stack X.prog X.w H s Q u s'):EP X pins σ Q u s':=by
 obtain⟨v,H',os,bare,un,aP,r,q⟩:=h
 obtain⟨hh,g,d,t,os'⟩:=s'
 obtain rfl:os'=s.os:=os
 exact⟨v,H',I.call (h':=hh) (g':=g) (d':=d) (t':=t) (ch:=[]) un aP bare (fun b z=>absurd z (by simp)),r,q⟩
end
def pG(sp:Sp)(dvs:List V)(E:XK)(t:TA):TE:=fun σ H Q=>t σ H fun vs H1=>sp (vs++dvs) H1 Q E
def jN(C:Addr)(m:Str)(sp:Sp)(dvs:List V)(E:XK)(ta:TE)(t:TA):TE:=fun σ H Q=>ta σ H fun x H1=>∃a dx fs,x=.ref a/\H1 a=some (.ins C dx fs)/\fs.lookup m=none/\
 t σ H1 fun vs H2=>sp (x::(vs++dvs)) H2 Q E
def uH(C:Addr)(sp:Sp)(dvs:List V)(E:XK)(t:TA):TE:=fun σ H Q=>t σ H fun vs H1=>∀x dx,H1 x=none->H1 dx=none->dx≠x->
 sp (.ref x::(vs++dvs)) (upd (upd H1 dx (.own x)) x (.ins C dx [])) (fun v H2=>v=.aW/\Q (.ref x) H2) E
def Binds(K:PySem.W.Frag)(fd:FuncData)(ps:List Str)(ds:List Value):Prop:=
 ∀(s:Shared) (us:List Value),K.In s.heap->(us++ds).length=ps.length->BindsTo s fd ⟨us,[]⟩ (ps.zip (us++ds))
theorem Binds.all{K:PySem.W.Frag}{fd:FuncData}{ps:List Str}(h:∀us:List Value,us.length=ps.length->bindArgs fd ⟨us,[]⟩=pure (ps.zip us)):Binds K fd ps []:=fun s us _ hl=>by
 rw[ft]at hl ⊢
 exact .of_eq (h us hl)
def lC(CX:jM)(X:Cx)(E:XK):Prop:=∀(pins:List (Addr×Obj)) (σ:St) (H:Hp) (s:Shared) (e:Value) (s':Shared),Inv X pins σ H s->CX X.stack H s E e s'->X.xe e s'
section
variable{X:Cx}{CX:jM}{k:Nat}{f C:Addr}{fd:FuncData}{ps:List Str}{sp:Sp}{dvs:List V}{ds:List Value}{E:XK}{x m:Str}{p pos apos:Pos}{e o:Expr}{es:List Expr}{ta:TE}{t:TA}
theorem uI{pins:List (Addr×Obj)}{σ:St}{H:Hp}{s:Shared}{Q:VK}{us:List Value}{vs:List V}(F:d8 X.prog X.w X.K X.mg X.base CX k f fd ps sp)(hr:cy k X.A)(hb:Binds X.K fd ps ds)(hd:aK dvs ds)(hx:lC CX X E)
  (I:Inv X pins σ H s)(r:aK vs us)(h:sp (vs++dvs) H Q E):wpAny (model X.prog X.w) X.A (call (.ref f) us) (EP X pins σ Q) X.xe s:=by
 have r2:aK (vs++dvs) (us++ds):=r.append hd
 have hl:(us++ds).length=ps.length:=by rw[<-r2.length];exact F.len _ _ _ _ h
 refine wpAny_call (codeAny_mono (F.run X.A X.stack s H ⟨us,[]⟩ (us++ds) (vs++dvs) Q E hr I.Dt (hb s us I.fV hl) r2 h) fun r s' hq=>?_)
 cases r with
 |error e=>exact hx pins σ H s e s' I hq
 |ok fl=>
  cases fl with
  |ret u=>exact I.after hq
  |next=>exact False.elim hq
  |brk=>exact False.elim hq
  |cont=>exact False.elim hq
theorem KN(F:d8 X.prog X.w X.K X.mg X.base CX k f fd ps sp)(hr:cy k X.A)(hg:Gl X x)(hm:X.mg x=some (.ref f))(hk:PySem.W.keepIn X.K (.ref f)=true)(hb:Binds X.K fd ps ds)(hd:aK dvs ds)(hx:lC CX X E)
  (ha:PA X (e::es) t)(hdb:(x == ("__debug__":Str))=false:=by decide)(he:starEach (e::es) X.env=(false,eval e X.env)::starEach es X.env:=by rfl)(hpl:(backTo pos (starEach es X.env)).any (·.1)=false:=by rfl):
  PE X (.Call (.Name x p) (e::es) [] pos) (pG sp dvs E t):=by
 intro pins s σ H Q I h
 refine wpAny_Call_Name_kw (rk I hg hm ?_ hdb)
 refine PySem.W.callWith_K (h₀:=X.base) I.ok.mod.ph hk (aU (ha pos pins s σ H _ I h) fun us s1 ⟨vs,H1,I1,r,q⟩=>⟨I1.fV,?_⟩) he hpl
 exact uI F hr hb hd hx I1 r q
theorem KO{pl:Sem Bool}(he:PE X o ta)(c:fW X.K C)(hm:rE X.K C m f)(F:d8 X.prog X.w X.K X.mg X.base CX k f fd ps sp)(hr:cy k X.A)(hb:Binds X.K fd ps ds)(hd:aK dvs ds)(hx:lC CX X E)(ha:PA X (e::es) t)
  (hst:starEach (e::es) X.env=(false,eval e X.env)::starEach es X.env:=by rfl)(hpl:(backTo pos (starEach es X.env)).any (·.1)=false:=by rfl)
  (ht:eval (.Call (.Attribute o m apos) (e::es) [] pos) X.env=(do
   let ov <-eval o X.env
   standAt apos.atName
   let (f,first) <-holding [ov] (getMethod ov m pl)
   callWith pos f first (backTo pos (starEach (e::es) X.env)) (backToKw pos (keywordEach [] X.env))):=by rfl):
  PE X (.Call (.Attribute o m apos) (e::es) [] pos) (jN C m sp dvs E ta t):=by
 intro pins s σ H Q I h
 refine PySem.W.methodCall_KW (pl:=pl) (aU (he pins s σ H _ I h) fun u s1 ⟨x,H1,I1,rx,a,dx,fs,ex,ea,l,q⟩=>?_) ht
 subst ex
 obtain rfl:u=Value.ref a:=rx
 refine Dr I1 ea c hm l ?_
 refine PySem.W.callWith_K (first:=[.ref a]) (h₀:=X.base) I.ok.mod.ph hm.kp (aU (ha pos pins s1 σ H1 _ I1 q) fun us s2 ⟨vs,H2,I2,r,q2⟩=>⟨I2.fV,?_⟩) hst hpl
 exact uI (us:=.ref a::us) (vs:=.ref a::vs) F hr hb hd hx I2 (.cons rfl r) q2
theorem KP{pl:Sem Bool}(he:PE X o ta)(c:fW X.K C)(hm:rE X.K C m f)(F:d8 X.prog X.w X.K X.mg X.base CX k f fd ps sp)(hr:cy k X.A)(hb:Binds X.K fd ps ds)(hd:aK dvs ds)(hx:lC CX X E)
  (ht:eval (.Call (.Attribute o m apos) [] [] pos) X.env=(do
   let ov <-eval o X.env
   standAt apos.atName
   let (f,first) <-holding [ov] (getMethod ov m pl)
   callWith pos f first (backTo pos (starEach [] X.env)) (backToKw pos (keywordEach [] X.env))):=by rfl):
  PE X (.Call (.Attribute o m apos) [] [] pos) (jN C m sp dvs E ta b_):=by
 intro pins s σ H Q I h
 refine PySem.W.methodCall_KW (pl:=pl) (aU (he pins s σ H _ I h) fun u s1 ⟨x,H1,I1,rx,a,dx,fs,ex,ea,l,q⟩=>?_) ht
 subst ex
 obtain rfl:u=Value.ref a:=rx
 refine Dr I1 ea c hm l ?_
 exact PySem.W.callWith_K0 (first:=[.ref a]) I1.fV hm.kp (uI (us:=[.ref a]) (vs:=[.ref a]) F hr hb hd hx I1 (.cons rfl .nil) q)
structure Mk(K:PySem.W.Frag)(C f:Addr):Prop where
 makes:PySem.W.makesIn K C=true
 init:PySem.W.findIn K (.ref C) "__init__"=some (some (.ref f))
 fn:PySem.W.isFn K (.ref f)=true
 kp:PySem.W.keepIn K (.ref C)=true
theorem Du{pins:List (Addr×Obj)}{σ:St}{H:Hp}{s:Shared}{Q:VK}{us:List Value}{vs:List V}(M:Mk X.K C f)(F:d8 X.prog X.w X.K X.mg X.base CX k f fd ps sp)(hr:cy (k+1) X.A)(hb:Binds X.K fd ps ds)(hd:aK dvs ds)
  (hx:lC CX X E)(I:Inv X pins σ H s)(r:aK vs us)
  (h:∀x dx,H x=none->H dx=none->dx≠x->sp (.ref x::(vs++dvs)) (upd (upd H dx (.own x)) x (.ins C dx [])) (fun v H2=>v=.aW/\Q (.ref x) H2) E):
  wpAny (model X.prog X.w) X.A (call (.ref C) us) (EP X pins σ Q) X.xe s:=by
 have hq:=h (s.heap.objs.size+1) s.heap.objs.size (I.aP.fresh (Nat.le_succ _)) (I.aP.fresh (aX _)) (gF (Nat.lt_succ_self _))
 have I2:=Inv.made (C:=C) I
 have r2:aK (V.ref (s.heap.objs.size+1)::(vs++dvs)) (Value.ref (s.heap.objs.size+1)::(us++ds)):=.cons rfl (r.append hd)
 have hl:(Value.ref (s.heap.objs.size+1)::us++ds).length=ps.length:=by
  have e:=r2.length
  rw[F.len _ _ _ _ hq]at e
  exact e.symm
 refine wpAny_call (KA (f:=f) I.fV M.makes M.init (beq_iff_eq.mp M.fn) (codeAny_mono (F.run _ X.stack _ _ ⟨Value.ref (s.heap.objs.size+1)::us,[]⟩ (Value.ref (s.heap.objs.size+1)::(us++ds)) _ _ E (hr.make C us [])
  (I2.Dt.make C us []) (hb _ (Value.ref (s.heap.objs.size+1)::us) I2.fV hl) r2 hq) fun r s' hq'=>?_))
 cases r with
 |error e=>exact hx pins σ _ _ e s' I2 hq'
 |ok fl=>
  cases fl with
  |ret u=>
   obtain⟨v,H',I3,rv,ev,q3⟩:=I2.after hq'
   subst ev
   exact⟨rv,⟨V.ref (s.heap.objs.size+1),H',I3,rfl,q3⟩⟩
  |next=>exact False.elim hq'
  |brk=>exact False.elim hq'
  |cont=>exact False.elim hq'
theorem KQ(M:Mk X.K C f)(F:d8 X.prog X.w X.K X.mg X.base CX k f fd ps sp)(hr:cy (k+1) X.A)(hg:Gl X x)(hm:X.mg x=some (.ref C))(hb:Binds X.K fd ps ds)(hd:aK dvs ds)(hx:lC CX X E)
  (ha:PA X (e::es) t)(hdb:(x == ("__debug__":Str))=false:=by decide)(he:starEach (e::es) X.env=(false,eval e X.env)::starEach es X.env:=by rfl)(hpl:(backTo pos (starEach es X.env)).any (·.1)=false:=by rfl):
  PE X (.Call (.Name x p) (e::es) [] pos) (uH C sp dvs E t):=by
 intro pins s σ H Q I h
 refine wpAny_Call_Name_kw (rk I hg hm ?_ hdb)
 refine PySem.W.callWith_K (h₀:=X.base) I.ok.mod.ph M.kp (aU (ha pos pins s σ H _ I h) fun us s1 ⟨vs,H1,I1,r,q⟩=>⟨I1.fV,?_⟩) he hpl
 exact Du M F hr hb hd hx I1 r q
theorem KR(M:Mk X.K C f)(F:d8 X.prog X.w X.K X.mg X.base CX k f fd ps sp)(hr:cy (k+1) X.A)(hg:Gl X x)(hm:X.mg x=some (.ref C))(hb:Binds X.K fd ps ds)(hd:aK dvs ds)(hx:lC CX X E)
  (hdb:(x == ("__debug__":Str))=false:=by decide):PE X (.Call (.Name x p) [] [] pos) (uH C sp dvs E b_):=by
 intro pins s σ H Q I h
 refine wpAny_Call_Name_kw (rk I hg hm ?_ hdb)
 exact PySem.W.callWith_K0 I.fV M.kp (Du (us:=[]) M F hr hb hd hx I .nil h)
end
structure aH(N P:List Str)(sc:Scope):Prop where
 kind:sc.kind=.function
 co:sc.isCoroutine=false
 gen:sc.isGenerator=false
 nd:N.Nodup
 pre:N.take P.length=P
 par:∀x∈P,sc.names.lookup x=some .local\/sc.names.lookup x=some .cell
 KS:∀y∈sc.names,y.2≠.free
theorem Dv{kindOf:Str->Option NameKind}{x:Str}:∀{binds:List (Str×Value)}{m:Str->Option Value},(∀v,(x,v)∉binds)->bindL kindOf binds m x=m x
 |[],_,_=>rfl
 |(n,v)::r,m,h=>by
  unfold bindL
  rw[Dv fun w hw=>h w (bH _ hw)]
  split
  ·have:x≠n:=by rintro rfl;exact h v bE
   simp[this]
  ·rfl
theorem Dx{kindOf:Str->Option NameKind}{x:Str}:∀{binds:List (Str×Value)}{m:Str->Option Value},(∀v,(x,v)∉binds)->bindC kindOf binds m x=m x
 |[],_,_=>rfl
 |(n,v)::r,m,h=>by
  unfold bindC
  rw[Dx fun w hw=>h w (bH _ hw)]
  split
  ·rfl
  ·have:x≠n:=by rintro rfl;exact h v bE
   simp[this]
theorem Dy{kindOf:Str->Option NameKind}{x:Str}{v:Value}:∀{P:List Str}{vs:List Value}{i:Nat}{m:Str->Option Value},P.Nodup->P[i]?=some x->vs[i]?=some v->kindOf x=some .local->
  bindL kindOf (P.zip vs) m x=some v
 |[],_,_,_,_,h,_,_=>by simp at h
 |_::_,[],_,_,_,_,h,_=>by simp at h
 |p::P,w::vs,0,m,nd,h1,h2,hk=>by
  simp at h1 h2;subst h1;subst h2
  show bindL kindOf ((p,w)::P.zip vs) m p=_
  unfold bindL
  rw[Dv fun v hv=>(kW.mp nd).1 (List.of_mem_zip hv).1,af hk]
  simp
 |p::P,w::vs,i+1,m,nd,h1,h2,hk=>by
  show bindL kindOf ((p,w)::P.zip vs) m x=_
  unfold bindL
  exact Dy (i:=i) (kW.mp nd).2 (by simpa using h1) (by simpa using h2) hk
theorem Dz{kindOf:Str->Option NameKind}{x:Str}{v:Value}:∀{P:List Str}{vs:List Value}{i:Nat}{m:Str->Option Value},P.Nodup->P[i]?=some x->vs[i]?=some v->kindOf x≠some .local->
  bindC kindOf (P.zip vs) m x=some v
 |[],_,_,_,_,h,_,_=>by simp at h
 |_::_,[],_,_,_,_,h,_=>by simp at h
 |p::P,w::vs,0,m,nd,h1,h2,hk=>by
  simp at h1 h2;subst h1;subst h2
  show bindC kindOf ((p,w)::P.zip vs) m p=_
  unfold bindC
  rw[Dx fun v hv=>(kW.mp nd).1 (List.of_mem_zip hv).1,ae hk]
  simp
 |p::P,w::vs,i+1,m,nd,h1,h2,hk=>by
  show bindC kindOf ((p,w)::P.zip vs) m x=_
  unfold bindC
  exact Dz (i:=i) (kW.mp nd).2 (by simpa using h1) (by simpa using h2) hk
def start(N:List Str)(vs:List V):St:=vs.map some++List.replicate (N.length - vs.length) none
def pH(CX:jM)(P:Program)(w:World)(K:PySem.W.Frag)(mg:Str->Option Value)(base:Heap)(N:List Str)(qual:Str)(scope:Scope)(f:Addr)(cd:Value)(A:Around)(outer:List Env)(s:Shared)(H:Hp)(E:XK):Cx where
 prog:=P
 w:=w
 K:=K
 mg:=mg
 base:=base
 A:=A.deeper (envOfC qual scope s.heap.objs.size f cd)
 N:=N
 eI:=s
 m_:=H
 env:=envOfC qual scope s.heap.objs.size f cd
 outer:=outer
 stack:=envOfC qual scope s.heap.objs.size f cd::outer
 ex:=[]
 calm:=true
 fn:=fun _=>true
 pn:=[]
 xe:=fun e s'=>wpAny (model P w) (A.deeper (envOfC qual scope s.heap.objs.size f cd)) (leaving (envOfC qual scope s.heap.objs.size f cd) e) (fun _ s''=>CX outer H s E e s'') (fun e' s''=>CX outer H s E e' s'') s'
theorem DA{sc:Scope}{n:Nat}{x:Str}(h:sc.names.lookup x=some .cell):∃c,(cellsFrom n sc.names []).lookup x=some c:=by
 have q:=PySem.W.cellsFrom_some sc.names n [] (.inl h)
 exact Option.isSome_iff_exists.mp q
theorem KU{CX:jM}{P:Program}{w:World}{K:PySem.W.Frag}{mg:Str->Option Value}{base:Heap}{N ps:List Str}{qual:Str}{scope:Scope}{f:Addr}{cd:Value}{A:Around}{outer:List Env}{s s1:Shared}{H:Hp}{E:XK}{us:List Value}{vs:List V}
  (S:aH N ps scope)(hd:A.handled=none)(e0:nt P w K mg base A outer s H)(hl:vs.length=ps.length)(r:aK vs us)
  (x:InCallC s s.heap.objs.size (bindL (envOfC qual scope s.heap.objs.size f cd).kindOf (ps.zip us) fun _=>none) (cellsFrom (s.heap.objs.size+1) scope.names []) (bindC (envOfC qual scope s.heap.objs.size f cd).kindOf (ps.zip us) fun _=>none) s1):
  Inv (pH CX P w K mg base N qual scope f cd A outer s H E) [] (start N vs) H s1:=by
 have hpl:ps.length<=N.length:=by have:=bO List.length S.pre;rw[dz]at this;omega
 obtain⟨h1,tk,rfl,hk⟩:=x.done
 have noA:∀b:Addr,b∉(pH CX P w K mg base N qual scope f cd A outer s H E).ex:=fun b z=>absurd (show b∈([]:List Addr) from z) (by simp)
 refine⟨⟨e0.mod,S.kind,rfl,rfl,aX _,fun y z c h1 h2=>?_,fun y hy=>?_,fun y c _ h=>?_,fun _=>hd,Around.frames_deeper e0.frames,.inr ⟨rfl,rfl⟩,fun b z=>absurd z (noA b),e0.bs,e0.lh,fun b _ _=>noA b,fun b z=>absurd z (noA b),e0.i6,e0.ng⟩,
  rfl,e0.bare,Un.kept hk,⟨_,x.toInCall.ns,fun i y v h1 h2 h3=>?_⟩,fun y c h=>⟨_,x.cell y c h⟩,e0.aP.fresh (aX _),fun y c h=>?_,fun p hp=>absurd (show p∈([]:List (Addr×Obj)) from hp) (by simp),e0.aP.kept hk,?_⟩
 ·exact name_of_addr x.apart (iA h1) (iA h2)
 ·have hy:scope.names.lookup y=some .cell\/scope.names.lookup y=some .free:=hy
  rcases hy with hy|hy
  ·exact DA hy
  ·exact absurd rfl (S.KS _ (iA hy))
 ·exact Nat.le_of_lt (x.above y c (iA h))
 ·have hi:i<vs.length:=by
   unfold start at h2
   by_cases hi:i<vs.length
   ·exact hi
   ·rw[oV (by simpa using hi)]at h2
    rw[List.getElem?_replicate]at h2
    split at h2<;>cases h2
  have ha:vs[i]?=some v:=by
   unfold start at h2
   rw[qI (by simpa using hi),bX]at h2
   cases e:vs[i]? with
   |none=>rw[e]at h2;cases h2
   |some a=>rw[e]at h2;cases h2;rfl
  obtain⟨u,hu,rv⟩:=r.get ha
  have hp:ps[i]?=some y:=by
   rw[<-S.pre,List.getElem?_take_of_lt (by omega)];exact h1
  have ndP:ps.Nodup:=by rw[<-S.pre];exact S.nd.sublist (List.take_sublist _ _)
  refine⟨u,rv,?_⟩
  rcases S.par y (m6 hp) with k|k
  ·exact .inl ⟨k,Dy ndP hp hu k⟩
  ·obtain⟨c,e⟩:=DA (n:=s.heap.objs.size+1) k
   refine .inr ⟨.inl k,c,e,?_⟩
   have q:=x.cell y c e
   rw[Dz ndP hp hu (by show scope.names.lookup y≠_;rw[k];decide)]at q
   exact q
 ·exact e0.aP.fresh (Nat.le_of_lt (x.above y c (iA h)))
 ·unfold start
  show _=N.length
  rw[bF,aE,qJ]
  omega
theorem KW{CX:jM}{P:Program}{w:World}{K:PySem.W.Frag}{mg:Str->Option Value}{base:Heap}{k:Nat}{f:Addr}{name qual:Str}{params:Arguments}{body:List Stmt}{scope:Scope}{dV kV doc pm cdv ct oc:Value}{an od:Option Addr}
  {osl:Array (Option Value)}{N ps:List Str}{sp:Sp}(lk:K.lookup f=some ⟨oc,od,.func (PySem.W.fnOf name qual params body scope dV kV doc pm an cdv ct),osl⟩)(hcd:PySem.W.codeIn K cdv qual=true)(S:aH N ps scope)
  (len:∀vs H Q E,sp vs H Q E->vs.length=ps.length)
  (hbody:∀(A:Around) (outer:List Env) (s:Shared) (H:Hp) (vs:List V) (Q:VK) (E:XK),cy k (A.deeper (envOfC qual scope s.heap.objs.size f cdv))->sp vs H Q E->
   ∃t,iD (pH CX P w K mg base N qual scope f cdv A outer s H E) body t/\t {nx:=fun _ H'=>Q .aW H',rt:=Q} (start N vs) H):
  d8 P w K mg base CX (k+1) f (PySem.W.fnOf name qual params body scope dV kV doc pm an cdv ct) ps sp:=by
 refine⟨len,fun A outer s H args us vs Q E hr e0 hb r hsp=>?_⟩
 have hl:=len _ _ _ _ hsp
 have KX:K.In s.heap:=e0.mod.ph.keeps fun b o e=>(e0.bs b o e).1
 have lim:s.heap.NoLimit:=e0.mod.nolimit.keeps fun b o e=>(e0.bs b o e).1
 have hkind:∀y∈ps.zip us,scope.names.lookup y.1=some .local\/(scope.names.lookup y.1=some .cell/\((cellsFrom (s.heap.objs.size+1) scope.names []).lookup y.1).isSome=true):=fun ⟨n,v⟩ hy=>by
  rcases S.par n (List.of_mem_zip hy).1 with q|q
  ·exact .inl q
  ·exact .inr ⟨q,PySem.W.cellsFrom_some _ _ _ (.inl q)⟩
 refine codeAny_call_function hr.depth (KX _ _ lk) rfl S.co S.gen rfl (PySem.W.codeRec_of KX hcd) (hb _ _ _ _ ?_)
 refine wpAny_newFunctionEnv_cells S.kind hkind fun env he s1 x=>?_
 subst he
 refine⟨lim.keeps x.toInCall.keep,codeAny_func ?_⟩
 obtain⟨t,ht,hq⟩:=hbody A outer s H vs Q E (hr.deeper _) hsp
 have I:Inv (pH CX P w K mg base N qual scope f cdv A outer s H E) [] (start N vs) H s1:=KU S hr.hd e0 hl r x
 refine wpAny_mono (ht [] s1 (start N vs) H _ I hq) (fun fl s' hs=>?_) fun e s' hs=>hs
 have fin:∀{σ':St}{H':Hp}{v:V}{u:Value},Inv (pH CX P w K mg base N qual scope f cdv A outer s H E) [] σ' H' s'->RelV v u->Q v H'->CE outer P w H s Q u s':=
  fun {σ' H' v u} J rv q=>⟨v,H',J.os,J.bare,J.base,J.aP,rv,q⟩
 cases fl with
 |ret u=>
  obtain⟨v,σ',H',J,rv,q⟩:=hs
  exact fin J rv q
 |next=>
  obtain⟨σ',H',J,q⟩:=hs
  exact fin (v:=V.aW) (u:=Value.none) J rfl q
 |brk=>
  obtain⟨_,_,_,q⟩:=hs
  exact False.elim q
 |cont=>
  obtain⟨_,_,_,q⟩:=hs
  exact False.elim q
end L2
namespace L2
open PySem PySem.Spec PyProof.Rows
section
variable{X:Cx}{x:Str}{p pos:Pos}{e:Expr}{es:List Expr}{t:TA}{id T:String}{r:List V->Hp->VK->Prop}
def nu(r:List V->Hp->VK->Prop)(t:TA):TE:=fun σ H Q=>t σ H fun vs H1=>r vs H1 Q
theorem fX(hc:i_ X (.builtin id) r)(hg:Gl X x)(hm:X.mg x=none)(hv:bootBuiltins x=some (.builtin id))(ha:PA X (e::es) t)(hn:x≠"__name__":=by decide)(hdb:(x == ("__debug__":Str))=false:=by decide)
  (he:starEach (e::es) X.env=(false,eval e X.env)::starEach es X.env:=by rfl)(hpl:(backTo pos (starEach es X.env)).any (·.1)=false:=by rfl):PE X (.Call (.Name x p) (e::es) [] pos) (nu r t):=by
 intro pins s σ H Q I h
 refine wpAny_Call_Name_kw (kh I hg hm hv ?_ hn hdb)
 exact PyProof.Rows.callWith_builtin1 (aU (ha pos pins s σ H _ I h) fun us s1 ⟨vs,H1,I1,r1,q1⟩=>hc pins s1 σ H1 vs us Q I1 r1 q1) he hpl
theorem gL(hc:i_ X (.type T) r)(hg:Gl X x)(hm:X.mg x=none)(hv:bootBuiltins x=some (.type T))(ha:PA X (e::es) t)(hn:x≠"__name__":=by decide)(hdb:(x == ("__debug__":Str))=false:=by decide)
  (he:starEach (e::es) X.env=(false,eval e X.env)::starEach es X.env:=by rfl)(hpl:(backTo pos (starEach es X.env)).any (·.1)=false:=by rfl):PE X (.Call (.Name x p) (e::es) [] pos) (nu r t):=by
 intro pins s σ H Q I h
 refine wpAny_Call_Name_kw (kh I hg hm hv ?_ hn hdb)
 exact m5 (aU (ha pos pins s σ H _ I h) fun us s1 ⟨vs,H1,I1,r1,q1⟩=>hc pins s1 σ H1 vs us Q I1 r1 q1) he hpl
end
end L2
namespace HT
open PySem PyProof.Rows
theorem DB(A:Around)(s:Shared)(a:Int)(t:Tok)(c:Int)(u:Tok)(prog:Program)(w:World)(E:Value->Shared->Prop)(Q:Value->Shared->Prop)(h:Q (.bool (decide (a<c))) s):
  wpAny (model prog w) A (richCompare .Lt (.int a t) (.int c u)) Q E s:=
 (PyProof.Rows.lt_int h:wpAny (model prog w) A (compareOp .Lt (.int a t) (.int c u)) Q E s)
section
variable{prog:Program}{w:World}{A:Around}{E:Value->Shared->Prop}{s:Shared}
def fG(n d:Nat):Option Int->Nat
 |none=>d
 |some v=>if v<0 then (v+(n:Int)).toNat else min v.toNat n
theorem xJ(n d:Nat):fG n d none=d:=rfl
theorem uJ(n d k:Nat):fG n d (some (k:Int))=min k n:=by
 show (if (k:Int)<0 then ((k:Int)+(n:Int)).toNat else min (k:Int).toNat n)=min k n
 rw[ae (by omega),Int.toNat_natCast]
end
end HT
namespace L2
open PySem PySem.Spec PyProof.Rows
abbrev TO:=St->Hp->(Option Int->Hp->Prop)->Prop
def PO(X:Cx)(e:Option Expr)(t:TO):Prop:=
 ∀(pins:List (Addr×Obj)) (s:Shared) (σ:St) (H:Hp) (Q:Option Int->Hp->Prop),Inv X pins σ H s->t σ H Q->
  wpAny (model X.prog X.w) X.A (evalPart e X.env) (fun u s'=>∃o H',Inv X pins σ H' s'/\IsPart u o/\Q o H') X.xe s
def KY:TO:=fun _ H Q=>Q none H
def KZ(t:TE):TO:=fun σ H Q=>t σ H fun x H1=>∃i,x=.int i/\Q (some i) H1
section
variable{X:Cx}{e:Expr}{te:TE}{lo hi:Option Expr}{tl th:TO}{pos p2:Pos}
theorem lD:PO X none KY:=by
 intro pins s σ H Q I h
 rw[evalPart_none]
 exact wpAny_pure ⟨none,H,I,.none,h⟩
theorem iK(h:PE X e te):PO X (some e) (KZ te):=by
 intro pins s σ H Q I hw
 rw[evalPart_some]
 refine aU (h pins s σ H _ I hw) fun u s1 ⟨x,H1,I1,r1,q1⟩=>?_
 obtain⟨i,rfl,q⟩:=q1
 obtain⟨t,rfl⟩:=r1
 exact⟨some i,H1,I1,.int i t,q⟩
def DC(X:Cx)(r:V->Option Int->Option Int->Hp->VK->Prop):Prop:=
 ∀(pins:List (Addr×Obj)) (s:Shared) (σ:St) (H:Hp) (x:V) (v vl vu:Value) (lo hi:Option Int) (sl:Addr) (Q:VK),Inv X pins σ H s->RelV x v->s.heap.IsSliceOf sl vl vu .none->IsPart vl lo->IsPart vu hi->r x lo hi H Q->
  ∃T id,typeLookup (.type T) "__getitem__"=pure (some (.builtin id))/\s.TypeIs v T/\wpAny (model X.prog X.w) X.A (getItem v (.ref sl)) (EP X pins σ Q) X.xe s
def K0(r:V->Option Int->Option Int->Hp->VK->Prop)(te:TE)(tl th:TO):TE:=fun σ H Q=>te σ H fun x H1=>tl σ H1 fun l H2=>th σ H2 fun u H3=>r x l u H3 Q
theorem jO{r:V->Option Int->Option Int->Hp->VK->Prop}(hr:DC X r)(he:PE X e te)(hl:PO X lo tl)(hu:PO X hi th):PE X (.Subscript e (.Slice lo hi none p2) pos) (K0 r te tl th):=by
 intro pins s σ H Q I h
 refine Subscript_ (aU (he pins s σ H _ I h) fun v s1 ⟨x,H1,I1,r1,q1⟩=>?_)
 refine wpAny_Slice (aU (hl pins s1 σ H1 _ I1 q1) fun vl s2 ⟨l,H2,I2,pl,q2⟩=>aU (hu pins s2 σ H2 _ I2 q2) fun vu s3 ⟨u,H3,I3,pu,q3⟩=>?_)
 rw[evalPart_none]
 refine wpAny_pure ?_
 have I4:Inv X pins σ H3 {s3 with heap:=s3.heap.push {cls:=.type "slice",data:=.fields #[vl,vu,.none]}}:=I3.kept (t':=s3.toks) fun b ob q=>Heap.get?_push_of_some _ q
 obtain⟨T,id,hT,ht,hg⟩:=hr pins {s3 with heap:=s3.heap.push {cls:=.type "slice",data:=.fields #[vl,vu,.none]}} σ H3 x v vl vu l u s3.heap.objs.size Q I4 r1 (Heap.IsSliceOf.new ..) pl pu q3
 show wpAny (model X.prog X.w) X.A (subscriptTail e (.Slice lo hi none p2) v (.ref s3.heap.objs.size)) (EP X pins σ Q) X.xe {s3 with heap:=s3.heap.push {cls:=.type "slice",data:=.fields #[vl,vu,.none]}}
 exact tail_any (ops:=[.ref s3.heap.objs.size,v]) ht hT hg (by with_unfolding_all rfl)
def cU(xs:List V)(lo hi:Option Int):List V:=(xs.drop (HT.fG xs.length 0 lo)).take (HT.fG xs.length xs.length hi - HT.fG xs.length 0 lo)
theorem K1(xs:List V)(lo hi:Option Int):(cU xs lo hi).length<=xs.length:=by
 unfold cU
 rw[dz,List.length_drop]
 omega
end
end L2
namespace L2
open PySem PySem.Spec PyProof.Rows
def jP(n:Nat)(i:Int):Option Nat:=if 0<=i then (if i<n then some i.toNat else none) else if -(n:Int)<=i then some (i+n).toNat else none
def gM{α:Type}(xs:List α)(i:Int):Option α:=(jP xs.length i).bind fun j=>xs[j]?
theorem DD{n:Nat}{i:Int}{j:Nat}(h:jP n i=some j):seqIndex? i n=some j/\j<n/\ -(n:Int)<=i/\i<n:=by
 unfold jP at h
 by_cases h0:0<=i
 ·rw[af h0]at h
  by_cases h1:i<n
  ·rw[af h1]at h
   have e:i.toNat=j:=bo h
   exact⟨by rw[seqIndex_of h0 h1,e],by omega,by omega,h1⟩
  ·rw[ae h1]at h;cases h
 ·rw[ae h0]at h
  by_cases h1: -(n:Int)<=i
  ·rw[af h1]at h
   have e:(i+n).toNat=j:=bo h
   exact⟨by rw[seqIndex_neg (by omega) h1,e],by omega,h1,by omega⟩
  ·rw[ae h1]at h;cases h
theorem DE{α:Type}{xs:List α}{i:Int}{v:α}(h:gM xs i=some v):∃j,seqIndex? i xs.length=some j/\xs[j]?=some v/\j<xs.length/\ -(xs.length:Int)<=i/\i<xs.length:=by
 unfold gM at h
 cases e:jP xs.length i with
 |none=>rw[e]at h;cases h
 |some j=>
  rw[e]at h
  obtain⟨h1,h2,h3,h4⟩:=DD e
  exact⟨j,h1,h,h2,h3,h4⟩
theorem K2{α:Type}{xs:List α}{j:Nat}{v:α}(h:xs[j]?=some v):gM xs (j:Int)=some v:=by
 have hj:j<xs.length:=(dP.mp h).1
 have e:jP xs.length (j:Int)=some j:=by
  unfold jP
  rw[af (by omega),af (by omega)];simp
 unfold gM;rw[e];exact h
theorem K3{α:Type}(xs:List α)(v:α):gM (xs++[v]) (-1)=some v:=by
 have hl:(xs++[v]).length=xs.length+1:=by simp
 have e:jP (xs++[v]).length (-1)=some xs.length:=by
  unfold jP
  rw[hl,ae (by decide),af (by omega)]
  congr 1
  omega
 unfold gM
 rw[e]
 show (xs++[v])[xs.length]?=some v
 simp
def DF(b:Expr):Prop:=∀o i,subscripted b false o i=operate [o,i] (getItem o i)
def uK(X:Cx)(r:R2):Prop:=
 ∀(value slice:Expr) (pins:List (Addr×Obj)) (s:Shared) (σ:St) (H:Hp) (x y:V) (v u:Value) (Q:VK),Inv X pins σ H s->RelV x v->RelV y u->r x y H Q->
  subscripted slice false v u=operate [v,u] (getItem v u)->wpAny (model X.prog X.w) X.A (subscriptTail value slice v u) (EP X pins σ Q) X.xe s
def DG(X:Cx)(id:String)(r:V->List V->Hp->VK->Prop):Prop:=
 ∀(pins:List (Addr×Obj)) (s:Shared) (σ:St) (H:Hp) (x:V) (xs:List V) (v:Value) (us:List Value) (Q:VK),Inv X pins σ H s->RelV x v->aK xs us->r x xs H Q->
  wpAny (model X.prog X.w) X.A (call (.builtin id) (v::us)) (EP X pins σ Q) X.xe s
section
variable{X:Cx}{a b:Expr}{ta tb:TE}{pos:Pos}
theorem gW{r:R2}(hr:uK X r)(ha:PE X a ta)(hb:PE X b tb)(hs:DF b):PE X (.Subscript a b pos) (eK r ta tb):=by
 intro pins s σ H Q I h
 exact Subscript_ (xD ha hb I h fun v u s2 x y H2 I2 rx ry q=>hr a b pins s2 σ H2 x y v u Q I2 rx ry q (hs _ _))
def jf(K:PySem.W.Frag):R2:=fun x y H Q=>∃p xs i v,x=.ref p/\y=.int i/\ai K H p xs/\gM xs i=some v/\Q v H
def K4(K:PySem.W.Frag):R2:=fun x y H Q=>∃p xs i v,x=.ref p/\y=.int i/\fv K H p xs/\gM xs i=some v/\Q v H
theorem DH:uK X (jf X.K):=by
 intro value slice pins s σ H x y v u Q I rx ry h hs
 obtain⟨p,xs,i,z,rfl,rfl,hq,he,q⟩:=h
 cases rx
 obtain⟨t,rfl⟩:=ry
 obtain⟨its,r,pl,hz⟩:=I.list hq
 obtain⟨j,h1,h2,h3,h4,h5⟩:=DE he
 obtain⟨w,ew,rw'⟩:=r.get h2
 have hl:=r.length
 have hn:=uG
 have fin:EP X pins σ Q w s:=⟨z,H,I,rw',q⟩
 by_cases h0:0<=i
 ·have hj:i.toNat=j:=by
   rw[seqIndex_of h0 h5]at h1
   exact bo h1
  exact item_listR pl.isList h0 (by omega) (by rw[hj];simpa using ew) fin hs
 ·have hj:(i+(its.toArray.size:Int)).toNat=j:=by
   rw[seqIndex_neg (by omega) h4]at h1
   rw[cX,<-hl]
   exact bo h1
  exact subscriptTail_builtinR (x:=w) pl.isList.typeIs slot_list_getitem.lookup
   (wpAny_getItem_list_neg (Q:=fun r s'=>r=w/\EP X pins σ Q r s') pl.isList (by omega) (by rw[cX]<;>omega) (by omega) (by rw[hj];simpa using ew) ⟨rfl,fin⟩) hs
theorem DI:uK X (K4 X.K):=by
 intro value slice pins s σ H x y v u Q I rx ry h hs
 obtain⟨p,xs,i,z,rfl,rfl,hq,he,q⟩:=h
 cases rx
 obtain⟨t,rfl⟩:=ry
 obtain⟨its,r,pl,hz⟩:=I.tuple hq
 obtain⟨j,h1,h2,h3,h4,h5⟩:=DE he
 obtain⟨w,ew,rw'⟩:=r.get h2
 have hl:=r.length
 have hn:=uG
 have fin:EP X pins σ Q w s:=⟨z,H,I,rw',q⟩
 exact subscriptTail_builtinR (x:=w) pl.typeIs slot_tuple_getitem.lookup
  (getItem_tuple (j:=j) (Q:=fun r s'=>r=w/\EP X pins σ Q r s') pl (by omega) (by omega) (by rw[cX,<-hl];exact h1) (by simpa using ew) ⟨rfl,fin⟩) hs
theorem K5(its:List Value)(n j:Nat)(u:Value):Obj.mapSeq (·.setIfInBounds j u) {cls:=.type "list",data:=.seq its.toArray n}={cls:=.type "list",data:=.seq (its.set j u).toArray n}:=by
 simp[Obj.mapSeq]
theorem Inv.lst{pins:List (Addr×Obj)}{σ:St}{H:Hp}{s:Shared}{p:Addr}{xs:List V}(I:Inv X pins σ H s)(h:H p=some (.lst xs)):
  ∃(its:List Value) (n:Nat),aK xs its/\s.heap.get? p=some {cls:=.type "list",data:=.seq its.toArray n}/\xs.length<=sizeLine:=by
 obtain⟨z,its,n,r,e⟩:=I.aP p _ h
 exact⟨its,n,r,e,z⟩
theorem Inv.K6{pins:List (Addr×Obj)}{σ:St}{H:Hp}{s:Shared}{p:Addr}{xs ys:List V}{its its':List Value}{n n':Nat}{f:Obj->Obj}(I:Inv X pins σ H s)(h:H p=some (.lst xs))
  (ho:s.heap.get? p=some {cls:=.type "list",data:=.seq its.toArray n})(hf:f {cls:=.type "list",data:=.seq its.toArray n}={cls:=.type "list",data:=.seq its'.toArray n'})(r:aK ys its')(hz:ys.length<=sizeLine)(t:Nat):
  Inv X pins σ (upd H p (.lst ys)) {s with heap:=s.heap.update p f,toks:=t}:=by
 have e:(s.heap.update p f).get? p=some {cls:=.type "list",data:=.seq its'.toArray n'}:=by
  rw[Heap.get?_update_self f ho (by rw[hf]<;>rfl),hf]
 refine I.write (x:=p) (e:=p) (by rw[h];trivial) (.inl rfl) (fun b u hb q=>(Heap.get?_update_other _ _ (Ne.symm hb)).trans q) ⟨_,e⟩ ?_
 exact⟨hz,its',n',r,e⟩
def K7:V->V->V->Hp->(Hp->Prop)->Prop:=fun o i v H Q=>∃p xs k j,o=.ref p/\i=.int k/\H p=some (.lst xs)/\jP xs.length k=some j/\Q (upd H p (.lst (xs.set j v)))
theorem set_list:CZ X K7:=by
 intro pins s σ H o i v ov iv u Q I ro ri rv h
 obtain⟨p,xs,k,j,rfl,rfl,hp,hj,q⟩:=h
 cases ro
 obtain⟨t,rfl⟩:=ri
 obtain⟨its,n,r,ho,hz⟩:=I.lst hp
 obtain⟨h1,h2,h3,h4⟩:=DD hj
 have hl:=r.length
 have hn:=uG
 have I':Inv X pins σ (upd H p (.lst (xs.set j v))) {s with heap:=s.heap.update p (Obj.mapSeq (·.setIfInBounds j u))}:=
  I.K6 hp ho (K5 its n j u) (r.set rv j) (by rw[gp];exact hz) s.toks
 by_cases h0:0<=k
 ·have hk:k.toNat=j:=by
   rw[seqIndex_of h0 h4]at h1
   exact bo h1
  exact PySem.W.ki_setAt ho h0 (by omega) (by rw[cX,<-hl];exact h4) (by rw[hk];exact⟨_,I',q⟩)
 ·have hk:(k+(its.toArray.size:Int)).toNat=j:=by
   rw[seqIndex_neg (by omega) h3]at h1
   rw[cX,<-hl]
   exact bo h1
  exact PySem.W.ki_setBack ho (by omega) (by rw[cX,<-hl];exact h3) (by omega) (by rw[hk];exact⟨_,I',q⟩)
theorem K8(lo hi:Option Int)(n:Nat):(sliceBounds lo hi none n).1=((HT.fG n 0 lo:Nat):Int)/\(sliceBounds lo hi none n).2.1=((HT.fG n n hi:Nat):Int)/\(sliceBounds lo hi none n).2.2=1:=by
 refine⟨?_,?_,rfl⟩
 ·cases lo with
  |none=>simp[sliceBounds,HT.fG]
  |some i=>
   simp only [sliceBounds,HT.fG,Option.getD_none,show (1:Int) > 0 by decide,if_true]
   by_cases h:i<0
   ·simp only [h,if_true]<;>omega
   ·simp only [h,if_false]<;>omega
 ·cases hi with
  |none=>simp[sliceBounds,HT.fG]
  |some i=>
   simp only [sliceBounds,HT.fG,Option.getD_none,show (1:Int) > 0 by decide,if_true]
   by_cases h:i<0
   ·simp only [h,if_true]<;>omega
   ·simp only [h,if_false]<;>omega
theorem K9(its:List Value)(lo hi:Option Int):slicePick its.toArray lo hi none=((its.drop (HT.fG its.length 0 lo)).take (HT.fG its.length its.length hi - HT.fG its.length 0 lo)).toArray:=by
 obtain⟨h1,h2,h3⟩:=K8 lo hi its.toArray.size
 unfold slicePick
 rw[h1,h2,h3]
 simp only [sliceRange_one,pick_run,cX]<;>rfl
def K_(K:PySem.W.Frag):V->Option Int->Option Int->Hp->VK->Prop:=fun x lo hi H Q=>∃a xs,x=.ref a/\ai K H a xs/\∀p,H p=none->Q (.ref p) (upd H p (.lst (cU xs lo hi)))
theorem jQ:DC X (K_ X.K):=by
 intro pins s σ H x v vl vu lo hi sl Q I rx hs pl pu h
 obtain⟨a,xs,rfl,hx,q⟩:=h
 cases rx
 obtain⟨its,r,ht,hz⟩:=I.list hx
 have hlen:=r.length
 refine⟨"list",_,slot_list_getitem.lookup,ht.isList.typeIs,?_⟩
 refine wpAny_getItem_list_slice ht.isList hs pl pu .none (by simp) ?_ (by rw[cX]<;>omega)
 rw[K9,<-hlen]
 refine⟨.ref s.heap.objs.size,_,I.laid (t':=s.toks) (o:=.lst (cU xs lo hi)) (fun b ob q=>Heap.get?_push_of_some _ q) (aX _) ?_,rfl,q _ (I.aP.fresh (aX _))⟩
 exact⟨cz (K1 xs lo hi) hz,_,0,(r.drop (HT.fG xs.length 0 lo)).take (HT.fG xs.length xs.length hi - HT.fG xs.length 0 lo),Heap.get?_push_size _ rfl⟩
theorem Lc:i_ X (.builtin "len") (fun xs H Q=>∃p ys,xs=[.ref p]/\(ai X.K H p ys\/fv X.K H p ys)/\Q (.int ys.length) H):=by
 intro pins s σ H xs us Q I r h
 obtain⟨p,ys,rfl,hq,q⟩:=h
 obtain⟨u,rfl,rx⟩:=vals1 r
 cases rx
 have hn:=uG
 rcases hq with hq|hq
 ·obtain⟨its,r',pl,hz⟩:=I.list hq
  have hlen:=r'.length
  exact Calls.call_len_list pl.isList (by simp only [cX]<;>omega) ⟨.int ys.length,H,I.tok _,⟨s.toks+1,by rw[cX,hlen]⟩,q⟩
 ·obtain⟨its,r',pl,hz⟩:=I.tuple hq
  have hlen:=r'.length
  exact len_tuple pl (by simp only [cX]<;>omega) ⟨.int ys.length,H,I.tok _,⟨s.toks+1,by rw[cX,hlen]⟩,q⟩
theorem uL:i_ X (.type "list") (fun xs H Q=>∃p ys,xs=[.ref p]/\(ai X.K H p ys\/fv X.K H p ys)/\∀l,H l=none->Q (.ref l) (upd H l (.lst ys))):=by
 intro pins s σ H xs us Q I r h
 obtain⟨p,ys,rfl,hq,q⟩:=h
 obtain⟨u,rfl,rx⟩:=vals1 r
 cases rx
 have fin:∀(its:List Value),aK ys its->ys.length<=sizeLine->∀(h':Heap) (c':Nat),(∀b o',s.heap.get? b=some o'->h'.get? b=some o')->
   h'.get? s.heap.objs.size=some {cls:=.type "list",dict:=none,data:=.seq its.toArray c',slots:= #[]}->EP X pins σ Q (.ref s.heap.objs.size) {s with heap:=h'}:=fun its r' hz h' c' kp e=>
  ⟨.ref s.heap.objs.size,_,I.laid (t':=s.toks) kp (aX _) (show eE X.prog X.w _ h' _ (.lst ys) from ⟨hz,its,c',r',e⟩),rfl,q _ (I.aP.fresh (aX _))⟩
 rcases hq with hq|hq
 ·obtain⟨its,r',pl,hz⟩:=I.list hq
  have hlen:=r'.length
  obtain⟨o,ho,hc,n,hd⟩:=pl.isList
  exact call_list_seq p (.inl rfl) ho hc hd (fun h' c' kp e=>fin its r' hz h' c' kp e) (by simp only [cX]<;>omega)
 ·obtain⟨its,r',pl,hz⟩:=I.tuple hq
  have hlen:=r'.length
  obtain⟨o,ho,hc,n,hd⟩:=pl
  exact call_list_seq p (.inr rfl) ho hc hd (fun h' c' kp e=>fin its r' hz h' c' kp e) (by simp only [cX]<;>omega)
def xK(K:PySem.W.Frag)(T:String)(x:V)(H:Hp):Prop:=match x with
 |.str _=>T="str"
 |.int _=>T="int"
 |.ref p=>(T="list"/\∃xs,ai K H p xs)\/(T="tuple"/\∃o,K.lookup p=some o/\o.cls=.type "tuple"/\o.dict=none)\/
   (T="dict"/\((∃kvs,H p=some (.dK kvs))\/∃kvs,H p=some (.dT kvs)))\/(T="set"/\∃S n,H p=some (.set S n))
 |_=>False
theorem DJ{pins:List (Addr×Obj)}{σ:St}{H:Hp}{s:Shared}{T:String}{x:V}{v:Value}(I:Inv X pins σ H s)(r:RelV x v)(ty:xK X.K T x H):
  s.TypeIs v T/\∀a,v=.ref a->∃ob,s.heap.get? a=some ob/\ob.dict=none:=by
 cases x with
 |str z=>
  obtain⟨t,rfl⟩:=r
  cases (show T="str" from ty)
  exact⟨typeIs_str s z t,fun _ e=>nomatch e⟩
 |int i=>
  obtain⟨t,rfl⟩:=r
  cases (show T="int" from ty)
  exact⟨typeIs_int s i t,fun _ e=>nomatch e⟩
 |ref p=>
  cases r
  rcases ty with ⟨rfl,xs,hq⟩|⟨rfl,o,hk,hc,hd⟩|⟨rfl,hk⟩|⟨rfl,S,n,hk⟩
  ·obtain⟨its,_,pl,_⟩:=I.list hq
   refine⟨pl.isList.typeIs,fun a e=>?_⟩
   cases e
   obtain⟨o,n,e,c,hd,_⟩:=pl
   exact⟨o,e,hd⟩
  ·refine⟨⟨o,I.fV p o hk,hc⟩,fun a e=>?_⟩
   cases e
   exact⟨o,I.fV _ o hk,hd⟩
  ·have z:∃o,s.heap.get? p=some o/\o.ExactDict:=by
    rcases hk with ⟨kvs,hk⟩|⟨kvs,hk⟩
    ·obtain⟨_,_,_,_,o,_,_,e,ex,_⟩:=I.aP p _ hk
     exact⟨o,e,ex⟩
    ·obtain⟨_,_,_,_,o,_,_,e,ex,_⟩:=I.aP p _ hk
     exact⟨o,e,ex⟩
   obtain⟨o,e,ex⟩:=z
   refine⟨⟨o,e,ex.1⟩,fun a e2=>?_⟩
   cases e2
   exact⟨o,e,ex.2.1⟩
  ·obtain⟨o,_,_,_,e,ex,_⟩:=I.aP p _ hk
   refine⟨⟨o,e,ex.1⟩,fun a e2=>?_⟩
   cases e2
   exact⟨o,e,ex.2.1⟩
 |_=>exact False.elim ty
def Ld(K:PySem.W.Frag)(T:String)(r:V->List V->Hp->VK->Prop)(to:TE):TE:=fun σ H Q=>to σ H fun x H1=>xK K T x H1/\r x [] H1 Q
def xM(K:PySem.W.Frag)(T:String)(r:V->List V->Hp->VK->Prop)(to:TE)(t:TA):TE:=fun σ H Q=>to σ H fun x H1=>xK K T x H1/\t σ H1 fun xs H2=>r x xs H2 Q
variable{o e:Expr}{es:List Expr}{to:TE}{t:TA}{name:Str}{apos cpos:Pos}{T id:String}{r:V->List V->Hp->VK->Prop}
theorem Lf(pa:PlainAttrs T)(slot:Slot T name id)(hty:typeOf (.builtin id)=pure (.type "method_descriptor"))(hm:DG X id r)(ho:PE X o to)
  (hbase:attributeBase o name X.env (eval o X.env)=eval o X.env:=by rfl)(hline:(apos.endLine == cpos.line)=true:=by rfl):PE X (.Call (.Attribute o name apos) [] [] cpos) (Ld X.K T r to):=by
 intro pins s σ H Q I h
 refine wpAny_Call_method0_late hbase hline (aU (ho pins s σ H _ I h) fun v s1 ⟨x,H1,I1,r1,ty,q1⟩=>?_)
 obtain⟨h1,h2⟩:=DJ I1 r1 ty
 exact⟨T,id,pa,slot,hty,h1,h2,Calls.callWith_builtin rfl (PySem.evalArgs_none (hm pins s1 σ H1 x [] v [] Q I1 r1 .nil q1))⟩
theorem uM(pa:PlainAttrs T)(slot:Slot T name id)(hty:typeOf (.builtin id)=pure (.type "method_descriptor"))(hm:DG X id r)(ho:PE X o to)(ha:PA X (e::es) t)
  (hbase:attributeBase o name X.env (eval o X.env)=eval o X.env:=by rfl)
  (hfew:((backTo cpos (starEach (e::es) X.env)).all (fun x=> !x.1)&&(backToKw cpos (keywordEach [] X.env)).all (fun x=>x.1.isSome)
   &&decide ((e::es).length+([]:List Keyword).length+(if ([]:List Keyword).isEmpty then 0 else 1)<30))=true:=by rfl)
  (hline:(apos.endLine == cpos.line)=true:=by rfl)(hs:starEach (e::es) X.env=(false,eval e X.env)::starEach es X.env:=by rfl)(hplain:(backTo cpos (starEach es X.env)).any (·.1)=false:=by rfl):
  PE X (.Call (.Attribute o name apos) (e::es) [] cpos) (xM X.K T r to t):=by
 intro pins s σ H Q I h
 refine wpAny_Call_method_late hbase hfew hline rfl (aU (ho pins s σ H _ I h) fun v s1 ⟨x,H1,I1,r1,ty,q1⟩=>?_)
 obtain⟨h1,h2⟩:=DJ I1 r1 ty
 refine⟨T,id,pa,slot,hty,h1,h2,?_⟩
 have hA:=ha cpos pins s1 σ H1 _ I1 q1
 rw[hs]at hA ⊢
 refine Calls.callWith_builtin (by show (false||(backTo cpos (starEach es X.env)).any (·.1))=false;rw[hplain]<;>rfl) (Calls.evalArgs_plain ?_)
 exact aU hA fun us s2 ⟨vs,H2,I2,r2,q2⟩=>hm pins s2 σ H2 x vs v us Q I2 r1 r2 q2
end
end L2
namespace L2
open PySem PySem.Spec PyProof.Rows
def uN(X:Cx)(id:String)(r:V->List V->Hp->VK->Prop):Prop:=
 ∀(pins:List (Addr×Obj)) (s:Shared) (σ:St) (H:Hp) (x:V) (xs:List V) (v:Value) (us:List Value) (Q:VK),Inv X pins σ H s->RelV x v->aK xs us->r x xs H Q->
  wpAny (model X.prog X.w) X.A (call (.builtin id) (v::us)) (EP X pins σ Q) X.xe s
theorem aK.one:∀{x:V}{us:List Value},aK [x] us->∃u,us=[u]/\RelV x u
 |_,_,.cons r .nil=>⟨_,rfl,r⟩
theorem aK.zero:∀{us:List Value},aK [] us->us=[]
 |_,.nil=>rfl
theorem aK.dropLast{xs:List V}{us:List Value}(h:aK xs us):aK xs.dropLast us.dropLast:=by
 induction h with
 |nil=>exact .nil
 |cons r t ih=>
  cases t with
  |nil=>exact .nil
  |cons q t'=>exact .cons r ih
theorem aK.eraseIdx:∀{xs:List V}{us:List Value} (i:Nat),aK xs us->aK (xs.eraseIdx i) (us.eraseIdx i)
 |_,_,_,.nil=>.nil
 |_,_,0,.cons _ t=>t
 |_,_,i+1,.cons r t=>.cons r (aK.eraseIdx i t)
theorem aK.rep{xs:List V}{us:List Value}(h:aK xs us):∀k:Nat,aK (List.replicate k xs).flatten (List.replicate k us).flatten
 |0=>.nil
 |k+1=>by
  rw[kX,kX,qK,qK]
  exact aK.append h (aK.rep h k)
theorem Lg{α:Type}(l:List α):l.eraseIdx (l.length - 1)=l.dropLast:=by
 induction l with
 |nil=>rfl
 |cons a r ih=>
  cases r with
  |nil=>rfl
  |cons b r=>
   have e:(a::b::r).length - 1=((b::r).length - 1)+1:=by
    have h1:(a::b::r).length=r.length+2:=rfl
    have h2:(b::r).length=r.length+1:=rfl
    omega
   rw[e,List.eraseIdx_cons_succ,ih]
   all_goals rfl
theorem DK{α:Type}:∀(l:List α) (i:Nat),(l.eraseIdx i).length<=l.length
 |[],_=>aX _
 |_::_,0=>Nat.le_succ _
 |_::r,i+1=>Nat.succ_le_succ (DK r i)
theorem foldl_rep(its:List Value):∀(k:Nat) (acc:List Value),
  List.foldl (fun x1 x2=>x1++x2) acc.toArray (List.replicate k its.toArray)=(acc++(List.replicate k its).flatten).toArray
 |0,acc=>by simp
 |k+1,acc=>by
  have e:acc.toArray++its.toArray=(acc++its).toArray:=by simp
  have e2:(acc++its)++(List.replicate k its).flatten=acc++(List.replicate (k+1) its).flatten:=by
   rw[kX,qK,dG]
  rw[<-e2,<-foldl_rep its k (acc++its),<-e,kX,gG]
section
variable{X:Cx}{pins:List (Addr×Obj)}{σ:St}{H:Hp}{s:Shared}{l b:Addr}{xs ys zs:List V}
theorem Inv.uO{its its':List Value}{n:Nat}{f:Array Value->Array Value}{t':Nat}(I:Inv X pins σ H s)(hH:H l=some (.lst xs))
  (e:s.heap.get? l=some {cls:=.type "list",data:=.seq its.toArray n})(hf:f its.toArray=its'.toArray)(hv:aK ys its')(hz:ys.length<=sizeLine):
  Inv X pins σ (upd H l (.lst ys)) {s with heap:=s.heap.update l (Obj.mapSeq f),toks:=t'}:=by
 have q:=PySem.IsL.update e f
 rw[hf]at q
 refine I.write (x:=l) (e:=l) (by rw[hH];exact trivial) (.inl rfl) (fun b' u hb hu=>(Heap.get?_update_other s.heap (Obj.mapSeq f) (Ne.symm hb)).trans hu) ⟨_,q⟩ ?_
 exact⟨hz,its',_,hv,q⟩
theorem Inv.DL{its:List Value}{t':Nat}(I:Inv X pins σ H s)(hv:aK ys its)(hz:ys.length<=sizeLine):
  Inv X pins σ (upd H s.heap.objs.size (.lst ys)) {s with heap:=s.heap.push {cls:=.type "list",data:=.seq its.toArray},toks:=t'}:=
 I.laid (fun _ _ q=>Heap.get?_push_of_some _ q) (aX _) ⟨hz,its,0,hv,Heap.get?_push_size _ rfl⟩
theorem Inv.fresh(I:Inv X pins σ H s):H s.heap.objs.size=none:=I.aP.fresh (aX _)
theorem Inv.mF(I:Inv X pins σ H s)(hH:H l=some (.lst xs)):xs.length<=sizeLine/\∃(its:List Value) (n:Nat),aK xs its/\xs.length=its.length/\s.heap.get? l=some {cls:=.type "list",data:=.seq its.toArray n}:=by
 obtain⟨z,its,n,r,e⟩:=I.aP l _ hH
 exact⟨z,its,n,r,r.length,e⟩
theorem DM{n:Nat}(h:n<=sizeLine):Builtin.List.listTooLong n=false:=by
 unfold Builtin.List.listTooLong
 exact cu (by omega)
end
section
variable{X:Cx}
def DN:V->List V->Hp->VK->Prop:=fun x vs H Q=>∃l xs y,x=.ref l/\vs=[y]/\H l=some (.lst xs)/\xs.length<sizeLine/\Q .aW (upd H l (.lst (xs++[y])))
theorem Lh:uN X "list.append" DN:=by
 intro pins s σ H x vs v us Q I rx rv h
 obtain⟨l,xs,y,rfl,rfl,hH,hz,q⟩:=h
 cases rx
 obtain⟨u,rfl,ru⟩:=rv.one
 obtain⟨z,its,n,r,hl,e⟩:=I.mF hH
 refine call_meets F.slot_list_append ⟨_,e,rfl⟩ F.entry_list_append (F.args_list_append_2 _ _) (PySem.list_append l its.toArray n u (by rw[cX];omega)) ⟨e,?_⟩
 refine⟨.aW,_,I.uO (its':=its++[u]) hH e (by simp) (r.append (.cons ru .nil)) ?_,rfl,q⟩
 rw[bF,oW]
 omega
def DO:V->List V->Hp->VK->Prop:=fun x vs H Q=>∃l b xs zs,x=.ref l/\vs=[.ref b]/\H l=some (.lst xs)/\H b=some (.lst zs)/\xs.length+zs.length<=sizeLine/\Q .aW (upd H l (.lst (xs++zs)))
theorem Lj:uN X "list.extend" DO:=by
 intro pins s σ H x vs v us Q I rx rv h
 obtain⟨l,b,xs,zs,rfl,rfl,hH,hB,hz,q⟩:=h
 cases rx
 obtain⟨u,rfl,ru⟩:=rv.one
 cases ru
 obtain⟨z,its,n,r,hl,e⟩:=I.mF hH
 obtain⟨z2,its2,n2,r2,hl2,e2⟩:=I.mF hB
 have hsz:its.toArray.size+its2.toArray.size<=sizeLine:=by rw[cX,cX];omega
 have hlong:¬(!its.toArray.isEmpty&&Builtin.List.listTooLong (its.toArray.size+its2.toArray.size))=true:=by
  rw[DM hsz,Bool.and_false]
  exact fj
 refine call_meets F.slot_list_extend ⟨_,e,rfl⟩ F.entry_list_extend (F.args_list_extend_2 _ _)
  (AutoSeq1.list_extend_list_list_0 l its.toArray n b its2.toArray n2 hlong (by rw[cX];omega) (by omega)) ⟨e,e2,?_⟩
 refine⟨.aW,_,I.uO (its':=its++its2) hH e (by simp) (r.append r2) ?_,rfl,q⟩
 rw[bF]
 omega
def Lk:V->List V->Hp->VK->Prop:=fun x vs H Q=>∃l xs y,x=.ref l/\vs=[]/\H l=some (.lst xs)/\xs[xs.length - 1]?=some y/\Q y (upd H l (.lst xs.dropLast))
theorem Ll:uN X "list.pop" Lk:=by
 intro pins s σ H x vs v us Q I rx rv h
 obtain⟨l,xs,y,rfl,rfl,hH,hy,q⟩:=h
 cases rx
 have hus:=rv.zero
 subst hus
 obtain⟨z,its,n,r,hl,e⟩:=I.mF hH
 obtain⟨u,hu,ru⟩:=r.get hy
 have hy':its.toArray[its.toArray.size - 1]?=some u:=by
  show its.toArray[its.length - 1]?=some u
  rw[<-Array.getElem?_toList,<-hl]
  exact hu
 refine call_meets F.slot_list_pop ⟨_,e,rfl⟩ F.entry_list_pop (F.args_list_pop_1 _) (MeetsSeq.list_pop_last l its.toArray n u hy' (by rw[cX];omega)) ⟨e,?_⟩
 refine⟨y,_,I.uO (its':=its.dropLast) hH e ?_ r.dropLast ?_,ru,q⟩
 ·show its.toArray.eraseIdxIfInBounds (its.toArray.size - 1)=its.dropLast.toArray
  rw[cX,List.eraseIdxIfInBounds_toArray,Lg]
 ·rw[List.length_dropLast]
  omega
def Lm:V->List V->Hp->VK->Prop:=fun x vs H Q=>∃l xs i k y,x=.ref l/\vs=[.int i]/\H l=some (.lst xs)/\ -(2 ^ 63)<=i/\i<2 ^ 63/\seqIndex? i xs.length=some k/\xs[k]?=some y/\Q y (upd H l (.lst (xs.eraseIdx k)))
theorem DP:uN X "list.pop" Lm:=by
 intro pins s σ H x vs v us Q I rx rv h
 obtain⟨l,xs,i,k,y,rfl,rfl,hH,h1,h2,hk,hy,q⟩:=h
 cases rx
 obtain⟨u,rfl,ru⟩:=rv.one
 obtain⟨t,rfl⟩:=ru
 obtain⟨z,its,n,r,hl,e⟩:=I.mF hH
 obtain⟨w,hw,rw'⟩:=r.get hy
 refine call_meets F.slot_list_pop ⟨_,e,rfl⟩ F.entry_list_pop (F.args_list_pop_2 _ _)
  (MeetsSeq.list_pop_at l its.toArray n i t k w (fitsIndex_both h1 h2) (by rw[cX,<-hl];exact hk) (by rw[<-Array.getElem?_toList];exact hw) (by rw[cX];omega)) ⟨e,?_⟩
 refine⟨y,_,I.uO (its':=its.eraseIdx k) hH e ?_ (r.eraseIdx k) ?_,rw',q⟩
 ·show its.toArray.eraseIdxIfInBounds k=(its.eraseIdx k).toArray
  rw[List.eraseIdxIfInBounds_toArray]
 ·have:=DK xs k
  omega
def DQ:R2:=fun x y H Q=>∃l b xs zs,x=.ref l/\y=.ref b/\H l=some (.lst xs)/\H b=some (.lst zs)/\xs.length+zs.length<=sizeLine/\∀p,H p=none->Q (.ref p) (upd H p (.lst (xs++zs)))
theorem fH:cT X (binaryOp .Add) DQ:=by
 intro pins s σ H x y v u Q I rx ry h
 obtain⟨l,b,xs,zs,rfl,rfl,hH,hB,hz,q⟩:=h
 cases rx
 cases ry
 obtain⟨z,its,n,r,hl,e⟩:=I.mF hH
 obtain⟨z2,its2,n2,r2,hl2,e2⟩:=I.mF hB
 refine PySem.P.add_list e e2 ?_ (by rw[cX,cX];omega)
 have ea:its.toArray++its2.toArray=(its++its2).toArray:=by simp
 rw[ea]
 exact⟨.ref _,_,I.DL (t':=s.toks) (r.append r2) (by rw[bF];omega),rfl,q _ I.fresh⟩
def Ln:R2:=fun x y H Q=>∃l k xs,x=.ref l/\y=.int k/\H l=some (.lst xs)/\ -(2 ^ 63)<=k/\k<2 ^ 63/\xs.length * k.toNat<=sizeLine/\
 ∀p,H p=none->Q (.ref p) (upd H p (.lst (List.replicate k.toNat xs).flatten))
theorem len_rep{α:Type}(xs:List α)(k:Nat):(List.replicate k xs).flatten.length=k * xs.length:=by
 induction k with
 |zero=>simp
 |succ k ih=>rw[kX,qK,bF,ih,oX,Nat.add_comm]
theorem rF:cT X (binaryOp .Mult) Ln:=by
 intro pins s σ H x y v u Q I rx ry h
 obtain⟨l,k,xs,rfl,rfl,hH,h1,h2,hz,q⟩:=h
 cases rx
 obtain⟨t,rfl⟩:=ry
 obtain⟨z,its,n,r,hl,e⟩:=I.mF hH
 have hlen:its.toArray.size * k.toNat<=sizeLine:=by rw[cX,<-hl];exact hz
 have hcap:¬its.toArray.size * k.toNat > (2 ^ 63 - 1) / 8:=by
  have:(sizeLine:Nat)<=(2 ^ 63 - 1) / 8:=by decide
  omega
 have hfit:¬(!Builtin.List.listFitsIndex k)=true:=by
  rw[fitsIndex_both h1 h2]
  exact fj
 have hlong:¬Builtin.List.listTooLong (its.toArray.size * k.toNat)=true:=by
  rw[DM hlen]
  exact fj
 have hnew:List.foldl (fun x1 x2=>x1++x2) #[] (List.replicate (if its.toArray.isEmpty=true then 0 else k.toNat) its.toArray)=(List.replicate k.toNat its).flatten.toArray:=by
  have f0:∀m:Nat,List.foldl (fun x1 x2=>x1++x2) #[] (List.replicate m its.toArray)=(List.replicate m its).flatten.toArray:=fun m=>by
   have:=foldl_rep its m []
   rw[kY]at this
   exact this
  rw[f0]
  cases its with
  |nil=>simp
  |cons a r'=>rw[ae (by simp)]
 refine wpAny_binaryOp_repeat_ref (T:="list") (U:="int") (by decide) ⟨_,e,rfl⟩ (fun s'=>typeIs_int s' k t) noFill_list_mul F.fills_int_mul F.slot_int_rmul repeat_list F.slot_int_index.lookup
  (call_meets F.slot_int_rmul (typeIs_int s k t) F.entry_int_rmul (F.args_int_rmul_2 _ _) (int___rmul___int_list k t l its.toArray n)
   ⟨e,rfl,⟨_,e,rfl⟩,call_meets F.slot_list_mul ⟨_,e,rfl⟩ F.entry_list_mul (F.args_list_mul_2 _ _) (AutoListH.list___mul___list_int_3 l its.toArray n k t hfit hcap hlong) ⟨e,?_⟩⟩)
 rw[hnew]
 exact⟨.ref _,_,I.DL (t':=s.toks) (r.rep k.toNat) (by rw[len_rep,Nat.mul_comm];exact hz),rfl,q _ I.fresh⟩
end
end L2
namespace L2
open PySem PySem.Spec PyProof.Rows
theorem aK.ints:∀{ns:List Int}{us:List Value},aK (ns.map V.int) us->IntsAre us ns
 |[],us,h=>by
  rw[List.map_nil]at h
  cases h
  exact IntsAre.nil
 |n::ns,us,h=>by
  rw[dQ]at h
  cases h with
  |cons r t=>
   obtain⟨k,rfl⟩:=r
   exact IntsAre.cons n k (aK.ints t)
theorem DR:∀{us:List Value}{ns:List Int},IntsAre us ns->aK (ns.map V.int) us
 |_,_,.nil=>by rw[List.map_nil];exact Paired.nil
 |_,_,.cons n t h=>by rw[dQ];exact Paired.cons (show RelV (V.int n) (Value.int n t) from ⟨t,rfl⟩) (DR h)
theorem aK.DS:∀{bs:List Bool}{us:List Value},aK (bs.map V.bl) us->us=bs.map Value.bool
 |[],us,h=>by
  rw[List.map_nil]at h
  cases h
  rfl
 |b::bs,us,h=>by
  rw[dQ]at h
  cases h with
  |cons r t=>
   cases r
   rw[aK.DS t,dQ]
theorem aK.xN{a:Addr}{us:List Value}(r:aK [V.ref a] us):us=[Value.ref a]:=by
 cases r with
 |cons r t=>
  cases t
  cases r
  rfl
section
variable{prog:Program}{w:World}{A:Around}{E:Value->Shared->Prop}{s:Shared}{l:Addr}{its:List Value}{ns:List Int}{Q:Value->Shared->Prop}
theorem Lo(hh:A.handled=none)(hl:s.heap.IsList l its.toArray)(hi:IntsAre its ns)
  (h:∀h' tk t',(∀b o,s.heap.get? b=some o->h'.get? b=some o)->Q (.int ns.sum t') {s with heap:=h',toks:=tk}):wpAny (model prog w) A (call (.builtin "sum") [.ref l]) Q E s:=by
 obtain⟨xs,e⟩:=hi.allInts.items
 have hn:numsOf (intItems xs).toList=ns:=by rw[<-e];exact hi.numsOf
 rw[nums_intItems]at hn
 rw[e]at hl
 refine PySem.sum_intListG hh hl fun h' tk t' hk=>?_
 have:=h h' tk t' hk
 rw[preSum_eq,oY (by simp),hn];exact this
end
section
variable{X:Cx}
def Lp(K:PySem.W.Frag):List V->Hp->VK->Prop:=fun vs H Q=>∃(a:Addr) (ns:List Int),vs=[V.ref a]/\ai K H a (ns.map V.int)/\Q (.int ns.sum) H
theorem Lq(hc:X.calm=true):i_ X (.builtin "sum") (Lp X.K):=by
 intro pins s σ H vs us Q I r h
 obtain⟨a,ns,rfl,hs,q⟩:=h
 obtain⟨its,rv,hl,_⟩:=I.list hs
 rw[aK.xN r]
 exact Lo (I.ok.hd hc) hl.isList rv.ints fun h' tk t' hk=>⟨.int _,H,I.kept hk,⟨_,rfl⟩,q⟩
def Lu(K:PySem.W.Frag):List V->Hp->VK->Prop:=fun vs H Q=>∃(a:Addr) (ns:List Int),vs=[V.ref a]/\ai K H a (ns.map V.int)/\ns.length<64/\
 ∀(ns':List Int) (p:Addr),ns'.Perm ns->ns'.Pairwise (·<=·)->H p=none->Q (.ref p) (upd H p (.lst (ns'.map V.int)))
theorem Lw{n:Nat}(h:n<64):n<=sizeLine:=by rw[sizeLine_eq];omega
theorem Lx:i_ X (.builtin "sorted") (Lu X.K):=by
 intro pins s σ H vs us Q I r h
 obtain⟨a,ns,rfl,hs,h64,q⟩:=h
 obtain⟨its,rv,hl,_⟩:=I.list hs
 rw[aK.xN r]
 have hi:=rv.ints
 refine PyProof.Rows.sorted_ints hl.isList hi (by rw[hi.length];exact h64) fun out ns' h1 h2 h3=>?_
 obtain⟨ep,he'⟩:=PyProof.Rows.sortedAll_at s.heap its out
 have hlen:(ns'.map V.int).length<=sizeLine:=by rw[aE,h2.length_eq];exact Lw h64
 exact⟨.ref _,upd H (s.heap.objs.size+1) (.lst (ns'.map V.int)),I.laid (t':=s.toks) (fun _ _=>PyProof.Rows.sortedAll_old) (Nat.le_succ _) ⟨hlen,out.toList,ep,DR h1,he'⟩,rfl,q ns' _ h2 h3 (I.aP.fresh (Nat.le_succ _))⟩
end
theorem Ly{prog:Program}{w:World}{A:Around}{E:Value->Shared->Prop}{s:Shared}{l:Addr}{items:Array Value}{Q:Value->Shared->Prop}(hl:s.heap.IsList l items)
  (h:∀s₂:Shared,s₂={s with heap:=s.heap.push {cls:=.type "list_iterator",data:=.fields #[.ref l,.int 0 0]}}->
   (s₂.heap.IsListIter s.heap.objs.size l 0/\s₂.heap.IsList l items)->l≠s.heap.objs.size->Q (.ref s.heap.objs.size) s₂):wpAny (model prog w) A (pyIter (.ref l)) Q E s:=by
 have hlt:l<s.heap.objs.size:=by obtain⟨_,e,_⟩:=hl;exact Heap.lt_size e
 exact wpAny_pyIter_list hl (h _ rfl ⟨⟨_,Heap.get?_push_size _ rfl,rfl,rfl⟩,hl.push _⟩ (gF hlt))
theorem Lz{prog:Program}{w:World}{A:Around}{bs:List Bool}{its:List Value}(e:its=bs.map Value.bool):
  TruthOf prog w A (fun i v=>its.toArray[i]?=some v) (fun i=>bs.getD i false):=fun i v s Q E hv hq=>by
 have hv':its[i]?=some v:=by simpa using hv
 rw[e,bX]at hv'
 obtain⟨b,hb,rfl⟩:=Option.map_eq_some_iff.mp hv'
 have hg:bs.getD i false=b:=by rw[d7,hb]<;>rfl
 have hq':Q (bs.getD i false) s:=hq
 rw[hg]at hq'
 exact wpAny_truthy_bool hq'
theorem all_range:∀bs:List Bool,(List.range bs.length).all (fun i=>bs.getD i false)=bs.all id
 |[]=>rfl
 |b::bs=>by
  rw[bP,xf,List.all_cons,List.all_map,List.all_cons,<-all_range bs]
  all_goals rfl
section
variable{X:Cx}
def LA(K:PySem.W.Frag):List V->Hp->VK->Prop:=fun vs H Q=>∃(a:Addr) (bs:List Bool),vs=[V.ref a]/\ai K H a (bs.map V.bl)/\Q (.bl (bs.all id)) H
theorem DT(hc:X.calm=true):i_ X (.builtin "all") (LA X.K):=by
 intro pins s σ H vs us Q I r h
 obtain⟨a,bs,rfl,hs,q⟩:=h
 obtain⟨its,rv,hl,_⟩:=I.list hs
 rw[aK.xN r]
 have hb:=rv.DS
 refine call_all_walk (Ly hl.isList fun s₂ e2 st hne=>?_)
 subst e2
 refine⟨_,_,_,_,_,_,_,rfl,Walks.list (A:=X.A.in1) (I.ok.hd hc) _ a hne its.toArray,st,Lz hb,fun h' tk hk=>?_⟩
 refine⟨.bl _,H,I.kept fun b o eo=>hk b o (fun hmem=>?_) (Heap.get?_push_of_some _ eo),?_,q⟩
 ·rcases cj.mp hmem with e1|hmem
  ·exact absurd (e1 ▸ Heap.lt_size eo) (iW _)
  ·cases hmem
 ·show Value.bool _=Value.bool _
  rw[<-all_range,hb,cX,aE]
end
mutual
inductive Dp(K:PySem.W.Frag)(H:Hp):V->PyData->Prop
 |aW:Dp K H .aW .none
 |bl (b:Bool):Dp K H (.bl b) (.bool b)
 |int (i:Int):Dp K H (.int i) (.int i)
 |str (x:Str):Dp K H (.str x) (.str x)
 |lst {a:Addr}{xs:List V}{ds:List PyData}:ai K H a xs->ny K H xs ds->Dp K H (.ref a) (.list ds)
 |tup {a:Addr}{xs:List V}{ds:List PyData}:fv K H a xs->ny K H xs ds->Dp K H (.ref a) (.tuple ds)
inductive ny(K:PySem.W.Frag)(H:Hp):List V->List PyData->Prop
 |nil:ny K H [] []
 |cons {v:V}{vs:List V}{d:PyData}{ds:List PyData}:Dp K H v d->ny K H vs ds->ny K H (v::vs) (d::ds)
end
section
variable{X:Cx}{pins:List (Addr×Obj)}{σ:St}{H:Hp}{s:Shared}
mutual
theorem Dp.reads(I:Inv X pins σ H s):∀(d:PyData) (v:V) (u:Value),Dp X.K H v d->RelV v u->∃as,Reads s.heap u d as
 |.none,_,_,h,r=>by
  cases h
  cases r
  exact⟨_,Reads.none⟩
 |.bool b,_,_,h,r=>by
  cases h
  cases r
  exact⟨_,Reads.bool b⟩
 |.int i,_,_,h,r=>by
  cases h
  obtain⟨t,rfl⟩:=r
  exact⟨_,Reads.int i t⟩
 |.str x,_,_,h,r=>by
  cases h
  obtain⟨t,rfl⟩:=r
  exact⟨_,Reads.str x t⟩
 |.list ds,_,_,h,r=>by
  cases h with
  |lst hs ha=>
   cases r
   obtain⟨its,rv,⟨o,n,ho,hc,_,hd⟩,_⟩:=I.list hs
   obtain⟨as,hr⟩:=Dp.readsAll I ds _ its ha rv
   exact⟨_,Reads.list ho hc hd hr⟩
 |.tuple ds,_,_,h,r=>by
  cases h with
  |tup hs ha=>
   cases r
   obtain⟨its,rv,⟨o,ho,hc,n,hd⟩,_⟩:=I.tuple hs
   obtain⟨as,hr⟩:=Dp.readsAll I ds _ its ha rv
   exact⟨_,Reads.tuple ho hc hd hr⟩
 |.dict _,_,_,h,_=>by cases h
theorem Dp.readsAll(I:Inv X pins σ H s):∀(ds:List PyData) (vs:List V) (us:List Value),ny X.K H vs ds->aK vs us->∃as,ReadsAll s.heap us ds as
 |[],_,_,h,r=>by
  cases h
  cases r
  exact⟨_,ReadsAll.nil⟩
 |d::ds,_,_,h,r=>by
  cases h with
  |cons h1 h2=>
   cases r with
   |cons r1 r2=>
    obtain⟨as,q1⟩:=Dp.reads I d _ _ h1 r1
    obtain⟨bs,q2⟩:=Dp.readsAll I ds _ _ h2 r2
    exact⟨_,ReadsAll.cons q1 q2⟩
end
end
section
variable{X:Cx}
def xO(K:PySem.W.Frag):R2:=fun x y H Q=>∃d e,Dp K H x d/\Dp K H y e/\SeqAt.shaped d=true/\SeqAt.shaped e=true/\Q (.bl (PyData.eqv d e)) H
def xP(K:PySem.W.Frag):R2:=fun x y H Q=>∃d e,Dp K H x d/\Dp K H y e/\SeqAt.shaped d=true/\SeqAt.shaped e=true/\Q (.bl (!PyData.eqv d e)) H
theorem pI(hu:X.A.units+64<cLine):cT X (compareOp .Eq) (xO X.K):=by
 intro pins s σ H x y v u Q I rx ry h
 obtain⟨d,e,hd,he,sd,se,q⟩:=h
 obtain⟨as,r1⟩:=Dp.reads I d x v hd rx
 obtain⟨bs,r2⟩:=Dp.reads I e y u he ry
 exact SeqAt.compareEq_shaped r1 r2 sd se hu ⟨.bl _,H,I,rfl,q⟩
theorem LB(hu:X.A.units+64<cLine):cT X (compareOp .NotEq) (xP X.K):=by
 intro pins s σ H x y v u Q I rx ry h
 obtain⟨d,e,hd,he,sd,se,q⟩:=h
 obtain⟨as,r1⟩:=Dp.reads I d x v hd rx
 obtain⟨bs,r2⟩:=Dp.reads I e y u he ry
 exact SeqAt.compareNe_shaped r1 r2 sd se hu ⟨.bl _,H,I,rfl,q⟩
end
end L2
namespace L2
open PySem PySem.Spec PyProof.Rows
abbrev DU(h:Heap)(c:Addr)(v:Option Value):Prop:=h.IsCell c v
def LC(scope sc:Scope):Scope:=
 {scope with names:=scope.names.map fun (n,k)=>if (k == .free&&sc.kind == .function&&sc.names.lookup n == some .cell) then (n,.cell) else (n,k)}
def d9(cells:List (Str×Addr)):List (Str×NameKind)->List (Str×Addr)->List (Str×Addr)
 |[],acc=>acc
 |(n,k)::r,acc=>if k == .free then d9 cells r ((n,(cells.lookup n).getD 0)::acc) else d9 cells r acc
theorem DV(env:Env)(f:Str×NameKind->List (Str×Addr)->Sem (ForInStep (List (Str×Addr))))
  (hf:∀n k c,f (n,k) c=if k == .free then (do let a <-cellOf env n;pure (.yield ((n,a)::c))) else pure (.yield c)):
  ∀(names:List (Str×NameKind)) (acc:List (Str×Addr)),(∀y∈names,y.2=.free->∃c,env.cells.lookup y.1=some c)->forIn names acc f=pure (d9 env.cells names acc)
 |[],acc,_=>by rw[List.forIn_nil];rfl
 |(n,k)::r,acc,h=>by
  rw[List.forIn_cons,hf]
  have ih:=fun acc=>DV env f hf r acc fun y hy=>h y (bH _ hy)
  unfold d9
  by_cases hk:(k == NameKind.free)=true
  ·rw[af hk,af hk]
   obtain⟨c,hc⟩:=h (n,k) bE (by simpa using hk)
   have e:cellOf env n=pure c:=by unfold cellOf;rw[hc]
   rw[e]
   have e2:(env.cells.lookup n).getD 0=c:=by rw[hc];rfl
   rw[e2]
   exact ih _
  ·rw[ae hk,ae hk]
   exact ih _
theorem LD{scope:Scope}{env:Env}(h:∀y∈scope.names,y.2=.free->∃c,env.cells.lookup y.1=some c):closureFor scope env=pure (d9 env.cells scope.names []):=by
 simp only [closureFor]
 rw[DV env _ (fun n k c=>rfl) scope.names [] h]
 rfl
theorem mem_lookup{α:Type}:∀{l:List (Str×α)}{n:Str}{c:α},(n,c)∈l->∃c',l.lookup n=some c'
 |(k,v)::r,n,c,h=>by
  rw[qM]
  cases hb:n == k with
  |true=>exact⟨_,rfl⟩
  |false=>
   rcases cj.mp h with e|h
   ·cases e;simp at hb
   ·exact mem_lookup h
theorem uP{cells:List (Str×Addr)}:∀{names:List (Str×NameKind)}{acc:List (Str×Addr)}{n:Str}{c:Addr},(n,c)∈d9 cells names acc->(n,c)∈acc\/((n,.free)∈names/\c=(cells.lookup n).getD 0)
 |[],_,_,_,h=>.inl h
 |(m,k)::r,acc,n,c,h=>by
  unfold d9 at h
  split at h
  ·rename_i hk
   have hk:k=.free:=by simpa using hk
   rcases uP h with h|⟨h1,h2⟩
   ·rcases cj.mp h with e|h
    ·cases e;exact .inr ⟨hk ▸ bE,rfl⟩
    ·exact .inl h
   ·exact .inr ⟨bH _ h1,h2⟩
  ·rcases uP h with h|⟨h1,h2⟩
   ·exact .inl h
   ·exact .inr ⟨bH _ h1,h2⟩
theorem xQ{cells:List (Str×Addr)}:∀{names:List (Str×NameKind)}{acc:List (Str×Addr)}{p:Str×Addr},p∈acc->p∈d9 cells names acc
 |[],_,_,h=>h
 |(m,k)::r,acc,p,h=>by
  unfold d9
  split
  ·exact xQ (bH _ h)
  ·exact xQ h
theorem xR{cells:List (Str×Addr)}:∀{names:List (Str×NameKind)}{acc:List (Str×Addr)}{n:Str},(n,.free)∈names->(n,(cells.lookup n).getD 0)∈d9 cells names acc
 |(m,k)::r,acc,n,h=>by
  unfold d9
  rcases cj.mp h with e|h
  ·cases e
   exact xQ bE
  ·split
   ·exact xR h
   ·exact xR h
theorem rG:∀{names:List (Str×NameKind)}{h:Heap}{acc:List (Str×Addr)}{x:Str}{c:Addr},(x,c)∈cellsFrom h.objs.size names acc->
  (x,c)∈acc\/((x,.cell)∈names/\h.objs.size<=c/\DU (pushCells h names) c none)
 |[],_,_,_,_,h=>.inl h
 |(n,k)::r,h,acc,x,c,hm=>by
  unfold cellsFrom at hm
  unfold pushCells
  split at hm
  ·rename_i hk
   rw[af hk]
   have hk:k=.cell:=by simpa using hk
   rw[<-Heap.size_push h {cls:=.type "cell",data:=.cell none}]at hm
   rcases rG hm with hm|⟨h1,h2,h3⟩
   ·rcases cj.mp hm with e|hm
    ·cases e
     exact .inr ⟨hk ▸ bE,aX _,_,pushCells_keeps r _ _ _ (Heap.get?_push_size _ rfl),rfl⟩
    ·exact .inl hm
   ·rw[Heap.size_push]at h2
    exact .inr ⟨bH _ h1,Nat.le_of_succ_le h2,h3⟩
  ·rename_i hk
   rw[ae hk]
   rcases rG hm with hm|⟨h1,h2,h3⟩
   ·exact .inl hm
   ·exact .inr ⟨bH _ h1,h2,h3⟩
theorem uQ:∀{names:List (Str×NameKind)}{n:Nat}{acc:List (Str×Addr)}{p:Str×Addr},p∈acc->p∈cellsFrom n names acc
 |[],_,_,_,h=>h
 |(m,k)::r,n,acc,p,h=>by
  unfold cellsFrom
  split
  ·exact uQ (bH _ h)
  ·exact uQ h
theorem xS:∀{names:List (Str×NameKind)}{n:Nat}{acc:List (Str×Addr)}{x:Str},(x,.cell)∈names->∃c,(x,c)∈cellsFrom n names acc
 |(m,k)::r,n,acc,x,h=>by
  unfold cellsFrom
  rcases cj.mp h with e|h
  ·cases e
   exact⟨n,uQ bE⟩
  ·split
   ·exact xS h
   ·exact xS h
theorem xT:∀{names:List (Str×NameKind)}{h:Heap}{acc:List (Str×Addr)}{x y:Str}{c:Addr},(∀p∈acc,p.2<h.objs.size)->(∀x y c,(x,c)∈acc->(y,c)∈acc->x=y)->
  (x,c)∈cellsFrom h.objs.size names acc->(y,c)∈cellsFrom h.objs.size names acc->x=y
 |[],_,_,_,_,_,_,hi,h1,h2=>hi _ _ _ h1 h2
 |(n,k)::r,h,acc,x,y,c,hl,hi,h1,h2=>by
  unfold cellsFrom at h1 h2
  split at h1
  ·rename_i hk
   rw[af hk]at h2
   rw[<-Heap.size_push h {cls:=.type "cell",data:=.cell none}]at h1 h2
   refine xT (h:=h.push _) (fun p hp=>?_) (fun x y c a b=>?_) h1 h2
   ·rw[Heap.size_push]
    rcases cj.mp hp with rfl|hp
    ·exact Nat.lt_succ_self _
    ·exact Nat.lt_succ_of_lt (hl p hp)
   ·rcases cj.mp a with e|a<;>rcases cj.mp b with e'|b
    ·cases e;cases e';rfl
    ·cases e;exact absurd (hl _ b) (iW _)
    ·cases e';exact absurd (hl _ a) (iW _)
    ·exact hi _ _ _ a b
  ·rename_i hk
   rw[ae hk]at h2
   exact xT hl hi h1 h2
theorem LF{M:Model}{A:Around}{E:Value->Shared->Prop}{s:Shared}{scope:Scope}{globals:Addr}{closure:List (Str×Addr)}{qual:Str}{func:Option Addr}{code:Value}{around:Env}{builtins:Addr}{Q:Env->Shared->Prop}
  (h:Q (newEnv scope s.heap.objs.size globals (cellsFrom (s.heap.objs.size+1) scope.names closure) qual func code (some around) builtins)
   {s with heap:=pushCells (s.heap.push {cls:=.type "dict",data:=.dict #[]}) scope.names}):
  wpAny M A (newFunctionEnv scope globals closure [] qual func code (some around) builtins) Q E s:=by
 simp only [newFunctionEnv,Option.isSome_some,if_true]
 refine wpAny_bind (wpAny_alloc ?_)
 refine wpAny_bind (wpAny_layCells _ (fun n k c=>rfl) scope.names closure _ _ ?_)
 rw[show ({s with heap:=s.heap.push {cls:=.type "dict",data:=.dict #[]}}:Shared).heap.objs.size=s.heap.objs.size+1 from Heap.size_push ..]
 rw[List.forIn_nil]
 exact wpAny_bind (wpAny_pure (wpAny_pure h))
theorem xU{sc:Scope}:∀{names:List (Str×NameKind)}{x:Str}{k:NameKind},
  (names.map fun (n,k)=>if (k == NameKind.free&&sc.kind == .function&&sc.names.lookup n == some .cell) then (n,NameKind.cell) else (n,k)).lookup x=some k->
  ∃k',names.lookup x=some k'/\(k=k'\/(k'=.free/\k=.cell))
 |[],_,_,h=>by simp at h
 |(n,k₀)::r,x,k,h=>by
  have ih:=@xU sc r x k
  have h':List.lookup x ((if (k₀ == NameKind.free&&sc.kind == .function&&sc.names.lookup n == some .cell)=true then (n,NameKind.cell) else (n,k₀))::(r.map _))=some k:=h
  cases hx:x == n with
  |true=>
   simp only [qM,hx]
   by_cases hc:(k₀ == NameKind.free&&sc.kind == .function&&sc.names.lookup n == some .cell)=true
   ·rw[af hc]at h'
    simp only [qM,hx]at h'
    cases h'
    simp only [br,beq_iff_eq]at hc
    exact⟨k₀,rfl,.inr ⟨hc.1.1,rfl⟩⟩
   ·rw[ae hc]at h'
    simp only [qM,hx]at h'
    cases h'
    exact⟨_,rfl,.inl rfl⟩
  |false=>
   simp only [qM,hx]
   by_cases hc:(k₀ == NameKind.free&&sc.kind == .function&&sc.names.lookup n == some .cell)=true
   ·rw[af hc]at h'
    simp only [qM,hx]at h'
    exact ih h'
   ·rw[ae hc]at h'
    simp only [qM,hx]at h'
    exact ih h'
structure rH(N:List Str)(sc scope:Scope)(own:List (Str×Nat)):Prop where
 kind:scope.kind=.function
 uniq:∀y∈scope.names,scope.names.lookup y.1=some y.2
 ix:∀p∈own,N[p.2]?=some p.1
 free:∀y∈scope.names,y.2=.free->sc.names.lookup y.1=some .cell\/sc.names.lookup y.1=some .free
 own:∀y∈scope.names,y.2=.local\/y.2=.cell->y.1∈own.map (·.1)\/y.1∉N
def wipe(σ:St):List Nat->St
 |[]=>σ
 |v::vs=>(wipe σ vs).set v none
theorem xV(σ:St):∀vs:List Nat,(wipe σ vs).length=σ.length
 |[]=>rfl
 |v::vs=>by unfold wipe;rw[gp,xV σ vs]
theorem xW{σ:St}{i:Nat}{x:V}:∀{vs:List Nat},(wipe σ vs)[i]?=some (some x)->σ[i]?=some (some x)/\i∉vs
 |[],h=>⟨h,by simp⟩
 |v::vs,h=>by
  unfold wipe at h
  by_cases hi:v=i
  ·subst hi
   by_cases hv:v<(wipe σ vs).length
   ·rw[List.getElem?_set_self hv]at h;cases h
   ·rw[qO (by simpa using hv)]at h;cases h
  ·rw[List.getElem?_set_ne hi]at h
   obtain⟨h1,h2⟩:=xW h
   exact⟨h1,by simp only [cj,not_or];exact⟨fun e=>hi e.symm,h2⟩⟩
abbrev Cx.eW(X:Cx)(s:Shared)(H:Hp)(scope:Scope)(cenv:Env)(fp:List Addr):Cx:={X with eI:=s,m_:=H,env:=cenv,outer:=X.stack,ex:=fp,fn:=fun x=>scope.names.lookup x == some .cell,pn:=[],xe:=fun _ _=>False}
section
variable{X:Cx}{pins:List (Addr×Obj)}{σ:St}{H:Hp}{s:Shared}
theorem LG{scope:Scope}{own:List (Str×Nat)}{fp:List Addr}(I:Inv X pins σ H s)(ok:rH X.N X.env.scope scope own)(hN:X.N.Nodup)(hfp:∀b∈fp,i8 X pins H b/\b<s.heap.objs.size):
  Inv (X.eW s H scope (compEnvC scope (cellsFrom (s.heap.objs.size+1) scope.names (d9 X.env.cells scope.names [])) s.heap.objs.size X.env) fp) [] (wipe σ (own.map (·.2))) H {s with heap:=pushCells (s.heap.push {cls:=.type "dict",data:=.dict #[]}) scope.names}:=by
 have hfree:∀y∈scope.names,y.2=.free->∃c,X.env.cells.lookup y.1=some c:=fun y hy e=>by
  rcases ok.free y hy e with k|k
  ·exact I.ok.has _ (.inl k)
  ·exact I.ok.has _ (.inr k)
 generalize hcenv:compEnvC scope (cellsFrom (s.heap.objs.size+1) scope.names (d9 X.env.cells scope.names [])) s.heap.objs.size X.env=cenv
 have kp:∀b o,s.heap.get? b=some o->(pushCells (s.heap.push {cls:=.type "dict",data:=.dict #[]}) scope.names).get? b=some o:=fun b o e=>pushCells_keeps _ _ _ _ (Heap.get?_push_of_some _ e)
 have hL:cenv.locals=s.heap.objs.size:=by rw[<-hcenv];rfl
 have hcl:cenv.cells=cellsFrom (s.heap.objs.size+1) scope.names (d9 X.env.cells scope.names []):=by rw[<-hcenv];rfl
 have hsc:cenv.scope=LC scope X.env.scope:=by rw[<-hcenv];rfl
 rw[<-Heap.size_push s.heap {cls:=.type "dict",data:=.dict #[]}]at hcl
 have cm:∀{y c},(y,c)∈d9 X.env.cells scope.names []->X.env.cells.lookup y=some c/\c<s.heap.objs.size:=fun {y c} hm=>by
  rcases uP hm with hm|⟨h1,rfl⟩
  ·cases hm
  ·obtain⟨c,hc⟩:=hfree _ h1 rfl
   rw[hc]
   obtain⟨w,z⟩:=I.cell _ _ hc
   exact⟨rfl,z.lt⟩
 have mem:∀{y c},cenv.cells.lookup y=some c->(X.env.cells.lookup y=some c/\c<s.heap.objs.size)\/(s.heap.objs.size+1<=c/\DU (pushCells (s.heap.push {cls:=.type "dict",data:=.dict #[]}) scope.names) c none):=fun {y c} e=>by
  rw[hcl]at e
  rcases rG (iA e) with hm|⟨_,h2,h3⟩
  ·exact .inl (cm hm)
  ·rw[Heap.size_push]at h2;exact .inr ⟨h2,h3⟩
 have look:∀{y},scope.names.lookup y=some .free->∃c,cenv.cells.lookup y=some c/\X.env.cells.lookup y=some c:=fun {y} hl=>by
  have hy:(y,NameKind.free)∈scope.names:=iA hl
  obtain⟨c',e'⟩:=mem_lookup (uQ (names:=scope.names) (n:=(s.heap.push {cls:=.type "dict",data:=.dict #[]}).objs.size) (xR (cells:=X.env.cells) (acc:=[]) hy))
  rw[<-hcl]at e'
  refine⟨c',e',?_⟩
  rw[hcl]at e'
  rcases rG (iA e') with hm|⟨h1,_,_⟩
  ·exact(cm hm).1
  ·have:=ok.uniq _ h1
   rw[hl]at this;cases this
 have okB:(X.eW s H scope cenv fp).Ok:=by
  refine⟨I.ok.mod,by show cenv.scope.kind=_;rw[hsc];exact ok.kind,by show cenv.globals=_;rw[<-hcenv];exact I.ok.glob,by show cenv.builtins=_;rw[<-hcenv];exact I.ok.blt,by show s.heap.objs.size<=cenv.locals;rw[hL];exact aX _,
   fun y z c e1 e2=>?_,fun y hy=>?_,fun y c z e=>?_,I.ok.hd,I.ok.frames,.inl rfl,fun b hb=>⟨?_,fun y c e z=>?_⟩,I.bs,cz I.ok.lh I.sz,fun b o e hb=>?_,fun b hb z=>?_,I.stack,I.CN⟩
  ·have e1:cenv.cells.lookup y=some c:=e1
   have e2:cenv.cells.lookup z=some c:=e2
   rw[hcl]at e1 e2
   refine xT (fun p hp=>?_) (fun y z c a b=>I.ok.inj y z c (cm a).1 (cm b).1) (iA e1) (iA e2)
   rw[Heap.size_push]
   exact Nat.lt_succ_of_lt (cm (y:=p.1) (c:=p.2) hp).2
  ·show ∃c,cenv.cells.lookup y=some c
   have key:∀k,cenv.kindOf y=some k->(k=.cell\/k=.free)->∃c,cenv.cells.lookup y=some c:=fun k hk hk'=>by
    unfold Env.kindOf at hk
    rw[hsc]at hk
    obtain⟨k',e,r⟩:=xU hk
    have:k'=.cell\/k'=.free:=by
     rcases r with rfl|⟨rfl,_⟩
     ·exact hk'
     ·exact .inr rfl
    rcases this with rfl|rfl
    ·obtain⟨c,hm⟩:=xS (n:=(s.heap.push {cls:=.type "dict",data:=.dict #[]}).objs.size) (acc:=d9 X.env.cells scope.names []) (iA e)
     obtain⟨c',e'⟩:=mem_lookup hm
     exact⟨c',by rw[hcl];exact e'⟩
    ·obtain⟨c,h1,_⟩:=look e
     exact⟨c,h1⟩
   rcases hy with hy|hy
   ·exact key _ hy (.inl rfl)
   ·exact key _ hy (.inr rfl)
  ·have z:(scope.names.lookup y == some NameKind.cell)=true:=z
   have z:scope.names.lookup y=some .cell:=by simpa using z
   have e:cenv.cells.lookup y=some c:=e
   rw[hcl]at e
   rcases rG (iA e) with hm|⟨_,h2,_⟩
   ·rcases uP hm with hm|⟨h1,_⟩
    ·cases hm
    ·have q:=ok.uniq _ h1
     rw[z]at q;cases q
   ·rw[Heap.size_push]at h2
    exact Nat.le_of_succ_le h2
  ·show b≠cenv.locals
   rw[hL];exact gF (hfp b hb).2
  ·have e:cenv.cells.lookup y=some c:=e
   rcases mem e with ⟨h1,_⟩|⟨h1,_⟩
   ·exact(hfp b hb).1.2.2.2.2.1 y c h1 z
   ·have h2:s.heap.objs.size+1<=b:=by rw[<-z];exact h1
    exact absurd (gE (hfp b hb).2 (Nat.le_of_succ_le h2)) (iW _)
  ·rcases(hfp b hb).1.2.2.2.1 with z|z
   ·exact I.ok.rg b o e z
   ·exact absurd (gE (Heap.lt_size e) (cz I.ok.lh z)) (iW _)
  ·rcases cj.mp (I.xp b z) with z|z
   ·exact(hfp b hb).1.2.1 z
   ·exact(hfp b hb).1.2.2.1 z
 refine⟨okB,rfl,I.bare,Un.kept kp,⟨fun _=>none,?_,fun i y av e1 e2 e3=>?_⟩,fun y c e=>?_,?_,fun y c e=>?_,fun p hp=>?_,I.aP.kept kp,by rw[xV];exact I.len⟩
 ·show Heap.Ns _ cenv.locals _
  rw[hL]
  exact Heap.Ns.keeps (Heap.Ns.new ..) fun b o e=>pushCells_keeps _ _ _ _ e
 ·obtain⟨e2,hne⟩:=xW e2
  have hfr:scope.names.lookup y=some .free/\(cenv.kindOf y=some .cell\/cenv.kindOf y=some .free):=by
   have key:∀k,cenv.scope.names.lookup y=some k->k=.local\/k=.cell\/k=.free->scope.names.lookup y=some .free/\(cenv.kindOf y=some .cell\/cenv.kindOf y=some .free):=fun k hk hk'=>by
    have hk0:=hk
    rw[hsc]at hk
    obtain⟨k',e,r⟩:=xU hk
    have no:¬(k'=.local\/k'=.cell):=fun hh=>by
     rcases ok.own _ (iA e) hh with e'|e'
     ·obtain⟨p,hp,hpy⟩:=bW.mp e'
      have e3:=ok.ix p hp
      have:p.1=y:=hpy
      rw[this]at e3
      exact hne (bW.mpr ⟨p,hp,xt hN e3 e1⟩)
     ·exact e' (m6 e1)
    rcases r with rfl|⟨rfl,rfl⟩
    ·rcases hk' with rfl|rfl|rfl
     ·exact absurd (.inl rfl) no
     ·exact absurd (.inr rfl) no
     ·exact⟨e,.inr hk0⟩
    ·exact⟨e,.inl hk0⟩
   have e3:pj cenv.scope y:=e3
   rcases e3 with e3|e3|e3
   ·exact key _ e3 (.inl rfl)
   ·exact key _ e3 (.inr (.inl rfl))
   ·exact key _ e3 (.inr (.inr rfl))
  obtain⟨m,hn,hl⟩:=I.loc
  have hvis:pj X.env.scope y:=(ok.free _ (iA hfr.1) rfl).elim (fun k=>.inr (.inl k)) (fun k=>.inr (.inr k))
  obtain⟨w,r,q⟩:=hl i y av e1 e2 hvis
  refine⟨w,r,.inr ⟨hfr.2,?_⟩⟩
  obtain⟨c,h1,h2⟩:=look hfr.1
  rcases q with ⟨k,_⟩|⟨_,c',e',z⟩
  ·have k:X.env.scope.names.lookup y=some .local:=k
   rcases ok.free _ (iA hfr.1) rfl with k'|k'<;>rw[show X.env.scope.names.lookup y=_ from k']at k<;>cases k
  ·rw[h2]at e';cases e'
   exact⟨c,h1,z.keeps kp⟩
 ·have e:cenv.cells.lookup y=some c:=e
  rcases mem e with ⟨h1,_⟩|⟨_,z⟩
  ·obtain⟨w,z⟩:=I.cell y c h1
   exact⟨w,z.keeps kp⟩
  ·exact⟨_,z⟩
 ·show H cenv.locals=none
  rw[hL];exact I.aP.fresh (aX _)
 ·have e:cenv.cells.lookup y=some c:=e
  rcases mem e with ⟨h1,_⟩|⟨h1,_⟩
  ·exact I.iC y c h1
  ·exact I.aP.fresh (Nat.le_of_succ_le h1)
 ·exact absurd (show p∈([]:List (Addr×Obj))++[] from hp) (by simp)
theorem LH{E:Value->Shared->Prop}{D:Addr}{xs:List V}{y:V}{v:Value}{Q:Value->Shared->Prop}(I:Inv X pins σ H s)(hD:H D=some (.lst xs))(hz:xs.length<sizeLine)(r:RelV y v)
  (h:∀s',Inv X pins σ (upd H D (.lst (xs++[y]))) s'->Q .none s'):wpAny (model X.prog X.w) X.A (call (.builtin "list.append") [.ref D,v]) Q E s:=by
 obtain⟨hz',its,n,ri,e⟩:=I.aP D _ hD
 have hl:=ri.length
 refine append_at (hsz:=by rw[cX];omega) e fun h' sb ho'=>?_
 refine h {s with heap:=h'} (I.write (t':=s.toks) (by rw[hD];trivial) (.inl rfl) (fun b u hb q=>(sb.2 b hb).trans q) ⟨_,ho'⟩ ⟨by rw[bF];exact hz,its++[v],n+1,ri.append (.cons r .nil),?_⟩)
 rw[ho']
 simp
def rJ(X:Cx)(ifs:List Expr)(t:TT):Prop:=
 ∀(pins:List (Addr×Obj)) (s:Shared) (σ:St) (H:Hp) (Q:Bool->Hp->Prop),Inv X pins σ H s->t σ H Q->
  wpAny (model X.prog X.w) X.A (forIn ifs true fun c r=>if r=true then do let ok <-isTrue c X.env (eval c X.env);pure (ForInStep.yield ok) else pure (ForInStep.yield r)) (TP X pins σ Q) X.xe s
def DW:TT:=fun _ H Q=>Q true H
theorem iL:rJ X [] DW:=fun _ _ _ H _ I h=>wpAny_tests_nil ⟨H,I,h⟩
theorem rK{c:Expr}{t:TT}(h:PT X c t):rJ X [c] t:=fun pins s σ H Q I hw=>wpAny_tests_one (h pins s σ H Q I hw)
end
theorem pJ{α:Type}{t:Sem α}{Q Q':α->Shared->Prop}{M:Model}{A:Around}{E:Value->Shared->Prop}{s:Shared}(h:wpAny M A t Q (fun _ _=>False) s)(hQ:∀a s,Q a s->Q' a s):wpAny M A t Q' E s:=wpAny_mono h hQ fun _ _ z=>False.elim z
theorem LI{prog:Program}{w:World}{A:Around}{R:Result->Shared->Prop}{s:Shared}{elt target iter:Expr}{ifs:List Expr}{scope:Scope}{pos:Pos}{it acc:Value}{env:Env}(I:Nat->Shared->Prop)
  (turn:∀n s,I n s->wpAny (model prog w) A (pyNext it) (fun r s₁=>match r with
   |none=>R (.ok .next) s₁
   |some v=>wpAny (model prog w) A (letOwnedTupleGo target it v) (fun _ s₁'=>wpAny (model prog w) A (assign target env v) (fun _ s₂=>
     wpAny (model prog w) A (forIn ifs true fun c r=>if r=true then do let ok <-isTrue c env (eval c env);pure (ForInStep.yield ok) else pure (ForInStep.yield r)) (fun ok s₃=>
      if ok=true then wpAny (model prog w) A (eval elt env) (fun x s₄=>
       wpAny (model prog w) A (call (.builtin "list.append") [acc,x]) (fun _ s₅=>∃m,m<n/\I m s₅) (notedBy (model prog w) A env fun e s'=>R (.error e) s') s₄) (notedBy (model prog w) A env fun e s'=>R (.error e) s') s₃
      else ∃m,m<n/\I m s₃) (notedBy (model prog w) A env fun e s'=>R (.error e) s') s₂) (notedBy (model prog w) A env fun e s'=>R (.error e) s') s₁') (notedBy (model prog w) A env fun e s'=>R (.error e) s') s₁) (notedBy (model prog w) A env fun e s'=>R (.error e) s') s)
  (n:Nat)(h:I n s):
  codeAny (model prog w) A (.compLoop (.ListComp elt [⟨target,iter,ifs,0⟩] scope pos) 0 it acc env) R s:=by
 refine codeAny_loop rfl I (fun n s hI=>?_) n h
 show wpAny _ A ((compTurn (.ListComp elt [⟨target,iter,ifs,0⟩] scope pos) 0 it acc env).onRaise (fun x=>do noteFrame x env;theTreesLotGoes x)) _ _ s
 refine wpAny_noted ?_
 rw[compTurn_list]
 refine wpAny_bind (wpAny_standAt (wpAny_bind (wpAny_mono (turn n s hI) (fun r s₁ h₁=>?_) fun _ _ h'=>h')))
 cases r with
 |none=>exact wpAny_pure h₁
 |some v=>
  refine wpAny_bind (wpAny_mono h₁ (fun _ s₁' h₁'=>?_) fun _ _ h'=>h')
  refine wpAny_bind (wpAny_mono h₁' (fun _ s₂ h₂=>wpAny_bind (wpAny_mono h₂ (fun ok s₃ h₃=>?_) fun _ _ h'=>h')) fun _ _ h'=>h')
  cases ok with
  |false=>exact wpAny_pure ⟨rfl,h₃⟩
  |true=>
   exact wpAny_bind (wpAny_bind (wpAny_mono h₃ (fun x s₄ h₄=>wpAny_bind (wpAny_mono h₄ (fun _ s₅ h₅=>wpAny_pure (wpAny_pure ⟨rfl,h₅⟩)) fun _ _ h'=>h')) fun _ _ h'=>h'))
section
variable{X:Cx}
def rN(wi:TI)(g:TG)(tt:TT)(te:TE)(vs:List Nat):TE:=fun σ H Q=>wi σ H fun J H1=>∀D,H1 D=none->∃W:Nat->Nat->Hp->Prop,(∃m,W 0 m (upd H1 D (.lst [])))/\∀i m H,W i m H->
 (J.stop i H/\Q (.ref D) H)\/(J.go i H/\∃Nx:Hp->Prop,(∀H',Nx H'->∃m',m'<m/\W (i+1) m' H')/\∀x H',J.iE i H x H'->g x (wipe σ vs) H' fun σ2 H2=>wipe σ2 vs=wipe σ vs/\tt σ2 H2 fun b H3=>
  if b=true then te σ2 H3 fun y H4=>∃acc,H4 D=some (.lst acc)/\acc.length<sizeLine/\Nx (upd H4 D (.lst (acc++[y]))) else Nx H3)
theorem DX{pins:List (Addr×Obj)}{s:Shared}{σ:St}{H:Hp}{Q:VK}{elt tg iter:Expr}{ifs:List Expr}{scope:Scope}{own:List (Str×Nat)}{pos pos':Pos}{wi:TI}{g:TG}{tt:TT}{te:TE}{use:Option (Value->Sem Unit)}{Qf:Value->Shared->Prop}
  (hc:X.calm=true)(hN:X.N.Nodup)(I:Inv X pins σ H s)(hi:PI X tg iter wi)(ok:rH X.N X.env.scope scope own)
  (hg:∀(s:Shared) (H:Hp) (C:Addr) (cl:List (Str×Addr)) (fp:List Addr),PG (X.eW s H scope (compEnvC scope cl C X.env) fp) tg g)(ht:∀(s:Shared) (H:Hp) (C:Addr) (cl:List (Str×Addr)) (fp:List Addr),rJ (X.eW s H scope (compEnvC scope cl C X.env) fp) ifs tt)
  (he:∀(s:Shared) (H:Hp) (C:Addr) (cl:List (Str×Addr)) (fp:List Addr),PE (X.eW s H scope (compEnvC scope cl C X.env) fp) elt te)(hs:∀x,foldedSetIterable iter X.env x=pure x)
  (h:rN wi g tt te (own.map (·.2)) σ H Q)
  (hRR:∀D C s' m H',Inv X pins σ H' s'->Q (.ref D) H'->s'.heap.Ns C m->i8 X pins H' C->compPost (model X.prog X.w) X.A X.xe use Qf (.ref D) C (.ok .next) s'):
  wpAny (model X.prog X.w) X.A (comprehension (.ListComp elt [⟨tg,iter,ifs,0⟩] scope pos) scope X.env pos' (newList []) false (eval iter X.env) use) Qf X.xe s:=by
 have hfree:∀y∈scope.names,y.2=.free->∃c,X.env.cells.lookup y.1=some c:=fun y hy e=>by
  rcases ok.free y hy e with k|k
  ·exact I.ok.has _ (.inl k)
  ·exact I.ok.has _ (.inr k)
 refine wpAny_comprehension_free (use:=use) rfl hs (LD hfree) ok.kind (fun y hy e=>by rw[ok.uniq y hy,e])
  (aU (hi pins s σ H _ I h) fun xv s1 hx=>aU hx fun itv s2 h2=>?_)
 obtain⟨it,fp,tn,J,H2,e,I2,T,st2,f2,q⟩:=h2
 subst e
 refine wpAny_newObj_type (LF ?_) (by show 0<=sizeLine;decide)
 generalize hD:s2.heap.objs.size=D
 have hDn:H2 D=none:=I2.aP.fresh (Nat.le_of_eq hD)
 obtain⟨W,⟨m0,w0⟩,turn⟩:=q D hDn
 generalize hs3:({s2 with heap:=s2.heap.push {cls:=.type "list",data:=.seq ([]:List Value).toArray}}:Shared)=s3
 have I3:Inv X pins σ (upd H2 D (.lst [])) s3:=by
  rw[<-hs3]
  refine I2.laid (t':=s2.toks) (fun b o e=>Heap.get?_push_of_some _ e) (Nat.le_of_eq hD) ⟨be _,[],0,.nil,?_⟩
  rw[<-hD]
  exact Heap.get?_push_size _ rfl
 have h3:s3.heap=s2.heap.push {cls:=.type "list",data:=.seq ([]:List Value).toArray}:=by rw[<-hs3]
 have sz:∀b∈fp,b<s2.heap.objs.size:=fun b hb=>by
  obtain⟨o,e,_⟩:=T.obj _ _ st2 b hb
  exact Heap.lt_size e
 have f3:∀b∈fp,i8 X pins (upd H2 D (.lst [])) b/\b<s3.heap.objs.size:=fun b hb=>by
  have hlt:=sz b hb
  refine⟨⟨?_,(f2 b hb).2⟩,by rw[h3,Heap.size_push];exact Nat.lt_succ_of_lt hlt⟩
  rw[ax (by rw[<-hD];exact gF hlt)]
  exact(f2 b hb).1
 have st3:tn 0 s3.heap:=T.keep _ _ _ st2 fun b _ o e=>by rw[h3];exact Heap.get?_push_of_some _ e
 have I4:=LG I3 ok hN f3
 have pg:=hg s3 (upd H2 D (.lst [])) s3.heap.objs.size (cellsFrom (s3.heap.objs.size+1) scope.names (d9 X.env.cells scope.names [])) fp
 have pt:=ht s3 (upd H2 D (.lst [])) s3.heap.objs.size (cellsFrom (s3.heap.objs.size+1) scope.names (d9 X.env.cells scope.names [])) fp
 have pe:=he s3 (upd H2 D (.lst [])) s3.heap.objs.size (cellsFrom (s3.heap.objs.size+1) scope.names (d9 X.env.cells scope.names [])) fp
 show codeAny _ _ (.compStart (.ListComp elt [⟨tg,iter,ifs,0⟩] scope pos) 0 (.ref it) (.ref D) (compEnvC scope (cellsFrom (s3.heap.objs.size+1) scope.names (d9 X.env.cells scope.names [])) s3.heap.objs.size X.env)) (compPost (model X.prog X.w) X.A X.xe use Qf (.ref D) s3.heap.objs.size) {s3 with heap:=pushCells (s3.heap.push {cls:=.type "dict",data:=.dict #[]}) scope.names}
 have nfp:∀b∈fp,(upd H2 D (.lst [])) b=none:=fun b hb=>(f3 b hb).1.1
 generalize hce:compEnvC scope (cellsFrom (s3.heap.objs.size+1) scope.names (d9 X.env.cells scope.names [])) s3.heap.objs.size X.env=ce at I4 pg pt pe ⊢
 have cL:ce.locals=s3.heap.objs.size:=by subst hce;rfl
 generalize hH3:upd H2 D (.lst [])=H3 at I3 I4 pg pt pe w0 nfp f3
 generalize hs4:({s3 with heap:=pushCells (s3.heap.push {cls:=.type "dict",data:=.dict #[]}) scope.names}:Shared)=s4 at I4 ⊢
 have st4:tn 0 s4.heap:=T.keep _ _ _ st3 fun b _ o e=>by rw[<-hs4];exact pushCells_keeps _ _ _ _ (Heap.get?_push_of_some _ e)
 have stat:∀{σ':St}{H':Hp}{s':Shared},Inv (X.eW s3 H3 scope ce fp) [] σ' H' s'->(∀b∈fp,H' b=none)->∀b∈fp,i8 (X.eW s3 H3 scope ce fp) [] H' b:=fun {σ' H' s'} I' hn b hb=>
  ⟨hn b hb,(I'.ok.ux b hb).1,I'.ok.rh b hb,.inl hb,fun x c e=>(I'.ok.ux b hb).2 x c e,fun p hp=>absurd (show p∈([]:List (Addr×Obj))++[] from hp) (by simp)⟩
 have loop:codeAny (model X.prog X.w) X.A (.compLoop (.ListComp elt [⟨tg,iter,ifs,0⟩] scope pos) 0 (.ref it) (.ref D) ce) (compPost (model X.prog X.w) X.A X.xe use Qf (.ref D) s3.heap.objs.size) s4:=by
  refine LI (fun n s'=>∃i H',Inv (X.eW s3 H3 scope ce fp) [] (wipe σ (own.map (·.2))) H' s'/\tn i s'.heap/\(∀b∈fp,H' b=none)/\W i n H') ?_ m0 ⟨0,H3,I4,st4,nfp,w0⟩
  rintro n s5 ⟨i,H5,I5,st5,n5,w5⟩
  rcases turn i n H5 w5 with ⟨stop,qq⟩|⟨go,Nx,hNx,step⟩
  ·have td:=T.done (X.eW s3 H3 scope ce fp) rfl rfl rfl hc i [] s5 _ H5 (fun _ _=>False) I5 (stat I5 n5) st5 stop
   refine pJ td fun r s6 ⟨hr,I6⟩=>?_
   subst hr
   have I7:Inv X pins σ H5 s6:=I3.J6 (ch:=fp) I6.os I6.base I6.aP I6.bare fun b hb=>⟨(f3 b hb).1.2.2.2.1,(f3 b hb).1.2.1,(f3 b hb).1.2.2.2.2.1,(f3 b hb).1.2.2.2.2.2⟩
   have nC:H5 s3.heap.objs.size=none:=by
    have z:H5 ce.locals=none:=I6.free
    rw[cL]at z
    exact z
   obtain⟨m,hn,_⟩:=I6.loc
   have hn:s6.heap.Ns ce.locals m:=hn
   rw[cL]at hn
   exact hRR D s3.heap.objs.size s6 m H5 I7 qq hn (I3.pD (aX _) nC)
  ·have ti:=T.item (X.eW s3 H3 scope ce fp) rfl rfl rfl hc i [] s5 _ H5 (fun _ _=>False) I5 (stat I5 n5) st5 go
   refine pJ ti fun r s6 ⟨u,hr,h6⟩=>?_
   subst hr
   refine pJ h6 fun _ s7 ⟨x,H7,I7,r7,y7,st7,n7⟩=>?_
   have I7':=I7.pinned (stat I7 n7) (T.obj _ _ st7)
   refine pJ (pg _ s7 _ H7 x u _ I7' r7 (step x H7 y7)) fun _ s8 ⟨σ8,H8,I8,hw8,q8⟩=>?_
   refine pJ (pt _ s8 σ8 H8 _ I8 q8) fun b s9 ⟨H9,I9,q9⟩=>?_
   have fin:∀{s':Shared}{H':Hp},Inv (X.eW s3 H3 scope ce fp) ([]++rC fp s7.heap) σ8 H' s'->Nx H'->∃m,m<n/\∃i H',Inv (X.eW s3 H3 scope ce fp) [] (wipe σ (own.map (·.2))) H' s'/\tn i s'.heap/\(∀b∈fp,H' b=none)/\W i m H':=fun {s' H'} I' nx=>by
    obtain⟨m',hm,w'⟩:=hNx H' nx
    have pin':∀b∈fp,∀o,s7.heap.get? b=some o->s'.heap.get? b=some o/\H' b=none:=fun b hb o e=>
     let z:=I'.pin (b,o) (d6 _ (d6 _ (xB hb e)))
     ⟨z.1,z.2.1⟩
    have hl:(wipe σ (own.map (·.2))).length=σ8.length:=by rw[<-hw8,xV]
    refine⟨m',hm,i+1,H',(I'.uE (pins:=[])).weak hl (fun j v e=>?_),T.keep _ _ _ st7 fun b hb o e=>(pin' b hb o e).1,fun b hb=>?_,w'⟩
    ·rw[<-hw8]at e
     exact(xW e).1
    ·obtain⟨o,e,_⟩:=T.obj _ _ st7 b hb
     exact(pin' b hb o e).2
   cases b with
   |false=>
    simp only [Bool.false_eq_true,if_false]at q9 ⊢
    exact fin I9 q9
   |true=>
    simp only [if_true]at q9 ⊢
    refine pJ (pe _ s9 σ8 H9 _ I9 q9) fun z s10 ⟨yv,H10,I10,r10,acc,hD10,hz10,nx⟩=>?_
    exact LH (X:=X.eW s3 H3 scope ce fp) I10 hD10 hz10 r10 fun s11 I11=>fin I11 nx
 exact codeAny_compStart_list loop (T.self X.A 0 _ _ _ st4 loop)
theorem iM{elt tg iter:Expr}{ifs:List Expr}{scope:Scope}{own:List (Str×Nat)}{pos:Pos}{wi:TI}{g:TG}{tt:TT}{te:TE}(hc:X.calm=true)(hN:X.N.Nodup)(hi:PI X tg iter wi)(ok:rH X.N X.env.scope scope own)
  (hg:∀(s:Shared) (H:Hp) (C:Addr) (cl:List (Str×Addr)) (fp:List Addr),PG (X.eW s H scope (compEnvC scope cl C X.env) fp) tg g)(ht:∀(s:Shared) (H:Hp) (C:Addr) (cl:List (Str×Addr)) (fp:List Addr),rJ (X.eW s H scope (compEnvC scope cl C X.env) fp) ifs tt)
  (he:∀(s:Shared) (H:Hp) (C:Addr) (cl:List (Str×Addr)) (fp:List Addr),PE (X.eW s H scope (compEnvC scope cl C X.env) fp) elt te)(hs:∀x,foldedSetIterable iter X.env x=pure x:=by intro _;rfl):
  PE X (.ListComp elt [⟨tg,iter,ifs,0⟩] scope pos) (rN wi g tt te (own.map (·.2))):=by
 intro pins s σ H Q I h
 rw[eval_ListComp]
 refine DX hc hN I hi ok hg ht he hs h fun D C s' m H' I' q hn f=>⟨m,hn,fun h'' sb=>?_⟩
 obtain⟨f0,f1,f2,f3,f4,f5⟩:=f
 exact⟨.ref D,H',I'.turned (t':=s'.toks) (fun b o hb e=>(sb.2 b hb).trans e) f0 f1 f3 f4 f5,rfl,q⟩
theorem rO{i:Nat}{y:Str}{py:Pos}{elt tg iter:Expr}{ifs:List Expr}{scope:Scope}{own:List (Str×Nat)}{pos spos:Pos}{wi:TI}{g:TG}{tt:TT}{te:TE}(hc:X.calm=true)(hN:X.N.Nodup)(hy:X.N[i]?=some y)(hyl:X.env.scope.names.lookup y=some .local)
  (hsw:swapsWith (.ListComp elt [⟨tg,iter,ifs,0⟩] scope pos) (some (.Name y py)) spos.line X.env=pure true)(hi:PI X tg iter wi)(ok:rH X.N X.env.scope scope own)
  (hg:∀(s:Shared) (H:Hp) (C:Addr) (cl:List (Str×Addr)) (fp:List Addr),PG (X.eW s H scope (compEnvC scope cl C X.env) fp) tg g)(ht:∀(s:Shared) (H:Hp) (C:Addr) (cl:List (Str×Addr)) (fp:List Addr),rJ (X.eW s H scope (compEnvC scope cl C X.env) fp) ifs tt)
  (he:∀(s:Shared) (H:Hp) (C:Addr) (cl:List (Str×Addr)) (fp:List Addr),PE (X.eW s H scope (compEnvC scope cl C X.env) fp) elt te)(hs:∀x,foldedSetIterable iter X.env x=pure x:=by intro _;rfl):
  PS X (.Assign [.Name y py] (.ListComp elt [⟨tg,iter,ifs,0⟩] scope pos) spos) (lq (rN wi g tt te (own.map (·.2))) (dt i)):=by
 intro pins s σ H D I h
 rw[exec_Assign_Name_used _ _ _ _ hsw]
 refine wpAny_bind (wpAny_standAt (wpAny_bind ?_))
 show wpAny _ X.A (do let _ <-comprehension (.ListComp elt [⟨tg,iter,ifs,0⟩] scope pos) scope X.env (firstIterPos [⟨tg,iter,ifs,0⟩] pos) (newList []) false (eval iter X.env) (some (assign (.Name y py) X.env))) _ _ s
 have h:rN wi g tt te (own.map (·.2)) σ H (fun x H1=>dt i x σ H1 D.nx):=h
 refine wpAny_bind (aU (DX (Qf:=fun _ s'=>SP X pins D .next s') hc hN I hi ok hg ht he hs h fun L C s' m H' I' q hn f=>?_) fun _ s' hq=>wpAny_pure (wpAny_pure hq))
 show wpAny _ _ (assign (.Name y py) X.env (.ref L)) _ _ _
 refine wpAny_assign_Name (CP (v:=V.ref L) I' hN hy (.inl hyl) rfl (fun s2 I2 ⟨a,sb,ha⟩=>?_) (.inr hyl))
 obtain⟨f0,f1,f2,f3,f4,f5⟩:=f
 have haC:C≠a:=by
  rcases ha with z|z
  ·rw[z];exact f1
  ·exact fun e=>f4 y a z e.symm
 refine⟨m,hn.sameBut sb haC,fun h3 sb3=>?_⟩
 exact⟨_,H',I2.turned (t':=s2.toks) (fun b o hb e=>(sb3.2 b hb).trans e) f0 f1 f3 f4 f5,q⟩
end
def DY(N:List Str)(sc scope:Scope)(own:List (Str×Nat)):Bool:=
 (match scope.kind with|.function=>true|_=>false)&&(scope.names.all fun y=>decide (scope.names.lookup y.1=some y.2))&&(own.all fun p=>decide (N[p.2]?=some p.1))&&
  (scope.names.all fun y=>match y.2 with
   |.free=>(match sc.names.lookup y.1 with|some .cell=>true|some .free=>true|_=>false)
   |.local=>decide (y.1∈own.map (·.1))||decide (y.1∉N)
   |.cell=>decide (y.1∈own.map (·.1))||decide (y.1∉N)
   |_=>true)
theorem fI{N:List Str}{sc scope:Scope}{own:List (Str×Nat)}(h:DY N sc scope own=true):rH N sc scope own:=by
 unfold DY at h
 simp only [br,mj,gH]at h
 obtain⟨⟨⟨h1,h2⟩,h3⟩,h4⟩:=h
 refine⟨?_,h2,h3,fun y hy e=>?_,fun y hy e=>?_⟩
 ·split at h1
  ·assumption
  ·cases h1
 ·have q:=h4 y hy
  simp only [e]at q
  split at q<;>first|exact .inl (by assumption)|exact .inr (by assumption)|cases q
 ·have q:=h4 y hy
  rcases e with e|e<;>(simp only [e,mn,gH]at q;exact q)
end L2
namespace L2
open PySem PySem.Spec PyProof.Rows
section
variable{κ:Type}[DecidableEq κ]
def lE(kvs:List (κ×V))(k:κ):Option V:=(kvs.find? fun kv=>decide (kv.1=k)).map (·.2)
theorem LJ{p:κ×V}{r:List (κ×V)}{k:κ}(e:p.1=k):lE (p::r) k=some p.2:=by simp[lE,ui,e]
theorem LK{p:κ×V}{r:List (κ×V)}{k:κ}(e:¬p.1=k):lE (p::r) k=lE r k:=by simp[lE,ui,e]
theorem KV.val{kvs:List (κ×V)}{vs:List (κ×Value)}(r:KV kvs vs)(k:κ):i5 (lE kvs k) (valueAt vs k):=by
 unfold KV at r
 induction r with
 |nil=>exact True.intro
 |@cons p q ps qs h t ih=>
  obtain⟨h1,h2⟩:=h
  by_cases e:p.1=k
  ·have e':q.1=k:=h1.symm.trans e
   have b:valueAt (q::qs) k=some q.2:=by simp[valueAt,ui,e']
   rw[LJ e,b];exact h2
  ·have e':¬q.1=k:=fun z=>e (h1.trans z)
   have b:valueAt (q::qs) k=valueAt qs k:=by simp[valueAt,ui,e']
   rw[LK e,b];exact ih
end
theorem LL{P:Program}{w:World}{k:Key}{u:Value}(r:RelV (kV k) u):(k8 P w).is k u=true:=by
 cases k with
 |inl i=>obtain⟨t,e⟩:=(show ∃t,u=Value.int i t from r);subst e;exact JZ P w i t
 |inr x=>obtain⟨t,e⟩:=(show ∃t,u=Value.str x t from r);subst e;exact J0 P w x t
def DZ(i:Expr):Prop:=∀ov iv,subscripted i false ov iv=operate [ov,iv] (getItem ov iv)
theorem LM{prog:Program}{w:World}{A:Around}{E:Value->Shared->Prop}{s:Shared}{env:Env}{value slice:Expr}{pos:Pos}{T id:String}{Q:Value->Shared->Prop}
  (hl:typeLookup (.type T) "__getitem__"=pure (some (.builtin id)))(hs:DZ slice)
  (h:wpAny (model prog w) A (eval value env) (fun o s₁=>wpAny (model prog w) A (eval slice env) (fun i s₂=>s₂.TypeIs o T/\wpAny (model prog w) A (getItem o i) Q E s₂) E s₁) E s):
  wpAny (model prog w) A (eval (.Subscript value slice pos) env) Q E s:=by
 refine Subscript_ (wpAny_mono h (fun o s₁ h₁=>wpAny_mono h₁ (fun i s₂ h₂=>?_) fun _ _ x=>x) fun _ _ x=>x)
 obtain⟨hT,h₂⟩:=h₂
 unfold subscriptTail
 refine wpAny_bind ?_
 rw[getitemInPython_of_ne hT.not_modules]
 refine wpAny_bind (wpAny_specialOf hT hl ?_)
 have fin:wpAny (model prog w) A (subscripted slice false o i) (fun r s₃=>wpAny (model prog w) A (letTemporaryGo value o r >>= fun _=>pure r) Q E s₃) E s₂:=by
  rw[hs o i]
  exact wpAny_operating (wpAny_mono h₂ (fun r s₃ h₃=>wpAny_bind (wpAny_letTemporaryGo (wpAny_pure h₃))) fun _ _ x=>x)
 first
  |exact wpAny_pure (wpAny_bind fin)
  |exact wpAny_bind (wpAny_pure (wpAny_bind fin))
  |exact wpAny_bind fin
end L2
namespace L2
open PySem PySem.Spec PyProof.Rows
theorem LN:bootBuiltins "reversed"=some (.type "reversed"):=by decide+kernel
section
variable{X:Cx}{pins:List (Addr×Obj)}{σ:St}{H:Hp}{s:Shared}{h':Heap}
theorem Inv.LO{t':Nat}{ch:List Addr}(I:Inv X pins σ H s)(k:∀b o,b∉ch->s.heap.get? b=some o->h'.get? b=some o)(hf:∀b∈ch,i8 X pins H b):Inv X pins σ H {s with heap:=h',toks:=t'}:=by
 have nit:∀b u,H b=some u->b∉ch:=fun b u e z=>by
  have q:=(hf b z).1
  rw[q]at e;cases e
 refine I.step (g':=s.gens) (d':=s.drawn) (ch:=ch) (fun b hb=>⟨(hf b hb).2.2.2.1,(hf b hb).2.1,(hf b hb).2.2.2.2.1,(hf b hb).2.2.2.2.2⟩) (fun b o _ _ hc e _=>k b o hc e) (fun b o _ _ hc e _=>⟨o.slots,k b o hc e⟩)
  (fun _ _ _ _ n=>n) (fun b o hc e=>⟨o,k b o hc e⟩) (fun _ _ e=>e) (fun _ _ _ e=>e) (fun b ps e=>⟨#[],by rw[e];simp⟩) (fun m hm=>?_) (fun b u e=>?_) I.bare
 ·obtain⟨o,es,ep,ho,r⟩:=hm
  exact⟨o,es,ep,k _ o (fun z=>(hf _ z).2.1 rfl) ho,r⟩
 ·refine(I.aP b u e).kf (fun c v hc q=>k c v ?_ q) (fun _ q=>q) fun _ _ q=>q
  rcases hc with z|z
  ·rw[z];exact nit b u e
  ·exact nit c _ z
theorem Inv.D0{t':Nat}{ch:List Addr}{T:Addr}{ob:HO}(I:Inv X pins σ H s)(k:∀b o,b∉ch->s.heap.get? b=some o->h'.get? b=some o)(hf:∀b∈ch,i8 X pins H b)(hT:s.heap.objs.size<=T)
  (new:eE X.prog X.w (upd H T ob) h' T ob):Inv X pins σ (upd H T ob) {s with heap:=h',toks:=t'}:=by
 have hn:H T=none:=I.aP.fresh hT
 have nit:∀b u,H b=some u->b∉ch:=fun b u e z=>by
  have q:=(hf b z).1
  rw[q]at e;cases e
 refine I.step (g':=s.gens) (d':=s.drawn) (ch:=ch) (fun b hb=>⟨(hf b hb).2.2.2.1,(hf b hb).2.1,(hf b hb).2.2.2.2.1,(hf b hb).2.2.2.2.2⟩) (fun b o _ _ hc e _=>k b o hc e) (fun b o _ _ hc e _=>⟨o.slots,k b o hc e⟩)
  (fun b o _ e n=>?_) (fun b o hc e=>⟨o,k b o hc e⟩) (fun b xs e=>?_) (fun b o u e=>?_) (fun b ps e=>⟨#[],?_⟩) (fun m hm=>?_) (fun b u e=>?_) I.bare
 ·rw[ax (gF (gE (Heap.lt_size e) hT))];exact n
 ·rw[ax (a7 e hn)];exact e
 ·rw[ax (a7 e hn)];exact e
 ·rw[ax (a7 e hn),e];simp
 ·obtain⟨o,es,ep,ho,r⟩:=hm
  exact⟨o,es,ep,k _ o (fun z=>(hf _ z).2.1 rfl) ho,r⟩
 ·by_cases hb:b=T
  ·subst hb
   rw[au]at e
   cases e
   exact new
  ·rw[ax hb]at e
   refine(I.aP b u e).kf (fun c v hc q=>k c v ?_ q) (fun c q=>by rw[ax (a7 q hn)];exact q) fun c xs q=>by rw[ax (a7 q hn)];exact q
   rcases hc with z|z
   ·rw[z];exact nit b u e
   ·exact nit c _ z
theorem Inv.lock{d:Addr}{u:HO}(I:Inv X pins σ H s)(h:H d=some u)(mu:m9 (some u)):∃od,Inv X pins σ (upd H d (.cw od u)) s:=by
 have x:=I.aP d u h
 have ex:∃od,s.heap.get? d=some od:=by
  cases u with
  |lst xs=>obtain⟨_,_,_,_,e⟩:=x;exact⟨_,e⟩
  |dK kvs=>obtain⟨_,_,_,_,o,_,_,e,_⟩:=x;exact⟨o,e⟩
  |dT kvs=>obtain⟨_,_,_,_,o,_,_,e,_⟩:=x;exact⟨o,e⟩
  |set S n=>obtain⟨o,_,_,_,e,_⟩:=x;exact⟨o,e⟩
  |ins C dx fs=>obtain⟨_,_,_,e,_⟩:=x;exact⟨_,e⟩
  |ext φ=>obtain⟨_,⟨_,e⟩,_⟩:=x;exact⟨_,e⟩
  |_=>exact False.elim mu
 obtain⟨od,e⟩:=ex
 have new:eE X.prog X.w (upd H d (.cw od u)) s.heap d (.cw od u):=by
  refine⟨e,x.kf (fun b v _ q=>q) (fun b q=>?_) fun b xs q=>?_⟩
  ·rw[ax (fun z=>by rw[z,h]at q;cases q;exact mu)];exact q
  ·rw[ax (fun z=>by rw[z,h]at q;cases q;exact mu)];exact q
 exact⟨od,I.write (x:=d) (e:=d) (t':=s.toks) (h':=s.heap) (by rw[h];exact mu) (.inl rfl) (fun b v _ q=>q) ⟨od,e⟩ new⟩
theorem Inv.LP{d:Addr}{u:HO}(I:Inv X pins σ H s)(h:H d=some u)(mu:m9 (some u)):∀o' u',X.m_ d≠some (.cw o' u'):=fun o' u' e=>by
 have q:=I.base.jF d o' u' e
 rw[h]at q
 cases q
 exact mu
theorem Inv.unlock{d:Addr}{od:Obj}{u:HO}(I:Inv X pins σ H s)(h:H d=some (.cw od u))(hn:∀o' u',X.m_ d≠some (.cw o' u')):Inv X pins σ (upd H d u) s:=by
 have neH:∀b o,H b=some o->(∀o' u',o≠.cw o' u')->b≠d:=fun b o e hne z=>by
  rw[z,h]at e
  cases e
  exact hne _ _ rfl
 have neN:∀b,H b=none->b≠d:=fun b e z=>by rw[z,h]at e;cases e
 refine⟨I.ok,I.os,I.bare,⟨I.base.keep,I.base.slot,fun b o e n hx=>?_,I.base.there,fun b xs e=>?_,fun b o x e=>?_,fun b ps e=>?_⟩,I.loc,I.cell,?_,fun x c e=>?_,fun p hp=>?_,fun b o e=>?_,I.len⟩
 ·rw[ax (neN b (I.base.free b o e n hx))];exact I.base.free b o e n hx
 ·have q:=I.base.k9 b xs e
  rw[ax (neH b _ q (fun _ _ z=>nomatch z))];exact q
 ·have q:=I.base.jF b o x e
  rw[ax (fun z=>by rw[z]at e;exact hn _ _ e)];exact q
 ·obtain⟨m,q⟩:=I.base.k_ b ps e
  exact⟨m,by rw[ax (neH b _ q (fun _ _ z=>nomatch z))];exact q⟩
 ·rw[ax (neN _ I.free)];exact I.free
 ·rw[ax (neN c (I.iC x c e))];exact I.iC x c e
 ·obtain⟨e,n,r⟩:=I.pin p hp
  exact⟨e,by rw[ax (neN _ n)];exact n,r⟩
 ·by_cases hb:b=d
  ·rw[hb,au]at e
   cases e
   rw[hb]
   obtain⟨_,x⟩:=I.aP d _ h
   exact x.kf (fun c v _ q=>q) (fun c q=>by rw[ax (neH c _ q (fun _ _ z=>nomatch z))];exact q) fun c xs q=>by rw[ax (neH c _ q (fun _ _ z=>nomatch z))];exact q
  ·rw[ax hb]at e
   exact(I.aP b o e).kf (fun c v _ q=>q) (fun c q=>by rw[ax (neH c _ q (fun _ _ z=>nomatch z))];exact q) fun c xs q=>by rw[ax (neH c _ q (fun _ _ z=>nomatch z))];exact q
end
def LQ(t:TE):TE:=fun σ H Q=>∃d u,H d=some u/\m9 (some u)/\∀od,t σ (upd H d (.cw od u)) fun v H'=>H' d=some (.cw od u)/\Q v (upd H' d u)
section
variable{X:Cx}
theorem LR{e:Expr}{t:TE}(h:PE X e t):PE X e (LQ t):=by
 intro pins s σ H Q I hw
 obtain⟨d,u,hd,mu,hw⟩:=hw
 obtain⟨od,I1⟩:=I.lock hd mu
 refine aU (h pins s σ _ _ I1 (hw od)) fun v s1 ⟨x,H1,I2,r,e2,q⟩=>?_
 exact⟨x,_,I2.unlock e2 (I.LP hd mu),r,q⟩
theorem D4{tg:Expr}{pins:List (Addr×Obj)}{σ:St}{H:Hp}{s:Shared}{R:It->Hp->Prop}{J:It}{tn:Nat->Heap->Prop}{tk:Nat}(I:Inv X pins σ H s)(o:Obj)
  (T:Turn X.prog X.w X.K tg J [s.heap.objs.size] s.heap.objs.size tn)(st:tn 0 (s.heap.push o))(q:R J H):xA X pins σ tg R (.ref s.heap.objs.size) {s with heap:=s.heap.push o,toks:=tk}:=by
 refine⟨s.heap.objs.size,[s.heap.objs.size],tn,J,H,rfl,I.kept fun b ob e=>Heap.get?_push_of_some _ e,T,st,fun b hb=>?_,q⟩
 have e:b=s.heap.objs.size:=by simpa using hb
 subst e
 exact I.pD (aX _) (I.aP.fresh (aX _))
end
def rP(lo c:Int)(n:Nat):It:=⟨fun i _=>i<n,fun i H x H'=>H'=H/\x=.int (lo+(i:Nat) * c),fun i _=>n<=i⟩
theorem LS{P:Program}{w:World}{K:PySem.W.Frag}{tg:Expr}(it:Addr)(lo c:Int)(n:Nat):Turn P w K tg (rP lo c n) [it] it (fun i h=>IsRangeIter h it (lo+(i:Nat) * c) ((n:Int) - (i:Nat)) c) where
 mem:=by simp
 obj:=fun i h st b hb=>by
  have e:b=it:=by simpa using hb
  subst e
  exact⟨_,st,fun v z=>nomatch z⟩
 keep:=fun i h h' st k=>k it (by simp) _ st
 item:=by
  intro X hP hw hK hc i pins s σ H E I hf st hg
  subst hP hw hK
  obtain⟨f0,f1,f2,f3,f4,f5⟩:=hf it (by simp)
  have W:=Walks.range (prog:=X.prog) (w:=X.w) (I.ok.hd hc) it lo c n
  refine W.item i s _ _ hg st fun v h' tk hv st' kk=>?_
  obtain⟨t,rfl⟩:=hv
  have I1:Inv X pins σ H {s with heap:=h',toks:=tk}:=I.turned (fun b o hb e=>kk b o (by simpa using hb) e) f0 f1 f3 f4 f5
  exact⟨_,rfl,uD (s:={s with heap:=h',toks:=tk}) (n:="range_iterator") st' rfl rfl (by decide) ⟨.int (lo+(i:Nat) * c),H,I1,⟨t,rfl⟩,⟨rfl,rfl⟩,st',fun b hb=>(hf b hb).1⟩⟩
 done:=by
  intro X hP hw hK hc i pins s σ H E I hf st hg
  subst hP hw hK
  obtain⟨f0,f1,f2,f3,f4,f5⟩:=hf it (by simp)
  exact wpAny_pyNext_range_end (I.ok.hd hc) st (by have:n<=i:=hg;omega) fun h' eb=>⟨rfl,I.turned (t':=s.toks) (fun b o hb e=>eb b o hb e) f0 f1 f3 f4 f5⟩
 self:=fun A i s Q E st h=>wpAny_pyIter_rangeiter st h
def LU(i j c:Int)(n:Nat):Prop:=c≠0/\c.natAbs<1073741824/\Builtin.Range.small i j c=true/\Builtin.Range.rangeSize i j c=n
def LV(ta:TA):TI:=fun σ H R=>ta σ H fun vs H1=>∃(i j c:Int) (n:Nat),vs=[.int i,.int j,.int c]/\LU i j c n/\R (rP i c n) H1
section
variable{X:Cx}{tg:Expr}
theorem D5{a b c:Expr}{ta:TA}{p pos:Pos}(hg:Gl X "range")(hm:X.mg "range"=none)(ha:PA X [a,b,c] ta)
  (hs:starEach [a,b,c] X.env=(false,eval a X.env)::starEach [b,c] X.env:=by rfl)(hpl:(backTo pos (starEach [b,c] X.env)).any (·.1)=false:=by rfl):
  PI X tg (.Call (.Name "range" p) [a,b,c] [] pos) (LV ta):=by
 intro pins s σ H R I h
 refine Call_ (kh I hg hm boot_range (m5 (aU (ha pos pins s σ H _ I h) fun us s1 ⟨vs,H1,I1,r1,q1⟩=>?_) hs hpl))
 obtain⟨i,j,k,n,e,⟨c0,c1,c2,c3⟩,q⟩:=q1
 subst e
 cases r1 with
 |cons r rr=>
  cases rr with
  |cons r' rr=>
   cases rr with
   |cons r'' rr=>
    cases rr
    obtain⟨t,rfl⟩:=r
    obtain⟨t',rfl⟩:=r'
    obtain⟨t'',rfl⟩:=r''
    refine call_range_3 c0 ?_ (.inl (PyProof.noPylong_small c1))
    refine wpAny_pyIter_range (IsRange.new ..) c2 ?_
    have I2:Inv X pins σ H1 {s1 with heap:=s1.heap.push {cls:=.type "range",data:=.fields #[.int i t,.int j t',.int k t'']}}:=I1.kept (t':=s1.toks) fun b o e=>Heap.get?_push_of_some _ e
    refine D4 (tk:=s1.toks) I2 _ (LS _ i k n) ?_ q
    have e1:i+((0:Nat):Int) * k=i:=by simp
    have e2:(n:Int) - ((0:Nat):Int)=Builtin.Range.rangeSize i j k:=by rw[c3];simp
    show IsRangeIter _ _ (i+((0:Nat):Int) * k) ((n:Int) - ((0:Nat):Int)) k
    rw[e1,e2]
    exact Heap.get?_push_size _ rfl
end
theorem D6{lo c:Int}{n:Nat}{g:TG}{tb:TS}{D:Ends}{σ:St}{H:Hp}(Pv:Nat->St->Hp->Prop)(h0:Pv 0 σ H)
  (hs:∀i σ H,i<n->Pv i σ H->g (.int (lo+(i:Nat) * c)) σ H fun σ2 H2=>tb {D with nx:=Pv (i+1),ct:=Pv (i+1),bk:=D.nx} σ2 H2)(hd:∀σ H,Pv n σ H->D.nx σ H):
  ∃W:Nat->Nat->St->Hp->Prop,(∃m,W 0 m σ H)/\∀i m σ H,W i m σ H->
   ((rP lo c n).stop i H/\D.nx σ H)\/((rP lo c n).go i H/\∃N:St->Hp->Prop,(∀σ' H',N σ' H'->∃m',m'<m/\W (i+1) m' σ' H')/\∀x H',(rP lo c n).iE i H x H'->g x σ H' fun σ2 H2=>tb {D with nx:=N,ct:=N,bk:=D.nx} σ2 H2):=by
 refine⟨fun i m σ H=>m=n - i/\i<=n/\Pv i σ H,⟨n,by simp,be _,h0⟩,?_⟩
 rintro i m σ H ⟨rfl,hi,p⟩
 by_cases hlt:i<n
 ·refine .inr ⟨hlt,Pv (i+1),fun σ' H' p'=>⟨n - (i+1),by omega,rfl,hlt,p'⟩,fun x H' y=>?_⟩
  obtain⟨e,y⟩:=y
  subst e y
  exact hs i σ _ hlt p
 ·have e:i=n:=by omega
  subst e
  exact .inl ⟨aX _,hd σ H p⟩
def lH(K:PySem.W.Frag)(a:Addr)(n:Nat):It:=
 ⟨fun i H=>i<n/\∃(xs:List V) (x:V),ai K H a xs/\xs[n - 1 - i]?=some x,fun i H x H'=>H'=H/\∀xs,ai K H a xs->xs[n - 1 - i]?=some x,fun i _=>n<=i⟩
theorem LW{P:Program}{w:World}{K:PySem.W.Frag}{tg:Expr}(a it:Addr)(n:Nat):Turn P w K tg (lH K a n) [it] it (fun i h=>i<=n/\h.IsRevIter it a ((n:Int) - 1 - (i:Nat))) where
 mem:=by simp
 obj:=fun i h st b hb=>by
  have e:b=it:=by simpa using hb
  subst e
  obtain⟨_,o,e,c,d⟩:=st
  exact⟨o,e,fun v z=>by rw[d]at z;cases z⟩
 keep:=fun i h h' st k=>⟨st.1,st.2.at fun o e=>k it (by simp) o e⟩
 item:=by
  intro X hP hw hK hc i pins s σ H E I hf st hg
  subst hP hw hK
  obtain⟨hin,xs,x,hq,hx⟩:=hg
  obtain⟨its,rv,p,hz⟩:=I.list hq
  obtain⟨u,hu,ru⟩:=rv.get hx
  obtain⟨f0,f1,f2,f3,f4,f5⟩:=hf it (by simp)
  obtain⟨_,hit⟩:=st
  have e1:(n:Int) - 1 - ((i:Nat):Int)=((n - 1 - i:Nat):Int):=by omega
  rw[e1]at hit
  refine wpAny_pyNext_rev_item hit p.isList (x:=u) (by simpa using hu) fun h' st' sb=>?_
  have e2:((n - 1 - i:Nat):Int) - 1=(n:Int) - 1 - ((i+1:Nat):Int):=by omega
  rw[e2]at st'
  have I1:Inv X pins σ H {s with heap:=h'}:=I.turned (t':=s.toks) (fun b o hb e=>(sb.2 b hb).trans e) f0 f1 f3 f4 f5
  obtain⟨o,e,c,d⟩:=id st'
  exact⟨u,rfl,uD (s:={s with heap:=h'}) e c d (by decide) ⟨x,H,I1,ru,⟨rfl,fun ys hy=>by rw[I.rm hy hq];exact hx⟩,⟨hin,st'⟩,fun b hb=>(hf b hb).1⟩⟩
 done:=by
  intro X hP hw hK hc i pins s σ H E I hf st hg
  subst hP hw hK
  obtain⟨f0,f1,f2,f3,f4,f5⟩:=hf it (by simp)
  obtain⟨hin,hit⟩:=st
  have hge:n<=i:=hg
  have e1:(n:Int) - 1 - ((i:Nat):Int)= -1:=by omega
  rw[e1]at hit
  exact wpAny_pyNext_rev_end (I.ok.hd hc) hit fun h' eb=>⟨rfl,I.turned (t':=s.toks) (fun b o hb e=>eb b o hb e) f0 f1 f3 f4 f5⟩
 self:=fun A i s Q E st h=>wpAny_pyIter_revIter st.2 h
def LX(K:PySem.W.Frag)(ta:TA):TI:=fun σ H R=>ta σ H fun vs H1=>∃(a:Addr) (xs:List V),vs=[.ref a]/\ai K H1 a xs/\R (lH K a xs.length) H1
section
variable{X:Cx}{tg:Expr}
theorem xX{e:Expr}{ta:TA}{p pos:Pos}(hg:Gl X "reversed")(hm:X.mg "reversed"=none)(ha:PA X [e] ta)(hs:starEach [e] X.env=[(false,eval e X.env)]:=by rfl):PI X tg (.Call (.Name "reversed" p) [e] [] pos) (LX X.K ta):=by
 intro pins s σ H R I h
 refine Call_ (kh I hg hm LN (m5 (aU (ha pos pins s σ H _ I h) fun us s1 ⟨vs,H1,I1,r1,q1⟩=>?_) hs rfl))
 obtain⟨a,xs,e,hq,q⟩:=q1
 subst e
 cases r1 with
 |cons r rr=>
  cases rr
  cases r
  obtain⟨its,rv,p',hz⟩:=I1.list hq
  have hl:=rv.length
  have e1:((its.toArray.size:Nat):Int) - 1=(xs.length:Int) - 1 - ((0:Nat):Int):=by simp only [cX];omega
  refine call_reversed_list p'.isList (wpAny_pyIter_revIter (l:=a) (i:=((its.toArray.size:Nat):Int) - 1) ⟨_,Heap.get?_push_size _ rfl,rfl,rfl⟩ ?_)
  refine D4 (tk:=s1.toks) I1 _ (LW a _ xs.length) ⟨be _,?_⟩ q
  rw[<-e1]
  exact⟨_,Heap.get?_push_size _ rfl,rfl,rfl⟩
end
def rQ(K:PySem.W.Frag)(a:Addr):It:=
 ⟨fun i H=>∃(xs:List V) (x:V),ai K H a xs/\xs[i]?=some x,fun i H v H'=>∃T x,v=.ref T/\H T=none/\H'=upd H T (.tup [.int (i:Nat),x])/\∀xs,ai K H a xs->xs[i]?=some x,fun i H=>∃xs:List V,ai K H a xs/\xs.length<=i⟩
theorem LY{P:Program}{w:World}{K:PySem.W.Frag}{elts:List Expr}{kk:Nat}{tpos:Pos}(a e it:Addr):
  Turn P w K (.Tuple elts kk tpos) (rQ K a) [e,it] e (fun i h=>(∃old,IsEnum h e it ((i:Nat):Int) old)/\h.IsListIter it a i/\e≠it) where
 mem:=by simp
 obj:=fun i h st b hb=>by
  obtain⟨⟨old,he⟩,⟨o,ho,hc,hd⟩,_⟩:=st
  have e':b=e\/b=it:=by simpa using hb
  rcases e' with z|z
  ·rw[z];exact⟨_,he,fun v q=>nomatch q⟩
  ·rw[z];exact⟨o,ho,fun v q=>by rw[hd]at q;cases q⟩
 keep:=fun i h h' st k=>let ⟨⟨old,he⟩,hi,hne⟩:=st;⟨⟨old,k e (by simp) _ he⟩,hi.at fun o q=>k it (by simp) o q,hne⟩
 item:=by
  intro X hP hw hK hc i pins s σ H E I hf st hg
  subst hP hw hK
  obtain⟨⟨old,he⟩,hit,hne⟩:=st
  obtain⟨xs,x,hq,hx⟩:=hg
  obtain⟨its,rv,p,hz⟩:=I.list hq
  obtain⟨u,hu,ru⟩:=rv.get hx
  have hel:e<s.heap.objs.size:=Heap.lt_size he
  have hil:it<s.heap.objs.size:=by obtain⟨_,q,_⟩:=hit;exact Heap.lt_size q
  refine wpAny_pyNext_enum_item he hit p.isList (x:=u) (by simpa using hu) hne fun h' ho hit' hT hsz hk=>?_
  refine⟨_,rfl,wpAny_letOwnedTupleGo_enum (s:={s with heap:=h',toks:=s.toks+1}) ho fun h'' he' sb=>?_⟩
  have hT2:h''.get? s.heap.objs.size=some {cls:=.type "tuple",data:=.seq #[.int i s.toks,u]}:=(sb.2 _ (Nat.ne_of_gt hel)).trans hT
  have new:eE X.prog X.w (upd H s.heap.objs.size (.tup [.int (i:Nat),x])) h'' s.heap.objs.size (.tup [.int (i:Nat),x]):=
   ⟨by show 2<=sizeLine;decide,[.int i s.toks,u],.cons ⟨_,rfl⟩ (.cons ru .nil),⟨_,hT2,rfl,_,rfl⟩⟩
  have I1:Inv X pins σ (upd H s.heap.objs.size (.tup [.int (i:Nat),x])) {s with heap:=h'',toks:=s.toks+1}:=
   I.D0 (ch:=[e,it]) (fun b ob hb q=>(sb.2 b (fun z=>hb (by simp[z]))).trans (hk b ob (fun z=>hb (by simp[z])) (fun z=>hb (by simp[z])) q)) hf (aX _) new
  refine⟨.ref s.heap.objs.size,_,I1,rfl,⟨_,x,rfl,I.aP.fresh (aX _),rfl,fun ys hy=>by rw[I.rm hy hq];exact hx⟩,⟨⟨u,?_⟩,hit'.at fun o q=>(sb.2 it (Ne.symm hne)).trans q,hne⟩,fun b hb=>?_⟩
  ·have e1:((i+1:Nat):Int)=(i:Int)+1:=by omega
   rw[e1];exact he'
  ·have hb':b<s.heap.objs.size:=by
    have e':b=e\/b=it:=by simpa using hb
    rcases e' with z|z
    ·rw[z];exact hel
    ·rw[z];exact hil
   rw[ax (gF hb')]
   exact(hf b hb).1
 done:=by
  intro X hP hw hK hc i pins s σ H E I hf st hg
  subst hP hw hK
  obtain⟨⟨old,he⟩,hit,hne⟩:=st
  obtain⟨xs,hq,hx⟩:=hg
  obtain⟨its,rv,p,hz⟩:=I.list hq
  obtain⟨f0,f1,f2,f3,f4,f5⟩:=hf it (by simp)
  have hl:=rv.length
  exact wpAny_pyNext_enum_end (I.ok.hd hc) he hit p.isList (by simp;omega) fun h' eb=>⟨rfl,I.turned (t':=s.toks) (fun b o hb q=>eb b o hb q) f0 f1 f3 f4 f5⟩
 self:=fun A i s Q E st h=>let ⟨⟨_,he⟩,_⟩:=st;wpAny_pyIter_enum he h
def LZ(K:PySem.W.Frag)(ta:TA):TI:=fun σ H R=>ta σ H fun vs H1=>∃a xs,vs=[.ref a]/\ai K H1 a xs/\R (rQ K a) H1
theorem xY{X:Cx}{e:Expr}{ta:TA}{p pos tpos:Pos}{elts:List Expr}{kk:Nat}(hg:Gl X "enumerate")(hm:X.mg "enumerate"=none)(ha:PA X [e] ta)(hs:starEach [e] X.env=[(false,eval e X.env)]:=by rfl):
  PI X (.Tuple elts kk tpos) (.Call (.Name "enumerate" p) [e] [] pos) (LZ X.K ta):=by
 intro pins s σ H R I h
 refine Call_ (kh I hg hm boot_enumerate (m5 (aU (ha pos pins s σ H _ I h) fun us s1 ⟨vs,H1,I1,r1,q1⟩=>?_) hs rfl))
 obtain⟨a,xs,ex,hq,q⟩:=q1
 subst ex
 cases r1 with
 |cons r rr=>
  cases rr
  cases r
  obtain⟨its,rv,p',hz⟩:=I1.list hq
  refine call_enumerate_list p'.isList fun h' he hit hsz hk=>wpAny_pyIter_enum he ?_
  have I2:Inv X pins σ H1 {s1 with heap:=h'}:=I1.kept (t':=s1.toks) hk
  refine⟨s1.heap.objs.size+1,[s1.heap.objs.size+1,s1.heap.objs.size],_,_,H1,rfl,I2,LY a (s1.heap.objs.size+1) s1.heap.objs.size,⟨⟨.none,he⟩,hit,Nat.succ_ne_self _⟩,fun b hb=>?_,q⟩
  have e':b=s1.heap.objs.size+1\/b=s1.heap.objs.size:=by simpa using hb
  have hle:s1.heap.objs.size<=b:=by
   rcases e' with z|z
   ·rw[z];exact Nat.le_add_right _ _
   ·rw[z];exact aX _
  exact I1.pD hle (I1.aP.fresh hle)
theorem L4:bootBuiltins "zip"=some (.type "zip"):=by decide+kernel
def pK(K:PySem.W.Frag)(a b:Addr):It:=
 ⟨fun i H=>∃(xs ys:List V) (x y:V),ai K H a xs/\ai K H b ys/\xs[i]?=some x/\ys[i]?=some y,
  fun i H v H'=>∃T x y,v=.ref T/\H T=none/\H'=upd H T (.tup [x,y])/\(∀xs,ai K H a xs->xs[i]?=some x)/\∀ys,ai K H b ys->ys[i]?=some y,
  fun i H=>∃xs ys:List V,ai K H a xs/\ai K H b ys/\(xs.length<=i\/ys.length<=i)⟩
theorem L5{P:Program}{w:World}{K:PySem.W.Frag}{elts:List Expr}{kk:Nat}{tpos:Pos}{a b z TI TO i1 i2:Addr}(D:ZipApart z TI TO i1 i2 a b):
  Turn P w K (.Tuple elts kk tpos) (pK K a b) [z,TI,TO,i1,i2] z (fun i h=>IsZip h z TI TO .none/\IsPair h TI (.ref i1) (.ref i2)/\(∃x y,IsPair h TO x y)/\h.IsListIter i1 a i/\h.IsListIter i2 b i) where
 mem:=by simp
 obj:=fun i h st c hc=>by
  obtain⟨hz,hTI,⟨x,y,hTO⟩,⟨o1,e1,_,d1⟩,⟨o2,e2,_,d2⟩⟩:=st
  have e':c=z\/c=TI\/c=TO\/c=i1\/c=i2:=by simpa using hc
  rcases e' with q|q|q|q|q
  ·rw[q];exact⟨_,hz,fun v q=>nomatch q⟩
  ·rw[q];exact⟨_,hTI,fun v q=>nomatch q⟩
  ·rw[q];exact⟨_,hTO,fun v q=>nomatch q⟩
  ·rw[q];exact⟨o1,e1,fun v q=>by rw[d1]at q;cases q⟩
  ·rw[q];exact⟨o2,e2,fun v q=>by rw[d2]at q;cases q⟩
 keep:=fun i h h' st k=>by
  obtain⟨hz,hTI,⟨x,y,hTO⟩,h1,h2⟩:=st
  exact⟨k z (by simp) _ hz,k TI (by simp) _ hTI,⟨x,y,k TO (by simp) _ hTO⟩,h1.at fun o q=>k i1 (by simp) o q,h2.at fun o q=>k i2 (by simp) o q⟩
 item:=by
  intro X hP hw hK hc i pins s σ H E I hf st hg
  subst hP hw hK
  obtain⟨hz,hTI,⟨x0,y0,hTO⟩,h1,h2⟩:=st
  obtain⟨xs,ys,x,y,hqx,hqy,hx,hy⟩:=hg
  obtain⟨its,rv,p,_⟩:=I.list hqx
  obtain⟨its2,rv2,p2,_⟩:=I.list hqy
  obtain⟨u,hu,ru⟩:=rv.get hx
  obtain⟨u2,hu2,ru2⟩:=rv2.get hy
  have hzl:z<s.heap.objs.size:=Heap.lt_size hz
  refine wpAny_pyNext_zip_item D hz hTI hTO h1 h2 p.isList p2.isList (x:=u) (y:=u2) (by simpa using hu) (by simpa using hu2) fun h' z' TO' h1' h2' hT hsz hk=>?_
  refine⟨_,rfl,wpAny_letOwnedTupleGo_zip (s:={s with heap:=h'}) z' fun h'' z'' sb=>?_⟩
  have hT2:h''.get? s.heap.objs.size=some {cls:=.type "tuple",data:=.seq #[u,u2]}:=(sb.2 _ (Nat.ne_of_gt hzl)).trans hT
  have new:eE X.prog X.w (upd H s.heap.objs.size (.tup [x,y])) h'' s.heap.objs.size (.tup [x,y]):=
   ⟨by show 2<=sizeLine;decide,[u,u2],.cons ru (.cons ru2 .nil),⟨_,hT2,rfl,_,rfl⟩⟩
  have I1:Inv X pins σ (upd H s.heap.objs.size (.tup [x,y])) {s with heap:=h''}:=
   I.D0 (t':=s.toks) (ch:=[z,TI,TO,i1,i2]) (fun c o hb q=>(sb.2 c (fun q'=>hb (by simp[q']))).trans (hk c o (fun q'=>hb (by simp[q'])) (fun q'=>hb (by simp[q'])) (fun q'=>hb (by simp[q'])) (fun q'=>hb (by simp[q'])) q)) hf (aX _) new
  refine⟨.ref s.heap.objs.size,_,I1,rfl,⟨_,x,y,rfl,I.aP.fresh (aX _),rfl,fun l hl=>by rw[I.rm hl hqx];exact hx,fun l hl=>by rw[I.rm hl hqy];exact hy⟩,⟨z'',?_,⟨u,u2,?_⟩,?_,?_⟩,fun c hcm=>?_⟩
  ·exact(sb.2 _ D.TIz).trans (hk _ _ D.TIz D.TITO D.TIi1 D.TIi2 hTI)
  ·exact(sb.2 _ D.TOz).trans TO'
  ·exact h1'.at fun o q=>(sb.2 _ D.i1z).trans q
  ·exact h2'.at fun o q=>(sb.2 _ D.i2z).trans q
  ·have hlt:c<s.heap.objs.size:=by
    have e':c=z\/c=TI\/c=TO\/c=i1\/c=i2:=by simpa using hcm
    rcases e' with q|q|q|q|q
    ·rw[q];exact hzl
    ·rw[q];exact Heap.lt_size hTI
    ·rw[q];exact Heap.lt_size hTO
    ·rw[q];obtain⟨_,e1,_⟩:=h1;exact Heap.lt_size e1
    ·rw[q];obtain⟨_,e2,_⟩:=h2;exact Heap.lt_size e2
   rw[ax (gF hlt)]
   exact(hf c hcm).1
 done:=by
  intro X hP hw hK hc i pins s σ H E I hf st hg
  subst hP hw hK
  obtain⟨hz,hTI,⟨x0,y0,hTO⟩,h1,h2⟩:=st
  obtain⟨xs,ys,hqx,hqy,hend⟩:=hg
  obtain⟨its,rv,p,_⟩:=I.list hqx
  obtain⟨its2,rv2,p2,_⟩:=I.list hqy
  have l1:=rv.length
  have l2:=rv2.length
  have he:its.toArray[i]?=none\/its2.toArray[i]?=none:=by
   rcases hend with q|q
   ·exact .inl (by simp;omega)
   ·exact .inr (by simp;omega)
  exact wpAny_pyNext_zip_end (I.ok.hd hc) D hz hTI hTO h1 h2 p.isList p2.isList he fun h' hk=>⟨rfl,I.LO (t':=s.toks) (ch:=[z,TI,TO,i1,i2]) (fun c o hb q=>
   hk c o (fun q'=>hb (by simp[q'])) (fun q'=>hb (by simp[q'])) (fun q'=>hb (by simp[q'])) (fun q'=>hb (by simp[q'])) q) hf⟩
 self:=fun A i s Q E st h=>wpAny_pyIter_zip st.1 h
def L6(K:PySem.W.Frag)(ta:TA):TI:=fun σ H R=>ta σ H fun vs H1=>∃a b xs ys,vs=[.ref a,.ref b]/\ai K H1 a xs/\ai K H1 b ys/\R (pK K a b) H1
theorem L7{X:Cx}{e e2:Expr}{ta:TA}{p pos tpos:Pos}{elts:List Expr}{kk:Nat}(hg:Gl X "zip")(hm:X.mg "zip"=none)(ha:PA X [e,e2] ta)
  (hs:starEach [e,e2] X.env=(false,eval e X.env)::starEach [e2] X.env:=by rfl)(hpl:(backTo pos (starEach [e2] X.env)).any (·.1)=false:=by rfl):
  PI X (.Tuple elts kk tpos) (.Call (.Name "zip" p) [e,e2] [] pos) (L6 X.K ta):=by
 intro pins s σ H R I h
 refine Call_ (kh I hg hm L4 (m5 (aU (ha pos pins s σ H _ I h) fun us s1 ⟨vs,H1,I1,r1,q1⟩=>?_) hs hpl))
 obtain⟨a,b,xs,ys,ex,hqx,hqy,q⟩:=q1
 subst ex
 cases r1 with
 |cons r rr=>
  cases rr with
  |cons r' rr=>
   cases rr
   cases r
   cases r'
   obtain⟨its,rv,p1,_⟩:=I1.list hqx
   obtain⟨its2,rv2,p2,_⟩:=I1.list hqy
   have la:a<s1.heap.objs.size:=p1.lt
   have lb:b<s1.heap.objs.size:=p2.lt
   refine call_zip_2 p1.isList p2.isList fun h' hz hTI hTO h1 h2 hsz hk=>wpAny_pyIter_zip hz ?_
   have I2:Inv X pins σ H1 {s1 with heap:=h'}:=I1.kept (t':=s1.toks) hk
   refine⟨s1.heap.objs.size+4,[s1.heap.objs.size+4,s1.heap.objs.size+2,s1.heap.objs.size+3,s1.heap.objs.size,s1.heap.objs.size+1],_,_,H1,rfl,I2,L5 (PySem.W.ktu_apart s1.heap.objs.size a b la lb),⟨hz,hTI,⟨_,_,hTO⟩,h1,h2⟩,fun c hcm=>?_,q⟩
   have e':c=s1.heap.objs.size+4\/c=s1.heap.objs.size+2\/c=s1.heap.objs.size+3\/c=s1.heap.objs.size\/c=s1.heap.objs.size+1:=by simpa using hcm
   have hle:s1.heap.objs.size<=c:=by
    rcases e' with z|z|z|z|z
    ·rw[z];exact Nat.le_add_right _ _
    ·rw[z];exact Nat.le_add_right _ _
    ·rw[z];exact Nat.le_add_right _ _
    ·rw[z];exact aX _
    ·rw[z];exact Nat.le_add_right _ _
   exact I1.pD hle (I1.aP.fresh hle)
end L2
namespace L2
open PySem PySem.Spec PyProof.Rows
def inClass(s:Stmt)(j:Nat):Stmt:=match s with
 |.ClassDef _ _ _ body _ _ _ _ _ _ _=>body.getD j (.Pass ⟨0,0,0,0⟩)
 |_=>.Pass ⟨0,0,0,0⟩
def lI(s:Stmt):Arguments:=match s with
 |.FunctionDef _ a _ _ _ _ _ _ _ _=>a
 |_=>{posonlyargs:=[],args:=[],vararg:=none,kwonlyargs:=[],kw_defaults:=[],kwarg:=none,defaults:=[]}
def kn(s:Stmt):List Stmt:=match s with
 |.FunctionDef _ _ b _ _ _ _ _ _ _=>b
 |_=>[]
def aD(s:Stmt):Scope:=match s with
 |.FunctionDef _ _ _ _ _ _ sc _ _ _=>sc
 |_=>{kind:=.function,names:=[],isGenerator:=false,isCoroutine:=false}
abbrev gX:jM:=fun _ _ _ _ _ _=>False
abbrev E0:XK:=fun _ _ _=>False
theorem nz{X:Cx}:lC gX X E0:=fun _ _ _ _ _ _ _ h=>h.elim
structure ko(K:PySem.W.Frag)(x qual:Str)(st:Stmt)(f:Addr)(fd:FuncData):Prop where
 ex:∃(oc:Value) (od:Option Addr) (kV doc pm:Value) (an:Option Addr) (cdv ct:Value) (osl:Array (Option Value)),
  fd=PySem.W.fnOf x qual (lI st) (kn st) (aD st) .none kV doc pm an cdv ct/\K.lookup f=some ⟨oc,od,.func fd,osl⟩/\PySem.W.codeIn K cdv qual=true
 kp:PySem.W.keepIn K (.ref f)=true
section
variable{P:Program}{w:World}{K:PySem.W.Frag}{mg:Str->Option Value}{base:Heap}
theorem ko.ok{x qual:Str}{st:Stmt}{f:Addr}{fd:FuncData}{N ps:List Str}{k:Nat}{sp:Sp}(F:ko K x qual st f fd)(S:aH N ps (aD st))(len:∀vs H Q E,sp vs H Q E->vs.length=ps.length)
  (hbody:∀(cdv:Value) (A:Around) (outer:List Env) (s:Shared) (H:Hp) (vs:List V) (Q:VK) (E:XK),cy k (A.deeper (envOfC qual (aD st) s.heap.objs.size f cdv))->sp vs H Q E->
   ∃t,iD (pH gX P w K mg base N qual (aD st) f cdv A outer s H E).uA (kn st) t/\t {nx:=fun _ H'=>Q .aW H',rt:=Q} (start N vs) H):d8 P w K mg base gX (k+1) f fd ps sp:=by
 obtain⟨oc,od,kV,doc,pm,an,cdv,ct,osl,rfl,lk,hcd⟩:=F.ex
 refine KW lk hcd S len fun A outer s H vs Q E hr hsp=>?_
 obtain⟨t,h,q⟩:=hbody cdv A outer s H vs Q E hr hsp
 exact⟨t,h.uA,q⟩
theorem ko.binds{x qual:Str}{st:Stmt}{f:Addr}{fd:FuncData}{ps:List Str}(F:ko K x qual st f fd)
  (h:∀(kV doc pm:Value) (an:Option Addr) (cdv ct:Value) (us:List Value),us.length=ps.length->bindArgs (PySem.W.fnOf x qual (lI st) (kn st) (aD st) .none kV doc pm an cdv ct) ⟨us,[]⟩=pure (ps.zip us)):Binds K fd ps []:=by
 obtain⟨oc,od,kV,doc,pm,an,cdv,ct,osl,rfl,lk,hcd⟩:=F.ex
 exact .all (h kV doc pm an cdv ct)
theorem D7{x qual:Str}{st:Stmt}{f:Addr}{oc:Value}{od an:Option Addr}{osl:Array (Option Value)}{kV doc pm cdv ct:Value}(l:K.lookup f=some ⟨oc,od,.func (PySem.W.fnOf x qual (lI st) (kn st) (aD st) .none kV doc pm an cdv ct),osl⟩)
  (c:PySem.W.codeIn K cdv qual=true)(k:PySem.W.keepIn K (.ref f)=true):ko K x qual st f (PySem.W.fnOf x qual (lI st) (kn st) (aD st) .none kV doc pm an cdv ct):=⟨⟨oc,od,kV,doc,pm,an,cdv,ct,osl,rfl,l,c⟩,k⟩
end
section
variable{X:Cx}
theorem pv(i:Nat){x:Str}{pos:Pos}(hN:X.N[i]?=some x:=by rfl)(hv:pj X.env.scope x:=by first|exact Or.inl rfl|exact Or.inr (Or.inl rfl)|exact Or.inr (Or.inr rfl))(hd:(x == ("__debug__":Str))=false:=by decide)
  (hcd:(x == ("__classdict__":Str))=false:=by decide):PE X (.Name x pos) (cK i):=CS hN hv hd hcd
end
theorem dH{A B:Prop}(h:B):if false=true then A else B:=by
 rw[ae fj]
 exact h
theorem fY{A B:Prop}(h:A):if true=true then A else B:=by
 rw[af rfl]
 exact h
def ag(H H':Hp):Prop:=∀b o,H b=some o->H' b=some o
theorem ag.refl(H:Hp):ag H H:=fun _ _ h=>h
theorem ag.trans{H H1 H2:Hp}(a:ag H H1)(b:ag H1 H2):ag H H2:=fun c o h=>b c o (a c o h)
theorem ag.free{H H':Hp}(e:ag H H'){l:Addr}(h:H' l=Option.none):H l=Option.none:=by
 cases q:H l with
 |none=>rfl
 |some o=>
  rw[e l o q]at h
  cases h
theorem ag.seq{K:PySem.W.Frag}{H H':Hp}{a:Addr}{xs:List V}(e:ag H H')(h:ai K H a xs):ai K H' a xs:=by
 rcases h with (h|⟨o,h⟩)|h
 ·exact .inl (.inl (e _ _ h))
 ·exact .inl (.inr ⟨o,e _ _ h⟩)
 ·exact .inr h
section
variable{κ:Type}[DecidableEq κ]
theorem D8:∀{l:List κ}{k:κ},l.Nodup->¬k∈l->(l++[k]).Nodup
 |[],k,_,_=>by simp
 |a::r,k,h,hk=>by
  obtain⟨h1,h2⟩:=kW.mp h
  show (a::(r++[k])).Nodup
  refine kW.mpr ⟨fun m=>?_,D8 h2 fun m=>hk (cj.mpr (Or.inr m))⟩
  rcases dO.mp m with q|q
  ·exact h1 q
  ·exact hk (cj.mpr (Or.inl (gq.mp q).symm))
end
theorem at_of{xs:List V}{z:Int}{j:Nat}{v:V}(e:z=(j:Int))(h:xs[j]?=some v):gM xs z=some v:=by
 rw[e]
 exact K2 h
theorem D9{α:Type}{l:List α}(hN:l.Nodup){i j:Nat}{x:α}(a:l[i]?=some x)(b:l[j]?=some x):i=j:=by
 obtain⟨h1,e1⟩:=dP.mp a
 obtain⟨h2,e2⟩:=dP.mp b
 exact(List.getElem_inj hN).mp (e1.trans e2.symm)
theorem ag.made{H H1:Hp}{x dx C:Addr}(nx:H x=Option.none)(nd:H dx=Option.none)(k:∀b o,(upd (upd H dx (.own x)) x (.ins C dx [])) b=some o->b≠x->H1 b=some o):ag H H1:=fun b o e=>
 k b o (by rw[ax (a7 e nx),ax (a7 e nd)];exact e) (a7 e nx)
end L2
end
section
namespace L2
open PySem PySem.Spec PyProof.Rows
open PySem.W (WData Codec OpenSpec Well WellAll ReadsW ReadsAllW)
mutual
inductive Dw(K:PySem.W.Frag)(H:Hp):V->WData->Prop
 |aW:Dw K H .aW .none
 |bl (b:Bool):Dw K H (.bl b) (.bool b)
 |int (i:Int):Dw K H (.int i) (.int i)
 |str (x:Str):Dw K H (.str x) (.str x)
 |gv (b:Array UInt8):Dw K H (.gv b) (.bytes b.toList)
 |lst {a:Addr}{xs:List V}{ds:List WData}:ai K H a xs->jg K H xs ds->Dw K H (.ref a) (.list ds)
 |tup {a:Addr}{xs:List V}{ds:List WData}:fv K H a xs->jg K H xs ds->Dw K H (.ref a) (.tuple ds)
inductive jg(K:PySem.W.Frag)(H:Hp):List V->List WData->Prop
 |nil:jg K H [] []
 |cons {v:V}{vs:List V}{d:WData}{ds:List WData}:Dw K H v d->jg K H vs ds->jg K H (v::vs) (d::ds)
end
theorem D_{K:PySem.W.Frag}{H:Hp}:∀ns:List Int,jg K H (ns.map V.int) (ns.map WData.int)
 |[]=>.nil
 |n::r=>.cons (.int n) (D_ r)
theorem Ea{K:PySem.W.Frag}{H:Hp}:∀(ns:List Int) (xs:List V),jg K H xs (ns.map WData.int)->xs=ns.map V.int
 |[],xs,h=>by
  cases h
  rfl
 |n::r,xs,h=>by
  cases h with
  |cons h1 h2=>
   cases h1
   rw[Ea r _ h2]<;>rfl
section
variable{P:Program}{w:World}{K:PySem.W.Frag}{H:Hp}{h:Heap}{R:PySem.W.WRecords}{cl:Str->Option Addr}
theorem L8{a:Addr}{xs:List V}(aP:cS P w H h)(KX:K.In h)(q:ai K H a xs):∃(its:List Value) (o:Obj) (n:Nat),aK xs its/\h.get? a=some o/\o.cls=.type "list"/\o.data=.seq its.toArray n:=by
 rcases q with q|⟨o,its,n,e,hc,_,hd,_,hv⟩
 ·obtain⟨_,its,n,hv,e⟩:=(show eE P w H h a (.lst xs) from q.ok aP)
  exact⟨its,_,n,hv,e,rfl,rfl⟩
 ·exact⟨its.toList,o,n,hv,KX _ _ e,hc,by simp[hd]⟩
theorem L9{a:Addr}{xs:List V}(aP:cS P w H h)(KX:K.In h)(q:fv K H a xs):∃(its:List Value) (o:Obj) (n:Nat),aK xs its/\h.get? a=some o/\o.cls=.type "tuple"/\o.data=.seq its.toArray n:=by
 rcases q with q|⟨o,its,n,e,hc,hd,_,hv⟩
 ·obtain⟨_,its,hv,o,e,hc,n,hd⟩:=(show eE P w H h a (.tup xs) from q.ok aP)
  exact⟨its,o,n,hv,e,hc,hd⟩
 ·exact⟨its.toList,o,n,hv,KX _ _ e,hc,by simp[hd]⟩
mutual
theorem Dw.reads(aP:cS P w H h)(KX:K.In h):∀(d:WData) (v:V) (u:Value),Dw K H v d->RelV v u->∃as,ReadsW R cl h u d as
 |.none,_,_,x,r=>by
  cases x
  cases r
  exact⟨_,ReadsW.none⟩
 |.bool b,_,_,x,r=>by
  cases x
  cases r
  exact⟨_,ReadsW.bool b⟩
 |.int i,_,_,x,r=>by
  cases x
  obtain⟨t,rfl⟩:=r
  exact⟨_,ReadsW.int i t⟩
 |.str s,_,_,x,r=>by
  cases x
  obtain⟨t,rfl⟩:=r
  exact⟨_,ReadsW.str s t⟩
 |.bytes b,_,_,x,r=>by
  cases x
  obtain⟨t,rfl⟩:=r
  exact⟨_,ReadsW.bytes _ t⟩
 |.list ds,_,_,x,r=>by
  cases x with
  |lst hs ha=>
   cases r
   obtain⟨its,o,n,rv,ho,hc,hd⟩:=L8 aP KX hs
   obtain⟨as,hr⟩:=Dw.readsAll aP KX ds _ its ha rv
   exact⟨_,ReadsW.list ho hc hd hr⟩
 |.tuple ds,_,_,x,r=>by
  cases x with
  |tup hs ha=>
   cases r
   obtain⟨its,o,n,rv,ho,hc,hd⟩:=L9 aP KX hs
   obtain⟨as,hr⟩:=Dw.readsAll aP KX ds _ its ha rv
   exact⟨_,ReadsW.tuple ho hc hd hr⟩
 |.float _,_,_,x,_=>by cases x
 |.dict _,_,_,x,_=>by cases x
 |.bytearray _,_,_,x,_=>by cases x
 |.set _,_,_,x,_=>by cases x
 |.frozenset _,_,_,x,_=>by cases x
 |.obj _ _,_,_,x,_=>by cases x
theorem Dw.readsAll(aP:cS P w H h)(KX:K.In h):∀(ds:List WData) (vs:List V) (us:List Value),jg K H vs ds->aK vs us->∃as,ReadsAllW R cl h us ds as
 |[],_,_,x,r=>by
  cases x
  cases r
  exact⟨_,ReadsAllW.nil⟩
 |d::ds,_,_,x,r=>by
  cases x with
  |cons h1 h2=>
   cases r with
   |cons r1 r2=>
    obtain⟨as,q1⟩:=Dw.reads aP KX d _ _ h1 r1
    obtain⟨bs,q2⟩:=Dw.readsAll aP KX ds _ _ h2 r2
    exact⟨_,ReadsAllW.cons q1 q2⟩
end
end
mutual
def gY:WData->Bool
 |.none=>true
 |.bool _=>true
 |.int _=>true
 |.str _=>true
 |.bytes _=>true
 |.list xs=>jh xs
 |.tuple xs=>jh xs
 |_=>false
def jh:List WData->Bool
 |[]=>true
 |x::r=>gY x&&jh r
end
theorem Eb{α:Type}{f:α->WData}(h:∀a,gY (f a)=true):∀l:List α,jh (l.map f)=true
 |[]=>rfl
 |x::r=>by
  show (gY (f x)&&jh (r.map f))=true
  rw[h x,Eb h r]<;>rfl
theorem mG:∀(c:Codec) (a:c.denote),gY (c.enc a)=true
 |.unit,_=>rfl
 |.bool,_=>rfl
 |.int _ _,_=>rfl
 |.nat _ _,_=>rfl
 |.u8,_=>rfl
 |.bytes _ _,_=>rfl
 |.text _ _ _ _,_=>rfl
 |.list _ _ c,a=>Eb (fun x=>mG c x) a
 |.pair c d,a=>by
  show (gY (c.enc a.1)&&(gY (d.enc a.2)&&true))=true
  rw[mG c a.1,mG d a.2]<;>rfl
 |.triple c d e,a=>by
  show (gY (c.enc a.1)&&(gY (d.enc a.2.1)&&(gY (e.enc a.2.2)&&true)))=true
  rw[mG c a.1,mG d a.2.1,mG e a.2.2]<;>rfl
 |.option c,none=>rfl
 |.option c,some x=>mG c x
theorem Ec:∀(cs:List Codec) (a:Codec.denoteAll cs),jh (Codec.encAll cs a)=true
 |[],_=>rfl
 |c::cs,a=>by
  show (gY (c.enc a.1)&&jh (Codec.encAll cs a.2))=true
  rw[mG c a.1,Ec cs a.2]<;>rfl
theorem xZ:∀{xs:List WData}{d:WData},d∈xs->d.weight<=WData.weightAll xs
 |[],d,h=>absurd h (by simp)
 |x::r,d,h=>by
  show d.weight<=x.weight+1+WData.weightAll r
  rcases cj.mp h with e|m
  ·rw[e]
   omega
  ·have z:=xZ m
   omega
def toV:Value->V
 |.none=>.aW
 |.bool b=>.bl b
 |.int i _=>.int i
 |.str x _=>.str x
 |.bytes b _=>.gv b
 |.ref a=>.ref a
 |_=>.aW
def iN(A:List Addr):Value->Prop
 |.none=>True
 |.bool _=>True
 |.int _ _=>True
 |.str _ _=>True
 |.bytes _ _=>True
 |.ref a=>a∈A
 |_=>False
theorem iN.mono{A B:List Addr}(h:∀a∈A,a∈B):∀{u:Value},iN A u->iN B u:=fun {u} x=>by
 cases u with
 |ref a=>exact h a x
 |none=>trivial
 |bool b=>trivial
 |int i t=>trivial
 |str s t=>trivial
 |bytes b t=>trivial
 |_=>exact False.elim x
theorem L_{A:List Addr}{u:Value}(x:iN A u):RelV (toV u) u:=by
 cases u with
 |ref a=>rfl
 |none=>rfl
 |bool b=>rfl
 |int i t=>exact⟨t,rfl⟩
 |str s t=>exact⟨t,rfl⟩
 |bytes b t=>exact⟨t,rfl⟩
 |_=>exact False.elim x
theorem pL{A:List Addr}:∀{vs:List Value},(∀u∈vs,iN A u)->aK (vs.map toV) vs
 |[],_=>.nil
 |u::r,h=>.cons (L_ (h u (bE ..))) (pL fun x hx=>h x (bH _ hx))
def ji(h:Heap)(A:List Addr)(a:Addr):Prop:=∃vs:List Value,vs.length<=sizeLine/\(∀u∈vs,iN A u)/\
 (h.get? a=some {cls:=.type "list",data:=.seq vs.toArray}\/h.get? a=some {cls:=.type "tuple",data:=.seq vs.toArray})
theorem ji.mono{h:Heap}{A B:List Addr}{a:Addr}(k:∀a∈A,a∈B)(x:ji h A a):ji h B a:=by
 obtain⟨vs,h1,h2,h3⟩:=x
 exact⟨vs,h1,fun u hu=>(h2 u hu).mono k,h3⟩
theorem uR{P:Params}{h:Heap}:∀{vs:List Value}{ds:List WData},WellAll P h vs ds->vs.length=ds.length
 |_,_,.nil=>rfl
 |_,_,.cons _ b=>by
  show _+1=_+1
  rw[uR b]
theorem Ed{P:Params}{h:Heap}{v:Value}{ds:List WData}(x:Well P h v (.list ds)):∃(a:Addr) (vs:List Value),v=.ref a/\h.get? a=some {cls:=.type "list",data:=.seq vs.toArray}/\WellAll P h vs ds:=by
 cases x with
 |list ho hall=>exact⟨_,_,rfl,ho,hall⟩
theorem Ef{P:Params}{h:Heap}{v:Value}{ds:List WData}(x:Well P h v (.tuple ds)):∃(a:Addr) (vs:List Value),v=.ref a/\h.get? a=some {cls:=.type "tuple",data:=.seq vs.toArray}/\WellAll P h vs ds:=by
 cases x with
 |tuple ho hall=>exact⟨_,_,rfl,ho,hall⟩
theorem Eh{P:Params}{h:Heap}{us:List Value}{d:WData}{ds:List WData}(x:WellAll P h us (d::ds)):∃(v:Value) (vs:List Value),us=v::vs/\Well P h v d/\WellAll P h vs ds:=by
 cases x with
 |cons a b=>exact⟨_,_,rfl,a,b⟩
theorem Ei{n:Nat}(h:n<=1048576):n<=sizeLine:=cz h (by decide)
section
variable{P:Params}{h:Heap}
mutual
theorem Ma:∀(d:WData) (v:Value),Well P h v d->gY d=true->d.weight<=1048576->∃A:List Addr,iN A v/\∀a∈A,ji h A a
 |.none,_,x,_,_=>by
  cases x
  exact⟨[],trivial,fun a m=>absurd m (by simp)⟩
 |.bool b,_,x,_,_=>by
  cases x
  exact⟨[],trivial,fun a m=>absurd m (by simp)⟩
 |.int i,_,x,_,_=>by
  cases x
  exact⟨[],trivial,fun a m=>absurd m (by simp)⟩
 |.str s,_,x,_,_=>by
  cases x
  exact⟨[],trivial,fun a m=>absurd m (by simp)⟩
 |.bytes b,_,x,_,_=>by
  cases x
  exact⟨[],trivial,fun a m=>absurd m (by simp)⟩
 |.list ds,_,x,p,z=>by
  obtain⟨a,vs,rfl,ho,hall⟩:=Ed x
  have z2:WData.weightAll ds<=1048576:=z
  obtain⟨A,h1,h2⟩:=uS ds _ hall p fun d hd=>cz (xZ hd) z2
  have k:∀b∈A,b∈a::A:=fun b hb=>bH _ hb
  refine⟨a::A,bE ..,fun b hb=>?_⟩
  rcases cj.mp hb with e|m
  ·rw[e]
   exact⟨vs,Ei (by rw[uR hall];exact cz (PySem.W.length_le_weightAllW ds) z2),fun u hu=>(h1 u hu).mono k,.inl ho⟩
  ·exact(h2 b m).mono k
 |.tuple ds,_,x,p,z=>by
  obtain⟨a,vs,rfl,ho,hall⟩:=Ef x
  have z2:WData.weightAll ds<=1048576:=z
  obtain⟨A,h1,h2⟩:=uS ds _ hall p fun d hd=>cz (xZ hd) z2
  have k:∀b∈A,b∈a::A:=fun b hb=>bH _ hb
  refine⟨a::A,bE ..,fun b hb=>?_⟩
  rcases cj.mp hb with e|m
  ·rw[e]
   exact⟨vs,Ei (by rw[uR hall];exact cz (PySem.W.length_le_weightAllW ds) z2),fun u hu=>(h1 u hu).mono k,.inr ho⟩
  ·exact(h2 b m).mono k
 |.float _,_,_,p,_=>Bool.noConfusion (show false=true from p)
 |.dict _,_,_,p,_=>Bool.noConfusion (show false=true from p)
 |.bytearray _,_,_,p,_=>Bool.noConfusion (show false=true from p)
 |.set _,_,_,p,_=>Bool.noConfusion (show false=true from p)
 |.frozenset _,_,_,p,_=>Bool.noConfusion (show false=true from p)
 |.obj _ _,_,_,p,_=>Bool.noConfusion (show false=true from p)
theorem uS:∀(ds:List WData) (vs:List Value),WellAll P h vs ds->jh ds=true->(∀d∈ds,d.weight<=1048576)->∃A:List Addr,(∀u∈vs,iN A u)/\∀a∈A,ji h A a
 |[],_,x,_,_=>by
  cases x
  exact⟨[],fun u m=>absurd m (by simp),fun a m=>absurd m (by simp)⟩
 |d::ds,_,x,p,z=>by
  obtain⟨v,vs,rfl,x1,x2⟩:=Eh x
  have q:gY d=true/\jh ds=true:=xg.mp p
  obtain⟨A,a1,a2⟩:=Ma d v x1 q.1 (z d (bE ..))
  obtain⟨B,b1,b2⟩:=uS ds vs x2 q.2 fun e he=>z e (bH _ he)
  have kA:∀b∈A,b∈A++B:=fun b hb=>dO.mpr (.inl hb)
  have kB:∀b∈B,b∈A++B:=fun b hb=>dO.mpr (.inr hb)
  refine⟨A++B,fun u hu=>?_,fun b hb=>?_⟩
  ·rcases cj.mp hu with e|m
   ·rw[e]
    exact a1.mono kA
   ·exact(b1 u m).mono kB
  ·rcases dO.mp hb with m|m
   ·exact(a2 b m).mono kA
   ·exact(b2 b m).mono kB
end
end
def uT(o:Obj):Option HO:=match o.data with
 |.seq vs _=>if (o.cls == Value.type "list")=true then some (.cw o (.lst (vs.toList.map toV))) else some (.cw o (.tup (vs.toList.map toV)))
 |_=>none
def eX(K:PySem.W.Frag)(h:Heap)(A:List Addr):Hp:=fun b=>if b∈A then (if (K.lookup b).isNone=true then (h.get? b).bind uT else none) else none
def rR(H:Hp):Prop:=∀b,H b=none\/∃o u,H b=some (.cw o u)
theorem Ej(vs:List Value):uT {cls:=.type "list",data:=.seq vs.toArray}=some (.cw {cls:=.type "list",data:=.seq vs.toArray} (.lst (vs.map toV))):=by
 show (if (Value.type "list" == Value.type "list")=true then some (HO.cw {cls:=.type "list",data:=.seq vs.toArray} (.lst (vs.toArray.toList.map toV))) else some (HO.cw {cls:=.type "list",data:=.seq vs.toArray} (.tup (vs.toArray.toList.map toV))))=_
 rw[af (beq_self_eq_true _)]
theorem Ek(vs:List Value):uT {cls:=.type "tuple",data:=.seq vs.toArray}=some (.cw {cls:=.type "tuple",data:=.seq vs.toArray} (.tup (vs.map toV))):=by
 show (if (Value.type "tuple" == Value.type "list")=true then some (HO.cw {cls:=.type "tuple",data:=.seq vs.toArray} (.lst (vs.toArray.toList.map toV))) else some (HO.cw {cls:=.type "tuple",data:=.seq vs.toArray} (.tup (vs.toArray.toList.map toV))))=_
 rw[ae (by decide)]
section
variable{P:Program}{w:World}{K:PySem.W.Frag}{h:Heap}{A:List Addr}
theorem uU{b:Addr}{o:Obj}(hb:b∈A)(hk:K.lookup b=none)(e:h.get? b=some o):eX K h A b=uT o:=by
 unfold eX
 rw[af hb,hk,af (show (none:Option Obj).isNone=true from rfl),e]<;>rfl
theorem Mb{b:Addr}{u:HO}(q:eX K h A b=some u):b∈A/\K.lookup b=none:=by
 unfold eX at q
 by_cases hb:b∈A
 ·rw[af hb]at q
  cases hk:K.lookup b with
  |none=>exact⟨hb,rfl⟩
  |some o=>
   rw[hk,ae (by simp)]at q
   cases q
 ·rw[ae hb]at q
  cases q
theorem uV(ar:∀a∈A,ji h A a){b:Addr}{u:HO}(q:eX K h A b=some u):K.lookup b=none/\∃vs:List Value,vs.length<=sizeLine/\(∀u∈vs,iN A u)/\
  ((h.get? b=some {cls:=.type "list",data:=.seq vs.toArray}/\u=.cw {cls:=.type "list",data:=.seq vs.toArray} (.lst (vs.map toV)))\/
   (h.get? b=some {cls:=.type "tuple",data:=.seq vs.toArray}/\u=.cw {cls:=.type "tuple",data:=.seq vs.toArray} (.tup (vs.map toV)))):=by
 obtain⟨hb,hk⟩:=Mb q
 obtain⟨vs,h1,h2,h3⟩:=ar b hb
 refine⟨hk,vs,h1,h2,?_⟩
 rcases h3 with e|e
 ·rw[uU hb hk e,Ej]at q
  exact .inl ⟨e,(bo q).symm⟩
 ·rw[uU hb hk e,Ek]at q
  exact .inr ⟨e,(bo q).symm⟩
theorem Mc(ar:∀a∈A,ji h A a):rR (eX K h A):=fun b=>by
 cases q:eX K h A b with
 |none=>exact .inl rfl
 |some u=>
  obtain⟨_,vs,_,_,⟨_,e⟩|⟨_,e⟩⟩:=uV ar q
  ·exact .inr ⟨_,_,by rw[e]⟩
  ·exact .inr ⟨_,_,by rw[e]⟩
theorem Md(ar:∀a∈A,ji h A a):cS P w (eX K h A) h:=fun b u q=>by
 obtain⟨_,vs,h1,h2,⟨e,rfl⟩|⟨e,rfl⟩⟩:=uV ar q
 ·exact⟨e,by rw[aE];exact h1,vs,_,pL h2,e⟩
 ·exact⟨e,by rw[aE];exact h1,vs,pL h2,_,e,rfl,_,rfl⟩
theorem uW{c c':Value}{vs us:List Value}(e:(some {cls:=c,data:=.seq vs.toArray}:Option Obj)=some {cls:=c',data:=.seq us.toArray}):c=c'/\vs=us:=by
 have e1:=bo e
 have e2:c=c':=bO Obj.cls e1
 have e3:Data.seq vs.toArray=Data.seq us.toArray:=bO Obj.data e1
 injection e3 with e4
 refine⟨e2,?_⟩
 have e5:=bO Array.toList e4
 simpa using e5
theorem Me(KX:K.In h)(ar:∀a∈A,ji h A a){a:Addr}{vs:List Value}(ha:a∈A)(e:h.get? a=some {cls:=.type "list",data:=.seq vs.toArray}):(∀u∈vs,iN A u)/\ai K (eX K h A) a (vs.map toV):=by
 obtain⟨us,h1,h2,h3⟩:=ar a ha
 have hu:us=vs:=by
  rcases h3 with q|q
  ·rw[e]at q
   exact(uW q).2.symm
  ·rw[e]at q
   exact absurd (Value.type.inj (uW q).1) (by decide)
 subst hu
 refine⟨h2,?_⟩
 cases hk:K.lookup a with
 |none=>exact .inl (.inr ⟨_,by rw[uU ha hk e,Ej]⟩)
 |some o=>
  have e2:=KX a o hk
  rw[e]at e2
  obtain rfl:=bo e2
  exact .inr ⟨_,us.toArray,_,hk,rfl,rfl,rfl,by rw[cX];exact h1,by simpa using pL h2⟩
theorem Mf(KX:K.In h)(ar:∀a∈A,ji h A a){a:Addr}{vs:List Value}(ha:a∈A)(e:h.get? a=some {cls:=.type "tuple",data:=.seq vs.toArray}):(∀u∈vs,iN A u)/\fv K (eX K h A) a (vs.map toV):=by
 obtain⟨us,h1,h2,h3⟩:=ar a ha
 have hu:us=vs:=by
  rcases h3 with q|q
  ·rw[e]at q
   exact absurd (Value.type.inj (uW q).1) (by decide)
  ·rw[e]at q
   exact(uW q).2.symm
 subst hu
 refine⟨h2,?_⟩
 cases hk:K.lookup a with
 |none=>exact .inl (.inr ⟨_,by rw[uU ha hk e,Ek]⟩)
 |some o=>
  have e2:=KX a o hk
  rw[e]at e2
  obtain rfl:=bo e2
  exact .inr ⟨_,us.toArray,_,hk,rfl,rfl,by rw[cX];exact h1,by simpa using pL h2⟩
mutual
theorem Mg{Pm:Params}(KX:K.In h)(ar:∀a∈A,ji h A a):∀(d:WData) (v:Value),Well Pm h v d->gY d=true->iN A v->Dw K (eX K h A) (toV v) d
 |.none,_,x,_,_=>by
  cases x
  exact .aW
 |.bool b,_,x,_,_=>by
  cases x
  exact .bl b
 |.int i,_,x,_,_=>by
  cases x
  exact .int i
 |.str s,_,x,_,_=>by
  cases x
  exact .str s
 |.bytes b,_,x,_,_=>by
  cases x
  have z:=Dw.gv (K:=K) (H:=eX K h A) b.toArray
  exact z
 |.list ds,_,x,p,hu=>by
  obtain⟨a,vs,rfl,ho,hall⟩:=Ed x
  obtain⟨h2,hs⟩:=Me KX ar hu ho
  exact .lst hs (uX KX ar ds _ hall p h2)
 |.tuple ds,_,x,p,hu=>by
  obtain⟨a,vs,rfl,ho,hall⟩:=Ef x
  obtain⟨h2,hs⟩:=Mf KX ar hu ho
  exact .tup hs (uX KX ar ds _ hall p h2)
 |.float _,_,_,p,_=>Bool.noConfusion (show false=true from p)
 |.dict _,_,_,p,_=>Bool.noConfusion (show false=true from p)
 |.bytearray _,_,_,p,_=>Bool.noConfusion (show false=true from p)
 |.set _,_,_,p,_=>Bool.noConfusion (show false=true from p)
 |.frozenset _,_,_,p,_=>Bool.noConfusion (show false=true from p)
 |.obj _ _,_,_,p,_=>Bool.noConfusion (show false=true from p)
theorem uX{Pm:Params}(KX:K.In h)(ar:∀a∈A,ji h A a):∀(ds:List WData) (vs:List Value),WellAll Pm h vs ds->jh ds=true->(∀u∈vs,iN A u)->jg K (eX K h A) (vs.map toV) ds
 |[],_,x,_,_=>by
  cases x
  exact .nil
 |d::ds,_,x,p,hu=>by
  obtain⟨v,vs,rfl,x1,x2⟩:=Eh x
  have q:gY d=true/\jh ds=true:=xg.mp p
  exact .cons (Mg KX ar d v x1 q.1 (hu _ (bE ..))) (uX KX ar ds vs x2 q.2 fun u m=>hu u (bH _ m))
end
end
theorem Mh{P:Program}{w:World}{K:PySem.W.Frag}{mg mb:Str->Option Value}{CX:jM}{k:Nat}{fa:Addr}{fd:FuncData}{ps:List Str}{sp:Sp}{s₁:Shared}{vals:List Value}{ds:List WData}{R:PySem.W.WRecords}{cl:Str->Option Addr}{d0:WData}
  (KX:K.In s₁.heap)(hns:s₁.heap.Ns mainGlobals mg)(hb:s₁.heap.Ns builtinsNs mb)(hbb:∀x:Str,x≠"__name__"->mb x=bootBuiltins x)(hlim:s₁.heap.NoLimit)(hg:s₁.gens= #[])
  (hwl:WellAll w.params s₁.heap vals ds)(hpl:jh ds=true)(hwt:∀d∈ds,d.weight<=1048576)(hr:cy k callerA)
  (F:∀base:Heap,K.In base->base.Ns mainGlobals mg->d8 P w K mg base CX k fa fd ps sp)(hbind:∀(s:Shared) (us:List Value),us.length=ps.length->BindsTo s fd ⟨us,[]⟩ (ps.zip us))(hlen:ds.length=ps.length)
  (hsp:∀(H:Hp) (xs:List V),rR H->jg K H xs ds->sp xs H (fun v H'=>Dw K H' v d0) fun _ _ _=>False)
  (hCX:∀H e s',CX [] H s₁ (fun _ _ _=>False) e s'->False):
  codeAny (model P w) callerA (.call (.ref fa) ⟨vals,[]⟩) (fun r s'=>∃u as,r=.ok (.ret u)/\ReadsW R cl s'.heap u d0 as/\OldK s₁.heap s'.heap/\s'.os=s₁.os/\AllBare s'.gens) s₁:=by
 obtain⟨A,ho,ar⟩:=uS ds vals hwl hpl hwt
 have hO:rR (eX K s₁.heap A):=Mc ar
 have aP:cS P w (eX K s₁.heap A) s₁.heap:=Md ar
 have hS:=uX KX ar ds vals hwl hpl ho
 have hV:=pL ho
 have hK:∀b u,eX K s₁.heap A b=some u->K.lookup b=none:=fun b u q=>(uV ar q).1
 have noA:∀{b:Addr}{o:Obj}{es:Array DictEntry}{ep:Nat},s₁.heap.get? b=some o->o.data=.dict es ep->eX K s₁.heap A b=none:=fun {b o es ep} e d=>by
  cases q:eX K s₁.heap A b with
  |none=>rfl
  |some u=>
   obtain⟨_,vs,_,_,⟨e2,_⟩|⟨e2,_⟩⟩:=uV ar q
   ·rw[e2]at e
    cases e
    have d':Data.seq vs.toArray _=Data.dict es ep:=d
    cases d'
   ·rw[e2]at e
    cases e
    have d':Data.seq vs.toArray _=Data.dict es ep:=d
    cases d'
 generalize eX K s₁.heap A=H at hO aP hS hK noA
 have base_of:∀{b:Addr}{o:Obj},s₁.heap.get? b=some o->H b=none->(lg s₁.heap H).get? b=some o:=fun e n=>J2 e n
 have nsK:∀{b:Addr}{m:Str->Option Value},s₁.heap.Ns b m->(lg s₁.heap H).Ns b m:=fun {b m} ⟨o,es,ep,e,d,r⟩=>⟨o,es,ep,base_of e (noA e d),d,r⟩
 have nK:∀b o,K.lookup b=some o->H b=none:=fun b o e=>by
  cases q:H b with
  |none=>rfl
  |some u=>
   rw[hK b u q]at e
   cases e
 have hKb:K.In (lg s₁.heap H):=fun b o e=>base_of (KX b o e) (nK b o e)
 have hM:Mod K mg (lg s₁.heap H):=⟨hKb,nsK hns,⟨mb,nsK hb,hbb⟩,let ⟨mc,h1,h2⟩:=hlim;⟨mc,nsK h1,h2⟩⟩
 have e0:nt P w K mg (lg s₁.heap H) callerA [] s₁ H:=⟨rfl,hM,fun b o e=>J3 e,Nat.le_of_eq (J1 _ _),trivial,fun b hb=>absurd (show b∈([]:List Addr) from hb) (by simp),aP,.of_eq hg⟩
 have hl:vals.length=ps.length:=by rw[uR hwl];exact hlen
 refine codeAny_mono ((F _ hKb (nsK hns)).run callerA [] s₁ H ⟨vals,[]⟩ vals (vals.map toV) _ _ hr e0 (hbind s₁ vals hl) hV (hsp H _ hO hS)) fun r s' x=>?_
 cases r with
 |error e=>exact(hCX H e s' x).elim
 |ok fl=>
  cases fl with
  |next=>exact False.elim x
  |brk=>exact False.elim x
  |cont=>exact False.elim x
  |ret u=>
   obtain⟨v,H',os,bare,un,hok',r',q⟩:=x
   have kept:∀b o,s₁.heap.get? b=some o->s'.heap.get? b=some o:=fun b o e=>by
    cases q2:H b with
    |none=>exact un.keep b o e q2 (by intro z;exact absurd (show b∈([]:List Addr) from z) (by simp)) (by simp)
    |some u2=>
     rcases hO b with z|⟨ob,u3,z⟩
     ·rw[q2]at z
      cases z
     ·have z2:=un.jF b ob _ z
      obtain⟨e1,_⟩:=aP b _ z
      obtain⟨e2,_⟩:=hok' b _ z2
      rw[e]at e1
      cases e1
      exact e2
   have KX':K.In s'.heap:=fun b o e=>kept b o (KX b o e)
   obtain⟨as,hrd⟩:=Dw.reads (R:=R) (cl:=cl) hok' KX' d0 v u q r'
   exact⟨u,as,rfl,hrd,OldK.of_keep kept,os,bare⟩
theorem Mi{ds:List WData}(h:WData.layableAll ds=true):∀d∈ds,d.weight<=1048576:=fun d hd=>
 (PySem.W.layableW_iff.mp (mj.mp h d hd)).2.2
theorem El:∀(cs:List Codec) (a:Codec.denoteAll cs),(Codec.encAll cs a).length=cs.length
 |[],_=>rfl
 |c::cs,a=>by
  show (Codec.encAll cs a.2).length+1=cs.length+1
  rw[El cs a.2]
theorem Mj{r:OpenSpec}{k:Nat}{q:Program}{loose:List Str}{XP:(Str->Option Value)->Heap->Prop}{YP:World->Heap->Prop}{d:DefRec}{K:Params->PySem.W.Frag}{CX:World->jM}{ps:List Str}{sp:World->Sp}
  (hwell:r.wellSaid=true)(hdf:d.params.defaults=[])(hlen:r.args.length=ps.length)(hr:cy k callerA)
  (hY:∀(w:World) (h:Heap),YP w h->(K w.params).In h)
  (F:∀(w:World) (mg:Str->Option Value) (fa:Addr) (h:Heap),YP w h->(K w.params).In h->h.Ns mainGlobals mg->mg d.name=some (.ref fa)->
   ∃fd:FuncData,(∀(s:Shared) (us:List Value),us.length=ps.length->BindsTo s fd ⟨us,[]⟩ (ps.zip us))/\
    ∀base:Heap,(K w.params).In base->base.Ns mainGlobals mg->d8 r.prog w (K w.params) mg base (CX w) k fa fd ps (sp w))
  (hsp:∀(w:World) (H:Hp) (xs:List V) (a:Codec.denoteAll r.args),rR H->Codec.withinAll r.args a=true->Codec.app r.args r.asked a=true->jg (K w.params) H xs (Codec.encAll r.args a)->
   sp w xs H (fun v H'=>Dw (K w.params) H' v (r.ret.enc (Codec.app r.args r.f a))) fun _ _ _=>False)
  (hCX:∀(w:World) (H:Hp) (s:Shared) (e:Value) (s':Shared),CX w [] H s (fun _ _ _=>False) e s'->False):
  PySem.W.WalkOS q loose XP YP r d [] (fun f vs=>PySem.call f vs):=by
 intro w eI s₁ mg mb G Y fa o pm cd doc dV kV ho hd hcd hD hmg hg args vals as hpre hlay hrd hwl hlo
 obtain⟨a,e1,e2⟩:=PySem.W.os_pre_some hpre
 obtain⟨e3,hwi⟩:=Codec.encAll_of_decAll r.args args a e1
 subst e3
 have KX:=hY w _ Y
 obtain⟨fd,hb,hF⟩:=F w mg fa _ Y KX G.T.g hmg
 refine PySem.W.enter_call (codeAny_mono (Mh (R:=[]) (cl:=classAt eI.heap) (d0:=r.ret.enc (Codec.app r.args r.f a)) KX G.T.g G.T.b G.T.builtins G.T.nolimit hg hwl (Ec _ _) (Mi hlay) hr hF hb (by rw[El];exact hlen)
  (fun H xs hO hS=>hsp w H xs a hO hwi e2 hS) fun H e s'=>hCX w H s₁ e s') fun r' s' hq=>?_)
 obtain⟨u,as',rfl,h1,h2,h3,h4⟩:=hq
 exact⟨.inl ⟨u,_,as',rfl,fun _=>rfl,h1,(OpenSpec.post_iff hwell hwi _ _).mpr rfl,fun z=>Bool.noConfusion (show false=true from z)⟩,h2,h3,h4⟩
theorem Ml{r:OpenSpec}{k:Nat}{q:Program}{loose:List Str}{XP:(Str->Option Value)->Heap->Prop}{YP:World->Heap->Prop}{d:DefRec}{K:Params->PySem.W.Frag}{CX:jM}{ps:List Str}{sp:PySem.W.Frag->Sp}
  (hwell:r.wellSaid=true)(hdf:d.params.defaults=[])(hlen:r.args.length=ps.length)(hr:cy k callerA)
  (hY:∀(w:World) (h:Heap),YP w h->(K w.params).In h)
  (F:∀(w:World) (mg:Str->Option Value) (fa:Addr) (h:Heap),YP w h->(K w.params).In h->h.Ns mainGlobals mg->mg d.name=some (.ref fa)->
   ∃fd:FuncData,(∀(s:Shared) (us:List Value),us.length=ps.length->BindsTo s fd ⟨us,[]⟩ (ps.zip us))/\
    ∀base:Heap,(K w.params).In base->base.Ns mainGlobals mg->d8 r.prog w (K w.params) mg base CX k fa fd ps (sp (K w.params)))
  (hsp:∀(K:PySem.W.Frag) (H:Hp) (xs:List V) (a:Codec.denoteAll r.args),rR H->Codec.withinAll r.args a=true->Codec.app r.args r.asked a=true->jg K H xs (Codec.encAll r.args a)->
   sp K xs H (fun v H'=>Dw K H' v (r.ret.enc (Codec.app r.args r.f a))) fun _ _ _=>False)
  (hCX:∀(H:Hp) (s:Shared) (e:Value) (s':Shared),CX [] H s (fun _ _ _=>False) e s'->False):
  PySem.W.WalkOS q loose XP YP r d [] (fun f vs=>PySem.call f vs):=
 Mj (K:=K) (CX:=fun _=>CX) (sp:=fun w=>sp (K w.params)) hwell hdf hlen hr hY F (fun w H xs a h1 h2 h3 h4=>hsp (K w.params) H xs a h1 h2 h3 h4) fun _ H s e s'=>hCX H s e s'
end L2
end
section
namespace BB
open Wqaraq
theorem bJ(f:Nat->Nat):(made f).length=16:=by simp[made,WIDE]
theorem gZ{f:Nat->Nat}{i:Nat}(h:i<16):at_ (made f) i=f i:=by
 unfold at_ made WIDE
 rw[d7,bX,qP h]
 rfl
theorem dC{a b:Perm}(ha:a.length=16)(hb:b.length=16)(h:∀i,i<16->at_ a i=at_ b i):a=b:=by
 apply List.ext_getElem (by omega)
 intro i h1 h2
 have:=h i (by omega)
 unfold at_ at this
 rw[d7,d7,bu h1,bu h2]at this
 exact this
theorem Em{a:Perm}(ha:a.length=16):made (fun i=>at_ a i)=a:=
 dC (bJ _) ha fun i hi=>gZ hi
structure aw(a:Perm):Prop where
 len:a.length=16
 lt:∀i,i<16->at_ a i<16
 inj:∀i j,i<16->j<16->at_ a i=at_ a j->i=j
 fJ:∀v,v<16->∃i,i<16/\at_ a i=v
theorem aw.ne{a:Perm}(h:aw a){i j:Nat}(hi:i<16)(hj:j<16)(n:i≠j):at_ a i≠at_ a j:=fun e=>n (h.inj i j hi hj e)
theorem eN{i:Nat}(h:i<16):at_ still i=i:=gZ h
theorem dI:aw still:=⟨bJ _,fun i h=>by rw[eN h];exact h,fun i j hi hj e=>by rwa[eN hi,eN hj]at e,fun v hv=>⟨v,hv,eN hv⟩⟩
theorem cC{a b:Perm}{i:Nat}(h:i<16):at_ (then_ a b) i=at_ b (at_ a i):=gZ h
theorem aw.then_{a b:Perm}(ha:aw a)(hb:aw b):aw (then_ a b):=by
 refine⟨bJ _,fun i h=>?_,fun i j hi hj e=>?_,fun v hv=>?_⟩
 ·rw[cC h];exact hb.lt _ (ha.lt _ h)
 ·rw[cC hi,cC hj]at e
  exact ha.inj _ _ hi hj (hb.inj _ _ (ha.lt _ hi) (ha.lt _ hj) e)
 ·obtain⟨j,hj,ej⟩:=hb.fJ v hv
  obtain⟨i,hi,ei⟩:=ha.fJ j hj
  exact⟨i,hi,by rw[cC hi,ei,ej]⟩
theorem lJ{a:Perm}(ha:aw a){v:Nat}(hv:v<16):at_ (back a) v<16/\at_ a (at_ (back a) v)=v:=by
 rw[show at_ (back a) v=(a.findIdx? fun x=>x == v).getD 0 from gZ hv]
 obtain⟨i,hi,ei⟩:=ha.fJ v hv
 cases e:a.findIdx? fun x=>x == v with
 |none=>
  exfalso
  rw[List.findIdx?_eq_none_iff]at e
  have hl:i<a.length:=by rw[ha.len];exact hi
  have:=e a[i] (iY hl)
  unfold at_ at ei
  rw[d7,bu hl]at ei
  simp at ei this
  exact this ei
 |some k=>
  rw[List.findIdx?_eq_some_iff_getElem]at e
  obtain⟨hk,e1,_⟩:=e
  rw[ha.len]at hk
  refine⟨hk,?_⟩
  show at_ a k=v
  unfold at_
  rw[d7,bu (by rw[ha.len];exact hk)]
  simpa using e1
theorem g6{a:Perm}(ha:aw a){i:Nat}(hi:i<16):at_ (back a) (at_ a i)=i:=by
 have h:=lJ ha (ha.lt i hi)
 exact ha.inj _ _ h.1 hi h.2
theorem aw.back{a:Perm}(ha:aw a):aw (back a):=by
 refine⟨bJ _,fun i h=>(lJ ha h).1,fun i j hi hj e=>?_,fun v hv=>⟨at_ a v,ha.lt v hv,g6 ha hv⟩⟩
 rw[<-(lJ ha hi).2,<-(lJ ha hj).2,e]
theorem then_assoc{a b c:Perm}(ha:aw a):then_ (then_ a b) c=then_ a (then_ b c):=
 dC (bJ _) (bJ _) fun i hi=>by rw[cC hi,cC hi,cC hi,cC (ha.lt i hi)]
theorem fZ{a:Perm}(ha:aw a):then_ still a=a:=
 dC (bJ _) ha.len fun i hi=>by rw[cC hi,eN hi]
theorem dD{a:Perm}(ha:aw a):then_ a still=a:=
 dC (bJ _) ha.len fun i hi=>by rw[cC hi,eN (ha.lt i hi)]
theorem jR{a:Perm}(ha:aw a):then_ a (back a)=still:=
 dC (bJ _) (bJ _) fun i hi=>by rw[cC hi,g6 ha hi,eN hi]
theorem rS{a:Perm}(ha:aw a):then_ (back a) a=still:=
 dC (bJ _) (bJ _) fun i hi=>by rw[cC hi,(lJ ha hi).2,eN hi]
theorem Eo{a:Perm}(ha:aw a):back (back a)=a:=
 dC (bJ _) ha.len fun i hi=>by
  have h:=lJ ha.back hi
  have:=bO (at_ a) h.2
  rw[(lJ ha h.1).2]at this
  rw[this]
theorem c9{a b:Perm}(ha:aw a)(hb:aw b):then_ a (then_ (back a) b)=b:=by
 rw[<-then_assoc ha,jR ha,fZ hb]
theorem x5{a b:Perm}(ha:aw a)(hb:aw b):then_ (back a) (then_ a b)=b:=by
 rw[<-then_assoc ha.back,rS ha,fZ hb]
theorem jj{a b c:Perm}(ha:aw a)(hb:aw b)(hc:aw c)(e:then_ a b=then_ a c):b=c:=by
 rw[<-x5 ha hb,e,x5 ha hc]
def X(a:Perm)(i j:Nat):Prop:=(i<j/\at_ a j<at_ a i)\/(j<i/\at_ a i<at_ a j)
theorem X.symm{a:Perm}{i j:Nat}(h:X a i j):X a j i:=Or.symm h
theorem uY{a:Perm}{i:Nat}:¬X a i i:=by unfold X;omega
theorem x6{i j:Nat}(hi:i<16)(hj:j<16):¬X still i j:=by
 unfold X;rw[eN hi,eN hj];omega
theorem nE{a b:Perm}(ha:aw a)(hb:aw b){i j:Nat}(hi:i<16)(hj:j<16):
  X (then_ a b) i j↔((X a i j/\¬X b (at_ a i) (at_ a j))\/(¬X a i j/\X b (at_ a i) (at_ a j))):=by
 by_cases n:i=j
 ·subst n;unfold X;omega
 ·have h1:=ha.ne hi hj n
  have h2:=hb.ne (ha.lt i hi) (ha.lt j hj) h1
  unfold X;rw[cC hi,cC hj];omega
theorem nH{a:Perm}(ha:aw a){i j:Nat}(hi:i<16)(hj:j<16):X (back a) (at_ a i) (at_ a j)↔X a i j:=by
 unfold X;rw[g6 ha hi,g6 ha hj];omega
def Le(a b:Perm):Prop:=∀i j,i<16->j<16->X a i j->X b i j
theorem Le.refl(a:Perm):Le a a:=fun _ _ _ _ h=>h
theorem Le.trans{a b c:Perm}(h:Le a b)(k:Le b c):Le a c:=fun i j hi hj x=>k i j hi hj (h i j hi hj x)
theorem Le.still{b:Perm}:Le still b:=fun _ _ hi hj h=>(x6 hi hj h).elim
theorem x8{c:Perm}(hc:aw c)(h:∀i,i<15->at_ c i<at_ c (i+1)):c=still:=by
 have up:∀i,i<16->i<=at_ c i:=by
  intro i
  induction i with
  |zero=>intro _;omega
  |succ k ih=>intro hk;have:=ih (by omega);have:=h k (by omega);omega
 have dn:∀d i,i+d=15->at_ c i+d<=15:=by
  intro d
  induction d with
  |zero=>intro i e;have:=hc.lt i (by omega);omega
  |succ k ih=>intro i e;have:=ih (i+1) (by omega);have:=h i (by omega);omega
 refine dC hc.len (bJ _) fun i hi=>?_
 rw[eN hi]
 have:=up i hi;have:=dn (15 - i) i (by omega);omega
theorem x9{c:Perm}(hc:aw c)(n:c≠Wqaraq.still):∃i,i<15/\X c i (i+1):=by
 apply kZ
 intro k
 apply n
 apply x8 hc
 intro i hi
 have h1:¬X c i (i+1):=fun x=>k ⟨i,hi,x⟩
 have h2:=hc.ne (show i<16 by omega) (show i+1<16 by omega) (by omega)
 unfold X at h1;omega
theorem Le.antisymm{a b:Perm}(ha:aw a)(hb:aw b)(h:Le a b)(k:Le b a):a=b:=by
 have hc:=ha.back.then_ hb
 have e:then_ (Wqaraq.back a) b=Wqaraq.still:=by
  apply kZ
  intro n
  obtain⟨i,hi,x⟩:=x9 hc n
  obtain⟨p,hp,ep⟩:=ha.fJ i (by omega)
  obtain⟨q,hq,eq⟩:=ha.fJ (i+1) (by omega)
  rw[nE ha.back hb (by omega) (by omega),<-eq,<-ep,nH ha hp hq,g6 ha hp,g6 ha hq]at x
  rcases x with ⟨x,y⟩|⟨x,y⟩
  ·exact y (h p q hp hq x)
  ·exact x (k p q hp hq y)
 rw[<-c9 ha hb,e,dD ha]
def Red(a b:Perm):Prop:=∀i j,i<16->j<16->X a i j->¬X b (at_ a i) (at_ a j)
theorem Red.x{a b:Perm}(ha:aw a)(hb:aw b)(r:Red a b){i j:Nat}(hi:i<16)(hj:j<16):X (then_ a b) i j↔X a i j\/X b (at_ a i) (at_ a j):=by
 rw[nE ha hb hi hj]
 have:=r i j hi hj
 constructor
 ·rintro(⟨x,_⟩|⟨_,y⟩)
  ·exact .inl x
  ·exact .inr y
 ·rintro(x|y)
  ·exact .inl ⟨x,this x⟩
  ·exact .inr ⟨fun x=>this x y,y⟩
theorem Red.le{a b:Perm}(ha:aw a)(hb:aw b)(r:Red a b):Le a (then_ a b):=fun i j hi hj x=>(r.x ha hb hi hj).mpr (.inl x)
theorem Ep{a b:Perm}(ha:aw a)(hb:aw b)(h:Le a (then_ a b)):Red a b:=fun i j hi hj x y=>by
 have:=h i j hi hj x
 rw[nE ha hb hi hj]at this
 rcases this with ⟨_,z⟩|⟨z,_⟩
 ·exact z y
 ·exact z x
theorem Le.red{a c:Perm}(ha:aw a)(hc:aw c)(h:Le a c):Red a (then_ (Wqaraq.back a) c):=
 Ep ha (ha.back.then_ hc) (by rw[c9 ha hc];exact h)
theorem pM{a:Perm}(ha:aw a):Red a Wqaraq.still:=fun i j hi hj _ y=>x6 (ha.lt i hi) (ha.lt j hj) y
theorem Mm{a:Perm}:Red Wqaraq.still a:=fun _ _ hi hj x=>(x6 hi hj x).elim
theorem Red.assoc{a b c:Perm}(ha:aw a)(hb:aw b)(hc:aw c)(r:Red a b):Red (then_ a b) c↔Red b c/\Red a (then_ b c):=by
 constructor
 ·intro h
  have hbc:Red b c:=by
   intro i j hi hj x y
   obtain⟨p,hp,rfl⟩:=ha.fJ i hi
   obtain⟨q,hq,rfl⟩:=ha.fJ j hj
   refine h p q hp hq ((r.x ha hb hp hq).mpr (.inr x)) ?_
   rw[cC hp,cC hq];exact y
  refine⟨hbc,fun i j hi hj x y=>?_⟩
  rw[hbc.x hb hc (ha.lt i hi) (ha.lt j hj)]at y
  rcases y with y|y
  ·exact r i j hi hj x y
  ·refine h i j hi hj ((r.x ha hb hi hj).mpr (.inl x)) ?_
   rw[cC hi,cC hj];exact y
 ·rintro⟨hbc,h⟩ i j hi hj x y
  rw[cC hi,cC hj]at y
  rw[r.x ha hb hi hj]at x
  rcases x with x|x
  ·exact h i j hi hj x ((hbc.x hb hc (ha.lt i hi) (ha.lt j hj)).mpr (.inr y))
  ·exact hbc _ _ (ha.lt i hi) (ha.lt j hj) x y
theorem nI{a b c:Perm}(ha:aw a)(h:Le b c)(r:Red a c):Red a b:=fun i j hi hj x y=>r i j hi hj x (h _ _ (ha.lt i hi) (ha.lt j hj) y)
theorem iO{a b c:Perm}(ha:aw a)(hb:aw b)(hc:aw c)(h:Le b c)(r:Red a c):Le (then_ a b) (then_ a c):=by
 intro i j hi hj x
 rw[(nI ha h r).x ha hb hi hj]at x
 rw[r.x ha hc hi hj]
 rcases x with x|x
 ·exact .inl x
 ·exact .inr (h _ _ (ha.lt i hi) (ha.lt j hj) x)
theorem mH{a b c:Perm}(ha:aw a)(hb:aw b)(hc:aw c)(rb:Red a b)(rc:Red a c)(h:Le (then_ a b) (then_ a c)):Le b c:=by
 intro i j hi hj x
 obtain⟨p,hp,rfl⟩:=ha.fJ i hi
 obtain⟨q,hq,rfl⟩:=ha.fJ j hj
 have:=h p q hp hq ((rb.x ha hb hp hq).mpr (.inr x))
 rw[rc.x ha hc hp hq]at this
 rcases this with y|y
 ·exact(rb p q hp hq y x).elim
 ·exact y
end BB
end
section
namespace BB
open Wqaraq
theorem rT:∀(n:Nat) (f:Nat->Nat),(∀i,i<n->f i<n)->(∀i j,i<n->j<n->f i=f j->i=j)->∀v,v<n->∃i,i<n/\f i=v
 |0,f,h,k,v,hv=>by omega
 |n+1,f,h,k,v,hv=>by
  by_cases e:∃p,p<n/\f p=n
  ·obtain⟨p,hp,ep⟩:=e
   have hn:f n<n:=by
    have:=h n (by omega)
    have:f n≠n:=fun q=>by have:=k p n (by omega) (by omega) (by omega);omega
    omega
   let g:Nat->Nat:=fun i=>if i=p then f n else f i
   have ih:=rT n g (fun i hi=>by
    show (if i=p then f n else f i)<n
    split
    ·exact hn
    ·rename_i q
     have:=h i (by omega)
     have:f i≠n:=fun z=>q (k i p (by omega) (by omega) (by omega))
     omega) (fun i j hi hj z=>by
    have z:(if i=p then f n else f i)=(if j=p then f n else f j):=z
    split at z<;>split at z
    ·omega
    ·have:=k n j (by omega) (by omega) z;omega
    ·have:=k i n (by omega) (by omega) z;omega
    ·exact k i j (by omega) (by omega) z)
   by_cases hvn:v=n
   ·exact⟨p,by omega,by omega⟩
   ·obtain⟨i,hi,ei⟩:=ih v (by omega)
    have ei:(if i=p then f n else f i)=v:=ei
    split at ei
    ·exact⟨n,by omega,ei⟩
    ·exact⟨i,by omega,ei⟩
  ·have ih:=rT n f (fun i hi=>by
    have:=h i (by omega)
    have:f i≠n:=fun z=>e ⟨i,hi,z⟩
    omega) (fun i j hi hj z=>k i j (by omega) (by omega) z)
   by_cases hfn:f n=n
   ·by_cases hvn:v=n
    ·exact⟨n,by omega,by omega⟩
    ·obtain⟨i,hi,ei⟩:=ih v (by omega)
     exact⟨i,by omega,ei⟩
   ·have:=h n (by omega)
    obtain⟨i,hi,ei⟩:=ih (f n) (by omega)
    have:=k i n (by omega) (by omega) ei
    omega
theorem x_{n:Nat}{f:Nat->Nat}(h:∀v,v<n->∃i,i<n/\f i=v):(∀i,i<n->f i<n)/\∀i j,i<n->j<n->f i=f j->i=j:=by
 let g:Nat->Nat:=fun v=>if hv:v<n then (h v hv).choose else 0
 have hg:∀v,v<n->g v<n/\f (g v)=v:=fun v hv=>by
  show (if hv:v<n then (h v hv).choose else 0)<n/\f (if hv:v<n then (h v hv).choose else 0)=v
  rw[dif_pos hv];exact(h v hv).choose_spec
 have gs:=rT n g (fun i hi=>(hg i hi).1) (fun i j hi hj e=>by rw[<-(hg i hi).2,<-(hg j hj).2,e])
 constructor
 ·intro i hi
  obtain⟨v,hv,rfl⟩:=gs i hi
  rw[(hg v hv).2];exact hv
 ·intro i j hi hj e
  obtain⟨u,hu,rfl⟩:=gs i hi
  obtain⟨v,hv,rfl⟩:=gs j hj
  rw[(hg u hu).2,(hg v hv).2]at e
  rw[e]
theorem uZ{a:Perm}(l:a.length=16)(h:∀i,i<16->at_ a i<16)(k:∀i j,i<16->j<16->at_ a i=at_ a j->i=j):aw a:=⟨l,h,k,rT 16 (at_ a) h k⟩
theorem Mn{a:Perm}(l:a.length=16)(h:∀v,v<16->∃i,i<16/\at_ a i=v):aw a:=⟨l,(x_ h).1,(x_ h).2,h⟩
theorem rV{α:Type}{p q:α->Bool}:∀{l:List α},(∀x,x∈l->p x=true->q x=true)->(∃y,y∈l/\q y=true/\p y=false)->l.countP p<l.countP q
 |[],_,⟨y,hy,_⟩=>by cases hy
 |a::l,h,⟨y,hy,q1,p1⟩=>by
  rw[jD,jD]
  have le:l.countP p<=l.countP q:=List.countP_mono_left fun x hx=>h x (bH _ hx)
  cases hy with
  |head=>rw[p1,q1];simp only [if_true,Bool.false_eq_true,if_false];omega
  |tail _ hy=>
   have ih:=rV (p:=p) (q:=q) (fun x hx=>h x (bH _ hx)) ⟨y,hy,q1,p1⟩
   have:=h a (bE ..)
   cases e:p a
   ·simp only [Bool.false_eq_true,if_false];omega
   ·rw[this e];simp only [if_true];omega
def cnt(p:Nat->Bool):Nat:=(List.range 16).countP p
theorem Er{p q:Nat->Bool}(h:∀x,x<16->p x=true->q x=true):cnt p<=cnt q:=List.countP_mono_left fun x hx=>h x (a6.mp hx)
theorem lK{p q:Nat->Bool}(h:∀x,x<16->p x=q x):cnt p=cnt q:=Nat.le_antisymm (Er fun x hx e=>by rw[<-h x hx];exact e) (Er fun x hx e=>by rw[h x hx];exact e)
theorem yc{p q:Nat->Bool}(h:∀x,x<16->p x=true->q x=true){y:Nat}(hy:y<16)(q1:q y=true)(p1:p y=false):cnt p<cnt q:=
 rV (fun x hx=>h x (a6.mp hx)) ⟨y,a6.mpr hy,q1,p1⟩
theorem Mo{i:Nat}(h:i<=16):cnt (fun j=>decide (j<i))=i:=by
 have:∀i,i<17->cnt (fun j=>decide (j<i))=i:=by decide
 exact this i (by omega)
theorem Mp:cnt (fun _=>true)=16:=by decide
theorem u0{p q:Nat->Bool}:cnt p=cnt (fun x=>p x&&q x)+cnt (fun x=>p x&& !q x):=by
 unfold cnt
 induction List.range 16 with
 |nil=>rfl
 |cons a l ih=>
  rw[jD,jD,jD,ih]
  cases p a<;>cases q a<;>simp<;>omega
structure Bi(R:Nat->Nat->Prop):Prop where
 tr:∀i j k,i<j->j<k->k<16->R i j->R j k->R i k
 co:∀i j k,i<j->j<k->k<16->R i k->R i j\/R j k
def gN(R:Nat->Nat->Prop)(i j:Nat):Prop:=(i<j/\¬R i j)\/(j<i/\R j i)
open Classical in
noncomputable def nJ(R:Nat->Nat->Prop):Perm:=made fun i=>cnt fun j=>decide (gN R j i)
theorem Bi.trans{R:Nat->Nat->Prop}(B:Bi R){i j k:Nat}(hi:i<16)(hj:j<16)(hk:k<16)(h:gN R i j)(g:gN R j k):gN R i k:=by
 unfold gN at *
 have t1:=B.tr i j k;have t2:=B.co i j k
 have t3:=B.tr i k j;have t4:=B.co i k j
 have t5:=B.tr j i k;have t6:=B.co j i k
 have t7:=B.tr j k i;have t8:=B.co j k i
 have t9:=B.tr k i j;have t10:=B.co k i j
 have t11:=B.tr k j i;have t12:=B.co k j i
 rcases h with ⟨h1,h2⟩|⟨h1,h2⟩<;>rcases g with ⟨g1,g2⟩|⟨g1,g2⟩
 ·exact .inl ⟨by omega,fun r=>(t2 h1 g1 hk r).elim h2 g2⟩
 ·rcases Nat.lt_trichotomy i k with c|c|c
  ·exact .inl ⟨c,fun r=>h2 (t3 c g1 hj r g2)⟩
  ·subst c;exact(h2 g2).elim
  ·exact .inr ⟨c,(t10 c h1 hj g2).elim (fun r=>r) fun r=>(h2 r).elim⟩
 ·rcases Nat.lt_trichotomy i k with c|c|c
  ·exact .inl ⟨c,fun r=>g2 (t5 h1 c hk h2 r)⟩
  ·subst c;exact(g2 h2).elim
  ·exact .inr ⟨c,(t8 g1 c hi h2).elim (fun r=>(g2 r).elim) fun r=>r⟩
 ·exact .inr ⟨by omega,t11 g1 h1 hi g2 h2⟩
open Classical in
theorem Bi.lt{R:Nat->Nat->Prop}(B:Bi R){i j:Nat}(hi:i<16)(hj:j<16)(h:gN R i j):at_ (nJ R) i<at_ (nJ R) j:=by
 unfold nJ
 rw[gZ hi,gZ hj]
 refine yc (fun x hx e=>?_) hi ?_ ?_
 ·rw[gH]at *; exact B.trans hx hi hj e h
 ·rw[gH];exact h
 ·rw[decide_eq_false_iff_not];unfold gN;omega
theorem Es{R:Nat->Nat->Prop}{i j:Nat}(n:i≠j):gN R i j\/gN R j i:=by
 unfold gN
 rcases Nat.lt_or_gt_of_ne n with h|h
 ·by_cases r:R i j
  ·exact .inr (.inr ⟨h,r⟩)
  ·exact .inl (.inl ⟨h,r⟩)
 ·by_cases r:R j i
  ·exact .inl (.inr ⟨h,r⟩)
  ·exact .inr (.inl ⟨h,r⟩)
open Classical in
theorem Bi.aa{R:Nat->Nat->Prop}(B:Bi R):aw (nJ R):=by
 refine uZ (bJ _) (fun i hi=>?_) (fun i j hi hj e=>?_)
 ·unfold nJ
  rw[gZ hi,<-Mp]
  refine yc (fun x hx _=>rfl) hi rfl ?_
  rw[decide_eq_false_iff_not];unfold gN;omega
 ·apply kZ
  intro n
  rcases Es (R:=R) n with h|h
  ·have:=B.lt hi hj h;omega
  ·have:=B.lt hj hi h;omega
theorem Bi.x{R:Nat->Nat->Prop}(B:Bi R){i j:Nat}(hj:j<16)(h:i<j):X (nJ R) i j↔R i j:=by
 have t:gN R i j\/gN R j i:=Es (by omega)
 constructor
 ·intro x
  unfold X at x
  rcases t with t|t
  ·have:=B.lt (by omega) hj t;omega
  ·unfold gN at t
   rcases t with ⟨t,_⟩|⟨_,t⟩
   ·omega
   ·exact t
 ·intro r
  have:=B.lt hj (by omega) (show gN R j i from .inr ⟨h,r⟩)
  unfold X;omega
theorem yd{a:Perm}(ha:aw a):Bi fun i j=>X a i j:=by
 constructor
 ·intro i j k h1 h2 h3;unfold X;omega
 ·intro i j k h1 h2 h3
  have:=ha.ne (show i<16 by omega) (show j<16 by omega) (by omega)
  have:=ha.ne (show j<16 by omega) (show k<16 by omega) (by omega)
  unfold X;omega
theorem le_of_lt{a b:Perm}(h:∀i j,i<j->j<16->X a i j->X b i j):Le a b:=by
 intro i j hi hj x
 rcases Nat.lt_trichotomy i j with c|c|c
 ·exact h i j c hj x
 ·subst c;exact(uY x).elim
 ·exact(h j i c hi x.symm).symm
inductive TC(R:Nat->Nat->Prop):Nat->Nat->Prop
 |one {i j:Nat}:R i j->TC R i j
 |step {i j k:Nat}:R i j->TC R j k->TC R i k
theorem TC.trans{R:Nat->Nat->Prop}{i j k:Nat}(h:TC R i j)(g:TC R j k):TC R i k:=by
 induction h with
 |one r=>exact .step r g
 |step r _ ih=>exact .step r (ih g)
def kq(a b:Perm)(i j:Nat):Prop:=i<j/\j<16/\(X a i j\/X b i j)
theorem ye{a b:Perm}{i j:Nat}(h:TC (kq a b) i j):i<j/\j<16:=by
 induction h with
 |one r=>exact⟨r.1,r.2.1⟩
 |step r _ ih=>exact⟨Nat.lt_trans r.1 ih.1,ih.2⟩
theorem Et{a b:Perm}(ha:aw a)(hb:aw b){i j k:Nat}(h:kq a b i k)(h1:i<j)(h2:j<k):kq a b i j\/kq a b j k:=by
 obtain⟨_,h3,x|x⟩:=h
 ·rcases(yd ha).co i j k h1 h2 h3 x with y|y
  ·exact .inl ⟨h1,by omega,.inl y⟩
  ·exact .inr ⟨h2,h3,.inl y⟩
 ·rcases(yd hb).co i j k h1 h2 h3 x with y|y
  ·exact .inl ⟨h1,by omega,.inr y⟩
  ·exact .inr ⟨h2,h3,.inr y⟩
theorem pN{a b:Perm}(ha:aw a)(hb:aw b):Bi (TC (kq a b)):=by
 refine⟨fun i j k _ _ _ h g=>h.trans g,fun i j k h1 h2 h3 h=>?_⟩
 induction h with
 |one r=>
  rcases Et ha hb r h1 h2 with y|y
  ·exact .inl (.one y)
  ·exact .inr (.one y)
 |step r t ih=>
  rename_i i m k
  rcases Nat.lt_trichotomy j m with c|c|c
  ·rcases Et ha hb r h1 c with y|y
   ·exact .inl (.one y)
   ·exact .inr (.step y t)
  ·subst c;exact .inl (.one r)
  ·rcases ih c h2 h3 with y|y
   ·exact .inl (.step r y)
   ·exact .inr y
noncomputable def jn(a b:Perm):Perm:=nJ (TC (kq a b))
theorem nM{a b:Perm}(ha:aw a)(hb:aw b):aw (jn a b):=(pN ha hb).aa
theorem yf{a b:Perm}(ha:aw a)(hb:aw b):Le a (jn a b):=le_of_lt fun i j h hj x=>((pN ha hb).x hj h).mpr (.one ⟨h,hj,.inl x⟩)
theorem yg{a b:Perm}(ha:aw a)(hb:aw b):Le b (jn a b):=le_of_lt fun i j h hj x=>((pN ha hb).x hj h).mpr (.one ⟨h,hj,.inr x⟩)
theorem Mq{a b c:Perm}(hc:aw c)(h:Le a c)(k:Le b c){i j:Nat}(t:TC (kq a b) i j):X c i j:=by
 induction t with
 |one r=>
  have:=r.1;have:=r.2.1
  rcases r.2.2 with x|x
  ·exact h _ _ (by omega) (by omega) x
  ·exact k _ _ (by omega) (by omega) x
 |step r t ih=>
  have:=r.1;have:=r.2.1;have:=ye t
  refine(yd hc).tr _ _ _ r.1 (ye t).1 (ye t).2 ?_ ih
  rcases r.2.2 with x|x
  ·exact h _ _ (by omega) (by omega) x
  ·exact k _ _ (by omega) (by omega) x
theorem rW{a b c:Perm}(ha:aw a)(hb:aw b)(hc:aw c)(h:Le a c)(k:Le b c):Le (jn a b) c:=
 le_of_lt fun i j g hj x=>Mq hc h k (((pN ha hb).x hj g).mp x)
end BB
end
section
namespace BB
open Wqaraq
theorem jS{i j:Nat}{a:Perm}(hj:j<16):at_ (exchanged i a) j=if j=i then at_ a (i+1) else if j=i+1 then at_ a i else at_ a j:=gZ hj
theorem rX{i j:Nat}(hi:i<15)(hj:j<16):at_ (single i) j=if j=i then i+1 else if j=i+1 then i else j:=by
 unfold single
 rw[jS hj,eN (show i+1<16 by omega),eN (show i<16 by omega),eN hj]
theorem lL{i j:Nat}(hi:i<15)(hj:j<16):(j=i/\at_ (single i) j=i+1)\/(j=i+1/\at_ (single i) j=i)\/(j≠i/\j≠i+1/\at_ (single i) j=j):=by
 rw[rX hi hj]
 by_cases h1:j=i
 ·exact .inl ⟨h1,af h1⟩
 ·by_cases h2:j=i+1
  ·exact .inr (.inl ⟨h2,by rw[ae h1,af h2]⟩)
  ·exact .inr (.inr ⟨h1,h2,by rw[ae h1,ae h2]⟩)
theorem iP{i:Nat}(hi:i<15):aw (single i):=by
 refine uZ (bJ _) (fun j hj=>?_) (fun j k hj hk e=>?_)
 ·have:=lL hi hj;omega
 ·have:=lL hi hj;have:=lL hi hk;omega
theorem yh{i j:Nat}(hi:i<15)(hj:j<16):at_ (single i) (at_ (single i) j)=j:=by
 have h1:=lL hi hj
 have h2:=lL hi ((iP hi).lt j hj)
 omega
theorem iQ{i:Nat}{a:Perm}(hi:i<15):exchanged i a=then_ (single i) a:=
 dC (bJ _) (bJ _) fun j hj=>by
  rw[jS hj,cC hj,rX hi hj]
  split
  ·rfl
  ·split<;>rfl
theorem u1{i j k:Nat}(hi:i<15)(hj:j<16)(hk:k<16):X (single i) j k↔(j=i/\k=i+1)\/(k=i/\j=i+1):=by
 have h1:=lL hi hj
 have h2:=lL hi hk
 unfold X;omega
theorem pO{i:Nat}{a:Perm}(hi:i<15):Le (single i) a↔X a i (i+1):=by
 constructor
 ·intro h;exact h i (i+1) (by omega) (by omega) ((u1 hi (by omega) (by omega)).mpr (.inl ⟨rfl,rfl⟩))
 ·intro x j k hj hk y
  rcases(u1 hi hj hk).mp y with ⟨rfl,rfl⟩|⟨rfl,rfl⟩
  ·exact x
  ·exact x.symm
theorem rY{i:Nat}(hi:i<15):back (single i)=single i:=by
 have hs:=iP hi
 have e:then_ (single i) (single i)=still:=dC (bJ _) (bJ _) fun j hj=>by
  rw[cC hj,yh hi hj,eN hj]
 exact jj hs hs.back hs (by rw[jR hs,e])
theorem cV{a:Perm}{i j:Nat}(h:i<j):cross a (i,j)=true↔X a i j:=by
 unfold cross X;rw[gH];show at_ a j<at_ a i↔_;omega
theorem jk{w:Row}{i:Nat}(h:i<16):at_ (follow w) i=w.foldl (fun x c=>swapped c x) i:=gZ h
theorem rZ:follow []=still:=rfl
theorem u4{c:Int}{x:Nat}(h:x<16):swapped c x<16:=by
 unfold swapped crossing WIDE
 split
 ·rename_i e
  simp at e
  split
  ·omega
  ·split<;>omega
 ·exact h
theorem Mr{i x:Nat}(hi:i<15)(hx:x<16):swapped (((i+1:Nat):Int)) x=at_ (single i) x:=by
 unfold swapped crossing WIDE
 rw[rX hi hx,af (by simp;omega)]
 simp only [Int.natAbs_natCast,Nat.add_sub_cancel]
theorem Eu{w:Row}{i:Nat}(hi:i<15):follow (((i+1:Nat):Int)::w)=then_ (single i) (follow w):=
 dC (bJ _) (bJ _) fun j hj=>by
  rw[jk hj,gG,Mr hi hj,cC hj,jk ((iP hi).lt j hj)]
theorem yi{c:Int}{x:Nat}(h:x<16):swapped c (swapped c x)=x:=by
 unfold swapped crossing WIDE
 split
 ·rename_i e
  simp at e
  by_cases h1:x=c.natAbs - 1<;>by_cases h2:x=c.natAbs<;>simp[h1,h2]<;>omega
 ·rfl
theorem gO:∀(w:Row),aw (follow w):=by
 intro w
 have lt:∀(w:Row) (x:Nat),x<16->w.foldl (fun x c=>swapped c x) x<16:=by
  intro w
  induction w with
  |nil=>intro x h;exact h
  |cons c w ih=>intro x h;rw[gG];exact ih _ (u4 h)
 have inj:∀(w:Row) (x y:Nat),x<16->y<16->w.foldl (fun x c=>swapped c x) x=w.foldl (fun x c=>swapped c x) y->x=y:=by
  intro w
  induction w with
  |nil=>intro x y _ _ e;exact e
  |cons c w ih=>
   intro x y hx hy e
   rw[gG,gG]at e
   have:=ih _ _ (u4 hx) (u4 hy) e
   rw[<-yi (c:=c) hx,<-yi (c:=c) hy,this]
 exact uZ (bJ _) (fun i hi=>by rw[jk hi];exact lt w i hi) (fun i j hi hj e=>by rw[jk hi,jk hj]at e;exact inj w i j hi hj e)
theorem pP{v w:Row}:follow (v++w)=then_ (follow v) (follow w):=
 dC (bJ _) (bJ _) fun j hj=>by
  rw[jk hj,jE,cC hj,jk ((gO v).lt j hj),jk hj]
def size(a:Perm):Nat:=pairs.countP fun x=>cross (back a) x
theorem nO{i j:Nat}:(i,j)∈pairs↔i<j/\j<16:=by
 unfold pairs WIDE
 simp only [List.mem_flatMap,a6,bW,iX,gH,Prod.mk.injEq]
 constructor
 ·rintro⟨a,_,b,⟨h1,h2⟩,rfl,rfl⟩;exact⟨h2,h1⟩
 ·rintro⟨h1,h2⟩;exact⟨i,by omega,j,⟨h2,h1⟩,rfl,rfl⟩
theorem Mt:∀x,x∈pairs->x.1<x.2/\x.2<16:=fun x h=>(nO (i:=x.1) (j:=x.2)).mp h
theorem size_le(a:Perm):size a<=120:=cz List.countP_le_length (by decide+kernel)
theorem nP{i:Nat}{a:Perm}(ha:aw a)(hi:i<15)(x:X a i (i+1)):size (exchanged i a)<size a:=by
 have hs:=iP hi
 have he:aw (exchanged i a):=by rw[iQ hi];exact hs.then_ ha
 have ea:then_ (single i) (exchanged i a)=a:=by
  have:=c9 hs ha
  rw[rY hi]at this
  rw[iQ hi];exact this
 have key:∀p q,p<16->q<16->X (back (exchanged i a)) p q->X (back a) p q:=by
  intro p q hp hq y
  obtain⟨u,hu,rfl⟩:=ha.fJ p hp
  obtain⟨v,hv,rfl⟩:=ha.fJ q hq
  rw[nH ha hu hv]
  have e1:at_ a u=at_ (exchanged i a) (at_ (single i) u):=by rw[<-cC hu,ea]
  have e2:at_ a v=at_ (exchanged i a) (at_ (single i) v):=by rw[<-cC hv,ea]
  rw[e1,e2,nH he (hs.lt u hu) (hs.lt v hv)]at y
  rw[iQ hi,nE hs ha (hs.lt u hu) (hs.lt v hv)]at y
  rw[yh hi hu,yh hi hv]at y
  rcases y with ⟨y1,y2⟩|⟨_,y⟩
  ·exfalso;apply y2
   rw[u1 hi (hs.lt u hu) (hs.lt v hv)]at y1
   have h1:=lL hi hu
   have h2:=lL hi hv
   have h3:(u=i/\v=i+1)\/(v=i/\u=i+1):=by omega
   rcases h3 with ⟨rfl,rfl⟩|⟨rfl,rfl⟩
   ·exact x
   ·exact x.symm
  ·exact y
 unfold size
 apply rV
 ·intro z hz e
  have:=Mt z hz
  have h1:cross (back (exchanged i a)) (z.1,z.2)=true:=e
  rw[cV this.1]at h1
  exact(cV this.1).mpr (key _ _ (by omega) (by omega) h1)
 ·have x':at_ a (i+1)<at_ a i:=by unfold X at x;omega
  refine⟨(at_ a (i+1),at_ a i),nO.mpr ⟨x',ha.lt i (by omega)⟩,?_,?_⟩
  ·rw[cV x',nH ha (by omega) (by omega)];exact x.symm
  ·rw[Bool.eq_false_iff]
   intro e
   rw[cV x']at e
   have e1:at_ a (i+1)=at_ (exchanged i a) i:=by rw[jS (by omega)];simp
   have e2:at_ a i=at_ (exchanged i a) (i+1):=by rw[jS (by omega)];simp
   rw[e1,e2,nH he (by omega) (by omega)]at e
   unfold X at e
   rw[<-e1,<-e2]at e
   omega
structure pQ(a b m:Perm):Prop where
 aa:aw m
 left:Le m a
 right:Le m b
 most:∀x,aw x->Le x a->Le x b->Le x m
theorem pQ.unique{a b m k:Perm}(h:pQ a b m)(g:pQ a b k):m=k:=
 Le.antisymm h.aa g.aa (g.most m h.aa h.left h.right) (h.most k g.aa g.left g.right)
theorem Ew:∀(f:Nat) (a b:Perm),aw a->aw b->size a<f->pQ a b (follow (meetRow f a b))
 |0,a,b,_,_,h=>by omega
 |f+1,a,b,ha,hb,h=>by
  unfold meetRow
  split
  ·rename_i e
   rw[List.find?_eq_none]at e
   rw[rZ]
   refine⟨dI,Le.still,Le.still,fun x hx xa xb=>?_⟩
   by_cases n:x=still
   ·rw[n];exact Le.refl _
   ·obtain⟨i,hi,y⟩:=x9 hx n
    exfalso
    apply e i (a6.mpr hi)
    rw[br,cV (by omega),cV (by omega)]
    exact⟨xa _ _ (by omega) (by omega) y,xb _ _ (by omega) (by omega) y⟩
  ·rename_i i e
   have hi:i<15:=a6.mp (qQ e)
   have c:=qR e
   rw[br,cV (by omega),cV (by omega)]at c
   have hs:=iP hi
   have ea:exchanged i a=then_ (back (single i)) a:=by rw[iQ hi,rY hi]
   have eb:exchanged i b=then_ (back (single i)) b:=by rw[iQ hi,rY hi]
   have pa:aw (exchanged i a):=by rw[ea];exact hs.back.then_ ha
   have pb:aw (exchanged i b):=by rw[eb];exact hs.back.then_ hb
   have ih:=Ew f (exchanged i a) (exchanged i b) pa pb (by have:=nP ha hi c.1;omega)
   rw[Eu hi]
   have ca:then_ (single i) (exchanged i a)=a:=by rw[ea,c9 hs ha]
   have cb:then_ (single i) (exchanged i b)=b:=by rw[eb,c9 hs hb]
   have ra:Red (single i) (exchanged i a):=by rw[ea];exact((pO hi).mpr c.1).red hs ha
   have rb:Red (single i) (exchanged i b):=by rw[eb];exact((pO hi).mpr c.2).red hs hb
   refine⟨hs.then_ ih.aa,?_,?_,fun x hx xa xb=>?_⟩
   ·have:=iO hs ih.aa pa ih.left ra
    rwa[ca]at this
   ·have:=iO hs ih.aa pb ih.right rb
    rwa[cb]at this
   ·have hj:=nM hs hx
    have ja:=rW hs hx ha ((pO hi).mpr c.1) xa
    have jb:=rW hs hx hb ((pO hi).mpr c.2) xb
    have rj:=(yf hs hx).red hs hj
    have hy:=hs.back.then_ hj
    have ey:=c9 hs hj
    have ya:Le (then_ (back (single i)) (jn (single i) x)) (exchanged i a):=mH hs hy pa rj ra (by rw[ey,ca];exact ja)
    have yb:Le (then_ (back (single i)) (jn (single i) x)) (exchanged i b):=mH hs hy pb rj rb (by rw[ey,cb];exact jb)
    have ym:=ih.most _ hy ya yb
    have:=iO hs hy ih.aa ym (nI hs ih.left ra)
    rw[ey]at this
    exact(yg hs hx).trans this
theorem Mu(f:Nat)(a b:Perm)(ha:aw a)(hb:aw b)(h:size a<=f):meetRow (f+1) a b=meetRow f a b:=by
 induction f generalizing a b with
 |zero=>
  unfold meetRow
  split
  ·rfl
  ·rename_i i e
   have hi:i<15:=a6.mp (qQ e)
   have c:=qR e
   rw[br,cV (by omega),cV (by omega)]at c
   have:=nP ha hi c.1;omega
 |succ f ih=>
  rw[meetRow,meetRow]
  split
  ·rfl
  ·rename_i i e
   have hi:i<15:=a6.mp (qQ e)
   have c:=qR e
   rw[br,cV (by omega),cV (by omega)]at c
   have hs:=iP hi
   rw[ih (exchanged i a) (exchanged i b) (by rw[iQ hi];exact hs.then_ ha) (by rw[iQ hi];exact hs.then_ hb) (by have:=nP ha hi c.1;omega)]
theorem d_{a b:Perm}(ha:aw a)(hb:aw b):pQ a b (meetOf a b):=by
 have:=Ew 121 a b ha hb (by have:=size_le a;omega)
 rw[Mu 120 a b ha hb (size_le a)]at this
 exact this
theorem u5{a b m:Perm}(ha:aw a)(hb:aw b)(h:pQ a b m):meetOf a b=m:=(d_ ha hb).unique h
end BB
end
section
namespace BB
open Wqaraq
structure Rt(n:Nat)(a:Perm):Prop where
 aa:aw a
 fix:∀i,n<=i->i<16->at_ a i=i
theorem Rt.x{n:Nat}{a:Perm}(h:Rt n a){i j:Nat}(hi:i<16)(hj:j<16)(x:X a i j):i<n/\j<n:=by
 have f1:=h.fix i;have f2:=h.fix j
 have g1:=h.fix (at_ a i);have g2:=h.fix (at_ a j)
 have l1:=h.aa.lt i hi;have l2:=h.aa.lt j hj
 have k1:=h.aa.inj (at_ a i) i l1 hi;have k2:=h.aa.inj (at_ a j) j l2 hj
 unfold X at x;omega
theorem jT{n:Nat}:Rt n still:=⟨dI,fun i _ h=>eN h⟩
theorem Rt.lt{n:Nat}{a:Perm}(h:Rt n a)(hn:n<=16){i:Nat}(hi:i<n):at_ a i<n:=by
 have g:=h.fix (at_ a i)
 have l:=h.aa.lt i (by omega)
 have k:=h.aa.inj (at_ a i) i l (by omega)
 omega
theorem Rt.then_{n:Nat}{a b:Perm}(ha:Rt n a)(hb:Rt n b):Rt n (then_ a b):=
 ⟨ha.aa.then_ hb.aa,fun i h1 h2=>by rw[cC h2,ha.fix i h1 h2,hb.fix i h1 h2]⟩
theorem Rt.back{n:Nat}{a:Perm}(ha:Rt n a):Rt n (back a):=
 ⟨ha.aa.back,fun i h1 h2=>by
  have:=g6 ha.aa h2
  rwa[ha.fix i h1 h2]at this⟩
theorem Mv{n:Nat}{a:Perm}(ha:aw a)(h:∀i j,i<16->j<16->X a i j->i<n/\j<n):Rt n a:=by
 refine⟨ha,?_⟩
 have inc:∀i j,i<j->n<=j->j<16->at_ a i<at_ a j:=fun i j h1 h2 h3=>by
  have:=h i j (by omega) h3
  have:=ha.ne (show i<16 by omega) h3 (by omega)
  unfold X at *; omega
 have low:∀d,n+d<16->n+d<=at_ a (n+d):=by
  intro d
  induction d with
  |zero=>
   intro hn
   apply kZ
   intro k
   obtain⟨j,hj,ej⟩:=rT n (at_ a) (fun i hi=>by have:=inc i (n+0) (by omega) (by omega) hn;omega) (fun i j hi hj e=>ha.inj i j (by omega) (by omega) e) (at_ a (n+0)) (by omega)
   have:=ha.inj j (n+0) (by omega) hn ej
   omega
  |succ d ih=>intro hd;have:=ih (by omega);have:=inc (n+d) (n+(d+1)) (by omega) (by omega) hd;omega
 have high:∀d i,n<=i->i+d=15->at_ a i+d<=15:=by
  intro d
  induction d with
  |zero=>intro i _ e;have:=ha.lt i (by omega);omega
  |succ d ih=>intro i h1 e;have:=ih (i+1) (by omega) (by omega);have:=inc i (i+1) (by omega) (by omega) (by omega);omega
 intro i h1 h2
 have:=low (i - n) (by omega)
 rw[show n+(i - n)=i by omega]at this
 have:=high (15 - i) i h1 (by omega)
 omega
theorem Rt.of_le{n:Nat}{a b:Perm}(ha:aw a)(hb:Rt n b)(h:Le a b):Rt n a:=Mv ha fun i j hi hj x=>hb.x hi hj (h i j hi hj x)
theorem u6{n i:Nat}(h:i<16):at_ (delta n) i=if i<n then n - 1 - i else i:=gZ h
theorem ku{n i:Nat}(h:i<16):(i<n/\at_ (delta n) i=n - 1 - i)\/(n<=i/\at_ (delta n) i=i):=by
 rw[u6 h]
 by_cases c:i<n
 ·exact .inl ⟨c,af c⟩
 ·exact .inr ⟨by omega,ae c⟩
theorem bV{n:Nat}(hn:n<=16):Rt n (delta n):=by
 refine⟨uZ (bJ _) (fun i hi=>?_) (fun i j hi hj e=>?_),fun i h1 h2=>?_⟩
 ·have:=ku (n:=n) hi;omega
 ·have:=ku (n:=n) hi;have:=ku (n:=n) hj;omega
 ·have:=ku (n:=n) h2;omega
theorem yj{n i j:Nat}(hi:i<16)(hj:j<16):X (delta n) i j↔i<n/\j<n/\i≠j:=by
 have:=ku (n:=n) hi;have:=ku (n:=n) hj
 unfold X;omega
theorem Rt.pR{n:Nat}{a:Perm}(h:Rt n a):Le a (delta n):=fun i j hi hj x=>by
 have:=h.x hi hj x
 rw[yj hi hj]
 exact⟨this.1,this.2,fun e=>by subst e;exact uY x⟩
theorem Rt.rest{n:Nat}(hn:n<=16){a:Perm}(h:Rt n a):Rt n (rest n a):=h.back.then_ (bV hn)
theorem kx{n:Nat}(hn:n<=16){a:Perm}(h:Rt n a):then_ a (rest n a)=delta n:=c9 h.aa (bV hn).aa
theorem eg{n:Nat}(hn:n<=16){a b:Perm}(ha:Rt n a)(hb:Rt n b):Red a b↔Le b (rest n a):=by
 have hD:=bV hn
 constructor
 ·intro r i j hi hj x
  obtain⟨p,hp,rfl⟩:=ha.aa.fJ i hi
  obtain⟨q,hq,rfl⟩:=ha.aa.fJ j hj
  have lt:=hb.x hi hj x
  unfold Wqaraq.rest
  rw[nE ha.aa.back hD.aa hi hj,nH ha.aa hp hq,g6 ha.aa hp,g6 ha.aa hq]
  refine .inr ⟨fun y=>r p q hp hq y x,?_⟩
  rw[yj hp hq]
  refine⟨?_,?_,fun e=>by subst e;exact uY x⟩
  ·have:=ha.fix p;omega
  ·have:=ha.fix q;omega
 ·intro h p q hp hq x y
  have:=h _ _ (ha.aa.lt p hp) (ha.aa.lt q hq) y
  unfold Wqaraq.rest at this
  rw[nE ha.aa.back hD.aa (ha.aa.lt p hp) (ha.aa.lt q hq),nH ha.aa hp hq,g6 ha.aa hp,g6 ha.aa hq]at this
  rcases this with ⟨_,z⟩|⟨z,_⟩
  ·exact z (ha.pR p q hp hq x)
  ·exact z x
def hand(n:Nat)(a c:Perm):Perm:=meetOf (rest n a) c
section
variable{n:Nat}(hn:n<=16)
include hn
theorem c_{a c:Perm}(ha:Rt n a)(hc:Rt n c):Rt n (hand n a c):=by
 have g:=d_ (ha.rest hn).aa hc.aa
 exact Rt.of_le g.aa hc g.right
theorem gz{a c:Perm}(ha:Rt n a)(hc:Rt n c):Le (hand n a c) c:=(d_ (ha.rest hn).aa hc.aa).right
theorem f9{a c:Perm}(ha:Rt n a)(hc:Rt n c):Red a (hand n a c):=
 (eg hn ha (c_ hn ha hc)).mpr (d_ (ha.rest hn).aa hc.aa).left
theorem jm{a c x:Perm}(ha:Rt n a)(hc:Rt n c)(hx:aw x)(h:Le x c)(r:Red a x):Le x (hand n a c):=
 (d_ (ha.rest hn).aa hc.aa).most x hx ((eg hn ha (Rt.of_le hx hc h)).mp r) h
theorem mI{a c m:Perm}(ha:Rt n a)(hc:Rt n c)(hm:aw m)(h1:Le m c)(h2:Red a m)(h3:∀x,Rt n x->Le x c->Red a x->Le x m):hand n a c=m:=
 Le.antisymm (c_ hn ha hc).aa hm (h3 _ (c_ hn ha hc) (gz hn ha hc) (f9 hn ha hc)) (jm hn ha hc hm h1 h2)
theorem yk{a c:Perm}(ha:Rt n a)(hc:Rt n c)(r:Red a c):hand n a c=c:=mI hn ha hc hc.aa (Le.refl c) r fun x _ h _=>h
theorem jU{a c:Perm}(ha:Rt n a)(hc:Rt n c):Rt n (then_ (back (hand n a c)) c):=(c_ hn ha hc).back.then_ hc
theorem Ex{a b c:Perm}(ha:Rt n a)(hb:Rt n b)(hc:Rt n c)(r:Red a b):
  hand n a (then_ b (hand n b c))=then_ b (hand n (then_ a b) c)/\Le (hand n (then_ a b) c) (hand n b c):=by
 have hab:=ha.then_ hb
 have pu:=c_ hn hab hc
 have pv:=c_ hn hb hc
 have rv:=f9 hn hb hc
 have ru:=(r.assoc ha.aa hb.aa pu.aa).mp (f9 hn hab hc)
 have uv:Le (hand n (then_ a b) c) (hand n b c):=jm hn hb hc pu.aa (gz hn hab hc) ru.1
 refine⟨?_,uv⟩
 refine mI hn ha (hb.then_ pv) (hb.aa.then_ pu.aa) (iO hb.aa pu.aa pv.aa uv rv) ru.2 fun x hx xl xr=>?_
 have hj:=nM hb.aa hx.aa
 have bl:Le b (then_ b (hand n b c)):=rv.le hb.aa pv.aa
 have jl:=rW hb.aa hx.aa (hb.aa.then_ pv.aa) bl xl
 have jr:Red a (jn b x):=by
  have hjr:Rt n (jn b x):=Rt.of_le hj (hb.then_ pv) jl
  rw[eg hn ha hjr]
  exact rW hb.aa hx.aa (ha.rest hn).aa ((eg hn ha hb).mp r) ((eg hn ha hx).mp xr)
 have rj:=(yf hb.aa hx.aa).red hb.aa hj
 have hw:=hb.aa.back.then_ hj
 have ew:=c9 hb.aa hj
 have wv:Le (then_ (back b) (jn b x)) (hand n b c):=mH hb.aa hw pv.aa rj rv (by rw[ew];exact jl)
 have wr:Red (then_ a b) (then_ (back b) (jn b x)):=(r.assoc ha.aa hb.aa hw).mpr ⟨rj,by rw[ew];exact jr⟩
 have wu:=jm hn hab hc hw (wv.trans (gz hn hb hc)) wr
 have:=iO hb.aa hw pu.aa wu (nI hb.aa uv rv)
 rw[ew]at this
 exact(yg hb.aa hx.aa).trans this
end
def ins(n:Nat):Perm->List Perm->List Perm
 |a,[]=>if a=still then [] else [a]
 |a,c::s=>then_ a (hand n a c)::ins n (then_ (back (hand n a c)) c) s
def ah(n:Nat)(l:List Perm):Prop:=∀x,x∈l->Rt n x
theorem ah.nil{n:Nat}:ah n []:=fun x h=>by cases h
theorem ah.cons{n:Nat}{a:Perm}{l:List Perm}(h:Rt n a)(k:ah n l):ah n (a::l):=fun x hx=>by
 cases hx with
 |head=>exact h
 |tail _ hx=>exact k x hx
theorem ah.head{n:Nat}{a:Perm}{l:List Perm}(h:ah n (a::l)):Rt n a:=h a (bE ..)
theorem ah.tail{n:Nat}{a:Perm}{l:List Perm}(h:ah n (a::l)):ah n l:=fun x hx=>h x (bH _ hx)
theorem ah.append{n:Nat}{l m:List Perm}(h:ah n l)(k:ah n m):ah n (l++m):=fun x hx=>(dO.mp hx).elim (h x) (k x)
theorem Red.u7{a b:Perm}(ha:aw a)(hb:aw b)(r:Red a b)(h:then_ a b=still):a=still/\b=still:=by
 have ea:a=still:=Le.antisymm ha dI (by have:=r.le ha hb;rwa[h]at this) Le.still
 refine⟨ea,?_⟩
 rw[ea,fZ hb]at h
 exact h
section
variable{n:Nat}(hn:n<=16)
include hn
theorem r_:∀{l:List Perm}{a:Perm},Rt n a->ah n l->ah n (ins n a l)
 |[],a,ha,hl=>by
  unfold ins;split
  ·exact ah.nil
  ·exact ah.cons ha ah.nil
 |c::s,a,ha,hl=>by
  unfold ins
  exact ah.cons (ha.then_ (c_ hn ha hl.head)) (r_ (jU hn ha hl.head) hl.tail)
theorem Ey{c:Perm}(hc:Rt n c):hand n still c=c:=yk hn jT hc Mm
theorem nQ:∀{l:List Perm},ah n l->ins n still l=l
 |[],_=>by unfold ins;rw[af rfl]
 |c::s,hl=>by
  unfold ins
  rw[Ey hn hl.head,fZ hl.head.aa,rS hl.head.aa,nQ hl.tail]
theorem nR:∀{l:List Perm}{a b:Perm},Rt n a->Rt n b->ah n l->Red a b->ins n a (ins n b l)=ins n (then_ a b) l
 |[],a,b,ha,hb,hl,r=>by
  by_cases e:b=still
  ·subst e
   rw[dD ha.aa,show ins n still []=[] from nQ hn ah.nil]
  ·have e2:¬then_ a b=still:=fun h=>e (r.u7 ha.aa hb.aa h).2
   rw[show ins n b []=[b] from ae e,show ins n (then_ a b) []=[then_ a b] from ae e2]
   unfold ins
   rw[yk hn ha hb r,rS hb.aa,show ins n still []=[] from nQ hn ah.nil]
 |c::s,a,b,ha,hb,hl,r=>by
  have hc:=hl.head
  have hab:=ha.then_ hb
  have pu:=c_ hn hab hc
  have pv:=c_ hn hb hc
  have two:=Ex hn ha hb hc r
  rw[show ins n b (c::s)=then_ b (hand n b c)::ins n (then_ (back (hand n b c)) c) s from rfl,
   show ins n (then_ a b) (c::s)=then_ (then_ a b) (hand n (then_ a b) c)::ins n (then_ (back (hand n (then_ a b) c)) c) s from rfl]
  rw[show ∀d t,ins n a (d::t)=then_ a (hand n a d)::ins n (then_ (back (hand n a d)) d) t from fun _ _=>rfl]
  rw[two.1,<-then_assoc ha.aa]
  congr 1
  generalize hand n (then_ a b) c=u at *
  have vc:=gz hn hb hc
  generalize hand n b c=v at *
  have e1:then_ (back (then_ b u)) (then_ b v)=then_ (back u) v:=by
   have hbu:=hb.aa.then_ pu.aa
   refine jj hbu (hbu.back.then_ (hb.aa.then_ pv.aa)) (pu.aa.back.then_ pv.aa) ?_
   rw[c9 hbu (hb.aa.then_ pv.aa),then_assoc hb.aa,c9 pu.aa pv.aa]
  rw[e1]
  have e2:then_ (then_ (back u) v) (then_ (back v) c)=then_ (back u) c:=by
   rw[then_assoc pu.aa.back,c9 pv.aa hc.aa]
  have r2:Red (then_ (back u) v) (then_ (back v) c):=by
   have r1:=two.2.red pu.aa pv.aa
   refine((r1.assoc pu.aa (pu.aa.back.then_ pv.aa) (pv.aa.back.then_ hc.aa)).mp ?_).1
   rw[c9 pu.aa pv.aa]
   exact vc.red pv.aa hc.aa
  rw[nR (pu.back.then_ pv) (pv.back.then_ hc) hl.tail r2,e2]
theorem yl{l:List Perm}{a b m:Perm}(ha:Rt n a)(hb:Rt n b)(hm:Rt n m)(hl:ah n l)(h:Le m b)(r:Red a m):
  ins n (then_ a m) (ins n (then_ (back m) b) l)=ins n a (ins n b l):=by
 have hk:=hm.back.then_ hb
 rw[<-nR hn ha hm (r_ hn hk hl) r,nR hn hm hk hl (h.red hm.aa hb.aa),c9 hm.aa hb.aa]
end
def Nf(n:Nat):List Perm->Prop
 |[]=>True
 |[a]=>a≠still
 |a::b::r=>a≠still/\hand n a b=still/\Nf n (b::r)
theorem Nf.tail{n:Nat}{a:Perm}{l:List Perm}(h:Nf n (a::l)):Nf n l:=by
 cases l with
 |nil=>trivial
 |cons b r=>exact h.2.2
theorem Nf.ne{n:Nat}{a:Perm}{l:List Perm}(h:Nf n (a::l)):a≠still:=by
 cases l with
 |nil=>exact h
 |cons b r=>exact h.1
section
variable{n:Nat}(hn:n<=16)
include hn
theorem pT:∀{l:List Perm}{a:Perm},ah n (a::l)->Nf n (a::l)->ins n a l=a::l
 |[],a,_,h=>ae h
 |c::s,a,hl,h=>by
  have e:hand n a c=still:=h.2.1
  unfold ins
  rw[e,dD hl.head.aa,show then_ (back still) c=c by
   have:=c9 dI hl.tail.head.aa
   rwa[fZ (dI.back.then_ hl.tail.head.aa)]at this,pT hl.tail h.tail]
theorem yn:∀{l:List Perm}{a:Perm},Rt n a->ah n l->Nf n l->Nf n (ins n a l)
 |[],a,ha,_,_=>by
  unfold ins;split
  ·trivial
  ·assumption
 |c::s,a,ha,hl,h=>by
  have hc:=hl.head
  have hm:=c_ hn ha hc
  have ih:=yn (jU hn ha hc) hl.tail h.tail
  have ne:then_ a (hand n a c)≠still:=fun e=>by
   have:=(f9 hn ha hc).u7 ha.aa hm.aa e
   obtain⟨rfl,e2⟩:=this
   rw[Ey hn hc]at e2
   exact h.ne e2
  show Nf n (then_ a (hand n a c)::ins n (then_ (back (hand n a c)) c) s)
  cases s with
  |nil=>
   unfold ins at ih ⊢
   split
   ·exact ne
   ·rename_i e
    refine⟨ne,?_,e⟩
    have hk:=jU hn ha hc
    refine mI hn (ha.then_ hm) hk dI Le.still (pM (ha.then_ hm).aa) fun x hx xl xr=>?_
    have r0:=f9 hn ha hc
    have r1:=(r0.assoc ha.aa hm.aa hx.aa).mp xr
    have l1:Le (then_ (hand n a c) x) c:=by
     have:=iO hm.aa hx.aa hk.aa xl ((gz hn ha hc).red hm.aa hc.aa)
     rwa[c9 hm.aa hc.aa]at this
    have:=jm hn ha hc (hm.aa.then_ hx.aa) l1 r1.2
    have e3:then_ (hand n a c) x=then_ (hand n a c) still:=by
     rw[dD hm.aa];exact Le.antisymm (hm.aa.then_ hx.aa) hm.aa this (r1.1.le hm.aa hx.aa)
    rw[jj hm.aa hx.aa dI e3]
    exact Le.refl _
  |cons d t=>
   have hd:=hl.tail.head
   have hk:=jU hn ha hc
   refine⟨ne,?_,ih⟩
   have r0:=f9 hn ha hc
   have cd:hand n c d=still:=h.2.1
   have two:=(Ex hn hm hk hd ((gz hn ha hc).red hm.aa hc.aa)).1
   rw[c9 hm.aa hc.aa,cd,dD hk.aa]at two
   have hy:=hk.then_ (c_ hn hk hd)
   refine mI hn (ha.then_ hm) hy dI Le.still (pM (ha.then_ hm).aa) fun x hx xl xr=>?_
   have r1:=(r0.assoc ha.aa hm.aa hx.aa).mp xr
   have xk:=jm hn hm hy hx.aa xl r1.1
   rw[two]at xk
   have l1:Le (then_ (hand n a c) x) c:=by
    have:=iO hm.aa hx.aa hk.aa xk ((gz hn ha hc).red hm.aa hc.aa)
    rwa[c9 hm.aa hc.aa]at this
   have:=jm hn ha hc (hm.aa.then_ hx.aa) l1 r1.2
   have e3:then_ (hand n a c) x=then_ (hand n a c) still:=by
    rw[dD hm.aa];exact Le.antisymm (hm.aa.then_ hx.aa) hm.aa this (r1.1.le hm.aa hx.aa)
   rw[jj hm.aa hx.aa dI e3]
   exact Le.refl _
end
end BB
end
section
namespace BB
open Wqaraq
def act(n:Nat)(l x:List Perm):List Perm:=l.foldr (ins n) x
def nf(n:Nat)(l:List Perm):List Perm:=act n l []
theorem nS{n:Nat}{l m x:List Perm}:act n (l++m) x=act n l (act n m x):=List.foldr_append
def dY(l:List Perm):Prop:=∀x,x∈l->x≠still
def turn(n:Nat)(l:List Perm):List Perm:=(pass n l).filter fun a=>a != still
section
variable{n:Nat}(hn:n<=16)
include hn
theorem lM:∀{l x:List Perm},ah n l->ah n x->ah n (act n l x)
 |[],x,_,hx=>hx
 |a::l,x,hl,hx=>r_ hn hl.head (lM hl.tail hx)
theorem ky{l:List Perm}(h:ah n l):ah n (nf n l):=lM hn h ah.nil
theorem Ez:∀{l:List Perm}{a:Perm}{x:List Perm},Rt n a->ah n l->ah n x->act n (ins n a l) x=ins n a (act n l x)
 |[],a,x,ha,hl,hx=>by
  by_cases e:a=still
  ·subst e
   rw[show ins n still []=[] from af rfl]
   exact(nQ hn hx).symm
  ·rw[show ins n a []=[a] from ae e];rfl
 |c::s,a,x,ha,hl,hx=>by
  have hc:=hl.head
  show ins n (then_ a (hand n a c)) (act n (ins n (then_ (back (hand n a c)) c) s) x)=ins n a (ins n c (act n s x))
  rw[Ez (jU hn ha hc) hl.tail hx,yl hn ha hc (c_ hn ha hc) (lM hn hl.tail hx) (gz hn ha hc) (f9 hn ha hc)]
theorem yo:∀{l x:List Perm},ah n l->ah n x->act n (nf n l) x=act n l x
 |[],x,_,hx=>rfl
 |a::l,x,hl,hx=>by
  show act n (ins n a (nf n l)) x=ins n a (act n l x)
  rw[Ez hn hl.head (ky hn hl.tail) hx,yo hl.tail hx]
theorem sf:∀{l:List Perm},ah n l->Nf n (nf n l)
 |[],_=>trivial
 |a::l,hl=>yn hn hl.head (ky hn hl.tail) (sf hl.tail)
theorem lN:∀{l:List Perm},ah n l->Nf n l->nf n l=l
 |[],_,_=>rfl
 |a::l,hl,h=>by
  show ins n a (nf n l)=a::l
  rw[lN hl.tail h.tail,pT hn hl h]
theorem Mw{l m:List Perm}(hl:ah n l)(hm:ah n m):nf n (l++m)=nf n (nf n l++nf n m):=by
 show act n (l++m) []=act n (nf n l++nf n m) []
 rw[nS,nS,yo hn hl (lM hn (ky hn hm) ah.nil),yo hn hm ah.nil]
theorem si{a b:Perm}{r s:List Perm}(e:pass n r=b::s):pass n (a::r)=then_ a (hand n a b)::then_ (back (hand n a b)) b::s:=by
 rw[pass,e];rfl
theorem Mx{a:Perm}:pass n [a]=[a]:=rfl
theorem yp:∀(l:List Perm),(pass n l).length=l.length
 |[]=>rfl
 |a::r=>by
  have ih:=yp r
  cases e:pass n r with
  |nil=>
   rw[e]at ih
   have:r=[]:=qT.mp ih.symm
   subst this;rfl
  |cons b s=>rw[si hn e];rw[e]at ih;simp at ih ⊢;omega
theorem sj{r:List Perm}(e:pass n r=[]):r=[]:=by
 have:=yp hn r
 rw[e]at this
 exact qT.mp this.symm
theorem sk:∀{l:List Perm},ah n l->ah n (pass n l)
 |[],h=>h
 |a::r,h=>by
  have ih:=sk h.tail
  cases e:pass n r with
  |nil=>
   have:=sj hn e
   subst this;exact h
  |cons b s=>
   rw[si hn e]
   rw[e]at ih
   exact ah.cons (h.head.then_ (c_ hn h.head ih.head)) (ah.cons (jU hn h.head ih.head) ih.tail)
theorem EC:∀{l x:List Perm},ah n l->ah n x->act n (pass n l) x=act n l x
 |[],x,_,_=>rfl
 |a::r,x,h,hx=>by
  have ih:=EC h.tail hx
  have pr:=sk hn h.tail
  cases e:pass n r with
  |nil=>
   have:=sj hn e
   subst this;rfl
  |cons b s=>
   rw[si hn e]
   rw[e]at ih pr
   show ins n (then_ a (hand n a b)) (ins n (then_ (back (hand n a b)) b) (act n s x))=ins n a (act n r x)
   rw[yl hn h.head pr.head (c_ hn h.head pr.head) (lM hn pr.tail hx) (gz hn h.head pr.head) (f9 hn h.head pr.head)]
   rw[<-ih];rfl
theorem yq:∀{l x:List Perm},ah n l->ah n x->act n (l.filter fun a=>a != still) x=act n l x
 |[],x,_,_=>rfl
 |a::r,x,h,hx=>by
  have ih:=yq h.tail hx
  by_cases e:a=still
  ·rw[uj (by simp[e]),ih]
   subst e
   exact(nQ hn (lM hn h.tail hx)).symm
  ·rw[oZ (by simp[e])]
   show ins n a (act n _ x)=ins n a (act n r x)
   rw[ih]
theorem ED{l:List Perm}{p:Perm->Bool}(h:ah n l):ah n (l.filter p):=fun x hx=>h x (iX.mp hx).1
theorem EE{l:List Perm}(h:ah n l):ah n (turn n l):=ED hn (sk hn h)
theorem EF{l:List Perm}:dY (turn n l):=fun x hx=>by have:=(iX.mp hx).2;simpa using this
theorem EG{l:List Perm}(h:ah n l):nf n (turn n l)=nf n l:=by
 show act n _ _=act n _ _
 rw[turn,yq hn (sk hn h) ah.nil,EC hn h ah.nil]
theorem dY.tail{a:Perm}{l:List Perm}(h:dY (a::l)):dY l:=fun x hx=>h x (bH _ hx)
theorem yr:∀{l:List Perm}{b:Perm}{s:List Perm},ah n l->dY l->pass n l=b::s->∃t,nf n l=b::t
 |[],b,s,_,_,e=>by cases e
 |[a],b,s,h,k,e=>by
  cases e
  exact⟨[],ae (k a (bE ..))⟩
 |a::c::r,b,s,h,k,e=>by
  cases e2:pass n (c::r) with
  |nil=>cases sj hn e2
  |cons d u=>
   obtain⟨t,et⟩:=yr h.tail (dY.tail hn k) e2
   rw[si hn e2]at e
   cases e
   refine⟨ins n (then_ (back (hand n a d)) d) t,?_⟩
   show ins n a (nf n (c::r))=_
   rw[et];rfl
theorem My{l:List Perm}:(turn n l).length<=l.length:=by
 have:=yp hn l
 have:=qU (fun a=>a != still) (pass n l)
 unfold turn;omega
def u9(n:Nat)(h:Perm)(t:List Perm):Prop:=∀b s,nf n t=b::s->hand n h b=still
theorem Mz{b:Perm}(hb:aw b):then_ (back still) b=b:=by
 have:=c9 dI hb
 rwa[fZ (dI.back.then_ hb)]at this
theorem MA{h:Perm}{t:List Perm}(hl:ah n (h::t))(ns:dY (h::t))(k:u9 n h t):turn n (h::t)=h::turn n t:=by
 have nh:=ns h (bE ..)
 cases e:pass n t with
 |nil=>
  have:=sj hn e
  subst this
  unfold turn
  rw[Mx hn,oZ (by simpa using nh)];rfl
 |cons b s=>
  obtain⟨t',et⟩:=yr hn hl.tail (dY.tail hn ns) e
  have hb:Rt n b:=by have:=sk hn hl.tail;rw[e]at this;exact this.head
  unfold turn
  rw[si hn e,k b t' et,dD hl.head.aa,Mz hn hb.aa,oZ (by simpa using nh),e]
theorem EH:∀(f:Nat) {h:Perm}{t:List Perm},ah n (h::t)->dY (h::t)->u9 n h t->passes n f (h::t)=h::passes n f t
 |0,h,t,_,_,_=>rfl
 |f+1,h,t,hl,ns,k=>by
  have e:=MA hn hl ns k
  show (if turn n (h::t)=h::t then h::t else passes n f (turn n (h::t)))=h::(if turn n t=t then t else passes n f (turn n t))
  rw[e]
  by_cases c:turn n t=t
  ·rw[af c,af (by rw[c])]
  ·rw[ae c,ae (fun q=>c (mo q).2)]
   refine EH f (ah.cons hl.head (EE hn hl.tail)) (fun x hx=>?_) (fun b s q=>k b s (by rw[<-EG hn hl.tail];exact q))
   cases hx with
   |head=>exact ns h (bE ..)
   |tail _ hx=>exact EF hn x hx
theorem MB{h:Perm}{t s:List Perm}(hl:ah n (h::t))(e:nf n (h::t)=h::s):u9 n h t:=fun b r q=>by
 have e1:ins n h (nf n t)=h::s:=e
 have hb:Rt n b:=by have:=ky hn hl.tail;rw[q]at this;exact this.head
 rw[q]at e1
 have e2:then_ h (hand n h b)=h:=(mo e1).1
 have hm:=c_ hn hl.head hb
 exact jj hl.head.aa hm.aa dI (by rw[e2,dD hl.head.aa])
theorem MC{h:Perm}{t:List Perm}(hl:ah n (h::t))(nh:h≠still)(k:u9 n h t):nf n (h::t)=h::nf n t:=by
 show ins n h (nf n t)=h::nf n t
 apply pT hn (ah.cons hl.head (ky hn hl.tail))
 have:=sf hn hl.tail
 cases e:nf n t with
 |nil=>exact nh
 |cons b s=>rw[e]at this;exact⟨nh,k b s e,this⟩
theorem EI:∀(f:Nat) {l:List Perm},ah n l->dY l->l.length<=f->passes n f l=nf n l
 |0,l,_,_,h=>by
  have:l=[]:=qT.mp (by omega)
  subst this;rfl
 |f+1,[],_,_,_=>by
  show (if turn n []=[] then [] else passes n f (turn n []))=_
  rw[af (show turn n []=[] from rfl)];rfl
 |f+1,a::r,hl,ns,h=>by
  have step:passes n (f+1) (a::r)=passes n f (turn n (a::r)):=by
   show (if turn n (a::r)=a::r then a::r else passes n f (turn n (a::r)))=_
   split
   ·rename_i e
    rw[e]
    have:∀f,passes n f (a::r)=a::r:=fun f=>by
     cases f with
     |zero=>rfl
     |succ f=>show (if turn n (a::r)=a::r then a::r else _)=_;rw[af e]
    exact(this f).symm
   ·rfl
  rw[step]
  cases e:pass n (a::r) with
  |nil=>cases sj hn e
  |cons b s=>
   obtain⟨t',et⟩:=yr hn hl ns e
   have nb:b≠still:=by have:=sf hn hl;rw[et]at this;exact this.ne
   have et2:turn n (a::r)=b::s.filter fun a=>a != still:=by
    unfold turn;rw[e,oZ (by simpa using nb)]
   have hp:=EE hn hl
   have hs:dY (turn n (a::r)):=EF hn
   have lt:(turn n (a::r)).length<=(a::r).length:=My hn
   have en:=EG hn hl
   rw[et2]at hp hs lt en ⊢
   have hk:=MB hn hp (by rw[en,et])
   rw[EH hn f hp hs hk,EI f hp.tail (dY.tail hn hs) (by simp at lt h ⊢;omega),<-en,MC hn hp nb hk]
end
def strip(n:Nat)(k:Int)(m:List Perm):Form:=⟨k+((m.takeWhile fun a=>a == delta n).length:Nat),m.dropWhile fun a=>a == delta n⟩
def aO(n:Nat)(F:Form):Form:=strip n F.twists (nf n F.factors)
theorem yt{n:Nat}(hn:n<=16){k:Int}{l:List Perm}(h:ah n l):formed n k l=strip n k (nf n l):=by
 have e:passes n (120 * l.length+2) (l.filter fun a=>a != still)=nf n l:=by
  rw[EI hn _ (ED hn h) (fun x hx=>by have:=(iX.mp hx).2;simpa using this) (by have:=qU (fun a=>a != still) l;omega)]
  exact yq hn h ah.nil
 unfold formed strip
 rw[e]
theorem yu{n:Nat}{k:Int}{m:List Perm}:strip n k (delta n::m)=strip n (k+1) m:=by
 unfold strip
 rw[List.takeWhile_cons_of_pos (by simp),List.dropWhile_cons_of_pos (by simp)]
 simp only [bP,Form.mk.injEq,and_true]
 omega
theorem EJ{n:Nat}{k:Int}{a:Perm}{m:List Perm}(h:a≠delta n):strip n k (a::m)=⟨k,a::m⟩:=by
 unfold strip
 rw[List.takeWhile_cons_of_neg (by simpa using h),List.dropWhile_cons_of_neg (by simpa using h)]
 simp
theorem strip_nil{n:Nat}{k:Int}:strip n k []=⟨k,[]⟩:=by unfold strip;simp
theorem sq{n:Nat}(h2:2<=n)(hn:n<=16):delta n≠still:=fun e=>by
 have:=bO (fun a=>at_ a 0) e
 simp only [eN (show 0<16 by omega),u6 (show 0<16 by omega)]at this
 rw[af (by omega)]at this
 omega
theorem yw{n i:Nat}{a:Perm}(h:i<16):(i<n/\at_ (turned n a) i=n - 1 - at_ a (n - 1 - i))\/(n<=i/\at_ (turned n a) i=i):=by
 have e:at_ (turned n a) i=if i<n then n - 1 - at_ a (n - 1 - i) else i:=gZ h
 rw[e]
 by_cases c:i<n
 ·exact .inl ⟨c,af c⟩
 ·exact .inr ⟨by omega,ae c⟩
section
variable{n:Nat}(hn:n<=16)
include hn
theorem kz{a:Perm}(h:Rt n a):turned n a=then_ (then_ (delta n) a) (delta n):=by
 have hD:=bV hn
 refine dC (bJ _) (bJ _) fun i hi=>?_
 rw[cC hi,cC hi]
 have h1:=yw (n:=n) (a:=a) hi
 have h2:=ku (n:=n) hi
 have h3:=ku (n:=n) (h.aa.lt _ (hD.aa.lt i hi))
 rcases h1 with ⟨c,e⟩|⟨c,e⟩
 ·have e2:at_ (delta n) i=n - 1 - i:=by omega
  rw[e2]at h3 ⊢
  have:=h.lt hn (show n - 1 - i<n by omega)
  omega
 ·have e2:at_ (delta n) i=i:=by omega
  rw[e2]at h3 ⊢
  have:=h.fix i c hi
  omega
theorem jo:then_ (delta n) (delta n)=still:=
 dC (bJ _) (bJ _) fun i hi=>by
  have h1:=ku (n:=n) hi
  have h2:=ku (n:=n) ((bV hn).aa.lt i hi)
  rw[cC hi,eN hi];omega
theorem EK:back (delta n)=delta n:=by
 have hD:=(bV hn).aa
 exact jj hD hD.back hD (by rw[jR hD,jo hn])
theorem cD{a:Perm}(h:Rt n a):Rt n (turned n a):=by
 rw[kz hn h];exact((bV hn).then_ h).then_ (bV hn)
theorem jV{a:Perm}(h:Rt n a):turned n (turned n a)=a:=by
 have hD:=(bV hn).aa
 rw[kz hn (cD hn h),kz hn h]
 rw[then_assoc hD,then_assoc (hD.then_ h.aa),jo hn,dD (hD.then_ h.aa),<-then_assoc hD,jo hn,fZ h.aa]
theorem sr{a b:Perm}(ha:Rt n a)(hb:Rt n b):turned n (then_ a b)=then_ (turned n a) (turned n b):=by
 have hD:=(bV hn).aa
 rw[kz hn (ha.then_ hb),kz hn ha,kz hn hb]
 have hx:aw (then_ (then_ (delta n) a) (delta n)):=(hD.then_ ha.aa).then_ hD
 rw[<-then_assoc hx,<-then_assoc hx,then_assoc (hD.then_ ha.aa) (b:=delta n) (c:=delta n),jo hn,dD (hD.then_ ha.aa),then_assoc hD (b:=a) (c:=b)]
theorem kC:turned n still=still:=by
 rw[kz hn jT,dD (bV hn).aa,jo hn]
theorem su:turned n (delta n)=delta n:=by
 rw[kz hn (bV hn),jo hn,fZ (bV hn).aa]
theorem nT{a b:Perm}(ha:Rt n a)(hb:Rt n b)(e:turned n a=turned n b):a=b:=by
 rw[<-jV hn ha,e,jV hn hb]
theorem MD{a:Perm}(ha:Rt n a):turned n (back a)=back (turned n a):=by
 have ht:=cD hn ha
 refine jj ht.aa (cD hn ha.back).aa ht.aa.back ?_
 rw[<-sr hn ha ha.back,jR ha.aa,jR ht.aa,kC hn]
theorem mJ{a:Perm}(ha:Rt n a):rest n (rest n a)=turned n a:=by
 have hD:=(bV hn).aa
 have hr:=ha.rest hn
 refine jj hr.aa (hr.rest hn).aa (cD hn ha).aa ?_
 rw[kx hn hr,kz hn ha]
 unfold rest
 rw[then_assoc ha.aa.back,then_assoc hD,<-then_assoc (a:=delta n) (b:=delta n) hD,jo hn,fZ (ha.aa.then_ hD),<-then_assoc ha.aa.back,rS ha.aa,fZ hD]
theorem EL{a:Perm}(h:Rt n a){i j:Nat}(hi:i<n)(hj:j<n):X (turned n a) i j↔X a (n - 1 - i) (n - 1 - j):=by
 have h1:=yw (n:=n) (a:=a) (show i<16 by omega)
 have h2:=yw (n:=n) (a:=a) (show j<16 by omega)
 have:=h.lt hn (show n - 1 - i<n by omega)
 have:=h.lt hn (show n - 1 - j<n by omega)
 unfold X;omega
theorem nU{a b:Perm}(ha:Rt n a)(hb:Rt n b)(h:Le a b):Le (turned n a) (turned n b):=fun i j hi hj x=>by
 have lt:=(cD hn ha).x hi hj x
 rw[EL hn ha lt.1 lt.2]at x
 rw[EL hn hb lt.1 lt.2]
 exact h _ _ (by omega) (by omega) x
theorem yy{a b:Perm}(ha:Rt n a)(hb:Rt n b)(r:Red a b):Red (turned n a) (turned n b):=by
 have ta:=cD hn ha
 have tb:=cD hn hb
 apply Ep ta.aa tb.aa
 rw[<-sr hn ha hb]
 exact nU hn ha (ha.then_ hb) (r.le ha.aa hb.aa)
theorem yz{a c:Perm}(ha:Rt n a)(hc:Rt n c):hand n (turned n a) (turned n c)=turned n (hand n a c):=by
 have hm:=c_ hn ha hc
 refine mI hn (cD hn ha) (cD hn hc) (cD hn hm).aa (nU hn hm hc (gz hn ha hc)) (yy hn ha hm (f9 hn ha hc)) fun x hx xl xr=>?_
 have tx:=cD hn hx
 have h1:=nU hn hx (cD hn hc) xl
 have h2:=yy hn (cD hn ha) hx xr
 rw[jV hn hc]at h1
 rw[jV hn ha]at h2
 have:=nU hn tx hm (jm hn ha hc tx.aa h1 h2)
 rwa[jV hn hx]at this
def tl(n:Nat)(l:List Perm):List Perm:=l.map (turned n)
theorem mK{l:List Perm}(h:ah n l):ah n (tl n l):=fun x hx=>by
 obtain⟨y,hy,rfl⟩:=bW.mp hx
 exact cD hn (h y hy)
theorem EM:∀{l:List Perm},ah n l->tl n (tl n l)=l
 |[],_=>rfl
 |a::l,h=>by
  show turned n (turned n a)::tl n (tl n l)=a::l
  rw[jV hn h.head,EM h.tail]
theorem EN:∀{l:List Perm}{a:Perm},Rt n a->ah n l->tl n (ins n a l)=ins n (turned n a) (tl n l)
 |[],a,ha,_=>by
  unfold ins tl
  by_cases e:a=still
  ·subst e;rw[af rfl,kC hn,List.map_nil];exact(af rfl).symm
  ·have e2:turned n a≠still:=fun q=>e (nT hn ha jT (by rw[q,kC hn]))
   rw[ae e,List.map_nil]
   exact(ae e2).symm
 |c::s,a,ha,hl=>by
  have hc:=hl.head
  have hm:=c_ hn ha hc
  show turned n (then_ a (hand n a c))::tl n (ins n (then_ (back (hand n a c)) c) s)=then_ (turned n a) (hand n (turned n a) (turned n c))::ins n (then_ (back (hand n (turned n a) (turned n c))) (turned n c)) (tl n s)
  rw[EN (jU hn ha hc) hl.tail,yz hn ha hc,sr hn ha hm,sr hn hm.back hc,MD hn hm]
theorem EO:∀{l:List Perm},ah n l->tl n (nf n l)=nf n (tl n l)
 |[],_=>rfl
 |a::l,h=>by
  show tl n (ins n a (nf n l))=ins n (turned n a) (nf n (tl n l))
  rw[EN hn h.head (ky hn h.tail),EO h.tail]
theorem ME{a:Perm}{x:List Perm}(ha:Rt n a)(hx:ah n x):ins n a (ins n (delta n) x)=ins n (delta n) (ins n (turned n a) x):=by
 have hr:=ha.rest hn
 have ht:=cD hn ha
 have e:=kx hn hr
 rw[mJ hn ha]at e
 have r1:Red (rest n a) (turned n a):=by
  rw[<-mJ hn ha];exact(eg hn hr (hr.rest hn)).mpr (Le.refl _)
 have r2:Red a (rest n a):=(eg hn ha hr).mpr (Le.refl _)
 rw[show ins n (delta n) x=ins n (rest n a) (ins n (turned n a) x) by rw[nR hn hr ht hx r1,e]]
 rw[nR hn ha hr (r_ hn ht hx) r2,kx hn ha]
theorem ER:∀{l x:List Perm},ah n l->ah n x->act n l (ins n (delta n) x)=ins n (delta n) (act n (tl n l) x)
 |[],x,_,_=>rfl
 |a::l,x,hl,hx=>by
  show ins n a (act n l (ins n (delta n) x))=ins n (delta n) (ins n (turned n a) (act n (tl n l) x))
  rw[ER hl.tail hx,ME hn hl.head (lM hn (mK hn hl.tail) hx)]
theorem ES{c:Perm}(hc:Rt n c):hand n (delta n) c=still:=
 mI hn (bV hn) hc dI Le.still (pM (bV hn).aa) fun x hx _ r=>by
  have:=(eg hn (bV hn) hx).mp r
  unfold Wqaraq.rest at this
  rwa[EK hn,jo hn]at this
theorem MF(h2:2<=n){x:List Perm}(hx:ah n x)(h:Nf n x):ins n (delta n) x=delta n::x:=by
 apply pT hn (ah.cons (bV hn) hx)
 cases x with
 |nil=>exact sq h2 hn
 |cons c s=>exact⟨sq h2 hn,ES hn hx.head,h⟩
end
end BB
end
section
namespace BB
open Wqaraq
def aV(n:Nat)(F:Form):Prop:=ah n F.factors
def tw(n:Nat)(k:Int)(l:List Perm):List Perm:=if k % 2=0 then l else tl n l
def one:Form:=⟨0,[]⟩
def bI(n:Nat)(F G:Form):Form:=⟨F.twists+G.twists,tw n G.twists F.factors++G.factors⟩
section
variable{n:Nat}(hn:n<=16)
include hn
theorem sx{k:Int}{l:List Perm}(h:ah n l):ah n (tw n k l):=by
 unfold tw;split
 ·exact h
 ·exact mK hn h
theorem yA{k:Int}{l m:List Perm}:tw n k (l++m)=tw n k l++tw n k m:=by
 unfold tw;split
 ·rfl
 ·exact cN
theorem u_{k:Int}:tw n k []=[]:=by unfold tw;split<;>rfl
theorem sy{j k:Int}{l:List Perm}(h:ah n l):tw n j (tw n k l)=tw n (k+j) l:=by
 unfold tw
 by_cases h1:k % 2=0<;>by_cases h2:j % 2=0
 ·rw[af h1,af h2,af (by omega)]
 ·rw[af h1,ae h2,ae (by omega)]
 ·rw[ae h1,af h2,ae (by omega)]
 ·rw[ae h1,ae h2,af (by omega),EM hn h]
theorem mL{l:List Perm}:tw n 0 l=l:=rfl
theorem MG{k:Int}{l:List Perm}(h:ah n l):tw n k (nf n l)=nf n (tw n k l):=by
 unfold tw;split
 ·rfl
 ·exact EO hn h
theorem jq{F G:Form}(hF:aV n F)(hG:aV n G):aV n (bI n F G):=ah.append (sx hn hF) hG
theorem yB{F G H:Form}(hF:aV n F)(hG:aV n G):bI n (bI n F G) H=bI n F (bI n G H):=by
 unfold bI
 simp only [Form.mk.injEq]
 refine⟨by omega,?_⟩
 rw[yA hn,sy hn hF,dG]
theorem sC{F:Form}:bI n F one=F:=by
 unfold bI one
 simp only [mq,ft]
 rfl
theorem vd{F:Form}:bI n one F=F:=by
 unfold bI one
 simp only [Int.zero_add,u_ hn,kY]
theorem cE{F G:Form}(hF:aV n F)(hG:aV n G):product n F G=aO n (bI n F G):=
 yt hn (jq hn hF hG)
theorem ve{m:List Perm}:∃j,m=List.replicate j (delta n)++m.dropWhile (fun a=>a == delta n)/\(m.takeWhile fun a=>a == delta n).length=j:=by
 refine⟨_,?_,rfl⟩
 have:m.takeWhile (fun a=>a == delta n)=List.replicate (m.takeWhile fun a=>a == delta n).length (delta n):=by
  rw[List.eq_replicate_iff]
  refine⟨rfl,fun b hb=>?_⟩
  have:=mj.mp (List.all_takeWhile (p:=fun a=>a == delta n) (l:=m)) b hb
  simpa using this
 rw[<-this,List.takeWhile_append_dropWhile]
variable(h2:2<=n)
include h2
theorem yC{k:Int}{l:List Perm}(h:ah n l):aO n ⟨k,delta n::l⟩=aO n ⟨k+1,l⟩:=by
 show strip n k (ins n (delta n) (nf n l))=strip n (k+1) (nf n l)
 rw[MF hn h2 (ky hn h) (sf hn h),yu]
theorem vf:∀(j:Nat) {k:Int}{l m:List Perm},ah n l->ah n m->aO n ⟨k,l++(List.replicate j (delta n)++m)⟩=aO n ⟨k+j,tw n j l++m⟩
 |0,k,l,m,hl,hm=>by
  rw[show k+((0:Nat):Int)=k by omega]
  rfl
 |j+1,k,l,m,hl,hm=>by
  have hr:ah n (List.replicate j (delta n)++m):=ah.append (fun x hx=>by rw[xh hx];exact bV hn) hm
  have e:nf n (l++(List.replicate (j+1) (delta n)++m))=nf n (delta n::(tl n l++(List.replicate j (delta n)++m))):=by
   show act n (l++(delta n::(List.replicate j (delta n)++m))) []=ins n (delta n) (act n (tl n l++(List.replicate j (delta n)++m)) [])
   rw[nS,nS]
   exact ER hn hl (lM hn hr ah.nil)
  have e2:aO n ⟨k,l++(List.replicate (j+1) (delta n)++m)⟩=aO n ⟨k,delta n::(tl n l++(List.replicate j (delta n)++m))⟩:=by
   unfold aO
   simp only [e]
  rw[e2,yC hn h2 (ah.append (mK hn hl) hr),vf j (mK hn hl) hm]
  rw[show tl n l=tw n 1 l from rfl,sy hn hl]
  rw[show k+1+(j:Int)=k+((j+1:Nat):Int) by omega,show (1:Int)+(j:Int)=((j+1:Nat):Int) by omega]
theorem js{F:Form}(h:aV n F):aV n (aO n F):=fun x hx=>ky hn h x ((List.dropWhile_sublist _).subset hx)
theorem pU{F G:Form}(hF:aV n F)(hG:aV n G):aO n (bI n (aO n F) (aO n G))=aO n (bI n F G):=by
 obtain⟨k,l⟩:=F
 obtain⟨k',l'⟩:=G
 have hl:ah n l:=hF
 have hl':ah n l':=hG
 obtain⟨j,ej,lj⟩:=ve (n:=n) hn (m:=nf n l)
 obtain⟨i,ei,li⟩:=ve (n:=n) hn (m:=nf n l')
 have hR:ah n ((nf n l).dropWhile fun a=>a == delta n):=fun x hx=>ky hn hl x ((List.dropWhile_sublist _).subset hx)
 have hS:ah n ((nf n l').dropWhile fun a=>a == delta n):=fun x hx=>ky hn hl' x ((List.dropWhile_sublist _).subset hx)
 have eF:aO n ⟨k,l⟩=⟨k+j,(nf n l).dropWhile fun a=>a == delta n⟩:=by unfold aO strip;rw[lj]
 have eG:aO n ⟨k',l'⟩=⟨k'+i,(nf n l').dropWhile fun a=>a == delta n⟩:=by unfold aO strip;rw[li]
 generalize (nf n l).dropWhile (fun a=>a == delta n)=R at *
 generalize (nf n l').dropWhile (fun a=>a == delta n)=S at *
 rw[eF,eG]
 have tD:∀(z:Int) (j:Nat),tw n z (List.replicate j (delta n))=List.replicate j (delta n):=fun z j=>by
  unfold tw;split
  ·rfl
  ·unfold tl;rw[List.map_replicate,su hn]
 have hD:∀j,ah n (List.replicate j (delta n)):=fun j x hx=>by rw[xh hx];exact bV hn
 have e:aO n (bI n ⟨k,l⟩ ⟨k',l'⟩)=aO n ⟨k+k',(List.replicate j (delta n)++tw n k' R)++(List.replicate i (delta n)++S)⟩:=by
  unfold aO bI
  simp only
  rw[Mw hn (sx hn hl) hl',<-MG hn hl,ej,ei,yA hn,tD]
 have h3:ah n (List.replicate j (delta n)++tw n k' R):=ah.append (hD j) (sx hn hR)
 rw[e,vf hn h2 i h3 hS,yA hn,tD,dG]
 have h4:=ah.append (sx hn (k:=i) (sx hn (k:=k') hR)) hS
 have:=vf hn h2 j (k:=k+k'+i) (l:=[]) ah.nil h4
 rw[kY,u_ hn,kY]at this
 rw[this,sy hn hR]
 unfold bI
 simp only
 rw[show k+j+(k'+i)=k+k'+i+j by omega]
theorem yE{F:Form}(h:aV n F):aO n (aO n F)=aO n F:=by
 have e1:aO n one=one:=by unfold aO one;exact strip_nil
 have h1:aV n one:=ah.nil
 have:=pU hn h2 h h1
 rw[e1,sC hn,sC hn]at this
 exact this
theorem yF:aO n one=one:=by unfold aO one;exact strip_nil
theorem vg{F G:Form}(hF:aV n F)(hG:aV n G):aO n (bI n (aO n F) G)=aO n (bI n F G):=by
 rw[<-pU hn h2 (js hn h2 hF) hG,yE hn h2 hF,pU hn h2 hF hG]
theorem vh{F G:Form}(hF:aV n F)(hG:aV n G):aO n (bI n F (aO n G))=aO n (bI n F G):=by
 rw[<-pU hn h2 hF (js hn h2 hG),yE hn h2 hG,pU hn h2 hF hG]
structure bh(n:Nat)(F:Form):Prop where
 all:aV n F
 nf:aO n F=F
theorem kD{F:Form}(h:aV n F):bh n (aO n F):=⟨js hn h2 h,yE hn h2 h⟩
theorem lO:bh n one:=⟨ah.nil,yF hn h2⟩
theorem eY{F G:Form}(hF:aV n F)(hG:aV n G):bh n (product n F G):=by
 rw[cE hn hF hG];exact kD hn h2 (jq hn hF hG)
theorem g9{F G H:Form}(hF:aV n F)(hG:aV n G)(hH:aV n H):product n (product n F G) H=product n F (product n G H):=by
 have a:=eY hn h2 hF hG
 have b:=eY hn h2 hG hH
 rw[cE hn a.all hH,cE hn hF b.all,cE hn hF hG,cE hn hG hH,vg hn h2 (jq hn hF hG) hH,vh hn h2 hF (jq hn hG hH),yB hn hF hG]
theorem sE{F:Form}(h:bh n F):product n F one=F:=by
 rw[cE hn h.all (show aV n one from ah.nil),sC hn,h.nf]
theorem sH{F:Form}(h:bh n F):product n one F=F:=by
 rw[cE hn (show aV n one from ah.nil) h.all,vd hn,h.nf]
theorem ET{F G:Form}(hF:aV n F)(hG:aV n G):product n (aO n F) (aO n G)=product n F G:=by
 rw[cE hn (js hn h2 hF) (js hn h2 hG),cE hn hF hG,pU hn h2 hF hG]
theorem nV{F G:Form}(hF:aV n F)(hG:aV n G):product n (aO n F) G=product n F G:=by
 rw[cE hn (js hn h2 hF) hG,cE hn hF hG,vg hn h2 hF hG]
theorem lP{F G:Form}(hF:aV n F)(hG:aV n G):product n F (aO n G)=product n F G:=by
 rw[cE hn hF (js hn h2 hG),cE hn hF hG,vh hn h2 hF hG]
def mM(n:Nat)(a:Perm):Form:=⟨-1,[turned n (rest n a)]⟩
def bK(a:Perm):Form:=⟨0,[a]⟩
def eu(k:Int):Form:=⟨k,[]⟩
theorem dJ{a:Perm}(ha:Rt n a):aV n (bK a):=ah.cons ha ah.nil
theorem mN{a:Perm}(ha:Rt n a):aV n (mM n a):=ah.cons (cD hn (ha.rest hn)) ah.nil
theorem sI{k:Int}:aV n (eu k):=ah.nil
theorem yG{a b:Perm}(ha:Rt n a)(hb:Rt n b)(r:Red a b):nf n [a,b]=nf n [then_ a b]:=nR hn ha hb ah.nil r
theorem EU{a:Perm}(ha:Rt n a):product n (bK a) (mM n a)=one:=by
 have hr:=ha.rest hn
 have ht:=cD hn ha
 rw[cE hn (dJ hn h2 ha) (mN hn h2 ha)]
 have e:bI n (bK a) (mM n a)=⟨-1,[turned n a,turned n (rest n a)]⟩:=rfl
 have r:Red (turned n a) (turned n (rest n a)):=yy hn ha hr ((eg hn ha hr).mpr (Le.refl _))
 have e2:aO n ⟨-1,[turned n a,turned n (rest n a)]⟩=aO n ⟨-1,[delta n]⟩:=by
  unfold aO
  simp only
  rw[yG hn h2 ht (cD hn hr) r,<-sr hn ha hr,kx hn ha,su hn]
 rw[e,e2,yC hn h2 ah.nil]
 exact yF hn h2
theorem yH{a:Perm}(ha:Rt n a):turned n (rest n a)=rest n (turned n a):=by
 rw[<-mJ hn (ha.rest hn),mJ hn ha]
theorem MH{a:Perm}(ha:Rt n a):product n (mM n a) (bK a)=one:=by
 have ht:=cD hn ha
 rw[cE hn (mN hn h2 ha) (dJ hn h2 ha)]
 have e:bI n (mM n a) (bK a)=⟨-1,[turned n (rest n a),a]⟩:=rfl
 have e1:a=rest n (rest n (turned n a)):=by rw[mJ hn ht,jV hn ha]
 have hq:=ht.rest hn
 have r:Red (turned n (rest n a)) a:=by
  rw[yH hn h2 ha]
  exact(eg hn hq ha).mpr (by rw[<-e1];exact Le.refl _)
 have e2:then_ (turned n (rest n a)) a=delta n:=by
  have:=kx hn hq
  rw[<-e1]at this
  rw[yH hn h2 ha];exact this
 have e3:aO n ⟨-1,[turned n (rest n a),a]⟩=aO n ⟨-1,[delta n]⟩:=by
  unfold aO
  simp only
  rw[yG hn h2 (cD hn (ha.rest hn)) ha r,e2]
 rw[e,e3,yC hn h2 ah.nil]
 exact yF hn h2
def bw(n:Nat)(l:List Perm):Form:=l.reverse.foldl (fun (G:Form) (a:Perm)=>product n G ⟨-1,[turned n (rest n a)]⟩) ⟨0,[]⟩
theorem yI{a:Perm}{l:List Perm}:bw n (a::l)=product n (bw n l) (mM n a):=by
 unfold bw
 rw[mv,jE]
 rfl
theorem pV:∀{l:List Perm},ah n l->bh n (bw n l)
 |[],_=>lO hn h2
 |a::l,h=>by rw[yI hn h2];exact eY hn h2 (pV h.tail).all (mN hn h2 h.head)
def g_(l:List Perm):Form:=⟨0,l⟩
theorem EV{a:Perm}{l:List Perm}:g_ (a::l)=bI n (bK a) (g_ l):=rfl
theorem EW:∀{l:List Perm},ah n l->product n (g_ l) (bw n l)=one
 |[],_=>sE hn h2 (lO hn h2)
 |a::l,h=>by
  have hb:=(pV hn h2 h.tail).all
  have hu:=mN hn h2 h.head
  have hf:=dJ hn h2 h.head
  have hl:aV n (g_ l):=h.tail
  rw[yI hn h2,EV hn h2,<-nV hn h2 (jq hn hf hl) (eY hn h2 hb hu).all,<-cE hn hf hl,
   <-g9 hn h2 (eY hn h2 hf hl).all hb hu,g9 hn h2 hf hl hb,EW h.tail,cE hn hf ah.nil |> fun e=>(e:product n (bK a) one=_),sC hn,nV hn h2 hf hu,EU hn h2 h.head]
theorem EX:∀{l:List Perm},ah n l->product n (bw n l) (g_ l)=one
 |[],_=>sE hn h2 (lO hn h2)
 |a::l,h=>by
  have hb:=(pV hn h2 h.tail).all
  have hu:=mN hn h2 h.head
  have hf:=dJ hn h2 h.head
  have hl:aV n (g_ l):=h.tail
  rw[yI hn h2,EV hn h2,<-lP hn h2 (eY hn h2 hb hu).all (jq hn hf hl),<-cE hn hf hl,
   g9 hn h2 hb hu (eY hn h2 hf hl).all,<-g9 hn h2 hu hf hl,MH hn h2 h.head]
  rw[cE hn (show aV n one from ah.nil) hl,vd hn,lP hn h2 hb hl,EX h.tail]
theorem yJ{j k:Int}:product n (eu j) (eu k)=eu (j+k):=by
 rw[cE hn (sI hn h2) (sI hn h2)]
 unfold bI eu aO
 simp only [u_ hn,kY]
 exact strip_nil
theorem EY{F:Form}:bI n (eu F.twists) (g_ F.factors)=F:=by
 unfold bI eu g_
 simp only [u_ hn,kY,mq]
theorem EZ{F:Form}:backward n F=product n (bw n F.factors) (eu (-F.twists)):=rfl
theorem jW{F:Form}(h:aV n F):bh n (backward n F):=eY hn h2 (pV hn h2 h).all (sI hn h2)
theorem MI{k:Int}:bh n (eu k):=⟨ah.nil,strip_nil⟩
theorem MJ{F:Form}(h:aV n F):product n F (backward n F)=one:=by
 have hb:=(pV hn h2 h).all
 have ht:∀{k:Int},aV n (eu k):=fun {k}=>sI hn h2
 have hl:aV n (g_ F.factors):=h
 have e:product n F (backward n F)=product n (product n (eu F.twists) (g_ F.factors)) (backward n F):=by
  rw[cE hn ht hl,EY hn h2,nV hn h2 h (jW hn h2 h).all]
 rw[e,EZ hn h2,g9 hn h2 ht hl (eY hn h2 hb ht).all,<-g9 hn h2 hl hb ht,EW hn h2 h,sH hn h2 (MI hn h2),yJ hn h2]
 rw[show F.twists+ -F.twists=0 by omega];rfl
theorem yK{F:Form}(h:aV n F):product n (backward n F) F=one:=by
 have hb:=(pV hn h2 h).all
 have ht:∀{k:Int},aV n (eu k):=fun {k}=>sI hn h2
 have hl:aV n (g_ F.factors):=h
 have e:product n (backward n F) F=product n (backward n F) (product n (eu F.twists) (g_ F.factors)):=by
  rw[cE hn ht hl,EY hn h2,lP hn h2 (jW hn h2 h).all h]
 rw[e,EZ hn h2,g9 hn h2 hb ht (eY hn h2 ht hl).all,<-g9 hn h2 ht ht hl,yJ hn h2,show -F.twists+F.twists=0 by omega]
 rw[show product n (eu 0) (g_ F.factors)=aO n (g_ F.factors) by rw[cE hn ht hl];exact bO (aO n) (vd hn),lP hn h2 hb hl,EX hn h2 h]
theorem E4{F G:Form}(hF:aV n F)(hG:bh n G)(h:product n F G=one):G=backward n F:=by
 have hb:=jW hn h2 hF
 rw[<-sH hn h2 hG,<-yK hn h2 hF,g9 hn h2 hb.all hF hG.all,h,sE hn h2 hb]
end
end BB
end
section
namespace BB
open Wqaraq
theorem kE{a:Perm}{i:Nat}(h:i<a.length):at_ a i=a[i]:=by
 unfold at_;rw[d7,bu h];rfl
theorem pW{n:Nat}:strands n=true↔2<=n/\n<=16:=by
 unfold strands WIDE;simp
theorem E5{n:Nat}{a:Perm}:right n a=true↔(2<=n/\n<=16)/\a.length=16/\(∀x,x<n->x∈a.take n)/\∀i,n<=i->i<16->at_ a i=i:=by
 unfold right WIDE
 simp only [br,pW,beq_iff_eq,mj,a6,List.contains_iff_mem,mn,gH]
 constructor
 ·rintro⟨⟨⟨h1,h2⟩,h3⟩,h4⟩
  exact⟨h1,h2,h3,fun i hi hj=>(h4 i hj).resolve_left (by omega)⟩
 ·rintro⟨h1,h2,h3,h4⟩
  refine⟨⟨⟨h1,h2⟩,h3⟩,fun i hi=>?_⟩
  by_cases c:i<n
  ·exact .inl c
  ·exact .inr (h4 i (by omega) hi)
theorem E6{n:Nat}{a:Perm}:right n a=true↔(2<=n/\n<=16)/\Rt n a:=by
 rw[E5]
 constructor
 ·rintro⟨hn,hl,h1,h2⟩
  refine⟨hn,Mn hl fun v hv=>?_,h2⟩
  by_cases c:v<n
  ·obtain⟨i,hi,e⟩:=List.mem_iff_getElem.mp (h1 v c)
   have hi':i<16:=by simp at hi;omega
   refine⟨i,hi',?_⟩
   rw[kE (by omega),<-e,List.getElem_take]
  ·exact⟨v,hv,h2 v (by omega) hv⟩
 ·rintro⟨hn,h⟩
  refine⟨hn,h.aa.len,fun x hx=>?_,h.fix⟩
  obtain⟨i,hi,e⟩:=h.aa.fJ x (by omega)
  have c:i<n:=by
   apply kZ
   intro c
   have:=h.fix i (by omega) hi
   omega
  rw[kE (by rw[h.aa.len];exact hi)]at e
  rw[<-e]
  have hl:=h.aa.len
  exact List.mem_iff_getElem.mpr ⟨i,by simp;omega,by rw[List.getElem_take]⟩
def f_(i j:Nat):List Int:=(List.range' i (j - i)).map fun (x:Nat)=>(x:Int)
def fK(a:List Nat):List Int:=a.map fun (x:Nat)=>(x:Int)
theorem yN{a b:List Nat}(h:fK a=fK b):a=b:=List.map_inj_right (fun x y e=>by omega) |>.mp h
theorem MK{l:List Int}(h:∀x,x∈l->0<=x):fK (l.map Int.toNat)=l:=by
 unfold fK
 rw[dq]
 conv=>rhs;rw[<-List.map_id l]
 apply gI
 intro x hx
 have:=h x hx
 simp only [Function.comp,id]
 omega
theorem ML{ns ys:List Int}{n:Nat}(h0:∀x,x∈ns->0<=x)(hn:2<=n/\n<=16)(hl:ns.length=16)(p:ys.Perm (ns.take n))(s:ys.Pairwise (·<=·)):
  right n (ns.map Int.toNat)=true↔ys=f_ 0 n/\ns.drop n=f_ n 16:=by
 have hlen:(ns.map Int.toNat).length=16:=by simp[hl]
 have lt:∀(i:Nat),i<16->at_ (ns.map Int.toNat) i=(ns.getD i 0).toNat:=fun i hi=>by
  rw[kE (by omega),List.getElem_map,d7,bu (by omega)];rfl
 have dr:(∀i,n<=i->i<16->at_ (ns.map Int.toNat) i=i)↔ns.drop n=f_ n 16:=by
  constructor
  ·intro h
   apply List.ext_getElem
   ·unfold f_;simp[hl]
   ·intro i h1 h2
    have hi:n+i<16:=by simp[hl]at h1;omega
    have:=h (n+i) (by omega) hi
    rw[lt _ hi,d7,bu (by omega)]at this
    have nn:=h0 ns[n+i] (iY _)
    have e2:(f_ n 16)[i]=((n+i:Nat):Int):=by
     simp only [f_,List.getElem_map,List.getElem_range']
     omega
    rw[List.getElem_drop,e2]
    simp at this
    omega
  ·intro e i h1 h2
   have:=bO (fun l=>l[i - n]?) e
   simp only [List.getElem?_drop,f_]at this
   rw[show n+(i - n)=i by omega,bu (by omega),bX,List.getElem?_range' (by omega)]at this
   rw[lt i h2,d7,bu (by omega)]
   simp at this ⊢
   omega
 rw[E5,dr]
 have key:(∀x,x<n->x∈(ns.map Int.toNat).take n)↔ys=f_ 0 n:=by
  constructor
  ·intro h
   have hs:((ns.map Int.toNat).take n).length=n:=by simp[hl];omega
   have fJ:∀v,v<n->∃i,i<n/\((ns.map Int.toNat).take n).getD i 0=v:=fun v hv=>by
    obtain⟨i,hi,e⟩:=List.mem_iff_getElem.mp (h v hv)
    exact⟨i,by omega,by rw[d7,bu hi];exact e⟩
   have ij:=x_ fJ
   have gd:∀i (hi:i<((ns.map Int.toNat).take n).length),((ns.map Int.toNat).take n).getD i 0=((ns.map Int.toNat).take n)[i]:=fun i hi=>by
    rw[d7,bu hi];rfl
   have nd:((ns.map Int.toNat).take n).Nodup:=by
    unfold List.Nodup
    rw[List.pairwise_iff_getElem]
    intro i j hi hj hij e
    rw[<-gd i hi,<-gd j hj]at e
    have:=ij.2 i j (by omega) (by omega) e
    omega
   have pp:((ns.map Int.toNat).take n).Perm (List.range n):=by
    rw[List.perm_ext_iff_of_nodup nd o3]
    intro v
    rw[a6]
    constructor
    ·intro hv
     obtain⟨i,hi,e⟩:=List.mem_iff_getElem.mp hv
     rw[<-e,<-gd i hi]
     exact ij.1 i (by omega)
    ·exact h v
   have p2:ys.Perm (f_ 0 n):=by
    refine p.trans ?_
    have:=pp.map fun (x:Nat)=>(x:Int)
    rw[<-List.map_take]at this
    rw[show f_ 0 n=(List.range n).map fun (x:Nat)=>(x:Int) by unfold f_;rw[List.range_eq_range'];rfl]
    have e:=MK (l:=ns.take n) fun x hx=>h0 x (mw hx)
    unfold fK at e
    rwa[e]at this
   refine List.Perm.eq_of_pairwise (le:=(·<=·)) (fun a b _ _ h1 h2=>by omega) s ?_ p2
   unfold f_
   rw[List.pairwise_map]
   exact(List.pairwise_lt_range' (s:=0) (n:=n - 0)).imp fun h=>by omega
  ·intro e x hx
   have:(x:Int)∈ys:=by
    rw[e];unfold f_;simp only [bW,List.mem_range'_1];exact⟨x,by omega,rfl⟩
   have:=p.mem_iff.mp this
   rw[<-List.map_take]
   exact bW.mpr ⟨_,this,by simp⟩
 rw[key]
 exact⟨fun h=>⟨h.2.2.1,h.2.2.2⟩,fun h=>⟨hn,hlen,h.1,h.2⟩⟩
end BB
end
section
namespace BB
open Wqaraq
theorem E7{p:Nat->Bool}{v:Nat}(hv:v<16):cnt (fun j=>p j&&decide (j=v))=if p v=true then 1 else 0:=by
 unfold cnt
 have:∀(l:List Nat),l.Nodup->l.countP (fun j=>p j&&decide (j=v))=if v∈l/\p v=true then 1 else 0:=by
  intro l
  induction l with
  |nil=>intro _;simp
  |cons a l ih=>
   intro nd
   obtain⟨h1,h2⟩:=kW.mp nd
   rw[jD,ih h2]
   by_cases e:a=v
   ·subst e
    simp[h1]
   ·have:¬v=a:=fun q=>e q.symm
    simp[e,this]
 rw[this _ o3]
 simp[hv]
theorem sJ{a:Perm}(ha:aw a):∀v,v<=16->cnt (fun j=>decide (at_ a j<v))=v:=by
 intro v
 induction v with
 |zero=>intro _;unfold cnt;simp
 |succ v ih=>
  intro hv
  have e:=u0 (p:=fun j=>decide (at_ a j<v+1)) (q:=fun j=>decide (at_ a j<v))
  obtain⟨i,hi,ei⟩:=ha.fJ v (by omega)
  have e1:cnt (fun j=>decide (at_ a j<v+1)&&decide (at_ a j<v))=v:=by
   rw[<-ih (by omega)]
   apply lK
   intro j hj
   by_cases c:at_ a j<v<;>simp[c]<;>omega
  have e2:cnt (fun j=>decide (at_ a j<v+1)&& !decide (at_ a j<v))=1:=by
   have:cnt (fun j=>decide (at_ a j<v+1)&& !decide (at_ a j<v))=cnt (fun j=>(fun _=>true) j&&decide (j=i)):=by
    apply lK
    intro j hj
    rw[jC]
    simp
    constructor
    ·intro ⟨h1,h2⟩;exact ha.inj j i hj hi (by omega)
    ·intro h;subst h;omega
   rw[this,E7 hi];rfl
  omega
theorem MM{a:Perm}(ha:aw a){i:Nat}(hi:i<16):cnt (fun j=>decide (at_ a j<at_ a i))=at_ a i:=sJ ha _ (by have:=ha.lt i hi;omega)
theorem E8{a:Perm}(ha:aw a){i:Nat}(hi:i<16)(c:Nat->Nat->Bool)(hc:∀p q,p<q->q<16->(c p q=true↔X a p q)):
  cnt (fun j=>decide (j<i)&& !c j i)+cnt (fun j=>decide (i<j)&&c i j)=at_ a i:=by
 rw[<-MM ha hi]
 have e:=u0 (p:=fun j=>decide (at_ a j<at_ a i)) (q:=fun j=>decide (j<i))
 rw[e]
 congr 1
 ·apply lK
  intro j hj
  rw[jC]
  simp only [br,gH,fu]
  by_cases lt:j<i
  ·have:=hc j i lt hi
   have:=ha.ne hj hi (by omega)
   cases ec:c j i<;>simp[ec,X]at this<;>simp[lt]<;>(unfold X at *; simp[ec]at *; omega)
  ·simp[lt]
 ·apply lK
  intro j hj
  rw[jC]
  simp only [br,gH,fu,decide_eq_false_iff_not]
  by_cases lt:i<j
  ·have:=hc i j lt hj
   rw[this]
   unfold X
   omega
  ·have:¬X a i j->True:=fun _=>trivial
   by_cases e:j=i
   ·subst e;omega
   ·omega
theorem yO(f:Nat×Nat->Bool):pairs.countP f=((List.range 16).map fun i=>cnt fun j=>decide (i<j)&&f (i,j)).sum:=by
 unfold pairs WIDE cnt
 rw[List.countP_flatMap]
 refine bO List.sum (gI fun i _=>?_)
 rw[Function.comp,List.countP_map,List.countP_filter]
 exact m7 fun j _=>by simp[Function.comp,and_comm]
theorem E9:∀(l:List Nat) (i:Nat) (k:Nat),l.Nodup->(l.map fun j=>if j=i then k else 0).sum=if i∈l then k else 0
 |[],i,k,_=>by simp
 |a::l,i,k,nd=>by
  obtain⟨h1,h2⟩:=kW.mp nd
  rw[dQ,qV,E9 l i k h2]
  by_cases e:a=i
  ·subst e;simp[h1]
  ·have:¬i=a:=fun q=>e q.symm
   simp[e,this]
theorem MN(f:Nat×Nat->Bool){i:Nat}(hi:i<16):pairs.countP (fun x=>f x&&x.1 == i)=cnt fun j=>decide (i<j)&&f (i,j):=by
 rw[yO]
 have:((List.range 16).map fun i'=>cnt fun j=>decide (i'<j)&&(f (i',j)&&i' == i))=(List.range 16).map fun i'=>if i'=i then (cnt fun j=>decide (i<j)&&f (i,j)) else 0:=by
  apply gI
  intro i' _
  by_cases e:i'=i
  ·subst e;simp
  ·rw[ae e]
   unfold cnt
   rw[uk]
   intro j _
   simp[e]
 show ((List.range 16).map fun i'=>cnt fun j=>decide (i'<j)&&(f (i',j)&&i' == i)).sum=_
 rw[this,E9 _ _ _ o3,af (a6.mpr hi)]
theorem E_:∀(l:List Nat) (p:Nat->Bool),(l.map fun j=>if p j=true then 1 else 0).sum=l.countP p
 |[],p=>by simp
 |a::l,p=>by
  rw[dQ,qV,E_ l p,jD];omega
theorem MO(f:Nat×Nat->Bool){i:Nat}(hi:i<16):pairs.countP (fun x=>f x&&x.2 == i)=cnt fun j=>decide (j<i)&&f (j,i):=by
 rw[yO]
 have:((List.range 16).map fun i'=>cnt fun j=>decide (i'<j)&&(f (i',j)&&j == i))=(List.range 16).map fun i'=>if (decide (i'<i)&&f (i',i))=true then 1 else 0:=by
  apply gI
  intro i' _
  rw[<-E7 (p:=fun j=>decide (i'<j)&&f (i',j)) hi]
  apply lK
  intro j _
  simp only [Bool.and_assoc]
  congr 2
 show ((List.range 16).map fun i'=>cnt fun j=>decide (i'<j)&&(f (i',j)&&j == i)).sum=_
 rw[this,E_];rfl
theorem MP{α:Type}{l:List α}{p q:α->Bool}(h:∀x,x∈l->p x=true->q x=true)(e:(l.filter q).length=(l.filter p).length):l.filter q=l.filter p:=by
 have:∀x,x∈l->q x=p x:=by
  intro x hx
  cases ep:p x
  ·cases eq:q x
   ·rfl
   ·exfalso
    have:=rV (p:=p) (q:=q) h ⟨x,hx,eq,ep⟩
    rw[iB,iB]at this
    omega
  ·exact h x hx ep
 exact List.filter_congr this
theorem Fb:∀(f:Nat) (R:Nat->Nat->Prop) (p:Nat×Nat->Bool),(∀i k,i<k->k<16->p (i,k)=true->TC R i k)->(∀i k,R i k->i<k/\k<16/\p (i,k)=true)->120 - f<=(pairs.filter p).length->
  ∃q:Nat×Nat->Bool,closed f (pairs.filter p)=pairs.filter q/\∀i k,i<k->k<16->(q (i,k)=true↔TC R i k)
 |0,R,p,h1,h2,h3=>by
  refine⟨p,rfl,fun i k hik hk=>⟨h1 i k hik hk,fun _=>?_⟩⟩
  have e:(pairs.filter p).length=pairs.length:=by
   have:=qU p pairs
   have e:pairs.length=120:=by decide+kernel
   omega
  have:=List.length_filter_eq_length_iff.mp e (i,k) (nO.mpr ⟨hik,hk⟩)
  exact this
 |f+1,R,p,h1,h2,h3=>by
  have tcl:∀i k,TC R i k->i<k/\k<16:=by
   intro i k t
   induction t with
   |one r=>exact⟨(h2 _ _ r).1,(h2 _ _ r).2.1⟩
   |step r _ ih=>exact⟨Nat.lt_trans (h2 _ _ r).1 ih.1,ih.2⟩
  let p':Nat×Nat->Bool:=fun x=>(pairs.filter p).contains x||(List.range WIDE).any fun (j:Nat)=>(pairs.filter p).contains (x.1,j)&&(pairs.filter p).contains (j,x.2)
  have mp:∀i k,(i,k)∈pairs.filter p↔(i<k/\k<16)/\p (i,k)=true:=fun i k=>by rw[iX,nO]
  have hp':∀i k,p' (i,k)=true↔(i,k)∈pairs.filter p\/∃j,j<16/\(i,j)∈pairs.filter p/\(j,k)∈pairs.filter p:=fun i k=>by
   show (_||_)=true↔_
   simp only [mn,List.contains_iff_mem,List.any_eq_true,a6,br,WIDE]
  have up:∀x,x∈pairs->p x=true->p' x=true:=fun x hx e=>(hp' x.1 x.2).mpr (.inl (iX.mpr ⟨hx,e⟩))
  have e1:closed (f+1) (pairs.filter p)=if (pairs.filter p').length=(pairs.filter p).length then pairs.filter p' else closed f (pairs.filter p'):=rfl
  have h1':∀i k,i<k->k<16->p' (i,k)=true->TC R i k:=by
   intro i k hik hk e
   rcases(hp' i k).mp e with e|⟨j,hj,e2,e3⟩
   ·exact h1 i k hik hk ((mp i k).mp e).2
   ·have a1:=(mp i j).mp e2
    have a2:=(mp j k).mp e3
    exact(h1 i j a1.1.1 a1.1.2 a1.2).trans (h1 j k a2.1.1 a2.1.2 a2.2)
  rw[e1]
  by_cases c:(pairs.filter p').length=(pairs.filter p).length
  ·rw[af c]
   have ee:=MP up c
   refine⟨p',rfl,fun i k hik hk=>⟨h1' i k hik hk,fun t=>?_⟩⟩
   have tr:∀i k,TC R i k->(i,k)∈pairs.filter p:=by
    intro i k t
    induction t with
    |one r=>exact(mp _ _).mpr ⟨⟨(h2 _ _ r).1,(h2 _ _ r).2.1⟩,(h2 _ _ r).2.2⟩
    |step r t ih=>
     rename_i i j k
     have a:=h2 _ _ r
     rw[<-ee]
     refine iX.mpr ⟨nO.mpr (tcl _ _ (.step r t)),(hp' i k).mpr (.inr ⟨j,a.2.1,(mp _ _).mpr ⟨⟨a.1,a.2.1⟩,a.2.2⟩,ih⟩)⟩
   exact(hp' i k).mpr (.inl (tr i k t))
  ·rw[ae c]
   refine Fb f R p' h1' (fun i k r=>?_) ?_
   ·have a:=h2 i k r
    exact⟨a.1,a.2.1,(hp' i k).mpr (.inl ((mp i k).mpr ⟨⟨a.1,a.2.1⟩,a.2.2⟩))⟩
   ·have le:(pairs.filter p).length<=(pairs.filter p').length:=by
     rw[<-iB,<-iB]
     exact List.countP_mono_left up
    omega
theorem join_eq{a b:Perm}(ha:aw a)(hb:aw b):joinOf a b=jn a b:=by
 obtain⟨q,e,hq⟩:=Fb 120 (kq a b) (fun x=>cross a x||cross b x) (fun i k hik hk e=>by
  rw[mn,cV hik,cV hik]at e
  exact .one ⟨hik,hk,e⟩) (fun i k r=>⟨r.1,r.2.1,by rw[mn,cV r.1,cV r.1];exact r.2.2⟩) (by omega)
 have hj:=nM ha hb
 refine dC (bJ _) hj.len fun i hi=>?_
 have e2:joinOf a b=made fun (i:Nat)=>i+((pairs.filter q).filter fun (x:Nat×Nat)=>x.1 == i).length - ((pairs.filter q).filter fun (x:Nat×Nat)=>x.2 == i).length:=by
  show made _=made _
  rw[e]
 rw[e2,gZ hi,<-E8 hj hi (fun p r=>q (p,r)) (fun p r h1 h2=>(hq p r h1 h2).trans ((pN ha hb).x h2 h1).symm)]
 rw[List.filter_filter,List.filter_filter,<-iB,<-iB]
 rw[show (fun (x:Nat×Nat)=>x.1 == i&&q x)=fun x=>q x&&x.1 == i from funext fun x=>Bool.and_comm _ _,show (fun (x:Nat×Nat)=>x.2 == i&&q x)=fun x=>q x&&x.2 == i from funext fun x=>Bool.and_comm _ _]
 rw[MN q hi,MO q hi]
 have:=u0 (p:=fun j=>decide (j<i)) (q:=fun j=>q (j,i))
 rw[Mo (by omega)]at this
 omega
theorem MQ{a b:Perm}(ha:aw a)(hb:aw b):meetOf a b=then_ (jn (then_ a (delta 16)) (then_ b (delta 16))) (delta 16):=by
 have hD:=(bV (n:=16) (by omega)).aa
 have dd:=jo (n:=16) (by omega)
 have ad:=ha.then_ hD
 have bd:=hb.then_ hD
 have hj:=nM ad bd
 have cx:∀(x:Perm),aw x->∀i j,i<16->j<16->i≠j->(X (then_ x (delta 16)) i j↔¬X x i j):=by
  intro x hx i j hi hj n
  rw[nE hx hD hi hj,yj (hx.lt i hi) (hx.lt j hj)]
  have:=hx.ne hi hj n
  have:=hx.lt i hi
  have:=hx.lt j hj
  constructor
  ·rintro(⟨_,h⟩|⟨h,_⟩)
   ·exact(h ⟨by omega,by omega,by omega⟩).elim
   ·exact h
  ·intro h;exact .inr ⟨h,by omega,by omega,by omega⟩
 have anti:∀(x y:Perm),aw x->aw y->Le x y->Le (then_ y (delta 16)) (then_ x (delta 16)):=by
  intro x y hx hy h i j hi hj z
  by_cases n:i=j
  ·subst n;exact(uY z).elim
  ·rw[cx y hy i j hi hj n]at z
   rw[cx x hx i j hi hj n]
   exact fun w=>z (h i j hi hj w)
 have back2:∀(x:Perm),aw x->then_ (then_ x (delta 16)) (delta 16)=x:=fun x hx=>by rw[then_assoc hx,dd,dD hx]
 refine u5 ha hb ⟨hj.then_ hD,?_,?_,fun x hx xa xb=>?_⟩
 ·have:=anti _ _ ad hj (yf ad bd)
  rwa[back2 a ha]at this
 ·have:=anti _ _ bd hj (yg ad bd)
  rwa[back2 b hb]at this
 ·have:=anti _ _ hj (hx.then_ hD) (rW ad bd (hx.then_ hD) (anti x a hx ha xa) (anti x b hx hb xb))
  rwa[back2 x hx]at this
end BB
end
section
namespace BB
open Wqaraq
def gf(n:Nat)(c:Nat->Nat):Nat->Nat
 |0=>0
 |k+1=>gf n c k * (n - k)+c k
theorem Fc(n:Nat)(c:Nat->Nat):∀k,k<=n->gf n c k * factorial (n - k)=(List.range k).foldl (fun s i=>s+c i * factorial (n - 1 - i)) 0
 |0,_=>by simp[gf]
 |k+1,h=>by
  rw[iZ,jE,gG,List.foldl_nil,<-Fc n c k (by omega)]
  have e:n - k=(n - (k+1))+1:=by omega
  rw[show n - 1 - k=n - (k+1) by omega]
  have e2:factorial (n - k)=(n - k) * factorial (n - (k+1)):=by
   rw[e];exact bO (· * _) (by omega)
  rw[e2]
  show (gf n c k * (n - k)+c k) * _=_
  rw[Nat.add_mul,Nat.mul_assoc]
theorem yP(n:Nat)(a:Perm):number n a=gf n (fun i=>((List.range n).filter fun j=>decide (i<j)&&decide (at_ a j<at_ a i)).length) n:=by
 have:=Fc n (fun i=>((List.range n).filter fun j=>decide (i<j)&&decide (at_ a j<at_ a i)).length) n (aX n)
 rw[o4]at this
 unfold number
 rw[<-this]
 rw[show factorial 0=1 from rfl,Nat.mul_one]
theorem Fd(l:List Nat)(k:Nat)(p:Nat->Bool):(l.drop k).countP p=(List.range l.length).countP fun j=>decide (k<=j)&&p (l.getD j 0):=by
 induction l generalizing k with
 |nil=>simp
 |cons a l ih=>
  rw[bP,xf,jD,List.countP_map]
  cases k with
  |zero=>
   have:=ih 0
   rw[List.drop_zero]at this ⊢
   rw[jD,this]
   congr 1
   all_goals simp[Function.comp]
  |succ k=>
   rw[List.drop_succ_cons,ih k]
   rw[show (if (decide (k+1<=0)&&p ((a::l).getD 0 0))=true then 1 else 0)=0 by simp,Nat.add_zero]
   exact m7 fun j _=>by simp[Function.comp]
theorem MR(a:Perm){n i:Nat}(hl:a.length=16)(hn:n<=16):(((a.take n).drop (i+1)).countP fun x=>decide (x<at_ a i))=((List.range n).filter fun j=>decide (i<j)&&decide (at_ a j<at_ a i)).length:=by
 rw[Fd,dz,hl,show min n 16=n by omega,<-iB]
 apply m7
 intro j hj
 have hj:=a6.mp hj
 rw[show (a.take n).getD j 0=at_ a j by unfold at_;simp[d7,List.getElem?_take,hj]]
 simp only [br,gH,Nat.succ_le_iff]
def picks:List Nat->List Nat->List Nat
 |[],_=>[]
 |d::ds,left=>left.getD d 0::picks ds (left.eraseIdx d)
def digit(m j:Nat):Nat:=m / factorial j % (j+1)
theorem Fe(n m:Nat):∀k left,numberedFrom n k (m % factorial k) left=picks ((List.range k).reverse.map (digit m)) left
 |0,left=>rfl
 |k+1,left=>by
  have e1:m % factorial (k+1) / factorial k=digit m k:=by
   show m % ((k+1) * factorial k) / factorial k=m / factorial k % (k+1)
   rw[Nat.mul_comm,Nat.mod_mul_right_div_self]
  have e2:m % factorial (k+1) % factorial k=m % factorial k:=by
   show m % ((k+1) * factorial k) % factorial k=_
   exact Nat.mod_mod_of_dvd _ (Nat.dvd_mul_left _ _)
  rw[iZ,List.reverse_append,List.reverse_singleton,List.singleton_append,dQ]
  show left.getD (m % factorial (k+1) / factorial k) 0::numberedFrom n k (m % factorial (k+1) % factorial k) (left.eraseIdx (m % factorial (k+1) / factorial k))=_
  rw[e1,e2,Fe n m k]
  rfl
theorem Ff:∀ds left,(picks ds left).length=ds.length
 |[],_=>rfl
 |d::ds,left=>bO (·+1) (Ff ds _)
theorem Fg:∀(f:Nat) (a:Perm),aw a->size a<=f->rowFrom (f+1) a=rowFrom f a
 |0,a,ha,h=>by
  rw[rowFrom,rowFrom]
  split
  ·rfl
  ·rename_i i e
   have hi:i<15:=a6.mp (qQ e)
   have c:=qR e
   rw[cV (by omega)]at c
   have:=nP ha hi c;omega
 |f+1,a,ha,h=>by
  rw[rowFrom,rowFrom]
  split
  ·rfl
  ·rename_i i e
   have hi:i<15:=a6.mp (qQ e)
   have c:=qR e
   rw[cV (by omega)]at c
   rw[Fg f (exchanged i a) (by rw[iQ hi];exact(iP hi).then_ ha) (by have:=nP ha hi c;omega)]
theorem vi{a:Perm}(ha:aw a):row a=match (List.range 15).find? (fun i=>cross a (i,i+1)) with
  |none=>[]
  |some i=>((i+1:Nat):Int)::row (exchanged i a):=by
 show rowFrom 120 a=_
 rw[<-Fg 120 a ha (size_le a)]
 rw[rowFrom]
 rfl
theorem vj{a:Perm}(ha:aw a){i:Nat}(hi:i<15):aw (exchanged i a):=by
 rw[iQ hi];exact(iP hi).then_ ha
def pX(a:Perm)(i:Nat):Prop:=∀j,j<i->j<15->at_ a j<at_ a (j+1)
theorem MS{a:Perm}(ha:aw a){i:Nat}(hi:i<15)(u:pX a i)(c:at_ a (i+1)<at_ a i):row a=((i+1:Nat):Int)::row (exchanged i a):=by
 rw[vi ha]
 have:(List.range 15).find? (fun i=>cross a (i,i+1))=some i:=by
  rw[List.find?_range_eq_some]
  refine⟨?_,by simpa using hi,fun j hj=>?_⟩
  ·rw[cV (by omega)];unfold X;omega
  ·have:=u j hj (by omega)
   rw[fu,Bool.eq_false_iff]
   intro q
   rw[cV (by omega)]at q
   unfold X at q;omega
 rw[this]
theorem MT{a:Perm}(ha:aw a)(u:pX a 15):row a=[]:=by
 rw[vi ha]
 have:(List.range 15).find? (fun i=>cross a (i,i+1))=none:=by
  rw[List.find?_eq_none]
  intro j hj q
  have hj:=a6.mp hj
  have:=u j hj hj
  rw[cV (by omega)]at q
  unfold X at q;omega
 rw[this]
theorem MU{a:Perm}(ha:aw a){i:Nat}(hi:i<15)(u:pX a i):pX (exchanged i a) (i - 1):=by
 intro j hj h15
 have:=u j (by omega) h15
 rw[jS (by omega),jS (by omega),ae (by omega),ae (by omega),ae (by omega),ae (by omega)]
 exact this
theorem yQ:∀(k:Nat) {a:Perm},aw a->size a<=k->follow (row a)=a
 |k,a,ha,h=>by
  rw[vi ha]
  split
  ·rename_i e
   rw[rZ]
   symm
   apply x8 ha
   intro i hi
   have:=List.find?_eq_none.mp e i (a6.mpr hi)
   rw[cV (by omega)]at this
   have:=ha.ne (show i<16 by omega) (show i+1<16 by omega) (by omega)
   unfold X at *; omega
  ·rename_i i e
   have hi:i<15:=a6.mp (qQ e)
   have c:=qR e
   rw[cV (by omega)]at c
   have lt:=nP ha hi c
   rw[Eu hi]
   cases k with
   |zero=>omega
   |succ k=>
    rw[yQ k (vj ha hi) (by omega),iQ hi]
    have:=c9 (iP hi) ha
    rwa[rY hi]at this
theorem jt{n:Nat}{c:Int}:crossing n c=true↔1<=c.natAbs/\c.natAbs<n:=by
 unfold crossing;rw[br,gH,gH];omega
theorem yR(w:Row)(c:Int):follow (w++[c])=if crossing 16 c=true then then_ (follow w) (single (c.natAbs - 1)) else follow w:=by
 rw[pP]
 split
 ·rename_i h
  rw[jt]at h
  congr 1
  refine dC (bJ _) (bJ _) fun i hi=>?_
  rw[jk hi,rX (by omega) hi]
  show swapped c i=_
  unfold swapped WIDE
  rw[af (jt.mpr h)]
  rw[show c.natAbs - 1+1=c.natAbs by omega]
 ·rename_i h
  have:follow [c]=still:=dC (bJ _) (bJ _) fun i hi=>by
   rw[jk hi,eN hi]
   show swapped c i=i
   unfold swapped WIDE
   rw[ae h]
  rw[this,dD (gO w)]
theorem yS{p:Perm}(hp:aw p){i:Nat}(hi:i<15):back (then_ p (single i))=exchanged i (back p):=by
 have hs:=iP hi
 have hq:=hp.then_ hs
 refine jj hq hq.back (vj hp.back hi) ?_
 rw[jR hq,iQ hi,then_assoc hp,<-then_assoc hs]
 have:then_ (single i) (single i)=still:=by
  have:=jR hs
  rwa[rY hi]at this
 rw[this,fZ hp.back,jR hp]
theorem Fh(a:Perm)(hl:a.length=16):crossings a=((List.range 16).map fun k=>(a.drop (k+1)).countP fun x=>decide (x<at_ a k)).sum:=by
 unfold crossings
 rw[<-iB,yO]
 congr 1
 apply gI
 intro i hi
 rw[Fd,hl]
 rfl
def bit(b:Bool):Nat:=if b=true then 1 else 0
def pY(f:Nat->Bool):Nat->Nat
 |0=>0
 |k+1=>2 * pY f k+bit (f (14 - k))
theorem MV(f:Nat->Bool):pY f 15=mask f:=by
 have hb:∀(m i:Nat),(if f i=true then m+2 ^ i else m)=m+bit (f i) * 2 ^ i:=fun m i=>by
  unfold bit;split<;>simp
 unfold mask
 simp only [hb]
 simp only [List.range,List.range.loop,gG,List.foldl_nil,pY,Nat.reduceSub]
 omega
theorem Fi{a b:Perm}:begins a b=true↔∀i j,i<j->j<16->X a i j->X b i j:=by
 unfold begins
 rw[mj]
 constructor
 ·intro h i j hij hj x
  have:=h (i,j) (nO.mpr ⟨hij,hj⟩)
  rw[mn,fu,<-o5,cV hij,cV hij]at this
  exact this.resolve_left fun z=>z x
 ·rintro h ⟨i,j⟩ hx
  obtain⟨hij,hj⟩:=nO.mp hx
  rw[mn,fu,<-o5,cV hij,cV hij]
  by_cases x:X a i j
  ·exact .inr (h i j hij hj x)
  ·exact .inl x
end BB
end
section
namespace BB
open Wqaraq
theorem MW{c p q:Perm}(hc:aw c)(hp:aw p)(hq:aw q)(rp:Red c p)(rq:Red c q):meetOf (then_ c p) (then_ c q)=then_ c (meetOf p q):=by
 have g:=d_ hp hq
 have G:=d_ (hc.then_ hp) (hc.then_ hq)
 refine u5 (hc.then_ hp) (hc.then_ hq) ⟨hc.then_ g.aa,iO hc g.aa hp g.left rp,iO hc g.aa hq g.right rq,fun x hx h1 h2=>?_⟩
 have cm:Le c (meetOf (then_ c p) (then_ c q)):=G.most c hc (rp.le hc hp) (rq.le hc hq)
 have hw:=hc.back.then_ G.aa
 have rw_:=cm.red hc G.aa
 have ew:=c9 hc G.aa
 have w1:Le (then_ (back c) (meetOf (then_ c p) (then_ c q))) p:=mH hc hw hp rw_ rp (by rw[ew];exact G.left)
 have w2:Le (then_ (back c) (meetOf (then_ c p) (then_ c q))) q:=mH hc hw hq rw_ rq (by rw[ew];exact G.right)
 have w3:=iO hc hw g.aa (g.most _ hw w1 w2) (nI hc g.left rp)
 rw[ew]at w3
 exact(G.most x hx h1 h2).trans w3
theorem mO{a:Perm}(ha:aw a)(h:Le a still):a=still:=Le.antisymm ha dI h Le.still
section
variable{n:Nat}(hn:n<=16)
include hn
theorem Fj{c d:Perm}(hc:Rt n c)(hd:Rt n d)(h:Le c d):rest n (then_ (back c) d)=then_ (rest n d) (turned n c)/\Red (rest n d) (turned n c):=by
 have hD:=(bV hn).aa
 constructor
 ·have he:=hc.aa.back.then_ hd.aa
  refine jj he ((hc.back.then_ hd).rest hn).aa ((hd.rest hn).aa.then_ (cD hn hc).aa) ?_
  rw[kx hn (hc.back.then_ hd),<-then_assoc he,show then_ (then_ (back c) d) (rest n d)=then_ (back c) (delta n) by rw[then_assoc hc.aa.back,kx hn hd]]
  rw[kz hn hc,then_assoc hc.aa.back,<-then_assoc hD,<-then_assoc hD,jo hn,fZ hc.aa,<-then_assoc hc.aa.back,rS hc.aa,fZ hD]
 ·rw[eg hn (hd.rest hn) (cD hn hc),mJ hn hd]
  exact nU hn hc hd h
theorem Fk{a b:Perm}(ha:Rt n a)(hb:Rt n b)(h:meetOf a b=still):meetOf (turned n a) (turned n b)=still:=by
 have ta:=cD hn ha
 have tb:=cD hn hb
 have g:=d_ ta.aa tb.aa
 have hz:Rt n (meetOf (turned n a) (turned n b)):=Rt.of_le g.aa ta g.left
 have h1:=nU hn hz ta g.left
 have h2:=nU hn hz tb g.right
 rw[jV hn ha]at h1
 rw[jV hn hb]at h2
 have h3:=(d_ ha.aa hb.aa).most _ (cD hn hz).aa h1 h2
 rw[h]at h3
 have h4:=mO (cD hn hz).aa h3
 rw[<-jV hn hz,h4,kC hn]
theorem Fl{a b m f:Perm}(ha:Rt n a)(hb:Rt n b)(hm:Rt n m)(hf:Rt n f)(ab:hand n a b=still)(bm:Red b m)(mf:Red m f)(h:hand n (then_ b m) f=still):
  hand n (then_ (back (hand n a (then_ b m))) (then_ b m)) f=still:=by
 have h1:=hb.then_ hm
 have hk:=c_ hn ha h1
 have kl:=gz hn ha h1
 have kr:=f9 hn ha h1
 generalize hand n a (then_ b m)=k at *
 have h2:=hk.back.then_ h1
 have hx:=c_ hn h2 hf
 have xl:=gz hn h2 hf
 have xr:=f9 hn h2 hf
 generalize hand n (then_ (back k) (then_ b m)) f=x at *
 have R:=(h1.rest hn).aa
 have bl:Le b (then_ b m):=bm.le hb.aa hm.aa
 have e1:=Fj hn hk h1 kl
 have e2:=Fj hn hb h1 bl
 rw[x5 hb.aa hm.aa]at e2
 have x1:=(eg hn h2 hx).mp xr
 have x2:=(eg hn hm hx).mp (nI hm.aa xl mf)
 rw[e1.1]at x1
 rw[e2.1]at x2
 have kb:meetOf k b=still:=by
  have g:=d_ hk.aa hb.aa
  refine mO g.aa ?_
  rw[<-ab]
  exact jm hn ha hb g.aa g.right (nI ha.aa g.left kr)
 have x3:=(d_ (R.then_ (cD hn hk).aa) (R.then_ (cD hn hb).aa)).most x hx.aa x1 x2
 rw[MW R (cD hn hk).aa (cD hn hb).aa e1.2 e2.2,Fk hn hk hb kb,dD R]at x3
 have x4:=jm hn h1 hf hx.aa xl ((eg hn h1 hx).mpr x3)
 rw[h]at x4
 exact mO hx.aa x4
structure kF(n:Nat)(a b m:Perm):Prop where
 rt:Rt n m
 le:Le m b
 red:Red a m
theorem MX{a b:Perm}(ha:Rt n a):kF n a b still:=⟨jT,Le.still,pM ha.aa⟩
theorem kF.step{a b m:Perm}(ha:Rt n a)(hb:Rt n b)(h:kF n a b m){i:Nat}(hi:i<15)(h1:at_ (back (then_ a m)) i<at_ (back (then_ a m)) (i+1))(h2:at_ (then_ (back m) b) (i+1)<at_ (then_ (back m) b) i):
  kF n a b (then_ m (single i))/\back (then_ a (then_ m (single i)))=exchanged i (back (then_ a m))/\then_ (back (then_ m (single i))) b=exchanged i (then_ (back m) b):=by
 have hs:=iP hi
 have hm:=h.rt.aa
 have ham:=ha.aa.then_ hm
 have hl:=hm.back.then_ hb.aa
 have sl:Le (single i) (then_ (back m) b):=(pO hi).mpr (.inl ⟨by omega,h2⟩)
 have mb:=h.le.red hm hb.aa
 have le:Le (then_ m (single i)) b:=by
  have:=iO hm hs hl sl mb
  rwa[c9 hm hb.aa]at this
 have r1:Red (then_ a m) (single i):=by
  intro p q hp hq x y
  rw[u1 hi (ham.lt p hp) (ham.lt q hq)]at y
  have b1:=g6 ham hp
  have b2:=g6 ham hq
  rcases y with ⟨y1,y2⟩|⟨y1,y2⟩
  ·rw[y1]at b1;rw[y2]at b2
   rw[b1,b2]at h1
   unfold X at x;omega
  ·rw[y2]at b1;rw[y1]at b2
   rw[b1,b2]at h1
   unfold X at x;omega
 have r2:=((h.red.assoc ha.aa hm hs).mp r1).2
 refine⟨⟨Rt.of_le (hm.then_ hs) hb le,le,r2⟩,?_,?_⟩
 ·rw[<-then_assoc ha.aa,yS ham hi]
 ·rw[iQ hi,yS hm hi,iQ hi,then_assoc hs]
theorem kF.done{a b m:Perm}(ha:Rt n a)(hb:Rt n b)(h:kF n a b m)(k:∀i,i<15->¬(at_ (back (then_ a m)) i<at_ (back (then_ a m)) (i+1)/\at_ (then_ (back m) b) (i+1)<at_ (then_ (back m) b) i)):hand n a b=m:=by
 have hm:=h.rt.aa
 have hh:=c_ hn ha hb
 have ml:=jm hn ha hb hm h.le h.red
 have hw:=hm.back.then_ hh.aa
 have ew:=c9 hm hh.aa
 have mr:=ml.red hm hh.aa
 by_cases e:then_ (back m) (hand n a b)=still
 ·rw[e,dD hm]at ew
  exact ew.symm
 ·obtain⟨i,hi,x⟩:=x9 hw e
  have hs:=iP hi
  have sw:=(pO hi).mpr x
  refine absurd ?_ (k i hi)
  have wl:Le (then_ (back m) (hand n a b)) (then_ (back m) b):=mH hm hw (hm.back.then_ hb.aa) mr (h.le.red hm hb.aa) (by rw[ew,c9 hm hb.aa];exact gz hn ha hb)
  have x2:=wl i (i+1) (by omega) (by omega) x
  have r1:Red (then_ a m) (then_ (back m) (hand n a b)):=(h.red.assoc ha.aa hm hw).mpr ⟨mr,by rw[ew];exact f9 hn ha hb⟩
  have ham:=ha.aa.then_ hm
  have bi:=lJ ham (show i<16 by omega)
  have bj:=lJ ham (show i+1<16 by omega)
  have hne:at_ (back (then_ a m)) i≠at_ (back (then_ a m)) (i+1):=ham.back.ne (by omega) (by omega) (by omega)
  constructor
  ·have:=r1 _ _ bi.1 bj.1
   rw[bi.2,bj.2]at this
   have nx:¬X (then_ a m) (at_ (back (then_ a m)) i) (at_ (back (then_ a m)) (i+1)):=fun q=>this q x
   unfold X at nx
   rw[bi.2,bj.2]at nx
   omega
  ·unfold X at x2;omega
end
def hJ(A L:Perm)(j:Nat):Prop:=¬(at_ A j<at_ A (j+1)/\at_ L (j+1)<at_ L j)
structure kG(A L:Perm)(i to:Nat):Prop where
 le:to<=i
 below:∀j,j+1<to->hJ A L j
 above:∀j,to<=j->j<i->hJ A L j
 over:0<to->to<i->¬(at_ A (to - 1)<at_ A (to+1)/\at_ L (to+1)<at_ L (to - 1))
theorem kG.start{A L:Perm}{i:Nat}(h:∀j,j+1<i->hJ A L j):kG A L i i:=⟨aX _,h,fun j h1 h2=>by omega,fun _ h=>by omega⟩
theorem kG.step{A L:Perm}{i to:Nat}(hi:i<16)(h:kG A L i to)(t:0<to)(h1:at_ A (to - 1)<at_ A to):kG (exchanged (to - 1) A) (exchanged (to - 1) L) i (to - 1):=by
 have le:=h.le
 have ea:∀j,j<16->at_ (exchanged (to - 1) A) j=if j=to - 1 then at_ A to else if j=to then at_ A (to - 1) else at_ A j:=fun j hj=>by
  rw[jS hj,show to - 1+1=to by omega]
 have el:∀j,j<16->at_ (exchanged (to - 1) L) j=if j=to - 1 then at_ L to else if j=to then at_ L (to - 1) else at_ L j:=fun j hj=>by
  rw[jS hj,show to - 1+1=to by omega]
 refine⟨by omega,fun j hj=>?_,fun j hj hj2=>?_,fun h0 h2=>?_⟩
 ·have:=h.below j (by omega)
  unfold hJ at this ⊢
  rw[ea j (by omega),ea (j+1) (by omega),el j (by omega),el (j+1) (by omega)]
  rw[ae (by omega),ae (by omega),ae (by omega),ae (by omega),ae (by omega),ae (by omega),ae (by omega),ae (by omega)]
  exact this
 ·unfold hJ
  rw[ea j (by omega),ea (j+1) (by omega),el j (by omega),el (j+1) (by omega)]
  by_cases c1:j=to - 1
  ·rw[af c1,ae (by omega),af (by omega)]
   omega
  ·by_cases c2:j=to
   ·have:=h.over t (by omega)
    subst c2
    rw[ae (by omega),af rfl,ae (by omega),ae (by omega),ae (by omega),af rfl,ae (by omega),ae (by omega)]
    exact this
   ·have:=h.above j (by omega) hj2
    unfold hJ at this
    rw[ae c1,ae c2,ae (by omega),ae (by omega),ae c1,ae c2,ae (by omega),ae (by omega)]
    exact this
 ·rw[ea _ (by omega),ea _ (by omega),el _ (by omega),el _ (by omega)]
  have:=h.below (to - 1 - 1) (by omega)
  unfold hJ at this
  rw[show to - 1 - 1+1=to - 1 by omega]at this
  rw[ae (by omega),ae (by omega),ae (by omega),af (by omega),ae (by omega),af (by omega),ae (by omega),ae (by omega)]
  exact this
theorem kG.done{A L:Perm}{i to:Nat}(h:kG A L i to)(k:0<to->hJ A L (to - 1)):∀j,j<i->hJ A L j:=fun j hj=>by
 by_cases c1:j+1<to
 ·exact h.below j c1
 ·by_cases c2:to<=j
  ·exact h.above j c2 hj
  ·have:j=to - 1:=by omega
   rw[this];exact k (by omega)
theorem jX{a:Perm}{i j v:Nat}(h:i<a.length):at_ (a.set i v) j=if j=i then v else at_ a j:=by
 unfold at_
 rw[d7,d7,qW]
 by_cases e:i=j
 ·subst e;simp[h]
 ·rw[ae e,ae (fun q=>e q.symm)]
theorem Fn{a:Perm}{to v:Nat}(hl:a.length=16)(h:0<to)(h2:to<16):((a.set to (at_ a (to - 1))).set (to - 1) v)=exchanged (to - 1) (a.set to v):=by
 refine dC (by simp[hl]) (bJ _) fun j hj=>?_
 have e:∀k,at_ (a.set to v) k=if k=to then v else at_ a k:=fun k=>jX (by omega)
 have e2:∀k,at_ (a.set to (at_ a (to - 1))) k=if k=to then at_ a (to - 1) else at_ a k:=fun k=>jX (by omega)
 rw[jS hj,jX (by rw[gp];omega),e2,e,e,e,show to - 1+1=to by omega]
 by_cases c1:j=to - 1
 ·rw[af c1,af c1,af rfl]
 ·rw[ae c1,ae c1]
  by_cases c2:j=to
  ·rw[af c2,af c2,ae (by omega)]
  ·rw[ae c2,ae c2,ae c2]
end BB
end
section
namespace BB
open Wqaraq
def Gr(n:Nat):List Perm->Prop
 |a::b::r=>hand n a b=still/\Gr n (b::r)
 |_=>True
theorem nW{n:Nat}:∀{l:List Perm},Gr n l->dY l->Nf n l
 |[],_,_=>trivial
 |[a],_,s=>s a bE
 |a::b::r,g,s=>⟨s a bE,g.1,nW g.2 fun x hx=>s x (bH _ hx)⟩
theorem ju{n:Nat}:∀{l:List Perm},Nf n l->Gr n l/\dY l
 |[],_=>⟨trivial,fun x h=>by cases h⟩
 |[a],h=>⟨trivial,fun x hx=>by rw[gq.mp hx];exact h⟩
 |a::b::r,h=>⟨⟨h.2.1,(ju h.2.2).1⟩,fun x hx=>by
   rcases cj.mp hx with e|hx
   ·rw[e];exact h.1
   ·exact(ju h.2.2).2 x hx⟩
theorem Gr.tail{n:Nat}{a:Perm}{l:List Perm}(h:Gr n (a::l)):Gr n l:=by
 cases l with
 |nil=>trivial
 |cons b r=>exact h.2
theorem yT{n:Nat}:∀{l m:List Perm},Gr n l->Gr n m->(∀a b,l.getLast? =some a->m.head? =some b->hand n a b=still)->Gr n (l++m)
 |[],m,_,h,_=>h
 |[a],[],_,_,_=>trivial
 |[a],b::r,_,h,k=>⟨k a b rfl rfl,h⟩
 |a::b::r,m,g,h,k=>⟨g.1,yT (l:=b::r) g.2 h fun x y hx hy=>k x y (by rw[List.getLast?_cons_cons];exact hx) hy⟩
theorem vk{n:Nat}:∀{l m:List Perm},Gr n (l++m)->Gr n l
 |[],_,_=>trivial
 |[a],_,_=>trivial
 |a::b::r,m,g=>⟨g.1,vk (l:=b::r) (m:=m) g.2⟩
theorem Fo{n:Nat}:∀{l m:List Perm}{a b:Perm},Gr n (l++a::b::m)->hand n a b=still
 |[],_,_,_,g=>g.1
 |a::r,m,_,_,g=>Fo (l:=r) (m:=m) (Gr.tail (l:=r++_::_::m) g)
def trim(l:List Perm):List Perm:=if l.getLast? =some still then l.dropLast else l
theorem sL{l:List Perm}{a:Perm}:trim (l++[a])=if a=still then l else l++[a]:=by
 unfold trim
 rw[List.getLast?_append,List.getLast?_singleton,Option.some_or]
 by_cases e:a=still
 ·rw[af (by rw[e]),af e,xi]
 ·rw[ae (fun q=>e (bo q)),ae e]
theorem Fp(l:List Perm):(l=[]/\trim l=[])\/(∃m,l=m++[still]/\trim l=m)\/(∃m a,a≠still/\l=m++[a]/\trim l=l):=by
 rcases xj l with e|⟨m,a,e⟩
 ·exact .inl ⟨e,by rw[e];rfl⟩
 ·rw[xm]at e
  by_cases h:a=still
  ·exact .inr (.inl ⟨m,by rw[e,h],by rw[e,sL,af h]⟩)
  ·exact .inr (.inr ⟨m,a,h,e,by rw[e,sL,ae h]⟩)
theorem yU{l:List Perm}:∀x,x∈trim l->x∈l:=by
 intro x hx
 unfold trim at hx
 split at hx
 ·exact(List.dropLast_sublist _).subset hx
 ·exact hx
section
variable{n:Nat}(hn:n<=16)
include hn
theorem Fq{l:List Perm}(h:ah n l):nf n (trim l)=nf n l:=by
 rcases Fp l with ⟨e,e2⟩|⟨m,e,e2⟩|⟨m,a,_,_,e2⟩
 ·rw[e2,e]
 ·rw[e2,e]
  unfold nf
  rw[nS]
  show act n m []=act n m (ins n still [])
  rw[nQ hn ah.nil]
 ·rw[e2]
theorem Fs{l:List Perm}(g:Gr n l)(s:dY l.dropLast):Nf n (trim l):=by
 rcases Fp l with ⟨e,e2⟩|⟨m,e,e2⟩|⟨m,a,ha,e,e2⟩
 ·rw[e2];trivial
 ·rw[e2]
  rw[e]at g s
  rw[xi]at s
  exact nW (vk g) s
 ·rw[e2]
  refine nW g ?_
  rw[e]at s ⊢
  rw[xi]at s
  intro x hx
  rcases dO.mp hx with hx|hx
  ·exact s x hx
  ·rw[gq.mp hx];exact ha
theorem Ft{l:List Perm}(h:ah n l):ah n (trim l):=fun x hx=>h x (yU x hx)
theorem yV:∀{l:List Perm},ah n l->Gr n l->Gr n (tl n l)
 |[],_,_=>trivial
 |[a],_,_=>trivial
 |a::b::r,h,g=>⟨by rw[yz hn h.head h.tail.head,g.1,kC hn],yV (l:=b::r) h.tail g.2⟩
end
def cg(n:Nat):List Perm->Perm->List Perm->List Perm×Perm×List Perm
 |[],c,s=>([],c,s)
 |a::r,c,s=>if c=delta n then (a::r,c,s) else if hand n a c=still then (a::r,c,s) else cg n r (then_ a (hand n a c)) (then_ (back (hand n a c)) c::s)
def pZ(n:Nat)(l:List Perm):Prop:=∀x,x∈l->x≠delta n
structure Tk(n:Nat)(l0:List Perm)(r:List Perm)(c:Perm)(s:List Perm):Prop where
 all:ah n (r.reverse++c::s)
 same:nf n (r.reverse++c::s)=nf n l0
 gr:Gr n r.reverse
 ns:dY r
 nd:pZ n r
 yW:pZ n s
 yX:Gr n s
 yY:dY s.dropLast
 at_:s=[]\/∃b m f s',s=f::s'/\Rt n b/\Rt n m/\b≠still/\m≠still/\c=then_ b m/\Red b m/\Red m f/\hand n c f=still/\∀a r',r=a::r'->hand n a b=still
section
variable{n:Nat}(hn:n<=16)
include hn
theorem Fu{m:Perm}(hm:Rt n m)(r:Red m (delta n)):m=still:=by
 have h:=(eg hn hm (bV hn)).mp r
 have e:rest n m=delta n:=Le.antisymm (hm.rest hn).aa (bV hn).aa (hm.rest hn).pR h
 have:=kx hn hm
 rw[e]at this
 refine jj (bV hn).aa.back hm.aa dI ?_ |> fun z=>z
 all_goals skip
 have h2:then_ (then_ m (delta n)) (back (delta n))=then_ (delta n) (back (delta n)):=by rw[this]
 rw[then_assoc hm.aa,jR (bV hn).aa,dD hm.aa]at h2
 rw[h2]
theorem Tk.step{l0 r s:List Perm}{a c:Perm}(h:Tk n l0 (a::r) c s)(hc:c≠delta n)(k:hand n a c≠still):Tk n l0 r (then_ a (hand n a c)) (then_ (back (hand n a c)) c::s):=by
 have all:=h.all
 rw[mv,dG]at all
 have hr:ah n r.reverse:=fun x hx=>all x (jB _ hx)
 have ha:Rt n a:=all a (d6 _ (jB _ bE))
 have hcr:Rt n c:=all c (d6 _ (d6 _ bE))
 have hs:ah n s:=fun x hx=>all x (d6 _ (d6 _ (bH _ hx)))
 have hm:=c_ hn ha hcr
 have ml:=gz hn ha hcr
 have mr:=f9 hn ha hcr
 have hl:=jU hn ha hcr
 have rl:=ml.red hm.aa hcr.aa
 have hst:hand n (then_ a (hand n a c)) (then_ (back (hand n a c)) c)=still:=by
  have hx:=c_ hn (ha.then_ hm) hl
  have xl:=gz hn (ha.then_ hm) hl
  have xr:=f9 hn (ha.then_ hm) hl
  generalize hand n (then_ a (hand n a c)) (then_ (back (hand n a c)) c)=x at *
  have r2:=(mr.assoc ha.aa hm.aa hx.aa).mp xr
  have l2:=iO hm.aa hx.aa hl.aa xl rl
  rw[c9 hm.aa hcr.aa]at l2
  have l3:=jm hn ha hcr (hm.aa.then_ hx.aa) l2 r2.2
  have l4:Le (then_ (hand n a c) x) (then_ (hand n a c) still):=by rw[dD hm.aa];exact l3
  exact mO hx.aa (mH hm.aa hx.aa dI r2.1 (pM hm.aa) l4)
 have ndl:then_ (back (hand n a c)) c≠delta n:=fun e=>k (Fu hn hm (by rw[<-e];exact rl))
 have na:a≠still:=h.ns a bE
 refine⟨?_,?_,?_,fun x hx=>h.ns x (bH _ hx),fun x hx=>h.nd x (bH _ hx),?_,?_,?_,?_⟩
 ·exact ah.append hr (ah.cons (ha.then_ hm) (ah.cons hl hs))
 ·rw[<-h.same,mv,dG]
  unfold nf
  rw[nS,nS]
  congr 1
  show ins n (then_ a (hand n a c)) (ins n (then_ (back (hand n a c)) c) (act n s []))=ins n a (ins n c (act n s []))
  exact yl hn ha hcr hm (lM hn hs ah.nil) ml mr
 ·have:=h.gr
  rw[mv]at this
  exact vk this
 ·intro x hx
  rcases cj.mp hx with e|hx
  ·rw[e];exact ndl
  ·exact h.yW x hx
 ·cases s with
  |nil=>trivial
  |cons f s'=>
   refine⟨?_,h.yX⟩
   rcases h.at_ with e|⟨b,m,f',s'',e,hb,hmm,nb,nm,ec,bm,mf,cf,ab⟩
   ·cases e
   ·obtain⟨rfl,rfl⟩:=mo e
    have:=Fl hn ha hb hmm (hs f bE) (ab a r rfl) bm mf (by rw[<-ec];exact cf)
    rwa[<-ec]at this
 ·cases s with
  |nil=>intro x hx;cases hx
  |cons f s'=>
   intro x hx
   rw[List.dropLast_cons_of_ne_nil (by simp)]at hx
   rcases cj.mp hx with e|hx
   ·rw[e]
    intro e2
    rcases h.at_ with e3|⟨b,m,f',s'',e3,hb,hmm,nb,nm,ec,bm,mf,cf,ab⟩
    ·cases e3
    ·have ek:hand n a c=c:=by
      have:=c9 hm.aa hcr.aa
      rw[e2,dD hm.aa]at this
      exact this
     rw[ek]at mr
     have bl:Le b c:=by rw[ec];exact bm.le hb.aa hmm.aa
     have:=yk hn ha hb (nI ha.aa bl mr)
     rw[ab a r rfl]at this
     exact nb this.symm
   ·exact h.yY x hx
 ·refine .inr ⟨a,hand n a c,_,s,rfl,ha,hm,na,k,rfl,mr,rl,hst,fun a' r' e=>?_⟩
  have:=h.gr
  rw[e,mv,mv,dG]at this
  exact Fo this
structure Stop(n:Nat)(l0:List Perm)(z:List Perm×Perm×List Perm):Prop where
 tk:Tk n l0 z.1 z.2.1 z.2.2
 why:z.2.1=delta n\/(z.2.1≠delta n/\∀a r,z.1=a::r->hand n a z.2.1=still)
theorem Fv{l0:List Perm}:∀{r:List Perm}{c:Perm}{s:List Perm},Tk n l0 r c s->Stop n l0 (cg n r c s)
 |[],c,s,h=>⟨h,(Classical.em (c=delta n)).imp id fun e=>⟨e,fun a r q=>by cases q⟩⟩
 |a::r,c,s,h=>by
  unfold cg
  by_cases e:c=delta n
  ·rw[af e];exact⟨h,.inl e⟩
  ·rw[ae e]
   by_cases k:hand n a c=still
   ·rw[af k]
    exact⟨h,.inr ⟨e,fun a' r' q=>by obtain⟨rfl,rfl⟩:=mo q;exact k⟩⟩
   ·rw[ae k]
    exact Fv (h.step hn e k)
def cF(n:Nat)(k:Int)(z:List Perm×Perm×List Perm):Form:=if z.2.1=delta n then ⟨k+1,trim (tl n z.1.reverse++z.2.2)⟩ else ⟨k,trim (z.1.reverse++z.2.1::z.2.2)⟩
structure Fm(n:Nat)(l:List Perm):Prop where
 all:ah n l
 nf:Nf n l
 nd:pZ n l
theorem Fm.cv{l:List Perm}{k:Int}(h:Fm n l):bh n ⟨k,l⟩:=by
 refine⟨h.all,?_⟩
 unfold aO
 show strip n k (BB.nf n l)=_
 rw[lN hn h.all h.nf]
 cases l with
 |nil=>exact strip_nil
 |cons a r=>exact EJ (h.nd a bE)
omit hn in
theorem yZ{r:List Perm}{a:Perm}(h:r.reverse.getLast? =some a):∃r',r=a::r':=by
 rw[List.getLast?_reverse]at h
 cases r with
 |nil=>cases h
 |cons b r'=>exact⟨r',by rw[bo h]⟩
theorem MY(h2:2<=n){l0:List Perm}{k:Int}{z:List Perm×Perm×List Perm}(h:Stop n l0 z)(hl0:ah n l0):Fm n (cF n k z).factors/\aO n ⟨k,l0⟩=cF n k z:=by
 obtain⟨r,c,s⟩:=z
 obtain⟨t,why⟩:=h
 dsimp only at t why
 have all:=t.all
 have hr:ah n r.reverse:=fun x hx=>all x (jB _ hx)
 have hcr:Rt n c:=all c (d6 _ bE)
 have hs:ah n s:=fun x hx=>all x (d6 _ (bH _ hx))
 have same:∀k,aO n ⟨k,l0⟩=aO n ⟨k,r.reverse++c::s⟩:=fun k=>by
  unfold aO
  show strip n k (nf n l0)=strip n k (nf n (r.reverse++c::s))
  rw[t.same]
 unfold cF
 dsimp only
 by_cases e:c=delta n
 ·rw[af e]
  have g:Gr n (tl n r.reverse++s):=by
   refine yT (yV hn hr t.gr) t.yX fun a b h1 h3=>?_
   unfold tl at h1
   rw[List.getLast?_map]at h1
   cases q:r.reverse.getLast? with
   |none=>rw[q]at h1;cases h1
   |some a'=>
    rw[q]at h1
    have ea:turned n a'=a:=bo h1
    obtain⟨r',er⟩:=yZ q
    have ha':Rt n a':=hr a' (List.mem_of_getLast? q)
    rcases t.at_ with e3|⟨b',m,f',s'',e3,hb,hmm,nb,nm,ec,bm,mf,cf,ab⟩
    ·rw[e3]at h3;cases h3
    ·rw[e3]at h3
     have:f'=b:=bo h3
     subst this
     have d:=Fl hn ha' hb hmm (hs f' (by rw[e3];exact bE)) (ab a' r' er) bm mf (by rw[<-ec];exact cf)
     rw[<-ec,e]at d
     have hd:=bV hn
     have e1:hand n a' (delta n)=rest n a':=mI hn ha' hd (ha'.rest hn).aa (ha'.rest hn).pR ((eg hn ha' (ha'.rest hn)).mpr (Le.refl _)) fun x hx _ xr=>(eg hn ha' hx).mp xr
     rw[e1]at d
     rw[show then_ (back (rest n a')) (delta n)=a by rw[<-ea,<-mJ hn ha'];rfl]at d
     exact d
  have nsd:dY (tl n r.reverse++s).dropLast:=by
   cases s with
   |nil=>
    rw[ft]
    intro x hx
    obtain⟨y,hy,rfl⟩:=bW.mp ((List.dropLast_sublist _).subset hx)
    intro e5
    refine t.ns y (ka.mp hy) (nT hn (hr y hy) jT ?_)
    rw[e5,kC hn]
   |cons f s'=>
    rw[List.dropLast_append_of_ne_nil (by simp)]
    intro x hx
    rcases dO.mp hx with hx|hx
    ·obtain⟨y,hy,rfl⟩:=bW.mp hx
     intro e5
     refine t.ns y (ka.mp hy) (nT hn (hr y hy) jT ?_)
     rw[e5,kC hn]
    ·exact t.yY x hx
  have al:ah n (tl n r.reverse++s):=ah.append (mK hn hr) hs
  have F:Fm n (trim (tl n r.reverse++s)):=by
   refine⟨Ft hn al,Fs hn g nsd,fun x hx=>?_⟩
   rcases dO.mp (yU x hx) with hx|hx
   ·obtain⟨y,hy,rfl⟩:=bW.mp hx
    intro e5
    refine t.nd y (ka.mp hy) (nT hn (hr y hy) (bV hn) ?_)
    rw[e5,su hn]
   ·exact t.yW x hx
  refine⟨F,?_⟩
  rw[same k,e,<-(F.cv hn (k:=k+1)).nf]
  have:=vf hn h2 1 (k:=k) (l:=r.reverse) (m:=s) hr hs
  rw[show r.reverse++(List.replicate 1 (delta n)++s)=r.reverse++delta n::s from rfl]at this
  rw[this]
  unfold aO
  show strip n (k+1) (nf n (tw n 1 r.reverse++s))=strip n (k+1) (nf n (trim (tl n r.reverse++s)))
  rw[Fq hn al]
  rfl
 ·rw[ae e]
  have hp:∀a r',r=a::r'->hand n a c=still:=by
   rcases why with q|q
   ·exact absurd q e
   ·exact q.2
  have g:Gr n (r.reverse++c::s):=by
   refine yT t.gr ?_ fun a b h1 h3=>?_
   ·cases s with
    |nil=>trivial
    |cons f s'=>
     refine⟨?_,t.yX⟩
     rcases t.at_ with e3|⟨b',m,f',s'',e3,hb,hmm,nb,nm,ec,bm,mf,cf,ab⟩
     ·cases e3
     ·obtain⟨rfl,rfl⟩:=mo e3
      exact cf
   ·obtain⟨r',er⟩:=yZ h1
    have:c=b:=bo h3
    rw[<-this]
    exact hp a r' er
  have nsd:dY (r.reverse++c::s).dropLast:=by
   rw[List.dropLast_append_of_ne_nil (by simp)]
   intro x hx
   rcases dO.mp hx with hx|hx
   ·exact t.ns x (ka.mp hx)
   ·cases s with
    |nil=>cases hx
    |cons f s'=>
     rw[List.dropLast_cons_of_ne_nil (by simp)]at hx
     rcases cj.mp hx with q|hx
     ·rcases t.at_ with e3|⟨b',m,f',s'',e3,hb,hmm,nb,nm,ec,bm,mf,cf,ab⟩
      ·cases e3
      ·rw[q,ec]
       exact fun z=>nm (bm.u7 hb.aa hmm.aa z).2
     ·exact t.yY x hx
  have F:Fm n (trim (r.reverse++c::s)):=by
   refine⟨Ft hn all,Fs hn g nsd,fun x hx=>?_⟩
   rcases dO.mp (yU x hx) with hx|hx
   ·exact t.nd x (ka.mp hx)
   ·rcases cj.mp hx with q|hx
    ·rw[q];exact e
    ·exact t.yW x hx
  refine⟨F,?_⟩
  rw[same k,<-(F.cv hn (k:=k)).nf]
  unfold aO
  show strip n k (nf n (r.reverse++c::s))=strip n k (nf n (trim (r.reverse++c::s)))
  rw[Fq hn all]
theorem MZ{l:List Perm}{f:Perm}(h:Fm n l)(hf:Rt n f):Tk n (l++[f]) l.reverse f []:=by
 have g:=ju h.nf
 refine⟨?_,by rw[um],by rw[um];exact g.1,fun x hx=>g.2 x (ka.mp hx),fun x hx=>h.nd x (ka.mp hx),fun x hx=>(by cases hx),trivial,fun x hx=>(by cases hx),.inl rfl⟩
 rw[um]
 exact ah.append h.all (ah.cons hf ah.nil)
theorem kH(h2:2<=n){l:List Perm}{f:Perm}{k:Int}(h:Fm n l)(hf:Rt n f):Fm n (cF n k (cg n l.reverse f [])).factors/\aO n ⟨k,l++[f]⟩=cF n k (cg n l.reverse f []):=
 MY hn h2 (Fv hn (MZ hn h hf)) (ah.append h.all (ah.cons hf ah.nil))
end
end BB
end
section
namespace BB
open Wqaraq
theorem meet_comm{a b:Perm}(ha:aw a)(hb:aw b):meetOf a b=meetOf b a:=by
 have g:=d_ hb ha
 exact u5 ha hb ⟨g.aa,g.right,g.left,fun x hx h1 h2=>g.most x hx h2 h1⟩
section
variable{n:Nat}(hn:n<=16)
include hn
theorem Fw{a:Perm}(ha:Rt n a)(h:rest n a=still):a=delta n:=by
 have:=kx hn ha
 rw[h,dD ha.aa]at this
 exact this
theorem M0{a:Perm}(ha:Rt n a)(h:rest n a=delta n):a=still:=Fu hn ha ((eg hn ha (bV hn)).mpr (by rw[h];exact Le.refl _))
theorem M3{a:Perm}(ha:Rt n a):hand n a (delta n)=rest n a:=
 mI hn ha (bV hn) (ha.rest hn).aa (ha.rest hn).pR ((eg hn ha (ha.rest hn)).mpr (Le.refl _)) fun x hx _ xr=>(eg hn ha hx).mp xr
theorem y3:∀{l:List Perm}{a:Perm},ah n (a::l)->Gr n (a::l)->a≠delta n->pZ n (a::l)
 |[],a,_,_,h=>fun x hx=>by rw[gq.mp hx];exact h
 |b::r,a,hl,g,h=>fun x hx=>by
  rcases cj.mp hx with e|hx
  ·rw[e];exact h
  ·refine y3 hl.tail g.2 (fun e=>h ?_) x hx
   have:=g.1
   rw[e,M3 hn hl.head]at this
   exact Fw hn hl.head this
theorem bh.fm{F:Form}(h:bh n F):Fm n F.factors:=by
 obtain⟨k,l⟩:=F
 have hl:ah n l:=h.all
 have e:strip n k (BB.nf n l)=⟨k,l⟩:=h.nf
 obtain⟨j,ej,lj⟩:=ve (n:=n) hn (m:=BB.nf n l)
 unfold strip at e
 rw[lj]at e
 have e1:k+(j:Int)=k:=bO Form.twists e
 have e2:(BB.nf n l).dropWhile (fun a=>a == delta n)=l:=bO Form.factors e
 have j0:j=0:=by omega
 rw[e2,j0]at ej
 have en:BB.nf n l=l:=ej
 have hNf:Nf n l:=by rw[<-en];exact sf hn hl
 refine⟨hl,hNf,?_⟩
 cases l with
 |nil=>intro x hx;cases hx
 |cons a r=>
  refine y3 hn hl (ju hNf).1 fun q=>?_
  rw[en,q]at lj
  rw[List.takeWhile_cons_of_pos (by simp),bP]at lj
  omega
theorem Fm.tl{l:List Perm}(h:Fm n l):Fm n (tl n l):=by
 have g:=ju h.nf
 refine⟨mK hn h.all,nW (yV hn h.all g.1) fun x hx=>?_,fun x hx=>?_⟩
 ·obtain⟨y,hy,rfl⟩:=bW.mp hx
  intro e5
  exact g.2 y hy (nT hn (h.all y hy) jT (by rw[e5,kC hn]))
 ·obtain⟨y,hy,rfl⟩:=bW.mp hx
  intro e5
  exact h.nd y hy (nT hn (h.all y hy) (bV hn) (by rw[e5,su hn]))
theorem Fm.tw{l:List Perm}{k:Int}(h:Fm n l):Fm n (tw n k l):=by
 unfold BB.tw
 split
 ·exact h
 ·exact h.tl hn
theorem Fm.nil:Fm n []:=⟨ah.nil,trivial,fun x hx=>by cases hx⟩
theorem Fm.tail{a:Perm}{l:List Perm}(h:Fm n (a::l)):Fm n l:=⟨h.all.tail,h.nf.tail,fun x hx=>h.nd x (bH _ hx)⟩
def takes(n:Nat)(F:Form)(fs:List Perm):Form:=fs.foldl (fun G f=>cF n G.twists (cg n G.factors.reverse f [])) F
theorem vm(h2:2<=n):∀(fs:List Perm) {F:Form},Fm n F.factors->ah n fs->Fm n (takes n F fs).factors/\takes n F fs=aO n ⟨F.twists,F.factors++fs⟩
 |[],F,h,_=>⟨h,by
   rw[ft]
   exact((h.cv hn (k:=F.twists)).nf).symm⟩
 |f::fs,F,h,hf=>by
  have t:=kH hn h2 (k:=F.twists) h hf.head
  have r:=vm h2 fs (F:=cF n F.twists (cg n F.factors.reverse f [])) t.1 hf.tail
  refine⟨r.1,?_⟩
  show takes n (cF n F.twists (cg n F.factors.reverse f [])) fs=_
  rw[r.2]
  have hF:aV n ⟨F.twists,F.factors++[f]⟩:=ah.append h.all (ah.cons hf.head ah.nil)
  have hG:aV n ⟨0,fs⟩:=hf.tail
  have z:=vg hn h2 hF hG
  rw[t.2]at z
  generalize cF n F.twists (cg n F.factors.reverse f [])=T at *
  have e1:bI n T ⟨0,fs⟩=⟨T.twists,T.factors++fs⟩:=by unfold bI;rw[mL hn,mq]
  have e2:bI n ⟨F.twists,F.factors++[f]⟩ ⟨0,fs⟩=⟨F.twists,F.factors++f::fs⟩:=by unfold bI;rw[mL hn,mq,dG];rfl
  rw[e1,e2]at z
  exact z
theorem y4(h2:2<=n){F G:Form}(hF:Fm n F.factors)(hG:aV n G):Fm n (takes n ⟨F.twists+G.twists,tw n G.twists F.factors⟩ G.factors).factors/\takes n ⟨F.twists+G.twists,tw n G.twists F.factors⟩ G.factors=product n F G:=by
 have t:=vm hn h2 G.factors (F:=⟨F.twists+G.twists,tw n G.twists F.factors⟩) (hF.tw hn) hG
 exact⟨t.1,by rw[t.2,cE hn hF.all hG];rfl⟩
def bC(n:Nat)(p:Int)(a:Perm):Perm:=if p % 2=1 then turned n a else a
def gA(n:Nat):Int->List Perm->List Perm
 |_,[]=>[]
 |p,a::r=>bC n p (rest n a)::gA n (p - 1) r
def mP(n:Nat)(F:Form):Form:=⟨-(F.twists+F.factors.length),gA n (F.twists+F.factors.length) F.factors.reverse⟩
theorem Fx{p:Int}{a:Perm}:tw n p [a]=[bC n p a]:=by
 unfold BB.tw bC BB.tl
 by_cases h:p % 2=0
 ·rw[af h,ae (by omega)]
 ·rw[ae h,af (by omega)];rfl
theorem vn{p:Int}{l:List Perm}:tw n p l=l.map (bC n p):=by
 unfold BB.tw bC BB.tl
 by_cases h:p % 2=0
 ·rw[af h]
  have:∀a:Perm,(if p % 2=1 then turned n a else a)=a:=fun a=>ae (by omega)
  simp only [this,List.map_id']
 ·rw[ae h]
  have:∀a:Perm,(if p % 2=1 then turned n a else a)=turned n a:=fun a=>af (by omega)
  simp only [this]
theorem mQ{p:Int}{a:Perm}(h:Rt n a):Rt n (bC n p a):=by
 unfold bC;split
 ·exact cD hn h
 ·exact h
theorem Fy{p:Int}{a b:Perm}(ha:Rt n a)(hb:Rt n b)(e:bC n p a=bC n p b):a=b:=by
 unfold bC at e;split at e
 ·exact nT hn ha hb e
 ·exact e
theorem M4{p:Int}:bC n p still=still:=by unfold bC;split;exact kC hn;rfl
theorem M5{p:Int}:bC n p (delta n)=delta n:=by unfold bC;split;exact su hn;rfl
theorem M6{a b:Perm}{p:Int}(ha:Rt n a)(hb:Rt n b)(h:hand n a b=still):hand n (bC n p (rest n b)) (bC n (p - 1) (rest n a))=still:=by
 have hra:=ha.rest hn
 have hrb:=hb.rest hn
 have base:hand n (rest n b) (turned n (rest n a))=still:=by
  show meetOf (rest n (rest n b)) (turned n (rest n a))=still
  rw[mJ hn hb]
  refine Fk hn hb hra ?_
  rw[meet_comm hb.aa hra.aa]
  exact h
 unfold bC
 by_cases c:p % 2=1
 ·rw[af c,ae (by omega)]
  have:=yz hn hrb (cD hn hra)
  rw[jV hn hra,base,kC hn]at this
  exact this
 ·rw[ae c,af (by omega)]
  exact base
theorem vo:∀{l:List Perm}{p:Int},ah n l->ah n (gA n p l)
 |[],_,_=>ah.nil
 |a::r,p,h=>ah.cons (mQ hn (h.head.rest hn)) (vo h.tail)
theorem Fz:∀{l:List Perm}{p:Int},ah n l->pZ n l->dY l->dY (gA n p l)/\pZ n (gA n p l)
 |[],_,_,_,_=>⟨fun x hx=>(by cases hx),fun x hx=>(by cases hx)⟩
 |a::r,p,h,d,s=>by
  have ih:=Fz (l:=r) (p:=p - 1) h.tail (fun x hx=>d x (bH _ hx)) (fun x hx=>s x (bH _ hx))
  have ha:=h.head
  refine⟨fun x hx=>?_,fun x hx=>?_⟩
  ·rcases cj.mp hx with e|hx
   ·rw[e]
    intro q
    exact d a bE (Fw hn ha (Fy hn (ha.rest hn) jT (by rw[q,M4 hn])))
   ·exact ih.1 x hx
  ·rcases cj.mp hx with e|hx
   ·rw[e]
    intro q
    exact s a bE (M0 hn ha (Fy hn (ha.rest hn) (bV hn) (by rw[q,M5 hn])))
   ·exact ih.2 x hx
def p5(n:Nat):List Perm->Prop
 |b::a::r=>hand n a b=still/\p5 n (a::r)
 |_=>True
omit hn in
theorem FC:∀{l m:List Perm},p5 n l->p5 n m->(∀b a,l.getLast? =some b->m.head? =some a->hand n a b=still)->p5 n (l++m)
 |[],m,_,h,_=>h
 |[a],[],_,_,_=>trivial
 |[a],b::r,_,h,k=>⟨k a b rfl rfl,h⟩
 |a::b::r,m,g,h,k=>⟨g.1,FC (l:=b::r) g.2 h fun x y hx hy=>k x y (by rw[List.getLast?_cons_cons];exact hx) hy⟩
omit hn in
theorem FD:∀{l:List Perm},Gr n l->p5 n l.reverse
 |[],_=>trivial
 |a::r,g=>by
  rw[mv]
  refine FC (FD (l:=r) g.tail) trivial fun b a' h1 h3=>?_
  obtain⟨r',er⟩:=yZ h1
  have:a=a':=bo h3
  rw[er]at g
  rw[<-this]
  exact g.1
theorem FE:∀{l:List Perm}{p:Int},ah n l->p5 n l->Gr n (gA n p l)
 |[],_,_,_=>trivial
 |[a],_,_,_=>trivial
 |b::a::r,p,h,g=>⟨M6 hn h.tail.head h.head g.1,FE (l:=a::r) (p:=p - 1) h.tail g.2⟩
theorem M7{F:Form}(h:Fm n F.factors):Fm n (mP n F).factors:=by
 have g:=ju h.nf
 have hr:ah n F.factors.reverse:=fun x hx=>h.all x (ka.mp hx)
 have z:=Fz hn (p:=F.twists+F.factors.length) hr (fun x hx=>h.nd x (ka.mp hx)) (fun x hx=>g.2 x (ka.mp hx))
 exact⟨vo hn hr,nW (FE hn hr (FD g.1)) z.1,z.2⟩
omit hn in
theorem y6:∀{l:List Perm}{p:Int}{a:Perm},gA n p (l++[a])=gA n p l++[bC n (p - l.length) (rest n a)]
 |[],p,a=>by
  show [bC n p (rest n a)]=[bC n (p - ((0:Nat):Int)) (rest n a)]
  rw[show p - ((0:Nat):Int)=p by omega]
 |b::r,p,a=>by
  show bC n p (rest n b)::gA n (p - 1) (r++[a])=bC n p (rest n b)::(gA n (p - 1) r++[bC n (p - ((r.length+1:Nat):Int)) (rest n a)])
  rw[y6,show p - 1 - (r.length:Int)=p - ((r.length+1:Nat):Int) by omega]
variable(h2:2<=n)
include h2
theorem FF:∀{l:List Perm}{k:Int},ah n l->product n ⟨k,l⟩ (mP n ⟨k,l⟩)=one
 |[],k,_=>by
  show product n (eu k) (eu (-(k+((0:Nat):Int))))=one
  rw[yJ hn h2,show k+ -(k+((0:Nat):Int))=0 by omega]
  rfl
 |a::l,k,h=>by
  have ha:=h.head
  have hl:=h.tail
  have ih:=FF (l:=l) (k:=k+1) hl
  have ei:mP n ⟨k,a::l⟩=bI n (mP n ⟨k+1,l⟩) ⟨0,[bC n (k+1) (rest n a)]⟩:=by
   unfold mP bI
   simp only [mv,bP,y6,mL hn,mq,cJ]
   rw[show k+((l.length+1:Nat):Int)=k+1+(l.length:Int) by omega,show k+1+(l.length:Int) - (l.length:Int)=k+1 by omega]
  have hY:aV n (mP n ⟨k+1,l⟩):=vo hn (fun x hx=>hl x (ka.mp hx))
  have hZ:aV n ⟨0,[bC n (k+1) (rest n a)]⟩:=ah.cons (mQ hn (ha.rest hn)) ah.nil
  have hT:aV n (eu (-(k+1))):=ah.nil
  have hA:aV n ⟨k,[a]⟩:=ah.cons ha ah.nil
  have hL:aV n ⟨k+1,l⟩:=hl
  have ea:(⟨k,a::l⟩:Form)=bI n (bI n ⟨k,[a]⟩ (eu (-(k+1)))) ⟨k+1,l⟩:=by
   unfold bI eu
   simp only [ft]
   rw[sy hn hA,show k+ -(k+1)+(k+1)=k by omega,show -(k+1)+(k+1)=0 by omega]
   rfl
  generalize mP n ⟨k+1,l⟩=Y at *
  have hAT:=jq hn hA hT
  rw[ei,ea,cE hn (jq hn hAT hL) (jq hn hY hZ),yB hn hAT hL]
  rw[<-yB hn hL hY]
  rw[<-vh hn h2 hAT (jq hn (jq hn hL hY) hZ),<-vg hn h2 (jq hn hL hY) hZ]
  rw[cE hn hL hY]at ih
  rw[ih,vd hn,vh hn h2 hAT hZ]
  have e3:bI n (bI n ⟨k,[a]⟩ (eu (-(k+1)))) ⟨0,[bC n (k+1) (rest n a)]⟩=⟨-1,[bC n (k+1) a,bC n (k+1) (rest n a)]⟩:=by
   unfold bI eu
   simp only [mL hn,ft]
   rw[show k+ -(k+1)+0= -1 by omega,Fx hn]
   have:bC n (-(k+1)) a=bC n (k+1) a:=by
    unfold bC
    by_cases c:(k+1) % 2=1
    ·rw[af c,af (by omega)]
    ·rw[ae c,ae (by omega)]
   rw[this];rfl
  rw[e3]
  have rr:rest n (bC n (k+1) a)=bC n (k+1) (rest n a):=by
   unfold bC;split
   ·exact(yH hn h2 ha).symm
   ·rfl
  have ht:=mQ hn (p:=k+1) ha
  rw[<-rr]
  show strip n (-1) (nf n [bC n (k+1) a,rest n (bC n (k+1) a)])=one
  rw[yG hn h2 ht (ht.rest hn) ((eg hn ht (ht.rest hn)).mpr (Le.refl _)),kx hn ht]
  have:nf n [delta n]=[delta n]:=ae (sq h2 hn)
  rw[this,yu,strip_nil]
  rfl
theorem y8{F:Form}(h:bh n F):mP n F=backward n F:=
 E4 hn h2 h.all ((M7 hn (h.fm hn)).cv hn) (FF hn h2 h.all)
theorem sM{i:Nat}(hi:i+1<n):Rt n (single i):=by
 refine⟨iP (by omega),fun j h1 h3=>?_⟩
 rw[rX (by omega) h3,ae (by omega),ae (by omega)]
theorem M8{a:Perm}(ha:Rt n a):backward n (aO n (bK a))=aO n (mM n a):=by
 refine(E4 hn h2 (js hn h2 (dJ hn h2 ha)) (kD hn h2 (mN hn h2 ha)) ?_).symm
 rw[ET hn h2 (dJ hn h2 ha) (mN hn h2 ha),EU hn h2 ha]
def cY(n:Nat)(c:Int):Form:=if 0<c then aO n (bK (single (c.natAbs - 1))) else backward n (aO n (bK (single (c.natAbs - 1))))
theorem y9{c:Int}(hc:crossing n c=true):bh n (cY n c):=by
 obtain⟨h1,h3⟩:=jt.mp hc
 have hs:=sM hn h2 (i:=c.natAbs - 1) (by omega)
 unfold cY;split
 ·exact kD hn h2 (dJ hn h2 hs)
 ·exact jW hn h2 (js hn h2 (dJ hn h2 hs))
theorem M9{F:Form}{c:Int}(hF:aV n F)(hc:crossing n c=true):behind n F c=product n F (cY n c):=by
 obtain⟨h1,h3⟩:=jt.mp hc
 have hs:=sM hn h2 (i:=c.natAbs - 1) (by omega)
 unfold behind cY
 dsimp only
 by_cases h:0<c
 ·rw[af h,af h,lP hn h2 hF (dJ hn h2 hs)]
  unfold product bK
  simp only [mq]
  rfl
 ·rw[ae h,ae h,M8 hn h2 hs,lP hn h2 hF (mN hn h2 hs)]
  unfold product mM
  rfl
theorem y_:∀(w:Row) {F:Form},bh n F->fits n w=true->bh n (w.foldl (behind n) F)/\w.foldl (behind n) F=w.foldl (fun F c=>product n F (cY n c)) F
 |[],F,h,_=>⟨h,rfl⟩
 |c::w,F,h,hw=>by
  have hw':crossing n c=true/\fits n w=true:=by
   unfold fits at hw ⊢
   rw[List.all_cons,br]at hw
   exact hw
  have e:=M9 hn h2 h.all hw'.1
  have i:=eY hn h2 h.all (y9 hn h2 hw'.1).all
  have r:=y_ w (F:=behind n F c) (by rw[e];exact i) hw'.2
  refine⟨r.1,?_⟩
  show w.foldl (behind n) (behind n F c)=w.foldl _ (product n F (cY n c))
  rw[r.2,e]
theorem FG{k:Int}{a:Perm}{l:List Perm}(h:bh n ⟨k,a::l⟩):cycledOf ⟨n,⟨k,a::l⟩⟩ false=product n ⟨k,l⟩ (aO n (bK (bC n k a))):=by
 have ha:Rt n a:=h.all.head
 have hl:aV n ⟨k,l⟩:=h.all.tail
 have ht:=mQ hn (p:=k) ha
 have hf:=dJ hn h2 ht
 have hA:aV n ⟨k,a::l⟩:=h.all
 rw[lP hn h2 hl hf]
 unfold cycledOf
 simp only
 rw[ae (by simp),ae (by simp)]
 have ef:({twists:=0,factors:=[if k % 2=0 then (a::l).headD still else turned n ((a::l).headD still)]}:Form)=bK (bC n k a):=by
  unfold bK bC
  show ({twists:=0,factors:=[if k % 2=0 then a else turned n a]}:Form)=_
  by_cases c:k % 2=0
  ·rw[af c,ae (by omega)]
  ·rw[ae c,af (by omega)]
 rw[ef]
 have ea:(⟨k,a::l⟩:Form)=bI n (bK (bC n k a)) ⟨k,l⟩:=by
  unfold bI bK
  simp only [Int.zero_add]
  rw[<-Fx hn,sy hn (ah.cons ha ah.nil)]
  have:tw n (k+k) [a]=[a]:=by unfold BB.tw;rw[af (by omega)]
  rw[this];rfl
 have hb:=jW hn h2 hf
 have e1:product n ⟨k,a::l⟩ (bK (bC n k a))=product n (bK (bC n k a)) (product n ⟨k,l⟩ (bK (bC n k a))):=by
  rw[<-g9 hn h2 hf hl hf]
  rw[<-nV hn h2 hA hf,ea,<-cE hn hf hl]
 have hp:=eY hn h2 hl hf
 rw[e1,<-g9 hn h2 hb.all hf hp.all,yK hn h2 hf,sH hn h2 hp]
theorem FH{k:Int}{a:Perm}{l:List Perm}(h:bh n ⟨k,l++[a]⟩):cycledOf ⟨n,⟨k,l++[a]⟩⟩ true=product n (aO n (bK a)) ⟨k,l⟩:=by
 have hA:aV n ⟨k,l++[a]⟩:=h.all
 have ha:Rt n a:=h.all a (d6 _ bE)
 have hl:aV n ⟨k,l⟩:=fun x hx=>h.all x (jB _ hx)
 have hf:=dJ hn h2 ha
 rw[nV hn h2 hf hl]
 unfold cycledOf
 simp only
 rw[ae (by simp),af trivial]
 have ef:({twists:=0,factors:=[(l++[a]).getLast?.getD still]}:Form)=bK a:=by
  rw[List.getLast?_append];rfl
 rw[ef]
 have ea:(⟨k,l++[a]⟩:Form)=bI n ⟨k,l⟩ (bK a):=by
  unfold bI bK
  simp only [mL hn,mq]
 have hb:=jW hn h2 hf
 have e1:product n ⟨k,l++[a]⟩ (backward n (bK a))=aO n ⟨k,l⟩:=by
  rw[<-nV hn h2 hA hb.all,ea,<-cE hn hl hf,g9 hn h2 hl hf hb.all,MJ hn h2 hf]
  rw[cE hn hl (show aV n one from ah.nil),sC hn]
 rw[e1,lP hn h2 hf hl]
end
end BB
end
section
namespace BB
open Wqaraq
theorem zc(n:Nat):∀(r:List Perm) (c:Perm) (s:List Perm),(cg n r c s).1.length+(cg n r c s).2.2.length=r.length+s.length
 |[],c,s=>rfl
 |a::r,c,s=>by
  unfold cg
  split
  ·rfl
  ·split
   ·rfl
   ·rw[zc n r]
    simp only [bP];omega
theorem FI(l:List Perm):l.length<=(trim l).length+1:=by
 unfold trim;split
 ·rw[List.length_dropLast];omega
 ·omega
def kI(F:Form):Int:=F.twists+F.factors.length
theorem M_(n:Nat)(k:Int)(r:List Perm)(c:Perm)(s:List Perm):k+r.length+s.length<=kI (cF n k (cg n r c s)):=by
 have h:=zc n r c s
 generalize cg n r c s=z at *
 obtain⟨r',c',s'⟩:=z
 unfold cF kI
 dsimp only at h ⊢
 split
 ·have:=FI (tl n r'.reverse++s')
  unfold tl at this ⊢
  simp only [bF,aE,cJ]at this ⊢
  omega
 ·have:=FI (r'.reverse++c'::s')
  simp only [bF,bP,cJ]at this ⊢
  omega
theorem FJ(n:Nat):∀(fs:List Perm) (F:Form),kI F<=kI (takes n F fs)
 |[],F=>Int.le_refl _
 |f::fs,F=>by
  have h1:=M_ n F.twists F.factors.reverse f []
  have h2:=FJ n fs (cF n F.twists (cg n F.factors.reverse f []))
  show kI F<=kI (takes n (cF n F.twists (cg n F.factors.reverse f [])) fs)
  unfold kI at *
  simp only [cJ,List.length_nil]at h1
  omega
theorem Na(n:Nat)(k:Int)(m:List Perm):kI (strip n k m)=k+m.length:=by
 unfold kI strip
 have:=bO List.length (List.takeWhile_append_dropWhile (p:=fun a=>a == delta n) (l:=m))
 rw[bF]at this
 simp only
 omega
section
variable{n:Nat}(hn:n<=16)(h2:2<=n)
include hn h2
theorem FK{l m:List Perm}(h:Fm n l)(hm:ah n m):l.length<=(nf n (l++m)).length:=by
 have t:=(vm hn h2 m (F:=⟨0,l⟩) h hm).2
 have k:=FJ n m ⟨0,l⟩
 rw[t]at k
 unfold aO at k
 rw[Na]at k
 unfold kI at k
 simp only at k
 omega
end
def hd(A:List Perm):Perm:=A.headD still
def quot(n:Nat)(x:Perm):List Perm->List Perm
 |[]=>[]
 |a::s=>ins n (then_ (back x) a) s
def gg(n:Nat):Perm->List Perm->List Perm
 |a,[]=>[a]
 |a,c::s=>if a=still then a::c::s else if hand n a c=still then a::c::s else then_ a (hand n a c)::gg n (then_ (back (hand n a c)) c) s
def bU(n:Nat):Nat->List Perm->List Perm->List Perm
 |0,_,_=>[]
 |f+1,A,B=>if meetOf (hd A) (hd B)=still then [] else meetOf (hd A) (hd B)::bU n f (quot n (meetOf (hd A) (hd B)) A) (quot n (meetOf (hd A) (hd B)) B)
theorem zd:∀{l:List Perm},dY l->l.filter (fun a=>a != still)=l:=fun {l} h=>qX.mpr fun x hx=>by simpa using h x hx
section
variable{n:Nat}(hn:n<=16)
include hn
theorem FL:∀{s:List Perm}{a:Perm},Rt n a->ah n s->Nf n s->(gg n a s).filter (fun x=>x != still)=ins n a s
 |[],a,ha,_,_=>by
  unfold gg ins
  by_cases e:a=still
  ·rw[af e,e];rfl
  ·rw[ae e,zd]
   intro x hx;rw[gq.mp hx];exact e
 |c::s,a,ha,hs,h=>by
  have hc:=hs.head
  unfold gg
  by_cases e:a=still
  ·rw[af e,e,nQ hn hs,uj (by simp),zd (ju h).2]
  ·rw[ae e]
   by_cases k:hand n a c=still
   ·rw[af k]
    have hN:Nf n (a::c::s):=⟨e,k,h⟩
    rw[zd (ju hN).2,pT hn (ah.cons ha hs) hN]
   ·rw[ae k]
    have hm:=c_ hn ha hc
    have ne:then_ a (hand n a c)≠still:=fun q=>k ((f9 hn ha hc).u7 ha.aa hm.aa q).2
    rw[oZ (by simpa using ne),FL (jU hn ha hc) hs.tail h.tail]
    rfl
theorem dZ{A:List Perm}(h:ah n A):Rt n (hd A):=by
 cases A with
 |nil=>exact jT
 |cons a s=>exact h.head
theorem jv{x:Perm}{A:List Perm}(hx:Rt n x)(h:ah n A):ah n (quot n x A):=by
 cases A with
 |nil=>exact ah.nil
 |cons a s=>exact r_ hn (hx.back.then_ h.head) h.tail
theorem jY{x:Perm}{A:List Perm}(hx:Rt n x)(h:ah n A)(k:Nf n A):Nf n (quot n x A):=by
 cases A with
 |nil=>trivial
 |cons a s=>exact yn hn (hx.back.then_ h.head) h.tail k.tail
theorem vp{x:Perm}{A:List Perm}(hx:Rt n x)(h:ah n A)(k:Nf n A)(ne:x≠still)(l:Le x (hd A)):ins n x (quot n x A)=A:=by
 cases A with
 |nil=>exact absurd (mO hx.aa l) ne
 |cons a s=>
  show ins n x (ins n (then_ (back x) a) s)=a::s
  have l':Le x a:=l
  rw[nR hn hx (hx.back.then_ h.head) h.tail (l'.red hx.aa h.head.aa),c9 hx.aa h.head.aa,pT hn h k]
theorem FN{x y:Perm}{A:List Perm}(hx:Rt n x)(hy:Rt n y)(h:ah n A)(k:Nf n A)(ne:x≠still)(l:Le x (hd A))(ly:Le y (hd (quot n x A)))(r:Red x y):Le (then_ x y) (hd A):=by
 have e:=vp hn hx h k ne l
 have hq:=jv hn hx h
 cases q:quot n x A with
 |nil=>
  rw[q]at ly
  have:y=still:=mO hy.aa ly
  rw[this,dD hx.aa]
  exact l
 |cons b t=>
  rw[q]at e ly hq
  have eh:hd A=then_ x (hand n x b):=by rw[<-e];rfl
  rw[eh]
  exact iO hx.aa hy.aa (c_ hn hx hq.head).aa (jm hn hx hq.head hy.aa ly r) (f9 hn hx hq.head)
theorem vq:∀(f:Nat) {A B:List Perm},ah n A->ah n B->ah n (bU n f A B)
 |0,_,_,_,_=>ah.nil
 |f+1,A,B,hA,hB=>by
  have g:=d_ (dZ hn hA).aa (dZ hn hB).aa
  have hx:Rt n (meetOf (hd A) (hd B)):=Rt.of_le g.aa (dZ hn hA) g.left
  unfold bU
  split
  ·exact ah.nil
  ·exact ah.cons hx (vq f (jv hn hx hA) (jv hn hx hB))
theorem FO:∀(f:Nat) {A B:List Perm},ah n A->ah n B->Nf n A->Nf n B->Nf n (bU n f A B)
 |0,_,_,_,_,_,_=>trivial
 |f+1,A,B,hA,hB,kA,kB=>by
  have g:=d_ (dZ hn hA).aa (dZ hn hB).aa
  have hx:Rt n (meetOf (hd A) (hd B)):=Rt.of_le g.aa (dZ hn hA) g.left
  unfold bU
  split
  ·trivial
  ·rename_i ne
   have hA':=jv hn hx hA
   have hB':=jv hn hx hB
   have ih:=FO f hA' hB' (jY hn hx hA kA) (jY hn hx hB kB)
   have hr:=vq hn f hA' hB'
   cases f with
   |zero=>exact ne
   |succ f=>
    unfold bU at ih hr ⊢
    split
    ·exact ne
    ·rename_i ne2
     rw[ae ne2]at ih hr
     refine⟨ne,?_,ih⟩
     have g2:=d_ (dZ hn hA').aa (dZ hn hB').aa
     generalize meetOf (hd (quot n (meetOf (hd A) (hd B)) A)) (hd (quot n (meetOf (hd A) (hd B)) B))=y at *
     have hy:=hr.head
     have hh:=c_ hn hx hy
     have hl:=gz hn hx hy
     have hre:=f9 hn hx hy
     generalize hand n (meetOf (hd A) (hd B)) y=z at *
     have l1:=FN hn hx hh hA kA ne g.left (hl.trans g2.left) hre
     have l2:=FN hn hx hh hB kB ne g.right (hl.trans g2.right) hre
     have l3:=g.most _ (hx.aa.then_ hh.aa) l1 l2
     have l4:Le (then_ (meetOf (hd A) (hd B)) z) (then_ (meetOf (hd A) (hd B)) still):=by rw[dD hx.aa];exact l3
     exact mO hh.aa (mH hx.aa hh.aa dI hre (pM hx.aa) l4)
theorem FP:∀(f:Nat) {A B:List Perm},ah n A->ah n B->Nf n A->Nf n B->(∃R,ah n R/\nf n (bU n f A B++R)=A)/\∃R,ah n R/\nf n (bU n f A B++R)=B
 |0,A,B,hA,hB,kA,kB=>⟨⟨A,hA,lN hn hA kA⟩,B,hB,lN hn hB kB⟩
 |f+1,A,B,hA,hB,kA,kB=>by
  have g:=d_ (dZ hn hA).aa (dZ hn hB).aa
  have hx:Rt n (meetOf (hd A) (hd B)):=Rt.of_le g.aa (dZ hn hA) g.left
  unfold bU
  split
  ·exact⟨⟨A,hA,lN hn hA kA⟩,B,hB,lN hn hB kB⟩
  ·rename_i ne
   obtain⟨⟨R,hR,eR⟩,S,hS,eS⟩:=FP f (jv hn hx hA) (jv hn hx hB) (jY hn hx hA kA) (jY hn hx hB kB)
   refine⟨⟨R,hR,?_⟩,S,hS,?_⟩
   ·show ins n (meetOf (hd A) (hd B)) (nf n (bU n f (quot n (meetOf (hd A) (hd B)) A) (quot n (meetOf (hd A) (hd B)) B)++R))=A
    rw[eR,vp hn hx hA kA ne g.left]
   ·show ins n (meetOf (hd A) (hd B)) (nf n (bU n f (quot n (meetOf (hd A) (hd B)) A) (quot n (meetOf (hd A) (hd B)) B)++S))=B
    rw[eS,vp hn hx hB kB ne g.right]
def p8(n:Nat)(A B:List Perm):Prop:=hd A≠delta n\/hd B≠delta n
theorem ze(f:Nat){A B:List Perm}(hA:ah n A)(hB:ah n B)(kA:Nf n A)(kB:Nf n B)(t:p8 n A B):Fm n (bU n f A B):=by
 have hr:=vq hn f hA hB
 have hN:=FO hn f hA hB kA kB
 refine⟨hr,hN,?_⟩
 have g:=d_ (dZ hn hA).aa (dZ hn hB).aa
 have nd:meetOf (hd A) (hd B)≠delta n:=by
  intro e
  rw[e]at g
  rcases t with t|t
  ·exact t (Le.antisymm (dZ hn hA).aa g.aa (dZ hn hA).pR g.left)
  ·exact t (Le.antisymm (dZ hn hB).aa g.aa (dZ hn hB).pR g.right)
 cases f with
 |zero=>intro x hx;cases hx
 |succ f=>
  unfold bU at hr hN ⊢
  split
  ·intro x hx;cases hx
  ·rename_i ne
   rw[ae ne]at hr hN
   exact y3 hn hr (ju hN).1 nd
theorem zf(h2:2<=n)(f:Nat){A B:List Perm}(hA:ah n A)(hB:ah n B)(kA:Nf n A)(kB:Nf n B)(t:p8 n A B):(bU n f A B).length<=A.length/\(bU n f A B).length<=B.length:=by
 have F:=ze hn f hA hB kA kB t
 obtain⟨⟨R,hR,eR⟩,S,hS,eS⟩:=FP hn f hA hB kA kB
 have l1:=FK hn h2 F hR
 have l2:=FK hn h2 F hS
 rw[eR]at l1
 rw[eS]at l2
 exact⟨l1,l2⟩
omit hn in
theorem FQ:∀(j:Nat) {s s':List Perm}{a:Perm},s.take j=s'.take j->(ins n a s).take j=(ins n a s').take j
 |0,_,_,_,_=>rfl
 |j+1,[],[],_,_=>rfl
 |j+1,[],_::_,_,h=>by simp at h
 |j+1,_::_,[],_,h=>by simp at h
 |j+1,c::s,c'::s',a,h=>by
  rw[o6,o6]at h
  obtain⟨rfl,h'⟩:=mo h
  unfold ins
  rw[o6,o6,FQ j h']
omit hn in
theorem FR:∀(j f:Nat) {A B A' B':List Perm},A.take j=A'.take j->B.take j=B'.take j->(bU n f A B).take j=(bU n f A' B').take j
 |0,_,_,_,_,_,_,_=>rfl
 |j+1,0,_,_,_,_,_,_=>rfl
 |j+1,f+1,A,B,A',B',hA,hB=>by
  have hh:∀{A A':List Perm},A.take (j+1)=A'.take (j+1)->hd A=hd A'/\∀x,(quot n x A).take j=(quot n x A').take j:=by
   intro A A' h
   cases A with
   |nil=>cases A' with
    |nil=>exact⟨rfl,fun _=>rfl⟩
    |cons b t=>simp at h
   |cons a s=>cases A' with
    |nil=>simp at h
    |cons b t=>
     rw[o6,o6]at h
     obtain⟨rfl,h'⟩:=mo h
     exact⟨rfl,fun x=>FQ j h'⟩
  obtain⟨eA,qA⟩:=hh hA
  obtain⟨eB,qB⟩:=hh hB
  unfold bU
  rw[<-eA,<-eB]
  split
  ·rfl
  ·rw[o6,o6,FR j f (qA _) (qB _)]
omit hn in
theorem FU{A:List Perm}{m:Nat}(h:0<m):hd (A.take m)=hd A:=by
 cases A with
 |nil=>rw[List.take_nil]
 |cons a s=>cases m with
  |zero=>omega
  |succ m=>rfl
theorem vt{A:List Perm}{m:Nat}(hA:ah n A)(k:Nf n A):ah n (A.take m)/\Nf n (A.take m):=by
 have g:=ju k
 have h1:ah n (A.take m):=fun x hx=>hA x (mw hx)
 refine⟨h1,nW ?_ fun x hx=>g.2 x (mw hx)⟩
 have:Gr n (A.take m++A.drop m):=by rw[List.take_append_drop];exact g.1
 exact vk this
theorem Nb(h2:2<=n)(f:Nat){A B:List Perm}(hA:ah n A)(hB:ah n B)(kA:Nf n A)(kB:Nf n B)(t:p8 n A B):
  bU n f (A.take (min A.length B.length)) (B.take (min A.length B.length))=bU n f A B:=by
 have l1:=zf hn h2 f hA hB kA kB t
 generalize em:min A.length B.length=m at *
 have a1:=vt hn (m:=m) hA kA
 have b1:=vt hn (m:=m) hB kB
 by_cases h0:m=0
 ·have e:bU n f A B=[]:=qT.mp (by omega)
  rw[e,h0,o7,o7]
  cases f with
  |zero=>rfl
  |succ f=>
   unfold bU
   rw[af]
   exact u5 dI dI ⟨dI,Le.refl _,Le.refl _,fun x _ h _=>h⟩
 ·have t':p8 n (A.take m) (B.take m):=by
   unfold p8
   rw[FU (by omega),FU (by omega)]
   exact t
  have l2:=zf hn h2 f a1.1 b1.1 a1.2 b1.2 t'
  have e:=FR (n:=n) m f (A:=A.take m) (B:=B.take m) (A':=A) (B':=B) (by rw[List.take_take,Nat.min_self]) (by rw[List.take_take,Nat.min_self])
  rw[dz,dz]at l2
  have q1:(bU n f (A.take m) (B.take m)).take m=bU n f (A.take m) (B.take m):=oY (by omega)
  have q2:(bU n f A B).take m=bU n f A B:=oY (by omega)
  rw[q1,q2]at e
  exact e
end
def lst(n:Nat)(F:Form):List Perm:=List.replicate F.twists.toNat (delta n)++F.factors
section
variable{n:Nat}(hn:n<=16)(h2:2<=n)
include hn h2
theorem FV{m:List Perm}:lst n (strip n 0 m)=m/\0<=(strip n 0 m).twists:=by
 obtain⟨j,ej,lj⟩:=ve (n:=n) hn (m:=m)
 unfold lst strip
 simp only
 rw[lj]
 refine⟨?_,by omega⟩
 rw[show ((0:Int)+(j:Nat)).toNat=j by omega]
 exact ej.symm
theorem nX{F:Form}(h:bh n F)(h0:0<=F.twists):ah n (lst n F)/\Nf n (lst n F)/\strip n 0 (lst n F)=F:=by
 have hf:=h.fm hn
 have hD:∀j,ah n (List.replicate j (delta n)):=fun j x hx=>by rw[xh hx];exact bV hn
 have all:ah n (lst n F):=ah.append (hD _) hf.all
 obtain⟨k,l⟩:=F
 have:∀j:Nat,Nf n (List.replicate j (delta n)++l)/\strip n 0 (List.replicate j (delta n)++l)=⟨j,l⟩:=by
  have st:∀(j:Nat) (z:Int),strip n z (List.replicate j (delta n)++l)=⟨z+j,l⟩:=by
   intro j
   induction j with
   |zero=>
    intro z
    rw[List.replicate_zero,kY,show z+((0:Nat):Int)=z by omega]
    cases l with
    |nil=>exact strip_nil
    |cons a r=>exact EJ (hf.nd a bE)
   |succ j ih=>
    intro z
    rw[kX,List.cons_append,yu,ih,show z+1+(j:Int)=z+((j+1:Nat):Int) by omega]
  intro j
  refine⟨?_,by rw[st j 0,Int.zero_add]⟩
  refine nW ?_ fun x hx=>?_
  ·induction j with
   |zero=>exact(ju hf.nf).1
   |succ j ih=>
    rw[kX,List.cons_append]
    have hal:ah n (List.replicate j (delta n)++l):=ah.append (hD _) hf.all
    cases q:List.replicate j (delta n)++l with
    |nil=>trivial
    |cons b t=>
     rw[q]at ih hal
     exact⟨ES hn hal.head,ih⟩
  ·rcases dO.mp hx with hx|hx
   ·rw[xh hx];exact sq h2 hn
   ·exact(ju hf.nf).2 x hx
 have z:=this k.toNat
 refine⟨all,z.1,?_⟩
 show strip n 0 (List.replicate k.toNat (delta n)++l)=⟨k,l⟩
 rw[z.2]
 have h0':0<=k:=h0
 rw[show ((k.toNat:Nat):Int)=k by omega]
theorem FW{F:Form}(h0:0<=F.twists):firstOf n F=hd (lst n F):=by
 unfold firstOf lst
 by_cases h:0<F.twists
 ·rw[af h]
  obtain⟨j,hj⟩:∃j,F.twists.toNat=j+1:=⟨F.twists.toNat - 1,by omega⟩
  rw[hj,kX];rfl
 ·rw[ae h,show F.twists.toNat=0 by omega];rfl
theorem zg{m:List Perm}(hm:ah n m)(k:Nf n m):bh n (strip n 0 m):=by
 have e:strip n 0 m=aO n ⟨0,m⟩:=by unfold aO;rw[show nf n m=m from lN hn hm k]
 rw[e]
 exact kD hn h2 hm
theorem FX{x:Perm}{F:Form}(hF:bh n F)(h0:0<=F.twists)(hx:Rt n x)(ne:x≠still)(l:Le x (hd (lst n F))):product n (backward n (formed n 0 [x])) F=strip n 0 (quot n x (lst n F)):=by
 have ey:formed n 0 [x]=aO n (bK x):=yt hn (ah.cons hx ah.nil)
 rw[ey]
 have hy:=js hn h2 (dJ hn h2 hx)
 obtain⟨ha,hk,hs⟩:=nX hn h2 hF h0
 have hq:=jv hn hx ha
 have hG:=zg hn h2 hq (jY hn hx ha hk)
 have e:product n (aO n (bK x)) (strip n 0 (quot n x (lst n F)))=F:=by
  have eq:strip n 0 (quot n x (lst n F))=aO n ⟨0,quot n x (lst n F)⟩:=by unfold aO;rw[show nf n (quot n x (lst n F))=_ from lN hn hq (jY hn hx ha hk)]
  have hQ:aV n ⟨0,quot n x (lst n F)⟩:=hq
  rw[eq,ET hn h2 (dJ hn h2 hx) hQ,cE hn (dJ hn h2 hx) hQ]
  unfold bI bK aO
  simp only [mL hn]
  show strip n 0 (ins n x (nf n (quot n x (lst n F))))=F
  rw[lN hn hq (jY hn hx ha hk),vp hn hx ha hk ne l,hs]
 have hb:=jW hn h2 hy
 calc product n (backward n (aO n (bK x))) F=product n (backward n (aO n (bK x))) (product n (aO n (bK x)) (strip n 0 (quot n x (lst n F)))):=by rw[e]
  _=strip n 0 (quot n x (lst n F)):=by rw[<-g9 hn h2 hb.all hy hG.all,yK hn h2 hy,sH hn h2 hG]
theorem FY:∀(f:Nat) {d F G:Form},bh n d->bh n F->bh n G->0<=F.twists->0<=G.twists->commonFrom n f d F G=product n d ⟨0,bU n f (lst n F) (lst n G)⟩
 |0,d,F,G,hd_,_,_,_,_=>by
  show d=product n d one
  rw[sE hn h2 hd_]
 |f+1,d,F,G,hD,hF,hG,zF,zG=>by
  obtain⟨fa,fk,fs⟩:=nX hn h2 hF zF
  obtain⟨ga,gk,gs⟩:=nX hn h2 hG zG
  unfold commonFrom bU
  simp only
  rw[FW hn h2 zF,FW hn h2 zG]
  have g:=d_ (dZ hn fa).aa (dZ hn ga).aa
  have hx:Rt n (meetOf (hd (lst n F)) (hd (lst n G))):=Rt.of_le g.aa (dZ hn fa) g.left
  split
  ·show d=product n d one
   rw[sE hn h2 hD]
  ·rename_i ne
   rw[FX hn h2 hF zF hx ne g.left,FX hn h2 hG zG hx ne g.right]
   generalize meetOf (hd (lst n F)) (hd (lst n G))=x at *
   have ey:formed n 0 [x]=aO n (bK x):=yt hn (ah.cons hx ah.nil)
   have hy:=js hn h2 (dJ hn h2 hx)
   have qa:=jv hn hx fa
   have qb:=jv hn hx ga
   have IF:=zg hn h2 qa (jY hn hx fa fk)
   have IG:=zg hn h2 qb (jY hn hx ga gk)
   have sF:=FV hn h2 (m:=quot n x (lst n F))
   have sG:=FV hn h2 (m:=quot n x (lst n G))
   rw[FY f (eY hn h2 hD.all (by rw[ey];exact hy)) IF IG sF.2 sG.2,sF.1,sG.1,ey]
   have hC:aV n ⟨0,bU n f (quot n x (lst n F)) (quot n x (lst n G))⟩:=vq hn f qa qb
   rw[g9 hn h2 hD.all hy hC,nV hn h2 (dJ hn h2 hx) hC]
   generalize bU n f (quot n x (lst n F)) (quot n x (lst n G))=c at *
   have e:bI n (bK x) ⟨0,c⟩=⟨0,x::c⟩:=by unfold bI bK;simp only [mL hn];rfl
   rw[cE hn (dJ hn h2 hx) hC,e]
   exact lP hn h2 hD.all (show aV n ⟨0,x::c⟩ from ah.cons hx hC)
def above(n:Nat)(k:Int)(F:Form):List Perm:=List.replicate (F.twists - k).toNat (delta n)++F.factors
theorem FZ{F G:Form}(hF:bh n F)(hG:bh n G):
  commonOf ⟨n,F⟩ ⟨n,G⟩=⟨n,⟨min F.twists G.twists,bU n ((above n (min F.twists G.twists) F).length+1) ((above n (min F.twists G.twists) F).take (min (above n (min F.twists G.twists) F).length (above n (min F.twists G.twists) G).length))
   ((above n (min F.twists G.twists) G).take (min (above n (min F.twists G.twists) F).length (above n (min F.twists G.twists) G).length))⟩⟩/\
  Fm n (bU n ((above n (min F.twists G.twists) F).length+1) ((above n (min F.twists G.twists) F).take (min (above n (min F.twists G.twists) F).length (above n (min F.twists G.twists) G).length))
   ((above n (min F.twists G.twists) G).take (min (above n (min F.twists G.twists) F).length (above n (min F.twists G.twists) G).length)))/\
  (bU n ((above n (min F.twists G.twists) F).length+1) ((above n (min F.twists G.twists) F).take (min (above n (min F.twists G.twists) F).length (above n (min F.twists G.twists) G).length))
   ((above n (min F.twists G.twists) G).take (min (above n (min F.twists G.twists) F).length (above n (min F.twists G.twists) G).length))).length<=(above n (min F.twists G.twists) F).length:=by
 generalize ek:min F.twists G.twists=k
 have iF:bh n ⟨F.twists - k,F.factors⟩:=(hF.fm hn).cv hn
 have iG:bh n ⟨G.twists - k,G.factors⟩:=(hG.fm hn).cv hn
 have zF:0<=(⟨F.twists - k,F.factors⟩:Form).twists:=by show 0<=F.twists - k;omega
 have zG:0<=(⟨G.twists - k,G.factors⟩:Form).twists:=by show 0<=G.twists - k;omega
 obtain⟨fa,fk,_⟩:=nX hn h2 iF zF
 obtain⟨ga,gk,_⟩:=nX hn h2 iG zG
 have eF:lst n ⟨F.twists - k,F.factors⟩=above n k F:=rfl
 have eG:lst n ⟨G.twists - k,G.factors⟩=above n k G:=rfl
 have hdz:∀{H:Form},bh n H->H.twists=k->hd (above n k H)≠delta n:=by
  intro H hH e
  unfold above
  rw[show (H.twists - k).toNat=0 by omega]
  show hd H.factors≠delta n
  cases q:H.factors with
  |nil=>exact fun z=>sq h2 hn z.symm
  |cons a r=>
   have:=(hH.fm hn).nd
   rw[q]at this
   exact this a bE
 have t:p8 n (above n k F) (above n k G):=by
  by_cases c:F.twists<=G.twists
  ·exact .inl (hdz hF (by omega))
  ·exact .inr (hdz hG (by omega))
 rw[eF]at fa fk
 rw[eG]at ga gk
 have cut:=fun f=>Nb hn h2 f fa ga fk gk t
 have fuel:(⟨F.twists - k,F.factors⟩:Form).twists.toNat+(⟨F.twists - k,F.factors⟩:Form).factors.length+1=(above n k F).length+1:=by
  unfold above;rw[bF,qJ]
 rw[cut]
 refine⟨?_,ze hn _ fa ga fk gk t,(zf hn h2 _ fa ga fk gk t).1⟩
 have cf:=ze hn ((above n k F).length+1) fa ga fk gk t
 unfold commonOf
 simp only [ek]
 rw[FY hn h2 _ (show bh n ⟨0,[]⟩ from lO hn h2) iF iG zF zG,eF,eG]
 have fuel':(F.twists - k).toNat+F.factors.length+1=(above n k F).length+1:=fuel
 rw[fuel']
 have cI:bh n ⟨0,bU n ((above n k F).length+1) (above n k F) (above n k G)⟩:=cf.cv hn
 rw[show ({twists:=0,factors:=[]}:Form)=one from rfl,sH hn h2 cI]
 rw[cE hn (show aV n ⟨k,[]⟩ from ah.nil) cI.all]
 have e:bI n ⟨k,[]⟩ ⟨0,bU n ((above n k F).length+1) (above n k F) (above n k G)⟩=⟨k,bU n ((above n k F).length+1) (above n k F) (above n k G)⟩:=by
  unfold bI;simp only [mL hn,mq,kY]
 rw[e,(cf.cv hn).nf]
end
end BB
end
section
namespace BB
open Wqaraq
def mk(m:List Nat)(i:Nat):Nat:=m.getD i 0
def eZ(m:List Nat)(x:Nat×Nat):List Nat:=m.map fun y=>if y=m.getD x.2 0 then m.getD x.1 0 else y
theorem nY(N:Nat)(l:List (Nat×Nat)):joined N l=l.foldl eZ (List.range N):=rfl
theorem jZ(m:List Nat)(x:Nat×Nat):(eZ m x).length=m.length:=aE ..
theorem p9{m:List Nat}{i:Nat}(h:i<m.length):mk m i=m[i]:=by
 unfold mk;rw[d7,bu h];rfl
theorem zh{m:List Nat}{i:Nat}(h:i<m.length):mk m i∈m:=by rw[p9 h];exact iY h
theorem mem_mk{m:List Nat}{a:Nat}(h:a∈m):∃i,i<m.length/\mk m i=a:=by
 obtain⟨i,hi,e⟩:=xn h
 exact⟨i,hi,by rw[p9 hi,e]⟩
theorem F0{m:List Nat}{x y i:Nat}(h:i<m.length):mk (eZ m (x,y)) i=if mk m i=mk m y then mk m x else mk m i:=by
 rw[p9 (by rw[jZ];exact h)]
 unfold eZ
 rw[List.getElem_map,p9 h]
 rfl
theorem vv{m:List Nat}{x y i j:Nat}(hi:i<m.length)(hj:j<m.length):
  mk (eZ m (x,y)) i=mk (eZ m (x,y)) j↔mk m i=mk m j\/(mk m i=mk m x/\mk m j=mk m y)\/(mk m i=mk m y/\mk m j=mk m x):=by
 rw[F0 hi,F0 hj]
 split<;>split<;>omega
def dd(m:List Nat):Nat:=m.eraseDups.length
theorem zi:∀(k:Nat) (m:List Nat),m.length<=k->m.eraseDups.Nodup
 |_,[],_=>by simp
 |0,a::m,h=>by simp at h
 |k+1,a::m,h=>by
  rw[List.eraseDups_cons,kW]
  refine⟨fun q=>?_,zi k _ (cz (qU _ _) (by simpa using h))⟩
  rw[List.mem_eraseDups]at q
  simpa using (iX.mp q).2
theorem zj{m e:List Nat}(nd:e.Nodup)(h:∀a,a∈e↔a∈m):dd m=e.length:=by
 unfold dd
 refine List.Perm.length_eq ((List.perm_ext_iff_of_nodup (zi _ m (aX _)) nd).mpr fun a=>?_)
 rw[List.mem_eraseDups,h]
theorem Nc{m:List Nat}{x y:Nat}(hx:x<m.length)(hy:y<m.length):dd (eZ m (x,y))+(if mk m x=mk m y then 0 else 1)=dd m:=by
 by_cases e:mk m x=mk m y
 ·rw[af e,Nat.add_zero]
  have:eZ m (x,y)=m:=by
   unfold eZ
   show m.map (fun z=>if z=mk m y then mk m x else z)=m
   have:(fun z=>if z=mk m y then mk m x else z)=fun z=>z:=by funext z;split<;>omega
   rw[this,List.map_id']
  rw[this]
 ·rw[ae e]
  have nd:=zi _ m (aX _)
  have hm:mk m y∈m.eraseDups:=by rw[List.mem_eraseDups];exact zh hy
  have k:=zj (m:=eZ m (x,y)) (nd.erase (mk m y)) fun a=>by
   rw[nd.mem_erase_iff,List.mem_eraseDups]
   constructor
   ·rintro⟨h1,h2⟩
    exact bW.mpr ⟨a,h2,ae h1⟩
   ·intro h
    obtain⟨b,hb,rfl⟩:=bW.mp h
    show (if b=mk m y then mk m x else b)≠mk m y/\(if b=mk m y then mk m x else b)∈m
    split
    ·exact⟨e,zh hx⟩
    ·rename_i ne
     exact⟨ne,hb⟩
  rw[k,List.length_erase_of_mem hm]
  have:=List.length_pos_of_mem hm
  unfold dd
  omega
theorem Nd(N:Nat):dd (List.range N)=N:=by
 rw[zj (e:=List.range N) o3 fun a=>Iff.rfl,cA]
def du(m:List Nat)(i:Nat):Bool:=decide (∀j,j<i->mk m j≠mk m i)
theorem nZ{m:List Nat}{i:Nat}:du m i=true↔∀j,j<i->mk m j≠mk m i:=mx
theorem Ng{m:List Nat}:∀(i:Nat),i<m.length->∃j,j<=i/\mk m j=mk m i/\du m j=true:=by
 intro i
 induction i using Nat.strongRecOn with
 |ind i ih=>
  intro hi
  by_cases h:du m i=true
  ·exact⟨i,aX _,rfl,h⟩
  ·rw[nZ]at h
   obtain⟨j,hj⟩:=Classical.not_forall.mp h
   have hj1:j<i:=kZ fun q=>hj fun z=>absurd z q
   have hj2:mk m j=mk m i:=kZ fun q=>hj fun _=>q
   obtain⟨k,h1,h2,h3⟩:=ih j hj1 (by omega)
   exact⟨k,by omega,by rw[h2,hj2],h3⟩
theorem Nh(m:List Nat):dd m=(List.range m.length).countP (du m):=by
 have nd:(((List.range m.length).filter (du m)).map (mk m)).Nodup:=by
  rw[List.Nodup,List.pairwise_map]
  have p:((List.range m.length).filter (du m)).Pairwise (·<·):=List.Pairwise.filter _ List.pairwise_lt_range
  refine List.Pairwise.imp_of_mem (fun {a b} ha hb hab=>?_) p
  exact(nZ.mp (iX.mp hb).2) a hab
 rw[zj nd fun a=>?_,aE,iB]
 constructor
 ·intro h
  obtain⟨i,hi,rfl⟩:=bW.mp h
  exact zh (a6.mp (iX.mp hi).1)
 ·intro h
  obtain⟨i,hi,rfl⟩:=mem_mk h
  obtain⟨j,h1,h2,h3⟩:=Ng i hi
  exact bW.mpr ⟨j,iX.mpr ⟨a6.mpr (by omega),h3⟩,h2⟩
def e6(N:Nat)(l:List (Nat×Nat)):Prop:=∀e,e∈l->e.1<N/\e.2<N
theorem vw:∀(l:List (Nat×Nat)) (m:List Nat),(l.foldl eZ m).length=m.length
 |[],_=>rfl
 |e::l,m=>by rw[gG,vw l,jZ]
theorem zk(N:Nat)(l:List (Nat×Nat)):(joined N l).length=N:=by rw[nY,vw,cA]
theorem F8:∀(l:List (Nat×Nat)) {m:List Nat}{i j:Nat},i<m.length->j<m.length->mk m i=mk m j->mk (l.foldl eZ m) i=mk (l.foldl eZ m) j
 |[],_,_,_,_,_,h=>h
 |e::l,m,i,j,hi,hj,h=>by
  rw[gG]
  exact F8 l (by rw[jZ];exact hi) (by rw[jZ];exact hj) ((vv (x:=e.1) (y:=e.2) hi hj).mpr (.inl h))
theorem F9:∀{l:List (Nat×Nat)}{m:List Nat}{x y:Nat},e6 m.length l->(x,y)∈l->mk (l.foldl eZ m) x=mk (l.foldl eZ m) y
 |[],_,_,_,_,h=>by cases h
 |e::l,m,x,y,hl,h=>by
  rw[gG]
  rcases cj.mp h with q|q
  ·subst q
   have hxy:=hl (x,y) bE
   exact F8 l (by rw[jZ];exact hxy.1) (by rw[jZ];exact hxy.2) ((vv hxy.1 hxy.2).mpr (.inr (.inl ⟨rfl,rfl⟩)))
  ·exact F9 (fun e' he=>by rw[jZ];exact hl e' (bH _ he)) q
theorem F_{V:Nat->Prop}:∀{l:List (Nat×Nat)}{m:List Nat},e6 m.length l->(∀e,e∈l->(V e.1↔V e.2))->(∀i j,i<m.length->j<m.length->mk m i=mk m j->(V i↔V j))->
  ∀{i j:Nat},i<m.length->j<m.length->mk (l.foldl eZ m) i=mk (l.foldl eZ m) j->(V i↔V j)
 |[],_,_,_,h,i,j,hi,hj,e=>h i j hi hj e
 |e::l,m,hl,hV,h,i,j,hi,hj,q=>by
  rw[gG]at q
  have he:=hl e bE
  have ev:=hV e bE
  refine F_ (m:=eZ m e) (fun e' h'=>by rw[jZ];exact hl e' (bH _ h')) (fun e' h'=>hV e' (bH _ h')) (fun i j hi hj z=>?_) (by rw[jZ];exact hi) (by rw[jZ];exact hj) q
  rw[jZ]at hi hj
  rcases(vv (x:=e.1) (y:=e.2) hi hj).mp z with z|⟨z1,z2⟩|⟨z1,z2⟩
  ·exact h i j hi hj z
  ·exact(h i e.1 hi he.1 z1).trans (ev.trans (h j e.2 hj he.2 z2).symm)
  ·exact(h i e.2 hi he.2 z1).trans (ev.symm.trans (h j e.1 hj he.1 z2).symm)
def Cn(N:Nat)(l:List (Nat×Nat))(i j:Nat):Prop:=mk (joined N l) i=mk (joined N l) j
theorem Cn.symm{N:Nat}{l:List (Nat×Nat)}{i j:Nat}(h:Cn N l i j):Cn N l j i:=Eq.symm h
theorem Cn.trans{N:Nat}{l:List (Nat×Nat)}{i j k:Nat}(h:Cn N l i j)(g:Cn N l j k):Cn N l i k:=Eq.trans h g
theorem Cn.sN{N:Nat}{l:List (Nat×Nat)}{x y:Nat}(hl:e6 N l)(h:(x,y)∈l):Cn N l x y:=by
 unfold Cn;rw[nY]
 exact F9 (by rw[cA];exact hl) h
theorem Cn.least{N:Nat}{l:List (Nat×Nat)}{i j:Nat}(V:Nat->Prop)(hl:e6 N l)(hV:∀e,e∈l->(V e.1↔V e.2))(hi:i<N)(hj:j<N)(h:Cn N l i j):V i↔V j:=by
 unfold Cn at h;rw[nY]at h
 have r:∀k,k<N->mk (List.range N) k=k:=fun k hk=>by rw[p9 (by rw[cA];exact hk),List.getElem_range]
 refine F_ (m:=List.range N) (by rw[cA];exact hl) hV (fun a b ha hb q=>?_) (by rw[cA];exact hi) (by rw[cA];exact hj) h
 rw[cA]at ha hb
 rw[r a ha,r b hb]at q
 rw[q]
theorem Cn.snoc{N:Nat}{l:List (Nat×Nat)}{x y i j:Nat}(hi:i<N)(hj:j<N):Cn N (l++[(x,y)]) i j↔Cn N l i j\/(Cn N l i x/\Cn N l j y)\/(Cn N l i y/\Cn N l j x):=by
 unfold Cn;rw[nY,nY,jE,gG,List.foldl_nil]
 exact vv (by rw[vw,cA];exact hi) (by rw[vw,cA];exact hj)
theorem e6.append{N:Nat}{l l':List (Nat×Nat)}(h:e6 N l)(k:e6 N l'):e6 N (l++l'):=fun e he=>(dO.mp he).elim (h e) (k e)
open Classical in
theorem sO{N:Nat}{l:List (Nat×Nat)}{x y:Nat}(hx:x<N)(hy:y<N):pieces N (l++[(x,y)])+(if Cn N l x y then 0 else 1)=pieces N l:=by
 have:=Nc (m:=joined N l) (x:=x) (y:=y) (by rw[zk];exact hx) (by rw[zk];exact hy)
 have e:pieces N (l++[(x,y)])=dd (eZ (joined N l) (x,y)):=by
  show dd (joined N (l++[(x,y)]))=_
  rw[nY,nY,jE];rfl
 rw[e]
 show _=dd (joined N l)
 rw[<-this]
 congr 1
 unfold Cn
 split<;>rfl
theorem Ni(N:Nat):pieces N []=N:=Nd N
theorem zm(N:Nat)(l:List (Nat×Nat)):pieces N l=(List.range N).countP (du (joined N l)):=by
 have:=Nh (joined N l)
 rw[zk]at this
 exact this
theorem Cn.alone{N:Nat}{l:List (Nat×Nat)}{q j:Nat}(hl:e6 N l)(h:∀e,e∈l->e.1≠q/\e.2≠q)(hq:q<N)(hj:j<N)(c:Cn N l q j):j=q:=by
 have:=Cn.least (fun z=>z=q) hl (fun e he=>⟨fun z=>absurd z (h e he).1,fun z=>absurd z (h e he).2⟩) hq hj c
 exact this.mp rfl
def it(φ:Nat->Nat):Nat->Nat->Nat
 |0,s=>s
 |i+1,s=>φ (it φ i s)
def hU(n:Nat)(a:Nat->Nat):List (Nat×Nat):=(List.range n).map fun i=>(i,a i)
section
variable{n:Nat}{a:Nat->Nat}(ha:∀i,i<n->a i<n)(inj:∀i j,i<n->j<n->a i=a j->i=j)
include ha
theorem zo:e6 n (hU n a):=fun e he=>by
 obtain⟨i,hi,rfl⟩:=bW.mp he
 have:=a6.mp hi
 exact⟨this,ha i this⟩
theorem n6{s:Nat}(hs:s<n):∀i,it a i s<n
 |0=>hs
 |i+1=>ha _ (n6 hs i)
theorem zp{s:Nat}(hs:s<n):∀i,Cn n (hU n a) s (it a i s)
 |0=>rfl
 |i+1=>(zp hs i).trans (Cn.sN (zo ha) (bW.mpr ⟨it a i s,a6.mpr (n6 ha hs i),rfl⟩))
include inj
theorem Ga{s:Nat}(hs:s<n):∀(i j:Nat),it a (i+j) s=it a i s->it a j s=s
 |0,j,h=>by rw[Nat.zero_add]at h;exact h
 |i+1,j,h=>by
  rw[show i+1+j=(i+j)+1 by omega]at h
  exact Ga hs i j (inj _ _ (n6 ha hs _) (n6 ha hs _) h)
theorem Nj{s k i:Nat}(hs:s<n)(hi:i<k)(h:it a k s=it a i s){p:Nat}(hp:p<n)(c:Cn n (hU n a) s p):∃j,j<k/\it a j s=p:=by
 obtain⟨d,rfl⟩:∃d,k=i+d:=⟨k - i,by omega⟩
 have hb:=Ga ha inj hs i d h
 refine(Cn.least (fun z=>∃j,j<i+d/\it a j s=z) (zo ha) (fun e he=>?_) hs hp c).mp ⟨0,by omega,rfl⟩
 obtain⟨x,hx,rfl⟩:=bW.mp he
 have hx:=a6.mp hx
 constructor
 ·rintro⟨j,hj,e⟩
  dsimp only at e ⊢
  by_cases q:j+1<i+d
  ·exact⟨j+1,q,by rw[<-e];rfl⟩
  ·have:j+1=i+d:=by omega
   exact⟨i,hi,by rw[<-h,<-this,<-e];rfl⟩
 ·rintro⟨j,hj,e⟩
  dsimp only at e ⊢
  cases j with
  |zero=>
   have:it a 0 s=it a d s:=hb.symm
   rw[this]at e
   obtain⟨d',rfl⟩:∃d',d=d'+1:=⟨d - 1,by omega⟩
   exact⟨d',by omega,inj _ _ (n6 ha hs _) hx e⟩
  |succ j=>exact⟨j,by omega,inj _ _ (n6 ha hs _) hx e⟩
end
end BB
end
section
namespace BB
open Wqaraq
structure Inv2(n:Nat)(p:List Nat):Prop where
 len:p.length=2 * n
 lt:∀e,e<2 * n->mk p e<2 * n
 inv:∀e,e<2 * n->mk p (mk p e)=e
 fp:∀e,e<2 * n->mk p e≠e
theorem vx{a:List Nat}{i j v:Nat}(h:i<a.length):mk (a.set i v) j=if j=i then v else mk a j:=jX h
def lQ(n:Nat):List Nat:=(List.range (2 * n)).map fun e=>if e<n then n+e else e - n
theorem p_{n e:Nat}(h:e<2 * n):mk (lQ n) e=if e<n then n+e else e - n:=by
 unfold lQ
 rw[p9 (by rw[aE,cA];exact h),List.getElem_map,List.getElem_range]
theorem Gb{n:Nat}:Inv2 n (lQ n):=by
 refine⟨by unfold lQ;rw[aE,cA],fun e h=>?_,fun e h=>?_,fun e h=>?_⟩
 ·rw[p_ h];split<;>omega
 ·rw[p_ h]
  by_cases c:e<n
  ·rw[af c,p_ (by omega),ae (by omega)];omega
  ·rw[ae c,p_ (by omega),af (by omega)];omega
 ·rw[p_ h];split<;>omega
def mR(p:List Nat)(x y:Nat):List Nat:=(((p.set (mk p x) (mk p y)).set (mk p y) (mk p x)).set x y).set y x
theorem lR{n:Nat}{p:List Nat}{x y e:Nat}(h:Inv2 n p)(hx:x<2 * n)(hy:y<2 * n):mk (mR p x y) e=if e=y then x else if e=x then y else if e=mk p y then mk p x else if e=mk p x then mk p y else mk p e:=by
 have l:=h.len
 have hx':=h.lt x hx
 have hy':=h.lt y hy
 unfold mR
 rw[vx (by simp only [gp];omega),vx (by simp only [gp];omega),vx (by simp only [gp];omega),vx (by omega)]
theorem Gc{n:Nat}{p:List Nat}{x y:Nat}(h:Inv2 n p)(hx:x<2 * n)(hy:y<2 * n)(xy:x≠y)(k:mk p x≠y):Inv2 n (mR p x y):=by
 have hx':=h.lt x hx
 have hy':=h.lt y hy
 have ix:=h.inv x hx
 have iy:=h.inv y hy
 have fx:=h.fp x hx
 have fy:=h.fp y hy
 have yx:mk p y≠x:=fun q=>k (by rw[q]at iy;exact iy)
 have ne:mk p x≠mk p y:=fun q=>xy (by rw[<-ix,q,iy])
 refine⟨by unfold mR;simp only [gp];exact h.len,fun e he=>?_,fun e he=>?_,fun e he=>?_⟩
 ·rw[lR h hx hy]
  have:=h.lt e he
  split
  ·omega
  ·split
   ·omega
   ·split
    ·omega
    ·split<;>omega
 ·rw[lR h hx hy (e:=e)]
  have ie:=h.inv e he
  by_cases c1:e=y
  ·rw[af c1,lR h hx hy,ae xy,af rfl,c1]
  ·rw[ae c1]
   by_cases c2:e=x
   ·rw[af c2,lR h hx hy,af rfl,c2]
   ·rw[ae c2]
    by_cases c3:e=mk p y
    ·rw[af c3,lR h hx hy,ae k,ae fx,ae ne,af rfl,c3]
    ·rw[ae c3]
     by_cases c4:e=mk p x
     ·rw[af c4,lR h hx hy,ae fy,ae yx,af rfl,c4]
     ·rw[ae c4,lR h hx hy]
      rw[ae (fun q=>c3 (by rw[<-ie,q])),ae (fun q=>c4 (by rw[<-ie,q])),ae (fun q=>c1 (by rw[<-ie,q,iy])),ae (fun q=>c2 (by rw[<-ie,q,ix])),ie]
 ·rw[lR h hx hy]
  have:=h.fp e he
  split
  ·omega
  ·split
   ·omega
   ·split
    ·omega
    ·split<;>omega
def gP(T n:Nat)(S:List Nat)(z:Nat):Nat:=if T+n<=z/\z - (T+n)∈S then z - n else z
def dv(T n:Nat)(S:List Nat):List (Nat×Nat):=S.map fun i=>(T+i,T+n+i)
theorem Nk{N:Nat}{l:List (Nat×Nat)}{x q:Nat}(hl:e6 N l)(h:∀e,e∈l->e.1≠q/\e.2≠q)(hx:x<N)(hq:q<N)(xq:x≠q):
  pieces N (l++[(x,q)])+1=pieces N l/\∀i j,i<N->j<N->(Cn N (l++[(x,q)]) i j↔Cn N l (if i=q then x else i) (if j=q then x else j)):=by
 have al:∀j,j<N->Cn N l q j->j=q:=fun j hj c=>Cn.alone hl h hq hj c
 constructor
 ·have:=sO (N:=N) (l:=l) hx hq
  rw[ae (fun c=>xq (al x hx c.symm))]at this
  exact this
 ·intro i j hi hj
  rw[Cn.snoc hi hj]
  by_cases c1:i=q
  ·by_cases c2:j=q
   ·rw[af c1,af c2,c1,c2]
    exact⟨fun _=>rfl,fun _=>.inl rfl⟩
   ·rw[af c1,ae c2,c1]
    constructor
    ·rintro(c|⟨c,d⟩|⟨c,d⟩)
     ·exact absurd (al j hj c) c2
     ·exact absurd (al x hx c) xq
     ·exact d.symm
    ·intro c
     exact .inr (.inr ⟨rfl,c.symm⟩)
  ·by_cases c2:j=q
   ·rw[ae c1,af c2,c2]
    constructor
    ·rintro(c|⟨c,d⟩|⟨c,d⟩)
     ·exact absurd (al i hi c.symm) c1
     ·exact c
     ·exact absurd (al x hx d) xq
    ·intro c
     exact .inr (.inl ⟨c,rfl⟩)
   ·rw[ae c1,ae c2]
    constructor
    ·rintro(c|⟨c,d⟩|⟨c,d⟩)
     ·exact c
     ·exact absurd (al j hj d.symm) c2
     ·exact absurd (al i hi c.symm) c1
    ·exact .inl
theorem zq{N T n:Nat}(hN:T+n+n<=N):∀(S:List Nat) {l:List (Nat×Nat)},e6 N l->S.Nodup->(∀i,i∈S->i<n)->(∀i,i∈S->∀e,e∈l->e.1≠T+n+i/\e.2≠T+n+i)->
  e6 N (l++dv T n S)/\pieces N (l++dv T n S)+S.length=pieces N l/\∀i j,i<N->j<N->(Cn N (l++dv T n S) i j↔Cn N l (gP T n S i) (gP T n S j))
 |[],l,hl,_,_,_=>by
  have e:l++dv T n []=l:=ft l
  rw[e]
  have h:∀z,gP T n [] z=z:=fun z=>by unfold gP;rw[ae];simp
  refine⟨hl,rfl,fun i j _ _=>by rw[h,h]⟩
 |i::S,l,hl,nd,hS,hf=>by
  have hi:=hS i bE
  have nd':=kW.mp nd
  have one:=Nk (N:=N) (l:=l) (x:=T+i) (q:=T+n+i) hl (hf i bE) (by omega) (by omega) (by omega)
  have hl1:e6 N (l++[(T+i,T+n+i)]):=hl.append fun e he=>by rw[gq.mp he];exact⟨by show T+i<N;omega,by show T+n+i<N;omega⟩
  have rest:=zq hN S (l:=l++[(T+i,T+n+i)]) hl1 nd'.2 (fun j hj=>hS j (bH _ hj)) (fun j hj e he=>by
   rcases dO.mp he with he|he
   ·exact hf j (bH _ hj) e he
   ·rw[gq.mp he]
    have h1:=hS j (bH _ hj)
    have:j≠i:=fun q=>nd'.1 (by rw[<-q];exact hj)
    exact⟨by show T+i≠T+n+j;omega,by show T+n+i≠T+n+j;omega⟩)
  have e:l++dv T n (i::S)=(l++[(T+i,T+n+i)])++dv T n S:=by
   rw[dG];rfl
  rw[e]
  refine⟨rest.1,?_,fun a b ha hb=>?_⟩
  ·have:=rest.2.1
   have:=one.1
   rw[bP];omega
  ·have hlt:∀z,z<N->gP T n S z<N:=fun z hz=>by unfold gP;split<;>omega
   rw[rest.2.2 a b ha hb,one.2 _ _ (hlt a ha) (hlt b hb)]
   have hh:∀z,(if gP T n S z=T+n+i then T+i else gP T n S z)=gP T n (i::S) z:=by
    intro z
    unfold gP
    by_cases c:T+n<=z/\z - (T+n)∈S
    ·have:=hS (z - (T+n)) (bH _ c.2)
     rw[af c,ae (by omega),af ⟨c.1,bH _ c.2⟩]
    ·rw[ae c]
     by_cases d:z=T+n+i
     ·rw[af d,af ⟨by omega,by rw[d,show T+n+i - (T+n)=i by omega];exact bE⟩]
      omega
     ·rw[ae d,ae]
      rintro⟨q1,q2⟩
      rcases cj.mp q2 with q3|q3
      ·omega
      ·exact c ⟨q1,q3⟩
   rw[hh,hh]
def pt(n T e:Nat):Nat:=if e<n then e else T+(e - n)
structure Lv(n N T:Nat)(l:List (Nat×Nat))(p:List Nat)(L:Nat):Prop where
 zr:e6 N l
 low:∀e,e∈l->e.1<T+n/\e.2<T+n
 inv:Inv2 n p
 cn:∀e e',e<2 * n->e'<2 * n->(Cn N l (pt n T e) (pt n T e')↔e'=e\/e'=mk p e)
 cnt:pieces N l+(T+n)=n+L+N
theorem j1{n N T e:Nat}(hN:T+n<=N)(he:e<2 * n):pt n T e<N:=by unfold pt;split<;>omega
theorem zt{n T e:Nat}{S:List Nat}(he:e<2 * n)(h:n<=e->e - n∈S):gP T n S (pt n (T+n) e)=pt n T e:=by
 unfold gP pt
 by_cases c:e<n
 ·rw[af c,af c,ae]
  rintro⟨q,_⟩;omega
 ·rw[ae c,ae c,af ⟨by omega,by rw[show T+n+(e - n) - (T+n)=e - n by omega];exact h (by omega)⟩]
  omega
theorem zu{n T z:Nat}{S:List Nat}(h:z<T+n):gP T n S z=z:=by
 unfold gP;rw[ae];rintro⟨q,_⟩;omega
theorem Nl{n N:Nat}(hN:n<=N):Lv n N 0 [] (lQ n) 0:=by
 refine⟨fun e he=>(by cases he),fun e he=>(by cases he),Gb,fun e e' h h'=>?_,by rw[Ni];omega⟩
 rw[p_ h]
 have hp:=j1 (T:=0) (by omega) h (N:=N)
 have hp':=j1 (T:=0) (by omega) h' (N:=N)
 have:Cn N [] (pt n 0 e) (pt n 0 e')↔pt n 0 e'=pt n 0 e:=⟨fun c=>Cn.alone (fun e he=>(by cases he)) (fun e he=>(by cases he)) hp hp' c,fun q=>by rw[q];exact rfl⟩
 rw[this]
 unfold pt
 split<;>split<;>omega
theorem Gd{T n:Nat}{S:List Nat}(h:∀i,i∈S->i<n):∀e,e∈dv T n S->e.1<T+n+n/\e.2<T+n+n:=fun e he=>by
 obtain⟨i,hi,rfl⟩:=bW.mp he
 have:=h i hi
 exact⟨by show T+i<T+n+n;omega,by show T+n+i<T+n+n;omega⟩
theorem Nm{n N T:Nat}{l:List (Nat×Nat)}{p:List Nat}{L:Nat}(hN:T+n+n<=N)(h:Lv n N T l p L):Lv n N (T+n) (l++dv T n (List.range n)) p L:=by
 have hr:∀i,i∈List.range n->i<n:=fun i hi=>a6.mp hi
 obtain⟨h1,h2,h3⟩:=zq hN (List.range n) h.zr o3 hr fun i _ e he=>by
  have:=h.low e he
  exact⟨by omega,by omega⟩
 refine⟨h1,fun e he=>?_,h.inv,fun e e' he he'=>?_,?_⟩
 ·rcases dO.mp he with he|he
  ·have:=h.low e he
   exact⟨by omega,by omega⟩
  ·exact Gd hr e he
 ·rw[h3 _ _ (j1 (by omega) he) (j1 (by omega) he'),zt he (fun q=>a6.mpr (by omega)),zt he' (fun q=>a6.mpr (by omega)),h.cn e e' he he']
 ·have:=h.cnt
  rw[cA]at h2
  omega
theorem Ge:∀(n a:Nat),a+1<n->((List.range n).filter fun i=>decide (i≠a/\i≠a+1)).length+2=n
 |0,a,h=>by omega
 |n+1,a,h=>by
  rw[iZ,uo,bF]
  by_cases c:a+1<n
  ·have ih:=Ge n a c
   rw[oZ (by simp;omega),qY,oW]
   omega
  ·have e:n=a+1:=by omega
   subst e
   rw[uj (by simp),qY,iZ,uo,uj (by simp),qY,qX.mpr (fun x hx=>by
    have:=a6.mp hx
    simp;omega)]
   simp
theorem Nn{n N T a:Nat}{l:List (Nat×Nat)}{p:List Nat}{L:Nat}(hN:T+n+n<=N)(ha:a+1<n)(h:Lv n N T l p L):
  Lv n N (T+n) (l++dv T n ((List.range n).filter fun i=>decide (i≠a/\i≠a+1))++[(T+a,T+(a+1))]++[(T+n+a,T+n+(a+1))])
   (if mk p (n+a)=n+(a+1) then p else mR p (n+a) (n+(a+1))) (if mk p (n+a)=n+(a+1) then L+1 else L):=by
 have hS:∀i,i∈(List.range n).filter (fun i=>decide (i≠a/\i≠a+1))↔i<n/\i≠a/\i≠a+1:=fun i=>by
  rw[iX,a6,mx]
 have hlen:=Ge n a ha
 have nd:((List.range n).filter fun i=>decide (i≠a/\i≠a+1)).Nodup:=List.Pairwise.filter _ o3
 generalize (List.range n).filter (fun i=>decide (i≠a/\i≠a+1))=S at *
 have hr:∀i,i∈S->i<n:=fun i hi=>((hS i).mp hi).1
 obtain⟨h1,h2,h3⟩:=zq hN S h.zr nd hr fun i _ e he=>by
  have:=h.low e he
  exact⟨by omega,by omega⟩
 have hx:n+a<2 * n:=by omega
 have hy:n+(a+1)<2 * n:=by omega
 have ptx:pt n T (n+a)=T+a:=by unfold pt;rw[ae (by omega)];omega
 have pty:pt n T (n+(a+1))=T+(a+1):=by unfold pt;rw[ae (by omega)];omega
 have cuv:Cn N (l++dv T n S) (T+a) (T+(a+1))↔mk p (n+a)=n+(a+1):=by
  rw[h3 _ _ (by omega) (by omega),zu (by omega),zu (by omega),<-ptx,<-pty,h.cn _ _ hx hy]
  omega
 have e2:e6 N (l++dv T n S++[(T+a,T+(a+1))]):=h1.append fun e he=>by rw[gq.mp he];exact⟨by show T+a<N;omega,by show T+(a+1)<N;omega⟩
 have un:∀b,b=a\/b=a+1->∀e,e∈l++dv T n S++[(T+a,T+(a+1))]->e.1≠T+n+b/\e.2≠T+n+b:=by
  intro b hb e he
  rcases dO.mp he with he|he
  ·rcases dO.mp he with he|he
   ·have:=h.low e he
    exact⟨by omega,by omega⟩
   ·obtain⟨i,hi,rfl⟩:=bW.mp he
    have:=(hS i).mp hi
    exact⟨by show T+i≠T+n+b;omega,by show T+n+i≠T+n+b;omega⟩
  ·rw[gq.mp he]
   exact⟨by show T+a≠T+n+b;omega,by show T+(a+1)≠T+n+b;omega⟩
 have al:∀b,b=a\/b=a+1->∀j,j<N->Cn N (l++dv T n S++[(T+a,T+(a+1))]) (T+n+b) j->j=T+n+b:=fun b hb j hj c=>Cn.alone e2 (un b hb) (by omega) hj c
 have out:∀e e',e<2 * n->e'<2 * n->e≠n+a->e≠n+(a+1)->e'≠n+a->e'≠n+(a+1)->
   (Cn N (l++dv T n S++[(T+a,T+(a+1))]) (pt n (T+n) e) (pt n (T+n) e')↔(e'=e\/e'=mk p e)\/(e=mk p (n+a)/\e'=mk p (n+(a+1)))\/(e=mk p (n+(a+1))/\e'=mk p (n+a))):=by
  intro e e' he he' k1 k2 k3 k4
  have g:∀z,z<2 * n->z≠n+a->z≠n+(a+1)->gP T n S (pt n (T+n) z)=pt n T z:=fun z hz z1 z2=>zt hz fun q=>(hS _).mpr ⟨by omega,by omega,by omega⟩
  have pz:∀z,z<2 * n->pt n (T+n) z<N:=fun z hz=>j1 (by omega) hz
  have iff1:∀z,z<2 * n->z≠n+a->z≠n+(a+1)->∀b,b=a\/b=a+1->(Cn N (l++dv T n S) (pt n (T+n) z) (T+b)↔z=mk p (n+b)):=by
   intro z hz z1 z2 b hb
   have pb:pt n T (n+b)=T+b:=by unfold pt;rw[ae (by omega)];omega
   rw[h3 _ _ (pz z hz) (by omega),g z hz z1 z2,zu (by omega),<-pb,h.cn z (n+b) hz (by omega)]
   have i1:=h.inv.inv z hz
   have i2:=h.inv.inv (n+b) (by omega)
   constructor
   ·rintro(q|q)
    ·omega
    ·rw[q];exact i1.symm
   ·intro q
    exact .inr (by rw[q];exact i2.symm)
  rw[Cn.snoc (pz e he) (pz e' he'),h3 _ _ (pz e he) (pz e' he'),g e he k1 k2,g e' he' k3 k4,h.cn e e' he he',
   iff1 e he k1 k2 a (.inl rfl),iff1 e' he' k3 k4 a (.inl rfl),iff1 e he k1 k2 (a+1) (.inr rfl),iff1 e' he' k3 k4 (a+1) (.inr rfl)]
 have pq:∀b,pt n (T+n) (n+b)=T+n+b:=fun b=>by unfold pt;rw[ae (by omega)];omega
 have ptinj:∀z b,z<2 * n->b=a\/b=a+1->pt n (T+n) z=T+n+b->z=n+b:=fun z b hz hb q=>by unfold pt at q;split at q<;>omega
 refine⟨e2.append fun e he=>by rw[gq.mp he];exact⟨by show T+n+a<N;omega,by show T+n+(a+1)<N;omega⟩,fun e he=>?_,?_,fun e e' he he'=>?_,?_⟩
 ·rcases dO.mp he with he|he
  ·rcases dO.mp he with he|he
   ·rcases dO.mp he with he|he
    ·have:=h.low e he
     exact⟨by omega,by omega⟩
    ·exact Gd hr e he
   ·rw[gq.mp he]
    exact⟨by show T+a<T+n+n;omega,by show T+(a+1)<T+n+n;omega⟩
  ·rw[gq.mp he]
   exact⟨by show T+n+a<T+n+n;omega,by show T+n+(a+1)<T+n+n;omega⟩
 ·split
  ·exact h.inv
  ·rename_i k
   exact Gc h.inv hx hy (by omega) k
 ·rw[Cn.snoc (j1 (by omega) he) (j1 (by omega) he')]
  have qx:∀z,z<2 * n->∀b,b=a\/b=a+1->(Cn N (l++dv T n S++[(T+a,T+(a+1))]) (pt n (T+n) z) (T+n+b)↔z=n+b):=by
   intro z hz b hb
   constructor
   ·intro c
    exact ptinj z b hz hb (al b hb _ (j1 (by omega) hz) c.symm)
   ·intro q
    rw[q,pq];exact rfl
  rw[qx e he a (.inl rfl),qx e he (a+1) (.inr rfl),qx e' he' a (.inl rfl),qx e' he' (a+1) (.inr rfl)]
  have ix:=h.inv.inv (n+a) hx
  have iy:=h.inv.inv (n+(a+1)) hy
  have fx:=h.inv.fp (n+a) hx
  have fy:=h.inv.fp (n+(a+1)) hy
  have ie:=h.inv.inv e he
  have mp:mk (if mk p (n+a)=n+(a+1) then p else mR p (n+a) (n+(a+1))) e=if e=n+(a+1) then n+a else if e=n+a then n+(a+1) else if e=mk p (n+(a+1)) then mk p (n+a) else if e=mk p (n+a) then mk p (n+(a+1)) else mk p e:=by
   by_cases k:mk p (n+a)=n+(a+1)
   ·rw[af k]
    have k':mk p (n+(a+1))=n+a:=by rw[<-k];exact ix
    rw[k,k']
    by_cases c1:e=n+(a+1)
    ·rw[af c1,c1,k']
    ·rw[ae c1]
     by_cases c2:e=n+a
     ·rw[af c2,c2,k]
     ·rw[ae c2,ae c2,ae c1]
   ·rw[ae k,lR h.inv hx hy]
  rw[mp]
  by_cases c1:e=n+(a+1)
  ·rw[af c1]
   have:Cn N (l++dv T n S++[(T+a,T+(a+1))]) (pt n (T+n) e) (pt n (T+n) e')↔e'=e:=by
    rw[c1,pq]
    constructor
    ·intro c
     exact ptinj e' (a+1) he' (.inr rfl) (al (a+1) (.inr rfl) _ (j1 (by omega) he') c)
    ·intro q
     rw[q,pq];exact rfl
   rw[this];omega
  ·rw[ae c1]
   by_cases c2:e=n+a
   ·rw[af c2]
    have:Cn N (l++dv T n S++[(T+a,T+(a+1))]) (pt n (T+n) e) (pt n (T+n) e')↔e'=e:=by
     rw[c2,pq]
     constructor
     ·intro c
      exact ptinj e' a he' (.inl rfl) (al a (.inl rfl) _ (j1 (by omega) he') c)
     ·intro q
      rw[q,pq];exact rfl
    rw[this];omega
   ·rw[ae c2]
    by_cases d1:e'=n+(a+1)
    ·have:¬Cn N (l++dv T n S++[(T+a,T+(a+1))]) (pt n (T+n) e) (pt n (T+n) e'):=by
      rw[d1,pq,qx e he (a+1) (.inr rfl)];exact c1
     have np:¬e'=(if e=mk p (n+(a+1)) then mk p (n+a) else if e=mk p (n+a) then mk p (n+(a+1)) else mk p e):=by
      rw[d1]
      split
      ·rename_i q
       intro z
       exact c2 (by rw[q,z];exact ix)
      ·split
       ·exact fun z=>fy z.symm
       ·rename_i q1 q2
        intro z
        exact q1 (by rw[z];exact ie.symm)
     constructor
     ·rintro(q|q|q)
      ·exact absurd q this
      ·omega
      ·omega
     ·rintro(q|q)
      ·omega
      ·exact absurd q np
    ·by_cases d2:e'=n+a
     ·have:¬Cn N (l++dv T n S++[(T+a,T+(a+1))]) (pt n (T+n) e) (pt n (T+n) e'):=by
       rw[d2,pq,qx e he a (.inl rfl)];exact c2
      have np:¬e'=(if e=mk p (n+(a+1)) then mk p (n+a) else if e=mk p (n+a) then mk p (n+(a+1)) else mk p e):=by
       rw[d2]
       split
       ·exact fun z=>fx z.symm
       ·split
        ·rename_i q
         intro z
         exact c1 (by rw[q,z];exact iy)
        ·rename_i q1 q2
         intro z
         exact q2 (by rw[z];exact ie.symm)
      constructor
      ·rintro(q|q|q)
       ·exact absurd q this
       ·omega
       ·omega
      ·rintro(q|q)
       ·omega
       ·exact absurd q np
     ·rw[out e e' he he' c2 c1 d2 d1,or_iff_left (show ¬(e=n+a/\e'=n+(a+1)\/e=n+(a+1)/\e'=n+a) by omega)]
      by_cases k1:e=mk p (n+(a+1))
      ·rw[af k1]
       have me:mk p e=n+(a+1):=by rw[k1];exact iy
       rw[me]
       constructor
       ·rintro((q|q)|q|q)
        ·exact .inl q
        ·exact absurd q d1
        ·exfalso
         have:mk p (n+a)=mk p (n+(a+1)):=q.1.symm.trans k1
         have:n+a=n+(a+1):=by rw[<-ix,this,iy]
         omega
        ·exact .inr q.2
       ·rintro(q|q)
        ·exact .inl (.inl q)
        ·exact .inr (.inr ⟨k1,q⟩)
      ·rw[ae k1]
       by_cases k2:e=mk p (n+a)
       ·rw[af k2]
        have me:mk p e=n+a:=by rw[k2];exact ix
        rw[me]
        constructor
        ·rintro((q|q)|q|q)
         ·exact .inl q
         ·exact absurd q d2
         ·exact .inr q.2
         ·exact absurd q.1 k1
        ·rintro(q|q)
         ·exact .inl (.inl q)
         ·exact .inr (.inl ⟨k2,q⟩)
       ·rw[ae k2]
        constructor
        ·rintro(q|q|q)
         ·exact q
         ·exact absurd q.1 k2
         ·exact absurd q.1 k1
        ·exact .inl
 ·have c:=h.cnt
  have s1:=sO (N:=N) (l:=l++dv T n S) (x:=T+a) (y:=T+(a+1)) (by omega) (by omega)
  have s2:=sO (N:=N) (l:=l++dv T n S++[(T+a,T+(a+1))]) (x:=T+n+a) (y:=T+n+(a+1)) (by omega) (by omega)
  rw[ae (fun c=>by have:=al a (.inl rfl) _ (by omega) c;omega)]at s2
  by_cases k:mk p (n+a)=n+(a+1)
  ·rw[af k]
   rw[af (cuv.mpr k)]at s1
   omega
  ·rw[ae k]
   rw[ae (fun c=>k (cuv.mp c))]at s1
   omega
end BB
end
section
namespace BB
open Wqaraq
def Pe(n:Nat)(p:List Nat):List (Nat×Nat):=(List.range (2 * n)).map fun e=>(e,mk p e)
def Je(n k:Nat):List (Nat×Nat):=(List.range k).map fun i=>(n+i,i)
def Cl(T k:Nat):List (Nat×Nat):=(List.range k).map fun i=>(T+i,i)
theorem zv{n:Nat}{p:List Nat}(h:Inv2 n p):e6 (2 * n) (Pe n p):=fun e he=>by
 obtain⟨i,hi,rfl⟩:=bW.mp he
 have:=a6.mp hi
 exact⟨this,h.lt i this⟩
theorem Np{n k:Nat}(hk:k<=n):e6 (2 * n) (Je n k):=fun e he=>by
 obtain⟨i,hi,rfl⟩:=bW.mp he
 have:=a6.mp hi
 exact⟨by show n+i<2 * n;omega,by show i<2 * n;omega⟩
theorem zw{n:Nat}{p:List Nat}(h:Inv2 n p){e e':Nat}(he:e<2 * n)(he':e'<2 * n):Cn (2 * n) (Pe n p) e e'↔e'=e\/e'=mk p e:=by
 constructor
 ·intro c
  refine(Cn.least (fun z=>z=e\/z=mk p e) (zv h) (fun x hx=>?_) he he' c).mp (.inl rfl)
  obtain⟨i,hi,rfl⟩:=bW.mp hx
  have hi:=a6.mp hi
  have ii:=h.inv i hi
  have ie:=h.inv e he
  show (i=e\/i=mk p e)↔(mk p i=e\/mk p i=mk p e)
  constructor
  ·rintro(q|q)
   ·exact .inr (by rw[q])
   ·exact .inl (by rw[q];exact ie)
  ·rintro(q|q)
   ·exact .inr (by rw[<-q];exact ii.symm)
   ·exact .inl (by rw[<-ii,q];exact ie)
 ·rintro(q|q)
  ·rw[q];exact rfl
  ·rw[q]
   exact Cn.sN (zv h) (bW.mpr ⟨e,a6.mpr he,rfl⟩)
theorem Nq{n:Nat}{p:List Nat}(h:Inv2 n p):((List.range (2 * n)).map (mk p)).Perm (List.range (2 * n)):=by
 refine(List.perm_ext_iff_of_nodup ?_ o3).mpr fun a=>?_
 ·rw[List.Nodup,List.pairwise_map]
  refine List.Pairwise.imp_of_mem (fun {a b} ha hb hab=>?_) o3
  intro q
  exact hab (by rw[<-h.inv a (a6.mp ha),q,h.inv b (a6.mp hb)])
 ·constructor
  ·intro q
   obtain⟨i,hi,rfl⟩:=bW.mp q
   exact a6.mpr (h.lt i (a6.mp hi))
  ·intro q
   have q:=a6.mp q
   exact bW.mpr ⟨mk p a,a6.mpr (h.lt a q),h.inv a q⟩
theorem Nr{n:Nat}{p:List Nat}(h:Inv2 n p):pieces (2 * n) (Pe n p)=n:=by
 have e1:(List.range (2 * n)).countP (du (joined (2 * n) (Pe n p)))=(List.range (2 * n)).countP (fun e=>decide (e<mk p e)):=by
  refine m7 fun e he=>?_
  have he:=a6.mp he
  rw[nZ,mx]
  have fe:=h.fp e he
  have ie:=h.inv e he
  constructor
  ·intro q
   by_cases c:mk p e<e
   ·exact absurd ((zw h (h.lt e he) he).mpr (.inr ie.symm)) (q _ c)
   ·omega
  ·intro q j hj c
   rcases(zw h (e:=j) (by omega) he).mp c with z|z
   ·omega
   ·have:=h.inv j (by omega)
    rw[<-z]at this
    omega
 have e2:(List.range (2 * n)).countP (fun e=>decide (e<mk p e))=(List.range (2 * n)).countP (fun e=>decide (mk p e<e)):=by
  rw[<-(Nq h).countP_eq,List.countP_map]
  refine m7 fun e he=>?_
  have ie:=h.inv e (a6.mp he)
  show decide (mk p e<mk p (mk p e))=true↔_
  rw[ie]
 have e3:(List.range (2 * n)).countP (fun e=>decide (e<mk p e))+(List.range (2 * n)).countP (fun e=>decide (mk p e<e))=2 * n:=by
  have:=List.length_eq_countP_add_countP (fun e=>decide (e<mk p e)) (l:=List.range (2 * n))
  rw[cA]at this
  have e:(List.range (2 * n)).countP (fun a=>decide ¬decide (a<mk p a)=true)=(List.range (2 * n)).countP (fun e=>decide (mk p e<e)):=by
   refine m7 fun e he=>?_
   have fe:=h.fp e (a6.mp he)
   simp only [mx]
   omega
  rw[e]at this
  exact this.symm
 rw[zm,e1]
 omega
theorem Gf{n N T:Nat}{l:List (Nat×Nat)}{p:List Nat}{L:Nat}(h:Lv n N T l p L)(hN:N=T+n):∀k,k<=n->
  (∀e e',e<2 * n->e'<2 * n->(Cn N (l++Cl T k) (pt n T e) (pt n T e')↔Cn (2 * n) (Pe n p++Je n k) e e'))/\pieces N (l++Cl T k)=L+pieces (2 * n) (Pe n p++Je n k)
 |0,_=>by
  have e1:l++Cl T 0=l:=ft l
  have e2:Pe n p++Je n 0=Pe n p:=ft _
  rw[e1,e2,Nr h.inv]
  refine⟨fun e e' he he'=>by rw[h.cn e e' he he',zw h.inv he he'],?_⟩
  have:=h.cnt
  omega
 |k+1,hk=>by
  obtain⟨ih1,ih2⟩:=Gf h hN k (by omega)
  have e1:l++Cl T (k+1)=l++Cl T k++[(pt n T (n+k),pt n T k)]:=by
   unfold Cl
   rw[iZ,cN,<-dG]
   unfold pt
   rw[ae (by omega),af (by omega),show n+k - n=k by omega]
   rfl
  have e2:Pe n p++Je n (k+1)=Pe n p++Je n k++[(n+k,k)]:=by
   unfold Je
   rw[iZ,cN,<-dG]
   rfl
  have hp:∀e,e<2 * n->pt n T e<N:=fun e he=>j1 (by omega) he
  have h1:n+k<2 * n:=by omega
  have h2:k<2 * n:=by omega
  rw[e1,e2]
  refine⟨fun e e' he he'=>?_,?_⟩
  ·rw[Cn.snoc (hp e he) (hp e' he'),Cn.snoc he he',ih1 e e' he he',ih1 e (n+k) he h1,ih1 e' k he' h2,ih1 e k he h2,ih1 e' (n+k) he' h1]
  ·have s1:=sO (N:=N) (l:=l++Cl T k) (hp (n+k) h1) (hp k h2)
   have s2:=sO (N:=2 * n) (l:=Pe n p++Je n k) h1 h2
   by_cases c:Cn (2 * n) (Pe n p++Je n k) (n+k) k
   ·rw[af c]at s2
    rw[af ((ih1 _ _ h1 h2).mpr c)]at s1
    omega
   ·rw[ae c]at s2
    rw[ae (fun z=>c ((ih1 _ _ h1 h2).mp z))]at s1
    omega
def Ee(n:Nat)(p:List Nat):List (Nat×Nat):=Pe n p++Je n n
theorem vy{n:Nat}{p:List Nat}(h:Inv2 n p):e6 (2 * n) (Ee n p):=(zv h).append (Np (aX _))
def fO(n:Nat)(p:List Nat):Nat:=(List.range n).countP (du (joined (2 * n) (Ee n p)))
theorem Nt{n:Nat}{p:List Nat}(h:Inv2 n p):pieces (2 * n) (Ee n p)=fO n p:=by
 rw[zm,Nat.two_mul,List.range_add,o8,<-Nat.two_mul]
 have:((List.range n).map fun x=>n+x).countP (du (joined (2 * n) (Ee n p)))=0:=by
  rw[uk]
  intro e he
  obtain⟨i,hi,rfl⟩:=bW.mp he
  have hi:=a6.mp hi
  rw[nZ]
  intro q
  refine q i (by omega) ?_
  exact(Cn.sN (vy h) (d6 _ (bW.mpr ⟨i,a6.mpr hi,rfl⟩))).symm
 rw[this];rfl
theorem Lv.closed{n N T:Nat}{l:List (Nat×Nat)}{p:List Nat}{L:Nat}(h:Lv n N T l p L)(hN:N=T+n):pieces N (l++Cl T n)=L+fO n p:=by
 rw[(Gf h hN n (aX _)).2,<-Nt h.inv];rfl
def over(n x:Nat):Nat:=(x+n) % (2 * n)
theorem Gg{n x:Nat}(hn:0<n):over n x<2 * n:=Nat.mod_lt _ (by omega)
theorem qc{n x:Nat}(h:x<2 * n):(x<n/\over n x=x+n)\/(n<=x/\over n x=x - n):=by
 unfold over
 by_cases c:x<n
 ·exact .inl ⟨c,q0 (by omega)⟩
 ·refine .inr ⟨by omega,?_⟩
  rw[show x+n=x - n+2 * n by omega,Nat.add_mod_right,q0 (by omega)]
theorem over_over{n x:Nat}(h:x<2 * n):over n (over n x)=x:=by
 rcases qc h with ⟨c,e⟩|⟨c,e⟩
 ·rcases qc (n:=n) (x:=over n x) (by omega) with ⟨d,f⟩|⟨d,f⟩<;>omega
 ·rcases qc (n:=n) (x:=over n x) (by omega) with ⟨d,f⟩|⟨d,f⟩<;>omega
theorem sP{n x:Nat}(h:x<2 * n):(x<n/\x % n=x)\/(n<=x/\x % n=x - n):=by
 by_cases c:x<n
 ·exact .inl ⟨c,q0 c⟩
 ·refine .inr ⟨by omega,?_⟩
  rw[Nat.mod_eq_sub_mod (by omega),q0 (by omega)]
theorem vz{n x:Nat}(h:x<2 * n):over n x % n=x % n:=by
 have h1:=qc h
 have h2:=sP h
 have h3:=sP (n:=n) (x:=over n x) (by omega)
 omega
theorem Gh{n x y:Nat}(hx:x<2 * n)(hy:y<2 * n)(h:x % n=y % n):x=y\/x=over n y:=by
 have h1:=qc hy
 have h2:=sP hx
 have h3:=sP hy
 omega
section
variable{n:Nat}{p:List Nat}(h:Inv2 n p)(hn:0<n)
include h
def bD(n:Nat)(p:List Nat)(e:Nat):Nat:=over n (mk p e)
include hn
theorem sQ{s:Nat}(hs:s<2 * n):∀i,it (bD n p) i s<2 * n
 |0=>hs
 |i+1=>Gg hn
theorem zx{e:Nat}(he:e<2 * n):Cn (2 * n) (Ee n p) e (e % n):=by
 rcases sP he with ⟨c,q⟩|⟨c,q⟩
 ·rw[q];exact rfl
 ·rw[q]
  have:=Cn.sN (vy h) (x:=n+(e - n)) (y:=e - n) (d6 _ (bW.mpr ⟨e - n,a6.mpr (by omega),rfl⟩))
  rwa[show n+(e - n)=e by omega]at this
theorem Nu{e:Nat}(he:e<2 * n):Cn (2 * n) (Ee n p) e (over n e):=by
 have:=(zx h hn (Gg hn (n:=n) (x:=e))).symm
 rw[vz he]at this
 exact(zx h hn he).trans this
theorem Nv{e:Nat}(he:e<2 * n):Cn (2 * n) (Ee n p) e (mk p e):=Cn.sN (vy h) (jB _ (bW.mpr ⟨e,a6.mpr he,rfl⟩))
theorem Gj{s:Nat}(hs:s<2 * n):∀i,Cn (2 * n) (Ee n p) s (it (bD n p) i s)
 |0=>rfl
 |i+1=>(Gj hs i).trans ((Nv h hn (sQ h hn hs i)).trans (Nu h hn (h.lt _ (sQ h hn hs i))))
theorem Nw{s k i:Nat}(hs:s<n)(hi:i<k)(hd:∀a b,a<k->b<k->it (bD n p) a s % n=it (bD n p) b s % n->a=b)(he:it (bD n p) k s % n=it (bD n p) i s % n)
  {q:Nat}(hq:q<n)(c:Cn (2 * n) (Ee n p) s q):∃j,j<k/\it (bD n p) j s % n=q:=by
 have hs2:s<2 * n:=by omega
 have lt:=fun j=>sQ h hn hs2 j
 have bS:∀j,it (bD n p) (j+1) s=over n (mk p (it (bD n p) j s)):=fun j=>rfl
 have pl:∀j,mk p (it (bD n p) j s)<2 * n:=fun j=>h.lt _ (lt j)
 have bk:∀j,mk p (over n (it (bD n p) (j+1) s))=it (bD n p) j s:=fun j=>by
  rw[bS,over_over (pl j),h.inv _ (lt j)]
 have last:mk p (over n s)=it (bD n p) (k - 1) s:=by
  obtain⟨k',rfl⟩:∃k',k=k'+1:=⟨k - 1,by omega⟩
  rcases Gh (lt (k'+1)) (lt i) he with e|e
  ·cases i with
   |zero=>
    have:over n s=over n (it (bD n p) (k'+1) s):=by rw[e];rfl
    rw[this];exact bk k'
   |succ i=>
    have z:=bk k'
    rw[e,bk i]at z
    have:=hd i k' (by omega) (by omega) (by rw[z])
    omega
  ·have z:=bk k'
   rw[e,over_over (lt i)]at z
   by_cases d:i+1<k'+1
   ·have:it (bD n p) (i+1) s % n=it (bD n p) k' s % n:=by rw[bS,z,vz (lt k')]
    have:=hd (i+1) k' d (by omega) this
    rw[<-this]at z
    rw[bS,]at z
    have o:=qc (n:=n) (x:=mk p (it (bD n p) i s)) (pl i)
    omega
   ·have:i=k':=by omega
    rw[this]at z
    exact absurd z (h.fp _ (lt k'))
 have V:∀e,e<2 * n->(∃j,j<k/\it (bD n p) j s % n=e % n)->∃j,j<k/\it (bD n p) j s % n=mk p e % n:=by
  rintro e he' ⟨j,hj,ej⟩
  rcases Gh he' (lt j) ej.symm with z|z
  ·rw[z]
   by_cases d:j+1<k
   ·exact⟨j+1,d,by rw[bS,vz (pl j)]⟩
   ·have:j+1=k:=by omega
    exact⟨i,hi,by rw[<-he,<-this,bS,vz (pl j)]⟩
  ·cases j with
   |zero=>
    rw[z]
    exact⟨k - 1,by omega,by rw[<-last];rfl⟩
   |succ j=>
    rw[z,bk j]
    exact⟨j,by omega,rfl⟩
 have:=(Cn.least (fun z=>∃j,j<k/\it (bD n p) j s % n=z % n) (vy h) (fun e hE=>?_) hs2 (by omega) c).mp ⟨0,by omega,rfl⟩
 ·obtain⟨j,hj,ej⟩:=this
  exact⟨j,hj,by rw[ej,q0 hq]⟩
 ·rcases dO.mp hE with hE|hE
  ·obtain⟨e',h',rfl⟩:=bW.mp hE
   have h':=a6.mp h'
   constructor
   ·exact V e' h'
   ·intro z
    have:=V (mk p e') (h.lt _ h') z
    rwa[h.inv e' h']at this
  ·obtain⟨e',h',rfl⟩:=bW.mp hE
   have h':=a6.mp h'
   show (∃j,j<k/\it (bD n p) j s % n=(n+e') % n)↔(∃j,j<k/\it (bD n p) j s % n=e' % n)
   rw[Nat.add_mod_left]
end
structure bM where
 p:List Nat
 L:Nat
 ex:Int
def sg(c:Int):Int:=if 0<c then 1 else -1
def bS(n:Nat)(P:bM)(c:Int)(b:Bool):bM:=
 if b=false then ⟨P.p,P.L,P.ex+sg c⟩
 else if mk P.p (n+(c.natAbs - 1))=n+(c.natAbs - 1+1) then ⟨P.p,P.L+1,P.ex - sg c⟩ else ⟨mR P.p (n+(c.natAbs - 1)) (n+(c.natAbs - 1+1)),P.L,P.ex - sg c⟩
def dU(n:Nat):bM->Row->List Bool->bM
 |P,c::w,b::s=>dU n (bS n P c b) w s
 |P,_,_=>P
theorem Ny{n t:Nat}{c:Int}:level n t c false=dv (t * n) n (List.range n):=by
 unfold level dv
 simp only [Bool.not_false,Bool.true_or]
 rw[qX.mpr (fun _ _=>rfl)]
 simp only [Bool.false_eq_true,if_false,ft]
 refine gI fun i _=>?_
 rw[oX]
theorem Nz{n t:Nat}{c:Int}(hc:1<=c.natAbs):level n t c true=dv (t * n) n ((List.range n).filter fun i=>decide (i≠c.natAbs - 1/\i≠c.natAbs - 1+1))++[(t * n+(c.natAbs - 1),t * n+(c.natAbs - 1+1))]++[(t * n+n+(c.natAbs - 1),t * n+n+(c.natAbs - 1+1))]:=by
 unfold level dv
 rw[af rfl,dG,show c.natAbs - 1+1=c.natAbs by omega,oX]
 congr 1
 ·have:((List.range n).filter fun i=> !true||(i+1 != c.natAbs&&i != c.natAbs))=(List.range n).filter fun i=>decide (i≠c.natAbs - 1/\i≠c.natAbs):=by
   refine List.filter_congr fun i _=>?_
   rw[jC]
   simp only [Bool.not_true,Bool.false_or,br,bne_iff_ne,mx]
   omega
  rw[this]
theorem Gk{n N:Nat}:∀(w:Row) (s:List Bool) (t:Nat) (l:List (Nat×Nat)) (P:bM),Lv n N (t * n) l P.p P.L->w.length=s.length->N=(t+w.length) * n+n->fits n w=true->
  ∃l',Lv n N ((t+w.length) * n) l' (dU n P w s).p (dU n P w s).L/\l++levels n t w s=l'++Cl ((t+w.length) * n) n
 |[],[],t,l,P,h,_,hN,_=>⟨l,h,rfl⟩
 |[],_::_,_,_,_,_,h,_,_=>by simp at h
 |_::_,[],_,_,_,_,h,_,_=>by simp at h
 |c::w,b::s,t,l,P,h,hl,hN,hw=>by
  have hw':crossing n c=true/\fits n w=true:=by
   unfold fits at hw ⊢
   rw[List.all_cons,br]at hw
   exact hw
  obtain⟨c1,c2⟩:=jt.mp hw'.1
  rw[bP]at hN
  have e0:(t+1) * n=t * n+n:=oX t n
  have hN2:t * n+n+n<=N:=by
   rw[hN,show t+(w.length+1)=t+1+w.length by omega,Nat.add_mul,e0]
   have:=be (w.length * n)
   omega
  have nx:Lv n N ((t+1) * n) (l++level n t c b) (bS n P c b).p (bS n P c b).L:=by
   rw[e0]
   unfold bS
   cases b with
   |false=>
    rw[Ny,af rfl]
    exact Nm hN2 h
   |true=>
    rw[Nz c1,ae (by simp),<-dG,<-dG]
    have:=Nn (a:=c.natAbs - 1) hN2 (by omega) h
    by_cases q:mk P.p (n+(c.natAbs - 1))=n+(c.natAbs - 1+1)
    ·rw[af q]at this ⊢
     rw[af q]at this
     exact this
    ·rw[ae q]at this ⊢
     rw[ae q]at this
     exact this
  obtain⟨l',h1,h2⟩:=Gk w s (t+1) (l++level n t c b) (bS n P c b) nx (by simpa using hl) (by rw[hN,show t+(w.length+1)=t+1+w.length by omega]) hw'.2
  refine⟨l',?_,?_⟩
  ·rw[bP,show t+(w.length+1)=t+1+w.length by omega]
   exact h1
  ·show l++(level n t c b++levels n (t+1) w s)=_
   rw[<-dG,h2,bP,show t+(w.length+1)=t+1+w.length by omega]
def cP(n:Nat):bM:=⟨lQ n,0,0⟩
theorem NA{n:Nat}{w:Row}{s:List Bool}(hl:w.length=s.length)(hw:fits n w=true):Inv2 n (dU n (cP n) w s).p/\pieces ((w.length+1) * n) (levels n 0 w s)=(dU n (cP n) w s).L+fO n (dU n (cP n) w s).p:=by
 have e:(w.length+1) * n=(0+w.length) * n+n:=by rw[oX,Nat.zero_add]
 have h0:Lv n ((w.length+1) * n) (0 * n) [] (lQ n) 0:=by
  rw[Nat.zero_mul]
  exact Nl (by rw[oX];omega)
 obtain⟨l',h1,h2⟩:=Gk w s 0 [] (cP n) h0 hl e hw
 rw[kY]at h2
 exact⟨h1.inv,by rw[h2];exact h1.closed e⟩
theorem zy{n:Nat}:∀(w:Row) (s:List Bool) (P:bM),w.length=s.length->(dU n P w s).ex=(w.zip s).foldl (fun (x:Int) (y:Int×Bool)=>if decide (0<y.1) == !y.2 then x+1 else x - 1) P.ex/\(dU n P w s).L<=P.L+w.length/\(dU n P w s).ex<=P.ex+w.length/\P.ex - w.length<=(dU n P w s).ex
 |[],[],P,_=>⟨rfl,aX _,by simp[dU],by simp[dU]⟩
 |[],_::_,_,h=>by simp at h
 |_::_,[],_,h=>by simp at h
 |c::w,b::s,P,h=>by
  obtain⟨h1,h2,h3,h4⟩:=zy w s (bS n P c b) (by simpa using h)
  have e:(bS n P c b).ex=if decide (0<c) == !b then P.ex+1 else P.ex - 1:=by
   unfold bS sg
   cases b with
   |false=>
    rw[af rfl]
    by_cases q:0<c
    ·simp[q]
    ·simp[q];omega
   |true=>
    rw[ae (by simp)]
    by_cases q:0<c
    ·split<;>simp[q]
    ·split<;>simp[q]<;>omega
  have eL:(bS n P c b).L<=P.L+1:=by
   unfold bS
   split
   ·exact Nat.le_succ _
   ·split
    ·exact aX _
    ·exact Nat.le_succ _
  have e2:P.ex - 1<=(bS n P c b).ex/\(bS n P c b).ex<=P.ex+1:=by rw[e];split<;>omega
  refine⟨?_,?_,?_,?_⟩
  ·show (dU n (bS n P c b) w s).ex=(w.zip s).foldl _ _
   rw[h1,e]
  ·show (dU n (bS n P c b) w s).L<=_
   rw[bP];omega
  ·show (dU n (bS n P c b) w s).ex<=_
   rw[bP];omega
  ·show _<=(dU n (bS n P c b) w s).ex
   rw[bP];omega
def fP(n:Nat)(Ps:List bM)(w:Row):List bM:=w.foldl (fun Ps c=>Ps.map (fun P=>bS n P c false)++Ps.map (fun P=>bS n P c true)) Ps
theorem zz{n:Nat}:∀(w:Row) (Ps:List bM),fP n Ps w=(choices w.length).flatMap fun s=>Ps.map fun P=>dU n P w s
 |[],Ps=>by
  show Ps=([[]]:List (List Bool)).flatMap fun s=>Ps.map fun P=>dU n P [] s
  rw[List.flatMap_singleton]
  exact(List.map_id' _).symm
 |c::w,Ps=>by
  show fP n (Ps.map (fun P=>bS n P c false)++Ps.map (fun P=>bS n P c true)) w=(choices (w.length+1)).flatMap _
  rw[zz w]
  show _=((choices w.length).flatMap fun s=>[false::s,true::s]).flatMap _
  rw[List.flatMap_assoc]
  congr 1
  funext s
  rw[cN,dq,dq]
  rw[List.flatMap_cons,List.flatMap_singleton]
  rfl
theorem zA:∀(k:Nat) (s:List Bool),s∈choices k->s.length=k
 |0,s,h=>by
  have:s=[]:=by simpa [choices] using h
  rw[this];rfl
 |k+1,s,h=>by
  obtain⟨t,ht,hs⟩:=List.mem_flatMap.mp (show s∈(choices k).flatMap _ from h)
  have:=zA k t ht
  rcases cj.mp hs with e|e
  ·rw[e,bP,this]
  ·rw[gq.mp e,bP,this]
theorem NB{n:Nat}{p:List Nat}(hn:0<n):0<fO n p:=by
 unfold fO
 rw[List.countP_pos_iff]
 exact⟨0,a6.mpr hn,nZ.mpr fun j hj=>by omega⟩
theorem NC{n:Nat}{p:List Nat}:fO n p<=n:=by
 unfold fO
 have:=List.countP_le_length (p:=du (joined (2 * n) (Ee n p))) (l:=List.range n)
 rwa[cA]at this
theorem Gm{n:Nat}{w:Row}(hw:fits n w=true):statesOf n w=(List.range (2 * (3 * w.length+16)+1)).map fun (x:Nat)=>(fP n [cP n] w).foldl (fun (a:Int) (P:bM)=>a+ring (P.L+fO n P.p - 1) ((x:Int) - ((3 * w.length+16:Nat):Int) - P.ex)) 0:=by
 have e:fP n [cP n] w=(choices w.length).map fun s=>dU n (cP n) w s:=by
  rw[zz]
  simp only [dQ,List.map_nil]
  exact List.map_eq_flatMap.symm
 unfold statesOf exponents
 rw[dq,show 6 * w.length+33=2 * (3 * w.length+16)+1 by omega,e]
 refine gI fun x _=>?_
 show List.foldl _ 0 _=_
 rw[List.foldl_map,List.foldl_map]
 have:∀(l:List (List Bool)),(∀s,s∈l->w.length=s.length)->∀a:Int,l.foldl (fun (x_1:Int) (y:List Bool)=>x_1+ring (pieces ((w.length+1) * n) (levels n 0 w y) - 1) ((x:Int) - ((3 * w.length+16:Nat):Int) - weight w y)) a=
   l.foldl (fun (x_1:Int) (y:List Bool)=>x_1+ring ((dU n (cP n) w y).L+fO n (dU n (cP n) w y).p - 1) ((x:Int) - ((3 * w.length+16:Nat):Int) - (dU n (cP n) w y).ex)) a:=by
  intro l
  induction l with
  |nil=>intro _ a;rfl
  |cons s l ih=>
   intro hl a
   have hs:=hl s bE
   rw[gG,gG,ih (fun s hs=>hl s (bH _ hs))]
   rw[(NA hs hw).2,(zy w s (cP n) hs).1]
   rfl
 exact this _ (fun s hs=>(zA _ s hs).symm) 0
def sgn(m:Nat):Int:=if m % 2=0 then 1 else -1
theorem zB:∀(n k:Nat),n<k->binomial n k=0
 |0,0,h=>by omega
 |0,k+1,_=>rfl
 |n+1,0,h=>by omega
 |n+1,k+1,h=>by
  show binomial n k+binomial n (k+1)=0
  rw[zB n k (by omega),zB n (k+1) (by omega)]
theorem vA(n:Nat):binomial n 0=1:=by cases n<;>rfl
theorem sR:∀(n:Nat),binomial n n=1
 |0=>rfl
 |n+1=>by
  show binomial n n+binomial n (n+1)=1
  rw[sR n,zB n (n+1) (by omega)]
theorem zC:∀(n k:Nat),k<=n->binomial n (n - k)=binomial n k
 |n,0,_=>by rw[Nat.sub_zero,sR,vA]
 |0,k+1,h=>by omega
 |n+1,k+1,h=>by
  rw[show n+1 - (k+1)=n - k by omega]
  by_cases c:k=n
  ·rw[c,o4,vA,sR]
  ·rw[show n - k=n - (k+1)+1 by omega]
   show binomial n (n - (k+1))+binomial n (n - (k+1)+1)=binomial n k+binomial n (k+1)
   rw[zC n (k+1) (by omega),show n - (k+1)+1=n - k by omega,zC n k (by omega)]
   omega
def pw(m:Nat):List Int:=(List.range (m+1)).map fun i=>sgn m * (binomial m i:Nat)
theorem iR(m:Nat):(pw m).length=m+1:=by unfold pw;rw[aE,cA]
theorem sS{m i:Nat}(h:i<=m):(pw m)[i]?=some (sgn m * (binomial m i:Nat)):=by
 unfold pw
 rw[bX,qP (by omega)];rfl
theorem Gn(m:Nat):sgn (m+1)= -sgn m:=by unfold sgn;split<;>split<;>omega
theorem ND(m:Nat):pw (m+1)=List.zipWith (fun x y=> -x - y) (0::pw m) (pw m++[0]):=by
 refine List.ext_getElem? fun i=>?_
 rw[List.getElem?_zipWith]
 by_cases h:i<=m+1
 ·rw[sS h]
  cases i with
  |zero=>
   rw[List.getElem?_cons_zero,qI (by rw[iR];omega),sS (by omega),vA,vA]
   show some _=some _
   rw[Gn];congr 1;omega
  |succ i=>
   rw[List.getElem?_cons_succ,sS (by omega),Gn]
   by_cases c:i=m
   ·subst c
    rw[oV (by rw[iR];omega),iR,o4]
    show some _=some _
    rw[sR,sR];congr 1;omega
   ·rw[qI (by rw[iR];omega),sS (by omega)]
    show some _=some _
    congr 1
    show -sgn m * ((binomial m i+binomial m (i+1):Nat):Int)=_
    rw[uq,Int.neg_mul,Int.mul_add];omega
 ·rw[qO (by rw[iR];omega),qO (l:=0::pw m) (by rw[bP,iR];omega)]
theorem NF{m x:Nat}{lo e:Int}(h:e=lo - (-2 * (m:Int))):ring m ((x:Int) - e)=if lo<=x/\((x:Int) - lo) % 4=0/\((x:Int) - lo) / 4<=m then sgn m * (binomial m (((x:Int) - lo) / 4).toNat:Nat) else 0:=by
 unfold ring
 subst h
 by_cases c:lo<=x/\((x:Int) - lo) % 4=0/\((x:Int) - lo) / 4<=m
 ·rw[af c,af (by omega)]
  obtain⟨j,hj⟩:∃j:Nat,((x:Int) - lo) / 4=j:=⟨(((x:Int) - lo) / 4).toNat,by omega⟩
  rw[show (2 * (m:Int) - ((x:Int) - (lo - -2 * (m:Int)))) / 4=((m - j:Nat):Int) by omega,hj]
  rw[Int.toNat_natCast,Int.toNat_natCast,zC m j (by omega)]
  rfl
 ·rw[ae c,ae (by omega)]
end BB
end
section
namespace BB
open Wqaraq
def iS:List Nat->Nat
 |[]=>0
 |x::l=>l.countP (fun y=>decide (y<x))+iS l
theorem Gp:∀(l:List Nat),((List.range l.length).map fun k=>(l.drop (k+1)).countP fun x=>decide (x<l.getD k 0)).sum=iS l
 |[]=>rfl
 |a::l=>by
  rw[bP,xf,dQ,qV,dq]
  show (l.countP fun x=>decide (x<a))+_=_
  have:=Gp l
  rw[show iS (a::l)=l.countP (fun y=>decide (y<a))+iS l from rfl,<-this]
  rfl
theorem NG{a:Perm}(hl:a.length=16):crossings a=iS a:=by
 rw[Fh a hl,<-Gp a,hl];rfl
theorem Gq{x y:Nat}(h:y<x)(post:List Nat):∀(pre:List Nat),iS (pre++x::y::post)=iS (pre++y::x::post)+1
 |[]=>by
  simp only [kY,iS,jD]
  simp only [gH]
  rw[af h,ae (by omega)]
  omega
 |z::pre=>by
  have ih:=Gq h post pre
  simp only [List.cons_append,iS,o8,jD]at ih ⊢
  omega
theorem NH{a:Perm}{i:Nat}(hl:a.length=16)(hi:i<15):a=a.take i++at_ a i::at_ a (i+1)::a.drop (i+2)/\exchanged i a=a.take i++at_ a (i+1)::at_ a i::a.drop (i+2):=by
 have tl:(a.take i).length=i:=by rw[dz];omega
 constructor
 ·rw[kE (show i<a.length by omega),kE (show i+1<a.length by omega)]
  conv=>lhs;rw[<-List.take_append_drop i a,o9 (show i<a.length by omega),o9 (show i+1<a.length by omega)]
 ·refine dC (bJ _) (by simp;omega) fun j hj=>?_
  rw[jS hj]
  have g:at_ (a.take i++at_ a (i+1)::at_ a i::a.drop (i+2)) j=((a.take i++at_ a (i+1)::at_ a i::a.drop (i+2))[j]?).getD 0:=d7 ..
  rw[g]
  by_cases c1:j<i
  ·rw[ae (by omega),ae (by omega),qI (by omega),List.getElem?_take,af c1]
   exact d7 ..
  ·rw[oV (by omega),tl]
   by_cases c2:j=i
   ·rw[af c2,c2,o4];rfl
   ·rw[ae c2]
    by_cases c3:j=i+1
    ·rw[af c3,c3,show i+1 - i=1 by omega];rfl
    ·rw[ae c3,show j - i=(j - (i+2))+1+1 by omega,List.getElem?_cons_succ,List.getElem?_cons_succ,List.getElem?_drop,show i+2+(j - (i+2))=j by omega]
     exact d7 ..
theorem NI{a:Perm}{i:Nat}(ha:aw a)(hi:i<15)(c:at_ a (i+1)<at_ a i):iS a=iS (exchanged i a)+1:=by
 obtain⟨e1,e2⟩:=NH ha.len hi
 rw[e2]
 conv=>lhs;rw[e1]
 exact Gq c _ _
theorem zE:∀(k:Nat) {a:Perm},aw a->iS a<=k->(row a).length=iS a/\∀c,c∈row a->0<c
 |k,a,ha,h=>by
  rw[vi ha]
  split
  ·rename_i e
   have:a=still:=by
    apply x8 ha
    intro i hi
    have:=List.find?_eq_none.mp e i (a6.mpr hi)
    rw[cV (by omega)]at this
    have:=ha.ne (show i<16 by omega) (show i+1<16 by omega) (by omega)
    unfold X at *; omega
   rw[this]
   exact⟨by decide,fun c hc=>by cases hc⟩
  ·rename_i i e
   have hi:i<15:=a6.mp (qQ e)
   have c:=qR e
   rw[cV (by omega)]at c
   have c':at_ a (i+1)<at_ a i:=by unfold X at c;omega
   have lt:=NI ha hi c'
   cases k with
   |zero=>omega
   |succ k=>
    have ih:=zE k (vj ha hi) (by omega)
    rw[bP,ih.1]
    refine⟨lt.symm,fun c hc=>?_⟩
    rcases cj.mp hc with q|q
    ·rw[q];omega
    ·exact ih.2 c q
theorem lT{a:Perm}(ha:aw a):(row a).length=crossings a:=by rw[(zE _ ha (aX _)).1,NG ha.len]
theorem NJ:∀(n:Nat),2<=n->n<=16->crossings (delta n)=n * (n - 1) / 2:=by
 intro n h2 hn
 have:∀m:Fin 15,crossings (delta (m.val+2))=(m.val+2) * (m.val+2 - 1) / 2:=by decide+kernel
 have:=this ⟨n - 2,by omega⟩
 simp only [show n - 2+2=n by omega]at this
 exact this
theorem zH:∀(w:Row) (s:Int),w.foldl (fun (s c:Int)=>if 0<c then s+1 else if c<0 then s - 1 else s) s=s+sum w
 |[],s=>by simp[sum]
 |c::w,s=>by
  unfold sum
  rw[gG,gG,zH w,zH w (if 0<c then 0+1 else if c<0 then 0 - 1 else 0)]
  split
  ·omega
  ·split<;>omega
theorem sum_append(v w:Row):sum (v++w)=sum v+sum w:=by
 conv=>lhs;unfold sum
 rw[jE,zH]
 rfl
theorem zI(c:Int):sum [c]=if 0<c then 1 else if c<0 then -1 else 0:=by
 show (if 0<c then (0:Int)+1 else if c<0 then 0 - 1 else 0)=_
 split
 ·rfl
 ·split<;>rfl
theorem sum_cons(c:Int)(w:Row):sum (c::w)=sum [c]+sum w:=sum_append [c] w
theorem Gs:∀(w:Row),(∀c,c∈w->0<c)->sum w=w.length
 |[],_=>rfl
 |c::w,h=>by
  rw[sum_cons,Gs w (fun d hd=>h d (bH _ hd)),zI,af (h c bE),bP]
  omega
theorem Gu{a:Perm}(ha:aw a):sum (row a)=crossings a:=by
 rw[Gs _ (zE _ ha (aX _)).2,lT ha]
theorem Gv(c:Int)(w:Row):inverse (c::w)=inverse w++[-c]:=by
 unfold inverse
 rw[mv,cN];rfl
theorem Gw:∀(w:Row),sum (inverse w)= -sum w
 |[]=>rfl
 |c::w=>by
  rw[Gv,sum_append,Gw w,sum_cons c w,zI,zI]
  rcases Int.lt_trichotomy c 0 with h|h|h
  ·rw[af (by omega),ae (by omega),af h];omega
  ·rw[ae (by omega),ae (by omega),ae (by omega),ae (by omega)];omega
  ·rw[ae (by omega),af (by omega),af h];omega
theorem zJ(k:Nat)(w:Row):times (k+1) w=w++times k w:=by
 unfold times;rw[kX,qK]
theorem zK(w:Row):∀(k:Nat),sum (times k w)=k * sum w
 |0=>by show (0:Int)=_;omega
 |k+1=>by
  rw[zJ,sum_append,zK w k,uq,Int.add_mul];omega
theorem NK(e:Int)(w:Row):sum (power e w)=e * sum w:=by
 unfold power
 split
 ·rw[zK,Gw]
  rename_i h
  have:(e.natAbs:Int)= -e:=by omega
  rw[this,Int.neg_mul_neg]
 ·rw[zK]
  have:(e.natAbs:Int)=e:=by omega
  rw[this]
theorem vB(w:Row):∀(k:Nat),(times k w).length=k * w.length
 |0=>by show 0=_;omega
 |k+1=>by rw[zJ,bF,vB w k,oX];omega
theorem NL(e:Int)(w:Row):(power e w).length=e.natAbs * w.length:=by
 unfold power
 split
 ·rw[vB];unfold inverse;rw[aE,cJ]
 ·rw[vB]
theorem Gx:∀(l:List Perm),(∀a,a∈l->aw a)->sum (l.flatMap row)=((l.map fun a=>(crossings a:Int)).sum:Int)/\(l.flatMap row).length=(l.map crossings).sum
 |[],_=>⟨rfl,rfl⟩
 |a::l,h=>by
  have ih:=Gx l fun b hb=>h b (bH _ hb)
  have ha:=h a bE
  rw[List.flatMap_cons,sum_append,bF,ih.1,ih.2,Gu ha,lT ha]
  exact⟨rfl,rfl⟩
theorem NM(c:Int)(x:Nat):swapped (-c) x=swapped c x:=by
 unfold swapped crossing
 rw[Int.natAbs_neg]
 have:decide (-c≠0)=decide (c≠0):=by
  rw[gu];omega
 rw[this]
theorem Gy:∀(w:Row),then_ (follow w) (follow (inverse w))=still
 |[]=>by
  show then_ (follow []) (follow [])=still
  rw[rZ,fZ dI]
 |c::w=>by
  have e1:follow (c::w)=then_ (follow [c]) (follow w):=pP (v:=[c]) (w:=w)
  rw[Gv,pP,e1,then_assoc (gO _),<-then_assoc (gO w),Gy w,fZ (gO _)]
  refine dC (bJ _) (bJ _) fun i hi=>?_
  rw[cC hi,jk hi,eN hi]
  show at_ (follow [-c]) (swapped c i)=i
  rw[jk (u4 hi)]
  show swapped (-c) (swapped c i)=i
  rw[NM,yi hi]
theorem NN(w:Row):follow (inverse w)=back (follow w):=by
 refine jj (gO w) (gO _) (gO w).back ?_
 rw[Gy,jR (gO w)]
theorem zL{w:Row}(h:then_ (follow w) (follow w)=still):∀(k:Nat),follow (times k w)=if k % 2=0 then still else follow w
 |0=>rfl
 |k+1=>by
  rw[zJ,pP,zL h k]
  by_cases c:k % 2=0
  ·rw[af c,ae (by omega),dD (gO w)]
  ·rw[ae c,af (by omega),h]
theorem NO{n:Nat}(hn:n<=16)(k:Int):follow (power k (row (delta n)))=if k % 2=0 then still else delta n:=by
 have hd:=(bV hn).aa
 have e:=yQ _ hd (aX _)
 unfold power
 split
 ·have e2:follow (inverse (row (delta n)))=delta n:=by rw[NN,e,EK hn]
  rw[zL (by rw[e2,jo hn]),e2]
  by_cases c:k % 2=0
  ·rw[af c,af (by omega)]
  ·rw[ae c,ae (by omega)]
 ·rw[zL (by rw[e,jo hn]),e]
  by_cases c:k % 2=0
  ·rw[af c,af (by omega)]
  ·rw[ae c,ae (by omega)]
theorem Gz:∀(l:List Perm) {p:Perm},aw p->(∀a,a∈l->aw a)->then_ p (follow (l.flatMap row))=l.foldl then_ p
 |[],p,hp,_=>by
  show then_ p (follow [])=p
  rw[rZ,dD hp]
 |a::l,p,hp,h=>by
  have ha:=h a bE
  rw[List.flatMap_cons,pP,<-then_assoc hp,yQ _ ha (aX _),Gz l (hp.then_ ha) fun b hb=>h b (bH _ hb)]
  rfl
theorem zM{n:Nat}:∀(l:List Perm) {p:Perm},Rt n p->ah n l->Rt n (l.foldl then_ p)
 |[],p,hp,_=>hp
 |a::l,p,hp,h=>zM l (hp.then_ h.head) h.tail
def reach(n:Nat)(F:Form):Perm:=F.factors.foldl then_ (if F.twists % 2=0 then still else delta n)
section
variable{n:Nat}(hn:n<=16)(h2:2<=n)
include hn
theorem NP{F:Form}(h:aV n F):Rt n (reach n F):=by
 refine zM _ ?_ h
 split
 ·exact jT
 ·exact bV hn
theorem NQ{F:Form}(h:aV n F):follow (F.row n)=reach n F:=by
 unfold Form.row reach
 rw[pP,NO hn]
 refine Gz _ ?_ fun a ha=>(h a ha).aa
 split
 ·exact dI
 ·exact(bV hn).aa
include h2
theorem GA{F:Form}(h:aV n F):sum (F.row n)=F.twists * ((n * (n - 1) / 2:Nat):Int)+((F.factors.map fun a=>(crossings a:Int)).sum:Int)/\
  (F.row n).length=F.twists.natAbs * (n * (n - 1) / 2)+(F.factors.map crossings).sum:=by
 unfold Form.row
 have f:=Gx F.factors fun a ha=>(h a ha).aa
 have hd:=(bV hn).aa
 rw[sum_append,NK,Gu hd,bF,NL,lT hd,NJ n h2 hn,f.1,f.2]
 exact⟨rfl,rfl⟩
end
theorem NR(n:Nat)(a:Perm):loops n a=(List.range n).countP (du (joined n (hU n (at_ a)))):=by
 unfold loops;exact zm _ _
def fQ:List Nat->List Nat->Bool
 |x::xs,y::ys=>decide (x<y)||(decide (x=y)&&fQ xs ys)
 |[],_::_=>true
 |_,_=>false
theorem zN:∀(i:Nat) (a b:List Nat),a.length=b.length->i<a.length->(∀j,j<i->a.getD j 0=b.getD j 0)->a.getD i 0<b.getD i 0->fQ a b=true/\fQ b a=false
 |i,[],b,_,h,_,_=>by simp at h
 |i,x::a,[],h,_,_,_=>by simp at h
 |0,x::a,y::b,_,_,_,h=>by
  have h:x<y:=h
  unfold fQ
  rw[c7 h,cu (show ¬y<x by omega),cu (show ¬y=x by omega)]
  exact⟨rfl,rfl⟩
 |i+1,x::a,y::b,hl,hi,hj,h=>by
  have e:x=y:=hj 0 (by omega)
  have ih:=zN i a b (by simpa using hl) (by simpa using hi) (fun j q=>hj (j+1) (by omega)) h
  unfold fQ
  rw[ih.1,ih.2,c7 e,c7 e.symm,cu (show ¬y<x by omega)]
  simp
theorem zO:∀(a:List Nat),fQ a a=false
 |[]=>rfl
 |x::a=>by
  unfold fQ
  rw[zO a,cu (iW x)];simp
theorem GB{n:Nat}{c d:Nat->Nat}:∀k,(∀j,j<k->c j=d j)->gf n c k=gf n d k
 |0,_=>rfl
 |k+1,h=>by
  show gf n c k * (n - k)+c k=gf n d k * (n - k)+d k
  rw[GB k fun j hj=>h j (by omega),h k (by omega)]
theorem GC{n i:Nat}{c d:Nat->Nat}(hs:∀j,j<i->c j=d j)(hi:c i<d i)(hc:∀j,j<n->c j<n - j):∀k,i<k->k<=n->gf n c k<gf n d k
 |0,h,_=>by omega
 |k+1,h,hk=>by
  show gf n c k * (n - k)+c k<gf n d k * (n - k)+d k
  by_cases q:i=k
  ·subst q
   rw[GB i hs];omega
  ·have ih:=GC hs hi hc k (by omega) (by omega)
   have h1:=Nat.mul_le_mul_right (n - k) (show gf n c k+1<=gf n d k from ih)
   rw[oX]at h1
   have:=hc k (by omega)
   omega
theorem digit_eq{n:Nat}{a:Perm}(hn:n<=16)(ha:Rt n a){i:Nat}(hi:i<n):((List.range n).filter fun j=>decide (i<j)&&decide (at_ a j<at_ a i)).length=cnt fun j=>decide (i<=j)&&decide (at_ a j<at_ a i):=by
 rw[<-iB]
 unfold cnt
 rw[show List.range 16=List.range n++(List.range (16 - n)).map (fun x=>n+x) by rw[<-List.range_add,show n+(16 - n)=16 by omega],o8]
 have z:((List.range (16 - n)).map fun x=>n+x).countP (fun j=>decide (i<=j)&&decide (at_ a j<at_ a i))=0:=by
  rw[uk]
  intro e he
  obtain⟨x,hx,rfl⟩:=bW.mp he
  have hx:=a6.mp hx
  have:=ha.fix (n+x) (by omega) (by omega)
  have:=ha.lt hn hi
  simp only [br,gH]
  omega
 rw[z,Nat.add_zero]
 refine m7 fun j hj=>?_
 simp only [br,gH]
 constructor
 ·rintro⟨h1,h3⟩;exact⟨by omega,h3⟩
 ·rintro⟨h1,h3⟩
  refine⟨?_,h3⟩
  have:j≠i:=fun q=>by rw[q]at h3;omega
  omega
theorem GD(p:Nat->Bool)(i:Nat):cnt p=cnt (fun j=>decide (j<i)&&p j)+cnt (fun j=>decide (i<=j)&&p j):=by
 rw[u0 (p:=p) (q:=fun j=>decide (j<i))]
 congr 1
 ·exact lK fun x _=>by rw[Bool.and_comm]
 ·refine lK fun x _=>?_
  rw[Bool.and_comm]
  congr 1
  rw[jC];simp
theorem GF{n i:Nat}{a b:Perm}(hn:n<=16)(ha:Rt n a)(hb:Rt n b)(hi:i<n)(hs:∀j,j<i->at_ a j=at_ b j)(h:at_ a i<at_ b i):number n a<number n b:=by
 rw[yP,yP]
 have la:=fun j hj=>ha.lt hn (i:=j) hj
 have lb:=fun j hj=>hb.lt hn (i:=j) hj
 refine GC (i:=i) (fun j hj=>?_) ?_ (fun j hj=>?_) n hi (aX _)
 ·rw[digit_eq hn ha (by omega),digit_eq hn hb (by omega)]
  have r1:=sJ ha.aa (at_ a j) (by have:=la j (by omega);omega)
  have r2:=sJ hb.aa (at_ b j) (by have:=lb j (by omega);omega)
  rw[GD _ j]at r1 r2
  have e:cnt (fun k=>decide (k<j)&&decide (at_ a k<at_ a j))=cnt (fun k=>decide (k<j)&&decide (at_ b k<at_ b j)):=by
   refine lK fun k _=>?_
   by_cases q:k<j
   ·rw[hs k (by omega),hs j hj]
   ·rw[cu q];rfl
  have:=hs j hj
  omega
 ·rw[digit_eq hn ha hi,digit_eq hn hb hi]
  have r1:=sJ ha.aa (at_ b i) (by have:=lb i hi;omega)
  have r2:=sJ hb.aa (at_ b i) (by have:=lb i hi;omega)
  rw[GD _ i]at r1 r2
  have e:cnt (fun k=>decide (k<i)&&decide (at_ a k<at_ b i))=cnt (fun k=>decide (k<i)&&decide (at_ b k<at_ b i)):=by
   refine lK fun k _=>?_
   by_cases q:k<i
   ·rw[hs k q]
   ·rw[cu q];rfl
  have lt:=yc (p:=fun k=>decide (i<=k)&&decide (at_ a k<at_ a i)) (q:=fun k=>decide (i<=k)&&decide (at_ a k<at_ b i)) (fun x _ z=>by
   simp only [br,gH]at z ⊢
   exact⟨z.1,by omega⟩) (y:=i) (by omega) (by simp;exact h) (by simp)
  omega
 ·rw[<-iB]
  have e:(List.range n).countP (fun k=>decide (j<k)&&decide (at_ a k<at_ a j))<=(List.range n).countP (fun k=>decide (j<k)):=List.countP_mono_left fun x _ z=>by
   simp only [br,gH]at z ⊢
   exact z.1
  have e2:(List.range n).countP (fun k=>decide (j<k))+(j+1)=n:=by
   rw[show n=(j+1)+(n - (j+1)) by omega,List.range_add,o8]
   have z1:(List.range (j+1)).countP (fun k=>decide (j<k))=0:=by
    rw[uk]
    intro x hx
    have:=a6.mp hx
    simp;omega
   have z2:((List.range (n - (j+1))).map fun x=>j+1+x).countP (fun k=>decide (j<k))=n - (j+1):=by
    have:=List.countP_eq_length (p:=fun k=>decide (j<k)) (l:=(List.range (n - (j+1))).map fun x=>j+1+x)
    rw[this.mpr fun x hx=>by
     obtain⟨y,_,rfl⟩:=bW.mp hx
     simp;omega]
    rw[aE,cA]
   rw[z1,z2];omega
  omega
theorem NS{a b:Perm}(ha:a.length=16)(hb:b.length=16)(h:a≠b):∃i,i<16/\(∀j,j<i->at_ a j=at_ b j)/\at_ a i≠at_ b i:=by
 have:∀k,k<=16->(∀j,j<k->at_ a j=at_ b j)\/∃i,i<k/\(∀j,j<i->at_ a j=at_ b j)/\at_ a i≠at_ b i:=by
  intro k
  induction k with
  |zero=>intro _;exact .inl fun j hj=>by omega
  |succ k ih=>
   intro hk
   rcases ih (by omega) with q|⟨i,h1,h2⟩
   ·by_cases e:at_ a k=at_ b k
    ·refine .inl fun j hj=>?_
     by_cases z:j=k
     ·rw[z];exact e
     ·exact q j (by omega)
    ·exact .inr ⟨k,by omega,q,e⟩
   ·exact .inr ⟨i,by omega,h2⟩
 rcases this 16 (aX _) with q|q
 ·exact absurd (dC ha hb q) h
 ·exact q
theorem NT{n:Nat}{a b:Perm}(hn:n<=16)(ha:Rt n a)(hb:Rt n b):(a=b/\number n a=number n b/\fQ a b=false/\fQ b a=false)\/(a≠b/\number n a<number n b/\fQ a b=true/\fQ b a=false)\/(a≠b/\number n b<number n a/\fQ a b=false/\fQ b a=true):=by
 by_cases e:a=b
 ·exact .inl ⟨e,by rw[e],by rw[e,zO],by rw[e,zO]⟩
 ·obtain⟨i,hi,hs,hd⟩:=NS ha.aa.len hb.aa.len e
  have hin:i<n:=kZ fun q=>hd (by rw[ha.fix i (by omega) hi,hb.fix i (by omega) hi])
  have l1:=ha.aa.len
  have l2:=hb.aa.len
  by_cases c:at_ a i<at_ b i
  ·have:=zN i a b (by omega) (by omega) hs c
   exact .inr (.inl ⟨e,GF hn ha hb hin hs c,this.1,this.2⟩)
  ·have:=zN i b a (by omega) (by omega) (fun j hj=>(hs j hj).symm) (show at_ b i<at_ a i by omega)
   exact .inr (.inr ⟨e,GF hn hb ha hin (fun j hj=>(hs j hj).symm) (by omega),this.2,this.1⟩)
def lU:List Perm->List Perm->Bool
 |x::xs,y::ys=>if x=y then lU xs ys else fQ x y
 |[],_::_=>true
 |_,_=>false
theorem GG{n:Nat}(hn:n<=16):∀{l m:List Perm},ah n l->ah n m->l.length=m.length->orderL n l m=if l=m then 0 else if lU l m=true then -1 else 1
 |[],[],_,_,_=>rfl
 |[],_::_,_,_,h=>by simp at h
 |_::_,[],_,_,h=>by simp at h
 |a::l,b::m,hl,hm,h=>by
  have ih:=GG hn hl.tail hm.tail (by simpa using h)
  unfold orderL lU
  rcases NT hn hl.head hm.head with ⟨e,q,_,_⟩|⟨e,q,r,_⟩|⟨e,q,r,_⟩
  ·rw[ae (by omega),ae (by omega),ih,af e,e]
   by_cases z:l=m
   ·rw[af z,af (by rw[z])]
   ·rw[ae z,ae (fun y=>z (mo y).2)]
  ·rw[af q,ae (fun y=>e (mo y).1),ae e,af r]
  ·rw[ae (by omega),af q,ae (fun y=>e (mo y).1),ae e,r]
   rfl
end BB
end
section
namespace L2
open PySem PySem.Spec PyProof.Rows
def iv(l:List Int):List V:=l.map V.int
def nv(a:List Nat):List V:=a.map fun (x:Nat)=>V.int (x:Int)
theorem cQ(l:List Int):(iv l).length=l.length:=aE ..
theorem cG(l:List Nat):(nv l).length=l.length:=aE ..
theorem ag.upd{H H':Hp}{p:Addr}{o:HO}(s:ag H H')(h:H p=none):ag H (upd H' p o):=fun b u e=>by
 rw[ax (a7 e h)]
 exact s b u e
theorem ag.bA{H:Hp}{p:Addr}{o:HO}(h:H p=none):ag H (L2.upd H p o):=(ag.refl H).upd h
theorem GH{α:Type}{K:PySem.W.Frag}{a D:Addr}{l:List α}{em:α->V}{g:TG}{tt:TT}{te:TE}{vs:List Nat}{σ:St}{H:Hp}{Q:VK}(p:α->Bool)(f:α->V)
  (hq:ai K H a (l.map em))(hl:l.length<sizeLine)(hD:H D=none)
  (hs:∀(x:α) (H':Hp),x∈l->ag H H'->∀(R:V->Hp->Prop) (Nx:Hp->Prop),(p x=true->∀H'',ag H' H''->R (f x) H'')->(p x=false->∀H'',ag H' H''->Nx H'')->
   g (em x) (wipe σ vs) H' fun σ2 H2=>wipe σ2 vs=wipe σ vs/\tt σ2 H2 fun b H3=>if b=true then te σ2 H3 R else Nx H3)
  (hd:∀H',ag H H'->H' D=some (.lst ((l.filter p).map f))->Q (.ref D) H'):
  ∃W:Nat->Nat->Hp->Prop,(∃m,W 0 m (upd H D (.lst [])))/\∀i m H,W i m H->
   ((jJ K a).stop i H/\Q (.ref D) H)\/((jJ K a).go i H/\∃Nx:Hp->Prop,(∀H',Nx H'->∃m',m'<m/\W (i+1) m' H')/\∀x H',(jJ K a).iE i H x H'->g x (wipe σ vs) H' fun σ2 H2=>wipe σ2 vs=wipe σ vs/\tt σ2 H2 fun b H3=>
    if b=true then te σ2 H3 fun y H4=>∃acc,H4 D=some (.lst acc)/\acc.length<sizeLine/\Nx (upd H4 D (.lst (acc++[y]))) else Nx H3):=by
 refine⟨fun i m H'=>m=l.length - i/\i<=l.length/\ag H H'/\H' D=some (.lst (((l.take i).filter p).map f)),⟨l.length,by simp,be _,ag.bA hD,au⟩,?_⟩
 rintro i m H1 ⟨rfl,hi,s1,hD1⟩
 have q:=s1.seq hq
 by_cases hlt:i<l.length
 ·refine .inr ⟨⟨_,em l[i],q,by simp[hlt]⟩,fun H'=>ag H H'/\H' D=some (.lst (((l.take (i+1)).filter p).map f)),fun H' h=>⟨l.length - (i+1),by omega,rfl,hlt,h⟩,fun x H' y=>?_⟩
  obtain⟨e,y⟩:=y
  subst e
  have hx:l[i]?=some l[i]:=bu hlt
  have ex:em l[i]=x:=by
   have z:=y _ q
   rw[bX,hx]at z
   exact bo z
  subst ex
  have hm:l[i]∈l:=iY hlt
  have tk:l.take (i+1)=l.take i++[l[i]]:=by
   rw[i0,hx];rfl
  refine hs l[i] _ hm s1 _ _ (fun hp H'' s2=>?_) (fun hp H'' s2=>?_)
  ·refine⟨_,s2 _ _ hD1,?_,(s1.trans s2).upd hD,?_⟩
   ·rw[aE]
    exact Nat.lt_of_le_of_lt (cz (qU _ _) (by rw[dz];omega)) hl
   ·rw[au,tk,uo,oZ hp,qY,cN];rfl
  ·refine⟨s1.trans s2,?_⟩
   rw[s2 _ _ hD1,tk,uo,uj (by rw[hp];exact fj),qY,ft]
 ·have e:i=l.length:=by omega
  subst e
  rw[gU]at hD1
  exact .inl ⟨⟨_,q,by simp⟩,hd _ s1 hD1⟩
theorem zP{D:Addr}{lo:Int}{n:Nat}{g:TG}{tt:TT}{te:TE}{vs:List Nat}{σ:St}{H:Hp}{Q:VK}(p:Nat->Bool)(f:Nat->V)
  (hl:n<sizeLine)(hD:H D=none)
  (hs:∀(i:Nat) (H':Hp),i<n->ag H H'->∀(R:V->Hp->Prop) (Nx:Hp->Prop),(p i=true->∀H'',ag H' H''->R (f i) H'')->(p i=false->∀H'',ag H' H''->Nx H'')->
   g (.int (lo+i)) (wipe σ vs) H' fun σ2 H2=>wipe σ2 vs=wipe σ vs/\tt σ2 H2 fun b H3=>if b=true then te σ2 H3 R else Nx H3)
  (hd:∀H',ag H H'->H' D=some (.lst (((List.range n).filter p).map f))->Q (.ref D) H'):
  ∃W:Nat->Nat->Hp->Prop,(∃m,W 0 m (upd H D (.lst [])))/\∀i m H,W i m H->
   ((jK lo n).stop i H/\Q (.ref D) H)\/((jK lo n).go i H/\∃Nx:Hp->Prop,(∀H',Nx H'->∃m',m'<m/\W (i+1) m' H')/\∀x H',(jK lo n).iE i H x H'->g x (wipe σ vs) H' fun σ2 H2=>wipe σ2 vs=wipe σ vs/\tt σ2 H2 fun b H3=>
    if b=true then te σ2 H3 fun y H4=>∃acc,H4 D=some (.lst acc)/\acc.length<sizeLine/\Nx (upd H4 D (.lst (acc++[y]))) else Nx H3):=by
 refine⟨fun i m H'=>m=n - i/\i<=n/\ag H H'/\H' D=some (.lst (((List.range i).filter p).map f)),⟨n,by simp,be _,ag.bA hD,au⟩,?_⟩
 rintro i m H1 ⟨rfl,hi,s1,hD1⟩
 by_cases hlt:i<n
 ·refine .inr ⟨hlt,fun H'=>ag H H'/\H' D=some (.lst (((List.range (i+1)).filter p).map f)),fun H' h=>⟨n - (i+1),by omega,rfl,hlt,h⟩,fun x H' y=>?_⟩
  obtain⟨e,y⟩:=y
  subst e y
  refine hs i _ hlt s1 _ _ (fun hp H'' s2=>?_) (fun hp H'' s2=>?_)
  ·refine⟨_,s2 _ _ hD1,?_,(s1.trans s2).upd hD,?_⟩
   ·rw[aE]
    exact Nat.lt_of_le_of_lt (cz (qU _ _) (by rw[cA];omega)) hl
   ·rw[au,iZ,uo,oZ hp,qY,cN];rfl
  ·refine⟨s1.trans s2,?_⟩
   rw[s2 _ _ hD1,iZ,uo,uj (by rw[hp];exact fj),qY,ft]
 ·have e:i=n:=by omega
  subst e
  exact .inl ⟨aX _,hd _ s1 hD1⟩
theorem zQ{K:PySem.W.Frag}{a:Addr}{xs:List V}{g:TG}{tb:TS}{D:Ends}{σ:St}{H:Hp}(Pv:Nat->St->Hp->Prop)(h0:Pv 0 σ H)(hl:∀i σ H,i<=xs.length->Pv i σ H->ai K H a xs)
  (hs:∀i x T σ H,xs[i]?=some x->Pv i σ H->H T=none->g (.ref T) σ (upd H T (.tup [.int (i:Nat),x])) fun σ2 H2=>tb {D with nx:=Pv (i+1),ct:=Pv (i+1),bk:=D.nx} σ2 H2)(hd:∀σ H,Pv xs.length σ H->D.nx σ H):
  ∃W:Nat->Nat->St->Hp->Prop,(∃m,W 0 m σ H)/\∀i m σ H,W i m σ H->
   ((rQ K a).stop i H/\D.nx σ H)\/((rQ K a).go i H/\∃N:St->Hp->Prop,(∀σ' H',N σ' H'->∃m',m'<m/\W (i+1) m' σ' H')/\∀x H',(rQ K a).iE i H x H'->g x σ H' fun σ2 H2=>tb {D with nx:=N,ct:=N,bk:=D.nx} σ2 H2):=by
 refine⟨fun i m σ H=>m=xs.length - i/\i<=xs.length/\Pv i σ H,⟨xs.length,by simp,be _,h0⟩,?_⟩
 rintro i m σ H ⟨rfl,hi,p⟩
 have q:=hl i σ H hi p
 by_cases hlt:i<xs.length
 ·refine .inr ⟨⟨xs,xs[i],q,by simp[hlt]⟩,Pv (i+1),fun σ' H' p'=>⟨xs.length - (i+1),by omega,rfl,hlt,p'⟩,fun v H' y=>?_⟩
  obtain⟨T,x,rfl,hT,rfl,y⟩:=y
  exact hs i x T σ H (y xs q) p hT
 ·have e:i=xs.length:=by omega
  subst e
  exact .inl ⟨⟨xs,q,aX _⟩,hd σ H p⟩
end L2
end
section
namespace L2
open PySem PySem.Spec PyProof.Rows
section
variable{X:Cx}
theorem aN{x:Str}{i:Int}{pos:Pos}(hg:Gl X x)(hm:∃t,X.mg x=some (.int i t))(hd:(x == ("__debug__":Str))=false:=by decide):PE X (.Name x pos) (tC (.int i)):=by
 obtain⟨t,hm⟩:=hm
 exact J7 hg hm ⟨t,rfl⟩ hd
def zR(ta:TA):TE:=fun σ H Q=>ta σ H fun vs H1=>∃j:Int,vs=[.int j]/\∀r,H1 r=none->Q (.ref r) (upd H1 r (.ke 0 j))
def GI(ta:TA):TE:=fun σ H Q=>ta σ H fun vs H1=>∃i j:Int,vs=[.int i,.int j]/\∀r,H1 r=none->Q (.ref r) (upd H1 r (.ke i j))
theorem mS{a:Expr}{ta:TA}{p pos:Pos}(hg:Gl X "range")(hm:X.mg "range"=none)(ha:PA X [a] ta)(hs:starEach [a] X.env=[(false,eval a X.env)]:=by rfl):PE X (.Call (.Name "range" p) [a] [] pos) (zR ta):=by
 intro pins s σ H R I h
 refine Call_ (kh I hg hm boot_range (m5 (aU (ha pos pins s σ H _ I h) fun us s1 ⟨vs,H1,I1,r1,q1⟩=>?_) hs rfl))
 obtain⟨j,e,q⟩:=q1
 subst e
 cases r1 with
 |cons r rr=>
  cases rr
  obtain⟨t,rfl⟩:=r
  exact call_range_1 ⟨.ref s1.heap.objs.size,upd H1 s1.heap.objs.size (.ke 0 j),I1.laid (fun b u e=>Heap.get?_push_of_some _ e) (aX _) ⟨_,_,_,Heap.get?_push_size _ rfl⟩,rfl,q _ (I1.aP.fresh (aX _))⟩
theorem zS{a b:Expr}{ta:TA}{p pos:Pos}(hg:Gl X "range")(hm:X.mg "range"=none)(ha:PA X [a,b] ta)(hs:starEach [a,b] X.env=[(false,eval a X.env),(false,eval b X.env)]:=by rfl)(hs2:starEach [b] X.env=[(false,eval b X.env)]:=by rfl):
  PE X (.Call (.Name "range" p) [a,b] [] pos) (GI ta):=by
 intro pins s σ H R I h
 refine Call_ (kh I hg hm boot_range (m5 (aU (ha pos pins s σ H _ I h) fun us s1 ⟨vs,H1,I1,r1,q1⟩=>?_) (by rw[hs,hs2]) (by rw[hs2];rfl)))
 obtain⟨i,j,e,q⟩:=q1
 subst e
 cases r1 with
 |cons r rr=>
  cases rr with
  |cons r' rr=>
   cases rr
   obtain⟨t,rfl⟩:=r
   obtain⟨t',rfl⟩:=r'
   exact call_range_2 ⟨.ref s1.heap.objs.size,upd H1 s1.heap.objs.size (.ke i j),I1.laid (fun b u e=>Heap.get?_push_of_some _ e) (aX _) ⟨_,_,_,Heap.get?_push_size _ rfl⟩,rfl,q _ (I1.aP.fresh (aX _))⟩
def lV(lo:Int)(n:Nat):List V:=(List.range n).map fun (k:Nat)=>V.int (lo+k)
theorem NU(lo:Int)(n:Nat):(lV lo n).length=n:=by unfold lV;rw[aE,cA]
theorem NV{lo:Int}{n:Nat}{acc:Array Value}(h:ItemsOf (fun i v=>∃t,v=.int (lo+i * 1) t) acc n):aK (lV lo n) acc.toList:=by
 obtain⟨hl,hi⟩:=h
 have:∀(m:Nat) (l:List Value) (k:Nat),l.length=m->(∀j v,l[j]?=some v->∃t,v=Value.int (lo+(k+j:Nat)) t)->aK ((List.range' k m).map fun (k:Nat)=>V.int (lo+k)) l:=by
  intro m
  induction m with
  |zero=>intro l k e _;have:l=[]:=qT.mp e;subst this;exact .nil
  |succ m ih=>
   intro l k e h
   cases l with
   |nil=>cases e
   |cons a r=>
    rw[List.range'_succ,dQ]
    obtain⟨t,et⟩:=h 0 a rfl
    refine .cons ⟨t,by rw[et];rfl⟩ (ih r (k+1) (by simpa using e) fun j v hj=>?_)
    obtain⟨t,et⟩:=h (j+1) v (by simpa using hj)
    exact⟨t,by rw[et];congr 2;omega⟩
 unfold lV
 rw[List.range_eq_range']
 refine this n acc.toList 0 (by simpa using hl) fun j v hj=>?_
 obtain⟨t,et⟩:=hi j v (by simpa using hj)
 exact⟨t,by rw[et,Int.mul_one,Nat.zero_add]⟩
theorem NW(hc:X.calm=true):i_ X (.type "list") (fun xs H Q=>∃r lo hi,xs=[.ref r]/\H r=some (.ke lo hi)/\(-(2 ^ 62)<=lo/\lo<2 ^ 62/\ -(2 ^ 62)<=hi/\hi<2 ^ 62)/\(hi - lo).toNat<=sizeLine/\∀l,H l=none->Q (.ref l) (upd H l (.lst (lV lo (hi - lo).toNat)))):=by
 intro pins s σ H xs us Q I r h
 obtain⟨ra,lo,hi,rfl,hr,⟨b1,b2,b3,b4⟩,hz,q⟩:=h
 obtain⟨u,rfl,ru⟩:=vals1 r
 cases ru
 obtain⟨t,t2,t3,e⟩:=I.aP ra _ hr
 refine call_list_range (n:=(hi - lo).toNat) (I.ok.hd hc) (show IsRange s.heap ra lo hi 1 t t2 t3 from e) (small_one b1 b2 b3 b4) (by rw[rangeSize_one];split<;>omega) (cz hz (by rw[sizeLine_eq];decide)) fun h' tk acc c hk hS hacc=>?_
 refine⟨.ref s.heap.objs.size,upd H s.heap.objs.size (.lst (lV lo (hi - lo).toNat)),I.laid hk (aX _) ⟨by rw[NU];exact hz,acc.toList,c,NV hacc,by simpa using hS⟩,rfl,q _ (I.aP.fresh (aX _))⟩
end
end L2
end
section
namespace L2
open PySem PySem.Spec PyProof.Rows
section
variable{X:Cx}
structure sT(K:PySem.W.Frag)(mg:Str->Option Value)(x:Str)(sel:Int->Option V):Prop where
 ex:∃d,mg x=some (.ref d)/\∀(P:Program) (w:World) (h:Heap),K.In h->∃kvs vs,(∀k:Int,lE kvs (Sum.inl k:Key)=sel k)/\KV kvs vs/\h.DictOf (k8 P w) d vs
def NX(sel:Int->Option V)(ty:TE):TE:=fun σ H Q=>ty σ H fun y H2=>∃(k:Int) (v:V),y=.int k/\sel k=some v/\Q v H2
theorem zT{x:Str}{sel:Int->Option V}{i:Expr}{ty:TE}{p pos:Pos}(hg:Gl X x)(T:sT X.K X.mg x sel)(hi:PE X i ty)(hs:DZ i:=by intro _ _;rfl)(hd:(x == ("__debug__":Str))=false:=by decide):PE X (.Subscript (.Name x p) i pos) (NX sel ty):=by
 obtain⟨d,hm,T⟩:=T.ex
 intro pins s σ H Q I h
 refine LM PySem.F.slot_dict_getitem.lookup hs (rk I hg hm (aU (hi pins s σ H _ I h) fun iv s2 ⟨y,H2,I2,ry,k,v,ey,hsel,q2⟩=>?_) hd)
 obtain⟨kvs,vs,hv,rel,dd⟩:=T X.prog X.w s2.heap I2.fV
 subst ey
 refine⟨dd.typeIs,?_⟩
 obtain⟨w',hw,rw'⟩:=i5.some_of (v:=v) (o:=valueAt vs (Sum.inl k)) (by rw[<-hsel,<-hv];exact rel.val _)
 exact wpAny_getItem_of (LL (k:=Sum.inl k) ry) dd.mapOf hw ⟨v,H2,I2.tok _,rw',q2⟩
def NY(i:Nat)(t:TA)(sps:Addr->Sp->Prop):TE:=fun σ H Q=>∃f sp,σ[i]?=some (some (.ref f))/\sps f sp/\t σ H fun vs H1=>sp vs H1 Q E0
structure zU(P:Program)(w:World)(K:PySem.W.Frag)(mg:Str->Option Value)(base:Heap)(A:Around)(sps:Addr->Sp->Prop):Prop where
 ok:∀f sp,sps f sp->∃k fd ps,d8 P w K mg base gX k f fd ps sp/\cy k A/\Binds K fd ps []/\PySem.W.keepIn K (.ref f)=true
theorem GJ{i:Nat}{x:Str}{e:Expr}{es:List Expr}{t:TA}{sps:Addr->Sp->Prop}{p pos:Pos}(F:zU X.prog X.w X.K X.mg X.base X.A sps)(hx:lC gX X E0)(hN:X.N[i]?=some x)(hv:pj X.env.scope x)(ha:PA X (e::es) t)
  (hdb:(x == ("__debug__":Str))=false:=by decide)(hcd:(x == ("__classdict__":Str))=false:=by decide)(he:starEach (e::es) X.env=(false,eval e X.env)::starEach es X.env:=by rfl)(hpl:(backTo pos (starEach es X.env)).any (·.1)=false:=by rfl):
  PE X (.Call (.Name x p) (e::es) [] pos) (NY i t sps):=by
 intro pins s σ H Q I h
 obtain⟨f,sp,hf,hs,h⟩:=h
 obtain⟨k,fd,ps,G,hr,hb,hk⟩:=F.ok f sp hs
 refine wpAny_Call_Name_kw (aU (CS (pos:=p) hN hv hdb hcd pins s σ H (fun v H'=>v=.ref f/\H'=H) I ⟨.ref f,hf,rfl,rfl⟩) fun u s0 ⟨v,H',I0,rv,ev,eH⟩=>?_)
 subst ev eH
 cases (show u=Value.ref f from rv)
 refine PySem.W.callWith_K (h₀:=X.base) I0.ok.mod.ph hk (aU (ha pos pins s0 σ H' _ I0 h) fun us s1 ⟨vs,H1,I1,r,q⟩=>⟨I1.fV,?_⟩) he hpl
 exact uI (dvs:=[]) (ds:=[]) (E:=E0) G hr hb .nil hx I1 r (by rw[ft];exact q)
end
theorem GK{K:PySem.W.Frag}{a:Addr}{xs:List V}{g:TG}{tb:TS}{D:Ends}{σ:St}{H:Hp}(Pv:Nat->St->Hp->Prop)(h0:Pv 0 σ H)(hl:∀i σ H,i<=xs.length->Pv i σ H->ai K H a xs)
  (hs:∀i x σ H,xs.reverse[i]?=some x->Pv i σ H->g x σ H fun σ2 H2=>tb {D with nx:=Pv (i+1),ct:=Pv (i+1),bk:=D.nx} σ2 H2)(hd:∀σ H,Pv xs.length σ H->D.nx σ H):
  ∃W:Nat->Nat->St->Hp->Prop,(∃m,W 0 m σ H)/\∀i m σ H,W i m σ H->
   ((lH K a xs.length).stop i H/\D.nx σ H)\/((lH K a xs.length).go i H/\∃N:St->Hp->Prop,(∀σ' H',N σ' H'->∃m',m'<m/\W (i+1) m' σ' H')/\∀x H',(lH K a xs.length).iE i H x H'->g x σ H' fun σ2 H2=>tb {D with nx:=N,ct:=N,bk:=D.nx} σ2 H2):=by
 refine⟨fun i m σ H=>m=xs.length - i/\i<=xs.length/\Pv i σ H,⟨xs.length,by simp,be _,h0⟩,?_⟩
 rintro i m σ H ⟨rfl,hi,p⟩
 have q:=hl i σ H hi p
 by_cases hlt:i<xs.length
 ·refine .inr ⟨⟨hlt,xs,xs[xs.length - 1 - i],q,by rw[bu]⟩,Pv (i+1),fun σ' H' p'=>⟨xs.length - (i+1),by omega,rfl,hlt,p'⟩,fun x H' y=>?_⟩
  obtain⟨e,y⟩:=y
  subst e
  exact hs i x σ _ (by rw[List.getElem?_reverse hlt];exact y xs q) p
 ·have e:i=xs.length:=by omega
  subst e
  exact .inl ⟨aX _,hd σ H p⟩
theorem NZ{α:Type}{K:PySem.W.Frag}{a D:Addr}{l:List α}{em:α->V}{g:TG}{tt:TT}{te:TE}{vs:List Nat}{σ:St}{H:Hp}{Q:VK}(f:α->V)
  (hq:ai K H a (l.map em))(hl:l.length<sizeLine)(hD:H D=none)
  (hs:∀(x:α) (H':Hp),x∈l->ag H H'->∀(R:V->Hp->Prop) (Nx:Hp->Prop),(∀H'',ag H' H''->R (f x) H'')->
   g (em x) (wipe σ vs) H' fun σ2 H2=>wipe σ2 vs=wipe σ vs/\tt σ2 H2 fun b H3=>if b=true then te σ2 H3 R else Nx H3)
  (hd:∀H',ag H H'->H' D=some (.lst (l.reverse.map f))->Q (.ref D) H'):
  ∃W:Nat->Nat->Hp->Prop,(∃m,W 0 m (upd H D (.lst [])))/\∀i m H,W i m H->
   ((lH K a (l.map em).length).stop i H/\Q (.ref D) H)\/((lH K a (l.map em).length).go i H/\∃Nx:Hp->Prop,(∀H',Nx H'->∃m',m'<m/\W (i+1) m' H')/\∀x H',(lH K a (l.map em).length).iE i H x H'->g x (wipe σ vs) H' fun σ2 H2=>wipe σ2 vs=wipe σ vs/\tt σ2 H2 fun b H3=>
    if b=true then te σ2 H3 fun y H4=>∃acc,H4 D=some (.lst acc)/\acc.length<sizeLine/\Nx (upd H4 D (.lst (acc++[y]))) else Nx H3):=by
 have ll:(l.map em).length=l.length:=aE ..
 refine⟨fun i m H'=>m=l.length - i/\i<=l.length/\ag H H'/\H' D=some (.lst ((l.reverse.take i).map f)),⟨l.length,by simp,be _,ag.bA hD,au⟩,?_⟩
 rintro i m H1 ⟨rfl,hi,s1,hD1⟩
 have q:=s1.seq hq
 by_cases hlt:i<l.length
 ·refine .inr ⟨⟨by rw[ll];exact hlt,_,em l[l.length - 1 - i],q,by rw[ll,bX,bu (by omega)];rfl⟩,fun H'=>ag H H'/\H' D=some (.lst ((l.reverse.take (i+1)).map f)),fun H' h=>⟨l.length - (i+1),by omega,rfl,hlt,h⟩,fun x H' y=>?_⟩
  obtain⟨e,y⟩:=y
  subst e
  have hx:l[l.length - 1 - i]?=some l[l.length - 1 - i]:=bu (by omega)
  have ex:em l[l.length - 1 - i]=x:=by
   have z:=y _ q
   rw[ll,bX,hx]at z
   exact bo z
  subst ex
  have hm:l[l.length - 1 - i]∈l:=iY _
  have tk:l.reverse.take (i+1)=l.reverse.take i++[l[l.length - 1 - i]]:=by
   rw[i0,List.getElem?_reverse hlt,hx];rfl
  refine hs _ _ hm s1 _ _ (fun H'' s2=>?_)
  refine⟨_,s2 _ _ hD1,?_,(s1.trans s2).upd hD,?_⟩
  ·rw[aE,dz,cJ];omega
  ·rw[au,tk,cN];rfl
 ·have e:i=l.length:=by omega
  subst e
  rw[oY (by rw[cJ];exact aX _)]at hD1
  exact .inl ⟨by show (l.map em).length<=l.length;rw[ll];exact aX _,hd _ s1 hD1⟩
theorem N0{K:PySem.W.Frag}{a b D:Addr}{l m:List Int}{g:TG}{tt:TT}{te:TE}{vs:List Nat}{σ:St}{H:Hp}{Q:VK}(f:Int->Int->V)
  (hqa:ai K H a (iv l))(hqb:ai K H b (iv m))(hlm:l.length=m.length)(hl:l.length<sizeLine)(hD:H D=none)
  (hs:∀(x y:Int) (T:Addr) (H':Hp),ag H H'->H' T=none->H' D≠none->∀(R:V->Hp->Prop) (Nx:Hp->Prop),(∀H'',ag H' H''->R (f x y) H'')->
   g (.ref T) (wipe σ vs) (upd H' T (.tup [.int x,.int y])) fun σ2 H2=>wipe σ2 vs=wipe σ vs/\tt σ2 H2 fun b H3=>if b=true then te σ2 H3 R else Nx H3)
  (hd:∀H',ag H H'->H' D=some (.lst (List.zipWith f l m))->Q (.ref D) H'):
  ∃W:Nat->Nat->Hp->Prop,(∃m,W 0 m (upd H D (.lst [])))/\∀i m H,W i m H->
   ((pK K a b).stop i H/\Q (.ref D) H)\/((pK K a b).go i H/\∃Nx:Hp->Prop,(∀H',Nx H'->∃m',m'<m/\W (i+1) m' H')/\∀x H',(pK K a b).iE i H x H'->g x (wipe σ vs) H' fun σ2 H2=>wipe σ2 vs=wipe σ vs/\tt σ2 H2 fun b H3=>
    if b=true then te σ2 H3 fun y H4=>∃acc,H4 D=some (.lst acc)/\acc.length<sizeLine/\Nx (upd H4 D (.lst (acc++[y]))) else Nx H3):=by
 refine⟨fun i k H'=>k=l.length - i/\i<=l.length/\ag H H'/\H' D=some (.lst ((List.zipWith f l m).take i)),⟨l.length,by simp,be _,ag.bA hD,au⟩,?_⟩
 rintro i k H1 ⟨rfl,hi,s1,hD1⟩
 have qa:=s1.seq hqa
 have qb:=s1.seq hqb
 by_cases hlt:i<l.length
 ·have hlt2:i<m.length:=by omega
  refine .inr ⟨⟨_,_,.int l[i],.int m[i],qa,qb,by unfold iv;rw[bX,bu hlt];rfl,by unfold iv;rw[bX,bu hlt2];rfl⟩,fun H'=>ag H H'/\H' D=some (.lst ((List.zipWith f l m).take (i+1))),fun H' h=>⟨l.length - (i+1),by omega,rfl,hlt,h⟩,fun v H' y=>?_⟩
  obtain⟨T,x,y',rfl,hT,rfl,y1,y2⟩:=y
  have ex:V.int l[i]=x:=by
   have z:=y1 _ qa
   unfold iv at z
   rw[bX,bu hlt]at z
   exact bo z
  have ey:V.int m[i]=y':=by
   have z:=y2 _ qb
   unfold iv at z
   rw[bX,bu hlt2]at z
   exact bo z
  subst ex ey
  have tk:(List.zipWith f l m).take (i+1)=(List.zipWith f l m).take i++[f l[i] m[i]]:=by
   rw[i0,List.getElem?_zipWith,bu hlt,bu hlt2];rfl
  refine hs _ _ T _ s1 hT (by rw[hD1];simp) _ _ (fun H'' s2=>?_)
  have s3:ag H1 H'':=s2
  refine⟨_,s3 _ _ hD1,?_,(s1.trans s3).upd hD,?_⟩
  ·rw[dz,List.length_zipWith];omega
  ·rw[au,tk]
 ·have e:i=l.length:=by omega
  subst e
  rw[oY (by rw[List.length_zipWith];omega)]at hD1
  exact .inl ⟨⟨_,_,qa,qb,.inl (by unfold iv;rw[aE];exact aX _)⟩,hd _ s1 hD1⟩
end L2
end
section
namespace L2
open PySem PySem.Spec PyProof.Rows
def zV(A:Around)(s:Shared)(y x:Value)(b:Bool):Prop:=
 ∀(prog:Program) (w:World) (E:Value->Shared->Prop) (Q:Value->Shared->Prop),Q (.bool b) s->wpAny (model prog w) A (richCompare .Lt y x) Q E s
inductive iT(A:Around)(s:Shared):List Value->List Value->Bool->Prop
 |nn:iT A s [] [] false
 |nc {w:Value}{ws:List Value}:iT A s [] (w::ws) true
 |cn {v:Value}{vs:List Value}:iT A s (v::vs) [] false
 |eq {v w:Value}{vs ws:List Value}{r:Bool}:SeqAt.EqAt A s v w true->iT A s vs ws r->iT A s (v::vs) (w::ws) r
 |ne {v w:Value}{vs ws:List Value}{r:Bool}:SeqAt.EqAt A s v w false->zV A s v w r->iT A s (v::vs) (w::ws) r
section
open PySem.SeqAt
open PySem.AutoSeq1 (wpAny_loadPart')
open PySem.MeetsSeq PySem.MeetsSeq2 PySem.MeetsSeq3
theorem N1(l b:Addr)(items items2:Array Value)(n n2:Nat)(dd dd2:Option Addr)(sl sl2:Array (Option Value))(r:Bool)(k:Nat):
  ∀i:Nat,items.size - i=k->i<=items.size->i<=items2.size->Meets (Builtin.«list.__eq__.loop» ⟨[.ref l,.ref b,rawInt i,rawInt 0],[]⟩)
   (fun A R s=>s.heap.get? l=some {cls:=.type "list",dict:=dd,data:=.seq items n,slots:=sl}/\s.heap.get? b=some {cls:=.type "list",dict:=dd2,data:=.seq items2 n2,slots:=sl2}/\
    iT A.in1 s (items.toList.drop i) (items2.toList.drop i) r/\R (.ok (.ret (.bool r))) s):=by
 induction k with
 |zero=>
  intro i hk hi hi2 prog w A R s h
  obtain⟨hp,g,d,tk,os⟩:=s;obtain⟨hl,hb,he,h⟩:=h
  wp_walk using wpAny_loadPart' hl,wpAny_loadPart' hb
  have hi1:items[((i:Nat):Int).toNat]?=none:=by simp;omega
  have d1:items.toList.drop i=[]:=by simp;omega
  rw[d1]at he
  rw[hi1]
  wp_walk using wpAny_loadPart' hl,wpAny_loadPart' hb
  show R (.ok (.ret (.bool (decide (items.size<items2.size))))) _
  generalize hd2:items2.toList.drop i=d2 at he
  cases he with
  |nn=>
   have:items2.toList.length<=i:=List.drop_eq_nil_iff.mp hd2
   rw[uh]at this
   rw[cu (by omega)];exact h
  |nc=>
   have:¬items2.toList.length<=i:=fun z=>by rw[q_ z]at hd2;cases hd2
   rw[uh]at this
   rw[c7 (by omega)];exact h
 |succ k ih=>
  intro i hk hi hi2 prog w A R s h
  obtain⟨hp,g,d,tk,os⟩:=s;obtain⟨hl,hb,he,h⟩:=h
  wp_walk using wpAny_loadPart' hl,wpAny_loadPart' hb
  have hlt:i<items.size:=by omega
  have hi1:items[((i:Nat):Int).toNat]?=some items[i]:=by simp[hlt]
  have d1:items.toList.drop i=items[i]::items.toList.drop (i+1):=by
   rw[o9 (by rw[uh];exact hlt),Array.getElem_toList]
  have hc:((i:Int)+1)=((i+1:Nat):Int):=by push_cast;rfl
  by_cases hlt2:i<items2.size
  ·have hi2':items2[((i:Nat):Int).toNat]?=some items2[i]:=by simp[hlt2]
   have d2:items2.toList.drop i=items2[i]::items2.toList.drop (i+1):=by
    rw[o9 (by rw[uh];exact hlt2),Array.getElem_toList]
   rw[d1,d2]at he
   rw[hi1,hi2']
   cases he with
   |eq e1 e2=>
    refine wpAny_bind (e1 prog w _ _ ?_)
    wp_walk
    rw[hc]
    exact⟨plainId_quiet plain_eq_loop _,codeAny_builtin entry_eq_loop (by
     rw[Around.under_plainId plain_eq_loop _]
     exact ih (i+1) (by omega) (by omega) (by omega) prog w A R _ ⟨hl,hb,e2,h⟩)⟩
   |ne e1 e2=>
    refine wpAny_bind (e1 prog w _ _ ?_)
    have e2':=e2 prog w
    wp_walk using wpAny_loadPart' hl,wpAny_loadPart' hb
    rw[hi1,hi2']
    wp_walk using e2'
    simpa using h
  ·have hi2':items2[((i:Nat):Int).toNat]?=none:=by simp;omega
   have d2:items2.toList.drop i=[]:=by simp;omega
   rw[d1,d2]at he
   rw[hi1,hi2']
   wp_walk using wpAny_loadPart' hl,wpAny_loadPart' hb
   show R (.ok (.ret (.bool (decide (items.size<items2.size))))) _
   cases he with
   |cn=>rw[cu (by omega)];exact h
theorem N2(l b:Addr)(items items2:Array Value)(n n2:Nat)(dd dd2:Option Addr)(sl sl2:Array (Option Value))(r:Bool):
  Meets (Builtin.«list.__lt__» ⟨[.ref l,.ref b],[]⟩)
   (fun A R s=>s.heap.get? l=some {cls:=.type "list",dict:=dd,data:=.seq items n,slots:=sl}/\s.heap.get? b=some {cls:=.type "list",dict:=dd2,data:=.seq items2 n2,slots:=sl2}/\
    iT A.in1 s items.toList items2.toList r/\R (.ok (.ret (.bool r))) s):=by
 intro prog w A R s h
 obtain⟨hp,g,d,tk,os⟩:=s;obtain⟨hl,hb,he,h⟩:=h
 have f3:=AutoSeq1.sub_list_list
 wp_walk using wpAny_loadPart' hl,wpAny_loadPart' hb
 exact⟨plainId_quiet plain_eq_loop _,codeAny_builtin entry_eq_loop (by
  rw[Around.under_plainId plain_eq_loop _]
  exact N1 l b items items2 n n2 dd dd2 sl sl2 r _ 0 rfl (be _) (be _) prog w A R _ ⟨hl,hb,he,h⟩)⟩
end
theorem zW{A:Around}{s:Shared}{l b:Addr}{its its2:List Value}{r:Bool}(hl:PlainL s.heap l its.toArray)(hb:PlainL s.heap b its2.toArray)(h:iT A.in1 s its its2 r)(hu:A.units<cLine):zV A s (.ref l) (.ref b) r:=by
 intro prog w E Q q
 obtain⟨⟨cls,dd,data,sl⟩,n,ho,hc,hd0,hd⟩:=id hl
 obtain⟨⟨cls2,dd2,data2,sl2⟩,n2,ho2,hc2,hd02,hd2⟩:=id hb
 simp only at hc hd0 hd hc2 hd02 hd2
 subst hc hd0 hd hc2 hd02 hd2
 exact richCompare_meets_room (op:=.Lt) ⟨_,ho,rfl⟩ ⟨_,ho2,rfl⟩ PySem.F.slot_list_lt PySem.F.entry_list_lt (PySem.F.args_list_lt_2 _ _) (N2 l b its.toArray its2.toArray n n2 _ _ sl sl2 r)
  ⟨ho,ho2,by simpa using h,show Value.bool r≠Value.notImplemented/\Q (.bool r) s from ⟨(fun x=>nomatch x),q⟩⟩ hu
end L2
end
section
namespace BK
open PySem PySem.Spec PyProof.Rows L2
structure Df(K:PySem.W.Frag)(mg:Str->Option Value)(x:Str)(st:Stmt)(ps:List Str) where
 f:Addr
 fd:FuncData
 m:mg x=some (.ref f)
 F:ko K x x st f fd
 b:Binds K fd ps []
structure Dm(K:PySem.W.Frag)(C:Addr)(x q:Str)(st:Stmt)(ps:List Str) where
 f:Addr
 fd:FuncData
 F:ko K x q st f fd
 b:Binds K fd ps []
 me:rE K C x f
structure Di(K:PySem.W.Frag)(C:Addr)(q:Str)(st:Stmt)(ps:List Str) where
 f:Addr
 fd:FuncData
 F:ko K "__init__" q st f fd
 b:Binds K fd ps []
 GL:Mk K C f
def top(i:Nat):Stmt:=PySem.Challenge.pw_braidbook_s01_answers.main.body.getD i (.Pass ⟨0,0,0,0⟩)
abbrev zX:Stmt:=top 3
abbrev zY:Stmt:=top 4
abbrev zZ:Stmt:=top 5
abbrev z4:Stmt:=top 6
abbrev z5:Stmt:=top 7
abbrev z6:Stmt:=top 8
abbrev z7:Stmt:=top 9
abbrev z8:Stmt:=top 10
abbrev z9:Stmt:=top 11
abbrev z_:Stmt:=top 12
abbrev Aa:Stmt:=top 13
abbrev Ab:Stmt:=top 14
abbrev Ac:Stmt:=top 15
abbrev Ad:Stmt:=top 16
abbrev Ae:Stmt:=top 17
abbrev Af:Stmt:=top 19
abbrev Ag:Stmt:=top 20
abbrev Ah:Stmt:=top 21
abbrev Ai:Stmt:=top 22
abbrev Aj:Stmt:=top 23
abbrev Ak:Stmt:=top 28
abbrev Al:Stmt:=top 29
abbrev Am:Stmt:=top 30
abbrev An:Stmt:=top 31
abbrev Ao:Stmt:=top 32
abbrev Ap:Stmt:=top 33
abbrev Aq:Stmt:=top 34
abbrev Au:Stmt:=top 35
abbrev Av:Stmt:=top 36
abbrev Aw:Stmt:=top 38
abbrev Ax:Stmt:=top 39
abbrev Ay:Stmt:=top 40
abbrev Az:Stmt:=top 41
abbrev AA:Stmt:=top 42
abbrev AB:Stmt:=top 43
abbrev AD:Stmt:=top 45
abbrev AE:Stmt:=top 46
abbrev AF:Stmt:=top 47
abbrev AG:Stmt:=top 51
abbrev AH:Stmt:=top 52
abbrev AI:Stmt:=top 53
abbrev AJ:Stmt:=top 54
abbrev AK:Stmt:=top 55
abbrev AL:Stmt:=top 56
abbrev AM:Stmt:=top 57
abbrev AN:Stmt:=top 58
abbrev AO:Stmt:=top 66
abbrev AQ:Stmt:=top 67
abbrev AR:Stmt:=top 68
abbrev AS:Stmt:=top 69
abbrev AU:Stmt:=top 70
abbrev AV:Stmt:=top 71
abbrev AW:Stmt:=top 72
abbrev AX:Stmt:=top 73
abbrev AY:Stmt:=top 74
abbrev AZ:Stmt:=top 82
abbrev A3:Stmt:=top 83
abbrev A4:Stmt:=top 84
abbrev A5:Stmt:=top 85
abbrev A6:Stmt:=top 86
abbrev A7:Stmt:=top 87
abbrev A8:Stmt:=top 88
abbrev A9:Stmt:=top 89
abbrev A_:Stmt:=top 90
abbrev Ba:Stmt:=top 91
abbrev Bb:Stmt:=top 92
abbrev Bc:Stmt:=top 93
abbrev Be:Stmt:=top 94
abbrev Bf:Stmt:=top 95
abbrev Bg:Stmt:=top 96
abbrev Bh:Stmt:=top 98
abbrev Bj:Stmt:=top 100
abbrev Bk:Stmt:=top 101
abbrev Bl:Stmt:=top 102
abbrev Bm:Stmt:=top 103
abbrev Bn:Stmt:=top 104
abbrev Bo:Stmt:=top 105
abbrev Bp:Stmt:=top 106
abbrev Bq:Stmt:=top 107
abbrev Br:Stmt:=top 108
abbrev Bs:Stmt:=top 109
abbrev Bt:Stmt:=top 110
abbrev Bu:Stmt:=top 111
abbrev Bv:Stmt:=top 112
abbrev Bw:Stmt:=top 113
abbrev Bx:Stmt:=top 115
abbrev By:Stmt:=top 122
abbrev Bz:Stmt:=top 123
abbrev BA:Stmt:=inClass (top 27) 0
abbrev BC:Stmt:=inClass (top 50) 0
abbrev BD:Stmt:=inClass (top 81) 0
abbrev BE:Stmt:=inClass (top 81) 1
abbrev BF:Stmt:=inClass (top 81) 2
abbrev BG:Stmt:=inClass (top 81) 3
abbrev BH:Stmt:=inClass (top 118) 0
abbrev BI:Stmt:=inClass (top 119) 0
abbrev BJ:Stmt:=inClass (top 119) 1
abbrev BL:Stmt:=inClass (top 119) 2
abbrev BM:Stmt:=inClass (top 119) 3
abbrev BN:Stmt:=inClass (top 119) 4
theorem aJ{N P:List Str}{sc:Scope}(a:sc.kind=.function:=by rfl)(b:sc.isCoroutine=false:=by rfl)(c:sc.isGenerator=false:=by rfl)(d:N.Nodup:=by decide+kernel)(e:N.take P.length=P:=by rfl)(f:∀x∈P,sc.names.lookup x=some .local\/sc.names.lookup x=some .cell:=by decide+kernel)(g:∀y∈sc.names,y.2≠.free:=by decide+kernel):aH N P sc:=⟨a,b,c,d,e,f,g⟩
theorem N3:aH ["n"] ["n"] (aD zX):=aJ
theorem N4:aH ["a","n"] ["a","n"] (aD zY):=aJ
theorem N5:aH ["a","b","place"] ["a","b"] (aD zZ):=aJ
theorem N6:aH ["a","back","i","place"] ["a"] (aD z4):=aJ
theorem N7:aH ["n","i"] ["n"] (aD z5):=aJ
theorem N8:aH ["n","a"] ["n","a"] (aD z6):=aJ
theorem N9:aH ["n","a","i"] ["n","a"] (aD z7):=aJ
theorem N_:aH ["a","total","i","place","later"] ["a"] (aD z8):=aJ
theorem Oa:aH ["a","total","i"] ["a"] (aD z9):=aJ
theorem Ob:aH ["a","b","i","j"] ["a","b"] (aD z_):=aJ
theorem Oc:aH ["n","a","total","i","smaller","later"] ["n","a"] (aD Aa):=aJ
theorem Od:aH ["number","n","digits","left","base","free","a","digit"] ["number","n"] (aD Ab):=aJ
theorem Oe:aH ["values","i","kept"] ["values","i"] (aD Ac):=aJ
theorem Of:aH ["a","now","row","i"] ["a"] (aD Ad):=aJ
theorem Og:aH ["row","strands","crossing","i"] ["row"] (aD Ae):=aJ
theorem Oh:aH ["n","a","twists"] ["n","a","twists"] (aD Af):=aJ
theorem Oi:aH ["a"] ["a"] (aD Ag):=aJ
theorem Oj:aH ["factors","at","arriving","leaving","i","source","goal","to"] ["factors","at"] (aD Ah):=aJ
theorem Ol:aH ["n","factors","factor","twist","at","comes_out","i"] ["n","factors","factor"] (aD Ai):=aJ
theorem Om:aH ["factors","beginning","left","at","a"] ["factors","beginning"] (aD Aj):=aJ
theorem Oo:aH ["braid"] ["braid"] (aD Ak):=aJ
theorem Oq:aH ["a","b","twists","factors","factor"] ["a","b"] (aD Al):=aJ
theorem Ot:aH ["a","passing","twists","factors","factor"] ["a"] (aD Am):=aJ
theorem Ou:aH ["a","exponent","base","power","step"] ["a","exponent"] (aD An):=aJ
theorem Ov:aH ["n","factor","factors","twists"] ["n","factor"] (aD Ao):=aJ
theorem Ow:aH ["n","crossing","factor","braid"] ["n","crossing"] (aD Ap):=aJ
theorem Ox:aH ["n","row","braid","crossing"] ["n","row"] (aD Aq):=aJ
theorem Oy:aH ["a","first","behind_first"] ["a"] (aD Au):=aJ
theorem Oz:aH ["a","before_last"] ["a"] (aD Av):=aJ
theorem OA:aH ["a","b","crossed","i","j"] ["a","b"] (aD Aw):=aJ
theorem OB:aH ["crossed","i","j"] ["crossed"] (aD Ax):=aJ
theorem OC:aH ["crossed_with","more","k"] ["crossed_with","more"] (aD Ay):=aJ
theorem OD:aH ["crossed","i","before","passed","j"] ["crossed","i"] (aD Az):=aJ
theorem OE:aH ["a","b","crossed","i"] ["a","b"] (aD AA):=aJ
theorem OF:aH ["a","b","twist"] ["a","b"] (aD AB):=aJ
theorem OG:aH ["a","b"] ["a","b"] (aD AD):=aJ
theorem OH:aH ["a","twists","factors"] ["a","twists"] (aD AE):=aJ
theorem OI:aH ["a","b","twists","of_a","of_b","most","factors","shared"] ["a","b"] (aD AF):=aJ
theorem OJ:aH ["n"] ["n"] (aD AG):=aJ
theorem OK:aH ["partners","one","other"] ["partners","one","other"] (aD AH):=aJ
theorem OL:aH ["picture","sign"] ["picture","sign"] (aD AI):=aJ
theorem OM:aH ["picture","left","sign","right","partners"] ["picture","left","sign"] (aD AJ):=aJ
theorem ON:aH ["n","row","pictures","crossing","sign","left","p"] ["n","row"] (aD AK):=aJ
theorem OO:aH ["n","picture","walked","loops","start","end"] ["n","picture"] (aD AL):=aJ
theorem OP:aH ["most","powers","last","x","y"] ["most"] (aD AM):=aJ
theorem OQ:aH ["n","row","most","numbers","powers","picture","power","least","i","number"] ["n","row"] (aD AN):=aJ
theorem OR:aH ["braid"] ["braid"] (aD AO):=aJ
theorem OS:aH ["a","b"] ["a","b"] (aD AQ):=aJ
theorem OT:aH ["n"] ["n"] (aD AR):=aJ
theorem OU:aH ["braid","factor"] ["braid"] (aD AS):=aJ
theorem OV:aH ["braid"] ["braid"] (aD AU):=aJ
theorem OW:aH ["braid","twist","row","factor","crossing"] ["braid"] (aD AV):=aJ
theorem OX:aH ["braid"] ["braid"] (aD AW):=aJ
theorem OY:aH ["braid","reached","factor"] ["braid"] (aD AX):=aJ
theorem OZ:aH ["reached","walked","loops","start","place"] ["reached"] (aD AY):=aJ
theorem O0:aH ["n","row","crossing"] ["n","row"] (aD AZ):=aJ
theorem O1:aH ["n","row","longest"] ["n","row","longest"] (aD A3):=aJ
theorem O2:aH ["a","b"] ["a","b"] (aD A4):=aJ
theorem O3:aH ["book","call","n","row","refusal"] ["book","call"] (aD A5):=aJ
theorem O4:aH ["book","call","a","b","refusal"] ["book","call"] (aD A6):=aJ
theorem O5:aH ["book","call","a"] ["book","call"] (aD A7):=aJ
theorem O6:aH ["book","call","a","exponent"] ["book","call"] (aD A8):=aJ
theorem O7:aH ["book","call","a","b","refusal"] ["book","call"] (aD A9):=aJ
theorem O8:aH ["book","call","a","cycled"] ["book","call"] (aD A_):=aJ
theorem O9:aH ["book","call","a","b"] ["book","call"] (aD Ba):=aJ
theorem O_:aH ["book","call","a","b","refusal"] ["book","call"] (aD Bb):=aJ
theorem Pa:aH ["book","call","a","answer","factor"] ["book","call"] (aD Bc):=aJ
theorem Pb:aH ["book","call","a"] ["book","call"] (aD Be):=aJ
theorem Pd:aH ["book","call","a","reached"] ["book","call"] (aD Bf):=aJ
theorem Pf:aH ["book","call","n","row","refusal"] ["book","call"] (aD Bg):=aJ
theorem Pg:aH ["book","call","answer"] ["book","call"] (aD Bh):=aJ
theorem Ph:aH ["call","a"] ["call"] (aD Bj):=aJ
theorem Pj:aH ["call"] ["call"] (aD Bk):=aJ
theorem Pk:aH ["call"] ["call"] (aD Bl):=aJ
theorem Pl:aH ["call"] ["call"] (aD Bm):=aJ
theorem Pn:aH ["call"] ["call"] (aD Bn):=aJ
theorem Po:aH ["call"] ["call"] (aD Bo):=aJ
theorem Pp:aH ["call","a","starting","ending"] ["call"] (aD Bp):=aJ
theorem Pq:aH ["call"] ["call"] (aD Bq):=aJ
theorem Pr:aH ["call"] ["call"] (aD Br):=aJ
theorem Pt:aH ["call"] ["call"] (aD Bs):=aJ
theorem Pu:aH ["call"] ["call"] (aD Bt):=aJ
theorem Pw:aH ["call","n"] ["call"] (aD Bu):=aJ
theorem Px:aH ["call"] ["call"] (aD Bv):=aJ
theorem Py:aH ["call","row"] ["call"] (aD Bw):=aJ
theorem Pz:aH ["call","answer"] ["call"] (aD Bx):=aJ
theorem PB:aH ["book","call"] ["book","call"] (aD By):=aJ
theorem PD:aH ["calls","reader","book","given","answer"] ["calls"] (aD Bz):=aJ
theorem PF:aH ["self","n","twists","factors"] ["self","n","twists","factors"] (aD BA):=aJ
theorem PH:aH ["self","partners","loops","exponent"] ["self","partners","loops","exponent"] (aD BC):=aJ
theorem PJ:aH ["self"] ["self"] (aD BD):=aJ
theorem PL:aH ["self","place"] ["self","place"] (aD BE):=aJ
theorem PM:aH ["self","place"] ["self","place"] (aD BF):=aJ
theorem PN:aH ["self","place","braid"] ["self","place","braid"] (aD BG):=aJ
theorem PQ:aH ["self","number","numbers","rows"] ["self","number","numbers","rows"] (aD BH):=aJ
theorem PR:aH ["self","calls"] ["self","calls"] (aD BI):=aJ
theorem PU:aH ["self"] ["self"] (aD BJ):=aJ
theorem PV:aH ["self","number"] ["self"] (aD BL):=aJ
theorem PX:aH ["self","how_many","start"] ["self","how_many"] (aD BM):=aJ
theorem PY:aH ["self","number","shape","numbers","rows","how_many"] ["self"] (aD BN):=aJ
structure Txt(K:PySem.W.Frag)(mg:Str->Option Value) where
 kJ:mg "abs"=none
 BO:mg "all"=none
 vC:mg "enumerate"=none
 cW:mg "len"=none
 gB:mg "list"=none
 GN:mg "max"=none
 BP:mg "min"=none
 cH:mg "range"=none
 vD:mg "reversed"=none
 GO:mg "sorted"=none
 GP:mg "sum"=none
 GQ:mg "zip"=none
 BQ:∃t,mg "BOOK_PLACES"=some (.int (16) t)
 dw:∃t,mg "DONE"=some (.int (0) t)
 lW:∃t,mg "EMPTY"=some (.int (-4) t)
 GR:∃t,mg "FEWEST_STRANDS"=some (.int (2) t)
 GS:∃t,mg "FIRST_BRAID_CALL"=some (.int (13) t)
 GU:∃t,mg "GREATEST_EXPONENT"=some (.int (8) t)
 BR:∃t,mg "LONGEST_ROW"=some (.int (100) t)
 GV:∃t,mg "LONGEST_ROW_OF_STATES"=some (.int (10) t)
 GW:∃t,mg "LONGEST_ROW_TOLD"=some (.int (5000) t)
 GX:∃t,mg "MARGIN"=some (.int (16) t)
 GY:∃t,mg "MOST_FACTORS"=some (.int (60) t)
 GZ:∃t,mg "MOST_STRANDS_OF_STATES"=some (.int (6) t)
 G0:∃t,mg "MOST_TWISTS"=some (.int (100) t)
 gC:∃t,mg "NOT_RIGHT"=some (.int (-1) t)
 G1:∃t,mg "OTHER_STRANDS"=some (.int (-2) t)
 de:∃t,mg "PLACES"=some (.int (16) t)
 qd:∃t,mg "TOO_LARGE"=some (.int (-3) t)
 BS:Int->Option V
 G2:sT K mg "SHAPES" BS
 shapes:∀k a b,PyWqaraq.shape k=some (a,b)->∃t,BS k=some (.ref t)/\∀H,fv K H t [.int (a:Nat),.int (b:Nat)]
 gQ:Int->Option V
 G3:sT K mg "ANSWERS" gQ
 gR:Int->Option V
 G4:sT K mg "BRAID_ANSWERS" gR
 iU:Addr
 aZ:fW K iU
 lX:mg "Braid"=some (.ref iU)
 dy:eV K iU "n"
 ez:eV K iU "twists"
 eO:eV K iU "factors"
 jw:Addr
 gh:fW K jw
 sU:mg "Picture"=some (.ref jw)
 n8:eV K jw "partners"
 qe:eV K jw "loops"
 qf:eV K jw "exponent"
 e7:Addr
 dh:fW K e7
 G5:mg "Book"=some (.ref e7)
 vE:eV K e7 "braids"
 kK:Addr
 kL:fW K kK
 G6:mg "Call"=some (.ref kK)
 sV:eV K kK "number"
 BU:eV K kK "numbers"
 vF:eV K kK "rows"
 e8:Addr
 e9:fW K e8
 G7:mg "Reader"=some (.ref e8)
 sW:eV K e8 "calls"
 lY:eV K e8 "at"
 qg:Df K mg "is_strand_count" zX ["n"]
 sX:Df K mg "is_right" zY ["a","n"]
 kM:Df K mg "first_then" zZ ["a","b"]
 kN:Df K mg "taken_back" z4 ["a"]
 lZ:Df K mg "half_twist" z5 ["n"]
 sY:Df K mg "missing_to_half_twist" z6 ["n","a"]
 qh:Df K mg "seen_from_behind" z7 ["n","a"]
 sZ:Df K mg "crossing_pairs_count" z8 ["a"]
 s_:Df K mg "crossing_neighbours_sum" z9 ["a"]
 begins:Df K mg "begins" z_ ["a","b"]
 vG:Df K mg "number_of" Aa ["n","a"]
 numbered:Df K mg "numbered" Ab ["number","n"]
 qi:Df K mg "exchange" Ac ["values","i"]
 qj:Df K mg "row_of" Ad ["a"]
 followed:Df K mg "followed" Ae ["row"]
 qk:Df K mg "turned_by" Af ["n","a","twists"]
 n9:Df K mg "is_without_crossings" Ag ["a"]
 tf:Df K mg "hand_over" Ah ["factors","at"]
 kH:Df K mg "take_in" Ai ["n","factors","factor"]
 tj:Df K mg "without_beginning" Aj ["factors","beginning"]
 vH:Df K mg "is_too_large" Ak ["braid"]
 l6:Df K mg "product_of" Al ["a","b"]
 n_:Df K mg "inverse_of" Am ["a"]
 vI:Df K mg "power_of" An ["a","exponent"]
 ql:Df K mg "braid_of_factor" Ao ["n","factor"]
 vJ:Df K mg "braid_of_crossing" Ap ["n","crossing"]
 tm:Df K mg "braid_of_row" Aq ["n","row"]
 vK:Df K mg "cycled_by_first" Au ["a"]
 vL:Df K mg "cycled_by_last" Av ["a"]
 vM:Df K mg "crossed_in_either" Aw ["a","b"]
 close:Df K mg "close" Ax ["crossed"]
 vN:Df K mg "add_crossings" Ay ["crossed_with","more"]
 vO:Df K mg "place_reached" Az ["crossed","i"]
 tq:Df K mg "join_of" AA ["a","b"]
 tu:Df K mg "meet_of" AB ["a","b"]
 vP:Df K mg "braid_begins" AD ["a","b"]
 tz:Df K mg "factors_above" AE ["a","twists"]
 vQ:Df K mg "greatest_beginning" AF ["a","b"]
 vR:Df K mg "picture_without_crossings" AG ["n"]
 connect:Df K mg "connect" AH ["partners","one","other"]
 vS:Df K mg "straight" AI ["picture","sign"]
 vT:Df K mg "bent" AJ ["picture","left","sign"]
 vU:Df K mg "pictures_of" AK ["n","row"]
 vV:Df K mg "loops_when_joined" AL ["n","picture"]
 vW:Df K mg "powers_of_loop" AM ["most"]
 vX:Df K mg "polynomial_of" AN ["n","row"]
 rank:Df K mg "rank" AO ["braid"]
 vY:Df K mg "compared" AQ ["a","b"]
 tE:Df K mg "crossings_of_half_twist" AR ["n"]
 tH:Df K mg "crossings_of_factors" AS ["braid"]
 lT:Df K mg "row_length" AU ["braid"]
 vZ:Df K mg "row_of_form" AV ["braid"]
 v_:Df K mg "above_less_below" AW ["braid"]
 wa:Df K mg "places_reached" AX ["braid"]
 wb:Df K mg "loops_of" AY ["reached"]
 wc:Df K mg "are_crossings" AZ ["n","row"]
 tI:Df K mg "refusal_of_row" A3 ["n","row","longest"]
 qm:Df K mg "refusal_of_two" A4 ["a","b"]
 oa:Df K mg "answer_set" A5 ["book","call"]
 og:Df K mg "answer_times" A6 ["book","call"]
 oh:Df K mg "answer_inverse" A7 ["book","call"]
 oi:Df K mg "answer_power" A8 ["book","call"]
 oj:Df K mg "answer_greatest" A9 ["book","call"]
 om:Df K mg "answer_cycle" A_ ["book","call"]
 oo:Df K mg "answer_order" Ba ["book","call"]
 oq:Df K mg "answer_starts" Bb ["book","call"]
 ot:Df K mg "answer_form" Bc ["book","call"]
 ou:Df K mg "answer_row" Be ["book","call"]
 ow:Df K mg "answer_told" Bf ["book","call"]
 ox:Df K mg "answer_states" Bg ["book","call"]
 wd:Df K mg "answer_braid_call" Bh ["book","call"]
 kO:Df K mg "all_right" Bj ["call"]
 qo:Df K mg "right_for_told" Bk ["call"]
 oy:Df K mg "answer_then" Bl ["call"]
 oz:Df K mg "answer_back" Bm ["call"]
 oA:Df K mg "answer_rest" Bn ["call"]
 oB:Df K mg "answer_turned" Bo ["call"]
 oC:Df K mg "answer_facts" Bp ["call"]
 oE:Df K mg "answer_begins" Bq ["call"]
 oF:Df K mg "answer_meet" Br ["call"]
 oG:Df K mg "answer_join" Bs ["call"]
 oH:Df K mg "answer_number" Bt ["call"]
 oI:Df K mg "answer_numbered" Bu ["call"]
 oJ:Df K mg "answer_word" Bv ["call"]
 oK:Df K mg "answer_follow" Bw ["call"]
 we:Df K mg "answer_permutation_call" Bx ["call"]
 wg:Df K mg "answer_to" By ["book","call"]
 answers:Df K mg "answers" Bz ["calls"]
 j2:Di K iU "Braid.__init__" BA ["self","n","twists","factors"]
 oM:Di K jw "Picture.__init__" BC ["self","partners","loops","exponent"]
 tJ:Di K e7 "Book.__init__" BD ["self"]
 tK:Dm K e7 "has_place" "Book.has_place" BE ["self","place"]
 gj:Dm K e7 "braid_at" "Book.braid_at" BF ["self","place"]
 kP:Dm K e7 "put" "Book.put" BG ["self","place","braid"]
 wj:Di K kK "Call.__init__" BH ["self","number","numbers","rows"]
 wk:Di K e8 "Reader.__init__" BI ["self","calls"]
 wm:Dm K e8 "is_done" "Reader.is_done" BJ ["self"]
 tM:Dm K e8 "take_number" "Reader.take_number" BL ["self"]
 tN:Dm K e8 "take_numbers" "Reader.take_numbers" BM ["self","how_many"]
 wo:Dm K e8 "take_call" "Reader.take_call" BN ["self"]
 G8:gQ 1=some (.ref oy.f)
 G9:gQ 2=some (.ref oz.f)
 G_:gQ 3=some (.ref oA.f)
 Ha:gQ 4=some (.ref oB.f)
 Hb:gQ 5=some (.ref oC.f)
 Hc:gQ 6=some (.ref oE.f)
 Hd:gQ 7=some (.ref oF.f)
 He:gQ 8=some (.ref oG.f)
 Hf:gQ 9=some (.ref oH.f)
 Hg:gQ 10=some (.ref oI.f)
 Hh:gQ 11=some (.ref oJ.f)
 Hi:gQ 12=some (.ref oK.f)
 Hj:gR 13=some (.ref oa.f)
 Hk:gR 14=some (.ref og.f)
 Hl:gR 15=some (.ref oh.f)
 Hm:gR 16=some (.ref oi.f)
 Hn:gR 17=some (.ref oj.f)
 Ho:gR 18=some (.ref om.f)
 Hq:gR 19=some (.ref oo.f)
 Hr:gR 20=some (.ref oq.f)
 Ht:gR 21=some (.ref ot.f)
 Hu:gR 22=some (.ref ou.f)
 Hv:gR 23=some (.ref ow.f)
 Hw:gR 24=some (.ref ox.f)
end BK
end
section
namespace L2
open PySem PySem.Spec PyProof.Rows
section
variable{X:Cx}
theorem j3{K:PySem.W.Frag}(h:X.K=K):uK X (jf K):=by subst h;exact DH
theorem Hx{K:PySem.W.Frag}{e:Expr}{ta:TE}{f:Str}{pos:Pos}(h:X.K=K)(he:PE X e ta)(hb:attributeBase e f X.env (eval e X.env)=eval e X.env):PE X (.Attribute e f pos) (jd K ta f):=by subst h;exact Ds he hb
def tO:List V->Hp->VK->Prop:=fun xs H Q=>∃r lo hi,xs=[.ref r]/\H r=some (.ke lo hi)/\(-(2 ^ 62)<=lo/\lo<2 ^ 62/\ -(2 ^ 62)<=hi/\hi<2 ^ 62)/\(hi - lo).toNat<=sizeLine/\∀l,H l=none->Q (.ref l) (upd H l (.lst (lV lo (hi - lo).toNat)))
theorem j4(hc:X.calm=true):i_ X (.type "list") tO:=NW hc
end
end L2
namespace L2
open PySem PySem.Spec PyProof.Rows
def oN(g:TG)(tt:TT)(te:TE)(vs:List Nat)(σ:L2.St)(Q:VK)(J:It)(H1:Hp):Prop:=∀D,H1 D=none->∃W:Nat->Nat->Hp->Prop,(∃m,W 0 m (upd H1 D (.lst [])))/\∀i m H,W i m H->
 (J.stop i H/\Q (.ref D) H)\/(J.go i H/\∃Nx:Hp->Prop,(∀H',Nx H'->∃m',m'<m/\W (i+1) m' H')/\∀x H',J.iE i H x H'->g x (wipe σ vs) H' fun σ2 H2=>wipe σ2 vs=wipe σ vs/\tt σ2 H2 fun b H3=>
  if b=true then te σ2 H3 fun y H4=>∃acc,H4 D=some (.lst acc)/\acc.length<sizeLine/\Nx (upd H4 D (.lst (acc++[y]))) else Nx H3)
theorem gS{wi:TI}{g:TG}{tt:TT}{te:TE}{vs:List Nat}{σ:L2.St}{H:Hp}{Q:VK}(h:wi σ H (oN g tt te vs σ Q)):rN wi g tt te vs σ H Q:=h
end L2
namespace BK
open PySem PySem.Spec PyProof.Rows L2 BB PySem.W
open Wqaraq (Perm Form)
abbrev Ls(H:Hp)(p:Addr)(a:List Nat):Prop:=H p=some (.lst (nv a))
abbrev Li(H:Hp)(p:Addr)(l:List Int):Prop:=H p=some (.lst (iv l))
def bB(H:Hp)(Q:VK)(xs:List V):Prop:=∀(H':Hp) (r:Addr),ag H H'->H r=none->H' r=some (.lst xs)->Q (.ref r) H'
def Val(H:Hp)(Q:VK)(v:V):Prop:=∀H':Hp,ag H H'->Q v H'
theorem small{n:Nat}(h:n<=100000):n<sizeLine:=Nat.lt_of_le_of_lt h (by rw[sizeLine_eq];decide)
theorem ck{n:Nat}(h:n<=100000):n<=sizeLine:=Nat.le_of_lt (small h)
theorem kQ{a:List Nat}{j:Nat}(h:j<a.length):(nv a)[j]?=some (.int ((Wqaraq.at_ a j:Nat):Int)):=by
 unfold nv
 rw[bX,bu h,kE h];rfl
theorem cZ{a:List Nat}{z:Int}{j:Nat}(e:z=(j:Int))(h:j<a.length):gM (nv a) z=some (.int ((Wqaraq.at_ a j:Nat):Int)):=at_of e (kQ h)
theorem Hy{a:List Int}{j:Nat}{v:Int}(h:a[j]?=some v):(iv a)[j]?=some (.int v):=by
 unfold iv;rw[bX,h];rfl
theorem BV{a:List Int}{z:Int}{j:Nat}{v:Int}(e:z=(j:Int))(h:a[j]?=some v):gM (iv a) z=some (.int v):=at_of e (Hy h)
theorem d5{n:Nat}{z:Int}{j:Nat}(e:z=(j:Int))(h:j<n):jP n z=some j:=by
 unfold jP;rw[af (by omega),af (by omega)];congr 1;omega
theorem l7{a:List Nat}{j v:Nat}:(nv a).set j (.int ((v:Nat):Int))=nv (a.set j v):=by unfold nv;rw[List.map_set]
theorem PZ{a:List Int}{j:Nat}{v:Int}:(iv a).set j (.int v)=iv (a.set j v):=by unfold iv;rw[List.map_set]
theorem l8(a:List Nat):nv a=iv (fK a):=by unfold nv iv fK;rw[dq];rfl
theorem wq(a b:List Nat):nv (a++b)=nv a++nv b:=by unfold nv;rw[cN]
theorem wt(a b:List Int):iv (a++b)=iv a++iv b:=by unfold iv;rw[cN]
theorem P2(lo n:Nat):lV (lo:Int) n=nv (List.range' lo n):=by
 unfold lV nv
 rw[List.range'_eq_map_range,dq]
 refine gI fun k _=>?_
 show V.int ((lo:Int)+(k:Int))=V.int ((lo+k:Nat):Int)
 congr 1
theorem P4:Wqaraq.still=List.range 16:=by decide
theorem Hz{H1:Hp}{Q:VK}{lo hi:Int}{r:Addr}(i j:Nat)(e1:lo=(i:Int))(e2:hi=(j:Int))(hj:i<=100000/\j<=100000)(hr:H1 r=none)(k:bB H1 Q (nv (List.range' i (j - i)))):tO [V.ref r] (upd H1 r (.ke lo hi)) Q:=by
 refine⟨r,lo,hi,rfl,au,by omega,ck (by omega),fun l hl=>?_⟩
 refine k _ l ((ag.bA hr).upd ((ag.bA hr).free hl)) ((ag.bA hr).free hl) ?_
 rw[au,e1,e2,P2,show ((j:Int) - (i:Int)).toNat=j - i by omega]
theorem wx{σ:L2.St}{H:Hp}{Q:VK}{te:TE}{v:V}(j:Nat)(ev:v=.int j)(ht:∀Q',Q' v H->te σ H Q')(hj:j<=100000)(k:bB H Q (nv (List.range j))):nu tO (bQ (zR (bQ te b_)) b_) σ H Q:=by
 refine ht _ ⟨j,by rw[ev],fun r hr=>Hz 0 j rfl rfl ⟨by omega,hj⟩ hr ?_⟩
 rw[Nat.sub_zero,<-List.range_eq_range']
 exact k
theorem BW{σ:L2.St}{H:Hp}{Q:VK}{ta tb:TE}{va vb:V}(i j:Nat)(ea:va=.int i)(eb:vb=.int j)(ha:∀Q',Q' va H->ta σ H Q')(hb:∀Q',Q' vb H->tb σ H Q')(hj:i<=100000/\j<=100000)(k:bB H Q (nv (List.range' i (j - i)))):
  nu tO (bQ (GI (bQ ta (bQ tb b_))) b_) σ H Q:=
 ha _ (hb _ ⟨i,j,by rw[ea,eb],fun r hr=>Hz i j rfl rfl hj hr k⟩)
theorem tP{σ:L2.St}{H:Hp}{Q:VK}(k:bB H Q (nv Wqaraq.still)):nu tO (bQ (zR (bQ (tC (.int 16)) b_)) b_) σ H Q:=
 wx (v:=.int 16) 16 rfl (fun _ q=>q) (by decide) (by rw[<-P4];exact k)
theorem tQ{K:PySem.W.Frag}{H:Hp}{p:Addr}{ns:List Int}(h:ai K H p (iv ns)):Dp K H (.ref p) (.list (ns.map PyData.int)):=by
 refine .lst h ?_
 unfold iv
 clear h
 induction ns with
 |nil=>exact .nil
 |cons a r ih=>exact .cons (.int a) ih
theorem BX:∀(ns ms:List Int),PyData.eqv (.list (ns.map PyData.int)) (.list (ms.map PyData.int))=decide (ns=ms):=by
 intro ns ms
 rw[<-SeqAt.same_eq_eqv _ _ (SeqAt.noMix_of_shape (.list .int) rfl _ _ (list_map_has fun _=>rfl) (list_map_has fun _=>rfl)),ke_same]
theorem BY{K:PySem.W.Frag}{H:Hp}{Q:VK}{p q:Addr}{ns ms:List Int}(h1:ai K H p (iv ns))(h2:ai K H q (iv ms))(k:Q (.bl (decide (ns=ms))) H):xO K (.ref p) (.ref q) H Q:=
 ⟨_,_,tQ h1,tQ h2,ke_shaped_ints _,ke_shaped_ints _,by rw[BX];exact k⟩
theorem P5{K:PySem.W.Frag}{H:Hp}{Q:VK}{p q:Addr}{ns ms:List Int}(h1:ai K H p (iv ns))(h2:ai K H q (iv ms))(k:Q (.bl (!decide (ns=ms))) H):xP K (.ref p) (.ref q) H Q:=
 ⟨_,_,tQ h1,tQ h2,ke_shaped_ints _,ke_shaped_ints _,by rw[BX];exact k⟩
theorem BZ{K:PySem.W.Frag}{H:Hp}{Q:VK}{p q:Addr}{a b:List Nat}(h1:Ls H p a)(h2:Ls H q b)(k:Q (.bl (decide (a=b))) H):xO K (.ref p) (.ref q) H Q:=by
 refine BY (ns:=fK a) (ms:=fK b) (ai.of (by rw[<-l8];exact h1)) (ai.of (by rw[<-l8];exact h2)) ?_
 rw[show decide (fK a=fK b)=decide (a=b) from gu.mpr ⟨yN,fun e=>by rw[e]⟩]
 exact k
theorem P6{K:PySem.W.Frag}{H:Hp}{Q:VK}{p q:Addr}{a b:List Nat}(h1:Ls H p a)(h2:Ls H q b)(k:Q (.bl (!decide (a=b))) H):xP K (.ref p) (.ref q) H Q:=by
 refine P5 (ns:=fK a) (ms:=fK b) (ai.of (by rw[<-l8];exact h1)) (ai.of (by rw[<-l8];exact h2)) ?_
 rw[show decide (fK a=fK b)=decide (a=b) from gu.mpr ⟨yN,fun e=>by rw[e]⟩]
 exact k
theorem yes{σ:L2.St}{H:Hp}{A:Hp->Prop}{B:Hp->Prop}(h:A H):DW σ H fun b H3=>if b=true then A H3 else B H3:=by
 show if true=true then A H else B H
 exact fY h
theorem jx{Q:VK}{H:Hp}{a b:Int}(h:Q (.int a) H)(e:b=a):Q (.int b) H:=by rw[e];exact h
theorem h_{Q:VK}{H:Hp}{a b:Bool}(h:Q (.bl a) H)(e:b=a):Q (.bl b) H:=by rw[e];exact h
theorem B3{a:Perm}(h:aw a):(nv a).length=16:=by rw[cG,h.len]
theorem tR{r:List V->Hp->VK->Prop}{te:TE}{σ:L2.St}{H:Hp}{Q:VK}(h:te σ H fun x H1=>r [x] H1 Q):nu r (bQ te b_) σ H Q:=h
theorem bG{te:TE}{tr:TA}{σ:L2.St}{H:Hp}{Q:List V->Hp->Prop}(h:te σ H fun x H1=>tr σ H1 fun xs H2=>Q (x::xs) H2):bQ te tr σ H Q:=h
theorem bY{i:Nat}{v:V}{σ:L2.St}{H:Hp}{Q:L2.St->Hp->Prop}(h:Q (σ.set i (some v)) H):dt i v σ H Q:=h
theorem aQ{t u:TS}{D:Ends}{σ:L2.St}{H:Hp}(h:t {D with nx:=u D} σ H):kj t u D σ H:=h
theorem bz{te:TE}{g:TG}{D:Ends}{σ:L2.St}{H:Hp}(h:te σ H fun x H1=>g x σ H1 D.nx):lq te g D σ H:=h
theorem ic{r:R2}{ta tb:TE}{σ:L2.St}{H:Hp}{Q:VK}(h:ta σ H fun x H1=>tb σ H1 fun y H2=>r x y H2 Q):eK r ta tb σ H Q:=h
theorem a8{te:TE}{D:Ends}{σ:L2.St}{H:Hp}(h:te σ H D.rt):jH te D σ H:=h
theorem dE{c:TT}{t u:TS}{D:Ends}{σ:L2.St}{H:Hp}(h:c σ H fun b H1=>if b=true then t D σ H1 else u D σ H1):pC c t u D σ H:=h
theorem ig{t:TE}{σ:L2.St}{H:Hp}{Q:Bool->Hp->Prop}(h:t σ H fun x H'=>∃k,x=.bl k/\Q k H'):pF t σ H Q:=h
theorem oO{t:TT}{σ:L2.St}{H:Hp}{Q:Bool->Hp->Prop}(h:t σ H fun c H1=>Q (!c) H1):uy t σ H Q:=h
theorem P7{t u:TT}{σ:L2.St}{H:Hp}{Q:Bool->Hp->Prop}(h:t σ H fun c H1=>if c=true then Q true H1 else u σ H1 Q):CU t u σ H Q:=h
theorem HA{t u:TT}{σ:L2.St}{H:Hp}{Q:Bool->Hp->Prop}(h:t σ H fun c H1=>if c=true then u σ H1 Q else Q false H1):CT t u σ H Q:=h
theorem jy{t:TE}{σ:L2.St}{H:Hp}{Q:Bool->Hp->Prop}(h:t σ H fun x H1=>∃c,x=.bl c/\Q c H1):tB t σ H Q:=h
theorem bN{sp:Sp}{dvs:List V}{E:XK}{t:TA}{σ:L2.St}{H:Hp}{Q:VK}(h:t σ H fun vs H1=>sp (vs++dvs) H1 Q E):pG sp dvs E t σ H Q:=h
abbrev B_(g:TG)(tt:TT)(te:TE)(vs:List Nat)(σ:L2.St)(H':Hp)(x:V)(p:Bool)(y:V):Prop:=∀(R:V->Hp->Prop) (Nx:Hp->Prop),(p=true->∀H'',ag H' H''->R y H'')->(p=false->∀H'',ag H' H''->Nx H'')->
 g x (wipe σ vs) H' fun σ2 H2=>wipe σ2 vs=wipe σ vs/\tt σ2 H2 fun b H3=>if b=true then te σ2 H3 R else Nx H3
theorem qp{α:Type}{K:PySem.W.Frag}{a:Addr}{l:List α}{em:α->V}{g:TG}{tt:TT}{te:TE}{vs:List Nat}{σ:L2.St}{H:Hp}{Q:VK}(p:α->Bool)(f:α->V)
  (hq:ai K H a (l.map em))(hl:l.length<=100000)(hs:∀(x:α) (H':Hp),x∈l->ag H H'->B_ g tt te vs σ H' (em x) (p x) (f x))(k:bB H Q ((l.filter p).map f)):oN g tt te vs σ Q (jJ K a) H:=fun D hD=>
 GH p f hq (small hl) hD hs fun H' s h=>k H' D s hD h
theorem wy{lo:Int}{n:Nat}{g:TG}{tt:TT}{te:TE}{vs:List Nat}{σ:L2.St}{H:Hp}{Q:VK}(p:Nat->Bool)(f:Nat->V)
  (hl:n<=100000)(hs:∀(i:Nat) (H':Hp),i<n->ag H H'->B_ g tt te vs σ H' (.int (lo+i)) (p i) (f i))(k:bB H Q (((List.range n).filter p).map f)):oN g tt te vs σ Q (jK lo n) H:=fun D hD=>
 zP p f (small hl) hD hs fun H' s h=>k H' D s hD h
theorem tT{α:Type}(l:List α):l.filter (fun _=>true)=l:=qX.mpr fun _ _=>rfl
theorem Ca{xs:List V}{z:Int}(i:Nat)(e:z=(i:Int)):cU xs (some z) none=xs.drop i:=by
 subst e
 unfold cU
 rw[HT.xJ,HT.uJ]
 by_cases h:i<=xs.length
 ·rw[Nat.min_eq_left h]
  exact oY (by rw[List.length_drop];exact aX _)
 ·rw[Nat.min_eq_right (by omega),List.drop_length,List.take_nil,q_ (by omega)]
theorem tU{xs:List V}{z:Int}(j:Nat)(e:z=(j:Int)):cU xs none (some z)=xs.take j:=by
 subst e
 unfold cU
 rw[HT.xJ,HT.uJ,List.drop_zero,Nat.sub_zero]
 by_cases h:j<=xs.length
 ·rw[Nat.min_eq_left h]
 ·rw[Nat.min_eq_right (by omega),gU,oY (by omega)]
theorem HB{xs:List V}{y z:Int}(i j:Nat)(e1:y=(i:Int))(e:z=(j:Int)):cU xs (some y) (some z)=(xs.take j).drop i:=by
 subst e1 e
 unfold cU
 rw[HT.uJ,HT.uJ]
 rw[<-List.drop_take]
 by_cases h:i<=xs.length
 ·rw[Nat.min_eq_left h]
  by_cases h2:j<=xs.length
  ·rw[Nat.min_eq_left h2]
  ·rw[Nat.min_eq_right (by omega),gU,oY (by omega)]
 ·rw[Nat.min_eq_right (by omega),q_ (by rw[dz];omega),q_ (by rw[dz];omega)]
theorem P8{xs:List V}:cU xs none (some (-1))=xs.dropLast:=by
 unfold cU
 rw[HT.xJ,List.drop_zero,Nat.sub_zero]
 have:HT.fG xs.length xs.length (some (-1))=xs.length - 1:=by
  show (if (-1:Int)<0 then ((-1:Int)+(xs.length:Int)).toNat else min (-1:Int).toNat xs.length)=_
  rw[af (by decide)];omega
 rw[this,List.dropLast_eq_take]
theorem HC(a:List Nat)(i:Nat):nv (a.drop i)=(nv a).drop i:=by unfold nv;rw[List.map_drop]
theorem Cb(a:List Nat)(i:Nat):nv (a.take i)=(nv a).take i:=by unfold nv;rw[List.map_take]
theorem HD(a:List Int)(i:Nat):iv (a.drop i)=(iv a).drop i:=by unfold iv;rw[List.map_drop]
theorem HE(a:List Int)(i:Nat):iv (a.take i)=(iv a).take i:=by unfold iv;rw[List.map_take]
theorem P9{a:Perm}(ha:aw a){i:Nat}{x:V}(h:(nv a)[i]?=some x):i<16/\x=V.int ((Wqaraq.at_ a i:Nat):Int):=by
 have hi:i<16:=by have:=(dP.mp h).1;rwa[cG,ha.len]at this
 rw[kQ (by rw[ha.len];exact hi)]at h
 exact⟨hi,(bo h).symm⟩
theorem aS{b:Bool}{A B:Prop}(h1:b=true->A)(h2:b=false->B):if b=true then A else B:=by
 cases b with
 |true=>exact fY (h1 rfl)
 |false=>exact dH (h2 rfl)
end BK
end
section
namespace BK
open PySem PySem.Spec PyProof.Rows L2
section
variable{X:Cx}{e e1 e2 e3 e4 o a b:Expr}{es:List Expr}{te t1 t2 t3 t4 ta tb to:TE}{t:TA}{x m:Str}{st:Stmt}{ps:List Str}{k n:Nat}{sp:Sp}{p pos apos cpos:Pos}{C:Addr}{q:Str}
theorem ak(a:PE X e1 t1)(h:starEach [e1] X.env=(false,eval e1 X.env)::starEach [] X.env:=by rfl):PA X [e1] (bQ t1 b_):=jL a gK h
theorem aR(a:PE X e1 t1)(b:PE X e2 t2)(h:starEach [e1,e2] X.env=(false,eval e1 X.env)::starEach [e2] X.env:=by rfl)(h2:starEach [e2] X.env=(false,eval e2 X.env)::starEach [] X.env:=by rfl):PA X [e1,e2] (bQ t1 (bQ t2 b_)):=jL a (ak b h2) h
theorem dk(a:PE X e1 t1)(b:PE X e2 t2)(c:PE X e3 t3)(h:starEach [e1,e2,e3] X.env=(false,eval e1 X.env)::starEach [e2,e3] X.env:=by rfl)(h2:starEach [e2,e3] X.env=(false,eval e2 X.env)::starEach [e3] X.env:=by rfl)(h3:starEach [e3] X.env=(false,eval e3 X.env)::starEach [] X.env:=by rfl):PA X [e1,e2,e3] (bQ t1 (bQ t2 (bQ t3 b_))):=jL a (aR b c h2 h3) h
abbrev Df.Ok{K:PySem.W.Frag}{mg:Str->Option Value}(D:Df K mg x st ps)(P:Program)(w:World)(base:Heap)(k:Nat)(sp:Sp):Prop:=d8 P w K mg base gX k D.f D.fd ps sp
abbrev Dm.Ok{K:PySem.W.Frag}(mg:Str->Option Value)(D:Dm K C x q st ps)(P:Program)(w:World)(base:Heap)(k:Nat)(sp:Sp):Prop:=d8 P w K mg base gX k D.f D.fd ps sp
abbrev Di.Ok{K:PySem.W.Frag}(mg:Str->Option Value)(D:Di K C q st ps)(P:Program)(w:World)(base:Heap)(k:Nat)(sp:Sp):Prop:=d8 P w K mg base gX k D.f D.fd ps sp
theorem Df.c(D:Df X.K X.mg x st ps)(F:d8 X.prog X.w X.K X.mg X.base gX k D.f D.fd ps sp)(hr:cy n X.A)(ha:PA X (e::es) t)(le:k<=n:=by decide)(hg:Gl X x:=by rfl)(hdb:(x == ("__debug__":Str))=false:=by decide)(he:starEach (e::es) X.env=(false,eval e X.env)::starEach es X.env:=by rfl)(hpl:(backTo pos (starEach es X.env)).any (·.1)=false:=by rfl):
  PE X (.Call (.Name x p) (e::es) [] pos) (pG sp [] E0 t):=KN F (hr.mono le) hg D.m D.F.kp D.b .nil nz ha hdb he hpl
theorem Di.c(D:Di X.K C q st ps)(F:d8 X.prog X.w X.K X.mg X.base gX k D.f D.fd ps sp)(hr:cy n X.A)(hm:X.mg x=some (.ref C))(ha:PA X (e::es) t)(le:k+1<=n:=by decide)(hg:Gl X x:=by rfl)(hdb:(x == ("__debug__":Str))=false:=by decide)(he:starEach (e::es) X.env=(false,eval e X.env)::starEach es X.env:=by rfl)(hpl:(backTo pos (starEach es X.env)).any (·.1)=false:=by rfl):
  PE X (.Call (.Name x p) (e::es) [] pos) (uH C sp [] E0 t):=KQ D.GL F (hr.mono le) hg hm D.b .nil nz ha hdb he hpl
theorem Dm.c{pl:Sem Bool}(D:Dm X.K C m q st ps)(F:d8 X.prog X.w X.K X.mg X.base gX k D.f D.fd ps sp)(hr:cy n X.A)(c:fW X.K C)(he:PE X o ta)(ha:PA X (e::es) t)(le:k<=n:=by decide)
  (hst:starEach (e::es) X.env=(false,eval e X.env)::starEach es X.env:=by rfl)(hpl:(backTo pos (starEach es X.env)).any (·.1)=false:=by rfl)
  (ht:eval (.Call (.Attribute o m apos) (e::es) [] pos) X.env=(do
   let ov <-eval o X.env
   standAt apos.atName
   let (f,first) <-holding [ov] (getMethod ov m pl)
   callWith pos f first (backTo pos (starEach (e::es) X.env)) (backToKw pos (keywordEach [] X.env))):=by rfl):
  PE X (.Call (.Attribute o m apos) (e::es) [] pos) (jN C m sp [] E0 ta t):=KO he c D.me F (hr.mono le) D.b .nil nz ha hst hpl ht
theorem Dm.c0{pl:Sem Bool}(D:Dm X.K C m q st ps)(F:d8 X.prog X.w X.K X.mg X.base gX k D.f D.fd ps sp)(hr:cy n X.A)(c:fW X.K C)(he:PE X o ta)(le:k<=n:=by decide)
  (ht:eval (.Call (.Attribute o m apos) [] [] pos) X.env=(do
   let ov <-eval o X.env
   standAt apos.atName
   let (f,first) <-holding [ov] (getMethod ov m pl)
   callWith pos f first (backTo pos (starEach [] X.env)) (backToKw pos (keywordEach [] X.env))):=by rfl):
  PE X (.Call (.Attribute o m apos) [] [] pos) (jN C m sp [] E0 ta b_):=KP he c D.me F (hr.mono le) D.b .nil nz ht
theorem sv(i:Nat){pos':Pos}(hN:X.N.Nodup)(he:PE X e te)(hi:X.N[i]?=some x:=by rfl)(hx:Loc X.env.scope x:=by first|exact Or.inl rfl|exact Or.inr rfl)(hs:swapsWith e (some (.Name x pos')) pos.line X.env=pure false:=by rfl)(hf:X.fn x=true\/X.env.scope.names.lookup x=some .local:=by first|exact .inl rfl|exact .inr rfl|assumption):
  PS X (.Assign [.Name x pos'] e pos) (lq te (dt i)):=Kg hN hi hx he hs hf
theorem gn(i:Nat)(hN:X.N.Nodup)(hi:X.N[i]?=some x:=by rfl)(hx:Loc X.env.scope x:=by first|exact Or.inl rfl|exact Or.inr rfl)(hf:X.fn x=true\/X.env.scope.names.lookup x=some .local:=by first|exact .inl rfl|exact .inr rfl|assumption):PG X (.Name x pos) (dt i):=eJ hN hi hx hf
theorem a5{op:CmpOp}{r:R2}(ho:cT X (compareOp op) r)(ha:PE X a ta)(hb:PE X b tb)(hm:behindInMarks op b=false:=by exact Dj _):PT X (.Compare a [op] [b] pos) (pF (eK r ta tb)):=Ku ho ha hb hm
theorem jz{op:CmpOp}{r:R2}(ho:cT X (compareOp op) r)(ha:PE X a ta)(hb:PE X b tb)(hm:behindInMarks op b=false:=by exact Dj _):PE X (.Compare a [op] [b] pos) (eK r ta tb):=Kt ho ha hb hm
theorem aM(ha:PE X a ta)(hb:PE X b tb)(hs:DF b:=by exact fun _ _=>rfl):PE X (.Subscript a b pos) (eK (jf X.K) ta tb):=gW DH ha hb hs
theorem c5(hm:X.mg "len"=none)(ha:PE X e te)(hg:Gl X "len":=by rfl)(he:starEach [e] X.env=(false,eval e X.env)::starEach [] X.env:=by rfl):PE X (.Call (.Name "len" p) [e] [] pos) (nu (fun xs H Q=>∃p ys,xs=[.ref p]/\(ai X.K H p ys\/fv X.K H p ys)/\Q (.int ys.length) H) (bQ te b_)):=fX Lc hg hm PySem.boot_len (ak ha he) (by decide) (by decide) he rfl
theorem ay(he:PE X e ta)(hb:attributeBase e x X.env (eval e X.env)=eval e X.env:=by rfl):PE X (.Attribute e x pos) (jd X.K ta x):=Ds he hb
theorem j5(ho:PE X o to)(ha:PE X e te)(hbase:attributeBase o "append" X.env (eval o X.env)=eval o X.env:=by rfl)(hline:(apos.endLine == cpos.line)=true:=by rfl)(hs:starEach [e] X.env=(false,eval e X.env)::starEach [] X.env:=by rfl):
  PE X (.Call (.Attribute o "append" apos) [e] [] cpos) (xM X.K "list" DN to (bQ te b_)):=uM xo PySem.F.slot_list_append PySem.F.type_list_append Lh ho (ak ha hs) hbase (by rw[hs];rfl) hline hs rfl
theorem Cc(ho:PE X o to)(ha:PE X e te)(hbase:attributeBase o "extend" X.env (eval o X.env)=eval o X.env:=by rfl)(hline:(apos.endLine == cpos.line)=true:=by rfl)(hs:starEach [e] X.env=(false,eval e X.env)::starEach [] X.env:=by rfl):
  PE X (.Call (.Attribute o "extend" apos) [e] [] cpos) (xM X.K "list" DO to (bQ te b_)):=uM xo PySem.F.slot_list_extend PySem.F.type_list_extend Lj ho (ak ha hs) hbase (by rw[hs];rfl) hline hs rfl
end
end BK
end
section
namespace L2
open PySem PySem.Spec PyProof.Rows
theorem P_{X:Cx}{K:PySem.W.Frag}(hK:X.K=K){es:List Expr}{k:Nat}{pos:Pos}{t:mB}{n:Nat}(hc:X.calm=true)(h:rn X es t)
  (hn:(assignEach es X.env).length=n:=by rfl)(hst:(assignEach es X.env).findIdx? (·.1)=none:=by rfl):PG X (.Tuple es k pos) (C5 K n t):=by subst hK;exact uC hc h hn hst
end L2
end
section
namespace BK
open PySem PySem.Spec PyProof.Rows L2 BB
open Wqaraq (Perm Form)
section
variable{P:Program}{w:World}{K:PySem.W.Frag}{mg:Str->Option Value}{base:Heap}
def Qa(T:Txt K mg):Sp:=fun vs H Q _=>∃n:Int,vs=[.int n]/\Val H Q (.bl (decide (2<=n)&&decide (n<=16)))
theorem Cd(T:Txt K mg):T.qg.Ok P w base 1 (Qa T):=by
 have S:=N3
 refine T.qg.F.ok S (by rintro _ _ _ _ ⟨n,rfl,_⟩;rfl) fun cdv A outer s H vs Q E hr h=>?_
 ·obtain⟨n,rfl,k⟩:=h
  refine⟨_,(ao (az (Dl rD rD (aN rfl T.GR) (pv 0) (aN rfl T.de)))),?_⟩
  refine⟨_,rfl,_,_,rfl,rfl,_,rfl,?_⟩
  refine aS (fun h1=>⟨_,_,rfl,rfl,?_⟩) (fun h1=>?_)
  ·have:=k H (ag.refl H)
   rw[h1,k5]at this
   exact this
  ·have:=k H (ag.refl H)
   rw[h1,Bool.false_and]at this
   exact this
def Qb(T:Txt K mg):Sp:=fun vs H Q _=>∃(p q:Addr) (a b:Perm),vs=[.ref p,.ref q]/\Ls H p a/\Ls H q b/\aw a/\aw b/\bB H Q (nv (Wqaraq.then_ a b))
theorem Qc{a b:Perm}(ha:aw a):Wqaraq.then_ a b=a.map (Wqaraq.at_ b):=by
 refine dC (bJ _) (by rw[aE,ha.len]) fun i hi=>?_
 rw[cC hi,kE (show i<(a.map (Wqaraq.at_ b)).length by rw[aE,ha.len];exact hi),List.getElem_map,<-kE]
theorem Qd{a:Perm}(ha:aw a){x:Nat}(h:x∈a):x<16:=by
 obtain⟨i,hi,e⟩:=xn h
 rw[<-e,<-kE hi]
 exact ha.lt i (by rw[<-ha.len];exact hi)
theorem oP(T:Txt K mg):T.kM.Ok P w base 1 (Qb T):=by
 have S:=N5
 refine T.kM.F.ok S (by rintro _ _ _ _ ⟨p,q,a,b,rfl,_⟩;rfl) fun cdv A outer s H vs Q E hr h=>?_
 ·obtain⟨p,q,a,b,rfl,hp,hq,ha,hb,k⟩:=h
  refine⟨_,(ao (az (iM (own:=[("place",2)]) rfl S.nd (fF (pv 0)) (fI (by rfl)) (fun _ _ _ _ _=>(eJ (i:=2) S.nd rfl (Or.inl rfl))) (fun _ _ _ _ _=>iL) (fun _ _ _ _ _=>(gW (j3 (K:=K) rfl) (pv 1) (pv 2) (fun _ _=>rfl)))))),?_⟩
  refine⟨_,rfl,p,rfl,⟨_,ai.of hp⟩,fun D hD=>GH (l:=a) (em:=fun (x:Nat)=>V.int (x:Int)) (fun _=>true) (fun x=>V.int ((Wqaraq.at_ b x:Nat):Int)) (ai.of hp) (by rw[ha.len];exact small (by decide)) hD ?_ ?_⟩
  ·intro x H' hx s R Nx h1 h2
   refine⟨rfl,yes ?_⟩
   exact⟨_,rfl,_,rfl,q,_,_,_,rfl,rfl,ai.of (s _ _ hq),cZ rfl (by rw[hb.len];exact Qd ha hx),h1 rfl _ (ag.refl _)⟩
  ·intro H' s h
   refine k H' D s hD ?_
   rw[h,qX.mpr (fun _ _=>rfl),Qc ha]
   unfold nv
   rw[dq];rfl
def Qe(T:Txt K mg):Sp:=fun vs H Q _=>∃(p:Addr) (a:Perm),vs=[.ref p]/\Ls H p a/\aw a/\bB H Q (nv (Wqaraq.back a))
theorem Qg{a b:Perm}(ha:aw a)(hb:b.length=16)(h:∀i,i<16->Wqaraq.at_ b (Wqaraq.at_ a i)=i):b=Wqaraq.back a:=by
 refine dC hb (bJ _) fun v hv=>?_
 obtain⟨i,hi,rfl⟩:=ha.fJ v hv
 rw[h i hi,g6 ha hi]
theorem oQ(T:Txt K mg):T.kN.Ok P w base 1 (Qe T):=by
 have S:=N6
 refine T.kN.F.ok S (by rintro _ _ _ _ ⟨p,a,rfl,_⟩;rfl) fun cdv A outer s H vs Q E hr h=>?_
 ·obtain⟨p,a,rfl,hp,ha,k⟩:=h
  refine⟨_,(aj (sv 1 S.nd (gL (j4 rfl) rfl T.gB k6 (ak (mS rfl T.cH (ak (aN rfl T.de))))))
   (aj (c8 PassesOwn.never rfl (xY rfl T.vC (ak (pv 0))) (uC rfl (mC (gn 2 S.nd) (mC (gn 3 S.nd) uB))) (ao (fC (pv 2) (fB (pv 1) (pv 3) set_list))))
   (ao (az (pv 1))))),?_⟩
  refine tP fun H1 l s1 hl h1=>?_
  refine⟨_,rfl,p,_,rfl,ai.of (s1 _ _ hp),zQ (xs:=nv a) (fun i σ H'=>∃(v2 v3:Option V) (b:Perm),σ=[some (.ref p),some (.ref l),v2,v3]/\ag H H'/\H' l=some (.lst (nv b))/\b.length=16/\∀j,j<i->Wqaraq.at_ b (Wqaraq.at_ a j)=j)
   ⟨none,none,_,rfl,s1,h1,bJ _,fun j hj=>by omega⟩ (fun i σ H' _ ⟨_,_,_,_,s,_⟩=>ai.of (s _ _ hp)) ?_ ?_⟩
  ·rintro i x Tp σ H' hx ⟨v2,v3,b,rfl,s,hb,bl,hj⟩ hT
   have hi:i<16:=by have:=(dP.mp hx).1;rwa[B3 ha]at this
   have ex:x=V.int ((Wqaraq.at_ a i:Nat):Int):=by rw[kQ (by rw[ha.len];exact hi)]at hx;exact(bo hx).symm
   subst ex
   refine⟨Tp,_,rfl,fv.of au,rfl,_,_,rfl,_,_,rfl,rfl,?_⟩
   refine⟨_,rfl,_,rfl,_,rfl,l,_,_,Wqaraq.at_ a i,rfl,rfl,by rw[ax (a7 hb hT)];exact hb,d5 rfl (by rw[cG,bl];exact ha.lt i hi),?_⟩
   refine⟨_,_,b.set (Wqaraq.at_ a i) i,rfl,fun c o e=>?_,by rw[au,<-l7],by rw[gp];exact bl,fun j hj'=>?_⟩
   ·have nl:c≠l:=a7 e hl
    rw[ax nl,ax (a7 (s c o e) hT)]
    exact s c o e
   ·rw[jX (by rw[bl];exact ha.lt i hi)]
    by_cases q:j=i
    ·rw[q,af rfl]
    ·rw[ae (ha.ne (by omega) hi q)]
     exact hj j (by omega)
  ·rintro σ H' ⟨v2,v3,b,rfl,s,hb,bl,hj⟩
   rw[B3 ha]at hj
   refine⟨_,rfl,?_⟩
   rw[Qg ha bl hj]at hb
   exact k H' l s hl hb
def Qh(T:Txt K mg):Sp:=fun vs H Q _=>∃n:Nat,vs=[.int n]/\n<=16/\bB H Q (nv (Wqaraq.delta n))
theorem qr(T:Txt K mg):T.lZ.Ok P w base 1 (Qh T):=by
 have S:=N7
 refine T.lZ.F.ok S (by rintro _ _ _ _ ⟨n,rfl,_⟩;rfl) fun cdv A outer s H vs Q E hr h=>?_
 ·obtain⟨n,rfl,hn,k⟩:=h
  refine⟨_,(ao (az (iM (own:=[("i",1)]) rfl S.nd (iH rfl T.cH (ak (aN rfl T.de))) (fI (by rfl)) (fun _ _ _ _ _=>(eJ (i:=1) S.nd rfl (Or.inl rfl))) (fun _ _ _ _ _=>iL) (fun _ _ _ _ _=>(gJ (a5 gw (pv 1) (pv 0)) (aC cB (aC cB (pv 0) aq) (pv 1)) (pv 1)))))),?_⟩
  refine⟨16,rfl,by decide,by decide,fun D hD=>zP (lo:=0) (n:=16) (fun _=>true) (fun i=>V.int ((Wqaraq.at_ (Wqaraq.delta n) i:Nat):Int)) (small (by decide)) hD ?_ ?_⟩
  ·intro i H' hi s R Nx h1 h2
   refine⟨rfl,yes ?_⟩
   refine⟨_,rfl,_,rfl,_,_,rfl,rfl,_,rfl,?_⟩
   have e:=u6 (n:=n) hi
   refine aS (fun c=>?_) (fun c=>?_)
   ·have c:(0:Int)+(i:Int)<n:=a0 c
    refine⟨_,rfl,_,_,rfl,rfl,_,rfl,_,_,rfl,rfl,?_⟩
    have:=h1 rfl H' (ag.refl _)
    rw[e,af (by omega)]at this
    exact jx this (by omega)
   ·have c:¬(0:Int)+(i:Int)<n:=a_ c
    refine⟨_,rfl,?_⟩
    have:=h1 rfl H' (ag.refl _)
    rw[e,ae (by omega)]at this
    exact jx this (by omega)
  ·intro H' s h
   refine k H' D s hD ?_
   rw[h,qX.mpr (fun _ _=>rfl)]
   unfold nv Wqaraq.delta Wqaraq.made
   rw[dq]
   refine bO (fun z=>some (HO.lst z)) (gI fun i hi=>?_)
   show V.int ((Wqaraq.at_ (Wqaraq.delta n) i:Nat):Int)=_
   rw[u6 (a6.mp hi)];rfl
def Qi(T:Txt K mg):Sp:=fun vs H Q _=>∃(n:Nat) (p:Addr) (a:Perm),vs=[.int n,.ref p]/\n<=16/\Ls H p a/\aw a/\bB H Q (nv (Wqaraq.rest n a))
theorem HF(T:Txt K mg):T.sY.Ok P w base 2 (Qi T):=by
 have S:=N8
 refine T.sY.F.ok S (by rintro _ _ _ _ ⟨n,p,a,rfl,_⟩;rfl) fun cdv A outer s H vs Q E hr h=>?_
 ·obtain⟨n,p,a,rfl,hn,hp,ha,k⟩:=h
  refine⟨_,(ao (az (T.kM.c (oP T) hr (aR (T.kN.c (oQ T) hr (ak (pv 1))) (T.lZ.c (qr T) hr (ak (pv 0))))))),?_⟩
  refine⟨_,rfl,p,a,rfl,hp,ha,fun H1 r1 s1 f1 h1=>?_⟩
  refine⟨_,rfl,n,rfl,hn,fun H2 r2 s2 f2 h2=>?_⟩
  refine⟨r1,r2,_,_,rfl,s2 _ _ h1,h2,ha.back,(bV hn).aa,fun H3 r3 s3 f3 h3=>?_⟩
  exact k H3 r3 ((s1.trans s2).trans s3) ((s1.trans s2).free f3) h3
def Qj(T:Txt K mg):Sp:=fun vs H Q _=>∃(n:Nat) (p:Addr) (a:Perm),vs=[.int n,.ref p]/\n<=16/\Ls H p a/\Rt n a/\bB H Q (nv (Wqaraq.turned n a))
theorem Ce(T:Txt K mg):T.qh.Ok P w base 1 (Qj T):=by
 have S:=N9
 refine T.qh.F.ok S (by rintro _ _ _ _ ⟨n,p,a,rfl,_⟩;rfl) fun cdv A outer s H vs Q E hr h=>?_
 ·obtain⟨n,p,a,rfl,hn,hp,ha,k⟩:=h
  refine⟨_,(ao (az (iM (own:=[("i",2)]) rfl S.nd (iH rfl T.cH (ak (aN rfl T.de))) (fI (by rfl)) (fun _ _ _ _ _=>(eJ (i:=2) S.nd rfl (Or.inl rfl))) (fun _ _ _ _ _=>iL) (fun _ _ _ _ _=>(gJ (a5 gw (pv 2) (pv 0)) (aC cB (aC cB (pv 0) aq) (gW (j3 (K:=K) rfl) (pv 1) (aC cB (aC cB (pv 0) aq) (pv 2)) (fun _ _=>rfl))) (pv 2)))))),?_⟩
  refine⟨16,rfl,by decide,by decide,fun D hD=>zP (lo:=0) (n:=16) (fun _=>true) (fun i=>V.int ((Wqaraq.at_ (Wqaraq.turned n a) i:Nat):Int)) (small (by decide)) hD ?_ ?_⟩
  ·intro i H' hi s R Nx h1 h2
   refine⟨rfl,yes ?_⟩
   refine⟨_,rfl,_,rfl,_,_,rfl,rfl,_,rfl,?_⟩
   have e:Wqaraq.at_ (Wqaraq.turned n a) i=if i<n then n - 1 - Wqaraq.at_ a (n - 1 - i) else i:=gZ hi
   refine aS (fun c=>?_) (fun c=>?_)
   ·have c:(0:Int)+(i:Int)<n:=a0 c
    have lt:=ha.lt hn (show n - 1 - i<n by omega)
    refine⟨_,rfl,_,_,rfl,rfl,_,rfl,_,rfl,_,_,rfl,rfl,_,rfl,_,_,rfl,rfl,p,_,_,_,rfl,rfl,ai.of (s _ _ hp),cZ (j:=n - 1 - i) (by omega) (by rw[ha.aa.len];omega),_,_,rfl,rfl,?_⟩
    have:=h1 rfl H' (ag.refl _)
    rw[e,af (by omega)]at this
    exact jx this (by omega)
   ·have c:¬(0:Int)+(i:Int)<n:=a_ c
    refine⟨_,rfl,?_⟩
    have:=h1 rfl H' (ag.refl _)
    rw[e,ae (by omega)]at this
    exact jx this (by omega)
  ·intro H' s h
   refine k H' D s hD ?_
   rw[h,qX.mpr (fun _ _=>rfl)]
   unfold nv
   refine bO (fun z=>some (HO.lst z)) ?_
   have:Wqaraq.turned n a=(List.range 16).map (Wqaraq.at_ (Wqaraq.turned n a)):=(Em (bJ _)).symm
   conv=>rhs;rw[this,dq]
   rfl
def Qk(T:Txt K mg):Sp:=fun vs H Q _=>∃(p:Addr) (a:Perm),vs=[.ref p]/\Ls H p a/\aw a/\Val H Q (.int ((Wqaraq.crossings a:Nat):Int))
theorem Ql(f:Nat->Nat)(i:Nat):((List.range (i+1)).map f).sum=((List.range i).map f).sum+f i:=by
 rw[iZ,cN,List.sum_append];simp
theorem HG(T:Txt K mg):T.sZ.Ok P w base 1 (Qk T):=by
 have S:=N_
 refine T.sZ.F.ok S (by rintro _ _ _ _ ⟨p,a,rfl,_⟩;rfl) fun cdv A outer s H vs Q E hr h=>?_
 ·obtain⟨p,a,rfl,hp,ha,k⟩:=h
  refine⟨_,(aj (sv 1 S.nd aq)
   (aj (c8 PassesOwn.never rfl (xY rfl T.vC (ak (pv 0))) (uC rfl (mC (gn 2 S.nd) (mC (gn 3 S.nd) uB))) (ao (sv 1 S.nd (aC bZ (pv 1) (c5 T.cW (iM (own:=[("later",4)]) rfl S.nd (fF (jO jQ (pv 0) (iK (aC bZ (pv 2) aq)) lD)) (fI (by rfl)) (fun _ _ _ _ _=>(eJ (i:=4) S.nd rfl (Or.inl rfl))) (fun _ _ _ _ _=>rK (a5 gw (pv 4) (pv 3))) (fun _ _ _ _ _=>(pv 4))))))))
   (ao (az (pv 1))))),?_⟩
  refine⟨_,rfl,p,_,rfl,ai.of hp,zQ (xs:=nv a) (fun i σ H'=>∃(v2 v3 v4:Option V),σ=[some (.ref p),some (.int (((List.range i).map fun k=>(a.drop (k+1)).countP fun x=>decide (x<Wqaraq.at_ a k)).sum:Nat)),v2,v3,v4]/\ag H H')
   ⟨none,none,none,rfl,ag.refl H⟩ (fun i σ H' _ ⟨_,_,_,_,s⟩=>ai.of (s _ _ hp)) ?_ ?_⟩
  ·rintro i x Tp σ H' hx ⟨v2,v3,v4,rfl,s⟩ hT
   obtain⟨hi,rfl⟩:=P9 ha hx
   have s1:=s.upd (o:=.tup [.int (i:Nat),V.int ((Wqaraq.at_ a i:Nat):Int)]) (s.free hT)
   refine⟨Tp,_,rfl,fv.of au,rfl,_,_,rfl,_,_,rfl,rfl,?_⟩
   refine⟨_,rfl,tR (gS ?_)⟩
   refine⟨_,rfl,_,rfl,_,_,rfl,rfl,_,rfl,p,_,rfl,ai.of (s1 _ _ hp),fun r hr=>?_⟩
   refine⟨r,rfl,⟨_,ai.of au⟩,qp (l:=a.drop (i+1)) (em:=fun (x:Nat)=>V.int (x:Int)) (fun x=>decide (x<Wqaraq.at_ a i)) (fun x=>V.int (x:Int)) (ai.of (by rw[au,Ca (i+1) (by omega)];exact bO (fun z=>some (HO.lst z)) (HC a (i+1)).symm)) (by rw[List.length_drop,ha.len];omega) ?_ ?_⟩
   ·intro y H2 hy s2 R Nx h1 h2
    refine⟨rfl,⟨_,rfl,_,rfl,_,_,rfl,rfl,_,rfl,?_⟩⟩
    refine aS (fun c=>⟨_,rfl,h1 (c7 (eD.mp (a0 c))) _ (ag.refl _)⟩) (fun c=>h2 (cu fun q=>a_ c (eD.mpr q)) _ (ag.refl _))
   ·intro H2 D s2 hD h
    refine⟨D,_,rfl,.inl (ai.of h),_,_,rfl,rfl,?_⟩
    refine⟨some (.int i),some (.int (Wqaraq.at_ a i:Nat)),v4,?_,(s1.upd (s1.free hr)).trans s2⟩
    rw[Ql,aE,<-iB]
    rfl
  ·rintro σ H' ⟨v2,v3,v4,rfl,s⟩
   refine⟨_,rfl,?_⟩
   rw[B3 ha,<-Fh a ha.len]
   exact k H' s
def Qm(T:Txt K mg):Sp:=fun vs H Q _=>∃(p:Addr) (a:Perm),vs=[.ref p]/\Ls H p a/\aw a/\Val H Q (.int ((Wqaraq.starts a:Nat):Int))
theorem HH(T:Txt K mg):T.s_.Ok P w base 1 (Qm T):=by
 have S:=Oa
 refine T.s_.F.ok S (by rintro _ _ _ _ ⟨p,a,rfl,_⟩;rfl) fun cdv A outer s H vs Q E hr h=>?_
 ·obtain⟨p,a,rfl,hp,ha,k⟩:=h
  refine⟨_,(aj (sv 1 S.nd aq)
   (aj (c8 PassesOwn.never rfl (D5 rfl T.cH (dk (aC cB (aN rfl T.de) aq) (iI iJ aq) (iI iJ aq))) (gn 2 S.nd) (ao (sv 1 S.nd (aC bZ (aC jc aq (pv 1)) (gJ (a5 eM (aM (pv 0) (pv 2)) (aM (pv 0) (aC bZ (pv 2) aq))) aq aq)))))
   (ao (az (pv 1))))),?_⟩
  refine⟨_,_,rfl,rfl,_,rfl,_,rfl,14,-1,-1,15,rfl,⟨by decide,by decide,by decide,by decide⟩,D6 (lo:=14) (c:= -1) (n:=15) (fun i σ H'=>∃v2:Option V,σ=[some (.ref p),some (.int (pY (fun i=>Wqaraq.cross a (i,i+1)) i:Nat)),v2]/\ag H H') ⟨none,rfl,ag.refl H⟩ ?_ ?_⟩
  ·rintro i σ H' hi ⟨v2,rfl,s⟩
   refine⟨_,rfl,_,_,rfl,rfl,.inl ⟨by decide,by decide⟩,_,rfl,_,rfl,p,_,_,_,rfl,rfl,ai.of (s _ _ hp),cZ (j:=14 - i) (by omega) (by rw[ha.len];omega),_,rfl,_,rfl,_,_,rfl,rfl,p,_,_,_,rfl,rfl,ai.of (s _ _ hp),cZ (j:=14 - i+1) (by omega) (by rw[ha.len];omega),_,_,rfl,rfl,_,rfl,?_⟩
   have e:pY (fun i=>Wqaraq.cross a (i,i+1)) (i+1)=2 * pY (fun i=>Wqaraq.cross a (i,i+1)) i+bit (Wqaraq.cross a (14 - i,14 - i+1)):=rfl
   refine aS (fun c=>?_) (fun c=>?_)
   ·refine⟨_,_,rfl,rfl,some (.int (14+(i:Nat) * (-1))),?_,s⟩
    have c:=eD.mp (a0 c)
    rw[e,show Wqaraq.cross a (14 - i,14 - i+1)=true from c7 c]
    rfl
   ·refine⟨_,_,rfl,rfl,some (.int (14+(i:Nat) * (-1))),?_,s⟩
    have c:¬Wqaraq.at_ a (14 - i+1)<Wqaraq.at_ a (14 - i):=fun q=>a_ c (eD.mpr q)
    rw[e,show Wqaraq.cross a (14 - i,14 - i+1)=false from cu c]
    rfl
  ·rintro σ H' ⟨v2,rfl,s⟩
   refine⟨_,rfl,?_⟩
   rw[MV]
   exact k H' s
def Qn(T:Txt K mg):Sp:=fun vs H Q _=>∃(p q:Addr) (a b:Perm),vs=[.ref p,.ref q]/\Ls H p a/\Ls H q b/\aw a/\aw b/\Val H Q (.bl (Wqaraq.begins a b))
def HI(a b:Perm)(i j:Nat):Prop:=∀p q,p<q->q<16->(p<i\/(p=i/\q<j))->X a p q->X b p q
theorem Qo(T:Txt K mg):T.begins.Ok P w base 1 (Qn T):=by
 have S:=Ob
 refine T.begins.F.ok S (by rintro _ _ _ _ ⟨p,q,a,b,rfl,_⟩;rfl) fun cdv A outer s H vs Q E hr h=>?_
 ·obtain⟨p,q,a,b,rfl,hp,hq,ha,hb,k⟩:=h
  refine⟨_,(aj (c8 PassesOwn.never rfl (iH rfl T.cH (ak (aN rfl T.de))) (gn 2 S.nd) (ao (c8 PassesOwn.never rfl (rz rfl T.cH (aR (aC bZ (pv 2) aq) (aN rfl T.de))) (gn 3 S.nd) (ao (bt (PW.pt (lp (a5 eM (aM (pv 0) (pv 2)) (aM (pv 0) (pv 3))) (pk (a5 gw (aM (pv 1) (pv 2)) (aM (pv 1) (pv 3)))))) (ao (az kg)) bx)))))
   (ao (az kg))),?_⟩
  refine⟨16,rfl,by decide,by decide,i9 (lo:=0) (n:=16) (fun i σ H'=>∃(v2 v3:Option V),σ=[some (.ref p),some (.ref q),v2,v3]/\H'=H/\HI a b i 0) ⟨none,none,rfl,rfl,fun x y _ _ h=>by omega⟩ ?_ ?_⟩
  ·rintro i σ H' hi ⟨v2,v3,rfl,rfl,bg⟩
   refine⟨_,rfl,_,_,rfl,rfl,(i:Int)+1,16,by rw[Int.zero_add],by omega,i9 (lo:=(i:Int)+1) (n:=((16:Int) - ((i:Int)+1)).toNat) (fun j σ H''=>∃(v3:Option V),σ=[some (.ref p),some (.ref q),some (.int (0+i)),v3]/\H''=H'/\HI a b i (i+1+j)) ⟨_,rfl,rfl,fun x y h1 h2 h3 x'=>?_⟩ ?_ ?_⟩
   ·exact bg x y h1 h2 (by omega) x'
   ·rintro j σ H'' hj ⟨v3,rfl,rfl,bg2⟩
    have e1:(0:Int)+(i:Int)=(i:Int):=by omega
    refine⟨_,rfl,_,rfl,p,_,_,_,rfl,rfl,ai.of hp,cZ e1 (by rw[ha.len];exact hi),_,rfl,_,rfl,p,_,_,_,rfl,rfl,ai.of hp,cZ (j:=i+1+j) (by omega) (by rw[ha.len];omega),_,_,rfl,rfl,_,rfl,?_⟩
    refine aS (fun c=>?_) (fun c=>?_)
    ·have c:=eD.mp (a0 c)
     refine⟨_,rfl,_,rfl,q,_,_,_,rfl,rfl,ai.of hq,cZ e1 (by rw[hb.len];exact hi),_,rfl,_,rfl,q,_,_,_,rfl,rfl,ai.of hq,cZ (j:=i+1+j) (by omega) (by rw[hb.len];omega),_,_,rfl,rfl,_,rfl,?_⟩
     refine aS (fun d=>?_) (fun d=>?_)
     ·have d:=eD.mp (a0 d)
      refine h_ (k _ (ag.refl _)) ?_
      symm
      rw[<-o5,Fi]
      intro h
      have:=h i (i+1+j) (by omega) (by omega) (.inl ⟨by omega,c⟩)
      unfold X at this;omega
     ·have d:¬Wqaraq.at_ b i<Wqaraq.at_ b (i+1+j):=fun z=>a_ d (eD.mpr z)
      refine⟨_,rfl,rfl,fun x y h1 h2 h3 x'=>?_⟩
      by_cases z:x=i/\y=i+1+j
      ·obtain⟨rfl,rfl⟩:=z
       have:=hb.ne (show x<16 by omega) h2 (by omega)
       exact .inl ⟨by omega,by omega⟩
      ·exact bg2 x y h1 h2 (by omega) x'
    ·have c:¬Wqaraq.at_ a (i+1+j)<Wqaraq.at_ a i:=fun z=>a_ c (eD.mpr z)
     refine dH ⟨_,rfl,rfl,fun x y h1 h2 h3 x'=>?_⟩
     by_cases z:x=i/\y=i+1+j
     ·obtain⟨rfl,rfl⟩:=z
      unfold X at x';omega
     ·exact bg2 x y h1 h2 (by omega) x'
   ·rintro σ H'' ⟨v3,rfl,rfl,bg2⟩
    refine⟨_,_,rfl,rfl,fun x y h1 h2 h3 x'=>bg2 x y h1 h2 ?_ x'⟩
    omega
  ·rintro σ H' ⟨v2,v3,rfl,rfl,bg⟩
   refine h_ (k _ (ag.refl _)) ?_
   symm
   rw[Fi]
   exact fun x y h1 h2 x'=>bg x y h1 h2 (by omega) x'
def Qp(T:Txt K mg):Sp:=fun vs H Q _=>∃(p:Addr) (l:List Int) (n:Int),vs=[.ref p,.int n]/\Li H p l/\(∀x,x∈l->0<=x)/\0<=n/\l.length<=2500/\Val H Q (.bl (Wqaraq.right n.toNat (l.map Int.toNat)))
theorem Qq{n:Nat}{a:Perm}(h:Wqaraq.strands n=false):Wqaraq.right n a=false:=by unfold Wqaraq.right;rw[h];rfl
theorem Qr{n:Nat}{a:Perm}(h:a.length≠16):Wqaraq.right n a=false:=by
 unfold Wqaraq.right Wqaraq.WIDE
 rw[show (a.length == 16)=false from qH.mpr h,Bool.and_false,Bool.false_and,Bool.false_and]
theorem Qt{n:Int}(h:0<=n):(decide (2<=n)&&decide (n<=16))=Wqaraq.strands n.toNat:=by
 unfold Wqaraq.strands Wqaraq.WIDE
 congr 1
 ·rw[gu];omega
 ·rw[gu];omega
theorem HJ(i j:Nat):nv (List.range' i (j - i))=iv (f_ i j):=by unfold f_;rw[l8];rfl
theorem HK(T:Txt K mg):T.sX.Ok P w base 2 (Qp T):=by
 have S:=N4
 refine T.sX.F.ok S (by rintro _ _ _ _ ⟨p,l,n,rfl,_⟩;rfl) fun cdv A outer s H vs Q E hr h=>?_
 ·obtain⟨p,l,n,rfl,hp,hl,hn,hz,k⟩:=h
  refine⟨_,(aj (bt (PW.pt (xw (dX (cq (T.qg.c (Cd T) hr (ak (pv 1))))) (xu (a5 nk (c5 T.cW (pv 0)) (aN rfl T.de))))) (ao (az kg)) bx)
   (ao (az (CV (jz (pI hr.units) (fX Lx rfl T.GO (by decide+kernel) (ak (jO jQ (pv 0) lD (iK (pv 1))))) (gL (j4 rfl) rfl T.gB k6 (ak (mS rfl T.cH (ak (pv 1)))))) (uz (jz (pI hr.units) (jO jQ (pv 0) (iK (pv 1)) lD) (gL (j4 rfl) rfl T.gB k6 (ak (zS rfl T.cH (aR (pv 1) (aN rfl T.de))))))))))),?_⟩
  refine aQ (dE (P7 (oO (jy (bN ?_)))))
  refine⟨_,rfl,n,rfl,fun H1 s1=>⟨_,rfl,?_⟩⟩
  rw[Qt hn]
  cases hs:Wqaraq.strands n.toNat with
  |false=>
   refine fY (fY ?_)
   refine h_ (k H1 s1) ?_
   rw[Qq hs]
  |true=>
   obtain⟨n2,n16⟩:=pW.mp hs
   refine dH ?_
   refine⟨_,rfl,p,_,rfl,.inl (ai.of (s1 _ _ hp)),rfl,_,rfl,?_⟩
   rw[cQ]
   by_cases h16:l.length=16
   ·refine aS (fun c=>?_) (fun c=>?_)
    ·rw[h16]at c
     exact absurd c (by decide)
    ·refine⟨_,rfl,_,rfl,_,rfl,p,_,rfl,ai.of (s1 _ _ hp),fun r hr=>?_⟩
     have s2:=s1.upd (o:=.lst (cU (iv l) none (some n))) (s1.free hr)
     refine⟨r,l.take n.toNat,rfl,ai.of ?_,by rw[dz];omega,fun ys q hy hsrt hq=>?_⟩
     ·rw[au,tU n.toNat (by omega)]
      exact bO (fun z=>some (HO.lst z)) (HE l n.toNat).symm
     ·have s3:=s2.upd (o:=.lst (ys.map V.int)) (s2.free hq)
      refine wx (v:=.int n) n.toNat (by congr 1;omega) (fun Q' q=>⟨_,rfl,q⟩) (by omega) fun H4 r4 s4 f4 h4=>?_
      have s5:=s3.trans s4
      rw[List.range_eq_range',show List.range' 0 n.toNat=List.range' 0 (n.toNat - 0) by rw[Nat.sub_zero],HJ]at h4
      refine BY (ns:=ys) (ms:=f_ 0 n.toNat) (ai.of (s4 _ _ (by rw[au];rfl))) (ai.of h4) ?_
      refine⟨_,rfl,?_⟩
      have rs:=ML hl ⟨n2,n16⟩ h16 hy hsrt
      refine aS (fun c=>?_) (fun c=>?_)
      ·have c:=a0 c
       refine⟨_,rfl,_,rfl,_,rfl,p,_,rfl,ai.of (s5 _ _ hp),fun r6 hr6=>?_⟩
       have s6:=s5.upd (o:=.lst (cU (iv l) (some n) none)) (s5.free hr6)
       refine BW (va:=.int n) (vb:=.int 16) n.toNat 16 (by congr 1;omega) rfl (fun Q' q=>⟨_,rfl,q⟩) (fun Q' q=>q) ⟨by omega,by decide⟩ fun H8 r8 s8 f8 h8=>?_
       rw[HJ]at h8
       refine BY (ns:=l.drop n.toNat) (ms:=f_ n.toNat 16) (ai.of (s8 _ _ (by rw[au,Ca n.toNat (by omega)];exact bO (fun z=>some (HO.lst z)) (HD l n.toNat).symm))) (ai.of h8) ?_
       refine h_ (k H8 (s6.trans s8)) ?_
       rw[jC,mx,rs]
       exact⟨fun z=>⟨c,z⟩,fun z=>z.2⟩
      ·have c:=a_ c
       refine h_ (k H4 s5) ?_
       symm
       rw[<-o5,rs]
       exact fun z=>c z.1
   ·refine aS (fun c=>?_) (fun c=>?_)
    ·refine h_ (k H1 s1) ?_
     rw[Qr (by rw[aE];exact h16)]
    ·exfalso
     rw[i4]at c
     have c:=a0 c
     injection c with c
     omega
def Qu(T:Txt K mg):Sp:=fun vs H Q _=>∃(n:Nat) (p:Addr) (a:Perm),vs=[.int n,.ref p]/\n<=16/\Ls H p a/\aw a/\Val H Q (.int ((Wqaraq.number n a:Nat):Int))
theorem Qv(T:Txt K mg):T.vG.Ok P w base 1 (Qu T):=by
 have S:=Oc
 refine T.vG.F.ok S (by rintro _ _ _ _ ⟨n,p,a,rfl,_⟩;rfl) fun cdv A outer s H vs Q E hr h=>?_
 ·obtain⟨n,p,a,rfl,hn,hp,ha,k⟩:=h
  refine⟨_,(aj (sv 2 S.nd aq)
   (aj (c8 PassesOwn.never rfl (iH rfl T.cH (ak (pv 0))) (gn 3 S.nd) (aj (rO (i:=4) (own:=[("later",5)]) rfl S.nd rfl rfl rfl (fF (jO jQ (pv 1) (iK (aC bZ (pv 3) aq)) (iK (pv 0)))) (fI (by rfl)) (fun _ _ _ _ _=>(eJ (i:=5) S.nd rfl (Or.inl rfl))) (fun _ _ _ _ _=>rK (a5 gw (pv 5) (gW (j3 (K:=K) rfl) (pv 1) (pv 3) (fun _ _=>rfl)))) (fun _ _ _ _ _=>(pv 5)))
   (ao (sv 2 S.nd (aC bZ (aC jc (pv 2) (aC cB (pv 0) (pv 3))) (c5 T.cW (pv 4)))))))
   (ao (az (pv 2))))),?_⟩
  refine⟨_,rfl,n,rfl,by omega,by omega,i9 (lo:=0) (n:=((n:Int)).toNat) (fun i σ H'=>∃(v3 v4 v5:Option V),σ=[some (.int n),some (.ref p),some (.int (gf n (fun i=>((List.range n).filter fun j=>decide (i<j)&&decide (Wqaraq.at_ a j<Wqaraq.at_ a i)).length) i:Nat)),v3,v4,v5]/\ag H H') ⟨none,none,none,rfl,ag.refl H⟩ ?_ ?_⟩
  ·rintro i σ H' hi ⟨v3,v4,v5,rfl,s⟩
   have hi:i<n:=by omega
   have e1:(0:Int)+(i:Int)=(i:Int):=by omega
   refine bY (aQ (bz (gS ?_)))
   refine⟨_,rfl,_,rfl,_,_,rfl,rfl,_,rfl,_,rfl,_,rfl,p,_,rfl,ai.of (s _ _ hp),fun r hr=>?_⟩
   refine⟨r,rfl,⟨_,ai.of au⟩,qp (l:=(a.take n).drop (i+1)) (em:=fun (x:Nat)=>V.int (x:Int)) (fun x=>decide (x<Wqaraq.at_ a i)) (fun x=>V.int (x:Int)) (ai.of ?_) (by rw[List.length_drop,dz];omega) ?_ ?_⟩
   ·rw[au,HB (i+1) n (by omega) rfl]
    refine bO (fun z=>some (HO.lst z)) ?_
    rw[<-Cb,<-HC];rfl
   ·intro y H2 hy s2 R Nx h1 h2
    refine⟨rfl,⟨_,rfl,_,rfl,_,rfl,p,_,_,_,rfl,rfl,ai.of (s2 _ _ (by rw[ax (a7 (s _ _ hp) hr)];exact s _ _ hp)),cZ e1 (by rw[ha.len];omega),_,_,rfl,rfl,_,rfl,?_⟩⟩
    refine aS (fun c=>⟨_,rfl,h1 (c7 (eD.mp (a0 c))) _ (ag.refl _)⟩) (fun c=>h2 (cu fun q=>a_ c (eD.mpr q)) _ (ag.refl _))
   ·intro H2 D s2 hD h
    refine⟨_,rfl,_,rfl,_,rfl,_,_,rfl,rfl,_,_,rfl,rfl,.inr ⟨by omega,by omega⟩,_,rfl,D,_,rfl,.inl (ai.of h),_,_,rfl,rfl,?_⟩
    refine⟨some (.int (0+i)),some (.ref D),v5,?_,(s.upd (s.free hr)).trans s2⟩
    rw[aE,<-iB,MR a ha.len hn]
    show [some (V.int n),some (V.ref p),some (V.int ((_:Int) * ((n:Int) - (0+(i:Int)))+_)),some (V.int (0+i)),some (V.ref D),v5]=_
    rw[e1]
    refine bO (fun z=>[some (V.int n),some (V.ref p),some (V.int z),some (V.int (i:Int)),some (V.ref D),v5]) ?_
    show _=((gf n _ i * (n - i)+_:Nat):Int)
    rw[uq,Int.natCast_mul,Int.natCast_sub (by omega)]
  ·rintro σ H' ⟨v3,v4,v5,rfl,s⟩
   refine⟨_,rfl,?_⟩
   rw[show ((n:Int)).toNat=n by omega,<-yP]
   exact k H' s
def Qw(T:Txt K mg):Sp:=fun vs H Q _=>∃(p:Addr) (a:Perm) (i:Nat),vs=[.ref p,.int i]/\Ls H p a/\a.length=16/\i<15/\∀H':Hp,(∀b o,H b=some o->b≠p->H' b=some o)->Ls H' p (Wqaraq.exchanged i a)->Q .aW H'
theorem Qx{a:Perm}{i:Nat}(hl:a.length=16)(hi:i<15):(a.set i (Wqaraq.at_ a (i+1))).set (i+1) (Wqaraq.at_ a i)=Wqaraq.exchanged i a:=by
 refine dC (by simp[hl]) (bJ _) fun j hj=>?_
 rw[jX (by rw[gp];omega),jX (by omega),jS hj]
 by_cases c1:j=i+1
 ·rw[af c1,ae (by omega),af c1]
 ·rw[ae c1]
  by_cases c2:j=i
  ·rw[af c2,af c2]
  ·rw[ae c2,ae c2,ae c1]
theorem Cf(T:Txt K mg):T.qi.Ok P w base 1 (Qw T):=by
 have S:=Oe
 refine T.qi.F.ok S (by rintro _ _ _ _ ⟨p,a,i,rfl,_⟩;rfl) fun cdv A outer s H vs Q E hr h=>?_
 ·obtain⟨p,a,i,rfl,hp,hl,hi,k⟩:=h
  refine⟨_,(aj (sv 2 S.nd (aM (pv 0) (pv 1)))
   (aj (fC (aM (pv 0) (aC bZ (pv 1) aq)) (fB (pv 0) (pv 1) set_list))
   (ao (fC (pv 2) (fB (pv 0) (aC bZ (pv 1) aq) set_list))))),?_⟩
  refine⟨_,rfl,_,rfl,p,_,_,_,rfl,rfl,ai.of hp,cZ rfl (by omega),?_⟩
  refine⟨_,rfl,_,rfl,_,_,rfl,rfl,p,_,_,_,rfl,rfl,ai.of hp,cZ (j:=i+1) (by omega) (by omega),?_⟩
  refine⟨_,rfl,_,rfl,p,_,_,i,rfl,rfl,hp,d5 rfl (by rw[cG];omega),?_⟩
  refine⟨_,rfl,_,rfl,_,rfl,_,_,rfl,rfl,p,_,_,i+1,rfl,rfl,au,d5 (by omega) (by rw[gp,cG];omega),?_⟩
  refine k _ (fun b o e hb=>by rw[ax hb,ax hb];exact e) ?_
  show upd _ p _ p=_
  rw[au,l7,l7,Qx hl hi]
def Qy(T:Txt K mg):Sp:=fun vs H Q _=>∃(p:Addr) (a:Perm),vs=[.ref p]/\Ls H p a/\aw a/\bB H Q (iv (Wqaraq.row a))
theorem wz{a:Perm}(ha:aw a):(Wqaraq.row a).length<=120:=by
 rw[lT ha]
 unfold Wqaraq.crossings
 exact cz (qU _ _) (by decide+kernel)
theorem Cg(T:Txt K mg):T.qj.Ok P w base 2 (Qy T):=by
 have S:=Of
 refine T.qj.F.ok S (by rintro _ _ _ _ ⟨p,a,rfl,_⟩;rfl) fun cdv A outer s H vs Q E hr h=>?_
 ·obtain⟨p,a,rfl,hp,ha,k⟩:=h
  refine⟨_,(aj (sv 1 S.nd (gL uL rfl T.gB (by decide+kernel) (ak (pv 0))))
   (aj (sv 2 S.nd (aY gK))
   (aj (sv 3 S.nd aq)
   (aj (jI PassesOwn.never (a5 gw (pv 3) (aC cB (aN rfl T.de) aq)) (ao (bt (a5 eM (aM (pv 1) (pv 3)) (aM (pv 1) (aC bZ (pv 3) aq))) (aj (dR (T.qi.c (Cf T) hr (aR (pv 1) (pv 3))))
   (aj (dR (j5 (pv 2) (aC bZ (pv 3) aq)))
   (ao (sv 3 S.nd (fX (Kw rfl) rfl T.GN (by decide+kernel) (aR (aC cB (pv 3) aq) aq)))))) (ao (sv 3 S.nd (aC bZ (pv 3) aq))))))
   (ao (az (pv 2))))))),?_⟩
  refine⟨_,rfl,p,_,rfl,.inl (ai.of hp),fun l hl=>?_⟩
  refine⟨be _,fun r hr=>?_⟩
  have nlr:l≠r:=fun e=>by rw[<-e,au]at hr;cases hr
  have hr0:H r=none:=(ag.bA hl).free hr
  refine⟨fun m σ H'=>∃(b:Perm) (i:Nat) (done:List Int),m=20 * size b+(15 - i)/\σ=[some (.ref p),some (.ref l),some (.ref r),some (.int i)]/\ag H H'/\Ls H' l b/\Li H' r done/\aw b/\i<=15/\pX b i/\done++Wqaraq.row b=Wqaraq.row a,
   ⟨_,a,0,[],rfl,rfl,(ag.bA hl).upd hr0,(ax nlr).trans au,au,ha,by omega,fun j hj=>by omega,rfl⟩,?_⟩
  rintro m σ H' ⟨b,i,done,rfl,rfl,s,hb,hd,pb,hi,up,e⟩
  refine⟨_,rfl,_,_,rfl,rfl,_,_,rfl,rfl,_,rfl,?_⟩
  refine aS (fun c=>?_) (fun c=>?_)
  ·have c:(i:Int)<16 - 1:=a0 c
   have hi:i<15:=by omega
   refine⟨fun σ' H'=>∃m',m'<20 * size b+(15 - i)/\∃(b:Perm) (i:Nat) (done:List Int),m'=20 * size b+(15 - i)/\σ'=[some (.ref p),some (.ref l),some (.ref r),some (.int i)]/\ag H H'/\Ls H' l b/\Li H' r done/\aw b/\i<=15/\pX b i/\done++Wqaraq.row b=Wqaraq.row a,fun σ' H' h=>h,?_⟩
   refine dE (ig ?_)
   refine⟨_,rfl,_,rfl,l,_,_,_,rfl,rfl,ai.of hb,cZ rfl (by rw[pb.len];omega),_,rfl,_,rfl,_,_,rfl,rfl,l,_,_,_,rfl,rfl,ai.of hb,cZ (j:=i+1) (by omega) (by rw[pb.len];omega),_,_,rfl,rfl,_,rfl,?_⟩
   refine aS (fun c2=>?_) (fun c2=>?_)
   ·have c2:=eD.mp (a0 c2)
    refine⟨_,rfl,_,rfl,l,b,i,rfl,hb,pb.len,hi,fun H2 s2 h2=>?_⟩
    have nrl:r≠l:=fun q=>nlr q.symm
    have hr2:Li H2 r done:=s2 _ _ hd nrl
    have rl:=MS pb hi up c2
    have lt:=nP pb hi (.inl ⟨by omega,c2⟩)
    have ll:(done++Wqaraq.row b).length<=120:=by rw[e];exact wz ha
    rw[bF]at ll
    refine⟨_,rfl,.inl ⟨rfl,_,ai.of hr2⟩,_,rfl,_,_,rfl,rfl,r,_,_,rfl,rfl,hr2,small (by rw[cQ];omega),?_⟩
    refine⟨_,rfl,_,_,rfl,rfl,_,_,rfl,?_⟩
    refine⟨_,?_,Wqaraq.exchanged i b,i - 1,done++[((i+1:Nat):Int)],rfl,?_,fun c o h=>?_,?_,?_,vj pb hi,by omega,MU pb hi up,?_⟩
    ·omega
    ·show [some (V.ref p),some (V.ref l),some (V.ref r),some (V.int (if (0:Int) > (i:Int) - 1 then 0 else (i:Int) - 1))]=_
     rw[show (if (0:Int) > (i:Int) - 1 then (0:Int) else (i:Int) - 1)=((i - 1:Nat):Int) by split<;>omega]
    ·have n1:c≠r:=a7 h hr0
     have n2:c≠l:=a7 h hl
     rw[ax n1]
     exact s2 _ _ (s _ _ h) n2
    ·show upd _ r _ l=_
     rw[ax nlr];exact h2
    ·show upd _ r _ r=_
     rw[au,wt];rfl
    ·rw[dG,<-e,rl];rfl
   ·have c2:¬Wqaraq.at_ b (i+1)<Wqaraq.at_ b i:=fun q=>a_ c2 (eD.mpr q)
    refine⟨_,rfl,_,_,rfl,rfl,?_⟩
    refine⟨_,?_,b,i+1,done,rfl,rfl,s,hb,hd,pb,by omega,fun j hj h15=>?_,e⟩
    ·omega
    ·by_cases q:j=i
     ·have:=pb.ne (show i<16 by omega) (show i+1<16 by omega) (by omega)
      rw[q];omega
     ·exact up j (by omega) h15
  ·have c:¬(i:Int)<16 - 1:=a_ c
   have hi:i=15:=by omega
   refine⟨_,rfl,?_⟩
   rw[hi]at up
   rw[MT pb up,ft]at e
   rw[e]at hd
   exact k H' r s hr0 hd
def Qz(T:Txt K mg):Sp:=fun vs H Q _=>∃(p:Addr) (w:List Int),vs=[.ref p]/\Li H p w/\bB H Q (nv (Wqaraq.follow w))
theorem QA(T:Txt K mg):T.followed.Ok P w base 2 (Qz T):=by
 have S:=Og
 refine T.followed.F.ok S (by rintro _ _ _ _ ⟨p,w,rfl,_⟩;rfl) fun cdv A outer s H vs Q E hr h=>?_
 ·obtain⟨p,w,rfl,hp,k⟩:=h
  refine⟨_,(aj (sv 1 S.nd (gL (j4 rfl) rfl T.gB k6 (ak (mS rfl T.cH (ak (aN rfl T.de))))))
   (aj (c8 PassesOwn.never rfl (fF (pv 0)) (gn 2 S.nd) (aj (sv 3 S.nd (fX lu rfl T.kJ (by decide+kernel) (ak (pv 2))))
   (ao (bt (Kv rD gw aq (pv 3) (aN rfl T.de)) (ao (dR (T.qi.c (Cf T) hr (aR (pv 1) (aC cB (pv 3) aq))))) bx))))
   (ao (az (T.kN.c (oQ T) hr (ak (pv 1))))))),?_⟩
  refine aQ (bz (tP fun H1 l s1 hl h1=>?_))
  refine⟨_,rfl,p,rfl,⟨_,ai.of (s1 _ _ hp)⟩,mD (xs:=iv w) (fun i σ H'=>∃(v2 v3:Option V),σ=[some (.ref p),some (.ref l),v2,v3]/\ag H H'/\Ls H' l (Wqaraq.back (Wqaraq.follow (w.take i))))
   ⟨none,none,rfl,s1,by rw[o7,rZ,show Wqaraq.back Wqaraq.still=Wqaraq.still by decide];exact h1⟩ (fun i σ H' _ ⟨_,_,_,s,_⟩=>ai.of (s _ _ hp)) ?_ ?_⟩
  ·rintro i x σ H' hx ⟨v2,v3,rfl,s,hb⟩
   obtain⟨c,hc,rfl⟩:∃c,w[i]?=some c/\x=V.int c:=by
    unfold iv at hx
    rw[bX]at hx
    cases q:w[i]? with
    |none=>rw[q]at hx;cases hx
    |some c=>rw[q]at hx;exact⟨c,rfl,(bo hx).symm⟩
   have tk:w.take (i+1)=w.take i++[c]:=by rw[i0,hc];rfl
   have pf:=gO (w.take i)
   have ab:(if c<0 then -c else c)=(c.natAbs:Int):=by split<;>omega
   refine⟨_,rfl,_,rfl,?_⟩
   rw[ab]
   refine⟨_,rfl,_,_,rfl,rfl,_,rfl,?_⟩
   refine aS (fun h1=>?_) (fun h1=>?_)
   ·have h1:(1:Int)<=(c.natAbs:Int):=a0 h1
    refine⟨_,_,rfl,rfl,_,rfl,?_⟩
    refine aS (fun h2=>?_) (fun h2=>?_)
    ·have h2:(c.natAbs:Int)<16:=a0 h2
     refine⟨_,rfl,_,rfl,_,_,rfl,rfl,l,_,c.natAbs - 1,?_,hb,pf.back.len,by omega,fun H2 s2 h2'=>?_⟩
     ·show [V.ref l,V.int ((c.natAbs:Int) - 1)]=_
      rw[show (c.natAbs:Int) - 1=((c.natAbs - 1:Nat):Int) by omega]
     ·refine⟨_,_,rfl,fun b o e=>s2 _ _ (s _ _ e) (a7 e hl),?_⟩
      rw[tk,yR,af (jt.mpr ⟨by omega,by omega⟩),yS pf (by omega)]
      exact h2'
    ·have h2:¬(c.natAbs:Int)<16:=a_ h2
     refine⟨_,_,rfl,s,?_⟩
     rw[tk,yR,ae (fun q=>h2 (by have:=(jt.mp q).2;omega))]
     exact hb
   ·have h1:¬(1:Int)<=(c.natAbs:Int):=a_ h1
    refine⟨_,rfl,dH ⟨_,_,rfl,s,?_⟩⟩
    rw[tk,yR,ae (fun q=>h1 (by have:=(jt.mp q).1;omega))]
    exact hb
  ·rintro σ H' ⟨v2,v3,rfl,s,hb⟩
   rw[cQ,gU]at hb
   refine⟨_,rfl,l,_,rfl,hb,(gO w).back,fun H2 r s2 hr h2=>?_⟩
   rw[Eo (gO w)]at h2
   exact k H2 r (s.trans s2) (s.free hr) h2
def QB(T:Txt K mg):Sp:=fun vs H Q _=>∃m n:Nat,vs=[.int m,.int n]/\2<=n/\n<=16/\bB H Q (nv (Wqaraq.numbered m n))
theorem HL:∀(a:List Nat) (i:Nat),(nv a).eraseIdx i=nv (a.eraseIdx i)
 |[],_=>rfl
 |_::_,0=>rfl
 |x::a,i+1=>bO (V.int (x:Int)::·) (HL a i)
theorem QC(m j:Nat):digit m j<j+1:=Nat.mod_lt _ (by omega)
theorem QD{m n:Nat}(hn:n<=16):picks ((List.range n).reverse.map (digit m)) (List.range n)++List.range' n (16 - n)=Wqaraq.numbered m n:=by
 have e:=Fe n m n (List.range n)
 have hl:(picks ((List.range n).reverse.map (digit m)) (List.range n)).length=n:=by rw[Ff,aE,cJ,cA]
 unfold Wqaraq.numbered
 dsimp only
 rw[e]
 generalize picks ((List.range n).reverse.map (digit m)) (List.range n)=l at *
 refine dC (by rw[bF,hl,List.length_range'];omega) (bJ _) fun i hi=>?_
 rw[gZ hi]
 have g:Wqaraq.at_ (l++List.range' n (16 - n)) i=((l++List.range' n (16 - n))[i]?).getD 0:=d7 ..
 rw[g]
 by_cases c:i<n
 ·rw[af c,qI (by omega),d7]
 ·rw[ae c,oV (by omega),hl,List.getElem?_range' (by omega)]
  show n+1 * (i - n)=i
  omega
theorem QE(T:Txt K mg):T.numbered.Ok P w base 1 (QB T):=by
 have S:=Od
 refine T.numbered.F.ok S (by rintro _ _ _ _ ⟨m,n,rfl,_⟩;rfl) fun cdv A outer s H vs Q E hr h=>?_
 ·obtain⟨m,n,rfl,n2,hn,k⟩:=h
  refine⟨_,(aj (sv 2 S.nd (aY gK))
   (aj (sv 3 S.nd (pv 0))
   (aj (c8 PassesOwn.never rfl (rz rfl T.cH (aR aq (aC bZ (pv 1) aq))) (gn 4 S.nd) (aj (dR (j5 (pv 2) (aC pE (pv 3) (pv 4))))
   (ao (sv 3 S.nd (aC C9 (pv 3) (pv 4))))))
   (aj (sv 5 S.nd (gL (j4 rfl) rfl T.gB k6 (ak (mS rfl T.cH (ak (pv 1))))))
   (aj (sv 6 S.nd (aY gK))
   (aj (c8 PassesOwn.never rfl (xX rfl T.vD (ak (pv 2))) (gn 7 S.nd) (ao (dR (j5 (pv 6) (uM xo PySem.F.slot_list_pop PySem.F.type_list_pop DP (pv 5) (ak (pv 7)))))))
   (ao (az (aC fH (pv 6) (gL (j4 rfl) rfl T.gB k6 (ak (zS rfl T.cH (aR (pv 1) (aN rfl T.de)))))))))))))),?_⟩
  refine⟨be _,fun d hd=>?_⟩
  have sd:=ag.bA (o:=.lst []) hd
  refine⟨_,rfl,_,rfl,_,_,rfl,rfl,1,(n:Int)+1,rfl,by omega,i9 (lo:=1) (n:=((n:Int)+1 - 1).toNat) (fun i σ H'=>∃(v4:Option V),σ=[some (.int m),some (.int n),some (.ref d),some (.int (m / Wqaraq.factorial i:Nat)),v4,none,none,none]/\ag H H'/\Ls H' d ((List.range i).map (digit m)))
   ⟨none,by rw[show m / Wqaraq.factorial 0=m from Nat.div_one m];rfl,sd,au⟩ ?_ ?_⟩
  ·rintro i σ H' hi ⟨v4,rfl,s,h1⟩
   have hi:i<n:=by omega
   refine⟨_,rfl,.inl ⟨rfl,_,ai.of h1⟩,_,rfl,_,rfl,_,_,rfl,rfl,by show (0:Int)<1+(i:Int);omega,d,_,_,rfl,rfl,h1,small (by rw[cG,aE,cA];omega),?_⟩
   refine⟨_,rfl,_,rfl,_,_,rfl,rfl,⟨by show (0:Int)<1+(i:Int);omega,by show (1:Int)+(i:Int)<1073741824;omega⟩,?_⟩
   refine⟨some (.int (1+i)),?_,fun b o e=>?_,?_⟩
   ·show [some (V.int m),some (V.int n),some (V.ref d),some (V.int (((m / Wqaraq.factorial i:Nat):Int) / (1+(i:Int)))),some (V.int (1+i)),none,none,none]=_
    rw[show ((m / Wqaraq.factorial i:Nat):Int) / (1+(i:Int))=((m / Wqaraq.factorial (i+1):Nat):Int) by
     rw[show (1:Int)+(i:Int)=((i+1:Nat):Int) by omega,<-Int.natCast_ediv]
     congr 1
     rw[Nat.div_div_eq_div_mul]
     congr 1
     exact Nat.mul_comm _ _]
   ·rw[ax (a7 e hd)];exact s b o e
   ·show upd _ d _ d=_
    rw[au,iZ,cN,wq]
    congr 3
    show [V.int (((m / Wqaraq.factorial i:Nat):Int) % (1+(i:Int)))]=[V.int ((digit m i:Nat):Int)]
    rw[show (1:Int)+(i:Int)=((i+1:Nat):Int) by omega,<-Int.natCast_emod]
    rfl
  ·rintro σ H1 ⟨v4,rfl,s1,h1⟩
   rw[show ((n:Int)+1 - 1).toNat=n by omega]at h1
   dsimp only
   refine aQ (bz (wx (v:=.int n) n rfl (fun Q' q=>⟨_,rfl,q⟩) (by omega) fun H2 f s2 hf h2=>?_))
   refine⟨be _,fun l hl=>?_⟩
   have s3:=(s1.trans s2).upd (o:=.lst []) ((s1.trans s2).free hl)
   have hf0:=s1.free hf
   have hl0:=(s1.trans s2).free hl
   have nfl:f≠l:=a7 h2 hl
   have ndf:d≠f:=a7 h1 hf
   have ndl:d≠l:=a7 (s2 _ _ h1) hl
   generalize hds:(List.range n).map (digit m)=ds at *
   have dl:ds.length=n:=by rw[<-hds,aE,cA]
   refine⟨_,rfl,d,_,rfl,ai.of ((ax ndl).trans (s2 _ _ h1)),GK (xs:=nv ds) (fun i σ H'=>∃(v3 v4 v7:Option V) (free a:List Nat),σ=[some (.int m),some (.int n),some (.ref d),v3,v4,some (.ref f),some (.ref l),v7]/\ag H H'/\Ls H' d ds/\Ls H' f free/\Ls H' l a/\free.length+i=n/\a.length=i/\a++picks (ds.reverse.drop i) free=picks ds.reverse (List.range n))
    ⟨_,_,none,List.range n,[],rfl,s3,(ax ndl).trans (s2 _ _ h1),(ax nfl).trans h2,au,by simp,rfl,rfl⟩ (fun i σ H' _ ⟨_,_,_,_,_,_,_,h,_⟩=>ai.of h) ?_ ?_⟩
   ·rintro i x σ H' hx ⟨v3,v4,v7,free,a,rfl,s,hd',hf',hl',fl,al,ep⟩
    have hi:i<n:=by
     have:=(dP.mp hx).1
     rwa[cJ,cG,dl]at this
    have hdi:ds.reverse[i]?=some (digit m (n - 1 - i)):=by
     rw[List.getElem?_reverse (by omega),dl,<-hds,bX,qP (by omega)];rfl
    have ex:x=V.int ((digit m (n - 1 - i):Nat):Int):=by
     unfold nv at hx
     rw[<-List.map_reverse,bX,hdi]at hx
     exact(bo hx).symm
    subst ex
    have dlt:=QC m (n - 1 - i)
    have dr:ds.reverse.drop i=digit m (n - 1 - i)::ds.reverse.drop (i+1):=by
     have hir:i<ds.reverse.length:=by rw[cJ];omega
     rw[o9 hir]
     rw[bu hir]at hdi
     rw[bo hdi]
    generalize digit m (n - 1 - i)=dg at *
    refine⟨_,rfl,.inl ⟨rfl,_,ai.of hl'⟩,_,rfl,.inl ⟨rfl,_,ai.of hf'⟩,_,rfl,f,_,_,dg,V.int ((Wqaraq.at_ free dg:Nat):Int),rfl,rfl,hf',by omega,by omega,?_,kQ (by omega),?_⟩
    ·rw[cG]
     exact seqIndex_of (by omega) (by omega)
    ·have nlf:l≠f:=fun q=>nfl q.symm
     refine⟨l,_,_,rfl,rfl,(ax nlf).trans hl',small (by rw[cG];omega),?_⟩
     refine⟨_,_,_,free.eraseIdx dg,a++[Wqaraq.at_ free dg],rfl,fun b o e=>?_,?_,?_,?_,?_,?_,?_⟩
     ·rw[ax (a7 e hl0),ax (a7 e hf0)];exact s b o e
     ·exact(ax ndl).trans ((ax ndf).trans hd')
     ·refine(ax nfl).trans (au.trans ?_)
      rw[HL]
     ·show upd _ l _ l=_
      rw[au,wq];rfl
     ·rw[List.length_eraseIdx_of_lt (by omega)];omega
     ·rw[bF,al];rfl
     ·rw[<-ep,dr,dG];rfl
   ·rintro σ H' ⟨v3,v4,v7,free,a,rfl,s,hd',hf',hl',fl,al,ep⟩
    rw[cG,dl]at ep
    rw[q_ (by rw[cJ,dl];exact aX _)]at ep
    rw[show picks [] free=[] from rfl,ft]at ep
    refine⟨_,rfl,?_⟩
    refine BW (va:=.int n) (vb:=.int 16) n 16 rfl rfl (fun Q' q=>⟨_,rfl,q⟩) (fun Q' q=>q) ⟨by omega,by decide⟩ fun H8 r8 s8 f8 h8=>?_
    refine⟨l,r8,_,_,rfl,rfl,s8 _ _ hl',h8,ck (by rw[cG,cG,List.length_range'];rw[cG,dl]at al;omega),fun r9 hr9=>?_⟩
    refine k _ r9 ((s.trans s8).upd ((s.trans s8).free hr9)) ((s.trans s8).free hr9) ?_
    rw[au,<-wq,ep,<-hds,<-List.map_reverse,QD hn]
def bv(l:List Bool):List V:=l.map V.bl
def eP(f:Nat->Bool):List V:=bv ((List.range 16).map f)
theorem Ci(f:Nat->Bool):(eP f).length=16:=by unfold eP bv;simp
theorem qt{f:Nat->Bool}{j:Nat}(h:j<16):(eP f)[j]?=some (.bl (f j)):=by
 unfold eP bv
 rw[bX,bX,qP h];rfl
theorem wA{f:Nat->Bool}{z:Int}{j:Nat}(e:z=(j:Int))(h:j<16):gM (eP f) z=some (.bl (f j)):=at_of e (qt h)
theorem QF{f:Nat->Bool}{j:Nat}{v:Bool}:(eP f).set j (.bl v)=eP (fun k=>if k=j then v else f k):=by
 refine List.ext_getElem? fun i=>?_
 rw[qW,Ci]
 by_cases h:i<16
 ·by_cases e:j=i
  ·rw[af e,af (by omega),qt h,af e.symm]
  ·rw[ae e,qt h,qt h,ae (fun q=>e q.symm)]
 ·have n:∀g,(eP g)[i]?=none:=fun g=>qO (by rw[Ci];omega)
  rw[n,n]
  by_cases e:j=i
  ·rw[af e,ae (by omega)]
  ·rw[ae e]
structure mT(H:Hp)(p:Addr)(rs:List Addr)(M:Nat->Nat->Bool):Prop where
 lst:H p=some (.lst (rs.map V.ref))
 len:rs.length=16
 nd:rs.Nodup
 row:∀i r,rs[i]?=some r->H r=some (.lst (eP (M i)))
theorem gm{rs:List Addr}{z:Int}{j:Nat}{r:Addr}(e:z=(j:Int))(h:rs[j]?=some r):gM (rs.map V.ref) z=some (.ref r):=at_of e (by rw[bX,h];rfl)
def QG(T:Txt K mg):Sp:=fun vs H Q _=>∃(p q:Addr) (a b:Perm),vs=[.ref p,.ref q]/\Ls H p a/\Ls H q b/\aw a/\aw b/\
 ∀(H':Hp) (c:Addr) (rs:List Addr),ag H H'->H c=none->(∀r,r∈rs->H r=none)->mT H' c rs (fun i j=>decide (i<j)&&(decide (Wqaraq.at_ a j<Wqaraq.at_ a i)||decide (Wqaraq.at_ b j<Wqaraq.at_ b i)))->Q (.ref c) H'
theorem QH(T:Txt K mg):T.vM.Ok P w base 1 (QG T):=by
 have S:=OA
 refine T.vM.F.ok S (by rintro _ _ _ _ ⟨p,q,a,b,rfl,_⟩;rfl) fun cdv A outer s H vs Q E hr h=>?_
 ·obtain⟨p,q,a,b,rfl,hp,hq,ha,hb,k⟩:=h
  refine⟨_,(aj (sv 2 S.nd (aY gK))
   (aj (c8 PassesOwn.never rfl (iH rfl T.cH (ak (aN rfl T.de))) (gn 3 S.nd) (ao (dR (j5 (pv 2) (iM (own:=[("j",4)]) rfl S.nd (iH rfl T.cH (ak (aN rfl T.de))) (fI (by rfl)) (fun _ _ _ _ _=>(eJ (i:=4) S.nd rfl (Or.inl rfl))) (fun _ _ _ _ _=>iL) (fun _ _ _ _ _=>(CV (jz gw (pv 3) (pv 4)) (uz (CW (jz eM (gW (j3 (K:=K) rfl) (pv 0) (pv 3) (fun _ _=>rfl)) (gW (j3 (K:=K) rfl) (pv 0) (pv 4) (fun _ _=>rfl))) (uz (jz eM (gW (j3 (K:=K) rfl) (pv 1) (pv 3) (fun _ _=>rfl)) (gW (j3 (K:=K) rfl) (pv 1) (pv 4) (fun _ _=>rfl)))))))))))))
   (ao (az (pv 2))))),?_⟩
  refine⟨be _,fun c hc=>?_⟩
  generalize hM:(fun i j=>decide (i<j)&&(decide (Wqaraq.at_ a j<Wqaraq.at_ a i)||decide (Wqaraq.at_ b j<Wqaraq.at_ b i)))=M at *
  refine⟨16,rfl,by decide,by decide,i9 (lo:=0) (n:=16) (fun i σ H'=>∃(v3 v4:Option V) (rs:List Addr),σ=[some (.ref p),some (.ref q),some (.ref c),v3,v4]/\ag H H'/\H' c=some (.lst (rs.map V.ref))/\rs.length=i/\rs.Nodup/\(∀r,r∈rs->H r=none)/\∀i r,rs[i]?=some r->H' r=some (.lst (eP (M i))))
   ⟨none,none,[],rfl,ag.bA hc,au,rfl,List.nodup_nil,fun r h=>(by cases h),fun i r h=>(by simp at h)⟩ ?_ ?_⟩
  ·rintro i σ H' hi ⟨v3,v4,rs,rfl,s,h1,hl,nd,fr,hr⟩
   have e1:(0:Int)+(i:Int)=(i:Int):=by omega
   refine⟨_,rfl,.inl ⟨rfl,_,ai.of h1⟩,?_⟩
   refine bG (gS ?_)
   refine⟨16,rfl,by decide,by decide,wy (lo:=0) (n:=16) (fun _=>true) (fun j=>V.bl (M i j)) (by decide) ?_ ?_⟩
   ·intro j H2 hj s2 R Nx k1 k2
    have e2:(0:Int)+(j:Int)=(j:Int):=by omega
    refine⟨rfl,yes ?_⟩
    have fin:=k1 rfl H2 (ag.refl _)
    rw[<-hM]at fin
    dsimp only at fin
    refine⟨_,rfl,_,rfl,_,_,rfl,rfl,_,rfl,?_⟩
    refine aS (fun c1=>?_) (fun c1=>?_)
    ·have c1:(0:Int)+(i:Int)<0+(j:Int):=a0 c1
     have hp2:=s2 _ _ (s _ _ hp)
     have hq2:=s2 _ _ (s _ _ hq)
     refine⟨_,rfl,_,rfl,p,_,_,_,rfl,rfl,ai.of hp2,cZ e1 (by rw[ha.len];exact hi),_,rfl,_,rfl,p,_,_,_,rfl,rfl,ai.of hp2,cZ e2 (by rw[ha.len];exact hj),_,_,rfl,rfl,_,rfl,?_⟩
     refine aS (fun c2=>?_) (fun c2=>?_)
     ·refine h_ fin ?_
      rw[c7 (show i<j by omega),c7 (eD.mp (a0 c2))];rfl
     ·have c2:¬Wqaraq.at_ a j<Wqaraq.at_ a i:=fun z=>a_ c2 (eD.mpr z)
      refine⟨_,rfl,_,rfl,q,_,_,_,rfl,rfl,ai.of hq2,cZ e1 (by rw[hb.len];exact hi),_,rfl,_,rfl,q,_,_,_,rfl,rfl,ai.of hq2,cZ e2 (by rw[hb.len];exact hj),_,_,rfl,rfl,?_⟩
      refine h_ fin ?_
      rw[c7 (show i<j by omega),cu c2,k5,Bool.false_or,gu]
      exact eD
    ·have c1:¬(0:Int)+(i:Int)<0+(j:Int):=a_ c1
     refine h_ fin ?_
     rw[cu (show ¬i<j by omega)];rfl
   ·intro H2 r s2 fr2 h2
    rw[tT]at h2
    have h2:H2 r=some (.lst (eP (M i))):=by rw[h2];unfold eP bv;rw[dq];rfl
    refine⟨c,_,_,rfl,rfl,s2 _ _ h1,small (by rw[aE,hl];omega),?_⟩
    have ncr:r≠c:=fun z=>by rw[z,h1]at fr2;cases fr2
    refine⟨_,_,rs++[r],rfl,fun x o e=>?_,?_,by rw[bF,hl];rfl,?_,fun x hx=>?_,fun j x hx=>?_⟩
    ·rw[ax (a7 e hc)];exact s2 _ _ (s _ _ e)
    ·rw[au,cN];rfl
    ·refine D8 nd fun hm=>?_
     obtain⟨j,hj,ej⟩:=xn hm
     have:=hr j r (by rw[bu hj,ej])
     rw[fr2]at this;cases this
    ·rcases dO.mp hx with hx|hx
     ·exact fr x hx
     ·rw[gq.mp hx];exact s.free fr2
    ·by_cases hj:j<rs.length
     ·rw[qI hj]at hx
      have hxx:=hr j x hx
      have:x≠c:=fun z=>by
       rw[z,h1]at hxx
       cases rs with
       |nil=>simp at hj
       |cons r0 rs0=>
        injection hxx with hxx
        injection hxx with hxx
        have z0:=bO (fun l=>l[0]?) hxx
        rw[qt (by decide)]at z0
        cases z0
      rw[ax this]
      exact s2 _ _ hxx
     ·rw[oV (by omega)]at hx
      have:j - rs.length=0:=by
       have:=(dP.mp hx).1
       simp at this;omega
      rw[this]at hx
      have ex:r=x:=bo hx
      rw[<-ex,ax ncr,show j=i by omega]
      exact h2
  ·rintro σ H' ⟨v3,v4,rs,rfl,s,h1,hl,nd,fr,hr⟩
   exact⟨_,rfl,k H' c rs s hc fr ⟨h1,hl,nd,hr⟩⟩
def QI(T:Txt K mg):Sp:=fun vs H Q _=>∃(p q:Addr) (f g:Nat->Bool),vs=[.ref p,.ref q]/\H p=some (.lst (eP f))/\H q=some (.lst (eP g))/\p≠q/\
 ∀H':Hp,(∀b o,H b=some o->b≠p->H' b=some o)->H' p=some (.lst (eP fun k=>f k||g k))->Q .aW H'
theorem tV{f g:Nat->Bool}(h:∀k,k<16->f k=g k):eP f=eP g:=by
 unfold eP
 rw[gI fun k hk=>h k (a6.mp hk)]
theorem QJ(T:Txt K mg):T.vN.Ok P w base 1 (QI T):=by
 have S:=OC
 refine T.vN.F.ok S (by rintro _ _ _ _ ⟨p,q,f,g,rfl,_⟩;rfl) fun cdv A outer s H vs Q E hr h=>?_
 ·obtain⟨p,q,f,g,rfl,hp,hq,npq,k⟩:=h
  refine⟨_,(ao (c8 PassesOwn.never rfl (iH rfl T.cH (ak (aN rfl T.de))) (gn 2 S.nd) (ao (bt (cq (aM (pv 1) (pv 2))) (ao (fC kg (fB (pv 0) (pv 2) set_list))) bx)))),?_⟩
  refine⟨16,rfl,by decide,by decide,i9 (lo:=0) (n:=16) (fun i σ H'=>∃v2:Option V,σ=[some (.ref p),some (.ref q),v2]/\(∀b o,H b=some o->b≠p->H' b=some o)/\H' p=some (.lst (eP fun k=>f k||(decide (k<i)&&g k))))
   ⟨none,rfl,fun b o e _=>e,by rw[hp];exact bO (fun z=>some (HO.lst z)) (tV fun k _=>by simp)⟩ ?_ ?_⟩
  ·rintro i σ H' hi ⟨v2,rfl,s,h1⟩
   have e1:(0:Int)+(i:Int)=(i:Int):=by omega
   refine⟨_,rfl,_,rfl,q,_,_,_,rfl,rfl,ai.of (s _ _ hq (fun z=>npq z.symm)),wA e1 hi,_,rfl,?_⟩
   refine aS (fun c=>?_) (fun c=>?_)
   ·refine⟨_,rfl,_,rfl,p,_,_,i,rfl,rfl,h1,d5 e1 (by rw[Ci];exact hi),?_⟩
    refine⟨_,rfl,fun b o e hb=>by rw[ax hb];exact s b o e hb,?_⟩
    rw[au,QF]
    refine bO (fun z=>some (HO.lst z)) (tV fun k _=>?_)
    by_cases e:k=i
    ·rw[af e,e,c,c7 (Nat.lt_succ_self i)];simp
    ·rw[ae e]
     congr 2
     rw[gu];omega
   ·refine⟨_,rfl,s,?_⟩
    rw[h1]
    refine bO (fun z=>some (HO.lst z)) (tV fun k _=>?_)
    by_cases e:k=i
    ·rw[e,c];simp
    ·congr 2
     rw[gu];omega
  ·rintro σ H' ⟨v2,rfl,s,h1⟩
   refine k H' s ?_
   rw[h1]
   exact bO (fun z=>some (HO.lst z)) (tV fun k hk=>by rw[c7 hk,k5])
def Eg(M:Nat->Nat->Bool)(x y:Nat):Prop:=y<16/\M x y=true
def QK(T:Txt K mg):Sp:=fun vs H Q _=>∃(p:Addr) (rs:List Addr) (M:Nat->Nat->Bool),vs=[.ref p]/\mT H p rs M/\p∉rs/\(∀i j,M i j=true->i<j)/\
 ∀(H':Hp) (M':Nat->Nat->Bool),(∀b o,H b=some o->b∉rs->H' b=some o)->mT H' p rs M'->(∀i k,i<16->k<16->(M' i k=true↔TC (Eg M) i k))->Q .aW H'
theorem HM{M:Nat->Nat->Bool}(up:∀i j,M i j=true->i<j){i k:Nat}(h:TC (Eg M) i k):i<k/\k<16:=by
 induction h with
 |one r=>exact⟨up _ _ r.2,r.1⟩
 |step r _ ih=>exact⟨Nat.lt_trans (up _ _ r.2) ih.1,ih.2⟩
structure kR(M:Nat->Nat->Bool)(i j:Nat)(R:Nat->Bool):Prop where
 sound:∀k,k<16->R k=true->TC (Eg M) i k
 has:∀k,M i k=true->R k=true
 below:∀j',j'<j->R j'=true->∀k,TC (Eg M) j' k->R k=true
theorem kR.add{M:Nat->Nat->Bool}(up:∀i j,M i j=true->i<j){i j:Nat}{R G:Nat->Bool}(h:kR M i j R)(hj:j<16)(c:R j=true)(g:∀k,k<16->(G k=true↔TC (Eg M) j k)):kR M i (j+1) (fun k=>R k||(decide (k<16)&&G k)):=by
 refine⟨fun k hk q=>?_,fun k q=>by rw[h.has k q];rfl,fun j' hj' q k t=>?_⟩
 ·rw[mn]at q
  rcases q with q|q
  ·exact h.sound k hk q
  ·rw[br]at q
   exact(h.sound j hj c).trans ((g k hk).mp q.2)
 ·rw[mn]at q ⊢
  rcases q with q|q
  ·by_cases e:j'=j
   ·rw[e]at t
    have kt:=(HM up t).2
    exact .inr (by rw[c7 kt,k5];exact(g k kt).mpr t)
   ·exact .inl (h.below j' (by omega) q k t)
  ·rw[br]at q
   have hj16:j'<16:=a0 q.1
   have:=(HM up ((g j' hj16).mp q.2)).1
   omega
theorem kR.skip{M:Nat->Nat->Bool}{i j:Nat}{R:Nat->Bool}(h:kR M i j R)(c:R j=false):kR M i (j+1) R:=
 ⟨h.sound,h.has,fun j' hj' q k t=>by
  by_cases e:j'=j
  ·rw[e,c]at q;cases q
  ·exact h.below j' (by omega) q k t⟩
theorem kR.done{M:Nat->Nat->Bool}(up:∀i j,M i j=true->i<j){i:Nat}{R:Nat->Bool}(h:kR M i 16 R){k:Nat}(hk:k<16):R k=true↔TC (Eg M) i k:=by
 refine⟨h.sound k hk,fun t=>?_⟩
 cases t with
 |one r=>exact h.has k r.2
 |step r t=>exact h.below _ r.1 (h.has _ r.2) k t
theorem mT.tW{H:Hp}{p:Addr}{rs:List Addr}{M:Nat->Nat->Bool}(m:mT H p rs M){i:Nat}(hi:i<16):∃r,rs[i]?=some r/\H r=some (.lst (eP (M i))):=by
 have:i<rs.length:=by rw[m.len];exact hi
 exact⟨rs[i],bu this,m.row i _ (bu this)⟩
theorem QL(T:Txt K mg):T.close.Ok P w base 2 (QK T):=by
 have S:=OB
 refine T.close.F.ok S (by rintro _ _ _ _ ⟨p,rs,M,rfl,_⟩;rfl) fun cdv A outer s H vs Q E hr h=>?_
 ·obtain⟨p,rs,M,rfl,hm,npr,up,k⟩:=h
  refine⟨_,(ao (c8 PassesOwn.never rfl (D5 rfl T.cH (dk (aC cB (aN rfl T.de) aq) (iI iJ aq) (iI iJ aq))) (gn 1 S.nd) (ao (c8 PassesOwn.never rfl (rz rfl T.cH (aR (aC bZ (pv 1) aq) (aN rfl T.de))) (gn 2 S.nd) (ao (bt (cq (aM (aM (pv 0) (pv 1)) (pv 2))) (ao (dR (T.vN.c (QJ T) hr (aR (aM (pv 0) (pv 1)) (aM (pv 0) (pv 2)))))) bx)))))),?_⟩
  refine⟨_,_,rfl,rfl,_,rfl,_,rfl,15,-1,-1,16,rfl,⟨by decide,by decide,by decide,by decide⟩,D6 (lo:=15) (c:= -1) (n:=16) (fun t σ H'=>∃(v1 v2:Option V) (N:Nat->Nat->Bool),σ=[some (.ref p),v1,v2]/\(∀b o,H b=some o->b∉rs->H' b=some o)/\mT H' p rs N/\(∀i,i<16 - t->N i=M i)/\∀i k,16 - t<=i->i<16->k<16->(N i k=true↔TC (Eg M) i k))
   ⟨none,none,M,rfl,fun b o e _=>e,hm,fun i _=>rfl,fun i k h1 h2=>by omega⟩ ?_ ?_⟩
  ·rintro t σ H' ht ⟨v1,v2,N,rfl,s,m,hN,hT⟩
   have ei:(15:Int)+(t:Nat) * (-1)=((15 - t:Nat):Int):=by omega
   obtain⟨ri,hri,_⟩:=m.tW (i:=15 - t) (by omega)
   refine⟨_,rfl,_,_,rfl,rfl,15+(t:Nat) * (-1)+1,16,rfl,by omega,i9 (lo:=15+(t:Nat) * (-1)+1) (n:=((16:Int) - (15+(t:Nat) * (-1)+1)).toNat) (fun u σ H''=>∃(v2:Option V) (N':Nat->Nat->Bool),σ=[some (.ref p),some (.int (15+(t:Nat) * (-1))),v2]/\(∀b o,H b=some o->b∉rs->H'' b=some o)/\mT H'' p rs N'/\(∀i,i≠15 - t->N' i=N i)/\kR M (15 - t) (15 - t+1+u) (N' (15 - t))) ⟨_,N,rfl,s,m,fun i _=>rfl,?_⟩ ?_ ?_⟩
   ·rw[hN (15 - t) (by omega)]
    exact⟨fun k hk q=>.one ⟨hk,q⟩,fun k q=>q,fun j' hj' q=>absurd (up _ _ q) (by omega)⟩
   ·rintro u σ H'' hu ⟨v2,N',rfl,s',m',hN',ro⟩
    have hj:15 - t+1+u<16:=by omega
    have ej:(15:Int)+(t:Nat) * (-1)+1+(u:Int)=((15 - t+1+u:Nat):Int):=by omega
    have hi':=m'.row _ _ hri
    obtain⟨rj,hrj,hj'⟩:=m'.tW hj
    refine⟨_,rfl,_,rfl,p,_,_,_,rfl,rfl,ai.of m'.lst,gm ei hri,_,rfl,ri,_,_,_,rfl,rfl,ai.of hi',wA ej hj,_,rfl,?_⟩
    refine aS (fun c=>?_) (fun c=>?_)
    ·have nij:ri≠rj:=fun e=>by
      have:=D9 m'.nd hri (by rw[e];exact hrj)
      omega
     refine⟨_,rfl,_,rfl,p,_,_,_,rfl,rfl,ai.of m'.lst,gm ei hri,_,rfl,_,rfl,p,_,_,_,rfl,rfl,ai.of m'.lst,gm ej hrj,ri,rj,_,_,rfl,hi',hj',nij,fun H3 s3 h3=>?_⟩
     have npi:p≠ri:=fun e=>npr (by rw[e];exact m6 hri)
     refine⟨_,fun i=>if i=15 - t then (fun k=>N' (15 - t) k||(decide (k<16)&&N' (15 - t+1+u) k)) else N' i,rfl,fun b o e hb=>s3 b o (s' b o e hb) (fun z=>hb (by rw[z];exact m6 hri)),⟨s3 _ _ m'.lst npi,m'.len,m'.nd,fun i r hr=>?_⟩,fun i hi=>?_,?_⟩
     ·by_cases e:i=15 - t
      ·rw[af e]
       rw[e,hri]at hr
       rw[<-bo hr,h3]
       exact bO (fun z=>some (HO.lst z)) (tV fun k hk=>by rw[c7 hk,k5])
      ·rw[ae e]
       refine s3 _ _ (m'.row i r hr) fun z=>e ?_
       rw[z]at hr
       exact D9 m'.nd hr hri
     ·exact(ae hi).trans (hN' i hi)
     ·show kR M (15 - t) (15 - t+1+u+1) (if 15 - t=15 - t then _ else _)
      rw[af rfl]
      refine ro.add up hj c fun k hk=>?_
      rw[hN' _ (by omega)]
      exact hT _ k (by omega) hj hk
    ·exact⟨_,N',rfl,s',m',hN',ro.skip c⟩
   ·rintro σ H'' ⟨v2,N',rfl,s',m',hN',ro⟩
    rw[show 15 - t+1+((16:Int) - (15+(t:Nat) * (-1)+1)).toNat=16 by omega]at ro
    refine⟨_,_,N',rfl,s',m',fun i hi=>?_,fun i k h1 h2 hk=>?_⟩
    ·rw[hN' i (by omega)];exact hN i (by omega)
    ·by_cases e:i=15 - t
     ·rw[e];exact ro.done up hk
     ·rw[hN' i e];exact hT i k (by omega) h2 hk
  ·rintro σ H' ⟨v1,v2,N,rfl,s,m,hN,hT⟩
   exact k H' N s m fun i k h1 h2=>hT i k (by omega) h1 h2
def QM(T:Txt K mg):Sp:=fun vs H Q _=>∃(p:Addr) (i:Nat) (rs:List Addr) (M:Nat->Nat->Bool),vs=[.ref p,.int i]/\i<16/\mT H p rs M/\
 Val H Q (.int ((cnt (fun j=>decide (j<i)&& !M j i)+cnt (fun j=>decide (i<j)&&M i j):Nat):Int))
theorem QN(p:Nat->Bool){i:Nat}(hi:i<=16):((List.range i).filter p).length=cnt (fun j=>decide (j<i)&&p j):=by
 rw[<-iB]
 unfold BB.cnt
 rw[show (16:Nat)=i+(16 - i) by omega,List.range_add,o8]
 have z:((List.range (16 - i)).map fun x=>i+x).countP (fun j=>decide (j<i)&&p j)=0:=by
  rw[uk]
  intro x hx
  obtain⟨y,_,rfl⟩:=bW.mp hx
  rw[cu (by omega)];simp
 rw[z,Nat.add_zero]
 refine m7 fun j hj=>?_
 rw[c7 (a6.mp hj),k5]
theorem QO(p:Nat->Bool){i:Nat}(hi:i<16):((List.range (16 - (i+1))).filter fun s=>p (i+1+s)).length=cnt (fun j=>decide (i<j)&&p j):=by
 rw[<-iB]
 unfold BB.cnt
 rw[show List.range 16=List.range (i+1)++(List.range (16 - (i+1))).map (fun x=>i+1+x) by rw[<-List.range_add,show i+1+(16 - (i+1))=16 by omega],o8]
 have z:(List.range (i+1)).countP (fun j=>decide (i<j)&&p j)=0:=by
  rw[uk]
  intro x hx
  have:=a6.mp hx
  rw[cu (by omega)];simp
 rw[z,Nat.zero_add,List.countP_map]
 refine m7 fun j hj=>?_
 show _↔(decide (i<i+1+j)&&p (i+1+j))=true
 rw[c7 (by omega),k5]
theorem QP(T:Txt K mg):T.vO.Ok P w base 1 (QM T):=by
 have S:=OD
 refine T.vO.F.ok S (by rintro _ _ _ _ ⟨p,i,rs,M,rfl,_⟩;rfl) fun cdv A outer s H vs Q E hr h=>?_
 ·obtain⟨p,i,rs,M,rfl,hi,m,k⟩:=h
  refine⟨_,(aj (rO (i:=2) (own:=[("j",4)]) rfl S.nd rfl rfl rfl (iH rfl T.cH (ak (pv 1))) (fI (by rfl)) (fun _ _ _ _ _=>(eJ (i:=4) S.nd rfl (Or.inl rfl))) (fun _ _ _ _ _=>rK (dX (cq (gW (j3 (K:=K) rfl) (gW (j3 (K:=K) rfl) (pv 0) (pv 4) (fun _ _=>rfl)) (pv 1) (fun _ _=>rfl))))) (fun _ _ _ _ _=>(pv 4)))
   (aj (rO (i:=3) (own:=[("j",4)]) rfl S.nd rfl rfl rfl (rz rfl T.cH (aR (aC bZ (pv 1) aq) (aN rfl T.de))) (fI (by rfl)) (fun _ _ _ _ _=>(eJ (i:=4) S.nd rfl (Or.inl rfl))) (fun _ _ _ _ _=>rK (cq (gW (j3 (K:=K) rfl) (gW (j3 (K:=K) rfl) (pv 0) (pv 1) (fun _ _=>rfl)) (pv 4) (fun _ _=>rfl)))) (fun _ _ _ _ _=>(pv 4)))
   (ao (az (aC bZ (c5 T.cW (pv 2)) (c5 T.cW (pv 3))))))),?_⟩
  refine aQ (bz (gS ?_))
  refine⟨_,rfl,_,rfl,by omega,by omega,wy (lo:=0) (n:=((i:Int)).toNat) (fun j=> !M j i) (fun j=>V.int (0+(j:Int))) (by omega) ?_ ?_⟩
  ·intro j H2 hj s2 R Nx k1 k2
   have e2:(0:Int)+(j:Int)=(j:Int):=by omega
   obtain⟨rj,hrj,hj'⟩:=m.tW (i:=j) (by omega)
   refine⟨rfl,⟨_,rfl,_,rfl,p,_,_,_,rfl,rfl,ai.of (s2 _ _ m.lst),gm e2 hrj,_,rfl,rj,_,_,_,rfl,rfl,ai.of (s2 _ _ hj'),wA rfl hi,_,rfl,?_⟩⟩
   refine aS (fun c=>⟨_,rfl,k1 c _ (ag.refl _)⟩) (fun c=>k2 c _ (ag.refl _))
  ·intro H1 b s1 fb h1
   dsimp only [dt]
   refine aQ (bz (gS ?_))
   refine⟨_,rfl,_,_,rfl,rfl,(i:Int)+1,16,rfl,by omega,wy (lo:=(i:Int)+1) (n:=((16:Int) - ((i:Int)+1)).toNat) (fun s=>M i (i+1+s)) (fun j=>V.int ((i:Int)+1+(j:Int))) (by omega) ?_ ?_⟩
   ·intro j H2 hj s2 R Nx k1 k2
    obtain⟨ri,hri,hi'⟩:=m.tW hi
    have s12:=s1.trans s2
    refine⟨rfl,⟨_,rfl,_,rfl,p,_,_,_,rfl,rfl,ai.of (s12 _ _ m.lst),gm rfl hri,_,rfl,ri,_,_,_,rfl,rfl,ai.of (s12 _ _ hi'),wA (j:=i+1+j) (by omega) (by omega),_,rfl,?_⟩⟩
    refine aS (fun c=>⟨_,rfl,k1 c _ (ag.refl _)⟩) (fun c=>k2 c _ (ag.refl _))
   ·intro H2 c s2 fc h2
    refine⟨_,rfl,b,_,rfl,.inl (ai.of (s2 _ _ h1)),_,rfl,c,_,rfl,.inl (ai.of h2),_,_,rfl,rfl,?_⟩
    refine jx (k H2 (s1.trans s2)) ?_
    rw[aE,aE,show ((i:Int)).toNat=i by omega,show ((16:Int) - ((i:Int)+1)).toNat=16 - (i+1) by omega,QN _ (by omega),QO (fun j=>M i j) hi]
    omega
def QQ(T:Txt K mg):Sp:=fun vs H Q _=>∃(p q:Addr) (a b:Perm),vs=[.ref p,.ref q]/\Ls H p a/\Ls H q b/\aw a/\aw b/\bB H Q (nv (Wqaraq.joinOf a b))
theorem HN{a b:Perm}{i j:Nat}:Eg (fun i j=>decide (i<j)&&(decide (Wqaraq.at_ a j<Wqaraq.at_ a i)||decide (Wqaraq.at_ b j<Wqaraq.at_ b i))) i j↔kq a b i j:=by
 unfold Eg kq X
 rw[br,mn,mx,mx,mx]
 omega
theorem HP{R S:Nat->Nat->Prop}(h:∀i j,R i j->S i j){i j:Nat}(t:TC R i j):TC S i j:=by
 induction t with
 |one r=>exact .one (h _ _ r)
 |step r _ ih=>exact .step (h _ _ r) ih
theorem HQ(T:Txt K mg):T.tq.Ok P w base 3 (QQ T):=by
 have S:=OE
 refine T.tq.F.ok S (by rintro _ _ _ _ ⟨p,q,a,b,rfl,_⟩;rfl) fun cdv A outer s H vs Q E hr h=>?_
 ·obtain⟨p,q,a,b,rfl,hp,hq,ha,hb,k⟩:=h
  refine⟨_,(aj (sv 2 S.nd (T.vM.c (QH T) hr (aR (pv 0) (pv 1))))
   (aj (dR (T.close.c (QL T) hr (ak (pv 2))))
   (ao (az (iM (own:=[("i",3)]) rfl S.nd (iH rfl T.cH (ak (aN rfl T.de))) (fI (by rfl)) (fun _ _ _ _ _=>(eJ (i:=3) S.nd rfl (Or.inl rfl))) (fun _ _ _ _ _=>iL) (fun _ _ _ _ _=>(T.vO.c (QP T) hr (aR (pv 2) (pv 3))))))))),?_⟩
  refine⟨_,rfl,_,rfl,p,q,a,b,rfl,hp,hq,ha,hb,fun H1 c rs s1 fc fr m=>?_⟩
  have ncr:c∉rs:=fun hm=>by
   obtain⟨j,hj,ej⟩:=xn hm
   have:=m.row j c (by rw[bu hj,ej])
   rw[m.lst]at this
   injection this with this
   injection this with this
   have z0:=bO (fun l=>l[0]?) this
   rw[qt (by decide)]at z0
   obtain⟨r0,h0,_⟩:=m.tW (i:=0) (by decide)
   simp only [bX,h0]at z0
   cases z0
  refine⟨_,rfl,c,rs,_,rfl,m,ncr,?_,fun H2 M s2 m2 hM=>?_⟩
  ·intro i j h
   rw[br]at h
   exact a0 h.1
  have s12:ag H H2:=fun x o e=>s2 x o (s1 x o e) fun hm=>by rw[fr x hm]at e;cases e
  have hX:∀x y,x<y->y<16->(M x y=true↔X (jn a b) x y):=fun x y h1 h2=>by
   rw[hM x y (by omega) h2]
   exact Iff.trans ⟨HP fun _ _=>HN.mp,HP fun _ _=>HN.mpr⟩ ((pN ha hb).x h2 h1).symm
  dsimp only
  refine a8 (gS ?_)
  refine⟨16,rfl,by decide,by decide,wy (lo:=0) (n:=16) (fun _=>true) (fun i=>V.int ((Wqaraq.at_ (jn a b) i:Nat):Int)) (by decide) ?_ ?_⟩
  ·intro i H3 hi s3 R Nx k1 k2
   refine⟨rfl,yes ?_⟩
   refine⟨_,rfl,_,rfl,c,i,rs,M,?_,hi,⟨s3 _ _ m2.lst,m2.len,m2.nd,fun j r hr=>s3 _ _ (m2.row j r hr)⟩,fun H4 s4=>?_⟩
   ·show [V.ref c,V.int (0+(i:Int))]=_
    rw[Int.zero_add]
   ·have:=k1 rfl H4 s4
    rw[<-E8 (nM ha hb) hi M hX]at this
    exact this
  ·intro H3 D s3 fD h3
   refine k H3 D (s12.trans s3) (s12.free fD) ?_
   rw[h3,tT,join_eq ha hb]
   have:jn a b=(List.range 16).map (Wqaraq.at_ (jn a b)):=(Em (nM ha hb).len).symm
   unfold nv
   conv=>rhs;rw[this,dq]
   rfl
def QR(T:Txt K mg):Sp:=fun vs H Q _=>∃(p q:Addr) (a b:Perm),vs=[.ref p,.ref q]/\Ls H p a/\Ls H q b/\aw a/\aw b/\bB H Q (nv (Wqaraq.meetOf a b))
theorem HR(T:Txt K mg):T.tu.Ok P w base 4 (QR T):=by
 have S:=OF
 refine T.tu.F.ok S (by rintro _ _ _ _ ⟨p,q,a,b,rfl,_⟩;rfl) fun cdv A outer s H vs Q E hr h=>?_
 ·obtain⟨p,q,a,b,rfl,hp,hq,ha,hb,k⟩:=h
  refine⟨_,(aj (sv 2 S.nd (T.lZ.c (qr T) hr (ak (aN rfl T.de))))
   (ao (az (T.kM.c (oP T) hr (aR (T.tq.c (HQ T) hr (aR (T.kM.c (oP T) hr (aR (pv 0) (pv 2))) (T.kM.c (oP T) hr (aR (pv 1) (pv 2))))) (pv 2)))))),?_⟩
  have hd:=(bV (show 16<=16 by omega)).aa
  refine⟨16,rfl,by decide,fun H1 t s1 f1 h1=>?_⟩
  refine⟨_,rfl,_,rfl,p,t,a,_,rfl,s1 _ _ hp,h1,ha,hd,fun H2 x s2 f2 h2=>?_⟩
  refine⟨_,rfl,_,rfl,q,t,b,_,rfl,s2 _ _ (s1 _ _ hq),s2 _ _ h1,hb,hd,fun H3 y s3 f3 h3=>?_⟩
  refine⟨x,y,_,_,rfl,s3 _ _ h2,h3,ha.then_ hd,hb.then_ hd,fun H4 z s4 f4 h4=>?_⟩
  have hj:aw (Wqaraq.joinOf (Wqaraq.then_ a (Wqaraq.delta 16)) (Wqaraq.then_ b (Wqaraq.delta 16))):=by rw[join_eq (ha.then_ hd) (hb.then_ hd)];exact nM (ha.then_ hd) (hb.then_ hd)
  refine⟨_,rfl,z,t,_,_,rfl,h4,s4 _ _ (s3 _ _ (s2 _ _ h1)),hj,hd,fun H5 r s5 f5 h5=>?_⟩
  have s:=((s1.trans s2).trans s3).trans s4
  refine k H5 r (s.trans s5) (s.free f5) ?_
  rw[MQ ha hb,<-join_eq (ha.then_ hd) (hb.then_ hd)]
  exact h5
def bp(H:Hp):List Addr->List Perm->Prop
 |[],[]=>True
 |r::rs,f::fs=>Ls H r f/\bp H rs fs
 |_,_=>False
theorem bp.len{H:Hp}:∀{rs:List Addr}{fs:List Perm},bp H rs fs->rs.length=fs.length
 |[],[],_=>rfl
 |[],_::_,h=>h.elim
 |_::_,[],h=>h.elim
 |_::rs,_::fs,h=>bO (·+1) h.2.len
theorem bp.get{H:Hp}:∀{rs:List Addr}{fs:List Perm}{i:Nat}{f:Perm},bp H rs fs->fs[i]?=some f->∃r,rs[i]?=some r/\Ls H r f
 |[],[],i,f,_,e=>by simp at e
 |[],_::_,_,_,h,_=>h.elim
 |_::_,[],_,_,h,_=>h.elim
 |r::rs,g::fs,0,f,h,e=>⟨r,rfl,by rw[<-bo e];exact h.1⟩
 |r::rs,g::fs,i+1,f,h,e=>h.2.get (i:=i) e
theorem bp.imp{H H':Hp}:∀{rs:List Addr}{fs:List Perm},bp H rs fs->(∀r f,r∈rs->Ls H r f->Ls H' r f)->bp H' rs fs
 |[],[],_,_=>trivial
 |[],_::_,h,_=>h.elim
 |_::_,[],h,_=>h.elim
 |r::rs,f::fs,h,k=>⟨k r f bE h.1,h.2.imp fun r f hr=>k r f (bH _ hr)⟩
theorem bp.same{H H':Hp}{rs:List Addr}{fs:List Perm}(h:bp H rs fs)(s:ag H H'):bp H' rs fs:=h.imp fun _ _ _ e=>s _ _ e
theorem bp.app{H:Hp}:∀{rs:List Addr}{fs:List Perm}{ts:List Addr}{gs:List Perm},bp H rs fs->bp H ts gs->bp H (rs++ts) (fs++gs)
 |[],[],_,_,_,k=>k
 |[],_::_,_,_,h,_=>h.elim
 |_::_,[],_,_,h,_=>h.elim
 |r::rs,f::fs,_,_,h,k=>⟨h.1,h.2.app k⟩
theorem bp.snoc{H:Hp}{rs:List Addr}{fs:List Perm}{r:Addr}{f:Perm}(h:bp H rs fs)(k:Ls H r f):bp H (rs++[r]) (fs++[f]):=h.app ⟨k,trivial⟩
theorem bp.set{H:Hp}:∀{rs:List Addr}{fs:List Perm}{i:Nat}{r:Addr}{f:Perm},bp H rs fs->Ls H r f->bp H (rs.set i r) (fs.set i f)
 |[],[],_,_,_,_,_=>trivial
 |[],_::_,_,_,_,h,_=>h.elim
 |_::_,[],_,_,_,h,_=>h.elim
 |_::_,_::_,0,_,_,h,k=>⟨k,h.2⟩
 |_::_,_::_,i+1,_,_,h,k=>⟨h.1,h.2.set k⟩
theorem bp.take{H:Hp}:∀{rs:List Addr}{fs:List Perm} (n:Nat),bp H rs fs->bp H (rs.take n) (fs.take n)
 |[],[],n,_=>by rw[List.take_nil,List.take_nil];trivial
 |[],_::_,_,h=>h.elim
 |_::_,[],_,h=>h.elim
 |_::_,_::_,0,_=>trivial
 |_::_,_::_,n+1,h=>⟨h.1,h.2.take n⟩
theorem bp.drop{H:Hp}:∀{rs:List Addr}{fs:List Perm} (n:Nat),bp H rs fs->bp H (rs.drop n) (fs.drop n)
 |[],[],n,_=>by rw[List.drop_nil,List.drop_nil];trivial
 |[],_::_,_,h=>h.elim
 |_::_,[],_,h=>h.elim
 |_::_,_::_,0,h=>h
 |_::_,_::_,n+1,h=>h.2.drop n
theorem bp.erase{H:Hp}:∀{rs:List Addr}{fs:List Perm} (i:Nat),bp H rs fs->bp H (rs.eraseIdx i) (fs.eraseIdx i)
 |[],[],i,_=>trivial
 |[],_::_,_,h=>h.elim
 |_::_,[],_,h=>h.elim
 |_::_,_::_,0,h=>h.2
 |_::_,_::_,i+1,h=>⟨h.1,h.2.erase i⟩
theorem bp.ne{H:Hp}{L:Addr}{qs:List V}:∀{rs:List Addr}{fs:List Perm},bp H rs fs->(∀f,f∈fs->f.length=16)->H L=some (.lst qs)->(∀z,qs[0]?≠some (.int z))->L∉rs
 |[],[],_,_,_,_=>fun h=>by cases h
 |[],_::_,h,_,_,_=>h.elim
 |_::_,[],h,_,_,_=>h.elim
 |r::rs,f::fs,h,k,hL,z=>fun hm=>by
  rcases cj.mp hm with e|e
  ·have h1:=h.1
   have l:=k f bE
   rw[<-e]at h1
   have h1:H L=_:=h1
   rw[hL]at h1
   injection h1 with h1
   injection h1 with h1
   refine z _ (by rw[h1];exact kQ (by omega))
  ·exact h.2.ne (fun f hf=>k f (bH _ hf)) hL z e
theorem j6(rs:List Addr):∀z,(rs.map V.ref)[0]?≠some (.int z):=fun z h=>by
 rw[bX]at h
 cases q:rs[0]? with
 |none=>rw[q]at h;cases h
 |some r=>rw[q]at h;cases h
structure bc(H:Hp)(L:Addr)(rs:List Addr)(fs:List Perm):Prop where
 lst:H L=some (.lst (rs.map V.ref))
 aI:bp H rs fs
theorem bc.l9{H:Hp}{L:Addr}{rs:List Addr}{fs:List Perm}(h:bc H L rs fs)(k:∀f,f∈fs->f.length=16):L∉rs:=h.aI.ne k h.lst (j6 rs)
def bq(L:Addr)(H H':Hp):Prop:=∀b o,H b=some o->b≠L->H' b=some o
theorem bq.aI{L:Addr}{H H':Hp}{rs:List Addr}{fs:List Perm}(s:bq L H H')(h:bp H rs fs)(n:L∉rs):bp H' rs fs:=h.imp fun r f hr e=>s _ _ e fun z=>n (by rw[<-z];exact hr)
theorem bq.trans{L:Addr}{H H1 H2:Hp}(s:bq L H H1)(t:bq L H1 H2):bq L H H2:=fun b o e n=>t b o (s b o e n) n
theorem ag.but{L:Addr}{H H':Hp}(s:ag H H'):bq L H H':=fun b o e _=>s b o e
theorem l_{n:Nat}{l:List Perm}(h:ah n l):∀f,f∈l->f.length=16:=fun f hf=>(h f hf).aa.len
def QS(T:Txt K mg):Sp:=fun vs H Q _=>∃(n:Nat) (p:Addr) (a:Perm) (k:Int),vs=[.int n,.ref p,.int k]/\n<=16/\Ls H p a/\Rt n a/\∀(H':Hp) (r:Addr),ag H H'->Ls H' r (bC n k a)->Q (.ref r) H'
theorem Cj(T:Txt K mg):T.qk.Ok P w base 2 (QS T):=by
 have S:=Oh
 refine T.qk.F.ok S (by rintro _ _ _ _ ⟨n,p,a,k,rfl,_⟩;rfl) fun cdv A outer s H vs Q E hr h=>?_
 ·obtain⟨n,p,a,k,rfl,hn,hp,ha,q⟩:=h
  refine⟨_,(ao (az (gJ (a5 nj (aC pE (pv 2) aq) aq) (T.qh.c (Ce T) hr (aR (pv 0) (pv 1))) (pv 1)))),?_⟩
  refine⟨_,rfl,_,_,rfl,rfl,by show (0:Int)<2;decide,rfl,_,rfl,?_⟩
  refine aS (fun c=>?_) (fun c=>?_)
  ·have c:=a0 c
   injection c with c
   refine⟨_,rfl,_,rfl,n,p,a,rfl,hn,hp,ha,fun H1 r s1 f1 h1=>q H1 r s1 ?_⟩
   unfold bC;rw[af c];exact h1
  ·have c:=a_ c
   refine⟨_,rfl,q H p (ag.refl _) ?_⟩
   unfold bC;rw[ae (fun z=>c (bO V.int z))];exact hp
def QT(T:Txt K mg):Sp:=fun vs H Q _=>∃(p:Addr) (a:Perm),vs=[.ref p]/\Ls H p a/\Val H Q (.bl (decide (a=Wqaraq.still)))
theorem wB(T:Txt K mg):T.n9.Ok P w base 1 (QT T):=by
 have S:=Oi
 refine T.n9.F.ok S (by rintro _ _ _ _ ⟨p,a,rfl,_⟩;rfl) fun cdv A outer s H vs Q E hr h=>?_
 ·obtain⟨p,a,rfl,hp,k⟩:=h
  refine⟨_,(ao (az (jz (pI hr.units) (pv 0) (gL (j4 rfl) rfl T.gB k6 (ak (mS rfl T.cH (ak (aN rfl T.de)))))))),?_⟩
  refine a8 (ic ⟨_,rfl,tP fun H1 r s1 f1 h1=>?_⟩)
  exact BZ (s1 _ _ hp) h1 (k H1 s1)
def QU(T:Txt K mg):Sp:=fun vs H Q _=>∃(L:Addr) (rs:List Addr) (fs:List Perm) (i n:Nat) (a b:Perm),vs=[.ref L,.int (i+1:Nat)]/\n<=16/\bc H L rs fs/\ah n fs/\fs[i]?=some a/\fs[i+1]?=some b/\
 (hand n a b=Wqaraq.still->Val H Q (.bl false))/\
 (hand n a b≠Wqaraq.still->∀(H':Hp) (rs':List Addr),bq L H H'->bc H' L rs' ((fs.set i (Wqaraq.then_ a (hand n a b))).set (i+1) (Wqaraq.then_ (Wqaraq.back (hand n a b)) b))->Q (.bl true) H')
theorem HS{a:List Nat}{i:Nat}(h:i<a.length):a.set i (Wqaraq.at_ a i)=a:=by
 refine List.ext_getElem? fun j=>?_
 rw[qW]
 by_cases e:i=j
 ·subst e
  rw[af rfl,af h,bu h,kE h]
 ·rw[ae e]
theorem HU(T:Txt K mg):T.tf.Ok P w base 2 (QU T):=by
 have S:=Oj
 refine T.tf.F.ok S (by rintro _ _ _ _ ⟨L,rs,fs,i,n,a,b,rfl,_⟩;rfl) fun cdv A outer s H vs Q E hr h=>?_
 ·obtain⟨L,rs,fs,i,n,a,b,rfl,hn,hL,hR,ea,eb,k0,k1⟩:=h
  refine⟨_,(aj (sv 2 S.nd (T.kN.c (oQ T) hr (ak (aM (pv 0) (aC cB (pv 1) aq)))))
   (aj (sv 3 S.nd (gL uL rfl T.gB (by decide+kernel) (ak (aM (pv 0) (pv 1)))))
   (aj (c8 PassesOwn.never rfl (rz rfl T.cH (aR aq (aN rfl T.de))) (gn 4 S.nd) (aj (sv 5 S.nd (aM (pv 2) (pv 4)))
   (aj (sv 6 S.nd (aM (pv 3) (pv 4)))
   (aj (sv 7 S.nd (pv 4))
   (aj (jI PassesOwn.never (PW.pt (lp (a5 eM (pv 7) aq) (lp (a5 gw (aM (pv 2) (aC cB (pv 7) aq)) (pv 5)) (pk (a5 eM (aM (pv 3) (aC cB (pv 7) aq)) (pv 6)))))) (aj (fC (aM (pv 2) (aC cB (pv 7) aq)) (fB (pv 2) (pv 7) set_list))
   (aj (fC (aM (pv 3) (aC cB (pv 7) aq)) (fB (pv 3) (pv 7) set_list))
   (ao (sv 7 S.nd (aC cB (pv 7) aq))))))
   (aj (fC (pv 5) (fB (pv 2) (pv 7) set_list))
   (ao (fC (pv 6) (fB (pv 3) (pv 7) set_list)))))))))
   (aj (bt (a5 (pI hr.units) (pv 3) (aM (pv 0) (pv 1))) (ao (az kg)) bx)
   (aj (fC (T.kN.c (oQ T) hr (ak (pv 2))) (fB (pv 0) (aC cB (pv 1) aq) set_list))
   (aj (fC (pv 3) (fB (pv 0) (pv 1) set_list))
   (ao (az kg)))))))),?_⟩
  have ha:Rt n a:=hR a (m6 ea)
  have hb:Rt n b:=hR b (m6 eb)
  obtain⟨ra,hra,la⟩:=hL.aI.get ea
  obtain⟨rb,hrb,lb⟩:=hL.aI.get eb
  have il:i+1<fs.length:=(dP.mp eb).1
  have rl:=hL.aI.len
  have e1:((i+1:Nat):Int) - 1=(i:Int):=by omega
  refine⟨_,rfl,_,rfl,_,_,rfl,rfl,L,_,_,_,rfl,rfl,ai.of hL.lst,gm e1 hra,ra,a,rfl,la,ha.aa,fun H1 p s1 fp h1=>?_⟩
  refine⟨_,rfl,_,rfl,L,_,_,_,rfl,rfl,ai.of (s1 _ _ hL.lst),gm rfl hrb,rb,_,rfl,.inl (ai.of (s1 _ _ lb)),fun q fq=>?_⟩
  have npq:p≠q:=a7 h1 fq
  have fq0:H q=none:=s1.free fq
  have st:=MX hn (b:=b) ha
  refine⟨1,16,rfl,by omega,i9 (lo:=1) (n:=((16:Int) - 1).toNat) (fun t σ H'=>∃(v4 v5 v6 v7:Option V) (m:Perm),σ=[some (.ref L),some (.int (i+1:Nat)),some (.ref p),some (.ref q),v4,v5,v6,v7]/\ag H H'/\kF n a b m/\Ls H' p (Wqaraq.back (Wqaraq.then_ a m))/\Ls H' q (Wqaraq.then_ (Wqaraq.back m) b)/\∀j,j<t->hJ (Wqaraq.back (Wqaraq.then_ a m)) (Wqaraq.then_ (Wqaraq.back m) b) j)
   ⟨none,none,none,none,Wqaraq.still,rfl,s1.upd fq0,st,?_,?_,fun j hj=>by omega⟩ ?_ ?_⟩
  ·rw[dD ha.aa]
   exact(ax npq).trans h1
  ·rw[show Wqaraq.back Wqaraq.still=Wqaraq.still by decide,fZ hb.aa]
   exact au
  ·rintro t σ H' ht ⟨v4,v5,v6,v7,m,rfl,s,hov,hp,hq,ok⟩
   have ht:t<15:=by omega
   have pA:aw (Wqaraq.back (Wqaraq.then_ a m)):=(ha.aa.then_ hov.rt.aa).back
   have pB:aw (Wqaraq.then_ (Wqaraq.back m) b):=hov.rt.aa.back.then_ hb.aa
   have et:(1:Int)+(t:Int)=((t+1:Nat):Int):=by omega
   generalize hsrc:Wqaraq.at_ (Wqaraq.back (Wqaraq.then_ a m)) (t+1)=src at *
   generalize hgl:Wqaraq.at_ (Wqaraq.then_ (Wqaraq.back m) b) (t+1)=gl at *
   refine⟨_,rfl,_,rfl,p,_,_,_,rfl,rfl,ai.of hp,cZ et (by rw[pA.len];omega),?_⟩
   rw[hsrc]
   refine⟨_,rfl,_,rfl,q,_,_,_,rfl,rfl,ai.of hq,cZ et (by rw[pB.len];omega),?_⟩
   rw[hgl]
   refine⟨_,rfl,?_⟩
   refine⟨fun mm σ H'=>∃(to:Nat) (m:Perm) (Ar Lr:List Nat),mm=to/\σ=[some (.ref L),some (.int (i+1:Nat)),some (.ref p),some (.ref q),some (.int (1+t)),some (.int src),some (.int gl),some (.int to)]/\ag H H'/\kF n a b m/\Ls H' p Ar/\Ls H' q Lr/\Ar.length=16/\Lr.length=16/\Ar.set to src=Wqaraq.back (Wqaraq.then_ a m)/\Lr.set to gl=Wqaraq.then_ (Wqaraq.back m) b/\kG (Wqaraq.back (Wqaraq.then_ a m)) (Wqaraq.then_ (Wqaraq.back m) b) (t+1) to,
    ⟨t+1,t+1,m,_,_,rfl,by rw[<-et];rfl,s,hov,hp,hq,pA.len,pB.len,by rw[<-hsrc];exact HS (by rw[pA.len];omega),by rw[<-hgl];exact HS (by rw[pB.len];omega),kG.start fun j hj=>ok j (by omega)⟩,?_⟩
   rintro to σ H2 ⟨to',m2,Ar,Lr,rfl,rfl,s2,hov2,hp2,hq2,al,ll,eA,eL,inn⟩
   have tle:=inn.le
   have pA2:aw (Wqaraq.back (Wqaraq.then_ a m2)):=(ha.aa.then_ hov2.rt.aa).back
   have pB2:aw (Wqaraq.then_ (Wqaraq.back m2) b):=hov2.rt.aa.back.then_ hb.aa
   have atA:∀j,Wqaraq.at_ (Wqaraq.back (Wqaraq.then_ a m2)) j=if j=to then src else Wqaraq.at_ Ar j:=fun j=>by rw[<-eA];exact jX (by omega)
   have atL:∀j,Wqaraq.at_ (Wqaraq.then_ (Wqaraq.back m2) b) j=if j=to then gl else Wqaraq.at_ Lr j:=fun j=>by rw[<-eL];exact jX (by omega)
   have after:(0<to->hJ (Wqaraq.back (Wqaraq.then_ a m2)) (Wqaraq.then_ (Wqaraq.back m2) b) (to - 1))->
     ∃(v4 v5 v6 v7:Option V) (m:Perm),[some (V.ref L),some (.int (i+1:Nat)),some (.ref p),some (.ref q),some (.int (1+t)),some (.int src),some (.int gl),some (.int to)]=[some (.ref L),some (.int (i+1:Nat)),some (.ref p),some (.ref q),v4,v5,v6,v7]/\ag H (upd (upd H2 p (.lst ((nv Ar).set to (.int src)))) q (.lst ((nv Lr).set to (.int gl))))/\kF n a b m/\Ls (upd (upd H2 p (.lst ((nv Ar).set to (.int src)))) q (.lst ((nv Lr).set to (.int gl)))) p (Wqaraq.back (Wqaraq.then_ a m))/\Ls (upd (upd H2 p (.lst ((nv Ar).set to (.int src)))) q (.lst ((nv Lr).set to (.int gl)))) q (Wqaraq.then_ (Wqaraq.back m) b)/\∀j,j<t+1->hJ (Wqaraq.back (Wqaraq.then_ a m)) (Wqaraq.then_ (Wqaraq.back m) b) j:=fun hk=>by
    refine⟨_,_,_,_,m2,rfl,fun x o e=>?_,hov2,?_,?_,inn.done hk⟩
    ·rw[ax (a7 e fq0),ax (a7 e fp)];exact s2 x o e
    ·refine(ax npq).trans (au.trans ?_)
     rw[l7,eA]
    ·refine au.trans ?_
     rw[l7,eL]
   refine⟨_,rfl,_,_,rfl,rfl,_,rfl,?_⟩
   refine aS (fun c1=>?_) (fun c1=>?_)
   ·have c1:(0:Int)<(to:Int):=a0 c1
    have em:(to:Int) - 1=((to - 1:Nat):Int):=by omega
    have aA:=atA (to - 1)
    have aA2:=atA to
    have aL:=atL (to - 1)
    have aL2:=atL to
    rw[ae (by omega)]at aA aL
    rw[af rfl]at aA2 aL2
    refine⟨_,rfl,_,rfl,_,_,rfl,rfl,p,_,_,_,rfl,rfl,ai.of hp2,cZ em (by omega),_,rfl,_,_,rfl,rfl,_,rfl,?_⟩
    refine aS (fun c2=>?_) (fun c2=>?_)
    ·have c2:=eD.mp (a0 c2)
     refine⟨_,rfl,_,rfl,_,_,rfl,rfl,q,_,_,_,rfl,rfl,ai.of hq2,cZ em (by omega),_,rfl,_,_,rfl,rfl,_,rfl,?_⟩
     refine aS (fun c3=>?_) (fun c3=>?_)
     ·have c3:=eD.mp (a0 c3)
      refine⟨fun σ' H'=>∃m',m'<to/\∃(to:Nat) (m:Perm) (Ar Lr:List Nat),m'=to/\σ'=[some (.ref L),some (.int (i+1:Nat)),some (.ref p),some (.ref q),some (.int (1+t)),some (.int src),some (.int gl),some (.int to)]/\ag H H'/\kF n a b m/\Ls H' p Ar/\Ls H' q Lr/\Ar.length=16/\Lr.length=16/\Ar.set to src=Wqaraq.back (Wqaraq.then_ a m)/\Lr.set to gl=Wqaraq.then_ (Wqaraq.back m) b/\kG (Wqaraq.back (Wqaraq.then_ a m)) (Wqaraq.then_ (Wqaraq.back m) b) (t+1) to,fun σ' H' h=>h,?_⟩
      refine⟨_,rfl,_,rfl,_,_,rfl,rfl,p,_,_,_,rfl,rfl,ai.of hp2,cZ em (by omega),_,rfl,_,rfl,p,_,_,to,rfl,rfl,hp2,d5 rfl (by rw[cG];omega),?_⟩
      refine⟨_,rfl,_,rfl,_,_,rfl,rfl,q,_,_,_,rfl,rfl,ai.of ((ax (fun z=>npq z.symm)).trans hq2),cZ em (by omega),_,rfl,_,rfl,q,_,_,to,rfl,rfl,(ax (fun z=>npq z.symm)).trans hq2,d5 rfl (by rw[cG];omega),?_⟩
      refine⟨_,rfl,_,_,rfl,rfl,?_⟩
      have hs:=hov2.step hn ha hb (i:=to - 1) (by omega) (by rw[show to - 1+1=to by omega,aA,aA2];exact c2) (by rw[show to - 1+1=to by omega,aL,aL2];exact c3)
      refine⟨to - 1,by omega,to - 1,Wqaraq.then_ m2 (Wqaraq.single (to - 1)),Ar.set to (Wqaraq.at_ Ar (to - 1)),Lr.set to (Wqaraq.at_ Lr (to - 1)),rfl,by rw[<-em];rfl,fun x o e=>?_,hs.1,?_,?_,by rw[gp];exact al,by rw[gp];exact ll,?_,?_,?_⟩
      ·rw[ax (a7 e fq0),ax (a7 e fp)];exact s2 x o e
      ·refine(ax npq).trans (au.trans ?_)
       rw[l7]
      ·refine au.trans ?_
       rw[l7]
      ·rw[Fn al (by omega) (by omega),eA,hs.2.1]
      ·rw[Fn ll (by omega) (by omega),eL,hs.2.2]
      ·rw[hs.2.1,hs.2.2]
       exact inn.step (by omega) (by omega) (by rw[aA,aA2];exact c2)
     ·have c3:¬gl<Wqaraq.at_ Lr (to - 1):=fun z=>a_ c3 (eD.mpr z)
      refine⟨_,rfl,_,rfl,_,rfl,p,_,_,to,rfl,rfl,hp2,d5 rfl (by rw[cG];omega),_,rfl,_,rfl,_,rfl,q,_,_,to,rfl,rfl,(ax (fun z=>npq z.symm)).trans hq2,d5 rfl (by rw[cG];omega),after fun _=>?_⟩
      unfold hJ
      rw[show to - 1+1=to by omega,aL,aL2]
      exact fun z=>c3 z.2
    ·have c2:¬Wqaraq.at_ Ar (to - 1)<src:=fun z=>a_ c2 (eD.mpr z)
     refine dH ?_
     refine⟨_,rfl,_,rfl,_,rfl,p,_,_,to,rfl,rfl,hp2,d5 rfl (by rw[cG];omega),_,rfl,_,rfl,_,rfl,q,_,_,to,rfl,rfl,(ax (fun z=>npq z.symm)).trans hq2,d5 rfl (by rw[cG];omega),after fun _=>?_⟩
     unfold hJ
     rw[show to - 1+1=to by omega,aA,aA2]
     exact fun z=>c2 z.1
   ·have c1:¬(0:Int)<(to:Int):=a_ c1
    refine dH ?_
    exact⟨_,rfl,_,rfl,_,rfl,p,_,_,to,rfl,rfl,hp2,d5 rfl (by rw[cG];omega),_,rfl,_,rfl,_,rfl,q,_,_,to,rfl,rfl,(ax (fun z=>npq z.symm)).trans hq2,d5 rfl (by rw[cG];omega),after fun z=>by omega⟩
  ·rintro σ H' ⟨v4,v5,v6,v7,m,rfl,s,hov,hp,hq,ok⟩
   have hm:hand n a b=m:=hov.done hn ha hb fun j hj=>ok j (by omega)
   have pAm:=ha.aa.then_ hov.rt.aa
   refine⟨_,rfl,_,rfl,_,rfl,L,_,_,_,rfl,rfl,ai.of (s _ _ hL.lst),gm rfl hrb,BZ hq (s _ _ lb) ?_⟩
   refine⟨_,rfl,?_⟩
   refine aS (fun c=>?_) (fun c=>?_)
   ·have c:=a0 c
    refine k0 ?_ H' s
    rw[hm]
    have:=c9 hov.rt.aa hb.aa
    rw[c]at this
    have z:Wqaraq.then_ m (Wqaraq.then_ b (Wqaraq.back b))=Wqaraq.then_ b (Wqaraq.back b):=by rw[<-then_assoc hov.rt.aa,this]
    rwa[jR hb.aa,dD hov.rt.aa]at z
   ·have c:=a_ c
    have nm:hand n a b≠Wqaraq.still:=fun z=>c (by
     rw[<-hm,z,show Wqaraq.back Wqaraq.still=Wqaraq.still by decide,fZ hb.aa])
    refine⟨_,rfl,p,_,rfl,hp,pAm.back,fun H2 r s2 fr h2=>?_⟩
    rw[Eo pAm]at h2
    have s02:=s.trans s2
    have hL2:=s02 _ _ hL.lst
    refine⟨_,rfl,_,rfl,_,_,rfl,rfl,L,_,_,i,rfl,rfl,hL2,d5 e1 (by rw[aE];omega),?_⟩
    refine⟨_,rfl,_,rfl,_,rfl,L,_,_,i+1,rfl,rfl,au,d5 rfl (by rw[gp,aE];omega),?_⟩
    refine k1 nm _ ((rs.set i r).set (i+1) q) (fun x o e hx=>by rw[ax hx,ax hx];exact s02 x o e) ⟨?_,?_⟩
    ·rw[au,List.map_set,List.map_set]
    ·have nL:=hL.l9 (l_ hR)
     have rL:r≠L:=fun z=>by rw[z,s _ _ hL.lst]at fr;cases fr
     have qL:q≠L:=fun z=>by rw[z,s1 _ _ hL.lst]at fq;cases fq
     rw[hm]
     refine bp.set (bp.set (hL.aI.imp fun x f hx e=>?_) ?_) ?_
     ·have:x≠L:=fun z=>nL (by rw[<-z];exact hx)
      exact(ax this).trans ((ax this).trans (s02 _ _ e))
     ·exact(ax rL).trans ((ax rL).trans h2)
     ·exact(ax qL).trans ((ax qL).trans (s2 _ _ hq))
theorem ik{t:TS}{D:Ends}{σ:L2.St}{H:Hp}(Fin:L2.St->Hp->Prop)(tail:∀σ H,Fin σ H->D.nx σ H)(main:(∀σ H,Fin σ H->D.nx σ H)->t D σ H):t D σ H:=main tail
theorem HV{α:Type}(l m:List α)(a b x y:α):((l++a::b::m).set l.length x).set (l.length+1) y=l++x::y::m:=by
 rw[List.set_append_right _ _ (aX _),o4]
 rw[List.set_append_right _ _ (by omega),show l.length+1 - l.length=1 by omega]
 rfl
theorem kS{α:Type}(l m:List α)(a:α):(l++a::m)[l.length]?=some a:=by
 rw[oV (aX _),o4];rfl
theorem HW{α:Type}(l m:List α)(a b:α):(l++a::b::m)[l.length+1]?=some b:=by
 rw[oV (by omega),show l.length+1 - l.length=1 by omega];rfl
theorem HX:∀(rs:List Addr) (i:Nat),(rs.map V.ref).eraseIdx i=(rs.eraseIdx i).map V.ref
 |[],_=>rfl
 |_::_,0=>rfl
 |r::rs,i+1=>bO (V.ref r::·) (HX rs i)
def QV(T:Txt K mg):Sp:=fun vs H Q _=>∃(n:Nat) (L f:Addr) (rs:List Addr) (l:List Perm) (c:Perm),vs=[.int n,.ref L,.ref f]/\2<=n/\n<=16/\bc H L rs l/\ah n l/\l.length<=50000/\Ls H f c/\Rt n c/\
 ∀(H':Hp) (rs':List Addr),bq L H H'->bc H' L rs' (cF n 0 (cg n l.reverse c [])).factors->Q (.int (cF n 0 (cg n l.reverse c [])).twists) H'
theorem QW{n:Nat}{r s:List Perm}:cg n r (Wqaraq.delta n) s=(r,Wqaraq.delta n,s):=by
 cases r with
 |nil=>rfl
 |cons a r=>unfold cg;rw[af rfl]
theorem QX{n:Nat}{r s:List Perm}{a c:Perm}(h1:c≠Wqaraq.delta n)(h:hand n a c=Wqaraq.still):cg n (a::r) c s=(a::r,c,s):=by
 unfold cg;rw[ae h1,af h]
theorem QY{n:Nat}{r s:List Perm}{a c:Perm}(h1:c≠Wqaraq.delta n)(h:hand n a c≠Wqaraq.still):cg n (a::r) c s=cg n r (Wqaraq.then_ a (hand n a c)) (Wqaraq.then_ (Wqaraq.back (hand n a c)) c::s):=by
 rw[cg,ae h1,ae h]
theorem Ck{α:Type}(l:List α)(a:α):gM (l++[a]) (-1)=some a:=K3 l a
theorem HY(T:Txt K mg):T.kH.Ok P w base 3 (QV T):=by
 have S:=Ol
 refine T.kH.F.ok S (by rintro _ _ _ _ ⟨n,L,f,rs,l,c,rfl,_⟩;rfl) fun cdv A outer s H vs Q E hr h=>?_
 ·obtain⟨n,L,f,rs,l,c,rfl,n2,hn,hL,hR,hl,hf,hc,k⟩:=h
  refine⟨_,(aj (sv 3 S.nd (T.lZ.c (qr T) hr (ak (pv 0))))
   (aj (dR (j5 (pv 1) (pv 2)))
   (aj (sv 4 S.nd (aC cB (c5 T.cW (pv 1)) aq))
   (aj (jI PassesOwn.never (PW.pt (lp (a5 (LB hr.units) (aM (pv 1) (pv 4)) (pv 3)) (lp (a5 eM (pv 4) aq) (pk (cq (T.tf.c (HU T) hr (aR (pv 1) (pv 4)))))))) (ao (sv 4 S.nd (aC cB (pv 4) aq))))
   (aj (sv 5 S.nd (jz (pI hr.units) (aM (pv 1) (pv 4)) (pv 3)))
   (aj (bt (cq (pv 5)) (aj (dR (uM xo PySem.F.slot_list_pop PySem.F.type_list_pop DP (pv 1) (ak (pv 4))))
   (ao (c8 PassesOwn.never rfl (iH rfl T.cH (ak (pv 4))) (gn 6 S.nd) (ao (fC (T.qh.c (Ce T) hr (aR (pv 0) (aM (pv 1) (pv 6)))) (fB (pv 1) (pv 6) set_list)))))) bx)
   (aj (bt (PW.pt (lp (a5 eM (c5 T.cW (pv 1)) aq) (pk (cq (T.n9.c (wB T) hr (ak (aM (pv 1) (iI iJ aq)))))))) (ao (dR (Lf xo PySem.F.slot_list_pop PySem.F.type_list_pop Ll (pv 1)))) bx)
   (ao (az (gJ (cq (pv 5)) aq aq)))))))))),?_⟩
  have nL:=hL.l9 (l_ hR)
  have fL:f≠L:=fun z=>by
   have:=hf
   rw[z]at this
   have h1:H L=_:=this
   rw[hL.lst]at h1
   injection h1 with h1
   injection h1 with h1
   exact j6 rs _ (by rw[h1];exact kQ (by rw[hc.aa.len];decide))
  refine⟨_,rfl,n,rfl,hn,fun H1 t s1 f1 h1=>?_⟩
  have tL:t≠L:=fun z=>by rw[z,hL.lst]at f1;cases f1
  refine⟨_,rfl,.inl ⟨rfl,_,ai.of (s1 _ _ hL.lst)⟩,_,rfl,L,_,_,rfl,rfl,s1 _ _ hL.lst,small (by rw[aE,hL.aI.len];omega),?_⟩
  refine⟨_,rfl,L,_,rfl,.inl (ai.of au),_,_,rfl,rfl,?_⟩
  have b1:bq L H (upd H1 L (.lst (rs.map V.ref++[V.ref f]))):=fun b o e hb=>by rw[ax hb];exact s1 b o e
  have F1:bc (upd H1 L (.lst (rs.map V.ref++[V.ref f]))) L (rs++[f]) (l++[c]):=by
   refine⟨by rw[au,cN];rfl,bp.snoc (b1.aI hL.aI nL) ?_⟩
   exact(ax fL).trans (s1 _ _ hf)
  have t1:Ls (upd H1 L (.lst (rs.map V.ref++[V.ref f]))) t (Wqaraq.delta n):=(ax tL).trans h1
  have el:(((rs.map V.ref++[V.ref f]).length:Nat):Int) - 1=(l.length:Int):=by rw[bF,aE,hL.aI.len];simp
  dsimp only [dt]
  rw[el]
  generalize upd H1 L (.lst (rs.map V.ref++[V.ref f]))=H2 at *
  generalize hZ:cg n l.reverse c []=Z at *
  have hRc:ah n (l++[c]):=ah.append hR (ah.cons hc ah.nil)
  refine aQ (ik (fun σ H'=>∃(rs':List Addr),σ=[some (.int n),some (.ref L),some (.ref f),some (.ref t),some (.int Z.1.length),none,none]/\bq L H H'/\bc H' L rs' (Z.1.reverse++Z.2.1::Z.2.2)/\ah n (Z.1.reverse++Z.2.1::Z.2.2)/\Ls H' t (Wqaraq.delta n)/\(Z.1.reverse++Z.2.1::Z.2.2).length<=50001) ?_ ?_)
  ·obtain⟨r,cc,s⟩:=Z
   rintro σ H3 ⟨rs',rfl,b3,F3,R3,t3,l3⟩
   dsimp only at F3 R3 l3 ⊢
   have gc:(r.reverse++cc::s)[r.length]?=some cc:=by rw[<-cJ];exact kS _ _ _
   obtain⟨pc,hpc,lc⟩:=F3.aI.get gc
   refine aQ (bz (ic ?_))
   refine⟨_,rfl,_,rfl,L,_,_,_,rfl,rfl,ai.of F3.lst,gm rfl hpc,_,rfl,BZ lc t3 ?_⟩
   dsimp only [dt]
   have nL3:=F3.l9 (l_ R3)
   refine aQ (ik (fun σ H'=>∃(rs4:List Addr) (X:List Perm) (v4 v6:Option V),σ=[some (.int n),some (.ref L),some (.ref f),some (.ref t),v4,some (.bl (decide (cc=Wqaraq.delta n))),v6]/\bq L H H'/\bc H' L rs4 X/\ah n X/\X.length<=50001/\cF n 0 (r,cc,s)=⟨if cc=Wqaraq.delta n then 1 else 0,trim X⟩) ?_ ?_)
   ·rintro σ H4 ⟨rs4,X,v4,v6,rfl,b4,F4,R4,l4,ek⟩
    dsimp only
    have l4r:rs4.length=X.length:=F4.aI.len
    have fin2:∀(H5:Hp) (rs5:List Addr),bq L H H5->bc H5 L rs5 (trim X)->jH (CY (tB (cK 5)) (tC (V.int 1)) (tC (V.int 0))) {nx:=fun x H'=>Q V.aW H',rt:=Q} [some (.int n),some (.ref L),some (.ref f),some (.ref t),v4,some (.bl (decide (cc=Wqaraq.delta n))),v6] H5:=by
     intro H5 rs5 b5 F5
     have kk:=k H5 rs5 b5
     rw[ek]at kk
     have kk:=kk F5
     refine⟨_,rfl,_,rfl,?_⟩
     refine aS (fun c=>?_) (fun c=>?_)
     ·rw[af (a0 c)]at kk;exact kk
     ·rw[ae (a_ c)]at kk;exact kk
    refine aQ (dE (HA ?_))
    refine⟨_,rfl,L,_,rfl,.inl (ai.of F4.lst),_,_,rfl,rfl,_,rfl,?_⟩
    rcases xj X with e|⟨Y,y,e⟩
    ·refine aS (fun c=>?_) (fun c=>?_)
     ·have c:(0:Int)<((rs4.map V.ref).length:Nat):=a0 c
      rw[aE,l4r,e]at c
      exact absurd c (by decide)
     ·refine dH ?_
      refine fin2 H4 rs4 b4 ?_
      rw[e]at F4 ⊢
      exact F4
    ·rw[xm]at e
     subst e
     have gy:(Y++[y])[Y.length]?=some y:=kS _ _ _
     obtain⟨py,hpy,ly⟩:=F4.aI.get gy
     have rl:rs4.length=Y.length+1:=by rw[l4r,bF];rfl
     obtain⟨ry,er⟩:∃ry,rs4=ry++[py]:=by
      refine⟨rs4.take Y.length,?_⟩
      have:=List.take_append_drop Y.length rs4
      rw[o9 (by omega),q_ (by omega)]at this
      rw[bu (by omega)]at hpy
      rw[bo hpy]at this
      exact this.symm
     subst er
     have ryl:ry.length=Y.length:=by simpa using rl
     refine aS (fun c=>?_) (fun c=>?_)
     ·refine⟨_,rfl,_,rfl,L,_,_,_,rfl,rfl,ai.of F4.lst,by rw[cN];exact Ck _ _,py,y,rfl,ly,fun H5 s5=>?_⟩
      refine⟨_,rfl,?_⟩
      have F5:bc H5 L (ry++[py]) (Y++[y]):=⟨s5 _ _ F4.lst,F4.aI.same s5⟩
      refine aS (fun c2=>?_) (fun c2=>?_)
      ·have c2:=a0 c2
       have F5l:H5 L=some (.lst (ry.map V.ref++[V.ref py])):=by rw[F5.lst,cN];rfl
       refine⟨_,rfl,.inl ⟨rfl,_,ai.of F5l⟩,L,_,V.ref py,rfl,rfl,F5l,?_,?_⟩
       ·rw[bF,oW,Nat.add_sub_cancel];exact kS _ _ _
       ·refine fin2 _ ry (fun b o e hb=>by rw[ax hb];exact s5 b o (b4 b o e hb)) ?_
        rw[sL,af c2]
        have nLy:=F5.l9 (l_ R4)
        refine⟨by rw[au,xi],?_⟩
        have:=(F5.aI.take Y.length)
        rw[List.take_left' ryl,List.take_left' rfl]at this
        refine this.imp fun r f hr e=>?_
        have:r≠L:=fun z=>nLy (by rw[<-z];exact jB _ hr)
        exact(ax this).trans e
      ·have c2:=a_ c2
       refine fin2 H5 (ry++[py]) (b4.trans (ag.but s5)) ?_
       rw[sL,ae c2]
       exact F5
     ·have c:¬(0:Int)<(((ry++[py]).map V.ref).length:Nat):=a_ c
      rw[aE,bF,oW]at c
      omega
   ·intro fin
    refine⟨_,rfl,_,rfl,?_⟩
    refine aS (fun c=>?_) (fun c=>?_)
    ·have c:=a0 c
     have F3l:=F3.lst
     have rb:r.length<=50001:=by rw[bF,cJ]at l3;omega
     refine⟨_,rfl,.inl ⟨rfl,_,ai.of F3l⟩,_,rfl,L,_,_,r.length,V.ref pc,rfl,rfl,F3l,by omega,by omega,?_,by rw[bX,hpc];rfl,?_⟩
     ·have:r.length<(rs'.map V.ref).length:=by
       rw[aE,F3.aI.len,bF,cJ,bP];omega
      exact seqIndex_of (by omega) (by omega)
     have ee:(r.reverse++cc::s).eraseIdx r.length=r.reverse++s:=by
      rw[List.eraseIdx_append_of_length_le (by rw[cJ];exact aX _),cJ,o4];rfl
     have F4:bc (upd H3 L (.lst ((rs'.map V.ref).eraseIdx r.length))) L (rs'.eraseIdx r.length) (r.reverse++s):=by
      refine⟨by rw[au,HX],?_⟩
      rw[<-ee]
      refine(F3.aI.erase r.length).imp fun x g hx e=>?_
      have:x≠L:=fun z=>nL3 (by rw[<-z];exact(List.eraseIdx_sublist _ _).subset hx)
      exact(ax this).trans e
     have b4:bq L H (upd H3 L (.lst ((rs'.map V.ref).eraseIdx r.length))):=fun b o e hb=>by rw[ax hb];exact b3 b o e hb
     have hRr:ah n r.reverse:=fun x hx=>R3 x (jB _ hx)
     have hRs:ah n s:=fun x hx=>R3 x (d6 _ (bH _ hx))
     have l4:(r.reverse++s).length<=50001:=by
      rw[bF]at l3 ⊢
      rw[bP]at l3;omega
     generalize upd H3 L (.lst ((rs'.map V.ref).eraseIdx r.length))=H4 at *
     refine⟨_,rfl,r.length,rfl,by omega,by omega,i9 (lo:=0) (n:=((r.length:Nat):Int).toNat) (fun i σ H'=>∃(rs5:List Addr) (v6:Option V),σ=[some (.int n),some (.ref L),some (.ref f),some (.ref t),some (.int r.length),some (.bl (decide (cc=Wqaraq.delta n))),v6]/\bq L H H'/\bc H' L rs5 (tl n (r.reverse.take i)++(r.reverse.drop i++s))/\i<=r.length)
      ⟨_,none,rfl,b4,F4,be _⟩ ?_ ?_⟩
     ·rintro i σ H5 hi ⟨rs5,v6,rfl,b5,F5,_⟩
      have hi:i<r.length:=by omega
      have hir:i<r.reverse.length:=by rw[cJ];exact hi
      have ed:r.reverse.drop i=r.reverse[i]::r.reverse.drop (i+1):=o9 hir
      have tll:(tl n (r.reverse.take i)).length=i:=by unfold BB.tl;rw[aE,dz];omega
      rw[ed,List.cons_append]at F5
      have gx:(tl n (r.reverse.take i)++r.reverse[i]::(r.reverse.drop (i+1)++s))[i]?=some r.reverse[i]:=by
       have:=kS (tl n (r.reverse.take i)) (r.reverse.drop (i+1)++s) r.reverse[i]
       rwa[tll]at this
      obtain⟨px,hpx,lx⟩:=F5.aI.get gx
      have hx:Rt n r.reverse[i]:=hRr _ (iY hir)
      have e0:(0:Int)+(i:Int)=(i:Int):=by omega
      have R5:ah n (tl n (r.reverse.take i)++r.reverse[i]::(r.reverse.drop (i+1)++s)):=by
       refine ah.append (mK hn fun x hx=>hRr x (mw hx)) (ah.cons hx (ah.append (fun x hx=>hRr x (List.mem_of_mem_drop hx)) hRs))
      have nL5:=F5.l9 (l_ R5)
      refine⟨_,rfl,_,rfl,_,rfl,L,_,_,_,rfl,rfl,ai.of F5.lst,gm e0 hpx,n,px,_,rfl,hn,lx,hx,fun H6 y s6 f6 h6=>?_⟩
      have yL:y≠L:=fun z=>by rw[z,F5.lst]at f6;cases f6
      have il5:i<rs5.length:=(dP.mp hpx).1
      refine⟨_,rfl,_,rfl,L,_,_,i,rfl,rfl,s6 _ _ F5.lst,d5 e0 (by rw[aE];exact il5),?_⟩
      refine⟨rs5.set i y,_,rfl,fun b o e hb=>by rw[ax hb];exact s6 _ _ (b5 b o e hb),⟨by rw[au,List.map_set],?_⟩,by omega⟩
      have es:tl n (r.reverse.take (i+1))++(r.reverse.drop (i+1)++s)=(tl n (r.reverse.take i)++r.reverse[i]::(r.reverse.drop (i+1)++s)).set i (Wqaraq.turned n r.reverse[i]):=by
       rw[List.set_append_right _ _ (by omega),tll,o4,i0,bu hir]
       unfold BB.tl
       rw[cN,dG];rfl
      rw[es]
      refine bp.set (F5.aI.imp fun x g hx e=>?_) ?_
      ·have:x≠L:=fun z=>nL5 (by rw[<-z];exact hx)
       exact(ax this).trans (s6 _ _ e)
      ·exact(ax yL).trans h6
     ·rintro σ H5 ⟨rs5,v6,rfl,b5,F5,_⟩
      rw[show ((r.length:Nat):Int).toNat=r.length by omega,<-cJ,gU,List.drop_length,kY]at F5
      refine fin _ _ ⟨rs5,_,_,v6,rfl,b5,F5,ah.append (mK hn hRr) hRs,?_,?_⟩
      ·unfold BB.tl
       rw[bF,aE]
       rw[bF]at l4
       exact l4
      ·unfold cF
       dsimp only
       rw[af c,af c]
       rfl
    ·have c:=a_ c
     refine fin _ _ ⟨rs',_,_,_,rfl,b3,F3,R3,l3,?_⟩
     unfold cF
     dsimp only
     rw[ae c,ae c]
  ·intro fin
   refine⟨fun mm σ H'=>∃(rs':List Addr) (r s:List Perm) (cc:Perm),mm=r.length/\σ=[some (.int n),some (.ref L),some (.ref f),some (.ref t),some (.int r.length),none,none]/\bq L H H'/\bc H' L rs' (r.reverse++cc::s)/\ah n (r.reverse++cc::s)/\Ls H' t (Wqaraq.delta n)/\(r.reverse++cc::s).length<=50001/\cg n r cc s=Z,
    ⟨_,rs++[f],l.reverse,[],c,rfl,by rw[cJ];rfl,b1,by rw[um];exact F1,by rw[um];exact hRc,t1,by rw[um,bF,oW];omega,hZ⟩,?_⟩
   rintro mm σ H3 ⟨rs',r,s,cc,rfl,rfl,b3,F3,R3,t3,l3,e3⟩
   have gc:(r.reverse++cc::s)[r.length]?=some cc:=by rw[<-cJ];exact kS _ _ _
   obtain⟨pc,hpc,lc⟩:=F3.aI.get gc
   refine HA (ig (ic ?_))
   refine⟨_,rfl,_,rfl,L,_,_,_,rfl,rfl,ai.of F3.lst,gm rfl hpc,_,rfl,P6 lc t3 ?_⟩
   refine⟨_,rfl,?_⟩
   refine aS (fun c1=>?_) (fun c1=>?_)
   ·have c1:cc≠Wqaraq.delta n:=by rw[fu]at c1;exact a_ c1
    refine⟨_,rfl,_,_,rfl,rfl,_,rfl,?_⟩
    refine aS (fun c2=>?_) (fun c2=>?_)
    ·have c2:(0:Int)<(r.length:Int):=a0 c2
     cases r with
     |nil=>simp at c2
     |cons a r=>
      have e4:(a::r).reverse++cc::s=r.reverse++a::cc::s:=by rw[mv,dG];rfl
      rw[e4]at F3 R3 l3
      have ga:(r.reverse++a::cc::s)[r.length]?=some a:=by rw[<-cJ];exact kS _ _ _
      have gb:(r.reverse++a::cc::s)[r.length+1]?=some cc:=by
       have:=HW r.reverse s a cc
       rwa[cJ]at this
      refine⟨_,rfl,_,rfl,L,rs',_,r.length,n,a,cc,rfl,hn,F3,R3,ga,gb,fun hs H4 s4=>?_,fun hs H4 rs4 b4 F4=>?_⟩
      ·refine⟨_,rfl,dH ?_⟩
       rw[QX c1 hs]at e3
       subst e3
       refine fin _ _ ⟨rs',rfl,b3.trans (ag.but s4),⟨s4 _ _ F3.lst,?_⟩,?_,s4 _ _ t3,?_⟩
       ·rw[e4];exact F3.aI.same s4
       ·rw[e4];exact R3
       ·rw[e4];exact l3
      ·refine⟨_,rfl,fY ⟨fun σ' H'=>∃m',m'<(a::r).length/\∃(rs':List Addr) (r s:List Perm) (cc:Perm),m'=r.length/\σ'=[some (.int n),some (.ref L),some (.ref f),some (.ref t),some (.int r.length),none,none]/\bq L H H'/\bc H' L rs' (r.reverse++cc::s)/\ah n (r.reverse++cc::s)/\Ls H' t (Wqaraq.delta n)/\(r.reverse++cc::s).length<=50001/\cg n r cc s=Z,fun σ' H' h=>h,?_⟩⟩
       refine⟨_,rfl,_,_,rfl,rfl,?_⟩
       have sm:=HV r.reverse s a cc (Wqaraq.then_ a (hand n a cc)) (Wqaraq.then_ (Wqaraq.back (hand n a cc)) cc)
       rw[cJ]at sm
       rw[sm]at F4
       have hRr:ah n r.reverse:=fun x hx=>R3 x (jB _ hx)
       have hRs:ah n (a::cc::s):=fun x hx=>R3 x (d6 _ hx)
       have hm:=c_ hn hRs.head hRs.tail.head
       refine⟨r.length,by simp,rs4,r,Wqaraq.then_ (Wqaraq.back (hand n a cc)) cc::s,Wqaraq.then_ a (hand n a cc),rfl,?_,b3.trans b4,F4,?_,b4 _ _ t3 tL,?_,?_⟩
       ·show [some (V.int n),some (V.ref L),some (V.ref f),some (V.ref t),some (V.int (((r.length+1:Nat):Int) - 1)),none,none]=_
        rw[show ((r.length+1:Nat):Int) - 1=(r.length:Int) by omega]
       ·exact ah.append hRr (ah.cons (hRs.head.then_ hm) (ah.cons (jU hn hRs.head hRs.tail.head) hRs.tail.tail))
       ·simpa using l3
       ·rw[<-QY c1 hs];exact e3
    ·have c2:¬(0:Int)<(r.length:Int):=a_ c2
     refine dH ?_
     have:r=[]:=qT.mp (by omega)
     subst this
     rw[show cg n [] cc s=([],cc,s) from rfl]at e3
     subst e3
     exact fin _ _ ⟨rs',rfl,b3,F3,R3,t3,l3⟩
   ·have c1:cc=Wqaraq.delta n:=by rw[i4]at c1;exact a0 c1
    refine dH ?_
    rw[c1,QW]at e3
    subst e3
    rw[c1]at F3 R3 l3
    exact fin _ _ ⟨rs',rfl,b3,F3,R3,t3,l3⟩
def QZ(T:Txt K mg):Sp:=fun vs H Q _=>∃(L f:Addr) (rs:List Addr) (a:Perm) (s:List Perm) (x:Perm) (n:Nat),vs=[.ref L,.ref f]/\n<=16/\bc H L rs (a::s)/\ah n (a::s)/\Nf n s/\s.length<=50000/\Ls H f x/\Rt n x/\
 ∀(H':Hp) (L':Addr) (rs':List Addr),ag H H'->H L'=none->bc H' L' rs' (quot n x (a::s))->Q (.ref L') H'
theorem bp.filter{H:Hp}(p:Perm->Bool):∀{rs:List Addr}{fs:List Perm},bp H rs fs->bp H (((rs.zip fs).filter fun x=>p x.2).map fun x=>x.1) (fs.filter p)
 |[],[],_=>trivial
 |[],_::_,h=>h.elim
 |_::_,[],h=>h.elim
 |r::rs,f::fs,h=>by
  rw[List.zip_cons_cons,List.filter_cons,List.filter_cons]
  by_cases c:p f=true
  ·rw[af c,af c]
   exact⟨h.1,h.2.filter p⟩
  ·rw[ae c,ae c]
   exact h.2.filter p
theorem bp.mem{H:Hp}:∀{rs:List Addr}{fs:List Perm}{x:Addr×Perm},bp H rs fs->x∈rs.zip fs->Ls H x.1 x.2
 |[],[],_,_,h=>by cases h
 |[],_::_,_,h,_=>h.elim
 |_::_,[],_,h,_=>h.elim
 |r::rs,f::fs,x,h,hx=>by
  rw[List.zip_cons_cons]at hx
  rcases cj.mp hx with e|hx
  ·rw[e];exact h.1
  ·exact h.2.mem hx
theorem HZ(n:Nat):∀(a:Perm) (s:List Perm),(gg n a s).length=s.length+1
 |a,[]=>rfl
 |a,c::s=>by
  unfold gg
  split
  ·rfl
  ·split
   ·rfl
   ·rw[bP,HZ n,bP]
theorem Q0{n:Nat}{s:List Perm}:gg n Wqaraq.still s=Wqaraq.still::s:=by
 cases s with
 |nil=>rfl
 |cons c s=>unfold gg;rw[af rfl]
theorem Q1{n:Nat}{a c:Perm}{s:List Perm}(h:hand n a c=Wqaraq.still):gg n a (c::s)=a::c::s:=by
 rw[gg,af h,ite_self]
theorem Q2{n:Nat}{a c:Perm}{s:List Perm}(h1:a≠Wqaraq.still)(h:hand n a c≠Wqaraq.still):gg n a (c::s)=Wqaraq.then_ a (hand n a c)::gg n (Wqaraq.then_ (Wqaraq.back (hand n a c)) c) s:=by
 rw[gg,ae h1,ae h]
theorem H0(T:Txt K mg):T.tj.Ok P w base 3 (QZ T):=by
 have S:=Om
 refine T.tj.F.ok S (by rintro _ _ _ _ ⟨L,f,rs,a,s,x,n,rfl,_⟩;rfl) fun cdv A outer s H vs Q E hr h=>?_
 ·obtain⟨L,f,rs,a,s,x,n,rfl,hn,hL,hR,nfs,sl,hf,hx,k⟩:=h
  refine⟨_,(aj (sv 2 S.nd (gL uL rfl T.gB (by decide+kernel) (ak (pv 0))))
   (aj (fC (T.kM.c (oP T) hr (aR (T.kN.c (oQ T) hr (ak (pv 1))) (aM (pv 2) aq))) (fB (pv 2) aq set_list))
   (aj (sv 3 S.nd aq)
   (aj (jI PassesOwn.never (PW.pt (lp (a5 gw (pv 3) (c5 T.cW (pv 2))) (lp (dX (cq (T.n9.c (wB T) hr (ak (aM (pv 2) (aC cB (pv 3) aq)))))) (pk (cq (T.tf.c (HU T) hr (aR (pv 2) (pv 3)))))))) (ao (sv 3 S.nd (aC bZ (pv 3) aq))))
   (ao (az (iM (own:=[("a",4)]) rfl S.nd (fF (pv 2)) (fI (by rfl)) (fun _ _ _ _ _=>(eJ (i:=4) S.nd rfl (Or.inl rfl))) (fun _ _ _ _ _=>rK (dX (cq (T.n9.c (wB T) hr (ak (pv 4)))))) (fun _ _ _ _ _=>(pv 4))))))))),?_⟩
  have rl:rs.length=s.length+1:=hL.aI.len
  refine⟨_,rfl,L,_,rfl,.inl (ai.of hL.lst),fun M fM=>?_⟩
  have s1:=ag.bA (o:=.lst (rs.map V.ref)) fM
  refine⟨_,rfl,f,x,rfl,s1 _ _ hf,hx.aa,fun H2 b s2 fb hb=>?_⟩
  have s02:=s1.trans s2
  have hM2:H2 M=some (.lst (rs.map V.ref)):=s2 _ _ au
  obtain⟨r0,hr0,l0⟩:=hL.aI.get (i:=0) (f:=a) rfl
  refine⟨_,rfl,M,_,_,_,rfl,rfl,ai.of hM2,gm rfl hr0,b,r0,_,a,rfl,hb,s02 _ _ l0,hx.aa.back,hR.head.aa,fun H3 y s3 fy hy=>?_⟩
  have s03:=s02.trans s3
  have hM3:=s3 _ _ hM2
  have yM:y≠M:=fun z=>by rw[z,hM2]at fy;cases fy
  refine⟨_,rfl,M,_,_,0,rfl,rfl,hM3,d5 rfl (by rw[aE];omega),?_⟩
  have rM:∀r,r∈rs->r≠M:=fun r hr z=>by
   obtain⟨i,hi,e⟩:=xn hr
   have hi2:i<(a::s).length:=by rw[bP];omega
   obtain⟨r',e',l'⟩:=hL.aI.get (bu hi2)
   rw[bu hi,e]at e'
   rw[<-bo e',z]at l'
   have l':H M=_:=l'
   rw[fM]at l';cases l'
  have F4:bc (upd H3 M (.lst ((rs.map V.ref).set 0 (V.ref y)))) M (rs.set 0 y) (Wqaraq.then_ (Wqaraq.back x) a::s):=by
   refine⟨by rw[au,List.map_set],?_⟩
   have:bp (upd H3 M (.lst ((rs.map V.ref).set 0 (V.ref y)))) rs (a::s):=hL.aI.imp fun r g hr e=>(ax (rM r hr)).trans (s03 _ _ e)
   exact this.set (i:=0) ((ax yM).trans hy)
  have s04:ag H (upd H3 M (.lst ((rs.map V.ref).set 0 (V.ref y)))):=s03.upd fM
  generalize upd H3 M (.lst ((rs.map V.ref).set 0 (V.ref y)))=H4 at *
  have R4:ah n (Wqaraq.then_ (Wqaraq.back x) a::s):=ah.cons (hx.back.then_ hR.head) hR.tail
  have eq:quot n x (a::s)=ins n (Wqaraq.then_ (Wqaraq.back x) a) s:=rfl
  rw[eq,<-FL hn R4.head R4.tail nfs]at k
  have Wl:=HZ n (Wqaraq.then_ (Wqaraq.back x) a) s
  generalize hW:gg n (Wqaraq.then_ (Wqaraq.back x) a) s=W at *
  dsimp only
  refine aQ (bz ?_)
  dsimp only [tC,dt]
  refine aQ (ik (fun σ H'=>∃(rs':List Addr) (v3:Option V),σ=[some (.ref L),some (.ref f),some (.ref M),v3,none]/\ag H H'/\bc H' M rs' W) ?_ ?_)
  ·rintro σ H5 ⟨rs',v3,rfl,s5,F5⟩
   dsimp only
   refine a8 (gS ?_)
   have zl:(rs'.zip W).map (fun z=>V.ref z.1)=rs'.map V.ref:=by
    rw[show (fun z:Addr×Perm=>V.ref z.1)=V.ref ∘ Prod.fst from rfl,<-dq,List.map_fst_zip (by rw[F5.aI.len];exact aX _)]
   refine⟨_,rfl,M,rfl,⟨_,ai.of F5.lst⟩,qp (l:=rs'.zip W) (em:=fun z=>V.ref z.1) (fun z=>z.2 != Wqaraq.still) (fun z=>V.ref z.1) (ai.of (by rw[zl];exact F5.lst)) (by rw[List.length_zip,Wl];omega) ?_ ?_⟩
   ·intro z H6 hz s6 R Nx k1 k2
    have lz:=F5.aI.mem hz
    refine⟨rfl,⟨_,rfl,z.1,z.2,rfl,s6 _ _ lz,fun H7 s7=>⟨_,rfl,?_⟩⟩⟩
    refine aS (fun c=>⟨_,rfl,k1 ?_ _ s7⟩) (fun c=>k2 ?_ _ s7)
    ·rw[fu]at c
     exact bne_iff_ne.mpr (a_ c)
    ·rw[i4]at c
     rw[a0 c];simp
   ·intro H6 D s6 fD h6
    refine k H6 D (((rs'.zip W).filter fun z=>z.2 != Wqaraq.still).map fun z=>z.1) (s5.trans s6) (s5.free fD) ⟨?_,?_⟩
    ·rw[h6,dq];rfl
    ·exact(F5.aI.filter (fun g=>g != Wqaraq.still)).same s6
  ·intro fin
   refine⟨fun mm σ H'=>∃(rs':List Addr) (q t:List Perm) (cc:Perm),mm=t.length/\σ=[some (.ref L),some (.ref f),some (.ref M),some (.int (q.length+1:Nat)),none]/\ag H H'/\bc H' M rs' (q++cc::t)/\ah n (q++cc::t)/\q++gg n cc t=W,
    ⟨_,rs.set 0 y,[],s,_,rfl,rfl,s04,F4,R4,hW⟩,?_⟩
   rintro mm σ H5 ⟨rs',q,t,cc,rfl,rfl,s5,F5,R5,e5⟩
   have l5:=F5.aI.len
   refine⟨_,rfl,_,rfl,M,_,rfl,.inl (ai.of F5.lst),_,_,rfl,rfl,_,rfl,?_⟩
   refine aS (fun c1=>?_) (fun c1=>?_)
   ·have c1:((q.length+1:Nat):Int)<((rs'.map V.ref).length:Nat):=a0 c1
    rw[aE,l5,bF,bP]at c1
    obtain⟨pc,hpc,lc⟩:=F5.aI.get (kS q t cc)
    refine⟨_,rfl,_,rfl,_,_,rfl,rfl,M,_,_,_,rfl,rfl,ai.of F5.lst,gm (j:=q.length) (by omega) hpc,pc,cc,rfl,lc,fun H6 s6=>⟨_,rfl,?_⟩⟩
    have F6:bc H6 M rs' (q++cc::t):=⟨s6 _ _ F5.lst,F5.aI.same s6⟩
    refine aS (fun c2=>?_) (fun c2=>?_)
    ·have c2:cc≠Wqaraq.still:=by rw[fu]at c2;exact a_ c2
     cases t with
     |nil=>simp at c1
     |cons d t=>
      refine⟨_,rfl,_,rfl,M,rs',_,q.length,n,cc,d,rfl,hn,F6,R5,kS _ _ _,HW _ _ _ _,fun hs H7 s7=>?_,fun hs H7 rs7 b7 F7=>?_⟩
      ·refine⟨_,rfl,dH ?_⟩
       rw[Q1 hs]at e5
       subst e5
       exact fin _ _ ⟨rs',_,rfl,(s5.trans s6).trans s7,⟨s7 _ _ F6.lst,F6.aI.same s7⟩⟩
      ·refine⟨_,rfl,fY ⟨fun σ' H'=>∃m',m'<(d::t).length/\∃(rs':List Addr) (q t:List Perm) (cc:Perm),m'=t.length/\σ'=[some (.ref L),some (.ref f),some (.ref M),some (.int (q.length+1:Nat)),none]/\ag H H'/\bc H' M rs' (q++cc::t)/\ah n (q++cc::t)/\q++gg n cc t=W,fun σ' H' h=>h,?_⟩⟩
       refine⟨_,rfl,_,_,rfl,rfl,?_⟩
       rw[HV]at F7
       have hRq:ah n q:=fun z hz=>R5 z (jB _ hz)
       have hRt:ah n (cc::d::t):=fun z hz=>R5 z (d6 _ hz)
       have hm:=c_ hn hRt.head hRt.tail.head
       refine⟨t.length,by simp,rs7,q++[Wqaraq.then_ cc (hand n cc d)],t,Wqaraq.then_ (Wqaraq.back (hand n cc d)) d,rfl,?_,fun z o e=>b7 z o ((s5.trans s6) z o e) (a7 e fM),?_,?_,?_⟩
       ·show [some (V.ref L),some (V.ref f),some (V.ref M),some (V.int (((q.length+1:Nat):Int)+1)),none]=_
        rw[bF,oW];rfl
       ·rw[dG];exact F7
       ·rw[dG]
        exact ah.append hRq (ah.cons (hRt.head.then_ hm) (ah.cons (jU hn hRt.head hRt.tail.head) hRt.tail.tail))
       ·rw[dG,<-e5,Q2 c2 hs];rfl
    ·have c2:cc=Wqaraq.still:=by rw[i4]at c2;exact a0 c2
     refine dH ?_
     rw[c2,Q0]at e5
     rw[c2]at F6
     subst e5
     exact fin _ _ ⟨rs',_,rfl,s5.trans s6,F6⟩
   ·have c1:¬((q.length+1:Nat):Int)<((rs'.map V.ref).length:Nat):=a_ c1
    rw[aE,l5,bF,bP]at c1
    refine dH ?_
    have:t=[]:=qT.mp (by omega)
    subst this
    rw[show gg n cc []=[cc] from rfl]at e5
    subst e5
    exact fin _ _ ⟨rs',_,rfl,s5,F5⟩
def j7(n:Nat)(k:Int)(L:Addr):List (Str×V):=b0 "factors" (.ref L) (b0 "twists" (.int k) (b0 "n" (.int n) []))
theorem dM(n:Nat)(k:Int)(L:Addr):(j7 n k L).lookup ("n":Str)=some (.int n):=by
 unfold j7;rw[cO,ae (by decide),cO,ae (by decide),cO,af rfl]
theorem e_(n:Nat)(k:Int)(L:Addr):(j7 n k L).lookup ("twists":Str)=some (.int k):=by
 unfold j7;rw[cO,ae (by decide),cO,af rfl]
theorem fS(n:Nat)(k:Int)(L:Addr):(j7 n k L).lookup ("factors":Str)=some (.ref L):=by
 unfold j7;rw[cO,af rfl]
structure wC(T:Txt K mg)(H:Hp)(b:Addr)(n:Nat)(F:Form)(dx L:Addr)(rs:List Addr):Prop where
 ins:H b=some (.ins T.iU dx (j7 n F.twists L))
 fs:bc H L rs F.factors
def Bd(T:Txt K mg)(H:Hp)(b:Addr)(n:Nat)(F:Form):Prop:=∃dx L rs,wC T H b n F dx L rs
theorem Bd.same{T:Txt K mg}{H H':Hp}{b:Addr}{n:Nat}{F:Form}(h:Bd T H b n F)(s:ag H H'):Bd T H' b n F:=by
 obtain⟨dx,L,rs,i,f⟩:=h
 exact⟨dx,L,rs,s _ _ i,s _ _ f.lst,f.aI.same s⟩
def H_(T:Txt K mg):Sp:=fun vs H Q _=>∃(p dx:Addr) (n:Nat) (k:Int) (L:Addr),vs=[.ref p,.int n,.int k,.ref L]/\H p=some (.ins T.iU dx [])/\∀H':Hp,bq p H H'->H' p=some (.ins T.iU dx (j7 n k L))->Q .aW H'
theorem mU(T:Txt K mg):T.j2.Ok mg P w base 1 (H_ T):=by
 have S:=PF
 refine T.j2.F.ok S (by rintro _ _ _ _ ⟨p,dx,n,k,L,rfl,_⟩;rfl) fun cdv A outer s H vs Q E hr h=>?_
 ·obtain⟨p,dx,n,k,L,rfl,hp,q⟩:=h
  refine⟨_,(aj (gV (pv 0) (pv 1) rfl)
   (aj (gV (pv 0) (pv 2) rfl)
   (ao (gV (pv 0) (pv 3) rfl)))),?_⟩
  refine⟨_,rfl,_,rfl,p,_,dx,_,rfl,hp,T.aZ,T.dy,(by show 0<1000;decide),?_⟩
  refine⟨_,rfl,_,rfl,p,_,dx,_,rfl,au,T.aZ,T.ez,(by show 1<1000;decide),?_⟩
  refine⟨_,rfl,_,rfl,p,_,dx,_,rfl,au,T.aZ,T.eO,(by show 2<1000;decide),?_⟩
  refine q _ (fun b o e hb=>by rw[ax hb,ax hb,ax hb];exact e) ?_
  rw[au];rfl
theorem wD(T:Txt K mg){H:Hp}{Q:VK}{n:Nat}{k:Int}{L:Addr}{rs:List Addr}{fs:List Perm}{E:XK}(h:bc H L rs fs)(q:∀(H':Hp) (r:Addr),ag H H'->Bd T H' r n ⟨k,fs⟩->Q (.ref r) H'):
  ∀x dx,H x=none->H dx=none->dx≠x->H_ T (.ref x::([.int n,.int k,.ref L]++[])) (upd (upd H dx (.own x)) x (.ins T.iU dx [])) (fun v H2=>v=.aW/\Q (.ref x) H2) E:=by
 intro x dx nx nd nxd
 refine⟨x,dx,n,k,L,rfl,au,fun H' b h'=>⟨rfl,?_⟩⟩
 have s:ag H H':=ag.made nx nd b
 exact q H' x s ⟨dx,L,rs,h',s _ _ h.lst,h.aI.same s⟩
def Q3(T:Txt K mg):Sp:=fun vs H Q _=>∃(b:Addr) (n:Nat) (F:Form),vs=[.ref b]/\Bd T H b n F/\Val H Q (.bl (Wqaraq.large F))
theorem mV(k:Int):(if k<0 then -k else k)=(k.natAbs:Int):=by split<;>omega
theorem Q4(T:Txt K mg):T.vH.Ok P w base 1 (Q3 T):=by
 have S:=Oo
 refine T.vH.F.ok S (by rintro _ _ _ _ ⟨b,n,F,rfl,_⟩;rfl) fun cdv A outer s H vs Q E hr h=>?_
 ·obtain⟨b,n,F,rfl,⟨dx,L,rs,hb,hf⟩,q⟩:=h
  refine⟨_,(ao (az (CW (jz eM (c5 T.cW (ay (pv 0))) (aN rfl T.GY)) (uz (jz eM (fX lu rfl T.kJ (by decide+kernel) (ak (ay (pv 0)))) (aN rfl T.G0)))))),?_⟩
  refine⟨_,rfl,b,_,dx,_,_,rfl,hb,T.aZ,T.eO,fS _ _ _,L,_,rfl,.inl (ai.of hf.lst),_,_,rfl,rfl,_,rfl,?_⟩
  have e:Wqaraq.large F=(decide (60<F.factors.length)||decide (100<F.twists.natAbs)):=rfl
  rw[aE,hf.aI.len]
  refine aS (fun c=>?_) (fun c=>?_)
  ·refine h_ (q H (ag.refl _)) ?_
   rw[e,c7 (eD.mp (a0 c))];rfl
  ·have c:¬60<F.factors.length:=fun z=>a_ c (eD.mpr z)
   refine⟨_,rfl,b,_,dx,_,_,rfl,hb,T.aZ,T.ez,e_ _ _ _,_,rfl,_,_,rfl,rfl,?_⟩
   refine h_ (q H (ag.refl _)) ?_
   rw[e,cu c,Bool.false_or,mV,gu]
   omega
theorem Q5{K:PySem.W.Frag}{a:Addr}{rs:List Addr}{fs:List Perm}{g:TG}{tt:TT}{te:TE}{vs:List Nat}{σ:L2.St}{H:Hp}{Q:VK}(F:Perm->Perm)
  (h:bc H a rs fs)(hl:fs.length<=100000)(h16:∀f,f∈fs->(F f).length=16)
  (hs:∀(r:Addr) (f:Perm) (H':Hp),f∈fs->ag H H'->Ls H' r f->∀(R:V->Hp->Prop) (Nx:Hp->Prop),(∀H'' r',ag H' H''->Ls H'' r' (F f)->R (.ref r') H'')->
   g (.ref r) (wipe σ vs) H' fun σ2 H2=>wipe σ2 vs=wipe σ vs/\tt σ2 H2 fun b H3=>if b=true then te σ2 H3 R else Nx H3)
  (k:∀(H':Hp) (D:Addr) (rs':List Addr),ag H H'->H D=none->bc H' D rs' (fs.map F)->Q (.ref D) H'):oN g tt te vs σ Q (jJ K a) H:=by
 intro D hD
 have rl:=h.aI.len
 refine⟨fun i m H'=>m=fs.length - i/\i<=fs.length/\ag H H'/\∃rs',bc H' D rs' ((fs.take i).map F),⟨fs.length,by simp,be _,ag.bA hD,[],au,trivial⟩,?_⟩
 rintro i m H1 ⟨rfl,hi,s1,rs1,F1⟩
 have q:=ai.of (K:=K) (s1 _ _ h.lst)
 by_cases hlt:i<fs.length
 ·obtain⟨r,hr,lr⟩:=h.aI.get (bu hlt)
  refine .inr ⟨⟨_,V.ref r,q,by rw[bX,hr];rfl⟩,fun H'=>ag H H'/\∃rs',bc H' D rs' ((fs.take (i+1)).map F),fun H' h=>⟨fs.length - (i+1),by omega,rfl,hlt,h⟩,fun x H' y=>?_⟩
  obtain⟨e,y⟩:=y
  subst e
  have ex:V.ref r=x:=by
   have z:=y _ q
   rw[bX,hr]at z
   exact bo z
  subst ex
  have hm:=iY hlt
  refine hs r fs[i] _ hm s1 (s1 _ _ lr) _ _ fun H2 r' s2 l2=>?_
  have F2l:=s2 _ _ F1.lst
  have n2:D∉rs1:=F1.l9 fun f hf=>by
   obtain⟨z,hz,rfl⟩:=bW.mp hf
   exact h16 z (mw hz)
  have nr:r'≠D:=fun z=>by
   rw[z]at l2
   have l2:H2 D=_:=l2
   rw[F2l]at l2
   injection l2 with l2
   injection l2 with l2
   exact j6 rs1 _ (by rw[l2];exact kQ (by rw[h16 _ hm];decide))
  refine⟨_,F2l,?_,(s1.trans s2).upd hD,rs1++[r'],by rw[au,cN];rfl,?_⟩
  ·rw[aE,F1.aI.len,aE,dz]
   exact small (by omega)
  ·have tk:fs.take (i+1)=fs.take i++[fs[i]]:=by rw[i0,bu hlt];rfl
   rw[tk,cN]
   refine bp.snoc (F1.aI.imp fun x f hx e=>?_) ((ax nr).trans l2)
   exact(ax fun z=>n2 (by rw[<-z];exact hx)).trans (s2 _ _ e)
 ·have e:i=fs.length:=by omega
  subst e
  rw[gU]at F1
  exact .inl ⟨⟨_,q,by rw[aE,rl];exact aX _⟩,k _ D rs1 s1 hD F1⟩
def Q6(T:Txt K mg):Sp:=fun vs H Q _=>∃(pa pb:Addr) (n:Nat) (F G:Form),vs=[.ref pa,.ref pb]/\Bd T H pa n F/\Bd T H pb n G/\2<=n/\n<=16/\Fm n F.factors/\aV n G/\F.factors.length+G.factors.length<=40000/\
 ∀(H':Hp) (r:Addr),ag H H'->Bd T H' r n (Wqaraq.product n F G)->Q (.ref r) H'
theorem Q7(n:Nat)(k:Int)(z:List Perm×Perm×List Perm):cF n k z=⟨k+(cF n 0 z).twists,(cF n 0 z).factors⟩:=by
 unfold cF
 split
 ·simp
 ·simp
theorem Cm(n:Nat)(k:Int)(r:List Perm)(c:Perm)(s:List Perm):(cF n k (cg n r c s)).factors.length<=r.length+s.length+1:=by
 have h:=zc n r c s
 have tr:∀l:List Perm,(trim l).length<=l.length:=fun l=>by unfold trim;split;rw[List.length_dropLast];omega;exact aX _
 generalize cg n r c s=z at *
 obtain⟨r',c',s'⟩:=z
 unfold cF
 dsimp only at h ⊢
 split
 ·have:=tr (tl n r'.reverse++s')
  unfold BB.tl at this ⊢
  simp only [bF,aE,cJ]at this ⊢
  omega
 ·have:=tr (r'.reverse++c'::s')
  simp only [bF,bP,cJ]at this ⊢
  omega
theorem qu(T:Txt K mg):T.l6.Ok P w base 4 (Q6 T):=by
 have S:=Oq
 refine T.l6.F.ok S (by rintro _ _ _ _ ⟨pa,pb,n,F,G,rfl,_⟩;rfl) fun cdv A outer s H vs Q E hr h=>?_
 ·obtain⟨pa,pb,n,F,G,rfl,⟨da,La,ra,ia,fa⟩,⟨db,Lb,rb,ib,fb⟩,n2,hn,hF,hG,hl,k⟩:=h
  refine⟨_,(aj (sv 2 S.nd (aC bZ (ay (pv 0)) (ay (pv 1))))
   (aj (rO (i:=3) (own:=[("factor",4)]) rfl S.nd rfl rfl rfl (fF (ay (pv 0))) (fI (by rfl)) (fun _ _ _ _ _=>(eJ (i:=4) S.nd rfl (Or.inl rfl))) (fun _ _ _ _ _=>iL) (fun _ _ _ _ _=>(T.qk.c (Cj T) hr (dk (Hx (K:=K) rfl (pv 0) rfl) (pv 4) (Hx (K:=K) rfl (pv 1) rfl)))))
   (aj (c8 PassesOwn.never rfl (fF (ay (pv 1))) (gn 4 S.nd) (ao (sv 2 S.nd (aC bZ (pv 2) (T.kH.c (HY T) hr (dk (ay (pv 0)) (pv 3) (pv 4)))))))
   (ao (az (T.j2.c (mU T) hr T.lX (dk (ay (pv 0)) (pv 2) (pv 3)))))))),?_⟩
  refine⟨_,rfl,pa,_,da,_,_,rfl,ia,T.aZ,T.ez,e_ _ _ _,_,rfl,pb,_,db,_,_,rfl,ib,T.aZ,T.ez,e_ _ _ _,_,_,rfl,rfl,?_⟩
  dsimp only [dt]
  refine aQ (bz (gS ?_))
  refine⟨_,rfl,pa,_,da,_,_,rfl,ia,T.aZ,T.eO,fS _ _ _,La,rfl,⟨_,ai.of fa.lst⟩,Q5 (rs:=ra) (fs:=F.factors) (bC n G.twists) fa (by omega) (fun f hf=>(mQ hn (hF.all f hf)).aa.len) ?_ ?_⟩
  ·intro r f H1 hf s1 l1 R Nx k1
   refine⟨rfl,yes ?_⟩
   refine⟨_,rfl,pa,_,da,_,_,rfl,s1 _ _ ia,T.aZ,T.dy,dM _ _ _,_,rfl,_,rfl,pb,_,db,_,_,rfl,s1 _ _ ib,T.aZ,T.ez,e_ _ _ _,?_⟩
   exact⟨n,r,f,G.twists,rfl,hn,l1,hF.all f hf,fun H2 r' s2 l2=>k1 H2 r' s2 l2⟩
  ·intro H1 D r1 s1 fD F1
   rw[<-vn hn]at F1
   dsimp only [dt]
   have nD:∀x o,H x=some o->x≠D:=fun x o e=>a7 e fD
   refine⟨_,rfl,pb,_,db,_,_,rfl,s1 _ _ ib,T.aZ,T.eO,fS _ _ _,Lb,rfl,⟨_,ai.of (s1 _ _ fb.lst)⟩,mD (xs:=rb.map V.ref) (fun i σ H'=>∃(v4:Option V) (r2:List Addr),σ=[some (.ref pa),some (.ref pb),some (.int (takes n ⟨F.twists+G.twists,tw n G.twists F.factors⟩ (G.factors.take i)).twists),some (.ref D),v4]/\ag H H'/\bc H' D r2 (takes n ⟨F.twists+G.twists,tw n G.twists F.factors⟩ (G.factors.take i)).factors/\(takes n ⟨F.twists+G.twists,tw n G.twists F.factors⟩ (G.factors.take i)).factors.length<=F.factors.length+i)
    ⟨none,r1,rfl,s1,F1,by show (tw n G.twists F.factors).length<=_;rw[vn hn,aE];exact aX _⟩ (fun i σ H' _ ⟨_,_,_,s,_⟩=>ai.of (s _ _ fb.lst)) ?_ ?_⟩
   ·rintro i x σ H2 hx ⟨v4,r2,rfl,s2,F2,l2⟩
    have hi:i<G.factors.length:=by
     have:=(dP.mp hx).1
     rwa[aE,fb.aI.len]at this
    obtain⟨r,hr,lr⟩:=fb.aI.get (bu hi)
    have ex:x=V.ref r:=by
     rw[bX,hr]at hx
     exact(bo hx).symm
    subst ex
    have tk:G.factors.take (i+1)=G.factors.take i++[G.factors[i]]:=by rw[i0,bu hi];rfl
    have hfi:Rt n G.factors[i]:=hG _ (iY hi)
    have t:=vm hn n2 (G.factors.take i) (F:=⟨F.twists+G.twists,tw n G.twists F.factors⟩) (hF.tw hn) (fun z hz=>hG z (mw hz))
    have et:takes n ⟨F.twists+G.twists,tw n G.twists F.factors⟩ (G.factors.take (i+1))=cF n (takes n ⟨F.twists+G.twists,tw n G.twists F.factors⟩ (G.factors.take i)).twists (cg n (takes n ⟨F.twists+G.twists,tw n G.twists F.factors⟩ (G.factors.take i)).factors.reverse G.factors[i] []):=by
     rw[tk]
     unfold takes
     rw[jE];rfl
    have up:=Cm n 0 (takes n ⟨F.twists+G.twists,tw n G.twists F.factors⟩ (G.factors.take i)).factors.reverse G.factors[i] []
    rw[Q7]at et
    rw[et]
    generalize takes n ⟨F.twists+G.twists,tw n G.twists F.factors⟩ (G.factors.take i)=Ti at *
    refine⟨_,rfl,_,rfl,pa,_,da,_,_,rfl,s2 _ _ ia,T.aZ,T.dy,dM _ _ _,_,rfl,_,rfl,n,D,r,r2,Ti.factors,G.factors[i],rfl,n2,hn,F2,t.1.all,by omega,s2 _ _ lr,hfi,fun H3 r3 b3 F3=>?_⟩
    refine⟨_,_,rfl,rfl,?_⟩
    refine⟨some (.ref r),r3,rfl,fun x o e=>b3 x o (s2 x o e) (nD x o e),F3,?_⟩
    rw[cJ]at up
    exact cz up (by simp;omega)
   ·rintro σ H2 ⟨v4,r2,rfl,s2,F2,l2⟩
    rw[aE,fb.aI.len,gU]at F2
    have tp:=y4 hn n2 (F:=F) (G:=G) hF hG
    rw[aE,fb.aI.len,gU]
    rw[tp.2]at F2 ⊢
    refine⟨_,rfl,pa,_,da,_,_,rfl,s2 _ _ ia,T.aZ,T.dy,dM _ _ _,_,rfl,_,rfl,?_⟩
    exact wD T F2 fun H3 r s3 b3=>k H3 r (s2.trans s3) b3
theorem wF(T:Txt K mg){H H':Hp}{x dx L:Addr}{n:Nat}{k:Int}{rs:List Addr}{fs:List Perm}(h:bc H L rs fs)(nx:H x=none)(nd:H dx=none)(b:bq x (upd (upd H dx (.own x)) x (.ins T.iU dx [])) H')(h':H' x=some (.ins T.iU dx (j7 n k L))):
  ag H H'/\Bd T H' x n ⟨k,fs⟩:=by
 have s:ag H H':=ag.made nx nd b
 exact⟨s,dx,L,rs,h',s _ _ h.lst,h.aI.same s⟩
def Q8(T:Txt K mg):Sp:=fun vs H Q _=>∃(pa:Addr) (n:Nat) (F:Form),vs=[.ref pa]/\Bd T H pa n F/\2<=n/\n<=16/\bh n F/\F.factors.length<=40000/\
 ∀(H':Hp) (r:Addr),ag H H'->Bd T H' r n (Wqaraq.backward n F)->Q (.ref r) H'
theorem Q9{n:Nat}:∀(l:List Perm) (p:Int) (i:Nat) (a:Perm),l[i]?=some a->gA n p (l.take (i+1))=gA n p (l.take i)++[bC n (p - i) (Wqaraq.rest n a)]:=by
 intro l p i a h
 rw[i0,h]
 show gA n p (l.take i++[a])=_
 have hi:i<l.length:=(dP.mp h).1
 rw[y6,dz,Nat.min_eq_left (by omega)]
theorem Co{n:Nat}:∀(l:List Perm) (p:Int),(gA n p l).length=l.length
 |[],_=>rfl
 |_::l,p=>bO (·+1) (Co l (p - 1))
theorem wG(T:Txt K mg):T.n_.Ok P w base 3 (Q8 T):=by
 have S:=Ot
 refine T.n_.F.ok S (by rintro _ _ _ _ ⟨pa,n,F,rfl,_⟩;rfl) fun cdv A outer s H vs Q E hr h=>?_
 ·obtain⟨pa,n,F,rfl,⟨da,La,ra,ia,fa⟩,n2,hn,hF,hl,k⟩:=h
  refine⟨_,(aj (sv 1 S.nd (aC bZ (ay (pv 0)) (c5 T.cW (ay (pv 0)))))
   (aj (sv 2 S.nd (iI iJ (pv 1)))
   (aj (sv 3 S.nd (aY gK))
   (aj (c8 PassesOwn.never rfl (xX rfl T.vD (ak (ay (pv 0)))) (gn 4 S.nd) (aj (dR (j5 (pv 3) (T.qk.c (Cj T) hr (dk (ay (pv 0)) (T.sY.c (HF T) hr (aR (ay (pv 0)) (pv 4))) (pv 1)))))
   (ao (sv 1 S.nd (aC cB (pv 1) aq)))))
   (ao (az (T.j2.c (mU T) hr T.lX (dk (ay (pv 0)) (pv 2) (pv 3))))))))),?_⟩
  have rl:=fa.aI.len
  refine⟨_,rfl,pa,_,da,_,_,rfl,ia,T.aZ,T.ez,e_ _ _ _,_,rfl,pa,_,da,_,_,rfl,ia,T.aZ,T.eO,fS _ _ _,La,_,rfl,.inl (ai.of fa.lst),_,_,rfl,rfl,?_⟩
  rw[aE,rl]
  refine⟨_,rfl,_,rfl,?_⟩
  refine⟨be _,fun D fD=>?_⟩
  have s1:=ag.bA (o:=.lst []) fD
  have nD:∀x o,H x=some o->x≠D:=fun x o e=>a7 e fD
  have hRr:ah n F.factors.reverse:=fun x hx=>hF.all x (ka.mp hx)
  refine⟨_,rfl,pa,_,da,_,_,rfl,s1 _ _ ia,T.aZ,T.eO,fS _ _ _,La,_,rfl,ai.of (s1 _ _ fa.lst),GK (xs:=ra.map V.ref) (fun i σ H'=>∃(v4:Option V) (r2:List Addr),σ=[some (.ref pa),some (.int (F.twists+F.factors.length - i)),some (.int (-(F.twists+F.factors.length))),some (.ref D),v4]/\ag H H'/\bc H' D r2 (gA n (F.twists+F.factors.length) (F.factors.reverse.take i))/\i<=F.factors.length)
   ⟨none,[],by rw[show F.twists+(F.factors.length:Int) - ((0:Nat):Int)=F.twists+F.factors.length by omega];rfl,s1,⟨au,trivial⟩,be _⟩ (fun i σ H' _ ⟨_,_,_,s,_⟩=>ai.of (s _ _ fa.lst)) ?_ ?_⟩
  ·rintro i x σ H2 hx ⟨v4,r2,rfl,s2,F2,_⟩
   have hi:i<F.factors.length:=by
    have:=(dP.mp hx).1
    rwa[cJ,aE,rl]at this
   have hir:i<F.factors.reverse.length:=by rw[cJ];exact hi
   have gi:F.factors[F.factors.length - 1 - i]?=some F.factors.reverse[i]:=by
    rw[List.getElem_reverse,bu (by omega)]
   obtain⟨r,hr,lr⟩:=fa.aI.get gi
   have ex:x=V.ref r:=by
    rw[<-List.map_reverse,bX,List.getElem?_reverse (by omega),rl,hr]at hx
    exact(bo hx).symm
   subst ex
   have hf:Rt n F.factors.reverse[i]:=hRr _ (iY hir)
   have n2':D∉r2:=F2.l9 (l_ (vo hn fun z hz=>hRr z (mw hz)))
   have l2:r2.length<=40000:=by rw[F2.aI.len,Co,dz];omega
   refine⟨_,rfl,.inl ⟨rfl,_,ai.of F2.lst⟩,_,rfl,pa,_,da,_,_,rfl,s2 _ _ ia,T.aZ,T.dy,dM _ _ _,_,rfl,pa,_,da,_,_,rfl,s2 _ _ ia,T.aZ,T.dy,dM _ _ _,_,rfl,?_⟩
   refine⟨n,r,_,rfl,hn,s2 _ _ lr,hf.aa,fun H3 y s3 f3 h3=>?_⟩
   refine⟨_,rfl,n,y,_,F.twists+F.factors.length - i,rfl,hn,h3,hf.rest hn,fun H4 z s4 h4=>?_⟩
   have s24:=s3.trans s4
   have F4l:=s24 _ _ F2.lst
   have zD:z≠D:=fun e=>by
    rw[e]at h4
    have h4:H4 D=_:=h4
    rw[F4l]at h4
    injection h4 with h4
    injection h4 with h4
    exact j6 r2 _ (by rw[h4];exact kQ (by rw[(mQ hn (hf.rest hn)).aa.len];decide))
   refine⟨D,_,_,rfl,rfl,F4l,small (by rw[aE];omega),?_⟩
   refine⟨_,rfl,_,_,rfl,rfl,?_⟩
   refine⟨some (.ref r),r2++[z],?_,fun b o e=>?_,⟨by rw[au,cN];rfl,?_⟩,hi⟩
   ·show [some (V.ref pa),some (V.int (F.twists+F.factors.length - i - 1)),some (V.int (-(F.twists+F.factors.length))),some (V.ref D),some (V.ref r)]=_
    rw[show F.twists+(F.factors.length:Int) - (i:Int) - 1=F.twists+F.factors.length - ((i+1:Nat):Int) by omega]
   ·rw[ax (nD b o e)];exact s24 _ _ (s2 _ _ e)
   ·rw[Q9 _ _ _ _ (bu hir)]
    refine bp.snoc (F2.aI.imp fun b f hb e=>?_) ((ax zD).trans h4)
    exact(ax fun q=>n2' (by rw[<-q];exact hb)).trans (s24 _ _ e)
  ·rintro σ H2 ⟨v4,r2,rfl,s2,F2,_⟩
   rw[aE,rl,<-cJ,gU]at F2
   rw[cJ]at F2
   refine⟨_,rfl,pa,_,da,_,_,rfl,s2 _ _ ia,T.aZ,T.dy,dM _ _ _,_,rfl,_,rfl,?_⟩
   refine wD T F2 fun H3 r s3 b3=>k H3 r (s2.trans s3) ?_
   rw[<-y8 hn n2 hF]
   exact b3
def Q_(T:Txt K mg):Sp:=fun vs H Q _=>∃(pa:Addr) (n:Nat) (F:Form) (e:Int),vs=[.ref pa,.int e]/\Bd T H pa n F/\2<=n/\n<=16/\bh n F/\F.factors.length<=60/\e.natAbs<=8/\
 ∀(H':Hp) (r:Addr),ag H H'->Bd T H' r n (Wqaraq.powerOf n e F)->Q (.ref r) H'
theorem Cp{n:Nat}(hn:n<=16)(n2:2<=n){F G:Form}(hF:Fm n F.factors)(hG:aV n G):(Wqaraq.product n F G).factors.length<=F.factors.length+G.factors.length:=by
 have tp:=y4 hn n2 (F:=F) (G:=G) hF hG
 rw[<-tp.2]
 have:∀(fs:List Perm) (X:Form),(takes n X fs).factors.length<=X.factors.length+fs.length:=by
  intro fs
  induction fs with
  |nil=>intro X;exact aX _
  |cons f fs ih=>
   intro X
   have:=ih (cF n X.twists (cg n X.factors.reverse f []))
   have up:=Cm n X.twists X.factors.reverse f []
   rw[cJ,List.length_nil]at up
   rw[bP]
   exact cz this (by omega)
 have:=this G.factors ⟨F.twists+G.twists,tw n G.twists F.factors⟩
 rw[vn hn]at this
 simp only [aE]at this
 rw[vn hn]
 exact this
theorem wH{n:Nat}(hn:n<=16)(n2:2<=n){F:Form}(h:bh n F):(Wqaraq.backward n F).factors.length=F.factors.length:=by
 rw[<-y8 hn n2 h]
 show (gA n _ F.factors.reverse).length=_
 rw[Co,cJ]
theorem Ra(T:Txt K mg):T.vI.Ok P w base 5 (Q_ T):=by
 have S:=Ou
 refine T.vI.F.ok S (by rintro _ _ _ _ ⟨pa,n,F,e,rfl,_⟩;rfl) fun cdv A outer s H vs Q E hr h=>?_
 ·obtain⟨pa,n,F,e,rfl,hb,n2,hn,hF,hl,he,k⟩:=h
  refine⟨_,(aj (sv 2 S.nd (gJ (a5 xG (pv 1) aq) (pv 0) (T.n_.c (wG T) hr (ak (pv 0)))))
   (aj (sv 3 S.nd (T.j2.c (mU T) hr T.lX (dk (ay (pv 0)) aq (aY gK))))
   (aj (c8 PassesOwn.never rfl (iH rfl T.cH (ak (fX lu rfl T.kJ (by decide+kernel) (ak (pv 1))))) (gn 4 S.nd) (ao (sv 3 S.nd (T.l6.c (qu T) hr (aR (pv 3) (pv 2))))))
   (ao (az (pv 3)))))),?_⟩
  refine aQ (ik (fun σ H'=>∃pb:Addr,σ=[some (.ref pa),some (.int e),some (.ref pb),none,none]/\ag H H'/\Bd T H' pb n (if e<0 then Wqaraq.backward n F else F)) ?_ ?_)
  ·rintro σ H1 ⟨pb,rfl,s1,b1⟩
   generalize hB:(if e<0 then Wqaraq.backward n F else F)=B at *
   have hBI:bh n B:=by
    rw[<-hB];split
    ·exact jW hn n2 hF.all
    ·exact hF
   have hBl:B.factors.length<=60:=by
    rw[<-hB];split
    ·rw[wH hn n2 hF];exact hl
    ·exact hl
   dsimp only
   obtain⟨da,La,ra,ia,fa⟩:=hb.same s1
   refine⟨_,rfl,pa,_,da,_,_,rfl,ia,T.aZ,T.dy,dM _ _ _,be _,fun L0 f0=>?_⟩
   have s2:=ag.bA (o:=.lst []) f0
   intro p0 d0 np0 nd0 nx0
   refine⟨p0,d0,n,0,L0,rfl,au,fun H3 bb hh=>⟨rfl,?_⟩⟩
   obtain⟨s3,b3⟩:=wF T (rs:=[]) (fs:=[]) ⟨au,trivial⟩ np0 nd0 bb hh
   have s13:=(s1.trans s2).trans s3
   refine⟨_,rfl,_,rfl,(e.natAbs:Int),by rw[mV],by omega,by omega,i9 (lo:=0) (n:=((e.natAbs:Nat):Int).toNat) (fun i σ H'=>∃(v4:Option V) (pp:Addr),σ=[some (.ref pa),some (.int e),some (.ref pb),some (.ref pp),v4]/\ag H3 H'/\bh n ((List.range i).foldl (fun (G:Form) (_:Nat)=>Wqaraq.product n G B) ⟨0,[]⟩)/\((List.range i).foldl (fun (G:Form) (_:Nat)=>Wqaraq.product n G B) ⟨0,[]⟩).factors.length<=60 * i/\Bd T H' pp n ((List.range i).foldl (fun (G:Form) (_:Nat)=>Wqaraq.product n G B) ⟨0,[]⟩))
    ⟨none,p0,rfl,ag.refl _,lO hn n2,be _,b3⟩ ?_ ?_⟩
   ·rintro i σ H4 hi ⟨v4,pp,rfl,s4,hI,hlen,b4⟩
    have ef:(List.range (i+1)).foldl (fun (G:Form) (_:Nat)=>Wqaraq.product n G B) ⟨0,[]⟩=Wqaraq.product n ((List.range i).foldl (fun (G:Form) (_:Nat)=>Wqaraq.product n G B) ⟨0,[]⟩) B:=by
     rw[iZ,jE];rfl
    rw[ef]
    generalize (List.range i).foldl (fun (G:Form) (_:Nat)=>Wqaraq.product n G B) ⟨0,[]⟩=Gi at *
    have hi:i<8:=by omega
    refine⟨_,rfl,_,rfl,pp,pb,n,Gi,B,rfl,b4,((b1.same s2).same s3).same s4,n2,hn,hI.fm hn,hBI.all,by omega,fun H5 r s5 b5=>?_⟩
    exact⟨_,r,rfl,s4.trans s5,eY hn n2 hI.all hBI.all,cz (Cp hn n2 (hI.fm hn) hBI.all) (by omega),b5⟩
   ·rintro σ H4 ⟨v4,pp,rfl,s4,hI,hlen,b4⟩
    refine⟨_,rfl,k H4 pp (s13.trans s4) ?_⟩
    rw[show ((e.natAbs:Nat):Int).toNat=e.natAbs by omega]at b4
    unfold Wqaraq.powerOf
    rw[hB]
    exact b4
  ·intro fin
   refine bz ⟨_,rfl,_,_,rfl,rfl,_,rfl,?_⟩
   refine aS (fun c=>?_) (fun c=>?_)
   ·have c:(0:Int)<=e:=a0 c
    refine⟨_,rfl,fin _ _ ⟨pa,rfl,ag.refl _,?_⟩⟩
    rw[ae (by omega)];exact hb
   ·have c:¬(0:Int)<=e:=a_ c
    refine⟨_,rfl,pa,n,F,rfl,hb,n2,hn,hF,by omega,fun H1 r s1 b1=>fin _ _ ⟨r,rfl,s1,?_⟩⟩
    rw[af (by omega)];exact b1
def Rb(T:Txt K mg):Sp:=fun vs H Q _=>∃(n:Nat) (f:Addr) (c:Perm),vs=[.int n,.ref f]/\2<=n/\n<=16/\Ls H f c/\Rt n c/\
 ∀(H':Hp) (r:Addr),ag H H'->Bd T H' r n (aO n (bK c))->Q (.ref r) H'
theorem Cq(T:Txt K mg):T.ql.Ok P w base 4 (Rb T):=by
 have S:=Ov
 refine T.ql.F.ok S (by rintro _ _ _ _ ⟨n,f,c,rfl,_⟩;rfl) fun cdv A outer s H vs Q E hr h=>?_
 ·obtain⟨n,f,c,rfl,n2,hn,hf,hc,k⟩:=h
  refine⟨_,(aj (sv 2 S.nd (aY gK))
   (aj (sv 3 S.nd (T.kH.c (HY T) hr (dk (pv 0) (pv 2) (pv 1))))
   (ao (az (T.j2.c (mU T) hr T.lX (dk (pv 0) (pv 3) (pv 2))))))),?_⟩
  refine⟨be _,fun D fD=>?_⟩
  have s1:=ag.bA (o:=.lst []) fD
  refine⟨_,rfl,_,rfl,_,rfl,n,D,f,[],[],c,rfl,n2,hn,⟨au,trivial⟩,ah.nil,be _,s1 _ _ hf,hc,fun H2 r2 b2 F2=>?_⟩
  have s2:ag H H2:=fun x o e=>b2 x o (s1 x o e) (a7 e fD)
  refine⟨_,rfl,_,rfl,_,rfl,?_⟩
  refine wD T F2 fun H3 r s3 b3=>k H3 r (s2.trans s3) ?_
  have:=(kH hn n2 (k:=0) (Fm.nil hn) hc).2
  rw[show aO n (bK c)=aO n ⟨0,[]++[c]⟩ from rfl,this]
  exact b3
def Rc(T:Txt K mg):Sp:=fun vs H Q _=>∃(n:Nat) (c:Int),vs=[.int n,.int c]/\2<=n/\n<=16/\Wqaraq.crossing n c=true/\
 ∀(H':Hp) (r:Addr),ag H H'->Bd T H' r n (cY n c)->Q (.ref r) H'
theorem tX{n:Nat}(hn:n<=16)(n2:2<=n){c:Perm}(hc:Rt n c):(aO n (bK c)).factors.length<=1:=by
 rw[show aO n (bK c)=aO n ⟨0,[]++[c]⟩ from rfl,(kH hn n2 (k:=0) (Fm.nil hn) hc).2]
 exact Cm n 0 [] c []
theorem Rf(T:Txt K mg):T.vJ.Ok P w base 5 (Rc T):=by
 have S:=Ow
 refine T.vJ.F.ok S (by rintro _ _ _ _ ⟨n,c,rfl,_⟩;rfl) fun cdv A outer s H vs Q E hr h=>?_
 ·obtain⟨n,c,rfl,n2,hn,hc,k⟩:=h
  refine⟨_,(aj (sv 2 S.nd (gL (j4 rfl) rfl T.gB k6 (ak (mS rfl T.cH (ak (aN rfl T.de))))))
   (aj (dR (T.qi.c (Cf T) hr (aR (pv 2) (aC cB (fX lu rfl T.kJ (by decide+kernel) (ak (pv 1))) aq))))
   (aj (sv 3 S.nd (T.ql.c (Cq T) hr (aR (pv 0) (pv 2))))
   (ao (az (gJ (a5 eM (pv 1) aq) (pv 3) (T.n_.c (wG T) hr (ak (pv 3))))))))),?_⟩
  obtain⟨c1,c2⟩:=jt.mp hc
  have hs:=sM hn n2 (i:=c.natAbs - 1) (by omega)
  refine aQ (bz (tP fun H1 p s1 fp h1=>?_))
  dsimp only [dt]
  refine⟨_,rfl,_,rfl,_,rfl,_,_,rfl,rfl,p,_,c.natAbs - 1,?_,h1,bJ _,by omega,fun H2 b2 h2=>?_⟩
  ·show [V.ref p,V.int ((if c<0 then -c else c) - 1)]=_
   rw[mV,show (c.natAbs:Int) - 1=((c.natAbs - 1:Nat):Int) by omega]
  have s2:ag H H2:=fun x o e=>b2 x o (s1 x o e) (a7 e fp)
  refine⟨_,rfl,_,rfl,n,p,_,rfl,n2,hn,h2,hs,fun H3 r s3 b3=>?_⟩
  have hI:=kD hn n2 (dJ hn n2 hs)
  refine⟨_,rfl,_,_,rfl,rfl,_,rfl,?_⟩
  refine aS (fun c3=>?_) (fun c3=>?_)
  ·have c3:(0:Int)<c:=a0 c3
   refine⟨_,rfl,k H3 r (s2.trans s3) ?_⟩
   unfold cY;rw[af c3];exact b3
  ·have c3:¬(0:Int)<c:=a_ c3
   refine⟨_,rfl,r,n,_,rfl,b3,n2,hn,hI,cz (tX hn n2 hs) (by decide),fun H4 r4 s4 b4=>?_⟩
   refine k H4 r4 ((s2.trans s3).trans s4) ?_
   unfold cY;rw[ae c3];exact b4
theorem Ia{n:Nat}(hn:n<=16)(n2:2<=n){c:Int}(hc:Wqaraq.crossing n c=true):(cY n c).factors.length<=1:=by
 obtain⟨c1,c2⟩:=jt.mp hc
 have hs:=sM hn n2 (i:=c.natAbs - 1) (by omega)
 unfold cY;split
 ·exact tX hn n2 hs
 ·rw[wH hn n2 (kD hn n2 (dJ hn n2 hs))]
  exact tX hn n2 hs
def Rg(T:Txt K mg):Sp:=fun vs H Q _=>∃(n:Nat) (p:Addr) (w:List Int),vs=[.int n,.ref p]/\2<=n/\n<=16/\Li H p w/\Wqaraq.fits n w=true/\w.length<=100/\
 ∀(H':Hp) (r:Addr),ag H H'->Bd T H' r n (Wqaraq.formOf n w)->Q (.ref r) H'
theorem Ib(T:Txt K mg):T.tm.Ok P w base 6 (Rg T):=by
 have S:=Ox
 refine T.tm.F.ok S (by rintro _ _ _ _ ⟨n,p,w,rfl,_⟩;rfl) fun cdv A outer s H vs Q E hr h=>?_
 ·obtain⟨n,p,w,rfl,n2,hn,hp,hw,hl,k⟩:=h
  refine⟨_,(aj (sv 2 S.nd (T.j2.c (mU T) hr T.lX (dk (pv 0) aq (aY gK))))
   (aj (c8 PassesOwn.never rfl (fF (pv 1)) (gn 3 S.nd) (ao (sv 2 S.nd (T.l6.c (qu T) hr (aR (pv 2) (T.vJ.c (Rf T) hr (aR (pv 0) (pv 3))))))))
   (ao (az (pv 2))))),?_⟩
  refine⟨_,rfl,be _,fun L0 f0=>?_⟩
  have s2:=ag.bA (o:=.lst []) f0
  intro p0 d0 np0 nd0 nx0
  refine⟨p0,d0,n,0,L0,rfl,au,fun H3 bb hh=>⟨rfl,?_⟩⟩
  obtain⟨s3,b3⟩:=wF T (rs:=[]) (fs:=[]) ⟨au,trivial⟩ np0 nd0 bb hh
  have s03:=s2.trans s3
  have fo:=fun i=>y_ hn n2 (w.take i) (F:=⟨0,[]⟩) (lO hn n2) (by
   unfold Wqaraq.fits at hw ⊢
   rw[mj]at hw ⊢
   exact fun c hc=>hw c (mw hc))
  refine⟨_,rfl,p,rfl,⟨_,ai.of (s03 _ _ hp)⟩,mD (xs:=iv w) (fun i σ H'=>∃(v3:Option V) (pp:Addr),σ=[some (.int n),some (.ref p),some (.ref pp),v3]/\ag H H'/\((w.take i).foldl (fun F c=>Wqaraq.product n F (cY n c)) ⟨0,[]⟩).factors.length<=i/\Bd T H' pp n ((w.take i).foldl (fun F c=>Wqaraq.product n F (cY n c)) ⟨0,[]⟩))
   ⟨none,p0,rfl,s03,be _,b3⟩ (fun i σ H' _ ⟨_,_,_,s,_⟩=>ai.of (s _ _ hp)) ?_ ?_⟩
  ·rintro i x σ H4 hx ⟨v3,pp,rfl,s4,hlen,b4⟩
   obtain⟨c,hc,rfl⟩:∃c,w[i]?=some c/\x=V.int c:=by
    unfold iv at hx
    rw[bX]at hx
    cases q:w[i]? with
    |none=>rw[q]at hx;cases hx
    |some c=>rw[q]at hx;exact⟨c,rfl,(bo hx).symm⟩
   have tk:w.take (i+1)=w.take i++[c]:=by rw[i0,hc];rfl
   have hcc:Wqaraq.crossing n c=true:=by
    unfold Wqaraq.fits at hw
    rw[mj]at hw
    exact hw c (m6 hc)
   have hi:i<w.length:=(dP.mp hc).1
   have ef:(w.take (i+1)).foldl (fun F c=>Wqaraq.product n F (cY n c)) ⟨0,[]⟩=Wqaraq.product n ((w.take i).foldl (fun F c=>Wqaraq.product n F (cY n c)) ⟨0,[]⟩) (cY n c):=by
    rw[tk,jE];rfl
   have hI:=(fo i).1
   rw[(fo i).2]at hI
   rw[ef]
   generalize (w.take i).foldl (fun F c=>Wqaraq.product n F (cY n c)) ⟨0,[]⟩=Gi at *
   have cI:=y9 hn n2 hcc
   have cl:=Ia hn n2 hcc
   refine⟨_,rfl,_,rfl,_,rfl,n,c,rfl,n2,hn,hcc,fun H5 r s5 b5=>?_⟩
   refine⟨pp,r,n,Gi,cY n c,rfl,b4.same s5,b5,n2,hn,hI.fm hn,cI.all,by omega,fun H6 r6 s6 b6=>?_⟩
   exact⟨_,r6,rfl,(s4.trans s5).trans s6,cz (Cp hn n2 (hI.fm hn) cI.all) (by omega),b6⟩
  ·rintro σ H4 ⟨v3,pp,rfl,s4,hlen,b4⟩
   refine⟨_,rfl,k H4 pp s4 ?_⟩
   have:=fo w.length
   rw[cQ]at b4
   rw[gU]at this b4
   unfold Wqaraq.formOf
   rw[this.2]
   exact b4
def Rh(T:Txt K mg):Sp:=fun vs H Q _=>∃(pa:Addr) (n:Nat) (F:Form),vs=[.ref pa]/\Bd T H pa n F/\2<=n/\n<=16/\bh n F/\F.factors.length<=60/\
 ∀(H':Hp) (r:Addr),ag H H'->Bd T H' r n (Wqaraq.cycledOf ⟨n,F⟩ false)->Q (.ref r) H'
theorem Ic{n:Nat}{k:Int}{b:Bool}:Wqaraq.cycledOf ⟨n,⟨k,[]⟩⟩ b=⟨k,[]⟩:=by
 unfold Wqaraq.cycledOf;rw[af rfl]
theorem Ri(T:Txt K mg):T.vK.Ok P w base 5 (Rh T):=by
 have S:=Oy
 refine T.vK.F.ok S (by rintro _ _ _ _ ⟨pa,n,F,rfl,_⟩;rfl) fun cdv A outer s H vs Q E hr h=>?_
 ·obtain⟨pa,n,F,rfl,hb,n2,hn,hF,hl,k⟩:=h
  refine⟨_,(aj (bt (a5 nj (c5 T.cW (ay (pv 0))) aq) (ao (az (pv 0))) bx)
   (aj (sv 1 S.nd (T.qk.c (Cj T) hr (dk (ay (pv 0)) (aM (ay (pv 0)) aq) (ay (pv 0)))))
   (aj (sv 2 S.nd (T.j2.c (mU T) hr T.lX (dk (ay (pv 0)) (ay (pv 0)) (jO jQ (ay (pv 0)) (iK aq) lD))))
   (ao (az (T.l6.c (qu T) hr (aR (pv 2) (T.ql.c (Cq T) hr (aR (ay (pv 0)) (pv 1)))))))))),?_⟩
  obtain⟨da,La,ra,ia,fa⟩:=id hb
  obtain⟨kk,fs⟩:=F
  have rl:=fa.aI.len
  refine⟨_,rfl,pa,_,da,_,_,rfl,ia,T.aZ,T.eO,fS _ _ _,La,_,rfl,.inl (ai.of fa.lst),rfl,_,rfl,?_⟩
  rw[aE,rl]
  dsimp only
  cases fs with
  |nil=>
   refine aS (fun c=>?_) (fun c=>absurd rfl (a_ c))
   refine⟨_,rfl,k H pa (ag.refl _) ?_⟩
   rw[Ic];exact hb
  |cons a l=>
   refine aS (fun c=>?_) (fun c=>?_)
   ·have c:=a0 c
    injection c with c
    simp at c
    omega
   ·obtain⟨r0,h0,l0⟩:=fa.aI.get (i:=0) (f:=a) rfl
    have ha:Rt n a:=hF.all.head
    have hfm:=(hF.fm hn)
    refine⟨_,rfl,pa,_,da,_,_,rfl,ia,T.aZ,T.dy,dM _ _ _,_,rfl,pa,_,da,_,_,rfl,ia,T.aZ,T.eO,fS _ _ _,La,_,_,_,rfl,rfl,ai.of fa.lst,gm rfl h0,_,rfl,pa,_,da,_,_,rfl,ia,T.aZ,T.ez,e_ _ _ _,?_⟩
    refine⟨n,r0,a,kk,rfl,hn,l0,ha,fun H1 r1 s1 h1=>?_⟩
    refine⟨_,rfl,pa,_,da,_,_,rfl,s1 _ _ ia,T.aZ,T.dy,dM _ _ _,_,rfl,pa,_,da,_,_,rfl,s1 _ _ ia,T.aZ,T.ez,e_ _ _ _,_,rfl,pa,_,da,_,_,rfl,s1 _ _ ia,T.aZ,T.eO,fS _ _ _,_,rfl,La,_,rfl,ai.of (s1 _ _ fa.lst),fun L2 f2=>?_⟩
    have s2:=s1.upd (o:=.lst (cU (ra.map V.ref) (some 1) none)) (s1.free f2)
    have F2:bc (upd H1 L2 (.lst (cU (ra.map V.ref) (some 1) none))) L2 (ra.drop 1) l:=by
     refine⟨by rw[au,Ca (z:=1) 1 rfl,List.map_drop],?_⟩
     exact(fa.aI.drop 1).same s2
    intro p0 d0 np0 nd0 nx0
    refine⟨p0,d0,n,kk,L2,rfl,au,fun H3 bb hh=>⟨rfl,?_⟩⟩
    obtain⟨s3,b3⟩:=wF T F2 np0 nd0 bb hh
    have s03:=s2.trans s3
    have ht:=mQ hn (p:=kk) ha
    refine⟨_,rfl,_,rfl,pa,_,da,_,_,rfl,s03 _ _ ia,T.aZ,T.dy,dM _ _ _,_,rfl,n,r1,_,rfl,n2,hn,s3 _ _ ((ag.bA f2) _ _ h1),ht,fun H4 r4 s4 b4=>?_⟩
    refine⟨p0,r4,n,⟨kk,l⟩,aO n (bK (bC n kk a)),rfl,b3.same s4,b4,n2,hn,hfm.tail hn,js hn n2 (dJ hn n2 ht),?_,fun H5 r5 s5 b5=>?_⟩
    ·have:=tX hn n2 ht
     have hl':l.length+1<=60:=hl
     show l.length+_<=40000
     omega
    ·refine k H5 r5 ((s03.trans s4).trans s5) ?_
     rw[FG hn n2 hF]
     exact b5
def Rj(T:Txt K mg):Sp:=fun vs H Q _=>∃(pa:Addr) (n:Nat) (F:Form),vs=[.ref pa]/\Bd T H pa n F/\2<=n/\n<=16/\bh n F/\F.factors.length<=60/\
 ∀(H':Hp) (r:Addr),ag H H'->Bd T H' r n (Wqaraq.cycledOf ⟨n,F⟩ true)->Q (.ref r) H'
theorem Rk(T:Txt K mg):T.vL.Ok P w base 5 (Rj T):=by
 have S:=Oz
 refine T.vL.F.ok S (by rintro _ _ _ _ ⟨pa,n,F,rfl,_⟩;rfl) fun cdv A outer s H vs Q E hr h=>?_
 ·obtain⟨pa,n,F,rfl,hb,n2,hn,hF,hl,k⟩:=h
  refine⟨_,(aj (bt (a5 nj (c5 T.cW (ay (pv 0))) aq) (ao (az (pv 0))) bx)
   (aj (sv 1 S.nd (T.j2.c (mU T) hr T.lX (dk (ay (pv 0)) (ay (pv 0)) (jO jQ (ay (pv 0)) lD (iK (iI iJ aq))))))
   (ao (az (T.l6.c (qu T) hr (aR (T.ql.c (Cq T) hr (aR (ay (pv 0)) (aM (ay (pv 0)) (iI iJ aq)))) (pv 1))))))),?_⟩
  obtain⟨da,La,ra,ia,fa⟩:=id hb
  obtain⟨kk,fs⟩:=F
  have rl:=fa.aI.len
  refine⟨_,rfl,pa,_,da,_,_,rfl,ia,T.aZ,T.eO,fS _ _ _,La,_,rfl,.inl (ai.of fa.lst),rfl,_,rfl,?_⟩
  rw[aE,rl]
  dsimp only
  rcases xj fs with e|⟨l,a,e⟩
  ·subst e
   refine aS (fun c=>?_) (fun c=>absurd rfl (a_ c))
   refine⟨_,rfl,k H pa (ag.refl _) ?_⟩
   rw[Ic];exact hb
  ·rw[xm]at e
   subst e
   refine aS (fun c=>?_) (fun c=>?_)
   ·have c:=a0 c
    injection c with c
    simp at c
    omega
   ·have rl:ra.length=l.length+1:=by rw[rl,bF];rfl
    obtain⟨py,hpy,ly⟩:=fa.aI.get (kS l [] a)
    obtain⟨ry,er⟩:∃ry,ra=ry++[py]:=by
     refine⟨ra.take l.length,?_⟩
     have:=List.take_append_drop l.length ra
     rw[o9 (by omega),q_ (by omega)]at this
     rw[bu (by omega)]at hpy
     rw[bo hpy]at this
     exact this.symm
    subst er
    have ryl:ry.length=l.length:=by simpa using rl
    have ha:Rt n a:=hF.all a (d6 _ bE)
    have hfm:=hF.fm hn
    refine⟨_,rfl,pa,_,da,_,_,rfl,ia,T.aZ,T.dy,dM _ _ _,_,rfl,pa,_,da,_,_,rfl,ia,T.aZ,T.ez,e_ _ _ _,_,rfl,pa,_,da,_,_,rfl,ia,T.aZ,T.eO,fS _ _ _,_,rfl,_,rfl,La,_,rfl,ai.of fa.lst,fun L2 f2=>?_⟩
    have s2:=ag.bA (o:=.lst (cU ((ry++[py]).map V.ref) none (some (-1)))) f2
    have F2:bc (upd H L2 (.lst (cU ((ry++[py]).map V.ref) none (some (-1))))) L2 ry l:=by
     refine⟨by rw[au,P8,cN];exact bO (fun z=>some (HO.lst z)) xi,?_⟩
     have:=fa.aI.take l.length
     rw[List.take_left' ryl,List.take_left' rfl]at this
     exact this.same s2
    intro p0 d0 np0 nd0 nx0
    refine⟨p0,d0,n,kk,L2,rfl,au,fun H3 bb hh=>⟨rfl,?_⟩⟩
    obtain⟨s3,b3⟩:=wF T F2 np0 nd0 bb hh
    have s03:=s2.trans s3
    refine⟨_,rfl,pa,_,da,_,_,rfl,s03 _ _ ia,T.aZ,T.dy,dM _ _ _,_,rfl,pa,_,da,_,_,rfl,s03 _ _ ia,T.aZ,T.eO,fS _ _ _,_,rfl,La,_,_,_,rfl,rfl,ai.of (s03 _ _ fa.lst),by rw[cN];exact Ck _ _,?_⟩
    refine⟨n,py,a,rfl,n2,hn,s03 _ _ ly,ha,fun H4 r4 s4 b4=>?_⟩
    have hI:=kD hn n2 (dJ hn n2 ha)
    refine⟨_,rfl,r4,p0,n,aO n (bK a),⟨kk,l⟩,rfl,b4,b3.same s4,n2,hn,hI.fm hn,fun z hz=>hF.all z (jB _ hz),?_,fun H5 r5 s5 b5=>?_⟩
    ·have:=tX hn n2 ha
     have hl':(l++[a]).length<=60:=hl
     rw[bF,oW]at hl'
     show _+l.length<=40000
     omega
    ·refine k H5 r5 ((s03.trans s4).trans s5) ?_
     rw[FH hn n2 hF]
     exact b5
def Rl(T:Txt K mg):Sp:=fun vs H Q _=>∃(pa pb:Addr) (n:Nat) (F G:Form),vs=[.ref pa,.ref pb]/\Bd T H pa n F/\Bd T H pb n G/\2<=n/\n<=16/\bh n F/\bh n G/\F.factors.length+G.factors.length<=40000/\Val H Q (.bl (Wqaraq.beginsOf ⟨n,F⟩ ⟨n,G⟩))
theorem Rm(T:Txt K mg):T.vP.Ok P w base 5 (Rl T):=by
 have S:=OG
 refine T.vP.F.ok S (by rintro _ _ _ _ ⟨pa,pb,n,F,G,rfl,_⟩;rfl) fun cdv A outer s H vs Q E hr h=>?_
 ·obtain⟨pa,pb,n,F,G,rfl,ha,hb,n2,hn,hF,hG,hl,k⟩:=h
  refine⟨_,(ao (az (jz xG (ay (T.l6.c (qu T) hr (aR (T.n_.c (wG T) hr (ak (pv 0))) (pv 1)))) aq))),?_⟩
  refine⟨_,rfl,pa,n,F,rfl,ha,n2,hn,hF,by omega,fun H1 r1 s1 b1=>?_⟩
  have hB:=jW hn n2 hF.all
  refine⟨_,rfl,r1,pb,n,_,G,rfl,b1,hb.same s1,n2,hn,hB.fm hn,hG.all,by rw[wH hn n2 hF];exact hl,fun H2 r2 s2 b2=>?_⟩
  obtain⟨d2,L2,r2',i2,f2⟩:=b2
  refine⟨r2,_,d2,_,_,rfl,i2,T.aZ,T.ez,e_ _ _ _,_,_,rfl,rfl,?_⟩
  refine h_ (k H2 (s1.trans s2)) ?_
  unfold Wqaraq.beginsOf
  rw[c7 rfl,k5]
def Rn(T:Txt K mg):Sp:=fun vs H Q _=>∃(pa:Addr) (n:Nat) (F:Form) (k:Int),vs=[.ref pa,.int k]/\Bd T H pa n F/\2<=n/\n<=16/\aV n F/\F.factors.length<=10000/\F.twists - k<=10000/\
 ∀(H':Hp) (L:Addr) (rs:List Addr),ag H H'->bc H' L rs (above n k F)->Q (.ref L) H'
theorem Ie(T:Txt K mg):T.tz.Ok P w base 2 (Rn T):=by
 have S:=OH
 refine T.tz.F.ok S (by rintro _ _ _ _ ⟨pa,n,F,k,rfl,_⟩;rfl) fun cdv A outer s H vs Q E hr h=>?_
 ·obtain⟨pa,n,F,k,rfl,⟨da,La,ra,ia,fa⟩,n2,hn,hF,hl,hk,q⟩:=h
  refine⟨_,(aj (sv 2 S.nd (aY gK))
   (aj (jI PassesOwn.never (a5 gw (c5 T.cW (pv 2)) (aC cB (ay (pv 0)) (pv 1))) (ao (dR (j5 (pv 2) (T.lZ.c (qr T) hr (ak (ay (pv 0))))))))
   (ao (az (aC fH (pv 2) (ay (pv 0))))))),?_⟩
  refine⟨be _,fun D fD=>?_⟩
  have s1:=ag.bA (o:=.lst []) fD
  have hd:=bV hn
  dsimp only [dt]
  refine aQ (ik (fun σ H'=>∃(r2:List Addr),σ=[some (.ref pa),some (.int k),some (.ref D)]/\ag H H'/\bc H' D r2 (List.replicate (F.twists - k).toNat (Wqaraq.delta n))) ?_ ?_)
  ·rintro σ H2 ⟨r2,rfl,s2,F2⟩
   refine⟨_,rfl,_,rfl,pa,_,da,_,_,rfl,s2 _ _ ia,T.aZ,T.eO,fS _ _ _,D,La,_,_,rfl,rfl,F2.lst,s2 _ _ fa.lst,?_,fun E' fE=>?_⟩
   ·rw[aE,aE,F2.aI.len,qJ,fa.aI.len]
    exact ck (by omega)
   ·have s3:=s2.upd (o:=.lst (r2.map V.ref++ra.map V.ref)) (s2.free fE)
    refine q _ E' (r2++ra) s3 ⟨by rw[au,cN],?_⟩
    exact bp.app (F2.aI.same (ag.bA fE)) (fa.aI.same s3)
  ·intro fin
   refine⟨fun mm σ H'=>∃(i:Nat) (r2:List Addr),mm=(F.twists - k).toNat - i/\i<=(F.twists - k).toNat/\σ=[some (.ref pa),some (.int k),some (.ref D)]/\ag H H'/\bc H' D r2 (List.replicate i (Wqaraq.delta n)),
    ⟨_,0,[],rfl,be _,rfl,s1,au,trivial⟩,?_⟩
   rintro mm σ H2 ⟨i,r2,rfl,hi,rfl,s2,F2⟩
   have rl:r2.length=i:=by rw[F2.aI.len,qJ]
   refine⟨_,rfl,D,_,rfl,.inl (ai.of F2.lst),_,rfl,pa,_,da,_,_,rfl,s2 _ _ ia,T.aZ,T.ez,e_ _ _ _,_,rfl,_,_,rfl,rfl,_,_,rfl,rfl,_,rfl,?_⟩
   rw[aE,rl]
   refine aS (fun c=>?_) (fun c=>?_)
   ·have c:(i:Int)<F.twists - k:=a0 c
    refine⟨fun σ' H'=>∃m',m'<(F.twists - k).toNat - i/\∃(i:Nat) (r2:List Addr),m'=(F.twists - k).toNat - i/\i<=(F.twists - k).toNat/\σ'=[some (.ref pa),some (.int k),some (.ref D)]/\ag H H'/\bc H' D r2 (List.replicate i (Wqaraq.delta n)),fun σ' H' h=>h,?_⟩
    refine⟨_,rfl,.inl ⟨rfl,_,ai.of F2.lst⟩,_,rfl,pa,_,da,_,_,rfl,s2 _ _ ia,T.aZ,T.dy,dM _ _ _,n,rfl,hn,fun H3 y s3 f3 h3=>?_⟩
    have F3l:=s3 _ _ F2.lst
    have yD:y≠D:=fun z=>by rw[z,F2.lst]at f3;cases f3
    have n2':D∉r2:=F2.l9 fun f hf=>by rw[xh hf];exact hd.aa.len
    refine⟨D,_,_,rfl,rfl,F3l,small (by rw[aE];omega),?_⟩
    refine⟨_,?_,i+1,r2++[y],rfl,by omega,rfl,fun b o e=>by rw[ax (a7 e fD)];exact s3 _ _ (s2 _ _ e),⟨by rw[au,cN];rfl,?_⟩⟩
    ·omega
    ·rw[List.replicate_succ']
     refine bp.snoc (F2.aI.imp fun b f hb e=>?_) ((ax yD).trans h3)
     exact(ax fun q=>n2' (by rw[<-q];exact hb)).trans (s3 _ _ e)
   ·have c:¬(i:Int)<F.twists - k:=a_ c
    refine fin _ _ ⟨r2,rfl,s2,?_⟩
    rw[show (F.twists - k).toNat=i by omega]
    exact F2
def Ro(T:Txt K mg):Sp:=fun vs H Q _=>∃(pa pb:Addr) (n:Nat) (F G:Form),vs=[.ref pa,.ref pb]/\Bd T H pa n F/\Bd T H pb n G/\2<=n/\n<=16/\bh n F/\bh n G/\F.factors.length<=60/\G.factors.length<=60/\F.twists.natAbs<=100/\G.twists.natAbs<=100/\
 ∀(H':Hp) (r:Addr),ag H H'->Bd T H' r n (Wqaraq.commonOf ⟨n,F⟩ ⟨n,G⟩).form->Q (.ref r) H'
theorem Ig(n:Nat):∀(s:List Perm) (a:Perm),(ins n a s).length<=s.length+1
 |[],a=>by unfold ins;split<;>simp
 |c::s,a=>by
  unfold ins
  have:=Ig n s (Wqaraq.then_ (Wqaraq.back (hand n a c)) c)
  rw[bP,bP];omega
theorem Ih(n:Nat)(x:Perm)(A:List Perm):(quot n x A).length<=A.length:=by
 cases A with
 |nil=>exact aX _
 |cons a s=>exact Ig n s _
theorem Ii{a:Perm}(ha:aw a):Wqaraq.meetOf Wqaraq.still a=Wqaraq.still:=mO (d_ dI ha).aa (d_ dI ha).left
theorem Rp(T:Txt K mg):T.vQ.Ok P w base 5 (Ro T):=by
 have S:=OI
 refine T.vQ.F.ok S (by rintro _ _ _ _ ⟨pa,pb,n,F,G,rfl,_⟩;rfl) fun cdv A outer s H vs Q E hr h=>?_
 ·obtain⟨pa,pb,n,F,G,rfl,ha,hb,n2,hn,hF,hG,lF,lG,tF,tG,k⟩:=h
  refine⟨_,(aj (sv 2 S.nd (fX (Dn rfl) rfl T.BP (by decide+kernel) (aR (ay (pv 0)) (ay (pv 1)))))
   (aj (sv 3 S.nd (T.tz.c (Ie T) hr (aR (pv 0) (pv 2))))
   (aj (sv 4 S.nd (T.tz.c (Ie T) hr (aR (pv 1) (pv 2))))
   (aj (sv 5 S.nd (fX (Dn rfl) rfl T.BP (by decide+kernel) (aR (c5 T.cW (pv 3)) (c5 T.cW (pv 4)))))
   (aj (sv 3 S.nd (jO jQ (pv 3) lD (iK (pv 5))))
   (aj (sv 4 S.nd (jO jQ (pv 4) lD (iK (pv 5))))
   (aj (sv 6 S.nd (aY gK))
   (aj (jI PassesOwn.never (PW.pt (lp (a5 eM (c5 T.cW (pv 3)) aq) (pk (a5 eM (c5 T.cW (pv 4)) aq)))) (aj (sv 7 S.nd (T.tu.c (HR T) hr (aR (aM (pv 3) aq) (aM (pv 4) aq))))
   (aj (bt (cq (T.n9.c (wB T) hr (ak (pv 7)))) (ao Kb) bx)
   (aj (dR (j5 (pv 6) (pv 7)))
   (aj (sv 3 S.nd (T.tj.c (H0 T) hr (aR (pv 3) (pv 7))))
   (ao (sv 4 S.nd (T.tj.c (H0 T) hr (aR (pv 4) (pv 7))))))))))
   (ao (az (T.j2.c (mU T) hr T.lX (dk (ay (pv 0)) (pv 2) (pv 6))))))))))))),?_⟩
  obtain⟨da,La,ra,ia,fa⟩:=id ha
  obtain⟨db,Lb,rb,ib,fb⟩:=id hb
  refine⟨_,rfl,pa,_,da,_,_,rfl,ia,T.aZ,T.ez,e_ _ _ _,_,rfl,pb,_,db,_,_,rfl,ib,T.aZ,T.ez,e_ _ _ _,_,_,rfl,?_⟩
  rw[show (if G.twists<F.twists then G.twists else F.twists)=min F.twists G.twists by split<;>omega]
  have ce:=FZ hn n2 hF hG
  generalize hk:min F.twists G.twists=kk at *
  refine⟨_,rfl,_,rfl,pa,n,F,kk,rfl,ha,n2,hn,hF.all,by omega,by omega,fun H1 A1 ra1 s1 FA=>?_⟩
  refine⟨_,rfl,_,rfl,pb,n,G,kk,rfl,hb.same s1,n2,hn,hG.all,by omega,by omega,fun H2 B1 rb1 s2 FB=>?_⟩
  have iF:bh n ⟨F.twists - kk,F.factors⟩:=(hF.fm hn).cv hn
  have iG:bh n ⟨G.twists - kk,G.factors⟩:=(hG.fm hn).cv hn
  obtain⟨aF,nF,_⟩:=nX hn n2 iF (by show 0<=F.twists - kk;omega)
  obtain⟨aG,nG,_⟩:=nX hn n2 iG (by show 0<=G.twists - kk;omega)
  rw[show lst n ⟨F.twists - kk,F.factors⟩=above n kk F from rfl]at aF nF
  rw[show lst n ⟨G.twists - kk,G.factors⟩=above n kk G from rfl]at aG nG
  have al:(above n kk F).length<=1000:=by unfold above;rw[bF,qJ];omega
  have bl:(above n kk G).length<=1000:=by unfold above;rw[bF,qJ];omega
  generalize above n kk F=A at *
  generalize above n kk G=B at *
  have s02:=s1.trans s2
  refine⟨_,rfl,A1,_,rfl,.inl (ai.of (s2 _ _ FA.lst)),_,rfl,B1,_,rfl,.inl (ai.of FB.lst),_,_,rfl,?_⟩
  rw[aE,aE,FA.aI.len,FB.aI.len,show (if ((B.length:Nat):Int)<((A.length:Nat):Int) then ((B.length:Nat):Int) else ((A.length:Nat):Int))=((min A.length B.length:Nat):Int) by split<;>omega]
  generalize hm:min A.length B.length=m at *
  refine⟨_,rfl,_,rfl,_,rfl,A1,_,rfl,ai.of (s2 _ _ FA.lst),fun A2 f2=>?_⟩
  have s3:=s02.upd (o:=.lst (cU (ra1.map V.ref) none (some (m:Int)))) (s02.free f2)
  refine⟨_,rfl,_,rfl,_,rfl,B1,_,rfl,ai.of ((ag.bA f2) _ _ FB.lst),fun B2 f3=>?_⟩
  have s4:=s3.upd (o:=.lst (cU (rb1.map V.ref) none (some (m:Int)))) (s3.free f3)
  have sA:=(ag.bA (o:=.lst (cU (ra1.map V.ref) none (some (m:Int)))) f2)
  have sB:=(ag.bA (o:=.lst (cU (rb1.map V.ref) none (some (m:Int)))) f3)
  have FA2:bc (upd (upd H2 A2 (.lst (cU (ra1.map V.ref) none (some (m:Int))))) B2 (.lst (cU (rb1.map V.ref) none (some (m:Int))))) A2 (ra1.take m) (A.take m):=by
   refine⟨sB _ _ (by rw[au,tU m rfl,List.map_take]),?_⟩
   exact(((FA.aI.same s2).take m).same sA).same sB
  have FB2:bc (upd (upd H2 A2 (.lst (cU (ra1.map V.ref) none (some (m:Int))))) B2 (.lst (cU (rb1.map V.ref) none (some (m:Int))))) B2 (rb1.take m) (B.take m):=by
   refine⟨by rw[au,tU m rfl,List.map_take],?_⟩
   exact((FB.aI.take m).same sA).same sB
  generalize upd (upd H2 A2 (.lst (cU (ra1.map V.ref) none (some (m:Int))))) B2 (.lst (cU (rb1.map V.ref) none (some (m:Int))))=H4 at *
  have aT:=vt hn (m:=m) aF nF
  have bT:=vt hn (m:=m) aG nG
  have tlA:(A.take m).length<=1000:=by rw[dz];omega
  have tlB:(B.take m).length<=1000:=by rw[dz];omega
  generalize A.take m=A0 at *
  generalize B.take m=B0 at *
  refine⟨be _,fun D fD=>?_⟩
  have fD0:H D=none:=s4.free fD
  have s5:=s4.upd (o:=.lst []) fD0
  have sD:=ag.bA (o:=.lst []) fD
  generalize hC:bU n (A.length+1) A0 B0=C at *
  dsimp only [dt]
  refine aQ (ik (fun σ H'=>∃(v3 v4 v5 v7:Option V) (rc:List Addr),σ=[some (.ref pa),some (.ref pb),some (.int kk),v3,v4,v5,some (.ref D),v7]/\ag H H'/\bc H' D rc C) ?_ ?_)
  ·rintro σ H6 ⟨v3,v4,v5,v7,rc,rfl,s6,F6⟩
   refine⟨_,rfl,pa,_,da,_,_,rfl,s6 _ _ ia,T.aZ,T.dy,dM _ _ _,_,rfl,_,rfl,?_⟩
   refine wD T F6 fun H7 r s7 b7=>k H7 r (s6.trans s7) ?_
   rw[ce.1]
   exact b7
  ·intro fin
   refine⟨fun mm σ H'=>∃(v7:Option V) (pA pB:Addr) (rA rB rc:List Addr) (A' B' acc:List Perm),acc.length+mm=A.length+1/\σ=[some (.ref pa),some (.ref pb),some (.int kk),some (.ref pA),some (.ref pB),some (.int m),some (.ref D),v7]/\ag H H'/\bc H' pA rA A'/\bc H' pB rB B'/\bc H' D rc acc/\ah n A'/\ah n B'/\Nf n A'/\Nf n B'/\A'.length<=1000/\B'.length<=1000/\pA≠D/\pB≠D/\ah n acc/\acc++bU n mm A' B'=C,
    ⟨A.length+1,none,A2,B2,_,_,[],A0,B0,[],by simp,rfl,s5,⟨sD _ _ FA2.lst,FA2.aI.same sD⟩,⟨sD _ _ FB2.lst,FB2.aI.same sD⟩,⟨au,trivial⟩,aT.1,bT.1,aT.2,bT.2,tlA,tlB,a7 FA2.lst fD,a7 FB2.lst fD,ah.nil,hC⟩,?_⟩
   rintro mm σ H6 ⟨v7,pA,pB,rA,rB,rc,A',B',acc,em,rfl,s6,FA6,FB6,FD6,aA,aB,nA,nB,lA,lB,nAD,nBD,aAcc,eC⟩
   have cl:=ce.2.2
   have cacc:acc.length<=C.length:=by rw[<-eC,bF];omega
   obtain⟨f',rfl⟩:∃f',mm=f'+1:=⟨mm - 1,by omega⟩
   have stop:Wqaraq.meetOf (hd A') (hd B')=Wqaraq.still->acc=C:=fun e=>by
    rw[<-eC]
    unfold bU
    rw[af e,ft]
   have hdA:=dZ hn aA
   have hdB:=dZ hn aB
   refine⟨_,rfl,pA,_,rfl,.inl (ai.of FA6.lst),_,_,rfl,rfl,_,rfl,?_⟩
   rw[aE,FA6.aI.len]
   cases A' with
   |nil=>
    refine aS (fun c=>absurd (a0 c) (by show ¬((0:Int)<((0:Nat):Int));decide)) (fun c=>?_)
    refine dH (fin _ _ ⟨_,_,_,_,rc,rfl,s6,?_⟩)
    rw[<-stop (Ii hdB.aa)]
    exact FD6
   |cons a sa=>
    refine aS (fun c=>?_) (fun c=>absurd (a_ c) (by show ¬¬((0:Int)<((sa.length+1:Nat):Int));omega))
    refine⟨_,rfl,pB,_,rfl,.inl (ai.of FB6.lst),_,_,rfl,rfl,_,rfl,?_⟩
    rw[aE,FB6.aI.len]
    cases B' with
    |nil=>
     refine aS (fun c=>absurd (a0 c) (by show ¬((0:Int)<((0:Nat):Int));decide)) (fun c=>?_)
     refine fin _ _ ⟨_,_,_,_,rc,rfl,s6,?_⟩
     rw[<-stop (by rw[meet_comm hdA.aa hdB.aa];exact Ii hdA.aa)]
     exact FD6
    |cons b sb=>
     refine aS (fun c=>?_) (fun c=>absurd (a_ c) (by show ¬¬((0:Int)<((sb.length+1:Nat):Int));omega))
     refine⟨fun σ' H'=>∃m',m'<f'+1/\∃(v7:Option V) (pA pB:Addr) (rA rB rc:List Addr) (A' B' acc:List Perm),acc.length+m'=A.length+1/\σ'=[some (.ref pa),some (.ref pb),some (.int kk),some (.ref pA),some (.ref pB),some (.int m),some (.ref D),v7]/\ag H H'/\bc H' pA rA A'/\bc H' pB rB B'/\bc H' D rc acc/\ah n A'/\ah n B'/\Nf n A'/\Nf n B'/\A'.length<=1000/\B'.length<=1000/\pA≠D/\pB≠D/\ah n acc/\acc++bU n m' A' B'=C,fun σ' H' h=>h,?_⟩
     obtain⟨xa,hxa,lxa⟩:=FA6.aI.get (i:=0) (f:=a) rfl
     obtain⟨xb,hxb,lxb⟩:=FB6.aI.get (i:=0) (f:=b) rfl
     have g:=d_ aA.head.aa aB.head.aa
     have hx:Rt n (Wqaraq.meetOf a b):=Rt.of_le g.aa aA.head g.left
     refine⟨_,rfl,pA,_,_,_,rfl,rfl,ai.of FA6.lst,gm rfl hxa,_,rfl,pB,_,_,_,rfl,rfl,ai.of FB6.lst,gm rfl hxb,?_⟩
     refine⟨xa,xb,a,b,rfl,lxa,lxb,aA.head.aa,aB.head.aa,fun H7 sh s7 fsh h7=>?_⟩
     refine⟨_,rfl,sh,_,rfl,h7,fun H8 s8=>⟨_,rfl,?_⟩⟩
     have s78:=s7.trans s8
     have F8D:bc H8 D rc acc:=⟨s78 _ _ FD6.lst,FD6.aI.same s78⟩
     have F8A:bc H8 pA rA (a::sa):=⟨s78 _ _ FA6.lst,FA6.aI.same s78⟩
     have F8B:bc H8 pB rB (b::sb):=⟨s78 _ _ FB6.lst,FB6.aI.same s78⟩
     refine aS (fun c2=>?_) (fun c2=>?_)
     ·have c2:=a0 c2
      refine fin _ _ ⟨_,_,_,_,rc,rfl,s6.trans s78,?_⟩
      rw[<-stop c2]
      exact F8D
     ·have c2:=a_ c2
      have nD8:D∉rc:=F8D.l9 (l_ aAcc)
      have shD:sh≠D:=fun z=>by rw[z,FD6.lst]at fsh;cases fsh
      have h8:=s8 _ _ h7
      have eCl:acc.length+1<=3000:=by omega
      refine⟨_,rfl,.inl ⟨rfl,_,ai.of F8D.lst⟩,_,rfl,D,_,_,rfl,rfl,F8D.lst,small (by rw[aE,F8D.aI.len];omega),?_⟩
      have b9:bq D H8 (upd H8 D (.lst (rc.map V.ref++[V.ref sh]))):=fun x o e hx=>by rw[ax hx];exact e
      have F9D:bc (upd H8 D (.lst (rc.map V.ref++[V.ref sh]))) D (rc++[sh]) (acc++[Wqaraq.meetOf a b]):=by
       refine⟨by rw[au,cN];rfl,bp.snoc (b9.aI F8D.aI nD8) ((ax shD).trans h8)⟩
      have nDA:D∉rA:=F8A.aI.ne (l_ aA) F8D.lst (j6 rc)
      have nDB:D∉rB:=F8B.aI.ne (l_ aB) F8D.lst (j6 rc)
      have F9A:bc (upd H8 D (.lst (rc.map V.ref++[V.ref sh]))) pA rA (a::sa):=⟨b9 _ _ F8A.lst nAD,b9.aI F8A.aI nDA⟩
      have F9B:bc (upd H8 D (.lst (rc.map V.ref++[V.ref sh]))) pB rB (b::sb):=⟨b9 _ _ F8B.lst nBD,b9.aI F8B.aI nDB⟩
      have s9:ag H (upd H8 D (.lst (rc.map V.ref++[V.ref sh]))):=fun x o e=>b9 _ _ ((s6.trans s78) _ _ e) (a7 e fD0)
      have h9:Ls (upd H8 D (.lst (rc.map V.ref++[V.ref sh]))) sh (Wqaraq.meetOf a b):=(ax shD).trans h8
      generalize upd H8 D (.lst (rc.map V.ref++[V.ref sh]))=H9 at *
      have lA':sa.length+1<=1000:=lA
      have lB':sb.length+1<=1000:=lB
      refine⟨_,rfl,_,rfl,pA,sh,rA,a,sa,_,n,rfl,hn,F9A,aA,nA.tail,by omega,h9,hx,fun H10 pA' rA' s10 fA' FA'=>?_⟩
      refine⟨_,rfl,_,rfl,pB,sh,rB,b,sb,_,n,rfl,hn,⟨s10 _ _ F9B.lst,F9B.aI.same s10⟩,aB,nB.tail,by omega,s10 _ _ h9,hx,fun H11 pB' rB' s11 fB' FB'=>?_⟩
      refine⟨f',by omega,_,pA',pB',rA',rB',rc++[sh],quot n (Wqaraq.meetOf a b) (a::sa),quot n (Wqaraq.meetOf a b) (b::sb),acc++[Wqaraq.meetOf a b],?_,rfl,(s9.trans s10).trans s11,⟨s11 _ _ FA'.lst,FA'.aI.same s11⟩,FB',⟨s11 _ _ (s10 _ _ F9D.lst),(F9D.aI.same s10).same s11⟩,jv hn hx aA,jv hn hx aB,jY hn hx aA nA,jY hn hx aB nB,cz (Ih _ _ _) lA,cz (Ih _ _ _) lB,?_,?_,ah.append aAcc (ah.cons hx ah.nil),?_⟩
      ·rw[bF,oW];omega
      ·exact fun z=>by rw[z,F9D.lst]at fA';cases fA'
      ·exact fun z=>by rw[z,s10 _ _ F9D.lst]at fB';cases fB'
      ·rw[<-eC,dG]
       have:bU n (f'+1) (a::sa) (b::sb)=Wqaraq.meetOf a b::bU n f' (quot n (Wqaraq.meetOf a b) (a::sa)) (quot n (Wqaraq.meetOf a b) (b::sb)):=by
        rw[bU]
        exact ae c2
       rw[this];rfl
theorem Rq{α:Type}{K:PySem.W.Frag}{a:Addr}{l:List α}{em:α->V}{g:TG}{tt:TT}{te:TE}{vs:List Nat}{σ:L2.St}{H:Hp}{Q:VK}{m:Nat}(f:α->V)
  (hq:ai K H a (l.map em))(hm:m=(l.map em).length)(hl:l.length<=100000)(hs:∀(x:α) (H':Hp),x∈l->ag H H'->B_ g tt te vs σ H' (em x) true (f x))(k:bB H Q (l.reverse.map f)):oN g tt te vs σ Q (lH K a m) H:=by
 subst hm
 exact fun D hD=>NZ f hq (small hl) hD (fun x H' hx s R Nx h1=>hs x H' hx s R Nx (fun _=>h1) (fun e=>by cases e)) fun H' s h=>k H' D s hD h
def Rr(T:Txt K mg):Sp:=fun vs H Q _=>∃n:Nat,vs=[.int n]/\2<=n/\n<=16/\Val H Q (.int ((n * (n - 1) / 2:Nat):Int))
theorem Ij(T:Txt K mg):T.tE.Ok P w base 1 (Rr T):=by
 have S:=OT
 refine T.tE.F.ok S (by rintro _ _ _ _ ⟨n,rfl,_⟩;rfl) fun cdv A outer s H vs Q E hr h=>?_
 ·obtain⟨n,rfl,n2,hn,k⟩:=h
  refine⟨_,(ao (az (aC C9 (aC jc (pv 0) (aC cB (pv 0) aq)) aq))),?_⟩
  refine⟨_,rfl,_,rfl,_,_,rfl,rfl,_,_,rfl,rfl,.inl ⟨by omega,by omega⟩,_,_,rfl,rfl,⟨by decide,by decide⟩,?_⟩
  refine jx (k H (ag.refl _)) ?_
  rw[Int.natCast_ediv,Int.natCast_mul,Int.natCast_sub (by omega)];rfl
def wI(F:Form):Int:=(F.factors.map fun a=>(Wqaraq.crossings a:Int)).sum
def Ru(T:Txt K mg):Sp:=fun vs H Q _=>∃(pa:Addr) (n:Nat) (F:Form),vs=[.ref pa]/\Bd T H pa n F/\aV n F/\F.factors.length<=60/\Val H Q (.int (wI F))
theorem Rv{rs:List Addr}{fs:List Perm}(h:rs.length=fs.length):(rs.zip fs).map (fun z=>V.ref z.1)=rs.map V.ref:=by
 rw[show (fun z:Addr×Perm=>V.ref z.1)=V.ref ∘ Prod.fst from rfl,<-dq,List.map_fst_zip (by omega)]
theorem Ik(T:Txt K mg):T.tH.Ok P w base 2 (Ru T):=by
 have S:=OU
 refine T.tH.F.ok S (by rintro _ _ _ _ ⟨pa,n,F,rfl,_⟩;rfl) fun cdv A outer s H vs Q E hr h=>?_
 ·obtain⟨pa,n,F,rfl,⟨da,La,ra,ia,fa⟩,hF,hl,k⟩:=h
  refine⟨_,(ao (az (fX (Lq rfl) rfl T.GP (by decide+kernel) (ak (iM (own:=[("factor",1)]) rfl S.nd (fF (ay (pv 0))) (fI (by rfl)) (fun _ _ _ _ _=>(eJ (i:=1) S.nd rfl (Or.inl rfl))) (fun _ _ _ _ _=>iL) (fun _ _ _ _ _=>(T.sZ.c (HG T) hr (ak (pv 1))))))))),?_⟩
  have rl:=fa.aI.len
  refine a8 (tR (gS ?_))
  refine⟨_,rfl,pa,_,da,_,_,rfl,ia,T.aZ,T.eO,fS _ _ _,La,rfl,⟨_,ai.of fa.lst⟩,qp (l:=ra.zip F.factors) (em:=fun z=>V.ref z.1) (fun _=>true) (fun z=>V.int (Wqaraq.crossings z.2:Nat)) (ai.of (by rw[Rv rl];exact fa.lst)) (by rw[List.length_zip];omega) ?_ ?_⟩
  ·intro z H2 hz s2 R Nx k1 k2
   refine⟨rfl,yes ?_⟩
   exact⟨_,rfl,z.1,z.2,rfl,s2 _ _ (fa.aI.mem hz),(hF _ (List.of_mem_zip hz).2).aa,fun H3 s3=>k1 rfl H3 s3⟩
  ·intro H2 D s2 fD h2
   rw[tT]at h2
   refine⟨D,(ra.zip F.factors).map fun z=>(Wqaraq.crossings z.2:Int),rfl,ai.of (by rw[h2,dq];rfl),?_⟩
   refine jx (k H2 s2) ?_
   unfold wI
   rw[show (fun z:Addr×Perm=>(Wqaraq.crossings z.2:Int))=(fun a=>(Wqaraq.crossings a:Int)) ∘ Prod.snd from rfl,<-dq,List.map_snd_zip (by omega)]
def Rw(T:Txt K mg):Sp:=fun vs H Q _=>∃(pa:Addr) (n:Nat) (F:Form),vs=[.ref pa]/\Bd T H pa n F/\2<=n/\n<=16/\aV n F/\F.factors.length<=60/\Val H Q (.int (((F.row n).length:Nat):Int))
theorem Rx(F:Form):wI F=((F.factors.map Wqaraq.crossings).sum:Nat):=by
 unfold wI
 induction F.factors with
 |nil=>rfl
 |cons a l ih=>rw[dQ,dQ,qV,qV,ih,uq]
theorem Il{n:Nat}(hn:n<=16):n * (n - 1) / 2<=120:=by
 have:n * (n - 1)<=16 * 15:=Nat.mul_le_mul hn (by omega)
 omega
theorem Ry(T:Txt K mg):T.lT.Ok P w base 3 (Rw T):=by
 have S:=OV
 refine T.lT.F.ok S (by rintro _ _ _ _ ⟨pa,n,F,rfl,_⟩;rfl) fun cdv A outer s H vs Q E hr h=>?_
 ·obtain⟨pa,n,F,rfl,hb,n2,hn,hF,hl,k⟩:=h
  refine⟨_,(ao (az (aC bZ (aC jc (fX lu rfl T.kJ (by decide+kernel) (ak (ay (pv 0)))) (T.tE.c (Ij T) hr (ak (ay (pv 0))))) (T.tH.c (Ik T) hr (ak (pv 0)))))),?_⟩
  obtain⟨da,La,ra,ia,fa⟩:=id hb
  have tl:=Il hn
  refine⟨_,rfl,pa,_,da,_,_,rfl,ia,T.aZ,T.ez,e_ _ _ _,_,rfl,_,rfl,pa,_,da,_,_,rfl,ia,T.aZ,T.dy,dM _ _ _,n,rfl,n2,hn,fun H1 s1=>?_⟩
  refine⟨_,_,rfl,rfl,.inr ⟨by omega,by omega⟩,_,rfl,pa,n,F,rfl,hb.same s1,hF,hl,fun H2 s2=>?_⟩
  refine⟨_,_,rfl,rfl,jx (k H2 (s1.trans s2)) ?_⟩
  rw[mV,(GA hn n2 hF).2,Rx,uq,Int.natCast_mul]
def Rz(T:Txt K mg):Sp:=fun vs H Q _=>∃(pa:Addr) (n:Nat) (F:Form),vs=[.ref pa]/\Bd T H pa n F/\2<=n/\n<=16/\aV n F/\F.factors.length<=60/\Val H Q (.int (Wqaraq.sum (F.row n)))
theorem RA(T:Txt K mg):T.v_.Ok P w base 3 (Rz T):=by
 have S:=OX
 refine T.v_.F.ok S (by rintro _ _ _ _ ⟨pa,n,F,rfl,_⟩;rfl) fun cdv A outer s H vs Q E hr h=>?_
 ·obtain⟨pa,n,F,rfl,hb,n2,hn,hF,hl,k⟩:=h
  refine⟨_,(ao (az (aC bZ (aC jc (ay (pv 0)) (T.tE.c (Ij T) hr (ak (ay (pv 0))))) (T.tH.c (Ik T) hr (ak (pv 0)))))),?_⟩
  obtain⟨da,La,ra,ia,fa⟩:=id hb
  have tl:=Il hn
  refine⟨_,rfl,pa,_,da,_,_,rfl,ia,T.aZ,T.ez,e_ _ _ _,_,rfl,pa,_,da,_,_,rfl,ia,T.aZ,T.dy,dM _ _ _,n,rfl,n2,hn,fun H1 s1=>?_⟩
  refine⟨_,_,rfl,rfl,.inr ⟨by omega,by omega⟩,_,rfl,pa,n,F,rfl,hb.same s1,hF,hl,fun H2 s2=>?_⟩
  refine⟨_,_,rfl,rfl,jx (k H2 (s1.trans s2)) ?_⟩
  rw[(GA hn n2 hF).1]
  rfl
def RB(T:Txt K mg):Sp:=fun vs H Q _=>∃(pa:Addr) (n:Nat) (F:Form),vs=[.ref pa]/\Bd T H pa n F/\2<=n/\n<=16/\aV n F/\F.factors.length<=60/\F.twists.natAbs<=100/\bB H Q (iv (F.row n))
theorem RC(k:Nat)(w:List Int):(List.replicate k (iv w)).flatten=iv (Wqaraq.times k w):=by
 unfold Wqaraq.times iv
 rw[<-List.map_replicate,<-List.map_flatten]
theorem RD(T:Txt K mg):T.vZ.Ok P w base 3 (RB T):=by
 have S:=OW
 refine T.vZ.F.ok S (by rintro _ _ _ _ ⟨pa,n,F,rfl,_⟩;rfl) fun cdv A outer s H vs Q E hr h=>?_
 ·obtain⟨pa,n,F,rfl,hb,n2,hn,hF,hl,ht,k⟩:=h
  refine⟨_,(aj (sv 1 S.nd (T.qj.c (Cg T) hr (ak (T.lZ.c (qr T) hr (ak (ay (pv 0)))))))
   (aj (bt (a5 gw (ay (pv 0)) aq) (ao (rO (i:=1) (own:=[("crossing",4)]) rfl S.nd rfl rfl rfl (xX rfl T.vD (ak (pv 1))) (fI (by rfl)) (fun _ _ _ _ _=>(eJ (i:=4) S.nd rfl (Or.inl rfl))) (fun _ _ _ _ _=>iL) (fun _ _ _ _ _=>(iI iJ (pv 4))))) bx)
   (aj (sv 2 S.nd (aC rF (pv 1) (fX lu rfl T.kJ (by decide+kernel) (ak (ay (pv 0))))))
   (aj (c8 PassesOwn.never rfl (fF (ay (pv 0))) (gn 3 S.nd) (ao (dR (Cc (pv 2) (T.qj.c (Cg T) hr (ak (pv 3)))))))
   (ao (az (pv 2))))))),?_⟩
  obtain⟨da,La,ra,ia,fa⟩:=id hb
  have hd:=bV hn
  have rl:=fa.aI.len
  refine⟨_,rfl,pa,_,da,_,_,rfl,ia,T.aZ,T.dy,dM _ _ _,n,rfl,hn,fun H1 t s1 f1 h1=>?_⟩
  refine⟨t,_,rfl,h1,hd.aa,fun H2 w2 s2 f2 h2=>?_⟩
  have s02:=s1.trans s2
  have wl:=wz hd.aa
  dsimp only [dt]
  refine aQ (ik (fun σ H'=>∃(w3:Addr) (v4:Option V),σ=[some (.ref pa),some (.ref w3),none,none,v4]/\ag H H'/\Li H' w3 (if F.twists<0 then Wqaraq.inverse (Wqaraq.row (Wqaraq.delta n)) else Wqaraq.row (Wqaraq.delta n))) ?_ ?_)
  ·rintro σ H3 ⟨w3,v4,rfl,s3,h3⟩
   generalize hW:(if F.twists<0 then Wqaraq.inverse (Wqaraq.row (Wqaraq.delta n)) else Wqaraq.row (Wqaraq.delta n))=W at *
   have Wl:W.length<=120:=by
    rw[<-hW];split
    ·unfold Wqaraq.inverse;rw[aE,cJ];exact wl
    ·exact wl
   have mb:W.length * F.twists.natAbs<=120 * 100:=Nat.mul_le_mul Wl ht
   refine⟨_,rfl,_,rfl,pa,_,da,_,_,rfl,s3 _ _ ia,T.aZ,T.ez,e_ _ _ _,_,rfl,w3,(F.twists.natAbs:Int),_,rfl,by rw[mV],h3,by omega,by omega,ck (by rw[cQ,show ((F.twists.natAbs:Nat):Int).toNat=F.twists.natAbs by omega];omega),fun D fD=>?_⟩
   rw[show ((F.twists.natAbs:Nat):Int).toNat=F.twists.natAbs by omega,RC]
   have ep:Wqaraq.times F.twists.natAbs W=Wqaraq.power F.twists (Wqaraq.row (Wqaraq.delta n)):=by
    rw[<-hW];unfold Wqaraq.power
    split<;>rfl
   rw[ep]
   have fD0:=s3.free fD
   have s4:=s3.upd (o:=.lst (iv (Wqaraq.power F.twists (Wqaraq.row (Wqaraq.delta n))))) fD0
   have pl:(Wqaraq.power F.twists (Wqaraq.row (Wqaraq.delta n))).length<=12000:=by
    rw[<-ep,vB,Nat.mul_comm];exact mb
   refine⟨_,rfl,pa,_,da,_,_,rfl,s4 _ _ ia,T.aZ,T.eO,fS _ _ _,La,rfl,⟨_,ai.of (s4 _ _ fa.lst)⟩,mD (xs:=ra.map V.ref) (fun i σ H'=>∃(v3 v4:Option V),σ=[some (.ref pa),some (.ref w3),some (.ref D),v3,v4]/\ag H H'/\Li H' D (Wqaraq.power F.twists (Wqaraq.row (Wqaraq.delta n))++(F.factors.take i).flatMap Wqaraq.row)/\(Wqaraq.power F.twists (Wqaraq.row (Wqaraq.delta n))++(F.factors.take i).flatMap Wqaraq.row).length<=12000+120 * i)
    ⟨none,_,rfl,s4,by rw[o7];show _=some (HO.lst (iv (_++[])));rw[ft];exact au,by rw[o7];show (_++([]:List Int)).length<=_;rw[ft];exact pl⟩ (fun i σ H' _ ⟨_,_,_,s,_⟩=>ai.of (s _ _ fa.lst)) ?_ ?_⟩
   ·rintro i x σ H5 hx ⟨v3,v4',rfl,s5,h5,l5⟩
    have hi:i<F.factors.length:=by
     have:=(dP.mp hx).1
     rwa[aE,rl]at this
    obtain⟨r,hr,lr⟩:=fa.aI.get (bu hi)
    have ex:x=V.ref r:=by
     rw[bX,hr]at hx
     exact(bo hx).symm
    subst ex
    have hfi:Rt n F.factors[i]:=hF _ (iY hi)
    have rli:=wz hfi.aa
    have tk:F.factors.take (i+1)=F.factors.take i++[F.factors[i]]:=by rw[i0,bu hi];rfl
    have ef:Wqaraq.power F.twists (Wqaraq.row (Wqaraq.delta n))++(F.factors.take (i+1)).flatMap Wqaraq.row=(Wqaraq.power F.twists (Wqaraq.row (Wqaraq.delta n))++(F.factors.take i).flatMap Wqaraq.row)++Wqaraq.row F.factors[i]:=by
     rw[tk,List.flatMap_append,dG]
     simp
    rw[ef]
    generalize Wqaraq.power F.twists (Wqaraq.row (Wqaraq.delta n))++(F.factors.take i).flatMap Wqaraq.row=Z at *
    refine⟨_,rfl,.inl ⟨rfl,_,ai.of h5⟩,_,rfl,r,_,rfl,s5 _ _ lr,hfi.aa,fun H6 y s6 f6 h6=>?_⟩
    refine⟨D,y,_,_,rfl,rfl,s6 _ _ h5,h6,ck (by rw[cQ,cQ];omega),?_⟩
    refine⟨_,_,rfl,fun b o e=>by rw[ax (a7 e fD0)];exact s6 _ _ (s5 _ _ e),?_,by rw[bF];omega⟩
    show upd _ D _ D=_
    rw[au,wt]
   ·rintro σ H5 ⟨v3,v4',rfl,s5,h5,l5⟩
    rw[aE,rl,gU]at h5
    exact⟨_,rfl,k H5 D s5 fD0 h5⟩
  ·intro fin
   refine dE (ig ?_)
   refine⟨_,rfl,pa,_,da,_,_,rfl,s02 _ _ ia,T.aZ,T.ez,e_ _ _ _,_,_,rfl,rfl,_,rfl,?_⟩
   refine aS (fun c=>?_) (fun c=>?_)
   ·have c:F.twists<0:=a0 c
    refine bz (gS ?_)
    refine⟨_,rfl,w2,_,rfl,ai.of h2,Rq (l:=Wqaraq.row (Wqaraq.delta n)) (em:=V.int) (fun c=>V.int (-c)) (ai.of h2) rfl (by omega) ?_ ?_⟩
    ·intro x H3 hx s3 R Nx k1 k2
     refine⟨rfl,yes ?_⟩
     exact⟨_,rfl,_,rfl,k1 rfl _ (ag.refl _)⟩
    ·intro H3 D s3 fD h3
     refine fin _ _ ⟨D,_,rfl,s02.trans s3,?_⟩
     rw[af c]
     show H3 D=_
     rw[h3]
     unfold Wqaraq.inverse iv
     rw[dq];rfl
   ·have c:¬F.twists<0:=a_ c
    refine fin _ _ ⟨w2,_,rfl,s02,?_⟩
    rw[ae c];exact h2
def RE(T:Txt K mg):Sp:=fun vs H Q _=>∃(pa:Addr) (n:Nat) (F:Form),vs=[.ref pa]/\Bd T H pa n F/\2<=n/\n<=16/\aV n F/\F.factors.length<=60/\bB H Q (nv ((reach n F).take n))
theorem RF(T:Txt K mg):T.wa.Ok P w base 2 (RE T):=by
 have S:=OY
 refine T.wa.F.ok S (by rintro _ _ _ _ ⟨pa,n,F,rfl,_⟩;rfl) fun cdv A outer s H vs Q E hr h=>?_
 ·obtain⟨pa,n,F,rfl,⟨da,La,ra,ia,fa⟩,n2,hn,hF,hl,k⟩:=h
  refine⟨_,(aj (sv 1 S.nd (gL (j4 rfl) rfl T.gB k6 (ak (mS rfl T.cH (ak (aN rfl T.de))))))
   (aj (bt (a5 nj (aC pE (ay (pv 0)) aq) aq) (ao (sv 1 S.nd (T.lZ.c (qr T) hr (ak (ay (pv 0)))))) bx)
   (aj (c8 PassesOwn.never rfl (fF (ay (pv 0))) (gn 2 S.nd) (ao (sv 1 S.nd (T.kM.c (oP T) hr (aR (pv 1) (pv 2))))))
   (ao (az (jO jQ (pv 1) lD (iK (ay (pv 0))))))))),?_⟩
  have rl:=fa.aI.len
  refine aQ (bz (tP fun H1 p1 s1 fp1 h1=>?_))
  dsimp only [dt]
  refine aQ (ik (fun σ H'=>∃(p:Addr),σ=[some (.ref pa),some (.ref p),none]/\ag H H'/\Ls H' p (if F.twists % 2=0 then Wqaraq.still else Wqaraq.delta n)) ?_ ?_)
  ·rintro σ H2 ⟨p,rfl,s2,h2⟩
   have h0:Rt n (if F.twists % 2=0 then Wqaraq.still else Wqaraq.delta n):=by
    split
    ·exact jT
    ·exact bV hn
   unfold reach at k
   generalize (if F.twists % 2=0 then Wqaraq.still else Wqaraq.delta n)=P0 at *
   refine⟨_,rfl,pa,_,da,_,_,rfl,s2 _ _ ia,T.aZ,T.eO,fS _ _ _,La,rfl,⟨_,ai.of (s2 _ _ fa.lst)⟩,mD (xs:=ra.map V.ref) (fun i σ H'=>∃(p:Addr) (v2:Option V),σ=[some (.ref pa),some (.ref p),v2]/\ag H H'/\Ls H' p ((F.factors.take i).foldl Wqaraq.then_ P0))
    ⟨p,none,rfl,s2,h2⟩ (fun i σ H' _ ⟨_,_,_,s,_⟩=>ai.of (s _ _ fa.lst)) ?_ ?_⟩
   ·rintro i x σ H3 hx ⟨p',v2,rfl,s3,h3⟩
    have hi:i<F.factors.length:=by
     have:=(dP.mp hx).1
     rwa[aE,rl]at this
    obtain⟨r,hr,lr⟩:=fa.aI.get (bu hi)
    have ex:x=V.ref r:=by
     rw[bX,hr]at hx
     exact(bo hx).symm
    subst ex
    have hfi:Rt n F.factors[i]:=hF _ (iY hi)
    have tk:F.factors.take (i+1)=F.factors.take i++[F.factors[i]]:=by rw[i0,bu hi];rfl
    have hP:=zM (F.factors.take i) h0 (fun z hz=>hF z (mw hz))
    refine⟨_,rfl,_,rfl,p',r,_,_,rfl,h3,s3 _ _ lr,hP.aa,hfi.aa,fun H4 y s4 f4 h4=>?_⟩
    refine⟨y,_,rfl,s3.trans s4,?_⟩
    rw[tk,jE]
    exact h4
   ·rintro σ H3 ⟨p',v2,rfl,s3,h3⟩
    rw[aE,rl,gU]at h3
    refine⟨_,rfl,_,rfl,pa,_,da,_,_,rfl,s3 _ _ ia,T.aZ,T.dy,dM _ _ _,_,rfl,p',_,rfl,ai.of h3,fun D fD=>?_⟩
    refine k _ D (s3.upd (s3.free fD)) (s3.free fD) ?_
    rw[au,tU n rfl,Cb]
  ·intro fin
   refine dE (ig ?_)
   refine⟨_,rfl,pa,_,da,_,_,rfl,s1 _ _ ia,T.aZ,T.ez,e_ _ _ _,_,_,rfl,rfl,by show (0:Int)<2;decide,rfl,_,rfl,?_⟩
   refine aS (fun c=>?_) (fun c=>?_)
   ·have c:=a0 c
    injection c with c
    refine⟨_,rfl,pa,_,da,_,_,rfl,s1 _ _ ia,T.aZ,T.dy,dM _ _ _,n,rfl,hn,fun H2 p2 s2 f2 h2=>fin _ _ ⟨p2,rfl,s1.trans s2,?_⟩⟩
    rw[ae (by omega)];exact h2
   ·have c:=a_ c
    have:F.twists % 2=0:=kZ fun z=>c (bO V.int (show F.twists % 2=1 by omega))
    refine fin _ _ ⟨p1,rfl,s1,?_⟩
    rw[af this];exact h1
def eQ(n:Nat)(f:Nat->Bool):List V:=bv ((List.range n).map f)
theorem wJ(n:Nat)(f:Nat->Bool):(eQ n f).length=n:=by unfold eQ bv;simp
theorem wK{n:Nat}{f:Nat->Bool}{j:Nat}(h:j<n):(eQ n f)[j]?=some (.bl (f j)):=by
 unfold eQ bv
 rw[bX,bX,qP h];rfl
theorem wL{n:Nat}{f:Nat->Bool}{z:Int}{j:Nat}(e:z=(j:Int))(h:j<n):gM (eQ n f) z=some (.bl (f j)):=at_of e (wK h)
theorem Im{n:Nat}{f:Nat->Bool}{j:Nat}{v:Bool}:(eQ n f).set j (.bl v)=eQ n (fun k=>if k=j then v else f k):=by
 refine List.ext_getElem? fun i=>?_
 rw[qW,wJ]
 by_cases h:i<n
 ·by_cases e:j=i
  ·rw[af e,af (by omega),wK h,af e.symm]
  ·rw[ae e,wK h,wK h,ae (fun q=>e q.symm)]
 ·have z:∀g,(eQ n g)[i]?=none:=fun g=>qO (by rw[wJ];omega)
  rw[z,z]
  by_cases e:j=i
  ·rw[af e,ae (by omega)]
  ·rw[ae e]
theorem Io(n:Nat):(List.replicate n [V.bl false]).flatten=eQ n (fun _=>false):=by
 unfold eQ bv
 rw[dq]
 induction n with
 |zero=>rfl
 |succ n ih=>rw[kX,qK,ih,xf,dQ,dq];rfl
theorem Ip{n:Nat}{f:Nat->Bool}{p:Nat}(hp:p<n)(h:f p=false):(List.range n).countP (fun k=> !(if k=p then true else f k))<(List.range n).countP (fun k=> !f k):=
 rV (fun x _ q=>by
  by_cases e:x=p
  ·rw[af e]at q;cases q
  ·rw[ae e]at q;exact q) ⟨p,a6.mpr hp,by rw[h];rfl,by rw[af rfl];rfl⟩
def RG(T:Txt K mg):Sp:=fun vs H Q _=>∃(p:Addr) (n:Nat) (a:Perm),vs=[.ref p]/\n<=16/\Ls H p (a.take n)/\Rt n a/\Val H Q (.int ((Wqaraq.loops n a:Nat):Int))
theorem RH{a:Perm}{n i:Nat}(h:i<n):Wqaraq.at_ (a.take n) i=Wqaraq.at_ a i:=by
 unfold Wqaraq.at_
 rw[d7,d7,List.getElem?_take,af h]
theorem RI(T:Txt K mg):T.wb.Ok P w base 1 (RG T):=by
 have S:=OZ
 refine T.wb.F.ok S (by rintro _ _ _ _ ⟨p,n,a,rfl,_⟩;rfl) fun cdv A outer s H vs Q E hr h=>?_
 ·obtain⟨p,n,a,rfl,hn,hp,ha,k⟩:=h
  refine⟨_,(aj (sv 1 S.nd (aC rF (aY (ak kg)) (c5 T.cW (pv 0))))
   (aj (sv 2 S.nd aq)
   (aj (c8 PassesOwn.never rfl (iH rfl T.cH (ak (c5 T.cW (pv 0)))) (gn 3 S.nd) (aj (bt (dX (cq (aM (pv 1) (pv 3)))) (ao (sv 2 S.nd (aC bZ (pv 2) aq))) bx)
   (aj (sv 4 S.nd (pv 3))
   (ao (jI PassesOwn.never (dX (cq (aM (pv 1) (pv 4)))) (aj (fC kg (fB (pv 1) (pv 4) set_list))
   (ao (sv 4 S.nd (aM (pv 0) (pv 4))))))))))
   (ao (az (pv 2)))))),?_⟩
  have tl:(nv (a.take n)).length=n:=by rw[cG,dz,ha.aa.len];omega
  have al:(a.take n).length=n:=by rw[dz,ha.aa.len];omega
  have alt:∀i,i<n->Wqaraq.at_ a i<n:=fun i hi=>ha.lt hn hi
  have inj:∀i j,i<n->j<n->Wqaraq.at_ a i=Wqaraq.at_ a j->i=j:=fun i j hi hj e=>ha.aa.inj i j (by omega) (by omega) e
  have zr:=zo alt
  refine⟨by show 1<=sizeLine;exact ck (by decide),fun f0 ff0=>?_⟩
  have s1:=ag.bA (o:=.lst [V.bl false]) ff0
  refine⟨_,rfl,p,_,rfl,.inl (ai.of (s1 _ _ hp)),f0,_,_,rfl,rfl,au,by omega,by omega,ck (by rw[tl];show 1 * ((n:Nat):Int).toNat<=_;omega),fun w fw=>?_⟩
  rw[tl,show ((n:Nat):Int).toNat=n by omega,Io]
  have s2:=s1.upd (o:=.lst (eQ n fun _=>false)) (s1.free fw)
  have fw0:=s1.free fw
  have npw:p≠w:=a7 hp fw0
  refine⟨_,rfl,p,_,rfl,.inl (ai.of (s2 _ _ hp)),n,by rw[tl],by omega,by omega,i9 (lo:=0) (n:=((n:Nat):Int).toNat) (fun i σ H'=>∃(v3 v4:Option V) (f:Nat->Bool),σ=[some (.ref p),some (.ref w),some (.int ((List.range i).countP (du (Wqaraq.joined n (hU n (Wqaraq.at_ a)))):Nat)),v3,v4]/\ag H H'/\H' w=some (.lst (eQ n f))/\∀q,q<n->(f q=true↔∃j,j<i/\Cn n (hU n (Wqaraq.at_ a)) j q))
   ⟨none,none,_,rfl,s2,au,fun q _=>⟨fun z=>(by cases z),fun ⟨j,hj,_⟩=>(by omega)⟩⟩ ?_ ?_⟩
  ·rintro i σ H3 hi ⟨v3,v4,f,rfl,s3,h3,hf⟩
   have hi:i<n:=by omega
   have e1:(0:Int)+(i:Int)=(i:Int):=by omega
   have first:du (Wqaraq.joined n (hU n (Wqaraq.at_ a))) i= !f i:=by
    rw[jC,nZ,fu,<-o5,hf i hi]
    exact⟨fun z ⟨j,hj,c⟩=>z j hj c,fun z j hj c=>z ⟨j,hj,c⟩⟩
   have cnt1:(List.range (i+1)).countP (du (Wqaraq.joined n (hU n (Wqaraq.at_ a))))=(List.range i).countP (du (Wqaraq.joined n (hU n (Wqaraq.at_ a))))+(if f i=true then 0 else 1):=by
    rw[iZ,o8,jD,List.countP_nil,first]
    cases f i<;>rfl
   refine bY (aQ (ik (fun σ H'=>∃(v4:Option V),σ=[some (.ref p),some (.ref w),some (.int ((List.range (i+1)).countP (du (Wqaraq.joined n (hU n (Wqaraq.at_ a)))):Nat)),some (.int (0+i)),v4]/\H'=H3) ?_ ?_))
   ·rintro σ H4 ⟨v4,rfl,rfl⟩
    refine⟨_,rfl,?_⟩
    rw[e1]
    refine⟨fun mm σ H'=>∃(g:Nat->Bool) (kk:Nat),mm=(List.range n).countP (fun q=> !g q)/\σ=[some (.ref p),some (.ref w),some (.int ((List.range (i+1)).countP (du (Wqaraq.joined n (hU n (Wqaraq.at_ a)))):Nat)),some (.int i),some (.int (it (Wqaraq.at_ a) kk i:Nat))]/\ag H H'/\H' w=some (.lst (eQ n g))/\(0<kk->f i=false)/\∀q,q<n->(g q=true↔f q=true\/∃j,j<kk/\it (Wqaraq.at_ a) j i=q),
     ⟨_,f,0,rfl,rfl,s3,h3,fun z=>by omega,fun q _=>⟨.inl,fun z=>z.elim id fun ⟨j,hj,_⟩=>by omega⟩⟩,?_⟩
    rintro mm σ H5 ⟨g,kk,rfl,rfl,s5,h5,k0,hg⟩
    have plt:=n6 alt hi kk
    refine⟨_,rfl,_,rfl,w,_,_,_,rfl,rfl,ai.of h5,wL rfl plt,_,rfl,?_⟩
    refine aS (fun c=>?_) (fun c=>?_)
    ·rw[fu]at c
     refine⟨fun σ' H'=>∃m',m'<(List.range n).countP (fun q=> !g q)/\∃(g:Nat->Bool) (kk:Nat),m'=(List.range n).countP (fun q=> !g q)/\σ'=[some (.ref p),some (.ref w),some (.int ((List.range (i+1)).countP (du (Wqaraq.joined n (hU n (Wqaraq.at_ a)))):Nat)),some (.int i),some (.int (it (Wqaraq.at_ a) kk i:Nat))]/\ag H H'/\H' w=some (.lst (eQ n g))/\(0<kk->f i=false)/\∀q,q<n->(g q=true↔f q=true\/∃j,j<kk/\it (Wqaraq.at_ a) j i=q),fun σ' H' h=>h,?_⟩
     refine⟨_,rfl,_,rfl,w,_,_,it (Wqaraq.at_ a) kk i,rfl,rfl,h5,d5 rfl (by rw[wJ];exact plt),?_⟩
     have s6:ag H (upd H5 w (.lst ((eQ n g).set (it (Wqaraq.at_ a) kk i) (.bl true)))):=s5.upd fw0
     refine⟨_,rfl,_,rfl,p,_,_,_,rfl,rfl,ai.of (s6 _ _ hp),cZ rfl (by rw[al];exact plt),?_⟩
     rw[RH plt]
     refine⟨_,Ip plt c,fun q=>if q=it (Wqaraq.at_ a) kk i then true else g q,kk+1,rfl,rfl,s6,by rw[au,Im],fun _=>?_,fun q hq=>?_⟩
     ·by_cases z:0<kk
      ·exact k0 z
      ·have z:kk=0:=by omega
       subst z
       rw[<-o5]
       intro y
       have:=(hg i hi).mpr (.inl y)
       rw[show it (Wqaraq.at_ a) 0 i=i from rfl]at c
       rw[c]at this;cases this
     ·show (if q=it (Wqaraq.at_ a) kk i then true else g q)=true↔_
      by_cases e:q=it (Wqaraq.at_ a) kk i
      ·rw[af e]
       exact⟨fun _=>.inr ⟨kk,by omega,e.symm⟩,fun _=>rfl⟩
      ·rw[ae e,hg q hq]
       constructor
       ·rintro(y|⟨j,hj,y⟩)
        ·exact .inl y
        ·exact .inr ⟨j,by omega,y⟩
       ·rintro(y|⟨j,hj,y⟩)
        ·exact .inl y
        ·refine .inr ⟨j,kZ fun z=>e ?_,y⟩
         rw[<-y,show j=kk by omega]
    ·rw[i4]at c
     refine⟨_,_,g,rfl,s5,h5,fun q hq=>?_⟩
     have lo:(∃j,j<i+1/\Cn n (hU n (Wqaraq.at_ a)) j q)↔f q=true\/Cn n (hU n (Wqaraq.at_ a)) i q:=by
      rw[hf q hq]
      constructor
      ·rintro⟨j,hj,y⟩
       by_cases z:j=i
       ·exact .inr (by rw[<-z];exact y)
       ·exact .inl ⟨j,by omega,y⟩
      ·rintro(⟨j,hj,y⟩|y)
       ·exact⟨j,by omega,y⟩
       ·exact⟨i,by omega,y⟩
     rw[lo,hg q hq]
     by_cases z:0<kk
     ·have fi:=k0 z
      have:∃j,j<kk/\it (Wqaraq.at_ a) kk i=it (Wqaraq.at_ a) j i:=by
       rcases(hg _ plt).mp c with y|⟨j,hj,y⟩
       ·exfalso
        obtain⟨j,hj,y⟩:=(hf _ plt).mp y
        have:=(hf i hi).mpr ⟨j,hj,y.trans (zp alt hi kk).symm⟩
        rw[fi]at this;cases this
       ·exact⟨j,hj,y.symm⟩
      obtain⟨j,hj,ej⟩:=this
      constructor
      ·rintro(y|⟨j',hj',y⟩)
       ·exact .inl y
       ·exact .inr (by rw[<-y];exact zp alt hi j')
      ·rintro(y|y)
       ·exact .inl y
       ·exact .inr (Nj alt inj hi hj ej hq y)
     ·have z:kk=0:=by omega
      subst z
      have fi:f i=true:=by
       rcases(hg _ plt).mp c with y|⟨j,hj,_⟩
       ·exact y
       ·omega
      constructor
      ·rintro(y|⟨j',hj',y⟩)
       ·exact .inl y
       ·omega
      ·rintro(y|y)
       ·exact .inl y
       ·obtain⟨j,hj,y'⟩:=(hf i hi).mp fi
        exact .inl ((hf q hq).mpr ⟨j,hj,y'.trans y⟩)
   ·intro fin
    refine⟨_,rfl,_,rfl,w,_,_,_,rfl,rfl,ai.of h3,wL e1 hi,_,rfl,?_⟩
    refine aS (fun c=>?_) (fun c=>?_)
    ·rw[fu]at c
     refine⟨_,rfl,_,_,rfl,rfl,fin _ _ ⟨v4,?_,rfl⟩⟩
     rw[cnt1,c];rfl
    ·rw[i4]at c
     refine fin _ _ ⟨v4,?_,rfl⟩
     rw[cnt1,c];rfl
  ·rintro σ H3 ⟨v3,v4,f,rfl,s3,h3,hf⟩
   refine⟨_,rfl,?_⟩
   rw[show ((n:Nat):Int).toNat=n by omega,<-NR]
   exact k H3 s3
def tY(n:Nat)(F:Form)(L:Addr):List V:=[.int n,.int F.twists,.int F.factors.length,.ref L]
def RJ(T:Txt K mg):Sp:=fun vs H Q _=>∃(pa:Addr) (n:Nat) (F:Form) (dx L:Addr) (rs:List Addr),vs=[.ref pa]/\wC T H pa n F dx L rs/\bB H Q (tY n F L)
theorem wM(T:Txt K mg):T.rank.Ok P w base 1 (RJ T):=by
 have S:=OR
 refine T.rank.F.ok S (by rintro _ _ _ _ ⟨pa,n,F,dx,L,rs,rfl,_⟩;rfl) fun cdv A outer s H vs Q E hr h=>?_
 ·obtain⟨pa,n,F,dx,L,rs,rfl,⟨ia,fa⟩,k⟩:=h
  refine⟨_,(ao (az (aY (jL (ay (pv 0)) (jL (ay (pv 0)) (jL (c5 T.cW (ay (pv 0))) (jL (ay (pv 0)) gK))))))),?_⟩
  refine⟨_,rfl,pa,_,dx,_,_,rfl,ia,T.aZ,T.dy,dM _ _ _,_,rfl,pa,_,dx,_,_,rfl,ia,T.aZ,T.ez,e_ _ _ _,_,rfl,pa,_,dx,_,_,rfl,ia,T.aZ,T.eO,fS _ _ _,L,_,rfl,.inl (ai.of fa.lst),_,rfl,pa,_,dx,_,_,rfl,ia,T.aZ,T.eO,fS _ _ _,ck (by show 4<=100000;decide),fun D fD=>?_⟩
  refine k _ D (ag.bA fD) fD ?_
  rw[au,aE,fa.aI.len];rfl
def iV(a:Perm):PyData:=.list ((fK a).map PyData.int)
def ma(fs:List Perm):PyData:=.list (fs.map iV)
def oR(n:Nat)(F:Form):PyData:=.list [.int n,.int F.twists,.int F.factors.length,ma F.factors]
theorem Iq(a b:Perm):PyData.eqv (iV a) (iV b)=decide (a=b):=by
 unfold iV
 rw[BX,gu]
 exact⟨yN,fun e=>by rw[e]⟩
theorem Ir:∀(l m:List Perm),PyData.eqvAll (l.map iV) (m.map iV)=decide (l=m)
 |[],[]=>by simp[PyData.eqvAll]
 |[],_::_=>by simp[PyData.eqvAll]
 |_::_,[]=>by simp[PyData.eqvAll]
 |a::l,b::m=>by
  rw[dQ,dQ,PyData.eqvAll,Iq,Ir l m]
  by_cases h:a=b
  ·subst h;simp
  ·simp[h]
theorem Iu(l m:List Perm):PyData.eqv (ma l) (ma m)=decide (l=m):=by
 unfold ma
 rw[PyData.eqv,Ir]
theorem RK(n m:Nat)(F G:Form):PyData.eqv (oR n F) (oR m G)=decide (n=m/\F.twists=G.twists/\F.factors.length=G.factors.length/\F.factors=G.factors):=by
 unfold oR
 rw[PyData.eqv,PyData.eqvAll,PyData.eqvAll,PyData.eqvAll,PyData.eqvAll,PyData.eqvAll,Iu,PyData.eqv,PyData.eqv,PyData.eqv,jC]
 simp only [br,beq_iff_eq,mx,Bool.and_true]
 constructor
 ·rintro⟨h1,h2,h3,h4⟩;exact⟨by omega,h2,by omega,h4⟩
 ·rintro⟨h1,h2,h3,h4⟩;exact⟨by omega,h2,by omega,h4⟩
theorem RL(a:Perm):PyData.canLay0 (iV a)=true:=by
 have:=PySem.W.ke_shaped_ints (fK a)
 exact SeqAt.canLay_of_shaped this
theorem Iv:∀(l:List Perm),PyData.canLayAll0 (l.map iV)=true
 |[]=>rfl
 |a::l=>by rw[dQ,PyData.canLayAll0,RL,Iv l];rfl
theorem RM(a:Perm):PyData.depth (iV a)<=1:=by
 unfold iV
 rw[PyData.depth,PySem.W.ke_depthAll];decide
theorem Cr:∀(l:List Perm),PyData.depthAll (l.map iV)<=1
 |[]=>by decide
 |a::l=>by
  rw[dQ,PyData.depthAll]
  have:=RM a
  have:=Cr l
  omega
theorem Ct(l:List Perm):SeqAt.shaped (ma l)=true:=by
 unfold SeqAt.shaped ma
 rw[PyData.canLay0,Iv,PyData.depth,c7 (by have:=Cr l;omega)];rfl
theorem Iw(n:Nat)(F:Form):SeqAt.shaped (oR n F)=true:=by
 have h:=Ct F.factors
 have c:=SeqAt.canLay_of_shaped h
 have d:PyData.depth (ma F.factors)<=2:=by
  unfold ma;rw[PyData.depth];have:=Cr F.factors;omega
 refine xg.mpr ⟨?_,c7 ?_⟩
 ·unfold oR
  simp only [PyData.canLay0,PyData.canLayAll0,c,k5]
 ·unfold oR
  simp only [PyData.depth,PyData.depthAll]
  omega
theorem Cu{K:PySem.W.Frag}{H:Hp}{p:Addr}{a:Perm}(h:Ls H p a):Dp K H (.ref p) (iV a):=tQ (ns:=fK a) (ai.of (by rw[<-l8];exact h))
theorem Iy{K:PySem.W.Frag}{H:Hp}:∀{rs:List Addr}{fs:List Perm},bp H rs fs->ny K H (rs.map V.ref) (fs.map iV)
 |[],[],_=>.nil
 |[],_::_,h=>h.elim
 |_::_,[],h=>h.elim
 |_::_,_::_,h=>.cons (Cu h.1) (Iy h.2)
theorem Cv{K:PySem.W.Frag}{H:Hp}{L:Addr}{rs:List Addr}{fs:List Perm}(h:bc H L rs fs):Dp K H (.ref L) (ma fs):=.lst (ai.of h.lst) (Iy h.aI)
theorem Iz{K:PySem.W.Frag}{H:Hp}{p L:Addr}{rs:List Addr}{n:Nat}{F:Form}(h:H p=some (.lst (tY n F L)))(f:bc H L rs F.factors):Dp K H (.ref p) (oR n F):=
 .lst (ai.of h) (.cons (.int _) (.cons (.int _) (.cons (.int _) (.cons (Cv f) .nil))))
theorem IA{A:Around}{s:Shared}:∀{a b:List Nat}{us ws:List Value},aK (nv a) us->aK (nv b) ws->iT A s us ws (fQ a b)
 |[],[],_,_,r,q=>by cases r;cases q;exact .nn
 |[],_::_,_,_,r,q=>by cases r;cases q;exact .nc
 |_::_,[],_,_,r,q=>by cases r;cases q;exact .cn
 |x::a,y::b,_,_,r,q=>by
  cases r with
  |cons r1 r2=>
   cases q with
   |cons q1 q2=>
    obtain⟨t,rfl⟩:=r1
    obtain⟨t',rfl⟩:=q1
    have e:=SeqAt.EqAt.int_int (A:=A) (s:=s) (x:Int) t (y:Int) t'
    by_cases h:x=y
    ·subst h
     have e':SeqAt.EqAt A s (.int (x:Int) t) (.int (x:Int) t') true:=by simpa using e
     unfold fQ
     rw[cu (iW x),c7 rfl,Bool.false_or,k5]
     exact .eq e' (IA r2 q2)
    ·have e':SeqAt.EqAt A s (.int (x:Int) t) (.int (y:Int) t') false:=by
      have z:((x:Int) == (y:Int))=false:=by rw[qH];omega
      rw[z]at e;exact e
     unfold fQ
     rw[cu h,Bool.false_and,Bool.or_false]
     refine .ne e' fun prog w E Q qq=>HT.DB A s _ _ _ _ prog w E Q ?_
     rw[show decide ((x:Int)<(y:Int))=decide (x<y) from gu.mpr eD]
     exact qq
section
variable{X:Cx}{pins:List (Addr×Obj)}{σ:L2.St}{H:Hp}{s:Shared}
theorem RN{A:Around}(I:Inv X pins σ H s){p q:Addr}{a b:Perm}(hp:Ls H p a)(hq:Ls H q b)(hu:A.units<cLine):zV A s (.ref p) (.ref q) (fQ a b):=by
 obtain⟨its,r1,p1,_⟩:=I.list (ai.of hp)
 obtain⟨its2,r2,p2,_⟩:=I.list (ai.of hq)
 exact zW p1 p2 (IA r1 r2) hu
theorem eq_data{A:Around}(I:Inv X pins σ H s){v u:V}{x y:Value}{d e:PyData}(hd:Dp X.K H v d)(he:Dp X.K H u e)(rx:RelV v x)(ry:RelV u y)(sd:SeqAt.shaped d=true)(se:SeqAt.shaped e=true)(hu:A.in1.units+64<cLine):SeqAt.EqAt A.in1 s x y (PyData.eqv d e):=by
 obtain⟨as,r1⟩:=Dp.reads I d v x hd rx
 obtain⟨bs,r2⟩:=Dp.reads I e u y he ry
 exact SeqAt.eqAt_reads d e A.in1 s x y as bs r1 r2 (SeqAt.canLay_of_shaped sd) (SeqAt.canLay_of_shaped se) (SeqAt.room_of_shaped sd hu)
theorem IB{A:Around}(I:Inv X pins σ H s)(hu:A.in1.units+64<cLine):∀{rs ts:List Addr}{fs gs:List Perm}{us ws:List Value},bp H rs fs->bp H ts gs->aK (rs.map V.ref) us->aK (ts.map V.ref) ws->fs.length=gs.length->iT A.in1 s us ws (lU fs gs)
 |[],[],[],[],_,_,_,_,r,q,_=>by cases r;cases q;exact .nn
 |[],_,_::_,_,_,_,h,_,_,_,_=>h.elim
 |_::_,_,[],_,_,_,h,_,_,_,_=>h.elim
 |_,[],_,_::_,_,_,_,h,_,_,_=>h.elim
 |_,_::_,_,[],_,_,_,h,_,_,_=>h.elim
 |x::rs,y::ts,f::fs,g::gs,_,_,h,h',r,q,hl=>by
  cases r with
  |cons r1 r2=>
   cases q with
   |cons q1 q2=>
    cases r1
    cases q1
    have e:=eq_data (A:=A) I (Cu h.1) (Cu h'.1) (show RelV (.ref x) (.ref x) from rfl) (show RelV (.ref y) (.ref y) from rfl) (PySem.W.ke_shaped_ints _) (PySem.W.ke_shaped_ints _) hu
    rw[Iq]at e
    unfold lU
    by_cases z:f=g
    ·rw[af z]
     rw[c7 z]at e
     exact .eq e (IB I hu h.2 h'.2 r2 q2 (by simpa using hl))
    ·rw[ae z]
     rw[cu z]at e
     exact .ne e (RN I h.1 h'.1 (by omega))
def tZ(n m:Nat)(F G:Form):Bool:=
 if n=m then (if F.twists=G.twists then (if F.factors.length=G.factors.length then (if F.factors=G.factors then false else lU F.factors G.factors) else decide (F.factors.length<G.factors.length)) else decide (F.twists<G.twists)) else decide (n<m)
def RO:R2:=fun x y H Q=>∃(p q L M:Addr) (rs ts:List Addr) (n m:Nat) (F G:Form),x=.ref p/\y=.ref q/\H p=some (.lst (tY n F L))/\H q=some (.lst (tY m G M))/\bc H L rs F.factors/\bc H M ts G.factors/\Q (.bl (tZ n m F G)) H
theorem Cw{A:Around}{s:Shared}{i j:Int}{t t':Tok}{us ws:List Value}{r r':Bool}(h:i=j->iT A s us ws r)(e1:i=j->r'=r)(e2:i≠j->r'=decide (i<j)):iT A s (.int i t::us) (.int j t'::ws) r':=by
 have e:=SeqAt.EqAt.int_int (A:=A) (s:=s) i t j t'
 by_cases z:i=j
 ·rw[e1 z]
  have:(i == j)=true:=beq_iff_eq.mpr z
  rw[this]at e
  exact .eq e (h z)
 ·rw[e2 z]
  have:(i == j)=false:=qH.mpr z
  rw[this]at e
  exact .ne e fun prog w E Q qq=>HT.DB A s _ _ _ _ prog w E Q qq
end
theorem RP{k:Nat}{A:Around}(r:cy k A):A.units+100<cLine:=by have:=r.un;omega
theorem RQ{X:Cx}(hu:X.A.units+100<cLine):cT X (compareOp .Lt) RO:=by
 intro pins s σ H x y v u Q I rx ry h
 obtain⟨p,q,L,M,rs,ts,n,m,F,G,rfl,rfl,hp,hq,fl,fm,k⟩:=h
 cases rx
 cases ry
 obtain⟨its,r1,p1,_⟩:=I.list (ai.of hp)
 obtain⟨its2,r2,p2,_⟩:=I.list (ai.of hq)
 refine zW p1 p2 (r:=tZ n m F G) ?_ (by omega) _ _ _ _ ⟨.bl _,H,I,rfl,k⟩
 unfold tY at r1 r2
 cases r1 with|cons a1 r1=>cases r1 with|cons a2 r1=>cases r1 with|cons a3 r1=>cases r1 with|cons a4 r1=>cases r1 with|nil=>
 cases r2 with|cons b1 r2=>cases r2 with|cons b2 r2=>cases r2 with|cons b3 r2=>cases r2 with|cons b4 r2=>cases r2 with|nil=>
 obtain⟨t1,rfl⟩:=a1
 obtain⟨t2,rfl⟩:=a2
 obtain⟨t3,rfl⟩:=a3
 cases a4
 obtain⟨t5,rfl⟩:=b1
 obtain⟨t6,rfl⟩:=b2
 obtain⟨t7,rfl⟩:=b3
 cases b4
 have iu:X.A.in1.units=X.A.units+1:=rfl
 have iu2:X.A.in1.in1.units=X.A.units+2:=rfl
 unfold tZ
 refine Cw (r:=if F.twists=G.twists then (if F.factors.length=G.factors.length then (if F.factors=G.factors then false else lU F.factors G.factors) else decide (F.factors.length<G.factors.length)) else decide (F.twists<G.twists)) (fun e1=>?_) (fun e1=>af (by omega)) (fun e1=>by rw[ae (by omega),gu];omega)
 refine Cw (r:=if F.factors.length=G.factors.length then (if F.factors=G.factors then false else lU F.factors G.factors) else decide (F.factors.length<G.factors.length)) (fun e2=>?_) (fun e2=>af e2) (fun e2=>ae e2)
 refine Cw (r:=if F.factors=G.factors then false else lU F.factors G.factors) (fun e3=>?_) (fun e3=>af (by omega)) (fun e3=>by rw[ae (by omega),gu];omega)
 have ee:=eq_data (A:=X.A) I (Cv fl) (Cv fm) (show RelV (.ref L) (.ref L) from rfl) (show RelV (.ref M) (.ref M) from rfl) (Ct _) (Ct _) (by omega)
 rw[Iu]at ee
 by_cases z:F.factors=G.factors
 ·rw[af z]
  rw[c7 z]at ee
  exact .eq ee .nn
 ·rw[ae z]
  rw[cu z]at ee
  refine .ne ee ?_
  obtain⟨jts,s1,o1,_⟩:=I.list (ai.of fl.lst)
  obtain⟨jts2,s2,o2,_⟩:=I.list (ai.of fm.lst)
  exact zW o1 o2 (IB (A:=X.A.in1) I (by omega) fl.aI fm.aI s1 s2 (by omega)) (by omega)
def RR(T:Txt K mg):Sp:=fun vs H Q _=>∃(pa pb:Addr) (n m:Nat) (F G:Form),vs=[.ref pa,.ref pb]/\Bd T H pa n F/\Bd T H pb m G/\n<=16/\m<=16/\aV n F/\aV m G/\Val H Q (.int (Wqaraq.order ⟨n,F⟩ ⟨m,G⟩))
theorem order_eq{n m:Nat}{F G:Form}(hn:n<=16)(hF:aV n F)(hG:aV m G):Wqaraq.order ⟨n,F⟩ ⟨m,G⟩=if n=m/\F.twists=G.twists/\F.factors.length=G.factors.length/\F.factors=G.factors then 0 else if tZ n m F G=true then -1 else 1:=by
 unfold Wqaraq.order tZ
 dsimp only
 by_cases e1:n=m
 ·subst e1
  rw[ae (iW n),ae (iW n),af (rfl:n=n)]
  by_cases e2:F.twists=G.twists
  ·rw[ae (show ¬F.twists<G.twists by omega),ae (show ¬G.twists<F.twists by omega),af e2]
   by_cases e3:F.factors.length=G.factors.length
   ·rw[ae (show ¬F.factors.length<G.factors.length by omega),ae (show ¬G.factors.length<F.factors.length by omega),af e3,GG hn hF hG e3]
    by_cases e4:F.factors=G.factors
    ·rw[af e4,af (show n=n/\F.twists=G.twists/\F.factors.length=G.factors.length/\F.factors=G.factors from ⟨rfl,e2,e3,e4⟩)]
    ·rw[ae e4,ae (show ¬(n=n/\F.twists=G.twists/\F.factors.length=G.factors.length/\F.factors=G.factors) from fun z=>e4 z.2.2.2),ae e4]
   ·rw[ae e3,ae (show ¬(n=n/\F.twists=G.twists/\F.factors.length=G.factors.length/\F.factors=G.factors) from fun z=>e3 z.2.2.1)]
    by_cases c:F.factors.length<G.factors.length
    ·rw[af c,af (c7 c)]
    ·rw[ae c,af (show G.factors.length<F.factors.length by omega),cu c];rfl
  ·rw[ae e2,ae (show ¬(n=n/\F.twists=G.twists/\F.factors.length=G.factors.length/\F.factors=G.factors) from fun z=>e2 z.2.1)]
   by_cases c:F.twists<G.twists
   ·rw[af c,af (c7 c)]
   ·rw[ae c,af (show G.twists<F.twists by omega),cu c];rfl
 ·rw[ae (show ¬(n=m/\F.twists=G.twists/\F.factors.length=G.factors.length/\F.factors=G.factors) from fun z=>e1 z.1),ae e1]
  by_cases c:n<m
  ·rw[af c,af (c7 c)]
  ·rw[ae c,af (show m<n by omega),cu c];rfl
theorem RS(T:Txt K mg):T.vY.Ok P w base 2 (RR T):=by
 have S:=OS
 refine T.vY.F.ok S (by rintro _ _ _ _ ⟨pa,pb,n,m,F,G,rfl,_⟩;rfl) fun cdv A outer s H vs Q E hr h=>?_
 ·obtain⟨pa,pb,n,m,F,G,rfl,⟨da,La,ra,ba⟩,⟨db,Lb,rb,bb⟩,hn,hm,hF,hG,k⟩:=h
  refine⟨_,(aj (bt (a5 (pI hr.units) (T.rank.c (wM T) hr (ak (pv 0))) (T.rank.c (wM T) hr (ak (pv 1)))) (ao (az aq)) bx)
   (ao (az (gJ (a5 (RQ (RP hr)) (T.rank.c (wM T) hr (ak (pv 0))) (T.rank.c (wM T) hr (ak (pv 1)))) (iI iJ aq) aq)))),?_⟩
  have oe:=order_eq hn hF hG
  have bs:∀{H1 H2:Hp}{b:Addr}{n:Nat}{F:Form}{dx L:Addr}{rs:List Addr},wC T H1 b n F dx L rs->ag H1 H2->wC T H2 b n F dx L rs:=fun x s=>⟨s _ _ x.ins,s _ _ x.fs.lst,x.fs.aI.same s⟩
  refine⟨_,rfl,pa,n,F,da,La,ra,rfl,ba,fun H1 p1 s1 f1 h1=>?_⟩
  refine⟨_,rfl,pb,m,G,db,Lb,rb,rfl,bs bb s1,fun H2 p2 s2 f2 h2=>?_⟩
  have s02:=s1.trans s2
  refine⟨_,_,Iz (s2 _ _ h1) (bs ba s02).fs,Iz h2 (bs bb s02).fs,Iw _ _,Iw _ _,_,rfl,?_⟩
  rw[RK]
  refine aS (fun c=>?_) (fun c=>?_)
  ·have c:=a0 c
   refine jx (k H2 s02) ?_
   rw[oe,af c]
  ·have c:=a_ c
   refine⟨_,rfl,pa,n,F,da,La,ra,rfl,bs ba s02,fun H3 p3 s3 f3 h3=>?_⟩
   refine⟨_,rfl,pb,m,G,db,Lb,rb,rfl,bs bb (s02.trans s3),fun H4 p4 s4 f4 h4=>?_⟩
   have s04:=(s02.trans s3).trans s4
   refine⟨p3,p4,La,Lb,ra,rb,n,m,F,G,rfl,rfl,s4 _ _ h3,h4,(bs ba s04).fs,(bs bb s04).fs,_,rfl,?_⟩
   refine aS (fun c2=>?_) (fun c2=>?_)
   ·refine⟨_,rfl,jx (k H4 s04) ?_⟩
    rw[oe,ae c,af c2]
   ·refine jx (k H4 s04) ?_
    rw[oe,ae c,c2]
    rfl
theorem wN{C:Addr}{sp:Sp}{dvs:List V}{E:XK}{t:TA}{σ:L2.St}{H:Hp}{Q:VK}(h:t σ H fun vs H1=>∀x dx,H1 x=none->H1 dx=none->dx≠x->
  sp (.ref x::(vs++dvs)) (upd (upd H1 dx (.own x)) x (.ins C dx [])) (fun v H2=>v=.aW/\Q (.ref x) H2) E):uH C sp dvs E t σ H Q:=h
def md(r:Addr)(L:Nat)(ex:Int):List (Str×V):=b0 "exponent" (.int ex) (b0 "loops" (.int L) (b0 "partners" (.ref r) []))
theorem t_(r:Addr)(L:Nat)(ex:Int):(md r L ex).lookup ("partners":Str)=some (.ref r):=by
 unfold md;rw[cO,ae (by decide),cO,ae (by decide),cO,af rfl]
theorem wO(r:Addr)(L:Nat)(ex:Int):(md r L ex).lookup ("loops":Str)=some (.int L):=by
 unfold md;rw[cO,ae (by decide),cO,af rfl]
theorem wQ(r:Addr)(L:Nat)(ex:Int):(md r L ex).lookup ("exponent":Str)=some (.int ex):=by
 unfold md;rw[cO,af rfl]
def RT(T:Txt K mg)(H:Hp)(p:Addr)(P:bM)(dx r:Addr):Prop:=H p=some (.ins T.jw dx (md r P.L P.ex))/\Ls H r P.p
def Pc(T:Txt K mg)(H:Hp)(p:Addr)(P:bM):Prop:=∃dx r,RT T H p P dx r
theorem Pc.same{T:Txt K mg}{H H':Hp}{p:Addr}{P:bM}(h:Pc T H p P)(s:ag H H'):Pc T H' p P:=by
 obtain⟨dx,r,i,l⟩:=h
 exact⟨dx,r,s _ _ i,s _ _ l⟩
def RU(T:Txt K mg):Sp:=fun vs H Q _=>∃(p dx r:Addr) (L:Nat) (ex:Int),vs=[.ref p,.ref r,.int L,.int ex]/\H p=some (.ins T.jw dx [])/\∀H':Hp,bq p H H'->H' p=some (.ins T.jw dx (md r L ex))->Q .aW H'
theorem wR(T:Txt K mg):T.oM.Ok mg P w base 1 (RU T):=by
 have S:=PH
 refine T.oM.F.ok S (by rintro _ _ _ _ ⟨p,dx,r,L,ex,rfl,_⟩;rfl) fun cdv A outer s H vs Q E hr h=>?_
 ·obtain⟨p,dx,r,L,ex,rfl,hp,q⟩:=h
  refine⟨_,(aj (gV (pv 0) (pv 1) rfl)
   (aj (gV (pv 0) (pv 2) rfl)
   (ao (gV (pv 0) (pv 3) rfl)))),?_⟩
  refine⟨_,rfl,_,rfl,p,_,dx,_,rfl,hp,T.gh,T.n8,(by show 0<1000;decide),?_⟩
  refine⟨_,rfl,_,rfl,p,_,dx,_,rfl,au,T.gh,T.qe,(by show 1<1000;decide),?_⟩
  refine⟨_,rfl,_,rfl,p,_,dx,_,rfl,au,T.gh,T.qf,(by show 2<1000;decide),?_⟩
  refine q _ (fun b o e hb=>by rw[ax hb,ax hb,ax hb];exact e) ?_
  rw[au];rfl
theorem wU(T:Txt K mg){H H':Hp}{x dx r:Addr}{P:bM}(h:Ls H r P.p)(nx:H x=none)(nd:H dx=none)(b:bq x (upd (upd H dx (.own x)) x (.ins T.jw dx [])) H')(h':H' x=some (.ins T.jw dx (md r P.L P.ex))):
  ag H H'/\Pc T H' x P:=by
 have s:ag H H':=ag.made nx nd b
 exact⟨s,dx,r,h',s _ _ h⟩
def RV(T:Txt K mg):Sp:=fun vs H Q _=>∃n:Nat,vs=[.int n]/\n<=16/\∀(H':Hp) (p:Addr),ag H H'->Pc T H' p (cP n)->Q (.ref p) H'
theorem RW(n:Nat):List.range' n (2 * n - n)++List.range n=lQ n:=by
 unfold lQ
 rw[show 2 * n=n+n by omega,List.range_add,cN,dq,Nat.add_sub_cancel]
 congr 1
 ·rw[List.range'_eq_map_range]
  refine gI fun e he=>?_
  rw[af (a6.mp he)]
 ·conv=>lhs;rw[<-List.map_id (List.range n)]
  refine gI fun e he=>?_
  show e=if n+e<n then _ else n+e - n
  rw[ae (by omega)];omega
theorem RX(T:Txt K mg):T.vR.Ok P w base 3 (RV T):=by
 have S:=OJ
 refine T.vR.F.ok S (by rintro _ _ _ _ ⟨n,rfl,_⟩;rfl) fun cdv A outer s H vs Q E hr h=>?_
 ·obtain⟨n,rfl,hn,k⟩:=h
  refine⟨_,(ao (az (T.oM.c (wR T) hr T.sU (dk (aC fH (gL (j4 rfl) rfl T.gB k6 (ak (zS rfl T.cH (aR (pv 0) (aC jc aq (pv 0)))))) (gL (j4 rfl) rfl T.gB k6 (ak (mS rfl T.cH (ak (pv 0)))))) aq aq)))),?_⟩
  refine a8 (wN (bG (ic ?_)))
  refine BW (va:=.int n) (vb:=.int (2 * n)) n (2 * n) rfl rfl (fun Q' q=>⟨_,rfl,q⟩) (fun Q' q=>⟨_,rfl,_,_,rfl,rfl,.inl ⟨by decide,by decide⟩,q⟩) ⟨by omega,by omega⟩ fun H1 p1 s1 f1 h1=>?_
  refine wx (v:=.int n) n rfl (fun Q' q=>⟨_,rfl,q⟩) (by omega) fun H2 p2 s2 f2 h2=>?_
  refine⟨p1,p2,_,_,rfl,rfl,s2 _ _ h1,h2,ck (by rw[cG,cG,List.length_range',cA];omega),fun p3 f3=>?_⟩
  have s3:=(s1.trans s2).upd (o:=.lst (nv (List.range' n (2 * n - n))++nv (List.range n))) ((s1.trans s2).free f3)
  intro x dx nx nd nxd
  refine⟨x,dx,p3,0,0,rfl,au,fun H4 bb hh=>⟨rfl,?_⟩⟩
  obtain⟨s4,b4⟩:=wU T (P:=cP n) (r:=p3) (by show upd _ p3 _ p3=_;rw[au,<-wq,RW];rfl) nx nd bb hh
  exact k H4 x (s3.trans s4) b4
def RY(T:Txt K mg):Sp:=fun vs H Q _=>∃(p:Addr) (l:List Nat) (x y:Nat),vs=[.ref p,.int x,.int y]/\Ls H p l/\x<l.length/\y<l.length/\∀H':Hp,bq p H H'->Ls H' p ((l.set x y).set y x)->Q .aW H'
theorem IC(T:Txt K mg):T.connect.Ok P w base 1 (RY T):=by
 have S:=OK
 refine T.connect.F.ok S (by rintro _ _ _ _ ⟨p,l,x,y,rfl,_⟩;rfl) fun cdv A outer s H vs Q E hr h=>?_
 ·obtain⟨p,l,x,y,rfl,hp,hx,hy,k⟩:=h
  refine⟨_,(aj (fC (pv 2) (fB (pv 0) (pv 1) set_list))
   (ao (fC (pv 1) (fB (pv 0) (pv 2) set_list)))),?_⟩
  refine⟨_,rfl,_,rfl,_,rfl,p,_,_,x,rfl,rfl,hp,d5 rfl (by rw[cG];exact hx),?_⟩
  refine⟨_,rfl,_,rfl,_,rfl,p,_,_,y,rfl,rfl,au,d5 rfl (by rw[gp,cG];exact hy),?_⟩
  refine k _ (fun b o e hb=>by rw[ax hb,ax hb];exact e) ?_
  show upd _ p _ p=_
  rw[au,l7,l7]
def RZ(T:Txt K mg):Sp:=fun vs H Q _=>∃(p:Addr) (P:bM) (n:Nat) (c:Int),vs=[.ref p,.int (sg c)]/\Pc T H p P/\∀(H':Hp) (r:Addr),ag H H'->Pc T H' r (bS n P c false)->Q (.ref r) H'
theorem R0(T:Txt K mg):T.vS.Ok P w base 3 (RZ T):=by
 have S:=OL
 refine T.vS.F.ok S (by rintro _ _ _ _ ⟨p,P,n,c,rfl,_⟩;rfl) fun cdv A outer s H vs Q E hr h=>?_
 ·obtain⟨p,P,n,c,rfl,⟨dx,r,i,l⟩,k⟩:=h
  refine⟨_,(ao (az (T.oM.c (wR T) hr T.sU (dk (ay (pv 0)) (ay (pv 0)) (aC bZ (ay (pv 0)) (pv 1)))))),?_⟩
  refine⟨_,rfl,p,_,dx,_,_,rfl,i,T.gh,T.n8,t_ _ _ _,_,rfl,p,_,dx,_,_,rfl,i,T.gh,T.qe,wO _ _ _,_,rfl,p,_,dx,_,_,rfl,i,T.gh,T.qf,wQ _ _ _,_,rfl,_,_,rfl,rfl,?_⟩
  intro x dx' nx nd nxd
  refine⟨x,dx',r,P.L,P.ex+sg c,rfl,au,fun H4 bb hh=>⟨rfl,?_⟩⟩
  obtain⟨s4,b4⟩:=wU T (P:=bS n P c false) (r:=r) (by unfold bS;rw[af rfl];exact l) nx nd bb (by unfold bS;rw[af rfl];exact hh)
  exact k H4 x s4 b4
def R_(T:Txt K mg):Sp:=fun vs H Q _=>∃(p:Addr) (P:bM) (n:Nat) (c:Int),vs=[.ref p,.int (n+(c.natAbs - 1):Nat),.int (sg c)]/\Pc T H p P/\Inv2 n P.p/\1<=c.natAbs/\c.natAbs<n/\∀(H':Hp) (r:Addr),ag H H'->Pc T H' r (bS n P c true)->Q (.ref r) H'
theorem Sa(T:Txt K mg):T.vT.Ok P w base 3 (R_ T):=by
 have S:=OM
 refine T.vT.F.ok S (by rintro _ _ _ _ ⟨p,P,n,c,rfl,_⟩;rfl) fun cdv A outer s H vs Q E hr h=>?_
 ·obtain⟨p,P,n,c,rfl,⟨dx,r,i,l⟩,inv,c1,c2,k⟩:=h
  refine⟨_,(aj (sv 3 S.nd (aC bZ (pv 1) aq))
   (aj (bt (a5 nj (aM (ay (pv 0)) (pv 1)) (pv 3)) (ao (az (T.oM.c (wR T) hr T.sU (dk (ay (pv 0)) (aC bZ (ay (pv 0)) aq) (aC cB (ay (pv 0)) (pv 2)))))) bx)
   (aj (sv 4 S.nd (gL uL rfl T.gB (by decide+kernel) (ak (ay (pv 0)))))
   (aj (dR (T.connect.c (IC T) hr (dk (pv 4) (aM (pv 4) (pv 1)) (aM (pv 4) (pv 3)))))
   (aj (dR (T.connect.c (IC T) hr (dk (pv 4) (pv 1) (pv 3))))
   (ao (az (T.oM.c (wR T) hr T.sU (dk (pv 4) (ay (pv 0)) (aC cB (ay (pv 0)) (pv 2))))))))))),?_⟩
  have pl:=inv.len
  have hx:n+(c.natAbs - 1)<2 * n:=by omega
  have hy:n+(c.natAbs - 1+1)<2 * n:=by omega
  have ex:((n+(c.natAbs - 1):Nat):Int)+1=((n+(c.natAbs - 1+1):Nat):Int):=by omega
  refine⟨_,rfl,_,_,rfl,rfl,?_⟩
  dsimp only [dt]
  rw[ex]
  refine⟨_,rfl,p,_,dx,_,_,rfl,i,T.gh,T.n8,t_ _ _ _,_,rfl,r,_,_,_,rfl,rfl,ai.of l,cZ rfl (by omega),_,rfl,rfl,_,rfl,?_⟩
  refine aS (fun cc=>?_) (fun cc=>?_)
  ·have cc:=a0 cc
   injection cc with cc
   have cc:mk P.p (n+(c.natAbs - 1))=n+(c.natAbs - 1+1):=by
    have:((Wqaraq.at_ P.p (n+(c.natAbs - 1)):Nat):Int)=((n+(c.natAbs - 1+1):Nat):Int):=cc
    show Wqaraq.at_ P.p (n+(c.natAbs - 1))=_
    omega
   refine⟨_,rfl,p,_,dx,_,_,rfl,i,T.gh,T.n8,t_ _ _ _,_,rfl,p,_,dx,_,_,rfl,i,T.gh,T.qe,wO _ _ _,_,_,rfl,rfl,_,rfl,p,_,dx,_,_,rfl,i,T.gh,T.qf,wQ _ _ _,_,rfl,_,_,rfl,rfl,?_⟩
   intro x dx' nx nd nxd
   refine⟨x,dx',r,P.L+1,P.ex - sg c,rfl,au,fun H4 bb hh=>⟨rfl,?_⟩⟩
   have es:bS n P c true=⟨P.p,P.L+1,P.ex - sg c⟩:=by unfold bS;rw[ae (by simp),af cc]
   obtain⟨s4,b4⟩:=wU T (P:=bS n P c true) (r:=r) (by rw[es];exact l) nx nd bb (by rw[es];exact hh)
   exact k H4 x s4 b4
  ·have cc:=a_ cc
   have cc:mk P.p (n+(c.natAbs - 1))≠n+(c.natAbs - 1+1):=fun z=>cc (by
    show V.int ((Wqaraq.at_ P.p (n+(c.natAbs - 1)):Nat):Int)=_
    have z:Wqaraq.at_ P.p (n+(c.natAbs - 1))=_:=z
    rw[z])
   have lx:=inv.lt _ hx
   have ly:=inv.lt _ hy
   refine⟨_,rfl,p,_,dx,_,_,rfl,i,T.gh,T.n8,t_ _ _ _,r,_,rfl,.inl (ai.of l),fun q fq=>?_⟩
   have s1:=ag.bA (o:=.lst (nv P.p)) fq
   refine⟨_,rfl,_,rfl,_,rfl,q,_,_,_,rfl,rfl,ai.of au,cZ rfl (by omega),_,rfl,_,rfl,q,_,_,_,rfl,rfl,ai.of au,cZ rfl (by omega),?_⟩
   refine⟨q,P.p,mk P.p (n+(c.natAbs - 1)),mk P.p (n+(c.natAbs - 1+1)),rfl,au,by omega,by omega,fun H2 b2 h2=>?_⟩
   refine⟨_,rfl,_,rfl,_,rfl,q,_,n+(c.natAbs - 1),n+(c.natAbs - 1+1),rfl,h2,by simp only [gp];omega,by simp only [gp];omega,fun H3 b3 h3=>?_⟩
   have s3:ag H H3:=fun b o e=>b3 _ _ (b2 _ _ (s1 _ _ e) (a7 e fq)) (a7 e fq)
   refine⟨_,rfl,_,rfl,p,_,dx,_,_,rfl,s3 _ _ i,T.gh,T.qe,wO _ _ _,_,rfl,p,_,dx,_,_,rfl,s3 _ _ i,T.gh,T.qf,wQ _ _ _,_,rfl,_,_,rfl,rfl,?_⟩
   intro x dx' nx nd nxd
   refine⟨x,dx',q,P.L,P.ex - sg c,rfl,au,fun H4 bb hh=>⟨rfl,?_⟩⟩
   have es:bS n P c true=⟨mR P.p (n+(c.natAbs - 1)) (n+(c.natAbs - 1+1)),P.L,P.ex - sg c⟩:=by unfold bS;rw[ae (by simp),ae cc]
   obtain⟨s4,b4⟩:=wU T (P:=bS n P c true) (r:=q) (by rw[es];exact h3) nx nd bb (by rw[es];exact hh)
   exact k H4 x (s3.trans s4) b4
def dW(T:Txt K mg)(H:Hp):List Addr->List bM->Prop
 |[],[]=>True
 |r::rs,f::fs=>Pc T H r f/\dW T H rs fs
 |_,_=>False
theorem dW.len{T:Txt K mg}{H:Hp}:∀{rs:List Addr}{fs:List bM},dW T H rs fs->rs.length=fs.length
 |[],[],_=>rfl
 |[],_::_,h=>h.elim
 |_::_,[],h=>h.elim
 |_::rs,_::fs,h=>bO (·+1) h.2.len
theorem dW.get{T:Txt K mg}{H:Hp}:∀{rs:List Addr}{fs:List bM}{i:Nat}{f:bM},dW T H rs fs->fs[i]?=some f->∃r,rs[i]?=some r/\Pc T H r f
 |[],[],i,f,_,e=>by simp at e
 |[],_::_,_,_,h,_=>h.elim
 |_::_,[],_,_,h,_=>h.elim
 |r::rs,g::fs,0,f,h,e=>⟨r,rfl,by rw[<-bo e];exact h.1⟩
 |r::rs,g::fs,i+1,f,h,e=>h.2.get (i:=i) e
theorem dW.imp{T:Txt K mg}{H H':Hp}:∀{rs:List Addr}{fs:List bM},dW T H rs fs->(∀r f,f∈fs->Pc T H r f->Pc T H' r f)->dW T H' rs fs
 |[],[],_,_=>trivial
 |[],_::_,h,_=>h.elim
 |_::_,[],h,_=>h.elim
 |r::rs,f::fs,h,k=>⟨k r f bE h.1,h.2.imp fun r f hf=>k r f (bH _ hf)⟩
theorem dW.same{T:Txt K mg}{H H':Hp}{rs:List Addr}{fs:List bM}(h:dW T H rs fs)(s:ag H H'):dW T H' rs fs:=h.imp fun _ _ _ e=>e.same s
theorem dW.app{T:Txt K mg}{H:Hp}:∀{rs:List Addr}{fs:List bM}{ts:List Addr}{gs:List bM},dW T H rs fs->dW T H ts gs->dW T H (rs++ts) (fs++gs)
 |[],[],_,_,_,k=>k
 |[],_::_,_,_,h,_=>h.elim
 |_::_,[],_,_,h,_=>h.elim
 |r::rs,f::fs,_,_,h,k=>⟨h.1,h.2.app k⟩
theorem Pc.upd{T:Txt K mg}{H:Hp}{p D:Addr}{P:bM}{qs:List V}{o:HO}(h:Pc T H p P)(l:0<P.p.length)(hD:H D=some (.lst qs))(z:∀i,qs[0]?≠some (.int i)):Pc T (L2.upd H D o) p P:=by
 obtain⟨dx,r,i,l'⟩:=h
 have n1:p≠D:=fun e=>by rw[e,hD]at i;cases i
 have n2:r≠D:=fun e=>by
  rw[e]at l'
  have l':H D=_:=l'
  rw[hD]at l'
  injection l' with l'
  injection l' with l'
  exact z _ (by rw[l'];exact kQ l)
 exact⟨dx,r,(ax n1).trans i,(ax n2).trans l'⟩
theorem ID{T:Txt K mg}{a:Addr}{rs:List Addr}{fs:List bM}{g:TG}{tt:TT}{te:TE}{vs:List Nat}{σ:L2.St}{H:Hp}{Q:VK}(F:bM->bM)
  (hl:H a=some (.lst (rs.map V.ref)))(h:dW T H rs fs)(hz:fs.length<=100000)(h1:∀f,f∈fs->0<(F f).p.length)
  (hs:∀(r:Addr) (f:bM) (H':Hp),f∈fs->ag H H'->Pc T H' r f->∀(R:V->Hp->Prop) (Nx:Hp->Prop),(∀H'' r',ag H' H''->Pc T H'' r' (F f)->R (.ref r') H'')->
   g (.ref r) (wipe σ vs) H' fun σ2 H2=>wipe σ2 vs=wipe σ vs/\tt σ2 H2 fun b H3=>if b=true then te σ2 H3 R else Nx H3)
  (k:∀(H':Hp) (D:Addr) (rs':List Addr),ag H H'->H D=none->H' D=some (.lst (rs'.map V.ref))->dW T H' rs' (fs.map F)->Q (.ref D) H'):oN g tt te vs σ Q (jJ K a) H:=by
 intro D hD
 have rl:=h.len
 refine⟨fun i m H'=>m=fs.length - i/\i<=fs.length/\ag H H'/\∃rs',H' D=some (.lst (rs'.map V.ref))/\dW T H' rs' ((fs.take i).map F),⟨fs.length,by simp,be _,ag.bA hD,[],au,trivial⟩,?_⟩
 rintro i m H1 ⟨rfl,hi,s1,rs1,F1,P1⟩
 have q:=ai.of (K:=K) (s1 _ _ hl)
 by_cases hlt:i<fs.length
 ·obtain⟨r,hr,lr⟩:=h.get (bu hlt)
  refine .inr ⟨⟨_,V.ref r,q,by rw[bX,hr];rfl⟩,fun H'=>ag H H'/\∃rs',H' D=some (.lst (rs'.map V.ref))/\dW T H' rs' ((fs.take (i+1)).map F),fun H' h=>⟨fs.length - (i+1),by omega,rfl,hlt,h⟩,fun x H' y=>?_⟩
  obtain⟨e,y⟩:=y
  subst e
  have ex:V.ref r=x:=by
   have z:=y _ q
   rw[bX,hr]at z
   exact bo z
  subst ex
  have hm:=iY hlt
  refine hs r fs[i] _ hm s1 (lr.same s1) _ _ fun H2 r' s2 l2=>?_
  have F2l:=s2 _ _ F1
  refine⟨_,F2l,?_,(s1.trans s2).upd hD,rs1++[r'],by rw[au,cN];rfl,?_⟩
  ·rw[aE,P1.len,aE,dz]
   exact small (by omega)
  ·have tk:fs.take (i+1)=fs.take i++[fs[i]]:=by rw[i0,bu hlt];rfl
   rw[tk,cN]
   refine dW.app ((P1.same s2).imp fun x f hf e=>?_) ⟨l2.upd (h1 _ hm) F2l (j6 rs1),trivial⟩
   obtain⟨z,hz,rfl⟩:=bW.mp hf
   exact e.upd (h1 z (mw hz)) F2l (j6 rs1)
 ·have e:i=fs.length:=by omega
  subst e
  rw[gU]at P1
  exact .inl ⟨⟨_,q,by rw[aE,rl];exact aX _⟩,k _ D rs1 s1 hD F1 P1⟩
theorem Cy{n:Nat}{P:bM}{c:Int}{b:Bool}(h:Inv2 n P.p)(c1:1<=c.natAbs)(c2:c.natAbs<n):Inv2 n (bS n P c b).p:=by
 unfold bS
 split
 ·exact h
 ·split
  ·exact h
  ·rename_i z
   exact Gc h (by omega) (by omega) (by omega) z
def Sb(T:Txt K mg):Sp:=fun vs H Q _=>∃(n:Nat) (p:Addr) (w:List Int),vs=[.int n,.ref p]/\2<=n/\n<=16/\Li H p w/\Wqaraq.fits n w=true/\w.length<=10/\
 ∀(H':Hp) (L:Addr) (rs:List Addr),ag H H'->H' L=some (.lst (rs.map V.ref))->dW T H' rs (fP n [cP n] w)->(∀P,P∈fP n [cP n] w->Inv2 n P.p)->(fP n [cP n] w).length<=1024->Q (.ref L) H'
theorem Sd(T:Txt K mg):T.vU.Ok P w base 4 (Sb T):=by
 have S:=ON
 refine T.vU.F.ok S (by rintro _ _ _ _ ⟨n,p,w,rfl,_⟩;rfl) fun cdv A outer s H vs Q E hr h=>?_
 ·obtain⟨n,p,w,rfl,n2,hn,hp,hw,hl,k⟩:=h
  refine⟨_,(aj (sv 2 S.nd (aY (ak (T.vR.c (RX T) hr (ak (pv 0))))))
   (aj (c8 PassesOwn.never rfl (fF (pv 1)) (gn 3 S.nd) (aj (sv 4 S.nd (gJ (a5 eM (pv 3) aq) aq (iI iJ aq)))
   (aj (sv 5 S.nd (aC cB (aC bZ (pv 0) (fX lu rfl T.kJ (by decide+kernel) (ak (pv 3)))) aq))
   (ao (sv 2 S.nd (aC fH (iM (own:=[("p",6)]) rfl S.nd (fF (pv 2)) (fI (by rfl)) (fun _ _ _ _ _=>(eJ (i:=6) S.nd rfl (Or.inl rfl))) (fun _ _ _ _ _=>iL) (fun _ _ _ _ _=>(T.vS.c (R0 T) hr (aR (pv 6) (pv 4))))) (iM (own:=[("p",6)]) rfl S.nd (fF (pv 2)) (fI (by rfl)) (fun _ _ _ _ _=>(eJ (i:=6) S.nd rfl (Or.inl rfl))) (fun _ _ _ _ _=>iL) (fun _ _ _ _ _=>(T.vT.c (Sa T) hr (dk (pv 6) (pv 5) (pv 4)))))))))))
   (ao (az (pv 2))))),?_⟩
  refine⟨_,rfl,n,rfl,hn,fun H1 p0 s1 b1=>?_⟩
  refine⟨ck (by show 1<=100000;decide),fun L0 f0=>?_⟩
  have s2:=s1.upd (o:=.lst [V.ref p0]) (s1.free f0)
  have sA:=fun i=>w.take i
  refine⟨_,rfl,p,rfl,⟨_,ai.of (s2 _ _ hp)⟩,mD (xs:=iv w) (fun i σ H'=>∃(v3 v4 v5 v6:Option V) (L:Addr) (rs:List Addr),σ=[some (.int n),some (.ref p),some (.ref L),v3,v4,v5,v6]/\ag H H'/\H' L=some (.lst (rs.map V.ref))/\dW T H' rs (fP n [cP n] (w.take i))/\(∀P,P∈fP n [cP n] (w.take i)->Inv2 n P.p)/\(fP n [cP n] (w.take i)).length=2 ^ i)
   ⟨none,none,none,none,L0,[p0],rfl,s2,au,⟨b1.same (ag.bA f0),trivial⟩,fun P hP=>by rw[gq.mp hP];exact Gb,rfl⟩ (fun i σ H' _ ⟨_,_,_,_,_,_,_,s,_⟩=>ai.of (s _ _ hp)) ?_ ?_⟩
  ·rintro i x σ H4 hx ⟨v3,v4,v5,v6,L,rs,rfl,s4,hL,hP,hI,hlen⟩
   obtain⟨c,hc,rfl⟩:∃c,w[i]?=some c/\x=V.int c:=by
    unfold iv at hx
    rw[bX]at hx
    cases q:w[i]? with
    |none=>rw[q]at hx;cases hx
    |some c=>rw[q]at hx;exact⟨c,rfl,(bo hx).symm⟩
   have tk:w.take (i+1)=w.take i++[c]:=by rw[i0,hc];rfl
   have hcc:Wqaraq.crossing n c=true:=by
    unfold Wqaraq.fits at hw
    rw[mj]at hw
    exact hw c (m6 hc)
   obtain⟨c1,c2⟩:=jt.mp hcc
   have hi:i<w.length:=(dP.mp hc).1
   have ef:fP n [cP n] (w.take (i+1))=(fP n [cP n] (w.take i)).map (fun P=>bS n P c false)++(fP n [cP n] (w.take i)).map (fun P=>bS n P c true):=by
    rw[tk];unfold fP;rw[jE];rfl
   rw[ef]
   have l1024:(fP n [cP n] (w.take i)).length<=1024:=by
    rw[hlen]
    exact cz (Nat.pow_le_pow_right (by decide) (show i<=10 by omega)) (by decide)
   generalize fP n [cP n] (w.take i)=Ps at *
   have pos:∀b,∀P,P∈Ps->0<(bS n P c b).p.length:=fun b P hP=>by rw[(Cy (b:=b) (hI P hP) c1 c2).len];omega
   refine bY (aQ (ik (fun σ H'=>σ=[some (.int n),some (.ref p),some (.ref L),some (.int c),some (.int (sg c)),v5,v6]/\H'=H4) ?_ ?_))
   ·rintro σ H5 ⟨rfl,rfl⟩
    refine⟨_,rfl,_,rfl,_,rfl,_,_,rfl,rfl,_,_,rfl,rfl,?_⟩
    dsimp only [dt]
    rw[show (n:Int)+(if c<0 then -c else c) - 1=((n+(c.natAbs - 1):Nat):Int) by rw[mV];omega]
    refine bz (ic (gS ?_))
    refine⟨_,rfl,L,rfl,⟨_,ai.of hL⟩,ID (fun P=>bS n P c false) hL hP (by omega) (pos false) ?_ ?_⟩
    ·intro r f H6 hf s6 p6 R Nx k1
     refine⟨rfl,yes ?_⟩
     exact⟨_,rfl,_,rfl,r,f,n,c,rfl,p6,fun H7 r' s7 b7=>k1 H7 r' s7 b7⟩
    ·intro H6 D1 rs1 s6 f6 h6 p6
     refine gS ?_
     refine⟨_,rfl,L,rfl,⟨_,ai.of (s6 _ _ hL)⟩,ID (fun P=>bS n P c true) (s6 _ _ hL) (hP.same s6) (by omega) (pos true) ?_ ?_⟩
     ·intro r f H7 hf s7 p7 R Nx k1
      refine⟨rfl,yes ?_⟩
      exact⟨_,rfl,_,rfl,_,rfl,r,f,n,c,rfl,p7,hI f hf,c1,c2,fun H8 r' s8 b8=>k1 H8 r' s8 b8⟩
     ·intro H7 D2 rs2 s7 f7 h7 p7
      have l1:rs1.length=Ps.length:=by rw[p6.len,aE]
      have l2:rs2.length=Ps.length:=by rw[p7.len,aE]
      refine⟨D1,D2,_,_,rfl,rfl,s7 _ _ h6,h7,ck (by rw[aE,aE];omega),fun D3 f3=>?_⟩
      have s8:=ag.bA (o:=.lst (rs1.map V.ref++rs2.map V.ref)) f3
      refine⟨_,_,_,_,D3,rs1++rs2,rfl,((s4.trans s6).trans s7).trans s8,by rw[au,cN],dW.app ((p6.same s7).same s8) (p7.same s8),fun P hP'=>?_,by rw[bF,aE,aE,hlen,Nat.pow_succ];omega⟩
      rcases dO.mp hP' with hP'|hP'
      ·obtain⟨z,hz,rfl⟩:=bW.mp hP'
       exact Cy (hI z hz) c1 c2
      ·obtain⟨z,hz,rfl⟩:=bW.mp hP'
       exact Cy (hI z hz) c1 c2
   ·intro fin
    refine bz ⟨_,rfl,_,_,rfl,rfl,_,rfl,?_⟩
    refine aS (fun cc=>?_) (fun cc=>?_)
    ·have cc:(0:Int)<c:=a0 cc
     refine fin _ _ ⟨?_,rfl⟩
     unfold sg;rw[af cc];rfl
    ·have cc:¬(0:Int)<c:=a_ cc
     refine⟨_,rfl,fin _ _ ⟨?_,rfl⟩⟩
     unfold sg;rw[ae cc];rfl
  ·rintro σ H4 ⟨v3,v4,v5,v6,L,rs,rfl,s4,hL,hP,hI,hlen⟩
   rw[cQ]at hP hI hlen
   rw[gU]at hP hI hlen
   refine⟨_,rfl,k H4 L rs s4 hL hP hI ?_⟩
   rw[hlen]
   exact cz (Nat.pow_le_pow_right (by decide) hl) (by decide)
def Se(T:Txt K mg):Sp:=fun vs H Q _=>∃(n:Nat) (p:Addr) (P:bM),vs=[.int n,.ref p]/\2<=n/\n<=16/\Pc T H p P/\Inv2 n P.p/\Val H Q (.int ((P.L+fO n P.p:Nat):Int))
theorem Sf(T:Txt K mg):T.vV.Ok P w base 1 (Se T):=by
 have S:=OO
 refine T.vV.F.ok S (by rintro _ _ _ _ ⟨n,p,P,rfl,_⟩;rfl) fun cdv A outer s H vs Q E hr h=>?_
 ·obtain⟨n,p,P,rfl,n2,hn,⟨dx,r,hi0,hr0⟩,inv,k⟩:=h
  refine⟨_,(aj (sv 2 S.nd (aC rF (aY (ak kg)) (pv 0)))
   (aj (sv 3 S.nd (ay (pv 1)))
   (aj (c8 PassesOwn.never rfl (iH rfl T.cH (ak (pv 0))) (gn 4 S.nd) (aj (bt (dX (cq (aM (pv 2) (pv 4)))) (ao (sv 3 S.nd (aC bZ (pv 3) aq))) bx)
   (aj (sv 5 S.nd (pv 4))
   (ao (jI PassesOwn.never (dX (cq (aM (pv 2) (aC pE (pv 5) (pv 0))))) (aj (fC kg (fB (pv 2) (aC pE (pv 5) (pv 0)) set_list))
   (ao (sv 5 S.nd (aC pE (aC bZ (aM (ay (pv 1)) (pv 5)) (pv 0)) (aC jc aq (pv 0)))))))))))
   (ao (az (pv 3)))))),?_⟩
  have n0:0<n:=by omega
  have pl:=inv.len
  refine⟨ck (by show 1<=100000;decide),fun f0 ff0=>?_⟩
  have s1:=ag.bA (o:=.lst [V.bl false]) ff0
  refine⟨_,rfl,f0,_,_,rfl,rfl,au,by omega,by omega,ck (by show 1 * ((n:Nat):Int).toNat<=_;omega),fun w fw=>?_⟩
  rw[show ((n:Nat):Int).toNat=n by omega,Io]
  have s2:=s1.upd (o:=.lst (eQ n fun _=>false)) (s1.free fw)
  have fw0:=s1.free fw
  refine⟨_,rfl,p,_,dx,_,_,rfl,s2 _ _ hi0,T.gh,T.qe,wO _ _ _,?_⟩
  refine⟨_,rfl,n,rfl,by omega,by omega,i9 (lo:=0) (n:=((n:Nat):Int).toNat) (fun i σ H'=>∃(v4 v5:Option V) (f:Nat->Bool),σ=[some (.int n),some (.ref p),some (.ref w),some (.int (P.L+(List.range i).countP (du (Wqaraq.joined (2 * n) (Ee n P.p))):Nat)),v4,v5]/\ag H H'/\H' w=some (.lst (eQ n f))/\∀q,q<n->(f q=true↔∃j,j<i/\Cn (2 * n) (Ee n P.p) j q))
   ⟨none,none,_,rfl,s2,au,fun q _=>⟨fun z=>(by cases z),fun ⟨j,hj,_⟩=>(by omega)⟩⟩ ?_ ?_⟩
  ·rintro i σ H3 hi ⟨v4,v5,f,rfl,s3,h3,hf⟩
   have hi:i<n:=by omega
   have e1:(0:Int)+(i:Int)=(i:Int):=by omega
   have first:du (Wqaraq.joined (2 * n) (Ee n P.p)) i= !f i:=by
    rw[jC,nZ,fu,<-o5,hf i hi]
    exact⟨fun z ⟨j,hj,c⟩=>z j hj c,fun z j hj c=>z ⟨j,hj,c⟩⟩
   have cnt1:(List.range (i+1)).countP (du (Wqaraq.joined (2 * n) (Ee n P.p)))=(List.range i).countP (du (Wqaraq.joined (2 * n) (Ee n P.p)))+(if f i=true then 0 else 1):=by
    rw[iZ,o8,jD,List.countP_nil,first]
    cases f i<;>rfl
   refine bY (aQ (ik (fun σ H'=>∃(v5:Option V),σ=[some (.int n),some (.ref p),some (.ref w),some (.int (P.L+(List.range (i+1)).countP (du (Wqaraq.joined (2 * n) (Ee n P.p))):Nat)),some (.int (0+i)),v5]/\H'=H3) ?_ ?_))
   ·rintro σ H4 ⟨v5,rfl,rfl⟩
    refine⟨_,rfl,?_⟩
    rw[e1]
    have hi2:i<2 * n:=by omega
    refine⟨fun mm σ H'=>∃(g:Nat->Bool) (kk:Nat),mm=(List.range n).countP (fun q=> !g q)/\σ=[some (.int n),some (.ref p),some (.ref w),some (.int (P.L+(List.range (i+1)).countP (du (Wqaraq.joined (2 * n) (Ee n P.p))):Nat)),some (.int i),some (.int (it (bD n P.p) kk i:Nat))]/\ag H H'/\H' w=some (.lst (eQ n g))/\(0<kk->f i=false)/\(∀a b,a<kk->b<kk->it (bD n P.p) a i % n=it (bD n P.p) b i % n->a=b)/\∀q,q<n->(g q=true↔f q=true\/∃j,j<kk/\it (bD n P.p) j i % n=q),
     ⟨_,f,0,rfl,rfl,s3,h3,fun z=>by omega,fun a b h1=>by omega,fun q _=>⟨.inl,fun z=>z.elim id fun ⟨j,hj,_⟩=>by omega⟩⟩,?_⟩
    rintro mm σ H5 ⟨g,kk,rfl,rfl,s5,h5,k0,kd,hg⟩
    have elt:=sQ inv n0 hi2 kk
    have plt:it (bD n P.p) kk i % n<n:=Nat.mod_lt _ n0
    have em:((it (bD n P.p) kk i:Nat):Int) % (n:Int)=((it (bD n P.p) kk i % n:Nat):Int):=by rw[Int.natCast_emod]
    refine⟨_,rfl,_,rfl,_,rfl,_,_,rfl,rfl,by show (0:Int)<(n:Int);omega,w,_,_,_,rfl,rfl,ai.of h5,wL em plt,_,rfl,?_⟩
    refine aS (fun c=>?_) (fun c=>?_)
    ·rw[fu]at c
     refine⟨fun σ' H'=>∃m',m'<(List.range n).countP (fun q=> !g q)/\∃(g:Nat->Bool) (kk:Nat),m'=(List.range n).countP (fun q=> !g q)/\σ'=[some (.int n),some (.ref p),some (.ref w),some (.int (P.L+(List.range (i+1)).countP (du (Wqaraq.joined (2 * n) (Ee n P.p))):Nat)),some (.int i),some (.int (it (bD n P.p) kk i:Nat))]/\ag H H'/\H' w=some (.lst (eQ n g))/\(0<kk->f i=false)/\(∀a b,a<kk->b<kk->it (bD n P.p) a i % n=it (bD n P.p) b i % n->a=b)/\∀q,q<n->(g q=true↔f q=true\/∃j,j<kk/\it (bD n P.p) j i % n=q),fun σ' H' h=>h,?_⟩
     refine⟨_,rfl,_,rfl,_,rfl,_,_,rfl,rfl,by show (0:Int)<(n:Int);omega,w,_,_,it (bD n P.p) kk i % n,rfl,rfl,h5,d5 em (by rw[wJ];exact plt),?_⟩
     have s6:ag H (upd H5 w (.lst ((eQ n g).set (it (bD n P.p) kk i % n) (.bl true)))):=s5.upd fw0
     refine⟨_,rfl,p,_,dx,_,_,rfl,s6 _ _ hi0,T.gh,T.n8,t_ _ _ _,_,rfl,r,_,_,_,rfl,rfl,ai.of (s6 _ _ hr0),cZ rfl (by omega),_,rfl,_,_,rfl,rfl,_,rfl,_,_,rfl,rfl,.inl ⟨by decide,by decide⟩,_,_,rfl,rfl,by show (0:Int)<2 * (n:Int);omega,?_⟩
     refine⟨_,Ip plt c,fun q=>if q=it (bD n P.p) kk i % n then true else g q,kk+1,rfl,?_,s6,by rw[au,Im],fun _=>?_,fun a b ha hb e=>?_,fun q hq=>?_⟩
     ·show [some (V.int n),some (V.ref p),some (V.ref w),some (V.int _),some (V.int i),some (V.int ((((Wqaraq.at_ P.p (it (bD n P.p) kk i):Nat):Int)+(n:Int)) % (2 * (n:Int))))]=_
      rw[show (((Wqaraq.at_ P.p (it (bD n P.p) kk i):Nat):Int)+(n:Int)) % (2 * (n:Int))=((it (bD n P.p) (kk+1) i:Nat):Int) by
       show _=(((mk P.p (it (bD n P.p) kk i)+n) % (2 * n):Nat):Int)
       rw[Int.natCast_emod,uq,Int.natCast_mul];rfl]
     ·by_cases z:0<kk
      ·exact k0 z
      ·have z:kk=0:=by omega
       subst z
       rw[<-o5]
       intro y
       have:=(hg i hi).mpr (.inl y)
       rw[show it (bD n P.p) 0 i=i from rfl,q0 hi]at c
       rw[c]at this;cases this
     ·have nw:∀j,j<kk->it (bD n P.p) j i % n≠it (bD n P.p) kk i % n:=fun j hj z=>by
       have:=(hg _ plt).mpr (.inr ⟨j,hj,z⟩)
       rw[c]at this;cases this
      by_cases za:a=kk
      ·by_cases zb:b=kk
       ·omega
       ·rw[za]at e;exact absurd e.symm (nw b (by omega))
      ·by_cases zb:b=kk
       ·rw[zb]at e;exact absurd e (nw a (by omega))
       ·exact kd a b (by omega) (by omega) e
     ·show (if q=it (bD n P.p) kk i % n then true else g q)=true↔_
      by_cases e:q=it (bD n P.p) kk i % n
      ·rw[af e]
       exact⟨fun _=>.inr ⟨kk,by omega,e.symm⟩,fun _=>rfl⟩
      ·rw[ae e,hg q hq]
       constructor
       ·rintro(y|⟨j,hj,y⟩)
        ·exact .inl y
        ·exact .inr ⟨j,by omega,y⟩
       ·rintro(y|⟨j,hj,y⟩)
        ·exact .inl y
        ·refine .inr ⟨j,kZ fun z=>e ?_,y⟩
         rw[<-y,show j=kk by omega]
    ·rw[i4]at c
     refine⟨_,_,g,rfl,s5,h5,fun q hq=>?_⟩
     have lo:(∃j,j<i+1/\Cn (2 * n) (Ee n P.p) j q)↔f q=true\/Cn (2 * n) (Ee n P.p) i q:=by
      rw[hf q hq]
      constructor
      ·rintro⟨j,hj,y⟩
       by_cases z:j=i
       ·exact .inr (by rw[<-z];exact y)
       ·exact .inl ⟨j,by omega,y⟩
      ·rintro(⟨j,hj,y⟩|y)
       ·exact⟨j,by omega,y⟩
       ·exact⟨i,by omega,y⟩
     have cnw:∀j,Cn (2 * n) (Ee n P.p) i (it (bD n P.p) j i % n):=fun j=>(Gj inv n0 hi2 j).trans (zx inv n0 (sQ inv n0 hi2 j))
     rw[lo,hg q hq]
     by_cases z:0<kk
     ·have fi:=k0 z
      have:∃j,j<kk/\it (bD n P.p) kk i % n=it (bD n P.p) j i % n:=by
       rcases(hg _ plt).mp c with y|⟨j,hj,y⟩
       ·exfalso
        obtain⟨j,hj,y⟩:=(hf _ plt).mp y
        have:=(hf i hi).mpr ⟨j,hj,y.trans (cnw kk).symm⟩
        rw[fi]at this;cases this
       ·exact⟨j,hj,y.symm⟩
      obtain⟨j,hj,ej⟩:=this
      constructor
      ·rintro(y|⟨j',hj',y⟩)
       ·exact .inl y
       ·exact .inr (by rw[<-y];exact cnw j')
      ·rintro(y|y)
       ·exact .inl y
       ·exact .inr (Nw inv n0 hi hj kd ej hq y)
     ·have z:kk=0:=by omega
      subst z
      have fi:f i=true:=by
       rcases(hg _ plt).mp c with y|⟨j,hj,_⟩
       ·rw[show it (bD n P.p) 0 i=i from rfl,q0 hi]at y
        exact y
       ·omega
      constructor
      ·rintro(y|⟨j',hj',y⟩)
       ·exact .inl y
       ·omega
      ·rintro(y|y)
       ·exact .inl y
       ·obtain⟨j,hj,y'⟩:=(hf i hi).mp fi
        exact .inl ((hf q hq).mpr ⟨j,hj,y'.trans y⟩)
   ·intro fin
    refine⟨_,rfl,_,rfl,w,_,_,_,rfl,rfl,ai.of h3,wL e1 hi,_,rfl,?_⟩
    refine aS (fun c=>?_) (fun c=>?_)
    ·rw[fu]at c
     refine⟨_,rfl,_,_,rfl,rfl,fin _ _ ⟨v5,?_,rfl⟩⟩
     rw[cnt1,c];rfl
    ·rw[i4]at c
     refine fin _ _ ⟨v5,?_,rfl⟩
     rw[cnt1,c];rfl
  ·rintro σ H3 ⟨v4,v5,f,rfl,s3,h3,hf⟩
   refine⟨_,rfl,?_⟩
   rw[show ((n:Nat):Int).toNat=n by omega]
   exact k H3 s3
theorem Sg{K:PySem.W.Frag}{a b:Addr}{l m:List Int}{g:TG}{tt:TT}{te:TE}{vs:List Nat}{σ:L2.St}{H:Hp}{Q:VK}(f:Int->Int->V)
  (hqa:ai K H a (iv l))(hqb:ai K H b (iv m))(hlm:l.length=m.length)(hl:l.length<=100000)
  (hs:∀(x y:Int) (T:Addr) (H':Hp),ag H H'->H' T=none->∀(R:V->Hp->Prop) (Nx:Hp->Prop),(∀H'',ag H' H''->R (f x y) H'')->
   g (.ref T) (wipe σ vs) (upd H' T (.tup [.int x,.int y])) fun σ2 H2=>wipe σ2 vs=wipe σ vs/\tt σ2 H2 fun b H3=>if b=true then te σ2 H3 R else Nx H3)
  (k:bB H Q (List.zipWith f l m)):oN g tt te vs σ Q (pK K a b) H:=fun D hD=>
 N0 f hqa hqb hlm (small hl) hD (fun x y T H' s hT _ R Nx h=>hs x y T H' s hT R Nx h) fun H' s h=>k H' D s hD h
structure ua(H:Hp)(L:Addr)(rs:List Addr)(g:Nat->List Int)(m:Nat):Prop where
 lst:H L=some (.lst (rs.map V.ref))
 len:rs.length=m
 row:∀i r,rs[i]?=some r->Li H r (g i)
def Si(T:Txt K mg):Sp:=fun vs H Q _=>∃m:Nat,vs=[.int m]/\m<=100/\∀(H':Hp) (L:Addr) (rs:List Addr),ag H H'->ua H' L rs pw (m+1)->Q (.ref L) H'
theorem Sj(m:Nat):0<(pw m).length:=by rw[iR];omega
theorem wV{l:List Int}(h:0<l.length):∃z,(iv l)[0]?=some (.int z):=by
 cases l with
 |nil=>simp at h
 |cons x l=>exact⟨x,rfl⟩
theorem Sk(T:Txt K mg):T.vW.Ok P w base 1 (Si T):=by
 have S:=OP
 refine T.vW.F.ok S (by rintro _ _ _ _ ⟨m,rfl,_⟩;rfl) fun cdv A outer s H vs Q E hr h=>?_
 ·obtain⟨m,rfl,hm,k⟩:=h
  refine⟨_,(aj (sv 1 S.nd (aY (ak (aY (ak aq)))))
   (aj (jI PassesOwn.never (a5 rD (c5 T.cW (pv 1)) (pv 0)) (aj (sv 2 S.nd (aM (pv 1) (iI iJ aq)))
   (ao (dR (j5 (pv 1) (iM (own:=[("x",3),("y",4)]) rfl S.nd (L7 rfl T.GQ (aR (aC fH (aY (ak aq)) (pv 2)) (aC fH (pv 2) (aY (ak aq))))) (fI (by rfl)) (fun _ _ _ _ _=>(P_ (K:=K) rfl (n:=2) rfl (mC (eJ (i:=3) S.nd rfl (Or.inl rfl)) (mC (eJ (i:=4) S.nd rfl (Or.inl rfl)) uB)))) (fun _ _ _ _ _=>iL) (fun _ _ _ _ _=>(aC cB (iI iJ (pv 3)) (pv 4)))))))))
   (ao (az (pv 1))))),?_⟩
  refine⟨ck (by show 1<=100000;decide),fun r0 f0=>⟨ck (by show 1<=100000;decide),fun L fL=>?_⟩⟩
  have s0:=ag.bA (o:=.lst [V.int 1]) f0
  have fL0:=s0.free fL
  have s1:=s0.upd (o:=.lst [V.ref r0]) fL0
  have nr:r0≠L:=fun z=>by rw[<-z,au]at fL;cases fL
  dsimp only [dt]
  refine aQ (ik (fun σ H'=>∃(v2 v3 v4:Option V) (rs:List Addr),σ=[some (.int m),some (.ref L),v2,v3,v4]/\ag H H'/\ua H' L rs pw (m+1)) ?_ ?_)
  ·rintro σ H2 ⟨v2,v3,v4,rs,rfl,s2,R2⟩
   exact⟨_,rfl,k H2 L rs s2 R2⟩
  ·intro fin
   refine⟨fun mm σ H'=>∃(v2 v3 v4:Option V) (rs:List Addr) (i:Nat),mm=m - i/\i<=m/\σ=[some (.int m),some (.ref L),v2,v3,v4]/\ag H H'/\ua H' L rs pw (i+1),
    ⟨_,none,none,none,[r0],0,rfl,be _,rfl,s1,au,rfl,fun i r hr=>?_⟩,?_⟩
   ·have hi:i=0:=by
     have:=(dP.mp hr).1
     simp at this;omega
    subst hi
    have:r0=r:=bo hr
    subst this
    exact(ax nr).trans au
   ·rintro mm σ H2 ⟨v2,v3,v4,rs,i,rfl,hi,rfl,s2,R2⟩
    refine⟨_,rfl,L,_,rfl,.inl (ai.of R2.lst),_,rfl,_,_,rfl,rfl,_,rfl,?_⟩
    rw[aE,R2.len]
    refine aS (fun c=>?_) (fun c=>?_)
    ·have c:((i+1:Nat):Int)<=(m:Int):=a0 c
     refine⟨fun σ' H'=>∃m',m'<m - i/\∃(v2 v3 v4:Option V) (rs:List Addr) (i:Nat),m'=m - i/\i<=m/\σ'=[some (.int m),some (.ref L),v2,v3,v4]/\ag H H'/\ua H' L rs pw (i+1),fun σ' H' h=>h,?_⟩
     have rl:=R2.len
     obtain⟨ry,y,er⟩:∃ry y,rs=ry++[y]:=by
      rcases xj rs with e|⟨ry,y,e⟩
      ·rw[e]at rl;simp at rl
      ·exact⟨ry,y,by rw[xm]at e;exact e⟩
     subst er
     have ryl:ry.length=i:=by simpa using rl
     have hy:=R2.row i y (by rw[<-ryl];exact kS _ _ _)
     refine⟨_,rfl,_,rfl,L,_,_,_,rfl,rfl,ai.of R2.lst,by rw[cN];exact Ck _ _,?_⟩
     refine⟨_,rfl,.inl ⟨rfl,_,ai.of R2.lst⟩,bG (gS ?_)⟩
     refine⟨ck (by show 1<=100000;decide),fun z0 g0=>?_⟩
     have t1:=ag.bA (o:=.lst [V.int 0]) g0
     refine⟨_,rfl,z0,y,_,_,rfl,rfl,au,t1 _ _ hy,ck (by rw[cQ,iR];show 1+_<=_;omega),fun z1 g1=>?_⟩
     have t2:=t1.upd (o:=.lst ([V.int 0]++iv (pw i))) (t1.free g1)
     refine⟨_,rfl,ck (by show 1<=100000;decide),fun z2 g2=>?_⟩
     have t3:=t2.upd (o:=.lst [V.int 0]) (t2.free g2)
     refine⟨y,z2,_,_,rfl,rfl,t3 _ _ hy,au,ck (by rw[cQ,iR];show _+1<=_;omega),fun z3 g3=>?_⟩
     have t4:=t3.upd (o:=.lst (iv (pw i)++[V.int 0])) (t3.free g3)
     have n12:z1≠z2:=fun e=>by rw[<-e,au]at g2;cases g2
     have n13:z1≠z3:=fun e=>by rw[<-e,ax n12,au]at g3;cases g3
     refine⟨z1,z3,_,_,rfl,ai.of ((ax n13).trans ((ax n12).trans au)),ai.of au,Sg (l:=0::pw i) (m:=pw i++[0]) (fun x y=>V.int (-x - y)) (ai.of ((ax n13).trans ((ax n12).trans au))) (ai.of (by rw[au,wt];rfl)) (by simp) (by rw[bP,iR];omega) ?_ ?_⟩
     ·intro x y' Tp H3 s3 hT R Nx k1
      refine⟨Tp,_,rfl,fv.of au,rfl,_,_,rfl,_,_,rfl,rfl,?_⟩
      refine⟨rfl,yes ?_⟩
      exact⟨_,rfl,_,rfl,_,rfl,_,_,rfl,rfl,k1 _ (ag.bA hT)⟩
     ·intro H3 D s3 fD h3
      have h3:Li H3 D (pw (i+1)):=by
       show H3 D=_
       rw[h3,ND]
       unfold iv
       rw[List.map_zipWith]
      have s23:=t4.trans s3
      have R3l:=s23 _ _ R2.lst
      have nDL:D≠L:=fun e=>by rw[e,t4 _ _ R2.lst]at fD;cases fD
      refine⟨L,_,_,rfl,rfl,R3l,small (by rw[aE,R2.len];omega),?_⟩
      refine⟨_,?_,_,_,_,(ry++[y])++[D],i+1,rfl,by omega,rfl,fun b o e=>by rw[ax (a7 e fL0)];exact s23 _ _ (s2 _ _ e),by rw[au];simp,by rw[bF,R2.len];rfl,fun j x hx=>?_⟩
      ·omega
      ·by_cases hj:j<i+1
       ·rw[qI (by rw[R2.len];exact hj)]at hx
        have hxx:=R2.row j x hx
        have:x≠L:=fun e=>by
         rw[e]at hxx
         have hxx:H2 L=_:=hxx
         rw[R2.lst]at hxx
         injection hxx with hxx
         injection hxx with hxx
         obtain⟨z,hz⟩:=wV (Sj j)
         exact j6 _ z (by rw[hxx];exact hz)
        exact(ax this).trans (s23 _ _ hxx)
       ·rw[oV (by rw[R2.len];omega),R2.len]at hx
        have:j - (i+1)=0:=by
         have:=(dP.mp hx).1
         simp at this;omega
        rw[this]at hx
        have ex:D=x:=bo hx
        rw[<-ex,show j=i+1 by omega]
        exact(ax nDL).trans h3
    ·have c:¬((i+1:Nat):Int)<=(m:Int):=a_ c
     refine fin _ _ ⟨_,_,_,rs,rfl,s2,?_⟩
     rw[show m=i by omega];exact R2
def Sl(T:Txt K mg):Sp:=fun vs H Q _=>∃(n:Nat) (p:Addr) (w:List Int),vs=[.int n,.ref p]/\2<=n/\n<=6/\Li H p w/\Wqaraq.fits n w=true/\w.length<=10/\bB H Q (iv (Wqaraq.statesOf n w))
def ip(most:Nat)(n:Nat)(Ps:List bM):List Int:=(List.range (2 * most+1)).map fun (x:Nat)=>Ps.foldl (fun (a:Int) (P:bM)=>a+Wqaraq.ring (P.L+fO n P.p - 1) ((x:Int) - (most:Int) - P.ex)) 0
def part(least k m:Nat)(x:Nat):Int:=if least<=x/\(x - least) % 4=0/\(x - least) / 4<k then sgn m * (Wqaraq.binomial m ((x - least) / 4):Nat) else 0
theorem Sn{least k m x:Nat}:part least (k+1) m x=part least k m x+(if x=least+4 * k then sgn m * (Wqaraq.binomial m k:Nat) else 0):=by
 unfold part
 by_cases e:x=least+4 * k
 ·subst e
  rw[af ⟨by omega,by omega,by omega⟩,ae (by omega),af rfl,show (least+4 * k - least) / 4=k by omega];omega
 ·rw[ae e,mq]
  by_cases c:least<=x/\(x - least) % 4=0/\(x - least) / 4<k
  ·rw[af c,af ⟨c.1,c.2.1,by omega⟩]
  ·rw[ae c,ae (by omega)]
theorem So{least most m x:Nat}{ex:Int}(h:(least:Int)=(most:Int)+ex - 2 * (m:Int)):part least (m+1) m x=Wqaraq.ring m ((x:Int) - (most:Int) - ex):=by
 have r:=NF (m:=m) (x:=x) (lo:=(least:Int)) (e:=(most:Int)+ex) (by omega)
 rw[show (x:Int) - (most:Int) - ex=(x:Int) - ((most:Int)+ex) by omega,r]
 unfold part
 by_cases c:least<=x/\(x - least) % 4=0/\(x - least) / 4<m+1
 ·rw[af c,af (by omega)]
  congr 3
  omega
 ·rw[ae c,ae (by omega)]
theorem Sq{q y:Nat}{f:Nat->Int}{v:Int}:((List.range q).map f).set y v=(List.range q).map fun x=>if x=y then v else f x:=by
 refine List.ext_getElem? fun j=>?_
 rw[qW,bX,bX,aE,cA]
 by_cases hj:j<q
 ·rw[qP hj]
  by_cases e:y=j
  ·subst e
   rw[af rfl,af hj]
   show _=some (if y=y then v else f y)
   rw[af rfl]
  ·rw[ae e]
   show some (f j)=some (if j=y then v else f j)
   rw[ae (fun z=>e z.symm)]
 ·rw[qO (l:=List.range q) (by rw[cA];omega)]
  by_cases e:y=j
  ·rw[af e,ae (by omega)];rfl
  ·rw[ae e];rfl
def so(most n:Nat)(Ps:List bM)(x:Nat):Int:=Ps.foldl (fun (a:Int) (P:bM)=>a+Wqaraq.ring (P.L+fO n P.p - 1) ((x:Int) - (most:Int) - P.ex)) 0
theorem IE{most n:Nat}{Ps:List bM}:ip most n Ps=(List.range (2 * most+1)).map (so most n Ps):=rfl
theorem Sr{most n:Nat}{Ps:List bM}{P:bM}{x:Nat}:so most n (Ps++[P]) x=so most n Ps x+Wqaraq.ring (P.L+fO n P.p - 1) ((x:Int) - (most:Int) - P.ex):=by unfold so;rw[jE];rfl
def mid(most n:Nat)(Ps:List bM)(least k m:Nat):List Int:=(List.range (2 * most+1)).map fun x=>so most n Ps x+part least k m x
theorem Ss{most n:Nat}{Ps:List bM}{least m:Nat}:mid most n Ps least 0 m=ip most n Ps:=by
 rw[IE];unfold mid
 refine gI fun x _=>?_
 unfold part
 rw[ae (by omega),mq]
theorem Su{most n:Nat}{Ps:List bM}{least k m x:Nat}(h:x<2 * most+1):(mid most n Ps least k m)[x]?=some (so most n Ps x+part least k m x):=by
 unfold mid;rw[bX,qP h];rfl
theorem Sv{most n:Nat}{Ps:List bM}{least k m:Nat}:(mid most n Ps least k m).set (least+4 * k) (so most n Ps (least+4 * k)+part least k m (least+4 * k)+sgn m * (Wqaraq.binomial m k:Nat))=mid most n Ps least (k+1) m:=by
 unfold mid
 rw[Sq]
 refine gI fun x _=>?_
 rw[Sn]
 by_cases e:x=least+4 * k
 ·rw[af e,af e,e];omega
 ·rw[ae e,ae e];omega
theorem Sw{most n:Nat}{Ps:List bM}{least k m:Nat}:(mid most n Ps least k m).length=2 * most+1:=by unfold mid;rw[aE,cA]
theorem Sx{most n:Nat}{Ps:List bM}{P:bM}{least:Nat}(h:(least:Int)=(most:Int)+P.ex - 2 * ((P.L+fO n P.p - 1:Nat):Int)):mid most n Ps least (P.L+fO n P.p - 1+1) (P.L+fO n P.p - 1)=ip most n (Ps++[P]):=by
 rw[IE];unfold mid
 refine gI fun x _=>?_
 rw[Sr,So h]
theorem Sy(T:Txt K mg):T.vX.Ok P w base 5 (Sl T):=by
 have S:=OQ
 refine T.vX.F.ok S (by rintro _ _ _ _ ⟨n,p,w,rfl,_⟩;rfl) fun cdv A outer s H vs Q E hr h=>?_
 ·obtain⟨n,p,w,rfl,n2,hn,hp,hw,hl,k⟩:=h
  refine⟨_,(aj (sv 2 S.nd (aC bZ (aC jc aq (c5 T.cW (pv 1))) (aN rfl T.GX)))
   (aj (sv 3 S.nd (aC rF (aY (ak aq)) (aC bZ (aC jc aq (pv 2)) aq)))
   (aj (sv 4 S.nd (T.vW.c (Sk T) hr (ak (aC bZ (pv 0) (c5 T.cW (pv 1))))))
   (aj (c8 PassesOwn.never rfl (fF (T.vU.c (Sd T) hr (aR (pv 0) (pv 1)))) (gn 5 S.nd) (aj (sv 6 S.nd (aC cB (T.vV.c (Sf T) hr (aR (pv 0) (pv 5))) aq))
   (aj (sv 7 S.nd (aC cB (aC bZ (pv 2) (ay (pv 5))) (aC jc aq (pv 6))))
   (ao (c8 PassesOwn.never rfl (xY rfl T.vC (ak (aM (pv 4) (pv 6)))) (uC rfl (mC (gn 8 S.nd) (mC (gn 9 S.nd) uB))) (ao (fC (aC bZ (aM (pv 3) (aC bZ (pv 7) (aC jc aq (pv 8)))) (pv 9)) (fB (pv 3) (aC bZ (pv 7) (aC jc aq (pv 8))) set_list))))))))
   (ao (az (pv 3))))))),?_⟩
  refine⟨_,rfl,p,_,rfl,.inl (ai.of hp),_,_,rfl,rfl,.inl ⟨by decide,by decide⟩,_,_,rfl,rfl,?_⟩
  dsimp only [dt]
  rw[cQ,show (3:Int) * (w.length:Int)+16=((3 * w.length+16:Nat):Int) by omega]
  rw[Gm hw]at k
  have hms:3 * w.length+16<=46:=by omega
  have hml:w.length=(3 * w.length+16 - 16) / 3:=by omega
  generalize hmost:3 * w.length+16=most at *
  refine⟨ck (by show 1<=100000;decide),fun z0 g0=>?_⟩
  have s0:=ag.bA (o:=.lst [V.int 0]) g0
  refine⟨_,rfl,_,_,rfl,rfl,.inl ⟨by decide,by decide⟩,_,_,rfl,rfl,z0,_,_,rfl,rfl,au,by omega,by omega,ck (by show 1 * _<=_;omega),fun N fN=>?_⟩
  have fN0:=s0.free fN
  have e0:(List.replicate ((2:Int) * (most:Int)+1).toNat [V.int 0]).flatten=iv (ip most n []):=by
   rw[show ((2:Int) * (most:Int)+1).toNat=2 * most+1 by omega]
   unfold ip iv
   rw[dq]
   generalize 2 * most+1=q
   induction q with
   |zero=>rfl
   |succ q ih=>rw[kX,qK,ih,xf,dQ,dq];rfl
  rw[e0]
  have s1:=s0.upd (o:=.lst (iv (ip most n []))) fN0
  refine⟨_,rfl,_,rfl,p,_,rfl,.inl (ai.of (s1 _ _ hp)),_,_,rfl,rfl,n+w.length,by rw[cQ];rfl,by omega,fun H2 L rs s2 R2=>?_⟩
  have s02:=s1.trans s2
  have hN2:=s2 _ _ (au (H:=upd H z0 (.lst [V.int 0])) (a:=N) (o:=.lst (iv (ip most n []))))
  refine⟨_,rfl,_,rfl,n,p,w,rfl,n2,by omega,s02 _ _ hp,hw,hl,fun H3 M ms s3 h3 P3 I3 l3=>?_⟩
  have s03:=s02.trans s3
  have R3:ua H3 L rs pw (n+w.length+1):=⟨s3 _ _ R2.lst,R2.len,fun i r hr=>s3 _ _ (R2.row i r hr)⟩
  have hN3:=s3 _ _ hN2
  have bnd:∀P,P∈fP n [cP n] w->P.L<=w.length/\P.ex<=w.length/\ -(w.length:Int)<=P.ex:=by
   intro P hP
   rw[zz]at hP
   obtain⟨s,hs,hP⟩:=List.mem_flatMap.mp hP
   have hP:P=dU n (cP n) w s:=by simpa using hP
   have sl:=zA _ s hs
   obtain⟨_,b1,b2,b3⟩:=zy (n:=n) w s (cP n) sl.symm
   rw[hP]
   have z1:(cP n).L=0:=rfl
   have z2:(cP n).ex=0:=rfl
   rw[z1]at b1
   rw[z2]at b2 b3
   exact⟨by omega,by omega,by omega⟩
  generalize fP n [cP n] w=Ps at *
  have nN:∀{b:Addr}{o:HO},H b=some o->b≠N:=fun e=>a7 e fN0
  have Mne:M≠N:=fun e=>by
   rw[e,hN3]at h3
   injection h3 with h3
   injection h3 with h3
   obtain⟨z,hz⟩:=wV (l:=ip most n []) (by unfold ip;rw[aE,cA];omega)
   exact j6 ms z (by rw[<-h3];exact hz)
  have Lne:L≠N:=fun e=>by
   have h4:=R3.lst
   rw[e,hN3]at h4
   injection h4 with h4
   injection h4 with h4
   obtain⟨z,hz⟩:=wV (l:=ip most n []) (by unfold ip;rw[aE,cA];omega)
   exact j6 rs z (by rw[<-h4];exact hz)
  have lsf:∀Qs,(ip most n Qs).length=2 * most+1:=fun Qs=>by unfold ip;rw[aE,cA]
  have rne:∀i r,rs[i]?=some r->r≠N:=fun i r hr e=>by
   have h4:=R3.row i r hr
   rw[e]at h4
   have h4:H3 N=_:=h4
   rw[hN3]at h4
   injection h4 with h4
   injection h4 with h4
   have:=bO List.length h4
   rw[cQ,cQ,lsf,iR]at this
   have il:i<n+w.length+1:=by rw[<-R3.len];exact(dP.mp hr).1
   omega
  have pne:∀r f,f∈Ps->Pc T H3 r f->∀H',bq N H3 H'->Pc T H' r f:=by
   rintro r f hf ⟨dx,q,i1,i2⟩ H' b
   refine⟨dx,q,b _ _ i1 fun e=>?_,b _ _ i2 fun e=>?_⟩
   ·rw[e,hN3]at i1;cases i1
   ·rw[e]at i2
    have i2:H3 N=_:=i2
    rw[hN3]at i2
    injection i2 with i2
    injection i2 with i2
    have:=bO List.length i2
    rw[cQ,cG,lsf,(I3 f hf).len]at this
    omega
  have ml:=P3.len
  refine⟨M,rfl,⟨_,ai.of h3⟩,mD (xs:=ms.map V.ref) (fun i σ H'=>∃(v5 v6 v7 v8 v9:Option V),σ=[some (.int n),some (.ref p),some (.int most),some (.ref N),some (.ref L),v5,v6,v7,v8,v9]/\bq N H3 H'/\Li H' N (ip most n (Ps.take i)))
   ⟨none,none,none,none,none,rfl,fun b o e _=>e,by rw[o7];exact hN3⟩ ?_ ?_ ?_⟩
  ·rintro i σ H' hi ⟨v5,v6,v7,v8,v9,rfl,b,_⟩
   exact ai.of (b _ _ h3 Mne)
  ·rintro i x σ H' hx ⟨v5,v6,v7,v8,v9,rfl,b,hN⟩
   have il:i<Ps.length:=by
    have:=(dP.mp hx).1
    rw[aE]at this;omega
   have hf:Ps[i]?=some Ps[i]:=bu il
   have hmem:Ps[i]∈Ps:=iY il
   have htk:Ps.take (i+1)=Ps.take i++[Ps[i]]:=by rw[List.take_succ,hf];rfl
   generalize Ps[i]=f at hf hmem htk
   obtain⟨r,hr,hPc⟩:=P3.get hf
   rw[bX,hr]at hx
   have hx:V.ref r=x:=bo hx
   subst hx
   have hPc':=pne r f hmem hPc H' b
   obtain⟨bL,be1,be2⟩:=bnd f hmem
   have fp:=NB (n:=n) (p:=f.p) (by omega)
   have fl:=NC (n:=n) (p:=f.p)
   obtain⟨pow,hpow⟩:∃pow,pow=f.L+fO n f.p - 1:=⟨_,rfl⟩
   refine bY (aQ (bz (ic ⟨_,rfl,_,rfl,n,r,f,rfl,n2,by omega,hPc',I3 f hmem,fun H4 s4=>?_⟩)))
   refine⟨_,_,rfl,rfl,?_⟩
   have ep:((f.L+fO n f.p:Nat):Int) - 1=(pow:Int):=by omega
   dsimp only
   rw[ep]
   have hPc4:=hPc'.same s4
   obtain⟨dx,q,i1,i2⟩:=hPc4
   obtain⟨least,hleast⟩:∃least:Nat,(least:Int)=(most:Int)+f.ex - 2 * (pow:Int):=⟨((most:Int)+f.ex - 2 * (pow:Int)).toNat,by omega⟩
   have powle:pow<n+w.length+1:=by omega
   obtain⟨rr,hrr⟩:∃rr,rs[pow]?=some rr:=⟨_,bu (by rw[R3.len];exact powle)⟩
   have hrow:=R3.row pow rr hrr
   refine bY (aQ (bz (ic (ic ⟨_,rfl,_,rfl,r,_,dx,_,_,rfl,i1,T.gh,T.qf,wQ _ _ _,_,_,rfl,rfl,_,rfl,_,_,rfl,rfl,.inl ⟨by decide,by decide⟩,_,_,rfl,rfl,?_⟩))))
   dsimp only
   rw[<-hleast]
   have hN4:=s4 _ _ hN
   refine bY ⟨_,rfl,_,rfl,L,_,_,_,rfl,rfl,ai.of (s4 _ _ (b _ _ R3.lst Lne)),gm rfl hrr,rr,_,rfl,ai.of (s4 _ _ (b _ _ hrow (rne _ _ hrr))),zQ (xs:=iv (pw pow)) (fun j σ H'=>∃(v8 v9:Option V),σ=[some (.int n),some (.ref p),some (.int most),some (.ref N),some (.ref L),some (.ref r),some (.int pow),some (.int least),v8,v9]/\bq N H3 H'/\Li H' N (mid most n (Ps.take i) least j pow))
    ⟨v8,v9,rfl,fun b' o e z=>s4 _ _ (b _ _ e z),by rw[Ss];exact hN4⟩ ?_ ?_ ?_⟩
   ·rintro j σ H5 hj ⟨v8,v9,rfl,b5,hN5⟩
    exact ai.of (b5 _ _ hrow (rne _ _ hrr))
   ·rintro j x Tp σ H5 hx ⟨v8,v9,rfl,b5,hN5⟩ fT
    have jl:j<pow+1:=by
     have:=(dP.mp hx).1
     rwa[cQ,iR]at this
    have hx:V.int (sgn pow * (Wqaraq.binomial pow j:Nat))=x:=by
     rw[Hy (sS (by omega))]at hx
     exact bo hx
    subst hx
    have s6:=ag.bA (o:=.tup [V.int (j:Nat),V.int (sgn pow * (Wqaraq.binomial pow j:Nat))]) fT
    have hN6:=s6 _ _ hN5
    have lt:least+4 * j<2 * most+1:=by omega
    have ei:(least:Int)+4 * (j:Int)=((least+4 * j:Nat):Int):=by omega
    refine⟨Tp,_,rfl,fv.of au,rfl,_,_,rfl,_,_,rfl,rfl,?_⟩
    refine bz (ic ?_)
    refine⟨_,rfl,_,rfl,_,rfl,_,_,rfl,rfl,.inl ⟨by decide,by decide⟩,_,_,rfl,rfl,N,_,_,_,rfl,rfl,ai.of hN6,BV ei (Su lt),_,rfl,_,_,rfl,rfl,?_⟩
    refine⟨_,rfl,_,rfl,_,rfl,_,_,rfl,rfl,.inl ⟨by decide,by decide⟩,_,_,rfl,rfl,N,_,_,least+4 * j,rfl,rfl,hN6,d5 ei (by rw[cQ,Sw];exact lt),?_⟩
    refine⟨_,_,rfl,fun b' o e z=>(ax z).trans (s6 _ _ (b5 _ _ e z)),?_⟩
    rw[PZ,Sv]
    exact au
   ·rintro σ H5 ⟨v8,v9,rfl,b5,hN5⟩
    refine⟨_,_,_,_,_,rfl,b5,?_⟩
    rw[htk,<-Sx (least:=least) (by rw[<-hpow];exact hleast),<-hpow]
    rw[cQ,iR]at hN5
    exact hN5
  ·rintro σ H' ⟨v5,v6,v7,v8,v9,rfl,b,hN⟩
   rw[aE,ml,gU]at hN
   exact⟨_,rfl,k _ _ (fun b' o e=>b _ _ (s03 _ _ e) (nN e)) fN0 hN⟩
def mW(k:Int)(a b:Addr):List (Str×V):=b0 "rows" (.ref b) (b0 "numbers" (.ref a) (b0 "number" (.int k) []))
theorem Cz(k:Int)(a b:Addr):(mW k a b).lookup ("number":Str)=some (.int k):=by
 unfold mW;rw[cO,ae (by decide),cO,ae (by decide),cO,af rfl]
theorem Sz(k:Int)(a b:Addr):(mW k a b).lookup ("numbers":Str)=some (.ref a):=by
 unfold mW;rw[cO,ae (by decide),cO,af rfl]
theorem IH(k:Int)(a b:Addr):(mW k a b).lookup ("rows":Str)=some (.ref b):=by
 unfold mW;rw[cO,af rfl]
abbrev dF:=List (Addr×List Int)
structure SA(T:Txt K mg)(H:Hp)(c:Addr)(k:Int)(ns:List Int)(rws:dF)(dx a b:Addr):Prop where
 ins:H c=some (.ins T.kK dx (mW k a b))
 num:Li H a ns
 lst:H b=some (.lst (rws.map fun x=>V.ref x.1))
 row:∀x,x∈rws->Li H x.1 x.2
def Cl(T:Txt K mg)(H:Hp)(c:Addr)(k:Int)(ns:List Int)(rws:dF):Prop:=∃dx a b,SA T H c k ns rws dx a b
theorem Cl.same{T:Txt K mg}{H H':Hp}{c:Addr}{k:Int}{ns:List Int}{rws:dF}(h:Cl T H c k ns rws)(s:ag H H'):Cl T H' c k ns rws:=by
 obtain⟨dx,a,b,i,n,l,r⟩:=h
 exact⟨dx,a,b,s _ _ i,s _ _ n,s _ _ l,fun x hx=>s _ _ (r x hx)⟩
def nats(a:List Int):Prop:=(∀x,x∈a->0<=x)/\a.length<=2000
abbrev pm(a:List Int):Perm:=WqaraqNeutral.perm a
theorem Li.ls{H:Hp}{p:Addr}{a:List Int}(h:Li H p a)(n:nats a):Ls H p (pm a):=by
 show H p=some (.lst (nv (a.map Int.toNat)))
 rw[show nv (a.map Int.toNat)=iv a from ?_]
 ·exact h
 ·unfold nv iv
  rw[dq]
  refine gI fun x hx=>?_
  show V.int ((x.toNat:Nat):Int)=V.int x
  rw[Int.toNat_of_nonneg (n.1 x hx)]
theorem bB.of{H H1:Hp}{Q:VK}{xs:List V}(k:bB H Q xs)(s:ag H H1):bB H1 Q xs:=fun H' r s' fr h=>k H' r (s.trans s') (s.free fr) h
theorem ub{v:V}{σ:L2.St}{H:Hp}{Q:VK}(h:Q v H):tC v σ H Q:=h
theorem mh{v:V}{i:Nat}{σ:L2.St}{H:Hp}{Q:VK}(h:σ[i]?=some (some v))(q:Q v H):cK i σ H Q:=⟨v,h,q⟩
theorem gT{z:Int}{σ:L2.St}{H:Hp}{Q:VK}(k:bB H Q [.int z]):je (bQ (tC (.int z)) b_) σ H Q:=⟨ck (by show 1<=100000;decide),fun p fp=>k _ p (ag.bA fp) fp au⟩
theorem j8{te:TE}{σ:L2.St}{H:Hp}{Q:VK}{xs:List V}(hl:xs.length<=90000)(ht:∀(H1:Hp) (Q':VK),ag H H1->bB H1 Q' xs->te σ H1 Q')(k:bB H Q (.int 0::xs)):eK DQ (je (bQ (tC (.int 0)) b_)) te σ H Q:=by
 refine ic ⟨ck (by show 1<=100000;decide),fun p fp=>ht _ _ (ag.bA fp) fun H' r s' fr h=>?_⟩
 refine⟨p,r,[.int 0],xs,rfl,rfl,s' _ _ au,h,ck (by show 1+_<=_;omega),fun q fq=>?_⟩
 have s0:=(ag.bA (o:=.lst [V.int 0]) fp).trans s'
 exact k _ q (s0.upd (s0.free fq)) (s0.free fq) au
theorem fU{T:Txt K mg}{H:Hp}{c:Addr}{k:Int}{ns:List Int}{rws:dF}{x:Addr×List Int}{σ:L2.St}{i:Nat}{Q:VK}(j:Nat){z:Int}(e:z=(j:Int))(h:Cl T H c k ns rws)(hx:rws[j]?=some x)(hσ:σ[i]?=some (some (.ref c)))(q:Q (.ref x.1) H):
  eK (jf K) (jd K (cK i) "rows") (tC (.int z)) σ H Q:=by
 obtain⟨dx,a,b,h⟩:=h
 exact⟨_,hσ,c,_,dx,_,_,rfl,h.ins,T.kL,T.vF,IH _ _ _,b,_,_,_,rfl,rfl,ai.of h.lst,at_of e (by rw[bX,hx];rfl),q⟩
theorem jA{T:Txt K mg}{H:Hp}{c:Addr}{k:Int}{ns:List Int}{rws:dF}{x:Int}{σ:L2.St}{i:Nat}{Q:VK}(j:Nat){z:Int}(e:z=(j:Int))(h:Cl T H c k ns rws)(hx:ns[j]?=some x)(hσ:σ[i]?=some (some (.ref c)))(q:Q (.int x) H):
  eK (jf K) (jd K (cK i) "numbers") (tC (.int z)) σ H Q:=by
 obtain⟨dx,a,b,h⟩:=h
 exact⟨_,hσ,c,_,dx,_,_,rfl,h.ins,T.kL,T.BU,Sz _ _ _,a,_,_,_,rfl,rfl,ai.of h.num,BV e hx,q⟩
theorem Cl.li{T:Txt K mg}{H:Hp}{c:Addr}{k:Int}{ns:List Int}{rws:dF}(h:Cl T H c k ns rws){j:Nat}{x:Addr×List Int}(hx:rws[j]?=some x):Li H x.1 x.2:=by
 obtain⟨dx,a,b,h⟩:=h
 exact h.row _ (m6 hx)
def wW(n:Nat)(x:Addr×List Int):Bool:=Wqaraq.right n (pm x.2)
def II(T:Txt K mg):Sp:=fun vs H Q _=>∃(c:Addr) (k:Int) (ns:List Int) (rws:dF),vs=[.ref c]/\Cl T H c k ns rws/\(∀x,x∈rws->nats x.2)/\rws.length<=100/\Val H Q (.bl (rws.all (wW 16)))
theorem oS(T:Txt K mg):T.kO.Ok P w base 3 (II T):=by
 have S:=Ph
 refine T.kO.F.ok S (by rintro _ _ _ _ ⟨c,k,ns,rws,rfl,_⟩;rfl) fun cdv A outer s H vs Q E hr h=>?_
 ·obtain⟨c,k,ns,rws,rfl,⟨dx,a,b,h⟩,hn,hl,q⟩:=h
  refine⟨_,(ao (az (fX (DT rfl) rfl T.BO (by decide+kernel) (ak (iM (own:=[("a",1)]) rfl S.nd (fF (ay (pv 0))) (fI (by rfl)) (fun _ _ _ _ _=>(eJ (i:=1) S.nd rfl (Or.inl rfl))) (fun _ _ _ _ _=>iL) (fun _ _ _ _ _=>(T.sX.c (HK T) hr (aR (pv 1) (aN rfl T.de))))))))),?_⟩
  refine a8 (tR (gS ⟨_,rfl,c,_,dx,_,_,rfl,h.ins,T.kL,T.vF,IH _ _ _,b,rfl,⟨_,ai.of h.lst⟩,qp (l:=rws) (em:=fun x=>V.ref x.1) (fun _=>true) (fun x=>V.bl (wW 16 x)) (ai.of h.lst) (by omega) ?_ ?_⟩))
  ·intro x H' hx s R Nx k1 k2
   refine⟨rfl,yes ?_⟩
   exact⟨_,rfl,x.1,x.2,16,rfl,s _ _ (h.row x hx),(hn x hx).1,by decide,cz (hn x hx).2 (by decide),fun H2 s2=>k1 rfl H2 s2⟩
  ·intro H' D s fD hD
   rw[tT]at hD
   refine⟨D,rws.map (wW 16),rfl,ai.of (by rw[hD,dq];rfl),?_⟩
   rw[List.all_map]
   exact q H' s
def IJ(T:Txt K mg):Sp:=fun vs H Q _=>∃(c ra:Addr) (k n:Int) (a:List Int),vs=[.ref c]/\Cl T H c k [n] [(ra,a)]/\nats a/\0<=n/\Val H Q (.bl (Wqaraq.right n.toNat (pm a)))
theorem CA(T:Txt K mg):T.qo.Ok P w base 3 (IJ T):=by
 have S:=Pj
 refine T.qo.F.ok S (by rintro _ _ _ _ ⟨c,ra,k,n,a,rfl,_⟩;rfl) fun cdv A outer s H vs Q E hr h=>?_
 ·obtain⟨c,ra,k,n,a,rfl,h,ha,hn,q⟩:=h
  refine⟨_,(ao (az (T.sX.c (HK T) hr (aR (aM (ay (pv 0)) aq) (aM (ay (pv 0)) aq))))),?_⟩
  exact a8 (bN (bG (fU 0 rfl h rfl rfl (bG (jA 0 rfl h rfl rfl ⟨ra,a,n,rfl,h.li (j:=0) rfl,ha.1,hn,cz ha.2 (by decide),q⟩)))))
abbrev gD(a:Wqaraq.Ans):List V:=iv (WqaraqNeutral.numbers a)
theorem mX(a:Perm):gD (Wqaraq.permAns a)=.int 0::nv a:=by
 show V.int 0::iv (Wqaraq.ints a)=_
 rw[l8];rfl
theorem SD{l:List Perm}{f:Unit->Wqaraq.Ans}:Wqaraq.ofPerms 16 l f=if l.all (Wqaraq.right 16)=true then f () else Wqaraq.just (-1):=rfl
theorem SE{n:Nat}{a:Perm}{f:Unit->Wqaraq.Ans}:Wqaraq.ofPerms n [a] f=if Wqaraq.right n a=true then f () else Wqaraq.just (-1):=by
 unfold Wqaraq.ofPerms
 rw[show (Wqaraq.strands n&&[a].all (Wqaraq.right n))=Wqaraq.right n a from ?_]
 show (Wqaraq.strands n&&(Wqaraq.right n a&&true))=_
 rw[Bool.and_true]
 unfold Wqaraq.right
 cases Wqaraq.strands n<;>rfl
theorem oT{T:Txt K mg}{c:Addr}{k:Int}{ns:List Int}{rws:dF}{u:TS}{D:Ends}{σ:L2.St}{H:Hp}{f:Unit->Wqaraq.Ans}{E:XK}(hσ:σ[0]?=some (some (.ref c)))(hC:Cl T H c k ns rws)(hn:∀x,x∈rws->nats x.2)(hl:rws.length<=100)
  (q:bB H D.rt (gD (Wqaraq.ofPerms 16 (rws.map fun x=>pm x.2) f)))
  (h1:∀H1,ag H H1->Cl T H1 c k ns rws->(∀x,x∈rws->Rt 16 (pm x.2))->bB H1 D.rt (gD (f ()))->u D σ H1):kj (pC (uy (tB (pG (II T) [] E (bQ (cK 0) b_)))) (jH (je (bQ (tC (.int (-1))) b_))) fz) u D σ H:=by
 rw[SD,List.all_map]at q
 refine aQ (dE (oO (jy (bN ⟨_,hσ,c,k,ns,rws,rfl,hC,hn,hl,fun H1 s1=>⟨_,rfl,?_⟩⟩))))
 refine aS (fun c=>?_) (fun c=>?_)
 ·rw[fu]at c
  rw[ae (by show ¬(rws.all (wW 16)=true);rw[c];decide)]at q
  exact a8 (gT (q.of s1))
 ·rw[i4]at c
  rw[af (by exact c)]at q
  exact h1 H1 s1 (hC.same s1) (fun x hx=>(E6.mp (mj.mp c x hx)).2) (q.of s1)
theorem CB{T:Txt K mg}{c ra:Addr}{k n:Int}{a:List Int}{u:TS}{D:Ends}{σ:L2.St}{H:Hp}{f:Unit->Wqaraq.Ans}{E:XK}(hσ:σ[0]?=some (some (.ref c)))(hC:Cl T H c k [n] [(ra,a)])(ha:nats a)(hn:0<=n)
  (q:bB H D.rt (gD (Wqaraq.ofPerms n.toNat [pm a] f)))
  (h1:∀H1 (m:Nat),n=(m:Int)->ag H H1->Cl T H1 c k [(m:Int)] [(ra,a)]->(2<=m/\m<=16)->Rt m (pm a)->Ls H1 ra (pm a)->n.toNat=m->bB H1 D.rt (gD (f ()))->u D σ H1):kj (pC (uy (tB (pG (IJ T) [] E (bQ (cK 0) b_)))) (jH (je (bQ (tC (.int (-1))) b_))) fz) u D σ H:=by
 rw[SE]at q
 refine aQ (dE (oO (jy (bN ⟨_,hσ,c,ra,k,n,a,rfl,hC,ha,hn,fun H1 s1=>⟨_,rfl,?_⟩⟩))))
 refine aS (fun c=>?_) (fun c=>?_)
 ·rw[fu]at c
  rw[ae (by rw[c];decide)]at q
  exact a8 (gT (q.of s1))
 ·rw[i4]at c
  rw[af c]at q
  have r:=E6.mp c
  have en:n=((n.toNat:Nat):Int):=by omega
  have hC1:=hC.same s1
  exact h1 H1 n.toNat en s1 (by rw[<-en];exact hC1) r.1 r.2 ((hC1.li (j:=0) rfl).ls ha) rfl (q.of s1)
def wX(T:Txt K mg)(k:Int)(f:Perm->Perm->Wqaraq.Ans):Sp:=fun vs H Q _=>∃(c ra rb:Addr) (a b:List Int),vs=[.ref c]/\Cl T H c k [] [(ra,a),(rb,b)]/\nats a/\nats b/\bB H Q (gD (Wqaraq.ofPerms 16 [pm a,pm b] fun _=>f (pm a) (pm b)))
def CC(T:Txt K mg)(k:Int)(f:Perm->Wqaraq.Ans):Sp:=fun vs H Q _=>∃(c ra:Addr) (a:List Int),vs=[.ref c]/\Cl T H c k [] [(ra,a)]/\nats a/\bB H Q (gD (Wqaraq.ofPerms 16 [pm a] fun _=>f (pm a)))
def CD(T:Txt K mg)(k:Int)(f:Nat->Perm->Wqaraq.Ans):Sp:=fun vs H Q _=>∃(c ra:Addr) (n:Int) (a:List Int),vs=[.ref c]/\Cl T H c k [n] [(ra,a)]/\nats a/\0<=n/\bB H Q (gD (Wqaraq.ofPerms n.toNat [pm a] fun _=>f n.toNat (pm a)))
theorem wY{ra rb:Addr}{a b:List Int}(ha:nats a)(hb:nats b):∀x,x∈[(ra,a),(rb,b)]->nats x.2:=by
 intro x hx
 rcases cj.mp hx with rfl|hx
 ·exact ha
 ·rw[gq.mp hx];exact hb
theorem CF{ra:Addr}{a:List Int}(ha:nats a):∀x,x∈[(ra,a)]->nats x.2:=by
 intro x hx
 rw[gq.mp hx];exact ha
theorem IK{a:Perm}(h:aw a):(nv a).length<=90000:=by rw[cG,h.len];decide
theorem qv{f:Nat->Nat}:(nv (Wqaraq.made f)).length<=90000:=by rw[cG];unfold Wqaraq.made;rw[aE,cA];decide
abbrev IL(T:Txt K mg):Sp:=wX T 1 fun x y=>Wqaraq.permAns (Wqaraq.then_ x y)
abbrev IM(T:Txt K mg):Sp:=wX T 7 fun x y=>Wqaraq.permAns (Wqaraq.meetOf x y)
abbrev IP(T:Txt K mg):Sp:=wX T 8 fun x y=>Wqaraq.permAns (Wqaraq.joinOf x y)
abbrev IQ(T:Txt K mg):Sp:=wX T 6 fun x y=>Wqaraq.just (if Wqaraq.begins x y=true then 1 else 0)
abbrev IS(T:Txt K mg):Sp:=CC T 2 fun x=>Wqaraq.permAns (Wqaraq.back x)
abbrev IT(T:Txt K mg):Sp:=CC T 5 fun x=>Wqaraq.tells (Wqaraq.ints [Wqaraq.crossings x,Wqaraq.starts x,Wqaraq.ends x])
abbrev IU(T:Txt K mg):Sp:=CC T 11 fun x=>Wqaraq.tells (Wqaraq.row x)
abbrev IV(T:Txt K mg):Sp:=CD T 3 fun n x=>Wqaraq.permAns (Wqaraq.rest n x)
abbrev IW(T:Txt K mg):Sp:=CD T 4 fun n x=>Wqaraq.permAns (Wqaraq.turned n x)
abbrev IX(T:Txt K mg):Sp:=CD T 9 fun n x=>Wqaraq.tells [(Wqaraq.number n x:Int)]
theorem SF(T:Txt K mg):T.oy.Ok P w base 4 (IL T):=by
 have S:=Pk
 refine T.oy.F.ok S (by rintro _ _ _ _ ⟨c,ra,rb,a,b,rfl,_⟩;rfl) fun cdv A outer s H vs Q E hr h=>?_
 ·obtain⟨c,ra,rb,a,b,rfl,hC,ha,hb,k⟩:=h
  refine⟨_,(aj (bt (dX (cq (T.kO.c (oS T) hr (ak (pv 0))))) (ao (az (aY (ak (aN rfl T.gC))))) bx)
   (ao (az (aC fH (aY (ak (aN rfl T.dw))) (T.kM.c (oP T) hr (aR (aM (ay (pv 0)) aq) (aM (ay (pv 0)) aq))))))),?_⟩
  refine oT (rws:=[(ra,a),(rb,b)]) rfl hC (wY ha hb) (rd rfl) k fun H1 s1 C1 r k1=>?_
  have r1:=(r (ra,a) (by simp)).aa
  have r2:=(r (rb,b) (by simp)).aa
  rw[mX]at k1
  exact a8 (j8 (by exact qv) (fun H2 Q' s2 k2=>bN (bG (fU 0 rfl (C1.same s2) rfl rfl (bG (fU 1 rfl (C1.same s2) rfl rfl ⟨ra,rb,_,_,rfl,(((C1.same s2).li (j:=0) rfl).ls ha),(((C1.same s2).li (j:=1) rfl).ls hb),r1,r2,k2⟩))))) k1)
theorem SG(T:Txt K mg):T.oF.Ok P w base 5 (IM T):=by
 have S:=Pr
 refine T.oF.F.ok S (by rintro _ _ _ _ ⟨c,ra,rb,a,b,rfl,_⟩;rfl) fun cdv A outer s H vs Q E hr h=>?_
 ·obtain⟨c,ra,rb,a,b,rfl,hC,ha,hb,k⟩:=h
  refine⟨_,(aj (bt (dX (cq (T.kO.c (oS T) hr (ak (pv 0))))) (ao (az (aY (ak (aN rfl T.gC))))) bx)
   (ao (az (aC fH (aY (ak (aN rfl T.dw))) (T.tu.c (HR T) hr (aR (aM (ay (pv 0)) aq) (aM (ay (pv 0)) aq))))))),?_⟩
  refine oT (rws:=[(ra,a),(rb,b)]) rfl hC (wY ha hb) (rd rfl) k fun H1 s1 C1 r k1=>?_
  have r1:=(r (ra,a) (by simp)).aa
  have r2:=(r (rb,b) (by simp)).aa
  rw[mX]at k1
  exact a8 (j8 (IK (gO _)) (fun H2 Q' s2 k2=>bN (bG (fU 0 rfl (C1.same s2) rfl rfl (bG (fU 1 rfl (C1.same s2) rfl rfl ⟨ra,rb,_,_,rfl,(((C1.same s2).li (j:=0) rfl).ls ha),(((C1.same s2).li (j:=1) rfl).ls hb),r1,r2,k2⟩))))) k1)
theorem SH(T:Txt K mg):T.oG.Ok P w base 4 (IP T):=by
 have S:=Pt
 refine T.oG.F.ok S (by rintro _ _ _ _ ⟨c,ra,rb,a,b,rfl,_⟩;rfl) fun cdv A outer s H vs Q E hr h=>?_
 ·obtain⟨c,ra,rb,a,b,rfl,hC,ha,hb,k⟩:=h
  refine⟨_,(aj (bt (dX (cq (T.kO.c (oS T) hr (ak (pv 0))))) (ao (az (aY (ak (aN rfl T.gC))))) bx)
   (ao (az (aC fH (aY (ak (aN rfl T.dw))) (T.tq.c (HQ T) hr (aR (aM (ay (pv 0)) aq) (aM (ay (pv 0)) aq))))))),?_⟩
  refine oT (rws:=[(ra,a),(rb,b)]) rfl hC (wY ha hb) (rd rfl) k fun H1 s1 C1 r k1=>?_
  have r1:=(r (ra,a) (by simp)).aa
  have r2:=(r (rb,b) (by simp)).aa
  rw[mX]at k1
  exact a8 (j8 (by exact qv) (fun H2 Q' s2 k2=>bN (bG (fU 0 rfl (C1.same s2) rfl rfl (bG (fU 1 rfl (C1.same s2) rfl rfl ⟨ra,rb,_,_,rfl,(((C1.same s2).li (j:=0) rfl).ls ha),(((C1.same s2).li (j:=1) rfl).ls hb),r1,r2,k2⟩))))) k1)
theorem SI(T:Txt K mg):T.oE.Ok P w base 4 (IQ T):=by
 have S:=Pq
 refine T.oE.F.ok S (by rintro _ _ _ _ ⟨c,ra,rb,a,b,rfl,_⟩;rfl) fun cdv A outer s H vs Q E hr h=>?_
 ·obtain⟨c,ra,rb,a,b,rfl,hC,ha,hb,k⟩:=h
  refine⟨_,(aj (bt (dX (cq (T.kO.c (oS T) hr (ak (pv 0))))) (ao (az (aY (ak (aN rfl T.gC))))) bx)
   (ao (az (aY (ak (gJ (cq (T.begins.c (Qo T) hr (aR (aM (ay (pv 0)) aq) (aM (ay (pv 0)) aq)))) aq aq)))))),?_⟩
  refine oT (rws:=[(ra,a),(rb,b)]) rfl hC (wY ha hb) (rd rfl) k fun H1 s1 C1 r k1=>?_
  have r1:=(r (ra,a) (by simp)).aa
  have r2:=(r (rb,b) (by simp)).aa
  refine a8 (bG (jy (bN (bG (fU 0 rfl C1 rfl rfl (bG (fU 1 rfl C1 rfl rfl ⟨ra,rb,_,_,rfl,((C1.li (j:=0) rfl).ls ha),((C1.li (j:=1) rfl).ls hb),r1,r2,fun H2 s2=>⟨_,rfl,aS (fun c=>?_) (fun c=>?_)⟩⟩)))))))
  ·have k1:bB H1 Q [V.int (if Wqaraq.begins (pm a) (pm b)=true then 1 else 0)]:=k1
   rw[af (by exact c)]at k1
   exact gT (σ:=[]) (k1.of s2)
  ·have k1:bB H1 Q [V.int (if Wqaraq.begins (pm a) (pm b)=true then 1 else 0)]:=k1
   have c:Wqaraq.begins (pm a) (pm b)=false:=c
   rw[ae (by rw[c];decide)]at k1
   exact gT (σ:=[]) (k1.of s2)
theorem SJ(T:Txt K mg):T.oz.Ok P w base 4 (IS T):=by
 have S:=Pl
 refine T.oz.F.ok S (by rintro _ _ _ _ ⟨c,ra,a,rfl,_⟩;rfl) fun cdv A outer s H vs Q E hr h=>?_
 ·obtain⟨c,ra,a,rfl,hC,ha,k⟩:=h
  refine⟨_,(aj (bt (dX (cq (T.kO.c (oS T) hr (ak (pv 0))))) (ao (az (aY (ak (aN rfl T.gC))))) bx)
   (ao (az (aC fH (aY (ak (aN rfl T.dw))) (T.kN.c (oQ T) hr (ak (aM (ay (pv 0)) aq))))))),?_⟩
  refine oT (rws:=[(ra,a)]) rfl hC (CF ha) (rd rfl) k fun H1 s1 C1 r k1=>?_
  have r1:=(r (ra,a) (by simp)).aa
  rw[mX]at k1
  exact a8 (j8 (by exact qv) (fun H2 Q' s2 k2=>bN (bG (fU 0 rfl (C1.same s2) rfl rfl ⟨ra,_,rfl,(((C1.same s2).li (j:=0) rfl).ls ha),r1,k2⟩))) k1)
theorem SK(T:Txt K mg):T.oJ.Ok P w base 4 (IU T):=by
 have S:=Px
 refine T.oJ.F.ok S (by rintro _ _ _ _ ⟨c,ra,a,rfl,_⟩;rfl) fun cdv A outer s H vs Q E hr h=>?_
 ·obtain⟨c,ra,a,rfl,hC,ha,k⟩:=h
  refine⟨_,(aj (bt (dX (cq (T.kO.c (oS T) hr (ak (pv 0))))) (ao (az (aY (ak (aN rfl T.gC))))) bx)
   (ao (az (aC fH (aY (ak (aN rfl T.dw))) (T.qj.c (Cg T) hr (ak (aM (ay (pv 0)) aq))))))),?_⟩
  refine oT (rws:=[(ra,a)]) rfl hC (CF ha) (rd rfl) k fun H1 s1 C1 r k1=>?_
  have r1:=(r (ra,a) (by simp)).aa
  exact a8 (j8 (by rw[cQ];exact cz (wz r1) (by decide)) (fun H2 Q' s2 k2=>bN (bG (fU 0 rfl (C1.same s2) rfl rfl ⟨ra,_,rfl,(((C1.same s2).li (j:=0) rfl).ls ha),r1,k2⟩))) k1)
theorem SM(T:Txt K mg):T.oC.Ok P w base 4 (IT T):=by
 have S:=Pp
 refine T.oC.F.ok S (by rintro _ _ _ _ ⟨c,ra,a,rfl,_⟩;rfl) fun cdv A outer s H vs Q E hr h=>?_
 ·obtain⟨c,ra,a,rfl,hC,ha,k⟩:=h
  refine⟨_,(aj (bt (dX (cq (T.kO.c (oS T) hr (ak (pv 0))))) (ao (az (aY (ak (aN rfl T.gC))))) bx)
   (aj (sv 1 S.nd (aM (ay (pv 0)) aq))
   (aj (sv 2 S.nd (T.s_.c (HH T) hr (ak (pv 1))))
   (aj (sv 3 S.nd (T.s_.c (HH T) hr (ak (T.kN.c (oQ T) hr (ak (pv 1))))))
   (ao (az (aY (jL (aN rfl T.dw) (jL (T.sZ.c (HG T) hr (ak (pv 1))) (jL (pv 2) (jL (pv 3) gK))))))))))),?_⟩
  refine oT (rws:=[(ra,a)]) rfl hC (CF ha) (rd rfl) k fun H1 s1 C1 r k1=>?_
  have r1:=(r (ra,a) (by simp)).aa
  have l1:=(C1.li (j:=0) rfl).ls ha
  refine aQ (bz (fU 0 rfl C1 rfl rfl (bY ?_)))
  dsimp only
  refine aQ (bz (bN ⟨_,rfl,ra,_,rfl,l1,r1,fun H2 s2=>bY ?_⟩))
  dsimp only
  refine aQ (bz (bN (bG (bN ⟨_,rfl,ra,_,rfl,s2 _ _ l1,r1,fun H3 b s3 fb l3=>⟨b,_,rfl,l3,r1.back,fun H4 s4=>bY ?_⟩⟩))))
  dsimp only
  have s14:=(s2.trans s3).trans s4
  refine a8 (bG (ub (bG (bN ⟨_,rfl,ra,_,rfl,s14 _ _ l1,r1,fun H5 s5=>?_⟩))))
  refine⟨_,rfl,_,rfl,ck (by show 4<=100000;decide),fun p fp=>?_⟩
  exact k1 _ p ((s14.trans s5).upd ((s14.trans s5).free fp)) ((s14.trans s5).free fp) au
theorem SN(T:Txt K mg):T.oA.Ok P w base 4 (IV T):=by
 have S:=Pn
 refine T.oA.F.ok S (by rintro _ _ _ _ ⟨c,ra,n,a,rfl,_⟩;rfl) fun cdv A outer s H vs Q E hr h=>?_
 ·obtain⟨c,ra,n,a,rfl,hC,ha,hn,k⟩:=h
  refine⟨_,(aj (bt (dX (cq (T.qo.c (CA T) hr (ak (pv 0))))) (ao (az (aY (ak (aN rfl T.gC))))) bx)
   (ao (az (aC fH (aY (ak (aN rfl T.dw))) (T.sY.c (HF T) hr (aR (aM (ay (pv 0)) aq) (aM (ay (pv 0)) aq))))))),?_⟩
  refine CB rfl hC ha hn k fun H1 m em s1 C1 hm r l1 e1 k1=>?_
  rw[mX,e1]at k1
  exact a8 (j8 (by exact qv) (fun H2 Q' s2 k2=>bN (bG (jA 0 rfl (C1.same s2) rfl rfl (bG (fU 0 rfl (C1.same s2) rfl rfl ⟨m,ra,_,rfl,hm.2,s2 _ _ l1,r.aa,k2⟩))))) k1)
theorem SO(T:Txt K mg):T.oB.Ok P w base 4 (IW T):=by
 have S:=Po
 refine T.oB.F.ok S (by rintro _ _ _ _ ⟨c,ra,n,a,rfl,_⟩;rfl) fun cdv A outer s H vs Q E hr h=>?_
 ·obtain⟨c,ra,n,a,rfl,hC,ha,hn,k⟩:=h
  refine⟨_,(aj (bt (dX (cq (T.qo.c (CA T) hr (ak (pv 0))))) (ao (az (aY (ak (aN rfl T.gC))))) bx)
   (ao (az (aC fH (aY (ak (aN rfl T.dw))) (T.qh.c (Ce T) hr (aR (aM (ay (pv 0)) aq) (aM (ay (pv 0)) aq))))))),?_⟩
  refine CB rfl hC ha hn k fun H1 m em s1 C1 hm r l1 e1 k1=>?_
  rw[mX,e1]at k1
  exact a8 (j8 (by exact qv) (fun H2 Q' s2 k2=>bN (bG (jA 0 rfl (C1.same s2) rfl rfl (bG (fU 0 rfl (C1.same s2) rfl rfl ⟨m,ra,_,rfl,hm.2,s2 _ _ l1,r,k2⟩))))) k1)
theorem SQ(T:Txt K mg):T.oH.Ok P w base 4 (IX T):=by
 have S:=Pu
 refine T.oH.F.ok S (by rintro _ _ _ _ ⟨c,ra,n,a,rfl,_⟩;rfl) fun cdv A outer s H vs Q E hr h=>?_
 ·obtain⟨c,ra,n,a,rfl,hC,ha,hn,k⟩:=h
  refine⟨_,(aj (bt (dX (cq (T.qo.c (CA T) hr (ak (pv 0))))) (ao (az (aY (ak (aN rfl T.gC))))) bx)
   (ao (az (aY (aR (aN rfl T.dw) (T.vG.c (Qv T) hr (aR (aM (ay (pv 0)) aq) (aM (ay (pv 0)) aq)))))))),?_⟩
  refine CB rfl hC ha hn k fun H1 m em s1 C1 hm r l1 e1 k1=>?_
  rw[e1]at k1
  refine a8 (bG (ub (bG (bN (bG (jA 0 rfl C1 rfl rfl (bG (fU 0 rfl C1 rfl rfl ⟨m,ra,_,rfl,hm.2,l1,r.aa,fun H2 s2=>?_⟩))))))))
  exact⟨ck (by show 2<=100000;decide),fun p fp=>k1 _ p (s2.upd (s2.free fp)) (s2.free fp) au⟩
def IY(T:Txt K mg):Sp:=fun vs H Q _=>∃(c:Addr) (i n:Int),vs=[.ref c]/\Cl T H c 10 [i,n] []/\0<=i/\0<=n/\bB H Q (gD (if Wqaraq.strands n.toNat=false then Wqaraq.just (-1) else Wqaraq.permAns (Wqaraq.numbered i.toNat n.toNat)))
theorem IZ{n:Int}(h:0<=n):(decide (2<=n)&&decide (n<=16))=Wqaraq.strands n.toNat:=by
 unfold Wqaraq.strands Wqaraq.WIDE
 rw[gu.mpr (show (2:Int)<=n↔2<=n.toNat by omega),gu.mpr (show n<=16↔n.toNat<=16 by omega)]
theorem SR(T:Txt K mg):T.oI.Ok P w base 2 (IY T):=by
 have S:=Pw
 refine T.oI.F.ok S (by rintro _ _ _ _ ⟨c,i,n,rfl,_⟩;rfl) fun cdv A outer s H vs Q E hr h=>?_
 ·obtain⟨c,i,n,rfl,hC,hi,hn,k⟩:=h
  refine⟨_,(aj (sv 1 S.nd (aM (ay (pv 0)) aq))
   (aj (bt (dX (cq (T.qg.c (Cd T) hr (ak (pv 1))))) (ao (az (aY (ak (aN rfl T.gC))))) bx)
   (ao (az (aC fH (aY (ak (aN rfl T.dw))) (T.numbered.c (QE T) hr (aR (aM (ay (pv 0)) aq) (pv 1)))))))),?_⟩
  refine aQ (bz (jA 1 rfl hC rfl rfl (bY ?_)))
  dsimp only
  refine aQ (dE (oO (jy (bN ⟨_,rfl,n,rfl,fun H1 s1=>⟨_,rfl,?_⟩⟩))))
  rw[IZ hn]
  refine aS (fun c=>?_) (fun c=>?_)
  ·rw[fu]at c
   rw[af c]at k
   exact a8 (gT (k.of s1))
  ·rw[i4]at c
   rw[ae (by rw[c];decide),mX]at k
   have ei:i=((i.toNat:Nat):Int):=by omega
   have en:n=((n.toNat:Nat):Int):=by omega
   have nn:=pW.mp c
   exact a8 (j8 (by exact qv) (fun H2 Q' s2 k2=>bN (bG (jA 0 rfl (hC.same (s1.trans s2)) rfl rfl ⟨_,rfl,i.toNat,n.toNat,by rw[<-ei,<-en];rfl,nn.1,nn.2,k2⟩))) (k.of s1))
def I_(T:Txt K mg):Sp:=fun vs H Q _=>∃(c rw:Addr) (w:List Int),vs=[.ref c]/\Cl T H c 12 [] [(rw,w)]/\bB H Q (gD (if 100<w.length then Wqaraq.just (-3) else Wqaraq.permAns (Wqaraq.follow w)))
theorem SS(T:Txt K mg):T.oK.Ok P w base 3 (I_ T):=by
 have S:=Py
 refine T.oK.F.ok S (by rintro _ _ _ _ ⟨c,rw,w,rfl,_⟩;rfl) fun cdv A outer s H vs Q E hr h=>?_
 ·obtain⟨c,rw,w,rfl,hC,k⟩:=h
  refine⟨_,(aj (sv 1 S.nd (aM (ay (pv 0)) aq))
   (aj (bt (a5 eM (c5 T.cW (pv 1)) (aN rfl T.BR)) (ao (az (aY (ak (aN rfl T.qd))))) bx)
   (ao (az (aC fH (aY (ak (aN rfl T.dw))) (T.followed.c (QA T) hr (ak (pv 1)))))))),?_⟩
  have l0:=hC.li (j:=0) rfl
  refine aQ (bz (fU 0 rfl hC rfl rfl (bY ?_)))
  dsimp only
  refine aQ (dE ⟨_,rfl,rw,_,rfl,.inl (ai.of l0),_,_,rfl,rfl,_,rfl,?_⟩)
  rw[cQ]
  refine aS (fun c=>?_) (fun c=>?_)
  ·have c:(100:Int)<(w.length:Int):=a0 c
   rw[af (by omega)]at k
   exact a8 (gT k)
  ·have c:¬(100:Int)<(w.length:Int):=a_ c
   rw[ae (by omega),mX]at k
   exact a8 (j8 (IK (gO _)) (fun H2 Q' s2 k2=>bN ⟨_,rfl,rw,w,rfl,s2 _ _ l0,k2⟩) k)
inductive iq(T:Txt K mg):Addr->Sp->Prop where
 |then_:iq T T.oy.f (IL T)
 |SU:iq T T.oz.f (IS T)
 |SV:iq T T.oA.f (IV T)
 |SW:iq T T.oB.f (IW T)
 |SX:iq T T.oC.f (IT T)
 |SY:iq T T.oE.f (IQ T)
 |S0:iq T T.oF.f (IM T)
 |S1:iq T T.oG.f (IP T)
 |S2:iq T T.oH.f (IX T)
 |S3:iq T T.oI.f (IY T)
 |S4:iq T T.oJ.f (IU T)
 |S5:iq T T.oK.f (I_ T)
theorem S6(T:Txt K mg){A:Around}(hr:cy 5 A):zU P w K mg base A (iq T):=by
 refine⟨fun f sp h=>?_⟩
 cases h
 ·exact⟨_,_,_,SF T,hr.mono (by decide),T.oy.b,T.oy.F.kp⟩
 ·exact⟨_,_,_,SJ T,hr.mono (by decide),T.oz.b,T.oz.F.kp⟩
 ·exact⟨_,_,_,SN T,hr.mono (by decide),T.oA.b,T.oA.F.kp⟩
 ·exact⟨_,_,_,SO T,hr.mono (by decide),T.oB.b,T.oB.F.kp⟩
 ·exact⟨_,_,_,SM T,hr.mono (by decide),T.oC.b,T.oC.F.kp⟩
 ·exact⟨_,_,_,SI T,hr.mono (by decide),T.oE.b,T.oE.F.kp⟩
 ·exact⟨_,_,_,SG T,hr.mono (by decide),T.oF.b,T.oF.F.kp⟩
 ·exact⟨_,_,_,SH T,hr.mono (by decide),T.oG.b,T.oG.F.kp⟩
 ·exact⟨_,_,_,SQ T,hr.mono (by decide),T.oH.b,T.oH.F.kp⟩
 ·exact⟨_,_,_,SR T,hr.mono (by decide),T.oI.b,T.oI.F.kp⟩
 ·exact⟨_,_,_,SK T,hr.mono (by decide),T.oJ.b,T.oJ.F.kp⟩
 ·exact⟨_,_,_,SS T,hr.mono (by decide),T.oK.b,T.oK.F.kp⟩
theorem ir{a:List Int}(h:a.all WqaraqNeutral.natural=true)(l:a.length<=2000):nats a:=
 ⟨fun x hx=>a0 (xg.mp (mj.mp h x hx)).1,l⟩
theorem uc{n:Int}(h:WqaraqNeutral.natural n=true):0<=n:=a0 (xg.mp h).1
theorem mi{rws:dF}{a:List Int}(h:rws.map (·.2)=[a]):∃ra,rws=[(ra,a)]:=by
 match rws,h with
 |[(ra,_)],rfl=>exact⟨ra,rfl⟩
theorem wZ{rws:dF}{a b:List Int}(h:rws.map (·.2)=[a,b]):∃ra rb,rws=[(ra,a),(rb,b)]:=by
 match rws,h with
 |[(ra,_),(rb,_)],rfl=>exact⟨ra,rb,rfl⟩
theorem j9{rws:dF}(h:rws.map (·.2)=[]):rws=[]:=List.map_eq_nil_iff.mp h
def S7(T:Txt K mg):Sp:=fun vs H Q _=>∃(c:Addr) (k:Int) (ns:List Int) (rws:dF) (b:Wqaraq.Book),vs=[.ref c]/\Cl T H c k ns rws/\k<13/\WqaraqNeutral.asked1 ((k::ns)::rws.map (·.2))=true/\(∀x,x∈rws->x.2.length<=2000)/\bB H Q (iv (WqaraqNeutral.step b ((k::ns)::rws.map (·.2))).2)
theorem S8{T:Txt K mg}{H:Hp}{Q:VK}{c:Addr}{k:Int}{ns:List Int}{rws:dF}{b:Wqaraq.Book}(hC:Cl T H c k ns rws)(hk:k<13)(ha:WqaraqNeutral.asked1 ((k::ns)::rws.map (·.2))=true)(hl:∀x,x∈rws->x.2.length<=2000)
  (q:bB H Q (iv (WqaraqNeutral.step b ((k::ns)::rws.map (·.2))).2)):∃f sp,T.gQ k=some (.ref f)/\iq T f sp/\sp [.ref c] H Q E0:=by
 unfold WqaraqNeutral.asked1 at ha
 split at ha
 ·rename_i he
  injection he with h1 h2;injection h1 with h1 h3;subst h1 h3
  rw[h2]at q
  obtain⟨ra,rb,rfl⟩:=wZ h2
  rw[br]at ha
  exact⟨_,_,T.G8,.then_,c,ra,rb,_,_,rfl,hC,ir ha.1 (hl (ra,_) (by simp)),ir ha.2 (hl (rb,_) (by simp)),q⟩
 ·rename_i he
  injection he with h1 h2;injection h1 with h1 h3;subst h1 h3
  rw[h2]at q
  obtain⟨ra,rfl⟩:=mi h2
  exact⟨_,_,T.G9,.SU,c,ra,_,rfl,hC,ir ha (hl (ra,_) (by simp)),q⟩
 ·rename_i he
  injection he with h1 h2;injection h1 with h1 h3;subst h1 h3
  rw[h2]at q
  obtain⟨ra,rfl⟩:=mi h2
  rw[br]at ha
  exact⟨_,_,T.G_,.SV,c,ra,_,_,rfl,hC,ir ha.2 (hl (ra,_) (by simp)),uc ha.1,q⟩
 ·rename_i he
  injection he with h1 h2;injection h1 with h1 h3;subst h1 h3
  rw[h2]at q
  obtain⟨ra,rfl⟩:=mi h2
  rw[br]at ha
  exact⟨_,_,T.Ha,.SW,c,ra,_,_,rfl,hC,ir ha.2 (hl (ra,_) (by simp)),uc ha.1,q⟩
 ·rename_i he
  injection he with h1 h2;injection h1 with h1 h3;subst h1 h3
  rw[h2]at q
  obtain⟨ra,rfl⟩:=mi h2
  exact⟨_,_,T.Hb,.SX,c,ra,_,rfl,hC,ir ha (hl (ra,_) (by simp)),q⟩
 ·rename_i he
  injection he with h1 h2;injection h1 with h1 h3;subst h1 h3
  rw[h2]at q
  obtain⟨ra,rb,rfl⟩:=wZ h2
  rw[br]at ha
  exact⟨_,_,T.Hc,.SY,c,ra,rb,_,_,rfl,hC,ir ha.1 (hl (ra,_) (by simp)),ir ha.2 (hl (rb,_) (by simp)),q⟩
 ·rename_i he
  injection he with h1 h2;injection h1 with h1 h3;subst h1 h3
  rw[h2]at q
  obtain⟨ra,rb,rfl⟩:=wZ h2
  rw[br]at ha
  exact⟨_,_,T.Hd,.S0,c,ra,rb,_,_,rfl,hC,ir ha.1 (hl (ra,_) (by simp)),ir ha.2 (hl (rb,_) (by simp)),q⟩
 ·rename_i he
  injection he with h1 h2;injection h1 with h1 h3;subst h1 h3
  rw[h2]at q
  obtain⟨ra,rb,rfl⟩:=wZ h2
  rw[br]at ha
  exact⟨_,_,T.He,.S1,c,ra,rb,_,_,rfl,hC,ir ha.1 (hl (ra,_) (by simp)),ir ha.2 (hl (rb,_) (by simp)),q⟩
 ·rename_i he
  injection he with h1 h2;injection h1 with h1 h3;subst h1 h3
  rw[h2]at q
  obtain⟨ra,rfl⟩:=mi h2
  rw[br]at ha
  exact⟨_,_,T.Hf,.S2,c,ra,_,_,rfl,hC,ir ha.2 (hl (ra,_) (by simp)),uc ha.1,q⟩
 ·rename_i he
  injection he with h1 h2;injection h1 with h1 h3;subst h1 h3
  rw[h2]at q
  have e:=j9 h2
  subst e
  rw[br,br]at ha
  exact⟨_,_,T.Hg,.S3,c,_,_,rfl,hC,a0 ha.1,uc ha.2.2,q⟩
 ·rename_i he
  injection he with h1 h2;injection h1 with h1 h3;subst h1 h3
  rw[h2]at q
  obtain⟨ra,rfl⟩:=mi h2
  exact⟨_,_,T.Hh,.S4,c,ra,_,rfl,hC,ir ha (hl (ra,_) (by simp)),q⟩
 ·rename_i he
  injection he with h1 h2;injection h1 with h1 h3;subst h1 h3
  rw[h2]at q
  obtain⟨ra,rfl⟩:=mi h2
  exact⟨_,_,T.Hi,.S5,c,ra,_,rfl,hC,q⟩
 all_goals first|(rename_i he;injection he with h1 h2;injection h1 with h1 h3;omega)|exact absurd ha (by decide)
theorem S9(T:Txt K mg):T.we.Ok P w base 6 (S7 T):=by
 have S:=Pz
 refine T.we.F.ok S (by rintro _ _ _ _ ⟨c,k,ns,rws,b,rfl,_⟩;rfl) fun cdv A outer s H vs Q E hr h=>?_
 ·obtain⟨c,k,ns,rws,b,rfl,hC,hk,ha,hl,q⟩:=h
  obtain⟨f,sp,e1,e2,e3⟩:=S8 hC hk ha hl q
  have FT:=S6 (P:=P) (w:=w) (base:=base) T hr
  refine⟨_,(aj (sv 1 S.nd (zT rfl T.G3 (ay (pv 0))))
   (ao (az (GJ (i:=1) FT nz rfl (Or.inl rfl) (ak (pv 0)))))),?_⟩
  obtain⟨dx,a,b,h⟩:=hC
  refine aQ (bz ⟨_,rfl,c,_,dx,_,_,rfl,h.ins,T.kL,T.sV,Cz _ _ _,k,_,rfl,e1,bY ?_⟩)
  exact⟨f,sp,rfl,e2,_,rfl,e3⟩
def qw(L:Addr):List (Str×V):=b0 "braids" (.ref L) []
theorem Ja(L:Addr):(qw L).lookup ("braids":Str)=some (.ref L):=by unfold qw;rw[cO,af rfl]
theorem ud{L:Addr}{x:Str}(h:¬x=("braids":Str)):(qw L).lookup x=none:=by
 unfold qw;rw[cO,ae h];rfl
structure Good(x:Wqaraq.Braid):Prop where
 two:2<=x.n
 most:x.n<=16
 cv:bh x.n x.form
 small:Wqaraq.large x.form=false
theorem Good.lt{x:Wqaraq.Braid}(h:Good x):x.form.factors.length<=60/\x.form.twists.natAbs<=100:=by
 have:=h.small
 unfold Wqaraq.large Wqaraq.FACTORS Wqaraq.TWISTS at this
 rw[Bool.or_eq_false_iff]at this
 exact⟨Nat.not_lt.mp (a_ this.1),Nat.not_lt.mp (a_ this.2)⟩
def Slot(T:Txt K mg)(H:Hp)(v:V):Option Wqaraq.Braid->Prop
 |none=>v=.aW
 |some x=>∃r,v=.ref r/\Bd T H r x.n x.form/\Good x
theorem Slot.same{T:Txt K mg}{H H':Hp}{v:V}{x:Option Wqaraq.Braid}(h:Slot T H v x)(s:ag H H'):Slot T H' v x:=by
 cases x with
 |none=>exact h
 |some x=>obtain⟨r,e,b,g⟩:=h;exact⟨r,e,b.same s,g⟩
structure bf(T:Txt K mg)(H:Hp)(p:Addr)(b:Wqaraq.Book)(dx L:Addr)(ws:List V):Prop where
 ins:H p=some (.ins T.e7 dx (qw L))
 lst:H L=some (.lst ws)
 len:ws.length=16
 ue:b.length=16
 slot:∀i v,ws[i]?=some v->Slot T H v (b.at_ i)
theorem bf.same{T:Txt K mg}{H H':Hp}{p dx L:Addr}{b:Wqaraq.Book}{ws:List V}(h:bf T H p b dx L ws)(s:ag H H'):bf T H' p b dx L ws:=⟨s _ _ h.ins,s _ _ h.lst,h.len,h.ue,fun i v e=>(h.slot i v e).same s⟩
theorem bf.get{T:Txt K mg}{H:Hp}{p dx L:Addr}{b:Wqaraq.Book}{ws:List V}(h:bf T H p b dx L ws){i:Nat}(hi:i<16):∃v,ws[i]?=some v/\Slot T H v (b.at_ i):=
 ⟨_,bu (by rw[h.len];exact hi),h.slot i _ (bu (by rw[h.len];exact hi))⟩
theorem bf.Jb{T:Txt K mg}{H:Hp}{p dx L:Addr}{b:Wqaraq.Book}{ws:List V}(h:bf T H p b dx L ws){i:Nat}(hi:16<=i):b.at_ i=none:=by
 unfold Wqaraq.Book.at_
 rw[qO (by rw[h.ue];exact hi)];rfl
theorem bf.bd{T:Txt K mg}{H H':Hp}{p dx L r:Addr}{b:Wqaraq.Book}{ws:List V}{n:Nat}{F:Form}(h:bf T H p b dx L ws)(k:Bd T H r n F)(s:bq L H H'):Bd T H' r n F:=by
 obtain⟨d2,L2,rs,i,f⟩:=k
 obtain⟨v0,e0,s0⟩:=h.get (i:=0) (by decide)
 have noL:∀(qs:List V),H L=some (.lst qs)->qs=ws:=fun qs e=>by
  rw[h.lst]at e;injection e with e;injection e with e;exact e.symm
 have noi:∀z,v0≠.int z:=fun z e=>by
  subst e
  cases q:b.at_ 0 with
  |none=>rw[q]at s0;cases (show V.int z=V.aW from s0)
  |some x=>rw[q]at s0;obtain⟨r,e,_⟩:=s0;cases e
 refine⟨d2,L2,rs,s _ _ i fun e=>?_,s _ _ f.lst fun e=>?_,f.aI.imp fun q g hq l=>s _ _ l fun e=>?_⟩
 ·rw[e,h.lst]at i;cases i
 ·have hl:=f.lst
  rw[e]at hl
  have e1:=noL _ hl
  have l1:rs.length=16:=by rw[<-h.len,<-e1,aE]
  have hf:F.factors[0]?=some (F.factors[0]'(by rw[<-f.aI.len,l1];decide)):=bu _
  obtain⟨r0,hr0,lr0⟩:=f.aI.get hf
  have:ws[0]?=some (.ref r0):=by rw[<-e1,bX,hr0];rfl
  have s0:=h.slot 0 _ this
  cases q:b.at_ 0 with
  |none=>rw[q]at s0;cases (show V.ref r0=V.aW from s0)
  |some x=>
   rw[q]at s0
   obtain⟨r,e,⟨d3,L3,rs3,i3,_⟩,_⟩:=s0
   injection e with e
   subst e
   have lr0:H r0=_:=lr0
   rw[i3]at lr0;cases lr0
 ·rw[e]at l
  have e1:=noL _ l
  have:0<g.length:=by
   have:=h.len
   rw[<-e1,cG]at this;omega
  rw[<-e1,kQ this]at e0
  exact noi _ (bo e0).symm
theorem jX{b:Wqaraq.Book}{o i:Nat}{x:Option Wqaraq.Braid}(ho:o<b.length):Wqaraq.Book.at_ (b.set o x) i=if o=i then x else b.at_ i:=by
 unfold Wqaraq.Book.at_
 rw[qW]
 by_cases e:o=i
 ·rw[af e,af e,af ho];rfl
 ·rw[ae e,ae e]
theorem bf.put{T:Txt K mg}{H:Hp}{p dx L r:Addr}{b:Wqaraq.Book}{ws:List V}{x:Wqaraq.Braid}{o:Nat}(h:bf T H p b dx L ws)(k:Bd T H r x.n x.form)(g:Good x)(ho:o<16):
  bf T (upd H L (.lst (ws.set o (.ref r)))) p (b.set o (some x)) dx L (ws.set o (.ref r)):=by
 have but:bq L H (upd H L (.lst (ws.set o (.ref r)))):=fun c o e z=>(ax z).trans e
 refine⟨but _ _ h.ins fun e=>?_,au,by rw[gp];exact h.len,by rw[gp];exact h.ue,fun i v e=>?_⟩
 ·have:=h.ins;rw[e,h.lst]at this;cases this
 ·rw[jX (by rw[h.ue];exact ho)]
  rw[qW]at e
  by_cases c:o=i
  ·rw[af c,af (by rw[h.len];exact ho)]at e
   rw[af c]
   exact⟨r,(bo e).symm,h.bd k but,g⟩
  ·rw[ae c]at e
   rw[ae c]
   have s:=h.slot i v e
   cases q:b.at_ i with
   |none=>rw[q]at s;exact s
   |some y=>rw[q]at s;obtain⟨r2,e2,b2,g2⟩:=s;exact⟨r2,e2,h.bd b2 but,g2⟩
def S_(T:Txt K mg):Sp:=fun vs H Q _=>∃(p dx:Addr),vs=[.ref p]/\H p=some (.ins T.e7 dx [])/\∀(H':Hp) (L:Addr),bq p H H'->H L=none->H' p=some (.ins T.e7 dx (qw L))->H' L=some (.lst (List.replicate 16 .aW))->Q .aW H'
theorem Ta(T:Txt K mg):T.tJ.Ok mg P w base 1 (S_ T):=by
 have S:=PJ
 refine T.tJ.F.ok S (by rintro _ _ _ _ ⟨p,dx,rfl,_⟩;rfl) fun cdv A outer s H vs Q E hr h=>?_
 ·obtain⟨p,dx,rfl,hp,q⟩:=h
  refine⟨_,(ao (gV (pv 0) (aC rF (aY (ak i7)) (aN rfl T.BQ)) rfl)),?_⟩
  refine⟨ck (by show 1<=100000;decide),fun z0 g0=>⟨z0,_,_,rfl,rfl,au,by decide,by decide,ck (by show 16<=100000;decide),fun L fL=>?_⟩⟩
  have s0:=ag.bA (o:=.lst [V.aW]) g0
  have fL0:=s0.free fL
  have hp2:upd (upd H z0 (.lst [V.aW])) L (.lst ((List.replicate (16:Int).toNat [V.aW]).flatten)) p=some (.ins T.e7 dx []):=(s0.upd fL0) _ _ hp
  refine⟨_,rfl,p,_,dx,_,rfl,hp2,T.dh,T.vE,(by show 0<1000;decide),?_⟩
  have npL:L≠p:=fun e=>by rw[e,hp]at fL0;cases fL0
  exact q _ L (fun b o e z=>(ax z).trans ((s0.upd fL0) _ _ e)) fL0 au ((ax npL).trans au)
def Tb(T:Txt K mg):Sp:=fun vs H Q _=>∃(p:Addr) (i:Nat),vs=[.ref p,.int i]/\Val H Q (.bl (decide (i<16)))
theorem Jc(T:Txt K mg):T.tK.Ok mg P w base 1 (Tb T):=by
 have S:=PL
 refine T.tK.F.ok S (by rintro _ _ _ _ ⟨p,i,rfl,_⟩;rfl) fun cdv A outer s H vs Q E hr h=>?_
 ·obtain⟨p,i,rfl,q⟩:=h
  refine⟨_,(ao (az (jz gw (pv 1) (aN rfl T.BQ)))),?_⟩
  refine⟨_,rfl,_,_,rfl,rfl,?_⟩
  exact h_ (q H (ag.refl _)) (gu.mpr (by omega))
def uf(T:Txt K mg):Sp:=fun vs H Q _=>∃(p dx L:Addr) (b:Wqaraq.Book) (ws:List V) (i:Nat),vs=[.ref p,.int i]/\bf T H p b dx L ws/\∀(H':Hp) (v:V),ag H H'->Slot T H' v (b.at_ i)->Q v H'
theorem iw(T:Txt K mg):T.gj.Ok mg P w base 2 (uf T):=by
 have S:=PM
 refine T.gj.F.ok S (by rintro _ _ _ _ ⟨p,dx,L,b,ws,i,rfl,_⟩;rfl) fun cdv A outer s H vs Q E hr h=>?_
 ·obtain⟨p,dx,L,b,ws,i,rfl,h,q⟩:=h
  refine⟨_,(ao (az (gJ (cq (T.tK.c (Jc T) hr T.dh (pv 0) (ak (pv 1)))) (aM (ay (pv 0)) (pv 1)) i7))),?_⟩
  refine a8 (jy ⟨_,rfl,p,dx,_,rfl,h.ins,ud (by decide),_,rfl,p,i,rfl,fun H1 s1=>⟨_,rfl,aS (fun c=>?_) (fun c=>?_)⟩⟩)
  ·obtain⟨v,e,s⟩:=h.get (a0 c)
   exact⟨_,rfl,p,_,dx,_,_,rfl,s1 _ _ h.ins,T.dh,T.vE,Ja _,_,rfl,L,_,_,v,rfl,rfl,ai.of (s1 _ _ h.lst),at_of rfl e,q H1 v s1 (s.same s1)⟩
  ·refine q H1 _ s1 ?_
   rw[h.Jb (Nat.not_lt.mp (a_ c))]
   rfl
def w4(T:Txt K mg):Sp:=fun vs H Q _=>∃(p dx L r:Addr) (b:Wqaraq.Book) (ws:List V) (o n:Nat) (F:Form),vs=[.ref p,.int o,.ref r]/\bf T H p b dx L ws/\Bd T H r n F/\2<=n/\n<=16/\bh n F/\
 ∀(H':Hp) (ws':List V),bq L H H'->bf T H' p (Wqaraq.lands b o ⟨n,F⟩).1 dx L ws'->Q (.int (Wqaraq.lands b o ⟨n,F⟩).2.code) H'
theorem oU(T:Txt K mg):T.kP.Ok mg P w base 2 (w4 T):=by
 have S:=PN
 refine T.kP.F.ok S (by rintro _ _ _ _ ⟨p,dx,L,r,b,ws,o,n,F,rfl,_⟩;rfl) fun cdv A outer s H vs Q E hr h=>?_
 ·obtain⟨p,dx,L,r,b,ws,o,n,F,rfl,h,hb,n2,hn,hF,q⟩:=h
  refine⟨_,(aj (bt (dX (cq (T.tK.c (Jc T) hr T.dh (pv 0) (ak (pv 1))))) (ao (az (aN rfl T.gC))) bx)
   (aj (bt (cq (T.vH.c (Q4 T) hr (ak (pv 2)))) (ao (az (aN rfl T.qd))) bx)
   (aj (fC (pv 2) (fB (ay (pv 0)) (pv 1) set_list))
   (ao (az (aN rfl T.dw)))))),?_⟩
  unfold Wqaraq.lands at q
  refine aQ (dE (oO (jy ⟨_,rfl,p,dx,_,rfl,h.ins,ud (by decide),_,rfl,p,o,rfl,fun H1 s1=>⟨_,rfl,aS (fun c=>?_) (fun c=>?_)⟩⟩)))
  ·rw[fu]at c
   have c:=a_ c
   rw[af (show Wqaraq.PLACES<=o from (by omega:16<=o))]at q
   exact a8 (q H1 ws (ag.but s1) (h.same s1))
  ·rw[i4]at c
   have c:=a0 c
   rw[ae (show ¬Wqaraq.PLACES<=o from (by omega:¬16<=o))]at q
   dsimp only [fz]
   refine aQ (dE (jy (bN ⟨_,rfl,r,n,F,rfl,hb.same s1,fun H2 s2=>⟨_,rfl,aS (fun d=>?_) (fun d=>?_)⟩⟩)))
   ·rw[af (show Wqaraq.large (Wqaraq.Braid.mk n F).form=true from d)]at q
    exact a8 (q H2 ws (ag.but (s1.trans s2)) (h.same (s1.trans s2)))
   ·rw[ae (show ¬(Wqaraq.large (Wqaraq.Braid.mk n F).form=true) from by show ¬(Wqaraq.large F=true);rw[d];decide)]at q
    have s:=s1.trans s2
    have h2:=h.same s
    dsimp only [fz]
    refine⟨_,rfl,_,rfl,p,_,dx,_,_,rfl,h2.ins,T.dh,T.vE,Ja _,_,rfl,L,_,_,o,rfl,rfl,h2.lst,d5 rfl (by rw[h.len];exact c),?_⟩
    exact q _ _ (fun a u e z=>(ax z).trans (s _ _ e)) (h2.put (x:=⟨n,F⟩) (hb.same s) ⟨n2,hn,hF,d⟩ c)
def Tc(T:Txt K mg):Sp:=fun vs H Q _=>∃(n:Nat) (p:Addr) (w:List Int),vs=[.int n,.ref p]/\Li H p w/\w.length<=100/\Val H Q (.bl (Wqaraq.fits n w))
theorem Td(T:Txt K mg):T.wc.Ok P w base 1 (Tc T):=by
 have S:=O0
 refine T.wc.F.ok S (by rintro _ _ _ _ ⟨n,p,w,rfl,_⟩;rfl) fun cdv A outer s H vs Q E hr h=>?_
 ·obtain⟨n,p,w,rfl,hp,hl,q⟩:=h
  refine⟨_,(ao (az (fX (DT rfl) rfl T.BO (by decide+kernel) (ak (iM (own:=[("crossing",2)]) rfl S.nd (fF (pv 1)) (fI (by rfl)) (fun _ _ _ _ _=>(eJ (i:=2) S.nd rfl (Or.inl rfl))) (fun _ _ _ _ _=>iL) (fun _ _ _ _ _=>(Dl rD gw aq (fX lu rfl T.kJ (by decide+kernel) (ak (pv 2))) (pv 0)))))))),?_⟩
  refine a8 (tR (gS ⟨_,rfl,p,rfl,⟨_,ai.of hp⟩,qp (l:=w) (em:=fun x=>V.int x) (fun _=>true) (fun x=>V.bl (Wqaraq.crossing n x)) (ai.of hp) (by omega) ?_ ?_⟩))
  ·intro x H' hx s R Nx k1 k2
   refine⟨rfl,yes ?_⟩
   have k1:=k1 rfl H' (ag.refl _)
   refine⟨_,rfl,_,rfl,_,_,rfl,rfl,_,rfl,?_⟩
   rw[mV]
   refine aS (fun c=>?_) (fun c=>?_)
   ·have c:(1:Int)<=(x.natAbs:Int):=a0 c
    refine⟨_,rfl,_,_,rfl,rfl,?_⟩
    show R (V.bl (decide ((x.natAbs:Int)<(n:Int)))) H'
    rw[show Wqaraq.crossing n x=decide ((x.natAbs:Int)<(n:Int)) from ?_]at k1
    ·exact k1
    ·unfold Wqaraq.crossing
     rw[c7 (show x≠0 by omega),k5]
     exact gu.mpr (by omega)
   ·have c:¬(1:Int)<=(x.natAbs:Int):=a_ c
    rw[show Wqaraq.crossing n x=false from ?_]at k1
    ·exact k1
    ·unfold Wqaraq.crossing
     rw[cu (show ¬x≠0 by omega),Bool.false_and]
  ·intro H' D s fD hD
   rw[tT]at hD
   refine⟨D,w.map (Wqaraq.crossing n),rfl,ai.of (by rw[hD,dq];rfl),?_⟩
   rw[List.all_map]
   exact q H' s
def w6(n:Nat)(w:List Int)(lng:Nat):Int:=if Wqaraq.strands n=false then -1 else if lng<w.length then -3 else if Wqaraq.fits n w=false then -1 else 0
def Te(T:Txt K mg):Sp:=fun vs H Q _=>∃(n lng:Nat) (p:Addr) (w:List Int),vs=[.int n,.ref p,.int lng]/\Li H p w/\lng<=100/\Val H Q (.int (w6 n w lng))
theorem Jd(T:Txt K mg):T.tI.Ok P w base 2 (Te T):=by
 have S:=O1
 refine T.tI.F.ok S (by rintro _ _ _ _ ⟨n,lng,p,w,rfl,_⟩;rfl) fun cdv A outer s H vs Q E hr h=>?_
 ·obtain⟨n,lng,p,w,rfl,hp,hl,q⟩:=h
  refine⟨_,(aj (bt (dX (cq (T.qg.c (Cd T) hr (ak (pv 0))))) (ao (az (aN rfl T.gC))) bx)
   (aj (bt (a5 eM (c5 T.cW (pv 1)) (pv 2)) (ao (az (aN rfl T.qd))) bx)
   (ao (az (gJ (cq (T.wc.c (Td T) hr (aR (pv 0) (pv 1)))) (aN rfl T.dw) (aN rfl T.gC)))))),?_⟩
  unfold w6 at q
  refine aQ (dE (oO (jy (bN ⟨_,rfl,n,rfl,fun H1 s1=>⟨_,rfl,?_⟩⟩))))
  rw[IZ (Int.natCast_nonneg n),Int.toNat_natCast]
  refine aS (fun c=>?_) (fun c=>?_)
  ·rw[fu]at c
   rw[af c]at q
   exact a8 (q H1 s1)
  ·rw[i4]at c
   rw[ae (by rw[c];decide)]at q
   dsimp only [fz]
   refine aQ (dE ⟨_,rfl,p,_,rfl,.inl (ai.of (s1 _ _ hp)),_,rfl,_,_,rfl,rfl,_,rfl,?_⟩)
   rw[cQ]
   refine aS (fun d=>?_) (fun d=>?_)
   ·have d:(lng:Int)<(w.length:Int):=a0 d
    rw[af (by omega)]at q
    exact a8 (q H1 s1)
   ·have d:¬(lng:Int)<(w.length:Int):=a_ d
    rw[ae (by omega)]at q
    dsimp only [fz]
    refine a8 (jy (bN ⟨_,rfl,_,rfl,n,p,w,rfl,s1 _ _ hp,by omega,fun H2 s2=>⟨_,rfl,aS (fun e=>?_) (fun e=>?_)⟩⟩))
    ·rw[ae (by rw[e];decide)]at q
     exact q H2 (s1.trans s2)
    ·rw[af e]at q
     exact q H2 (s1.trans s2)
def qy:Option Wqaraq.Braid->Option Wqaraq.Braid->Int
 |none,_=> -4
 |some _,none=> -4
 |some x,some y=>if x.n=y.n then 0 else -2
def Jf(T:Txt K mg):Sp:=fun vs H Q _=>∃(u v:V) (x y:Option Wqaraq.Braid),vs=[u,v]/\Slot T H u x/\Slot T H v y/\Val H Q (.int (qy x y))
theorem CG(T:Txt K mg):T.qm.Ok P w base 1 (Jf T):=by
 have S:=O2
 refine T.qm.F.ok S (by rintro _ _ _ _ ⟨u,v,x,y,rfl,_⟩;rfl) fun cdv A outer s H vs Q E hr h=>?_
 ·obtain⟨u,v,x,y,rfl,hu,hv,q⟩:=h
  refine⟨_,(aj (bt (PW.pt (xw (a5 km (pv 0) i7) (xu (a5 km (pv 1) i7)))) (ao (az (aN rfl T.lW))) bx)
   (ao (az (gJ (a5 nj (ay (pv 0)) (ay (pv 1))) (aN rfl T.dw) (aN rfl T.G1))))),?_⟩
  have q:=q H (ag.refl _)
  refine aQ (dE ⟨_,rfl,rfl,_,rfl,?_⟩)
  cases x with
  |none=>
   have hu:u=V.aW:=hu
   subst hu
   exact fY (fY (a8 q))
  |some x=>
   obtain⟨ra,rfl,ba,ga⟩:=hu
   refine dH ⟨_,rfl,rfl,_,rfl,?_⟩
   cases y with
   |none=>
    have hv:v=V.aW:=hv
    subst hv
    exact fY (a8 q)
   |some y=>
    obtain⟨rb,rfl,bb,gb⟩:=hv
    refine dH ?_
    dsimp only [fz]
    obtain⟨d1,L1,r1,i1,_⟩:=ba
    obtain⟨d2,L2,r2,i2,_⟩:=bb
    refine a8 ⟨_,rfl,ra,_,d1,_,_,rfl,i1,T.aZ,T.dy,dM _ _ _,_,rfl,rb,_,d2,_,_,rfl,i2,T.aZ,T.dy,dM _ _ _,rfl,_,rfl,?_⟩
    have q:Q (.int (if x.n=y.n then 0 else -2)) H:=q
    refine aS (fun c=>?_) (fun c=>?_)
    ·have c:=a0 c
     injection c with c
     rw[af (by omega)]at q
     exact q
    ·have c:=a_ c
     rw[ae (fun z=>c (by rw[z]))]at q
     exact q
def cR(T:Txt K mg)(H:Hp)(L bk dx:Addr)(Q:VK)(r:Wqaraq.Book×Wqaraq.Ans):Prop:=∀(H':Hp) (a:Addr) (ws':List V),bq L H H'->bf T H' bk r.1 dx L ws'->H a=none->H' a=some (.lst (gD r.2))->Q (.ref a) H'
theorem cR.of{T:Txt K mg}{H H1:Hp}{L bk dx:Addr}{Q:VK}{r:Wqaraq.Book×Wqaraq.Ans}(k:cR T H L bk dx Q r)(s:ag H H1):cR T H1 L bk dx Q r:=fun H' a ws' b h fa e=>k H' a ws' (fun c o e n=>b _ _ (s _ _ e) n) h (s.free fa) e
theorem cR.eT{T:Txt K mg}{H:Hp}{L bk dx:Addr}{Q:VK}{b:Wqaraq.Book}{a:Wqaraq.Ans}{ws:List V}(k:cR T H L bk dx Q (b,a))(h:bf T H bk b dx L ws):bB H Q (gD a):=fun H' r s fr e=>k H' r ws (ag.but s) (h.same s) fr e
theorem qz{T:Txt K mg}{H:Hp}{bk c dx L:Addr}{b:Wqaraq.Book}{ws:List V}{k:Int}{ns:List Int}{rws:dF}{σ:L2.St}{Q:VK}{i:Nat}(j:Nat){z:Int}{E:XK}(e:z=(j:Int))(hB:bf T H bk b dx L ws)(hC:Cl T H c k ns rws)(hi:ns[j]?=some (i:Int))(h0:σ[0]?=some (some (.ref bk)))(h1:σ[1]?=some (some (.ref c)))
  (q:∀(H':Hp) (v:V),ag H H'->Slot T H' v (b.at_ i)->Q v H'):
  jN T.e7 "braid_at" (uf T) [] E (cK 0) (bQ (eK (jf K) (jd K (cK 1) "numbers") (tC (.int z))) b_) σ H Q:=
 ⟨_,h0,bk,dx,_,rfl,hB.ins,ud (by decide),bG (jA j e hC hi h1 ⟨bk,dx,L,b,ws,i,rfl,hB,q⟩)⟩
theorem Jg{T:Txt K mg}{H:Hp}{bk c dx L:Addr}{b:Wqaraq.Book}{ws:List V}{k:Int}{ns:List Int}{rws:dF}{σ:L2.St}{Q:VK}{o n:Nat}{F:Form}{te:TE}{E:XK}{z:Int}(e:z=((0:Nat):Int))(hB:bf T H bk b dx L ws)(hC:Cl T H c k ns rws)(hi:ns[0]?=some (o:Int))(h0:σ[0]?=some (some (.ref bk)))(h1:σ[1]?=some (some (.ref c)))
  (n2:2<=n)(hn:n<=16)(hF:bh n F)(ht:∀Q':VK,(∀(H':Hp) (r:Addr),ag H H'->Bd T H' r n F->Q' (.ref r) H')->te σ H Q')(q:∀(H':Hp) (ws':List V),bq L H H'->bf T H' bk (Wqaraq.lands b o ⟨n,F⟩).1 dx L ws'->Q (.int (Wqaraq.lands b o ⟨n,F⟩).2.code) H'):
  jN T.e7 "put" (w4 T) [] E (cK 0) (bQ (eK (jf K) (jd K (cK 1) "numbers") (tC (.int z))) (bQ te b_)) σ H Q:=by
 refine⟨_,h0,bk,dx,_,rfl,hB.ins,ud (by decide),bG (jA 0 e hC hi h1 (bG (ht _ fun H1 r s1 b1=>?_)))⟩
 exact⟨bk,dx,L,r,b,ws,o,n,F,rfl,hB.same s1,b1,n2,hn,hF,fun H2 ws' b2 h2=>q H2 ws' (fun a u e x=>b2 _ _ (s1 _ _ e) x) h2⟩
theorem Tf(b:Wqaraq.Book)(o:Nat)(x:Wqaraq.Braid):gD (Wqaraq.lands b o x).2=[V.int (Wqaraq.lands b o x).2.code]:=by
 unfold Wqaraq.lands
 split
 ·rfl
 ·split<;>rfl
theorem qC{T:Txt K mg}{H:Hp}{bk c dx L:Addr}{b:Wqaraq.Book}{ws:List V}{k:Int}{ns:List Int}{rws:dF}{σ:L2.St}{Q:VK}{o n:Nat}{F:Form}{te:TE}{E:XK}{z:Int}(e:z=((0:Nat):Int))(hB:bf T H bk b dx L ws)(hC:Cl T H c k ns rws)(hi:ns[0]?=some (o:Int))(h0:σ[0]?=some (some (.ref bk)))(h1:σ[1]?=some (some (.ref c)))
  (n2:2<=n)(hn:n<=16)(hF:bh n F)(ht:∀Q':VK,(∀(H':Hp) (r:Addr),ag H H'->Bd T H' r n F->Q' (.ref r) H')->te σ H Q')(q:cR T H L bk dx Q (Wqaraq.lands b o ⟨n,F⟩)):
  je (bQ (jN T.e7 "put" (w4 T) [] E (cK 0) (bQ (eK (jf K) (jd K (cK 1) "numbers") (tC (.int z))) (bQ te b_))) b_) σ H Q:=by
 refine bG (Jg e hB hC hi h0 h1 n2 hn hF ht fun H1 ws1 b1 h1=>⟨ck (by show 1<=100000;decide),fun p fp=>?_⟩)
 have np:H p=none:=by
  cases q':H p with
  |none=>rfl
  |some u=>
   exfalso
   by_cases e:p=L
   ·rw[e,h1.lst]at fp;cases fp
   ·rw[b1 _ _ q' e]at fp;cases fp
 exact q _ p ws1 (fun a u e x=>(ax (a7 (b1 _ _ e x) fp)).trans (b1 _ _ e x)) (h1.same (ag.bA fp)) np (by rw[au,Tf])
theorem CH{T:Txt K mg}{H:Hp}{bk c dx L:Addr}{b:Wqaraq.Book}{ws:List V}{k:Int}{ns:List Int}{rws:dF}{i j:Nat}{z1 z2:Int}{u:TS}{D:Ends}{E1 E2 E3:XK}{f:Wqaraq.Braid->Wqaraq.Braid->Wqaraq.Book×Wqaraq.Ans}(l1 l2:Nat)(e1:z1=(l1:Int))(e2:z2=(l2:Int))
  (hB:bf T H bk b dx L ws)(hC:Cl T H c k ns rws)(h1:ns[l1]?=some (i:Int))(h2:ns[l2]?=some (j:Int))(q:cR T H L bk dx D.rt (Wqaraq.sameStrands b i j f))
  (hf:∀(H':Hp) (ra rb:Addr) (n:Nat) (F G:Form),ag H H'->Bd T H' ra n F->Bd T H' rb n G->Good ⟨n,F⟩->Good ⟨n,G⟩->bf T H' bk b dx L ws->Cl T H' c k ns rws->cR T H' L bk dx D.rt (f ⟨n,F⟩ ⟨n,G⟩)->u D [some (.ref bk),some (.ref c),some (.ref ra),some (.ref rb),some (.int 0)] H'):
  kj (lq (jN T.e7 "braid_at" (uf T) [] E1 (cK 0) (bQ (eK (jf K) (jd K (cK 1) "numbers") (tC (.int z1))) b_)) (dt 2))
   (kj (lq (jN T.e7 "braid_at" (uf T) [] E2 (cK 0) (bQ (eK (jf K) (jd K (cK 1) "numbers") (tC (.int z2))) b_)) (dt 3))
   (kj (lq (pG (Jf T) [] E3 (bQ (cK 2) (bQ (cK 3) b_))) (dt 4))
   (kj (pC (pF (eK Dc (cK 4) (tC (.int 0)))) (jH (je (bQ (cK 4) b_))) fz) u))) D [some (.ref bk),some (.ref c),none,none,none] H:=by
 refine aQ (bz (qz l1 e1 hB hC h1 rfl rfl fun H1 va s1 ha=>bY ?_))
 dsimp only
 refine aQ (bz (qz l2 e2 (hB.same s1) (hC.same s1) h2 rfl rfl fun H2 vb s2 hb=>bY ?_))
 dsimp only
 have ha:=ha.same s2
 refine aQ (bz (bN ⟨_,rfl,_,rfl,va,vb,_,_,rfl,ha,hb,fun H3 s3=>bY ?_⟩))
 dsimp only
 have s:=(s1.trans s2).trans s3
 have ha:=ha.same s3
 have hb:=hb.same s3
 have hB:=hB.same s
 have hC:=hC.same s
 have q:=q.of s
 refine aQ (dE (ig ⟨_,rfl,rfl,_,rfl,?_⟩))
 unfold Wqaraq.sameStrands Wqaraq.ofTwo Wqaraq.ofBraid at q
 generalize b.at_ i=x at *
 generalize b.at_ j=y at *
 have no:∀z:Int,z≠0->bB H3 D.rt [.int z]->qy x y=z->if (!decide (V.int (qy x y)=V.int 0))=true then jH (je (bQ (cK 4) b_)) {D with nx:=u D} [some (.ref bk),some (.ref c),some va,some vb,some (.int (qy x y))] H3 else fz {D with nx:=u D} [some (.ref bk),some (.ref c),some va,some vb,some (.int (qy x y))] H3:=by
  intro z hz k e
  rw[e]
  have hd:(!decide (V.int z=V.int 0))=true:=by rw[cu (fun h=>hz (by injection h))];rfl
  rw[hd]
  exact fY (a8 (bG (mh rfl (show _/\_ from ⟨ck (by show 1<=100000;decide),fun p fp=>k _ p (ag.bA fp) fp au⟩))))
 cases x with
 |none=>exact no (-4) (by decide) (q.eT hB) rfl
 |some x=>
  cases y with
  |none=>exact no (-4) (by decide) (q.eT hB) rfl
  |some y=>
   obtain⟨ra,rfl,ba,ga⟩:=ha
   obtain⟨rb,rfl,bb,gb⟩:=hb
   by_cases e:x.n=y.n
   ·have q:cR T H3 L bk dx D.rt (f x y):=by
     have q:cR T H3 L bk dx D.rt (if x.n≠y.n then (b,Wqaraq.just (-2)) else f x y):=q
     rw[ae (by simp[e])]at q
     exact q
    have er:qy (some x) (some y)=0:=af e
    rw[er]
    refine dH ?_
    obtain⟨n,F⟩:=x
    obtain⟨m,G⟩:=y
    dsimp only at e
    subst e
    exact hf H3 ra rb n F G s ba bb ga gb hB hC q
   ·have q:cR T H3 L bk dx D.rt (if x.n≠y.n then (b,Wqaraq.just (-2)) else f x y):=q
    rw[af e]at q
    exact no (-2) (by decide) (q.eT hB) (ae e)
def Jh(T:Txt K mg):Sp:=fun vs H Q _=>∃(bk c dx L:Addr) (b:Wqaraq.Book) (ws:List V) (o i j:Nat),vs=[.ref bk,.ref c]/\bf T H bk b dx L ws/\Cl T H c 14 [(o:Int),(i:Int),(j:Int)] []/\cR T H L bk dx Q (Wqaraq.step b (.times o i j))
theorem Tg(T:Txt K mg):T.og.Ok P w base 5 (Jh T):=by
 have S:=O4
 refine T.og.F.ok S (by rintro _ _ _ _ ⟨bk,c,dx,L,b,ws,o,i,j,rfl,_⟩;rfl) fun cdv A outer s H vs Q E hr h=>?_
 ·obtain⟨bk,c,dx,L,b,ws,o,i,j,rfl,hB,hC,q⟩:=h
  refine⟨_,(aj (sv 2 S.nd (T.gj.c (iw T) hr T.dh (pv 0) (ak (aM (ay (pv 1)) aq))))
   (aj (sv 3 S.nd (T.gj.c (iw T) hr T.dh (pv 0) (ak (aM (ay (pv 1)) aq))))
   (aj (sv 4 S.nd (T.qm.c (CG T) hr (aR (pv 2) (pv 3))))
   (aj (bt (a5 nk (pv 4) (aN rfl T.dw)) (ao (az (aY (ak (pv 4))))) bx)
   (ao (az (aY (ak (T.kP.c (oU T) hr T.dh (pv 0) (aR (aM (ay (pv 1)) aq) (T.l6.c (qu T) hr (aR (pv 2) (pv 3))))))))))))),?_⟩
  refine CH (f:=fun x y=>Wqaraq.lands b o ⟨x.n,Wqaraq.product x.n x.form y.form⟩) 1 2 rfl rfl hB hC rfl rfl q fun H1 ra rb n F G s ba bb ga gb B1 C1 q1=>?_
  refine a8 (qC rfl B1 C1 rfl rfl rfl ga.two ga.most (eY ga.most ga.two ga.cv.all gb.cv.all) (fun Q' k=>bN ⟨_,rfl,_,rfl,ra,rb,n,F,G,rfl,ba,bb,ga.two,ga.most,ga.cv.fm ga.most,gb.cv.all,?_,k⟩) q1)
  have:=ga.lt;have:=gb.lt
  dsimp only at *
  omega
def Ji(T:Txt K mg):Sp:=fun vs H Q _=>∃(bk c dx L:Addr) (b:Wqaraq.Book) (ws:List V) (o i j:Nat),vs=[.ref bk,.ref c]/\bf T H bk b dx L ws/\Cl T H c 17 [(o:Int),(i:Int),(j:Int)] []/\cR T H L bk dx Q (Wqaraq.step b (.greatest o i j))
theorem Th{n:Nat}{F G:Form}(ga:Good ⟨n,F⟩)(gb:Good ⟨n,G⟩):bh n (Wqaraq.commonOf ⟨n,F⟩ ⟨n,G⟩).form:=by
 have c:=FZ (n:=n) ga.most ga.two ga.cv gb.cv
 rw[c.1]
 exact c.2.1.cv ga.most
theorem Tj(T:Txt K mg):T.oj.Ok P w base 6 (Ji T):=by
 have S:=O7
 refine T.oj.F.ok S (by rintro _ _ _ _ ⟨bk,c,dx,L,b,ws,o,i,j,rfl,_⟩;rfl) fun cdv A outer s H vs Q E hr h=>?_
 ·obtain⟨bk,c,dx,L,b,ws,o,i,j,rfl,hB,hC,q⟩:=h
  refine⟨_,(aj (sv 2 S.nd (T.gj.c (iw T) hr T.dh (pv 0) (ak (aM (ay (pv 1)) aq))))
   (aj (sv 3 S.nd (T.gj.c (iw T) hr T.dh (pv 0) (ak (aM (ay (pv 1)) aq))))
   (aj (sv 4 S.nd (T.qm.c (CG T) hr (aR (pv 2) (pv 3))))
   (aj (bt (a5 nk (pv 4) (aN rfl T.dw)) (ao (az (aY (ak (pv 4))))) bx)
   (ao (az (aY (ak (T.kP.c (oU T) hr T.dh (pv 0) (aR (aM (ay (pv 1)) aq) (T.vQ.c (Rp T) hr (aR (pv 2) (pv 3))))))))))))),?_⟩
  refine CH (f:=fun x y=>Wqaraq.lands b o (Wqaraq.commonOf x y)) 1 2 rfl rfl hB hC rfl rfl q fun H1 ra rb n F G s ba bb ga gb B1 C1 q1=>?_
  exact a8 (qC (n:=n) (F:=(Wqaraq.commonOf ⟨n,F⟩ ⟨n,G⟩).form) rfl B1 C1 rfl rfl rfl ga.two ga.most (Th ga gb) (fun Q' k=>bN ⟨_,rfl,_,rfl,ra,rb,n,F,G,rfl,ba,bb,ga.two,ga.most,ga.cv,gb.cv,ga.lt.1,gb.lt.1,ga.lt.2,gb.lt.2,k⟩) q1)
def Jj(T:Txt K mg):Sp:=fun vs H Q _=>∃(bk c dx L:Addr) (b:Wqaraq.Book) (ws:List V) (i j:Nat),vs=[.ref bk,.ref c]/\bf T H bk b dx L ws/\Cl T H c 20 [(i:Int),(j:Int)] []/\cR T H L bk dx Q (Wqaraq.step b (.starts_ i j))
theorem Tn(T:Txt K mg):T.oq.Ok P w base 6 (Jj T):=by
 have S:=O_
 refine T.oq.F.ok S (by rintro _ _ _ _ ⟨bk,c,dx,L,b,ws,i,j,rfl,_⟩;rfl) fun cdv A outer s H vs Q E hr h=>?_
 ·obtain⟨bk,c,dx,L,b,ws,i,j,rfl,hB,hC,q⟩:=h
  refine⟨_,(aj (sv 2 S.nd (T.gj.c (iw T) hr T.dh (pv 0) (ak (aM (ay (pv 1)) aq))))
   (aj (sv 3 S.nd (T.gj.c (iw T) hr T.dh (pv 0) (ak (aM (ay (pv 1)) aq))))
   (aj (sv 4 S.nd (T.qm.c (CG T) hr (aR (pv 2) (pv 3))))
   (aj (bt (a5 nk (pv 4) (aN rfl T.dw)) (ao (az (aY (ak (pv 4))))) bx)
   (ao (az (aY (ak (gJ (cq (T.vP.c (Rm T) hr (aR (pv 2) (pv 3)))) aq aq))))))))),?_⟩
  refine CH (f:=fun x y=>(b,Wqaraq.just (if Wqaraq.beginsOf x y=true then 1 else 0))) 0 1 rfl rfl hB hC rfl rfl q fun H1 ra rb n F G s ba bb ga gb B1 C1 q1=>?_
  have k1:bB H1 Q [V.int (if Wqaraq.beginsOf ⟨n,F⟩ ⟨n,G⟩=true then 1 else 0)]:=q1.eT B1
  have:=ga.lt;have:=gb.lt
  dsimp only at *
  refine a8 (bG (jy (bN ⟨_,rfl,_,rfl,ra,rb,n,F,G,rfl,ba,bb,ga.two,ga.most,ga.cv,gb.cv,by omega,fun H2 s2=>⟨_,rfl,aS (fun c=>?_) (fun c=>?_)⟩⟩)))
  ·rw[af c]at k1
   exact gT (σ:=[]) (k1.of s2)
  ·rw[ae (by rw[c];decide)]at k1
   exact gT (σ:=[]) (k1.of s2)
abbrev To:R2:=fun x y H Q=>y=.aW/\Q (.bl (decide (x=.aW))) H
theorem ug{T:Txt K mg}{H:Hp}{bk c dx L:Addr}{b:Wqaraq.Book}{ws:List V}{k:Int}{ns:List Int}{rws:dF}{i:Nat}{z1:Int}{u:TS}{D:Ends}{E1:XK}{σ:L2.St}{f:Wqaraq.Braid->Wqaraq.Book×Wqaraq.Ans}(l1:Nat)(e1:z1=(l1:Int))
  (hB:bf T H bk b dx L ws)(hC:Cl T H c k ns rws)(h1:ns[l1]?=some (i:Int))(s0:σ[0]?=some (some (.ref bk)))(s1:σ[1]?=some (some (.ref c)))(s2:∀v:V,(σ.set 2 (some v))[2]?=some (some v))(q:cR T H L bk dx D.rt (Wqaraq.ofBraid b i f))
  (hf:∀(H':Hp) (ra:Addr) (n:Nat) (F:Form),ag H H'->Bd T H' ra n F->Good ⟨n,F⟩->bf T H' bk b dx L ws->Cl T H' c k ns rws->cR T H' L bk dx D.rt (f ⟨n,F⟩)->u D (σ.set 2 (some (.ref ra))) H'):
  kj (lq (jN T.e7 "braid_at" (uf T) [] E1 (cK 0) (bQ (eK (jf K) (jd K (cK 1) "numbers") (tC (.int z1))) b_)) (dt 2))
   (kj (pC (pF (eK To (cK 2) (tC .aW))) (jH (je (bQ (tC (.int (-4))) b_))) fz) u) D σ H:=by
 refine aQ (bz (qz l1 e1 hB hC h1 s0 s1 fun H1 va t1 ha=>bY ?_))
 dsimp only
 have hB:=hB.same t1
 have hC:=hC.same t1
 have q:=q.of t1
 refine aQ (dE (ig ⟨va,s2 va,rfl,_,rfl,?_⟩))
 unfold Wqaraq.ofBraid at q
 generalize b.at_ i=x at *
 cases x with
 |none=>
  have ha:va=V.aW:=ha
  subst ha
  exact fY (a8 (gT (q.eT hB)))
 |some x=>
  obtain⟨ra,rfl,ba,ga⟩:=ha
  exact dH (hf H1 ra x.n x.form t1 ba ga hB hC q)
def Jk(T:Txt K mg):Sp:=fun vs H Q _=>∃(bk c dx L:Addr) (b:Wqaraq.Book) (ws:List V) (o i:Nat),vs=[.ref bk,.ref c]/\bf T H bk b dx L ws/\Cl T H c 15 [(o:Int),(i:Int)] []/\cR T H L bk dx Q (Wqaraq.step b (.inverse o i))
theorem Tq(T:Txt K mg):T.oh.Ok P w base 4 (Jk T):=by
 have S:=O5
 refine T.oh.F.ok S (by rintro _ _ _ _ ⟨bk,c,dx,L,b,ws,o,i,rfl,_⟩;rfl) fun cdv A outer s H vs Q E hr h=>?_
 ·obtain⟨bk,c,dx,L,b,ws,o,i,rfl,hB,hC,q⟩:=h
  refine⟨_,(aj (sv 2 S.nd (T.gj.c (iw T) hr T.dh (pv 0) (ak (aM (ay (pv 1)) aq))))
   (aj (bt (a5 km (pv 2) i7) (ao (az (aY (ak (aN rfl T.lW))))) bx)
   (ao (az (aY (ak (T.kP.c (oU T) hr T.dh (pv 0) (aR (aM (ay (pv 1)) aq) (T.n_.c (wG T) hr (ak (pv 2))))))))))),?_⟩
  refine ug 1 rfl hB hC rfl rfl rfl (fun _=>rfl) q fun H1 ra n F s ba ga B1 C1 q1=>?_
  exact a8 (qC rfl B1 C1 rfl rfl rfl ga.two ga.most (jW ga.most ga.two ga.cv.all) (fun Q' k=>bN ⟨_,rfl,ra,n,F,rfl,ba,ga.two,ga.most,ga.cv,cz ga.lt.1 (by decide),k⟩) q1)
def Jl(T:Txt K mg):Sp:=fun vs H Q _=>∃(bk c dx L:Addr) (b:Wqaraq.Book) (ws:List V) (o i l:Nat),vs=[.ref bk,.ref c]/\bf T H bk b dx L ws/\Cl T H c 18 [(o:Int),(i:Int),(l:Int)] []/\cR T H L bk dx Q (Wqaraq.step b (.cycle o i l))
theorem Tr{n:Nat}{F:Form}(g:Good ⟨n,F⟩)(l:Bool):bh n (Wqaraq.cycledOf ⟨n,F⟩ l):=by
 have h2:=g.two;have hn:=g.most;have hF:=g.cv
 obtain⟨t,fs⟩:=F
 cases l with
 |false=>
  cases fs with
  |nil=>exact hF
  |cons a r=>
   rw[FG hn h2 hF]
   exact eY hn h2 (fun x hx=>hF.all x (bH _ hx)) (kD hn h2 (dJ hn h2 (mQ hn (hF.all a bE)))).all
 |true=>
  rcases xj fs with e|⟨r,a,e⟩
  ·subst e;exact hF
  ·rw[xm]at e
   subst e
   rw[FH hn h2 hF]
   exact eY hn h2 (kD hn h2 (dJ hn h2 (hF.all a (d6 _ bE)))).all (fun x hx=>hF.all x (jB _ hx))
theorem Ts(T:Txt K mg):T.om.Ok P w base 6 (Jl T):=by
 have S:=O8
 refine T.om.F.ok S (by rintro _ _ _ _ ⟨bk,c,dx,L,b,ws,o,i,l,rfl,_⟩;rfl) fun cdv A outer s H vs Q E hr h=>?_
 ·obtain⟨bk,c,dx,L,b,ws,o,i,l,rfl,hB,hC,q⟩:=h
  refine⟨_,(aj (sv 2 S.nd (T.gj.c (iw T) hr T.dh (pv 0) (ak (aM (ay (pv 1)) aq))))
   (aj (bt (a5 km (pv 2) i7) (ao (az (aY (ak (aN rfl T.lW))))) bx)
   (aj (sv 3 S.nd (gJ (a5 nj (aM (ay (pv 1)) aq) aq) (T.vK.c (Ri T) hr (ak (pv 2))) (T.vL.c (Rk T) hr (ak (pv 2)))))
   (ao (az (aY (ak (T.kP.c (oU T) hr T.dh (pv 0) (aR (aM (ay (pv 1)) aq) (pv 3)))))))))),?_⟩
  refine ug 1 rfl hB hC rfl rfl rfl (fun _=>rfl) q fun H1 ra n F s ba ga B1 C1 q1=>?_
  have fin:∀(H2:Hp) (r:Addr),ag H1 H2->Bd T H2 r n (Wqaraq.cycledOf ⟨n,F⟩ (l != 0))->jH (je (bQ (jN T.e7 "put" (w4 T) [] E0 (cK 0) (bQ (eK (jf K) (jd K (cK 1) "numbers") (tC (.int 0))) (bQ (cK 3) b_))) b_)) {nx:=fun x H'=>Q V.aW H',rt:=Q} [some (.ref bk),some (.ref c),some (.ref ra),some (.ref r)] H2:=by
   intro H2 r s2 b2
   exact a8 (qC rfl (B1.same s2) (C1.same s2) rfl rfl rfl ga.two ga.most (Tr ga _) (fun Q' k=>mh rfl (k H2 r (ag.refl _) b2)) (q1.of s2))
  refine aQ (bz (ig (ic (jA 2 rfl C1 rfl rfl ⟨rfl,_,rfl,aS (fun c=>?_) (fun c=>?_)⟩))))
  ·have c:=a0 c
   injection c with c
   have e:(l != 0)=false:=by rw[show l=0 by omega];rfl
   rw[e]at fin
   exact bN ⟨_,rfl,ra,n,F,rfl,ba,ga.two,ga.most,ga.cv,ga.lt.1,fun H2 r s2 b2=>fin H2 r s2 b2⟩
  ·have c:=a_ c
   have e:(l != 0)=true:=by
    rw[bne_iff_ne]
    exact fun z=>c (by rw[z];rfl)
   rw[e]at fin
   exact bN ⟨_,rfl,ra,n,F,rfl,ba,ga.two,ga.most,ga.cv,ga.lt.1,fun H2 r s2 b2=>fin H2 r s2 b2⟩
def Jm(T:Txt K mg):Sp:=fun vs H Q _=>∃(bk c dx L:Addr) (b:Wqaraq.Book) (ws:List V) (i:Nat),vs=[.ref bk,.ref c]/\bf T H bk b dx L ws/\Cl T H c 22 [(i:Int)] []/\cR T H L bk dx Q (Wqaraq.step b (.row i))
theorem Tt(T:Txt K mg):T.ou.Ok P w base 4 (Jm T):=by
 have S:=Pb
 refine T.ou.F.ok S (by rintro _ _ _ _ ⟨bk,c,dx,L,b,ws,i,rfl,_⟩;rfl) fun cdv A outer s H vs Q E hr h=>?_
 ·obtain⟨bk,c,dx,L,b,ws,i,rfl,hB,hC,q⟩:=h
  refine⟨_,(aj (sv 2 S.nd (T.gj.c (iw T) hr T.dh (pv 0) (ak (aM (ay (pv 1)) aq))))
   (aj (bt (a5 km (pv 2) i7) (ao (az (aY (ak (aN rfl T.lW))))) bx)
   (aj (bt (a5 eM (T.lT.c (Ry T) hr (ak (pv 2))) (aN rfl T.GW)) (ao (az (aY (ak (aN rfl T.qd))))) bx)
   (ao (az (aC fH (aY (ak (aN rfl T.dw))) (T.vZ.c (RD T) hr (ak (pv 2))))))))),?_⟩
  refine ug 0 rfl hB hC rfl rfl rfl (fun _=>rfl) q fun H1 ra n F s ba ga B1 C1 q1=>?_
  have k1:bB H1 Q (gD (if 5000<(F.row n).length then Wqaraq.just (-3) else Wqaraq.tells (F.row n))):=q1.eT B1
  refine aQ (dE (ig (ic (bN ⟨_,rfl,ra,n,F,rfl,ba,ga.two,ga.most,ga.cv.all,ga.lt.1,fun H2 s2=>⟨_,_,rfl,rfl,_,rfl,aS (fun c=>?_) (fun c=>?_)⟩⟩))))
  ·have c:(5000:Int)<(((F.row n).length:Nat):Int):=a0 c
   rw[af (by omega)]at k1
   exact a8 (gT (k1.of s2))
  ·have c:¬(5000:Int)<(((F.row n).length:Nat):Int):=a_ c
   rw[ae (by omega)]at k1
   exact a8 (j8 (xs:=iv (F.row n)) (by rw[cQ];omega) (fun H3 Q' s3 k3=>bN ⟨_,rfl,ra,n,F,rfl,(ba.same s2).same s3,ga.two,ga.most,ga.cv.all,ga.lt.1,ga.lt.2,k3⟩) (k1.of s2))
def Jn(T:Txt K mg):Sp:=fun vs H Q _=>∃(bk c dx L:Addr) (b:Wqaraq.Book) (ws:List V) (i:Nat),vs=[.ref bk,.ref c]/\bf T H bk b dx L ws/\Cl T H c 23 [(i:Int)] []/\cR T H L bk dx Q (Wqaraq.step b (.told i))
theorem Tu(T:Txt K mg):T.ow.Ok P w base 4 (Jn T):=by
 have S:=Pd
 refine T.ow.F.ok S (by rintro _ _ _ _ ⟨bk,c,dx,L,b,ws,i,rfl,_⟩;rfl) fun cdv A outer s H vs Q E hr h=>?_
 ·obtain⟨bk,c,dx,L,b,ws,i,rfl,hB,hC,q⟩:=h
  refine⟨_,(aj (sv 2 S.nd (T.gj.c (iw T) hr T.dh (pv 0) (ak (aM (ay (pv 1)) aq))))
   (aj (bt (a5 km (pv 2) i7) (ao (az (aY (ak (aN rfl T.lW))))) bx)
   (aj (sv 3 S.nd (T.wa.c (RF T) hr (ak (pv 2))))
   (ao (az (aC fH (aY (dk (aN rfl T.dw) (T.v_.c (RA T) hr (ak (pv 2))) (T.wb.c (RI T) hr (ak (pv 3))))) (pv 3))))))),?_⟩
  refine ug 0 rfl hB hC rfl rfl rfl (fun _=>rfl) q fun H1 ra n F s ba ga B1 C1 q1=>?_
  have k1:bB H1 Q (gD (Wqaraq.tells ([Wqaraq.sum (F.row n),(Wqaraq.loops n (Wqaraq.follow (F.row n)):Int)]++Wqaraq.ints ((Wqaraq.follow (F.row n)).take n)))):=q1.eT B1
  have hn:=ga.most;have n2:=ga.two;have hF:=ga.cv.all;have hl:=ga.lt.1
  dsimp only at hn n2 hF hl
  rw[NQ hn hF]at k1
  refine aQ (bz (bN ⟨_,rfl,ra,n,F,rfl,ba,n2,hn,hF,hl,fun H2 r s2 fr l2=>bY ?_⟩))
  dsimp only
  refine a8 (ic (bG (ub (bG (bN ⟨_,rfl,ra,n,F,rfl,ba.same s2,n2,hn,hF,hl,fun H3 s3=>?_⟩)))))
  refine bG (bN ⟨_,rfl,r,n,reach n F,rfl,hn,s3 _ _ l2,NP hn hF,fun H4 s4=>?_⟩)
  refine⟨ck (by show 3<=100000;decide),fun p fp=>⟨_,rfl,p,r,_,_,rfl,rfl,au,(ag.bA fp) _ _ (s4 _ _ (s3 _ _ l2)),?_,fun a fa=>?_⟩⟩
  ·refine ck ?_
   rw[cG,dz]
   show 3+_<=_
   omega
  ·have s5:=((s2.trans s3).trans s4).upd (o:=.lst [V.int 0,V.int (Wqaraq.sum (F.row n)),V.int ((Wqaraq.loops n (reach n F):Nat):Int)]) (((s2.trans s3).trans s4).free fp)
   refine k1 _ a (s5.upd (s5.free fa)) (s5.free fa) ?_
   rw[au,l8];rfl
def Jo(T:Txt K mg):Sp:=fun vs H Q _=>∃(bk c dx L:Addr) (b:Wqaraq.Book) (ws:List V) (o i:Nat) (e:Int),vs=[.ref bk,.ref c]/\bf T H bk b dx L ws/\Cl T H c 16 [(o:Int),(i:Int),e] []/\cR T H L bk dx Q (Wqaraq.step b (.power o i e))
theorem Tv{n:Nat}(hn:n<=16)(h2:2<=n){F:Form}(h:bh n F)(e:Int):bh n (Wqaraq.powerOf n e F):=by
 unfold Wqaraq.powerOf
 have hb:aV n (if e<0 then Wqaraq.backward n F else F):=by
  split
  ·exact(jW hn h2 h.all).all
  ·exact h.all
 generalize (if e<0 then Wqaraq.backward n F else F)=B at hb
 generalize e.natAbs=m
 induction m with
 |zero=>exact lO hn h2
 |succ m ih=>
  rw[iZ,jE]
  exact eY hn h2 ih.all hb
theorem Tw(T:Txt K mg):T.oi.Ok P w base 6 (Jo T):=by
 have S:=O6
 refine T.oi.F.ok S (by rintro _ _ _ _ ⟨bk,c,dx,L,b,ws,o,i,e,rfl,_⟩;rfl) fun cdv A outer s H vs Q E hr h=>?_
 ·obtain⟨bk,c,dx,L,b,ws,o,i,e,rfl,hB,hC,q⟩:=h
  refine⟨_,(aj (sv 2 S.nd (T.gj.c (iw T) hr T.dh (pv 0) (ak (aM (ay (pv 1)) aq))))
   (aj (sv 3 S.nd (aM (ay (pv 1)) aq))
   (aj (bt (a5 km (pv 2) i7) (ao (az (aY (ak (aN rfl T.lW))))) bx)
   (aj (bt (a5 eM (fX lu rfl T.kJ (by decide+kernel) (ak (pv 3))) (aN rfl T.GU)) (ao (az (aY (ak (aN rfl T.qd))))) bx)
   (ao (az (aY (ak (T.kP.c (oU T) hr T.dh (pv 0) (aR (aM (ay (pv 1)) aq) (T.vI.c (Ra T) hr (aR (pv 2) (pv 3))))))))))))),?_⟩
  refine aQ (bz (qz 1 rfl hB hC rfl rfl rfl fun H1 va t1 ha=>bY ?_))
  dsimp only
  have hB:=hB.same t1
  have hC:=hC.same t1
  have q:cR T H1 L bk dx Q (Wqaraq.ofBraid b i fun x=>if Wqaraq.MOST<e.natAbs then (b,Wqaraq.just (-3)) else Wqaraq.lands b o ⟨x.n,Wqaraq.powerOf x.n e x.form⟩):=q.of t1
  refine aQ (bz (jA 2 rfl hC rfl rfl (bY ?_)))
  dsimp only
  refine aQ (dE (ig ⟨va,rfl,rfl,_,rfl,?_⟩))
  unfold Wqaraq.ofBraid at q
  generalize b.at_ i=x at *
  cases x with
  |none=>
   have ha:va=V.aW:=ha
   subst ha
   exact fY (a8 (gT (q.eT hB)))
  |some x=>
   obtain⟨ra,rfl,ba,ga⟩:=ha
   refine dH ?_
   obtain⟨n,F⟩:=x
   have q:cR T H1 L bk dx Q (if 8<e.natAbs then (b,Wqaraq.just (-3)) else Wqaraq.lands b o ⟨n,Wqaraq.powerOf n e F⟩):=q
   dsimp only [fz]
   refine aQ (dE (ig (ic (tR (mh rfl ⟨e,rfl,_,_,rfl,rfl,_,rfl,?_⟩)))))
   rw[mV]
   refine aS (fun c=>?_) (fun c=>?_)
   ·have c:(8:Int)<((e.natAbs:Nat):Int):=a0 c
    rw[af (by omega)]at q
    exact a8 (gT (q.eT hB))
   ·have c:¬(8:Int)<((e.natAbs:Nat):Int):=a_ c
    rw[ae (by omega)]at q
    exact a8 (qC rfl hB hC rfl rfl rfl ga.two ga.most (Tv ga.most ga.two ga.cv e) (fun Q' k=>bN ⟨_,rfl,_,rfl,ra,n,F,e,rfl,ba,ga.two,ga.most,ga.cv,ga.lt.1,by omega,k⟩) q)
def Jp(T:Txt K mg):Sp:=fun vs H Q _=>∃(bk c dx L:Addr) (b:Wqaraq.Book) (ws:List V) (i j:Nat),vs=[.ref bk,.ref c]/\bf T H bk b dx L ws/\Cl T H c 19 [(i:Int),(j:Int)] []/\cR T H L bk dx Q (Wqaraq.step b (.order i j))
theorem Tx(T:Txt K mg):T.oo.Ok P w base 3 (Jp T):=by
 have S:=O9
 refine T.oo.F.ok S (by rintro _ _ _ _ ⟨bk,c,dx,L,b,ws,i,j,rfl,_⟩;rfl) fun cdv A outer s H vs Q E hr h=>?_
 ·obtain⟨bk,c,dx,L,b,ws,i,j,rfl,hB,hC,q⟩:=h
  refine⟨_,(aj (sv 2 S.nd (T.gj.c (iw T) hr T.dh (pv 0) (ak (aM (ay (pv 1)) aq))))
   (aj (sv 3 S.nd (T.gj.c (iw T) hr T.dh (pv 0) (ak (aM (ay (pv 1)) aq))))
   (aj (bt (PW.pt (xw (a5 km (pv 2) i7) (xu (a5 km (pv 3) i7)))) (ao (az (aY (ak (aN rfl T.lW))))) bx)
   (ao (az (aY (aR (aN rfl T.dw) (T.vY.c (RS T) hr (aR (pv 2) (pv 3)))))))))),?_⟩
  refine aQ (bz (qz 0 rfl hB hC rfl rfl rfl fun H1 va t1 ha=>bY ?_))
  dsimp only
  refine aQ (bz (qz 1 rfl (hB.same t1) (hC.same t1) rfl rfl rfl fun H2 vb t2 hb=>bY ?_))
  dsimp only
  have ha:=ha.same t2
  have hB:=hB.same (t1.trans t2)
  have q:cR T H2 L bk dx Q (Wqaraq.ofTwo b i j fun x y=>(b,Wqaraq.tells [Wqaraq.order x y])):=q.of (t1.trans t2)
  refine aQ (dE ⟨_,rfl,rfl,_,rfl,?_⟩)
  unfold Wqaraq.ofTwo Wqaraq.ofBraid at q
  generalize b.at_ i=x at *
  generalize b.at_ j=y at *
  cases x with
  |none=>
   have ha:va=V.aW:=ha
   subst ha
   exact fY (fY (a8 (gT (q.eT hB))))
  |some x=>
   obtain⟨ra,rfl,ba,ga⟩:=ha
   refine dH ⟨_,rfl,rfl,_,rfl,?_⟩
   cases y with
   |none=>
    have hb:vb=V.aW:=hb
    subst hb
    exact fY (a8 (gT (q.eT hB)))
   |some y=>
    obtain⟨rb,rfl,bb,gb⟩:=hb
    refine dH ?_
    dsimp only [fz]
    have k1:bB H2 Q (gD (Wqaraq.tells [Wqaraq.order x y])):=q.eT hB
    refine a8 (bG (ub (bG (bN ⟨_,rfl,_,rfl,ra,rb,x.n,y.n,x.form,y.form,rfl,ba,bb,ga.most,gb.most,ga.cv.all,gb.cv.all,fun H3 s3=>?_⟩))))
    exact⟨ck (by show 2<=100000;decide),fun p fp=>k1 _ p (s3.upd (s3.free fp)) (s3.free fp) au⟩
def Jq(T:Txt K mg):Sp:=fun vs H Q _=>∃(bk c dx L:Addr) (b:Wqaraq.Book) (ws:List V) (i:Nat),vs=[.ref bk,.ref c]/\bf T H bk b dx L ws/\Cl T H c 21 [(i:Int)] []/\cR T H L bk dx Q (Wqaraq.step b (.form i))
theorem Tz(T:Txt K mg):T.ot.Ok P w base 3 (Jq T):=by
 have S:=Pa
 refine T.ot.F.ok S (by rintro _ _ _ _ ⟨bk,c,dx,L,b,ws,i,rfl,_⟩;rfl) fun cdv A outer s H vs Q E hr h=>?_
 ·obtain⟨bk,c,dx,L,b,ws,i,rfl,hB,hC,q⟩:=h
  refine⟨_,(aj (sv 2 S.nd (T.gj.c (iw T) hr T.dh (pv 0) (ak (aM (ay (pv 1)) aq))))
   (aj (bt (a5 km (pv 2) i7) (ao (az (aY (ak (aN rfl T.lW))))) bx)
   (aj (sv 3 S.nd (aY (dk (aN rfl T.dw) (ay (pv 2)) (ay (pv 2)))))
   (aj (c8 PassesOwn.never rfl (fF (ay (pv 2))) (gn 4 S.nd) (ao (dR (Cc (pv 3) (jO jQ (pv 4) lD (iK (ay (pv 2))))))))
   (ao (az (pv 3))))))),?_⟩
  refine ug 0 rfl hB hC rfl rfl rfl (fun _=>rfl) q fun H1 pa n F s ba ga B1 C1 q1=>?_
  have k1:bB H1 Q (iv (0::(n:Int)::F.twists::F.factors.flatMap fun (a:Perm)=>Wqaraq.ints (a.take n))):=q1.eT B1
  have hn:=ga.most;have hF:=ga.cv.all;have hl:=ga.lt.1
  dsimp only at hn hF hl
  obtain⟨da,La,ra,ia,fa⟩:=ba
  have rl:=fa.aI.len
  refine aQ (bz (bG (ub (bG ⟨_,rfl,pa,_,da,_,_,rfl,ia,T.aZ,T.dy,dM _ _ _,bG ⟨_,rfl,pa,_,da,_,_,rfl,ia,T.aZ,T.ez,e_ _ _ _,ck (by show 3<=100000;decide),fun A0 fA=>bY ?_⟩⟩))))
  dsimp only
  have t1:=ag.bA (o:=.lst [V.int 0,V.int (n:Nat),V.int F.twists]) fA
  refine⟨_,rfl,pa,_,da,_,_,rfl,t1 _ _ ia,T.aZ,T.eO,fS _ _ _,La,rfl,⟨_,ai.of (t1 _ _ fa.lst)⟩,mD (xs:=ra.map V.ref) (fun i σ H'=>∃(v4:Option V),σ=[some (.ref bk),some (.ref c),some (.ref pa),some (.ref A0),v4]/\ag H1 H'/\Li H' A0 ([0,(n:Int),F.twists]++(F.factors.take i).flatMap fun (a:Perm)=>Wqaraq.ints (a.take n))/\([0,(n:Int),F.twists]++(F.factors.take i).flatMap fun (a:Perm)=>Wqaraq.ints (a.take n)).length<=3+16 * i)
   ⟨none,rfl,t1,by rw[o7];exact au,by rw[o7];exact aX _⟩ (fun i σ H' _ ⟨_,_,s,_⟩=>ai.of (s _ _ fa.lst)) ?_ ?_⟩
  ·rintro i x σ H5 hx ⟨v4,rfl,s5,h5,l5⟩
   have hi:i<F.factors.length:=by
    have:=(dP.mp hx).1
    rwa[aE,rl]at this
   obtain⟨r,hr,lr⟩:=fa.aI.get (bu hi)
   have ex:x=V.ref r:=by
    rw[bX,hr]at hx
    exact(bo hx).symm
   subst ex
   have hfi:Rt n F.factors[i]:=hF _ (iY hi)
   have fl:=hfi.aa.len
   have tk:F.factors.take (i+1)=F.factors.take i++[F.factors[i]]:=by rw[i0,bu hi];rfl
   have ef:[0,(n:Int),F.twists]++((F.factors.take (i+1)).flatMap fun (a:Perm)=>Wqaraq.ints (a.take n))=([0,(n:Int),F.twists]++(F.factors.take i).flatMap fun (a:Perm)=>Wqaraq.ints (a.take n))++Wqaraq.ints (F.factors[i].take n):=by
    rw[tk,List.flatMap_append,dG]
    simp
   rw[ef]
   generalize [0,(n:Int),F.twists]++((F.factors.take i).flatMap fun (a:Perm)=>Wqaraq.ints (a.take n))=Z at *
   generalize F.factors[i]=ff at *
   have il:(Wqaraq.ints (ff.take n)).length<=16:=by
    unfold Wqaraq.ints
    rw[aE,dz];omega
   refine⟨_,rfl,.inl ⟨rfl,_,ai.of h5⟩,_,rfl,_,rfl,pa,_,da,_,_,rfl,s5 _ _ ia,T.aZ,T.dy,dM _ _ _,_,rfl,r,_,rfl,ai.of (s5 _ _ lr),fun y fy=>?_⟩
   rw[tU n rfl,<-Cb]
   have s6:=ag.bA (o:=.lst (nv (ff.take n))) fy
   refine⟨A0,y,_,_,rfl,rfl,s6 _ _ h5,au,ck (by rw[cG,cQ,dz];omega),?_⟩
   refine⟨_,rfl,fun b o e=>by rw[ax (a7 e fA)];exact s6 _ _ (s5 _ _ e),?_,by rw[bF];omega⟩
   show upd _ A0 _ A0=_
   rw[au,wt,l8];rfl
  ·rintro σ H5 ⟨v4,rfl,s5,h5,l5⟩
   rw[aE,rl,gU]at h5
   exact⟨_,rfl,k1 H5 A0 s5 fA h5⟩
theorem Jr(n:Nat):∀(fs:List Perm) (F:Form),F.twists<=(takes n F fs).twists/\(takes n F fs).twists<=F.twists+fs.length
 |[],F=>⟨Int.le_refl _,by show F.twists<=F.twists+0;omega⟩
 |f::fs,F=>by
  have h:=Jr n fs (cF n F.twists (cg n F.factors.reverse f []))
  have e:takes n F (f::fs)=takes n (cF n F.twists (cg n F.factors.reverse f [])) fs:=rfl
  rw[e,bP]
  have:F.twists<=(cF n F.twists (cg n F.factors.reverse f [])).twists/\(cF n F.twists (cg n F.factors.reverse f [])).twists<=F.twists+1:=by
   unfold cF
   split
   ·exact⟨by show F.twists<=F.twists+1;omega,Int.le_refl _⟩
   ·exact⟨Int.le_refl _,by show F.twists<=F.twists+1;omega⟩
  omega
theorem TB{n:Nat}(hn:n<=16)(n2:2<=n){c:Int}(hc:Wqaraq.crossing n c=true): -1<=(cY n c).twists/\(cY n c).twists+(cY n c).factors.length<=1:=by
 obtain⟨c1,c2⟩:=jt.mp hc
 have hs:=sM hn n2 (i:=c.natAbs - 1) (by omega)
 have hI:=kD hn n2 (dJ hn n2 hs)
 have h1:0<=(aO n (bK (Wqaraq.single (c.natAbs - 1)))).twists/\(aO n (bK (Wqaraq.single (c.natAbs - 1)))).twists+(aO n (bK (Wqaraq.single (c.natAbs - 1)))).factors.length<=1:=by
  rw[show aO n (bK (Wqaraq.single (c.natAbs - 1)))=aO n ⟨0,[]++[Wqaraq.single (c.natAbs - 1)]⟩ from rfl,(kH hn n2 (k:=0) (Fm.nil hn) hs).2]
  generalize Wqaraq.single (c.natAbs - 1)=t
  have e:cF n 0 (cg n [].reverse t [])=if t=Wqaraq.delta n then ⟨0+1,trim (tl n []++[])⟩ else ⟨0,trim ([]++[t])⟩:=rfl
  have e0:trim (tl n []++[])=[]:=by
   have:tl n []++[]=([]:List Perm):=rfl
   rw[this];unfold trim;split<;>rfl
  rw[e,e0,sL]
  split
  ·exact⟨by decide,by decide⟩
  ·split<;>exact⟨Int.le_refl _,by simp⟩
 unfold cY
 split
 ·omega
 ·have e:=y8 hn n2 hI
  have l:=wH hn n2 hI
  have t:(Wqaraq.backward n (aO n (bK (Wqaraq.single (c.natAbs - 1))))).twists= -((aO n (bK (Wqaraq.single (c.natAbs - 1)))).twists+(aO n (bK (Wqaraq.single (c.natAbs - 1)))).factors.length):=by rw[<-e];rfl
  rw[l,t]
  omega
theorem Js{n:Nat}(hn:n<=16)(n2:2<=n):∀(w:List Int) (F:Form),bh n F->Wqaraq.fits n w=true->
  (w.foldl (fun F c=>Wqaraq.product n F (cY n c)) F).factors.length<=F.factors.length+w.length/\(w.foldl (fun F c=>Wqaraq.product n F (cY n c)) F).twists.natAbs<=F.twists.natAbs+w.length
 |[],F,_,_=>⟨aX _,aX _⟩
 |c::w,F,h,hw=>by
  have hw':Wqaraq.crossing n c=true/\Wqaraq.fits n w=true:=by
   unfold Wqaraq.fits at hw ⊢
   rw[List.all_cons,br]at hw;exact hw
  have cI:=y9 hn n2 hw'.1
  have ih:=Js hn n2 w (Wqaraq.product n F (cY n c)) (eY hn n2 h.all cI.all) hw'.2
  have l1:=Cp hn n2 (h.fm hn) cI.all
  have l2:=Ia hn n2 hw'.1
  have l3:=TB hn n2 hw'.1
  have tp:=(y4 hn n2 (h.fm hn) cI.all).2
  have tt:=Jr n (cY n c).factors ⟨F.twists+(cY n c).twists,tw n (cY n c).twists F.factors⟩
  rw[tp]at tt
  dsimp only at tt
  rw[gG,bP]
  omega
theorem Jt{n:Nat}(hn:n<=16)(n2:2<=n){w:List Int}(hw:Wqaraq.fits n w=true):bh n (Wqaraq.formOf n w)/\(w.length<=60->Wqaraq.large (Wqaraq.formOf n w)=false):=by
 have f:=y_ hn n2 w (F:=⟨0,[]⟩) (lO hn n2) hw
 refine⟨f.1,fun hl=>?_⟩
 have s:=Js hn n2 w ⟨0,[]⟩ (lO hn n2) hw
 rw[<-f.2]at s
 have s1:(Wqaraq.formOf n w).factors.length<=0+w.length:=s.1
 have s2:(Wqaraq.formOf n w).twists.natAbs<=0+w.length:=s.2
 unfold Wqaraq.large Wqaraq.FACTORS Wqaraq.TWISTS
 rw[cu (by omega),cu (by omega)];rfl
theorem bf.ne{T:Txt K mg}{H:Hp}{p dx L r:Addr}{b:Wqaraq.Book}{ws:List V}{l:List Int}(h:bf T H p b dx L ws)(k:Li H r l):r≠L:=fun e=>by
 rw[e]at k
 have k:H L=_:=k
 rw[h.lst]at k
 injection k with k
 injection k with k
 obtain⟨v0,e0,s0⟩:=h.get (i:=0) (by decide)
 obtain⟨z,hz⟩:=wV (l:=l) (by have:=h.len;rw[k,cQ]at this;omega)
 rw[k,hz]at e0
 have e0:=bo e0
 subst e0
 cases q:b.at_ 0 with
 |none=>rw[q]at s0;cases (show V.int z=V.aW from s0)
 |some x=>rw[q]at s0;obtain⟨r,e,_⟩:=s0;cases e
def Ju(T:Txt K mg):Sp:=fun vs H Q _=>∃(bk c dx L rw:Addr) (b:Wqaraq.Book) (ws:List V) (o n:Nat) (w:List Int),vs=[.ref bk,.ref c]/\bf T H bk b dx L ws/\Cl T H c 13 [(o:Int),(n:Int)] [(rw,w)]/\cR T H L bk dx Q (Wqaraq.step b (.set o n w))
theorem TF(T:Txt K mg):T.oa.Ok P w base 7 (Ju T):=by
 have S:=O3
 refine T.oa.F.ok S (by rintro _ _ _ _ ⟨bk,c,dx,L,rw,b,ws,o,n,w,rfl,_⟩;rfl) fun cdv A outer s H vs Q E hr h=>?_
 ·obtain⟨bk,c,dx,L,rw,b,ws,o,n,w,rfl,hB,hC,q⟩:=h
  refine⟨_,(aj (sv 2 S.nd (aM (ay (pv 1)) aq))
   (aj (sv 3 S.nd (aM (ay (pv 1)) aq))
   (aj (sv 4 S.nd (T.tI.c (Jd T) hr (dk (pv 2) (pv 3) (aN rfl T.BR))))
   (aj (bt (a5 nk (pv 4) (aN rfl T.dw)) (ao (az (aY (ak (pv 4))))) bx)
   (ao (az (aY (ak (T.kP.c (oU T) hr T.dh (pv 0) (aR (aM (ay (pv 1)) aq) (T.tm.c (Ib T) hr (aR (pv 2) (pv 3))))))))))))),?_⟩
  have q:cR T H L bk dx Q (if Wqaraq.strands n=false then (b,Wqaraq.just (-1)) else if 100<w.length then (b,Wqaraq.just (-3)) else if Wqaraq.fits n w=false then (b,Wqaraq.just (-1)) else Wqaraq.lands b o ⟨n,Wqaraq.formOf n w⟩):=q
  refine aQ (bz (jA 1 rfl hC rfl rfl (bY ?_)))
  dsimp only
  refine aQ (bz (fU 0 rfl hC rfl rfl (bY ?_)))
  dsimp only
  have l0:=hC.li (j:=0) rfl
  refine aQ (bz (bN ⟨_,rfl,_,rfl,n,100,rw,w,rfl,l0,aX _,fun H1 s1=>bY ?_⟩))
  dsimp only
  have hB:=hB.same s1
  have hC:=hC.same s1
  have q:=q.of s1
  refine aQ (dE (ig ⟨_,rfl,rfl,_,rfl,?_⟩))
  have no:∀z:Int,z≠0->∀{A B:Prop},A->if (!decide (V.int z=V.int 0))=true then A else B:=by
   intro z hz A B a
   have hd:(!decide (V.int z=V.int 0))=true:=by rw[cu (fun h=>hz (by injection h))];rfl
   rw[hd]
   exact fY a
  have one:∀z:Int,bB H1 Q [.int z]->jH (je (bQ (cK 4) b_)) {nx:=fun x H'=>Q V.aW H',rt:=Q} [some (.ref bk),some (.ref c),some (.int n),some (.ref rw),some (.int z)] H1:=fun z k=>
   a8 (bG (mh rfl (show _/\_ from ⟨ck (by show 1<=100000;decide),fun p fp=>k _ p (ag.bA fp) fp au⟩)))
  unfold w6
  by_cases c1:Wqaraq.strands n=false
  ·rw[af c1]at q
   rw[af c1]
   exact no _ (by decide) (one _ (q.eT hB))
  ·rw[ae c1]at q
   rw[ae c1]
   by_cases c2:100<w.length
   ·rw[af c2]at q
    rw[af c2]
    exact no _ (by decide) (one _ (q.eT hB))
   ·rw[ae c2]at q
    rw[ae c2]
    by_cases c3:Wqaraq.fits n w=false
    ·rw[af c3]at q
     rw[af c3]
     exact no _ (by decide) (one _ (q.eT hB))
    ·rw[ae c3]at q
     rw[ae c3]
     refine dH ?_
     dsimp only [fz]
     have nn:=pW.mp (eq_true_of_ne_false c1)
     have fw:=eq_true_of_ne_false c3
     exact a8 (qC rfl hB hC rfl rfl rfl nn.1 nn.2 (Jt nn.2 nn.1 fw).1 (fun Q' k=>bN ⟨_,rfl,_,rfl,n,rw,w,rfl,nn.1,nn.2,s1 _ _ l0,fw,by omega,k⟩) q)
def Jv(T:Txt K mg):Sp:=fun vs H Q _=>∃(bk c dx L rw:Addr) (b:Wqaraq.Book) (ws:List V) (o n:Nat) (w:List Int),vs=[.ref bk,.ref c]/\bf T H bk b dx L ws/\Cl T H c 24 [(o:Int),(n:Int)] [(rw,w)]/\cR T H L bk dx Q (Wqaraq.step b (.states o n w))
theorem TH(T:Txt K mg):T.ox.Ok P w base 7 (Jv T):=by
 have S:=Pf
 refine T.ox.F.ok S (by rintro _ _ _ _ ⟨bk,c,dx,L,rw,b,ws,o,n,w,rfl,_⟩;rfl) fun cdv A outer s H vs Q E hr h=>?_
 ·obtain⟨bk,c,dx,L,rw,b,ws,o,n,w,rfl,hB,hC,q⟩:=h
  refine⟨_,(aj (sv 2 S.nd (aM (ay (pv 1)) aq))
   (aj (sv 3 S.nd (aM (ay (pv 1)) aq))
   (aj (bt (a5 eM (pv 2) (aN rfl T.GZ)) (ao (az (aY (ak (aN rfl T.gC))))) bx)
   (aj (sv 4 S.nd (T.tI.c (Jd T) hr (dk (pv 2) (pv 3) (aN rfl T.GV))))
   (aj (bt (a5 nk (pv 4) (aN rfl T.dw)) (ao (az (aY (ak (pv 4))))) bx)
   (aj (sv 4 S.nd (T.kP.c (oU T) hr T.dh (pv 0) (aR (aM (ay (pv 1)) aq) (T.tm.c (Ib T) hr (aR (pv 2) (pv 3))))))
   (aj (bt (a5 nk (pv 4) (aN rfl T.dw)) (ao (az (aY (ak (pv 4))))) bx)
   (ao (az (aC fH (aY (ak (aN rfl T.dw))) (T.vX.c (Sy T) hr (aR (pv 2) (pv 3))))))))))))),?_⟩
  have q:cR T H L bk dx Q (if n<2\/6<n then (b,Wqaraq.just (-1)) else if 10<w.length then (b,Wqaraq.just (-3)) else if Wqaraq.fits n w=false\/16<=o then (b,Wqaraq.just (-1)) else (b.set o (some ⟨n,Wqaraq.formOf n w⟩),Wqaraq.tells (Wqaraq.statesOf n w))):=q
  refine aQ (bz (jA 1 rfl hC rfl rfl (bY ?_)))
  dsimp only
  refine aQ (bz (fU 0 rfl hC rfl rfl (bY ?_)))
  dsimp only
  have l0:=hC.li (j:=0) rfl
  refine aQ (dE (ig ⟨_,rfl,_,_,rfl,rfl,_,rfl,aS (fun c6=>?_) (fun c6=>?_)⟩))
  ·have c6:(6:Int)<(n:Int):=a0 c6
   rw[af (by omega)]at q
   exact a8 (gT (q.eT hB))
  have c6:¬(6:Int)<(n:Int):=a_ c6
  dsimp only [fz]
  refine aQ (bz (bN ⟨_,rfl,_,rfl,n,10,rw,w,rfl,l0,by decide,fun H1 s1=>bY ?_⟩))
  dsimp only
  have hB:=hB.same s1
  have hC:=hC.same s1
  have q:=q.of s1
  have l1:Li H1 rw w:=s1 _ _ l0
  have nrw:=hB.ne l1
  refine aQ (dE (ig ⟨_,rfl,rfl,_,rfl,?_⟩))
  have no:∀z:Int,z≠0->∀{A B:Prop},A->if (!decide (V.int z=V.int 0))=true then A else B:=by
   intro z hz A B a
   have hd:(!decide (V.int z=V.int 0))=true:=by rw[cu (fun h=>hz (by injection h))];rfl
   rw[hd]
   exact fY a
  have one:∀(H1:Hp) (z:Int),bB H1 Q [.int z]->jH (je (bQ (cK 4) b_)) {nx:=fun x H'=>Q V.aW H',rt:=Q} [some (.ref bk),some (.ref c),some (.int n),some (.ref rw),some (.int z)] H1:=fun H1 z k=>
   a8 (bG (mh rfl (show _/\_ from ⟨ck (by show 1<=100000;decide),fun p fp=>k _ p (ag.bA fp) fp au⟩)))
  unfold w6
  by_cases c1:Wqaraq.strands n=false
  ·have:n<2:=by
    refine Nat.not_le.mp fun z=>?_
    rw[pW.mpr ⟨z,by omega⟩]at c1
    cases c1
   rw[af (by omega)]at q
   rw[af c1]
   exact no _ (by decide) (one H1 _ (q.eT hB))
  ·have nn:=pW.mp (eq_true_of_ne_false c1)
   rw[ae (by omega)]at q
   rw[ae c1]
   by_cases c2:10<w.length
   ·rw[af c2]at q
    rw[af c2]
    exact no _ (by decide) (one H1 _ (q.eT hB))
   ·rw[ae c2]at q
    rw[ae c2]
    by_cases c3:Wqaraq.fits n w=false
    ·rw[af (.inl c3)]at q
     rw[af c3]
     exact no _ (by decide) (one H1 _ (q.eT hB))
    ·rw[ae c3]
     refine dH ?_
     dsimp only [fz]
     have fw:=eq_true_of_ne_false c3
     have fs:=Jt nn.2 nn.1 fw
     have sm:=fs.2 (by omega)
     refine aQ (bz (Jg rfl hB hC rfl rfl rfl nn.1 nn.2 fs.1 (fun Q' k=>bN ⟨_,rfl,_,rfl,n,rw,w,rfl,nn.1,nn.2,l1,fw,by omega,k⟩) fun H2 ws2 b2 B2=>bY ?_))
     dsimp only
     refine aQ (dE (ig ⟨_,rfl,rfl,_,rfl,?_⟩))
     have free:∀p,H2 p=none->H1 p=none:=fun p fp=>by
      cases q':H1 p with
      |none=>rfl
      |some u=>
       exfalso
       by_cases e:p=L
       ·rw[e,B2.lst]at fp;cases fp
       ·rw[b2 _ _ q' e]at fp;cases fp
     unfold Wqaraq.lands at B2 ⊢
     by_cases c4:16<=o
     ·rw[af (.inr c4)]at q
      rw[af (show Wqaraq.PLACES<=o from c4)]at B2 ⊢
      refine no (-1) (by decide) (one H2 _ fun H3 a s3 fa e=>?_)
      exact q H3 a ws2 (fun x o e z=>s3 _ _ (b2 _ _ e z)) (B2.same s3) (free a fa) e
     ·rw[ae (fun z=>z.elim c3 c4)]at q
      rw[ae (show ¬Wqaraq.PLACES<=o from c4),ae (show ¬(Wqaraq.large (Wqaraq.Braid.mk n (Wqaraq.formOf n w)).form=true) from by show ¬(Wqaraq.large (Wqaraq.formOf n w)=true);rw[sm];decide)]at B2 ⊢
      refine dH ?_
      dsimp only [fz]
      have sl:(iv (Wqaraq.statesOf n w)).length<=90000:=by
       rw[cQ,Gm fw,aE,cA];omega
      refine a8 (j8 sl (fun H3 Q' s3 k3=>bN ⟨_,rfl,_,rfl,n,rw,w,rfl,nn.1,by omega,s3 _ _ (b2 _ _ l1 nrw),fw,by omega,k3⟩) fun H3 a s3 fa e=>?_)
      exact q H3 a ws2 (fun x o e z=>s3 _ _ (b2 _ _ e z)) (B2.same s3) (free a fa) e
inductive iz(T:Txt K mg):Addr->Sp->Prop where
 |TJ:iz T T.oa.f (Ju T)
 |TK:iz T T.og.f (Jh T)
 |TM:iz T T.oh.f (Jk T)
 |TN:iz T T.oi.f (Jo T)
 |TQ:iz T T.oj.f (Ji T)
 |TR:iz T T.om.f (Jl T)
 |TU:iz T T.oo.f (Jp T)
 |starts_:iz T T.oq.f (Jj T)
 |TV:iz T T.ot.f (Jq T)
 |TX:iz T T.ou.f (Jm T)
 |TY:iz T T.ow.f (Jn T)
 |TZ:iz T T.ox.f (Jv T)
theorem T1(T:Txt K mg){A:Around}(hr:cy 7 A):zU P w K mg base A (iz T):=by
 refine⟨fun f sp h=>?_⟩
 cases h
 ·exact⟨_,_,_,TF T,hr.mono (by decide),T.oa.b,T.oa.F.kp⟩
 ·exact⟨_,_,_,Tg T,hr.mono (by decide),T.og.b,T.og.F.kp⟩
 ·exact⟨_,_,_,Tq T,hr.mono (by decide),T.oh.b,T.oh.F.kp⟩
 ·exact⟨_,_,_,Tw T,hr.mono (by decide),T.oi.b,T.oi.F.kp⟩
 ·exact⟨_,_,_,Tj T,hr.mono (by decide),T.oj.b,T.oj.F.kp⟩
 ·exact⟨_,_,_,Ts T,hr.mono (by decide),T.om.b,T.om.F.kp⟩
 ·exact⟨_,_,_,Tx T,hr.mono (by decide),T.oo.b,T.oo.F.kp⟩
 ·exact⟨_,_,_,Tn T,hr.mono (by decide),T.oq.b,T.oq.F.kp⟩
 ·exact⟨_,_,_,Tz T,hr.mono (by decide),T.ot.b,T.ot.F.kp⟩
 ·exact⟨_,_,_,Tt T,hr.mono (by decide),T.ou.b,T.ou.F.kp⟩
 ·exact⟨_,_,_,Tu T,hr.mono (by decide),T.ow.b,T.ow.F.kp⟩
 ·exact⟨_,_,_,TH T,hr.mono (by decide),T.ox.b,T.ox.F.kp⟩
theorem dN{n:Int}(h:WqaraqNeutral.natural n=true):∃m:Nat,n=(m:Int):=⟨n.toNat,by have:=uc h;omega⟩
def T2(T:Txt K mg):Sp:=fun vs H Q _=>∃(bk c dx L:Addr) (b:Wqaraq.Book) (ws:List V) (k:Int) (ns:List Int) (rws:dF),vs=[.ref bk,.ref c]/\bf T H bk b dx L ws/\Cl T H c k ns rws/\13<=k/\WqaraqNeutral.asked1 ((k::ns)::rws.map (·.2))=true/\
 ∀(H':Hp) (a:Addr) (ws':List V),bq L H H'->bf T H' bk (WqaraqNeutral.step b ((k::ns)::rws.map (·.2))).1 dx L ws'->H a=none->H' a=some (.lst (iv (WqaraqNeutral.step b ((k::ns)::rws.map (·.2))).2))->Q (.ref a) H'
theorem T3{T:Txt K mg}{H:Hp}{Q:VK}{bk c dx L:Addr}{b:Wqaraq.Book}{ws:List V}{k:Int}{ns:List Int}{rws:dF}(hB:bf T H bk b dx L ws)(hC:Cl T H c k ns rws)(hk:13<=k)(ha:WqaraqNeutral.asked1 ((k::ns)::rws.map (·.2))=true)
  (q:∀(H':Hp) (a:Addr) (ws':List V),bq L H H'->bf T H' bk (WqaraqNeutral.step b ((k::ns)::rws.map (·.2))).1 dx L ws'->H a=none->H' a=some (.lst (iv (WqaraqNeutral.step b ((k::ns)::rws.map (·.2))).2))->Q (.ref a) H'):
  ∃f sp,T.gR k=some (.ref f)/\iz T f sp/\sp [.ref bk,.ref c] H Q E0:=by
 unfold WqaraqNeutral.asked1 at ha
 split at ha
 all_goals try (rename_i he;injection he with h1 h2;injection h1 with h1 h3;omega)
 ·rename_i he
  injection he with h1 h2;injection h1 with h1 h3;subst h1 h3
  rw[h2]at q
  obtain⟨rw,rfl⟩:=mi h2
  rw[br,br]at ha
  obtain⟨m0,rfl⟩:=dN ha.1
  obtain⟨m1,rfl⟩:=dN ha.2.1
  exact⟨_,_,T.Hj,.TJ,bk,c,dx,L,rw,b,ws,_,_,_,rfl,hB,hC,q⟩
 ·rename_i he
  injection he with h1 h2;injection h1 with h1 h3;subst h1 h3
  rw[h2]at q
  have e:=j9 h2
  subst e
  rw[br,br]at ha
  obtain⟨m0,rfl⟩:=dN ha.1
  obtain⟨m1,rfl⟩:=dN ha.2.1
  obtain⟨m2,rfl⟩:=dN ha.2.2
  exact⟨_,_,T.Hk,.TK,bk,c,dx,L,b,ws,_,_,_,rfl,hB,hC,q⟩
 ·rename_i he
  injection he with h1 h2;injection h1 with h1 h3;subst h1 h3
  rw[h2]at q
  have e:=j9 h2
  subst e
  rw[br]at ha
  obtain⟨m0,rfl⟩:=dN ha.1
  obtain⟨m1,rfl⟩:=dN ha.2
  exact⟨_,_,T.Hl,.TM,bk,c,dx,L,b,ws,_,_,rfl,hB,hC,q⟩
 ·rename_i he
  injection he with h1 h2;injection h1 with h1 h3;subst h1 h3
  rw[h2]at q
  have e:=j9 h2
  subst e
  rw[br,br]at ha
  obtain⟨m0,rfl⟩:=dN ha.1
  obtain⟨m1,rfl⟩:=dN ha.2.1
  exact⟨_,_,T.Hm,.TN,bk,c,dx,L,b,ws,_,_,_,rfl,hB,hC,q⟩
 ·rename_i he
  injection he with h1 h2;injection h1 with h1 h3;subst h1 h3
  rw[h2]at q
  have e:=j9 h2
  subst e
  rw[br,br]at ha
  obtain⟨m0,rfl⟩:=dN ha.1
  obtain⟨m1,rfl⟩:=dN ha.2.1
  obtain⟨m2,rfl⟩:=dN ha.2.2
  exact⟨_,_,T.Hn,.TQ,bk,c,dx,L,b,ws,_,_,_,rfl,hB,hC,q⟩
 ·rename_i he
  injection he with h1 h2;injection h1 with h1 h3;subst h1 h3
  rw[h2]at q
  have e:=j9 h2
  subst e
  rw[br,br]at ha
  obtain⟨m0,rfl⟩:=dN ha.1
  obtain⟨m1,rfl⟩:=dN ha.2.1
  obtain⟨m2,rfl⟩:=dN ha.2.2
  exact⟨_,_,T.Ho,.TR,bk,c,dx,L,b,ws,_,_,_,rfl,hB,hC,q⟩
 ·rename_i he
  injection he with h1 h2;injection h1 with h1 h3;subst h1 h3
  rw[h2]at q
  have e:=j9 h2
  subst e
  rw[br]at ha
  obtain⟨m0,rfl⟩:=dN ha.1
  obtain⟨m1,rfl⟩:=dN ha.2
  exact⟨_,_,T.Hq,.TU,bk,c,dx,L,b,ws,_,_,rfl,hB,hC,q⟩
 ·rename_i he
  injection he with h1 h2;injection h1 with h1 h3;subst h1 h3
  rw[h2]at q
  have e:=j9 h2
  subst e
  rw[br]at ha
  obtain⟨m0,rfl⟩:=dN ha.1
  obtain⟨m1,rfl⟩:=dN ha.2
  exact⟨_,_,T.Hr,.starts_,bk,c,dx,L,b,ws,_,_,rfl,hB,hC,q⟩
 ·rename_i he
  injection he with h1 h2;injection h1 with h1 h3;subst h1 h3
  rw[h2]at q
  have e:=j9 h2
  subst e
  obtain⟨m0,rfl⟩:=dN ha
  exact⟨_,_,T.Ht,.TV,bk,c,dx,L,b,ws,_,rfl,hB,hC,q⟩
 ·rename_i he
  injection he with h1 h2;injection h1 with h1 h3;subst h1 h3
  rw[h2]at q
  have e:=j9 h2
  subst e
  obtain⟨m0,rfl⟩:=dN ha
  exact⟨_,_,T.Hu,.TX,bk,c,dx,L,b,ws,_,rfl,hB,hC,q⟩
 ·rename_i he
  injection he with h1 h2;injection h1 with h1 h3;subst h1 h3
  rw[h2]at q
  have e:=j9 h2
  subst e
  obtain⟨m0,rfl⟩:=dN ha
  exact⟨_,_,T.Hv,.TY,bk,c,dx,L,b,ws,_,rfl,hB,hC,q⟩
 ·rename_i he
  injection he with h1 h2;injection h1 with h1 h3;subst h1 h3
  rw[h2]at q
  obtain⟨rw,rfl⟩:=mi h2
  rw[br,br]at ha
  obtain⟨m0,rfl⟩:=dN ha.1
  obtain⟨m1,rfl⟩:=dN ha.2.1
  exact⟨_,_,T.Hw,.TZ,bk,c,dx,L,rw,b,ws,_,_,_,rfl,hB,hC,q⟩
 ·exact absurd ha (by decide)
theorem T4(T:Txt K mg):T.wd.Ok P w base 8 (T2 T):=by
 have S:=Pg
 refine T.wd.F.ok S (by rintro _ _ _ _ ⟨bk,c,dx,L,b,ws,k,ns,rws,rfl,_⟩;rfl) fun cdv A outer s H vs Q E hr h=>?_
 ·obtain⟨bk,c,dx,L,b,ws,k,ns,rws,rfl,hB,hC,hk,ha,q⟩:=h
  obtain⟨f,sp,e1,e2,e3⟩:=T3 hB hC hk ha q
  have FT:=T1 (P:=P) (w:=w) (base:=base) T hr
  refine⟨_,(aj (sv 2 S.nd (zT rfl T.G4 (ay (pv 1))))
   (ao (az (GJ (i:=2) FT nz rfl (Or.inl rfl) (aR (pv 0) (pv 1)))))),?_⟩
  obtain⟨d2,a,b2,h⟩:=hC
  refine aQ (bz ⟨_,rfl,c,_,d2,_,_,rfl,h.ins,T.kL,T.sV,Cz _ _ _,k,_,rfl,e1,bY ?_⟩)
  exact⟨f,sp,rfl,e2,_,rfl,_,rfl,e3⟩
def fh(p:Addr)(i:Nat):List (Str×V):=b0 "at" (.int (i:Nat)) (b0 "calls" (.ref p) [])
theorem CI(p:Addr)(i:Nat):(fh p i).lookup ("calls":Str)=some (.ref p):=by
 unfold fh;rw[cO,ae (by decide),cO,af rfl]
theorem qD(p:Addr)(i:Nat):(fh p i).lookup ("at":Str)=some (.int (i:Nat)):=by
 unfold fh;rw[cO,af rfl]
theorem qE{p:Addr}{i:Nat}{x:Str}(h1:¬x=("at":Str))(h2:¬x=("calls":Str)):(fh p i).lookup x=none:=by
 unfold fh;rw[cO,ae h1,cO,ae h2];rfl
theorem Jw(p:Addr)(i:Nat):fh p i=[(("calls":Str),.ref p),(("at":Str),.int (i:Nat))]:=by
 unfold fh
 show b0 "at" (.int (i:Nat)) [(("calls":Str),.ref p)]=_
 unfold b0
 rw[ae (by decide)];rfl
theorem Jx(p:Addr)(i j:Nat):b0 "at" (.int (j:Nat)) (fh p i)=fh p j:=by
 rw[Jw,Jw]
 unfold b0
 rw[ae (by decide)]
 unfold b0
 rw[af rfl]
structure eU(T:Txt K mg)(H:Hp)(r dx p:Addr)(l:List Int)(i:Nat):Prop where
 ins:H r=some (.ins T.e8 dx (fh p i))
 seq:ai K H p (iv l)
 ne:p≠r\/∀H,ai K H p (iv l)
theorem mY{K:PySem.W.Frag}{H H':Hp}{r p:Addr}{xs:List V}(s:bq r H H')(h:ai K H p xs)(ne:p≠r\/∀H,ai K H p xs):ai K H' p xs:=by
 rcases ne with ne|z
 rotate_left
 ·exact z H'
 rcases h with (h|⟨o,h⟩)|h
 ·exact .inl (.inl (s _ _ h ne))
 ·exact .inl (.inr ⟨o,s _ _ h ne⟩)
 ·exact .inr h
theorem w8{K:PySem.W.Frag}{H:Hp}{r p:Addr}{xs:List V}(h:ai K H p xs)(n:H r=none):p≠r\/∀H,ai K H p xs:=by
 rcases h with (h|⟨o,h⟩)|h
 ·exact .inl (a7 h n)
 ·exact .inl (a7 h n)
 ·exact .inr fun _=>.inr h
def T5(T:Txt K mg):Sp:=fun vs H Q _=>∃(r dx p:Addr),vs=[.ref r,.ref p]/\H r=some (.ins T.e8 dx [])/\∀H':Hp,bq r H H'->H' r=some (.ins T.e8 dx (fh p 0))->Q .aW H'
theorem T6(T:Txt K mg):T.wk.Ok mg P w base 1 (T5 T):=by
 have S:=PR
 refine T.wk.F.ok S (by rintro _ _ _ _ ⟨r,dx,p,rfl,_⟩;rfl) fun cdv A outer s H vs Q E hr h=>?_
 ·obtain⟨r,dx,p,rfl,hr0,q⟩:=h
  refine⟨_,(aj (gV (pv 0) (pv 1) rfl)
   (ao (gV (pv 0) aq rfl))),?_⟩
  refine⟨_,rfl,_,rfl,r,_,dx,_,rfl,hr0,T.e9,T.sW,(by show 0<1000;decide),?_⟩
  refine⟨_,rfl,r,_,dx,_,rfl,au,T.e9,T.lY,(by show 1<1000;decide),?_⟩
  refine q _ (fun b o e hb=>by rw[ax hb,ax hb];exact e) ?_
  rw[au];rfl
def T7(T:Txt K mg):Sp:=fun vs H Q _=>∃(r dx p:Addr) (l:List Int) (i:Nat),vs=[.ref r]/\eU T H r dx p l i/\Val H Q (.bl (decide (l.length<=i)))
theorem T8(T:Txt K mg):T.wm.Ok mg P w base 1 (T7 T):=by
 have S:=PU
 refine T.wm.F.ok S (by rintro _ _ _ _ ⟨r,dx,p,l,i,rfl,_⟩;rfl) fun cdv A outer s H vs Q E hr h=>?_
 ·obtain⟨r,dx,p,l,i,rfl,h,q⟩:=h
  refine⟨_,(ao (az (jz xG (ay (pv 0)) (c5 T.cW (ay (pv 0)))))),?_⟩
  refine⟨_,rfl,r,_,dx,_,_,rfl,h.ins,T.e9,T.lY,qD _ _,_,rfl,r,_,dx,_,_,rfl,h.ins,T.e9,T.sW,CI _ _,p,_,rfl,.inl h.seq,_,_,rfl,rfl,?_⟩
  rw[cQ]
  exact h_ (q H (ag.refl _)) (gu.mpr (by omega))
def T9(T:Txt K mg):Sp:=fun vs H Q _=>∃(r dx p:Addr) (l:List Int) (i:Nat) (z:Int),vs=[.ref r]/\eU T H r dx p l i/\l[i]?=some z/\∀H':Hp,bq r H H'->eU T H' r dx p l (i+1)->Q (.int z) H'
theorem Jy(T:Txt K mg):T.tM.Ok mg P w base 1 (T9 T):=by
 have S:=PV
 refine T.tM.F.ok S (by rintro _ _ _ _ ⟨r,dx,p,l,i,z,rfl,_⟩;rfl) fun cdv A outer s H vs Q E hr h=>?_
 ·obtain⟨r,dx,p,l,i,z,rfl,h,hz,q⟩:=h
  refine⟨_,(aj (sv 1 S.nd (aM (ay (pv 0)) (ay (pv 0))))
   (aj (gV (pv 0) (aC bZ (ay (pv 0)) aq) rfl)
   (ao (az (pv 1))))),?_⟩
  refine⟨_,rfl,r,_,dx,_,_,rfl,h.ins,T.e9,T.sW,CI _ _,_,rfl,r,_,dx,_,_,rfl,h.ins,T.e9,T.lY,qD _ _,p,_,_,_,rfl,rfl,h.seq,BV rfl hz,?_⟩
  refine⟨_,rfl,r,_,dx,_,_,rfl,h.ins,T.e9,T.lY,qD _ _,_,_,rfl,rfl,_,rfl,r,_,dx,_,rfl,h.ins,T.e9,T.lY,(by show 2<1000;decide),?_⟩
  refine⟨_,rfl,?_⟩
  have b:bq r H (upd H r (.ins T.e8 dx (b0 "at" (.int ((i:Int)+1)) (fh p i)))):=fun c o e n=>(ax n).trans e
  refine q _ b ⟨?_,mY b h.seq h.ne,h.ne⟩
  rw[au]
  show some (HO.ins T.e8 dx (b0 "at" (V.int ((i:Int)+1)) (fh p i)))=_
  rw[show (i:Int)+1=((i+1:Nat):Int) by omega,Jx]
def T_(T:Txt K mg):Sp:=fun vs H Q _=>∃(r dx p:Addr) (l:List Int) (i m:Nat),vs=[.ref r,.int m]/\eU T H r dx p l i/\∀(H':Hp) (a:Addr),bq r H H'->eU T H' r dx p l (i+m)->H a=none->Li H' a ((l.drop i).take m)->Q (.ref a) H'
theorem Jz(T:Txt K mg):T.tN.Ok mg P w base 1 (T_ T):=by
 have S:=PX
 refine T.tN.F.ok S (by rintro _ _ _ _ ⟨r,dx,p,l,i,m,rfl,_⟩;rfl) fun cdv A outer s H vs Q E hr h=>?_
 ·obtain⟨r,dx,p,l,i,m,rfl,h,q⟩:=h
  refine⟨_,(aj (sv 2 S.nd (ay (pv 0)))
   (aj (gV (pv 0) (aC bZ (pv 2) (pv 1)) rfl)
   (ao (az (jO jQ (ay (pv 0)) (iK (pv 2)) (iK (ay (pv 0)))))))),?_⟩
  refine⟨_,rfl,r,_,dx,_,_,rfl,h.ins,T.e9,T.lY,qD _ _,?_⟩
  refine⟨_,rfl,_,rfl,_,_,rfl,rfl,_,rfl,r,_,dx,_,rfl,h.ins,T.e9,T.lY,(by show 2<1000;decide),?_⟩
  have b:bq r H (upd H r (.ins T.e8 dx (b0 "at" (.int ((i:Int)+(m:Int))) (fh p i)))):=fun c o e n=>(ax n).trans e
  have hr1:upd H r (.ins T.e8 dx (b0 "at" (.int ((i:Int)+(m:Int))) (fh p i))) r=some (.ins T.e8 dx (fh p (i+m))):=by
   rw[au,show (i:Int)+(m:Int)=((i+m:Nat):Int) by omega,Jx]
  have s1:=mY b h.seq h.ne
  refine⟨_,rfl,r,_,dx,_,_,rfl,hr1,T.e9,T.sW,CI _ _,_,rfl,_,rfl,_,rfl,r,_,dx,_,_,rfl,hr1,T.e9,T.lY,qD _ _,_,rfl,p,_,rfl,s1,fun a fa=>?_⟩
  have na:H a=none:=by
   by_cases e:a=r
   ·rw[e,au]at fa;cases fa
   ·rwa[ax e]at fa
  have b2:bq r H (upd (upd H r (.ins T.e8 dx (b0 "at" (.int ((i:Int)+(m:Int))) (fh p i)))) a (.lst (cU (iv l) (some (i:Int)) (some ((i+m:Nat):Int))))):=fun c o e n=>(ax (a7 e na)).trans (b _ _ e n)
  refine q _ a b2 ⟨(ax (fun e=>by rw[<-e,hr1]at fa;cases fa)).trans hr1,mY b2 h.seq h.ne,h.ne⟩ na ?_
  show _=some (HO.lst _)
  rw[au,HB i (i+m) rfl rfl,<-HE,<-HD,List.drop_take,show i+m - i=m by omega]
def Ua(T:Txt K mg):Sp:=fun vs H Q _=>∃(c dx a b:Addr) (k:Int),vs=[.ref c,.int k,.ref a,.ref b]/\H c=some (.ins T.kK dx [])/\∀H':Hp,bq c H H'->H' c=some (.ins T.kK dx (mW k a b))->Q .aW H'
theorem Ub(T:Txt K mg):T.wj.Ok mg P w base 1 (Ua T):=by
 have S:=PQ
 refine T.wj.F.ok S (by rintro _ _ _ _ ⟨c,dx,a,b,k,rfl,_⟩;rfl) fun cdv A outer s H vs Q E hr h=>?_
 ·obtain⟨c,dx,a,b,k,rfl,hc,q⟩:=h
  refine⟨_,(aj (gV (pv 0) (pv 1) rfl)
   (aj (gV (pv 0) (pv 2) rfl)
   (ao (gV (pv 0) (pv 3) rfl)))),?_⟩
  refine⟨_,rfl,_,rfl,c,_,dx,_,rfl,hc,T.kL,T.sV,(by show 0<1000;decide),?_⟩
  refine⟨_,rfl,_,rfl,c,_,dx,_,rfl,au,T.kL,T.BU,(by show 1<1000;decide),?_⟩
  refine⟨_,rfl,_,rfl,c,_,dx,_,rfl,au,T.kL,T.vF,(by show 2<1000;decide),?_⟩
  refine q _ (fun b o e hb=>by rw[ax hb,ax hb,ax hb];exact e) ?_
  rw[au];rfl
theorem Uc{k:Nat}{l:List Int}{xs:List (List Int)}{t:List Int}(h:PyFlat.rows (k+1) l=some (xs,t)):∃(m:Nat) (r:List Int) (ys:List (List Int)),l=(m:Int)::r/\m<=r.length/\xs=r.take m::ys/\PyFlat.rows k (r.drop m)=some (ys,t):=by
 cases l with
 |nil=>cases h
 |cons z r=>
  unfold PyFlat.rows PyFlat.row at h
  dsimp only at h
  by_cases c:0<=z/\z.toNat<=r.length
  ·rw[af c]at h
   dsimp only at h
   cases q:PyFlat.rows k (r.drop z.toNat) with
   |none=>rw[q]at h;cases h
   |some y=>
    rw[q]at h
    obtain⟨ys,t'⟩:=y
    dsimp only at h
    injection h with h
    injection h with h1 h2
    exact⟨z.toNat,r,ys,by rw[Int.toNat_of_nonneg c.1],c.2,h1.symm,by rw[q,h2]⟩
  ·rw[ae c]at h;cases h
theorem Ud{l:List Int}{cc:List (List Int)}{t:List Int}(h:PyFlat.call PyWqaraq.shape l=some (cc,t)):∃(k:Int) (r:List Int) (n m:Nat) (xs:List (List Int)),l=k::r/\PyWqaraq.shape k=some (n,m)/\n<=r.length/\PyFlat.rows m (r.drop n)=some (xs,t)/\cc=(k::r.take n)::xs:=by
 cases l with
 |nil=>cases h
 |cons k r=>
  unfold PyFlat.call at h
  dsimp only at h
  cases q:PyWqaraq.shape k with
  |none=>rw[q]at h;cases h
  |some y=>
   obtain⟨n,m⟩:=y
   rw[q]at h
   dsimp only at h
   by_cases c:r.length<n
   ·rw[af c]at h;cases h
   ·rw[ae c]at h
    cases q2:PyFlat.rows m (r.drop n) with
    |none=>rw[q2]at h;cases h
    |some z=>
     obtain⟨xs,t'⟩:=z
     rw[q2]at h
     dsimp only at h
     injection h with h
     injection h with h1 h2
     exact⟨k,r,n,m,xs,rfl,q,Nat.not_lt.mp c,by rw[q2,h2],h1.symm⟩
theorem Ue{c:Prop}[Decidable c]{α:Type}{a b:Option α}{x:α}{P:Prop}(h:(if c then a else b)=some x)(h1:a=some x->P)(h2:b=some x->P):P:=by
 by_cases e:c
 ·rw[af e]at h;exact h1 h
 ·rw[ae e]at h;exact h2 h
theorem Ug{k:Int}{n m:Nat}(h:PyWqaraq.shape k=some (n,m)):n<=3/\m<=2:=by
 unfold PyWqaraq.shape at h
 iterate 24 (refine Ue h (fun h=>by injection h with h;injection h with h1 h2;omega) ?_;clear h;intro h)
 cases h
theorem drop_cons{l r:List Int}{z:Int}{i:Nat}(h:l.drop i=z::r):l[i]?=some z/\l.drop (i+1)=r:=by
 refine⟨?_,?_⟩
 ·have:=List.getElem?_drop (xs:=l) (i:=i) (j:=0)
  rw[h]at this
  exact this.symm
 ·have:=List.drop_drop (l:=l) (i:=1) (j:=i)
  rw[h]at this
  exact this.symm
def Uh(T:Txt K mg):Sp:=fun vs H Q _=>∃(r dx p:Addr) (l:List Int) (i:Nat) (cc:List (List Int)) (t:List Int),vs=[.ref r]/\eU T H r dx p l i/\PyFlat.call PyWqaraq.shape (l.drop i)=some (cc,t)/\
 ∀(H':Hp) (c:Addr) (k:Int) (ns:List Int) (rws:dF) (j:Nat),bq r H H'->eU T H' r dx p l j->l.drop j=t->i<j->cc=(k::ns)::rws.map (·.2)->Cl T H' c k ns rws->Q (.ref c) H'
theorem Ui(T:Txt K mg):T.wo.Ok mg P w base 3 (Uh T):=by
 have S:=PY
 refine T.wo.F.ok S (by rintro _ _ _ _ ⟨r,dx,p,l,i,cc,t,rfl,_⟩;rfl) fun cdv A outer s H vs Q E hr h=>?_
 ·obtain⟨r,dx,p,l,i,cc,t,rfl,h,hc,q⟩:=h
  obtain⟨k,l1,n,m,xs,e1,e2,e3,e4,e5⟩:=Ud hc
  obtain⟨g1,g2⟩:=drop_cons e1
  obtain⟨n3,m2⟩:=Ug e2
  obtain⟨tp,hsel,hseq⟩:=T.shapes k n m e2
  refine⟨_,(aj (sv 1 S.nd (T.tM.c0 (Jy T) hr T.e9 (pv 0)))
   (aj (sv 2 S.nd (zT rfl T.G2 (pv 1)))
   (aj (sv 3 S.nd (T.tN.c (Jz T) hr T.e9 (pv 0) (ak (gW DI (pv 2) aq (fun _ _=>rfl)))))
   (aj (sv 4 S.nd (aY gK))
   (aj (jI PassesOwn.never (a5 gw (c5 T.cW (pv 4)) (gW DI (pv 2) aq (fun _ _=>rfl))) (aj (sv 5 S.nd (T.tM.c0 (Jy T) hr T.e9 (pv 0)))
   (ao (dR (j5 (pv 4) (T.tN.c (Jz T) hr T.e9 (pv 0) (ak (pv 5))))))))
   (ao (az (T.wj.c (Ub T) hr T.G6 (dk (pv 1) (pv 3) (pv 4)))))))))),?_⟩
  refine aQ (bz ⟨_,rfl,r,dx,_,rfl,h.ins,qE (by decide) (by decide),r,dx,p,l,i,k,rfl,h,g1,fun H1 b1 h1=>bY ?_⟩)
  dsimp only
  refine aQ (bz ⟨_,rfl,k,_,rfl,hsel,bY ?_⟩)
  dsimp only
  refine aQ (bz ⟨_,rfl,r,dx,_,rfl,h1.ins,qE (by decide) (by decide),_,rfl,tp,_,_,_,rfl,rfl,hseq _,at_of (j:=0) rfl rfl,r,dx,p,l,i+1,n,rfl,h1,fun H2 N b2 h2 fN hN=>bY ?_⟩)
  dsimp only
  rw[g2]at hN
  have b12:=b1.trans b2
  have g3:l.drop (i+1+n)=l1.drop n:=by rw[<-g2,List.drop_drop]
  refine aQ (bz ⟨be _,fun R fR=>bY ?_⟩)
  dsimp only
  have s3:=ag.bA (o:=.lst []) fR
  have npR:=w8 h2.seq fR
  have nNR:N≠R:=a7 hN fR
  have nrR:r≠R:=a7 h2.ins fR
  have nNr:N≠r:=fun e=>by
   have hN:H2 N=_:=hN
   rw[e,h2.ins]at hN;cases hN
  refine aQ (ik (fun σ H'=>∃(v5:Option V) (rws:dF) (j:Nat),σ=[some (.ref r),some (.int k),some (.ref tp),some (.ref N),some (.ref R),v5]/\bq r H H'/\eU T H' r dx p l j/\l.drop j=t/\i<j/\Li H' N (l1.take n)/\H' R=some (.lst (rws.map fun x=>V.ref x.1))/\(∀x,x∈rws->Li H' x.1 x.2)/\rws.map (·.2)=xs) ?_ ?_)
  ·rintro σ H4 ⟨v5,rws,j,rfl,b4,h4,d4,ij,n4,r4,x4,ex⟩
   refine a8 (wN (bG (mh rfl (bG (mh rfl (bG (mh rfl ?_)))))))
   intro c dc nc nd ndc
   refine⟨c,dc,N,R,k,rfl,au,fun H5 b5 hc5=>⟨rfl,?_⟩⟩
   have s5:ag H4 H5:=ag.made nc nd b5
   refine q H5 c k (l1.take n) rws j (fun a o e z=>s5 _ _ (b4 _ _ e z)) ⟨s5 _ _ h4.ins,s5.seq h4.seq,h4.ne⟩ d4 ij (by rw[e5,ex]) ⟨dc,N,R,hc5,s5 _ _ n4,s5 _ _ r4,fun x hx=>s5 _ _ (x4 x hx)⟩
  ·intro fin
   have nR0:∀b o,H b=some o->b≠R:=fun b o e z=>by
    by_cases c:b=r
    ·exact nrR (c.symm.trans z)
    ·have:=b12 _ _ e c
     rw[z,fR]at this;cases this
   refine⟨fun mm σ H'=>∃(v5:Option V) (rws:dF) (j:Nat) (ys:List (List Int)),mm=m - rws.length/\rws.length<=m/\σ=[some (.ref r),some (.int k),some (.ref tp),some (.ref N),some (.ref R),v5]/\bq r H H'/\eU T H' r dx p l j/\i<j/\Li H' N (l1.take n)/\H' R=some (.lst (rws.map fun x=>V.ref x.1))/\(∀x,x∈rws->Li H' x.1 x.2/\x.1≠R)/\PyFlat.rows (m - rws.length) (l.drop j)=some (ys,t)/\rws.map (·.2)++ys=xs,
    ⟨_,none,[],i+1+n,xs,rfl,be _,rfl,fun b o e z=>s3 _ _ (b12 _ _ e z),⟨s3 _ _ h2.ins,s3.seq h2.seq,h2.ne⟩,by omega,s3 _ _ hN,au,fun x hx=>by simp at hx,by rw[g3];exact e4,rfl⟩,?_⟩
   rintro mm σ H4 ⟨v5,rws,j,ys,rfl,hle,rfl,b4,h4,ij,n4,r4,x4,hrows,ex⟩
   refine⟨_,rfl,R,_,rfl,.inl (ai.of r4),_,rfl,tp,_,_,_,rfl,rfl,hseq _,at_of (j:=1) rfl rfl,_,_,rfl,rfl,_,rfl,?_⟩
   rw[aE]
   refine aS (fun c=>?_) (fun c=>?_)
   ·have c:(rws.length:Int)<(m:Int):=a0 c
    obtain⟨m',hm'⟩:∃m',m - rws.length=m'+1:=⟨m - rws.length - 1,by omega⟩
    rw[hm']at hrows
    obtain⟨w,r1,ys1,f1,f2,f3,f4⟩:=Uc hrows
    obtain⟨d1,d2⟩:=drop_cons f1
    refine⟨fun σ' H'=>∃m'',m''<m - rws.length/\∃(v5:Option V) (rws:dF) (j:Nat) (ys:List (List Int)),m''=m - rws.length/\rws.length<=m/\σ'=[some (.ref r),some (.int k),some (.ref tp),some (.ref N),some (.ref R),v5]/\bq r H H'/\eU T H' r dx p l j/\i<j/\Li H' N (l1.take n)/\H' R=some (.lst (rws.map fun x=>V.ref x.1))/\(∀x,x∈rws->Li H' x.1 x.2/\x.1≠R)/\PyFlat.rows (m - rws.length) (l.drop j)=some (ys,t)/\rws.map (·.2)++ys=xs,fun σ' H' h=>h,?_⟩
    refine aQ (bz ⟨_,rfl,r,dx,_,rfl,h4.ins,qE (by decide) (by decide),r,dx,p,l,j,_,rfl,h4,d1,fun H5 b5 h5=>bY ?_⟩)
    dsimp only
    have nr:∀{b:Addr}{xs:List V},H4 b=some (.lst xs)->b≠r:=fun e z=>by rw[z,h4.ins]at e;cases e
    have r5:=b5 _ _ r4 (nr r4)
    refine⟨_,rfl,.inl ⟨rfl,_,ai.of r5⟩,_,rfl,r,dx,_,rfl,h5.ins,qE (by decide) (by decide),_,rfl,r,dx,p,l,j+1,w,rfl,h5,fun H6 a b6 h6 fa la=>?_⟩
    rw[d2]at la
    have b46:=b5.trans b6
    have r6:=b46 _ _ r4 (nr r4)
    have naR:a≠R:=fun e=>by rw[e,r5]at fa;cases fa
    refine⟨R,_,_,rfl,rfl,r6,small (by rw[aE];omega),?_⟩
    have up:∀{b:Addr}{o:HO},H6 b=some o->b≠R->upd H6 R (.lst ((rws.map fun x=>V.ref x.1)++[V.ref a])) b=some o:=fun e z=>(ax z).trans e
    have bR:bq R H6 (upd H6 R (.lst ((rws.map fun x=>V.ref x.1)++[V.ref a]))):=fun b o e z=>up e z
    refine⟨m',by omega,_,rws++[(a,r1.take w)],j+1+w,ys1,by rw[bF];show m'=m - (rws.length+1);omega,by rw[bF];show rws.length+1<=m;omega,rfl,fun b o e z=>up (b46 _ _ (b4 _ _ e z) z) (nR0 _ _ e),⟨up h6.ins nrR,mY bR h6.seq npR,h6.ne⟩,by omega,up (b46 _ _ n4 (nr n4)) nNR,?_,?_,?_,?_⟩
    ·rw[au,cN];rfl
    ·intro x hx
     rcases dO.mp hx with hx|hx
     ·exact⟨up (b46 _ _ (x4 x hx).1 (nr (x4 x hx).1)) (x4 x hx).2,(x4 x hx).2⟩
     ·rw[gq.mp hx]
      exact⟨up la naR,naR⟩
    ·rw[bF,show m - (rws.length+[(a,r1.take w)].length)=m' by show m - (rws.length+1)=m';omega,<-f4,<-d2,List.drop_drop]
    ·rw[<-ex,f3,cN,dG];rfl
   ·have c:¬(rws.length:Int)<(m:Int):=a_ c
    have e0:m - rws.length=0:=by omega
    rw[e0]at hrows
    unfold PyFlat.rows at hrows
    injection hrows with hrows
    injection hrows with y1 y2
    subst y1
    rw[ft]at ex
    exact fin _ _ ⟨_,rws,j,rfl,b4,h4,y2,ij,n4,r4,fun x hx=>(x4 x hx).1,ex⟩
theorem Uj{k:Int}{ns:List Int}{rows:List (List Int)}{b:Wqaraq.Book}(hk:k<13)(ha:WqaraqNeutral.asked1 ((k::ns)::rows)=true):(WqaraqNeutral.step b ((k::ns)::rows)).1=b:=by
 unfold WqaraqNeutral.asked1 at ha
 split at ha
 all_goals first|(rename_i he;injection he with h1 h2;injection h1 with h1 h3;subst h1 h2 h3;first|rfl|(exfalso;omega))|exact absurd ha (by decide)
def Uk(T:Txt K mg)(H:Hp)(L bk dx:Addr)(Q:VK)(b:Wqaraq.Book)(cc:List (List Int)):Prop:=∀(H':Hp) (a:Addr) (ws':List V),bq L H H'->bf T H' bk (WqaraqNeutral.step b cc).1 dx L ws'->H a=none->H' a=some (.lst (iv (WqaraqNeutral.step b cc).2))->Q (.ref a) H'
def Ul(T:Txt K mg):Sp:=fun vs H Q _=>∃(bk c dx L:Addr) (b:Wqaraq.Book) (ws:List V) (k:Int) (ns:List Int) (rws:dF),vs=[.ref bk,.ref c]/\bf T H bk b dx L ws/\Cl T H c k ns rws/\WqaraqNeutral.asked1 ((k::ns)::rws.map (·.2))=true/\(∀x,x∈rws->x.2.length<=2000)/\Uk T H L bk dx Q b ((k::ns)::rws.map (·.2))
theorem Um(T:Txt K mg):T.wg.Ok P w base 9 (Ul T):=by
 have S:=PB
 refine T.wg.F.ok S (by rintro _ _ _ _ ⟨bk,c,dx,L,b,ws,k,ns,rws,rfl,_⟩;rfl) fun cdv A outer s H vs Q E hr h=>?_
 ·obtain⟨bk,c,dx,L,b,ws,k,ns,rws,rfl,hB,hC,ha,hl,q⟩:=h
  refine⟨_,(aj (bt (a5 gw (ay (pv 1)) (aN rfl T.GS)) (ao (az (T.we.c (S9 T) hr (ak (pv 1))))) bx)
   (ao (az (T.wd.c (T4 T) hr (aR (pv 0) (pv 1)))))),?_⟩
  have hC':=hC
  obtain⟨d2,a,b2,h⟩:=hC'
  refine aQ (dE ⟨_,rfl,c,_,d2,_,_,rfl,h.ins,T.kL,T.sV,Cz _ _ _,_,_,rfl,rfl,_,rfl,aS (fun e=>?_) (fun e=>?_)⟩)
  ·have e:k<13:=a0 e
   refine a8 (bN ⟨_,rfl,c,k,ns,rws,b,rfl,hC,e,ha,hl,fun H' r s fr hr'=>?_⟩)
   exact q H' r ws (ag.but s) (by rw[Uj e ha];exact hB.same s) fr hr'
  ·have e:¬k<13:=a_ e
   dsimp only [fz]
   exact a8 (bN ⟨_,rfl,_,rfl,bk,c,dx,L,b,ws,k,ns,rws,rfl,hB,hC,by omega,ha,q⟩)
def Uo:HO->Prop
 |.lst _=>True
 |.ins _ _ fs=>fs.lookup ("at":Str)=none
 |_=>False
def Sm(H H':Hp):Prop:=∀b o,H b=some o->Uo o->H' b=some o
theorem Bd.sm{T:Txt K mg}{H H':Hp}{b:Addr}{n:Nat}{F:Form}(h:Bd T H b n F)(s:Sm H H'):Bd T H' b n F:=by
 obtain⟨dx,L,rs,i,f⟩:=h
 refine⟨dx,L,rs,s _ _ i ?_,s _ _ f.lst trivial,f.aI.imp fun r g hr l=>s _ _ l trivial⟩
 show (j7 n F.twists L).lookup ("at":Str)=none
 unfold j7;rw[cO,ae (by decide),cO,ae (by decide),cO,ae (by decide)];rfl
theorem bf.sm{T:Txt K mg}{H H':Hp}{p dx L:Addr}{b:Wqaraq.Book}{ws:List V}(h:bf T H p b dx L ws)(s:Sm H H'):bf T H' p b dx L ws:=by
 refine⟨s _ _ h.ins (ud (by decide)),s _ _ h.lst trivial,h.len,h.ue,fun i v e=>?_⟩
 have z:=h.slot i v e
 cases q:b.at_ i with
 |none=>rw[q]at z;exact z
 |some x=>rw[q]at z;obtain⟨r,e,b,g⟩:=z;exact⟨r,e,b.sm s,g⟩
theorem eU.sm{T:Txt K mg}{H H':Hp}{r dx p:Addr}{l:List Int}{i:Nat}(h:eU T H r dx p l i)(s:bq r H H'):Sm H H':=fun b o e k=>s _ _ e fun z=>by
 rw[z,h.ins]at e
 injection e with e
 subst e
 have k:(fh p i).lookup ("at":Str)=none:=k
 rw[qD]at k;cases k
def hide(g:Addr)(H:Hp):Hp:=fun a=>if a=g then none else H a
theorem hide_ne{g a:Addr}{H:Hp}(h:a≠g):hide g H a=H a:=ae h
theorem Up{g:Addr}{H:Hp}{o:HO}:ag (hide g H) (upd H g o):=fun b u e=>by
 by_cases z:b=g
 ·rw[z]at e;unfold hide at e;rw[af rfl]at e;cases e
 ·rw[hide_ne z]at e;exact(ax z).trans e
theorem w9{g:Addr}{H:Hp}{o:HO}:hide g (upd H g o)=hide g H:=by
 funext a
 by_cases z:a=g
 ·unfold hide;rw[af z,af z]
 ·rw[hide_ne z,hide_ne z,ax z]
theorem Uq{g:Addr}{H:Hp}{o:Obj}{u:HO}(h:H g=some (.cw o u)):Sm H (hide g H):=fun b v e k=>by
 have:b≠g:=fun z=>by rw[z,h]at e;injection e with e;subst e;exact k
 rw[hide_ne this];exact e
theorem Ur(c:List (List Int)):PyWqaraq.whole c=c:=by
 unfold PyWqaraq.whole
 split<;>rfl
theorem Us(cs:List (List (List Int))):cs.map PyWqaraq.whole=cs:=by
 rw[gI (fun c _=>Ur c),List.map_id']
theorem Ut{f:Nat}{l:List Int}{cs:List (List (List Int))}(h:PyFlat.calls PyWqaraq.shape f l=some cs)(hl:l≠[]):∃(f':Nat) (cc:List (List Int)) (t:List Int) (cs':List (List (List Int))),PyFlat.call PyWqaraq.shape l=some (cc,t)/\PyFlat.calls PyWqaraq.shape f' t=some cs'/\cs=cc::cs':=by
 cases l with
 |nil=>exact absurd rfl hl
 |cons p r=>
  cases f with
  |zero=>cases h
  |succ f=>
   unfold PyFlat.calls at h
   cases q:PyFlat.call PyWqaraq.shape (p::r) with
   |none=>rw[q]at h;cases h
   |some y=>
    obtain⟨cc,t⟩:=y
    rw[q]at h
    dsimp only at h
    cases q2:PyFlat.calls PyWqaraq.shape f t with
    |none=>rw[q2]at h;cases h
    |some cs'=>
     rw[q2]at h
     dsimp only at h
     exact⟨f,cc,t,cs',rfl,q2,(bo h).symm⟩
theorem Uu{f:Nat}{cs:List (List (List Int))}(h:PyFlat.calls PyWqaraq.shape f []=some cs):cs=[]:=by
 cases f<;>exact(bo h).symm
def rowsOf(c:List (List Int)):Nat:=((c.drop 1).map List.length).sum
theorem Uv(c:List (List Int))(cs:List (List (List Int))):WqaraqNeutral.rowsLong (c::cs)=rowsOf c+WqaraqNeutral.rowsLong cs:=by
 unfold WqaraqNeutral.rowsLong;rw[dQ,qV];rfl
theorem Uw{l:List Nat}{x:Nat}(h:x∈l):x<=l.sum:=by
 induction l with
 |nil=>cases h
 |cons y l ih=>
  rw[qV]
  rcases cj.mp h with e|e
  ·omega
  ·have:=ih e;omega
theorem Ux{a:Wqaraq.Ans}{m:Nat}(h:a.out.length<=m):(WqaraqNeutral.numbers a).length<=m+1:=by
 unfold WqaraqNeutral.numbers;rw[bP];omega
theorem kT{n m:Nat}{l:List Perm}{f:Unit->Wqaraq.Ans}(h:(f ()).out.length<=m):(Wqaraq.ofPerms n l f).out.length<=m:=by
 unfold Wqaraq.ofPerms
 split
 ·exact h
 ·exact be _
theorem mZ(f:Nat->Nat):(Wqaraq.permAns (Wqaraq.made f)).out.length<=5000:=by
 show (Wqaraq.ints (Wqaraq.made f)).length<=5000
 unfold Wqaraq.ints Wqaraq.made
 rw[aE,aE,cA];decide
theorem qF{b:Wqaraq.Book}{o m:Nat}{x:Wqaraq.Braid}:(Wqaraq.lands b o x).2.out.length<=m:=by
 unfold Wqaraq.lands
 split
 ·exact be _
 ·split<;>exact be _
theorem kU{b:Wqaraq.Book}{k m:Nat}{f:Wqaraq.Braid->Wqaraq.Book×Wqaraq.Ans}(h:∀x,b.at_ k=some x->(f x).2.out.length<=m):(Wqaraq.ofBraid b k f).2.out.length<=m:=by
 unfold Wqaraq.ofBraid
 cases q:b.at_ k with
 |none=>exact be _
 |some x=>exact h x q
theorem CJ{b:Wqaraq.Book}{i j m:Nat}{f:Wqaraq.Braid->Wqaraq.Braid->Wqaraq.Book×Wqaraq.Ans}(h:∀x y,(f x y).2.out.length<=m):(Wqaraq.sameStrands b i j f).2.out.length<=m:=by
 unfold Wqaraq.sameStrands Wqaraq.ofTwo
 refine kU fun x _=>kU fun y _=>?_
 dsimp only
 split
 ·exact be _
 ·exact h x y
theorem JA:∀(f:Nat) (a:Perm),(Wqaraq.rowFrom f a).length<=f
 |0,_=>aX _
 |f+1,a=>by
  unfold Wqaraq.rowFrom
  split
  ·exact be _
  ·rw[bP];exact Nat.succ_le_succ (JA f _)
theorem JB{n:Nat}:∀(l:List Perm),(∀a,a∈l->a.length<=n)->(l.flatMap fun a=>Wqaraq.ints a).length<=n * l.length
 |[],_=>be _
 |a::l,h=>by
  rw[List.flatMap_cons,bF,bP,Nat.mul_succ]
  have h1:(Wqaraq.ints a).length<=n:=by unfold Wqaraq.ints;rw[aE];exact h a (bE ..)
  have:=JB l fun x hx=>h x (bH _ hx)
  omega
theorem Uy{x:Wqaraq.Braid}(g:Good x):(x.form.factors.flatMap fun (a:Perm)=>Wqaraq.ints (a.take x.n)).length<=960:=by
 have h:(x.form.factors.flatMap fun (a:Perm)=>Wqaraq.ints (a.take x.n))=(x.form.factors.map fun (a:Perm)=>a.take x.n).flatMap fun a=>Wqaraq.ints a:=by
  rw[List.flatMap_map]
 rw[h]
 have:=JB (n:=16) (x.form.factors.map fun (a:Perm)=>a.take x.n) fun a ha=>by
  obtain⟨c,_,rfl⟩:=bW.mp ha
  rw[dz]
  have:=g.most
  omega
 rw[aE]at this
 have:=g.lt.1
 omega
theorem Uz{b:Wqaraq.Book}(g:∀i x,b.at_ i=some x->Good x)(c:Wqaraq.Call):(Wqaraq.step b c).2.out.length<=5000:=by
 cases c with
 |then_ x y=>exact kT (mZ _)
 |back x=>exact kT (mZ _)
 |rest n x=>exact kT (mZ _)
 |turned n x=>exact kT (mZ _)
 |facts x=>exact kT (by show 3<=5000;decide)
 |begins x y=>exact kT (be _)
 |meet x y=>exact kT (mZ _)
 |join x y=>exact kT (mZ _)
 |number n x=>exact kT (by show 1<=5000;decide)
 |numbered i n=>
  show (if Wqaraq.strands n=false then Wqaraq.just (-1) else Wqaraq.permAns (Wqaraq.numbered i n)).out.length<=5000
  split
  ·exact be _
  ·exact mZ _
 |word x=>exact kT (by show (Wqaraq.rowFrom 120 x).length<=5000;exact cz (JA 120 x) (by decide))
 |follow w=>
  show (if Wqaraq.LONG<w.length then Wqaraq.just (-3) else Wqaraq.permAns (Wqaraq.follow w)).out.length<=5000
  split
  ·exact be _
  ·exact mZ _
 |set o n w=>
  unfold Wqaraq.step
  dsimp only
  split
  ·exact be _
  ·split
   ·exact be _
   ·split
    ·exact be _
    ·exact qF
 |times o i j=>exact CJ fun x y=>qF
 |inverse o i=>exact kU fun x _=>qF
 |power o i e=>
  refine kU fun x _=>?_
  split
  ·exact be _
  ·exact qF
 |greatest o i j=>exact CJ fun x y=>qF
 |cycle o i l=>exact kU fun x _=>qF
 |order i j=>exact kU fun x _=>kU fun y _=>by show 1<=5000;decide
 |starts_ i j=>exact CJ fun x y=>be _
 |form i=>
  refine kU fun x hx=>?_
  have:=Uy (g i x hx)
  show (_::_::_:List Int).length<=5000
  rw[bP,bP];omega
 |row i=>
  refine kU fun x hx=>?_
  dsimp only
  split
  ·exact be _
  ·rename_i c;exact Nat.not_lt.mp c
 |told i=>
  refine kU fun x hx=>?_
  show (_++_:List Int).length<=5000
  rw[bF]
  unfold Wqaraq.ints Wqaraq.follow Wqaraq.made
  rw[aE,dz,aE,cA]
  show 2+min x.n 16<=5000
  omega
 |states o n w=>
  unfold Wqaraq.step
  dsimp only
  split
  ·exact be _
  ·split
   ·exact be _
   ·rename_i c
    have c:¬10<w.length:=c
    split
    ·exact be _
    ·show (Wqaraq.statesOf n w).length<=5000
     unfold Wqaraq.statesOf Wqaraq.exponents
     dsimp only
     rw[aE,aE,cA]
     omega
theorem UA{b:Wqaraq.Book}(g:∀i x,b.at_ i=some x->Good x)(c:List (List Int)):(WqaraqNeutral.step b c).2.length<=6000:=by
 unfold WqaraqNeutral.step
 cases q:WqaraqNeutral.callOf c with
 |none=>exact be _
 |some x=>exact cz (Ux (Uz g x)) (by decide)
theorem bf.good{T:Txt K mg}{H:Hp}{p dx L:Addr}{b:Wqaraq.Book}{ws:List V}(h:bf T H p b dx L ws):∀i x,b.at_ i=some x->Good x:=fun i x e=>by
 by_cases hi:i<16
 ·obtain⟨v,_,s⟩:=h.get hi
  rw[e]at s
  obtain⟨r,_,_,g⟩:=s
  exact g
 ·rw[h.Jb (Nat.not_lt.mp hi)]at e;cases e
theorem UB{g:Addr}{H H':Hp}(s:ag H H'):ag (hide g H) (hide g H'):=fun b u e=>by
 by_cases z:b=g
 ·rw[z]at e;unfold hide at e;rw[af rfl]at e;cases e
 ·rw[hide_ne z]at e ⊢;exact s _ _ e
theorem UC{g:Addr}{H:Hp}(h:H g=none):ag H (hide g H):=fun b u e=>by
 rw[hide_ne (a7 e h)];exact e
theorem UD{l:List Int}(h:PyWqaraq.answers_asked l=true):∃cs,PyFlat.calls PyWqaraq.shape l.length l=some cs/\PyWqaraq.answers l=PyFlat.told (PyFlat.played WqaraqNeutral.step WqaraqNeutral.start cs)/\cs.all WqaraqNeutral.asked1=true/\WqaraqNeutral.rowsLong cs<=2000/\cs.length<=60:=by
 unfold PyWqaraq.answers_asked PyWqaraq.calls at h
 unfold PyWqaraq.answers PyWqaraq.calls
 cases q:PyFlat.calls PyWqaraq.shape l.length l with
 |none=>rw[q]at h;cases h
 |some cs=>
  rw[q]at h
  dsimp only at h ⊢
  rw[Us]at h ⊢
  rw[br]at h
  have h2:=h.2
  unfold WqaraqNeutral.asked at h2
  rw[br,br,br]at h2
  exact⟨cs,rfl,rfl,h2.1,a0 h2.2.2.2,a0 h2.2.2.1⟩
def CL(K:PySem.W.Frag):Sp:=fun vs H Q _=>∃(p:Addr) (l:List Int),vs=[.ref p]/\ai K H p (iv l)/\PyWqaraq.answers_asked l=true/\∀(H':Hp) (r:Addr),H' r=some (.lst (iv (PyWqaraq.answers l)))->Q (.ref r) H'
abbrev UE(_:Txt K mg):Sp:=CL K
theorem UG(i:Nat):Wqaraq.Book.at_ WqaraqNeutral.start i=none:=by
 unfold Wqaraq.Book.at_ WqaraqNeutral.start Wqaraq.start
 rw[List.getElem?_replicate]
 split<;>rfl
theorem UH(a:List Int)(r:List (List Int)):PyFlat.told (a::r)=((a.length:Int)::a)++PyFlat.told r:=by
 unfold PyFlat.told;rw[List.flatMap_cons]
theorem UI(T:Txt K mg):T.answers.Ok P w base 10 (UE T):=by
 have S:=PD
 refine T.answers.F.ok S (by rintro _ _ _ _ ⟨p,l,rfl,_⟩;rfl) fun cdv A outer s H vs Q E hr h=>?_
 ·obtain⟨p,l,rfl,hp,ha,q⟩:=h
  obtain⟨cs,hcs,hans,hall,hrows,hlen⟩:=UD ha
  rw[hans]at q
  refine⟨_,(aj (sv 1 S.nd (T.wk.c (T6 T) hr T.G7 (ak (pv 0))))
   (aj (sv 2 S.nd (KR T.tJ.GL (Ta T) (hr.mono (by decide)) rfl T.G5 T.tJ.b .nil nz))
   (aj (sv 3 S.nd (aY gK))
   (aj (jI PassesOwn.never (dX (cq (T.wm.c0 (T8 T) hr T.e9 (pv 1)))) (aj (sv 4 S.nd (LR (T.wg.c (Um T) hr (aR (pv 2) (T.wo.c0 (Ui T) hr T.e9 (pv 1))))))
   (aj (dR (j5 (pv 3) (c5 T.cW (pv 4))))
   (ao (dR (Cc (pv 3) (pv 4)))))))
   (ao (az (pv 3))))))),?_⟩
  refine aQ (bz (wN (bG (mh rfl ?_))))
  intro r dr nr nd nrd
  refine⟨r,dr,p,rfl,au,fun H1 b1 h1=>⟨rfl,bY ?_⟩⟩
  dsimp only
  have s1:ag H H1:=ag.made nr nd b1
  have R1:eU T H1 r dr p l 0:=⟨h1,s1.seq hp,w8 hp nr⟩
  refine aQ (bz (wN ?_))
  intro bk db nb nbd nbb
  refine⟨bk,db,rfl,au,fun H2 L b2 fL hb2 hL2=>⟨rfl,bY ?_⟩⟩
  dsimp only
  have s2:ag H1 H2:=ag.made nb nbd b2
  have fL1:H1 L=none:=by
   by_cases e:L=bk
   ·rw[e,au]at fL;cases fL
   ·rw[ax e]at fL
    by_cases e2:L=db
    ·rw[e2,au]at fL;cases fL
    ·rwa[ax e2]at fL
  have npL:=w8 R1.seq fL1
  have R2:eU T H2 r dr p l 0:=⟨s2 _ _ R1.ins,s2.seq R1.seq,R1.ne⟩
  have B2:bf T H2 bk WqaraqNeutral.start db L (List.replicate 16 .aW):=⟨hb2,hL2,qJ,rfl,fun i v e=>by
   rw[UG]
   rw[List.getElem?_replicate]at e
   split at e
   ·exact(bo e).symm
   ·cases e⟩
  refine aQ (bz ⟨be _,fun g fg=>bY ?_⟩)
  dsimp only
  have s3:=ag.bA (o:=.lst []) fg
  have npg:=w8 R2.seq fg
  have nrg:r≠g:=a7 R2.ins fg
  refine aQ (ik (fun σ H'=>∃(v4:Option V),σ=[some (.ref p),some (.ref r),some (.ref bk),some (.ref g),v4]/\Li H' g (PyFlat.told (PyFlat.played WqaraqNeutral.step WqaraqNeutral.start cs))) ?_ ?_)
  ·rintro σ H' ⟨v4,rfl,h'⟩
   exact⟨_,rfl,q _ _ h'⟩
  ·intro fin
   refine⟨fun mm σ H'=>∃(v4:Option V) (i f:Nat) (b:Wqaraq.Book) (ws:List V) (out:List Int) (ds:List (List (List Int))),mm=l.length - i/\σ=[some (.ref p),some (.ref r),some (.ref bk),some (.ref g),v4]/\eU T H' r dr p l i/\bf T (hide g H') bk b db L ws/\Li H' g out/\PyFlat.calls PyWqaraq.shape f (l.drop i)=some ds/\PyFlat.told (PyFlat.played WqaraqNeutral.step WqaraqNeutral.start cs)=out++PyFlat.told (PyFlat.played WqaraqNeutral.step b ds)/\ds.all WqaraqNeutral.asked1=true/\WqaraqNeutral.rowsLong ds<=2000/\out.length+6001 * ds.length<=360060,
    ⟨_,none,0,l.length,WqaraqNeutral.start,_,[],cs,rfl,rfl,⟨s3 _ _ R2.ins,s3.seq R2.seq,R2.ne⟩,by rw[w9];exact B2.same (UC fg),au,hcs,rfl,hall,hrows,by show 0+6001 * cs.length<=360060;omega⟩,?_⟩
   rintro mm σ H4 ⟨v4,i,f,b,ws,out,ds,rfl,rfl,R4,B4,g4,hds,hout,hda,hdr,hdl⟩
   refine oO (jy ⟨_,rfl,r,dr,_,rfl,R4.ins,qE (by decide) (by decide),r,dr,p,l,i,rfl,R4,fun H5 s5=>⟨_,rfl,aS (fun c=>?_) (fun c=>?_)⟩⟩)
   ·rw[fu]at c
    have c:=Nat.not_le.mp (a_ c)
    have ne:l.drop i≠[]:=fun e=>by
     have:=bO List.length e
     rw[List.length_drop]at this
     have:l.length - i=0:=this
     omega
    obtain⟨f',cc,t,ds',hcall,hds',rfl⟩:=Ut hds ne
    have R5:eU T H5 r dr p l i:=⟨s5 _ _ R4.ins,s5.seq R4.seq,R4.ne⟩
    have B5:=B4.same (UB (g:=g) s5)
    have g5:H5 g=some (.lst (iv out)):=s5 _ _ g4
    refine⟨fun σ' H'=>∃m'',m''<l.length - i/\∃(v4:Option V) (i f:Nat) (b:Wqaraq.Book) (ws:List V) (out:List Int) (ds:List (List (List Int))),m''=l.length - i/\σ'=[some (.ref p),some (.ref r),some (.ref bk),some (.ref g),v4]/\eU T H' r dr p l i/\bf T (hide g H') bk b db L ws/\Li H' g out/\PyFlat.calls PyWqaraq.shape f (l.drop i)=some ds/\PyFlat.told (PyFlat.played WqaraqNeutral.step WqaraqNeutral.start cs)=out++PyFlat.told (PyFlat.played WqaraqNeutral.step b ds)/\ds.all WqaraqNeutral.asked1=true/\WqaraqNeutral.rowsLong ds<=2000/\out.length+6001 * ds.length<=360060,fun σ' H' h=>h,?_⟩
    refine aQ (bz ⟨g,.lst (iv out),g5,trivial,fun od=>?_⟩)
    have bu6:bq g H5 (upd H5 g (.cw od (.lst (iv out)))):=fun a o e z=>(ax z).trans e
    have R6:eU T (upd H5 g (.cw od (.lst (iv out)))) r dr p l i:=⟨bu6 _ _ R5.ins nrg,mY bu6 R5.seq npg,R5.ne⟩
    have B6:bf T (upd H5 g (.cw od (.lst (iv out)))) bk b db L ws:=B5.same Up
    refine bN ⟨_,rfl,_,rfl,r,dr,_,rfl,R6.ins,qE (by decide) (by decide),r,dr,p,l,i,cc,t,rfl,R6,hcall,fun H7 ca k ns rws j b7 R7 dj ij ecc C7=>?_⟩
    subst ecc
    have B7:=B6.sm (R6.sm b7)
    have g7:H7 g=some (.cw od (.lst (iv out))):=b7 _ _ au (Ne.symm nrg)
    rw[List.all_cons,br]at hda
    rw[Uv]at hdr
    have hrl:∀x,x∈rws->x.2.length<=2000:=fun x hx=>by
     have e:rowsOf ((k::ns)::rws.map (·.2))=((rws.map (·.2)).map List.length).sum:=rfl
     have:=Uw (l:=(rws.map (·.2)).map List.length) (x:=x.2.length) (bW.mpr ⟨x.2,bW.mpr ⟨x,hx,rfl⟩,rfl⟩)
     omega
    refine⟨bk,ca,db,L,b,ws,k,ns,rws,rfl,B7,C7,hda.1,hrl,fun H8 a ws' b8 B8 fa la=>?_⟩
    have ngL:g≠L:=fun e=>by
     have:=B7.lst
     rw[<-e,g7]at this;cases this
    have nrL:r≠L:=fun e=>by
     have:=B7.lst
     rw[<-e,R7.ins]at this;cases this
    have g8:H8 g=some (.cw od (.lst (iv out))):=b8 _ _ g7 ngL
    refine⟨g8,bY ?_⟩
    dsimp only
    have nag:a≠g:=fun e=>by rw[e,g7]at fa;cases fa
    have npg7:=npg
    have bu9:bq g H8 (upd H8 g (.lst (iv out))):=fun a o e z=>(ax z).trans e
    have R8:eU T H8 r dr p l j:=⟨b8 _ _ R7.ins nrL,mY b8 R7.seq npL,R7.ne⟩
    have R9:eU T (upd H8 g (.lst (iv out))) r dr p l j:=⟨bu9 _ _ R8.ins nrg,mY bu9 R8.seq npg,R7.ne⟩
    have B9:bf T (hide g H8) bk (WqaraqNeutral.step b ((k::ns)::rws.map (·.2))).1 db L ws':=B8.sm (Uq g8)
    have a9:upd H8 g (.lst (iv out)) a=some (.lst (iv (WqaraqNeutral.step b ((k::ns)::rws.map (·.2))).2)):=bu9 _ _ la nag
    have sl:=UA B7.good ((k::ns)::rws.map (·.2))
    rw[bP]at hdl
    have hstep:PyFlat.played WqaraqNeutral.step b (((k::ns)::rws.map (·.2))::ds')=(WqaraqNeutral.step b ((k::ns)::rws.map (·.2))).2::PyFlat.played WqaraqNeutral.step (WqaraqNeutral.step b ((k::ns)::rws.map (·.2))).1 ds':=rfl
    rw[hstep,UH]at hout
    generalize WqaraqNeutral.step b ((k::ns)::rws.map (·.2))=st at *
    refine aQ ⟨_,rfl,.inl ⟨rfl,_,ai.of au⟩,_,rfl,a,_,rfl,.inl (ai.of a9),g,_,_,rfl,rfl,au,(by rw[sizeLine_eq,cQ];omega),?_⟩
    have bu10:bq g H8 (upd (upd H8 g (.lst (iv out))) g (.lst (iv out++[V.int ((iv st.2).length:Nat)]))):=fun a o e z=>(ax z).trans (bu9 _ _ e z)
    refine⟨_,rfl,.inl ⟨rfl,_,ai.of au⟩,_,rfl,g,a,_,_,rfl,rfl,au,bu10 _ _ la nag,(by rw[sizeLine_eq,bF,cQ,cQ];show out.length+1+st.2.length<=16777216;omega),?_⟩
    refine⟨l.length - j,by omega,_,j,f',st.1,ws',out++((st.2.length:Int)::st.2),ds',rfl,rfl,?_,?_,?_,?_,?_,hda.2,by omega,?_⟩
    ·have bu11:bq g H8 (upd (upd (upd H8 g (.lst (iv out))) g (.lst (iv out++[V.int ((iv st.2).length:Nat)]))) g (.lst ((iv out++[V.int ((iv st.2).length:Nat)])++iv st.2))):=fun a o e z=>(ax z).trans (bu10 _ _ e z)
     exact⟨bu11 _ _ R8.ins nrg,mY bu11 R8.seq npg,R8.ne⟩
    ·rw[w9,w9,w9];exact B9
    ·show upd _ g _ g=_
     rw[au,cQ]
     simp[iv]
    ·rw[dj];exact hds'
    ·rw[hout,dG]
    ·rw[bF,bP];omega
   ·rw[i4]at c
    have c:=a0 c
    rw[List.drop_of_length_le c]at hds
    have e:=Uu hds
    subst e
    have e2:PyFlat.told (PyFlat.played WqaraqNeutral.step WqaraqNeutral.start cs)=out:=by
     rw[hout]
     show out++[]=out
     rw[ft]
    refine fin _ _ ⟨_,rfl,?_⟩
    rw[e2]
    exact s5 _ _ g4
def j_(l:List (Int×Addr))(k:Int):Option V:=(l.find? fun p=>decide (p.1=k)).map fun p=>V.ref p.2
theorem JC(p:Int×Addr)(l:List (Int×Addr))(k:Int):j_ (p::l) k=if p.1=k then some (.ref p.2) else j_ l k:=by
 unfold j_
 rw[ui]
 by_cases c:p.1=k
 ·rw[c7 c,af c];rfl
 ·rw[cu c,ae c]
inductive En:List DictEntry->List (Int×Addr)->Prop
 |nil:En [] []
 |cons {h k:Int}{t:Tok}{f:Addr}{es:List DictEntry}{l:List (Int×Addr)} (hh:decide (h=hashInt k)=true) (r:En es l):En (⟨h,.int k t,.ref f⟩::es) ((k,f)::l)
theorem JD(k:Int)(t:Tok):Value.isInt k (.int k t)=true:=by simp[Value.isInt]
def kvsOf(l:List (Int×Addr)):List (Key×V):=l.map fun p=>(Sum.inl p.1,V.ref p.2)
def qG(l:List (Int×Addr)):List (Key×Value):=l.map fun p=>(Sum.inl p.1,Value.ref p.2)
theorem UJ(l:List (Int×Addr))(k:Int):lE (kvsOf l) (Sum.inl k:Key)=j_ l k:=by
 induction l with
 |nil=>rfl
 |cons p l ih=>
  rw[JC,<-ih]
  unfold lE kvsOf
  rw[dQ,ui]
  by_cases c:p.1=k
  ·rw[af c,show decide (((Sum.inl p.1:Key),V.ref p.2).1=Sum.inl k)=true from c7 (by rw[c])];rfl
  ·rw[ae c,show decide (((Sum.inl p.1:Key),V.ref p.2).1=Sum.inl k)=false from cu (fun e=>c (by injection e))]
theorem UK(l:List (Int×Addr)):KV (kvsOf l) (qG l):=by
 induction l with
 |nil=>exact .nil
 |cons p l ih=>exact .cons ⟨rfl,rfl⟩ ih
theorem En.pairs{P:Program}{w:World}{es:List DictEntry}{l:List (Int×Addr)}(h:En es l):Pairs (k8 P w) es (qG l):=by
 induction h with
 |nil=>exact .nil
 |@cons h k t f es l hh r ih=>exact .cons (JD k t) rfl ih
theorem En.keys{P:Program}{w:World}{es:List DictEntry}{l:List (Int×Addr)}(h:En es l):∀e,e∈es->∃k,(k8 P w).is k e.key=true/\e.hash=(k8 P w).hash k:=by
 induction h with
 |nil=>intro e he;cases he
 |@cons h k t f es l hh r ih=>
  intro e he
  rcases cj.mp he with rfl|he
  ·exact⟨Sum.inl k,JD k t,a0 hh⟩
  ·exact ih e he
theorem En.nodup{l:List (Int×Addr)}(h:(l.map (·.1)).Nodup):((qG l).map (·.1)).Nodup:=by
 have e:(qG l).map (·.1)=(l.map (·.1)).map (Sum.inl:Int->Key):=by
  unfold qG;rw[dq,dq];rfl
 rw[e]
 exact List.Pairwise.map _ (fun a b n e=>n (by injection e)) h
theorem tab_of{h:Heap}{x:Str}{d:Addr}{es:List DictEntry}{ep:Nat}{l:List (Int×Addr)}(X:K.In h)(G:h.Ns mainGlobals mg)(a:PySem.W.nsIn K mainGlobals x=some (some (.ref d)))(lk:K.lookup d=some ⟨.type "dict",none,.dict es.toArray ep,#[]⟩)(en:En es l)(nd:(l.map (·.1)).Nodup):sT K mg x (j_ l):=
 ⟨d,o_ X G a,fun P w h' X'=>⟨kvsOf l,qG l,UJ l,UK l,_,es.toArray,ep,X' _ _ lk,⟨rfl,rfl,rfl⟩,rfl,fun e he=>en.keys e (by simpa using he),by simpa using en.pairs,En.nodup nd⟩⟩
inductive Sh(K:PySem.W.Frag):List DictEntry->List (Int×Nat×Nat)->List (Int×Addr)->Prop
 |nil:Sh K [] [] []
 |cons {h k:Int}{t t1 t2:Tok}{f:Addr}{od:Option Addr}{n:Nat}{sl:Array (Option Value)}{a b:Nat}{es:List DictEntry}{m:List (Int×Nat×Nat)}{l:List (Int×Addr)} (lk:K.lookup f=some ⟨.type "tuple",od,.seq [.int (a:Nat) t1,.int (b:Nat) t2].toArray n,sl⟩) (hh:decide (h=hashInt k)=true) (r:Sh K es m l):Sh K (⟨h,.int k t,.ref f⟩::es) ((k,a,b)::m) ((k,f)::l)
theorem Sh.en{es:List DictEntry}{m:List (Int×Nat×Nat)}{l:List (Int×Addr)}(h:Sh K es m l):En es l:=by
 induction h with
 |nil=>exact .nil
 |cons lk hh r ih=>exact .cons hh ih
theorem Sh.ks{es:List DictEntry}{m:List (Int×Nat×Nat)}{l:List (Int×Addr)}(h:Sh K es m l):l.map (·.1)=m.map (·.1):=by
 induction h with
 |nil=>rfl
 |cons lk hh r ih=>rw[dQ,dQ,ih]
theorem Sh.sel{es:List DictEntry}{m:List (Int×Nat×Nat)}{l:List (Int×Addr)}(h:Sh K es m l)(nd:(m.map (·.1)).Nodup){k:Int}{a b:Nat}(hm:(k,a,b)∈m):∃t,j_ l k=some (.ref t)/\∀H,fv K H t [.int (a:Nat),.int (b:Nat)]:=by
 induction h with
 |nil=>cases hm
 |@cons h k1 t t1 t2 f od n sl a1 b1 es m l lk hh r ih=>
  rw[JC]
  rw[dQ,kW]at nd
  rcases cj.mp hm with e|hm
  ·injection e with e1 e2;injection e2 with e2 e3
   subst e1 e2 e3
   rw[af rfl]
   exact⟨f,rfl,fun H=>.inr ⟨_,_,n,lk,rfl,rfl,by show 2<=sizeLine;rw[sizeLine_eq];decide,.cons ⟨_,rfl⟩ (.cons ⟨_,rfl⟩ .nil)⟩⟩
  ·have:¬k1=k:=fun e=>nd.1 (by subst e;exact bW.mpr ⟨_,hm,rfl⟩)
   rw[show (if ((k1,f):Int×Addr).1=k then some (V.ref ((k1,f):Int×Addr).2) else j_ l k)=j_ l k from ae this]
   exact ih nd.2 hm
inductive Hs(K:PySem.W.Frag):List (Str×Stmt)->List Addr->Prop
 |nil:Hs K [] []
 |cons {x:Str}{st:Stmt}{f:Addr}{oc:Value}{od an:Option Addr}{sl:Array (Option Value)}{kV dc pm cd ct:Value}{l:List (Str×Stmt)}{fs:List Addr} (a:PySem.W.nsIn K mainGlobals x=some (some (.ref f))) (b:K.lookup f=some ⟨oc,od,.func (PySem.W.fnOf x x (lI st) (kn st) (aD st) .none kV dc pm an cd ct),sl⟩) (c:PySem.W.codeIn K cd x=true) (k:PySem.W.keepIn K (.ref f)=true) (r:Hs K l fs):Hs K ((x,st)::l) (f::fs)
theorem Hs.get{l:List (Str×Stmt)}{fs:List Addr}(h:Hs K l fs):∀(i:Nat) (x:Str) (st:Stmt),l[i]?=some (x,st)->∃fd,PySem.W.nsIn K mainGlobals x=some (some (.ref (fs.getD i 0)))/\ko K x x st (fs.getD i 0) fd:=by
 induction h with
 |nil=>intro i x st e;cases e
 |cons a b c k r ih=>
  intro i x st e
  cases i with
  |zero=>cases e;exact⟨_,a,D7 b c k⟩
  |succ i=>exact ih i x st e
noncomputable def Hs.df{h:Heap}{l:List (Str×Stmt)}{fs:List Addr}{x:Str}{st:Stmt}{ps:List Str}(A:Hs K l fs)(X:K.In h)(G:h.Ns mainGlobals mg)(i:Nat)(e:l[i]?=some (x,st))
  (b:∀(kV doc pm:Value) (an:Option Addr) (cdv ct:Value) (us:List Value),us.length=ps.length->bindArgs (PySem.W.fnOf x x (lI st) (kn st) (aD st) .none kV doc pm an cdv ct) ⟨us,[]⟩=pure (ps.zip us):=by intro _ _ _ _ _ _ us hl;first|(match us,hl with|[_],_=>rfl)|(match us,hl with|[_,_],_=>rfl)|(match us,hl with|[_,_,_],_=>rfl)|(match us,hl with|[_,_,_,_],_=>rfl)):Df K mg x st ps:=
 ⟨fs.getD i 0,Classical.choose (A.get i x st e),o_ X G (my (A.get i x st e)).1,(my (A.get i x st e)).2,(my (A.get i x st e)).2.binds b⟩
inductive Ms(K:PySem.W.Frag)(C:Addr):List (Str×Str×Stmt)->List Addr->Prop
 |nil:Ms K C [] []
 |cons {x q:Str}{st:Stmt}{f:Addr}{oc:Value}{od an:Option Addr}{sl:Array (Option Value)}{kV dc pm cd ct:Value}{l:List (Str×Str×Stmt)}{fs:List Addr} (a:PySem.W.findIn K (.ref C) x=some (some (.ref f))) (i:PySem.W.isFn K (.ref f)=true) (b:K.lookup f=some ⟨oc,od,.func (PySem.W.fnOf x q (lI st) (kn st) (aD st) .none kV dc pm an cd ct),sl⟩) (c:PySem.W.codeIn K cd q=true) (k:PySem.W.keepIn K (.ref f)=true) (r:Ms K C l fs):Ms K C ((x,q,st)::l) (f::fs)
theorem Ms.get{C:Addr}{l:List (Str×Str×Stmt)}{fs:List Addr}(h:Ms K C l fs):∀(i:Nat) (x q:Str) (st:Stmt),l[i]?=some (x,q,st)->∃fd,rE K C x (fs.getD i 0)/\ko K x q st (fs.getD i 0) fd:=by
 induction h with
 |nil=>intro i x q st e;cases e
 |cons a n b c k r ih=>
  intro i x q st e
  cases i with
  |zero=>cases e;exact⟨_,⟨a,n,k⟩,D7 b c k⟩
  |succ i=>exact ih i x q st e
structure CK(K:PySem.W.Frag)(x:Str)(C:Addr):Prop where
 a:PySem.W.nsIn K mainGlobals x=some (some (.ref C))
 pg:PySem.W.plainGet K C Str.empty=true
 hd:PySem.W.hasDictIn K C=true
 po:PySem.W.plainOver K C=true
 sa:PySem.W.findIn K (.ref C) "__setattr__"=some (some (.builtin "object.__setattr__"))
 UL:PySem.W.makesIn K C=true
 kc:PySem.W.keepIn K (.ref C)=true
theorem CK.cls{x:Str}{C:Addr}(h:CK K x C):fW K C:=⟨h.pg,h.hd,h.po,h.sa⟩
noncomputable def Ms.dm{C:Addr}{l:List (Str×Str×Stmt)}{fs:List Addr}{x q:Str}{st:Stmt}{ps:List Str}(A:Ms K C l fs)(i:Nat)(e:l[i]?=some (x,q,st))
  (b:∀(kV doc pm:Value) (an:Option Addr) (cdv ct:Value) (us:List Value),us.length=ps.length->bindArgs (PySem.W.fnOf x q (lI st) (kn st) (aD st) .none kV doc pm an cdv ct) ⟨us,[]⟩=pure (ps.zip us):=by intro _ _ _ _ _ _ us hl;first|(match us,hl with|[_],_=>rfl)|(match us,hl with|[_,_],_=>rfl)|(match us,hl with|[_,_,_],_=>rfl)|(match us,hl with|[_,_,_,_],_=>rfl)):Dm K C x q st ps:=
 ⟨fs.getD i 0,Classical.choose (A.get i x q st e),(my (A.get i x q st e)).2,(my (A.get i x q st e)).2.binds b,(my (A.get i x q st e)).1⟩
noncomputable def Ms.di{C:Addr}{l:List (Str×Str×Stmt)}{fs:List Addr}{z q:Str}{st:Stmt}{ps:List Str}(A:Ms K C l fs)(c:CK K z C)(i:Nat)(e:l[i]?=some (("__init__":Str),q,st))
  (b:∀(kV doc pm:Value) (an:Option Addr) (cdv ct:Value) (us:List Value),us.length=ps.length->bindArgs (PySem.W.fnOf "__init__" q (lI st) (kn st) (aD st) .none kV doc pm an cdv ct) ⟨us,[]⟩=pure (ps.zip us):=by intro _ _ _ _ _ _ us hl;first|(match us,hl with|[_],_=>rfl)|(match us,hl with|[_,_],_=>rfl)|(match us,hl with|[_,_,_],_=>rfl)|(match us,hl with|[_,_,_,_],_=>rfl)):Di K C q st ps:=
 ⟨fs.getD i 0,Classical.choose (A.get i _ q st e),(my (A.get i _ q st e)).2,(my (A.get i _ q st e)).2.binds b,⟨c.UL,(my (A.get i _ q st e)).1.at_,(my (A.get i _ q st e)).1.fn,c.kc⟩⟩
inductive Zs(K:PySem.W.Frag):List Str->Prop
 |nil:Zs K []
 |cons {x:Str}{l:List Str} (a:PySem.W.nsIn K mainGlobals x=some none) (r:Zs K l):Zs K (x::l)
theorem Zs.get{h:Heap}{l:List Str}(A:Zs K l)(X:K.In h)(G:h.Ns mainGlobals mg):∀(i:Nat) (x:Str),l[i]?=some x->mg x=none:=by
 induction A with
 |nil=>intro i x e;cases e
 |cons a r ih=>
  intro i x e
  cases i with
  |zero=>cases e;exact PySem.W.mg_none_of X G a
  |succ i=>exact ih i x e
inductive Cs(K:PySem.W.Frag):List (Str×Int)->Prop
 |nil:Cs K []
 |cons {x:Str}{v:Int}{t:Tok}{l:List (Str×Int)} (a:PySem.W.nsIn K mainGlobals x=some (some (.int v t))) (r:Cs K l):Cs K ((x,v)::l)
theorem Cs.get{h:Heap}{l:List (Str×Int)}(A:Cs K l)(X:K.In h)(G:h.Ns mainGlobals mg):∀(i:Nat) (x:Str) (v:Int),l[i]?=some (x,v)->∃t,mg x=some (.int v t):=by
 induction A with
 |nil=>intro i x v e;cases e
 |cons a r ih=>
  intro i x v e
  cases i with
  |zero=>cases e;exact⟨_,o_ X G a⟩
  |succ i=>exact ih i x v e
inductive As(K:PySem.W.Frag)(C:Addr):List Str->Prop
 |nil:As K C []
 |cons {x:Str}{l:List Str} (a:PySem.W.findIn K (.ref C) x=some none) (r:As K C l):As K C (x::l)
theorem As.get{C:Addr}{l:List Str}(A:As K C l):∀(i:Nat) (x:Str),l[i]?=some x->eV K C x:=by
 induction A with
 |nil=>intro i x e;cases e
 |cons a r ih=>
  intro i x e
  cases i with
  |zero=>cases e;exact a
  |succ i=>exact ih i x e
abbrev JE:List Str:=["abs","all","enumerate","len","list","max","min","range","reversed","sorted","sum","zip"]
abbrev JF:List (Str×Int):=[("BOOK_PLACES",16),("DONE",0),("EMPTY",-4),("FEWEST_STRANDS",2),("FIRST_BRAID_CALL",13),("GREATEST_EXPONENT",8),("LONGEST_ROW",100),("LONGEST_ROW_OF_STATES",10),("LONGEST_ROW_TOLD",5000),("MARGIN",16),("MOST_FACTORS",60),("MOST_STRANDS_OF_STATES",6),("MOST_TWISTS",100),("NOT_RIGHT",-1),("OTHER_STRANDS",-2),("PLACES",16),("TOO_LARGE",-3)]
abbrev nm(x:Str)(st:Stmt):Str×Stmt:=(x,st)
abbrev JG:List (Str×Stmt):=[nm "is_strand_count" zX,nm "is_right" zY,nm "first_then" zZ,nm "taken_back" z4,nm "half_twist" z5,nm "missing_to_half_twist" z6,nm "seen_from_behind" z7,nm "crossing_pairs_count" z8,nm "crossing_neighbours_sum" z9,nm "begins" z_,nm "number_of" Aa,nm "numbered" Ab,nm "exchange" Ac,nm "row_of" Ad,nm "followed" Ae,nm "turned_by" Af,nm "is_without_crossings" Ag,nm "hand_over" Ah,nm "take_in" Ai,nm "without_beginning" Aj,nm "is_too_large" Ak,nm "product_of" Al,nm "inverse_of" Am,nm "power_of" An,nm "braid_of_factor" Ao,nm "braid_of_crossing" Ap,nm "braid_of_row" Aq,nm "cycled_by_first" Au,nm "cycled_by_last" Av,nm "crossed_in_either" Aw,nm "close" Ax,nm "add_crossings" Ay,nm "place_reached" Az,nm "join_of" AA,nm "meet_of" AB,nm "braid_begins" AD,nm "factors_above" AE,nm "greatest_beginning" AF,nm "picture_without_crossings" AG,nm "connect" AH,nm "straight" AI,nm "bent" AJ,nm "pictures_of" AK,nm "loops_when_joined" AL,nm "powers_of_loop" AM,nm "polynomial_of" AN,nm "rank" AO,nm "compared" AQ,nm "crossings_of_half_twist" AR,nm "crossings_of_factors" AS,nm "row_length" AU,nm "row_of_form" AV,nm "above_less_below" AW,nm "places_reached" AX,nm "loops_of" AY,nm "are_crossings" AZ,nm "refusal_of_row" A3,nm "refusal_of_two" A4,nm "answer_set" A5,nm "answer_times" A6,nm "answer_inverse" A7,nm "answer_power" A8,nm "answer_greatest" A9,nm "answer_cycle" A_,nm "answer_order" Ba,nm "answer_starts" Bb,nm "answer_form" Bc,nm "answer_row" Be,nm "answer_told" Bf,nm "answer_states" Bg,nm "answer_braid_call" Bh,nm "all_right" Bj,nm "right_for_told" Bk,nm "answer_then" Bl,nm "answer_back" Bm,nm "answer_rest" Bn,nm "answer_turned" Bo,nm "answer_facts" Bp,nm "answer_begins" Bq,nm "answer_meet" Br,nm "answer_join" Bs,nm "answer_number" Bt,nm "answer_numbered" Bu,nm "answer_word" Bv,nm "answer_follow" Bw,nm "answer_permutation_call" Bx,nm "answer_to" By,nm "answers" Bz]
abbrev w_:List (Int×Nat×Nat):=[(1,0,2),(2,0,1),(3,1,1),(4,1,1),(5,0,1),(6,0,2),(7,0,2),(8,0,2),(9,1,1),(10,2,0),(11,0,1),(12,0,1),(13,2,1),(14,3,0),(15,2,0),(16,3,0),(17,3,0),(18,3,0),(19,2,0),(20,2,0),(21,1,0),(22,1,0),(23,1,0),(24,2,1)]
abbrev JH:List Str:=["n","twists","factors"]
abbrev JI:List (Str×Str×Stmt):=[("__init__","Braid.__init__",BA)]
abbrev JJ:List Str:=["partners","loops","exponent"]
abbrev JK:List (Str×Str×Stmt):=[("__init__","Picture.__init__",BC)]
abbrev JL:List Str:=["braids"]
abbrev JM:List (Str×Str×Stmt):=[("__init__","Book.__init__",BD),("has_place","Book.has_place",BE),("braid_at","Book.braid_at",BF),("put","Book.put",BG)]
abbrev JN:List Str:=["number","numbers","rows"]
abbrev JO:List (Str×Str×Stmt):=[("__init__","Call.__init__",BH)]
abbrev JP:List Str:=["calls","at"]
abbrev JQ:List (Str×Str×Stmt):=[("__init__","Reader.__init__",BI),("is_done","Reader.is_done",BJ),("take_number","Reader.take_number",BL),("take_numbers","Reader.take_numbers",BM),("take_call","Reader.take_call",BN)]
abbrev pA(fs:List Addr):List (Int×Addr):=[(1,fs.getD 73 0),(2,fs.getD 74 0),(3,fs.getD 75 0),(4,fs.getD 76 0),(5,fs.getD 77 0),(6,fs.getD 78 0),(7,fs.getD 79 0),(8,fs.getD 80 0),(9,fs.getD 81 0),(10,fs.getD 82 0),(11,fs.getD 83 0),(12,fs.getD 84 0)]
abbrev pB(fs:List Addr):List (Int×Addr):=[(13,fs.getD 58 0),(14,fs.getD 59 0),(15,fs.getD 60 0),(16,fs.getD 61 0),(17,fs.getD 62 0),(18,fs.getD 63 0),(19,fs.getD 64 0),(20,fs.getD 65 0),(21,fs.getD 66 0),(22,fs.getD 67 0),(23,fs.getD 68 0),(24,fs.getD 69 0)]
def xc(k:Int):List (Int×Nat×Nat)->Option (Nat×Nat)
 |[]=>none
 |(x,y)::r=>if k=x then some y else xc k r
theorem JR{k:Int}{y:Nat×Nat}:∀{m:List (Int×Nat×Nat)},xc k m=some y->(k,y)∈m
 |[],h=>by cases h
 |(x,z)::r,h=>by
  unfold xc at h
  by_cases e:k=x
  ·rw[af e]at h;cases h;subst e;exact bE ..
  ·rw[ae e]at h;exact bH _ (JR h)
theorem UM{k:Int}{a b:Nat}(h:PyWqaraq.shape k=some (a,b)):(k,a,b)∈w_:=JR (show xc k w_=some (a,b) from h)
noncomputable def UN{h:Heap}{fs f0 f1 f2 f3 f4:List Addr}{C0 C1 C2 C3 C4 dS dA dB:Addr}{eS eA eB:List DictEntry}{pS pA1 pB1:Nat}{lS2:List (Int×Addr)}(X:K.In h)(G:h.Ns mainGlobals mg)(A:Hs K JG fs)(Z:Zs K JE)(N:Cs K JF)(c0:CK K "Braid" C0)(n0:As K C0 JH)(m0:Ms K C0 JI f0)(c1:CK K "Picture" C1)(n1:As K C1 JJ)(m1:Ms K C1 JK f1)(c2:CK K "Book" C2)(n2:As K C2 JL)(m2:Ms K C2 JM f2)(c3:CK K "Call" C3)(n3:As K C3 JN)(m3:Ms K C3 JO f3)(c4:CK K "Reader" C4)(n4:As K C4 JP)(m4:Ms K C4 JQ f4)(tS:PySem.W.nsIn K mainGlobals "SHAPES"=some (some (.ref dS)))(lS:K.lookup dS=some ⟨.type "dict",none,.dict eS.toArray pS,#[]⟩)(S:Sh K eS w_ lS2)(tA:PySem.W.nsIn K mainGlobals "ANSWERS"=some (some (.ref dA)))(lA:K.lookup dA=some ⟨.type "dict",none,.dict eA.toArray pA1,#[]⟩)(EA:En eA (pA fs))(tB:PySem.W.nsIn K mainGlobals "BRAID_ANSWERS"=some (some (.ref dB)))(lB:K.lookup dB=some ⟨.type "dict",none,.dict eB.toArray pB1,#[]⟩)(EB:En eB (pB fs)):Txt K mg where
 kJ:=Z.get X G 0 _ rfl
 BO:=Z.get X G 1 _ rfl
 vC:=Z.get X G 2 _ rfl
 cW:=Z.get X G 3 _ rfl
 gB:=Z.get X G 4 _ rfl
 GN:=Z.get X G 5 _ rfl
 BP:=Z.get X G 6 _ rfl
 cH:=Z.get X G 7 _ rfl
 vD:=Z.get X G 8 _ rfl
 GO:=Z.get X G 9 _ rfl
 GP:=Z.get X G 10 _ rfl
 GQ:=Z.get X G 11 _ rfl
 BQ:=N.get X G 0 _ _ rfl
 dw:=N.get X G 1 _ _ rfl
 lW:=N.get X G 2 _ _ rfl
 GR:=N.get X G 3 _ _ rfl
 GS:=N.get X G 4 _ _ rfl
 GU:=N.get X G 5 _ _ rfl
 BR:=N.get X G 6 _ _ rfl
 GV:=N.get X G 7 _ _ rfl
 GW:=N.get X G 8 _ _ rfl
 GX:=N.get X G 9 _ _ rfl
 GY:=N.get X G 10 _ _ rfl
 GZ:=N.get X G 11 _ _ rfl
 G0:=N.get X G 12 _ _ rfl
 gC:=N.get X G 13 _ _ rfl
 G1:=N.get X G 14 _ _ rfl
 de:=N.get X G 15 _ _ rfl
 qd:=N.get X G 16 _ _ rfl
 BS:=j_ lS2
 G2:=tab_of X G tS lS S.en (by rw[S.ks];decide)
 shapes:=fun k a b e=>S.sel (by decide) (UM e)
 gQ:=j_ (pA fs)
 G3:=tab_of X G tA lA EA (by show ([1,2,3,4,5,6,7,8,9,10,11,12]:List Int).Nodup;decide)
 gR:=j_ (pB fs)
 G4:=tab_of X G tB lB EB (by show ([13,14,15,16,17,18,19,20,21,22,23,24]:List Int).Nodup;decide)
 iU:=C0
 aZ:=c0.cls
 lX:=o_ X G c0.a
 dy:=n0.get 0 _ rfl
 ez:=n0.get 1 _ rfl
 eO:=n0.get 2 _ rfl
 j2:=m0.di c0 0 rfl
 jw:=C1
 gh:=c1.cls
 sU:=o_ X G c1.a
 n8:=n1.get 0 _ rfl
 qe:=n1.get 1 _ rfl
 qf:=n1.get 2 _ rfl
 oM:=m1.di c1 0 rfl
 e7:=C2
 dh:=c2.cls
 G5:=o_ X G c2.a
 vE:=n2.get 0 _ rfl
 tJ:=m2.di c2 0 rfl
 tK:=m2.dm 1 rfl
 gj:=m2.dm 2 rfl
 kP:=m2.dm 3 rfl
 kK:=C3
 kL:=c3.cls
 G6:=o_ X G c3.a
 sV:=n3.get 0 _ rfl
 BU:=n3.get 1 _ rfl
 vF:=n3.get 2 _ rfl
 wj:=m3.di c3 0 rfl
 e8:=C4
 e9:=c4.cls
 G7:=o_ X G c4.a
 sW:=n4.get 0 _ rfl
 lY:=n4.get 1 _ rfl
 wk:=m4.di c4 0 rfl
 wm:=m4.dm 1 rfl
 tM:=m4.dm 2 rfl
 tN:=m4.dm 3 rfl
 wo:=m4.dm 4 rfl
 qg:=A.df X G 0 rfl
 sX:=A.df X G 1 rfl
 kM:=A.df X G 2 rfl
 kN:=A.df X G 3 rfl
 lZ:=A.df X G 4 rfl
 sY:=A.df X G 5 rfl
 qh:=A.df X G 6 rfl
 sZ:=A.df X G 7 rfl
 s_:=A.df X G 8 rfl
 begins:=A.df X G 9 rfl
 vG:=A.df X G 10 rfl
 numbered:=A.df X G 11 rfl
 qi:=A.df X G 12 rfl
 qj:=A.df X G 13 rfl
 followed:=A.df X G 14 rfl
 qk:=A.df X G 15 rfl
 n9:=A.df X G 16 rfl
 tf:=A.df X G 17 rfl
 kH:=A.df X G 18 rfl
 tj:=A.df X G 19 rfl
 vH:=A.df X G 20 rfl
 l6:=A.df X G 21 rfl
 n_:=A.df X G 22 rfl
 vI:=A.df X G 23 rfl
 ql:=A.df X G 24 rfl
 vJ:=A.df X G 25 rfl
 tm:=A.df X G 26 rfl
 vK:=A.df X G 27 rfl
 vL:=A.df X G 28 rfl
 vM:=A.df X G 29 rfl
 close:=A.df X G 30 rfl
 vN:=A.df X G 31 rfl
 vO:=A.df X G 32 rfl
 tq:=A.df X G 33 rfl
 tu:=A.df X G 34 rfl
 vP:=A.df X G 35 rfl
 tz:=A.df X G 36 rfl
 vQ:=A.df X G 37 rfl
 vR:=A.df X G 38 rfl
 connect:=A.df X G 39 rfl
 vS:=A.df X G 40 rfl
 vT:=A.df X G 41 rfl
 vU:=A.df X G 42 rfl
 vV:=A.df X G 43 rfl
 vW:=A.df X G 44 rfl
 vX:=A.df X G 45 rfl
 rank:=A.df X G 46 rfl
 vY:=A.df X G 47 rfl
 tE:=A.df X G 48 rfl
 tH:=A.df X G 49 rfl
 lT:=A.df X G 50 rfl
 vZ:=A.df X G 51 rfl
 v_:=A.df X G 52 rfl
 wa:=A.df X G 53 rfl
 wb:=A.df X G 54 rfl
 wc:=A.df X G 55 rfl
 tI:=A.df X G 56 rfl
 qm:=A.df X G 57 rfl
 oa:=A.df X G 58 rfl
 og:=A.df X G 59 rfl
 oh:=A.df X G 60 rfl
 oi:=A.df X G 61 rfl
 oj:=A.df X G 62 rfl
 om:=A.df X G 63 rfl
 oo:=A.df X G 64 rfl
 oq:=A.df X G 65 rfl
 ot:=A.df X G 66 rfl
 ou:=A.df X G 67 rfl
 ow:=A.df X G 68 rfl
 ox:=A.df X G 69 rfl
 wd:=A.df X G 70 rfl
 kO:=A.df X G 71 rfl
 qo:=A.df X G 72 rfl
 oy:=A.df X G 73 rfl
 oz:=A.df X G 74 rfl
 oA:=A.df X G 75 rfl
 oB:=A.df X G 76 rfl
 oC:=A.df X G 77 rfl
 oE:=A.df X G 78 rfl
 oF:=A.df X G 79 rfl
 oG:=A.df X G 80 rfl
 oH:=A.df X G 81 rfl
 oI:=A.df X G 82 rfl
 oJ:=A.df X G 83 rfl
 oK:=A.df X G 84 rfl
 we:=A.df X G 85 rfl
 wg:=A.df X G 86 rfl
 answers:=A.df X G 87 rfl
 G8:=rfl
 G9:=rfl
 G_:=rfl
 Ha:=rfl
 Hb:=rfl
 Hc:=rfl
 Hd:=rfl
 He:=rfl
 Hf:=rfl
 Hg:=rfl
 Hh:=rfl
 Hi:=rfl
 Hj:=rfl
 Hk:=rfl
 Hl:=rfl
 Hm:=rfl
 Hn:=rfl
 Ho:=rfl
 Hq:=rfl
 Hr:=rfl
 Ht:=rfl
 Hu:=rfl
 Hv:=rfl
 Hw:=rfl
theorem UO{h:Heap}{fs f0 f1 f2 f3 f4:List Addr}{C0 C1 C2 C3 C4 dS dA dB:Addr}{eS eA eB:List DictEntry}{pS pA1 pB1:Nat}{lS2:List (Int×Addr)}{fa:Addr}(hfa:mg "answers"=some (.ref fa))(X:K.In h)(G:h.Ns mainGlobals mg)(A:Hs K JG fs)(Z:Zs K JE)(N:Cs K JF)(c0:CK K "Braid" C0)(n0:As K C0 JH)(m0:Ms K C0 JI f0)(c1:CK K "Picture" C1)(n1:As K C1 JJ)(m1:Ms K C1 JK f1)(c2:CK K "Book" C2)(n2:As K C2 JL)(m2:Ms K C2 JM f2)(c3:CK K "Call" C3)(n3:As K C3 JN)(m3:Ms K C3 JO f3)(c4:CK K "Reader" C4)(n4:As K C4 JP)(m4:Ms K C4 JQ f4)(tS:PySem.W.nsIn K mainGlobals "SHAPES"=some (some (.ref dS)))(lS:K.lookup dS=some ⟨.type "dict",none,.dict eS.toArray pS,#[]⟩)(S:Sh K eS w_ lS2)(tA:PySem.W.nsIn K mainGlobals "ANSWERS"=some (some (.ref dA)))(lA:K.lookup dA=some ⟨.type "dict",none,.dict eA.toArray pA1,#[]⟩)(EA:En eA (pA fs))(tB:PySem.W.nsIn K mainGlobals "BRAID_ANSWERS"=some (some (.ref dB)))(lB:K.lookup dB=some ⟨.type "dict",none,.dict eB.toArray pB1,#[]⟩)(EB:En eB (pB fs)):∃fd:FuncData,(∀(s:Shared) (us:List Value),us.length=(["calls"]:List Str).length->BindsTo s fd ⟨us,[]⟩ ((["calls"]:List Str).zip us))/\∀base:Heap,K.In base->base.Ns mainGlobals mg->d8 P w K mg base gX 10 fa fd ["calls"] (CL K):=by
 have T:Txt K mg:=UN X G A Z N c0 n0 m0 c1 n1 m1 c2 n2 m2 c3 n3 m3 c4 n4 m4 tS lS S tA lA EA tB lB EB
 have e:=hfa.symm.trans T.answers.m
 cases e
 obtain⟨oc,od,kV,doc,pm,an,cdv,ct,osl,e,lk,hcd⟩:=T.answers.F.ex
 refine⟨T.answers.fd,fun s us hu=>?_,fun base _ _=>UI T⟩
 rw[e]
 match us,hu with
 |[_],_=>exact .of_eq rfl
end
end BK
end
section
open PySem PySem.W PyProof.Rows
set_option maxRecDepth 100000 in
set_option maxHeartbeats 0 in
theorem PySem.Challenge.cw_braidbook_s01_answers_holds : PySem.Challenge.rw_braidbook_s01_answers.Holds := by
 w_on;k_headS;(case hw=>exact⟨[.list [.int 21,.int 0]],by decide+kernel,by decide+kernel⟩)
 k_fillS
 refine L2.Ml (r:=PySem.Challenge.rw_braidbook_s01_answers) (k:=10) (CX:=L2.gX) (ps:=["calls"]) (sp:=BK.CL) (by decide+kernel) rfl rfl ⟨rfl,by decide,by decide⟩ (fun w h Y=>PySem.W.kIn_of Y) ?F ?S (fun _ _ _ _ z=>z)
 case F=>
  intro w mg fa h Y KX G hmg
  refine' BK.UO hmg KX G ?qA ?qZ ?qN ?qc0 ?qn0 ?qm0 ?qc1 ?qn1 ?qm1 ?qc2 ?qn2 ?qm2 ?qc3 ?qn3 ?qm3 ?qc4 ?qn4 ?qm4 ?qtS ?qlS ?qS ?qtA ?qlA ?qEA ?qtB ?qlB ?qEB
  case qA=>repeat (first|exact .nil|(refine' .cons ?_ ?_ ?_ ?_ ?_;rotate_left 11;k_is;k_is;k_is;k_is))
  case qZ=>repeat (first|exact .nil|refine .cons (by k_is) ?_)
  case qN=>repeat (first|exact .nil|refine .cons (by k_is) ?_)
  case qc0=>exact⟨by k_is,by k_is,by k_is,by k_is,by k_is,by k_is,by k_is⟩
  case qn0=>repeat (first|exact .nil|refine .cons (by k_is) ?_)
  case qm0=>repeat (first|exact .nil|(refine' .cons ?_ ?_ ?_ ?_ ?_ ?_;rotate_left 11;k_is;k_is;k_is;k_is;k_is))
  case qc1=>exact⟨by k_is,by k_is,by k_is,by k_is,by k_is,by k_is,by k_is⟩
  case qn1=>repeat (first|exact .nil|refine .cons (by k_is) ?_)
  case qm1=>repeat (first|exact .nil|(refine' .cons ?_ ?_ ?_ ?_ ?_ ?_;rotate_left 11;k_is;k_is;k_is;k_is;k_is))
  case qc2=>exact⟨by k_is,by k_is,by k_is,by k_is,by k_is,by k_is,by k_is⟩
  case qn2=>repeat (first|exact .nil|refine .cons (by k_is) ?_)
  case qm2=>repeat (first|exact .nil|(refine' .cons ?_ ?_ ?_ ?_ ?_ ?_;rotate_left 11;k_is;k_is;k_is;k_is;k_is))
  case qc3=>exact⟨by k_is,by k_is,by k_is,by k_is,by k_is,by k_is,by k_is⟩
  case qn3=>repeat (first|exact .nil|refine .cons (by k_is) ?_)
  case qm3=>repeat (first|exact .nil|(refine' .cons ?_ ?_ ?_ ?_ ?_ ?_;rotate_left 11;k_is;k_is;k_is;k_is;k_is))
  case qc4=>exact⟨by k_is,by k_is,by k_is,by k_is,by k_is,by k_is,by k_is⟩
  case qn4=>repeat (first|exact .nil|refine .cons (by k_is) ?_)
  case qm4=>repeat (first|exact .nil|(refine' .cons ?_ ?_ ?_ ?_ ?_ ?_;rotate_left 11;k_is;k_is;k_is;k_is;k_is))
  case qtS=>k_is
  case qlS=>k_is
  case qS=>repeat (first|exact .nil|(refine' .cons ?_ ?_ ?_;rotate_left 6;k_is;decide+kernel))
  case qtA=>k_is
  case qlA=>k_is
  case qEA=>repeat (first|exact .nil|refine .cons (by decide+kernel) ?_)
  case qtB=>k_is
  case qlB=>k_is
  case qEB=>repeat (first|exact .nil|refine .cons (by decide+kernel) ?_)
 case S=>
  intro K H xs a hO hwi hask hx
  cases hx with
  |cons h1 h2=>
   cases h2
   cases h1 with
   |lst hs ha=>
    have e:=L2.Ea a.1 _ ha
    subst e
    exact⟨_,a.1,rfl,hs,hask,fun H' p hp=>.lst (L2.ai.of hp) (L2.D_ _)⟩
end
